import PyProof.Rows.All
import Wide.All
import OpenK.AllK
import Wide.FinOn
import Lean
import PyProof.EqAt
import PyProof.EqKinds
import PyProof.TupleCall
import PyProof.WalksMore
import PyProof.ListRange
import PyProof.NeKinds
import PyProof.SliceStr2
import PyProof.StrOps2
import PyProof.Rows.SetFrom
import PyProof.MinMaxWalk
import KE.KRevIter
import KE.KDictList
import PyProof.AttrMiss
import PyProof.IsiH_list
import PyProof.IsiH_tuple
import KE.KDictOf
import PyProof.ZipIter
import PyProof.TupleIter
import KE.KxWritten
import OpenK.KOwn
import KE.KTryMore
import PyProof.StrLawsRepr
import PyProof.RulesDel
import PyProof.RulesAs
import PyProof.ExcArgsOwn
import KE.KIsAll
import PySem.Challenge.RW_backissues_k26_book_refuses
set_option Elab.async false
set_option linter.all false
set_option maxHeartbeats 4000000
set_option maxRecDepth 100000
abbrev bA:=@List.length_map
abbrev bB:=@PySem.Heap.get?_push_of_some
abbrev bC:=@List.mem_singleton
abbrev bD:=@List.mem_cons
abbrev bE:=@List.length_append
abbrev bF:=@Nat.le_refl
abbrev bG:=@List.getElem?_eq_getElem
abbrev bH:=@PySem.boot_len
abbrev bI:=@List.size_toArray
abbrev bJ:=@PySem.Heap.get?_push_size
abbrev bK:=@PySem.Heap.lt_size
abbrev bL:=@PyProof.Rows.boot_isinstance
abbrev bM:=@PySem.F.plainAttrs_list
abbrev bN:=@Bool.false_ne_true
abbrev bO:=@List.length_take
abbrev bP:=@PySem.F.slot_list_append
abbrev bQ:=@PySem.F.type_list_append
abbrev bR:=@List.map_append
abbrev bS:=@Int.emod_lt_of_pos
abbrev bT:=@List.length_cons
abbrev bU:=@List.take_length
abbrev bV:=@List.getElem?_map
abbrev bW:=@List.mem_cons_of_mem
abbrev bX:=@Bool.and_eq_true
abbrev bY:=@List.getD_eq_getElem?_getD
abbrev bZ:=@List.mem_of_getElem?
abbrev c7:=@List.mem_append_right
abbrev c8:=@List.mem_append
abbrev c9:=@Nat.ne_of_lt
abbrev cA:=@Int.emod_nonneg
abbrev cB:=@PySem.PassesOwn.never
abbrev cC:=@Nat.le_trans
abbrev cD:=@List.mem_cons_self
abbrev cE:=@PySem.W.mg_none_of
abbrev cF:=@List.mem_map
abbrev cG:=@PySem.W.mg_of
abbrev cH:=@Nat.lt_of_lt_of_le
abbrev cI:=@PyProof.Rows.boot_tuple
abbrev cJ:=@List.getElem?_eq_some_iff
abbrev cK:=@PySem.Around.under_plainId
abbrev cL:=@Nat.zero_le
abbrev cM:=@List.exists_cons_of_length_eq_add_one
abbrev cN:=@PySem.Heap.get?_update_other
abbrev cO:=@List.map_cons
abbrev cP:=@PyProof.Rows.slot_tuple_getitem
abbrev cQ:=@List.append_nil
abbrev cR:=@PySem.F.plain_max_loop
abbrev cS:=@Option.map_eq_some_iff
abbrev cT:=@Ne.symm
abbrev cU:=@PySem.W.kia_one
abbrev cV:=@Nat.lt_irrefl
abbrev cW:=@List.take_of_length_le
abbrev cX:=@List.take_zero
abbrev cY:=@List.mem_filter
abbrev cZ:=@Bool.eq_iff_iff
abbrev d6:=@List.nodup_cons
abbrev d7:=@List.length_filter_le
abbrev d8:=@List.length_drop
abbrev d9:=@List.mem_of_mem_take
abbrev dA:=@PyProof.Rows.callWith_type1
abbrev dB:=@List.find?_cons
abbrev dC:=@List.replicate_succ
abbrev dD:=@Nat.le_succ
abbrev dE:=@List.getElem_mem
abbrev dF:=@List.not_mem_nil
abbrev dG:=@PySem.Heap.get?_update_self
abbrev dH:=@List.getElem?_append_left
abbrev dI:=@Classical.byContradiction
abbrev dJ:=@List.take_add_one
abbrev dL:=@List.eq_nil_of_length_eq_zero
abbrev dM:=@PySem.W.methodCall_KW
abbrev dN:=@List.foldl_cons
abbrev dO:=@List.length_singleton
abbrev dP:=@List.getElem?_append_right
abbrev dQ:=@List.all_cons
abbrev dR:=@List.append_assoc
abbrev dS:=@Nat.lt_succ_of_lt
abbrev dU:=@List.mem_append_left
abbrev dW:=@PySem.F.slot_tuple_getattribute
abbrev dX:=@Nat.le_of_lt
abbrev dY:=@List.lookup_cons
abbrev dZ:=@PySem.F.called_set
abbrev eF:=@PySem.F.slot_list_getattribute
abbrev eI:=@List.all_eq_true
abbrev eJ:=@List.filterMap_cons
abbrev eM:=@Array.length_toList
abbrev eQ:=@PySem.mem_of_lookup
abbrev eT:=@PySem.F.plain_list_iadd
abbrev eU:=@List.any_cons
abbrev eV:=@PySem.W.callWith_K
abbrev eX:=@Nat.lt_of_le_of_lt
abbrev eY:=@List.filter_append
abbrev eZ:=@PySem.F.entry_max_loop
abbrev fA:=@PyProof.Rows.boot_list
abbrev fB:=@List.nodup_append
abbrev fE:=@PySem.Heap.size_push
abbrev fF:=@PyProof.Rows.boot_int
abbrev fG:=@List.pairwise_reverse
abbrev fH:=@List.getElem?_set_ne
abbrev fI:=@Nat.lt_succ_self
abbrev fJ:=@List.mem_reverse
abbrev fK:=@List.reverse_reverse
abbrev fL:=@PySem.F.excBase_ValueError
abbrev fM:=@List.take_succ_cons
abbrev fN:=@List.mem_map_of_mem
abbrev fO:=@List.length_reverse
abbrev fP:=@Nat.ne_of_gt
abbrev fQ:=@Bool.false_eq_true
abbrev fR:=@Int.zero_add
abbrev fS:=@List.mem_range
abbrev fT:=@List.drop_zero
abbrev fU:=@List.getElem?_replicate
abbrev fV:=@PyProof.Rows.F.plain_set_update_loop
abbrev fW:=@List.flatten_cons
abbrev fX:=@List.length_range
abbrev fZ:=@List.getElem?_set_self
abbrev g0:=@Int.le_refl
abbrev g8:=@PySem.Paired.snoc
abbrev g9:=@List.length_pos_of_mem
abbrev gA:=@List.filter_eq_nil_iff
abbrev gB:=@List.filter_cons
abbrev gC:=@List.length_replicate
abbrev gF:=@PyProof.Rows.boot_max
abbrev gG:=@PyProof.Rows.boot_set
abbrev gH:=@Nat.min_eq_left
abbrev gI:=@Bool.or_eq_true
abbrev gJ:=@List.pairwise_append
abbrev gK:=@List.map_map
abbrev gL:=@List.any_map
abbrev gM:=@List.mem_of_mem_drop
abbrev gN:=@PySem.W.plainGet_of
abbrev gO:=@PySem.Heap.SameBut.update
abbrev gP:=@List.map_congr_left
abbrev gQ:=@List.mem_filterMap
abbrev gR:=@Array.mem_def
abbrev gS:=@List.any_eq_false
abbrev gT:=@List.Sublist.refl
abbrev gU:=@Nat.le_of_not_lt
abbrev gX:=@Nat.zero_add
abbrev gY:=@List.all_map
abbrev gZ:=@List.any_eq_true
abbrev hG:=@Nat.succ_le_succ
namespace L2
open PySem PySem.Spec PyProof.Rows
abbrev Key:=Sum Int Str
def z8M:Key->Value->Bool
 | .inl k,v=>Value.isInt k v
 | .inr x,v=>Value.isStrOf x v
def keyH(w:World):Key->Int
 | .inl k=>hashInt k
 | .inr x=>hashStr w x
theorem z17:∀{k:Key}{v:Value},z8M k v=true->(∃i t,k=Sum.inl i/\v=Value.int i t)\/(∃x t,k=Sum.inr x/\v=Value.str x t)
 | .inl i,v,h=>by
  obtain⟨t,e⟩:=Value.isInt_shape (k:=i) (v:=v) h
  exact .inl ⟨i,t,rfl,e⟩
 | .inr x,v,h=>by
  obtain⟨t,e⟩:=Value.isStrOf_shape (x:=x) (v:=v) h
  exact .inr ⟨x,t,rfl,e⟩
theorem y1h(i:Int)(t:Tok):z8M (.inl i) (.int i t)=true:=by simp[z8M,Value.isInt]
theorem y1e(x:Str)(t:Tok):z8M (.inr x) (.str x t)=true:=by simp[z8M,Value.isStrOf]
theorem y4P(a b:Int):decide ((Sum.inl a:Key)=Sum.inl b)=(a == b):=by
 by_cases e:a=b
 ·subst e;simp
 ·have h:¬(Sum.inl a:Key)=Sum.inl b:=fun q=>e (Sum.inl.inj q)
  rw[decide_eq_false h]
  exact(beq_eq_false_iff_ne.mpr e).symm
theorem y4N(a b:Str):decide ((Sum.inr a:Key)=Sum.inr b)=decide (a=b):=by
 by_cases e:a=b
 ·subst e;simp
 ·have h:¬(Sum.inr a:Key)=Sum.inr b:=fun q=>e (Sum.inr.inj q)
  rw[decide_eq_false h,decide_eq_false e]
theorem y4Q(a:Int)(b:Str):decide ((Sum.inl a:Key)=Sum.inr b)=false:=decide_eq_false (fun q=>nomatch q)
theorem y4L(a:Str)(b:Int):decide ((Sum.inr a:Key)=Sum.inl b)=false:=decide_eq_false (fun q=>nomatch q)
def z1d(prog:Program)(w:World):PySem.KeyKind prog w Key where
 is:=z8M
 hash:=keyH w
 inj:=fun v a b ha hb=>by
  rcases z17 ha with ⟨i,t,rfl,rfl⟩|⟨x,t,rfl,rfl⟩
  ·rcases z17 hb with ⟨j,u,rfl,e⟩|⟨y,u,rfl,e⟩
   ·injection e with e1 _;rw[e1]
   ·exact nomatch e
  ·rcases z17 hb with ⟨j,u,rfl,e⟩|⟨y,u,rfl,e⟩
   ·exact nomatch e
   ·injection e with e1 _;rw[e1]
 byValue:=fun k v h=>by
  rcases z17 h with ⟨i,t,rfl,rfl⟩|⟨x,t,rfl,rfl⟩<;>rfl
 pyHash:=fun hv h=>by
  rcases z17 hv with ⟨i,t,rfl,rfl⟩|⟨x,t,rfl,rfl⟩
  ·exact wpAny_pyHash_int h
  ·exact wpAny_pyHash_str h
 eqBool:=fun hu hv h=>by
  rcases z17 hu with ⟨i,t,rfl,rfl⟩|⟨x,t,rfl,rfl⟩
  ·rcases z17 hv with ⟨j,u,rfl,rfl⟩|⟨y,u,rfl,rfl⟩
   ·rw[y4P] at h;exact wpAny_eqBool_int h
   ·rw[y4Q] at h;exact SeqAt.EqAt.int_str i t y u _ _ _ _ h
  ·rcases z17 hv with ⟨j,u,rfl,rfl⟩|⟨y,u,rfl,rfl⟩
   ·rw[y4L] at h;exact SeqAt.EqAt.str_int x t j u _ _ _ _ h
   ·rw[y4N] at h;exact wpAny_eqBool_str h
 «strs»:=fun k x t v h=>by
  rcases z17 h with ⟨i,u,rfl,e⟩|⟨y,u,rfl,e⟩
  ·exact nomatch e
  ·injection e with e1 _
   subst e1
   cases v<;>rfl
theorem z9l(prog:Program)(w:World)(i:Int)(t:Tok):(z1d prog w).is (.inl i) (.int i t)=true:=y1h i t
theorem z8L(prog:Program)(w:World)(x:Str)(t:Tok):(z1d prog w).is (.inr x) (.str x t)=true:=y1e x t
inductive V where
 | non|bl (b:Bool)|int (i:Int)|str (x:Str)|byt (b:Array UInt8)|flt (b:UInt64)|ref (a:Addr)|ty (n:String)
 deriving DecidableEq
def RelV:V->Value->Prop
 | .non,u=>u=Value.none
 | .bl b,u=>u=Value.bool b
 | .int i,u=>∃t,u=Value.int i t
 | .str x,u=>∃t,u=Value.str x t
 | .byt b,u=>∃t,u=Value.bytes b t
 | .flt b,u=>∃t,u=Value.float b t
 | .ref a,u=>u=Value.ref a
 | .ty n,u=>u=Value.type n
abbrev Vals:List V->List Value->Prop:=Paired RelV
theorem Vals.length{xs:List V}{us:List Value}(r:Vals xs us):xs.length=us.length:=Paired.length r
theorem Vals.get:∀{xs:List V}{us:List Value}{i:Nat}{x:V},Vals xs us->xs[i]? = some x->∃u,us[i]? = some u/\RelV x u
 | _,_,_,_,.nil,e=>by simp at e
 | _,_,0,_,.cons r _,e=>by simp at e;subst e;exact⟨_,rfl,r⟩
 | _,_,i+1,x,.cons _ t,e=>by
  obtain⟨u,h1,h2⟩:=Vals.get (i:=i) (x:=x) t (by simpa using e)
  exact⟨u,by simpa using h1,h2⟩
theorem Vals.set{x:V}{u:Value}(r:RelV x u):∀{xs:List V}{us:List Value} (i:Nat),Vals xs us->Vals (xs.set i x) (us.set i u)
 | _,_,_,.nil=>.nil
 | _,_,0,.cons _ t=>.cons r t
 | _,_,i+1,.cons q t=>.cons q (Vals.set r i t)
theorem Vals.append:∀{xs ys:List V}{us ws:List Value},Vals xs us->Vals ys ws->Vals (xs++ys) (us++ws)
 | _,_,_,_,.nil,s=>s
 | _,_,_,_,.cons r t,s=>.cons r (Vals.append t s)
theorem Vals.take:∀{xs:List V}{us:List Value} (n:Nat),Vals xs us->Vals (xs.take n) (us.take n)
 | _,_,0,_=>.nil
 | _,_,_+1,.nil=>.nil
 | _,_,n+1,.cons r t=>.cons r (Vals.take n t)
theorem Vals.drop:∀{xs:List V}{us:List Value} (n:Nat),Vals xs us->Vals (xs.drop n) (us.drop n)
 | _,_,0,r=>r
 | _,_,_+1,.nil=>.nil
 | _,_,n+1,.cons _ t=>Vals.drop n t
def O8:Option V->Option Value->Prop
 | some v,some u=>RelV v u
 | none,none=>True
 | _,_=>False
def KV{κ:Type}:List (κ×V)->List (κ×Value)->Prop:=Paired fun(p:κ×V) (q:κ×Value)=>p.1=q.1/\RelV p.2 q.2
def kV:Key->V
 | .inl i=>.int i
 | .inr x=>.str x
inductive HO where
 /-- a list -/
 | lst (xs:List V)
 /-- a tuple (never changes) -/
 | tup (xs:List V)
 /-- a dict whose keys are ints and texts;one whose keys are tuples of ints and texts (the empty one is both) -/
 | dK (kvs:List (Key×V))|dT (kvs:List (List Key×V))
 /-- a set of ints: its members,its size -/
 | set (S:Int->Bool) (n:Nat)
 /-- an instance of the class at C,its dict at dx,its attributes -/
 | ins (C dx:Addr) (fs:List (Str×V))
 /-- the dict of the instance at x -/
 | own (x:Addr)
 /-- the dict of an exception -/
 | xd (fs:List (Str×V))
 /-- a bound method,f of x -/
 | met (f x:Addr)
 /-- a range object lo,lo+1,.. below hi -/
 | rng (lo hi:Int)
 /-- a thing that is known to the object (the script;a dict while a loop walks it): read,never written while it is so -/
 | frz (o:Obj) (u:HO)
 /-- a code object's table -/
 | tbl (ps:Array Value)
 /-- any other thing,by what is true of its one object (a def of one's own: SetO a S n:=HO.ext fun h=>..) -/
 | ext (φ:Heap->Prop)
abbrev Hp:=Addr->Option HO
def upd(H:Hp)(a:Addr)(o:HO):Hp:=fun b=>if b=a then some o else H b
def PlT(h:Heap)(a:Addr)(items:Array Value):Prop:=∃o,h.get? a=some o/\o.cls=.type "tuple"/\(∃n,o.data=.seq items n)/\o.dict=none
theorem PlT.tup{h:Heap}{a:Addr}{items:Array Value}(p:PlT h a items):IsTup h a items:=let ⟨o,e,c,d,_⟩:=p;⟨o,e,c,d⟩
theorem PlT.new(h:Heap)(items:Array Value):PlT (h.push { cls:=.type "tuple",data:=.seq items }) h.objs.size items:=⟨_,bJ _ rfl,rfl,⟨_,rfl⟩,rfl⟩
theorem A1{H:Hp}{a:Addr}{o:HO}:upd H a o a=some o:=by unfold upd;rw[if_pos rfl]
theorem z0b{H:Hp}{a b:Addr}{o:HO}(h:b≠a):upd H a o b=H b:=by unfold upd;rw[if_neg h]
theorem z5W{H:Hp}{a:Addr}{o u:HO}:upd (upd H a o) a u=upd H a u:=by
 funext b;unfold upd;split<;>rfl
theorem z54{H:Hp}{a b:Addr}{o u:HO}(h:H a=some o)(h':H b=some u)(d:o≠u):a≠b:=by
 intro e;subst e;rw[h] at h';exact d (Option.some.inj h')
theorem z0m{H:Hp}{a b:Addr}{o:HO}(h:H a=some o)(h':H b=none):a≠b:=by
 intro e;subst e;rw[h] at h';cases h'
section
variable(P:Program)(w:World)
def z1a(H:Hp)(h:Heap)(a:Addr):HO->Prop
 | .lst xs=>xs.length≤sizeLine/\∃(its:List Value) (n:Nat),Vals xs its/\h.get? a=some { cls:=.type "list",data:=.seq its.toArray n }
 | .tup xs=>xs.length≤sizeLine/\∃its:List Value,Vals xs its/\PlT h a its.toArray
 | .dK kvs=>kvs.length≤sizeLine/\(a == sysModules)=false/\∃vs,KV kvs vs/\h.DictOf (z1d P w) a vs
 | .dT kvs=>kvs.length≤sizeLine/\(a == sysModules)=false/\∃xs:List (List Key×Addr×Value),
   Paired (fun(p:List Key×V) (q:List Key×Addr×Value)=>p.1=q.1/\H q.2.1=some (.tup (p.1.map kV))/\RelV p.2 q.2.2) kvs xs/\
   ∃o es ep,h.get? a=some o/\o.ExactDict/\o.data=.dict es ep/\es.toList=xs.map (entryOfKey (tupleKind (z1d P w)))/\(xs.map (·.1)).Nodup
 | .set S n=>h.SetOf (intKind P w) a S n
 | .ins C dx fs=>H dx=some (.own a)/\fs.length≤1000/\dx≠a/\h.get? a=some (PySem.W.instObj C dx)/\
   ∃mA,h.Ns1 dx mA/\(∀f,O8 (fs.lookup f) (mA f))/\PySem.Within mA (fs.map (·.1))
 | .own _=>∃o,h.get? a=some o
 | .xd fs=>∃mA,h.Ns1 a mA/\∀f,O8 (fs.lookup f) (mA f)
 | .rng lo hi=>∃t u v,h.get? a=some { cls:=.type "range",data:=.fields #[.int lo t,.int hi u,.int 1 v] }
 | .frz o u=>h.get? a=some o/\z1a H h a u
 | .tbl ps=>h.get? a=some { cls:=.none,data:=.fields ps }
 | .met f x=>h.get? a=some (PySem.W.methodObj (.ref f) (.ref x))
 | .ext φ=>φ h/\(∃o,h.get? a=some o)/\∀h1 h2:Heap,φ h1->(∀o,h1.get? a=some o->h2.get? a=some o)->φ h2
def HOk(H:Hp)(h:Heap):Prop:=∀a o,H a=some o->z1a P w H h a o
end
section
variable{P:Program}{w:World}{H H':Hp}{h h':Heap}{a:Addr}{o:HO}
theorem z1a.lt(x:z1a P w H h a o):a<h.objs.size:=by
 cases o with
 | lst xs=>obtain⟨_,_,_,_,e⟩:=x;exact bK e
 | tup xs=>obtain⟨_,_,_,o,e,_⟩:=x;exact bK e
 | dK kvs=>obtain⟨_,_,_,_,o,_,_,e,_⟩:=x;exact bK e
 | dT kvs=>obtain⟨_,_,_,_,o,_,_,e,_⟩:=x;exact bK e
 | set S n=>obtain⟨o,_,_,_,e,_⟩:=x;exact bK e
 | ins C dx fs=>obtain⟨_,_,_,e,_⟩:=x;exact bK e
 | own y=>obtain⟨_,e⟩:=x;exact bK e
 | xd fs=>obtain⟨_,⟨_,_,_,e,_⟩,_⟩:=x;exact bK e
 | rng lo hi=>obtain⟨_,_,_,e⟩:=x;exact bK e
 | frz ob u=>obtain⟨e,_⟩:=x;exact bK e
 | tbl ps=>exact bK (show h.get? a=some _ from x)
 | met f y=>exact bK (show h.get? a=some _ from x)
 | ext φ=>obtain⟨_,⟨_,e⟩,_⟩:=x;exact bK e
theorem Paired.T9{α β:Type}{F G:α->β->Prop}:∀{l₁:List α}{l₂:List β},Paired F l₁ l₂->(∀a b,F a b->G a b)->Paired G l₁ l₂
 | _,_,.nil,_=>.nil
 | _,_,.cons r t,f=>.cons (f _ _ r) (Paired.T9 t f)
theorem z1a.T4(x:z1a P w H h a o)(k:∀b u,(b=a\/H b=some (.own a))->h.get? b=some u->h'.get? b=some u)
  (ho:∀b,H b=some (.own a)->H' b=some (.own a)) (ht:∀b xs,H b=some (.tup xs)->H' b=some (.tup xs)):z1a P w H' h' a o:=by
 induction o with
 | lst xs=>obtain⟨z,its,n,r,e⟩:=x;exact⟨z,its,n,r,k _ _ (.inl rfl) e⟩
 | tup xs=>obtain⟨z,its,r,ob,e,c⟩:=x;exact⟨z,its,r,ob,k _ _ (.inl rfl) e,c⟩
 | dK kvs=>obtain⟨z,y,vs,r,ob,es,ep,e,c⟩:=x;exact⟨z,y,vs,r,ob,es,ep,k _ _ (.inl rfl) e,c⟩
 | dT kvs=>
  obtain⟨z,y,xs,r,ob,es,ep,e,c⟩:=x
  exact⟨z,y,xs,Paired.T9 r fun p q z=>⟨z.1,ht _ _ z.2.1,z.2.2⟩,ob,es,ep,k _ _ (.inl rfl) e,c⟩
 | set S n=>obtain⟨ob,es,ep,t,e,c⟩:=x;exact⟨ob,es,ep,t,k _ _ (.inl rfl) e,c⟩
 | ins C dx fs=>
  obtain⟨d,z,ne,e,mA,⟨od,es,ep,e2,c⟩,r⟩:=x
  exact⟨ho _ d,z,ne,k _ _ (.inl rfl) e,mA,⟨od,es,ep,k _ _ (.inr d) e2,c⟩,r⟩
 | own y=>obtain⟨ob,e⟩:=x;exact⟨ob,k _ _ (.inl rfl) e⟩
 | xd fs=>obtain⟨mA,⟨od,es,ep,e,c⟩,r⟩:=x;exact⟨mA,⟨od,es,ep,k _ _ (.inl rfl) e,c⟩,r⟩
 | rng lo hi=>obtain⟨t,u,v,e⟩:=x;exact⟨t,u,v,k _ _ (.inl rfl) e⟩
 | frz ob u ih=>obtain⟨e,q⟩:=x;exact⟨k _ _ (.inl rfl) e,ih q⟩
 | tbl ps=>
  have e:h.get? a=some { cls:=.none,data:=.fields ps }:=x
  show h'.get? a=some { cls:=.none,data:=.fields ps }
  exact k a _ (.inl rfl) e
 | met f y=>
  have e:h.get? a=some (PySem.W.methodObj (.ref f) (.ref y)):=x
  show h'.get? a=some (PySem.W.methodObj (.ref f) (.ref y))
  exact k a _ (.inl rfl) e
 | ext φ=>obtain⟨p,⟨o,e⟩,st⟩:=x;exact⟨st _ _ p fun o q=>k _ _ (.inl rfl) q,⟨o,k _ _ (.inl rfl) e⟩,st⟩
theorem HOk.lt(x:HOk P w H h)(e:H a=some o):a<h.objs.size:=(x a o e).lt
theorem HOk.fresh(x:HOk P w H h)(e:h.objs.size≤a):H a=none:=by
 cases q:H a with
 | none=>rfl
 | some u=>exact absurd (cH (x.lt q) e) (cV _)
theorem HOk.kept(x:HOk P w H h)(k:∀b u,h.get? b=some u->h'.get? b=some u):HOk P w H h':=fun a o e=>
 (x a o e).T4 (fun b u _ q=>k b u q) (fun _ q=>q) fun _ _ q=>q
theorem HOk.laid(x:HOk P w H h)(k:∀b u,h.get? b=some u->h'.get? b=some u)(hp:h.objs.size≤a)(new:z1a P w (upd H a o) h' a o):HOk P w (upd H a o) h':=fun b u e=>by
 have hn:=x.fresh hp
 by_cases hb:b=a
 ·subst hb;rw[A1] at e;cases e;exact new
 ·rw[z0b hb] at e
  exact(x b u e).T4 (fun c v _ q=>k c v q) (fun c q=>by rw[z0b (z0m q hn)];exact q) fun c xs q=>by rw[z0b (z0m q hn)];exact q
end
def Rd(H:Hp)(a:Addr)(u:HO):Prop:=H a=some u\/∃o,H a=some (.frz o u)
theorem Rd.ok{P:Program}{w:World}{H:Hp}{h:Heap}{a:Addr}{u:HO}(r:Rd H a u)(x:HOk P w H h):z1a P w H h a u:=by
 rcases r with r|⟨o,r⟩
 ·exact x a u r
 ·obtain⟨_,q⟩:=x a _ r
  exact q
def Mut:Option HO->Prop
 | some (.lst _)=>True
 | some (.dK _)=>True
 | some (.dT _)=>True
 | some (.set _ _)=>True
 | some (.ins _ _ _)=>True
 | some (.ext _)=>True
 | _=>False
section
variable{P:Program}{w:World}{H:Hp}{h h':Heap}{x e:Addr}{o':HO}
theorem HOk.write(ok:HOk P w H h)(mu:Mut (H x))(he:e=x\/H e=some (.own x))(k:∀b u,b≠e->h.get? b=some u->h'.get? b=some u)(heo:∃u,h'.get? e=some u)
  (new:z1a P w (upd H x o') h' x o'):HOk P w (upd H x o') h':=fun b u q=>by
 have nown:∀c y,H c=some (.own y)->c≠x:=fun c y r z=>by subst z;rw[r] at mu;exact mu
 have ntup:∀c xs,H c=some (.tup xs)->c≠x:=fun c xs r z=>by subst z;rw[r] at mu;exact mu
 by_cases hb:b=x
 ·subst hb;rw[A1] at q;cases q;exact new
 ·rw[z0b hb] at q
  by_cases hbe:b=e
  ·have q':H b=some (.own x):=by
    rcases he with z|z
    ·exact absurd (hbe.trans z) hb
    ·rw[hbe];exact z
   rw[q] at q';cases q'
   obtain⟨v,hv⟩:=heo
   exact⟨v,by rw[hbe];exact hv⟩
  ·refine(ok b u q).T4 (fun c v hc r=>k c v ?_ r) (fun c r=>by rw[z0b (nown c b r)];exact r) fun c xs r=>by rw[z0b (ntup c xs r)];exact r
   rcases hc with rfl|hc
   ·exact hbe
   ·rintro rfl
    rcases he with z|z
    ·exact nown c b hc z
    ·rw[hc] at z;cases z;exact hb rfl
end
structure Un(fs ex:List Addr)(H H':Hp)(h h':Heap):Prop where
 keep:∀b o,h.get? b=some o->H b=none->b∉fs->b∉ex->h'.get? b=some o
 slot:∀b o,h.get? b=some o->H b=none->b∈fs->b∉ex->∃sl,h'.get? b=some { o with slots:=sl }
 free:∀b o,h.get? b=some o->H b=none->b∉ex->H' b=none
 there:∀b o,h.get? b=some o->b∉ex->∃o',h'.get? b=some o'
 P4:∀b xs,H b=some (.tup xs)->H' b=some (.tup xs)
 O9:∀b o u,H b=some (.frz o u)->H' b=some (.frz o u)
 P6:∀b ps,H b=some (.tbl ps)->∃more,H' b=some (.tbl (ps++more))
section
variable{fs fs' ex ex':List Addr}{H H1 H2:Hp}{h h1 h2 h':Heap}{a x e:Addr}{o:HO}
theorem Un.any(u:Un fs ex H H1 h h1){b:Addr}{ob:Obj}(q:h.get? b=some ob)(n:H b=none)(hx:b∉ex):∃sl,h1.get? b=some { ob with slots:=sl }:=by
 by_cases hb:b∈fs
 ·exact u.slot b ob q n hb hx
 ·exact⟨ob.slots,u.keep b ob q n hb hx⟩
theorem Un.kept(k:∀b u,h.get? b=some u->h'.get? b=some u):Un fs ex H H h h':=
 ⟨fun b ob q _ _ _=>k b ob q,fun b ob q _ _ _=>⟨ob.slots,k b ob q⟩,fun _ _ _ n _=>n,fun b ob q _=>⟨ob,k b ob q⟩,fun _ _ q=>q,fun _ _ _ q=>q,fun _ ps q=>⟨#[],by rw[q];simp⟩⟩
theorem Un.refl:Un fs ex H H h h:=Un.kept fun _ _ q=>q
theorem Un.laid(k:∀b u,h.get? b=some u->h'.get? b=some u)(hp:h.objs.size≤a)(hn:H a=none):Un fs ex H (upd H a o) h h' where
 keep:=fun b u q _ _ _=>k b u q
 slot:=fun b u q _ _ _=>⟨u.slots,k b u q⟩
 free:=fun b u q n _=>by rw[z0b (c9 (cH (bK q) hp))];exact n
 there:=fun b u q _=>⟨u,k b u q⟩
 P4:=fun b xs q=>by rw[z0b (z0m q hn)];exact q
 O9:=fun b u xs q=>by rw[z0b (z0m q hn)];exact q
 P6:=fun b ps q=>⟨#[],by rw[z0b (z0m q hn),q];simp⟩
theorem Un.write(mu:Mut (H x))(he:e=x\/H e=some (.own x))(k:∀b u,b≠e->h.get? b=some u->h'.get? b=some u)(heo:∃u,h'.get? e=some u):Un fs ex H (upd H x o) h h':=by
 have hx:∀b,H b=none->b≠x:=fun b n z=>by subst z;rw[n] at mu;exact mu
 have hb:∀b,H b=none->b≠e:=fun b n z=>by
  subst z
  rcases he with r|r
  ·exact hx b n r
  ·rw[n] at r;cases r
 have hm:∀b u,H b=some u->¬Mut (some u)->b≠x:=fun b u q nm z=>by subst z;rw[q] at mu;exact nm mu
 refine⟨fun b u q n _ _=>k b u (hb b n) q,fun b u q n _ _=>⟨u.slots,k b u (hb b n) q⟩,fun b u q n _=>by rw[z0b (hx b n)];exact n,fun b u q _=>?_,
  fun b xs q=>by rw[z0b (hm b _ q fun z=>z)];exact q,fun b u xs q=>by rw[z0b (hm b _ q fun z=>z)];exact q,fun b ps q=>⟨#[],by rw[z0b (hm b _ q fun z=>z),q];simp⟩⟩
 by_cases hbe:b=e
 ·subst hbe;exact heo
 ·exact⟨u,k b u hbe q⟩
end
def trk(h:Heap)(H:Hp):List Addr:=(List.range h.objs.size).filter fun a=>(H a).isSome
def U3(h:Heap)(H:Hp):Heap:=PySem.W.hideAll h (trk h H)
theorem y1D(h:Heap)(H:Hp):(U3 h H).objs.size=h.objs.size:=PySem.W.hideAll_size _ _
theorem y2i{h:Heap}{H:Hp}{b:Addr}{o:Obj}(e:h.get? b=some o)(n:H b=none):(U3 h H).get? b=some o:=
 PySem.W.hideAll_get _ e fun hm=>by
  have q:(H b).isSome=true:=(cY.mp hm).2
  rw[n] at q;simp at q
theorem y3I{h:Heap}{H:Hp}{b:Addr}{o:Obj}(e:(U3 h H).get? b=some o):h.get? b=some o/\H b=none:=by
 have e':h.get? b=some o:=PySem.W.of_hideAll (trk h H) e
 refine⟨e',?_⟩
 cases q:H b with
 | none=>rfl
 | some x=>
  have hm:b∈trk h H:=cY.mpr ⟨fS.mpr (bK e'),by simp[q]⟩
  have z:(U3 h H).get? b=none:=PySem.W.hideAll_none (trk h H) hm
  rw[z] at e;cases e
def y4o(g h:Heap)(L:Addr):List (Addr×Obj):=(List.range h.objs.size).filterMap fun a=>if a=L\/(g.get? a).isSome=true then none else (h.get? a).map fun o=>(a,o)
def rest(g h:Heap)(L d:Addr):List (Addr×Obj):=(y4o g h L).filter fun p=>decide (p.1≠d)
structure Mod(K:PySem.W.Frag)(mg:Str->Option Value)(base:Heap):Prop where
 kin:K.In base
 glob:base.Ns mainGlobals mg
 blt:∃mb,base.Ns builtinsNs mb/\∀x:Str,x≠"__name__"->mb x=bootBuiltins x
 nolimit:base.NoLimit
structure Cx where
 prog:Program
 w:World
 K:PySem.W.Frag
 mg:Str->Option Value
 base:Heap
 A:Around
 N:List Str
 s₀:Shared
 H₀:Hp
 env:Env
 outer:List Env
 stack:List Env
 ex:List Addr
 fn:Str->Bool
 calm:Bool
 pn:List (Addr×Obj)
 xe:Value->Shared->Prop
def frs(l:List Env):List Addr:=l.filterMap (·.frame)
abbrev Cx.fs(X:Cx):List Addr:=frs X.outer
def Vis(sc:Scope)(x:Str):Prop:=sc.names.lookup x=some .local\/sc.names.lookup x=some .cell\/sc.names.lookup x=some .free
def Loc(sc:Scope)(x:Str):Prop:=sc.names.lookup x=some .local\/sc.names.lookup x=some .cell
def Look(env:Env)(h:Heap)(m:Str->Option Value)(x:Str)(u:Value):Prop:=
 (env.kindOf x=some .local/\m x=some u)\/((env.kindOf x=some .cell\/env.kindOf x=some .free)/\∃c,env.cells.lookup x=some c/\h.IsCell c (some u))
structure Cx.Ok(X:Cx):Prop where
 mod:Mod X.K X.mg X.base
 kind:X.env.scope.kind=.function
 glob:X.env.globals=mainGlobals
 blt:X.env.builtins=builtinsNs
 above:X.s₀.heap.objs.size≤X.env.locals
 inj:∀x y c,X.env.cells.lookup x=some c->X.env.cells.lookup y=some c->x=y
 has:∀x,(X.env.kindOf x=some .cell\/X.env.kindOf x=some .free)->∃c,X.env.cells.lookup x=some c
 cab:∀x c,X.fn x=true->X.env.cells.lookup x=some c->X.s₀.heap.objs.size≤c
 hd:X.calm=true->X.A.handled=none
 frames:X.A.frames=some X.stack
 stk:X.stack=X.outer\/(X.stack=X.env::X.outer/\X.env.frame=some X.env.locals)
 exf:∀b∈X.ex,b≠X.env.locals/\∀x c,X.env.cells.lookup x=some c->c≠b
 bs:∀b o,X.base.get? b=some o->X.s₀.heap.get? b=some o/\X.H₀ b=none
 bsz:X.base.objs.size≤X.s₀.heap.objs.size
 noex:∀b o,X.base.get? b=some o->b∉X.ex
 exfs:∀b∈X.ex,b∉X.fs
 Q7:X.s₀.heap.FunFrames X.base X.outer
 frf:∀b∈X.fs,X.H₀ b=none
structure Inv(X:Cx)(pins:List (Addr×Obj))(σ:List (Option V))(H:Hp)(s:Shared):Prop where
 ok:X.Ok
 os:s.os=X.s₀.os
 bare:AllBare s.gens
 base:Un X.fs X.ex X.H₀ H X.s₀.heap s.heap
 loc:∃m,s.heap.Ns X.env.locals m/\∀(i:Nat) (x:Str) (v:V),X.N[i]? = some x->σ[i]? = some (some v)->Vis X.env.scope x->∃u,RelV v u/\Look X.env s.heap m x u
 cell:∀x c,X.env.cells.lookup x=some c->∃v,s.heap.IsCell c v
 free:H X.env.locals=none
 freeC:∀x c,X.env.cells.lookup x=some c->H c=none
 pin:∀p∈X.pn++pins,s.heap.get? p.1=some p.2/\H p.1=none/\p.1≠X.env.locals/\p.1∉X.fs/\∀v,p.2.data≠.cell v
 hok:HOk X.prog X.w H s.heap
 len:σ.length=X.N.length
section
variable{X:Cx}{pins:List (Addr×Obj)}{σ:List (Option V)}{H H':Hp}{s:Shared}{h':Heap}
theorem Cx.Ok.nofr(ok:X.Ok){b:Addr}{o:Obj}(e:X.base.get? b=some o):b∉X.fs:=fun hb=>by
 have:=(ok.Q7.mem hb).1
 rw[e] at this;cases this
theorem Inv.bs(I:Inv X pins σ H s):∀b o,X.base.get? b=some o->s.heap.get? b=some o/\H b=none:=fun b o e=>
 ⟨I.base.keep b o (I.ok.bs b o e).1 (I.ok.bs b o e).2 (I.ok.nofr e) (I.ok.noex b o e),I.base.free b o (I.ok.bs b o e).1 (I.ok.bs b o e).2 (I.ok.noex b o e)⟩
theorem Inv.bk(I:Inv X pins σ H s):∀b o,X.base.get? b=some o->s.heap.get? b=some o:=fun b o e=>(I.bs b o e).1
theorem Inv.mod(I:Inv X pins σ H s):Mod X.K X.mg X.base:=I.ok.mod
theorem Inv.kIn(I:Inv X pins σ H s):X.K.In s.heap:=I.ok.mod.kin.keeps I.bk
theorem Inv.fr(I:Inv X pins σ H s):∃m,Fr X.base X.env.locals s.heap m:=
 let ⟨m,hn,_⟩:=I.loc
 ⟨m,hn,I.bk,cC I.ok.bsz I.ok.above⟩
theorem Inv.lt(I:Inv X pins σ H s):X.env.locals<s.heap.objs.size:=let ⟨_,hn,_⟩:=I.loc;hn.lt
theorem Inv.sz(I:Inv X pins σ H s):X.s₀.heap.objs.size≤s.heap.objs.size:=cC I.ok.above (dX I.lt)
theorem Inv.nofs(I:Inv X pins σ H s){a:Addr}(h:s.heap.objs.size≤a):a∉X.fs:=fun hb=>by
 obtain⟨_,o,ho,_⟩:=I.ok.Q7.mem hb
 exact absurd (cH (bK ho) (cC I.sz h)) (cV _)
theorem Inv.cne(I:Inv X pins σ H s):∀x c,X.env.cells.lookup x=some c->c≠X.env.locals:=fun x c e z=>by
 obtain⟨v,o,ho,hd⟩:=I.cell x c e
 obtain⟨m,⟨o',es,ep,ho',hd',_⟩,_⟩:=I.loc
 rw[z,ho'] at ho;cases ho;rw[hd'] at hd;cases hd
theorem Inv.Q7(I:Inv X pins σ H s):s.heap.FunFrames X.base X.outer:=by
 have all:∀(l:List Env),(∀b∈frs l,b∈X.fs)->X.s₀.heap.FunFrames X.base l->s.heap.FunFrames X.base l:=by
  intro l
  induction l with
  | nil=>intro _ _;trivial
  | cons env r ih=>
   intro hs hl
   obtain⟨hk,⟨L,o,hf,hn,ho,hd⟩,hr⟩:=hl
   have hL:L∈X.fs:=hs L (by unfold frs;rw[eJ,hf];exact cD)
   obtain⟨sl,e⟩:=I.base.slot L o ho (I.ok.frf L hL) hL fun z=>I.ok.exfs L z hL
   exact⟨hk,⟨L,_,hf,hn,e,hd⟩,ih (fun b hb=>hs b (by unfold frs;rw[eJ,hf];exact bW _ hb)) hr⟩
 exact all X.outer (fun _ hb=>hb) I.ok.Q7
theorem Inv.stack(I:Inv X pins σ H s):s.heap.FunFrames X.base X.stack:=by
 rcases I.ok.stk with e|⟨e,hf⟩
 ·rw[e];exact I.Q7
 ·rw[e]
  obtain⟨m,hn,_⟩:=I.loc
  refine .cons (by rw[I.ok.kind];decide) hf hn ?_ I.Q7
  exact Heap.get?_none_of_le (cC I.ok.bsz I.ok.above)
theorem Inv.P9(I:Inv X pins σ H s):∀b∈frs X.stack,b∈X.env.locals::X.fs:=fun b hb=>by
 rcases I.ok.stk with e|⟨e,hf⟩
 ·rw[e] at hb;exact bW _ hb
 ·rw[e] at hb
  unfold frs at hb
  rw[eJ,hf] at hb
  exact hb
theorem Inv.M8(I:Inv X pins σ H s):∀b∈frs X.stack,H b=none:=fun b hb=>by
 rcases bD.mp (I.P9 b hb) with e|hb
 ·rw[e];exact I.free
 ·obtain⟨_,o,ho,_⟩:=I.ok.Q7.mem hb
  exact I.base.free b o ho (I.ok.frf b hb) fun z=>I.ok.exfs b z hb
theorem Inv.step{g':Array GenState}{t':Nat}{d':Drawn}{ch:List Addr}(I:Inv X pins σ H s)
  (hch:∀b∈ch,(b∈X.ex\/X.s₀.heap.objs.size≤b)/\b≠X.env.locals/\(∀x c,X.env.cells.lookup x=some c->c≠b)/\∀p∈X.pn++pins,p.1≠b)
  (keep:∀b o,b≠X.env.locals->b∉X.fs->b∉ch->s.heap.get? b=some o->H b=none->h'.get? b=some o)
  (slot:∀b o,b≠X.env.locals->b∈X.fs->b∉ch->s.heap.get? b=some o->H b=none->∃sl,h'.get? b=some { o with slots:=sl }) (free:∀b o,b∉ch->s.heap.get? b=some o->H b=none->H' b=none)
  (there:∀b o,b∉ch->s.heap.get? b=some o->∃o',h'.get? b=some o')
  (P4:∀b xs,H b=some (.tup xs)->H' b=some (.tup xs)) (O9:∀b o u,H b=some (.frz o u)->H' b=some (.frz o u)) (P6:∀b ps,H b=some (.tbl ps)->∃more,H' b=some (.tbl (ps++more)))
  (ns:∀m,s.heap.Ns X.env.locals m->h'.Ns X.env.locals m) (hok:HOk X.prog X.w H' h') (hg:AllBare g') :
  Inv X pins σ H' { s with heap:=h',gens:=g',drawn:=d',toks:=t' }:=by
 have neL:∀b o,X.s₀.heap.get? b=some o->b≠X.env.locals:=fun b o e=>c9 (cH (bK e) I.ok.above)
 have neC:∀b o,X.s₀.heap.get? b=some o->b∉X.ex->b∉ch:=fun b o e hx hb=>by
  rcases(hch b hb).1 with z|z
  ·exact hx z
  ·exact absurd (cH (bK e) z) (cV _)
 have cellK:∀x c,X.env.cells.lookup x=some c->∀v,s.heap.IsCell c v->h'.IsCell c v:=fun x c e v ⟨o,ho,hd⟩=>by
  have nch:c∉ch:=fun z=>(hch c z).2.2.1 x c e rfl
  by_cases hc:c∈X.fs
  ·obtain⟨sl,q⟩:=slot c o (I.cne x c e) hc nch ho (I.freeC x c e)
   exact⟨_,q,hd⟩
  ·exact⟨o,keep c o (I.cne x c e) hc nch ho (I.freeC x c e),hd⟩
 refine⟨I.ok,I.os,hg,⟨fun b o e n hb hx=>?_,fun b o e n hb hx=>?_,fun b o e n hx=>?_,fun b o e hx=>?_,fun b xs e=>P4 b xs (I.base.P4 b xs e),fun b o xs e=>O9 b o xs (I.base.O9 b o xs e),fun b ps e=>?_⟩,?_,fun x c e=>?_,?_,fun x c e=>?_,fun p hp=>?_,hok,I.len⟩
 ·exact keep b o (neL b o e) hb (neC b o e hx) (I.base.keep b o e n hb hx) (I.base.free b o e n hx)
 ·obtain⟨sl,e1⟩:=I.base.slot b o e n hb hx
  obtain⟨sl',e2⟩:=slot b _ (neL b o e) hb (neC b o e hx) e1 (I.base.free b o e n hx)
  exact⟨sl',e2⟩
 ·obtain⟨o',e1⟩:=I.base.there b o e hx
  exact free b o' (neC b o e hx) e1 (I.base.free b o e n hx)
 ·obtain⟨o',e1⟩:=I.base.there b o e hx
  exact there b o' (neC b o e hx) e1
 ·obtain⟨m1,e1⟩:=I.base.P6 b ps e
  obtain⟨m2,e2⟩:=P6 b _ e1
  exact⟨m1++m2,by rw[e2,Array.append_assoc]⟩
 ·obtain⟨m,hn,hl⟩:=I.loc
  refine⟨m,ns m hn,fun i x v e1 e2 e3=>?_⟩
  obtain⟨u,r,l⟩:=hl i x v e1 e2 e3
  refine⟨u,r,?_⟩
  rcases l with l|⟨k,c,e,z⟩
  ·exact .inl l
  ·exact .inr ⟨k,c,e,cellK x c e _ z⟩
 ·obtain⟨v,z⟩:=I.cell x c e
  exact⟨v,cellK x c e v z⟩
 ·obtain⟨m,⟨o,_,_,ho,_⟩,_⟩:=I.loc
  exact free _ o (fun z=>(hch _ z).2.1 rfl) ho I.free
 ·obtain⟨v,o,ho,hd⟩:=I.cell x c e
  exact free c o (fun z=>(hch c z).2.2.1 x c e rfl) ho (I.freeC x c e)
 ·obtain⟨e,n,ne,nf,d⟩:=I.pin p hp
  have nch:p.1∉ch:=fun z=>(hch p.1 z).2.2.2 p hp rfl
  exact⟨keep p.1 p.2 ne nf nch e n,free p.1 p.2 nch e n,ne,nf,d⟩
theorem Inv.un{t':Nat}(I:Inv X pins σ H s)(u:Un X.fs [] H H' s.heap h')(hok:HOk X.prog X.w H' h'):Inv X pins σ H' { s with heap:=h',toks:=t' }:=by
 obtain⟨m,⟨o,es,ep,ho,r⟩,_⟩:=id I.loc
 obtain⟨sl,hL⟩:=u.any ho I.free (by simp)
 exact I.step (g':=s.gens) (d':=s.drawn) (ch:=[]) (fun _ z=>nomatch z) (fun b o _ hb _ e n=>u.keep b o e n hb (by simp)) (fun b o _ hb _ e n=>u.slot b o e n hb (by simp)) (fun b o _ e n=>u.free b o e n (by simp)) (fun b o _ e=>u.there b o e (by simp)) u.P4 u.O9 u.P6 (fun m' hm=>by
  obtain⟨o',es',ep',ho',r'⟩:=hm
  rw[ho] at ho';cases ho'
  exact⟨_,es',ep',hL,r'⟩) hok I.bare
theorem Inv.call{g':Array GenState}{t':Nat}{d':Drawn}{ch:List Addr}(I:Inv X pins σ H s)(u:Un (frs X.stack) ch H H' s.heap h')(hok:HOk X.prog X.w H' h')(hg:AllBare g')
  (hch:∀b∈ch,(b∈X.ex\/X.s₀.heap.objs.size≤b)/\b≠X.env.locals/\(∀x c,X.env.cells.lookup x=some c->c≠b)/\∀p∈X.pn++pins,p.1≠b) :
  Inv X pins σ H' { s with heap:=h',gens:=g',drawn:=d',toks:=t' }:=by
 obtain⟨m,⟨o,es,ep,ho,r⟩,_⟩:=id I.loc
 obtain⟨sl,hL⟩:=u.any ho I.free fun z=>(hch _ z).2.1 rfl
 exact I.step (ch:=ch) hch (fun b o hL hb hc e n=>u.keep b o e n (fun z=>(bD.mp (I.P9 b z)).elim hL hb) hc) (fun b o _ _ hc e n=>u.any e n hc) (fun b o hc e n=>u.free b o e n hc) (fun b o hc e=>u.there b o e hc) u.P4 u.O9 u.P6 (fun m' hm=>by
  obtain⟨o',es',ep',ho',r'⟩:=hm
  rw[ho] at ho';cases ho'
  exact⟨_,es',ep',hL,r'⟩) hok hg
theorem Inv.turned{t':Nat}{it:Addr}(I:Inv X pins σ H s)(k:∀b o,b≠it->s.heap.get? b=some o->h'.get? b=some o)(hn:H it=none)(hL:it≠X.env.locals)
  (h1:it∈X.ex\/X.s₀.heap.objs.size≤it) (h2:∀x c,X.env.cells.lookup x=some c->c≠it) (h3:∀p∈X.pn++pins,p.1≠it):Inv X pins σ H { s with heap:=h',toks:=t' }:=by
 have nit:∀b u,H b=some u->b≠it:=fun b u e z=>by rw[z,hn] at e;cases e
 refine I.step (g':=s.gens) (d':=s.drawn) (ch:=[it]) (fun b hb=>?_) (fun b o _ _ hc e _=>k b o (fun z=>hc (by simp[z])) e) (fun b o _ _ hc e _=>⟨o.slots,k b o (fun z=>hc (by simp[z])) e⟩) (fun _ _ _ _ n=>n)
  (fun b o hc e=>⟨o,k b o (fun z=>hc (by simp[z])) e⟩) (fun _ _ e=>e) (fun _ _ _ e=>e) (fun b ps e=>⟨#[],by rw[e];simp⟩) (fun m hm=>?_) (fun b u e=>?_) I.bare
 ·have e:b=it:=by simpa using hb
  subst e
  exact⟨h1,hL,h2,h3⟩
 ·obtain⟨o,es,ep,ho,r⟩:=hm
  exact⟨o,es,ep,k _ o (cT hL) ho,r⟩
 ·refine(I.hok b u e).T4 (fun c v hc q=>k c v ?_ q) (fun _ q=>q) fun _ _ q=>q
  rcases hc with z|z
  ·rw[z];exact nit b u e
  ·exact nit c _ z
theorem Inv.tok(I:Inv X pins σ H s)(t:Nat):Inv X pins σ H { s with toks:=t }:=I.un (h':=s.heap) (t':=t) Un.refl I.hok
theorem Inv.kept{t':Nat}(I:Inv X pins σ H s)(k:∀b u,s.heap.get? b=some u->h'.get? b=some u):Inv X pins σ H { s with heap:=h',toks:=t' }:=I.un (Un.kept k) (I.hok.kept k)
theorem Inv.laid{a:Addr}{o:HO}{t':Nat}(I:Inv X pins σ H s)(k:∀b u,s.heap.get? b=some u->h'.get? b=some u)(hp:s.heap.objs.size≤a)(new:z1a X.prog X.w (upd H a o) h' a o) :
  Inv X pins σ (upd H a o) { s with heap:=h',toks:=t' }:=I.un (Un.laid k hp (I.hok.fresh hp)) (I.hok.laid k hp new)
theorem Inv.write{x e:Addr}{o:HO}{t':Nat}(I:Inv X pins σ H s)(mu:Mut (H x))(he:e=x\/H e=some (.own x))(k:∀b u,b≠e->s.heap.get? b=some u->h'.get? b=some u)(heo:∃u,h'.get? e=some u)
  (new:z1a X.prog X.w (upd H x o) h' x o):Inv X pins σ (upd H x o) { s with heap:=h',toks:=t' }:=I.un (Un.write mu he k heo) (I.hok.write mu he k heo new)
theorem Inv.weak{σ':List (Option V)}(I:Inv X pins σ H s)(hl:σ'.length=σ.length)(w:∀(i:Nat) v,σ'[i]? = some (some v)->σ[i]? = some (some v)):Inv X pins σ' H s:=
 ⟨I.ok,I.os,I.bare,I.base,let ⟨m,hn,hl'⟩:=I.loc;⟨m,hn,fun i x v e1 e2 e3=>hl' i x v e1 (w i v e2) e3⟩,I.cell,I.free,I.freeC,I.pin,I.hok,hl.trans I.len⟩
theorem Inv.Q5{pins':List (Addr×Obj)}(I:Inv X pins σ H s)(h:∀p∈pins',s.heap.get? p.1=some p.2/\H p.1=none/\p.1≠X.env.locals/\p.1∉X.fs/\∀v,p.2.data≠.cell v):Inv X pins' σ H s:=
 ⟨I.ok,I.os,I.bare,I.base,I.loc,I.cell,I.free,I.freeC,fun p hp=>(c8.mp hp).elim (fun z=>I.pin p (dU _ z)) (h p),I.hok,I.len⟩
theorem z7J{N:List Str}(hN:N.Nodup){i j:Nat}{x:Str}(a:N[i]? = some x)(b:N[j]? = some x):i=j:=by
 obtain⟨h1,e1⟩:=cJ.mp a
 obtain⟨h2,e2⟩:=cJ.mp b
 exact(List.getElem_inj hN).mp (e1.trans e2.symm)
theorem y1X{M:Model}{A:Around}{E:Value->Shared->Prop}{i:Nat}{x:Str}{v:V}{u:Value}{Q:Unit->Shared->Prop}(I:Inv X pins σ H s)(hN:X.N.Nodup)(hi:X.N[i]? = some x)(hx:Loc X.env.scope x)(r:RelV v u)
  (h:∀s',Inv X pins (σ.set i (some v)) H s'->(∃a,Heap.SameBut a s.heap s'.heap/\(a=X.env.locals\/X.env.cells.lookup x=some a))->Q () s') (hf:X.fn x=true\/X.env.scope.names.lookup x=some .local:=by first|exact .inl rfl|exact .inr rfl|assumption):wpAny M A (storeName X.env x u) Q E s:=by
 obtain⟨m,hn,hl⟩:=id I.loc
 have V8:(X.env.scope.kind == .class || (X.env.scope.kind == .module && X.env.locals != X.env.globals))=false:=by rw[I.ok.kind];rfl
 have hiσ:i<σ.length:=by rw[I.len];exact(cJ.mp hi).1
 have cne:=I.cne
 have tracked:∀{a:Addr}{h':Heap},(∃o,s.heap.get? a=some o/\H a=none)->Heap.SameBut a s.heap h'->HOk X.prog X.w H h':=fun {a h'} ha hs b ob e=>by
  obtain⟨_,_,hfree⟩:=ha
  refine(I.hok b ob e).T4 (fun c w' hc q=>(hs.2 c ?_).trans q) (fun _ q=>q) fun _ _ q=>q
  rintro rfl
  rcases hc with rfl|hc
  ·rw[hfree] at e;cases e
  ·rw[hfree] at hc;cases hc
 rcases hx with hk|hk
 ·refine wpAny_storeName_local hk hn (fun h' hn' hs=>?_) V8
  obtain⟨oL,_,_,hoL,_⟩:=id hn
  refine h _ ⟨I.ok,I.os,I.bare,⟨fun b o e n hb hx=>?_,fun b o e n hb hx=>?_,I.base.free,fun b o e hx=>?_,I.base.P4,I.base.O9,I.base.P6⟩,⟨_,hn',fun j y v' e1 e2 e3=>?_⟩,fun y c e=>?_,I.free,I.freeC,fun p hp=>?_,tracked ⟨oL,hoL,I.free⟩ hs,by simpa using I.len⟩ ⟨_,hs,.inl rfl⟩
  ·exact(hs.2 b (c9 (cH (bK e) I.ok.above))).trans (I.base.keep b o e n hb hx)
  ·obtain⟨sl,e1⟩:=I.base.slot b o e n hb hx
   exact⟨sl,(hs.2 b (c9 (cH (bK e) I.ok.above))).trans e1⟩
  ·obtain⟨o',e1⟩:=I.base.there b o e hx
   exact⟨o',(hs.2 b (c9 (cH (bK e) I.ok.above))).trans e1⟩
  ·by_cases hj:j=i
   ·subst hj
    rw[hi] at e1;cases e1
    rw[fZ hiσ] at e2
    cases e2
    exact⟨u,r,.inl ⟨hk,by simp⟩⟩
   ·rw[fH (cT hj)] at e2
    obtain⟨u',r',q⟩:=hl j y v' e1 e2 e3
    refine⟨u',r',?_⟩
    rcases q with ⟨k,e⟩|⟨k,c,e,z⟩
    ·refine .inl ⟨k,?_⟩
     have:y≠x:=fun e=>hj (z7J hN e1 (e ▸ hi))
     simp[this,e]
    ·exact .inr ⟨k,c,e,z.sameBut hs (cne y c e)⟩
  ·obtain⟨w',z⟩:=I.cell y c e
   exact⟨w',z.sameBut hs (cne y c e)⟩
  ·obtain⟨e,n,ne,nf,d⟩:=I.pin p hp
   exact⟨(hs.2 p.1 ne).trans e,n,ne,nf,d⟩
 ·have hfn:X.fn x=true:=by
   rcases hf with z|z
   ·exact z
   ·rw[z] at hk;cases hk
  obtain⟨c,hc⟩:=I.ok.has x (.inl hk)
  obtain⟨w',z⟩:=I.cell x c hc
  refine wpAny_storeName_cell I.ok.kind hk hc z (fun h' hc' hs=>?_)
  obtain⟨oc,hoc,hocd⟩:=id z
  refine h { s with heap:=h' } ⟨I.ok,I.os,I.bare,⟨fun b o e n hb hx=>?_,fun b o e n hb hx=>?_,I.base.free,fun b o e hx=>?_,I.base.P4,I.base.O9,I.base.P6⟩,⟨m,hn.sameBut hs (cT (cne x c hc)),fun j y v' e1 e2 e3=>?_⟩,fun y c' e=>?_,I.free,I.freeC,fun p hp=>?_,tracked ⟨oc,hoc,I.freeC x c hc⟩ hs,by simpa using I.len⟩ ⟨c,hs,.inr hc⟩
  ·exact(hs.2 b (c9 (cH (bK e) (I.ok.cab x c hfn hc)))).trans (I.base.keep b o e n hb hx)
  ·obtain⟨sl,e1⟩:=I.base.slot b o e n hb hx
   exact⟨sl,(hs.2 b (c9 (cH (bK e) (I.ok.cab x c hfn hc)))).trans e1⟩
  ·obtain⟨o',e1⟩:=I.base.there b o e hx
   exact⟨o',(hs.2 b (c9 (cH (bK e) (I.ok.cab x c hfn hc)))).trans e1⟩
  ·by_cases hj:j=i
   ·subst hj
    rw[hi] at e1;cases e1
    rw[fZ hiσ] at e2
    cases e2
    exact⟨u,r,.inr ⟨.inl hk,c,hc,hc'⟩⟩
   ·rw[fH (cT hj)] at e2
    obtain⟨u',r',q⟩:=hl j y v' e1 e2 e3
    refine⟨u',r',?_⟩
    rcases q with q|⟨k,c',e,z'⟩
    ·exact .inl q
    ·refine .inr ⟨k,c',e,z'.sameBut hs ?_⟩
     rintro rfl
     exact hj (z7J hN e1 (I.ok.inj _ _ _ e hc ▸ hi))
  ·by_cases hcc:c'=c
   ·subst hcc;exact⟨_,hc'⟩
   ·obtain⟨w2,z2⟩:=I.cell y c' e
    exact⟨w2,z2.sameBut hs hcc⟩
  ·obtain⟨e,n,ne,nf,d⟩:=I.pin p hp
   refine⟨(hs.2 p.1 ?_).trans e,n,ne,nf,d⟩
   intro q
   rw[q,hoc] at e
   have q':oc=p.2:=Option.some.inj e
   exact d w' (by rw[<- q'];exact hocd)
theorem z7y{M:Model}{A:Around}{E:Value->Shared->Prop}{i:Nat}{x:Str}{v:V}{u:Value}{Q:Unit->Shared->Prop}(I:Inv X pins σ H s)(hN:X.N.Nodup)(hi:X.N[i]? = some x)(hx:Loc X.env.scope x)(r:RelV v u)
  (h:∀s',Inv X pins (σ.set i (some v)) H s'->Q () s') (hf:X.fn x=true\/X.env.scope.names.lookup x=some .local:=by first|exact .inl rfl|exact .inr rfl|assumption):wpAny M A (storeName X.env x u) Q E s:=
 y1X I hN hi hx r (fun s' I' _=>h s' I') hf
theorem Inv.Z7{s':Shared}{ch:List Addr}(I:Inv X pins σ H s)(ho:s'.os=s.os)(u:Un (frs X.stack) ch H H' s.heap s'.heap)(hok:HOk X.prog X.w H' s'.heap)(hg:AllBare s'.gens)
  (hch:∀b∈ch,(b∈X.ex\/X.s₀.heap.objs.size≤b)/\b≠X.env.locals/\(∀x c,X.env.cells.lookup x=some c->c≠b)/\∀p∈X.pn++pins,p.1≠b):Inv X pins σ H' s':=by
 obtain⟨h',g',d',t',o'⟩:=s'
 have e:o'=s.os:=ho
 subst e
 exact I.call (g':=g') (t':=t') (d':=d') u hok hg hch
end
abbrev XK:=Value->Option Addr->Hp->Prop
abbrev St:=List (Option V)
abbrev VK:=V->Hp->Prop
abbrev TE:=St->Hp->VK->Prop
abbrev TT:=St->Hp->(Bool->Hp->Prop)->Prop
abbrev TA:=St->Hp->(List V->Hp->Prop)->Prop
structure Ends where
 nx:St->Hp->Prop
 rt:VK
 bk:St->Hp->Prop:=fun _ _=>False
 ct:St->Hp->Prop:=fun _ _=>False
abbrev TS:=Ends->St->Hp->Prop
def EP(X:Cx)(pins:List (Addr×Obj))(σ:St)(Q:VK)(u:Value)(s':Shared):Prop:=∃v H',Inv X pins σ H' s'/\RelV v u/\Q v H'
def TP(X:Cx)(pins:List (Addr×Obj))(σ:St)(Q:Bool->Hp->Prop)(b:Bool)(s':Shared):Prop:=∃H',Inv X pins σ H' s'/\Q b H'
def AP(X:Cx)(pins:List (Addr×Obj))(σ:St)(Q:List V->Hp->Prop)(us:List Value)(s':Shared):Prop:=∃vs H',Inv X pins σ H' s'/\Vals vs us/\Q vs H'
def SP(X:Cx)(pins:List (Addr×Obj))(D:Ends)(f:Flow)(s':Shared):Prop:=
 match f with
 | .next=>∃σ' H',Inv X pins σ' H' s'/\D.nx σ' H'
 | .brk=>∃σ' H',Inv X pins σ' H' s'/\D.bk σ' H'
 | .cont=>∃σ' H',Inv X pins σ' H' s'/\D.ct σ' H'
 | .ret u=>∃v σ' H',Inv X pins σ' H' s'/\RelV v u/\D.rt v H'
def PE(X:Cx)(e:Expr)(t:TE):Prop:=
 ∀(pins:List (Addr×Obj)) (s:Shared) (σ:St) (H:Hp) (Q:VK),Inv X pins σ H s->t σ H Q->wpAny (model X.prog X.w) X.A (eval e X.env) (EP X pins σ Q) X.xe s
def PT(X:Cx)(e:Expr)(t:TT):Prop:=
 ∀(pins:List (Addr×Obj)) (s:Shared) (σ:St) (H:Hp) (Q:Bool->Hp->Prop),Inv X pins σ H s->t σ H Q->wpAny (model X.prog X.w) X.A (isTrue e X.env (eval e X.env)) (TP X pins σ Q) X.xe s
def PW(X:Cx)(e:Expr)(t:TT):Prop:=
 ∀(whole:Sem Value) (pins:List (Addr×Obj)) (s:Shared) (σ:St) (H:Hp) (Q:Bool->Hp->Prop),Inv X pins σ H s->t σ H Q->wpAny (model X.prog X.w) X.A (isTrue e X.env whole) (TP X pins σ Q) X.xe s
theorem PW.pt{X:Cx}{e:Expr}{t:TT}(h:PW X e t):PT X e t:=h _
def PA(X:Cx)(es:List Expr)(t:TA):Prop:=
 ∀(pos:Pos) (pins:List (Addr×Obj)) (s:Shared) (σ:St) (H:Hp) (Q:List V->Hp->Prop),Inv X pins σ H s->t σ H Q->wpAny (model X.prog X.w) X.A (spliced (backTo pos (starEach es X.env))) (AP X pins σ Q) X.xe s
def PS(X:Cx)(st:Stmt)(t:TS):Prop:=
 ∀(pins:List (Addr×Obj)) (s:Shared) (σ:St) (H:Hp) (D:Ends),Inv X pins σ H s->t D σ H->wpAny (model X.prog X.w) X.A (exec st X.env) (SP X pins D) X.xe s
def PSs(X:Cx)(st:List Stmt)(t:TS):Prop:=
 ∀(pins:List (Addr×Obj)) (s:Shared) (σ:St) (H:Hp) (D:Ends),Inv X pins σ H s->t D σ H->wpAny (model X.prog X.w) X.A (execs st X.env) (SP X pins D) X.xe s
theorem thn{α:Type}{t:Sem α}{Q Q':α->Shared->Prop}{M:Model}{A:Around}{E:Value->Shared->Prop}{s:Shared}(h:wpAny M A t Q E s)(hQ:∀a s,Q a s->Q' a s):wpAny M A t Q' E s:=wpAny_mono h hQ fun _ _ x=>x
section
variable{X:Cx}
def Y0(i:Nat):TE:=fun σ H Q=>∃v,σ[i]? = some (some v)/\Q v H
def tC(v:V):TE:=fun _ H Q=>Q v H
theorem y52{i:Nat}{x:Str}{pos:Pos}(hN:X.N[i]? = some x)(hv:Vis X.env.scope x)(hd:(x == ("__debug__":Str))=false:=by decide)(hcd:(x == ("__classdict__":Str))=false:=by decide):PE X (.Name x pos) (Y0 i):=by
 intro pins s σ H Q I h
 obtain⟨v,e,h⟩:=h
 obtain⟨m,hn,hl⟩:=I.loc
 obtain⟨u,r,l⟩:=hl i x v hN e hv
 have fin:EP X pins σ Q u s:=⟨v,H,I,r,h⟩
 rcases l with ⟨hk,hm⟩|⟨hk,c,hc,W7⟩
 ·exact wpAny_Name (wpAny_loadName_local I.ok.kind hk hn hm fin) hd
 ·rcases hk with hk|hk
  ·exact wpAny_Name (wpAny_loadName_cell I.ok.kind hk hc W7 fin) hd
  ·exact wpAny_Name (wpAny_loadName_free I.ok.kind hk hc W7 fin hcd) hd
theorem z04{i j pos}:PE X (.Constant (.int i) j pos) (tC (.int i)):=fun _ _ _ H _ I h=>wpAny_Constant_int ⟨.int i,H,I.tok _,⟨_,rfl⟩,h⟩
theorem z2v{b j pos}:PE X (.Constant (.bool b) j pos) (tC (.bl b)):=fun _ _ _ H _ I h=>Constant_bool ⟨.bl b,H,I,rfl,h⟩
theorem y3u{j pos}:PE X (.Constant .none j pos) (tC .non):=fun _ _ _ H _ I h=>Constant_none ⟨.non,H,I,rfl,h⟩
theorem z0l{x j pos}:PE X (.Constant (.str x) j pos) (tC (.str x)):=fun _ _ _ H _ I h=>Calls.Constant_str ⟨.str x,H,I.tok _,⟨_,rfl⟩,h⟩
def Gl(X:Cx)(x:Str):Prop:=X.env.kindOf x=some .globalImplicit
theorem z49{E:Value->Shared->Prop}{pins:List (Addr×Obj)}{s:Shared}{σ:St}{H:Hp}{x:Str}{u:Value}{pos:Pos}{Q:Value->Shared->Prop}(I:Inv X pins σ H s)(hg:Gl X x)(hm:X.mg x=some u)(h:Q u s)
  (hd:(x == ("__debug__":Str))=false:=by decide):wpAny (model X.prog X.w) X.A (eval (.Name x pos) X.env) Q E s:=
 Calls.Name_function_global I.ok.kind hg (Calls.loadGlobal_global (by rw[I.ok.glob];exact I.mod.glob.keeps I.bk) hm h) hd
theorem z5i{E:Value->Shared->Prop}{pins:List (Addr×Obj)}{s:Shared}{σ:St}{H:Hp}{x:Str}{u:Value}{pos:Pos}{Q:Value->Shared->Prop}(I:Inv X pins σ H s)(hg:Gl X x)(hm:X.mg x=none)(hv:bootBuiltins x=some u)(h:Q u s)
  (hn:x≠"__name__":=by decide) (hd:(x == ("__debug__":Str))=false:=by decide):wpAny (model X.prog X.w) X.A (eval (.Name x pos) X.env) Q E s:=by
 obtain⟨mb,h1,h2⟩:=I.mod.blt
 exact Calls.Name_function_global I.ok.kind hg (Calls.loadGlobal_builtin (by rw[I.ok.glob];exact I.mod.glob.keeps I.bk) hm (by rw[I.ok.blt];exact h1.keeps I.bk) ((h2 x hn).trans hv) h) hd
theorem y19{x:Str}{v:V}{u:Value}{pos:Pos}(hg:Gl X x)(hm:X.mg x=some u)(r:RelV v u)(hd:(x == ("__debug__":Str))=false:=by decide):PE X (.Name x pos) (tC v):=
 fun _ _ _ H _ I h=>z49 I hg hm ⟨v,H,I,r,h⟩ hd
theorem z35{x:Str}{v:V}{u:Value}{pos:Pos}(hg:Gl X x)(hm:X.mg x=none)(hv:bootBuiltins x=some u)(r:RelV v u)(hn:x≠"__name__":=by decide)(hd:(x == ("__debug__":Str))=false:=by decide):PE X (.Name x pos) (tC v):=
 fun _ _ _ H _ I h=>z5i I hg hm hv ⟨v,H,I,r,h⟩ hn hd
variable{a b:Expr}{ta tb:TE}{pos:Pos}
def PC(X:Cx)(op:CmpOp)(a b:Expr)(t:TE):Prop:=
 ∀(pins:List (Addr×Obj)) (s:Shared) (σ:St) (H:Hp) (Q:VK),Inv X pins σ H s->t σ H Q->
  wpAny (model X.prog X.w) X.A (eval a X.env) (fun v s₁=>wpAny (model X.prog X.w) X.A (eval b X.env) (fun u s₂=>wpAny (model X.prog X.w) X.A (compareOp op v u) (EP X pins σ Q) X.xe s₂) X.xe s₁) X.xe s
theorem z9K(b:Expr){op:CmpOp}(h:op≠.In)(h2:op≠.NotIn):behindInMarks op b=false:=by
 have e1:(op == CmpOp.In)=false:=by cases op<;>first|rfl|exact absurd rfl h
 have e2:(op == CmpOp.NotIn)=false:=by cases op<;>first|rfl|exact absurd rfl h2
 cases b<;>simp[behindInMarks,e1,e2]
def tIsN(ta:TE):TE:=fun σ H Q=>ta σ H fun x H1=>Q (.bl (decide (x=.non))) H1
theorem RelV.Z4{x:V}{v:Value}(r:RelV x v):(v == Value.none)=decide (x=.non):=by
 cases x with
 | non=>cases r;rfl
 | bl _=>cases r;rfl
 | int _=>obtain⟨t,rfl⟩:=r;rfl
 | str _=>obtain⟨t,rfl⟩:=r;rfl
 | byt _=>obtain⟨t,rfl⟩:=r;rfl
 | flt _=>obtain⟨t,rfl⟩:=r;rfl
 | ref _=>cases r;rfl
 | ty _=>cases r;rfl
theorem z8z{j pos'}(ha:PE X a ta):PC X .Is a (.Constant .none j pos') (tIsN ta):=by
 intro pins s σ H Q I h
 refine thn (ha pins s σ H _ I h) fun v s1 hz=>?_
 obtain⟨x,H1,I1,r1,q1⟩:=hz
 exact Constant_none (is_none_gen ⟨.bl _,H1,I1,by rw[r1.Z4];rfl,q1⟩)
def tB(t:TE):TT:=fun σ H Q=>t σ H fun x H1=>∃c,x=.bl c/\Q c H1
theorem y3p{op:CmpOp}{t:TE}(h:PC X op a b t)(h1:behindInMarks op b=false:=by first|exact z9K _ (by decide) (by decide)|rfl):PE X (.Compare a [op] [b] pos) t:=fun pins s σ H Q I hw=>wpAny_Compare1 (h pins s σ H Q I hw) h1
theorem z85{op:CmpOp}{t:TE}(h:PC X op a b t)(h1:behindInMarks op b=false:=by first|exact z9K _ (by decide) (by decide)|rfl):PT X (.Compare a [op] [b] pos) (tB t):=by
 intro pins s σ H Q I hw
 refine wpAny_isTrue_Compare1 (thn (h pins s σ H _ I hw) fun v s1 h1=>thn h1 fun u s2 h2=>thn h2 fun c s3 hz=>?_) h1
 obtain⟨x,H1,I1,r1,q1⟩:=hz
 obtain⟨d,rfl,q⟩:=q1
 cases r1
 exact wpAny_truthy_bool ⟨H1,I1,q⟩
theorem z2Q{e:Expr}{t:TE}(h:PE X e t)(he:∀whole,isTrue e X.env whole=(do let v <- whole;standAt e.pos;holding [v] (truthy v)):=by intro _;rfl):PT X e (tB t):=by
 intro pins s σ H Q I hw
 refine isTrue_plain (thn (h pins s σ H _ I hw) fun v s1 hz=>?_) (he _)
 obtain⟨x,H1,I1,r1,q1⟩:=hz
 obtain⟨d,rfl,q⟩:=q1
 cases r1
 exact wpAny_truthy_bool ⟨H1,I1,q⟩
variable{tA tB':TT}{rest:List Expr}
def tAnd(t u:TT):TT:=fun σ H Q=>t σ H fun c H1=>if c=true then u σ H1 Q else Q false H1
def tOr(t u:TT):TT:=fun σ H Q=>t σ H fun c H1=>if c=true then Q true H1 else u σ H1 Q
def tNot(t:TT):TT:=fun σ H Q=>t σ H fun c H1=>Q (!c) H1
theorem z8R(ha:PT X a tA):PW X (.BoolOp .And [a] pos) tA:=by
 intro wh pins s σ H Q I h
 refine isTrue_and (thn (ha pins s σ H Q I h) fun c s1 e=>?_)
 cases c with
 | true=>exact isTrue_and_nil e
 | false=>exact e
theorem z1E(ha:PT X a tA):PW X (.BoolOp .Or [a] pos) tA:=by
 intro wh pins s σ H Q I h
 refine isTrue_or (thn (ha pins s σ H Q I h) fun c s1 e=>?_)
 cases c with
 | false=>exact isTrue_or_nil e
 | true=>exact e
theorem z8p(ha:PT X a tA)(hb:PW X (.BoolOp .And (b::rest) pos) tB'):PW X (.BoolOp .And (a::b::rest) pos) (tAnd tA tB'):=by
 intro wh pins s σ H Q I h
 refine isTrue_and (thn (ha pins s σ H _ I h) fun c s1 hz=>?_)
 obtain⟨H1,I1,q1⟩:=hz
 cases c with
 | true=>exact hb wh pins s1 σ H1 Q I1 q1
 | false=>exact⟨H1,I1,q1⟩
theorem z2G(ha:PT X a tA)(hb:PW X (.BoolOp .Or (b::rest) pos) tB'):PW X (.BoolOp .Or (a::b::rest) pos) (tOr tA tB'):=by
 intro wh pins s σ H Q I h
 refine isTrue_or (thn (ha pins s σ H _ I h) fun c s1 hz=>?_)
 obtain⟨H1,I1,q1⟩:=hz
 cases c with
 | true=>exact⟨H1,I1,q1⟩
 | false=>exact hb wh pins s1 σ H1 Q I1 q1
theorem z3h(ha:PT X a tA):PT X (.UnaryOp .Not a pos) (tNot tA):=by
 intro pins s σ H Q I h
 exact isTrue_not (ha pins s σ H (fun c H1=>Q (!c) H1) I h)
def w1y(ta tb:TE):TE:=fun σ H Q=>ta σ H fun x H1=>∃c,x=.bl c/\if c=true then tb σ H1 Q else Q (.bl false) H1
theorem y4O{op}{t:TE}(h:PE X a t):PE X (.BoolOp op [a] pos) t:=fun pins s σ H Q I hw=>BoolOp_one (h pins s σ H Q I hw)
theorem y4Z(ha:PE X a ta)(hb:PE X (.BoolOp .And (b::rest) pos) tb):PE X (.BoolOp .And (a::b::rest) pos) (w1y ta tb):=by
 intro pins s σ H Q I h
 refine BoolOp_and (thn (ha pins s σ H _ I h) fun v s1 hz=>?_)
 obtain⟨x,H1,I1,r1,q1⟩:=hz
 obtain⟨c,rfl,q1⟩:=q1
 cases r1
 refine wpAny_truthy_bool ?_
 cases c with
 | true=>exact hb pins s1 σ H1 Q I1 q1
 | false=>exact⟨.bl false,H1,I1,rfl,q1⟩
def tIf(t:TT)(ta tb:TE):TE:=fun σ H Q=>t σ H fun c H1=>if c=true then ta σ H1 Q else tb σ H1 Q
theorem z4v{c:Expr}(hc:PT X c tA)(ha:PE X a ta)(hb:PE X b tb):PE X (.IfExp c a b pos) (tIf tA ta tb):=by
 intro pins s σ H Q I h
 refine wpAny_IfExp (thn (hc pins s σ H _ I h) fun d s1 hz=>?_)
 obtain⟨H1,I1,q1⟩:=hz
 cases d with
 | true=>exact ha pins s1 σ H1 Q I1 q1
 | false=>exact hb pins s1 σ H1 Q I1 q1
end
def SqL(K:PySem.W.Frag)(H:Hp)(a:Addr)(xs:List V):Prop:=
 Rd H a (.lst xs)\/
  ∃(o:Obj) (its:Array Value) (n:Nat),K.lookup a=some o/\o.cls=.type "list"/\o.dict=none/\o.data=.seq its n/\its.size≤sizeLine/\Vals xs its.toList
def SqT(K:PySem.W.Frag)(H:Hp)(a:Addr)(xs:List V):Prop:=
 Rd H a (.tup xs)\/
  ∃(o:Obj) (its:Array Value) (n:Nat),K.lookup a=some o/\o.cls=.type "tuple"/\o.data=.seq its n/\its.size≤sizeLine/\Vals xs its.toList
def absV:Value->Option V
 | .none=>some .non
 | .bool b=>some (.bl b)
 | .int i _=>some (.int i)
 | .str x _=>some (.str x)
 | .bytes b _=>some (.byt b)
 | .float b _=>some (.flt b)
 | .ref a=>some (.ref a)
 | .type n=>some (.ty n)
 | _=>none
theorem RelV.abs{x:V}{u:Value}(r:RelV x u):absV u=some x:=by
 cases x with
 | non=>cases r;rfl
 | bl _=>cases r;rfl
 | int _=>obtain⟨t,rfl⟩:=r;rfl
 | str _=>obtain⟨t,rfl⟩:=r;rfl
 | byt _=>obtain⟨t,rfl⟩:=r;rfl
 | flt _=>obtain⟨t,rfl⟩:=r;rfl
 | ref _=>cases r;rfl
 | ty _=>cases r;rfl
theorem RelV.inj{x y:V}{u:Value}(r:RelV x u)(q:RelV y u):x=y:=Option.some.inj (r.abs.symm.trans q.abs)
theorem Vals.inj:∀{xs ys:List V}{us:List Value},Vals xs us->Vals ys us->xs=ys
 | _,_,_,.nil,.nil=>rfl
 | _,_,_,.cons r t,.cons r' t'=>by rw[r.inj r',Vals.inj t t']
section
variable{X:Cx}{pins:List (Addr×Obj)}{σ:St}{H:Hp}{s:Shared}{a:Addr}{xs ys:List V}
theorem SqL.of{K:PySem.W.Frag}(h:H a=some (.lst xs)):SqL K H a xs:=.inl (.inl h)
theorem SqT.of{K:PySem.W.Frag}(h:H a=some (.tup xs)):SqT K H a xs:=.inl (.inl h)
theorem Inv.list(I:Inv X pins σ H s)(h:SqL X.K H a xs):∃its:List Value,Vals xs its/\PlainL s.heap a its.toArray/\xs.length≤sizeLine:=by
 rcases h with h|⟨o,its,n,hk,hc,hd,hs,hz,r⟩
 ·obtain⟨z,its,n,r,e⟩:=h.ok I.hok
  exact⟨its,r,⟨_,n,e,rfl,rfl,rfl⟩,z⟩
 ·refine⟨its.toList,r,⟨o,n,I.kIn a o hk,hc,hd,by simpa using hs⟩,?_⟩
  have e:=r.length
  simp only[eM] at e
  omega
theorem Inv.tuple(I:Inv X pins σ H s)(h:SqT X.K H a xs):∃its:List Value,Vals xs its/\IsTup s.heap a its.toArray/\xs.length≤sizeLine:=by
 rcases h with h|⟨o,its,n,hk,hc,hs,hz,r⟩
 ·obtain⟨z,its,r,p⟩:=h.ok I.hok
  exact⟨its,r,PlT.tup p,z⟩
 ·refine⟨its.toList,r,⟨o,I.kIn a o hk,hc,n,by simpa using hs⟩,?_⟩
  have e:=r.length
  simp only[eM] at e
  omega
theorem Inv.X6(I:Inv X pins σ H s)(h:SqL X.K H a xs)(h':SqL X.K H a ys):xs=ys:=by
 obtain⟨its,r,⟨o,n,e,_,_,d⟩,_⟩:=I.list h
 obtain⟨its',r',⟨o',n',e',_,_,d'⟩,_⟩:=I.list h'
 rw[e] at e';cases e'
 rw[d] at d'
 injection d' with d1 _
 have:its=its':=by simpa using congrArg Array.toList d1
 subst this
 exact r.inj r'
theorem Inv.T1(I:Inv X pins σ H s)(h:SqT X.K H a xs)(h':SqT X.K H a ys):xs=ys:=by
 obtain⟨its,r,⟨o,e,_,n,d⟩,_⟩:=I.tuple h
 obtain⟨its',r',⟨o',e',_,n',d'⟩,_⟩:=I.tuple h'
 rw[e] at e';cases e'
 rw[d] at d'
 injection d' with d1 _
 have:its=its':=by simpa using congrArg Array.toList d1
 subst this
 exact r.inj r'
end
abbrev Cx.M9(X:Cx)(E:Value->Shared->Prop):Cx:={ X with xe:=E }
abbrev Cx.nox(X:Cx):Cx:=X.M9 fun _ _=>False
theorem Cx.Ok.M9{X:Cx}(ok:X.Ok)(E:Value->Shared->Prop):(X.M9 E).Ok:=
 ⟨ok.mod,ok.kind,ok.glob,ok.blt,ok.above,ok.inj,ok.has,ok.cab,ok.hd,ok.frames,ok.stk,ok.exf,ok.bs,ok.bsz,ok.noex,ok.exfs,ok.Q7,ok.frf⟩
theorem Cx.Ok.J4{X:Cx}{E:Value->Shared->Prop}(ok:(X.M9 E).Ok):X.Ok:=
 ⟨ok.mod,ok.kind,ok.glob,ok.blt,ok.above,ok.inj,ok.has,ok.cab,ok.hd,ok.frames,ok.stk,ok.exf,ok.bs,ok.bsz,ok.noex,ok.exfs,ok.Q7,ok.frf⟩
section
variable{X:Cx}{pins:List (Addr×Obj)}{σ:St}{H:Hp}{s:Shared}{E:Value->Shared->Prop}
theorem Inv.M9(I:Inv X pins σ H s)(E:Value->Shared->Prop):Inv (X.M9 E) pins σ H s:=⟨I.ok.M9 E,I.os,I.bare,I.base,I.loc,I.cell,I.free,I.freeC,I.pin,I.hok,I.len⟩
theorem Inv.J4(I:Inv (X.M9 E) pins σ H s):Inv X pins σ H s:=⟨I.ok.J4,I.os,I.bare,I.base,I.loc,I.cell,I.free,I.freeC,I.pin,I.hok,I.len⟩
theorem SP.J4{D:Ends}{f:Flow}{s':Shared}(h:SP (X.M9 E) pins D f s'):SP X pins D f s':=by
 cases f with
 | next=>obtain⟨σ',H',I,q⟩:=h;exact⟨σ',H',I.J4,q⟩
 | brk=>obtain⟨σ',H',I,q⟩:=h;exact⟨σ',H',I.J4,q⟩
 | cont=>obtain⟨σ',H',I,q⟩:=h;exact⟨σ',H',I.J4,q⟩
 | ret u=>obtain⟨v,σ',H',I,r,q⟩:=h;exact⟨v,σ',H',I.J4,r,q⟩
theorem PSs.nox{st:List Stmt}{t:TS}(h:PSs X.nox st t):PSs X st t:=fun pins s σ H D I hw=>
 wpAny_mono (h pins s σ H D (I.M9 _) hw) (fun _ _ q=>q.J4) fun _ _ z=>False.elim z
end
section
variable{X:Cx}{st:Stmt}{rest:List Stmt}{t u:TS}{e:Expr}{te:TE}{pos:Pos}
def w0O:TS:=fun D σ H=>D.nx σ H
def tSeq(t u:TS):TS:=fun D σ H=>t { D with nx:=u D } σ H
theorem z0c:PSs X [] w0O:=fun _ _ σ H _ I h=>wpAny_execs_nil ⟨σ,H,I,h⟩
theorem z03(h1:PS X st t)(h2:PSs X rest u):PSs X (st::rest) (tSeq t u):=by
 intro pins s σ H D I h
 refine wpAny_execs_cons (thn (h1 pins s σ H { D with nx:=u D } I h) fun f s1 q=>?_)
 cases f with
 | next=>
  obtain⟨σ',H',I',q⟩:=q
  exact h2 pins s1 σ' H' D I' q
 | ret v=>exact q
 | brk=>exact q
 | cont=>exact q
theorem z05(h1:PS X st t):PSs X [st] t:=by
 intro pins s σ H D I h
 refine wpAny_execs_cons (thn (h1 pins s σ H D I h) fun f s1 q=>?_)
 cases f with
 | next=>exact wpAny_execs_nil q
 | ret v=>exact q
 | brk=>exact q
 | cont=>exact q
def y4y:TS:=fun D σ H=>D.bk σ H
theorem y2J:PS X (.Break pos) y4y:=fun _ _ σ H _ I h=>wpAny_Break ⟨σ,H,I,h⟩
theorem Inv.quiet{pins:List (Addr×Obj)}{σ:St}{H:Hp}{s:Shared}(I:Inv X pins σ H s):interactive X.env=false:=by simp[interactive,I.ok.kind]
def w0V(te:TE):TS:=fun D σ H=>te σ H fun _ H1=>D.nx σ H1
theorem z0n(he:PE X e te)(hs:swapsWith e none pos.line X.env=pure false:=by rfl):PS X (.Expr e pos) (w0V te):=by
 intro pins s σ H D I h
 exact wpAny_Expr_any (thn (he pins s σ H _ I h) fun v s1 ⟨x,H1,I1,r1,q1⟩=>⟨σ,H1,I1,q1⟩) I.quiet hs
def tRet(te:TE):TS:=fun D σ H=>te σ H D.rt
theorem z0h(he:PE X e te):PS X (.Return (some e) pos) (tRet te):=by
 intro pins s σ H D I h
 exact wpAny_Return_some (thn (he pins s σ H _ I h) fun v s1 ⟨x,H1,I1,r1,q1⟩=>⟨x,σ,H1,I1,r1,q1⟩)
def tIfS(c:TT)(t u:TS):TS:=fun D σ H=>c σ H fun b H1=>if b=true then t D σ H1 else u D σ H1
theorem z0v{c:Expr}{a b:List Stmt}{tc:TT}(hc:PT X c tc)(ha:PSs X a t)(hb:PSs X b u):PS X (.If c a b pos) (tIfS tc t u):=by
 intro pins s σ H D I h
 refine wpAny_If (thn (hc pins s σ H _ I h) fun d s1 hz=>?_)
 obtain⟨H1,I1,q1⟩:=hz
 cases d with
 | true=>exact ha pins s1 σ H1 D I1 q1
 | false=>exact hb pins s1 σ H1 D I1 q1
def y4K:TS:=fun _ _ _=>False
theorem z1i:PS X st y4K:=fun _ _ _ _ _ _ h=>h.elim
end
abbrev TG:=V->St->Hp->(St->Hp->Prop)->Prop
abbrev TGs:=List V->St->Hp->(St->Hp->Prop)->Prop
def PG(X:Cx)(target:Expr)(t:TG):Prop:=
 ∀(pins:List (Addr×Obj)) (s:Shared) (σ:St) (H:Hp) (v:V) (u:Value) (Q:St->Hp->Prop),Inv X pins σ H s->RelV v u->t v σ H Q->
  wpAny (model X.prog X.w) X.A (assign target X.env u) (fun _ s'=>∃σ' H',Inv X pins σ' H' s'/\Q σ' H') X.xe s
def PGs(X:Cx)(ts:List Expr)(t:TGs):Prop:=
 ∀(pins:List (Addr×Obj)) (s:Shared) (σ:St) (H:Hp) (vs:List V) (us:List Value) (Q:St->Hp->Prop),Inv X pins σ H s->Vals vs us->t vs σ H Q->
  wpAny (model X.prog X.w) X.A (assignInOrder ((assignEach ts X.env).map (·.2)) us) (fun _ s'=>∃σ' H',Inv X pins σ' H' s'/\Q σ' H') X.xe s
abbrev w0x:=V->V->V->Hp->(Hp->Prop)->Prop
def PSet(X:Cx)(t:w0x):Prop:=
 ∀(pins:List (Addr×Obj)) (s:Shared) (σ:St) (H:Hp) (o i v:V) (ov iv u:Value) (Q:Hp->Prop),Inv X pins σ H s->RelV o ov->RelV i iv->RelV v u->t o i v H Q->
  wpAny (model X.prog X.w) X.A (setItem ov iv u) (fun _ s'=>∃H',Inv X pins σ H' s'/\Q H') X.xe s
section
variable{X:Cx}{pos:Pos}
def y0J(i:Nat):TG:=fun v σ H Q=>Q (σ.set i (some v)) H
theorem z0o{i:Nat}{x:Str}(hN:X.N.Nodup)(hi:X.N[i]? = some x)(hx:Loc X.env.scope x)(hf:X.fn x=true\/X.env.scope.names.lookup x=some .local:=by first|exact .inl rfl|exact .inr rfl|assumption):PG X (.Name x pos) (y0J i):=by
 intro pins s σ H v u Q I r h
 exact wpAny_assign_Name (z7y I hN hi hx r (fun s' I'=>⟨_,H,I',h⟩) hf)
def w0i:TGs:=fun vs σ H Q=>vs=[]/\Q σ H
def y43(t:TG)(u:TGs):TGs:=fun vs σ H Q=>∃v r,vs=v::r/\t v σ H fun σ' H'=>u r σ' H' Q
theorem z61:PGs X [] w0i:=by
 intro pins s σ H vs us Q I r h
 obtain⟨e,h⟩:=h
 subst e
 cases r
 exact assignInOrder_nil ⟨σ,H,I,h⟩
theorem z1Z{e:Expr}{es:List Expr}{t:TG}{u:TGs}(h1:PG X e t)(h2:PGs X es u)
  (hs:(assignEach (e::es) X.env).map (·.2)=assign e X.env::(assignEach es X.env).map (·.2):=by rfl):PGs X (e::es) (y43 t u):=by
 intro pins s σ H vs us Q I r h
 obtain⟨v,vr,e1,h⟩:=h
 subst e1
 cases r with
 | cons r rr=>
  rw[hs]
  refine assignInOrder_cons (thn (h1 pins s σ H _ _ _ I r h) fun _ s1 hz=>?_)
  obtain⟨σ1,H1,I1,q1⟩:=hz
  exact h2 pins s1 σ1 H1 _ _ Q I1 rr q1
def w03(K:PySem.W.Frag)(n:Nat)(t:TGs):TG:=fun v σ H Q=>∃a xs,v=.ref a/\SqT K H a xs/\xs.length=n/\t xs σ H Q
theorem y4C{es:List Expr}{k:Nat}{t:TGs}{n:Nat}(hc:X.calm=true)(h:PGs X es t)
  (hn:(assignEach es X.env).length=n:=by rfl) (hst:(assignEach es X.env).findIdx? (·.1)=none:=by rfl):PG X (.Tuple es k pos) (w03 X.K n t):=by
 intro pins s σ H v u Q I r hw
 obtain⟨a,xs,e1,hq,hl,hw⟩:=hw
 subst e1
 cases r
 obtain⟨its,rv,ht,hz⟩:=I.tuple hq
 refine assign_Tuple_tuple (I.ok.hd hc) ht (by simp[hn,<- hl,rv.length]) hst fun h' hx=>?_
 have I1:Inv X pins σ H { s with heap:=h' }:=I.kept (t':=s.toks) fun b o e=>hx b o (c9 (bK e)) e
 exact h pins _ σ H xs _ Q I1 (by simpa using rv) hw
def gSub(to ti:TE)(t:w0x):TG:=fun v σ H Q=>to σ H fun o H1=>ti σ H1 fun i H2=>t o i v H2 fun H3=>Q σ H3
theorem y4t{o i:Expr}{to ti:TE}{t:w0x}(ho:PE X o to)(hi:PE X i ti)(hs:PSet X t)
  (ha:∀v,assign (.Subscript o i pos) X.env v=(do
   let ov <- holding [v] (eval o X.env)
   let iv <- holding [v,ov] (eval i X.env)
   standAt pos
   holding [v,ov,iv] (setItem ov iv v)
   release [v,ov,iv] []):=by intro _;rfl):PG X (.Subscript o i pos) (gSub to ti t):=by
 intro pins s σ H v u Q I r h
 rw[ha]
 refine wpAny_bind (wpAny_holding (thn (ho pins s σ H _ I h) fun ov s1 hz=>?_))
 obtain⟨x,H1,I1,r1,q1⟩:=hz
 refine wpAny_bind (wpAny_holding (thn (hi pins s1 σ H1 _ I1 q1) fun iv s2 hz=>?_))
 obtain⟨y,H2,I2,r2,q2⟩:=hz
 refine wpAny_bind (wpAny_standAt (wpAny_bind (wpAny_holding (thn (hs pins s2 σ H2 x y v ov iv u _ I2 r1 r2 r q2) fun _ s3 hz=>?_))))
 obtain⟨H3,I3,q3⟩:=hz
 exact wpAny_release ⟨σ,H3,I3,q3⟩
def w0C(te:TE)(g:TG):TS:=fun D σ H=>te σ H fun x H1=>g x σ H1 D.nx
theorem y4J{tg e:Expr}{te:TE}{g:TG}(he:PE X e te)(hg:PG X tg g)(hs:swapsWithSole [tg] e pos.line X.env=pure false:=by rfl)(hw:swappedStores [tg] e X.env=pure none:=by rfl)
  (h1:(assignEach [tg] X.env).map (·.2)=[assign tg X.env]:=by rfl):PS X (.Assign [tg] e pos) (w0C te g):=by
 intro pins s σ H D I h
 refine wpAny_Assign_stores (thn (he pins s σ H _ I h) fun v s1 hz=>?_) hs hw
 obtain⟨x,H1,I1,r1,q1⟩:=hz
 rw[h1]
 exact thn (hg pins s1 σ H1 x v _ I1 r1 q1) fun _ s2 q=>q
theorem z0e{i:Nat}{x:Str}{e:Expr}{te:TE}{pos':Pos}(hN:X.N.Nodup)(hi:X.N[i]? = some x)(hx:Loc X.env.scope x)(he:PE X e te)(hs:swapsWith e (some (.Name x pos')) pos.line X.env=pure false:=by rfl)(hf:X.fn x=true\/X.env.scope.names.lookup x=some .local:=by first|exact .inl rfl|exact .inr rfl|assumption) :
  PS X (.Assign [.Name x pos'] e pos) (w0C te (y0J i)):=by
 intro pins s σ H D I h
 refine wpAny_Assign_Name (thn (he pins s σ H _ I h) fun v s1 hz=>?_) hs
 obtain⟨y,H1,I1,r1,q1⟩:=hz
 exact z7y I1 hN hi hx r1 (fun s2 I2=>⟨_,H1,I2,q1⟩) hf
end
section
variable{X:Cx}{pos:Pos}
end
structure It where
 go:Nat->Hp->Prop
 yld:Nat->Hp->V->Hp->Prop
 stop:Nat->Hp->Prop
def S2(X:Cx)(pins:List (Addr×Obj))(H:Hp)(b:Addr):Prop:=
 H b=none/\b≠X.env.locals/\b∉X.fs/\(b∈X.ex\/X.s₀.heap.objs.size≤b)/\(∀x c,X.env.cells.lookup x=some c->c≠b)/\∀p∈X.pn++pins,p.1≠b
theorem Inv.T7{X:Cx}{pins:List (Addr×Obj)}{σ:St}{H H':Hp}{s:Shared}{b:Addr}(I:Inv X pins σ H s)(hb:s.heap.objs.size≤b)(hn:H' b=none):S2 X pins H' b:=by
 refine⟨hn,fP (cH I.lt hb),I.nofs hb,.inr (cC I.sz hb),fun x c e z=>?_,fun p hp z=>?_⟩
 ·obtain⟨v,q⟩:=I.cell x c e
  exact absurd (cH q.lt (by rw[z];exact hb)) (cV _)
 ·exact absurd (cH (bK (I.pin p hp).1) (by rw[z];exact hb)) (cV _)
structure Turn(P:Program)(w:World)(K:PySem.W.Frag)(tg:Expr)(J:It)(fp:List Addr)(it:Addr)(tn:Nat->Heap->Prop):Prop where
 mem:it∈fp
 obj:∀i h,tn i h->∀b∈fp,∃o,h.get? b=some o/\∀v,o.data≠.cell v
 keep:∀i h h',tn i h->(∀b∈fp,∀o,h.get? b=some o->h'.get? b=some o)->tn i h'
 item:∀(X:Cx),X.prog=P->X.w=w->X.K=K->X.calm=true->∀(i:Nat) (pins:List (Addr×Obj)) (s:Shared) (σ:St) (H:Hp) (E:Value->Shared->Prop),Inv X pins σ H s->(∀b∈fp,S2 X pins H b)->tn i s.heap->J.go i H->
  wpAny (model P w) X.A (pyNext (.ref it)) (fun r s1=>∃u,r=some u/\
   wpAny (model P w) X.A (letOwnedTupleGo tg (.ref it) u) (fun _ s2=>∃x H',Inv X pins σ H' s2/\RelV x u/\J.yld i H x H'/\tn (i+1) s2.heap/\∀b∈fp,H' b=none) E s1) E s
 done:∀(X:Cx),X.prog=P->X.w=w->X.K=K->X.calm=true->∀(i:Nat) (pins:List (Addr×Obj)) (s:Shared) (σ:St) (H:Hp) (E:Value->Shared->Prop),Inv X pins σ H s->(∀b∈fp,S2 X pins H b)->tn i s.heap->J.stop i H->
  wpAny (model P w) X.A (pyNext (.ref it)) (fun r s1=>r=none/\Inv X pins σ H s1) E s
 self:∀(A:Around) (i:Nat) (s:Shared) (Q:Value->Shared->Prop) (E:Value->Shared->Prop),tn i s.heap->Q (.ref it) s->wpAny (model P w) A (pyIter (.ref it)) Q E s
abbrev TI:=St->Hp->(It->Hp->Prop)->Prop
def PIE(X:Cx)(pins:List (Addr×Obj))(σ:St)(tg:Expr)(R:It->Hp->Prop)(itv:Value)(s2:Shared):Prop:=
 ∃(it:Addr) (fp:List Addr) (tn:Nat->Heap->Prop) (J:It) (H':Hp),itv=.ref it/\Inv X pins σ H' s2/\Turn X.prog X.w X.K tg J fp it tn/\tn 0 s2.heap/\(∀b∈fp,S2 X pins H' b)/\R J H'
def PI(X:Cx)(tg iter:Expr)(wi:TI):Prop:=
 ∀(pins:List (Addr×Obj)) (s:Shared) (σ:St) (H:Hp) (R:It->Hp->Prop),Inv X pins σ H s->wi σ H R->
  wpAny (model X.prog X.w) X.A (eval iter X.env) (fun v s1=>wpAny (model X.prog X.w) X.A (pyIter v) (PIE X pins σ tg R) X.xe s1) X.xe s
theorem y0u {M : Model} {A : Around} {E : Value -> Shared -> Prop} {s : Shared} {tg : Expr} {it : Addr} {u : Value} {o : Obj} {n : String} {vs : Array Value} {Q : Unit -> Shared -> Prop} (ho : s.heap.get? it = some o) (hc : o.cls = .type n) (hd : o.data = .fields vs)
    (hn : ["enumerate", "zip", "dict_itemiterator", "dict_reverseitemiterator", "odict_iterator", "itertools.zip_longest", "itertools.pairwise"].contains n = false) (hQ : Q () s) : wpAny M A (letOwnedTupleGo tg (.ref it) u) Q E s := by
  unfold letOwnedTupleGo
  cases tg <;> first
    | exact wpAny_pure hQ
    | (cases u <;> first
        | exact wpAny_pure hQ
        | (refine wpAny_bind (wpAny_load ho ?_)
           rw [hc, hd]
           show wpAny M A (if (["enumerate", "zip", "dict_itemiterator", "dict_reverseitemiterator", "odict_iterator", "itertools.zip_longest", "itertools.pairwise"].contains n && vs[0]? == some (rawInt _)) = true then _ else _) Q E s
           rw [if_neg (by intro h; rw [hn, Bool.false_and] at h; cases h)]
           exact wpAny_pure hQ))
def Itl(K:PySem.W.Frag)(a:Addr):It:=
 ⟨fun i H=>∃xs x,SqL K H a xs/\xs[i]? = some x,fun i H x H'=>H'=H/\∀xs,SqL K H a xs->xs[i]? = some x,fun i H=>∃xs,SqL K H a xs/\xs.length≤i⟩
def Itt(K:PySem.W.Frag)(a:Addr):It:=
 ⟨fun i H=>∃xs x,SqT K H a xs/\xs[i]? = some x,fun i H x H'=>H'=H/\∀xs,SqT K H a xs->xs[i]? = some x,fun i H=>∃xs,SqT K H a xs/\xs.length≤i⟩
def Itr(lo:Int)(n:Nat):It:=⟨fun i _=>i<n,fun i H x H'=>H'=H/\x=.int (lo+i),fun i _=>n≤i⟩
theorem z83{P:Program}{w:World}{K:PySem.W.Frag}{tg:Expr}(a it:Addr):Turn P w K tg (Itl K a) [it] it (fun i h=>h.IsListIter it a i) where
 mem:=by simp
 obj:=fun i h st b hb=>by
  have e:b=it:=by simpa using hb
  subst e
  obtain⟨o,e,c,d⟩:=st
  exact⟨o,e,fun v z=>by rw[d] at z;cases z⟩
 keep:=fun i h h' st k=>st.at fun o e=>k it (by simp) o e
 item:=by
  intro X hP hw hK hc i pins s σ H E I hf st hg
  subst hP hw hK
  obtain⟨xs,x,hq,hx⟩:=hg
  obtain⟨its,rv,p,hz⟩:=I.list hq
  obtain⟨u,hu,ru⟩:=rv.get hx
  obtain⟨f0,f1,f2,f3,f4,f5⟩:=hf it (by simp)
  refine wpAny_pyNext_list_item st p.isList (x:=u) (by simpa using hu) fun h' st' sb=>?_
  have I1:Inv X pins σ H { s with heap:=h' }:=I.turned (t':=s.toks) (fun b o hb e=>(sb.2 b hb).trans e) f0 f1 f3 f4 f5
  obtain⟨o,e,c,d⟩:=id st'
  exact⟨u,rfl,y0u (s:={ s with heap:=h' }) e c d (by decide) ⟨x,H,I1,ru,⟨rfl,fun ys hy=>by rw[I.X6 hy hq];exact hx⟩,st',fun b hb=>(hf b hb).1⟩⟩
 done:=by
  intro X hP hw hK hc i pins s σ H E I hf st hg
  subst hP hw hK
  obtain⟨xs,hq,hx⟩:=hg
  obtain⟨its,rv,p,hz⟩:=I.list hq
  obtain⟨f0,f1,f2,f3,f4,f5⟩:=hf it (by simp)
  have hl:=rv.length
  exact wpAny_pyNext_list_end (I.ok.hd hc) st p.isList (by simp;omega) fun h' eb=>⟨rfl,I.turned (t':=s.toks) (fun b o hb e=>eb b o hb e) f0 f1 f3 f4 f5⟩
 self:=fun _ _ _ _ _ st h=>wpAny_pyIter_listiter st h
theorem z6R{P:Program}{w:World}{K:PySem.W.Frag}{tg:Expr}(a it:Addr):Turn P w K tg (Itt K a) [it] it (fun i h=>h.IsTupleIter it a i) where
 mem:=by simp
 obj:=fun i h st b hb=>by
  have e:b=it:=by simpa using hb
  subst e
  obtain⟨o,e,c,d⟩:=st
  exact⟨o,e,fun v z=>by rw[d] at z;cases z⟩
 keep:=fun i h h' st k=>st.at fun o e=>k it (by simp) o e
 item:=by
  intro X hP hw hK hc i pins s σ H E I hf st hg
  subst hP hw hK
  obtain⟨xs,x,hq,hx⟩:=hg
  obtain⟨its,rv,p,hz⟩:=I.tuple hq
  obtain⟨u,hu,ru⟩:=rv.get hx
  obtain⟨f0,f1,f2,f3,f4,f5⟩:=hf it (by simp)
  refine wpAny_pyNext_tuple_item st (show s.heap.IsTuple a its.toArray from p) (x:=u) (by simpa using hu) fun h' st' sb=>?_
  have I1:Inv X pins σ H { s with heap:=h' }:=I.turned (t':=s.toks) (fun b o hb e=>(sb.2 b hb).trans e) f0 f1 f3 f4 f5
  obtain⟨o,e,c,d⟩:=id st'
  exact⟨u,rfl,y0u (s:={ s with heap:=h' }) e c d (by decide) ⟨x,H,I1,ru,⟨rfl,fun ys hy=>by rw[I.T1 hy hq];exact hx⟩,st',fun b hb=>(hf b hb).1⟩⟩
 done:=by
  intro X hP hw hK hc i pins s σ H E I hf st hg
  subst hP hw hK
  obtain⟨xs,hq,hx⟩:=hg
  obtain⟨its,rv,p,hz⟩:=I.tuple hq
  obtain⟨f0,f1,f2,f3,f4,f5⟩:=hf it (by simp)
  have hl:=rv.length
  exact wpAny_pyNext_tuple_end (I.ok.hd hc) st (show s.heap.IsTuple a its.toArray from p) (by simp;omega) fun h' eb=>⟨rfl,I.turned (t':=s.toks) (fun b o hb e=>eb b o hb e) f0 f1 f3 f4 f5⟩
 self:=fun _ _ _ _ _ st h=>wpAny_pyIter_tupleiter st h
theorem y0m{P:Program}{w:World}{K:PySem.W.Frag}{tg:Expr}(it:Addr)(lo:Int)(n:Nat):Turn P w K tg (Itr lo n) [it] it (fun i h=>IsRangeIter h it (lo+(i:Nat)*1) ((n:Int)-(i:Nat)) 1) where
 mem:=by simp
 obj:=fun i h st b hb=>by
  have e:b=it:=by simpa using hb
  subst e
  exact⟨_,st,fun v z=>by
   have z':Data.fields _=Data.cell v:=z
   cases z'⟩
 keep:=fun i h h' st k=>k it (by simp) _ st
 item:=by
  intro X hP hw hK hc i pins s σ H E I hf st hg
  subst hP hw hK
  obtain⟨f0,f1,f2,f3,f4,f5⟩:=hf it (by simp)
  have W:=Walks.range (prog:=X.prog) (w:=X.w) (I.ok.hd hc) it lo 1 n
  refine W.item i s _ _ hg st fun v h' tk hv st' kk=>?_
  obtain⟨t,rfl⟩:=hv
  have I1:Inv X pins σ H { s with heap:=h',toks:=tk }:=I.turned (fun b o hb e=>kk b o (by simpa using hb) e) f0 f1 f3 f4 f5
  refine⟨_,rfl,y0u (s:={ s with heap:=h',toks:=tk }) (n:="range_iterator") st' rfl rfl (by decide) ⟨.int (lo+i),H,I1,⟨t,?_⟩,⟨rfl,rfl⟩,st',fun b hb=>(hf b hb).1⟩⟩
  rw[Int.mul_one]
 done:=by
  intro X hP hw hK hc i pins s σ H E I hf st hg
  subst hP hw hK
  obtain⟨f0,f1,f2,f3,f4,f5⟩:=hf it (by simp)
  exact wpAny_pyNext_range_end (I.ok.hd hc) st (by have:n≤i:=hg;omega) fun h' eb=>⟨rfl,I.turned (t':=s.toks) (fun b o hb e=>eb b o hb e) f0 f1 f3 f4 f5⟩
 self:=fun _ _ _ _ _ st h=>wpAny_pyIter_rangeiter st h
section
variable{X:Cx}{tg:Expr}
def w1j(K:PySem.W.Frag)(tl:TE):TI:=fun σ H R=>tl σ H fun x H1=>∃a,x=.ref a/\(∃xs,SqL K H1 a xs)/\R (Itl K a) H1
def iTup(K:PySem.W.Frag)(tl:TE):TI:=fun σ H R=>tl σ H fun x H1=>∃a,x=.ref a/\(∃xs,SqT K H1 a xs)/\R (Itt K a) H1
theorem z16{l:Expr}{tl:TE}(hl:PE X l tl):PI X tg l (w1j X.K tl):=by
 intro pins s σ H R I h
 refine thn (hl pins s σ H _ I h) fun v s1 hz=>?_
 obtain⟨x,H1,I1,r1,q1⟩:=hz
 obtain⟨a,e,⟨xs,hq⟩,q⟩:=q1
 subst e
 cases r1
 obtain⟨its,rv,p,hz⟩:=I1.list hq
 refine wpAny_pyIter_list p.isList ?_
 refine⟨s1.heap.objs.size,[s1.heap.objs.size],_,_,H1,rfl,I1.kept (t':=s1.toks) fun b o e=>bB _ e,z83 a _,⟨_,bJ _ rfl,rfl,rfl⟩,fun b hb=>?_,q⟩
 have e:b=s1.heap.objs.size:=by simpa using hb
 subst e
 exact I1.T7 (bF _) (I1.hok.fresh (bF _))
theorem y3i{l:Expr}{tl:TE}(hl:PE X l tl):PI X tg l (iTup X.K tl):=by
 intro pins s σ H R I h
 refine thn (hl pins s σ H _ I h) fun v s1 hz=>?_
 obtain⟨x,H1,I1,r1,q1⟩:=hz
 obtain⟨a,e,⟨xs,hq⟩,q⟩:=q1
 subst e
 cases r1
 obtain⟨its,rv,p,hz⟩:=I1.tuple hq
 refine wpAny_pyIter_tuple (show s1.heap.IsTuple a its.toArray from p) ?_
 refine⟨s1.heap.objs.size,[s1.heap.objs.size],_,_,H1,rfl,I1.kept (t':=s1.toks) fun b o e=>bB _ e,z6R a _,⟨_,bJ _ rfl,rfl,rfl⟩,fun b hb=>?_,q⟩
 have e:b=s1.heap.objs.size:=by simpa using hb
 subst e
 exact I1.T7 (bF _) (I1.hok.fresh (bF _))
theorem z9w{pins:List (Addr×Obj)}{σ:St}{H:Hp}{s:Shared}{R:It->Hp->Prop}{E:Value->Shared->Prop}{lo hi:Int}{t u v:Tok}{tk:Nat}(I:Inv X pins σ H s)(h1:-(2^62)≤lo)(h2:lo<2^62)(h3:-(2^62)≤hi)(h4:hi<2^62)
  (q:R (Itr lo (hi-lo).toNat) H):wpAny (model X.prog X.w) X.A (pyIter (.ref s.heap.objs.size)) (PIE X pins σ tg R) E { s with heap:=s.heap.push { cls:=.type "range",data:=.fields #[.int lo t,.int hi u,.int 1 v] },toks:=tk }:=by
 refine wpAny_pyIter_range (IsRange.new ..) (small_one h1 h2 h3 h4) ?_
 have I1:Inv X pins σ H { s with heap:=s.heap.push { cls:=.type "range",data:=.fields #[.int lo t,.int hi u,.int 1 v] },toks:=tk }:=I.kept fun b o e=>bB _ e
 refine⟨(s.heap.push { cls:=.type "range",data:=.fields #[.int lo t,.int hi u,.int 1 v] }).objs.size,[(s.heap.push { cls:=.type "range",data:=.fields #[.int lo t,.int hi u,.int 1 v] }).objs.size],_,_,H,rfl,
  I1.kept (t':=tk) fun b o e=>bB _ e,y0m _ lo (hi-lo).toNat,?_,fun b hb=>?_,q⟩
 ·have e1:lo+((0:Nat):Int)*1=lo:=by simp
  have e2:(((hi-lo).toNat:Nat):Int)-((0:Nat):Int)=Builtin.Range.rangeSize lo hi 1:=by rw[rangeSize_one];split<;>omega
  show IsRangeIter _ _ (lo+((0:Nat):Int)*1) ((((hi-lo).toNat:Nat):Int)-((0:Nat):Int)) 1
  rw[e1,e2]
  exact bJ _ rfl
 ·have e:b=(s.heap.push { cls:=.type "range",data:=.fields #[.int lo t,.int hi u,.int 1 v] }).objs.size:=by simpa using hb
  subst e
  exact I1.T7 (bF _) (I1.hok.fresh (bF _))
def w15(ta:TA):TI:=fun σ H R=>ta σ H fun vs H1=>∃j:Int,vs=[.int j]/\-(2^62)≤j/\j<2^62/\R (Itr 0 j.toNat) H1
def w1F(ta:TA):TI:=fun σ H R=>ta σ H fun vs H1=>∃i j:Int,vs=[.int i,.int j]/\(-(2^62)≤i/\i<2^62/\-(2^62)≤j/\j<2^62)/\R (Itr i (j-i).toNat) H1
theorem z1l{a:Expr}{ta:TA}{p pos:Pos}(hg:Gl X "range")(hm:X.mg "range"=none)(ha:PA X [a] ta)(hs:starEach [a] X.env=[(false,eval a X.env)]:=by rfl):PI X tg (.Call (.Name "range" p) [a] [] pos) (w15 ta):=by
 intro pins s σ H R I h
 refine Call_ (z5i I hg hm boot_range (dA (thn (ha pos pins s σ H _ I h) fun us s1 hz=>?_) hs rfl))
 obtain⟨vs,H1,I1,r1,q1⟩:=hz
 obtain⟨j,e,q1,q2,q⟩:=q1
 subst e
 cases r1 with
 | cons r rr=>
  cases rr
  obtain⟨t,rfl⟩:=r
  exact call_range_1 (z9w I1 (by omega) (by omega) q1 q2 (by simpa using q))
theorem y1G{a b:Expr}{ta:TA}{p pos:Pos}(hg:Gl X "range")(hm:X.mg "range"=none)(ha:PA X [a,b] ta)(hs:starEach [a,b] X.env=[(false,eval a X.env),(false,eval b X.env)]:=by rfl)(hs2:starEach [b] X.env=[(false,eval b X.env)]:=by rfl) :
  PI X tg (.Call (.Name "range" p) [a,b] [] pos) (w1F ta):=by
 intro pins s σ H R I h
 refine Call_ (z5i I hg hm boot_range (dA (thn (ha pos pins s σ H _ I h) fun us s1 ⟨vs,H1,I1,r1,q1⟩=>?_) (by rw[hs,hs2]) (by rw[hs2];rfl)))
 obtain⟨i,j,e,⟨q1,q2,q3,q4⟩,q⟩:=q1
 subst e
 cases r1 with
 | cons r rr=>
  cases rr with
  | cons r' rr=>
   cases rr
   obtain⟨t,rfl⟩:=r
   obtain⟨t',rfl⟩:=r'
   exact call_range_2 (z9w I1 q1 q2 q3 q4 q)
def tFor(wi:TI)(g:TG)(tb:TS):TS:=fun D σ H=>wi σ H fun J H1=>∃W:Nat->Nat->St->Hp->Prop,(∃m,W 0 m σ H1)/\∀i m σ H,W i m σ H->
 (J.stop i H/\D.nx σ H)\/(J.go i H/\∃N:St->Hp->Prop,(∀σ' H',N σ' H'->∃m',m'<m/\W (i+1) m' σ' H')/\∀x H',J.yld i H x H'->g x σ H' fun σ2 H2=>tb { D with nx:=N,ct:=N,bk:=D.nx } σ2 H2)
def z8C(fp:List Addr)(h:Heap):List (Addr×Obj):=fp.filterMap fun b=>(h.get? b).map fun o=>(b,o)
theorem z3L{fp:List Addr}{h:Heap}{b:Addr}{o:Obj}(hb:b∈fp)(e:h.get? b=some o):(b,o)∈z8C fp h:=gQ.mpr ⟨b,hb,by rw[e];rfl⟩
theorem y1N{fp:List Addr}{h:Heap}{p:Addr×Obj}(hp:p∈z8C fp h):p.1∈fp/\h.get? p.1=some p.2:=by
 obtain⟨b,hb,e⟩:=gQ.mp hp
 cases q:h.get? b with
 | none=>rw[q] at e;cases e
 | some o=>
  rw[q] at e
  have e':(b,o)=p:=Option.some.inj e
  subst e'
  exact⟨hb,q⟩
theorem Inv.pinned{pins:List (Addr×Obj)}{σ:St}{H:Hp}{s:Shared}{fp:List Addr}(I:Inv X pins σ H s)(hf:∀b∈fp,S2 X pins H b)(ho:∀b∈fp,∃o,s.heap.get? b=some o/\∀v,o.data≠.cell v):Inv X (pins++z8C fp s.heap) σ H s:=
 I.Q5 fun p hp=>(c8.mp hp).elim (fun z=>I.pin p (c7 _ z)) fun z=>by
  obtain⟨hb,e⟩:=y1N z
  obtain⟨f0,f1,f2,_⟩:=hf p.1 hb
  obtain⟨o,e',d⟩:=ho p.1 hb
  rw[e] at e';cases e'
  exact⟨e,f0,f1,f2,d⟩
theorem Inv.Q8{pins pl:List (Addr×Obj)}{σ:St}{H:Hp}{s:Shared}(I:Inv X (pins++pl) σ H s):Inv X pins σ H s:=I.Q5 fun p hp=>I.pin p (c7 _ (dU _ hp))
theorem z1g{iter:Expr}{body:List Stmt}{wi:TI}{g:TG}{tb:TS}{pos:Pos}(hp:PassesOwn (model X.prog X.w) X.A X.env X.xe)(hc:X.calm=true)(hi:PI X tg iter wi)(hg:PG X tg g)(hb:PSs X body tb)
  (hs:∀x,foldedSetIterable iter X.env x=pure x:=by intro _;rfl):PS X (.For tg iter body [] pos) (tFor wi g tb):=by
 intro pins s σ H D I h
 refine wpAny_For (thn (hi pins s σ H _ I h) fun v s1 h1=>thn h1 fun itv s2 h2=>?_) hs
 obtain⟨it,fp,tn,J,H2,e,I2,T,st2,f2,W,⟨m0,w0⟩,turn⟩:=h2
 subst e
 have w0y:∀{H':Hp},(∀b∈fp,H' b=none)->∀b∈fp,S2 X pins H' b:=fun hn b hb=>⟨hn b hb,(f2 b hb).2⟩
 refine codeAny_forLoop_any (fun n s'=>∃i σ' H',Inv X pins σ' H' s'/\tn i s'.heap/\(∀b∈fp,H' b=none)/\W i n σ' H') ?_ m0 ⟨0,σ,H2,I2,st2,fun b hb=>(f2 b hb).1,w0⟩
 rintro n s3 ⟨i,σ3,H3,I3,st3,fr3,w3⟩
 rcases turn i n σ3 H3 w3 with ⟨stop,qn⟩|⟨go,N,hN,step⟩
 ·refine wpAny_passesOwn hp (thn (T.done X rfl rfl rfl hc i pins s3 σ3 H3 X.xe I3 (w0y fr3) st3 stop) fun r s4 hz=>?_)
  obtain⟨hr,I4⟩:=hz
  subst hr
  exact wpAny_execs_nil ⟨σ3,H3,I4,qn⟩
 ·refine wpAny_passesOwn hp (thn (T.item X rfl rfl rfl hc i pins s3 σ3 H3 X.xe I3 (w0y fr3) st3 go) fun r s4 hz=>?_)
  obtain⟨u,hr,h4⟩:=hz
  subst hr
  refine wpAny_passesOwn hp (thn h4 fun _ s5 hz=>?_)
  obtain⟨x,H5,I5,r5,y5,st5,fr5⟩:=hz
  have I5':=I5.pinned (w0y fr5) (T.obj _ _ st5)
  refine wpAny_passesOwn hp (thn (hg _ s5 σ3 H5 x u _ I5' r5 (step x H5 y5)) fun _ s6 hz=>?_)
  obtain⟨σ6,H6,I6,q6⟩:=hz
  refine wpAny_passesOwn hp (thn (hb _ s6 σ6 H6 _ I6 q6) fun f s7 q7=>?_)
  have again:∀{σ7:St}{H7:Hp},Inv X (pins++z8C fp s5.heap) σ7 H7 s7->N σ7 H7->∃m,m<n/\∃i σ' H',Inv X pins σ' H' s7/\tn i s7.heap/\(∀b∈fp,H' b=none)/\W i m σ' H':=fun {σ7 H7} I7 n7=>by
   obtain⟨m',hm,w7⟩:=hN σ7 H7 n7
   refine⟨m',hm,i+1,σ7,H7,I7.Q8,T.keep _ _ _ st5 fun b hb o e=>(I7.pin (b,o) (c7 _ (c7 _ (z3L hb e)))).1,fun b hb=>?_,w7⟩
   obtain⟨o,e,d⟩:=T.obj _ _ st5 b hb
   exact(I7.pin (b,o) (c7 _ (c7 _ (z3L hb e)))).2.1
  cases f with
  | next=>obtain⟨σ7,H7,I7,n7⟩:=q7;exact again I7 n7
  | cont=>obtain⟨σ7,H7,I7,n7⟩:=q7;exact again I7 n7
  | brk=>obtain⟨σ7,H7,I7,q7⟩:=q7;exact⟨σ7,H7,I7.Q8,q7⟩
  | ret v=>obtain⟨x7,σ7,H7,I7,r7,q7⟩:=q7;exact⟨x7,σ7,H7,I7.Q8,r7,q7⟩
end
theorem z1h{K:PySem.W.Frag}{a:Addr}{xs:List V}{g:TG}{tb:TS}{D:Ends}{σ:St}{H:Hp}(Pv:Nat->St->Hp->Prop)(h0:Pv 0 σ H)(hl:∀i σ H,i≤xs.length->Pv i σ H->SqL K H a xs)
  (hs:∀i x σ H,xs[i]? = some x->Pv i σ H->g x σ H fun σ2 H2=>tb { D with nx:=Pv (i+1),ct:=Pv (i+1),bk:=D.nx } σ2 H2) (hd:∀σ H,Pv xs.length σ H->D.nx σ H) :
  ∃W:Nat->Nat->St->Hp->Prop,(∃m,W 0 m σ H)/\∀i m σ H,W i m σ H->
   ((Itl K a).stop i H/\D.nx σ H)\/((Itl K a).go i H/\∃N:St->Hp->Prop,(∀σ' H',N σ' H'->∃m',m'<m/\W (i+1) m' σ' H')/\∀x H',(Itl K a).yld i H x H'->g x σ H' fun σ2 H2=>tb { D with nx:=N,ct:=N,bk:=D.nx } σ2 H2):=by
 refine⟨fun i m σ H=>m=xs.length-i/\i≤xs.length/\Pv i σ H,⟨xs.length,by simp,cL _,h0⟩,?_⟩
 rintro i m σ H ⟨rfl,hi,p⟩
 have q:=hl i σ H hi p
 by_cases hlt:i<xs.length
 ·refine .inr ⟨⟨xs,xs[i],q,by simp[hlt]⟩,Pv (i+1),fun σ' H' p'=>⟨xs.length-(i+1),by omega,rfl,hlt,p'⟩,fun x H' y=>?_⟩
  obtain⟨e,y⟩:=y
  subst e
  exact hs i x σ _ (y xs q) p
 ·have e:i=xs.length:=by omega
  subst e
  exact .inl ⟨⟨xs,q,bF _⟩,hd σ H p⟩
theorem y3O{K:PySem.W.Frag}{a:Addr}{xs:List V}{g:TG}{tb:TS}{D:Ends}{σ:St}{H:Hp}(Pv:Nat->St->Hp->Prop)(h0:Pv 0 σ H)(hl:∀i σ H,i≤xs.length->Pv i σ H->SqT K H a xs)
  (hs:∀i x σ H,xs[i]? = some x->Pv i σ H->g x σ H fun σ2 H2=>tb { D with nx:=Pv (i+1),ct:=Pv (i+1),bk:=D.nx } σ2 H2) (hd:∀σ H,Pv xs.length σ H->D.nx σ H) :
  ∃W:Nat->Nat->St->Hp->Prop,(∃m,W 0 m σ H)/\∀i m σ H,W i m σ H->
   ((Itt K a).stop i H/\D.nx σ H)\/((Itt K a).go i H/\∃N:St->Hp->Prop,(∀σ' H',N σ' H'->∃m',m'<m/\W (i+1) m' σ' H')/\∀x H',(Itt K a).yld i H x H'->g x σ H' fun σ2 H2=>tb { D with nx:=N,ct:=N,bk:=D.nx } σ2 H2):=by
 refine⟨fun i m σ H=>m=xs.length-i/\i≤xs.length/\Pv i σ H,⟨xs.length,by simp,cL _,h0⟩,?_⟩
 rintro i m σ H ⟨rfl,hi,p⟩
 have q:=hl i σ H hi p
 by_cases hlt:i<xs.length
 ·refine .inr ⟨⟨xs,xs[i],q,by simp[hlt]⟩,Pv (i+1),fun σ' H' p'=>⟨xs.length-(i+1),by omega,rfl,hlt,p'⟩,fun x H' y=>?_⟩
  obtain⟨e,y⟩:=y
  subst e
  exact hs i x σ _ (y xs q) p
 ·have e:i=xs.length:=by omega
  subst e
  exact .inl ⟨⟨xs,q,bF _⟩,hd σ H p⟩
theorem z1H{lo:Int}{n:Nat}{g:TG}{tb:TS}{D:Ends}{σ:St}{H:Hp}(Pv:Nat->St->Hp->Prop)(h0:Pv 0 σ H)
  (hs:∀i σ H,i<n->Pv i σ H->g (.int (lo+i)) σ H fun σ2 H2=>tb { D with nx:=Pv (i+1),ct:=Pv (i+1),bk:=D.nx } σ2 H2) (hd:∀σ H,Pv n σ H->D.nx σ H) :
  ∃W:Nat->Nat->St->Hp->Prop,(∃m,W 0 m σ H)/\∀i m σ H,W i m σ H->
   ((Itr lo n).stop i H/\D.nx σ H)\/((Itr lo n).go i H/\∃N:St->Hp->Prop,(∀σ' H',N σ' H'->∃m',m'<m/\W (i+1) m' σ' H')/\∀x H',(Itr lo n).yld i H x H'->g x σ H' fun σ2 H2=>tb { D with nx:=N,ct:=N,bk:=D.nx } σ2 H2):=by
 refine⟨fun i m σ H=>m=n-i/\i≤n/\Pv i σ H,⟨n,by simp,cL _,h0⟩,?_⟩
 rintro i m σ H ⟨rfl,hi,p⟩
 by_cases hlt:i<n
 ·refine .inr ⟨hlt,Pv (i+1),fun σ' H' p'=>⟨n-(i+1),by omega,rfl,hlt,p'⟩,fun x H' y=>?_⟩
  obtain⟨e,y⟩:=y
  subst e y
  exact hs i σ _ hlt p
 ·have e:i=n:=by omega
  subst e
  exact .inl ⟨bF _,hd σ H p⟩
abbrev R2:=V->V->Hp->VK->Prop
def OpR(X:Cx)(f:Value->Value->Sem Value)(r:R2):Prop:=
 ∀(pins:List (Addr×Obj)) (s:Shared) (σ:St) (H:Hp) (x y:V) (v u:Value) (Q:VK),Inv X pins σ H s->RelV x v->RelV y u->r x y H Q->
  wpAny (model X.prog X.w) X.A (f v u) (EP X pins σ Q) X.xe s
def UnR(X:Cx)(f:Value->Sem Value)(r:V->Hp->VK->Prop):Prop:=
 ∀(pins:List (Addr×Obj)) (s:Shared) (σ:St) (H:Hp) (x:V) (v:Value) (Q:VK),Inv X pins σ H s->RelV x v->r x H Q->
  wpAny (model X.prog X.w) X.A (f v) (EP X pins σ Q) X.xe s
def z2O(X:Cx)(f:Value)(r:List V->Hp->VK->Prop):Prop:=
 ∀(pins:List (Addr×Obj)) (s:Shared) (σ:St) (H:Hp) (xs:List V) (us:List Value) (Q:VK),Inv X pins σ H s->Vals xs us->r xs H Q->
  wpAny (model X.prog X.w) X.A (call f us) (EP X pins σ Q) X.xe s
def tOp(r:R2)(ta tb:TE):TE:=fun σ H Q=>ta σ H fun x H1=>tb σ H1 fun y H2=>r x y H2 Q
def tUn(r:V->Hp->VK->Prop)(ta:TE):TE:=fun σ H Q=>ta σ H fun x H1=>r x H1 Q
def rI(C:Int->Int->Prop)(g:Int->Int->V):R2:=fun x y H Q=>∃i j,x=.int i/\y=.int j/\C i j/\Q (g i j) H
def rI0(g:Int->Int->V):R2:=fun x y H Q=>∃i j,x=.int i/\y=.int j/\Q (g i j) H
def rU(g:Int->V):V->Hp->VK->Prop:=fun x H Q=>∃i,x=.int i/\Q (g i) H
section
variable{X:Cx}{a b c:Expr}{ta tb tc:TE}{pos:Pos}
theorem w0F(ha:PE X a ta)(hb:PE X b tb){pins:List (Addr×Obj)}{s:Shared}{σ:St}{H:Hp}{R:V->V->Hp->Prop}(I:Inv X pins σ H s)
  (h:ta σ H fun x H1=>tb σ H1 fun y H2=>R x y H2) {Q:Value->Shared->Prop}{f:Value->Value->Sem Value}
  (hf:∀v u s2 x y H2,Inv X pins σ H2 s2->RelV x v->RelV y u->R x y H2->wpAny (model X.prog X.w) X.A (f v u) Q X.xe s2) :
  wpAny (model X.prog X.w) X.A (eval a X.env) (fun v s₁=>wpAny (model X.prog X.w) X.A (eval b X.env) (fun u s₂=>wpAny (model X.prog X.w) X.A (f v u) Q X.xe s₂) X.xe s₁) X.xe s:=by
 refine thn (ha pins s σ H _ I h) fun v s1 hz=>?_
 obtain⟨x,H1,I1,r1,q1⟩:=hz
 refine thn (hb pins s1 σ H1 _ I1 q1) fun u s2 hz=>?_
 obtain⟨y,H2,I2,r2,q2⟩:=hz
 exact hf v u s2 x y H2 I2 r1 r2 q2
theorem z0a{op:Operator}{r:R2}(ho:OpR X (binaryOp op) r)(ha:PE X a ta)(hb:PE X b tb):PE X (.BinOp a op b pos) (tOp r ta tb):=by
 intro pins s σ H Q I h
 exact wpAny_BinOp (w0F ha hb I h fun v u s2 x y H2 I2 rx ry q=>ho pins s2 σ H2 x y v u Q I2 rx ry q)
theorem z6G{op:UnaryOp}{r:V->Hp->VK->Prop}(ho:UnR X (unaryOp op) r)(ha:PE X a ta):PE X (.UnaryOp op a pos) (tUn r ta):=by
 intro pins s σ H Q I h
 exact UnaryOp_ (thn (ha pins s σ H _ I h) fun v s1 ⟨x,H1,I1,r1,q1⟩=>ho pins s1 σ H1 x v Q I1 r1 q1)
theorem opI{f:Value->Value->Sem Value}{C:Int->Int->Prop}{g:Int->Int->Int}
  (rule:∀(i j:Int) (t u:Tok) (s:Shared) (Q:Value->Shared->Prop) (E:Value->Shared->Prop),C i j->Q (.int (g i j) s.toks) { s with toks:=s.toks+1 }->wpAny (model X.prog X.w) X.A (f (.int i t) (.int j u)) Q E s) :
  OpR X f (rI C fun i j=>.int (g i j)):=by
 intro pins s σ H x y v u Q I rx ry h
 obtain⟨i,j,rfl,rfl,hc,q⟩:=h
 obtain⟨t,rfl⟩:=rx
 obtain⟨t',rfl⟩:=ry
 exact rule i j t t' s _ _ hc ⟨.int (g i j),H,I.tok _,⟨_,rfl⟩,q⟩
theorem opI0{f:Value->Value->Sem Value}{g:Int->Int->Int}
  (rule:∀(i j:Int) (t u:Tok) (s:Shared) (Q:Value->Shared->Prop) (E:Value->Shared->Prop),Q (.int (g i j) s.toks) { s with toks:=s.toks+1 }->wpAny (model X.prog X.w) X.A (f (.int i t) (.int j u)) Q E s) :
  OpR X f (rI0 fun i j=>.int (g i j)):=by
 intro pins s σ H x y v u Q I rx ry h
 obtain⟨i,j,rfl,rfl,q⟩:=h
 obtain⟨t,rfl⟩:=rx
 obtain⟨t',rfl⟩:=ry
 exact rule i j t t' s _ _ ⟨.int (g i j),H,I.tok _,⟨_,rfl⟩,q⟩
theorem w0m{f:Value->Value->Sem Value}{g:Int->Int->Bool}
  (rule:∀(i j:Int) (t u:Tok) (s:Shared) (Q:Value->Shared->Prop) (E:Value->Shared->Prop),Q (.bool (g i j)) s->wpAny (model X.prog X.w) X.A (f (.int i t) (.int j u)) Q E s) :
  OpR X f (rI0 fun i j=>.bl (g i j)):=by
 intro pins s σ H x y v u Q I rx ry h
 obtain⟨i,j,rfl,rfl,q⟩:=h
 obtain⟨t,rfl⟩:=rx
 obtain⟨t',rfl⟩:=ry
 exact rule i j t t' s _ _ ⟨.bl (g i j),H,I,rfl,q⟩
def CDiv(i j:Int):Prop:=0<j/\j<1073741824
def CPow(i j:Int):Prop:=0≤j/\j≤1000000/\i.natAbs<2^64
def w0z(i j:Int):Prop:=(-(2^64)<i/\i<2^64)\/(-(2^64)<j/\j<2^64)
theorem w0z.ok{i j:Int}(h:w0z i j):IntMulOk i j:=by
 rcases h with ⟨h1,h2⟩|⟨h1,h2⟩
 ·exact .of_left (intBits_le_64 h1 h2)
 ·exact .of_right (intBits_le_64 h1 h2)
theorem z0O:OpR X (binaryOp .Add) (rI0 fun i j=>.int (i+j)):=opI0 fun _ _ _ _ _ _ _ q=>add_int q
theorem z3G:OpR X (binaryOp .Sub) (rI0 fun i j=>.int (i-j)):=opI0 fun _ _ _ _ _ _ _ q=>sub_int q
theorem z4H:OpR X (binaryOp .Mult) (rI w0z fun i j=>.int (i*j)):=opI fun _ _ _ _ _ _ _ hc q=>mul_int q hc.ok
theorem z0y:OpR X (binaryOp .FloorDiv) (rI CDiv fun i j=>.int (i / j)):=opI fun i j _ _ _ _ _ hc q=>by
 have h1:(0:Int)<j:=hc.1
 have h2:j<1073741824:=hc.2
 exact floordiv_int (by omega) (by rw[Int.fdiv_eq_ediv_of_nonneg i (by omega)];exact q) (.inl (PyProof.noPylong_small (by omega)))
theorem z0u:OpR X (binaryOp .Mod) (rI (fun _ j=>0<j) fun i j=>.int (i%j)):=opI fun i j _ _ _ _ _ hc q=>by
 have h1:(0:Int)<j:=hc
 exact mod_int' (by omega) (by rw[Int.fmod_eq_emod_of_nonneg i (by omega)];exact q)
theorem z3X:OpR X (binaryOp .Pow) (rI CPow fun i j=>.int (i^j.toNat)):=opI fun _ _ _ _ _ _ _ hc q=>pow_int_small hc.1 hc.2.1 hc.2.2 q
theorem unI{f:Value->Sem Value}{g:Int->Int}
  (rule:∀(i:Int) (t:Tok) (s:Shared) (Q:Value->Shared->Prop) (E:Value->Shared->Prop),Q (.int (g i) s.toks) { s with toks:=s.toks+1 }->wpAny (model X.prog X.w) X.A (f (.int i t)) Q E s) :
  UnR X f (rU fun i=>.int (g i)):=by
 intro pins s σ H x v Q I rx h
 obtain⟨i,rfl,q⟩:=h
 obtain⟨t,rfl⟩:=rx
 exact rule i t s _ _ ⟨.int (g i),H,I.tok _,⟨_,rfl⟩,q⟩
theorem z3W:UnR X (unaryOp .USub) (rU fun i=>.int (-i)):=unI fun _ _ _ _ _ q=>neg_int q
end
def w0s:V->V->Bool
 | .non,.non=>true|.non,.int _=>true|.int _,.non=>true|.non,.bl _=>true|.bl _,.non=>true|.non,.str _=>true|.str _,.non=>true
 | .int _,.int _=>true|.bl _,.bl _=>true|.str _,.str _=>true|.byt _,.byt _=>true
 | .int _,.str _=>true|.str _,.int _=>true|.bl _,.str _=>true|.str _,.bl _=>true
 | _,_=>false
def rEq:R2:=fun x y H Q=>w0s x y=true/\Q (.bl (decide (x=y))) H
def rNe:R2:=fun x y H Q=>w0s x y=true/\Q (.bl (!decide (x=y))) H
theorem y0O{i j:Int}:decide (V.int i=V.int j)=(i == j):=by
 rw[cZ]
 simp
theorem y39{i j:Bool}:decide (V.bl i=V.bl j)=(i == j):=by
 rw[cZ]
 simp
theorem y1E{i j:Str}:decide (V.str i=V.str j)=(i == j):=by
 rw[cZ]
 simp
theorem y21{i j:Array UInt8}:decide (V.byt i=V.byt j)=(i.toList == j.toList):=by
 rw[cZ]
 cases i
 cases j
 simp
section
variable{X:Cx}{a b c:Expr}{ta tb tc:TE}{pos:Pos}
theorem z0Y{pins:List (Addr×Obj)}{σ:St}{H:Hp}{s:Shared}{Q:VK}{k k':Bool}(I:Inv X pins σ H s)(q:Q (.bl k) H)(e:k=k'):EP X pins σ Q (.bool k') s:=by
 subst e
 exact⟨.bl k,H,I,rfl,q⟩
theorem z1w:OpR X (compareOp .Eq) rEq:=by
 intro pins s σ H x y v u Q I rx ry h
 obtain⟨hs,q⟩:=h
 cases x with
 | non=>
  cases rx
  cases y with
  | non=>cases ry;exact PySem.EqNone.eq_none_none (z0Y I q (by simp))
  | bl j=>cases ry;exact PySem.EqNone.eq_none_bool (z0Y I q (by simp))
  | int j=>obtain⟨t',rfl⟩:=ry;exact PySem.EqNone.eq_none_int (z0Y I q (by simp))
  | str j=>obtain⟨t',rfl⟩:=ry;exact PySem.EqNone.eq_none_str (z0Y I q (by simp))
  | _=>exact absurd (show false=true from hs) bN
 | bl i=>
  cases rx
  cases y with
  | non=>cases ry;exact PySem.EqNone.eq_bool_none (z0Y I q (by simp))
  | bl j=>cases ry;exact eq_bool (z0Y I q y39)
  | str j=>obtain⟨t',rfl⟩:=ry;exact PySem.EqMixed.eq_bool_str (z0Y I q (by simp))
  | _=>exact absurd (show false=true from hs) bN
 | int i=>
  obtain⟨t,rfl⟩:=rx
  cases y with
  | non=>cases ry;exact PySem.EqNone.eq_int_none (z0Y I q (by simp))
  | int j=>obtain⟨t',rfl⟩:=ry;exact eq_int (z0Y I q y0O)
  | str j=>obtain⟨t',rfl⟩:=ry;exact PySem.EqMixed.eq_int_str (z0Y I q (by simp))
  | _=>exact absurd (show false=true from hs) bN
 | str i=>
  obtain⟨t,rfl⟩:=rx
  cases y with
  | non=>cases ry;exact PySem.EqNone.eq_str_none (z0Y I q (by simp))
  | bl j=>cases ry;exact PySem.EqMixed.eq_str_bool (z0Y I q (by simp))
  | int j=>obtain⟨t',rfl⟩:=ry;exact PySem.EqMixed.eq_str_int (z0Y I q (by simp))
  | str j=>obtain⟨t',rfl⟩:=ry;exact eq_str (z0Y I q y1E)
  | _=>exact absurd (show false=true from hs) bN
 | byt i=>
  obtain⟨t,rfl⟩:=rx
  cases y with
  | byt j=>obtain⟨t',rfl⟩:=ry;exact PySem.W.eq_bytes (z0Y I q y21)
  | _=>exact absurd (show false=true from hs) bN
 | _=>cases y<;>exact absurd (show false=true from hs) bN
theorem z7O:OpR X (compareOp .NotEq) rNe:=by
 intro pins s σ H x y v u Q I rx ry h
 obtain⟨hs,q⟩:=h
 cases x with
 | non=>
  cases rx
  cases y with
  | non=>cases ry;exact PySem.EqNone.ne_none_none (z0Y I q (by simp))
  | bl j=>cases ry;exact PySem.EqNone.ne_none_bool (z0Y I q (by simp))
  | int j=>obtain⟨t',rfl⟩:=ry;exact PySem.EqNone.ne_none_int (z0Y I q (by simp))
  | str j=>obtain⟨t',rfl⟩:=ry;exact PySem.EqNone.ne_none_str (z0Y I q (by simp))
  | _=>exact absurd (show false=true from hs) bN
 | bl i=>
  cases rx
  cases y with
  | non=>cases ry;exact PySem.EqNone.ne_bool_none (z0Y I q (by simp))
  | bl j=>cases ry;exact ne_bool (z0Y I q (congrArg not y39))
  | str j=>obtain⟨t',rfl⟩:=ry;exact PySem.EqMixed.ne_bool_str (z0Y I q (by simp))
  | _=>exact absurd (show false=true from hs) bN
 | int i=>
  obtain⟨t,rfl⟩:=rx
  cases y with
  | non=>cases ry;exact PySem.EqNone.ne_int_none (z0Y I q (by simp))
  | int j=>obtain⟨t',rfl⟩:=ry;exact ne_int (z0Y I q (congrArg not y0O))
  | str j=>obtain⟨t',rfl⟩:=ry;exact PySem.EqMixed.ne_int_str (z0Y I q (by simp))
  | _=>exact absurd (show false=true from hs) bN
 | str i=>
  obtain⟨t,rfl⟩:=rx
  cases y with
  | non=>cases ry;exact PySem.EqNone.ne_str_none (z0Y I q (by simp))
  | bl j=>cases ry;exact PySem.EqMixed.ne_str_bool (z0Y I q (by simp))
  | int j=>obtain⟨t',rfl⟩:=ry;exact PySem.EqMixed.ne_str_int (z0Y I q (by simp))
  | str j=>obtain⟨t',rfl⟩:=ry;exact ne_str (z0Y I q (congrArg not y1E))
  | _=>exact absurd (show false=true from hs) bN
 | byt i=>
  obtain⟨t,rfl⟩:=rx
  cases y with
  | byt j=>obtain⟨t',rfl⟩:=ry;exact PySem.W.ne_bytes (z0Y I q (congrArg not y21))
  | _=>exact absurd (show false=true from hs) bN
 | _=>cases y<;>exact absurd (show false=true from hs) bN
theorem z3o:OpR X (compareOp .Lt) (rI0 fun i j=>.bl (decide (i<j))):=w0m fun _ _ _ _ _ _ _ q=>lt_int q
theorem z2g:OpR X (compareOp .Gt) (rI0 fun i j=>.bl (decide (j<i))):=w0m fun _ _ _ _ _ _ _ q=>gt_int q
theorem y2z:OpR X (compareOp .GtE) (rI0 fun i j=>.bl (decide (j≤i))):=w0m fun _ _ _ _ _ _ _ q=>ge_int q
theorem z0d(b:Expr){op:CmpOp}(h:op≠.In:=by decide)(h2:op≠.NotIn:=by decide):behindInMarks op b=false:=by
 have e1:(op == CmpOp.In)=false:=by cases op<;>first|rfl|exact absurd rfl h
 have e2:(op == CmpOp.NotIn)=false:=by cases op<;>first|rfl|exact absurd rfl h2
 cases b<;>simp[behindInMarks,e1,e2]
theorem z4S{op:CmpOp}{r:R2}(ho:OpR X (compareOp op) r)(ha:PE X a ta)(hb:PE X b tb)(hm:behindInMarks op b=false):PE X (.Compare a [op] [b] pos) (tOp r ta tb):=by
 intro pins s σ H Q I h
 exact wpAny_Compare1 (w0F ha hb I h fun v u s2 x y H2 I2 rx ry q=>ho pins s2 σ H2 x y v u Q I2 rx ry q) hm
def w1c(t:TE):TT:=fun σ H Q=>t σ H fun x H'=>∃k,x=.bl k/\Q k H'
theorem z09{op:CmpOp}{r:R2}(ho:OpR X (compareOp op) r)(ha:PE X a ta)(hb:PE X b tb)(hm:behindInMarks op b=false):PT X (.Compare a [op] [b] pos) (w1c (tOp r ta tb)):=by
 intro pins s σ H Q I h
 refine wpAny_isTrue_Compare1 (thn (ha pins s σ H _ I h) fun v s1 ⟨x,H1,I1,r1,q1⟩=>thn (hb pins s1 σ H1 _ I1 q1) fun u s2 ⟨y,H2,I2,r2,q2⟩=>
  thn (ho pins s2 σ H2 x y v u _ I2 r1 r2 q2) fun c s3 ⟨z,H3,I3,r3,k,e,q3⟩=>?_) hm
 subst e
 cases r3
 exact wpAny_truthy_bool ⟨H3,I3,q3⟩
theorem z4O:(sizeLine:Nat)<2^63:=by rw[sizeLine_eq];decide
theorem z3M:OpR X (binaryOp .Add) (fun x y H Q=>∃i j,x=.str i/\y=.str j/\i.length+j.length≤sizeLine/\Q (.str (i++j)) H):=by
 intro pins s σ H x y v u Q I rx ry h
 obtain⟨i,j,rfl,rfl,hz,q⟩:=h
 obtain⟨t,rfl⟩:=rx
 obtain⟨t',rfl⟩:=ry
 exact add_str (fun t' tk=>⟨.str (i++j),H,I.tok _,⟨_,rfl⟩,q⟩) hz
theorem z4q{x:V}{us:List Value}(r:Vals [x] us):∃u,us=[u]/\RelV x u:=by
 cases r with
 | cons r1 r2=>cases r2;exact⟨_,rfl,r1⟩
theorem y08{x y:V}{us:List Value}(r:Vals [x,y] us):∃u w',us=[u,w']/\RelV x u/\RelV y w':=by
 cases r with
 | cons r1 r2=>
  cases r2 with
  | cons r3 r4=>cases r4;exact⟨_,_,rfl,r1,r3⟩
theorem z7S(hc:X.calm=true):z2O X (.builtin "max") (fun xs H Q=>∃i j,xs=[.int i,.int j]/\Q (.int (if j > i then j else i)) H):=by
 intro pins s σ H xs us Q I r h
 obtain⟨i,j,rfl,q⟩:=h
 obtain⟨u,w',rfl,⟨t,rfl⟩,⟨t',rfl⟩⟩:=y08 r
 refine max_two_ints (I.ok.hd hc) fun h' tk k=>⟨_,H,I.kept k,?_,q⟩
 by_cases hj:j > i
 ·rw[if_pos hj,if_pos hj];exact⟨_,rfl⟩
 ·rw[if_neg hj,if_neg hj];exact⟨_,rfl⟩
theorem z88:z2O X (.type "int") (fun xs H Q=>(∃i,xs=[.int i]/\Q (.int i) H)\/∃k,xs=[.bl k]/\Q (.int (if k then 1 else 0)) H):=by
 intro pins s σ H xs us Q I r h
 rcases h with ⟨i,rfl,q⟩|⟨k,rfl,q⟩
 ·obtain⟨u,rfl,t,rfl⟩:=z4q r
  exact call_int_int ⟨.int i,H,I,⟨_,rfl⟩,q⟩
 ·obtain⟨u,rfl,r1⟩:=z4q r
  cases r1
  exact call_int_bool ⟨.int (if k then 1 else 0),H,I.tok _,⟨_,rfl⟩,q⟩
end
structure V9(h:Heap)(x dx C:Addr)(mA:Str->Option Value):Prop where
 obj:h.get? x=some (PySem.W.instObj C dx)
 ns:h.Ns1 dx mA
 ne:dx≠x
theorem y0X{h:Heap}{dx:Addr}{mA:Str->Option Value}(n:h.Ns1 dx mA):∃od,h.get? dx=some od/\∀name,PySem.W.lookIn name od=some (mA name):=by
 obtain⟨o,es,ep,ho,hd,hk,_,hm⟩:=n
 refine⟨o,ho,fun name=>?_⟩
 have e:=hm name
 unfold nsFind findBy at e
 rw[<- Array.find?_toList] at e
 unfold PySem.W.lookIn
 rw[hd]
 dsimp only
 split
 ·rename_i y q
  rw[q] at e
  exact congrArg some e
 ·rename_i q
  rw[q] at e
  have a:es.toList.any (·.refKey)=false:=by
   rw[gS]
   intro y hy
   obtain⟨z,t,hkey⟩:=hk y (Array.mem_toList_iff.mp hy)
   simp[DictEntry.refKey,hkey]
  have a':¬es.toList.any (·.refKey)=true:=by rw[a];exact bN
  rw[if_neg a']
  exact congrArg some e
theorem V9.look{h:Heap}{x dx C:Addr}{mA:Str->Option Value}(I:V9 h x dx C mA):∃od,PySem.W.InstAt h x (PySem.W.instObj C dx) C (some od)/\∀name,PySem.W.lookIn name od=some (mA name):=
 let ⟨od,ho,hl⟩:=y0X I.ns
 ⟨od,⟨I.obj,rfl,rfl,ho⟩,hl⟩
section
variable{prog:Program}{w:World}{A:Around}{E:Value->Shared->Prop}{s:Shared}{K:PySem.W.Frag}{x dx C f:Addr}{mA:Str->Option Value}{name:Str}{v:Value}
theorem y3Y{expr:Bool}{Q:Value->Shared->Prop}(X:K.In s.heap)(I:V9 s.heap x dx C mA)(hg:PySem.W.plainGet K C name=true)(hh:PySem.W.hasDictIn K C=true)
  (ha:PySem.W.findIn K (.ref C) name=some none) (hv:mA name=some v) (hv':PySem.W.handedIn v=true) (h:Q v { s with toks:=s.toks+1 }) :
  wpAny (model prog w) A (getAttr (.ref x) name expr) Q E s:=by
 obtain⟨od,J,hl⟩:=I.look
 exact PySem.W.get_value X J (gN hg).1 (PySem.W.findObj_own hh ha rfl (by rw[hl,hv])) hv' h
theorem y2w{pl:Sem Bool}{Q:Value×List Value->Shared->Prop}(X:K.In s.heap)(I:V9 s.heap x dx C mA)(hg:PySem.W.plainGet K C name=true)
  (hf:PySem.W.findIn K (.ref C) name=some (some (.ref f))) (ht:PySem.W.isFn K (.ref f)=true) (hv:mA name=none) (h:Q (.ref f,[.ref x]) s) :
  wpAny (model prog w) A (getMethod (.ref x) name pl) Q E s:=by
 obtain⟨od,J,hl⟩:=I.look
 exact PySem.W.method_fn X J (gN hg).1 (gN hg).2 hf (beq_iff_eq.mp ht) (by show(PySem.W.lookIn name od).map (·.isSome)=some false;rw[hl,hv];rfl) h
theorem y3K{ns:List Str}{Q:Unit->Shared->Prop}(X:K.In s.heap)(I:V9 s.heap x dx C mA)
  (hs:PySem.W.findIn K (.ref C) "__setattr__"=some (some (.builtin "object.__setattr__"))) (hp:PySem.W.plainOver K C=true) (ht:PySem.W.takerIn K C name=some none) (hh:PySem.W.hasDictIn K C=true)
  (hw:PySem.Within mA ns) (hsz:ns.length≤sizeLine)
  (h:∀h',V9 h' x dx C (fun y=>if y=name then some v else mA y)->Heap.SameBut dx s.heap h'->Q () { s with heap:=h',toks:=s.toks+2 }) :
  wpAny (model prog w) A (setAttr (.ref x) name v) Q E s:=by
 obtain⟨od,J,hl⟩:=I.look
 refine PySem.W.set_plain X J hs (PySem.W.osa_open (s:={ s with toks:=s.toks+1 }) (r:=none) X J hp ht fun b=>?_)
 obtain⟨cd,hc,hd'⟩:=PySem.W.any_some hh
 have hx:s.heap.get? x=some ⟨.ref C,some dx,.plain,#[]⟩:=I.obj
 refine wpAny_bind (wpAny_pure (wpAny_bind (wpAny_bind (wpAny_loadPart hx (wpAny_bind (PySem.W.Looks.here (s:={ s with toks:=s.toks+1 }) (PySem.W.looks_clsIn X hc) ?_))))))
 rw[hd']
 refine wpAny_pure (a:=some dx) (wpAny_bind (wpAny_pure (wpAny_bind ?_)))
 refine wpAny_nsSet1 (s:={ s with toks:=s.toks+1 }) I.ns fun h' hn2 hs2=>?_
 obtain⟨oD,esD,epD,hoD,hdD,hcD⟩:=hn2.count (PySem.Within.cons name v hw)
 refine wpAny_bind (wpAny_lookBehind hoD (by rw[hdD];exact pastItsLine_dict (cC hcD (by rw[bT];omega))) ?_)
 exact wpAny_pure (h _ ⟨(hs2.2 _ (cT I.ne)).trans I.obj,hn2,I.ne⟩ hs2)
theorem y2D{R:Result->Shared->Prop}{vs:List Value}{kw:List (Str×Value)}(X:K.In s.heap)(hm:PySem.W.makesIn K C=true)
  (hi:PySem.W.findIn K (.ref C) "__init__"=some (some (.ref f))) (hf:PySem.W.typeIn K (.ref f)=some (.type "function"))
  (h:codeAny (model prog w) (A.under (.builtin "type.__call__" ⟨.ref C::vs,kw⟩)) (.call (.ref f) ⟨.ref (s.heap.objs.size+1)::vs,kw⟩) (PySem.W.InitBack (s.heap.objs.size+1) R)
   { s with heap:=(s.heap.push PySem.W.emptyDict).push (PySem.W.instObj C s.heap.objs.size) }) :
  codeAny (model prog w) A (.call (.ref C) ⟨vs,kw⟩) R s:=by
 obtain⟨hh,g,d,t,os⟩:=s
 exact PySem.W.make_core (PySem.W.makes_of X hm) (PySem.W.looks_findIn X hi) (fun self=>PySem.W.bind_fn X self hf) (.inl rfl) h
end
def K0(f:Str)(v:V):List (Str×V)->List (Str×V)
 | []=>[(f,v)]
 | (g,x)::r=>if g=f then (g,v)::r else (g,x)::K0 f v r
theorem z0g(f g:Str)(v:V):∀fs:List (Str×V),(K0 f v fs).lookup g=if g=f then some v else fs.lookup g
 | []=>by
  show List.lookup g [(f,v)]=_
  by_cases h:g=f
  ·have hb:(g == f)=true:=beq_iff_eq.mpr h
   simp only[List.lookup,hb,if_pos h]
  ·have hb:(g == f)=false:=beq_eq_false_iff_ne.mpr h
   simp only[List.lookup,hb,if_neg h]
 | (k,x)::r=>by
  have ih:=z0g f g v r
  rw[show K0 f v ((k,x)::r)=(if k=f then (k,v)::r else (k,x)::K0 f v r) from rfl]
  by_cases hk:k=f
  ·rw[if_pos hk]
   by_cases h:g=k
   ·have hb:(g == k)=true:=beq_iff_eq.mpr h
    simp only[List.lookup,hb,if_pos (h.trans hk)]
   ·have hb:(g == k)=false:=beq_eq_false_iff_ne.mpr h
    simp only[List.lookup,hb,if_neg (fun e:g=f=>h (e.trans hk.symm))]
  ·rw[if_neg hk]
   by_cases h:g=k
   ·have hb:(g == k)=true:=beq_iff_eq.mpr h
    simp only[List.lookup,hb,if_neg (fun e:g=f=>hk (h.symm.trans e))]
   ·have hb:(g == k)=false:=beq_eq_false_iff_ne.mpr h
    simp only[List.lookup,hb]
    exact ih
theorem z6c(f:Str)(v:V):∀fs:List (Str×V),f∈(K0 f v fs).map (·.1)/\∀g,g∈fs.map (·.1)->g∈(K0 f v fs).map (·.1)
 | []=>⟨by simp[K0],fun g h=>by simp at h⟩
 | (k,x)::r=>by
  obtain⟨i1,i2⟩:=z6c f v r
  rw[show K0 f v ((k,x)::r)=(if k=f then (k,v)::r else (k,x)::K0 f v r) from rfl]
  by_cases hk:k=f
  ·rw[if_pos hk]
   subst hk
   exact⟨by simp,fun g h=>by simpa using h⟩
  ·rw[if_neg hk]
   refine⟨?_,fun g h=>?_⟩
   ·rw[cO]
    exact bW _ i1
   ·rw[cO] at h ⊢
    rcases bD.mp h with e|e
    ·exact bD.mpr (.inl e)
    ·exact bW _ (i2 g e)
theorem z1o(f:Str)(v:V):∀fs:List (Str×V),(K0 f v fs).length≤fs.length+1
 | []=>by simp[K0]
 | (k,x)::r=>by
  have ih:=z1o f v r
  rw[show K0 f v ((k,x)::r)=(if k=f then (k,v)::r else (k,x)::K0 f v r) from rfl]
  by_cases hk:k=f
  ·rw[if_pos hk,bT,bT];omega
  ·rw[if_neg hk,bT,bT];omega
theorem O8.some_of{v:V}{o:Option Value}(r:O8 (some v) o):∃u,o=some u/\RelV v u:=by
 cases o with
 | none=>exact(show False from r).elim
 | some u=>exact⟨u,rfl,r⟩
theorem O8.none_of{o:Option Value}(r:O8 none o):o=none:=by
 cases o with
 | none=>rfl
 | some u=>exact(show False from r).elim
theorem y1u{v:V}{u:Value}(r:RelV v u):PySem.W.handedIn u=true:=by
 cases v with
 | non=>cases (show u=Value.none from r);rfl
 | bl b=>cases (show u=Value.bool b from r);rfl
 | int i=>obtain⟨t,e⟩:=(show ∃t,u=Value.int i t from r);cases e;rfl
 | str x=>obtain⟨t,e⟩:=(show ∃t,u=Value.str x t from r);cases e;rfl
 | byt b=>obtain⟨t,e⟩:=(show ∃t,u=Value.bytes b t from r);cases e;rfl
 | flt b=>obtain⟨t,e⟩:=(show ∃t,u=Value.float b t from r);cases e;rfl
 | ref a=>cases (show u=Value.ref a from r);rfl
 | ty n=>cases (show u=Value.type n from r);rfl
section
variable{P:Program}{w:World}{H H':Hp}{h h':Heap}{a C dx:Addr}{fs fs':List (Str×V)}
theorem z7v(hok:HOk P w H h)(e:H a=some (.ins C dx fs)):∃mA,V9 h a dx C mA/\(∀f,O8 (fs.lookup f) (mA f))/\PySem.Within mA (fs.map (·.1))/\fs.length≤1000/\H dx=some (.own a):=by
 obtain⟨d,z,ne,ob,mA,n,r,q⟩:=(show z1a P w H h a (.ins C dx fs) from hok a _ e)
 exact⟨mA,⟨ob,n,ne⟩,r,q,z,d⟩
end
structure Cls(K:PySem.W.Frag)(C:Addr):Prop where
 pg:PySem.W.plainGet K C Str.empty=true
 hd:PySem.W.hasDictIn K C=true
 po:PySem.W.plainOver K C=true
 sa:PySem.W.findIn K (.ref C) "__setattr__"=some (some (.builtin "object.__setattr__"))
theorem Cls.get{K:PySem.W.Frag}{C:Addr}(c:Cls K C)(f:Str):PySem.W.plainGet K C f=true:=c.pg
def z2s(K:PySem.W.Frag)(C:Addr)(f:Str):Prop:=PySem.W.findIn K (.ref C) f=some none
theorem z2s.w1p{K:PySem.W.Frag}{C:Addr}{f:Str}(n:z2s K C f):PySem.W.takerIn K C f=some none:=by
 unfold PySem.W.takerIn
 rw[show PySem.W.findIn K (.ref C) f=some none from n]
 rfl
structure Meth(K:PySem.W.Frag)(C:Addr)(m:Str)(f:Addr):Prop where
 at_:PySem.W.findIn K (.ref C) m=some (some (.ref f))
 fn:PySem.W.isFn K (.ref f)=true
 kp:PySem.W.keepIn K (.ref f)=true
section
variable{X:Cx}{pins:List (Addr×Obj)}{σ:St}{H:Hp}{s:Shared}{a C dx:Addr}{fs:List (Str×V)}{f:Str}{v:V}{A:Around}{E:Value->Shared->Prop}
theorem y02{b:Bool}{Q:Value->Shared->Prop}(I:Inv X pins σ H s)(e:H a=some (.ins C dx fs))(c:Cls X.K C)(n:z2s X.K C f)(l:fs.lookup f=some v)
  (h:∀u s',Inv X pins σ H s'->RelV v u->Q u s'):wpAny (model X.prog X.w) A (getAttr (.ref a) f b) Q E s:=by
 obtain⟨mA,O,r,_,_,_⟩:=z7v I.hok e
 obtain⟨u,hu,ru⟩:=O8.some_of (v:=v) (o:=mA f) (by rw[<- l];exact r f)
 exact y3Y I.kIn O (c.get f) c.hd n hu (y1u ru) (h u _ (I.tok _) ru)
theorem z2T{m:Str}{g:Addr}{pl:Sem Bool}{Q:Value×List Value->Shared->Prop}(I:Inv X pins σ H s)(e:H a=some (.ins C dx fs))(c:Cls X.K C)(k:Meth X.K C m g)(l:fs.lookup m=none)
  (h:Q (.ref g,[.ref a]) s):wpAny (model X.prog X.w) A (getMethod (.ref a) m pl) Q E s:=by
 obtain⟨mA,O,r,_,_,_⟩:=z7v I.hok e
 have hn:mA m=none:=O8.none_of (by rw[<- l];exact r m)
 exact y2w I.kIn O (c.get m) k.at_ k.fn hn h
theorem y0c{y:V}{u:Value}{Q:Unit->Shared->Prop}(I:Inv X pins σ H s)(e:H a=some (.ins C dx fs))(c:Cls X.K C)(n:z2s X.K C f)(hl:fs.length<1000)(ry:RelV y u)
  (h:∀s',Inv X pins σ (upd H a (.ins C dx (K0 f y fs))) s'->Q () s'):wpAny (model X.prog X.w) A (setAttr (.ref a) f u) Q E s:=by
 obtain⟨mA,O,r,wi,_,ho⟩:=z7v I.hok e
 have hz:(fs.map (·.1)).length≤sizeLine:=by rw[bA,sizeLine_eq];omega
 refine y3K I.kIn O c.sa c.po n.w1p c.hd wi hz fun h' O' sb=>h _ ?_
 have hd:∃o,h'.get? dx=some o:=let ⟨o,_,_,e',_⟩:=O'.ns;⟨o,e'⟩
 refine I.write (x:=a) (e:=dx) (by rw[e];exact True.intro) (.inr ho) (fun b q hb z=>(sb.2 b hb).trans z) hd ?_
 refine⟨by rw[z0b O.ne];exact ho,?_,O.ne,O'.obj,_,O'.ns,fun g=>?_,fun g hg=>?_⟩
 ·have:=z1o f y fs;omega
 ·show O8 ((K0 f y fs).lookup g) (if g=f then some u else mA g)
  rw[z0g]
  by_cases q:g=f
  ·rw[if_pos q,if_pos q];exact ry
  ·rw[if_neg q,if_neg q];exact r g
 ·by_cases q:g=f
  ·rw[q];exact(z6c f y fs).1
  ·refine(z6c f y fs).2 g (wi g fun z=>hg ?_)
   show(if g=f then some u else mA g)=none
   rw[if_neg q];exact z
theorem Inv.made(I:Inv X pins σ H s):Inv X pins σ (upd (upd H s.heap.objs.size (.own (s.heap.objs.size+1))) (s.heap.objs.size+1) (.ins C s.heap.objs.size []))
  { s with heap:=(s.heap.push PySem.W.emptyDict).push (PySem.W.instObj C s.heap.objs.size) }:=by
 have e1:(s.heap.push PySem.W.emptyDict).get? s.heap.objs.size=some PySem.W.emptyDict:=bJ s.heap rfl
 have e2:((s.heap.push PySem.W.emptyDict).push (PySem.W.instObj C s.heap.objs.size)).get? (s.heap.objs.size+1)=some (PySem.W.instObj C s.heap.objs.size):=by
  have:=bJ (s.heap.push PySem.W.emptyDict) (o:=PySem.W.instObj C s.heap.objs.size) rfl
  rwa [fE] at this
 have e3:(s.heap.push PySem.W.emptyDict).Ns s.heap.objs.size (fun _=>none):=⟨PySem.W.emptyDict,#[],_,e1,rfl,(fun e he=>absurd he (by simp)),fun _=>rfl⟩
 have I1:=I.laid (a:=s.heap.objs.size) (o:=.own (s.heap.objs.size+1)) (h':=s.heap.push PySem.W.emptyDict) (t':=s.toks) (fun b u q=>bB _ q) (bF _) ⟨_,e1⟩
 refine I1.laid (a:=s.heap.objs.size+1) (o:=.ins C s.heap.objs.size []) (t':=s.toks) (fun b u q=>bB _ q) (Nat.le_of_eq (fE _ _)) ?_
 have ne:s.heap.objs.size≠s.heap.objs.size+1:=c9 (fI _)
 refine⟨by rw[z0b ne,A1],cL _,ne,e2,fun _=>none,(Heap.Ns1.of_empty e3).at fun o q=>bB _ q,fun _=>True.intro,fun y hy=>absurd rfl hy⟩
theorem y3z{prog:Program}{w:World}{env:Env}{e:Expr}{f:Str}{pos:Pos}{s:Shared}{Q:Value->Shared->Prop}(hb:attributeBase e f env (eval e env)=eval e env)
  (h:wpAny (model prog w) A (eval e env) (fun o s₁=>wpAny (model prog w) A (getAttr o f true) Q E s₁) E s):wpAny (model prog w) A (eval (.Attribute e f pos) env) Q E s:=
 Attribute_any_ h (by rw[arm_eval_Attribute,hb])
end
def tFld(K:PySem.W.Frag)(ta:TE)(f:Str):TE:=fun σ H Q=>ta σ H fun x H1=>∃a C dx fs v,x=.ref a/\H1 a=some (.ins C dx fs)/\Cls K C/\z2s K C f/\fs.lookup f=some v/\Q v H1
def sFld(K:PySem.W.Frag)(ta tv:TE)(f:Str):TS:=fun D σ H=>tv σ H fun y H1=>ta σ H1 fun x H2=>∃a C dx fs,x=.ref a/\H2 a=some (.ins C dx fs)/\Cls K C/\z2s K C f/\fs.length<1000/\
 D.nx σ (upd H2 a (.ins C dx (K0 f y fs)))
section
variable{X:Cx}{o e value:Expr}{f:Str}{pos pos' tpos:Pos}{ta tv:TE}
theorem z0q(he:PE X e ta)(hb:attributeBase e f X.env (eval e X.env)=eval e X.env):PE X (.Attribute e f pos) (tFld X.K ta f):=by
 intro pins s σ H Q I h
 refine y3z hb (thn (he pins s σ H _ I h) fun u s1 hz=>?_)
 obtain⟨x,H1,I1,rx,a,C,dx,fs,v,ex,ea,c,n,l,q⟩:=hz
 subst ex
 obtain rfl:u=Value.ref a:=rx
 exact y02 I1 ea c n l fun u' s2 I2 ru=>⟨v,H1,I2,ru,q⟩
theorem z4L(ha:PE X o ta)(hv:PE X value tv)(hs:swapsWith value (some (.Attribute o f pos')) pos.line X.env=pure false):PS X (.Assign [.Attribute o f pos'] value pos) (sFld X.K ta tv f):=by
 intro pins s σ H D I h
 refine plainObj_wpAny_Assign_Attribute (thn (hv pins s σ H _ I h) fun u s1 ⟨y,H1,I1,ry,q⟩=>thn (ha pins s1 σ H1 _ I1 q) fun ov s2 hz=>?_) hs
 obtain⟨x,H2,I2,rx,a,C,dx,fs,ex,ea,c,n,l,q2⟩:=hz
 subst ex
 obtain rfl:ov=Value.ref a:=rx
 exact y0c I2 ea c n l ry fun s3 I3=>⟨σ,_,I3,q2⟩
theorem y4s{pl:Sem Bool}{m:Str}{apos:Pos}{args:List Expr}{pins:List (Addr×Obj)}{s:Shared}{σ:St}{H:Hp}{Q:Value->Shared->Prop}{te:TE}(he:PE X e te)(I:Inv X pins σ H s)
  (h:te σ H fun x H1=>∃a C dx fs g,x=.ref a/\H1 a=some (.ins C dx fs)/\Cls X.K C/\Meth X.K C m g/\fs.lookup m=none/\
   ∀s1,Inv X pins σ H1 s1->wpAny (model X.prog X.w) X.A (callWith pos (.ref g) [.ref a] (backTo pos (starEach args X.env)) (backToKw pos (keywordEach [] X.env))) Q X.xe s1)
  (ht:eval (.Call (.Attribute e m apos) args [] pos) X.env=(do
   let ov <- eval e X.env
   standAt apos.atName
   let (f,first) <- holding [ov] (getMethod ov m pl)
   callWith pos f first (backTo pos (starEach args X.env)) (backToKw pos (keywordEach [] X.env)))) :
  wpAny (model X.prog X.w) X.A (eval (.Call (.Attribute e m apos) args [] pos) X.env) Q X.xe s:=by
 refine dM (pl:=pl) (thn (he pins s σ H _ I h) fun u s1 hz=>?_) ht
 obtain⟨x,H1,I1,rx,a,C,dx,fs,g,ex,ea,c,k,l,q⟩:=hz
 subst ex
 obtain rfl:u=Value.ref a:=rx
 exact z2T I1 ea c k l (q s1 I1)
end
section
variable{X:Cx}{pins:List (Addr×Obj)}{σ:St}{H:Hp}{s:Shared}{A:Around}{E:Value->Shared->Prop}{Q:Value->Shared->Prop}{c:Value}{b:Bool}
inductive Q6(K:PySem.W.Frag)(H:Hp):V->Value->Prop where
 | non:Q6 K H .non (.type "NoneType")
 | bl (x:Bool):Q6 K H (.bl x) (.type "bool")
 | int (i:Int):Q6 K H (.int i) (.type "int")
 | str (x:Str):Q6 K H (.str x) (.type "str")
 | flt (x:UInt64):Q6 K H (.flt x) (.type "float")
 | lst {a:Addr}{xs:List V} (e:H a=some (.lst xs)):Q6 K H (.ref a) (.type "list")
 | frz {a:Addr}{o:Obj}{xs:List V} (e:H a=some (.frz o (.lst xs))):Q6 K H (.ref a) (.type "list")
 | tup {a:Addr}{xs:List V} (e:H a=some (.tup xs)):Q6 K H (.ref a) (.type "tuple")
 | dK {a:Addr}{kvs:List (Key×V)} (e:H a=some (.dK kvs)):Q6 K H (.ref a) (.type "dict")
 | dT {a:Addr}{kvs:List (List Key×V)} (e:H a=some (.dT kvs)):Q6 K H (.ref a) (.type "dict")
 | ins {a C dx:Addr}{fs:List (Str×V)} (e:H a=some (.ins C dx fs)) (cl:Cls K C) (ha:PySem.W.findIn K (.ref C) "__class__"=some (some (.builtin "object.__class__")))
   (hn:PySem.W.specialIn K (.builtin "object.__class__") "__get__"=some (some (.builtin "getset_descriptor.__get__"))) (htk:PySem.W.takesIn K (.builtin "object.__class__")=some true)
   (hm:PySem.W.mroIn K C (.type "object")=some true):Q6 K H (.ref a) (.ref C)
theorem y1s{x:V}{u t:Value}(I:Inv X pins σ H s)(rx:RelV x u)(ty:Q6 X.K H x t)(e:PySem.W.kitOne X.K t c=some b)(h:∀tk,Q (.bool b) { s with toks:=tk }) :
  wpAny (model X.prog X.w) A (call (.builtin "isinstance") [u,c]) Q E s:=by
 cases ty with
 | non=>cases (show u=Value.none from rx);exact cU PySem.W.kitx_none I.kIn True.intro e (fun z=>nomatch z) h
 | bl y=>cases (show u=Value.bool y from rx);exact cU PySem.W.kitx_bool I.kIn True.intro e (fun z=>nomatch z) h
 | int i=>obtain⟨t,q⟩:=(show ∃t,u=Value.int i t from rx);cases q;exact cU PySem.W.kitx_int I.kIn True.intro e (fun z=>nomatch z) h
 | str y=>obtain⟨t,q⟩:=(show ∃t,u=Value.str y t from rx);cases q;exact cU PySem.W.kitx_str I.kIn True.intro e (fun z=>nomatch z) h
 | flt y=>obtain⟨t,q⟩:=(show ∃t,u=Value.float y t from rx);cases q;exact cU PySem.W.kitx_float I.kIn True.intro e (fun z=>nomatch z) h
 | @lst a xs ea=>
  cases (show u=Value.ref a from rx)
  obtain⟨_,_,n,_,h1⟩:=(show z1a X.prog X.w H s.heap a (.lst xs) from I.hok a _ ea)
  exact cU PySem.W.kitx_list I.kIn ⟨_,h1,rfl⟩ e (fun z=>nomatch z) h
 | @frz a ob xs ea=>
  cases (show u=Value.ref a from rx)
  obtain⟨_,_,_,n,_,h1⟩:=(show z1a X.prog X.w H s.heap a (.frz ob (.lst xs)) from I.hok a _ ea)
  exact cU PySem.W.kitx_list I.kIn ⟨_,h1,rfl⟩ e (fun z=>nomatch z) h
 | @tup a xs ea=>
  cases (show u=Value.ref a from rx)
  obtain⟨_,_,_,p⟩:=(show z1a X.prog X.w H s.heap a (.tup xs) from I.hok a _ ea)
  obtain⟨o,h1,h2,_⟩:=p
  exact cU PySem.W.kitx_tuple I.kIn ⟨o,h1,h2⟩ e (fun z=>nomatch z) h
 | @dK a kvs ea=>
  cases (show u=Value.ref a from rx)
  obtain⟨_,_,vs,_,p⟩:=(show z1a X.prog X.w H s.heap a (.dK kvs) from I.hok a _ ea)
  obtain⟨o,es,ep,h1,h2,_⟩:=p
  exact cU PySem.W.kitx_dict I.kIn ⟨o,h1,h2.1⟩ e (fun z=>nomatch z) h
 | @dT a kvs ea=>
  cases (show u=Value.ref a from rx)
  obtain⟨_,_,xs,_,o,es,ep,h1,h2,_⟩:=(show z1a X.prog X.w H s.heap a (.dT kvs) from I.hok a _ ea)
  exact cU PySem.W.kitx_dict I.kIn ⟨o,h1,h2.1⟩ e (fun z=>nomatch z) h
 | @ins a C dx fs ea cl ha hn htk hm=>
  cases (show u=Value.ref a from rx)
  obtain⟨mA,O,_⟩:=z7v I.hok ea
  obtain⟨od,J,_⟩:=O.look
  exact cU (PySem.W.kitx_own (cl.get _) cl.hd ha hn htk hm) I.kIn J e (fun z=>nomatch z) h
end
structure D6(k:Nat)(A:Around):Prop where
 hd:A.handled=none
 dp:A.depth+3*k+5<recursionLimit
 un:A.units+16*k+200<cLine
theorem D6.mono{j k:Nat}{A:Around}(r:D6 k A)(h:j≤k):D6 j A:=⟨r.hd,by have:=r.dp;omega,by have:=r.un;omega⟩
theorem D6.deeper{k:Nat}{A:Around}(r:D6 (k+1) A)(env:Env):D6 k (A.deeper env):=
 ⟨r.hd,by have:=r.dp;show A.depth+1+3*k+5<_;omega,by have:=r.un;show A.units+3+16*k+200<_;omega⟩
theorem y0i{A:Around}{C:Addr}{us:List Value}{kw:List (Str×Value)}:(A.under (.builtin "type.__call__" ⟨.ref C::us,kw⟩)).depth=A.depth+1:=by
 first|rfl|simp[Around.under,Code.weight,Code.isCreation,Code.isGuard,Code.isCaller,Code.frames,Code.isFrame,guardIds]
theorem y0t{A:Around}{C:Addr}{us:List Value}{kw:List (Str×Value)}:(A.under (.builtin "type.__call__" ⟨.ref C::us,kw⟩)).units=A.units+1:=by
 first|rfl|simp[Around.under,Code.cUnits,Code.frames,Code.isFrame]
theorem D6.make{k:Nat}{A:Around}(r:D6 (k+1) A)(C:Addr)(us:List Value)(kw:List (Str×Value)):D6 k (A.under (.builtin "type.__call__" ⟨.ref C::us,kw⟩)):=
 ⟨r.hd,by have:=r.dp;rw[y0i];omega,by have:=r.un;rw[y0t];omega⟩
theorem D6.depth{k:Nat}{A:Around}(r:D6 k A):A.depth<recursionLimit:=by have:=r.dp;omega
theorem D6.units{k:Nat}{A:Around}(r:D6 k A):A.units+64<cLine:=by have:=r.un;omega
theorem D6.Y2{k:Nat}{A:Around}(r:D6 k A):A.units<cLine:=by have:=r.un;omega
def X0:TA:=fun _ H Q=>Q [] H
def y3V(ta:TE)(tr:TA):TA:=fun σ H Q=>ta σ H fun x H1=>tr σ H1 fun xs H2=>Q (x::xs) H2
section
variable{X:Cx}{e:Expr}{es:List Expr}{te:TE}{t:TA}{pos:Pos}
theorem z01:PA X [] X0:=fun _ _ _ _ H Q I h=>Calls.spliced_nil ⟨[],H,I,.nil,h⟩
theorem z00(ha:PE X e te)(hr:PA X es t)(hs:starEach (e::es) X.env=(false,eval e X.env)::starEach es X.env:=by rfl):PA X (e::es) (y3V te t):=by
 intro pos pins s σ H Q I h
 rw[hs]
 show wpAny _ _ (spliced ((false,eval e X.env)::backTo pos (starEach es X.env))) _ _ s
 refine Calls.spliced_cons (thn (ha pins s σ H _ I h) fun u s1 hz=>?_)
 obtain⟨x,H1,I1,r1,q1⟩:=hz
 exact thn (hr pos pins s1 σ H1 _ I1 q1) fun us s2 ⟨xs,H2,I2,r2,q2⟩=>⟨x::xs,H2,I2,.cons r1 r2,q2⟩
def tTup(t:TA):TE:=fun σ H Q=>t σ H fun xs H1=>xs.length≤sizeLine/\∀p,H1 p=none->Q (.ref p) (upd H1 p (.tup xs))
def tLst(t:TA):TE:=fun σ H Q=>t σ H fun xs H1=>xs.length≤sizeLine/\∀p,H1 p=none->Q (.ref p) (upd H1 p (.lst xs))
theorem z1j{x1}(h:PA X es t):PE X (.Tuple es x1 pos) (tTup t):=by
 intro pins s σ H Q I hq
 refine wpAny_Tuple_spliced (thn (h pos pins s σ H _ I hq) fun us s1 ⟨xs,H1,I1,r,z,q⟩=>⟨by rw[<- r.length];exact z,?_⟩)
 have hf:H1 s1.heap.objs.size=none:=I1.hok.fresh (bF _)
 refine⟨.ref s1.heap.objs.size,upd H1 s1.heap.objs.size (.tup xs),I1.laid (t':=s1.toks) (fun b u e=>bB _ e) (bF _) ?_,rfl,q _ hf⟩
 exact⟨z,us,r,⟨_,bJ _ rfl,rfl,⟨_,rfl⟩,rfl⟩⟩
theorem z0L(h:PA X es t):PE X (.List es pos) (tLst t):=by
 intro pins s σ H Q I hq
 refine wpAny_List_spliced (thn (h pos pins s σ H _ I hq) fun us s1 ⟨xs,H1,I1,r,z,q⟩=>⟨by rw[<- r.length];exact z,?_⟩)
 have hf:H1 s1.heap.objs.size=none:=I1.hok.fresh (bF _)
 refine⟨.ref s1.heap.objs.size,upd H1 s1.heap.objs.size (.lst xs),I1.laid (t':=s1.toks) (fun b u e=>bB _ e) (bF _) ?_,rfl,q _ hf⟩
 exact⟨z,us,0,r,bJ _ rfl⟩
end
abbrev Sp:=List V->Hp->VK->XK->Prop
abbrev CXT:=List Env->Hp->Shared->XK->Value->Shared->Prop
structure W2(P:Program)(w:World)(K:PySem.W.Frag)(mg:Str->Option Value)(base:Heap)(A:Around)(outer:List Env)(s:Shared)(H:Hp):Prop where
 frames:A.frames=some outer
 mod:Mod K mg base
 bs:∀b o,base.get? b=some o->s.heap.get? b=some o/\H b=none
 bsz:base.objs.size≤s.heap.objs.size
 Q7:s.heap.FunFrames base outer
 frf:∀b∈frs outer,H b=none
 hok:HOk P w H s.heap
 bare:AllBare s.gens
def CE(outer:List Env)(P:Program)(w:World)(H:Hp)(s:Shared)(Q:VK)(u:Value)(s':Shared):Prop:=
 ∃v H',s'.os=s.os/\AllBare s'.gens/\Un (frs outer) [] H H' s.heap s'.heap/\HOk P w H' s'.heap/\RelV v u/\Q v H'
def CR(CX:CXT)(outer:List Env)(P:Program)(w:World)(H:Hp)(s:Shared)(Q:VK)(E:XK)(r:Result)(s':Shared):Prop:=
 match r with
 | .ok (.ret u)=>CE outer P w H s Q u s'
 | .ok _=>False
 | .error e=>CX outer H s E e s'
structure B0(P:Program)(w:World)(K:PySem.W.Frag)(mg:Str->Option Value)(base:Heap)(CX:CXT)(k:Nat)(f:Addr)(fd:FuncData)(ps:List Str)(sp:Sp):Prop where
 len:∀vs H Q E,sp vs H Q E->vs.length=ps.length
 run:∀(A:Around) (outer:List Env) (s:Shared) (H:Hp) (args:Args) (us:List Value) (vs:List V) (Q:VK) (E:XK),D6 k A->W2 P w K mg base A outer s H->BindsTo s fd args (ps.zip us)->Vals vs us->sp vs H Q E->
  codeAny (model P w) A (.call (.ref f) args) (CR CX outer P w H s Q E) s
theorem B0.mono{P:Program}{w:World}{K:PySem.W.Frag}{mg:Str->Option Value}{base:Heap}{CX:CXT}{j k:Nat}{f:Addr}{fd:FuncData}{ps:List Str}{sp:Sp}(F:B0 P w K mg base CX j f fd ps sp)(h:j≤k) :
  B0 P w K mg base CX k f fd ps sp:=⟨F.len,fun A outer s H args us vs Q E hr=>F.run A outer s H args us vs Q E (hr.mono h)⟩
theorem W2.make{P:Program}{w:World}{K:PySem.W.Frag}{mg:Str->Option Value}{base:Heap}{A:Around}{outer:List Env}{s:Shared}{H:Hp}(e:W2 P w K mg base A outer s H)(C:Addr)(us:List Value)(kw:List (Str×Value)) :
  W2 P w K mg base (A.under (.builtin "type.__call__" ⟨.ref C::us,kw⟩)) outer s H:=⟨by first|exact e.frames|(simpa [Around.under,Code.envs,Code.isFrame,pushEnvs] using e.frames),e.mod,e.bs,e.bsz,e.Q7,e.frf,e.hok,e.bare⟩
section
variable{X:Cx}{pins:List (Addr×Obj)}{σ:St}{H:Hp}{s s':Shared}
theorem Inv.w0p(I:Inv X pins σ H s):W2 X.prog X.w X.K X.mg X.base X.A X.stack s H:=
 ⟨I.ok.frames,I.ok.mod,I.bs,cC I.ok.bsz I.sz,I.stack,I.M8,I.hok,I.bare⟩
theorem Inv.after{Q:VK}{u:Value}(I:Inv X pins σ H s)(h:CE X.stack X.prog X.w H s Q u s'):EP X pins σ Q u s':=by
 obtain⟨v,H',os,bare,un,hok,r,q⟩:=h
 obtain⟨hh,g,d,t,os'⟩:=s'
 obtain rfl:os'=s.os:=os
 exact⟨v,H',I.call (h':=hh) (g':=g) (d':=d) (t':=t) (ch:=[]) un hok bare (fun b z=>absurd z (by simp)),r,q⟩
end
def y4M(sp:Sp)(dvs:List V)(E:XK)(t:TA):TE:=fun σ H Q=>t σ H fun vs H1=>sp (vs++dvs) H1 Q E
def y11(C:Addr)(m:Str)(sp:Sp)(dvs:List V)(E:XK)(ta:TE)(t:TA):TE:=fun σ H Q=>ta σ H fun x H1=>∃a dx fs,x=.ref a/\H1 a=some (.ins C dx fs)/\fs.lookup m=none/\
 t σ H1 fun vs H2=>sp (x::(vs++dvs)) H2 Q E
def y4D(C:Addr)(sp:Sp)(dvs:List V)(E:XK)(t:TA):TE:=fun σ H Q=>t σ H fun vs H1=>∀x dx,H1 x=none->H1 dx=none->dx≠x->
 sp (.ref x::(vs++dvs)) (upd (upd H1 dx (.own x)) x (.ins C dx [])) (fun v H2=>v=.non/\Q (.ref x) H2) E
def z1c(K:PySem.W.Frag)(fd:FuncData)(ps:List Str)(ds:List Value):Prop:=
 ∀(s:Shared) (us:List Value),K.In s.heap->(us++ds).length=ps.length->BindsTo s fd ⟨us,[]⟩ (ps.zip (us++ds))
theorem z1c.all{K:PySem.W.Frag}{fd:FuncData}{ps:List Str}(h:∀us:List Value,us.length=ps.length->bindArgs fd ⟨us,[]⟩=pure (ps.zip us)):z1c K fd ps []:=fun s us _ hl=>by
 rw[cQ] at hl ⊢
 exact .of_eq (h us hl)
def z5k(CX:CXT)(X:Cx)(E:XK):Prop:=∀(pins:List (Addr×Obj)) (σ:St) (H:Hp) (s:Shared) (e:Value) (s':Shared),Inv X pins σ H s->CX X.stack H s E e s'->X.xe e s'
section
variable{X:Cx}{CX:CXT}{k:Nat}{f C:Addr}{fd:FuncData}{ps:List Str}{sp:Sp}{dvs:List V}{ds:List Value}{E:XK}{x m:Str}{p pos apos:Pos}{e o:Expr}{es:List Expr}{ta:TE}{t:TA}
theorem y13{pins:List (Addr×Obj)}{σ:St}{H:Hp}{s:Shared}{Q:VK}{us:List Value}{vs:List V}(F:B0 X.prog X.w X.K X.mg X.base CX k f fd ps sp)(hr:D6 k X.A)(hb:z1c X.K fd ps ds)(hd:Vals dvs ds)(hx:z5k CX X E)
  (I:Inv X pins σ H s) (r:Vals vs us) (h:sp (vs++dvs) H Q E):wpAny (model X.prog X.w) X.A (call (.ref f) us) (EP X pins σ Q) X.xe s:=by
 have r2:Vals (vs++dvs) (us++ds):=r.append hd
 have hl:(us++ds).length=ps.length:=by rw[<- r2.length];exact F.len _ _ _ _ h
 refine wpAny_call (codeAny_mono (F.run X.A X.stack s H ⟨us,[]⟩ (us++ds) (vs++dvs) Q E hr I.w0p (hb s us I.kIn hl) r2 h) fun r s' hq=>?_)
 cases r with
 | error e=>exact hx pins σ H s e s' I hq
 | ok fl=>
  cases fl with
  | ret u=>exact I.after hq
  | next=>exact False.elim hq
  | brk=>exact False.elim hq
  | cont=>exact False.elim hq
theorem y4d(F:B0 X.prog X.w X.K X.mg X.base CX k f fd ps sp)(hr:D6 k X.A)(hg:Gl X x)(hm:X.mg x=some (.ref f))(hk:PySem.W.keepIn X.K (.ref f)=true)(hb:z1c X.K fd ps ds)(hd:Vals dvs ds)(hx:z5k CX X E)
  (ha:PA X (e::es) t) (hdb:(x == ("__debug__":Str))=false:=by decide) (he:starEach (e::es) X.env=(false,eval e X.env)::starEach es X.env:=by rfl) (hpl:(backTo pos (starEach es X.env)).any (·.1)=false:=by rfl) :
  PE X (.Call (.Name x p) (e::es) [] pos) (y4M sp dvs E t):=by
 intro pins s σ H Q I h
 refine wpAny_Call_Name_kw (z49 I hg hm ?_ hdb)
 refine eV (h₀:=X.base) I.ok.mod.kin hk (thn (ha pos pins s σ H _ I h) fun us s1 ⟨vs,H1,I1,r,q⟩=>⟨I1.kIn,?_⟩) he hpl
 exact y13 F hr hb hd hx I1 r q
theorem y1Y{pl:Sem Bool}(he:PE X o ta)(c:Cls X.K C)(hm:Meth X.K C m f)(F:B0 X.prog X.w X.K X.mg X.base CX k f fd ps sp)(hr:D6 k X.A)(hb:z1c X.K fd ps ds)(hd:Vals dvs ds)(hx:z5k CX X E)(ha:PA X (e::es) t)
  (hst:starEach (e::es) X.env=(false,eval e X.env)::starEach es X.env:=by rfl) (hpl:(backTo pos (starEach es X.env)).any (·.1)=false:=by rfl)
  (ht:eval (.Call (.Attribute o m apos) (e::es) [] pos) X.env=(do
   let ov <- eval o X.env
   standAt apos.atName
   let (f,first) <- holding [ov] (getMethod ov m pl)
   callWith pos f first (backTo pos (starEach (e::es) X.env)) (backToKw pos (keywordEach [] X.env))):=by rfl) :
  PE X (.Call (.Attribute o m apos) (e::es) [] pos) (y11 C m sp dvs E ta t):=by
 intro pins s σ H Q I h
 refine dM (pl:=pl) (thn (he pins s σ H _ I h) fun u s1 hz=>?_) ht
 obtain⟨x,H1,I1,rx,a,dx,fs,ex,ea,l,q⟩:=hz
 subst ex
 obtain rfl:u=Value.ref a:=rx
 refine z2T I1 ea c hm l ?_
 refine eV (first:=[.ref a]) (h₀:=X.base) I.ok.mod.kin hm.kp (thn (ha pos pins s1 σ H1 _ I1 q) fun us s2 ⟨vs,H2,I2,r,q2⟩=>⟨I2.kIn,?_⟩) hst hpl
 exact y13 (us:=.ref a::us) (vs:=.ref a::vs) F hr hb hd hx I2 (.cons rfl r) q2
theorem y2r{pl:Sem Bool}(he:PE X o ta)(c:Cls X.K C)(hm:Meth X.K C m f)(F:B0 X.prog X.w X.K X.mg X.base CX k f fd ps sp)(hr:D6 k X.A)(hb:z1c X.K fd ps ds)(hd:Vals dvs ds)(hx:z5k CX X E)
  (ht:eval (.Call (.Attribute o m apos) [] [] pos) X.env=(do
   let ov <- eval o X.env
   standAt apos.atName
   let (f,first) <- holding [ov] (getMethod ov m pl)
   callWith pos f first (backTo pos (starEach [] X.env)) (backToKw pos (keywordEach [] X.env))):=by rfl) :
  PE X (.Call (.Attribute o m apos) [] [] pos) (y11 C m sp dvs E ta X0):=by
 intro pins s σ H Q I h
 refine dM (pl:=pl) (thn (he pins s σ H _ I h) fun u s1 hz=>?_) ht
 obtain⟨x,H1,I1,rx,a,dx,fs,ex,ea,l,q⟩:=hz
 subst ex
 obtain rfl:u=Value.ref a:=rx
 refine z2T I1 ea c hm l ?_
 exact PySem.W.callWith_K0 (first:=[.ref a]) I1.kIn hm.kp (y13 (us:=[.ref a]) (vs:=[.ref a]) F hr hb hd hx I1 (.cons rfl .nil) q)
structure Mk(K:PySem.W.Frag)(C f:Addr):Prop where
 makes:PySem.W.makesIn K C=true
 init:PySem.W.findIn K (.ref C) "__init__"=some (some (.ref f))
 fn:PySem.W.isFn K (.ref f)=true
 kp:PySem.W.keepIn K (.ref C)=true
theorem y2v{pins:List (Addr×Obj)}{σ:St}{H:Hp}{s:Shared}{Q:VK}{us:List Value}{vs:List V}(M:Mk X.K C f)(F:B0 X.prog X.w X.K X.mg X.base CX k f fd ps sp)(hr:D6 (k+1) X.A)(hb:z1c X.K fd ps ds)(hd:Vals dvs ds)
  (hx:z5k CX X E) (I:Inv X pins σ H s) (r:Vals vs us)
  (h:∀x dx,H x=none->H dx=none->dx≠x->sp (.ref x::(vs++dvs)) (upd (upd H dx (.own x)) x (.ins C dx [])) (fun v H2=>v=.non/\Q (.ref x) H2) E) :
  wpAny (model X.prog X.w) X.A (call (.ref C) us) (EP X pins σ Q) X.xe s:=by
 have hq:=h (s.heap.objs.size+1) s.heap.objs.size (I.hok.fresh (dD _)) (I.hok.fresh (bF _)) (c9 (fI _))
 have I2:=Inv.made (C:=C) I
 have r2:Vals (V.ref (s.heap.objs.size+1)::(vs++dvs)) (Value.ref (s.heap.objs.size+1)::(us++ds)):=.cons rfl (r.append hd)
 have hl:(Value.ref (s.heap.objs.size+1)::us++ds).length=ps.length:=by
  have e:=r2.length
  rw[F.len _ _ _ _ hq] at e
  exact e.symm
 refine wpAny_call (y2D (f:=f) I.kIn M.makes M.init (beq_iff_eq.mp M.fn) (codeAny_mono (F.run _ X.stack _ _ ⟨Value.ref (s.heap.objs.size+1)::us,[]⟩ (Value.ref (s.heap.objs.size+1)::(us++ds)) _ _ E (hr.make C us [])
  (I2.w0p.make C us []) (hb _ (Value.ref (s.heap.objs.size+1)::us) I2.kIn hl) r2 hq) fun r s' hq'=>?_))
 cases r with
 | error e=>exact hx pins σ _ _ e s' I2 hq'
 | ok fl=>
  cases fl with
  | ret u=>
   obtain⟨v,H',I3,rv,ev,q3⟩:=I2.after hq'
   subst ev
   exact⟨rv,⟨V.ref (s.heap.objs.size+1),H',I3,rfl,q3⟩⟩
  | next=>exact False.elim hq'
  | brk=>exact False.elim hq'
  | cont=>exact False.elim hq'
theorem y3U(M:Mk X.K C f)(F:B0 X.prog X.w X.K X.mg X.base CX k f fd ps sp)(hr:D6 (k+1) X.A)(hg:Gl X x)(hm:X.mg x=some (.ref C))(hb:z1c X.K fd ps ds)(hd:Vals dvs ds)(hx:z5k CX X E)
  (ha:PA X (e::es) t) (hdb:(x == ("__debug__":Str))=false:=by decide) (he:starEach (e::es) X.env=(false,eval e X.env)::starEach es X.env:=by rfl) (hpl:(backTo pos (starEach es X.env)).any (·.1)=false:=by rfl) :
  PE X (.Call (.Name x p) (e::es) [] pos) (y4D C sp dvs E t):=by
 intro pins s σ H Q I h
 refine wpAny_Call_Name_kw (z49 I hg hm ?_ hdb)
 refine eV (h₀:=X.base) I.ok.mod.kin M.kp (thn (ha pos pins s σ H _ I h) fun us s1 ⟨vs,H1,I1,r,q⟩=>⟨I1.kIn,?_⟩) he hpl
 exact y2v M F hr hb hd hx I1 r q
end
def PK(X:Cx)(kws:List Keyword)(t:TA):Prop:=
 ∀(pos:Pos) (pins:List (Addr×Obj)) (s:Shared) (σ:St) (H:Hp) (Q:List V->Hp->Prop),Inv X pins σ H s->t σ H Q->wpAny (model X.prog X.w) X.A (evalAll ((backToKw pos (keywordEach kws X.env)).map (·.2))) (AP X pins σ Q) X.xe s
section
variable{X:Cx}{CX:CXT}{k:Nat}{f C:Addr}{fd:FuncData}{ps ks:List Str}{sp:Sp}{E:XK}{x m:Str}{p pos apos kpos:Pos}{e o:Expr}{es:List Expr}{kws:List Keyword}{te ta:TE}{t tk:TA}{nm:Option Str}
theorem y4x:PK X [] X0:=fun _ _ _ _ H Q I h=>wpAny_evalAll_nil ⟨[],H,I,.nil,h⟩
theorem y45(ha:PE X e te)(hr:PK X kws t):PK X (⟨nm,e,kpos⟩::kws) (y3V te t):=by
 intro pos pins s σ H Q I h
 show wpAny _ _ (evalAll ((do let v <- eval e X.env;standAt pos;pure v)::(backToKw pos (keywordEach kws X.env)).map (·.2))) _ _ s
 refine wpAny_evalAll_cons (wpAny_bind (thn (ha pins s σ H _ I h) fun u s1 ⟨x,H1,I1,r1,q1⟩=>wpAny_bind (wpAny_standAt (wpAny_pure ?_))))
 exact thn (hr pos pins s1 σ H1 _ I1 q1) fun us s2 ⟨xs,H2,I2,r2,q2⟩=>⟨x::xs,H2,I2,.cons r1 r2,q2⟩
variable{g:List Value->List Value->List Value}{gV:List V->List V->List V}
end
structure A7(N P:List Str)(sc:Scope):Prop where
 kind:sc.kind=.function
 co:sc.isCoroutine=false
 gen:sc.isGenerator=false
 nd:N.Nodup
 pre:N.take P.length=P
 par:∀x∈P,sc.names.lookup x=some .local\/sc.names.lookup x=some .cell
 nofree:∀y∈sc.names,y.2≠.free
theorem z7U{kindOf:Str->Option NameKind}{x:Str}:∀{binds:List (Str×Value)}{m:Str->Option Value},(∀v,(x,v)∉binds)->bindL kindOf binds m x=m x
 | [],_,_=>rfl
 | (n,v)::r,m,h=>by
  unfold bindL
  rw[z7U fun w hw=>h w (bW _ hw)]
  split
  ·have:x≠n:=by rintro rfl;exact h v cD
   simp[this]
  ·rfl
theorem z8s{kindOf:Str->Option NameKind}{x:Str}:∀{binds:List (Str×Value)}{m:Str->Option Value},(∀v,(x,v)∉binds)->bindC kindOf binds m x=m x
 | [],_,_=>rfl
 | (n,v)::r,m,h=>by
  unfold bindC
  rw[z8s fun w hw=>h w (bW _ hw)]
  split
  ·rfl
  ·have:x≠n:=by rintro rfl;exact h v cD
   simp[this]
theorem z8x{kindOf:Str->Option NameKind}{x:Str}{v:Value}:∀{P:List Str}{vs:List Value}{i:Nat}{m:Str->Option Value},P.Nodup->P[i]? = some x->vs[i]? = some v->kindOf x=some .local->
  bindL kindOf (P.zip vs) m x=some v
 | [],_,_,_,_,h,_,_=>by simp at h
 | _::_,[],_,_,_,_,h,_=>by simp at h
 | p::P,w::vs,0,m,nd,h1,h2,hk=>by
  simp at h1 h2;subst h1;subst h2
  show bindL kindOf ((p,w)::P.zip vs) m p=_
  unfold bindL
  rw[z7U fun v hv=>(d6.mp nd).1 (List.of_mem_zip hv).1,if_pos hk]
  simp
 | p::P,w::vs,i+1,m,nd,h1,h2,hk=>by
  show bindL kindOf ((p,w)::P.zip vs) m x=_
  unfold bindL
  exact z8x (i:=i) (d6.mp nd).2 (by simpa using h1) (by simpa using h2) hk
theorem z8m{kindOf:Str->Option NameKind}{x:Str}{v:Value}:∀{P:List Str}{vs:List Value}{i:Nat}{m:Str->Option Value},P.Nodup->P[i]? = some x->vs[i]? = some v->kindOf x≠some .local->
  bindC kindOf (P.zip vs) m x=some v
 | [],_,_,_,_,h,_,_=>by simp at h
 | _::_,[],_,_,_,_,h,_=>by simp at h
 | p::P,w::vs,0,m,nd,h1,h2,hk=>by
  simp at h1 h2;subst h1;subst h2
  show bindC kindOf ((p,w)::P.zip vs) m p=_
  unfold bindC
  rw[z8s fun v hv=>(d6.mp nd).1 (List.of_mem_zip hv).1,if_neg hk]
  simp
 | p::P,w::vs,i+1,m,nd,h1,h2,hk=>by
  show bindC kindOf ((p,w)::P.zip vs) m x=_
  unfold bindC
  exact z8m (i:=i) (d6.mp nd).2 (by simpa using h1) (by simpa using h2) hk
def z4a(N:List Str)(vs:List V):St:=vs.map some++List.replicate (N.length-vs.length) none
def F0(CX:CXT)(P:Program)(w:World)(K:PySem.W.Frag)(mg:Str->Option Value)(base:Heap)(N:List Str)(qual:Str)(scope:Scope)(f:Addr)(cd:Value)(A:Around)(outer:List Env)(s:Shared)(H:Hp)(E:XK):Cx where
 prog:=P
 w:=w
 K:=K
 mg:=mg
 base:=base
 A:=A.deeper (envOfC qual scope s.heap.objs.size f cd)
 N:=N
 s₀:=s
 H₀:=H
 env:=envOfC qual scope s.heap.objs.size f cd
 outer:=outer
 stack:=envOfC qual scope s.heap.objs.size f cd::outer
 ex:=[]
 calm:=true
 fn:=fun _=>true
 pn:=[]
 xe:=fun e s'=>wpAny (model P w) (A.deeper (envOfC qual scope s.heap.objs.size f cd)) (leaving (envOfC qual scope s.heap.objs.size f cd) e) (fun _ s''=>CX outer H s E e s'') (fun e' s''=>CX outer H s E e' s'') s'
theorem z9z{sc:Scope}{n:Nat}{x:Str}(h:sc.names.lookup x=some .cell):∃c,(cellsFrom n sc.names []).lookup x=some c:=by
 have q:=PySem.W.cellsFrom_some sc.names n [] (.inl h)
 exact Option.isSome_iff_exists.mp q
theorem y0P{CX:CXT}{P:Program}{w:World}{K:PySem.W.Frag}{mg:Str->Option Value}{base:Heap}{N ps:List Str}{qual:Str}{scope:Scope}{f:Addr}{cd:Value}{A:Around}{outer:List Env}{s s1:Shared}{H:Hp}{E:XK}{us:List Value}{vs:List V}
  (S:A7 N ps scope) (hd:A.handled=none) (e0:W2 P w K mg base A outer s H) (hl:vs.length=ps.length) (r:Vals vs us)
  (x:InCallC s s.heap.objs.size (bindL (envOfC qual scope s.heap.objs.size f cd).kindOf (ps.zip us) fun _=>none) (cellsFrom (s.heap.objs.size+1) scope.names []) (bindC (envOfC qual scope s.heap.objs.size f cd).kindOf (ps.zip us) fun _=>none) s1) :
  Inv (F0 CX P w K mg base N qual scope f cd A outer s H E) [] (z4a N vs) H s1:=by
 have hpl:ps.length≤N.length:=by have:=congrArg List.length S.pre;rw[bO] at this;omega
 obtain⟨h1,tk,rfl,hk⟩:=x.done
 have noA:∀b:Addr,b∉(F0 CX P w K mg base N qual scope f cd A outer s H E).ex:=fun b z=>absurd (show b∈([]:List Addr) from z) (by simp)
 refine⟨⟨e0.mod,S.kind,rfl,rfl,bF _,fun y z c h1 h2=>?_,fun y hy=>?_,fun y c _ h=>?_,fun _=>hd,Around.frames_deeper e0.frames,.inr ⟨rfl,rfl⟩,fun b z=>absurd z (noA b),e0.bs,e0.bsz,fun b _ _=>noA b,fun b z=>absurd z (noA b),e0.Q7,e0.frf⟩,
  rfl,e0.bare,Un.kept hk,⟨_,x.toInCall.ns,fun i y v h1 h2 h3=>?_⟩,fun y c h=>⟨_,x.cell y c h⟩,e0.hok.fresh (bF _),fun y c h=>?_,fun p hp=>absurd (show p∈([]:List (Addr×Obj)) from hp) (by simp),e0.hok.kept hk,?_⟩
 ·exact name_of_addr x.apart (eQ h1) (eQ h2)
 ·have hy:scope.names.lookup y=some .cell\/scope.names.lookup y=some .free:=hy
  rcases hy with hy|hy
  ·exact z9z hy
  ·exact absurd rfl (S.nofree _ (eQ hy))
 ·exact dX (x.above y c (eQ h))
 ·have hi:i<vs.length:=by
   unfold z4a at h2
   by_cases hi:i<vs.length
   ·exact hi
   ·rw[dP (by simpa using hi)] at h2
    rw[fU] at h2
    split at h2<;>cases h2
  have ha:vs[i]? = some v:=by
   unfold z4a at h2
   rw[dH (by simpa using hi),bV] at h2
   cases e:vs[i]? with
   | none=>rw[e] at h2;cases h2
   | some a=>rw[e] at h2;cases h2;rfl
  obtain⟨u,hu,rv⟩:=r.get ha
  have hp:ps[i]? = some y:=by
   rw[<- S.pre,List.getElem?_take_of_lt (by omega)];exact h1
  have ndP:ps.Nodup:=by rw[<- S.pre];exact S.nd.sublist (List.take_sublist _ _)
  refine⟨u,rv,?_⟩
  rcases S.par y (bZ hp) with k|k
  ·exact .inl ⟨k,z8x ndP hp hu k⟩
  ·obtain⟨c,e⟩:=z9z (n:=s.heap.objs.size+1) k
   refine .inr ⟨.inl k,c,e,?_⟩
   have q:=x.cell y c e
   rw[z8m ndP hp hu (by show scope.names.lookup y≠_;rw[k];decide)] at q
   exact q
 ·exact e0.hok.fresh (dX (x.above y c (eQ h)))
 ·unfold z4a
  show _=N.length
  rw[bE,bA,gC]
  omega
theorem y2u{CX:CXT}{P:Program}{w:World}{K:PySem.W.Frag}{mg:Str->Option Value}{base:Heap}{k:Nat}{f:Addr}{name qual:Str}{params:Arguments}{body:List Stmt}{scope:Scope}{dV kV doc pm cdv ct oc:Value}{an od:Option Addr}
  {osl:Array (Option Value)}{N ps:List Str}{sp:Sp} (lk:K.lookup f=some ⟨oc,od,.func (PySem.W.fnOf name qual params body scope dV kV doc pm an cdv ct),osl⟩) (hcd:PySem.W.codeIn K cdv qual=true) (S:A7 N ps scope)
  (len:∀vs H Q E,sp vs H Q E->vs.length=ps.length)
  (Q9:∀(A:Around) (outer:List Env) (s:Shared) (H:Hp) (vs:List V) (Q:VK) (E:XK),D6 k (A.deeper (envOfC qual scope s.heap.objs.size f cdv))->sp vs H Q E->
   ∃t,PSs (F0 CX P w K mg base N qual scope f cdv A outer s H E) body t/\t { nx:=fun _ H'=>Q .non H',rt:=Q } (z4a N vs) H) :
  B0 P w K mg base CX (k+1) f (PySem.W.fnOf name qual params body scope dV kV doc pm an cdv ct) ps sp:=by
 refine⟨len,fun A outer s H args us vs Q E hr e0 hb r hsp=>?_⟩
 have hl:=len _ _ _ _ hsp
 have KX:K.In s.heap:=e0.mod.kin.keeps fun b o e=>(e0.bs b o e).1
 have lim:s.heap.NoLimit:=e0.mod.nolimit.keeps fun b o e=>(e0.bs b o e).1
 have w1H:∀y∈ps.zip us,scope.names.lookup y.1=some .local\/(scope.names.lookup y.1=some .cell/\((cellsFrom (s.heap.objs.size+1) scope.names []).lookup y.1).isSome=true):=fun⟨n,v⟩ hy=>by
  rcases S.par n (List.of_mem_zip hy).1 with q|q
  ·exact .inl q
  ·exact .inr ⟨q,PySem.W.cellsFrom_some _ _ _ (.inl q)⟩
 refine codeAny_call_function hr.depth (KX _ _ lk) rfl S.co S.gen rfl (PySem.W.codeRec_of KX hcd) (hb _ _ _ _ ?_)
 refine wpAny_newFunctionEnv_cells S.kind w1H fun env he s1 x=>?_
 subst he
 refine⟨lim.keeps x.toInCall.keep,codeAny_func ?_⟩
 obtain⟨t,ht,hq⟩:=Q9 A outer s H vs Q E (hr.deeper _) hsp
 have I:Inv (F0 CX P w K mg base N qual scope f cdv A outer s H E) [] (z4a N vs) H s1:=y0P S hr.hd e0 hl r x
 refine wpAny_mono (ht [] s1 (z4a N vs) H _ I hq) (fun fl s' hs=>?_) fun e s' hs=>hs
 have fin:∀{σ':St}{H':Hp}{v:V}{u:Value},Inv (F0 CX P w K mg base N qual scope f cdv A outer s H E) [] σ' H' s'->RelV v u->Q v H'->CE outer P w H s Q u s':=
  fun {σ' H' v u} J rv q=>⟨v,H',J.os,J.bare,J.base,J.hok,rv,q⟩
 cases fl with
 | ret u=>
  obtain⟨v,σ',H',J,rv,q⟩:=hs
  exact fin J rv q
 | next=>
  obtain⟨σ',H',J,q⟩:=hs
  exact fin (v:=V.non) (u:=Value.none) J rfl q
 | brk=>
  obtain⟨_,_,_,q⟩:=hs
  exact False.elim q
 | cont=>
  obtain⟨_,_,_,q⟩:=hs
  exact False.elim q
section
variable{X:Cx}{x:Str}{p pos:Pos}{e:Expr}{es:List Expr}{t:TA}{id T:String}{r:List V->Hp->VK->Prop}
def tCB(r:List V->Hp->VK->Prop)(t:TA):TE:=fun σ H Q=>t σ H fun vs H1=>r vs H1 Q
theorem z08(hc:z2O X (.builtin id) r)(hg:Gl X x)(hm:X.mg x=none)(hv:bootBuiltins x=some (.builtin id))(ha:PA X (e::es) t)(hn:x≠"__name__":=by decide)(hdb:(x == ("__debug__":Str))=false:=by decide)
  (he:starEach (e::es) X.env=(false,eval e X.env)::starEach es X.env:=by rfl) (hpl:(backTo pos (starEach es X.env)).any (·.1)=false:=by rfl):PE X (.Call (.Name x p) (e::es) [] pos) (tCB r t):=by
 intro pins s σ H Q I h
 refine wpAny_Call_Name_kw (z5i I hg hm hv ?_ hn hdb)
 exact PyProof.Rows.callWith_builtin1 (thn (ha pos pins s σ H _ I h) fun us s1 ⟨vs,H1,I1,r1,q1⟩=>hc pins s1 σ H1 vs us Q I1 r1 q1) he hpl
theorem z0z(hc:z2O X (.type T) r)(hg:Gl X x)(hm:X.mg x=none)(hv:bootBuiltins x=some (.type T))(ha:PA X (e::es) t)(hn:x≠"__name__":=by decide)(hdb:(x == ("__debug__":Str))=false:=by decide)
  (he:starEach (e::es) X.env=(false,eval e X.env)::starEach es X.env:=by rfl) (hpl:(backTo pos (starEach es X.env)).any (·.1)=false:=by rfl):PE X (.Call (.Name x p) (e::es) [] pos) (tCB r t):=by
 intro pins s σ H Q I h
 refine wpAny_Call_Name_kw (z5i I hg hm hv ?_ hn hdb)
 exact dA (thn (ha pos pins s σ H _ I h) fun us s1 ⟨vs,H1,I1,r1,q1⟩=>hc pins s1 σ H1 vs us Q I1 r1 q1) he hpl
end
end L2
namespace HT
open PySem PyProof.Rows
section
open PySem.SeqAt
open PySem.AutoSeq1 (wpAny_loadPart')
open PySem.MeetsSeq PySem.MeetsSeq2 PySem.MeetsSeq3
end
section
variable{prog:Program}{w:World}{A:Around}{E:Value->Shared->Prop}{s:Shared}
def sIx(n d:Nat):Option Int->Nat
 | none=>d
 | some v=>if v<0 then (v+(n:Int)).toNat else min v.toNat n
theorem y1R(n d k:Nat):sIx n d (some (k:Int))=min k n:=by
 show(if (k:Int)<0 then ((k:Int)+(n:Int)).toNat else min (k:Int).toNat n)=min k n
 rw[if_neg (by omega),Int.toNat_natCast]
theorem y3k(n d:Nat)(hd:d≤n)(o:Option Int):sIx n d o≤n:=by
 cases o with
 | none=>exact hd
 | some v=>
  show(if v<0 then (v+(n:Int)).toNat else min v.toNat n)≤n
  by_cases hv:v<0
  ·rw[if_pos hv];omega
  ·rw[if_neg hv];exact Nat.min_le_right _ _
theorem y0W(v:Int)(n d:Nat):(if v<0 then max (v+(n:Int)) 0 else min v (n:Int))=((sIx n d (some v):Nat):Int):=by
 show(if v<0 then max (v+(n:Int)) 0 else min v (n:Int))=(((if v<0 then (v+(n:Int)).toNat else min v.toNat n):Nat):Int)
 by_cases hv:v<0
 ·simp only[if_pos hv];omega
 ·simp only[if_neg hv];omega
theorem y0e(lo hi:Option Int)(n:Nat):Builtin.Slice.sliceAdjust lo hi 1 (n:Int)=(((sIx n 0 lo:Nat):Int),((sIx n n hi:Nat):Int)):=by
 have h1:¬((1:Int)<0):=by omega
 unfold Builtin.Slice.sliceAdjust
 simp only[h1,if_false]
 refine Prod.ext ?_ ?_
 ·cases lo with
  | none=>rfl
  | some v=>exact y0W v n 0
 ·cases hi with
  | none=>rfl
  | some v=>exact y0W v n n
theorem y06(i j:Nat):Builtin.Slice.slicePlaces (i:Int) (j:Int) 1=j-i:=by
 unfold Builtin.Slice.slicePlaces
 have h1:(1:Int) > 0:=by omega
 simp only[h1,if_true,Int.ediv_one]
 split<;>omega
theorem z7h{v:Value}{o:Option Int}{Q:Option Int->Shared->Prop}(p:IsPart v o)(h:Q o s):wpAny (model prog w) A (Builtin.Slice.slicePartIndex v) Q E s:=by
 cases p with
 | none=>exact slicePart_none h
 | int i t=>exact slicePart_int h
theorem z3l{sl:Addr}{vl vu:Value}{lo hi:Option Int}{n:Nat}{Q:Int×Int×Nat->Shared->Prop}(hs:s.heap.IsSliceOf sl vl vu .none)(pl:IsPart vl lo)(pu:IsPart vu hi)
  (h:Q (((sIx n 0 lo:Nat):Int),1,sIx n n hi-sIx n 0 lo) s):wpAny (model prog w) A (Builtin.Slice.sliceApplied (.ref sl) (pure (n:Int))) Q E s:=by
 obtain⟨os,hos,hcs,hds⟩:=id hs
 unfold Builtin.Slice.sliceApplied Builtin.Slice.sliceFields
 refine wpAny_bind (wpAny_bind (wpAny_field hos hds (x:=vl) rfl (wpAny_bind (wpAny_field hos hds (x:=vu) rfl (wpAny_bind (wpAny_field hos hds (x:=.none) rfl (wpAny_pure ?_)))))))
 refine wpAny_bind (slicePart_none ?_)
 show wpAny _ _ (if ((1:Int) == 0)=true then _ else _) _ _ s
 rw[if_neg (by decide)]
 refine wpAny_bind (z7h pl (wpAny_bind (z7h pu (wpAny_bind (wpAny_pure ?_)))))
 show wpAny _ _ (match Builtin.Slice.sliceAdjust lo hi 1 (n:Int) with|(lo,hi)=>pure (lo,(1:Int),Builtin.Slice.slicePlaces lo hi 1)) _ _ s
 rw[y0e lo hi n]
 show wpAny _ _ (pure (((sIx n 0 lo:Nat):Int),(1:Int),Builtin.Slice.slicePlaces ((sIx n 0 lo:Nat):Int) ((sIx n n hi:Nat):Int) 1)) _ _ s
 rw[y06]
 exact wpAny_pure h
theorem y25(xs:Array Value)(i k:Nat):((List.range k).filterMap fun(m:Nat)=>xs[((i:Int)+(m:Int)*1).toNat]?).toArray=((xs.toList.drop i).take k).toArray:=by
 have e:(fun(m:Nat)=>xs[((i:Int)+(m:Int)*1).toNat]?)=fun m=>xs[i+m]? := by
  funext m
  have:((i:Int)+(m:Int)*1).toNat=i+m:=by omega
  rw[this]
 rw[e]
 have:=pick_run xs i k
 rw[List.filterMap_map] at this
 have e2:((fun x=>xs[x]?) ∘ fun x=>i+x)=fun m=>xs[i+m]? := rfl
 rw[e2] at this
 rw[this]
theorem z4U{t sl:Addr}{items:Array Value}{vl vu:Value}{lo hi:Option Int}{Q:Value->Shared->Prop}(ht:IsTup s.heap t items)(hs:s.heap.IsSliceOf sl vl vu .none)(pl:IsPart vl lo)(pu:IsPart vu hi)
  (hw:¬(sIx items.size 0 lo=0/\sIx items.size items.size hi=items.size))
  (h:Q (.ref s.heap.objs.size) { s with heap:=s.heap.push { cls:=.type "tuple",data:=.seq ((items.toList.drop (sIx items.size 0 lo)).take (sIx items.size items.size hi-sIx items.size 0 lo)).toArray } })
  (hsz:items.size≤sizeLine):wpAny (model prog w) A (getItem (.ref t) (.ref sl)) Q E s:=by
 have W5:sizeOk (.seq ((items.toList.drop (sIx items.size 0 lo)).take (sIx items.size items.size hi-sIx items.size 0 lo)).toArray):=by
  show((items.toList.drop (sIx items.size 0 lo)).take (sIx items.size items.size hi-sIx items.size 0 lo)).toArray.size≤sizeLine
  rw[bI,bO,d8,eM]
  omega
 have hj:sIx items.size items.size hi≤items.size:=y3k _ _ (bF _) hi
 obtain⟨os,hos,hcs,hds⟩:=id hs
 have hTs:s.TypeIs (.ref sl) "slice":=⟨os,hos,hcs⟩
 unfold getItem
 try with_reducible refine wpAny_holding ?_
 first|refine wpAny_bind (wpAny_pure ?_)|skip
 refine wpAny_bind (wpAny_sequenceKey ht.typeIs (by decide) ?_)
 refine wpAny_bind (wpAny_callSpecial?_slot (name:=Str.ofString "__getitem__") ht.typeIs cP
  (wpAny_call_entry cP ht.typeIs entry_tuple_getitem ?_ (args_tuple_getitem _ _)))
 show wpAny _ _ (Builtin.Tuple.tupleItemsOf (.ref t) >>= _) _ _ s
 refine wpAny_bind (tupleItemsOf_ ht ?_)
 refine wpAny_bind (wpAny_typeOf hTs ?_)
 rw[if_pos (by decide)]
 refine wpAny_bind (z3l hs pl pu ?_)
 have hno:¬((((sIx items.size 0 lo:Nat):Int) == 0 && (1:Int) == 1 && (sIx items.size items.size hi-sIx items.size 0 lo) == items.size)=true):=by
  intro q
  rw[bX,bX] at q
  have q1:((sIx items.size 0 lo:Nat):Int)=0:=eq_of_beq q.1.1
  have q2:sIx items.size items.size hi-sIx items.size 0 lo=items.size:=eq_of_beq q.2
  exact hw ⟨by omega,by omega⟩
 show wpAny _ _ (if (((sIx items.size 0 lo:Nat):Int) == 0 && (1:Int) == 1 && (sIx items.size items.size hi-sIx items.size 0 lo) == items.size)=true then _ else _) _ _ s
 rw[if_neg hno,y25]
 first
  | exact wpAny_bind (m:=Builtin.Tuple.tupleExact _) (wpAny_newObj_type (wpAny_pure ⟨_,rfl,wpAny_pure h⟩) W5)
  | exact wpAny_bind (m:=Builtin.Tuple.tupleExact _) (wpAny_newObj_type (wpAny_bind (wpAny_pure (wpAny_pure ⟨_,rfl,wpAny_pure h⟩))) W5)
  | exact wpAny_bind (wpAny_bind (m:=Builtin.Tuple.tupleExact _) (wpAny_newObj_type (wpAny_pure (wpAny_pure ⟨_,rfl,wpAny_pure h⟩)) W5))
  | exact wpAny_bind (wpAny_bind (m:=Builtin.Tuple.tupleExact _) (wpAny_newObj_type (wpAny_pure ⟨_,rfl,wpAny_pure h⟩) W5))
end
end HT
namespace L2
open PySem PySem.Spec PyProof.Rows
abbrev TO:=St->Hp->(Option Int->Hp->Prop)->Prop
def PO(X:Cx)(e:Option Expr)(t:TO):Prop:=
 ∀(pins:List (Addr×Obj)) (s:Shared) (σ:St) (H:Hp) (Q:Option Int->Hp->Prop),Inv X pins σ H s->t σ H Q->
  wpAny (model X.prog X.w) X.A (evalPart e X.env) (fun u s'=>∃o H',Inv X pins σ H' s'/\IsPart u o/\Q o H') X.xe s
def y3R:TO:=fun _ H Q=>Q none H
def w1G(t:TE):TO:=fun σ H Q=>t σ H fun x H1=>∃i,x=.int i/\Q (some i) H1
theorem y0p{ns:List Int}:∀{us:List Value},Vals (ns.map V.int) us->IntsAre us ns:=by
 induction ns with
 | nil=>intro us r;rw[List.map_nil] at r;cases r;exact .nil
 | cons n ns ih=>
  intro us r
  rw[cO] at r
  cases r with
  | cons r1 r2=>
   obtain⟨t,e⟩:=r1
   subst e
   exact .cons n t (ih r2)
section
variable{X:Cx}{e:Expr}{te:TE}{lo hi:Option Expr}{tl th:TO}{pos p2:Pos}
theorem z2m:PO X none y3R:=by
 intro pins s σ H Q I h
 rw[evalPart_none]
 exact wpAny_pure ⟨none,H,I,.none,h⟩
theorem z2t(h:PE X e te):PO X (some e) (w1G te):=by
 intro pins s σ H Q I hw
 rw[evalPart_some]
 refine thn (h pins s σ H _ I hw) fun u s1 hz=>?_
 obtain⟨x,H1,I1,r1,q1⟩:=hz
 obtain⟨i,rfl,q⟩:=q1
 obtain⟨t,rfl⟩:=r1
 exact⟨some i,H1,I1,.int i t,q⟩
def SlR(X:Cx)(r:V->Option Int->Option Int->Hp->VK->Prop):Prop:=
 ∀(pins:List (Addr×Obj)) (s:Shared) (σ:St) (H:Hp) (x:V) (v vl vu:Value) (lo hi:Option Int) (sl:Addr) (Q:VK),Inv X pins σ H s->RelV x v->s.heap.IsSliceOf sl vl vu .none->IsPart vl lo->IsPart vu hi->r x lo hi H Q->
  ∃T id,typeLookup (.type T) "__getitem__"=pure (some (.builtin id))/\s.TypeIs v T/\wpAny (model X.prog X.w) X.A (getItem v (.ref sl)) (EP X pins σ Q) X.xe s
def tSl(r:V->Option Int->Option Int->Hp->VK->Prop)(te:TE)(tl th:TO):TE:=fun σ H Q=>te σ H fun x H1=>tl σ H1 fun l H2=>th σ H2 fun u H3=>r x l u H3 Q
theorem z1O{r:V->Option Int->Option Int->Hp->VK->Prop}(hr:SlR X r)(he:PE X e te)(hl:PO X lo tl)(hu:PO X hi th):PE X (.Subscript e (.Slice lo hi none p2) pos) (tSl r te tl th):=by
 intro pins s σ H Q I h
 refine Subscript_ (thn (he pins s σ H _ I h) fun v s1 hz=>?_)
 obtain⟨x,H1,I1,r1,q1⟩:=hz
 refine wpAny_Slice (thn (hl pins s1 σ H1 _ I1 q1) fun vl s2 ⟨l,H2,I2,pl,q2⟩=>thn (hu pins s2 σ H2 _ I2 q2) fun vu s3 hz=>?_)
 obtain⟨u,H3,I3,pu,q3⟩:=hz
 rw[evalPart_none]
 refine wpAny_pure ?_
 have I4:Inv X pins σ H3 { s3 with heap:=s3.heap.push { cls:=.type "slice",data:=.fields #[vl,vu,.none] } }:=I3.kept (t':=s3.toks) fun b ob q=>bB _ q
 obtain⟨T,id,hT,ht,hg⟩:=hr pins { s3 with heap:=s3.heap.push { cls:=.type "slice",data:=.fields #[vl,vu,.none] } } σ H3 x v vl vu l u s3.heap.objs.size Q I4 r1 (Heap.IsSliceOf.new ..) pl pu q3
 show wpAny (model X.prog X.w) X.A (subscriptTail e (.Slice lo hi none p2) v (.ref s3.heap.objs.size)) (EP X pins σ Q) X.xe { s3 with heap:=s3.heap.push { cls:=.type "slice",data:=.fields #[vl,vu,.none] } }
 exact tail_any (ops:=[.ref s3.heap.objs.size,v]) ht hT hg (by with_unfolding_all rfl)
def Q3(xs:List V)(lo hi:Option Int):List V:=(xs.drop (HT.sIx xs.length 0 lo)).take (HT.sIx xs.length xs.length hi-HT.sIx xs.length 0 lo)
theorem z6r(xs:List V)(lo hi:Option Int):(Q3 xs lo hi).length≤xs.length:=by
 unfold Q3
 rw[bO,d8]
 omega
def rSlT(K:PySem.W.Frag):V->Option Int->Option Int->Hp->VK->Prop:=fun x lo hi H Q=>∃a xs,x=.ref a/\SqT K H a xs/\
 ¬(HT.sIx xs.length 0 lo=0/\HT.sIx xs.length xs.length hi=xs.length)/\∀p,H p=none->Q (.ref p) (upd H p (.tup (Q3 xs lo hi)))
theorem y3e:SlR X (rSlT X.K):=by
 intro pins s σ H x v vl vu lo hi sl Q I rx hs pl pu h
 obtain⟨a,xs,rfl,hx,hw,q⟩:=h
 cases rx
 obtain⟨its,r,ht,hz⟩:=I.tuple hx
 have hlen:its.toArray.size=xs.length:=by rw[bI];exact r.length.symm
 refine⟨"tuple",_,cP.lookup,ht.typeIs,?_⟩
 refine HT.z4U ht hs pl pu (by rw[hlen];exact hw) ?_ (by rw[hlen];exact hz)
 rw[hlen]
 refine⟨.ref s.heap.objs.size,_,I.laid (t':=s.toks) (o:=.tup (Q3 xs lo hi)) (fun b ob q=>bB _ q) (bF _) ?_,rfl,q _ (I.hok.fresh (bF _))⟩
 exact⟨cC (z6r xs lo hi) hz,_,(r.drop (HT.sIx xs.length 0 lo)).take (HT.sIx xs.length xs.length hi-HT.sIx xs.length 0 lo),PlT.new _ _⟩
end
def ixN(n:Nat)(i:Int):Option Nat:=if 0≤i then (if i<n then some i.toNat else none) else if -(n:Int)≤i then some (i+n).toNat else none
def atI{α:Type}(xs:List α)(i:Int):Option α:=(ixN xs.length i).bind fun j=>xs[j]?
theorem y1d{n:Nat}{i:Int}{j:Nat}(h:ixN n i=some j):seqIndex? i n=some j/\j<n/\-(n:Int)≤i/\i<n:=by
 unfold ixN at h
 by_cases h0:0≤i
 ·rw[if_pos h0] at h
  by_cases h1:i<n
  ·rw[if_pos h1] at h
   have e:i.toNat=j:=Option.some.inj h
   exact⟨by rw[seqIndex_of h0 h1,e],by omega,by omega,h1⟩
  ·rw[if_neg h1] at h;cases h
 ·rw[if_neg h0] at h
  by_cases h1:-(n:Int)≤i
  ·rw[if_pos h1] at h
   have e:(i+n).toNat=j:=Option.some.inj h
   exact⟨by rw[seqIndex_neg (by omega) h1,e],by omega,h1,by omega⟩
  ·rw[if_neg h1] at h;cases h
theorem z9d{α:Type}{xs:List α}{i:Int}{v:α}(h:atI xs i=some v):∃j,seqIndex? i xs.length=some j/\xs[j]? = some v/\j<xs.length/\-(xs.length:Int)≤i/\i<xs.length:=by
 unfold atI at h
 cases e:ixN xs.length i with
 | none=>rw[e] at h;cases h
 | some j=>
  rw[e] at h
  obtain⟨h1,h2,h3,h4⟩:=y1d e
  exact⟨j,h1,h,h2,h3,h4⟩
theorem z1p{α:Type}{xs:List α}{j:Nat}{v:α}(h:xs[j]? = some v):atI xs (j:Int)=some v:=by
 have hj:j<xs.length:=(cJ.mp h).1
 have e:ixN xs.length (j:Int)=some j:=by
  unfold ixN
  rw[if_pos (by omega),if_pos (by omega)];simp
 unfold atI;rw[e];exact h
def y4i(b:Expr):Prop:=∀o i,subscripted b false o i=operate [o,i] (getItem o i)
def IxR(X:Cx)(r:R2):Prop:=
 ∀(value slice:Expr) (pins:List (Addr×Obj)) (s:Shared) (σ:St) (H:Hp) (x y:V) (v u:Value) (Q:VK),Inv X pins σ H s->RelV x v->RelV y u->r x y H Q->
  subscripted slice false v u=operate [v,u] (getItem v u)->wpAny (model X.prog X.w) X.A (subscriptTail value slice v u) (EP X pins σ Q) X.xe s
def MtR(X:Cx)(id:String)(r:V->List V->Hp->VK->Prop):Prop:=
 ∀(pins:List (Addr×Obj)) (s:Shared) (σ:St) (H:Hp) (x:V) (xs:List V) (v:Value) (us:List Value) (Q:VK),Inv X pins σ H s->RelV x v->Vals xs us->r x xs H Q->
  wpAny (model X.prog X.w) X.A (call (.builtin id) (v::us)) (EP X pins σ Q) X.xe s
section
variable{X:Cx}{a b:Expr}{ta tb:TE}{pos:Pos}
theorem IxR.or{r r':R2}(h:IxR X r)(h':IxR X r'):IxR X (fun x y H Q=>r x y H Q\/r' x y H Q):=by
 intro value slice pins s σ H x y v u Q I rx ry q hs
 rcases q with q|q
 ·exact h value slice pins s σ H x y v u Q I rx ry q hs
 ·exact h' value slice pins s σ H x y v u Q I rx ry q hs
theorem z0P{r:R2}(hr:IxR X r)(ha:PE X a ta)(hb:PE X b tb)(hs:y4i b):PE X (.Subscript a b pos) (tOp r ta tb):=by
 intro pins s σ H Q I h
 exact Subscript_ (w0F ha hb I h fun v u s2 x y H2 I2 rx ry q=>hr a b pins s2 σ H2 x y v u Q I2 rx ry q (hs _ _))
def Z6(K:PySem.W.Frag):R2:=fun x y H Q=>∃p xs i v,x=.ref p/\y=.int i/\SqL K H p xs/\atI xs i=some v/\Q v H
def Z1(K:PySem.W.Frag):R2:=fun x y H Q=>∃p xs i v,x=.ref p/\y=.int i/\SqT K H p xs/\atI xs i=some v/\Q v H
def rIxS:R2:=fun x y H Q=>∃z i c,x=.str z/\y=.int i/\z.length≤sizeLine/\atI z.cps.toList i=some c/\Q (.str ⟨#[c]⟩) H
theorem z0D:IxR X (Z6 X.K):=by
 intro value slice pins s σ H x y v u Q I rx ry h hs
 obtain⟨p,xs,i,z,rfl,rfl,hq,he,q⟩:=h
 cases rx
 obtain⟨t,rfl⟩:=ry
 obtain⟨its,r,pl,hz⟩:=I.list hq
 obtain⟨j,h1,h2,h3,h4,h5⟩:=z9d he
 obtain⟨w,ew,rw'⟩:=r.get h2
 have hl:=r.length
 have hn:=z4O
 have fin:EP X pins σ Q w s:=⟨z,H,I,rw',q⟩
 by_cases h0:0≤i
 ·have hj:i.toNat=j:=by
   rw[seqIndex_of h0 h5] at h1
   exact Option.some.inj h1
  exact item_listR pl.isList h0 (by omega) (by rw[hj];simpa using ew) fin hs
 ·have hj:(i+(its.toArray.size:Int)).toNat=j:=by
   rw[seqIndex_neg (by omega) h4] at h1
   rw[bI,<- hl]
   exact Option.some.inj h1
  exact subscriptTail_builtinR (x:=w) pl.isList.typeIs slot_list_getitem.lookup
   (wpAny_getItem_list_neg (Q:=fun r s'=>r=w/\EP X pins σ Q r s') pl.isList (by omega) (by rw[bI]<;>omega) (by omega) (by rw[hj];simpa using ew) ⟨rfl,fin⟩) hs
theorem z1F:IxR X (Z1 X.K):=by
 intro value slice pins s σ H x y v u Q I rx ry h hs
 obtain⟨p,xs,i,z,rfl,rfl,hq,he,q⟩:=h
 cases rx
 obtain⟨t,rfl⟩:=ry
 obtain⟨its,r,pl,hz⟩:=I.tuple hq
 obtain⟨j,h1,h2,h3,h4,h5⟩:=z9d he
 obtain⟨w,ew,rw'⟩:=r.get h2
 have hl:=r.length
 have hn:=z4O
 have fin:EP X pins σ Q w s:=⟨z,H,I,rw',q⟩
 exact subscriptTail_builtinR (x:=w) pl.typeIs slot_tuple_getitem.lookup
  (getItem_tuple (j:=j) (Q:=fun r s'=>r=w/\EP X pins σ Q r s') pl (by omega) (by omega) (by rw[bI,<- hl];exact h1) (by simpa using ew) ⟨rfl,fin⟩) hs
theorem y1T:IxR X rIxS:=by
 intro value slice pins s σ H x y v u Q I rx ry h hs
 obtain⟨z,i,c,rfl,rfl,hz,he,q⟩:=h
 obtain⟨t,rfl⟩:=rx
 obtain⟨t',rfl⟩:=ry
 obtain⟨j,h1,h2,h3,h4,h5⟩:=z9d he
 have hl:z.cps.toList.length=z.length:=by simp[Str.length]
 rw[hl] at h1 h4 h5
 have hn:=z4O
 exact tail_any (typeIs_str s z t) slot_str_getitem.lookup (getItem_str (c:=c) (by
  have e1:decide (i < -(2^63:Int))=false:=decide_eq_false (by omega)
  have e2:decide (i≥2^63)=false:=decide_eq_false (by omega)
  rw[e1,e2,Bool.or_false]) (by rw[h1];simpa using h2) ⟨.str ⟨#[c]⟩,H,I.tok _,⟨_,rfl⟩,q⟩) hs
def rIx(K:PySem.W.Frag):R2:=fun x y H Q=>Z6 K x y H Q\/Z1 K x y H Q\/rIxS x y H Q
theorem y4w:IxR X (rIx X.K):=z0D.or (z1F.or y1T)
theorem y0j(its:List Value)(n j:Nat)(u:Value):Obj.mapSeq (·.setIfInBounds j u) { cls:=.type "list",data:=.seq its.toArray n }={ cls:=.type "list",data:=.seq (its.set j u).toArray n }:=by
 simp[Obj.mapSeq]
theorem Inv.lst{pins:List (Addr×Obj)}{σ:St}{H:Hp}{s:Shared}{p:Addr}{xs:List V}(I:Inv X pins σ H s)(h:H p=some (.lst xs)) :
  ∃(its:List Value) (n:Nat),Vals xs its/\s.heap.get? p=some { cls:=.type "list",data:=.seq its.toArray n }/\xs.length≤sizeLine:=by
 obtain⟨z,its,n,r,e⟩:=I.hok p _ h
 exact⟨its,n,r,e,z⟩
theorem Inv.w0w{pins:List (Addr×Obj)}{σ:St}{H:Hp}{s:Shared}{p:Addr}{xs ys:List V}{its its':List Value}{n n':Nat}{f:Obj->Obj}(I:Inv X pins σ H s)(h:H p=some (.lst xs))
  (ho:s.heap.get? p=some { cls:=.type "list",data:=.seq its.toArray n }) (hf:f { cls:=.type "list",data:=.seq its.toArray n }={ cls:=.type "list",data:=.seq its'.toArray n' }) (r:Vals ys its') (hz:ys.length≤sizeLine) (t:Nat) :
  Inv X pins σ (upd H p (.lst ys)) { s with heap:=s.heap.update p f,toks:=t }:=by
 have e:(s.heap.update p f).get? p=some { cls:=.type "list",data:=.seq its'.toArray n' }:=by
  rw[dG f ho (by rw[hf]<;>rfl),hf]
 refine I.write (x:=p) (e:=p) (by rw[h];trivial) (.inl rfl) (fun b u hb q=>(cN _ _ (cT hb)).trans q) ⟨_,e⟩ ?_
 exact⟨hz,its',n',r,e⟩
def w18:V->V->V->Hp->(Hp->Prop)->Prop:=fun o i v H Q=>∃p xs k j,o=.ref p/\i=.int k/\H p=some (.lst xs)/\ixN xs.length k=some j/\Q (upd H p (.lst (xs.set j v)))
theorem y33:PSet X w18:=by
 intro pins s σ H o i v ov iv u Q I ro ri rv h
 obtain⟨p,xs,k,j,rfl,rfl,hp,hj,q⟩:=h
 cases ro
 obtain⟨t,rfl⟩:=ri
 obtain⟨its,n,r,ho,hz⟩:=I.lst hp
 obtain⟨h1,h2,h3,h4⟩:=y1d hj
 have hl:=r.length
 have hn:=z4O
 have I':Inv X pins σ (upd H p (.lst (xs.set j v))) { s with heap:=s.heap.update p (Obj.mapSeq (·.setIfInBounds j u)) }:=
  I.w0w hp ho (y0j its n j u) (r.set rv j) (by rw[List.length_set];exact hz) s.toks
 by_cases h0:0≤k
 ·have hk:k.toNat=j:=by
   rw[seqIndex_of h0 h4] at h1
   exact Option.some.inj h1
  exact PySem.W.ki_setAt ho h0 (by omega) (by rw[bI,<- hl];exact h4) (by rw[hk];exact⟨_,I',q⟩)
 ·have hk:(k+(its.toArray.size:Int)).toNat=j:=by
   rw[seqIndex_neg (by omega) h3] at h1
   rw[bI,<- hl]
   exact Option.some.inj h1
  exact PySem.W.ki_setBack ho (by omega) (by rw[bI,<- hl];exact h3) (by omega) (by rw[hk];exact⟨_,I',q⟩)
theorem z5n(lo hi:Option Int)(n:Nat):(sliceBounds lo hi none n).1=((HT.sIx n 0 lo:Nat):Int)/\(sliceBounds lo hi none n).2.1=((HT.sIx n n hi:Nat):Int)/\(sliceBounds lo hi none n).2.2=1:=by
 refine⟨?_,?_,rfl⟩
 ·cases lo with
  | none=>simp[sliceBounds,HT.sIx]
  | some i=>
   simp only[sliceBounds,HT.sIx,Option.getD_none,show(1:Int) > 0 by decide,if_true]
   by_cases h:i<0
   ·simp only[h,if_true]<;>omega
   ·simp only[h,if_false]<;>omega
 ·cases hi with
  | none=>simp[sliceBounds,HT.sIx]
  | some i=>
   simp only[sliceBounds,HT.sIx,Option.getD_none,show(1:Int) > 0 by decide,if_true]
   by_cases h:i<0
   ·simp only[h,if_true]<;>omega
   ·simp only[h,if_false]<;>omega
theorem z7I(its:List Value)(lo hi:Option Int):slicePick its.toArray lo hi none=((its.drop (HT.sIx its.length 0 lo)).take (HT.sIx its.length its.length hi-HT.sIx its.length 0 lo)).toArray:=by
 obtain⟨h1,h2,h3⟩:=z5n lo hi its.toArray.size
 unfold slicePick
 rw[h1,h2,h3]
 simp only[sliceRange_one,pick_run,bI]<;>rfl
def rSlL(K:PySem.W.Frag):V->Option Int->Option Int->Hp->VK->Prop:=fun x lo hi H Q=>∃a xs,x=.ref a/\SqL K H a xs/\∀p,H p=none->Q (.ref p) (upd H p (.lst (Q3 xs lo hi)))
theorem z63:SlR X (rSlL X.K):=by
 intro pins s σ H x v vl vu lo hi sl Q I rx hs pl pu h
 obtain⟨a,xs,rfl,hx,q⟩:=h
 cases rx
 obtain⟨its,r,ht,hz⟩:=I.list hx
 have hlen:=r.length
 refine⟨"list",_,slot_list_getitem.lookup,ht.isList.typeIs,?_⟩
 refine wpAny_getItem_list_slice ht.isList hs pl pu .none (by simp) ?_ (by rw[bI]<;>omega)
 rw[z7I,<- hlen]
 refine⟨.ref s.heap.objs.size,_,I.laid (t':=s.toks) (o:=.lst (Q3 xs lo hi)) (fun b ob q=>bB _ q) (bF _) ?_,rfl,q _ (I.hok.fresh (bF _))⟩
 exact⟨cC (z6r xs lo hi) hz,_,0,(r.drop (HT.sIx xs.length 0 lo)).take (HT.sIx xs.length xs.length hi-HT.sIx xs.length 0 lo),bJ _ rfl⟩
def z1u:V->Bool
 | .non=>true
 | .bl _=>true
 | .int _=>true
 | .str _=>true
 | _=>false
def eqV:V->V->Bool
 | .non,.non=>true
 | .bl a,.bl b=>a == b
 | .bl a,.int b=>(if a then 1 else 0) == b
 | .int a,.bl b=>a == (if b then 1 else 0)
 | .int a,.int b=>a == b
 | .str a,.str b=>a == b
 | _,_=>false
theorem y3h{A:Around}{s:Shared}{y x:V}{u v:Value}(ry:RelV y u)(rx:RelV x v)(fy:z1u y=true)(fx:z1u x=true):SeqAt.EqAt A s u v (eqV y x):=by
 cases y with
 | non=>
  cases ry
  cases x with
  | non=>cases rx;exact SeqAt.EqAt.same _
  | bl b=>cases rx;exact SeqAt.EqAt.none_bool b
  | int b=>obtain⟨t,rfl⟩:=rx;exact SeqAt.EqAt.none_int b t
  | str b=>obtain⟨t,rfl⟩:=rx;exact SeqAt.EqAt.none_str b t
  | _=>exact absurd (show false=true from fx) bN
 | bl a=>
  cases ry
  cases x with
  | non=>cases rx;exact SeqAt.EqAt.bool_none a
  | bl b=>cases rx;exact SeqAt.EqAt.bool_bool a b
  | int b=>obtain⟨t,rfl⟩:=rx;exact SeqAt.EqAt.bool_int a b t
  | str b=>obtain⟨t,rfl⟩:=rx;exact SeqAt.EqAt.bool_str a b t
  | _=>exact absurd (show false=true from fx) bN
 | int a=>
  obtain⟨t',rfl⟩:=ry
  cases x with
  | non=>cases rx;exact SeqAt.EqAt.int_none a t'
  | bl b=>cases rx;exact SeqAt.EqAt.int_bool a t' b
  | int b=>obtain⟨t,rfl⟩:=rx;exact SeqAt.EqAt.int_int a t' b t
  | str b=>obtain⟨t,rfl⟩:=rx;exact SeqAt.EqAt.int_str a t' b t
  | _=>exact absurd (show false=true from fx) bN
 | str a=>
  obtain⟨t',rfl⟩:=ry
  cases x with
  | non=>cases rx;exact SeqAt.EqAt.str_none a t'
  | bl b=>cases rx;exact SeqAt.EqAt.str_bool a t' b
  | int b=>obtain⟨t,rfl⟩:=rx;exact SeqAt.EqAt.str_int a t' b t
  | str b=>obtain⟨t,rfl⟩:=rx;exact SeqAt.EqAt.str_str a t' b t
  | _=>exact absurd (show false=true from fx) bN
 | _=>exact absurd (show false=true from fy) bN
def eqU(x:V)(u:Value):Bool:=match u with
 | .none=>eqV .non x
 | .bool b=>eqV (.bl b) x
 | .int i _=>eqV (.int i) x
 | .str z _=>eqV (.str z) x
 | _=>false
theorem z8h{x y:V}{u:Value}(r:RelV y u)(f:z1u y=true):eqU x u=eqV y x:=by
 cases y with
 | non=>cases r;rfl
 | bl b=>cases r;rfl
 | int i=>obtain⟨t,rfl⟩:=r;rfl
 | str z=>obtain⟨t,rfl⟩:=r;rfl
 | _=>exact absurd (show false=true from f) bN
theorem z6w{x:V}:∀{xs:List V}{us:List Value},Vals xs us->xs.all z1u=true->us.any (eqU x)=xs.any fun y=>eqV y x
 | _,_,.nil,_=>rfl
 | y::xs,u::us,.cons r t,f=>by
  rw[dQ,bX] at f
  rw[eU,eU,z8h r f.1,z6w t f.2]
theorem z38{A:Around}{s:Shared}{x:V}{v:Value}(rx:RelV x v)(fx:z1u x=true):∀{xs:List V}{us:List Value},Vals xs us->xs.all z1u=true->∀u∈us,SeqAt.EqAt A s u v (eqU x u)
 | _,_,.nil,_=>fun u hu=>by cases hu
 | y::xs,u::us,.cons r t,f=>fun u' hu=>by
  rw[dQ,bX] at f
  rcases bD.mp hu with rfl|hu
  ·rw[z8h r f.1];exact y3h r rx f.1 fx
  ·exact z38 rx fx t f.2 u' hu
def inV(x:V)(xs:List V):Bool:=xs.any fun y=>eqV y x
def rIn(K:PySem.W.Frag)(neg:Bool):R2:=fun x y H Q=>∃p xs,y=.ref p/\(SqL K H p xs\/SqT K H p xs)/\z1u x=true/\xs.all z1u=true/\Q (.bl (if neg then !inV x xs else inV x xs)) H
theorem z6n:OpR X (compareOp .In) (rIn X.K false):=by
 intro pins s σ H x y v u Q I rx ry h
 obtain⟨p,xs,rfl,hq,fx,fs,q⟩:=h
 cases ry
 rcases hq with hq|hq
 ·obtain⟨its,r,pl,hz⟩:=I.list hq
  refine SeqAt.in_listAt (eqU x) pl.isList (fun w hw=>z38 rx fx r fs w (by simpa using hw)) ⟨.bl _,H,I,rfl,?_⟩
  rw[show its.toArray.any (eqU x)=its.any (eqU x) by simp,z6w r fs]
  exact q
 ·obtain⟨its,r,pl,hz⟩:=I.tuple hq
  refine SeqAt.in_tupleAt (eqU x) pl (fun w hw=>z38 rx fx r fs w (by simpa using hw)) ⟨.bl _,H,I,rfl,?_⟩
  rw[show its.toArray.any (eqU x)=its.any (eqU x) by simp,z6w r fs]
  exact q
theorem z2w:OpR X (compareOp .NotIn) (rIn X.K true):=by
 intro pins s σ H x y v u Q I rx ry h
 obtain⟨p,xs,rfl,hq,fx,fs,q⟩:=h
 cases ry
 rcases hq with hq|hq
 ·obtain⟨its,r,pl,hz⟩:=I.list hq
  refine SeqAt.notIn_listAt (eqU x) pl.isList (fun w hw=>z38 rx fx r fs w (by simpa using hw)) ⟨.bl _,H,I,rfl,?_⟩
  rw[show its.toArray.any (eqU x)=its.any (eqU x) by simp,z6w r fs]
  exact q
 ·obtain⟨its,r,pl,hz⟩:=I.tuple hq
  refine SeqAt.notIn_tupleAt (eqU x) pl (fun w hw=>z38 rx fx r fs w (by simpa using hw)) ⟨.bl _,H,I,rfl,?_⟩
  rw[show its.toArray.any (eqU x)=its.any (eqU x) by simp,z6w r fs]
  exact q
theorem z06:z2O X (.builtin "len") (fun xs H Q=>∃p ys,xs=[.ref p]/\(SqL X.K H p ys\/SqT X.K H p ys)/\Q (.int ys.length) H):=by
 intro pins s σ H xs us Q I r h
 obtain⟨p,ys,rfl,hq,q⟩:=h
 obtain⟨u,rfl,rx⟩:=z4q r
 cases rx
 have hn:=z4O
 rcases hq with hq|hq
 ·obtain⟨its,r',pl,hz⟩:=I.list hq
  have hlen:=r'.length
  exact Calls.call_len_list pl.isList (by simp only[bI]<;>omega) ⟨.int ys.length,H,I.tok _,⟨s.toks+1,by rw[bI,hlen]⟩,q⟩
 ·obtain⟨its,r',pl,hz⟩:=I.tuple hq
  have hlen:=r'.length
  exact len_tuple pl (by simp only[bI]<;>omega) ⟨.int ys.length,H,I.tok _,⟨s.toks+1,by rw[bI,hlen]⟩,q⟩
theorem z5v:z2O X (.builtin "len") (fun xs H Q=>∃z,xs=[.str z]/\z.length≤sizeLine/\Q (.int z.length) H):=by
 intro pins s σ H xs us Q I r h
 obtain⟨z,rfl,hz,q⟩:=h
 obtain⟨u,rfl,t,rfl⟩:=z4q r
 have hn:=z4O
 exact len_str (by omega) ⟨.int z.length,H,I.tok _,⟨_,rfl⟩,q⟩
theorem z2A:z2O X (.type "list") (fun xs H Q=>∃p ys,xs=[.ref p]/\(SqL X.K H p ys\/SqT X.K H p ys)/\∀l,H l=none->Q (.ref l) (upd H l (.lst ys))):=by
 intro pins s σ H xs us Q I r h
 obtain⟨p,ys,rfl,hq,q⟩:=h
 obtain⟨u,rfl,rx⟩:=z4q r
 cases rx
 have fin:∀(its:List Value),Vals ys its->ys.length≤sizeLine->∀(h':Heap) (c':Nat),(∀b o',s.heap.get? b=some o'->h'.get? b=some o')->
   h'.get? s.heap.objs.size=some { cls:=.type "list",dict:=none,data:=.seq its.toArray c',slots:=#[] }->EP X pins σ Q (.ref s.heap.objs.size) { s with heap:=h' }:=fun its r' hz h' c' kp e=>
  ⟨.ref s.heap.objs.size,_,I.laid (t':=s.toks) kp (bF _) (show z1a X.prog X.w _ h' _ (.lst ys) from⟨hz,its,c',r',e⟩),rfl,q _ (I.hok.fresh (bF _))⟩
 rcases hq with hq|hq
 ·obtain⟨its,r',pl,hz⟩:=I.list hq
  have hlen:=r'.length
  obtain⟨o,ho,hc,n,hd⟩:=pl.isList
  exact call_list_seq p (.inl rfl) ho hc hd (fun h' c' kp e=>fin its r' hz h' c' kp e) (by simp only[bI]<;>omega)
 ·obtain⟨its,r',pl,hz⟩:=I.tuple hq
  have hlen:=r'.length
  obtain⟨o,ho,hc,n,hd⟩:=pl
  exact call_list_seq p (.inr rfl) ho hc hd (fun h' c' kp e=>fin its r' hz h' c' kp e) (by simp only[bI]<;>omega)
theorem z0Q:z2O X (.type "tuple") (fun xs H Q=>∃p ys,xs=[.ref p]/\((SqL X.K H p ys/\∀l,H l=none->Q (.ref l) (upd H l (.tup ys)))\/(SqT X.K H p ys/\Q (.ref p) H))):=by
 intro pins s σ H xs us Q I r h
 obtain⟨p,ys,rfl,h⟩:=h
 obtain⟨u,rfl,rx⟩:=z4q r
 cases rx
 rcases h with ⟨hq,q⟩|⟨hq,q⟩
 ·obtain⟨its,r',pl,hz⟩:=I.list hq
  have hlen:=r'.length
  refine call_tuple_list pl.isList (fun h' kp=>?_) (by simp only[bI]<;>omega)
  have I1:Inv X pins σ H { s with heap:=h' }:=I.kept (t':=s.toks) kp
  have I2:Inv X pins σ (upd H h'.objs.size (.tup ys)) { s with heap:=h'.push { cls:=.type "tuple",data:=.seq its.toArray } }:=
   I1.laid (t':=s.toks) (fun b o e=>bB _ e) (bF _) (show z1a X.prog X.w _ _ _ (.tup ys) from⟨hz,its,r',PlT.new _ _⟩)
  exact⟨.ref h'.objs.size,_,I2,rfl,q _ (I1.hok.fresh (bF _))⟩
 ·obtain⟨its,r',pl,hz⟩:=I.tuple hq
  exact call_tuple_same pl ⟨.ref p,H,I,rfl,q⟩
def tyV(K:PySem.W.Frag)(T:String)(x:V)(H:Hp):Prop:=match x with
 | .str _=>T="str"
 | .int _=>T="int"
 | .ref p=>(T="list"/\∃xs,SqL K H p xs)\/(T="tuple"/\∃o,K.lookup p=some o/\o.cls=.type "tuple"/\o.dict=none)\/
   (T="dict"/\((∃kvs,H p=some (.dK kvs))\/∃kvs,H p=some (.dT kvs)))\/(T="set"/\∃S n,H p=some (.set S n))
 | _=>False
theorem y3w{pins:List (Addr×Obj)}{σ:St}{H:Hp}{s:Shared}{T:String}{x:V}{v:Value}(I:Inv X pins σ H s)(r:RelV x v)(ty:tyV X.K T x H) :
  s.TypeIs v T/\∀a,v=.ref a->∃ob,s.heap.get? a=some ob/\ob.dict=none:=by
 cases x with
 | str z=>
  obtain⟨t,rfl⟩:=r
  cases (show T="str" from ty)
  exact⟨typeIs_str s z t,fun _ e=>nomatch e⟩
 | int i=>
  obtain⟨t,rfl⟩:=r
  cases (show T="int" from ty)
  exact⟨typeIs_int s i t,fun _ e=>nomatch e⟩
 | ref p=>
  cases r
  rcases ty with ⟨rfl,xs,hq⟩|⟨rfl,o,hk,hc,hd⟩|⟨rfl,hk⟩|⟨rfl,S,n,hk⟩
  ·obtain⟨its,_,pl,_⟩:=I.list hq
   refine⟨pl.isList.typeIs,fun a e=>?_⟩
   cases e
   obtain⟨o,n,e,c,hd,_⟩:=pl
   exact⟨o,e,hd⟩
  ·refine⟨⟨o,I.kIn p o hk,hc⟩,fun a e=>?_⟩
   cases e
   exact⟨o,I.kIn _ o hk,hd⟩
  ·have z:∃o,s.heap.get? p=some o/\o.ExactDict:=by
    rcases hk with ⟨kvs,hk⟩|⟨kvs,hk⟩
    ·obtain⟨_,_,_,_,o,_,_,e,ex,_⟩:=I.hok p _ hk
     exact⟨o,e,ex⟩
    ·obtain⟨_,_,_,_,o,_,_,e,ex,_⟩:=I.hok p _ hk
     exact⟨o,e,ex⟩
   obtain⟨o,e,ex⟩:=z
   refine⟨⟨o,e,ex.1⟩,fun a e2=>?_⟩
   cases e2
   exact⟨o,e,ex.2.1⟩
  ·obtain⟨o,_,_,_,e,ex,_⟩:=I.hok p _ hk
   refine⟨⟨o,e,ex.1⟩,fun a e2=>?_⟩
   cases e2
   exact⟨o,e,ex.2.1⟩
 | _=>exact False.elim ty
def tBM0(K:PySem.W.Frag)(T:String)(r:V->List V->Hp->VK->Prop)(to:TE):TE:=fun σ H Q=>to σ H fun x H1=>tyV K T x H1/\r x [] H1 Q
def tBM(K:PySem.W.Frag)(T:String)(r:V->List V->Hp->VK->Prop)(to:TE)(t:TA):TE:=fun σ H Q=>to σ H fun x H1=>tyV K T x H1/\t σ H1 fun xs H2=>r x xs H2 Q
variable{o e:Expr}{es:List Expr}{to:TE}{t:TA}{name:Str}{apos K9:Pos}{T id:String}{r:V->List V->Hp->VK->Prop}
theorem y36(pa:PlainAttrs T)(slot:Slot T name id)(hty:typeOf (.builtin id)=pure (.type "method_descriptor"))(hm:MtR X id r)(ho:PE X o to)
  (S7:attributeBase o name X.env (eval o X.env)=eval o X.env:=by rfl) (V3:(apos.endLine == K9.line)=true:=by rfl):PE X (.Call (.Attribute o name apos) [] [] K9) (tBM0 X.K T r to):=by
 intro pins s σ H Q I h
 refine wpAny_Call_method0_late S7 V3 (thn (ho pins s σ H _ I h) fun v s1 hz=>?_)
 obtain⟨x,H1,I1,r1,ty,q1⟩:=hz
 obtain⟨h1,h2⟩:=y3w I1 r1 ty
 exact⟨T,id,pa,slot,hty,h1,h2,Calls.callWith_builtin rfl (PySem.evalArgs_none (hm pins s1 σ H1 x [] v [] Q I1 r1 .nil q1))⟩
theorem z2h(pa:PlainAttrs T)(slot:Slot T name id)(hty:typeOf (.builtin id)=pure (.type "method_descriptor"))(hm:MtR X id r)(ho:PE X o to)(ha:PA X (e::es) t)
  (S7:attributeBase o name X.env (eval o X.env)=eval o X.env:=by rfl)
  (w0I:((backTo K9 (starEach (e::es) X.env)).all (fun x=>!x.1) && (backToKw K9 (keywordEach [] X.env)).all (fun x=>x.1.isSome)
   && decide ((e::es).length+([]:List Keyword).length+(if ([]:List Keyword).isEmpty then 0 else 1)<30))=true:=by rfl)
  (V3:(apos.endLine == K9.line)=true:=by rfl) (hs:starEach (e::es) X.env=(false,eval e X.env)::starEach es X.env:=by rfl) (S6:(backTo K9 (starEach es X.env)).any (·.1)=false:=by rfl) :
  PE X (.Call (.Attribute o name apos) (e::es) [] K9) (tBM X.K T r to t):=by
 intro pins s σ H Q I h
 refine wpAny_Call_method_late S7 w0I V3 rfl (thn (ho pins s σ H _ I h) fun v s1 hz=>?_)
 obtain⟨x,H1,I1,r1,ty,q1⟩:=hz
 obtain⟨h1,h2⟩:=y3w I1 r1 ty
 refine⟨T,id,pa,slot,hty,h1,h2,?_⟩
 have hA:=ha K9 pins s1 σ H1 _ I1 q1
 rw[hs] at hA ⊢
 refine Calls.callWith_builtin (by show(false || (backTo K9 (starEach es X.env)).any (·.1))=false;rw[S6]<;>rfl) (Calls.evalArgs_plain ?_)
 exact thn hA fun us s2 ⟨vs,H2,I2,r2,q2⟩=>hm pins s2 σ H2 x vs v us Q I2 r1 r2 q2
end
def MtM(X:Cx)(id:String)(r:V->List V->Hp->VK->Prop):Prop:=
 ∀(pins:List (Addr×Obj)) (s:Shared) (σ:St) (H:Hp) (x:V) (xs:List V) (v:Value) (us:List Value) (Q:VK),Inv X pins σ H s->RelV x v->Vals xs us->r x xs H Q->
  wpAny (model X.prog X.w) X.A (call (.builtin id) (v::us)) (EP X pins σ Q) X.xe s
theorem Vals.one:∀{x:V}{us:List Value},Vals [x] us->∃u,us=[u]/\RelV x u
 | _,_,.cons r .nil=>⟨_,rfl,r⟩
theorem Vals.two:∀{x y:V}{us:List Value},Vals [x,y] us->∃u v,us=[u,v]/\RelV x u/\RelV y v
 | _,_,_,.cons r (.cons q .nil)=>⟨_,_,rfl,r,q⟩
theorem Vals.dropLast{xs:List V}{us:List Value}(h:Vals xs us):Vals xs.dropLast us.dropLast:=by
 induction h with
 | nil=>exact .nil
 | cons r t ih=>
  cases t with
  | nil=>exact .nil
  | cons q t'=>exact .cons r ih
theorem Vals.rep{xs:List V}{us:List Value}(h:Vals xs us):∀k:Nat,Vals (List.replicate k xs).flatten (List.replicate k us).flatten
 | 0=>.nil
 | k+1=>by
  rw[dC,dC,fW,fW]
  exact Vals.append h (Vals.rep h k)
theorem z8j(its:List Value):∀(k:Nat) (acc:List Value),
  List.foldl (fun x1 x2=>x1++x2) acc.toArray (List.replicate k its.toArray)=(acc++(List.replicate k its).flatten).toArray
 | 0,acc=>by simp
 | k+1,acc=>by
  have e:acc.toArray++its.toArray=(acc++its).toArray:=by simp
  have e2:(acc++its)++(List.replicate k its).flatten=acc++(List.replicate (k+1) its).flatten:=by
   rw[dC,fW,dR]
  rw[<- e2,<- z8j its k (acc++its),<- e,dC,dN]
section
variable{X:Cx}{pins:List (Addr×Obj)}{σ:St}{H:Hp}{s:Shared}{l b:Addr}{xs ys zs:List V}
theorem Inv.w0B{its its':List Value}{n:Nat}{f:Array Value->Array Value}{t':Nat}(I:Inv X pins σ H s)(hH:H l=some (.lst xs))
  (e:s.heap.get? l=some { cls:=.type "list",data:=.seq its.toArray n }) (hf:f its.toArray=its'.toArray) (hv:Vals ys its') (hz:ys.length≤sizeLine) :
  Inv X pins σ (upd H l (.lst ys)) { s with heap:=s.heap.update l (Obj.mapSeq f),toks:=t' }:=by
 have q:=PySem.IsL.update e f
 rw[hf] at q
 refine I.write (x:=l) (e:=l) (by rw[hH];exact trivial) (.inl rfl) (fun b' u hb hu=>(cN s.heap (Obj.mapSeq f) (cT hb)).trans hu) ⟨_,q⟩ ?_
 exact⟨hz,its',_,hv,q⟩
theorem Inv.lnew{its:List Value}{t':Nat}(I:Inv X pins σ H s)(hv:Vals ys its)(hz:ys.length≤sizeLine) :
  Inv X pins σ (upd H s.heap.objs.size (.lst ys)) { s with heap:=s.heap.push { cls:=.type "list",data:=.seq its.toArray },toks:=t' }:=
 I.laid (fun _ _ q=>bB _ q) (bF _) ⟨hz,its,0,hv,bJ _ rfl⟩
theorem Inv.fresh(I:Inv X pins σ H s):H s.heap.objs.size=none:=I.hok.fresh (bF _)
theorem Inv.V7(I:Inv X pins σ H s)(hH:H l=some (.lst xs)):xs.length≤sizeLine/\∃(its:List Value) (n:Nat),Vals xs its/\xs.length=its.length/\s.heap.get? l=some { cls:=.type "list",data:=.seq its.toArray n }:=by
 obtain⟨z,its,n,r,e⟩:=I.hok l _ hH
 exact⟨z,its,n,r,r.length,e⟩
theorem z9s{n:Nat}(h:n≤sizeLine):Builtin.List.listTooLong n=false:=by
 unfold Builtin.List.listTooLong
 exact decide_eq_false (by omega)
end
section
variable{X:Cx}
def y4b:V->List V->Hp->VK->Prop:=fun x vs H Q=>∃l xs y,x=.ref l/\vs=[y]/\H l=some (.lst xs)/\xs.length<sizeLine/\Q .non (upd H l (.lst (xs++[y])))
theorem z0B:MtM X "list.append" y4b:=by
 intro pins s σ H x vs v us Q I rx rv h
 obtain⟨l,xs,y,rfl,rfl,hH,hz,q⟩:=h
 cases rx
 obtain⟨u,rfl,ru⟩:=rv.one
 obtain⟨z,its,n,r,hl,e⟩:=I.V7 hH
 refine call_meets F.slot_list_append ⟨_,e,rfl⟩ F.entry_list_append (F.args_list_append_2 _ _) (PySem.list_append l its.toArray n u (by rw[bI];omega)) ⟨e,?_⟩
 refine⟨.non,_,I.w0B (its':=its++[u]) hH e (by simp) (r.append (.cons ru .nil)) ?_,rfl,q⟩
 rw[bE,dO]
 omega
def y3X:V->List V->Hp->VK->Prop:=fun x vs H Q=>∃l b xs zs,x=.ref l/\vs=[.ref b]/\H l=some (.lst xs)/\H b=some (.lst zs)/\xs.length+zs.length≤sizeLine/\Q .non (upd H l (.lst (xs++zs)))
theorem y4H:MtM X "list.extend" y3X:=by
 intro pins s σ H x vs v us Q I rx rv h
 obtain⟨l,b,xs,zs,rfl,rfl,hH,hB,hz,q⟩:=h
 cases rx
 obtain⟨u,rfl,ru⟩:=rv.one
 cases ru
 obtain⟨z,its,n,r,hl,e⟩:=I.V7 hH
 obtain⟨z2,Q2,n2,r2,hl2,e2⟩:=I.V7 hB
 have hsz:its.toArray.size+Q2.toArray.size≤sizeLine:=by rw[bI,bI];omega
 have Z5:¬(!its.toArray.isEmpty && Builtin.List.listTooLong (its.toArray.size+Q2.toArray.size))=true:=by
  rw[z9s hsz,Bool.and_false]
  exact bN
 refine call_meets F.slot_list_extend ⟨_,e,rfl⟩ F.entry_list_extend (F.args_list_extend_2 _ _)
  (AutoSeq1.list_extend_list_list_0 l its.toArray n b Q2.toArray n2 Z5 (by rw[bI];omega) (by omega)) ⟨e,e2,?_⟩
 refine⟨.non,_,I.w0B (its':=its++Q2) hH e (by simp) (r.append r2) ?_,rfl,q⟩
 rw[bE]
 omega
def rCat:R2:=fun x y H Q=>∃l b xs zs,x=.ref l/\y=.ref b/\H l=some (.lst xs)/\H b=some (.lst zs)/\xs.length+zs.length≤sizeLine/\∀p,H p=none->Q (.ref p) (upd H p (.lst (xs++zs)))
theorem z4M:OpR X (binaryOp .Add) rCat:=by
 intro pins s σ H x y v u Q I rx ry h
 obtain⟨l,b,xs,zs,rfl,rfl,hH,hB,hz,q⟩:=h
 cases rx
 cases ry
 obtain⟨z,its,n,r,hl,e⟩:=I.V7 hH
 obtain⟨z2,Q2,n2,r2,hl2,e2⟩:=I.V7 hB
 refine PySem.P.add_list e e2 ?_ (by rw[bI,bI];omega)
 have ea:its.toArray++Q2.toArray=(its++Q2).toArray:=by simp
 rw[ea]
 exact⟨.ref _,_,I.lnew (t':=s.toks) (r.append r2) (by rw[bE];omega),rfl,q _ I.fresh⟩
def rRep:R2:=fun x y H Q=>∃l k xs,x=.ref l/\y=.int k/\H l=some (.lst xs)/\-(2^63)≤k/\k<2^63/\xs.length*k.toNat≤sizeLine/\
 ∀p,H p=none->Q (.ref p) (upd H p (.lst (List.replicate k.toNat xs).flatten))
theorem y42{α:Type}(xs:List α)(k:Nat):(List.replicate k xs).flatten.length=k*xs.length:=by
 induction k with
 | zero=>simp
 | succ k ih=>rw[dC,fW,bE,ih,Nat.succ_mul,Nat.add_comm]
theorem y3a:OpR X (binaryOp .Mult) rRep:=by
 intro pins s σ H x y v u Q I rx ry h
 obtain⟨l,k,xs,rfl,rfl,hH,h1,h2,hz,q⟩:=h
 cases rx
 obtain⟨t,rfl⟩:=ry
 obtain⟨z,its,n,r,hl,e⟩:=I.V7 hH
 have hlen:its.toArray.size*k.toNat≤sizeLine:=by rw[bI,<- hl];exact hz
 have hcap:¬its.toArray.size*k.toNat > (2^63-1) / 8:=by
  have:(sizeLine:Nat)≤(2^63-1) / 8:=by decide
  omega
 have hfit:¬(!Builtin.List.listFitsIndex k)=true:=by
  rw[fitsIndex_both h1 h2]
  exact bN
 have Z5:¬Builtin.List.listTooLong (its.toArray.size*k.toNat)=true:=by
  rw[z9s hlen]
  exact bN
 have X8:List.foldl (fun x1 x2=>x1++x2) #[] (List.replicate (if its.toArray.isEmpty=true then 0 else k.toNat) its.toArray)=(List.replicate k.toNat its).flatten.toArray:=by
  have f0:∀m:Nat,List.foldl (fun x1 x2=>x1++x2) #[] (List.replicate m its.toArray)=(List.replicate m its).flatten.toArray:=fun m=>by
   have:=z8j its m []
   rw[List.nil_append] at this
   exact this
  rw[f0]
  cases its with
  | nil=>simp
  | cons a r'=>rw[if_neg (by simp)]
 refine wpAny_binaryOp_repeat_ref (T:="list") (U:="int") (by decide) ⟨_,e,rfl⟩ (fun s'=>typeIs_int s' k t) noFill_list_mul F.fills_int_mul F.slot_int_rmul repeat_list F.slot_int_index.lookup
  (call_meets F.slot_int_rmul (typeIs_int s k t) F.entry_int_rmul (F.args_int_rmul_2 _ _) (int___rmul___int_list k t l its.toArray n)
   ⟨e,rfl,⟨_,e,rfl⟩,call_meets F.slot_list_mul ⟨_,e,rfl⟩ F.entry_list_mul (F.args_list_mul_2 _ _) (AutoListH.list___mul___list_int_3 l its.toArray n k t hfit hcap Z5) ⟨e,?_⟩⟩)
 rw[X8]
 exact⟨.ref _,_,I.lnew (t':=s.toks) (r.rep k.toNat) (by rw[y42,Nat.mul_comm];exact hz),rfl,q _ I.fresh⟩
end
section
variable{prog:Program}{w:World}{A:Around}{E:Value->Shared->Prop}{s:Shared}
end
section
variable{X:Cx}
end
end L2
namespace Att
open PySem PySem.W PySem.Calls PyProof.Rows
theorem z5T{P:Params}{h:Heap}:∀(ns:List Int) (vs:List Value),WellAll P h vs (ns.map WData.int)->IntsAre vs ns:=by
 intro ns
 induction ns with
 | nil=>
  intro vs w
  rw[List.map_nil] at w
  cases w
  exact .nil
 | cons n ns ih=>
  intro vs w
  rw[cO] at w
  cases w with
  | cons a b=>
   cases a
   exact .cons _ _ (ih _ b)
theorem y1A{l:OpenLaw}{n:Nat}(hn:l.most=some n){P:Params}{h:Heap}{args:List WData}{vals:List Value}
  (w08:l.row.toRowW.claim.pre args=true) (hwl:WellAll P h vals args) :
  ∃a vs ns,vals=[Value.ref a]/\args=[WData.list (ns.map WData.int)]/\h.get? a=some { cls:=.type "list",data:=.seq vs.toArray }/\IntsAre vs ns/\ns.length≤n:=by
 have hsh:WShape.hasAll [] args [.list .int]=true:=(pre_splitW w08).1
 have hc:l.pre.holds [] { args:=args }=true:=(pre_splitW w08).2
 obtain⟨d,r,rfl,h1,h2⟩:=hasAllW_cons hsh
 obtain rfl:=hasAllW_nil h2
 obtain⟨xs,rfl,h3⟩:=hasW_list h1
 obtain⟨ns,rfl⟩:=items_int h3
 have hlen:ns.length≤n:=by
  unfold OpenLaw.pre at hc
  have h4:(WTm.not (.lt (.lit (.int (n:Int))) (.len (.arg 0)))).holds [] { args:=[.list (ns.map .int)] }=true:=by
   have h4:=(holds_andW hc).1
   rw[hn] at h4
   exact h4
  have h5:=condW_of h4 (w_not (w_lt w_lit (w_len_list (w_arg rfl))))
  rw[bA] at h5
  refine gU fun q=>?_
  have q':(n:Int)<((ns.length:Nat):Int):=by omega
  first
   | (rw[decide_eq_true q'] at h5;exact absurd h5 (by decide))
   | (simp at h5;omega)
 cases hwl with
 | cons w1 w2=>
  cases w2
  cases w1 with
  | list ho N8=>exact⟨_,_,ns,rfl,rfl,ho,z5T ns _ N8,hlen⟩
theorem y1S(l:OpenLaw)(args:List WData):l.row.toRowW.claim.post args (.bool true) args=true:=
 postW_of (r:=l.row.toRowW) (X:=(true == true))
  (show WShape.has [] (.bool true) .bool=true by first|rfl|decide|simp[WShape.has,WShape.arms,WShape.armsAll])
  (show(WTm.eq .res (.lit (.bool true))).value [] { args:=args,res:=some (.bool true),after:=args }=some (.bool (true == true)) from w_eq_bool (w_res rfl) w_lit) rfl
theorem z8H{l:OpenLaw}{n:Nat}{q:Program}{loose:List Str}{XP:(Str->Option Value)->Heap->Prop}{YP:World->Heap->Prop}{d:DefRec}
  (hn:l.most=some n) (hdf:d.params.defaults=[])
  (call:∀(w:World) (s₀ s₁:Shared) (mg mb:Str->Option Value) (fa:Addr) (o:Obj) (pm cd doc:Value) (a:Addr) (vs:List Value) (ns:List Int),
   Ground q loose [] XP w s₀ mg mb s₁.heap->YP w s₁.heap->
   s₁.heap.get? fa=some o->o.data=.func (docDef d.name d.params d.body d.scope pm cd doc)->s₁.heap.CodeRec cd d.name->mg d.name=some (.ref fa)->
   s₁.heap.get? a=some { cls:=.type "list",data:=.seq vs.toArray }->IntsAre vs ns->ns.length≤n->s₁.gens=#[]->
   codeAny (model l.prog w) callerA (.call (.ref fa) ⟨[.ref a],[]⟩) (fun r s'=>r=.ok (.ret (.bool true))/\OldK s₁.heap s'.heap/\s'.os=s₁.os/\AllBare s'.gens) s₁) :
  WalkO q loose XP YP l.row.toRowW d [] (fun f vs=>PySem.call f vs):=by
 intro w s₀ s₁ mg mb G Y fa o pm cd doc dV kV ho hd hcd hD hmg hg args vals as w08 hlay hrd hwl hlo
 obtain rfl:dV=.none:=Dflts.none hD hdf
 obtain rfl:kV=.none:=Dflts.noKw hD
 obtain⟨a,vs,ns,rfl,rfl,hobj,hints,hlen⟩:=y1A hn w08 hwl
 refine enter_call (codeAny_mono (call w s₀ s₁ mg mb fa o pm cd doc a vs ns G Y ho (fd_plain hd) hcd hmg hobj hints hlen hg) fun r s' hq=>?_)
 obtain⟨rfl,h2,h3,h4⟩:=hq
 exact⟨.inl ⟨.bool true,.bool true,[],rfl,fun _=>rfl,.bool true,y1S l _,fun _=>⟨List.Pairwise.nil,fun _ hm=>(nomatch hm)⟩⟩,h2,h3,h4⟩
section
variable{prog:Program}{w:World}{A:Around}{E:Value->Shared->Prop}{s:Shared}{K:Frag}
end
end Att
namespace L2
open PySem PySem.Spec PyProof.Rows
theorem z4n:∀{vs:List Value}{ns:List Int},IntsAre vs ns->Vals (ns.map V.int) vs
 | _,_,.nil=>.nil
 | _,_,.cons n t h=>.cons ⟨t,rfl⟩ (z4n h)
def w0h(H:Hp):Prop:=∀b,H b=none\/∃o xs,H b=some (.frz o (.lst xs))
theorem y30{P:Program}{w:World}{K:PySem.W.Frag}{mg mb:Str->Option Value}{CX:CXT}{k:Nat}{fa a:Addr}{fd:FuncData}{x:Str}{sp:Sp}{s₁:Shared}{vs:List Value}{ns:List Int}
  (KX:K.In s₁.heap) (hns:s₁.heap.Ns mainGlobals mg) (hb:s₁.heap.Ns builtinsNs mb) (hbb:∀x:Str,x≠"__name__"->mb x=bootBuiltins x) (hlim:s₁.heap.NoLimit) (hg:s₁.gens=#[])
  (ha:s₁.heap.get? a=some { cls:=.type "list",data:=.seq vs.toArray }) (hi:IntsAre vs ns) (hl:ns.length≤sizeLine) (hr:D6 k callerA)
  (F:∀base:Heap,K.In base->base.Ns mainGlobals mg->B0 P w K mg base CX k fa fd [x] sp) (w1q:∀(s:Shared) (u:Value),BindsTo s fd ⟨[u],[]⟩ [(x,u)])
  (hsp:∀H:Hp,w0h H->SqL K H a (ns.map V.int)->sp [.ref a] H (fun v _=>v=.bl true) fun _ _ _=>False)
  (hCX:∀H e s',CX [] H s₁ (fun _ _ _=>False) e s'->False) :
  codeAny (model P w) callerA (.call (.ref fa) ⟨[.ref a],[]⟩) (fun r s'=>r=.ok (.ret (.bool true))/\OldK s₁.heap s'.heap/\s'.os=s₁.os/\AllBare s'.gens) s₁:=by
 have rv:=z4n hi
 have lenV:=hi.length
 have core:∀H:Hp,w0h H->SqL K H a (ns.map V.int)->HOk P w H s₁.heap->(∀b,H b≠none->b=a)->(H a≠none->K.lookup a=none)->
   codeAny (model P w) callerA (.call (.ref fa) ⟨[.ref a],[]⟩) (fun r s'=>r=.ok (.ret (.bool true))/\OldK s₁.heap s'.heap/\s'.os=s₁.os/\AllBare s'.gens) s₁:=by
  intro H hO hS hok hA hK
  have W6:∀{b:Addr}{o:Obj},s₁.heap.get? b=some o->H b=none->(U3 s₁.heap H).get? b=some o:=fun e n=>y2i e n
  have noA:∀{b:Addr}{o:Obj}{es:Array DictEntry}{ep:Nat},s₁.heap.get? b=some o->o.data=.dict es ep->H b=none:=fun {b o es ep} e d=>by
   cases q:H b with
   | none=>rfl
   | some u=>
    have e':b=a:=hA b (by rw[q];simp)
    subst e'
    rw[ha] at e;cases e
    have d':Data.seq vs.toArray _=Data.dict es ep:=d
    cases d'
  have nsK:∀{b:Addr}{m:Str->Option Value},s₁.heap.Ns b m->(U3 s₁.heap H).Ns b m:=fun {b m} ⟨o,es,ep,e,d,r⟩=>⟨o,es,ep,W6 e (noA e d),d,r⟩
  have hKb:K.In (U3 s₁.heap H):=fun b o e=>W6 (KX b o e) (by
   cases q:H b with
   | none=>rfl
   | some u=>
    have e':b=a:=hA b (by rw[q];simp)
    subst e'
    rw[hK (by rw[q];simp)] at e;cases e)
  have hM:Mod K mg (U3 s₁.heap H):=⟨hKb,nsK hns,⟨mb,nsK hb,hbb⟩,let ⟨mc,h1,h2⟩:=hlim;⟨mc,nsK h1,h2⟩⟩
  have e0:W2 P w K mg (U3 s₁.heap H) callerA [] s₁ H:=⟨rfl,hM,fun b o e=>y3I e,Nat.le_of_eq (y1D _ _),trivial,fun b hb=>absurd (show b∈([]:List Addr) from hb) (by simp),hok,.of_eq hg⟩
  refine codeAny_mono ((F _ hKb (nsK hns)).run callerA [] s₁ H ⟨[.ref a],[]⟩ [.ref a] [.ref a] _ _ hr e0 (w1q s₁ (.ref a)) (.cons rfl .nil) (hsp H hO hS)) fun r s' h=>?_
  cases r with
  | error e=>exact(hCX H e s' h).elim
  | ok fl=>
   cases fl with
   | next=>exact False.elim h
   | brk=>exact False.elim h
   | cont=>exact False.elim h
   | ret u=>
    obtain⟨v,H',os,bare,un,hok',r',q⟩:=h
    have q':v=.bl true:=q
    subst q'
    obtain rfl:u=Value.bool true:=r'
    refine⟨rfl,OldK.of_keep fun b o e=>?_,os,bare⟩
    cases q:H b with
    | none=>exact un.keep b o e q (by intro z;exact absurd (show b∈([]:List Addr) from z) (by simp)) (by simp)
    | some u=>
     rcases hO b with z|⟨ob,xs,z⟩
     ·rw[q] at z;cases z
     ·have z2:=un.O9 b ob _ z
      obtain⟨e1,_⟩:=hok b _ z
      obtain⟨e2,_⟩:=hok' b _ z2
      rw[e] at e1;cases e1
      exact e2
 cases hk:K.lookup a with
 | some o=>
  have e:=KX a o hk
  rw[ha] at e
  cases e
  refine core (fun _=>none) (fun _=>.inl rfl) (.inr ⟨_,vs.toArray,_,hk,rfl,rfl,rfl,by rw[bI,lenV];exact hl,by simpa using rv⟩) (fun b u z=>by have z':(none:Option HO)=some u:=z;cases z') (fun b z=>absurd rfl z) fun z=>absurd rfl z
 | none=>
  refine core (fun b=>if b=a then some (.frz { cls:=.type "list",data:=.seq vs.toArray } (.lst (ns.map V.int))) else none) (fun b=>?_) (.inl (.inr ⟨{ cls:=.type "list",data:=.seq vs.toArray },if_pos rfl⟩)) (fun b u z=>?_) (fun b z=>?_) fun _=>hk
  ·by_cases hb:b=a
   ·exact .inr ⟨_,_,if_pos hb⟩
   ·exact .inl (if_neg hb)
  ·by_cases hb:b=a
   ·have z':=(if_pos hb).symm.trans z
    cases z'
    subst hb
    exact⟨ha,by rw[bA];exact hl,vs,_,rv,ha⟩
   ·have z':=(if_neg hb).symm.trans z
    cases z'
  ·by_cases hb:b=a
   ·exact hb
   ·exact absurd (if_neg hb) z
theorem y4j{l:PySem.W.OpenLaw}{n k:Nat}{q:Program}{loose:List Str}{XP:(Str->Option Value)->Heap->Prop}{YP:World->Heap->Prop}{d:DefRec}{K:Params->PySem.W.Frag}{CX:World->CXT}{sp:World->Sp}{x:Str}
  (hn:l.most=some n) (hn2:n≤sizeLine) (hdf:d.params.defaults=[]) (hr:D6 k callerA)
  (hY:∀(w:World) (h:Heap),YP w h->(K w.params).In h)
  (F:∀(w:World) (mg:Str->Option Value) (fa:Addr) (h:Heap),(K w.params).In h->h.Ns mainGlobals mg->mg d.name=some (.ref fa)->
   ∃fd:FuncData,(∀(s:Shared) (u:Value),BindsTo s fd ⟨[u],[]⟩ [(x,u)])/\
    ∀base:Heap,(K w.params).In base->base.Ns mainGlobals mg->B0 l.prog w (K w.params) mg base (CX w) k fa fd [x] (sp w))
  (hsp:∀(w:World) (H:Hp) (a:Addr) (ns:List Int),ns.length≤n->w0h H->SqL (K w.params) H a (ns.map V.int)->sp w [.ref a] H (fun v _=>v=.bl true) fun _ _ _=>False)
  (hCX:∀(w:World) (H:Hp) (s:Shared) (e:Value) (s':Shared),CX w [] H s (fun _ _ _=>False) e s'->False) :
  PySem.W.WalkO q loose XP YP l.row.toRowW d [] (fun f vs=>PySem.call f vs):=by
 refine Att.z8H hn hdf fun w s₀ s₁ mg mb fa o pm cd doc a vs ns G Y ho hd hcd hmg hobj hints hlen hg=>?_
 have KX:=hY w _ Y
 obtain⟨fd,hb,hF⟩:=F w mg fa _ KX G.T.g hmg
 exact y30 KX G.T.g G.T.b G.T.builtins G.T.nolimit hg hobj hints (cC hlen hn2) hr hF hb (fun H hO hS=>hsp w H a ns hlen hO hS) fun H e s'=>hCX w H s₁ e s'
def z18(s:Stmt)(j:Nat):Stmt:=match s with
 | .ClassDef _ _ _ body _ _ _ _ _ _ _=>body.getD j (.Pass ⟨0,0,0,0⟩)
 | _=>.Pass ⟨0,0,0,0⟩
def z1e(s:Stmt):Arguments:=match s with
 | .FunctionDef _ a _ _ _ _ _ _ _ _=>a
 | _=>{ posonlyargs:=[],args:=[],vararg:=none,kwonlyargs:=[],kw_defaults:=[],kwarg:=none,defaults:=[] }
def z0Z(s:Stmt):List Stmt:=match s with
 | .FunctionDef _ _ b _ _ _ _ _ _ _=>b
 | _=>[]
def z07(s:Stmt):Scope:=match s with
 | .FunctionDef _ _ _ _ _ _ sc _ _ _=>sc
 | _=>{ kind:=.function,names:=[],isGenerator:=false,isCoroutine:=false }
abbrev CX0:CXT:=fun _ _ _ _ _ _=>False
abbrev E0:XK:=fun _ _ _=>False
theorem y0B{X:Cx}:z5k CX0 X E0:=fun _ _ _ _ _ _ _ h=>h.elim
structure Fun(K:PySem.W.Frag)(x qual:Str)(st:Stmt)(f:Addr)(fd:FuncData):Prop where
 ex:∃(oc:Value) (od:Option Addr) (kV doc pm:Value) (an:Option Addr) (cdv ct:Value) (osl:Array (Option Value)),
  fd=PySem.W.fnOf x qual (z1e st) (z0Z st) (z07 st) .none kV doc pm an cdv ct/\K.lookup f=some ⟨oc,od,.func fd,osl⟩/\PySem.W.codeIn K cdv qual=true
 kp:PySem.W.keepIn K (.ref f)=true
section
variable{P:Program}{w:World}{K:PySem.W.Frag}{mg:Str->Option Value}{base:Heap}
theorem Fun.ok{x qual:Str}{st:Stmt}{f:Addr}{fd:FuncData}{N ps:List Str}{k:Nat}{sp:Sp}(F:Fun K x qual st f fd)(S:A7 N ps (z07 st))(len:∀vs H Q E,sp vs H Q E->vs.length=ps.length)
  (Q9:∀(cdv:Value) (A:Around) (outer:List Env) (s:Shared) (H:Hp) (vs:List V) (Q:VK) (E:XK),D6 k (A.deeper (envOfC qual (z07 st) s.heap.objs.size f cdv))->sp vs H Q E->
   ∃t,PSs (F0 CX0 P w K mg base N qual (z07 st) f cdv A outer s H E).nox (z0Z st) t/\t { nx:=fun _ H'=>Q .non H',rt:=Q } (z4a N vs) H):B0 P w K mg base CX0 (k+1) f fd ps sp:=by
 obtain⟨oc,od,kV,doc,pm,an,cdv,ct,osl,rfl,lk,hcd⟩:=F.ex
 refine y2u lk hcd S len fun A outer s H vs Q E hr hsp=>?_
 obtain⟨t,h,q⟩:=Q9 cdv A outer s H vs Q E hr hsp
 exact⟨t,h.nox,q⟩
theorem Fun.binds{x qual:Str}{st:Stmt}{f:Addr}{fd:FuncData}{ps:List Str}(F:Fun K x qual st f fd)
  (h:∀(kV doc pm:Value) (an:Option Addr) (cdv ct:Value) (us:List Value),us.length=ps.length->bindArgs (PySem.W.fnOf x qual (z1e st) (z0Z st) (z07 st) .none kV doc pm an cdv ct) ⟨us,[]⟩=pure (ps.zip us)):z1c K fd ps []:=by
 obtain⟨oc,od,kV,doc,pm,an,cdv,ct,osl,rfl,lk,hcd⟩:=F.ex
 exact .all (h kV doc pm an cdv ct)
theorem y4X{x qual:Str}{st:Stmt}{f:Addr}{oc:Value}{od an:Option Addr}{osl:Array (Option Value)}{kV doc pm cdv ct:Value}(l:K.lookup f=some ⟨oc,od,.func (PySem.W.fnOf x qual (z1e st) (z0Z st) (z07 st) .none kV doc pm an cdv ct),osl⟩)
  (c:PySem.W.codeIn K cdv qual=true) (k:PySem.W.keepIn K (.ref f)=true):Fun K x qual st f (PySem.W.fnOf x qual (z1e st) (z0Z st) (z07 st) .none kV doc pm an cdv ct):=⟨⟨oc,od,kV,doc,pm,an,cdv,ct,osl,rfl,l,c⟩,k⟩
end
theorem y2l{A:Around}{k:Nat}(hr:D6 k A):A.units+1<cLine:=eX (Nat.add_le_add_left (by decide:1≤64) _) hr.units
theorem z0i{n:Nat}(h:n≤1000):n<sizeLine:=eX h (by decide)
section
variable{X:Cx}
theorem pv(i:Nat){x:Str}{pos:Pos}(hN:X.N[i]? = some x:=by rfl)(hv:Vis X.env.scope x:=by first|exact Or.inl rfl|exact Or.inr (Or.inl rfl)|exact Or.inr (Or.inr rfl))(hd:(x == ("__debug__":Str))=false:=by decide)
  (hcd:(x == ("__classdict__":Str))=false:=by decide):PE X (.Name x pos) (Y0 i):=y52 hN hv hd hcd
end
theorem C2{A B:Prop}(h:B):if false=true then A else B:=by
 rw[if_neg bN]
 exact h
theorem J8{A B:Prop}(h:A):if true=true then A else B:=by
 rw[if_pos rfl]
 exact h
theorem B3{c A B:Prop}[Decidable c](h1:c->A)(h2:¬c->B):if c then A else B:=by
 by_cases h:c
 ·rw[if_pos h]
  exact h1 h
 ·rw[if_neg h]
  exact h2 h
theorem y2g{c A B:Prop}[Decidable c](hc:c)(h:B):if (!decide c)=true then A else B:=by
 rw[decide_eq_true hc]
 exact C2 h
def A4(H H':Hp):Prop:=∀b o,H b=some o->H' b=some o
theorem A4.refl(H:Hp):A4 H H:=fun _ _ h=>h
theorem A4.trans{H H1 H2:Hp}(a:A4 H H1)(b:A4 H1 H2):A4 H H2:=fun c o h=>b c o (a c o h)
theorem A4.free{H H':Hp}(e:A4 H H'){l:Addr}(h:H' l=Option.none):H l=Option.none:=by
 cases q:H l with
 | none=>rfl
 | some o=>
  rw[e l o q] at h
  cases h
theorem A4.seq{K:PySem.W.Frag}{H H':Hp}{a:Addr}{xs:List V}(e:A4 H H')(h:SqL K H a xs):SqL K H' a xs:=by
 rcases h with (h|⟨o,h⟩)|h
 ·exact .inl (.inl (e _ _ h))
 ·exact .inl (.inr ⟨o,e _ _ h⟩)
 ·exact .inr h
abbrev noE:Value->Shared->Prop:=fun _ _=>False
theorem z9n{prog:Program}{w:World}{A:Around}{R:Result->Shared->Prop}{s:Shared}{elt target iter:Expr}{ifs:List Expr}{scope:Scope}{pos:Pos}{it acc:Value}{env:Env}(I:Nat->Shared->Prop)
  (turn:∀n s,I n s->wpAny (model prog w) A (pyNext it) (fun r s1=>match r with
   | none=>R (.ok .next) s1
   | some v=>wpAny (model prog w) A (letOwnedTupleGo target it v) (fun _ s0=>wpAny (model prog w) A (assign target env v) (fun _ s2=>
     wpAny (model prog w) A (forIn ifs true fun c r=>if r=true then do let ok <- isTrue c env (eval c env);pure (ForInStep.yield ok) else pure (ForInStep.yield r)) (fun ok s3=>
      if ok=true then wpAny (model prog w) A (eval elt env) (fun x s4=>
       wpAny (model prog w) A (call (.builtin "list.append") [acc,x]) (fun _ s5=>∃m,m<n/\I m s5) noE s4) noE s3
      else ∃m,m<n/\I m s3) noE s2) noE s0) noE s1) noE s)
  (n:Nat) (h:I n s):codeAny (model prog w) A (.compLoop (.ListComp elt [⟨target,iter,ifs,0⟩] scope pos) 0 it acc env) R s:=by
 refine codeAny_loop rfl I (fun n s hI=>?_) n h
 show wpAny _ A ((compTurn (.ListComp elt [⟨target,iter,ifs,0⟩] scope pos) 0 it acc env).onRaise (fun x=>do noteFrame x env;theTreesLotGoes x)) _ _ s
 refine wpAny_noted ?_
 rw[compTurn_list]
 refine wpAny_bind (wpAny_standAt (wpAny_bind (wpAny_mono (turn n s hI) (fun r s1 h1=>?_) fun _ _ z=>False.elim z)))
 cases r with
 | none=>exact wpAny_pure h1
 | some v=>
  refine wpAny_bind (wpAny_mono h1 (fun _ s0 h0=>?_) fun _ _ z=>False.elim z)
  refine wpAny_bind (wpAny_mono h0 (fun _ s2 h2=>wpAny_bind (wpAny_mono h2 (fun ok s3 h3=>?_) fun _ _ z=>False.elim z)) fun _ _ z=>False.elim z)
  cases ok with
  | false=>exact wpAny_pure ⟨rfl,h3⟩
  | true=>
   exact wpAny_bind (wpAny_bind (wpAny_mono h3 (fun x s4 h4=>wpAny_bind (wpAny_mono h4 (fun _ s5 h5=>wpAny_pure (wpAny_pure ⟨rfl,h5⟩)) fun _ _ z=>False.elim z)) fun _ _ z=>False.elim z))
def z60(cells:List (Str×Addr)):List (Str×NameKind)->List (Str×Addr)->Option (List (Str×Addr))
 | [],acc=>some acc
 | (n,k)::r,acc=>if k == .free then (match cells.lookup n with
   | some a=>z60 cells r ((n,a)::acc)
   | none=>none) else z60 cells r acc
theorem z58{env:Env}:∀(names:List (Str×NameKind)) (acc cl:List (Str×Addr)),z60 env.cells names acc=some cl->
  (forIn names acc fun(x:Str×NameKind) (cs:List (Str×Addr))=>match x with
   | (name,kind)=>if (kind == NameKind.free)=true then do let c <- cellOf env name;pure (ForInStep.yield ((name,c)::cs)) else pure (ForInStep.yield cs):Sem (List (Str×Addr)))=pure cl
 | [],acc,cl,h=>by
  have h':acc=cl:=Option.some.inj h
  subst h'
  rfl
 | (n,k)::r,acc,cl,h=>by
  rw[List.forIn_cons]
  unfold z60 at h
  by_cases hk:(k == NameKind.free)=true
  ·rw[if_pos hk] at h
   cases e:env.cells.lookup n with
   | none=>rw[e] at h;cases h
   | some a=>
    rw[e] at h
    have ih:=z58 r ((n,a)::acc) cl h
    have hc:cellOf env n=pure a:=by unfold cellOf;rw[e]
    dsimp only
    rw[if_pos hk,hc]
    simpa using ih
  ·rw[if_neg hk] at h
   have ih:=z58 r acc cl h
   dsimp only
   rw[if_neg hk]
   simpa using ih
theorem z5j{scope:Scope}{env:Env}{cl:List (Str×Addr)}(h:z60 env.cells scope.names []=some cl):closureFor scope env=pure cl:=by
 have q:=z58 (env:=env) scope.names [] cl h
 unfold closureFor
 simpa using q
theorem z69{cells:List (Str×Addr)}:∀{names:List (Str×NameKind)}{acc cl:List (Str×Addr)},z60 cells names acc=some cl->
  (∀x c,acc.lookup x=some c->cells.lookup x=some c)->∀x c,cl.lookup x=some c->cells.lookup x=some c
 | [],acc,cl,h,ha,x,c,e=>by
  have h':acc=cl:=Option.some.inj h
  subst h'
  exact ha x c e
 | (n,k)::r,acc,cl,h,ha,x,c,e=>by
  unfold z60 at h
  by_cases hk:(k == NameKind.free)=true
  ·rw[if_pos hk] at h
   cases q:cells.lookup n with
   | none=>rw[q] at h;cases h
   | some a=>
    rw[q] at h
    refine z69 (names:=r) (acc:=(n,a)::acc) h (fun y d z=>?_) x c e
    rw[dY] at z
    cases hy:y == n with
    | true=>
     rw[hy] at z
     have z':a=d:=Option.some.inj z
     rw[<- z',beq_iff_eq.mp hy]
     exact q
    | false=>
     rw[hy] at z
     exact ha y d z
  ·rw[if_neg hk] at h
   exact z69 (names:=r) (acc:=acc) h ha x c e
theorem z4I{cells:List (Str×Addr)}:∀{names:List (Str×NameKind)}{acc cl:List (Str×Addr)},z60 cells names acc=some cl->
  ∀x,((∃c,acc.lookup x=some c)\/(x,NameKind.free)∈names)->∃c,cl.lookup x=some c
 | [],acc,cl,h,x,hx=>by
  have h':acc=cl:=Option.some.inj h
  subst h'
  rcases hx with hx|hx
  ·exact hx
  ·cases hx
 | (n,k)::r,acc,cl,h,x,hx=>by
  unfold z60 at h
  by_cases hk:(k == NameKind.free)=true
  ·rw[if_pos hk] at h
   cases q:cells.lookup n with
   | none=>rw[q] at h;cases h
   | some a=>
    rw[q] at h
    refine z4I (names:=r) (acc:=(n,a)::acc) h x ?_
    rcases hx with ⟨c,hx⟩|hx
    ·left
     rw[dY]
     cases hy:x == n with
     | true=>exact⟨a,rfl⟩
     | false=>exact⟨c,hx⟩
    ·rcases bD.mp hx with e|e
     ·left
      have e1:x=n:=congrArg Prod.fst e
      rw[dY,e1,beq_self_eq_true]
      exact⟨a,rfl⟩
     ·exact .inr e
  ·rw[if_neg hk] at h
   refine z4I (names:=r) (acc:=acc) h x ?_
   rcases hx with hx|hx
   ·exact .inl hx
   ·rcases bD.mp hx with e|e
    ·have e2:NameKind.free=k:=congrArg Prod.snd e
     exact absurd (by rw[<- e2];rfl) hk
    ·exact .inr e
theorem z6s{α β:Type}[BEq α][LawfulBEq α]:∀{l:List (α×β)}{x:α}{b:β},l.lookup x=some b->(x,b)∈l
 | [],x,b,h=>by cases h
 | (a,c)::r,x,b,h=>by
  rw[dY] at h
  cases hx:x == a with
  | true=>
   rw[hx] at h
   have h':c=b:=Option.some.inj h
   rw[beq_iff_eq.mp hx,h']
   exact cD
  | false=>
   rw[hx] at h
   exact bW _ (z6s h)
theorem z5w{scope:Scope}{env:Env}(W7:∀y∈scope.names,y.2≠.cell){x:Str}(h:(relabel scope env).names.lookup x=some .cell\/(relabel scope env).names.lookup x=some .free):(x,NameKind.free)∈scope.names:=by
 have go:∀k,(relabel scope env).names.lookup x=some k->(k=.cell\/k=.free)->(x,NameKind.free)∈scope.names:=fun k h hk=>by
  have m:=z6s h
  obtain⟨⟨n,k'⟩,hm,e⟩:=cF.mp m
  dsimp only at e
  by_cases c:(k' == NameKind.free && env.scope.kind == .function && env.kindOf n == some .cell)=true
  ·rw[if_pos c] at e
   have e1:n=x:=congrArg Prod.fst e
   have c1:(k' == NameKind.free)=true:=by
    rw[bX,bX] at c
    exact c.1.1
   have c2:k'=.free:=eq_of_beq c1
   rw[<- e1,<- c2]
   exact hm
  ·rw[if_neg c] at e
   have e1:n=x:=congrArg Prod.fst e
   have e2:k'=k:=congrArg Prod.snd e
   rcases hk with z|z
   ·exact absurd (e2.trans z) (W7 _ hm)
   ·rw[<- e1,<- z,<- e2]
    exact hm
 rcases h with h|h
 ·exact go _ h (.inl rfl)
 ·exact go _ h (.inr rfl)
def z3m(X:Cx)(scope:Scope)(cl:List (Str×Addr))(N:List Str)(C:Addr)(s3:Shared)(H1:Hp)(ex:List Addr)(pins:List (Addr×Obj)):Cx:=
 { X with N:=N,s₀:=s3,H₀:=H1,env:=compEnvC scope cl C X.env,outer:=X.stack,ex:=ex,fn:=fun _=>false,pn:=X.pn++pins,xe:=noE }
def z5N(own:Nat)(ix:List Nat)(σ:St):St:=List.replicate own none++ix.map fun i=>(σ[i]?).join
structure J2(X:Cx)(scope:Scope)(cl:List (Str×Addr))(own F1:List Str)(ix:List Nat):Prop where
 V5:z60 X.env.cells scope.names []=some cl
 cell:∀y∈scope.names,y.2≠.cell
 kind:scope.kind=.function
 names:∀y∈scope.names,y.2=.local->scope.names.lookup y.1=some .local
 capn:F1.length=ix.length
 cap:∀(j i:Nat) (x:Str),F1[j]? = some x->ix[j]? = some i->X.N[i]? = some x/\X.env.kindOf x≠some .local/\Vis X.env.scope x/\((relabel scope X.env).names.lookup x=some .cell\/(relabel scope X.env).names.lookup x=some .free)
theorem Inv.w0Q{X:Cx}{pins:List (Addr×Obj)}{σ:St}{H:Hp}{s:Shared}{D:Addr}{o:HO}(I:Inv X pins σ H s)(f:S2 X pins H D)(new:z1a X.prog X.w (upd H D o) s.heap D o):Inv X pins σ (upd H D o) s:=by
 obtain⟨f0,f1,f2,f3,f4,f5⟩:=f
 have q:=I.step (H':=upd H D o) (h':=s.heap) (g':=s.gens) (t':=s.toks) (d':=s.drawn) (ch:=[D]) (fun b hb=>by
   have e:b=D:=by simpa using hb
   subst e
   exact⟨f3,f1,f4,f5⟩)
  (fun _ _ _ _ _ e _=>e) (fun b ob _ _ _ e _=>⟨ob.slots,e⟩) (fun b ob hb _ n=>by
   have e:b≠D:=fun z=>hb (by simp[z])
   rw[z0b e];exact n)
  (fun b ob _ e=>⟨ob,e⟩) (fun b xs e=>by rw[z0b (z0m e f0)];exact e) (fun b ob u e=>by rw[z0b (z0m e f0)];exact e)
  (fun b ps e=>⟨#[],by rw[z0b (z0m e f0),e];simp⟩) (fun _ hm=>hm) (fun b u e=>by
   by_cases hb:b=D
   ·subst hb
    rw[A1] at e
    cases e
    exact new
   ·rw[z0b hb] at e
    exact(I.hok b u e).T4 (fun _ _ _ q=>q) (fun c q=>by rw[z0b (z0m q f0)];exact q) fun c xs q=>by rw[z0b (z0m q f0)];exact q) I.bare
 exact q
section
variable{X:Cx}{scope:Scope}{cl:List (Str×Addr)}{own F1:List Str}{ix:List Nat}
theorem J2.look(S:J2 X scope cl own F1 ix):∀x c,cl.lookup x=some c->X.env.cells.lookup x=some c:=
 z69 S.V5 fun x c e=>by cases e
theorem y2n{pins:List (Addr×Obj)}{σ:St}{H1:Hp}{s3:Shared}{h1:Heap}{ex:List Addr}{m:Str->Option Value}{tk:Nat}(S:J2 X scope cl own F1 ix)(I:Inv X pins σ H1 s3)
  (hex:∀b∈ex,b<s3.heap.objs.size/\b≠X.env.locals/\b∉X.fs/\(b∈X.ex\/X.s₀.heap.objs.size≤b)/\∀x c,X.env.cells.lookup x=some c->c≠b)
  (hn:h1.Ns s3.heap.objs.size m) (hk:∀b o,s3.heap.get? b=some o->h1.get? b=some o) :
  Inv (z3m X scope cl (own++F1) s3.heap.objs.size s3 H1 ex pins) [] (z5N own.length ix σ) H1 { s3 with heap:=h1,toks:=tk }:=by
 have stkN:∀b∈frs X.stack,b<s3.heap.objs.size:=fun b hb=>by
  obtain⟨_,o,ho,_⟩:=I.stack.mem hb
  exact bK ho
 have lt0:∀b o,X.base.get? b=some o->b<X.s₀.heap.objs.size:=fun b o e=>bK (I.ok.bs b o e).1
 refine⟨⟨I.ok.mod,S.kind,I.ok.glob,I.ok.blt,bF _,?_,?_,?_,I.ok.hd,I.ok.frames,.inl rfl,?_,I.bs,cC I.ok.bsz I.sz,?_,?_,I.stack,I.M8⟩,rfl,I.bare,?_,?_,?_,?_,?_,?_,?_,?_⟩
 ·intro x y c e1 e2
  exact I.ok.inj x y c (S.look x c e1) (S.look y c e2)
 ·intro x hx
  exact z4I S.V5 x (.inr (z5w S.cell hx))
 ·intro x c hf
  exact absurd hf bN
 ·intro b hb
  obtain⟨l,a1,a2,a3,a4⟩:=hex b hb
  exact⟨c9 l,fun x c e=>a4 x c (S.look x c e)⟩
 ·intro b o e hb
  obtain⟨l,a1,a2,a3,a4⟩:=hex b hb
  rcases a3 with z|z
  ·exact I.ok.noex b o e z
  ·exact absurd (cH (lt0 b o e) z) (cV _)
 ·intro b hb hf
  obtain⟨l,a1,a2,a3,a4⟩:=hex b hb
  rcases bD.mp (I.P9 b hf) with z|z
  ·exact a1 z
  ·exact a2 z
 ·exact Un.kept hk
 ·refine⟨m,hn,fun i x v e1 e2 e3=>?_⟩
  have e2':(List.replicate own.length none++ix.map fun i=>(σ[i]?).join:St)[i]? = some (some v):=e2
  have e1':(own++F1)[i]? = some x:=e1
  by_cases hi:i<own.length
  ·rw[dH (by simpa using hi),fU,if_pos hi] at e2'
   cases e2'
  ·have hi':own.length≤i:=gU hi
   rw[dP (by simpa using hi'),gC,bV] at e2'
   rw[dP hi'] at e1'
   cases q:ix[i-own.length]? with
   | none=>rw[q] at e2';cases e2'
   | some k=>
    rw[q] at e2'
    have w05:(σ[k]?).join=some v:=Option.some.inj e2'
    have e4:σ[k]? = some (some v):=by
     cases z:σ[k]? with
     | none=>rw[z] at w05;cases w05
     | some u=>rw[z] at w05;rw[show u=some v from w05]
    obtain⟨n1,n2,n3,n4⟩:=S.cap (i-own.length) k x e1' q
    obtain⟨mX,_,hl⟩:=I.loc
    obtain⟨u,r,l⟩:=hl k x v n1 e4 n3
    refine⟨u,r,?_⟩
    rcases l with ⟨kl,_⟩|⟨_,c,ec,ic⟩
    ·exact absurd kl n2
    ·obtain⟨c',ec'⟩:=z4I S.V5 x (.inr (z5w S.cell n4))
     have e5:=S.look x c' ec'
     rw[ec] at e5
     cases e5
     exact .inr ⟨n4,c,ec',ic.keeps hk⟩
 ·intro x c e
  obtain⟨v,q⟩:=I.cell x c (S.look x c e)
  exact⟨v,q.keeps hk⟩
 ·exact I.hok.fresh (bF _)
 ·intro x c e
  exact I.freeC x c (S.look x c e)
 ·intro p hp
  have hp':p∈X.pn++pins:=by
   have:p∈(X.pn++pins)++[]:=hp
   rwa [cQ] at this
  obtain⟨e,n,ne,nf,d⟩:=I.pin p hp'
  refine⟨hk _ _ e,n,c9 (bK e),fun z=>?_,d⟩
  rcases bD.mp (I.P9 p.1 z) with z|z
  ·exact ne z
  ·exact nf z
 ·exact I.hok.kept hk
 ·show(List.replicate own.length none++ix.map fun i=>(σ[i]?).join:St).length=(own++F1).length
  rw[bE,gC,bA,bE,S.capn]
def PTs(X:Cx)(ifs:List Expr)(t:TT):Prop:=
 ∀(pins:List (Addr×Obj)) (s:Shared) (σ:St) (H:Hp) (Q:Bool->Hp->Prop),Inv X pins σ H s->t σ H Q->
  wpAny (model X.prog X.w) X.A (forIn ifs true fun c r=>if r=true then do let ok <- isTrue c X.env (eval c X.env);pure (ForInStep.yield ok) else pure (ForInStep.yield r)) (TP X pins σ Q) X.xe s
def tYes:TT:=fun _ H Q=>Q true H
theorem z2q:PTs X [] tYes:=fun _ _ _ H _ I h=>wpAny_tests_nil ⟨H,I,h⟩
theorem z5V{c:Expr}{t:TT}(hc:PT X c t):PTs X [c] t:=fun pins s σ H Q I h=>wpAny_tests_one (hc pins s σ H Q I h)
def z4s(n:Nat)(σ σ':St):Prop:=σ'.length=σ.length/\∀i,n≤i->σ'[i]? = σ[i]?
def W3(n:Nat)(g:TG):Prop:=∀v σ H Q,g v σ H Q->g v σ H fun σ' H'=>Q σ' H'/\z4s n σ σ'
def y0S(n:Nat)(g:TGs):Prop:=∀vs σ H Q,g vs σ H Q->g vs σ H fun σ' H'=>Q σ' H'/\z4s n σ σ'
theorem z4s.refl(n:Nat)(σ:St):z4s n σ σ:=⟨rfl,fun _ _=>rfl⟩
theorem z4s.trans{n:Nat}{a b c:St}(x:z4s n a b)(y:z4s n b c):z4s n a c:=⟨y.1.trans x.1,fun i h=>(y.2 i h).trans (x.2 i h)⟩
theorem z0R{n i:Nat}(h:i<n):W3 n (y0J i):=fun v σ H Q q=>⟨q,by simp,fun j hj=>fH (by omega)⟩
theorem z9e{n:Nat}:y0S n w0i:=fun vs σ H Q q=>⟨q.1,q.2,z4s.refl n σ⟩
def z8e(g:TG):Prop:=∀v σ H (Q Q':St->Hp->Prop),(∀σ' H',Q σ' H'->Q' σ' H')->g v σ H Q->g v σ H Q'
def z72(g:TGs):Prop:=∀vs σ H (Q Q':St->Hp->Prop),(∀σ' H',Q σ' H'->Q' σ' H')->g vs σ H Q->g vs σ H Q'
theorem z0t{i:Nat}:z8e (y0J i):=fun _ _ _ _ _ f q=>f _ _ q
theorem z2d:z72 w0i:=fun _ _ _ _ _ f q=>⟨q.1,f _ _ q.2⟩
theorem z1L{t:TG}{u:TGs}(a:z8e t)(b:z72 u):z72 (y43 t u):=fun vs σ H Q Q' f q=>by
 obtain⟨v,r,e,q⟩:=q
 exact⟨v,r,e,a _ _ _ _ _ (fun σ' H' z=>b _ _ _ _ _ f z) q⟩
theorem y2e{K:PySem.W.Frag}{n:Nat}{t:TGs}(a:z72 t):z8e (w03 K n t):=fun v σ H Q Q' f q=>by
 obtain⟨p,xs,e,h1,h2,q⟩:=q
 exact⟨p,xs,e,h1,h2,a _ _ _ _ _ f q⟩
theorem z3R{n:Nat}{t:TG}{u:TGs}(a:W3 n t)(m:z8e t)(b:y0S n u)(m':z72 u):y0S n (y43 t u):=fun vs σ H Q q=>by
 obtain⟨v,r,e,q⟩:=q
 refine⟨v,r,e,m _ _ _ _ _ (fun σ' H' z=>?_) (a _ _ _ _ q)⟩
 exact m' _ _ _ _ _ (fun σ2 H2 y=>⟨y.1,z.2.trans y.2⟩) (b _ _ _ _ z.1)
theorem y48{K:PySem.W.Frag}{n k:Nat}{t:TGs}(a:y0S n t):W3 n (w03 K k t):=fun v σ H Q q=>by
 obtain⟨p,xs,e,h1,h2,q⟩:=q
 exact⟨p,xs,e,h1,h2,a _ _ _ _ q⟩
def z1M(g:TG)(tc:TT)(te:TE)(σ0:St)(x:V)(H:Hp)(ys:List V)(N:List V->Hp->Prop):Prop:=
 g x σ0 H fun σ2 H2=>tc σ2 H2 fun b H3=>if b=true then te σ2 H3 fun y H4=>N (ys++[y]) H4 else N ys H3
def y4u(own:Nat)(ix:List Nat)(wi:TI)(g:TG)(tc:TT)(te:TE)(σ:St)(H:Hp)(F:List V->Hp->Prop):Prop:=
 wi σ H fun J H1=>∃W:Nat->Nat->List V->Hp->Prop,(∃m,W 0 m [] H1)/\∀i m ys H,W i m ys H->
  (J.stop i H/\F ys H)\/(J.go i H/\ys.length<sizeLine/\∃N:List V->Hp->Prop,(∀zs H',N zs H'->∃m',m'<m/\W (i+1) m' zs H')/\
   ∀x H',J.yld i H x H'->z1M g tc te (z5N own ix σ) x H' ys N)
theorem z6O{elt iter tg:Expr}{ifs:List Expr}{pos:Pos}{pins:List (Addr×Obj)}{σ:St}{s2:Shared}{itv:Value}{g:TG}{tc:TT}{te:TE}{F:List V->Hp->Prop}{RR:Value->Addr->Result->Shared->Prop}{E:Value->Shared->Prop}
  (S:J2 X scope cl own F1 ix) (hc:X.calm=true)
  (hg:∀C s3 H1 ex pn,PG (z3m X scope cl (own++F1) C s3 H1 ex pn) tg g) (og:W3 own.length g) (mg:z8e g)
  (ht:∀C s3 H1 ex pn,PTs (z3m X scope cl (own++F1) C s3 H1 ex pn) ifs tc)
  (he:∀C s3 H1 ex pn,PE (z3m X scope cl (own++F1) C s3 H1 ex pn) elt te)
  (h:PIE X pins σ tg (fun J H1=>∃W:Nat->Nat->List V->Hp->Prop,(∃m,W 0 m [] H1)/\∀i m ys H,W i m ys H->
   (J.stop i H/\F ys H)\/(J.go i H/\ys.length<sizeLine/\∃N:List V->Hp->Prop,(∀zs H',N zs H'->∃m',m'<m/\W (i+1) m' zs H')/\
    ∀x H',J.yld i H x H'->z1M g tc te (z5N own.length ix σ) x H' ys N)) itv s2)
  (hRR:∀D C m H' ys s',Inv X pins σ (upd H' D (.lst ys)) s'->S2 X pins (upd H' D (.lst ys)) C->s'.heap.Ns C m->H' D=none->F ys H'->RR (.ref D) C (.ok .next) s') :
  wpAny (model X.prog X.w) X.A (newList []) (fun acc s3=>wpAny (model X.prog X.w) X.A (newFunctionEnv scope X.env.globals cl [] X.env.qual none .none (some X.env)) (fun cenv s4=>
   codeAny (model X.prog X.w) X.A (.compStart (.ListComp elt [⟨tg,iter,ifs,0⟩] scope pos) 0 itv acc { cenv with scope:=relabel scope X.env }) (RR acc cenv.locals) s4) E s3) E s2:=by
 obtain⟨it,fp,tn,J,H1,e,I2,T,st2,f2,W,⟨m0,w0⟩,turn⟩:=h
 subst e
 refine wpAny_newObj_type (wpAny_newFunctionEnv S.cell (by intro y hy;simp at hy) (fun h1 hns1 hsb1=>?_) S.kind)
 dsimp only at hns1 hsb1 ⊢
 generalize hH2:s2.heap.push { cls:=.type "list",dict:=none,data:=.seq ([]:List Value).toArray }=h2 at hns1 hsb1 ⊢
 have Y4:∀b o,s2.heap.get? b=some o->h2.get? b=some o:=fun b o e=>hH2 ▸ bB _ e
 have sz2:h2.objs.size=s2.heap.objs.size+1:=by rw[<- hH2,fE]
 have hDC:s2.heap.objs.size≠h2.objs.size:=by omega
 have W8:∀b o,h2.get? b=some o->h1.get? b=some o:=fun b o e=>hsb1.extBut b o (c9 (bK e)) (bB _ e)
 have w1N:h2.get? s2.heap.objs.size=some { cls:=.type "list",dict:=none,data:=.seq ([]:List Value).toArray }:=hH2 ▸ bJ _ rfl
 have I3:Inv X pins σ H1 { s2 with heap:=h2,toks:=s2.toks }:=I2.kept Y4
 have fD:S2 X pins H1 s2.heap.objs.size:=I2.T7 (bF _) I2.fresh
 have fDs:∀{H':Hp},H' s2.heap.objs.size=none->S2 X pins H' s2.heap.objs.size:=fun hn=>⟨hn,fD.2⟩
 have fpLt:∀b∈fp,b<s2.heap.objs.size:=fun b hb=>by
  obtain⟨o,e,_⟩:=T.obj _ _ st2 b hb
  exact bK e
 have hDfp:s2.heap.objs.size∉fp:=fun z=>cV _ (fpLt _ z)
 have w0l:∀b∈s2.heap.objs.size::fp,b<h2.objs.size/\b≠X.env.locals/\b∉X.fs/\(b∈X.ex\/X.s₀.heap.objs.size≤b)/\∀x c,X.env.cells.lookup x=some c->c≠b:=fun b hb=>by
  rcases bD.mp hb with rfl|hb
  ·exact⟨by omega,fD.2.1,fD.2.2.1,fD.2.2.2.1,fD.2.2.2.2.1⟩
  ·have:=fpLt b hb
   obtain⟨_,a1,a2,a3,a4,_⟩:=f2 b hb
   exact⟨by rw[sz2];exact dS this,a1,a2,a3,a4⟩
 have I4:Inv (z3m X scope cl (own++F1) h2.objs.size { s2 with heap:=h2,toks:=s2.toks } H1 (s2.heap.objs.size::fp) pins) [] (z5N own.length ix σ) H1 { s2 with heap:=h1,toks:=s2.toks+([]:List (Str×Value)).length }:=
  y2n S I3 w0l hns1 W8
 generalize hX:z3m X scope cl (own++F1) h2.objs.size { s2 with heap:=h2,toks:=s2.toks } H1 (s2.heap.objs.size::fp) pins=Y at I4
 have HG:PG Y tg g:=by rw[<- hX];exact hg _ _ _ _ _
 have HT:PTs Y ifs tc:=by rw[<- hX];exact ht _ _ _ _ _
 have HE:PE Y elt te:=by rw[<- hX];exact he _ _ _ _ _
 have eP:Y.prog=X.prog:=by rw[<- hX];rfl
 have eW:Y.w=X.w:=by rw[<- hX];rfl
 have eK:Y.K=X.K:=by rw[<- hX];rfl
 have eA:Y.A=X.A:=by rw[<- hX];rfl
 have eC:Y.calm=true:=by rw[<- hX];exact hc
 have eE:Y.xe=noE:=by rw[<- hX];rfl
 have X5:Y.env=compEnvC scope cl h2.objs.size X.env:=by rw[<- hX];rfl
 have eEx:Y.ex=s2.heap.objs.size::fp:=by rw[<- hX];rfl
 have ePn:Y.pn=X.pn++pins:=by rw[<- hX];rfl
 have eFs:Y.fs=frs X.stack:=by rw[<- hX];rfl
 have w0L:∀x c,Y.env.cells.lookup x=some c->X.env.cells.lookup x=some c:=fun x c e=>by
  rw[X5] at e
  exact S.look x c e
 have w0r:Y.env.locals=h2.objs.size:=by rw[X5];rfl
 have fY:∀{pl:List (Addr×Obj)}{H':Hp}{b:Addr},b∈s2.heap.objs.size::fp->H' b=none->(∀p∈pl,p.1≠b)->S2 Y pl H' b:=fun {pl H' b} hb hn hpl=>by
  obtain⟨l,a1,a2,a3,a4⟩:=w0l b hb
  refine⟨hn,by rw[w0r];exact c9 l,fun z=>?_,.inl (by rw[eEx];exact hb),fun x c e=>a4 x c (w0L x c e),fun p hp=>?_⟩
  ·rw[eFs] at z
   rcases bD.mp (I3.P9 b z) with z|z
   ·exact a1 z
   ·exact a2 z
  ·rcases c8.mp hp with z|z
   ·rw[ePn] at z
    rcases bD.mp hb with rfl|hb
    ·exact fD.2.2.2.2.2 p z
    ·exact(f2 b hb).2.2.2.2.2 p z
   ·exact hpl p z
 let IV:Nat->Shared->Prop:=fun n s'=>∃i ys its c H',Inv Y [] (z5N own.length ix σ) H' s'/\tn i s'.heap/\(∀b∈fp,H' b=none)/\H' s2.heap.objs.size=none/\Vals ys its/\
  s'.heap.get? s2.heap.objs.size=some { cls:=.type "list",data:=.seq its.toArray c }/\ys.length≤sizeLine/\W i n ys H'
 have loop:∀s3:Shared,s3={ s2 with heap:=h1,toks:=s2.toks+([]:List (Str×Value)).length }->
   codeAny (model X.prog X.w) X.A (.compLoop (.ListComp elt [⟨tg,iter,ifs,0⟩] scope pos) 0 (.ref it) (.ref s2.heap.objs.size) (compEnvC scope cl h2.objs.size X.env)) (RR (.ref s2.heap.objs.size) h2.objs.size) s3:=by
  rintro s3 rfl
  refine z9n IV ?_ m0 ⟨0,[],[],_,H1,I4,T.keep _ _ _ st2 fun b _ o e=>W8 b o (Y4 b o e),fun b hb=>(f2 b hb).1,I2.fresh,.nil,W8 _ _ w1N,cL _,w0⟩
  rintro n s5 ⟨i,ys,its,c,H5,I5,st5,fr5,nD5,v5,gD5,z5,w5⟩
  have I5p:Inv Y [(s2.heap.objs.size,{ cls:=.type "list",data:=.seq its.toArray c })] (z5N own.length ix σ) H5 s5:=I5.Q5 fun p hp=>by
   have e:p=(s2.heap.objs.size,{ cls:=.type "list",data:=.seq its.toArray c }):=by simpa using hp
   subst e
   obtain⟨_,b1,b2,_⟩:=fY (pl:=[]) (H':=H5) (b:=s2.heap.objs.size) cD nD5 (fun p hp=>nomatch hp)
   exact⟨gD5,nD5,b1,b2,fun v z=>by cases z⟩
  have fps:∀{H':Hp},(∀b∈fp,H' b=none)->∀b∈fp,S2 Y [(s2.heap.objs.size,{ cls:=.type "list",data:=.seq its.toArray c })] H' b:=fun hn b hb=>
   fY (bW _ hb) (hn b hb) fun p hp=>by
    have e:p=(s2.heap.objs.size,{ cls:=.type "list",data:=.seq its.toArray c }):=by simpa using hp
    subst e
    exact fun z=>hDfp (by have z':s2.heap.objs.size=b:=z;rw[z'];exact hb)
  rcases turn i n ys H5 w5 with ⟨stop,fin⟩|⟨go,hlen,N,hN,step⟩
  ·have q:=T.done Y eP eW eK eC i _ s5 _ H5 noE I5p (fps fr5) st5 stop
   rw[eA] at q
   refine thn q fun r s6 ⟨hr,I6⟩=>?_
   subst hr
   have gD6:=(I6.pin (s2.heap.objs.size,{ cls:=.type "list",data:=.seq its.toArray c }) (c7 _ (by simp))).1
   have u6:Un (frs X.stack) (s2.heap.objs.size::fp) H1 H5 h2 s6.heap:=by
    have:=I6.base
    rw[eFs,eEx] at this
    rw[<- hX] at this
    exact this
   have os6:s6.os=s2.os:=by
    have:=I6.os
    rw[<- hX] at this
    exact this
   have hok6:HOk X.prog X.w H5 s6.heap:=by
    have:=I6.hok
    rw[eP,eW] at this
    exact this
   have J6:Inv X pins σ H5 s6:=I3.Z7 (s':=s6) os6 u6 hok6 I6.bare fun b hb=>by
    obtain⟨l,a1,a2,a3,a4⟩:=w0l b hb
    refine⟨a3,a1,a4,?_⟩
    rcases bD.mp hb with rfl|hb
    ·exact fD.2.2.2.2.2
    ·exact(f2 b hb).2.2.2.2.2
   have J7:Inv X pins σ (upd H5 s2.heap.objs.size (.lst ys)) s6:=J6.w0Q (fDs nD5) ⟨z5,its,c,v5,gD6⟩
   obtain⟨mC,hC,_⟩:=I6.loc
   rw[w0r] at hC
   have nC:H5 h2.objs.size=none:=by
    have:=I6.free
    rw[w0r] at this
    exact this
   refine hRR _ _ mC H5 ys s6 J7 (I3.T7 (bF _) ?_) hC nD5 fin
   show upd H5 s2.heap.objs.size (.lst ys) h2.objs.size=none
   rw[z0b (cT hDC)]
   exact nC
  ·have q:=T.item Y eP eW eK eC i _ s5 _ H5 noE I5p (fps fr5) st5 go
   rw[eA] at q
   refine thn q fun r s6 ⟨u,hr,h6⟩=>?_
   subst hr
   refine thn h6 fun _ s7 ⟨x,H7,I7,r7,y7,st7,fr7⟩=>?_
   have I7p:=I7.pinned (fps fr7) (T.obj _ _ st7)
   have st:=og _ _ _ _ (step x H7 y7)
   have q2:=HG _ s7 _ H7 x u _ I7p r7 st
   rw[eE,eP,eW,eA,X5] at q2
   refine thn q2 fun _ s8 ⟨σ8,H8,I8,q8,fr8⟩=>?_
   have q3:=HT _ s8 σ8 H8 _ I8 q8
   rw[eE,eP,eW,eA,X5] at q3
   refine thn q3 fun ok s9 ⟨H9,I9,q9⟩=>?_
   have back:∀{H':Hp}{s':Shared},Inv Y ([(s2.heap.objs.size,({ cls:=.type "list",data:=.seq its.toArray c }:Obj))]++z8C fp s7.heap) σ8 H' s'->
     Inv Y [] (z5N own.length ix σ) H' s'/\tn (i+1) s'.heap/\(∀b∈fp,H' b=none)/\H' s2.heap.objs.size=none/\s'.heap.get? s2.heap.objs.size=some { cls:=.type "list",data:=.seq its.toArray c }:=fun {H' s'} I'=>by
    have pD:=I'.pin (s2.heap.objs.size,{ cls:=.type "list",data:=.seq its.toArray c }) (c7 _ (dU _ (by simp)))
    refine⟨(I'.Q5 (pins':=[]) fun p hp=>nomatch hp).weak fr8.1.symm fun j v e=>?_,T.keep _ _ _ st7 fun b hb o e=>(I'.pin (b,o) (c7 _ (c7 _ (z3L hb e)))).1,fun b hb=>?_,pD.2.1,pD.1⟩
    ·by_cases hj:j<own.length
     ·have e':(List.replicate own.length none++ix.map fun i=>(σ[i]?).join:St)[j]? = some (some v):=e
      rw[dH (by simpa using hj),fU,if_pos hj] at e'
      cases e'
     ·rw[fr8.2 j (gU hj)]
      exact e
    ·obtain⟨o,e,d⟩:=T.obj _ _ st7 b hb
     exact(I'.pin (b,o) (c7 _ (c7 _ (z3L hb e)))).2.1
   cases ok with
   | false=>
    obtain⟨m',hm,w9⟩:=hN _ _ (show N ys H9 from q9)
    obtain⟨b1,b2,b3,b4,b5⟩:=back I9
    exact⟨m',hm,i+1,ys,its,c,H9,b1,b2,b3,b4,v5,b5,z5,w9⟩
   | true=>
    have q9':te σ8 H9 fun y H4=>N (ys++[y]) H4:=q9
    have q4:=HE _ s9 σ8 H9 _ I9 q9'
    rw[eE,eP,eW,eA,X5] at q4
    refine thn q4 fun yv s10 ⟨y,H10,I10,r10,n10⟩=>?_
    obtain⟨b1,b2,b3,b4,b5⟩:=back I10
    obtain⟨m',hm,w10⟩:=hN _ _ n10
    have hl:=v5.length
    refine call_meets bP ⟨_,b5,rfl⟩ PySem.F.entry_list_append (PySem.F.args_list_append_2 _ _) (PySem.list_append s2.heap.objs.size its.toArray c yv (by rw[bI];omega)) ⟨b5,?_⟩
    have q5:=PySem.IsL.update b5 (fun a=>a.push yv)
    have e5:its.toArray.push yv=(its++[yv]).toArray:=by simp
    rw[e5] at q5
    have k5:∀b o,b≠s2.heap.objs.size->s10.heap.get? b=some o->(s10.heap.update s2.heap.objs.size (Obj.mapSeq fun a=>a.push yv)).get? b=some o:=fun b o hb e=>
     (cN s10.heap (Obj.mapSeq fun a=>a.push yv) (cT hb)).trans e
    obtain⟨f0,f1,f2',f3,f4,f5⟩:=fY (pl:=[]) (H':=H10) (b:=s2.heap.objs.size) cD b4 (fun p hp=>nomatch hp)
    have b1':=b1.turned (t':=s10.toks) k5 f0 f1 f3 f4 f5
    refine⟨m',hm,i+1,ys++[y],its++[yv],_,H10,b1',T.keep _ _ _ b2 fun b hb o e=>k5 b o (fun z=>hDfp (by rw[<- z];exact hb)) e,b3,b4,v5.append (.cons r10 .nil),q5,?_,w10⟩
    ·rw[bE,dO]
     omega
 exact codeAny_compStart_list (loop _ rfl) (T.self _ 0 _ _ _ (T.keep _ _ _ st2 fun b _ o e=>W8 b o (Y4 b o e)) (loop _ rfl))
def y4G(own:Nat)(ix:List Nat)(wi:TI)(g:TG)(tc:TT)(te:TE):TE:=fun σ H Q=>y4u own ix wi g tc te σ H fun ys H'=>∀D,H' D=none->Q (.ref D) (upd H' D (.lst ys))
theorem z2K{elt iter tg:Expr}{ifs:List Expr}{pos:Pos}{wi:TI}{g:TG}{tc:TT}{te:TE}(own F1:List Str)(ix:List Nat)
  (hc:X.calm=true) (S:J2 X scope cl own F1 ix) (hi:PI X tg iter wi)
  (hg:∀C s3 H1 ex pn,PG (z3m X scope cl (own++F1) C s3 H1 ex pn) tg g) (og:W3 own.length g) (mg:z8e g)
  (ht:∀C s3 H1 ex pn,PTs (z3m X scope cl (own++F1) C s3 H1 ex pn) ifs tc)
  (he:∀C s3 H1 ex pn,PE (z3m X scope cl (own++F1) C s3 H1 ex pn) elt te)
  (hs:∀x,foldedSetIterable iter X.env x=pure x:=by intro _;rfl) :
  PE X (.ListComp elt [⟨tg,iter,ifs,0⟩] scope pos) (y4G own.length ix wi g tc te):=by
 intro pins s σ H Q I h
 rw[eval_ListComp]
 refine wpAny_comprehension_free (use:=none) rfl hs (z5j S.V5) S.kind S.names (thn (hi pins s σ H _ I h) fun v s1 h1=>thn h1 fun itv s2 h2=>?_)
 refine z6O (RR:=fun acc C=>compPost (model X.prog X.w) X.A X.xe none (EP X pins σ Q) acc C) S hc hg og mg ht he h2 ?_
 intro D C m H' ys s' I' fC hn hD fin
 refine⟨m,hn,fun h' sb=>?_⟩
 obtain⟨f0,f1,f2,f3,f4,f5⟩:=fC
 have I2:=I'.turned (t':=s'.toks) (h':=h') (it:=C) (fun b o hb e=>(sb.2 b hb).trans e) f0 f1 f3 f4 f5
 exact⟨.ref D,_,I2,rfl,fin D hD⟩
theorem z55{elt iter tg:Expr}{ifs:List Expr}{pos pos' spos:Pos}{x:Str}{i:Nat}{wi:TI}{g:TG}{tc:TT}{te:TE}(own F1:List Str)(ix:List Nat)
  (hc:X.calm=true) (hN:X.N.Nodup) (hx:X.N[i]? = some x) (hl:Loc X.env.scope x) (S:J2 X scope cl own F1 ix) (hi:PI X tg iter wi)
  (hg:∀C s3 H1 ex pn,PG (z3m X scope cl (own++F1) C s3 H1 ex pn) tg g) (og:W3 own.length g) (mg:z8e g)
  (ht:∀C s3 H1 ex pn,PTs (z3m X scope cl (own++F1) C s3 H1 ex pn) ifs tc)
  (he:∀C s3 H1 ex pn,PE (z3m X scope cl (own++F1) C s3 H1 ex pn) elt te)
  (hsw:swapsWith (.ListComp elt [⟨tg,iter,ifs,0⟩] scope pos) (some (.Name x pos')) spos.line X.env=pure true:=by rfl)
  (hf:X.fn x=true\/X.env.scope.names.lookup x=some .local:=by first|exact .inl rfl|exact .inr rfl|assumption)
  (hs:∀x,foldedSetIterable iter X.env x=pure x:=by intro _;rfl) :
  PS X (.Assign [.Name x pos'] (.ListComp elt [⟨tg,iter,ifs,0⟩] scope pos) spos) (w0C (y4G own.length ix wi g tc te) (y0J i)):=by
 intro pins s σ H D I h
 rw[exec_Assign_Name_used _ _ _ _ hsw]
 refine wpAny_bind (wpAny_standAt (wpAny_bind ?_))
 show wpAny _ X.A (do let _ <- comprehension (.ListComp elt [⟨tg,iter,ifs,0⟩] scope pos) scope X.env _ (newList []) false (eval iter X.env) (some (assign (.Name x pos') X.env))) _ _ s
 refine wpAny_bind (wpAny_mono (wpAny_comprehension_free (use:=some (assign (.Name x pos') X.env)) (Q:=fun _ s'=>SP X pins D .next s') rfl hs (z5j S.V5) S.kind S.names
  (thn (hi pins s σ H _ I h) fun v s1 h1=>thn h1 fun itv s2 h2=>?_)) (fun _ s' hq=>wpAny_pure (wpAny_pure hq)) fun _ _ e=>e)
 refine z6O (RR:=fun acc C=>compPost (model X.prog X.w) X.A X.xe (some (assign (.Name x pos') X.env)) (fun _ s'=>SP X pins D .next s') acc C) S hc hg og mg ht he h2 ?_
 intro D' C m H' ys s' I' fC hn hD fin
 obtain⟨f0,f1,f2,f3,f4,f5⟩:=fC
 obtain⟨oC,es,ep,hoC,hdC,hr⟩:=id hn
 show wpAny _ X.A (assign (.Name x pos') X.env (.ref D')) _ _ _
 have Ip:Inv X (pins++[(C,oC)]) σ (upd H' D' (.lst ys)) s':=I'.Q5 fun p hp=>(c8.mp hp).elim (fun z=>I'.pin p (c7 _ z)) fun z=>by
  have e:p=(C,oC):=by simpa using z
  subst e
  exact⟨hoC,f0,f1,f2,fun v z=>by rw[hdC] at z;cases z⟩
 refine thn (z0o hN hx hl hf (pins++[(C,oC)]) s' σ _ (.ref D') (.ref D') _ Ip rfl (fin D' hD)) fun _ s3 ⟨σ3,H3,I3,q3⟩=>?_
 have pC:=I3.pin (C,oC) (c7 _ (c7 _ (by simp)))
 refine⟨m,⟨oC,es,ep,pC.1,hdC,hr⟩,fun h' sb=>?_⟩
 have I4:Inv X pins σ3 H3 s3:=I3.Q8
 exact⟨σ3,H3,I4.turned (t':=s3.toks) (h':=h') (it:=C) (fun b o hb e=>(sb.2 b hb).trans e) pC.2.1 f1 f3 f4 f5,q3⟩
end
section
variable{prog:Program}{w:World}{A:Around}{R:Result->Shared->Prop}{I:Addr}{fp wr:List Addr}{n:Nat}{P:Nat->Value->Prop}{St:Nat->Heap->Prop}
theorem y2S(W:Walks prog w A.in1 I fp wr n P St)(bt:Nat->Nat->Bool)(Y6:CmpOf prog w A.in1 .Gt P bt)(S:Addr)(hSf:S∉fp)(kw:List (Str×Value)) :
  ∀(k j:Nat) (s:Shared) (vb:Value) (c:Nat),n-(j+1)=k->j+1≤n->St (j+1) s.heap->P (argBest bt j) vb->
  s.heap.get? S=some { cls:=.type "list",dict:=none,data:=.seq #[vb,vb] c,slots:=#[] }->
  (∀v h' tk,P (argBest bt (n-1)) v->(∀b o,b∉wr->b≠S->s.heap.get? b=some o->h'.get? b=some o)->R (.ok (.ret v)) { s with heap:=h',toks:=tk })->
  codeAny (model prog w) A (.builtin "max.loop" ⟨[.ref I,.none,.ref S],kw⟩) R s:=by
 have hSw:S∉wr:=fun h=>hSf (W.sub _ h)
 have T3:(toString "max"++toString ".loop":String)="max.loop":=by decide
 intro k
 induction k with
 | zero=>
  intro j s vb c hk hj hst hPb hS hR
  have hin:j+1=n:=by omega
  refine codeAny_builtin eZ ?_
  rw[cK cR _]
  show wpAny _ A.in1 (seqItems? (.ref S) >>= _) _ _ s
  refine wpAny_bind (wpAny_seqItems hS rfl ?_)
  show wpAny _ A.in1 (tryCatch (pyNext (.ref I)) _ >>= _) _ _ s
  refine wpAny_bind (wpAny_tryCatch (W.done s _ _ (hin ▸ hst) fun h' tk hk'=>?_))
  have hS':=hk' S _ hSw hS
  show wpAny _ A.in1 (updateSeq S (fun _=>#[]) >>= _) _ _ _
  refine wpAny_bind ?_
  refine wpAny_updateSeq hS' rfl (wpAny_bind (wpAny_letGo (wpAny_pure ?_)))
  refine hR vb _ tk (by rw[<- hin];exact hPb) fun b o hbw hbS e=>(cN _ _ (cT hbS)).trans (hk' b o hbw e)
 | succ k ih=>
  intro j s vb c hk hj hst hPb hS hR
  have hlt:j+1<n:=by omega
  refine codeAny_builtin eZ ?_
  rw[cK cR _]
  show wpAny _ A.in1 (seqItems? (.ref S) >>= _) _ _ s
  refine wpAny_bind (wpAny_seqItems hS rfl ?_)
  show wpAny _ A.in1 (tryCatch (pyNext (.ref I)) _ >>= _) _ _ s
  refine wpAny_bind (wpAny_tryCatch (W.item (j+1) s _ _ hlt hst fun v h' tk hP hst' hk'=>?_))
  have hS':=hk' S _ hSw hS
  show wpAny _ A.in1 (tryCatch (holding [v,v] (richCompare .Gt v vb >>= _)) _ >>= _) _ _ _
  refine wpAny_bind (wpAny_tryCatch (wpAny_holding (wpAny_bind (Y6 (j+1) (argBest bt j) v vb _ _ _ hP hPb ?_))))
  refine wpAny_bind (wpAny_holding (wpAny_truthy_bool ?_))
  refine wpAny_bind (wpAny_letGo (wpAny_pure ?_))
  cases hb:bt (j+1) (argBest bt j) with
  | true=>
   simp only[if_true]
   refine wpAny_bind ?_
   refine wpAny_updateSeq hS' rfl (wpAny_bind (wpAny_letGo ?_))
   rw[T3]
   refine wpAny_pure ⟨plainId_quiet cR _,ih (j+1) _ v _ (by omega) hlt (W.frame _ _ _ hst' fun b hbf o e=>?_) (by simp only[argBest,hb,if_true];exact hP) (dG _ hS' rfl)
    fun v' h'' tk'' hP' hk''=>?_⟩
   ·exact(cN _ _ (fun h:S=b=>hSf (by rw[h];exact hbf))).trans e
   ·exact hR v' h'' tk'' hP' fun b o hbw hbS e=>hk'' b o hbw hbS ((cN _ _ (cT hbS)).trans (hk' b o hbw e))
  | false=>
   simp only[fQ,if_false]
   refine wpAny_bind (wpAny_letGo ?_)
   rw[T3]
   refine wpAny_pure ⟨plainId_quiet cR _,ih (j+1) _ vb c (by omega) hlt hst' (by simp only[argBest,hb,fQ,if_false];exact hPb) hS' fun v' h'' tk'' hP' hk''=>?_⟩
   exact hR v' h'' tk'' hP' fun b o hbw hbS e=>hk'' b o hbw hbS (hk' b o hbw e)
theorem y1a(W:Walks prog w A.in1 I fp wr n P St)(bt:Nat->Nat->Bool)(Y6:CmpOf prog w A.in1 .Gt P bt)(S:Addr)(hSf:S∉fp)(kw:List (Str×Value))(hn:0<n){s:Shared}{c:Nat}(hst:St 0 s.heap)
  (hS:s.heap.get? S=some { cls:=.type "list",dict:=none,data:=.seq #[] c,slots:=#[] })
  (hR:∀v h' tk,P (argBest bt (n-1)) v->(∀b o,b∉wr->b≠S->s.heap.get? b=some o->h'.get? b=some o)->R (.ok (.ret v)) { s with heap:=h',toks:=tk }) :
  codeAny (model prog w) A (.builtin "max.loop" ⟨[.ref I,.none,.ref S],kw⟩) R s:=by
 have hSw:S∉wr:=fun h=>hSf (W.sub _ h)
 have T3:(toString "max"++toString ".loop":String)="max.loop":=by decide
 refine codeAny_builtin eZ ?_
 rw[cK cR _]
 show wpAny _ A.in1 (seqItems? (.ref S) >>= _) _ _ s
 refine wpAny_bind (wpAny_seqItems hS rfl ?_)
 show wpAny _ A.in1 (tryCatch (pyNext (.ref I)) _ >>= _) _ _ s
 refine wpAny_bind (wpAny_tryCatch (W.item 0 s _ _ hn hst fun v h' tk hP hst' hk'=>?_))
 have hS':=hk' S _ hSw hS
 show wpAny _ A.in1 (updateSeq S (fun _=>#[v,v]) >>= _) _ _ _
 refine wpAny_bind ?_
 refine wpAny_updateSeq hS' rfl ?_
 rw[T3]
 refine wpAny_pure ⟨plainId_quiet cR _,y2S W bt Y6 S hSf kw _ 0 _ v _ rfl hn (W.frame _ _ _ hst' fun b hbf o e=>?_) hP (dG _ hS' rfl) fun v' h'' tk'' hP' hk''=>?_⟩
 ·exact(cN _ _ (fun h:S=b=>hSf (by rw[h];exact hbf))).trans e
 ·exact hR v' h'' tk'' hP' fun b o hbw hbS e=>hk'' b o hbw hbS ((cN _ _ (cT hbS)).trans (hk' b o hbw e))
theorem y2Q(W:Walks prog w A.in1 I fp wr n P St)(S:Addr)(hSf:S∉fp)(kn:Str)(d:Value)(hn:n=0){s:Shared}{c:Nat}(hst:St 0 s.heap)
  (hS:s.heap.get? S=some { cls:=.type "list",dict:=none,data:=.seq #[] c,slots:=#[] })
  (hR:∀h' tk,(∀b o,b∉wr->s.heap.get? b=some o->h'.get? b=some o)->R (.ok (.ret d)) { s with heap:=h',toks:=tk }) :
  codeAny (model prog w) A (.builtin "max.loop" ⟨[.ref I,.none,.ref S],[(kn,d)]⟩) R s:=by
 refine codeAny_builtin eZ ?_
 rw[cK cR _]
 show wpAny _ A.in1 (seqItems? (.ref S) >>= _) _ _ s
 refine wpAny_bind (wpAny_seqItems hS rfl ?_)
 show wpAny _ A.in1 (tryCatch (pyNext (.ref I)) _ >>= _) _ _ s
 refine wpAny_bind (wpAny_tryCatch (W.done s _ _ (hn ▸ hst) fun h' tk hk'=>?_))
 exact wpAny_bind (wpAny_rule (wpAny_pure (hR h' tk hk')))
theorem z5z(a v:Value):argsOk "max" ⟨[a],[(Str.ofString "default",v)]⟩:=by unfold argsOk;kernel_rfl
theorem y2Z{x d:Value}{s:Shared}{E:Value->Shared->Prop}{Q:Value->Shared->Prop}
  (h:wpAny (model prog w) A.in1 (pyIter x) (fun it s2=>∃I fp wr n P St bt,it=.ref I/\Walks prog w A.in1 I fp wr n P St/\St 0 s2.heap/\(∀b∈fp,b<s2.heap.objs.size)/\CmpOf prog w A.in1 .Gt P bt/\
   (n=0->∀h' tk,(∀b o,b∉wr->s2.heap.get? b=some o->h'.get? b=some o)->Q d { s2 with heap:=h',toks:=tk })/\
   (0<n->∀v h' tk,P (argBest bt (n-1)) v->(∀b o,b∉wr->s2.heap.get? b=some o->h'.get? b=some o)->Q v { s2 with heap:=h',toks:=tk })) E s) :
  wpAny (model prog w) A (call (.builtin "max") [x] [(Str.ofString "default",d)]) Q E s:=by
 have T3:(toString "max"++toString ".loop":String)="max.loop":=by decide
 refine kmk_tree PySem.F.kind_max PySem.F.plain_max PySem.F.entry_max (z5z _ _) ?_
 show wpAny _ A.in1 (Builtin.Builtins.bindParams "max" ["key","default"] 0 ⟨[],[(Str.ofString "default",d)]⟩ >>= _) _ _ s
 refine wpAny_bind (wpAny_of_eq (show Builtin.Builtins.bindParams "max" ["key","default"] 0 ⟨[],[(Str.ofString "default",d)]⟩=pure [none,some d] from by kernel_rfl) ?_)
 refine wpAny_bind (wpAny_pure ?_)
 refine wpAny_bind (wpAny_mono h (fun it s2 h2=>?_) fun _ _ e=>e)
 obtain⟨I,fp,wr,n,P,St,bt,rfl,W,hst,hfp,Y6,hQ0,hQ⟩:=h2
 refine wpAny_bind (wpAny_newObj_type ?_)
 have hSf:s2.heap.objs.size∉fp:=fun hm=>cV _ (hfp _ hm)
 rw[T3]
 refine wpAny_pure ⟨plainId_quiet cR _,?_⟩
 by_cases hn:n=0
 ·exact y2Q W s2.heap.objs.size hSf _ d hn (W.frame _ _ _ hst fun b _ o e=>bB _ e) (bJ _ rfl) fun h' tk hk=>hQ0 hn h' tk fun b o hbw e=>hk b o hbw (bB _ e)
 ·exact y1a W bt Y6 s2.heap.objs.size hSf _ (Nat.pos_of_ne_zero hn) (W.frame _ _ _ hst fun b _ o e=>bB _ e) (bJ _ rfl) fun v h' tk hP hk=>
   hQ (Nat.pos_of_ne_zero hn) v h' tk hP fun b o hbw e=>hk b o hbw (c9 (bK e)) (bB _ e)
end
theorem z9A(f:Nat->Int):∀k,argBest (fun i j=>decide (f i > f j)) k≤k/\∀i,i≤k->f i≤f (argBest (fun i j=>decide (f i > f j)) k)
 | 0=>⟨bF _,fun i hi=>by rw[Nat.le_zero.mp hi];exact g0 _⟩
 | k+1=>by
  obtain⟨h1,h2⟩:=z9A f k
  unfold argBest
  by_cases c:f (k+1) > f (argBest (fun i j=>decide (f i > f j)) k)
  ·rw[if_pos (decide_eq_true c)]
   refine⟨bF _,fun i hi=>?_⟩
   by_cases e:i=k+1
   ·rw[e];exact g0 _
   ·have:=h2 i (by omega)
    omega
  ·rw[if_neg (by rw[decide_eq_false c];exact bN)]
   refine⟨by omega,fun i hi=>?_⟩
   by_cases e:i=k+1
   ·rw[e];omega
   ·exact h2 i (by omega)
section
variable{X:Cx}
def SqI(K:PySem.W.Frag)(H:Hp)(p:Addr)(ns:List Int):Prop:=SqL K H p (ns.map V.int)\/SqT K H p (ns.map V.int)
theorem z9J{ns:List Int}{its:List Value}(r:Vals (ns.map V.int) its):∀(i:Nat) (v:Value),its.toArray[i]? = some v->∃t,v=.int (ns.getD i 0) t:=by
 intro i v e
 have e':its[i]? = some v:=by simpa using e
 have hi:i<its.length:=(cJ.mp e').1
 have hl:=r.length
 rw[bA] at hl
 obtain⟨u,hu,ru⟩:=r.get (i:=i) (x:=.int (ns.getD i 0)) (by
  rw[bV,bY]
  have:ns[i]? = some ns[i]:=bG (by omega)
  rw[this];rfl)
 rw[e'] at hu
 cases hu
 exact ru
theorem y17{pins:List (Addr×Obj)}{σ:St}{H:Hp}{s:Shared}{p:Addr}{ns:List Int}{A:Around}{E:Value->Shared->Prop}{Q:Value->Shared->Prop}(I:Inv X pins σ H s)(hh:A.handled=none)(hq:SqI X.K H p ns)
  (h:∀(it:Addr) (fp:List Addr) (St:Nat->Heap->Prop) (its:List Value) (s2:Shared),Vals (ns.map V.int) its->Walks X.prog X.w A it fp [it] its.toArray.size (fun i v=>its.toArray[i]? = some v) St->St 0 s2.heap->(∀b∈fp,b<s2.heap.objs.size)->
   (∀h' tk,(∀b o,b∉[it]->s2.heap.get? b=some o->h'.get? b=some o)->Inv X pins σ H { s2 with heap:=h',toks:=tk })->Q (.ref it) s2) :
  wpAny (model X.prog X.w) A (pyIter (.ref p)) Q E s:=by
 have back:∀(o:Obj) (h':Heap) (tk:Nat),(∀b ob,b∉[s.heap.objs.size]->(s.heap.push o).get? b=some ob->h'.get? b=some ob)->Inv X pins σ H { s with heap:=h',toks:=tk }:=fun o h' tk k=>
  I.kept fun b ob e=>k b ob (fun z=>absurd (bK e) (by rw[bC.mp z];exact cV _)) (bB _ e)
 rcases hq with hq|hq
 ·obtain⟨its,r,pl,hz⟩:=I.list hq
  have hlt:p<s.heap.objs.size:=by obtain⟨_,e,_⟩:=pl.isList;exact bK e
  refine wpAny_pyIter_list pl.isList ?_
  refine h s.heap.objs.size [s.heap.objs.size,p] _ its _ r (Walks.list hh s.heap.objs.size p (c9 hlt) its.toArray) ⟨⟨_,bJ _ rfl,rfl,rfl⟩,pl.isList.push _⟩ (fun b hb=>?_) fun h' tk k=>back _ h' tk k
  show b<(s.heap.push _).objs.size
  rw[fE]
  rcases bD.mp hb with rfl|hb
  ·exact fI _
  ·rw[bC.mp hb];exact dS hlt
 ·obtain⟨its,r,pl,hz⟩:=I.tuple hq
  have hlt:p<s.heap.objs.size:=by obtain⟨_,e,_⟩:=pl;exact bK e
  refine wpAny_pyIter_tuple (show s.heap.IsTuple p its.toArray from pl) ?_
  refine h s.heap.objs.size [s.heap.objs.size,p] _ its _ r (Walks.tuple hh s.heap.objs.size p (c9 hlt) its.toArray) ⟨⟨_,bJ _ rfl,rfl,rfl⟩,?_⟩ (fun b hb=>?_) fun h' tk k=>back _ h' tk k
  ·obtain⟨o,e,c⟩:=(show s.heap.IsTuple p its.toArray from pl)
   exact⟨o,bB _ e,c⟩
  ·show b<(s.heap.push _).objs.size
   rw[fE]
   rcases bD.mp hb with rfl|hb
   ·exact fI _
   ·rw[bC.mp hb];exact dS hlt
def y54(K:PySem.W.Frag)(le:Int->Int->Prop)(ta td:TA):TE:=fun σ H Q=>ta σ H fun xs H1=>td σ H1 fun ds H2=>∃p ns d,xs=[.ref p]/\ds=[d]/\SqI K H2 p ns/\(ns=[]->Q d H2)/\∀m,m∈ns->(∀y∈ns,le y m)->Q (.int m) H2
theorem y32{ns:List Int}{i:Nat}(h:i<ns.length):ns.getD i 0∈ns:=by
 rw[bY,bG h]
 exact dE h
theorem y31{ns:List Int}{y:Int}(h:y∈ns):∃i,i<ns.length/\ns.getD i 0=y:=by
 obtain⟨i,hi,e⟩:=List.mem_iff_getElem.mp h
 refine⟨i,hi,?_⟩
 rw[bY,bG hi]
 exact e
theorem y4l{e:Expr}{p pos kp:Pos}{dx:Expr}{ta td:TA}(hc:X.calm=true)(hg:Gl X "max")(hm:X.mg "max"=none)(ha:PA X [e] ta)(hd:PK X [⟨some (Str.ofString "default"),dx,kp⟩] td)
  (he:backTo pos (starEach [e] X.env)=(false,eval e X.env)::backTo pos (starEach [] X.env):=by rfl)
  (S6:(backTo pos (starEach [e] X.env)).any (·.1)=false:=by rfl)
  (N8:(backToKw pos (keywordEach [⟨some (Str.ofString "default"),dx,kp⟩] X.env)).all (·.1.isSome)=true:=by rfl)
  (hkw:(backToKw pos (keywordEach [⟨some (Str.ofString "default"),dx,kp⟩] X.env)).any (·.1.isNone)=false:=by rfl) :
  PE X (.Call (.Name "max" p) [e] [⟨some (Str.ofString "default"),dx,kp⟩] pos) (y54 X.K (fun y m=>y≤m) ta td):=by
 intro pins s σ H Q I h
 refine wpAny_Call_Name_kw (z5i I hg hm gF ?_)
 refine PyProof.Rows.callWith_kw (thn (ha pos pins s σ H _ I h) fun us s1 ⟨vs,H1,I1,r,q⟩=>?_) he S6 N8 hkw
 refine thn (hd pos pins s1 σ H1 _ I1 q) fun ws s2 ⟨zs,H2,I2,rz,q2⟩=>?_
 obtain⟨a,ns,d,e1,e2,hq,q0,q1⟩:=q2
 subst e1 e2
 obtain⟨u,rfl,ru⟩:=z4q r
 cases ru
 obtain⟨dv,rfl,rd⟩:=z4q rz
 show wpAny _ X.A (call (.builtin "max") [.ref a] [(Str.ofString "default",dv)]) _ _ _
 refine y2Z (y17 (A:=X.A.in1) I2 (I2.ok.hd hc) hq fun it fp St its s3 rv W st hfp back=>?_)
 have hl:=rv.length
 rw[bA] at hl
 refine⟨it,fp,[it],_,_,St,_,rfl,W,st,hfp,CmpOf.ints_gt (fun i=>ns.getD i 0) (z9J rv),fun hn h' tk k=>?_,fun hn v h' tk hv k=>?_⟩
 ·rw[bI] at hn
  exact⟨d,H2,back h' tk k,rd,q0 (dL (by omega))⟩
 ·rw[bI] at hn hv
  obtain⟨t,rfl⟩:=z9J rv _ _ hv
  obtain⟨b1,b2⟩:=z9A (fun i=>ns.getD i 0) (its.length-1)
  refine⟨.int _,H2,back h' tk k,⟨t,rfl⟩,q1 _ (y32 (by omega)) fun y hy=>?_⟩
  obtain⟨i,hi,rfl⟩:=y31 hy
  exact b2 i (by omega)
def T8(i:Int)(n:Nat):List V:=(List.range n).map fun(k:Nat)=>V.int (i+(k:Int))
theorem y1J:z2O X (.type "range") (fun xs H Q=>∃i j,xs=[.int i,.int j]/\∀p,H p=none->Q (.ref p) (upd H p (.rng i j))):=by
 intro pins s σ H xs us Q I r h
 obtain⟨i,j,rfl,q⟩:=h
 obtain⟨u,w',rfl,⟨t,rfl⟩,⟨t',rfl⟩⟩:=y08 r
 refine call_range_2 ?_
 refine⟨.ref s.heap.objs.size,_,I.laid (fun b o e=>bB _ e) (bF _) (show z1a X.prog X.w _ _ _ (.rng i j) from⟨t,t',s.toks,bJ _ rfl⟩),rfl,q _ (I.hok.fresh (bF _))⟩
theorem z7o{prog:Program}{w:World}{A:Around}{E:Value->Shared->Prop}{s:Shared}{Q:List Value->Shared->Prop}{r:Addr}{a b c:Int}{t u v:Tok}{n:Nat}(hh:A.handled=none)(hr:IsRange s.heap r a b c t u v)(W0:Builtin.Range.small a b c=true)
  (hn:Builtin.Range.rangeSize a b c=n) (hlen:n≤2^24)
  (hQ:∀h' tk acc,(∀b o,s.heap.get? b=some o->h'.get? b=some o)->ItemsOf (fun i v=>∃t,v=.int (a+i*c) t) acc n->Q acc.toList { s with heap:=h',toks:=tk }) :
  wpAny (model prog w) A (collect (.ref r)) Q E s:=by
 unfold collect
 refine wpAny_bind (wpAny_runValue (codeAny_builtin PySem.F.entry_proto_collect ?_))
 rw[cK PySem.F.plain_proto_collect _]
 show wpAny _ A.in1 (newList [] >>= fun l=>again (.builtin "list.__iadd__" ⟨[l,.ref r],[]⟩)) _ _ s
 refine wpAny_bind (wpAny_newObj_type ?_)
 refine wpAny_pure ⟨plainId_quiet eT _,codeAny_builtin PySem.F.entry_list_iadd ?_⟩
 rw[cK eT _]
 show wpAny _ A.in1 (Builtin.List.listExtendWith (.ref s.heap.objs.size) (.ref r) (.ref s.heap.objs.size)) _ _ _
 have hS:(s.heap.push { cls:=.type "list",data:=.seq ([]:List Value).toArray }).get? s.heap.objs.size=some { cls:=.type "list",data:=.seq #[] 0 }:=bJ _ rfl
 have fin:∀(r':Result) (s':Shared),(∃h' tk acc c',r'=.ok (.ret (.ref s.heap.objs.size))/\s'={ s with heap:=h',toks:=tk }/\(∀b o,s.heap.get? b=some o->h'.get? b=some o)/\
   h'.get? s.heap.objs.size=some { cls:=.type "list",dict:=none,data:=.seq acc c',slots:=#[] }/\ItemsOf (fun i v=>∃t,v=.int (a+i*c) t) acc n)->
   match r' with
   | Except.ok (Flow.ret v)=>wpAny (model prog w) A (match v with
     | Value.ref a=>do
      match (<- load a).data with
       | Data.seq xs _=>pure xs.toList
       | _=>unsupported "internal:collect"
     | _=>unsupported "internal:collect") Q E s'
   | Except.ok _=>False
   | Except.error e=>E e s':=by
  rintro r' s' ⟨h',tk,acc,c',rfl,rfl,hk,hS',hacc⟩
  show wpAny _ A (load s.heap.objs.size >>= _) _ _ _
  refine wpAny_bind (wpAny_load hS' ?_)
  exact wpAny_pure (hQ h' tk acc hk hacc)
 refine wpAny_mono (wpAny_extend_range (A:=A) (R:=fun r' s'=>∃h' tk acc c',r'=.ok (.ret (.ref s.heap.objs.size))/\s'={ s with heap:=h',toks:=tk }/\(∀b o,s.heap.get? b=some o->h'.get? b=some o)/\
   h'.get? s.heap.objs.size=some { cls:=.type "list",dict:=none,data:=.seq acc c',slots:=#[] }/\ItemsOf (fun i v=>∃t,v=.int (a+i*c) t) acc n)
  (s:={ s with heap:=s.heap.push { cls:=.type "list",data:=.seq ([]:List Value).toArray } }) hh (bB _ hr) W0 hn hlen s.heap.objs.size _ 0 hS
  fun h' tk acc c' hk hS' hacc=>⟨h',tk,acc,c',rfl,rfl,fun b o e=>hk b o (c9 (bK e)) (bB _ e),hS',hacc⟩) (fun f s' h=>?_) (fun e s' h=>?_)
 ·cases f with
  | done f=>exact fin _ _ h
  | again c'=>exact⟨h.1,codeAny_mono h.2 fun r' s'' hr'=>fin _ _ hr'⟩
 ·obtain⟨_,_,_,_,e,_⟩:=h
  cases e
theorem z6v(r:Addr)(a b:Int)(t u v:Tok)(n:Nat)(W0:Builtin.Range.small a b 1=true)(hn:Builtin.Range.rangeSize a b 1=n)(hlen:n≤2^24) :
  Meets (Builtin.«tuple.__new__» ⟨[.type "tuple",.ref r],[]⟩)
   (fun A R s=>A.handled=none/\IsRange s.heap r a b 1 t u v/\∀(h':Heap) (tk:Nat) (acc:Array Value),(∀b o,s.heap.get? b=some o->h'.get? b=some o)->ItemsOf (fun i v=>∃t,v=.int (a+i*1) t) acc n->
    R (.ok (.ret (.ref h'.objs.size))) { s with heap:=h'.push { cls:=.type "tuple",data:=.seq acc },toks:=tk }):=
 .of_wp fun prog w A R s h=>by
  obtain⟨hp,g,d,tk0,os⟩:=s
  obtain⟨hh,hr,h⟩:=h
  have hsub:=sub_tuple_self
  have hinit:=init_tuple_lookup
  have hmh:=madeHere_tuple
  have hT:Shared.TypeIs ⟨hp,g,d,tk0,os⟩ (.ref r) "range":=⟨_,hr,rfl⟩
  have hh1:A.in1.handled=none:=hh
  wp_walk using wpAny_typeOf hT,z7o hh1 hr W0 hn hlen
  intro h' tk acc hk hacc
  show wpAny _ _ (Builtin.Tuple.tupleExact acc.toList.toArray >>= fun v=>ret v) _ _ _
  unfold Builtin.Tuple.tupleExact
  refine wpAny_bind (wpAny_newObj_type ?_ (show acc.toList.toArray.size≤sizeLine by simp only[Array.toArray_toList];rw[hacc.1,sizeLine_eq];omega))
  refine wpAny_pure ⟨_,rfl,?_⟩
  have e:acc.toList.toArray=acc:=by simp
  rw[e]
  exact h h' tk acc hk hacc
theorem y2L{a:Int}{acc:Array Value}{n:Nat}(h:ItemsOf (fun i v=>∃t,v=Value.int (a+(i:Int)*1) t) acc n):Vals (T8 a n) acc.toList:=by
 have go:∀(l:List Value) (k:Nat),(∀(j:Nat) (v:Value),l[j]? = some v->∃t,v=Value.int (a+((k+j:Nat):Int)) t)->Vals ((List.range' k l.length).map fun(j:Nat)=>V.int (a+(j:Int))) l:=by
  intro l
  induction l with
  | nil=>intro k _;exact .nil
  | cons x r ih=>
   intro k hx
   rw[bT,List.range'_succ,cO]
   refine .cons ?_ (ih (k+1) fun j v e=>?_)
   ·obtain⟨t,e⟩:=hx 0 x rfl
    exact⟨t,e⟩
   ·obtain⟨t,e'⟩:=hx (j+1) v (by simpa using e)
    refine⟨t,e'.trans ?_⟩
    congr 1
    omega
 have q:=go acc.toList 0 fun j v e=>by
  obtain⟨t,e'⟩:=h.2 j v (by simpa using e)
  exact⟨t,by rw[e'];congr 1;first|done|omega⟩
 unfold T8
 rw[List.range_eq_range']
 have hn:acc.toList.length=n:=by simpa using h.1
 rw[hn] at q
 exact q
theorem z6y(hc:X.calm=true):z2O X (.type "tuple") (fun xs H Q=>∃p i j,xs=[.ref p]/\H p=some (.rng i j)/\(-(2^62)≤i/\i<2^62/\-(2^62)≤j/\j<2^62)/\(j-i).toNat≤2^24/\
  ∀l,H l=none->Q (.ref l) (upd H l (.tup (T8 i (j-i).toNat)))):=by
 intro pins s σ H xs us Q I r h
 obtain⟨p,i,j,rfl,hp,⟨h1,h2,h3,h4⟩,hlen,q⟩:=h
 obtain⟨u,rfl,rx⟩:=z4q r
 cases rx
 obtain⟨t,u',v,e⟩:=(show z1a X.prog X.w H s.heap p (.rng i j) from I.hok p _ hp)
 have hn:Builtin.Range.rangeSize i j 1=(((j-i).toNat:Nat):Int):=by rw[rangeSize_one];split<;>omega
 refine callType_new PySem.F.called_tuple (by decide) (PySem.F.typeCall_tuple_1 _) (PySem.F.newCall_tuple_1 _) (fun obj=>PySem.F.args_object_init_2 obj _) PySem.F.entry_tuple_new
  (z6v p i j t u' v _ (small_one h1 h2 h3 h4) hn hlen) ⟨I.ok.hd hc,e,fun h' tk acc hk hacc=>⟨⟨_,bJ _ rfl,rfl⟩,?_⟩⟩
 have I1:Inv X pins σ H { s with heap:=h',toks:=tk }:=I.kept hk
 have z:(T8 i (j-i).toNat).length≤sizeLine:=by unfold T8;rw[bA,fX,sizeLine_eq];omega
 have I2:Inv X pins σ (upd H h'.objs.size (.tup (T8 i (j-i).toNat))) { s with heap:=h'.push { cls:=.type "tuple",data:=.seq acc },toks:=tk }:=
  I1.laid (t':=tk) (fun b o e=>bB _ e) (bF _) (show z1a X.prog X.w _ _ _ (.tup _) from⟨z,acc.toList,y2L hacc,by simpa using PlT.new h' acc⟩)
 exact⟨.ref h'.objs.size,_,I2,rfl,q _ (I1.hok.fresh (bF _))⟩
theorem Vals.ins{x:V}{u:Value}(r:RelV x u){xs:List V}{us:List Value}(h:Vals xs us)(k:Nat):Vals (xs.take k++x::xs.drop k) (us.take k++u::us.drop k):=
 (h.take k).append (.cons r (h.drop k))
def y4f:V->List V->Hp->VK->Prop:=fun x vs H Q=>∃l xs i y,x=.ref l/\vs=[.int i,y]/\H l=some (.lst xs)/\0≤i/\i≤xs.length/\xs.length<sizeLine/\Q .non (upd H l (.lst (xs.take i.toNat++y::xs.drop i.toNat)))
theorem y1v:MtM X "list.insert" y4f:=by
 intro pins s σ H x vs v us Q I rx rv h
 obtain⟨l,xs,i,y,rfl,rfl,hH,h0,h1,hz,q⟩:=h
 cases rx
 obtain⟨u,w',rfl,⟨t,rfl⟩,ry⟩:=rv.two
 obtain⟨z,its,n,r,hl,e⟩:=I.V7 hH
 have hn:=z4O
 have hs:sizeLine=16777216:=sizeLine_eq
 have fit:¬(!Builtin.List.listFitsIndex i)=true:=by
  rw[fitsIndex_both (by omega) (by omega)]
  decide
 refine call_meets PySem.F.slot_list_insert ⟨_,e,rfl⟩ PySem.F.entry_list_insert (PySem.F.args_list_insert_3 _ _ _) (AutoSeq1.list_insert_list_int_val_1 l its.toArray n i t w' fit (by rw[bI];omega)) ⟨e,?_⟩
 refine⟨.non,_,I.w0B (its':=its.take i.toNat++w'::its.drop i.toNat) hH e ?_ (Vals.ins ry r i.toNat) ?_,rfl,q⟩
 ·have e1:(if i<0 then (i+(its.toArray.size:Int)).toNat else min i.toNat its.toArray.size)=i.toNat:=by
   rw[if_neg (by omega),bI,gH (by omega)]
  show((its.toArray.extract 0 (if i<0 then (i+(its.toArray.size:Int)).toNat else min i.toNat its.toArray.size)).push w'++its.toArray.extract (if i<0 then (i+(its.toArray.size:Int)).toNat else min i.toNat its.toArray.size))=_
  rw[e1]
  apply Array.toList_inj.mp
  simp
  rw[cW (by rw[d8];omega)]
 ·rw[bE,bT,bO,d8]
  omega
theorem z8Y:z2O X (.builtin "sorted") (fun xs H Q=>∃(p:Addr) (ns:List Int),xs=[.ref p]/\SqL X.K H p (ns.map V.int)/\ns.length<64/\
  ∀(l:Addr) (ns':List Int),H l=none->ns'.Perm ns->ns'.Pairwise (·≤·)->Q (.ref l) (upd H l (.lst (ns'.map V.int)))):=by
 intro pins s σ H xs us Q I r h
 obtain⟨p,ns,rfl,hq,h64,q⟩:=h
 obtain⟨u,rfl,rx⟩:=z4q r
 cases rx
 obtain⟨its,rv,pl,hz⟩:=I.list hq
 have hl:=rv.length
 rw[bA] at hl hz
 refine sorted_ints pl.isList (y0p rv) (by omega) fun out ns' a1 a2 a3=>?_
 obtain⟨e,he⟩:=sortedAll_at s.heap its out
 have hlen:=a2.length_eq
 refine⟨.ref (s.heap.objs.size+1),_,I.laid (t':=s.toks) (fun b o e=>sortedAll_old e) (dD _) (show z1a X.prog X.w _ _ _ (.lst (ns'.map V.int)) from⟨?_,out.toList,e,z4n a1,?_⟩),rfl,q _ ns' (I.hok.fresh (dD _)) a2 a3⟩
 ·rw[bA,hlen];exact hz
 ·simpa using he
end
section
variable{X:Cx}{tg:Expr}
end
abbrev y0q(J:It)(g:TG)(tc:TT)(te:TE)(σ0:St)(H1:Hp)(F:List V->Hp->Prop):Prop:=
 ∃W:Nat->Nat->List V->Hp->Prop,(∃m,W 0 m [] H1)/\∀i m ys H,W i m ys H->
  (J.stop i H/\F ys H)\/(J.go i H/\ys.length<sizeLine/\∃N:List V->Hp->Prop,(∀zs H',N zs H'->∃m',m'<m/\W (i+1) m' zs H')/\
   ∀x H',J.yld i H x H'->z1M g tc te σ0 x H' ys N)
theorem z2o{K:PySem.W.Frag}{a:Addr}{xs:List V}{g:TG}{tc:TT}{te:TE}{σ0:St}{H1:Hp}{F:List V->Hp->Prop}(Pv:Nat->List V->Hp->Prop)(h0:Pv 0 [] H1)
  (hl:∀i ys H,i≤xs.length->Pv i ys H->SqL K H a xs/\ys.length<sizeLine)
  (hs:∀i x ys H,xs[i]? = some x->Pv i ys H->z1M g tc te σ0 x H ys (Pv (i+1))) (hd:∀ys H,Pv xs.length ys H->F ys H):y0q (Itl K a) g tc te σ0 H1 F:=by
 refine⟨fun i m ys H=>m=xs.length-i/\i≤xs.length/\Pv i ys H,⟨xs.length,by simp,cL _,h0⟩,?_⟩
 rintro i m ys H ⟨rfl,hi,p⟩
 obtain⟨q,z⟩:=hl i ys H hi p
 by_cases hlt:i<xs.length
 ·refine .inr ⟨⟨xs,xs[i],q,by simp[hlt]⟩,z,Pv (i+1),fun zs H' p'=>⟨xs.length-(i+1),by omega,rfl,hlt,p'⟩,fun x H' y=>?_⟩
  obtain⟨e,y⟩:=y
  subst e
  exact hs i x ys _ (y xs q) p
 ·have e:i=xs.length:=by omega
  subst e
  exact .inl ⟨⟨xs,q,bF _⟩,hd ys H p⟩
theorem z7P{K:PySem.W.Frag}{a:Addr}{xs:List V}{g:TG}{tc:TT}{te:TE}{σ0:St}{H1:Hp}{F:List V->Hp->Prop}(Pv:Nat->List V->Hp->Prop)(h0:Pv 0 [] H1)
  (hl:∀i ys H,i≤xs.length->Pv i ys H->SqT K H a xs/\ys.length<sizeLine)
  (hs:∀i x ys H,xs[i]? = some x->Pv i ys H->z1M g tc te σ0 x H ys (Pv (i+1))) (hd:∀ys H,Pv xs.length ys H->F ys H):y0q (Itt K a) g tc te σ0 H1 F:=by
 refine⟨fun i m ys H=>m=xs.length-i/\i≤xs.length/\Pv i ys H,⟨xs.length,by simp,cL _,h0⟩,?_⟩
 rintro i m ys H ⟨rfl,hi,p⟩
 obtain⟨q,z⟩:=hl i ys H hi p
 by_cases hlt:i<xs.length
 ·refine .inr ⟨⟨xs,xs[i],q,by simp[hlt]⟩,z,Pv (i+1),fun zs H' p'=>⟨xs.length-(i+1),by omega,rfl,hlt,p'⟩,fun x H' y=>?_⟩
  obtain⟨e,y⟩:=y
  subst e
  exact hs i x ys _ (y xs q) p
 ·have e:i=xs.length:=by omega
  subst e
  exact .inl ⟨⟨xs,q,bF _⟩,hd ys H p⟩
theorem z76{lo:Int}{n:Nat}{g:TG}{tc:TT}{te:TE}{σ0:St}{H1:Hp}{F:List V->Hp->Prop}(Pv:Nat->List V->Hp->Prop)(h0:Pv 0 [] H1)
  (hl:∀i ys H,i≤n->Pv i ys H->ys.length<sizeLine)
  (hs:∀i ys H,i<n->Pv i ys H->z1M g tc te σ0 (.int (lo+i)) H ys (Pv (i+1))) (hd:∀ys H,Pv n ys H->F ys H):y0q (Itr lo n) g tc te σ0 H1 F:=by
 refine⟨fun i m ys H=>m=n-i/\i≤n/\Pv i ys H,⟨n,by simp,cL _,h0⟩,?_⟩
 rintro i m ys H ⟨rfl,hi,p⟩
 have z:=hl i ys H hi p
 by_cases hlt:i<n
 ·refine .inr ⟨hlt,z,Pv (i+1),fun zs H' p'=>⟨n-(i+1),by omega,rfl,hlt,p'⟩,fun x H' y=>?_⟩
  obtain⟨e,y⟩:=y
  subst e y
  exact hs i ys _ hlt p
 ·have e:i=n:=by omega
  subst e
  exact .inl ⟨bF _,hd ys H p⟩
def z6F{α:Type}(p:α->Bool)(f:α->V)(zs:List α):List V:=(zs.filter p).map f
theorem y0b{α:Type}(p:α->Bool)(f:α->V)(zs:List α)(z:α):z6F p f (zs++[z])=if p z=true then z6F p f zs++[f z] else z6F p f zs:=by
 unfold z6F
 rw[eY,bR]
 cases h:p z<;>simp[h]
theorem y24{α:Type}(p:α->Bool)(f:α->V)(zs:List α):(z6F p f zs).length≤zs.length:=by
 unfold z6F
 rw[bA]
 exact d7 _ _
theorem z0w{α:Type}{zs:List α}{i:Nat}{z:α}(h:zs[i]? = some z):zs.take (i+1)=zs.take i++[z]:=by
 rw[dJ,h]
 rfl
def upI(lo:Int)(n:Nat):List Int:=(List.range n).map fun(k:Nat)=>lo+(k:Int)
theorem z5J(lo:Int)(n:Nat):upI lo (n+1)=upI lo n++[lo+(n:Int)]:=by
 unfold upI
 rw[List.range_succ,bR]
 rfl
theorem z0V(lo:Int)(n:Nat):(upI lo n).length=n:=by unfold upI;rw[bA,fX]
theorem z2k{lo:Int}{n:Nat}{x:Int}:x∈upI lo n↔lo≤x/\x<lo+n:=by
 unfold upI
 rw[cF]
 constructor
 ·rintro⟨k,hk,rfl⟩
  have:=fS.mp hk
  omega
 ·rintro⟨h1,h2⟩
  exact⟨(x-lo).toNat,fS.mpr (by omega),by omega⟩
theorem y1t{lo:Int}{n:Nat}{g:TG}{tc:TT}{te:TE}{σ0:St}{H1:Hp}{F:List V->Hp->Prop}(p:Int->Bool)(f:Int->V)(hz:n≤1000)
  (hs:∀k ys N,lo≤k->k<lo+n->N (if p k=true then ys++[f k] else ys) H1->z1M g tc te σ0 (.int k) H1 ys N) (hd:F (z6F p f (upI lo n)) H1):y0q (Itr lo n) g tc te σ0 H1 F:=by
 refine z76 (fun i ys H=>H=H1/\ys=z6F p f (upI lo i)) ⟨rfl,rfl⟩ (fun i ys H hi hp=>?_) (fun i ys H hx hp=>?_) (fun ys H hp=>?_)
 ·obtain⟨rfl,rfl⟩:=hp
  have h1:=y24 p f (upI lo i)
  rw[z0V] at h1
  exact z0i (by omega)
 ·obtain⟨rfl,rfl⟩:=hp
  refine hs _ _ _ (by omega) (by omega) ⟨rfl,?_⟩
  rw[z5J,y0b]
 ·obtain⟨rfl,rfl⟩:=hp
  exact hd
section
variable{X:Cx}
theorem z1r:z2O X (.builtin "isinstance") (fun xs H Q=>∃x T t b,xs=[x,.ty T]/\Q6 X.K H x t/\PySem.W.kitOne X.K t (.type T)=some b/\Q (.bl b) H):=by
 intro pins s σ H xs us Q I r h
 obtain⟨x,T,t,b,rfl,ty,e,q⟩:=h
 obtain⟨u,w',rfl,rx,ry⟩:=y08 r
 cases (show w'=Value.type T from ry)
 exact y1s I rx ty e fun tk=>⟨.bl b,H,I.tok _,rfl,q⟩
end
def z9O(N:List Str)(kind:Str->Option NameKind)(rl:List (Str×NameKind)):List Str->List Nat->Bool
 | x::xs,i::is=>decide (N[i]? = some x) && (decide (kind x=some .cell) || decide (kind x=some .free)) && (decide (rl.lookup x=some .cell) || decide (rl.lookup x=some .free)) && z9O N kind rl xs is
 | _,_=>true
theorem y3v{N:List Str}{kind:Str->Option NameKind}{rl:List (Str×NameKind)}:∀{F1:List Str}{ix:List Nat},z9O N kind rl F1 ix=true->∀(j i:Nat) (x:Str),F1[j]? = some x->ix[j]? = some i->
  N[i]? = some x/\(kind x=some .cell\/kind x=some .free)/\(rl.lookup x=some .cell\/rl.lookup x=some .free)
 | [],_,_,j,i,x,e,_=>by simp at e
 | _::_,[],_,j,i,x,_,e=>by simp at e
 | y::ys,k::ks,h,j,i,x,e1,e2=>by
  unfold z9O at h
  rw[bX,bX,bX,gI,gI] at h
  obtain⟨⟨⟨h1,h2⟩,h3⟩,h4⟩:=h
  cases j with
  | zero=>
   simp at e1 e2
   subst e1 e2
   exact⟨of_decide_eq_true h1,h2.imp of_decide_eq_true of_decide_eq_true,h3.imp of_decide_eq_true of_decide_eq_true⟩
  | succ j=>exact y3v h4 j i x (by simpa using e1) (by simpa using e2)
theorem z0H{X:Cx}{scope:Scope}{cl:List (Str×Addr)}{own F1:List Str}{ix:List Nat}(V5:z60 X.env.cells scope.names []=some cl)(cell:∀y∈scope.names,y.2≠.cell)(kind:scope.kind=.function)
  (names:∀y∈scope.names,y.2=.local->scope.names.lookup y.1=some .local) (n:F1.length=ix.length) (cap:z9O X.N X.env.kindOf (relabel scope X.env).names F1 ix=true):J2 X scope cl own F1 ix:=
 ⟨V5,cell,kind,names,n,fun j i x e1 e2=>by
  obtain⟨a,b,c⟩:=y3v cap j i x e1 e2
  refine⟨a,fun z=>?_,b.elim (fun q=>.inr (.inl q)) (fun q=>.inr (.inr q)),c⟩
  rcases b with b|b<;>(rw[b] at z;cases z)⟩
theorem y4q{X:Cx}{K:PySem.W.Frag}{es:List Expr}{k:Nat}{t:TGs}{n:Nat}{pos:Pos}(hK:X.K=K)(hc:X.calm=true)(h:PGs X es t)
  (hn:(assignEach es X.env).length=n:=by rfl) (hst:(assignEach es X.env).findIdx? (·.1)=none:=by rfl):PG X (.Tuple es k pos) (w03 K n t):=by
 subst hK
 exact y4C hc h hn hst
structure Cal(P:Program)(w:World)(K:PySem.W.Frag)(mg:Str->Option Value)(base:Heap)(k:Nat)(x:Str)(ps:List Str)(sp:Sp):Prop where
 ex:∃(f:Addr) (fd:FuncData),B0 P w K mg base CX0 k f fd ps sp/\z1c K fd ps []/\PySem.W.keepIn K (.ref f)=true/\mg x=some (.ref f)
theorem Cal.mk'{P:Program}{w:World}{K:PySem.W.Frag}{mg:Str->Option Value}{base:Heap}{k:Nat}{x:Str}{ps:List Str}{sp:Sp}{f:Addr}{fd:FuncData}(a:B0 P w K mg base CX0 k f fd ps sp)(b:z1c K fd ps [])(c:PySem.W.keepIn K (.ref f)=true)(d:mg x=some (.ref f)) :
  Cal P w K mg base k x ps sp:=⟨⟨f,fd,a,b,c,d⟩⟩
theorem z0r{X:Cx}{k:Nat}{x:Str}{ps:List Str}{sp:Sp}{e:Expr}{es:List Expr}{t:TA}{p pos:Pos}(G:Cal X.prog X.w X.K X.mg X.base k x ps sp)(hr:D6 k X.A)(hg:Gl X x)(ha:PA X (e::es) t)
  (hdb:(x == ("__debug__":Str))=false:=by decide) (he:starEach (e::es) X.env=(false,eval e X.env)::starEach es X.env:=by rfl) (hpl:(backTo pos (starEach es X.env)).any (·.1)=false:=by rfl) :
  PE X (.Call (.Name x p) (e::es) [] pos) (y4M sp [] E0 t):=by
 obtain⟨f,fd,a,b,c,d⟩:=G.ex
 exact y4d a hr hg d c b .nil y0B ha hdb he hpl
def N1(z:Str)(lo hi:Option Int):Str:=⟨((z.cps.toList.drop (HT.sIx z.length 0 lo)).take (HT.sIx z.length z.length hi-HT.sIx z.length 0 lo)).toArray⟩
theorem z7M{x y:Str}(h:x.cps.toList=y.cps.toList):x=y:=by
 obtain⟨a⟩:=x
 obtain⟨b⟩:=y
 exact congrArg Str.mk (Array.toList_inj.mp h)
theorem z0N(z:Str):z.cps.toList.length=z.length:=by simp[Str.length]
theorem z9m(lo hi:Option Int)(n:Nat):Builtin.Str.strSliceIndices lo hi 1 n=(List.range (HT.sIx n n hi-HT.sIx n 0 lo)).map (fun k=>HT.sIx n 0 lo+k):=by
 obtain⟨h1,h2,h3⟩:=z5n lo hi n
 have e:Builtin.Str.strSliceIndices lo hi 1 n=sliceRange (sliceBounds lo hi none n).1 (sliceBounds lo hi none n).2.1 1:=by
  unfold Builtin.Str.strSliceIndices sliceBounds
  cases lo<;>cases hi<;>rfl
 rw[e,h1,h2,sliceRange_one]
theorem y2b{z:Str}{t:Tok}{l u:Option (Int×Tok)}{Q:Value->Shared->Prop}{s:Shared}(hz:z.length≤sizeLine)(h:∀t' tk,Q (.str (N1 z (l.map (·.1)) (u.map (·.1))) t') { s with toks:=tk }):(sliceMade z t l u none).post Q s:=by
 have picked:slicePicked z l u none=(List.range (HT.sIx z.length z.length (u.map (·.1))-HT.sIx z.length 0 (l.map (·.1)))).map (fun k=>HT.sIx z.length 0 (l.map (·.1))+k):=z9m _ _ _
 have items:(slicePicked z l u none).filterMap (z.cps[·]?)=(N1 z (l.map (·.1)) (u.map (·.1))).cps.toList:=by
  rw[picked,pick_run]
  rfl
 have lh:=HT.y3k z.length z.length (bF _) (u.map (·.1))
 unfold sliceMade
 by_cases c:(((none:Option (Int×Tok)).map (·.1)).getD 1 == 1 && (slicePicked z l u none).length == z.length)=true
 ·rw[if_pos c]
  rw[bX] at c
  have c2:(slicePicked z l u none).length=z.length:=eq_of_beq c.2
  rw[picked,bA,fX] at c2
  have e:N1 z (l.map (·.1)) (u.map (·.1))=z:=by
   apply z7M
   show(z.cps.toList.drop _).take _=_
   by_cases hz0:z.length=0
   ·have:z.cps.toList=[]:=dL (by rw[z0N];exact hz0)
    rw[this]
    simp
   ·have e1:HT.sIx z.length 0 (l.map (·.1))=0:=by omega
    rw[e1,fT,cW]
    rw[z0N]
    omega
  have:=h t s.toks
  rw[e] at this
  exact this
 ·rw[if_neg c,items]
  refine⟨?_,?_⟩
  ·show(((N1 z (l.map (·.1)) (u.map (·.1))).cps.toList.toArray).size)≤sizeLine
   rw[bI]
   show((z.cps.toList.drop _).take _).length≤_
   rw[bO,d8,z0N]
   omega
  ·have:=h s.toks (s.toks+1)
   have e:(⟨(N1 z (l.map (·.1)) (u.map (·.1))).cps.toList.toArray⟩:Str)=N1 z (l.map (·.1)) (u.map (·.1)):=z7M (by simp)
   rw[e]
   exact this
section
variable{X:Cx}
theorem z5r{v:Value}{o:Option Int}(h:IsPart v o):∃p:Option (Int×Tok),v=partValue p/\p.map (·.1)=o:=by
 cases h with
 | none=>exact⟨none,rfl,rfl⟩
 | int i t=>exact⟨some (i,t),rfl,rfl⟩
def rSlS:V->Option Int->Option Int->Hp->VK->Prop:=fun x lo hi H Q=>∃z,x=.str z/\z.length≤sizeLine/\Q (.str (N1 z lo hi)) H
theorem y0U:SlR X rSlS:=by
 intro pins s σ H x v vl vu lo hi sl Q I rx hs pl pu h
 obtain⟨z,rfl,hz,q⟩:=h
 obtain⟨t,rfl⟩:=rx
 obtain⟨l,rfl,rfl⟩:=z5r pl
 obtain⟨u,rfl,rfl⟩:=z5r pu
 refine⟨"str",_,slot_str_getitem.lookup,typeIs_str s z t,?_⟩
 obtain⟨o,ho,hc,hd⟩:=hs
 refine wpAny_getItem_str_slice (l:=l) (u:=u) (st:=none) ⟨o,ho,hc,hd⟩ rfl (y2b hz fun t' tk=>?_)
 exact⟨.str _,H,I.tok _,⟨_,rfl⟩,q⟩
def Z0(z:Str)(n:Nat):Str:=⟨(List.replicate n z.cps.toList).flatten.toArray⟩
theorem z9r(z:Array Nat):∀(n:Nat) (acc:Array Nat),(List.foldl (fun a b=>a++b) acc (List.replicate n z)).toList=acc.toList++(List.replicate n z.toList).flatten
 | 0,acc=>by simp
 | n+1,acc=>by
  rw[dC,dN,z9r z n]
  simp[dC]
theorem y0n:OpR X (binaryOp .Mult) (fun x y H Q=>∃z n,x=.str z/\y=.int n/\1≤n/\n≤1000/\z.length≤1000/\Q (.str (Z0 z n.toNat)) H):=by
 intro pins s σ H x y v u Q I rx ry h
 obtain⟨z,n,rfl,rfl,h1,h2,hz,q⟩:=h
 obtain⟨t,rfl⟩:=rx
 obtain⟨t',rfl⟩:=ry
 have hs:sizeLine=16777216:=sizeLine_eq
 have hm:z.length*n.toNat≤1000*1000:=Nat.mul_le_mul hz (by omega)
 have fin:∀t' tk,EP X pins σ Q (.str (Z0 z n.toNat) t') { s with toks:=tk }:=fun t' tk=>⟨.str _,H,I.tok _,⟨_,rfl⟩,q⟩
 refine PySem.P.mul_str ?_ (fun _ _=>?_) (fun _ _=>?_) ?_
 ·rw[decide_eq_false (show ¬n < -(2^63:Int) by omega),decide_eq_false (show ¬n≥2^63 by omega)]
  rfl
 ·have:(1000:Int)≤(2^63-1) / n:=by
   apply Int.le_ediv_of_mul_le (by omega)
   have:1000*n≤1000*1000:=Int.mul_le_mul_of_nonneg_left h2 (by decide)
   omega
  omega
 ·unfold Builtin.Str.tooLong
  exact decide_eq_false (by omega)
 ·rw[if_neg (by omega)]
  by_cases c:(n == 1 || z.length == 0)=true
  ·rw[if_pos c]
   have e:Z0 z n.toNat=z:=by
    apply z7M
    show((List.replicate n.toNat z.cps.toList).flatten.toArray).toList=_
    rw[gI] at c
    rcases c with c|c
    ·have:n=1:=eq_of_beq c
     subst this
     simp
    ·have:z.length=0:=eq_of_beq c
     have:z.cps.toList=[]:=dL (by rw[z0N];exact this)
     rw[this]
     simp
   have:=fin t s.toks
   rw[e] at this
   exact this
  ·rw[if_neg c]
   have e:(⟨(List.replicate n.toNat z.cps).foldl (·++·) #[]⟩:Str)=Z0 z n.toNat:=by
    apply z7M
    show(List.foldl (fun a b=>a++b) #[] (List.replicate n.toNat z.cps)).toList=((List.replicate n.toNat z.cps.toList).flatten.toArray).toList
    rw[z9r]
    simp
   refine⟨?_,?_⟩
   ·rw[e,<- z0N]
    show((List.replicate n.toNat z.cps.toList).flatten.toArray).toList.length≤sizeLine
    have:((List.replicate n.toNat z.cps.toList).flatten.toArray).toList.length=n.toNat*z.length:=by
     simp[List.length_flatten,List.map_replicate,z0N]
     rfl
    rw[this,Nat.mul_comm]
    omega
   ·rw[e]
    exact fin _ _
end
end L2
namespace L2
open PySem
inductive DV where
 | non|bl (b:Bool)|int (i:Int)|str (x:Str)|tup (l:List DV)
mutual
def B5(H:Hp):DV->V->Prop
 | .non,x=>x=.non
 | .bl b,x=>x=.bl b
 | .int i,x=>x=.int i
 | .str s,x=>x=.str s
 | .tup ds,x=>∃a xs,x=.ref a/\H a=some (.tup xs)/\xs.length≤1000000/\z0k H ds xs
def z0k(H:Hp):List DV->List V->Prop
 | [],xs=>xs=[]
 | d::ds,xs=>∃x r,xs=x::r/\B5 H d x/\z0k H ds r
end
mutual
theorem B5.keep{H H':Hp}(s:A4 H H'):∀(d:DV) (x:V),B5 H d x->B5 H' d x
 | .non,_,h=>h
 | .bl _,_,h=>h
 | .int _,_,h=>h
 | .str _,_,h=>h
 | .tup ds,_,h=>by
  unfold B5 at h ⊢
  obtain⟨a,xs,e,h1,h2,h3⟩:=h
  exact⟨a,xs,e,s _ _ h1,h2,z0k.keep s ds xs h3⟩
theorem z0k.keep{H H':Hp}(s:A4 H H'):∀(ds:List DV) (xs:List V),z0k H ds xs->z0k H' ds xs
 | [],_,h=>h
 | d::ds,_,h=>by
  unfold z0k at h ⊢
  obtain⟨x,r,e,h1,h2⟩:=h
  exact⟨x,r,e,B5.keep s d x h1,z0k.keep s ds r h2⟩
end
mutual
theorem B5.over{H:Hp}{l:Addr}{o o':HO}(hl:H l=some o)(hn:∀xs,o≠.tup xs):∀(d:DV) (x:V),B5 H d x->B5 (upd H l o') d x
 | .non,_,h=>h
 | .bl _,_,h=>h
 | .int _,_,h=>h
 | .str _,_,h=>h
 | .tup ds,_,h=>by
  unfold B5 at h ⊢
  obtain⟨a,xs,e,h1,h2,h3⟩:=h
  exact⟨a,xs,e,by rw[z0b (z54 h1 hl (fun z=>hn xs z.symm))];exact h1,h2,z0k.over hl hn ds xs h3⟩
theorem z0k.over{H:Hp}{l:Addr}{o o':HO}(hl:H l=some o)(hn:∀xs,o≠.tup xs):∀(ds:List DV) (xs:List V),z0k H ds xs->z0k (upd H l o') ds xs
 | [],_,h=>h
 | d::ds,_,h=>by
  unfold z0k at h ⊢
  obtain⟨x,r,e,h1,h2⟩:=h
  exact⟨x,r,e,B5.over hl hn d x h1,z0k.over hl hn ds r h2⟩
end
theorem z0k.length{H:Hp}:∀{ds:List DV}{xs:List V},z0k H ds xs->xs.length=ds.length
 | [],_,h=>by unfold z0k at h;rw[h];rfl
 | d::ds,_,h=>by
  unfold z0k at h
  obtain⟨x,r,rfl,_,h2⟩:=h
  rw[bT,bT,z0k.length h2]
theorem z0k.get{H:Hp}:∀{ds:List DV}{xs:List V},z0k H ds xs->∀(i:Nat) (d:DV),ds[i]? = some d->∃x,xs[i]? = some x/\B5 H d x
 | [],_,_,i,d,e=>by simp at e
 | d0::ds,_,h,0,d,e=>by
  unfold z0k at h
  obtain⟨x,r,rfl,h1,_⟩:=h
  simp at e
  subst e
  exact⟨x,rfl,h1⟩
 | d0::ds,_,h,i+1,d,e=>by
  unfold z0k at h
  obtain⟨x,r,rfl,_,h2⟩:=h
  obtain⟨y,e1,e2⟩:=z0k.get h2 i d (by simpa using e)
  exact⟨y,by simpa using e1,e2⟩
theorem z0k.at{H:Hp}:∀{ds:List DV}{xs:List V},z0k H ds xs->∀(i:Nat) (x:V),xs[i]? = some x->∃d,ds[i]? = some d/\B5 H d x
 | [],_,h,i,x,e=>by
  unfold z0k at h
  subst h
  simp at e
 | d0::ds,_,h,0,x,e=>by
  unfold z0k at h
  obtain⟨x0,r,rfl,h1,_⟩:=h
  simp at e
  subst e
  exact⟨d0,rfl,h1⟩
 | d0::ds,_,h,i+1,x,e=>by
  unfold z0k at h
  obtain⟨x0,r,rfl,_,h2⟩:=h
  obtain⟨y,e1,e2⟩:=z0k.at h2 i x (by simpa using e)
  exact⟨y,by simpa using e1,e2⟩
theorem z0k.nil{H:Hp}:z0k H [] []:=by unfold z0k;rfl
theorem z0k.cons{H:Hp}{d:DV}{ds:List DV}{x:V}{xs:List V}(h:B5 H d x)(t:z0k H ds xs):z0k H (d::ds) (x::xs):=by unfold z0k;exact⟨x,xs,rfl,h,t⟩
theorem z0k.snoc{H:Hp}:∀{ds:List DV}{xs:List V}{d:DV}{x:V},z0k H ds xs->B5 H d x->z0k H (ds++[d]) (xs++[x])
 | [],_,_,_,h,q=>by
  unfold z0k at h
  subst h
  exact z0k.cons q .nil
 | d0::ds,_,_,_,h,q=>by
  unfold z0k at h
  obtain⟨x0,r,rfl,h1,h2⟩:=h
  exact z0k.cons h1 (z0k.snoc h2 q)
theorem z1N{H:Hp}(i:Int):B5 H (.int i) (.int i):=by unfold B5;rfl
theorem z0A{H:Hp}(x:Str):B5 H (.str x) (.str x):=by unfold B5;rfl
theorem z0J{H:Hp}{a:Addr}{xs:List V}{ds:List DV}(h:H a=some (.tup xs))(hl:ds.length≤1000000)(t:z0k H ds xs):B5 H (.tup ds) (.ref a):=by
 unfold B5
 exact⟨a,xs,rfl,h,by rw[t.length];exact hl,t⟩
theorem z3O{H:Hp}:∀(l:List Int),z0k H (l.map DV.int) (l.map V.int)
 | []=>.nil
 | i::r=>.cons (z1N i) (z3O r)
theorem z74{H:Hp}:∀(l:List Str),z0k H (l.map DV.str) (l.map V.str)
 | []=>.nil
 | i::r=>.cons (z0A i) (z74 r)
theorem z1b{H:Hp}{ds:List DV}{x:V}(h:B5 H (.tup ds) x):∃a xs,x=.ref a/\H a=some (.tup xs)/\xs.length≤1000000/\z0k H ds xs:=by
 unfold B5 at h
 exact h
theorem z3x{H:Hp}{i:Int}{x:V}(h:B5 H (.int i) x):x=.int i:=by unfold B5 at h;exact h
theorem z5y{H:Hp}{i:Str}{x:V}(h:B5 H (.str i) x):x=.str i:=by unfold B5 at h;exact h
theorem z0T{H:Hp}{d:DV}{ds:List DV}{xs:List V}(h:z0k H (d::ds) xs):∃x r,xs=x::r/\B5 H d x/\z0k H ds r:=by
 unfold z0k at h
 exact h
theorem z36{H:Hp}{xs:List V}(h:z0k H [] xs):xs=[]:=by unfold z0k at h;exact h
mutual
def DV.deep:DV->Nat
 | .tup ds=>DV.R8 ds+1
 | _=>0
def DV.R8:List DV->Nat
 | []=>0
 | d::ds=>max d.deep (DV.R8 ds)
end
def y0a:V->Bool
 | .non=>true
 | .bl _=>true
 | .int _=>true
 | .str _=>true
 | _=>false
def z3p(H:Hp):Nat->V->V->Prop
 | 0,x,y=>x=y/\y0a x=true
 | n+1,x,y=>(x=y/\y0a x=true)\/∃(a b:Addr) (xs ys:List V),x=.ref a/\y=.ref b/\H a=some (.tup xs)/\H b=some (.tup ys)/\xs.length=ys.length/\ys.length≤1000000/\
   ∀(i:Nat) (u v:V),xs[i]? = some u->ys[i]? = some v->z3p H n u v
theorem z3p.keep{H H':Hp}(s:A4 H H'):∀{n:Nat}{x y:V},z3p H n x y->z3p H' n x y
 | 0,_,_,h=>h
 | n+1,x,y,h=>by
  rcases h with h|⟨a,b,xs,ys,e1,e2,h1,h2,hl,hm,h⟩
  ·exact .inl h
  ·exact .inr ⟨a,b,xs,ys,e1,e2,s _ _ h1,s _ _ h2,hl,hm,fun i u v hu hv=>z3p.keep s (h i u v hu hv)⟩
theorem z3p.up{H:Hp}:∀{n:Nat}{x y:V},z3p H n x y->z3p H (n+1) x y
 | 0,_,_,h=>.inl h
 | n+1,x,y,h=>by
  rcases h with h|⟨a,b,xs,ys,e1,e2,h1,h2,hl,hm,h⟩
  ·exact .inl h
  ·exact .inr ⟨a,b,xs,ys,e1,e2,h1,h2,hl,hm,fun i u v hu hv=>z3p.up (h i u v hu hv)⟩
theorem z3p.mono{H:Hp}{x y:V}{n m:Nat}(h:z3p H n x y)(hm:n≤m):z3p H m x y:=by
 induction hm with
 | refl=>exact h
 | step _ ih=>exact ih.up
mutual
theorem z2j{H:Hp}:∀(d:DV) (x y:V),B5 H d x->B5 H d y->z3p H d.deep x y
 | .non,x,y,h1,h2=>by
  unfold B5 at h1 h2
  subst h1 h2
  exact⟨rfl,rfl⟩
 | .bl _,x,y,h1,h2=>by
  unfold B5 at h1 h2
  subst h1 h2
  exact⟨rfl,rfl⟩
 | .int _,x,y,h1,h2=>by
  unfold B5 at h1 h2
  subst h1 h2
  exact⟨rfl,rfl⟩
 | .str _,x,y,h1,h2=>by
  unfold B5 at h1 h2
  subst h1 h2
  exact⟨rfl,rfl⟩
 | .tup ds,x,y,h1,h2=>by
  unfold B5 at h1 h2
  obtain⟨a,xs,rfl,a1,a2,a3⟩:=h1
  obtain⟨b,ys,rfl,b1,b2,b3⟩:=h2
  unfold DV.deep
  exact .inr ⟨a,b,xs,ys,rfl,rfl,a1,b1,by rw[a3.length,b3.length],b2,z6x ds xs ys a3 b3⟩
theorem z6x{H:Hp}:∀(ds:List DV) (xs ys:List V),z0k H ds xs->z0k H ds ys->∀(i:Nat) (u v:V),xs[i]? = some u->ys[i]? = some v->z3p H (DV.R8 ds) u v
 | [],xs,ys,h1,h2,i,u,v,e1,e2=>by
  unfold z0k at h1
  subst h1
  simp at e1
 | d::ds,xs,ys,h1,h2,0,u,v,e1,e2=>by
  unfold z0k at h1 h2
  obtain⟨x,r,rfl,a1,a2⟩:=h1
  obtain⟨y,t,rfl,b1,b2⟩:=h2
  simp at e1 e2
  subst e1 e2
  unfold DV.R8
  exact(z2j d x y a1 b1).mono (Nat.le_max_left _ _)
 | d::ds,xs,ys,h1,h2,i+1,u,v,e1,e2=>by
  unfold z0k at h1 h2
  obtain⟨x,r,rfl,a1,a2⟩:=h1
  obtain⟨y,t,rfl,b1,b2⟩:=h2
  unfold DV.R8
  exact(z6x ds r t a2 b2 i u v (by simpa using e1) (by simpa using e2)).mono (Nat.le_max_right _ _)
end
end L2
namespace L2
open PySem PySem.Spec PyProof.Rows
section
variable{κ:Type}[DecidableEq κ]
def K2(ks:List κ):List κ:=ks.foldl (fun acc k=>if k∈acc then acc else acc++[k]) []
theorem z8v(ks:List κ)(k:κ):K2 (ks++[k])=if k∈K2 ks then K2 ks else K2 ks++[k]:=by
 unfold K2
 rw[List.foldl_append]
 rfl
theorem y1y{ks:List κ}{i:Nat}{k:κ}(h:ks[i]? = some k):K2 (ks.take (i+1))=if k∈K2 (ks.take i) then K2 (ks.take i) else K2 (ks.take i)++[k]:=by
 have e:ks.take (i+1)=ks.take i++[k]:=by rw[dJ,h]<;>rfl
 rw[e,z8v]
theorem z6d(k:κ):∀(ks acc:List κ),k∈ks.foldl (fun acc k=>if k∈acc then acc else acc++[k]) acc↔k∈acc\/k∈ks
 | [],acc=>by simp
 | x::r,acc=>by
  rw[dN,z6d k r]
  by_cases h:x∈acc
  ·rw[if_pos h,bD]
   constructor
   ·rintro(a|a)
    ·exact .inl a
    ·exact .inr (.inr a)
   ·rintro(a|rfl|a)
    ·exact .inl a
    ·exact .inl h
    ·exact .inr a
  ·rw[if_neg h,c8,bC,bD,or_assoc]
theorem z7K{k:κ}{ks:List κ}:k∈K2 ks↔k∈ks:=by unfold K2;rw[z6d];simp
theorem z5Q:∀(ks acc:List κ),(ks.foldl (fun acc k=>if k∈acc then acc else acc++[k]) acc).length≤acc.length+ks.length
 | [],acc=>by simp
 | x::r,acc=>by
  rw[dN]
  refine cC (z5Q r _) ?_
  by_cases h:x∈acc
  ·rw[if_pos h,bT];omega
  ·rw[if_neg h,bE,bT,bT,List.length_nil];omega
theorem z9D(ks:List κ):(K2 ks).length≤ks.length:=by
 have:=z5Q ks []
 simpa [K2] using this
theorem z79:∀(ks acc:List κ),(acc++ks).Nodup->ks.foldl (fun acc k=>if k∈acc then acc else acc++[k]) acc=acc++ks
 | [],acc,_=>by simp
 | x::r,acc,h=>by
  have hx:x∉acc:=fun hx=>by
   rw[fB] at h
   exact h.2.2 x hx x (cD) rfl
  rw[dN,if_neg hx,z79 r (acc++[x]) (by rw[dR];exact h),dR]
  rfl
theorem z9c{ks:List κ}(h:ks.Nodup):K2 ks=ks:=by
 have:=z79 ks [] (by simpa using h)
 simpa [K2] using this
end
section
variable{prog:Program}{w:World}{A:Around}{κ:Type}[DecidableEq κ]{kd:KeyKind prog w κ}{I:Addr}{fp wr:List Addr}{G:Array GenState->Array GenState->Prop}{n:Nat}{P:Nat->Value->Prop}{St:Nat->Shared->Prop}
abbrev z4J(kd:KeyKind prog w κ)(h:Heap)(a:Addr)(ks:List κ):Prop:=h.SetOf kd a (fun k=>decide (k∈ks)) (K2 ks).length
theorem z4J.at{h h':Heap}{a:Addr}{ks:List κ}(x:z4J kd h a ks)(e:∀o,h.get? a=some o->h'.get? a=some o):z4J kd h' a ks:=by
 obtain⟨o,es,ep,t,ho,r⟩:=x
 exact⟨o,es,ep,t,e o ho,r⟩
theorem z7x{R:Result->Shared->Prop}(W:WalksS prog w A.in1 I fp wr G n P St){a:Addr}(out:a∉fp){ks:List κ}(lk:ks.length=n)
  (vals:∀i v,P i v->∃k,ks[i]? = some k/\kd.is k v=true/\v.scannable=true) (few:n+1<scanBound) :
  ∀(todo i:Nat) (s:Shared),i+todo=n->St i s->z4J kd s.heap a (ks.take i)->
   (∀s',Moved (a::wr) G s s'->z4J kd s'.heap a ks->R (.ok (.ret .none)) s')->codeAny (model prog w) A (.builtin "set.update.loop" ⟨[.ref a,.ref I],[]⟩) R s
 | 0,i,s,ei,st,sx,fin=>by
  have e:ks.take i=ks:=cW (by omega)
  rw[e] at sx
  have ei':i=n:=by omega
  subst ei'
  refine codeAny_builtin F.entry_set_update_loop ?_
  rw[cK fV _]
  refine wpAny_bind (W.done s _ _ st fun s' mv=>wpAny_pure (fin s' (mv.mono fun b hb=>.tail _ hb) (sx.at fun o=>mv.heap a o fun q=>out (W.sub _ q))))
 | todo+1,i,s,ei,st,sx,fin=>by
  refine codeAny_builtin F.entry_set_update_loop ?_
  rw[cK fV _]
  refine wpAny_bind (W.item i s _ _ (by omega) st fun v s1 hv st1 mv=>?_)
  obtain⟨k,ek,iv,sc⟩:=vals i v hv
  have sx1:=sx.at (h':=s1.heap) fun o=>mv.heap a o fun q=>out (W.sub _ q)
  refine wpAny_bind (wpAny_holding (m:=setAdd a v) ?_)
  unfold setAdd
  refine wpAny_holding (wpAny_bind (kd.pyHash iv ?_))
  have lm:=z9D (ks.take i)
  rw[bO] at lm
  refine wpAny_setAddHashed_of (s:={ s1 with toks:=s1.toks+1 }) iv sc sx1 (by omega) fun h2 sb sx2=>?_
  have sx3:z4J kd h2 a (ks.take (i+1)):=by
   have e1:(fun k'=>decide (k'∈ks.take i) || decide (k'=k))=fun k'=>decide (k'∈ks.take (i+1)):=by
    funext k'
    rw[dJ,ek]
    simp[Bool.decide_or]
   have e2:(if decide (k∈ks.take i)=true then (K2 (ks.take i)).length else (K2 (ks.take i)).length+1)=(K2 (ks.take (i+1))).length:=by
    rw[y1y ek]
    by_cases hk:k∈ks.take i
    ·rw[if_pos (decide_eq_true hk),if_pos (z7K.mpr hk)]
    ·rw[if_neg (by simpa using hk),if_neg (fun q=>hk (z7K.mp q)),bE]
     rfl
   rw[e1,e2] at sx2
   exact sx2
  have far:∀b,b≠a->h2.get? b=s1.heap.get? b:=fun b hb=>sb.2 b hb
  refine wpAny_pure ⟨plainId_quiet fV _,z7x W out lk vals few todo (i+1) _ (by omega) (W.frame _ s1 _ _ st1 (dD _) fun b hb o q=>?_) sx3 fun s3 mv3 sx4=>?_⟩
  ·rw[far b fun z=>out (z ▸ hb)];exact q
  ·refine fin s3 (.trans W.gtrans ((mv.mono fun b hb=>.tail _ hb).then_heap (dD _) fun b o hb q=>?_) mv3) sx4
   rw[far b fun z=>hb (z ▸ .head _)];exact q
end
namespace Ty
theorem y1n:isSubtype (.type "tuple") (.type "set")=pure false:=by rw[isSubtype_type];kernel_rfl
theorem z5P:isSubtype (.type "tuple") (.type "frozenset")=pure false:=by rw[isSubtype_type];kernel_rfl
end Ty
abbrev R7(led:Bool):Obj:={ cls:=.type "set",dict:=none,data:=.set #[] 0 (.fresh 0 0 led) }
section
variable{prog:Program}{w:World}{A:Around}{E:Value->Shared->Prop}{s:Shared}{κ:Type}[DecidableEq κ]{kd:KeyKind prog w κ}
theorem y2B{T:String}{p:Addr}{o:Obj}{its:Array Value}{c0:Nat}{ks:List κ}{Q:Value->Shared->Prop}(hh:A.handled=none)(hp:s.heap.get? p=some o)(hc:o.cls=.type T)(hd:o.data=.seq its c0)(hT:T="list"\/T="tuple")
  (lk:ks.length=its.size) (vals:∀(i:Nat) v,its[i]? = some v->∃k,ks[i]? = some k/\kd.is k v=true/\v.scannable=true) (few:its.size+1<scanBound)
  (fin:∀(h':Heap) (t:Nat),z4J kd h' s.heap.objs.size ks->(∀b u,b<s.heap.objs.size->s.heap.get? b=some u->h'.get? b=some u)->Q (.ref s.heap.objs.size) { s with heap:=h',toks:=t }) :
  wpAny (model prog w) A (call (.type "set") [.ref p]) Q E s:=by
 obtain⟨c,tl,hmro⟩:=dZ.mro
 have g1:=dZ.made
 have g2:=dZ.sub
 refine wpAny_call (codeAny_of_tree (wpAny_pure ⟨Code.quiet_builtin _ (by decide +kernel),codeAny_builtin F.entry_type_call ?_⟩))
 rw[Around.under_plain (weight_type_call_type "set" [.ref p] []) rfl]
 have g3:=dZ.notType
 have g4:=dZ.canCreate
 have g5:=F.typeCall_set_1 (.ref p)
 repeat (any_goals (first|assumption|wp_step))
 refine codeAny_mono (code_set_new_1 (.ref p) (E:=E) (Q₁:=fun u s1=>∃led,u=.ref s.heap.objs.size/\s1={ s with heap:=s.heap.push (R7 led) }) fun led=>⟨led,rfl,rfl⟩) fun r s1 q1=>?_
 rcases r with e|(_|_|_|u)
 all_goals try exact q1.elim
 all_goals try exact q1
 obtain⟨led,rfl,rfl⟩:=q1
 have at1:(s.heap.push (R7 led)).get? s.heap.objs.size=some (R7 led):=bJ _ rfl
 have ty1:Shared.TypeIs { s with heap:=s.heap.push (R7 led) } (.ref s.heap.objs.size) "set":=⟨_,at1,rfl⟩
 have g6:=dZ.init.lookup
 have g7:=dZ.init.bind (.ref s.heap.objs.size)
 repeat (any_goals (first|assumption|wp_step))
 refine codeAny_mono (codeAny_call_builtin (R:=wants (fun r s2=>r=.none/\∃h' t,s2={ s with heap:=h',toks:=t }/\z4J kd h' s.heap.objs.size ks/\∀b u,b<s.heap.objs.size->s.heap.get? b=some u->h'.get? b=some u) E)
  dZ.init.plain F.entry_set_init (check_set_init_1 ty1 ?_)) fun r s2 q2=>?_
 case _=>
  have hpS:p<s.heap.objs.size:=bK hp
  obtain⟨oc,od,oa,os⟩:=o
  simp only at hc hd
  subst hc;subst hd
  have hp1:(s.heap.push (R7 led)).get? p=some { cls:=.type T,dict:=od,data:=.seq its c0,slots:=os }:=bB _ hp
  have f1:isSubtype (.type T) (.type "set")=pure false:=by rcases hT with rfl|rfl<;>first|exact F.sub_list_set|exact Ty.y1n
  have f2:isSubtype (.type T) (.type "frozenset")=pure false:=by rcases hT with rfl|rfl<;>first|exact F.sub_list_frozenset|exact Ty.z5P
  have f3:(Value.type T == Value.type "dict")=false:=by rcases hT with rfl|rfl<;>decide
  have hh3:A.in1.in1.in1.handled=none:=by simp[hh]
  have sz:(s.heap.push (R7 led)).objs.size=s.heap.objs.size+1:=fE _ _
  have apart:p≠(s.heap.push (R7 led)).objs.size:=by rw[sz];exact c9 (dS hpS)
  have out:s.heap.objs.size∉[(s.heap.push (R7 led)).objs.size,p]:=by rw[sz,bD,bC];exact fun z=>z.elim (c9 (fI _)) (fP hpS)
  have z4a:∀x:Obj,z4J kd ((s.heap.push (R7 led)).push x) s.heap.objs.size (ks.take 0):=fun x=>by
   have z:=(setObjOf_fresh (knd:=kd) led).setOf (bB x at1) (by unfold scanBound;omega)
   have e:(fun k:κ=>decide (k∈ks.take 0))=fun _=>false:=by funext k;simp
   show Heap.SetOf kd _ _ (fun k=>decide (k∈ks.take 0)) _
   rw[e]
   exact z
  have ends:∀(x:Obj) (s':Shared),Moved [s.heap.objs.size,(s.heap.push (R7 led)).objs.size] (fun a b=>b=a) { s with heap:=(s.heap.push (R7 led)).push x } s'->z4J kd s'.heap s.heap.objs.size ks->
    ∃h' t,s'={ s with heap:=h',toks:=t }/\z4J kd h' s.heap.objs.size ks/\∀b u,b<s.heap.objs.size->s.heap.get? b=some u->h'.get? b=some u:=fun x s' mv sx=>by
   obtain⟨h',g',d',t',o'⟩:=s'
   obtain rfl:g'=s.gens:=mv.gens
   obtain rfl:d'=s.drawn:=mv.drawn
   obtain rfl:o'=s.os:=mv.os
   exact⟨h',t',rfl,sx,fun b u hb q=>mv.heap b u (by rw[sz,bD,bC];exact fun z=>z.elim (c9 hb) (c9 (dS hb))) (bB _ (bB _ q))⟩
  unfold Builtin.«set.__init__» noKeywords Builtin.Frozenset.updateFrom
  generalize hPI:pyIter=PI
  wp_walk
  subst hPI
  rcases hT with rfl|rfl
  ·have hl:(s.heap.push (R7 led)).IsList p its:=⟨_,hp1,rfl,c0,rfl⟩
   refine wpAny_pyIter_list hl (wpAny_bind (wpAny_runValue ?_))
   refine z7x (kd:=kd) ((Walks.list hh3 _ p apart its).toS) out lk vals few its.size 0 _ (gX _) ⟨⟨_,bJ _ rfl,rfl,rfl⟩,hl.push _⟩ (z4a _) fun s' mv sx=>?_
   exact wpAny_pure (wpAny_pure ⟨rfl,ends _ s' mv sx⟩)
  ·have hl:(s.heap.push (R7 led)).IsTuple p its:=⟨_,hp1,rfl,c0,rfl⟩
   refine wpAny_pyIter_tuple hl (wpAny_bind (wpAny_runValue ?_))
   refine z7x (kd:=kd) ((Walks.tuple hh3 _ p apart its).toS) out lk vals few its.size 0 _ (gX _) ⟨⟨_,bJ _ rfl,rfl,rfl⟩,hl.push _⟩ (z4a _) fun s' mv sx=>?_
   exact wpAny_pure (wpAny_pure ⟨rfl,ends _ s' mv sx⟩)
 ·rcases r with e|(_|_|_|u)
  all_goals try exact q2.elim
  all_goals try exact q2
  obtain⟨rfl,h',t,rfl,sx,kp⟩:=q2
  repeat (any_goals (first|assumption|wp_step))
  exact fin _ _ sx kp
end
section
variable{X:Cx}
def P5(P:Program)(w:World)(a:Addr)(zs:List Str):HO:=.ext fun h=>z4J (strKind P w) h a zs
theorem P5.new{P:Program}{w:World}{H:Hp}{h:Heap}{a:Addr}{zs:List Str}(x:z4J (strKind P w) h a zs):z1a P w H h a (P5 P w a zs):=by
 refine⟨x,?_,fun h1 h2 y e=>z4J.at y e⟩
 obtain⟨o,_,_,_,e,_⟩:=x
 exact⟨o,e⟩
theorem z9p:∀{zs:List Str}{us:List Value},Vals (zs.map V.str) us->∀(i:Nat) (v:Value),us[i]? = some v->∃(k:Str) (t:Tok),zs[i]? = some k/\v=.str k t
 | [],_,.nil,i,v,h=>by simp at h
 | z::zs,u::us,.cons r rs,0,v,h=>by
  simp at h
  subst h
  obtain⟨t,rfl⟩:=r
  exact⟨z,t,rfl,rfl⟩
 | z::zs,u::us,.cons r rs,i+1,v,h=>by
  simp at h
  obtain⟨k,t,a,b⟩:=z9p rs i v h
  exact⟨k,t,by simpa using a,b⟩
theorem z2H(hc:X.calm=true):z2O X (.type "set") (fun xs H Q=>∃p zs,xs=[.ref p]/\(SqL X.K H p (zs.map V.str)\/SqT X.K H p (zs.map V.str))/\zs.length≤1000/\∀l,H l=none->Q (.ref l) (upd H l (P5 X.prog X.w l zs))):=by
 intro pins s σ H xs us Q I r h
 obtain⟨p,zs,rfl,hq,hl,q⟩:=h
 obtain⟨u,rfl,rx⟩:=z4q r
 cases rx
 have go:∀(T:String) (o:Obj) (its:List Value) (c0:Nat),s.heap.get? p=some o->o.cls=.type T->o.data=.seq its.toArray c0->(T="list"\/T="tuple")->Vals (zs.map V.str) its->wpAny (model X.prog X.w) X.A (call (.type "set") [.ref p]) (EP X pins σ Q) X.xe s:=
  fun T o its c0 ho hcl hda hT rv=>by
   have ln:zs.length=its.length:=by have:=rv.length;rwa [bA] at this
   refine y2B (kd:=strKind X.prog X.w) (ks:=zs) (I.ok.hd hc) ho hcl hda hT (by simpa using ln) (fun i v hv=>?_) (by simp[scanBound];omega) fun h' t sx kp=>?_
   ·obtain⟨k,t,a,rfl⟩:=z9p rv i v (by simpa using hv)
    exact⟨k,a,strKind_is _ _ _ _,rfl⟩
   ·refine⟨.ref s.heap.objs.size,_,I.laid (a:=s.heap.objs.size) (o:=P5 X.prog X.w s.heap.objs.size zs) (h':=h') (t':=t) (fun b u q1=>kp b u (bK q1) q1) (bF _) (P5.new sx),rfl,q _ (I.hok.fresh (bF _))⟩
 rcases hq with hq|hq
 ·obtain⟨its,rv,pl,_⟩:=I.list hq
  obtain⟨o,ho,hcl,n,hda⟩:=pl.isList
  exact go "list" o its n ho hcl hda (.inl rfl) rv
 ·obtain⟨its,rv,pl,_⟩:=I.tuple hq
  obtain⟨o,ho,hcl,n,hda⟩:=pl
  exact go "tuple" o its n ho hcl hda (.inr rfl) rv
theorem z32:z2O X (.builtin "len") (fun xs H Q=>∃p zs,xs=[.ref p]/\H p=some (P5 X.prog X.w p zs)/\zs.length≤1000/\Q (.int (K2 zs).length) H):=by
 intro pins s σ H xs us Q I r h
 obtain⟨p,zs,rfl,hp,hl,q⟩:=h
 obtain⟨u,rfl,rx⟩:=z4q r
 cases rx
 obtain⟨⟨o,es,ep,t,e1,e2,e3,_,_,_,e4,e5⟩,_⟩:=(show z1a X.prog X.w H s.heap p (P5 X.prog X.w p zs) from I.hok p _ hp)
 have:=z9D zs
 exact PySem.call_len_set e1 e2 e3 e4 (by omega) ⟨.int (K2 zs).length,H,I.tok _,⟨s.toks+1,by rw[e5]⟩,q⟩
end
section
variable{κ:Type}[DecidableEq κ]
def N7(kvs:List (κ×V))(k:κ):Option V:=(kvs.find? fun kv=>decide (kv.1=k)).map (·.2)
def putK(kvs:List (κ×V))(k:κ)(v:V):List (κ×V):=
 if (kvs.any fun kv=>decide (kv.1=k))=true then kvs.map (fun kv=>if kv.1=k then (kv.1,v) else kv) else kvs++[(k,v)]
theorem z5H{p:κ×V}{r:List (κ×V)}{k:κ}(e:p.1=k):N7 (p::r) k=some p.2:=by simp[N7,dB,e]
theorem z5B{p:κ×V}{r:List (κ×V)}{k:κ}(e:¬p.1=k):N7 (p::r) k=N7 r k:=by simp[N7,dB,e]
theorem z5D(k:κ):∀kvs:List (κ×V),(kvs.any fun kv=>decide (kv.1=k))=(N7 kvs k).isSome
 | []=>rfl
 | p::r=>by
  rw[eU]
  by_cases e:p.1=k
  ·simp only[z5H e,decide_eq_true e,Bool.true_or,Option.isSome_some]
  ·rw[z5B e,decide_eq_false e,Bool.false_or];exact z5D k r
theorem z5Z(kvs:List (κ×V))(k:κ)(v:V):(putK kvs k v).length≤kvs.length+1:=by
 unfold putK
 split
 ·rw[bA];omega
 ·rw[bE,bT,List.length_nil];omega
theorem y2U{kvs:List (κ×V)}{k:κ}(v:V)(h:N7 kvs k=none):putK kvs k v=kvs++[(k,v)]:=by
 unfold putK
 rw[z5D,h]
 exact if_neg (by decide)
theorem O8.R3{o:Option V}{u:Option Value}(r:O8 o u):o.isSome=u.isSome:=by
 cases o with
 | none=>cases u with
  | none=>rfl
  | some _=>exact(show False from r).elim
 | some _=>cases u with
  | none=>exact(show False from r).elim
  | some _=>rfl
theorem KV.val{kvs:List (κ×V)}{vs:List (κ×Value)}(r:KV kvs vs)(k:κ):O8 (N7 kvs k) (valueAt vs k):=by
 unfold KV at r
 induction r with
 | nil=>exact True.intro
 | @cons p q ps qs h t ih=>
  obtain⟨h1,h2⟩:=h
  by_cases e:p.1=k
  ·have e':q.1=k:=h1.symm.trans e
   have b:valueAt (q::qs) k=some q.2:=by simp[valueAt,dB,e']
   rw[z5H e,b];exact h2
  ·have e':¬q.1=k:=fun z=>e (h1.trans z)
   have b:valueAt (q::qs) k=valueAt qs k:=by simp[valueAt,dB,e']
   rw[z5B e,b];exact ih
theorem KV.any{kvs:List (κ×V)}{vs:List (κ×Value)}(r:KV kvs vs)(k:κ):(kvs.any fun kv=>decide (kv.1=k))=vs.any fun kv=>decide (kv.1=k):=by
 unfold KV at r
 induction r with
 | nil=>rfl
 | cons h t ih=>rw[eU,eU,ih,h.1]
theorem KV.X3{kvs:List (κ×V)}{vs:List (κ×Value)}(r:KV kvs vs)(k:κ){y:V}{u:Value}(ry:RelV y u) :
  KV (kvs.map fun kv=>if kv.1=k then (kv.1,y) else kv) (vs.map fun kv=>if kv.1=k then (kv.1,u) else kv):=by
 unfold KV at r ⊢
 induction r with
 | nil=>exact .nil
 | @cons p q ps qs h t ih=>
  rw[cO,cO]
  refine .cons ?_ ih
  obtain⟨h1,h2⟩:=h
  by_cases e:p.1=k
  ·rw[if_pos e,if_pos (h1.symm.trans e)];exact⟨h1,ry⟩
  ·rw[if_neg e,if_neg (fun z=>e (h1.trans z))];exact⟨h1,h2⟩
theorem KV.put{kvs:List (κ×V)}{vs:List (κ×Value)}(r:KV kvs vs)(k:κ){y:V}{u:Value}(ry:RelV y u):KV (putK kvs k y) (stored vs k u):=by
 unfold putK stored
 rw[r.any k]
 by_cases e:(vs.any fun kv=>decide (kv.1=k))=true
 ·rw[if_pos e,if_pos e];exact r.X3 k ry
 ·rw[if_neg e,if_neg e];exact g8 r ⟨rfl,ry⟩
theorem KV.keys{kvs:List (κ×V)}{vs:List (κ×Value)}(r:KV kvs vs):kvs.map (·.1)=vs.map (·.1):=by
 unfold KV at r
 induction r with
 | nil=>rfl
 | cons h t ih=>rw[cO,cO,ih,h.1]
theorem KV.length{kvs:List (κ×V)}{vs:List (κ×Value)}(r:KV kvs vs):kvs.length=vs.length:=Paired.length r
end
theorem y23{P:Program}{w:World}{k:Key}{u:Value}(r:RelV (kV k) u):(z1d P w).is k u=true:=by
 cases k with
 | inl i=>obtain⟨t,e⟩:=(show ∃t,u=Value.int i t from r);subst e;exact z9l P w i t
 | inr x=>obtain⟨t,e⟩:=(show ∃t,u=Value.str x t from r);subst e;exact z8L P w x t
theorem z8B{P:Program}{w:World}:∀{ks:List Key}{us:List Value},Vals (ks.map kV) us->ItemsAre (z1d P w) ks us
 | [],_,r=>by rw[List.map_nil] at r;cases r;exact .nil
 | k::ks,_,r=>by
  rw[cO] at r
  cases r with
  | cons h t=>exact .cons (y23 h) (z8B t)
abbrev KT(H:Hp):List (List Key×V)->List (List Key×Addr×Value)->Prop:=Paired fun p q=>p.1=q.1/\H q.2.1=some (.tup (p.1.map kV))/\RelV p.2 q.2.2
theorem KT.val{H:Hp}{kvs:List (List Key×V)}{xs:List (List Key×Addr×Value)}(r:KT H kvs xs)(k:List Key):O8 (N7 kvs k) ((atKey xs k).map (·.2)):=by
 induction r with
 | nil=>exact True.intro
 | @cons p q ps qs h t ih=>
  obtain⟨h1,_,h2⟩:=h
  by_cases e:p.1=k
  ·have e':q.1=k:=h1.symm.trans e
   have b:atKey (q::qs) k=some q.2:=by simp[atKey,dB,e']
   rw[z5H e,b];exact h2
  ·have e':¬q.1=k:=fun z=>e (h1.trans z)
   have b:atKey (q::qs) k=atKey qs k:=by simp[atKey,dB,e']
   rw[z5B e,b];exact ih
theorem KT.X3{H:Hp}{kvs:List (List Key×V)}{xs:List (List Key×Addr×Value)}(r:KT H kvs xs)(k:List Key){y:V}{u:Value}(ry:RelV y u) :
  KT H (kvs.map fun kv=>if kv.1=k then (kv.1,y) else kv) (xs.map (putAt k u)):=by
 induction r with
 | nil=>exact .nil
 | @cons p q ps qs h t ih=>
  rw[cO,cO]
  refine .cons ?_ ih
  obtain⟨h1,h2,h3⟩:=h
  unfold putAt
  by_cases e:p.1=k
  ·rw[if_pos e,if_pos (h1.symm.trans e)];exact⟨h1,h2,ry⟩
  ·rw[if_neg e,if_neg (fun z=>e (h1.trans z))];exact⟨h1,h2,h3⟩
theorem KT.put{H:Hp}{kvs:List (List Key×V)}{xs:List (List Key×Addr×Value)}(r:KT H kvs xs)(k:List Key){b:Addr}{y:V}{u:Value}(hb:H b=some (.tup (k.map kV)))(ry:RelV y u) :
  KT H (putK kvs k y) (storedH xs k b u):=by
 have e:(kvs.any fun kv=>decide (kv.1=k))=(atKey xs k).isSome:=by
  rw[z5D,(r.val k).R3,Option.isSome_map]
 unfold putK storedH
 rw[e]
 by_cases q:(atKey xs k).isSome=true
 ·rw[if_pos q,if_pos q];exact r.X3 k ry
 ·rw[if_neg q,if_neg q];exact g8 r ⟨rfl,hb,ry⟩
theorem KT.keeps{H H':Hp}{kvs:List (List Key×V)}{xs:List (List Key×Addr×Value)}(r:KT H kvs xs)(ht:∀b ys,H b=some (.tup ys)->H' b=some (.tup ys)):KT H' kvs xs:=
 Paired.T9 r fun _ _ z=>⟨z.1,ht _ _ z.2.1,z.2.2⟩
section
variable{P:Program}{w:World}{H:Hp}{h:Heap}{a:Addr}
theorem y56{u:HO}(ok:HOk P w H h)(e:Rd H a u):z1a P w H h a u:=e.ok ok
theorem y2C{kvs:List (Key×V)}(ok:HOk P w H h)(e:Rd H a (.dK kvs)):kvs.length≤sizeLine/\(a == sysModules)=false/\∃vs,KV kvs vs/\h.DictOf (z1d P w) a vs:=
 show z1a P w H h a (.dK kvs) from y56 ok e
theorem y4T{kvs:List (Key×V)}(ok:HOk P w H h)(e:H a=some (.dK kvs)):kvs.length≤sizeLine/\(a == sysModules)=false/\∃vs,KV kvs vs/\h.DictOf (z1d P w) a vs:=y2C ok (.inl e)
theorem z9t{ks:List Key}(ok:HOk P w H h)(e:H a=some (.tup (ks.map kV))):(tupleKind (z1d P w)).is h ks a:=by
 obtain⟨_,its,r,o,h1,h2,⟨n,h3⟩,_⟩:=(show z1a P w H h a (.tup (ks.map kV)) from ok a _ e)
 exact⟨o,its.toArray,n,h1,h2,h3,by simpa using z8B r⟩
theorem y2p{kvs:List (List Key×V)}(ok:HOk P w H h)(e:Rd H a (.dT kvs)):kvs.length≤sizeLine/\(a == sysModules)=false/\
  ∃xs,KT H kvs xs/\h.DictOfH (tupleKind (z1d P w)) a xs:=by
 obtain⟨z,y,xs,r,o,es,ep,h1,h2,h3,h4,h5⟩:=(show z1a P w H h a (.dT kvs) from y56 ok e)
 refine⟨z,y,xs,r,o,es,ep,h1,h2,h3,h4,fun x hx=>?_,h5⟩
 have all:∀{l:List (List Key×V)}{m:List (List Key×Addr×Value)},KT H l m->∀x∈m,(tupleKind (z1d P w)).is h x.1 x.2.1:=by
  intro l m q
  induction q with
  | nil=>intro x hx;exact nomatch hx
  | @cons p q ps qs hq t ih=>
   intro x hx
   rcases bD.mp hx with e|hx
   ·subst e
    exact z9t ok (by rw[<- hq.1];exact hq.2.1)
   ·exact ih x hx
 exact all r x hx
theorem w1z{kvs:List (List Key×V)}(ok:HOk P w H h)(e:H a=some (.dT kvs)):kvs.length≤sizeLine/\(a == sysModules)=false/\
  ∃xs,KT H kvs xs/\h.DictOfH (tupleKind (z1d P w)) a xs:=y2p ok (.inl e)
end
def S5(H:Hp)(a:Addr)(y:V)(r:Option V):Prop:=
 (∃kvs k,Rd H a (.dK kvs)/\y=kV k/\r=N7 kvs k)\/∃kvs k b,Rd H a (.dT kvs)/\y=.ref b/\H b=some (.tup (k.map kV))/\r=N7 kvs k
def Y7(H:Hp)(a:Addr)(y v:V)(H':Hp):Prop:=
 (∃kvs k,H a=some (.dK kvs)/\y=kV k/\kvs.length<sizeLine/\H'=upd H a (.dK (putK kvs k v)))\/
 ∃kvs k b,H a=some (.dT kvs)/\y=.ref b/\H b=some (.tup (k.map kV))/\kvs.length<sizeLine/\H'=upd H a (.dT (putK kvs k v))
theorem S5.k{H:Hp}{a:Addr}{kvs:List (Key×V)}{k:Key}(e:H a=some (.dK kvs)):S5 H a (kV k) (N7 kvs k):=.inl ⟨kvs,k,.inl e,rfl,rfl⟩
theorem Y7.k{H:Hp}{a:Addr}{kvs:List (Key×V)}{k:Key}{v:V}(e:H a=some (.dK kvs))(hl:kvs.length<sizeLine):Y7 H a (kV k) v (upd H a (.dK (putK kvs k v))):=.inl ⟨kvs,k,e,rfl,hl,rfl⟩
section
variable{X:Cx}{pins:List (Addr×Obj)}{σ:St}{H:Hp}{s:Shared}{a:Addr}{y v:V}{u r:Value}{o:Option V}{A:Around}{E:Value->Shared->Prop}
theorem Inv.big(I:Inv X pins σ H s):sysModules<s.heap.objs.size:=by
 have h:mainGlobals<s.heap.objs.size:=(I.mod.glob.keeps I.bk).lt
 exact Nat.lt_trans (by decide) h
theorem y0Z{Q:Value->Shared->Prop}(hu:A.units+1<cLine)(I:Inv X pins σ H s)(g:S5 H a y (some v))(ry:RelV y u)(h:∀w' s',Inv X pins σ H s'->RelV v w'->Q w' s') :
  wpAny (model X.prog X.w) A (getItem (.ref a) u) Q E s:=by
 rcases g with ⟨kvs,k,e,ey,l⟩|⟨kvs,k,b,e,ey,eb,l⟩
 ·subst ey
  obtain⟨z,hd,vs,rel,dd⟩:=y2C I.hok e
  obtain⟨w',hw,rw'⟩:=O8.some_of (v:=v) (o:=valueAt vs k) (by rw[l];exact rel.val k)
  exact wpAny_getItem_of (y23 ry) dd.mapOf hw (h w' _ (I.tok _) rw')
 ·subst ey
  cases (show u=Value.ref b from ry)
  obtain⟨z,hd,xs,rel,dd⟩:=y2p I.hok e
  obtain⟨w',hw,rw'⟩:=O8.some_of (v:=v) (o:=(atKey xs k).map (·.2)) (by rw[l];exact rel.val k)
  obtain⟨p,hp,hp2⟩:=cS.mp hw
  refine wpAny_getItem_heap (tupleKind_room_in1 hu) (z9t I.hok eb) dd hp ?_
  rw[hp2]
  exact h w' _ (I.tok _) rw'
theorem d_in{Q:Value->Shared->Prop}(hu:A.units+1<cLine)(I:Inv X pins σ H s)(g:S5 H a y o)(ry:RelV y u)(h:∀s',Inv X pins σ H s'->Q (.bool o.isSome) s') :
  wpAny (model X.prog X.w) A (compareOp .In u (.ref a)) Q E s:=by
 rcases g with ⟨kvs,k,e,ey,l⟩|⟨kvs,k,b,e,ey,eb,l⟩
 ·subst ey
  obtain⟨z,hd,vs,rel,dd⟩:=y2C I.hok e
  refine wpAny_in_of (y23 ry) hd dd.mapOf ?_
  rw[<- (rel.val k).R3,<- l]
  exact h _ (I.tok _)
 ·subst ey
  cases (show u=Value.ref b from ry)
  obtain⟨z,hd,xs,rel,dd⟩:=y2p I.hok e
  refine wpAny_in_heap (tupleKind_room_in1 hu) (z9t I.hok eb) hd dd ?_
  have q:=(rel.val k).R3
  rw[Option.isSome_map] at q
  rw[<- q,<- l]
  exact h _ (I.tok _)
theorem y1H{h':Heap}{t':Nat}{ob:HO}(I:Inv X pins σ H s)(mu:Mut (H a))(hs:Heap.SameBut a s.heap h')(he:∃q,h'.get? a=some q)(new:z1a X.prog X.w (upd H a ob) h' a ob) :
  Inv X pins σ (upd H a ob) { s with heap:=h',toks:=t' }:=
 I.write (x:=a) (e:=a) mu (.inl rfl) (fun b q hb z=>(hs.2 b hb).trans z) he new
theorem y3l{P:Program}{w:World}{H':Hp}{h':Heap}{kvs:List (Key×V)}{vs:List (Key×Value)}(z:kvs.length≤sizeLine)(hd:(a == sysModules)=false)(rel:KV kvs vs)(dd:h'.DictOf (z1d P w) a vs) :
  z1a P w H' h' a (.dK kvs):=⟨z,hd,vs,rel,dd⟩
theorem y1U{H':Hp}{Q:Unit->Shared->Prop}(hu:A.units+1<cLine)(I:Inv X pins σ H s)(g:Y7 H a y v H')(ry:RelV y u)(rv:RelV v r)(h:∀s',Inv X pins σ H' s'->Q () s') :
  wpAny (model X.prog X.w) A (setItem (.ref a) u r) Q E s:=by
 rcases g with ⟨kvs,k,e,ey,l,eH⟩|⟨kvs,k,b,e,ey,eb,l,eH⟩
 ·subst ey eH
  obtain⟨z,hd,vs,rel,dd⟩:=y4T I.hok e
  have hz:vs.length≤sizeLine:=by rw[<- rel.length];exact z
  have hl:(putK kvs k v).length≤sizeLine:=by have:=z5Z kvs k v;omega
  refine wpAny_setItem_pairs (hsz:=hz) (y23 ry) dd fun h' dd' hs=>h _ ?_
  have he:∃q,h'.get? a=some q:=let ⟨q,_,_,hq,_⟩:=dd';⟨q,hq⟩
  exact y1H I (by rw[e];exact True.intro) hs he (y3l hl hd (rel.put k rv) dd')
 ·subst ey eH
  cases (show u=Value.ref b from ry)
  obtain⟨z,hd,xs,rel,dd⟩:=w1z I.hok e
  have hz:xs.length≤sizeLine:=by rw[<- Paired.length rel];exact z
  have hl:(putK kvs k v).length≤sizeLine:=by have:=z5Z kvs k v;omega
  refine wpAny_setItem_heap (hsz:=hz) (tupleKind_room_in1 hu) (z9t I.hok eb) dd fun h' dd' hs=>h _ ?_
  obtain⟨q,es,ep,hq,h2,h3,h4,_,h5⟩:=dd'
  refine y1H I (by rw[e];exact True.intro) hs ⟨q,hq⟩ ⟨hl,hd,_,(rel.put k eb rv).keeps fun c ys ec=>?_,q,es,ep,hq,h2,h3,h4,h5⟩
  rw[z0b (z54 ec e (fun z=>nomatch z))]
  exact ec
end
section
variable{X:Cx}{pins:List (Addr×Obj)}{σ:St}{H:Hp}{s:Shared}{a:Addr}{kvs:List (Key×V)}{k:Key}{u:Value}{A:Around}{E:Value->Shared->Prop}
end
def NoSl(i:Expr):Prop:=∀ov iv,subscripted i false ov iv=operate [ov,iv] (getItem ov iv)
theorem y3T{prog:Program}{w:World}{A:Around}{E:Value->Shared->Prop}{s:Shared}{env:Env}{value slice:Expr}{pos:Pos}{T id:String}{Q:Value->Shared->Prop}
  (hl:typeLookup (.type T) "__getitem__"=pure (some (.builtin id))) (hs:NoSl slice)
  (h:wpAny (model prog w) A (eval value env) (fun o s₁=>wpAny (model prog w) A (eval slice env) (fun i s₂=>s₂.TypeIs o T/\wpAny (model prog w) A (getItem o i) Q E s₂) E s₁) E s) :
  wpAny (model prog w) A (eval (.Subscript value slice pos) env) Q E s:=by
 refine Subscript_ (wpAny_mono h (fun o s₁ h₁=>wpAny_mono h₁ (fun i s₂ h₂=>?_) fun _ _ x=>x) fun _ _ x=>x)
 obtain⟨hT,h₂⟩:=h₂
 unfold subscriptTail
 refine wpAny_bind ?_
 rw[getitemInPython_of_ne hT.not_modules]
 refine wpAny_bind (wpAny_specialOf hT hl ?_)
 have fin:wpAny (model prog w) A (subscripted slice false o i) (fun r s₃=>wpAny (model prog w) A (letTemporaryGo value o r >>= fun _=>pure r) Q E s₃) E s₂:=by
  rw[hs o i]
  exact wpAny_operating (wpAny_mono h₂ (fun r s₃ h₃=>wpAny_bind (wpAny_letTemporaryGo (wpAny_pure h₃))) fun _ _ x=>x)
 first
  | exact wpAny_pure (wpAny_bind fin)
  | exact wpAny_bind (wpAny_pure (wpAny_bind fin))
  | exact wpAny_bind fin
theorem z91{X:Cx}{pins:List (Addr×Obj)}{σ:St}{H:Hp}{s:Shared}{a:Addr}{y:V}{o:Option V}(I:Inv X pins σ H s)(g:S5 H a y o):s.TypeIs (.ref a) "dict":=by
 rcases g with ⟨kvs,k,e,_,_⟩|⟨kvs,k,b,e,_,_,_⟩
 ·obtain⟨_,_,vs,_,dd⟩:=y2C I.hok e
  exact dd.typeIs
 ·obtain⟨_,_,xs,_,dd⟩:=y2p I.hok e
  exact dd.typeIs
def w0Z(td ty:TE):TE:=fun σ H Q=>td σ H fun x H1=>ty σ H1 fun y H2=>∃a v,x=.ref a/\S5 H2 a y (some v)/\Q v H2
def tDIn(ty td:TE):TE:=fun σ H Q=>ty σ H fun y H1=>td σ H1 fun x H2=>∃a o,x=.ref a/\S5 H2 a y o/\Q (.bl o.isSome) H2
def w1L(td ty tv:TE):TS:=fun D σ H=>tv σ H fun v H1=>td σ H1 fun x H2=>ty σ H2 fun y H3=>∃a H4,x=.ref a/\Y7 H3 a y v H4/\D.nx σ H4
section
variable{X:Cx}{o i e value:Expr}{pos pos' tpos:Pos}{td ty tv:TE}
theorem y49(hu:X.A.units+1<cLine)(ho:PE X o td)(hi:PE X i ty)(hs:NoSl i):PE X (.Subscript o i pos) (w0Z td ty):=by
 intro pins s σ H Q I h
 refine y3T PySem.F.slot_dict_getitem.lookup hs (thn (ho pins s σ H _ I h) fun u s1 ⟨x,H1,I1,rx,q1⟩=>thn (hi pins s1 σ H1 _ I1 q1) fun iv s2 hz=>?_)
 obtain⟨y,H2,I2,ry,a,v,ex,g,q2⟩:=hz
 subst ex
 obtain rfl:u=Value.ref a:=rx
 exact⟨z91 I2 g,y0Z hu I2 g ry fun w' s3 I3 rw'=>⟨v,H2,I3,rw',q2⟩⟩
theorem y3f(hu:X.A.units+1<cLine)(hi:PE X i ty)(ho:PE X o td):PC X .In i o (tDIn ty td):=by
 intro pins s σ H Q I h
 refine thn (hi pins s σ H _ I h) fun iv s1 ⟨y,H1,I1,ry,q1⟩=>thn (ho pins s1 σ H1 _ I1 q1) fun u s2 hz=>?_
 obtain⟨x,H2,I2,rx,a,ov,ex,g,q2⟩:=hz
 subst ex
 obtain rfl:u=Value.ref a:=rx
 exact d_in hu I2 g ry fun s3 I3=>⟨.bl ov.isSome,H2,I3,rfl,q2⟩
theorem y4c(hu:X.A.units+1<cLine)(ho:PE X o td)(hi:PE X i ty)(hv:PE X value tv)(hs:swapsWith value (some (.Subscript o i pos')) pos.line X.env=pure false) :
  PS X (.Assign [.Subscript o i pos'] value pos) (w1L td ty tv):=by
 intro pins s σ H D I h
 refine wpAny_Assign_Subscript (thn (hv pins s σ H _ I h) fun r s1 ⟨v,H1,I1,rv,q1⟩=>thn (ho pins s1 σ H1 _ I1 q1) fun u s2 ⟨x,H2,I2,rx,q2⟩=>thn (hi pins s2 σ H2 _ I2 q2) fun iv s3 hz=>?_) hs
 obtain⟨y,H3,I3,ry,a,H4,ex,g,q3⟩:=hz
 subst ex
 obtain rfl:u=Value.ref a:=rx
 exact y1U hu I3 g ry rv fun s4 I4=>⟨σ,H4,I4,q3⟩
end
theorem y2q{P:Program}{w:World}{H:Hp}(h:Heap)(hb:sysModules<h.objs.size):z1a P w H (h.push { cls:=.type "dict",data:=.dict #[] }) h.objs.size (.dK []):=
 ⟨cL _,beq_eq_false_iff_ne.mpr (cT (c9 hb)),[],.nil,Heap.DictOf.new h⟩
def y50:TE:=fun _ H Q=>∀p,H p=none->Q (.ref p) (upd H p (.dK []))
section
variable{X:Cx}{pos:Pos}
theorem y27:PE X (.Dict [] [] pos) y50:=fun pins s σ H Q I h=>
 wpAny_Dict_empty ⟨.ref s.heap.objs.size,_,I.laid (a:=s.heap.objs.size) (o:=.dK []) (t':=s.toks) (fun _ _ q=>bB _ q) (bF _) (y2q s.heap I.big),rfl,h _ (I.hok.fresh (bF _))⟩
end
section
variable{X:Cx}{pins:List (Addr×Obj)}{σ:St}{H:Hp}{s:Shared}{a:Addr}{y d:V}{u r:Value}{o:Option V}{A:Around}{E:Value->Shared->Prop}
end
section
variable{X:Cx}{o e f:Expr}{apos K9:Pos}{td ty tx:TE}
end
section
variable{X:Cx}{pins:List (Addr×Obj)}{σ:St}{H:Hp}{s:Shared}{a:Addr}{kvs:List (Key×V)}{A:Around}{E:Value->Shared->Prop}
end
section
variable{X:Cx}{pins:List (Addr×Obj)}{σ:St}{H:Hp}{s:Shared}{a:Addr}{y:V}{u:Value}{A:Around}{E:Value->Shared->Prop}
end
structure D5(P:Program)(w:World)(K:PySem.W.Frag)(mg:Str->Option Value)(base:Heap)(k:Nat)(C:Addr)(m:Str)(ps:List Str)(sp:Sp):Prop where
 cl:Cls K C
 ex:∃(f:Addr) (fd:FuncData),B0 P w K mg base CX0 k f fd ps sp/\z1c K fd ps []/\Meth K C m f
theorem D5.mk'{P:Program}{w:World}{K:PySem.W.Frag}{mg:Str->Option Value}{base:Heap}{k:Nat}{C:Addr}{m:Str}{ps:List Str}{sp:Sp}{f:Addr}{fd:FuncData}(c:Cls K C)(a:B0 P w K mg base CX0 k f fd ps sp)(b:z1c K fd ps [])(d:Meth K C m f) :
  D5 P w K mg base k C m ps sp:=⟨c,f,fd,a,b,d⟩
section
variable{X:Cx}{k:Nat}{C:Addr}{m x:Str}{ps:List Str}{sp:Sp}{o e:Expr}{es:List Expr}{ta:TE}{t:TA}{p pos apos:Pos}{pl:Sem Bool}
theorem z1v(G:D5 X.prog X.w X.K X.mg X.base k C m ps sp)(hr:D6 k X.A)(he:PE X o ta)(ha:PA X (e::es) t)
  (hst:starEach (e::es) X.env=(false,eval e X.env)::starEach es X.env:=by rfl) (hpl:(backTo pos (starEach es X.env)).any (·.1)=false:=by rfl)
  (ht:eval (.Call (.Attribute o m apos) (e::es) [] pos) X.env=(do
   let ov <- eval o X.env
   standAt apos.atName
   let (f,first) <- holding [ov] (getMethod ov m pl)
   callWith pos f first (backTo pos (starEach (e::es) X.env)) (backToKw pos (keywordEach [] X.env))):=by rfl) :
  PE X (.Call (.Attribute o m apos) (e::es) [] pos) (y11 C m sp [] E0 ta t):=by
 obtain⟨f,fd,a,b,d⟩:=G.ex
 exact y1Y he G.cl d a hr b .nil y0B ha hst hpl ht
theorem z31(G:D5 X.prog X.w X.K X.mg X.base k C m ps sp)(hr:D6 k X.A)(he:PE X o ta)
  (ht:eval (.Call (.Attribute o m apos) [] [] pos) X.env=(do
   let ov <- eval o X.env
   standAt apos.atName
   let (f,first) <- holding [ov] (getMethod ov m pl)
   callWith pos f first (backTo pos (starEach [] X.env)) (backToKw pos (keywordEach [] X.env))):=by rfl) :
  PE X (.Call (.Attribute o m apos) [] [] pos) (y11 C m sp [] E0 ta X0):=by
 obtain⟨f,fd,a,b,d⟩:=G.ex
 exact y2r he G.cl d a hr b .nil y0B ht
end
structure Mkr(P:Program)(w:World)(K:PySem.W.Frag)(mg:Str->Option Value)(base:Heap)(k:Nat)(C:Addr)(x:Str)(ps:List Str)(sp:Sp):Prop where
 ex:∃(f:Addr) (fd:FuncData),B0 P w K mg base CX0 k f fd ps sp/\z1c K fd ps []/\Mk K C f/\mg x=some (.ref C)
theorem Mkr.mk'{P:Program}{w:World}{K:PySem.W.Frag}{mg:Str->Option Value}{base:Heap}{k:Nat}{C:Addr}{x:Str}{ps:List Str}{sp:Sp}{f:Addr}{fd:FuncData}(a:B0 P w K mg base CX0 k f fd ps sp)(b:z1c K fd ps [])(c:Mk K C f)(d:mg x=some (.ref C)) :
  Mkr P w K mg base k C x ps sp:=⟨f,fd,a,b,c,d⟩
section
variable{X:Cx}{k:Nat}{C:Addr}{m x:Str}{ps:List Str}{sp:Sp}{o e:Expr}{es:List Expr}{ta:TE}{t:TA}{p pos apos:Pos}
theorem z9o(G:Mkr X.prog X.w X.K X.mg X.base k C x ps sp)(hr:D6 (k+1) X.A)(hg:Gl X x)(ha:PA X (e::es) t)
  (hdb:(x == ("__debug__":Str))=false:=by decide) (he:starEach (e::es) X.env=(false,eval e X.env)::starEach es X.env:=by rfl) (hpl:(backTo pos (starEach es X.env)).any (·.1)=false:=by rfl) :
  PE X (.Call (.Name x p) (e::es) [] pos) (y4D C sp [] E0 t):=by
 obtain⟨f,fd,a,b,c,d⟩:=G.ex
 exact y3U c a hr hg d b .nil y0B ha hdb he hpl
theorem z11{n:Int}(hg:Gl X x)(hm:∃t,X.mg x=some (.int n t))(hd:(x == ("__debug__":Str))=false:=by decide):PE X (.Name x pos) (tC (.int n)):=by
 obtain⟨t,e⟩:=hm
 exact y19 hg e ⟨t,rfl⟩ hd
end
def y3c(K:PySem.W.Frag):List V->Hp->VK->Prop:=fun xs H Q=>∃p ys,xs=[.ref p]/\((SqL K H p ys/\∀l,H l=none->Q (.ref l) (upd H l (.tup ys)))\/(SqT K H p ys/\Q (.ref p) H))
def y59(K:PySem.W.Frag):List V->Hp->VK->Prop:=fun xs H Q=>∃p ys,xs=[.ref p]/\(SqL K H p ys\/SqT K H p ys)/\∀l,H l=none->Q (.ref l) (upd H l (.lst ys))
section
variable{X:Cx}{K:PySem.W.Frag}
theorem z6B(h:X.K=K):z2O X (.type "tuple") (y3c K):=by
 subst h
 exact z0Q
theorem z7q(h:X.K=K):z2O X (.type "list") (y59 K):=by
 subst h
 exact z2A
end
section
variable{X:Cx}
end
end L2
namespace L2
open PySem
section
variable{prog:Program}{w:World}{A:Around}{E:Value->Shared->Prop}{s:Shared}{κ:Type}[DecidableEq κ]{kd:KeyKind prog w κ}{led:Bool}
end
end L2
namespace L2
open PySem PySem.Spec PyProof.Rows
namespace Ty
end Ty
section
variable{prog:Program}{w:World}{A:Around}{E:Value->Shared->Prop}{s:Shared}
end
namespace Ty
end Ty
section
variable{prog:Program}{w:World}{A:Around}{E:Value->Shared->Prop}{s:Shared}{κ:Type}[DecidableEq κ]{kd:KeyKind prog w κ}
end
section
variable{X:Cx}
end
theorem z25:Slot "reversed" "__next__" "reversed.__next__":=
 .of (owner:="reversed") (n:="__next__") (by rw[typeLookup_type,builtinLookup_eq_fast];kernel_rfl) (by decide +kernel) (by decide +kernel) (by decide +kernel) (by first|exact .inl (by decide +kernel)|exact .inr (by decide +kernel)) (by rw[isSubtype_type];kernel_rfl)
theorem z5d:Slot "reversed" "__iter__" "reversed.__iter__":=
 .of (owner:="reversed") (n:="__iter__") (by rw[typeLookup_type,builtinLookup_eq_fast];kernel_rfl) (by decide +kernel) (by decide +kernel) (by decide +kernel) (by first|exact .inl (by decide +kernel)|exact .inr (by decide +kernel)) (by rw[isSubtype_type];kernel_rfl)
theorem z7X:Slot "reversed" "__init__" "object.__init__":=
 .of (owner:="object") (n:="__init__") (by rw[typeLookup_type,builtinLookup_eq_fast];kernel_rfl) (by decide +kernel) (by decide +kernel) (by decide +kernel) (by first|exact .inl (by decide +kernel)|exact .inr (by decide +kernel)) (by rw[isSubtype_type];kernel_rfl)
theorem z4m:entryFor table "reversed.__next__"=some Builtin.«reversed.__next__»:=entryFor_of_tree (by kernel_rfl)
theorem z7k:entryFor table "reversed.__iter__"=some Builtin.«dict_keyiterator.__iter__»:=entryFor_alias (id':="dict_keyiterator.__iter__") (by kernel_rfl) (by first|rfl|decide +kernel|(unfold String.splitOn;simp +decide [String.splitOnAux])) (by decide +kernel) (by kernel_rfl)
theorem z5u(a:Value):argsOk "reversed.__next__" ⟨[a],[]⟩:=by unfold argsOk;kernel_rfl
theorem z84(a:Value):argsOk "reversed.__iter__" ⟨[a],[]⟩:=by unfold argsOk;kernel_rfl
theorem z5U:TypeCalled "reversed" "reversed.__new__" "object.__init__":=
 ⟨by decide +kernel,by decide +kernel,⟨_,_,PySem.F.mro_reversed⟩,PySem.F.made_reversed,by decide +kernel,PySem.F.sub_reversed_self,z7X⟩
theorem z7r:typeLookup (.type "tuple") "__reversed__"=pure none:=by rw[typeLookup_type,builtinLookup_eq_fast];kernel_rfl
theorem y05:isSubtype (.type "tuple") (.type "dict")=pure false:=by rw[isSubtype_type];kernel_rfl
abbrev z7N(t:Addr)(i:Int):Obj:={ cls:=.type "reversed",dict:=none,data:=.fields #[.ref t,rawInt i],slots:=#[] }
section
variable{prog:Program}{w:World}{A:Around}{E:Value->Shared->Prop}{s:Shared}
theorem z8Z{t:Addr}{items:Array Value}{Q:Value->Shared->Prop}(ht:IsTup s.heap t items)(hf:(items.size:Int)<2^63)(h:∀tk,Q (.ref s.heap.objs.size) { s with heap:=s.heap.push (z7N t ((items.size:Int)-1)),toks:=tk }) :
  codeAny (model prog w) A (.call (.builtin "reversed.__new__") ⟨[.type "reversed",.ref t],[]⟩) (wants Q E) s:=by
 refine codeAny_of_tree ?_
 show wpAny _ A.in1 (do checkBuiltinCall "reversed.__new__" ⟨[.type "reversed",.ref t],[]⟩;again (.builtin "reversed.__new__" ⟨[.type "reversed",.ref t],[]⟩)) _ _ s
 refine wpAny_bind (wpAny_of_eq (PySem.F.newCall_reversed_1 _) (wpAny_pure ⟨plainId_quiet PySem.F.plain_reversed_new _,codeAny_builtin PySem.F.entry_reversed_new ?_⟩))
 rw[cK PySem.F.plain_reversed_new _]
 unfold Builtin.«reversed.__new__»
 refine wpAny_bind (wpAny_of_eq (newClass_reversed _) ?_)
 try dsimp only
 refine wpAny_bind (wpAny_of_eq (a:=()) (by first|rfl|kernel_rfl) ?_)
 refine wpAny_bind (wpAny_of_eq (a:=()) (by first|rfl|kernel_rfl) ?_)
 try dsimp only
 refine wpAny_bind (wpAny_specialOf ht.typeIs z7r ?_)
 try dsimp only
 refine wpAny_bind ?_
 show wpAny _ _ (isInstance (.ref t) (.type "dict") >>= fun b=>_) _ _ _
 refine wpAny_bind (wpAny_isInstance (T:="tuple") ht.typeIs y05 ?_)
 rw[if_neg (by decide)]
 refine wpAny_bind (wpAny_specialOf ht.typeIs slot_tuple_getitem.lookup ?_)
 dsimp only
 rw[if_pos (by decide +kernel)]
 refine wpAny_pure ?_
 rw[if_neg (by decide)]
 refine wpAny_bind (len_tuple ht hf ?_)
 refine wpAny_bind (wpAny_of_eq (a:=some (items.size:Int)) rfl ?_)
 dsimp only
 refine wpAny_bind ?_
 show wpAny _ _ (newObj (.type "reversed") (.fields #[.ref t,rawInt ((items.size:Int)-1)])) _ _ _
 exact wpAny_newObj_type (wpAny_pure (h _)) (by size_fits)
theorem y3F{t:Addr}{items:Array Value}{Q:Value->Shared->Prop}(ht:IsTup s.heap t items)(hf:(items.size:Int)<2^63)(h:∀tk,Q (.ref s.heap.objs.size) { s with heap:=s.heap.push (z7N t ((items.size:Int)-1)),toks:=tk }) :
  wpAny (model prog w) A (call (.type "reversed") [.ref t]) Q E s:=by
 refine callType_codes (Q₁:=fun obj s₁=>obj=.ref s.heap.objs.size/\∃tk,s₁={ s with heap:=s.heap.push (z7N t ((items.size:Int)-1)),toks:=tk }) z5U (PySem.F.typeCall_reversed_1 _) F.entry_object_init (z8Z ht hf fun tk=>⟨rfl,tk,rfl⟩) ?_
 rintro obj s₁ ⟨rfl,tk,rfl⟩
 have ty:Shared.TypeIs { s with heap:=s.heap.push (z7N t ((items.size:Int)-1)),toks:=tk } (.ref s.heap.objs.size) "reversed":=⟨_,bJ _ rfl,rfl⟩
 exact⟨ty,F.args_object_init_2 _ _,object_init_meets z5U.init.lookup z5U.made (by decide) _ _ _ _ _ ⟨ty,rfl,h tk⟩⟩
theorem y3E{I t:Addr}{i:Nat}{items:Array Value}{x:Value}{Q:Option Value->Shared->Prop}(hI:s.heap.get? I=some (z7N t (i:Int)))(ht:IsTup s.heap t items)(hx:items[i]? = some x)(hz:(items.size:Int)<2^63)
  (hQ:∀h' tk,h'.get? I=some (z7N t ((i:Int)-1))->Heap.SameBut I s.heap h'->Q (some x) { s with heap:=h',toks:=tk }):wpAny (model prog w) A (pyNext (.ref I)) Q E s:=by
 have ty:s.TypeIs (.ref I) "reversed":=⟨_,hI,rfl⟩
 have hi:i<items.size:=(Array.getElem?_eq_some_iff.mp hx).1
 unfold pyNext
 refine wpAny_bind (wpAny_attempt (wpAny_callSpecial?_slot (name:=Str.ofString "__next__") ty z25
  (wpAny_call_entry z25 ty z4m ?_ (z5u _))))
 unfold Builtin.«reversed.__next__»
 refine wpAny_bind (wpAny_of_eq (a:=(Value.ref I,[])) rfl ?_)
 try dsimp only
 refine wpAny_bind (wpAny_field hI rfl (x:=.ref t) rfl ?_)
 refine wpAny_bind (wpAny_field hI rfl (x:=rawInt (i:Int)) rfl ?_)
 show wpAny _ _ (if (i:Int)<0 then _ else _) _ _ s
 rw[if_neg (by omega)]
 refine wpAny_bind (wpAny_specialOf ht.typeIs slot_tuple_getitem.lookup ?_)
 rw[if_neg (by decide)]
 refine wpAny_bind (wpAny_mkInt ?_)
 refine wpAny_bind (wpAny_attempt (getItem_tuple (j:=i) (x:=x) ht (by omega) (by omega) ?_ hx ?_))
 ·exact seqIndex_of (by omega) (by omega)
 dsimp only
 refine wpAny_bind (wpAny_field hI rfl (x:=rawInt (i:Int)) rfl ?_)
 show wpAny _ _ (setField (.ref I) 1 (rawInt ((i:Int)-1)) >>= _) _ _ _
 refine wpAny_bind (wpAny_setField hI rfl (by simp) ?_)
 refine wpAny_pure ⟨x,rfl,wpAny_pure (hQ _ _ ?_ (gO ..))⟩
 exact dG _ hI rfl
theorem y51{I t:Addr}{Q:Option Value->Shared->Prop}(hh:A.handled=none)(hI:s.heap.get? I=some (z7N t (-1)))
  (hQ:∀h',Heap.ExtBut I s.heap h'->Q none { s with heap:=h' }):wpAny (model prog w) A (pyNext (.ref I)) Q E s:=by
 have ty:s.TypeIs (.ref I) "reversed":=⟨_,hI,rfl⟩
 unfold pyNext
 refine wpAny_bind (wpAny_attempt (wpAny_callSpecial?_slot (name:=Str.ofString "__next__") ty z25
  (wpAny_call_entry z25 ty z4m ?_ (z5u _))))
 unfold Builtin.«reversed.__next__»
 refine wpAny_bind (wpAny_of_eq (a:=(Value.ref I,[])) rfl ?_)
 try dsimp only
 refine wpAny_bind (wpAny_field hI rfl (x:=.ref t) rfl ?_)
 refine wpAny_bind (wpAny_field hI rfl (x:=rawInt (-1)) rfl ?_)
 show wpAny _ _ (if (-1:Int)<0 then _ else _) _ _ s
 rw[if_pos (by decide)]
 refine wpAny_bind (wpAny_rule ?_)
 refine wpAny_bind ?_
 show wpAny _ _ (setField (.ref I) 1 (rawInt (-1)) >>= fun _=>setField (.ref I) 0 .none) _ _ _
 refine wpAny_bind (wpAny_setField hI rfl (by simp) ?_)
 have g1:=dG (Obj.mapFields (·.setIfInBounds 1 (rawInt (-1)))) hI rfl
 have b1:Heap.SameBut I s.heap (s.heap.update I (Obj.mapFields (·.setIfInBounds 1 (rawInt (-1))))):=gO ..
 refine wpAny_setField (vs:=#[.ref t,rawInt (-1)]) g1 rfl (by simp) ?_
 have b2:Heap.SameBut I (s.heap.update I (Obj.mapFields (·.setIfInBounds 1 (rawInt (-1))))) ((s.heap.update I (Obj.mapFields (·.setIfInBounds 1 (rawInt (-1))))).update I (Obj.mapFields (·.setIfInBounds 0 .none))):=gO ..
 refine wpAny_bind ?_
 unfold Builtin.SmallTypes.stopIteration
 refine wpAny_bind ?_
 simp only[newExc,newTuple]
 refine wpAny_bind (wpAny_newObj_type ?_ (by size_fits))
 refine wpAny_bind (m:=firstArgMember _ _) (wpAny_of_eq (a:=Value.none) (by first|rfl|(simp only[firstArgMember];rfl)) (wpAny_newObj_type ?_ (by size_fits)))
 simp only[raiseNew]
 refine wpAny_bind (wpAny_handled ?_)
 rw[show A.in1.handled=none from hh]
 refine wpAny_bind (wpAny_pure (wpAny_throw ?_))
 refine wpAny_bind (wpAny_isInstance (T:="StopIteration") (b:=true) ⟨_,bJ _ rfl,rfl⟩ isSubtype_stop ?_)
 exact wpAny_pure (hQ _ fun b o hb e=>bB _ (bB _ ((b2.2 b hb).trans ((b1.2 b hb).trans e))))
theorem y0R{I t:Addr}{i:Int}{Q:Value->Shared->Prop}(hI:s.heap.get? I=some (z7N t i))(h:Q (.ref I) s):wpAny (model prog w) A (pyIter (.ref I)) Q E s:=by
 have ty:s.TypeIs (.ref I) "reversed":=⟨_,hI,rfl⟩
 refine wpAny_pyIter_slot ty z5d (wpAny_call_entry z5d ty z7k ?_ (z84 _))
 show wpAny _ _ (ret (.ref I)) _ _ s
 exact wpAny_pure ⟨_,rfl,"reversed",_,ty,z25.lookup,h⟩
end
def Itv(K:PySem.W.Frag)(a:Addr)(n:Nat):It:=
 ⟨fun i H=>i<n/\∃xs,SqT K H a xs/\xs.length=n,fun i H x H'=>H'=H/\∀xs,SqT K H a xs->xs.reverse[i]? = some x,fun i H=>n≤i⟩
theorem y2o{P:Program}{w:World}{K:PySem.W.Frag}{tg:Expr}(a it:Addr)(n:Nat):Turn P w K tg (Itv K a n) [it] it (fun i h=>i≤n/\h.get? it=some (z7N a ((n:Int)-1-(i:Int)))) where
 mem:=by simp
 obj:=fun i h st b hb=>by
  have e:b=it:=by simpa using hb
  subst e
  exact⟨_,st.2,fun v z=>by
   have z':Data.fields _=Data.cell v:=z
   cases z'⟩
 keep:=fun i h h' st k=>⟨st.1,k it (by simp) _ st.2⟩
 item:=by
  intro X hP hw hK hc i pins s σ H E I hf st hg
  subst hP hw hK
  obtain⟨hi,xs,hq,hn⟩:=hg
  obtain⟨its,rv,p,hz⟩:=I.tuple hq
  have ln:xs.length=its.length:=rv.length
  have hk:n-1-i<xs.length:=by omega
  obtain⟨u,hu,ru⟩:=rv.get (bG hk)
  obtain⟨f0,f1,f2,f3,f4,f5⟩:=hf it (by simp)
  have e1:(n:Int)-1-(i:Int)=((n-1-i:Nat):Int):=by omega
  have st1:=st.2
  rw[e1] at st1
  refine y3E st1 (show IsTup s.heap a its.toArray from p) (x:=u) (by simpa using hu) ?_ fun h' tk st' sb=>?_
  ·have:its.toArray.size=xs.length:=by simp[ln]
   rw[this]
   have:=eX hz z4O
   omega
  have I1:Inv X pins σ H { s with heap:=h',toks:=tk }:=I.turned (t':=tk) (fun b o hb e=>(sb.2 b hb).trans e) f0 f1 f3 f4 f5
  refine⟨u,rfl,y0u (s:={ s with heap:=h',toks:=tk }) st' rfl rfl (by decide) ⟨xs[n-1-i],H,I1,ru,⟨rfl,fun ys hy=>?_⟩,⟨hi,?_⟩,fun b hb=>(hf b hb).1⟩⟩
  ·rw[I.T1 hy hq,List.getElem?_reverse (by omega),bG (by omega)]
   congr 2
   omega
  ·have e2:(n:Int)-1-((i+1:Nat):Int)=((n-1-i:Nat):Int)-1:=by omega
   rw[e2]
   exact st'
 done:=by
  intro X hP hw hK hc i pins s σ H E I hf st hg
  subst hP hw hK
  obtain⟨f0,f1,f2,f3,f4,f5⟩:=hf it (by simp)
  have hg':n≤i:=hg
  have st1:=st.2
  rw[show(n:Int)-1-(i:Int)=-1 by have:=st.1;omega] at st1
  exact y51 (I.ok.hd hc) st1 fun h' eb=>⟨rfl,I.turned (t':=s.toks) (fun b o hb e=>eb b o hb e) f0 f1 f3 f4 f5⟩
 self:=fun _ _ _ _ _ st h=>y0R st.2 h
section
variable{X:Cx}{tg:Expr}
def iRev(K:PySem.W.Frag)(ta:TA):TI:=fun σ H R=>ta σ H fun vs H1=>∃a xs,vs=[.ref a]/\SqT K H1 a xs/\R (Itv K a xs.length) H1
theorem y4A{e:Expr}{ta:TA}{p pos:Pos}(hg:Gl X "reversed")(hm:X.mg "reversed"=none)(ha:PA X [e] ta)(hs:starEach [e] X.env=[(false,eval e X.env)]:=by rfl):PI X tg (.Call (.Name "reversed" p) [e] [] pos) (iRev X.K ta):=by
 intro pins s σ H R I h
 refine Call_ (z5i I hg hm boot_reversed (dA (thn (ha pos pins s σ H _ I h) fun us s1 ⟨vs,H1,I1,r1,q1⟩=>?_) hs rfl))
 obtain⟨a,xs,e,hq,q⟩:=q1
 subst e
 cases r1 with
 | cons r rr=>
  cases rr
  cases r
  obtain⟨its,rv,p,hz⟩:=I1.tuple hq
  have ln:(its.toArray.size:Int)=xs.length:=by simp[rv.length]
  refine y3F (show IsTup s1.heap a its.toArray from p) ?_ fun tk=>?_
  ·rw[ln]
   have:=eX hz z4O
   omega
  refine y0R (bJ _ rfl) ?_
  refine⟨s1.heap.objs.size,[s1.heap.objs.size],_,_,H1,rfl,I1.kept (t':=tk) fun b o e=>bB _ e,y2o a _ xs.length,⟨cL _,?_⟩,fun b hb=>?_,q⟩
  ·rw[show(xs.length:Int)-1-((0:Nat):Int)=(its.toArray.size:Int)-1 by rw[ln];simp]
   exact bJ _ rfl
  ·have e:b=s1.heap.objs.size:=by simpa using hb
   subst e
   exact I1.T7 (bF _) (I1.hok.fresh (bF _))
end
theorem y2W{K:PySem.W.Frag}{a:Addr}{xs:List V}{g:TG}{tc:TT}{te:TE}{σ0:St}{H1:Hp}{F:List V->Hp->Prop}(Pv:Nat->List V->Hp->Prop)(h0:Pv 0 [] H1)
  (hl:∀i ys H,i≤xs.length->Pv i ys H->SqT K H a xs/\ys.length<sizeLine)
  (hs:∀i x ys H,xs.reverse[i]? = some x->Pv i ys H->z1M g tc te σ0 x H ys (Pv (i+1))) (hd:∀ys H,Pv xs.length ys H->F ys H):y0q (Itv K a xs.length) g tc te σ0 H1 F:=by
 refine⟨fun i m ys H=>m=xs.length-i/\i≤xs.length/\Pv i ys H,⟨xs.length,by simp,cL _,h0⟩,?_⟩
 rintro i m ys H ⟨rfl,hi,p⟩
 obtain⟨q,z⟩:=hl i ys H hi p
 by_cases hlt:i<xs.length
 ·refine .inr ⟨⟨hlt,xs,q,rfl⟩,z,Pv (i+1),fun zs H' p'=>⟨xs.length-(i+1),by omega,rfl,hlt,p'⟩,fun x H' y=>?_⟩
  obtain⟨e,y⟩:=y
  subst e
  exact hs i x ys _ (y xs q) p
 ·have e:i=xs.length:=by omega
  subst e
  exact .inl ⟨bF _,hd ys H p⟩
theorem len0{us:List Value}{p:List Value->Prop}(h:us.length=0)(k:p []):p us:=by rw[dL h];exact k
theorem X1{us:List Value}{p:List Value->Prop}(h:us.length=1)(k:∀a,p [a]):p us:=by
 obtain⟨a,r,rfl⟩:=cM h
 exact len0 (p:=fun r=>p (a::r)) (Nat.succ.inj h) (k a)
theorem w0k{us:List Value}{p:List Value->Prop}(h:us.length=2)(k:∀a b,p [a,b]):p us:=by
 obtain⟨a,r,rfl⟩:=cM h
 exact X1 (p:=fun r=>p (a::r)) (Nat.succ.inj h) (k a)
theorem w0n{us:List Value}{p:List Value->Prop}(h:us.length=3)(k:∀a b c,p [a,b,c]):p us:=by
 obtain⟨a,r,rfl⟩:=cM h
 exact w0k (p:=fun r=>p (a::r)) (Nat.succ.inj h) (k a)
theorem len4{us:List Value}{p:List Value->Prop}(h:us.length=4)(k:∀a b c d,p [a,b,c,d]):p us:=by
 obtain⟨a,r,rfl⟩:=cM h
 exact w0n (p:=fun r=>p (a::r)) (Nat.succ.inj h) (k a)
theorem len5{us:List Value}{p:List Value->Prop}(h:us.length=5)(k:∀a b c d e,p [a,b,c,d,e]):p us:=by
 obtain⟨a,r,rfl⟩:=cM h
 exact len4 (p:=fun r=>p (a::r)) (Nat.succ.inj h) (k a)
theorem len6{us:List Value}{p:List Value->Prop}(h:us.length=6)(k:∀a b c d e f,p [a,b,c,d,e,f]):p us:=by
 obtain⟨a,r,rfl⟩:=cM h
 exact len5 (p:=fun r=>p (a::r)) (Nat.succ.inj h) (k a)
theorem Cal.mono{P:Program}{w:World}{K:PySem.W.Frag}{mg:Str->Option Value}{base:Heap}{j k:Nat}{x:Str}{ps:List Str}{sp:Sp}(G:Cal P w K mg base j x ps sp)(h:j≤k):Cal P w K mg base k x ps sp:=by
 obtain⟨f,fd,a,b,c,d⟩:=G.ex
 exact⟨f,fd,a.mono h,b,c,d⟩
theorem D5.mono{P:Program}{w:World}{K:PySem.W.Frag}{mg:Str->Option Value}{base:Heap}{j k:Nat}{C:Addr}{m:Str}{ps:List Str}{sp:Sp}(G:D5 P w K mg base j C m ps sp)(h:j≤k):D5 P w K mg base k C m ps sp:=by
 obtain⟨f,fd,a,b,c⟩:=G.ex
 exact⟨G.cl,f,fd,a.mono h,b,c⟩
theorem Mkr.mono{P:Program}{w:World}{K:PySem.W.Frag}{mg:Str->Option Value}{base:Heap}{j k:Nat}{C:Addr}{x:Str}{ps:List Str}{sp:Sp}(G:Mkr P w K mg base j C x ps sp)(h:j≤k):Mkr P w K mg base k C x ps sp:=by
 obtain⟨f,fd,a,b,c,d⟩:=G.ex
 exact⟨f,fd,a.mono h,b,c,d⟩
theorem z2i{X:Cx}{x z:Str}{pos:Pos}(hg:Gl X x)(hm:∃t,X.mg x=some (.str z t))(hd:(x == ("__debug__":Str))=false:=by decide):PE X (.Name x pos) (tC (.str z)):=by
 obtain⟨t,e⟩:=hm
 exact y19 hg e ⟨t,rfl⟩ hd
section
variable{X:Cx}
theorem z5p{P:Program}{w:World}:∀{ns:List Int}{vs:List Value},vs.length=ns.length->(∀(j:Nat) (v:Value),vs[j]? = some v->∃k:Key,(ns.map Sum.inl)[j]? = some k/\(z1d P w).is k v=true)->IntsAre vs ns
 | [],[],_,_=>.nil
 | [],_::_,h,_=>by cases h
 | _::_,[],h,_=>by cases h
 | n::ns,v::vs,h,q=>by
  obtain⟨k,e,hk⟩:=q 0 v rfl
  cases e
  rcases z17 (show z8M (Sum.inl n) v=true from hk) with ⟨i,t,e1,rfl⟩|⟨x,t,e1,_⟩
  ·cases e1
   exact .cons n t (z5p (Nat.succ.inj h) fun j u hu=>q (j+1) u hu)
  ·cases e1
theorem z82{prog:Program}{w:World}{A:Around}{E:Value->Shared->Prop}{s:Shared}{R:List Value->Shared->Prop}{T:String}{r d:Addr}{n:Nat}{P:Nat->Value->Prop}{OK:Heap->Prop}(K:PySem.W.KdlSrc prog w T r d n P OK)(hh:A.handled=none)(hok:OK s.heap)(hn:n≤sizeLine)
  (fin:∀(h':Heap) (tk:Nat) (acc:Array Value),(∀b o,s.heap.get? b=some o->h'.get? b=some o)->s.heap.objs.size<h'.objs.size->ItemsOf P acc n->R acc.toList { s with heap:=h',toks:=tk }):wpAny (model prog w) A (collect (.ref r)) R E s:=by
 have hlt:=K.there _ hok
 unfold collect
 refine wpAny_bind (wpAny_runValue (codeAny_builtin entry_proto_collect' ?_))
 rw[cK PySem.F.plain_proto_collect _]
 refine(show wpAny _ A.in1 (newList [] >>= fun l=>again (.builtin "list.__iadd__" ⟨[l,.ref r],[]⟩)) _ _ s from wpAny_bind (wpAny_newObj_type (wpAny_pure ⟨plainId_quiet eT _,codeAny_builtin entry_list_iadd' ?_⟩)))
 rw[cK eT _]
 have g1:(s.heap.push { cls:=.type "list",data:=.seq ([]:List Value).toArray }).get? s.heap.objs.size=some { cls:=.type "list",data:=.seq #[] }:=bJ _ rfl
 have ext:=PySem.W.kdl_extend (A:=A) (s:={ s with heap:=s.heap.push { cls:=.type "list",data:=.seq ([]:List Value).toArray } })
  (R:=fun(q:Result) (s':Shared)=>∃(h':Heap) (tk:Nat) (acc:Array Value) (c':Nat),q=.ok (.ret (.ref s.heap.objs.size))/\s'={ s with heap:=h',toks:=tk }/\(∀b o,s.heap.get? b=some o->h'.get? b=some o)/\
   h'.get? s.heap.objs.size=some { cls:=.type "list",dict:=none,data:=.seq acc c',slots:=#[] }/\ItemsOf P acc n)
  K hh (K.keep _ _ hok fun b _ o e=>bB _ e) s.heap.objs.size (fP hlt.1) (fP hlt.2) (.ref s.heap.objs.size) 0 g1
  (fun h' tk acc c' k hS' so=>⟨h',tk,acc,c',rfl,rfl,fun b o e=>k b o (c9 (bK e)) (bB _ e),hS',so⟩) hn
 refine(show wpAny _ A.in1 (Builtin.List.listExtendWith (.ref s.heap.objs.size) (.ref r) (.ref s.heap.objs.size)) _ _ _ from wpAny_mono ext (fun f s' x=>?_) fun e s' x=>?_)
 ·cases f with
  | done f=>
   obtain⟨h',tk,acc,c',e,rfl,k,hS',so⟩:=x
   cases e
   exact(show wpAny _ A (load s.heap.objs.size >>= _) _ _ _ from wpAny_bind (wpAny_load hS' (wpAny_pure (fin h' tk _ k (bK hS') so))))
  | again c1=>
   refine⟨x.1,codeAny_mono x.2 fun q s2 y=>?_⟩
   obtain⟨h',tk,acc,c',rfl,rfl,k,hS',so⟩:=y
   exact(show wpAny _ A (load s.heap.objs.size >>= _) _ _ _ from wpAny_bind (wpAny_load hS' (wpAny_pure (fin h' tk _ k (bK hS') so))))
 ·obtain⟨_,_,_,_,e',_⟩:=x
  cases e'
theorem z5A(hc:X.calm=true):z2O X (.builtin "sorted") (fun xs H Q=>∃(p:Addr) (kvs:List (Key×V)) (ns:List Int),xs=[.ref p]/\H p=some (.dK kvs)/\kvs.map (·.1)=ns.map Sum.inl/\ns.length<64/\
  ∀(l:Addr) (ms:List Int),H l=none->ms.Perm ns->ms.Pairwise (·≤·)->Q (.ref l) (upd H l (.lst (ms.map V.int)))):=by
 intro pins s σ H xs us Q I r h
 obtain⟨p,kvs,ns,rfl,hp,hk,h64,q⟩:=h
 obtain⟨u,rfl,rx⟩:=z4q r
 cases rx
 obtain⟨_,lo,kv,rk,dd⟩:=y4T I.hok hp
 obtain⟨ep,hat⟩:=dd.dictAt
 have lk:kv.length=ns.length:=by
  have e1:=rk.length
  have e2:=congrArg List.length hk
  rw[bA,bA] at e2
  omega
 refine Calls.call_function_entry kind_sorted plain_sorted entry_sorted (args_sorted1 _) ?_
 unfold Builtin.«sorted»
 refine wpAny_bind (m:=checkCount "sorted" 1 1 _) (wpAny_pure ?_)
 refine wpAny_bind (z82 (A:=X.A.in1) (PySem.W.kdl_dict (knd:=z1d X.prog X.w) (kvs:=kv) (ep:=ep) lo) (I.ok.hd hc) hat (by rw[sizeLine_eq];omega) fun h' tk acc kp slt items=>?_)
 have hi:IntsAre acc.toList ns:=z5p (P:=X.prog) (w:=X.w) (by rw[eM,items.1,lk]) fun j v hv=>by
  obtain⟨k,x,e,ik⟩:=items.2 j v (by rw[<- Array.getElem?_toList];exact hv)
  refine⟨k,?_,ik⟩
  rw[<- hk,rk.keys,bV,e]
  rfl
 have lv:acc.toList.length<64:=by rw[IntsAre.length hi];exact h64
 refine wpAny_bind (wpAny_newList ?_ (by rw[sizeLine_eq];omega))
 have g1:(h'.push (seqObj "list" acc.toList.toArray 0)).get? h'.objs.size=some (seqObj "list" acc.toList.toArray 0):=bJ _ rfl
 refine wpAny_bind (wpAny_holding (wpAny_call_entry slot_list_sort ⟨_,g1,rfl⟩ entry_list_sort (list_sort_tree g1 hi lv fun out ns' a1 a2 a3=>⟨_,rfl,?_⟩) (args_list_sort _)))
 refine wpAny_pure ⟨_,rfl,?_⟩
 obtain⟨e,he⟩:=sortedHeap_at (out:=out) g1
 have sle:s.heap.objs.size≤h'.objs.size:=dX slt
 have old:∀b o,s.heap.get? b=some o->(sortedHeap (h'.push (seqObj "list" acc.toList.toArray 0)) h'.objs.size acc.toList out).get? b=some o:=fun b o e=>by
  have hb:=bK (kp b o e)
  rw[sortedHeap_old (c9 hb) (by rw[size_push'];exact dS hb)]
  exact bB _ (kp b o e)
 refine⟨.ref h'.objs.size,_,I.laid (a:=h'.objs.size) (o:=.lst (ns'.map V.int)) (t':=tk) old sle (show z1a X.prog X.w _ _ _ (.lst (ns'.map V.int)) from⟨?_,out.toList,e,z4n a1,?_⟩),rfl,q _ ns' (I.hok.fresh sle) a2 a3⟩
 ·rw[bA,a2.length_eq,sizeLine_eq]
  omega
 ·simpa using he
end
theorem z6D:typeLookup (.type "list") "keys"=pure none:=am_miss_of_fast (by kernel_rfl)
theorem z64:typeLookup (.type "tuple") "keys"=pure none:=am_miss_of_fast (by kernel_rfl)
theorem z8a:typeLookup (.type "list") "__getattr__"=pure none:=by rw[typeLookup_type,builtinLookup_eq_fast];kernel_rfl
theorem z7E:typeLookup (.type "tuple") "__getattr__"=pure none:=by rw[typeLookup_type,builtinLookup_eq_fast];kernel_rfl
section
variable{prog:Program}{w:World}{A:Around}{E:Value->Shared->Prop}{s:Shared}
theorem z8w{a:Addr}{items:Array Value}{n:Nat}{sl:Array (Option Value)}{u:Tok}{R:Result->Shared->Prop}(hA:A.handled=none)(ho:s.heap.get? a=some ⟨.type "list",none,.seq items n,sl⟩)(h:∀h' tk e,Heap.NewAttrErr s.heap h' e (.ref a) "keys"->R (.error (.ref e)) { s with heap:=h',toks:=tk }) :
  wpAny (model prog w) A.in1 (Builtin.«object.__getattribute__» ⟨[.ref a,.str "keys" u],[]⟩) (fun fin s'=>match fin with|.done f=>R (.ok f) s'|.again c'=>c'.quiet=true/\codeAny (model prog w) A c' R s') (fun e s'=>R (.error e) s') s:=by
 obtain⟨hp,g,d,tk,os⟩:=s
 have hT:(⟨hp,g,d,tk,os⟩:Shared).TypeIs (.ref a) "list":=⟨_,ho,rfl⟩
 have f1:=z6D
 unfold Builtin.«object.__getattribute__»
 repeat (any_goals (first|assumption|wp_step))
 exact wpAny_raiseAttrError hA h (attrMsg_fits (by decide +kernel) (by decide +kernel))
theorem z7w{a:Addr}{items:Array Value}{n:Nat}{sl:Array (Option Value)}{u:Tok}{R:Result->Shared->Prop}(hA:A.handled=none)(ho:s.heap.get? a=some ⟨.type "tuple",none,.seq items n,sl⟩)(h:∀h' tk e,Heap.NewAttrErr s.heap h' e (.ref a) "keys"->R (.error (.ref e)) { s with heap:=h',toks:=tk }) :
  wpAny (model prog w) A.in1 (Builtin.«object.__getattribute__» ⟨[.ref a,.str "keys" u],[]⟩) (fun fin s'=>match fin with|.done f=>R (.ok f) s'|.again c'=>c'.quiet=true/\codeAny (model prog w) A c' R s') (fun e s'=>R (.error e) s') s:=by
 obtain⟨hp,g,d,tk,os⟩:=s
 have hT:(⟨hp,g,d,tk,os⟩:Shared).TypeIs (.ref a) "tuple":=⟨_,ho,rfl⟩
 have f1:=z64
 unfold Builtin.«object.__getattribute__»
 repeat (any_goals (first|assumption|wp_step))
 exact wpAny_raiseAttrError hA h (attrMsg_fits (by decide +kernel) (by decide +kernel))
theorem z6C{a:Addr}{items:Array Value}{n:Nat}{sl:Array (Option Value)}{u:Tok}{R:Result->Shared->Prop}(hA:A.handled=none)(ho:s.heap.get? a=some ⟨.type "list",none,.seq items n,sl⟩)(h:∀h' tk e,Heap.NewAttrErr s.heap h' e (.ref a) "keys"->R (.error (.ref e)) { s with heap:=h',toks:=tk }) :
  codeAny (model prog w) A (.call (.builtin "list.__getattribute__") ⟨[.ref a,.str "keys" u],[]⟩) R s:=
 codeAny_call_builtin eF.plain F.entry_list_ga (eF.check _ _ _ _ _ _ _ _ (show s.TypeIs (.ref a) "list" from⟨_,ho,rfl⟩) (F.args_list_getattribute_2 _ _) (z8w (R:=R) hA ho h))
theorem z6H{a:Addr}{items:Array Value}{n:Nat}{sl:Array (Option Value)}{Q:Option Value->Shared->Prop}(hA:A.handled=none)(ho:s.heap.get? a=some ⟨.type "list",none,.seq items n,sl⟩)(h:∀h' tk,(∀b o,s.heap.get? b=some o->h'.get? b=some o)->Q none { s with heap:=h',toks:=tk }) :
  wpAny (model prog w) A (getAttr? (.ref a) "keys") Q E s:=by
 obtain⟨hp,g,d,tk,os⟩:=s
 have hT:∀tk',(⟨hp,g,d,tk',os⟩:Shared).TypeIs (.ref a) "list":=fun _=>⟨_,ho,rfl⟩
 have f1:=sub_AttributeError
 have f3:=eF.lookup
 have f4:=eF.bind (.ref a)
 have f5:=z8a
 unfold getAttr? getAttrBy? getAttrBy
 repeat (any_goals (first|assumption|exact hT _|wp_step))
 refine z6C (s:=⟨hp,g,d,tk+1,os⟩) hA ho fun h' tk' e hx=>?_
 obtain⟨t',u',he⟩:=hx.there
 show wpAny _ _ (getattributeRaised _ _ _ _ _ _ _) _ _ _
 unfold getattributeRaised
 repeat (any_goals (first|assumption|wp_step))
 exact h _ _ hx.keeps
theorem z5M{a:Addr}{items:Array Value}{n:Nat}{sl:Array (Option Value)}{u:Tok}{R:Result->Shared->Prop}(hA:A.handled=none)(ho:s.heap.get? a=some ⟨.type "tuple",none,.seq items n,sl⟩)(h:∀h' tk e,Heap.NewAttrErr s.heap h' e (.ref a) "keys"->R (.error (.ref e)) { s with heap:=h',toks:=tk }) :
  codeAny (model prog w) A (.call (.builtin "tuple.__getattribute__") ⟨[.ref a,.str "keys" u],[]⟩) R s:=
 codeAny_call_builtin dW.plain F.entry_tuple_ga (dW.check _ _ _ _ _ _ _ _ (show s.TypeIs (.ref a) "tuple" from⟨_,ho,rfl⟩) (F.args_tuple_getattribute_2 _ _) (z7w (R:=R) hA ho h))
theorem z62{a:Addr}{items:Array Value}{n:Nat}{sl:Array (Option Value)}{Q:Option Value->Shared->Prop}(hA:A.handled=none)(ho:s.heap.get? a=some ⟨.type "tuple",none,.seq items n,sl⟩)(h:∀h' tk,(∀b o,s.heap.get? b=some o->h'.get? b=some o)->Q none { s with heap:=h',toks:=tk }) :
  wpAny (model prog w) A (getAttr? (.ref a) "keys") Q E s:=by
 obtain⟨hp,g,d,tk,os⟩:=s
 have hT:∀tk',(⟨hp,g,d,tk',os⟩:Shared).TypeIs (.ref a) "tuple":=fun _=>⟨_,ho,rfl⟩
 have f1:=sub_AttributeError
 have f3:=dW.lookup
 have f4:=dW.bind (.ref a)
 have f5:=z7E
 unfold getAttr? getAttrBy? getAttrBy
 repeat (any_goals (first|assumption|exact hT _|wp_step))
 refine z5M (s:=⟨hp,g,d,tk+1,os⟩) hA ho fun h' tk' e hx=>?_
 obtain⟨t',u',he⟩:=hx.there
 show wpAny _ _ (getattributeRaised _ _ _ _ _ _ _) _ _ _
 unfold getattributeRaised
 repeat (any_goals (first|assumption|wp_step))
 exact h _ _ hx.keeps
end
theorem z3Y:entryFor table "dict.update.loop"=some Builtin.«dict.update.loop»:=entryFor_of_tree (by kernel_rfl)
theorem z1y:plainId "dict.update.loop"=true:=by decide +kernel
section
variable{prog:Program}{w:World}{A:Around}{κ:Type}[DecidableEq κ]{kd:KeyKind prog w κ}{I:Addr}{fp wr:List Addr}{G:Array GenState->Array GenState->Prop}{n:Nat}{P:Nat->Value->Prop}{St:Nat->Shared->Prop}
def z8g(kd:KeyKind prog w κ)(h:Heap)(v:Value)(kv:κ×Value)(out:List Addr):Prop:=∃(a:Addr) (o:Obj) (T:String) (k:Value) (c:Nat),v=.ref a/\h.get? a=some o/\o.cls=.type T/\(T="list"\/T="tuple")/\o.data=.seq #[k,kv.2] c/\kd.is kv.1 k=true/\a∉out
theorem z5X{R:Result->Shared->Prop}(W:WalksS prog w A.in1 I fp wr G n P St){d:Addr}(out:d∉fp){h0:Heap}{vs:List (κ×Value)}(lk:vs.length=n)
  (vals:∀i v,P i v->∃kv,vs[i]? = some kv/\z8g kd h0 v kv (d::wr)) (few:n≤1000) :
  ∀(todo i:Nat) (s:Shared),i+todo=n->St i s->s.heap.DictOf kd d (merged [] (vs.take i))->(∀b o,b∉d::wr->h0.get? b=some o->s.heap.get? b=some o)->
   (∀s',Moved (d::wr) G s s'->s'.heap.DictOf kd d (merged [] vs)->R (.ok (.ret .none)) s')->codeAny (model prog w) A (.builtin "dict.update.loop" ⟨[.ref d,.ref I,rawInt i,.none],[]⟩) R s
 | 0,i,s,ei,st,sx,kp,fin=>by
  have e:vs.take i=vs:=cW (by omega)
  rw[e] at sx
  have ei':i=n:=by omega
  subst ei'
  refine codeAny_builtin z3Y ?_
  rw[cK z1y _]
  refine wpAny_bind (W.done s _ _ st fun s' mv=>wpAny_bind (wpAny_pure (wpAny_pure (fin s' (mv.mono fun b hb=>.tail _ hb) (sx.at fun o=>mv.heap d o fun q=>out (W.sub _ q))))))
 | todo+1,i,s,ei,st,sx,kp,fin=>by
  refine codeAny_builtin z3Y ?_
  rw[cK z1y _]
  refine wpAny_bind (W.item i s _ _ (by omega) st fun v s1 hv st1 mv=>?_)
  obtain⟨⟨key,y⟩,ek,a,o,T,k,c,rfl,ho,hc,hT,hd,ik,na⟩:=vals i v hv
  have sx1:=sx.at (h':=s1.heap) fun o=>mv.heap d o fun q=>out (W.sub _ q)
  have ho1:s1.heap.get? a=some o:=mv.heap a o (fun q=>na (.tail _ q)) (kp a o na ho)
  have ty:s1.TypeIs (.ref a) T:=⟨o,ho1,hc⟩
  refine wpAny_bind (wpAny_holding (m:=(Builtin.Dict.pairItems (.ref a)).tryCatch _ >>= _) (wpAny_bind (wpAny_tryCatch ?_)))
  unfold Builtin.Dict.pairItems
  refine wpAny_bind (wpAny_typeOf ty ?_)
  rw[if_pos (by rcases hT with rfl|rfl<;>decide)]
  refine wpAny_bind (wpAny_seqItems ho1 hd (wpAny_pure ?_))
  show wpAny _ _ (holding [k,y] (dictSet d k y)) _ _ _
  have lm:=merged_length_le [] (vs.take i)
  rw[bO,List.length_nil] at lm
  refine wpAny_holding (wpAny_dictSet_pairs (hsz:=by rw[sizeLine_eq];omega) ik sx1 fun h2 sx2 sb=>?_)
  rw[<- merged_take_succ [] vs i (key,y) ek] at sx2
  have far:∀b,b≠d->h2.get? b=s1.heap.get? b:=fun b hb=>sb.2 b hb
  refine wpAny_pure ⟨plainId_quiet z1y _,z5X W out lk vals few todo (i+1) _ (by omega) (W.frame _ s1 _ _ st1 (dD _) fun b hb o q=>?_) sx2 (fun b o nb q=>?_) fun s3 mv3 sx4=>?_⟩
  ·rw[far b fun z=>out (z ▸ hb)];exact q
  ·rw[far b fun z=>nb (z ▸ .head _)]
   exact mv.heap b o (fun q=>nb (.tail _ q)) (kp b o nb q)
  ·refine fin s3 (.trans W.gtrans ((mv.mono fun b hb=>.tail _ hb).then_heap (dD _) fun b o hb q=>?_) mv3) sx4
   rw[far b fun z=>hb (z ▸ .head _)];exact q
end
section
variable{prog:Program}{w:World}{A:Around}{E:Value->Shared->Prop}{s:Shared}{κ:Type}[DecidableEq κ]{kd:KeyKind prog w κ}
theorem y47{T:String}{p:Addr}{its:Array Value}{c0:Nat}{sl:Array (Option Value)}{vs:List (κ×Value)}{Q:Value->Shared->Prop}(hh:A.handled=none)(hp:s.heap.get? p=some ⟨.type T,none,.seq its c0,sl⟩)(hT:T="list"\/T="tuple")
  (lk:vs.length=its.size) (vals:∀(i:Nat) v,its[i]? = some v->∃kv,vs[i]? = some kv/\z8g kd s.heap v kv []) (few:its.size≤1000) (nd:(vs.map (·.1)).Nodup)
  (fin:∀(h':Heap) (t:Nat),h'.DictOf kd s.heap.objs.size vs->(∀b u,s.heap.get? b=some u->h'.get? b=some u)->Q (.ref s.heap.objs.size) { s with heap:=h',toks:=t }) :
  wpAny (model prog w) A (call (.type "dict") [.ref p]) Q E s:=by
 refine callType_codes (Q₁:=fun obj s₁=>obj=.ref s.heap.objs.size/\s₁={ s with heap:=s.heap.push { cls:=.type "dict",data:=.dict #[] } }) PySem.F.kt_called_dict (PySem.F.kt_typeCall_dict_1 _) F.entry_dict_init (kt_code_dict_new _ ⟨rfl,rfl⟩) ?_
 rintro obj s₁ ⟨rfl,rfl⟩
 have X8:(s.heap.push { cls:=.type "dict",data:=.dict #[] }).DictOf kd s.heap.objs.size []:=Heap.DictOf.new s.heap
 have hp1:(s.heap.push { cls:=.type "dict",data:=.dict #[] }).get? p=some ⟨.type T,none,.seq its c0,sl⟩:=bB _ hp
 have hpl:p<s.heap.objs.size:=bK hp
 refine⟨X8.typeIs,F.args_dict_init_2 _ _,?_⟩
 unfold Builtin.«dict.__init__»
 refine wpAny_bind ?_
 unfold Builtin.Dict.selfAndRest
 refine wpAny_bind (wpAny_notOrdered_dict X8.typeIs ?_)
 show wpAny _ _ (pure (s.heap.objs.size,[Value.ref p])) _ _ _
 refine wpAny_pure ?_
 show wpAny _ _ (Builtin.Dict.updateFrom "dict.__init__" s.heap.objs.size (.ref p) [] .none) _ _ _
 unfold Builtin.Dict.updateFrom
 refine wpAny_bind (wpAny_typeOf (T:=T) ⟨_,hp1,rfl⟩ ?_)
 rw[if_pos (by rcases hT with rfl|rfl<;>decide)]
 have main:∀(h1:Heap) (tk:Nat),(∀b o,(s.heap.push { cls:=.type "dict",data:=.dict #[] }).get? b=some o->h1.get? b=some o)->
   wpAny (model prog w) A.in1.in1 (do
    rule (toString "dict.__init__"++toString ".from-pairs")
    return <- again (.builtin "dict.update.loop" ⟨[.ref s.heap.objs.size,<- pyIter (.ref p),rawInt 0,.none],[]⟩))
    (fun fin s'=>match fin with|.done f=>wants (fun r s₂=>r=.none/\Q (.ref s.heap.objs.size) s₂) E (.ok f) s'|.again c'=>c'.quiet=true/\codeAny (model prog w) A.in1 c' (wants (fun r s₂=>r=.none/\Q (.ref s.heap.objs.size) s₂) E) s')
    (fun e s'=>wants (fun r s₂=>r=.none/\Q (.ref s.heap.objs.size) s₂) E (.error e) s') { s with heap:=h1,toks:=tk }:=by
  intro h1 tk k1
  have hd1:=X8.keep k1
  have dlt:s.heap.objs.size<h1.objs.size:=by
   obtain⟨_,_,_,e,_⟩:=hd1
   exact bK e
  have hp2:=k1 _ _ hp1
  have apart:p≠h1.objs.size:=c9 (bK hp2)
  have out:s.heap.objs.size∉[h1.objs.size,p]:=by rw[bD,bC];exact fun z=>z.elim (c9 dlt) (fP hpl)
  have hh2:A.in1.in1.handled=none:=by simp[hh]
  have nin:∀{b:Addr}{o:Obj},s.heap.get? b=some o->b∉[s.heap.objs.size,h1.objs.size]:=fun e m=>by
   have hb:=bK e
   rcases bD.mp m with z|z
   ·exact absurd hb (by rw[z];exact cV _)
   ·rw[bC] at z
    exact absurd (Nat.lt_trans hb dlt) (by rw[z];exact cV _)
  have w0b:∀(i:Nat) v,its[i]? = some v->∃kv,vs[i]? = some kv/\z8g kd s.heap v kv [s.heap.objs.size,h1.objs.size]:=fun i v hv=>by
   obtain⟨kv,e,a,o,T,k,c,e1,e2,e3,e4,e5,e6,_⟩:=vals i v hv
   exact⟨kv,e,a,o,T,k,c,e1,e2,e3,e4,e5,e6,nin e2⟩
  have ends:∀(x:Obj) (s':Shared),Moved [s.heap.objs.size,h1.objs.size] (fun a b=>b=a) { s with heap:=h1.push x,toks:=tk } s'->s'.heap.DictOf kd s.heap.objs.size (merged [] vs)->Q (.ref s.heap.objs.size) s':=fun x s' mv sx=>by
   obtain⟨h',g',d',t',o'⟩:=s'
   obtain rfl:g'=s.gens:=mv.gens
   obtain rfl:d'=s.drawn:=mv.drawn
   obtain rfl:o'=s.os:=mv.os
   rw[merged_nil_of_nodup vs nd] at sx
   exact fin h' t' sx fun b u q=>mv.heap b u (nin q) (bB _ (k1 _ _ (bB _ q)))
  refine wpAny_bind (wpAny_rule ?_)
  rcases hT with rfl|rfl
  ·have hl:h1.IsList p its:=⟨_,hp2,rfl,c0,rfl⟩
   refine wpAny_bind (wpAny_pyIter_list hl (wpAny_pure ⟨plainId_quiet z1y _,?_⟩))
   exact z5X (kd:=kd) ((Walks.list hh2 _ p apart its).toS) out (h0:=s.heap) lk w0b few its.size 0 _ (gX _) ⟨⟨_,bJ _ rfl,rfl,rfl⟩,hl.push _⟩ (by rw[cX];exact hd1.push _) (fun b o _ q=>bB _ (k1 _ _ (bB _ q))) fun s' mv sx=>⟨rfl,ends _ s' mv sx⟩
  ·have hl:h1.IsTuple p its:=⟨_,hp2,rfl,c0,rfl⟩
   refine wpAny_bind (wpAny_pyIter_tuple hl (wpAny_pure ⟨plainId_quiet z1y _,?_⟩))
   exact z5X (kd:=kd) ((Walks.tuple hh2 _ p apart its).toS) out (h0:=s.heap) lk w0b few its.size 0 _ (gX _) ⟨⟨_,bJ _ rfl,rfl,rfl⟩,hl.push _⟩ (by rw[cX];exact hd1.push _) (fun b o _ q=>bB _ (k1 _ _ (bB _ q))) fun s' mv sx=>⟨rfl,ends _ s' mv sx⟩
 have hh2:A.in1.in1.handled=none:=by simp[hh]
 rcases hT with rfl|rfl
 ·refine wpAny_bind (z6H hh2 hp1 fun h1 tk k1=>?_)
  exact main h1 tk k1
 ·refine wpAny_bind (z62 hh2 hp1 fun h1 tk k1=>?_)
  exact main h1 tk k1
end
section
variable{X:Cx}
def y3A(K:PySem.W.Frag)(H:Hp)(u:V)(kv:Key×V):Prop:=∃a,u=.ref a/\(SqL K H a [kV kv.1,kv.2]\/SqT K H a [kV kv.1,kv.2])
def SqP(K:PySem.W.Frag)(H:Hp)(p:Addr)(ys:List V):Prop:=SqL K H p ys\/H p=some (.tup ys)
def y3B(K:PySem.W.Frag):List V->Hp->VK->Prop:=fun xs H Q=>∃p ys kvs,xs=[.ref p]/\SqP K H p ys/\Paired (y3A K H) ys kvs/\ys.length≤1000/\(kvs.map (·.1)).Nodup/\∀l,H l=none->Q (.ref l) (upd H l (.dK kvs))
theorem z6M{pins:List (Addr×Obj)}{σ:St}{H:Hp}{s:Shared}(I:Inv X pins σ H s):∀{ys:List V}{kvs:List (Key×V)}{its:List Value},Paired (y3A X.K H) ys kvs->Vals ys its->
  ∃vs,KV kvs vs/\vs.length=its.length/\∀(i:Nat) v,its[i]? = some v->∃kv,vs[i]? = some kv/\z8g (z1d X.prog X.w) s.heap v kv []
 | _,_,_,.nil,.nil=>⟨[],.nil,rfl,fun i v h=>by simp at h⟩
 | _::ys,kv::kvs,_::its,.cons ⟨a,e,hq⟩ t,.cons r rr=>by
  obtain⟨vs,k1,l1,p1⟩:=z6M I t rr
  subst e
  cases r
  have go:∀(T:String) (o:Obj) (us:List Value) (c:Nat),s.heap.get? a=some o->o.cls=.type T->(T="list"\/T="tuple")->o.data=.seq us.toArray c->Vals [kV kv.1,kv.2] us->
    ∃vs',KV (kv::kvs) vs'/\vs'.length=(Value.ref a::its).length/\∀(i:Nat) v,(Value.ref a::its)[i]? = some v->∃kv,vs'[i]? = some kv/\z8g (z1d X.prog X.w) s.heap v kv []:=fun T o us c h1 h2 h3 h4 h5=>by
   obtain⟨u1,u2,rfl,r1,r2⟩:=y08 h5
   refine⟨(kv.1,u2)::vs,.cons ⟨rfl,r2⟩ k1,by rw[bT,bT,l1],fun i v hv=>?_⟩
   cases i with
   | zero=>
    simp at hv
    subst hv
    exact⟨_,rfl,a,o,T,u1,c,rfl,h1,h2,h3,by simpa using h4,y23 r1,by simp⟩
   | succ i=>exact p1 i v (by simpa using hv)
  rcases hq with hq|hq
  ·obtain⟨us,rv,pl,_⟩:=I.list hq
   obtain⟨o,ho,hcl,n,hda⟩:=pl.isList
   exact go "list" o us n ho hcl (.inl rfl) hda rv
  ·obtain⟨us,rv,pl,_⟩:=I.tuple hq
   obtain⟨o,ho,hcl,n,hda⟩:=pl
   exact go "tuple" o us n ho hcl (.inr rfl) hda rv
theorem z8n{K:PySem.W.Frag}(hK:X.K=K)(hc:X.calm=true):z2O X (.type "dict") (y3B K):=by
 subst hK
 intro pins s σ H xs us Q I r h
 obtain⟨p,ys,kvs,rfl,hq,pr,hl,nd,q⟩:=h
 obtain⟨u,rfl,rx⟩:=z4q r
 cases rx
 have go:∀(T:String) (its:List Value) (c0:Nat) (sl:Array (Option Value)),s.heap.get? p=some ⟨.type T,none,.seq its.toArray c0,sl⟩->(T="list"\/T="tuple")->Vals ys its->wpAny (model X.prog X.w) X.A (call (.type "dict") [.ref p]) (EP X pins σ Q) X.xe s:=
  fun T its c0 sl ho hT rv=>by
   obtain⟨vs,k1,l1,p1⟩:=z6M I pr rv
   have ln:ys.length=its.length:=rv.length
   refine y47 (kd:=z1d X.prog X.w) (vs:=vs) (I.ok.hd hc) ho hT (by simpa using l1) (fun i v hv=>p1 i v (by simpa using hv)) (by simp;omega) (by rw[<- k1.keys];exact nd) fun h' t dd kp=>?_
   have big:=I.big
   refine⟨.ref s.heap.objs.size,_,I.laid (a:=s.heap.objs.size) (o:=.dK kvs) (h':=h') (t':=t) kp (bF _) (y3l ?_ ?_ k1 dd),rfl,q _ (I.hok.fresh (bF _))⟩
   ·have:=k1.length
    rw[sizeLine_eq]
    omega
   ·exact beq_false_of_ne (fP big)
 rcases hq with hq|hq
 ·obtain⟨its,rv,pl,_⟩:=I.list hq
  obtain⟨o,n,ho,hcl,hdi,hda⟩:=pl
  obtain⟨oc,od,oa,os⟩:=o
  simp only at hcl hdi hda
  subst hcl hdi hda
  exact go "list" its n os ho (.inl rfl) rv
 ·obtain⟨_,its,rv,o,ho,hcl,⟨n,hda⟩,hdi⟩:=(show z1a X.prog X.w H s.heap p (.tup ys) from I.hok p _ hq)
  obtain⟨oc,od,oa,os⟩:=o
  simp only at hcl hdi hda
  subst hcl hdi hda
  exact go "tuple" its n os ho (.inr rfl) rv
end
def SqS(K:PySem.W.Frag)(t:Bool)(H:Hp)(a:Addr)(xs:List V):Prop:=if t then SqL K H a xs else SqT K H a xs
theorem SqS.of{K:PySem.W.Frag}{H:Hp}{a:Addr}{xs:List V}(h:SqL K H a xs\/SqT K H a xs):∃t,SqS K t H a xs:=h.elim (fun q=>⟨true,q⟩) fun q=>⟨false,q⟩
theorem SqS.keep{K:PySem.W.Frag}{t:Bool}{H H':Hp}{a:Addr}{xs:List V}(s:A4 H H')(h:SqS K t H a xs):SqS K t H' a xs:=by
 cases t
 ·rcases(show SqT K H a xs from h) with (h|⟨o,h⟩)|h
  ·exact .inl (.inl (s _ _ h))
  ·exact .inl (.inr ⟨o,s _ _ h⟩)
  ·exact .inr h
 ·exact s.seq (show SqL K H a xs from h)
def Its(K:PySem.W.Frag)(t:Bool)(a:Addr):It:=if t then Itl K a else Itt K a
section
variable{X:Cx}{tg:Expr}
def iSeq(K:PySem.W.Frag)(tl:TE):TI:=fun σ H R=>tl σ H fun x H1=>∃a t,x=.ref a/\(∃xs,SqS K t H1 a xs)/\R (Its K t a) H1
theorem z8i{l:Expr}{tl:TE}(hl:PE X l tl):PI X tg l (iSeq X.K tl):=by
 intro pins s σ H R I h
 refine thn (hl pins s σ H _ I h) fun v s1 ⟨x,H1,I1,r1,q1⟩=>?_
 obtain⟨a,t,e,⟨xs,hq⟩,q⟩:=q1
 subst e
 cases r1
 cases t
 ·obtain⟨its,rv,p,hz⟩:=I1.tuple hq
  refine wpAny_pyIter_tuple (show s1.heap.IsTuple a its.toArray from p) ?_
  refine⟨s1.heap.objs.size,[s1.heap.objs.size],_,_,H1,rfl,I1.kept (t':=s1.toks) fun b o e=>bB _ e,z6R a _,⟨_,bJ _ rfl,rfl,rfl⟩,fun b hb=>?_,q⟩
  have e:b=s1.heap.objs.size:=by simpa using hb
  subst e
  exact I1.T7 (bF _) (I1.hok.fresh (bF _))
 ·obtain⟨its,rv,p,hz⟩:=I1.list hq
  refine wpAny_pyIter_list p.isList ?_
  refine⟨s1.heap.objs.size,[s1.heap.objs.size],_,_,H1,rfl,I1.kept (t':=s1.toks) fun b o e=>bB _ e,z83 a _,⟨_,bJ _ rfl,rfl,rfl⟩,fun b hb=>?_,q⟩
  have e:b=s1.heap.objs.size:=by simpa using hb
  subst e
  exact I1.T7 (bF _) (I1.hok.fresh (bF _))
end
theorem z7p{K:PySem.W.Frag}{t:Bool}{a:Addr}{xs:List V}{g:TG}{tc:TT}{te:TE}{σ0:St}{H1:Hp}{F:List V->Hp->Prop}(Pv:Nat->List V->Hp->Prop)(h0:Pv 0 [] H1)
  (hl:∀i ys H,i≤xs.length->Pv i ys H->SqS K t H a xs/\ys.length<sizeLine)
  (hs:∀i x ys H,xs[i]? = some x->Pv i ys H->z1M g tc te σ0 x H ys (Pv (i+1))) (hd:∀ys H,Pv xs.length ys H->F ys H):y0q (Its K t a) g tc te σ0 H1 F:=by
 cases t
 ·exact z7P Pv h0 hl hs hd
 ·exact z2o Pv h0 hl hs hd
theorem y1x{K:PySem.W.Frag}{t:Bool}{a:Addr}{xs:List V}{g:TG}{tb:TS}{D:Ends}{σ:St}{H:Hp}(Pv:Nat->St->Hp->Prop)(h0:Pv 0 σ H)(hl:∀i σ H,i≤xs.length->Pv i σ H->SqS K t H a xs)
  (hs:∀i x σ H,xs[i]? = some x->Pv i σ H->g x σ H fun σ2 H2=>tb { D with nx:=Pv (i+1),ct:=Pv (i+1),bk:=D.nx } σ2 H2) (hd:∀σ H,Pv xs.length σ H->D.nx σ H) :
  ∃W:Nat->Nat->St->Hp->Prop,(∃m,W 0 m σ H)/\∀i m σ H,W i m σ H->
   ((Its K t a).stop i H/\D.nx σ H)\/((Its K t a).go i H/\∃N:St->Hp->Prop,(∀σ' H',N σ' H'->∃m',m'<m/\W (i+1) m' σ' H')/\∀x H',(Its K t a).yld i H x H'->g x σ H' fun σ2 H2=>tb { D with nx:=N,ct:=N,bk:=D.nx } σ2 H2):=by
 cases t
 ·exact y3O Pv h0 hl hs hd
 ·exact z1h Pv h0 hl hs hd
section
variable{prog:Program}{w:World}{A:Around}{E:Value->Shared->Prop}
theorem z8D{it t:Addr}{items:Array Value}(hne:t≠it):∀(n i:Nat) (s:Shared) (Q:List Value->Shared->Prop),s.heap.IsListIter it t i->s.heap.IsList t items->i+n≤items.size->
  (∀h',h'.IsListIter it t (i+n)->Heap.SameBut it s.heap h'->Q ((items.toList.drop i).take n) { s with heap:=h' })->wpAny (model prog w) A (draw (.ref it) n) Q E s
 | 0,i,s,Q,hit,_,_,hQ=>by
  show wpAny _ _ (pure []) Q E s
  exact wpAny_pure (by simpa using hQ s.heap hit (Heap.SameBut.refl ..))
 | n+1,i,s,Q,hit,ht,hle,hQ=>by
  have hlt:i<items.size:=by omega
  show wpAny _ _ (pyNext (.ref it) >>= _) Q E s
  refine wpAny_bind (wpAny_pyNext_list_item hit ht (x:=items[i]) (by simp[hlt]) fun h₁ hit₁ hs₁=>?_)
  refine wpAny_bind (wpAny_holding (z8D hne n (i+1) _ _ hit₁ (ht.at fun o e=>(hs₁.2 t hne).trans e) (by omega) fun h₂ hit₂ hs₂=>wpAny_pure ?_))
  have hd:items.toList.drop i=items[i]::items.toList.drop (i+1):=by simp[List.drop_eq_getElem_cons,hlt]
  have:=hQ h₂ (by rw[show i+(n+1)=i+1+n by omega];exact hit₂) (hs₁.trans hs₂)
  rw[hd,fM] at this
  exact this
theorem z8K{s:Shared}{t:Addr}{items:Array Value}{Q:List Value->Shared->Prop}(hh:A.handled=none)(ht:s.heap.IsList t items)
  (hQ:∀h',Heap.ExtBut s.heap.objs.size s.heap h'->Q items.toList { s with heap:=h' }):wpAny (model prog w) A (unpackItems (.ref t) items.size none) Q E s:=by
 have hlt:t≠s.heap.objs.size:=by obtain⟨o,ho,_⟩:=ht;exact c9 (bK ho)
 unfold unpackItems
 refine wpAny_bind ?_
 unfold notIterableAtAll
 refine wpAny_bind (wpAny_specialOf ht.typeIs PySem.F.slot_list_iter.lookup ?_)
 refine wpAny_pure ?_
 simp only[fQ,if_false]
 refine wpAny_bind (wpAny_holding (wpAny_pyIter_list ht ?_))
 refine wpAny_bind (wpAny_holding (z8D hlt items.size 0 _ _ ⟨_,bJ _ rfl,rfl,rfl⟩ (ht.push _) (by omega) fun h₁ hit₁ hs₁=>?_))
 have N8:List.take items.size (List.drop 0 items.toList)=items.toList:=by
  rw[fT];exact cW (by simp)
 rw[N8]
 rw[if_neg (by simp)]
 have ht₁:h₁.IsList t items:=(ht.push _).at fun o e=>(hs₁.2 t hlt).trans e
 refine wpAny_bind (wpAny_holding (wpAny_pyNext_list_end hh hit₁ ht₁ (by simp) fun h₂ he₂=>?_))
 simp only[Option.isSome_none,fQ,if_false]
 exact wpAny_pure (hQ h₂ fun b o hb e=>he₂ b o hb (hs₁.extBut b o hb (bB _ e)))
theorem z4Y{s:Shared}{env:Env}{elts:List Expr}{x1}{pos:Pos}{t:Addr}{items:Array Value}{Q:Unit->Shared->Prop}(hh:A.handled=none)(ht:s.heap.IsList t items)
  (hn:(assignEach elts env).length=items.size) (w1i:(assignEach elts env).findIdx? (·.1)=none)
  (h:∀h',Heap.ExtBut s.heap.objs.size s.heap h'->wpAny (model prog w) A (assignInOrder ((assignEach elts env).map (·.2)) items.toList) Q E { s with heap:=h' }) :
  wpAny (model prog w) A (assign (.Tuple elts x1 pos) env (.ref t)) Q E s:=by
 rw[assign_Tuple]
 refine wpAny_bind (wpAny_standAt ?_)
 unfold unpack
 rw[hn,w1i]
 exact wpAny_bind (wpAny_holding (z8K hh ht h))
end
def w0J(K:PySem.W.Frag)(n:Nat)(t:TGs):TG:=fun v σ H Q=>∃a xs,v=.ref a/\(SqL K H a xs\/SqT K H a xs)/\xs.length=n/\t xs σ H Q
theorem z7A{X:Cx}{K:PySem.W.Frag}{es:List Expr}{k:Nat}{t:TGs}{n:Nat}{pos:Pos}(hK:X.K=K)(hc:X.calm=true)(h:PGs X es t)
  (hn:(assignEach es X.env).length=n:=by rfl) (hst:(assignEach es X.env).findIdx? (·.1)=none:=by rfl):PG X (.Tuple es k pos) (w0J K n t):=by
 subst hK
 intro pins s σ H v u Q I r hw
 obtain⟨a,xs,e1,hq,hl,hw⟩:=hw
 subst e1
 cases r
 rcases hq with hq|hq
 ·obtain⟨its,rv,ht,hz⟩:=I.list hq
  refine z4Y (I.ok.hd hc) ht.isList (by simp[hn,<- hl,rv.length]) hst fun h' hx=>?_
  have I1:Inv X pins σ H { s with heap:=h' }:=I.kept (t':=s.toks) fun b o e=>hx b o (c9 (bK e)) e
  exact h pins _ σ H xs _ Q I1 (by simpa using rv) hw
 ·obtain⟨its,rv,ht,hz⟩:=I.tuple hq
  refine assign_Tuple_tuple (I.ok.hd hc) ht (by simp[hn,<- hl,rv.length]) hst fun h' hx=>?_
  have I1:Inv X pins σ H { s with heap:=h' }:=I.kept (t':=s.toks) fun b o e=>hx b o (c9 (bK e)) e
  exact h pins _ σ H xs _ Q I1 (by simpa using rv) hw
theorem z9Z{K:PySem.W.Frag}{n:Nat}{t:TGs}(a:z72 t):z8e (w0J K n t):=fun v σ H Q Q' f q=>by
 obtain⟨p,xs,e,h1,h2,q⟩:=q
 exact⟨p,xs,e,h1,h2,a _ _ _ _ _ f q⟩
theorem y10{K:PySem.W.Frag}{n k:Nat}{t:TGs}(a:y0S n t):W3 n (w0J K k t):=fun v σ H Q q=>by
 obtain⟨p,xs,e,h1,h2,q⟩:=q
 exact⟨p,xs,e,h1,h2,a _ _ _ _ q⟩
section
variable{X:Cx}
end
structure S1(K:PySem.W.Frag)(x qual:Str)(st:Stmt)(f:Addr)(fd:FuncData)(T:Addr)(items:Array Value):Prop where
 ex:∃(oc:Value) (od:Option Addr) (kV doc pm:Value) (an:Option Addr) (cdv ct:Value) (osl:Array (Option Value)),
  fd=PySem.W.fnOf x qual (z1e st) (z0Z st) (z07 st) (.ref T) kV doc pm an cdv ct/\K.lookup f=some ⟨oc,od,.func fd,osl⟩/\PySem.W.codeIn K cdv qual=true
 kp:PySem.W.keepIn K (.ref f)=true
 dt:∃(o:Obj) (n:Nat),K.lookup T=some o/\o.data=.seq items n
section
variable{P:Program}{w:World}{K:PySem.W.Frag}{mg:Str->Option Value}{base:Heap}
theorem S1.ok{x qual:Str}{st:Stmt}{f T:Addr}{items:Array Value}{fd:FuncData}{N ps:List Str}{k:Nat}{sp:Sp}(F:S1 K x qual st f fd T items)(S:A7 N ps (z07 st))(len:∀vs H Q E,sp vs H Q E->vs.length=ps.length)
  (Q9:∀(cdv:Value) (A:Around) (outer:List Env) (s:Shared) (H:Hp) (vs:List V) (Q:VK) (E:XK),D6 k (A.deeper (envOfC qual (z07 st) s.heap.objs.size f cdv))->sp vs H Q E->
   ∃t,PSs (F0 CX0 P w K mg base N qual (z07 st) f cdv A outer s H E).nox (z0Z st) t/\t { nx:=fun _ H'=>Q .non H',rt:=Q } (z4a N vs) H):B0 P w K mg base CX0 (k+1) f fd ps sp:=by
 obtain⟨oc,od,kV,doc,pm,an,cdv,ct,osl,rfl,lk,hcd⟩:=F.ex
 refine y2u lk hcd S len fun A outer s H vs Q E hr hsp=>?_
 obtain⟨t,h,q⟩:=Q9 cdv A outer s H vs Q E hr hsp
 exact⟨t,h.nox,q⟩
theorem S1.binds{x qual:Str}{st:Stmt}{f T:Addr}{items:Array Value}{fd:FuncData}{ps:List Str}{ds:List Value}(F:S1 K x qual st f fd T items)
  (h:∀(kV doc pm:Value) (an:Option Addr) (cdv ct:Value) (us:List Value),us.length+ds.length=ps.length->∃k,bindArgs (PySem.W.fnOf x qual (z1e st) (z0Z st) (z07 st) (.ref T) kV doc pm an cdv ct) ⟨us,[]⟩=seqItems? (.ref T) >>= k/\k (some items)=pure (ps.zip (us++ds))):z1c K fd ps ds:=by
 obtain⟨oc,od,kV,doc,pm,an,cdv,ct,osl,rfl,lk,hcd⟩:=F.ex
 obtain⟨o,n,lt,hs⟩:=F.dt
 intro s us KX hl
 rw[bE] at hl
 obtain⟨k,h1,h2⟩:=h kV doc pm an cdv ct us hl
 exact .of_defaults rfl (KX _ _ lt) hs h1 h2
theorem y4g{x qual:Str}{st:Stmt}{f T:Addr}{oc oct:Value}{od odt an:Option Addr}{osl oslt:Array (Option Value)}{items:Array Value}{n:Nat}{kV doc pm cdv ct:Value}(l:K.lookup f=some ⟨oc,od,.func (PySem.W.fnOf x qual (z1e st) (z0Z st) (z07 st) (.ref T) kV doc pm an cdv ct),osl⟩)
  (lt:K.lookup T=some ⟨oct,odt,.seq items n,oslt⟩) (c:PySem.W.codeIn K cdv qual=true) (k:PySem.W.keepIn K (.ref f)=true):S1 K x qual st f (PySem.W.fnOf x qual (z1e st) (z0Z st) (z07 st) (.ref T) kV doc pm an cdv ct) T items:=⟨⟨oc,od,kV,doc,pm,an,cdv,ct,osl,rfl,l,c⟩,k,_,n,lt,rfl⟩
end
structure O2(P:Program)(w:World)(K:PySem.W.Frag)(mg:Str->Option Value)(base:Heap)(k:Nat)(C:Addr)(m:Str)(ps:List Str)(sp:Sp)(dvs:List V):Prop where
 cl:Cls K C
 ex:∃(f:Addr) (fd:FuncData) (ds:List Value),B0 P w K mg base CX0 k f fd ps sp/\z1c K fd ps ds/\Vals dvs ds/\Meth K C m f
theorem O2.mk'{P:Program}{w:World}{K:PySem.W.Frag}{mg:Str->Option Value}{base:Heap}{k:Nat}{C:Addr}{m:Str}{ps:List Str}{sp:Sp}{dvs:List V}{ds:List Value}{f:Addr}{fd:FuncData}(v:Vals dvs ds)(c:Cls K C)(a:B0 P w K mg base CX0 k f fd ps sp)(b:z1c K fd ps ds)(d:Meth K C m f) :
  O2 P w K mg base k C m ps sp dvs:=⟨c,f,fd,ds,a,b,v,d⟩
theorem O2.mono{P:Program}{w:World}{K:PySem.W.Frag}{mg:Str->Option Value}{base:Heap}{j k:Nat}{C:Addr}{m:Str}{ps:List Str}{sp:Sp}{dvs:List V}(G:O2 P w K mg base j C m ps sp dvs)(h:j≤k):O2 P w K mg base k C m ps sp dvs:=by
 obtain⟨f,fd,ds,a,b,v,c⟩:=G.ex
 exact⟨G.cl,f,fd,ds,a.mono h,b,v,c⟩
theorem y2F{X:Cx}{k:Nat}{C:Addr}{m:Str}{ps:List Str}{sp:Sp}{dvs:List V}{o e:Expr}{es:List Expr}{ta:TE}{t:TA}{pos apos:Pos}{pl:Sem Bool}(G:O2 X.prog X.w X.K X.mg X.base k C m ps sp dvs)(hr:D6 k X.A)(he:PE X o ta)(ha:PA X (e::es) t)
  (hst:starEach (e::es) X.env=(false,eval e X.env)::starEach es X.env:=by rfl) (hpl:(backTo pos (starEach es X.env)).any (·.1)=false:=by rfl)
  (ht:eval (.Call (.Attribute o m apos) (e::es) [] pos) X.env=(do
   let ov <- eval o X.env
   standAt apos.atName
   let (f,first) <- holding [ov] (getMethod ov m pl)
   callWith pos f first (backTo pos (starEach (e::es) X.env)) (backToKw pos (keywordEach [] X.env))):=by rfl) :
  PE X (.Call (.Attribute o m apos) (e::es) [] pos) (y11 C m sp dvs E0 ta t):=by
 obtain⟨f,fd,ds,a,b,v,d⟩:=G.ex
 exact y1Y he G.cl d a hr b v y0B ha hst hpl ht
end L2
namespace HT
open PySem PySem.Spec PyProof.Rows L2
section
variable{prog:Program}{w:World}{A:Around}{E:Value->Shared->Prop}{s:Shared}
theorem z50{t sl:Addr}{items:Array Value}{vl vu:Value}{lo hi:Option Int}{Q:Value->Shared->Prop}(ht:IsTup s.heap t items)(hs:s.heap.IsSliceOf sl vl vu .none)(pl:IsPart vl lo)(pu:IsPart vu hi)
  (hw:sIx items.size 0 lo=0/\sIx items.size items.size hi=items.size) (h:Q (.ref t) s):wpAny (model prog w) A (getItem (.ref t) (.ref sl)) Q E s:=by
 obtain⟨os,hos,hcs,hds⟩:=id hs
 have hTs:s.TypeIs (.ref sl) "slice":=⟨os,hos,hcs⟩
 unfold getItem
 try with_reducible refine wpAny_holding ?_
 first|refine wpAny_bind (wpAny_pure ?_)|skip
 refine wpAny_bind (wpAny_sequenceKey ht.typeIs (by decide) ?_)
 refine wpAny_bind (wpAny_callSpecial?_slot (name:=Str.ofString "__getitem__") ht.typeIs cP
  (wpAny_call_entry cP ht.typeIs entry_tuple_getitem ?_ (args_tuple_getitem _ _)))
 show wpAny _ _ (Builtin.Tuple.tupleItemsOf (.ref t) >>= _) _ _ s
 refine wpAny_bind (tupleItemsOf_ ht ?_)
 refine wpAny_bind (wpAny_typeOf hTs ?_)
 rw[if_pos (by decide)]
 refine wpAny_bind (z3l hs pl pu ?_)
 have hyes:(((sIx items.size 0 lo:Nat):Int) == 0 && (1:Int) == 1 && (sIx items.size items.size hi-sIx items.size 0 lo) == items.size)=true:=by
  rw[hw.1,hw.2]
  simp
 show wpAny _ _ (if (((sIx items.size 0 lo:Nat):Int) == 0 && (1:Int) == 1 && (sIx items.size items.size hi-sIx items.size 0 lo) == items.size)=true then _ else _) _ _ s
 rw[if_pos hyes]
 refine wpAny_bind (m:=Builtin.Tuple.tupleIsExact _) (wpAny_bind (wpAny_typeOf ht.typeIs (wpAny_pure ?_)))
 rw[if_pos (by decide)]
 refine wpAny_bind (wpAny_rule ?_)
 exact wpAny_pure ⟨_,rfl,wpAny_pure h⟩
end
end HT
namespace L2
open PySem PySem.Spec PyProof.Rows
def z2V:List V->List V->Bool
 | [],[]=>true
 | x::xs,y::ys=>eqV x y && z2V xs ys
 | _,_=>false
theorem z9N:∀xs ys:List V,((List.range (min xs.length ys.length)).all (fun j=>eqV (xs.getD j .non) (ys.getD j .non)) && xs.length == ys.length)=z2V xs ys
 | [],[]=>rfl
 | [],_::_=>rfl
 | _::_,[]=>rfl
 | x::xs,y::ys=>by
  have ih:=z9N xs ys
  unfold z2V
  rw[<- ih,bT,bT,Nat.succ_min_succ,List.range_succ_eq_map,dQ,gY,Bool.and_assoc]
  congr 1
  congr 1
  rw[cZ]
  simp
theorem z7D:∀{x:V},z1u x=true->eqV x x=true:=fun {x} h=>by
 cases x with
 | non=>rfl
 | bl b=>exact beq_self_eq_true b
 | int i=>exact beq_self_eq_true i
 | str z=>exact beq_self_eq_true z
 | _=>exact absurd (show false=true from h) bN
theorem z7f:∀{xs:List V},xs.all z1u=true->z2V xs xs=true
 | [],_=>rfl
 | x::xs,h=>by
  rw[dQ,bX] at h
  unfold z2V
  rw[z7D h.1,z7f h.2]
  rfl
theorem z7s:∀{xs:List V}{us:List Value},Vals xs us->xs.all z1u=true->∀(j:Nat) (h:j<us.length),RelV (xs.getD j .non) us[j]/\z1u (xs.getD j .non)=true
 | _,_,.nil,_,j,h=>absurd h (Nat.not_lt_zero _)
 | x::xs,u::us,.cons r t,f,0,h=>by
  rw[dQ,bX] at f
  exact⟨r,f.1⟩
 | x::xs,u::us,.cons r t,f,j+1,h=>by
  rw[dQ,bX] at f
  exact z7s t f.2 j (Nat.lt_of_succ_lt_succ h)
def eqI:List Value->List V->Bool
 | [],[]=>true
 | u::us,x::xs=>eqU x u && eqI us xs
 | _,_=>false
theorem y0G:∀{ys:List V}{us:List Value} (xs:List V),Vals ys us->ys.all z1u=true->eqI us xs=z2V ys xs
 | _,_,[],.nil,_=>rfl
 | _,_,_::_,.nil,_=>rfl
 | y::ys,u::us,[],.cons r t,f=>rfl
 | y::ys,u::us,x::xs,.cons r t,f=>by
  rw[dQ,bX] at f
  unfold eqI z2V
  rw[z8h r f.1,y0G xs t f.2]
section
variable{X:Cx}
theorem y0M{A:Around}{s:Shared}{a b:Addr}{its Q2:List Value}{xs ys:List V}(pl:s.heap.IsTuple a its.toArray)(pl2:s.heap.IsTuple b Q2.toArray)(r:Vals xs its)(r2:Vals ys Q2)(f:xs.all z1u=true)(f2:ys.all z1u=true)(hu:A.units<cLine) :
  SeqAt.RcAt A s (.ref a) (.ref b) (z2V xs ys):=by
 have h:=SeqAt.RcAt.tuples (e:=fun j=>eqV (xs.getD j .non) (ys.getD j .non)) pl pl2 hu fun j h1 h2=>by
  rw[bI] at h1 h2
  obtain⟨q1,q2⟩:=z7s r f j h1
  obtain⟨q3,q4⟩:=z7s r2 f2 j h2
  exact y3h q1 q3 q2 q4
 rw[bI,bI,<- r.length,<- r2.length,z9N] at h
 exact h
def rEqT(K:PySem.W.Frag):R2:=fun x y H Q=>∃a b xs ys,x=.ref a/\y=.ref b/\SqT K H a xs/\SqT K H b ys/\xs.all z1u=true/\ys.all z1u=true/\Q (.bl (z2V xs ys)) H
theorem y3g(hu:X.A.units<cLine):OpR X (compareOp .Eq) (rEqT X.K):=by
 intro pins s σ H x y v u Q I rx ry h
 obtain⟨a,b,xs,ys,rfl,rfl,ha,hb,f1,f2,q⟩:=h
 cases rx
 cases ry
 obtain⟨its,r,pl,hz⟩:=I.tuple ha
 obtain⟨Q2,r2,pl2,hz2⟩:=I.tuple hb
 exact y0M pl pl2 r r2 f1 f2 hu X.prog X.w X.xe _ ⟨.bl _,H,I,rfl,q⟩
def z33(s:Shared)(xs:List V):Value->Bool
 | .ref b=>match s.heap.get? b with
  | some o=>match o.data with
   | .seq its _=>eqI its.toList xs
   | _=>false
  | none=>false
 | _=>false
def y40(K:PySem.W.Frag):R2:=fun x y H Q=>∃a p xs us yss,x=.ref a/\y=.ref p/\SqT K H a xs/\xs.all z1u=true/\SqL K H p us/\Paired (fun u ys=>∃b,u=.ref b/\SqT K H b ys/\ys.all z1u=true) us yss/\Q (.bl (!yss.any fun ys=>z2V ys xs)) H
theorem z8f(hu:X.A.units+1<cLine):OpR X (compareOp .NotIn) (y40 X.K):=by
 intro pins s σ H x y v u Q I rx ry h
 obtain⟨a,p,xs,us,yss,rfl,rfl,ha,f1,hp,pr,q⟩:=h
 cases rx
 cases ry
 obtain⟨its,r,pl,hz⟩:=I.tuple ha
 obtain⟨Q2,r2,pl2,hz2⟩:=I.list hp
 have item:∀(b:Addr) (ys:List V),SqT X.K H b ys->ys.all z1u=true->z33 s xs (.ref b)=z2V ys xs/\SeqAt.EqAt X.A.in1 s (.ref b) (.ref a) (z2V ys xs):=fun b ys hb fb=>by
  obtain⟨its3,r3,pl3,hz3⟩:=I.tuple hb
  have e1:z33 s xs (.ref b)=z2V ys xs:=by
   obtain⟨o,ho,hc,n,hd⟩:=pl3
   unfold z33
   simp only[ho,hd]
   exact y0G xs r3 fb
  refine⟨e1,?_⟩
  by_cases hne:b=a
  ·subst hne
   have e2:z2V ys xs=true:=by
    rw[<- e1]
    obtain⟨o,ho,hc,n,hd⟩:=pl
    unfold z33
    simp only[ho,hd]
    rw[y0G xs r f1]
    exact z7f f1
   rw[e2]
   exact SeqAt.EqAt.same _
  ·exact SeqAt.EqAt.of_refs hne (y0M pl3 pl r3 r fb f1 hu)
 have all:∀{us:List V}{yss:List (List V)}{vs:List Value},Paired (fun u ys=>∃b,u=.ref b/\SqT X.K H b ys/\ys.all z1u=true) us yss->Vals us vs->vs.any (z33 s xs)=yss.any (fun ys=>z2V ys xs)/\∀v∈vs,SeqAt.EqAt X.A.in1 s v (.ref a) (z33 s xs v):=by
  intro us yss vs pr
  induction pr generalizing vs with
  | nil=>
   intro r
   cases r
   exact⟨rfl,fun v hv=>(nomatch hv)⟩
  | cons h t ih=>
   intro r
   cases r with
   | cons r1 rt=>
    obtain⟨b,rfl,hb,fb⟩:=h
    cases r1
    obtain⟨i1,i2⟩:=ih rt
    obtain⟨j1,j2⟩:=item b _ hb fb
    refine⟨by rw[eU,eU,i1,j1],fun v hv=>?_⟩
    rcases bD.mp hv with rfl|hv
    ·rw[j1];exact j2
    ·exact i2 v hv
 obtain⟨a1,a2⟩:=all pr r2
 refine SeqAt.notIn_listAt (z33 s xs) pl2.isList (fun w hw=>a2 w (by simpa using hw)) ⟨.bl _,H,I,rfl,?_⟩
 rw[show Q2.toArray.any (z33 s xs)=Q2.any (z33 s xs) by simp,a1]
 exact q
end
def rSlA(K:PySem.W.Frag):V->Option Int->Option Int->Hp->VK->Prop:=fun x lo hi H Q=>∃a xs,x=.ref a/\SqT K H a xs/\((HT.sIx xs.length 0 lo=0/\HT.sIx xs.length xs.length hi=xs.length)->Q (.ref a) H)/\
 (¬(HT.sIx xs.length 0 lo=0/\HT.sIx xs.length xs.length hi=xs.length)->∀p,H p=none->Q (.ref p) (upd H p (.tup (Q3 xs lo hi))))
theorem y1f{X:Cx}:SlR X (rSlA X.K):=by
 intro pins s σ H x v vl vu lo hi sl Q I rx hs pl pu h
 obtain⟨a,xs,rfl,hx,q1,q2⟩:=h
 by_cases hw:HT.sIx xs.length 0 lo=0/\HT.sIx xs.length xs.length hi=xs.length
 ·cases rx
  obtain⟨its,r,ht,hz⟩:=I.tuple hx
  have hlen:its.toArray.size=xs.length:=by rw[bI];exact r.length.symm
  exact⟨"tuple",_,cP.lookup,ht.typeIs,HT.z50 ht hs pl pu (by rw[hlen];exact hw) ⟨.ref a,H,I,rfl,q1 hw⟩⟩
 ·exact y3e pins s σ H (.ref a) v vl vu lo hi sl Q I rx hs pl pu ⟨a,xs,rfl,hx,hw,q2 hw⟩
def J3(a b c:Int):Nat:=(Builtin.Range.rangeSize a b c).toNat
theorem z9H{a b c:Int}(hc:c<0):J3 a b c=if a > b then ((a-b-1) / (-c)+1).toNat else 0:=by
 unfold J3 Builtin.Range.rangeSize
 rw[if_neg (by omega)]
 split<;>rfl
theorem z8X{a b c:Int}{i:Nat}(hc:c<0)(h:i<J3 a b c):b<a+i*c/\a+i*c≤a:=by
 rw[z9H hc] at h
 split at h
 ·have h0:0≤(a-b-1) / (-c):=Int.ediv_nonneg (by omega) (by omega)
  have h1:(i:Int)≤(a-b-1) / (-c):=by omega
  have h2:(a-b-1) / (-c)*(-c)≤a-b-1:=Int.ediv_mul_le _ (by omega)
  have h3:(i:Int)*(-c)≤(a-b-1) / (-c)*(-c):=Int.mul_le_mul_of_nonneg_right h1 (by omega)
  have h4:(i:Int)*(-c)=-((i:Int)*c):=Int.mul_neg _ _
  have h5:(0:Int)≤(i:Int)*(-c):=Int.mul_nonneg (by omega) (by omega)
  omega
 ·exact absurd h (Nat.not_lt_zero _)
theorem y2f{a b c:Int}(hc:c<0):(J3 a b c:Int)≤(a-b).toNat:=by
 rw[z9H hc]
 split
 ·have h0:0≤(a-b-1) / (-c):=Int.ediv_nonneg (by omega) (by omega)
  have h1:(a-b-1) / (-c)≤a-b-1:=Int.ediv_le_self _ (by omega)
  omega
 ·omega
def Itk(hi c:Int)(n:Nat):It:=⟨fun i _=>i<n,fun i H x H'=>H'=H/\x=.int (hi+i*c),fun i _=>n≤i⟩
theorem y1q{P:Program}{w:World}{K:PySem.W.Frag}{tg:Expr}(it:Addr)(hi c:Int)(n:Nat):Turn P w K tg (Itk hi c n) [it] it (fun i h=>IsRangeIter h it (hi+(i:Nat)*c) ((n:Int)-(i:Nat)) c) where
 mem:=by simp
 obj:=fun i h st b hb=>by
  have e:b=it:=by simpa using hb
  subst e
  exact⟨_,st,fun v z=>by
   have z':Data.fields _=Data.cell v:=z
   cases z'⟩
 keep:=fun i h h' st k=>k it (by simp) _ st
 item:=by
  intro X hP hw hK hc i pins s σ H E I hf st hg
  subst hP hw hK
  obtain⟨f0,f1,f2,f3,f4,f5⟩:=hf it (by simp)
  have W:=Walks.range (prog:=X.prog) (w:=X.w) (I.ok.hd hc) it hi c n
  refine W.item i s _ _ hg st fun v h' tk hv st' kk=>?_
  obtain⟨t,rfl⟩:=hv
  have I1:Inv X pins σ H { s with heap:=h',toks:=tk }:=I.turned (fun b o hb e=>kk b o (by simpa using hb) e) f0 f1 f3 f4 f5
  exact⟨_,rfl,y0u (s:={ s with heap:=h',toks:=tk }) (n:="range_iterator") st' rfl rfl (by decide) ⟨.int (hi+i*c),H,I1,⟨t,rfl⟩,⟨rfl,rfl⟩,st',fun b hb=>(hf b hb).1⟩⟩
 done:=by
  intro X hP hw hK hc i pins s σ H E I hf st hg
  subst hP hw hK
  obtain⟨f0,f1,f2,f3,f4,f5⟩:=hf it (by simp)
  exact wpAny_pyNext_range_end (I.ok.hd hc) st (by have:n≤i:=hg;omega) fun h' eb=>⟨rfl,I.turned (t':=s.toks) (fun b o hb e=>eb b o hb e) f0 f1 f3 f4 f5⟩
 self:=fun _ _ _ _ _ st h=>wpAny_pyIter_rangeiter st h
theorem y07{a b c:Int}(ha:-1000≤a)(ha':a≤1000)(hb:-1000≤b)(hb':b≤1000)(hc:c<0)(hc':-1000≤c):Builtin.Range.small a b c=true:=by
 have h:=y2f (a:=a) (b:=b) hc
 have e:Builtin.Range.rangeSize a b c=(J3 a b c:Int):=by
  unfold J3
  exact rangeSize_toNat a b c
 unfold Builtin.Range.small
 rw[e]
 have h0:(0:Int)≤(J3 a b c:Int):=Int.natCast_nonneg _
 have h':(J3 a b c:Int)≤2000:=by omega
 clear h
 generalize (J3 a b c:Int)=m at h' h0
 rw[if_neg (show ¬c > 0 by omega)]
 simp only[Builtin.Range.rangeFitsLong,bX,gI,decide_eq_true_eq,beq_iff_eq]
 exact⟨by omega,.inr (by omega)⟩
section
variable{X:Cx}{tg:Expr}
def w1l(ta:TA):TI:=fun σ H R=>ta σ H fun vs H1=>∃i j c:Int,vs=[.int i,.int j,.int c]/\(-1000≤i/\i≤1000/\-1000≤j/\j≤1000/\c<0/\-1000≤c)/\R (Itk i c (J3 i j c)) H1
theorem y0N{a b c:Expr}{ta:TA}{p pos:Pos}(hg:Gl X "range")(hm:X.mg "range"=none)(ha:PA X [a,b,c] ta)
  (hs:starEach [a,b,c] X.env=[(false,eval a X.env),(false,eval b X.env),(false,eval c X.env)]:=by rfl) (hs2:starEach [b,c] X.env=[(false,eval b X.env),(false,eval c X.env)]:=by rfl) :
  PI X tg (.Call (.Name "range" p) [a,b,c] [] pos) (w1l ta):=by
 intro pins s σ H R I h
 refine Call_ (z5i I hg hm boot_range (dA (thn (ha pos pins s σ H _ I h) fun us s1 ⟨vs,H1,I1,r1,q1⟩=>?_) (by rw[hs,hs2]) (by rw[hs2];rfl)))
 obtain⟨i,j,k,e,⟨q1,q2,q3,q4,q5,q6⟩,q⟩:=q1
 subst e
 cases r1 with
 | cons r rr=>
  cases rr with
  | cons r' rr=>
   cases rr with
   | cons r'' rr=>
    cases rr
    obtain⟨t,rfl⟩:=r
    obtain⟨t',rfl⟩:=r'
    obtain⟨t'',rfl⟩:=r''
    refine call_range_3 (by omega) ?_ (.inl (PyProof.noPylong_small (by omega)))
    refine wpAny_pyIter_range (IsRange.new ..) (y07 q1 q2 q3 q4 q5 q6) ?_
    have I2:Inv X pins σ H1 { s1 with heap:=s1.heap.push { cls:=.type "range",data:=.fields #[.int i t,.int j t',.int k t''] },toks:=s1.toks }:=I1.kept fun b o e=>bB _ e
    refine⟨(s1.heap.push { cls:=.type "range",data:=.fields #[.int i t,.int j t',.int k t''] }).objs.size,[(s1.heap.push { cls:=.type "range",data:=.fields #[.int i t,.int j t',.int k t''] }).objs.size],_,_,H1,rfl,
     I2.kept (t':=s1.toks) fun b o e=>bB _ e,y1q _ i k (J3 i j k),?_,fun b hb=>?_,q⟩
    ·have e1:i+((0:Nat):Int)*k=i:=by simp
     have e2:((J3 i j k:Nat):Int)-((0:Nat):Int)=Builtin.Range.rangeSize i j k:=by
      unfold J3
      rw[<- rangeSize_toNat i j k]
      simp
     show IsRangeIter _ _ (i+((0:Nat):Int)*k) (((J3 i j k:Nat):Int)-((0:Nat):Int)) k
     rw[e1,e2]
     exact bJ _ rfl
    ·have e:b=(s1.heap.push { cls:=.type "range",data:=.fields #[.int i t,.int j t',.int k t''] }).objs.size:=by simpa using hb
     subst e
     exact I2.T7 (bF _) (I2.hok.fresh (bF _))
end
theorem z9U{hi c:Int}{n:Nat}{g:TG}{tb:TS}{D:Ends}{σ:St}{H:Hp}(Pv:Nat->St->Hp->Prop)(h0:Pv 0 σ H)
  (hs:∀i σ H,i<n->Pv i σ H->g (.int (hi+i*c)) σ H fun σ2 H2=>tb { D with nx:=Pv (i+1),ct:=Pv (i+1),bk:=D.nx } σ2 H2) (hd:∀σ H,Pv n σ H->D.nx σ H) :
  ∃W:Nat->Nat->St->Hp->Prop,(∃m,W 0 m σ H)/\∀i m σ H,W i m σ H->
   ((Itk hi c n).stop i H/\D.nx σ H)\/((Itk hi c n).go i H/\∃N:St->Hp->Prop,(∀σ' H',N σ' H'->∃m',m'<m/\W (i+1) m' σ' H')/\∀x H',(Itk hi c n).yld i H x H'->g x σ H' fun σ2 H2=>tb { D with nx:=N,ct:=N,bk:=D.nx } σ2 H2):=by
 refine⟨fun i m σ H=>m=n-i/\i≤n/\Pv i σ H,⟨n,by simp,cL _,h0⟩,?_⟩
 rintro i m σ H ⟨rfl,hi',p⟩
 by_cases hlt:i<n
 ·refine .inr ⟨hlt,Pv (i+1),fun σ' H' p'=>⟨n-(i+1),by omega,rfl,hlt,p'⟩,fun x H' y=>?_⟩
  obtain⟨e,y⟩:=y
  subst e y
  exact hs i σ _ hlt p
 ·have e:i=n:=by omega
  subst e
  exact .inl ⟨bF _,hd σ H p⟩
def w0u(t u:TS):TS:=fun D σ H=>∃W:St->Hp->Prop,t { D with nx:=W } σ H/\∀σ' H',W σ' H'->u D σ' H'
theorem z4f{X:Cx}{st:Stmt}{rest:List Stmt}{t u:TS}(h1:PS X st t)(h2:PSs X rest u):PSs X (st::rest) (w0u t u):=by
 intro pins s σ H D I h
 obtain⟨W,h,hw⟩:=h
 refine wpAny_execs_cons (thn (h1 pins s σ H { D with nx:=W } I h) fun f s1 q=>?_)
 cases f with
 | next=>
  obtain⟨σ',H',I',q⟩:=q
  exact h2 pins s1 σ' H' D I' (hw σ' H' q)
 | ret v=>exact q
 | brk=>exact q
 | cont=>exact q
theorem len7{us:List Value}{p:List Value->Prop}(h:us.length=7)(k:∀a b c d e f g,p [a,b,c,d,e,f,g]):p us:=by
 match us,h with
 | [a,b,c,d,e,f,g],_=>exact k a b c d e f g
end L2
namespace HT
open PySem PySem.Spec PyProof.Rows L2
section
variable{prog:Program}{w:World}{A:Around}{E:Value->Shared->Prop}{s:Shared}
end
end HT
namespace L2
open PySem PySem.Spec PyProof.Rows
section
variable{X:Cx}
theorem z2S(zs:List Str):(zs.map V.str).all z1u=true:=by
 rw[gY,eI]
 intro z _
 rfl
end
def DfK(K:PySem.W.Frag)(x q:Str)(st:Stmt)(dV:Value)(f:Addr):Prop:=∃(oc:Value) (od:Option Addr) (kV doc pm:Value) (an:Option Addr) (cdv ct:Value) (osl:Array (Option Value)),
 K.lookup f=some ⟨oc,od,.func (PySem.W.fnOf x q (z1e st) (z0Z st) (z07 st) dV kV doc pm an cdv ct),osl⟩/\PySem.W.codeIn K cdv q=true/\PySem.W.keepIn K (.ref f)=true
def DfT(K:PySem.W.Frag)(x:Str)(st:Stmt)(dV:Value)(f:Addr):Prop:=PySem.W.nsIn K mainGlobals x=some (some (.ref f))/\DfK K x x st dV f
def DfM(K:PySem.W.Frag)(C:Addr)(x q:Str)(st:Stmt)(dV:Value)(f:Addr):Prop:=PySem.W.findIn K (.ref C) x=some (some (.ref f))/\PySem.W.isFn K (.ref f)=true/\DfK K x q st dV f
def DfD(K:PySem.W.Frag)(T:Addr)(its:Array Value):Prop:=∃oct odt nt slt,K.lookup T=some ⟨oct,odt,.seq its nt,slt⟩
def DfC(K:PySem.W.Frag)(x:Str)(C:Addr):Prop:=PySem.W.nsIn K mainGlobals x=some (some (.ref C))/\PySem.W.plainGet K C Str.empty=true/\PySem.W.hasDictIn K C=true/\PySem.W.plainOver K C=true/\PySem.W.findIn K (.ref C) "__setattr__"=some (some (.builtin "object.__setattr__"))/\PySem.W.makesIn K C=true/\PySem.W.keepIn K (.ref C)=true
section
variable{K:PySem.W.Frag}{mg:Str->Option Value}{x q:Str}{st:Stmt}{f C T:Addr}{fd:FuncData}{its:Array Value}
theorem DfK.fn(h:DfK K x q st .none f):∃fd,Fun K x q st f fd:=by
 obtain⟨oc,od,kV,doc,pm,an,cdv,ct,osl,l,c,k⟩:=h
 exact⟨_,y4X l c k⟩
theorem DfK.fnD(h:DfK K x q st (.ref T) f)(d:DfD K T its):∃fd,S1 K x q st f fd T its:=by
 obtain⟨oc,od,kV,doc,pm,an,cdv,ct,osl,l,c,k⟩:=h
 obtain⟨_,_,_,_,d⟩:=d
 exact⟨_,y4g l d c k⟩
theorem z0W{h:Heap}(X:K.In h)(G:h.Ns mainGlobals mg)(a:DfT K x st .none f):∃fd,Fun K x x st f fd/\mg x=some (.ref f):=by
 obtain⟨fd,F⟩:=a.2.fn
 exact⟨fd,F,cG X G a.1⟩
theorem z1m(a:DfM K C x q st .none f):∃fd,Fun K x q st f fd/\Meth K C x f:=by
 obtain⟨fd,F⟩:=a.2.2.fn
 exact⟨fd,F,a.1,a.2.1,F.kp⟩
theorem y2K(a:DfM K C x q st (.ref T) f)(d:DfD K T its):∃fd,S1 K x q st f fd T its/\Meth K C x f:=by
 obtain⟨fd,F⟩:=a.2.2.fnD d
 exact⟨fd,F,a.1,a.2.1,F.kp⟩
theorem z8V{y:Str}(c:DfC K y C)(a:DfM K C "__init__" q st .none f):∃fd,Fun K "__init__" q st f fd/\Mk K C f:=by
 obtain⟨fd,F⟩:=a.2.2.fn
 exact⟨fd,F,c.2.2.2.2.2.1,a.1,a.2.1,c.2.2.2.2.2.2⟩
theorem DfC.cls{y:Str}(c:DfC K y C):Cls K C:=⟨c.2.1,c.2.2.1,c.2.2.2.1,c.2.2.2.2.1⟩
theorem DfC.nm{h:Heap}(X:K.In h)(G:h.Ns mainGlobals mg){y:Str}(c:DfC K y C):mg y=some (.ref C):=cG X G c.1
theorem y1w{p:Str}(F:Fun K x q st f fd)(h:∀kV doc pm an cdv ct v,bindArgs (PySem.W.fnOf x q (z1e st) (z0Z st) (z07 st) .none kV doc pm an cdv ct) ⟨[v],[]⟩=pure [(p,v)]:=by intros;rfl):∀(s:Shared) (v:Value),BindsTo s fd ⟨[v],[]⟩ [(p,v)]:=by
 obtain⟨oc,od,kV,doc,pm,an,cdv,ct,osl,rfl,l,c⟩:=F.ex
 exact fun s v=>.of_eq (h _ _ _ _ _ _ _)
theorem b0(F:Fun K x q st f fd)(h:∀kV doc pm an cdv ct,bindArgs (PySem.W.fnOf x q (z1e st) (z0Z st) (z07 st) .none kV doc pm an cdv ct) ⟨[],[]⟩=pure (List.zip [] []):=by intros;rfl):z1c K fd [] []:=
 F.binds fun kV doc pm an cdv ct us hl=>len0 (p:=fun us=>bindArgs _ ⟨us,[]⟩=pure (List.zip _ us)) hl (h kV doc pm an cdv ct)
theorem b1{p1:Str}(F:Fun K x q st f fd)(h:∀kV doc pm an cdv ct a,bindArgs (PySem.W.fnOf x q (z1e st) (z0Z st) (z07 st) .none kV doc pm an cdv ct) ⟨[a],[]⟩=pure (List.zip [p1] [a]):=by intros;rfl):z1c K fd [p1] []:=
 F.binds fun kV doc pm an cdv ct us hl=>X1 (p:=fun us=>bindArgs _ ⟨us,[]⟩=pure (List.zip _ us)) hl (h kV doc pm an cdv ct)
theorem b2{p1 p2:Str}(F:Fun K x q st f fd)(h:∀kV doc pm an cdv ct a b,bindArgs (PySem.W.fnOf x q (z1e st) (z0Z st) (z07 st) .none kV doc pm an cdv ct) ⟨[a,b],[]⟩=pure (List.zip [p1,p2] [a,b]):=by intros;rfl):z1c K fd [p1,p2] []:=
 F.binds fun kV doc pm an cdv ct us hl=>w0k (p:=fun us=>bindArgs _ ⟨us,[]⟩=pure (List.zip _ us)) hl (h kV doc pm an cdv ct)
theorem b3{p1 p2 p3:Str}(F:Fun K x q st f fd)(h:∀kV doc pm an cdv ct a b c,bindArgs (PySem.W.fnOf x q (z1e st) (z0Z st) (z07 st) .none kV doc pm an cdv ct) ⟨[a,b,c],[]⟩=pure (List.zip [p1,p2,p3] [a,b,c]):=by intros;rfl):z1c K fd [p1,p2,p3] []:=
 F.binds fun kV doc pm an cdv ct us hl=>w0n (p:=fun us=>bindArgs _ ⟨us,[]⟩=pure (List.zip _ us)) hl (h kV doc pm an cdv ct)
theorem b4{p1 p2 p3 p4:Str}(F:Fun K x q st f fd)(h:∀kV doc pm an cdv ct a b c d,bindArgs (PySem.W.fnOf x q (z1e st) (z0Z st) (z07 st) .none kV doc pm an cdv ct) ⟨[a,b,c,d],[]⟩=pure (List.zip [p1,p2,p3,p4] [a,b,c,d]):=by intros;rfl):z1c K fd [p1,p2,p3,p4] []:=
 F.binds fun kV doc pm an cdv ct us hl=>len4 (p:=fun us=>bindArgs _ ⟨us,[]⟩=pure (List.zip _ us)) hl (h kV doc pm an cdv ct)
theorem b5{p1 p2 p3 p4 p5:Str}(F:Fun K x q st f fd)(h:∀kV doc pm an cdv ct a b c d e,bindArgs (PySem.W.fnOf x q (z1e st) (z0Z st) (z07 st) .none kV doc pm an cdv ct) ⟨[a,b,c,d,e],[]⟩=pure (List.zip [p1,p2,p3,p4,p5] [a,b,c,d,e]):=by intros;rfl):z1c K fd [p1,p2,p3,p4,p5] []:=
 F.binds fun kV doc pm an cdv ct us hl=>len5 (p:=fun us=>bindArgs _ ⟨us,[]⟩=pure (List.zip _ us)) hl (h kV doc pm an cdv ct)
theorem b6{p1 p2 p3 p4 p5 p6:Str}(F:Fun K x q st f fd)(h:∀kV doc pm an cdv ct a b c d e g,bindArgs (PySem.W.fnOf x q (z1e st) (z0Z st) (z07 st) .none kV doc pm an cdv ct) ⟨[a,b,c,d,e,g],[]⟩=pure (List.zip [p1,p2,p3,p4,p5,p6] [a,b,c,d,e,g]):=by intros;rfl):z1c K fd [p1,p2,p3,p4,p5,p6] []:=
 F.binds fun kV doc pm an cdv ct us hl=>len6 (p:=fun us=>bindArgs _ ⟨us,[]⟩=pure (List.zip _ us)) hl (h kV doc pm an cdv ct)
theorem b7{p1 p2 p3 p4 p5 p6 p7:Str}(F:Fun K x q st f fd)(h:∀kV doc pm an cdv ct a b c d e g i,bindArgs (PySem.W.fnOf x q (z1e st) (z0Z st) (z07 st) .none kV doc pm an cdv ct) ⟨[a,b,c,d,e,g,i],[]⟩=pure (List.zip [p1,p2,p3,p4,p5,p6,p7] [a,b,c,d,e,g,i]):=by intros;rfl):z1c K fd [p1,p2,p3,p4,p5,p6,p7] []:=
 F.binds fun kV doc pm an cdv ct us hl=>len7 (p:=fun us=>bindArgs _ ⟨us,[]⟩=pure (List.zip _ us)) hl (h kV doc pm an cdv ct)
end
theorem calF(P:Program)(w:World)(K:PySem.W.Frag)(mg:Str->Option Value)(base:Heap){k:Nat}{x:Str}{ps:List Str}{sp:Sp}{st:Stmt}{f:Addr}{fd:FuncData}(F:Fun K x x st f fd/\mg x=some (.ref f))(a:B0 P w K mg base CX0 k f fd ps sp)(b:z1c K fd ps []):Cal P w K mg base k x ps sp:=.mk' a b F.1.kp F.2
theorem mclF(P:Program)(w:World)(K:PySem.W.Frag)(mg:Str->Option Value)(base:Heap){k:Nat}{C:Addr}{x q:Str}{ps:List Str}{sp:Sp}{st:Stmt}{f:Addr}{fd:FuncData}(c:Cls K C)(F:Fun K x q st f fd/\Meth K C x f)(a:B0 P w K mg base CX0 k f fd ps sp)(b:z1c K fd ps []):D5 P w K mg base k C x ps sp:=.mk' c a b F.2
theorem mkrF(P:Program)(w:World)(K:PySem.W.Frag)(mg:Str->Option Value)(base:Heap){k:Nat}{C:Addr}{x y q:Str}{ps:List Str}{sp:Sp}{st:Stmt}{f:Addr}{fd:FuncData}(c:mg x=some (.ref C))(F:Fun K y q st f fd/\Mk K C f)(a:B0 P w K mg base CX0 k f fd ps sp)(b:z1c K fd ps []):Mkr P w K mg base k C x ps sp:=.mk' a b F.2 c
theorem scp{N P:List Str}{sc:Scope}(h1:sc.kind=.function:=by rfl)(h2:sc.isCoroutine=false:=by rfl)(h3:sc.isGenerator=false:=by rfl)(h4:N.Nodup:=by decide +kernel)(h5:N.take P.length=P:=by rfl)
  (h6:∀x∈P,sc.names.lookup x=some .local\/sc.names.lookup x=some .cell:=by decide +kernel) (h7:∀y∈sc.names,y.2≠.free:=by decide +kernel):A7 N P sc:=⟨h1,h2,h3,h4,h5,h6,h7⟩
theorem rm{j k:Nat}{A:Around}(r:D6 k A)(h:j≤k:=by omega):D6 j A:=r.mono h
theorem Cal.up{P:Program}{w:World}{K:PySem.W.Frag}{mg:Str->Option Value}{base:Heap}{j k:Nat}{x:Str}{ps:List Str}{sp:Sp}(G:Cal P w K mg base j x ps sp)(h:j≤k:=by decide):Cal P w K mg base k x ps sp:=G.mono h
theorem D5.up{P:Program}{w:World}{K:PySem.W.Frag}{mg:Str->Option Value}{base:Heap}{j k:Nat}{C:Addr}{x:Str}{ps:List Str}{sp:Sp}(G:D5 P w K mg base j C x ps sp)(h:j≤k:=by decide):D5 P w K mg base k C x ps sp:=G.mono h
theorem O2.up{P:Program}{w:World}{K:PySem.W.Frag}{mg:Str->Option Value}{base:Heap}{j k:Nat}{C:Addr}{x:Str}{ps:List Str}{sp:Sp}{d:List V}(G:O2 P w K mg base j C x ps sp d)(h:j≤k:=by decide):O2 P w K mg base k C x ps sp d:=G.mono h
theorem Mkr.up{P:Program}{w:World}{K:PySem.W.Frag}{mg:Str->Option Value}{base:Heap}{j k:Nat}{C:Addr}{x:Str}{ps:List Str}{sp:Sp}(G:Mkr P w K mg base j C x ps sp)(h:j≤k:=by decide):Mkr P w K mg base k C x ps sp:=G.mono h
section
variable{X:Cx}{mg:Str->Option Value}
end
end L2
namespace HT
open PySem PySem.Spec PyProof.Rows L2
section
variable{prog:Program}{w:World}{A:Around}{E:Value->Shared->Prop}{s:Shared}
end
end HT
namespace L2
open PySem PySem.Spec PyProof.Rows
section
variable{X:Cx}{es:List Expr}{ec:Nat}{tp:Pos}
end
section
variable{X:Cx}
end
end L2
namespace HT
open PySem PySem.Spec PyProof.Rows L2
section
variable{prog:Program}{w:World}{A:Around}{E:Value->Shared->Prop}{s:Shared}
end
end HT
namespace L2
open PySem PySem.Spec PyProof.Rows PySem.Builtin PySem.Builtin.Str
section
variable{X:Cx}
def y4B:V->List V->Hp->VK->Prop:=fun x vs H Q=>∃z,x=.str z/\vs=[]/\tooLong (Txt.upper z).length=false/\Q (.str (Txt.upper z)) H
def y58:V->List V->Hp->VK->Prop:=fun x vs H Q=>∃z,x=.str z/\vs=[]/\tooLong (Txt.lower z).length=false/\Q (.str (Txt.lower z)) H
theorem y2k:MtM X "str.upper" y4B:=by
 intro pins s σ H x vs v us Q I rx rv h
 obtain⟨z,rfl,rfl,hz,q⟩:=h
 obtain⟨t,rfl⟩:=rx
 cases rv
 exact PySem.W.KXw.upper rfl hz fun t' k=>⟨.str _,H,I.tok _,⟨_,rfl⟩,q⟩
theorem y2R:MtM X "str.lower" y58:=by
 intro pins s σ H x vs v us Q I rx rv h
 obtain⟨z,rfl,rfl,hz,q⟩:=h
 obtain⟨t,rfl⟩:=rx
 cases rv
 exact PySem.W.KXw.lower rfl hz fun t' k=>⟨.str _,H,I.tok _,⟨_,rfl⟩,q⟩
theorem up3:∀p∈UnicodeData.severalUpper,p.2.length≤3:=by decide +kernel
theorem lo3:∀p∈UnicodeData.severalLower,p.2.length≤3:=by decide +kernel
theorem y2O{l:List (Nat×List Nat)}(h:∀p∈l,p.2.length≤3){c:Nat}{cs:List Nat}(e:l.lookup c=some cs):cs.length≤3:=by
 induction l with
 | nil=>cases e
 | cons p l ih=>
  obtain⟨a,b⟩:=p
  rw[dY] at e
  split at e
  ·cases e
   exact h (a,cs) cD
  ·exact ih (fun q hq=>h q (bW _ hq)) e
theorem z8c{o:List (Nat×Nat×Nat)}{l:List (Nat×List Nat)}(h:∀p∈l,p.2.length≤3)(c:Nat):(Unicode.image o l c).length≤3:=by
 unfold Unicode.image
 split
 ·rename_i cs e
  exact y2O h e
 ·exact(by decide:1≤3)
theorem z92(s:Array Nat)(i:Nat):(Unicode.lowerAt s i).length≤3:=by
 unfold Unicode.lowerAt
 split
 ·exact cL _
 ·split
  ·exact(by decide:1≤3)
  ·exact z8c lo3 _
theorem sum3:∀{l:List Nat},(∀n∈l,n≤3)->l.sum≤3*l.length
 | [],_=>cL _
 | a::l,h=>by
  have:=sum3 fun n hn=>h n (bW a hn)
  have:=h a cD
  rw[List.sum_cons,bT]
  omega
theorem z7a{x:Str}{f:Nat->Nat->List Nat}(h:∀i c,(f i c).length≤3):(placed x f).size≤3*x.length:=by
 unfold placed
 rw[Array.size_flatten]
 have e:=sum3 (l:=((x.cps.mapIdx fun i c=>(f i c).toArray).map Array.size).toList) fun n hn=>by
  rw[Array.toList_map,cF] at hn
  obtain⟨a,ha,rfl⟩:=hn
  obtain⟨i,hi,rfl⟩:=Array.mem_mapIdx.mp (gR.mpr ha)
  exact h _ _
 rw[eM,Array.size_map,Array.size_mapIdx] at e
 rw[<- Array.sum_toList]
 exact e
theorem y1F(x:Str):(Txt.upper x).length≤3*x.length:=z7a fun _ c=>z8c up3 c
theorem y1r(x:Str):(Txt.lower x).length≤3*x.length:=z7a fun i _=>z92 x.cps i
end
end L2
namespace L2
open PySem PySem.Spec PyProof.Rows PySem.Builtin PySem.Builtin.Str
def R1(fs:List Addr)(h h':Heap)(H':Hp)(B:Heap):Prop:=∀b o,h'.get? b=some o->b∉fs->(H' b≠none\/∃o0,h.get? b=some o0)->B.get? b=some o
def CX1(P:Program)(w:World):CXT:=fun outer H s E e s'=>∃(a:Addr) (C:Value) (H':Hp) (B:Heap) (a0:Value),e=.ref a/\s'.os=s.os/\AllBare s'.gens/\Un (frs outer) [] H H' s.heap s'.heap/\HOk P w H' s'.heap/\
 Heap.FlyingW B outer a C a0 s'.heap/\R1 (frs outer) s.heap s'.heap H' B/\E C none H'
theorem z1a.there{P:Program}{w:World}{H:Hp}{h:Heap}{a:Addr}{o:HO}(x:z1a P w H h a o):∃u,h.get? a=some u:=by
 cases o with
 | lst xs=>obtain⟨_,_,_,_,e⟩:=x;exact⟨_,e⟩
 | tup xs=>obtain⟨_,_,_,o,e,_⟩:=x;exact⟨_,e⟩
 | dK kvs=>obtain⟨_,_,_,_,o,_,_,e,_⟩:=x;exact⟨_,e⟩
 | dT kvs=>obtain⟨_,_,_,_,o,_,_,e,_⟩:=x;exact⟨_,e⟩
 | set S n=>obtain⟨o,_,_,_,e,_⟩:=x;exact⟨_,e⟩
 | ins C dx fs=>obtain⟨_,_,_,e,_⟩:=x;exact⟨_,e⟩
 | own y=>exact x
 | xd fs=>obtain⟨_,⟨o,_,_,e,_⟩,_⟩:=x;exact⟨_,e⟩
 | rng lo hi=>obtain⟨_,_,_,e⟩:=x;exact⟨_,e⟩
 | frz o u=>exact⟨_,x.1⟩
 | tbl ps=>exact⟨_,(show h.get? a=some _ from x)⟩
 | met f y=>exact⟨_,(show h.get? a=some _ from x)⟩
 | ext φ=>obtain⟨_,e,_⟩:=x;exact e
section
variable{P:Program}{w:World}{fs:List Addr}{H H':Hp}{h h1 h2 B:Heap}
theorem R1.hok(st:R1 fs h h1 H' B)(k:B.StaysIn h2)(hf:∀b∈fs,H' b=none)(ok:HOk P w H' h1):HOk P w H' h2:=fun a o e=>by
 refine(ok a o e).T4 (fun b u hb q=>?_) (fun _ q=>q) (fun _ _ q=>q)
 have hn:H' b≠none:=by
  rcases hb with rfl|hb
  ·rw[e];exact fun z=>nomatch z
  ·rw[hb];exact fun z=>nomatch z
 exact k _ _ (st b u q (fun z=>hn (hf b z)) (.inl hn))
theorem R1.un(st:R1 fs h h1 H' B)(k:B.StaysIn h2)(us:h1.UpToSlots h2)(nf:∀b∈fs,∃o,h1.get? b=some o/\∀vs,o.data≠.fields vs)(u:Un fs [] H H' h h1):Un fs [] H H' h h2 where
 keep:=fun b o q n hb hx=>k _ _ (st b o (u.keep b o q n hb hx) hb (.inr ⟨o,q⟩))
 slot:=fun b o q n hb hx=>by
  obtain⟨sl,e⟩:=u.slot b o q n hb hx
  obtain⟨o1,e1,d1⟩:=nf b hb
  rw[e] at e1
  cases e1
  obtain⟨sl2,e2⟩:=us b _ e d1
  exact⟨sl2,e2⟩
 free:=u.free
 there:=fun b o q hx=>by
  obtain⟨o1,e1⟩:=u.there b o q hx
  by_cases hb:b∈fs
  ·obtain⟨o2,e2,d2⟩:=nf b hb
   obtain⟨sl,e3⟩:=us b o2 e2 d2
   exact⟨_,e3⟩
  ·exact⟨o1,k _ _ (st b o1 e1 hb (.inr ⟨o,q⟩))⟩
 P4:=u.P4
 O9:=u.O9
 P6:=u.P6
theorem R1.next(st:R1 fs h h1 H' B)(k:B.StaysIn h2)(ok:HOk P w H' h1)(hf:∀b∈fs,H' b=none)(th:∀b o,h.get? b=some o->∃o',h1.get? b=some o'):R1 fs h h2 H' B:=fun b o q hb hc=>by
 have:∃o1,h1.get? b=some o1:=by
  rcases hc with hc|⟨o0,e0⟩
  ·cases e:H' b with
   | none=>exact absurd e hc
   | some u=>exact(ok b u e).there
  ·exact th b o0 e0
 obtain⟨o1,e1⟩:=this
 have e2:=st b o1 e1 hb hc
 rw[k _ _ e2] at q
 cases q
 exact e2
end
section
variable{X:Cx}{pins:List (Addr×Obj)}{σ:St}{H H':Hp}{s:Shared}{h1 B:Heap}
theorem Inv.Y5(I:Inv X pins σ H s){b:Addr}{o:Obj}(e:X.s₀.heap.get? b=some o):b≠X.env.locals:=fun z=>by
 subst z
 exact absurd (cH (bK e) I.ok.above) (cV _)
theorem Inv.U2(I:Inv X pins σ H s)(hx:X.ex=[])(u:Un (frs X.stack) [] H H' s.heap h1):Un X.fs [] X.H₀ H' X.s₀.heap h1 where
 keep:=fun b o q n hb hc=>u.keep b o (I.base.keep b o q n hb (by rw[hx];exact hc)) (I.base.free b o q n (by rw[hx];exact hc)) (fun z=>(bD.mp (I.P9 b z)).elim (I.Y5 q) hb) hc
 slot:=fun b o q n hb hc=>by
  obtain⟨sl,e⟩:=I.base.slot b o q n hb (by rw[hx];exact hc)
  obtain⟨sl2,e2⟩:=u.any e (I.base.free b o q n (by rw[hx];exact hc)) hc
  exact⟨sl2,e2⟩
 free:=fun b o q n hc=>by
  obtain⟨o1,e1⟩:=I.base.there b o q (by rw[hx];exact hc)
  exact u.free b o1 e1 (I.base.free b o q n (by rw[hx];exact hc)) hc
 there:=fun b o q hc=>by
  obtain⟨o1,e1⟩:=I.base.there b o q (by rw[hx];exact hc)
  exact u.there b o1 e1 hc
 P4:=fun b xs q=>u.P4 b xs (I.base.P4 b xs q)
 O9:=fun b o v q=>u.O9 b o v (I.base.O9 b o v q)
 P6:=fun b ps q=>by
  obtain⟨m,e⟩:=I.base.P6 b ps q
  obtain⟨m2,e2⟩:=u.P6 b _ e
  exact⟨m++m2,by rw[e2,Array.append_assoc]⟩
theorem Inv.U1(I:Inv X pins σ H s)(hx:X.ex=[])(hf:∀b∈frs X.stack,H' b=none)(st:R1 (frs X.stack) s.heap h1 H' B):R1 X.fs X.s₀.heap h1 H' B:=fun b o q hb hc=>by
 refine st b o q (fun z=>?_) ?_
 ·rcases hc with hc|⟨o0,e0⟩
  ·exact hc (hf b z)
  ·exact(bD.mp (I.P9 b z)).elim (I.Y5 e0) hb
 ·rcases hc with hc|⟨o0,e0⟩
  ·exact .inl hc
  ·exact .inr (I.base.there b o0 e0 (by rw[hx];exact fun z=>nomatch z))
end
section
variable{P:Program}{w:World}{K:PySem.W.Frag}{mg:Str->Option Value}{base:Heap}{N:List Str}{qual:Str}{scope:Scope}{f:Addr}{cd:Value}{A:Around}{outer:List Env}{s0:Shared}{H0:Hp}{E:XK}
theorem y4v:z5k (CX1 P w) (F0 (CX1 P w) P w K mg base N qual scope f cd A outer s0 H0 E) E:=by
 intro pins σ H s e s' I h
 obtain⟨a,C,H',B,a0,rfl,hos,hg,un,hok,fl,st,hE⟩:=h
 have hfr:=I.ok.frames
 have hf:∀b∈frs (envOfC qual scope s0.heap.objs.size f cd::outer),H' b=none:=fun b hb=>by
  obtain⟨_,o,ho,_⟩:=I.stack.mem hb
  exact un.free b o ho (I.M8 b hb) (fun z=>nomatch z)
 have nf:∀b∈frs (envOfC qual scope s0.heap.objs.size f cd::outer),∃o,s'.heap.get? b=some o/\∀vs,o.data≠.fields vs:=fun b hb=>(fl.2.2.1.mem hb).2
 show wpAny (model P w) (A.deeper (envOfC qual scope s0.heap.objs.size f cd)) (leaving (envOfC qual scope s0.heap.objs.size f cd) (.ref a)) _ _ s'
 refine wpAny_leaves_onW hfr rfl fl fun h' fl' us=>?_
 have un2:=st.un fl'.1 us nf un
 have ok2:HOk P w H' h':=st.hok fl'.1 hf hok
 have st2:=st.next fl'.1 hok hf (fun b o q=>un.there b o q (fun z=>nomatch z))
 exact⟨a,C,H',B,a0,rfl,hos.trans I.os,hg,I.U2 rfl un2,ok2,fl',I.U1 rfl hf st2,hE⟩
end
abbrev veL:List Value:=[.type "ValueError",.type "Exception",.type "BaseException",.type "object"]
structure Err(K:PySem.W.Frag)(mg:Str->Option Value)(x:Str)(C:Addr):Prop where
 mgC:mg x=some (.ref C)
 ex:PySem.W.excIn K C veL "ValueError.__new__"=true
theorem Err.obj{K:PySem.W.Frag}{mg:Str->Option Value}{x:Str}{C:Addr}{h:Heap}(E:Err K mg x C)(X:K.In h):OwnCls x C veL "ValueError.__new__" mg h:=by
 refine⟨E.mgC,?_⟩
 have q:=E.ex
 unfold PySem.W.excIn at q
 split at q
 ·rename_i dd cd sl ho
  split at q
  ·rename_i C' bm k0 k1 k2 k3 n k5 hm hs
   simp only[bX,beq_iff_eq,Bool.not_eq_true'] at q
   obtain⟨⟨⟨⟨⟨rfl,rfl⟩,hdel⟩,ht⟩,hok⟩,hni⟩:=q
   obtain⟨nm,bs,mro,ns,qn,hd,sn,sub,ab,col,del⟩:=cd
   dsimp only at hm hdel hok hni
   subst hm hdel
   have hsl:sl=#[k0,k1,k2,k3,some (.builtin "ValueError.__new__"),k5]:=by
    obtain⟨l⟩:=sl
    simp only at hs
    rw[hs]
   subst hsl
   exact⟨bm,ns,nm,qn,bs,hd,sn,sub,ab,col,dd,k0,k1,k2,k3,k5,_,X _ _ ho,.of_isNs (PySem.W.isNs_of_in X hok),PySem.W.nsMap_none_of_in X hok hni,PySem.W.tail_of_in X ht⟩
  ·cases q
 ·cases q
def y4Y(C:Addr)(E:XK)(t:TA):TS:=fun _ σ H=>t σ H fun vs H1=>vs.length≤sizeLine/\E (.ref C) none H1
section
variable{P:Program}{w:World}{K:PySem.W.Frag}{mg:Str->Option Value}{base:Heap}{N:List Str}{qual:Str}{scope:Scope}{f:Addr}{cd:Value}{A:Around}{outer:List Env}{s0:Shared}{H0:Hp}{E:XK}
theorem z2c{x:Str}{C:Addr}{e0:Expr}{es:List Expr}{t:TA}{np K9 pos:Pos}(er:Err K mg x C)(hg:Gl (F0 (CX1 P w) P w K mg base N qual scope f cd A outer s0 H0 E) x)
  (ha:PA (F0 (CX1 P w) P w K mg base N qual scope f cd A outer s0 H0 E) (e0::es) t)
  (hdb:(x == ("__debug__":Str))=false:=by decide)
  (he:starEach (e0::es) (F0 (CX1 P w) P w K mg base N qual scope f cd A outer s0 H0 E).env=(false,eval e0 (F0 (CX1 P w) P w K mg base N qual scope f cd A outer s0 H0 E).env)::starEach es (F0 (CX1 P w) P w K mg base N qual scope f cd A outer s0 H0 E).env:=by rfl)
  (hpl:(backTo K9 (starEach es (F0 (CX1 P w) P w K mg base N qual scope f cd A outer s0 H0 E).env)).any (·.1)=false:=by rfl) :
  PS (F0 (CX1 P w) P w K mg base N qual scope f cd A outer s0 H0 E) (.Raise (some (.Call (.Name x np) (e0::es) [] K9)) none pos) (y4Y C E t):=by
 intro pins s σ H D I h
 obtain⟨bm,Ns,nm,q,bs,hdct,sn,sub,ab,col,dd,k0,k1,k2,k3,k5,mN,hC,hN,hni,T⟩:=(er.obj I.mod.kin).obj
 refine wpAny_Raise_call_subT (C:=C) (nm:=nm) (q:=q) (N:=Ns) (bs:=bs) (bm:=bm) (hdct:=hdct) (sn:=sn) (sub:=sub) (ab:=ab) (col:=col) (dd:=dd) (k0:=k0) (k1:=k1) (k2:=k2) (k3:=k3) (k5:=k5)
  fL (mN:=mN) (T.hasType fL.hasBase) (I.ok.hd rfl) (by rw[he];show(false || (backTo K9 (starEach es _)).any (·.1))=false;rw[hpl];rfl) hni (z49 I hg er.mgC ⟨rfl,?_⟩ hdb)
 have hA:=ha K9 pins s σ H _ I h
 rw[he] at hA ⊢
 refine Calls.evalArgs_plain (thn hA fun us s2 ⟨vs,H2,I2,r2,hz,hE⟩=>⟨rfl,by rw[<- r2.length];exact hz,I2.bk _ _ hC,hN.keeps I2.bk,T.keeps I2.bk,fun h' e hm=>?_⟩)
 show wpAny (model P w) (A.deeper (envOfC qual scope s0.heap.objs.size f cd)) (leaving (envOfC qual scope s0.heap.objs.size f cd) (.ref e)) _ _ _
 have sk:=I2.stack
 have hfr:=I2.ok.frames
 refine wpAny_leaves_madeW (base:=PySem.W.hideAll s2.heap (frs (envOfC qual scope s0.heap.objs.size f cd::outer))) (h:=s2.heap) hfr rfl (fun b o z=>PySem.W.of_hideAll _ z) (PySem.W.funFrames_hide sk fun env hv b hb=>gQ.mpr ⟨env,hv,hb⟩) hm fun h'' t' fl _ _ us'=>?_
 have hf:∀b∈frs (envOfC qual scope s0.heap.objs.size f cd::outer),H2 b=none:=I2.M8
 have ok1:HOk P w H2 h':=I2.hok.kept hm.keeps
 have un1:Un (frs (envOfC qual scope s0.heap.objs.size f cd::outer)) [] H2 H2 s2.heap h':=Un.kept hm.keeps
 have nf:∀b∈frs (envOfC qual scope s0.heap.objs.size f cd::outer),∃o,h'.get? b=some o/\∀vs,o.data≠.fields vs:=fun b hb=>by
  obtain⟨_,o,ho,hd⟩:=sk.mem hb
  exact⟨o,hm.keeps _ _ ho,hd⟩
 have st:R1 (frs (envOfC qual scope s0.heap.objs.size f cd::outer)) s2.heap h' H2 (PySem.W.hideAll s2.heap (frs (envOfC qual scope s0.heap.objs.size f cd::outer))):=fun b o z hb hc=>by
  have:∃o1,s2.heap.get? b=some o1:=by
   rcases hc with hc|hc
   ·cases e:H2 b with
    | none=>exact absurd e hc
    | some u=>exact(I2.hok b u e).there
   ·exact hc
  obtain⟨o1,e1⟩:=this
  rw[hm.keeps _ _ e1] at z
  cases z
  exact PySem.W.hideAll_get _ e1 hb
 have un2:=st.un fl.1 us' nf un1
 have ok2:HOk P w H2 h'':=st.hok fl.1 hf ok1
 have st2:=st.next fl.1 ok1 hf (fun b o z=>⟨o,hm.keeps _ _ z⟩)
 exact⟨e,.ref C,H2,_,_,rfl,I2.os,I2.bare,I2.U2 rfl un2,ok2,fl,I2.U1 rfl hf st2,hE⟩
end
section
variable{X:Cx}{e:Expr}{es:List Expr}{te:TE}{pos:Pos}
abbrev TJ:=Str->St->Hp->(Str->Hp->Prop)->Prop
def PJ(X:Cx)(es:List Expr)(t:TJ):Prop:=∀(acc:Str) (pins:List (Addr×Obj)) (s:Shared) (σ:St) (H:Hp) (Q:Str->Hp->Prop),Inv X pins σ H s->t acc σ H Q->
 Joins (model X.prog X.w) X.A X.xe (evalEach es X.env) acc (fun out s1=>∃H',Inv X pins σ H' s1/\Q out H') s
theorem Joins.mono{M:Model}{A:Around}{E:Value->Shared->Prop}:∀{l:List (Sem Value)}{acc:Str}{Q Q':Str->Shared->Prop}{s:Shared},(∀o s,Q o s->Q' o s)->Joins M A E l acc Q s->Joins M A E l acc Q' s
 | [],acc,Q,Q',s,k,h=>k _ _ h
 | x::l,acc,Q,Q',s,k,h=>wpAny_mono h (fun v s1 ⟨y,t,e,z,r⟩=>⟨y,t,e,z,Joins.mono k r⟩) fun _ _ x=>x
theorem z9T:PJ X [] (fun acc _ H Q=>Q acc H):=fun acc pins s σ H Q I h=>⟨H,I,h⟩
theorem z2L{tr:TJ}(h:PE X e te)(hr:PJ X es tr):PJ X (e::es) (fun acc σ H Q=>te σ H fun x H1=>∃y,x=.str y/\(acc++y).length≤sizeLine/\tr (acc++y) σ H1 Q):=fun acc pins s σ H Q I q=>
 wpAny_mono (h pins s σ H _ I q) (fun v s1 ⟨x,H1,I1,rx,y,ey,hz,q1⟩=>by
  subst ey
  obtain⟨t,rfl⟩:=rx
  exact⟨y,t,rfl,hz,hr _ pins s1 σ H1 Q I1 q1⟩) fun _ _ x=>x
def w0X(t:TJ):TE:=fun σ H Q=>t Str.empty σ H fun out H1=>out.length≤sizeLine/\Q (.str out) H1
theorem z7m{e1 e2:Expr}{t:TJ}(h:PJ X (e1::e2::es) t):PE X (.JoinedStr (e1::e2::es) pos) (w0X t):=by
 intro pins s σ H Q I q
 refine wpAny_JoinedStr (Joins.mono (fun o s1 z=>?_) (h _ pins s σ H _ I q))
 obtain⟨H1,I1,hz,q1⟩:=z
 exact⟨hz,.str o,H1,I1.tok _,⟨_,rfl⟩,q1⟩
def w1Q(te:TE):TE:=fun σ H Q=>te σ H fun x H1=>∃i:Int,x=.int i/\i.natAbs.log2<1920/\Q (.str (toString i)) H1
theorem z93(h:PE X e te):PE X (.FormattedValue e (-1) none pos) (w1Q te):=by
 intro pins s σ H Q I q
 refine PyProof.Rows.FormattedValue_plain (thn (h pins s σ H _ I q) fun v s1 ⟨x,H1,I1,rx,i,ei,hd,q1⟩=>?_)
 subst ei
 obtain⟨t,rfl⟩:=rx
 exact PyProof.Rows.formatField_int_small hd ⟨.str (toString i),H1,I1.tok _,⟨_,rfl⟩,q1⟩
def Low(x:Str):Prop:=∀c∈x.cps.toList,c<16^8
theorem z9W{x:Str}(h:Low x):(reprText x).length≤10*x.length+2:=PySem.StrLaws.reprText_len x h
def w1M(te:TE):TE:=fun σ H Q=>te σ H fun x H1=>∃z:Str,x=.str z/\z.length≤1000/\Low z/\Q (.str (reprText z)) H1
theorem y3D(h:PE X e te):PE X (.FormattedValue e 114 none pos) (w1M te):=by
 intro pins s σ H Q I q
 refine wpAny_FormattedValue_repr (thn (h pins s σ H _ I q) fun v s1 ⟨x,H1,I1,rx,z,ez,hz,lo,q1⟩=>?_)
 subst ez
 obtain⟨t,rfl⟩:=rx
 have hl:=z9W lo
 have line:=sizeLine_eq
 refine wpAny_pyReprObj_gives (typeIs_str s1 z t) F.slot_str_repr F.entry_str_repr (F.args_str_repr_1 _) (gives_str_repr z t) ?_ (hx:=by omega)
 exact PyProof.Rows.formatField_str (fun t' tk=>⟨.str (reprText z),H1,(I1.tok _).tok _,⟨_,rfl⟩,q1⟩) (by omega)
end
def R0(a:Addr)(C:Value):HO:=.ext fun h=>∃o vs,h.get? a=some o/\o.cls=C/\o.data=.fields vs
theorem y3x{P:Program}{w:World}{H:Hp}{h:Heap}{a:Addr}{C:Value}{o:Obj}{vs:Array Value}(e:h.get? a=some o)(c:o.cls=C)(d:o.data=.fields vs):z1a P w H h a (R0 a C):=
 ⟨⟨o,vs,e,c,d⟩,⟨o,e⟩,fun h1 h2 ⟨o,vs,e,c,d⟩ k=>⟨o,vs,k o e,c,d⟩⟩
abbrev Cx.mark(X:Cx)(e:Value):Cx:={ X with A:=X.A.mark (some e),calm:=false,xe:=fun _ _=>False }
abbrev Cx.pnd(X:Cx)(pn:List (Addr×Obj)):Cx:={ X with pn:=pn }
section
variable{X:Cx}{pins:List (Addr×Obj)}{σ:St}{H H':Hp}{s:Shared}
theorem Cx.Ok.mark(ok:X.Ok)(e:Value):(X.mark e).Ok:=⟨ok.mod,ok.kind,ok.glob,ok.blt,ok.above,ok.inj,ok.has,ok.cab,(fun z=>nomatch z),ok.frames,ok.stk,ok.exf,ok.bs,ok.bsz,ok.noex,ok.exfs,ok.Q7,ok.frf⟩
theorem Cx.Ok.pnd(ok:X.Ok)(pn:List (Addr×Obj)):(X.pnd pn).Ok:=⟨ok.mod,ok.kind,ok.glob,ok.blt,ok.above,ok.inj,ok.has,ok.cab,ok.hd,ok.frames,ok.stk,ok.exf,ok.bs,ok.bsz,ok.noex,ok.exfs,ok.Q7,ok.frf⟩
theorem Inv.mark(I:Inv X pins σ H s)(e:Value):Inv (X.mark e) pins σ H s:=⟨I.ok.mark e,I.os,I.bare,I.base,I.loc,I.cell,I.free,I.freeC,I.pin,I.hok,I.len⟩
theorem Inv.unmark{e:Value}(I:Inv (X.mark e) pins σ H s)(ok:X.Ok):Inv X pins σ H s:=⟨ok,I.os,I.bare,I.base,I.loc,I.cell,I.free,I.freeC,I.pin,I.hok,I.len⟩
theorem Inv.pnd(I:Inv X pins σ H s):Inv (X.pnd (X.pn++pins)) [] σ H s:=⟨I.ok.pnd _,I.os,I.bare,I.base,I.loc,I.cell,I.free,I.freeC,by rw[cQ];exact I.pin,I.hok,I.len⟩
theorem Inv.P0{ps:List (Addr×Obj)}(I:Inv (X.pnd (X.pn++pins)) ps σ H s)(ok:X.Ok):Inv X pins σ H s:=⟨ok,I.os,I.bare,I.base,I.loc,I.cell,I.free,I.freeC,fun p hp=>I.pin p (dU _ hp),I.hok,I.len⟩
theorem SP.P0{D:Ends}{f:Flow}{s':Shared}{ps:List (Addr×Obj)}(ok:X.Ok)(h:SP (X.pnd (X.pn++pins)) ps D f s'):SP X pins D f s':=by
 cases f with
 | next=>obtain⟨σ',H',I,q⟩:=h;exact⟨σ',H',I.P0 ok,q⟩
 | brk=>obtain⟨σ',H',I,q⟩:=h;exact⟨σ',H',I.P0 ok,q⟩
 | cont=>obtain⟨σ',H',I,q⟩:=h;exact⟨σ',H',I.P0 ok,q⟩
 | ret u=>obtain⟨v,σ',H',I,r,q⟩:=h;exact⟨v,σ',H',I.P0 ok,r,q⟩
theorem z7G{M:Model}{A:Around}{E:Value->Shared->Prop}{env:Env}{n:Str}{pos:Pos}{m:Str->Option Value}{Q:Unit->Shared->Prop}(hl:env.kindOf n=some .local)(hn:s.heap.Ns env.locals m)
  (hp:(env.scope.kind == .class || (env.scope.kind == .module && env.locals != env.globals))=false)
  (h:∀h' m' tk,h'.Ns env.locals m'->(∀y,y≠n->m' y=m y)->Heap.SameBut env.locals s.heap h'->Q () { s with heap:=h',toks:=tk }) :
  wpAny M A (do bindName env n .none;unbindBehindTheSuite env n pos) Q E s:=by
 refine wpAny_bind (wpAny_bindName (wpAny_storeName_local hl hn (fun h₁ hn₁ hs₁=>?_) hp))
 unfold unbindBehindTheSuite
 exact wpAny_onRaise (wpAny_unbindName_local (v:=.none) hl hn₁ (by simp) hp fun h₂ u hn₂ hs₂=>h h₂ _ _ hn₂ (fun y hy=>by simp[hy]) (hs₁.trans hs₂))
theorem z4G{M:Model}{A:Around}{E:Value->Shared->Prop}{i:Nat}{x:Str}{pos:Pos}{Q:Unit->Shared->Prop}(I:Inv X pins σ H s)(hN:X.N.Nodup)(hi:X.N[i]? = some x)(hk:X.env.kindOf x=some .local)
  (h:∀s',Inv X pins (σ.set i none) H s'->Q () s'):wpAny M A (do bindName X.env x .none;unbindBehindTheSuite X.env x pos) Q E s:=by
 obtain⟨m,hn,hl⟩:=id I.loc
 have V8:(X.env.scope.kind == .class || (X.env.scope.kind == .module && X.env.locals != X.env.globals))=false:=by rw[I.ok.kind];rfl
 have hiσ:i<σ.length:=by rw[I.len];exact(cJ.mp hi).1
 have cne:=I.cne
 refine z7G hk hn V8 fun h' m' tk hn' hm' hs=>?_
 obtain⟨oL,_,_,hoL,_⟩:=id hn
 have tracked:HOk X.prog X.w H h':=fun b ob e=>by
  refine(I.hok b ob e).T4 (fun c w' hc q=>(hs.2 c ?_).trans q) (fun _ q=>q) fun _ _ q=>q
  rintro rfl
  rcases hc with rfl|hc
  ·rw[I.free] at e;cases e
  ·rw[I.free] at hc;cases hc
 refine h _ ⟨I.ok,I.os,I.bare,⟨fun b o e n hb hx=>?_,fun b o e n hb hx=>?_,I.base.free,fun b o e hx=>?_,I.base.P4,I.base.O9,I.base.P6⟩,⟨_,hn',fun j y v' e1 e2 e3=>?_⟩,fun y c e=>?_,I.free,I.freeC,fun p hp=>?_,tracked,by simpa using I.len⟩
 ·exact(hs.2 b (I.Y5 e)).trans (I.base.keep b o e n hb hx)
 ·obtain⟨sl,e1⟩:=I.base.slot b o e n hb hx
  exact⟨sl,(hs.2 b (I.Y5 e)).trans e1⟩
 ·obtain⟨o',e1⟩:=I.base.there b o e hx
  exact⟨o',(hs.2 b (I.Y5 e)).trans e1⟩
 ·by_cases hj:j=i
  ·subst hj
   rw[fZ hiσ] at e2
   cases e2
  ·rw[fH (cT hj)] at e2
   obtain⟨u',r',q⟩:=hl j y v' e1 e2 e3
   refine⟨u',r',?_⟩
   rcases q with ⟨k,e⟩|⟨k,c,e,z⟩
   ·have:y≠x:=fun e=>hj (z7J hN e1 (e ▸ hi))
    exact .inl ⟨k,by rw[hm' y this];exact e⟩
   ·exact .inr ⟨k,c,e,z.sameBut hs (cne y c e)⟩
 ·obtain⟨w',z⟩:=I.cell y c e
  exact⟨w',z.sameBut hs (cne y c e)⟩
 ·obtain⟨e,n,ne,nf,d⟩:=I.pin p hp
  exact⟨(hs.2 p.1 ne).trans e,n,ne,nf,d⟩
end
theorem z9i{M:Model}{A:Around}{E:Value->Shared->Prop}{h:Heap}{g:Array GenState}{d:Drawn}{t:Nat}{os:OsState}{e C D N ND:Addr}{oe:Obj}{nm q nmD qD:Str}{bs bm bsD bmD:List Value}{hdct w0c:Bool}{sn snD:List Str}{sub subD:List Value}{ab abD:Bool}{col colD:Option Bool}{dd ddD:Option Addr}{k0 k1 k2 k3 k5 j0 j1 j2 j3 j5:Option Value}{newId w0H:String}{Q:Bool->Shared->Prop}
  (hC:h.get? C=some (excClassObj nm q C N bs bm hdct sn sub ab col dd k0 k1 k2 k3 k5 newId)) (hD:h.get? D=some (excClassObj nmD qD D ND bsD bmD w0c snD subD abD colD ddD j0 j1 j2 j3 j5 w0H))
  (he:h.get? e=some oe) (V8:oe.cls=.ref C) (S7:bmD.contains (.type "BaseException")=true) (hcC:(Value.ref C::bm).contains (.ref D)=true)
  (hq:Q true ⟨h,g,d,t,os⟩):wpAny M A (excMatches (.ref e) (.ref D)) Q E ⟨h,g,d,t,os⟩:=by
 have hcB:(Value.ref D::bmD).contains (.type "BaseException")=true:=by rw[List.contains_cons,S7,Bool.or_true]
 have f:=tc_notTuple
 unfold excMatches
 repeat (first|(with_reducible refine wpAny_loadPart_at he ?_;rw[V8])|with_reducible refine wpAny_loadPart_at hD ?_|(with_reducible refine wpAny_isSubtype_exc hD ?_;rw[hcB])|(with_reducible refine wpAny_isSubtype_exc hC ?_;rw[hcC])|wp_step)
 exact hq
def xw(X:Cx)(EX:St->Value->Hp->Prop):Value->Shared->Prop:=fun e s'=>∃pins σ H s,Inv X pins σ H s/\CX1 X.prog X.w X.stack H s (fun C _ H'=>EX σ C H') e s'
structure Under(K:PySem.W.Frag)(C D:Addr):Prop where
 ex:PySem.W.excIn K C veL "ValueError.__new__"=true
 sub:PySem.W.mroIn K C (.ref D)=some true
def tTry(K:PySem.W.Frag)(i:Nat)(D:Addr)(tb:(St->Value->Hp->Prop)->TS)(ts:TS):TS:=fun Ds σ H=>∃EX:St->Value->Hp->Prop,tb EX Ds σ H/\∀σ' C H',EX σ' C H'->(∃c,C=.ref c/\Under K c D)/\
 ∀a,H' a=none->ts { nx:=fun σ H=>Ds.nx (σ.set i none) H,rt:=Ds.rt,bk:=fun σ H=>Ds.bk (σ.set i none) H,ct:=fun σ H=>Ds.ct (σ.set i none) H } (σ'.set i (some (.ref a))) (upd H' a (R0 a C))
theorem y4R{X:Cx}{x n:Str}{i:Nat}{D:Addr}{body w09:List Stmt}{b0:Stmt}{np hpos pos:Pos}{tb:(St->Value->Hp->Prop)->TS}{ts:TS}(er:Err X.K X.mg x D)(hg:Gl X x)(hN:X.N.Nodup)(hi:X.N[i]? = some n)
  (hl:X.env.scope.names.lookup n=some .local) (hst:X.stack=X.env::X.outer) (hfr:X.env.frame=some X.env.locals)
  (hb:∀pn EX,PSs ((X.pnd pn).M9 (xw (X.pnd pn) EX)) body (tb EX)) (hs:∀pn e,PSs ((X.pnd pn).mark e) (b0::w09) ts) (hdb:(x == ("__debug__":Str))=false:=by decide) :
  PS X (.Try body [.ExceptHandler (some (.Name x np)) (some n) (b0::w09) hpos] [] [] pos) (tTry X.K i D tb ts):=by
 intro pins s σ H Ds I h
 obtain⟨EX,hb',hh⟩:=h
 refine wpAny_Try_except (wpAny_mono (hb _ EX [] s σ H Ds (I.pnd.M9 _) hb') (fun f s1 q=>?_) fun e s1 q=>?_)
 ·have q':SP X pins Ds f s1:=q.J4.P0 I.ok
  cases f with
  | next=>exact wpAny_execs_nil q'
  | ret v=>exact q'
  | brk=>exact q'
  | cont=>exact q'
 obtain⟨ps,σ1,H1,s0,I1,a,C,H',B,a0,rfl,hos,hgn,un,hok,fl,st,hE⟩:=q
 obtain⟨⟨c,rfl,hc⟩,hsu⟩:=hh σ1 C H' hE
 have hF:X.A.frames=some (X.env::X.outer):=by rw[<- hst];exact I.ok.frames
 have fl0:Heap.FlyingW B (X.env::X.outer) a (.ref c) a0 s1.heap:=by rw[<- hst];exact fl
 have hf:∀b∈frs X.stack,H' b=none:=fun b hb=>by
  obtain⟨_,o,ho,_⟩:=I1.stack.mem hb
  exact un.free b o ho (I1.M8 b hb) (fun z=>nomatch z)
 have nf:∀b∈frs X.stack,∃o,s1.heap.get? b=some o/\∀vs,o.data≠.fields vs:=fun b hb=>(fl.2.2.1.mem hb).2
 obtain⟨oe0,vs0,he0,_,hd0,_⟩:=fl.first
 have hna:a∉frs X.stack:=fun z=>by
  obtain⟨o,e,d⟩:=nf a z
  rw[he0] at e
  cases e
  exact d vs0 hd0
 have hBa:B.get? a=none:=fl.2.1
 have X9:H' a=none:=by
  cases e:H' a with
  | none=>rfl
  | some u=>
   have:=st a oe0 he0 hna (.inl (by rw[e];exact fun z=>nomatch z))
   rw[hBa] at this
   cases this
 have hs0a:∀o,s0.heap.get? a≠some o:=fun o e=>by
  have:=st a oe0 he0 hna (.inr ⟨o,e⟩)
  rw[hBa] at this
  cases this
 refine wpAny_looks_onW hF hfr fl0 fun h4 held4 us4=>?_
 refine wpAny_landsW held4 fun h5 fl5 us5=>?_
 have un5:Un (frs X.stack) [] H1 H' s0.heap h5:=st.un fl5.1 (us4.trans us5) nf un
 have ok5:HOk X.prog X.w H' h5:=st.hok fl5.1 hf hok
 have I5:Inv (X.pnd (X.pn++pins)) ps σ1 H' { s1 with heap:=h5 }:=I1.Z7 (s':={ s1 with heap:=h5 }) hos un5 ok5 hgn (fun b z=>nomatch z)
 have M5:=I5.mark (.ref a)
 refine wpAny_handleBy_cons (codeAny_handlers_test (z49 (X:=(X.pnd (X.pn++pins)).mark (.ref a)) M5 hg er.mgC ?_ hdb)) (by intro q;cases q)
 obtain⟨bm,Ns,nm,q,bs,hdct,sn,sub,ab,col,dd,k0,k1,k2,k3,k5,mN,hC,hN',hni,T⟩:=((⟨rfl,hc.ex⟩:Err X.K (fun _=>some (.ref c)) x c).obj I5.kIn).obj
 obtain⟨bmD,NsD,nmD,qD,bsD,w0c,snD,subD,abD,colD,ddD,j0,j1,j2,j3,j5,mND,hD,hND,hniD,TD⟩:=(er.obj I5.kIn).obj
 obtain⟨oe5,vs5,he5,hc5,hd5,_⟩:=fl5.first
 have hcD:(Value.ref c::bm).contains (.ref D)=true:=by
  obtain⟨cd,e1,e2⟩:=Option.bind_eq_some_iff.mp hc.sub
  unfold PySem.W.clsIn at e1
  split at e1
  ·rename_i c' d' cd' sl' ho
   cases e1
   have:=I5.kIn _ _ ho
   rw[hC] at this
   cases this
   split at e2
   ·cases e2
   ·exact Option.some.inj e2
  ·cases e1
 refine z9i hC hD he5 hc5 (TD.hasType fL.hasBase) hcD ?_
 refine codeAny_handlers_suite_as ?_
 refine lands_againW fl5 fun h6 fl6 us6=>?_
 have V6:Un (frs X.stack) [] H1 H' s0.heap h6:=st.un fl6.1 ((us4.trans us5).trans us6) nf un
 have ok6':HOk X.prog X.w H' h6:=st.hok fl6.1 hf hok
 obtain⟨oe6,vs6,he6,hc6,hd6,_⟩:=fl6.first
 have un6:Un (frs X.stack) [] H1 (upd H' a (R0 a (.ref c))) s0.heap h6:=
  ⟨V6.keep,V6.slot,fun b o q n hx=>by
   rw[z0b (fun z=>by rw[z] at q;exact hs0a o q)]
   exact V6.free b o q n hx,V6.there,fun b xs q=>by
   have:=V6.P4 b xs q
   rw[z0b (fun z=>by rw[z,X9] at this;cases this)]
   exact this,fun b o u q=>by
   have:=V6.O9 b o u q
   rw[z0b (fun z=>by rw[z,X9] at this;cases this)]
   exact this,fun b ps q=>by
   obtain⟨m,e⟩:=V6.P6 b ps q
   exact⟨m,by rw[z0b (fun z=>by rw[z,X9] at e;cases e)];exact e⟩⟩
 have keep:∀{b:Addr}{u:HO},H' b=some u->upd H' a (R0 a (.ref c)) b=some u:=fun {b u} e=>by
  rw[z0b (fun z=>by rw[z,X9] at e;cases e)]
  exact e
 have ok6:HOk X.prog X.w (upd H' a (R0 a (.ref c))) h6:=fun b o e=>by
  by_cases hba:b=a
  ·subst hba
   rw[A1] at e
   cases e
   exact y3x he6 hc6 hd6
  ·rw[z0b hba] at e
   exact(ok6' b o e).T4 (fun _ _ _ q=>q) (fun _ q=>keep q) (fun _ _ q=>keep q)
 have I6:Inv (X.pnd (X.pn++pins)) ps σ1 (upd H' a (R0 a (.ref c))) { s1 with heap:=h6 }:=I1.Z7 (s':={ s1 with heap:=h6 }) hos un6 ok6 hgn (fun b z=>nomatch z)
 refine z7y (X:=(X.pnd (X.pn++pins)).mark (.ref a)) (I6.mark (.ref a)) hN hi (.inl hl) (v:=.ref a) rfl (fun s7 I7=>?_) (.inr hl)
 refine wpAny_mono (hs (X.pn++pins) (.ref a) ps s7 _ _ _ I7 (hsu a X9)) (fun f s8 q=>?_) (fun _ _ z=>z.elim)
 have ok1:(X.pnd (X.pn++pins)).Ok:=I.ok.pnd _
 cases f with
 | next=>
  obtain⟨σ',H2,J,q⟩:=q
  exact z4G (X:=X.pnd (X.pn++pins)) (J.unmark ok1) hN hi hl fun s9 J9=>⟨_,_,J9.P0 I.ok,q⟩
 | brk=>
  obtain⟨σ',H2,J,q⟩:=q
  exact z4G (X:=X.pnd (X.pn++pins)) (J.unmark ok1) hN hi hl fun s9 J9=>⟨_,_,J9.P0 I.ok,q⟩
 | cont=>
  obtain⟨σ',H2,J,q⟩:=q
  exact z4G (X:=X.pnd (X.pn++pins)) (J.unmark ok1) hN hi hl fun s9 J9=>⟨_,_,J9.P0 I.ok,q⟩
 | ret u=>
  obtain⟨v,σ',H2,J,r,q⟩:=q
  exact z4G (X:=X.pnd (X.pn++pins)) (J.unmark ok1) hN hi hl fun s9 J9=>⟨v,_,_,J9.P0 I.ok,r,q⟩
structure Thr(X:Cx)(EX:St->XK):Prop where
 pass:∀(pins:List (Addr×Obj)) (σ:St) (H:Hp) (s:Shared) (e:Value) (s':Shared),Inv X pins σ H s->CX1 X.prog X.w X.stack H s (EX σ) e s'->X.xe e s'
theorem z2b{P:Program}{w:World}{K:PySem.W.Frag}{mg:Str->Option Value}{base:Heap}{N:List Str}{qual:Str}{scope:Scope}{f:Addr}{cd:Value}{A:Around}{outer:List Env}{s0:Shared}{H0:Hp}{E:XK}:Thr (F0 (CX1 P w) P w K mg base N qual scope f cd A outer s0 H0 E) (fun _=>E):=⟨y4v⟩
theorem z65{X:Cx}{EX:St->Value->Hp->Prop}:Thr (X.M9 (xw X EX)) (fun σ C _ H'=>EX σ C H'):=⟨fun pins σ H s e s' I h=>⟨pins,σ,H,s,I.J4,h⟩⟩
section
variable{X:Cx}{k:Nat}{f C:Addr}{fd:FuncData}{ps:List Str}{sp:Sp}{EX:St->XK}{x m:Str}{p pos apos:Pos}{e o:Expr}{es:List Expr}{ta:TE}{t:TA}
theorem z8Q{pins:List (Addr×Obj)}{σ:St}{H:Hp}{s:Shared}{Q:VK}{us:List Value}{vs:List V}(T:Thr X EX)(F:B0 X.prog X.w X.K X.mg X.base (CX1 X.prog X.w) k f fd ps sp)(hr:D6 k X.A)(hb:z1c X.K fd ps [])
  (I:Inv X pins σ H s) (r:Vals vs us) (h:sp vs H Q (EX σ)):wpAny (model X.prog X.w) X.A (call (.ref f) us) (EP X pins σ Q) X.xe s:=by
 have hl:(us++[]).length=ps.length:=by rw[cQ,<- r.length];exact F.len _ _ _ _ h
 have r2:Vals (vs++[]) (us++[]):=r.append .nil
 rw[<- cQ vs] at h
 refine wpAny_call (codeAny_mono (F.run X.A X.stack s H ⟨us,[]⟩ (us++[]) (vs++[]) Q (EX σ) hr I.w0p (hb s us I.kIn hl) r2 h) fun r s' hq=>?_)
 cases r with
 | error e=>exact T.pass pins σ H s e s' I hq
 | ok fl=>
  cases fl with
  | ret u=>exact I.after hq
  | next=>exact False.elim hq
  | brk=>exact False.elim hq
  | cont=>exact False.elim hq
def y4S(sp:Sp)(EX:St->XK)(t:TA):TE:=fun σ H Q=>t σ H fun vs H1=>sp vs H1 Q (EX σ)
def y3m(C:Addr)(m:Str)(sp:Sp)(EX:St->XK)(ta:TE)(t:TA):TE:=fun σ H Q=>ta σ H fun x H1=>∃a dx fs,x=.ref a/\H1 a=some (.ins C dx fs)/\fs.lookup m=none/\
 t σ H1 fun vs H2=>sp (x::vs) H2 Q (EX σ)
structure U9(P:Program)(w:World)(K:PySem.W.Frag)(mg:Str->Option Value)(base:Heap)(k:Nat)(x:Str)(ps:List Str)(sp:Sp):Prop where
 ex:∃(f:Addr) (fd:FuncData),B0 P w K mg base (CX1 P w) k f fd ps sp/\z1c K fd ps []/\PySem.W.keepIn K (.ref f)=true/\mg x=some (.ref f)
structure F6(P:Program)(w:World)(K:PySem.W.Frag)(mg:Str->Option Value)(base:Heap)(k:Nat)(C:Addr)(m:Str)(ps:List Str)(sp:Sp):Prop where
 cl:Cls K C
 ex:∃(f:Addr) (fd:FuncData),B0 P w K mg base (CX1 P w) k f fd ps sp/\z1c K fd ps []/\Meth K C m f
structure MkrX(P:Program)(w:World)(K:PySem.W.Frag)(mg:Str->Option Value)(base:Heap)(k:Nat)(C:Addr)(x:Str)(ps:List Str)(sp:Sp):Prop where
 ex:∃(f:Addr) (fd:FuncData),B0 P w K mg base (CX1 P w) k f fd ps sp/\z1c K fd ps []/\Mk K C f/\mg x=some (.ref C)
theorem z96(T:Thr X EX)(G:U9 X.prog X.w X.K X.mg X.base k x ps sp)(hr:D6 k X.A)(hg:Gl X x)(ha:PA X (e::es) t)
  (hdb:(x == ("__debug__":Str))=false:=by decide) (he:starEach (e::es) X.env=(false,eval e X.env)::starEach es X.env:=by rfl) (hpl:(backTo pos (starEach es X.env)).any (·.1)=false:=by rfl) :
  PE X (.Call (.Name x p) (e::es) [] pos) (y4S sp EX t):=by
 obtain⟨f,fd,F,hb,hk,hm⟩:=G.ex
 intro pins s σ H Q I h
 refine wpAny_Call_Name_kw (z49 I hg hm ?_ hdb)
 refine eV (h₀:=X.base) I.ok.mod.kin hk (thn (ha pos pins s σ H _ I h) fun us s1 ⟨vs,H1,I1,r,q⟩=>⟨I1.kIn,?_⟩) he hpl
 exact z8Q T F hr hb I1 r q
theorem z1S{pl:Sem Bool}(T:Thr X EX)(G:F6 X.prog X.w X.K X.mg X.base k C m ps sp)(hr:D6 k X.A)(he:PE X o ta)(ha:PA X (e::es) t)
  (hst:starEach (e::es) X.env=(false,eval e X.env)::starEach es X.env:=by rfl) (hpl:(backTo pos (starEach es X.env)).any (·.1)=false:=by rfl)
  (ht:eval (.Call (.Attribute o m apos) (e::es) [] pos) X.env=(do
   let ov <- eval o X.env
   standAt apos.atName
   let (f,first) <- holding [ov] (getMethod ov m pl)
   callWith pos f first (backTo pos (starEach (e::es) X.env)) (backToKw pos (keywordEach [] X.env))):=by rfl) :
  PE X (.Call (.Attribute o m apos) (e::es) [] pos) (y3m C m sp EX ta t):=by
 obtain⟨f,fd,F,hb,hm⟩:=G.ex
 intro pins s σ H Q I h
 refine dM (pl:=pl) (thn (he pins s σ H _ I h) fun u s1 hz=>?_) ht
 obtain⟨x,H1,I1,rx,a,dx,fs,ex,ea,l,q⟩:=hz
 subst ex
 obtain rfl:u=Value.ref a:=rx
 refine z2T I1 ea G.cl hm l ?_
 refine eV (first:=[.ref a]) (h₀:=X.base) I.ok.mod.kin hm.kp (thn (ha pos pins s1 σ H1 _ I1 q) fun us s2 ⟨vs,H2,I2,r,q2⟩=>⟨I2.kIn,?_⟩) hst hpl
 exact z8Q (us:=.ref a::us) (vs:=.ref a::vs) T F hr hb I2 (.cons rfl r) q2
theorem z8u{pl:Sem Bool}(T:Thr X EX)(G:F6 X.prog X.w X.K X.mg X.base k C m ps sp)(hr:D6 k X.A)(he:PE X o ta)
  (ht:eval (.Call (.Attribute o m apos) [] [] pos) X.env=(do
   let ov <- eval o X.env
   standAt apos.atName
   let (f,first) <- holding [ov] (getMethod ov m pl)
   callWith pos f first (backTo pos (starEach [] X.env)) (backToKw pos (keywordEach [] X.env))):=by rfl) :
  PE X (.Call (.Attribute o m apos) [] [] pos) (y3m C m sp EX ta X0):=by
 obtain⟨f,fd,F,hb,hm⟩:=G.ex
 intro pins s σ H Q I h
 refine dM (pl:=pl) (thn (he pins s σ H _ I h) fun u s1 hz=>?_) ht
 obtain⟨x,H1,I1,rx,a,dx,fs,ex,ea,l,q⟩:=hz
 subst ex
 obtain rfl:u=Value.ref a:=rx
 refine z2T I1 ea G.cl hm l ?_
 exact PySem.W.callWith_K0 (first:=[.ref a]) I1.kIn hm.kp (z8Q (us:=[.ref a]) (vs:=[.ref a]) T F hr hb I1 (.cons rfl .nil) q)
end
section
variable{P:Program}{w:World}{K:PySem.W.Frag}{mg:Str->Option Value}{base:Heap}
theorem B0.toX{k:Nat}{f:Addr}{fd:FuncData}{ps:List Str}{sp:Sp}(F:B0 P w K mg base CX0 k f fd ps sp):B0 P w K mg base (CX1 P w) k f fd ps sp:=
 ⟨F.len,fun A outer s H args us vs Q E hr he hb hv hs=>codeAny_mono (F.run A outer s H args us vs Q E hr he hb hv hs) fun r s' q=>by
  cases r with
  | error e=>exact False.elim q
  | ok fl=>cases fl<;>exact q⟩
theorem Fun.okX{x qual:Str}{st:Stmt}{f:Addr}{fd:FuncData}{N ps:List Str}{k:Nat}{sp:Sp}(F:Fun K x qual st f fd)(S:A7 N ps (z07 st))(len:∀vs H Q E,sp vs H Q E->vs.length=ps.length)
  (Q9:∀(cdv:Value) (A:Around) (outer:List Env) (s:Shared) (H:Hp) (vs:List V) (Q:VK) (E:XK),D6 k (A.deeper (envOfC qual (z07 st) s.heap.objs.size f cdv))->sp vs H Q E->
   ∃t,PSs (F0 (CX1 P w) P w K mg base N qual (z07 st) f cdv A outer s H E) (z0Z st) t/\t { nx:=fun _ H'=>Q .non H',rt:=Q } (z4a N vs) H):B0 P w K mg base (CX1 P w) (k+1) f fd ps sp:=by
 obtain⟨oc,od,kV,doc,pm,an,cdv,ct,osl,rfl,lk,hcd⟩:=F.ex
 exact y2u lk hcd S len fun A outer s H vs Q E hr hsp=>Q9 cdv A outer s H vs Q E hr hsp
theorem w1k(P:Program)(w:World)(K:PySem.W.Frag)(mg:Str->Option Value)(base:Heap){k:Nat}{x:Str}{ps:List Str}{sp:Sp}{st:Stmt}{f:Addr}{fd:FuncData}(F:Fun K x x st f fd/\mg x=some (.ref f))(a:B0 P w K mg base (CX1 P w) k f fd ps sp)(b:z1c K fd ps []):U9 P w K mg base k x ps sp:=⟨f,fd,a,b,F.1.kp,F.2⟩
theorem w1h(P:Program)(w:World)(K:PySem.W.Frag)(mg:Str->Option Value)(base:Heap){k:Nat}{C:Addr}{x q:Str}{ps:List Str}{sp:Sp}{st:Stmt}{f:Addr}{fd:FuncData}(c:Cls K C)(F:Fun K x q st f fd/\Meth K C x f)(a:B0 P w K mg base (CX1 P w) k f fd ps sp)(b:z1c K fd ps []):F6 P w K mg base k C x ps sp:=⟨c,f,fd,a,b,F.2⟩
theorem w13(P:Program)(w:World)(K:PySem.W.Frag)(mg:Str->Option Value)(base:Heap){k:Nat}{C:Addr}{x y q:Str}{ps:List Str}{sp:Sp}{st:Stmt}{f:Addr}{fd:FuncData}(c:mg x=some (.ref C))(F:Fun K y q st f fd/\Mk K C f)(a:B0 P w K mg base (CX1 P w) k f fd ps sp)(b:z1c K fd ps []):MkrX P w K mg base k C x ps sp:=⟨f,fd,a,b,F.2,c⟩
theorem U9.up{j k:Nat}{x:Str}{ps:List Str}{sp:Sp}(G:U9 P w K mg base j x ps sp)(h:j≤k:=by decide):U9 P w K mg base k x ps sp:=let ⟨f,fd,a,b,c⟩:=G.ex;⟨f,fd,a.mono h,b,c⟩
theorem F6.up{j k:Nat}{C:Addr}{x:Str}{ps:List Str}{sp:Sp}(G:F6 P w K mg base j C x ps sp)(h:j≤k:=by decide):F6 P w K mg base k C x ps sp:=let ⟨f,fd,a,b,c⟩:=G.ex;⟨G.cl,f,fd,a.mono h,b,c⟩
end
end L2
namespace L2
open PySem PySem.Spec PyProof.Rows PySem.W PySem.Calls PySem.Builtin PySem.Builtin.ObjectAttr PySem.Builtin.Getset_descriptor
section
variable{prog:Program}{w:World}{A:Around}{E:Value->Shared->Prop}{s:Shared}{K:Frag}{a C:Addr}{o:Obj}
theorem y4z{R:Result->Shared->Prop}{tp:Value}(X:K.In s.heap)(hx:s.heap.get? a=some o)(hc:o.cls=.ref C)(hm:mroIn K C (.type "object")=some true)
  (h:R (.ok (.ret (.ref C))) s):codeAny (model prog w) A (.call (.builtin "getset_descriptor.__get__") ⟨[.builtin "object.__class__",.ref a,tp],[]⟩) R s:=by
 obtain⟨hh,g,dr,t,os⟩:=s
 have L0:Looks (model prog w) hh (typeOf (.ref a)) (.ref C):=hc ▸ (Looks.ld hx).andThen .now
 have L1:=looks_mroIn (M:=model prog w) X hm
 refine codeAny_call_builtin KF.slot_gs.plain KF.entry_gs (KF.slot_gs.check _ _ _ _ _ _ _ _ KF.type_class (KF.args_gs _ _ _) ?_)
 unfold Builtin.«getset_descriptor.__get__» descrGet
 rw[dga_obj]
 refine wpAny_bind (wpAny_pure ?_)
 unfold descrGetter descrCheckInstance descrNameAndClass isInstance
 simp only[KF.owner_class]
 repeat lk
 refine⟨Code.quiet_builtin _ (by decide +kernel),codeAny_builtin KF.entry_class ?_⟩
 unfold Builtin.«object.__class__» shownTypeOf
 repeat lk
 exact h
theorem y2s{tk:Tok}{Q:Fin->Shared->Prop}(X:K.In s.heap)(hx:s.heap.get? a=some o)(hc:o.cls=.ref C)(ha:findIn K (.ref C) "__class__"=some (some (.builtin "object.__class__")))
  (hm:mroIn K C (.type "object")=some true) (hq:Q (.done (.ret (.ref C))) s) :
  wpAny (model prog w) A (Builtin.«object.__getattribute__» ⟨[.ref a,.str "__class__" tk],[]⟩) Q E s:=by
 obtain⟨hh,g,dr,t,os⟩:=s
 have L0:Looks (model prog w) hh (typeOf (.ref a)) (.ref C):=hc ▸ (Looks.ld hx).andThen .now
 have L3:=looks_findIn (M:=model prog w) X ha
 have hT5:(⟨hh,g,dr,t,os⟩:Shared).TypeIs (.builtin "object.__class__") "getset_descriptor":=F.typeOf_object_class
 have f5:=F.typeOf_object_class
 have f6:=F.slot_gs_get.lookup
 have f7:=F.slot_gs_set.lookup
 repeat (any_goals (first|assumption|(with_reducible refine wpAny_loadPart_at hx ?_;rw[hc])|with_reducible refine L3.at ?_|wp_step))
 refine y4z X hx hc hm ?_
 repeat (any_goals (first|assumption|wp_step))
theorem y2E{M:Model}{w0f:Value}{Q:Unit->Shared->Prop}(X:K.In s.heap)(hx:s.heap.get? a=some o)(hc:o.cls=.ref C)(hb:mroIn K C (.type "BaseException")=some true)(hq:Q () s) :
  wpAny M A (checkBuiltinCall "BaseException.__getattribute__" ⟨[.ref a,w0f],[]⟩) Q E s:=by
 obtain⟨hh,g,dr,t,os⟩:=s
 have L1:=looks_mroIn (M:=M) X hb
 have hk:builtinKind "BaseException.__getattribute__"=some .slot:=by decide +kernel
 have w0t:splitId "BaseException.__getattribute__"=some ("BaseException","__getattribute__"):=by decide +kernel
 have ha:=F.args_bexc_ga (.ref a) w0f
 simp only[checkBuiltinCall,hk,w0t]
 refine wpAny_bind ?_
 ·unfold isInstance
  repeat (first|(with_reducible refine wpAny_loadPart_at hx ?_;rw[hc])|with_reducible refine L1.at ?_|wp_step)
  exact hq
theorem w1m{tk:Tok}{fill expr:Bool}{Q:Value->Shared->Prop}(X:K.In s.heap)(hx:s.heap.get? a=some o)(hc:o.cls=.ref C)(ha:findIn K (.ref C) "__class__"=some (some (.builtin "object.__class__")))
  (hga:findIn K (.ref C) "__getattribute__"=some (some (.builtin "BaseException.__getattribute__"))) (hgn:findIn K (.ref C) "__getattr__"=some none)
  (hm:mroIn K C (.type "object")=some true) (hb:mroIn K C (.type "BaseException")=some true) (hq:Q (.ref C) s) :
  wpAny (model prog w) A (getAttrBy (.ref a) (.str "__class__" tk) fill expr) Q E s:=by
 obtain⟨hh,g,dr,t,os⟩:=s
 have L1:=looks_findIn (M:=model prog w) X hga
 have L2:=looks_findIn (M:=model prog w) X hgn
 have f3:=F.excAttr_ValueError.ga.bind (.ref a)
 have hx0:(expr && onTheHeap (Value.builtin "BaseException.__getattribute__"))=false:=by cases expr<;>rfl
 have hx2:(Value.builtin "BaseException.__getattribute__" == Value.builtin "object.__getattribute__")=false:=by decide +kernel
 have hx1:(onTheHeap (Value.ref C) && Value.builtin "BaseException.__getattribute__" == Value.builtin "object.__getattribute__")=false:=by rw[hx2];rfl
 repeat (any_goals (first|assumption|(with_reducible refine wpAny_loadPart_at hx ?_;rw[hc])|with_reducible refine L1.at ?_|with_reducible refine L2.at ?_|wp_step))
 refine codeAny_call_builtin F.excAttr_ValueError.ga.plain F.entry_bexc_ga (y2E X hx hc hb (y2s X hx hc ha hm ?_))
 repeat (any_goals (first|assumption|wp_step))
theorem y4a{Q:Option Value->Shared->Prop}(X:K.In s.heap)(hx:s.heap.get? a=some o)(hc:o.cls=.ref C)(ha:findIn K (.ref C) "__class__"=some (some (.builtin "object.__class__")))
  (hga:findIn K (.ref C) "__getattribute__"=some (some (.builtin "BaseException.__getattribute__"))) (hgn:findIn K (.ref C) "__getattr__"=some none)
  (hm:mroIn K C (.type "object")=some true) (hb:mroIn K C (.type "BaseException")=some true) (hq:Q (some (.ref C)) { s with toks:=s.toks+1 }) :
  wpAny (model prog w) A (getAttr? (.ref a) "__class__") Q E s:=by
 obtain⟨hh,g,dr,t,os⟩:=s
 unfold getAttr? getAttrBy?
 refine wpAny_bind (wpAny_mkText (wpAny_bind (wpAny_attempt (w1m (s:=⟨hh,g,dr,t+1,os⟩) X hx hc ha hga hgn hm hb ?_))))
 exact wpAny_pure hq
end
def y35(K:Frag)(B c:Addr):Bool:=excIn K c veL "ValueError.__new__" && (mroIn K c (.ref B) == some true) && (mroIn K c (.type "object") == some true) && (mroIn K c (.type "BaseException") == some true) && (findIn K (.ref c) "__class__" == some (some (.builtin "object.__class__"))) &&
 (findIn K (.ref c) "__getattribute__" == some (some (.builtin "BaseException.__getattribute__"))) && (findIn K (.ref c) "__getattr__" == some none) && (kitOne K (.ref c) (.type "ValueError") == some true) && (clsIn K c).isSome
def z80(K:Frag)(B:Addr)(cs:List Addr):Bool:=cs.all (y35 K B) && cs.all (fun c=>cs.all fun d=>kitOne K (.ref c) (.ref d) == some (c == d)) && decide cs.Nodup
structure w01(K:Frag)(C:Addr):Prop where
 ha:findIn K (.ref C) "__class__"=some (some (.builtin "object.__class__"))
 hga:findIn K (.ref C) "__getattribute__"=some (some (.builtin "BaseException.__getattribute__"))
 hgn:findIn K (.ref C) "__getattr__"=some none
 hm:mroIn K C (.type "object")=some true
 hb:mroIn K C (.type "BaseException")=some true
 hv:kitOne K (.ref C) (.type "ValueError")=some true
 cl:(clsIn K C).isSome=true
structure V1(K:Frag)(B:Addr)(cs:List Addr):Prop where
 chk:z80 K B cs=true
theorem V1.one{K:Frag}{B:Addr}{cs:List Addr}(E:V1 K B cs){c:Addr}(h:c∈cs):Under K c B/\w01 K c:=by
 have q:=E.chk
 unfold z80 at q
 rw[bX,bX] at q
 have:=eI.mp q.1.1 c h
 unfold y35 at this
 simp only[bX,beq_iff_eq] at this
 obtain⟨⟨⟨⟨⟨⟨⟨⟨h1,h2⟩,h3⟩,h4⟩,h5⟩,h6⟩,h7⟩,h8⟩,h9⟩:=this
 exact⟨⟨h1,h2⟩,h5,h6,h7,h3,h4,h8,h9⟩
theorem V1.two{K:Frag}{B:Addr}{cs:List Addr}(E:V1 K B cs){c d:Addr}(h:c∈cs)(h':d∈cs):kitOne K (.ref c) (.ref d)=some (c == d):=by
 have q:=E.chk
 unfold z80 at q
 rw[bX,bX] at q
 exact beq_iff_eq.mp (eI.mp (eI.mp q.1.2 c h) d h')
theorem V1.nd{K:Frag}{B:Addr}{cs:List Addr}(E:V1 K B cs):cs.Nodup:=by
 have q:=E.chk
 unfold z80 at q
 rw[bX] at q
 exact of_decide_eq_true q.2
theorem z9q{K:Frag}{a D:Addr}(x:w01 K D):KitX K (.ref a) (.ref D) (fun h=>∃o vs,h.get? a=some o/\o.cls=.ref D/\o.data=.fields vs) where
 ty:=fun M h _ ⟨o,vs,e,c,_⟩=>c ▸ (Looks.ld e).andThen .now
 it:=fun _ _ X _=>by
  have hcD:=x.cl
  unfold clsIn at hcD
  split at hcD
  ·rename_i c' d' cd' sl' ho
   intro A' Q' E' s' k q
   unfold isType loadHead
   exact wpAny_bind (wpAny_loadPart (k _ _ (X _ _ ho)) (wpAny_pure q))
  ·cases hcD
 ne:=fun h tp dd its n sl X htp=>by
  have hcD:=x.cl
  refine Bool.eq_false_iff.mpr fun q=>?_
  have e:D=tp:=Value.ref.inj (beq_iff_eq.mp q)
  subst e
  unfold clsIn at hcD
  split at hcD
  ·rename_i c' d' cd' sl' ho
   have z:=(X _ _ ho).symm.trans htp
   cases z
  ·cases hcD
 ca:=fun X ⟨o,vs,e,c,_⟩ k=>y4a X e c x.ha x.hga x.hgn x.hm x.hb k
section
variable{X:Cx}
theorem z1z{K:Frag}(hK:X.K=K):z2O X (.builtin "isinstance") (fun xs H Q=>∃a C D b,xs=[.ref a,.ref D]/\H a=some (R0 a (.ref C))/\w01 K C/\kitOne K (.ref C) (.ref D)=some b/\Q (.bl b) H):=by
 subst hK
 intro pins s σ H xs us Q I r h
 obtain⟨a,C,D,b,rfl,ea,xc,e,q⟩:=h
 obtain⟨u,w',rfl,rx,ry⟩:=y08 r
 cases (show u=Value.ref a from rx)
 cases (show w'=Value.ref D from ry)
 have ok:z1a X.prog X.w H s.heap a (R0 a (.ref C)):=I.hok a _ ea
 exact kia_one (z9q xc) I.kIn ok.1 e (fun z=>nomatch z) fun tk=>⟨.bl b,H,I.tok _,rfl,q⟩
theorem y1o{K:Frag}(hK:X.K=K):z2O X (.builtin "isinstance") (fun xs H Q=>∃a C T b,xs=[.ref a,.ty T]/\H a=some (R0 a (.ref C))/\w01 K C/\kitOne K (.ref C) (.type T)=some b/\Q (.bl b) H):=by
 subst hK
 intro pins s σ H xs us Q I r h
 obtain⟨a,C,T,b,rfl,ea,xc,e,q⟩:=h
 obtain⟨u,w',rfl,rx,ry⟩:=y08 r
 cases (show u=Value.ref a from rx)
 cases (show w'=Value.type T from ry)
 have ok:z1a X.prog X.w H s.heap a (R0 a (.ref C)):=I.hok a _ ea
 exact kia_one (z9q xc) I.kIn ok.1 e (fun z=>nomatch z) fun tk=>⟨.bl b,H,I.tok _,rfl,q⟩
theorem z3j{x:Str}{C:Addr}{pos:Pos}(hg:Gl X x)(hm:X.mg x=some (.ref C))(hdb:(x == ("__debug__":Str))=false:=by decide):PE X (.Name x pos) (fun _ H Q=>Q (.ref C) H):=fun pins s σ H Q I h=>
 z49 I hg hm ⟨.ref C,H,I,rfl,h⟩ hdb
end
end L2
namespace L2
open PySem PySem.Spec PyProof.Rows
section
variable{X:Cx}
def y3N(K:PySem.W.Frag):V->List V->Hp->VK->Prop:=fun x vs H Q=>∃(l:Addr) (zs:List V) (z:V) (j:Nat),x=.ref l/\vs=[z]/\SqL K H l zs/\z1u z=true/\zs.all z1u=true/\j<zs.length/\eqV (zs.getD j .non) z=true/\(∀m,m<j->eqV (zs.getD m .non) z=false)/\Q (.int (j:Nat)) H
theorem y15:MtM X "list.index" (y3N X.K):=by
 intro pins s σ H x vs v us Q I rx rv h
 obtain⟨l,zs,z,j,rfl,rfl,hL,fz,fzs,hj,ej,hno,q⟩:=h
 cases rx
 obtain⟨u,rfl,ru⟩:=rv.one
 obtain⟨its,r,pl,hz⟩:=I.list hL
 have lr:=r.length
 have line:=sizeLine_eq
 have at_:∀(m:Nat) (hm:m<its.toArray.size),eqU z its.toArray[m]=eqV (zs.getD m .non) z:=fun m hm=>by
  have hm':m<its.length:=by rw[bI] at hm;exact hm
  obtain⟨q1,q2⟩:=z7s r fzs m hm'
  rw[List.getElem_toArray]
  exact z8h q1 q2
 obtain⟨⟨cls,dd,data,sl⟩,ho,hc,n,hd⟩:=id pl.isList
 simp only at hc hd
 subst hc hd
 have hjs:j<its.toArray.size:=by rw[bI];omega
 refine call_meets F.slot_list_index ⟨_,ho,rfl⟩ F.entry_list_index (F.args_list_index_2 _ _)
  (SeqAt.list_indexAt l its.toArray n dd sl u (eqU z) j hjs (by omega) (by rw[at_ j hjs];exact ej) (fun m hm hlt=>by rw[at_ m hm];exact hno m hlt))
  ⟨ho,fun w hw=>z38 ru fz r fzs w (by simpa using hw),?_⟩
 exact⟨.int j,H,I.tok _,⟨_,rfl⟩,q⟩
def y1O(K:PySem.W.Frag):V->List V->Hp->VK->Prop:=fun x vs H Q=>∃(l:Addr) (zs:List V) (z:V),x=.ref l/\vs=[z]/\SqL K H l zs/\z1u z=true/\zs.all z1u=true/\Q (.int (zs.countP fun y=>eqV y z:Nat)) H
theorem z9B{z:V}:∀{zs:List V}{us:List Value},Vals zs us->zs.all z1u=true->us.countP (eqU z)=zs.countP fun y=>eqV y z
 | _,_,.nil,_=>rfl
 | x::xs,u::us,.cons r t,f=>by
  rw[dQ,bX] at f
  rw[List.countP_cons,List.countP_cons,z9B t f.2,z8h r f.1]
theorem z7Q:MtM X "list.count" (y1O X.K):=by
 intro pins s σ H x vs v us Q I rx rv h
 obtain⟨l,zs,z,rfl,rfl,hL,fz,fzs,q⟩:=h
 cases rx
 obtain⟨u,rfl,ru⟩:=rv.one
 obtain⟨its,r,pl,hz⟩:=I.list hL
 obtain⟨⟨cls,dd,data,sl⟩,ho,hc,n,hd⟩:=id pl.isList
 simp only at hc hd
 subst hc hd
 refine call_meets F.slot_list_count ⟨_,ho,rfl⟩ F.entry_list_count (F.args_list_count_2 _ _) (SeqAt.list_countAt l its.toArray n dd sl u (eqU z)) ⟨ho,fun w hw=>z38 ru fz r fzs w (by simpa using hw),?_⟩
 refine⟨.int (zs.countP fun y=>eqV y z:Nat),H,I.tok _,?_,q⟩
 rw[<- z9B r fzs]
 exact⟨_,rfl⟩
end
theorem y41:bootBuiltins "ValueError"=some (.type "ValueError"):=by first|rfl|kernel_rfl
def F3(a b:Sp):Sp:=fun vs H Q E=>a vs H Q E\/b vs H Q E
theorem B0.or{P:Program}{w:World}{K:PySem.W.Frag}{mg:Str->Option Value}{base:Heap}{CX:CXT}{k:Nat}{f:Addr}{fd:FuncData}{ps:List Str}{a b:Sp}(F:B0 P w K mg base CX k f fd ps a)(G:B0 P w K mg base CX k f fd ps b):B0 P w K mg base CX k f fd ps (F3 a b):=
 ⟨fun vs H Q E h=>h.elim (F.len vs H Q E) (G.len vs H Q E),fun A outer s H args us vs Q E hr he hb hv h=>h.elim (F.run A outer s H args us vs Q E hr he hb hv) (G.run A outer s H args us vs Q E hr he hb hv)⟩
theorem y4V{X:Cx}{K:PySem.W.Frag}{o e:Expr}{es:List Expr}{to:TE}{t:TA}{name:Str}{apos K9:Pos}{T id:String}{r:V->List V->Hp->VK->Prop}(hK:X.K=K)(pa:PlainAttrs T)(slot:Slot T name id)(hty:typeOf (.builtin id)=pure (.type "method_descriptor"))(hm:MtR X id r)(ho:PE X o to)(ha:PA X (e::es) t)
  (S7:attributeBase o name X.env (eval o X.env)=eval o X.env:=by rfl)
  (w0I:((backTo K9 (starEach (e::es) X.env)).all (fun x=>!x.1) && (backToKw K9 (keywordEach [] X.env)).all (fun x=>x.1.isSome)
   && decide ((e::es).length+([]:List Keyword).length+(if ([]:List Keyword).isEmpty then 0 else 1)<30))=true:=by rfl)
  (V3:(apos.endLine == K9.line)=true:=by rfl) (hs:starEach (e::es) X.env=(false,eval e X.env)::starEach es X.env:=by rfl) (S6:(backTo K9 (starEach es X.env)).any (·.1)=false:=by rfl) :
  PE X (.Call (.Attribute o name apos) (e::es) [] K9) (tBM K T r to t):=by
 subst hK
 exact z2h pa slot hty hm ho ha S7 w0I V3 hs S6
theorem y09{X:Cx}{K:PySem.W.Frag}(hK:X.K=K):MtM X "list.count" (y1O K):=by
 subst hK
 exact z7Q
def y28(B:Heap)(l:List Env)(a:Addr)(C a0:Value)(L:Addr)(h:Heap):Prop:=Heap.FlyingW B l a C a0 h\/Heap.HeldW B l a C a0 L h
theorem y28.stays{B h:Heap}{l:List Env}{a L:Addr}{C a0:Value}(x:y28 B l a C a0 L h):B.StaysIn h/\B.get? a=none/\h.FunFrames B l:=x.elim (fun y=>⟨y.1,y.2.1,y.2.2.1⟩) fun y=>⟨y.1,y.2.1,y.2.2.1⟩
def xh(X:Cx)(EX:St->Value->Hp->Prop):Value->Shared->Prop:=fun e s'=>∃(pins:List (Addr×Obj)) (σ:St) (H:Hp) (s:Shared),Inv X pins σ H s/\∃(a:Addr) (C:Value) (H':Hp) (B:Heap) (a0:Value),e=.ref a/\s'.os=s.os/\AllBare s'.gens/\Un (frs X.stack) [] H H' s.heap s'.heap/\HOk X.prog X.w H' s'.heap/\
 y28 B X.stack a C a0 X.env.locals s'.heap/\R1 (frs X.stack) s.heap s'.heap H' B/\EX σ C H'
theorem w1C{X:Cx}{EX:St->Value->Hp->Prop}{e:Value}{s':Shared}(h:xw X EX e s'):xh X EX e s':=by
 obtain⟨pins,σ,H,s,I,a,C,H',B,a0,h1,h2,h3,h4,h5,h6,h7,h8⟩:=h
 exact⟨pins,σ,H,s,I,a,C,H',B,a0,h1,h2,h3,h4,h5,.inl h6,h7,h8⟩
theorem y4h{X:Cx}{EX:St->Value->Hp->Prop}{pins:List (Addr×Obj)}{σ:St}{H H':Hp}{s s':Shared}{a:Addr}{C a0:Value}{B h2:Heap}(I:Inv X pins σ H s)(hos:s'.os=s.os)(hg:AllBare s'.gens)(un:Un (frs X.stack) [] H H' s.heap s'.heap)(hok:HOk X.prog X.w H' s'.heap)
  (fl:s'.heap.FunFrames B X.stack) (st:R1 (frs X.stack) s.heap s'.heap H' B) (hE:EX σ C H') (us:s'.heap.UpToSlots h2) (fl2:y28 B X.stack a C a0 X.env.locals h2):xh X EX (.ref a) { s' with heap:=h2 }:=by
 have hf:∀b∈frs X.stack,H' b=none:=fun b hb=>by
  obtain⟨_,o,ho,_⟩:=I.stack.mem hb
  exact un.free b o ho (I.M8 b hb) (fun z=>nomatch z)
 have nf:∀b∈frs X.stack,∃o,s'.heap.get? b=some o/\∀vs,o.data≠.fields vs:=fun b hb=>(fl.mem hb).2
 have k:=fl2.stays.1
 exact⟨pins,σ,H,s,I,a,C,H',B,a0,rfl,hos,hg,st.un k us nf un,st.hok k hf hok,fl2,st.next k hok hf (fun b o q=>un.there b o q (fun z=>nomatch z)),hE⟩
theorem y1C{X:Cx}{EX:St->Value->Hp->Prop}(hst:X.stack=X.env::X.outer)(hfr:X.env.frame=some X.env.locals):PassesOwn (model X.prog X.w) X.A X.env (xh X EX):=by
 intro e s' h
 obtain⟨pins,σ,H,s,I,a,C,H',B,a0,rfl,hos,hg,un,hok,fl,st,hE⟩:=h
 have hF:X.A.frames=some (X.env::X.outer):=by rw[<- hst];exact I.ok.frames
 have back:∀{h2:Heap},s'.heap.UpToSlots h2->Heap.HeldW B X.stack a C a0 X.env.locals h2->cameBackBy (model X.prog X.w) X.A X.env (xh X EX) (.ref a) { s' with heap:=h2 }:=by
  intro h2 us hh
  obtain⟨f1,f2,f3,oe,vs,T,oT,ts,he,V8,hd,h1,hnT,hTe,hT,hdT,h3⟩:=hh
  have hsz3:3<ts.size:=(Array.getElem?_eq_some_iff.mp h3).1
  unfold cameBackBy
  refine wpAny_bind (wpAny_field he hd h1 ?_)
  rw[if_neg (show ¬((Value.ref T == Value.none)=true) from by simp)]
  first|refine wpAny_bind (wpAny_pure ?_)|skip
  unfold setFlight
  refine wpAny_bind (wpAny_field he hd h1 ?_)
  rw[if_pos (show(Value.ref T != Value.none)=true from by simp)]
  rw[hfr]
  have other:∀b,b≠T->(h2.update T (Obj.mapFields (·.setIfInBounds 3 ((some X.env.locals:Option Addr).elim Value.none fun f=>rawInt f)))).get? b=h2.get? b:=fun b hb=>cN _ _ (cT hb)
  have U4:∀b o,h2.get? b=some o->(∀vs,o.data≠.fields vs)->b≠T:=fun b o hb hnf q=>by
   rw[q,hT] at hb;injection hb with hb;subst hb;exact hnf ts hdT
  refine wpAny_setField hT hdT hsz3 ?_
  refine y4h (s':=s') (a0:=a0) I hos hg un hok fl.stays.2.2 st hE (us.trans fun b o hb hnf=>⟨o.slots,(other b (U4 b o hb hnf)).trans hb⟩) (.inr ⟨fun b o hbo=>(other b fun q=>by rw[q,hnT] at hbo;cases hbo).trans (f1 b o hbo),f2,f3.of_keeps fun b o hb hnf=>⟨o,(other b (U4 b o hb hnf)).trans hb,rfl⟩,?_⟩)
  exact⟨oe,vs,T,_,_,(other a (cT hTe)).trans he,V8,hd,h1,hnT,hTe,dG _ hT (Obj.isFreed_of_fields (Obj.data_mapFields hdT _)),Obj.data_mapFields hdT _,by simp[hsz3]⟩
 unfold notedBy
 rcases fl with fl|fl
 ·have fl0:Heap.FlyingW B (X.env::X.outer) a C a0 s'.heap:=by rw[<- hst];exact fl
  refine wpAny_looks_onW hF hfr fl0 fun h4 held us=>back us ?_
  rw[hst]
  exact held
 ·refine wpAny_noteFrame_againW hfr fl.2.2.2 ?_
  exact back (Heap.UpToSlots.refl _) fl
theorem PS.imp{X:Cx}{E1:Value->Shared->Prop}{st:Stmt}{t:TS}(h:PS (X.M9 E1) st t)(hi:∀e s',E1 e s'->X.xe e s'):PS X st t:=fun pins s σ H D I hw=>
 wpAny_mono (h pins s σ H D (I.M9 _) hw) (fun _ _ q=>q.J4) hi
section
variable{P:Program}{w:World}{K:PySem.W.Frag}{mg:Str->Option Value}{base:Heap}{N:List Str}{qual:Str}{scope:Scope}{f:Addr}{cd:Value}{A:Around}{outer:List Env}{s0:Shared}{H0:Hp}{E:XK}
theorem y0x{e:Value}{s':Shared}(h:xh (F0 (CX1 P w) P w K mg base N qual scope f cd A outer s0 H0 E) (fun _ C H'=>E C none H') e s'):(F0 (CX1 P w) P w K mg base N qual scope f cd A outer s0 H0 E).xe e s':=by
 obtain⟨pins,σ,H,s,I,a,C,H',B,a0,rfl,hos,hg,un,hok,fl,st,hE⟩:=h
 rcases fl with fl|fl
 ·exact y4v pins σ H s (.ref a) s' I ⟨a,C,H',B,a0,rfl,hos,hg,un,hok,fl,st,hE⟩
 have hf:∀b∈frs (envOfC qual scope s0.heap.objs.size f cd::outer),H' b=none:=fun b hb=>by
  obtain⟨_,o,ho,_⟩:=I.stack.mem hb
  exact un.free b o ho (I.M8 b hb) (fun z=>nomatch z)
 have nf:∀b∈frs (envOfC qual scope s0.heap.objs.size f cd::outer),∃o,s'.heap.get? b=some o/\∀vs,o.data≠.fields vs:=fun b hb=>(fl.2.2.1.mem hb).2
 show wpAny (model P w) (A.deeper (envOfC qual scope s0.heap.objs.size f cd)) (leaving (envOfC qual scope s0.heap.objs.size f cd) (.ref a)) _ _ s'
 unfold leaving
 refine wpAny_bind (wpAny_noteFrame_againW (L:=s0.heap.objs.size) rfl fl.2.2.2 ?_)
 refine wpAny_landsW fl fun h' fl' us=>?_
 have un2:=st.un fl'.1 us nf un
 have ok2:HOk P w H' h':=st.hok fl'.1 hf hok
 have st2:=st.next fl'.1 hok hf (fun b o q=>un.there b o q (fun z=>nomatch z))
 exact⟨a,C,H',B,a0,rfl,hos.trans I.os,hg,I.U2 rfl un2,ok2,⟨fl'.1,fl'.2.1,fl'.2.2.1.2.2,fl'.2.2.2⟩,I.U1 rfl hf st2,hE⟩
theorem z9E:Thr ((F0 (CX1 P w) P w K mg base N qual scope f cd A outer s0 H0 E).M9 (xh (F0 (CX1 P w) P w K mg base N qual scope f cd A outer s0 H0 E) (fun _ C H'=>E C none H'))) (fun _=>E):=
 ⟨fun pins σ H s e s' I h=>w1C ⟨pins,σ,H,s,I.J4,h⟩⟩
theorem z8I{iter tg:Expr}{body:List Stmt}{wi:TI}{g:TG}{tb:TS}{pos:Pos}
  (hi:PI ((F0 (CX1 P w) P w K mg base N qual scope f cd A outer s0 H0 E).M9 (xh (F0 (CX1 P w) P w K mg base N qual scope f cd A outer s0 H0 E) (fun _ C H'=>E C none H'))) tg iter wi)
  (hg:PG ((F0 (CX1 P w) P w K mg base N qual scope f cd A outer s0 H0 E).M9 (xh (F0 (CX1 P w) P w K mg base N qual scope f cd A outer s0 H0 E) (fun _ C H'=>E C none H'))) tg g)
  (hb:PSs ((F0 (CX1 P w) P w K mg base N qual scope f cd A outer s0 H0 E).M9 (xh (F0 (CX1 P w) P w K mg base N qual scope f cd A outer s0 H0 E) (fun _ C H'=>E C none H'))) body tb)
  (hs:∀x,foldedSetIterable iter (F0 (CX1 P w) P w K mg base N qual scope f cd A outer s0 H0 E).env x=pure x:=by intro _;rfl) :
  PS (F0 (CX1 P w) P w K mg base N qual scope f cd A outer s0 H0 E) (.For tg iter body [] pos) (tFor wi g tb):=
 (z1g (y1C (X:=F0 (CX1 P w) P w K mg base N qual scope f cd A outer s0 H0 E) rfl rfl) rfl hi hg hb hs).imp fun e s' h=>y0x h
end
end L2
namespace My
open PySem L2
def top(i:Nat):Stmt:=PySem.Challenge.pw_backissues_k26_book_refuses.main.body.getD i (.Pass ⟨0,0,0,0⟩)
abbrev y4E:Stmt:=top 0
abbrev z1X:Stmt:=top 22
abbrev z1V:Stmt:=top 23
abbrev z2p:Stmt:=top 24
abbrev z19:Stmt:=top 25
abbrev z4e:Stmt:=top 27
abbrev z6j:Stmt:=top 29
abbrev z1t:Stmt:=top 31
abbrev z1A:Stmt:=top 32
abbrev z2I:Stmt:=top 33
abbrev z2N:Stmt:=top 34
abbrev z27:Stmt:=z18 (top 35) 0
abbrev z0X:Stmt:=z18 (top 35) 1
abbrev z2e:Stmt:=z18 (top 35) 2
abbrev z2J:Stmt:=z18 (top 35) 3
abbrev z2f:Stmt:=z18 (top 35) 4
abbrev z2u:Stmt:=z18 (top 37) 0
abbrev z4R:Stmt:=z18 (top 37) 1
abbrev z57:Stmt:=z18 (top 37) 2
abbrev z3d:Stmt:=z18 (top 37) 3
abbrev z6E:Stmt:=z18 (top 37) 4
abbrev z6A:Stmt:=z18 (top 37) 5
abbrev z1C:Stmt:=top 41
abbrev z2F:Stmt:=z18 (top 42) 0
abbrev z0F:Stmt:=z18 (top 42) 1
abbrev z0M:Stmt:=z18 (top 42) 2
abbrev z2Y:Stmt:=z18 (top 42) 3
abbrev z2a:Stmt:=z18 (top 42) 4
abbrev z3H:Stmt:=z18 (top 42) 5
abbrev z3a:Stmt:=z18 (top 42) 6
abbrev z44:Stmt:=z18 (top 42) 7
abbrev z3S:Stmt:=z18 (top 42) 8
abbrev z30:Stmt:=z18 (top 42) 9
abbrev z7j:Stmt:=top 44
abbrev z4Z:Stmt:=top 45
abbrev z6q:Stmt:=top 46
abbrev z3N:Stmt:=top 47
abbrev z47:Stmt:=top 48
abbrev z2W:Stmt:=top 49
abbrev z2X:Stmt:=top 50
abbrev z4V:Stmt:=top 51
abbrev z41:Stmt:=top 52
abbrev z3I:Stmt:=top 53
abbrev z48:Stmt:=top 54
abbrev z46:Stmt:=top 55
abbrev z3B:Stmt:=top 56
abbrev z4X:Stmt:=top 57
abbrev z3y:Stmt:=top 58
abbrev z3g:Stmt:=top 59
abbrev z52:Stmt:=top 60
abbrev z4d:Stmt:=top 61
abbrev w0o:Stmt:=top 62
abbrev z1U:List Str:=["names"]
abbrev z1W:List Str:=["reach"]
abbrev z1I:List Str:=["names","reach"]
abbrev z0I:List Str:=["names","name"]
abbrev z4c:List Str:=["number","reach"]
abbrev z4A:List Str:=["sets","reach"]
abbrev z0U:List Str:=["value"]
abbrev z13:List Str:=["names","rows"]
abbrev z21:List Str:=["names","rows"]
abbrev z23:List Str:=["rows"]
abbrev z28:List Str:=["self","names","reach"]
abbrev z0p:List Str:=["self","rows"]
abbrev z1G:List Str:=["self","rows"]
abbrev z2M:List Str:=["self"]
abbrev z0E:List Str:=["self","number"]
abbrev z1Q:List Str:=["self","names","reach"]
abbrev z3T:List Str:=["self","issue"]
abbrev z3Q:List Str:=["self"]
abbrev z4t:List Str:=["self"]
abbrev z1B:List Str:=["readers"]
abbrev z2E:List Str:=["self","names","reach","readers"]
abbrev z0f:List Str:=["self","reader"]
abbrev z0j:List Str:=["self"]
abbrev z2n:List Str:=["self","rows"]
abbrev z1R:List Str:=["self","reader","number"]
abbrev z3q:List Str:=["self"]
abbrev z3c:List Str:=["self","number"]
abbrev z42:List Str:=["self"]
abbrev z2R:List Str:=["self","which"]
abbrev z1k:List Str:=["self","reader","deed"]
abbrev z5E:List Str:=["_law_script","_law_k"]
abbrev z2U:List Str:=["_law_cell","_law_size"]
abbrev z4x:List Str:=["_law_cell","_law_many","_law_size"]
abbrev z1D:List Str:=["_law_found","_law_due"]
abbrev z4g:List Str:=["_law_cell","_law_many"]
abbrev z34:List Str:=["_law_names_here","_law_cell"]
abbrev z2Z:List Str:=["_law_times"]
abbrev z59:List Str:=["_law_names_here","_law_cell","_law_many"]
abbrev z4h:List Str:=["_law_figure","_law_place"]
abbrev z3E:List Str:=["_law_sets_here","_law_cell"]
abbrev z4j:List Str:=["_law_script"]
abbrev z4i:List Str:=["_law_cells","_law_many","_law_first","_law_readers"]
abbrev z3v:List Str:=["_law_log","_law_reader","_law_done_here"]
abbrev z4W:List Str:=["_law_book","_law_log","_law_rows"]
abbrev z3C:List Str:=["_law_good","_law_names_here","_law_cell"]
abbrev z3e:List Str:=["_law_rows","_law_names_here"]
abbrev z3J:List Str:=["_law_deed","_law_thing","_law_one","_law_two"]
abbrev z4l:List Str:=["_law_book","_law_readers","_law_written","_law_deeds_here"]
abbrev plaw:List Str:=["_law_script"]
theorem z2C:A7 ["names"] z1U (z07 z1X):=scp
theorem z2z:A7 ["reach"] z1W (z07 z1V):=scp
theorem z3k:A7 ["names","reach"] z1I (z07 z2p):=scp
theorem z14:A7 ["names","name"] z0I (z07 z19):=scp
theorem z5f:A7 ["number","reach"] z4c (z07 z4e):=scp
theorem z7c:A7 ["sets","reach","number","ahead"] z4A (z07 z6j):=scp
theorem z1f:A7 ["value"] z0U (z07 z1t):=scp
theorem z1s:A7 ["names","rows","set_names","name","value"] z13 (z07 z1A):=scp
theorem z3D:A7 ["names","rows","values"] z21 (z07 z2I):=scp
theorem z3t:A7 ["rows"] z23 (z07 z2N):=scp
theorem z2P:A7 ["self","names","reach"] z28 (z07 z27):=scp
theorem z0S:A7 ["self","rows"] z0p (z07 z0X):=scp
theorem z22:A7 ["self","rows","number","sets"] z1G (z07 z2e):=scp
theorem z3z:A7 ["self"] z2M (z07 z2J):=scp
theorem z20:A7 ["self","number"] z0E (z07 z2f):=scp
theorem z3i:A7 ["self","names","reach"] z1Q (z07 z2u):=scp
theorem z6l:A7 ["self","issue","number"] z3T (z07 z4R):=scp
theorem z5Y:A7 ["self"] z3Q (z07 z57):=scp
theorem z3V:A7 ["self"] z4t (z07 z3d):=scp
theorem z29:A7 ["readers"] z1B (z07 z1C):=scp
theorem z3F:A7 ["self","names","reach","readers"] z2E (z07 z2F):=scp
theorem z0C:A7 ["self","reader"] z0f (z07 z0F):=scp
theorem z0K:A7 ["self"] z0j (z07 z0M):=scp
theorem z2y:A7 ["self","rows","number"] z2n (z07 z2Y):=scp
theorem z1Y:A7 ["self","reader","number","getting","lacked"] z1R (z07 z2a):=scp
theorem z4r:A7 ["self"] z3q (z07 z3H):=scp
theorem z2D:A7 ["self","number"] z3c (z07 z3a):=scp
theorem z5e:A7 ["self"] z42 (z07 z44):=scp
theorem z3f:A7 ["self","which"] z2R (z07 z3S):=scp
theorem z2x:A7 ["self","reader","deed","behind","told","past"] z1k (z07 z30):=scp
theorem z8y:A7 ["_law_script","_law_k"] z5E (z07 z7j):=scp
theorem z6t:A7 ["_law_cell","_law_size","_law_once"] z2U (z07 z4Z):=scp
theorem z7d:A7 ["_law_cell","_law_many","_law_size","_law_rest","_law_mixed","_law_figures","_law_k"] z4x (z07 z6q):=scp
theorem z6b:A7 ["_law_found","_law_due","_law_k"] z1D (z07 z3N):=scp
theorem z5o:A7 ["_law_cell","_law_many","_law_signs","_law_turn","_law_stem","_law_spot"] z4g (z07 z47):=scp
theorem z3Z:A7 ["_law_names_here","_law_cell","_law_near","_law_far","_law_made"] z34 (z07 z2W):=scp
theorem z3U:A7 ["_law_times","_law_many","_law_turn"] z2Z (z07 z2X):=scp
theorem z5O:A7 ["_law_names_here","_law_cell","_law_many","_law_size","_law_sets_here","_law_figure","_law_mask","_law_chosen","_law_name"] z59 (z07 z4V):=scp
theorem z5x:A7 ["_law_figure","_law_place"] z4h (z07 z41):=scp
theorem z4o:A7 ["_law_sets_here","_law_cell","_law_figures","_law_rows","_law_k","_law_one","_law_place"] z3E (z07 z3I):=scp
theorem z5g:A7 ["_law_script"] z4j (z07 z48):=scp
theorem z5m:A7 ["_law_cells","_law_many","_law_first","_law_readers","_law_log","_law_written","_law_cell","_law_rest","_law_k","_law_reader","_law_number","_law_jump","_law_other"] z4i (z07 z46):=scp
theorem z4p:A7 ["_law_log","_law_reader","_law_done_here","_law_had","_law_deed"] z3v (z07 z3B):=scp
theorem z6f:A7 ["_law_book","_law_log","_law_rows","_law_deed"] z4W (z07 z4X):=scp
theorem z4E:A7 ["_law_good","_law_names_here","_law_cell","_law_rows","_law_spoils","_law_name","_law_place","_law_k"] z3C (z07 z3y):=scp
theorem z40:A7 ["_law_rows","_law_names_here","_law_places"] z3e (z07 z3g):=scp
theorem z6e:A7 ["_law_deed","_law_thing","_law_one","_law_two","_law_flags","_law_fine","e","_law_words"] z3J (z07 z52):=scp
theorem z5h:A7 ["_law_book","_law_readers","_law_written","_law_deeds_here","_law_outside","_law_reader","_law_number","_law_due","_law_deed","_law_which"] z4l (z07 z4d):=scp
theorem y5a:A7 ["_law_script","_law_names_here","_law_rows","_law_reach","_law_readers","_law_log","_law_book","_law_written","_law_handed","_law_due","_law_found","_law_k","_law_reader"] plaw (z07 w0o):=scp
structure E7(K:PySem.W.Frag)(mg:Str->Option Value)(C:Addr):Prop where
 cl:Cls K C
 mgC:mg "Office"=some (.ref C)
 n_names:z2s K C "names"
 n_reach:z2s K C "reach"
 n_written:z2s K C "written"
structure Q4(K:PySem.W.Frag)(mg:Str->Option Value)(C:Addr):Prop where
 cl:Cls K C
 mgC:mg "Shelf"=some (.ref C)
 n_names:z2s K C "names"
 n_reach:z2s K C "reach"
 n_issues:z2s K C "issues"
structure E4(K:PySem.W.Frag)(mg:Str->Option Value)(C:Addr):Prop where
 cl:Cls K C
 mgC:mg "Book"=some (.ref C)
 n_office:z2s K C "office"
 n_readers:z2s K C "readers"
 n_done:z2s K C "done"
structure Bl(mg:Str->Option Value):Prop where
 len:mg "len"=none
 range:mg "range"=none
 tuple:mg "tuple"=none
 list:mg "list"=none
 max:mg "max"=none
 min:mg "min"=none
 sorted:mg "sorted"=none
 isinstance:mg "isinstance"=none
 bool:mg "bool"=none
 int:mg "int"=none
 str:mg "str"=none
 set:mg "set"=none
 reversed:mg "reversed"=none
 dict:mg "dict"=none
 zip:mg "zip"=none
 all:mg "all"=none
 ValueError:mg "ValueError"=none
 MOST_NAMES:∃t,mg "MOST_NAMES"=some (.int 12 t)
 MOST_REACH:∃t,mg "MOST_REACH"=some (.int 10 t)
 MOST_NUMBERS:∃t,mg "MOST_NUMBERS"=some (.int 60 t)
 MOST_VALUE:∃t,mg "MOST_VALUE"=some (.int 1000000 t)
 MOST_READERS:∃t,mg "MOST_READERS"=some (.int 10 t)
 MOST_DEEDS:∃t,mg "MOST_DEEDS"=some (.int 400 t)
 WRITE:∃t,mg "WRITE"=some (.str "write" t)
 DELIVER:∃t,mg "DELIVER"=some (.str "deliver" t)
theorem z02{H:Hp}{p:Addr}(h:H p=none)(o:HO):A4 H (upd H p o):=fun b u q=>by rw[z0b (z0m q h)];exact q
theorem z37{H H':Hp}{l:Addr}{o:HO}(hs:A4 H H')(hl:H l=none):A4 H (upd H' l o):=fun b u e=>by rw[z0b (z0m e hl)];exact hs b u e
theorem z6I{n:Nat}(h:n≤1000):n≤sizeLine:=dX (z0i h)
theorem z8T{ns:List Int}{k:Int}(h0:0≤k)(h:k<(ns.length:Int)):atI (ns.map V.int) k=some (.int (ns.getD k.toNat 0)):=by
 have hk:k.toNat<ns.length:=by omega
 have ek:k=((k.toNat:Nat):Int):=by omega
 have q:atI (ns.map V.int) ((k.toNat:Nat):Int)=some (.int (ns.getD k.toNat 0)):=z1p (by
  rw[bV,bG hk,bY,bG hk]<;>rfl)
 rw[<- ek] at q
 exact q
theorem z4N{K:PySem.W.Frag}{H H':Hp}{a:Addr}{xs:List V}(e:A4 H H')(h:SqT K H a xs):SqT K H' a xs:=by
 rcases h with (h|⟨o,h⟩)|h
 ·exact .inl (.inl (e _ _ h))
 ·exact .inl (.inr ⟨o,e _ _ h⟩)
 ·exact .inr h
theorem z0x{p:Prop}[Decidable p](h:decide p=true):p:=of_decide_eq_true h
theorem z8F{p:Prop}[Decidable p](h:¬decide p=true):¬p:=fun q=>h (decide_eq_true q)
section
variable{P:Program}{w:World}{K:PySem.W.Frag}{mg:Str->Option Value}{base:Heap}{f:Addr}{fd:FuncData}
theorem z4F:∀{l1 l2:List Int},l1.Pairwise (· < ·)->l2.Pairwise (· < ·)->(∀x,x∈l1↔x∈l2)->l1=l2
 | [],[],_,_,_=>rfl
 | [],y::_,_,_,h=>by have:=(h y).mpr cD;cases this
 | x::_,[],_,_,h=>by have:=(h x).mp cD;cases this
 | x::r,y::t,p1,p2,h=>by
  rw[List.pairwise_cons] at p1 p2
  have e:x=y:=by
   rcases bD.mp ((h x).mp cD) with e|hx
   ·exact e
   ·rcases bD.mp ((h y).mpr cD) with e|hy
    ·exact e.symm
    ·have:=p1.1 y hy
     have:=p2.1 x hx
     omega
  subst e
  refine congrArg (x::·) (z4F p1.2 p2.2 fun z=>⟨fun hz=>?_,fun hz=>?_⟩)
  ·rcases bD.mp ((h z).mp (bW _ hz)) with e|q
   ·have:=p1.1 z hz
    omega
   ·exact q
  ·rcases bD.mp ((h z).mpr (bW _ hz)) with e|q
   ·have:=p2.1 z hz
    omega
   ·exact q
theorem z3K(lo:Int):∀n,(upI lo n).Pairwise (· < ·)
 | 0=>List.Pairwise.nil
 | n+1=>by
  rw[z5J]
  refine gJ.mpr ⟨z3K lo n,List.pairwise_singleton _ _,fun x hx y hy=>?_⟩
  have h1:=z2k.mp hx
  rw[bC.mp hy]
  omega
theorem y3L(lo:Int)(n:Nat):T8 lo n=(upI lo n).map V.int:=by
 unfold T8 upI
 rw[gK]
 rfl
def w0D(K:PySem.W.Frag):Sp:=fun vs H Q _=>∃(a:Addr) (ns:List Int) (k:Int),vs=[.ref a,.int k]/\SqL K H a (ns.map V.int)/\0≤k/\Q (.int (ns.getD k.toNat 0)) H
theorem w1f(M:Bl mg)(F:Fun K "_law_at" "_law_at" z7j f fd):B0 P w K mg base CX0 1 f fd z5E (w0D K):=by
 have nd:=z8y.nd
 refine F.ok z8y (fun vs H Q E h=>?_) (fun cdv A outer s H vs Q E hr h=>?_)
 ·obtain⟨a,ns,k,rfl,_⟩:=h
  rfl
 obtain⟨a,ns,k,rfl,hS,h0,q⟩:=h
 refine⟨_,(z03 (z0v (z09 z3o (pv 1) (z08 z06 rfl M.len bH (z00 (pv 0) z01)) (z0d _)) (z05 (z0h (z0P z0D (pv 0) (pv 1) (fun _ _=>rfl)))) z0c) (z05 (z0h z04))),?_⟩
 have hl:(ns.map V.int).length=ns.length:=bA _
 refine⟨_,rfl,_,rfl,a,_,rfl,.inl hS,_,_,rfl,rfl,_,rfl,?_⟩
 refine B3 (fun c=>?_) (fun c=>?_)
 ·have c':=z0x c
  rw[hl] at c'
  exact⟨_,rfl,_,rfl,a,_,_,_,rfl,rfl,hS,z8T h0 c',q⟩
 ·have c':=z8F c
  rw[hl] at c'
  have e:ns.getD k.toNat 0=0:=by rw[bY,List.getElem?_eq_none (by omega)];rfl
  rw[e] at q
  exact q
def z9G:Sp:=fun vs H Q _=>∃c n:Int,vs=[.int c,.int n]/\0<n/\∀r,0≤r->r<n->Q (.int r) H
theorem y3P(F:Fun K "_law_pick" "_law_pick" z4Z f fd):B0 P w K mg base CX0 1 f fd z2U z9G:=by
 have nd:=z6t.nd
 refine F.ok z6t (fun vs H Q E h=>?_) (fun cdv A outer s H vs Q E hr h=>?_)
 ·obtain⟨c,n,rfl,_⟩:=h
  rfl
 obtain⟨c,n,rfl,hn,q⟩:=h
 refine⟨_,(z03 (z0v (z09 z1w (z0a z0u (pv 0) z04) z04 (z0d _)) (z05 (z0h (z0a z0u (z0a z0y (pv 0) z04) (pv 1)))) z0c) (z03 (z0e (i:=2) nd rfl (Or.inl rfl) (z0a z0u (z0a z4H (z0a z0y (pv 0) z04) z04) z04)) (z05 (z0h (z0a z0u (z0a z0u (z0a z4H (z0a z0O (pv 2) z04) z04) z04) (pv 1)))))),?_⟩
 refine⟨_,rfl,_,_,rfl,rfl,(by show(0:Int)<2;decide),rfl,_,rfl,?_⟩
 refine B3 (fun _=>?_) (fun _=>?_)
 ·exact⟨_,rfl,_,_,rfl,rfl,⟨by decide,by decide⟩,_,rfl,_,_,rfl,rfl,hn,q _ (cA _ (by omega)) (bS _ hn)⟩
 ·refine⟨_,rfl,_,_,rfl,rfl,⟨by decide,by decide⟩,_,_,rfl,rfl,.inr ⟨by decide,by decide⟩,_,_,rfl,rfl,(by show(0:Int)<2147483647;decide),?_⟩
  refine⟨_,rfl,_,_,rfl,rfl,_,_,rfl,rfl,.inr ⟨by decide,by decide⟩,_,_,rfl,rfl,(by show(0:Int)<2147483647;decide),_,rfl,_,_,rfl,rfl,hn,?_⟩
  exact q _ (cA _ (by omega)) (bS _ hn)
def z77:Nat->Sp
 | 0=>fun _ _ _ _=>False
 | n+1=>fun vs H Q _=>∃x y,vs=[x,y]/\z3p H n x y/\∀H',A4 H H'->Q (.bl true) H'
theorem y0K:B0 P w K mg base CX0 0 f fd z1D (z77 0):=
 ⟨fun vs H Q E h=>h.elim,fun A outer s H args us vs Q E _ _ _ _ h=>h.elim⟩
def tyOf:V->String
 | .non=>"NoneType"
 | .bl _=>"bool"
 | .int _=>"int"
 | _=>"str"
theorem z4b{H:Hp}{x:V}(h:y0a x=true):Q6 K H x (.type (tyOf x)):=by
 cases x with
 | non=>exact .non
 | bl b=>exact .bl b
 | int i=>exact .int i
 | str z=>exact .str z
 | _=>exact absurd h bN
def kitB:V->String->Bool
 | .bl _,T=>T == "bool" || T == "int"
 | .int _,T=>T == "int"
 | .str _,T=>T == "str"
 | _,_=>false
theorem z5F(T:String)(hT:T="tuple"\/T="bool"\/T="int"\/T="str"){x:V}(h:y0a x=true):PySem.W.kitOne K (.type (tyOf x)) (.type T)=some (kitB x T):=by
 cases x with
 | non=>rcases hT with rfl|rfl|rfl|rfl<;>kernel_rfl
 | bl b=>rcases hT with rfl|rfl|rfl|rfl<;>kernel_rfl
 | int i=>rcases hT with rfl|rfl|rfl|rfl<;>kernel_rfl
 | str z=>rcases hT with rfl|rfl|rfl|rfl<;>kernel_rfl
 | _=>exact absurd h bN
theorem y0s(x:V):kitB x "tuple"=false:=by cases x<;>rfl
theorem y0V:PySem.W.kitOne K (.type "tuple") (.type "tuple")=some true:=by kernel_rfl
theorem y37{xs:List V}{i:Nat}(h:i<xs.length):∃v,xs[i]? = some v/\atI xs (i:Int)=some v:=⟨xs[i],bG h,z1p (bG h)⟩
theorem y3H{x:V}(h:y0a x=true):w0s x x=true:=by
 cases x<;>first|rfl|exact absurd h bN
theorem y3G{n:Nat}(M:Bl mg)(F:Fun K "_law_same" "_law_same" z3N f fd)(C5:Cal P w K mg base n "_law_same" z1D (z77 n)) :
  B0 P w K mg base CX0 (n+1) f fd z1D (z77 (n+1)):=by
 have nd:=z6b.nd
 refine F.ok z6b (fun vs H Q E h=>?_) (fun cdv A outer s H vs Q E hr h=>?_)
 ·obtain⟨x,y,rfl,_⟩:=h
  rfl
 obtain⟨x,y,rfl,ha,q⟩:=h
 refine⟨_,(z03 (z0v (z2Q (z08 z1r rfl M.isinstance bL (z00 (pv 1) (z00 (z35 (v:=.ty "tuple") rfl M.tuple cI rfl) z01)))) (z03 (z0v (PW.pt (z2G (z3h (z2Q (z08 z1r rfl M.isinstance bL (z00 (pv 0) (z00 (z35 (v:=.ty "tuple") rfl M.tuple cI rfl) z01))))) (z1E (z09 z7O (z08 z06 rfl M.len bH (z00 (pv 0) z01)) (z08 z06 rfl M.len bH (z00 (pv 1) z01)) (z0d _))))) (z05 (z0h z2v)) z0c) (z03 (z1g cB rfl (z1l rfl M.range (z00 (z08 z06 rfl M.len bH (z00 (pv 1) z01)) z01)) (z0o (i:=2) nd rfl (Or.inl rfl)) (z05 (z0v (z3h (z2Q (z0r C5 (rm hr) rfl (z00 (z0P z1F (pv 0) (pv 2) (fun _ _=>rfl)) (z00 (z0P z1F (pv 1) (pv 2) (fun _ _=>rfl)) z01))))) (z05 (z0h z2v)) z0c))) (z05 (z0h z2v)))) z0c) (z03 (z0v (PW.pt (z2G (z09 z7O (z08 z1r rfl M.isinstance bL (z00 (pv 0) (z00 (z35 (v:=.ty "bool") rfl M.bool PyProof.Rows.boot_bool rfl) z01))) (z08 z1r rfl M.isinstance bL (z00 (pv 1) (z00 (z35 (v:=.ty "bool") rfl M.bool PyProof.Rows.boot_bool rfl) z01))) (z0d _)) (z1E (z09 z7O (z08 z1r rfl M.isinstance bL (z00 (pv 0) (z00 (z35 (v:=.ty "int") rfl M.int fF rfl) z01))) (z08 z1r rfl M.isinstance bL (z00 (pv 1) (z00 (z35 (v:=.ty "int") rfl M.int fF rfl) z01))) (z0d _))))) (z05 (z0h z2v)) z0c) (z03 (z0v (PW.pt (z2G (z09 z7O (z08 z1r rfl M.isinstance bL (z00 (pv 0) (z00 (z35 (v:=.ty "str") rfl M.str PyProof.Rows.boot_str rfl) z01))) (z08 z1r rfl M.isinstance bL (z00 (pv 1) (z00 (z35 (v:=.ty "str") rfl M.str PyProof.Rows.boot_str rfl) z01))) (z0d _)) (z1E (z09 z7O (y3p (z8z (pv 0))) (y3p (z8z (pv 1))) (z0d _))))) (z05 (z0h z2v)) z0c) (z05 (z0h (z4S z1w (pv 0) (pv 1) (z0d _))))))),?_⟩
 have ha':(x=y/\y0a x=true)\/∃(m:Nat) (a b:Addr) (xs ys:List V),n=m+1/\x=.ref a/\y=.ref b/\H a=some (.tup xs)/\H b=some (.tup ys)/\xs.length=ys.length/\ys.length≤1000000/\
   ∀(i:Nat) (u v:V),xs[i]? = some u->ys[i]? = some v->z3p H m u v:=by
  cases n with
  | zero=>exact .inl ha
  | succ n=>
   rcases ha with ha|⟨a,b,xs,ys,e1,e2,h1,h2,hl,hm,hi⟩
   ·exact .inl ha
   ·exact .inr ⟨n,a,b,xs,ys,rfl,e1,e2,h1,h2,hl,hm,hi⟩
 rcases ha' with ⟨rfl,hs⟩|⟨m,a,b,xs,ys,rfl,rfl,rfl,h1,h2,hl,hm,hi⟩
 ·have k1:=z5F (K:=K) "tuple" (.inl rfl) hs
  have k2:=z5F (K:=K) "bool" (.inr (.inl rfl)) hs
  have k3:=z5F (K:=K) "int" (.inr (.inr (.inl rfl))) hs
  have k4:=z5F (K:=K) "str" (.inr (.inr (.inr rfl))) hs
  rw[y0s] at k1
  refine⟨_,rfl,_,_,_,_,rfl,z4b hs,k1,_,rfl,C2 ?_⟩
  refine⟨_,rfl,_,_,_,_,rfl,z4b hs,k2,_,rfl,_,_,_,_,rfl,z4b hs,k2,rfl,_,rfl,?_⟩
  rw[decide_eq_true rfl]
  refine C2 ⟨_,rfl,_,_,_,_,rfl,z4b hs,k3,_,rfl,_,_,_,_,rfl,z4b hs,k3,rfl,_,rfl,?_⟩
  rw[decide_eq_true rfl]
  refine C2 ?_
  refine⟨_,rfl,_,_,_,_,rfl,z4b hs,k4,_,rfl,_,_,_,_,rfl,z4b hs,k4,rfl,_,rfl,?_⟩
  rw[decide_eq_true rfl]
  refine C2 ⟨_,rfl,_,rfl,rfl,_,rfl,?_⟩
  rw[decide_eq_true rfl]
  refine C2 ?_
  refine⟨_,rfl,_,rfl,y3H hs,?_⟩
  rw[decide_eq_true rfl]
  exact q H (A4.refl H)
 ·refine⟨_,rfl,_,_,_,_,rfl,.tup h2,y0V,_,rfl,J8 ?_⟩
  refine⟨_,rfl,_,_,_,_,rfl,.tup h1,y0V,_,rfl,C2 ?_⟩
  refine⟨_,rfl,a,xs,rfl,.inr (SqT.of h1),_,rfl,b,ys,rfl,.inr (SqT.of h2),rfl,_,rfl,?_⟩
  rw[hl,decide_eq_true rfl]
  refine C2 ?_
  refine⟨_,rfl,b,ys,rfl,.inr (SqT.of h2),_,rfl,by omega,by omega,?_⟩
  refine z1H (lo:=0) (n:=ys.length) (fun _ σ H'=>A4 H H'/\∃o,σ=[some (.ref a),some (.ref b),o]) ⟨A4.refl H,_,rfl⟩ (fun i σ H' hi' hp=>?_) (fun σ H' hp=>?_)
  ·obtain⟨hS,o,rfl⟩:=hp
   obtain⟨u,hu,au⟩:=y37 (xs:=xs) (i:=i) (by omega)
   obtain⟨v,hv,av⟩:=y37 (xs:=ys) (i:=i) hi'
   have ei:(0:Int)+(i:Int)=(i:Int):=fR _
   refine⟨_,rfl,_,rfl,a,_,_,_,rfl,rfl,SqT.of (hS _ _ h1),(by rw[ei];exact au),_,rfl,_,rfl,b,_,_,_,rfl,rfl,SqT.of (hS _ _ h2),(by rw[ei];exact av),?_⟩
   refine⟨u,v,rfl,(hi i u v hu hv).keep hS,fun H2 hS2=>⟨_,rfl,?_⟩⟩
   exact C2 ⟨hS.trans hS2,_,rfl⟩
  ·obtain⟨hS,o,rfl⟩:=hp
   exact q H' hS
theorem z9V(M:Bl mg)(F:Fun K "_law_same" "_law_same" z3N f fd)(B:z1c K fd z1D [])(N:mg "_law_same"=some (.ref f)) :
  ∀n,Cal P w K mg base n "_law_same" z1D (z77 n)
 | 0=>.mk' y0K B F.kp N
 | n+1=>.mk' (y3G M F (z9V M F B N n)) B F.kp N
theorem y0Y{ns:List Int}{n:Nat}(h:ns.length≤n)(hn:n≤1000):(ns.map V.int).length<sizeLine:=z0i (by rw[bA];omega)
def y3W:Sp:=fun vs H Q _=>∃c m z:Int,vs=[.int c,.int m,.int z]/\0≤m/\m≤900/\0<z/\z<1073741824/\
 ∀(l:Addr) (ns:List Int) (H':Hp),H l=none->A4 H H'->H' l=some (.lst (ns.map V.int))->ns.length=m.toNat->(∀x∈ns,0≤x/\x<z)->Q (.ref l) H'
theorem y5b(M:Bl mg)(F:Fun K "_law_row" "_law_row" z6q f fd):B0 P w K mg base CX0 1 f fd z4x y3W:=by
 have nd:=z7d.nd
 refine F.ok z7d (fun vs H Q E h=>?_) (fun cdv A outer s H vs Q E hr h=>?_)
 ·obtain⟨c,m,z,rfl,_⟩:=h
  rfl
 obtain⟨c,m,z,rfl,m0,m1,z0,z1,q⟩:=h
 refine⟨_,(z03 (z0e (i:=3) nd rfl (Or.inl rfl) (z0a z0y (pv 0) z04)) (z03 (z0e (i:=4) nd rfl (Or.inl rfl) (z0a z0u (z0a z4H (pv 3) z04) z04)) (z03 (z0e (i:=5) nd rfl (Or.inl rfl) (z0L z01)) (z03 (z1g cB rfl (z1l rfl M.range (z00 (pv 1) z01)) (z0o (i:=6) nd rfl (Or.inl rfl)) (z03 (z0e (i:=4) nd rfl (Or.inl rfl) (z0a z0u (z0a z0O (z0a z0O (z0a z4H (pv 4) z04) (pv 6)) z04) z04)) (z05 (z0v (z09 z1w (z0a z0u (pv 0) z04) z04 (z0d _)) (z03 (z0n (z2h bM bP bQ z0B (pv 5) (z00 (z0a z0u (pv 3) (pv 2)) z01))) (z05 (z0e (i:=3) nd rfl (Or.inl rfl) (z0a z0y (pv 3) (pv 2))))) (z05 (z0n (z2h bM bP bQ z0B (pv 5) (z00 (z0a z0u (z0a z0y (pv 4) z04) (pv 2)) z01)))))))) (z05 (z0h (pv 5))))))),?_⟩
 refine⟨_,rfl,_,_,rfl,rfl,⟨by decide,by decide⟩,?_⟩
 refine⟨_,rfl,_,_,rfl,rfl,.inr ⟨by decide,by decide⟩,_,_,rfl,rfl,(by show(0:Int)<2147483647;decide),?_⟩
 refine⟨(by show 0≤sizeLine;decide),fun l hl=>?_⟩
 refine⟨_,rfl,_,rfl,by omega,by omega,?_⟩
 refine z1H (lo:=0) (n:=m.toNat) (fun i σ H'=>∃(ns:List Int) (r mx:Int) (o:Option V),ns.length=i/\(∀x∈ns,0≤x/\x<z)/\H'=upd H l (.lst (ns.map V.int))/\
  σ=[some (.int c),some (.int m),some (.int z),some (.int r),some (.int mx),some (.ref l),o]) ⟨[],_,_,_,rfl,(fun _ h=>nomatch h),rfl,rfl⟩ (fun i σ H' hi hp=>?_) (fun σ H' hp=>?_)
 ·obtain⟨ns,r,mx,o,hlen,N8,rfl,rfl⟩:=hp
  refine⟨_,rfl,_,_,rfl,rfl,.inr ⟨by decide,by decide⟩,_,rfl,_,_,rfl,rfl,_,_,rfl,rfl,_,_,rfl,rfl,(by show(0:Int)<2147483647;decide),?_⟩
  refine⟨_,rfl,_,_,rfl,rfl,(by show(0:Int)<2;decide),rfl,_,rfl,?_⟩
  have grow:∀y:Int,(∀x∈ns++[y%z],0≤x/\x<z):=fun y x hx=>by
   rcases c8.mp hx with h|h
   ·exact N8 x h
   ·rw[bC.mp h]
    exact⟨cA _ (by omega),bS _ z0⟩
  have put:∀y:Int,upd (upd H l (.lst (ns.map V.int))) l (.lst (ns.map V.int++[.int (y%z)]))=upd H l (.lst ((ns++[y%z]).map V.int)):=fun y=>by
   rw[z5W,bR]
   rfl
  refine B3 (fun _=>?_) (fun _=>?_)
  ·refine⟨_,rfl,.inl ⟨rfl,_,SqL.of A1⟩,_,rfl,_,rfl,_,_,rfl,rfl,z0,l,_,_,rfl,rfl,A1,y0Y (n:=i) (by omega) (by omega),?_⟩
   refine⟨_,rfl,_,rfl,_,_,rfl,rfl,⟨z0,z1⟩,?_⟩
   exact⟨ns++[r%z],_,_,_,by rw[bE,hlen];rfl,grow r,put r,rfl⟩
  ·refine⟨_,rfl,.inl ⟨rfl,_,SqL.of A1⟩,_,rfl,_,_,rfl,rfl,⟨by decide,by decide⟩,_,rfl,_,_,rfl,rfl,z0,l,_,_,rfl,rfl,A1,y0Y (n:=i) (by omega) (by omega),?_⟩
   exact⟨ns++[_%z],_,_,_,by rw[bE,hlen];rfl,grow _,put _,rfl⟩
 ·obtain⟨ns,r,mx,o,hlen,N8,rfl,rfl⟩:=hp
  exact⟨_,rfl,q l ns _ hl (z02 hl _) A1 hlen N8⟩
theorem z9S(x:Int)(ns:List Int):inV (.int x) (ns.map V.int)=decide (x∈ns):=by
 unfold inV
 rw[cZ,gL,gZ,decide_eq_true_eq]
 constructor
 ·rintro⟨y,hy,e⟩
  have e':(y == x)=true:=e
  rw[<- eq_of_beq e']
  exact hy
 ·intro h
  exact⟨x,h,show(x == x)=true from beq_self_eq_true x⟩
theorem y0w(ns:List Int):(ns.map V.int).all z1u=true:=by
 rw[gY,eI]
 intro x _
 rfl
def sgL:List Nat:=(("mM ~aA0.xX_9":Str).cps.toList)
theorem z8O:sgL.length=12:=by decide +kernel
theorem y22:sgL.Nodup:=by decide +kernel
abbrev X4:Str:="a stranger of twenty"
abbrev z6z:Str:="a long stem of them"
structure Nms(nm:List Str):Prop where
 nd:nm.Nodup
 lo:∀x∈nm,1≤x.length
 hi:∀x∈nm,x.length≤20
 far:X4∉nm
 low:∀x∈nm,∀c∈x.cps.toList,c<16^8
theorem z5c(a b:Str):(a++b).cps.toList=a.cps.toList++b.cps.toList:=by
 show(a.cps++b.cps).toList=_
 simp
theorem y4m(c:Nat):(⟨#[c]⟩:Str).cps.toList=[c]:=rfl
theorem z3u{α β:Type}{g:α->β}:∀{l:List α},l.Nodup->(∀x∈l,∀y∈l,g x=g y->x=y)->(l.map g).Nodup
 | [],_,_=>List.nodup_nil
 | x::r,n,h=>by
  rw[d6] at n
  rw[cO,d6]
  refine⟨fun hm=>?_,z3u n.2 fun a ha b hb=>h a (bW _ ha) b (bW _ hb)⟩
  obtain⟨y,hy,e⟩:=cF.mp hm
  have:=h x cD y (bW _ hy) e.symm
  exact n.1 (this ▸ hy)
theorem z89(lo:Int)(n:Nat):(upI lo n).Nodup:=(z3K lo n).imp fun {a b} h=>by omega
theorem z9P{t a b:Int}(ht:0≤t)(ht2:t<12)(a0:0≤a)(a1:a<12)(b0:0≤b)(b1:b<12)(h:(t+a)%12=(t+b)%12):a=b:=by omega
def Y8(c:Nat)(t k:Int):Str:=Z0 ⟨#[c]⟩ (1+(t+k)%12).toNat
theorem z4u(c:Nat)(t k:Int):(Y8 c t k).length=(1+(t+k)%12).toNat:=by
 unfold Y8
 rw[<- z0N]
 show((List.replicate _ [c]).flatten.toArray).toList.length=_
 simp
theorem y3y{c:Nat}(hc:c<16^8){t:Int}(h0:0≤t)(h1:t<12){m:Nat}(hm:m≤12):Nms ((upI 0 m).map (Y8 c t)) where
 nd:=z3u (z89 _ _) fun a ha b hb e=>by
  have ha':=z2k.mp ha
  have hb':=z2k.mp hb
  have e2:=congrArg Str.length e
  rw[z4u,z4u] at e2
  exact z9P h0 h1 (by omega) (by omega) (by omega) (by omega) (by omega)
 lo:=fun x hx=>by
  obtain⟨k,hk,rfl⟩:=cF.mp hx
  rw[z4u]
  omega
 hi:=fun x hx=>by
  obtain⟨k,hk,rfl⟩:=cF.mp hx
  rw[z4u]
  omega
 far:=fun hx=>by
  obtain⟨k,hk,e⟩:=cF.mp hx
  have e2:=congrArg Str.length e
  rw[z4u] at e2
  have e3:X4.length=20:=by decide +kernel
  omega
 low:=fun x hx d hd=>by
  obtain⟨k,hk,rfl⟩:=cF.mp hx
  have hd':d∈(List.replicate (1+(t+k)%12).toNat [c]).flatten:=hd
  obtain⟨l,hl,hm⟩:=List.mem_flatten.mp hd'
  rw[(List.mem_replicate.mp hl).2,bC] at hm
  rw[hm]
  exact hc
def z7u(st:Str)(sp:Int)(t k:Int):Str:=N1 st none (some sp)++⟨#[sgL.getD ((t+k)%12).toNat 0]⟩++N1 st (some sp) none
theorem z9y{n d:Nat}{v:Int}(h0:0≤v)(h1:v≤n):HT.sIx n d (some v)=v.toNat:=by
 show(if v<0 then (v+(n:Int)).toNat else min v.toNat n)=_
 rw[if_neg (by omega),gH (by omega)]
theorem y3t(st:Str){sp:Int}(h0:0≤sp)(h1:sp≤st.length):(N1 st none (some sp)).cps.toList=st.cps.toList.take sp.toNat:=by
 show((st.cps.toList.drop 0).take (HT.sIx st.length st.length (some sp)-0))=_
 rw[z9y h0 h1,fT,Nat.sub_zero]
theorem y3q(st:Str){sp:Int}(h0:0≤sp)(h1:sp≤st.length):(N1 st (some sp) none).cps.toList=st.cps.toList.drop sp.toNat:=by
 show((st.cps.toList.drop (HT.sIx st.length 0 (some sp))).take (st.length-HT.sIx st.length 0 (some sp)))=_
 rw[z9y h0 h1,cW]
 rw[d8,z0N]
 exact bF _
theorem z3A(st:Str){sp:Int}(h0:0≤sp)(h1:sp≤st.length)(t k:Int):(z7u st sp t k).cps.toList=st.cps.toList.take sp.toNat++sgL.getD ((t+k)%12).toNat 0::st.cps.toList.drop sp.toNat:=by
 unfold z7u
 rw[z5c,z5c,y3t st h0 h1,y3q st h0 h1,y4m,dR]
 rfl
theorem z67(st:Str){sp:Int}(h0:0≤sp)(h1:sp≤st.length)(t k:Int):(z7u st sp t k).length=st.length+1:=by
 rw[<- z0N,z3A st h0 h1,bE,bT,bO,d8,z0N]
 omega
theorem y2m:∀s<20,∀i<12,z6z.cps.toList.take s++sgL.getD i 0::z6z.cps.toList.drop s≠X4.cps.toList:=by decide +kernel
theorem y2j{st:Str}(hst:st=""\/st="row"\/st=z6z){sp:Int}(h0:0≤sp)(h1:sp≤st.length){t:Int}(t0:0≤t)(t1:t<12){m:Nat}(hm:m≤12):Nms ((upI 0 m).map (z7u st sp t)) where
 nd:=z3u (z89 _ _) fun a ha b hb e=>by
  have ha':=z2k.mp ha
  have hb':=z2k.mp hb
  have e2:(z7u st sp t a).cps.toList=(z7u st sp t b).cps.toList:=congrArg (fun z:Str=>z.cps.toList) e
  rw[z3A st h0 h1,z3A st h0 h1] at e2
  have e3:=List.append_cancel_left e2
  have e4:sgL.getD ((t+a)%12).toNat 0=sgL.getD ((t+b)%12).toNat 0:=(List.cons.inj e3).1
  have l1:((t+a)%12).toNat<sgL.length:=by rw[z8O];omega
  have l2:((t+b)%12).toNat<sgL.length:=by rw[z8O];omega
  rw[bY,bG l1,bY,bG l2] at e4
  have e5:=(List.getElem_inj y22).mp e4
  exact z9P t0 t1 (by omega) (by omega) (by omega) (by omega) (by omega)
 lo:=fun x hx=>by
  obtain⟨k,hk,rfl⟩:=cF.mp hx
  rw[z67 st h0 h1]
  omega
 hi:=fun x hx=>by
  obtain⟨k,hk,rfl⟩:=cF.mp hx
  rw[z67 st h0 h1]
  have l1:("":Str).length=0:=by decide +kernel
  have l2:("row":Str).length=3:=by decide +kernel
  have l3:z6z.length=19:=by decide +kernel
  rcases hst with rfl|rfl|rfl<;>omega
 far:=fun hx=>by
  obtain⟨k,hk,e⟩:=cF.mp hx
  have l1:("":Str).length=0:=by decide +kernel
  have l2:("row":Str).length=3:=by decide +kernel
  have l3:z6z.length=19:=by decide +kernel
  have l4:X4.length=20:=by decide +kernel
  have e2:=congrArg Str.length e
  rw[z67 st h0 h1] at e2
  rcases hst with rfl|rfl|rfl
  ·omega
  ·omega
  ·have e3:(z7u z6z sp t k).cps.toList=X4.cps.toList:=congrArg (fun z:Str=>z.cps.toList) e
   rw[z3A z6z h0 h1] at e3
   exact y2m sp.toNat (by omega) ((t+k)%12).toNat (by omega) e3
 low:=fun x hx d hd=>by
  obtain⟨k,hk,rfl⟩:=cF.mp hx
  rw[z3A st h0 h1] at hd
  have l1:∀c∈("":Str).cps.toList,c<16^8:=by decide +kernel
  have l2:∀c∈("row":Str).cps.toList,c<16^8:=by decide +kernel
  have l3:∀c∈z6z.cps.toList,c<16^8:=by decide +kernel
  have l4:∀i<12,sgL.getD i 0<16^8:=by decide +kernel
  have ls:∀c∈st.cps.toList,c<16^8:=by rcases hst with rfl|rfl|rfl<;>assumption
  rcases c8.mp hd with hd|hd
  ·exact ls d (d9 hd)
  ·rcases bD.mp hd with rfl|hd
   ·exact l4 _ (by omega)
   ·exact ls d (gM hd)
def y1V:Sp:=fun vs H Q _=>∃c m:Int,vs=[.int c,.int m]/\0≤m/\m≤12/\
 ∀(l:Addr) (nm:List Str) (H':Hp),H l=none->A4 H H'->H' l=some (.lst (nm.map V.str))->nm.length=m.toNat->Nms nm->Q (.ref l) H'
theorem z9F{f:Int->V}(l:List Int):z6F (fun _=>true) f l=l.map f:=by
 unfold z6F
 rw[List.filter_eq_self.mpr fun _ _=>rfl]
theorem y2c(M:Bl mg)(F:Fun K "_law_named" "_law_named" z47 f fd):B0 P w K mg base CX0 1 f fd z4g y1V:=by
 have nd:=z5o.nd
 refine F.ok z5o (fun vs H Q E h=>?_) (fun cdv A outer s H vs Q E hr h=>?_)
 ·obtain⟨c,m,rfl,_⟩:=h
  rfl
 obtain⟨c,m,rfl,m0,m1,q⟩:=h
 refine⟨_,(z03 (z0e (i:=2) nd rfl (Or.inr rfl) z0l) (z03 (z0e (i:=3) nd rfl (Or.inr rfl) (z0a z0u (z0a z0y (pv 0) z04) z04)) (z03 (z0v (z09 z1w (z0a z0u (pv 0) z04) z04 (z0d _)) (z05 (z0h (z2K ["_law_k"] ["_law_cell","_law_turn"] [0,3] rfl (z0H rfl (by decide +kernel) rfl (by decide +kernel) rfl rfl) (z1l rfl M.range (z00 (pv 1) z01)) (fun _ _ _ _ _=>(z0o (i:=0) (show((["_law_k"]:List PySem.Str)++(["_law_cell","_law_turn"]:List PySem.Str)).Nodup from by decide +kernel) rfl (Or.inl rfl))) (z0R (by decide)) z0t (fun _ _ _ _ _=>z2q) (fun _ _ _ _ _=>(z0a y0n (z0P y1T z0l (z0a z0u (z0a z0y (pv 1) z04) z04) (fun _ _=>rfl)) (z0a z0O z04 (z0a z0u (z0a z0O (pv 2) (pv 0)) z04))))))) z0c) (z03 (z0e (i:=4) nd rfl (Or.inr rfl) (z0P z0D (z0L (z00 z0l (z00 z0l (z00 z0l z01)))) (z0a z0u (pv 0) z04) (fun _ _=>rfl))) (z03 (z0e (i:=5) nd rfl (Or.inr rfl) (z0a z0u (z0a z0y (pv 0) z04) (z0a z0O (z08 z5v rfl M.len bH (z00 (pv 4) z01)) z04))) (z05 (z0h (z2K ["_law_k"] ["_law_stem","_law_signs","_law_spot","_law_turn"] [4,2,5,3] rfl (z0H rfl (by decide +kernel) rfl (by decide +kernel) rfl rfl) (z1l rfl M.range (z00 (pv 1) z01)) (fun _ _ _ _ _=>(z0o (i:=0) (show((["_law_k"]:List PySem.Str)++(["_law_stem","_law_signs","_law_spot","_law_turn"]:List PySem.Str)).Nodup from by decide +kernel) rfl (Or.inl rfl))) (z0R (by decide)) z0t (fun _ _ _ _ _=>z2q) (fun _ _ _ _ _=>(z0a z3M (z0a z3M (z1O y0U (pv 1) z2m (z2t (pv 3))) (z0P y1T (pv 2) (z0a z0u (z0a z0O (pv 4) (pv 0)) z04) (fun _ _=>rfl))) (z1O y0U (pv 1) (z2t (pv 3)) z2m))))))))))),?_⟩
 have t0:0≤c / 4%12:=cA _ (by decide)
 have t1:c / 4%12<12:=bS _ (by decide)
 refine⟨_,rfl,_,_,rfl,rfl,⟨by decide,by decide⟩,_,_,rfl,rfl,(by show(0:Int)<12;decide),?_⟩
 refine⟨_,rfl,_,_,rfl,rfl,(by show(0:Int)<4;decide),rfl,_,rfl,?_⟩
 refine B3 (fun _=>?_) (fun cn=>?_)
 ·obtain⟨sg,hsg,hsl⟩:∃sg,atI (("a ~":Str).cps.toList) (c / 48%3)=some sg/\sg<16^8:=by
   have h0:0≤c / 48%3:=cA _ (by decide)
   have h1:c / 48%3<3:=bS _ (by decide)
   have ek:c / 48%3=(((c / 48%3).toNat:Nat):Int):=by omega
   have hl:(("a ~":Str).cps.toList).length=3:=by decide +kernel
   rw[ek]
   have all:∀c∈("a ~":Str).cps.toList,c<16^8:=by decide +kernel
   exact⟨_,z1p (bG (by rw[hl];omega)),all _ (dE _)⟩
  refine⟨_,rfl,_,rfl,by omega,by omega,?_⟩
  refine y1t (lo:=0) (n:=m.toNat) (fun _=>true) (fun k=>.str (Y8 sg (c / 4%12) k)) (by omega) (fun k ys N k0 k1 hN=>?_) ?_
  ·refine⟨_,rfl,_,_,rfl,rfl,⟨by decide,by decide⟩,_,_,rfl,rfl,(by show(0:Int)<3;decide),_,_,sg,rfl,rfl,(by decide +kernel),hsg,?_⟩
   refine⟨_,rfl,_,rfl,_,_,rfl,rfl,_,_,rfl,rfl,(by show(0:Int)<12;decide),_,_,rfl,rfl,_,_,rfl,rfl,?_,?_,?_,?_⟩
   ·have:=cA (c / 4%12+k) (show(12:Int)≠0 by decide)
    omega
   ·have:=bS (c / 4%12+k) (show(0:Int)<12 by decide)
    omega
   ·show 1≤1000
    decide
   ·exact hN
  ·intro D hD
   rw[z9F]
   refine q D ((upI 0 m.toNat).map (Y8 sg (c / 4%12))) _ hD (z02 hD _) ?_ (by rw[bA,z0V]) (y3y hsl t0 t1 (by omega))
   rw[A1,gK]
   rfl
 ·have c4:c%4=0\/c%4=1\/c%4=2:=by
   have h1:=cA c (show(4:Int)≠0 by decide)
   have h2:=bS c (show(0:Int)<4 by decide)
   have h3:c%4≠3:=fun e=>cn (decide_eq_true (congrArg V.int e))
   omega
  obtain⟨st,hat,hst⟩:∃st:Str,atI [V.str "",V.str "row",V.str "a long stem of them"] (c%4)=some (.str st)/\(st=""\/st="row"\/st=z6z):=by
   rcases c4 with e|e|e<;>rw[e]
   ·exact⟨_,rfl,.inl rfl⟩
   ·exact⟨_,rfl,.inr (.inl rfl)⟩
   ·exact⟨_,rfl,.inr (.inr rfl)⟩
  have stl:st.length≤19:=by
   have l1:("":Str).length=0:=by decide +kernel
   have l2:("row":Str).length=3:=by decide +kernel
   have l3:z6z.length=19:=by decide +kernel
   rcases hst with rfl|rfl|rfl<;>omega
  refine⟨(by show 3≤sizeLine;decide),fun p hp=>⟨_,rfl,_,_,rfl,rfl,(by show(0:Int)<4;decide),p,_,_,_,rfl,rfl,SqL.of A1,hat,?_⟩⟩
  refine⟨_,rfl,_,_,rfl,rfl,⟨by decide,by decide⟩,_,rfl,st,rfl,z6I (by omega),_,_,rfl,rfl,_,_,rfl,rfl,by omega,?_⟩
  have s0:0≤c / 48%((st.length:Int)+1):=cA _ (by omega)
  have s1:c / 48%((st.length:Int)+1)≤(st.length:Int):=by
   have:=bS (c / 48) (show(0:Int)<(st.length:Int)+1 by omega)
   omega
  refine⟨_,rfl,_,rfl,by omega,by omega,?_⟩
  refine y1t (lo:=0) (n:=m.toNat) (fun _=>true) (fun k=>.str (z7u st (c / 48%((st.length:Int)+1)) (c / 4%12) k)) (by omega) (fun k ys N k0 k1 hN=>?_) ?_
  ·have i0:=cA (c / 4%12+k) (show(12:Int)≠0 by decide)
   have i1:=bS (c / 4%12+k) (show(0:Int)<12 by decide)
   have hsg:atI (("mM ~aA0.xX_9":Str).cps.toList) ((c / 4%12+k)%12)=some (sgL.getD ((c / 4%12+k)%12).toNat 0):=by
    have ek:(c / 4%12+k)%12=((((c / 4%12+k)%12).toNat:Nat):Int):=by omega
    have l1:((c / 4%12+k)%12).toNat<sgL.length:=by rw[z8O];omega
    have q1:atI sgL ((((c / 4%12+k)%12).toNat:Nat):Int)=some (sgL.getD ((c / 4%12+k)%12).toNat 0):=z1p (by
     rw[bY,bG l1]
     rfl)
    rw[<- ek] at q1
    exact q1
   have la:(N1 st none (some (c / 48%((st.length:Int)+1)))).length≤19:=by
    rw[<- z0N,y3t st s0 s1,bO,z0N]
    omega
   have lb:(N1 st (some (c / 48%((st.length:Int)+1))) none).length≤19:=by
    rw[<- z0N,y3q st s0 s1,d8,z0N]
    omega
   have lc:∀(x:Nat),(⟨#[x]⟩:Str).length=1:=fun _=>rfl
   have lab:∀(x:Nat),(N1 st none (some (c / 48%((st.length:Int)+1)))++(⟨#[x]⟩:Str)).length≤20:=fun x=>by
    rw[<- z0N,z5c,bE,z0N,z0N,lc]
    omega
   refine⟨_,rfl,_,rfl,_,rfl,st,rfl,z6I (by omega),?_⟩
   refine⟨_,rfl,_,rfl,_,rfl,_,_,rfl,rfl,_,_,rfl,rfl,(by show(0:Int)<12;decide),_,_,_,rfl,rfl,(by decide +kernel),hsg,?_⟩
   refine⟨_,_,rfl,rfl,z6I (by rw[lc];omega),?_⟩
   refine⟨_,rfl,_,rfl,_,rfl,st,rfl,z6I (by omega),_,_,rfl,rfl,z6I (by have:=lab (sgL.getD ((c / 4%12+k)%12).toNat 0);omega),?_⟩
   exact hN
  ·intro D hD
   rw[z9F]
   refine q D ((upI 0 m.toNat).map (z7u st (c / 48%((st.length:Int)+1)) (c / 4%12))) _ ((z02 hp _).free hD) ((z02 hp _).trans (z02 hD _)) ?_ (by rw[bA,z0V]) (y2j hst s0 s1 t0 t1 (by omega))
   rw[A1,gK]
   rfl
def z8b:Sp:=fun vs H Q _=>∃t:Int,vs=[.int t]/\0≤t/\t<1000000/\Q (.int (2^t.toNat)) H
theorem y0r(M:Bl mg)(F:Fun K "_law_doubled" "_law_doubled" z2X f fd):B0 P w K mg base CX0 1 f fd z2Z z8b:=by
 have nd:=z3U.nd
 refine F.ok z3U (fun vs H Q E h=>?_) (fun cdv A outer s H vs Q E hr h=>?_)
 ·obtain⟨t,rfl,_⟩:=h
  rfl
 obtain⟨t,rfl,t0,t1,q⟩:=h
 refine⟨_,(z03 (z0e (i:=1) nd rfl (Or.inl rfl) z04) (z03 (z1g cB rfl (z1l rfl M.range (z00 (pv 0) z01)) (z0o (i:=2) nd rfl (Or.inl rfl)) (z05 (z0e (i:=1) nd rfl (Or.inl rfl) (z0a z4H (pv 1) z04)))) (z05 (z0h (pv 1))))),?_⟩
 refine⟨_,rfl,_,rfl,by omega,by omega,?_⟩
 refine z1H (lo:=0) (n:=t.toNat) (fun i σ H'=>H'=H/\∃o,σ=[some (.int t),some (.int (2^i)),o]) ⟨rfl,_,rfl⟩ (fun i σ H' hi hp=>?_) (fun σ H' hp=>?_)
 ·obtain⟨rfl,o,rfl⟩:=hp
  refine⟨_,rfl,_,_,rfl,rfl,.inr ⟨by decide,by decide⟩,rfl,some (.int (0+(i:Int))),?_⟩
  rw[Int.pow_succ]
  rfl
 ·obtain⟨rfl,o,rfl⟩:=hp
  exact⟨_,rfl,q⟩
def z8d(H:Hp)(l:Addr)(v:V)(s:List Str):Prop:=∃a,v=.ref a/\a≠l/\H a=some (.lst (s.map V.str))
theorem z8d.keep{H H':Hp}(g:A4 H H'){l:Addr}{v:V}{s:List Str}(h:z8d H l v s):z8d H' l v s:=let ⟨a,e,n,q⟩:=h;⟨a,e,n,g _ _ q⟩
theorem z8d.over{H:Hp}{l:Addr}{o:HO}{v:V}{s:List Str}(h:z8d H l v s):z8d (upd H l o) l v s:=let ⟨a,e,n,q⟩:=h;⟨a,e,n,by rw[z0b n];exact q⟩
abbrev z1T(H:Hp)(l:Addr):List V->List (List Str)->Prop:=Paired (z8d H l)
theorem z1T.keep{H H':Hp}(g:A4 H H'){l:Addr}:∀{xs:List V}{ss:List (List Str)},z1T H l xs ss->z1T H' l xs ss
 | _,_,.nil=>.nil
 | _,_,.cons r t=>.cons (r.keep g) (z1T.keep g t)
theorem z1T.over{H:Hp}{l:Addr}{o:HO}:∀{xs:List V}{ss:List (List Str)},z1T H l xs ss->z1T (upd H l o) l xs ss
 | _,_,.nil=>.nil
 | _,_,.cons r t=>.cons r.over (z1T.over t)
theorem z1T.len{H:Hp}{l:Addr}:∀{xs:List V}{ss:List (List Str)},z1T H l xs ss->xs.length=ss.length
 | _,_,.nil=>rfl
 | _,_,.cons _ t=>by rw[bT,bT,z1T.len t]
theorem z1T.get{H:Hp}{l:Addr}:∀{xs:List V}{ss:List (List Str)},z1T H l xs ss->∀(i:Nat) (s:List Str),ss[i]? = some s->∃v,xs[i]? = some v/\z8d H l v s
 | _,_,.nil,i,s,e=>by simp at e
 | _,_,.cons r t,0,s,e=>by
  simp at e
  subst e
  exact⟨_,rfl,r⟩
 | _,_,.cons r t,i+1,s,e=>by
  obtain⟨v,h1,h2⟩:=z1T.get t i s (by simpa using e)
  exact⟨v,by simpa using h1,h2⟩
theorem z2S(ns:List Str):(ns.map V.str).all z1u=true:=by
 rw[gY,eI]
 intro x _
 rfl
theorem z7H{ns:List Str}{k:Int}(h0:0≤k)(h:k<(ns.length:Int)):∃x,ns[k.toNat]? = some x/\atI (ns.map V.str) k=some (.str x):=by
 have hk:k.toNat<ns.length:=by omega
 have ek:k=((k.toNat:Nat):Int):=by omega
 have q:atI (ns.map V.str) ((k.toNat:Nat):Int)=some (.str ns[k.toNat]):=z1p (by rw[bV,bG hk];rfl)
 rw[<- ek] at q
 exact⟨_,bG hk,q⟩
def y38(K:PySem.W.Frag):Sp:=fun vs H Q _=>∃(ln:Addr) (nm:List Str) (c m:Int),vs=[.ref ln,.int c,.int m]/\SqL K H ln (nm.map V.str)/\1≤nm.length/\nm.length≤12/\0≤m/\m≤900/\
 ∀(l:Addr) (xs:List V) (ss:List (List Str)) (H':Hp),H l=none->A4 H H'->H' l=some (.lst xs)->z1T H' l xs ss->ss.length=m.toNat->(∀s∈ss,s.Sublist nm)->Q (.ref l) H'
theorem two_pow_le{n:Nat}(h:n≤12):(1:Int)≤2^n/\(2:Int)^n≤4096:=by
 have:∀k≤12,(1:Int)≤2^k/\(2:Int)^k≤4096:=by decide
 exact this n h
theorem y4n(M:Bl mg)(F:Fun K "_law_sets" "_law_sets" z4V f fd)(K5:Cal P w K mg base 1 "_law_row" z4x y3W)(L7:Cal P w K mg base 1 "_law_doubled" z2Z z8b) :
  B0 P w K mg base CX0 2 f fd z59 (y38 K):=by
 have nd:=z5O.nd
 refine F.ok z5O (fun vs H Q E h=>?_) (fun cdv A outer s H vs Q E hr h=>?_)
 ·obtain⟨ln,nm,c,m,rfl,_⟩:=h
  rfl
 obtain⟨ln,nm,c,m,rfl,hS,n1,n2,m0,m1,q⟩:=h
 refine⟨_,(z03 (z0e (i:=3) nd rfl (Or.inl rfl) (z0r L7 (rm hr) rfl (z00 (z08 z06 rfl M.len bH (z00 (pv 0) z01)) z01))) (z03 (z0e (i:=4) nd rfl (Or.inl rfl) (z0L z01)) (z03 (z1g cB rfl (z16 (z0r K5 (rm hr) rfl (z00 (pv 1) (z00 (pv 2) (z00 (z0a z4H z04 (pv 3)) z01))))) (z0o (i:=5) nd rfl (Or.inl rfl)) (z03 (z0e (i:=6) nd rfl (Or.inl rfl) (z0a z0u (pv 5) (pv 3))) (z03 (z0e (i:=7) nd rfl (Or.inl rfl) (z0L z01)) (z03 (z1g cB rfl (z16 (pv 0)) (z0o (i:=8) nd rfl (Or.inl rfl)) (z03 (z0v (z09 z1w (z0a z0u (pv 6) z04) z04 (z0d _)) (z05 (z0n (z2h bM bP bQ z0B (pv 7) (z00 (pv 8) z01)))) z0c) (z05 (z0e (i:=6) nd rfl (Or.inl rfl) (z0a z0y (pv 6) z04))))) (z03 (z0v (z09 z1w (z0a z0y (pv 5) (pv 3)) z04 (z0d _)) (z05 (z0e (i:=7) nd rfl (Or.inl rfl) (z0L (z00 (z0P z0D (pv 0) (z0a z0u (pv 5) (z08 z06 rfl M.len bH (z00 (pv 0) z01))) (fun _ _=>rfl)) z01)))) z0c) (z03 (z0v (z09 z1w (z0a z0y (pv 5) (pv 3)) z04 (z0d _)) (z05 (z0e (i:=7) nd rfl (Or.inl rfl) (z0L z01))) z0c) (z03 (z0v (z09 z1w (z0a z0y (pv 5) (pv 3)) z04 (z0d _)) (z05 (z0e (i:=7) nd rfl (Or.inl rfl) (z0z z2A rfl M.list fA (z00 (pv 0) z01)))) z0c) (z05 (z0n (z2h bM bP bQ z0B (pv 4) (z00 (pv 7) z01))))))))))) (z05 (z0h (pv 4)))))),?_⟩
 have hl0:(nm.map V.str).length=nm.length:=bA _
 refine⟨_,rfl,ln,_,rfl,.inl hS,_,rfl,by omega,by omega,?_⟩
 have pw:=two_pow_le n2
 rw[hl0]
 have ez:(2:Int)^(((nm.length:Nat):Int).toNat)=2^nm.length:=rfl
 rw[ez]
 generalize hz:(2:Int)^nm.length=z at pw ⊢
 refine⟨(by show 0≤sizeLine;decide),fun l hl=>?_⟩
 refine⟨_,rfl,_,rfl,_,rfl,_,_,rfl,rfl,.inl ⟨by decide,by decide⟩,c,m,4*z,rfl,m0,m1,by omega,by omega,fun lf fs H1 nlf s1 e1 X1 all1=>?_⟩
 have sl:=z02 (H:=H) hl (.lst [])
 have nl:lf≠l:=fun e=>by rw[e,A1] at nlf;cases nlf
 have el1:H1 l=some (.lst []):=s1 _ _ A1
 refine⟨lf,rfl,⟨_,SqL.of e1⟩,?_⟩
 refine z1h (xs:=fs.map V.int) (fun i σ H'=>∃(xs:List V) (ss:List (List Str)) (o1 o2 o3 o4:Option V),H' l=some (.lst xs)/\z1T H' l xs ss/\ss.length=i/\(∀s∈ss,s.Sublist nm)/\H' lf=some (.lst (fs.map V.int))/\A4 H H'/\
  σ=[some (.ref ln),some (.int c),some (.int m),some (.int z),some (.ref l),o1,o2,o3,o4]) ⟨[],[],_,_,_,_,el1,.nil,rfl,(fun _ h=>nomatch h),e1,sl.trans s1,rfl⟩ (fun i σ H' hi hp=>?_) (fun i x σ H' hx hp=>?_) (fun σ H' hp=>?_)
 ·obtain⟨xs,ss,o1,o2,o3,o4,_,_,_,_,h2,_⟩:=hp
  exact SqL.of h2
 ·obtain⟨xs,ss,o1,o2,o3,o4,p1,p2,p3,p4,p5,p6,rfl⟩:=hp
  rw[bV] at hx
  cases ef:fs[i]? with
  | none=>rw[ef] at hx;cases hx
  | some g=>
   rw[ef] at hx
   cases hx
   have hg:=all1 g (bZ ef)
   have hi:i<fs.length:=(cJ.mp ef).1
   have lx:=p2.len
   have cd:CDiv g z:=⟨by omega,by omega⟩
   refine⟨_,rfl,_,rfl,_,_,rfl,rfl,(by omega),?_⟩
   refine⟨(by show 0≤sizeLine;decide),fun a ha=>?_⟩
   have nal:a≠l:=fun e=>by rw[e,p1] at ha;cases ha
   have naf:a≠lf:=fun e=>by rw[e,p5] at ha;cases ha
   refine⟨_,rfl,ln,rfl,⟨_,(p6.trans (z02 ha _)).seq hS⟩,?_⟩
   refine z1h (xs:=nm.map V.str) (fun k σ H2=>∃(ch:List Str) (mk:Int) (o4:Option V),ch.Sublist (nm.take k)/\H2=upd H' a (.lst (ch.map V.str))/\
    σ=[some (.ref ln),some (.int c),some (.int m),some (.int z),some (.ref l),some (.int g),some (.int mk),some (.ref a),o4]) ⟨[],_,_,gT _,rfl,rfl⟩ (fun k σ H2 hk hp=>?_) (fun k y σ H2 hy hp=>?_) (fun σ H2 hp=>?_)
   ·obtain⟨ch,mk,o4,_,rfl,_⟩:=hp
    exact(p6.trans (z02 ha _)).seq hS
   ·obtain⟨ch,mk,o4,hch,rfl,rfl⟩:=hp
    rw[bV] at hy
    cases en:nm[k]? with
    | none=>rw[en] at hy;cases hy
    | some nk=>
     rw[en] at hy
     cases hy
     have tk:=z0w en
     have hcl:ch.length≤12:=by
      have:=hch.length_le
      rw[bO] at this
      omega
     refine⟨_,rfl,_,_,rfl,rfl,(by show(0:Int)<2;decide),rfl,_,rfl,?_⟩
     refine B3 (fun _=>?_) (fun _=>?_)
     ·refine⟨_,rfl,.inl ⟨rfl,_,SqL.of A1⟩,_,rfl,a,_,_,rfl,rfl,A1,z0i (by rw[bA];omega),?_⟩
      refine⟨_,rfl,_,_,rfl,rfl,⟨by decide,by decide⟩,ch++[nk],_,some (.str nk),?_,?_,rfl⟩
      ·rw[tk]
       exact hch.append (gT _)
      ·rw[z5W,bR]
       rfl
     ·refine⟨_,rfl,_,_,rfl,rfl,⟨by decide,by decide⟩,ch,_,some (.str nk),?_,rfl,rfl⟩
      rw[tk]
      exact hch.trans (List.sublist_append_left _ _)
   ·obtain⟨ch,mk,o4,hch,rfl,rfl⟩:=hp
    rw[bA,bU] at hch
    have fin:∀(b:Addr) (cs:List Str) (H3:Hp) (o2 o4:Option V),cs.Sublist nm->b≠l->H3 b=some (.lst (cs.map V.str))->A4 (upd H' a (.lst (ch.map V.str))) H3->
      ∃(xs':List V) (ss':List (List Str)) (o1' o2' o3' o4':Option V),upd H3 l (.lst (xs++[.ref b])) l=some (.lst xs')/\z1T (upd H3 l (.lst (xs++[.ref b]))) l xs' ss'/\ss'.length=i+1/\(∀s∈ss',s.Sublist nm)/\
       upd H3 l (.lst (xs++[.ref b])) lf=some (.lst (fs.map V.int))/\A4 H (upd H3 l (.lst (xs++[.ref b])))/\
       ([some (.ref ln),some (.int c),some (.int m),some (.int z),some (.ref l),some (.int g),o2,some (.ref b),o4]:St)=[some (.ref ln),some (.int c),some (.int m),some (.int z),some (.ref l),o1',o2',o3',o4']:=by
     intro b cs H3 o2 o4 hcs hb hb3 g3
     have g4:A4 H' H3:=(z02 ha _).trans g3
     refine⟨_,ss++[cs],_,_,_,_,A1,?_,by rw[bE,p3];rfl,fun s' hs'=>?_,?_,z37 (p6.trans g4) hl,rfl⟩
     ·exact g8 (p2.keep g4).over ⟨b,rfl,hb,by rw[z0b hb];exact hb3⟩
     ·rcases c8.mp hs' with h|h
      ·exact p4 s' h
      ·rw[bC.mp h]
       exact hcs
     ·rw[z0b nl]
      exact g4 _ _ p5
    have el:∀{H3:Hp},A4 (upd H' a (.lst (ch.map V.str))) H3->H3 l=some (.lst xs):=fun {H3} g3=>g3 _ _ ((z02 ha _) _ _ p1)
    have app:∀{H3:Hp},A4 (upd H' a (.lst (ch.map V.str))) H3->xs.length<sizeLine:=fun _=>z0i (by omega)
    refine⟨_,rfl,_,rfl,_,_,rfl,rfl,cd,rfl,_,rfl,?_⟩
    refine B3 (fun d1=>?_) (fun d1=>?_)
    ·obtain⟨x1,hx1,ax1⟩:=z7H (ns:=nm) (k:=g%(((nm.map V.str).length:Nat):Int)) (cA _ (by omega)) (by rw[hl0];exact bS _ (by omega))
     have q1:g / z=1:=V.int.inj (z0x d1)
     refine⟨_,rfl,_,rfl,_,rfl,ln,_,rfl,.inl ((p6.trans (z02 ha _)).seq hS),_,_,rfl,rfl,(by rw[hl0];omega),ln,_,_,_,rfl,rfl,(p6.trans (z02 ha _)).seq hS,ax1,(by show 1≤sizeLine;decide),fun b1 hb1=>?_⟩
     have g1:=z02 hb1 (.lst [.str x1])
     have sub1:[x1].Sublist nm:=List.singleton_sublist.mpr (bZ hx1)
     refine⟨_,rfl,_,rfl,_,_,rfl,rfl,cd,rfl,_,rfl,?_⟩
     refine B3 (fun d=>absurd (show g / z=2 from V.int.inj (z0x d)) (by omega)) (fun _=>⟨_,rfl,_,rfl,_,_,rfl,rfl,cd,rfl,_,rfl,?_⟩)
     refine B3 (fun d=>absurd (show g / z=3 from V.int.inj (z0x d)) (by omega)) (fun _=>?_)
     refine⟨_,rfl,.inl ⟨rfl,_,SqL.of (el g1)⟩,_,rfl,l,_,_,rfl,rfl,el g1,app g1,?_⟩
     exact fin b1 [x1] _ _ _ sub1 (fun e=>by rw[e,(z02 ha (.lst (ch.map V.str))) _ _ p1] at hb1;cases hb1) A1 g1
    ·refine⟨_,rfl,_,rfl,_,_,rfl,rfl,cd,rfl,_,rfl,?_⟩
     refine B3 (fun d2=>?_) (fun d2=>?_)
     ·have q2:g / z=2:=V.int.inj (z0x d2)
      refine⟨(by show 0≤sizeLine;decide),fun b1 hb1=>?_⟩
      have g1:=z02 hb1 (.lst [])
      refine⟨_,rfl,_,rfl,_,_,rfl,rfl,cd,rfl,_,rfl,?_⟩
      refine B3 (fun d=>absurd (show g / z=3 from V.int.inj (z0x d)) (by omega)) (fun _=>?_)
      refine⟨_,rfl,.inl ⟨rfl,_,SqL.of (el g1)⟩,_,rfl,l,_,_,rfl,rfl,el g1,app g1,?_⟩
      exact fin b1 [] _ _ _ (List.nil_sublist _) (fun e=>by rw[e,(z02 ha (.lst (ch.map V.str))) _ _ p1] at hb1;cases hb1) A1 g1
     ·refine⟨_,rfl,_,rfl,_,_,rfl,rfl,cd,rfl,_,rfl,?_⟩
      refine B3 (fun d3=>?_) (fun d3=>?_)
      ·refine⟨_,rfl,ln,_,rfl,.inl ((p6.trans (z02 ha _)).seq hS),fun b1 hb1=>?_⟩
       have g1:=z02 hb1 (.lst (nm.map V.str))
       refine⟨_,rfl,.inl ⟨rfl,_,SqL.of (el g1)⟩,_,rfl,l,_,_,rfl,rfl,el g1,app g1,?_⟩
       exact fin b1 nm _ _ _ (gT _) (fun e=>by rw[e,(z02 ha (.lst (ch.map V.str))) _ _ p1] at hb1;cases hb1) A1 g1
      ·refine⟨_,rfl,.inl ⟨rfl,_,SqL.of (el (A4.refl _))⟩,_,rfl,l,_,_,rfl,rfl,el (A4.refl _),app (A4.refl _),?_⟩
       exact fin a ch _ _ _ hch nal A1 (A4.refl _)
 ·obtain⟨xs,ss,o1,o2,o3,o4,p1,p2,p3,p4,p5,p6,rfl⟩:=hp
  rw[bA] at p3
  exact⟨_,rfl,q l xs ss _ hl p6 p1 p2 (by rw[p3,X1]) p4⟩
abbrev Row:=List (Str×Int)
def z81(p:Str×Int):DV:=.tup [.str p.1,.int p.2]
def U6(r:Row):DV:=.tup (r.map z81)
theorem y0T{H:Hp}{a:Addr}{x:Str}{z:Int}(h:H a=some (.tup [.str x,.int z])):B5 H (z81 (x,z)) (.ref a):=z0J h (by show 2≤1000000;decide) (.cons (z0A x) (.cons (z1N z) .nil))
theorem y3j{xs:List V}:∀ys,HO.lst xs≠.tup ys:=fun _ e=>by cases e
def y0y:Sp:=fun vs H Q _=>∃g p:Int,vs=[.int g,.int p]/\∀r,0≤r->r≤1000000->Q (.int r) H
theorem y29(F:Fun K "_law_value" "_law_value" z41 f fd):B0 P w K mg base CX0 1 f fd z4h y0y:=by
 have nd:=z5x.nd
 refine F.ok z5x (fun vs H Q E h=>?_) (fun cdv A outer s H vs Q E hr h=>?_)
 ·obtain⟨g,p,rfl,_⟩:=h
  rfl
 obtain⟨g,p,rfl,q⟩:=h
 refine⟨_,(z03 (z0v (z09 z1w (z0a z0y (pv 0) z04) z04 (z0d _)) (z05 (z0h (z0a z0u (z0a z0O (pv 0) (z0a z4H z04 (pv 1))) z04))) z0c) (z03 (z0v (z09 z1w (z0a z0y (pv 0) z04) z04 (z0d _)) (z05 (z0h (z0a z4H z04 (z0a z0u (z0a z0O (pv 0) (pv 1)) z04)))) z0c) (z05 (z0h (z0a z0u (z0a z0O (pv 0) (pv 1)) z04))))),?_⟩
 refine⟨_,rfl,_,_,rfl,rfl,⟨by decide,by decide⟩,rfl,_,rfl,?_⟩
 refine B3 (fun _=>?_) (fun _=>?_)
 ·refine⟨_,rfl,_,rfl,_,_,rfl,rfl,.inl ⟨by decide,by decide⟩,_,_,rfl,rfl,_,_,rfl,rfl,(by show(0:Int)<1000001;decide),?_⟩
  have h1:=cA (g+7*p) (show(1000001:Int)≠0 by decide)
  have h2:=bS (g+7*p) (show(0:Int)<1000001 by decide)
  exact q _ h1 (by omega)
 ·refine⟨_,rfl,_,_,rfl,rfl,⟨by decide,by decide⟩,rfl,_,rfl,?_⟩
  have h1:=cA (g+p) (show(2:Int)≠0 by decide)
  have h2:=bS (g+p) (show(0:Int)<2 by decide)
  refine B3 (fun _=>?_) (fun _=>?_)
  ·refine⟨_,rfl,_,rfl,_,_,rfl,rfl,_,_,rfl,rfl,(by show(0:Int)<2;decide),_,_,rfl,rfl,.inl ⟨by decide,by decide⟩,?_⟩
   exact q _ (by omega) (by omega)
  ·refine⟨_,rfl,_,rfl,_,_,rfl,rfl,_,_,rfl,rfl,(by show(0:Int)<2;decide),?_⟩
   exact q _ h1 (by omega)
structure Rws(nm:List Str)(rows:List Row):Prop where
 sub:∀r∈rows,(r.map Prod.fst).Sublist nm
 val:∀r∈rows,∀p∈r,0≤p.2/\p.2≤1000000
def z9L:Sp:=fun vs H Q _=>∃(l:Addr) (xs:List V) (ss:List (List Str)) (c:Int),vs=[.ref l,.int c]/\H l=some (.lst xs)/\z1T H l xs ss/\ss.length≤900/\(∀s∈ss,s.length≤12)/\
 ∀(lr:Addr) (us:List V) (rows:List Row) (H':Hp),H lr=none->A4 H H'->H' lr=some (.lst us)->z0k H' (rows.map U6) us->rows.map (fun r=>r.map Prod.fst)=ss->(∀r∈rows,∀p∈r,0≤p.2/\p.2≤1000000)->Q (.ref lr) H'
theorem y1p(M:Bl mg)(F:Fun K "_law_valued" "_law_valued" z3I f fd)(K5:Cal P w K mg base 1 "_law_row" z4x y3W)(O5:Cal P w K mg base 1 "_law_value" z4h y0y) :
  B0 P w K mg base CX0 2 f fd z3E z9L:=by
 have nd:=z4o.nd
 refine F.ok z4o (fun vs H Q E h=>?_) (fun cdv A outer s H vs Q E hr h=>?_)
 ·obtain⟨l,xs,ss,c,rfl,_⟩:=h
  rfl
 obtain⟨l,xs,ss,c,rfl,hL,hSs,n0,n1,q⟩:=h
 refine⟨_,(z03 (z0e (i:=2) nd rfl (Or.inl rfl) (z0r K5 (rm hr) rfl (z00 (pv 1) (z00 (z08 z06 rfl M.len bH (z00 (pv 0) z01)) (z00 z04 z01))))) (z03 (z0e (i:=3) nd rfl (Or.inl rfl) (z0L z01)) (z03 (z1g cB rfl (z1l rfl M.range (z00 (z08 z06 rfl M.len bH (z00 (pv 0) z01)) z01)) (z0o (i:=4) nd rfl (Or.inl rfl)) (z03 (z0e (i:=5) nd rfl (Or.inl rfl) (z0L z01)) (z03 (z1g cB rfl (z1l rfl M.range (z00 (z08 z06 rfl M.len bH (z00 (z0P z0D (pv 0) (pv 4) (fun _ _=>rfl)) z01)) z01)) (z0o (i:=6) nd rfl (Or.inl rfl)) (z05 (z0n (z2h bM bP bQ z0B (pv 5) (z00 (z1j (z00 (z0P z0D (z0P z0D (pv 0) (pv 4) (fun _ _=>rfl)) (pv 6) (fun _ _=>rfl)) (z00 (z0r O5 (rm hr) rfl (z00 (z0P z0D (pv 2) (pv 4) (fun _ _=>rfl)) (z00 (pv 6) z01))) z01))) z01))))) (z05 (z0n (z2h bM bP bQ z0B (pv 3) (z00 (z0z z0Q rfl M.tuple cI (z00 (pv 5) z01)) z01))))))) (z05 (z0h (pv 3)))))),?_⟩
 have hl0:=hSs.len
 refine⟨_,rfl,_,rfl,l,_,rfl,.inl (SqL.of hL),_,_,_,rfl,by omega,by omega,by decide,by decide,fun lf fs H1 nlf s1 e1 X1 all1=>?_⟩
 have len1':fs.length=ss.length:=by rw[X1,hl0];rfl
 refine⟨(by show 0≤sizeLine;decide),fun lr hlr=>?_⟩
 have nr:lf≠lr:=z0m e1 hlr
 have nlr0:H lr=none:=s1.free hlr
 refine⟨_,rfl,l,_,rfl,.inl (SqL.of ((s1.trans (z02 hlr _)) _ _ hL)),_,rfl,by omega,by omega,?_⟩
 refine z1H (lo:=0) (n:=((xs.length:Nat):Int).toNat) (fun i σ H'=>∃(us:List V) (rows:List Row) (o1 o2 o3:Option V),H' lr=some (.lst us)/\z0k H' (rows.map U6) us/\rows.map (fun r=>r.map Prod.fst)=ss.take i/\(∀r∈rows,∀p∈r,0≤p.2/\p.2≤1000000)/\A4 H1 H'/\
  σ=[some (.ref l),some (.int c),some (.ref lf),some (.ref lr),o1,o2,o3]) ⟨[],[],_,_,_,A1,.nil,rfl,(fun _ h=>nomatch h),z02 hlr _,rfl⟩ (fun i σ H' hi hp=>?_) (fun σ H' hp=>?_)
 ·obtain⟨us,rows,o1,o2,o3,p1,p2,p3,p4,p5,rfl⟩:=hp
  have hi':i<ss.length:=by
   have:((xs.length:Nat):Int).toNat=xs.length:=rfl
   omega
  have ei:(0:Int)+(i:Int)=(i:Int):=fR _
  have es:ss[i]? = some ss[i]:=bG hi'
  generalize ss[i]=sI at es
  have hsI:=n1 sI (bZ es)
  obtain⟨v,hv,a,rfl,na,ha⟩:=hSs.get i sI es
  have lus:=p2.length
  rw[bA] at lus
  have lrows:rows.length=i:=by
   have:=congrArg List.length p3
   rw[bA,bO] at this
   omega
  have atv:atI xs ((0:Int)+(i:Int))=some (.ref a):=by rw[ei];exact z1p hv
  have gl:∀{H2:Hp},A4 H' H2->H2 l=some (.lst xs)/\H2 a=some (.lst (sI.map V.str))/\H2 lf=some (.lst (fs.map V.int)):=fun {H2} g=>⟨(s1.trans (p5.trans g)) _ _ hL,(s1.trans (p5.trans g)) _ _ ha,(p5.trans g) _ _ e1⟩
  refine⟨(by show 0≤sizeLine;decide),fun lo hlo=>?_⟩
  have go:=z02 (H:=H') hlo (.lst [])
  refine⟨_,rfl,_,rfl,l,_,_,_,rfl,rfl,SqL.of (gl go).1,atv,a,_,rfl,.inl (SqL.of (gl go).2.1),_,rfl,by omega,by rw[bA];omega,?_⟩
  have hls:(sI.map V.str).length=sI.length:=bA _
  refine z1H (lo:=0) (n:=(((sI.map V.str).length:Nat):Int).toNat) (fun j σ H2=>∃(zs:List V) (row:Row) (o3:Option V),H2 lo=some (.lst zs)/\z0k H2 (row.map z81) zs/\row.map Prod.fst=sI.take j/\(∀p∈row,0≤p.2/\p.2≤1000000)/\A4 H' H2/\
   σ=[some (.ref l),some (.int c),some (.ref lf),some (.ref lr),some (.int (0+(i:Int))),some (.ref lo),o3]) ⟨[],[],_,A1,.nil,rfl,(fun _ h=>nomatch h),go,rfl⟩ (fun j σ H2 hj hp=>?_) (fun σ H2 hp=>?_)
  ·obtain⟨zs,row,o3,r1,r2,r3,r4,r5,rfl⟩:=hp
   have hj':j<sI.length:=by
    have:(((sI.map V.str).length:Nat):Int).toNat=sI.length:=by rw[hls];rfl
    omega
   have ej:(0:Int)+(j:Int)=(j:Int):=fR _
   have ex:sI[j]? = some sI[j]:=bG hj'
   generalize sI[j]=x at ex
   have atx:atI (sI.map V.str) ((0:Int)+(j:Int))=some (.str x):=by
    rw[ej]
    exact z1p (by rw[bV,ex];rfl)
   have atf:atI (fs.map V.int) ((0:Int)+(i:Int))=some (.int (fs.getD i 0)):=by
    rw[ei]
    exact z8T (ns:=fs) (k:=(i:Int)) (by omega) (by omega)
   have lrow:row.length=j:=by
    have:=congrArg List.length r3
    rw[bA,bO] at this
    omega
   have lz:=r2.length
   rw[bA] at lz
   refine⟨_,rfl,.inl ⟨rfl,_,SqL.of r1⟩,_,rfl,_,rfl,l,_,_,_,rfl,rfl,SqL.of (gl r5).1,atv,_,rfl,a,_,_,_,rfl,rfl,SqL.of (gl r5).2.1,atx,?_⟩
   refine⟨_,rfl,_,rfl,lf,_,_,_,rfl,rfl,SqL.of (gl r5).2.2,atf,_,rfl,_,_,rfl,fun z z0 z1=>⟨(by show 2≤sizeLine;decide),fun t ht=>?_⟩⟩
   have gt:=z02 (H:=H2) ht (.tup [.str x,.int z])
   refine⟨lo,zs,_,rfl,rfl,gt _ _ r1,z0i (by omega),?_⟩
   refine⟨_,row++[(x,z)],some (.int (0+(j:Int))),A1,?_,?_,fun p hp=>?_,z37 (r5.trans gt) hlo,rfl⟩
   ·rw[bR]
    exact z0k.over (gt _ _ r1) y3j _ _ (z0k.snoc (z0k.keep gt _ _ r2) (y0T A1))
   ·rw[bR,r3,z0w ex]
    rfl
   ·rcases c8.mp hp with h|h
    ·exact r4 p h
    ·rw[bC.mp h]
     exact⟨z0,z1⟩
  ·obtain⟨zs,row,o3,r1,r2,r3,r4,r5,rfl⟩:=hp
   have er:(((sI.map V.str).length:Nat):Int).toNat=sI.length:=by rw[hls];rfl
   rw[er,bU] at r3
   have lrow:row.length≤12:=by
    have:=congrArg List.length r3
    rw[bA] at this
    omega
   refine⟨_,rfl,.inl ⟨rfl,_,SqL.of (r5 _ _ p1)⟩,_,rfl,lo,_,rfl,.inl ⟨SqL.of r1,fun t ht=>?_⟩⟩
   have gt:=z02 (H:=H2) ht (.tup zs)
   have el:=(r5.trans gt) _ _ p1
   refine⟨lr,us,_,rfl,rfl,el,z0i (by omega),?_⟩
   refine⟨_,rows++[row],_,_,_,A1,?_,?_,fun r hr'=>?_,z37 (p5.trans (r5.trans gt)) hlr,rfl⟩
   ·rw[bR]
    refine z0k.over el y3j _ _ (z0k.snoc (z0k.keep (r5.trans gt) _ _ p2) (z0J A1 ?_ (z0k.keep gt _ _ r2)))
    rw[bA]
    omega
   ·rw[bR,p3,z0w es]
    exact congrArg (ss.take i++·) (congrArg (fun z=>[z]) r3)
   ·rcases c8.mp hr' with h|h
    ·exact p4 r h
    ·rw[bC.mp h]
     exact r4
 ·obtain⟨us,rows,o1,o2,o3,p1,p2,p3,p4,p5,rfl⟩:=hp
  have er:((xs.length:Nat):Int).toNat=ss.length:=by rw[hl0];rfl
  rw[er,bU] at p3
  exact⟨_,rfl,q lr us rows _ nlr0 (s1.trans p5) p1 p2 p3 p4⟩
def y1j(K:PySem.W.Frag):Sp:=fun vs H Q _=>∃(a:Addr) (ns:List Int),vs=[.ref a]/\SqL K H a (ns.map V.int)/\
 ∀(l:Addr) (nm:List Str) (H':Hp),H l=none->A4 H H'->H' l=some (.lst (nm.map V.str))->1≤nm.length->nm.length≤12->Nms nm->Q (.ref l) H'
theorem y2M(F:Fun K "_law_names" "_law_names" z48 f fd)(D9:Cal P w K mg base 1 "_law_at" z5E (w0D K))(C1:Cal P w K mg base 1 "_law_pick" z2U z9G)
  (O7:Cal P w K mg base 1 "_law_named" z4g y1V):B0 P w K mg base CX0 2 f fd z4j (y1j K):=by
 have nd:=z5g.nd
 refine F.ok z5g (fun vs H Q E h=>?_) (fun cdv A outer s H vs Q E hr h=>?_)
 ·obtain⟨a,ns,rfl,_⟩:=h
  rfl
 obtain⟨a,ns,rfl,hS,q⟩:=h
 refine⟨_,(z05 (z0h (z0r O7 (rm hr) rfl (z00 (z0a z0y (z0r D9 (rm hr) rfl (z00 (pv 0) (z00 z04 z01))) z04) (z00 (z0a z0O z04 (z0r C1 (rm hr) rfl (z00 (z0a z0u (z0r D9 (rm hr) rfl (z00 (pv 0) (z00 z04 z01))) z04) (z00 z04 z01)))) z01))))),?_⟩
 refine⟨_,rfl,a,ns,0,rfl,hS,g0 0,_,_,rfl,rfl,⟨by decide,by decide⟩,?_⟩
 refine⟨_,rfl,a,ns,0,rfl,hS,g0 0,_,_,rfl,rfl,(by show(0:Int)<24;decide),_,_,rfl,(by decide),fun r h0 h1=>⟨_,_,rfl,rfl,?_⟩⟩
 exact⟨_,_,rfl,by omega,by omega,fun l nm H' nl g e len N=>q l nm H' nl g e (by omega) (by omega) N⟩
def W9(s:List Str):DV:=.tup (s.map DV.str)
def dnI(hi:Int)(j:Nat):List Int:=(List.range j).map fun(k:Nat)=>hi-(k:Int)
theorem y3M(hi:Int)(j:Nat):(dnI hi j).length=j:=by unfold dnI;rw[bA,fX]
theorem z9a{hi:Int}{j:Nat}{x:Int}:x∈dnI hi j↔hi-j<x/\x≤hi:=by
 unfold dnI
 rw[cF]
 constructor
 ·rintro⟨k,hk,rfl⟩
  have:=fS.mp hk
  omega
 ·rintro⟨h1,h2⟩
  exact⟨(hi-x).toNat,fS.mpr (by omega),by omega⟩
def z5S(r:Row):List Str:=r.map Prod.fst
def z6J(rows:List Row)(n:Int):Row:=rows.getD (n-1).toNat []
def y0H(rows:List Row)(k:Int):DV:=.tup [.int k,W9 (z5S (z6J rows k))]
def y0k(n r:Int):List Int:=(dnI (n-1) (n-1).toNat).filter fun k=>decide (n-k≤r)
def y2X(rows:List Row)(n r:Int):DV:=.tup ((y0k n r).map (y0H rows))
def z1K(rows:List Row)(n r:Int):DV:=.tup [.int n,U6 (z6J rows n),y2X rows n r]
theorem z6u{H:Hp}:∀{r:Row}{xs:List V},z0k H (r.map z81) xs->∀(i:Nat) (x:V),xs[i]? = some x->∃(p:Str×Int) (a:Addr),r[i]? = some p/\x=.ref a/\H a=some (.tup [.str p.1,.int p.2]):=by
 intro r xs h i x e
 obtain⟨d,e1,t⟩:=h.at i x e
 rw[bV] at e1
 cases er:r[i]? with
 | none=>rw[er] at e1;cases e1
 | some p=>
  rw[er] at e1
  have e2:z81 p=d:=Option.some.inj e1
  subst e2
  obtain⟨a,ys,rfl,h1,_,h2⟩:=z1b t
  obtain⟨y1,r1,rfl,t1,h3⟩:=z0T h2
  obtain⟨y2,r2,rfl,t2,h4⟩:=z0T h3
  have:=z36 h4
  subst this
  rw[z5y t1,z3x t2] at h1
  exact⟨p,a,rfl,rfl,h1⟩
structure S0(zs:List Str):Prop where
 lo:1≤zs.length
 hi:zs.length≤12
 nd:zs.Nodup
def SqN(K:PySem.W.Frag)(H:Hp)(p:Addr)(zs:List Str):Prop:=SqL K H p (zs.map V.str)\/SqT K H p (zs.map V.str)
theorem SqN.keep{K:PySem.W.Frag}{H H':Hp}{p:Addr}{zs:List Str}(h:A4 H H')(x:SqN K H p zs):SqN K H' p zs:=x.imp (fun q=>h.seq q) fun q=>z4N h q
def z70(K:PySem.W.Frag):Sp:=fun vs H Q _=>∃(p:Addr) (zs:List Str),vs=[.ref p]/\SqN K H p zs/\S0 zs/\∀H',A4 H H'->Q .non H'
theorem z98(M:Bl mg)(F:Fun K "refuse_bad_names" "refuse_bad_names" z1X f fd):B0 P w K mg base CX0 1 f fd z1U (z70 K):=by
 have nd:=z2C.nd
 refine F.ok z2C (fun vs H Q E h=>?_) (fun cdv A outer s H vs Q E hr h=>?_)
 ·obtain⟨p,zs,rfl,_⟩:=h
  rfl
 ·obtain⟨p,zs,rfl,hp,g,k⟩:=h
  refine⟨_,(z03 (z0v (z09 z3o (z08 z06 rfl M.len bH (z00 (pv 0) z01)) z04 (z0d _)) (z05 z1i) z0c) (z03 (z0v (z09 z2g (z08 z06 rfl M.len bH (z00 (pv 0) z01)) (z11 rfl M.MOST_NAMES) (z0d _)) (z05 z1i) z0c) (z05 (z0v (z09 z7O (z08 z32 rfl M.len bH (z00 (z0z (z2H rfl) rfl M.set gG (z00 (pv 0) z01)) z01)) (z08 z06 rfl M.len bH (z00 (pv 0) z01)) (z0d _)) (z05 z1i) z0c)))),?_⟩
  have:=g.lo
  have:=g.hi
  have el:(zs.map V.str).length=zs.length:=bA _
  refine⟨_,rfl,p,_,rfl,hp,_,_,rfl,rfl,_,rfl,B3 (fun q=>absurd (z0x q) (by omega)) fun _=>?_⟩
  refine⟨_,rfl,p,_,rfl,hp,_,_,rfl,rfl,_,rfl,B3 (fun q=>absurd (z0x q) (by omega)) fun _=>?_⟩
  refine⟨_,rfl,p,zs,rfl,hp,by omega,fun l hl=>⟨l,zs,rfl,A1,by omega,_,rfl,p,zs.map V.str,rfl,SqN.keep (z02 hl _) hp,rfl,_,rfl,?_⟩⟩
  refine y2g ?_ (k _ (z02 hl _))
  rw[z9c g.nd,el]
def z6V:Sp:=fun vs H Q _=>∃r:Int,vs=[.int r]/\0≤r/\r≤10/\Q .non H
theorem z9k(M:Bl mg)(F:Fun K "refuse_bad_reach" "refuse_bad_reach" z1V f fd):B0 P w K mg base CX0 1 f fd z1W z6V:=by
 have nd:=z2z.nd
 refine F.ok z2z (fun vs H Q E h=>?_) (fun cdv A outer s H vs Q E hr h=>?_)
 ·obtain⟨r,rfl,_⟩:=h
  rfl
 ·obtain⟨r,rfl,r0,r1,k⟩:=h
  refine⟨_,(z05 (z0v (PW.pt (z2G (z09 z3o (pv 0) z04 (z0d _)) (z1E (z09 z2g (pv 0) (z11 rfl M.MOST_REACH) (z0d _))))) (z05 z1i) z0c)),?_⟩
  refine⟨_,rfl,_,_,rfl,rfl,_,rfl,B3 (fun q=>absurd (z0x q) (by omega)) fun _=>?_⟩
  exact⟨_,rfl,_,_,rfl,rfl,_,rfl,B3 (fun q=>absurd (z0x q) (by omega)) fun _=>k⟩
def HdN(K:PySem.W.Frag)(H:Hp)(p:Addr)(zs:List Str):Prop:=SqL K H p (zs.map V.str)\/H p=some (.tup (zs.map V.str))
theorem HdN.sq{K:PySem.W.Frag}{H:Hp}{p:Addr}{zs:List Str}(h:HdN K H p zs):SqN K H p zs:=h.imp id SqT.of
theorem HdN.keep{K:PySem.W.Frag}{H H':Hp}{p:Addr}{zs:List Str}(s:A4 H H')(h:HdN K H p zs):HdN K H' p zs:=h.imp (fun q=>s.seq q) fun q=>s _ _ q
def z5a(K:PySem.W.Frag):Sp:=fun vs H Q _=>∃(p:Addr) (zs:List Str) (r:Int),vs=[.ref p,.int r]/\HdN K H p zs/\S0 zs/\0≤r/\r≤10/\∀(l:Addr) (H':Hp),A4 H H'->H' l=some (.tup (zs.map V.str))->Q (.ref l) H'
theorem z9j(M:Bl mg)(F:Fun K "bulletin_names" "bulletin_names" z2p f fd)(F9:Cal P w K mg base 1 "refuse_bad_names" z1U (z70 K))(F7:Cal P w K mg base 1 "refuse_bad_reach" z1W z6V) :
  B0 P w K mg base CX0 2 f fd z1I (z5a K):=by
 have nd:=z3k.nd
 refine F.ok z3k (fun vs H Q E h=>?_) (fun cdv A outer s H vs Q E hr h=>?_)
 ·obtain⟨p,zs,r,rfl,_⟩:=h
  rfl
 ·obtain⟨p,zs,r,rfl,hp,g,r0,r1,k⟩:=h
  refine⟨_,(z03 (z0n (z0r F9 (rm hr) rfl (z00 (pv 0) z01))) (z03 (z0n (z0r F7 (rm hr) rfl (z00 (pv 1) z01))) (z05 (z0h (z0z z0Q rfl M.tuple cI (z00 (pv 0) z01)))))),?_⟩
  refine⟨_,rfl,p,zs,rfl,hp.sq,g,fun H1 s1=>⟨_,rfl,r,rfl,r0,r1,_,rfl,p,zs.map V.str,rfl,?_⟩⟩
  rcases hp.keep s1 with hq|hq
  ·exact .inl ⟨hq,fun l hl=>k l _ (s1.trans (z02 hl _)) A1⟩
  ·exact .inr ⟨SqT.of hq,k p _ s1 hq⟩
def z0s(fp:List Addr)(H H':Hp):Prop:=∀b o,H b=some o->b∉fp->H' b=some o
theorem z0s.of{fp:List Addr}{H H':Hp}(h:A4 H H'):z0s fp H H':=fun b o e _=>h b o e
def z45(H:Hp)(fp:List Addr):Prop:=∀b∈fp,∀xs,H b≠some (.tup xs)
mutual
theorem B5.but{fp:List Addr}{H H':Hp}(s:z0s fp H H')(n:z45 H fp):∀(d:DV) (x:V),B5 H d x->B5 H' d x
 | .non,_,h=>by unfold B5 at h ⊢;exact h
 | .bl _,_,h=>by unfold B5 at h ⊢;exact h
 | .int _,_,h=>by unfold B5 at h ⊢;exact h
 | .str _,_,h=>by unfold B5 at h ⊢;exact h
 | .tup ds,_,h=>by
  unfold B5 at h ⊢
  obtain⟨a,xs,e,h1,h2,h3⟩:=h
  exact⟨a,xs,e,s _ _ h1 (fun m=>n a m xs h1),h2,z0k.but s n ds xs h3⟩
theorem z0k.but{fp:List Addr}{H H':Hp}(s:z0s fp H H')(n:z45 H fp):∀(ds:List DV) (xs:List V),z0k H ds xs->z0k H' ds xs
 | [],_,h=>by unfold z0k at h ⊢;exact h
 | d::ds,_,h=>by
  unfold z0k at h ⊢
  obtain⟨x,r,e,h1,h2⟩:=h
  exact⟨x,r,e,B5.but s n d x h1,z0k.but s n ds r h2⟩
end
theorem z8G{H:Hp}{x dx b:Addr}{o u v:HO}(nx:H x=none)(ndx:H dx=none)(h:H b=some o):upd (upd H dx u) x v b=some o:=by
 rw[z0b (z0m h nx),z0b (z0m h ndx)]
 exact h
theorem z6k{H H1:Hp}{C x dx:Addr}(s:A4 H H1)(nx:H1 x=none)(ndx:H1 dx=none):A4 H (upd (upd H1 dx (.own x)) x (.ins C dx [])):=fun _ _ e=>z8G nx ndx (s _ _ e)
theorem z6h{H H1 H2:Hp}{x:Addr}(b:z0s [x] H1 H2)(m:A4 H H1)(nx:H x=none):A4 H H2:=fun c o e=>b c o (m c o e) (by
 rw[bC]
 exact z0m e nx)
theorem z4T{H H1:Hp}{x dx b:Addr}(m:A4 H H1)(nx:H x=none)(ndx:H dx=none)(h:b=x\/b=dx\/H1 b=none):H b=none:=by
 rcases h with rfl|rfl|h
 ·exact nx
 ·exact ndx
 ·exact m.free h
theorem y0D{fp fp' fp2:List Addr}{H7 H' GW:Hp}(bt:z0s fp H7 H')(ff:∀b∈fp',b∈fp\/H7 b=none)(gW:A4 H' GW)(hf2:∀b∈fp2,b∈fp'\/GW b=none):∀b∈fp2,b∈fp\/H7 b=none:=fun b m=>(hf2 b m).elim (ff b) fun z=>by
 cases e:H7 b with
 | none=>exact .inr rfl
 | some o=>
  by_cases nb:b∈fp
  ·exact .inl nb
  ·rw[gW _ _ (bt b o e nb)] at z
   cases z
def z2r(had:List Int):List Int:=(upI 1 60).filter fun x=>decide (x∈had)
def Z9(had:List Int):Int:=(z2r had).getLastD 0
def P8(had:List Int)(n:Int):List Int:=if n∈had then had else had++[n]
theorem z9x{had:List Int}{n x:Int}:x∈P8 had n↔x∈had\/x=n:=by
 unfold P8
 by_cases h:n∈had
 ·rw[if_pos h]
  exact⟨.inl,fun q=>q.elim id fun e=>e ▸ h⟩
 ·rw[if_neg h,c8,bC]
theorem y0C{had:List Int}{x:Int}:x∈z2r had↔(1≤x/\x<1+60)/\x∈had:=by
 unfold z2r
 rw[cY,z2k,decide_eq_true_eq]
 rfl
theorem z6S(had:List Int):(z2r had).Pairwise (· < ·):=(z3K 1 60).filter _
theorem y1W(had:List Int):(z2r had).length≤60:=by
 have h:=d7 (fun x=>decide (x∈had)) (upI 1 60)
 rw[z0V] at h
 exact h
theorem y1b{ns ms:List Int}(nd:ns.Nodup)(N8:∀x∈ns,1≤x/\x≤60)(hp:ms.Perm ns)(hs:ms.Pairwise (·≤·)):ms=z2r ns:=by
 have n2:ms.Nodup:=hp.nodup_iff.mpr nd
 have lt:ms.Pairwise (· < ·):=by
  have:=List.pairwise_and_iff.mpr ⟨hs,n2⟩
  exact this.imp fun h=>by
   have:=h.1
   have:=h.2
   omega
 refine z4F lt (z6S _) fun x=>?_
 rw[y0C,hp.mem_iff]
 exact⟨fun h=>⟨by have:=N8 x h;omega,h⟩,fun h=>h.2⟩
abbrev ShP:=Hp->Addr->List Addr->List Str->Int->(Int->DV)->List Int->Prop
structure X2(C:Addr)(ms:List Str)(Sh:ShP):Prop where
 ins:∀{H p fp zs r iss had},Sh H p fp zs r iss had->∃dx fs,H p=some (.ins C dx fs)/\∀m∈ms,fs.lookup m=none
 own:∀{H p fp zs r iss had},Sh H p fp zs r iss had->∀b∈fp,∃o,H b=some o/\∀xs,o≠.tup xs
 keep:∀{H H' p fp gp zs r iss had},Sh H p fp zs r iss had->z0s gp H H'->(∀b∈gp,b∉fp)->z45 H gp->Sh H' p fp zs r iss had
theorem X2.same{C:Addr}{ms:List Str}{Sh:ShP}(O:X2 C ms Sh){H H':Hp}{p:Addr}{fp:List Addr}{zs:List Str}{r:Int}{iss:Int->DV}{had:List Int}(h:Sh H p fp zs r iss had)(s:A4 H H'):Sh H' p fp zs r iss had:=
 O.keep (gp:=[]) h (.of s) (fun _ q=>by cases q) fun _ q=>by cases q
theorem X2.P1{C:Addr}{ms:List Str}{Sh:ShP}(O:X2 C ms Sh){H:Hp}{p:Addr}{fp:List Addr}{zs:List Str}{r:Int}{iss:Int->DV}{had:List Int}(h:Sh H p fp zs r iss had):z45 H fp:=fun b m xs e=>by
 obtain⟨o,e1,n⟩:=O.own h b m
 rw[e1] at e
 exact n xs (Option.some.inj e)
def z7B(K:PySem.W.Frag)(C:Addr)(Sh:ShP):Sp:=fun vs H Q _=>∃(x dx pn:Addr) (zs:List Str) (r:Int),vs=[.ref x,.ref pn,.int r]/\H x=some (.ins C dx [])/\dx≠x/\H dx=some (.own x)/\HdN K H pn zs/\S0 zs/\0≤r/\r≤10/\
 ∀(fp:List Addr) (H':Hp),(∀b∈fp,b=x\/b=dx\/H b=none)->z0s [x] H H'->(∀iss,Sh H' x fp zs r iss [])->Q .non H'
def y46(Sh:ShP):Sp:=fun vs H Q _=>∃(p:Addr) (v:V) (fp:List Addr) (zs:List Str) (r:Int) (iss:Int->DV) (had:List Int) (n:Int) (ds:List DV),vs=[.ref p,v]/\Sh H p fp zs r iss had/\B5 H (iss n) v/\iss n=.tup (.int n::ds)/\1≤n/\n≤60/\
 ∀(fp':List Addr) (H':Hp),(∀b∈fp',b∈fp\/H b=none)->z0s fp H H'->Sh H' p fp' zs r iss (P8 had n)->Q (.bl (decide (n∉had))) H'
def z97(Sh:ShP):Sp:=fun vs H Q _=>∃(p:Addr) (fp:List Addr) (zs:List Str) (r:Int) (iss:Int->DV) (had:List Int),vs=[.ref p]/\Sh H p fp zs r iss had/\
 ∀(l:Addr) (H':Hp),A4 H H'->H' l=some (.tup ((z2r had).map V.int))->Q (.ref l) H'
def y0g(Sh:ShP):Sp:=fun vs H Q _=>∃(p:Addr) (fp:List Addr) (zs:List Str) (r:Int) (iss:Int->DV) (had:List Int),vs=[.ref p]/\Sh H p fp zs r iss had/\∀H',A4 H H'->Q (.int (Z9 had)) H'
def ShD(K:PySem.W.Frag)(C:Addr):ShP:=fun H p fp zs r iss had=>∃(dx pn pd:Addr) (fs:List (Str×V)) (kvs:List (Key×V)),fp=[p,dx,pd]/\H p=some (.ins C dx fs)/\H dx=some (.own p)/\H pn=some (.tup (zs.map V.str))/\H pd=some (.dK kvs)/\
 fs.lookup ("names":Str)=some (V.ref pn)/\fs.lookup ("reach":Str)=some (V.int r)/\fs.lookup ("issues":Str)=some (V.ref pd)/\(∀m∈(["put","had","latest","rows_of","tail_of"]:List Str),fs.lookup m=none)/\
 kvs.map (·.1)=had.map Sum.inl/\had.Nodup/\(∀n∈had,1≤n/\n≤60)/\(∀n v,(Sum.inl n,v)∈kvs->B5 H (iss n) v)/\S0 zs/\0≤r/\r≤10
theorem ShD.ins{K:PySem.W.Frag}{C:Addr}{H:Hp}{p:Addr}{fp:List Addr}{zs:List Str}{r:Int}{iss:Int->DV}{had:List Int}(h:ShD K C H p fp zs r iss had):∃dx fs,H p=some (.ins C dx fs)/\∀m∈(["put","had","latest","rows_of","tail_of"]:List Str),fs.lookup m=none:=by
 obtain⟨dx,pn,pd,fs,kvs,e,h1,h2,h3,h4,l1,l2,l3,lm,_⟩:=h
 exact⟨dx,fs,h1,lm⟩
theorem U5{K:PySem.W.Frag}{C:Addr}:X2 C ["put","had","latest"] (ShD K C):=by
 refine⟨fun h=>?_,fun h b hb=>?_,fun h s out nt=>?_⟩
 ·obtain⟨dx,fs,h1,lm⟩:=ShD.ins h
  refine⟨dx,fs,h1,fun m hm=>lm m ?_⟩
  simp only[bD,dF,or_false] at hm ⊢
  rcases hm with h|h|h<;>simp[h]
 ·obtain⟨dx,pn,pd,fs,kvs,rfl,h1,h2,h3,h4,_⟩:=h
  rcases bD.mp hb with rfl|hb
  ·exact⟨_,h1,fun xs z=>by cases z⟩
  rcases bD.mp hb with rfl|hb
  ·exact⟨_,h2,fun xs z=>by cases z⟩
  rw[bC.mp hb]
  exact⟨_,h4,fun xs z=>by cases z⟩
 ·obtain⟨dx,pn,pd,fs,kvs,rfl,h1,h2,h3,h4,l1,l2,l3,lm,kk,nd,all,tl,g⟩:=h
  exact⟨dx,pn,pd,fs,kvs,rfl,s _ _ h1 (fun m=>out _ m (by simp)),s _ _ h2 (fun m=>out _ m (by simp)),s _ _ h3 (fun m=>nt _ m _ h3),s _ _ h4 (fun m=>out _ m (by simp)),l1,l2,l3,lm,kk,nd,all,fun n v hv=>B5.but s nt _ _ (tl n v hv),g⟩
theorem y1Q{A6:Addr}(M:Bl mg)(T:Q4 K mg A6)(F:Fun K "__init__" "Shelf.__init__" z2u f fd)(C8:Cal P w K mg base 2 "bulletin_names" z1I (z5a K)) :
  B0 P w K mg base CX0 3 f fd z1Q (z7B K A6 (ShD K A6)):=by
 have nd:=z3i.nd
 refine F.ok z3i (fun vs H Q E h=>?_) (fun cdv A outer s H vs Q E hr h=>?_)
 ·obtain⟨x,dx,pn,zs,r,rfl,_⟩:=h
  rfl
 obtain⟨x,dx,pn,zs,r,rfl,hx,ne,hdx,hn,g,r0,r1,k⟩:=h
 refine⟨_,(z03 (z4L (pv 0) (z0r C8 (rm hr) rfl (z00 (pv 1) (z00 (pv 2) z01))) rfl) (z03 (z4L (pv 0) (pv 2) rfl) (z05 (z4L (pv 0) y27 rfl)))),?_⟩
 refine⟨_,rfl,_,rfl,pn,zs,r,rfl,hn,g,r0,r1,fun l H1 s1 e1=>?_⟩
 refine⟨_,rfl,x,A6,dx,[],rfl,s1 _ _ hx,T.cl,T.n_names,by decide,?_⟩
 have z1:=z1o "names" (.ref l) []
 have z2:=z1o "reach" (.int r) (K0 "names" (.ref l) [])
 have z0:([]:List (Str×V)).length=0:=rfl
 refine⟨_,rfl,_,rfl,x,A6,dx,_,rfl,A1,T.cl,T.n_reach,(by omega),?_⟩
 rw[z5W]
 intro pd hd
 have nx:x≠pd:=z0m A1 hd
 have ndd:dx≠pd:=z0m (show upd H1 x _ dx=some _ by rw[z0b ne];exact s1 _ _ hdx) hd
 have nl:l≠x:=z54 e1 (s1 _ _ hx) (fun z=>by cases z)
 have nlp:l≠pd:=z0m (show upd H1 x _ l=some _ by rw[z0b nl];exact e1) hd
 have dfr:H1 pd=none:=by rw[z0b (cT nx)] at hd;exact hd
 refine⟨_,rfl,x,A6,dx,_,rfl,(by rw[z0b nx,A1]),T.cl,T.n_issues,(by omega),?_⟩
 refine k [x,dx,pd] _ (fun b hb=>?_) (fun b o e nb=>?_) (fun iss=>⟨dx,l,pd,_,[],rfl,A1,?_,?_,?_,?_,?_,?_,?_,rfl,.nil,fun _ q=>(nomatch q),fun _ _ q=>(nomatch q),g,r0,r1⟩)
 ·simp only[bD,dF,or_false] at hb
  rcases hb with rfl|rfl|rfl
  ·exact .inl rfl
  ·exact .inr (.inl rfl)
  ·exact .inr (.inr (s1.free dfr))
 ·rw[bC] at nb
  rw[z0b nb,z0b (z0m e (s1.free dfr)),z0b nb]
  exact s1 _ _ e
 ·rw[z0b ne,z0b ndd,z0b ne]
  exact s1 _ _ hdx
 ·rw[z0b nl,z0b nlp,z0b nl]
  exact e1
 ·rw[z0b (cT nx),A1]
 ·rw[z0g,if_neg (by decide +kernel),z0g,if_neg (by decide +kernel),z0g,if_pos rfl]
 ·rw[z0g,if_neg (by decide +kernel),z0g,if_pos rfl]
 ·rw[z0g,if_pos rfl]
 ·intro m hm
  simp only[bD,dF,or_false] at hm
  rcases hm with rfl|rfl|rfl|rfl|rfl<;>rw[z0g,if_neg (by decide +kernel),z0g,if_neg (by decide +kernel),z0g,if_neg (by decide +kernel)]<;>rfl
theorem y57{α:Type}[DecidableEq α]:∀{l1 l2:List α},l1.Nodup->(∀x∈l1,x∈l2)->l1.length≤l2.length
 | [],_,_,_=>cL _
 | x::r,l2,nd,sub=>by
  rw[d6] at nd
  have hx:=sub x cD
  have:=y57 (l1:=r) (l2:=l2.erase x) nd.2 fun y hy=>(List.mem_erase_of_ne (fun(e:y=x)=>nd.1 (e ▸ hy))).mpr (sub y (bW _ hy))
  rw[List.length_erase_of_mem hx] at this
  have h0:=g9 hx
  rw[bT]
  omega
theorem z7C{had:List Int}(nd:had.Nodup)(all:∀n∈had,1≤n/\n≤60):had.length≤60:=by
 have h:=y57 (l2:=upI 1 60) nd fun n hn=>z2k.mpr (by have:=all n hn;omega)
 rw[z0V] at h
 exact h
theorem y1l{kvs:List (Key×V)}{had:List Int}(kk:kvs.map (·.1)=had.map Sum.inl)(n:Int):(N7 kvs (Sum.inl n)).isSome=decide (n∈had):=by
 rw[<- z5D]
 have e:(kvs.any fun kv=>decide (kv.1=Sum.inl n))=(kvs.map (·.1)).any fun k=>decide (k=Sum.inl n):=by rw[gL];rfl
 rw[e,kk,gL]
 by_cases h:n∈had
 ·rw[decide_eq_true h,gZ]
  exact⟨n,h,decide_eq_true rfl⟩
 ·rw[decide_eq_false h,gS]
  intro m hm z
  have e:=of_decide_eq_true z
  cases e
  exact h hm
theorem y5d{A6:Addr}(M:Bl mg)(T:Q4 K mg A6)(F:Fun K "put" "Shelf.put" z4R f fd):B0 P w K mg base CX0 1 f fd z3T (y46 (ShD K A6)):=by
 have nd:=z6l.nd
 refine F.ok z6l (fun vs H Q E h=>?_) (fun cdv A outer s H vs Q E hr h=>?_)
 ·obtain⟨p,v,fp,zs,r,iss,had,n,ds,rfl,_⟩:=h
  rfl
 obtain⟨p,v,fp,zs,r,iss,had,n,ds,rfl,sh,tv,en,n1,n2,k⟩:=h
 have hu:=y2l hr
 refine⟨_,(z03 (z0e (i:=2) nd rfl (Or.inl rfl) (z0P z1F (pv 1) z04 (fun _ _=>rfl))) (z03 (z0v (z85 (y3f hu (pv 2) (z0q (pv 0) rfl))) (z05 (z0h z2v)) z0c) (z03 (y4c hu (z0q (pv 0) rfl) (pv 2) (pv 1) rfl) (z05 (z0h z2v))))),?_⟩
 obtain⟨dx,pn,pd,fs,kvs,rfl,h1,h2,h3,h4,l1,l2,l3,lm,kk,ndh,all,tl,g,r0,r1⟩:=sh
 rw[en] at tv
 obtain⟨a,us,rfl,ea,_,tu⟩:=z1b tv
 obtain⟨x0,ur,rfl,t0,_⟩:=z0T tu
 cases z3x t0
 refine⟨_,rfl,a,_,_,_,rfl,rfl,SqT.of ea,z1p rfl,?_⟩
 refine⟨_,rfl,_,rfl,p,A6,dx,fs,_,rfl,h1,T.cl,T.n_issues,l3,pd,_,rfl,S5.k (k:=Sum.inl n) h4,?_⟩
 refine⟨_,rfl,?_⟩
 rw[y1l kk]
 have fr:∀b∈[p,dx,pd],∃o,H b=some o:=fun b hb=>by
  simp only[bD,dF,or_false] at hb
  rcases hb with rfl|rfl|rfl
  ·exact⟨_,h1⟩
  ·exact⟨_,h2⟩
  ·exact⟨_,h4⟩
 refine B3 (fun c=>?_) (fun c=>?_)
 ·have c':=z0x c
  have e:=k [p,dx,pd] H (fun b hb=>.inl hb) (fun b o e _=>e) ⟨dx,pn,pd,fs,kvs,rfl,h1,h2,h3,h4,l1,l2,l3,lm,by unfold P8;rw[if_pos c'];exact kk,by unfold P8;rw[if_pos c'];exact ndh,fun m hm=>?_,tl,g,r0,r1⟩
  ·rw[decide_eq_false (fun z=>z c')] at e
   exact e
  ·unfold P8 at hm
   rw[if_pos c'] at hm
   exact all m hm
 ·have c':=z8F c
  have lk:kvs.length≤60:=by
   have e2:=congrArg List.length kk
   rw[bA,bA] at e2
   have:=z7C ndh all
   omega
  have en':N7 kvs (Sum.inl n:Key)=none:=by
   have:=y1l kk n
   rw[decide_eq_false c'] at this
   cases e:N7 kvs (Sum.inl n:Key) with
   | none=>rfl
   | some v=>rw[e] at this;cases this
  refine⟨_,rfl,_,rfl,p,A6,dx,fs,_,rfl,h1,T.cl,T.n_issues,l3,_,rfl,pd,_,rfl,Y7.k (k:=Sum.inl n) h4 (z0i (by omega)),?_⟩
  rw[y2U _ en']
  have np:p≠pd:=z54 h1 h4 (fun z=>by cases z)
  have nx:dx≠pd:=z54 h2 h4 (fun z=>by cases z)
  have nn:pn≠pd:=z54 h3 h4 (fun z=>by cases z)
  have e:=k [p,dx,pd] (upd H pd (.dK (kvs++[(Sum.inl n,.ref a)]))) (fun b hb=>.inl hb) (fun b o e nb=>by rw[z0b (fun z=>nb (by rw[z];simp))];exact e)
   ⟨dx,pn,pd,fs,_,rfl,by rw[z0b np];exact h1,by rw[z0b nx];exact h2,by rw[z0b nn];exact h3,A1,l1,l2,l3,lm,?_,?_,fun m hm=>?_,fun m v hv=>?_,g,r0,r1⟩
  ·rw[decide_eq_true c'] at e
   exact e
  ·unfold P8
   rw[if_neg c',bR,bR,kk]
   rfl
  ·unfold P8
   rw[if_neg c',fB]
   exact⟨ndh,by simp,fun x hx y hy z=>by rw[bC] at hy;subst hy;subst z;exact c' hx⟩
  ·rcases z9x.mp hm with h|rfl
   ·exact all m h
   ·omega
  ·refine B5.over h4 (fun _ z=>by cases z) _ _ ?_
   rcases c8.mp hv with h|h
   ·exact tl m v h
   ·rw[bC] at h
    cases h
    rw[en]
    exact tv
theorem y2I{A6:Addr}(M:Bl mg)(T:Q4 K mg A6)(F:Fun K "had" "Shelf.had" z57 f fd):B0 P w K mg base CX0 1 f fd z3Q (z97 (ShD K A6)):=by
 have nd:=z5Y.nd
 refine F.ok z5Y (fun vs H Q E h=>?_) (fun cdv A outer s H vs Q E hr h=>?_)
 ·obtain⟨p,fp,zs,r,iss,had,rfl,_⟩:=h
  rfl
 obtain⟨p,fp,zs,r,iss,had,rfl,sh,k⟩:=h
 refine⟨_,(z05 (z0h (z0z z0Q rfl M.tuple cI (z00 (z08 (z5A rfl) rfl M.sorted PyProof.Rows.boot_sorted (z00 (z0q (pv 0) rfl) z01)) z01)))),?_⟩
 obtain⟨dx,pn,pd,fs,kvs,rfl,h1,h2,h3,h4,l1,l2,l3,lm,kk,ndh,all,tl,g,r0,r1⟩:=sh
 refine⟨_,rfl,p,A6,dx,fs,_,rfl,h1,T.cl,T.n_issues,l3,pd,kvs,had,rfl,h4,kk,eX (z7C ndh all) (by decide),fun l ms hl hp hs=>?_⟩
 rw[y1b ndh all hp hs]
 exact⟨l,_,rfl,.inl ⟨SqL.of A1,fun t ht=>k t _ ((z02 hl _).trans (z02 ht _)) A1⟩⟩
theorem y2N{had:List Int}{m:Int}(hm:m∈z2r had)(hb:∀y∈z2r had,y≤m):m=Z9 had:=by
 unfold Z9
 have ne:z2r had≠[]:=fun z=>by rw[z] at hm;cases hm
 have e:(z2r had).getLastD 0=(z2r had).getLast ne:=by rw[List.getLastD_eq_getLast?,List.getLast?_eq_some_getLast ne]<;>rfl
 rw[e]
 have h1:=hb _ (List.getLast_mem ne)
 have d:z2r had=(z2r had).dropLast++[(z2r had).getLast ne]:=(List.dropLast_concat_getLast ne).symm
 have rs:=z6S had
 rw[d] at hm rs
 rcases c8.mp hm with h|h
 ·have:=(gJ.mp rs).2.2 m h _ (bC.mpr rfl)
  omega
 ·exact bC.mp h
theorem y1I{A6:Addr}(M:Bl mg)(T:Q4 K mg A6)(F:Fun K "latest" "Shelf.latest" z3d f fd)(J0:D5 P w K mg base 1 A6 "had" z3Q (z97 (ShD K A6))):B0 P w K mg base CX0 2 f fd z4t (y0g (ShD K A6)):=by
 have nd:=z3V.nd
 refine F.ok z3V (fun vs H Q E h=>?_) (fun cdv A outer s H vs Q E hr h=>?_)
 ·obtain⟨p,fp,zs,r,iss,had,rfl,_⟩:=h
  rfl
 obtain⟨p,fp,zs,r,iss,had,rfl,sh,k⟩:=h
 refine⟨_,(z05 (z0h (y4l rfl rfl M.max (z00 (z31 J0 (rm hr) (pv 0)) z01) (y45 z04 y4x)))),?_⟩
 obtain⟨dx,fs,h1,lm⟩:=U5.ins sh
 refine⟨_,rfl,p,dx,fs,rfl,h1,lm _ (by simp),p,fp,zs,r,iss,had,rfl,sh,fun l H1 s1 e1=>?_⟩
 refine⟨l,z2r had,_,rfl,rfl,.inr (SqT.of e1),fun z=>?_,fun m hm hb=>?_⟩
 ·have e:Z9 had=0:=by unfold Z9;rw[z];rfl
  have:=k H1 s1
  rw[e] at this
  exact this
 ·rw[y2N hm hb]
  exact k H1 s1
theorem y2H{ds:List DV}{n:Nat}(h:∀d∈ds,d.deep≤n):DV.R8 ds≤n:=by
 induction ds with
 | nil=>unfold DV.R8;exact cL _
 | cons d r ih=>
  unfold DV.R8
  exact Nat.max_le.mpr ⟨h d cD,ih fun x hx=>h x (bW _ hx)⟩
theorem z4K{ds:List DV}{n:Nat}(h:∀d∈ds,d.deep≤n):(DV.tup ds).deep≤n+1:=by
 unfold DV.deep
 exact hG (y2H h)
theorem z3P(i:Int)(n:Nat):(DV.int i).deep≤n:=by unfold DV.deep;exact cL _
theorem z5L(i:Str)(n:Nat):(DV.str i).deep≤n:=by unfold DV.deep;exact cL _
theorem z6T{rows:List Row}{j:Nat}{k:Int}(h0:1≤k)(h:k≤j):z6J (rows.take j) k=z6J rows k:=by
 unfold z6J
 have hk:(k-1).toNat<j:=by omega
 rw[bY,bY,List.getElem?_take,if_pos hk]
theorem z9b{rows:List Row}{j:Nat}{n r:Int}(h0:1≤n)(h:n≤j):z1K (rows.take j) n r=z1K rows n r:=by
 unfold z1K y2X
 rw[z6T h0 h]
 have e:(y0k n r).map (y0H (rows.take j))=(y0k n r).map (y0H rows):=gP fun k hk=>by
  unfold y0k at hk
  rw[cY,z9a] at hk
  unfold y0H
  rw[z6T (by omega) (by omega)]
 rw[e]
abbrev OfP:=Hp->Addr->List Addr->List Str->Int->List Row->Prop
structure Z3(C:Addr)(ms:List Str)(Of:OfP):Prop where
 ins:∀{H p fp zs r rows},Of H p fp zs r rows->∃dx fs,H p=some (.ins C dx fs)/\∀m∈ms,fs.lookup m=none
 own:∀{H p fp zs r rows},Of H p fp zs r rows->∀b∈fp,∃o,H b=some o/\∀xs,o≠.tup xs
 keep:∀{H H' p fp gp zs r rows},Of H p fp zs r rows->z0s gp H H'->(∀b∈gp,b∉fp)->z45 H gp->Of H' p fp zs r rows
theorem Z3.same{C:Addr}{ms:List Str}{Of:OfP}(O:Z3 C ms Of){H H':Hp}{p:Addr}{fp:List Addr}{zs:List Str}{r:Int}{rows:List Row}(h:Of H p fp zs r rows)(s:A4 H H'):Of H' p fp zs r rows:=
 O.keep (gp:=[]) h (.of s) (fun _ q=>by cases q) fun _ q=>by cases q
theorem Z3.P1{C:Addr}{ms:List Str}{Of:OfP}(O:Z3 C ms Of){H:Hp}{p:Addr}{fp:List Addr}{zs:List Str}{r:Int}{rows:List Row}(h:Of H p fp zs r rows):z45 H fp:=fun b m xs e=>by
 obtain⟨o,e1,n⟩:=O.own h b m
 rw[e1] at e
 exact n xs (Option.some.inj e)
def z68(K:PySem.W.Frag)(H:Hp)(fp:List Addr)(u:V)(p:Str×Int):Prop:=∃a,u=.ref a/\(SqL K H a [.str p.1,.int p.2]\/SqT K H a [.str p.1,.int p.2])/\a∉fp
def z9Q(K:PySem.W.Frag)(H:Hp)(fp:List Addr)(v:V)(pr:Row):Prop:=∃a us,v=.ref a/\SqP K H a us/\a∉fp/\Paired (z68 K H fp) us pr
def z10(zs:List Str)(pr:Row):Row:=zs.filterMap fun z=>pr.find? fun p=>decide (p.1=z)
structure GoodR(zs:List Str)(pr:Row):Prop where
 nd:(pr.map Prod.fst).Nodup
 sub:∀p∈pr,p.1∈zs
 val:∀p∈pr,0≤p.2/\p.2≤1000000
def z9X(K:PySem.W.Frag)(C:Addr)(Of:OfP):Sp:=fun vs H Q _=>∃(x dx pn:Addr) (zs:List Str) (r:Int),vs=[.ref x,.ref pn,.int r]/\H x=some (.ins C dx [])/\dx≠x/\H dx=some (.own x)/\HdN K H pn zs/\S0 zs/\0≤r/\r≤10/\
 ∀(fp:List Addr) (H':Hp),(∀b∈fp,b=x\/b=dx\/H b=none)->z0s [x] H H'->Of H' x fp zs r []->Q .non H'
def z4B(K:PySem.W.Frag)(Of:OfP):Sp:=fun vs H Q _=>∃(p:Addr) (v:V) (fp:List Addr) (zs:List Str) (r:Int) (rows:List Row) (pr:Row),vs=[.ref p,v]/\Of H p fp zs r rows/\z9Q K H fp v pr/\GoodR zs pr/\pr.length≤12/\rows.length<60/\
 ∀(fp':List Addr) (H':Hp),(∀b∈fp',b∈fp\/H b=none)->z0s fp H H'->Of H' p fp' zs r (rows++[z10 zs pr])->Q (.int (rows.length+1)) H'
def z6Y(Of:OfP):Sp:=fun vs H Q _=>∃(p:Addr) (fp:List Addr) (zs:List Str) (r:Int) (rows:List Row),vs=[.ref p]/\Of H p fp zs r rows/\∀H',A4 H H'->Q (.int rows.length) H'
def z1x(Of:OfP):Sp:=fun vs H Q _=>∃(p:Addr) (fp:List Addr) (zs:List Str) (r:Int) (rows:List Row) (n:Int),vs=[.ref p,.int n]/\Of H p fp zs r rows/\1≤n/\n≤rows.length/\
 ∀(v:V) (H':Hp),A4 H H'->B5 H' (z1K rows n r) v->Q v H'
theorem z2B{z:Str}{zs:List Str}{pr:Row}:z10 (z::zs) pr=(match pr.find? fun p=>decide (p.1=z) with|some p=>p::z10 zs pr|none=>z10 zs pr):=by
 unfold z10
 rw[eJ]
 cases pr.find? fun p=>decide (p.1=z)<;>rfl
theorem z5t{p:Str×Int}{w:Row}:∀{zs:List Str},p.1∉zs->z10 zs (p::w)=z10 zs w
 | [],_=>rfl
 | y::ys,h=>by
  rw[bD,not_or] at h
  rw[z2B,z2B,dB,decide_eq_false h.1,z5t h.2]
theorem z43:∀{zs:List Str}{w:Row},zs.Nodup->(w.map Prod.fst).Sublist zs->z10 zs w=w
 | [],w,_,h=>by
  have:w.map Prod.fst=[]:=List.sublist_nil.mp h
  rw[List.map_eq_nil_iff] at this
  rw[this]
  rfl
 | z::zs,w,nd,h=>by
  rw[d6] at nd
  generalize e:w.map Prod.fst=l at h
  cases h with
  | cons _ h=>
   subst e
   have no:w.find? (fun p=>decide (p.1=z))=none:=List.find?_eq_none.mpr fun p hp=>by
    have:p.1∈zs:=h.subset (fN hp)
    intro e
    exact nd.1 (of_decide_eq_true e ▸ this)
   rw[z2B,no]
   exact z43 nd.2 h
  | cons_cons _ h=>
   cases w with
   | nil=>cases e
   | cons p w=>
    rw[cO] at e
    injection e with e1 e2
    subst e2
    rw[z2B,dB,decide_eq_true e1,z5t (by rw[e1];exact nd.1),z43 nd.2 h]
def tsN(n:Int)(j:Nat):List Int:=(dnI n j).filter fun k=>decide (1≤k)
def tsP(ss:List (List Str))(k:Int):DV:=.tup [.int k,W9 (ss.getD (k-1).toNat [])]
def tsD(ss:List (List Str))(r:Int):DV:=.tup ((tsN ss.length r.toNat).map (tsP ss))
theorem y4r(n:Int)(j:Nat):(tsN n j).length≤j:=by
 have h:=d7 (fun k=>decide (1≤k)) (dnI n j)
 rw[y3M] at h
 exact h
def y0L(K:PySem.W.Frag):Sp:=fun vs H Q _=>∃(p:Addr) (xs:List V) (ss:List (List Str)) (r:Int),vs=[.ref p,.int r]/\(SqL K H p xs\/SqT K H p xs)/\z0k H (ss.map W9) xs/\ss.length≤59/\(∀s∈ss,s.length≤12)/\0≤r/\r≤10/\
 ∀(v:V) (H':Hp),A4 H H'->B5 H' (tsD ss r) v->Q v H'
def z8r:Sp:=fun vs H Q _=>∃n r:Int,vs=[.int n,.int r]/\1≤n/\n≤60/\0≤r/\r≤10/\
 ∀(l:Addr) (H':Hp),A4 H H'->H' l=some (.tup (((upI 1 60).filter fun x=>decide (x≤n) && decide (n-x≤r)).map V.int))->Q (.ref l) H'
theorem y00{n r:Int}(h1:1≤n)(h2:n≤60)(h3:0≤r)(h4:r≤10) :
  T8 (if n-r > 1 then n-r else 1) (n+1-(if n-r > 1 then n-r else 1)).toNat=((upI 1 60).filter fun x=>decide (x≤n) && decide (n-x≤r)).map V.int:=by
 rw[y3L]
 refine congrArg (List.map V.int) (z4F (z3K _ _) ((z3K _ _).filter _) fun x=>?_)
 rw[cY,z2k,z2k,bX,decide_eq_true_eq,decide_eq_true_eq]
 split<;>omega
theorem y0f(M:Bl mg)(F:Fun K "reached_by" "reached_by" z4e f fd):B0 P w K mg base CX0 1 f fd z4c z8r:=by
 have nd:=z5f.nd
 refine F.ok z5f (fun vs H Q E h=>?_) (fun cdv A outer s H vs Q E hr h=>?_)
 ·obtain⟨n,r,rfl,_⟩:=h
  rfl
 obtain⟨n,r,rfl,h1,h2,h3,h4,q⟩:=h
 refine⟨_,(z05 (z0h (z0z (z6y rfl) rfl M.tuple cI (z00 (z0z y1J rfl M.range PyProof.Rows.boot_range (z00 (z08 (z7S rfl) rfl M.max gF (z00 z04 (z00 (z0a z3G (pv 0) (pv 1)) z01))) (z00 (z0a z0O (pv 0) z04) z01))) z01)))),?_⟩
 refine⟨_,rfl,_,rfl,_,_,rfl,rfl,_,_,rfl,_,rfl,_,_,rfl,rfl,_,_,rfl,fun p hp=>?_⟩
 refine⟨p,_,_,rfl,A1,⟨?_,?_,?_,?_⟩,?_,fun l hl=>?_⟩
 ·split<;>omega
 ·split<;>omega
 ·omega
 ·omega
 ·split<;>omega
 ·refine q l _ ((z02 hp _).trans (z02 hl _)) ?_
  rw[A1,y00 h1 h2 h3 h4]
theorem z6o(hi:Int)(j:Nat):(dnI hi j).Pairwise (· > ·):=by
 unfold dnI
 rw[List.pairwise_map]
 exact List.pairwise_lt_range.imp fun h=>by omega
theorem z5R{n:Int}{j:Nat}{x:Int}:x∈tsN n j↔1≤x/\n-j<x/\x≤n:=by
 unfold tsN
 rw[cY,z9a,decide_eq_true_eq]
 omega
theorem y3C(n:Int)(j:Nat):(tsN n j).reverse.Pairwise (· < ·):=by
 rw[fG]
 exact((z6o n j).filter _).imp fun h=>h
theorem y1L{n r:Int}(h0:0≤n)(h1:n≤59)(r0:0≤r)(r1:r≤10):((upI 1 60).filter fun x=>decide (x≤n+1) && decide (n+1-x≤r))=(tsN n r.toNat).reverse++[n+1]:=by
 refine z4F ((z3K _ _).filter _) (gJ.mpr ⟨y3C _ _,List.pairwise_singleton _ _,fun x hx y hy=>?_⟩) fun x=>?_
 ·rw[fJ,z5R] at hx
  rw[bC] at hy
  omega
 ·rw[cY,z2k,bX,decide_eq_true_eq,decide_eq_true_eq,c8,fJ,z5R,bC]
  omega
theorem y44(M:Bl mg)(F:Fun K "tail_for" "tail_for" z6j f fd)(N5:Cal P w K mg base 1 "reached_by" z4c z8r):B0 P w K mg base CX0 2 f fd z4A (y0L K):=by
 have nd:=z7c.nd
 refine F.ok z7c (fun vs H Q E h=>?_) (fun cdv A outer s H vs Q E hr h=>?_)
 ·obtain⟨p,xs,ss,r,rfl,_⟩:=h
  rfl
 obtain⟨p,xs,ss,r,rfl,hS,tS,l60,l12,r0,r1,k⟩:=h
 refine⟨_,(z03 (z0e (i:=2) nd rfl (Or.inl rfl) (z0a z0O (z08 z06 rfl M.len bH (z00 (pv 0) z01)) z04)) (z03 (z0e (i:=3) nd rfl (Or.inl rfl) (z1O y3e (z0r N5 (rm hr) rfl (z00 (pv 2) (z00 (pv 1) z01))) z2m (z2t (z6G z3W z04)))) (z05 (z0h (z0z z0Q rfl M.tuple cI (z00 (z2K ["earlier"] ["sets"] [0] rfl (z0H rfl (by decide +kernel) rfl (by decide +kernel) rfl rfl) (y4A rfl M.reversed (z00 (pv 3) z01)) (fun _ _ _ _ _=>(z0o (i:=0) (show((["earlier"]:List PySem.Str)++(["sets"]:List PySem.Str)).Nodup from by decide +kernel) rfl (Or.inl rfl))) (z0R (by decide)) z0t (fun _ _ _ _ _=>z2q) (fun _ _ _ _ _=>(z1j (z00 (pv 0) (z00 (z0z (z6B (K:=K) rfl) rfl M.tuple cI (z00 (z0P (r:=rIx K) y4w (pv 1) (z0a z3G (pv 0) z04) (fun _ _=>rfl)) z01)) z01))))) z01)))))),?_⟩
 have lx:xs.length=ss.length:=by rw[tS.length,bA]
 have lx':(xs.length:Int)=ss.length:=by omega
 refine⟨_,rfl,p,xs,rfl,hS,_,_,rfl,rfl,?_⟩
 refine⟨_,rfl,_,rfl,(xs.length:Int)+1,r,rfl,by omega,by omega,r0,r1,fun l H1 s1 e1=>?_⟩
 rw[lx',y1L (by omega) (by omega) r0 r1] at e1
 have eL:(((tsN ss.length r.toNat).reverse++[(ss.length:Int)+1]).map V.int).length=(tsN ss.length r.toNat).length+1:=by
  rw[bA,bE,fO]
  rfl
 have sx:HT.sIx (((tsN ss.length r.toNat).reverse++[(ss.length:Int)+1]).map V.int).length (((tsN ss.length r.toNat).reverse++[(ss.length:Int)+1]).map V.int).length (some (-1))=(tsN ss.length r.toNat).length:=by
  rw[eL]
  show(if (-1:Int)<0 then (-1+(((tsN ss.length r.toNat).length+1:Nat):Int)).toNat else min (-1:Int).toNat ((tsN ss.length r.toNat).length+1))=_
  rw[if_pos (by decide)]
  omega
 have cut:Q3 (((tsN ss.length r.toNat).reverse++[(ss.length:Int)+1]).map V.int) none (some (-1))=(tsN ss.length r.toNat).reverse.map V.int:=by
  unfold Q3
  rw[sx]
  show List.take ((tsN ss.length r.toNat).length-0) (List.drop 0 _)=_
  rw[fT,Nat.sub_zero,bR,List.take_left' (by rw[bA,fO])]
 refine⟨_,rfl,-1,rfl,l,_,rfl,SqT.of e1,?_,fun a ha=>?_⟩
 ·rintro⟨_,z⟩
  rw[sx,eL] at z
  omega
 rw[cut]
 have s2:=s1.trans (z02 ha (.tup ((tsN ss.length r.toNat).reverse.map V.int)))
 have e2:upd H1 a (.tup ((tsN ss.length r.toNat).reverse.map V.int)) a=some (.tup ((tsN ss.length r.toNat).reverse.map V.int)):=A1
 generalize upd H1 a (.tup ((tsN ss.length r.toNat).reverse.map V.int))=H2 at s2 e2
 have le:=y4r ss.length r.toNat
 have lr:((tsN ss.length r.toNat).reverse.map V.int).length=(tsN ss.length r.toNat).length:=by rw[bA,fO]
 refine⟨_,rfl,a,_,rfl,SqT.of e2,?_⟩
 refine y2W (fun i ys H'=>A4 H2 H'/\z0k H' (((tsN ss.length r.toNat).take i).map (tsP ss)) ys) ⟨A4.refl _,by rw[cX];exact .nil⟩ (fun i ys H' hi hp=>?_) (fun i x ys H' hx hp=>?_) (fun ys H' hp=>?_)
 ·obtain⟨g,t⟩:=hp
  refine⟨SqT.of (g _ _ e2),z0i ?_⟩
  rw[t.length,bA,bO]
  omega
 ·obtain⟨g,t⟩:=hp
  rw[<- List.map_reverse,fK,bV] at hx
  obtain⟨m,hm,rfl⟩:=cS.mp hx
  have hb:=z5R.mp (bZ hm)
  have hk:(m-1).toNat<ss.length:=by omega
  have t2:=z0k.keep (s2.trans g) _ _ tS
  obtain⟨v,ev,tv⟩:=t2.get (m-1).toNat (W9 (ss.getD (m-1).toNat [])) (by
   rw[bV,bY,bG hk]
   rfl)
  have av:atI xs (m-1)=some v:=by
   have e:m-1=(((m-1).toNat:Nat):Int):=by omega
   rw[e]
   exact z1p ev
  obtain⟨b,us,rfl,eb,_,_⟩:=z1b tv
  refine⟨_,rfl,_,rfl,_,rfl,_,_,rfl,rfl,?_⟩
  have go:∀(z:B5 H' (W9 (ss.getD (m-1).toNat [])) (.ref b)),y3c K [.ref b] H' fun x H3=>[V.int m,x].length≤sizeLine/\∀q,H3 q=none->A4 H2 (upd H3 q (.tup [.int m,x]))/\z0k (upd H3 q (.tup [.int m,x])) (((tsN ss.length r.toNat).take (i+1)).map (tsP ss)) (ys++[.ref q]):=fun z=>
   ⟨b,us,rfl,.inr ⟨SqT.of eb,by show 2≤sizeLine;decide,fun q hq=>⟨g.trans (z02 hq _),by
    rw[dJ,hm,bR]
    exact z0k.snoc (z0k.keep (z02 hq _) _ _ t) (z0J A1 (by show 2≤1000000;decide) (.cons (z1N _) (.cons (B5.keep (z02 hq _) _ _ z) .nil)))⟩⟩⟩
  rcases hS with hS|hS
  ·exact .inl ⟨p,xs,_,.ref b,rfl,rfl,(s2.trans g).seq hS,av,go tv⟩
  ·exact .inr (.inl ⟨p,xs,_,.ref b,rfl,rfl,z4N (s2.trans g) hS,av,go tv⟩)
 ·obtain⟨g,t⟩:=hp
  rw[lr,bU] at t
  intro D hD
  refine⟨D,ys,rfl,.inl ⟨SqL.of A1,fun q hq=>k _ _ (s2.trans (g.trans ((z02 hD _).trans (z02 hq _)))) (z0J A1 ?_ (z0k.keep ((z02 hD _).trans (z02 hq _)) _ _ t))⟩⟩
  rw[bA]
  omega
def kvR(p:Str×Int):Key×V:=(Sum.inr p.1,.int p.2)
def y0E(K:PySem.W.Frag):Sp:=fun vs H Q _=>∃(p:Addr) (zs:List Str) (z:Str),vs=[.ref p,.str z]/\SqN K H p zs/\z∈zs/\Q .non H
theorem z4D(x:Str)(ns:List Str):inV (.str x) (ns.map V.str)=decide (x∈ns):=by
 unfold inV
 rw[cZ,gL,gZ,decide_eq_true_eq]
 constructor
 ·rintro⟨y,hy,e⟩
  have:y=x:=by simpa [eqV] using e
  exact this ▸ hy
 ·intro h
  exact⟨x,h,by simp[eqV]⟩
theorem y3o(M:Bl mg)(F:Fun K "refuse_unknown_name" "refuse_unknown_name" z19 f fd):B0 P w K mg base CX0 1 f fd z0I (y0E K):=by
 have nd:=z14.nd
 refine F.ok z14 (fun vs H Q E h=>?_) (fun cdv A outer s H vs Q E hr h=>?_)
 ·obtain⟨p,zs,z,rfl,_⟩:=h
  rfl
 obtain⟨p,zs,z,rfl,hp,hz,k⟩:=h
 refine⟨_,(z05 (z0v (z09 z2w (pv 1) (pv 0) (by with_unfolding_all rfl)) (z05 z1i) z0c)),?_⟩
 refine⟨_,rfl,_,rfl,p,_,rfl,hp,rfl,z2S zs,_,rfl,?_⟩
 rw[if_pos rfl,z4D,decide_eq_true hz]
 exact B3 (fun c=>absurd c (by decide)) fun _=>k
def z4z:Sp:=fun vs H Q _=>∃v:Int,vs=[.int v]/\0≤v/\v≤1000000/\Q .non H
theorem z8k(M:Bl mg)(F:Fun K "refuse_bad_value" "refuse_bad_value" z1t f fd):B0 P w K mg base CX0 1 f fd z0U z4z:=by
 have nd:=z1f.nd
 refine F.ok z1f (fun vs H Q E h=>?_) (fun cdv A outer s H vs Q E hr h=>?_)
 ·obtain⟨r,rfl,_⟩:=h
  rfl
 obtain⟨r,rfl,r0,r1,k⟩:=h
 refine⟨_,(z05 (z0v (PW.pt (z2G (z09 z3o (pv 0) z04 (z0d _)) (z1E (z09 z2g (pv 0) (z11 rfl M.MOST_VALUE) (z0d _))))) (z05 z1i) z0c)),?_⟩
 refine⟨_,rfl,_,_,rfl,rfl,_,rfl,B3 (fun q=>absurd (z0x q) (by omega)) fun _=>?_⟩
 exact⟨_,rfl,_,_,rfl,rfl,_,rfl,B3 (fun q=>absurd (z0x q) (by omega)) fun _=>k⟩
def z1n(K:PySem.W.Frag)(H:Hp)(u:V)(p:Str×Int):Prop:=∃a,u=.ref a/\(SqL K H a [.str p.1,.int p.2]\/SqT K H a [.str p.1,.int p.2])
theorem z1n.keep{K:PySem.W.Frag}{H H':Hp}(s:A4 H H'):∀{us:List V}{pr:Row},Paired (z1n K H) us pr->Paired (z1n K H') us pr
 | _,_,.nil=>.nil
 | _,_,.cons ⟨a,e,h⟩ t=>.cons ⟨a,e,h.imp (fun q=>s.seq q) fun q=>z4N s q⟩ (z1n.keep s t)
theorem z1n.at{K:PySem.W.Frag}{H:Hp}:∀{us:List V}{pr:Row},Paired (z1n K H) us pr->∀(i:Nat) (x:V),us[i]? = some x->∃p,pr[i]? = some p/\z1n K H x p
 | _,_,.nil,i,x,e=>by simp at e
 | _,_,.cons r t,0,x,e=>by
  simp at e
  subst e
  exact⟨_,rfl,r⟩
 | _,_,.cons r t,i+1,x,e=>by
  obtain⟨y,h1,h2⟩:=z1n.at t i x (by simpa using e)
  exact⟨y,by simpa using h1,h2⟩
theorem z1n.pairs{K:PySem.W.Frag}{H:Hp}:∀{us:List V}{pr:Row},Paired (z1n K H) us pr->Paired (y3A K H) us (pr.map kvR)
 | _,_,.nil=>.nil
 | _,_,.cons ⟨a,e,h⟩ t=>.cons ⟨a,e,h⟩ (z1n.pairs t)
theorem z1n.of{K:PySem.W.Frag}{H:Hp}{fp:List Addr}:∀{us:List V}{pr:Row},Paired (z68 K H fp) us pr->Paired (z1n K H) us pr
 | _,_,.nil=>.nil
 | _,_,.cons ⟨a,e,h,_⟩ t=>.cons ⟨a,e,h⟩ (z1n.of t)
theorem SqP.or{K:PySem.W.Frag}{H:Hp}{a:Addr}{us:List V}(h:SqP K H a us):SqL K H a us\/SqT K H a us:=h.imp id SqT.of
theorem SqP.keep{K:PySem.W.Frag}{H H':Hp}{a:Addr}{us:List V}(s:A4 H H')(h:SqP K H a us):SqP K H' a us:=h.imp (fun q=>s.seq q) fun q=>s _ _ q
def z3s(K:PySem.W.Frag):Sp:=fun vs H Q _=>∃(pn a:Addr) (zs:List Str) (us:List V) (pr:Row),vs=[.ref pn,.ref a]/\SqN K H pn zs/\SqP K H a us/\Paired (z1n K H) us pr/\GoodR zs pr/\pr.length≤12/\∀H',A4 H H'->Q .non H'
theorem z6Z(M:Bl mg)(F:Fun K "refuse_bad_rows" "refuse_bad_rows" z1A f fd)(B7:Cal P w K mg base 1 "refuse_unknown_name" z0I (y0E K))
  (B9:Cal P w K mg base 1 "refuse_bad_value" z0U z4z):B0 P w K mg base CX0 2 f fd z13 (z3s K):=by
 have nd:=z1s.nd
 refine F.ok z1s (fun vs H Q E h=>?_) (fun cdv A outer s H vs Q E hr h=>?_)
 ·obtain⟨pn,a,zs,us,pr,rfl,_⟩:=h
  rfl
 obtain⟨pn,a,zs,us,pr,rfl,hn,ha,hp,g,l12,k⟩:=h
 refine⟨_,(z03 (z55 (i:=2) ["name","value"] [] [] rfl nd rfl (Or.inl rfl) (z0H rfl (by decide +kernel) rfl (by decide +kernel) rfl rfl) (z8i (pv 1)) (fun _ _ _ _ _=>(z7A (K:=K) (n:=2) rfl rfl (z1Z (z0o (i:=0) (show((["name","value"]:List PySem.Str)++([]:List PySem.Str)).Nodup from by decide +kernel) rfl (Or.inl rfl)) (z1Z (z0o (i:=1) (show((["name","value"]:List PySem.Str)++([]:List PySem.Str)).Nodup from by decide +kernel) rfl (Or.inl rfl)) z61)))) (y10 (z3R (z0R (by decide)) z0t (z3R (z0R (by decide)) z0t z9e z2d) (z1L z0t z2d))) (z9Z (z1L z0t (z1L z0t z2d))) (fun _ _ _ _ _=>z2q) (fun _ _ _ _ _=>(pv 0))) (z03 (z1g cB rfl (z16 (pv 2)) (z0o (i:=3) nd rfl (Or.inl rfl)) (z05 (z0n (z0r B7 (rm hr) rfl (z00 (pv 0) (z00 (pv 3) z01)))))) (z03 (z0v (z09 z7O (z08 z32 rfl M.len bH (z00 (z0z (z2H rfl) rfl M.set gG (z00 (pv 2) z01)) z01)) (z08 z06 rfl M.len bH (z00 (pv 2) z01)) (z0d _)) (z05 z1i) z0c) (z05 (z1g cB rfl (z8i (pv 1)) (z7A (K:=K) (n:=2) rfl rfl (z1Z (z0o (i:=3) nd rfl (Or.inl rfl)) (z1Z (z0o (i:=4) nd rfl (Or.inl rfl)) z61))) (z05 (z0n (z0r B9 (rm hr) rfl (z00 (pv 4) z01))))))))),?_⟩
 obtain⟨t,ht⟩:=SqS.of (SqP.or ha)
 have lu:us.length=pr.length:=hp.length
 refine⟨_,rfl,a,t,rfl,⟨_,ht⟩,?_⟩
 refine z7p (xs:=us) (fun i ys H'=>H'=H/\ys=((pr.take i).map Prod.fst).map V.str) ⟨rfl,rfl⟩ (fun i ys H' hi hq=>?_) (fun i x ys H' hx hq=>?_) (fun ys H' hq=>?_)
 ·obtain⟨rfl,rfl⟩:=hq
  refine⟨ht,z0i ?_⟩
  rw[bA,bA,bO]
  omega
 ·obtain⟨rfl,rfl⟩:=hq
  obtain⟨p,ep,b,rfl,hb⟩:=z1n.at hp i x hx
  refine⟨b,_,rfl,hb,rfl,_,_,rfl,_,_,rfl,rfl,?_⟩
  refine⟨_,rfl,rfl,?_⟩
  rw[z0w ep,bR,bR]
  rfl
 obtain⟨rfl,rfl⟩:=hq
 rw[lu,bU]
 intro D hD
 have s1:=z02 hD (.lst ((pr.map Prod.fst).map V.str))
 have e1:upd H' D (.lst ((pr.map Prod.fst).map V.str)) D=some (.lst ((pr.map Prod.fst).map V.str)):=A1
 generalize upd H' D (.lst ((pr.map Prod.fst).map V.str))=H1 at s1 e1
 have hn1:=SqN.keep s1 hn
 have ht1:=SqS.keep s1 ht
 have hp1:=z1n.keep s1 hp
 refine⟨_,rfl,D,rfl,⟨_,SqL.of e1⟩,z1h (K:=K) (a:=D) (xs:=(pr.map Prod.fst).map V.str) (fun i σ H2=>∃o:Option V,H2=H1/\σ=[some (.ref pn),some (.ref a),some (.ref D),o,none]) ⟨none,rfl,rfl⟩ (fun i σ H2 _ ⟨_,e,_⟩=>e ▸ SqL.of e1) (fun i x σ H2 hx hq=>?_) (fun σ H2 hq=>?_)⟩
 ·obtain⟨o,rfl,rfl⟩:=hq
  rw[bV] at hx
  obtain⟨z,ez,rfl⟩:=cS.mp hx
  have hz:z∈zs:=by
   obtain⟨p,hpm,rfl⟩:=cF.mp (bZ ez)
   exact g.sub p hpm
  exact⟨_,rfl,_,rfl,pn,zs,z,rfl,hn1,hz,_,rfl,rfl⟩
 obtain⟨o,rfl,rfl⟩:=hq
 have lf:(pr.map Prod.fst).length=pr.length:=bA _
 refine⟨_,rfl,D,pr.map Prod.fst,rfl,.inl (SqL.of e1),by omega,fun l hl=>⟨l,pr.map Prod.fst,rfl,A1,by omega,_,rfl,D,_,rfl,.inl (SqL.of (z02 hl _ _ _ e1)),rfl,_,rfl,?_⟩⟩
 refine y2g (by rw[z9c g.nd,bA (f:=V.str)]) ?_
 have s2:=s1.trans (z02 hl (P5 P w l (pr.map Prod.fst)))
 have ht2:=SqS.keep (z02 hl (P5 P w l (pr.map Prod.fst))) ht1
 have hp2:=z1n.keep (z02 hl (P5 P w l (pr.map Prod.fst))) hp1
 refine⟨_,rfl,a,t,rfl,⟨_,ht2⟩,?_⟩
 refine y1x (xs:=us) (fun i σ H3=>∃o1 o2:Option V,H3=upd H2 l (P5 P w l (pr.map Prod.fst))/\σ=[some (.ref pn),some (.ref a),some (.ref D),o1,o2]) ⟨_,_,rfl,rfl⟩ (fun i σ H3 _ ⟨_,_,e,_⟩=>e ▸ ht2) (fun i x σ H3 hx hq=>?_) (fun σ H3 hq=>?_)
 ·obtain⟨o1,o2,rfl,rfl⟩:=hq
  obtain⟨p,ep,b,rfl,hb⟩:=z1n.at hp2 i x hx
  have hv:=g.val p (bZ ep)
  refine⟨b,_,rfl,hb,rfl,_,_,rfl,_,_,rfl,rfl,?_⟩
  exact⟨_,rfl,p.2,rfl,hv.1,hv.2,_,_,rfl,rfl⟩
 ·obtain⟨o1,o2,rfl,rfl⟩:=hq
  exact k _ s2
def z66(K:PySem.W.Frag):Sp:=fun vs H Q _=>∃(pn a:Addr) (zs:List Str) (us:List V) (pr:Row),vs=[.ref pn,.ref a]/\SqN K H pn zs/\zs.length≤12/\SqP K H a us/\Paired (z1n K H) us pr/\(pr.map Prod.fst).Nodup/\pr.length≤12/\∀(v:V) (H':Hp),A4 H H'->B5 H' (U6 (z10 zs pr)) v->Q v H'
theorem z7L{z:Str}:∀{pr:Row},N7 (pr.map kvR) (Sum.inr z:Key)=(pr.find? fun p=>decide (p.1=z)).map fun p=>V.int p.2
 | []=>rfl
 | p::w=>by
  rw[cO,dB]
  by_cases e:p.1=z
  ·rw[z5H (show(kvR p).1=Sum.inr z by unfold kvR;rw[e]),decide_eq_true e]
   rfl
  ·rw[z5B (show ¬(kvR p).1=Sum.inr z from fun q=>e (Sum.inr.inj q)),decide_eq_false e]
   exact z7L
theorem z8l(zs:List Str)(z:Str)(pr:Row):z10 (zs++[z]) pr=z10 zs pr++(match pr.find? fun p=>decide (p.1=z) with|some p=>[p]|none=>[]):=by
 unfold z10
 rw[List.filterMap_append,eJ]
 cases pr.find? fun p=>decide (p.1=z)<;>rfl
theorem z4k(zs:List Str)(pr:Row):(z10 zs pr).length≤zs.length:=List.length_filterMap_le _ _
theorem y03(M:Bl mg)(F:Fun K "rows_in_order" "rows_in_order" z2I f fd):B0 P w K mg base CX0 1 f fd z21 (z66 K):=by
 have nd:=z3D.nd
 refine F.ok z3D (fun vs H Q E h=>?_) (fun cdv A outer s H vs Q E hr h=>?_)
 ·obtain⟨pn,a,zs,us,pr,rfl,_⟩:=h
  rfl
 obtain⟨pn,a,zs,us,pr,rfl,hn,z12,ha,hp,ndr,l12,k⟩:=h
 have hu:=y2l hr
 refine⟨_,(z03 (z0e (i:=2) nd rfl (Or.inr rfl) (z0z (z8n (K:=K) rfl rfl) rfl M.dict PyProof.Rows.boot_dict (z00 (pv 1) z01))) (z05 (z0h (z0z z0Q rfl M.tuple cI (z00 (z2K ["name"] ["values"] [2] rfl (z0H rfl (by decide +kernel) rfl (by decide +kernel) rfl rfl) (z8i (pv 0)) (fun _ _ _ _ _=>(z0o (i:=0) (show((["name"]:List PySem.Str)++(["values"]:List PySem.Str)).Nodup from by decide +kernel) rfl (Or.inl rfl))) (z0R (by decide)) z0t (fun _ _ _ _ _=>(z5V (z85 (y3f hu (pv 0) (pv 1))))) (fun _ _ _ _ _=>(z1j (z00 (pv 0) (z00 (y49 hu (pv 1) (pv 0) (fun _ _=>rfl)) z01))))) z01))))),?_⟩
 have lu:us.length=pr.length:=hp.length
 refine⟨_,rfl,a,us,pr.map kvR,rfl,ha,z1n.pairs hp,by omega,?_,fun d hd=>?_⟩
 ·have e:(pr.map kvR).map (·.1)=(pr.map Prod.fst).map Sum.inr:=by rw[gK,gK];rfl
  rw[e,List.nodup_iff_pairwise_ne,List.pairwise_map]
  exact(List.nodup_iff_pairwise_ne.mp ndr).imp fun h e=>h (Sum.inr.inj e)
 have s1:=z02 hd (.dK (pr.map kvR))
 have e1:upd H d (.dK (pr.map kvR)) d=some (.dK (pr.map kvR)):=A1
 generalize upd H d (.dK (pr.map kvR))=H1 at s1 e1
 obtain⟨t,ht⟩:=SqS.of (SqN.keep s1 hn)
 refine⟨_,rfl,pn,t,rfl,⟨_,ht⟩,?_⟩
 refine z7p (xs:=zs.map V.str) (fun i ys H'=>A4 H1 H'/\z0k H' ((z10 (zs.take i) pr).map z81) ys) ⟨A4.refl _,by rw[cX];exact .nil⟩ (fun i ys H' hi hq=>?_) (fun i x ys H' hx hq=>?_) (fun ys H' hq=>?_)
 ·obtain⟨g,t'⟩:=hq
  refine⟨SqS.keep g ht,z0i ?_⟩
  have:=z4k (zs.take i) pr
  rw[bO] at this
  rw[t'.length,bA]
  omega
 ·obtain⟨g,t'⟩:=hq
  rw[bV] at hx
  obtain⟨z,ez,rfl⟩:=cS.mp hx
  refine⟨_,rfl,_,rfl,d,_,rfl,S5.k (k:=Sum.inr z) (g _ _ e1),_,rfl,?_⟩
  rw[z7L,z0w ez,z8l]
  cases ev:pr.find? fun p=>decide (p.1=z) with
  | none=>
   refine C2 ⟨g,?_⟩
   rw[cQ]
   exact t'
  | some p=>
   have ep:p.1=z:=by
    have:=List.find?_some ev
    exact of_decide_eq_true this
   refine J8 ⟨_,rfl,_,rfl,_,rfl,d,_,rfl,(show S5 _ d (kV (Sum.inr z)) (some (V.int p.2)) by rw[<- show N7 (pr.map kvR) (Sum.inr z:Key)=some (V.int p.2) by rw[z7L,ev];rfl];exact S5.k (g _ _ e1)),(by show 2≤sizeLine;decide),fun q hq=>⟨g.trans (z02 hq _),?_⟩⟩
   rw[bR]
   refine z0k.snoc (z0k.keep (z02 hq _) _ _ t') ?_
   rw[<- ep]
   exact z0J A1 (by show 2≤1000000;decide) (.cons (z0A _) (.cons (z1N _) .nil))
 ·obtain⟨g,t'⟩:=hq
  rw[bA,bU] at t'
  intro D hD
  refine⟨D,ys,rfl,.inl ⟨SqL.of A1,fun q hq=>k _ _ (s1.trans (g.trans ((z02 hD _).trans (z02 hq _)))) (z0J A1 ?_ (z0k.keep ((z02 hD _).trans (z02 hq _)) _ _ t'))⟩⟩
  have:=z4k zs pr
  rw[bA]
  omega
def z8U:Sp:=fun vs H Q _=>∃(a:Addr) (xs:List V) (w:Row),vs=[.ref a]/\H a=some (.tup xs)/\z0k H (w.map z81) xs/\w.length≤12/\∀(l:Addr) (H':Hp),A4 H H'->H' l=some (.tup ((z5S w).map V.str))->Q (.ref l) H'
theorem y2Y(M:Bl mg)(F:Fun K "names_of_rows" "names_of_rows" z2N f fd):B0 P w K mg base CX0 1 f fd z23 z8U:=by
 have nd:=z3t.nd
 refine F.ok z3t (fun vs H Q E h=>?_) (fun cdv A outer s H vs Q E hr h=>?_)
 ·obtain⟨a,xs,w,rfl,_⟩:=h
  rfl
 obtain⟨a,xs,w,rfl,ha,tw,l12,k⟩:=h
 refine⟨_,(z05 (z0h (z0z z0Q rfl M.tuple cI (z00 (z2K ["name","value"] [] [] rfl (z0H rfl (by decide +kernel) rfl (by decide +kernel) rfl rfl) (y3i (pv 0)) (fun _ _ _ _ _=>(y4q (K:=K) (n:=2) rfl rfl (z1Z (z0o (i:=0) (show((["name","value"]:List PySem.Str)++([]:List PySem.Str)).Nodup from by decide +kernel) rfl (Or.inl rfl)) (z1Z (z0o (i:=1) (show((["name","value"]:List PySem.Str)++([]:List PySem.Str)).Nodup from by decide +kernel) rfl (Or.inl rfl)) z61)))) (y48 (z3R (z0R (by decide)) z0t (z3R (z0R (by decide)) z0t z9e z2d) (z1L z0t z2d))) (y2e (z1L z0t (z1L z0t z2d))) (fun _ _ _ _ _=>z2q) (fun _ _ _ _ _=>(pv 0))) z01)))),?_⟩
 have lx:xs.length=w.length:=by rw[tw.length,bA]
 refine⟨_,rfl,a,rfl,⟨_,SqT.of ha⟩,?_⟩
 refine z7P (xs:=xs) (fun i ys H'=>H'=H/\ys=(z5S (w.take i)).map V.str) ⟨rfl,rfl⟩ (fun i ys H' hi hq=>?_) (fun i x ys H' hx hq=>?_) (fun ys H' hq=>?_)
 ·obtain⟨rfl,rfl⟩:=hq
  refine⟨SqT.of ha,z0i ?_⟩
  unfold z5S
  rw[bA,bA,bO]
  omega
 ·obtain⟨rfl,rfl⟩:=hq
  obtain⟨p,b,ep,rfl,hb⟩:=z6u tw i x hx
  refine⟨b,_,rfl,SqT.of hb,rfl,_,_,rfl,_,_,rfl,rfl,?_⟩
  refine⟨_,rfl,rfl,?_⟩
  unfold z5S
  rw[z0w ep,bR,bR]
  rfl
 ·obtain⟨rfl,rfl⟩:=hq
  rw[lx,bU]
  intro D hD
  exact⟨D,_,rfl,.inl ⟨SqL.of A1,fun q hq=>k q _ ((z02 hD _).trans (z02 hq _)) A1⟩⟩
def OfD(K:PySem.W.Frag)(C:Addr):OfP:=fun H p fp zs r rows=>∃(dx pn pl:Addr) (fs:List (Str×V)) (xs:List V),fp=[p,dx,pl]/\H p=some (.ins C dx fs)/\H dx=some (.own p)/\H pn=some (.tup (zs.map V.str))/\H pl=some (.lst xs)/\
 fs.lookup ("names":Str)=some (V.ref pn)/\fs.lookup ("reach":Str)=some (V.int r)/\fs.lookup ("written":Str)=some (V.ref pl)/\(∀m∈(["refuse_writing","write","latest","issue"]:List Str),fs.lookup m=none)/\
 z0k H ((upI 1 rows.length).map fun n=>z1K rows n r) xs/\rows.length≤60/\(∀w∈rows,w.length≤12)/\S0 zs/\0≤r/\r≤10
theorem R4{K:PySem.W.Frag}{C:Addr}:Z3 C ["write","latest","issue"] (OfD K C):=by
 refine⟨fun h=>?_,fun h b hb=>?_,fun h s out nt=>?_⟩
 ·obtain⟨dx,pn,pl,fs,xs,e,h1,h2,h3,h4,l1,l2,l3,lm,_⟩:=h
  refine⟨dx,fs,h1,fun m hm=>lm m ?_⟩
  simp only[bD,dF,or_false] at hm ⊢
  rcases hm with h|h|h<;>simp[h]
 ·obtain⟨dx,pn,pl,fs,xs,rfl,h1,h2,h3,h4,_⟩:=h
  rcases bD.mp hb with rfl|hb
  ·exact⟨_,h1,fun xs z=>by cases z⟩
  rcases bD.mp hb with rfl|hb
  ·exact⟨_,h2,fun xs z=>by cases z⟩
  rw[bC.mp hb]
  exact⟨_,h4,fun xs z=>by cases z⟩
 ·obtain⟨dx,pn,pl,fs,xs,rfl,h1,h2,h3,h4,l1,l2,l3,lm,tl,g⟩:=h
  exact⟨dx,pn,pl,fs,xs,rfl,s _ _ h1 (fun m=>out _ m (by simp)),s _ _ h2 (fun m=>out _ m (by simp)),s _ _ h3 (fun m=>nt _ m _ h3),s _ _ h4 (fun m=>out _ m (by simp)),l1,l2,l3,lm,z0k.but s nt _ _ tl,g⟩
theorem y0I{A0:Addr}(M:Bl mg)(T:E7 K mg A0)(F:Fun K "__init__" "Office.__init__" z27 f fd)(C8:Cal P w K mg base 2 "bulletin_names" z1I (z5a K)) :
  B0 P w K mg base CX0 3 f fd z28 (z9X K A0 (OfD K A0)):=by
 have nd:=z2P.nd
 refine F.ok z2P (fun vs H Q E h=>?_) (fun cdv A outer s H vs Q E hr h=>?_)
 ·obtain⟨x,dx,pn,zs,r,rfl,_⟩:=h
  rfl
 obtain⟨x,dx,pn,zs,r,rfl,hx,ne,hdx,hn,g,r0,r1,k⟩:=h
 refine⟨_,(z03 (z4L (pv 0) (z0r C8 (rm hr) rfl (z00 (pv 1) (z00 (pv 2) z01))) rfl) (z03 (z4L (pv 0) (pv 2) rfl) (z05 (z4L (pv 0) (z0L z01) rfl)))),?_⟩
 refine⟨_,rfl,_,rfl,pn,zs,r,rfl,hn,g,r0,r1,fun l H1 s1 e1=>?_⟩
 refine⟨_,rfl,x,A0,dx,[],rfl,s1 _ _ hx,T.cl,T.n_names,by decide,?_⟩
 have z1:=z1o "names" (.ref l) []
 have z2:=z1o "reach" (.int r) (K0 "names" (.ref l) [])
 have z0:([]:List (Str×V)).length=0:=rfl
 refine⟨_,rfl,_,rfl,x,A0,dx,_,rfl,A1,T.cl,T.n_reach,(by omega),?_⟩
 rw[z5W]
 refine⟨(by show 0≤sizeLine;decide),fun pd hd=>?_⟩
 have nx:x≠pd:=z0m A1 hd
 have ndd:dx≠pd:=z0m (show upd H1 x _ dx=some _ by rw[z0b ne];exact s1 _ _ hdx) hd
 have nl:l≠x:=z54 e1 (s1 _ _ hx) (fun z=>by cases z)
 have nlp:l≠pd:=z0m (show upd H1 x _ l=some _ by rw[z0b nl];exact e1) hd
 have dfr:H1 pd=none:=by rw[z0b (cT nx)] at hd;exact hd
 refine⟨_,rfl,x,A0,dx,_,rfl,(by rw[z0b nx,A1]),T.cl,T.n_written,(by omega),?_⟩
 refine k [x,dx,pd] _ (fun b hb=>?_) (fun b o e nb=>?_) ⟨dx,l,pd,_,[],rfl,A1,?_,?_,?_,?_,?_,?_,?_,.nil,by decide,fun _ q=>(nomatch q),g,r0,r1⟩
 ·simp only[bD,dF,or_false] at hb
  rcases hb with rfl|rfl|rfl
  ·exact .inl rfl
  ·exact .inr (.inl rfl)
  ·exact .inr (.inr (s1.free dfr))
 ·rw[bC] at nb
  rw[z0b nb,z0b (z0m e (s1.free dfr)),z0b nb]
  exact s1 _ _ e
 ·rw[z0b ne,z0b ndd,z0b ne]
  exact s1 _ _ hdx
 ·rw[z0b nl,z0b nlp,z0b nl]
  exact e1
 ·rw[z0b (cT nx),A1]
 ·rw[z0g,if_neg (by decide +kernel),z0g,if_neg (by decide +kernel),z0g,if_pos rfl]
 ·rw[z0g,if_neg (by decide +kernel),z0g,if_pos rfl]
 ·rw[z0g,if_pos rfl]
 ·intro m hm
  simp only[bD,dF,or_false] at hm
  rcases hm with rfl|rfl|rfl|rfl<;>rw[z0g,if_neg (by decide +kernel),z0g,if_neg (by decide +kernel),z0g,if_neg (by decide +kernel)]<;>rfl
theorem z90{A0:Addr}(M:Bl mg)(T:E7 K mg A0)(F:Fun K "latest" "Office.latest" z2J f fd):B0 P w K mg base CX0 1 f fd z2M (z6Y (OfD K A0)):=by
 have nd:=z3z.nd
 refine F.ok z3z (fun vs H Q E h=>?_) (fun cdv A outer s H vs Q E hr h=>?_)
 ·obtain⟨p,fp,zs,r,rows,rfl,_⟩:=h
  rfl
 obtain⟨p,fp,zs,r,rows,rfl,of,k⟩:=h
 refine⟨_,(z05 (z0h (z08 z06 rfl M.len bH (z00 (z0q (pv 0) rfl) z01)))),?_⟩
 obtain⟨dx,pn,pl,fs,xs,rfl,h1,h2,h3,h4,l1,l2,l3,lm,tl,r60,w12,g,r0,r1⟩:=of
 have lx:xs.length=rows.length:=by rw[tl.length,bA,z0V]
 refine⟨_,rfl,p,A0,dx,fs,_,rfl,h1,T.cl,T.n_written,l3,pl,xs,rfl,.inl (SqL.of h4),?_⟩
 rw[lx]
 exact k H (A4.refl _)
theorem z6L{A0:Addr}(M:Bl mg)(T:E7 K mg A0)(F:Fun K "issue" "Office.issue" z2f f fd):B0 P w K mg base CX0 1 f fd z0E (z1x (OfD K A0)):=by
 have nd:=z20.nd
 refine F.ok z20 (fun vs H Q E h=>?_) (fun cdv A outer s H vs Q E hr h=>?_)
 ·obtain⟨p,fp,zs,r,rows,n,rfl,_⟩:=h
  rfl
 obtain⟨p,fp,zs,r,rows,n,rfl,of,n1,n2,k⟩:=h
 refine⟨_,(z03 (z0v (PW.pt (z2G (z09 z3o (pv 1) z04 (z0d _)) (z1E (z09 z2g (pv 1) (z08 z06 rfl M.len bH (z00 (z0q (pv 0) rfl) z01)) (z0d _))))) (z05 z1i) z0c) (z05 (z0h (z0P z0D (z0q (pv 0) rfl) (z0a z3G (pv 1) z04) (fun _ _=>rfl))))),?_⟩
 obtain⟨dx,pn,pl,fs,xs,rfl,h1,h2,h3,h4,l1,l2,l3,lm,tl,r60,w12,g,r0,r1⟩:=of
 have lx:xs.length=rows.length:=by rw[tl.length,bA,z0V]
 refine⟨_,rfl,_,_,rfl,rfl,_,rfl,B3 (fun q=>absurd (z0x q) (by omega)) fun _=>?_⟩
 refine⟨_,rfl,_,rfl,p,A0,dx,fs,_,rfl,h1,T.cl,T.n_written,l3,pl,xs,rfl,.inl (SqL.of h4),_,_,rfl,rfl,_,rfl,B3 (fun q=>absurd (z0x q) (by omega)) fun _=>?_⟩
 have hk:(n-1).toNat<rows.length:=by omega
 obtain⟨v,ev,tv⟩:=tl.get (n-1).toNat (z1K rows n r) (by
  unfold upI
  rw[bV,bV,List.getElem?_range hk]
  show some (z1K rows (1+((n-1).toNat:Int)) r)=_
  rw[show(1:Int)+((n-1).toNat:Int)=n by omega])
 have av:atI xs (n-1)=some v:=by
  rw[show n-1=(((n-1).toNat:Nat):Int) by omega]
  exact z1p ev
 exact⟨_,rfl,p,A0,dx,fs,_,rfl,h1,T.cl,T.n_written,l3,_,rfl,_,_,rfl,rfl,pl,xs,_,v,rfl,rfl,SqL.of h4,av,k v H (A4.refl _) tv⟩
def z26(K:PySem.W.Frag)(Of:OfP):Sp:=fun vs H Q _=>∃(p a:Addr) (fp:List Addr) (zs:List Str) (r:Int) (rows:List Row) (us:List V) (pr:Row),vs=[.ref p,.ref a]/\Of H p fp zs r rows/\SqP K H a us/\Paired (z1n K H) us pr/\GoodR zs pr/\pr.length≤12/\rows.length<60/\∀H',A4 H H'->Q .non H'
theorem z7b{A0:Addr}(M:Bl mg)(T:E7 K mg A0)(F:Fun K "refuse_writing" "Office.refuse_writing" z0X f fd)(C4:Cal P w K mg base 2 "refuse_bad_rows" z13 (z3s K)) :
  B0 P w K mg base CX0 3 f fd z0p (z26 K (OfD K A0)):=by
 have nd:=z0S.nd
 refine F.ok z0S (fun vs H Q E h=>?_) (fun cdv A outer s H vs Q E hr h=>?_)
 ·obtain⟨p,a,fp,zs,r,rows,us,pr,rfl,_⟩:=h
  rfl
 obtain⟨p,a,fp,zs,r,rows,us,pr,rfl,of,ha,hp,g',l12,l60,k⟩:=h
 refine⟨_,(z03 (z0v (z09 y2z (z08 z06 rfl M.len bH (z00 (z0q (pv 0) rfl) z01)) (z11 rfl M.MOST_NUMBERS) (z0d _)) (z05 z1i) z0c) (z05 (z0n (z0r C4 (rm hr) rfl (z00 (z0q (pv 0) rfl) (z00 (pv 1) z01)))))),?_⟩
 obtain⟨dx,pn,pl,fs,xs,rfl,h1,h2,h3,h4,l1,l2,l3,lm,tl,r60,w12,g,r0,r1⟩:=of
 have lx:xs.length=rows.length:=by rw[tl.length,bA,z0V]
 refine⟨_,rfl,p,A0,dx,fs,_,rfl,h1,T.cl,T.n_written,l3,pl,xs,rfl,.inl (SqL.of h4),_,_,rfl,rfl,_,rfl,B3 (fun q=>absurd (z0x q) (by omega)) fun _=>?_⟩
 exact⟨_,rfl,p,A0,dx,fs,_,rfl,h1,T.cl,T.n_names,l1,_,rfl,pn,a,zs,us,pr,rfl,.inr (SqT.of h3),ha,hp,g',l12,fun H' s=>k H' s⟩
theorem z8W(rows:List Row)(x:Row){n r:Int}(n1:1≤n)(n2:n≤rows.length):z1K (rows++[x]) n r=z1K rows n r:=by
 have e:=z9b (rows:=rows++[x]) (j:=rows.length) (r:=r) n1 n2
 rw[List.take_left] at e
 exact e.symm
theorem y20(m:Nat)(r:Int)(r0:0≤r):y0k ((m:Int)+1) r=tsN m r.toNat:=by
 have w1t:∀{l1 l2:List Int},l1.Pairwise (· > ·)->l2.Pairwise (· > ·)->(∀x,x∈l1↔x∈l2)->l1=l2:=fun {l1 l2} p1 p2 h=>by
  have e:=z4F (l1:=l1.reverse) (l2:=l2.reverse) (fG.mpr p1) (fG.mpr p2) fun x=>by rw[fJ,fJ];exact h x
  have e2:=congrArg List.reverse e
  rw[fK,fK] at e2
  exact e2
 refine w1t ((z6o _ _).filter _) ((z6o _ _).filter _) fun x=>?_
 rw[z5R]
 unfold y0k
 rw[cY,z9a,decide_eq_true_eq]
 omega
theorem y1m(rows:List Row)(x:Row)(r:Int)(r0:0≤r):y2X (rows++[x]) ((rows.length:Int)+1) r=tsD (rows.map z5S) r:=by
 unfold y2X tsD
 rw[y20 _ _ r0,bA]
 congr 1
 refine gP fun k hk=>?_
 have hk:=z5R.mp hk
 unfold y0H tsP z6J
 have h1:(k-1).toNat<rows.length:=by omega
 rw[bY,bY,dH h1,bV,bG h1]
 rfl
theorem z7i{A0:Addr}(M:Bl mg)(T:E7 K mg A0)(F:Fun K "write" "Office.write" z2e f fd)(A8:D5 P w K mg base 3 A0 "refuse_writing" z0p (z26 K (OfD K A0)))
  (C7:Cal P w K mg base 1 "names_of_rows" z23 z8U) (C6:Cal P w K mg base 1 "rows_in_order" z21 (z66 K)) (J1:Cal P w K mg base 2 "tail_for" z4A (y0L K)) :
  B0 P w K mg base CX0 4 f fd z1G (z4B K (OfD K A0)):=by
 have nd:=z22.nd
 refine F.ok z22 (fun vs H Q E h=>?_) (fun cdv A outer s H vs Q E hr h=>?_)
 ·obtain⟨p,v,fp,zs,r,rows,pr,rfl,_⟩:=h
  rfl
 obtain⟨p,v,fp,zs,r,rows,pr,rfl,of,⟨a,us,rfl,ha,na,hp⟩,gr,l12,l60,k⟩:=h
 refine⟨_,(z03 (z0n (z1v A8 (rm hr) (pv 0) (z00 (pv 1) z01))) (z03 (z0e (i:=2) nd rfl (Or.inl rfl) (z0a z0O (z08 z06 rfl M.len bH (z00 (z0q (pv 0) rfl) z01)) z04)) (z03 (z55 (i:=3) ["issue"] [] [] rfl nd rfl (Or.inl rfl) (z0H rfl (by decide +kernel) rfl (by decide +kernel) rfl rfl) (z16 (z0q (pv 0) rfl)) (fun _ _ _ _ _=>(z0o (i:=0) (show((["issue"]:List PySem.Str)++([]:List PySem.Str)).Nodup from by decide +kernel) rfl (Or.inl rfl))) (z0R (by decide)) z0t (fun _ _ _ _ _=>z2q) (fun _ _ _ _ _=>(z0r C7 (rm hr) rfl (z00 (z0P (r:=Z1 K) z1F (pv 0) z04 (fun _ _=>rfl)) z01)))) (z03 (z0n (z2h bM bP bQ z0B (z0q (pv 0) rfl) (z00 (z1j (z00 (pv 2) (z00 (z0r C6 (rm hr) rfl (z00 (z0q (pv 0) rfl) (z00 (pv 1) z01))) (z00 (z0r J1 (rm hr) rfl (z00 (pv 3) (z00 (z0q (pv 0) rfl) z01))) z01)))) z01))) (z05 (z0h (pv 2))))))),?_⟩
 have hp':=z1n.of hp
 obtain⟨dx,pn,pl,fs,xs,rfl,h1,h2,h3,h4,l1,l2,l3,lm,tl,r60,w12,g,r0,r1⟩:=id of
 have lx:xs.length=rows.length:=by rw[tl.length,bA,z0V]
 refine⟨_,rfl,p,dx,fs,rfl,h1,lm _ (by simp),_,rfl,p,a,_,zs,r,rows,us,pr,rfl,of,ha,hp',gr,l12,l60,fun H1 s1=>?_⟩
 refine⟨_,rfl,p,A0,dx,fs,_,rfl,s1 _ _ h1,T.cl,T.n_written,l3,pl,xs,rfl,.inl (SqL.of (s1 _ _ h4)),_,_,rfl,rfl,?_⟩
 refine⟨_,rfl,p,A0,dx,fs,_,rfl,s1 _ _ h1,T.cl,T.n_written,l3,pl,rfl,⟨_,SqL.of (s1 _ _ h4)⟩,?_⟩
 refine z2o (xs:=xs) (fun i ys H'=>A4 H1 H'/\z0k H' (((rows.take i).map z5S).map W9) ys) ⟨A4.refl _,by rw[cX];exact .nil⟩ (fun i ys H' hi hq=>?_) (fun i x ys H' hx hq=>?_) (fun ys H' hq=>?_)
 ·obtain⟨gg,t⟩:=hq
  refine⟨SqL.of (gg _ _ (s1 _ _ h4)),z0i ?_⟩
  rw[t.length,bA,bA,bO]
  omega
 ·obtain⟨gg,t⟩:=hq
  have hi:i<rows.length:=by
   have:=(cJ.mp hx).1
   omega
  obtain⟨d,ed,td⟩:=tl.at i x hx
  unfold upI at ed
  rw[bV,bV,List.getElem?_range hi] at ed
  have ed':z1K rows (1+(i:Int)) r=d:=Option.some.inj ed
  subst ed'
  have ew:z6J rows (1+(i:Int))=rows[i]:=by
   unfold z6J
   rw[show(1+(i:Int)-1).toNat=i by omega,bY,bG hi]
   rfl
  obtain⟨b,bs,rfl,eb,_,tb⟩:=z1b td
  obtain⟨x0,ur,rfl,t0,tb⟩:=z0T tb
  obtain⟨x1,ur,rfl,t1,tb⟩:=z0T tb
  rw[ew] at t1
  obtain⟨c,cs,rfl,ec,_,tc⟩:=z1b t1
  refine⟨_,rfl,b,_,_,_,rfl,rfl,SqT.of (gg _ _ (s1 _ _ eb)),z1p rfl,c,cs,rows[i],rfl,gg _ _ (s1 _ _ ec),z0k.keep (s1.trans gg) _ _ tc,w12 _ (dE hi),fun l H2 s2 e2=>⟨gg.trans s2,?_⟩⟩
  rw[z0w (bG hi),bR,bR]
  refine z0k.snoc (z0k.keep s2 _ _ t) (z0J e2 ?_ (z74 _))
  have:=w12 _ (dE hi)
  unfold z5S
  rw[bA,bA]
  omega
 obtain⟨gg,t⟩:=hq
 rw[lx,bU] at t
 intro D hD
 have s2:=s1.trans (gg.trans (z02 hD (.lst ys)))
 have eD:upd H' D (.lst ys) D=some (.lst ys):=A1
 have t2:=z0k.keep (z02 hD (.lst ys)) _ _ t
 generalize upd H' D (.lst ys)=H2 at s2 eD t2
 have l60':((rows.map z5S)).length≤59:=by rw[bA];omega
 refine⟨_,rfl,p,A0,dx,fs,_,rfl,s2 _ _ h1,T.cl,T.n_written,l3,.inl ⟨rfl,_,SqL.of (s2 _ _ h4)⟩,?_⟩
 refine⟨_,rfl,_,rfl,p,A0,dx,fs,_,rfl,s2 _ _ h1,T.cl,T.n_names,l1,_,rfl,pn,a,zs,us,pr,rfl,.inr (SqT.of (s2 _ _ h3)),g.hi,SqP.keep s2 ha,z1n.keep s2 hp',gr.nd,l12,fun v1 H3 s3 tv1=>?_⟩
 have s23:=s2.trans s3
 refine⟨_,rfl,_,rfl,p,A0,dx,fs,_,rfl,s23 _ _ h1,T.cl,T.n_reach,l2,D,ys,rows.map z5S,r,rfl,.inl (SqL.of (s3 _ _ eD)),z0k.keep s3 _ _ t2,l60',?_,r0,r1,fun v2 H4 s4 tv2=>?_⟩
 ·intro w' hw'
  obtain⟨w0,hw0,rfl⟩:=cF.mp hw'
  have:=w12 w0 hw0
  unfold z5S
  rw[bA]
  exact this
 refine⟨(by show 3≤sizeLine;decide),fun q hq=>?_⟩
 have s24:=s23.trans (s4.trans (z02 hq (.tup [V.int ((xs.length:Int)+1),v1,v2])))
 have eq':upd H4 q (.tup [V.int ((xs.length:Int)+1),v1,v2]) q=some (.tup [V.int ((xs.length:Int)+1),v1,v2]):=A1
 have tv1':=B5.keep (s4.trans (z02 hq (.tup [V.int ((xs.length:Int)+1),v1,v2]))) _ _ tv1
 have tv2':=B5.keep (z02 hq (.tup [V.int ((xs.length:Int)+1),v1,v2])) _ _ tv2
 generalize upd H4 q (.tup [V.int ((xs.length:Int)+1),v1,v2])=H5 at s24 eq' tv1' tv2'
 refine⟨pl,xs,.ref q,rfl,rfl,s24 _ _ h4,z0i (by omega),?_⟩
 refine⟨_,rfl,?_⟩
 have np:p≠pl:=z54 h1 h4 (fun z=>by cases z)
 have nx:dx≠pl:=z54 h2 h4 (fun z=>by cases z)
 have nn:pn≠pl:=z54 h3 h4 (fun z=>by cases z)
 have h5:=s24 _ _ h4
 have e:=k [p,dx,pl] (upd H5 pl (.lst (xs++[.ref q]))) (fun b hb=>.inl hb) (fun b o e nb=>by rw[z0b (fun z=>nb (by rw[z];simp))];exact s24 _ _ e)
  ⟨dx,pn,pl,fs,_,rfl,by rw[z0b np];exact s24 _ _ h1,by rw[z0b nx];exact s24 _ _ h2,by rw[z0b nn];exact s24 _ _ h3,A1,l1,l2,l3,lm,?_,?_,?_,g,r0,r1⟩
 ·rw[<- lx] at e
  exact e
 ·refine z0k.over h5 (fun _ z=>by cases z) _ _ ?_
  rw[bE,dO,z5J,bR]
  have e1:(upI 1 rows.length).map (fun n=>z1K (rows++[z10 zs pr]) n r)=(upI 1 rows.length).map fun n=>z1K rows n r:=gP fun n hn=>by
   have:=z2k.mp hn
   exact z8W rows _ (by omega) (by omega)
  rw[e1]
  refine z0k.snoc (z0k.keep s24 _ _ tl) ?_
  have en:(1:Int)+(rows.length:Int)=(rows.length:Int)+1:=by omega
  have er:z6J (rows++[z10 zs pr]) ((rows.length:Int)+1)=z10 zs pr:=by
   unfold z6J
   rw[show((rows.length:Int)+1-1).toNat=rows.length by omega,bY,List.getElem?_concat_length]
   rfl
  show B5 H5 (z1K (rows++[z10 zs pr]) (1+(rows.length:Int)) r) (.ref q)
  unfold z1K
  rw[en,er,y1m rows _ r r0]
  rw[lx] at eq'
  exact z0J eq' (by show 3≤1000000;decide) (.cons (z1N _) (.cons tv1' (.cons tv2' .nil)))
 ·rw[bE,dO]
  omega
 ·intro w' hw'
  rcases c8.mp hw' with hw'|hw'
  ·exact w12 w' hw'
  ·rw[bC] at hw'
   rw[hw']
   exact cC (z4k zs pr) g.hi
abbrev B2:=Option Int×Int
def z1P:B2->List V
 | (none,n)=>[.str "write",.int n]
 | (some r,n)=>[.str "deliver",.int r,.int n]
def z15(H:Hp)(u:V)(d:B2):Prop:=∃b,u=.ref b/\H b=some (.tup (z1P d))
theorem z0G{H:Hp}{us:List V}{log:List B2}(h:Paired (z15 H) us log):us.length=log.length:=by
 induction h with
 | nil=>rfl
 | cons _ _ ih=>rw[bT,bT,ih]
def K1(log:List B2)(rd:Int):List Int:=log.foldl (fun acc d=>if d.1=some rd then P8 acc d.2 else acc) []
theorem z8A(log:List B2)(d:B2)(rd:Int):K1 (log++[d]) rd=if d.1=some rd then P8 (K1 log rd) d.2 else K1 log rd:=by
 unfold K1
 rw[List.foldl_append]
 rfl
theorem y2y{log:List B2}{rd n:Int}:n∈K1 log rd↔((some rd,n):B2)∈log:=by
 have go:∀(log:List B2) (acc:List Int),n∈log.foldl (fun acc d=>if d.1=some rd then P8 acc d.2 else acc) acc↔n∈acc\/((some rd,n):B2)∈log:=by
  intro log
  induction log with
  | nil=>intro acc;exact⟨.inl,fun h=>h.elim id fun q=>(nomatch q)⟩
  | cons d log ih=>
   intro acc
   rw[dN,ih,bD]
   obtain⟨a,m⟩:=d
   by_cases c:a=some rd
   ·subst c
    rw[if_pos rfl,z9x,or_assoc]
    exact or_congr Iff.rfl (or_congr ⟨fun e=>by rw[e],fun e=>congrArg Prod.snd e⟩ Iff.rfl)
   ·rw[if_neg c]
    exact or_congr Iff.rfl ⟨.inr,fun h=>h.elim (fun e=>absurd (congrArg Prod.fst e).symm c) id⟩
 unfold K1
 rw[go]
 exact⟨fun h=>h.elim (fun q=>(nomatch q)) id,.inr⟩
abbrev BkP:=Hp->Addr->List Addr->List Str->Int->Int->List Row->List B2->Prop
structure V0(C:Addr)(ms:List Str)(Bk:BkP):Prop where
 ins:∀{H p fp zs r k rows log},Bk H p fp zs r k rows log->∃dx fs,H p=some (.ins C dx fs)/\∀m∈ms,fs.lookup m=none
 own:∀{H p fp zs r k rows log},Bk H p fp zs r k rows log->∀b∈fp,∃o,H b=some o/\∀xs,o≠.tup xs
 keep:∀{H H' p fp gp zs r k rows log},Bk H p fp zs r k rows log->z0s gp H H'->(∀b∈gp,b∉fp)->z45 H gp->Bk H' p fp zs r k rows log
theorem V0.same{C:Addr}{ms:List Str}{Bk:BkP}(O:V0 C ms Bk){H H':Hp}{p:Addr}{fp:List Addr}{zs:List Str}{r k:Int}{rows:List Row}{log:List B2}(h:Bk H p fp zs r k rows log)(s:A4 H H'):Bk H' p fp zs r k rows log:=
 O.keep (gp:=[]) h (.of s) (fun _ q=>by cases q) fun _ q=>by cases q
theorem V0.P1{C:Addr}{ms:List Str}{Bk:BkP}(O:V0 C ms Bk){H:Hp}{p:Addr}{fp:List Addr}{zs:List Str}{r k:Int}{rows:List Row}{log:List B2}(h:Bk H p fp zs r k rows log):z45 H fp:=fun b m xs e=>by
 obtain⟨o,e1,n⟩:=O.own h b m
 rw[e1] at e
 exact n xs (Option.some.inj e)
def z9v(K:PySem.W.Frag)(C:Addr)(Bk:BkP):Sp:=fun vs H Q _=>∃(x dx pn:Addr) (zs:List Str) (r k:Int),vs=[.ref x,.ref pn,.int r,.int k]/\H x=some (.ins C dx [])/\dx≠x/\H dx=some (.own x)/\HdN K H pn zs/\S0 zs/\0≤r/\r≤10/\1≤k/\k≤10/\
 ∀(fp:List Addr) (H':Hp),(∀b∈fp,b=x\/b=dx\/H b=none)->z0s [x] H H'->Bk H' x fp zs r k [] []->Q .non H'
def z4y(K:PySem.W.Frag)(Bk:BkP):Sp:=fun vs H Q _=>∃(p:Addr) (v:V) (fp:List Addr) (zs:List Str) (r k:Int) (rows:List Row) (log:List B2) (pr:Row),vs=[.ref p,v]/\Bk H p fp zs r k rows log/\z9Q K H fp v pr/\GoodR zs pr/\pr.length≤12/\rows.length<60/\log.length<400/\
 ∀(fp':List Addr) (H':Hp),(∀b∈fp',b∈fp\/H b=none)->z0s fp H H'->Bk H' p fp' zs r k (rows++[z10 zs pr]) (log++[(none,(rows.length:Int)+1)])->Q (.int (rows.length+1)) H'
def z39(Bk:BkP):Sp:=fun vs H Q _=>∃(p:Addr) (fp:List Addr) (zs:List Str) (r k:Int) (rows:List Row) (log:List B2) (rd n:Int),vs=[.ref p,.int rd,.int n]/\Bk H p fp zs r k rows log/\1≤rd/\rd≤k/\1≤n/\n≤rows.length/\log.length<400/\
 ∀(H':Hp),z0s fp H H'->Bk H' p fp zs r k rows (log++[(some rd,n)])->Q (.bl (decide (((some rd,n):B2)∉log))) H'
def z7R(Bk:BkP):Sp:=fun vs H Q _=>∃(p:Addr) (fp:List Addr) (zs:List Str) (r k:Int) (rows:List Row) (log:List B2),vs=[.ref p]/\Bk H p fp zs r k rows log/\Q (.int log.length) H
def w0E:Option Nat->V
 | none=>.non
 | some d=>.int d
def z2l(Bk:BkP)(Sh:ShP):Sp:=fun vs H Q _=>∃(p:Addr) (fp:List Addr) (zs:List Str) (r k:Int) (rows:List Row) (log:List B2) (rd:Int) (o:Option Nat),vs=[.ref p,.int rd,w0E o]/\Bk H p fp zs r k rows log/\1≤rd/\rd≤k/\(∀d,o=some d->d≤log.length)/\
 ∀(x:Addr) (fq:List Addr) (H':Hp),(∀b∈fq,H b=none)->A4 H H'->Sh H' x fq zs r (fun n=>z1K rows n r) (K1 (log.take (o.getD log.length)) rd)->Q (.ref x) H'
theorem D0.but{fp:List Addr}{H H':Hp}{us:List V}{log:List B2}(s:z0s fp H H')(n:z45 H fp)(h:Paired (z15 H) us log):Paired (z15 H') us log:=
 L2.Paired.T9 h fun u d ⟨b,e,q⟩=>⟨b,e,s _ _ q fun m=>n b m _ q⟩
structure BkIn(K:PySem.W.Frag)(CB CO:Addr)(H:Hp)(p dx po pd:Addr)(fs:List (Str×V))(fo:List Addr)(us:List V)(zs:List Str)(r k:Int)(rows:List Row)(log:List B2):Prop where
 hp:H p=some (.ins CB dx fs)
 hdx:H dx=some (.own p)
 of:OfD K CO H po fo zs r rows
 hd:H pd=some (.lst us)
 ds:Paired (z15 H) us log
 npo:p∉fo
 ndo:dx∉fo
 ndn:pd∉fo
 lo:fs.lookup ("office":Str)=some (V.ref po)
 lr:fs.lookup ("readers":Str)=some (V.int k)
 ld:fs.lookup ("done":Str)=some (V.ref pd)
 lm:∀m∈(["refuse_unknown_reader","refuse_further_deed","write","deliver","latest","issue","deeds","deed","shelf"]:List Str),fs.lookup m=none
 l4:log.length≤400
 in1:∀d∈log,1≤d.2/\d.2≤rows.length
 k1:1≤k
 k10:k≤10
def BkD(K:PySem.W.Frag)(CB CO:Addr):BkP:=fun H p fp zs r k rows log=>∃(dx po pd:Addr) (fs:List (Str×V)) (fo:List Addr) (us:List V),fp=p::dx::pd::fo/\BkIn K CB CO H p dx po pd fs fo us zs r k rows log
theorem S3{K:PySem.W.Frag}{CB CO:Addr}:V0 CB ["write","deliver","latest","issue","deeds","deed","shelf"] (BkD K CB CO):=by
 refine⟨fun h=>?_,fun h b hb=>?_,fun h s out nt=>?_⟩
 ·obtain⟨dx,po,pd,fs,fo,us,rfl,B⟩:=h
  refine⟨dx,fs,B.hp,fun m hm=>B.lm m ?_⟩
  exact bW _ (bW _ hm)
 ·obtain⟨dx,po,pd,fs,fo,us,rfl,B⟩:=h
  rcases bD.mp hb with rfl|hb
  ·exact⟨_,B.hp,fun xs z=>by cases z⟩
  rcases bD.mp hb with rfl|hb
  ·exact⟨_,B.hdx,fun xs z=>by cases z⟩
  rcases bD.mp hb with rfl|hb
  ·exact⟨_,B.hd,fun xs z=>by cases z⟩
  exact R4.own B.of b hb
 ·obtain⟨dx,po,pd,fs,fo,us,rfl,B⟩:=h
  exact⟨dx,po,pd,fs,fo,us,rfl,{ B with
   hp:=s _ _ B.hp fun m=>out _ m (by simp)
   hdx:=s _ _ B.hdx fun m=>out _ m (by simp)
   of:=R4.keep B.of s (fun b m z=>out b m (by simp[z])) nt
   hd:=s _ _ B.hd fun m=>out _ m (by simp)
   ds:=D0.but s nt B.ds }⟩
def z5s:Sp:=fun vs H Q _=>∃k:Int,vs=[.int k]/\1≤k/\k≤10/\Q .non H
theorem z7F(M:Bl mg)(F:Fun K "refuse_bad_readers" "refuse_bad_readers" z1C f fd):B0 P w K mg base CX0 1 f fd z1B z5s:=by
 have nd:=z29.nd
 refine F.ok z29 (fun vs H Q E h=>?_) (fun cdv A outer s H vs Q E hr h=>?_)
 ·obtain⟨r,rfl,_⟩:=h
  rfl
 ·obtain⟨r,rfl,r0,r1,k⟩:=h
  refine⟨_,(z05 (z0v (PW.pt (z2G (z09 z3o (pv 0) z04 (z0d _)) (z1E (z09 z2g (pv 0) (z11 rfl M.MOST_READERS) (z0d _))))) (z05 z1i) z0c)),?_⟩
  refine⟨_,rfl,_,_,rfl,rfl,_,rfl,B3 (fun q=>absurd (z0x q) (by omega)) fun _=>?_⟩
  exact⟨_,rfl,_,_,rfl,rfl,_,rfl,B3 (fun q=>absurd (z0x q) (by omega)) fun _=>k⟩
def z1q(Bk:BkP):Sp:=fun vs H Q _=>∃(p:Addr) (fp:List Addr) (zs:List Str) (r k:Int) (rows:List Row) (log:List B2) (rd:Int),vs=[.ref p,.int rd]/\Bk H p fp zs r k rows log/\1≤rd/\rd≤k/\Q .non H
theorem z5l{A2 A0:Addr}(M:Bl mg)(T:E4 K mg A2)(F:Fun K "refuse_unknown_reader" "Book.refuse_unknown_reader" z0F f fd):B0 P w K mg base CX0 1 f fd z0f (z1q (BkD K A2 A0)):=by
 have nd:=z0C.nd
 refine F.ok z0C (fun vs H Q E h=>?_) (fun cdv A outer s H vs Q E hr h=>?_)
 ·obtain⟨p,fp,zs,r,k,rows,log,rd,rfl,_⟩:=h
  rfl
 obtain⟨p,fp,zs,r,k,rows,log,rd,rfl,⟨dx,po,pd,fs,fo,us,rfl,B⟩,r1,r2,q⟩:=h
 refine⟨_,(z05 (z0v (PW.pt (z2G (z09 z3o (pv 1) z04 (z0d _)) (z1E (z09 z2g (pv 1) (z0q (pv 0) rfl) (z0d _))))) (z05 z1i) z0c)),?_⟩
 refine⟨_,rfl,_,_,rfl,rfl,_,rfl,B3 (fun q=>absurd (z0x q) (by omega)) fun _=>?_⟩
 exact⟨_,rfl,_,rfl,p,A2,dx,fs,_,rfl,B.hp,T.cl,T.n_readers,B.lr,_,_,rfl,rfl,_,rfl,B3 (fun q=>absurd (z0x q) (by omega)) fun _=>q⟩
def z24(Bk:BkP):Sp:=fun vs H Q _=>∃(p:Addr) (fp:List Addr) (zs:List Str) (r k:Int) (rows:List Row) (log:List B2),vs=[.ref p]/\Bk H p fp zs r k rows log/\log.length<400/\Q .non H
theorem z6W{A2 A0:Addr}(M:Bl mg)(T:E4 K mg A2)(F:Fun K "refuse_further_deed" "Book.refuse_further_deed" z0M f fd):B0 P w K mg base CX0 1 f fd z0j (z24 (BkD K A2 A0)):=by
 have nd:=z0K.nd
 refine F.ok z0K (fun vs H Q E h=>?_) (fun cdv A outer s H vs Q E hr h=>?_)
 ·obtain⟨p,fp,zs,r,k,rows,log,rfl,_⟩:=h
  rfl
 obtain⟨p,fp,zs,r,k,rows,log,rfl,⟨dx,po,pd,fs,fo,us,rfl,B⟩,l4,q⟩:=h
 refine⟨_,(z05 (z0v (z09 y2z (z08 z06 rfl M.len bH (z00 (z0q (pv 0) rfl) z01)) (z11 rfl M.MOST_DEEDS) (z0d _)) (z05 z1i) z0c)),?_⟩
 have lu:=z0G B.ds
 exact⟨_,rfl,p,A2,dx,fs,_,rfl,B.hp,T.cl,T.n_done,B.ld,pd,us,rfl,.inl (SqL.of B.hd),_,_,rfl,rfl,_,rfl,B3 (fun q=>absurd (z0x q) (by omega)) fun _=>q⟩
theorem y0h{A2 A0:Addr}(M:Bl mg)(T:E4 K mg A2)(F:Fun K "deeds" "Book.deeds" z44 f fd):B0 P w K mg base CX0 1 f fd z42 (z7R (BkD K A2 A0)):=by
 have nd:=z5e.nd
 refine F.ok z5e (fun vs H Q E h=>?_) (fun cdv A outer s H vs Q E hr h=>?_)
 ·obtain⟨p,fp,zs,r,k,rows,log,rfl,_⟩:=h
  rfl
 obtain⟨p,fp,zs,r,k,rows,log,rfl,⟨dx,po,pd,fs,fo,us,rfl,B⟩,q⟩:=h
 refine⟨_,(z05 (z0h (z08 z06 rfl M.len bH (z00 (z0q (pv 0) rfl) z01)))),?_⟩
 have lu:=z0G B.ds
 refine⟨_,rfl,p,A2,dx,fs,_,rfl,B.hp,T.cl,T.n_done,B.ld,pd,us,rfl,.inl (SqL.of B.hd),?_⟩
 rw[lu]
 exact q
theorem y14{A2 A0:Addr}(M:Bl mg)(T:E4 K mg A2)(F:Fun K "__init__" "Book.__init__" z2F f fd)(T6:Mkr P w K mg base 3 A0 "Office" z28 (z9X K A0 (OfD K A0)))
  (E9:Cal P w K mg base 1 "refuse_bad_readers" z1B z5s):B0 P w K mg base CX0 6 f fd z2E (z9v K A2 (BkD K A2 A0)):=by
 have nd:=z3F.nd
 refine F.ok z3F (fun vs H Q E h=>?_) (fun cdv A outer s H vs Q E hr h=>?_)
 ·obtain⟨x,dx,pn,zs,r,k,rfl,_⟩:=h
  rfl
 obtain⟨x,dx,pn,zs,r,k,rfl,hx,ne,hdx,hn,g,r0,r1,k1,k10,q⟩:=h
 refine⟨_,(z03 (z4L (pv 0) (z9o T6 (rm hr) rfl (z00 (pv 1) (z00 (pv 2) z01))) rfl) (z03 (z0n (z0r E9 (rm hr) rfl (z00 (pv 3) z01))) (z03 (z4L (pv 0) (pv 3) rfl) (z05 (z4L (pv 0) (z0L z01) rfl))))),?_⟩
 refine⟨_,rfl,_,rfl,fun po dxo nx ndx neo=>?_⟩
 have m1:=z6k (C:=A0) (A4.refl H) nx ndx
 refine⟨po,dxo,pn,zs,r,rfl,A1,neo,by rw[z0b neo,A1],HdN.keep m1 hn,g,r0,r1,fun fo H1 ff sb of=>⟨rfl,?_⟩⟩
 have s1:A4 H H1:=z6h sb m1 nx
 have f1:∀b∈fo,H b=none:=fun b hb=>z4T m1 nx ndx (ff b hb)
 refine⟨_,rfl,x,A2,dx,[],rfl,s1 _ _ hx,T.cl,T.n_office,by decide,?_⟩
 have z1:=z1o "office" (.ref po) []
 have z2:=z1o "readers" (.int k) (K0 "office" (.ref po) [])
 have z0:([]:List (Str×V)).length=0:=rfl
 refine⟨_,rfl,k,rfl,k1,k10,?_⟩
 refine⟨_,rfl,_,rfl,x,A2,dx,_,rfl,A1,T.cl,T.n_readers,(by omega),?_⟩
 rw[z5W]
 refine⟨(by show 0≤sizeLine;decide),fun pd hd=>?_⟩
 have nxp:x≠pd:=z0m A1 hd
 have dfr:H1 pd=none:=by rw[z0b (cT nxp)] at hd;exact hd
 have ndd:dx≠pd:=z0m (s1 _ _ hdx) dfr
 have out:∀{b:Addr}{o:HO},H b=some o->b∉fo:=fun e m=>by rw[f1 _ m] at e;cases e
 refine⟨_,rfl,x,A2,dx,_,rfl,(by rw[z0b nxp,A1]),T.cl,T.n_done,(by omega),?_⟩
 have sx:z0s [x] H1 (upd (upd (upd H1 x (.ins A2 dx (K0 "readers" (.int k) (K0 "office" (.ref po) [])))) pd (.lst [])) x (.ins A2 dx (K0 "done" (.ref pd) (K0 "readers" (.int k) (K0 "office" (.ref po) []))))):=fun b o e nb=>by
  rw[bC] at nb
  rw[z0b nb,z0b (z0m e dfr),z0b nb]
  exact e
 refine q (x::dx::pd::fo) _ (fun b hb=>?_) (fun b o e nb=>sx b o (s1 _ _ e) nb) ⟨dx,po,pd,_,fo,[],rfl,⟨A1,?_,?_,?_,.nil,out hx,out hdx,?_,?_,?_,?_,?_,by decide,fun _ q=>(nomatch q),k1,k10⟩⟩
 ·rcases bD.mp hb with rfl|hb
  ·exact .inl rfl
  rcases bD.mp hb with rfl|hb
  ·exact .inr (.inl rfl)
  rcases bD.mp hb with rfl|hb
  ·exact .inr (.inr (s1.free dfr))
  ·exact .inr (.inr (f1 b hb))
 ·exact sx _ _ (s1 _ _ hdx) (by rw[bC];exact ne)
 ·refine R4.keep of sx (fun b m=>?_) fun b m xs e=>?_
  ·rw[bC.mp m]
   exact out hx
  ·rw[bC.mp m,s1 _ _ hx] at e
   cases e
 ·rw[z0b (cT nxp),A1]
 ·intro m
  obtain⟨o,e,_⟩:=R4.own of pd m
  rw[dfr] at e
  cases e
 ·rw[z0g,if_neg (by decide +kernel),z0g,if_neg (by decide +kernel),z0g,if_pos rfl]
 ·rw[z0g,if_neg (by decide +kernel),z0g,if_pos rfl]
 ·rw[z0g,if_pos rfl]
 ·intro m hm
  simp only[bD,dF,or_false] at hm
  rcases hm with rfl|rfl|rfl|rfl|rfl|rfl|rfl|rfl|rfl<;>rw[z0g,if_neg (by decide +kernel),z0g,if_neg (by decide +kernel),z0g,if_neg (by decide +kernel)]<;>rfl
theorem y3b{K:PySem.W.Frag}{CB CO:Addr}{H H1:Hp}{p dx po pd t:Addr}{fs:List (Str×V)}{fo fo':List Addr}{us:List V}{zs:List Str}{r k:Int}{rows W4:List Row}{log:List B2}{d:B2}(B:BkIn K CB CO H p dx po pd fs fo us zs r k rows log)
  (sb:z0s fo H H1) (of:OfD K CO H1 po fo' zs r W4) (ff:∀b∈fo',b∈fo\/H b=none) (ht:H1 t=some (.tup (z1P d))) (hl:rows.length≤W4.length) (hd1:1≤d.2/\d.2≤W4.length) (l4:log.length<400) :
  z0s (p::dx::pd::fo) H (upd H1 pd (.lst (us++[.ref t])))/\BkD K CB CO (upd H1 pd (.lst (us++[.ref t]))) p (p::dx::pd::fo') zs r k W4 (log++[d]):=by
 have ntf:z45 H fo:=R4.P1 B.of
 have hd':=sb _ _ B.hd B.ndn
 have out:∀{b:Addr}{o:HO},H b=some o->b∉fo->b∉fo':=fun e n m=>(ff _ m).elim n fun z=>by rw[z] at e;cases e
 have s2:z0s [pd] H1 (upd H1 pd (.lst (us++[.ref t]))):=fun b o e nb=>by
  rw[bC] at nb
  rw[z0b nb]
  exact e
 have nt2:z45 H1 [pd]:=fun b m xs e=>by
  rw[bC.mp m,hd'] at e
  cases e
 have npd:p≠pd:=z54 B.hp B.hd (fun z=>by cases z)
 have ndd:dx≠pd:=z54 B.hdx B.hd (fun z=>by cases z)
 refine⟨fun b o e nb=>?_,dx,po,pd,fs,fo',us++[.ref t],rfl,{ B with
  hp:=by rw[z0b npd];exact sb _ _ B.hp B.npo
  hdx:=by rw[z0b ndd];exact sb _ _ B.hdx B.ndo
  of:=R4.keep of s2 (fun b m=>by rw[bC.mp m];exact out B.hd B.ndn) nt2
  hd:=A1
  ds:=?_
  npo:=out B.hp B.npo
  ndo:=out B.hdx B.ndo
  ndn:=out B.hd B.ndn
  l4:=by rw[bE];exact l4
  in1:=fun x hx=>?_ }⟩
 ·rw[bD,bD,bD,not_or,not_or,not_or] at nb
  rw[z0b nb.2.2.1]
  exact sb _ _ e nb.2.2.2
 ·exact g8 (D0.but s2 nt2 (D0.but sb ntf B.ds)) ⟨t,rfl,s2 _ _ ht fun m=>nt2 t m _ ht⟩
 ·rcases c8.mp hx with hx|hx
  ·have:=B.in1 x hx
   omega
  ·rw[bC.mp hx]
   exact hd1
theorem z6X{A2 A0:Addr}(M:Bl mg)(T:E4 K mg A2)(F:Fun K "write" "Book.write" z2Y f fd)(A8:D5 P w K mg base 3 A0 "refuse_writing" z0p (z26 K (OfD K A0)))
  (D1:D5 P w K mg base 4 A0 "write" z1G (z4B K (OfD K A0))) (A5:D5 P w K mg base 1 A2 "refuse_further_deed" z0j (z24 (BkD K A2 A0))) :
  B0 P w K mg base CX0 5 f fd z2n (z4y K (BkD K A2 A0)):=by
 have nd:=z2y.nd
 refine F.ok z2y (fun vs H Q E h=>?_) (fun cdv A outer s H vs Q E hr h=>?_)
 ·obtain⟨p,v,fp,zs,r,k,rows,log,pr,rfl,_⟩:=h
  rfl
 obtain⟨p,v,fp,zs,r,k,rows,log,pr,rfl,bk,⟨a,vs,rfl,ha,na,hpr⟩,gr,l12,l60,l4,q⟩:=h
 refine⟨_,(z03 (z0n (z1v A8 (rm hr) (z0q (pv 0) rfl) (z00 (pv 1) z01))) (z03 (z0n (z31 A5 (rm hr) (pv 0))) (z03 (z0e (i:=2) nd rfl (Or.inl rfl) (z1v D1 (rm hr) (z0q (pv 0) rfl) (z00 (pv 1) z01))) (z03 (z0n (z2h bM bP bQ z0B (z0q (pv 0) rfl) (z00 (z1j (z00 (z2i rfl M.WRITE) (z00 (pv 2) z01))) z01))) (z05 (z0h (pv 2))))))),?_⟩
 obtain⟨dx,po,pd,fs,fo,us,rfl,B⟩:=id bk
 have no:∀{b:Addr},b∉p::dx::pd::fo->b∉fo:=fun n m=>n (by simp[m])
 have hand:Paired (z68 K H fo) vs pr:=L2.Paired.T9 hpr fun u x ⟨b,e,q,n⟩=>⟨b,e,q,no n⟩
 obtain⟨dxo,pno,plo,fso,xso,efo,h1,h2,h3,h4,l1,l2,l3,lmo,_⟩:=id B.of
 refine⟨_,rfl,p,A2,dx,fs,_,rfl,B.hp,T.cl,T.n_office,B.lo,po,dxo,fso,rfl,h1,lmo _ (by simp),_,rfl,po,a,fo,zs,r,rows,vs,pr,rfl,B.of,ha,z1n.of hand,gr,l12,l60,fun H1 s1=>?_⟩
 refine⟨_,rfl,p,dx,fs,rfl,s1 _ _ B.hp,B.lm _ (by simp),p,_,zs,r,k,rows,log,rfl,S3.same bk s1,l4,?_⟩
 have ha1:z9Q K H1 fo (.ref a) pr:=⟨a,vs,rfl,SqP.keep s1 ha,no na,L2.Paired.T9 hand fun u x ⟨b,e,q,n⟩=>⟨b,e,q.imp (fun z=>s1.seq z) fun z=>z4N s1 z,n⟩⟩
 refine⟨_,rfl,p,A2,dx,fs,_,rfl,s1 _ _ B.hp,T.cl,T.n_office,B.lo,po,dxo,fso,rfl,s1 _ _ h1,lmo _ (by simp),_,rfl,po,.ref a,fo,zs,r,rows,pr,rfl,R4.same B.of s1,ha1,gr,l12,l60,fun fo' H2 ff sb of2=>?_⟩
 have sb2:z0s fo H H2:=fun b o e n=>sb _ _ (s1 _ _ e) n
 have lu:=z0G B.ds
 refine⟨_,rfl,p,A2,dx,fs,_,rfl,sb2 _ _ B.hp B.npo,T.cl,T.n_done,B.ld,.inl ⟨rfl,_,SqL.of (sb2 _ _ B.hd B.ndn)⟩,?_⟩
 refine⟨_,rfl,(by show 2≤sizeLine;decide),fun t ht=>⟨pd,us,_,rfl,rfl,z02 ht _ _ _ (sb2 _ _ B.hd B.ndn),z0i (by omega),?_⟩⟩
 have s3:=z02 ht (.tup [V.str "write",V.int ((rows.length:Int)+1)])
 have et:upd H2 t (.tup [V.str "write",V.int ((rows.length:Int)+1)]) t=some (.tup (z1P (none,(rows.length:Int)+1))):=A1
 have sb3:z0s fo H (upd H2 t (.tup [V.str "write",V.int ((rows.length:Int)+1)])):=fun b o e n=>s3 _ _ (sb2 _ _ e n)
 have of3:=R4.same of2 s3
 obtain⟨g1,g2⟩:=y3b B sb3 of3 (fun b m=>(ff b m).imp id fun z=>s1.free z) et (by rw[bE];omega) ⟨by show(1:Int)≤rows.length+1;omega,by show((rows.length:Int)+1)≤_;rw[bE];exact g0 _⟩ l4
 refine⟨_,rfl,q (p::dx::pd::fo') _ (fun b hb=>?_) g1 g2⟩
 rcases bD.mp hb with rfl|hb
 ·exact .inl (by simp)
 rcases bD.mp hb with rfl|hb
 ·exact .inl (by simp)
 rcases bD.mp hb with rfl|hb
 ·exact .inl (by simp)
 exact(ff b hb).imp (fun z=>by simp[z]) fun z=>s1.free z
theorem y1Z(d:B2)(rd n:Int):z2V (z1P d) (z1P (some rd,n))=decide (d=(some rd,n)):=by
 obtain⟨a,m⟩:=d
 cases a with
 | none=>
  rw[decide_eq_false (fun e=>by cases e)]
  rfl
 | some r=>
  show(eqV (.str "deliver") (.str "deliver") && (eqV (.int r) (.int rd) && (eqV (.int m) (.int n) && true)))=_
  rw[z7D rfl,Bool.true_and,Bool.and_true,cZ,bX,decide_eq_true_eq]
  show(r == rd)=true/\(m == n)=true↔_
  rw[beq_iff_eq,beq_iff_eq]
  exact⟨fun h=>by rw[h.1,h.2],fun h=>by cases h;exact⟨rfl,rfl⟩⟩
theorem y2A(log:List B2)(rd n:Int):(!(log.map z1P).any fun ys=>z2V ys (z1P (some rd,n)))=decide (((some rd,n):B2)∉log):=by
 rw[gL,cZ,Bool.not_eq_true',decide_eq_true_eq,gS]
 refine⟨fun h m=>h _ m ?_,fun h d hd e=>h ?_⟩
 ·show z2V _ _=true
  rw[y1Z]
  exact decide_eq_true rfl
 ·have e':z2V (z1P d) (z1P (some rd,n))=true:=e
  rw[y1Z] at e'
  rw[<- of_decide_eq_true e']
  exact hd
theorem z86(d:B2):(z1P d).all z1u=true:=by
 obtain⟨a,m⟩:=d
 cases a<;>rfl
theorem z5q{A2 A0:Addr}(M:Bl mg)(T:E4 K mg A2)(F:Fun K "deliver" "Book.deliver" z2a f fd)(A9:D5 P w K mg base 1 A0 "issue" z0E (z1x (OfD K A0)))
  (A3:D5 P w K mg base 1 A2 "refuse_unknown_reader" z0f (z1q (BkD K A2 A0))) (A5:D5 P w K mg base 1 A2 "refuse_further_deed" z0j (z24 (BkD K A2 A0))) :
  B0 P w K mg base CX0 5 f fd z1R (z39 (BkD K A2 A0)):=by
 have nd:=z1Y.nd
 refine F.ok z1Y (fun vs H Q E h=>?_) (fun cdv A outer s H vs Q E hr h=>?_)
 ·obtain⟨p,fp,zs,r,k,rows,log,rd,n,rfl,_⟩:=h
  rfl
 obtain⟨p,fp,zs,r,k,rows,log,rd,n,rfl,bk,r1,r2,n1,n2,l4,q⟩:=h
 have hu:=y2l hr
 refine⟨_,(z03 (z0n (z1v A9 (rm hr) (z0q (pv 0) rfl) (z00 (pv 2) z01))) (z03 (z0n (z1v A3 (rm hr) (pv 0) (z00 (pv 1) z01))) (z03 (z0n (z31 A5 (rm hr) (pv 0))) (z03 (z0e (i:=3) nd rfl (Or.inl rfl) (z1j (z00 (z2i rfl M.DELIVER) (z00 (pv 1) (z00 (pv 2) z01))))) (z03 (z0e (i:=4) nd rfl (Or.inl rfl) (z4S (z8f hu) (pv 3) (z0q (pv 0) rfl) (by with_unfolding_all rfl))) (z03 (z0n (z2h bM bP bQ z0B (z0q (pv 0) rfl) (z00 (pv 3) z01))) (z05 (z0h (pv 4))))))))),?_⟩
 obtain⟨dx,po,pd,fs,fo,us,rfl,B⟩:=id bk
 obtain⟨dxo,pno,plo,fso,xso,efo,h1,h2,h3,h4,l1,l2,l3,lmo,_⟩:=id B.of
 refine⟨_,rfl,p,A2,dx,fs,_,rfl,B.hp,T.cl,T.n_office,B.lo,po,dxo,fso,rfl,h1,lmo _ (by simp),_,rfl,po,fo,zs,r,rows,n,rfl,B.of,n1,n2,fun v H1 s1 _=>?_⟩
 have bk1:=S3.same bk s1
 refine⟨_,rfl,p,dx,fs,rfl,s1 _ _ B.hp,B.lm _ (by simp),_,rfl,p,_,zs,r,k,rows,log,rd,rfl,bk1,r1,r2,?_⟩
 refine⟨_,rfl,p,dx,fs,rfl,s1 _ _ B.hp,B.lm _ (by simp),p,_,zs,r,k,rows,log,rfl,bk1,l4,?_⟩
 refine⟨_,rfl,_,rfl,(by show 3≤sizeLine;decide),fun t ht=>?_⟩
 have s2:=s1.trans (z02 ht (.tup [V.str "deliver",V.int rd,V.int n]))
 have et:upd H1 t (.tup [V.str "deliver",V.int rd,V.int n]) t=some (.tup (z1P (some rd,n))):=A1
 generalize upd H1 t (.tup [V.str "deliver",V.int rd,V.int n])=H2 at s2 et
 have lu:=z0G B.ds
 have prs:Paired (fun u ys=>∃b,u=.ref b/\SqT K H2 b ys/\ys.all z1u=true) us (log.map z1P):=by
  have go:∀{us:List V}{log:List B2},Paired (z15 H) us log->Paired (fun u ys=>∃b,u=.ref b/\SqT K H2 b ys/\ys.all z1u=true) us (log.map z1P):=by
   intro us log h
   induction h with
   | nil=>exact .nil
   | cons h t ih=>
    obtain⟨b,e,q⟩:=h
    exact .cons ⟨b,e,SqT.of (s2 _ _ q),z86 _⟩ ih
  exact go B.ds
 refine⟨_,rfl,_,rfl,p,A2,dx,fs,_,rfl,s2 _ _ B.hp,T.cl,T.n_done,B.ld,t,pd,_,us,_,rfl,rfl,SqT.of et,z86 _,SqL.of (s2 _ _ B.hd),prs,?_⟩
 rw[y2A]
 refine⟨_,rfl,p,A2,dx,fs,_,rfl,s2 _ _ B.hp,T.cl,T.n_done,B.ld,.inl ⟨rfl,_,SqL.of (s2 _ _ B.hd)⟩,_,rfl,pd,us,_,rfl,rfl,s2 _ _ B.hd,z0i (by omega),?_⟩
 obtain⟨g1,g2⟩:=y3b B (.of s2) (R4.same B.of s2) (fun b m=>.inl m) et (bF _) ⟨n1,n2⟩ l4
 exact⟨_,rfl,q _ g1 g2⟩
def y3Q:B2->DV
 | (none,n)=>.tup [.str "write",.int n]
 | (some r,n)=>.tup [.str "deliver",.int r,.int n]
theorem z7W{H:Hp}{u:V}{d:B2}(h:z15 H u d):B5 H (y3Q d) u:=by
 obtain⟨b,rfl,e⟩:=h
 obtain⟨a,n⟩:=d
 cases a with
 | none=>exact z0J e (by show 2≤1000000;decide) (.cons (z0A _) (.cons (z1N _) .nil))
 | some r=>exact z0J e (by show 3≤1000000;decide) (.cons (z0A _) (.cons (z1N _) (.cons (z1N _) .nil)))
theorem z8o{H:Hp}:∀{us:List V}{log:List B2},Paired (z15 H) us log->∀(i:Nat) (d:B2),log[i]? = some d->∃u,us[i]? = some u/\z15 H u d:=by
 intro us log h
 induction h with
 | nil=>intro i d e;simp at e
 | cons h t ih=>
  intro i d e
  cases i with
  | zero=>
   simp at e
   subst e
   exact⟨_,rfl,h⟩
  | succ i=>
   obtain⟨u,q1,q2⟩:=ih i d (by simpa using e)
   exact⟨u,by simpa using q1,q2⟩
def z71(Bk:BkP):Sp:=fun vs H Q _=>∃(p:Addr) (fp:List Addr) (zs:List Str) (r k:Int) (rows:List Row) (log:List B2),vs=[.ref p]/\Bk H p fp zs r k rows log/\∀H',A4 H H'->Q (.int rows.length) H'
def z6p(Bk:BkP):Sp:=fun vs H Q _=>∃(p:Addr) (fp:List Addr) (zs:List Str) (r k:Int) (rows:List Row) (log:List B2) (n:Int),vs=[.ref p,.int n]/\Bk H p fp zs r k rows log/\1≤n/\n≤rows.length/\
 ∀(v:V) (H':Hp),A4 H H'->B5 H' (z1K rows n r) v->Q v H'
def z5I(Bk:BkP):Sp:=fun vs H Q _=>∃(p:Addr) (fp:List Addr) (zs:List Str) (r k:Int) (rows:List Row) (log:List B2) (i:Nat) (d:B2),vs=[.ref p,.int ((i:Int)+1)]/\Bk H p fp zs r k rows log/\log[i]? = some d/\
 ∀v,B5 H (y3Q d) v->Q v H
theorem z9h{A2 A0:Addr}(M:Bl mg)(T:E4 K mg A2)(F:Fun K "latest" "Book.latest" z3H f fd)(K6:D5 P w K mg base 1 A0 "latest" z2M (z6Y (OfD K A0))):B0 P w K mg base CX0 2 f fd z3q (z71 (BkD K A2 A0)):=by
 have nd:=z4r.nd
 refine F.ok z4r (fun vs H Q E h=>?_) (fun cdv A outer s H vs Q E hr h=>?_)
 ·obtain⟨p,fp,zs,r,k,rows,log,rfl,_⟩:=h
  rfl
 obtain⟨p,fp,zs,r,k,rows,log,rfl,⟨dx,po,pd,fs,fo,us,rfl,B⟩,q⟩:=h
 refine⟨_,(z05 (z0h (z31 K6 (rm hr) (z0q (pv 0) rfl)))),?_⟩
 obtain⟨dxo,pno,plo,fso,xso,efo,h1,h2,h3,h4,l1,l2,l3,lmo,_⟩:=id B.of
 exact⟨_,rfl,p,A2,dx,fs,_,rfl,B.hp,T.cl,T.n_office,B.lo,po,dxo,fso,rfl,h1,lmo _ (by simp),po,fo,zs,r,rows,rfl,B.of,q⟩
theorem z6P{A2 A0:Addr}(M:Bl mg)(T:E4 K mg A2)(F:Fun K "issue" "Book.issue" z3a f fd)(A9:D5 P w K mg base 1 A0 "issue" z0E (z1x (OfD K A0))):B0 P w K mg base CX0 2 f fd z3c (z6p (BkD K A2 A0)):=by
 have nd:=z2D.nd
 refine F.ok z2D (fun vs H Q E h=>?_) (fun cdv A outer s H vs Q E hr h=>?_)
 ·obtain⟨p,fp,zs,r,k,rows,log,n,rfl,_⟩:=h
  rfl
 obtain⟨p,fp,zs,r,k,rows,log,n,rfl,⟨dx,po,pd,fs,fo,us,rfl,B⟩,n1,n2,q⟩:=h
 refine⟨_,(z05 (z0h (z1v A9 (rm hr) (z0q (pv 0) rfl) (z00 (pv 1) z01)))),?_⟩
 obtain⟨dxo,pno,plo,fso,xso,efo,h1,h2,h3,h4,l1,l2,l3,lmo,_⟩:=id B.of
 exact⟨_,rfl,p,A2,dx,fs,_,rfl,B.hp,T.cl,T.n_office,B.lo,po,dxo,fso,rfl,h1,lmo _ (by simp),_,rfl,po,fo,zs,r,rows,n,rfl,B.of,n1,n2,q⟩
theorem z7Z{A2 A0:Addr}(M:Bl mg)(T:E4 K mg A2)(F:Fun K "deed" "Book.deed" z3S f fd):B0 P w K mg base CX0 1 f fd z2R (z5I (BkD K A2 A0)):=by
 have nd:=z3f.nd
 refine F.ok z3f (fun vs H Q E h=>?_) (fun cdv A outer s H vs Q E hr h=>?_)
 ·obtain⟨p,fp,zs,r,k,rows,log,i,d,rfl,_⟩:=h
  rfl
 obtain⟨p,fp,zs,r,k,rows,log,i,d,rfl,⟨dx,po,pd,fs,fo,us,rfl,B⟩,ed,q⟩:=h
 refine⟨_,(z03 (z0v (PW.pt (z2G (z09 z3o (pv 1) z04 (z0d _)) (z1E (z09 z2g (pv 1) (z08 z06 rfl M.len bH (z00 (z0q (pv 0) rfl) z01)) (z0d _))))) (z05 z1i) z0c) (z05 (z0h (z0P z0D (z0q (pv 0) rfl) (z0a z3G (pv 1) z04) (fun _ _=>rfl))))),?_⟩
 have lu:=z0G B.ds
 have hi:=(cJ.mp ed).1
 obtain⟨u,eu,du⟩:=z8o B.ds i d ed
 have av:atI us ((i:Int)+1-1)=some u:=by
  rw[Int.add_sub_cancel]
  exact z1p eu
 refine⟨_,rfl,_,_,rfl,rfl,_,rfl,B3 (fun q=>absurd (z0x q) (by omega)) fun _=>?_⟩
 refine⟨_,rfl,_,rfl,p,A2,dx,fs,_,rfl,B.hp,T.cl,T.n_done,B.ld,pd,us,rfl,.inl (SqL.of B.hd),_,_,rfl,rfl,_,rfl,B3 (fun q=>absurd (z0x q) (by omega)) fun _=>?_⟩
 exact⟨_,rfl,p,A2,dx,fs,_,rfl,B.hp,T.cl,T.n_done,B.ld,_,rfl,_,_,rfl,rfl,pd,us,_,u,rfl,rfl,SqL.of B.hd,av,q u (z7W du)⟩
theorem y1z{xs:List V}{k:Nat}(h:k≤xs.length):Q3 xs none (some (k:Int))=xs.take k:=by
 unfold Q3
 have e1:HT.sIx xs.length 0 none=0:=rfl
 have e2:HT.sIx xs.length xs.length (some (k:Int))=k:=by
  rw[HT.y1R,gH h]
 rw[e1,e2,fT,Nat.sub_zero]
theorem z5G{H:Hp}:∀{us:List V}{log:List B2},Paired (z15 H) us log->∀(c i:Nat) (u:V),(us.take c)[i]? = some u->∃d,(log.take c)[i]? = some d/\z15 H u d:=by
 intro us log h
 induction h with
 | nil=>intro c i u e;rw[List.take_nil] at e;simp at e
 | cons h t ih=>
  intro c i u e
  cases c with
  | zero=>simp at e
  | succ c=>
   rw[fM] at e ⊢
   cases i with
   | zero=>
    simp at e
    subst e
    exact⟨_,rfl,h⟩
   | succ i=>
    obtain⟨d,q1,q2⟩:=ih c i u (by simpa using e)
    exact⟨d,by simpa using q1,q2⟩
theorem y2a(d:B2)(rd:Int):z2V ((z1P d).take 2) [.str "deliver",.int rd]=decide (d.1=some rd):=by
 obtain⟨a,m⟩:=d
 cases a with
 | none=>
  rw[decide_eq_false (fun e=>by cases e)]
  rfl
 | some r=>
  show(eqV (.str "deliver") (.str "deliver") && (eqV (.int r) (.int rd) && true))=_
  rw[z7D rfl,Bool.true_and,Bool.and_true,cZ,decide_eq_true_eq]
  show(r == rd)=true↔_
  rw[beq_iff_eq]
  exact⟨fun h=>by rw[h],fun h=>Option.some.inj h⟩
theorem z56{A2 A0 A6 T0:Addr}{items:Array Value}(M:Bl mg)(T:E4 K mg A2)(TO:E7 K mg A0)(F:S1 K "shelf" "Book.shelf" z30 f fd T0 items)(A9:D5 P w K mg base 1 A0 "issue" z0E (z1x (OfD K A0)))
  (A3:D5 P w K mg base 1 A2 "refuse_unknown_reader" z0f (z1q (BkD K A2 A0))) (O4:Mkr P w K mg base 3 A6 "Shelf" z1Q (z7B K A6 (ShD K A6)))
  (E6:D5 P w K mg base 1 A6 "put" z3T (y46 (ShD K A6))):B0 P w K mg base CX0 6 f fd z1k (z2l (BkD K A2 A0) (ShD K A6)):=by
 have nd:=z2x.nd
 refine F.ok z2x (fun vs H Q E h=>?_) (fun cdv A outer s H vs Q E hr h=>?_)
 ·obtain⟨p,fp,zs,r,k,rows,log,rd,o,rfl,_⟩:=h
  rfl
 obtain⟨p,fp,zs,r,k,rows,log,rd,o,rfl,bk,r1,r2,od,q⟩:=h
 refine⟨_,(z03 (z0e (i:=3) nd rfl (Or.inl rfl) (z4v (z85 (z8z (pv 2))) (z08 z06 rfl M.len bH (z00 (z0q (pv 0) rfl) z01)) (pv 2))) (z03 (z0v (PW.pt (z2G (z09 z3o (pv 3) z04 (z0d _)) (z1E (z09 z2g (pv 3) (z08 z06 rfl M.len bH (z00 (z0q (pv 0) rfl) z01)) (z0d _))))) (z05 z1i) z0c) (z03 (z0n (z1v A3 (rm hr) (pv 0) (z00 (pv 1) z01))) (z03 (z0e (i:=4) nd rfl (Or.inl rfl) (z9o O4 (rm hr) rfl (z00 (z0q (z0q (pv 0) rfl) rfl) (z00 (z0q (z0q (pv 0) rfl) rfl) z01)))) (z03 (z1g cB rfl (z16 (z1O z63 (z0q (pv 0) rfl) z2m (z2t (pv 3)))) (z0o (i:=5) nd rfl (Or.inl rfl)) (z05 (z0v (z09 (y3g hr.Y2) (z1O y1f (pv 5) z2m (z2t z04)) (z1j (z00 (z2i rfl M.DELIVER) (z00 (pv 1) z01))) (z0d _)) (z05 (z0n (z1v E6 (rm hr) (pv 4) (z00 (z1v A9 (rm hr) (z0q (pv 0) rfl) (z00 (z0P z1F (pv 5) z04 (fun _ _=>rfl)) z01)) z01)))) z0c))) (z05 (z0h (pv 4)))))))),?_⟩
 obtain⟨dx,po,pd,fs,fo,us,rfl,B⟩:=id bk
 obtain⟨dxo,pno,plo,fso,xso,efo,h1,h2,h3,h4,l1,l2,l3,lmo,_,_,_,g,r0,r10⟩:=id B.of
 have lu:=z0G B.ds
 have cle:o.getD log.length≤log.length:=by
  cases o with
  | none=>exact bF _
  | some d=>exact od d rfl
 have beh:∀(Qk:VK),Qk (.int (o.getD log.length:Nat)) H->tIf (tB (tIsN (Y0 2))) (tCB (fun xs H_1 Q=>∃p ys,xs=[V.ref p]/\(SqL K H_1 p ys\/SqT K H_1 p ys)/\Q (V.int ys.length) H_1) (y3V (tFld K (Y0 0) "done") X0)) (Y0 2) (z4a ["self","reader","deed","behind","told","past"] [.ref p,.int rd,w0E o]) H Qk:=fun Qk hq=>by
  cases o with
  | none=>
   refine⟨_,rfl,_,rfl,J8 ⟨_,rfl,p,A2,dx,fs,_,rfl,B.hp,T.cl,T.n_done,B.ld,pd,us,rfl,.inl (SqL.of B.hd),?_⟩⟩
   rw[lu]
   exact hq
  | some d=>exact⟨_,rfl,_,rfl,C2 ⟨_,rfl,hq⟩⟩
 refine beh _ ?_
 generalize o.getD log.length=c at cle q
 clear beh
 refine⟨_,rfl,_,_,rfl,rfl,_,rfl,B3 (fun q=>absurd (z0x q) (by omega)) fun _=>⟨_,rfl,_,rfl,p,A2,dx,fs,_,rfl,B.hp,T.cl,T.n_done,B.ld,pd,us,rfl,.inl (SqL.of B.hd),_,_,rfl,rfl,_,rfl,B3 (fun q=>absurd (z0x q) (by omega)) fun _=>?_⟩⟩
 refine⟨_,rfl,p,dx,fs,rfl,B.hp,B.lm _ (by simp),_,rfl,p,_,zs,r,k,rows,log,rd,rfl,bk,r1,r2,?_⟩
 refine⟨_,rfl,p,A2,dx,fs,_,rfl,B.hp,T.cl,T.n_office,B.lo,po,A0,dxo,fso,_,rfl,h1,TO.cl,TO.n_names,l1,_,rfl,p,A2,dx,fs,_,rfl,B.hp,T.cl,T.n_office,B.lo,po,A0,dxo,fso,_,rfl,h1,TO.cl,TO.n_reach,l2,fun x dxs nx ndx ne=>?_⟩
 have m1:=z6k (C:=A6) (A4.refl H) nx ndx
 refine⟨x,dxs,pno,zs,r,rfl,A1,ne,by rw[z0b ne,A1],.inr (m1 _ _ h3),g,r0,r10,fun fq H1 ff sb sh=>⟨rfl,?_⟩⟩
 have s1:A4 H H1:=z6h sb m1 nx
 have f1:∀b∈fq,H b=none:=fun b hb=>z4T m1 nx ndx (ff b hb)
 have sh1:ShD K A6 H1 x fq zs r (fun n=>z1K rows n r) []:=sh _
 refine⟨_,rfl,p,A2,dx,fs,_,rfl,s1 _ _ B.hp,T.cl,T.n_done,B.ld,_,rfl,_,rfl,pd,_,rfl,SqL.of (s1 _ _ B.hd),fun lq hlq=>?_⟩
 rw[y1z (by omega)]
 have s2:=s1.trans (z02 hlq (.lst (us.take c)))
 have e2:upd H1 lq (.lst (us.take c)) lq=some (.lst (us.take c)):=A1
 have sh2:=U5.same sh1 (z02 hlq (.lst (us.take c)))
 have f2:lq∉fq:=fun m=>by
  obtain⟨o,e,_⟩:=U5.own sh1 lq m
  rw[hlq] at e
  cases e
 generalize upd H1 lq (.lst (us.take c))=H2 at s2 e2 sh2
 have nt2:z45 H2 fq:=U5.P1 sh2
 have out:∀{b:Addr}{o:HO},H b=some o->b∉fq:=fun e m=>by rw[f1 _ m] at e;cases e
 have lt:(us.take c).length=c:=by rw[bO];omega
 refine⟨lq,rfl,⟨_,SqL.of e2⟩,z1h (K:=K) (a:=lq) (xs:=us.take c) (fun i σ H'=>∃(fq':List Addr) (o5:Option V),z0s fq H2 H'/\ShD K A6 H' x fq' zs r (fun n=>z1K rows n r) (K1 ((log.take c).take i) rd)/\(∀b∈fq',b∈fq\/H2 b=none)/\
   σ=[some (.ref p),some (.int rd),some (w0E o),some (.int c),some (.ref x),o5]) ⟨fq,none,.of (A4.refl _),sh2,fun b m=>.inl m,rfl⟩ (fun i σ H' _ ⟨_,_,bt,_⟩=>SqL.of (bt _ _ e2 f2)) ?_ ?_⟩
 ·rintro i u σ H' hi ⟨fq',o5,bt,shx,ffx,rfl⟩
  obtain⟨d,ed,b,rfl,hb⟩:=z5G B.ds c i u hi
  have sk:∀{b:Addr}{o:HO},H b=some o->H' b=some o:=fun e=>bt _ _ (s2 _ _ e) (out e)
  have hin:=B.in1 d (d9 (bZ ed))
  have l2d:2≤(z1P d).length:=by
   obtain⟨a,m⟩:=d
   cases a
   ·show 2≤2;decide
   ·show 2≤3;decide
  have cut:∀(Qk:VK),(∀(t1:Addr) (G:Hp),A4 H' G->G t1=some (.tup ((z1P d).take 2))->Qk (.ref t1) G)->rSlA K (.ref b) none (some 2) H' Qk:=fun Qk hq=>by
   refine⟨b,_,rfl,SqT.of (sk hb),fun hw=>hq b H' (A4.refl _) ?_,fun _ t1 ht1=>hq t1 _ (z02 ht1 _) ?_⟩
   ·rw[sk hb,cW]
    have:=hw.2
    have e:HT.sIx (z1P d).length (z1P d).length (some (2:Int))=min 2 (z1P d).length:=HT.y1R _ _ 2
    omega
   ·rw[A1]
    exact congrArg (fun z=>some (HO.tup z)) (y1z (k:=2) l2d)
  refine⟨_,rfl,_,rfl,cut _ fun t1 G sG e1'=>⟨_,rfl,(by show 2≤sizeLine;decide),fun t2 ht2=>?_⟩⟩
  have s3:=sG.trans (z02 ht2 (.tup [V.str "deliver",V.int rd]))
  have e3:upd G t2 (.tup [V.str "deliver",V.int rd]) t1=some (.tup ((z1P d).take 2)):=z02 ht2 _ _ _ e1'
  have e4:upd G t2 (.tup [V.str "deliver",V.int rd]) t2=some (.tup [V.str "deliver",V.int rd]):=A1
  generalize upd G t2 (.tup [V.str "deliver",V.int rd])=H3 at s3 e3 e4
  have fl:((z1P d).take 2).all z1u=true:=by
   obtain⟨a,m⟩:=d
   cases a<;>rfl
  refine⟨t1,t2,_,_,rfl,rfl,SqT.of e3,SqT.of e4,fl,rfl,_,rfl,?_⟩
  rw[y2a,z0w ed,z8A]
  have sh3:=U5.same shx s3
  refine B3 (fun cc=>?_) (fun cc=>?_)
  ·have c':=z0x cc
   rw[if_pos c']
   obtain⟨a,n⟩:=d
   have ea:a=some rd:=c'
   subst ea
   obtain⟨d1,g1,z1,w1⟩:=U5.ins sh3
   refine⟨_,rfl,x,d1,g1,rfl,z1,w1 _ (by simp),_,rfl,p,A2,dx,fs,_,rfl,s3 _ _ (sk B.hp),T.cl,T.n_office,B.lo,po,dxo,fso,rfl,s3 _ _ (sk h1),lmo _ (by simp),_,rfl,b,_,2,_,rfl,rfl,SqT.of (s3 _ _ (sk hb)),rfl,po,fo,zs,r,rows,n,rfl,?_,hin.1,hin.2,fun v H4 s4 tv=>?_⟩
   ·exact R4.same (R4.keep (R4.same B.of s2) bt (fun b m z=>by
     obtain⟨o,e,_⟩:=R4.own B.of b z
     exact out e m) nt2) s3
   have n60:rows.length≤60:=by
    obtain⟨_,_,_,_,_,_,_,_,_,_,_,_,_,_,_,n60,_⟩:=B.of
    exact n60
   refine⟨x,v,fq',zs,r,_,_,n,_,rfl,U5.same sh3 s4,tv,rfl,hin.1,by have:=hin.2;have:n≤rows.length:=this;omega,fun fq2 H5 ff5 sb5 sh5=>?_⟩
   have g4:=s3.trans s4
   exact⟨fq2,_,(fun b o e nb=>sb5 b o (g4 _ _ (bt b o e nb)) fun m=>(ffx b m).elim nb fun z=>by rw[e] at z;cases z),sh5,y0D bt ffx g4 ff5,rfl⟩
  ·have c':=z8F cc
   rw[if_neg c']
   exact⟨fq',_,fun b o e nb=>s3 _ _ (bt b o e nb),sh3,ffx,rfl⟩
 ·rintro σ H' ⟨fq',o5,bt,shx,ffx,rfl⟩
  rw[lt,List.take_take,Nat.min_self] at shx
  exact⟨_,rfl,q x fq' H' (fun b m=>(ffx b m).elim (f1 b) fun z=>s2.free z) (fun b o e=>bt _ _ (s2 _ _ e) (out e)) shx⟩
theorem z4C(a b:Str):(a++b).length=a.length+b.length:=by
 rw[<- z0N,z5c,bE,z0N,z0N]
def y3n(K:PySem.W.Frag)(C:Addr):Sp:=fun vs H _ E=>∃(p:Addr) (zs:List Str) (z:Str),vs=[.ref p,.str z]/\SqN K H p zs/\z∉zs/\z.length≤1000/\Low z/\E (.ref C) none H
theorem y4p{CUnknownName:Addr}(M:Bl mg)(F:Fun K "refuse_unknown_name" "refuse_unknown_name" z19 f fd)(E8:Err K mg "UnknownName" CUnknownName):B0 P w K mg base (CX1 P w) 1 f fd z0I (F3 (y0E K) (y3n K CUnknownName)):=by
 have nd:=z14.nd
 refine(y3o M F).toX.or (F.okX z14 (fun vs H Q E h=>?_) (fun cdv A outer s H vs Q E hr h=>?_))
 ·obtain⟨p,zs,z,rfl,_⟩:=h
  rfl
 obtain⟨p,zs,z,rfl,hp,hz,h1000,low,k⟩:=h
 refine⟨_,(z05 (z0v (z09 z2w (pv 1) (pv 0) (by with_unfolding_all rfl)) (z05 (z2c E8 rfl (z00 (z7m (z2L (y3D (pv 1)) (z2L z0l z9T))) z01))) z0c)),?_⟩
 refine⟨_,rfl,_,rfl,p,_,rfl,hp,rfl,z2S zs,_,rfl,?_⟩
 rw[if_pos rfl,z4D,decide_eq_false hz]
 have hl:=z9W low
 have line:=sizeLine_eq
 have l0:Str.empty.length=0:=rfl
 have l1:(" is no name of this bulletin":Str).length=28:=by decide +kernel
 exact J8 ⟨_,rfl,z,rfl,h1000,low,_,rfl,(by rw[z4C];omega),_,rfl,(by rw[z4C,z4C];omega),(by rw[z4C,z4C];omega),(by show 1≤sizeLine;decide),k⟩
def z87(C:Addr):Sp:=fun vs H _ E=>∃v:Int,vs=[.int v]/\(v<0\/1000000<v)/\E (.ref C) none H
theorem y04{CBadValue:Addr}(M:Bl mg)(F:Fun K "refuse_bad_value" "refuse_bad_value" z1t f fd)(K4:Err K mg "BadValue" CBadValue):B0 P w K mg base (CX1 P w) 1 f fd z0U (F3 z4z (z87 CBadValue)):=by
 have nd:=z1f.nd
 refine(z8k M F).toX.or (F.okX z1f (fun vs H Q E h=>?_) (fun cdv A outer s H vs Q E hr h=>?_))
 ·obtain⟨r,rfl,_⟩:=h
  rfl
 obtain⟨r,rfl,hr2,k⟩:=h
 refine⟨_,(z05 (z0v (PW.pt (z2G (z09 z3o (pv 0) z04 (z0d _)) (z1E (z09 z2g (pv 0) (z11 rfl M.MOST_VALUE) (z0d _))))) (z05 (z2c K4 rfl (z00 (z7m (z2L z0l (z2L (z93 (z11 rfl M.MOST_VALUE)) z9T))) z01))) z0c)),?_⟩
 refine⟨_,rfl,_,_,rfl,rfl,_,rfl,B3 (fun q=>?_) fun n1=>?_⟩
 ·exact⟨_,rfl,(by decide +kernel),_,rfl,by decide,_,rfl,(by decide +kernel),(by decide +kernel),(by show 1≤sizeLine;decide),k⟩
 refine⟨_,rfl,_,_,rfl,rfl,_,rfl,B3 (fun q=>?_) fun n2=>?_⟩
 ·exact⟨_,rfl,(by decide +kernel),_,rfl,by decide,_,rfl,(by decide +kernel),(by decide +kernel),(by show 1≤sizeLine;decide),k⟩
 ·exfalso
  have e1:¬r<0:=fun z=>n1 (decide_eq_true z)
  have e2:¬(1000000:Int)<r:=fun z=>n2 (decide_eq_true z)
  omega
theorem z9M:∀r:List Str,(K2 r.reverse).length≤r.length/\((K2 r.reverse).length=r.length->r.Nodup)
 | []=>⟨bF _,fun _=>List.nodup_nil⟩
 | k::r=>by
  obtain⟨h1,h2⟩:=z9M r
  rw[List.reverse_cons,z8v]
  split
  ·refine⟨by rw[bT];omega,fun e=>?_⟩
   rw[bT] at e
   omega
  ·rename_i nm
   rw[bE,bT]
   refine⟨hG h1,fun e=>d6.mpr ⟨fun hk=>nm (z7K.mpr (fJ.mpr hk)),h2 (Nat.succ.inj e)⟩⟩
theorem y4e{zs:List Str}(h:(K2 zs).length=zs.length):zs.Nodup:=by
 have:=(z9M zs.reverse).2
 rw[fK,fO] at this
 exact(fG.mp (this h)).imp cT
def y3r(CU CT CV:Addr)(zs:List Str)(pr:Row)(C:Addr):Prop:=((∃p∈pr,p.1∉zs)/\C=CU)\/((∀p∈pr,p.1∈zs)/\¬(pr.map Prod.fst).Nodup/\C=CT)\/((∀p∈pr,p.1∈zs)/\(pr.map Prod.fst).Nodup/\(∃p∈pr,p.2<0\/1000000<p.2)/\C=CV)
def z78(K:PySem.W.Frag)(CU CT CV:Addr):Sp:=fun vs H _ E=>∃(pn a:Addr) (zs:List Str) (us:List V) (pr:Row) (C:Addr),vs=[.ref pn,.ref a]/\SqN K H pn zs/\SqP K H a us/\Paired (z1n K H) us pr/\pr.length≤100/\(∀p∈pr,p.1.length≤1000/\Low p.1)/\y3r CU CT CV zs pr C/\∀H',A4 H H'->E (.ref C) none H'
theorem z8N{CUnknownName CNameTwice CBadValue:Addr}(M:Bl mg)(F:Fun K "refuse_bad_rows" "refuse_bad_rows" z1A f fd)(I0:Err K mg "NameTwice" CNameTwice)(B7:Cal P w K mg base 1 "refuse_unknown_name" z0I (y0E K))(B9:Cal P w K mg base 1 "refuse_bad_value" z0U z4z)
  (E5:U9 P w K mg base 1 "refuse_unknown_name" z0I (F3 (y0E K) (y3n K CUnknownName))) (F2:U9 P w K mg base 1 "refuse_bad_value" z0U (F3 z4z (z87 CBadValue))):B0 P w K mg base (CX1 P w) 2 f fd z13 (F3 (z3s K) (z78 K CUnknownName CNameTwice CBadValue)):=by
 have nd:=z1s.nd
 refine(z6Z M F B7 B9).toX.or (F.okX z1s (fun vs H Q E h=>?_) (fun cdv A outer s H vs Q E hr h=>?_))
 ·obtain⟨pn,a,zs,us,pr,C,rfl,_⟩:=h
  rfl
 obtain⟨pn,a,zs,us,pr,C,rfl,hn,ha,hp,l100,hlow,rf,k⟩:=h
 refine⟨_,(z03 (z55 (i:=2) ["name","value"] [] [] rfl nd rfl (Or.inl rfl) (z0H rfl (by decide +kernel) rfl (by decide +kernel) rfl rfl) (z8i (pv 1)) (fun _ _ _ _ _=>(z7A (K:=K) (n:=2) rfl rfl (z1Z (z0o (i:=0) (show((["name","value"]:List PySem.Str)++([]:List PySem.Str)).Nodup from by decide +kernel) rfl (Or.inl rfl)) (z1Z (z0o (i:=1) (show((["name","value"]:List PySem.Str)++([]:List PySem.Str)).Nodup from by decide +kernel) rfl (Or.inl rfl)) z61)))) (y10 (z3R (z0R (by decide)) z0t (z3R (z0R (by decide)) z0t z9e z2d) (z1L z0t z2d))) (z9Z (z1L z0t (z1L z0t z2d))) (fun _ _ _ _ _=>z2q) (fun _ _ _ _ _=>(pv 0))) (z03 (z8I (z16 (pv 2)) (z0o (i:=3) nd rfl (Or.inl rfl)) (z05 (z0n (z96 z9E E5 (rm hr) rfl (z00 (pv 0) (z00 (pv 3) z01)))))) (z03 (z0v (z09 z7O (z08 z32 rfl M.len bH (z00 (z0z (z2H rfl) rfl M.set gG (z00 (pv 2) z01)) z01)) (z08 z06 rfl M.len bH (z00 (pv 2) z01)) (z0d _)) (z05 (z2c I0 rfl (z00 z0l z01))) z0c) (z05 (z8I (z8i (pv 1)) (z7A (K:=K) (n:=2) rfl rfl (z1Z (z0o (i:=3) nd rfl (Or.inl rfl)) (z1Z (z0o (i:=4) nd rfl (Or.inl rfl)) z61))) (z05 (z0n (z96 z9E F2 (rm hr) rfl (z00 (pv 4) z01))))))))),?_⟩
 obtain⟨t,ht⟩:=SqS.of (SqP.or ha)
 have lu:us.length=pr.length:=hp.length
 refine⟨_,rfl,a,t,rfl,⟨_,ht⟩,?_⟩
 refine z7p (xs:=us) (fun i ys H'=>H'=H/\ys=((pr.take i).map Prod.fst).map V.str) ⟨rfl,rfl⟩ (fun i ys H' hi hq=>?_) (fun i x ys H' hx hq=>?_) (fun ys H' hq=>?_)
 ·obtain⟨rfl,rfl⟩:=hq
  refine⟨ht,z0i ?_⟩
  rw[bA,bA,bO]
  omega
 ·obtain⟨rfl,rfl⟩:=hq
  obtain⟨p,ep,b,rfl,hb⟩:=z1n.at hp i x hx
  refine⟨b,_,rfl,hb,rfl,_,_,rfl,_,_,rfl,rfl,?_⟩
  refine⟨_,rfl,rfl,?_⟩
  rw[z0w ep,bR,bR]
  rfl
 obtain⟨rfl,rfl⟩:=hq
 rw[lu,bU]
 intro D hD
 have s1:=z02 hD (.lst ((pr.map Prod.fst).map V.str))
 have e1:upd H' D (.lst ((pr.map Prod.fst).map V.str)) D=some (.lst ((pr.map Prod.fst).map V.str)):=A1
 generalize upd H' D (.lst ((pr.map Prod.fst).map V.str))=H1 at s1 e1
 have hn1:=SqN.keep s1 hn
 have ht1:=SqS.keep s1 ht
 have hp1:=z1n.keep s1 hp
 refine⟨_,rfl,D,rfl,⟨_,SqL.of e1⟩,z1h (K:=K) (a:=D) (xs:=(pr.map Prod.fst).map V.str) (fun i σ H2=>∃o:Option V,H2=H1/\(∀z∈(pr.map Prod.fst).take i,z∈zs)/\σ=[some (.ref pn),some (.ref a),some (.ref D),o,none]) ⟨none,rfl,(fun z hz=>by rw[cX] at hz;cases hz),rfl⟩ (fun i σ H2 _ ⟨_,e,_⟩=>e ▸ SqL.of e1) (fun i x σ H2 hx hq=>?_) (fun σ H2 hq=>?_)⟩
 ·obtain⟨o,rfl,hin,rfl⟩:=hq
  rw[bV] at hx
  obtain⟨z,ez,rfl⟩:=cS.mp hx
  obtain⟨p,hpm,rfl⟩:=cF.mp (bZ ez)
  by_cases hz:p.1∈zs
  ·refine⟨_,rfl,_,rfl,.inl ⟨pn,zs,p.1,rfl,hn1,hz,_,rfl,fun y hy=>?_,rfl⟩⟩
   rw[z0w ez] at hy
   rcases c8.mp hy with hy|hy
   ·exact hin y hy
   ·rw[bC.mp hy]
    exact hz
  ·refine⟨_,rfl,_,rfl,.inr ⟨pn,zs,p.1,rfl,hn1,hz,(hlow p hpm).1,(hlow p hpm).2,?_⟩⟩
   rcases rf with ⟨_,rfl⟩|⟨h,_⟩|⟨h,_⟩
   ·exact k _ s1
   ·exact absurd (h p hpm) hz
   ·exact absurd (h p hpm) hz
 obtain⟨o,rfl,hin,rfl⟩:=hq
 rw[bA,bU] at hin
 have lf:(pr.map Prod.fst).length=pr.length:=bA _
 have rf2:((¬(pr.map Prod.fst).Nodup/\C=CNameTwice)\/((pr.map Prod.fst).Nodup/\(∃p∈pr,p.2<0\/1000000<p.2)/\C=CBadValue)):=by
  rcases rf with ⟨⟨p,hp,hz⟩,_⟩|⟨_,h,e⟩|⟨_,h,h2,e⟩
  ·exact absurd (hin p.1 (cF.mpr ⟨p,hp,rfl⟩)) hz
  ·exact .inl ⟨h,e⟩
  ·exact .inr ⟨h,h2,e⟩
 refine⟨_,rfl,D,pr.map Prod.fst,rfl,.inl (SqL.of e1),by omega,fun l hl=>⟨l,pr.map Prod.fst,rfl,A1,by omega,_,rfl,D,_,rfl,.inl (SqL.of (z02 hl _ _ _ e1)),rfl,_,rfl,?_⟩⟩
 have s2:=s1.trans (z02 hl (P5 P w l (pr.map Prod.fst)))
 rcases rf2 with ⟨hnn,rfl⟩|⟨hnd,hbv,rfl⟩
 ·rw[decide_eq_false (fun e=>hnn (y4e (by injection e with e;rw[bA (f:=V.str)] at e;omega)))]
  exact J8 ⟨(by show 1≤sizeLine;decide),k _ s2⟩
 refine y2g (by rw[z9c hnd,bA (f:=V.str)]) ?_
 have ht2:=SqS.keep (z02 hl (P5 P w l (pr.map Prod.fst))) ht1
 have hp2:=z1n.keep (z02 hl (P5 P w l (pr.map Prod.fst))) hp1
 refine⟨_,rfl,a,t,rfl,⟨_,ht2⟩,?_⟩
 refine y1x (xs:=us) (fun i σ H3=>∃o1 o2:Option V,H3=upd H2 l (P5 P w l (pr.map Prod.fst))/\(∀p∈pr.take i,0≤p.2/\p.2≤1000000)/\σ=[some (.ref pn),some (.ref a),some (.ref D),o1,o2]) ⟨_,_,rfl,(fun p hp=>by rw[cX] at hp;cases hp),rfl⟩ (fun i σ H3 _ ⟨_,_,e,_⟩=>e ▸ ht2) (fun i x σ H3 hx hq=>?_) (fun σ H3 hq=>?_)
 ·obtain⟨o1,o2,rfl,hok,rfl⟩:=hq
  obtain⟨p,ep,b,rfl,hb⟩:=z1n.at hp2 i x hx
  refine⟨b,_,rfl,hb,rfl,_,_,rfl,_,_,rfl,rfl,?_⟩
  by_cases hv:0≤p.2/\p.2≤1000000
  ·refine⟨_,rfl,.inl ⟨p.2,rfl,hv.1,hv.2,_,_,rfl,fun y hy=>?_,rfl⟩⟩
   rw[z0w ep] at hy
   rcases c8.mp hy with hy|hy
   ·exact hok y hy
   ·rw[bC.mp hy]
    exact hv
  ·exact⟨_,rfl,.inr ⟨p.2,rfl,by omega,k _ s2⟩⟩
 ·obtain⟨o1,o2,rfl,hok,rfl⟩:=hq
  rw[lu,bU] at hok
  obtain⟨p,hp,hb⟩:=hbv
  have:=hok p hp
  omega
def w0j(CF CU CT CV:Addr)(zs:List Str)(rows:List Row)(pr:Row)(C:Addr):Prop:=(60≤rows.length/\C=CF)\/(rows.length<60/\y3r CU CT CV zs pr C)
def z5K(K:PySem.W.Frag)(Of:OfP)(CF CU CT CV:Addr):Sp:=fun vs H _ E=>∃(p a:Addr) (fp:List Addr) (zs:List Str) (r:Int) (rows:List Row) (us:List V) (pr:Row) (C:Addr),vs=[.ref p,.ref a]/\Of H p fp zs r rows/\SqP K H a us/\Paired (z1n K H) us pr/\pr.length≤100/\(∀p∈pr,p.1.length≤1000/\Low p.1)/\w0j CF CU CT CV zs rows pr C/\∀H',A4 H H'->E (.ref C) none H'
theorem z94{A0 COfficeFull CUnknownName CNameTwice CBadValue:Addr}(M:Bl mg)(T:E7 K mg A0)(F:Fun K "refuse_writing" "Office.refuse_writing" z0X f fd)(F5:Err K mg "OfficeFull" COfficeFull)(C4:Cal P w K mg base 2 "refuse_bad_rows" z13 (z3s K))
  (F8:U9 P w K mg base 2 "refuse_bad_rows" z13 (F3 (z3s K) (z78 K CUnknownName CNameTwice CBadValue))):B0 P w K mg base (CX1 P w) 3 f fd z0p (F3 (z26 K (OfD K A0)) (z5K K (OfD K A0) COfficeFull CUnknownName CNameTwice CBadValue)):=by
 have nd:=z0S.nd
 refine(z7b M T F C4).toX.or (F.okX z0S (fun vs H Q E h=>?_) (fun cdv A outer s H vs Q E hr h=>?_))
 ·obtain⟨p,a,fp,zs,r,rows,us,pr,C,rfl,_⟩:=h
  rfl
 obtain⟨p,a,fp,zs,r,rows,us,pr,C,rfl,of,ha,hp,l100,hlow,rf,k⟩:=h
 refine⟨_,(z03 (z0v (z09 y2z (z08 z06 rfl M.len bH (z00 (z0q (pv 0) rfl) z01)) (z11 rfl M.MOST_NUMBERS) (z0d _)) (z05 (z2c F5 rfl (z00 (z7m (z2L z0l (z2L (z93 (z11 rfl M.MOST_NUMBERS)) (z2L z0l z9T)))) z01))) z0c) (z05 (z0n (z96 z2b F8 (rm hr) rfl (z00 (z0q (pv 0) rfl) (z00 (pv 1) z01)))))),?_⟩
 obtain⟨dx,pn,pl,fs,xs,rfl,h1,h2,h3,h4,l1,l2,l3,lm,tl,r60,w12,g,r0,r1⟩:=of
 have lx:xs.length=rows.length:=by rw[tl.length,bA,z0V]
 refine⟨_,rfl,p,A0,dx,fs,_,rfl,h1,T.cl,T.n_written,l3,pl,xs,rfl,.inl (SqL.of h4),_,_,rfl,rfl,_,rfl,?_⟩
 rcases rf with ⟨h60,rfl⟩|⟨h60,rf⟩
 ·rw[decide_eq_true (by omega)]
  exact J8 ⟨_,rfl,(by decide +kernel),_,rfl,by decide,_,rfl,(by decide +kernel),_,rfl,(by decide +kernel),(by decide +kernel),(by show 1≤sizeLine;decide),k H (A4.refl _)⟩
 ·rw[decide_eq_false (by omega)]
  exact C2 ⟨_,rfl,p,A0,dx,fs,_,rfl,h1,T.cl,T.n_names,l1,_,rfl,.inr ⟨pn,a,zs,us,pr,C,rfl,.inr (SqT.of h3),ha,hp,l100,hlow,rf,k⟩⟩
theorem z95{A0 COfficeFull CUnknownName CNameTwice CBadValue:Addr}(M:Bl mg)(T:E7 K mg A0)(F:Fun K "write" "Office.write" z2e f fd)(A8:D5 P w K mg base 3 A0 "refuse_writing" z0p (z26 K (OfD K A0)))
  (C7:Cal P w K mg base 1 "names_of_rows" z23 z8U) (C6:Cal P w K mg base 1 "rows_in_order" z21 (z66 K)) (J1:Cal P w K mg base 2 "tail_for" z4A (y0L K))
  (B6:F6 P w K mg base 3 A0 "refuse_writing" z0p (F3 (z26 K (OfD K A0)) (z5K K (OfD K A0) COfficeFull CUnknownName CNameTwice CBadValue))) :
  B0 P w K mg base (CX1 P w) 4 f fd z1G (F3 (z4B K (OfD K A0)) (z5K K (OfD K A0) COfficeFull CUnknownName CNameTwice CBadValue)):=by
 have nd:=z22.nd
 refine(z7i M T F A8 C7 C6 J1).toX.or (F.okX z22 (fun vs H Q E h=>?_) (fun cdv A outer s H vs Q E hr h=>?_))
 ·obtain⟨p,a,fp,zs,r,rows,us,pr,C,rfl,_⟩:=h
  rfl
 obtain⟨p,a,fp,zs,r,rows,us,pr,C,rfl,of,ha,hp,l100,hlow,rf,k⟩:=h
 refine⟨_,(z03 (z0n (z1S z2b B6 (rm hr) (pv 0) (z00 (pv 1) z01))) (z03 (z0e (i:=2) nd rfl (Or.inl rfl) (z0a z0O (z08 z06 rfl M.len bH (z00 (z0q (pv 0) rfl) z01)) z04)) (z03 (z55 (i:=3) ["issue"] [] [] rfl nd rfl (Or.inl rfl) (z0H rfl (by decide +kernel) rfl (by decide +kernel) rfl rfl) (z16 (z0q (pv 0) rfl)) (fun _ _ _ _ _=>(z0o (i:=0) (show((["issue"]:List PySem.Str)++([]:List PySem.Str)).Nodup from by decide +kernel) rfl (Or.inl rfl))) (z0R (by decide)) z0t (fun _ _ _ _ _=>z2q) (fun _ _ _ _ _=>(z0r C7 (rm hr) rfl (z00 (z0P (r:=Z1 K) z1F (pv 0) z04 (fun _ _=>rfl)) z01)))) (z03 (z0n (z2h bM bP bQ z0B (z0q (pv 0) rfl) (z00 (z1j (z00 (pv 2) (z00 (z0r C6 (rm hr) rfl (z00 (z0q (pv 0) rfl) (z00 (pv 1) z01))) (z00 (z0r J1 (rm hr) rfl (z00 (pv 3) (z00 (z0q (pv 0) rfl) z01))) z01)))) z01))) (z05 (z0h (pv 2))))))),?_⟩
 obtain⟨dx,pn,pl,fs,xs,rfl,h1,h2,h3,h4,l1,l2,l3,lm,_⟩:=id of
 exact⟨_,rfl,p,dx,fs,rfl,h1,lm _ (by simp),_,rfl,.inr ⟨p,a,_,zs,r,rows,us,pr,C,rfl,of,ha,hp,l100,hlow,rf,k⟩⟩
def z7n(Of:OfP)(CN:Addr):Sp:=fun vs H _ E=>∃(p:Addr) (fp:List Addr) (zs:List Str) (r:Int) (rows:List Row) (n:Int),vs=[.ref p,.int n]/\Of H p fp zs r rows/\(n<1\/(rows.length:Int)<n)/\E (.ref CN) none H
theorem z9g{A0 CNotWritten:Addr}(M:Bl mg)(T:E7 K mg A0)(F:Fun K "issue" "Office.issue" z2f f fd)(F4:Err K mg "NotWritten" CNotWritten):B0 P w K mg base (CX1 P w) 1 f fd z0E (F3 (z1x (OfD K A0)) (z7n (OfD K A0) CNotWritten)):=by
 have nd:=z20.nd
 refine(z6L M T F).toX.or (F.okX z20 (fun vs H Q E h=>?_) (fun cdv A outer s H vs Q E hr h=>?_))
 ·obtain⟨p,fp,zs,r,rows,n,rfl,_⟩:=h
  rfl
 obtain⟨p,fp,zs,r,rows,n,rfl,of,hn,k⟩:=h
 refine⟨_,(z03 (z0v (PW.pt (z2G (z09 z3o (pv 1) z04 (z0d _)) (z1E (z09 z2g (pv 1) (z08 z06 rfl M.len bH (z00 (z0q (pv 0) rfl) z01)) (z0d _))))) (z05 (z2c F4 rfl (z00 z0l z01))) z0c) (z05 (z0h (z0P z0D (z0q (pv 0) rfl) (z0a z3G (pv 1) z04) (fun _ _=>rfl))))),?_⟩
 obtain⟨dx,pn,pl,fs,xs,rfl,h1,h2,h3,h4,l1,l2,l3,lm,tl,r60,w12,g,r0,r1⟩:=of
 have lx:xs.length=rows.length:=by rw[tl.length,bA,z0V]
 refine⟨_,rfl,_,_,rfl,rfl,_,rfl,B3 (fun q=>?_) fun n1=>?_⟩
 ·exact⟨(by show 1≤sizeLine;decide),k⟩
 refine⟨_,rfl,_,rfl,p,A0,dx,fs,_,rfl,h1,T.cl,T.n_written,l3,pl,xs,rfl,.inl (SqL.of h4),_,_,rfl,rfl,_,rfl,B3 (fun q=>?_) fun n2=>?_⟩
 ·exact⟨(by show 1≤sizeLine;decide),k⟩
 ·exfalso
  have e1:¬n<1:=fun z=>n1 (decide_eq_true z)
  have e2:¬(xs.length:Int)<n:=fun z=>n2 (decide_eq_true z)
  omega
def z3w(Bk:BkP)(CR:Addr):Sp:=fun vs H _ E=>∃(p:Addr) (fp:List Addr) (zs:List Str) (r k:Int) (rows:List Row) (log:List B2) (rd:Int),vs=[.ref p,.int rd]/\Bk H p fp zs r k rows log/\(rd<1\/k<rd)/\E (.ref CR) none H
theorem z7l{A2 A0 CUnknownReader:Addr}(M:Bl mg)(T:E4 K mg A2)(F:Fun K "refuse_unknown_reader" "Book.refuse_unknown_reader" z0F f fd)(D8:Err K mg "UnknownReader" CUnknownReader) :
  B0 P w K mg base (CX1 P w) 1 f fd z0f (F3 (z1q (BkD K A2 A0)) (z3w (BkD K A2 A0) CUnknownReader)):=by
 have nd:=z0C.nd
 refine(z5l M T F).toX.or (F.okX z0C (fun vs H Q E h=>?_) (fun cdv A outer s H vs Q E hr h=>?_))
 ·obtain⟨p,fp,zs,r,k,rows,log,rd,rfl,_⟩:=h
  rfl
 obtain⟨p,fp,zs,r,k,rows,log,rd,rfl,⟨dx,po,pd,fs,fo,us,rfl,B⟩,hn,kk⟩:=h
 refine⟨_,(z05 (z0v (PW.pt (z2G (z09 z3o (pv 1) z04 (z0d _)) (z1E (z09 z2g (pv 1) (z0q (pv 0) rfl) (z0d _))))) (z05 (z2c D8 rfl (z00 z0l z01))) z0c)),?_⟩
 refine⟨_,rfl,_,_,rfl,rfl,_,rfl,B3 (fun q=>⟨(by show 1≤sizeLine;decide),kk⟩) fun n1=>?_⟩
 refine⟨_,rfl,_,rfl,p,A2,dx,fs,_,rfl,B.hp,T.cl,T.n_readers,B.lr,_,_,rfl,rfl,_,rfl,B3 (fun q=>⟨(by show 1≤sizeLine;decide),kk⟩) fun n2=>?_⟩
 exfalso
 have e1:¬rd<1:=fun z=>n1 (decide_eq_true z)
 have e2:¬k<rd:=fun z=>n2 (decide_eq_true z)
 omega
def z5b(Bk:BkP)(CB:Addr):Sp:=fun vs H _ E=>∃(p:Addr) (fp:List Addr) (zs:List Str) (r k:Int) (rows:List Row) (log:List B2),vs=[.ref p]/\Bk H p fp zs r k rows log/\400≤log.length/\E (.ref CB) none H
theorem z9f{A2 A0 CBookFull:Addr}(M:Bl mg)(T:E4 K mg A2)(F:Fun K "refuse_further_deed" "Book.refuse_further_deed" z0M f fd)(K3:Err K mg "BookFull" CBookFull) :
  B0 P w K mg base (CX1 P w) 1 f fd z0j (F3 (z24 (BkD K A2 A0)) (z5b (BkD K A2 A0) CBookFull)):=by
 have nd:=z0K.nd
 refine(z6W M T F).toX.or (F.okX z0K (fun vs H Q E h=>?_) (fun cdv A outer s H vs Q E hr h=>?_))
 ·obtain⟨p,fp,zs,r,k,rows,log,rfl,_⟩:=h
  rfl
 obtain⟨p,fp,zs,r,k,rows,log,rfl,⟨dx,po,pd,fs,fo,us,rfl,B⟩,l4,kk⟩:=h
 refine⟨_,(z05 (z0v (z09 y2z (z08 z06 rfl M.len bH (z00 (z0q (pv 0) rfl) z01)) (z11 rfl M.MOST_DEEDS) (z0d _)) (z05 (z2c K3 rfl (z00 (z7m (z2L z0l (z2L (z93 (z11 rfl M.MOST_DEEDS)) (z2L z0l z9T)))) z01))) z0c)),?_⟩
 have lu:=z0G B.ds
 refine⟨_,rfl,p,A2,dx,fs,_,rfl,B.hp,T.cl,T.n_done,B.ld,pd,us,rfl,.inl (SqL.of B.hd),_,_,rfl,rfl,_,rfl,?_⟩
 rw[decide_eq_true (by omega)]
 exact J8 ⟨_,rfl,(by decide +kernel),_,rfl,by decide,_,rfl,(by decide +kernel),_,rfl,(by decide +kernel),(by decide +kernel),(by show 1≤sizeLine;decide),kk⟩
def z4Q(K:PySem.W.Frag)(Bk:BkP)(CF CU CT CV CB:Addr):Sp:=fun vs H _ E=>∃(p a:Addr) (fp:List Addr) (zs:List Str) (r k:Int) (rows:List Row) (log:List B2) (us:List V) (pr:Row) (C:Addr),vs=[.ref p,.ref a]/\Bk H p fp zs r k rows log/\SqP K H a us/\Paired (z1n K H) us pr/\pr.length≤100/\(∀p∈pr,p.1.length≤1000/\Low p.1)/\
 (w0j CF CU CT CV zs rows pr C\/(rows.length<60/\GoodR zs pr/\pr.length≤12/\400≤log.length/\C=CB))/\∀H',A4 H H'->E (.ref C) none H'
theorem z8S{A2 A0 COfficeFull CUnknownName CNameTwice CBadValue CBookFull:Addr}(M:Bl mg)(T:E4 K mg A2)(F:Fun K "write" "Book.write" z2Y f fd)(A8:D5 P w K mg base 3 A0 "refuse_writing" z0p (z26 K (OfD K A0)))
  (D1:D5 P w K mg base 4 A0 "write" z1G (z4B K (OfD K A0))) (A5:D5 P w K mg base 1 A2 "refuse_further_deed" z0j (z24 (BkD K A2 A0)))
  (B6:F6 P w K mg base 3 A0 "refuse_writing" z0p (F3 (z26 K (OfD K A0)) (z5K K (OfD K A0) COfficeFull CUnknownName CNameTwice CBadValue)))
  (B4:F6 P w K mg base 1 A2 "refuse_further_deed" z0j (F3 (z24 (BkD K A2 A0)) (z5b (BkD K A2 A0) CBookFull))) :
  B0 P w K mg base (CX1 P w) 5 f fd z2n (F3 (z4y K (BkD K A2 A0)) (z4Q K (BkD K A2 A0) COfficeFull CUnknownName CNameTwice CBadValue CBookFull)):=by
 have nd:=z2y.nd
 refine(z6X M T F A8 D1 A5).toX.or (F.okX z2y (fun vs H Q E h=>?_) (fun cdv A outer s H vs Q E hr h=>?_))
 ·obtain⟨p,a,fp,zs,r,k,rows,log,us,pr,C,rfl,_⟩:=h
  rfl
 obtain⟨p,a,fp,zs,r,k,rows,log,us,pr,C,rfl,bk,ha,hp,l100,hlow,rf,kk⟩:=h
 refine⟨_,(z03 (z0n (z1S z2b B6 (rm hr) (z0q (pv 0) rfl) (z00 (pv 1) z01))) (z03 (z0n (z8u z2b B4 (rm hr) (pv 0))) (z03 (z0e (i:=2) nd rfl (Or.inl rfl) (z1v D1 (rm hr) (z0q (pv 0) rfl) (z00 (pv 1) z01))) (z03 (z0n (z2h bM bP bQ z0B (z0q (pv 0) rfl) (z00 (z1j (z00 (z2i rfl M.WRITE) (z00 (pv 2) z01))) z01))) (z05 (z0h (pv 2))))))),?_⟩
 obtain⟨dx,po,pd,fs,fo,vs,rfl,B⟩:=id bk
 obtain⟨dxo,pno,plo,fso,xso,efo,h1,h2,h3,h4,l1,l2,l3,lmo,_⟩:=id B.of
 rcases rf with rf|⟨l60,gr,l12,l4,rfl⟩
 ·exact⟨_,rfl,p,A2,dx,fs,_,rfl,B.hp,T.cl,T.n_office,B.lo,po,dxo,fso,rfl,h1,lmo _ (by simp),_,rfl,.inr ⟨po,a,fo,zs,r,rows,us,pr,C,rfl,B.of,ha,hp,l100,hlow,rf,kk⟩⟩
 ·exact⟨_,rfl,p,A2,dx,fs,_,rfl,B.hp,T.cl,T.n_office,B.lo,po,dxo,fso,rfl,h1,lmo _ (by simp),_,rfl,.inl ⟨po,a,fo,zs,r,rows,us,pr,rfl,B.of,ha,hp,gr,l12,l60,fun H1 s1=>⟨_,rfl,p,dx,fs,rfl,s1 _ _ B.hp,B.lm _ (by simp),.inr ⟨p,_,zs,r,k,rows,log,rfl,S3.same bk s1,l4,kk H1 s1⟩⟩⟩⟩
def RefD(CN CR CB:Addr)(rows:List Row)(log:List B2)(k rd n:Int)(C:Addr):Prop:=((n<1\/(rows.length:Int)<n)/\C=CN)\/(1≤n/\n≤rows.length/\(((rd<1\/k<rd)/\C=CR)\/(1≤rd/\rd≤k/\400≤log.length/\C=CB)))
def z3r(Bk:BkP)(CN CR CB:Addr):Sp:=fun vs H _ E=>∃(p:Addr) (fp:List Addr) (zs:List Str) (r k:Int) (rows:List Row) (log:List B2) (rd n:Int) (C:Addr),vs=[.ref p,.int rd,.int n]/\Bk H p fp zs r k rows log/\RefD CN CR CB rows log k rd n C/\∀H',A4 H H'->E (.ref C) none H'
theorem z7z{A2 A0 CNotWritten CUnknownReader CBookFull:Addr}(M:Bl mg)(T:E4 K mg A2)(F:Fun K "deliver" "Book.deliver" z2a f fd)(A9:D5 P w K mg base 1 A0 "issue" z0E (z1x (OfD K A0)))
  (A3:D5 P w K mg base 1 A2 "refuse_unknown_reader" z0f (z1q (BkD K A2 A0))) (A5:D5 P w K mg base 1 A2 "refuse_further_deed" z0j (z24 (BkD K A2 A0)))
  (D7:F6 P w K mg base 1 A0 "issue" z0E (F3 (z1x (OfD K A0)) (z7n (OfD K A0) CNotWritten))) (B1:F6 P w K mg base 1 A2 "refuse_unknown_reader" z0f (F3 (z1q (BkD K A2 A0)) (z3w (BkD K A2 A0) CUnknownReader)))
  (B4:F6 P w K mg base 1 A2 "refuse_further_deed" z0j (F3 (z24 (BkD K A2 A0)) (z5b (BkD K A2 A0) CBookFull))) :
  B0 P w K mg base (CX1 P w) 5 f fd z1R (F3 (z39 (BkD K A2 A0)) (z3r (BkD K A2 A0) CNotWritten CUnknownReader CBookFull)):=by
 have nd:=z1Y.nd
 refine(z5q M T F A9 A3 A5).toX.or (F.okX z1Y (fun vs H Q E h=>?_) (fun cdv A outer s H vs Q E hr h=>?_))
 ·obtain⟨p,fp,zs,r,k,rows,log,rd,n,C,rfl,_⟩:=h
  rfl
 obtain⟨p,fp,zs,r,k,rows,log,rd,n,C,rfl,bk,rf,kk⟩:=h
 have hu:=y2l hr
 refine⟨_,(z03 (z0n (z1S z2b D7 (rm hr) (z0q (pv 0) rfl) (z00 (pv 2) z01))) (z03 (z0n (z1S z2b B1 (rm hr) (pv 0) (z00 (pv 1) z01))) (z03 (z0n (z8u z2b B4 (rm hr) (pv 0))) (z03 (z0e (i:=3) nd rfl (Or.inl rfl) (z1j (z00 (z2i rfl M.DELIVER) (z00 (pv 1) (z00 (pv 2) z01))))) (z03 (z0e (i:=4) nd rfl (Or.inl rfl) (z4S (z8f hu) (pv 3) (z0q (pv 0) rfl) (by with_unfolding_all rfl))) (z03 (z0n (z2h bM bP bQ z0B (z0q (pv 0) rfl) (z00 (pv 3) z01))) (z05 (z0h (pv 4))))))))),?_⟩
 obtain⟨dx,po,pd,fs,fo,vs,rfl,B⟩:=id bk
 obtain⟨dxo,pno,plo,fso,xso,efo,h1,h2,h3,h4,l1,l2,l3,lmo,_⟩:=id B.of
 rcases rf with ⟨hn,rfl⟩|⟨n1,n2,⟨hr2,rfl⟩|⟨r1,r2,l4,rfl⟩⟩
 ·exact⟨_,rfl,p,A2,dx,fs,_,rfl,B.hp,T.cl,T.n_office,B.lo,po,dxo,fso,rfl,h1,lmo _ (by simp),_,rfl,.inr ⟨po,fo,zs,r,rows,n,rfl,B.of,hn,kk H (A4.refl _)⟩⟩
 ·exact⟨_,rfl,p,A2,dx,fs,_,rfl,B.hp,T.cl,T.n_office,B.lo,po,dxo,fso,rfl,h1,lmo _ (by simp),_,rfl,.inl ⟨po,fo,zs,r,rows,n,rfl,B.of,n1,n2,fun v H1 s1 _=>⟨_,rfl,p,dx,fs,rfl,s1 _ _ B.hp,B.lm _ (by simp),_,rfl,.inr ⟨p,_,zs,r,k,rows,log,rd,rfl,S3.same bk s1,hr2,kk H1 s1⟩⟩⟩⟩
 ·exact⟨_,rfl,p,A2,dx,fs,_,rfl,B.hp,T.cl,T.n_office,B.lo,po,dxo,fso,rfl,h1,lmo _ (by simp),_,rfl,.inl ⟨po,fo,zs,r,rows,n,rfl,B.of,n1,n2,fun v H1 s1 _=>⟨_,rfl,p,dx,fs,rfl,s1 _ _ B.hp,B.lm _ (by simp),_,rfl,.inl ⟨p,_,zs,r,k,rows,log,rd,rfl,S3.same bk s1,r1,r2,⟨_,rfl,p,dx,fs,rfl,s1 _ _ B.hp,B.lm _ (by simp),.inr ⟨p,_,zs,r,k,rows,log,rfl,S3.same bk s1,l4,kk H1 s1⟩⟩⟩⟩⟩⟩
def z75(Bk:BkP)(CN:Addr):Sp:=fun vs H _ E=>∃(p:Addr) (fp:List Addr) (zs:List Str) (r k:Int) (rows:List Row) (log:List B2) (n:Int),vs=[.ref p,.int n]/\Bk H p fp zs r k rows log/\(n<1\/(rows.length:Int)<n)/\E (.ref CN) none H
theorem z99{A2 A0 CNotWritten:Addr}(M:Bl mg)(T:E4 K mg A2)(F:Fun K "issue" "Book.issue" z3a f fd)(A9:D5 P w K mg base 1 A0 "issue" z0E (z1x (OfD K A0)))
  (D7:F6 P w K mg base 1 A0 "issue" z0E (F3 (z1x (OfD K A0)) (z7n (OfD K A0) CNotWritten))):B0 P w K mg base (CX1 P w) 2 f fd z3c (F3 (z6p (BkD K A2 A0)) (z75 (BkD K A2 A0) CNotWritten)):=by
 have nd:=z2D.nd
 refine(z6P M T F A9).toX.or (F.okX z2D (fun vs H Q E h=>?_) (fun cdv A outer s H vs Q E hr h=>?_))
 ·obtain⟨p,fp,zs,r,k,rows,log,n,rfl,_⟩:=h
  rfl
 obtain⟨p,fp,zs,r,k,rows,log,n,rfl,⟨dx,po,pd,fs,fo,us,rfl,B⟩,hn,kk⟩:=h
 refine⟨_,(z05 (z0h (z1S z2b D7 (rm hr) (z0q (pv 0) rfl) (z00 (pv 1) z01)))),?_⟩
 obtain⟨dxo,pno,plo,fso,xso,efo,h1,h2,h3,h4,l1,l2,l3,lmo,_⟩:=id B.of
 exact⟨_,rfl,p,A2,dx,fs,_,rfl,B.hp,T.cl,T.n_office,B.lo,po,dxo,fso,rfl,h1,lmo _ (by simp),_,rfl,.inr ⟨po,fo,zs,r,rows,n,rfl,B.of,hn,kk⟩⟩
def z8t(Bk:BkP)(CD:Addr):Sp:=fun vs H _ E=>∃(p:Addr) (fp:List Addr) (zs:List Str) (r k:Int) (rows:List Row) (log:List B2) (n:Int),vs=[.ref p,.int n]/\Bk H p fp zs r k rows log/\(n<1\/(log.length:Int)<n)/\E (.ref CD) none H
theorem y0o{A2 A0 CNoSuchDeed:Addr}(M:Bl mg)(T:E4 K mg A2)(F:Fun K "deed" "Book.deed" z3S f fd)(C9:Err K mg "NoSuchDeed" CNoSuchDeed):B0 P w K mg base (CX1 P w) 1 f fd z2R (F3 (z5I (BkD K A2 A0)) (z8t (BkD K A2 A0) CNoSuchDeed)):=by
 have nd:=z3f.nd
 refine(z7Z M T F).toX.or (F.okX z3f (fun vs H Q E h=>?_) (fun cdv A outer s H vs Q E hr h=>?_))
 ·obtain⟨p,fp,zs,r,k,rows,log,n,rfl,_⟩:=h
  rfl
 obtain⟨p,fp,zs,r,k,rows,log,n,rfl,⟨dx,po,pd,fs,fo,us,rfl,B⟩,hn,kk⟩:=h
 refine⟨_,(z03 (z0v (PW.pt (z2G (z09 z3o (pv 1) z04 (z0d _)) (z1E (z09 z2g (pv 1) (z08 z06 rfl M.len bH (z00 (z0q (pv 0) rfl) z01)) (z0d _))))) (z05 (z2c C9 rfl (z00 z0l z01))) z0c) (z05 (z0h (z0P z0D (z0q (pv 0) rfl) (z0a z3G (pv 1) z04) (fun _ _=>rfl))))),?_⟩
 have lu:=z0G B.ds
 refine⟨_,rfl,_,_,rfl,rfl,_,rfl,B3 (fun q=>⟨(by show 1≤sizeLine;decide),kk⟩) fun n1=>?_⟩
 refine⟨_,rfl,_,rfl,p,A2,dx,fs,_,rfl,B.hp,T.cl,T.n_done,B.ld,pd,us,rfl,.inl (SqL.of B.hd),_,_,rfl,rfl,_,rfl,B3 (fun q=>⟨(by show 1≤sizeLine;decide),kk⟩) fun n2=>?_⟩
 exfalso
 have e1:¬n<1:=fun z=>n1 (decide_eq_true z)
 have e2:¬(us.length:Int)<n:=fun z=>n2 (decide_eq_true z)
 omega
theorem S1.okX{x qual:Str}{st:Stmt}{f T:Addr}{items:Array Value}{fd:FuncData}{N ps:List Str}{k:Nat}{sp:Sp}(F:S1 K x qual st f fd T items)(S:A7 N ps (z07 st))(len:∀vs H Q E,sp vs H Q E->vs.length=ps.length)
  (Q9:∀(cdv:Value) (A:Around) (outer:List Env) (s:Shared) (H:Hp) (vs:List V) (Q:VK) (E:XK),D6 k (A.deeper (PyProof.Rows.envOfC qual (z07 st) s.heap.objs.size f cdv))->sp vs H Q E->
   ∃t,PSs (F0 (CX1 P w) P w K mg base N qual (z07 st) f cdv A outer s H E) (z0Z st) t/\t { nx:=fun _ H'=>Q .non H',rt:=Q } (z4a N vs) H):B0 P w K mg base (CX1 P w) (k+1) f fd ps sp:=by
 obtain⟨oc,od,kV,doc,pm,an,cdv,ct,osl,rfl,lk,hcd⟩:=F.ex
 exact y2u lk hcd S len fun A outer s H vs Q E hr hsp=>Q9 cdv A outer s H vs Q E hr hsp
def RefS(CD CR:Addr)(log:List B2)(k rd:Int)(dv:V)(C:Addr):Prop:=(∃d:Int,dv=.int d/\(d<0\/(log.length:Int)<d)/\C=CD)\/((dv=.non\/∃d:Int,dv=.int d/\0≤d/\d≤log.length)/\(rd<1\/k<rd)/\C=CR)
def z53(Bk:BkP)(CD CR:Addr):Sp:=fun vs H _ E=>∃(p:Addr) (fp:List Addr) (zs:List Str) (r k:Int) (rows:List Row) (log:List B2) (rd:Int) (dv:V) (C:Addr),vs=[.ref p,.int rd,dv]/\Bk H p fp zs r k rows log/\RefS CD CR log k rd dv C/\E (.ref C) none H
theorem z8J{A2 A0 A6 CNoSuchDeed CUnknownReader T0:Addr}{items:Array Value}(M:Bl mg)(T:E4 K mg A2)(TO:E7 K mg A0)(F:S1 K "shelf" "Book.shelf" z30 f fd T0 items)(C9:Err K mg "NoSuchDeed" CNoSuchDeed)(A9:D5 P w K mg base 1 A0 "issue" z0E (z1x (OfD K A0)))
  (A3:D5 P w K mg base 1 A2 "refuse_unknown_reader" z0f (z1q (BkD K A2 A0))) (O4:Mkr P w K mg base 3 A6 "Shelf" z1Q (z7B K A6 (ShD K A6)))
  (E6:D5 P w K mg base 1 A6 "put" z3T (y46 (ShD K A6))) (B1:F6 P w K mg base 1 A2 "refuse_unknown_reader" z0f (F3 (z1q (BkD K A2 A0)) (z3w (BkD K A2 A0) CUnknownReader))) :
  B0 P w K mg base (CX1 P w) 6 f fd z1k (F3 (z2l (BkD K A2 A0) (ShD K A6)) (z53 (BkD K A2 A0) CNoSuchDeed CUnknownReader)):=by
 have nd:=z2x.nd
 refine(z56 M T TO F A9 A3 O4 E6).toX.or (S1.okX F z2x (fun vs H Q E h=>?_) (fun cdv A outer s H vs Q E hr h=>?_))
 ·obtain⟨p,fp,zs,r,k,rows,log,rd,dv,C,rfl,_⟩:=h
  rfl
 obtain⟨p,fp,zs,r,k,rows,log,rd,dv,C,rfl,bk,rf,kk⟩:=h
 refine⟨_,(z03 (z0e (i:=3) nd rfl (Or.inl rfl) (z4v (z85 (z8z (pv 2))) (z08 z06 rfl M.len bH (z00 (z0q (pv 0) rfl) z01)) (pv 2))) (z03 (z0v (PW.pt (z2G (z09 z3o (pv 3) z04 (z0d _)) (z1E (z09 z2g (pv 3) (z08 z06 rfl M.len bH (z00 (z0q (pv 0) rfl) z01)) (z0d _))))) (z05 (z2c C9 rfl (z00 z0l z01))) z0c) (z03 (z0n (z1S z2b B1 (rm hr) (pv 0) (z00 (pv 1) z01))) (z03 (z0e (i:=4) nd rfl (Or.inl rfl) (z9o O4 (rm hr) rfl (z00 (z0q (z0q (pv 0) rfl) rfl) (z00 (z0q (z0q (pv 0) rfl) rfl) z01)))) (z03 (z8I (z16 (z1O z63 (z0q (pv 0) rfl) z2m (z2t (pv 3)))) (z0o (i:=5) nd rfl (Or.inl rfl)) (z05 (z0v (z09 (y3g hr.Y2) (z1O y1f (pv 5) z2m (z2t z04)) (z1j (z00 (z2i rfl M.DELIVER) (z00 (pv 1) z01))) (z0d _)) (z05 (z0n (z1v E6 (rm hr) (pv 4) (z00 (z1v A9 (rm hr) (z0q (pv 0) rfl) (z00 (z0P z1F (pv 5) z04 (fun _ _=>rfl)) z01)) z01)))) z0c))) (z05 (z0h (pv 4)))))))),?_⟩
 obtain⟨dx,po,pd,fs,fo,us,rfl,B⟩:=id bk
 have lu:=z0G B.ds
 rcases rf with ⟨d,rfl,hd,rfl⟩|⟨rfl|⟨d,rfl,d0,d1⟩,hr2,rfl⟩
 ·refine⟨_,rfl,_,rfl,C2 ⟨_,rfl,?_⟩⟩
  refine⟨_,rfl,_,_,rfl,rfl,_,rfl,B3 (fun q=>⟨(by show 1≤sizeLine;decide),kk⟩) fun n1=>?_⟩
  refine⟨_,rfl,_,rfl,p,A2,dx,fs,_,rfl,B.hp,T.cl,T.n_done,B.ld,pd,us,rfl,.inl (SqL.of B.hd),_,_,rfl,rfl,_,rfl,B3 (fun q=>⟨(by show 1≤sizeLine;decide),kk⟩) fun n2=>?_⟩
  exfalso
  have e1:¬d<0:=fun z=>n1 (decide_eq_true z)
  have e2:¬(us.length:Int)<d:=fun z=>n2 (decide_eq_true z)
  omega
 ·refine⟨_,rfl,_,rfl,J8 ⟨_,rfl,p,A2,dx,fs,_,rfl,B.hp,T.cl,T.n_done,B.ld,pd,us,rfl,.inl (SqL.of B.hd),?_⟩⟩
  refine⟨_,rfl,_,_,rfl,rfl,_,rfl,B3 (fun q=>absurd (z0x q) (by omega)) fun n1=>?_⟩
  refine⟨_,rfl,_,rfl,p,A2,dx,fs,_,rfl,B.hp,T.cl,T.n_done,B.ld,pd,us,rfl,.inl (SqL.of B.hd),_,_,rfl,rfl,_,rfl,B3 (fun q=>absurd (z0x q) (by omega)) fun n2=>?_⟩
  exact⟨_,rfl,p,dx,fs,rfl,B.hp,B.lm _ (by simp),_,rfl,.inr ⟨p,_,zs,r,k,rows,log,rd,rfl,bk,hr2,kk⟩⟩
 ·refine⟨_,rfl,_,rfl,C2 ⟨_,rfl,?_⟩⟩
  refine⟨_,rfl,_,_,rfl,rfl,_,rfl,B3 (fun q=>absurd (z0x q) (by omega)) fun n1=>?_⟩
  refine⟨_,rfl,_,rfl,p,A2,dx,fs,_,rfl,B.hp,T.cl,T.n_done,B.ld,pd,us,rfl,.inl (SqL.of B.hd),_,_,rfl,rfl,_,rfl,B3 (fun q=>absurd (z0x q) (by omega)) fun n2=>?_⟩
  exact⟨_,rfl,p,dx,fs,rfl,B.hp,B.lm _ (by simp),_,rfl,.inr ⟨p,_,zs,r,k,rows,log,rd,rfl,bk,hr2,kk⟩⟩
theorem y4U:∀p∈UnicodeData.severalUpper,∀d∈p.2,d<16^8:=by decide +kernel
theorem y55:∀p∈UnicodeData.severalLower,∀d∈p.2,d<16^8:=by decide +kernel
theorem y4F:∀p∈UnicodeData.oneUpper,p.2.2+(p.2.1-p.1)<16^8:=by decide +kernel
theorem y4I:∀p∈UnicodeData.oneLower,p.2.2+(p.2.1-p.1)<16^8:=by decide +kernel
theorem y2x{l:List (Nat×List Nat)}(h:∀p∈l,∀d∈p.2,d<16^8){c:Nat}{cs:List Nat}(e:l.lookup c=some cs):∀d∈cs,d<16^8:=by
 induction l with
 | nil=>cases e
 | cons p l ih=>
  obtain⟨a,b⟩:=p
  rw[dY] at e
  split at e
  ·cases e
   exact h (a,cs) cD
  ·exact ih (fun q hq=>h q (bW _ hq)) e
theorem y0F{l:List (Nat×Nat×Nat)}(h:∀p∈l,p.2.2+(p.2.1-p.1)<16^8){c d:Nat}(e:Unicode.shifted l c=some d):d<16^8:=by
 induction l with
 | nil=>cases e
 | cons p l ih=>
  obtain⟨a,b,t⟩:=p
  unfold Unicode.shifted at e
  split at e
  ·cases e
  ·split at e
   ·cases e
    have:=h (a,b,t) cD
    dsimp only at this
    omega
   ·exact ih (fun q hq=>h q (bW _ hq)) e
theorem z7Y{o:List (Nat×Nat×Nat)}{l:List (Nat×List Nat)}(h1:∀p∈o,p.2.2+(p.2.1-p.1)<16^8)(h2:∀p∈l,∀d∈p.2,d<16^8){c:Nat}(hc:c<16^8):∀d∈Unicode.image o l c,d<16^8:=by
 unfold Unicode.image
 split
 ·rename_i cs e
  exact y2x h2 e
 ·intro d hd
  rw[bC.mp hd]
  cases e:Unicode.shifted o c with
  | none=>exact hc
  | some x=>exact y0F h1 e
theorem z7e{x:Str}{f:Nat->Nat->List Nat}(h:∀i c,x.cps[i]? = some c->∀d∈f i c,d<16^8):∀d∈(PySem.placed x f).toList,d<16^8:=fun d hd=>by
 unfold PySem.placed at hd
 have hd':=gR.mpr hd
 obtain⟨a,ha,hm⟩:=Array.mem_flatten.mp hd'
 obtain⟨i,hi,rfl⟩:=Array.mem_mapIdx.mp ha
 exact h i _ (Array.getElem?_eq_getElem hi) d (by simpa using hm)
theorem y1c{x:Str}(h:Low x):Low (Txt.upper x):=z7e fun i c e d hd=>z7Y y4F y4U (h c (gR.mp (Array.mem_of_getElem? e))) d hd
theorem y1M{x:Str}(h:Low x):Low (Txt.lower x):=z7e fun i c e d hd=>by
 unfold Unicode.lowerAt at hd
 rw[e] at hd
 dsimp only at hd
 split at hd
 ·rw[bC.mp hd]
  decide
 ·exact z7Y y4I y55 (h c (gR.mp (Array.mem_of_getElem? e))) d hd
theorem y18{a b:Str}(ha:Low a)(hb:Low b):Low (a++b):=fun c hc=>by
 rw[z5c] at hc
 exact(c8.mp hc).elim (ha c) (hb c)
theorem y3Z{z:Str}(h:Low z)(lo hi:Option Int):Low (N1 z lo hi):=fun c hc=>by
 have hc':c∈(z.cps.toList.drop _).take _:=hc
 exact h c (gM (d9 hc'))
def z8E(K:PySem.W.Frag):Sp:=fun vs H Q _=>∃(ln:Addr) (nm:List Str) (c:Int),vs=[.ref ln,.int c]/\SqL K H ln (nm.map V.str)/\1≤nm.length/\nm.length≤12/\Nms nm/\∀(z:Str) (H':Hp),A4 H H'->z.length≤100->Low z->z∉nm->Q (.str z) H'
theorem y16(a b:Str):(a++b).length=a.length+b.length:=by
 rw[<- z0N,z5c,bE,z0N,z0N]
theorem y2G(z:Str)(lo hi:Option Int):(N1 z lo hi).length≤z.length:=by
 rw[<- z0N,<- z0N]
 show((z.cps.toList.drop _).take _).length≤_
 rw[bO,d8]
 omega
theorem z4w{n:Nat}(h:n≤1000):n≤sizeLine:=dX (z0i h)
theorem y3s{n:Nat}(h:n≤1000):Builtin.Str.tooLong n=false:=by
 have:=z4w h
 unfold Builtin.Str.tooLong
 exact decide_eq_false (by omega)
theorem y0l(M:Bl mg)(F:Fun K "_law_strange" "_law_strange" z2W f fd):B0 P w K mg base CX0 1 f fd z34 (z8E K):=by
 have nd:=z3Z.nd
 refine F.ok z3Z (fun vs H Q E h=>?_) (fun cdv A outer s H vs Q E hr h=>?_)
 ·obtain⟨ln,nm,c,rfl,_⟩:=h
  rfl
 obtain⟨ln,nm,c,rfl,hN,n1,n12,Nn,q⟩:=h
 have n20:=Nn.hi
 refine⟨_,(z03 (z0e (i:=2) nd rfl (Or.inl rfl) (z0P z0D (pv 0) (z0a z0u (z0a z0y (pv 1) z04) (z08 z06 rfl M.len bH (z00 (pv 0) z01))) (fun _ _=>rfl))) (z03 (z0e (i:=3) nd rfl (Or.inl rfl) z0l) (z03 (z0e (i:=4) nd rfl (Or.inl rfl) (z0P z0D (z0L (z00 (pv 3) (z00 (z0a z3M (pv 2) z0l) (z00 (y36 PySem.F.plainAttrs_str PySem.F.slot_str_upper PySem.F.type_str_upper y2k (pv 2)) (z00 (y36 PySem.F.plainAttrs_str PySem.F.slot_str_lower PySem.F.type_str_lower y2R (pv 2)) (z00 (z0a z3M (pv 2) z0l) (z00 (z1O y0U (pv 2) (z2t z04) z2m) z01))))))) (z0a z0u (pv 1) z04) (fun _ _=>rfl))) (z03 (z0v (PW.pt (z2G (z09 z6n (pv 4) (pv 0) (by with_unfolding_all rfl)) (z2G (z09 z1w (pv 4) z0l (z0d _)) (z1E (z09 z2g (z08 z5v rfl M.len bH (z00 (pv 4) z01)) z04 (z0d _)))))) (z05 (z0h (pv 3))) z0c) (z05 (z0h (pv 4))))))),?_⟩
 have i0:0≤c / 6%(nm.length:Int):=cA _ (by omega)
 have i1:c / 6%(nm.length:Int)<(nm.length:Int):=bS _ (by omega)
 obtain⟨z,ez,az⟩:=z7H i0 i1
 have hz:=n20 z (bZ ez)
 have lz:Low z:=Nn.low z (bZ ez)
 refine⟨_,rfl,_,rfl,_,_,rfl,rfl,⟨by decide,by decide⟩,_,rfl,ln,_,rfl,.inl hN,_,_,rfl,rfl,(by rw[bA];omega),ln,_,_,_,rfl,rfl,hN,(by rw[bA];exact az),?_⟩
 have w06:Low "a stranger of twenty":=show ∀c∈("a stranger of twenty":Str).cps.toList,c<16^8 from by decide +kernel
 have lx:("x":Str).length=1:=by decide +kernel
 have lb:(" ":Str).length=1:=by decide +kernel
 have lf:("a stranger of twenty":Str).length=20:=by decide +kernel
 have hu:=y1F z
 have hl:=y1r z
 have hc:=y2G z (some 1) none
 refine⟨_,rfl,_,rfl,_,_,rfl,rfl,z4w (by omega),?_⟩
 refine⟨_,rfl,rfl,z,rfl,rfl,y3s (by omega),?_⟩
 refine⟨_,rfl,rfl,z,rfl,rfl,y3s (by omega),?_⟩
 refine⟨_,rfl,_,_,rfl,rfl,z4w (by omega),?_⟩
 refine⟨_,rfl,_,rfl,z,rfl,z4w (by omega),?_⟩
 refine⟨(by show 6≤sizeLine;decide),fun p hp=>?_⟩
 obtain⟨y,hat,hy,ly⟩:∃y:Str,atI [V.str "a stranger of twenty",V.str (z++"x"),V.str (Txt.upper z),V.str (Txt.lower z),V.str (z++" "),V.str (N1 z (some 1) none)] (c%6)=some (.str y)/\y.length≤100/\Low y:=by
  have h1:=cA c (show(6:Int)≠0 by decide)
  have h2:=bS c (show(0:Int)<6 by decide)
  have c6:c%6=0\/c%6=1\/c%6=2\/c%6=3\/c%6=4\/c%6=5:=by omega
  rcases c6 with e|e|e|e|e|e<;>rw[e]
  ·exact⟨_,rfl,by omega,w06⟩
  ·exact⟨_,rfl,by rw[y16];omega,y18 lz (show ∀c∈("x":Str).cps.toList,c<16^8 from by decide +kernel)⟩
  ·exact⟨_,rfl,by omega,y1c lz⟩
  ·exact⟨_,rfl,by omega,y1M lz⟩
  ·exact⟨_,rfl,by rw[y16];omega,y18 lz (show ∀c∈(" ":Str).cps.toList,c<16^8 from by decide +kernel)⟩
  ·exact⟨_,rfl,by omega,y3Z lz _ _⟩
 refine⟨_,rfl,_,_,rfl,rfl,(by show(0:Int)<6;decide),p,_,_,_,rfl,rfl,SqL.of A1,hat,?_⟩
 have s1:=z02 hp (.lst [V.str "a stranger of twenty",V.str (z++"x"),V.str (Txt.upper z),V.str (Txt.lower z),V.str (z++" "),V.str (N1 z (some 1) none)])
 refine⟨_,rfl,_,rfl,ln,_,rfl,.inl (s1.seq hN),rfl,z2S nm,_,rfl,?_⟩
 rw[if_neg bN,z4D]
 by_cases c1:y∈nm
 ·rw[decide_eq_true c1]
  exact J8 ⟨_,rfl,q _ _ s1 (by omega) w06 Nn.far⟩
 rw[decide_eq_false c1]
 refine C2 ⟨_,rfl,rfl,_,rfl,?_⟩
 refine B3 (fun _=>?_) (fun _=>?_)
 ·exact⟨_,rfl,q _ _ s1 (by omega) w06 Nn.far⟩
 refine⟨_,rfl,y,rfl,z4w (by omega),_,_,rfl,rfl,_,rfl,?_⟩
 refine B3 (fun _=>?_) (fun _=>?_)
 ·exact⟨_,rfl,q _ _ s1 (by omega) w06 Nn.far⟩
 ·exact⟨_,rfl,q _ _ s1 hy ly c1⟩
def L9(H:Hp)(u:V)(p:Str×Int):Prop:=∃b,u=.ref b/\H b=some (.lst [.str p.1,.int p.2])
theorem L9.keep{H H':Hp}(s:A4 H H'):∀{us:List V}{pr:Row},Paired (L9 H) us pr->Paired (L9 H') us pr
 | _,_,.nil=>.nil
 | _,_,.cons ⟨a,e,h⟩ t=>.cons ⟨a,e,s _ _ h⟩ (L9.keep s t)
theorem L9.at{H:Hp}:∀{us:List V}{pr:Row},Paired (L9 H) us pr->∀(i:Nat) (x:V),us[i]? = some x->∃p,pr[i]? = some p/\L9 H x p
 | _,_,.nil,i,x,e=>by simp at e
 | _,_,.cons r t,0,x,e=>by
  simp at e
  subst e
  exact⟨_,rfl,r⟩
 | _,_,.cons r t,i+1,x,e=>by
  obtain⟨y,h1,h2⟩:=L9.at t i x (by simpa using e)
  exact⟨y,by simpa using h1,h2⟩
theorem L9.hand{K:PySem.W.Frag}{H:Hp}:∀{us:List V}{pr:Row},Paired (L9 H) us pr->Paired (z1n K H) us pr
 | _,_,.nil=>.nil
 | _,_,.cons ⟨a,e,h⟩ t=>.cons ⟨a,e,.inl (SqL.of h)⟩ (L9.hand t)
def y3S(nm:List Str)(pr:Row)(z:Str):Prop:=((∃p∈pr,p.1∉nm)/\z="UnknownName")\/((∀p∈pr,p.1∈nm)/\¬(pr.map Prod.fst).Nodup/\z="NameTwice")\/((∀p∈pr,p.1∈nm)/\(pr.map Prod.fst).Nodup/\(∃p∈pr,p.2<0\/1000000<p.2)/\z="BadValue")\/(GoodR nm pr/\z="")
def z7T(K:PySem.W.Frag):Sp:=fun vs H Q _=>∃(lr ln:Addr) (us:List V) (pr:Row) (nm:List Str),vs=[.ref lr,.ref ln]/\H lr=some (.lst us)/\Paired (L9 H) us pr/\pr.length≤100/\SqL K H ln (nm.map V.str)/\∀(z:Str) (H':Hp),A4 H H'->y3S nm pr z->Q (.str z) H'
theorem y0z(zs:List Str)(z:Str):(zs.map V.str).countP (fun y=>eqV y (.str z))=zs.count z:=by
 rw[List.countP_map,List.count]
 rfl
theorem z9R{zs:List Str}:zs.filter (fun z=>decide (1<zs.count z))=[]↔zs.Nodup:=by
 rw[gA,List.nodup_iff_count]
 constructor
 ·intro h z
  by_cases hz:z∈zs
  ·have:=h z hz
   rw[decide_eq_true_eq] at this
   omega
  ·rw[List.count_eq_zero.mpr hz]
   exact cL _
 ·intro h z _ q
  have:=of_decide_eq_true q
  have:=h z
  omega
theorem y01(M:Bl mg)(F:Fun K "_law_refusal" "_law_refusal" z3g f fd):B0 P w K mg base CX0 1 f fd z3e (z7T K):=by
 have nd:=z40.nd
 refine F.ok z40 (fun vs H Q E h=>?_) (fun cdv A outer s H vs Q E hr h=>?_)
 ·obtain⟨lr,ln,us,pr,nm,rfl,_⟩:=h
  rfl
 obtain⟨lr,ln,us,pr,nm,rfl,eR,hp,l100,hN,q⟩:=h
 refine⟨_,(z03 (z0e (i:=2) nd rfl (Or.inr rfl) (z2K ["_law_row_here"] [] [] rfl (z0H rfl (by decide +kernel) rfl (by decide +kernel) rfl rfl) (z16 (pv 0)) (fun _ _ _ _ _=>(z0o (i:=0) (show((["_law_row_here"]:List PySem.Str)++([]:List PySem.Str)).Nodup from by decide +kernel) rfl (Or.inl rfl))) (z0R (by decide)) z0t (fun _ _ _ _ _=>z2q) (fun _ _ _ _ _=>(z0P (r:=Z6 K) z0D (pv 0) z04 (fun _ _=>rfl))))) (z03 (z0v (z09 z2g (z08 z06 rfl M.len bH (z00 (z2K ["_law_name"] ["_law_names_here"] [1] rfl (z0H rfl (by decide +kernel) rfl (by decide +kernel) rfl rfl) (z16 (pv 2)) (fun _ _ _ _ _=>(z0o (i:=0) (show((["_law_name"]:List PySem.Str)++(["_law_names_here"]:List PySem.Str)).Nodup from by decide +kernel) rfl (Or.inl rfl))) (z0R (by decide)) z0t (fun _ _ _ _ _=>(z5V (z09 (r:=rIn K true) z2w (pv 0) (pv 1) (by with_unfolding_all rfl)))) (fun _ _ _ _ _=>(pv 0))) z01)) z04 (z0d _)) (z05 (z0h z0l)) z0c) (z03 (z0v (z09 z2g (z08 z06 rfl M.len bH (z00 (z2K ["_law_name"] ["_law_places"] [2] rfl (z0H rfl (by decide +kernel) rfl (by decide +kernel) rfl rfl) (z16 (pv 2)) (fun _ _ _ _ _=>(z0o (i:=0) (show((["_law_name"]:List PySem.Str)++(["_law_places"]:List PySem.Str)).Nodup from by decide +kernel) rfl (Or.inl rfl))) (z0R (by decide)) z0t (fun _ _ _ _ _=>(z5V (z09 z2g (y4V (K:=K) rfl bM PySem.F.slot_list_count PySem.F.type_list_count (y09 (K:=K) rfl) (pv 1) (z00 (pv 0) z01)) z04 (z0d _)))) (fun _ _ _ _ _=>(pv 0))) z01)) z04 (z0d _)) (z05 (z0h z0l)) z0c) (z03 (z0v (z09 z2g (z08 z06 rfl M.len bH (z00 (z2K ["_law_row_here"] [] [] rfl (z0H rfl (by decide +kernel) rfl (by decide +kernel) rfl rfl) (z16 (pv 0)) (fun _ _ _ _ _=>(z0o (i:=0) (show((["_law_row_here"]:List PySem.Str)++([]:List PySem.Str)).Nodup from by decide +kernel) rfl (Or.inl rfl))) (z0R (by decide)) z0t (fun _ _ _ _ _=>(z5V (PW.pt (z2G (z09 z3o (z0P (r:=Z6 K) z0D (pv 0) z04 (fun _ _=>rfl)) z04 (z0d _)) (z1E (z09 z2g (z0P (r:=Z6 K) z0D (pv 0) z04 (fun _ _=>rfl)) z04 (z0d _))))))) (fun _ _ _ _ _=>(pv 0))) z01)) z04 (z0d _)) (z05 (z0h z0l)) z0c) (z05 (z0h z0l)))))),?_⟩
 have lu:us.length=pr.length:=hp.length
 refine⟨_,rfl,lr,rfl,⟨_,SqL.of eR⟩,?_⟩
 refine z2o (xs:=us) (fun i ys G=>G=H/\ys=((pr.take i).map Prod.fst).map V.str) ⟨rfl,rfl⟩ (fun i ys G hi hq=>?_) (fun i x ys G hx hq=>?_) (fun ys G hq=>?_)
 ·obtain⟨rfl,rfl⟩:=hq
  refine⟨SqL.of eR,z0i ?_⟩
  rw[bA,bA,bO]
  omega
 ·obtain⟨rfl,rfl⟩:=hq
  obtain⟨p,ep,b,rfl,hb⟩:=L9.at hp i x hx
  refine⟨_,rfl,b,_,0,_,rfl,rfl,SqL.of hb,rfl,rfl,?_⟩
  rw[z0w ep,bR,bR]
  rfl
 obtain⟨rfl,rfl⟩:=hq
 rw[lu,bU]
 intro D hD
 have s1:=z02 hD (.lst ((pr.map Prod.fst).map V.str))
 have e1:upd G D (.lst ((pr.map Prod.fst).map V.str)) D=some (.lst ((pr.map Prod.fst).map V.str)):=A1
 generalize upd G D (.lst ((pr.map Prod.fst).map V.str))=H1 at s1 e1
 have hN1:=s1.seq hN
 have eR1:=s1 _ _ eR
 have hp1:=L9.keep s1 hp
 have lf:(pr.map Prod.fst).length=pr.length:=bA _
 refine⟨_,rfl,D,rfl,⟨_,SqL.of e1⟩,?_⟩
 refine z2o (xs:=(pr.map Prod.fst).map V.str) (fun i ys G=>G=H1/\ys=(((pr.map Prod.fst).take i).filter fun z=>decide (z∉nm)).map V.str) ⟨rfl,rfl⟩ (fun i ys G hi hq=>?_) (fun i y ys G hy hq=>?_) (fun ys G hq=>?_)
 ·obtain⟨rfl,rfl⟩:=hq
  refine⟨SqL.of e1,z0i ?_⟩
  rw[bA]
  have:=d7 (fun z=>decide (z∉nm)) ((pr.map Prod.fst).take i)
  rw[bO] at this
  omega
 ·obtain⟨rfl,rfl⟩:=hq
  rw[bV] at hy
  obtain⟨z,ez,rfl⟩:=cS.mp hy
  refine⟨_,rfl,_,rfl,ln,_,rfl,.inl hN1,rfl,z2S nm,_,rfl,?_⟩
  rw[if_pos rfl,z4D,z0w ez,eY,gB]
  by_cases c:z∈nm
  ·rw[decide_eq_true c,if_neg (fun q=>(of_decide_eq_true q) c),List.filter_nil,cQ]
   exact C2 ⟨rfl,rfl⟩
  ·rw[decide_eq_false c,if_pos (decide_eq_true c),bR]
   exact J8 ⟨_,rfl,rfl,rfl⟩
 obtain⟨rfl,rfl⟩:=hq
 rw[bA,bU]
 intro D2 hD2
 have s2:=z02 hD2 (.lst (((pr.map Prod.fst).filter fun z=>decide (z∉nm)).map V.str))
 refine⟨D2,_,rfl,.inl (SqL.of A1),_,_,rfl,rfl,_,rfl,?_⟩
 rw[bA]
 by_cases N8:∀p∈pr,p.1∈nm
 case neg=>
  have:∃p∈pr,p.1∉nm:=dI fun c=>N8 fun p hp=>dI fun d=>c ⟨p,hp,d⟩
  obtain⟨p,hpm,hz⟩:=this
  have pos:0<((pr.map Prod.fst).filter fun z=>decide (z∉nm)).length:=g9 (a:=p.1) (cY.mpr ⟨cF.mpr ⟨p,hpm,rfl⟩,decide_eq_true hz⟩)
  rw[decide_eq_true (by omega)]
  exact J8 (q _ _ (s1.trans s2) (.inl ⟨⟨p,hpm,hz⟩,rfl⟩))
 have z0:((pr.map Prod.fst).filter fun z=>decide (z∉nm))=[]:=gA.mpr fun z hz c=>by
  obtain⟨p,hpm,rfl⟩:=cF.mp hz
  exact(of_decide_eq_true c) (N8 p hpm)
 rw[z0] at s2 ⊢
 rw[decide_eq_false (by show ¬(0:Int)<0;omega)]
 have e12:=s2 _ _ e1
 have s12:=s1.trans s2
 generalize upd G D2 (.lst (([]:List Str).map V.str))=H2 at s2 e12 s12
 have eR2:=s2 _ _ eR1
 have hp2:=L9.keep s2 hp1
 refine C2 ⟨_,rfl,D,rfl,⟨_,SqL.of e12⟩,?_⟩
 refine z2o (xs:=(pr.map Prod.fst).map V.str) (fun i ys G=>G=H2/\ys=(((pr.map Prod.fst).take i).filter fun z=>decide (1<(pr.map Prod.fst).count z)).map V.str) ⟨rfl,rfl⟩ (fun i ys G hi hq=>?_) (fun i y ys G hy hq=>?_) (fun ys G hq=>?_)
 ·obtain⟨rfl,rfl⟩:=hq
  refine⟨SqL.of e12,z0i ?_⟩
  rw[bA]
  have:=d7 (fun z=>decide (1<(pr.map Prod.fst).count z)) ((pr.map Prod.fst).take i)
  rw[bO] at this
  omega
 ·obtain⟨rfl,rfl⟩:=hq
  rw[bV] at hy
  obtain⟨z,ez,rfl⟩:=cS.mp hy
  refine⟨_,rfl,.inl ⟨rfl,_,SqL.of e12⟩,_,rfl,D,_,_,rfl,rfl,SqL.of e12,rfl,z2S _,_,_,rfl,rfl,_,rfl,?_⟩
  rw[y0z,z0w ez,eY,gB]
  by_cases c:1<(pr.map Prod.fst).count z
  ·rw[decide_eq_true (show(1:Int)<((pr.map Prod.fst).count z:Int) by omega),if_pos (decide_eq_true c),bR]
   exact J8 ⟨_,rfl,rfl,rfl⟩
  ·rw[decide_eq_false (show ¬(1:Int)<((pr.map Prod.fst).count z:Int) by omega),if_neg (fun q=>c (of_decide_eq_true q)),List.filter_nil,cQ]
   exact C2 ⟨rfl,rfl⟩
 obtain⟨rfl,rfl⟩:=hq
 rw[bA,bU]
 intro D3 hD3
 have s3:=z02 hD3 (.lst (((pr.map Prod.fst).filter fun z=>decide (1<(pr.map Prod.fst).count z)).map V.str))
 refine⟨D3,_,rfl,.inl (SqL.of A1),_,_,rfl,rfl,_,rfl,?_⟩
 rw[bA]
 by_cases hnd:(pr.map Prod.fst).Nodup
 case neg=>
  have pos:0<((pr.map Prod.fst).filter fun z=>decide (1<(pr.map Prod.fst).count z)).length:=List.length_pos_iff.mpr fun e=>hnd (z9R.mp e)
  rw[decide_eq_true (by omega)]
  exact J8 (q _ _ (s12.trans s3) (.inr (.inl ⟨N8,hnd,rfl⟩)))
 rw[z9R.mpr hnd] at s3 ⊢
 rw[decide_eq_false (by show ¬(0:Int)<0;omega)]
 have s13:=s12.trans s3
 generalize upd G D3 (.lst (([]:List Str).map V.str))=H3 at s3 s13
 have eR3:=s3 _ _ eR2
 have hp3:=L9.keep s3 hp2
 refine C2 ⟨_,rfl,lr,rfl,⟨_,SqL.of eR3⟩,?_⟩
 refine z2o (xs:=us) (fun i ys G=>G=H3/\ys.length=((pr.take i).filter fun p=>decide (p.2<0\/1000000<p.2)).length) ⟨rfl,rfl⟩ (fun i ys G hi hq=>?_) (fun i x ys G hx hq=>?_) (fun ys G hq=>?_)
 ·obtain⟨rfl,hl⟩:=hq
  refine⟨SqL.of eR3,z0i ?_⟩
  rw[hl]
  have:=d7 (fun p:Str×Int=>decide (p.2<0\/1000000<p.2)) (pr.take i)
  rw[bO] at this
  omega
 ·obtain⟨rfl,hl⟩:=hq
  obtain⟨p,ep,b,rfl,hb⟩:=L9.at hp3 i x hx
  refine⟨_,rfl,b,_,1,_,rfl,rfl,SqL.of hb,rfl,_,_,rfl,rfl,_,rfl,?_⟩
  rw[z0w ep,eY,gB]
  by_cases c1:p.2<0
  ·rw[decide_eq_true c1,if_pos (decide_eq_true (.inl c1))]
   exact J8 ⟨_,rfl,rfl,by rw[bE,bE,hl];rfl⟩
  rw[decide_eq_false c1]
  refine C2 ⟨_,rfl,b,_,1,_,rfl,rfl,SqL.of hb,rfl,_,_,rfl,rfl,_,rfl,?_⟩
  by_cases c2:1000000<p.2
  ·rw[decide_eq_true c2,if_pos (decide_eq_true (.inr c2))]
   exact J8 ⟨_,rfl,rfl,by rw[bE,bE,hl];rfl⟩
  ·rw[decide_eq_false c2,if_neg (fun q=>(of_decide_eq_true q).elim c1 c2),List.filter_nil,cQ]
   exact C2 ⟨rfl,hl⟩
 obtain⟨rfl,hl⟩:=hq
 rw[lu,bU] at hl
 intro D4 hD4
 have s4:=s13.trans (z02 hD4 (.lst ys))
 refine⟨D4,_,rfl,.inl (SqL.of A1),_,_,rfl,rfl,_,rfl,?_⟩
 rw[hl]
 by_cases hv:∀p∈pr,0≤p.2/\p.2≤1000000
 ·rw[gA.mpr fun p hpm c=>by
   have:=of_decide_eq_true c
   have:=hv p hpm
   omega]
  rw[decide_eq_false (by show ¬(0:Int)<0;omega)]
  exact C2 (q _ _ s4 (.inr (.inr (.inr ⟨⟨hnd,N8,hv⟩,rfl⟩))))
 ·have:∃p∈pr,p.2<0\/1000000<p.2:=dI fun c=>hv fun p hp=>dI fun d=>c ⟨p,hp,by omega⟩
  obtain⟨p,hpm,hb⟩:=this
  have pos:0<(pr.filter fun p=>decide (p.2<0\/1000000<p.2)).length:=g9 (cY.mpr ⟨hpm,decide_eq_true hb⟩)
  rw[decide_eq_true (by omega)]
  exact J8 (q _ _ s4 (.inr (.inr (.inl ⟨N8,hnd,⟨p,hpm,hb⟩,rfl⟩))))
def HL(H0 H:Hp)(u:V)(p:Str×Int):Prop:=∃b,u=.ref b/\H b=some (.lst [.str p.1,.int p.2])/\H0 b=none
theorem HL.keep{H0 H H':Hp}(g:A4 H H'):∀{us:List V}{pr:Row},Paired (HL H0 H) us pr->Paired (HL H0 H') us pr
 | _,_,.nil=>.nil
 | _,_,.cons ⟨b,e,h,n⟩ t=>.cons ⟨b,e,g _ _ h,n⟩ (HL.keep g t)
theorem HL.row{H0 H:Hp}:∀{us:List V}{pr:Row},Paired (HL H0 H) us pr->Paired (L9 H) us pr
 | _,_,.nil=>.nil
 | _,_,.cons ⟨b,e,h,n⟩ t=>.cons ⟨b,e,h⟩ (HL.row t)
theorem HL.hand{K:PySem.W.Frag}{H0 H:Hp}{fp:List Addr}(no:∀{b:Addr},H0 b=none->b∉fp):∀{us:List V}{pr:Row},Paired (HL H0 H) us pr->Paired (z68 K H fp) us pr
 | _,_,.nil=>.nil
 | _,_,.cons ⟨b,e,h,n⟩ t=>.cons ⟨b,e,.inl (SqL.of h),no n⟩ (HL.hand no t)
theorem HL.ne{H0 G:Hp}{b l:Addr}{p:Str×Int}{xs:List V}{pp:Row}(h:G b=some (.lst [.str p.1,.int p.2]))(e:G l=some (.lst xs))(q:Paired (HL H0 G) xs pp):b≠l:=fun z=>by
 rw[z,e] at h
 have e1:xs=[.str p.1,.int p.2]:=HO.lst.inj (Option.some.inj h)
 rw[e1] at q
 cases q with
 | cons r t=>
  obtain⟨b',e2,_⟩:=r
  cases e2
theorem HL.upd{H0 G:Hp}{l:Addr}{xs:List V}{pp:Row}(o:HO)(e:G l=some (.lst xs))(q:Paired (HL H0 G) xs pp):∀{us:List V}{pr:Row},Paired (HL H0 G) us pr->Paired (HL H0 (upd G l o)) us pr
 | _,_,.nil=>.nil
 | _,_,.cons ⟨b,e1,h,n⟩ t=>.cons ⟨b,e1,by rw[z0b (HL.ne h e q)];exact h,n⟩ (HL.upd o e q t)
theorem z3b{α β:Type}{R:α->β->Prop}:∀{xs:List α}{ys:List β}{x:α}{y:β},Paired R xs ys->R x y->Paired R (xs++[x]) (ys++[y])
 | _,_,_,_,.nil,h=>.cons h .nil
 | _,_,_,_,.cons r t,h=>.cons r (z3b t h)
theorem z6i{α β:Type}{R:α->β->Prop}:∀{xs:List α}{ys:List β},Paired R xs ys->∀(i:Nat) (y:β),ys[i]? = some y->∃x,xs[i]? = some x/\R x y
 | _,_,.nil,i,x,e=>by simp at e
 | _,_,.cons r t,0,x,e=>by
  simp at e
  subst e
  exact⟨_,rfl,r⟩
 | _,_,.cons r t,i+1,x,e=>by
  obtain⟨y,h1,h2⟩:=z6i t i x (by simpa using e)
  exact⟨y,by simpa using h1,h2⟩
theorem z6K{α β:Type}{R:α->β->Prop}:∀{xs:List α}{ys:List β}{xs':List α}{ys':List β},Paired R xs ys->Paired R xs' ys'->Paired R (xs++xs') (ys++ys')
 | _,_,_,_,.nil,h=>h
 | _,_,_,_,.cons r t,h=>.cons r (z6K t h)
theorem z6m{α β:Type}{R:α->β->Prop}:∀{xs:List α}{ys:List β} (k:Nat),Paired R xs ys->Paired R (xs.take k) (ys.take k)
 | _,_,0,_=>.nil
 | _,_,_+1,.nil=>.nil
 | _,_,k+1,.cons r t=>.cons r (z6m k t)
theorem z6a{α β:Type}{R:α->β->Prop}:∀{xs:List α}{ys:List β} (k:Nat),Paired R xs ys->Paired R (xs.drop k) (ys.drop k)
 | _,_,0,h=>h
 | _,_,_+1,.nil=>.nil
 | _,_,k+1,.cons r t=>z6a k t
theorem z73{α β:Type}{R:α->β->Prop}{x:α}{y:β}(h:R x y):∀{xs:List α}{ys:List β} (k:Nat),Paired R xs ys->Paired R (xs.set k x) (ys.set k y)
 | _,_,_,.nil=>.nil
 | _,_,0,.cons r t=>.cons h t
 | _,_,k+1,.cons r t=>.cons r (z73 h k t)
theorem GoodR.perm{nm:List Str}{x y:Row}(s:x.Perm y)(g:GoodR nm x):GoodR nm y:=⟨(s.map Prod.fst).nodup_iff.mp g.nd,fun p hp=>g.sub p (s.mem_iff.mpr hp),fun p hp=>g.val p (s.mem_iff.mpr hp)⟩
def w0q(pr:Row):Prop:=∀p∈pr,p.1.length≤100/\Low p.1
structure N4(H G:Hp)(lr ls:Addr)(pr sp:Row):Prop where
 same:A4 H G
 ne:lr≠ls
 fr:H lr=none
 fs:H ls=none
 nmr:w0q pr
 nms:w0q sp
 st:∃us vs,G lr=some (.lst us)/\G ls=some (.lst vs)/\Paired (HL H G) us pr/\Paired (HL H G) vs sp
theorem N4.then{H G G':Hp}{lr ls:Addr}{pr sp:Row}(S:N4 H G lr ls pr sp)(g:A4 G G'):N4 H G' lr ls pr sp:=by
 obtain⟨us,vs,e1,e2,p1,p2⟩:=S.st
 exact⟨S.same.trans g,S.ne,S.fr,S.fs,S.nmr,S.nms,us,vs,g _ _ e1,g _ _ e2,HL.keep g p1,HL.keep g p2⟩
theorem N4.add{H G:Hp}{lr ls l:Addr}{pr sp:Row}{us vs:List V}{z:Str}{k:Int}(S:N4 H G lr ls pr sp)(e1:G lr=some (.lst us))(e2:G ls=some (.lst vs))(p1:Paired (HL H G) us pr)(p2:Paired (HL H G) vs sp)(hl:G l=none)(hz:z.length≤100/\Low z) :
  N4 H (upd (upd G l (.lst [.str z,.int k])) ls (.lst (vs++[.ref l]))) lr ls pr (sp++[(z,k)]):=by
 have g:=z02 hl (.lst [.str z,.int k])
 have q2:=HL.keep g p2
 have u:∀{xs:List V}{x:Row},Paired (HL H (upd G l (.lst [.str z,.int k]))) xs x->Paired (HL H (upd (upd G l (.lst [.str z,.int k])) ls (.lst (vs++[.ref l])))) xs x:=fun h=>HL.upd _ (g _ _ e2) q2 h
 exact⟨z37 (S.same.trans g) S.fs,S.ne,S.fr,S.fs,S.nmr,fun p hp=>(c8.mp hp).elim (S.nms p) fun h=>by rw[bC.mp h];exact hz,us,vs++[.ref l],by rw[z0b S.ne];exact g _ _ e1,A1,u (HL.keep g p1),u (z3b q2 ⟨l,rfl,A1,S.same.free hl⟩)⟩
theorem N4.put{H G:Hp}{lr ls l:Addr}{pr sp:Row}{us vs:List V}{z:Str}{k:Int}{i:Nat}(S:N4 H G lr ls pr sp)(e1:G lr=some (.lst us))(e2:G ls=some (.lst vs))(p1:Paired (HL H G) us pr)(p2:Paired (HL H G) vs sp)(hl:G l=none)(hz:z.length≤100/\Low z) :
  N4 H (upd (upd G l (.lst [.str z,.int k])) lr (.lst (us.set i (.ref l)))) lr ls (pr.set i (z,k)) sp:=by
 have g:=z02 hl (.lst [.str z,.int k])
 have q1:=HL.keep g p1
 have u:∀{xs:List V}{x:Row},Paired (HL H (upd G l (.lst [.str z,.int k]))) xs x->Paired (HL H (upd (upd G l (.lst [.str z,.int k])) lr (.lst (us.set i (.ref l))))) xs x:=fun h=>HL.upd _ (g _ _ e1) q1 h
 exact⟨z37 (S.same.trans g) S.fr,S.ne,S.fr,S.fs,fun p hp=>(List.mem_or_eq_of_mem_set hp).elim (S.nmr p) fun h=>by rw[h];exact hz,S.nms,us.set i (.ref l),vs,A1,by rw[z0b S.ne.symm];exact g _ _ e2,u (z73 ⟨l,rfl,A1,S.same.free hl⟩ i q1),u (HL.keep g p2)⟩
theorem N4.ins{H G:Hp}{lr ls:Addr}{pr sp:Row}{us vs:List V}{u:V}{p:Str×Int}{i:Nat}(S:N4 H G lr ls pr sp)(e1:G lr=some (.lst us))(e2:G ls=some (.lst vs))(p1:Paired (HL H G) us pr)(p2:Paired (HL H G) vs sp)(hu:HL H G u p)(hz:p.1.length≤100/\Low p.1) :
  N4 H (upd G lr (.lst (us.take i++u::us.drop i))) lr ls (pr.take i++p::pr.drop i) sp:=by
 have w:∀{xs:List V}{x:Row},Paired (HL H G) xs x->Paired (HL H (upd G lr (.lst (us.take i++u::us.drop i)))) xs x:=fun h=>HL.upd _ e1 p1 h
 exact⟨z37 S.same S.fr,S.ne,S.fr,S.fs,fun p' hp=>by
  rcases c8.mp hp with h|h
  ·exact S.nmr p' (d9 h)
  rcases bD.mp h with rfl|h
  ·exact hz
  ·exact S.nmr p' (gM h),S.nms,_,vs,A1,by rw[z0b S.ne.symm];exact e2,w (z6K (z6m i p1) (.cons hu (z6a i p1))),w p2⟩
theorem y5c{n:Nat}{k:Int}(h0:0≤k)(h:k<(n:Int)):ixN n k=some k.toNat:=by
 unfold ixN
 rw[if_pos h0,if_pos h]
def SpJ(nm:List Str)(good pr sp:Row):Prop:=(pr=good/\sp=[])\/¬GoodR nm (pr++sp)
def z9I(K:PySem.W.Frag):Sp:=fun vs H Q _=>∃(ln:Addr) (v:V) (nm:List Str) (good:Row) (c:Int),vs=[v,.ref ln,.int c]/\B5 H (U6 good) v/\good.length≤12/\(∀p∈good,p.1∈nm)/\SqL K H ln (nm.map V.str)/\1≤nm.length/\nm.length≤12/\Nms nm/\
 ∀(lr:Addr) (us:List V) (pr:Row) (H':Hp),A4 H H'->H lr=none->H' lr=some (.lst us)->Paired (HL H H') us pr->pr.length≤16->w0q pr->(GoodR nm pr->pr=good)->Q (.ref lr) H'
theorem y1k(M:Bl mg)(F:Fun K "_law_spoilt" "_law_spoilt" z3y f fd)(L6:Cal P w K mg base 1 "_law_strange" z34 (z8E K)):B0 P w K mg base CX0 2 f fd z3C (z9I K):=by
 have nd:=z4E.nd
 refine F.ok z4E (fun vs H Q E h=>?_) (fun cdv A outer s H vs Q E hr h=>?_)
 ·obtain⟨ln,v,nm,good,c,rfl,_⟩:=h
  rfl
 obtain⟨ln,v,nm,good,c,rfl,tv,g12,gsub,hN,n1,n12,Nn,q⟩:=h
 have n20:=Nn.hi
 refine⟨_,(z03 (z55 (i:=3) ["_law_row_here"] [] [] rfl nd rfl (Or.inl rfl) (z0H rfl (by decide +kernel) rfl (by decide +kernel) rfl rfl) (y3i (pv 0)) (fun _ _ _ _ _=>(z0o (i:=0) (show((["_law_row_here"]:List PySem.Str)++([]:List PySem.Str)).Nodup from by decide +kernel) rfl (Or.inl rfl))) (z0R (by decide)) z0t (fun _ _ _ _ _=>z2q) (fun _ _ _ _ _=>(z0z (z7q (K:=K) rfl) rfl M.list fA (z00 (pv 0) z01)))) (z03 (z0e (i:=4) nd rfl (Or.inl rfl) (z0L z01)) (z4f (z0v (z09 z1w (z0a z0u (pv 2) z04) z04 (z0d _)) (z05 (z0n (z2h bM bP bQ z0B (pv 4) (z00 (z0L (z00 (z0r L6 (rm hr) rfl (z00 (pv 1) (z00 (z0a z0y (pv 2) z04) z01))) (z00 (z0a z0u (z0a z0y (pv 2) z04) z04) z01))) z01)))) z0c) (z4f (z0v (z09 z1w (z0a z0u (z0a z0y (pv 2) z04) z04) z04 (z0d _)) (z03 (z0e (i:=5) nd rfl (Or.inl rfl) (z0P z0D (pv 1) (z0a z0u (z0a z0y (pv 2) z04) (z08 z06 rfl M.len bH (z00 (pv 1) z01))) (fun _ _=>rfl))) (z03 (z0n (z2h bM bP bQ z0B (pv 4) (z00 (z0L (z00 (pv 5) (z00 (z0a z0O z04 (z0a z0u (z0a z0y (pv 2) z04) z04)) z01))) z01))) (z05 (z0n (z2h bM bP bQ z0B (pv 4) (z00 (z0L (z00 (pv 5) (z00 (z0a z0O z04 (z0a z0u (z0a z0y (pv 2) z04) z04)) z01))) z01)))))) z0c) (z4f (z0v (PW.pt (z8p (z09 z1w (z0a z0u (z0a z0y (pv 2) z04) z04) z04 (z0d _)) (z8p (z09 z1w (z0a z0u (z0a z0y (pv 2) z04) z04) z04 (z0d _)) (z8R (z09 z2g (z08 z06 rfl M.len bH (z00 (pv 3) z01)) z04 (z0d _)))))) (z03 (z0e (i:=6) nd rfl (Or.inl rfl) (z0a z0u (z0a z0y (pv 2) z04) (z08 z06 rfl M.len bH (z00 (pv 3) z01)))) (z05 (y4J (z0L (z00 (z0P z0D (z0P z0D (pv 3) (pv 6) (fun _ _=>rfl)) z04 (fun _ _=>rfl)) (z00 (z0P z0D (z0L (z00 (z6G z3W z04) (z00 z04 (z00 (z6G z3W z04) (z00 (z0a z3X z04 z04) z01))))) (z0a z0u (z0a z0y (pv 2) z04) z04) (fun _ _=>rfl)) z01))) (y4t (pv 3) (pv 6) y33)))) (z05 (z0v (z09 z1w (z0a z0u (z0a z0y (pv 2) z04) z04) z04 (z0d _)) (z05 (z0n (z2h bM bP bQ z0B (pv 4) (z00 (z0L (z00 (z0P z0D (pv 1) (z0a z0u (z0a z0y (pv 2) z04) (z08 z06 rfl M.len bH (z00 (pv 1) z01))) (fun _ _=>rfl)) (z00 (z0P z0D (z0L (z00 (z6G z3W z04) (z00 z04 (z00 (z6G z3W (z0a z3X z04 z04)) (z00 (z0a z3X z04 z04) z01))))) (z0a z0u (z0a z0y (pv 2) z04) z04) (fun _ _=>rfl)) z01))) z01)))) z0c))) (z03 (z1g cB rfl (z1l rfl M.range (z00 (z08 z06 rfl M.len bH (z00 (pv 4) z01)) z01)) (z0o (i:=7) nd rfl (Or.inl rfl)) (z05 (z0n (z2h bM PySem.F.slot_list_insert PySem.F.type_list_insert y1v (pv 3) (z00 (z0a z0u (z0a z0y (pv 2) z04) (z0a z0O (z08 z06 rfl M.len bH (z00 (pv 3) z01)) z04)) (z00 (z0P z0D (pv 4) (pv 7) (fun _ _=>rfl)) z01)))))) (z05 (z0h (pv 3))))))))),?_⟩
 obtain⟨ar,xs,rfl,er,_,tp⟩:=z1b tv
 have lw:xs.length=good.length:=by rw[tp.length,bA]
 refine⟨_,rfl,ar,rfl,⟨_,SqT.of er⟩,?_⟩
 refine z7P (xs:=xs) (fun j ys H2=>A4 H H2/\Paired (HL H H2) ys (good.take j)) ⟨A4.refl _,by rw[cX];exact .nil⟩ (fun j ys H2 hj hp=>?_) (fun j y ys H2 hy hp=>?_) (fun ys H2 hp=>?_)
 ·obtain⟨g,pr⟩:=hp
  refine⟨SqT.of (g _ _ er),z0i ?_⟩
  rw[pr.length,bO]
  omega
 ·obtain⟨g,pr⟩:=hp
  obtain⟨pq,b,e1,rfl,e2⟩:=z6u tp j y hy
  refine⟨_,rfl,b,_,rfl,.inr (SqT.of (g _ _ e2)),fun l hl=>⟨g.trans (z02 hl _),?_⟩⟩
  rw[dJ,e1]
  exact z3b (HL.keep (z02 hl _) pr) ⟨l,rfl,A1,g.free hl⟩
 obtain⟨g,pr⟩:=hp
 rw[lw,bU] at pr
 intro lr hlr
 have gD:=g.trans (z02 hlr (.lst ys))
 have eD:upd H2 lr (.lst ys) lr=some (.lst ys):=A1
 have pD:=HL.keep (z02 hlr (.lst ys)) pr
 have nlr:H lr=none:=g.free hlr
 generalize upd H2 lr (.lst ys)=H3 at gD eD pD
 refine⟨(by show 0≤sizeLine;decide),fun ls hls=>?_⟩
 have gE:=gD.trans (z02 hls (.lst []))
 have eS:upd H3 ls (.lst []) ls=some (.lst []):=A1
 have eR:=z02 hls (.lst []) _ _ eD
 have pR:=HL.keep (z02 hls (.lst [])) pD
 have nls:H ls=none:=gD.free hls
 have ner:lr≠ls:=fun e=>by rw[e,hls] at eD;cases eD
 have st0:N4 H (upd H3 ls (.lst [])) lr ls good []:=⟨gE,ner,nlr,nls,fun p hp=>⟨cC (n20 _ (gsub p hp)) (by decide),Nn.low _ (gsub p hp)⟩,fun p hp=>(by cases hp),ys,[],eR,eS,pR,.nil⟩
 generalize upd H3 ls (.lst [])=H4 at st0
 clear gE eS eR pR gD eD pD pr g hlr hls tp er lw tv
 refine⟨fun σ G=>∃(sp:Row),N4 H G lr ls good sp/\sp.length≤1/\SpJ nm good good sp/\σ=[some (.ref ar),some (.ref ln),some (.int c),some (.ref lr),some (.ref ls),none,none,none],?_,?_⟩
 rotate_left
 ·rintro σ G ⟨sp,st,l1,J,rfl⟩
  refine⟨fun σ G=>∃(sp:Row) (o5:Option V),N4 H G lr ls good sp/\sp.length≤3/\SpJ nm good good sp/\σ=[some (.ref ar),some (.ref ln),some (.int c),some (.ref lr),some (.ref ls),o5,none,none],?_,?_⟩
  rotate_left
  ·rintro σ G ⟨sp,o5,st,l3,J,rfl⟩
   refine⟨fun σ G=>∃(pr sp:Row) (o5 o6:Option V),N4 H G lr ls pr sp/\pr.length≤12/\sp.length≤4/\SpJ nm good pr sp/\σ=[some (.ref ar),some (.ref ln),some (.int c),some (.ref lr),some (.ref ls),o5,o6,none],?_,?_⟩
   rotate_left
   ·rintro σ G ⟨pr,sp,o5,o6,st,r12,l4,J,rfl⟩
    obtain⟨us,vs,e1,e2,p1,p2⟩:=st.st
    refine⟨_,rfl,ls,vs,rfl,.inl (SqL.of e2),_,rfl,by omega,by rw[p2.length];omega,?_⟩
    refine z1H (lo:=0) (n:=((vs.length:Nat):Int).toNat) (fun j σ H'=>∃(cur:Row) (o7:Option V),N4 H H' lr ls cur sp/\H' ls=some (.lst vs)/\cur.Perm (pr++sp.take j)/\(j=0->cur=pr)/\
      σ=[some (.ref ar),some (.ref ln),some (.int c),some (.ref lr),some (.ref ls),o5,o6,o7])
     ⟨pr,none,st,e2,by rw[cX,cQ],fun _=>rfl,rfl⟩ (fun j σ H' hj hp=>?_) (fun σ H' hp=>?_)
    ·obtain⟨cur,o7,S,eS,pm,_,rfl⟩:=hp
     obtain⟨us',vs',eR,eS',pR,pS⟩:=S.st
     obtain rfl:vs'=vs:=HO.lst.inj (Option.some.inj (eS'.symm.trans eS))
     have hj':j<sp.length:=by rw[<- pS.length];omega
     obtain⟨u,eu,hu⟩:=z6i pS j sp[j] (bG hj')
     have lc:us'.length≤16:=by
      rw[pR.length,pm.length_eq,bE,bO]
      omega
     have i0:0≤c / 256%((us'.length:Int)+1):=cA _ (by omega)
     have i1:c / 256%((us'.length:Int)+1)<(us'.length:Int)+1:=bS _ (by omega)
     have ez:(0:Int)+(j:Int)=j:=fR _
     rw[ez]
     refine⟨_,rfl,.inl ⟨rfl,_,SqL.of eR⟩,_,rfl,_,_,rfl,rfl,⟨by decide,by decide⟩,_,rfl,lr,us',rfl,.inl (SqL.of eR),_,_,rfl,rfl,_,_,rfl,rfl,by omega,_,rfl,_,rfl,ls,_,_,_,rfl,rfl,SqL.of eS,z1p eu,lr,us',_,u,rfl,rfl,eR,i0,by omega,z0i (by omega),?_⟩
     have hm:sp[j]∈sp:=dE hj'
     refine⟨_,_,S.ins eR eS pR pS hu (S.nms _ hm),by rw[z0b S.ne.symm];exact eS,?_,fun h=>absurd h (Nat.succ_ne_zero _),rfl⟩
     rw[dJ,bG hj',Option.toList_some,<- dR]
     refine(List.perm_middle.trans (List.Perm.cons _ ?_)).trans (List.perm_append_singleton _ _).symm
     rw[List.take_append_drop]
     exact pm
    ·obtain⟨cur,o7,S,eS,pm,z0,rfl⟩:=hp
     obtain⟨us',vs',eR,eS',pR,pS⟩:=S.st
     have lv:(((vs.length:Nat):Int).toNat)=sp.length:=by rw[<- p2.length];omega
     rw[lv,bU] at pm
     refine⟨_,rfl,q lr us' cur H' S.same S.fr eR pR ?_ S.nmr fun gg=>?_⟩
     ·rw[pm.length_eq,bE]
      omega
     ·rcases J with ⟨j1,j2⟩|j
      ·rw[z0 (by rw[lv,j2];rfl),j1]
      ·exact absurd (gg.perm pm) j
   obtain⟨us,vs,e1,e2,p1,p2⟩:=st.st
   have lu:=p1.length
   have lv:=p2.length
   have bad:∀ks:List Int,ks.length=4->(∀k∈ks,k<0\/1000000<k)->∃k,atI (ks.map V.int) (c / 64%4)=some (.int k)/\(k<0\/1000000<k):=fun ks l4 hk=>by
    have h1:=cA (c / 64) (show(4:Int)≠0 by decide)
    have h2:=bS (c / 64) (show(0:Int)<4 by decide)
    refine⟨_,z8T h1 (by rw[l4];exact h2),?_⟩
    rw[bY,bG (by omega)]
    exact hk _ (dE _)
   obtain⟨k1,ak1,bk1⟩:=bad [-1,1000001,-1000000,10^(30:Int).toNat] rfl (by decide)
   obtain⟨k2,ak2,bk2⟩:=bad [-1,1000001,-(2^(40:Int).toNat),10^(30:Int).toNat] rfl (by decide)
   have ths:∀{x:Row}{z:Str}{k:Int},(z,k)∈x->(k<0\/1000000<k)->¬GoodR nm x:=fun m b gg=>by have:=gg.val _ m;omega
   refine⟨_,rfl,_,_,rfl,rfl,⟨by decide,by decide⟩,_,_,rfl,rfl,(by show(0:Int)<2;decide),rfl,_,rfl,B3 (fun _=>⟨_,rfl,_,_,rfl,rfl,⟨by decide,by decide⟩,_,_,rfl,rfl,(by show(0:Int)<2;decide),rfl,_,rfl,B3 (fun _=>⟨_,rfl,lr,us,rfl,.inl (SqL.of e1),_,_,rfl,rfl,_,rfl,B3 (fun hl=>?_) (fun _=>?_)⟩) (fun _=>C2 ?_)⟩) (fun _=>C2 ?_)⟩
   ·have l0:=z0x hl
    have i0:0≤c / 16%(us.length:Int):=cA _ (by omega)
    have i1:c / 16%(us.length:Int)<(us.length:Int):=bS _ (by omega)
    refine⟨_,rfl,_,_,rfl,rfl,⟨by decide,by decide⟩,_,rfl,lr,us,rfl,.inl (SqL.of e1),_,_,rfl,rfl,l0,?_⟩
    obtain⟨pn,epn⟩:=Int.eq_ofNat_of_zero_le i0
    have hp:pn<us.length:=by omega
    have hg:pn<good.length:=by omega
    obtain⟨u,eu,b,rfl,eb,nb⟩:=z6i p1 pn good[pn] (bG hg)
    have mg:=dE hg
    refine⟨_,rfl,_,rfl,lr,_,_,_,rfl,rfl,SqL.of e1,(by rw[epn];exact z1p eu),b,_,_,_,rfl,rfl,SqL.of eb,rfl,?_⟩
    refine⟨_,rfl,_,rfl,_,_,rfl,rfl,⟨by decide,by decide,by decide⟩,(by show 4≤sizeLine;decide),fun lb hlb=>?_⟩
    have sb:=z02 hlb (.lst ([-1,1000001,-1000000,10^(30:Int).toNat].map V.int))
    refine⟨_,rfl,_,_,rfl,rfl,⟨by decide,by decide⟩,_,_,rfl,rfl,(by show(0:Int)<4;decide),lb,_,_,_,rfl,rfl,SqL.of A1,ak1,(by show 2≤sizeLine;decide),fun l hl=>?_⟩
    have stb:=st.then sb
    have sg:=z02 hl (.lst [.str good[pn].1,.int k1])
    refine⟨_,rfl,_,rfl,lr,us,_,pn,rfl,rfl,sg _ _ (sb _ _ e1),(by rw[epn];exact y5c (Int.natCast_nonneg _) (by omega)),?_⟩
    refine⟨_,sp,_,_,stb.put (i:=pn) (k:=k1) (sb _ _ e1) (sb _ _ e2) (HL.keep sb p1) (HL.keep sb p2) hl (st.nmr _ mg),by rw[List.length_set];exact g12,by omega,.inr (ths (z:=good[pn].1) (k:=k1) (dU _ ?_) bk1),rfl⟩
    exact List.mem_set hg _
   all_goals
    refine⟨_,rfl,_,_,rfl,rfl,⟨by decide,by decide⟩,_,_,rfl,rfl,(by show(0:Int)<2;decide),rfl,_,rfl,B3 (fun _=>?_) (fun _=>⟨good,sp,_,_,st,g12,by omega,J,rfl⟩)⟩
    have i0:0≤c / 16%(nm.length:Int):=cA _ (by omega)
    have i1:c / 16%(nm.length:Int)<(nm.length:Int):=bS _ (by omega)
    obtain⟨z,ez,az⟩:=z7H i0 i1
    have mz:=bZ ez
    have okz:z.length≤100/\Low z:=⟨cC (n20 z mz) (by decide),Nn.low z mz⟩
    have hN0:=st.same.seq hN
    refine⟨_,rfl,.inl ⟨rfl,_,SqL.of e2⟩,_,rfl,_,rfl,_,_,rfl,rfl,⟨by decide,by decide⟩,_,rfl,ln,_,rfl,.inl hN0,_,_,rfl,rfl,(by rw[bA];omega),ln,_,_,_,rfl,rfl,hN0,(by rw[bA];exact az),?_⟩
    refine⟨_,rfl,_,_,rfl,rfl,⟨by decide,by decide,by decide⟩,_,rfl,_,_,rfl,rfl,⟨by decide,by decide,by decide⟩,(by show 4≤sizeLine;decide),fun lb hlb=>?_⟩
    have sb:=z02 hlb (.lst ([-1,1000001,-(2^(40:Int).toNat),10^(30:Int).toNat].map V.int))
    refine⟨_,rfl,_,_,rfl,rfl,⟨by decide,by decide⟩,_,_,rfl,rfl,(by show(0:Int)<4;decide),lb,_,_,_,rfl,rfl,SqL.of A1,ak2,(by show 2≤sizeLine;decide),fun l hl=>?_⟩
    have stb:=st.then sb
    have sg:=z02 hl (.lst [.str z,.int k2])
    refine⟨ls,_,_,rfl,rfl,sg _ _ (sb _ _ e2),z0i (by omega),?_⟩
    exact⟨good,_,_,_,stb.add (k:=k2) (sb _ _ e1) (sb _ _ e2) (HL.keep sb p1) (HL.keep sb p2) hl okz,g12,by rw[bE];show sp.length+1≤4;omega,.inr (ths (z:=z) (k:=k2) (c7 _ (c7 _ (bC.mpr rfl))) bk2),rfl⟩
  obtain⟨us,vs,e1,e2,p1,p2⟩:=st.st
  have lv:=p2.length
  refine⟨_,rfl,_,_,rfl,rfl,⟨by decide,by decide⟩,_,_,rfl,rfl,(by show(0:Int)<2;decide),rfl,_,rfl,B3 (fun _=>?_) (fun _=>⟨sp,none,st,by omega,J,rfl⟩)⟩
  have i0:0≤c / 16%(nm.length:Int):=cA _ (by omega)
  have i1:c / 16%(nm.length:Int)<(nm.length:Int):=bS _ (by omega)
  obtain⟨z,ez,az⟩:=z7H i0 i1
  have mz:=bZ ez
  have okz:z.length≤100/\Low z:=⟨cC (n20 z mz) (by decide),Nn.low z mz⟩
  have hN0:=st.same.seq hN
  refine⟨_,rfl,_,rfl,_,_,rfl,rfl,⟨by decide,by decide⟩,_,rfl,ln,_,rfl,.inl hN0,_,_,rfl,rfl,(by rw[bA];omega),ln,_,_,_,rfl,rfl,hN0,(by rw[bA];exact az),?_⟩
  refine⟨_,rfl,.inl ⟨rfl,_,SqL.of e2⟩,_,rfl,_,rfl,_,_,rfl,rfl,⟨by decide,by decide⟩,_,_,rfl,rfl,(by show(0:Int)<3;decide),_,_,rfl,rfl,(by show 2≤sizeLine;decide),fun l hl=>?_⟩
  have sg:=z02 hl (.lst [.str z,.int (1+c / 16%3)])
  refine⟨ls,_,_,rfl,rfl,sg _ _ e2,z0i (by omega),?_⟩
  have st1:=st.add (k:=1+c / 16%3) e1 e2 p1 p2 hl okz
  generalize upd (upd G l (.lst [.str z,.int (1+c / 16%3)])) ls (.lst (vs++[.ref l]))=G1 at st1
  obtain⟨us1,vs1,f1,f2,q1,q2⟩:=st1.st
  have lv1:=q2.length
  rw[bE] at lv1
  have lv2:vs1.length=sp.length+1:=lv1
  refine⟨_,rfl,.inl ⟨rfl,_,SqL.of f2⟩,_,rfl,_,rfl,_,_,rfl,rfl,⟨by decide,by decide⟩,_,_,rfl,rfl,(by show(0:Int)<3;decide),_,_,rfl,rfl,(by show 2≤sizeLine;decide),fun l' hl'=>?_⟩
  have sg':=z02 hl' (.lst [.str z,.int (1+c / 64%3)])
  refine⟨ls,_,_,rfl,rfl,sg' _ _ f2,z0i (by omega),?_⟩
  refine⟨_,_,st1.add (k:=1+c / 64%3) f1 f2 q1 q2 hl' okz,?_,.inr fun gg=>?_,rfl⟩
  ·rw[bE,bE]
   show sp.length+1+1≤3
   omega
  ·have:=gg.nd
   rw[bR,bR,bR,dR] at this
   have h2:=(fB.mp (fB.mp this).2.1).2.1
   exact(d6.mp h2).1 (bC.mpr rfl)
 obtain⟨us,vs,e1,e2,p1,p2⟩:=st0.st
 refine⟨_,rfl,_,_,rfl,rfl,(by show(0:Int)<2;decide),rfl,_,rfl,B3 (fun _=>?_) (fun _=>⟨[],st0,cL _,.inl ⟨rfl,rfl⟩,rfl⟩)⟩
 refine⟨_,rfl,.inl ⟨rfl,_,SqL.of e2⟩,_,rfl,_,rfl,_,_,rfl,rfl,⟨by decide,by decide⟩,ln,nm,c / 8,rfl,st0.same.seq hN,n1,n12,Nn,fun z G s1 hz lz nz=>?_⟩
 have st1:=st0.then s1
 refine⟨_,rfl,_,_,rfl,rfl,⟨by decide,by decide⟩,_,_,rfl,rfl,(by show(0:Int)<5;decide),(by show 2≤sizeLine;decide),fun l hl=>?_⟩
 have sg:=z02 hl (.lst [.str z,.int (c / 16%5)])
 refine⟨ls,_,_,rfl,rfl,sg _ _ (s1 _ _ e2),z0i (by rw[p2.length];decide),?_⟩
 refine⟨[]++[(z,c / 16%5)],st1.add (s1 _ _ e1) (s1 _ _ e2) (HL.keep s1 p1) (HL.keep s1 p2) hl ⟨hz,lz⟩,bF _,.inr fun gg=>nz (gg.sub (z,c / 16%5) (c7 _ (by simp))),rfl⟩
def S4(z:Str):DV:=.tup [.str "refused",.str z]
def z51:List Str:=["OfficeFull","UnknownName","NameTwice","BadValue","NotWritten","BookFull","UnknownReader","NoSuchDeed","BadNames","BadReach","BadReaders","TooManyCourses"]
def DueW(nm:List Str)(rows:List Row)(pr:Row)(i:Nat):Prop:=(60≤rows.length/\i=0)\/(rows.length<60/\(((∃p∈pr,p.1∉nm)/\i=1)\/((∀p∈pr,p.1∈nm)/\¬(pr.map Prod.fst).Nodup/\i=2)\/((∀p∈pr,p.1∈nm)/\(pr.map Prod.fst).Nodup/\(∃p∈pr,p.2<0\/1000000<p.2)/\i=3)))
def w1J(nm:List Str)(rows:List Row)(log:List B2)(pr:Row)(i:Nat):Prop:=DueW nm rows pr i\/(rows.length<60/\GoodR nm pr/\pr.length≤12/\400≤log.length/\i=5)
def DueD(rows:List Row)(log:List B2)(k rd n:Int)(i:Nat):Prop:=((n<1\/(rows.length:Int)<n)/\i=4)\/(1≤n/\n≤rows.length/\(((rd<1\/k<rd)/\i=6)\/(1≤rd/\rd≤k/\400≤log.length/\i=5)))
def DueS(log:List B2)(k rd:Int)(dv:V)(i:Nat):Prop:=(∃d:Int,dv=.int d/\(d<0\/(log.length:Int)<d)/\i=7)\/((dv=.non\/∃d:Int,dv=.int d/\0≤d/\d≤log.length)/\(rd<1\/k<rd)/\i=6)
def z8P(K:PySem.W.Frag)(Bk:BkP):Sp:=fun vs H Q _=>∃(th:Str) (p:Addr) (v two:V) (fp:List Addr) (zs:List Str) (r k:Int) (rows:List Row) (log:List B2),vs=[.str th,.ref p,v,two]/\Bk H p fp zs r k rows log/\
 ((th="write"/\∃pr,z9Q K H fp v pr/\GoodR zs pr/\pr.length≤12/\rows.length<60/\log.length<400/\∀(fp':List Addr) (H':Hp),(∀b∈fp',b∈fp\/H b=none)->z0s fp H H'->Bk H' p fp' zs r k (rows++[z10 zs pr]) (log++[(none,(rows.length:Int)+1)])->Q (.int (rows.length+1)) H')\/
  (th="write"/\∃(a:Addr) (us:List V) (pr:Row) (i:Nat),v=.ref a/\SqP K H a us/\Paired (z1n K H) us pr/\pr.length≤100/\(∀p∈pr,p.1.length≤1000/\Low p.1)/\w1J zs rows log pr i/\∀(u:V) (H':Hp),A4 H H'->B5 H' (S4 (z51.getD i "")) u->Q u H')\/
  (th="deliver"/\∃(rd n:Int),v=.int rd/\two=.int n/\1≤rd/\rd≤k/\1≤n/\n≤rows.length/\log.length<400/\∀(H':Hp),z0s fp H H'->Bk H' p fp zs r k rows (log++[(some rd,n)])->Q (.bl (decide (((some rd,n):B2)∉log))) H')\/
  (th="deliver"/\∃(rd n:Int) (i:Nat),v=.int rd/\two=.int n/\DueD rows log k rd n i/\∀(u:V) (H':Hp),A4 H H'->B5 H' (S4 (z51.getD i "")) u->Q u H')\/
  (th="issue"/\∃(n:Int) (i:Nat),v=.int n/\(n<1\/(rows.length:Int)<n)/\i=4/\∀(u:V) (H':Hp),A4 H H'->B5 H' (S4 (z51.getD i "")) u->Q u H')\/
  (th="deed"/\∃(n:Int) (i:Nat),v=.int n/\(n<1\/(log.length:Int)<n)/\i=7/\∀(u:V) (H':Hp),A4 H H'->B5 H' (S4 (z51.getD i "")) u->Q u H')\/
  (th="shelf"/\∃(rd:Int) (i:Nat),v=.int rd/\DueS log k rd two i/\∀(u:V) (H':Hp),A4 H H'->B5 H' (S4 (z51.getD i "")) u->Q u H'))
theorem y2t{A0 A2 A6 CBadNames CBadReach CBadReaders COfficeFull CUnknownName CNameTwice CBadValue CNotWritten CUnknownReader CBookFull CNoSuchDeed CTooManyCourses CBackError:Addr}(M:Bl mg)(F:Fun K "_law_done" "_law_done" z52 f fd)
  (Q0:Err K mg "BackError" CBackError) (R6:Err K mg "BadNames" CBadNames) (R5:Err K mg "BadReach" CBadReach) (N9:Err K mg "BadReaders" CBadReaders) (F5:Err K mg "OfficeFull" COfficeFull) (E8:Err K mg "UnknownName" CUnknownName) (I0:Err K mg "NameTwice" CNameTwice) (K4:Err K mg "BadValue" CBadValue) (F4:Err K mg "NotWritten" CNotWritten) (D8:Err K mg "UnknownReader" CUnknownReader) (K3:Err K mg "BookFull" CBookFull) (C9:Err K mg "NoSuchDeed" CNoSuchDeed) (J5:Err K mg "TooManyCourses" CTooManyCourses)
  (ers:V1 K CBackError [CBadNames,CBadReach,CBadReaders,COfficeFull,CUnknownName,CNameTwice,CBadValue,CNotWritten,CUnknownReader,CBookFull,CNoSuchDeed,CTooManyCourses])
  (M4:F6 P w K mg base 5 A2 "write" z2n (F3 (z4y K (BkD K A2 A0)) (z4Q K (BkD K A2 A0) COfficeFull CUnknownName CNameTwice CBadValue CBookFull)))
  (K7:F6 P w K mg base 5 A2 "deliver" z1R (F3 (z39 (BkD K A2 A0)) (z3r (BkD K A2 A0) CNotWritten CUnknownReader CBookFull)))
  (N0:F6 P w K mg base 2 A2 "issue" z3c (F3 (z6p (BkD K A2 A0)) (z75 (BkD K A2 A0) CNotWritten)))
  (N6:F6 P w K mg base 1 A2 "deed" z2R (F3 (z5I (BkD K A2 A0)) (z8t (BkD K A2 A0) CNoSuchDeed)))
  (M3:F6 P w K mg base 6 A2 "shelf" z1k (F3 (z2l (BkD K A2 A0) (ShD K A6)) (z53 (BkD K A2 A0) CNoSuchDeed CUnknownReader))):B0 P w K mg base CX0 7 f fd z3J (z8P K (BkD K A2 A0)):=by
 have nd:=z6e.nd
 refine F.ok z6e (fun vs H Q E h=>?_) (fun cdv A outer s H vs Q E hr h=>?_)
 ·obtain⟨th,p,v,two,fp,zs,r,k,rows,log,rfl,_⟩:=h
  rfl
 obtain⟨th,p,v,two,fp,zs,r,k,rows,log,rfl,bk,cases4⟩:=h
 refine⟨_,(z03 (z0e (i:=4) nd rfl (Or.inl rfl) (z0L (z00 z2v z01))) (z03 (z0e (i:=5) nd rfl (Or.inl rfl) z2v) (z4f (y4R (i:=6) Q0 rfl nd rfl rfl rfl rfl (fun _ _=>(z03 (z0v (z09 z1w (pv 0) z0l (z0d _)) (z05 (z0h (z1S z65 M4 (rm hr) (pv 1) (z00 (pv 2) z01)))) z0c) (z03 (z0v (z09 z1w (pv 0) z0l (z0d _)) (z05 (z0h (z1S z65 N0 (rm hr) (pv 1) (z00 (pv 2) z01)))) z0c) (z03 (z0v (z09 z1w (pv 0) z0l (z0d _)) (z05 (z0h (z1S z65 K7 (rm hr) (pv 1) (z00 (pv 2) (z00 (pv 3) z01))))) z0c) (z03 (z0v (z09 z1w (pv 0) z0l (z0d _)) (z05 (z0h (z1S z65 N6 (rm hr) (pv 1) (z00 (pv 2) z01)))) z0c) (z05 (z0h (z1S z65 M3 (rm hr) (pv 1) (z00 (pv 2) (z00 (pv 3) z01)))))))))) (fun _ _=>(z03 (z0e (i:=5) nd rfl (Or.inl rfl) (z08 (y1o (K:=K) rfl) rfl M.isinstance bL (z00 (pv 6) (z00 (z35 (v:=.ty "ValueError") rfl M.ValueError y41 rfl) z01)))) (z03 (z0e (i:=4) nd rfl (Or.inl rfl) (z0L (z00 (z08 (z1z (K:=K) rfl) rfl M.isinstance bL (z00 (pv 6) (z00 (z3j rfl F5.mgC) z01))) (z00 (z08 (z1z (K:=K) rfl) rfl M.isinstance bL (z00 (pv 6) (z00 (z3j rfl E8.mgC) z01))) (z00 (z08 (z1z (K:=K) rfl) rfl M.isinstance bL (z00 (pv 6) (z00 (z3j rfl I0.mgC) z01))) z01))))) (z03 (z0e (i:=4) nd rfl (Or.inl rfl) (z0a z4M (pv 4) (z0L (z00 (z08 (z1z (K:=K) rfl) rfl M.isinstance bL (z00 (pv 6) (z00 (z3j rfl K4.mgC) z01))) (z00 (z08 (z1z (K:=K) rfl) rfl M.isinstance bL (z00 (pv 6) (z00 (z3j rfl F4.mgC) z01))) (z00 (z08 (z1z (K:=K) rfl) rfl M.isinstance bL (z00 (pv 6) (z00 (z3j rfl K3.mgC) z01))) z01)))))) (z03 (z0e (i:=4) nd rfl (Or.inl rfl) (z0a z4M (pv 4) (z0L (z00 (z08 (z1z (K:=K) rfl) rfl M.isinstance bL (z00 (pv 6) (z00 (z3j rfl D8.mgC) z01))) (z00 (z08 (z1z (K:=K) rfl) rfl M.isinstance bL (z00 (pv 6) (z00 (z3j rfl C9.mgC) z01))) z01))))) (z03 (z0e (i:=4) nd rfl (Or.inl rfl) (z0a z4M (pv 4) (z0L (z00 (z08 (z1z (K:=K) rfl) rfl M.isinstance bL (z00 (pv 6) (z00 (z3j rfl R6.mgC) z01))) (z00 (z08 (z1z (K:=K) rfl) rfl M.isinstance bL (z00 (pv 6) (z00 (z3j rfl R5.mgC) z01))) (z00 (z08 (z1z (K:=K) rfl) rfl M.isinstance bL (z00 (pv 6) (z00 (z3j rfl N9.mgC) z01))) z01)))))) (z05 (z0e (i:=4) nd rfl (Or.inl rfl) (z0a z4M (pv 4) (z0L (z00 (z08 (z1z (K:=K) rfl) rfl M.isinstance bL (z00 (pv 6) (z00 (z3j rfl J5.mgC) z01))) z01)))))))))))) (z03 (z0v (PW.pt (z2G (z3h (z2Q (pv 5))) (z1E (z09 z7O (z2h bM PySem.F.slot_list_count PySem.F.type_list_count z7Q (pv 4) (z00 z2v z01)) z04 (z0d _))))) (z05 (z0h y3u)) z0c) (z03 (z0e (i:=7) nd rfl (Or.inl rfl) (z0L (z00 z0l (z00 z0l (z00 z0l (z00 z0l (z00 z0l (z00 z0l z01)))))))) (z03 (z0e (i:=7) nd rfl (Or.inl rfl) (z0a z4M (pv 7) (z0L (z00 z0l (z00 z0l (z00 z0l (z00 z0l (z00 z0l (z00 z0l z01))))))))) (z05 (z0h (z1j (z00 z0l (z00 (z0P z0D (pv 7) (z2h bM PySem.F.slot_list_index PySem.F.type_list_index y15 (pv 4) (z00 z2v z01)) (fun _ _=>rfl)) z01))))))))))),?_⟩
 refine⟨(by show 1≤sizeLine;decide),fun lf hlf=>?_⟩
 have s0:=z02 hlf (.lst [V.bl false])
 have bk0:=S3.same bk s0
 generalize upd H lf (.lst [V.bl false])=H0 at s0 bk0
 refine⟨fun σ G=>∃(la:Addr) (i:Nat),A4 H G/\i<8/\(∀(u:V) (H':Hp),A4 H H'->B5 H' (S4 (z51.getD i "")) u->Q u H')/\G la=some (.lst ((List.range 12).map fun j=>V.bl (j == i)))/\σ=[some (.str th),some (.ref p),some v,some two,some (.ref la),some (.bl true),none,none],?_,?_⟩
 rotate_left
 ·rintro σ G ⟨la,i,g,hi,q,ea,rfl⟩
  have hi8:i=0\/i=1\/i=2\/i=3\/i=4\/i=5\/i=6\/i=7:=by omega
  rcases hi8 with rfl|rfl|rfl|rfl|rfl|rfl|rfl|rfl
  all_goals
   refine⟨_,rfl,_,rfl,C2 ⟨_,rfl,.inl ⟨rfl,_,SqL.of ea⟩,la,_,_,rfl,rfl,SqL.of ea,rfl,rfl,rfl,_,rfl,y2g rfl ?_⟩⟩
   refine⟨(by show 6≤sizeLine;decide),fun l1 hl1=>⟨_,rfl,(by show 6≤sizeLine;decide),fun l2 hl2=>?_⟩⟩
   have s2:=(z02 hl1 (.lst [V.str "OfficeFull",V.str "UnknownName",V.str "NameTwice",V.str "BadValue",V.str "NotWritten",V.str "BookFull"])).trans (z02 hl2 (.lst [V.str "UnknownReader",V.str "NoSuchDeed",V.str "BadNames",V.str "BadReach",V.str "BadReaders",V.str "TooManyCourses"]))
   refine⟨l1,l2,_,_,rfl,rfl,z02 hl2 _ _ _ A1,A1,(by show 12≤sizeLine;decide),fun l3 hl3=>?_⟩
   have s3:=s2.trans (z02 hl3 (.lst (z51.map V.str)))
   first
    | exact⟨_,rfl,_,rfl,.inl ⟨rfl,_,SqL.of (s3 _ _ ea)⟩,la,_,_,0,rfl,rfl,SqL.of (s3 _ _ ea),rfl,rfl,(by decide),rfl,(by decide),l3,_,_,_,rfl,rfl,SqL.of A1,rfl,(by show 2≤sizeLine;decide),fun t ht=>q _ _ (g.trans (s3.trans (z02 ht _))) (z0J A1 (by show 2≤1000000;decide) (.cons (z0A _) (.cons (z0A _) .nil)))⟩
    | exact⟨_,rfl,_,rfl,.inl ⟨rfl,_,SqL.of (s3 _ _ ea)⟩,la,_,_,1,rfl,rfl,SqL.of (s3 _ _ ea),rfl,rfl,(by decide),rfl,(by decide),l3,_,_,_,rfl,rfl,SqL.of A1,rfl,(by show 2≤sizeLine;decide),fun t ht=>q _ _ (g.trans (s3.trans (z02 ht _))) (z0J A1 (by show 2≤1000000;decide) (.cons (z0A _) (.cons (z0A _) .nil)))⟩
    | exact⟨_,rfl,_,rfl,.inl ⟨rfl,_,SqL.of (s3 _ _ ea)⟩,la,_,_,2,rfl,rfl,SqL.of (s3 _ _ ea),rfl,rfl,(by decide),rfl,(by decide),l3,_,_,_,rfl,rfl,SqL.of A1,rfl,(by show 2≤sizeLine;decide),fun t ht=>q _ _ (g.trans (s3.trans (z02 ht _))) (z0J A1 (by show 2≤1000000;decide) (.cons (z0A _) (.cons (z0A _) .nil)))⟩
    | exact⟨_,rfl,_,rfl,.inl ⟨rfl,_,SqL.of (s3 _ _ ea)⟩,la,_,_,3,rfl,rfl,SqL.of (s3 _ _ ea),rfl,rfl,(by decide),rfl,(by decide),l3,_,_,_,rfl,rfl,SqL.of A1,rfl,(by show 2≤sizeLine;decide),fun t ht=>q _ _ (g.trans (s3.trans (z02 ht _))) (z0J A1 (by show 2≤1000000;decide) (.cons (z0A _) (.cons (z0A _) .nil)))⟩
    | exact⟨_,rfl,_,rfl,.inl ⟨rfl,_,SqL.of (s3 _ _ ea)⟩,la,_,_,4,rfl,rfl,SqL.of (s3 _ _ ea),rfl,rfl,(by decide),rfl,(by decide),l3,_,_,_,rfl,rfl,SqL.of A1,rfl,(by show 2≤sizeLine;decide),fun t ht=>q _ _ (g.trans (s3.trans (z02 ht _))) (z0J A1 (by show 2≤1000000;decide) (.cons (z0A _) (.cons (z0A _) .nil)))⟩
    | exact⟨_,rfl,_,rfl,.inl ⟨rfl,_,SqL.of (s3 _ _ ea)⟩,la,_,_,5,rfl,rfl,SqL.of (s3 _ _ ea),rfl,rfl,(by decide),rfl,(by decide),l3,_,_,_,rfl,rfl,SqL.of A1,rfl,(by show 2≤sizeLine;decide),fun t ht=>q _ _ (g.trans (s3.trans (z02 ht _))) (z0J A1 (by show 2≤1000000;decide) (.cons (z0A _) (.cons (z0A _) .nil)))⟩
    | exact⟨_,rfl,_,rfl,.inl ⟨rfl,_,SqL.of (s3 _ _ ea)⟩,la,_,_,6,rfl,rfl,SqL.of (s3 _ _ ea),rfl,rfl,(by decide),rfl,(by decide),l3,_,_,_,rfl,rfl,SqL.of A1,rfl,(by show 2≤sizeLine;decide),fun t ht=>q _ _ (g.trans (s3.trans (z02 ht _))) (z0J A1 (by show 2≤1000000;decide) (.cons (z0A _) (.cons (z0A _) .nil)))⟩
    | exact⟨_,rfl,_,rfl,.inl ⟨rfl,_,SqL.of (s3 _ _ ea)⟩,la,_,_,7,rfl,rfl,SqL.of (s3 _ _ ea),rfl,rfl,(by decide),rfl,(by decide),l3,_,_,_,rfl,rfl,SqL.of A1,rfl,(by show 2≤sizeLine;decide),fun t ht=>q _ _ (g.trans (s3.trans (z02 ht _))) (z0J A1 (by show 2≤1000000;decide) (.cons (z0A _) (.cons (z0A _) .nil)))⟩
 refine⟨fun σ' C H'=>∃(i:Nat) (C0:Addr),i<8/\(∀(u:V) (H':Hp),A4 H H'->B5 H' (S4 (z51.getD i "")) u->Q u H')/\C0=[COfficeFull,CUnknownName,CNameTwice,CBadValue,CNotWritten,CBookFull,CUnknownReader,CNoSuchDeed].getD i 0/\C=.ref C0/\A4 H H'/\σ'=[some (.str th),some (.ref p),some v,some two,some (.ref lf),some (.bl true),none,none],?_,?_⟩
 rotate_left
 ·rintro σ' C H' ⟨i,C0,hi,hq,hc,rfl,g,rfl⟩
  have mem:C0∈[CBadNames,CBadReach,CBadReaders,COfficeFull,CUnknownName,CNameTwice,CBadValue,CNotWritten,CUnknownReader,CBookFull,CNoSuchDeed,CTooManyCourses]:=by
   have hi8:i=0\/i=1\/i=2\/i=3\/i=4\/i=5\/i=6\/i=7:=by omega
   rcases hi8 with rfl|rfl|rfl|rfl|rfl|rfl|rfl|rfl<;>(subst hc;simp)
  obtain⟨un,xc⟩:=ers.one mem
  refine⟨⟨C0,rfl,un⟩,fun a ha=>?_⟩
  have s1:=g.trans (z02 ha (R0 a (.ref C0)))
  have ea:upd H' a (R0 a (.ref C0)) a=some (R0 a (.ref C0)):=A1
  generalize upd H' a (R0 a (.ref C0))=G0 at s1 ea
  refine⟨_,rfl,a,C0,"ValueError",true,rfl,ea,xc,xc.hv,?_⟩
  refine⟨_,rfl,a,C0,COfficeFull,_,rfl,ea,xc,ers.two mem (by simp),_,rfl,a,C0,CUnknownName,_,rfl,ea,xc,ers.two mem (by simp),_,rfl,a,C0,CNameTwice,_,rfl,ea,xc,ers.two mem (by simp),(by show 3≤sizeLine;decide),fun l0 hl0=>?_⟩
  have t:=z02 hl0 (.lst [V.bl (C0 == COfficeFull),V.bl (C0 == CUnknownName),V.bl (C0 == CNameTwice)])
  have e:upd G0 l0 (.lst [V.bl (C0 == COfficeFull),V.bl (C0 == CUnknownName),V.bl (C0 == CNameTwice)]) l0=_:=A1
  replace ea:=t _ _ ea
  replace s1:=s1.trans t
  clear t
  generalize upd G0 l0 (.lst [V.bl (C0 == COfficeFull),V.bl (C0 == CUnknownName),V.bl (C0 == CNameTwice)])=G1 at s1 e ea hl0 ⊢
  clear hl0
  refine⟨_,rfl,_,rfl,a,C0,CBadValue,_,rfl,ea,xc,ers.two mem (by simp),_,rfl,a,C0,CNotWritten,_,rfl,ea,xc,ers.two mem (by simp),_,rfl,a,C0,CBookFull,_,rfl,ea,xc,ers.two mem (by simp),(by show 3≤sizeLine;decide),fun l1 hl1=>?_⟩
  have t:=z02 hl1 (.lst [V.bl (C0 == CBadValue),V.bl (C0 == CNotWritten),V.bl (C0 == CBookFull)])
  refine⟨l0,l1,_,_,rfl,rfl,t _ _ e,A1,(by show 6≤sizeLine;decide),fun m1 hm1=>?_⟩
  replace t:=t.trans (z02 hm1 (.lst ([V.bl (C0 == COfficeFull),V.bl (C0 == CUnknownName),V.bl (C0 == CNameTwice)]++[V.bl (C0 == CBadValue),V.bl (C0 == CNotWritten),V.bl (C0 == CBookFull)])))
  replace e:upd (upd G1 l1 (.lst [V.bl (C0 == CBadValue),V.bl (C0 == CNotWritten),V.bl (C0 == CBookFull)])) m1 (.lst ([V.bl (C0 == COfficeFull),V.bl (C0 == CUnknownName),V.bl (C0 == CNameTwice)]++[V.bl (C0 == CBadValue),V.bl (C0 == CNotWritten),V.bl (C0 == CBookFull)])) m1=some (.lst [V.bl (C0 == COfficeFull),V.bl (C0 == CUnknownName),V.bl (C0 == CNameTwice),V.bl (C0 == CBadValue),V.bl (C0 == CNotWritten),V.bl (C0 == CBookFull)]):=A1
  replace ea:=t _ _ ea
  replace s1:=s1.trans t
  clear t
  generalize upd (upd G1 l1 (.lst [V.bl (C0 == CBadValue),V.bl (C0 == CNotWritten),V.bl (C0 == CBookFull)])) m1 (.lst ([V.bl (C0 == COfficeFull),V.bl (C0 == CUnknownName),V.bl (C0 == CNameTwice)]++[V.bl (C0 == CBadValue),V.bl (C0 == CNotWritten),V.bl (C0 == CBookFull)]))=G2 at s1 e ea ⊢
  clear hm1 hl1
  refine⟨_,rfl,_,rfl,a,C0,CUnknownReader,_,rfl,ea,xc,ers.two mem (by simp),_,rfl,a,C0,CNoSuchDeed,_,rfl,ea,xc,ers.two mem (by simp),(by show 2≤sizeLine;decide),fun l2 hl2=>?_⟩
  have t:=z02 hl2 (.lst [V.bl (C0 == CUnknownReader),V.bl (C0 == CNoSuchDeed)])
  refine⟨m1,l2,_,_,rfl,rfl,t _ _ e,A1,(by show 8≤sizeLine;decide),fun m2 hm2=>?_⟩
  replace t:=t.trans (z02 hm2 (.lst ([V.bl (C0 == COfficeFull),V.bl (C0 == CUnknownName),V.bl (C0 == CNameTwice),V.bl (C0 == CBadValue),V.bl (C0 == CNotWritten),V.bl (C0 == CBookFull)]++[V.bl (C0 == CUnknownReader),V.bl (C0 == CNoSuchDeed)])))
  replace e:upd (upd G2 l2 (.lst [V.bl (C0 == CUnknownReader),V.bl (C0 == CNoSuchDeed)])) m2 (.lst ([V.bl (C0 == COfficeFull),V.bl (C0 == CUnknownName),V.bl (C0 == CNameTwice),V.bl (C0 == CBadValue),V.bl (C0 == CNotWritten),V.bl (C0 == CBookFull)]++[V.bl (C0 == CUnknownReader),V.bl (C0 == CNoSuchDeed)])) m2=some (.lst [V.bl (C0 == COfficeFull),V.bl (C0 == CUnknownName),V.bl (C0 == CNameTwice),V.bl (C0 == CBadValue),V.bl (C0 == CNotWritten),V.bl (C0 == CBookFull),V.bl (C0 == CUnknownReader),V.bl (C0 == CNoSuchDeed)]):=A1
  replace ea:=t _ _ ea
  replace s1:=s1.trans t
  clear t
  generalize upd (upd G2 l2 (.lst [V.bl (C0 == CUnknownReader),V.bl (C0 == CNoSuchDeed)])) m2 (.lst ([V.bl (C0 == COfficeFull),V.bl (C0 == CUnknownName),V.bl (C0 == CNameTwice),V.bl (C0 == CBadValue),V.bl (C0 == CNotWritten),V.bl (C0 == CBookFull)]++[V.bl (C0 == CUnknownReader),V.bl (C0 == CNoSuchDeed)]))=G3 at s1 e ea ⊢
  clear hm2 hl2
  refine⟨_,rfl,_,rfl,a,C0,CBadNames,_,rfl,ea,xc,ers.two mem (by simp),_,rfl,a,C0,CBadReach,_,rfl,ea,xc,ers.two mem (by simp),_,rfl,a,C0,CBadReaders,_,rfl,ea,xc,ers.two mem (by simp),(by show 3≤sizeLine;decide),fun l3 hl3=>?_⟩
  have t:=z02 hl3 (.lst [V.bl (C0 == CBadNames),V.bl (C0 == CBadReach),V.bl (C0 == CBadReaders)])
  refine⟨m2,l3,_,_,rfl,rfl,t _ _ e,A1,(by show 11≤sizeLine;decide),fun m3 hm3=>?_⟩
  replace t:=t.trans (z02 hm3 (.lst ([V.bl (C0 == COfficeFull),V.bl (C0 == CUnknownName),V.bl (C0 == CNameTwice),V.bl (C0 == CBadValue),V.bl (C0 == CNotWritten),V.bl (C0 == CBookFull),V.bl (C0 == CUnknownReader),V.bl (C0 == CNoSuchDeed)]++[V.bl (C0 == CBadNames),V.bl (C0 == CBadReach),V.bl (C0 == CBadReaders)])))
  replace e:upd (upd G3 l3 (.lst [V.bl (C0 == CBadNames),V.bl (C0 == CBadReach),V.bl (C0 == CBadReaders)])) m3 (.lst ([V.bl (C0 == COfficeFull),V.bl (C0 == CUnknownName),V.bl (C0 == CNameTwice),V.bl (C0 == CBadValue),V.bl (C0 == CNotWritten),V.bl (C0 == CBookFull),V.bl (C0 == CUnknownReader),V.bl (C0 == CNoSuchDeed)]++[V.bl (C0 == CBadNames),V.bl (C0 == CBadReach),V.bl (C0 == CBadReaders)])) m3=some (.lst [V.bl (C0 == COfficeFull),V.bl (C0 == CUnknownName),V.bl (C0 == CNameTwice),V.bl (C0 == CBadValue),V.bl (C0 == CNotWritten),V.bl (C0 == CBookFull),V.bl (C0 == CUnknownReader),V.bl (C0 == CNoSuchDeed),V.bl (C0 == CBadNames),V.bl (C0 == CBadReach),V.bl (C0 == CBadReaders)]):=A1
  replace ea:=t _ _ ea
  replace s1:=s1.trans t
  clear t
  generalize upd (upd G3 l3 (.lst [V.bl (C0 == CBadNames),V.bl (C0 == CBadReach),V.bl (C0 == CBadReaders)])) m3 (.lst ([V.bl (C0 == COfficeFull),V.bl (C0 == CUnknownName),V.bl (C0 == CNameTwice),V.bl (C0 == CBadValue),V.bl (C0 == CNotWritten),V.bl (C0 == CBookFull),V.bl (C0 == CUnknownReader),V.bl (C0 == CNoSuchDeed)]++[V.bl (C0 == CBadNames),V.bl (C0 == CBadReach),V.bl (C0 == CBadReaders)]))=G4 at s1 e ea ⊢
  clear hm3 hl3
  refine⟨_,rfl,_,rfl,a,C0,CTooManyCourses,_,rfl,ea,xc,ers.two mem (by simp),(by show 1≤sizeLine;decide),fun l4 hl4=>?_⟩
  have t:=z02 hl4 (.lst [V.bl (C0 == CTooManyCourses)])
  refine⟨m3,l4,_,_,rfl,rfl,t _ _ e,A1,(by show 12≤sizeLine;decide),fun m4 hm4=>?_⟩
  refine⟨m4,i,s1.trans (t.trans (z02 hm4 _)),hi,hq,?_,rfl⟩
  rw[A1]
  have ne:∀(i j:Nat) (hi:i<12) (hj:j<12),i≠j->([CBadNames,CBadReach,CBadReaders,COfficeFull,CUnknownName,CNameTwice,CBadValue,CNotWritten,CUnknownReader,CBookFull,CNoSuchDeed,CTooManyCourses][i]'hi == [CBadNames,CBadReach,CBadReaders,COfficeFull,CUnknownName,CNameTwice,CBadValue,CNotWritten,CUnknownReader,CBookFull,CNoSuchDeed,CTooManyCourses][j]'hj)=false:=fun i j hi hj h=>beq_false_of_ne ((Nat.lt_or_gt_of_ne h).elim (fun l=>List.pairwise_iff_getElem.mp ers.nd i j hi hj l) fun l=>(List.pairwise_iff_getElem.mp ers.nd j i hj hi l).symm)
  have hi8:i=0\/i=1\/i=2\/i=3\/i=4\/i=5\/i=6\/i=7:=by omega
  rcases hi8 with rfl|rfl|rfl|rfl|rfl|rfl|rfl|rfl
  ·rw[show C0=COfficeFull from hc]
   show some (HO.lst [V.bl (COfficeFull == COfficeFull),V.bl (COfficeFull == CUnknownName),V.bl (COfficeFull == CNameTwice),V.bl (COfficeFull == CBadValue),V.bl (COfficeFull == CNotWritten),V.bl (COfficeFull == CBookFull),V.bl (COfficeFull == CUnknownReader),V.bl (COfficeFull == CNoSuchDeed),V.bl (COfficeFull == CBadNames),V.bl (COfficeFull == CBadReach),V.bl (COfficeFull == CBadReaders),V.bl (COfficeFull == CTooManyCourses)])=some (HO.lst [V.bl true,V.bl false,V.bl false,V.bl false,V.bl false,V.bl false,V.bl false,V.bl false,V.bl false,V.bl false,V.bl false,V.bl false])
   rw[beq_self_eq_true,show(COfficeFull == CUnknownName)=false from ne 3 4 (by decide) (by decide) (by decide),show(COfficeFull == CNameTwice)=false from ne 3 5 (by decide) (by decide) (by decide),show(COfficeFull == CBadValue)=false from ne 3 6 (by decide) (by decide) (by decide),show(COfficeFull == CNotWritten)=false from ne 3 7 (by decide) (by decide) (by decide),show(COfficeFull == CBookFull)=false from ne 3 9 (by decide) (by decide) (by decide),show(COfficeFull == CUnknownReader)=false from ne 3 8 (by decide) (by decide) (by decide),show(COfficeFull == CNoSuchDeed)=false from ne 3 10 (by decide) (by decide) (by decide),show(COfficeFull == CBadNames)=false from ne 3 0 (by decide) (by decide) (by decide),show(COfficeFull == CBadReach)=false from ne 3 1 (by decide) (by decide) (by decide),show(COfficeFull == CBadReaders)=false from ne 3 2 (by decide) (by decide) (by decide),show(COfficeFull == CTooManyCourses)=false from ne 3 11 (by decide) (by decide) (by decide)]
  ·rw[show C0=CUnknownName from hc]
   show some (HO.lst [V.bl (CUnknownName == COfficeFull),V.bl (CUnknownName == CUnknownName),V.bl (CUnknownName == CNameTwice),V.bl (CUnknownName == CBadValue),V.bl (CUnknownName == CNotWritten),V.bl (CUnknownName == CBookFull),V.bl (CUnknownName == CUnknownReader),V.bl (CUnknownName == CNoSuchDeed),V.bl (CUnknownName == CBadNames),V.bl (CUnknownName == CBadReach),V.bl (CUnknownName == CBadReaders),V.bl (CUnknownName == CTooManyCourses)])=some (HO.lst [V.bl false,V.bl true,V.bl false,V.bl false,V.bl false,V.bl false,V.bl false,V.bl false,V.bl false,V.bl false,V.bl false,V.bl false])
   rw[beq_self_eq_true,show(CUnknownName == COfficeFull)=false from ne 4 3 (by decide) (by decide) (by decide),show(CUnknownName == CNameTwice)=false from ne 4 5 (by decide) (by decide) (by decide),show(CUnknownName == CBadValue)=false from ne 4 6 (by decide) (by decide) (by decide),show(CUnknownName == CNotWritten)=false from ne 4 7 (by decide) (by decide) (by decide),show(CUnknownName == CBookFull)=false from ne 4 9 (by decide) (by decide) (by decide),show(CUnknownName == CUnknownReader)=false from ne 4 8 (by decide) (by decide) (by decide),show(CUnknownName == CNoSuchDeed)=false from ne 4 10 (by decide) (by decide) (by decide),show(CUnknownName == CBadNames)=false from ne 4 0 (by decide) (by decide) (by decide),show(CUnknownName == CBadReach)=false from ne 4 1 (by decide) (by decide) (by decide),show(CUnknownName == CBadReaders)=false from ne 4 2 (by decide) (by decide) (by decide),show(CUnknownName == CTooManyCourses)=false from ne 4 11 (by decide) (by decide) (by decide)]
  ·rw[show C0=CNameTwice from hc]
   show some (HO.lst [V.bl (CNameTwice == COfficeFull),V.bl (CNameTwice == CUnknownName),V.bl (CNameTwice == CNameTwice),V.bl (CNameTwice == CBadValue),V.bl (CNameTwice == CNotWritten),V.bl (CNameTwice == CBookFull),V.bl (CNameTwice == CUnknownReader),V.bl (CNameTwice == CNoSuchDeed),V.bl (CNameTwice == CBadNames),V.bl (CNameTwice == CBadReach),V.bl (CNameTwice == CBadReaders),V.bl (CNameTwice == CTooManyCourses)])=some (HO.lst [V.bl false,V.bl false,V.bl true,V.bl false,V.bl false,V.bl false,V.bl false,V.bl false,V.bl false,V.bl false,V.bl false,V.bl false])
   rw[beq_self_eq_true,show(CNameTwice == COfficeFull)=false from ne 5 3 (by decide) (by decide) (by decide),show(CNameTwice == CUnknownName)=false from ne 5 4 (by decide) (by decide) (by decide),show(CNameTwice == CBadValue)=false from ne 5 6 (by decide) (by decide) (by decide),show(CNameTwice == CNotWritten)=false from ne 5 7 (by decide) (by decide) (by decide),show(CNameTwice == CBookFull)=false from ne 5 9 (by decide) (by decide) (by decide),show(CNameTwice == CUnknownReader)=false from ne 5 8 (by decide) (by decide) (by decide),show(CNameTwice == CNoSuchDeed)=false from ne 5 10 (by decide) (by decide) (by decide),show(CNameTwice == CBadNames)=false from ne 5 0 (by decide) (by decide) (by decide),show(CNameTwice == CBadReach)=false from ne 5 1 (by decide) (by decide) (by decide),show(CNameTwice == CBadReaders)=false from ne 5 2 (by decide) (by decide) (by decide),show(CNameTwice == CTooManyCourses)=false from ne 5 11 (by decide) (by decide) (by decide)]
  ·rw[show C0=CBadValue from hc]
   show some (HO.lst [V.bl (CBadValue == COfficeFull),V.bl (CBadValue == CUnknownName),V.bl (CBadValue == CNameTwice),V.bl (CBadValue == CBadValue),V.bl (CBadValue == CNotWritten),V.bl (CBadValue == CBookFull),V.bl (CBadValue == CUnknownReader),V.bl (CBadValue == CNoSuchDeed),V.bl (CBadValue == CBadNames),V.bl (CBadValue == CBadReach),V.bl (CBadValue == CBadReaders),V.bl (CBadValue == CTooManyCourses)])=some (HO.lst [V.bl false,V.bl false,V.bl false,V.bl true,V.bl false,V.bl false,V.bl false,V.bl false,V.bl false,V.bl false,V.bl false,V.bl false])
   rw[beq_self_eq_true,show(CBadValue == COfficeFull)=false from ne 6 3 (by decide) (by decide) (by decide),show(CBadValue == CUnknownName)=false from ne 6 4 (by decide) (by decide) (by decide),show(CBadValue == CNameTwice)=false from ne 6 5 (by decide) (by decide) (by decide),show(CBadValue == CNotWritten)=false from ne 6 7 (by decide) (by decide) (by decide),show(CBadValue == CBookFull)=false from ne 6 9 (by decide) (by decide) (by decide),show(CBadValue == CUnknownReader)=false from ne 6 8 (by decide) (by decide) (by decide),show(CBadValue == CNoSuchDeed)=false from ne 6 10 (by decide) (by decide) (by decide),show(CBadValue == CBadNames)=false from ne 6 0 (by decide) (by decide) (by decide),show(CBadValue == CBadReach)=false from ne 6 1 (by decide) (by decide) (by decide),show(CBadValue == CBadReaders)=false from ne 6 2 (by decide) (by decide) (by decide),show(CBadValue == CTooManyCourses)=false from ne 6 11 (by decide) (by decide) (by decide)]
  ·rw[show C0=CNotWritten from hc]
   show some (HO.lst [V.bl (CNotWritten == COfficeFull),V.bl (CNotWritten == CUnknownName),V.bl (CNotWritten == CNameTwice),V.bl (CNotWritten == CBadValue),V.bl (CNotWritten == CNotWritten),V.bl (CNotWritten == CBookFull),V.bl (CNotWritten == CUnknownReader),V.bl (CNotWritten == CNoSuchDeed),V.bl (CNotWritten == CBadNames),V.bl (CNotWritten == CBadReach),V.bl (CNotWritten == CBadReaders),V.bl (CNotWritten == CTooManyCourses)])=some (HO.lst [V.bl false,V.bl false,V.bl false,V.bl false,V.bl true,V.bl false,V.bl false,V.bl false,V.bl false,V.bl false,V.bl false,V.bl false])
   rw[beq_self_eq_true,show(CNotWritten == COfficeFull)=false from ne 7 3 (by decide) (by decide) (by decide),show(CNotWritten == CUnknownName)=false from ne 7 4 (by decide) (by decide) (by decide),show(CNotWritten == CNameTwice)=false from ne 7 5 (by decide) (by decide) (by decide),show(CNotWritten == CBadValue)=false from ne 7 6 (by decide) (by decide) (by decide),show(CNotWritten == CBookFull)=false from ne 7 9 (by decide) (by decide) (by decide),show(CNotWritten == CUnknownReader)=false from ne 7 8 (by decide) (by decide) (by decide),show(CNotWritten == CNoSuchDeed)=false from ne 7 10 (by decide) (by decide) (by decide),show(CNotWritten == CBadNames)=false from ne 7 0 (by decide) (by decide) (by decide),show(CNotWritten == CBadReach)=false from ne 7 1 (by decide) (by decide) (by decide),show(CNotWritten == CBadReaders)=false from ne 7 2 (by decide) (by decide) (by decide),show(CNotWritten == CTooManyCourses)=false from ne 7 11 (by decide) (by decide) (by decide)]
  ·rw[show C0=CBookFull from hc]
   show some (HO.lst [V.bl (CBookFull == COfficeFull),V.bl (CBookFull == CUnknownName),V.bl (CBookFull == CNameTwice),V.bl (CBookFull == CBadValue),V.bl (CBookFull == CNotWritten),V.bl (CBookFull == CBookFull),V.bl (CBookFull == CUnknownReader),V.bl (CBookFull == CNoSuchDeed),V.bl (CBookFull == CBadNames),V.bl (CBookFull == CBadReach),V.bl (CBookFull == CBadReaders),V.bl (CBookFull == CTooManyCourses)])=some (HO.lst [V.bl false,V.bl false,V.bl false,V.bl false,V.bl false,V.bl true,V.bl false,V.bl false,V.bl false,V.bl false,V.bl false,V.bl false])
   rw[beq_self_eq_true,show(CBookFull == COfficeFull)=false from ne 9 3 (by decide) (by decide) (by decide),show(CBookFull == CUnknownName)=false from ne 9 4 (by decide) (by decide) (by decide),show(CBookFull == CNameTwice)=false from ne 9 5 (by decide) (by decide) (by decide),show(CBookFull == CBadValue)=false from ne 9 6 (by decide) (by decide) (by decide),show(CBookFull == CNotWritten)=false from ne 9 7 (by decide) (by decide) (by decide),show(CBookFull == CUnknownReader)=false from ne 9 8 (by decide) (by decide) (by decide),show(CBookFull == CNoSuchDeed)=false from ne 9 10 (by decide) (by decide) (by decide),show(CBookFull == CBadNames)=false from ne 9 0 (by decide) (by decide) (by decide),show(CBookFull == CBadReach)=false from ne 9 1 (by decide) (by decide) (by decide),show(CBookFull == CBadReaders)=false from ne 9 2 (by decide) (by decide) (by decide),show(CBookFull == CTooManyCourses)=false from ne 9 11 (by decide) (by decide) (by decide)]
  ·rw[show C0=CUnknownReader from hc]
   show some (HO.lst [V.bl (CUnknownReader == COfficeFull),V.bl (CUnknownReader == CUnknownName),V.bl (CUnknownReader == CNameTwice),V.bl (CUnknownReader == CBadValue),V.bl (CUnknownReader == CNotWritten),V.bl (CUnknownReader == CBookFull),V.bl (CUnknownReader == CUnknownReader),V.bl (CUnknownReader == CNoSuchDeed),V.bl (CUnknownReader == CBadNames),V.bl (CUnknownReader == CBadReach),V.bl (CUnknownReader == CBadReaders),V.bl (CUnknownReader == CTooManyCourses)])=some (HO.lst [V.bl false,V.bl false,V.bl false,V.bl false,V.bl false,V.bl false,V.bl true,V.bl false,V.bl false,V.bl false,V.bl false,V.bl false])
   rw[beq_self_eq_true,show(CUnknownReader == COfficeFull)=false from ne 8 3 (by decide) (by decide) (by decide),show(CUnknownReader == CUnknownName)=false from ne 8 4 (by decide) (by decide) (by decide),show(CUnknownReader == CNameTwice)=false from ne 8 5 (by decide) (by decide) (by decide),show(CUnknownReader == CBadValue)=false from ne 8 6 (by decide) (by decide) (by decide),show(CUnknownReader == CNotWritten)=false from ne 8 7 (by decide) (by decide) (by decide),show(CUnknownReader == CBookFull)=false from ne 8 9 (by decide) (by decide) (by decide),show(CUnknownReader == CNoSuchDeed)=false from ne 8 10 (by decide) (by decide) (by decide),show(CUnknownReader == CBadNames)=false from ne 8 0 (by decide) (by decide) (by decide),show(CUnknownReader == CBadReach)=false from ne 8 1 (by decide) (by decide) (by decide),show(CUnknownReader == CBadReaders)=false from ne 8 2 (by decide) (by decide) (by decide),show(CUnknownReader == CTooManyCourses)=false from ne 8 11 (by decide) (by decide) (by decide)]
  ·rw[show C0=CNoSuchDeed from hc]
   show some (HO.lst [V.bl (CNoSuchDeed == COfficeFull),V.bl (CNoSuchDeed == CUnknownName),V.bl (CNoSuchDeed == CNameTwice),V.bl (CNoSuchDeed == CBadValue),V.bl (CNoSuchDeed == CNotWritten),V.bl (CNoSuchDeed == CBookFull),V.bl (CNoSuchDeed == CUnknownReader),V.bl (CNoSuchDeed == CNoSuchDeed),V.bl (CNoSuchDeed == CBadNames),V.bl (CNoSuchDeed == CBadReach),V.bl (CNoSuchDeed == CBadReaders),V.bl (CNoSuchDeed == CTooManyCourses)])=some (HO.lst [V.bl false,V.bl false,V.bl false,V.bl false,V.bl false,V.bl false,V.bl false,V.bl true,V.bl false,V.bl false,V.bl false,V.bl false])
   rw[beq_self_eq_true,show(CNoSuchDeed == COfficeFull)=false from ne 10 3 (by decide) (by decide) (by decide),show(CNoSuchDeed == CUnknownName)=false from ne 10 4 (by decide) (by decide) (by decide),show(CNoSuchDeed == CNameTwice)=false from ne 10 5 (by decide) (by decide) (by decide),show(CNoSuchDeed == CBadValue)=false from ne 10 6 (by decide) (by decide) (by decide),show(CNoSuchDeed == CNotWritten)=false from ne 10 7 (by decide) (by decide) (by decide),show(CNoSuchDeed == CBookFull)=false from ne 10 9 (by decide) (by decide) (by decide),show(CNoSuchDeed == CUnknownReader)=false from ne 10 8 (by decide) (by decide) (by decide),show(CNoSuchDeed == CBadNames)=false from ne 10 0 (by decide) (by decide) (by decide),show(CNoSuchDeed == CBadReach)=false from ne 10 1 (by decide) (by decide) (by decide),show(CNoSuchDeed == CBadReaders)=false from ne 10 2 (by decide) (by decide) (by decide),show(CNoSuchDeed == CTooManyCourses)=false from ne 10 11 (by decide) (by decide) (by decide)]
 obtain⟨d1,g1,z1,w1⟩:=S3.ins bk0
 rcases cases4 with ⟨rfl,pr,hd,gr,l12,l60,l4,q⟩|⟨rfl,a,us,pr,i,rfl,ha,hp,l100,hlow,du,q⟩|⟨rfl,rd,n,rfl,rfl,r1,r2,n1,n2,l4,q⟩|⟨rfl,rd,n,i,rfl,rfl,du,q⟩|⟨rfl,n,i,rfl,hn,rfl,q⟩|⟨rfl,n,i,rfl,hn,rfl,q⟩|⟨rfl,rd,i,rfl,du,q⟩
 ·refine⟨_,rfl,rfl,_,rfl,B3 (fun _=>?_) (fun n=>absurd (decide_eq_true rfl) n)⟩
  obtain⟨a,us,rfl,ha,na,hp⟩:=hd
  refine⟨_,rfl,p,d1,g1,rfl,z1,w1 _ (by simp),_,rfl,.inl ⟨p,.ref a,fp,zs,r,k,rows,log,pr,rfl,bk0,⟨a,us,rfl,SqP.keep s0 ha,na,L2.Paired.T9 hp fun u x ⟨b,e,q,n⟩=>⟨b,e,q.imp (fun z=>s0.seq z) fun z=>z4N s0 z,n⟩⟩,gr,l12,l60,l4,fun fp' H' h1 h2 of'=>q fp' H' (fun b hb=>(h1 b hb).imp id fun e=>s0.free e) (fun b o e n=>h2 b o (s0 _ _ e) n) of'⟩⟩
 ·refine⟨_,rfl,rfl,_,rfl,B3 (fun _=>?_) (fun n=>absurd (decide_eq_true rfl) n)⟩
  refine⟨_,rfl,p,d1,g1,rfl,z1,w1 _ (by simp),_,rfl,.inr ?_⟩
  have thr:∀C0,(w0j COfficeFull CUnknownName CNameTwice CBadValue zs rows pr C0\/(rows.length<60/\GoodR zs pr/\pr.length≤12/\400≤log.length/\C0=CBookFull))->i<8->C0=[COfficeFull,CUnknownName,CNameTwice,CBadValue,CNotWritten,CBookFull,CUnknownReader,CNoSuchDeed].getD i 0->z4Q K (BkD K A2 A0) COfficeFull CUnknownName CNameTwice CBadValue CBookFull [.ref p,.ref a] H0 Q fun C _ H'=>∃(i:Nat) (C0:Addr),i<8/\(∀(u:V) (H':Hp),A4 H H'->B5 H' (S4 (z51.getD i "")) u->Q u H')/\C0=[COfficeFull,CUnknownName,CNameTwice,CBadValue,CNotWritten,CBookFull,CUnknownReader,CNoSuchDeed].getD i 0/\C=.ref C0/\A4 H H'/\[some (V.str "write"),some (.ref p),some (.ref a),some two,some (.ref lf),some (.bl true),none,none]=[some (V.str "write"),some (.ref p),some (.ref a),some two,some (.ref lf),some (.bl true),none,none]:=fun C0 rf hi hc=>
   ⟨p,a,fp,zs,r,k,rows,log,us,pr,C0,rfl,bk0,SqP.keep s0 ha,z1n.keep s0 hp,l100,hlow,rf,fun H' s'=>⟨i,C0,hi,q,hc,rfl,s0.trans s',rfl⟩⟩
  rcases du with (⟨h60,rfl⟩|⟨h60,⟨h,rfl⟩|⟨h1,h2,rfl⟩|⟨h1,h2,h3,rfl⟩⟩)|⟨h60,h1,h2,h3,rfl⟩
  ·exact thr _ (.inl (.inl ⟨h60,rfl⟩)) (by decide) rfl
  ·exact thr _ (.inl (.inr ⟨h60,.inl ⟨h,rfl⟩⟩)) (by decide) rfl
  ·exact thr _ (.inl (.inr ⟨h60,.inr (.inl ⟨h1,h2,rfl⟩)⟩)) (by decide) rfl
  ·exact thr _ (.inl (.inr ⟨h60,.inr (.inr ⟨h1,h2,h3,rfl⟩)⟩)) (by decide) rfl
  ·exact thr _ (.inr ⟨h60,h1,h2,h3,rfl⟩) (by decide) rfl
 ·refine⟨_,rfl,rfl,_,rfl,B3 (fun q=>absurd (z0x q) (by decide +kernel)) fun _=>?_⟩
  refine⟨_,rfl,rfl,_,rfl,B3 (fun q=>absurd (z0x q) (by decide +kernel)) fun _=>?_⟩
  refine⟨_,rfl,rfl,_,rfl,B3 (fun _=>?_) (fun n=>absurd (decide_eq_true rfl) n)⟩
  exact⟨_,rfl,p,d1,g1,rfl,z1,w1 _ (by simp),_,rfl,_,rfl,.inl ⟨p,fp,zs,r,k,rows,log,rd,n,rfl,bk0,r1,r2,n1,n2,l4,fun H' h2 b'=>q H' (fun b o e n=>h2 b o (s0 _ _ e) n) b'⟩⟩
 ·refine⟨_,rfl,rfl,_,rfl,B3 (fun q=>absurd (z0x q) (by decide +kernel)) fun _=>?_⟩
  refine⟨_,rfl,rfl,_,rfl,B3 (fun q=>absurd (z0x q) (by decide +kernel)) fun _=>?_⟩
  refine⟨_,rfl,rfl,_,rfl,B3 (fun _=>?_) (fun n=>absurd (decide_eq_true rfl) n)⟩
  refine⟨_,rfl,p,d1,g1,rfl,z1,w1 _ (by simp),_,rfl,_,rfl,.inr ?_⟩
  have thr:∀C0,RefD CNotWritten CUnknownReader CBookFull rows log k rd n C0->i<8->C0=[COfficeFull,CUnknownName,CNameTwice,CBadValue,CNotWritten,CBookFull,CUnknownReader,CNoSuchDeed].getD i 0->z3r (BkD K A2 A0) CNotWritten CUnknownReader CBookFull [.ref p,.int rd,.int n] H0 Q fun C _ H'=>∃(i:Nat) (C0:Addr),i<8/\(∀(u:V) (H':Hp),A4 H H'->B5 H' (S4 (z51.getD i "")) u->Q u H')/\C0=[COfficeFull,CUnknownName,CNameTwice,CBadValue,CNotWritten,CBookFull,CUnknownReader,CNoSuchDeed].getD i 0/\C=.ref C0/\A4 H H'/\[some (V.str "deliver"),some (.ref p),some (.int rd),some (.int n),some (.ref lf),some (.bl true),none,none]=[some (V.str "deliver"),some (.ref p),some (.int rd),some (.int n),some (.ref lf),some (.bl true),none,none]:=fun C0 rf hi hc=>
   ⟨p,fp,zs,r,k,rows,log,rd,n,C0,rfl,bk0,rf,fun H' s'=>⟨i,C0,hi,q,hc,rfl,s0.trans s',rfl⟩⟩
  rcases du with ⟨hn,rfl⟩|⟨n1,n2,⟨h,rfl⟩|⟨h1,h2,h3,rfl⟩⟩
  ·exact thr _ (.inl ⟨hn,rfl⟩) (by decide) rfl
  ·exact thr _ (.inr ⟨n1,n2,.inl ⟨h,rfl⟩⟩) (by decide) rfl
  ·exact thr _ (.inr ⟨n1,n2,.inr ⟨h1,h2,h3,rfl⟩⟩) (by decide) rfl
 ·refine⟨_,rfl,rfl,_,rfl,B3 (fun q=>absurd (z0x q) (by decide +kernel)) fun _=>?_⟩
  refine⟨_,rfl,rfl,_,rfl,B3 (fun _=>?_) (fun n=>absurd (decide_eq_true rfl) n)⟩
  exact⟨_,rfl,p,d1,g1,rfl,z1,w1 _ (by simp),_,rfl,.inr ⟨p,fp,zs,r,k,rows,log,n,rfl,bk0,hn,4,CNotWritten,by decide,q,rfl,rfl,s0,rfl⟩⟩
 ·refine⟨_,rfl,rfl,_,rfl,B3 (fun q=>absurd (z0x q) (by decide +kernel)) fun _=>?_⟩
  refine⟨_,rfl,rfl,_,rfl,B3 (fun q=>absurd (z0x q) (by decide +kernel)) fun _=>?_⟩
  refine⟨_,rfl,rfl,_,rfl,B3 (fun q=>absurd (z0x q) (by decide +kernel)) fun _=>?_⟩
  refine⟨_,rfl,rfl,_,rfl,B3 (fun _=>?_) (fun n=>absurd (decide_eq_true rfl) n)⟩
  exact⟨_,rfl,p,d1,g1,rfl,z1,w1 _ (by simp),_,rfl,.inr ⟨p,fp,zs,r,k,rows,log,n,rfl,bk0,hn,7,CNoSuchDeed,by decide,q,rfl,rfl,s0,rfl⟩⟩
 ·refine⟨_,rfl,rfl,_,rfl,B3 (fun q=>absurd (z0x q) (by decide +kernel)) fun _=>?_⟩
  refine⟨_,rfl,rfl,_,rfl,B3 (fun q=>absurd (z0x q) (by decide +kernel)) fun _=>?_⟩
  refine⟨_,rfl,rfl,_,rfl,B3 (fun q=>absurd (z0x q) (by decide +kernel)) fun _=>?_⟩
  refine⟨_,rfl,rfl,_,rfl,B3 (fun q=>absurd (z0x q) (by decide +kernel)) fun _=>?_⟩
  refine⟨_,rfl,p,d1,g1,rfl,z1,w1 _ (by simp),_,rfl,_,rfl,.inr ?_⟩
  rcases du with ⟨d,rfl,hd,rfl⟩|⟨hd,h,rfl⟩
  ·exact⟨p,fp,zs,r,k,rows,log,rd,_,CNoSuchDeed,rfl,bk0,.inl ⟨d,rfl,hd,rfl⟩,7,CNoSuchDeed,by decide,q,rfl,rfl,s0,rfl⟩
  ·exact⟨p,fp,zs,r,k,rows,log,rd,_,CUnknownReader,rfl,bk0,.inr ⟨hd,h,rfl⟩,6,CUnknownReader,by decide,q,rfl,rfl,s0,rfl⟩
def E3(n:Int):List Int:=[0,-1,n+1,10^(30:Int).toNat]
def y12(Bk:BkP):Sp:=fun vs H Q _=>∃(p:Addr) (fp:List Addr) (zs:List Str) (r k:Int) (rows:List Row) (log:List B2),vs=[.ref p,.int k,.int rows.length,.int log.length]/\Bk H p fp zs r k rows log/\0≤k/\k≤1000/\rows.length≤1000/\log.length≤1000/\∀H',A4 H H'->Q (.bl true) H'
theorem z5C{n m:Int}(n0:n≤1000)(h:m∈E3 n):m<1\/n<m:=by
 have big:(1000:Int)<10^(30:Int).toNat:=by decide
 unfold E3 at h
 simp only[bD,List.mem_nil_iff,or_false] at h
 rcases h with rfl|rfl|rfl|rfl<;>omega
def outD(n:Int):List Int:=[-1,n+1,10^(30:Int).toNat]
theorem y2h{n m:Int}(n0:n≤1000)(n1:0≤n)(h:m∈outD n):m<0\/n<m:=by
 have big:(1000:Int)<10^(30:Int).toNat:=by decide
 unfold outD at h
 simp only[bD,List.mem_nil_iff,or_false] at h
 rcases h with rfl|rfl|rfl<;>omega
theorem y1P{b:Bool}{xs:List V}{y:V}(h:y∈(List.replicate (if b=true then (1:Int) else 0).toNat xs).flatten):b=true/\y∈xs:=by
 cases b with
 | false=>cases h
 | true=>exact⟨rfl,(cQ xs) ▸ h⟩
theorem z7V(z:Str):(S4 z).deep≤1:=z4K fun d hd=>by
 rcases bD.mp hd with rfl|hd
 ·exact z5L _ _
 ·rw[bC.mp hd]
  exact z5L _ _
theorem z8q(M:Bl mg)(F:Fun K "_law_doors" "_law_doors" z4d f fd){A2:Addr}{Bk:BkP}(O:V0 A2 ["write","deliver","latest","issue","deeds","deed","shelf"] Bk)
  (C5:Cal P w K mg base 6 "_law_same" z1D (z77 6)) (E2:Cal P w K mg base 7 "_law_done" z3J (z8P K Bk)):B0 P w K mg base CX0 8 f fd z4l (y12 Bk):=by
 have nd:=z5h.nd
 refine F.ok z5h (fun vs H Q E h=>?_) (fun cdv A outer s H vs Q E hr h=>?_)
 ·obtain⟨p,fp,zs,r,k,rows,log,rfl,_⟩:=h
  rfl
 obtain⟨p,fp,zs,r,k,rows,log,rfl,bk,k0,k1,rl,ll,q⟩:=h
 refine⟨_,(z03 (z0e (i:=4) nd rfl (Or.inl rfl) (z0L (z00 z04 (z00 (z6G z3W z04) (z00 (z0a z0O (pv 1) z04) (z00 (z0a z3X z04 z04) z01)))))) (z03 (z1g cB rfl (z16 (z0a z4M (pv 4) (z0L (z00 (pv 1) z01)))) (z0o (i:=5) nd rfl (Or.inl rfl)) (z03 (z1g cB rfl (z16 (z0a z4M (z0L (z00 z04 (z00 (z6G z3W z04) (z00 (z0a z0O (pv 2) z04) (z00 (z0a z3X z04 z04) z01))))) (z0a y3a (z0L (z00 (pv 2) z01)) (z0z z88 rfl M.int fF (z00 (y4Z (z4S z2g (pv 2) z04 (z0d _)) (y4O (z4S z6n (pv 5) (pv 4) (by with_unfolding_all rfl)))) z01))))) (z0o (i:=6) nd rfl (Or.inl rfl)) (z03 (z0e (i:=7) nd rfl (Or.inl rfl) (z4v (PW.pt (z2G (z09 z3o (pv 6) z04 (z0d _)) (z1E (z09 z2g (pv 6) (pv 2) (z0d _))))) z0l z0l)) (z05 (z0v (z3h (z2Q (z0r C5 (rm hr) rfl (z00 (z0r E2 (rm hr) rfl (z00 z0l (z00 (pv 0) (z00 (pv 5) (z00 (pv 6) z01))))) (z00 (z1j (z00 z0l (z00 (pv 7) z01))) z01))))) (z05 (z0h z2v)) z0c)))) (z05 (z1g cB rfl (z16 (z0a z4M (z0L (z00 (z6G z3W z04) (z00 (z0a z0O (pv 3) z04) (z00 (z0a z3X z04 z04) z01)))) (z0a y3a (z0L (z00 (pv 3) (z00 y3u z01))) (z0z z88 rfl M.int fF (z00 (z4S z6n (pv 5) (pv 4) (by with_unfolding_all rfl)) z01))))) (z0o (i:=8) nd rfl (Or.inl rfl)) (z03 (z0e (i:=7) nd rfl (Or.inl rfl) (z4v (PW.pt (z2G (z85 (z8z (pv 8))) (z1E (z09 z1w (pv 8) (pv 3) (z0d _))))) z0l z0l)) (z05 (z0v (z3h (z2Q (z0r C5 (rm hr) rfl (z00 (z0r E2 (rm hr) rfl (z00 z0l (z00 (pv 0) (z00 (pv 5) (z00 (pv 8) z01))))) (z00 (z1j (z00 z0l (z00 (pv 7) z01))) z01))))) (z05 (z0h z2v)) z0c))))))) (z03 (z1g cB rfl (z16 (z0L (z00 z04 (z00 (z6G z3W z04) (z00 (z0a z0O (pv 2) z04) (z00 (z0a z3X z04 z04) z01)))))) (z0o (i:=6) nd rfl (Or.inl rfl)) (z05 (z0v (z3h (z2Q (z0r C5 (rm hr) rfl (z00 (z0r E2 (rm hr) rfl (z00 z0l (z00 (pv 0) (z00 (pv 6) (z00 z04 z01))))) (z00 (z1j (z00 z0l (z00 z0l z01))) z01))))) (z05 (z0h z2v)) z0c))) (z03 (z1g cB rfl (z16 (z0L (z00 z04 (z00 (z6G z3W z04) (z00 (z0a z0O (pv 3) z04) (z00 (z0a z3X z04 z04) z01)))))) (z0o (i:=9) nd rfl (Or.inl rfl)) (z05 (z0v (z3h (z2Q (z0r C5 (rm hr) rfl (z00 (z0r E2 (rm hr) rfl (z00 z0l (z00 (pv 0) (z00 (pv 9) (z00 z04 z01))))) (z00 (z1j (z00 z0l (z00 z0l z01))) z01))))) (z05 (z0h z2v)) z0c))) (z05 (z0h z2v)))))),?_⟩
 have pw:∀n:Int,[V.int 0,V.int (-1),V.int (n+1),V.int (10^(30:Int).toNat)]=(E3 n).map V.int:=fun _=>rfl
 have pwD:∀n:Int,[V.int (-1),V.int (n+1),V.int (10^(30:Int).toNat)]=(outD n).map V.int:=fun _=>rfl
 refine⟨_,rfl,_,rfl,_,_,rfl,rfl,_,_,rfl,rfl,⟨by decide,by decide,by decide⟩,(by show 4≤sizeLine;decide),fun lo hlo=>?_⟩
 rw[pw]
 have s1:=z02 hlo (.lst ((E3 k).map V.int))
 have eO:upd H lo (.lst ((E3 k).map V.int)) lo=some (.lst ((E3 k).map V.int)):=A1
 generalize upd H lo (.lst ((E3 k).map V.int))=H1 at s1 eO
 refine⟨_,rfl,_,rfl,(by show 1≤sizeLine;decide),fun la hla=>?_⟩
 have s2:=z02 hla (.lst [V.int k])
 refine⟨lo,la,_,_,rfl,rfl,s2 _ _ eO,A1,(by show 5≤sizeLine;decide),fun lb hlb=>?_⟩
 have eB:=(A1:upd (upd H1 la (.lst [V.int k])) lb (.lst ((E3 k).map V.int++[V.int k])) lb=_)
 have s3:=s1.trans (s2.trans (z02 hlb (.lst ((E3 k).map V.int++[V.int k]))))
 have eO3:=(s2.trans (z02 hlb (.lst ((E3 k).map V.int++[V.int k])))) _ _ eO
 generalize upd (upd H1 la (.lst [V.int k])) lb (.lst ((E3 k).map V.int++[V.int k]))=H3 at s3 eB eO3
 clear s2 hlb hla eO s1
 have told:∀{G1 G2:Hp}{u:V}{t:Addr}{i:Nat}{z:Str},z51.getD i ""=z->B5 G1 (S4 (z51.getD i "")) u->(ht:G1 t=none)->G2=upd G1 t (.tup [V.str "refused",V.str z])->z3p G2 5 u (.ref t):=fun {G1 G2 u t i z} e t4 ht e2=>by
  subst e2
  rw[e] at t4
  exact(z2j _ _ _ (B5.keep (z02 ht _) _ _ t4) (z0J (ds:=[.str "refused",.str z]) A1 (by show 2≤1000000;decide) (.cons (z0A _) (.cons (z0A _) .nil)))).mono (cC (z7V z) (by decide))
 refine⟨lb,rfl,⟨_,SqL.of eB⟩,z1h (K:=K) (a:=lb) (xs:=(E3 k).map V.int++[V.int k]) (fun j σ G=>∃(o5 o6 o7 o8:Option V),A4 H3 G/\σ=[some (.ref p),some (.int k),some (.int rows.length),some (.int log.length),some (.ref lo),o5,o6,o7,o8,none]) ⟨_,_,_,_,A4.refl _,rfl⟩ (fun j σ G _ ⟨_,_,_,_,g,_⟩=>SqL.of (g _ _ eB)) ?_ ?_⟩
 ·rintro j y σ G hy ⟨o5,o6,o7,o8,g,rfl⟩
  obtain⟨rd,rfl⟩:∃rd:Int,y=.int rd:=by
   rcases c8.mp (bZ hy) with h|h
   ·obtain⟨i,_,rfl⟩:=cF.mp h
    exact⟨i,rfl⟩
   ·exact⟨k,bC.mp h⟩
  have inO:inV (.int rd) ((E3 k).map V.int)=true->rd<1\/k<rd:=fun e=>by
   rw[z9S,decide_eq_true_eq] at e
   exact z5C k1 e
  have flO:((E3 k).map V.int).all z1u=true:=rfl
  refine⟨_,rfl,_,rfl,_,_,rfl,rfl,_,_,rfl,rfl,⟨by decide,by decide,by decide⟩,(by show 4≤sizeLine;decide),fun l4 hl4=>?_⟩
  rw[pw]
  have s4:=z02 hl4 (.lst ((E3 rows.length).map V.int))
  have e4:upd G l4 (.lst ((E3 rows.length).map V.int)) l4=some (.lst ((E3 rows.length).map V.int)):=A1
  generalize upd G l4 (.lst ((E3 rows.length).map V.int))=G4 at s4 e4
  refine⟨_,rfl,(by show 1≤sizeLine;decide),fun l5 hl5=>?_⟩
  have s5:=z02 hl5 (.lst [V.int rows.length])
  have e5:upd G4 l5 (.lst [V.int rows.length]) l5=some (.lst [V.int rows.length]):=A1
  generalize upd G4 l5 (.lst [V.int rows.length])=G5 at s5 e5
  have eO5:=s5 _ _ (s4 _ _ (g _ _ eO3))
  refine⟨_,rfl,_,_,rfl,rfl,_,rfl,?_⟩
  have fork:∀{A B:Prop} (c:Bool),(c=true->A)->(c=false->B)->if c=true then A else B:=fun c h1 h2=>by
   cases c
   ·exact h2 rfl
   ·exact h1 rfl
  have T2:∀{c:Bool}{xs:List V},xs.length≤2->-(2^63)≤(if c=true then (1:Int) else 0)/\(if c=true then (1:Int) else 0)<2^63/\xs.length*(if c=true then (1:Int) else 0).toNat≤sizeLine:=fun {c xs} h=>by
   cases c
   ·exact⟨by decide,by decide,(by show xs.length*0≤sizeLine;rw[Nat.mul_zero];exact cL _)⟩
   ·exact⟨by decide,by decide,(by show xs.length*1≤sizeLine;exact cC (by omega) (show 2≤sizeLine by decide))⟩
  have X3:∀{c:Bool}{xs:List V}{m:Nat},xs.length≤2->m≤4->m+((List.replicate (if c=true then (1:Int) else 0).toNat xs).flatten).length≤sizeLine:=fun {c xs m} h hm=>by
   cases c
   ·exact cC hm (by decide)
   ·have e:(List.replicate (if true=true then (1:Int) else 0).toNat xs).flatten=xs:=cQ xs
    rw[e]
    exact cC (show m+xs.length≤6 by omega) (by decide)
  have two:∀{c:Bool},(c=true->(0:Int)<rows.length/\(rd<1\/k<rd))->∀y∈(E3 rows.length).map V.int++(List.replicate (if c=true then (1:Int) else 0).toNat [V.int rows.length]).flatten,∃n:Int,y=.int n/\((n<1\/(rows.length:Int)<n)\/(1≤n/\n≤rows.length/\(rd<1\/k<rd))):=fun {c} hc y hy=>by
   rcases c8.mp hy with h|h
   ·obtain⟨n,hn,rfl⟩:=cF.mp h
    exact⟨n,rfl,.inl (z5C (by omega) hn)⟩
   ·obtain⟨e,h⟩:=y1P h
    have:=hc e
    exact⟨_,bC.mp h,.inr ⟨by omega,by omega,this.2⟩⟩
  refine fork _ (fun hw=>⟨_,rfl,_,rfl,lo,_,rfl,.inl (SqL.of eO5),rfl,flO,?a⟩) (fun hw=>?b)
  case' a=>
   generalize hcx:(if false=true then !inV (.int rd) ((E3 k).map V.int) else inV (.int rd) ((E3 k).map V.int))=c
   have hc:c=true->(0:Int)<rows.length/\(rd<1\/k<rd):=fun e=>⟨of_decide_eq_true hw,inO (hcx.trans e)⟩
   clear hcx
   obtain⟨L,hL⟩:∃L,L=(List.replicate (if c=true then (1:Int) else 0).toNat [V.int rows.length]).flatten:=⟨_,rfl⟩
  case' b=>
   have hc:false=true->(0:Int)<rows.length/\(rd<1\/k<rd):=fun e=>Bool.noConfusion e
   obtain⟨L,hL⟩:∃L,L=(List.replicate (if false=true then (1:Int) else 0).toNat [V.int rows.length]).flatten:=⟨_,rfl⟩
  all_goals
   refine .inr ⟨_,rfl,l5,_,_,rfl,rfl,e5,(T2 (xs:=[V.int rows.length]) (dD 1)).1,(T2 (xs:=[V.int rows.length]) (dD 1)).2.1,(T2 (xs:=[V.int rows.length]) (dD 1)).2.2,fun l6 hl6=>?_⟩
   refine⟨l4,l6,_,_,rfl,rfl,z02 hl6 _ _ _ (s5 _ _ e4),A1,X3 (xs:=[V.int rows.length]) (dD 1) (bF 4),fun l7 hl7=>?_⟩
   have two':=two hc
   rw[<- hL] at two' hl7 ⊢
   clear two hL
   have s6:=(z02 hl6 (.lst L)).trans (z02 hl7 (.lst ((E3 rows.length).map V.int++L)))
   have e7:upd (upd G5 l6 (.lst L)) l7 (.lst ((E3 rows.length).map V.int++L)) l7=some (.lst ((E3 rows.length).map V.int++L)):=A1
   generalize upd (upd G5 l6 (.lst L)) l7 (.lst ((E3 rows.length).map V.int++L))=G7 at s6 e7
   generalize (E3 rows.length).map V.int++L=N at two' e7
   have g7:=g.trans (s4.trans (s5.trans s6))
   clear s6 hl6 hl7 e4 hl4 e5 hl5 s4 s5 eO5
   refine⟨l7,rfl,⟨_,SqL.of e7⟩,z1h (K:=K) (a:=l7) (xs:=N) (fun j2 σ G=>∃(o6 o7:Option V),A4 G7 G/\σ=[some (.ref p),some (.int k),some (.int rows.length),some (.int log.length),some (.ref lo),some (.int rd),o6,o7,o8,none]) ⟨_,_,A4.refl _,rfl⟩ (fun j σ G _ ⟨_,_,h,_⟩=>SqL.of (h _ _ e7)) ?_ ?_⟩
   ·rintro j2 y2 σ G hy2 ⟨o6,o7,h,rfl⟩
    obtain⟨n,rfl,hn⟩:=two' _ (bZ hy2)
    refine⟨_,rfl,_,_,rfl,rfl,_,rfl,?_⟩
    have bk':=O.same bk (s3.trans (g7.trans h))
    refine fork _ (fun c1=>J8 ?_) (fun c1=>⟨_,rfl,_,rfl,_,_,rfl,rfl,_,rfl,fork _ (fun c2=>?_) (fun c2=>?_)⟩)
    ·refine⟨_,rfl,_,rfl,_,rfl,"deliver",p,.int rd,.int n,fp,zs,r,k,rows,log,rfl,bk',.inr (.inr (.inr (.inl ⟨rfl,rd,n,4,rfl,rfl,.inl ⟨.inl (of_decide_eq_true c1),rfl⟩,fun u G1 t1 tu=>?_⟩)))⟩
     refine⟨_,rfl,(by show 2≤sizeLine;decide),fun tt htt=>?_⟩
     exact⟨u,.ref tt,rfl,told rfl tu htt rfl,fun G2 t2=>⟨_,rfl,C2 ⟨_,_,h.trans (t1.trans ((z02 htt _).trans t2)),rfl⟩⟩⟩
    ·refine⟨_,rfl,_,rfl,_,rfl,"deliver",p,.int rd,.int n,fp,zs,r,k,rows,log,rfl,bk',.inr (.inr (.inr (.inl ⟨rfl,rd,n,4,rfl,rfl,.inl ⟨.inr (of_decide_eq_true c2),rfl⟩,fun u G1 t1 tu=>?_⟩)))⟩
     refine⟨_,rfl,(by show 2≤sizeLine;decide),fun tt htt=>?_⟩
     exact⟨u,.ref tt,rfl,told rfl tu htt rfl,fun G2 t2=>⟨_,rfl,C2 ⟨_,_,h.trans (t1.trans ((z02 htt _).trans t2)),rfl⟩⟩⟩
    ·have e1:¬n<1:=of_decide_eq_false c1
     have e2:¬(rows.length:Int)<n:=of_decide_eq_false c2
     refine⟨_,rfl,_,rfl,_,rfl,"deliver",p,.int rd,.int n,fp,zs,r,k,rows,log,rfl,bk',.inr (.inr (.inr (.inl ⟨rfl,rd,n,6,rfl,rfl,.inr ⟨by omega,by omega,.inl ⟨hn.elim (fun z=>by omega) fun z=>z.2.2,rfl⟩⟩,fun u G1 t1 tu=>?_⟩)))⟩
     refine⟨_,rfl,(by show 2≤sizeLine;decide),fun tt htt=>?_⟩
     exact⟨u,.ref tt,rfl,told rfl tu htt rfl,fun G2 t2=>⟨_,rfl,C2 ⟨_,_,h.trans (t1.trans ((z02 htt _).trans t2)),rfl⟩⟩⟩
   ·rintro σ G ⟨o6,o7,h,rfl⟩
    refine⟨_,rfl,_,rfl,_,_,rfl,rfl,_,_,rfl,rfl,⟨by decide,by decide,by decide⟩,(by show 3≤sizeLine;decide),fun l8 hl8=>⟨_,rfl,(by show 2≤sizeLine;decide),fun l9 hl9=>⟨_,rfl,_,rfl,lo,_,rfl,.inl (SqL.of ?_),rfl,flO,?_⟩⟩⟩
    ·exact(z02 hl9 _) _ _ ((z02 hl8 _) _ _ ((g7.trans h) _ _ eO3))
    have s8:=z02 hl8 (.lst ((outD log.length).map V.int))
    have e8:upd G l8 (.lst ((outD log.length).map V.int)) l8=some (.lst ((outD log.length).map V.int)):=A1
    rw[pwD] at hl9 ⊢
    generalize upd G l8 (.lst ((outD log.length).map V.int))=G8 at s8 e8 hl9 ⊢
    have s9:=z02 hl9 (.lst [V.int log.length,V.non])
    have e9:upd G8 l9 (.lst [V.int log.length,V.non]) l9=some (.lst [V.int log.length,V.non]):=A1
    generalize upd G8 l9 (.lst [V.int log.length,V.non])=G9 at s9 e9 ⊢
    generalize hcx:(if false=true then !inV (.int rd) ((E3 k).map V.int) else inV (.int rd) ((E3 k).map V.int))=c
    have hc:c=true->(rd<1\/k<rd):=fun e=>inO (hcx.trans e)
    refine .inr ⟨_,rfl,l9,_,_,rfl,rfl,e9,(T2 (xs:=[V.int log.length,V.non]) (bF 2)).1,(T2 (xs:=[V.int log.length,V.non]) (bF 2)).2.1,(T2 (xs:=[V.int log.length,V.non]) (bF 2)).2.2,fun l10 hl10=>?_⟩
    refine⟨l8,l10,_,_,rfl,rfl,z02 hl10 _ _ _ (s9 _ _ e8),A1,X3 (xs:=[V.int log.length,V.non]) (bF 2) (dD 3),fun l11 hl11=>?_⟩
    have two':∀y∈(outD log.length).map V.int++(List.replicate (if c=true then (1:Int) else 0).toNat [V.int log.length,V.non]).flatten,(∃d:Int,y=.int d/\(d<0\/(log.length:Int)<d))\/((rd<1\/k<rd)/\(y=.int log.length\/y=.non)):=fun y hy=>by
     rcases c8.mp hy with h|h
     ·obtain⟨d,hd,rfl⟩:=cF.mp h
      exact .inl ⟨d,rfl,y2h (by omega) (by omega) hd⟩
     ·obtain⟨e,h⟩:=y1P h
      refine .inr ⟨hc e,?_⟩
      rcases bD.mp h with h|h
      ·exact .inl h
      ·exact .inr (bC.mp h)
    generalize (List.replicate (if c=true then (1:Int) else 0).toNat [V.int log.length,V.non]).flatten=L2 at two' hl11 ⊢
    have s10:=(z02 hl10 (.lst L2)).trans (z02 hl11 (.lst ((outD log.length).map V.int++L2)))
    have e11:upd (upd G9 l10 (.lst L2)) l11 (.lst ((outD log.length).map V.int++L2)) l11=some (.lst ((outD log.length).map V.int++L2)):=A1
    generalize upd (upd G9 l10 (.lst L2)) l11 (.lst ((outD log.length).map V.int++L2))=G11 at s10 e11
    generalize (outD log.length).map V.int++L2=N2 at two' e11
    have g11:=g7.trans (h.trans (s8.trans (s9.trans s10)))
    clear s10 hl10 hl11 e8 hl8 e9 hl9 s8 s9 hcx hc h
    refine⟨l11,rfl,⟨_,SqL.of e11⟩,z1h (K:=K) (a:=l11) (xs:=N2) (fun j2 σ G=>∃(o7 o8:Option V),A4 G11 G/\σ=[some (.ref p),some (.int k),some (.int rows.length),some (.int log.length),some (.ref lo),some (.int rd),o6,o7,o8,none]) ⟨_,_,A4.refl _,rfl⟩ (fun j σ G _ ⟨_,_,h,_⟩=>SqL.of (h _ _ e11)) ?_ ?_⟩
    ·rintro j3 y3 σ G hy3 ⟨o7,o8,h,rfl⟩
     have bk':=O.same bk (s3.trans (g11.trans h))
     rcases two' _ (bZ hy3) with ⟨d,rfl,hd⟩|⟨hro,rfl|rfl⟩
     ·refine⟨_,rfl,_,rfl,C2 ⟨_,rfl,_,rfl,rfl,_,rfl,fork _ (fun c1=>?_) (fun _=>?_)⟩⟩
      ·exfalso
       have:=of_decide_eq_true c1
       cases this
       omega
      ·refine⟨_,rfl,_,rfl,_,rfl,"shelf",p,.int rd,.int d,fp,zs,r,k,rows,log,rfl,bk',.inr (.inr (.inr (.inr (.inr (.inr ⟨rfl,rd,7,rfl,.inl ⟨d,rfl,hd,rfl⟩,fun u G1 t1 tu=>?_⟩)))))⟩
       refine⟨_,rfl,(by show 2≤sizeLine;decide),fun tt htt=>?_⟩
       exact⟨u,.ref tt,rfl,told rfl tu htt rfl,fun G2 t2=>⟨_,rfl,C2 ⟨_,_,h.trans (t1.trans ((z02 htt _).trans t2)),rfl⟩⟩⟩
     ·refine⟨_,rfl,_,rfl,C2 ⟨_,rfl,_,rfl,rfl,_,rfl,fork _ (fun _=>?_) (fun c1=>absurd (decide_eq_true rfl) (by rw[c1];exact Bool.noConfusion))⟩⟩
      refine⟨_,rfl,_,rfl,_,rfl,"shelf",p,.int rd,.int log.length,fp,zs,r,k,rows,log,rfl,bk',.inr (.inr (.inr (.inr (.inr (.inr ⟨rfl,rd,6,rfl,.inr ⟨.inr ⟨_,rfl,by omega,by omega⟩,hro,rfl⟩,fun u G1 t1 tu=>?_⟩)))))⟩
      refine⟨_,rfl,(by show 2≤sizeLine;decide),fun tt htt=>?_⟩
      exact⟨u,.ref tt,rfl,told rfl tu htt rfl,fun G2 t2=>⟨_,rfl,C2 ⟨_,_,h.trans (t1.trans ((z02 htt _).trans t2)),rfl⟩⟩⟩
     ·refine⟨_,rfl,_,rfl,J8 (J8 ?_)⟩
      refine⟨_,rfl,_,rfl,_,rfl,"shelf",p,.int rd,.non,fp,zs,r,k,rows,log,rfl,bk',.inr (.inr (.inr (.inr (.inr (.inr ⟨rfl,rd,6,rfl,.inr ⟨.inl rfl,hro,rfl⟩,fun u G1 t1 tu=>?_⟩)))))⟩
      refine⟨_,rfl,(by show 2≤sizeLine;decide),fun tt htt=>?_⟩
      exact⟨u,.ref tt,rfl,told rfl tu htt rfl,fun G2 t2=>⟨_,rfl,C2 ⟨_,_,h.trans (t1.trans ((z02 htt _).trans t2)),rfl⟩⟩⟩
    ·rintro σ G ⟨o7,o8,h,rfl⟩
     exact⟨_,_,_,_,g11.trans h,rfl⟩
 rintro σ G ⟨o5,o6,o7,o8,g,rfl⟩
 refine⟨_,rfl,_,rfl,_,_,rfl,rfl,_,_,rfl,rfl,⟨by decide,by decide,by decide⟩,(by show 4≤sizeLine;decide),fun l4 hl4=>?_⟩
 rw[pw]
 have s4:=z02 hl4 (.lst ((E3 rows.length).map V.int))
 have e4:upd G l4 (.lst ((E3 rows.length).map V.int)) l4=some (.lst ((E3 rows.length).map V.int)):=A1
 generalize upd G l4 (.lst ((E3 rows.length).map V.int))=G4 at s4 e4
 have g4:=s3.trans (g.trans s4)
 refine⟨l4,rfl,⟨_,SqL.of e4⟩,z1h (K:=K) (a:=l4) (xs:=(E3 rows.length).map V.int) (fun j2 σ G=>∃(o6:Option V),A4 G4 G/\σ=[some (.ref p),some (.int k),some (.int rows.length),some (.int log.length),some (.ref lo),o5,o6,o7,o8,none]) ⟨_,A4.refl _,rfl⟩ (fun j σ G _ ⟨_,h,_⟩=>SqL.of (h _ _ e4)) ?_ ?_⟩
 ·rintro j3 y3 σ G hy3 ⟨o6,h,rfl⟩
  obtain⟨n,hn,rfl⟩:=cF.mp (bZ hy3)
  have ho:=z5C (by omega) hn
  have bk':=O.same bk (g4.trans h)
  refine⟨_,rfl,_,rfl,"issue",p,.int n,.int 0,fp,zs,r,k,rows,log,rfl,bk',.inr (.inr (.inr (.inr (.inl ⟨rfl,n,4,rfl,ho,rfl,fun u G1 t1 tu=>?_⟩))))⟩
  refine⟨(by show 2≤sizeLine;decide),fun tt htt=>?_⟩
  exact⟨u,.ref tt,rfl,told rfl tu htt rfl,fun G2 t2=>⟨_,rfl,C2 ⟨_,h.trans (t1.trans ((z02 htt _).trans t2)),rfl⟩⟩⟩
 rintro σ G ⟨o6,g5,rfl⟩
 refine⟨_,rfl,_,rfl,_,_,rfl,rfl,_,_,rfl,rfl,⟨by decide,by decide,by decide⟩,(by show 4≤sizeLine;decide),fun l6 hl6=>?_⟩
 rw[pw]
 have s6:=z02 hl6 (.lst ((E3 log.length).map V.int))
 have e6:upd G l6 (.lst ((E3 log.length).map V.int)) l6=some (.lst ((E3 log.length).map V.int)):=A1
 generalize upd G l6 (.lst ((E3 log.length).map V.int))=G6 at s6 e6
 have g6:=g4.trans (g5.trans s6)
 refine⟨l6,rfl,⟨_,SqL.of e6⟩,z1h (K:=K) (a:=l6) (xs:=(E3 log.length).map V.int) (fun j2 σ G=>∃(o9:Option V),A4 G6 G/\σ=[some (.ref p),some (.int k),some (.int rows.length),some (.int log.length),some (.ref lo),o5,o6,o7,o8,o9]) ⟨_,A4.refl _,rfl⟩ (fun j σ G _ ⟨_,h,_⟩=>SqL.of (h _ _ e6)) ?_ ?_⟩
 ·rintro j3 y3 σ G hy3 ⟨o9,h,rfl⟩
  obtain⟨n,hn,rfl⟩:=cF.mp (bZ hy3)
  have ho:=z5C (by omega) hn
  have bk':=O.same bk (g6.trans h)
  refine⟨_,rfl,_,rfl,"deed",p,.int n,.int 0,fp,zs,r,k,rows,log,rfl,bk',.inr (.inr (.inr (.inr (.inr (.inl ⟨rfl,n,7,rfl,ho,rfl,fun u G1 t1 tu=>?_⟩)))))⟩
  refine⟨(by show 2≤sizeLine;decide),fun tt htt=>?_⟩
  exact⟨u,.ref tt,rfl,told rfl tu htt rfl,fun G2 t2=>⟨_,rfl,C2 ⟨_,h.trans (t1.trans ((z02 htt _).trans t2)),rfl⟩⟩⟩
 rintro σ G ⟨o9,h,rfl⟩
 exact q _ (g6.trans h)
def wrN(log:List B2):Nat:=(log.filter fun d=>d.1.isNone).length
theorem z1J(log:List B2)(d:B2):wrN (log++[d])=wrN log+(if d.1.isNone then 1 else 0):=by
 unfold wrN
 rw[eY,bE,gB]
 split<;>rfl
theorem y1g(log:List B2):wrN log≤log.length:=d7 _ _
def y3d(k:Int)(log:List B2)(d:B2):Prop:=match d with
 | (none,n)=>n=(wrN log:Int)+1/\wrN log<60
 | (some rd,n)=>1≤rd/\rd≤k/\1≤n/\n≤(wrN log:Int)
def z3n(k:Int)(log:List B2):Prop:=∀i d,log[i]? = some d->y3d k (log.take i) d
theorem z3n.nil(k:Int):z3n k []:=fun i d e=>by simp at e
theorem z3n.snoc{k:Int}{log:List B2}{d:B2}(h:z3n k log)(n:y3d k log d):z3n k (log++[d]):=fun i e he=>by
 rcases Nat.lt_or_ge i log.length with q|q
 ·rw[dH q] at he
  rw[List.take_append_of_le_length (dX q)]
  exact h i e he
 ·rw[dP q] at he
  have hi:i-log.length=0:=by
   have:=(cJ.mp he).1
   rw[dO] at this
   omega
  rw[hi] at he
  cases he
  have:i=log.length:=by omega
  rw[this,List.take_left]
  exact n
theorem z4P{H H':Hp}{l t:Addr}{us:List V}{log:List B2}(d:B2)(s:A4 H H')(nl:H l=none)(el:H' l=some (.lst us))(pr:Paired (z15 H') us log)(ht:H' t=none) :
  A4 H (upd (upd H' t (.tup (z1P d))) l (.lst (us++[.ref t])))/\upd (upd H' t (.tup (z1P d))) l (.lst (us++[.ref t])) l=some (.lst (us++[.ref t]))/\Paired (z15 (upd (upd H' t (.tup (z1P d))) l (.lst (us++[.ref t])))) (us++[.ref t]) (log++[d]):=by
 have s1:=z02 ht (.tup (z1P d))
 have e1:=s1 _ _ el
 have k1:∀{b:Addr}{xs:List V},upd H' t (.tup (z1P d)) b=some (.tup xs)->upd (upd H' t (.tup (z1P d))) l (.lst (us++[.ref t])) b=some (.tup xs):=fun q=>by
  rw[z0b (z54 q e1 (fun z=>by cases z))]
  exact q
 refine⟨z37 (s.trans s1) nl,A1,g8 (L2.Paired.T9 pr fun u d' ⟨b,e,q⟩=>⟨b,e,k1 (s1 _ _ q)⟩) ⟨t,rfl,k1 A1⟩⟩
theorem D0.keep{H H':Hp}{us:List V}{log:List B2}(s:A4 H H')(h:Paired (z15 H) us log):Paired (z15 H') us log:=
 L2.Paired.T9 h fun u d ⟨b,e,q⟩=>⟨b,e,s _ _ q⟩
theorem w0g{k:Int}{log:List B2}(h:z3n k log):∀i,wrN (log.take i)≤60
 | 0=>cL _
 | i+1=>by
  have ih:=w0g h i
  cases e:log[i]? with
  | none=>
   rw[dJ,e]
   simpa using ih
  | some d=>
   have ok:=h i d e
   rw[z0w e,z1J]
   obtain⟨a,n⟩:=d
   cases a with
   | none=>
    have:wrN (log.take i)<60:=ok.2
    show wrN (log.take i)+1≤60
    omega
   | some rd=>exact ih
def HT(H:Hp)(u:V)(p:Str×Int):Prop:=∃b,u=.ref b/\H b=some (.tup [.str p.1,.int p.2])
theorem HT.keep{H H':Hp}(g:A4 H H'):∀{us:List V}{pr:Row},Paired (HT H) us pr->Paired (HT H') us pr
 | _,_,.nil=>.nil
 | _,_,.cons ⟨b,e,h⟩ t=>.cons ⟨b,e,g _ _ h⟩ (HT.keep g t)
theorem HT.hand{K:PySem.W.Frag}{H:Hp}{fp:List Addr}(no:z45 H fp):∀{us:List V}{pr:Row},Paired (HT H) us pr->Paired (z68 K H fp) us pr
 | _,_,.nil=>.nil
 | _,_,.cons ⟨b,e,h⟩ t=>.cons ⟨b,e,.inr (SqT.of h),fun m=>no b m _ h⟩ (HT.hand no t)
theorem z7t{H:Hp}:∀{w:Row}{xs:List V},z0k H (w.map z81) xs->Paired (HT H) xs w
 | [],xs,h=>by
  rw[z36 h]
  exact .nil
 | p::w,xs,h=>by
  obtain⟨x,r,rfl,t,h'⟩:=z0T h
  obtain⟨a,us,rfl,ea,_,tu⟩:=z1b (show B5 H (.tup [.str p.1,.int p.2]) x from t)
  obtain⟨y1,r1,rfl,t1,h3⟩:=z0T tu
  obtain⟨y2,r2,rfl,t2,h4⟩:=z0T h3
  have:=z36 h4
  subst this
  rw[z5y t1,z3x t2] at ea
  exact .cons ⟨a,rfl,ea⟩ (z7t h')
def z6g(n:Nat):List B2:=(upI 1 n).map fun k=>(none,k)
theorem z7g(i:Nat):z6g (i+1)=z6g i++[(none,1+(i:Int))]:=by
 unfold z6g
 rw[z5J,bR]
 rfl
theorem z9C(k:Int):∀i,i≤60->z3n k (z6g i)/\wrN (z6g i)=i
 | 0,_=>⟨z3n.nil k,rfl⟩
 | i+1,h=>by
  obtain⟨h1,h2⟩:=z9C k i (by omega)
  rw[z7g]
  refine⟨h1.snoc ⟨by rw[h2];exact Int.add_comm _ _,by rw[h2];omega⟩,?_⟩
  rw[z1J,h2]
  rfl
theorem z6N{num jp mx:Int}(hj:1≤jp)(hm:num-5*jp≤mx):J3 (num-jp) mx (0-jp)≤4:=by
 refine dI fun h=>?_
 have:=z8X (a:=num-jp) (b:=mx) (c:=0-jp) (i:=4) (by omega) (by omega)
 have e:((4:Nat):Int)*(0-jp)=-(4*jp):=by omega
 rw[e] at this
 omega
def y1B(K:PySem.W.Frag):Sp:=fun vs H Q _=>∃(lc:Addr) (cs:List Int) (first rds:Int),vs=[.ref lc,.int 60,.int first,.int rds]/\SqL K H lc (cs.map V.int)/\0≤first/\first≤30/\1≤rds/\rds≤10/\
 ∀(l:Addr) (us:List V) (log:List B2) (H':Hp),H l=none->A4 H H'->H' l=some (.lst us)->Paired (z15 H') us log->z3n rds log->log.length≤246->Q (.ref l) H'
theorem y1i(M:Bl mg)(F:Fun K "_law_deeds" "_law_deeds" z46 f fd)(C1:Cal P w K mg base 1 "_law_pick" z2U z9G):B0 P w K mg base CX0 2 f fd z4i (y1B K):=by
 have nd:=z5m.nd
 refine F.ok z5m (fun vs H Q E h=>?_) (fun cdv A outer s H vs Q E hr h=>?_)
 ·obtain⟨lc,cs,first,rds,rfl,_⟩:=h
  rfl
 obtain⟨lc,cs,first,rds,rfl,hC,f0,f30,d1,d10,q⟩:=h
 refine⟨_,(z03 (z55 (i:=4) ["_law_k"] [] [] rfl nd rfl (Or.inl rfl) (z0H rfl (by decide +kernel) rfl (by decide +kernel) rfl rfl) (z1l rfl M.range (z00 (pv 2) z01)) (fun _ _ _ _ _=>(z0o (i:=0) (show((["_law_k"]:List PySem.Str)++([]:List PySem.Str)).Nodup from by decide +kernel) rfl (Or.inl rfl))) (z0R (by decide)) z0t (fun _ _ _ _ _=>z2q) (fun _ _ _ _ _=>(z1j (z00 z0l (z00 (z0a z0O (pv 0) z04) z01))))) (z03 (z0e (i:=5) nd rfl (Or.inl rfl) (pv 2)) (z03 (z1g cB rfl (z16 (pv 0)) (z0o (i:=6) nd rfl (Or.inl rfl)) (z03 (z0e (i:=7) nd rfl (Or.inl rfl) (z0r C1 (rm hr) rfl (z00 (z0a z0y (pv 6) z04) (z00 (z0a z3X z04 z04) z01)))) (z03 (z0v (z09 z2g (z08 z06 rfl M.len bH (z00 (pv 4) z01)) z04 (z0d _)) (z05 y2J) z0c) (z05 (z0v (z09 z1w (z0a z0u (pv 6) z04) z04 (z0d _)) (z05 (z1g cB rfl (z1l rfl M.range (z00 (z0a z0O z04 (z0a z0u (pv 7) z04)) z01)) (z0o (i:=8) nd rfl (Or.inl rfl)) (z05 (z0v (z09 z3o (pv 5) (pv 1) (z0d _)) (z03 (z0e (i:=5) nd rfl (Or.inl rfl) (z0a z0O (pv 5) z04)) (z05 (z0n (z2h bM bP bQ z0B (pv 4) (z00 (z1j (z00 z0l (z00 (pv 5) z01))) z01))))) z0c)))) (z05 (z0v (z09 z2g (pv 5) z04 (z0d _)) (z03 (z0e (i:=9) nd rfl (Or.inl rfl) (z0a z0O z04 (z0a z0u (pv 7) (pv 3)))) (z03 (z0e (i:=10) nd rfl (Or.inl rfl) (z0a z0O z04 (z0a z0u (z0a z0y (pv 7) (pv 3)) (pv 5)))) (z03 (z0v (z09 z1w (z0a z0u (pv 6) z04) z04 (z0d _)) (z05 (z0e (i:=10) nd rfl (Or.inl rfl) (pv 5))) z0c) (z03 (z0n (z2h bM bP bQ z0B (pv 4) (z00 (z1j (z00 z0l (z00 (pv 9) (z00 (pv 10) z01)))) z01))) (z05 (z0v (z09 z1w (z0a z0u (pv 6) z04) z04 (z0d _)) (z03 (z0e (i:=11) nd rfl (Or.inl rfl) (z0a z0O z04 (z0a z0u (z0a z0y (z0a z0y (pv 7) (pv 3)) (pv 5)) z04))) (z05 (z1g cB rfl (y0N rfl M.range (z00 (z0a z3G (pv 10) (pv 11)) (z00 (z08 (z7S rfl) rfl M.max gF (z00 z04 (z00 (z0a z3G (pv 10) (z0a z4H z04 (pv 11))) z01))) (z00 (z0a z3G z04 (pv 11)) z01)))) (z0o (i:=12) nd rfl (Or.inl rfl)) (z05 (z0n (z2h bM bP bQ z0B (pv 4) (z00 (z1j (z00 z0l (z00 (pv 9) (z00 (pv 12) z01)))) z01))))))) z0c)))))) z0c))))))) (z05 (z0h (pv 4)))))),?_⟩
 refine⟨_,rfl,_,rfl,by omega,by omega,?_⟩
 refine z76 (lo:=0) (n:=first.toNat) (fun i ys H'=>A4 H H'/\Paired (z15 H') ys (z6g i)) ⟨A4.refl _,.nil⟩ (fun i ys H' hi hp=>?_) (fun i ys H' hi hp=>?_) (fun ys H' hp=>?_)
 ·obtain⟨g,p⟩:=hp
  have:=z0G p
  unfold z6g at this
  rw[bA,z0V] at this
  exact z0i (by omega)
 ·obtain⟨g,p⟩:=hp
  refine⟨_,rfl,_,_,rfl,rfl,(by show 2≤sizeLine;decide),fun t ht=>⟨g.trans (z02 ht _),?_⟩⟩
  rw[z7g]
  refine g8 (D0.keep (z02 ht _) p) ⟨t,rfl,?_⟩
  rw[A1]
  show some (HO.tup [V.str "write",V.int (0+(i:Int)+1)])=some (HO.tup [V.str "write",V.int (1+(i:Int))])
  rw[fR,Int.add_comm]
 obtain⟨g,p⟩:=hp
 intro l hl
 have nl:H l=none:=g.free hl
 have s1:=g.trans (z02 hl (.lst ys))
 have e1:upd H' l (.lst ys) l=some (.lst ys):=A1
 have p1:=D0.keep (z02 hl (.lst ys)) p
 generalize upd H' l (.lst ys)=H1 at s1 e1 p1
 obtain⟨lk0,wn0⟩:=z9C rds first.toNat (by omega)
 have ln0:(z6g first.toNat).length=first.toNat:=by
  unfold z6g
  rw[bA,z0V]
 have wf:((wrN (z6g first.toNat):Nat):Int)=first:=by rw[wn0];omega
 refine⟨_,rfl,_,rfl,lc,rfl,⟨_,s1.seq hC⟩,z1h (K:=K) (a:=lc) (xs:=cs.map V.int) (fun _ σ G=>∃(us:List V) (log:List B2) (o6 o7 o8 o9 o10 o11 o12:Option V),A4 H G/\G l=some (.lst us)/\Paired (z15 G) us log/\z3n rds log/\log.length≤246/\
   σ=[some (.ref lc),some (.int 60),some (.int first),some (.int rds),some (.ref l),some (.int (wrN log)),o6,o7,o8,o9,o10,o11,o12]) ⟨ys,z6g first.toNat,none,none,none,none,none,none,none,s1,e1,p1,lk0,by omega,by rw[wf];rfl⟩ (fun i σ G _ ⟨_,_,_,_,_,_,_,_,_,g,_⟩=>g.seq hC) ?_ ?_⟩
 ·rintro i u σ G hi ⟨us,log,o6,o7,o8,o9,o10,o11,o12,sG,eG,pG,lk,l246,rfl⟩
  rw[bV] at hi
  obtain⟨c,_,rfl⟩:=cS.mp hi
  have lu:=z0G pG
  refine⟨_,rfl,_,_,rfl,rfl,⟨by decide,by decide⟩,_,_,rfl,rfl,⟨by decide,by decide,by decide⟩,_,_,rfl,(by decide),fun rest x0 x1=>?_⟩
  refine⟨_,rfl,l,us,rfl,.inl (SqL.of eG),_,_,rfl,rfl,_,rfl,B3 (fun c1=>?_) (fun c1=>?_)⟩
  ·exact⟨_,rfl,q l us log G nl sG eG pG lk l246⟩
  have c1':=z8F c1
  have l240:log.length≤240:=by omega
  refine⟨_,rfl,_,_,rfl,rfl,(by show(0:Int)<5;decide),rfl,_,rfl,B3 (fun c2=>?_) (fun c2=>?_)⟩
  ·refine⟨_,rfl,_,_,rfl,rfl,(by show(0:Int)<6;decide),_,_,rfl,rfl,_,rfl,by have:=cA rest (show(6:Int)≠0 by decide);omega,by have:=bS rest (show(0:Int)<6 by decide);omega,?_⟩
   have r6:(1+rest%6).toNat≤6:=by have:=bS rest (show(0:Int)<6 by decide);omega
   refine z1H (lo:=0) (n:=(1+rest%6).toNat) (fun j σ G2=>∃(us2:List V) (log2:List B2) (o8:Option V),A4 H G2/\G2 l=some (.lst us2)/\Paired (z15 G2) us2 log2/\z3n rds log2/\log2.length≤240+j/\
    σ=[some (.ref lc),some (.int 60),some (.int first),some (.int rds),some (.ref l),some (.int (wrN log2)),some (.int c),some (.int rest),o8,o9,o10,o11,o12]) ⟨us,log,_,sG,eG,pG,lk,l240,rfl⟩ (fun j σ G2 hj hp=>?_) (fun σ G2 hp=>?_)
   ·obtain⟨us2,log2,o8',sG2,eG2,pG2,lk2,l2,rfl⟩:=hp
    have lu2:=z0G pG2
    refine⟨_,rfl,_,rfl,_,_,rfl,rfl,_,rfl,B3 (fun c3=>?_) (fun c3=>?_)⟩
    ·have c3':=z0x c3
     have eN:((wrN (log2++[(none,(wrN log2:Int)+1)]):Nat):Int)=(wrN log2:Int)+1:=by
      rw[z1J]
      rfl
     refine⟨_,rfl,_,_,rfl,rfl,_,rfl,.inl ⟨rfl,_,SqL.of eG2⟩,_,rfl,(by show 2≤sizeLine;decide),fun t ht=>⟨l,us2,_,rfl,rfl,z02 ht _ _ _ eG2,z0i (by omega),?_⟩⟩
     obtain⟨a1,a2,a3⟩:=z4P (none,(wrN log2:Int)+1) sG2 nl eG2 pG2 ht
     exact⟨_,log2++[(none,(wrN log2:Int)+1)],_,a1,a2,a3,lk2.snoc ⟨rfl,by omega⟩,by rw[bE];exact hG l2,by rw[eN];rfl⟩
    ·exact⟨us2,log2,_,sG2,eG2,pG2,lk2,by omega,rfl⟩
   ·obtain⟨us2,log2,o8',sG2,eG2,pG2,lk2,l2,rfl⟩:=hp
    exact⟨us2,log2,_,_,_,_,_,_,_,sG2,eG2,pG2,lk2,by omega,rfl⟩
  ·refine⟨_,rfl,_,_,rfl,rfl,_,rfl,B3 (fun c3=>?_) (fun c3=>?_)⟩
   ·have c3':(0:Int)<(wrN log:Int):=z0x c3
    have w60:wrN log≤246:=cC (y1g log) l246
    have hrd:1≤1+rest%rds/\1+rest%rds≤rds:=by
     have:=cA rest (show rds≠0 by omega)
     have:=bS rest (show(0:Int)<rds by omega)
     omega
    have hnm:1≤1+rest / rds%(wrN log:Int)/\1+rest / rds%(wrN log:Int)≤(wrN log:Int):=by
     have:=cA (rest / rds) (show(wrN log:Int)≠0 by omega)
     have:=bS (rest / rds) c3'
     omega
    refine⟨_,rfl,_,rfl,_,_,rfl,rfl,by omega,_,_,rfl,rfl,?_⟩
    refine⟨_,rfl,_,rfl,_,_,rfl,rfl,⟨by omega,by omega⟩,_,rfl,_,_,rfl,rfl,c3',_,_,rfl,rfl,?_⟩
    refine⟨_,rfl,_,_,rfl,rfl,(by show(0:Int)<5;decide),rfl,_,rfl,B3 (fun c4=>⟨_,rfl,?_⟩) (fun c4=>?_)⟩
    ·have hN:1≤(wrN log:Int)/\(wrN log:Int)≤(wrN log:Int):=⟨by omega,g0 _⟩
     refine⟨_,rfl,.inl ⟨rfl,_,SqL.of eG⟩,_,rfl,_,rfl,(by show 3≤sizeLine;decide),fun t ht=>⟨l,us,_,rfl,rfl,z02 ht _ _ _ eG,z0i (by omega),?_⟩⟩
     obtain⟨a1,a2,a3⟩:=z4P (some (1+rest%rds),(wrN log:Int)) sG nl eG pG ht
     have lk1:=lk.snoc (d:=(some (1+rest%rds),(wrN log:Int))) ⟨hrd.1,hrd.2,hN.1,hN.2⟩
     have wn1:wrN (log++[((some (1+rest%rds),(wrN log:Int)):B2)])=wrN log:=by rw[z1J];rfl
     have ln1:(log++[((some (1+rest%rds),(wrN log:Int)):B2)]).length=log.length+1:=by rw[bE];rfl
     generalize hG1:upd (upd G t (.tup (z1P (some (1+rest%rds),(wrN log:Int))))) l (.lst (us++[.ref t]))=G1 at a1 a2 a3
     have Y3:upd (upd G t (.tup [V.str "deliver",V.int (1+rest%rds),V.int (wrN log:Int)])) l (.lst (us++[.ref t]))=G1:=hG1
     rw[Y3]
     clear hG1 Y3
     refine⟨_,rfl,_,_,rfl,rfl,(by show(0:Int)<5;decide),rfl,_,rfl,B3 (fun c5=>?_) (fun c5=>?_)⟩
     ·have hj:1≤1+rest / rds / (wrN log:Int)%9/\1+rest / rds / (wrN log:Int)%9≤9:=by
       have:=cA (rest / rds / (wrN log:Int)) (show(9:Int)≠0 by decide)
       have:=bS (rest / rds / (wrN log:Int)) (show(0:Int)<9 by decide)
       omega
      refine⟨_,rfl,_,rfl,_,_,rfl,rfl,⟨by omega,by omega⟩,_,rfl,_,_,rfl,rfl,⟨c3',by omega⟩,_,_,rfl,rfl,(by show(0:Int)<9;decide),_,_,rfl,rfl,?_⟩
      refine⟨_,rfl,_,rfl,_,_,rfl,rfl,_,rfl,_,rfl,_,_,rfl,rfl,.inl ⟨by decide,by decide⟩,_,_,rfl,rfl,_,_,rfl,_,rfl,_,_,rfl,rfl,_,_,_,rfl,?_,?_⟩
      ·refine⟨by omega,by omega,by split<;>omega,by split<;>omega,by omega,by omega⟩
      ·have mx0:0≤(if (wrN log:Int)-5*(1+rest / rds / (wrN log:Int)%9) > 0 then (wrN log:Int)-5*(1+rest / rds / (wrN log:Int)%9) else 0):=by split<;>omega
       have mx5:(wrN log:Int)-5*(1+rest / rds / (wrN log:Int)%9)≤(if (wrN log:Int)-5*(1+rest / rds / (wrN log:Int)%9) > 0 then (wrN log:Int)-5*(1+rest / rds / (wrN log:Int)%9) else 0):=by split<;>omega
       have n4:=z6N hj.1 mx5
       refine z9U (hi:=(wrN log:Int)-(1+rest / rds / (wrN log:Int)%9)) (c:=0-(1+rest / rds / (wrN log:Int)%9)) (n:=J3 ((wrN log:Int)-(1+rest / rds / (wrN log:Int)%9)) (if (wrN log:Int)-5*(1+rest / rds / (wrN log:Int)%9) > 0 then (wrN log:Int)-5*(1+rest / rds / (wrN log:Int)%9) else 0) (0-(1+rest / rds / (wrN log:Int)%9))) (fun j σ G2=>∃(us2:List V) (log2:List B2) (p12:Option V),A4 H G2/\G2 l=some (.lst us2)/\Paired (z15 G2) us2 log2/\z3n rds log2/\wrN log2=wrN log/\log2.length=log.length+1+j/\
        σ=[some (.ref lc),some (.int 60),some (.int first),some (.int rds),some (.ref l),some (.int (wrN log)),some (.int c),some (.int rest),o8,some (.int (1+rest%rds)),some (.int (wrN log:Int)),some (.int (1+rest / rds / (wrN log:Int)%9)),p12]) ⟨_,_,_,a1,a2,a3,lk1,wn1,ln1,rfl⟩ (fun j σ G2 hj2 hp=>?_) (fun σ G2 hp=>?_)
       ·obtain⟨us2,log2,p12,sG2,eG2,pG2,lk2,w2,l2,rfl⟩:=hp
        have lu2:=z0G pG2
        have st:=z8X (by omega) hj2
        refine⟨_,rfl,.inl ⟨rfl,_,SqL.of eG2⟩,_,rfl,_,rfl,(by show 3≤sizeLine;decide),fun t2 ht2=>⟨l,us2,_,rfl,rfl,z02 ht2 _ _ _ eG2,z0i (by omega),?_⟩⟩
        obtain⟨b1,b2,b3⟩:=z4P (some (1+rest%rds),(wrN log:Int)-(1+rest / rds / (wrN log:Int)%9)+j*(0-(1+rest / rds / (wrN log:Int)%9))) sG2 nl eG2 pG2 ht2
        exact⟨_,_,_,b1,b2,b3,lk2.snoc ⟨hrd.1,hrd.2,by omega,by rw[w2];omega⟩,by rw[z1J,w2]<;>rfl,by rw[bE,l2]<;>rfl,rfl⟩
       ·obtain⟨us2,log2,p12,sG2,eG2,pG2,lk2,w2,l2,rfl⟩:=hp
        exact⟨us2,log2,_,_,_,_,_,_,_,sG2,eG2,pG2,lk2,by omega,by rw[w2]<;>rfl⟩
     ·exact⟨_,_,_,_,_,_,_,_,_,a1,a2,a3,lk1,by omega,by rw[wn1];rfl⟩
    ·have hN:1≤(1+rest / rds%(wrN log:Int))/\(1+rest / rds%(wrN log:Int))≤(wrN log:Int):=hnm
     refine⟨_,rfl,.inl ⟨rfl,_,SqL.of eG⟩,_,rfl,_,rfl,(by show 3≤sizeLine;decide),fun t ht=>⟨l,us,_,rfl,rfl,z02 ht _ _ _ eG,z0i (by omega),?_⟩⟩
     obtain⟨a1,a2,a3⟩:=z4P (some (1+rest%rds),(1+rest / rds%(wrN log:Int))) sG nl eG pG ht
     have lk1:=lk.snoc (d:=(some (1+rest%rds),(1+rest / rds%(wrN log:Int)))) ⟨hrd.1,hrd.2,hN.1,hN.2⟩
     have wn1:wrN (log++[((some (1+rest%rds),(1+rest / rds%(wrN log:Int))):B2)])=wrN log:=by rw[z1J];rfl
     have ln1:(log++[((some (1+rest%rds),(1+rest / rds%(wrN log:Int))):B2)]).length=log.length+1:=by rw[bE];rfl
     generalize hG1:upd (upd G t (.tup (z1P (some (1+rest%rds),(1+rest / rds%(wrN log:Int)))))) l (.lst (us++[.ref t]))=G1 at a1 a2 a3
     have Y3:upd (upd G t (.tup [V.str "deliver",V.int (1+rest%rds),V.int (1+rest / rds%(wrN log:Int))])) l (.lst (us++[.ref t]))=G1:=hG1
     rw[Y3]
     clear hG1 Y3
     refine⟨_,rfl,_,_,rfl,rfl,(by show(0:Int)<5;decide),rfl,_,rfl,B3 (fun c5=>?_) (fun c5=>?_)⟩
     ·have hj:1≤1+rest / rds / (wrN log:Int)%9/\1+rest / rds / (wrN log:Int)%9≤9:=by
       have:=cA (rest / rds / (wrN log:Int)) (show(9:Int)≠0 by decide)
       have:=bS (rest / rds / (wrN log:Int)) (show(0:Int)<9 by decide)
       omega
      refine⟨_,rfl,_,rfl,_,_,rfl,rfl,⟨by omega,by omega⟩,_,rfl,_,_,rfl,rfl,⟨c3',by omega⟩,_,_,rfl,rfl,(by show(0:Int)<9;decide),_,_,rfl,rfl,?_⟩
      refine⟨_,rfl,_,rfl,_,_,rfl,rfl,_,rfl,_,rfl,_,_,rfl,rfl,.inl ⟨by decide,by decide⟩,_,_,rfl,rfl,_,_,rfl,_,rfl,_,_,rfl,rfl,_,_,_,rfl,?_,?_⟩
      ·refine⟨by omega,by omega,by split<;>omega,by split<;>omega,by omega,by omega⟩
      ·have mx0:0≤(if (1+rest / rds%(wrN log:Int))-5*(1+rest / rds / (wrN log:Int)%9) > 0 then (1+rest / rds%(wrN log:Int))-5*(1+rest / rds / (wrN log:Int)%9) else 0):=by split<;>omega
       have mx5:(1+rest / rds%(wrN log:Int))-5*(1+rest / rds / (wrN log:Int)%9)≤(if (1+rest / rds%(wrN log:Int))-5*(1+rest / rds / (wrN log:Int)%9) > 0 then (1+rest / rds%(wrN log:Int))-5*(1+rest / rds / (wrN log:Int)%9) else 0):=by split<;>omega
       have n4:=z6N hj.1 mx5
       refine z9U (hi:=(1+rest / rds%(wrN log:Int))-(1+rest / rds / (wrN log:Int)%9)) (c:=0-(1+rest / rds / (wrN log:Int)%9)) (n:=J3 ((1+rest / rds%(wrN log:Int))-(1+rest / rds / (wrN log:Int)%9)) (if (1+rest / rds%(wrN log:Int))-5*(1+rest / rds / (wrN log:Int)%9) > 0 then (1+rest / rds%(wrN log:Int))-5*(1+rest / rds / (wrN log:Int)%9) else 0) (0-(1+rest / rds / (wrN log:Int)%9))) (fun j σ G2=>∃(us2:List V) (log2:List B2) (p12:Option V),A4 H G2/\G2 l=some (.lst us2)/\Paired (z15 G2) us2 log2/\z3n rds log2/\wrN log2=wrN log/\log2.length=log.length+1+j/\
        σ=[some (.ref lc),some (.int 60),some (.int first),some (.int rds),some (.ref l),some (.int (wrN log)),some (.int c),some (.int rest),o8,some (.int (1+rest%rds)),some (.int (1+rest / rds%(wrN log:Int))),some (.int (1+rest / rds / (wrN log:Int)%9)),p12]) ⟨_,_,_,a1,a2,a3,lk1,wn1,ln1,rfl⟩ (fun j σ G2 hj2 hp=>?_) (fun σ G2 hp=>?_)
       ·obtain⟨us2,log2,p12,sG2,eG2,pG2,lk2,w2,l2,rfl⟩:=hp
        have lu2:=z0G pG2
        have st:=z8X (by omega) hj2
        refine⟨_,rfl,.inl ⟨rfl,_,SqL.of eG2⟩,_,rfl,_,rfl,(by show 3≤sizeLine;decide),fun t2 ht2=>⟨l,us2,_,rfl,rfl,z02 ht2 _ _ _ eG2,z0i (by omega),?_⟩⟩
        obtain⟨b1,b2,b3⟩:=z4P (some (1+rest%rds),(1+rest / rds%(wrN log:Int))-(1+rest / rds / (wrN log:Int)%9)+j*(0-(1+rest / rds / (wrN log:Int)%9))) sG2 nl eG2 pG2 ht2
        exact⟨_,_,_,b1,b2,b3,lk2.snoc ⟨hrd.1,hrd.2,by omega,by rw[w2];omega⟩,by rw[z1J,w2]<;>rfl,by rw[bE,l2]<;>rfl,rfl⟩
       ·obtain⟨us2,log2,p12,sG2,eG2,pG2,lk2,w2,l2,rfl⟩:=hp
        exact⟨us2,log2,_,_,_,_,_,_,_,sG2,eG2,pG2,lk2,by omega,by rw[w2]<;>rfl⟩
     ·exact⟨_,_,_,_,_,_,_,_,_,a1,a2,a3,lk1,by omega,by rw[wn1];rfl⟩
   ·exact⟨us,log,_,_,_,_,_,_,_,sG,eG,pG,lk,l246,rfl⟩
 ·rintro σ G ⟨us,log,o6,o7,o8,o9,o10,o11,o12,sG,eG,pG,lk,l246,rfl⟩
  exact⟨_,rfl,q l us log G nl sG eG pG lk l246⟩
def y34(K:PySem.W.Frag)(Bk:BkP):Sp:=fun vs H Q _=>∃(x l lr:Addr) (fp:List Addr) (nm:List Str) (r k:Int) (us ws:List V) (log:List B2) (rows:List Row),vs=[.ref x,.ref l,.ref lr]/\Bk H x fp nm r k [] []/\H l=some (.lst us)/\l∉fp/\Paired (z15 H) us log/\z3n k log/\log.length≤400/\
 H lr=some (.lst ws)/\lr∉fp/\z0k H (rows.map U6) ws/\rows.length=60/\Rws nm rows/\nm.Nodup/\nm.length≤12/\
 ∀(fp':List Addr) (H':Hp),(∀b∈fp',b∈fp\/H b=none)->z0s fp H H'->Bk H' x fp' nm r k (rows.take (wrN log)) log->Q (.ref x) H'
theorem y2T(M:Bl mg)(F:Fun K "_law_play" "_law_play" z4X f fd){A2:Addr}{Bk:BkP}(O:V0 A2 ["write","deliver","latest","issue","deeds","deed","shelf"] Bk)(K8:D5 P w K mg base 8 A2 "write" z2n (z4y K Bk))(L4:D5 P w K mg base 8 A2 "deliver" z1R (z39 Bk)) :
  B0 P w K mg base CX0 9 f fd z4W (y34 K Bk):=by
 have nd:=z6f.nd
 refine F.ok z6f (fun vs H Q E h=>?_) (fun cdv A outer s H vs Q E hr h=>?_)
 ·obtain⟨x,l,lr,fp,nm,r,k,us,ws,log,rows,rfl,_⟩:=h
  rfl
 obtain⟨x,l,lr,fp,nm,r,k,us,ws,log,rows,rfl,bk0,el,nl,pr,lk,l400,er,nr,tl,r60,R,ndn,n12,q⟩:=h
 refine⟨_,(z03 (z1g cB rfl (z16 (pv 1)) (z0o (i:=3) nd rfl (Or.inl rfl)) (z05 (z0v (PW.pt (z8p (z09 z1w (z0P z1F (pv 3) z04 (fun _ _=>rfl)) z0l (z0d _)) (z8R (z09 z1w (z0a z0u (z0P z1F (pv 3) z04 (fun _ _=>rfl)) z04) z04 (z0d _))))) (z05 (z0n (z1v K8 (rm hr) (pv 0) (z00 (z0z z2A rfl M.list fA (z00 (z0P z0D (pv 2) (z0a z3G (z0P z1F (pv 3) z04 (fun _ _=>rfl)) z04) (fun _ _=>rfl)) z01)) z01)))) (z05 (z0v (z09 z1w (z0P z1F (pv 3) z04 (fun _ _=>rfl)) z0l (z0d _)) (z05 (z0n (z1v K8 (rm hr) (pv 0) (z00 (z0z z0Q rfl M.tuple cI (z00 (z0P z0D (pv 2) (z0a z3G (z0P z1F (pv 3) z04 (fun _ _=>rfl)) z04) (fun _ _=>rfl)) z01)) z01)))) (z05 (z0n (z1v L4 (rm hr) (pv 0) (z00 (z0P z1F (pv 3) z04 (fun _ _=>rfl)) (z00 (z0P z1F (pv 3) z04 (fun _ _=>rfl)) z01)))))))))) (z05 (z0h (pv 0)))),?_⟩
 have ntp:z45 H fp:=O.P1 bk0
 have lw:ws.length=60:=by rw[tl.length,bA,r60]
 have lu:=z0G pr
 refine⟨_,rfl,l,rfl,⟨_,SqL.of el⟩,z1h (K:=K) (a:=l) (xs:=us) (fun i σ H'=>∃(fp':List Addr) (o:Option V),z0s fp H H'/\Bk H' x fp' nm r k (rows.take (wrN (log.take i))) (log.take i)/\(∀b∈fp',b∈fp\/H b=none)/\σ=[some (.ref x),some (.ref l),some (.ref lr),o])
  ⟨fp,none,.of (A4.refl _),bk0,fun b m=>.inl m,rfl⟩ (fun i σ H' _ ⟨_,_,bt,_⟩=>SqL.of (bt _ _ el nl)) ?_ ?_⟩
 ·rintro i u σ H' hi ⟨fp',o,bt,bk,ff,rfl⟩
  have hi':us.take us.length=us:=bU
  obtain⟨d,ed,b,rfl,hb⟩:∃d,log[i]? = some d/\z15 H u d:=by
   obtain⟨d,e1,e2⟩:=z5G pr us.length i u (by rw[bU];exact hi)
   rw[lu,bU] at e1
   exact⟨d,e1,e2⟩
  have ok:=lk i d ed
  have hb':=bt _ _ hb (fun m=>ntp b m _ hb)
  have ltk:(log.take i).length<400:=by
   have:=(cJ.mp ed).1
   rw[bO]
   omega
  obtain⟨d2,g2,z2,w2⟩:=O.ins bk
  have wle:wrN (log.take i)≤(log.take i).length:=y1g _
  obtain⟨a,n⟩:=d
  cases a with
  | some rd=>
   obtain⟨o1,o2,o3,o4⟩:=ok
   have hbd:H' b=some (.tup [V.str "deliver",V.int rd,V.int n]):=hb'
   refine⟨_,rfl,b,_,0,_,rfl,rfl,SqT.of hbd,rfl,rfl,_,rfl,C2 (C2 ?_)⟩
   refine⟨_,rfl,b,_,0,_,rfl,rfl,SqT.of hbd,rfl,rfl,_,rfl,C2 ?_⟩
   have l60:wrN (log.take i)≤60\/60<wrN (log.take i):=by omega
   have rl:((rows.take (wrN (log.take i))).length:Int)=min (wrN (log.take i)) 60:=by rw[bO,r60]<;>omega
   have n60:n≤((rows.take (wrN (log.take i))).length:Int):=by
    rw[rl]
    have:wrN (log.take i)≤60:=w0g lk i
    omega
   refine⟨_,rfl,x,d2,g2,rfl,z2,w2 _ (by simp),_,rfl,b,_,1,_,rfl,rfl,SqT.of hbd,rfl,_,rfl,b,_,2,_,rfl,rfl,SqT.of hbd,rfl,x,fp',nm,r,k,_,_,rd,n,rfl,bk,o1,o2,o3,n60,ltk,fun H7 b7 bk7=>?_⟩
   have ew:wrN (log.take (i+1))=wrN (log.take i):=by rw[z0w ed,z1J]<;>rfl
   exact⟨fp',_,(fun b o e nb=>b7 b o (bt b o e nb) fun m=>(ff b m).elim nb fun z=>by rw[e] at z;cases z),by rw[ew,z0w ed];exact bk7,ff,rfl⟩
  | none=>
   obtain⟨en,n60⟩:=ok
   have en':n=(wrN (log.take i):Int)+1:=en
   have n60':wrN (log.take i)<60:=n60
   have hbd:H' b=some (.tup [V.str "write",V.int n]):=hb'
   have ew:wrN (log.take (i+1))=wrN (log.take i)+1:=by rw[z0w ed,z1J]<;>rfl
   have hlt:wrN (log.take i)<rows.length:=by omega
   obtain⟨v,ev,tv⟩:=(z0k.but bt ntp _ _ tl).get (wrN (log.take i)) (U6 rows[wrN (log.take i)]) (by rw[bV,bG hlt]<;>rfl)
   have av:atI ws (n-1)=some v:=by
    rw[en',Int.add_sub_cancel]
    exact z1p ev
   have w0A:rows[wrN (log.take i)]? = some rows[wrN (log.take i)]:=bG hlt
   generalize rows[wrN (log.take i)]=wr at tv w0A
   have hw:=bZ w0A
   obtain⟨ar,xs,rfl,era,_,tp⟩:=z1b tv
   have sb:=R.sub wr hw
   have good:GoodR nm wr:=⟨sb.nodup ndn,fun p hp=>sb.subset (fN hp),fun p hp=>R.val wr hw p hp⟩
   have ino:z10 nm wr=wr:=z43 ndn sb
   have w12:wr.length≤12:=by
    have:=sb.length_le
    rw[bA] at this
    omega
   have lti:(rows.take (wrN (log.take i))).length=wrN (log.take i):=by rw[bO];omega
   have er':=bt _ _ er nr
   have fin:∀{G:Hp} (fp2:List Addr) (H6:Hp),A4 H' G->(∀b∈fp2,b∈fp'\/G b=none)->z0s fp' G H6->Bk H6 x fp2 nm r k (rows.take (wrN (log.take i))++[z10 nm wr]) (log.take i++[(none,((rows.take (wrN (log.take i))).length:Int)+1)])->
     ∃(fp':List Addr) (o:Option V),z0s fp H H6/\Bk H6 x fp' nm r k (rows.take (wrN (log.take (i+1)))) (log.take (i+1))/\(∀b∈fp',b∈fp\/H b=none)/\[some (V.ref x),some (V.ref l),some (V.ref lr),some (V.ref b)]=[some (V.ref x),some (V.ref l),some (V.ref lr),o]:=fun {G} fp2 H6 sl hf2 b6 bk6=>by
    rw[ino,lti,<- z0w w0A,<- en',<- z0w ed,<- ew] at bk6
    exact⟨fp2,_,(fun b o e nb=>b6 b o (sl _ _ (bt b o e nb)) fun m=>(ff b m).elim nb fun z=>by rw[e] at z;cases z),bk6,y0D bt ff sl hf2,rfl⟩
   refine⟨_,rfl,b,_,0,_,rfl,rfl,SqT.of hbd,rfl,rfl,_,rfl,J8 ?_⟩
   refine⟨_,rfl,b,_,1,_,rfl,rfl,SqT.of hbd,rfl,_,_,rfl,rfl,(by show(0:Int)<2;decide),rfl,_,rfl,B3 (fun c=>?_) (fun c=>?_)⟩
   ·refine⟨_,rfl,x,d2,g2,rfl,z2,w2 _ (by simp),_,rfl,_,rfl,b,_,1,_,rfl,rfl,SqT.of hbd,rfl,_,_,rfl,rfl,lr,ws,_,_,rfl,rfl,SqL.of er',av,ar,xs,rfl,.inr (SqT.of era),fun l2 hl2=>?_⟩
    have sl:=z02 hl2 (.lst xs)
    have el2:upd H' l2 (.lst xs) l2=some (.lst xs):=A1
    have nl2:l2∉fp':=fun m=>by
     obtain⟨o,e,_⟩:=O.own bk l2 m
     rw[hl2] at e
     cases e
    have bk':=O.same bk sl
    have hts:=z7t (z0k.keep sl _ _ tp)
    generalize upd H' l2 (.lst xs)=G at sl el2 bk' hts
    exact⟨x,.ref l2,fp',nm,r,k,_,_,wr,rfl,bk',⟨l2,xs,rfl,.inl (SqL.of el2),nl2,HT.hand (O.P1 bk') hts⟩,good,w12,by omega,ltk,fun fp2 H6 hf2 b6 bk6=>fin fp2 H6 sl hf2 b6 bk6⟩
   ·refine⟨_,rfl,b,_,0,_,rfl,rfl,SqT.of hbd,rfl,rfl,_,rfl,J8 ?_⟩
    refine⟨_,rfl,x,d2,g2,rfl,z2,w2 _ (by simp),_,rfl,_,rfl,b,_,1,_,rfl,rfl,SqT.of hbd,rfl,_,_,rfl,rfl,lr,ws,_,_,rfl,rfl,SqL.of er',av,ar,xs,rfl,.inr ⟨SqT.of era,?_⟩⟩
    exact⟨x,.ref ar,fp',nm,r,k,_,_,wr,rfl,bk,⟨ar,xs,rfl,.inr era,fun m=>O.P1 bk ar m _ era,HT.hand (O.P1 bk) (z7t tp)⟩,good,w12,by omega,ltk,fun fp2 H6 hf2 b6 bk6=>fin fp2 H6 (A4.refl _) hf2 b6 bk6⟩
 ·rintro σ H' ⟨fp',o,bt,bk,ff,rfl⟩
  rw[lu,bU] at bk
  exact⟨_,rfl,q fp' H' ff bt bk⟩
theorem z6U(rd:Int):∀log:List B2,(K1 log rd).Nodup:=by
 intro log
 have go:∀(log:List B2) (acc:List Int),acc.Nodup->(log.foldl (fun acc d=>if d.1=some rd then P8 acc d.2 else acc) acc).Nodup:=by
  intro log
  induction log with
  | nil=>intro acc h;exact h
  | cons d log ih=>
   intro acc h
   rw[dN]
   refine ih _ ?_
   split
   ·unfold P8
    split
    ·exact h
    ·rename_i hn
     exact fB.mpr ⟨h,by simp,fun a ha b hb e=>hn (by rw[<- bC.mp hb,<- e];exact ha)⟩
   ·exact h
 exact go log [] .nil
def y0Q(K:PySem.W.Frag):Sp:=fun vs H Q _=>∃(l:Addr) (us:List V) (log:List B2) (rd:Int) (d:Nat),vs=[.ref l,.int rd,.int d]/\H l=some (.lst us)/\Paired (z15 H) us log/\d≤log.length/\(∀x∈log,1≤x.2/\x.2≤60)/\
 ∀(lo:Addr) (H':Hp),H lo=none->A4 H H'->H' lo=some (.lst ((z2r (K1 (log.take d) rd)).map V.int))->Q (.ref lo) H'
theorem y0A(M:Bl mg)(F:Fun K "_law_had_at" "_law_had_at" z3B f fd):B0 P w K mg base CX0 1 f fd z3v (y0Q K):=by
 have nd:=z4p.nd
 refine F.ok z4p (fun vs H Q E h=>?_) (fun cdv A outer s H vs Q E hr h=>?_)
 ·obtain⟨l,us,log,rd,d,rfl,_⟩:=h
  rfl
 obtain⟨l,us,log,rd,d,rfl,el,pr,dl,hin,q⟩:=h
 refine⟨_,(z03 (z0e (i:=3) nd rfl (Or.inl rfl) (z0L z01)) (z03 (z1g cB rfl (z16 (z1O z63 (pv 0) z2m (z2t (pv 2)))) (z0o (i:=4) nd rfl (Or.inl rfl)) (z05 (z0v (PW.pt (z8p (z09 z1w (z0P z1F (pv 4) z04 (fun _ _=>rfl)) z0l (z0d _)) (z8p (z09 z1w (z0P z1F (pv 4) z04 (fun _ _=>rfl)) (pv 1) (z0d _)) (z8R (z09 z2w (z0P z1F (pv 4) z04 (fun _ _=>rfl)) (pv 3) (by with_unfolding_all rfl)))))) (z05 (z0n (z2h bM bP bQ z0B (pv 3) (z00 (z0P z1F (pv 4) z04 (fun _ _=>rfl)) z01)))) z0c))) (z05 (z0h (z08 z8Y rfl M.sorted PyProof.Rows.boot_sorted (z00 (pv 3) z01)))))),?_⟩
 have lu:=z0G pr
 refine⟨(by show 0≤sizeLine;decide),fun lh hlh=>?_⟩
 have s1:=z02 hlh (.lst [])
 have e1:upd H lh (.lst []) lh=some (.lst []):=A1
 generalize upd H lh (.lst [])=H1 at s1 e1
 refine⟨_,rfl,_,rfl,_,rfl,l,_,rfl,SqL.of (s1 _ _ el),fun lq hlq=>?_⟩
 rw[y1z (by omega)]
 have s2:=s1.trans (z02 hlq (.lst (us.take d)))
 have e2:upd H1 lq (.lst (us.take d)) lq=some (.lst (us.take d)):=A1
 have e3:=z02 hlq (.lst (us.take d)) _ _ e1
 have nq:lh≠lq:=z0m e1 hlq
 generalize upd H1 lq (.lst (us.take d))=H2 at s2 e2 e3
 have lt:(us.take d).length=d:=by rw[bO];omega
 have w0a:∀(lg:List B2),(∀x∈lg,x∈log)->∀n∈K1 lg rd,1≤n/\n≤60:=fun lg sub n hn=>hin _ (sub _ (y2y.mp hn))
 refine⟨lq,rfl,⟨_,SqL.of e2⟩,z1h (K:=K) (a:=lq) (xs:=us.take d) (fun i σ G=>∃o4:Option V,z0s [lh] H2 G/\G lh=some (.lst ((K1 ((log.take d).take i) rd).map V.int))/\σ=[some (.ref l),some (.int rd),some (.int d),some (.ref lh),o4]) ⟨none,.of (A4.refl _),e3,rfl⟩ (fun i σ G _ ⟨_,bt,_⟩=>SqL.of (bt _ _ e2 (by rw[bC];exact cT nq))) ?_ ?_⟩
 ·rintro i u σ G hi ⟨o4,bt,eh,rfl⟩
  obtain⟨x,ex,b,rfl,hb⟩:=z5G pr d i u hi
  have nb:b∉[lh]:=fun m=>by
   rw[bC.mp m,hlh] at hb
   cases hb
  have hb':=bt _ _ (s2 _ _ hb) nb
  have g60:=w0a ((log.take d).take i) fun x hx=>d9 (d9 hx)
  have gl:=z7C (z6U rd ((log.take d).take i)) g60
  have eg:K1 ((log.take d).take (i+1)) rd=if x.1=some rd then P8 (K1 ((log.take d).take i) rd) x.2 else K1 ((log.take d).take i) rd:=by rw[z0w ex,z8A]
  obtain⟨a,n⟩:=x
  cases a with
  | none=>
   have hbd:G b=some (.tup [V.str "write",V.int n]):=hb'
   rw[if_neg (fun e=>by cases e)] at eg
   refine⟨_,rfl,b,_,0,_,rfl,rfl,SqT.of hbd,rfl,rfl,_,rfl,C2 ?_⟩
   exact C2 ⟨_,bt,by rw[eg];exact eh,rfl⟩
  | some rd'=>
   have hbd:G b=some (.tup [V.str "deliver",V.int rd',V.int n]):=hb'
   refine⟨_,rfl,b,_,0,_,rfl,rfl,SqT.of hbd,rfl,rfl,_,rfl,J8 ?_⟩
   refine⟨_,rfl,b,_,1,_,rfl,rfl,SqT.of hbd,rfl,_,rfl,rfl,_,rfl,?_⟩
   by_cases c:rd'=rd
   ·rw[if_pos (show(some rd',n).1=some rd by rw[c])] at eg
    rw[decide_eq_true (congrArg V.int c)]
    refine J8 ⟨_,rfl,b,_,2,_,rfl,rfl,SqT.of hbd,rfl,_,rfl,lh,_,rfl,.inl (SqL.of eh),rfl,y0w _,_,rfl,?_⟩
    rw[if_pos rfl,z9S]
    unfold P8 at eg
    by_cases c2:n∈K1 ((log.take d).take i) rd
    ·rw[if_pos c2] at eg
     rw[decide_eq_true c2]
     exact C2 ⟨_,bt,by rw[eg];exact eh,rfl⟩
    ·rw[if_neg c2] at eg
     rw[decide_eq_false c2]
     refine J8 ⟨_,rfl,.inl ⟨rfl,_,SqL.of eh⟩,_,rfl,b,_,2,_,rfl,rfl,SqT.of hbd,rfl,lh,_,_,rfl,rfl,eh,z0i (by rw[bA];omega),?_⟩
     refine⟨_,fun b o e nb=>?_,by rw[A1,eg,bR];rfl,rfl⟩
     rw[z0b (fun e=>nb (by rw[e];exact bC.mpr rfl))]
     exact bt b o e nb
   ·rw[if_neg (fun e=>c (Option.some.inj e))] at eg
    rw[decide_eq_false (fun e=>c (V.int.inj e))]
    exact C2 (C2 ⟨_,bt,by rw[eg];exact eh,rfl⟩)
 ·rintro σ G ⟨o4,bt,eh,rfl⟩
  rw[lt,List.take_take,Nat.min_self] at eh
  have g60:=w0a (log.take d) fun x hx=>d9 hx
  have gnd:=z6U rd (log.take d)
  refine⟨_,rfl,lh,_,rfl,SqL.of eh,by have:=z7C gnd g60;omega,fun lo ms hlo hp hs=>?_⟩
  have em:=y1b gnd g60 hp hs
  have nh:∀{b:Addr}{o:HO},H b=some o->b∉[lh]:=fun e m=>by
   rw[bC.mp m,hlh] at e
   cases e
  have sG:A4 H G:=fun b o e=>bt _ _ (s2 _ _ e) (nh e)
  exact q lo _ (sG.free hlo) (sG.trans (z02 hlo _)) (by rw[A1,em])
def PSB(X:Cx)(ss:List Stmt)(t:TS):Prop:=∀(rest:List Stmt) (u:TS),PSs X rest u->PSs X (ss++rest) (w0u t u)
theorem y4k{X:Cx}{st:Stmt}{t:TS}(h:PS X st t):PSB X [st] t:=fun _ _ h2=>z4f h h2
open PySem.Spec PyProof.Rows in
theorem z9Y{X:Cx}{st:Stmt}{ss:List Stmt}{t t2:TS}(h:PS X st t)(hb:PSB X ss t2):PSB X (st::ss) (tSeq t t2):=fun rest u h2=>by
 have hr:=hb rest u h2
 intro pins s σ H D I q
 obtain⟨W,q,hw⟩:=q
 refine wpAny_execs_cons (thn (h pins s σ H { D with nx:=t2 { D with nx:=W } } I q) fun f s1 q=>?_)
 cases f with
 | next=>
  obtain⟨σ',H',I',q⟩:=q
  exact hr pins s1 σ' H' D I' ⟨W,q,hw⟩
 | ret v=>exact q
 | brk=>exact q
 | cont=>exact q
theorem y2P{X:Cx}{ss rest:List Stmt}{t u:TS}(hb:PSB X ss t)(h2:PSs X rest u):PSs X (ss++rest) (w0u t u):=hb rest u h2
def y2V(K:PySem.W.Frag):Sp:=fun vs H Q _=>∃(a:Addr) (ns:List Int),vs=[.ref a]/\SqL K H a (ns.map V.int)/\ns.length≤63/\∀H',Q (.bl true) H'
theorem z3O{H:Hp}:∀(l:List Int),z0k H (l.map DV.int) (l.map V.int)
 | []=>.nil
 | i::l=>.cons (z1N i) (z3O l)
theorem y0d{k:Int}{log:List B2}(lk:z3n k log)(m:Nat):z3n k (log.take m):=fun i d e=>by
 rw[List.getElem?_take] at e
 split at e
 ·rename_i hi
  rw[List.take_take,gH (dX hi)]
  exact lk i d e
 ·cases e
theorem y3J(xs:List V)(k:Int):∃m,Q3 xs none (some k)=xs.take m:=⟨_,rfl⟩
theorem y26{k:Int}{log:List B2}(h:z3n k log):∀x∈log,1≤x.2/\x.2≤(wrN log:Int):=by
 intro x hx
 obtain⟨i,hi,e⟩:=List.getElem_of_mem hx
 have ok:=h i x (by rw[bG hi,e])
 have mono:∀j,wrN (log.take j)≤wrN log:=fun j=>by
  unfold wrN
  exact((List.take_sublist j log).filter _).length_le
 obtain⟨a,n⟩:=x
 cases a with
 | none=>
  have e1:n=(wrN (log.take i):Int)+1:=ok.1
  have:=mono (i+1)
  rw[z0w (show log[i]? = some ((none,n):B2) by rw[bG hi,e]),z1J] at this
  have t:wrN (log.take i)+1≤wrN log:=this
  show 1≤n/\n≤_
  omega
 | some rd=>
  obtain⟨_,_,h3,h4⟩:=ok
  have:=mono i
  show 1≤n/\n≤_
  have h4':n≤(wrN (log.take i):Int):=h4
  omega
theorem y1K(d:B2):(y3Q d).deep≤1:=by
 obtain⟨a,n⟩:=d
 cases a with
 | none=>
  refine z4K fun d hd=>?_
  rcases bD.mp hd with rfl|hd
  ·exact z5L _ _
  ·rw[bC.mp hd]
   exact z3P _ _
 | some r=>
  refine z4K fun d hd=>?_
  rcases bD.mp hd with rfl|hd
  ·exact z5L _ _
  rcases bD.mp hd with rfl|hd
  ·exact z3P _ _
  ·rw[bC.mp hd]
   exact z3P _ _
theorem z6Q{H:Hp}:∀{us:List V}{log:List B2} (i:Nat),Paired (z15 H) us log->Paired (z15 H) (us.take i) (log.take i)
 | _,_,0,_=>by rw[cX,cX];exact .nil
 | _,_,i+1,.nil=>by rw[List.take_nil,List.take_nil];exact .nil
 | _,_,i+1,.cons h t=>by rw[fM,fM];exact .cons h (z6Q i t)
theorem z9u{H:Hp}{t:Addr}{a b:Int}(h:H t=some (.tup [.int a,.int b])):B5 H (.tup [.int a,.int b]) (.ref t):=z0J h (by show 2≤1000000;decide) (.cons (z1N _) (.cons (z1N _) .nil))
theorem y0v{H:Hp}{t:Addr}{a b a' b':Int}(h:H t=some (.tup [.int a',.int b']))(e1:a'=a)(e2:b'=b):B5 H (.tup [.int a,.int b]) (.ref t):=by
 subst e1 e2
 exact z9u h
theorem y2d(a b:Int):(DV.tup [.int a,.int b]).deep≤1:=z4K fun d hd=>by
 rcases bD.mp hd with rfl|hd
 ·exact z3P _ _
 ·rw[bC.mp hd]
  exact z3P _ _
theorem y4W(M:Bl mg)(F:Fun K "law" "law" w0o f fd){A2 A6:Addr}{Bk:BkP}{Sh:ShP}(O:V0 A2 ["write","deliver","latest","issue","deeds","deed","shelf"] Bk)(OS:X2 A6 ["put","had","latest"] Sh)
  (D9:Cal P w K mg base 1 "_law_at" z5E (w0D K)) (C1:Cal P w K mg base 1 "_law_pick" z2U z9G)
  (O1:Cal P w K mg base 2 "_law_names" z4j (y1j K)) (P7:Cal P w K mg base 2 "_law_sets" z59 (y38 K)) (M0:Cal P w K mg base 2 "_law_valued" z3E z9L)
  (C5:Cal P w K mg base 6 "_law_same" z1D (z77 6)) (O0:Cal P w K mg base 2 "_law_deeds" z4i (y1B K)) (M1:Cal P w K mg base 1 "_law_had_at" z3v (y0Q K)) (P2:Cal P w K mg base 9 "_law_play" z4W (y34 K Bk))
  (M6:Cal P w K mg base 2 "_law_spoilt" z3C (z9I K)) (L5:Cal P w K mg base 1 "_law_refusal" z3e (z7T K)) (E2:Cal P w K mg base 7 "_law_done" z3J (z8P K Bk)) (N3:Cal P w K mg base 8 "_law_doors" z4l (y12 Bk))
  (Y9:Mkr P w K mg base 8 A2 "Book" z2E (z9v K A2 Bk)) (O6:D5 P w K mg base 8 A2 "deeds" z42 (z7R Bk)) (L8:D5 P w K mg base 8 A2 "latest" z3q (z71 Bk))
  (Q1:D5 P w K mg base 8 A2 "deed" z2R (z5I Bk)) (M7:O2 P w K mg base 8 A2 "shelf" z1k (z2l Bk Sh) [V.non]) (J0:D5 P w K mg base 7 A6 "had" z3Q (z97 Sh)):B0 P w K mg base CX0 14 f fd plaw (y2V K):=by
 have nd:=y5a.nd
 refine F.ok y5a (fun vs H Q E h=>?_) (fun cdv A outer s H vs Q E hr h=>?_)
 ·obtain⟨a,ns,rfl,_⟩:=h
  rfl
 obtain⟨a,ns,rfl,hS,h63,q⟩:=h
 refine⟨_,(z03 (z0e (i:=1) nd rfl (Or.inl rfl) (z0r O1 (rm hr) rfl (z00 (pv 0) z01))) (z03 (z0e (i:=2) nd rfl (Or.inl rfl) (z0r M0 (rm hr) rfl (z00 (z0r P7 (rm hr) rfl (z00 (pv 1) (z00 (z0r D9 (rm hr) rfl (z00 (pv 0) (z00 z04 z01))) (z00 z04 z01)))) (z00 (z0r D9 (rm hr) rfl (z00 (pv 0) (z00 z04 z01))) z01)))) (z03 (z0e (i:=3) nd rfl (Or.inl rfl) (z0r C1 (rm hr) rfl (z00 (z0r D9 (rm hr) rfl (z00 (pv 0) (z00 z04 z01))) (z00 z04 z01)))) (z03 (z0e (i:=4) nd rfl (Or.inl rfl) (z0a z0O z04 (z0r C1 (rm hr) rfl (z00 (z0r D9 (rm hr) rfl (z00 (pv 0) (z00 z04 z01))) (z00 z04 z01))))) (z03 (z0e (i:=5) nd rfl (Or.inl rfl) (z0r O0 (rm hr) rfl (z00 (z1O z63 (pv 0) (z2t z04) z2m) (z00 z04 (z00 (z0r C1 (rm hr) rfl (z00 (z0r D9 (rm hr) rfl (z00 (pv 0) (z00 z04 z01))) (z00 z04 z01))) (z00 (pv 4) z01)))))) (z4f (z0v (z09 z1w (z0a z0u (z0a z0y (z0r D9 (rm hr) rfl (z00 (pv 0) (z00 z04 z01))) z04) z04) z04 (z0d _)) (z05 (z0e (i:=5) nd rfl (Or.inl rfl) (z1O z63 (pv 5) z2m (z2t (z0a z0u (z08 z06 rfl M.len bH (z00 (pv 5) z01)) z04))))) z0c) (z03 (z0e (i:=6) nd rfl (Or.inl rfl) (z0r P2 (rm hr) rfl (z00 (z9o Y9 (rm hr) rfl (z00 (z0z z2A rfl M.list fA (z00 (pv 1) z01)) (z00 (pv 3) (z00 (pv 4) z01)))) (z00 (pv 5) (z00 (pv 2) z01))))) (z03 (z0e (i:=7) nd rfl (Or.inl rfl) (z08 z06 rfl M.len bH (z00 (z2K ["_law_deed"] [] [] rfl (z0H rfl (by decide +kernel) rfl (by decide +kernel) rfl rfl) (z16 (pv 5)) (fun _ _ _ _ _=>(z0o (i:=0) (show((["_law_deed"]:List PySem.Str)++([]:List PySem.Str)).Nodup from by decide +kernel) rfl (Or.inl rfl))) (z0R (by decide)) z0t (fun _ _ _ _ _=>(z5V (z09 z1w (z0P (r:=Z1 K) z1F (pv 0) z04 (fun _ _=>rfl)) z0l (z0d _)))) (fun _ _ _ _ _=>(pv 0))) z01))) (z03 (z0v (z3h (z2Q (z0r N3 (rm hr) rfl (z00 (pv 6) (z00 (pv 4) (z00 (pv 7) (z00 (z08 z06 rfl M.len bH (z00 (pv 5) z01)) z01))))))) (z05 (z0h z2v)) z0c) (z03 (z0e (i:=8) nd rfl (Or.inl rfl) (z0r M6 (rm hr) rfl (z00 (z0P z0D (pv 2) z04 (fun _ _=>rfl)) (z00 (pv 1) (z00 (z0r C1 (rm hr) rfl (z00 (z0r D9 (rm hr) rfl (z00 (pv 0) (z00 z04 z01))) (z00 (z0a z3X z04 z04) z01))) z01))))) (z03 (z0e (i:=9) nd rfl (Or.inl rfl) z0l) (z4f (z0v (z09 z3o (pv 7) z04 (z0d _)) (z05 (z0e (i:=9) nd rfl (Or.inl rfl) (z0r L5 (rm hr) rfl (z00 (pv 8) (z00 (pv 1) z01))))) z0c) (y2P (ss:=[_,_,_]) (z9Y (z0e (i:=10) nd rfl (Or.inl rfl) (z0r E2 (rm hr) rfl (z00 z0l (z00 (pv 6) (z00 (pv 8) (z00 z04 z01)))))) (z9Y (z0v (z09 z1w (pv 9) z0l (z0d _)) (z03 (z0e (i:=7) nd rfl (Or.inl rfl) (z0a z0O (pv 7) z04)) (z05 (z0e (i:=5) nd rfl (Or.inl rfl) (z0a z4M (pv 5) (z0L (z00 (z1j (z00 z0l (z00 (pv 7) z01))) z01)))))) z0c) (y4k (z0v (z3h (z2Q (z0r C5 (rm hr) rfl (z00 (pv 10) (z00 (z4v (z09 z1w (pv 9) z0l (z0d _)) (pv 7) (z1j (z00 z0l (z00 (pv 9) z01)))) z01))))) (z05 (z0h z2v)) z0c)))) (z03 (z0v (z3h (z2Q (z0r C5 (rm hr) rfl (z00 (z1j (z00 (z31 O6 (rm hr) (pv 6)) (z00 (z31 L8 (rm hr) (pv 6)) z01))) (z00 (z1j (z00 (z08 z06 rfl M.len bH (z00 (pv 5) z01)) (z00 (pv 7) z01))) z01))))) (z05 (z0h z2v)) z0c) (z03 (z1g cB rfl (z1l rfl M.range (z00 (z08 z06 rfl M.len bH (z00 (pv 5) z01)) z01)) (z0o (i:=11) nd rfl (Or.inl rfl)) (z05 (z0v (z3h (z2Q (z0r C5 (rm hr) rfl (z00 (z1v Q1 (rm hr) (pv 6) (z00 (z0a z0O (pv 11) z04) z01)) (z00 (z0P z0D (pv 5) (pv 11) (fun _ _=>rfl)) z01))))) (z05 (z0h z2v)) z0c))) (z03 (z1g cB rfl (y1G rfl M.range (z00 z04 (z00 (z0a z0O (pv 4) z04) z01))) (z0o (i:=12) nd rfl (Or.inl rfl)) (z03 (z0e (i:=9) nd rfl (Or.inl rfl) (z0z z0Q rfl M.tuple cI (z00 (z0r M1 (rm hr) rfl (z00 (pv 5) (z00 (pv 12) (z00 (z08 z06 rfl M.len bH (z00 (pv 5) z01)) z01)))) z01))) (z05 (z0v (z3h (z2Q (z0r C5 (rm hr) rfl (z00 (z31 J0 (rm hr) (y2F M7 (rm hr) (pv 6) (z00 (pv 12) z01))) (z00 (pv 9) z01))))) (z05 (z0h z2v)) z0c)))) (z05 (z0h z2v)))))))))))))))))),?_⟩
 refine⟨_,rfl,a,ns,rfl,hS,fun ln nm H1 nln s1 eN n1 n12 N=>?_⟩
 refine⟨_,rfl,_,rfl,a,ns,2,rfl,s1.seq hS,by decide,ln,nm,_,60,rfl,SqL.of eN,n1,n12,by decide,by decide,fun l0 xs0 ss H2 nl0 s2 e2 st len0 sub0=>?_⟩
 have s12:=s1.trans s2
 refine⟨_,rfl,a,ns,3,rfl,s12.seq hS,by decide,l0,xs0,ss,_,rfl,e2,st,by rw[len0];decide,fun s hs=>cC (sub0 s hs).length_le n12,fun lr us rows H3 nlr s3 eR tl hm hv=>?_⟩
 have r60:rows.length=60:=by
  have:=congrArg List.length hm
  rw[bA,len0] at this
  exact this
 have R:Rws nm rows:=⟨fun r hr'=>sub0 _ (by rw[<- hm];exact fN hr'),hv⟩
 have s13:=s12.trans s3
 have eN3:=s3 _ _ (s2 _ _ eN)
 clear st hm hv e2
 refine⟨_,rfl,a,ns,4,rfl,s13.seq hS,by decide,_,_,rfl,(by decide),fun r r0 r1=>?_⟩
 refine⟨_,rfl,a,ns,5,rfl,s13.seq hS,by decide,_,_,rfl,(by decide),fun rd0 rd1 rd2=>⟨_,_,rfl,rfl,?_⟩⟩
 refine⟨_,rfl,_,rfl,a,_,rfl,s13.seq hS,fun lsl hlsl=>?_⟩
 have ecut:Q3 (ns.map V.int) (some (6:Int)) none=((ns.drop (HT.sIx (ns.map V.int).length 0 (some 6))).take (HT.sIx (ns.map V.int).length (ns.map V.int).length none-HT.sIx (ns.map V.int).length 0 (some 6))).map V.int:=by
  unfold Q3
  rw[List.map_take,List.map_drop]
 rw[ecut]
 generalize (ns.drop (HT.sIx (ns.map V.int).length 0 (some 6))).take (HT.sIx (ns.map V.int).length (ns.map V.int).length none-HT.sIx (ns.map V.int).length 0 (some 6))=cs
 have s34:=z02 hlsl (.lst (cs.map V.int))
 have eC:upd H3 lsl (.lst (cs.map V.int)) lsl=some (.lst (cs.map V.int)):=A1
 generalize upd H3 lsl (.lst (cs.map V.int))=H4 at s34 eC
 have s4:=s13.trans s34
 refine⟨_,rfl,a,ns,1,rfl,s4.seq hS,by decide,_,_,rfl,(by decide),fun fst f0 f1=>⟨_,rfl,lsl,cs,fst,1+rd0,rfl,SqL.of eC,f0,by omega,by omega,by omega,fun l us' log H5 nl s5 el pl lk l246=>?_⟩⟩
 have lu5:=z0G pl
 have s35:=s34.trans s5
 have hS4:=(s13.trans s35).seq hS
 refine⟨fun σ' G=>∃(l:Addr) (us:List V) (log:List B2),A4 H3 G/\G l=some (.lst us)/\H3 l=none/\Paired (z15 G) us log/\z3n (1+rd0) log/\log.length≤246/\
  σ'=[some (.ref a),some (.ref ln),some (.ref lr),some (.int r),some (.int (1+rd0)),some (.ref l),none,none,none,none,none,none,none],?_,?_⟩
 ·refine⟨_,rfl,a,ns,0,rfl,hS4,by decide,_,_,rfl,rfl,⟨by decide,by decide⟩,_,_,rfl,rfl,(by show(0:Int)<2;decide),rfl,_,rfl,B3 (fun _=>?_) (fun _=>?_)⟩
  ·refine⟨_,rfl,_,rfl,l,us',rfl,.inl (SqL.of el),_,_,rfl,rfl,(by show(0:Int)<3;decide),_,rfl,l,_,rfl,SqL.of el,fun lq hlq=>?_⟩
   obtain⟨m,em⟩:=y3J us' ((us'.length:Int)%3)
   rw[em]
   have sq:=z02 hlq (.lst (us'.take m))
   refine⟨lq,us'.take m,log.take m,s35.trans sq,A1,s35.free hlq,D0.keep sq (z6Q m pl),y0d lk m,by rw[bO];omega,rfl⟩
  ·exact⟨l,us',log,s35,el,s34.free nl,pl,lk,l246,rfl⟩
 clear lk pl el nl s5 lu5 l246 hS4 s35 s34 eC s4 ecut
 rintro σ' H7 ⟨l,us,log,s37,el7,nl7,pl7,lk7,l246,rfl⟩
 have eN7:=s37 _ _ eN3
 have eR7:=s37 _ _ eR
 have tl7:=z0k.keep s37 _ _ tl
 have hS7:=(s13.trans s37).seq hS
 have lu7:=z0G pl7
 have gn:S0 nm:=⟨n1,n12,N.nd⟩
 have w60:wrN log≤60:=by
  have:=w0g lk7 log.length
  rw[bU] at this
  exact this
 have lrw:(rows.take (wrN log)).length=wrN log:=by rw[bO];omega
 clear tl eR eN3 eN
 refine⟨_,rfl,ln,nm.map V.str,rfl,.inl (SqL.of eN7),fun l1 hl1=>⟨_,rfl,_,rfl,fun x dx nx ndx ne=>?_⟩⟩
 have mm1:=z6k (C:=A2) (z02 hl1 (.lst (nm.map V.str))) nx ndx
 refine⟨x,dx,l1,nm,r,1+rd0,rfl,A1,ne,by rw[z0b ne,A1],.inl (SqL.of (z8G nx ndx A1)),gn,r0,by omega,by omega,by omega,fun fp H8 hfp b8 bk8=>⟨rfl,?_⟩⟩
 have s8:A4 H7 H8:=z6h b8 mm1 ((z02 hl1 _).free nx)
 have f8:∀b∈fp,H7 b=none:=fun b hb=>z4T mm1 ((z02 hl1 _).free nx) ((z02 hl1 _).free ndx) (hfp b hb)
 have out:∀{b:Addr}{o:HO},H7 b=some o->b∉fp:=fun e m=>by rw[f8 _ m] at e;cases e
 have nt8:z45 H8 fp:=O.P1 bk8
 refine⟨_,rfl,_,rfl,x,l,lr,fp,nm,r,1+rd0,us,_,log,rows,rfl,bk8,s8 _ _ el7,out el7,D0.keep s8 pl7,lk7,by omega,s8 _ _ eR7,out eR7,z0k.keep s8 _ _ tl7,r60,R,N.nd,n12,fun fp9 H9 ff9 b9 bk9=>?_⟩
 have sk:∀{b:Addr}{o:HO},H7 b=some o->H9 b=some o:=fun e=>b9 _ _ (s8 _ _ e) (out e)
 have s79:A4 H7 H9:=fun b o e=>sk e
 have ff:∀b∈fp9,H7 b=none:=fun b hb=>(ff9 b hb).elim (f8 b) fun z=>s8.free z
 have pl9:Paired (z15 H9) us log:=D0.keep s79 pl7
 have el9:=sk el7
 clear mm1 b8 hfp bk8 b9 s8 nt8 out f8 ff9 hl1 nx ndx ne
 refine⟨_,rfl,l,rfl,⟨_,SqL.of el9⟩,?_⟩
 refine z2o (xs:=us) (fun i ys H'=>H'=H9/\ys.length=wrN (log.take i)) ⟨rfl,rfl⟩ (fun i ys H' hi hp=>?_) (fun i y ys H' hy hp=>?_) (fun ys H' hp=>?_)
 ·obtain⟨rfl,hl⟩:=hp
  have:=y1g (log.take i)
  rw[bO] at this
  exact⟨SqL.of el9,z0i (by omega)⟩
 ·obtain⟨rfl,hl⟩:=hp
  obtain⟨d,ed,b,rfl,hb⟩:∃d,log[i]? = some d/\z15 H' y d:=by
   obtain⟨d,e1,e2⟩:=z5G pl9 us.length i y (by rw[bU];exact hy)
   rw[lu7,bU] at e1
   exact⟨d,e1,e2⟩
  have ew:wrN (log.take (i+1))=wrN (log.take i)+(if d.1.isNone then 1 else 0):=by rw[z0w ed,z1J]
  obtain⟨a',n⟩:=d
  cases a' with
  | none=>
   have hbd:H' b=some (.tup [V.str "write",V.int n]):=hb
   refine⟨_,rfl,b,_,0,_,rfl,rfl,SqT.of hbd,rfl,rfl,_,rfl,J8 ⟨_,rfl,rfl,?_⟩⟩
   rw[bE,hl,ew]
   rfl
  | some rd'=>
   have hbd:H' b=some (.tup [V.str "deliver",V.int rd',V.int n]):=hb
   refine⟨_,rfl,b,_,0,_,rfl,rfl,SqT.of hbd,rfl,rfl,_,rfl,C2 ⟨rfl,?_⟩⟩
   rw[hl,ew]
   rfl
 obtain⟨rfl,hly⟩:=hp
 rw[lu7,bU] at hly
 intro D hD
 refine⟨D,ys,rfl,.inl (SqL.of A1),?_⟩
 have s10:=s79.trans (z02 hD (.lst ys))
 have w02:=O.same bk9 (z02 hD (.lst ys))
 generalize upd H' D (.lst ys)=H10 at s10 w02
 rw[hly]
 clear pl9 el9 hD hly bk9 s79 sk
 refine⟨_,rfl,_,rfl,_,rfl,_,rfl,l,us,rfl,.inl (SqL.of (s10 _ _ el7)),x,fp9,nm,r,1+rd0,_,log,by rw[lrw,lu7];rfl,w02,by omega,by omega,by omega,by omega,fun H11 s11=>⟨_,rfl,C2 ?_⟩⟩
 have g11:=s10.trans s11
 have w07:=O.same w02 s11
 clear s10 w02 s11
 obtain⟨v,ev,tv⟩:=(z0k.keep g11 _ _ tl7).get 59 (U6 rows[59]) (by rw[bV,bG (by omega)]<;>rfl)
 have hw:=dE (l:=rows) (n:=59) (by omega)
 generalize rows[59]=gd at tv hw
 have sbg:=R.sub gd hw
 have g12:gd.length≤12:=by
  have:=sbg.length_le
  rw[bA] at this
  omega
 refine⟨_,rfl,lr,_,59,v,rfl,rfl,SqL.of (g11 _ _ eR7),(z1p (j:=59) ev),?_⟩
 refine⟨_,rfl,_,rfl,a,ns,6,rfl,g11.seq hS7,by decide,_,_,rfl,rfl,⟨by decide,by decide,by decide⟩,_,_,rfl,(by decide),fun c c0 c1=>?_⟩
 refine⟨ln,v,nm,gd,c,rfl,tv,g12,fun p hp=>sbg.subset (fN hp),SqL.of (g11 _ _ eN7),n1,n12,N,fun lh uh pr G1 t1 nlh eh ph l16 nok ginj=>?_⟩
 have luh:uh.length=pr.length:=ph.length
 have g1:=g11.trans t1
 have bk1:=O.same w07 t1
 have nfh:lh∉fp9:=fun mm=>by obtain⟨o,e,_⟩:=O.own w07 _ mm;rw[nlh] at e;cases e
 have no:∀{b:Addr},H11 b=none->b∉fp9:=fun e mm=>by obtain⟨o,e1,_⟩:=O.own w07 _ mm;rw[e] at e1;cases e1
 clear ev tv w07 c0 c1
 refine⟨fun σ' G=>∃(due:Str),A4 G1 G/\((∃i,DueW nm (rows.take (wrN log)) pr i/\due=z51.getD i ""/\due≠"")\/(GoodR nm pr/\due=""/\wrN log<60))/\
  σ'=[some (.ref a),some (.ref ln),some (.ref lr),some (.int r),some (.int (1+rd0)),some (.ref l),some (.ref x),some (.int (wrN log)),some (.ref lh),some (.str due),none,none,none],?_,?_⟩
 ·refine⟨_,rfl,_,_,rfl,rfl,_,rfl,B3 (fun hl=>?_) (fun hl=>?_)⟩
  ·have h60:=z0x hl
   refine⟨_,rfl,_,rfl,lh,ln,uh,pr,nm,rfl,eh,HL.row ph,by omega,SqL.of (g1 _ _ eN7),fun z G2 t2 rw2=>⟨z,t2,?_,rfl⟩⟩
   have h:(rows.take (wrN log)).length<60:=by rw[lrw];omega
   rcases rw2 with ⟨h1,rfl⟩|⟨h1,h2,rfl⟩|⟨h1,h2,h3,rfl⟩|⟨h1,rfl⟩
   ·exact .inl ⟨1,.inr ⟨h,.inl ⟨h1,rfl⟩⟩,rfl,by decide +kernel⟩
   ·exact .inl ⟨2,.inr ⟨h,.inr (.inl ⟨h1,h2,rfl⟩)⟩,rfl,by decide +kernel⟩
   ·exact .inl ⟨3,.inr ⟨h,.inr (.inr ⟨h1,h2,h3,rfl⟩)⟩,rfl,by decide +kernel⟩
   ·exact .inr ⟨h1,rfl,by omega⟩
  ·have h60:=z8F hl
   exact⟨_,A4.refl _,.inl ⟨0,.inl ⟨by rw[lrw];omega,rfl⟩,rfl,by decide +kernel⟩,rfl⟩
 rintro σ' G2 ⟨due,t2,hdue,rfl⟩
 have bk2:=O.same bk1 t2
 have eh2:=t2 _ _ eh
 have ph2:=HL.keep t2 ph
 have g2:=g1.trans t2
 have el2:=g2 _ _ el7
 have pl2:=D0.keep g2 pl7
 have nll:l∉fp9:=fun mm=>by rw[ff _ mm] at el7;cases el7
 have X7:=y26 lk7
 clear bk1 eh ph t2 g1 t1
 have nok':∀p∈pr,p.1.length≤1000/\Low p.1:=fun p hp=>⟨cC (nok p hp).1 (by decide),(nok p hp).2⟩
 refine⟨fun σ' G=>∃(l:Addr) (us:List V) (w04:List B2) (fp':List Addr) (rw':List Row) (m:Int) (o10:Option V),m=rw'.length/\A4 H7 G/\G l=some (.lst us)/\Paired (z15 G) us w04/\w04.length≤300/\(∀y∈w04,1≤y.2/\y.2≤60)/\Bk G x fp' nm r (1+rd0) rw' w04/\
  σ'=[some (.ref a),some (.ref ln),some (.ref lr),some (.int r),some (.int (1+rd0)),some (.ref l),some (.ref x),some (.int m),some (.ref lh),some (.str due),o10,none,none],?_,?_⟩
 ·rcases hdue with ⟨i,du,hd,hne⟩|⟨gr,rfl,h60⟩
  ·refine⟨_,rfl,_,rfl,"write",x,.ref lh,.int 0,fp9,nm,r,1+rd0,_,log,rfl,bk2,.inr (.inl ⟨rfl,lh,uh,pr,i,rfl,.inl (SqL.of eh2),L9.hand (HL.row ph2),by omega,nok',.inl du,fun u G3 t3 tu=>?_⟩)⟩
   rw[<- hd] at tu
   refine⟨_,rfl,rfl,_,rfl,B3 (fun h=>absurd (V.str.inj (z0x h)) hne) (fun _=>?_)⟩
   refine⟨_,rfl,_,rfl,rfl,_,rfl,B3 (fun h=>absurd (V.str.inj (z0x h)) hne) (fun _=>⟨_,rfl,(by show 2≤sizeLine;decide),fun tt htt=>?_⟩)⟩
   refine⟨u,.ref tt,rfl,(z2j _ _ _ (B5.keep (z02 htt _) _ _ tu) (z0J (ds:=[.str "refused",.str due]) A1 (by show 2≤1000000;decide) (.cons (z0A _) (.cons (z0A _) .nil)))).mono (cC (z7V due) (by decide)),fun G4 t4=>⟨_,rfl,C2 ?_⟩⟩
   have t24:=t3.trans ((z02 htt (.tup [V.str "refused",V.str due])).trans t4)
   exact⟨l,us,log,fp9,_,_,_,by rw[lrw],g2.trans t24,t24 _ _ el2,D0.keep t24 pl2,by omega,fun y hy=>by have:=X7 y hy;omega,O.same bk2 t24,rfl⟩
  ·have epr:=ginj gr
   subst epr
   refine⟨_,rfl,_,rfl,"write",x,.ref lh,.int 0,fp9,nm,r,1+rd0,_,log,rfl,bk2,.inl ⟨rfl,pr,⟨lh,uh,rfl,.inl (SqL.of eh2),nfh,HL.hand no ph2⟩,gr,g12,by rw[lrw];exact h60,by omega,fun fp2 G3 hf3 b3 bk3=>?_⟩⟩
   rw[lrw] at bk3
   have el3:=b3 _ _ el2 nll
   have pl3:=D0.but b3 (O.P1 bk2) pl2
   have g3:A4 H7 G3:=fun b o e=>b3 b o (g2 _ _ e) fun mm=>by rw[ff b mm] at e;cases e
   refine⟨_,rfl,rfl,_,rfl,B3 (fun _=>?_) (fun n=>absurd (decide_eq_true rfl) n)⟩
   refine⟨_,rfl,_,_,rfl,rfl,?_⟩
   refine⟨_,rfl,_,rfl,(by show 2≤sizeLine;decide),fun tw htw=>⟨(by show 1≤sizeLine;decide),fun l1 hl1=>?_⟩⟩
   have t4:=(z02 htw (.tup [V.str "write",V.int ((wrN log:Int)+1)])).trans (z02 hl1 (.lst [V.ref tw]))
   have e4:upd (upd G3 tw (.tup [V.str "write",V.int ((wrN log:Int)+1)])) l1 (.lst [V.ref tw]) tw=some (.tup [V.str "write",V.int ((wrN log:Int)+1)]):=z02 hl1 _ _ _ A1
   refine⟨l,l1,_,_,rfl,rfl,t4 _ _ el3,A1,z6I (by show us.length+1≤1000;omega),fun lq hlq=>?_⟩
   have t5:=t4.trans (z02 hlq (.lst (us++[V.ref tw])))
   have e5:=z02 hlq (.lst (us++[V.ref tw])) _ _ e4
   have eq5:upd (upd (upd G3 tw (.tup [V.str "write",V.int ((wrN log:Int)+1)])) l1 (.lst [V.ref tw])) lq (.lst (us++[V.ref tw])) lq=some (.lst (us++[V.ref tw])):=A1
   generalize upd (upd (upd G3 tw (.tup [V.str "write",V.int ((wrN log:Int)+1)])) l1 (.lst [V.ref tw])) lq (.lst (us++[V.ref tw]))=G5 at t5 e5 eq5
   refine⟨_,rfl,_,rfl,rfl,_,rfl,B3 (fun _=>⟨_,rfl,?_⟩) (fun n=>absurd (decide_eq_true rfl) n)⟩
   refine⟨_,_,rfl,.inl ⟨by rw[lrw],rfl⟩,fun G6 t6=>⟨_,rfl,C2 ?_⟩⟩
   have t36:=t5.trans t6
   exact⟨lq,_,log++[(none,(wrN log:Int)+1)],fp2,_,_,_,by rw[bE,lrw];rfl,g3.trans t36,t6 _ _ eq5,z3b (D0.keep t36 pl3) ⟨tw,rfl,t6 _ _ e5⟩,by rw[bE];show log.length+1≤300;omega,fun y hy=>by
    rcases c8.mp hy with h|h
    ·have:=X7 y h;omega
    ·rw[bC.mp h]
     show 1≤(wrN log:Int)+1/\(wrN log:Int)+1≤60
     omega,O.same bk3 t36,rfl⟩
 clear hdue pl2 el2 ph2 eh2 bk2 g2 X7 no nfh nok' nok ginj luh l16 nlh ff nll tl7 hS7 eN7 eR7 pl7 lk7 el7 nl7 lu7 l246 w60 lrw
 rintro σ' H12 ⟨l,us,log,fp,rws,m,o10,em,s12',el,pl,l300,X7,bk,rfl⟩
 have lu:=z0G pl
 obtain⟨d3,g3,q3,w3⟩:=O.ins bk
 refine⟨_,rfl,x,d3,g3,rfl,q3,w3 _ (by simp),x,fp,nm,r,1+rd0,_,_,rfl,bk,_,rfl,x,d3,g3,rfl,q3,w3 _ (by simp),x,fp,nm,r,1+rd0,_,_,rfl,bk,fun H14 s14=>⟨(by show 2≤sizeLine;decide),fun t ht=>?_⟩⟩
 refine⟨_,rfl,l,us,rfl,.inl (SqL.of (z02 ht _ _ _ (s14 _ _ el))),_,rfl,(by show 2≤sizeLine;decide),fun t2 ht2=>⟨.ref t,.ref t2,rfl,?_,fun H15 s15=>⟨_,rfl,C2 ?_⟩⟩⟩
 ·exact(z2j (.tup [.int ((us.length:Nat):Int),.int m]) _ _ (y0v (z02 ht2 _ _ _ A1) (by rw[lu]) em.symm) (z9u A1)).mono (cC (y2d _ _) (by decide))
 have t15:=s14.trans ((z02 ht (.tup [V.int log.length,V.int rws.length])).trans ((z02 ht2 (.tup [V.int us.length,V.int m])).trans s15))
 clear ht ht2 s14 s15
 have bk15:=O.same bk t15
 have w0v:=t15 _ _ el
 have pl15:=D0.keep t15 pl
 clear t15 bk el pl q3 w3
 refine⟨_,rfl,l,us,rfl,.inl (SqL.of w0v),_,rfl,by omega,by omega,?_⟩
 refine z1H (lo:=0) (n:=((us.length:Nat):Int).toNat) (fun i σ G=>∃(o11:Option V),A4 H15 G/\σ=[some (.ref a),some (.ref ln),some (.ref lr),some (.int r),some (.int (1+rd0)),some (.ref l),some (.ref x),some (.int m),some (.ref lh),some (.str due),o10,o11,none]) ⟨_,A4.refl _,rfl⟩ (fun i σ G hi hp=>?_) (fun σ G hp=>?_)
 ·obtain⟨o11,g,rfl⟩:=hp
  have ez:(0:Int)+(i:Int)=i:=fR _
  rw[ez]
  have hi':i<log.length:=by omega
  have ed:log[i]? = some log[i]:=bG hi'
  generalize log[i]=d at ed
  obtain⟨u,eu,du⟩:=z8o (D0.keep g pl15) i d ed
  have bk2:=O.same bk15 g
  obtain⟨d2,g2,z2,w2⟩:=O.ins bk2
  refine⟨_,rfl,x,d2,g2,rfl,z2,w2 _ (by simp),_,rfl,_,_,rfl,rfl,x,fp,nm,r,1+rd0,_,_,i,d,rfl,bk2,ed,fun v tv=>?_⟩
  refine⟨_,rfl,_,rfl,l,us,_,u,rfl,rfl,SqL.of (g _ _ w0v),z1p eu,v,u,rfl,(z2j _ _ _ tv (z7W du)).mono (cC (y1K _) (by decide)),fun G2 s2=>⟨_,rfl,C2 ?_⟩⟩
  exact⟨_,g.trans s2,rfl⟩
 obtain⟨o11,g,rfl⟩:=hp
 have bk16:=O.same bk15 g
 have el16:=g _ _ w0v
 have pl16:=D0.keep g pl15
 refine⟨_,rfl,_,_,rfl,rfl,1,1+rd0+1,rfl,⟨by decide,by decide,by omega,by omega⟩,?_⟩
 refine z1H (lo:=1) (n:=(1+rd0+1-1).toNat) (fun _ σ G2=>∃(due:Str) (o9 o12:Option V),A4 G G2/\σ=[some (.ref a),some (.ref ln),some (.ref lr),some (.int r),some (.int (1+rd0)),some (.ref l),some (.ref x),some (.int m),some (.ref lh),o9,o10,o11,o12]) ⟨due,_,_,A4.refl _,rfl⟩ (fun i σ G2 hi hp=>?_) (fun σ G hp=>q _)
 obtain⟨_,o9,o12,g2,rfl⟩:=hp
 have rdr:1≤1+(i:Int)/\1+(i:Int)≤1+rd0:=by omega
 generalize 1+(i:Int)=rd at rdr
 refine⟨_,rfl,_,rfl,_,rfl,l,us,rfl,.inl (SqL.of (g2 _ _ el16)),l,us,log,rd,us.length,rfl,g2 _ _ el16,D0.keep g2 pl16,by omega,X7,fun lo G3 nlo s3 e3=>?_⟩
 rw[lu,bU] at e3
 refine⟨lo,_,rfl,.inl ⟨SqL.of e3,fun t2 ht2=>?_⟩⟩
 have c3:=g2.trans (s3.trans (z02 ht2 (.tup ((z2r (K1 log rd)).map V.int))))
 have e4:upd G3 t2 (.tup ((z2r (K1 log rd)).map V.int)) t2=some (.tup ((z2r (K1 log rd)).map V.int)):=A1
 generalize upd G3 t2 (.tup ((z2r (K1 log rd)).map V.int))=G4 at c3 e4
 have bk4:=O.same bk16 c3
 obtain⟨d4,h4,z4,w4⟩:=O.ins bk4
 refine⟨_,rfl,x,d4,h4,rfl,z4,w4 _ (by simp),_,rfl,x,fp,nm,r,1+rd0,_,log,rd,none,rfl,bk4,rdr.1,rdr.2,(fun d' h=>by cases h),fun x1 fq G5 fn s5 sh=>?_⟩
 have sh1:Sh G5 x1 fq nm r (fun n=>z1K rws n r) (K1 log rd):=by
  have e:log.take ((none:Option Nat).getD log.length)=log:=bU
  rw[e] at sh
  exact sh
 obtain⟨d5,h5,z5,w5⟩:=OS.ins sh1
 refine⟨x1,d5,h5,rfl,z5,w5 _ (by simp),x1,fq,nm,r,_,_,rfl,sh1,fun lt G6 s6 e6=>?_⟩
 have tin:∀{X:Hp}{t:Addr},X t=some (.tup ((z2r (K1 log rd)).map V.int))->B5 X (.tup ((z2r (K1 log rd)).map DV.int)) (.ref t):=fun {X t} e=>z0J e (by have:=y1W (K1 log rd);rw[bA];omega) (z3O _)
 refine⟨_,rfl,.ref lt,.ref t2,rfl,(z2j _ _ _ (tin e6) (tin (s6 _ _ (s5 _ _ e4)))).mono ?_,fun G7 s7=>⟨_,rfl,C2 ?_⟩⟩
 ·refine cC (z4K (n:=0) fun d hd=>?_) (by decide)
  obtain⟨i,_,rfl⟩:=cF.mp hd
  exact z3P _ _
 exact⟨"",_,_,c3.trans (s5.trans (s6.trans s7)),rfl⟩
end
theorem y53{l:PySem.W.OpenLaw}{w:World}{K:PySem.W.Frag}{h:Heap}{mg:Str->Option Value}{fa:Addr}(X:K.In h)(G:h.Ns mainGlobals mg)(hfa:mg "law"=some (.ref fa))
  {f0 f1 f2 f3 f4 f5 f6 f7 f8 f9 f10 f11 f12 f13 f14 f15 f16 f17 f18 f19 f20 f21 f22 f23 f24 f25 f26 f27 f28 f29 f30 f31 f32 f33 f34 f35 f36 f37 f38 f39 f40 f41 f42 f43 f44 f45 f46 f47 f48 f49 f50 f51 A0 A6 A2 CBackError CBadNames CBadReach CBadReaders COfficeFull CUnknownName CNameTwice CBadValue CNotWritten CUnknownReader CBookFull CNoSuchDeed CTooManyCourses T32:Addr}{V4 U8 S8 U7 S9 V2 w0K Z2:Tok}
  (cOffice:DfC K "Office" A0)
  (cShelf:DfC K "Shelf" A6)
  (cBook:DfC K "Book" A2)
  (nOffice_names:PySem.W.findIn K (.ref A0) "names"=some none)
  (nOffice_reach:PySem.W.findIn K (.ref A0) "reach"=some none)
  (nOffice_written:PySem.W.findIn K (.ref A0) "written"=some none)
  (nShelf_names:PySem.W.findIn K (.ref A6) "names"=some none)
  (nShelf_reach:PySem.W.findIn K (.ref A6) "reach"=some none)
  (nShelf_issues:PySem.W.findIn K (.ref A6) "issues"=some none)
  (nBook_office:PySem.W.findIn K (.ref A2) "office"=some none)
  (nBook_readers:PySem.W.findIn K (.ref A2) "readers"=some none)
  (nBook_done:PySem.W.findIn K (.ref A2) "done"=some none)
  (a0:DfT K "_wall" y4E .none f0)
  (a1:DfT K "refuse_bad_names" z1X .none f1)
  (a2:DfT K "refuse_bad_reach" z1V .none f2)
  (a3:DfT K "bulletin_names" z2p .none f3)
  (a4:DfT K "refuse_unknown_name" z19 .none f4)
  (a5:DfT K "reached_by" z4e .none f5)
  (a6:DfT K "tail_for" z6j .none f6)
  (a7:DfT K "refuse_bad_value" z1t .none f7)
  (a8:DfT K "refuse_bad_rows" z1A .none f8)
  (a9:DfT K "rows_in_order" z2I .none f9)
  (a10:DfT K "names_of_rows" z2N .none f10)
  (a11:DfM K A0 "__init__" "Office.__init__" z27 .none f11)
  (a12:DfM K A0 "refuse_writing" "Office.refuse_writing" z0X .none f12)
  (a13:DfM K A0 "write" "Office.write" z2e .none f13)
  (a14:DfM K A0 "latest" "Office.latest" z2J .none f14)
  (a15:DfM K A0 "issue" "Office.issue" z2f .none f15)
  (a16:DfM K A6 "__init__" "Shelf.__init__" z2u .none f16)
  (a17:DfM K A6 "put" "Shelf.put" z4R .none f17)
  (a18:DfM K A6 "had" "Shelf.had" z57 .none f18)
  (a19:DfM K A6 "latest" "Shelf.latest" z3d .none f19)
  (a20:DfM K A6 "rows_of" "Shelf.rows_of" z6E .none f20)
  (a21:DfM K A6 "tail_of" "Shelf.tail_of" z6A .none f21)
  (a22:DfT K "refuse_bad_readers" z1C .none f22)
  (a23:DfM K A2 "__init__" "Book.__init__" z2F .none f23)
  (a24:DfM K A2 "refuse_unknown_reader" "Book.refuse_unknown_reader" z0F .none f24)
  (a25:DfM K A2 "refuse_further_deed" "Book.refuse_further_deed" z0M .none f25)
  (a26:DfM K A2 "write" "Book.write" z2Y .none f26)
  (a27:DfM K A2 "deliver" "Book.deliver" z2a .none f27)
  (a28:DfM K A2 "latest" "Book.latest" z3H .none f28)
  (a29:DfM K A2 "issue" "Book.issue" z3a .none f29)
  (a30:DfM K A2 "deeds" "Book.deeds" z44 .none f30)
  (a31:DfM K A2 "deed" "Book.deed" z3S .none f31)
  (a32:DfM K A2 "shelf" "Book.shelf" z30 (.ref T32) f32)
  (a33:DfT K "_law_at" z7j .none f33)
  (a34:DfT K "_law_pick" z4Z .none f34)
  (a35:DfT K "_law_row" z6q .none f35)
  (a36:DfT K "_law_same" z3N .none f36)
  (a37:DfT K "_law_named" z47 .none f37)
  (a38:DfT K "_law_strange" z2W .none f38)
  (a39:DfT K "_law_doubled" z2X .none f39)
  (a40:DfT K "_law_sets" z4V .none f40)
  (a41:DfT K "_law_value" z41 .none f41)
  (a42:DfT K "_law_valued" z3I .none f42)
  (a43:DfT K "_law_names" z48 .none f43)
  (a44:DfT K "_law_deeds" z46 .none f44)
  (a45:DfT K "_law_had_at" z3B .none f45)
  (a46:DfT K "_law_play" z4X .none f46)
  (a47:DfT K "_law_spoilt" z3y .none f47)
  (a48:DfT K "_law_refusal" z3g .none f48)
  (a49:DfT K "_law_done" z52 .none f49)
  (a50:DfT K "_law_doors" z4d .none f50)
  (a51:DfT K "law" w0o .none f51)
  (d32:DfD K T32 #[Value.none])
  (xBackError:PySem.W.nsIn K mainGlobals "BackError"=some (some (.ref CBackError)))
  (xBadNames:PySem.W.nsIn K mainGlobals "BadNames"=some (some (.ref CBadNames)))
  (xBadReach:PySem.W.nsIn K mainGlobals "BadReach"=some (some (.ref CBadReach)))
  (xBadReaders:PySem.W.nsIn K mainGlobals "BadReaders"=some (some (.ref CBadReaders)))
  (xOfficeFull:PySem.W.nsIn K mainGlobals "OfficeFull"=some (some (.ref COfficeFull)))
  (xUnknownName:PySem.W.nsIn K mainGlobals "UnknownName"=some (some (.ref CUnknownName)))
  (xNameTwice:PySem.W.nsIn K mainGlobals "NameTwice"=some (some (.ref CNameTwice)))
  (xBadValue:PySem.W.nsIn K mainGlobals "BadValue"=some (some (.ref CBadValue)))
  (xNotWritten:PySem.W.nsIn K mainGlobals "NotWritten"=some (some (.ref CNotWritten)))
  (xUnknownReader:PySem.W.nsIn K mainGlobals "UnknownReader"=some (some (.ref CUnknownReader)))
  (xBookFull:PySem.W.nsIn K mainGlobals "BookFull"=some (some (.ref CBookFull)))
  (xNoSuchDeed:PySem.W.nsIn K mainGlobals "NoSuchDeed"=some (some (.ref CNoSuchDeed)))
  (xTooManyCourses:PySem.W.nsIn K mainGlobals "TooManyCourses"=some (some (.ref CTooManyCourses)))
  (xb:PySem.W.excIn K CBackError veL "ValueError.__new__"=true) (xc:z80 K CBackError [CBadNames,CBadReach,CBadReaders,COfficeFull,CUnknownName,CNameTwice,CBadValue,CNotWritten,CUnknownReader,CBookFull,CNoSuchDeed,CTooManyCourses]=true)
  (zlen:PySem.W.nsIn K mainGlobals "len"=some none) (zrange:PySem.W.nsIn K mainGlobals "range"=some none) (ztuple:PySem.W.nsIn K mainGlobals "tuple"=some none) (zlist:PySem.W.nsIn K mainGlobals "list"=some none) (zmax:PySem.W.nsIn K mainGlobals "max"=some none) (zmin:PySem.W.nsIn K mainGlobals "min"=some none) (zsorted:PySem.W.nsIn K mainGlobals "sorted"=some none) (zisinstance:PySem.W.nsIn K mainGlobals "isinstance"=some none) (zbool:PySem.W.nsIn K mainGlobals "bool"=some none) (zint:PySem.W.nsIn K mainGlobals "int"=some none) (zstr:PySem.W.nsIn K mainGlobals "str"=some none) (zset:PySem.W.nsIn K mainGlobals "set"=some none) (zreversed:PySem.W.nsIn K mainGlobals "reversed"=some none) (zdict:PySem.W.nsIn K mainGlobals "dict"=some none) (zzip:PySem.W.nsIn K mainGlobals "zip"=some none) (zall:PySem.W.nsIn K mainGlobals "all"=some none) (zValueError:PySem.W.nsIn K mainGlobals "ValueError"=some none) (vMOST_NAMES:PySem.W.nsIn K mainGlobals "MOST_NAMES"=some (some (.int 12 V4))) (vMOST_REACH:PySem.W.nsIn K mainGlobals "MOST_REACH"=some (some (.int 10 U8))) (vMOST_NUMBERS:PySem.W.nsIn K mainGlobals "MOST_NUMBERS"=some (some (.int 60 S8))) (vMOST_VALUE:PySem.W.nsIn K mainGlobals "MOST_VALUE"=some (some (.int 1000000 U7))) (vMOST_READERS:PySem.W.nsIn K mainGlobals "MOST_READERS"=some (some (.int 10 S9))) (vMOST_DEEDS:PySem.W.nsIn K mainGlobals "MOST_DEEDS"=some (some (.int 400 V2))) (vWRITE:PySem.W.nsIn K mainGlobals "WRITE"=some (some (.str "write" w0K))) (vDELIVER:PySem.W.nsIn K mainGlobals "DELIVER"=some (some (.str "deliver" Z2))) :
  ∃fd:FuncData,(∀(s:Shared) (v:Value),BindsTo s fd ⟨[v],[]⟩ [("_law_script",v)])/\∀base:Heap,K.In base->base.Ns mainGlobals mg->B0 l.prog w K mg base CX0 14 fa fd ["_law_script"] (y2V K):=by
 have M:Bl mg:=⟨cE X G zlen,cE X G zrange,cE X G ztuple,cE X G zlist,cE X G zmax,cE X G zmin,cE X G zsorted,cE X G zisinstance,cE X G zbool,cE X G zint,cE X G zstr,cE X G zset,cE X G zreversed,cE X G zdict,cE X G zzip,cE X G zall,cE X G zValueError,⟨_,cG X G vMOST_NAMES⟩,⟨_,cG X G vMOST_REACH⟩,⟨_,cG X G vMOST_NUMBERS⟩,⟨_,cG X G vMOST_VALUE⟩,⟨_,cG X G vMOST_READERS⟩,⟨_,cG X G vMOST_DEEDS⟩,⟨_,cG X G vWRITE⟩,⟨_,cG X G vDELIVER⟩⟩
 have C3:E7 K mg A0:=⟨cOffice.cls,cOffice.nm X G,nOffice_names,nOffice_reach,nOffice_written⟩
 have O3:Q4 K mg A6:=⟨cShelf.cls,cShelf.nm X G,nShelf_names,nShelf_reach,nShelf_issues⟩
 have B8:E4 K mg A2:=⟨cBook.cls,cBook.nm X G,nBook_office,nBook_readers,nBook_done⟩
 obtain⟨_,F_wall⟩:=z0W X G a0
 obtain⟨_,Frefuse_bad_names⟩:=z0W X G a1
 obtain⟨_,Frefuse_bad_reach⟩:=z0W X G a2
 obtain⟨_,Fbulletin_names⟩:=z0W X G a3
 obtain⟨_,Frefuse_unknown_name⟩:=z0W X G a4
 obtain⟨_,Freached_by⟩:=z0W X G a5
 obtain⟨_,Ftail_for⟩:=z0W X G a6
 obtain⟨_,Frefuse_bad_value⟩:=z0W X G a7
 obtain⟨_,Frefuse_bad_rows⟩:=z0W X G a8
 obtain⟨_,Frows_in_order⟩:=z0W X G a9
 obtain⟨_,Fnames_of_rows⟩:=z0W X G a10
 obtain⟨_,FOffice___init__⟩:=z8V cOffice a11
 obtain⟨_,FOffice_refuse_writing⟩:=z1m a12
 obtain⟨_,FOffice_write⟩:=z1m a13
 obtain⟨_,FOffice_latest⟩:=z1m a14
 obtain⟨_,FOffice_issue⟩:=z1m a15
 obtain⟨_,FShelf___init__⟩:=z8V cShelf a16
 obtain⟨_,FShelf_put⟩:=z1m a17
 obtain⟨_,FShelf_had⟩:=z1m a18
 obtain⟨_,FShelf_latest⟩:=z1m a19
 obtain⟨_,FShelf_rows_of⟩:=z1m a20
 obtain⟨_,FShelf_tail_of⟩:=z1m a21
 obtain⟨_,Frefuse_bad_readers⟩:=z0W X G a22
 obtain⟨_,FBook___init__⟩:=z8V cBook a23
 obtain⟨_,FBook_refuse_unknown_reader⟩:=z1m a24
 obtain⟨_,FBook_refuse_further_deed⟩:=z1m a25
 obtain⟨_,FBook_write⟩:=z1m a26
 obtain⟨_,FBook_deliver⟩:=z1m a27
 obtain⟨_,FBook_latest⟩:=z1m a28
 obtain⟨_,FBook_issue⟩:=z1m a29
 obtain⟨_,FBook_deeds⟩:=z1m a30
 obtain⟨_,FBook_deed⟩:=z1m a31
 obtain⟨_,FBook_shelf⟩:=y2K a32 d32
 have R9:=FBook_shelf.1.binds (ps:=["self","reader","deed"]) (ds:=[]) fun _ _ _ _ _ _ us hl=>w0n (p:=fun us=>∃k,bindArgs _ ⟨us,[]⟩=seqItems? _ >>= k/\k (some _)=pure (List.zip _ (us++[]))) hl fun _ _ _=>⟨_,rfl,rfl⟩
 have T5:=FBook_shelf.1.binds (ps:=["self","reader","deed"]) (ds:=[Value.none]) fun _ _ _ _ _ _ us hl=>w0k (p:=fun us=>∃k,bindArgs _ ⟨us,[]⟩=seqItems? _ >>= k/\k (some _)=pure (List.zip _ (us++[Value.none]))) (Nat.succ.inj (hl)) fun _ _=>⟨_,rfl,rfl⟩
 obtain⟨_,F_law_at⟩:=z0W X G a33
 obtain⟨_,F_law_pick⟩:=z0W X G a34
 obtain⟨_,F_law_row⟩:=z0W X G a35
 obtain⟨_,F_law_same⟩:=z0W X G a36
 obtain⟨_,F_law_named⟩:=z0W X G a37
 obtain⟨_,F_law_strange⟩:=z0W X G a38
 obtain⟨_,F_law_doubled⟩:=z0W X G a39
 obtain⟨_,F_law_sets⟩:=z0W X G a40
 obtain⟨_,F_law_value⟩:=z0W X G a41
 obtain⟨_,F_law_valued⟩:=z0W X G a42
 obtain⟨_,F_law_names⟩:=z0W X G a43
 obtain⟨_,F_law_deeds⟩:=z0W X G a44
 obtain⟨_,F_law_had_at⟩:=z0W X G a45
 obtain⟨_,F_law_play⟩:=z0W X G a46
 obtain⟨_,F_law_spoilt⟩:=z0W X G a47
 obtain⟨_,F_law_refusal⟩:=z0W X G a48
 obtain⟨_,F_law_done⟩:=z0W X G a49
 obtain⟨_,F_law_doors⟩:=z0W X G a50
 obtain⟨_,Flaw⟩:=z0W X G a51
 have ers:V1 K CBackError [CBadNames,CBadReach,CBadReaders,COfficeFull,CUnknownName,CNameTwice,CBadValue,CNotWritten,CUnknownReader,CBookFull,CNoSuchDeed,CTooManyCourses]:=⟨xc⟩
 have Q0:Err K mg "BackError" CBackError:=⟨cG X G xBackError,xb⟩
 have R6:Err K mg "BadNames" CBadNames:=⟨cG X G xBadNames,(ers.one (by simp)).1.ex⟩
 have R5:Err K mg "BadReach" CBadReach:=⟨cG X G xBadReach,(ers.one (by simp)).1.ex⟩
 have N9:Err K mg "BadReaders" CBadReaders:=⟨cG X G xBadReaders,(ers.one (by simp)).1.ex⟩
 have F5:Err K mg "OfficeFull" COfficeFull:=⟨cG X G xOfficeFull,(ers.one (by simp)).1.ex⟩
 have E8:Err K mg "UnknownName" CUnknownName:=⟨cG X G xUnknownName,(ers.one (by simp)).1.ex⟩
 have I0:Err K mg "NameTwice" CNameTwice:=⟨cG X G xNameTwice,(ers.one (by simp)).1.ex⟩
 have K4:Err K mg "BadValue" CBadValue:=⟨cG X G xBadValue,(ers.one (by simp)).1.ex⟩
 have F4:Err K mg "NotWritten" CNotWritten:=⟨cG X G xNotWritten,(ers.one (by simp)).1.ex⟩
 have D8:Err K mg "UnknownReader" CUnknownReader:=⟨cG X G xUnknownReader,(ers.one (by simp)).1.ex⟩
 have K3:Err K mg "BookFull" CBookFull:=⟨cG X G xBookFull,(ers.one (by simp)).1.ex⟩
 have C9:Err K mg "NoSuchDeed" CNoSuchDeed:=⟨cG X G xNoSuchDeed,(ers.one (by simp)).1.ex⟩
 have J5:Err K mg "TooManyCourses" CTooManyCourses:=⟨cG X G xTooManyCourses,(ers.one (by simp)).1.ex⟩
 have e:=hfa.symm.trans Flaw.2
 cases e
 refine⟨_,y1w Flaw.1,fun base _ _=>?_⟩
 have Y1:=z9V (P:=l.prog) (w:=w) (base:=base) M F_law_same.1 (b2 F_law_same.1) F_law_same.2
 have cal:=@calF l.prog w K mg base
 have mcl:=@mclF l.prog w K mg base
 have mkr:=@mkrF l.prog w K mg base
 have w0G:=@w1k l.prog w K mg base
 have U0:=@w1h l.prog w K mg base
 have mkrX:=@w13 l.prog w K mg base
 have D9:=cal F_law_at (w1f M F_law_at.1) (b2 F_law_at.1)
 have C1:=cal F_law_pick (y3P F_law_pick.1) (b2 F_law_pick.1)
 have K5:=cal F_law_row (y5b M F_law_row.1) (b3 F_law_row.1)
 have O7:=cal F_law_named (y2c M F_law_named.1) (b2 F_law_named.1)
 have L7:=cal F_law_doubled (y0r M F_law_doubled.1) (b1 F_law_doubled.1)
 have O5:=cal F_law_value (y29 F_law_value.1) (b2 F_law_value.1)
 have F9:=cal Frefuse_bad_names (z98 M Frefuse_bad_names.1) (b1 Frefuse_bad_names.1)
 have F7:=cal Frefuse_bad_reach (z9k M Frefuse_bad_reach.1) (b1 Frefuse_bad_reach.1)
 have E6:=mcl O3.cl FShelf_put (y5d (A6:=A6) M O3 FShelf_put.1) (b2 FShelf_put.1)
 have J0:=mcl O3.cl FShelf_had (y2I (A6:=A6) M O3 FShelf_had.1) (b1 FShelf_had.1)
 have N5:=cal Freached_by (y0f M Freached_by.1) (b2 Freached_by.1)
 have B7:=cal Frefuse_unknown_name (y3o M Frefuse_unknown_name.1) (b2 Frefuse_unknown_name.1)
 have B9:=cal Frefuse_bad_value (z8k M Frefuse_bad_value.1) (b1 Frefuse_bad_value.1)
 have C6:=cal Frows_in_order (y03 M Frows_in_order.1) (b2 Frows_in_order.1)
 have C7:=cal Fnames_of_rows (y2Y M Fnames_of_rows.1) (b1 Fnames_of_rows.1)
 have K6:=mcl C3.cl FOffice_latest (z90 (A0:=A0) M C3 FOffice_latest.1) (b1 FOffice_latest.1)
 have A9:=mcl C3.cl FOffice_issue (z6L (A0:=A0) M C3 FOffice_issue.1) (b2 FOffice_issue.1)
 have E9:=cal Frefuse_bad_readers (z7F M Frefuse_bad_readers.1) (b1 Frefuse_bad_readers.1)
 have A3:=mcl B8.cl FBook_refuse_unknown_reader (z5l (A2:=A2) (A0:=A0) M B8 FBook_refuse_unknown_reader.1) (b2 FBook_refuse_unknown_reader.1)
 have A5:=mcl B8.cl FBook_refuse_further_deed (z6W (A2:=A2) (A0:=A0) M B8 FBook_refuse_further_deed.1) (b1 FBook_refuse_further_deed.1)
 have O6:=mcl B8.cl FBook_deeds (y0h (A2:=A2) (A0:=A0) M B8 FBook_deeds.1) (b1 FBook_deeds.1)
 have Q1:=mcl B8.cl FBook_deed (z7Z (A2:=A2) (A0:=A0) M B8 FBook_deed.1) (b2 FBook_deed.1)
 have E5:=w0G Frefuse_unknown_name (y4p (CUnknownName:=CUnknownName) M Frefuse_unknown_name.1 E8) (b2 Frefuse_unknown_name.1)
 have F2:=w0G Frefuse_bad_value (y04 (CBadValue:=CBadValue) M Frefuse_bad_value.1 K4) (b1 Frefuse_bad_value.1)
 have D7:=U0 C3.cl FOffice_issue (z9g (A0:=A0) (CNotWritten:=CNotWritten) M C3 FOffice_issue.1 F4) (b2 FOffice_issue.1)
 have B1:=U0 B8.cl FBook_refuse_unknown_reader (z7l (A2:=A2) (A0:=A0) (CUnknownReader:=CUnknownReader) M B8 FBook_refuse_unknown_reader.1 D8) (b2 FBook_refuse_unknown_reader.1)
 have B4:=U0 B8.cl FBook_refuse_further_deed (z9f (A2:=A2) (A0:=A0) (CBookFull:=CBookFull) M B8 FBook_refuse_further_deed.1 K3) (b1 FBook_refuse_further_deed.1)
 have N6:=U0 B8.cl FBook_deed (y0o (A2:=A2) (A0:=A0) (CNoSuchDeed:=CNoSuchDeed) M B8 FBook_deed.1 C9) (b2 FBook_deed.1)
 have L6:=cal F_law_strange (y0l M F_law_strange.1) (b2 F_law_strange.1)
 have L5:=cal F_law_refusal (y01 M F_law_refusal.1) (b2 F_law_refusal.1)
 have M1:=cal F_law_had_at (y0A M F_law_had_at.1) (b3 F_law_had_at.1)
 have P7:=cal F_law_sets (y4n M F_law_sets.1 K5.up L7.up) (b3 F_law_sets.1)
 have M0:=cal F_law_valued (y1p M F_law_valued.1 K5.up O5.up) (b2 F_law_valued.1)
 have O1:=cal F_law_names (y2M F_law_names.1 D9.up C1.up O7.up) (b1 F_law_names.1)
 have C8:=cal Fbulletin_names (z9j M Fbulletin_names.1 F9.up F7.up) (b2 Fbulletin_names.1)
 have w00:=mcl O3.cl FShelf_latest (y1I (A6:=A6) M O3 FShelf_latest.1 J0.up) (b1 FShelf_latest.1)
 have J1:=cal Ftail_for (y44 M Ftail_for.1 N5.up) (b2 Ftail_for.1)
 have C4:=cal Frefuse_bad_rows (z6Z M Frefuse_bad_rows.1 B7.up B9.up) (b2 Frefuse_bad_rows.1)
 have L4:=mcl B8.cl FBook_deliver (z5q (A2:=A2) (A0:=A0) M B8 FBook_deliver.1 A9.up A3.up A5.up) (b3 FBook_deliver.1)
 have L8:=mcl B8.cl FBook_latest (z9h (A2:=A2) (A0:=A0) M B8 FBook_latest.1 K6.up) (b1 FBook_latest.1)
 have w0e:=mcl B8.cl FBook_issue (z6P (A2:=A2) (A0:=A0) M B8 FBook_issue.1 A9.up) (b2 FBook_issue.1)
 have F8:=w0G Frefuse_bad_rows (z8N (CUnknownName:=CUnknownName) (CNameTwice:=CNameTwice) (CBadValue:=CBadValue) M Frefuse_bad_rows.1 I0 B7.up B9.up E5.up F2.up) (b2 Frefuse_bad_rows.1)
 have K7:=U0 B8.cl FBook_deliver (z7z (A2:=A2) (A0:=A0) (CNotWritten:=CNotWritten) (CUnknownReader:=CUnknownReader) (CBookFull:=CBookFull) M B8 FBook_deliver.1 A9.up A3.up A5.up D7.up B1.up B4.up) (b3 FBook_deliver.1)
 have N0:=U0 B8.cl FBook_issue (z99 (A2:=A2) (A0:=A0) (CNotWritten:=CNotWritten) M B8 FBook_issue.1 A9.up D7.up) (b2 FBook_issue.1)
 have M6:=cal F_law_spoilt (y1k M F_law_spoilt.1 L6.up) (b3 F_law_spoilt.1)
 have O0:=cal F_law_deeds (y1i M F_law_deeds.1 C1.up) (b4 F_law_deeds.1)
 have O4:=mkr O3.mgC FShelf___init__ (y1Q (A6:=A6) M O3 FShelf___init__.1 C8.up) (b3 FShelf___init__.1)
 have T6:=mkr C3.mgC FOffice___init__ (y0I (A0:=A0) M C3 FOffice___init__.1 C8.up) (b3 FOffice___init__.1)
 have A8:=mcl C3.cl FOffice_refuse_writing (z7b (A0:=A0) M C3 FOffice_refuse_writing.1 C4.up) (b2 FOffice_refuse_writing.1)
 have B6:=U0 C3.cl FOffice_refuse_writing (z94 (A0:=A0) (COfficeFull:=COfficeFull) (CUnknownName:=CUnknownName) (CNameTwice:=CNameTwice) (CBadValue:=CBadValue) M C3 FOffice_refuse_writing.1 F5 C4.up F8.up) (b2 FOffice_refuse_writing.1)
 have D1:=mcl C3.cl FOffice_write (z7i (A0:=A0) M C3 FOffice_write.1 A8.up C7.up C6.up J1.up) (b2 FOffice_write.1)
 have Y9:=mkr B8.mgC FBook___init__ (y14 (A2:=A2) (A0:=A0) M B8 FBook___init__.1 T6.up E9.up) (b4 FBook___init__.1)
 have w0d:D5 l.prog w K mg base 6 A2 "shelf" z1k (z2l (BkD K A2 A0) (ShD K A6)):=.mk' B8.cl (z56 (A2:=A2) (A0:=A0) (A6:=A6) M B8 C3 FBook_shelf.1 A9.up A3.up O4.up E6.up) R9 FBook_shelf.2
 have M7:O2 l.prog w K mg base 6 A2 "shelf" z1k (z2l (BkD K A2 A0) (ShD K A6)) [V.non]:=.mk' (.cons rfl .nil) B8.cl (z56 (A2:=A2) (A0:=A0) (A6:=A6) M B8 C3 FBook_shelf.1 A9.up A3.up O4.up E6.up) T5 FBook_shelf.2
 have Z8:=U0 C3.cl FOffice_write (z95 (A0:=A0) (COfficeFull:=COfficeFull) (CUnknownName:=CUnknownName) (CNameTwice:=CNameTwice) (CBadValue:=CBadValue) M C3 FOffice_write.1 A8.up C7.up C6.up J1.up B6.up) (b2 FOffice_write.1)
 have M3:F6 l.prog w K mg base 6 A2 "shelf" z1k (F3 (z2l (BkD K A2 A0) (ShD K A6)) (z53 (BkD K A2 A0) CNoSuchDeed CUnknownReader)):=⟨B8.cl,_,_,(z8J (A2:=A2) (A0:=A0) (A6:=A6) (CNoSuchDeed:=CNoSuchDeed) (CUnknownReader:=CUnknownReader) M B8 C3 FBook_shelf.1 C9 A9.up A3.up O4.up E6.up B1.up),R9,FBook_shelf.2⟩
 have K8:=mcl B8.cl FBook_write (z6X (A2:=A2) (A0:=A0) M B8 FBook_write.1 A8.up D1.up A5.up) (b2 FBook_write.1)
 have M4:=U0 B8.cl FBook_write (z8S (A2:=A2) (A0:=A0) (COfficeFull:=COfficeFull) (CUnknownName:=CUnknownName) (CNameTwice:=CNameTwice) (CBadValue:=CBadValue) (CBookFull:=CBookFull) M B8 FBook_write.1 A8.up D1.up A5.up B6.up B4.up) (b2 FBook_write.1)
 have E2:=cal F_law_done (y2t (A0:=A0) (A2:=A2) (A6:=A6) (CBadNames:=CBadNames) (CBadReach:=CBadReach) (CBadReaders:=CBadReaders) (COfficeFull:=COfficeFull) (CUnknownName:=CUnknownName) (CNameTwice:=CNameTwice) (CBadValue:=CBadValue) (CNotWritten:=CNotWritten) (CUnknownReader:=CUnknownReader) (CBookFull:=CBookFull) (CNoSuchDeed:=CNoSuchDeed) (CTooManyCourses:=CTooManyCourses) (CBackError:=CBackError) M F_law_done.1 Q0 R6 R5 N9 F5 E8 I0 K4 F4 D8 K3 C9 J5 ers M4.up K7.up N0.up N6.up M3.up) (b4 F_law_done.1)
 have P2:=cal F_law_play (y2T (A2:=A2) (Bk:=(BkD K A2 A0)) M F_law_play.1 S3 K8.up L4.up) (b3 F_law_play.1)
 have N3:=cal F_law_doors (z8q (A2:=A2) (Bk:=(BkD K A2 A0)) M F_law_doors.1 S3 (Y1 6) E2.up) (b4 F_law_doors.1)
 exact y4W M Flaw.1 S3 U5 D9.up C1.up O1.up P7.up M0.up (Y1 6) O0.up M1.up P2.up M6.up L5.up E2.up N3.up Y9.up O6.up L8.up Q1.up M7.up J0.up
theorem walk{l:PySem.W.OpenLaw}{q:Program}{loose:List Str}{XP:(Str->Option Value)->Heap->Prop}{YP:World->Heap->Prop}{d:DefRec}{K:Params->PySem.W.Frag}(hn:l.most=some 63)(hdf:d.params.defaults=[])
  (hY:∀(w:World) (h:Heap),YP w h->(K w.params).In h)
  (F:∀(w:World) (mg:Str->Option Value) (fa:Addr) (h:Heap),(K w.params).In h->h.Ns mainGlobals mg->mg d.name=some (.ref fa)->
   ∃fd:FuncData,(∀(s:Shared) (u:Value),BindsTo s fd ⟨[u],[]⟩ [("_law_script",u)])/\∀base:Heap,(K w.params).In base->base.Ns mainGlobals mg->B0 l.prog w (K w.params) mg base CX0 14 fa fd ["_law_script"] (y2V (K w.params))) :
  PySem.W.WalkO q loose XP YP l.row.toRowW d [] (fun f vs=>PySem.call f vs):=
 L2.y4j (n:=63) (k:=14) (x:="_law_script") (CX:=fun _=>CX0) (sp:=fun w=>y2V (K w.params)) hn (by decide) hdf ⟨rfl,by decide,by decide⟩ hY F (fun _ _ a ns hl _ hS=>⟨a,ns,rfl,hS,hl,fun _=>rfl⟩) fun _ _ _ _ _ z=>z
theorem w0W{q:Program}{loose:List Str}{XP:(Str->Option Value)->Heap->Prop}{r:PySem.W.RowW}{d:DefRec}{kwd:List (Str×Expr)}{run:Value->List Value->Sem Value}{K:Params->PySem.W.Frag}{ks:List Addr}{n t:Nat}(e:∀P,ks=(K P).map (·.1))
  (W:PySem.W.WalkO q loose XP (fun w h=>(K w.params).In h) r d kwd run):PySem.W.WalkX q loose XP (PySem.W.X.obsZ ks) (PySem.W.X.valZ K n t) r d kwd run:=
 fun w s₀ s₁ mg mb G y a o pm cd doc dV kV h1 h2 h3 h4 h5 h6 args vals as L g1 g2 g3 g4 g5=>W w s₀ s₁ mg mb G (PySem.W.InK.keeps w s₀.heap s₁.heap (PySem.W.X.z_facts e y).2.1 L.keeps) a o pm cd doc dV kV h1 h2 h3 h4 h5 h6 args vals as g1 g2 g3 g4 g5
end My
namespace PySem.W.Fast
def tw10061602880495836337:=()
def tw10123393199287571771:=()
def tw1017640660774266672:=()
def tw10226385934406024394:=()
def tw10254059355585170744:=()
def tw10364947756816128677:=()
def tw10424971069437121273:=()
def tw10450185868171541625:=()
def tw10471951384172771930:=()
def tw1062184509161922664:=()
def tw10636915327455994276:=()
def tw10723476253236877331:=()
def tw10760217358310802605:=()
def tw10765842332639230612:=()
def tw10810122928634709340:=()
def tw10810392259557492416:=()
def tw1088828322826476081:=()
def tw10935418411490110109:=()
def tw10951535949703963720:=()
def tw10965851591559563542:=()
def tw10973749680308039546:=()
def tw11017571585861663454:=()
def tw11067921959846994908:=()
def tw11075692339646749871:=()
def tw11085672202794713464:=()
def tw11087130738357854425:=()
def tw11096368894790713240:=()
def tw11121035867379386578:=()
def tw11137692517658223316:=()
def tw1115876698783804157:=()
def tw1116751317548749503:=()
def tw11265798529241886010:=()
def tw11269022991596795539:=()
def tw11353091832580615003:=()
def tw11526296128755825308:=()
def tw11534177797021152744:=()
def tw11557613618375412113:=()
def tw11560619013146506539:=()
def tw11593340945015234839:=()
def tw11608827242233228018:=()
def tw11616096955559183510:=()
def tw1165244113593580893:=()
def tw1165883255290095720:=()
def tw11750319560931483027:=()
def tw11837257159568154155:=()
def tw11981650251427222524:=()
def tw11984273063361122679:=()
def tw12035205135591911648:=()
def tw12040024828780479244:=()
def tw1213315981884893641:=()
def tw12159789581814306853:=()
def tw12200146580305709147:=()
def tw12349242960690057540:=()
def tw12382281196699883638:=()
def tw1239441815030790999:=()
def tw12403252645533682298:=()
def tw12470302434759869384:=()
def tw1250033910561524586:=()
def tw12516296776528183431:=()
def tw12553549392548501415:=()
def tw12638620027384464938:=()
def tw12655288580910622768:=()
def tw12718141175006757533:=()
def tw12789552313625863580:=()
def tw12855948648372085680:=()
def tw12970482989411078800:=()
def tw13041003846464194782:=()
def tw13067502402803234722:=()
def tw13086791636336926139:=()
def tw13125403142865770964:=()
def tw13130366295981200615:=()
def tw13219586321237824750:=()
def tw13228741264675280773:=()
def tw13243906055656081298:=()
def tw13309746400257909460:=()
def tw13396468334134755109:=()
def tw1342676930311615276:=()
def tw13439052299504703140:=()
def tw13468736628583293068:=()
def tw13475511199919903201:=()
def tw13480012045786741156:=()
def tw13523436240490324603:=()
def tw13526307366788513442:=()
def tw13643137033388452158:=()
def tw13672155144485784283:=()
def tw1371283198191377928:=()
def tw13832067903152360514:=()
def tw13854065952829118429:=()
def tw13882058923334858948:=()
def tw13976438793679229516:=()
def tw13979027787201282771:=()
def tw14005825500929187309:=()
def tw14011574207027826904:=()
def tw14017965944811093202:=()
def tw14026037361207822829:=()
def tw14035362489582245643:=()
def tw14077467637199003113:=()
def tw14167121662649554446:=()
def tw14180226276099317954:=()
def tw14201447962649349014:=()
def tw14219768172176729936:=()
def tw14282903405693197970:=()
def tw14342945279542828313:=()
def tw14363722962923361474:=()
def tw14397967886878772615:=()
def tw1440302691198928085:=()
def tw14405882600014612655:=()
def tw14563395612053185388:=()
def tw14573855630411894054:=()
def tw14616881744878910682:=()
def tw14657669175653182290:=()
def tw14826548506285117941:=()
def tw14848512068906397483:=()
def tw14909416509294079163:=()
def tw14927503631143582027:=()
def tw14938133041762823773:=()
def tw14940128547720429958:=()
def tw14943771875208763638:=()
def tw14950640206706896528:=()
def tw15075085637364441670:=()
def tw15145738622686660165:=()
def tw15180937567861156378:=()
def tw15205981608810076860:=()
def tw15223193410652600540:=()
def tw15334144980939194928:=()
def tw15381860531988841396:=()
def tw15469375358347103969:=()
def tw15509528472008816958:=()
def tw1553947563048534838:=()
def tw15555856548586912928:=()
def tw15618812340616137662:=()
def tw15635137090219936013:=()
def tw15637517182427918982:=()
def tw15665839708280468549:=()
def tw15732820429523235726:=()
def tw15785031292265104926:=()
def tw15843222582281566851:=()
def tw15856376355673879728:=()
def tw15859396203163529171:=()
def tw15911204668322723258:=()
def tw15972020680405504563:=()
def tw15981731134886207160:=()
def tw16016368278304240296:=()
def tw16094167221456708222:=()
def tw16138944190306126718:=()
def tw1619380989672532159:=()
def tw16197582626458393762:=()
def tw16237570865825581073:=()
def tw16330769620433625891:=()
def tw16357511095940038399:=()
def tw16378275971513551154:=()
def tw1659648661245920306:=()
def tw16646748973591401166:=()
def tw1665308910031825902:=()
def tw16678649148562710919:=()
def tw16683998064807296272:=()
def tw16894148812408957758:=()
def tw16956507910990982086:=()
def tw16991361991585728260:=()
def tw17038631718811264244:=()
def tw17056513462376490735:=()
def tw17156907519246456797:=()
def tw17188941273157131848:=()
def tw17190180778293313239:=()
def tw17213710857466991504:=()
def tw1724985609647055424:=()
def tw17302772225848690847:=()
def tw17329822622905049269:=()
def tw17342165089531999130:=()
def tw17412432562459226520:=()
def tw17417991885533594723:=()
def tw17447119879901528041:=()
def tw17451398058225010910:=()
def tw17455214177181670338:=()
def tw17505732788284373066:=()
def tw17506012619170257420:=()
def tw1751064446897798471:=()
def tw17524896950624246534:=()
def tw17544769493681796632:=()
def tw17554921961549075494:=()
def tw17571683498664904823:=()
def tw17609662452000976257:=()
def tw17637435648915416435:=()
def tw17702247922818774093:=()
def tw17743629004616961593:=()
def tw17857351218565913286:=()
def tw17891619545383799605:=()
def tw17899510393758137470:=()
def tw17968185904948182807:=()
def tw1799103186590155306:=()
def tw1799360996751547805:=()
def tw18001274372948984406:=()
def tw18048973484428808787:=()
def tw18071744734243610016:=()
def tw1811650037992688503:=()
def tw1818685979094306086:=()
def tw18202404744324696244:=()
def tw18207364950459253271:=()
def tw18297737291528062412:=()
def tw1831901957115155692:=()
def tw18390289594161061096:=()
def tw184321995674971447:=()
def tw18445570655616043478:=()
def tw1845953862016007106:=()
def tw1860883023367784227:=()
def tw192067301288123004:=()
def tw1969760556603136064:=()
def tw1984994166407446067:=()
def tw213479307145523432:=()
def tw2151437291864229492:=()
def tw2151846659566629404:=()
def tw2196633323446922941:=()
def tw2202731104753937921:=()
def tw2208825851500575218:=()
def tw2258632399546047239:=()
def tw2350911862449220760:=()
def tw2361778818992780285:=()
def tw2487748757484440933:=()
def tw2491441475455226728:=()
def tw2501049430789240635:=()
def tw259384958385135048:=()
def tw2615245267848386565:=()
def tw2726923864377906444:=()
def tw2728528399452249427:=()
def tw2761322706855842771:=()
def tw2769720924195511044:=()
def tw2792091435806352639:=()
def tw2804427653044900565:=()
def tw2858761054306574678:=()
def tw2976653511543388273:=()
def tw3038534346036399071:=()
def tw3053252595486667752:=()
def tw3062440724710976832:=()
def tw3082163063104385663:=()
def tw3127032569251279740:=()
def tw312743167615293996:=()
def tw3131963429565137134:=()
def tw3190195811081319936:=()
def tw3220465773629088040:=()
def tw3242297886305926894:=()
def tw3247157645822173810:=()
def tw3271272387526765363:=()
def tw3275897056932080499:=()
def tw3301512496942845836:=()
def tw3344034529979331274:=()
def tw34441684525094307:=()
def tw3445096176902911751:=()
def tw3450324766134919963:=()
def tw3482055489891105419:=()
def tw3499300100894392511:=()
def tw3671115590456208842:=()
def tw3683586020257234805:=()
def tw3714860565278586152:=()
def tw3720322618369684793:=()
def tw3884417725535497254:=()
def tw3885678259588839143:=()
def tw3940058508209220093:=()
def tw3992416741816794088:=()
def tw4022268408282530990:=()
def tw4060948127441559916:=()
def tw4081399056231164240:=()
def tw4102604516053995208:=()
def tw4188106433587435806:=()
def tw4225930321849009124:=()
def tw4301757831653718979:=()
def tw4477332682126951096:=()
def tw449075525858709868:=()
def tw449982584694218858:=()
def tw459370643403853384:=()
def tw4962793924711782676:=()
def tw5003245261249118122:=()
def tw5035216161169460866:=()
def tw5118194052391440284:=()
def tw5173487387893506491:=()
def tw5195381912436871599:=()
def tw5321228077707956024:=()
def tw5351942080518461408:=()
def tw5390126288329526999:=()
def tw5416635200671076730:=()
def tw5477728699503597117:=()
def tw5535865480630425491:=()
def tw55398882487427364:=()
def tw5547863021938448326:=()
def tw5580948726820260361:=()
def tw5594575921180959014:=()
def tw5616110453495345456:=()
def tw5699466722945623125:=()
def tw5706321278644390700:=()
def tw5726012709889491429:=()
def tw5732050400861672676:=()
def tw5812421098525078239:=()
def tw5939959194147494536:=()
def tw5946401602348790838:=()
def tw594853192941444174:=()
def tw5961683669272614543:=()
def tw5986146312018308319:=()
def tw6035565633239301230:=()
def tw6037997173218716466:=()
def tw6095464277212637078:=()
def tw6130121188137247314:=()
def tw6143082232899862842:=()
def tw6149094582333486335:=()
def tw6184616774469076367:=()
def tw630564255986995318:=()
def tw6308220506201358515:=()
def tw6384550799523849662:=()
def tw6398988818057621959:=()
def tw6489082657128743294:=()
def tw659131449859085620:=()
def tw662188997234621007:=()
def tw6698843292461621819:=()
def tw671948882132742069:=()
def tw6768548823125843819:=()
def tw6774666656854673713:=()
def tw6780108365318112751:=()
def tw6782351050590392744:=()
def tw6814990227489877670:=()
def tw6977816527609262306:=()
def tw7028366497456902857:=()
def tw7054409360108796064:=()
def tw7089817169196929998:=()
def tw718364659101236321:=()
def tw7190268292034331702:=()
def tw7261374267802946057:=()
def tw7337360371742381733:=()
def tw7384825505665625995:=()
def tw7388345079866751259:=()
def tw7433645740114168262:=()
def tw7467712764421411636:=()
def tw7541085573838721615:=()
def tw7657790671846499126:=()
def tw7707669511016114158:=()
def tw7792834842058238129:=()
def tw7801194520409551697:=()
def tw7842481206226489482:=()
def tw7864323507990484851:=()
def tw787681541686876952:=()
def tw7906000664763194728:=()
def tw7929564138649076028:=()
def tw8020548981698103534:=()
def tw8026797569314687976:=()
def tw8087312948881982490:=()
def tw8162878175862818628:=()
def tw8201552526667218916:=()
def tw8280561533555033926:=()
def tw8342363248961059810:=()
def tw8351029191512438862:=()
def tw836014042147330342:=()
def tw8408042842239802018:=()
def tw8458336120225476282:=()
def tw8474242476604152120:=()
def tw8481153591505214987:=()
def tw8517333365608954134:=()
def tw8530285625668649250:=()
def tw854786553522781517:=()
def tw8601822820977876463:=()
def tw8640432595211402366:=()
def tw8720751538997008871:=()
def tw877219777186985924:=()
def tw8838591400355792281:=()
def tw890725782423628510:=()
def tw9126131989808827497:=()
def tw913830496892561773:=()
def tw9157438346464644963:=()
def tw9203659961251056033:=()
def tw9210381200401924209:=()
def tw9247209746202257677:=()
def tw9306281253809443232:=()
def tw9313546773738329132:=()
def tw9342763132474207203:=()
def tw9406935027587530210:=()
def tw9422466011279800848:=()
def tw9422931951962899307:=()
def tw9434162793003303902:=()
def tw9441560217559418449:=()
def tw9458456616167837769:=()
def tw9545740917563763756:=()
def tw9587707756281421585:=()
def tw9596470334761142523:=()
def tw9629882624111120930:=()
def tw9651679329272246171:=()
def tw9684085829316158130:=()
def tw9713500327788391331:=()
def tw975588314851976459:=()
def tw9906895740524099289:=()
end PySem.W.Fast
open PySem PySem.W PyProof.Rows
set_option maxRecDepth 100000 in
set_option maxHeartbeats 0 in
theorem PySem.Challenge.cw_backissues_k26_book_refuses_holds : PySem.Challenge.rw_backissues_k26_book_refuses.Holds := by
 w_on; o_law; z_head; (case hw => w_witness2)
 k_fill
 refine My.w0W (fun _ => by kernel_rfl) ?_
 refine My.walk (l := PySem.Challenge.rw_backissues_k26_book_refuses) rfl rfl (fun w h Y => Y) ?F
 case F =>
  intro w mg fa h KX G hmg
  refine' My.y53 KX G hmg ?cOffice ?cShelf ?cBook ?nOffice_names ?nOffice_reach ?nOffice_written ?nShelf_names ?nShelf_reach ?nShelf_issues ?nBook_office ?nBook_readers ?nBook_done ?a0 ?a1 ?a2 ?a3 ?a4 ?a5 ?a6 ?a7 ?a8 ?a9 ?a10 ?a11 ?a12 ?a13 ?a14 ?a15 ?a16 ?a17 ?a18 ?a19 ?a20 ?a21 ?a22 ?a23 ?a24 ?a25 ?a26 ?a27 ?a28 ?a29 ?a30 ?a31 ?a32 ?a33 ?a34 ?a35 ?a36 ?a37 ?a38 ?a39 ?a40 ?a41 ?a42 ?a43 ?a44 ?a45 ?a46 ?a47 ?a48 ?a49 ?a50 ?a51 ?d32 ?xBackError ?xBadNames ?xBadReach ?xBadReaders ?xOfficeFull ?xUnknownName ?xNameTwice ?xBadValue ?xNotWritten ?xUnknownReader ?xBookFull ?xNoSuchDeed ?xTooManyCourses ?xb ?xc ?zlen ?zrange ?ztuple ?zlist ?zmax ?zmin ?zsorted ?zisinstance ?zbool ?zint ?zstr ?zset ?zreversed ?zdict ?zzip ?zall ?zValueError ?vMOST_NAMES ?vMOST_REACH ?vMOST_NUMBERS ?vMOST_VALUE ?vMOST_READERS ?vMOST_DEEDS ?vWRITE ?vDELIVER
  case' cOffice | cShelf | cBook => exact ⟨by k_is, by k_is, by k_is, by k_is, by k_is, by k_is, by k_is⟩
  case' nOffice_names | nOffice_reach | nOffice_written | nShelf_names | nShelf_reach | nShelf_issues | nBook_office | nBook_readers | nBook_done => k_is
  case' a0 | a1 | a2 | a3 | a4 | a5 | a6 | a7 | a8 | a9 | a10 | a22 | a33 | a34 | a35 | a36 | a37 | a38 | a39 | a40 | a41 | a42 | a43 | a44 | a45 | a46 | a47 | a48 | a49 | a50 | a51 => exact ⟨by k_is, _, _, _, _, _, _, _, _, _, by k_is, by k_is, by k_is⟩
  case' a11 | a12 | a13 | a14 | a15 | a16 | a17 | a18 | a19 | a20 | a21 | a23 | a24 | a25 | a26 | a27 | a28 | a29 | a30 | a31 | a32 => exact ⟨by k_is, by k_is, _, _, _, _, _, _, _, _, _, by k_is, by k_is, by k_is⟩
  case' d32 => exact ⟨_, _, _, _, by k_is⟩
  case' xBackError | xBadNames | xBadReach | xBadReaders | xOfficeFull | xUnknownName | xNameTwice | xBadValue | xNotWritten | xUnknownReader | xBookFull | xNoSuchDeed | xTooManyCourses => k_is
  case' xb => k_exc
  case' xc => kernel_rfl
  case' zlen | zrange | ztuple | zlist | zmax | zmin | zsorted | zisinstance | zbool | zint | zstr | zset | zreversed | zdict | zzip | zall | zValueError | vMOST_NAMES | vMOST_REACH | vMOST_NUMBERS | vMOST_VALUE | vMOST_READERS | vMOST_DEEDS | vWRITE | vDELIVER => k_is