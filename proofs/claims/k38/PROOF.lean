import PyProof.Rows.All
import Wide.All
import OpenK.AllK
import Wide.FinOn
import Lean
import PyProof.EqAt
import PyProof.EqKinds
import PyProof.TupleCall
import PyProof.WalksMore
import PyProof.ListRange
import PyProof.NeKinds
import PyProof.SliceStr2
import PyProof.StrOps2
import PyProof.Rows.SetFrom
import PyProof.MinMaxWalk
import KE.KRevIter
import KE.KDictList
import PyProof.AttrMiss
import PyProof.IsiH_list
import PyProof.IsiH_tuple
import KE.KDictOf
import PyProof.ZipIter
import PyProof.TupleIter
import KE.KxWritten
import OpenK.KOwn
import KE.KTryMore
import PyProof.StrLawsRepr
import PyProof.RulesDel
import PyProof.RulesAs
import PyProof.ExcArgsOwn
import KE.KIsAll
import PySem.Challenge.RW_backissues_k38_whole_run
set_option Elab.async false
set_option linter.all false
set_option maxHeartbeats 4000000
set_option maxRecDepth 100000
open List renaming length_map->b6,mem_singleton->bA,mem_cons->bC,size_toArray->bE,length_append->bF,getElem?_eq_getElem->bH,map_append->bI,getElem?_map->bL,length_take->bM,mem_cons_of_mem->bP,getD_eq_getElem?_getD->bV,take_length->bW,mem_cons_self->bX,length_cons->bY,mem_of_getElem?->bZ,mem_append->cB,mem_append_right->cD,length_filter_le->cE,mem_map->cF,mem_filter->cM,getElem?_eq_some_iff->cO,map_cons->cP,append_nil->cR,take_zero->cT,exists_cons_of_length_eq_add_one->cW,nodup_iff_pairwise_ne->cX,filter_append->cY,take_of_length_le->d5,nodup_cons->dA,find?_cons->dB,length_drop->dC,getElem_mem->dD,mem_of_mem_take->dE,eq_nil_of_length_eq_zero->dF,filter_cons->dG,take_add_one->dH,foldl_cons->dJ,filter_nil->dL,not_mem_nil->dM,getElem?_append_left->dN,mem_append_left->dP,filter_eq_nil_iff->dQ,all_cons->dW,lookup_cons->e8,all_eq_true->eF,map_map->eI,filterMap_cons->eJ,length_reverse->eQ,any_cons->eV,nodup_append->fA,append_assoc->fB,pairwise_map->fF,length_singleton->fI,pairwise_reverse->fJ,getElem?_set_ne->fK,mem_reverse->fM,reverse_reverse->fN,getElem?_append_right->fO,any_map->fV,mem_range->fX,drop_zero->g0,getElem?_replicate->g8,length_range->gA,foldl_append->gB,getElem?_set_self->gF,length_pos_of_mem->gH,any_eq_true->gJ,length_replicate->gK,getElem_toArray->gP,pairwise_append->gQ,mem_of_mem_drop->gR,length_pos_iff->gT,map_congr_left->gX,mem_map_of_mem->gY,mem_filterMap->hJ,pairwise_cons->hU,any_eq_false->hW,all_map->j8
open PySem.Heap renaming get?_push_of_some->bB,get?_push_size->bK,lt_size->bN,get?_update_other->cK,get?_update_self->d7,size_push->fH
open PySem renaming boot_len->bD,mem_of_lookup->eO
open Nat renaming le_refl->bG,le_trans->c9,ne_of_lt->cC,lt_of_lt_of_le->cN,zero_le->cQ,lt_irrefl->d6,le_succ->dO,lt_of_le_of_lt->dR,lt_succ_of_lt->dX,le_of_lt->fG,lt_succ_self->fL,not_lt_zero->fR,ne_of_gt->fS,pos_of_ne_zero->fT,le_of_not_lt->j6,zero_add->j7,sub_zero->j9
open PySem.F renaming plainAttrs_list->bJ,slot_list_append->bQ,type_list_append->bS,plain_max_loop->cZ,plain_min_loop->d4,slot_tuple_getattribute->dY,called_set->e9,slot_list_getattribute->eB,plain_list_iadd->eU,entry_max_loop->eY,entry_min_loop->eZ,excBase_ValueError->fP
open Bool renaming false_ne_true->bO,and_eq_true->bU,eq_iff_iff->d8,false_eq_true->dS,eq_false_iff->fE,true_and->fQ,false_and->fZ,not_eq_true'->gC,or_eq_true->gO
open PyProof.Rows renaming boot_isinstance->bR,boot_tuple->bT,slot_tuple_getitem->cV,callWith_type1->dI,boot_sorted->fW,boot_list->gG,boot_dict->gI,boot_max->gL,boot_min->gM,boot_set->gN
open Int renaming emod_lt_of_pos->cA,emod_nonneg->cJ,le_refl->e7,zero_add->fU
open PySem.PassesOwn renaming never->cG
open PySem.Around renaming under_plainId->cH
open PySem.W renaming mg_of->cI,mg_none_of->cL,kia_one->d9,methodCall_KW->dU,callWith_K->eX,plainGet_of->gS
open Option renaming map_eq_some_iff->cS
open Ne renaming symm->cU
open Classical renaming byContradiction->dZ
open Array renaming length_toList->eM,mem_def->hV
open PyProof.Rows.F renaming plain_set_update_loop->g9
open PySem.Heap.SameBut renaming update->gU
open PySem.Paired renaming snoc->gZ
open List.Sublist renaming refl->hZ
namespace L2
open PySem PySem.Spec PyProof.Rows
abbrev Key:=Sum Int Str
noncomputable def y0H:Key->Value->Bool
 | .inl k,v=>Value.isInt k v
 | .inr x,v=>Value.isStrOf x v
noncomputable def keyH(w:World):Key->Int
 | .inl k=>hashInt k
 | .inr x=>hashStr w x
theorem z1j:∀{k:Key}{v:Value},y0H k v=true->(∃i t,k=Sum.inl i/\v=Value.int i t)\/(∃x t,k=Sum.inr x/\v=Value.str x t)
 | .inl i,v,h=>by
  obtain⟨t,e⟩:=Value.isInt_shape (k:=i) (v:=v) h
  exact .inl ⟨i,t,rfl,e⟩
 | .inr x,v,h=>by
  obtain⟨t,e⟩:=Value.isStrOf_shape (x:=x) (v:=v) h
  exact .inr ⟨x,t,rfl,e⟩
theorem y2S(i:Int)(t:Tok):y0H (.inl i) (.int i t)=true:=by simp[y0H,Value.isInt]
theorem y3C(x:Str)(t:Tok):y0H (.inr x) (.str x t)=true:=by simp[y0H,Value.isStrOf]
theorem y76(a b:Int):decide ((Sum.inl a:Key)=Sum.inl b)=(a == b):=by
 by_cases e:a=b
 ·subst e;simp
 ·have h:¬(Sum.inl a:Key)=Sum.inl b:=fun q=>e (Sum.inl.inj q)
  rw[decide_eq_false h]
  exact(beq_eq_false_iff_ne.mpr e).symm
theorem y7w(a b:Str):decide ((Sum.inr a:Key)=Sum.inr b)=decide (a=b):=by
 by_cases e:a=b
 ·subst e;simp
 ·have h:¬(Sum.inr a:Key)=Sum.inr b:=fun q=>e (Sum.inr.inj q)
  rw[decide_eq_false h,decide_eq_false e]
theorem y7M(a:Int)(b:Str):decide ((Sum.inl a:Key)=Sum.inr b)=false:=decide_eq_false (fun q=>nomatch q)
theorem y7e(a:Str)(b:Int):decide ((Sum.inr a:Key)=Sum.inl b)=false:=decide_eq_false (fun q=>nomatch q)
noncomputable def z1v(prog:Program)(w:World):PySem.KeyKind prog w Key where
 is:=y0H
 hash:=keyH w
 inj:=fun v a b ha hb=>by
  rcases z1j ha with ⟨i,t,rfl,rfl⟩|⟨x,t,rfl,rfl⟩
  ·rcases z1j hb with ⟨j,u,rfl,e⟩|⟨y,u,rfl,e⟩
   ·injection e with e1 _;rw[e1]
   ·exact nomatch e
  ·rcases z1j hb with ⟨j,u,rfl,e⟩|⟨y,u,rfl,e⟩
   ·exact nomatch e
   ·injection e with e1 _;rw[e1]
 byValue:=fun k v h=>by
  rcases z1j h with ⟨i,t,rfl,rfl⟩|⟨x,t,rfl,rfl⟩<;>rfl
 pyHash:=fun hv h=>by
  rcases z1j hv with ⟨i,t,rfl,rfl⟩|⟨x,t,rfl,rfl⟩
  ·exact wpAny_pyHash_int h
  ·exact wpAny_pyHash_str h
 eqBool:=fun hu hv h=>by
  rcases z1j hu with ⟨i,t,rfl,rfl⟩|⟨x,t,rfl,rfl⟩
  ·rcases z1j hv with ⟨j,u,rfl,rfl⟩|⟨y,u,rfl,rfl⟩
   ·rw[y76] at h;exact wpAny_eqBool_int h
   ·rw[y7M] at h;exact SeqAt.EqAt.int_str i t y u _ _ _ _ h
  ·rcases z1j hv with ⟨j,u,rfl,rfl⟩|⟨y,u,rfl,rfl⟩
   ·rw[y7e] at h;exact SeqAt.EqAt.str_int x t j u _ _ _ _ h
   ·rw[y7w] at h;exact wpAny_eqBool_str h
 «strs»:=fun k x t v h=>by
  rcases z1j h with ⟨i,u,rfl,e⟩|⟨y,u,rfl,e⟩
  ·exact nomatch e
  ·injection e with e1 _
   subst e1
   cases v<;>rfl
theorem y0I(prog:Program)(w:World)(i:Int)(t:Tok):(z1v prog w).is (.inl i) (.int i t)=true:=y2S i t
theorem y13(prog:Program)(w:World)(x:Str)(t:Tok):(z1v prog w).is (.inr x) (.str x t)=true:=y3C x t
inductive V where
 | non|bl (b:Bool)|int (i:Int)|str (x:Str)|byt (b:Array UInt8)|flt (b:UInt64)|ref (a:Addr)|ty (n:String)
 deriving DecidableEq
def RelV:V->Value->Prop
 | .non,u=>u=Value.none
 | .bl b,u=>u=Value.bool b
 | .int i,u=>∃t,u=Value.int i t
 | .str x,u=>∃t,u=Value.str x t
 | .byt b,u=>∃t,u=Value.bytes b t
 | .flt b,u=>∃t,u=Value.float b t
 | .ref a,u=>u=Value.ref a
 | .ty n,u=>u=Value.type n
abbrev Vals:List V->List Value->Prop:=Paired RelV
theorem Vals.length{xs:List V}{us:List Value}(r:Vals xs us):xs.length=us.length:=Paired.length r
theorem Vals.get:∀{xs:List V}{us:List Value}{i:Nat}{x:V},Vals xs us->xs[i]? = some x->∃u,us[i]? = some u/\RelV x u
 | _,_,_,_,.nil,e=>by simp at e
 | _,_,0,_,.cons r _,e=>by simp at e;subst e;exact⟨_,rfl,r⟩
 | _,_,i+1,x,.cons _ t,e=>by
  obtain⟨u,h1,h2⟩:=Vals.get (i:=i) (x:=x) t (by simpa using e)
  exact⟨u,by simpa using h1,h2⟩
theorem Vals.set{x:V}{u:Value}(r:RelV x u):∀{xs:List V}{us:List Value} (i:Nat),Vals xs us->Vals (xs.set i x) (us.set i u)
 | _,_,_,.nil=>.nil
 | _,_,0,.cons _ t=>.cons r t
 | _,_,i+1,.cons q t=>.cons q (Vals.set r i t)
theorem Vals.append:∀{xs ys:List V}{us ws:List Value},Vals xs us->Vals ys ws->Vals (xs++ys) (us++ws)
 | _,_,_,_,.nil,s=>s
 | _,_,_,_,.cons r t,s=>.cons r (Vals.append t s)
theorem Vals.take:∀{xs:List V}{us:List Value} (n:Nat),Vals xs us->Vals (xs.take n) (us.take n)
 | _,_,0,_=>.nil
 | _,_,_+1,.nil=>.nil
 | _,_,n+1,.cons r t=>.cons r (Vals.take n t)
theorem Vals.drop:∀{xs:List V}{us:List Value} (n:Nat),Vals xs us->Vals (xs.drop n) (us.drop n)
 | _,_,0,r=>r
 | _,_,_+1,.nil=>.nil
 | _,_,n+1,.cons _ t=>Vals.drop n t
noncomputable def Q8:Option V->Option Value->Prop
 | some v,some u=>RelV v u
 | none,none=>True
 | _,_=>False
noncomputable def KV{κ:Type}:List (κ×V)->List (κ×Value)->Prop:=Paired fun(p:κ×V) (q:κ×Value)=>p.1=q.1/\RelV p.2 q.2
def kV:Key->V
 | .inl i=>.int i
 | .inr x=>.str x
inductive HO where
 /-- a list -/
 | lst (xs:List V)
 /-- a tuple (never changes) -/
 | tup (xs:List V)
 /-- a dict whose keys are ints and texts;one whose keys are tuples of ints and texts (the empty one is both) -/
 | dK (kvs:List (Key×V))|dT (kvs:List (List Key×V))
 /-- a set of ints: its members,its size -/
 | set (S:Int->Bool) (n:Nat)
 /-- an instance of the class at C,its dict at dx,its attributes -/
 | ins (C dx:Addr) (fs:List (Str×V))
 /-- the dict of the instance at x -/
 | own (x:Addr)
 /-- the dict of an exception -/
 | xd (fs:List (Str×V))
 /-- a bound method,f of x -/
 | met (f x:Addr)
 /-- a range object lo,lo+1,.. below hi -/
 | rng (lo hi:Int)
 /-- a thing that is known to the object (the script;a dict while a loop walks it): read,never written while it is so -/
 | frz (o:Obj) (u:HO)
 /-- a code object's table -/
 | tbl (ps:Array Value)
 /-- any other thing,by what is true of its one object (a def of one's own: SetO a S n:=HO.ext fun h=>..) -/
 | ext (φ:Heap->Prop)
abbrev Hp:=Addr->Option HO
noncomputable def upd(H:Hp)(a:Addr)(o:HO):Hp:=fun b=>if b=a then some o else H b
noncomputable def PlT(h:Heap)(a:Addr)(items:Array Value):Prop:=∃o,h.get? a=some o/\o.cls=.type "tuple"/\(∃n,o.data=.seq items n)/\o.dict=none
theorem PlT.tup{h:Heap}{a:Addr}{items:Array Value}(p:PlT h a items):IsTup h a items:=let ⟨o,e,c,d,_⟩:=p;⟨o,e,c,d⟩
theorem PlT.new(h:Heap)(items:Array Value):PlT (h.push { cls:=.type "tuple",data:=.seq items }) h.objs.size items:=⟨_,bK _ rfl,rfl,⟨_,rfl⟩,rfl⟩
theorem z03{H:Hp}{a:Addr}{o:HO}:upd H a o a=some o:=by unfold upd;rw[if_pos rfl]
theorem z0f{H:Hp}{a b:Addr}{o:HO}(h:b≠a):upd H a o b=H b:=by unfold upd;rw[if_neg h]
theorem z82{H:Hp}{a:Addr}{o u:HO}:upd (upd H a o) a u=upd H a u:=by
 funext b;unfold upd;split<;>rfl
theorem z6U{H:Hp}{a b:Addr}{o u:HO}(h:H a=some o)(h':H b=some u)(d:o≠u):a≠b:=by
 intro e;subst e;rw[h] at h';exact d (Option.some.inj h')
theorem z0r{H:Hp}{a b:Addr}{o:HO}(h:H a=some o)(h':H b=none):a≠b:=by
 intro e;subst e;rw[h] at h';cases h'
section
variable(P:Program)(w:World)
noncomputable def z1o(H:Hp)(h:Heap)(a:Addr):HO->Prop
 | .lst xs=>xs.length≤sizeLine/\∃(its:List Value) (n:Nat),Vals xs its/\h.get? a=some { cls:=.type "list",data:=.seq its.toArray n }
 | .tup xs=>xs.length≤sizeLine/\∃its:List Value,Vals xs its/\PlT h a its.toArray
 | .dK kvs=>kvs.length≤sizeLine/\(a == sysModules)=false/\∃vs,KV kvs vs/\h.DictOf (z1v P w) a vs
 | .dT kvs=>kvs.length≤sizeLine/\(a == sysModules)=false/\∃xs:List (List Key×Addr×Value),
   Paired (fun(p:List Key×V) (q:List Key×Addr×Value)=>p.1=q.1/\H q.2.1=some (.tup (p.1.map kV))/\RelV p.2 q.2.2) kvs xs/\
   ∃o es ep,h.get? a=some o/\o.ExactDict/\o.data=.dict es ep/\es.toList=xs.map (entryOfKey (tupleKind (z1v P w)))/\(xs.map (·.1)).Nodup
 | .set S n=>h.SetOf (intKind P w) a S n
 | .ins C dx fs=>H dx=some (.own a)/\fs.length≤1000/\dx≠a/\h.get? a=some (PySem.W.instObj C dx)/\
   ∃mA,h.Ns1 dx mA/\(∀f,Q8 (fs.lookup f) (mA f))/\PySem.Within mA (fs.map (·.1))
 | .own _=>∃o,h.get? a=some o
 | .xd fs=>∃mA,h.Ns1 a mA/\∀f,Q8 (fs.lookup f) (mA f)
 | .rng lo hi=>∃t u v,h.get? a=some { cls:=.type "range",data:=.fields #[.int lo t,.int hi u,.int 1 v] }
 | .frz o u=>h.get? a=some o/\z1o H h a u
 | .tbl ps=>h.get? a=some { cls:=.none,data:=.fields ps }
 | .met f x=>h.get? a=some (PySem.W.methodObj (.ref f) (.ref x))
 | .ext φ=>φ h/\(∃o,h.get? a=some o)/\∀h1 h2:Heap,φ h1->(∀o,h1.get? a=some o->h2.get? a=some o)->φ h2
noncomputable def HOk(H:Hp)(h:Heap):Prop:=∀a o,H a=some o->z1o P w H h a o
end
section
variable{P:Program}{w:World}{H H':Hp}{h h':Heap}{a:Addr}{o:HO}
theorem z1o.lt(x:z1o P w H h a o):a<h.objs.size:=by
 cases o with
 | lst xs=>obtain⟨_,_,_,_,e⟩:=x;exact bN e
 | tup xs=>obtain⟨_,_,_,o,e,_⟩:=x;exact bN e
 | dK kvs=>obtain⟨_,_,_,_,o,_,_,e,_⟩:=x;exact bN e
 | dT kvs=>obtain⟨_,_,_,_,o,_,_,e,_⟩:=x;exact bN e
 | set S n=>obtain⟨o,_,_,_,e,_⟩:=x;exact bN e
 | ins C dx fs=>obtain⟨_,_,_,e,_⟩:=x;exact bN e
 | own y=>obtain⟨_,e⟩:=x;exact bN e
 | xd fs=>obtain⟨_,⟨_,_,_,e,_⟩,_⟩:=x;exact bN e
 | rng lo hi=>obtain⟨_,_,_,e⟩:=x;exact bN e
 | frz ob u=>obtain⟨e,_⟩:=x;exact bN e
 | tbl ps=>exact bN (show h.get? a=some _ from x)
 | met f y=>exact bN (show h.get? a=some _ from x)
 | ext φ=>obtain⟨_,⟨_,e⟩,_⟩:=x;exact bN e
theorem Paired.X0{α β:Type}{F G:α->β->Prop}:∀{l₁:List α}{l₂:List β},Paired F l₁ l₂->(∀a b,F a b->G a b)->Paired G l₁ l₂
 | _,_,.nil,_=>.nil
 | _,_,.cons r t,f=>.cons (f _ _ r) (Paired.X0 t f)
theorem z1o.W0(x:z1o P w H h a o)(k:∀b u,(b=a\/H b=some (.own a))->h.get? b=some u->h'.get? b=some u)
  (ho:∀b,H b=some (.own a)->H' b=some (.own a)) (ht:∀b xs,H b=some (.tup xs)->H' b=some (.tup xs)):z1o P w H' h' a o:=by
 induction o with
 | lst xs=>obtain⟨z,its,n,r,e⟩:=x;exact⟨z,its,n,r,k _ _ (.inl rfl) e⟩
 | tup xs=>obtain⟨z,its,r,ob,e,c⟩:=x;exact⟨z,its,r,ob,k _ _ (.inl rfl) e,c⟩
 | dK kvs=>obtain⟨z,y,vs,r,ob,es,ep,e,c⟩:=x;exact⟨z,y,vs,r,ob,es,ep,k _ _ (.inl rfl) e,c⟩
 | dT kvs=>
  obtain⟨z,y,xs,r,ob,es,ep,e,c⟩:=x
  exact⟨z,y,xs,Paired.X0 r fun p q z=>⟨z.1,ht _ _ z.2.1,z.2.2⟩,ob,es,ep,k _ _ (.inl rfl) e,c⟩
 | set S n=>obtain⟨ob,es,ep,t,e,c⟩:=x;exact⟨ob,es,ep,t,k _ _ (.inl rfl) e,c⟩
 | ins C dx fs=>
  obtain⟨d,z,ne,e,mA,⟨od,es,ep,e2,c⟩,r⟩:=x
  exact⟨ho _ d,z,ne,k _ _ (.inl rfl) e,mA,⟨od,es,ep,k _ _ (.inr d) e2,c⟩,r⟩
 | own y=>obtain⟨ob,e⟩:=x;exact⟨ob,k _ _ (.inl rfl) e⟩
 | xd fs=>obtain⟨mA,⟨od,es,ep,e,c⟩,r⟩:=x;exact⟨mA,⟨od,es,ep,k _ _ (.inl rfl) e,c⟩,r⟩
 | rng lo hi=>obtain⟨t,u,v,e⟩:=x;exact⟨t,u,v,k _ _ (.inl rfl) e⟩
 | frz ob u ih=>obtain⟨e,q⟩:=x;exact⟨k _ _ (.inl rfl) e,ih q⟩
 | tbl ps=>
  have e:h.get? a=some { cls:=.none,data:=.fields ps }:=x
  show h'.get? a=some { cls:=.none,data:=.fields ps }
  exact k a _ (.inl rfl) e
 | met f y=>
  have e:h.get? a=some (PySem.W.methodObj (.ref f) (.ref y)):=x
  show h'.get? a=some (PySem.W.methodObj (.ref f) (.ref y))
  exact k a _ (.inl rfl) e
 | ext φ=>obtain⟨p,⟨o,e⟩,st⟩:=x;exact⟨st _ _ p fun o q=>k _ _ (.inl rfl) q,⟨o,k _ _ (.inl rfl) e⟩,st⟩
theorem HOk.lt(x:HOk P w H h)(e:H a=some o):a<h.objs.size:=(x a o e).lt
theorem HOk.fresh(x:HOk P w H h)(e:h.objs.size≤a):H a=none:=by
 cases q:H a with
 | none=>rfl
 | some u=>exact absurd (cN (x.lt q) e) (d6 _)
theorem HOk.kept(x:HOk P w H h)(k:∀b u,h.get? b=some u->h'.get? b=some u):HOk P w H h':=fun a o e=>
 (x a o e).W0 (fun b u _ q=>k b u q) (fun _ q=>q) fun _ _ q=>q
theorem HOk.laid(x:HOk P w H h)(k:∀b u,h.get? b=some u->h'.get? b=some u)(hp:h.objs.size≤a)(new:z1o P w (upd H a o) h' a o):HOk P w (upd H a o) h':=fun b u e=>by
 have hn:=x.fresh hp
 by_cases hb:b=a
 ·subst hb;rw[z03] at e;cases e;exact new
 ·rw[z0f hb] at e
  exact(x b u e).W0 (fun c v _ q=>k c v q) (fun c q=>by rw[z0f (z0r q hn)];exact q) fun c xs q=>by rw[z0f (z0r q hn)];exact q
end
noncomputable def Rd(H:Hp)(a:Addr)(u:HO):Prop:=H a=some u\/∃o,H a=some (.frz o u)
theorem Rd.ok{P:Program}{w:World}{H:Hp}{h:Heap}{a:Addr}{u:HO}(r:Rd H a u)(x:HOk P w H h):z1o P w H h a u:=by
 rcases r with r|⟨o,r⟩
 ·exact x a u r
 ·obtain⟨_,q⟩:=x a _ r
  exact q
noncomputable def Mut:Option HO->Prop
 | some (.lst _)=>True
 | some (.dK _)=>True
 | some (.dT _)=>True
 | some (.set _ _)=>True
 | some (.ins _ _ _)=>True
 | some (.ext _)=>True
 | _=>False
section
variable{P:Program}{w:World}{H:Hp}{h h':Heap}{x e:Addr}{o':HO}
theorem HOk.write(ok:HOk P w H h)(mu:Mut (H x))(he:e=x\/H e=some (.own x))(k:∀b u,b≠e->h.get? b=some u->h'.get? b=some u)(heo:∃u,h'.get? e=some u)
  (new:z1o P w (upd H x o') h' x o'):HOk P w (upd H x o') h':=fun b u q=>by
 have nown:∀c y,H c=some (.own y)->c≠x:=fun c y r z=>by subst z;rw[r] at mu;exact mu
 have ntup:∀c xs,H c=some (.tup xs)->c≠x:=fun c xs r z=>by subst z;rw[r] at mu;exact mu
 by_cases hb:b=x
 ·subst hb;rw[z03] at q;cases q;exact new
 ·rw[z0f hb] at q
  by_cases hbe:b=e
  ·have q':H b=some (.own x):=by
    rcases he with z|z
    ·exact absurd (hbe.trans z) hb
    ·rw[hbe];exact z
   rw[q] at q';cases q'
   obtain⟨v,hv⟩:=heo
   exact⟨v,by rw[hbe];exact hv⟩
  ·refine(ok b u q).W0 (fun c v hc r=>k c v ?_ r) (fun c r=>by rw[z0f (nown c b r)];exact r) fun c xs r=>by rw[z0f (ntup c xs r)];exact r
   rcases hc with rfl|hc
   ·exact hbe
   ·rintro rfl
    rcases he with z|z
    ·exact nown c b hc z
    ·rw[hc] at z;cases z;exact hb rfl
end
structure Un(fs ex:List Addr)(H H':Hp)(h h':Heap):Prop where
 keep:∀b o,h.get? b=some o->H b=none->b∉fs->b∉ex->h'.get? b=some o
 slot:∀b o,h.get? b=some o->H b=none->b∈fs->b∉ex->∃sl,h'.get? b=some { o with slots:=sl }
 free:∀b o,h.get? b=some o->H b=none->b∉ex->H' b=none
 there:∀b o,h.get? b=some o->b∉ex->∃o',h'.get? b=some o'
 R3:∀b xs,H b=some (.tup xs)->H' b=some (.tup xs)
 Q7:∀b o u,H b=some (.frz o u)->H' b=some (.frz o u)
 R9:∀b ps,H b=some (.tbl ps)->∃more,H' b=some (.tbl (ps++more))
section
variable{fs fs' ex ex':List Addr}{H H1 H2:Hp}{h h1 h2 h':Heap}{a x e:Addr}{o:HO}
theorem Un.any(u:Un fs ex H H1 h h1){b:Addr}{ob:Obj}(q:h.get? b=some ob)(n:H b=none)(hx:b∉ex):∃sl,h1.get? b=some { ob with slots:=sl }:=by
 by_cases hb:b∈fs
 ·exact u.slot b ob q n hb hx
 ·exact⟨ob.slots,u.keep b ob q n hb hx⟩
theorem Un.kept(k:∀b u,h.get? b=some u->h'.get? b=some u):Un fs ex H H h h':=
 ⟨fun b ob q _ _ _=>k b ob q,fun b ob q _ _ _=>⟨ob.slots,k b ob q⟩,fun _ _ _ n _=>n,fun b ob q _=>⟨ob,k b ob q⟩,fun _ _ q=>q,fun _ _ _ q=>q,fun _ ps q=>⟨#[],by rw[q];simp⟩⟩
theorem Un.refl:Un fs ex H H h h:=Un.kept fun _ _ q=>q
theorem Un.laid(k:∀b u,h.get? b=some u->h'.get? b=some u)(hp:h.objs.size≤a)(hn:H a=none):Un fs ex H (upd H a o) h h' where
 keep:=fun b u q _ _ _=>k b u q
 slot:=fun b u q _ _ _=>⟨u.slots,k b u q⟩
 free:=fun b u q n _=>by rw[z0f (cC (cN (bN q) hp))];exact n
 there:=fun b u q _=>⟨u,k b u q⟩
 R3:=fun b xs q=>by rw[z0f (z0r q hn)];exact q
 Q7:=fun b u xs q=>by rw[z0f (z0r q hn)];exact q
 R9:=fun b ps q=>⟨#[],by rw[z0f (z0r q hn),q];simp⟩
theorem Un.write(mu:Mut (H x))(he:e=x\/H e=some (.own x))(k:∀b u,b≠e->h.get? b=some u->h'.get? b=some u)(heo:∃u,h'.get? e=some u):Un fs ex H (upd H x o) h h':=by
 have hx:∀b,H b=none->b≠x:=fun b n z=>by subst z;rw[n] at mu;exact mu
 have hb:∀b,H b=none->b≠e:=fun b n z=>by
  subst z
  rcases he with r|r
  ·exact hx b n r
  ·rw[n] at r;cases r
 have hm:∀b u,H b=some u->¬Mut (some u)->b≠x:=fun b u q nm z=>by subst z;rw[q] at mu;exact nm mu
 refine⟨fun b u q n _ _=>k b u (hb b n) q,fun b u q n _ _=>⟨u.slots,k b u (hb b n) q⟩,fun b u q n _=>by rw[z0f (hx b n)];exact n,fun b u q _=>?_,
  fun b xs q=>by rw[z0f (hm b _ q fun z=>z)];exact q,fun b u xs q=>by rw[z0f (hm b _ q fun z=>z)];exact q,fun b ps q=>⟨#[],by rw[z0f (hm b _ q fun z=>z),q];simp⟩⟩
 by_cases hbe:b=e
 ·subst hbe;exact heo
 ·exact⟨u,k b u hbe q⟩
end
noncomputable def trk(h:Heap)(H:Hp):List Addr:=(List.range h.objs.size).filter fun a=>(H a).isSome
noncomputable def V3(h:Heap)(H:Hp):Heap:=PySem.W.hideAll h (trk h H)
theorem y3K(h:Heap)(H:Hp):(V3 h H).objs.size=h.objs.size:=PySem.W.hideAll_size _ _
theorem y4U{h:Heap}{H:Hp}{b:Addr}{o:Obj}(e:h.get? b=some o)(n:H b=none):(V3 h H).get? b=some o:=
 PySem.W.hideAll_get _ e fun hm=>by
  have q:(H b).isSome=true:=(cM.mp hm).2
  rw[n] at q;simp at q
theorem y6R{h:Heap}{H:Hp}{b:Addr}{o:Obj}(e:(V3 h H).get? b=some o):h.get? b=some o/\H b=none:=by
 have e':h.get? b=some o:=PySem.W.of_hideAll (trk h H) e
 refine⟨e',?_⟩
 cases q:H b with
 | none=>rfl
 | some x=>
  have hm:b∈trk h H:=cM.mpr ⟨fX.mpr (bN e'),by simp[q]⟩
  have z:(V3 h H).get? b=none:=PySem.W.hideAll_none (trk h H) hm
  rw[z] at e;cases e
noncomputable def y63(g h:Heap)(L:Addr):List (Addr×Obj):=(List.range h.objs.size).filterMap fun a=>if a=L\/(g.get? a).isSome=true then none else (h.get? a).map fun o=>(a,o)
noncomputable def rest(g h:Heap)(L d:Addr):List (Addr×Obj):=(y63 g h L).filter fun p=>decide (p.1≠d)
structure Mod(K:PySem.W.Frag)(mg:Str->Option Value)(base:Heap):Prop where
 kin:K.In base
 glob:base.Ns mainGlobals mg
 blt:∃mb,base.Ns builtinsNs mb/\∀x:Str,x≠"__name__"->mb x=bootBuiltins x
 nolimit:base.NoLimit
structure Cx where
 prog:Program
 w:World
 K:PySem.W.Frag
 mg:Str->Option Value
 base:Heap
 A:Around
 N:List Str
 s₀:Shared
 H₀:Hp
 env:Env
 outer:List Env
 stack:List Env
 ex:List Addr
 fn:Str->Bool
 calm:Bool
 pn:List (Addr×Obj)
 xe:Value->Shared->Prop
def frs(l:List Env):List Addr:=l.filterMap (·.frame)
abbrev Cx.fs(X:Cx):List Addr:=frs X.outer
noncomputable def Vis(sc:Scope)(x:Str):Prop:=sc.names.lookup x=some .local\/sc.names.lookup x=some .cell\/sc.names.lookup x=some .free
noncomputable def Loc(sc:Scope)(x:Str):Prop:=sc.names.lookup x=some .local\/sc.names.lookup x=some .cell
noncomputable def Look(env:Env)(h:Heap)(m:Str->Option Value)(x:Str)(u:Value):Prop:=
 (env.kindOf x=some .local/\m x=some u)\/((env.kindOf x=some .cell\/env.kindOf x=some .free)/\∃c,env.cells.lookup x=some c/\h.IsCell c (some u))
structure Cx.Ok(X:Cx):Prop where
 mod:Mod X.K X.mg X.base
 kind:X.env.scope.kind=.function
 glob:X.env.globals=mainGlobals
 blt:X.env.builtins=builtinsNs
 above:X.s₀.heap.objs.size≤X.env.locals
 inj:∀x y c,X.env.cells.lookup x=some c->X.env.cells.lookup y=some c->x=y
 has:∀x,(X.env.kindOf x=some .cell\/X.env.kindOf x=some .free)->∃c,X.env.cells.lookup x=some c
 cab:∀x c,X.fn x=true->X.env.cells.lookup x=some c->X.s₀.heap.objs.size≤c
 hd:X.calm=true->X.A.handled=none
 frames:X.A.frames=some X.stack
 stk:X.stack=X.outer\/(X.stack=X.env::X.outer/\X.env.frame=some X.env.locals)
 exf:∀b∈X.ex,b≠X.env.locals/\∀x c,X.env.cells.lookup x=some c->c≠b
 bs:∀b o,X.base.get? b=some o->X.s₀.heap.get? b=some o/\X.H₀ b=none
 bsz:X.base.objs.size≤X.s₀.heap.objs.size
 noex:∀b o,X.base.get? b=some o->b∉X.ex
 exfs:∀b∈X.ex,b∉X.fs
 S6:X.s₀.heap.FunFrames X.base X.outer
 frf:∀b∈X.fs,X.H₀ b=none
structure Inv(X:Cx)(pins:List (Addr×Obj))(σ:List (Option V))(H:Hp)(s:Shared):Prop where
 ok:X.Ok
 os:s.os=X.s₀.os
 bare:AllBare s.gens
 base:Un X.fs X.ex X.H₀ H X.s₀.heap s.heap
 loc:∃m,s.heap.Ns X.env.locals m/\∀(i:Nat) (x:Str) (v:V),X.N[i]? = some x->σ[i]? = some (some v)->Vis X.env.scope x->∃u,RelV v u/\Look X.env s.heap m x u
 cell:∀x c,X.env.cells.lookup x=some c->∃v,s.heap.IsCell c v
 free:H X.env.locals=none
 freeC:∀x c,X.env.cells.lookup x=some c->H c=none
 pin:∀p∈X.pn++pins,s.heap.get? p.1=some p.2/\H p.1=none/\p.1≠X.env.locals/\p.1∉X.fs/\∀v,p.2.data≠.cell v
 hok:HOk X.prog X.w H s.heap
 len:σ.length=X.N.length
section
variable{X:Cx}{pins:List (Addr×Obj)}{σ:List (Option V)}{H H':Hp}{s:Shared}{h':Heap}
theorem Cx.Ok.nofr(ok:X.Ok){b:Addr}{o:Obj}(e:X.base.get? b=some o):b∉X.fs:=fun hb=>by
 have:=(ok.S6.mem hb).1
 rw[e] at this;cases this
theorem Inv.bs(I:Inv X pins σ H s):∀b o,X.base.get? b=some o->s.heap.get? b=some o/\H b=none:=fun b o e=>
 ⟨I.base.keep b o (I.ok.bs b o e).1 (I.ok.bs b o e).2 (I.ok.nofr e) (I.ok.noex b o e),I.base.free b o (I.ok.bs b o e).1 (I.ok.bs b o e).2 (I.ok.noex b o e)⟩
theorem Inv.bk(I:Inv X pins σ H s):∀b o,X.base.get? b=some o->s.heap.get? b=some o:=fun b o e=>(I.bs b o e).1
theorem Inv.mod(I:Inv X pins σ H s):Mod X.K X.mg X.base:=I.ok.mod
theorem Inv.kIn(I:Inv X pins σ H s):X.K.In s.heap:=I.ok.mod.kin.keeps I.bk
theorem Inv.fr(I:Inv X pins σ H s):∃m,Fr X.base X.env.locals s.heap m:=
 let ⟨m,hn,_⟩:=I.loc
 ⟨m,hn,I.bk,c9 I.ok.bsz I.ok.above⟩
theorem Inv.lt(I:Inv X pins σ H s):X.env.locals<s.heap.objs.size:=let ⟨_,hn,_⟩:=I.loc;hn.lt
theorem Inv.sz(I:Inv X pins σ H s):X.s₀.heap.objs.size≤s.heap.objs.size:=c9 I.ok.above (fG I.lt)
theorem Inv.nofs(I:Inv X pins σ H s){a:Addr}(h:s.heap.objs.size≤a):a∉X.fs:=fun hb=>by
 obtain⟨_,o,ho,_⟩:=I.ok.S6.mem hb
 exact absurd (cN (bN ho) (c9 I.sz h)) (d6 _)
theorem Inv.cne(I:Inv X pins σ H s):∀x c,X.env.cells.lookup x=some c->c≠X.env.locals:=fun x c e z=>by
 obtain⟨v,o,ho,hd⟩:=I.cell x c e
 obtain⟨m,⟨o',es,ep,ho',hd',_⟩,_⟩:=I.loc
 rw[z,ho'] at ho;cases ho;rw[hd'] at hd;cases hd
theorem Inv.S6(I:Inv X pins σ H s):s.heap.FunFrames X.base X.outer:=by
 have all:∀(l:List Env),(∀b∈frs l,b∈X.fs)->X.s₀.heap.FunFrames X.base l->s.heap.FunFrames X.base l:=by
  intro l
  induction l with
  | nil=>intro _ _;trivial
  | cons env r ih=>
   intro hs hl
   obtain⟨hk,⟨L,o,hf,hn,ho,hd⟩,hr⟩:=hl
   have hL:L∈X.fs:=hs L (by unfold frs;rw[eJ,hf];exact bX)
   obtain⟨sl,e⟩:=I.base.slot L o ho (I.ok.frf L hL) hL fun z=>I.ok.exfs L z hL
   exact⟨hk,⟨L,_,hf,hn,e,hd⟩,ih (fun b hb=>hs b (by unfold frs;rw[eJ,hf];exact bP _ hb)) hr⟩
 exact all X.outer (fun _ hb=>hb) I.ok.S6
theorem Inv.stack(I:Inv X pins σ H s):s.heap.FunFrames X.base X.stack:=by
 rcases I.ok.stk with e|⟨e,hf⟩
 ·rw[e];exact I.S6
 ·rw[e]
  obtain⟨m,hn,_⟩:=I.loc
  refine .cons (by rw[I.ok.kind];decide) hf hn ?_ I.S6
  exact Heap.get?_none_of_le (c9 I.ok.bsz I.ok.above)
theorem Inv.S1(I:Inv X pins σ H s):∀b∈frs X.stack,b∈X.env.locals::X.fs:=fun b hb=>by
 rcases I.ok.stk with e|⟨e,hf⟩
 ·rw[e] at hb;exact bP _ hb
 ·rw[e] at hb
  unfold frs at hb
  rw[eJ,hf] at hb
  exact hb
theorem Inv.P0(I:Inv X pins σ H s):∀b∈frs X.stack,H b=none:=fun b hb=>by
 rcases bC.mp (I.S1 b hb) with e|hb
 ·rw[e];exact I.free
 ·obtain⟨_,o,ho,_⟩:=I.ok.S6.mem hb
  exact I.base.free b o ho (I.ok.frf b hb) fun z=>I.ok.exfs b z hb
theorem Inv.step{g':Array GenState}{t':Nat}{d':Drawn}{ch:List Addr}(I:Inv X pins σ H s)
  (hch:∀b∈ch,(b∈X.ex\/X.s₀.heap.objs.size≤b)/\b≠X.env.locals/\(∀x c,X.env.cells.lookup x=some c->c≠b)/\∀p∈X.pn++pins,p.1≠b)
  (keep:∀b o,b≠X.env.locals->b∉X.fs->b∉ch->s.heap.get? b=some o->H b=none->h'.get? b=some o)
  (slot:∀b o,b≠X.env.locals->b∈X.fs->b∉ch->s.heap.get? b=some o->H b=none->∃sl,h'.get? b=some { o with slots:=sl }) (free:∀b o,b∉ch->s.heap.get? b=some o->H b=none->H' b=none)
  (there:∀b o,b∉ch->s.heap.get? b=some o->∃o',h'.get? b=some o')
  (R3:∀b xs,H b=some (.tup xs)->H' b=some (.tup xs)) (Q7:∀b o u,H b=some (.frz o u)->H' b=some (.frz o u)) (R9:∀b ps,H b=some (.tbl ps)->∃more,H' b=some (.tbl (ps++more)))
  (ns:∀m,s.heap.Ns X.env.locals m->h'.Ns X.env.locals m) (hok:HOk X.prog X.w H' h') (hg:AllBare g') :
  Inv X pins σ H' { s with heap:=h',gens:=g',drawn:=d',toks:=t' }:=by
 have neL:∀b o,X.s₀.heap.get? b=some o->b≠X.env.locals:=fun b o e=>cC (cN (bN e) I.ok.above)
 have neC:∀b o,X.s₀.heap.get? b=some o->b∉X.ex->b∉ch:=fun b o e hx hb=>by
  rcases(hch b hb).1 with z|z
  ·exact hx z
  ·exact absurd (cN (bN e) z) (d6 _)
 have cellK:∀x c,X.env.cells.lookup x=some c->∀v,s.heap.IsCell c v->h'.IsCell c v:=fun x c e v ⟨o,ho,hd⟩=>by
  have nch:c∉ch:=fun z=>(hch c z).2.2.1 x c e rfl
  by_cases hc:c∈X.fs
  ·obtain⟨sl,q⟩:=slot c o (I.cne x c e) hc nch ho (I.freeC x c e)
   exact⟨_,q,hd⟩
  ·exact⟨o,keep c o (I.cne x c e) hc nch ho (I.freeC x c e),hd⟩
 refine⟨I.ok,I.os,hg,⟨fun b o e n hb hx=>?_,fun b o e n hb hx=>?_,fun b o e n hx=>?_,fun b o e hx=>?_,fun b xs e=>R3 b xs (I.base.R3 b xs e),fun b o xs e=>Q7 b o xs (I.base.Q7 b o xs e),fun b ps e=>?_⟩,?_,fun x c e=>?_,?_,fun x c e=>?_,fun p hp=>?_,hok,I.len⟩
 ·exact keep b o (neL b o e) hb (neC b o e hx) (I.base.keep b o e n hb hx) (I.base.free b o e n hx)
 ·obtain⟨sl,e1⟩:=I.base.slot b o e n hb hx
  obtain⟨sl',e2⟩:=slot b _ (neL b o e) hb (neC b o e hx) e1 (I.base.free b o e n hx)
  exact⟨sl',e2⟩
 ·obtain⟨o',e1⟩:=I.base.there b o e hx
  exact free b o' (neC b o e hx) e1 (I.base.free b o e n hx)
 ·obtain⟨o',e1⟩:=I.base.there b o e hx
  exact there b o' (neC b o e hx) e1
 ·obtain⟨m1,e1⟩:=I.base.R9 b ps e
  obtain⟨m2,e2⟩:=R9 b _ e1
  exact⟨m1++m2,by rw[e2,Array.append_assoc]⟩
 ·obtain⟨m,hn,hl⟩:=I.loc
  refine⟨m,ns m hn,fun i x v e1 e2 e3=>?_⟩
  obtain⟨u,r,l⟩:=hl i x v e1 e2 e3
  refine⟨u,r,?_⟩
  rcases l with l|⟨k,c,e,z⟩
  ·exact .inl l
  ·exact .inr ⟨k,c,e,cellK x c e _ z⟩
 ·obtain⟨v,z⟩:=I.cell x c e
  exact⟨v,cellK x c e v z⟩
 ·obtain⟨m,⟨o,_,_,ho,_⟩,_⟩:=I.loc
  exact free _ o (fun z=>(hch _ z).2.1 rfl) ho I.free
 ·obtain⟨v,o,ho,hd⟩:=I.cell x c e
  exact free c o (fun z=>(hch c z).2.2.1 x c e rfl) ho (I.freeC x c e)
 ·obtain⟨e,n,ne,nf,d⟩:=I.pin p hp
  have nch:p.1∉ch:=fun z=>(hch p.1 z).2.2.2 p hp rfl
  exact⟨keep p.1 p.2 ne nf nch e n,free p.1 p.2 nch e n,ne,nf,d⟩
theorem Inv.un{t':Nat}(I:Inv X pins σ H s)(u:Un X.fs [] H H' s.heap h')(hok:HOk X.prog X.w H' h'):Inv X pins σ H' { s with heap:=h',toks:=t' }:=by
 obtain⟨m,⟨o,es,ep,ho,r⟩,_⟩:=id I.loc
 obtain⟨sl,hL⟩:=u.any ho I.free (by simp)
 exact I.step (g':=s.gens) (d':=s.drawn) (ch:=[]) (fun _ z=>nomatch z) (fun b o _ hb _ e n=>u.keep b o e n hb (by simp)) (fun b o _ hb _ e n=>u.slot b o e n hb (by simp)) (fun b o _ e n=>u.free b o e n (by simp)) (fun b o _ e=>u.there b o e (by simp)) u.R3 u.Q7 u.R9 (fun m' hm=>by
  obtain⟨o',es',ep',ho',r'⟩:=hm
  rw[ho] at ho';cases ho'
  exact⟨_,es',ep',hL,r'⟩) hok I.bare
theorem Inv.call{g':Array GenState}{t':Nat}{d':Drawn}{ch:List Addr}(I:Inv X pins σ H s)(u:Un (frs X.stack) ch H H' s.heap h')(hok:HOk X.prog X.w H' h')(hg:AllBare g')
  (hch:∀b∈ch,(b∈X.ex\/X.s₀.heap.objs.size≤b)/\b≠X.env.locals/\(∀x c,X.env.cells.lookup x=some c->c≠b)/\∀p∈X.pn++pins,p.1≠b) :
  Inv X pins σ H' { s with heap:=h',gens:=g',drawn:=d',toks:=t' }:=by
 obtain⟨m,⟨o,es,ep,ho,r⟩,_⟩:=id I.loc
 obtain⟨sl,hL⟩:=u.any ho I.free fun z=>(hch _ z).2.1 rfl
 exact I.step (ch:=ch) hch (fun b o hL hb hc e n=>u.keep b o e n (fun z=>(bC.mp (I.S1 b z)).elim hL hb) hc) (fun b o _ _ hc e n=>u.any e n hc) (fun b o hc e n=>u.free b o e n hc) (fun b o hc e=>u.there b o e hc) u.R3 u.Q7 u.R9 (fun m' hm=>by
  obtain⟨o',es',ep',ho',r'⟩:=hm
  rw[ho] at ho';cases ho'
  exact⟨_,es',ep',hL,r'⟩) hok hg
theorem Inv.turned{t':Nat}{it:Addr}(I:Inv X pins σ H s)(k:∀b o,b≠it->s.heap.get? b=some o->h'.get? b=some o)(hn:H it=none)(hL:it≠X.env.locals)
  (h1:it∈X.ex\/X.s₀.heap.objs.size≤it) (h2:∀x c,X.env.cells.lookup x=some c->c≠it) (h3:∀p∈X.pn++pins,p.1≠it):Inv X pins σ H { s with heap:=h',toks:=t' }:=by
 have nit:∀b u,H b=some u->b≠it:=fun b u e z=>by rw[z,hn] at e;cases e
 refine I.step (g':=s.gens) (d':=s.drawn) (ch:=[it]) (fun b hb=>?_) (fun b o _ _ hc e _=>k b o (fun z=>hc (by simp[z])) e) (fun b o _ _ hc e _=>⟨o.slots,k b o (fun z=>hc (by simp[z])) e⟩) (fun _ _ _ _ n=>n)
  (fun b o hc e=>⟨o,k b o (fun z=>hc (by simp[z])) e⟩) (fun _ _ e=>e) (fun _ _ _ e=>e) (fun b ps e=>⟨#[],by rw[e];simp⟩) (fun m hm=>?_) (fun b u e=>?_) I.bare
 ·have e:b=it:=by simpa using hb
  subst e
  exact⟨h1,hL,h2,h3⟩
 ·obtain⟨o,es,ep,ho,r⟩:=hm
  exact⟨o,es,ep,k _ o (cU hL) ho,r⟩
 ·refine(I.hok b u e).W0 (fun c v hc q=>k c v ?_ q) (fun _ q=>q) fun _ _ q=>q
  rcases hc with z|z
  ·rw[z];exact nit b u e
  ·exact nit c _ z
theorem Inv.tok(I:Inv X pins σ H s)(t:Nat):Inv X pins σ H { s with toks:=t }:=I.un (h':=s.heap) (t':=t) Un.refl I.hok
theorem Inv.kept{t':Nat}(I:Inv X pins σ H s)(k:∀b u,s.heap.get? b=some u->h'.get? b=some u):Inv X pins σ H { s with heap:=h',toks:=t' }:=I.un (Un.kept k) (I.hok.kept k)
theorem Inv.laid{a:Addr}{o:HO}{t':Nat}(I:Inv X pins σ H s)(k:∀b u,s.heap.get? b=some u->h'.get? b=some u)(hp:s.heap.objs.size≤a)(new:z1o X.prog X.w (upd H a o) h' a o) :
  Inv X pins σ (upd H a o) { s with heap:=h',toks:=t' }:=I.un (Un.laid k hp (I.hok.fresh hp)) (I.hok.laid k hp new)
theorem Inv.write{x e:Addr}{o:HO}{t':Nat}(I:Inv X pins σ H s)(mu:Mut (H x))(he:e=x\/H e=some (.own x))(k:∀b u,b≠e->s.heap.get? b=some u->h'.get? b=some u)(heo:∃u,h'.get? e=some u)
  (new:z1o X.prog X.w (upd H x o) h' x o):Inv X pins σ (upd H x o) { s with heap:=h',toks:=t' }:=I.un (Un.write mu he k heo) (I.hok.write mu he k heo new)
theorem Inv.weak{σ':List (Option V)}(I:Inv X pins σ H s)(hl:σ'.length=σ.length)(w:∀(i:Nat) v,σ'[i]? = some (some v)->σ[i]? = some (some v)):Inv X pins σ' H s:=
 ⟨I.ok,I.os,I.bare,I.base,let ⟨m,hn,hl'⟩:=I.loc;⟨m,hn,fun i x v e1 e2 e3=>hl' i x v e1 (w i v e2) e3⟩,I.cell,I.free,I.freeC,I.pin,I.hok,hl.trans I.len⟩
theorem Inv.S5{pins':List (Addr×Obj)}(I:Inv X pins σ H s)(h:∀p∈pins',s.heap.get? p.1=some p.2/\H p.1=none/\p.1≠X.env.locals/\p.1∉X.fs/\∀v,p.2.data≠.cell v):Inv X pins' σ H s:=
 ⟨I.ok,I.os,I.bare,I.base,I.loc,I.cell,I.free,I.freeC,fun p hp=>(cB.mp hp).elim (fun z=>I.pin p (dP _ z)) (h p),I.hok,I.len⟩
theorem z9B{N:List Str}(hN:N.Nodup){i j:Nat}{x:Str}(a:N[i]? = some x)(b:N[j]? = some x):i=j:=by
 obtain⟨h1,e1⟩:=cO.mp a
 obtain⟨h2,e2⟩:=cO.mp b
 exact(List.getElem_inj hN).mp (e1.trans e2.symm)
theorem y2U{M:Model}{A:Around}{E:Value->Shared->Prop}{i:Nat}{x:Str}{v:V}{u:Value}{Q:Unit->Shared->Prop}(I:Inv X pins σ H s)(hN:X.N.Nodup)(hi:X.N[i]? = some x)(hx:Loc X.env.scope x)(r:RelV v u)
  (h:∀s',Inv X pins (σ.set i (some v)) H s'->(∃a,Heap.SameBut a s.heap s'.heap/\(a=X.env.locals\/X.env.cells.lookup x=some a))->Q () s') (hf:X.fn x=true\/X.env.scope.names.lookup x=some .local:=by first|exact .inl rfl|exact .inr rfl|assumption):wpAny M A (storeName X.env x u) Q E s:=by
 obtain⟨m,hn,hl⟩:=id I.loc
 have X9:(X.env.scope.kind == .class || (X.env.scope.kind == .module && X.env.locals != X.env.globals))=false:=by rw[I.ok.kind];rfl
 have hiσ:i<σ.length:=by rw[I.len];exact(cO.mp hi).1
 have cne:=I.cne
 have tracked:∀{a:Addr}{h':Heap},(∃o,s.heap.get? a=some o/\H a=none)->Heap.SameBut a s.heap h'->HOk X.prog X.w H h':=fun {a h'} ha hs b ob e=>by
  obtain⟨_,_,hfree⟩:=ha
  refine(I.hok b ob e).W0 (fun c w' hc q=>(hs.2 c ?_).trans q) (fun _ q=>q) fun _ _ q=>q
  rintro rfl
  rcases hc with rfl|hc
  ·rw[hfree] at e;cases e
  ·rw[hfree] at hc;cases hc
 rcases hx with hk|hk
 ·refine wpAny_storeName_local hk hn (fun h' hn' hs=>?_) X9
  obtain⟨oL,_,_,hoL,_⟩:=id hn
  refine h _ ⟨I.ok,I.os,I.bare,⟨fun b o e n hb hx=>?_,fun b o e n hb hx=>?_,I.base.free,fun b o e hx=>?_,I.base.R3,I.base.Q7,I.base.R9⟩,⟨_,hn',fun j y v' e1 e2 e3=>?_⟩,fun y c e=>?_,I.free,I.freeC,fun p hp=>?_,tracked ⟨oL,hoL,I.free⟩ hs,by simpa using I.len⟩ ⟨_,hs,.inl rfl⟩
  ·exact(hs.2 b (cC (cN (bN e) I.ok.above))).trans (I.base.keep b o e n hb hx)
  ·obtain⟨sl,e1⟩:=I.base.slot b o e n hb hx
   exact⟨sl,(hs.2 b (cC (cN (bN e) I.ok.above))).trans e1⟩
  ·obtain⟨o',e1⟩:=I.base.there b o e hx
   exact⟨o',(hs.2 b (cC (cN (bN e) I.ok.above))).trans e1⟩
  ·by_cases hj:j=i
   ·subst hj
    rw[hi] at e1;cases e1
    rw[gF hiσ] at e2
    cases e2
    exact⟨u,r,.inl ⟨hk,by simp⟩⟩
   ·rw[fK (cU hj)] at e2
    obtain⟨u',r',q⟩:=hl j y v' e1 e2 e3
    refine⟨u',r',?_⟩
    rcases q with ⟨k,e⟩|⟨k,c,e,z⟩
    ·refine .inl ⟨k,?_⟩
     have:y≠x:=fun e=>hj (z9B hN e1 (e ▸ hi))
     simp[this,e]
    ·exact .inr ⟨k,c,e,z.sameBut hs (cne y c e)⟩
  ·obtain⟨w',z⟩:=I.cell y c e
   exact⟨w',z.sameBut hs (cne y c e)⟩
  ·obtain⟨e,n,ne,nf,d⟩:=I.pin p hp
   exact⟨(hs.2 p.1 ne).trans e,n,ne,nf,d⟩
 ·have hfn:X.fn x=true:=by
   rcases hf with z|z
   ·exact z
   ·rw[z] at hk;cases hk
  obtain⟨c,hc⟩:=I.ok.has x (.inl hk)
  obtain⟨w',z⟩:=I.cell x c hc
  refine wpAny_storeName_cell I.ok.kind hk hc z (fun h' hc' hs=>?_)
  obtain⟨oc,hoc,hocd⟩:=id z
  refine h { s with heap:=h' } ⟨I.ok,I.os,I.bare,⟨fun b o e n hb hx=>?_,fun b o e n hb hx=>?_,I.base.free,fun b o e hx=>?_,I.base.R3,I.base.Q7,I.base.R9⟩,⟨m,hn.sameBut hs (cU (cne x c hc)),fun j y v' e1 e2 e3=>?_⟩,fun y c' e=>?_,I.free,I.freeC,fun p hp=>?_,tracked ⟨oc,hoc,I.freeC x c hc⟩ hs,by simpa using I.len⟩ ⟨c,hs,.inr hc⟩
  ·exact(hs.2 b (cC (cN (bN e) (I.ok.cab x c hfn hc)))).trans (I.base.keep b o e n hb hx)
  ·obtain⟨sl,e1⟩:=I.base.slot b o e n hb hx
   exact⟨sl,(hs.2 b (cC (cN (bN e) (I.ok.cab x c hfn hc)))).trans e1⟩
  ·obtain⟨o',e1⟩:=I.base.there b o e hx
   exact⟨o',(hs.2 b (cC (cN (bN e) (I.ok.cab x c hfn hc)))).trans e1⟩
  ·by_cases hj:j=i
   ·subst hj
    rw[hi] at e1;cases e1
    rw[gF hiσ] at e2
    cases e2
    exact⟨u,r,.inr ⟨.inl hk,c,hc,hc'⟩⟩
   ·rw[fK (cU hj)] at e2
    obtain⟨u',r',q⟩:=hl j y v' e1 e2 e3
    refine⟨u',r',?_⟩
    rcases q with q|⟨k,c',e,z'⟩
    ·exact .inl q
    ·refine .inr ⟨k,c',e,z'.sameBut hs ?_⟩
     rintro rfl
     exact hj (z9B hN e1 (I.ok.inj _ _ _ e hc ▸ hi))
  ·by_cases hcc:c'=c
   ·subst hcc;exact⟨_,hc'⟩
   ·obtain⟨w2,z2⟩:=I.cell y c' e
    exact⟨w2,z2.sameBut hs hcc⟩
  ·obtain⟨e,n,ne,nf,d⟩:=I.pin p hp
   refine⟨(hs.2 p.1 ?_).trans e,n,ne,nf,d⟩
   intro q
   rw[q,hoc] at e
   have q':oc=p.2:=Option.some.inj e
   exact d w' (by rw[<- q'];exact hocd)
theorem z94{M:Model}{A:Around}{E:Value->Shared->Prop}{i:Nat}{x:Str}{v:V}{u:Value}{Q:Unit->Shared->Prop}(I:Inv X pins σ H s)(hN:X.N.Nodup)(hi:X.N[i]? = some x)(hx:Loc X.env.scope x)(r:RelV v u)
  (h:∀s',Inv X pins (σ.set i (some v)) H s'->Q () s') (hf:X.fn x=true\/X.env.scope.names.lookup x=some .local:=by first|exact .inl rfl|exact .inr rfl|assumption):wpAny M A (storeName X.env x u) Q E s:=
 y2U I hN hi hx r (fun s' I' _=>h s' I') hf
theorem Inv.w02{s':Shared}{ch:List Addr}(I:Inv X pins σ H s)(ho:s'.os=s.os)(u:Un (frs X.stack) ch H H' s.heap s'.heap)(hok:HOk X.prog X.w H' s'.heap)(hg:AllBare s'.gens)
  (hch:∀b∈ch,(b∈X.ex\/X.s₀.heap.objs.size≤b)/\b≠X.env.locals/\(∀x c,X.env.cells.lookup x=some c->c≠b)/\∀p∈X.pn++pins,p.1≠b):Inv X pins σ H' s':=by
 obtain⟨h',g',d',t',o'⟩:=s'
 have e:o'=s.os:=ho
 subst e
 exact I.call (g':=g') (t':=t') (d':=d') u hok hg hch
end
abbrev XK:=Value->Option Addr->Hp->Prop
abbrev St:=List (Option V)
abbrev VK:=V->Hp->Prop
abbrev TE:=St->Hp->VK->Prop
abbrev TT:=St->Hp->(Bool->Hp->Prop)->Prop
abbrev TA:=St->Hp->(List V->Hp->Prop)->Prop
structure Ends where
 nx:St->Hp->Prop
 rt:VK
 bk:St->Hp->Prop:=fun _ _=>False
 ct:St->Hp->Prop:=fun _ _=>False
abbrev TS:=Ends->St->Hp->Prop
noncomputable def EP(X:Cx)(pins:List (Addr×Obj))(σ:St)(Q:VK)(u:Value)(s':Shared):Prop:=∃v H',Inv X pins σ H' s'/\RelV v u/\Q v H'
noncomputable def TP(X:Cx)(pins:List (Addr×Obj))(σ:St)(Q:Bool->Hp->Prop)(b:Bool)(s':Shared):Prop:=∃H',Inv X pins σ H' s'/\Q b H'
noncomputable def AP(X:Cx)(pins:List (Addr×Obj))(σ:St)(Q:List V->Hp->Prop)(us:List Value)(s':Shared):Prop:=∃vs H',Inv X pins σ H' s'/\Vals vs us/\Q vs H'
noncomputable def SP(X:Cx)(pins:List (Addr×Obj))(D:Ends)(f:Flow)(s':Shared):Prop:=
 match f with
 | .next=>∃σ' H',Inv X pins σ' H' s'/\D.nx σ' H'
 | .brk=>∃σ' H',Inv X pins σ' H' s'/\D.bk σ' H'
 | .cont=>∃σ' H',Inv X pins σ' H' s'/\D.ct σ' H'
 | .ret u=>∃v σ' H',Inv X pins σ' H' s'/\RelV v u/\D.rt v H'
noncomputable def PE(X:Cx)(e:Expr)(t:TE):Prop:=
 ∀(pins:List (Addr×Obj)) (s:Shared) (σ:St) (H:Hp) (Q:VK),Inv X pins σ H s->t σ H Q->wpAny (model X.prog X.w) X.A (eval e X.env) (EP X pins σ Q) X.xe s
noncomputable def PT(X:Cx)(e:Expr)(t:TT):Prop:=
 ∀(pins:List (Addr×Obj)) (s:Shared) (σ:St) (H:Hp) (Q:Bool->Hp->Prop),Inv X pins σ H s->t σ H Q->wpAny (model X.prog X.w) X.A (isTrue e X.env (eval e X.env)) (TP X pins σ Q) X.xe s
noncomputable def PW(X:Cx)(e:Expr)(t:TT):Prop:=
 ∀(whole:Sem Value) (pins:List (Addr×Obj)) (s:Shared) (σ:St) (H:Hp) (Q:Bool->Hp->Prop),Inv X pins σ H s->t σ H Q->wpAny (model X.prog X.w) X.A (isTrue e X.env whole) (TP X pins σ Q) X.xe s
theorem PW.pt{X:Cx}{e:Expr}{t:TT}(h:PW X e t):PT X e t:=h _
noncomputable def PA(X:Cx)(es:List Expr)(t:TA):Prop:=
 ∀(pos:Pos) (pins:List (Addr×Obj)) (s:Shared) (σ:St) (H:Hp) (Q:List V->Hp->Prop),Inv X pins σ H s->t σ H Q->wpAny (model X.prog X.w) X.A (spliced (backTo pos (starEach es X.env))) (AP X pins σ Q) X.xe s
noncomputable def PS(X:Cx)(st:Stmt)(t:TS):Prop:=
 ∀(pins:List (Addr×Obj)) (s:Shared) (σ:St) (H:Hp) (D:Ends),Inv X pins σ H s->t D σ H->wpAny (model X.prog X.w) X.A (exec st X.env) (SP X pins D) X.xe s
noncomputable def PSs(X:Cx)(st:List Stmt)(t:TS):Prop:=
 ∀(pins:List (Addr×Obj)) (s:Shared) (σ:St) (H:Hp) (D:Ends),Inv X pins σ H s->t D σ H->wpAny (model X.prog X.w) X.A (execs st X.env) (SP X pins D) X.xe s
theorem thn{α:Type}{t:Sem α}{Q Q':α->Shared->Prop}{M:Model}{A:Around}{E:Value->Shared->Prop}{s:Shared}(h:wpAny M A t Q E s)(hQ:∀a s,Q a s->Q' a s):wpAny M A t Q' E s:=wpAny_mono h hQ fun _ _ x=>x
section
variable{X:Cx}
noncomputable def w0c(i:Nat):TE:=fun σ H Q=>∃v,σ[i]? = some (some v)/\Q v H
noncomputable def tC(v:V):TE:=fun _ H Q=>Q v H
theorem y74{i:Nat}{x:Str}{pos:Pos}(hN:X.N[i]? = some x)(hv:Vis X.env.scope x)(hd:(x == ("__debug__":Str))=false:=by decide)(hcd:(x == ("__classdict__":Str))=false:=by decide):PE X (.Name x pos) (w0c i):=by
 intro pins s σ H Q I h
 obtain⟨v,e,h⟩:=h
 obtain⟨m,hn,hl⟩:=I.loc
 obtain⟨u,r,l⟩:=hl i x v hN e hv
 have fin:EP X pins σ Q u s:=⟨v,H,I,r,h⟩
 rcases l with ⟨hk,hm⟩|⟨hk,c,hc,Z1⟩
 ·exact wpAny_Name (wpAny_loadName_local I.ok.kind hk hn hm fin) hd
 ·rcases hk with hk|hk
  ·exact wpAny_Name (wpAny_loadName_cell I.ok.kind hk hc Z1 fin) hd
  ·exact wpAny_Name (wpAny_loadName_free I.ok.kind hk hc Z1 fin hcd) hd
theorem z06{i j pos}:PE X (.Constant (.int i) j pos) (tC (.int i)):=fun _ _ _ H _ I h=>wpAny_Constant_int ⟨.int i,H,I.tok _,⟨_,rfl⟩,h⟩
theorem z3v{b j pos}:PE X (.Constant (.bool b) j pos) (tC (.bl b)):=fun _ _ _ H _ I h=>Constant_bool ⟨.bl b,H,I,rfl,h⟩
theorem y2N{j pos}:PE X (.Constant .none j pos) (tC .non):=fun _ _ _ H _ I h=>Constant_none ⟨.non,H,I,rfl,h⟩
theorem z0F{x j pos}:PE X (.Constant (.str x) j pos) (tC (.str x)):=fun _ _ _ H _ I h=>Calls.Constant_str ⟨.str x,H,I.tok _,⟨_,rfl⟩,h⟩
noncomputable def Gl(X:Cx)(x:Str):Prop:=X.env.kindOf x=some .globalImplicit
theorem z53{E:Value->Shared->Prop}{pins:List (Addr×Obj)}{s:Shared}{σ:St}{H:Hp}{x:Str}{u:Value}{pos:Pos}{Q:Value->Shared->Prop}(I:Inv X pins σ H s)(hg:Gl X x)(hm:X.mg x=some u)(h:Q u s)
  (hd:(x == ("__debug__":Str))=false:=by decide):wpAny (model X.prog X.w) X.A (eval (.Name x pos) X.env) Q E s:=
 Calls.Name_function_global I.ok.kind hg (Calls.loadGlobal_global (by rw[I.ok.glob];exact I.mod.glob.keeps I.bk) hm h) hd
theorem z5N{E:Value->Shared->Prop}{pins:List (Addr×Obj)}{s:Shared}{σ:St}{H:Hp}{x:Str}{u:Value}{pos:Pos}{Q:Value->Shared->Prop}(I:Inv X pins σ H s)(hg:Gl X x)(hm:X.mg x=none)(hv:bootBuiltins x=some u)(h:Q u s)
  (hn:x≠"__name__":=by decide) (hd:(x == ("__debug__":Str))=false:=by decide):wpAny (model X.prog X.w) X.A (eval (.Name x pos) X.env) Q E s:=by
 obtain⟨mb,h1,h2⟩:=I.mod.blt
 exact Calls.Name_function_global I.ok.kind hg (Calls.loadGlobal_builtin (by rw[I.ok.glob];exact I.mod.glob.keeps I.bk) hm (by rw[I.ok.blt];exact h1.keeps I.bk) ((h2 x hn).trans hv) h) hd
theorem y2V{x:Str}{v:V}{u:Value}{pos:Pos}(hg:Gl X x)(hm:X.mg x=some u)(r:RelV v u)(hd:(x == ("__debug__":Str))=false:=by decide):PE X (.Name x pos) (tC v):=
 fun _ _ _ H _ I h=>z53 I hg hm ⟨v,H,I,r,h⟩ hd
theorem z3U{x:Str}{v:V}{u:Value}{pos:Pos}(hg:Gl X x)(hm:X.mg x=none)(hv:bootBuiltins x=some u)(r:RelV v u)(hn:x≠"__name__":=by decide)(hd:(x == ("__debug__":Str))=false:=by decide):PE X (.Name x pos) (tC v):=
 fun _ _ _ H _ I h=>z5N I hg hm hv ⟨v,H,I,r,h⟩ hn hd
variable{a b:Expr}{ta tb:TE}{pos:Pos}
noncomputable def PC(X:Cx)(op:CmpOp)(a b:Expr)(t:TE):Prop:=
 ∀(pins:List (Addr×Obj)) (s:Shared) (σ:St) (H:Hp) (Q:VK),Inv X pins σ H s->t σ H Q->
  wpAny (model X.prog X.w) X.A (eval a X.env) (fun v s₁=>wpAny (model X.prog X.w) X.A (eval b X.env) (fun u s₂=>wpAny (model X.prog X.w) X.A (compareOp op v u) (EP X pins σ Q) X.xe s₂) X.xe s₁) X.xe s
theorem y1y(b:Expr){op:CmpOp}(h:op≠.In)(h2:op≠.NotIn):behindInMarks op b=false:=by
 have e1:(op == CmpOp.In)=false:=by cases op<;>first|rfl|exact absurd rfl h
 have e2:(op == CmpOp.NotIn)=false:=by cases op<;>first|rfl|exact absurd rfl h2
 cases b<;>simp[behindInMarks,e1,e2]
noncomputable def tIsN(ta:TE):TE:=fun σ H Q=>ta σ H fun x H1=>Q (.bl (decide (x=.non))) H1
theorem RelV.w0h{x:V}{v:Value}(r:RelV x v):(v == Value.none)=decide (x=.non):=by
 cases x with
 | non=>cases r;rfl
 | bl _=>cases r;rfl
 | int _=>obtain⟨t,rfl⟩:=r;rfl
 | str _=>obtain⟨t,rfl⟩:=r;rfl
 | byt _=>obtain⟨t,rfl⟩:=r;rfl
 | flt _=>obtain⟨t,rfl⟩:=r;rfl
 | ref _=>cases r;rfl
 | ty _=>cases r;rfl
theorem y4j{j pos'}(ha:PE X a ta):PC X .Is a (.Constant .none j pos') (tIsN ta):=by
 intro pins s σ H Q I h
 refine thn (ha pins s σ H _ I h) fun v s1 hz=>?_
 obtain⟨x,H1,I1,r1,q1⟩:=hz
 exact Constant_none (is_none_gen ⟨.bl _,H1,I1,by rw[r1.w0h];rfl,q1⟩)
noncomputable def tB(t:TE):TT:=fun σ H Q=>t σ H fun x H1=>∃c,x=.bl c/\Q c H1
theorem y5w{op:CmpOp}{t:TE}(h:PC X op a b t)(h1:behindInMarks op b=false:=by first|exact y1y _ (by decide) (by decide)|rfl):PE X (.Compare a [op] [b] pos) t:=fun pins s σ H Q I hw=>wpAny_Compare1 (h pins s σ H Q I hw) h1
theorem y1r{op:CmpOp}{t:TE}(h:PC X op a b t)(h1:behindInMarks op b=false:=by first|exact y1y _ (by decide) (by decide)|rfl):PT X (.Compare a [op] [b] pos) (tB t):=by
 intro pins s σ H Q I hw
 refine wpAny_isTrue_Compare1 (thn (h pins s σ H _ I hw) fun v s1 h1=>thn h1 fun u s2 h2=>thn h2 fun c s3 hz=>?_) h1
 obtain⟨x,H1,I1,r1,q1⟩:=hz
 obtain⟨d,rfl,q⟩:=q1
 cases r1
 exact wpAny_truthy_bool ⟨H1,I1,q⟩
theorem z41{e:Expr}{t:TE}(h:PE X e t)(he:∀whole,isTrue e X.env whole=(do let v <- whole;standAt e.pos;holding [v] (truthy v)):=by intro _;rfl):PT X e (tB t):=by
 intro pins s σ H Q I hw
 refine isTrue_plain (thn (h pins s σ H _ I hw) fun v s1 hz=>?_) (he _)
 obtain⟨x,H1,I1,r1,q1⟩:=hz
 obtain⟨d,rfl,q⟩:=q1
 cases r1
 exact wpAny_truthy_bool ⟨H1,I1,q⟩
variable{tA tB':TT}{rest:List Expr}
noncomputable def tAnd(t u:TT):TT:=fun σ H Q=>t σ H fun c H1=>if c=true then u σ H1 Q else Q false H1
noncomputable def tOr(t u:TT):TT:=fun σ H Q=>t σ H fun c H1=>if c=true then Q true H1 else u σ H1 Q
noncomputable def tNot(t:TT):TT:=fun σ H Q=>t σ H fun c H1=>Q (!c) H1
theorem z3N(ha:PT X a tA):PW X (.BoolOp .And [a] pos) tA:=by
 intro wh pins s σ H Q I h
 refine isTrue_and (thn (ha pins s σ H Q I h) fun c s1 e=>?_)
 cases c with
 | true=>exact isTrue_and_nil e
 | false=>exact e
theorem z22(ha:PT X a tA):PW X (.BoolOp .Or [a] pos) tA:=by
 intro wh pins s σ H Q I h
 refine isTrue_or (thn (ha pins s σ H Q I h) fun c s1 e=>?_)
 cases c with
 | false=>exact isTrue_or_nil e
 | true=>exact e
theorem z4j(ha:PT X a tA)(hb:PW X (.BoolOp .And (b::rest) pos) tB'):PW X (.BoolOp .And (a::b::rest) pos) (tAnd tA tB'):=by
 intro wh pins s σ H Q I h
 refine isTrue_and (thn (ha pins s σ H _ I h) fun c s1 hz=>?_)
 obtain⟨H1,I1,q1⟩:=hz
 cases c with
 | true=>exact hb wh pins s1 σ H1 Q I1 q1
 | false=>exact⟨H1,I1,q1⟩
theorem z3n(ha:PT X a tA)(hb:PW X (.BoolOp .Or (b::rest) pos) tB'):PW X (.BoolOp .Or (a::b::rest) pos) (tOr tA tB'):=by
 intro wh pins s σ H Q I h
 refine isTrue_or (thn (ha pins s σ H _ I h) fun c s1 hz=>?_)
 obtain⟨H1,I1,q1⟩:=hz
 cases c with
 | true=>exact⟨H1,I1,q1⟩
 | false=>exact hb wh pins s1 σ H1 Q I1 q1
theorem z4A(ha:PT X a tA):PT X (.UnaryOp .Not a pos) (tNot tA):=by
 intro pins s σ H Q I h
 exact isTrue_not (ha pins s σ H (fun c H1=>Q (!c) H1) I h)
noncomputable def w1L(ta tb:TE):TE:=fun σ H Q=>ta σ H fun x H1=>∃c,x=.bl c/\if c=true then tb σ H1 Q else Q (.bl false) H1
theorem y7G{op}{t:TE}(h:PE X a t):PE X (.BoolOp op [a] pos) t:=fun pins s σ H Q I hw=>BoolOp_one (h pins s σ H Q I hw)
theorem y79(ha:PE X a ta)(hb:PE X (.BoolOp .And (b::rest) pos) tb):PE X (.BoolOp .And (a::b::rest) pos) (w1L ta tb):=by
 intro pins s σ H Q I h
 refine BoolOp_and (thn (ha pins s σ H _ I h) fun v s1 hz=>?_)
 obtain⟨x,H1,I1,r1,q1⟩:=hz
 obtain⟨c,rfl,q1⟩:=q1
 cases r1
 refine wpAny_truthy_bool ?_
 cases c with
 | true=>exact hb pins s1 σ H1 Q I1 q1
 | false=>exact⟨.bl false,H1,I1,rfl,q1⟩
noncomputable def tIf(t:TT)(ta tb:TE):TE:=fun σ H Q=>t σ H fun c H1=>if c=true then ta σ H1 Q else tb σ H1 Q
theorem z9x{c:Expr}(hc:PT X c tA)(ha:PE X a ta)(hb:PE X b tb):PE X (.IfExp c a b pos) (tIf tA ta tb):=by
 intro pins s σ H Q I h
 refine wpAny_IfExp (thn (hc pins s σ H _ I h) fun d s1 hz=>?_)
 obtain⟨H1,I1,q1⟩:=hz
 cases d with
 | true=>exact ha pins s1 σ H1 Q I1 q1
 | false=>exact hb pins s1 σ H1 Q I1 q1
end
noncomputable def SqL(K:PySem.W.Frag)(H:Hp)(a:Addr)(xs:List V):Prop:=
 Rd H a (.lst xs)\/
  ∃(o:Obj) (its:Array Value) (n:Nat),K.lookup a=some o/\o.cls=.type "list"/\o.dict=none/\o.data=.seq its n/\its.size≤sizeLine/\Vals xs its.toList
noncomputable def SqT(K:PySem.W.Frag)(H:Hp)(a:Addr)(xs:List V):Prop:=
 Rd H a (.tup xs)\/
  ∃(o:Obj) (its:Array Value) (n:Nat),K.lookup a=some o/\o.cls=.type "tuple"/\o.data=.seq its n/\its.size≤sizeLine/\Vals xs its.toList
noncomputable def absV:Value->Option V
 | .none=>some .non
 | .bool b=>some (.bl b)
 | .int i _=>some (.int i)
 | .str x _=>some (.str x)
 | .bytes b _=>some (.byt b)
 | .float b _=>some (.flt b)
 | .ref a=>some (.ref a)
 | .type n=>some (.ty n)
 | _=>none
theorem RelV.abs{x:V}{u:Value}(r:RelV x u):absV u=some x:=by
 cases x with
 | non=>cases r;rfl
 | bl _=>cases r;rfl
 | int _=>obtain⟨t,rfl⟩:=r;rfl
 | str _=>obtain⟨t,rfl⟩:=r;rfl
 | byt _=>obtain⟨t,rfl⟩:=r;rfl
 | flt _=>obtain⟨t,rfl⟩:=r;rfl
 | ref _=>cases r;rfl
 | ty _=>cases r;rfl
theorem RelV.inj{x y:V}{u:Value}(r:RelV x u)(q:RelV y u):x=y:=Option.some.inj (r.abs.symm.trans q.abs)
theorem Vals.inj:∀{xs ys:List V}{us:List Value},Vals xs us->Vals ys us->xs=ys
 | _,_,_,.nil,.nil=>rfl
 | _,_,_,.cons r t,.cons r' t'=>by rw[r.inj r',Vals.inj t t']
section
variable{X:Cx}{pins:List (Addr×Obj)}{σ:St}{H:Hp}{s:Shared}{a:Addr}{xs ys:List V}
theorem SqL.of{K:PySem.W.Frag}(h:H a=some (.lst xs)):SqL K H a xs:=.inl (.inl h)
theorem SqT.of{K:PySem.W.Frag}(h:H a=some (.tup xs)):SqT K H a xs:=.inl (.inl h)
theorem Inv.list(I:Inv X pins σ H s)(h:SqL X.K H a xs):∃its:List Value,Vals xs its/\PlainL s.heap a its.toArray/\xs.length≤sizeLine:=by
 rcases h with h|⟨o,its,n,hk,hc,hd,hs,hz,r⟩
 ·obtain⟨z,its,n,r,e⟩:=h.ok I.hok
  exact⟨its,r,⟨_,n,e,rfl,rfl,rfl⟩,z⟩
 ·refine⟨its.toList,r,⟨o,n,I.kIn a o hk,hc,hd,by simpa using hs⟩,?_⟩
  have e:=r.length
  simp only[eM] at e
  lia
theorem Inv.tuple(I:Inv X pins σ H s)(h:SqT X.K H a xs):∃its:List Value,Vals xs its/\IsTup s.heap a its.toArray/\xs.length≤sizeLine:=by
 rcases h with h|⟨o,its,n,hk,hc,hs,hz,r⟩
 ·obtain⟨z,its,r,p⟩:=h.ok I.hok
  exact⟨its,r,PlT.tup p,z⟩
 ·refine⟨its.toList,r,⟨o,I.kIn a o hk,hc,n,by simpa using hs⟩,?_⟩
  have e:=r.length
  simp only[eM] at e
  lia
theorem Inv.w0a(I:Inv X pins σ H s)(h:SqL X.K H a xs)(h':SqL X.K H a ys):xs=ys:=by
 obtain⟨its,r,⟨o,n,e,_,_,d⟩,_⟩:=I.list h
 obtain⟨its',r',⟨o',n',e',_,_,d'⟩,_⟩:=I.list h'
 rw[e] at e';cases e'
 rw[d] at d'
 injection d' with d1 _
 have:its=its':=by simpa using congrArg Array.toList d1
 subst this
 exact r.inj r'
theorem Inv.V2(I:Inv X pins σ H s)(h:SqT X.K H a xs)(h':SqT X.K H a ys):xs=ys:=by
 obtain⟨its,r,⟨o,e,_,n,d⟩,_⟩:=I.tuple h
 obtain⟨its',r',⟨o',e',_,n',d'⟩,_⟩:=I.tuple h'
 rw[e] at e';cases e'
 rw[d] at d'
 injection d' with d1 _
 have:its=its':=by simpa using congrArg Array.toList d1
 subst this
 exact r.inj r'
end
abbrev Cx.O3(X:Cx)(E:Value->Shared->Prop):Cx:={ X with xe:=E }
abbrev Cx.nox(X:Cx):Cx:=X.O3 fun _ _=>False
theorem Cx.Ok.O3{X:Cx}(ok:X.Ok)(E:Value->Shared->Prop):(X.O3 E).Ok:=
 ⟨ok.mod,ok.kind,ok.glob,ok.blt,ok.above,ok.inj,ok.has,ok.cab,ok.hd,ok.frames,ok.stk,ok.exf,ok.bs,ok.bsz,ok.noex,ok.exfs,ok.S6,ok.frf⟩
theorem Cx.Ok.L4{X:Cx}{E:Value->Shared->Prop}(ok:(X.O3 E).Ok):X.Ok:=
 ⟨ok.mod,ok.kind,ok.glob,ok.blt,ok.above,ok.inj,ok.has,ok.cab,ok.hd,ok.frames,ok.stk,ok.exf,ok.bs,ok.bsz,ok.noex,ok.exfs,ok.S6,ok.frf⟩
section
variable{X:Cx}{pins:List (Addr×Obj)}{σ:St}{H:Hp}{s:Shared}{E:Value->Shared->Prop}
theorem Inv.O3(I:Inv X pins σ H s)(E:Value->Shared->Prop):Inv (X.O3 E) pins σ H s:=⟨I.ok.O3 E,I.os,I.bare,I.base,I.loc,I.cell,I.free,I.freeC,I.pin,I.hok,I.len⟩
theorem Inv.L4(I:Inv (X.O3 E) pins σ H s):Inv X pins σ H s:=⟨I.ok.L4,I.os,I.bare,I.base,I.loc,I.cell,I.free,I.freeC,I.pin,I.hok,I.len⟩
theorem SP.L4{D:Ends}{f:Flow}{s':Shared}(h:SP (X.O3 E) pins D f s'):SP X pins D f s':=by
 cases f with
 | next=>obtain⟨σ',H',I,q⟩:=h;exact⟨σ',H',I.L4,q⟩
 | brk=>obtain⟨σ',H',I,q⟩:=h;exact⟨σ',H',I.L4,q⟩
 | cont=>obtain⟨σ',H',I,q⟩:=h;exact⟨σ',H',I.L4,q⟩
 | ret u=>obtain⟨v,σ',H',I,r,q⟩:=h;exact⟨v,σ',H',I.L4,r,q⟩
theorem PSs.nox{st:List Stmt}{t:TS}(h:PSs X.nox st t):PSs X st t:=fun pins s σ H D I hw=>
 wpAny_mono (h pins s σ H D (I.O3 _) hw) (fun _ _ q=>q.L4) fun _ _ z=>False.elim z
end
section
variable{X:Cx}{st:Stmt}{rest:List Stmt}{t u:TS}{e:Expr}{te:TE}{pos:Pos}
noncomputable def w1O:TS:=fun D σ H=>D.nx σ H
noncomputable def tSeq(t u:TS):TS:=fun D σ H=>t { D with nx:=u D } σ H
theorem z0j:PSs X [] w1O:=fun _ _ σ H _ I h=>wpAny_execs_nil ⟨σ,H,I,h⟩
theorem z04(h1:PS X st t)(h2:PSs X rest u):PSs X (st::rest) (tSeq t u):=by
 intro pins s σ H D I h
 refine wpAny_execs_cons (thn (h1 pins s σ H { D with nx:=u D } I h) fun f s1 q=>?_)
 cases f with
 | next=>
  obtain⟨σ',H',I',q⟩:=q
  exact h2 pins s1 σ' H' D I' q
 | ret v=>exact q
 | brk=>exact q
 | cont=>exact q
theorem z05(h1:PS X st t):PSs X [st] t:=by
 intro pins s σ H D I h
 refine wpAny_execs_cons (thn (h1 pins s σ H D I h) fun f s1 q=>?_)
 cases f with
 | next=>exact wpAny_execs_nil q
 | ret v=>exact q
 | brk=>exact q
 | cont=>exact q
theorem Inv.quiet{pins:List (Addr×Obj)}{σ:St}{H:Hp}{s:Shared}(I:Inv X pins σ H s):interactive X.env=false:=by simp[interactive,I.ok.kind]
noncomputable def w1T(te:TE):TS:=fun D σ H=>te σ H fun _ H1=>D.nx σ H1
theorem z0x(he:PE X e te)(hs:swapsWith e none pos.line X.env=pure false:=by rfl):PS X (.Expr e pos) (w1T te):=by
 intro pins s σ H D I h
 exact wpAny_Expr_any (thn (he pins s σ H _ I h) fun v s1 ⟨x,H1,I1,r1,q1⟩=>⟨σ,H1,I1,q1⟩) I.quiet hs
noncomputable def tRet(te:TE):TS:=fun D σ H=>te σ H D.rt
theorem z0d(he:PE X e te):PS X (.Return (some e) pos) (tRet te):=by
 intro pins s σ H D I h
 exact wpAny_Return_some (thn (he pins s σ H _ I h) fun v s1 ⟨x,H1,I1,r1,q1⟩=>⟨x,σ,H1,I1,r1,q1⟩)
noncomputable def tIfS(c:TT)(t u:TS):TS:=fun D σ H=>c σ H fun b H1=>if b=true then t D σ H1 else u D σ H1
theorem z0H{c:Expr}{a b:List Stmt}{tc:TT}(hc:PT X c tc)(ha:PSs X a t)(hb:PSs X b u):PS X (.If c a b pos) (tIfS tc t u):=by
 intro pins s σ H D I h
 refine wpAny_If (thn (hc pins s σ H _ I h) fun d s1 hz=>?_)
 obtain⟨H1,I1,q1⟩:=hz
 cases d with
 | true=>exact ha pins s1 σ H1 D I1 q1
 | false=>exact hb pins s1 σ H1 D I1 q1
noncomputable def y7r:TS:=fun _ _ _=>False
theorem z1y:PS X st y7r:=fun _ _ _ _ _ _ h=>h.elim
end
abbrev TG:=V->St->Hp->(St->Hp->Prop)->Prop
abbrev TGs:=List V->St->Hp->(St->Hp->Prop)->Prop
noncomputable def PG(X:Cx)(target:Expr)(t:TG):Prop:=
 ∀(pins:List (Addr×Obj)) (s:Shared) (σ:St) (H:Hp) (v:V) (u:Value) (Q:St->Hp->Prop),Inv X pins σ H s->RelV v u->t v σ H Q->
  wpAny (model X.prog X.w) X.A (assign target X.env u) (fun _ s'=>∃σ' H',Inv X pins σ' H' s'/\Q σ' H') X.xe s
noncomputable def PGs(X:Cx)(ts:List Expr)(t:TGs):Prop:=
 ∀(pins:List (Addr×Obj)) (s:Shared) (σ:St) (H:Hp) (vs:List V) (us:List Value) (Q:St->Hp->Prop),Inv X pins σ H s->Vals vs us->t vs σ H Q->
  wpAny (model X.prog X.w) X.A (assignInOrder ((assignEach ts X.env).map (·.2)) us) (fun _ s'=>∃σ' H',Inv X pins σ' H' s'/\Q σ' H') X.xe s
abbrev w0U:=V->V->V->Hp->(Hp->Prop)->Prop
noncomputable def PSet(X:Cx)(t:w0U):Prop:=
 ∀(pins:List (Addr×Obj)) (s:Shared) (σ:St) (H:Hp) (o i v:V) (ov iv u:Value) (Q:Hp->Prop),Inv X pins σ H s->RelV o ov->RelV i iv->RelV v u->t o i v H Q->
  wpAny (model X.prog X.w) X.A (setItem ov iv u) (fun _ s'=>∃H',Inv X pins σ H' s'/\Q H') X.xe s
section
variable{X:Cx}{pos:Pos}
noncomputable def y2B(i:Nat):TG:=fun v σ H Q=>Q (σ.set i (some v)) H
theorem z0m{i:Nat}{x:Str}(hN:X.N.Nodup)(hi:X.N[i]? = some x)(hx:Loc X.env.scope x)(hf:X.fn x=true\/X.env.scope.names.lookup x=some .local:=by first|exact .inl rfl|exact .inr rfl|assumption):PG X (.Name x pos) (y2B i):=by
 intro pins s σ H v u Q I r h
 exact wpAny_assign_Name (z94 I hN hi hx r (fun s' I'=>⟨_,H,I',h⟩) hf)
noncomputable def w0F:TGs:=fun vs σ H Q=>vs=[]/\Q σ H
noncomputable def y6T(t:TG)(u:TGs):TGs:=fun vs σ H Q=>∃v r,vs=v::r/\t v σ H fun σ' H'=>u r σ' H' Q
theorem z4t:PGs X [] w0F:=by
 intro pins s σ H vs us Q I r h
 obtain⟨e,h⟩:=h
 subst e
 cases r
 exact assignInOrder_nil ⟨σ,H,I,h⟩
theorem z1g{e:Expr}{es:List Expr}{t:TG}{u:TGs}(h1:PG X e t)(h2:PGs X es u)
  (hs:(assignEach (e::es) X.env).map (·.2)=assign e X.env::(assignEach es X.env).map (·.2):=by rfl):PGs X (e::es) (y6T t u):=by
 intro pins s σ H vs us Q I r h
 obtain⟨v,vr,e1,h⟩:=h
 subst e1
 cases r with
 | cons r rr=>
  rw[hs]
  refine assignInOrder_cons (thn (h1 pins s σ H _ _ _ I r h) fun _ s1 hz=>?_)
  obtain⟨σ1,H1,I1,q1⟩:=hz
  exact h2 pins s1 σ1 H1 _ _ Q I1 rr q1
noncomputable def w0m(K:PySem.W.Frag)(n:Nat)(t:TGs):TG:=fun v σ H Q=>∃a xs,v=.ref a/\SqT K H a xs/\xs.length=n/\t xs σ H Q
theorem y7s{es:List Expr}{k:Nat}{t:TGs}{n:Nat}(hc:X.calm=true)(h:PGs X es t)
  (hn:(assignEach es X.env).length=n:=by rfl) (hst:(assignEach es X.env).findIdx? (·.1)=none:=by rfl):PG X (.Tuple es k pos) (w0m X.K n t):=by
 intro pins s σ H v u Q I r hw
 obtain⟨a,xs,e1,hq,hl,hw⟩:=hw
 subst e1
 cases r
 obtain⟨its,rv,ht,hz⟩:=I.tuple hq
 refine assign_Tuple_tuple (I.ok.hd hc) ht (by simp[hn,<- hl,rv.length]) hst fun h' hx=>?_
 have I1:Inv X pins σ H { s with heap:=h' }:=I.kept (t':=s.toks) fun b o e=>hx b o (cC (bN e)) e
 exact h pins _ σ H xs _ Q I1 (by simpa using rv) hw
noncomputable def gSub(to ti:TE)(t:w0U):TG:=fun v σ H Q=>to σ H fun o H1=>ti σ H1 fun i H2=>t o i v H2 fun H3=>Q σ H3
theorem y7m{o i:Expr}{to ti:TE}{t:w0U}(ho:PE X o to)(hi:PE X i ti)(hs:PSet X t)
  (ha:∀v,assign (.Subscript o i pos) X.env v=(do
   let ov <- holding [v] (eval o X.env)
   let iv <- holding [v,ov] (eval i X.env)
   standAt pos
   holding [v,ov,iv] (setItem ov iv v)
   release [v,ov,iv] []):=by intro _;rfl):PG X (.Subscript o i pos) (gSub to ti t):=by
 intro pins s σ H v u Q I r h
 rw[ha]
 refine wpAny_bind (wpAny_holding (thn (ho pins s σ H _ I h) fun ov s1 hz=>?_))
 obtain⟨x,H1,I1,r1,q1⟩:=hz
 refine wpAny_bind (wpAny_holding (thn (hi pins s1 σ H1 _ I1 q1) fun iv s2 hz=>?_))
 obtain⟨y,H2,I2,r2,q2⟩:=hz
 refine wpAny_bind (wpAny_standAt (wpAny_bind (wpAny_holding (thn (hs pins s2 σ H2 x y v ov iv u _ I2 r1 r2 r q2) fun _ s3 hz=>?_))))
 obtain⟨H3,I3,q3⟩:=hz
 exact wpAny_release ⟨σ,H3,I3,q3⟩
noncomputable def w0Q(te:TE)(g:TG):TS:=fun D σ H=>te σ H fun x H1=>g x σ H1 D.nx
theorem y7z{tg e:Expr}{te:TE}{g:TG}(he:PE X e te)(hg:PG X tg g)(hs:swapsWithSole [tg] e pos.line X.env=pure false:=by rfl)(hw:swappedStores [tg] e X.env=pure none:=by rfl)
  (h1:(assignEach [tg] X.env).map (·.2)=[assign tg X.env]:=by rfl):PS X (.Assign [tg] e pos) (w0Q te g):=by
 intro pins s σ H D I h
 refine wpAny_Assign_stores (thn (he pins s σ H _ I h) fun v s1 hz=>?_) hs hw
 obtain⟨x,H1,I1,r1,q1⟩:=hz
 rw[h1]
 exact thn (hg pins s1 σ H1 x v _ I1 r1 q1) fun _ s2 q=>q
theorem z0k{i:Nat}{x:Str}{e:Expr}{te:TE}{pos':Pos}(hN:X.N.Nodup)(hi:X.N[i]? = some x)(hx:Loc X.env.scope x)(he:PE X e te)(hs:swapsWith e (some (.Name x pos')) pos.line X.env=pure false:=by rfl)(hf:X.fn x=true\/X.env.scope.names.lookup x=some .local:=by first|exact .inl rfl|exact .inr rfl|assumption) :
  PS X (.Assign [.Name x pos'] e pos) (w0Q te (y2B i)):=by
 intro pins s σ H D I h
 refine wpAny_Assign_Name (thn (he pins s σ H _ I h) fun v s1 hz=>?_) hs
 obtain⟨y,H1,I1,r1,q1⟩:=hz
 exact z94 I1 hN hi hx r1 (fun s2 I2=>⟨_,H1,I2,q1⟩) hf
end
section
variable{X:Cx}{pos:Pos}
end
structure It where
 go:Nat->Hp->Prop
 yld:Nat->Hp->V->Hp->Prop
 stop:Nat->Hp->Prop
noncomputable def U1(X:Cx)(pins:List (Addr×Obj))(H:Hp)(b:Addr):Prop:=
 H b=none/\b≠X.env.locals/\b∉X.fs/\(b∈X.ex\/X.s₀.heap.objs.size≤b)/\(∀x c,X.env.cells.lookup x=some c->c≠b)/\∀p∈X.pn++pins,p.1≠b
theorem Inv.V7{X:Cx}{pins:List (Addr×Obj)}{σ:St}{H H':Hp}{s:Shared}{b:Addr}(I:Inv X pins σ H s)(hb:s.heap.objs.size≤b)(hn:H' b=none):U1 X pins H' b:=by
 refine⟨hn,fS (cN I.lt hb),I.nofs hb,.inr (c9 I.sz hb),fun x c e z=>?_,fun p hp z=>?_⟩
 ·obtain⟨v,q⟩:=I.cell x c e
  exact absurd (cN q.lt (by rw[z];exact hb)) (d6 _)
 ·exact absurd (cN (bN (I.pin p hp).1) (by rw[z];exact hb)) (d6 _)
structure Turn(P:Program)(w:World)(K:PySem.W.Frag)(tg:Expr)(J:It)(fp:List Addr)(it:Addr)(tn:Nat->Heap->Prop):Prop where
 mem:it∈fp
 obj:∀i h,tn i h->∀b∈fp,∃o,h.get? b=some o/\∀v,o.data≠.cell v
 keep:∀i h h',tn i h->(∀b∈fp,∀o,h.get? b=some o->h'.get? b=some o)->tn i h'
 item:∀(X:Cx),X.prog=P->X.w=w->X.K=K->X.calm=true->∀(i:Nat) (pins:List (Addr×Obj)) (s:Shared) (σ:St) (H:Hp) (E:Value->Shared->Prop),Inv X pins σ H s->(∀b∈fp,U1 X pins H b)->tn i s.heap->J.go i H->
  wpAny (model P w) X.A (pyNext (.ref it)) (fun r s1=>∃u,r=some u/\
   wpAny (model P w) X.A (letOwnedTupleGo tg (.ref it) u) (fun _ s2=>∃x H',Inv X pins σ H' s2/\RelV x u/\J.yld i H x H'/\tn (i+1) s2.heap/\∀b∈fp,H' b=none) E s1) E s
 done:∀(X:Cx),X.prog=P->X.w=w->X.K=K->X.calm=true->∀(i:Nat) (pins:List (Addr×Obj)) (s:Shared) (σ:St) (H:Hp) (E:Value->Shared->Prop),Inv X pins σ H s->(∀b∈fp,U1 X pins H b)->tn i s.heap->J.stop i H->
  wpAny (model P w) X.A (pyNext (.ref it)) (fun r s1=>r=none/\Inv X pins σ H s1) E s
 self:∀(A:Around) (i:Nat) (s:Shared) (Q:Value->Shared->Prop) (E:Value->Shared->Prop),tn i s.heap->Q (.ref it) s->wpAny (model P w) A (pyIter (.ref it)) Q E s
abbrev TI:=St->Hp->(It->Hp->Prop)->Prop
noncomputable def PIE(X:Cx)(pins:List (Addr×Obj))(σ:St)(tg:Expr)(R:It->Hp->Prop)(itv:Value)(s2:Shared):Prop:=
 ∃(it:Addr) (fp:List Addr) (tn:Nat->Heap->Prop) (J:It) (H':Hp),itv=.ref it/\Inv X pins σ H' s2/\Turn X.prog X.w X.K tg J fp it tn/\tn 0 s2.heap/\(∀b∈fp,U1 X pins H' b)/\R J H'
noncomputable def PI(X:Cx)(tg iter:Expr)(wi:TI):Prop:=
 ∀(pins:List (Addr×Obj)) (s:Shared) (σ:St) (H:Hp) (R:It->Hp->Prop),Inv X pins σ H s->wi σ H R->
  wpAny (model X.prog X.w) X.A (eval iter X.env) (fun v s1=>wpAny (model X.prog X.w) X.A (pyIter v) (PIE X pins σ tg R) X.xe s1) X.xe s
theorem y2E {M : Model} {A : Around} {E : Value -> Shared -> Prop} {s : Shared} {tg : Expr} {it : Addr} {u : Value} {o : Obj} {n : String} {vs : Array Value} {Q : Unit -> Shared -> Prop} (ho : s.heap.get? it = some o) (hc : o.cls = .type n) (hd : o.data = .fields vs)
    (hn : ["enumerate", "zip", "dict_itemiterator", "dict_reverseitemiterator", "odict_iterator", "itertools.zip_longest", "itertools.pairwise"].contains n = false) (hQ : Q () s) : wpAny M A (letOwnedTupleGo tg (.ref it) u) Q E s := by
  unfold letOwnedTupleGo
  cases tg <;> first
    | exact wpAny_pure hQ
    | (cases u <;> first
        | exact wpAny_pure hQ
        | (refine wpAny_bind (wpAny_load ho ?_)
           rw [hc, hd]
           show wpAny M A (if (["enumerate", "zip", "dict_itemiterator", "dict_reverseitemiterator", "odict_iterator", "itertools.zip_longest", "itertools.pairwise"].contains n && vs[0]? == some (rawInt _)) = true then _ else _) Q E s
           rw [if_neg (by intro h; rw [hn, fZ] at h; cases h)]
           exact wpAny_pure hQ))
noncomputable def Itl(K:PySem.W.Frag)(a:Addr):It:=
 ⟨fun i H=>∃xs x,SqL K H a xs/\xs[i]? = some x,fun i H x H'=>H'=H/\∀xs,SqL K H a xs->xs[i]? = some x,fun i H=>∃xs,SqL K H a xs/\xs.length≤i⟩
noncomputable def Itt(K:PySem.W.Frag)(a:Addr):It:=
 ⟨fun i H=>∃xs x,SqT K H a xs/\xs[i]? = some x,fun i H x H'=>H'=H/\∀xs,SqT K H a xs->xs[i]? = some x,fun i H=>∃xs,SqT K H a xs/\xs.length≤i⟩
noncomputable def Itr(lo:Int)(n:Nat):It:=⟨fun i _=>i<n,fun i H x H'=>H'=H/\x=.int (lo+i),fun i _=>n≤i⟩
theorem z9X{P:Program}{w:World}{K:PySem.W.Frag}{tg:Expr}(a it:Addr):Turn P w K tg (Itl K a) [it] it (fun i h=>h.IsListIter it a i) where
 mem:=by simp
 obj:=fun i h st b hb=>by
  have e:b=it:=by simpa using hb
  subst e
  obtain⟨o,e,c,d⟩:=st
  exact⟨o,e,fun v z=>by rw[d] at z;cases z⟩
 keep:=fun i h h' st k=>st.at fun o e=>k it (by simp) o e
 item:=by
  intro X hP hw hK hc i pins s σ H E I hf st hg
  subst hP hw hK
  obtain⟨xs,x,hq,hx⟩:=hg
  obtain⟨its,rv,p,hz⟩:=I.list hq
  obtain⟨u,hu,ru⟩:=rv.get hx
  obtain⟨f0,f1,f2,f3,f4,f5⟩:=hf it (by simp)
  refine wpAny_pyNext_list_item st p.isList (x:=u) (by simpa using hu) fun h' st' sb=>?_
  have I1:Inv X pins σ H { s with heap:=h' }:=I.turned (t':=s.toks) (fun b o hb e=>(sb.2 b hb).trans e) f0 f1 f3 f4 f5
  obtain⟨o,e,c,d⟩:=id st'
  exact⟨u,rfl,y2E (s:={ s with heap:=h' }) e c d (by decide) ⟨x,H,I1,ru,⟨rfl,fun ys hy=>by rw[I.w0a hy hq];exact hx⟩,st',fun b hb=>(hf b hb).1⟩⟩
 done:=by
  intro X hP hw hK hc i pins s σ H E I hf st hg
  subst hP hw hK
  obtain⟨xs,hq,hx⟩:=hg
  obtain⟨its,rv,p,hz⟩:=I.list hq
  obtain⟨f0,f1,f2,f3,f4,f5⟩:=hf it (by simp)
  have hl:=rv.length
  exact wpAny_pyNext_list_end (I.ok.hd hc) st p.isList (by simp;lia) fun h' eb=>⟨rfl,I.turned (t':=s.toks) (fun b o hb e=>eb b o hb e) f0 f1 f3 f4 f5⟩
 self:=fun _ _ _ _ _ st h=>wpAny_pyIter_listiter st h
theorem z8p{P:Program}{w:World}{K:PySem.W.Frag}{tg:Expr}(a it:Addr):Turn P w K tg (Itt K a) [it] it (fun i h=>h.IsTupleIter it a i) where
 mem:=by simp
 obj:=fun i h st b hb=>by
  have e:b=it:=by simpa using hb
  subst e
  obtain⟨o,e,c,d⟩:=st
  exact⟨o,e,fun v z=>by rw[d] at z;cases z⟩
 keep:=fun i h h' st k=>st.at fun o e=>k it (by simp) o e
 item:=by
  intro X hP hw hK hc i pins s σ H E I hf st hg
  subst hP hw hK
  obtain⟨xs,x,hq,hx⟩:=hg
  obtain⟨its,rv,p,hz⟩:=I.tuple hq
  obtain⟨u,hu,ru⟩:=rv.get hx
  obtain⟨f0,f1,f2,f3,f4,f5⟩:=hf it (by simp)
  refine wpAny_pyNext_tuple_item st (show s.heap.IsTuple a its.toArray from p) (x:=u) (by simpa using hu) fun h' st' sb=>?_
  have I1:Inv X pins σ H { s with heap:=h' }:=I.turned (t':=s.toks) (fun b o hb e=>(sb.2 b hb).trans e) f0 f1 f3 f4 f5
  obtain⟨o,e,c,d⟩:=id st'
  exact⟨u,rfl,y2E (s:={ s with heap:=h' }) e c d (by decide) ⟨x,H,I1,ru,⟨rfl,fun ys hy=>by rw[I.V2 hy hq];exact hx⟩,st',fun b hb=>(hf b hb).1⟩⟩
 done:=by
  intro X hP hw hK hc i pins s σ H E I hf st hg
  subst hP hw hK
  obtain⟨xs,hq,hx⟩:=hg
  obtain⟨its,rv,p,hz⟩:=I.tuple hq
  obtain⟨f0,f1,f2,f3,f4,f5⟩:=hf it (by simp)
  have hl:=rv.length
  exact wpAny_pyNext_tuple_end (I.ok.hd hc) st (show s.heap.IsTuple a its.toArray from p) (by simp;lia) fun h' eb=>⟨rfl,I.turned (t':=s.toks) (fun b o hb e=>eb b o hb e) f0 f1 f3 f4 f5⟩
 self:=fun _ _ _ _ _ st h=>wpAny_pyIter_tupleiter st h
theorem y2w{P:Program}{w:World}{K:PySem.W.Frag}{tg:Expr}(it:Addr)(lo:Int)(n:Nat):Turn P w K tg (Itr lo n) [it] it (fun i h=>IsRangeIter h it (lo+(i:Nat)*1) ((n:Int)-(i:Nat)) 1) where
 mem:=by simp
 obj:=fun i h st b hb=>by
  have e:b=it:=by simpa using hb
  subst e
  exact⟨_,st,fun v z=>by
   have z':Data.fields _=Data.cell v:=z
   cases z'⟩
 keep:=fun i h h' st k=>k it (by simp) _ st
 item:=by
  intro X hP hw hK hc i pins s σ H E I hf st hg
  subst hP hw hK
  obtain⟨f0,f1,f2,f3,f4,f5⟩:=hf it (by simp)
  have W:=Walks.range (prog:=X.prog) (w:=X.w) (I.ok.hd hc) it lo 1 n
  refine W.item i s _ _ hg st fun v h' tk hv st' kk=>?_
  obtain⟨t,rfl⟩:=hv
  have I1:Inv X pins σ H { s with heap:=h',toks:=tk }:=I.turned (fun b o hb e=>kk b o (by simpa using hb) e) f0 f1 f3 f4 f5
  refine⟨_,rfl,y2E (s:={ s with heap:=h',toks:=tk }) (n:="range_iterator") st' rfl rfl (by decide) ⟨.int (lo+i),H,I1,⟨t,?_⟩,⟨rfl,rfl⟩,st',fun b hb=>(hf b hb).1⟩⟩
  rw[Int.mul_one]
 done:=by
  intro X hP hw hK hc i pins s σ H E I hf st hg
  subst hP hw hK
  obtain⟨f0,f1,f2,f3,f4,f5⟩:=hf it (by simp)
  exact wpAny_pyNext_range_end (I.ok.hd hc) st (by have:n≤i:=hg;lia) fun h' eb=>⟨rfl,I.turned (t':=s.toks) (fun b o hb e=>eb b o hb e) f0 f1 f3 f4 f5⟩
 self:=fun _ _ _ _ _ st h=>wpAny_pyIter_rangeiter st h
section
variable{X:Cx}{tg:Expr}
noncomputable def w1o(K:PySem.W.Frag)(tl:TE):TI:=fun σ H R=>tl σ H fun x H1=>∃a,x=.ref a/\(∃xs,SqL K H1 a xs)/\R (Itl K a) H1
noncomputable def iTup(K:PySem.W.Frag)(tl:TE):TI:=fun σ H R=>tl σ H fun x H1=>∃a,x=.ref a/\(∃xs,SqT K H1 a xs)/\R (Itt K a) H1
theorem z1r{l:Expr}{tl:TE}(hl:PE X l tl):PI X tg l (w1o X.K tl):=by
 intro pins s σ H R I h
 refine thn (hl pins s σ H _ I h) fun v s1 hz=>?_
 obtain⟨x,H1,I1,r1,q1⟩:=hz
 obtain⟨a,e,⟨xs,hq⟩,q⟩:=q1
 subst e
 cases r1
 obtain⟨its,rv,p,hz⟩:=I1.list hq
 refine wpAny_pyIter_list p.isList ?_
 refine⟨s1.heap.objs.size,[s1.heap.objs.size],_,_,H1,rfl,I1.kept (t':=s1.toks) fun b o e=>bB _ e,z9X a _,⟨_,bK _ rfl,rfl,rfl⟩,fun b hb=>?_,q⟩
 have e:b=s1.heap.objs.size:=by simpa using hb
 subst e
 exact I1.V7 (bG _) (I1.hok.fresh (bG _))
theorem z3W{l:Expr}{tl:TE}(hl:PE X l tl):PI X tg l (iTup X.K tl):=by
 intro pins s σ H R I h
 refine thn (hl pins s σ H _ I h) fun v s1 hz=>?_
 obtain⟨x,H1,I1,r1,q1⟩:=hz
 obtain⟨a,e,⟨xs,hq⟩,q⟩:=q1
 subst e
 cases r1
 obtain⟨its,rv,p,hz⟩:=I1.tuple hq
 refine wpAny_pyIter_tuple (show s1.heap.IsTuple a its.toArray from p) ?_
 refine⟨s1.heap.objs.size,[s1.heap.objs.size],_,_,H1,rfl,I1.kept (t':=s1.toks) fun b o e=>bB _ e,z8p a _,⟨_,bK _ rfl,rfl,rfl⟩,fun b hb=>?_,q⟩
 have e:b=s1.heap.objs.size:=by simpa using hb
 subst e
 exact I1.V7 (bG _) (I1.hok.fresh (bG _))
theorem y1q{pins:List (Addr×Obj)}{σ:St}{H:Hp}{s:Shared}{R:It->Hp->Prop}{E:Value->Shared->Prop}{lo hi:Int}{t u v:Tok}{tk:Nat}(I:Inv X pins σ H s)(h1:-(2^62)≤lo)(h2:lo<2^62)(h3:-(2^62)≤hi)(h4:hi<2^62)
  (q:R (Itr lo (hi-lo).toNat) H):wpAny (model X.prog X.w) X.A (pyIter (.ref s.heap.objs.size)) (PIE X pins σ tg R) E { s with heap:=s.heap.push { cls:=.type "range",data:=.fields #[.int lo t,.int hi u,.int 1 v] },toks:=tk }:=by
 refine wpAny_pyIter_range (IsRange.new ..) (small_one h1 h2 h3 h4) ?_
 have I1:Inv X pins σ H { s with heap:=s.heap.push { cls:=.type "range",data:=.fields #[.int lo t,.int hi u,.int 1 v] },toks:=tk }:=I.kept fun b o e=>bB _ e
 refine⟨(s.heap.push { cls:=.type "range",data:=.fields #[.int lo t,.int hi u,.int 1 v] }).objs.size,[(s.heap.push { cls:=.type "range",data:=.fields #[.int lo t,.int hi u,.int 1 v] }).objs.size],_,_,H,rfl,
  I1.kept (t':=tk) fun b o e=>bB _ e,y2w _ lo (hi-lo).toNat,?_,fun b hb=>?_,q⟩
 ·have e1:lo+((0:Nat):Int)*1=lo:=by simp
  have e2:(((hi-lo).toNat:Nat):Int)-((0:Nat):Int)=Builtin.Range.rangeSize lo hi 1:=by rw[rangeSize_one];split<;>lia
  show IsRangeIter _ _ (lo+((0:Nat):Int)*1) ((((hi-lo).toNat:Nat):Int)-((0:Nat):Int)) 1
  rw[e1,e2]
  exact bK _ rfl
 ·have e:b=(s.heap.push { cls:=.type "range",data:=.fields #[.int lo t,.int hi u,.int 1 v] }).objs.size:=by simpa using hb
  subst e
  exact I1.V7 (bG _) (I1.hok.fresh (bG _))
noncomputable def w1k(ta:TA):TI:=fun σ H R=>ta σ H fun vs H1=>∃j:Int,vs=[.int j]/\-(2^62)≤j/\j<2^62/\R (Itr 0 j.toNat) H1
noncomputable def w1u(ta:TA):TI:=fun σ H R=>ta σ H fun vs H1=>∃i j:Int,vs=[.int i,.int j]/\(-(2^62)≤i/\i<2^62/\-(2^62)≤j/\j<2^62)/\R (Itr i (j-i).toNat) H1
theorem z1T{a:Expr}{ta:TA}{p pos:Pos}(hg:Gl X "range")(hm:X.mg "range"=none)(ha:PA X [a] ta)(hs:starEach [a] X.env=[(false,eval a X.env)]:=by rfl):PI X tg (.Call (.Name "range" p) [a] [] pos) (w1k ta):=by
 intro pins s σ H R I h
 refine Call_ (z5N I hg hm boot_range (dI (thn (ha pos pins s σ H _ I h) fun us s1 hz=>?_) hs rfl))
 obtain⟨vs,H1,I1,r1,q1⟩:=hz
 obtain⟨j,e,q1,q2,q⟩:=q1
 subst e
 cases r1 with
 | cons r rr=>
  cases rr
  obtain⟨t,rfl⟩:=r
  exact call_range_1 (y1q I1 (by lia) (by lia) q1 q2 (by simpa using q))
theorem z5C{a b:Expr}{ta:TA}{p pos:Pos}(hg:Gl X "range")(hm:X.mg "range"=none)(ha:PA X [a,b] ta)(hs:starEach [a,b] X.env=[(false,eval a X.env),(false,eval b X.env)]:=by rfl)(hs2:starEach [b] X.env=[(false,eval b X.env)]:=by rfl) :
  PI X tg (.Call (.Name "range" p) [a,b] [] pos) (w1u ta):=by
 intro pins s σ H R I h
 refine Call_ (z5N I hg hm boot_range (dI (thn (ha pos pins s σ H _ I h) fun us s1 ⟨vs,H1,I1,r1,q1⟩=>?_) (by rw[hs,hs2]) (by rw[hs2];rfl)))
 obtain⟨i,j,e,⟨q1,q2,q3,q4⟩,q⟩:=q1
 subst e
 cases r1 with
 | cons r rr=>
  cases rr with
  | cons r' rr=>
   cases rr
   obtain⟨t,rfl⟩:=r
   obtain⟨t',rfl⟩:=r'
   exact call_range_2 (y1q I1 q1 q2 q3 q4 q)
noncomputable def tFor(wi:TI)(g:TG)(tb:TS):TS:=fun D σ H=>wi σ H fun J H1=>∃W:Nat->Nat->St->Hp->Prop,(∃m,W 0 m σ H1)/\∀i m σ H,W i m σ H->
 (J.stop i H/\D.nx σ H)\/(J.go i H/\∃N:St->Hp->Prop,(∀σ' H',N σ' H'->∃m',m'<m/\W (i+1) m' σ' H')/\∀x H',J.yld i H x H'->g x σ H' fun σ2 H2=>tb { D with nx:=N,ct:=N,bk:=D.nx } σ2 H2)
noncomputable def z9W(fp:List Addr)(h:Heap):List (Addr×Obj):=fp.filterMap fun b=>(h.get? b).map fun o=>(b,o)
theorem z4M{fp:List Addr}{h:Heap}{b:Addr}{o:Obj}(hb:b∈fp)(e:h.get? b=some o):(b,o)∈z9W fp h:=hJ.mpr ⟨b,hb,by rw[e];rfl⟩
theorem y2C{fp:List Addr}{h:Heap}{p:Addr×Obj}(hp:p∈z9W fp h):p.1∈fp/\h.get? p.1=some p.2:=by
 obtain⟨b,hb,e⟩:=hJ.mp hp
 cases q:h.get? b with
 | none=>rw[q] at e;cases e
 | some o=>
  rw[q] at e
  have e':(b,o)=p:=Option.some.inj e
  subst e'
  exact⟨hb,q⟩
theorem Inv.pinned{pins:List (Addr×Obj)}{σ:St}{H:Hp}{s:Shared}{fp:List Addr}(I:Inv X pins σ H s)(hf:∀b∈fp,U1 X pins H b)(ho:∀b∈fp,∃o,s.heap.get? b=some o/\∀v,o.data≠.cell v):Inv X (pins++z9W fp s.heap) σ H s:=
 I.S5 fun p hp=>(cB.mp hp).elim (fun z=>I.pin p (cD _ z)) fun z=>by
  obtain⟨hb,e⟩:=y2C z
  obtain⟨f0,f1,f2,_⟩:=hf p.1 hb
  obtain⟨o,e',d⟩:=ho p.1 hb
  rw[e] at e';cases e'
  exact⟨e,f0,f1,f2,d⟩
theorem Inv.S3{pins pl:List (Addr×Obj)}{σ:St}{H:Hp}{s:Shared}(I:Inv X (pins++pl) σ H s):Inv X pins σ H s:=I.S5 fun p hp=>I.pin p (cD _ (dP _ hp))
theorem z1z{iter:Expr}{body:List Stmt}{wi:TI}{g:TG}{tb:TS}{pos:Pos}(hp:PassesOwn (model X.prog X.w) X.A X.env X.xe)(hc:X.calm=true)(hi:PI X tg iter wi)(hg:PG X tg g)(hb:PSs X body tb)
  (hs:∀x,foldedSetIterable iter X.env x=pure x:=by intro _;rfl):PS X (.For tg iter body [] pos) (tFor wi g tb):=by
 intro pins s σ H D I h
 refine wpAny_For (thn (hi pins s σ H _ I h) fun v s1 h1=>thn h1 fun itv s2 h2=>?_) hs
 obtain⟨it,fp,tn,J,H2,e,I2,T,st2,f2,W,⟨m0,w0⟩,turn⟩:=h2
 subst e
 have w19:∀{H':Hp},(∀b∈fp,H' b=none)->∀b∈fp,U1 X pins H' b:=fun hn b hb=>⟨hn b hb,(f2 b hb).2⟩
 refine codeAny_forLoop_any (fun n s'=>∃i σ' H',Inv X pins σ' H' s'/\tn i s'.heap/\(∀b∈fp,H' b=none)/\W i n σ' H') ?_ m0 ⟨0,σ,H2,I2,st2,fun b hb=>(f2 b hb).1,w0⟩
 rintro n s3 ⟨i,σ3,H3,I3,st3,fr3,w3⟩
 rcases turn i n σ3 H3 w3 with ⟨stop,qn⟩|⟨go,N,hN,step⟩
 ·refine wpAny_passesOwn hp (thn (T.done X rfl rfl rfl hc i pins s3 σ3 H3 X.xe I3 (w19 fr3) st3 stop) fun r s4 hz=>?_)
  obtain⟨hr,I4⟩:=hz
  subst hr
  exact wpAny_execs_nil ⟨σ3,H3,I4,qn⟩
 ·refine wpAny_passesOwn hp (thn (T.item X rfl rfl rfl hc i pins s3 σ3 H3 X.xe I3 (w19 fr3) st3 go) fun r s4 hz=>?_)
  obtain⟨u,hr,h4⟩:=hz
  subst hr
  refine wpAny_passesOwn hp (thn h4 fun _ s5 hz=>?_)
  obtain⟨x,H5,I5,r5,y5,st5,fr5⟩:=hz
  have I5':=I5.pinned (w19 fr5) (T.obj _ _ st5)
  refine wpAny_passesOwn hp (thn (hg _ s5 σ3 H5 x u _ I5' r5 (step x H5 y5)) fun _ s6 hz=>?_)
  obtain⟨σ6,H6,I6,q6⟩:=hz
  refine wpAny_passesOwn hp (thn (hb _ s6 σ6 H6 _ I6 q6) fun f s7 q7=>?_)
  have again:∀{σ7:St}{H7:Hp},Inv X (pins++z9W fp s5.heap) σ7 H7 s7->N σ7 H7->∃m,m<n/\∃i σ' H',Inv X pins σ' H' s7/\tn i s7.heap/\(∀b∈fp,H' b=none)/\W i m σ' H':=fun {σ7 H7} I7 n7=>by
   obtain⟨m',hm,w7⟩:=hN σ7 H7 n7
   refine⟨m',hm,i+1,σ7,H7,I7.S3,T.keep _ _ _ st5 fun b hb o e=>(I7.pin (b,o) (cD _ (cD _ (z4M hb e)))).1,fun b hb=>?_,w7⟩
   obtain⟨o,e,d⟩:=T.obj _ _ st5 b hb
   exact(I7.pin (b,o) (cD _ (cD _ (z4M hb e)))).2.1
  cases f with
  | next=>obtain⟨σ7,H7,I7,n7⟩:=q7;exact again I7 n7
  | cont=>obtain⟨σ7,H7,I7,n7⟩:=q7;exact again I7 n7
  | brk=>obtain⟨σ7,H7,I7,q7⟩:=q7;exact⟨σ7,H7,I7.S3,q7⟩
  | ret v=>obtain⟨x7,σ7,H7,I7,r7,q7⟩:=q7;exact⟨x7,σ7,H7,I7.S3,r7,q7⟩
end
theorem z2u{K:PySem.W.Frag}{a:Addr}{xs:List V}{g:TG}{tb:TS}{D:Ends}{σ:St}{H:Hp}(Pv:Nat->St->Hp->Prop)(h0:Pv 0 σ H)(hl:∀i σ H,i≤xs.length->Pv i σ H->SqL K H a xs)
  (hs:∀i x σ H,xs[i]? = some x->Pv i σ H->g x σ H fun σ2 H2=>tb { D with nx:=Pv (i+1),ct:=Pv (i+1),bk:=D.nx } σ2 H2) (hd:∀σ H,Pv xs.length σ H->D.nx σ H) :
  ∃W:Nat->Nat->St->Hp->Prop,(∃m,W 0 m σ H)/\∀i m σ H,W i m σ H->
   ((Itl K a).stop i H/\D.nx σ H)\/((Itl K a).go i H/\∃N:St->Hp->Prop,(∀σ' H',N σ' H'->∃m',m'<m/\W (i+1) m' σ' H')/\∀x H',(Itl K a).yld i H x H'->g x σ H' fun σ2 H2=>tb { D with nx:=N,ct:=N,bk:=D.nx } σ2 H2):=by
 refine⟨fun i m σ H=>m=xs.length-i/\i≤xs.length/\Pv i σ H,⟨xs.length,by simp,cQ _,h0⟩,?_⟩
 rintro i m σ H ⟨rfl,hi,p⟩
 have q:=hl i σ H hi p
 by_cases hlt:i<xs.length
 ·refine .inr ⟨⟨xs,xs[i],q,by simp[hlt]⟩,Pv (i+1),fun σ' H' p'=>⟨xs.length-(i+1),by lia,rfl,hlt,p'⟩,fun x H' y=>?_⟩
  obtain⟨e,y⟩:=y
  subst e
  exact hs i x σ _ (y xs q) p
 ·have e:i=xs.length:=by lia
  subst e
  exact .inl ⟨⟨xs,q,bG _⟩,hd σ H p⟩
theorem y3n{K:PySem.W.Frag}{a:Addr}{xs:List V}{g:TG}{tb:TS}{D:Ends}{σ:St}{H:Hp}(Pv:Nat->St->Hp->Prop)(h0:Pv 0 σ H)(hl:∀i σ H,i≤xs.length->Pv i σ H->SqT K H a xs)
  (hs:∀i x σ H,xs[i]? = some x->Pv i σ H->g x σ H fun σ2 H2=>tb { D with nx:=Pv (i+1),ct:=Pv (i+1),bk:=D.nx } σ2 H2) (hd:∀σ H,Pv xs.length σ H->D.nx σ H) :
  ∃W:Nat->Nat->St->Hp->Prop,(∃m,W 0 m σ H)/\∀i m σ H,W i m σ H->
   ((Itt K a).stop i H/\D.nx σ H)\/((Itt K a).go i H/\∃N:St->Hp->Prop,(∀σ' H',N σ' H'->∃m',m'<m/\W (i+1) m' σ' H')/\∀x H',(Itt K a).yld i H x H'->g x σ H' fun σ2 H2=>tb { D with nx:=N,ct:=N,bk:=D.nx } σ2 H2):=by
 refine⟨fun i m σ H=>m=xs.length-i/\i≤xs.length/\Pv i σ H,⟨xs.length,by simp,cQ _,h0⟩,?_⟩
 rintro i m σ H ⟨rfl,hi,p⟩
 have q:=hl i σ H hi p
 by_cases hlt:i<xs.length
 ·refine .inr ⟨⟨xs,xs[i],q,by simp[hlt]⟩,Pv (i+1),fun σ' H' p'=>⟨xs.length-(i+1),by lia,rfl,hlt,p'⟩,fun x H' y=>?_⟩
  obtain⟨e,y⟩:=y
  subst e
  exact hs i x σ _ (y xs q) p
 ·have e:i=xs.length:=by lia
  subst e
  exact .inl ⟨⟨xs,q,bG _⟩,hd σ H p⟩
theorem z1E{lo:Int}{n:Nat}{g:TG}{tb:TS}{D:Ends}{σ:St}{H:Hp}(Pv:Nat->St->Hp->Prop)(h0:Pv 0 σ H)
  (hs:∀i σ H,i<n->Pv i σ H->g (.int (lo+i)) σ H fun σ2 H2=>tb { D with nx:=Pv (i+1),ct:=Pv (i+1),bk:=D.nx } σ2 H2) (hd:∀σ H,Pv n σ H->D.nx σ H) :
  ∃W:Nat->Nat->St->Hp->Prop,(∃m,W 0 m σ H)/\∀i m σ H,W i m σ H->
   ((Itr lo n).stop i H/\D.nx σ H)\/((Itr lo n).go i H/\∃N:St->Hp->Prop,(∀σ' H',N σ' H'->∃m',m'<m/\W (i+1) m' σ' H')/\∀x H',(Itr lo n).yld i H x H'->g x σ H' fun σ2 H2=>tb { D with nx:=N,ct:=N,bk:=D.nx } σ2 H2):=by
 refine⟨fun i m σ H=>m=n-i/\i≤n/\Pv i σ H,⟨n,by simp,cQ _,h0⟩,?_⟩
 rintro i m σ H ⟨rfl,hi,p⟩
 by_cases hlt:i<n
 ·refine .inr ⟨hlt,Pv (i+1),fun σ' H' p'=>⟨n-(i+1),by lia,rfl,hlt,p'⟩,fun x H' y=>?_⟩
  obtain⟨e,y⟩:=y
  subst e y
  exact hs i σ _ hlt p
 ·have e:i=n:=by lia
  subst e
  exact .inl ⟨bG _,hd σ H p⟩
abbrev R2:=V->V->Hp->VK->Prop
noncomputable def OpR(X:Cx)(f:Value->Value->Sem Value)(r:R2):Prop:=
 ∀(pins:List (Addr×Obj)) (s:Shared) (σ:St) (H:Hp) (x y:V) (v u:Value) (Q:VK),Inv X pins σ H s->RelV x v->RelV y u->r x y H Q->
  wpAny (model X.prog X.w) X.A (f v u) (EP X pins σ Q) X.xe s
noncomputable def UnR(X:Cx)(f:Value->Sem Value)(r:V->Hp->VK->Prop):Prop:=
 ∀(pins:List (Addr×Obj)) (s:Shared) (σ:St) (H:Hp) (x:V) (v:Value) (Q:VK),Inv X pins σ H s->RelV x v->r x H Q->
  wpAny (model X.prog X.w) X.A (f v) (EP X pins σ Q) X.xe s
noncomputable def z3k(X:Cx)(f:Value)(r:List V->Hp->VK->Prop):Prop:=
 ∀(pins:List (Addr×Obj)) (s:Shared) (σ:St) (H:Hp) (xs:List V) (us:List Value) (Q:VK),Inv X pins σ H s->Vals xs us->r xs H Q->
  wpAny (model X.prog X.w) X.A (call f us) (EP X pins σ Q) X.xe s
noncomputable def tOp(r:R2)(ta tb:TE):TE:=fun σ H Q=>ta σ H fun x H1=>tb σ H1 fun y H2=>r x y H2 Q
noncomputable def tUn(r:V->Hp->VK->Prop)(ta:TE):TE:=fun σ H Q=>ta σ H fun x H1=>r x H1 Q
noncomputable def rI(C:Int->Int->Prop)(g:Int->Int->V):R2:=fun x y H Q=>∃i j,x=.int i/\y=.int j/\C i j/\Q (g i j) H
noncomputable def rI0(g:Int->Int->V):R2:=fun x y H Q=>∃i j,x=.int i/\y=.int j/\Q (g i j) H
noncomputable def rU(g:Int->V):V->Hp->VK->Prop:=fun x H Q=>∃i,x=.int i/\Q (g i) H
section
variable{X:Cx}{a b c:Expr}{ta tb tc:TE}{pos:Pos}
theorem w11(ha:PE X a ta)(hb:PE X b tb){pins:List (Addr×Obj)}{s:Shared}{σ:St}{H:Hp}{R:V->V->Hp->Prop}(I:Inv X pins σ H s)
  (h:ta σ H fun x H1=>tb σ H1 fun y H2=>R x y H2) {Q:Value->Shared->Prop}{f:Value->Value->Sem Value}
  (hf:∀v u s2 x y H2,Inv X pins σ H2 s2->RelV x v->RelV y u->R x y H2->wpAny (model X.prog X.w) X.A (f v u) Q X.xe s2) :
  wpAny (model X.prog X.w) X.A (eval a X.env) (fun v s₁=>wpAny (model X.prog X.w) X.A (eval b X.env) (fun u s₂=>wpAny (model X.prog X.w) X.A (f v u) Q X.xe s₂) X.xe s₁) X.xe s:=by
 refine thn (ha pins s σ H _ I h) fun v s1 hz=>?_
 obtain⟨x,H1,I1,r1,q1⟩:=hz
 refine thn (hb pins s1 σ H1 _ I1 q1) fun u s2 hz=>?_
 obtain⟨y,H2,I2,r2,q2⟩:=hz
 exact hf v u s2 x y H2 I2 r1 r2 q2
theorem z0e{op:Operator}{r:R2}(ho:OpR X (binaryOp op) r)(ha:PE X a ta)(hb:PE X b tb):PE X (.BinOp a op b pos) (tOp r ta tb):=by
 intro pins s σ H Q I h
 exact wpAny_BinOp (w11 ha hb I h fun v u s2 x y H2 I2 rx ry q=>ho pins s2 σ H2 x y v u Q I2 rx ry q)
theorem y0B{op:UnaryOp}{r:V->Hp->VK->Prop}(ho:UnR X (unaryOp op) r)(ha:PE X a ta):PE X (.UnaryOp op a pos) (tUn r ta):=by
 intro pins s σ H Q I h
 exact UnaryOp_ (thn (ha pins s σ H _ I h) fun v s1 ⟨x,H1,I1,r1,q1⟩=>ho pins s1 σ H1 x v Q I1 r1 q1)
theorem opI{f:Value->Value->Sem Value}{C:Int->Int->Prop}{g:Int->Int->Int}
  (rule:∀(i j:Int) (t u:Tok) (s:Shared) (Q:Value->Shared->Prop) (E:Value->Shared->Prop),C i j->Q (.int (g i j) s.toks) { s with toks:=s.toks+1 }->wpAny (model X.prog X.w) X.A (f (.int i t) (.int j u)) Q E s) :
  OpR X f (rI C fun i j=>.int (g i j)):=by
 intro pins s σ H x y v u Q I rx ry h
 obtain⟨i,j,rfl,rfl,hc,q⟩:=h
 obtain⟨t,rfl⟩:=rx
 obtain⟨t',rfl⟩:=ry
 exact rule i j t t' s _ _ hc ⟨.int (g i j),H,I.tok _,⟨_,rfl⟩,q⟩
theorem opI0{f:Value->Value->Sem Value}{g:Int->Int->Int}
  (rule:∀(i j:Int) (t u:Tok) (s:Shared) (Q:Value->Shared->Prop) (E:Value->Shared->Prop),Q (.int (g i j) s.toks) { s with toks:=s.toks+1 }->wpAny (model X.prog X.w) X.A (f (.int i t) (.int j u)) Q E s) :
  OpR X f (rI0 fun i j=>.int (g i j)):=by
 intro pins s σ H x y v u Q I rx ry h
 obtain⟨i,j,rfl,rfl,q⟩:=h
 obtain⟨t,rfl⟩:=rx
 obtain⟨t',rfl⟩:=ry
 exact rule i j t t' s _ _ ⟨.int (g i j),H,I.tok _,⟨_,rfl⟩,q⟩
theorem w0u{f:Value->Value->Sem Value}{g:Int->Int->Bool}
  (rule:∀(i j:Int) (t u:Tok) (s:Shared) (Q:Value->Shared->Prop) (E:Value->Shared->Prop),Q (.bool (g i j)) s->wpAny (model X.prog X.w) X.A (f (.int i t) (.int j u)) Q E s) :
  OpR X f (rI0 fun i j=>.bl (g i j)):=by
 intro pins s σ H x y v u Q I rx ry h
 obtain⟨i,j,rfl,rfl,q⟩:=h
 obtain⟨t,rfl⟩:=rx
 obtain⟨t',rfl⟩:=ry
 exact rule i j t t' s _ _ ⟨.bl (g i j),H,I,rfl,q⟩
noncomputable def CDiv(i j:Int):Prop:=0<j/\j<1073741824
noncomputable def CPow(i j:Int):Prop:=0≤j/\j≤1000000/\i.natAbs<2^64
noncomputable def w16(i j:Int):Prop:=(-(2^64)<i/\i<2^64)\/(-(2^64)<j/\j<2^64)
theorem w16.ok{i j:Int}(h:w16 i j):IntMulOk i j:=by
 rcases h with ⟨h1,h2⟩|⟨h1,h2⟩
 ·exact .of_left (intBits_le_64 h1 h2)
 ·exact .of_right (intBits_le_64 h1 h2)
theorem z1q:OpR X (binaryOp .Add) (rI0 fun i j=>.int (i+j)):=opI0 fun _ _ _ _ _ _ _ q=>add_int q
theorem z2J:OpR X (binaryOp .Sub) (rI0 fun i j=>.int (i-j)):=opI0 fun _ _ _ _ _ _ _ q=>sub_int q
theorem z5s:OpR X (binaryOp .Mult) (rI w16 fun i j=>.int (i*j)):=opI fun _ _ _ _ _ _ _ hc q=>mul_int q hc.ok
theorem z0K:OpR X (binaryOp .FloorDiv) (rI CDiv fun i j=>.int (i / j)):=opI fun i j _ _ _ _ _ hc q=>by
 have h1:(0:Int)<j:=hc.1
 have h2:j<1073741824:=hc.2
 exact floordiv_int (by lia) (by rw[Int.fdiv_eq_ediv_of_nonneg i (by lia)];exact q) (.inl (PyProof.noPylong_small (by lia)))
theorem z0I:OpR X (binaryOp .Mod) (rI (fun _ j=>0<j) fun i j=>.int (i%j)):=opI fun i j _ _ _ _ _ hc q=>by
 have h1:(0:Int)<j:=hc
 exact mod_int' (by lia) (by rw[Int.fmod_eq_emod_of_nonneg i (by lia)];exact q)
theorem y1w:OpR X (binaryOp .Pow) (rI CPow fun i j=>.int (i^j.toNat)):=opI fun _ _ _ _ _ _ _ hc q=>pow_int_small hc.1 hc.2.1 hc.2.2 q
theorem unI{f:Value->Sem Value}{g:Int->Int}
  (rule:∀(i:Int) (t:Tok) (s:Shared) (Q:Value->Shared->Prop) (E:Value->Shared->Prop),Q (.int (g i) s.toks) { s with toks:=s.toks+1 }->wpAny (model X.prog X.w) X.A (f (.int i t)) Q E s) :
  UnR X f (rU fun i=>.int (g i)):=by
 intro pins s σ H x v Q I rx h
 obtain⟨i,rfl,q⟩:=h
 obtain⟨t,rfl⟩:=rx
 exact rule i t s _ _ ⟨.int (g i),H,I.tok _,⟨_,rfl⟩,q⟩
theorem z7S:UnR X (unaryOp .USub) (rU fun i=>.int (-i)):=unI fun _ _ _ _ _ q=>neg_int q
end
noncomputable def w0G:V->V->Bool
 | .non,.non=>true|.non,.int _=>true|.int _,.non=>true|.non,.bl _=>true|.bl _,.non=>true|.non,.str _=>true|.str _,.non=>true
 | .int _,.int _=>true|.bl _,.bl _=>true|.str _,.str _=>true|.byt _,.byt _=>true
 | .int _,.str _=>true|.str _,.int _=>true|.bl _,.str _=>true|.str _,.bl _=>true
 | _,_=>false
noncomputable def rEq:R2:=fun x y H Q=>w0G x y=true/\Q (.bl (decide (x=y))) H
noncomputable def rNe:R2:=fun x y H Q=>w0G x y=true/\Q (.bl (!decide (x=y))) H
theorem y2Y{i j:Int}:decide (V.int i=V.int j)=(i == j):=by
 rw[d8]
 simp
theorem y5V{i j:Bool}:decide (V.bl i=V.bl j)=(i == j):=by
 rw[d8]
 simp
theorem y2K{i j:Str}:decide (V.str i=V.str j)=(i == j):=by
 rw[d8]
 simp
theorem y3H{i j:Array UInt8}:decide (V.byt i=V.byt j)=(i.toList == j.toList):=by
 rw[d8]
 cases i
 cases j
 simp
section
variable{X:Cx}{a b c:Expr}{ta tb tc:TE}{pos:Pos}
theorem z1a{pins:List (Addr×Obj)}{σ:St}{H:Hp}{s:Shared}{Q:VK}{k k':Bool}(I:Inv X pins σ H s)(q:Q (.bl k) H)(e:k=k'):EP X pins σ Q (.bool k') s:=by
 subst e
 exact⟨.bl k,H,I,rfl,q⟩
theorem z2y:OpR X (compareOp .Eq) rEq:=by
 intro pins s σ H x y v u Q I rx ry h
 obtain⟨hs,q⟩:=h
 cases x with
 | non=>
  cases rx
  cases y with
  | non=>cases ry;exact PySem.EqNone.eq_none_none (z1a I q (by simp))
  | bl j=>cases ry;exact PySem.EqNone.eq_none_bool (z1a I q (by simp))
  | int j=>obtain⟨t',rfl⟩:=ry;exact PySem.EqNone.eq_none_int (z1a I q (by simp))
  | str j=>obtain⟨t',rfl⟩:=ry;exact PySem.EqNone.eq_none_str (z1a I q (by simp))
  | _=>exact absurd (show false=true from hs) bO
 | bl i=>
  cases rx
  cases y with
  | non=>cases ry;exact PySem.EqNone.eq_bool_none (z1a I q (by simp))
  | bl j=>cases ry;exact eq_bool (z1a I q y5V)
  | str j=>obtain⟨t',rfl⟩:=ry;exact PySem.EqMixed.eq_bool_str (z1a I q (by simp))
  | _=>exact absurd (show false=true from hs) bO
 | int i=>
  obtain⟨t,rfl⟩:=rx
  cases y with
  | non=>cases ry;exact PySem.EqNone.eq_int_none (z1a I q (by simp))
  | int j=>obtain⟨t',rfl⟩:=ry;exact eq_int (z1a I q y2Y)
  | str j=>obtain⟨t',rfl⟩:=ry;exact PySem.EqMixed.eq_int_str (z1a I q (by simp))
  | _=>exact absurd (show false=true from hs) bO
 | str i=>
  obtain⟨t,rfl⟩:=rx
  cases y with
  | non=>cases ry;exact PySem.EqNone.eq_str_none (z1a I q (by simp))
  | bl j=>cases ry;exact PySem.EqMixed.eq_str_bool (z1a I q (by simp))
  | int j=>obtain⟨t',rfl⟩:=ry;exact PySem.EqMixed.eq_str_int (z1a I q (by simp))
  | str j=>obtain⟨t',rfl⟩:=ry;exact eq_str (z1a I q y2K)
  | _=>exact absurd (show false=true from hs) bO
 | byt i=>
  obtain⟨t,rfl⟩:=rx
  cases y with
  | byt j=>obtain⟨t',rfl⟩:=ry;exact PySem.W.eq_bytes (z1a I q y3H)
  | _=>exact absurd (show false=true from hs) bO
 | _=>cases y<;>exact absurd (show false=true from hs) bO
theorem z86:OpR X (compareOp .NotEq) rNe:=by
 intro pins s σ H x y v u Q I rx ry h
 obtain⟨hs,q⟩:=h
 cases x with
 | non=>
  cases rx
  cases y with
  | non=>cases ry;exact PySem.EqNone.ne_none_none (z1a I q (by simp))
  | bl j=>cases ry;exact PySem.EqNone.ne_none_bool (z1a I q (by simp))
  | int j=>obtain⟨t',rfl⟩:=ry;exact PySem.EqNone.ne_none_int (z1a I q (by simp))
  | str j=>obtain⟨t',rfl⟩:=ry;exact PySem.EqNone.ne_none_str (z1a I q (by simp))
  | _=>exact absurd (show false=true from hs) bO
 | bl i=>
  cases rx
  cases y with
  | non=>cases ry;exact PySem.EqNone.ne_bool_none (z1a I q (by simp))
  | bl j=>cases ry;exact ne_bool (z1a I q (congrArg not y5V))
  | str j=>obtain⟨t',rfl⟩:=ry;exact PySem.EqMixed.ne_bool_str (z1a I q (by simp))
  | _=>exact absurd (show false=true from hs) bO
 | int i=>
  obtain⟨t,rfl⟩:=rx
  cases y with
  | non=>cases ry;exact PySem.EqNone.ne_int_none (z1a I q (by simp))
  | int j=>obtain⟨t',rfl⟩:=ry;exact ne_int (z1a I q (congrArg not y2Y))
  | str j=>obtain⟨t',rfl⟩:=ry;exact PySem.EqMixed.ne_int_str (z1a I q (by simp))
  | _=>exact absurd (show false=true from hs) bO
 | str i=>
  obtain⟨t,rfl⟩:=rx
  cases y with
  | non=>cases ry;exact PySem.EqNone.ne_str_none (z1a I q (by simp))
  | bl j=>cases ry;exact PySem.EqMixed.ne_str_bool (z1a I q (by simp))
  | int j=>obtain⟨t',rfl⟩:=ry;exact PySem.EqMixed.ne_str_int (z1a I q (by simp))
  | str j=>obtain⟨t',rfl⟩:=ry;exact ne_str (z1a I q (congrArg not y2K))
  | _=>exact absurd (show false=true from hs) bO
 | byt i=>
  obtain⟨t,rfl⟩:=rx
  cases y with
  | byt j=>obtain⟨t',rfl⟩:=ry;exact PySem.W.ne_bytes (z1a I q (congrArg not y3H))
  | _=>exact absurd (show false=true from hs) bO
 | _=>cases y<;>exact absurd (show false=true from hs) bO
theorem z43:OpR X (compareOp .Lt) (rI0 fun i j=>.bl (decide (i<j))):=w0u fun _ _ _ _ _ _ _ q=>lt_int q
theorem y6p:OpR X (compareOp .LtE) (rI0 fun i j=>.bl (decide (i≤j))):=w0u fun _ _ _ _ _ _ _ q=>le_int q
theorem z1N:OpR X (compareOp .Gt) (rI0 fun i j=>.bl (decide (j<i))):=w0u fun _ _ _ _ _ _ _ q=>gt_int q
theorem y3F:OpR X (compareOp .GtE) (rI0 fun i j=>.bl (decide (j≤i))):=w0u fun _ _ _ _ _ _ _ q=>ge_int q
theorem z0h(b:Expr){op:CmpOp}(h:op≠.In:=by decide)(h2:op≠.NotIn:=by decide):behindInMarks op b=false:=by
 have e1:(op == CmpOp.In)=false:=by cases op<;>first|rfl|exact absurd rfl h
 have e2:(op == CmpOp.NotIn)=false:=by cases op<;>first|rfl|exact absurd rfl h2
 cases b<;>simp[behindInMarks,e1,e2]
theorem z9y{op:CmpOp}{r:R2}(ho:OpR X (compareOp op) r)(ha:PE X a ta)(hb:PE X b tb)(hm:behindInMarks op b=false):PE X (.Compare a [op] [b] pos) (tOp r ta tb):=by
 intro pins s σ H Q I h
 exact wpAny_Compare1 (w11 ha hb I h fun v u s2 x y H2 I2 rx ry q=>ho pins s2 σ H2 x y v u Q I2 rx ry q) hm
noncomputable def w2h(t:TE):TT:=fun σ H Q=>t σ H fun x H'=>∃k,x=.bl k/\Q k H'
theorem z0a{op:CmpOp}{r:R2}(ho:OpR X (compareOp op) r)(ha:PE X a ta)(hb:PE X b tb)(hm:behindInMarks op b=false):PT X (.Compare a [op] [b] pos) (w2h (tOp r ta tb)):=by
 intro pins s σ H Q I h
 refine wpAny_isTrue_Compare1 (thn (ha pins s σ H _ I h) fun v s1 ⟨x,H1,I1,r1,q1⟩=>thn (hb pins s1 σ H1 _ I1 q1) fun u s2 ⟨y,H2,I2,r2,q2⟩=>
  thn (ho pins s2 σ H2 x y v u _ I2 r1 r2 q2) fun c s3 ⟨z,H3,I3,r3,k,e,q3⟩=>?_) hm
 subst e
 cases r3
 exact wpAny_truthy_bool ⟨H3,I3,q3⟩
theorem z5K:(sizeLine:Nat)<2^63:=by rw[sizeLine_eq];decide
theorem z4D:OpR X (binaryOp .Add) (fun x y H Q=>∃i j,x=.str i/\y=.str j/\i.length+j.length≤sizeLine/\Q (.str (i++j)) H):=by
 intro pins s σ H x y v u Q I rx ry h
 obtain⟨i,j,rfl,rfl,hz,q⟩:=h
 obtain⟨t,rfl⟩:=rx
 obtain⟨t',rfl⟩:=ry
 exact add_str (fun t' tk=>⟨.str (i++j),H,I.tok _,⟨_,rfl⟩,q⟩) hz
theorem z4N{x:V}{us:List Value}(r:Vals [x] us):∃u,us=[u]/\RelV x u:=by
 cases r with
 | cons r1 r2=>cases r2;exact⟨_,rfl,r1⟩
theorem y26{x y:V}{us:List Value}(r:Vals [x,y] us):∃u w',us=[u,w']/\RelV x u/\RelV y w':=by
 cases r with
 | cons r1 r2=>
  cases r2 with
  | cons r3 r4=>cases r4;exact⟨_,_,rfl,r1,r3⟩
theorem y4b(hc:X.calm=true):z3k X (.builtin "max") (fun xs H Q=>∃i j,xs=[.int i,.int j]/\Q (.int (if j > i then j else i)) H):=by
 intro pins s σ H xs us Q I r h
 obtain⟨i,j,rfl,q⟩:=h
 obtain⟨u,w',rfl,⟨t,rfl⟩,⟨t',rfl⟩⟩:=y26 r
 refine max_two_ints (I.ok.hd hc) fun h' tk k=>⟨_,H,I.kept k,?_,q⟩
 by_cases hj:j > i
 ·rw[if_pos hj,if_pos hj];exact⟨_,rfl⟩
 ·rw[if_neg hj,if_neg hj];exact⟨_,rfl⟩
end
structure Y3(h:Heap)(x dx C:Addr)(mA:Str->Option Value):Prop where
 obj:h.get? x=some (PySem.W.instObj C dx)
 ns:h.Ns1 dx mA
 ne:dx≠x
theorem y2X{h:Heap}{dx:Addr}{mA:Str->Option Value}(n:h.Ns1 dx mA):∃od,h.get? dx=some od/\∀name,PySem.W.lookIn name od=some (mA name):=by
 obtain⟨o,es,ep,ho,hd,hk,_,hm⟩:=n
 refine⟨o,ho,fun name=>?_⟩
 have e:=hm name
 unfold nsFind findBy at e
 rw[<- Array.find?_toList] at e
 unfold PySem.W.lookIn
 rw[hd]
 dsimp only
 split
 ·rename_i y q
  rw[q] at e
  exact congrArg some e
 ·rename_i q
  rw[q] at e
  have a:es.toList.any (·.refKey)=false:=by
   rw[hW]
   intro y hy
   obtain⟨z,t,hkey⟩:=hk y (Array.mem_toList_iff.mp hy)
   simp[DictEntry.refKey,hkey]
  have a':¬es.toList.any (·.refKey)=true:=by rw[a];exact bO
  rw[if_neg a']
  exact congrArg some e
theorem Y3.look{h:Heap}{x dx C:Addr}{mA:Str->Option Value}(I:Y3 h x dx C mA):∃od,PySem.W.InstAt h x (PySem.W.instObj C dx) C (some od)/\∀name,PySem.W.lookIn name od=some (mA name):=
 let ⟨od,ho,hl⟩:=y2X I.ns
 ⟨od,⟨I.obj,rfl,rfl,ho⟩,hl⟩
section
variable{prog:Program}{w:World}{A:Around}{E:Value->Shared->Prop}{s:Shared}{K:PySem.W.Frag}{x dx C f:Addr}{mA:Str->Option Value}{name:Str}{v:Value}
theorem y6x{expr:Bool}{Q:Value->Shared->Prop}(X:K.In s.heap)(I:Y3 s.heap x dx C mA)(hg:PySem.W.plainGet K C name=true)(hh:PySem.W.hasDictIn K C=true)
  (ha:PySem.W.findIn K (.ref C) name=some none) (hv:mA name=some v) (hv':PySem.W.handedIn v=true) (h:Q v { s with toks:=s.toks+1 }) :
  wpAny (model prog w) A (getAttr (.ref x) name expr) Q E s:=by
 obtain⟨od,J,hl⟩:=I.look
 exact PySem.W.get_value X J (gS hg).1 (PySem.W.findObj_own hh ha rfl (by rw[hl,hv])) hv' h
theorem y4B{pl:Sem Bool}{Q:Value×List Value->Shared->Prop}(X:K.In s.heap)(I:Y3 s.heap x dx C mA)(hg:PySem.W.plainGet K C name=true)
  (hf:PySem.W.findIn K (.ref C) name=some (some (.ref f))) (ht:PySem.W.isFn K (.ref f)=true) (hv:mA name=none) (h:Q (.ref f,[.ref x]) s) :
  wpAny (model prog w) A (getMethod (.ref x) name pl) Q E s:=by
 obtain⟨od,J,hl⟩:=I.look
 exact PySem.W.method_fn X J (gS hg).1 (gS hg).2 hf (beq_iff_eq.mp ht) (by show(PySem.W.lookIn name od).map (·.isSome)=some false;rw[hl,hv];rfl) h
theorem y6F{ns:List Str}{Q:Unit->Shared->Prop}(X:K.In s.heap)(I:Y3 s.heap x dx C mA)
  (hs:PySem.W.findIn K (.ref C) "__setattr__"=some (some (.builtin "object.__setattr__"))) (hp:PySem.W.plainOver K C=true) (ht:PySem.W.takerIn K C name=some none) (hh:PySem.W.hasDictIn K C=true)
  (hw:PySem.Within mA ns) (hsz:ns.length≤sizeLine)
  (h:∀h',Y3 h' x dx C (fun y=>if y=name then some v else mA y)->Heap.SameBut dx s.heap h'->Q () { s with heap:=h',toks:=s.toks+2 }) :
  wpAny (model prog w) A (setAttr (.ref x) name v) Q E s:=by
 obtain⟨od,J,hl⟩:=I.look
 refine PySem.W.set_plain X J hs (PySem.W.osa_open (s:={ s with toks:=s.toks+1 }) (r:=none) X J hp ht fun b=>?_)
 obtain⟨cd,hc,hd'⟩:=PySem.W.any_some hh
 have hx:s.heap.get? x=some ⟨.ref C,some dx,.plain,#[]⟩:=I.obj
 refine wpAny_bind (wpAny_pure (wpAny_bind (wpAny_bind (wpAny_loadPart hx (wpAny_bind (PySem.W.Looks.here (s:={ s with toks:=s.toks+1 }) (PySem.W.looks_clsIn X hc) ?_))))))
 rw[hd']
 refine wpAny_pure (a:=some dx) (wpAny_bind (wpAny_pure (wpAny_bind ?_)))
 refine wpAny_nsSet1 (s:={ s with toks:=s.toks+1 }) I.ns fun h' hn2 hs2=>?_
 obtain⟨oD,esD,epD,hoD,hdD,hcD⟩:=hn2.count (PySem.Within.cons name v hw)
 refine wpAny_bind (wpAny_lookBehind hoD (by rw[hdD];exact pastItsLine_dict (c9 hcD (by rw[bY];lia))) ?_)
 exact wpAny_pure (h _ ⟨(hs2.2 _ (cU I.ne)).trans I.obj,hn2,I.ne⟩ hs2)
theorem y5g{R:Result->Shared->Prop}{vs:List Value}{kw:List (Str×Value)}(X:K.In s.heap)(hm:PySem.W.makesIn K C=true)
  (hi:PySem.W.findIn K (.ref C) "__init__"=some (some (.ref f))) (hf:PySem.W.typeIn K (.ref f)=some (.type "function"))
  (h:codeAny (model prog w) (A.under (.builtin "type.__call__" ⟨.ref C::vs,kw⟩)) (.call (.ref f) ⟨.ref (s.heap.objs.size+1)::vs,kw⟩) (PySem.W.InitBack (s.heap.objs.size+1) R)
   { s with heap:=(s.heap.push PySem.W.emptyDict).push (PySem.W.instObj C s.heap.objs.size) }) :
  codeAny (model prog w) A (.call (.ref C) ⟨vs,kw⟩) R s:=by
 obtain⟨hh,g,d,t,os⟩:=s
 exact PySem.W.make_core (PySem.W.makes_of X hm) (PySem.W.looks_findIn X hi) (fun self=>PySem.W.bind_fn X self hf) (.inl rfl) h
end
noncomputable def L5(f:Str)(v:V):List (Str×V)->List (Str×V)
 | []=>[(f,v)]
 | (g,x)::r=>if g=f then (g,v)::r else (g,x)::L5 f v r
theorem z0n(f g:Str)(v:V):∀fs:List (Str×V),(L5 f v fs).lookup g=if g=f then some v else fs.lookup g
 | []=>by
  show List.lookup g [(f,v)]=_
  by_cases h:g=f
  ·have hb:(g == f)=true:=beq_iff_eq.mpr h
   simp only[List.lookup,hb,if_pos h]
  ·have hb:(g == f)=false:=beq_eq_false_iff_ne.mpr h
   simp only[List.lookup,hb,if_neg h]
 | (k,x)::r=>by
  have ih:=z0n f g v r
  rw[show L5 f v ((k,x)::r)=(if k=f then (k,v)::r else (k,x)::L5 f v r) from rfl]
  by_cases hk:k=f
  ·rw[if_pos hk]
   by_cases h:g=k
   ·have hb:(g == k)=true:=beq_iff_eq.mpr h
    simp only[List.lookup,hb,if_pos (h.trans hk)]
   ·have hb:(g == k)=false:=beq_eq_false_iff_ne.mpr h
    simp only[List.lookup,hb,if_neg (fun e:g=f=>h (e.trans hk.symm))]
  ·rw[if_neg hk]
   by_cases h:g=k
   ·have hb:(g == k)=true:=beq_iff_eq.mpr h
    simp only[List.lookup,hb,if_neg (fun e:g=f=>hk (h.symm.trans e))]
   ·have hb:(g == k)=false:=beq_eq_false_iff_ne.mpr h
    simp only[List.lookup,hb]
    exact ih
theorem z7B(f:Str)(v:V):∀fs:List (Str×V),f∈(L5 f v fs).map (·.1)/\∀g,g∈fs.map (·.1)->g∈(L5 f v fs).map (·.1)
 | []=>⟨by simp[L5],fun g h=>by simp at h⟩
 | (k,x)::r=>by
  obtain⟨i1,i2⟩:=z7B f v r
  rw[show L5 f v ((k,x)::r)=(if k=f then (k,v)::r else (k,x)::L5 f v r) from rfl]
  by_cases hk:k=f
  ·rw[if_pos hk]
   subst hk
   exact⟨by simp,fun g h=>by simpa using h⟩
  ·rw[if_neg hk]
   refine⟨?_,fun g h=>?_⟩
   ·rw[cP]
    exact bP _ i1
   ·rw[cP] at h ⊢
    rcases bC.mp h with e|e
    ·exact bC.mpr (.inl e)
    ·exact bP _ (i2 g e)
theorem z1C(f:Str)(v:V):∀fs:List (Str×V),(L5 f v fs).length≤fs.length+1
 | []=>by simp[L5]
 | (k,x)::r=>by
  have ih:=z1C f v r
  rw[show L5 f v ((k,x)::r)=(if k=f then (k,v)::r else (k,x)::L5 f v r) from rfl]
  by_cases hk:k=f
  ·rw[if_pos hk,bY,bY];lia
  ·rw[if_neg hk,bY,bY];lia
theorem Q8.some_of{v:V}{o:Option Value}(r:Q8 (some v) o):∃u,o=some u/\RelV v u:=by
 cases o with
 | none=>exact(show False from r).elim
 | some u=>exact⟨u,rfl,r⟩
theorem Q8.none_of{o:Option Value}(r:Q8 none o):o=none:=by
 cases o with
 | none=>rfl
 | some u=>exact(show False from r).elim
theorem y2z{v:V}{u:Value}(r:RelV v u):PySem.W.handedIn u=true:=by
 cases v with
 | non=>cases (show u=Value.none from r);rfl
 | bl b=>cases (show u=Value.bool b from r);rfl
 | int i=>obtain⟨t,e⟩:=(show ∃t,u=Value.int i t from r);cases e;rfl
 | str x=>obtain⟨t,e⟩:=(show ∃t,u=Value.str x t from r);cases e;rfl
 | byt b=>obtain⟨t,e⟩:=(show ∃t,u=Value.bytes b t from r);cases e;rfl
 | flt b=>obtain⟨t,e⟩:=(show ∃t,u=Value.float b t from r);cases e;rfl
 | ref a=>cases (show u=Value.ref a from r);rfl
 | ty n=>cases (show u=Value.type n from r);rfl
section
variable{P:Program}{w:World}{H H':Hp}{h h':Heap}{a C dx:Addr}{fs fs':List (Str×V)}
theorem z93(hok:HOk P w H h)(e:H a=some (.ins C dx fs)):∃mA,Y3 h a dx C mA/\(∀f,Q8 (fs.lookup f) (mA f))/\PySem.Within mA (fs.map (·.1))/\fs.length≤1000/\H dx=some (.own a):=by
 obtain⟨d,z,ne,ob,mA,n,r,q⟩:=(show z1o P w H h a (.ins C dx fs) from hok a _ e)
 exact⟨mA,⟨ob,n,ne⟩,r,q,z,d⟩
end
structure Cls(K:PySem.W.Frag)(C:Addr):Prop where
 pg:PySem.W.plainGet K C Str.empty=true
 hd:PySem.W.hasDictIn K C=true
 po:PySem.W.plainOver K C=true
 sa:PySem.W.findIn K (.ref C) "__setattr__"=some (some (.builtin "object.__setattr__"))
theorem Cls.get{K:PySem.W.Frag}{C:Addr}(c:Cls K C)(f:Str):PySem.W.plainGet K C f=true:=c.pg
noncomputable def z2R(K:PySem.W.Frag)(C:Addr)(f:Str):Prop:=PySem.W.findIn K (.ref C) f=some none
theorem z2R.w1S{K:PySem.W.Frag}{C:Addr}{f:Str}(n:z2R K C f):PySem.W.takerIn K C f=some none:=by
 unfold PySem.W.takerIn
 rw[show PySem.W.findIn K (.ref C) f=some none from n]
 rfl
structure Meth(K:PySem.W.Frag)(C:Addr)(m:Str)(f:Addr):Prop where
 at_:PySem.W.findIn K (.ref C) m=some (some (.ref f))
 fn:PySem.W.isFn K (.ref f)=true
 kp:PySem.W.keepIn K (.ref f)=true
section
variable{X:Cx}{pins:List (Addr×Obj)}{σ:St}{H:Hp}{s:Shared}{a C dx:Addr}{fs:List (Str×V)}{f:Str}{v:V}{A:Around}{E:Value->Shared->Prop}
theorem y2f{b:Bool}{Q:Value->Shared->Prop}(I:Inv X pins σ H s)(e:H a=some (.ins C dx fs))(c:Cls X.K C)(n:z2R X.K C f)(l:fs.lookup f=some v)
  (h:∀u s',Inv X pins σ H s'->RelV v u->Q u s'):wpAny (model X.prog X.w) A (getAttr (.ref a) f b) Q E s:=by
 obtain⟨mA,O,r,_,_,_⟩:=z93 I.hok e
 obtain⟨u,hu,ru⟩:=Q8.some_of (v:=v) (o:=mA f) (by rw[<- l];exact r f)
 exact y6x I.kIn O (c.get f) c.hd n hu (y2z ru) (h u _ (I.tok _) ru)
theorem z3t{m:Str}{g:Addr}{pl:Sem Bool}{Q:Value×List Value->Shared->Prop}(I:Inv X pins σ H s)(e:H a=some (.ins C dx fs))(c:Cls X.K C)(k:Meth X.K C m g)(l:fs.lookup m=none)
  (h:Q (.ref g,[.ref a]) s):wpAny (model X.prog X.w) A (getMethod (.ref a) m pl) Q E s:=by
 obtain⟨mA,O,r,_,_,_⟩:=z93 I.hok e
 have hn:mA m=none:=Q8.none_of (by rw[<- l];exact r m)
 exact y4B I.kIn O (c.get m) k.at_ k.fn hn h
theorem y1Z{y:V}{u:Value}{Q:Unit->Shared->Prop}(I:Inv X pins σ H s)(e:H a=some (.ins C dx fs))(c:Cls X.K C)(n:z2R X.K C f)(hl:fs.length<1000)(ry:RelV y u)
  (h:∀s',Inv X pins σ (upd H a (.ins C dx (L5 f y fs))) s'->Q () s'):wpAny (model X.prog X.w) A (setAttr (.ref a) f u) Q E s:=by
 obtain⟨mA,O,r,wi,_,ho⟩:=z93 I.hok e
 have hz:(fs.map (·.1)).length≤sizeLine:=by rw[b6,sizeLine_eq];lia
 refine y6F I.kIn O c.sa c.po n.w1S c.hd wi hz fun h' O' sb=>h _ ?_
 have hd:∃o,h'.get? dx=some o:=let ⟨o,_,_,e',_⟩:=O'.ns;⟨o,e'⟩
 refine I.write (x:=a) (e:=dx) (by rw[e];exact True.intro) (.inr ho) (fun b q hb z=>(sb.2 b hb).trans z) hd ?_
 refine⟨by rw[z0f O.ne];exact ho,?_,O.ne,O'.obj,_,O'.ns,fun g=>?_,fun g hg=>?_⟩
 ·have:=z1C f y fs;lia
 ·show Q8 ((L5 f y fs).lookup g) (if g=f then some u else mA g)
  rw[z0n]
  by_cases q:g=f
  ·rw[if_pos q,if_pos q];exact ry
  ·rw[if_neg q,if_neg q];exact r g
 ·by_cases q:g=f
  ·rw[q];exact(z7B f y fs).1
  ·refine(z7B f y fs).2 g (wi g fun z=>hg ?_)
   show(if g=f then some u else mA g)=none
   rw[if_neg q];exact z
theorem Inv.made(I:Inv X pins σ H s):Inv X pins σ (upd (upd H s.heap.objs.size (.own (s.heap.objs.size+1))) (s.heap.objs.size+1) (.ins C s.heap.objs.size []))
  { s with heap:=(s.heap.push PySem.W.emptyDict).push (PySem.W.instObj C s.heap.objs.size) }:=by
 have e1:(s.heap.push PySem.W.emptyDict).get? s.heap.objs.size=some PySem.W.emptyDict:=bK s.heap rfl
 have e2:((s.heap.push PySem.W.emptyDict).push (PySem.W.instObj C s.heap.objs.size)).get? (s.heap.objs.size+1)=some (PySem.W.instObj C s.heap.objs.size):=by
  have:=bK (s.heap.push PySem.W.emptyDict) (o:=PySem.W.instObj C s.heap.objs.size) rfl
  rwa [fH] at this
 have e3:(s.heap.push PySem.W.emptyDict).Ns s.heap.objs.size (fun _=>none):=⟨PySem.W.emptyDict,#[],_,e1,rfl,(fun e he=>absurd he (by simp)),fun _=>rfl⟩
 have I1:=I.laid (a:=s.heap.objs.size) (o:=.own (s.heap.objs.size+1)) (h':=s.heap.push PySem.W.emptyDict) (t':=s.toks) (fun b u q=>bB _ q) (bG _) ⟨_,e1⟩
 refine I1.laid (a:=s.heap.objs.size+1) (o:=.ins C s.heap.objs.size []) (t':=s.toks) (fun b u q=>bB _ q) (Nat.le_of_eq (fH _ _)) ?_
 have ne:s.heap.objs.size≠s.heap.objs.size+1:=cC (fL _)
 refine⟨by rw[z0f ne,z03],cQ _,ne,e2,fun _=>none,(Heap.Ns1.of_empty e3).at fun o q=>bB _ q,fun _=>True.intro,fun y hy=>absurd rfl hy⟩
theorem y6t{prog:Program}{w:World}{env:Env}{e:Expr}{f:Str}{pos:Pos}{s:Shared}{Q:Value->Shared->Prop}(hb:attributeBase e f env (eval e env)=eval e env)
  (h:wpAny (model prog w) A (eval e env) (fun o s₁=>wpAny (model prog w) A (getAttr o f true) Q E s₁) E s):wpAny (model prog w) A (eval (.Attribute e f pos) env) Q E s:=
 Attribute_any_ h (by rw[arm_eval_Attribute,hb])
end
noncomputable def tFld(K:PySem.W.Frag)(ta:TE)(f:Str):TE:=fun σ H Q=>ta σ H fun x H1=>∃a C dx fs v,x=.ref a/\H1 a=some (.ins C dx fs)/\Cls K C/\z2R K C f/\fs.lookup f=some v/\Q v H1
noncomputable def sFld(K:PySem.W.Frag)(ta tv:TE)(f:Str):TS:=fun D σ H=>tv σ H fun y H1=>ta σ H1 fun x H2=>∃a C dx fs,x=.ref a/\H2 a=some (.ins C dx fs)/\Cls K C/\z2R K C f/\fs.length<1000/\
 D.nx σ (upd H2 a (.ins C dx (L5 f y fs)))
section
variable{X:Cx}{o e value:Expr}{f:Str}{pos pos' tpos:Pos}{ta tv:TE}
theorem z0A(he:PE X e ta)(hb:attributeBase e f X.env (eval e X.env)=eval e X.env):PE X (.Attribute e f pos) (tFld X.K ta f):=by
 intro pins s σ H Q I h
 refine y6t hb (thn (he pins s σ H _ I h) fun u s1 hz=>?_)
 obtain⟨x,H1,I1,rx,a,C,dx,fs,v,ex,ea,c,n,l,q⟩:=hz
 subst ex
 obtain rfl:u=Value.ref a:=rx
 exact y2f I1 ea c n l fun u' s2 I2 ru=>⟨v,H1,I2,ru,q⟩
theorem z5J(ha:PE X o ta)(hv:PE X value tv)(hs:swapsWith value (some (.Attribute o f pos')) pos.line X.env=pure false):PS X (.Assign [.Attribute o f pos'] value pos) (sFld X.K ta tv f):=by
 intro pins s σ H D I h
 refine plainObj_wpAny_Assign_Attribute (thn (hv pins s σ H _ I h) fun u s1 ⟨y,H1,I1,ry,q⟩=>thn (ha pins s1 σ H1 _ I1 q) fun ov s2 hz=>?_) hs
 obtain⟨x,H2,I2,rx,a,C,dx,fs,ex,ea,c,n,l,q2⟩:=hz
 subst ex
 obtain rfl:ov=Value.ref a:=rx
 exact y1Z I2 ea c n l ry fun s3 I3=>⟨σ,_,I3,q2⟩
theorem y6B{pl:Sem Bool}{m:Str}{apos:Pos}{args:List Expr}{pins:List (Addr×Obj)}{s:Shared}{σ:St}{H:Hp}{Q:Value->Shared->Prop}{te:TE}(he:PE X e te)(I:Inv X pins σ H s)
  (h:te σ H fun x H1=>∃a C dx fs g,x=.ref a/\H1 a=some (.ins C dx fs)/\Cls X.K C/\Meth X.K C m g/\fs.lookup m=none/\
   ∀s1,Inv X pins σ H1 s1->wpAny (model X.prog X.w) X.A (callWith pos (.ref g) [.ref a] (backTo pos (starEach args X.env)) (backToKw pos (keywordEach [] X.env))) Q X.xe s1)
  (ht:eval (.Call (.Attribute e m apos) args [] pos) X.env=(do
   let ov <- eval e X.env
   standAt apos.atName
   let (f,first) <- holding [ov] (getMethod ov m pl)
   callWith pos f first (backTo pos (starEach args X.env)) (backToKw pos (keywordEach [] X.env)))) :
  wpAny (model X.prog X.w) X.A (eval (.Call (.Attribute e m apos) args [] pos) X.env) Q X.xe s:=by
 refine dU (pl:=pl) (thn (he pins s σ H _ I h) fun u s1 hz=>?_) ht
 obtain⟨x,H1,I1,rx,a,C,dx,fs,g,ex,ea,c,k,l,q⟩:=hz
 subst ex
 obtain rfl:u=Value.ref a:=rx
 exact z3t I1 ea c k l (q s1 I1)
end
section
variable{X:Cx}{pins:List (Addr×Obj)}{σ:St}{H:Hp}{s:Shared}{A:Around}{E:Value->Shared->Prop}{Q:Value->Shared->Prop}{c:Value}{b:Bool}
inductive S7(K:PySem.W.Frag)(H:Hp):V->Value->Prop where
 | non:S7 K H .non (.type "NoneType")
 | bl (x:Bool):S7 K H (.bl x) (.type "bool")
 | int (i:Int):S7 K H (.int i) (.type "int")
 | str (x:Str):S7 K H (.str x) (.type "str")
 | flt (x:UInt64):S7 K H (.flt x) (.type "float")
 | lst {a:Addr}{xs:List V} (e:H a=some (.lst xs)):S7 K H (.ref a) (.type "list")
 | frz {a:Addr}{o:Obj}{xs:List V} (e:H a=some (.frz o (.lst xs))):S7 K H (.ref a) (.type "list")
 | tup {a:Addr}{xs:List V} (e:H a=some (.tup xs)):S7 K H (.ref a) (.type "tuple")
 | dK {a:Addr}{kvs:List (Key×V)} (e:H a=some (.dK kvs)):S7 K H (.ref a) (.type "dict")
 | dT {a:Addr}{kvs:List (List Key×V)} (e:H a=some (.dT kvs)):S7 K H (.ref a) (.type "dict")
 | ins {a C dx:Addr}{fs:List (Str×V)} (e:H a=some (.ins C dx fs)) (cl:Cls K C) (ha:PySem.W.findIn K (.ref C) "__class__"=some (some (.builtin "object.__class__")))
   (hn:PySem.W.specialIn K (.builtin "object.__class__") "__get__"=some (some (.builtin "getset_descriptor.__get__"))) (htk:PySem.W.takesIn K (.builtin "object.__class__")=some true)
   (hm:PySem.W.mroIn K C (.type "object")=some true):S7 K H (.ref a) (.ref C)
theorem y3Y{x:V}{u t:Value}(I:Inv X pins σ H s)(rx:RelV x u)(ty:S7 X.K H x t)(e:PySem.W.kitOne X.K t c=some b)(h:∀tk,Q (.bool b) { s with toks:=tk }) :
  wpAny (model X.prog X.w) A (call (.builtin "isinstance") [u,c]) Q E s:=by
 cases ty with
 | non=>cases (show u=Value.none from rx);exact d9 PySem.W.kitx_none I.kIn True.intro e (fun z=>nomatch z) h
 | bl y=>cases (show u=Value.bool y from rx);exact d9 PySem.W.kitx_bool I.kIn True.intro e (fun z=>nomatch z) h
 | int i=>obtain⟨t,q⟩:=(show ∃t,u=Value.int i t from rx);cases q;exact d9 PySem.W.kitx_int I.kIn True.intro e (fun z=>nomatch z) h
 | str y=>obtain⟨t,q⟩:=(show ∃t,u=Value.str y t from rx);cases q;exact d9 PySem.W.kitx_str I.kIn True.intro e (fun z=>nomatch z) h
 | flt y=>obtain⟨t,q⟩:=(show ∃t,u=Value.float y t from rx);cases q;exact d9 PySem.W.kitx_float I.kIn True.intro e (fun z=>nomatch z) h
 | @lst a xs ea=>
  cases (show u=Value.ref a from rx)
  obtain⟨_,_,n,_,h1⟩:=(show z1o X.prog X.w H s.heap a (.lst xs) from I.hok a _ ea)
  exact d9 PySem.W.kitx_list I.kIn ⟨_,h1,rfl⟩ e (fun z=>nomatch z) h
 | @frz a ob xs ea=>
  cases (show u=Value.ref a from rx)
  obtain⟨_,_,_,n,_,h1⟩:=(show z1o X.prog X.w H s.heap a (.frz ob (.lst xs)) from I.hok a _ ea)
  exact d9 PySem.W.kitx_list I.kIn ⟨_,h1,rfl⟩ e (fun z=>nomatch z) h
 | @tup a xs ea=>
  cases (show u=Value.ref a from rx)
  obtain⟨_,_,_,p⟩:=(show z1o X.prog X.w H s.heap a (.tup xs) from I.hok a _ ea)
  obtain⟨o,h1,h2,_⟩:=p
  exact d9 PySem.W.kitx_tuple I.kIn ⟨o,h1,h2⟩ e (fun z=>nomatch z) h
 | @dK a kvs ea=>
  cases (show u=Value.ref a from rx)
  obtain⟨_,_,vs,_,p⟩:=(show z1o X.prog X.w H s.heap a (.dK kvs) from I.hok a _ ea)
  obtain⟨o,es,ep,h1,h2,_⟩:=p
  exact d9 PySem.W.kitx_dict I.kIn ⟨o,h1,h2.1⟩ e (fun z=>nomatch z) h
 | @dT a kvs ea=>
  cases (show u=Value.ref a from rx)
  obtain⟨_,_,xs,_,o,es,ep,h1,h2,_⟩:=(show z1o X.prog X.w H s.heap a (.dT kvs) from I.hok a _ ea)
  exact d9 PySem.W.kitx_dict I.kIn ⟨o,h1,h2.1⟩ e (fun z=>nomatch z) h
 | @ins a C dx fs ea cl ha hn htk hm=>
  cases (show u=Value.ref a from rx)
  obtain⟨mA,O,_⟩:=z93 I.hok ea
  obtain⟨od,J,_⟩:=O.look
  exact d9 (PySem.W.kitx_own (cl.get _) cl.hd ha hn htk hm) I.kIn J e (fun z=>nomatch z) h
end
structure E3(k:Nat)(A:Around):Prop where
 hd:A.handled=none
 dp:A.depth+3*k+5<recursionLimit
 un:A.units+16*k+200<cLine
theorem E3.mono{j k:Nat}{A:Around}(r:E3 k A)(h:j≤k):E3 j A:=⟨r.hd,by have:=r.dp;lia,by have:=r.un;lia⟩
theorem E3.deeper{k:Nat}{A:Around}(r:E3 (k+1) A)(env:Env):E3 k (A.deeper env):=
 ⟨r.hd,by have:=r.dp;show A.depth+1+3*k+5<_;lia,by have:=r.un;show A.units+3+16*k+200<_;lia⟩
theorem y2d{A:Around}{C:Addr}{us:List Value}{kw:List (Str×Value)}:(A.under (.builtin "type.__call__" ⟨.ref C::us,kw⟩)).depth=A.depth+1:=by
 first|rfl|simp[Around.under,Code.weight,Code.isCreation,Code.isGuard,Code.isCaller,Code.frames,Code.isFrame,guardIds]
theorem y2h{A:Around}{C:Addr}{us:List Value}{kw:List (Str×Value)}:(A.under (.builtin "type.__call__" ⟨.ref C::us,kw⟩)).units=A.units+1:=by
 first|rfl|simp[Around.under,Code.cUnits,Code.frames,Code.isFrame]
theorem E3.make{k:Nat}{A:Around}(r:E3 (k+1) A)(C:Addr)(us:List Value)(kw:List (Str×Value)):E3 k (A.under (.builtin "type.__call__" ⟨.ref C::us,kw⟩)):=
 ⟨r.hd,by have:=r.dp;rw[y2d];lia,by have:=r.un;rw[y2h];lia⟩
theorem E3.depth{k:Nat}{A:Around}(r:E3 k A):A.depth<recursionLimit:=by have:=r.dp;lia
theorem E3.units{k:Nat}{A:Around}(r:E3 k A):A.units+64<cLine:=by have:=r.un;lia
theorem E3.Y7{k:Nat}{A:Around}(r:E3 k A):A.units<cLine:=by have:=r.un;lia
noncomputable def Z3:TA:=fun _ H Q=>Q [] H
noncomputable def y68(ta:TE)(tr:TA):TA:=fun σ H Q=>ta σ H fun x H1=>tr σ H1 fun xs H2=>Q (x::xs) H2
section
variable{X:Cx}{e:Expr}{es:List Expr}{te:TE}{t:TA}{pos:Pos}
theorem z02:PA X [] Z3:=fun _ _ _ _ H Q I h=>Calls.spliced_nil ⟨[],H,I,.nil,h⟩
theorem z00(ha:PE X e te)(hr:PA X es t)(hs:starEach (e::es) X.env=(false,eval e X.env)::starEach es X.env:=by rfl):PA X (e::es) (y68 te t):=by
 intro pos pins s σ H Q I h
 rw[hs]
 show wpAny _ _ (spliced ((false,eval e X.env)::backTo pos (starEach es X.env))) _ _ s
 refine Calls.spliced_cons (thn (ha pins s σ H _ I h) fun u s1 hz=>?_)
 obtain⟨x,H1,I1,r1,q1⟩:=hz
 exact thn (hr pos pins s1 σ H1 _ I1 q1) fun us s2 ⟨xs,H2,I2,r2,q2⟩=>⟨x::xs,H2,I2,.cons r1 r2,q2⟩
noncomputable def tTup(t:TA):TE:=fun σ H Q=>t σ H fun xs H1=>xs.length≤sizeLine/\∀p,H1 p=none->Q (.ref p) (upd H1 p (.tup xs))
noncomputable def tLst(t:TA):TE:=fun σ H Q=>t σ H fun xs H1=>xs.length≤sizeLine/\∀p,H1 p=none->Q (.ref p) (upd H1 p (.lst xs))
theorem z0X{x1}(h:PA X es t):PE X (.Tuple es x1 pos) (tTup t):=by
 intro pins s σ H Q I hq
 refine wpAny_Tuple_spliced (thn (h pos pins s σ H _ I hq) fun us s1 ⟨xs,H1,I1,r,z,q⟩=>⟨by rw[<- r.length];exact z,?_⟩)
 have hf:H1 s1.heap.objs.size=none:=I1.hok.fresh (bG _)
 refine⟨.ref s1.heap.objs.size,upd H1 s1.heap.objs.size (.tup xs),I1.laid (t':=s1.toks) (fun b u e=>bB _ e) (bG _) ?_,rfl,q _ hf⟩
 exact⟨z,us,r,⟨_,bK _ rfl,rfl,⟨_,rfl⟩,rfl⟩⟩
theorem z0T(h:PA X es t):PE X (.List es pos) (tLst t):=by
 intro pins s σ H Q I hq
 refine wpAny_List_spliced (thn (h pos pins s σ H _ I hq) fun us s1 ⟨xs,H1,I1,r,z,q⟩=>⟨by rw[<- r.length];exact z,?_⟩)
 have hf:H1 s1.heap.objs.size=none:=I1.hok.fresh (bG _)
 refine⟨.ref s1.heap.objs.size,upd H1 s1.heap.objs.size (.lst xs),I1.laid (t':=s1.toks) (fun b u e=>bB _ e) (bG _) ?_,rfl,q _ hf⟩
 exact⟨z,us,0,r,bK _ rfl⟩
end
abbrev Sp:=List V->Hp->VK->XK->Prop
abbrev CXT:=List Env->Hp->Shared->XK->Value->Shared->Prop
structure Y1(P:Program)(w:World)(K:PySem.W.Frag)(mg:Str->Option Value)(base:Heap)(A:Around)(outer:List Env)(s:Shared)(H:Hp):Prop where
 frames:A.frames=some outer
 mod:Mod K mg base
 bs:∀b o,base.get? b=some o->s.heap.get? b=some o/\H b=none
 bsz:base.objs.size≤s.heap.objs.size
 S6:s.heap.FunFrames base outer
 frf:∀b∈frs outer,H b=none
 hok:HOk P w H s.heap
 bare:AllBare s.gens
noncomputable def CE(outer:List Env)(P:Program)(w:World)(H:Hp)(s:Shared)(Q:VK)(u:Value)(s':Shared):Prop:=
 ∃v H',s'.os=s.os/\AllBare s'.gens/\Un (frs outer) [] H H' s.heap s'.heap/\HOk P w H' s'.heap/\RelV v u/\Q v H'
noncomputable def CR(CX:CXT)(outer:List Env)(P:Program)(w:World)(H:Hp)(s:Shared)(Q:VK)(E:XK)(r:Result)(s':Shared):Prop:=
 match r with
 | .ok (.ret u)=>CE outer P w H s Q u s'
 | .ok _=>False
 | .error e=>CX outer H s E e s'
structure A8(P:Program)(w:World)(K:PySem.W.Frag)(mg:Str->Option Value)(base:Heap)(CX:CXT)(k:Nat)(f:Addr)(fd:FuncData)(ps:List Str)(sp:Sp):Prop where
 len:∀vs H Q E,sp vs H Q E->vs.length=ps.length
 run:∀(A:Around) (outer:List Env) (s:Shared) (H:Hp) (args:Args) (us:List Value) (vs:List V) (Q:VK) (E:XK),E3 k A->Y1 P w K mg base A outer s H->BindsTo s fd args (ps.zip us)->Vals vs us->sp vs H Q E->
  codeAny (model P w) A (.call (.ref f) args) (CR CX outer P w H s Q E) s
theorem A8.mono{P:Program}{w:World}{K:PySem.W.Frag}{mg:Str->Option Value}{base:Heap}{CX:CXT}{j k:Nat}{f:Addr}{fd:FuncData}{ps:List Str}{sp:Sp}(F:A8 P w K mg base CX j f fd ps sp)(h:j≤k) :
  A8 P w K mg base CX k f fd ps sp:=⟨F.len,fun A outer s H args us vs Q E hr=>F.run A outer s H args us vs Q E (hr.mono h)⟩
theorem Y1.make{P:Program}{w:World}{K:PySem.W.Frag}{mg:Str->Option Value}{base:Heap}{A:Around}{outer:List Env}{s:Shared}{H:Hp}(e:Y1 P w K mg base A outer s H)(C:Addr)(us:List Value)(kw:List (Str×Value)) :
  Y1 P w K mg base (A.under (.builtin "type.__call__" ⟨.ref C::us,kw⟩)) outer s H:=⟨by first|exact e.frames|(simpa [Around.under,Code.envs,Code.isFrame,pushEnvs] using e.frames),e.mod,e.bs,e.bsz,e.S6,e.frf,e.hok,e.bare⟩
section
variable{X:Cx}{pins:List (Addr×Obj)}{σ:St}{H:Hp}{s s':Shared}
theorem Inv.w0R(I:Inv X pins σ H s):Y1 X.prog X.w X.K X.mg X.base X.A X.stack s H:=
 ⟨I.ok.frames,I.ok.mod,I.bs,c9 I.ok.bsz I.sz,I.stack,I.P0,I.hok,I.bare⟩
theorem Inv.after{Q:VK}{u:Value}(I:Inv X pins σ H s)(h:CE X.stack X.prog X.w H s Q u s'):EP X pins σ Q u s':=by
 obtain⟨v,H',os,bare,un,hok,r,q⟩:=h
 obtain⟨hh,g,d,t,os'⟩:=s'
 obtain rfl:os'=s.os:=os
 exact⟨v,H',I.call (h':=hh) (g':=g) (d':=d) (t':=t) (ch:=[]) un hok bare (fun b z=>absurd z (by simp)),r,q⟩
end
noncomputable def y7J(sp:Sp)(dvs:List V)(E:XK)(t:TA):TE:=fun σ H Q=>t σ H fun vs H1=>sp (vs++dvs) H1 Q E
noncomputable def y4L(C:Addr)(m:Str)(sp:Sp)(dvs:List V)(E:XK)(ta:TE)(t:TA):TE:=fun σ H Q=>ta σ H fun x H1=>∃a dx fs,x=.ref a/\H1 a=some (.ins C dx fs)/\fs.lookup m=none/\
 t σ H1 fun vs H2=>sp (x::(vs++dvs)) H2 Q E
noncomputable def y71(C:Addr)(sp:Sp)(dvs:List V)(E:XK)(t:TA):TE:=fun σ H Q=>t σ H fun vs H1=>∀x dx,H1 x=none->H1 dx=none->dx≠x->
 sp (.ref x::(vs++dvs)) (upd (upd H1 dx (.own x)) x (.ins C dx [])) (fun v H2=>v=.non/\Q (.ref x) H2) E
noncomputable def z1u(K:PySem.W.Frag)(fd:FuncData)(ps:List Str)(ds:List Value):Prop:=
 ∀(s:Shared) (us:List Value),K.In s.heap->(us++ds).length=ps.length->BindsTo s fd ⟨us,[]⟩ (ps.zip (us++ds))
theorem z1u.all{K:PySem.W.Frag}{fd:FuncData}{ps:List Str}(h:∀us:List Value,us.length=ps.length->bindArgs fd ⟨us,[]⟩=pure (ps.zip us)):z1u K fd ps []:=fun s us _ hl=>by
 rw[cR] at hl ⊢
 exact .of_eq (h us hl)
noncomputable def z6A(CX:CXT)(X:Cx)(E:XK):Prop:=∀(pins:List (Addr×Obj)) (σ:St) (H:Hp) (s:Shared) (e:Value) (s':Shared),Inv X pins σ H s->CX X.stack H s E e s'->X.xe e s'
section
variable{X:Cx}{CX:CXT}{k:Nat}{f C:Addr}{fd:FuncData}{ps:List Str}{sp:Sp}{dvs:List V}{ds:List Value}{E:XK}{x m:Str}{p pos apos:Pos}{e o:Expr}{es:List Expr}{ta:TE}{t:TA}
theorem y3Z{pins:List (Addr×Obj)}{σ:St}{H:Hp}{s:Shared}{Q:VK}{us:List Value}{vs:List V}(F:A8 X.prog X.w X.K X.mg X.base CX k f fd ps sp)(hr:E3 k X.A)(hb:z1u X.K fd ps ds)(hd:Vals dvs ds)(hx:z6A CX X E)
  (I:Inv X pins σ H s) (r:Vals vs us) (h:sp (vs++dvs) H Q E):wpAny (model X.prog X.w) X.A (call (.ref f) us) (EP X pins σ Q) X.xe s:=by
 have r2:Vals (vs++dvs) (us++ds):=r.append hd
 have hl:(us++ds).length=ps.length:=by rw[<- r2.length];exact F.len _ _ _ _ h
 refine wpAny_call (codeAny_mono (F.run X.A X.stack s H ⟨us,[]⟩ (us++ds) (vs++dvs) Q E hr I.w0R (hb s us I.kIn hl) r2 h) fun r s' hq=>?_)
 cases r with
 | error e=>exact hx pins σ H s e s' I hq
 | ok fl=>
  cases fl with
  | ret u=>exact I.after hq
  | next=>exact False.elim hq
  | brk=>exact False.elim hq
  | cont=>exact False.elim hq
theorem y5Y(F:A8 X.prog X.w X.K X.mg X.base CX k f fd ps sp)(hr:E3 k X.A)(hg:Gl X x)(hm:X.mg x=some (.ref f))(hk:PySem.W.keepIn X.K (.ref f)=true)(hb:z1u X.K fd ps ds)(hd:Vals dvs ds)(hx:z6A CX X E)
  (ha:PA X (e::es) t) (hdb:(x == ("__debug__":Str))=false:=by decide) (he:starEach (e::es) X.env=(false,eval e X.env)::starEach es X.env:=by rfl) (hpl:(backTo pos (starEach es X.env)).any (·.1)=false:=by rfl) :
  PE X (.Call (.Name x p) (e::es) [] pos) (y7J sp dvs E t):=by
 intro pins s σ H Q I h
 refine wpAny_Call_Name_kw (z53 I hg hm ?_ hdb)
 refine eX (h₀:=X.base) I.ok.mod.kin hk (thn (ha pos pins s σ H _ I h) fun us s1 ⟨vs,H1,I1,r,q⟩=>⟨I1.kIn,?_⟩) he hpl
 exact y3Z F hr hb hd hx I1 r q
theorem y6z{pl:Sem Bool}(he:PE X o ta)(c:Cls X.K C)(hm:Meth X.K C m f)(F:A8 X.prog X.w X.K X.mg X.base CX k f fd ps sp)(hr:E3 k X.A)(hb:z1u X.K fd ps ds)(hd:Vals dvs ds)(hx:z6A CX X E)(ha:PA X (e::es) t)
  (hst:starEach (e::es) X.env=(false,eval e X.env)::starEach es X.env:=by rfl) (hpl:(backTo pos (starEach es X.env)).any (·.1)=false:=by rfl)
  (ht:eval (.Call (.Attribute o m apos) (e::es) [] pos) X.env=(do
   let ov <- eval o X.env
   standAt apos.atName
   let (f,first) <- holding [ov] (getMethod ov m pl)
   callWith pos f first (backTo pos (starEach (e::es) X.env)) (backToKw pos (keywordEach [] X.env))):=by rfl) :
  PE X (.Call (.Attribute o m apos) (e::es) [] pos) (y4L C m sp dvs E ta t):=by
 intro pins s σ H Q I h
 refine dU (pl:=pl) (thn (he pins s σ H _ I h) fun u s1 hz=>?_) ht
 obtain⟨x,H1,I1,rx,a,dx,fs,ex,ea,l,q⟩:=hz
 subst ex
 obtain rfl:u=Value.ref a:=rx
 refine z3t I1 ea c hm l ?_
 refine eX (first:=[.ref a]) (h₀:=X.base) I.ok.mod.kin hm.kp (thn (ha pos pins s1 σ H1 _ I1 q) fun us s2 ⟨vs,H2,I2,r,q2⟩=>⟨I2.kIn,?_⟩) hst hpl
 exact y3Z (us:=.ref a::us) (vs:=.ref a::vs) F hr hb hd hx I2 (.cons rfl r) q2
theorem y5l{pl:Sem Bool}(he:PE X o ta)(c:Cls X.K C)(hm:Meth X.K C m f)(F:A8 X.prog X.w X.K X.mg X.base CX k f fd ps sp)(hr:E3 k X.A)(hb:z1u X.K fd ps ds)(hd:Vals dvs ds)(hx:z6A CX X E)
  (ht:eval (.Call (.Attribute o m apos) [] [] pos) X.env=(do
   let ov <- eval o X.env
   standAt apos.atName
   let (f,first) <- holding [ov] (getMethod ov m pl)
   callWith pos f first (backTo pos (starEach [] X.env)) (backToKw pos (keywordEach [] X.env))):=by rfl) :
  PE X (.Call (.Attribute o m apos) [] [] pos) (y4L C m sp dvs E ta Z3):=by
 intro pins s σ H Q I h
 refine dU (pl:=pl) (thn (he pins s σ H _ I h) fun u s1 hz=>?_) ht
 obtain⟨x,H1,I1,rx,a,dx,fs,ex,ea,l,q⟩:=hz
 subst ex
 obtain rfl:u=Value.ref a:=rx
 refine z3t I1 ea c hm l ?_
 exact PySem.W.callWith_K0 (first:=[.ref a]) I1.kIn hm.kp (y3Z (us:=[.ref a]) (vs:=[.ref a]) F hr hb hd hx I1 (.cons rfl .nil) q)
structure Mk(K:PySem.W.Frag)(C f:Addr):Prop where
 makes:PySem.W.makesIn K C=true
 init:PySem.W.findIn K (.ref C) "__init__"=some (some (.ref f))
 fn:PySem.W.isFn K (.ref f)=true
 kp:PySem.W.keepIn K (.ref C)=true
theorem y4J{pins:List (Addr×Obj)}{σ:St}{H:Hp}{s:Shared}{Q:VK}{us:List Value}{vs:List V}(M:Mk X.K C f)(F:A8 X.prog X.w X.K X.mg X.base CX k f fd ps sp)(hr:E3 (k+1) X.A)(hb:z1u X.K fd ps ds)(hd:Vals dvs ds)
  (hx:z6A CX X E) (I:Inv X pins σ H s) (r:Vals vs us)
  (h:∀x dx,H x=none->H dx=none->dx≠x->sp (.ref x::(vs++dvs)) (upd (upd H dx (.own x)) x (.ins C dx [])) (fun v H2=>v=.non/\Q (.ref x) H2) E) :
  wpAny (model X.prog X.w) X.A (call (.ref C) us) (EP X pins σ Q) X.xe s:=by
 have hq:=h (s.heap.objs.size+1) s.heap.objs.size (I.hok.fresh (dO _)) (I.hok.fresh (bG _)) (cC (fL _))
 have I2:=Inv.made (C:=C) I
 have r2:Vals (V.ref (s.heap.objs.size+1)::(vs++dvs)) (Value.ref (s.heap.objs.size+1)::(us++ds)):=.cons rfl (r.append hd)
 have hl:(Value.ref (s.heap.objs.size+1)::us++ds).length=ps.length:=by
  have e:=r2.length
  rw[F.len _ _ _ _ hq] at e
  exact e.symm
 refine wpAny_call (y5g (f:=f) I.kIn M.makes M.init (beq_iff_eq.mp M.fn) (codeAny_mono (F.run _ X.stack _ _ ⟨Value.ref (s.heap.objs.size+1)::us,[]⟩ (Value.ref (s.heap.objs.size+1)::(us++ds)) _ _ E (hr.make C us [])
  (I2.w0R.make C us []) (hb _ (Value.ref (s.heap.objs.size+1)::us) I2.kIn hl) r2 hq) fun r s' hq'=>?_))
 cases r with
 | error e=>exact hx pins σ _ _ e s' I2 hq'
 | ok fl=>
  cases fl with
  | ret u=>
   obtain⟨v,H',I3,rv,ev,q3⟩:=I2.after hq'
   subst ev
   exact⟨rv,⟨V.ref (s.heap.objs.size+1),H',I3,rfl,q3⟩⟩
  | next=>exact False.elim hq'
  | brk=>exact False.elim hq'
  | cont=>exact False.elim hq'
theorem y64(M:Mk X.K C f)(F:A8 X.prog X.w X.K X.mg X.base CX k f fd ps sp)(hr:E3 (k+1) X.A)(hg:Gl X x)(hm:X.mg x=some (.ref C))(hb:z1u X.K fd ps ds)(hd:Vals dvs ds)(hx:z6A CX X E)
  (ha:PA X (e::es) t) (hdb:(x == ("__debug__":Str))=false:=by decide) (he:starEach (e::es) X.env=(false,eval e X.env)::starEach es X.env:=by rfl) (hpl:(backTo pos (starEach es X.env)).any (·.1)=false:=by rfl) :
  PE X (.Call (.Name x p) (e::es) [] pos) (y71 C sp dvs E t):=by
 intro pins s σ H Q I h
 refine wpAny_Call_Name_kw (z53 I hg hm ?_ hdb)
 refine eX (h₀:=X.base) I.ok.mod.kin M.kp (thn (ha pos pins s σ H _ I h) fun us s1 ⟨vs,H1,I1,r,q⟩=>⟨I1.kIn,?_⟩) he hpl
 exact y4J M F hr hb hd hx I1 r q
end
noncomputable def PK(X:Cx)(kws:List Keyword)(t:TA):Prop:=
 ∀(pos:Pos) (pins:List (Addr×Obj)) (s:Shared) (σ:St) (H:Hp) (Q:List V->Hp->Prop),Inv X pins σ H s->t σ H Q->wpAny (model X.prog X.w) X.A (evalAll ((backToKw pos (keywordEach kws X.env)).map (·.2))) (AP X pins σ Q) X.xe s
section
variable{X:Cx}{CX:CXT}{k:Nat}{f C:Addr}{fd:FuncData}{ps ks:List Str}{sp:Sp}{E:XK}{x m:Str}{p pos apos kpos:Pos}{e o:Expr}{es:List Expr}{kws:List Keyword}{te ta:TE}{t tk:TA}{nm:Option Str}
theorem y1B:PK X [] Z3:=fun _ _ _ _ H Q I h=>wpAny_evalAll_nil ⟨[],H,I,.nil,h⟩
theorem z9f(ha:PE X e te)(hr:PK X kws t):PK X (⟨nm,e,kpos⟩::kws) (y68 te t):=by
 intro pos pins s σ H Q I h
 show wpAny _ _ (evalAll ((do let v <- eval e X.env;standAt pos;pure v)::(backToKw pos (keywordEach kws X.env)).map (·.2))) _ _ s
 refine wpAny_evalAll_cons (wpAny_bind (thn (ha pins s σ H _ I h) fun u s1 ⟨x,H1,I1,r1,q1⟩=>wpAny_bind (wpAny_standAt (wpAny_pure ?_))))
 exact thn (hr pos pins s1 σ H1 _ I1 q1) fun us s2 ⟨xs,H2,I2,r2,q2⟩=>⟨x::xs,H2,I2,.cons r1 r2,q2⟩
variable{g:List Value->List Value->List Value}{gV:List V->List V->List V}
end
structure A3(N P:List Str)(sc:Scope):Prop where
 kind:sc.kind=.function
 co:sc.isCoroutine=false
 gen:sc.isGenerator=false
 nd:N.Nodup
 pre:N.take P.length=P
 par:∀x∈P,sc.names.lookup x=some .local\/sc.names.lookup x=some .cell
 nofree:∀y∈sc.names,y.2≠.free
theorem y0f{kindOf:Str->Option NameKind}{x:Str}:∀{binds:List (Str×Value)}{m:Str->Option Value},(∀v,(x,v)∉binds)->bindL kindOf binds m x=m x
 | [],_,_=>rfl
 | (n,v)::r,m,h=>by
  unfold bindL
  rw[y0f fun w hw=>h w (bP _ hw)]
  split
  ·have:x≠n:=by rintro rfl;exact h v bX
   simp[this]
  ·rfl
theorem y0s{kindOf:Str->Option NameKind}{x:Str}:∀{binds:List (Str×Value)}{m:Str->Option Value},(∀v,(x,v)∉binds)->bindC kindOf binds m x=m x
 | [],_,_=>rfl
 | (n,v)::r,m,h=>by
  unfold bindC
  rw[y0s fun w hw=>h w (bP _ hw)]
  split
  ·rfl
  ·have:x≠n:=by rintro rfl;exact h v bX
   simp[this]
theorem z9P{kindOf:Str->Option NameKind}{x:Str}{v:Value}:∀{P:List Str}{vs:List Value}{i:Nat}{m:Str->Option Value},P.Nodup->P[i]? = some x->vs[i]? = some v->kindOf x=some .local->
  bindL kindOf (P.zip vs) m x=some v
 | [],_,_,_,_,h,_,_=>by simp at h
 | _::_,[],_,_,_,_,h,_=>by simp at h
 | p::P,w::vs,0,m,nd,h1,h2,hk=>by
  simp at h1 h2;subst h1;subst h2
  show bindL kindOf ((p,w)::P.zip vs) m p=_
  unfold bindL
  rw[y0f fun v hv=>(dA.mp nd).1 (List.of_mem_zip hv).1,if_pos hk]
  simp
 | p::P,w::vs,i+1,m,nd,h1,h2,hk=>by
  show bindL kindOf ((p,w)::P.zip vs) m x=_
  unfold bindL
  exact z9P (i:=i) (dA.mp nd).2 (by simpa using h1) (by simpa using h2) hk
theorem z9R{kindOf:Str->Option NameKind}{x:Str}{v:Value}:∀{P:List Str}{vs:List Value}{i:Nat}{m:Str->Option Value},P.Nodup->P[i]? = some x->vs[i]? = some v->kindOf x≠some .local->
  bindC kindOf (P.zip vs) m x=some v
 | [],_,_,_,_,h,_,_=>by simp at h
 | _::_,[],_,_,_,_,h,_=>by simp at h
 | p::P,w::vs,0,m,nd,h1,h2,hk=>by
  simp at h1 h2;subst h1;subst h2
  show bindC kindOf ((p,w)::P.zip vs) m p=_
  unfold bindC
  rw[y0s fun v hv=>(dA.mp nd).1 (List.of_mem_zip hv).1,if_neg hk]
  simp
 | p::P,w::vs,i+1,m,nd,h1,h2,hk=>by
  show bindC kindOf ((p,w)::P.zip vs) m x=_
  unfold bindC
  exact z9R (i:=i) (dA.mp nd).2 (by simpa using h1) (by simpa using h2) hk
noncomputable def z5A(N:List Str)(vs:List V):St:=vs.map some++List.replicate (N.length-vs.length) none
noncomputable def J1(CX:CXT)(P:Program)(w:World)(K:PySem.W.Frag)(mg:Str->Option Value)(base:Heap)(N:List Str)(qual:Str)(scope:Scope)(f:Addr)(cd:Value)(A:Around)(outer:List Env)(s:Shared)(H:Hp)(E:XK):Cx where
 prog:=P
 w:=w
 K:=K
 mg:=mg
 base:=base
 A:=A.deeper (envOfC qual scope s.heap.objs.size f cd)
 N:=N
 s₀:=s
 H₀:=H
 env:=envOfC qual scope s.heap.objs.size f cd
 outer:=outer
 stack:=envOfC qual scope s.heap.objs.size f cd::outer
 ex:=[]
 calm:=true
 fn:=fun _=>true
 pn:=[]
 xe:=fun e s'=>wpAny (model P w) (A.deeper (envOfC qual scope s.heap.objs.size f cd)) (leaving (envOfC qual scope s.heap.objs.size f cd) e) (fun _ s''=>CX outer H s E e s'') (fun e' s''=>CX outer H s E e' s'') s'
theorem y1E{sc:Scope}{n:Nat}{x:Str}(h:sc.names.lookup x=some .cell):∃c,(cellsFrom n sc.names []).lookup x=some c:=by
 have q:=PySem.W.cellsFrom_some sc.names n [] (.inl h)
 exact Option.isSome_iff_exists.mp q
theorem y3M{CX:CXT}{P:Program}{w:World}{K:PySem.W.Frag}{mg:Str->Option Value}{base:Heap}{N ps:List Str}{qual:Str}{scope:Scope}{f:Addr}{cd:Value}{A:Around}{outer:List Env}{s s1:Shared}{H:Hp}{E:XK}{us:List Value}{vs:List V}
  (S:A3 N ps scope) (hd:A.handled=none) (e0:Y1 P w K mg base A outer s H) (hl:vs.length=ps.length) (r:Vals vs us)
  (x:InCallC s s.heap.objs.size (bindL (envOfC qual scope s.heap.objs.size f cd).kindOf (ps.zip us) fun _=>none) (cellsFrom (s.heap.objs.size+1) scope.names []) (bindC (envOfC qual scope s.heap.objs.size f cd).kindOf (ps.zip us) fun _=>none) s1) :
  Inv (J1 CX P w K mg base N qual scope f cd A outer s H E) [] (z5A N vs) H s1:=by
 have hpl:ps.length≤N.length:=by have:=congrArg List.length S.pre;rw[bM] at this;lia
 obtain⟨h1,tk,rfl,hk⟩:=x.done
 have noA:∀b:Addr,b∉(J1 CX P w K mg base N qual scope f cd A outer s H E).ex:=fun b z=>absurd (show b∈([]:List Addr) from z) (by simp)
 refine⟨⟨e0.mod,S.kind,rfl,rfl,bG _,fun y z c h1 h2=>?_,fun y hy=>?_,fun y c _ h=>?_,fun _=>hd,Around.frames_deeper e0.frames,.inr ⟨rfl,rfl⟩,fun b z=>absurd z (noA b),e0.bs,e0.bsz,fun b _ _=>noA b,fun b z=>absurd z (noA b),e0.S6,e0.frf⟩,
  rfl,e0.bare,Un.kept hk,⟨_,x.toInCall.ns,fun i y v h1 h2 h3=>?_⟩,fun y c h=>⟨_,x.cell y c h⟩,e0.hok.fresh (bG _),fun y c h=>?_,fun p hp=>absurd (show p∈([]:List (Addr×Obj)) from hp) (by simp),e0.hok.kept hk,?_⟩
 ·exact name_of_addr x.apart (eO h1) (eO h2)
 ·have hy:scope.names.lookup y=some .cell\/scope.names.lookup y=some .free:=hy
  rcases hy with hy|hy
  ·exact y1E hy
  ·exact absurd rfl (S.nofree _ (eO hy))
 ·exact fG (x.above y c (eO h))
 ·have hi:i<vs.length:=by
   unfold z5A at h2
   by_cases hi:i<vs.length
   ·exact hi
   ·rw[fO (by simpa using hi)] at h2
    rw[g8] at h2
    split at h2<;>cases h2
  have ha:vs[i]? = some v:=by
   unfold z5A at h2
   rw[dN (by simpa using hi),bL] at h2
   cases e:vs[i]? with
   | none=>rw[e] at h2;cases h2
   | some a=>rw[e] at h2;cases h2;rfl
  obtain⟨u,hu,rv⟩:=r.get ha
  have hp:ps[i]? = some y:=by
   rw[<- S.pre,List.getElem?_take_of_lt (by lia)];exact h1
  have ndP:ps.Nodup:=by rw[<- S.pre];exact S.nd.sublist (List.take_sublist _ _)
  refine⟨u,rv,?_⟩
  rcases S.par y (bZ hp) with k|k
  ·exact .inl ⟨k,z9P ndP hp hu k⟩
  ·obtain⟨c,e⟩:=y1E (n:=s.heap.objs.size+1) k
   refine .inr ⟨.inl k,c,e,?_⟩
   have q:=x.cell y c e
   rw[z9R ndP hp hu (by show scope.names.lookup y≠_;rw[k];decide)] at q
   exact q
 ·exact e0.hok.fresh (fG (x.above y c (eO h)))
 ·unfold z5A
  show _=N.length
  rw[bF,b6,gK]
  lia
theorem y6i{CX:CXT}{P:Program}{w:World}{K:PySem.W.Frag}{mg:Str->Option Value}{base:Heap}{k:Nat}{f:Addr}{name qual:Str}{params:Arguments}{body:List Stmt}{scope:Scope}{dV kV doc pm cdv ct oc:Value}{an od:Option Addr}
  {osl:Array (Option Value)}{N ps:List Str}{sp:Sp} (lk:K.lookup f=some ⟨oc,od,.func (PySem.W.fnOf name qual params body scope dV kV doc pm an cdv ct),osl⟩) (hcd:PySem.W.codeIn K cdv qual=true) (S:A3 N ps scope)
  (len:∀vs H Q E,sp vs H Q E->vs.length=ps.length)
  (U6:∀(A:Around) (outer:List Env) (s:Shared) (H:Hp) (vs:List V) (Q:VK) (E:XK),E3 k (A.deeper (envOfC qual scope s.heap.objs.size f cdv))->sp vs H Q E->
   ∃t,PSs (J1 CX P w K mg base N qual scope f cdv A outer s H E) body t/\t { nx:=fun _ H'=>Q .non H',rt:=Q } (z5A N vs) H) :
  A8 P w K mg base CX (k+1) f (PySem.W.fnOf name qual params body scope dV kV doc pm an cdv ct) ps sp:=by
 refine⟨len,fun A outer s H args us vs Q E hr e0 hb r hsp=>?_⟩
 have hl:=len _ _ _ _ hsp
 have KX:K.In s.heap:=e0.mod.kin.keeps fun b o e=>(e0.bs b o e).1
 have lim:s.heap.NoLimit:=e0.mod.nolimit.keeps fun b o e=>(e0.bs b o e).1
 have w29:∀y∈ps.zip us,scope.names.lookup y.1=some .local\/(scope.names.lookup y.1=some .cell/\((cellsFrom (s.heap.objs.size+1) scope.names []).lookup y.1).isSome=true):=fun⟨n,v⟩ hy=>by
  rcases S.par n (List.of_mem_zip hy).1 with q|q
  ·exact .inl q
  ·exact .inr ⟨q,PySem.W.cellsFrom_some _ _ _ (.inl q)⟩
 refine codeAny_call_function hr.depth (KX _ _ lk) rfl S.co S.gen rfl (PySem.W.codeRec_of KX hcd) (hb _ _ _ _ ?_)
 refine wpAny_newFunctionEnv_cells S.kind w29 fun env he s1 x=>?_
 subst he
 refine⟨lim.keeps x.toInCall.keep,codeAny_func ?_⟩
 obtain⟨t,ht,hq⟩:=U6 A outer s H vs Q E (hr.deeper _) hsp
 have I:Inv (J1 CX P w K mg base N qual scope f cdv A outer s H E) [] (z5A N vs) H s1:=y3M S hr.hd e0 hl r x
 refine wpAny_mono (ht [] s1 (z5A N vs) H _ I hq) (fun fl s' hs=>?_) fun e s' hs=>hs
 have fin:∀{σ':St}{H':Hp}{v:V}{u:Value},Inv (J1 CX P w K mg base N qual scope f cdv A outer s H E) [] σ' H' s'->RelV v u->Q v H'->CE outer P w H s Q u s':=
  fun {σ' H' v u} J rv q=>⟨v,H',J.os,J.bare,J.base,J.hok,rv,q⟩
 cases fl with
 | ret u=>
  obtain⟨v,σ',H',J,rv,q⟩:=hs
  exact fin J rv q
 | next=>
  obtain⟨σ',H',J,q⟩:=hs
  exact fin (v:=V.non) (u:=Value.none) J rfl q
 | brk=>
  obtain⟨_,_,_,q⟩:=hs
  exact False.elim q
 | cont=>
  obtain⟨_,_,_,q⟩:=hs
  exact False.elim q
section
variable{X:Cx}{x:Str}{p pos:Pos}{e:Expr}{es:List Expr}{t:TA}{id T:String}{r:List V->Hp->VK->Prop}
noncomputable def tCB(r:List V->Hp->VK->Prop)(t:TA):TE:=fun σ H Q=>t σ H fun vs H1=>r vs H1 Q
theorem z09(hc:z3k X (.builtin id) r)(hg:Gl X x)(hm:X.mg x=none)(hv:bootBuiltins x=some (.builtin id))(ha:PA X (e::es) t)(hn:x≠"__name__":=by decide)(hdb:(x == ("__debug__":Str))=false:=by decide)
  (he:starEach (e::es) X.env=(false,eval e X.env)::starEach es X.env:=by rfl) (hpl:(backTo pos (starEach es X.env)).any (·.1)=false:=by rfl):PE X (.Call (.Name x p) (e::es) [] pos) (tCB r t):=by
 intro pins s σ H Q I h
 refine wpAny_Call_Name_kw (z5N I hg hm hv ?_ hn hdb)
 exact PyProof.Rows.callWith_builtin1 (thn (ha pos pins s σ H _ I h) fun us s1 ⟨vs,H1,I1,r1,q1⟩=>hc pins s1 σ H1 vs us Q I1 r1 q1) he hpl
theorem z0v(hc:z3k X (.type T) r)(hg:Gl X x)(hm:X.mg x=none)(hv:bootBuiltins x=some (.type T))(ha:PA X (e::es) t)(hn:x≠"__name__":=by decide)(hdb:(x == ("__debug__":Str))=false:=by decide)
  (he:starEach (e::es) X.env=(false,eval e X.env)::starEach es X.env:=by rfl) (hpl:(backTo pos (starEach es X.env)).any (·.1)=false:=by rfl):PE X (.Call (.Name x p) (e::es) [] pos) (tCB r t):=by
 intro pins s σ H Q I h
 refine wpAny_Call_Name_kw (z5N I hg hm hv ?_ hn hdb)
 exact dI (thn (ha pos pins s σ H _ I h) fun us s1 ⟨vs,H1,I1,r1,q1⟩=>hc pins s1 σ H1 vs us Q I1 r1 q1) he hpl
end
end L2
namespace HT
open PySem PyProof.Rows
section
open PySem.SeqAt
open PySem.AutoSeq1 (wpAny_loadPart')
open PySem.MeetsSeq PySem.MeetsSeq2 PySem.MeetsSeq3
end
section
variable{prog:Program}{w:World}{A:Around}{E:Value->Shared->Prop}{s:Shared}
theorem y6I{t b:Addr}{vs ws:List Value}{Q:Value->Shared->Prop}(ht:IsTup s.heap t vs.toArray)(hb:IsTup s.heap b ws.toArray)(hv:vs≠[])
  (h1:ws=[]->Q (.ref t) s) (h2:ws≠[]->Q (.ref s.heap.objs.size) { s with heap:=s.heap.push { cls:=.type "tuple",data:=.seq (vs++ws).toArray } })
  (hsz:vs.length+ws.length≤sizeLine):wpAny (model prog w) A (binaryOp .Add (.ref t) (.ref b)) Q E s:=by
 obtain⟨⟨cls,dd,data,sl⟩,ho,hc,n,hd⟩:=id ht
 obtain⟨⟨cls2,dd2,data2,sl2⟩,ho2,hc2,n2,hd2⟩:=id hb
 simp only at hc hd hc2 hd2
 subst hc hd hc2 hd2
 have e:vs.toArray++ws.toArray=(vs++ws).toArray:=by simp
 by_cases hw:ws=[]
 ·exact concat_meets ⟨_,ho,rfl⟩ ⟨_,ho2,rfl⟩ noFill_tuple_add seq_tuple_add PySem.F.slot_tuple_add PySem.F.entry_tuple_add (PySem.F.args_tuple_add_2 _ _)
   (tuple_addW1 t b vs.toArray ws.toArray n n2 dd dd2 sl sl2 (by simpa using hv) (by simp[hw])) ⟨ho,ho2,h1 hw⟩
 ·refine concat_meets ⟨_,ho,rfl⟩ ⟨_,ho2,rfl⟩ noFill_tuple_add seq_tuple_add PySem.F.slot_tuple_add PySem.F.entry_tuple_add (PySem.F.args_tuple_add_2 _ _)
   (tuple_addW2 t b vs.toArray ws.toArray n n2 dd dd2 sl sl2 (by simpa using hv) (by simpa using hw) (by rw[bE,bE];exact hsz)) ⟨ho,ho2,?_⟩
  rw[e]
  exact h2 hw
noncomputable def sIx(n d:Nat):Option Int->Nat
 | none=>d
 | some v=>if v<0 then (v+(n:Int)).toNat else min v.toNat n
theorem y44(n d k:Nat):sIx n d (some (k:Int))=min k n:=by
 show(if (k:Int)<0 then ((k:Int)+(n:Int)).toNat else min (k:Int).toNat n)=min k n
 rw[if_neg (by lia),Int.toNat_natCast]
theorem y5y(n d:Nat)(hd:d≤n)(o:Option Int):sIx n d o≤n:=by
 cases o with
 | none=>exact hd
 | some v=>
  show(if v<0 then (v+(n:Int)).toNat else min v.toNat n)≤n
  by_cases hv:v<0
  ·rw[if_pos hv];lia
  ·rw[if_neg hv];exact Nat.min_le_right _ _
theorem y4o(v:Int)(n d:Nat):(if v<0 then max (v+(n:Int)) 0 else min v (n:Int))=((sIx n d (some v):Nat):Int):=by
 show(if v<0 then max (v+(n:Int)) 0 else min v (n:Int))=(((if v<0 then (v+(n:Int)).toNat else min v.toNat n):Nat):Int)
 by_cases hv:v<0
 ·simp only[if_pos hv];lia
 ·simp only[if_neg hv];lia
theorem y23(lo hi:Option Int)(n:Nat):Builtin.Slice.sliceAdjust lo hi 1 (n:Int)=(((sIx n 0 lo:Nat):Int),((sIx n n hi:Nat):Int)):=by
 have h1:¬((1:Int)<0):=by lia
 unfold Builtin.Slice.sliceAdjust
 simp only[h1,if_false]
 refine Prod.ext ?_ ?_
 ·cases lo with
  | none=>rfl
  | some v=>exact y4o v n 0
 ·cases hi with
  | none=>rfl
  | some v=>exact y4o v n n
theorem y2q(i j:Nat):Builtin.Slice.slicePlaces (i:Int) (j:Int) 1=j-i:=by
 unfold Builtin.Slice.slicePlaces
 have h1:(1:Int) > 0:=by lia
 simp only[h1,if_true,Int.ediv_one]
 split<;>lia
theorem z8n{v:Value}{o:Option Int}{Q:Option Int->Shared->Prop}(p:IsPart v o)(h:Q o s):wpAny (model prog w) A (Builtin.Slice.slicePartIndex v) Q E s:=by
 cases p with
 | none=>exact slicePart_none h
 | int i t=>exact slicePart_int h
theorem z3V{sl:Addr}{vl vu:Value}{lo hi:Option Int}{n:Nat}{Q:Int×Int×Nat->Shared->Prop}(hs:s.heap.IsSliceOf sl vl vu .none)(pl:IsPart vl lo)(pu:IsPart vu hi)
  (h:Q (((sIx n 0 lo:Nat):Int),1,sIx n n hi-sIx n 0 lo) s):wpAny (model prog w) A (Builtin.Slice.sliceApplied (.ref sl) (pure (n:Int))) Q E s:=by
 obtain⟨os,hos,hcs,hds⟩:=id hs
 unfold Builtin.Slice.sliceApplied Builtin.Slice.sliceFields
 refine wpAny_bind (wpAny_bind (wpAny_field hos hds (x:=vl) rfl (wpAny_bind (wpAny_field hos hds (x:=vu) rfl (wpAny_bind (wpAny_field hos hds (x:=.none) rfl (wpAny_pure ?_)))))))
 refine wpAny_bind (slicePart_none ?_)
 show wpAny _ _ (if ((1:Int) == 0)=true then _ else _) _ _ s
 rw[if_neg (by decide)]
 refine wpAny_bind (z8n pl (wpAny_bind (z8n pu (wpAny_bind (wpAny_pure ?_)))))
 show wpAny _ _ (match Builtin.Slice.sliceAdjust lo hi 1 (n:Int) with|(lo,hi)=>pure (lo,(1:Int),Builtin.Slice.slicePlaces lo hi 1)) _ _ s
 rw[y23 lo hi n]
 show wpAny _ _ (pure (((sIx n 0 lo:Nat):Int),(1:Int),Builtin.Slice.slicePlaces ((sIx n 0 lo:Nat):Int) ((sIx n n hi:Nat):Int) 1)) _ _ s
 rw[y2q]
 exact wpAny_pure h
theorem y52(xs:Array Value)(i k:Nat):((List.range k).filterMap fun(m:Nat)=>xs[((i:Int)+(m:Int)*1).toNat]?).toArray=((xs.toList.drop i).take k).toArray:=by
 have e:(fun(m:Nat)=>xs[((i:Int)+(m:Int)*1).toNat]?)=fun m=>xs[i+m]? := by
  funext m
  have:((i:Int)+(m:Int)*1).toNat=i+m:=by lia
  rw[this]
 rw[e]
 have:=pick_run xs i k
 rw[List.filterMap_map] at this
 have e2:((fun x=>xs[x]?) ∘ fun x=>i+x)=fun m=>xs[i+m]? := rfl
 rw[e2] at this
 rw[this]
theorem z67{t sl:Addr}{items:Array Value}{vl vu:Value}{lo hi:Option Int}{Q:Value->Shared->Prop}(ht:IsTup s.heap t items)(hs:s.heap.IsSliceOf sl vl vu .none)(pl:IsPart vl lo)(pu:IsPart vu hi)
  (hw:¬(sIx items.size 0 lo=0/\sIx items.size items.size hi=items.size))
  (h:Q (.ref s.heap.objs.size) { s with heap:=s.heap.push { cls:=.type "tuple",data:=.seq ((items.toList.drop (sIx items.size 0 lo)).take (sIx items.size items.size hi-sIx items.size 0 lo)).toArray } })
  (hsz:items.size≤sizeLine):wpAny (model prog w) A (getItem (.ref t) (.ref sl)) Q E s:=by
 have Z0:sizeOk (.seq ((items.toList.drop (sIx items.size 0 lo)).take (sIx items.size items.size hi-sIx items.size 0 lo)).toArray):=by
  show((items.toList.drop (sIx items.size 0 lo)).take (sIx items.size items.size hi-sIx items.size 0 lo)).toArray.size≤sizeLine
  rw[bE,bM,dC,eM]
  lia
 have hj:sIx items.size items.size hi≤items.size:=y5y _ _ (bG _) hi
 obtain⟨os,hos,hcs,hds⟩:=id hs
 have hTs:s.TypeIs (.ref sl) "slice":=⟨os,hos,hcs⟩
 unfold getItem
 try with_reducible refine wpAny_holding ?_
 first|refine wpAny_bind (wpAny_pure ?_)|skip
 refine wpAny_bind (wpAny_sequenceKey ht.typeIs (by decide) ?_)
 refine wpAny_bind (wpAny_callSpecial?_slot (name:=Str.ofString "__getitem__") ht.typeIs cV
  (wpAny_call_entry cV ht.typeIs entry_tuple_getitem ?_ (args_tuple_getitem _ _)))
 show wpAny _ _ (Builtin.Tuple.tupleItemsOf (.ref t) >>= _) _ _ s
 refine wpAny_bind (tupleItemsOf_ ht ?_)
 refine wpAny_bind (wpAny_typeOf hTs ?_)
 rw[if_pos (by decide)]
 refine wpAny_bind (z3V hs pl pu ?_)
 have hno:¬((((sIx items.size 0 lo:Nat):Int) == 0 && (1:Int) == 1 && (sIx items.size items.size hi-sIx items.size 0 lo) == items.size)=true):=by
  intro q
  rw[bU,bU] at q
  have q1:((sIx items.size 0 lo:Nat):Int)=0:=eq_of_beq q.1.1
  have q2:sIx items.size items.size hi-sIx items.size 0 lo=items.size:=eq_of_beq q.2
  exact hw ⟨by lia,by lia⟩
 show wpAny _ _ (if (((sIx items.size 0 lo:Nat):Int) == 0 && (1:Int) == 1 && (sIx items.size items.size hi-sIx items.size 0 lo) == items.size)=true then _ else _) _ _ s
 rw[if_neg hno,y52]
 first
  | exact wpAny_bind (m:=Builtin.Tuple.tupleExact _) (wpAny_newObj_type (wpAny_pure ⟨_,rfl,wpAny_pure h⟩) Z0)
  | exact wpAny_bind (m:=Builtin.Tuple.tupleExact _) (wpAny_newObj_type (wpAny_bind (wpAny_pure (wpAny_pure ⟨_,rfl,wpAny_pure h⟩))) Z0)
  | exact wpAny_bind (wpAny_bind (m:=Builtin.Tuple.tupleExact _) (wpAny_newObj_type (wpAny_pure (wpAny_pure ⟨_,rfl,wpAny_pure h⟩)) Z0))
  | exact wpAny_bind (wpAny_bind (m:=Builtin.Tuple.tupleExact _) (wpAny_newObj_type (wpAny_pure ⟨_,rfl,wpAny_pure h⟩) Z0))
end
end HT
namespace L2
open PySem PySem.Spec PyProof.Rows
abbrev TO:=St->Hp->(Option Int->Hp->Prop)->Prop
noncomputable def PO(X:Cx)(e:Option Expr)(t:TO):Prop:=
 ∀(pins:List (Addr×Obj)) (s:Shared) (σ:St) (H:Hp) (Q:Option Int->Hp->Prop),Inv X pins σ H s->t σ H Q->
  wpAny (model X.prog X.w) X.A (evalPart e X.env) (fun u s'=>∃o H',Inv X pins σ H' s'/\IsPart u o/\Q o H') X.xe s
noncomputable def y6d:TO:=fun _ H Q=>Q none H
noncomputable def w23(t:TE):TO:=fun σ H Q=>t σ H fun x H1=>∃i,x=.int i/\Q (some i) H1
theorem y1Y{ns:List Int}:∀{us:List Value},Vals (ns.map V.int) us->IntsAre us ns:=by
 induction ns with
 | nil=>intro us r;rw[List.map_nil] at r;cases r;exact .nil
 | cons n ns ih=>
  intro us r
  rw[cP] at r
  cases r with
  | cons r1 r2=>
   obtain⟨t,e⟩:=r1
   subst e
   exact .cons n t (ih r2)
section
variable{X:Cx}{e:Expr}{te:TE}{lo hi:Option Expr}{tl th:TO}{pos p2:Pos}
theorem z58:PO X none y6d:=by
 intro pins s σ H Q I h
 rw[evalPart_none]
 exact wpAny_pure ⟨none,H,I,.none,h⟩
theorem z3A(h:PE X e te):PO X (some e) (w23 te):=by
 intro pins s σ H Q I hw
 rw[evalPart_some]
 refine thn (h pins s σ H _ I hw) fun u s1 hz=>?_
 obtain⟨x,H1,I1,r1,q1⟩:=hz
 obtain⟨i,rfl,q⟩:=q1
 obtain⟨t,rfl⟩:=r1
 exact⟨some i,H1,I1,.int i t,q⟩
noncomputable def SlR(X:Cx)(r:V->Option Int->Option Int->Hp->VK->Prop):Prop:=
 ∀(pins:List (Addr×Obj)) (s:Shared) (σ:St) (H:Hp) (x:V) (v vl vu:Value) (lo hi:Option Int) (sl:Addr) (Q:VK),Inv X pins σ H s->RelV x v->s.heap.IsSliceOf sl vl vu .none->IsPart vl lo->IsPart vu hi->r x lo hi H Q->
  ∃T id,typeLookup (.type T) "__getitem__"=pure (some (.builtin id))/\s.TypeIs v T/\wpAny (model X.prog X.w) X.A (getItem v (.ref sl)) (EP X pins σ Q) X.xe s
noncomputable def tSl(r:V->Option Int->Option Int->Hp->VK->Prop)(te:TE)(tl th:TO):TE:=fun σ H Q=>te σ H fun x H1=>tl σ H1 fun l H2=>th σ H2 fun u H3=>r x l u H3 Q
theorem z33{r:V->Option Int->Option Int->Hp->VK->Prop}(hr:SlR X r)(he:PE X e te)(hl:PO X lo tl)(hu:PO X hi th):PE X (.Subscript e (.Slice lo hi none p2) pos) (tSl r te tl th):=by
 intro pins s σ H Q I h
 refine Subscript_ (thn (he pins s σ H _ I h) fun v s1 hz=>?_)
 obtain⟨x,H1,I1,r1,q1⟩:=hz
 refine wpAny_Slice (thn (hl pins s1 σ H1 _ I1 q1) fun vl s2 ⟨l,H2,I2,pl,q2⟩=>thn (hu pins s2 σ H2 _ I2 q2) fun vu s3 hz=>?_)
 obtain⟨u,H3,I3,pu,q3⟩:=hz
 rw[evalPart_none]
 refine wpAny_pure ?_
 have I4:Inv X pins σ H3 { s3 with heap:=s3.heap.push { cls:=.type "slice",data:=.fields #[vl,vu,.none] } }:=I3.kept (t':=s3.toks) fun b ob q=>bB _ q
 obtain⟨T,id,hT,ht,hg⟩:=hr pins { s3 with heap:=s3.heap.push { cls:=.type "slice",data:=.fields #[vl,vu,.none] } } σ H3 x v vl vu l u s3.heap.objs.size Q I4 r1 (Heap.IsSliceOf.new ..) pl pu q3
 show wpAny (model X.prog X.w) X.A (subscriptTail e (.Slice lo hi none p2) v (.ref s3.heap.objs.size)) (EP X pins σ Q) X.xe { s3 with heap:=s3.heap.push { cls:=.type "slice",data:=.fields #[vl,vu,.none] } }
 exact tail_any (ops:=[.ref s3.heap.objs.size,v]) ht hT hg (by with_unfolding_all rfl)
noncomputable def S9(xs:List V)(lo hi:Option Int):List V:=(xs.drop (HT.sIx xs.length 0 lo)).take (HT.sIx xs.length xs.length hi-HT.sIx xs.length 0 lo)
theorem z7d(xs:List V)(lo hi:Option Int):(S9 xs lo hi).length≤xs.length:=by
 unfold S9
 rw[bM,dC]
 lia
noncomputable def rSlT(K:PySem.W.Frag):V->Option Int->Option Int->Hp->VK->Prop:=fun x lo hi H Q=>∃a xs,x=.ref a/\SqT K H a xs/\
 ¬(HT.sIx xs.length 0 lo=0/\HT.sIx xs.length xs.length hi=xs.length)/\∀p,H p=none->Q (.ref p) (upd H p (.tup (S9 xs lo hi)))
theorem y5v:SlR X (rSlT X.K):=by
 intro pins s σ H x v vl vu lo hi sl Q I rx hs pl pu h
 obtain⟨a,xs,rfl,hx,hw,q⟩:=h
 cases rx
 obtain⟨its,r,ht,hz⟩:=I.tuple hx
 have hlen:its.toArray.size=xs.length:=by rw[bE];exact r.length.symm
 refine⟨"tuple",_,cV.lookup,ht.typeIs,?_⟩
 refine HT.z67 ht hs pl pu (by rw[hlen];exact hw) ?_ (by rw[hlen];exact hz)
 rw[hlen]
 refine⟨.ref s.heap.objs.size,_,I.laid (t':=s.toks) (o:=.tup (S9 xs lo hi)) (fun b ob q=>bB _ q) (bG _) ?_,rfl,q _ (I.hok.fresh (bG _))⟩
 exact⟨c9 (z7d xs lo hi) hz,_,(r.drop (HT.sIx xs.length 0 lo)).take (HT.sIx xs.length xs.length hi-HT.sIx xs.length 0 lo),PlT.new _ _⟩
noncomputable def y7C(K:PySem.W.Frag):R2:=fun x y H Q=>∃a b xs ys,x=.ref a/\y=.ref b/\SqT K H a xs/\SqT K H b ys/\xs≠[]/\xs.length+ys.length≤sizeLine/\
 (ys=[]->Q (.ref a) H)/\(ys≠[]->∀p,H p=none->Q (.ref p) (upd H p (.tup (xs++ys))))
theorem Vals.W3{xs:List V}{us:List Value}(r:Vals xs us):us=[]↔xs=[]:=by
 cases r with
 | nil=>simp
 | cons _ _=>simp
theorem y6S:OpR X (binaryOp .Add) (y7C X.K):=by
 intro pins s σ H x y v u Q I rx ry h
 obtain⟨a,b,xs,ys,rfl,rfl,ha,hb,hx,hz,q1,q2⟩:=h
 cases rx
 cases ry
 obtain⟨its,r1,p1,_⟩:=I.tuple ha
 obtain⟨N1,r2,p2,_⟩:=I.tuple hb
 refine HT.y6I p1 p2 (fun z=>hx (r1.W3.mp z)) (fun z=>⟨.ref a,H,I,rfl,q1 (r2.W3.mp z)⟩) (fun z=>?_) (by rw[<- r1.length,<- r2.length];exact hz)
 refine⟨.ref s.heap.objs.size,_,I.laid (t':=s.toks) (o:=.tup (xs++ys)) (fun b ob q=>bB _ q) (bG _) ?_,rfl,q2 (fun w=>z (r2.W3.mpr w)) _ (I.hok.fresh (bG _))⟩
 exact⟨by rw[bF];exact hz,_,r1.append r2,PlT.new _ _⟩
end
noncomputable def ixN(n:Nat)(i:Int):Option Nat:=if 0≤i then (if i<n then some i.toNat else none) else if -(n:Int)≤i then some (i+n).toNat else none
noncomputable def atI{α:Type}(xs:List α)(i:Int):Option α:=(ixN xs.length i).bind fun j=>xs[j]?
theorem y47{n:Nat}{i:Int}{j:Nat}(h:ixN n i=some j):seqIndex? i n=some j/\j<n/\-(n:Int)≤i/\i<n:=by
 unfold ixN at h
 by_cases h0:0≤i
 ·rw[if_pos h0] at h
  by_cases h1:i<n
  ·rw[if_pos h1] at h
   have e:i.toNat=j:=Option.some.inj h
   exact⟨by rw[seqIndex_of h0 h1,e],by lia,by lia,h1⟩
  ·rw[if_neg h1] at h;cases h
 ·rw[if_neg h0] at h
  by_cases h1:-(n:Int)≤i
  ·rw[if_pos h1] at h
   have e:(i+n).toNat=j:=Option.some.inj h
   exact⟨by rw[seqIndex_neg (by lia) h1,e],by lia,h1,by lia⟩
  ·rw[if_neg h1] at h;cases h
theorem y0F{α:Type}{xs:List α}{i:Int}{v:α}(h:atI xs i=some v):∃j,seqIndex? i xs.length=some j/\xs[j]? = some v/\j<xs.length/\-(xs.length:Int)≤i/\i<xs.length:=by
 unfold atI at h
 cases e:ixN xs.length i with
 | none=>rw[e] at h;cases h
 | some j=>
  rw[e] at h
  obtain⟨h1,h2,h3,h4⟩:=y47 e
  exact⟨j,h1,h,h2,h3,h4⟩
theorem z15{α:Type}{xs:List α}{j:Nat}{v:α}(h:xs[j]? = some v):atI xs (j:Int)=some v:=by
 have hj:j<xs.length:=(cO.mp h).1
 have e:ixN xs.length (j:Int)=some j:=by
  unfold ixN
  rw[if_pos (by lia),if_pos (by lia)];simp
 unfold atI;rw[e];exact h
theorem y59{α:Type}(xs:List α)(v:α):atI (xs++[v]) (-1)=some v:=by
 have hl:(xs++[v]).length=xs.length+1:=by simp
 have e:ixN (xs++[v]).length (-1)=some xs.length:=by
  unfold ixN
  rw[hl,if_neg (by decide),if_pos (by lia)]
  congr 1
  lia
 unfold atI
 rw[e]
 show(xs++[v])[xs.length]? = some v
 simp
noncomputable def y6X(b:Expr):Prop:=∀o i,subscripted b false o i=operate [o,i] (getItem o i)
noncomputable def IxR(X:Cx)(r:R2):Prop:=
 ∀(value slice:Expr) (pins:List (Addr×Obj)) (s:Shared) (σ:St) (H:Hp) (x y:V) (v u:Value) (Q:VK),Inv X pins σ H s->RelV x v->RelV y u->r x y H Q->
  subscripted slice false v u=operate [v,u] (getItem v u)->wpAny (model X.prog X.w) X.A (subscriptTail value slice v u) (EP X pins σ Q) X.xe s
noncomputable def MtR(X:Cx)(id:String)(r:V->List V->Hp->VK->Prop):Prop:=
 ∀(pins:List (Addr×Obj)) (s:Shared) (σ:St) (H:Hp) (x:V) (xs:List V) (v:Value) (us:List Value) (Q:VK),Inv X pins σ H s->RelV x v->Vals xs us->r x xs H Q->
  wpAny (model X.prog X.w) X.A (call (.builtin id) (v::us)) (EP X pins σ Q) X.xe s
section
variable{X:Cx}{a b:Expr}{ta tb:TE}{pos:Pos}
theorem IxR.or{r r':R2}(h:IxR X r)(h':IxR X r'):IxR X (fun x y H Q=>r x y H Q\/r' x y H Q):=by
 intro value slice pins s σ H x y v u Q I rx ry q hs
 rcases q with q|q
 ·exact h value slice pins s σ H x y v u Q I rx ry q hs
 ·exact h' value slice pins s σ H x y v u Q I rx ry q hs
theorem z0N{r:R2}(hr:IxR X r)(ha:PE X a ta)(hb:PE X b tb)(hs:y6X b):PE X (.Subscript a b pos) (tOp r ta tb):=by
 intro pins s σ H Q I h
 exact Subscript_ (w11 ha hb I h fun v u s2 x y H2 I2 rx ry q=>hr a b pins s2 σ H2 x y v u Q I2 rx ry q (hs _ _))
noncomputable def w07(K:PySem.W.Frag):R2:=fun x y H Q=>∃p xs i v,x=.ref p/\y=.int i/\SqL K H p xs/\atI xs i=some v/\Q v H
noncomputable def T6(K:PySem.W.Frag):R2:=fun x y H Q=>∃p xs i v,x=.ref p/\y=.int i/\SqT K H p xs/\atI xs i=some v/\Q v H
noncomputable def rIxS:R2:=fun x y H Q=>∃z i c,x=.str z/\y=.int i/\z.length≤sizeLine/\atI z.cps.toList i=some c/\Q (.str ⟨#[c]⟩) H
theorem z0L:IxR X (w07 X.K):=by
 intro value slice pins s σ H x y v u Q I rx ry h hs
 obtain⟨p,xs,i,z,rfl,rfl,hq,he,q⟩:=h
 cases rx
 obtain⟨t,rfl⟩:=ry
 obtain⟨its,r,pl,hz⟩:=I.list hq
 obtain⟨j,h1,h2,h3,h4,h5⟩:=y0F he
 obtain⟨w,ew,rw'⟩:=r.get h2
 have hl:=r.length
 have hn:=z5K
 have fin:EP X pins σ Q w s:=⟨z,H,I,rw',q⟩
 by_cases h0:0≤i
 ·have hj:i.toNat=j:=by
   rw[seqIndex_of h0 h5] at h1
   exact Option.some.inj h1
  exact item_listR pl.isList h0 (by lia) (by rw[hj];simpa using ew) fin hs
 ·have hj:(i+(its.toArray.size:Int)).toNat=j:=by
   rw[seqIndex_neg (by lia) h4] at h1
   rw[bE,<- hl]
   exact Option.some.inj h1
  exact subscriptTail_builtinR (x:=w) pl.isList.typeIs slot_list_getitem.lookup
   (wpAny_getItem_list_neg (Q:=fun r s'=>r=w/\EP X pins σ Q r s') pl.isList (by lia) (by rw[bE]<;>lia) (by lia) (by rw[hj];simpa using ew) ⟨rfl,fin⟩) hs
theorem z19:IxR X (T6 X.K):=by
 intro value slice pins s σ H x y v u Q I rx ry h hs
 obtain⟨p,xs,i,z,rfl,rfl,hq,he,q⟩:=h
 cases rx
 obtain⟨t,rfl⟩:=ry
 obtain⟨its,r,pl,hz⟩:=I.tuple hq
 obtain⟨j,h1,h2,h3,h4,h5⟩:=y0F he
 obtain⟨w,ew,rw'⟩:=r.get h2
 have hl:=r.length
 have hn:=z5K
 have fin:EP X pins σ Q w s:=⟨z,H,I,rw',q⟩
 exact subscriptTail_builtinR (x:=w) pl.typeIs slot_tuple_getitem.lookup
  (getItem_tuple (j:=j) (Q:=fun r s'=>r=w/\EP X pins σ Q r s') pl (by lia) (by lia) (by rw[bE,<- hl];exact h1) (by simpa using ew) ⟨rfl,fin⟩) hs
theorem y2y:IxR X rIxS:=by
 intro value slice pins s σ H x y v u Q I rx ry h hs
 obtain⟨z,i,c,rfl,rfl,hz,he,q⟩:=h
 obtain⟨t,rfl⟩:=rx
 obtain⟨t',rfl⟩:=ry
 obtain⟨j,h1,h2,h3,h4,h5⟩:=y0F he
 have hl:z.cps.toList.length=z.length:=by simp[Str.length]
 rw[hl] at h1 h4 h5
 have hn:=z5K
 exact tail_any (typeIs_str s z t) slot_str_getitem.lookup (getItem_str (c:=c) (by
  have e1:decide (i < -(2^63:Int))=false:=decide_eq_false (by lia)
  have e2:decide (i≥2^63)=false:=decide_eq_false (by lia)
  rw[e1,e2,Bool.or_false]) (by rw[h1];simpa using h2) ⟨.str ⟨#[c]⟩,H,I.tok _,⟨_,rfl⟩,q⟩) hs
noncomputable def rIx(K:PySem.W.Frag):R2:=fun x y H Q=>w07 K x y H Q\/T6 K x y H Q\/rIxS x y H Q
theorem y7x:IxR X (rIx X.K):=z0L.or (z19.or y2y)
theorem y20(its:List Value)(n j:Nat)(u:Value):Obj.mapSeq (·.setIfInBounds j u) { cls:=.type "list",data:=.seq its.toArray n }={ cls:=.type "list",data:=.seq (its.set j u).toArray n }:=by
 simp[Obj.mapSeq]
theorem Inv.lst{pins:List (Addr×Obj)}{σ:St}{H:Hp}{s:Shared}{p:Addr}{xs:List V}(I:Inv X pins σ H s)(h:H p=some (.lst xs)) :
  ∃(its:List Value) (n:Nat),Vals xs its/\s.heap.get? p=some { cls:=.type "list",data:=.seq its.toArray n }/\xs.length≤sizeLine:=by
 obtain⟨z,its,n,r,e⟩:=I.hok p _ h
 exact⟨its,n,r,e,z⟩
theorem Inv.w0X{pins:List (Addr×Obj)}{σ:St}{H:Hp}{s:Shared}{p:Addr}{xs ys:List V}{its its':List Value}{n n':Nat}{f:Obj->Obj}(I:Inv X pins σ H s)(h:H p=some (.lst xs))
  (ho:s.heap.get? p=some { cls:=.type "list",data:=.seq its.toArray n }) (hf:f { cls:=.type "list",data:=.seq its.toArray n }={ cls:=.type "list",data:=.seq its'.toArray n' }) (r:Vals ys its') (hz:ys.length≤sizeLine) (t:Nat) :
  Inv X pins σ (upd H p (.lst ys)) { s with heap:=s.heap.update p f,toks:=t }:=by
 have e:(s.heap.update p f).get? p=some { cls:=.type "list",data:=.seq its'.toArray n' }:=by
  rw[d7 f ho (by rw[hf]<;>rfl),hf]
 refine I.write (x:=p) (e:=p) (by rw[h];trivial) (.inl rfl) (fun b u hb q=>(cK _ _ (cU hb)).trans q) ⟨_,e⟩ ?_
 exact⟨hz,its',n',r,e⟩
noncomputable def w1r:V->V->V->Hp->(Hp->Prop)->Prop:=fun o i v H Q=>∃p xs k j,o=.ref p/\i=.int k/\H p=some (.lst xs)/\ixN xs.length k=some j/\Q (upd H p (.lst (xs.set j v)))
theorem y4R:PSet X w1r:=by
 intro pins s σ H o i v ov iv u Q I ro ri rv h
 obtain⟨p,xs,k,j,rfl,rfl,hp,hj,q⟩:=h
 cases ro
 obtain⟨t,rfl⟩:=ri
 obtain⟨its,n,r,ho,hz⟩:=I.lst hp
 obtain⟨h1,h2,h3,h4⟩:=y47 hj
 have hl:=r.length
 have hn:=z5K
 have I':Inv X pins σ (upd H p (.lst (xs.set j v))) { s with heap:=s.heap.update p (Obj.mapSeq (·.setIfInBounds j u)) }:=
  I.w0X hp ho (y20 its n j u) (r.set rv j) (by rw[List.length_set];exact hz) s.toks
 by_cases h0:0≤k
 ·have hk:k.toNat=j:=by
   rw[seqIndex_of h0 h4] at h1
   exact Option.some.inj h1
  exact PySem.W.ki_setAt ho h0 (by lia) (by rw[bE,<- hl];exact h4) (by rw[hk];exact⟨_,I',q⟩)
 ·have hk:(k+(its.toArray.size:Int)).toNat=j:=by
   rw[seqIndex_neg (by lia) h3] at h1
   rw[bE,<- hl]
   exact Option.some.inj h1
  exact PySem.W.ki_setBack ho (by lia) (by rw[bE,<- hl];exact h3) (by lia) (by rw[hk];exact⟨_,I',q⟩)
theorem z6E(lo hi:Option Int)(n:Nat):(sliceBounds lo hi none n).1=((HT.sIx n 0 lo:Nat):Int)/\(sliceBounds lo hi none n).2.1=((HT.sIx n n hi:Nat):Int)/\(sliceBounds lo hi none n).2.2=1:=by
 refine⟨?_,?_,rfl⟩
 ·cases lo with
  | none=>simp[sliceBounds,HT.sIx]
  | some i=>
   simp only[sliceBounds,HT.sIx,Option.getD_none,show(1:Int) > 0 by decide,if_true]
   by_cases h:i<0
   ·simp only[h,if_true]<;>lia
   ·simp only[h,if_false]<;>lia
 ·cases hi with
  | none=>simp[sliceBounds,HT.sIx]
  | some i=>
   simp only[sliceBounds,HT.sIx,Option.getD_none,show(1:Int) > 0 by decide,if_true]
   by_cases h:i<0
   ·simp only[h,if_true]<;>lia
   ·simp only[h,if_false]<;>lia
theorem z9j(its:List Value)(lo hi:Option Int):slicePick its.toArray lo hi none=((its.drop (HT.sIx its.length 0 lo)).take (HT.sIx its.length its.length hi-HT.sIx its.length 0 lo)).toArray:=by
 obtain⟨h1,h2,h3⟩:=z6E lo hi its.toArray.size
 unfold slicePick
 rw[h1,h2,h3]
 simp only[sliceRange_one,pick_run,bE]<;>rfl
noncomputable def rSlL(K:PySem.W.Frag):V->Option Int->Option Int->Hp->VK->Prop:=fun x lo hi H Q=>∃a xs,x=.ref a/\SqL K H a xs/\∀p,H p=none->Q (.ref p) (upd H p (.lst (S9 xs lo hi)))
theorem y0Y:SlR X (rSlL X.K):=by
 intro pins s σ H x v vl vu lo hi sl Q I rx hs pl pu h
 obtain⟨a,xs,rfl,hx,q⟩:=h
 cases rx
 obtain⟨its,r,ht,hz⟩:=I.list hx
 have hlen:=r.length
 refine⟨"list",_,slot_list_getitem.lookup,ht.isList.typeIs,?_⟩
 refine wpAny_getItem_list_slice ht.isList hs pl pu .none (by simp) ?_ (by rw[bE]<;>lia)
 rw[z9j,<- hlen]
 refine⟨.ref s.heap.objs.size,_,I.laid (t':=s.toks) (o:=.lst (S9 xs lo hi)) (fun b ob q=>bB _ q) (bG _) ?_,rfl,q _ (I.hok.fresh (bG _))⟩
 exact⟨c9 (z7d xs lo hi) hz,_,0,(r.drop (HT.sIx xs.length 0 lo)).take (HT.sIx xs.length xs.length hi-HT.sIx xs.length 0 lo),bK _ rfl⟩
noncomputable def z1t:V->Bool
 | .non=>true
 | .bl _=>true
 | .int _=>true
 | .str _=>true
 | _=>false
noncomputable def eqV:V->V->Bool
 | .non,.non=>true
 | .bl a,.bl b=>a == b
 | .bl a,.int b=>(if a then 1 else 0) == b
 | .int a,.bl b=>a == (if b then 1 else 0)
 | .int a,.int b=>a == b
 | .str a,.str b=>a == b
 | _,_=>false
theorem y5K{A:Around}{s:Shared}{y x:V}{u v:Value}(ry:RelV y u)(rx:RelV x v)(fy:z1t y=true)(fx:z1t x=true):SeqAt.EqAt A s u v (eqV y x):=by
 cases y with
 | non=>
  cases ry
  cases x with
  | non=>cases rx;exact SeqAt.EqAt.same _
  | bl b=>cases rx;exact SeqAt.EqAt.none_bool b
  | int b=>obtain⟨t,rfl⟩:=rx;exact SeqAt.EqAt.none_int b t
  | str b=>obtain⟨t,rfl⟩:=rx;exact SeqAt.EqAt.none_str b t
  | _=>exact absurd (show false=true from fx) bO
 | bl a=>
  cases ry
  cases x with
  | non=>cases rx;exact SeqAt.EqAt.bool_none a
  | bl b=>cases rx;exact SeqAt.EqAt.bool_bool a b
  | int b=>obtain⟨t,rfl⟩:=rx;exact SeqAt.EqAt.bool_int a b t
  | str b=>obtain⟨t,rfl⟩:=rx;exact SeqAt.EqAt.bool_str a b t
  | _=>exact absurd (show false=true from fx) bO
 | int a=>
  obtain⟨t',rfl⟩:=ry
  cases x with
  | non=>cases rx;exact SeqAt.EqAt.int_none a t'
  | bl b=>cases rx;exact SeqAt.EqAt.int_bool a t' b
  | int b=>obtain⟨t,rfl⟩:=rx;exact SeqAt.EqAt.int_int a t' b t
  | str b=>obtain⟨t,rfl⟩:=rx;exact SeqAt.EqAt.int_str a t' b t
  | _=>exact absurd (show false=true from fx) bO
 | str a=>
  obtain⟨t',rfl⟩:=ry
  cases x with
  | non=>cases rx;exact SeqAt.EqAt.str_none a t'
  | bl b=>cases rx;exact SeqAt.EqAt.str_bool a t' b
  | int b=>obtain⟨t,rfl⟩:=rx;exact SeqAt.EqAt.str_int a t' b t
  | str b=>obtain⟨t,rfl⟩:=rx;exact SeqAt.EqAt.str_str a t' b t
  | _=>exact absurd (show false=true from fx) bO
 | _=>exact absurd (show false=true from fy) bO
noncomputable def eqU(x:V)(u:Value):Bool:=match u with
 | .none=>eqV .non x
 | .bool b=>eqV (.bl b) x
 | .int i _=>eqV (.int i) x
 | .str z _=>eqV (.str z) x
 | _=>false
theorem y01{x y:V}{u:Value}(r:RelV y u)(f:z1t y=true):eqU x u=eqV y x:=by
 cases y with
 | non=>cases r;rfl
 | bl b=>cases r;rfl
 | int i=>obtain⟨t,rfl⟩:=r;rfl
 | str z=>obtain⟨t,rfl⟩:=r;rfl
 | _=>exact absurd (show false=true from f) bO
theorem z7a{x:V}:∀{xs:List V}{us:List Value},Vals xs us->xs.all z1t=true->us.any (eqU x)=xs.any fun y=>eqV y x
 | _,_,.nil,_=>rfl
 | y::xs,u::us,.cons r t,f=>by
  rw[dW,bU] at f
  rw[eV,eV,y01 r f.1,z7a t f.2]
theorem z3P{A:Around}{s:Shared}{x:V}{v:Value}(rx:RelV x v)(fx:z1t x=true):∀{xs:List V}{us:List Value},Vals xs us->xs.all z1t=true->∀u∈us,SeqAt.EqAt A s u v (eqU x u)
 | _,_,.nil,_=>fun u hu=>by cases hu
 | y::xs,u::us,.cons r t,f=>fun u' hu=>by
  rw[dW,bU] at f
  rcases bC.mp hu with rfl|hu
  ·rw[y01 r f.1];exact y5K r rx f.1 fx
  ·exact z3P rx fx t f.2 u' hu
noncomputable def inV(x:V)(xs:List V):Bool:=xs.any fun y=>eqV y x
noncomputable def rIn(K:PySem.W.Frag)(neg:Bool):R2:=fun x y H Q=>∃p xs,y=.ref p/\(SqL K H p xs\/SqT K H p xs)/\z1t x=true/\xs.all z1t=true/\Q (.bl (if neg then !inV x xs else inV x xs)) H
theorem z7q:OpR X (compareOp .In) (rIn X.K false):=by
 intro pins s σ H x y v u Q I rx ry h
 obtain⟨p,xs,rfl,hq,fx,fs,q⟩:=h
 cases ry
 rcases hq with hq|hq
 ·obtain⟨its,r,pl,hz⟩:=I.list hq
  refine SeqAt.in_listAt (eqU x) pl.isList (fun w hw=>z3P rx fx r fs w (by simpa using hw)) ⟨.bl _,H,I,rfl,?_⟩
  rw[show its.toArray.any (eqU x)=its.any (eqU x) by simp,z7a r fs]
  exact q
 ·obtain⟨its,r,pl,hz⟩:=I.tuple hq
  refine SeqAt.in_tupleAt (eqU x) pl (fun w hw=>z3P rx fx r fs w (by simpa using hw)) ⟨.bl _,H,I,rfl,?_⟩
  rw[show its.toArray.any (eqU x)=its.any (eqU x) by simp,z7a r fs]
  exact q
theorem z1H:OpR X (compareOp .NotIn) (rIn X.K true):=by
 intro pins s σ H x y v u Q I rx ry h
 obtain⟨p,xs,rfl,hq,fx,fs,q⟩:=h
 cases ry
 rcases hq with hq|hq
 ·obtain⟨its,r,pl,hz⟩:=I.list hq
  refine SeqAt.notIn_listAt (eqU x) pl.isList (fun w hw=>z3P rx fx r fs w (by simpa using hw)) ⟨.bl _,H,I,rfl,?_⟩
  rw[show its.toArray.any (eqU x)=its.any (eqU x) by simp,z7a r fs]
  exact q
 ·obtain⟨its,r,pl,hz⟩:=I.tuple hq
  refine SeqAt.notIn_tupleAt (eqU x) pl (fun w hw=>z3P rx fx r fs w (by simpa using hw)) ⟨.bl _,H,I,rfl,?_⟩
  rw[show its.toArray.any (eqU x)=its.any (eqU x) by simp,z7a r fs]
  exact q
theorem z07:z3k X (.builtin "len") (fun xs H Q=>∃p ys,xs=[.ref p]/\(SqL X.K H p ys\/SqT X.K H p ys)/\Q (.int ys.length) H):=by
 intro pins s σ H xs us Q I r h
 obtain⟨p,ys,rfl,hq,q⟩:=h
 obtain⟨u,rfl,rx⟩:=z4N r
 cases rx
 have hn:=z5K
 rcases hq with hq|hq
 ·obtain⟨its,r',pl,hz⟩:=I.list hq
  have hlen:=r'.length
  exact Calls.call_len_list pl.isList (by simp only[bE]<;>lia) ⟨.int ys.length,H,I.tok _,⟨s.toks+1,by rw[bE,hlen]⟩,q⟩
 ·obtain⟨its,r',pl,hz⟩:=I.tuple hq
  have hlen:=r'.length
  exact len_tuple pl (by simp only[bE]<;>lia) ⟨.int ys.length,H,I.tok _,⟨s.toks+1,by rw[bE,hlen]⟩,q⟩
theorem z6J:z3k X (.builtin "len") (fun xs H Q=>∃z,xs=[.str z]/\z.length≤sizeLine/\Q (.int z.length) H):=by
 intro pins s σ H xs us Q I r h
 obtain⟨z,rfl,hz,q⟩:=h
 obtain⟨u,rfl,t,rfl⟩:=z4N r
 have hn:=z5K
 exact len_str (by lia) ⟨.int z.length,H,I.tok _,⟨_,rfl⟩,q⟩
theorem z4k:z3k X (.type "list") (fun xs H Q=>∃p ys,xs=[.ref p]/\(SqL X.K H p ys\/SqT X.K H p ys)/\∀l,H l=none->Q (.ref l) (upd H l (.lst ys))):=by
 intro pins s σ H xs us Q I r h
 obtain⟨p,ys,rfl,hq,q⟩:=h
 obtain⟨u,rfl,rx⟩:=z4N r
 cases rx
 have fin:∀(its:List Value),Vals ys its->ys.length≤sizeLine->∀(h':Heap) (c':Nat),(∀b o',s.heap.get? b=some o'->h'.get? b=some o')->
   h'.get? s.heap.objs.size=some { cls:=.type "list",dict:=none,data:=.seq its.toArray c',slots:=#[] }->EP X pins σ Q (.ref s.heap.objs.size) { s with heap:=h' }:=fun its r' hz h' c' kp e=>
  ⟨.ref s.heap.objs.size,_,I.laid (t':=s.toks) kp (bG _) (show z1o X.prog X.w _ h' _ (.lst ys) from⟨hz,its,c',r',e⟩),rfl,q _ (I.hok.fresh (bG _))⟩
 rcases hq with hq|hq
 ·obtain⟨its,r',pl,hz⟩:=I.list hq
  have hlen:=r'.length
  obtain⟨o,ho,hc,n,hd⟩:=pl.isList
  exact call_list_seq p (.inl rfl) ho hc hd (fun h' c' kp e=>fin its r' hz h' c' kp e) (by simp only[bE]<;>lia)
 ·obtain⟨its,r',pl,hz⟩:=I.tuple hq
  have hlen:=r'.length
  obtain⟨o,ho,hc,n,hd⟩:=pl
  exact call_list_seq p (.inr rfl) ho hc hd (fun h' c' kp e=>fin its r' hz h' c' kp e) (by simp only[bE]<;>lia)
theorem z0p:z3k X (.type "tuple") (fun xs H Q=>∃p ys,xs=[.ref p]/\((SqL X.K H p ys/\∀l,H l=none->Q (.ref l) (upd H l (.tup ys)))\/(SqT X.K H p ys/\Q (.ref p) H))):=by
 intro pins s σ H xs us Q I r h
 obtain⟨p,ys,rfl,h⟩:=h
 obtain⟨u,rfl,rx⟩:=z4N r
 cases rx
 rcases h with ⟨hq,q⟩|⟨hq,q⟩
 ·obtain⟨its,r',pl,hz⟩:=I.list hq
  have hlen:=r'.length
  refine call_tuple_list pl.isList (fun h' kp=>?_) (by simp only[bE]<;>lia)
  have I1:Inv X pins σ H { s with heap:=h' }:=I.kept (t':=s.toks) kp
  have I2:Inv X pins σ (upd H h'.objs.size (.tup ys)) { s with heap:=h'.push { cls:=.type "tuple",data:=.seq its.toArray } }:=
   I1.laid (t':=s.toks) (fun b o e=>bB _ e) (bG _) (show z1o X.prog X.w _ _ _ (.tup ys) from⟨hz,its,r',PlT.new _ _⟩)
  exact⟨.ref h'.objs.size,_,I2,rfl,q _ (I1.hok.fresh (bG _))⟩
 ·obtain⟨its,r',pl,hz⟩:=I.tuple hq
  exact call_tuple_same pl ⟨.ref p,H,I,rfl,q⟩
noncomputable def tyV(K:PySem.W.Frag)(T:String)(x:V)(H:Hp):Prop:=match x with
 | .str _=>T="str"
 | .int _=>T="int"
 | .ref p=>(T="list"/\∃xs,SqL K H p xs)\/(T="tuple"/\∃o,K.lookup p=some o/\o.cls=.type "tuple"/\o.dict=none)\/
   (T="dict"/\((∃kvs,H p=some (.dK kvs))\/∃kvs,H p=some (.dT kvs)))\/(T="set"/\∃S n,H p=some (.set S n))
 | _=>False
theorem y5S{pins:List (Addr×Obj)}{σ:St}{H:Hp}{s:Shared}{T:String}{x:V}{v:Value}(I:Inv X pins σ H s)(r:RelV x v)(ty:tyV X.K T x H) :
  s.TypeIs v T/\∀a,v=.ref a->∃ob,s.heap.get? a=some ob/\ob.dict=none:=by
 cases x with
 | str z=>
  obtain⟨t,rfl⟩:=r
  cases (show T="str" from ty)
  exact⟨typeIs_str s z t,fun _ e=>nomatch e⟩
 | int i=>
  obtain⟨t,rfl⟩:=r
  cases (show T="int" from ty)
  exact⟨typeIs_int s i t,fun _ e=>nomatch e⟩
 | ref p=>
  cases r
  rcases ty with ⟨rfl,xs,hq⟩|⟨rfl,o,hk,hc,hd⟩|⟨rfl,hk⟩|⟨rfl,S,n,hk⟩
  ·obtain⟨its,_,pl,_⟩:=I.list hq
   refine⟨pl.isList.typeIs,fun a e=>?_⟩
   cases e
   obtain⟨o,n,e,c,hd,_⟩:=pl
   exact⟨o,e,hd⟩
  ·refine⟨⟨o,I.kIn p o hk,hc⟩,fun a e=>?_⟩
   cases e
   exact⟨o,I.kIn _ o hk,hd⟩
  ·have z:∃o,s.heap.get? p=some o/\o.ExactDict:=by
    rcases hk with ⟨kvs,hk⟩|⟨kvs,hk⟩
    ·obtain⟨_,_,_,_,o,_,_,e,ex,_⟩:=I.hok p _ hk
     exact⟨o,e,ex⟩
    ·obtain⟨_,_,_,_,o,_,_,e,ex,_⟩:=I.hok p _ hk
     exact⟨o,e,ex⟩
   obtain⟨o,e,ex⟩:=z
   refine⟨⟨o,e,ex.1⟩,fun a e2=>?_⟩
   cases e2
   exact⟨o,e,ex.2.1⟩
  ·obtain⟨o,_,_,_,e,ex,_⟩:=I.hok p _ hk
   refine⟨⟨o,e,ex.1⟩,fun a e2=>?_⟩
   cases e2
   exact⟨o,e,ex.2.1⟩
 | _=>exact False.elim ty
noncomputable def tBM0(K:PySem.W.Frag)(T:String)(r:V->List V->Hp->VK->Prop)(to:TE):TE:=fun σ H Q=>to σ H fun x H1=>tyV K T x H1/\r x [] H1 Q
noncomputable def tBM(K:PySem.W.Frag)(T:String)(r:V->List V->Hp->VK->Prop)(to:TE)(t:TA):TE:=fun σ H Q=>to σ H fun x H1=>tyV K T x H1/\t σ H1 fun xs H2=>r x xs H2 Q
variable{o e:Expr}{es:List Expr}{to:TE}{t:TA}{name:Str}{apos N2:Pos}{T id:String}{r:V->List V->Hp->VK->Prop}
theorem y5J(pa:PlainAttrs T)(slot:Slot T name id)(hty:typeOf (.builtin id)=pure (.type "method_descriptor"))(hm:MtR X id r)(ho:PE X o to)
  (U4:attributeBase o name X.env (eval o X.env)=eval o X.env:=by rfl) (X7:(apos.endLine == N2.line)=true:=by rfl):PE X (.Call (.Attribute o name apos) [] [] N2) (tBM0 X.K T r to):=by
 intro pins s σ H Q I h
 refine wpAny_Call_method0_late U4 X7 (thn (ho pins s σ H _ I h) fun v s1 hz=>?_)
 obtain⟨x,H1,I1,r1,ty,q1⟩:=hz
 obtain⟨h1,h2⟩:=y5S I1 r1 ty
 exact⟨T,id,pa,slot,hty,h1,h2,Calls.callWith_builtin rfl (PySem.evalArgs_none (hm pins s1 σ H1 x [] v [] Q I1 r1 .nil q1))⟩
theorem z26(pa:PlainAttrs T)(slot:Slot T name id)(hty:typeOf (.builtin id)=pure (.type "method_descriptor"))(hm:MtR X id r)(ho:PE X o to)(ha:PA X (e::es) t)
  (U4:attributeBase o name X.env (eval o X.env)=eval o X.env:=by rfl)
  (w0H:((backTo N2 (starEach (e::es) X.env)).all (fun x=>!x.1) && (backToKw N2 (keywordEach [] X.env)).all (fun x=>x.1.isSome)
   && decide ((e::es).length+([]:List Keyword).length+(if ([]:List Keyword).isEmpty then 0 else 1)<30))=true:=by rfl)
  (X7:(apos.endLine == N2.line)=true:=by rfl) (hs:starEach (e::es) X.env=(false,eval e X.env)::starEach es X.env:=by rfl) (S2:(backTo N2 (starEach es X.env)).any (·.1)=false:=by rfl) :
  PE X (.Call (.Attribute o name apos) (e::es) [] N2) (tBM X.K T r to t):=by
 intro pins s σ H Q I h
 refine wpAny_Call_method_late U4 w0H X7 rfl (thn (ho pins s σ H _ I h) fun v s1 hz=>?_)
 obtain⟨x,H1,I1,r1,ty,q1⟩:=hz
 obtain⟨h1,h2⟩:=y5S I1 r1 ty
 refine⟨T,id,pa,slot,hty,h1,h2,?_⟩
 have hA:=ha N2 pins s1 σ H1 _ I1 q1
 rw[hs] at hA ⊢
 refine Calls.callWith_builtin (by show(false || (backTo N2 (starEach es X.env)).any (·.1))=false;rw[S2]<;>rfl) (Calls.evalArgs_plain ?_)
 exact thn hA fun us s2 ⟨vs,H2,I2,r2,q2⟩=>hm pins s2 σ H2 x vs v us Q I2 r1 r2 q2
end
noncomputable def MtM(X:Cx)(id:String)(r:V->List V->Hp->VK->Prop):Prop:=
 ∀(pins:List (Addr×Obj)) (s:Shared) (σ:St) (H:Hp) (x:V) (xs:List V) (v:Value) (us:List Value) (Q:VK),Inv X pins σ H s->RelV x v->Vals xs us->r x xs H Q->
  wpAny (model X.prog X.w) X.A (call (.builtin id) (v::us)) (EP X pins σ Q) X.xe s
theorem Vals.one:∀{x:V}{us:List Value},Vals [x] us->∃u,us=[u]/\RelV x u
 | _,_,.cons r .nil=>⟨_,rfl,r⟩
theorem Vals.two:∀{x y:V}{us:List Value},Vals [x,y] us->∃u v,us=[u,v]/\RelV x u/\RelV y v
 | _,_,_,.cons r (.cons q .nil)=>⟨_,_,rfl,r,q⟩
theorem Vals.dropLast{xs:List V}{us:List Value}(h:Vals xs us):Vals xs.dropLast us.dropLast:=by
 induction h with
 | nil=>exact .nil
 | cons r t ih=>
  cases t with
  | nil=>exact .nil
  | cons q t'=>exact .cons r ih
section
variable{X:Cx}{pins:List (Addr×Obj)}{σ:St}{H:Hp}{s:Shared}{l b:Addr}{xs ys zs:List V}
theorem Inv.w1a{its its':List Value}{n:Nat}{f:Array Value->Array Value}{t':Nat}(I:Inv X pins σ H s)(hH:H l=some (.lst xs))
  (e:s.heap.get? l=some { cls:=.type "list",data:=.seq its.toArray n }) (hf:f its.toArray=its'.toArray) (hv:Vals ys its') (hz:ys.length≤sizeLine) :
  Inv X pins σ (upd H l (.lst ys)) { s with heap:=s.heap.update l (Obj.mapSeq f),toks:=t' }:=by
 have q:=PySem.IsL.update e f
 rw[hf] at q
 refine I.write (x:=l) (e:=l) (by rw[hH];exact trivial) (.inl rfl) (fun b' u hb hu=>(cK s.heap (Obj.mapSeq f) (cU hb)).trans hu) ⟨_,q⟩ ?_
 exact⟨hz,its',_,hv,q⟩
theorem Inv.lnew{its:List Value}{t':Nat}(I:Inv X pins σ H s)(hv:Vals ys its)(hz:ys.length≤sizeLine) :
  Inv X pins σ (upd H s.heap.objs.size (.lst ys)) { s with heap:=s.heap.push { cls:=.type "list",data:=.seq its.toArray },toks:=t' }:=
 I.laid (fun _ _ q=>bB _ q) (bG _) ⟨hz,its,0,hv,bK _ rfl⟩
theorem Inv.fresh(I:Inv X pins σ H s):H s.heap.objs.size=none:=I.hok.fresh (bG _)
theorem Inv.Z6(I:Inv X pins σ H s)(hH:H l=some (.lst xs)):xs.length≤sizeLine/\∃(its:List Value) (n:Nat),Vals xs its/\xs.length=its.length/\s.heap.get? l=some { cls:=.type "list",data:=.seq its.toArray n }:=by
 obtain⟨z,its,n,r,e⟩:=I.hok l _ hH
 exact⟨z,its,n,r,r.length,e⟩
theorem y4W{n:Nat}(h:n≤sizeLine):Builtin.List.listTooLong n=false:=by
 unfold Builtin.List.listTooLong
 exact decide_eq_false (by lia)
end
section
variable{X:Cx}
noncomputable def y6D:V->List V->Hp->VK->Prop:=fun x vs H Q=>∃l xs y,x=.ref l/\vs=[y]/\H l=some (.lst xs)/\xs.length<sizeLine/\Q .non (upd H l (.lst (xs++[y])))
theorem z0G:MtM X "list.append" y6D:=by
 intro pins s σ H x vs v us Q I rx rv h
 obtain⟨l,xs,y,rfl,rfl,hH,hz,q⟩:=h
 cases rx
 obtain⟨u,rfl,ru⟩:=rv.one
 obtain⟨z,its,n,r,hl,e⟩:=I.Z6 hH
 refine call_meets F.slot_list_append ⟨_,e,rfl⟩ F.entry_list_append (F.args_list_append_2 _ _) (PySem.list_append l its.toArray n u (by rw[bE];lia)) ⟨e,?_⟩
 refine⟨.non,_,I.w1a (its':=its++[u]) hH e (by simp) (r.append (.cons ru .nil)) ?_,rfl,q⟩
 rw[bF,fI]
 lia
noncomputable def y6g:V->List V->Hp->VK->Prop:=fun x vs H Q=>∃l b xs zs,x=.ref l/\vs=[.ref b]/\H l=some (.lst xs)/\H b=some (.lst zs)/\xs.length+zs.length≤sizeLine/\Q .non (upd H l (.lst (xs++zs)))
theorem y7b:MtM X "list.extend" y6g:=by
 intro pins s σ H x vs v us Q I rx rv h
 obtain⟨l,b,xs,zs,rfl,rfl,hH,hB,hz,q⟩:=h
 cases rx
 obtain⟨u,rfl,ru⟩:=rv.one
 cases ru
 obtain⟨z,its,n,r,hl,e⟩:=I.Z6 hH
 obtain⟨z2,N1,n2,r2,hl2,e2⟩:=I.Z6 hB
 have hsz:its.toArray.size+N1.toArray.size≤sizeLine:=by rw[bE,bE];lia
 have w1Y:¬(!its.toArray.isEmpty && Builtin.List.listTooLong (its.toArray.size+N1.toArray.size))=true:=by
  rw[y4W hsz,Bool.and_false]
  exact bO
 refine call_meets F.slot_list_extend ⟨_,e,rfl⟩ F.entry_list_extend (F.args_list_extend_2 _ _)
  (AutoSeq1.list_extend_list_list_0 l its.toArray n b N1.toArray n2 w1Y (by rw[bE];lia) (by lia)) ⟨e,e2,?_⟩
 refine⟨.non,_,I.w1a (its':=its++N1) hH e (by simp) (r.append r2) ?_,rfl,q⟩
 rw[bF]
 lia
noncomputable def rCat:R2:=fun x y H Q=>∃l b xs zs,x=.ref l/\y=.ref b/\H l=some (.lst xs)/\H b=some (.lst zs)/\xs.length+zs.length≤sizeLine/\∀p,H p=none->Q (.ref p) (upd H p (.lst (xs++zs)))
theorem z8e:OpR X (binaryOp .Add) rCat:=by
 intro pins s σ H x y v u Q I rx ry h
 obtain⟨l,b,xs,zs,rfl,rfl,hH,hB,hz,q⟩:=h
 cases rx
 cases ry
 obtain⟨z,its,n,r,hl,e⟩:=I.Z6 hH
 obtain⟨z2,N1,n2,r2,hl2,e2⟩:=I.Z6 hB
 refine PySem.P.add_list e e2 ?_ (by rw[bE,bE];lia)
 have ea:its.toArray++N1.toArray=(its++N1).toArray:=by simp
 rw[ea]
 exact⟨.ref _,_,I.lnew (t':=s.toks) (r.append r2) (by rw[bF];lia),rfl,q _ I.fresh⟩
end
section
variable{prog:Program}{w:World}{A:Around}{E:Value->Shared->Prop}{s:Shared}
end
section
variable{X:Cx}
end
end L2
namespace Att
open PySem PySem.W PySem.Calls PyProof.Rows
theorem z7P{P:Params}{h:Heap}:∀(ns:List Int) (vs:List Value),WellAll P h vs (ns.map WData.int)->IntsAre vs ns:=by
 intro ns
 induction ns with
 | nil=>
  intro vs w
  rw[List.map_nil] at w
  cases w
  exact .nil
 | cons n ns ih=>
  intro vs w
  rw[cP] at w
  cases w with
  | cons a b=>
   cases a
   exact .cons _ _ (ih _ b)
theorem y4e{l:OpenLaw}{n:Nat}(hn:l.most=some n){P:Params}{h:Heap}{args:List WData}{vals:List Value}
  (w0r:l.row.toRowW.claim.pre args=true) (hwl:WellAll P h vals args) :
  ∃a vs ns,vals=[Value.ref a]/\args=[WData.list (ns.map WData.int)]/\h.get? a=some { cls:=.type "list",data:=.seq vs.toArray }/\IntsAre vs ns/\ns.length≤n:=by
 have hsh:WShape.hasAll [] args [.list .int]=true:=(pre_splitW w0r).1
 have hc:l.pre.holds [] { args:=args }=true:=(pre_splitW w0r).2
 obtain⟨d,r,rfl,h1,h2⟩:=hasAllW_cons hsh
 obtain rfl:=hasAllW_nil h2
 obtain⟨xs,rfl,h3⟩:=hasW_list h1
 obtain⟨ns,rfl⟩:=items_int h3
 have hlen:ns.length≤n:=by
  unfold OpenLaw.pre at hc
  have h4:(WTm.not (.lt (.lit (.int (n:Int))) (.len (.arg 0)))).holds [] { args:=[.list (ns.map .int)] }=true:=by
   have h4:=(holds_andW hc).1
   rw[hn] at h4
   exact h4
  have h5:=condW_of h4 (w_not (w_lt w_lit (w_len_list (w_arg rfl))))
  rw[b6] at h5
  refine j6 fun q=>?_
  have q':(n:Int)<((ns.length:Nat):Int):=by lia
  first
   | (rw[decide_eq_true q'] at h5;exact absurd h5 (by decide))
   | (simp at h5;lia)
 cases hwl with
 | cons w1 w2=>
  cases w2
  cases w1 with
  | list ho C7=>exact⟨_,_,ns,rfl,rfl,ho,z7P ns _ C7,hlen⟩
theorem y2J(l:OpenLaw)(args:List WData):l.row.toRowW.claim.post args (.bool true) args=true:=
 postW_of (r:=l.row.toRowW) (X:=(true == true))
  (show WShape.has [] (.bool true) .bool=true by first|rfl|decide|simp[WShape.has,WShape.arms,WShape.armsAll])
  (show(WTm.eq .res (.lit (.bool true))).value [] { args:=args,res:=some (.bool true),after:=args }=some (.bool (true == true)) from w_eq_bool (w_res rfl) w_lit) rfl
theorem y0J{l:OpenLaw}{n:Nat}{q:Program}{loose:List Str}{XP:(Str->Option Value)->Heap->Prop}{YP:World->Heap->Prop}{d:DefRec}
  (hn:l.most=some n) (hdf:d.params.defaults=[])
  (call:∀(w:World) (s₀ s₁:Shared) (mg mb:Str->Option Value) (fa:Addr) (o:Obj) (pm cd doc:Value) (a:Addr) (vs:List Value) (ns:List Int),
   Ground q loose [] XP w s₀ mg mb s₁.heap->YP w s₁.heap->
   s₁.heap.get? fa=some o->o.data=.func (docDef d.name d.params d.body d.scope pm cd doc)->s₁.heap.CodeRec cd d.name->mg d.name=some (.ref fa)->
   s₁.heap.get? a=some { cls:=.type "list",data:=.seq vs.toArray }->IntsAre vs ns->ns.length≤n->s₁.gens=#[]->
   codeAny (model l.prog w) callerA (.call (.ref fa) ⟨[.ref a],[]⟩) (fun r s'=>r=.ok (.ret (.bool true))/\OldK s₁.heap s'.heap/\s'.os=s₁.os/\AllBare s'.gens) s₁) :
  WalkO q loose XP YP l.row.toRowW d [] (fun f vs=>PySem.call f vs):=by
 intro w s₀ s₁ mg mb G Y fa o pm cd doc dV kV ho hd hcd hD hmg hg args vals as w0r hlay hrd hwl hlo
 obtain rfl:dV=.none:=Dflts.none hD hdf
 obtain rfl:kV=.none:=Dflts.noKw hD
 obtain⟨a,vs,ns,rfl,rfl,hobj,hints,hlen⟩:=y4e hn w0r hwl
 refine enter_call (codeAny_mono (call w s₀ s₁ mg mb fa o pm cd doc a vs ns G Y ho (fd_plain hd) hcd hmg hobj hints hlen hg) fun r s' hq=>?_)
 obtain⟨rfl,h2,h3,h4⟩:=hq
 exact⟨.inl ⟨.bool true,.bool true,[],rfl,fun _=>rfl,.bool true,y2J l _,fun _=>⟨List.Pairwise.nil,fun _ hm=>(nomatch hm)⟩⟩,h2,h3,h4⟩
section
variable{prog:Program}{w:World}{A:Around}{E:Value->Shared->Prop}{s:Shared}{K:Frag}
end
end Att
namespace L2
open PySem PySem.Spec PyProof.Rows
theorem z5U:∀{vs:List Value}{ns:List Int},IntsAre vs ns->Vals (ns.map V.int) vs
 | _,_,.nil=>.nil
 | _,_,.cons n t h=>.cons ⟨t,rfl⟩ (z5U h)
noncomputable def w1f(H:Hp):Prop:=∀b,H b=none\/∃o xs,H b=some (.frz o (.lst xs))
theorem y4D{P:Program}{w:World}{K:PySem.W.Frag}{mg mb:Str->Option Value}{CX:CXT}{k:Nat}{fa a:Addr}{fd:FuncData}{x:Str}{sp:Sp}{s₁:Shared}{vs:List Value}{ns:List Int}
  (KX:K.In s₁.heap) (hns:s₁.heap.Ns mainGlobals mg) (hb:s₁.heap.Ns builtinsNs mb) (hbb:∀x:Str,x≠"__name__"->mb x=bootBuiltins x) (hlim:s₁.heap.NoLimit) (hg:s₁.gens=#[])
  (ha:s₁.heap.get? a=some { cls:=.type "list",data:=.seq vs.toArray }) (hi:IntsAre vs ns) (hl:ns.length≤sizeLine) (hr:E3 k callerA)
  (F:∀base:Heap,K.In base->base.Ns mainGlobals mg->A8 P w K mg base CX k fa fd [x] sp) (w1V:∀(s:Shared) (u:Value),BindsTo s fd ⟨[u],[]⟩ [(x,u)])
  (hsp:∀H:Hp,w1f H->SqL K H a (ns.map V.int)->sp [.ref a] H (fun v _=>v=.bl true) fun _ _ _=>False)
  (hCX:∀H e s',CX [] H s₁ (fun _ _ _=>False) e s'->False) :
  codeAny (model P w) callerA (.call (.ref fa) ⟨[.ref a],[]⟩) (fun r s'=>r=.ok (.ret (.bool true))/\OldK s₁.heap s'.heap/\s'.os=s₁.os/\AllBare s'.gens) s₁:=by
 have rv:=z5U hi
 have lenV:=hi.length
 have core:∀H:Hp,w1f H->SqL K H a (ns.map V.int)->HOk P w H s₁.heap->(∀b,H b≠none->b=a)->(H a≠none->K.lookup a=none)->
   codeAny (model P w) callerA (.call (.ref fa) ⟨[.ref a],[]⟩) (fun r s'=>r=.ok (.ret (.bool true))/\OldK s₁.heap s'.heap/\s'.os=s₁.os/\AllBare s'.gens) s₁:=by
  intro H hO hS hok hA hK
  have Y8:∀{b:Addr}{o:Obj},s₁.heap.get? b=some o->H b=none->(V3 s₁.heap H).get? b=some o:=fun e n=>y4U e n
  have noA:∀{b:Addr}{o:Obj}{es:Array DictEntry}{ep:Nat},s₁.heap.get? b=some o->o.data=.dict es ep->H b=none:=fun {b o es ep} e d=>by
   cases q:H b with
   | none=>rfl
   | some u=>
    have e':b=a:=hA b (by rw[q];simp)
    subst e'
    rw[ha] at e;cases e
    have d':Data.seq vs.toArray _=Data.dict es ep:=d
    cases d'
  have nsK:∀{b:Addr}{m:Str->Option Value},s₁.heap.Ns b m->(V3 s₁.heap H).Ns b m:=fun {b m} ⟨o,es,ep,e,d,r⟩=>⟨o,es,ep,Y8 e (noA e d),d,r⟩
  have hKb:K.In (V3 s₁.heap H):=fun b o e=>Y8 (KX b o e) (by
   cases q:H b with
   | none=>rfl
   | some u=>
    have e':b=a:=hA b (by rw[q];simp)
    subst e'
    rw[hK (by rw[q];simp)] at e;cases e)
  have hM:Mod K mg (V3 s₁.heap H):=⟨hKb,nsK hns,⟨mb,nsK hb,hbb⟩,let ⟨mc,h1,h2⟩:=hlim;⟨mc,nsK h1,h2⟩⟩
  have e0:Y1 P w K mg (V3 s₁.heap H) callerA [] s₁ H:=⟨rfl,hM,fun b o e=>y6R e,Nat.le_of_eq (y3K _ _),trivial,fun b hb=>absurd (show b∈([]:List Addr) from hb) (by simp),hok,.of_eq hg⟩
  refine codeAny_mono ((F _ hKb (nsK hns)).run callerA [] s₁ H ⟨[.ref a],[]⟩ [.ref a] [.ref a] _ _ hr e0 (w1V s₁ (.ref a)) (.cons rfl .nil) (hsp H hO hS)) fun r s' h=>?_
  cases r with
  | error e=>exact(hCX H e s' h).elim
  | ok fl=>
   cases fl with
   | next=>exact False.elim h
   | brk=>exact False.elim h
   | cont=>exact False.elim h
   | ret u=>
    obtain⟨v,H',os,bare,un,hok',r',q⟩:=h
    have q':v=.bl true:=q
    subst q'
    obtain rfl:u=Value.bool true:=r'
    refine⟨rfl,OldK.of_keep fun b o e=>?_,os,bare⟩
    cases q:H b with
    | none=>exact un.keep b o e q (by intro z;exact absurd (show b∈([]:List Addr) from z) (by simp)) (by simp)
    | some u=>
     rcases hO b with z|⟨ob,xs,z⟩
     ·rw[q] at z;cases z
     ·have z2:=un.Q7 b ob _ z
      obtain⟨e1,_⟩:=hok b _ z
      obtain⟨e2,_⟩:=hok' b _ z2
      rw[e] at e1;cases e1
      exact e2
 cases hk:K.lookup a with
 | some o=>
  have e:=KX a o hk
  rw[ha] at e
  cases e
  refine core (fun _=>none) (fun _=>.inl rfl) (.inr ⟨_,vs.toArray,_,hk,rfl,rfl,rfl,by rw[bE,lenV];exact hl,by simpa using rv⟩) (fun b u z=>by have z':(none:Option HO)=some u:=z;cases z') (fun b z=>absurd rfl z) fun z=>absurd rfl z
 | none=>
  refine core (fun b=>if b=a then some (.frz { cls:=.type "list",data:=.seq vs.toArray } (.lst (ns.map V.int))) else none) (fun b=>?_) (.inl (.inr ⟨{ cls:=.type "list",data:=.seq vs.toArray },if_pos rfl⟩)) (fun b u z=>?_) (fun b z=>?_) fun _=>hk
  ·by_cases hb:b=a
   ·exact .inr ⟨_,_,if_pos hb⟩
   ·exact .inl (if_neg hb)
  ·by_cases hb:b=a
   ·have z':=(if_pos hb).symm.trans z
    cases z'
    subst hb
    exact⟨ha,by rw[b6];exact hl,vs,_,rv,ha⟩
   ·have z':=(if_neg hb).symm.trans z
    cases z'
  ·by_cases hb:b=a
   ·exact hb
   ·exact absurd (if_neg hb) z
theorem y69{l:PySem.W.OpenLaw}{n k:Nat}{q:Program}{loose:List Str}{XP:(Str->Option Value)->Heap->Prop}{YP:World->Heap->Prop}{d:DefRec}{K:Params->PySem.W.Frag}{CX:World->CXT}{sp:World->Sp}{x:Str}
  (hn:l.most=some n) (hn2:n≤sizeLine) (hdf:d.params.defaults=[]) (hr:E3 k callerA)
  (hY:∀(w:World) (h:Heap),YP w h->(K w.params).In h)
  (F:∀(w:World) (mg:Str->Option Value) (fa:Addr) (h:Heap),(K w.params).In h->h.Ns mainGlobals mg->mg d.name=some (.ref fa)->
   ∃fd:FuncData,(∀(s:Shared) (u:Value),BindsTo s fd ⟨[u],[]⟩ [(x,u)])/\
    ∀base:Heap,(K w.params).In base->base.Ns mainGlobals mg->A8 l.prog w (K w.params) mg base (CX w) k fa fd [x] (sp w))
  (hsp:∀(w:World) (H:Hp) (a:Addr) (ns:List Int),ns.length≤n->w1f H->SqL (K w.params) H a (ns.map V.int)->sp w [.ref a] H (fun v _=>v=.bl true) fun _ _ _=>False)
  (hCX:∀(w:World) (H:Hp) (s:Shared) (e:Value) (s':Shared),CX w [] H s (fun _ _ _=>False) e s'->False) :
  PySem.W.WalkO q loose XP YP l.row.toRowW d [] (fun f vs=>PySem.call f vs):=by
 refine Att.y0J hn hdf fun w s₀ s₁ mg mb fa o pm cd doc a vs ns G Y ho hd hcd hmg hobj hints hlen hg=>?_
 have KX:=hY w _ Y
 obtain⟨fd,hb,hF⟩:=F w mg fa _ KX G.T.g hmg
 exact y4D KX G.T.g G.T.b G.T.builtins G.T.nolimit hg hobj hints (c9 hlen hn2) hr hF hb (fun H hO hS=>hsp w H a ns hlen hO hS) fun H e s'=>hCX w H s₁ e s'
def z1i(s:Stmt)(j:Nat):Stmt:=match s with
 | .ClassDef _ _ _ body _ _ _ _ _ _ _=>body.getD j (.Pass ⟨0,0,0,0⟩)
 | _=>.Pass ⟨0,0,0,0⟩
noncomputable def z1w(s:Stmt):Arguments:=match s with
 | .FunctionDef _ a _ _ _ _ _ _ _ _=>a
 | _=>{ posonlyargs:=[],args:=[],vararg:=none,kwonlyargs:=[],kw_defaults:=[],kwarg:=none,defaults:=[] }
noncomputable def z1k(s:Stmt):List Stmt:=match s with
 | .FunctionDef _ _ b _ _ _ _ _ _ _=>b
 | _=>[]
noncomputable def z08(s:Stmt):Scope:=match s with
 | .FunctionDef _ _ _ _ _ _ sc _ _ _=>sc
 | _=>{ kind:=.function,names:=[],isGenerator:=false,isCoroutine:=false }
abbrev CX0:CXT:=fun _ _ _ _ _ _=>False
abbrev E0:XK:=fun _ _ _=>False
theorem y4M{X:Cx}:z6A CX0 X E0:=fun _ _ _ _ _ _ _ h=>h.elim
structure Fun(K:PySem.W.Frag)(x qual:Str)(st:Stmt)(f:Addr)(fd:FuncData):Prop where
 ex:∃(oc:Value) (od:Option Addr) (kV doc pm:Value) (an:Option Addr) (cdv ct:Value) (osl:Array (Option Value)),
  fd=PySem.W.fnOf x qual (z1w st) (z1k st) (z08 st) .none kV doc pm an cdv ct/\K.lookup f=some ⟨oc,od,.func fd,osl⟩/\PySem.W.codeIn K cdv qual=true
 kp:PySem.W.keepIn K (.ref f)=true
section
variable{P:Program}{w:World}{K:PySem.W.Frag}{mg:Str->Option Value}{base:Heap}
theorem Fun.ok{x qual:Str}{st:Stmt}{f:Addr}{fd:FuncData}{N ps:List Str}{k:Nat}{sp:Sp}(F:Fun K x qual st f fd)(S:A3 N ps (z08 st))(len:∀vs H Q E,sp vs H Q E->vs.length=ps.length)
  (U6:∀(cdv:Value) (A:Around) (outer:List Env) (s:Shared) (H:Hp) (vs:List V) (Q:VK) (E:XK),E3 k (A.deeper (envOfC qual (z08 st) s.heap.objs.size f cdv))->sp vs H Q E->
   ∃t,PSs (J1 CX0 P w K mg base N qual (z08 st) f cdv A outer s H E).nox (z1k st) t/\t { nx:=fun _ H'=>Q .non H',rt:=Q } (z5A N vs) H):A8 P w K mg base CX0 (k+1) f fd ps sp:=by
 obtain⟨oc,od,kV,doc,pm,an,cdv,ct,osl,rfl,lk,hcd⟩:=F.ex
 refine y6i lk hcd S len fun A outer s H vs Q E hr hsp=>?_
 obtain⟨t,h,q⟩:=U6 cdv A outer s H vs Q E hr hsp
 exact⟨t,h.nox,q⟩
theorem Fun.binds{x qual:Str}{st:Stmt}{f:Addr}{fd:FuncData}{ps:List Str}(F:Fun K x qual st f fd)
  (h:∀(kV doc pm:Value) (an:Option Addr) (cdv ct:Value) (us:List Value),us.length=ps.length->bindArgs (PySem.W.fnOf x qual (z1w st) (z1k st) (z08 st) .none kV doc pm an cdv ct) ⟨us,[]⟩=pure (ps.zip us)):z1u K fd ps []:=by
 obtain⟨oc,od,kV,doc,pm,an,cdv,ct,osl,rfl,lk,hcd⟩:=F.ex
 exact .all (h kV doc pm an cdv ct)
theorem y7H{x qual:Str}{st:Stmt}{f:Addr}{oc:Value}{od an:Option Addr}{osl:Array (Option Value)}{kV doc pm cdv ct:Value}(l:K.lookup f=some ⟨oc,od,.func (PySem.W.fnOf x qual (z1w st) (z1k st) (z08 st) .none kV doc pm an cdv ct),osl⟩)
  (c:PySem.W.codeIn K cdv qual=true) (k:PySem.W.keepIn K (.ref f)=true):Fun K x qual st f (PySem.W.fnOf x qual (z1w st) (z1k st) (z08 st) .none kV doc pm an cdv ct):=⟨⟨oc,od,kV,doc,pm,an,cdv,ct,osl,rfl,l,c⟩,k⟩
end
theorem z9U{A:Around}{k:Nat}(hr:E3 k A):A.units+1<cLine:=dR (Nat.add_le_add_left (by decide:1≤64) _) hr.units
theorem z0i{n:Nat}(h:n≤1000):n<sizeLine:=dR h (by decide)
section
variable{X:Cx}
theorem pv(i:Nat){x:Str}{pos:Pos}(hN:X.N[i]? = some x:=by rfl)(hv:Vis X.env.scope x:=by first|exact Or.inl rfl|exact Or.inr (Or.inl rfl)|exact Or.inr (Or.inr rfl))(hd:(x == ("__debug__":Str))=false:=by decide)
  (hcd:(x == ("__classdict__":Str))=false:=by decide):PE X (.Name x pos) (w0c i):=y74 hN hv hd hcd
end
theorem C8{A B:Prop}(h:B):if false=true then A else B:=by
 rw[if_neg bO]
 exact h
theorem J5{A B:Prop}(h:A):if true=true then A else B:=by
 rw[if_pos rfl]
 exact h
theorem B6{c A B:Prop}[Decidable c](h1:c->A)(h2:¬c->B):if c then A else B:=by
 by_cases h:c
 ·rw[if_pos h]
  exact h1 h
 ·rw[if_neg h]
  exact h2 h
theorem y4N{c A B:Prop}[Decidable c](hc:c)(h:B):if (!decide c)=true then A else B:=by
 rw[decide_eq_true hc]
 exact C8 h
noncomputable def A4(H H':Hp):Prop:=∀b o,H b=some o->H' b=some o
theorem A4.refl(H:Hp):A4 H H:=fun _ _ h=>h
theorem A4.trans{H H1 H2:Hp}(a:A4 H H1)(b:A4 H1 H2):A4 H H2:=fun c o h=>b c o (a c o h)
theorem A4.free{H H':Hp}(e:A4 H H'){l:Addr}(h:H' l=Option.none):H l=Option.none:=by
 cases q:H l with
 | none=>rfl
 | some o=>
  rw[e l o q] at h
  cases h
theorem A4.seq{K:PySem.W.Frag}{H H':Hp}{a:Addr}{xs:List V}(e:A4 H H')(h:SqL K H a xs):SqL K H' a xs:=by
 rcases h with (h|⟨o,h⟩)|h
 ·exact .inl (.inl (e _ _ h))
 ·exact .inl (.inr ⟨o,e _ _ h⟩)
 ·exact .inr h
abbrev noE:Value->Shared->Prop:=fun _ _=>False
theorem y0W{prog:Program}{w:World}{A:Around}{R:Result->Shared->Prop}{s:Shared}{elt target iter:Expr}{ifs:List Expr}{scope:Scope}{pos:Pos}{it acc:Value}{env:Env}(I:Nat->Shared->Prop)
  (turn:∀n s,I n s->wpAny (model prog w) A (pyNext it) (fun r s1=>match r with
   | none=>R (.ok .next) s1
   | some v=>wpAny (model prog w) A (letOwnedTupleGo target it v) (fun _ s0=>wpAny (model prog w) A (assign target env v) (fun _ s2=>
     wpAny (model prog w) A (forIn ifs true fun c r=>if r=true then do let ok <- isTrue c env (eval c env);pure (ForInStep.yield ok) else pure (ForInStep.yield r)) (fun ok s3=>
      if ok=true then wpAny (model prog w) A (eval elt env) (fun x s4=>
       wpAny (model prog w) A (call (.builtin "list.append") [acc,x]) (fun _ s5=>∃m,m<n/\I m s5) noE s4) noE s3
      else ∃m,m<n/\I m s3) noE s2) noE s0) noE s1) noE s)
  (n:Nat) (h:I n s):codeAny (model prog w) A (.compLoop (.ListComp elt [⟨target,iter,ifs,0⟩] scope pos) 0 it acc env) R s:=by
 refine codeAny_loop rfl I (fun n s hI=>?_) n h
 show wpAny _ A ((compTurn (.ListComp elt [⟨target,iter,ifs,0⟩] scope pos) 0 it acc env).onRaise (fun x=>do noteFrame x env;theTreesLotGoes x)) _ _ s
 refine wpAny_noted ?_
 rw[compTurn_list]
 refine wpAny_bind (wpAny_standAt (wpAny_bind (wpAny_mono (turn n s hI) (fun r s1 h1=>?_) fun _ _ z=>False.elim z)))
 cases r with
 | none=>exact wpAny_pure h1
 | some v=>
  refine wpAny_bind (wpAny_mono h1 (fun _ s0 h0=>?_) fun _ _ z=>False.elim z)
  refine wpAny_bind (wpAny_mono h0 (fun _ s2 h2=>wpAny_bind (wpAny_mono h2 (fun ok s3 h3=>?_) fun _ _ z=>False.elim z)) fun _ _ z=>False.elim z)
  cases ok with
  | false=>exact wpAny_pure ⟨rfl,h3⟩
  | true=>
   exact wpAny_bind (wpAny_bind (wpAny_mono h3 (fun x s4 h4=>wpAny_bind (wpAny_mono h4 (fun _ s5 h5=>wpAny_pure (wpAny_pure ⟨rfl,h5⟩)) fun _ _ z=>False.elim z)) fun _ _ z=>False.elim z))
noncomputable def z81(cells:List (Str×Addr)):List (Str×NameKind)->List (Str×Addr)->Option (List (Str×Addr))
 | [],acc=>some acc
 | (n,k)::r,acc=>if k == .free then (match cells.lookup n with
   | some a=>z81 cells r ((n,a)::acc)
   | none=>none) else z81 cells r acc
theorem z6u{env:Env}:∀(names:List (Str×NameKind)) (acc cl:List (Str×Addr)),z81 env.cells names acc=some cl->
  (forIn names acc fun(x:Str×NameKind) (cs:List (Str×Addr))=>match x with
   | (name,kind)=>if (kind == NameKind.free)=true then do let c <- cellOf env name;pure (ForInStep.yield ((name,c)::cs)) else pure (ForInStep.yield cs):Sem (List (Str×Addr)))=pure cl
 | [],acc,cl,h=>by
  have h':acc=cl:=Option.some.inj h
  subst h'
  rfl
 | (n,k)::r,acc,cl,h=>by
  rw[List.forIn_cons]
  unfold z81 at h
  by_cases hk:(k == NameKind.free)=true
  ·rw[if_pos hk] at h
   cases e:env.cells.lookup n with
   | none=>rw[e] at h;cases h
   | some a=>
    rw[e] at h
    have ih:=z6u r ((n,a)::acc) cl h
    have hc:cellOf env n=pure a:=by unfold cellOf;rw[e]
    dsimp only
    rw[if_pos hk,hc]
    simpa using ih
  ·rw[if_neg hk] at h
   have ih:=z6u r acc cl h
   dsimp only
   rw[if_neg hk]
   simpa using ih
theorem z6I{scope:Scope}{env:Env}{cl:List (Str×Addr)}(h:z81 env.cells scope.names []=some cl):closureFor scope env=pure cl:=by
 have q:=z6u (env:=env) scope.names [] cl h
 unfold closureFor
 simpa using q
theorem z7G{cells:List (Str×Addr)}:∀{names:List (Str×NameKind)}{acc cl:List (Str×Addr)},z81 cells names acc=some cl->
  (∀x c,acc.lookup x=some c->cells.lookup x=some c)->∀x c,cl.lookup x=some c->cells.lookup x=some c
 | [],acc,cl,h,ha,x,c,e=>by
  have h':acc=cl:=Option.some.inj h
  subst h'
  exact ha x c e
 | (n,k)::r,acc,cl,h,ha,x,c,e=>by
  unfold z81 at h
  by_cases hk:(k == NameKind.free)=true
  ·rw[if_pos hk] at h
   cases q:cells.lookup n with
   | none=>rw[q] at h;cases h
   | some a=>
    rw[q] at h
    refine z7G (names:=r) (acc:=(n,a)::acc) h (fun y d z=>?_) x c e
    rw[e8] at z
    cases hy:y == n with
    | true=>
     rw[hy] at z
     have z':a=d:=Option.some.inj z
     rw[<- z',beq_iff_eq.mp hy]
     exact q
    | false=>
     rw[hy] at z
     exact ha y d z
  ·rw[if_neg hk] at h
   exact z7G (names:=r) (acc:=acc) h ha x c e
theorem z5W{cells:List (Str×Addr)}:∀{names:List (Str×NameKind)}{acc cl:List (Str×Addr)},z81 cells names acc=some cl->
  ∀x,((∃c,acc.lookup x=some c)\/(x,NameKind.free)∈names)->∃c,cl.lookup x=some c
 | [],acc,cl,h,x,hx=>by
  have h':acc=cl:=Option.some.inj h
  subst h'
  rcases hx with hx|hx
  ·exact hx
  ·cases hx
 | (n,k)::r,acc,cl,h,x,hx=>by
  unfold z81 at h
  by_cases hk:(k == NameKind.free)=true
  ·rw[if_pos hk] at h
   cases q:cells.lookup n with
   | none=>rw[q] at h;cases h
   | some a=>
    rw[q] at h
    refine z5W (names:=r) (acc:=(n,a)::acc) h x ?_
    rcases hx with ⟨c,hx⟩|hx
    ·left
     rw[e8]
     cases hy:x == n with
     | true=>exact⟨a,rfl⟩
     | false=>exact⟨c,hx⟩
    ·rcases bC.mp hx with e|e
     ·left
      have e1:x=n:=congrArg Prod.fst e
      rw[e8,e1,beq_self_eq_true]
      exact⟨a,rfl⟩
     ·exact .inr e
  ·rw[if_neg hk] at h
   refine z5W (names:=r) (acc:=acc) h x ?_
   rcases hx with hx|hx
   ·exact .inl hx
   ·rcases bC.mp hx with e|e
    ·have e2:NameKind.free=k:=congrArg Prod.snd e
     exact absurd (by rw[<- e2];rfl) hk
    ·exact .inr e
theorem z85{α β:Type}[BEq α][LawfulBEq α]:∀{l:List (α×β)}{x:α}{b:β},l.lookup x=some b->(x,b)∈l
 | [],x,b,h=>by cases h
 | (a,c)::r,x,b,h=>by
  rw[e8] at h
  cases hx:x == a with
  | true=>
   rw[hx] at h
   have h':c=b:=Option.some.inj h
   rw[beq_iff_eq.mp hx,h']
   exact bX
  | false=>
   rw[hx] at h
   exact bP _ (z85 h)
theorem z6Q{scope:Scope}{env:Env}(Z1:∀y∈scope.names,y.2≠.cell){x:Str}(h:(relabel scope env).names.lookup x=some .cell\/(relabel scope env).names.lookup x=some .free):(x,NameKind.free)∈scope.names:=by
 have go:∀k,(relabel scope env).names.lookup x=some k->(k=.cell\/k=.free)->(x,NameKind.free)∈scope.names:=fun k h hk=>by
  have m:=z85 h
  obtain⟨⟨n,k'⟩,hm,e⟩:=cF.mp m
  dsimp only at e
  by_cases c:(k' == NameKind.free && env.scope.kind == .function && env.kindOf n == some .cell)=true
  ·rw[if_pos c] at e
   have e1:n=x:=congrArg Prod.fst e
   have c1:(k' == NameKind.free)=true:=by
    rw[bU,bU] at c
    exact c.1.1
   have c2:k'=.free:=eq_of_beq c1
   rw[<- e1,<- c2]
   exact hm
  ·rw[if_neg c] at e
   have e1:n=x:=congrArg Prod.fst e
   have e2:k'=k:=congrArg Prod.snd e
   rcases hk with z|z
   ·exact absurd (e2.trans z) (Z1 _ hm)
   ·rw[<- e1,<- z,<- e2]
    exact hm
 rcases h with h|h
 ·exact go _ h (.inl rfl)
 ·exact go _ h (.inr rfl)
noncomputable def z3Z(X:Cx)(scope:Scope)(cl:List (Str×Addr))(N:List Str)(C:Addr)(s3:Shared)(H1:Hp)(ex:List Addr)(pins:List (Addr×Obj)):Cx:=
 { X with N:=N,s₀:=s3,H₀:=H1,env:=compEnvC scope cl C X.env,outer:=X.stack,ex:=ex,fn:=fun _=>false,pn:=X.pn++pins,xe:=noE }
noncomputable def z7g(own:Nat)(ix:List Nat)(σ:St):St:=List.replicate own none++ix.map fun i=>(σ[i]?).join
structure K6(X:Cx)(scope:Scope)(cl:List (Str×Addr))(own F7:List Str)(ix:List Nat):Prop where
 Y0:z81 X.env.cells scope.names []=some cl
 cell:∀y∈scope.names,y.2≠.cell
 kind:scope.kind=.function
 names:∀y∈scope.names,y.2=.local->scope.names.lookup y.1=some .local
 capn:F7.length=ix.length
 cap:∀(j i:Nat) (x:Str),F7[j]? = some x->ix[j]? = some i->X.N[i]? = some x/\X.env.kindOf x≠some .local/\Vis X.env.scope x/\((relabel scope X.env).names.lookup x=some .cell\/(relabel scope X.env).names.lookup x=some .free)
theorem Inv.w2m{X:Cx}{pins:List (Addr×Obj)}{σ:St}{H:Hp}{s:Shared}{D:Addr}{o:HO}(I:Inv X pins σ H s)(f:U1 X pins H D)(new:z1o X.prog X.w (upd H D o) s.heap D o):Inv X pins σ (upd H D o) s:=by
 obtain⟨f0,f1,f2,f3,f4,f5⟩:=f
 have q:=I.step (H':=upd H D o) (h':=s.heap) (g':=s.gens) (t':=s.toks) (d':=s.drawn) (ch:=[D]) (fun b hb=>by
   have e:b=D:=by simpa using hb
   subst e
   exact⟨f3,f1,f4,f5⟩)
  (fun _ _ _ _ _ e _=>e) (fun b ob _ _ _ e _=>⟨ob.slots,e⟩) (fun b ob hb _ n=>by
   have e:b≠D:=fun z=>hb (by simp[z])
   rw[z0f e];exact n)
  (fun b ob _ e=>⟨ob,e⟩) (fun b xs e=>by rw[z0f (z0r e f0)];exact e) (fun b ob u e=>by rw[z0f (z0r e f0)];exact e)
  (fun b ps e=>⟨#[],by rw[z0f (z0r e f0),e];simp⟩) (fun _ hm=>hm) (fun b u e=>by
   by_cases hb:b=D
   ·subst hb
    rw[z03] at e
    cases e
    exact new
   ·rw[z0f hb] at e
    exact(I.hok b u e).W0 (fun _ _ _ q=>q) (fun c q=>by rw[z0f (z0r q f0)];exact q) fun c xs q=>by rw[z0f (z0r q f0)];exact q) I.bare
 exact q
section
variable{X:Cx}{scope:Scope}{cl:List (Str×Addr)}{own F7:List Str}{ix:List Nat}
theorem K6.look(S:K6 X scope cl own F7 ix):∀x c,cl.lookup x=some c->X.env.cells.lookup x=some c:=
 z7G S.Y0 fun x c e=>by cases e
theorem y4F{pins:List (Addr×Obj)}{σ:St}{H1:Hp}{s3:Shared}{h1:Heap}{ex:List Addr}{m:Str->Option Value}{tk:Nat}(S:K6 X scope cl own F7 ix)(I:Inv X pins σ H1 s3)
  (hex:∀b∈ex,b<s3.heap.objs.size/\b≠X.env.locals/\b∉X.fs/\(b∈X.ex\/X.s₀.heap.objs.size≤b)/\∀x c,X.env.cells.lookup x=some c->c≠b)
  (hn:h1.Ns s3.heap.objs.size m) (hk:∀b o,s3.heap.get? b=some o->h1.get? b=some o) :
  Inv (z3Z X scope cl (own++F7) s3.heap.objs.size s3 H1 ex pins) [] (z7g own.length ix σ) H1 { s3 with heap:=h1,toks:=tk }:=by
 have stkN:∀b∈frs X.stack,b<s3.heap.objs.size:=fun b hb=>by
  obtain⟨_,o,ho,_⟩:=I.stack.mem hb
  exact bN ho
 have lt0:∀b o,X.base.get? b=some o->b<X.s₀.heap.objs.size:=fun b o e=>bN (I.ok.bs b o e).1
 refine⟨⟨I.ok.mod,S.kind,I.ok.glob,I.ok.blt,bG _,?_,?_,?_,I.ok.hd,I.ok.frames,.inl rfl,?_,I.bs,c9 I.ok.bsz I.sz,?_,?_,I.stack,I.P0⟩,rfl,I.bare,?_,?_,?_,?_,?_,?_,?_,?_⟩
 ·intro x y c e1 e2
  exact I.ok.inj x y c (S.look x c e1) (S.look y c e2)
 ·intro x hx
  exact z5W S.Y0 x (.inr (z6Q S.cell hx))
 ·intro x c hf
  exact absurd hf bO
 ·intro b hb
  obtain⟨l,a1,a2,a3,a4⟩:=hex b hb
  exact⟨cC l,fun x c e=>a4 x c (S.look x c e)⟩
 ·intro b o e hb
  obtain⟨l,a1,a2,a3,a4⟩:=hex b hb
  rcases a3 with z|z
  ·exact I.ok.noex b o e z
  ·exact absurd (cN (lt0 b o e) z) (d6 _)
 ·intro b hb hf
  obtain⟨l,a1,a2,a3,a4⟩:=hex b hb
  rcases bC.mp (I.S1 b hf) with z|z
  ·exact a1 z
  ·exact a2 z
 ·exact Un.kept hk
 ·refine⟨m,hn,fun i x v e1 e2 e3=>?_⟩
  have e2':(List.replicate own.length none++ix.map fun i=>(σ[i]?).join:St)[i]? = some (some v):=e2
  have e1':(own++F7)[i]? = some x:=e1
  by_cases hi:i<own.length
  ·rw[dN (by simpa using hi),g8,if_pos hi] at e2'
   cases e2'
  ·have hi':own.length≤i:=j6 hi
   rw[fO (by simpa using hi'),gK,bL] at e2'
   rw[fO hi'] at e1'
   cases q:ix[i-own.length]? with
   | none=>rw[q] at e2';cases e2'
   | some k=>
    rw[q] at e2'
    have w0o:(σ[k]?).join=some v:=Option.some.inj e2'
    have e4:σ[k]? = some (some v):=by
     cases z:σ[k]? with
     | none=>rw[z] at w0o;cases w0o
     | some u=>rw[z] at w0o;rw[show u=some v from w0o]
    obtain⟨n1,n2,n3,n4⟩:=S.cap (i-own.length) k x e1' q
    obtain⟨mX,_,hl⟩:=I.loc
    obtain⟨u,r,l⟩:=hl k x v n1 e4 n3
    refine⟨u,r,?_⟩
    rcases l with ⟨kl,_⟩|⟨_,c,ec,ic⟩
    ·exact absurd kl n2
    ·obtain⟨c',ec'⟩:=z5W S.Y0 x (.inr (z6Q S.cell n4))
     have e5:=S.look x c' ec'
     rw[ec] at e5
     cases e5
     exact .inr ⟨n4,c,ec',ic.keeps hk⟩
 ·intro x c e
  obtain⟨v,q⟩:=I.cell x c (S.look x c e)
  exact⟨v,q.keeps hk⟩
 ·exact I.hok.fresh (bG _)
 ·intro x c e
  exact I.freeC x c (S.look x c e)
 ·intro p hp
  have hp':p∈X.pn++pins:=by
   have:p∈(X.pn++pins)++[]:=hp
   rwa [cR] at this
  obtain⟨e,n,ne,nf,d⟩:=I.pin p hp'
  refine⟨hk _ _ e,n,cC (bN e),fun z=>?_,d⟩
  rcases bC.mp (I.S1 p.1 z) with z|z
  ·exact ne z
  ·exact nf z
 ·exact I.hok.kept hk
 ·show(List.replicate own.length none++ix.map fun i=>(σ[i]?).join:St).length=(own++F7).length
  rw[bF,gK,b6,bF,S.capn]
noncomputable def PTs(X:Cx)(ifs:List Expr)(t:TT):Prop:=
 ∀(pins:List (Addr×Obj)) (s:Shared) (σ:St) (H:Hp) (Q:Bool->Hp->Prop),Inv X pins σ H s->t σ H Q->
  wpAny (model X.prog X.w) X.A (forIn ifs true fun c r=>if r=true then do let ok <- isTrue c X.env (eval c X.env);pure (ForInStep.yield ok) else pure (ForInStep.yield r)) (TP X pins σ Q) X.xe s
noncomputable def tYes:TT:=fun _ H Q=>Q true H
theorem z20:PTs X [] tYes:=fun _ _ _ H _ I h=>wpAny_tests_nil ⟨H,I,h⟩
theorem z2m{c:Expr}{t:TT}(hc:PT X c t):PTs X [c] t:=fun pins s σ H Q I h=>wpAny_tests_one (hc pins s σ H Q I h)
noncomputable def z5t(n:Nat)(σ σ':St):Prop:=σ'.length=σ.length/\∀i,n≤i->σ'[i]? = σ[i]?
noncomputable def X8(n:Nat)(g:TG):Prop:=∀v σ H Q,g v σ H Q->g v σ H fun σ' H'=>Q σ' H'/\z5t n σ σ'
noncomputable def y31(n:Nat)(g:TGs):Prop:=∀vs σ H Q,g vs σ H Q->g vs σ H fun σ' H'=>Q σ' H'/\z5t n σ σ'
theorem z5t.refl(n:Nat)(σ:St):z5t n σ σ:=⟨rfl,fun _ _=>rfl⟩
theorem z5t.trans{n:Nat}{a b c:St}(x:z5t n a b)(y:z5t n b c):z5t n a c:=⟨y.1.trans x.1,fun i h=>(y.2 i h).trans (x.2 i h)⟩
theorem z0B{n i:Nat}(h:i<n):X8 n (y2B i):=fun v σ H Q q=>⟨q,by simp,fun j hj=>fK (by lia)⟩
theorem z6l{n:Nat}:y31 n w0F:=fun vs σ H Q q=>⟨q.1,q.2,z5t.refl n σ⟩
noncomputable def y0m(g:TG):Prop:=∀v σ H (Q Q':St->Hp->Prop),(∀σ' H',Q σ' H'->Q' σ' H')->g v σ H Q->g v σ H Q'
noncomputable def z8s(g:TGs):Prop:=∀vs σ H (Q Q':St->Hp->Prop),(∀σ' H',Q σ' H'->Q' σ' H')->g vs σ H Q->g vs σ H Q'
theorem z0c{i:Nat}:y0m (y2B i):=fun _ _ _ _ _ f q=>f _ _ q
theorem z0Z:z8s w0F:=fun _ _ _ _ _ f q=>⟨q.1,f _ _ q.2⟩
theorem z0O{t:TG}{u:TGs}(a:y0m t)(b:z8s u):z8s (y6T t u):=fun vs σ H Q Q' f q=>by
 obtain⟨v,r,e,q⟩:=q
 exact⟨v,r,e,a _ _ _ _ _ (fun σ' H' z=>b _ _ _ _ _ f z) q⟩
theorem z72{K:PySem.W.Frag}{n:Nat}{t:TGs}(a:z8s t):y0m (w0m K n t):=fun v σ H Q Q' f q=>by
 obtain⟨p,xs,e,h1,h2,q⟩:=q
 exact⟨p,xs,e,h1,h2,a _ _ _ _ _ f q⟩
theorem z1L{n:Nat}{t:TG}{u:TGs}(a:X8 n t)(m:y0m t)(b:y31 n u)(m':z8s u):y31 n (y6T t u):=fun vs σ H Q q=>by
 obtain⟨v,r,e,q⟩:=q
 refine⟨v,r,e,m _ _ _ _ _ (fun σ' H' z=>?_) (a _ _ _ _ q)⟩
 exact m' _ _ _ _ _ (fun σ2 H2 y=>⟨y.1,z.2.trans y.2⟩) (b _ _ _ _ z.1)
theorem z8Y{K:PySem.W.Frag}{n k:Nat}{t:TGs}(a:y31 n t):X8 n (w0m K k t):=fun v σ H Q q=>by
 obtain⟨p,xs,e,h1,h2,q⟩:=q
 exact⟨p,xs,e,h1,h2,a _ _ _ _ q⟩
noncomputable def z1D(g:TG)(tc:TT)(te:TE)(σ0:St)(x:V)(H:Hp)(ys:List V)(N:List V->Hp->Prop):Prop:=
 g x σ0 H fun σ2 H2=>tc σ2 H2 fun b H3=>if b=true then te σ2 H3 fun y H4=>N (ys++[y]) H4 else N ys H3
noncomputable def y7y(own:Nat)(ix:List Nat)(wi:TI)(g:TG)(tc:TT)(te:TE)(σ:St)(H:Hp)(F:List V->Hp->Prop):Prop:=
 wi σ H fun J H1=>∃W:Nat->Nat->List V->Hp->Prop,(∃m,W 0 m [] H1)/\∀i m ys H,W i m ys H->
  (J.stop i H/\F ys H)\/(J.go i H/\ys.length<sizeLine/\∃N:List V->Hp->Prop,(∀zs H',N zs H'->∃m',m'<m/\W (i+1) m' zs H')/\
   ∀x H',J.yld i H x H'->z1D g tc te (z7g own ix σ) x H' ys N)
theorem z8u{elt iter tg:Expr}{ifs:List Expr}{pos:Pos}{pins:List (Addr×Obj)}{σ:St}{s2:Shared}{itv:Value}{g:TG}{tc:TT}{te:TE}{F:List V->Hp->Prop}{RR:Value->Addr->Result->Shared->Prop}{E:Value->Shared->Prop}
  (S:K6 X scope cl own F7 ix) (hc:X.calm=true)
  (hg:∀C s3 H1 ex pn,PG (z3Z X scope cl (own++F7) C s3 H1 ex pn) tg g) (og:X8 own.length g) (mg:y0m g)
  (ht:∀C s3 H1 ex pn,PTs (z3Z X scope cl (own++F7) C s3 H1 ex pn) ifs tc)
  (he:∀C s3 H1 ex pn,PE (z3Z X scope cl (own++F7) C s3 H1 ex pn) elt te)
  (h:PIE X pins σ tg (fun J H1=>∃W:Nat->Nat->List V->Hp->Prop,(∃m,W 0 m [] H1)/\∀i m ys H,W i m ys H->
   (J.stop i H/\F ys H)\/(J.go i H/\ys.length<sizeLine/\∃N:List V->Hp->Prop,(∀zs H',N zs H'->∃m',m'<m/\W (i+1) m' zs H')/\
    ∀x H',J.yld i H x H'->z1D g tc te (z7g own.length ix σ) x H' ys N)) itv s2)
  (hRR:∀D C m H' ys s',Inv X pins σ (upd H' D (.lst ys)) s'->U1 X pins (upd H' D (.lst ys)) C->s'.heap.Ns C m->H' D=none->F ys H'->RR (.ref D) C (.ok .next) s') :
  wpAny (model X.prog X.w) X.A (newList []) (fun acc s3=>wpAny (model X.prog X.w) X.A (newFunctionEnv scope X.env.globals cl [] X.env.qual none .none (some X.env)) (fun cenv s4=>
   codeAny (model X.prog X.w) X.A (.compStart (.ListComp elt [⟨tg,iter,ifs,0⟩] scope pos) 0 itv acc { cenv with scope:=relabel scope X.env }) (RR acc cenv.locals) s4) E s3) E s2:=by
 obtain⟨it,fp,tn,J,H1,e,I2,T,st2,f2,W,⟨m0,w0⟩,turn⟩:=h
 subst e
 refine wpAny_newObj_type (wpAny_newFunctionEnv S.cell (by intro y hy;simp at hy) (fun h1 hns1 hsb1=>?_) S.kind)
 dsimp only at hns1 hsb1 ⊢
 generalize hH2:s2.heap.push { cls:=.type "list",dict:=none,data:=.seq ([]:List Value).toArray }=h2 at hns1 hsb1 ⊢
 have Z7:∀b o,s2.heap.get? b=some o->h2.get? b=some o:=fun b o e=>hH2 ▸ bB _ e
 have sz2:h2.objs.size=s2.heap.objs.size+1:=by rw[<- hH2,fH]
 have hDC:s2.heap.objs.size≠h2.objs.size:=by lia
 have Y9:∀b o,h2.get? b=some o->h1.get? b=some o:=fun b o e=>hsb1.extBut b o (cC (bN e)) (bB _ e)
 have w28:h2.get? s2.heap.objs.size=some { cls:=.type "list",dict:=none,data:=.seq ([]:List Value).toArray }:=hH2 ▸ bK _ rfl
 have I3:Inv X pins σ H1 { s2 with heap:=h2,toks:=s2.toks }:=I2.kept Z7
 have fD:U1 X pins H1 s2.heap.objs.size:=I2.V7 (bG _) I2.fresh
 have fDs:∀{H':Hp},H' s2.heap.objs.size=none->U1 X pins H' s2.heap.objs.size:=fun hn=>⟨hn,fD.2⟩
 have fpLt:∀b∈fp,b<s2.heap.objs.size:=fun b hb=>by
  obtain⟨o,e,_⟩:=T.obj _ _ st2 b hb
  exact bN e
 have hDfp:s2.heap.objs.size∉fp:=fun z=>d6 _ (fpLt _ z)
 have w0Y:∀b∈s2.heap.objs.size::fp,b<h2.objs.size/\b≠X.env.locals/\b∉X.fs/\(b∈X.ex\/X.s₀.heap.objs.size≤b)/\∀x c,X.env.cells.lookup x=some c->c≠b:=fun b hb=>by
  rcases bC.mp hb with rfl|hb
  ·exact⟨by lia,fD.2.1,fD.2.2.1,fD.2.2.2.1,fD.2.2.2.2.1⟩
  ·have:=fpLt b hb
   obtain⟨_,a1,a2,a3,a4,_⟩:=f2 b hb
   exact⟨by rw[sz2];exact dX this,a1,a2,a3,a4⟩
 have I4:Inv (z3Z X scope cl (own++F7) h2.objs.size { s2 with heap:=h2,toks:=s2.toks } H1 (s2.heap.objs.size::fp) pins) [] (z7g own.length ix σ) H1 { s2 with heap:=h1,toks:=s2.toks+([]:List (Str×Value)).length }:=
  y4F S I3 w0Y hns1 Y9
 generalize hX:z3Z X scope cl (own++F7) h2.objs.size { s2 with heap:=h2,toks:=s2.toks } H1 (s2.heap.objs.size::fp) pins=Y at I4
 have HG:PG Y tg g:=by rw[<- hX];exact hg _ _ _ _ _
 have HT:PTs Y ifs tc:=by rw[<- hX];exact ht _ _ _ _ _
 have HE:PE Y elt te:=by rw[<- hX];exact he _ _ _ _ _
 have eP:Y.prog=X.prog:=by rw[<- hX];rfl
 have eW:Y.w=X.w:=by rw[<- hX];rfl
 have eK:Y.K=X.K:=by rw[<- hX];rfl
 have eA:Y.A=X.A:=by rw[<- hX];rfl
 have eC:Y.calm=true:=by rw[<- hX];exact hc
 have eE:Y.xe=noE:=by rw[<- hX];rfl
 have w09:Y.env=compEnvC scope cl h2.objs.size X.env:=by rw[<- hX];rfl
 have eEx:Y.ex=s2.heap.objs.size::fp:=by rw[<- hX];rfl
 have ePn:Y.pn=X.pn++pins:=by rw[<- hX];rfl
 have eFs:Y.fs=frs X.stack:=by rw[<- hX];rfl
 have w1d:∀x c,Y.env.cells.lookup x=some c->X.env.cells.lookup x=some c:=fun x c e=>by
  rw[w09] at e
  exact S.look x c e
 have w0O:Y.env.locals=h2.objs.size:=by rw[w09];rfl
 have fY:∀{pl:List (Addr×Obj)}{H':Hp}{b:Addr},b∈s2.heap.objs.size::fp->H' b=none->(∀p∈pl,p.1≠b)->U1 Y pl H' b:=fun {pl H' b} hb hn hpl=>by
  obtain⟨l,a1,a2,a3,a4⟩:=w0Y b hb
  refine⟨hn,by rw[w0O];exact cC l,fun z=>?_,.inl (by rw[eEx];exact hb),fun x c e=>a4 x c (w1d x c e),fun p hp=>?_⟩
  ·rw[eFs] at z
   rcases bC.mp (I3.S1 b z) with z|z
   ·exact a1 z
   ·exact a2 z
  ·rcases cB.mp hp with z|z
   ·rw[ePn] at z
    rcases bC.mp hb with rfl|hb
    ·exact fD.2.2.2.2.2 p z
    ·exact(f2 b hb).2.2.2.2.2 p z
   ·exact hpl p z
 let IV:Nat->Shared->Prop:=fun n s'=>∃i ys its c H',Inv Y [] (z7g own.length ix σ) H' s'/\tn i s'.heap/\(∀b∈fp,H' b=none)/\H' s2.heap.objs.size=none/\Vals ys its/\
  s'.heap.get? s2.heap.objs.size=some { cls:=.type "list",data:=.seq its.toArray c }/\ys.length≤sizeLine/\W i n ys H'
 have loop:∀s3:Shared,s3={ s2 with heap:=h1,toks:=s2.toks+([]:List (Str×Value)).length }->
   codeAny (model X.prog X.w) X.A (.compLoop (.ListComp elt [⟨tg,iter,ifs,0⟩] scope pos) 0 (.ref it) (.ref s2.heap.objs.size) (compEnvC scope cl h2.objs.size X.env)) (RR (.ref s2.heap.objs.size) h2.objs.size) s3:=by
  rintro s3 rfl
  refine y0W IV ?_ m0 ⟨0,[],[],_,H1,I4,T.keep _ _ _ st2 fun b _ o e=>Y9 b o (Z7 b o e),fun b hb=>(f2 b hb).1,I2.fresh,.nil,Y9 _ _ w28,cQ _,w0⟩
  rintro n s5 ⟨i,ys,its,c,H5,I5,st5,fr5,nD5,v5,gD5,z5,w5⟩
  have I5p:Inv Y [(s2.heap.objs.size,{ cls:=.type "list",data:=.seq its.toArray c })] (z7g own.length ix σ) H5 s5:=I5.S5 fun p hp=>by
   have e:p=(s2.heap.objs.size,{ cls:=.type "list",data:=.seq its.toArray c }):=by simpa using hp
   subst e
   obtain⟨_,b1,b2,_⟩:=fY (pl:=[]) (H':=H5) (b:=s2.heap.objs.size) bX nD5 (fun p hp=>nomatch hp)
   exact⟨gD5,nD5,b1,b2,fun v z=>by cases z⟩
  have fps:∀{H':Hp},(∀b∈fp,H' b=none)->∀b∈fp,U1 Y [(s2.heap.objs.size,{ cls:=.type "list",data:=.seq its.toArray c })] H' b:=fun hn b hb=>
   fY (bP _ hb) (hn b hb) fun p hp=>by
    have e:p=(s2.heap.objs.size,{ cls:=.type "list",data:=.seq its.toArray c }):=by simpa using hp
    subst e
    exact fun z=>hDfp (by have z':s2.heap.objs.size=b:=z;rw[z'];exact hb)
  rcases turn i n ys H5 w5 with ⟨stop,fin⟩|⟨go,hlen,N,hN,step⟩
  ·have q:=T.done Y eP eW eK eC i _ s5 _ H5 noE I5p (fps fr5) st5 stop
   rw[eA] at q
   refine thn q fun r s6 ⟨hr,I6⟩=>?_
   subst hr
   have gD6:=(I6.pin (s2.heap.objs.size,{ cls:=.type "list",data:=.seq its.toArray c }) (cD _ (by simp))).1
   have u6:Un (frs X.stack) (s2.heap.objs.size::fp) H1 H5 h2 s6.heap:=by
    have:=I6.base
    rw[eFs,eEx] at this
    rw[<- hX] at this
    exact this
   have os6:s6.os=s2.os:=by
    have:=I6.os
    rw[<- hX] at this
    exact this
   have hok6:HOk X.prog X.w H5 s6.heap:=by
    have:=I6.hok
    rw[eP,eW] at this
    exact this
   have J6:Inv X pins σ H5 s6:=I3.w02 (s':=s6) os6 u6 hok6 I6.bare fun b hb=>by
    obtain⟨l,a1,a2,a3,a4⟩:=w0Y b hb
    refine⟨a3,a1,a4,?_⟩
    rcases bC.mp hb with rfl|hb
    ·exact fD.2.2.2.2.2
    ·exact(f2 b hb).2.2.2.2.2
   have J7:Inv X pins σ (upd H5 s2.heap.objs.size (.lst ys)) s6:=J6.w2m (fDs nD5) ⟨z5,its,c,v5,gD6⟩
   obtain⟨mC,hC,_⟩:=I6.loc
   rw[w0O] at hC
   have nC:H5 h2.objs.size=none:=by
    have:=I6.free
    rw[w0O] at this
    exact this
   refine hRR _ _ mC H5 ys s6 J7 (I3.V7 (bG _) ?_) hC nD5 fin
   show upd H5 s2.heap.objs.size (.lst ys) h2.objs.size=none
   rw[z0f (cU hDC)]
   exact nC
  ·have q:=T.item Y eP eW eK eC i _ s5 _ H5 noE I5p (fps fr5) st5 go
   rw[eA] at q
   refine thn q fun r s6 ⟨u,hr,h6⟩=>?_
   subst hr
   refine thn h6 fun _ s7 ⟨x,H7,I7,r7,y7,st7,fr7⟩=>?_
   have I7p:=I7.pinned (fps fr7) (T.obj _ _ st7)
   have st:=og _ _ _ _ (step x H7 y7)
   have q2:=HG _ s7 _ H7 x u _ I7p r7 st
   rw[eE,eP,eW,eA,w09] at q2
   refine thn q2 fun _ s8 ⟨σ8,H8,I8,q8,fr8⟩=>?_
   have q3:=HT _ s8 σ8 H8 _ I8 q8
   rw[eE,eP,eW,eA,w09] at q3
   refine thn q3 fun ok s9 ⟨H9,I9,q9⟩=>?_
   have back:∀{H':Hp}{s':Shared},Inv Y ([(s2.heap.objs.size,({ cls:=.type "list",data:=.seq its.toArray c }:Obj))]++z9W fp s7.heap) σ8 H' s'->
     Inv Y [] (z7g own.length ix σ) H' s'/\tn (i+1) s'.heap/\(∀b∈fp,H' b=none)/\H' s2.heap.objs.size=none/\s'.heap.get? s2.heap.objs.size=some { cls:=.type "list",data:=.seq its.toArray c }:=fun {H' s'} I'=>by
    have pD:=I'.pin (s2.heap.objs.size,{ cls:=.type "list",data:=.seq its.toArray c }) (cD _ (dP _ (by simp)))
    refine⟨(I'.S5 (pins':=[]) fun p hp=>nomatch hp).weak fr8.1.symm fun j v e=>?_,T.keep _ _ _ st7 fun b hb o e=>(I'.pin (b,o) (cD _ (cD _ (z4M hb e)))).1,fun b hb=>?_,pD.2.1,pD.1⟩
    ·by_cases hj:j<own.length
     ·have e':(List.replicate own.length none++ix.map fun i=>(σ[i]?).join:St)[j]? = some (some v):=e
      rw[dN (by simpa using hj),g8,if_pos hj] at e'
      cases e'
     ·rw[fr8.2 j (j6 hj)]
      exact e
    ·obtain⟨o,e,d⟩:=T.obj _ _ st7 b hb
     exact(I'.pin (b,o) (cD _ (cD _ (z4M hb e)))).2.1
   cases ok with
   | false=>
    obtain⟨m',hm,w9⟩:=hN _ _ (show N ys H9 from q9)
    obtain⟨b1,b2,b3,b4,b5⟩:=back I9
    exact⟨m',hm,i+1,ys,its,c,H9,b1,b2,b3,b4,v5,b5,z5,w9⟩
   | true=>
    have q9':te σ8 H9 fun y H4=>N (ys++[y]) H4:=q9
    have q4:=HE _ s9 σ8 H9 _ I9 q9'
    rw[eE,eP,eW,eA,w09] at q4
    refine thn q4 fun yv s10 ⟨y,H10,I10,r10,n10⟩=>?_
    obtain⟨b1,b2,b3,b4,b5⟩:=back I10
    obtain⟨m',hm,w10⟩:=hN _ _ n10
    have hl:=v5.length
    refine call_meets bQ ⟨_,b5,rfl⟩ PySem.F.entry_list_append (PySem.F.args_list_append_2 _ _) (PySem.list_append s2.heap.objs.size its.toArray c yv (by rw[bE];lia)) ⟨b5,?_⟩
    have q5:=PySem.IsL.update b5 (fun a=>a.push yv)
    have e5:its.toArray.push yv=(its++[yv]).toArray:=by simp
    rw[e5] at q5
    have k5:∀b o,b≠s2.heap.objs.size->s10.heap.get? b=some o->(s10.heap.update s2.heap.objs.size (Obj.mapSeq fun a=>a.push yv)).get? b=some o:=fun b o hb e=>
     (cK s10.heap (Obj.mapSeq fun a=>a.push yv) (cU hb)).trans e
    obtain⟨f0,f1,f2',f3,f4,f5⟩:=fY (pl:=[]) (H':=H10) (b:=s2.heap.objs.size) bX b4 (fun p hp=>nomatch hp)
    have b1':=b1.turned (t':=s10.toks) k5 f0 f1 f3 f4 f5
    refine⟨m',hm,i+1,ys++[y],its++[yv],_,H10,b1',T.keep _ _ _ b2 fun b hb o e=>k5 b o (fun z=>hDfp (by rw[<- z];exact hb)) e,b3,b4,v5.append (.cons r10 .nil),q5,?_,w10⟩
    ·rw[bF,fI]
     lia
 exact codeAny_compStart_list (loop _ rfl) (T.self _ 0 _ _ _ (T.keep _ _ _ st2 fun b _ o e=>Y9 b o (Z7 b o e)) (loop _ rfl))
noncomputable def y7n(own:Nat)(ix:List Nat)(wi:TI)(g:TG)(tc:TT)(te:TE):TE:=fun σ H Q=>y7y own ix wi g tc te σ H fun ys H'=>∀D,H' D=none->Q (.ref D) (upd H' D (.lst ys))
theorem z1n{elt iter tg:Expr}{ifs:List Expr}{pos:Pos}{wi:TI}{g:TG}{tc:TT}{te:TE}(own F7:List Str)(ix:List Nat)
  (hc:X.calm=true) (S:K6 X scope cl own F7 ix) (hi:PI X tg iter wi)
  (hg:∀C s3 H1 ex pn,PG (z3Z X scope cl (own++F7) C s3 H1 ex pn) tg g) (og:X8 own.length g) (mg:y0m g)
  (ht:∀C s3 H1 ex pn,PTs (z3Z X scope cl (own++F7) C s3 H1 ex pn) ifs tc)
  (he:∀C s3 H1 ex pn,PE (z3Z X scope cl (own++F7) C s3 H1 ex pn) elt te)
  (hs:∀x,foldedSetIterable iter X.env x=pure x:=by intro _;rfl) :
  PE X (.ListComp elt [⟨tg,iter,ifs,0⟩] scope pos) (y7n own.length ix wi g tc te):=by
 intro pins s σ H Q I h
 rw[eval_ListComp]
 refine wpAny_comprehension_free (use:=none) rfl hs (z6I S.Y0) S.kind S.names (thn (hi pins s σ H _ I h) fun v s1 h1=>thn h1 fun itv s2 h2=>?_)
 refine z8u (RR:=fun acc C=>compPost (model X.prog X.w) X.A X.xe none (EP X pins σ Q) acc C) S hc hg og mg ht he h2 ?_
 intro D C m H' ys s' I' fC hn hD fin
 refine⟨m,hn,fun h' sb=>?_⟩
 obtain⟨f0,f1,f2,f3,f4,f5⟩:=fC
 have I2:=I'.turned (t':=s'.toks) (h':=h') (it:=C) (fun b o hb e=>(sb.2 b hb).trans e) f0 f1 f3 f4 f5
 exact⟨.ref D,_,I2,rfl,fin D hD⟩
theorem z4s{elt iter tg:Expr}{ifs:List Expr}{pos pos' spos:Pos}{x:Str}{i:Nat}{wi:TI}{g:TG}{tc:TT}{te:TE}(own F7:List Str)(ix:List Nat)
  (hc:X.calm=true) (hN:X.N.Nodup) (hx:X.N[i]? = some x) (hl:Loc X.env.scope x) (S:K6 X scope cl own F7 ix) (hi:PI X tg iter wi)
  (hg:∀C s3 H1 ex pn,PG (z3Z X scope cl (own++F7) C s3 H1 ex pn) tg g) (og:X8 own.length g) (mg:y0m g)
  (ht:∀C s3 H1 ex pn,PTs (z3Z X scope cl (own++F7) C s3 H1 ex pn) ifs tc)
  (he:∀C s3 H1 ex pn,PE (z3Z X scope cl (own++F7) C s3 H1 ex pn) elt te)
  (hsw:swapsWith (.ListComp elt [⟨tg,iter,ifs,0⟩] scope pos) (some (.Name x pos')) spos.line X.env=pure true:=by rfl)
  (hf:X.fn x=true\/X.env.scope.names.lookup x=some .local:=by first|exact .inl rfl|exact .inr rfl|assumption)
  (hs:∀x,foldedSetIterable iter X.env x=pure x:=by intro _;rfl) :
  PS X (.Assign [.Name x pos'] (.ListComp elt [⟨tg,iter,ifs,0⟩] scope pos) spos) (w0Q (y7n own.length ix wi g tc te) (y2B i)):=by
 intro pins s σ H D I h
 rw[exec_Assign_Name_used _ _ _ _ hsw]
 refine wpAny_bind (wpAny_standAt (wpAny_bind ?_))
 show wpAny _ X.A (do let _ <- comprehension (.ListComp elt [⟨tg,iter,ifs,0⟩] scope pos) scope X.env _ (newList []) false (eval iter X.env) (some (assign (.Name x pos') X.env))) _ _ s
 refine wpAny_bind (wpAny_mono (wpAny_comprehension_free (use:=some (assign (.Name x pos') X.env)) (Q:=fun _ s'=>SP X pins D .next s') rfl hs (z6I S.Y0) S.kind S.names
  (thn (hi pins s σ H _ I h) fun v s1 h1=>thn h1 fun itv s2 h2=>?_)) (fun _ s' hq=>wpAny_pure (wpAny_pure hq)) fun _ _ e=>e)
 refine z8u (RR:=fun acc C=>compPost (model X.prog X.w) X.A X.xe (some (assign (.Name x pos') X.env)) (fun _ s'=>SP X pins D .next s') acc C) S hc hg og mg ht he h2 ?_
 intro D' C m H' ys s' I' fC hn hD fin
 obtain⟨f0,f1,f2,f3,f4,f5⟩:=fC
 obtain⟨oC,es,ep,hoC,hdC,hr⟩:=id hn
 show wpAny _ X.A (assign (.Name x pos') X.env (.ref D')) _ _ _
 have Ip:Inv X (pins++[(C,oC)]) σ (upd H' D' (.lst ys)) s':=I'.S5 fun p hp=>(cB.mp hp).elim (fun z=>I'.pin p (cD _ z)) fun z=>by
  have e:p=(C,oC):=by simpa using z
  subst e
  exact⟨hoC,f0,f1,f2,fun v z=>by rw[hdC] at z;cases z⟩
 refine thn (z0m hN hx hl hf (pins++[(C,oC)]) s' σ _ (.ref D') (.ref D') _ Ip rfl (fin D' hD)) fun _ s3 ⟨σ3,H3,I3,q3⟩=>?_
 have pC:=I3.pin (C,oC) (cD _ (cD _ (by simp)))
 refine⟨m,⟨oC,es,ep,pC.1,hdC,hr⟩,fun h' sb=>?_⟩
 have I4:Inv X pins σ3 H3 s3:=I3.S3
 exact⟨σ3,H3,I4.turned (t':=s3.toks) (h':=h') (it:=C) (fun b o hb e=>(sb.2 b hb).trans e) pC.2.1 f1 f3 f4 f5,q3⟩
end
section
variable{prog:Program}{w:World}{A:Around}{R:Result->Shared->Prop}{I:Addr}{fp wr:List Addr}{n:Nat}{P:Nat->Value->Prop}{St:Nat->Heap->Prop}
theorem y5i(W:Walks prog w A.in1 I fp wr n P St)(bt:Nat->Nat->Bool)(U5:CmpOf prog w A.in1 .Gt P bt)(S:Addr)(hSf:S∉fp)(kw:List (Str×Value)) :
  ∀(k j:Nat) (s:Shared) (vb:Value) (c:Nat),n-(j+1)=k->j+1≤n->St (j+1) s.heap->P (argBest bt j) vb->
  s.heap.get? S=some { cls:=.type "list",dict:=none,data:=.seq #[vb,vb] c,slots:=#[] }->
  (∀v h' tk,P (argBest bt (n-1)) v->(∀b o,b∉wr->b≠S->s.heap.get? b=some o->h'.get? b=some o)->R (.ok (.ret v)) { s with heap:=h',toks:=tk })->
  codeAny (model prog w) A (.builtin "max.loop" ⟨[.ref I,.none,.ref S],kw⟩) R s:=by
 have hSw:S∉wr:=fun h=>hSf (W.sub _ h)
 have N6:(toString "max"++toString ".loop":String)="max.loop":=by decide
 intro k
 induction k with
 | zero=>
  intro j s vb c hk hj hst hPb hS hR
  have hin:j+1=n:=by lia
  refine codeAny_builtin eY ?_
  rw[cH cZ _]
  show wpAny _ A.in1 (seqItems? (.ref S) >>= _) _ _ s
  refine wpAny_bind (wpAny_seqItems hS rfl ?_)
  show wpAny _ A.in1 (tryCatch (pyNext (.ref I)) _ >>= _) _ _ s
  refine wpAny_bind (wpAny_tryCatch (W.done s _ _ (hin ▸ hst) fun h' tk hk'=>?_))
  have hS':=hk' S _ hSw hS
  show wpAny _ A.in1 (updateSeq S (fun _=>#[]) >>= _) _ _ _
  refine wpAny_bind ?_
  refine wpAny_updateSeq hS' rfl (wpAny_bind (wpAny_letGo (wpAny_pure ?_)))
  refine hR vb _ tk (by rw[<- hin];exact hPb) fun b o hbw hbS e=>(cK _ _ (cU hbS)).trans (hk' b o hbw e)
 | succ k ih=>
  intro j s vb c hk hj hst hPb hS hR
  have hlt:j+1<n:=by lia
  refine codeAny_builtin eY ?_
  rw[cH cZ _]
  show wpAny _ A.in1 (seqItems? (.ref S) >>= _) _ _ s
  refine wpAny_bind (wpAny_seqItems hS rfl ?_)
  show wpAny _ A.in1 (tryCatch (pyNext (.ref I)) _ >>= _) _ _ s
  refine wpAny_bind (wpAny_tryCatch (W.item (j+1) s _ _ hlt hst fun v h' tk hP hst' hk'=>?_))
  have hS':=hk' S _ hSw hS
  show wpAny _ A.in1 (tryCatch (holding [v,v] (richCompare .Gt v vb >>= _)) _ >>= _) _ _ _
  refine wpAny_bind (wpAny_tryCatch (wpAny_holding (wpAny_bind (U5 (j+1) (argBest bt j) v vb _ _ _ hP hPb ?_))))
  refine wpAny_bind (wpAny_holding (wpAny_truthy_bool ?_))
  refine wpAny_bind (wpAny_letGo (wpAny_pure ?_))
  cases hb:bt (j+1) (argBest bt j) with
  | true=>
   simp only[if_true]
   refine wpAny_bind ?_
   refine wpAny_updateSeq hS' rfl (wpAny_bind (wpAny_letGo ?_))
   rw[N6]
   refine wpAny_pure ⟨plainId_quiet cZ _,ih (j+1) _ v _ (by lia) hlt (W.frame _ _ _ hst' fun b hbf o e=>?_) (by simp only[argBest,hb,if_true];exact hP) (d7 _ hS' rfl)
    fun v' h'' tk'' hP' hk''=>?_⟩
   ·exact(cK _ _ (fun h:S=b=>hSf (by rw[h];exact hbf))).trans e
   ·exact hR v' h'' tk'' hP' fun b o hbw hbS e=>hk'' b o hbw hbS ((cK _ _ (cU hbS)).trans (hk' b o hbw e))
  | false=>
   simp only[dS,if_false]
   refine wpAny_bind (wpAny_letGo ?_)
   rw[N6]
   refine wpAny_pure ⟨plainId_quiet cZ _,ih (j+1) _ vb c (by lia) hlt hst' (by simp only[argBest,hb,dS,if_false];exact hPb) hS' fun v' h'' tk'' hP' hk''=>?_⟩
   exact hR v' h'' tk'' hP' fun b o hbw hbS e=>hk'' b o hbw hbS (hk' b o hbw e)
theorem y2D(W:Walks prog w A.in1 I fp wr n P St)(bt:Nat->Nat->Bool)(U5:CmpOf prog w A.in1 .Gt P bt)(S:Addr)(hSf:S∉fp)(kw:List (Str×Value))(hn:0<n){s:Shared}{c:Nat}(hst:St 0 s.heap)
  (hS:s.heap.get? S=some { cls:=.type "list",dict:=none,data:=.seq #[] c,slots:=#[] })
  (hR:∀v h' tk,P (argBest bt (n-1)) v->(∀b o,b∉wr->b≠S->s.heap.get? b=some o->h'.get? b=some o)->R (.ok (.ret v)) { s with heap:=h',toks:=tk }) :
  codeAny (model prog w) A (.builtin "max.loop" ⟨[.ref I,.none,.ref S],kw⟩) R s:=by
 have hSw:S∉wr:=fun h=>hSf (W.sub _ h)
 have N6:(toString "max"++toString ".loop":String)="max.loop":=by decide
 refine codeAny_builtin eY ?_
 rw[cH cZ _]
 show wpAny _ A.in1 (seqItems? (.ref S) >>= _) _ _ s
 refine wpAny_bind (wpAny_seqItems hS rfl ?_)
 show wpAny _ A.in1 (tryCatch (pyNext (.ref I)) _ >>= _) _ _ s
 refine wpAny_bind (wpAny_tryCatch (W.item 0 s _ _ hn hst fun v h' tk hP hst' hk'=>?_))
 have hS':=hk' S _ hSw hS
 show wpAny _ A.in1 (updateSeq S (fun _=>#[v,v]) >>= _) _ _ _
 refine wpAny_bind ?_
 refine wpAny_updateSeq hS' rfl ?_
 rw[N6]
 refine wpAny_pure ⟨plainId_quiet cZ _,y5i W bt U5 S hSf kw _ 0 _ v _ rfl hn (W.frame _ _ _ hst' fun b hbf o e=>?_) hP (d7 _ hS' rfl) fun v' h'' tk'' hP' hk''=>?_⟩
 ·exact(cK _ _ (fun h:S=b=>hSf (by rw[h];exact hbf))).trans e
 ·exact hR v' h'' tk'' hP' fun b o hbw hbS e=>hk'' b o hbw hbS ((cK _ _ (cU hbS)).trans (hk' b o hbw e))
theorem y5j(W:Walks prog w A.in1 I fp wr n P St)(S:Addr)(hSf:S∉fp)(kn:Str)(d:Value)(hn:n=0){s:Shared}{c:Nat}(hst:St 0 s.heap)
  (hS:s.heap.get? S=some { cls:=.type "list",dict:=none,data:=.seq #[] c,slots:=#[] })
  (hR:∀h' tk,(∀b o,b∉wr->s.heap.get? b=some o->h'.get? b=some o)->R (.ok (.ret d)) { s with heap:=h',toks:=tk }) :
  codeAny (model prog w) A (.builtin "max.loop" ⟨[.ref I,.none,.ref S],[(kn,d)]⟩) R s:=by
 refine codeAny_builtin eY ?_
 rw[cH cZ _]
 show wpAny _ A.in1 (seqItems? (.ref S) >>= _) _ _ s
 refine wpAny_bind (wpAny_seqItems hS rfl ?_)
 show wpAny _ A.in1 (tryCatch (pyNext (.ref I)) _ >>= _) _ _ s
 refine wpAny_bind (wpAny_tryCatch (W.done s _ _ (hn ▸ hst) fun h' tk hk'=>?_))
 exact wpAny_bind (wpAny_rule (wpAny_pure (hR h' tk hk')))
theorem z6V(a v:Value):argsOk "max" ⟨[a],[(Str.ofString "default",v)]⟩:=by unfold argsOk;kernel_rfl
theorem y4G{x d:Value}{s:Shared}{E:Value->Shared->Prop}{Q:Value->Shared->Prop}
  (h:wpAny (model prog w) A.in1 (pyIter x) (fun it s2=>∃I fp wr n P St bt,it=.ref I/\Walks prog w A.in1 I fp wr n P St/\St 0 s2.heap/\(∀b∈fp,b<s2.heap.objs.size)/\CmpOf prog w A.in1 .Gt P bt/\
   (n=0->∀h' tk,(∀b o,b∉wr->s2.heap.get? b=some o->h'.get? b=some o)->Q d { s2 with heap:=h',toks:=tk })/\
   (0<n->∀v h' tk,P (argBest bt (n-1)) v->(∀b o,b∉wr->s2.heap.get? b=some o->h'.get? b=some o)->Q v { s2 with heap:=h',toks:=tk })) E s) :
  wpAny (model prog w) A (call (.builtin "max") [x] [(Str.ofString "default",d)]) Q E s:=by
 have N6:(toString "max"++toString ".loop":String)="max.loop":=by decide
 refine kmk_tree PySem.F.kind_max PySem.F.plain_max PySem.F.entry_max (z6V _ _) ?_
 show wpAny _ A.in1 (Builtin.Builtins.bindParams "max" ["key","default"] 0 ⟨[],[(Str.ofString "default",d)]⟩ >>= _) _ _ s
 refine wpAny_bind (wpAny_of_eq (show Builtin.Builtins.bindParams "max" ["key","default"] 0 ⟨[],[(Str.ofString "default",d)]⟩=pure [none,some d] from by kernel_rfl) ?_)
 refine wpAny_bind (wpAny_pure ?_)
 refine wpAny_bind (wpAny_mono h (fun it s2 h2=>?_) fun _ _ e=>e)
 obtain⟨I,fp,wr,n,P,St,bt,rfl,W,hst,hfp,U5,hQ0,hQ⟩:=h2
 refine wpAny_bind (wpAny_newObj_type ?_)
 have hSf:s2.heap.objs.size∉fp:=fun hm=>d6 _ (hfp _ hm)
 rw[N6]
 refine wpAny_pure ⟨plainId_quiet cZ _,?_⟩
 by_cases hn:n=0
 ·exact y5j W s2.heap.objs.size hSf _ d hn (W.frame _ _ _ hst fun b _ o e=>bB _ e) (bK _ rfl) fun h' tk hk=>hQ0 hn h' tk fun b o hbw e=>hk b o hbw (bB _ e)
 ·exact y2D W bt U5 s2.heap.objs.size hSf _ (fT hn) (W.frame _ _ _ hst fun b _ o e=>bB _ e) (bK _ rfl) fun v h' tk hP hk=>
   hQ (fT hn) v h' tk hP fun b o hbw e=>hk b o hbw (cC (bN e)) (bB _ e)
theorem y5b(W:Walks prog w A.in1 I fp wr n P St)(bt:Nat->Nat->Bool)(U5:CmpOf prog w A.in1 .Lt P bt)(S:Addr)(hSf:S∉fp)(kw:List (Str×Value)) :
  ∀(k j:Nat) (s:Shared) (vb:Value) (c:Nat),n-(j+1)=k->j+1≤n->St (j+1) s.heap->P (argBest bt j) vb->
  s.heap.get? S=some { cls:=.type "list",dict:=none,data:=.seq #[vb,vb] c,slots:=#[] }->
  (∀v h' tk,P (argBest bt (n-1)) v->(∀b o,b∉wr->b≠S->s.heap.get? b=some o->h'.get? b=some o)->R (.ok (.ret v)) { s with heap:=h',toks:=tk })->
  codeAny (model prog w) A (.builtin "min.loop" ⟨[.ref I,.none,.ref S],kw⟩) R s:=by
 have hSw:S∉wr:=fun h=>hSf (W.sub _ h)
 have N6:(toString "min"++toString ".loop":String)="min.loop":=by decide
 intro k
 induction k with
 | zero=>
  intro j s vb c hk hj hst hPb hS hR
  have hin:j+1=n:=by lia
  refine codeAny_builtin eZ ?_
  rw[cH d4 _]
  show wpAny _ A.in1 (seqItems? (.ref S) >>= _) _ _ s
  refine wpAny_bind (wpAny_seqItems hS rfl ?_)
  show wpAny _ A.in1 (tryCatch (pyNext (.ref I)) _ >>= _) _ _ s
  refine wpAny_bind (wpAny_tryCatch (W.done s _ _ (hin ▸ hst) fun h' tk hk'=>?_))
  have hS':=hk' S _ hSw hS
  show wpAny _ A.in1 (updateSeq S (fun _=>#[]) >>= _) _ _ _
  refine wpAny_bind ?_
  refine wpAny_updateSeq hS' rfl (wpAny_bind (wpAny_letGo (wpAny_pure ?_)))
  refine hR vb _ tk (by rw[<- hin];exact hPb) fun b o hbw hbS e=>(cK _ _ (cU hbS)).trans (hk' b o hbw e)
 | succ k ih=>
  intro j s vb c hk hj hst hPb hS hR
  have hlt:j+1<n:=by lia
  refine codeAny_builtin eZ ?_
  rw[cH d4 _]
  show wpAny _ A.in1 (seqItems? (.ref S) >>= _) _ _ s
  refine wpAny_bind (wpAny_seqItems hS rfl ?_)
  show wpAny _ A.in1 (tryCatch (pyNext (.ref I)) _ >>= _) _ _ s
  refine wpAny_bind (wpAny_tryCatch (W.item (j+1) s _ _ hlt hst fun v h' tk hP hst' hk'=>?_))
  have hS':=hk' S _ hSw hS
  show wpAny _ A.in1 (tryCatch (holding [v,v] (richCompare .Lt v vb >>= _)) _ >>= _) _ _ _
  refine wpAny_bind (wpAny_tryCatch (wpAny_holding (wpAny_bind (U5 (j+1) (argBest bt j) v vb _ _ _ hP hPb ?_))))
  refine wpAny_bind (wpAny_holding (wpAny_truthy_bool ?_))
  refine wpAny_bind (wpAny_letGo (wpAny_pure ?_))
  cases hb:bt (j+1) (argBest bt j) with
  | true=>
   simp only[if_true]
   refine wpAny_bind ?_
   refine wpAny_updateSeq hS' rfl (wpAny_bind (wpAny_letGo ?_))
   rw[N6]
   refine wpAny_pure ⟨plainId_quiet d4 _,ih (j+1) _ v _ (by lia) hlt (W.frame _ _ _ hst' fun b hbf o e=>?_) (by simp only[argBest,hb,if_true];exact hP) (d7 _ hS' rfl)
    fun v' h'' tk'' hP' hk''=>?_⟩
   ·exact(cK _ _ (fun h:S=b=>hSf (by rw[h];exact hbf))).trans e
   ·exact hR v' h'' tk'' hP' fun b o hbw hbS e=>hk'' b o hbw hbS ((cK _ _ (cU hbS)).trans (hk' b o hbw e))
  | false=>
   simp only[dS,if_false]
   refine wpAny_bind (wpAny_letGo ?_)
   rw[N6]
   refine wpAny_pure ⟨plainId_quiet d4 _,ih (j+1) _ vb c (by lia) hlt hst' (by simp only[argBest,hb,dS,if_false];exact hPb) hS' fun v' h'' tk'' hP' hk''=>?_⟩
   exact hR v' h'' tk'' hP' fun b o hbw hbS e=>hk'' b o hbw hbS (hk' b o hbw e)
theorem y3W(W:Walks prog w A.in1 I fp wr n P St)(bt:Nat->Nat->Bool)(U5:CmpOf prog w A.in1 .Lt P bt)(S:Addr)(hSf:S∉fp)(kw:List (Str×Value))(hn:0<n){s:Shared}{c:Nat}(hst:St 0 s.heap)
  (hS:s.heap.get? S=some { cls:=.type "list",dict:=none,data:=.seq #[] c,slots:=#[] })
  (hR:∀v h' tk,P (argBest bt (n-1)) v->(∀b o,b∉wr->b≠S->s.heap.get? b=some o->h'.get? b=some o)->R (.ok (.ret v)) { s with heap:=h',toks:=tk }) :
  codeAny (model prog w) A (.builtin "min.loop" ⟨[.ref I,.none,.ref S],kw⟩) R s:=by
 have hSw:S∉wr:=fun h=>hSf (W.sub _ h)
 have N6:(toString "min"++toString ".loop":String)="min.loop":=by decide
 refine codeAny_builtin eZ ?_
 rw[cH d4 _]
 show wpAny _ A.in1 (seqItems? (.ref S) >>= _) _ _ s
 refine wpAny_bind (wpAny_seqItems hS rfl ?_)
 show wpAny _ A.in1 (tryCatch (pyNext (.ref I)) _ >>= _) _ _ s
 refine wpAny_bind (wpAny_tryCatch (W.item 0 s _ _ hn hst fun v h' tk hP hst' hk'=>?_))
 have hS':=hk' S _ hSw hS
 show wpAny _ A.in1 (updateSeq S (fun _=>#[v,v]) >>= _) _ _ _
 refine wpAny_bind ?_
 refine wpAny_updateSeq hS' rfl ?_
 rw[N6]
 refine wpAny_pure ⟨plainId_quiet d4 _,y5b W bt U5 S hSf kw _ 0 _ v _ rfl hn (W.frame _ _ _ hst' fun b hbf o e=>?_) hP (d7 _ hS' rfl) fun v' h'' tk'' hP' hk''=>?_⟩
 ·exact(cK _ _ (fun h:S=b=>hSf (by rw[h];exact hbf))).trans e
 ·exact hR v' h'' tk'' hP' fun b o hbw hbS e=>hk'' b o hbw hbS ((cK _ _ (cU hbS)).trans (hk' b o hbw e))
theorem y4Z(W:Walks prog w A.in1 I fp wr n P St)(S:Addr)(hSf:S∉fp)(kn:Str)(d:Value)(hn:n=0){s:Shared}{c:Nat}(hst:St 0 s.heap)
  (hS:s.heap.get? S=some { cls:=.type "list",dict:=none,data:=.seq #[] c,slots:=#[] })
  (hR:∀h' tk,(∀b o,b∉wr->s.heap.get? b=some o->h'.get? b=some o)->R (.ok (.ret d)) { s with heap:=h',toks:=tk }) :
  codeAny (model prog w) A (.builtin "min.loop" ⟨[.ref I,.none,.ref S],[(kn,d)]⟩) R s:=by
 refine codeAny_builtin eZ ?_
 rw[cH d4 _]
 show wpAny _ A.in1 (seqItems? (.ref S) >>= _) _ _ s
 refine wpAny_bind (wpAny_seqItems hS rfl ?_)
 show wpAny _ A.in1 (tryCatch (pyNext (.ref I)) _ >>= _) _ _ s
 refine wpAny_bind (wpAny_tryCatch (W.done s _ _ (hn ▸ hst) fun h' tk hk'=>?_))
 exact wpAny_bind (wpAny_rule (wpAny_pure (hR h' tk hk')))
theorem z6X(a v:Value):argsOk "min" ⟨[a],[(Str.ofString "default",v)]⟩:=by unfold argsOk;kernel_rfl
theorem y50{x d:Value}{s:Shared}{E:Value->Shared->Prop}{Q:Value->Shared->Prop}
  (h:wpAny (model prog w) A.in1 (pyIter x) (fun it s2=>∃I fp wr n P St bt,it=.ref I/\Walks prog w A.in1 I fp wr n P St/\St 0 s2.heap/\(∀b∈fp,b<s2.heap.objs.size)/\CmpOf prog w A.in1 .Lt P bt/\
   (n=0->∀h' tk,(∀b o,b∉wr->s2.heap.get? b=some o->h'.get? b=some o)->Q d { s2 with heap:=h',toks:=tk })/\
   (0<n->∀v h' tk,P (argBest bt (n-1)) v->(∀b o,b∉wr->s2.heap.get? b=some o->h'.get? b=some o)->Q v { s2 with heap:=h',toks:=tk })) E s) :
  wpAny (model prog w) A (call (.builtin "min") [x] [(Str.ofString "default",d)]) Q E s:=by
 have N6:(toString "min"++toString ".loop":String)="min.loop":=by decide
 refine kmk_tree PySem.F.kind_min PySem.F.plain_min PySem.F.entry_min (z6X _ _) ?_
 show wpAny _ A.in1 (Builtin.Builtins.bindParams "min" ["key","default"] 0 ⟨[],[(Str.ofString "default",d)]⟩ >>= _) _ _ s
 refine wpAny_bind (wpAny_of_eq (show Builtin.Builtins.bindParams "min" ["key","default"] 0 ⟨[],[(Str.ofString "default",d)]⟩=pure [none,some d] from by kernel_rfl) ?_)
 refine wpAny_bind (wpAny_pure ?_)
 refine wpAny_bind (wpAny_mono h (fun it s2 h2=>?_) fun _ _ e=>e)
 obtain⟨I,fp,wr,n,P,St,bt,rfl,W,hst,hfp,U5,hQ0,hQ⟩:=h2
 refine wpAny_bind (wpAny_newObj_type ?_)
 have hSf:s2.heap.objs.size∉fp:=fun hm=>d6 _ (hfp _ hm)
 rw[N6]
 refine wpAny_pure ⟨plainId_quiet d4 _,?_⟩
 by_cases hn:n=0
 ·exact y4Z W s2.heap.objs.size hSf _ d hn (W.frame _ _ _ hst fun b _ o e=>bB _ e) (bK _ rfl) fun h' tk hk=>hQ0 hn h' tk fun b o hbw e=>hk b o hbw (bB _ e)
 ·exact y3W W bt U5 s2.heap.objs.size hSf _ (fT hn) (W.frame _ _ _ hst fun b _ o e=>bB _ e) (bK _ rfl) fun v h' tk hP hk=>
   hQ (fT hn) v h' tk hP fun b o hbw e=>hk b o hbw (cC (bN e)) (bB _ e)
end
theorem z98(f:Nat->Int):∀k,argBest (fun i j=>decide (f i > f j)) k≤k/\∀i,i≤k->f i≤f (argBest (fun i j=>decide (f i > f j)) k)
 | 0=>⟨bG _,fun i hi=>by rw[Nat.le_zero.mp hi];exact e7 _⟩
 | k+1=>by
  obtain⟨h1,h2⟩:=z98 f k
  unfold argBest
  by_cases c:f (k+1) > f (argBest (fun i j=>decide (f i > f j)) k)
  ·rw[if_pos (decide_eq_true c)]
   refine⟨bG _,fun i hi=>?_⟩
   by_cases e:i=k+1
   ·rw[e];exact e7 _
   ·have:=h2 i (by lia)
    lia
  ·rw[if_neg (by rw[decide_eq_false c];exact bO)]
   refine⟨by lia,fun i hi=>?_⟩
   by_cases e:i=k+1
   ·rw[e];lia
   ·exact h2 i (by lia)
theorem z9A(f:Nat->Int):∀k,argBest (fun i j=>decide (f i<f j)) k≤k/\∀i,i≤k->f (argBest (fun i j=>decide (f i<f j)) k)≤f i
 | 0=>⟨bG _,fun i hi=>by rw[Nat.le_zero.mp hi];exact e7 _⟩
 | k+1=>by
  obtain⟨h1,h2⟩:=z9A f k
  unfold argBest
  by_cases c:f (k+1)<f (argBest (fun i j=>decide (f i<f j)) k)
  ·rw[if_pos (decide_eq_true c)]
   refine⟨bG _,fun i hi=>?_⟩
   by_cases e:i=k+1
   ·rw[e];exact e7 _
   ·have:=h2 i (by lia)
    lia
  ·rw[if_neg (by rw[decide_eq_false c];exact bO)]
   refine⟨by lia,fun i hi=>?_⟩
   by_cases e:i=k+1
   ·rw[e];lia
   ·exact h2 i (by lia)
section
variable{X:Cx}
noncomputable def SqI(K:PySem.W.Frag)(H:Hp)(p:Addr)(ns:List Int):Prop:=SqL K H p (ns.map V.int)\/SqT K H p (ns.map V.int)
theorem z38{ns:List Int}{its:List Value}(r:Vals (ns.map V.int) its):∀(i:Nat) (v:Value),its.toArray[i]? = some v->∃t,v=.int (ns.getD i 0) t:=by
 intro i v e
 have e':its[i]? = some v:=by simpa using e
 have hi:i<its.length:=(cO.mp e').1
 have hl:=r.length
 rw[b6] at hl
 obtain⟨u,hu,ru⟩:=r.get (i:=i) (x:=.int (ns.getD i 0)) (by
  rw[bL,bV]
  have:ns[i]? = some ns[i]:=bH (by lia)
  rw[this];rfl)
 rw[e'] at hu
 cases hu
 exact ru
theorem z5u{pins:List (Addr×Obj)}{σ:St}{H:Hp}{s:Shared}{p:Addr}{ns:List Int}{A:Around}{E:Value->Shared->Prop}{Q:Value->Shared->Prop}(I:Inv X pins σ H s)(hh:A.handled=none)(hq:SqI X.K H p ns)
  (h:∀(it:Addr) (fp:List Addr) (St:Nat->Heap->Prop) (its:List Value) (s2:Shared),Vals (ns.map V.int) its->Walks X.prog X.w A it fp [it] its.toArray.size (fun i v=>its.toArray[i]? = some v) St->St 0 s2.heap->(∀b∈fp,b<s2.heap.objs.size)->
   (∀h' tk,(∀b o,b∉[it]->s2.heap.get? b=some o->h'.get? b=some o)->Inv X pins σ H { s2 with heap:=h',toks:=tk })->Q (.ref it) s2) :
  wpAny (model X.prog X.w) A (pyIter (.ref p)) Q E s:=by
 have back:∀(o:Obj) (h':Heap) (tk:Nat),(∀b ob,b∉[s.heap.objs.size]->(s.heap.push o).get? b=some ob->h'.get? b=some ob)->Inv X pins σ H { s with heap:=h',toks:=tk }:=fun o h' tk k=>
  I.kept fun b ob e=>k b ob (fun z=>absurd (bN e) (by rw[bA.mp z];exact d6 _)) (bB _ e)
 rcases hq with hq|hq
 ·obtain⟨its,r,pl,hz⟩:=I.list hq
  have hlt:p<s.heap.objs.size:=by obtain⟨_,e,_⟩:=pl.isList;exact bN e
  refine wpAny_pyIter_list pl.isList ?_
  refine h s.heap.objs.size [s.heap.objs.size,p] _ its _ r (Walks.list hh s.heap.objs.size p (cC hlt) its.toArray) ⟨⟨_,bK _ rfl,rfl,rfl⟩,pl.isList.push _⟩ (fun b hb=>?_) fun h' tk k=>back _ h' tk k
  show b<(s.heap.push _).objs.size
  rw[fH]
  rcases bC.mp hb with rfl|hb
  ·exact fL _
  ·rw[bA.mp hb];exact dX hlt
 ·obtain⟨its,r,pl,hz⟩:=I.tuple hq
  have hlt:p<s.heap.objs.size:=by obtain⟨_,e,_⟩:=pl;exact bN e
  refine wpAny_pyIter_tuple (show s.heap.IsTuple p its.toArray from pl) ?_
  refine h s.heap.objs.size [s.heap.objs.size,p] _ its _ r (Walks.tuple hh s.heap.objs.size p (cC hlt) its.toArray) ⟨⟨_,bK _ rfl,rfl,rfl⟩,?_⟩ (fun b hb=>?_) fun h' tk k=>back _ h' tk k
  ·obtain⟨o,e,c⟩:=(show s.heap.IsTuple p its.toArray from pl)
   exact⟨o,bB _ e,c⟩
  ·show b<(s.heap.push _).objs.size
   rw[fH]
   rcases bC.mp hb with rfl|hb
   ·exact fL _
   ·rw[bA.mp hb];exact dX hlt
noncomputable def y5W(K:PySem.W.Frag)(le:Int->Int->Prop)(ta td:TA):TE:=fun σ H Q=>ta σ H fun xs H1=>td σ H1 fun ds H2=>∃p ns d,xs=[.ref p]/\ds=[d]/\SqI K H2 p ns/\(ns=[]->Q d H2)/\∀m,m∈ns->(∀y∈ns,le y m)->Q (.int m) H2
theorem z77{ns:List Int}{i:Nat}(h:i<ns.length):ns.getD i 0∈ns:=by
 rw[bV,bH h]
 exact dD h
theorem z71{ns:List Int}{y:Int}(h:y∈ns):∃i,i<ns.length/\ns.getD i 0=y:=by
 obtain⟨i,hi,e⟩:=List.mem_iff_getElem.mp h
 refine⟨i,hi,?_⟩
 rw[bV,bH hi]
 exact e
theorem y3w{e:Expr}{p pos kp:Pos}{dx:Expr}{ta td:TA}(hc:X.calm=true)(hg:Gl X "max")(hm:X.mg "max"=none)(ha:PA X [e] ta)(hd:PK X [⟨some (Str.ofString "default"),dx,kp⟩] td)
  (he:backTo pos (starEach [e] X.env)=(false,eval e X.env)::backTo pos (starEach [] X.env):=by rfl)
  (S2:(backTo pos (starEach [e] X.env)).any (·.1)=false:=by rfl)
  (C7:(backToKw pos (keywordEach [⟨some (Str.ofString "default"),dx,kp⟩] X.env)).all (·.1.isSome)=true:=by rfl)
  (hkw:(backToKw pos (keywordEach [⟨some (Str.ofString "default"),dx,kp⟩] X.env)).any (·.1.isNone)=false:=by rfl) :
  PE X (.Call (.Name "max" p) [e] [⟨some (Str.ofString "default"),dx,kp⟩] pos) (y5W X.K (fun y m=>y≤m) ta td):=by
 intro pins s σ H Q I h
 refine wpAny_Call_Name_kw (z5N I hg hm gL ?_)
 refine PyProof.Rows.callWith_kw (thn (ha pos pins s σ H _ I h) fun us s1 ⟨vs,H1,I1,r,q⟩=>?_) he S2 C7 hkw
 refine thn (hd pos pins s1 σ H1 _ I1 q) fun ws s2 ⟨zs,H2,I2,rz,q2⟩=>?_
 obtain⟨a,ns,d,e1,e2,hq,q0,q1⟩:=q2
 subst e1 e2
 obtain⟨u,rfl,ru⟩:=z4N r
 cases ru
 obtain⟨dv,rfl,rd⟩:=z4N rz
 show wpAny _ X.A (call (.builtin "max") [.ref a] [(Str.ofString "default",dv)]) _ _ _
 refine y4G (z5u (A:=X.A.in1) I2 (I2.ok.hd hc) hq fun it fp St its s3 rv W st hfp back=>?_)
 have hl:=rv.length
 rw[b6] at hl
 refine⟨it,fp,[it],_,_,St,_,rfl,W,st,hfp,CmpOf.ints_gt (fun i=>ns.getD i 0) (z38 rv),fun hn h' tk k=>?_,fun hn v h' tk hv k=>?_⟩
 ·rw[bE] at hn
  exact⟨d,H2,back h' tk k,rd,q0 (dF (by lia))⟩
 ·rw[bE] at hn hv
  obtain⟨t,rfl⟩:=z38 rv _ _ hv
  obtain⟨b1,b2⟩:=z98 (fun i=>ns.getD i 0) (its.length-1)
  refine⟨.int _,H2,back h' tk k,⟨t,rfl⟩,q1 _ (z77 (by lia)) fun y hy=>?_⟩
  obtain⟨i,hi,rfl⟩:=z71 hy
  exact b2 i (by lia)
theorem y35{e:Expr}{p pos kp:Pos}{dx:Expr}{ta td:TA}(hc:X.calm=true)(hg:Gl X "min")(hm:X.mg "min"=none)(ha:PA X [e] ta)(hd:PK X [⟨some (Str.ofString "default"),dx,kp⟩] td)
  (he:backTo pos (starEach [e] X.env)=(false,eval e X.env)::backTo pos (starEach [] X.env):=by rfl)
  (S2:(backTo pos (starEach [e] X.env)).any (·.1)=false:=by rfl)
  (C7:(backToKw pos (keywordEach [⟨some (Str.ofString "default"),dx,kp⟩] X.env)).all (·.1.isSome)=true:=by rfl)
  (hkw:(backToKw pos (keywordEach [⟨some (Str.ofString "default"),dx,kp⟩] X.env)).any (·.1.isNone)=false:=by rfl) :
  PE X (.Call (.Name "min" p) [e] [⟨some (Str.ofString "default"),dx,kp⟩] pos) (y5W X.K (fun y m=>m≤y) ta td):=by
 intro pins s σ H Q I h
 refine wpAny_Call_Name_kw (z5N I hg hm gM ?_)
 refine PyProof.Rows.callWith_kw (thn (ha pos pins s σ H _ I h) fun us s1 ⟨vs,H1,I1,r,q⟩=>?_) he S2 C7 hkw
 refine thn (hd pos pins s1 σ H1 _ I1 q) fun ws s2 ⟨zs,H2,I2,rz,q2⟩=>?_
 obtain⟨a,ns,d,e1,e2,hq,q0,q1⟩:=q2
 subst e1 e2
 obtain⟨u,rfl,ru⟩:=z4N r
 cases ru
 obtain⟨dv,rfl,rd⟩:=z4N rz
 show wpAny _ X.A (call (.builtin "min") [.ref a] [(Str.ofString "default",dv)]) _ _ _
 refine y50 (z5u (A:=X.A.in1) I2 (I2.ok.hd hc) hq fun it fp St its s3 rv W st hfp back=>?_)
 have hl:=rv.length
 rw[b6] at hl
 refine⟨it,fp,[it],_,_,St,_,rfl,W,st,hfp,CmpOf.ints_lt (fun i=>ns.getD i 0) (z38 rv),fun hn h' tk k=>?_,fun hn v h' tk hv k=>?_⟩
 ·rw[bE] at hn
  exact⟨d,H2,back h' tk k,rd,q0 (dF (by lia))⟩
 ·rw[bE] at hn hv
  obtain⟨t,rfl⟩:=z38 rv _ _ hv
  obtain⟨b1,b2⟩:=z9A (fun i=>ns.getD i 0) (its.length-1)
  refine⟨.int _,H2,back h' tk k,⟨t,rfl⟩,q1 _ (z77 (by lia)) fun y hy=>?_⟩
  obtain⟨i,hi,rfl⟩:=z71 hy
  exact b2 i (by lia)
noncomputable def V9(i:Int)(n:Nat):List V:=(List.range n).map fun(k:Nat)=>V.int (i+(k:Int))
theorem y30:z3k X (.type "range") (fun xs H Q=>∃i j,xs=[.int i,.int j]/\∀p,H p=none->Q (.ref p) (upd H p (.rng i j))):=by
 intro pins s σ H xs us Q I r h
 obtain⟨i,j,rfl,q⟩:=h
 obtain⟨u,w',rfl,⟨t,rfl⟩,⟨t',rfl⟩⟩:=y26 r
 refine call_range_2 ?_
 refine⟨.ref s.heap.objs.size,_,I.laid (fun b o e=>bB _ e) (bG _) (show z1o X.prog X.w _ _ _ (.rng i j) from⟨t,t',s.toks,bK _ rfl⟩),rfl,q _ (I.hok.fresh (bG _))⟩
theorem z8R{prog:Program}{w:World}{A:Around}{E:Value->Shared->Prop}{s:Shared}{Q:List Value->Shared->Prop}{r:Addr}{a b c:Int}{t u v:Tok}{n:Nat}(hh:A.handled=none)(hr:IsRange s.heap r a b c t u v)(Y2:Builtin.Range.small a b c=true)
  (hn:Builtin.Range.rangeSize a b c=n) (hlen:n≤2^24)
  (hQ:∀h' tk acc,(∀b o,s.heap.get? b=some o->h'.get? b=some o)->ItemsOf (fun i v=>∃t,v=.int (a+i*c) t) acc n->Q acc.toList { s with heap:=h',toks:=tk }) :
  wpAny (model prog w) A (collect (.ref r)) Q E s:=by
 unfold collect
 refine wpAny_bind (wpAny_runValue (codeAny_builtin PySem.F.entry_proto_collect ?_))
 rw[cH PySem.F.plain_proto_collect _]
 show wpAny _ A.in1 (newList [] >>= fun l=>again (.builtin "list.__iadd__" ⟨[l,.ref r],[]⟩)) _ _ s
 refine wpAny_bind (wpAny_newObj_type ?_)
 refine wpAny_pure ⟨plainId_quiet eU _,codeAny_builtin PySem.F.entry_list_iadd ?_⟩
 rw[cH eU _]
 show wpAny _ A.in1 (Builtin.List.listExtendWith (.ref s.heap.objs.size) (.ref r) (.ref s.heap.objs.size)) _ _ _
 have hS:(s.heap.push { cls:=.type "list",data:=.seq ([]:List Value).toArray }).get? s.heap.objs.size=some { cls:=.type "list",data:=.seq #[] 0 }:=bK _ rfl
 have fin:∀(r':Result) (s':Shared),(∃h' tk acc c',r'=.ok (.ret (.ref s.heap.objs.size))/\s'={ s with heap:=h',toks:=tk }/\(∀b o,s.heap.get? b=some o->h'.get? b=some o)/\
   h'.get? s.heap.objs.size=some { cls:=.type "list",dict:=none,data:=.seq acc c',slots:=#[] }/\ItemsOf (fun i v=>∃t,v=.int (a+i*c) t) acc n)->
   match r' with
   | Except.ok (Flow.ret v)=>wpAny (model prog w) A (match v with
     | Value.ref a=>do
      match (<- load a).data with
       | Data.seq xs _=>pure xs.toList
       | _=>unsupported "internal:collect"
     | _=>unsupported "internal:collect") Q E s'
   | Except.ok _=>False
   | Except.error e=>E e s':=by
  rintro r' s' ⟨h',tk,acc,c',rfl,rfl,hk,hS',hacc⟩
  show wpAny _ A (load s.heap.objs.size >>= _) _ _ _
  refine wpAny_bind (wpAny_load hS' ?_)
  exact wpAny_pure (hQ h' tk acc hk hacc)
 refine wpAny_mono (wpAny_extend_range (A:=A) (R:=fun r' s'=>∃h' tk acc c',r'=.ok (.ret (.ref s.heap.objs.size))/\s'={ s with heap:=h',toks:=tk }/\(∀b o,s.heap.get? b=some o->h'.get? b=some o)/\
   h'.get? s.heap.objs.size=some { cls:=.type "list",dict:=none,data:=.seq acc c',slots:=#[] }/\ItemsOf (fun i v=>∃t,v=.int (a+i*c) t) acc n)
  (s:={ s with heap:=s.heap.push { cls:=.type "list",data:=.seq ([]:List Value).toArray } }) hh (bB _ hr) Y2 hn hlen s.heap.objs.size _ 0 hS
  fun h' tk acc c' hk hS' hacc=>⟨h',tk,acc,c',rfl,rfl,fun b o e=>hk b o (cC (bN e)) (bB _ e),hS',hacc⟩) (fun f s' h=>?_) (fun e s' h=>?_)
 ·cases f with
  | done f=>exact fin _ _ h
  | again c'=>exact⟨h.1,codeAny_mono h.2 fun r' s'' hr'=>fin _ _ hr'⟩
 ·obtain⟨_,_,_,_,e,_⟩:=h
  cases e
theorem z7J(r:Addr)(a b:Int)(t u v:Tok)(n:Nat)(Y2:Builtin.Range.small a b 1=true)(hn:Builtin.Range.rangeSize a b 1=n)(hlen:n≤2^24) :
  Meets (Builtin.«tuple.__new__» ⟨[.type "tuple",.ref r],[]⟩)
   (fun A R s=>A.handled=none/\IsRange s.heap r a b 1 t u v/\∀(h':Heap) (tk:Nat) (acc:Array Value),(∀b o,s.heap.get? b=some o->h'.get? b=some o)->ItemsOf (fun i v=>∃t,v=.int (a+i*1) t) acc n->
    R (.ok (.ret (.ref h'.objs.size))) { s with heap:=h'.push { cls:=.type "tuple",data:=.seq acc },toks:=tk }):=
 .of_wp fun prog w A R s h=>by
  obtain⟨hp,g,d,tk0,os⟩:=s
  obtain⟨hh,hr,h⟩:=h
  have hsub:=sub_tuple_self
  have hinit:=init_tuple_lookup
  have hmh:=madeHere_tuple
  have hT:Shared.TypeIs ⟨hp,g,d,tk0,os⟩ (.ref r) "range":=⟨_,hr,rfl⟩
  have hh1:A.in1.handled=none:=hh
  wp_walk using wpAny_typeOf hT,z8R hh1 hr Y2 hn hlen
  intro h' tk acc hk hacc
  show wpAny _ _ (Builtin.Tuple.tupleExact acc.toList.toArray >>= fun v=>ret v) _ _ _
  unfold Builtin.Tuple.tupleExact
  refine wpAny_bind (wpAny_newObj_type ?_ (show acc.toList.toArray.size≤sizeLine by simp only[Array.toArray_toList];rw[hacc.1,sizeLine_eq];lia))
  refine wpAny_pure ⟨_,rfl,?_⟩
  have e:acc.toList.toArray=acc:=by simp
  rw[e]
  exact h h' tk acc hk hacc
theorem y4Q{a:Int}{acc:Array Value}{n:Nat}(h:ItemsOf (fun i v=>∃t,v=Value.int (a+(i:Int)*1) t) acc n):Vals (V9 a n) acc.toList:=by
 have go:∀(l:List Value) (k:Nat),(∀(j:Nat) (v:Value),l[j]? = some v->∃t,v=Value.int (a+((k+j:Nat):Int)) t)->Vals ((List.range' k l.length).map fun(j:Nat)=>V.int (a+(j:Int))) l:=by
  intro l
  induction l with
  | nil=>intro k _;exact .nil
  | cons x r ih=>
   intro k hx
   rw[bY,List.range'_succ,cP]
   refine .cons ?_ (ih (k+1) fun j v e=>?_)
   ·obtain⟨t,e⟩:=hx 0 x rfl
    exact⟨t,e⟩
   ·obtain⟨t,e'⟩:=hx (j+1) v (by simpa using e)
    refine⟨t,e'.trans ?_⟩
    congr 1
    lia
 have q:=go acc.toList 0 fun j v e=>by
  obtain⟨t,e'⟩:=h.2 j v (by simpa using e)
  exact⟨t,by rw[e'];congr 1;first|done|lia⟩
 unfold V9
 rw[List.range_eq_range']
 have hn:acc.toList.length=n:=by simpa using h.1
 rw[hn] at q
 exact q
theorem z8b(hc:X.calm=true):z3k X (.type "tuple") (fun xs H Q=>∃p i j,xs=[.ref p]/\H p=some (.rng i j)/\(-(2^62)≤i/\i<2^62/\-(2^62)≤j/\j<2^62)/\(j-i).toNat≤2^24/\
  ∀l,H l=none->Q (.ref l) (upd H l (.tup (V9 i (j-i).toNat)))):=by
 intro pins s σ H xs us Q I r h
 obtain⟨p,i,j,rfl,hp,⟨h1,h2,h3,h4⟩,hlen,q⟩:=h
 obtain⟨u,rfl,rx⟩:=z4N r
 cases rx
 obtain⟨t,u',v,e⟩:=(show z1o X.prog X.w H s.heap p (.rng i j) from I.hok p _ hp)
 have hn:Builtin.Range.rangeSize i j 1=(((j-i).toNat:Nat):Int):=by rw[rangeSize_one];split<;>lia
 refine callType_new PySem.F.called_tuple (by decide) (PySem.F.typeCall_tuple_1 _) (PySem.F.newCall_tuple_1 _) (fun obj=>PySem.F.args_object_init_2 obj _) PySem.F.entry_tuple_new
  (z7J p i j t u' v _ (small_one h1 h2 h3 h4) hn hlen) ⟨I.ok.hd hc,e,fun h' tk acc hk hacc=>⟨⟨_,bK _ rfl,rfl⟩,?_⟩⟩
 have I1:Inv X pins σ H { s with heap:=h',toks:=tk }:=I.kept hk
 have z:(V9 i (j-i).toNat).length≤sizeLine:=by unfold V9;rw[b6,gA,sizeLine_eq];lia
 have I2:Inv X pins σ (upd H h'.objs.size (.tup (V9 i (j-i).toNat))) { s with heap:=h'.push { cls:=.type "tuple",data:=.seq acc },toks:=tk }:=
  I1.laid (t':=tk) (fun b o e=>bB _ e) (bG _) (show z1o X.prog X.w _ _ _ (.tup _) from⟨z,acc.toList,y4Q hacc,by simpa using PlT.new h' acc⟩)
 exact⟨.ref h'.objs.size,_,I2,rfl,q _ (I1.hok.fresh (bG _))⟩
theorem Vals.ins{x:V}{u:Value}(r:RelV x u){xs:List V}{us:List Value}(h:Vals xs us)(k:Nat):Vals (xs.take k++x::xs.drop k) (us.take k++u::us.drop k):=
 (h.take k).append (.cons r (h.drop k))
noncomputable def y6L:V->List V->Hp->VK->Prop:=fun x vs H Q=>∃l xs i y,x=.ref l/\vs=[.int i,y]/\H l=some (.lst xs)/\0≤i/\i≤xs.length/\xs.length<sizeLine/\Q .non (upd H l (.lst (xs.take i.toNat++y::xs.drop i.toNat)))
theorem y2H:MtM X "list.insert" y6L:=by
 intro pins s σ H x vs v us Q I rx rv h
 obtain⟨l,xs,i,y,rfl,rfl,hH,h0,h1,hz,q⟩:=h
 cases rx
 obtain⟨u,w',rfl,⟨t,rfl⟩,ry⟩:=rv.two
 obtain⟨z,its,n,r,hl,e⟩:=I.Z6 hH
 have hn:=z5K
 have hs:sizeLine=16777216:=sizeLine_eq
 have fit:¬(!Builtin.List.listFitsIndex i)=true:=by
  rw[fitsIndex_both (by lia) (by lia)]
  decide
 refine call_meets PySem.F.slot_list_insert ⟨_,e,rfl⟩ PySem.F.entry_list_insert (PySem.F.args_list_insert_3 _ _ _) (AutoSeq1.list_insert_list_int_val_1 l its.toArray n i t w' fit (by rw[bE];lia)) ⟨e,?_⟩
 refine⟨.non,_,I.w1a (its':=its.take i.toNat++w'::its.drop i.toNat) hH e ?_ (Vals.ins ry r i.toNat) ?_,rfl,q⟩
 ·have e1:(if i<0 then (i+(its.toArray.size:Int)).toNat else min i.toNat its.toArray.size)=i.toNat:=by
   rw[if_neg (by lia),bE,Nat.min_eq_left (by lia)]
  show((its.toArray.extract 0 (if i<0 then (i+(its.toArray.size:Int)).toNat else min i.toNat its.toArray.size)).push w'++its.toArray.extract (if i<0 then (i+(its.toArray.size:Int)).toNat else min i.toNat its.toArray.size))=_
  rw[e1]
  apply Array.toList_inj.mp
  simp
  rw[d5 (by rw[dC];lia)]
 ·rw[bF,bY,bM,dC]
  lia
theorem z7o:z3k X (.builtin "sorted") (fun xs H Q=>∃(p:Addr) (ns:List Int),xs=[.ref p]/\SqL X.K H p (ns.map V.int)/\ns.length<64/\
  ∀(l:Addr) (ns':List Int),H l=none->ns'.Perm ns->ns'.Pairwise (·≤·)->Q (.ref l) (upd H l (.lst (ns'.map V.int)))):=by
 intro pins s σ H xs us Q I r h
 obtain⟨p,ns,rfl,hq,h64,q⟩:=h
 obtain⟨u,rfl,rx⟩:=z4N r
 cases rx
 obtain⟨its,rv,pl,hz⟩:=I.list hq
 have hl:=rv.length
 rw[b6] at hl hz
 refine sorted_ints pl.isList (y1Y rv) (by lia) fun out ns' a1 a2 a3=>?_
 obtain⟨e,he⟩:=sortedAll_at s.heap its out
 have hlen:=a2.length_eq
 refine⟨.ref (s.heap.objs.size+1),_,I.laid (t':=s.toks) (fun b o e=>sortedAll_old e) (dO _) (show z1o X.prog X.w _ _ _ (.lst (ns'.map V.int)) from⟨?_,out.toList,e,z5U a1,?_⟩),rfl,q _ ns' (I.hok.fresh (dO _)) a2 a3⟩
 ·rw[b6,hlen];exact hz
 ·simpa using he
noncomputable def Itd(hi:Int)(n:Nat):It:=⟨fun i _=>i<n,fun i H x H'=>H'=H/\x=.int (hi-i),fun i _=>n≤i⟩
theorem y3N{P:Program}{w:World}{K:PySem.W.Frag}{tg:Expr}(it:Addr)(hi:Int)(n:Nat):Turn P w K tg (Itd hi n) [it] it (fun i h=>IsRangeIter h it (hi+(i:Nat)*(-1)) ((n:Int)-(i:Nat)) (-1)) where
 mem:=by simp
 obj:=fun i h st b hb=>by
  have e:b=it:=by simpa using hb
  subst e
  exact⟨_,st,fun v z=>by
   have z':Data.fields _=Data.cell v:=z
   cases z'⟩
 keep:=fun i h h' st k=>k it (by simp) _ st
 item:=by
  intro X hP hw hK hc i pins s σ H E I hf st hg
  subst hP hw hK
  obtain⟨f0,f1,f2,f3,f4,f5⟩:=hf it (by simp)
  have W:=Walks.range (prog:=X.prog) (w:=X.w) (I.ok.hd hc) it hi (-1) n
  refine W.item i s _ _ hg st fun v h' tk hv st' kk=>?_
  obtain⟨t,rfl⟩:=hv
  have I1:Inv X pins σ H { s with heap:=h',toks:=tk }:=I.turned (fun b o hb e=>kk b o (by simpa using hb) e) f0 f1 f3 f4 f5
  refine⟨_,rfl,y2E (s:={ s with heap:=h',toks:=tk }) (n:="range_iterator") st' rfl rfl (by decide) ⟨.int (hi-i),H,I1,⟨t,?_⟩,⟨rfl,rfl⟩,st',fun b hb=>(hf b hb).1⟩⟩
  congr 1
  lia
 done:=by
  intro X hP hw hK hc i pins s σ H E I hf st hg
  subst hP hw hK
  obtain⟨f0,f1,f2,f3,f4,f5⟩:=hf it (by simp)
  exact wpAny_pyNext_range_end (I.ok.hd hc) st (by have:n≤i:=hg;lia) fun h' eb=>⟨rfl,I.turned (t':=s.toks) (fun b o hb e=>eb b o hb e) f0 f1 f3 f4 f5⟩
 self:=fun _ _ _ _ _ st h=>wpAny_pyIter_rangeiter st h
theorem z4T(a b:Int):Builtin.Range.rangeSize a b (-1)=(((a-b).toNat:Nat):Int):=by
 unfold Builtin.Range.rangeSize
 rw[if_neg (by decide)]
 by_cases h:a > b
 ·rw[if_pos h]
  have e:(a-b-1) / (- -1)=a-b-1:=by
   show(a-b-1) / 1=_
   exact Int.ediv_one _
  rw[e]
  lia
 ·rw[if_neg h]
  lia
theorem y2s{a b:Int}(ha:-(2^62)≤a)(ha':a<2^62)(hb:-(2^62)≤b)(hb':b<2^62):Builtin.Range.small a b (-1)=true:=by
 unfold Builtin.Range.small
 rw[z4T]
 simp only[Builtin.Range.rangeFitsLong,bU,gO,decide_eq_true_eq,beq_iff_eq]
 refine⟨?_,?_⟩<;>first|omega|(split<;>omega)|(simp<;>lia)
end
section
variable{X:Cx}{tg:Expr}
noncomputable def w25(ta:TA):TI:=fun σ H R=>ta σ H fun vs H1=>∃i j:Int,vs=[.int i,.int j,.int (-1)]/\(-(2^62)≤i/\i<2^62/\-(2^62)≤j/\j<2^62)/\R (Itd i (i-j).toNat) H1
theorem y48{a b c:Expr}{ta:TA}{p pos:Pos}(hg:Gl X "range")(hm:X.mg "range"=none)(ha:PA X [a,b,c] ta)
  (hs:starEach [a,b,c] X.env=[(false,eval a X.env),(false,eval b X.env),(false,eval c X.env)]:=by rfl) (hs2:starEach [b,c] X.env=[(false,eval b X.env),(false,eval c X.env)]:=by rfl) :
  PI X tg (.Call (.Name "range" p) [a,b,c] [] pos) (w25 ta):=by
 intro pins s σ H R I h
 refine Call_ (z5N I hg hm boot_range (dI (thn (ha pos pins s σ H _ I h) fun us s1 ⟨vs,H1,I1,r1,q1⟩=>?_) (by rw[hs,hs2]) (by rw[hs2];rfl)))
 obtain⟨i,j,e,⟨q1,q2,q3,q4⟩,q⟩:=q1
 subst e
 cases r1 with
 | cons r rr=>
  cases rr with
  | cons r' rr=>
   cases rr with
   | cons r'' rr=>
    cases rr
    obtain⟨t,rfl⟩:=r
    obtain⟨t',rfl⟩:=r'
    obtain⟨t'',rfl⟩:=r''
    refine call_range_3 (by decide) ?_ (.inl (PyProof.noPylong_small (by decide)))
    refine wpAny_pyIter_range (IsRange.new ..) (y2s q1 q2 q3 q4) ?_
    have I2:Inv X pins σ H1 { s1 with heap:=s1.heap.push { cls:=.type "range",data:=.fields #[.int i t,.int j t',.int (-1) t''] },toks:=s1.toks }:=I1.kept fun b o e=>bB _ e
    refine⟨(s1.heap.push { cls:=.type "range",data:=.fields #[.int i t,.int j t',.int (-1) t''] }).objs.size,[(s1.heap.push { cls:=.type "range",data:=.fields #[.int i t,.int j t',.int (-1) t''] }).objs.size],_,_,H1,rfl,
     I2.kept (t':=s1.toks) fun b o e=>bB _ e,y3N _ i (i-j).toNat,?_,fun b hb=>?_,q⟩
    ·have e1:i+((0:Nat):Int)*(-1)=i:=by simp
     have e2:(((i-j).toNat:Nat):Int)-((0:Nat):Int)=Builtin.Range.rangeSize i j (-1):=by rw[z4T];lia
     show IsRangeIter _ _ (i+((0:Nat):Int)*(-1)) ((((i-j).toNat:Nat):Int)-((0:Nat):Int)) (-1)
     rw[e1,e2]
     exact bK _ rfl
    ·have e:b=(s1.heap.push { cls:=.type "range",data:=.fields #[.int i t,.int j t',.int (-1) t''] }).objs.size:=by simpa using hb
     subst e
     exact I2.V7 (bG _) (I2.hok.fresh (bG _))
end
theorem y4w{hi:Int}{n:Nat}{g:TG}{tb:TS}{D:Ends}{σ:St}{H:Hp}(Pv:Nat->St->Hp->Prop)(h0:Pv 0 σ H)
  (hs:∀i σ H,i<n->Pv i σ H->g (.int (hi-i)) σ H fun σ2 H2=>tb { D with nx:=Pv (i+1),ct:=Pv (i+1),bk:=D.nx } σ2 H2) (hd:∀σ H,Pv n σ H->D.nx σ H) :
  ∃W:Nat->Nat->St->Hp->Prop,(∃m,W 0 m σ H)/\∀i m σ H,W i m σ H->
   ((Itd hi n).stop i H/\D.nx σ H)\/((Itd hi n).go i H/\∃N:St->Hp->Prop,(∀σ' H',N σ' H'->∃m',m'<m/\W (i+1) m' σ' H')/\∀x H',(Itd hi n).yld i H x H'->g x σ H' fun σ2 H2=>tb { D with nx:=N,ct:=N,bk:=D.nx } σ2 H2):=by
 refine⟨fun i m σ H=>m=n-i/\i≤n/\Pv i σ H,⟨n,by simp,cQ _,h0⟩,?_⟩
 rintro i m σ H ⟨rfl,hi',p⟩
 by_cases hlt:i<n
 ·refine .inr ⟨hlt,Pv (i+1),fun σ' H' p'=>⟨n-(i+1),by lia,rfl,hlt,p'⟩,fun x H' y=>?_⟩
  obtain⟨e,y⟩:=y
  subst e y
  exact hs i σ _ hlt p
 ·have e:i=n:=by lia
  subst e
  exact .inl ⟨bG _,hd σ H p⟩
abbrev y0r(J:It)(g:TG)(tc:TT)(te:TE)(σ0:St)(H1:Hp)(F:List V->Hp->Prop):Prop:=
 ∃W:Nat->Nat->List V->Hp->Prop,(∃m,W 0 m [] H1)/\∀i m ys H,W i m ys H->
  (J.stop i H/\F ys H)\/(J.go i H/\ys.length<sizeLine/\∃N:List V->Hp->Prop,(∀zs H',N zs H'->∃m',m'<m/\W (i+1) m' zs H')/\
   ∀x H',J.yld i H x H'->z1D g tc te σ0 x H' ys N)
theorem z2b{K:PySem.W.Frag}{a:Addr}{xs:List V}{g:TG}{tc:TT}{te:TE}{σ0:St}{H1:Hp}{F:List V->Hp->Prop}(Pv:Nat->List V->Hp->Prop)(h0:Pv 0 [] H1)
  (hl:∀i ys H,i≤xs.length->Pv i ys H->SqL K H a xs/\ys.length<sizeLine)
  (hs:∀i x ys H,xs[i]? = some x->Pv i ys H->z1D g tc te σ0 x H ys (Pv (i+1))) (hd:∀ys H,Pv xs.length ys H->F ys H):y0r (Itl K a) g tc te σ0 H1 F:=by
 refine⟨fun i m ys H=>m=xs.length-i/\i≤xs.length/\Pv i ys H,⟨xs.length,by simp,cQ _,h0⟩,?_⟩
 rintro i m ys H ⟨rfl,hi,p⟩
 obtain⟨q,z⟩:=hl i ys H hi p
 by_cases hlt:i<xs.length
 ·refine .inr ⟨⟨xs,xs[i],q,by simp[hlt]⟩,z,Pv (i+1),fun zs H' p'=>⟨xs.length-(i+1),by lia,rfl,hlt,p'⟩,fun x H' y=>?_⟩
  obtain⟨e,y⟩:=y
  subst e
  exact hs i x ys _ (y xs q) p
 ·have e:i=xs.length:=by lia
  subst e
  exact .inl ⟨⟨xs,q,bG _⟩,hd ys H p⟩
theorem z27{K:PySem.W.Frag}{a:Addr}{xs:List V}{g:TG}{tc:TT}{te:TE}{σ0:St}{H1:Hp}{F:List V->Hp->Prop}(Pv:Nat->List V->Hp->Prop)(h0:Pv 0 [] H1)
  (hl:∀i ys H,i≤xs.length->Pv i ys H->SqT K H a xs/\ys.length<sizeLine)
  (hs:∀i x ys H,xs[i]? = some x->Pv i ys H->z1D g tc te σ0 x H ys (Pv (i+1))) (hd:∀ys H,Pv xs.length ys H->F ys H):y0r (Itt K a) g tc te σ0 H1 F:=by
 refine⟨fun i m ys H=>m=xs.length-i/\i≤xs.length/\Pv i ys H,⟨xs.length,by simp,cQ _,h0⟩,?_⟩
 rintro i m ys H ⟨rfl,hi,p⟩
 obtain⟨q,z⟩:=hl i ys H hi p
 by_cases hlt:i<xs.length
 ·refine .inr ⟨⟨xs,xs[i],q,by simp[hlt]⟩,z,Pv (i+1),fun zs H' p'=>⟨xs.length-(i+1),by lia,rfl,hlt,p'⟩,fun x H' y=>?_⟩
  obtain⟨e,y⟩:=y
  subst e
  exact hs i x ys _ (y xs q) p
 ·have e:i=xs.length:=by lia
  subst e
  exact .inl ⟨⟨xs,q,bG _⟩,hd ys H p⟩
theorem y27{lo:Int}{n:Nat}{g:TG}{tc:TT}{te:TE}{σ0:St}{H1:Hp}{F:List V->Hp->Prop}(Pv:Nat->List V->Hp->Prop)(h0:Pv 0 [] H1)
  (hl:∀i ys H,i≤n->Pv i ys H->ys.length<sizeLine)
  (hs:∀i ys H,i<n->Pv i ys H->z1D g tc te σ0 (.int (lo+i)) H ys (Pv (i+1))) (hd:∀ys H,Pv n ys H->F ys H):y0r (Itr lo n) g tc te σ0 H1 F:=by
 refine⟨fun i m ys H=>m=n-i/\i≤n/\Pv i ys H,⟨n,by simp,cQ _,h0⟩,?_⟩
 rintro i m ys H ⟨rfl,hi,p⟩
 have z:=hl i ys H hi p
 by_cases hlt:i<n
 ·refine .inr ⟨hlt,z,Pv (i+1),fun zs H' p'=>⟨n-(i+1),by lia,rfl,hlt,p'⟩,fun x H' y=>?_⟩
  obtain⟨e,y⟩:=y
  subst e y
  exact hs i ys _ hlt p
 ·have e:i=n:=by lia
  subst e
  exact .inl ⟨bG _,hd ys H p⟩
noncomputable def z2L{α:Type}(p:α->Bool)(f:α->V)(zs:List α):List V:=(zs.filter p).map f
theorem z5X{α:Type}(p:α->Bool)(f:α->V)(zs:List α)(z:α):z2L p f (zs++[z])=if p z=true then z2L p f zs++[f z] else z2L p f zs:=by
 unfold z2L
 rw[cY,bI]
 cases h:p z<;>simp[h]
theorem z8Q{α:Type}(p:α->Bool)(f:α->V)(zs:List α):(z2L p f zs).length≤zs.length:=by
 unfold z2L
 rw[b6]
 exact cE _ _
theorem z0C{α:Type}{zs:List α}{i:Nat}{z:α}(h:zs[i]? = some z):zs.take (i+1)=zs.take i++[z]:=by
 rw[dH,h]
 rfl
theorem y0c{K:PySem.W.Frag}{a:Addr}{ns:List Int}{g:TG}{tc:TT}{te:TE}{σ0:St}{H1:Hp}{F:List V->Hp->Prop}(p:Int->Bool)(f:Int->V)(hq:SqL K H1 a (ns.map V.int))(hz:ns.length≤1000)
  (hs:∀n ys N,n∈ns->N (if p n=true then ys++[f n] else ys) H1->z1D g tc te σ0 (.int n) H1 ys N) (hd:F (z2L p f ns) H1):y0r (Itl K a) g tc te σ0 H1 F:=by
 refine z2b (xs:=ns.map V.int) (fun i ys H=>H=H1/\ys=z2L p f (ns.take i)) ⟨rfl,rfl⟩ (fun i ys H hi hp=>?_) (fun i x ys H hx hp=>?_) (fun ys H hp=>?_)
 ·obtain⟨rfl,rfl⟩:=hp
  refine⟨hq,z0i ?_⟩
  have h1:=z8Q p f (ns.take i)
  have h2:=List.length_take_le i ns
  have h3:(ns.take i).length≤ns.length:=by rw[bM];lia
  lia
 ·obtain⟨rfl,rfl⟩:=hp
  rw[bL] at hx
  cases e:ns[i]? with
  | none=>rw[e] at hx;cases hx
  | some n=>
   rw[e] at hx
   cases hx
   refine hs n _ _ (bZ e) ⟨rfl,?_⟩
   rw[z0C e,z5X]
 ·obtain⟨rfl,rfl⟩:=hp
  rw[b6,bW]
  exact hd
theorem z8I{K:PySem.W.Frag}{a:Addr}{ns:List Int}{g:TG}{tc:TT}{te:TE}{σ0:St}{H1:Hp}{F:List V->Hp->Prop}(p:Int->Bool)(f:Int->V)(hq:SqT K H1 a (ns.map V.int))(hz:ns.length≤1000)
  (hs:∀n ys N,n∈ns->N (if p n=true then ys++[f n] else ys) H1->z1D g tc te σ0 (.int n) H1 ys N) (hd:F (z2L p f ns) H1):y0r (Itt K a) g tc te σ0 H1 F:=by
 refine z27 (xs:=ns.map V.int) (fun i ys H=>H=H1/\ys=z2L p f (ns.take i)) ⟨rfl,rfl⟩ (fun i ys H hi hp=>?_) (fun i x ys H hx hp=>?_) (fun ys H hp=>?_)
 ·obtain⟨rfl,rfl⟩:=hp
  refine⟨hq,z0i ?_⟩
  have h1:=z8Q p f (ns.take i)
  have h3:(ns.take i).length≤ns.length:=by rw[bM];lia
  lia
 ·obtain⟨rfl,rfl⟩:=hp
  rw[bL] at hx
  cases e:ns[i]? with
  | none=>rw[e] at hx;cases hx
  | some n=>
   rw[e] at hx
   cases hx
   refine hs n _ _ (bZ e) ⟨rfl,?_⟩
   rw[z0C e,z5X]
 ·obtain⟨rfl,rfl⟩:=hp
  rw[b6,bW]
  exact hd
noncomputable def upI(lo:Int)(n:Nat):List Int:=(List.range n).map fun(k:Nat)=>lo+(k:Int)
theorem z6Z(lo:Int)(n:Nat):upI lo (n+1)=upI lo n++[lo+(n:Int)]:=by
 unfold upI
 rw[List.range_succ,bI]
 rfl
theorem z13(lo:Int)(n:Nat):(upI lo n).length=n:=by unfold upI;rw[b6,gA]
theorem z1O{lo:Int}{n:Nat}{x:Int}:x∈upI lo n↔lo≤x/\x<lo+n:=by
 unfold upI
 rw[cF]
 constructor
 ·rintro⟨k,hk,rfl⟩
  have:=fX.mp hk
  lia
 ·rintro⟨h1,h2⟩
  exact⟨(x-lo).toNat,fX.mpr (by lia),by lia⟩
theorem z92{lo:Int}{n:Nat}{g:TG}{tc:TT}{te:TE}{σ0:St}{H1:Hp}{F:List V->Hp->Prop}(p:Int->Bool)(f:Int->V)(hz:n≤1000)
  (hs:∀k ys N,lo≤k->k<lo+n->N (if p k=true then ys++[f k] else ys) H1->z1D g tc te σ0 (.int k) H1 ys N) (hd:F (z2L p f (upI lo n)) H1):y0r (Itr lo n) g tc te σ0 H1 F:=by
 refine y27 (fun i ys H=>H=H1/\ys=z2L p f (upI lo i)) ⟨rfl,rfl⟩ (fun i ys H hi hp=>?_) (fun i ys H hx hp=>?_) (fun ys H hp=>?_)
 ·obtain⟨rfl,rfl⟩:=hp
  have h1:=z8Q p f (upI lo i)
  rw[z13] at h1
  exact z0i (by lia)
 ·obtain⟨rfl,rfl⟩:=hp
  refine hs _ _ _ (by lia) (by lia) ⟨rfl,?_⟩
  rw[z6Z,z5X]
 ·obtain⟨rfl,rfl⟩:=hp
  exact hd
section
variable{X:Cx}
theorem z1B:z3k X (.builtin "isinstance") (fun xs H Q=>∃x T t b,xs=[x,.ty T]/\S7 X.K H x t/\PySem.W.kitOne X.K t (.type T)=some b/\Q (.bl b) H):=by
 intro pins s σ H xs us Q I r h
 obtain⟨x,T,t,b,rfl,ty,e,q⟩:=h
 obtain⟨u,w',rfl,rx,ry⟩:=y26 r
 cases (show w'=Value.type T from ry)
 exact y3Y I rx ty e fun tk=>⟨.bl b,H,I.tok _,rfl,q⟩
theorem y7o(hu:X.A.units<cLine):OpR X (compareOp .NotEq) (fun x y H Q=>∃a b xs,x=.ref a/\y=.ref b/\SqL X.K H a xs/\SqL X.K H b []/\Q (.bl (!xs.isEmpty)) H):=by
 intro pins s σ H x y v u Q I rx ry h
 obtain⟨a,b,xs,rfl,rfl,ha,hb,q⟩:=h
 cases rx
 cases ry
 obtain⟨its,r,pl,hz⟩:=I.list ha
 obtain⟨N1,r2,pl2,hz2⟩:=I.list hb
 cases r2
 have hl:=r.length
 cases xs with
 | nil=>
  cases r
  exact SeqAt.RcNeAt.lists (e:=fun _=>true) pl.isList pl2.isList rfl hu (fun j h1 _=>absurd h1 (fR _)) X.prog X.w X.xe _ ⟨.bl false,H,I,rfl,q⟩
 | cons x0 xr=>
  refine SeqAt.RcNeAt.lists_lengths pl.isList pl2.isList ?_ hu X.prog X.w X.xe _ ⟨.bl true,H,I,rfl,q⟩
  rw[bE,<- hl]
  rfl
end
noncomputable def y1v(N:List Str)(kind:Str->Option NameKind)(rl:List (Str×NameKind)):List Str->List Nat->Bool
 | x::xs,i::is=>decide (N[i]? = some x) && (decide (kind x=some .cell) || decide (kind x=some .free)) && (decide (rl.lookup x=some .cell) || decide (rl.lookup x=some .free)) && y1v N kind rl xs is
 | _,_=>true
theorem y5F{N:List Str}{kind:Str->Option NameKind}{rl:List (Str×NameKind)}:∀{F7:List Str}{ix:List Nat},y1v N kind rl F7 ix=true->∀(j i:Nat) (x:Str),F7[j]? = some x->ix[j]? = some i->
  N[i]? = some x/\(kind x=some .cell\/kind x=some .free)/\(rl.lookup x=some .cell\/rl.lookup x=some .free)
 | [],_,_,j,i,x,e,_=>by simp at e
 | _::_,[],_,j,i,x,_,e=>by simp at e
 | y::ys,k::ks,h,j,i,x,e1,e2=>by
  unfold y1v at h
  rw[bU,bU,bU,gO,gO] at h
  obtain⟨⟨⟨h1,h2⟩,h3⟩,h4⟩:=h
  cases j with
  | zero=>
   simp at e1 e2
   subst e1 e2
   exact⟨of_decide_eq_true h1,h2.imp of_decide_eq_true of_decide_eq_true,h3.imp of_decide_eq_true of_decide_eq_true⟩
  | succ j=>exact y5F h4 j i x (by simpa using e1) (by simpa using e2)
theorem z0w{X:Cx}{scope:Scope}{cl:List (Str×Addr)}{own F7:List Str}{ix:List Nat}(Y0:z81 X.env.cells scope.names []=some cl)(cell:∀y∈scope.names,y.2≠.cell)(kind:scope.kind=.function)
  (names:∀y∈scope.names,y.2=.local->scope.names.lookup y.1=some .local) (n:F7.length=ix.length) (cap:y1v X.N X.env.kindOf (relabel scope X.env).names F7 ix=true):K6 X scope cl own F7 ix:=
 ⟨Y0,cell,kind,names,n,fun j i x e1 e2=>by
  obtain⟨a,b,c⟩:=y5F cap j i x e1 e2
  refine⟨a,fun z=>?_,b.elim (fun q=>.inr (.inl q)) (fun q=>.inr (.inr q)),c⟩
  rcases b with b|b<;>(rw[b] at z;cases z)⟩
theorem z90{X:Cx}{K:PySem.W.Frag}{es:List Expr}{k:Nat}{t:TGs}{n:Nat}{pos:Pos}(hK:X.K=K)(hc:X.calm=true)(h:PGs X es t)
  (hn:(assignEach es X.env).length=n:=by rfl) (hst:(assignEach es X.env).findIdx? (·.1)=none:=by rfl):PG X (.Tuple es k pos) (w0m K n t):=by
 subst hK
 exact y7s hc h hn hst
structure Cal(P:Program)(w:World)(K:PySem.W.Frag)(mg:Str->Option Value)(base:Heap)(k:Nat)(x:Str)(ps:List Str)(sp:Sp):Prop where
 ex:∃(f:Addr) (fd:FuncData),A8 P w K mg base CX0 k f fd ps sp/\z1u K fd ps []/\PySem.W.keepIn K (.ref f)=true/\mg x=some (.ref f)
theorem Cal.mk'{P:Program}{w:World}{K:PySem.W.Frag}{mg:Str->Option Value}{base:Heap}{k:Nat}{x:Str}{ps:List Str}{sp:Sp}{f:Addr}{fd:FuncData}(a:A8 P w K mg base CX0 k f fd ps sp)(b:z1u K fd ps [])(c:PySem.W.keepIn K (.ref f)=true)(d:mg x=some (.ref f)) :
  Cal P w K mg base k x ps sp:=⟨⟨f,fd,a,b,c,d⟩⟩
theorem z0l{X:Cx}{k:Nat}{x:Str}{ps:List Str}{sp:Sp}{e:Expr}{es:List Expr}{t:TA}{p pos:Pos}(G:Cal X.prog X.w X.K X.mg X.base k x ps sp)(hr:E3 k X.A)(hg:Gl X x)(ha:PA X (e::es) t)
  (hdb:(x == ("__debug__":Str))=false:=by decide) (he:starEach (e::es) X.env=(false,eval e X.env)::starEach es X.env:=by rfl) (hpl:(backTo pos (starEach es X.env)).any (·.1)=false:=by rfl) :
  PE X (.Call (.Name x p) (e::es) [] pos) (y7J sp [] E0 t):=by
 obtain⟨f,fd,a,b,c,d⟩:=G.ex
 exact y5Y a hr hg d c b .nil y4M ha hdb he hpl
noncomputable def P2(z:Str)(lo hi:Option Int):Str:=⟨((z.cps.toList.drop (HT.sIx z.length 0 lo)).take (HT.sIx z.length z.length hi-HT.sIx z.length 0 lo)).toArray⟩
theorem z9m{x y:Str}(h:x.cps.toList=y.cps.toList):x=y:=by
 obtain⟨a⟩:=x
 obtain⟨b⟩:=y
 exact congrArg Str.mk (Array.toList_inj.mp h)
theorem z0Y(z:Str):z.cps.toList.length=z.length:=by simp[Str.length]
theorem y0X(lo hi:Option Int)(n:Nat):Builtin.Str.strSliceIndices lo hi 1 n=(List.range (HT.sIx n n hi-HT.sIx n 0 lo)).map (fun k=>HT.sIx n 0 lo+k):=by
 obtain⟨h1,h2,h3⟩:=z6E lo hi n
 have e:Builtin.Str.strSliceIndices lo hi 1 n=sliceRange (sliceBounds lo hi none n).1 (sliceBounds lo hi none n).2.1 1:=by
  unfold Builtin.Str.strSliceIndices sliceBounds
  cases lo<;>cases hi<;>rfl
 rw[e,h1,h2,sliceRange_one]
theorem y4H{z:Str}{t:Tok}{l u:Option (Int×Tok)}{Q:Value->Shared->Prop}{s:Shared}(hz:z.length≤sizeLine)(h:∀t' tk,Q (.str (P2 z (l.map (·.1)) (u.map (·.1))) t') { s with toks:=tk }):(sliceMade z t l u none).post Q s:=by
 have picked:slicePicked z l u none=(List.range (HT.sIx z.length z.length (u.map (·.1))-HT.sIx z.length 0 (l.map (·.1)))).map (fun k=>HT.sIx z.length 0 (l.map (·.1))+k):=y0X _ _ _
 have items:(slicePicked z l u none).filterMap (z.cps[·]?)=(P2 z (l.map (·.1)) (u.map (·.1))).cps.toList:=by
  rw[picked,pick_run]
  rfl
 have lh:=HT.y5y z.length z.length (bG _) (u.map (·.1))
 unfold sliceMade
 by_cases c:(((none:Option (Int×Tok)).map (·.1)).getD 1 == 1 && (slicePicked z l u none).length == z.length)=true
 ·rw[if_pos c]
  rw[bU] at c
  have c2:(slicePicked z l u none).length=z.length:=eq_of_beq c.2
  rw[picked,b6,gA] at c2
  have e:P2 z (l.map (·.1)) (u.map (·.1))=z:=by
   apply z9m
   show(z.cps.toList.drop _).take _=_
   by_cases hz0:z.length=0
   ·have:z.cps.toList=[]:=dF (by rw[z0Y];exact hz0)
    rw[this]
    simp
   ·have e1:HT.sIx z.length 0 (l.map (·.1))=0:=by lia
    rw[e1,g0,d5]
    rw[z0Y]
    lia
  have:=h t s.toks
  rw[e] at this
  exact this
 ·rw[if_neg c,items]
  refine⟨?_,?_⟩
  ·show(((P2 z (l.map (·.1)) (u.map (·.1))).cps.toList.toArray).size)≤sizeLine
   rw[bE]
   show((z.cps.toList.drop _).take _).length≤_
   rw[bM,dC,z0Y]
   lia
  ·have:=h s.toks (s.toks+1)
   have e:(⟨(P2 z (l.map (·.1)) (u.map (·.1))).cps.toList.toArray⟩:Str)=P2 z (l.map (·.1)) (u.map (·.1)):=z9m (by simp)
   rw[e]
   exact this
section
variable{X:Cx}
theorem z6S{v:Value}{o:Option Int}(h:IsPart v o):∃p:Option (Int×Tok),v=partValue p/\p.map (·.1)=o:=by
 cases h with
 | none=>exact⟨none,rfl,rfl⟩
 | int i t=>exact⟨some (i,t),rfl,rfl⟩
noncomputable def rSlS:V->Option Int->Option Int->Hp->VK->Prop:=fun x lo hi H Q=>∃z,x=.str z/\z.length≤sizeLine/\Q (.str (P2 z lo hi)) H
theorem y3e:SlR X rSlS:=by
 intro pins s σ H x v vl vu lo hi sl Q I rx hs pl pu h
 obtain⟨z,rfl,hz,q⟩:=h
 obtain⟨t,rfl⟩:=rx
 obtain⟨l,rfl,rfl⟩:=z6S pl
 obtain⟨u,rfl,rfl⟩:=z6S pu
 refine⟨"str",_,slot_str_getitem.lookup,typeIs_str s z t,?_⟩
 obtain⟨o,ho,hc,hd⟩:=hs
 refine wpAny_getItem_str_slice (l:=l) (u:=u) (st:=none) ⟨o,ho,hc,hd⟩ rfl (y4H hz fun t' tk=>?_)
 exact⟨.str _,H,I.tok _,⟨_,rfl⟩,q⟩
noncomputable def w0f(z:Str)(n:Nat):Str:=⟨(List.replicate n z.cps.toList).flatten.toArray⟩
theorem y1F(z:Array Nat):∀(n:Nat) (acc:Array Nat),(List.foldl (fun a b=>a++b) acc (List.replicate n z)).toList=acc.toList++(List.replicate n z.toList).flatten
 | 0,acc=>by simp
 | n+1,acc=>by
  rw[List.replicate_succ,dJ,y1F z n]
  simp[List.replicate_succ]
theorem y2p:OpR X (binaryOp .Mult) (fun x y H Q=>∃z n,x=.str z/\y=.int n/\1≤n/\n≤1000/\z.length≤1000/\Q (.str (w0f z n.toNat)) H):=by
 intro pins s σ H x y v u Q I rx ry h
 obtain⟨z,n,rfl,rfl,h1,h2,hz,q⟩:=h
 obtain⟨t,rfl⟩:=rx
 obtain⟨t',rfl⟩:=ry
 have hs:sizeLine=16777216:=sizeLine_eq
 have hm:z.length*n.toNat≤1000*1000:=Nat.mul_le_mul hz (by lia)
 have fin:∀t' tk,EP X pins σ Q (.str (w0f z n.toNat) t') { s with toks:=tk }:=fun t' tk=>⟨.str _,H,I.tok _,⟨_,rfl⟩,q⟩
 refine PySem.P.mul_str ?_ (fun _ _=>?_) (fun _ _=>?_) ?_
 ·rw[decide_eq_false (show ¬n < -(2^63:Int) by lia),decide_eq_false (show ¬n≥2^63 by lia)]
  rfl
 ·have:(1000:Int)≤(2^63-1) / n:=by
   apply Int.le_ediv_of_mul_le (by lia)
   have:1000*n≤1000*1000:=Int.mul_le_mul_of_nonneg_left h2 (by decide)
   lia
  lia
 ·unfold Builtin.Str.tooLong
  exact decide_eq_false (by lia)
 ·rw[if_neg (by lia)]
  by_cases c:(n == 1 || z.length == 0)=true
  ·rw[if_pos c]
   have e:w0f z n.toNat=z:=by
    apply z9m
    show((List.replicate n.toNat z.cps.toList).flatten.toArray).toList=_
    rw[gO] at c
    rcases c with c|c
    ·have:n=1:=eq_of_beq c
     subst this
     simp
    ·have:z.length=0:=eq_of_beq c
     have:z.cps.toList=[]:=dF (by rw[z0Y];exact this)
     rw[this]
     simp
   have:=fin t s.toks
   rw[e] at this
   exact this
  ·rw[if_neg c]
   have e:(⟨(List.replicate n.toNat z.cps).foldl (·++·) #[]⟩:Str)=w0f z n.toNat:=by
    apply z9m
    show(List.foldl (fun a b=>a++b) #[] (List.replicate n.toNat z.cps)).toList=((List.replicate n.toNat z.cps.toList).flatten.toArray).toList
    rw[y1F]
    simp
   refine⟨?_,?_⟩
   ·rw[e,<- z0Y]
    show((List.replicate n.toNat z.cps.toList).flatten.toArray).toList.length≤sizeLine
    have:((List.replicate n.toNat z.cps.toList).flatten.toArray).toList.length=n.toNat*z.length:=by
     simp[List.length_flatten,List.map_replicate,z0Y]
     rfl
    rw[this,Nat.mul_comm]
    lia
   ·rw[e]
    exact fin _ _
end
end L2
namespace L2
open PySem
inductive DV where
 | non|bl (b:Bool)|int (i:Int)|str (x:Str)|tup (l:List DV)
mutual
noncomputable def A9(H:Hp):DV->V->Prop
 | .non,x=>x=.non
 | .bl b,x=>x=.bl b
 | .int i,x=>x=.int i
 | .str s,x=>x=.str s
 | .tup ds,x=>∃a xs,x=.ref a/\H a=some (.tup xs)/\xs.length≤1000000/\z0b H ds xs
noncomputable def z0b(H:Hp):List DV->List V->Prop
 | [],xs=>xs=[]
 | d::ds,xs=>∃x r,xs=x::r/\A9 H d x/\z0b H ds r
end
mutual
theorem A9.keep{H H':Hp}(s:A4 H H'):∀(d:DV) (x:V),A9 H d x->A9 H' d x
 | .non,_,h=>h
 | .bl _,_,h=>h
 | .int _,_,h=>h
 | .str _,_,h=>h
 | .tup ds,_,h=>by
  unfold A9 at h ⊢
  obtain⟨a,xs,e,h1,h2,h3⟩:=h
  exact⟨a,xs,e,s _ _ h1,h2,z0b.keep s ds xs h3⟩
theorem z0b.keep{H H':Hp}(s:A4 H H'):∀(ds:List DV) (xs:List V),z0b H ds xs->z0b H' ds xs
 | [],_,h=>h
 | d::ds,_,h=>by
  unfold z0b at h ⊢
  obtain⟨x,r,e,h1,h2⟩:=h
  exact⟨x,r,e,A9.keep s d x h1,z0b.keep s ds r h2⟩
end
mutual
theorem A9.over{H:Hp}{l:Addr}{o o':HO}(hl:H l=some o)(hn:∀xs,o≠.tup xs):∀(d:DV) (x:V),A9 H d x->A9 (upd H l o') d x
 | .non,_,h=>h
 | .bl _,_,h=>h
 | .int _,_,h=>h
 | .str _,_,h=>h
 | .tup ds,_,h=>by
  unfold A9 at h ⊢
  obtain⟨a,xs,e,h1,h2,h3⟩:=h
  exact⟨a,xs,e,by rw[z0f (z6U h1 hl (fun z=>hn xs z.symm))];exact h1,h2,z0b.over hl hn ds xs h3⟩
theorem z0b.over{H:Hp}{l:Addr}{o o':HO}(hl:H l=some o)(hn:∀xs,o≠.tup xs):∀(ds:List DV) (xs:List V),z0b H ds xs->z0b (upd H l o') ds xs
 | [],_,h=>h
 | d::ds,_,h=>by
  unfold z0b at h ⊢
  obtain⟨x,r,e,h1,h2⟩:=h
  exact⟨x,r,e,A9.over hl hn d x h1,z0b.over hl hn ds r h2⟩
end
theorem z0b.length{H:Hp}:∀{ds:List DV}{xs:List V},z0b H ds xs->xs.length=ds.length
 | [],_,h=>by unfold z0b at h;rw[h];rfl
 | d::ds,_,h=>by
  unfold z0b at h
  obtain⟨x,r,rfl,_,h2⟩:=h
  rw[bY,bY,z0b.length h2]
theorem z0b.get{H:Hp}:∀{ds:List DV}{xs:List V},z0b H ds xs->∀(i:Nat) (d:DV),ds[i]? = some d->∃x,xs[i]? = some x/\A9 H d x
 | [],_,_,i,d,e=>by simp at e
 | d0::ds,_,h,0,d,e=>by
  unfold z0b at h
  obtain⟨x,r,rfl,h1,_⟩:=h
  simp at e
  subst e
  exact⟨x,rfl,h1⟩
 | d0::ds,_,h,i+1,d,e=>by
  unfold z0b at h
  obtain⟨x,r,rfl,_,h2⟩:=h
  obtain⟨y,e1,e2⟩:=z0b.get h2 i d (by simpa using e)
  exact⟨y,by simpa using e1,e2⟩
theorem z0b.at{H:Hp}:∀{ds:List DV}{xs:List V},z0b H ds xs->∀(i:Nat) (x:V),xs[i]? = some x->∃d,ds[i]? = some d/\A9 H d x
 | [],_,h,i,x,e=>by
  unfold z0b at h
  subst h
  simp at e
 | d0::ds,_,h,0,x,e=>by
  unfold z0b at h
  obtain⟨x0,r,rfl,h1,_⟩:=h
  simp at e
  subst e
  exact⟨d0,rfl,h1⟩
 | d0::ds,_,h,i+1,x,e=>by
  unfold z0b at h
  obtain⟨x0,r,rfl,_,h2⟩:=h
  obtain⟨y,e1,e2⟩:=z0b.at h2 i x (by simpa using e)
  exact⟨y,by simpa using e1,e2⟩
theorem z0b.nil{H:Hp}:z0b H [] []:=by unfold z0b;rfl
theorem z0b.cons{H:Hp}{d:DV}{ds:List DV}{x:V}{xs:List V}(h:A9 H d x)(t:z0b H ds xs):z0b H (d::ds) (x::xs):=by unfold z0b;exact⟨x,xs,rfl,h,t⟩
theorem z0b.snoc{H:Hp}:∀{ds:List DV}{xs:List V}{d:DV}{x:V},z0b H ds xs->A9 H d x->z0b H (ds++[d]) (xs++[x])
 | [],_,_,_,h,q=>by
  unfold z0b at h
  subst h
  exact z0b.cons q .nil
 | d0::ds,_,_,_,h,q=>by
  unfold z0b at h
  obtain⟨x0,r,rfl,h1,h2⟩:=h
  exact z0b.cons h1 (z0b.snoc h2 q)
theorem z0D{H:Hp}(i:Int):A9 H (.int i) (.int i):=by unfold A9;rfl
theorem z0E{H:Hp}(x:Str):A9 H (.str x) (.str x):=by unfold A9;rfl
theorem y1l{H:Hp}:A9 H .non .non:=by unfold A9;rfl
theorem z0o{H:Hp}{a:Addr}{xs:List V}{ds:List DV}(h:H a=some (.tup xs))(hl:ds.length≤1000000)(t:z0b H ds xs):A9 H (.tup ds) (.ref a):=by
 unfold A9
 exact⟨a,xs,rfl,h,by rw[t.length];exact hl,t⟩
theorem z4L{H:Hp}:∀(l:List Int),z0b H (l.map DV.int) (l.map V.int)
 | []=>.nil
 | i::r=>.cons (z0D i) (z4L r)
theorem z4K{H:Hp}:∀(l:List Str),z0b H (l.map DV.str) (l.map V.str)
 | []=>.nil
 | i::r=>.cons (z0E i) (z4K r)
theorem z4X{H:Hp}:∀{l:List Str}{xs:List V},z0b H (l.map DV.str) xs->xs=l.map V.str
 | [],_,h=>by unfold z0b at h;exact h
 | i::r,_,h=>by
  rw[cP] at h
  unfold z0b at h
  obtain⟨x,t,rfl,h1,h2⟩:=h
  unfold A9 at h1
  rw[h1,z4X h2]
  rfl
theorem z0q{H:Hp}{ds:List DV}{x:V}(h:A9 H (.tup ds) x):∃a xs,x=.ref a/\H a=some (.tup xs)/\xs.length≤1000000/\z0b H ds xs:=by
 unfold A9 at h
 exact h
theorem z1e{H:Hp}{i:Int}{x:V}(h:A9 H (.int i) x):x=.int i:=by unfold A9 at h;exact h
theorem z4r{H:Hp}{i:Str}{x:V}(h:A9 H (.str i) x):x=.str i:=by unfold A9 at h;exact h
theorem z0g{H:Hp}{d:DV}{ds:List DV}{xs:List V}(h:z0b H (d::ds) xs):∃x r,xs=x::r/\A9 H d x/\z0b H ds r:=by
 unfold z0b at h
 exact h
theorem z0W{H:Hp}{xs:List V}(h:z0b H [] xs):xs=[]:=by unfold z0b at h;exact h
mutual
noncomputable def DV.deep:DV->Nat
 | .tup ds=>DV.T9 ds+1
 | _=>0
noncomputable def DV.T9:List DV->Nat
 | []=>0
 | d::ds=>max d.deep (DV.T9 ds)
end
noncomputable def y2m:V->Bool
 | .non=>true
 | .bl _=>true
 | .int _=>true
 | .str _=>true
 | _=>false
noncomputable def z44(H:Hp):Nat->V->V->Prop
 | 0,x,y=>x=y/\y2m x=true
 | n+1,x,y=>(x=y/\y2m x=true)\/∃(a b:Addr) (xs ys:List V),x=.ref a/\y=.ref b/\H a=some (.tup xs)/\H b=some (.tup ys)/\xs.length=ys.length/\ys.length≤1000000/\
   ∀(i:Nat) (u v:V),xs[i]? = some u->ys[i]? = some v->z44 H n u v
theorem z44.keep{H H':Hp}(s:A4 H H'):∀{n:Nat}{x y:V},z44 H n x y->z44 H' n x y
 | 0,_,_,h=>h
 | n+1,x,y,h=>by
  rcases h with h|⟨a,b,xs,ys,e1,e2,h1,h2,hl,hm,h⟩
  ·exact .inl h
  ·exact .inr ⟨a,b,xs,ys,e1,e2,s _ _ h1,s _ _ h2,hl,hm,fun i u v hu hv=>z44.keep s (h i u v hu hv)⟩
theorem z44.up{H:Hp}:∀{n:Nat}{x y:V},z44 H n x y->z44 H (n+1) x y
 | 0,_,_,h=>.inl h
 | n+1,x,y,h=>by
  rcases h with h|⟨a,b,xs,ys,e1,e2,h1,h2,hl,hm,h⟩
  ·exact .inl h
  ·exact .inr ⟨a,b,xs,ys,e1,e2,h1,h2,hl,hm,fun i u v hu hv=>z44.up (h i u v hu hv)⟩
theorem z44.mono{H:Hp}{x y:V}{n m:Nat}(h:z44 H n x y)(hm:n≤m):z44 H m x y:=by
 induction hm with
 | refl=>exact h
 | step _ ih=>exact ih.up
mutual
theorem z1m{H:Hp}:∀(d:DV) (x y:V),A9 H d x->A9 H d y->z44 H d.deep x y
 | .non,x,y,h1,h2=>by
  unfold A9 at h1 h2
  subst h1 h2
  exact⟨rfl,rfl⟩
 | .bl _,x,y,h1,h2=>by
  unfold A9 at h1 h2
  subst h1 h2
  exact⟨rfl,rfl⟩
 | .int _,x,y,h1,h2=>by
  unfold A9 at h1 h2
  subst h1 h2
  exact⟨rfl,rfl⟩
 | .str _,x,y,h1,h2=>by
  unfold A9 at h1 h2
  subst h1 h2
  exact⟨rfl,rfl⟩
 | .tup ds,x,y,h1,h2=>by
  unfold A9 at h1 h2
  obtain⟨a,xs,rfl,a1,a2,a3⟩:=h1
  obtain⟨b,ys,rfl,b1,b2,b3⟩:=h2
  unfold DV.deep
  exact .inr ⟨a,b,xs,ys,rfl,rfl,a1,b1,by rw[a3.length,b3.length],b2,z7k ds xs ys a3 b3⟩
theorem z7k{H:Hp}:∀(ds:List DV) (xs ys:List V),z0b H ds xs->z0b H ds ys->∀(i:Nat) (u v:V),xs[i]? = some u->ys[i]? = some v->z44 H (DV.T9 ds) u v
 | [],xs,ys,h1,h2,i,u,v,e1,e2=>by
  unfold z0b at h1
  subst h1
  simp at e1
 | d::ds,xs,ys,h1,h2,0,u,v,e1,e2=>by
  unfold z0b at h1 h2
  obtain⟨x,r,rfl,a1,a2⟩:=h1
  obtain⟨y,t,rfl,b1,b2⟩:=h2
  simp at e1 e2
  subst e1 e2
  unfold DV.T9
  exact(z1m d x y a1 b1).mono (Nat.le_max_left _ _)
 | d::ds,xs,ys,h1,h2,i+1,u,v,e1,e2=>by
  unfold z0b at h1 h2
  obtain⟨x,r,rfl,a1,a2⟩:=h1
  obtain⟨y,t,rfl,b1,b2⟩:=h2
  unfold DV.T9
  exact(z7k ds r t a2 b2 i u v (by simpa using e1) (by simpa using e2)).mono (Nat.le_max_right _ _)
end
end L2
namespace L2
open PySem PySem.Spec PyProof.Rows
section
variable{κ:Type}[DecidableEq κ]
def L6(ks:List κ):List κ:=ks.foldl (fun acc k=>if k∈acc then acc else acc++[k]) []
theorem z9J(ks:List κ)(k:κ):L6 (ks++[k])=if k∈L6 ks then L6 ks else L6 ks++[k]:=by
 unfold L6
 rw[gB]
 rfl
theorem y2T{ks:List κ}{i:Nat}{k:κ}(h:ks[i]? = some k):L6 (ks.take (i+1))=if k∈L6 (ks.take i) then L6 (ks.take i) else L6 (ks.take i)++[k]:=by
 have e:ks.take (i+1)=ks.take i++[k]:=by rw[dH,h]<;>rfl
 rw[e,z9J]
theorem z7C(k:κ):∀(ks acc:List κ),k∈ks.foldl (fun acc k=>if k∈acc then acc else acc++[k]) acc↔k∈acc\/k∈ks
 | [],acc=>by simp
 | x::r,acc=>by
  rw[dJ,z7C k r]
  by_cases h:x∈acc
  ·rw[if_pos h,bC]
   constructor
   ·rintro(a|a)
    ·exact .inl a
    ·exact .inr (.inr a)
   ·rintro(a|rfl|a)
    ·exact .inl a
    ·exact .inl h
    ·exact .inr a
  ·rw[if_neg h,cB,bA,bC,or_assoc]
theorem z9g{k:κ}{ks:List κ}:k∈L6 ks↔k∈ks:=by unfold L6;rw[z7C];simp
theorem z7W:∀(ks acc:List κ),(ks.foldl (fun acc k=>if k∈acc then acc else acc++[k]) acc).length≤acc.length+ks.length
 | [],acc=>by simp
 | x::r,acc=>by
  rw[dJ]
  refine c9 (z7W r _) ?_
  by_cases h:x∈acc
  ·rw[if_pos h,bY];lia
  ·rw[if_neg h,bF,bY,bY,List.length_nil];lia
theorem y1I(ks:List κ):(L6 ks).length≤ks.length:=by
 have:=z7W ks []
 simpa [L6] using this
theorem z8k:∀(ks acc:List κ),(acc++ks).Nodup->ks.foldl (fun acc k=>if k∈acc then acc else acc++[k]) acc=acc++ks
 | [],acc,_=>by simp
 | x::r,acc,h=>by
  have hx:x∉acc:=fun hx=>by
   rw[fA] at h
   exact h.2.2 x hx x (bX) rfl
  rw[dJ,if_neg hx,z8k r (acc++[x]) (by rw[fB];exact h),fB]
  rfl
theorem y0U{ks:List κ}(h:ks.Nodup):L6 ks=ks:=by
 have:=z8k ks [] (by simpa using h)
 simpa [L6] using this
end
section
variable{prog:Program}{w:World}{A:Around}{κ:Type}[DecidableEq κ]{kd:KeyKind prog w κ}{I:Addr}{fp wr:List Addr}{G:Array GenState->Array GenState->Prop}{n:Nat}{P:Nat->Value->Prop}{St:Nat->Shared->Prop}
abbrev z5r(kd:KeyKind prog w κ)(h:Heap)(a:Addr)(ks:List κ):Prop:=h.SetOf kd a (fun k=>decide (k∈ks)) (L6 ks).length
theorem z5r.at{h h':Heap}{a:Addr}{ks:List κ}(x:z5r kd h a ks)(e:∀o,h.get? a=some o->h'.get? a=some o):z5r kd h' a ks:=by
 obtain⟨o,es,ep,t,ho,r⟩:=x
 exact⟨o,es,ep,t,e o ho,r⟩
theorem z91{R:Result->Shared->Prop}(W:WalksS prog w A.in1 I fp wr G n P St){a:Addr}(out:a∉fp){ks:List κ}(lk:ks.length=n)
  (vals:∀i v,P i v->∃k,ks[i]? = some k/\kd.is k v=true/\v.scannable=true) (few:n+1<scanBound) :
  ∀(todo i:Nat) (s:Shared),i+todo=n->St i s->z5r kd s.heap a (ks.take i)->
   (∀s',Moved (a::wr) G s s'->z5r kd s'.heap a ks->R (.ok (.ret .none)) s')->codeAny (model prog w) A (.builtin "set.update.loop" ⟨[.ref a,.ref I],[]⟩) R s
 | 0,i,s,ei,st,sx,fin=>by
  have e:ks.take i=ks:=d5 (by lia)
  rw[e] at sx
  have ei':i=n:=by lia
  subst ei'
  refine codeAny_builtin F.entry_set_update_loop ?_
  rw[cH g9 _]
  refine wpAny_bind (W.done s _ _ st fun s' mv=>wpAny_pure (fin s' (mv.mono fun b hb=>.tail _ hb) (sx.at fun o=>mv.heap a o fun q=>out (W.sub _ q))))
 | todo+1,i,s,ei,st,sx,fin=>by
  refine codeAny_builtin F.entry_set_update_loop ?_
  rw[cH g9 _]
  refine wpAny_bind (W.item i s _ _ (by lia) st fun v s1 hv st1 mv=>?_)
  obtain⟨k,ek,iv,sc⟩:=vals i v hv
  have sx1:=sx.at (h':=s1.heap) fun o=>mv.heap a o fun q=>out (W.sub _ q)
  refine wpAny_bind (wpAny_holding (m:=setAdd a v) ?_)
  unfold setAdd
  refine wpAny_holding (wpAny_bind (kd.pyHash iv ?_))
  have lm:=y1I (ks.take i)
  rw[bM] at lm
  refine wpAny_setAddHashed_of (s:={ s1 with toks:=s1.toks+1 }) iv sc sx1 (by lia) fun h2 sb sx2=>?_
  have sx3:z5r kd h2 a (ks.take (i+1)):=by
   have e1:(fun k'=>decide (k'∈ks.take i) || decide (k'=k))=fun k'=>decide (k'∈ks.take (i+1)):=by
    funext k'
    rw[dH,ek]
    simp[Bool.decide_or]
   have e2:(if decide (k∈ks.take i)=true then (L6 (ks.take i)).length else (L6 (ks.take i)).length+1)=(L6 (ks.take (i+1))).length:=by
    rw[y2T ek]
    by_cases hk:k∈ks.take i
    ·rw[if_pos (decide_eq_true hk),if_pos (z9g.mpr hk)]
    ·rw[if_neg (by simpa using hk),if_neg (fun q=>hk (z9g.mp q)),bF]
     rfl
   rw[e1,e2] at sx2
   exact sx2
  have far:∀b,b≠a->h2.get? b=s1.heap.get? b:=fun b hb=>sb.2 b hb
  refine wpAny_pure ⟨plainId_quiet g9 _,z91 W out lk vals few todo (i+1) _ (by lia) (W.frame _ s1 _ _ st1 (dO _) fun b hb o q=>?_) sx3 fun s3 mv3 sx4=>?_⟩
  ·rw[far b fun z=>out (z ▸ hb)];exact q
  ·refine fin s3 (.trans W.gtrans ((mv.mono fun b hb=>.tail _ hb).then_heap (dO _) fun b o hb q=>?_) mv3) sx4
   rw[far b fun z=>hb (z ▸ .head _)];exact q
end
namespace Ty
theorem y3g:isSubtype (.type "tuple") (.type "set")=pure false:=by rw[isSubtype_type];kernel_rfl
theorem z84:isSubtype (.type "tuple") (.type "frozenset")=pure false:=by rw[isSubtype_type];kernel_rfl
end Ty
abbrev T5(led:Bool):Obj:={ cls:=.type "set",dict:=none,data:=.set #[] 0 (.fresh 0 0 led) }
section
variable{prog:Program}{w:World}{A:Around}{E:Value->Shared->Prop}{s:Shared}{κ:Type}[DecidableEq κ]{kd:KeyKind prog w κ}
theorem y4A{T:String}{p:Addr}{o:Obj}{its:Array Value}{c0:Nat}{ks:List κ}{Q:Value->Shared->Prop}(hh:A.handled=none)(hp:s.heap.get? p=some o)(hc:o.cls=.type T)(hd:o.data=.seq its c0)(hT:T="list"\/T="tuple")
  (lk:ks.length=its.size) (vals:∀(i:Nat) v,its[i]? = some v->∃k,ks[i]? = some k/\kd.is k v=true/\v.scannable=true) (few:its.size+1<scanBound)
  (fin:∀(h':Heap) (t:Nat),z5r kd h' s.heap.objs.size ks->(∀b u,b<s.heap.objs.size->s.heap.get? b=some u->h'.get? b=some u)->Q (.ref s.heap.objs.size) { s with heap:=h',toks:=t }) :
  wpAny (model prog w) A (call (.type "set") [.ref p]) Q E s:=by
 obtain⟨c,tl,hmro⟩:=e9.mro
 have g1:=e9.made
 have g2:=e9.sub
 refine wpAny_call (codeAny_of_tree (wpAny_pure ⟨Code.quiet_builtin _ (by decide +kernel),codeAny_builtin F.entry_type_call ?_⟩))
 rw[Around.under_plain (weight_type_call_type "set" [.ref p] []) rfl]
 have g3:=e9.notType
 have g4:=e9.canCreate
 have g5:=F.typeCall_set_1 (.ref p)
 repeat (any_goals (first|assumption|wp_step))
 refine codeAny_mono (code_set_new_1 (.ref p) (E:=E) (Q₁:=fun u s1=>∃led,u=.ref s.heap.objs.size/\s1={ s with heap:=s.heap.push (T5 led) }) fun led=>⟨led,rfl,rfl⟩) fun r s1 q1=>?_
 rcases r with e|(_|_|_|u)
 all_goals try exact q1.elim
 all_goals try exact q1
 obtain⟨led,rfl,rfl⟩:=q1
 have at1:(s.heap.push (T5 led)).get? s.heap.objs.size=some (T5 led):=bK _ rfl
 have ty1:Shared.TypeIs { s with heap:=s.heap.push (T5 led) } (.ref s.heap.objs.size) "set":=⟨_,at1,rfl⟩
 have g6:=e9.init.lookup
 have g7:=e9.init.bind (.ref s.heap.objs.size)
 repeat (any_goals (first|assumption|wp_step))
 refine codeAny_mono (codeAny_call_builtin (R:=wants (fun r s2=>r=.none/\∃h' t,s2={ s with heap:=h',toks:=t }/\z5r kd h' s.heap.objs.size ks/\∀b u,b<s.heap.objs.size->s.heap.get? b=some u->h'.get? b=some u) E)
  e9.init.plain F.entry_set_init (check_set_init_1 ty1 ?_)) fun r s2 q2=>?_
 case _=>
  have hpS:p<s.heap.objs.size:=bN hp
  obtain⟨oc,od,oa,os⟩:=o
  simp only at hc hd
  subst hc;subst hd
  have hp1:(s.heap.push (T5 led)).get? p=some { cls:=.type T,dict:=od,data:=.seq its c0,slots:=os }:=bB _ hp
  have f1:isSubtype (.type T) (.type "set")=pure false:=by rcases hT with rfl|rfl<;>first|exact F.sub_list_set|exact Ty.y3g
  have f2:isSubtype (.type T) (.type "frozenset")=pure false:=by rcases hT with rfl|rfl<;>first|exact F.sub_list_frozenset|exact Ty.z84
  have f3:(Value.type T == Value.type "dict")=false:=by rcases hT with rfl|rfl<;>decide
  have hh3:A.in1.in1.in1.handled=none:=by simp[hh]
  have sz:(s.heap.push (T5 led)).objs.size=s.heap.objs.size+1:=fH _ _
  have apart:p≠(s.heap.push (T5 led)).objs.size:=by rw[sz];exact cC (dX hpS)
  have out:s.heap.objs.size∉[(s.heap.push (T5 led)).objs.size,p]:=by rw[sz,bC,bA];exact fun z=>z.elim (cC (fL _)) (fS hpS)
  have z5A:∀x:Obj,z5r kd ((s.heap.push (T5 led)).push x) s.heap.objs.size (ks.take 0):=fun x=>by
   have z:=(setObjOf_fresh (knd:=kd) led).setOf (bB x at1) (by unfold scanBound;lia)
   have e:(fun k:κ=>decide (k∈ks.take 0))=fun _=>false:=by funext k;simp
   show Heap.SetOf kd _ _ (fun k=>decide (k∈ks.take 0)) _
   rw[e]
   exact z
  have ends:∀(x:Obj) (s':Shared),Moved [s.heap.objs.size,(s.heap.push (T5 led)).objs.size] (fun a b=>b=a) { s with heap:=(s.heap.push (T5 led)).push x } s'->z5r kd s'.heap s.heap.objs.size ks->
    ∃h' t,s'={ s with heap:=h',toks:=t }/\z5r kd h' s.heap.objs.size ks/\∀b u,b<s.heap.objs.size->s.heap.get? b=some u->h'.get? b=some u:=fun x s' mv sx=>by
   obtain⟨h',g',d',t',o'⟩:=s'
   obtain rfl:g'=s.gens:=mv.gens
   obtain rfl:d'=s.drawn:=mv.drawn
   obtain rfl:o'=s.os:=mv.os
   exact⟨h',t',rfl,sx,fun b u hb q=>mv.heap b u (by rw[sz,bC,bA];exact fun z=>z.elim (cC hb) (cC (dX hb))) (bB _ (bB _ q))⟩
  unfold Builtin.«set.__init__» noKeywords Builtin.Frozenset.updateFrom
  generalize hPI:pyIter=PI
  wp_walk
  subst hPI
  rcases hT with rfl|rfl
  ·have hl:(s.heap.push (T5 led)).IsList p its:=⟨_,hp1,rfl,c0,rfl⟩
   refine wpAny_pyIter_list hl (wpAny_bind (wpAny_runValue ?_))
   refine z91 (kd:=kd) ((Walks.list hh3 _ p apart its).toS) out lk vals few its.size 0 _ (j7 _) ⟨⟨_,bK _ rfl,rfl,rfl⟩,hl.push _⟩ (z5A _) fun s' mv sx=>?_
   exact wpAny_pure (wpAny_pure ⟨rfl,ends _ s' mv sx⟩)
  ·have hl:(s.heap.push (T5 led)).IsTuple p its:=⟨_,hp1,rfl,c0,rfl⟩
   refine wpAny_pyIter_tuple hl (wpAny_bind (wpAny_runValue ?_))
   refine z91 (kd:=kd) ((Walks.tuple hh3 _ p apart its).toS) out lk vals few its.size 0 _ (j7 _) ⟨⟨_,bK _ rfl,rfl,rfl⟩,hl.push _⟩ (z5A _) fun s' mv sx=>?_
   exact wpAny_pure (wpAny_pure ⟨rfl,ends _ s' mv sx⟩)
 ·rcases r with e|(_|_|_|u)
  all_goals try exact q2.elim
  all_goals try exact q2
  obtain⟨rfl,h',t,rfl,sx,kp⟩:=q2
  repeat (any_goals (first|assumption|wp_step))
  exact fin _ _ sx kp
end
section
variable{X:Cx}
noncomputable def R5(P:Program)(w:World)(a:Addr)(zs:List Str):HO:=.ext fun h=>z5r (strKind P w) h a zs
theorem R5.new{P:Program}{w:World}{H:Hp}{h:Heap}{a:Addr}{zs:List Str}(x:z5r (strKind P w) h a zs):z1o P w H h a (R5 P w a zs):=by
 refine⟨x,?_,fun h1 h2 y e=>z5r.at y e⟩
 obtain⟨o,_,_,_,e,_⟩:=x
 exact⟨o,e⟩
theorem y1u:∀{zs:List Str}{us:List Value},Vals (zs.map V.str) us->∀(i:Nat) (v:Value),us[i]? = some v->∃(k:Str) (t:Tok),zs[i]? = some k/\v=.str k t
 | [],_,.nil,i,v,h=>by simp at h
 | z::zs,u::us,.cons r rs,0,v,h=>by
  simp at h
  subst h
  obtain⟨t,rfl⟩:=r
  exact⟨z,t,rfl,rfl⟩
 | z::zs,u::us,.cons r rs,i+1,v,h=>by
  simp at h
  obtain⟨k,t,a,b⟩:=y1u rs i v h
  exact⟨k,t,by simpa using a,b⟩
theorem z3o(hc:X.calm=true):z3k X (.type "set") (fun xs H Q=>∃p zs,xs=[.ref p]/\(SqL X.K H p (zs.map V.str)\/SqT X.K H p (zs.map V.str))/\zs.length≤1000/\∀l,H l=none->Q (.ref l) (upd H l (R5 X.prog X.w l zs))):=by
 intro pins s σ H xs us Q I r h
 obtain⟨p,zs,rfl,hq,hl,q⟩:=h
 obtain⟨u,rfl,rx⟩:=z4N r
 cases rx
 have go:∀(T:String) (o:Obj) (its:List Value) (c0:Nat),s.heap.get? p=some o->o.cls=.type T->o.data=.seq its.toArray c0->(T="list"\/T="tuple")->Vals (zs.map V.str) its->wpAny (model X.prog X.w) X.A (call (.type "set") [.ref p]) (EP X pins σ Q) X.xe s:=
  fun T o its c0 ho hcl hda hT rv=>by
   have ln:zs.length=its.length:=by have:=rv.length;rwa [b6] at this
   refine y4A (kd:=strKind X.prog X.w) (ks:=zs) (I.ok.hd hc) ho hcl hda hT (by simpa using ln) (fun i v hv=>?_) (by simp[scanBound];lia) fun h' t sx kp=>?_
   ·obtain⟨k,t,a,rfl⟩:=y1u rv i v (by simpa using hv)
    exact⟨k,a,strKind_is _ _ _ _,rfl⟩
   ·refine⟨.ref s.heap.objs.size,_,I.laid (a:=s.heap.objs.size) (o:=R5 X.prog X.w s.heap.objs.size zs) (h':=h') (t':=t) (fun b u q1=>kp b u (bN q1) q1) (bG _) (R5.new sx),rfl,q _ (I.hok.fresh (bG _))⟩
 rcases hq with hq|hq
 ·obtain⟨its,rv,pl,_⟩:=I.list hq
  obtain⟨o,ho,hcl,n,hda⟩:=pl.isList
  exact go "list" o its n ho hcl hda (.inl rfl) rv
 ·obtain⟨its,rv,pl,_⟩:=I.tuple hq
  obtain⟨o,ho,hcl,n,hda⟩:=pl
  exact go "tuple" o its n ho hcl hda (.inr rfl) rv
theorem z3F:z3k X (.builtin "len") (fun xs H Q=>∃p zs,xs=[.ref p]/\H p=some (R5 X.prog X.w p zs)/\zs.length≤1000/\Q (.int (L6 zs).length) H):=by
 intro pins s σ H xs us Q I r h
 obtain⟨p,zs,rfl,hp,hl,q⟩:=h
 obtain⟨u,rfl,rx⟩:=z4N r
 cases rx
 obtain⟨⟨o,es,ep,t,e1,e2,e3,_,_,_,e4,e5⟩,_⟩:=(show z1o X.prog X.w H s.heap p (R5 X.prog X.w p zs) from I.hok p _ hp)
 have:=y1I zs
 exact PySem.call_len_set e1 e2 e3 e4 (by lia) ⟨.int (L6 zs).length,H,I.tok _,⟨s.toks+1,by rw[e5]⟩,q⟩
end
section
variable{κ:Type}[DecidableEq κ]
noncomputable def M8(kvs:List (κ×V))(k:κ):Option V:=(kvs.find? fun kv=>decide (kv.1=k)).map (·.2)
noncomputable def putK(kvs:List (κ×V))(k:κ)(v:V):List (κ×V):=
 if (kvs.any fun kv=>decide (kv.1=k))=true then kvs.map (fun kv=>if kv.1=k then (kv.1,v) else kv) else kvs++[(k,v)]
theorem z5I{p:κ×V}{r:List (κ×V)}{k:κ}(e:p.1=k):M8 (p::r) k=some p.2:=by simp[M8,dB,e]
theorem z5M{p:κ×V}{r:List (κ×V)}{k:κ}(e:¬p.1=k):M8 (p::r) k=M8 r k:=by simp[M8,dB,e]
theorem z70(k:κ):∀kvs:List (κ×V),(kvs.any fun kv=>decide (kv.1=k))=(M8 kvs k).isSome
 | []=>rfl
 | p::r=>by
  rw[eV]
  by_cases e:p.1=k
  ·simp only[z5I e,decide_eq_true e,Bool.true_or,Option.isSome_some]
  ·rw[z5M e,decide_eq_false e,Bool.false_or];exact z70 k r
theorem z79(kvs:List (κ×V))(k:κ)(v:V):(putK kvs k v).length≤kvs.length+1:=by
 unfold putK
 split
 ·rw[b6];lia
 ·rw[bF,bY,List.length_nil];lia
theorem y4y{kvs:List (κ×V)}{k:κ}(v:V)(h:M8 kvs k=none):putK kvs k v=kvs++[(k,v)]:=by
 unfold putK
 rw[z70,h]
 exact if_neg (by decide)
theorem Q8.T2{o:Option V}{u:Option Value}(r:Q8 o u):o.isSome=u.isSome:=by
 cases o with
 | none=>cases u with
  | none=>rfl
  | some _=>exact(show False from r).elim
 | some _=>cases u with
  | none=>exact(show False from r).elim
  | some _=>rfl
theorem KV.val{kvs:List (κ×V)}{vs:List (κ×Value)}(r:KV kvs vs)(k:κ):Q8 (M8 kvs k) (valueAt vs k):=by
 unfold KV at r
 induction r with
 | nil=>exact True.intro
 | @cons p q ps qs h t ih=>
  obtain⟨h1,h2⟩:=h
  by_cases e:p.1=k
  ·have e':q.1=k:=h1.symm.trans e
   have b:valueAt (q::qs) k=some q.2:=by simp[valueAt,dB,e']
   rw[z5I e,b];exact h2
  ·have e':¬q.1=k:=fun z=>e (h1.trans z)
   have b:valueAt (q::qs) k=valueAt qs k:=by simp[valueAt,dB,e']
   rw[z5M e,b];exact ih
theorem KV.any{kvs:List (κ×V)}{vs:List (κ×Value)}(r:KV kvs vs)(k:κ):(kvs.any fun kv=>decide (kv.1=k))=vs.any fun kv=>decide (kv.1=k):=by
 unfold KV at r
 induction r with
 | nil=>rfl
 | cons h t ih=>rw[eV,eV,ih,h.1]
theorem KV.w0M{kvs:List (κ×V)}{vs:List (κ×Value)}(r:KV kvs vs)(k:κ){y:V}{u:Value}(ry:RelV y u) :
  KV (kvs.map fun kv=>if kv.1=k then (kv.1,y) else kv) (vs.map fun kv=>if kv.1=k then (kv.1,u) else kv):=by
 unfold KV at r ⊢
 induction r with
 | nil=>exact .nil
 | @cons p q ps qs h t ih=>
  rw[cP,cP]
  refine .cons ?_ ih
  obtain⟨h1,h2⟩:=h
  by_cases e:p.1=k
  ·rw[if_pos e,if_pos (h1.symm.trans e)];exact⟨h1,ry⟩
  ·rw[if_neg e,if_neg (fun z=>e (h1.trans z))];exact⟨h1,h2⟩
theorem KV.put{kvs:List (κ×V)}{vs:List (κ×Value)}(r:KV kvs vs)(k:κ){y:V}{u:Value}(ry:RelV y u):KV (putK kvs k y) (stored vs k u):=by
 unfold putK stored
 rw[r.any k]
 by_cases e:(vs.any fun kv=>decide (kv.1=k))=true
 ·rw[if_pos e,if_pos e];exact r.w0M k ry
 ·rw[if_neg e,if_neg e];exact gZ r ⟨rfl,ry⟩
theorem KV.keys{kvs:List (κ×V)}{vs:List (κ×Value)}(r:KV kvs vs):kvs.map (·.1)=vs.map (·.1):=by
 unfold KV at r
 induction r with
 | nil=>rfl
 | cons h t ih=>rw[cP,cP,ih,h.1]
theorem KV.length{kvs:List (κ×V)}{vs:List (κ×Value)}(r:KV kvs vs):kvs.length=vs.length:=Paired.length r
end
theorem y3D{P:Program}{w:World}{k:Key}{u:Value}(r:RelV (kV k) u):(z1v P w).is k u=true:=by
 cases k with
 | inl i=>obtain⟨t,e⟩:=(show ∃t,u=Value.int i t from r);subst e;exact y0I P w i t
 | inr x=>obtain⟨t,e⟩:=(show ∃t,u=Value.str x t from r);subst e;exact y13 P w x t
theorem y0k{P:Program}{w:World}:∀{ks:List Key}{us:List Value},Vals (ks.map kV) us->ItemsAre (z1v P w) ks us
 | [],_,r=>by rw[List.map_nil] at r;cases r;exact .nil
 | k::ks,_,r=>by
  rw[cP] at r
  cases r with
  | cons h t=>exact .cons (y3D h) (y0k t)
abbrev KT(H:Hp):List (List Key×V)->List (List Key×Addr×Value)->Prop:=Paired fun p q=>p.1=q.1/\H q.2.1=some (.tup (p.1.map kV))/\RelV p.2 q.2.2
theorem KT.val{H:Hp}{kvs:List (List Key×V)}{xs:List (List Key×Addr×Value)}(r:KT H kvs xs)(k:List Key):Q8 (M8 kvs k) ((atKey xs k).map (·.2)):=by
 induction r with
 | nil=>exact True.intro
 | @cons p q ps qs h t ih=>
  obtain⟨h1,_,h2⟩:=h
  by_cases e:p.1=k
  ·have e':q.1=k:=h1.symm.trans e
   have b:atKey (q::qs) k=some q.2:=by simp[atKey,dB,e']
   rw[z5I e,b];exact h2
  ·have e':¬q.1=k:=fun z=>e (h1.trans z)
   have b:atKey (q::qs) k=atKey qs k:=by simp[atKey,dB,e']
   rw[z5M e,b];exact ih
theorem KT.w0M{H:Hp}{kvs:List (List Key×V)}{xs:List (List Key×Addr×Value)}(r:KT H kvs xs)(k:List Key){y:V}{u:Value}(ry:RelV y u) :
  KT H (kvs.map fun kv=>if kv.1=k then (kv.1,y) else kv) (xs.map (putAt k u)):=by
 induction r with
 | nil=>exact .nil
 | @cons p q ps qs h t ih=>
  rw[cP,cP]
  refine .cons ?_ ih
  obtain⟨h1,h2,h3⟩:=h
  unfold putAt
  by_cases e:p.1=k
  ·rw[if_pos e,if_pos (h1.symm.trans e)];exact⟨h1,h2,ry⟩
  ·rw[if_neg e,if_neg (fun z=>e (h1.trans z))];exact⟨h1,h2,h3⟩
theorem KT.put{H:Hp}{kvs:List (List Key×V)}{xs:List (List Key×Addr×Value)}(r:KT H kvs xs)(k:List Key){b:Addr}{y:V}{u:Value}(hb:H b=some (.tup (k.map kV)))(ry:RelV y u) :
  KT H (putK kvs k y) (storedH xs k b u):=by
 have e:(kvs.any fun kv=>decide (kv.1=k))=(atKey xs k).isSome:=by
  rw[z70,(r.val k).T2,Option.isSome_map]
 unfold putK storedH
 rw[e]
 by_cases q:(atKey xs k).isSome=true
 ·rw[if_pos q,if_pos q];exact r.w0M k ry
 ·rw[if_neg q,if_neg q];exact gZ r ⟨rfl,hb,ry⟩
theorem KT.keeps{H H':Hp}{kvs:List (List Key×V)}{xs:List (List Key×Addr×Value)}(r:KT H kvs xs)(ht:∀b ys,H b=some (.tup ys)->H' b=some (.tup ys)):KT H' kvs xs:=
 Paired.X0 r fun _ _ z=>⟨z.1,ht _ _ z.2.1,z.2.2⟩
section
variable{P:Program}{w:World}{H:Hp}{h:Heap}{a:Addr}
theorem y7D{u:HO}(ok:HOk P w H h)(e:Rd H a u):z1o P w H h a u:=e.ok ok
theorem y5o{kvs:List (Key×V)}(ok:HOk P w H h)(e:Rd H a (.dK kvs)):kvs.length≤sizeLine/\(a == sysModules)=false/\∃vs,KV kvs vs/\h.DictOf (z1v P w) a vs:=
 show z1o P w H h a (.dK kvs) from y7D ok e
theorem y7u{kvs:List (Key×V)}(ok:HOk P w H h)(e:H a=some (.dK kvs)):kvs.length≤sizeLine/\(a == sysModules)=false/\∃vs,KV kvs vs/\h.DictOf (z1v P w) a vs:=y5o ok (.inl e)
theorem y1m{ks:List Key}(ok:HOk P w H h)(e:H a=some (.tup (ks.map kV))):(tupleKind (z1v P w)).is h ks a:=by
 obtain⟨_,its,r,o,h1,h2,⟨n,h3⟩,_⟩:=(show z1o P w H h a (.tup (ks.map kV)) from ok a _ e)
 exact⟨o,its.toArray,n,h1,h2,h3,by simpa using y0k r⟩
theorem y5k{kvs:List (List Key×V)}(ok:HOk P w H h)(e:Rd H a (.dT kvs)):kvs.length≤sizeLine/\(a == sysModules)=false/\
  ∃xs,KT H kvs xs/\h.DictOfH (tupleKind (z1v P w)) a xs:=by
 obtain⟨z,y,xs,r,o,es,ep,h1,h2,h3,h4,h5⟩:=(show z1o P w H h a (.dT kvs) from y7D ok e)
 refine⟨z,y,xs,r,o,es,ep,h1,h2,h3,h4,fun x hx=>?_,h5⟩
 have all:∀{l:List (List Key×V)}{m:List (List Key×Addr×Value)},KT H l m->∀x∈m,(tupleKind (z1v P w)).is h x.1 x.2.1:=by
  intro l m q
  induction q with
  | nil=>intro x hx;exact nomatch hx
  | @cons p q ps qs hq t ih=>
   intro x hx
   rcases bC.mp hx with e|hx
   ·subst e
    exact y1m ok (by rw[<- hq.1];exact hq.2.1)
   ·exact ih x hx
 exact all r x hx
theorem w1z{kvs:List (List Key×V)}(ok:HOk P w H h)(e:H a=some (.dT kvs)):kvs.length≤sizeLine/\(a == sysModules)=false/\
  ∃xs,KT H kvs xs/\h.DictOfH (tupleKind (z1v P w)) a xs:=y5k ok (.inl e)
end
noncomputable def Q6(H:Hp)(a:Addr)(y:V)(r:Option V):Prop:=
 (∃kvs k,Rd H a (.dK kvs)/\y=kV k/\r=M8 kvs k)\/∃kvs k b,Rd H a (.dT kvs)/\y=.ref b/\H b=some (.tup (k.map kV))/\r=M8 kvs k
noncomputable def w00(H:Hp)(a:Addr)(y v:V)(H':Hp):Prop:=
 (∃kvs k,H a=some (.dK kvs)/\y=kV k/\kvs.length<sizeLine/\H'=upd H a (.dK (putK kvs k v)))\/
 ∃kvs k b,H a=some (.dT kvs)/\y=.ref b/\H b=some (.tup (k.map kV))/\kvs.length<sizeLine/\H'=upd H a (.dT (putK kvs k v))
theorem Q6.k{H:Hp}{a:Addr}{kvs:List (Key×V)}{k:Key}(e:H a=some (.dK kvs)):Q6 H a (kV k) (M8 kvs k):=.inl ⟨kvs,k,.inl e,rfl,rfl⟩
theorem w00.k{H:Hp}{a:Addr}{kvs:List (Key×V)}{k:Key}{v:V}(e:H a=some (.dK kvs))(hl:kvs.length<sizeLine):w00 H a (kV k) v (upd H a (.dK (putK kvs k v))):=.inl ⟨kvs,k,e,rfl,hl,rfl⟩
section
variable{X:Cx}{pins:List (Addr×Obj)}{σ:St}{H:Hp}{s:Shared}{a:Addr}{y v:V}{u r:Value}{o:Option V}{A:Around}{E:Value->Shared->Prop}
theorem Inv.big(I:Inv X pins σ H s):sysModules<s.heap.objs.size:=by
 have h:mainGlobals<s.heap.objs.size:=(I.mod.glob.keeps I.bk).lt
 exact Nat.lt_trans (by decide) h
theorem y4n{Q:Value->Shared->Prop}(hu:A.units+1<cLine)(I:Inv X pins σ H s)(g:Q6 H a y (some v))(ry:RelV y u)(h:∀w' s',Inv X pins σ H s'->RelV v w'->Q w' s') :
  wpAny (model X.prog X.w) A (getItem (.ref a) u) Q E s:=by
 rcases g with ⟨kvs,k,e,ey,l⟩|⟨kvs,k,b,e,ey,eb,l⟩
 ·subst ey
  obtain⟨z,hd,vs,rel,dd⟩:=y5o I.hok e
  obtain⟨w',hw,rw'⟩:=Q8.some_of (v:=v) (o:=valueAt vs k) (by rw[l];exact rel.val k)
  exact wpAny_getItem_of (y3D ry) dd.mapOf hw (h w' _ (I.tok _) rw')
 ·subst ey
  cases (show u=Value.ref b from ry)
  obtain⟨z,hd,xs,rel,dd⟩:=y5k I.hok e
  obtain⟨w',hw,rw'⟩:=Q8.some_of (v:=v) (o:=(atKey xs k).map (·.2)) (by rw[l];exact rel.val k)
  obtain⟨p,hp,hp2⟩:=cS.mp hw
  refine wpAny_getItem_heap (tupleKind_room_in1 hu) (y1m I.hok eb) dd hp ?_
  rw[hp2]
  exact h w' _ (I.tok _) rw'
theorem d_in{Q:Value->Shared->Prop}(hu:A.units+1<cLine)(I:Inv X pins σ H s)(g:Q6 H a y o)(ry:RelV y u)(h:∀s',Inv X pins σ H s'->Q (.bool o.isSome) s') :
  wpAny (model X.prog X.w) A (compareOp .In u (.ref a)) Q E s:=by
 rcases g with ⟨kvs,k,e,ey,l⟩|⟨kvs,k,b,e,ey,eb,l⟩
 ·subst ey
  obtain⟨z,hd,vs,rel,dd⟩:=y5o I.hok e
  refine wpAny_in_of (y3D ry) hd dd.mapOf ?_
  rw[<- (rel.val k).T2,<- l]
  exact h _ (I.tok _)
 ·subst ey
  cases (show u=Value.ref b from ry)
  obtain⟨z,hd,xs,rel,dd⟩:=y5k I.hok e
  refine wpAny_in_heap (tupleKind_room_in1 hu) (y1m I.hok eb) hd dd ?_
  have q:=(rel.val k).T2
  rw[Option.isSome_map] at q
  rw[<- q,<- l]
  exact h _ (I.tok _)
theorem y3z{h':Heap}{t':Nat}{ob:HO}(I:Inv X pins σ H s)(mu:Mut (H a))(hs:Heap.SameBut a s.heap h')(he:∃q,h'.get? a=some q)(new:z1o X.prog X.w (upd H a ob) h' a ob) :
  Inv X pins σ (upd H a ob) { s with heap:=h',toks:=t' }:=
 I.write (x:=a) (e:=a) mu (.inl rfl) (fun b q hb z=>(hs.2 b hb).trans z) he new
theorem y5L{P:Program}{w:World}{H':Hp}{h':Heap}{kvs:List (Key×V)}{vs:List (Key×Value)}(z:kvs.length≤sizeLine)(hd:(a == sysModules)=false)(rel:KV kvs vs)(dd:h'.DictOf (z1v P w) a vs) :
  z1o P w H' h' a (.dK kvs):=⟨z,hd,vs,rel,dd⟩
theorem y3q{H':Hp}{Q:Unit->Shared->Prop}(hu:A.units+1<cLine)(I:Inv X pins σ H s)(g:w00 H a y v H')(ry:RelV y u)(rv:RelV v r)(h:∀s',Inv X pins σ H' s'->Q () s') :
  wpAny (model X.prog X.w) A (setItem (.ref a) u r) Q E s:=by
 rcases g with ⟨kvs,k,e,ey,l,eH⟩|⟨kvs,k,b,e,ey,eb,l,eH⟩
 ·subst ey eH
  obtain⟨z,hd,vs,rel,dd⟩:=y7u I.hok e
  have hz:vs.length≤sizeLine:=by rw[<- rel.length];exact z
  have hl:(putK kvs k v).length≤sizeLine:=by have:=z79 kvs k v;lia
  refine wpAny_setItem_pairs (hsz:=hz) (y3D ry) dd fun h' dd' hs=>h _ ?_
  have he:∃q,h'.get? a=some q:=let ⟨q,_,_,hq,_⟩:=dd';⟨q,hq⟩
  exact y3z I (by rw[e];exact True.intro) hs he (y5L hl hd (rel.put k rv) dd')
 ·subst ey eH
  cases (show u=Value.ref b from ry)
  obtain⟨z,hd,xs,rel,dd⟩:=w1z I.hok e
  have hz:xs.length≤sizeLine:=by rw[<- Paired.length rel];exact z
  have hl:(putK kvs k v).length≤sizeLine:=by have:=z79 kvs k v;lia
  refine wpAny_setItem_heap (hsz:=hz) (tupleKind_room_in1 hu) (y1m I.hok eb) dd fun h' dd' hs=>h _ ?_
  obtain⟨q,es,ep,hq,h2,h3,h4,_,h5⟩:=dd'
  refine y3z I (by rw[e];exact True.intro) hs ⟨q,hq⟩ ⟨hl,hd,_,(rel.put k eb rv).keeps fun c ys ec=>?_,q,es,ep,hq,h2,h3,h4,h5⟩
  rw[z0f (z6U ec e (fun z=>nomatch z))]
  exact ec
end
section
variable{X:Cx}{pins:List (Addr×Obj)}{σ:St}{H:Hp}{s:Shared}{a:Addr}{kvs:List (Key×V)}{k:Key}{u:Value}{A:Around}{E:Value->Shared->Prop}
end
noncomputable def NoSl(i:Expr):Prop:=∀ov iv,subscripted i false ov iv=operate [ov,iv] (getItem ov iv)
theorem y6k{prog:Program}{w:World}{A:Around}{E:Value->Shared->Prop}{s:Shared}{env:Env}{value slice:Expr}{pos:Pos}{T id:String}{Q:Value->Shared->Prop}
  (hl:typeLookup (.type T) "__getitem__"=pure (some (.builtin id))) (hs:NoSl slice)
  (h:wpAny (model prog w) A (eval value env) (fun o s₁=>wpAny (model prog w) A (eval slice env) (fun i s₂=>s₂.TypeIs o T/\wpAny (model prog w) A (getItem o i) Q E s₂) E s₁) E s) :
  wpAny (model prog w) A (eval (.Subscript value slice pos) env) Q E s:=by
 refine Subscript_ (wpAny_mono h (fun o s₁ h₁=>wpAny_mono h₁ (fun i s₂ h₂=>?_) fun _ _ x=>x) fun _ _ x=>x)
 obtain⟨hT,h₂⟩:=h₂
 unfold subscriptTail
 refine wpAny_bind ?_
 rw[getitemInPython_of_ne hT.not_modules]
 refine wpAny_bind (wpAny_specialOf hT hl ?_)
 have fin:wpAny (model prog w) A (subscripted slice false o i) (fun r s₃=>wpAny (model prog w) A (letTemporaryGo value o r >>= fun _=>pure r) Q E s₃) E s₂:=by
  rw[hs o i]
  exact wpAny_operating (wpAny_mono h₂ (fun r s₃ h₃=>wpAny_bind (wpAny_letTemporaryGo (wpAny_pure h₃))) fun _ _ x=>x)
 first
  | exact wpAny_pure (wpAny_bind fin)
  | exact wpAny_bind (wpAny_pure (wpAny_bind fin))
  | exact wpAny_bind fin
theorem y15{X:Cx}{pins:List (Addr×Obj)}{σ:St}{H:Hp}{s:Shared}{a:Addr}{y:V}{o:Option V}(I:Inv X pins σ H s)(g:Q6 H a y o):s.TypeIs (.ref a) "dict":=by
 rcases g with ⟨kvs,k,e,_,_⟩|⟨kvs,k,b,e,_,_,_⟩
 ·obtain⟨_,_,vs,_,dd⟩:=y5o I.hok e
  exact dd.typeIs
 ·obtain⟨_,_,xs,_,dd⟩:=y5k I.hok e
  exact dd.typeIs
noncomputable def w1F(td ty:TE):TE:=fun σ H Q=>td σ H fun x H1=>ty σ H1 fun y H2=>∃a v,x=.ref a/\Q6 H2 a y (some v)/\Q v H2
noncomputable def tDIn(ty td:TE):TE:=fun σ H Q=>ty σ H fun y H1=>td σ H1 fun x H2=>∃a o,x=.ref a/\Q6 H2 a y o/\Q (.bl o.isSome) H2
noncomputable def w26(td ty tv:TE):TS:=fun D σ H=>tv σ H fun v H1=>td σ H1 fun x H2=>ty σ H2 fun y H3=>∃a H4,x=.ref a/\w00 H3 a y v H4/\D.nx σ H4
section
variable{X:Cx}{o i e value:Expr}{pos pos' tpos:Pos}{td ty tv:TE}
theorem z78(hu:X.A.units+1<cLine)(ho:PE X o td)(hi:PE X i ty)(hs:NoSl i):PE X (.Subscript o i pos) (w1F td ty):=by
 intro pins s σ H Q I h
 refine y6k PySem.F.slot_dict_getitem.lookup hs (thn (ho pins s σ H _ I h) fun u s1 ⟨x,H1,I1,rx,q1⟩=>thn (hi pins s1 σ H1 _ I1 q1) fun iv s2 hz=>?_)
 obtain⟨y,H2,I2,ry,a,v,ex,g,q2⟩:=hz
 subst ex
 obtain rfl:u=Value.ref a:=rx
 exact⟨y15 I2 g,y4n hu I2 g ry fun w' s3 I3 rw'=>⟨v,H2,I3,rw',q2⟩⟩
theorem y4i(hu:X.A.units+1<cLine)(hi:PE X i ty)(ho:PE X o td):PC X .In i o (tDIn ty td):=by
 intro pins s σ H Q I h
 refine thn (hi pins s σ H _ I h) fun iv s1 ⟨y,H1,I1,ry,q1⟩=>thn (ho pins s1 σ H1 _ I1 q1) fun u s2 hz=>?_
 obtain⟨x,H2,I2,rx,a,ov,ex,g,q2⟩:=hz
 subst ex
 obtain rfl:u=Value.ref a:=rx
 exact d_in hu I2 g ry fun s3 I3=>⟨.bl ov.isSome,H2,I3,rfl,q2⟩
theorem y5X(hu:X.A.units+1<cLine)(ho:PE X o td)(hi:PE X i ty)(hv:PE X value tv)(hs:swapsWith value (some (.Subscript o i pos')) pos.line X.env=pure false) :
  PS X (.Assign [.Subscript o i pos'] value pos) (w26 td ty tv):=by
 intro pins s σ H D I h
 refine wpAny_Assign_Subscript (thn (hv pins s σ H _ I h) fun r s1 ⟨v,H1,I1,rv,q1⟩=>thn (ho pins s1 σ H1 _ I1 q1) fun u s2 ⟨x,H2,I2,rx,q2⟩=>thn (hi pins s2 σ H2 _ I2 q2) fun iv s3 hz=>?_) hs
 obtain⟨y,H3,I3,ry,a,H4,ex,g,q3⟩:=hz
 subst ex
 obtain rfl:u=Value.ref a:=rx
 exact y3q hu I3 g ry rv fun s4 I4=>⟨σ,H4,I4,q3⟩
end
theorem y4C{P:Program}{w:World}{H:Hp}(h:Heap)(hb:sysModules<h.objs.size):z1o P w H (h.push { cls:=.type "dict",data:=.dict #[] }) h.objs.size (.dK []):=
 ⟨cQ _,beq_eq_false_iff_ne.mpr (cU (cC hb)),[],.nil,Heap.DictOf.new h⟩
noncomputable def y7A:TE:=fun _ H Q=>∀p,H p=none->Q (.ref p) (upd H p (.dK []))
section
variable{X:Cx}{pos:Pos}
theorem y5q:PE X (.Dict [] [] pos) y7A:=fun pins s σ H Q I h=>
 wpAny_Dict_empty ⟨.ref s.heap.objs.size,_,I.laid (a:=s.heap.objs.size) (o:=.dK []) (t':=s.toks) (fun _ _ q=>bB _ q) (bG _) (y4C s.heap I.big),rfl,h _ (I.hok.fresh (bG _))⟩
end
section
variable{X:Cx}{pins:List (Addr×Obj)}{σ:St}{H:Hp}{s:Shared}{a:Addr}{y d:V}{u r:Value}{o:Option V}{A:Around}{E:Value->Shared->Prop}
end
section
variable{X:Cx}{o e f:Expr}{apos N2:Pos}{td ty tx:TE}
end
section
variable{X:Cx}{pins:List (Addr×Obj)}{σ:St}{H:Hp}{s:Shared}{a:Addr}{kvs:List (Key×V)}{A:Around}{E:Value->Shared->Prop}
end
section
variable{X:Cx}{pins:List (Addr×Obj)}{σ:St}{H:Hp}{s:Shared}{a:Addr}{y:V}{u:Value}{A:Around}{E:Value->Shared->Prop}
end
structure D7(P:Program)(w:World)(K:PySem.W.Frag)(mg:Str->Option Value)(base:Heap)(k:Nat)(C:Addr)(m:Str)(ps:List Str)(sp:Sp):Prop where
 cl:Cls K C
 ex:∃(f:Addr) (fd:FuncData),A8 P w K mg base CX0 k f fd ps sp/\z1u K fd ps []/\Meth K C m f
theorem D7.mk'{P:Program}{w:World}{K:PySem.W.Frag}{mg:Str->Option Value}{base:Heap}{k:Nat}{C:Addr}{m:Str}{ps:List Str}{sp:Sp}{f:Addr}{fd:FuncData}(c:Cls K C)(a:A8 P w K mg base CX0 k f fd ps sp)(b:z1u K fd ps [])(d:Meth K C m f) :
  D7 P w K mg base k C m ps sp:=⟨c,f,fd,a,b,d⟩
section
variable{X:Cx}{k:Nat}{C:Addr}{m x:Str}{ps:List Str}{sp:Sp}{o e:Expr}{es:List Expr}{ta:TE}{t:TA}{p pos apos:Pos}{pl:Sem Bool}
theorem z1W(G:D7 X.prog X.w X.K X.mg X.base k C m ps sp)(hr:E3 k X.A)(he:PE X o ta)(ha:PA X (e::es) t)
  (hst:starEach (e::es) X.env=(false,eval e X.env)::starEach es X.env:=by rfl) (hpl:(backTo pos (starEach es X.env)).any (·.1)=false:=by rfl)
  (ht:eval (.Call (.Attribute o m apos) (e::es) [] pos) X.env=(do
   let ov <- eval o X.env
   standAt apos.atName
   let (f,first) <- holding [ov] (getMethod ov m pl)
   callWith pos f first (backTo pos (starEach (e::es) X.env)) (backToKw pos (keywordEach [] X.env))):=by rfl) :
  PE X (.Call (.Attribute o m apos) (e::es) [] pos) (y4L C m sp [] E0 ta t):=by
 obtain⟨f,fd,a,b,d⟩:=G.ex
 exact y6z he G.cl d a hr b .nil y4M ha hst hpl ht
theorem z2s(G:D7 X.prog X.w X.K X.mg X.base k C m ps sp)(hr:E3 k X.A)(he:PE X o ta)
  (ht:eval (.Call (.Attribute o m apos) [] [] pos) X.env=(do
   let ov <- eval o X.env
   standAt apos.atName
   let (f,first) <- holding [ov] (getMethod ov m pl)
   callWith pos f first (backTo pos (starEach [] X.env)) (backToKw pos (keywordEach [] X.env))):=by rfl) :
  PE X (.Call (.Attribute o m apos) [] [] pos) (y4L C m sp [] E0 ta Z3):=by
 obtain⟨f,fd,a,b,d⟩:=G.ex
 exact y5l he G.cl d a hr b .nil y4M ht
end
structure Mkr(P:Program)(w:World)(K:PySem.W.Frag)(mg:Str->Option Value)(base:Heap)(k:Nat)(C:Addr)(x:Str)(ps:List Str)(sp:Sp):Prop where
 ex:∃(f:Addr) (fd:FuncData),A8 P w K mg base CX0 k f fd ps sp/\z1u K fd ps []/\Mk K C f/\mg x=some (.ref C)
theorem Mkr.mk'{P:Program}{w:World}{K:PySem.W.Frag}{mg:Str->Option Value}{base:Heap}{k:Nat}{C:Addr}{x:Str}{ps:List Str}{sp:Sp}{f:Addr}{fd:FuncData}(a:A8 P w K mg base CX0 k f fd ps sp)(b:z1u K fd ps [])(c:Mk K C f)(d:mg x=some (.ref C)) :
  Mkr P w K mg base k C x ps sp:=⟨f,fd,a,b,c,d⟩
section
variable{X:Cx}{k:Nat}{C:Addr}{m x:Str}{ps:List Str}{sp:Sp}{o e:Expr}{es:List Expr}{ta:TE}{t:TA}{p pos apos:Pos}
theorem y3G(G:Mkr X.prog X.w X.K X.mg X.base k C x ps sp)(hr:E3 (k+1) X.A)(hg:Gl X x)(ha:PA X (e::es) t)
  (hdb:(x == ("__debug__":Str))=false:=by decide) (he:starEach (e::es) X.env=(false,eval e X.env)::starEach es X.env:=by rfl) (hpl:(backTo pos (starEach es X.env)).any (·.1)=false:=by rfl) :
  PE X (.Call (.Name x p) (e::es) [] pos) (y71 C sp [] E0 t):=by
 obtain⟨f,fd,a,b,c,d⟩:=G.ex
 exact y64 c a hr hg d b .nil y4M ha hdb he hpl
theorem z1c{n:Int}(hg:Gl X x)(hm:∃t,X.mg x=some (.int n t))(hd:(x == ("__debug__":Str))=false:=by decide):PE X (.Name x pos) (tC (.int n)):=by
 obtain⟨t,e⟩:=hm
 exact y2V hg e ⟨t,rfl⟩ hd
end
noncomputable def y5C(K:PySem.W.Frag):List V->Hp->VK->Prop:=fun xs H Q=>∃p ys,xs=[.ref p]/\((SqL K H p ys/\∀l,H l=none->Q (.ref l) (upd H l (.tup ys)))\/(SqT K H p ys/\Q (.ref p) H))
noncomputable def y7k(K:PySem.W.Frag):List V->Hp->VK->Prop:=fun xs H Q=>∃p ys,xs=[.ref p]/\(SqL K H p ys\/SqT K H p ys)/\∀l,H l=none->Q (.ref l) (upd H l (.lst ys))
section
variable{X:Cx}{K:PySem.W.Frag}
theorem z88(h:X.K=K):z3k X (.type "tuple") (y5C K):=by
 subst h
 exact z0p
theorem z8V(h:X.K=K):z3k X (.type "list") (y7k K):=by
 subst h
 exact z4k
end
section
variable{X:Cx}
noncomputable def y7q(K:PySem.W.Frag)(le:Int->Int->Prop):List V->Hp->VK->Prop:=fun xs H Q=>∃p ns,xs=[.ref p]/\SqI K H p ns/\ns≠[]/\∀m,m∈ns->(∀y∈ns,le y m)->Q (.int m) H
theorem y43(hc:X.calm=true):z3k X (.builtin "max") (y7q X.K fun y m=>y≤m):=by
 intro pins s σ H xs us Q I r h
 obtain⟨a,ns,rfl,hq,hn,q⟩:=h
 obtain⟨u,rfl,ru⟩:=z4N r
 cases ru
 refine call_max_walk (z5u (A:=X.A.in1) I (I.ok.hd hc) hq fun it fp St its s3 rv W st hfp back=>?_)
 have hl:=rv.length
 rw[b6] at hl
 have h0:0<its.length:=by
  rw[<- hl]
  exact gT.mpr hn
 refine⟨it,fp,[it],_,_,St,_,rfl,W,st,hfp,by rw[bE];exact h0,CmpOf.ints_gt (fun i=>ns.getD i 0) (z38 rv),fun v h' tk hv k=>?_⟩
 rw[bE] at hv
 obtain⟨t,rfl⟩:=z38 rv _ _ hv
 obtain⟨b1,b2⟩:=z98 (fun i=>ns.getD i 0) (its.length-1)
 refine⟨.int _,H,back h' tk k,⟨t,rfl⟩,q _ (z77 (by lia)) fun y hy=>?_⟩
 obtain⟨i,hi,rfl⟩:=z71 hy
 exact b2 i (by lia)
theorem y0u(hc:X.calm=true):z3k X (.builtin "min") (y7q X.K fun y m=>m≤y):=by
 intro pins s σ H xs us Q I r h
 obtain⟨a,ns,rfl,hq,hn,q⟩:=h
 obtain⟨u,rfl,ru⟩:=z4N r
 cases ru
 refine call_min_walk (z5u (A:=X.A.in1) I (I.ok.hd hc) hq fun it fp St its s3 rv W st hfp back=>?_)
 have hl:=rv.length
 rw[b6] at hl
 have h0:0<its.length:=by
  rw[<- hl]
  exact gT.mpr hn
 refine⟨it,fp,[it],_,_,St,_,rfl,W,st,hfp,by rw[bE];exact h0,CmpOf.ints_lt (fun i=>ns.getD i 0) (z38 rv),fun v h' tk hv k=>?_⟩
 rw[bE] at hv
 obtain⟨t,rfl⟩:=z38 rv _ _ hv
 obtain⟨b1,b2⟩:=z9A (fun i=>ns.getD i 0) (its.length-1)
 refine⟨.int _,H,back h' tk k,⟨t,rfl⟩,q _ (z77 (by lia)) fun y hy=>?_⟩
 obtain⟨i,hi,rfl⟩:=z71 hy
 exact b2 i (by lia)
theorem y78(hu:X.A.units<cLine):OpR X (compareOp .Eq) (fun x y H Q=>∃a b xs,x=.ref a/\y=.ref b/\SqL X.K H a xs/\SqL X.K H b []/\Q (.bl xs.isEmpty) H):=by
 intro pins s σ H x y v u Q I rx ry h
 obtain⟨a,b,xs,rfl,rfl,ha,hb,q⟩:=h
 cases rx
 cases ry
 obtain⟨its,r,pl,hz⟩:=I.list ha
 obtain⟨N1,r2,pl2,hz2⟩:=I.list hb
 cases r2
 have hl:=r.length
 cases xs with
 | nil=>
  cases r
  exact SeqAt.RcAt.lists (e:=fun _=>true) pl.isList pl2.isList rfl hu (fun j h1 _=>absurd h1 (fR _)) X.prog X.w X.xe _ ⟨.bl true,H,I,rfl,q⟩
 | cons x0 xr=>
  refine SeqAt.RcAt.lists_lengths pl.isList pl2.isList ?_ hu X.prog X.w X.xe _ ⟨.bl false,H,I,rfl,q⟩
  rw[bE,<- hl]
  rfl
end
end L2
namespace L2
open PySem
section
variable{prog:Program}{w:World}{A:Around}{E:Value->Shared->Prop}{s:Shared}{κ:Type}[DecidableEq κ]{kd:KeyKind prog w κ}{led:Bool}
end
end L2
namespace L2
open PySem PySem.Spec PyProof.Rows
namespace Ty
end Ty
section
variable{prog:Program}{w:World}{A:Around}{E:Value->Shared->Prop}{s:Shared}
end
namespace Ty
end Ty
section
variable{prog:Program}{w:World}{A:Around}{E:Value->Shared->Prop}{s:Shared}{κ:Type}[DecidableEq κ]{kd:KeyKind prog w κ}
end
section
variable{X:Cx}
end
theorem z2w:Slot "reversed" "__next__" "reversed.__next__":=
 .of (owner:="reversed") (n:="__next__") (by rw[typeLookup_type,builtinLookup_eq_fast];kernel_rfl) (by decide +kernel) (by decide +kernel) (by decide +kernel) (by first|exact .inl (by decide +kernel)|exact .inr (by decide +kernel)) (by rw[isSubtype_type];kernel_rfl)
theorem z6C:Slot "reversed" "__iter__" "reversed.__iter__":=
 .of (owner:="reversed") (n:="__iter__") (by rw[typeLookup_type,builtinLookup_eq_fast];kernel_rfl) (by decide +kernel) (by decide +kernel) (by decide +kernel) (by first|exact .inl (by decide +kernel)|exact .inr (by decide +kernel)) (by rw[isSubtype_type];kernel_rfl)
theorem z9Y:Slot "reversed" "__init__" "object.__init__":=
 .of (owner:="object") (n:="__init__") (by rw[typeLookup_type,builtinLookup_eq_fast];kernel_rfl) (by decide +kernel) (by decide +kernel) (by decide +kernel) (by first|exact .inl (by decide +kernel)|exact .inr (by decide +kernel)) (by rw[isSubtype_type];kernel_rfl)
theorem z5O:entryFor table "reversed.__next__"=some Builtin.«reversed.__next__»:=entryFor_of_tree (by kernel_rfl)
theorem z8N:entryFor table "reversed.__iter__"=some Builtin.«dict_keyiterator.__iter__»:=entryFor_alias (id':="dict_keyiterator.__iter__") (by kernel_rfl) (by first|rfl|decide +kernel|(unfold String.splitOn;simp +decide [String.splitOnAux])) (by decide +kernel) (by kernel_rfl)
theorem z6D(a:Value):argsOk "reversed.__next__" ⟨[a],[]⟩:=by unfold argsOk;kernel_rfl
theorem z9E(a:Value):argsOk "reversed.__iter__" ⟨[a],[]⟩:=by unfold argsOk;kernel_rfl
theorem z7D:TypeCalled "reversed" "reversed.__new__" "object.__init__":=
 ⟨by decide +kernel,by decide +kernel,⟨_,_,PySem.F.mro_reversed⟩,PySem.F.made_reversed,by decide +kernel,PySem.F.sub_reversed_self,z9Y⟩
theorem z9e:typeLookup (.type "tuple") "__reversed__"=pure none:=by rw[typeLookup_type,builtinLookup_eq_fast];kernel_rfl
theorem y2l:isSubtype (.type "tuple") (.type "dict")=pure false:=by rw[isSubtype_type];kernel_rfl
abbrev z9b(t:Addr)(i:Int):Obj:={ cls:=.type "reversed",dict:=none,data:=.fields #[.ref t,rawInt i],slots:=#[] }
section
variable{prog:Program}{w:World}{A:Around}{E:Value->Shared->Prop}{s:Shared}
theorem y0L{t:Addr}{items:Array Value}{Q:Value->Shared->Prop}(ht:IsTup s.heap t items)(hf:(items.size:Int)<2^63)(h:∀tk,Q (.ref s.heap.objs.size) { s with heap:=s.heap.push (z9b t ((items.size:Int)-1)),toks:=tk }) :
  codeAny (model prog w) A (.call (.builtin "reversed.__new__") ⟨[.type "reversed",.ref t],[]⟩) (wants Q E) s:=by
 refine codeAny_of_tree ?_
 show wpAny _ A.in1 (do checkBuiltinCall "reversed.__new__" ⟨[.type "reversed",.ref t],[]⟩;again (.builtin "reversed.__new__" ⟨[.type "reversed",.ref t],[]⟩)) _ _ s
 refine wpAny_bind (wpAny_of_eq (PySem.F.newCall_reversed_1 _) (wpAny_pure ⟨plainId_quiet PySem.F.plain_reversed_new _,codeAny_builtin PySem.F.entry_reversed_new ?_⟩))
 rw[cH PySem.F.plain_reversed_new _]
 unfold Builtin.«reversed.__new__»
 refine wpAny_bind (wpAny_of_eq (newClass_reversed _) ?_)
 try dsimp only
 refine wpAny_bind (wpAny_of_eq (a:=()) (by first|rfl|kernel_rfl) ?_)
 refine wpAny_bind (wpAny_of_eq (a:=()) (by first|rfl|kernel_rfl) ?_)
 try dsimp only
 refine wpAny_bind (wpAny_specialOf ht.typeIs z9e ?_)
 try dsimp only
 refine wpAny_bind ?_
 show wpAny _ _ (isInstance (.ref t) (.type "dict") >>= fun b=>_) _ _ _
 refine wpAny_bind (wpAny_isInstance (T:="tuple") ht.typeIs y2l ?_)
 rw[if_neg (by decide)]
 refine wpAny_bind (wpAny_specialOf ht.typeIs slot_tuple_getitem.lookup ?_)
 dsimp only
 rw[if_pos (by decide +kernel)]
 refine wpAny_pure ?_
 rw[if_neg (by decide)]
 refine wpAny_bind (len_tuple ht hf ?_)
 refine wpAny_bind (wpAny_of_eq (a:=some (items.size:Int)) rfl ?_)
 dsimp only
 refine wpAny_bind ?_
 show wpAny _ _ (newObj (.type "reversed") (.fields #[.ref t,rawInt ((items.size:Int)-1)])) _ _ _
 exact wpAny_newObj_type (wpAny_pure (h _)) (by size_fits)
theorem y66{t:Addr}{items:Array Value}{Q:Value->Shared->Prop}(ht:IsTup s.heap t items)(hf:(items.size:Int)<2^63)(h:∀tk,Q (.ref s.heap.objs.size) { s with heap:=s.heap.push (z9b t ((items.size:Int)-1)),toks:=tk }) :
  wpAny (model prog w) A (call (.type "reversed") [.ref t]) Q E s:=by
 refine callType_codes (Q₁:=fun obj s₁=>obj=.ref s.heap.objs.size/\∃tk,s₁={ s with heap:=s.heap.push (z9b t ((items.size:Int)-1)),toks:=tk }) z7D (PySem.F.typeCall_reversed_1 _) F.entry_object_init (y0L ht hf fun tk=>⟨rfl,tk,rfl⟩) ?_
 rintro obj s₁ ⟨rfl,tk,rfl⟩
 have ty:Shared.TypeIs { s with heap:=s.heap.push (z9b t ((items.size:Int)-1)),toks:=tk } (.ref s.heap.objs.size) "reversed":=⟨_,bK _ rfl,rfl⟩
 exact⟨ty,F.args_object_init_2 _ _,object_init_meets z7D.init.lookup z7D.made (by decide) _ _ _ _ _ ⟨ty,rfl,h tk⟩⟩
theorem y6G{I t:Addr}{i:Nat}{items:Array Value}{x:Value}{Q:Option Value->Shared->Prop}(hI:s.heap.get? I=some (z9b t (i:Int)))(ht:IsTup s.heap t items)(hx:items[i]? = some x)(hz:(items.size:Int)<2^63)
  (hQ:∀h' tk,h'.get? I=some (z9b t ((i:Int)-1))->Heap.SameBut I s.heap h'->Q (some x) { s with heap:=h',toks:=tk }):wpAny (model prog w) A (pyNext (.ref I)) Q E s:=by
 have ty:s.TypeIs (.ref I) "reversed":=⟨_,hI,rfl⟩
 have hi:i<items.size:=(Array.getElem?_eq_some_iff.mp hx).1
 unfold pyNext
 refine wpAny_bind (wpAny_attempt (wpAny_callSpecial?_slot (name:=Str.ofString "__next__") ty z2w
  (wpAny_call_entry z2w ty z5O ?_ (z6D _))))
 unfold Builtin.«reversed.__next__»
 refine wpAny_bind (wpAny_of_eq (a:=(Value.ref I,[])) rfl ?_)
 try dsimp only
 refine wpAny_bind (wpAny_field hI rfl (x:=.ref t) rfl ?_)
 refine wpAny_bind (wpAny_field hI rfl (x:=rawInt (i:Int)) rfl ?_)
 show wpAny _ _ (if (i:Int)<0 then _ else _) _ _ s
 rw[if_neg (by lia)]
 refine wpAny_bind (wpAny_specialOf ht.typeIs slot_tuple_getitem.lookup ?_)
 rw[if_neg (by decide)]
 refine wpAny_bind (wpAny_mkInt ?_)
 refine wpAny_bind (wpAny_attempt (getItem_tuple (j:=i) (x:=x) ht (by lia) (by lia) ?_ hx ?_))
 ·exact seqIndex_of (by lia) (by lia)
 dsimp only
 refine wpAny_bind (wpAny_field hI rfl (x:=rawInt (i:Int)) rfl ?_)
 show wpAny _ _ (setField (.ref I) 1 (rawInt ((i:Int)-1)) >>= _) _ _ _
 refine wpAny_bind (wpAny_setField hI rfl (by simp) ?_)
 refine wpAny_pure ⟨x,rfl,wpAny_pure (hQ _ _ ?_ (gU ..))⟩
 exact d7 _ hI rfl
theorem y7c{I t:Addr}{Q:Option Value->Shared->Prop}(hh:A.handled=none)(hI:s.heap.get? I=some (z9b t (-1)))
  (hQ:∀h',Heap.ExtBut I s.heap h'->Q none { s with heap:=h' }):wpAny (model prog w) A (pyNext (.ref I)) Q E s:=by
 have ty:s.TypeIs (.ref I) "reversed":=⟨_,hI,rfl⟩
 unfold pyNext
 refine wpAny_bind (wpAny_attempt (wpAny_callSpecial?_slot (name:=Str.ofString "__next__") ty z2w
  (wpAny_call_entry z2w ty z5O ?_ (z6D _))))
 unfold Builtin.«reversed.__next__»
 refine wpAny_bind (wpAny_of_eq (a:=(Value.ref I,[])) rfl ?_)
 try dsimp only
 refine wpAny_bind (wpAny_field hI rfl (x:=.ref t) rfl ?_)
 refine wpAny_bind (wpAny_field hI rfl (x:=rawInt (-1)) rfl ?_)
 show wpAny _ _ (if (-1:Int)<0 then _ else _) _ _ s
 rw[if_pos (by decide)]
 refine wpAny_bind (wpAny_rule ?_)
 refine wpAny_bind ?_
 show wpAny _ _ (setField (.ref I) 1 (rawInt (-1)) >>= fun _=>setField (.ref I) 0 .none) _ _ _
 refine wpAny_bind (wpAny_setField hI rfl (by simp) ?_)
 have g1:=d7 (Obj.mapFields (·.setIfInBounds 1 (rawInt (-1)))) hI rfl
 have b1:Heap.SameBut I s.heap (s.heap.update I (Obj.mapFields (·.setIfInBounds 1 (rawInt (-1))))):=gU ..
 refine wpAny_setField (vs:=#[.ref t,rawInt (-1)]) g1 rfl (by simp) ?_
 have b2:Heap.SameBut I (s.heap.update I (Obj.mapFields (·.setIfInBounds 1 (rawInt (-1))))) ((s.heap.update I (Obj.mapFields (·.setIfInBounds 1 (rawInt (-1))))).update I (Obj.mapFields (·.setIfInBounds 0 .none))):=gU ..
 refine wpAny_bind ?_
 unfold Builtin.SmallTypes.stopIteration
 refine wpAny_bind ?_
 simp only[newExc,newTuple]
 refine wpAny_bind (wpAny_newObj_type ?_ (by size_fits))
 refine wpAny_bind (m:=firstArgMember _ _) (wpAny_of_eq (a:=Value.none) (by first|rfl|(simp only[firstArgMember];rfl)) (wpAny_newObj_type ?_ (by size_fits)))
 simp only[raiseNew]
 refine wpAny_bind (wpAny_handled ?_)
 rw[show A.in1.handled=none from hh]
 refine wpAny_bind (wpAny_pure (wpAny_throw ?_))
 refine wpAny_bind (wpAny_isInstance (T:="StopIteration") (b:=true) ⟨_,bK _ rfl,rfl⟩ isSubtype_stop ?_)
 exact wpAny_pure (hQ _ fun b o hb e=>bB _ (bB _ ((b2.2 b hb).trans ((b1.2 b hb).trans e))))
theorem y3j{I t:Addr}{i:Int}{Q:Value->Shared->Prop}(hI:s.heap.get? I=some (z9b t i))(h:Q (.ref I) s):wpAny (model prog w) A (pyIter (.ref I)) Q E s:=by
 have ty:s.TypeIs (.ref I) "reversed":=⟨_,hI,rfl⟩
 refine wpAny_pyIter_slot ty z6C (wpAny_call_entry z6C ty z8N ?_ (z9E _))
 show wpAny _ _ (ret (.ref I)) _ _ s
 exact wpAny_pure ⟨_,rfl,"reversed",_,ty,z2w.lookup,h⟩
end
noncomputable def Itv(K:PySem.W.Frag)(a:Addr)(n:Nat):It:=
 ⟨fun i H=>i<n/\∃xs,SqT K H a xs/\xs.length=n,fun i H x H'=>H'=H/\∀xs,SqT K H a xs->xs.reverse[i]? = some x,fun i H=>n≤i⟩
theorem y53{P:Program}{w:World}{K:PySem.W.Frag}{tg:Expr}(a it:Addr)(n:Nat):Turn P w K tg (Itv K a n) [it] it (fun i h=>i≤n/\h.get? it=some (z9b a ((n:Int)-1-(i:Int)))) where
 mem:=by simp
 obj:=fun i h st b hb=>by
  have e:b=it:=by simpa using hb
  subst e
  exact⟨_,st.2,fun v z=>by
   have z':Data.fields _=Data.cell v:=z
   cases z'⟩
 keep:=fun i h h' st k=>⟨st.1,k it (by simp) _ st.2⟩
 item:=by
  intro X hP hw hK hc i pins s σ H E I hf st hg
  subst hP hw hK
  obtain⟨hi,xs,hq,hn⟩:=hg
  obtain⟨its,rv,p,hz⟩:=I.tuple hq
  have ln:xs.length=its.length:=rv.length
  have hk:n-1-i<xs.length:=by lia
  obtain⟨u,hu,ru⟩:=rv.get (bH hk)
  obtain⟨f0,f1,f2,f3,f4,f5⟩:=hf it (by simp)
  have e1:(n:Int)-1-(i:Int)=((n-1-i:Nat):Int):=by lia
  have st1:=st.2
  rw[e1] at st1
  refine y6G st1 (show IsTup s.heap a its.toArray from p) (x:=u) (by simpa using hu) ?_ fun h' tk st' sb=>?_
  ·have:its.toArray.size=xs.length:=by simp[ln]
   rw[this]
   have:=dR hz z5K
   lia
  have I1:Inv X pins σ H { s with heap:=h',toks:=tk }:=I.turned (t':=tk) (fun b o hb e=>(sb.2 b hb).trans e) f0 f1 f3 f4 f5
  refine⟨u,rfl,y2E (s:={ s with heap:=h',toks:=tk }) st' rfl rfl (by decide) ⟨xs[n-1-i],H,I1,ru,⟨rfl,fun ys hy=>?_⟩,⟨hi,?_⟩,fun b hb=>(hf b hb).1⟩⟩
  ·rw[I.V2 hy hq,List.getElem?_reverse (by lia),bH (by lia)]
   congr 2
   lia
  ·have e2:(n:Int)-1-((i+1:Nat):Int)=((n-1-i:Nat):Int)-1:=by lia
   rw[e2]
   exact st'
 done:=by
  intro X hP hw hK hc i pins s σ H E I hf st hg
  subst hP hw hK
  obtain⟨f0,f1,f2,f3,f4,f5⟩:=hf it (by simp)
  have hg':n≤i:=hg
  have st1:=st.2
  rw[show(n:Int)-1-(i:Int)=-1 by have:=st.1;lia] at st1
  exact y7c (I.ok.hd hc) st1 fun h' eb=>⟨rfl,I.turned (t':=s.toks) (fun b o hb e=>eb b o hb e) f0 f1 f3 f4 f5⟩
 self:=fun _ _ _ _ _ st h=>y3j st.2 h
section
variable{X:Cx}{tg:Expr}
noncomputable def iRev(K:PySem.W.Frag)(ta:TA):TI:=fun σ H R=>ta σ H fun vs H1=>∃a xs,vs=[.ref a]/\SqT K H1 a xs/\R (Itv K a xs.length) H1
theorem y5H{e:Expr}{ta:TA}{p pos:Pos}(hg:Gl X "reversed")(hm:X.mg "reversed"=none)(ha:PA X [e] ta)(hs:starEach [e] X.env=[(false,eval e X.env)]:=by rfl):PI X tg (.Call (.Name "reversed" p) [e] [] pos) (iRev X.K ta):=by
 intro pins s σ H R I h
 refine Call_ (z5N I hg hm boot_reversed (dI (thn (ha pos pins s σ H _ I h) fun us s1 ⟨vs,H1,I1,r1,q1⟩=>?_) hs rfl))
 obtain⟨a,xs,e,hq,q⟩:=q1
 subst e
 cases r1 with
 | cons r rr=>
  cases rr
  cases r
  obtain⟨its,rv,p,hz⟩:=I1.tuple hq
  have ln:(its.toArray.size:Int)=xs.length:=by simp[rv.length]
  refine y66 (show IsTup s1.heap a its.toArray from p) ?_ fun tk=>?_
  ·rw[ln]
   have:=dR hz z5K
   lia
  refine y3j (bK _ rfl) ?_
  refine⟨s1.heap.objs.size,[s1.heap.objs.size],_,_,H1,rfl,I1.kept (t':=tk) fun b o e=>bB _ e,y53 a _ xs.length,⟨cQ _,?_⟩,fun b hb=>?_,q⟩
  ·rw[show(xs.length:Int)-1-((0:Nat):Int)=(its.toArray.size:Int)-1 by rw[ln];simp]
   exact bK _ rfl
  ·have e:b=s1.heap.objs.size:=by simpa using hb
   subst e
   exact I1.V7 (bG _) (I1.hok.fresh (bG _))
end
theorem y4S{K:PySem.W.Frag}{a:Addr}{xs:List V}{g:TG}{tc:TT}{te:TE}{σ0:St}{H1:Hp}{F:List V->Hp->Prop}(Pv:Nat->List V->Hp->Prop)(h0:Pv 0 [] H1)
  (hl:∀i ys H,i≤xs.length->Pv i ys H->SqT K H a xs/\ys.length<sizeLine)
  (hs:∀i x ys H,xs.reverse[i]? = some x->Pv i ys H->z1D g tc te σ0 x H ys (Pv (i+1))) (hd:∀ys H,Pv xs.length ys H->F ys H):y0r (Itv K a xs.length) g tc te σ0 H1 F:=by
 refine⟨fun i m ys H=>m=xs.length-i/\i≤xs.length/\Pv i ys H,⟨xs.length,by simp,cQ _,h0⟩,?_⟩
 rintro i m ys H ⟨rfl,hi,p⟩
 obtain⟨q,z⟩:=hl i ys H hi p
 by_cases hlt:i<xs.length
 ·refine .inr ⟨⟨hlt,xs,q,rfl⟩,z,Pv (i+1),fun zs H' p'=>⟨xs.length-(i+1),by lia,rfl,hlt,p'⟩,fun x H' y=>?_⟩
  obtain⟨e,y⟩:=y
  subst e
  exact hs i x ys _ (y xs q) p
 ·have e:i=xs.length:=by lia
  subst e
  exact .inl ⟨bG _,hd ys H p⟩
theorem y6j{K:PySem.W.Frag}{a:Addr}{xs:List V}{g:TG}{tb:TS}{D:Ends}{σ:St}{H:Hp}(Pv:Nat->St->Hp->Prop)(h0:Pv 0 σ H)(hl:∀i σ H,i≤xs.length->Pv i σ H->SqT K H a xs)
  (hs:∀i x σ H,xs.reverse[i]? = some x->Pv i σ H->g x σ H fun σ2 H2=>tb { D with nx:=Pv (i+1),ct:=Pv (i+1),bk:=D.nx } σ2 H2) (hd:∀σ H,Pv xs.length σ H->D.nx σ H) :
  ∃W:Nat->Nat->St->Hp->Prop,(∃m,W 0 m σ H)/\∀i m σ H,W i m σ H->
   ((Itv K a xs.length).stop i H/\D.nx σ H)\/((Itv K a xs.length).go i H/\∃N:St->Hp->Prop,(∀σ' H',N σ' H'->∃m',m'<m/\W (i+1) m' σ' H')/\∀x H',(Itv K a xs.length).yld i H x H'->g x σ H' fun σ2 H2=>tb { D with nx:=N,ct:=N,bk:=D.nx } σ2 H2):=by
 refine⟨fun i m σ H=>m=xs.length-i/\i≤xs.length/\Pv i σ H,⟨xs.length,by simp,cQ _,h0⟩,?_⟩
 rintro i m σ H ⟨rfl,hi',p⟩
 have q:=hl i σ H hi' p
 by_cases hlt:i<xs.length
 ·refine .inr ⟨⟨hlt,xs,q,rfl⟩,Pv (i+1),fun σ' H' p'=>⟨xs.length-(i+1),by lia,rfl,hlt,p'⟩,fun x H' y=>?_⟩
  obtain⟨e,y⟩:=y
  subst e
  exact hs i x σ _ (y xs q) p
 ·have e:i=xs.length:=by lia
  subst e
  exact .inl ⟨bG _,hd σ H p⟩
theorem len0{us:List Value}{p:List Value->Prop}(h:us.length=0)(k:p []):p us:=by rw[dF h];exact k
theorem Z5{us:List Value}{p:List Value->Prop}(h:us.length=1)(k:∀a,p [a]):p us:=by
 obtain⟨a,r,rfl⟩:=cW h
 exact len0 (p:=fun r=>p (a::r)) (Nat.succ.inj h) (k a)
theorem w1e{us:List Value}{p:List Value->Prop}(h:us.length=2)(k:∀a b,p [a,b]):p us:=by
 obtain⟨a,r,rfl⟩:=cW h
 exact Z5 (p:=fun r=>p (a::r)) (Nat.succ.inj h) (k a)
theorem w15{us:List Value}{p:List Value->Prop}(h:us.length=3)(k:∀a b c,p [a,b,c]):p us:=by
 obtain⟨a,r,rfl⟩:=cW h
 exact w1e (p:=fun r=>p (a::r)) (Nat.succ.inj h) (k a)
theorem len4{us:List Value}{p:List Value->Prop}(h:us.length=4)(k:∀a b c d,p [a,b,c,d]):p us:=by
 obtain⟨a,r,rfl⟩:=cW h
 exact w15 (p:=fun r=>p (a::r)) (Nat.succ.inj h) (k a)
theorem len5{us:List Value}{p:List Value->Prop}(h:us.length=5)(k:∀a b c d e,p [a,b,c,d,e]):p us:=by
 obtain⟨a,r,rfl⟩:=cW h
 exact len4 (p:=fun r=>p (a::r)) (Nat.succ.inj h) (k a)
theorem Cal.mono{P:Program}{w:World}{K:PySem.W.Frag}{mg:Str->Option Value}{base:Heap}{j k:Nat}{x:Str}{ps:List Str}{sp:Sp}(G:Cal P w K mg base j x ps sp)(h:j≤k):Cal P w K mg base k x ps sp:=by
 obtain⟨f,fd,a,b,c,d⟩:=G.ex
 exact⟨f,fd,a.mono h,b,c,d⟩
theorem D7.mono{P:Program}{w:World}{K:PySem.W.Frag}{mg:Str->Option Value}{base:Heap}{j k:Nat}{C:Addr}{m:Str}{ps:List Str}{sp:Sp}(G:D7 P w K mg base j C m ps sp)(h:j≤k):D7 P w K mg base k C m ps sp:=by
 obtain⟨f,fd,a,b,c⟩:=G.ex
 exact⟨G.cl,f,fd,a.mono h,b,c⟩
theorem Mkr.mono{P:Program}{w:World}{K:PySem.W.Frag}{mg:Str->Option Value}{base:Heap}{j k:Nat}{C:Addr}{x:Str}{ps:List Str}{sp:Sp}(G:Mkr P w K mg base j C x ps sp)(h:j≤k):Mkr P w K mg base k C x ps sp:=by
 obtain⟨f,fd,a,b,c,d⟩:=G.ex
 exact⟨f,fd,a.mono h,b,c,d⟩
theorem z21{X:Cx}{x z:Str}{pos:Pos}(hg:Gl X x)(hm:∃t,X.mg x=some (.str z t))(hd:(x == ("__debug__":Str))=false:=by decide):PE X (.Name x pos) (tC (.str z)):=by
 obtain⟨t,e⟩:=hm
 exact y2V hg e ⟨t,rfl⟩ hd
section
variable{X:Cx}
theorem z6N{P:Program}{w:World}:∀{ns:List Int}{vs:List Value},vs.length=ns.length->(∀(j:Nat) (v:Value),vs[j]? = some v->∃k:Key,(ns.map Sum.inl)[j]? = some k/\(z1v P w).is k v=true)->IntsAre vs ns
 | [],[],_,_=>.nil
 | [],_::_,h,_=>by cases h
 | _::_,[],h,_=>by cases h
 | n::ns,v::vs,h,q=>by
  obtain⟨k,e,hk⟩:=q 0 v rfl
  cases e
  rcases z1j (show y0H (Sum.inl n) v=true from hk) with ⟨i,t,e1,rfl⟩|⟨x,t,e1,_⟩
  ·cases e1
   exact .cons n t (z6N (Nat.succ.inj h) fun j u hu=>q (j+1) u hu)
  ·cases e1
theorem y0n{prog:Program}{w:World}{A:Around}{E:Value->Shared->Prop}{s:Shared}{R:List Value->Shared->Prop}{T:String}{r d:Addr}{n:Nat}{P:Nat->Value->Prop}{OK:Heap->Prop}(K:PySem.W.KdlSrc prog w T r d n P OK)(hh:A.handled=none)(hok:OK s.heap)(hn:n≤sizeLine)
  (fin:∀(h':Heap) (tk:Nat) (acc:Array Value),(∀b o,s.heap.get? b=some o->h'.get? b=some o)->s.heap.objs.size<h'.objs.size->ItemsOf P acc n->R acc.toList { s with heap:=h',toks:=tk }):wpAny (model prog w) A (collect (.ref r)) R E s:=by
 have hlt:=K.there _ hok
 unfold collect
 refine wpAny_bind (wpAny_runValue (codeAny_builtin entry_proto_collect' ?_))
 rw[cH PySem.F.plain_proto_collect _]
 refine(show wpAny _ A.in1 (newList [] >>= fun l=>again (.builtin "list.__iadd__" ⟨[l,.ref r],[]⟩)) _ _ s from wpAny_bind (wpAny_newObj_type (wpAny_pure ⟨plainId_quiet eU _,codeAny_builtin entry_list_iadd' ?_⟩)))
 rw[cH eU _]
 have g1:(s.heap.push { cls:=.type "list",data:=.seq ([]:List Value).toArray }).get? s.heap.objs.size=some { cls:=.type "list",data:=.seq #[] }:=bK _ rfl
 have ext:=PySem.W.kdl_extend (A:=A) (s:={ s with heap:=s.heap.push { cls:=.type "list",data:=.seq ([]:List Value).toArray } })
  (R:=fun(q:Result) (s':Shared)=>∃(h':Heap) (tk:Nat) (acc:Array Value) (c':Nat),q=.ok (.ret (.ref s.heap.objs.size))/\s'={ s with heap:=h',toks:=tk }/\(∀b o,s.heap.get? b=some o->h'.get? b=some o)/\
   h'.get? s.heap.objs.size=some { cls:=.type "list",dict:=none,data:=.seq acc c',slots:=#[] }/\ItemsOf P acc n)
  K hh (K.keep _ _ hok fun b _ o e=>bB _ e) s.heap.objs.size (fS hlt.1) (fS hlt.2) (.ref s.heap.objs.size) 0 g1
  (fun h' tk acc c' k hS' so=>⟨h',tk,acc,c',rfl,rfl,fun b o e=>k b o (cC (bN e)) (bB _ e),hS',so⟩) hn
 refine(show wpAny _ A.in1 (Builtin.List.listExtendWith (.ref s.heap.objs.size) (.ref r) (.ref s.heap.objs.size)) _ _ _ from wpAny_mono ext (fun f s' x=>?_) fun e s' x=>?_)
 ·cases f with
  | done f=>
   obtain⟨h',tk,acc,c',e,rfl,k,hS',so⟩:=x
   cases e
   exact(show wpAny _ A (load s.heap.objs.size >>= _) _ _ _ from wpAny_bind (wpAny_load hS' (wpAny_pure (fin h' tk _ k (bN hS') so))))
  | again c1=>
   refine⟨x.1,codeAny_mono x.2 fun q s2 y=>?_⟩
   obtain⟨h',tk,acc,c',rfl,rfl,k,hS',so⟩:=y
   exact(show wpAny _ A (load s.heap.objs.size >>= _) _ _ _ from wpAny_bind (wpAny_load hS' (wpAny_pure (fin h' tk _ k (bN hS') so))))
 ·obtain⟨_,_,_,_,e',_⟩:=x
  cases e'
theorem z6Y(hc:X.calm=true):z3k X (.builtin "sorted") (fun xs H Q=>∃(p:Addr) (kvs:List (Key×V)) (ns:List Int),xs=[.ref p]/\H p=some (.dK kvs)/\kvs.map (·.1)=ns.map Sum.inl/\ns.length<64/\
  ∀(l:Addr) (ms:List Int),H l=none->ms.Perm ns->ms.Pairwise (·≤·)->Q (.ref l) (upd H l (.lst (ms.map V.int)))):=by
 intro pins s σ H xs us Q I r h
 obtain⟨p,kvs,ns,rfl,hp,hk,h64,q⟩:=h
 obtain⟨u,rfl,rx⟩:=z4N r
 cases rx
 obtain⟨_,lo,kv,rk,dd⟩:=y7u I.hok hp
 obtain⟨ep,hat⟩:=dd.dictAt
 have lk:kv.length=ns.length:=by
  have e1:=rk.length
  have e2:=congrArg List.length hk
  rw[b6,b6] at e2
  lia
 refine Calls.call_function_entry kind_sorted plain_sorted entry_sorted (args_sorted1 _) ?_
 unfold Builtin.«sorted»
 refine wpAny_bind (m:=checkCount "sorted" 1 1 _) (wpAny_pure ?_)
 refine wpAny_bind (y0n (A:=X.A.in1) (PySem.W.kdl_dict (knd:=z1v X.prog X.w) (kvs:=kv) (ep:=ep) lo) (I.ok.hd hc) hat (by rw[sizeLine_eq];lia) fun h' tk acc kp slt items=>?_)
 have hi:IntsAre acc.toList ns:=z6N (P:=X.prog) (w:=X.w) (by rw[eM,items.1,lk]) fun j v hv=>by
  obtain⟨k,x,e,ik⟩:=items.2 j v (by rw[<- Array.getElem?_toList];exact hv)
  refine⟨k,?_,ik⟩
  rw[<- hk,rk.keys,bL,e]
  rfl
 have lv:acc.toList.length<64:=by rw[IntsAre.length hi];exact h64
 refine wpAny_bind (wpAny_newList ?_ (by rw[sizeLine_eq];lia))
 have g1:(h'.push (seqObj "list" acc.toList.toArray 0)).get? h'.objs.size=some (seqObj "list" acc.toList.toArray 0):=bK _ rfl
 refine wpAny_bind (wpAny_holding (wpAny_call_entry slot_list_sort ⟨_,g1,rfl⟩ entry_list_sort (list_sort_tree g1 hi lv fun out ns' a1 a2 a3=>⟨_,rfl,?_⟩) (args_list_sort _)))
 refine wpAny_pure ⟨_,rfl,?_⟩
 obtain⟨e,he⟩:=sortedHeap_at (out:=out) g1
 have sle:s.heap.objs.size≤h'.objs.size:=fG slt
 have old:∀b o,s.heap.get? b=some o->(sortedHeap (h'.push (seqObj "list" acc.toList.toArray 0)) h'.objs.size acc.toList out).get? b=some o:=fun b o e=>by
  have hb:=bN (kp b o e)
  rw[sortedHeap_old (cC hb) (by rw[size_push'];exact dX hb)]
  exact bB _ (kp b o e)
 refine⟨.ref h'.objs.size,_,I.laid (a:=h'.objs.size) (o:=.lst (ns'.map V.int)) (t':=tk) old sle (show z1o X.prog X.w _ _ _ (.lst (ns'.map V.int)) from⟨?_,out.toList,e,z5U a1,?_⟩),rfl,q _ ns' (I.hok.fresh sle) a2 a3⟩
 ·rw[b6,a2.length_eq,sizeLine_eq]
  lia
 ·simpa using he
end
theorem z87:typeLookup (.type "list") "keys"=pure none:=am_miss_of_fast (by kernel_rfl)
theorem z7U:typeLookup (.type "tuple") "keys"=pure none:=am_miss_of_fast (by kernel_rfl)
theorem z9D:typeLookup (.type "list") "__getattr__"=pure none:=by rw[typeLookup_type,builtinLookup_eq_fast];kernel_rfl
theorem z9q:typeLookup (.type "tuple") "__getattr__"=pure none:=by rw[typeLookup_type,builtinLookup_eq_fast];kernel_rfl
section
variable{prog:Program}{w:World}{A:Around}{E:Value->Shared->Prop}{s:Shared}
theorem z9T{a:Addr}{items:Array Value}{n:Nat}{sl:Array (Option Value)}{u:Tok}{R:Result->Shared->Prop}(hA:A.handled=none)(ho:s.heap.get? a=some ⟨.type "list",none,.seq items n,sl⟩)(h:∀h' tk e,Heap.NewAttrErr s.heap h' e (.ref a) "keys"->R (.error (.ref e)) { s with heap:=h',toks:=tk }) :
  wpAny (model prog w) A.in1 (Builtin.«object.__getattribute__» ⟨[.ref a,.str "keys" u],[]⟩) (fun fin s'=>match fin with|.done f=>R (.ok f) s'|.again c'=>c'.quiet=true/\codeAny (model prog w) A c' R s') (fun e s'=>R (.error e) s') s:=by
 obtain⟨hp,g,d,tk,os⟩:=s
 have hT:(⟨hp,g,d,tk,os⟩:Shared).TypeIs (.ref a) "list":=⟨_,ho,rfl⟩
 have f1:=z87
 unfold Builtin.«object.__getattribute__»
 repeat (any_goals (first|assumption|wp_step))
 exact wpAny_raiseAttrError hA h (attrMsg_fits (by decide +kernel) (by decide +kernel))
theorem z9n{a:Addr}{items:Array Value}{n:Nat}{sl:Array (Option Value)}{u:Tok}{R:Result->Shared->Prop}(hA:A.handled=none)(ho:s.heap.get? a=some ⟨.type "tuple",none,.seq items n,sl⟩)(h:∀h' tk e,Heap.NewAttrErr s.heap h' e (.ref a) "keys"->R (.error (.ref e)) { s with heap:=h',toks:=tk }) :
  wpAny (model prog w) A.in1 (Builtin.«object.__getattribute__» ⟨[.ref a,.str "keys" u],[]⟩) (fun fin s'=>match fin with|.done f=>R (.ok f) s'|.again c'=>c'.quiet=true/\codeAny (model prog w) A c' R s') (fun e s'=>R (.error e) s') s:=by
 obtain⟨hp,g,d,tk,os⟩:=s
 have hT:(⟨hp,g,d,tk,os⟩:Shared).TypeIs (.ref a) "tuple":=⟨_,ho,rfl⟩
 have f1:=z7U
 unfold Builtin.«object.__getattribute__»
 repeat (any_goals (first|assumption|wp_step))
 exact wpAny_raiseAttrError hA h (attrMsg_fits (by decide +kernel) (by decide +kernel))
theorem z89{a:Addr}{items:Array Value}{n:Nat}{sl:Array (Option Value)}{u:Tok}{R:Result->Shared->Prop}(hA:A.handled=none)(ho:s.heap.get? a=some ⟨.type "list",none,.seq items n,sl⟩)(h:∀h' tk e,Heap.NewAttrErr s.heap h' e (.ref a) "keys"->R (.error (.ref e)) { s with heap:=h',toks:=tk }) :
  codeAny (model prog w) A (.call (.builtin "list.__getattribute__") ⟨[.ref a,.str "keys" u],[]⟩) R s:=
 codeAny_call_builtin eB.plain F.entry_list_ga (eB.check _ _ _ _ _ _ _ _ (show s.TypeIs (.ref a) "list" from⟨_,ho,rfl⟩) (F.args_list_getattribute_2 _ _) (z9T (R:=R) hA ho h))
theorem z8c{a:Addr}{items:Array Value}{n:Nat}{sl:Array (Option Value)}{Q:Option Value->Shared->Prop}(hA:A.handled=none)(ho:s.heap.get? a=some ⟨.type "list",none,.seq items n,sl⟩)(h:∀h' tk,(∀b o,s.heap.get? b=some o->h'.get? b=some o)->Q none { s with heap:=h',toks:=tk }) :
  wpAny (model prog w) A (getAttr? (.ref a) "keys") Q E s:=by
 obtain⟨hp,g,d,tk,os⟩:=s
 have hT:∀tk',(⟨hp,g,d,tk',os⟩:Shared).TypeIs (.ref a) "list":=fun _=>⟨_,ho,rfl⟩
 have f1:=sub_AttributeError
 have f3:=eB.lookup
 have f4:=eB.bind (.ref a)
 have f5:=z9D
 unfold getAttr? getAttrBy? getAttrBy
 repeat (any_goals (first|assumption|exact hT _|wp_step))
 refine z89 (s:=⟨hp,g,d,tk+1,os⟩) hA ho fun h' tk' e hx=>?_
 obtain⟨t',u',he⟩:=hx.there
 show wpAny _ _ (getattributeRaised _ _ _ _ _ _ _) _ _ _
 unfold getattributeRaised
 repeat (any_goals (first|assumption|wp_step))
 exact h _ _ hx.keeps
theorem z7t{a:Addr}{items:Array Value}{n:Nat}{sl:Array (Option Value)}{u:Tok}{R:Result->Shared->Prop}(hA:A.handled=none)(ho:s.heap.get? a=some ⟨.type "tuple",none,.seq items n,sl⟩)(h:∀h' tk e,Heap.NewAttrErr s.heap h' e (.ref a) "keys"->R (.error (.ref e)) { s with heap:=h',toks:=tk }) :
  codeAny (model prog w) A (.call (.builtin "tuple.__getattribute__") ⟨[.ref a,.str "keys" u],[]⟩) R s:=
 codeAny_call_builtin dY.plain F.entry_tuple_ga (dY.check _ _ _ _ _ _ _ _ (show s.TypeIs (.ref a) "tuple" from⟨_,ho,rfl⟩) (F.args_tuple_getattribute_2 _ _) (z9n (R:=R) hA ho h))
theorem z7H{a:Addr}{items:Array Value}{n:Nat}{sl:Array (Option Value)}{Q:Option Value->Shared->Prop}(hA:A.handled=none)(ho:s.heap.get? a=some ⟨.type "tuple",none,.seq items n,sl⟩)(h:∀h' tk,(∀b o,s.heap.get? b=some o->h'.get? b=some o)->Q none { s with heap:=h',toks:=tk }) :
  wpAny (model prog w) A (getAttr? (.ref a) "keys") Q E s:=by
 obtain⟨hp,g,d,tk,os⟩:=s
 have hT:∀tk',(⟨hp,g,d,tk',os⟩:Shared).TypeIs (.ref a) "tuple":=fun _=>⟨_,ho,rfl⟩
 have f1:=sub_AttributeError
 have f3:=dY.lookup
 have f4:=dY.bind (.ref a)
 have f5:=z9q
 unfold getAttr? getAttrBy? getAttrBy
 repeat (any_goals (first|assumption|exact hT _|wp_step))
 refine z7t (s:=⟨hp,g,d,tk+1,os⟩) hA ho fun h' tk' e hx=>?_
 obtain⟨t',u',he⟩:=hx.there
 show wpAny _ _ (getattributeRaised _ _ _ _ _ _ _) _ _ _
 unfold getattributeRaised
 repeat (any_goals (first|assumption|wp_step))
 exact h _ _ hx.keeps
end
theorem z4V:entryFor table "dict.update.loop"=some Builtin.«dict.update.loop»:=entryFor_of_tree (by kernel_rfl)
theorem z1S:plainId "dict.update.loop"=true:=by decide +kernel
section
variable{prog:Program}{w:World}{A:Around}{κ:Type}[DecidableEq κ]{kd:KeyKind prog w κ}{I:Addr}{fp wr:List Addr}{G:Array GenState->Array GenState->Prop}{n:Nat}{P:Nat->Value->Prop}{St:Nat->Shared->Prop}
noncomputable def y00(kd:KeyKind prog w κ)(h:Heap)(v:Value)(kv:κ×Value)(out:List Addr):Prop:=∃(a:Addr) (o:Obj) (T:String) (k:Value) (c:Nat),v=.ref a/\h.get? a=some o/\o.cls=.type T/\(T="list"\/T="tuple")/\o.data=.seq #[k,kv.2] c/\kd.is kv.1 k=true/\a∉out
theorem z7T{R:Result->Shared->Prop}(W:WalksS prog w A.in1 I fp wr G n P St){d:Addr}(out:d∉fp){h0:Heap}{vs:List (κ×Value)}(lk:vs.length=n)
  (vals:∀i v,P i v->∃kv,vs[i]? = some kv/\y00 kd h0 v kv (d::wr)) (few:n≤1000) :
  ∀(todo i:Nat) (s:Shared),i+todo=n->St i s->s.heap.DictOf kd d (merged [] (vs.take i))->(∀b o,b∉d::wr->h0.get? b=some o->s.heap.get? b=some o)->
   (∀s',Moved (d::wr) G s s'->s'.heap.DictOf kd d (merged [] vs)->R (.ok (.ret .none)) s')->codeAny (model prog w) A (.builtin "dict.update.loop" ⟨[.ref d,.ref I,rawInt i,.none],[]⟩) R s
 | 0,i,s,ei,st,sx,kp,fin=>by
  have e:vs.take i=vs:=d5 (by lia)
  rw[e] at sx
  have ei':i=n:=by lia
  subst ei'
  refine codeAny_builtin z4V ?_
  rw[cH z1S _]
  refine wpAny_bind (W.done s _ _ st fun s' mv=>wpAny_bind (wpAny_pure (wpAny_pure (fin s' (mv.mono fun b hb=>.tail _ hb) (sx.at fun o=>mv.heap d o fun q=>out (W.sub _ q))))))
 | todo+1,i,s,ei,st,sx,kp,fin=>by
  refine codeAny_builtin z4V ?_
  rw[cH z1S _]
  refine wpAny_bind (W.item i s _ _ (by lia) st fun v s1 hv st1 mv=>?_)
  obtain⟨⟨key,y⟩,ek,a,o,T,k,c,rfl,ho,hc,hT,hd,ik,na⟩:=vals i v hv
  have sx1:=sx.at (h':=s1.heap) fun o=>mv.heap d o fun q=>out (W.sub _ q)
  have ho1:s1.heap.get? a=some o:=mv.heap a o (fun q=>na (.tail _ q)) (kp a o na ho)
  have ty:s1.TypeIs (.ref a) T:=⟨o,ho1,hc⟩
  refine wpAny_bind (wpAny_holding (m:=(Builtin.Dict.pairItems (.ref a)).tryCatch _ >>= _) (wpAny_bind (wpAny_tryCatch ?_)))
  unfold Builtin.Dict.pairItems
  refine wpAny_bind (wpAny_typeOf ty ?_)
  rw[if_pos (by rcases hT with rfl|rfl<;>decide)]
  refine wpAny_bind (wpAny_seqItems ho1 hd (wpAny_pure ?_))
  show wpAny _ _ (holding [k,y] (dictSet d k y)) _ _ _
  have lm:=merged_length_le [] (vs.take i)
  rw[bM,List.length_nil] at lm
  refine wpAny_holding (wpAny_dictSet_pairs (hsz:=by rw[sizeLine_eq];lia) ik sx1 fun h2 sx2 sb=>?_)
  rw[<- merged_take_succ [] vs i (key,y) ek] at sx2
  have far:∀b,b≠d->h2.get? b=s1.heap.get? b:=fun b hb=>sb.2 b hb
  refine wpAny_pure ⟨plainId_quiet z1S _,z7T W out lk vals few todo (i+1) _ (by lia) (W.frame _ s1 _ _ st1 (dO _) fun b hb o q=>?_) sx2 (fun b o nb q=>?_) fun s3 mv3 sx4=>?_⟩
  ·rw[far b fun z=>out (z ▸ hb)];exact q
  ·rw[far b fun z=>nb (z ▸ .head _)]
   exact mv.heap b o (fun q=>nb (.tail _ q)) (kp b o nb q)
  ·refine fin s3 (.trans W.gtrans ((mv.mono fun b hb=>.tail _ hb).then_heap (dO _) fun b o hb q=>?_) mv3) sx4
   rw[far b fun z=>hb (z ▸ .head _)];exact q
end
section
variable{prog:Program}{w:World}{A:Around}{E:Value->Shared->Prop}{s:Shared}{κ:Type}[DecidableEq κ]{kd:KeyKind prog w κ}
theorem y6a{T:String}{p:Addr}{its:Array Value}{c0:Nat}{sl:Array (Option Value)}{vs:List (κ×Value)}{Q:Value->Shared->Prop}(hh:A.handled=none)(hp:s.heap.get? p=some ⟨.type T,none,.seq its c0,sl⟩)(hT:T="list"\/T="tuple")
  (lk:vs.length=its.size) (vals:∀(i:Nat) v,its[i]? = some v->∃kv,vs[i]? = some kv/\y00 kd s.heap v kv []) (few:its.size≤1000) (nd:(vs.map (·.1)).Nodup)
  (fin:∀(h':Heap) (t:Nat),h'.DictOf kd s.heap.objs.size vs->(∀b u,s.heap.get? b=some u->h'.get? b=some u)->Q (.ref s.heap.objs.size) { s with heap:=h',toks:=t }) :
  wpAny (model prog w) A (call (.type "dict") [.ref p]) Q E s:=by
 refine callType_codes (Q₁:=fun obj s₁=>obj=.ref s.heap.objs.size/\s₁={ s with heap:=s.heap.push { cls:=.type "dict",data:=.dict #[] } }) PySem.F.kt_called_dict (PySem.F.kt_typeCall_dict_1 _) F.entry_dict_init (kt_code_dict_new _ ⟨rfl,rfl⟩) ?_
 rintro obj s₁ ⟨rfl,rfl⟩
 have w0J:(s.heap.push { cls:=.type "dict",data:=.dict #[] }).DictOf kd s.heap.objs.size []:=Heap.DictOf.new s.heap
 have hp1:(s.heap.push { cls:=.type "dict",data:=.dict #[] }).get? p=some ⟨.type T,none,.seq its c0,sl⟩:=bB _ hp
 have hpl:p<s.heap.objs.size:=bN hp
 refine⟨w0J.typeIs,F.args_dict_init_2 _ _,?_⟩
 unfold Builtin.«dict.__init__»
 refine wpAny_bind ?_
 unfold Builtin.Dict.selfAndRest
 refine wpAny_bind (wpAny_notOrdered_dict w0J.typeIs ?_)
 show wpAny _ _ (pure (s.heap.objs.size,[Value.ref p])) _ _ _
 refine wpAny_pure ?_
 show wpAny _ _ (Builtin.Dict.updateFrom "dict.__init__" s.heap.objs.size (.ref p) [] .none) _ _ _
 unfold Builtin.Dict.updateFrom
 refine wpAny_bind (wpAny_typeOf (T:=T) ⟨_,hp1,rfl⟩ ?_)
 rw[if_pos (by rcases hT with rfl|rfl<;>decide)]
 have main:∀(h1:Heap) (tk:Nat),(∀b o,(s.heap.push { cls:=.type "dict",data:=.dict #[] }).get? b=some o->h1.get? b=some o)->
   wpAny (model prog w) A.in1.in1 (do
    rule (toString "dict.__init__"++toString ".from-pairs")
    return <- again (.builtin "dict.update.loop" ⟨[.ref s.heap.objs.size,<- pyIter (.ref p),rawInt 0,.none],[]⟩))
    (fun fin s'=>match fin with|.done f=>wants (fun r s₂=>r=.none/\Q (.ref s.heap.objs.size) s₂) E (.ok f) s'|.again c'=>c'.quiet=true/\codeAny (model prog w) A.in1 c' (wants (fun r s₂=>r=.none/\Q (.ref s.heap.objs.size) s₂) E) s')
    (fun e s'=>wants (fun r s₂=>r=.none/\Q (.ref s.heap.objs.size) s₂) E (.error e) s') { s with heap:=h1,toks:=tk }:=by
  intro h1 tk k1
  have hd1:=w0J.keep k1
  have dlt:s.heap.objs.size<h1.objs.size:=by
   obtain⟨_,_,_,e,_⟩:=hd1
   exact bN e
  have hp2:=k1 _ _ hp1
  have apart:p≠h1.objs.size:=cC (bN hp2)
  have out:s.heap.objs.size∉[h1.objs.size,p]:=by rw[bC,bA];exact fun z=>z.elim (cC dlt) (fS hpl)
  have hh2:A.in1.in1.handled=none:=by simp[hh]
  have nin:∀{b:Addr}{o:Obj},s.heap.get? b=some o->b∉[s.heap.objs.size,h1.objs.size]:=fun e m=>by
   have hb:=bN e
   rcases bC.mp m with z|z
   ·exact absurd hb (by rw[z];exact d6 _)
   ·rw[bA] at z
    exact absurd (Nat.lt_trans hb dlt) (by rw[z];exact d6 _)
  have w0w:∀(i:Nat) v,its[i]? = some v->∃kv,vs[i]? = some kv/\y00 kd s.heap v kv [s.heap.objs.size,h1.objs.size]:=fun i v hv=>by
   obtain⟨kv,e,a,o,T,k,c,e1,e2,e3,e4,e5,e6,_⟩:=vals i v hv
   exact⟨kv,e,a,o,T,k,c,e1,e2,e3,e4,e5,e6,nin e2⟩
  have ends:∀(x:Obj) (s':Shared),Moved [s.heap.objs.size,h1.objs.size] (fun a b=>b=a) { s with heap:=h1.push x,toks:=tk } s'->s'.heap.DictOf kd s.heap.objs.size (merged [] vs)->Q (.ref s.heap.objs.size) s':=fun x s' mv sx=>by
   obtain⟨h',g',d',t',o'⟩:=s'
   obtain rfl:g'=s.gens:=mv.gens
   obtain rfl:d'=s.drawn:=mv.drawn
   obtain rfl:o'=s.os:=mv.os
   rw[merged_nil_of_nodup vs nd] at sx
   exact fin h' t' sx fun b u q=>mv.heap b u (nin q) (bB _ (k1 _ _ (bB _ q)))
  refine wpAny_bind (wpAny_rule ?_)
  rcases hT with rfl|rfl
  ·have hl:h1.IsList p its:=⟨_,hp2,rfl,c0,rfl⟩
   refine wpAny_bind (wpAny_pyIter_list hl (wpAny_pure ⟨plainId_quiet z1S _,?_⟩))
   exact z7T (kd:=kd) ((Walks.list hh2 _ p apart its).toS) out (h0:=s.heap) lk w0w few its.size 0 _ (j7 _) ⟨⟨_,bK _ rfl,rfl,rfl⟩,hl.push _⟩ (by rw[cT];exact hd1.push _) (fun b o _ q=>bB _ (k1 _ _ (bB _ q))) fun s' mv sx=>⟨rfl,ends _ s' mv sx⟩
  ·have hl:h1.IsTuple p its:=⟨_,hp2,rfl,c0,rfl⟩
   refine wpAny_bind (wpAny_pyIter_tuple hl (wpAny_pure ⟨plainId_quiet z1S _,?_⟩))
   exact z7T (kd:=kd) ((Walks.tuple hh2 _ p apart its).toS) out (h0:=s.heap) lk w0w few its.size 0 _ (j7 _) ⟨⟨_,bK _ rfl,rfl,rfl⟩,hl.push _⟩ (by rw[cT];exact hd1.push _) (fun b o _ q=>bB _ (k1 _ _ (bB _ q))) fun s' mv sx=>⟨rfl,ends _ s' mv sx⟩
 have hh2:A.in1.in1.handled=none:=by simp[hh]
 rcases hT with rfl|rfl
 ·refine wpAny_bind (z8c hh2 hp1 fun h1 tk k1=>?_)
  exact main h1 tk k1
 ·refine wpAny_bind (z7H hh2 hp1 fun h1 tk k1=>?_)
  exact main h1 tk k1
end
section
variable{X:Cx}
noncomputable def y3T(K:PySem.W.Frag)(H:Hp)(u:V)(kv:Key×V):Prop:=∃a,u=.ref a/\(SqL K H a [kV kv.1,kv.2]\/SqT K H a [kV kv.1,kv.2])
noncomputable def SqP(K:PySem.W.Frag)(H:Hp)(p:Addr)(ys:List V):Prop:=SqL K H p ys\/H p=some (.tup ys)
noncomputable def y6Q(K:PySem.W.Frag):List V->Hp->VK->Prop:=fun xs H Q=>∃p ys kvs,xs=[.ref p]/\SqP K H p ys/\Paired (y3T K H) ys kvs/\ys.length≤1000/\(kvs.map (·.1)).Nodup/\∀l,H l=none->Q (.ref l) (upd H l (.dK kvs))
theorem z8D{pins:List (Addr×Obj)}{σ:St}{H:Hp}{s:Shared}(I:Inv X pins σ H s):∀{ys:List V}{kvs:List (Key×V)}{its:List Value},Paired (y3T X.K H) ys kvs->Vals ys its->
  ∃vs,KV kvs vs/\vs.length=its.length/\∀(i:Nat) v,its[i]? = some v->∃kv,vs[i]? = some kv/\y00 (z1v X.prog X.w) s.heap v kv []
 | _,_,_,.nil,.nil=>⟨[],.nil,rfl,fun i v h=>by simp at h⟩
 | _::ys,kv::kvs,_::its,.cons ⟨a,e,hq⟩ t,.cons r rr=>by
  obtain⟨vs,k1,l1,p1⟩:=z8D I t rr
  subst e
  cases r
  have go:∀(T:String) (o:Obj) (us:List Value) (c:Nat),s.heap.get? a=some o->o.cls=.type T->(T="list"\/T="tuple")->o.data=.seq us.toArray c->Vals [kV kv.1,kv.2] us->
    ∃vs',KV (kv::kvs) vs'/\vs'.length=(Value.ref a::its).length/\∀(i:Nat) v,(Value.ref a::its)[i]? = some v->∃kv,vs'[i]? = some kv/\y00 (z1v X.prog X.w) s.heap v kv []:=fun T o us c h1 h2 h3 h4 h5=>by
   obtain⟨u1,u2,rfl,r1,r2⟩:=y26 h5
   refine⟨(kv.1,u2)::vs,.cons ⟨rfl,r2⟩ k1,by rw[bY,bY,l1],fun i v hv=>?_⟩
   cases i with
   | zero=>
    simp at hv
    subst hv
    exact⟨_,rfl,a,o,T,u1,c,rfl,h1,h2,h3,by simpa using h4,y3D r1,by simp⟩
   | succ i=>exact p1 i v (by simpa using hv)
  rcases hq with hq|hq
  ·obtain⟨us,rv,pl,_⟩:=I.list hq
   obtain⟨o,ho,hcl,n,hda⟩:=pl.isList
   exact go "list" o us n ho hcl (.inl rfl) hda rv
  ·obtain⟨us,rv,pl,_⟩:=I.tuple hq
   obtain⟨o,ho,hcl,n,hda⟩:=pl
   exact go "tuple" o us n ho hcl (.inr rfl) hda rv
theorem z4x{K:PySem.W.Frag}(hK:X.K=K)(hc:X.calm=true):z3k X (.type "dict") (y6Q K):=by
 subst hK
 intro pins s σ H xs us Q I r h
 obtain⟨p,ys,kvs,rfl,hq,pr,hl,nd,q⟩:=h
 obtain⟨u,rfl,rx⟩:=z4N r
 cases rx
 have go:∀(T:String) (its:List Value) (c0:Nat) (sl:Array (Option Value)),s.heap.get? p=some ⟨.type T,none,.seq its.toArray c0,sl⟩->(T="list"\/T="tuple")->Vals ys its->wpAny (model X.prog X.w) X.A (call (.type "dict") [.ref p]) (EP X pins σ Q) X.xe s:=
  fun T its c0 sl ho hT rv=>by
   obtain⟨vs,k1,l1,p1⟩:=z8D I pr rv
   have ln:ys.length=its.length:=rv.length
   refine y6a (kd:=z1v X.prog X.w) (vs:=vs) (I.ok.hd hc) ho hT (by simpa using l1) (fun i v hv=>p1 i v (by simpa using hv)) (by simp;lia) (by rw[<- k1.keys];exact nd) fun h' t dd kp=>?_
   have big:=I.big
   refine⟨.ref s.heap.objs.size,_,I.laid (a:=s.heap.objs.size) (o:=.dK kvs) (h':=h') (t':=t) kp (bG _) (y5L ?_ ?_ k1 dd),rfl,q _ (I.hok.fresh (bG _))⟩
   ·have:=k1.length
    rw[sizeLine_eq]
    lia
   ·exact beq_false_of_ne (fS big)
 rcases hq with hq|hq
 ·obtain⟨its,rv,pl,_⟩:=I.list hq
  obtain⟨o,n,ho,hcl,hdi,hda⟩:=pl
  obtain⟨oc,od,oa,os⟩:=o
  simp only at hcl hdi hda
  subst hcl hdi hda
  exact go "list" its n os ho (.inl rfl) rv
 ·obtain⟨_,its,rv,o,ho,hcl,⟨n,hda⟩,hdi⟩:=(show z1o X.prog X.w H s.heap p (.tup ys) from I.hok p _ hq)
  obtain⟨oc,od,oa,os⟩:=o
  simp only at hcl hdi hda
  subst hcl hdi hda
  exact go "tuple" its n os ho (.inr rfl) rv
end
noncomputable def SqS(K:PySem.W.Frag)(t:Bool)(H:Hp)(a:Addr)(xs:List V):Prop:=if t then SqL K H a xs else SqT K H a xs
theorem SqS.of{K:PySem.W.Frag}{H:Hp}{a:Addr}{xs:List V}(h:SqL K H a xs\/SqT K H a xs):∃t,SqS K t H a xs:=h.elim (fun q=>⟨true,q⟩) fun q=>⟨false,q⟩
theorem SqS.keep{K:PySem.W.Frag}{t:Bool}{H H':Hp}{a:Addr}{xs:List V}(s:A4 H H')(h:SqS K t H a xs):SqS K t H' a xs:=by
 cases t
 ·rcases(show SqT K H a xs from h) with (h|⟨o,h⟩)|h
  ·exact .inl (.inl (s _ _ h))
  ·exact .inl (.inr ⟨o,s _ _ h⟩)
  ·exact .inr h
 ·exact s.seq (show SqL K H a xs from h)
noncomputable def Its(K:PySem.W.Frag)(t:Bool)(a:Addr):It:=if t then Itl K a else Itt K a
section
variable{X:Cx}{tg:Expr}
noncomputable def iSeq(K:PySem.W.Frag)(tl:TE):TI:=fun σ H R=>tl σ H fun x H1=>∃a t,x=.ref a/\(∃xs,SqS K t H1 a xs)/\R (Its K t a) H1
theorem z9G{l:Expr}{tl:TE}(hl:PE X l tl):PI X tg l (iSeq X.K tl):=by
 intro pins s σ H R I h
 refine thn (hl pins s σ H _ I h) fun v s1 ⟨x,H1,I1,r1,q1⟩=>?_
 obtain⟨a,t,e,⟨xs,hq⟩,q⟩:=q1
 subst e
 cases r1
 cases t
 ·obtain⟨its,rv,p,hz⟩:=I1.tuple hq
  refine wpAny_pyIter_tuple (show s1.heap.IsTuple a its.toArray from p) ?_
  refine⟨s1.heap.objs.size,[s1.heap.objs.size],_,_,H1,rfl,I1.kept (t':=s1.toks) fun b o e=>bB _ e,z8p a _,⟨_,bK _ rfl,rfl,rfl⟩,fun b hb=>?_,q⟩
  have e:b=s1.heap.objs.size:=by simpa using hb
  subst e
  exact I1.V7 (bG _) (I1.hok.fresh (bG _))
 ·obtain⟨its,rv,p,hz⟩:=I1.list hq
  refine wpAny_pyIter_list p.isList ?_
  refine⟨s1.heap.objs.size,[s1.heap.objs.size],_,_,H1,rfl,I1.kept (t':=s1.toks) fun b o e=>bB _ e,z9X a _,⟨_,bK _ rfl,rfl,rfl⟩,fun b hb=>?_,q⟩
  have e:b=s1.heap.objs.size:=by simpa using hb
  subst e
  exact I1.V7 (bG _) (I1.hok.fresh (bG _))
end
theorem z9p{K:PySem.W.Frag}{t:Bool}{a:Addr}{xs:List V}{g:TG}{tc:TT}{te:TE}{σ0:St}{H1:Hp}{F:List V->Hp->Prop}(Pv:Nat->List V->Hp->Prop)(h0:Pv 0 [] H1)
  (hl:∀i ys H,i≤xs.length->Pv i ys H->SqS K t H a xs/\ys.length<sizeLine)
  (hs:∀i x ys H,xs[i]? = some x->Pv i ys H->z1D g tc te σ0 x H ys (Pv (i+1))) (hd:∀ys H,Pv xs.length ys H->F ys H):y0r (Its K t a) g tc te σ0 H1 F:=by
 cases t
 ·exact z27 Pv h0 hl hs hd
 ·exact z2b Pv h0 hl hs hd
theorem y2M{K:PySem.W.Frag}{t:Bool}{a:Addr}{xs:List V}{g:TG}{tb:TS}{D:Ends}{σ:St}{H:Hp}(Pv:Nat->St->Hp->Prop)(h0:Pv 0 σ H)(hl:∀i σ H,i≤xs.length->Pv i σ H->SqS K t H a xs)
  (hs:∀i x σ H,xs[i]? = some x->Pv i σ H->g x σ H fun σ2 H2=>tb { D with nx:=Pv (i+1),ct:=Pv (i+1),bk:=D.nx } σ2 H2) (hd:∀σ H,Pv xs.length σ H->D.nx σ H) :
  ∃W:Nat->Nat->St->Hp->Prop,(∃m,W 0 m σ H)/\∀i m σ H,W i m σ H->
   ((Its K t a).stop i H/\D.nx σ H)\/((Its K t a).go i H/\∃N:St->Hp->Prop,(∀σ' H',N σ' H'->∃m',m'<m/\W (i+1) m' σ' H')/\∀x H',(Its K t a).yld i H x H'->g x σ H' fun σ2 H2=>tb { D with nx:=N,ct:=N,bk:=D.nx } σ2 H2):=by
 cases t
 ·exact y3n Pv h0 hl hs hd
 ·exact z2u Pv h0 hl hs hd
section
variable{prog:Program}{w:World}{A:Around}{E:Value->Shared->Prop}
theorem z9O{it t:Addr}{items:Array Value}(hne:t≠it):∀(n i:Nat) (s:Shared) (Q:List Value->Shared->Prop),s.heap.IsListIter it t i->s.heap.IsList t items->i+n≤items.size->
  (∀h',h'.IsListIter it t (i+n)->Heap.SameBut it s.heap h'->Q ((items.toList.drop i).take n) { s with heap:=h' })->wpAny (model prog w) A (draw (.ref it) n) Q E s
 | 0,i,s,Q,hit,_,_,hQ=>by
  show wpAny _ _ (pure []) Q E s
  exact wpAny_pure (by simpa using hQ s.heap hit (Heap.SameBut.refl ..))
 | n+1,i,s,Q,hit,ht,hle,hQ=>by
  have hlt:i<items.size:=by lia
  show wpAny _ _ (pyNext (.ref it) >>= _) Q E s
  refine wpAny_bind (wpAny_pyNext_list_item hit ht (x:=items[i]) (by simp[hlt]) fun h₁ hit₁ hs₁=>?_)
  refine wpAny_bind (wpAny_holding (z9O hne n (i+1) _ _ hit₁ (ht.at fun o e=>(hs₁.2 t hne).trans e) (by lia) fun h₂ hit₂ hs₂=>wpAny_pure ?_))
  have hd:items.toList.drop i=items[i]::items.toList.drop (i+1):=by simp[List.drop_eq_getElem_cons,hlt]
  have:=hQ h₂ (by rw[show i+(n+1)=i+1+n by lia];exact hit₂) (hs₁.trans hs₂)
  rw[hd,List.take_succ_cons] at this
  exact this
theorem y0Z{s:Shared}{t:Addr}{items:Array Value}{Q:List Value->Shared->Prop}(hh:A.handled=none)(ht:s.heap.IsList t items)
  (hQ:∀h',Heap.ExtBut s.heap.objs.size s.heap h'->Q items.toList { s with heap:=h' }):wpAny (model prog w) A (unpackItems (.ref t) items.size none) Q E s:=by
 have hlt:t≠s.heap.objs.size:=by obtain⟨o,ho,_⟩:=ht;exact cC (bN ho)
 unfold unpackItems
 refine wpAny_bind ?_
 unfold notIterableAtAll
 refine wpAny_bind (wpAny_specialOf ht.typeIs PySem.F.slot_list_iter.lookup ?_)
 refine wpAny_pure ?_
 simp only[dS,if_false]
 refine wpAny_bind (wpAny_holding (wpAny_pyIter_list ht ?_))
 refine wpAny_bind (wpAny_holding (z9O hlt items.size 0 _ _ ⟨_,bK _ rfl,rfl,rfl⟩ (ht.push _) (by lia) fun h₁ hit₁ hs₁=>?_))
 have C7:List.take items.size (List.drop 0 items.toList)=items.toList:=by
  rw[g0];exact d5 (by simp)
 rw[C7]
 rw[if_neg (by simp)]
 have ht₁:h₁.IsList t items:=(ht.push _).at fun o e=>(hs₁.2 t hlt).trans e
 refine wpAny_bind (wpAny_holding (wpAny_pyNext_list_end hh hit₁ ht₁ (by simp) fun h₂ he₂=>?_))
 simp only[Option.isSome_none,dS,if_false]
 exact wpAny_pure (hQ h₂ fun b o hb e=>he₂ b o hb (hs₁.extBut b o hb (bB _ e)))
theorem z66{s:Shared}{env:Env}{elts:List Expr}{x1}{pos:Pos}{t:Addr}{items:Array Value}{Q:Unit->Shared->Prop}(hh:A.handled=none)(ht:s.heap.IsList t items)
  (hn:(assignEach elts env).length=items.size) (w2a:(assignEach elts env).findIdx? (·.1)=none)
  (h:∀h',Heap.ExtBut s.heap.objs.size s.heap h'->wpAny (model prog w) A (assignInOrder ((assignEach elts env).map (·.2)) items.toList) Q E { s with heap:=h' }) :
  wpAny (model prog w) A (assign (.Tuple elts x1 pos) env (.ref t)) Q E s:=by
 rw[assign_Tuple]
 refine wpAny_bind (wpAny_standAt ?_)
 unfold unpack
 rw[hn,w2a]
 exact wpAny_bind (wpAny_holding (y0Z hh ht h))
end
noncomputable def w0K(K:PySem.W.Frag)(n:Nat)(t:TGs):TG:=fun v σ H Q=>∃a xs,v=.ref a/\(SqL K H a xs\/SqT K H a xs)/\xs.length=n/\t xs σ H Q
theorem z9z{X:Cx}{K:PySem.W.Frag}{es:List Expr}{k:Nat}{t:TGs}{n:Nat}{pos:Pos}(hK:X.K=K)(hc:X.calm=true)(h:PGs X es t)
  (hn:(assignEach es X.env).length=n:=by rfl) (hst:(assignEach es X.env).findIdx? (·.1)=none:=by rfl):PG X (.Tuple es k pos) (w0K K n t):=by
 subst hK
 intro pins s σ H v u Q I r hw
 obtain⟨a,xs,e1,hq,hl,hw⟩:=hw
 subst e1
 cases r
 rcases hq with hq|hq
 ·obtain⟨its,rv,ht,hz⟩:=I.list hq
  refine z66 (I.ok.hd hc) ht.isList (by simp[hn,<- hl,rv.length]) hst fun h' hx=>?_
  have I1:Inv X pins σ H { s with heap:=h' }:=I.kept (t':=s.toks) fun b o e=>hx b o (cC (bN e)) e
  exact h pins _ σ H xs _ Q I1 (by simpa using rv) hw
 ·obtain⟨its,rv,ht,hz⟩:=I.tuple hq
  refine assign_Tuple_tuple (I.ok.hd hc) ht (by simp[hn,<- hl,rv.length]) hst fun h' hx=>?_
  have I1:Inv X pins σ H { s with heap:=h' }:=I.kept (t':=s.toks) fun b o e=>hx b o (cC (bN e)) e
  exact h pins _ σ H xs _ Q I1 (by simpa using rv) hw
theorem y1h{K:PySem.W.Frag}{n:Nat}{t:TGs}(a:z8s t):y0m (w0K K n t):=fun v σ H Q Q' f q=>by
 obtain⟨p,xs,e,h1,h2,q⟩:=q
 exact⟨p,xs,e,h1,h2,a _ _ _ _ _ f q⟩
theorem y2L{K:PySem.W.Frag}{n k:Nat}{t:TGs}(a:y31 n t):X8 n (w0K K k t):=fun v σ H Q q=>by
 obtain⟨p,xs,e,h1,h2,q⟩:=q
 exact⟨p,xs,e,h1,h2,a _ _ _ _ q⟩
theorem y1M{X:Cx}{K:PySem.W.Frag}(hK:X.K=K):OpR X (binaryOp .Add) (y7C K):=by
 subst hK
 exact y6S
section
variable{X:Cx}
end
structure W8(K:PySem.W.Frag)(x qual:Str)(st:Stmt)(f:Addr)(fd:FuncData)(T:Addr)(items:Array Value):Prop where
 ex:∃(oc:Value) (od:Option Addr) (kV doc pm:Value) (an:Option Addr) (cdv ct:Value) (osl:Array (Option Value)),
  fd=PySem.W.fnOf x qual (z1w st) (z1k st) (z08 st) (.ref T) kV doc pm an cdv ct/\K.lookup f=some ⟨oc,od,.func fd,osl⟩/\PySem.W.codeIn K cdv qual=true
 kp:PySem.W.keepIn K (.ref f)=true
 dt:∃(o:Obj) (n:Nat),K.lookup T=some o/\o.data=.seq items n
section
variable{P:Program}{w:World}{K:PySem.W.Frag}{mg:Str->Option Value}{base:Heap}
theorem W8.ok{x qual:Str}{st:Stmt}{f T:Addr}{items:Array Value}{fd:FuncData}{N ps:List Str}{k:Nat}{sp:Sp}(F:W8 K x qual st f fd T items)(S:A3 N ps (z08 st))(len:∀vs H Q E,sp vs H Q E->vs.length=ps.length)
  (U6:∀(cdv:Value) (A:Around) (outer:List Env) (s:Shared) (H:Hp) (vs:List V) (Q:VK) (E:XK),E3 k (A.deeper (envOfC qual (z08 st) s.heap.objs.size f cdv))->sp vs H Q E->
   ∃t,PSs (J1 CX0 P w K mg base N qual (z08 st) f cdv A outer s H E).nox (z1k st) t/\t { nx:=fun _ H'=>Q .non H',rt:=Q } (z5A N vs) H):A8 P w K mg base CX0 (k+1) f fd ps sp:=by
 obtain⟨oc,od,kV,doc,pm,an,cdv,ct,osl,rfl,lk,hcd⟩:=F.ex
 refine y6i lk hcd S len fun A outer s H vs Q E hr hsp=>?_
 obtain⟨t,h,q⟩:=U6 cdv A outer s H vs Q E hr hsp
 exact⟨t,h.nox,q⟩
theorem W8.binds{x qual:Str}{st:Stmt}{f T:Addr}{items:Array Value}{fd:FuncData}{ps:List Str}{ds:List Value}(F:W8 K x qual st f fd T items)
  (h:∀(kV doc pm:Value) (an:Option Addr) (cdv ct:Value) (us:List Value),us.length+ds.length=ps.length->∃k,bindArgs (PySem.W.fnOf x qual (z1w st) (z1k st) (z08 st) (.ref T) kV doc pm an cdv ct) ⟨us,[]⟩=seqItems? (.ref T) >>= k/\k (some items)=pure (ps.zip (us++ds))):z1u K fd ps ds:=by
 obtain⟨oc,od,kV,doc,pm,an,cdv,ct,osl,rfl,lk,hcd⟩:=F.ex
 obtain⟨o,n,lt,hs⟩:=F.dt
 intro s us KX hl
 rw[bF] at hl
 obtain⟨k,h1,h2⟩:=h kV doc pm an cdv ct us hl
 exact .of_defaults rfl (KX _ _ lt) hs h1 h2
theorem y6C{x qual:Str}{st:Stmt}{f T:Addr}{oc oct:Value}{od odt an:Option Addr}{osl oslt:Array (Option Value)}{items:Array Value}{n:Nat}{kV doc pm cdv ct:Value}(l:K.lookup f=some ⟨oc,od,.func (PySem.W.fnOf x qual (z1w st) (z1k st) (z08 st) (.ref T) kV doc pm an cdv ct),osl⟩)
  (lt:K.lookup T=some ⟨oct,odt,.seq items n,oslt⟩) (c:PySem.W.codeIn K cdv qual=true) (k:PySem.W.keepIn K (.ref f)=true):W8 K x qual st f (PySem.W.fnOf x qual (z1w st) (z1k st) (z08 st) (.ref T) kV doc pm an cdv ct) T items:=⟨⟨oc,od,kV,doc,pm,an,cdv,ct,osl,rfl,l,c⟩,k,_,n,lt,rfl⟩
end
structure w0d(P:Program)(w:World)(K:PySem.W.Frag)(mg:Str->Option Value)(base:Heap)(k:Nat)(C:Addr)(m:Str)(ps:List Str)(sp:Sp)(dvs:List V):Prop where
 cl:Cls K C
 ex:∃(f:Addr) (fd:FuncData) (ds:List Value),A8 P w K mg base CX0 k f fd ps sp/\z1u K fd ps ds/\Vals dvs ds/\Meth K C m f
theorem w0d.mk'{P:Program}{w:World}{K:PySem.W.Frag}{mg:Str->Option Value}{base:Heap}{k:Nat}{C:Addr}{m:Str}{ps:List Str}{sp:Sp}{dvs:List V}{ds:List Value}{f:Addr}{fd:FuncData}(v:Vals dvs ds)(c:Cls K C)(a:A8 P w K mg base CX0 k f fd ps sp)(b:z1u K fd ps ds)(d:Meth K C m f) :
  w0d P w K mg base k C m ps sp dvs:=⟨c,f,fd,ds,a,b,v,d⟩
end L2
namespace HT
open PySem PySem.Spec PyProof.Rows L2
section
variable{prog:Program}{w:World}{A:Around}{E:Value->Shared->Prop}{s:Shared}
theorem z6c{t sl:Addr}{items:Array Value}{vl vu:Value}{lo hi:Option Int}{Q:Value->Shared->Prop}(ht:IsTup s.heap t items)(hs:s.heap.IsSliceOf sl vl vu .none)(pl:IsPart vl lo)(pu:IsPart vu hi)
  (hw:sIx items.size 0 lo=0/\sIx items.size items.size hi=items.size) (h:Q (.ref t) s):wpAny (model prog w) A (getItem (.ref t) (.ref sl)) Q E s:=by
 obtain⟨os,hos,hcs,hds⟩:=id hs
 have hTs:s.TypeIs (.ref sl) "slice":=⟨os,hos,hcs⟩
 unfold getItem
 try with_reducible refine wpAny_holding ?_
 first|refine wpAny_bind (wpAny_pure ?_)|skip
 refine wpAny_bind (wpAny_sequenceKey ht.typeIs (by decide) ?_)
 refine wpAny_bind (wpAny_callSpecial?_slot (name:=Str.ofString "__getitem__") ht.typeIs cV
  (wpAny_call_entry cV ht.typeIs entry_tuple_getitem ?_ (args_tuple_getitem _ _)))
 show wpAny _ _ (Builtin.Tuple.tupleItemsOf (.ref t) >>= _) _ _ s
 refine wpAny_bind (tupleItemsOf_ ht ?_)
 refine wpAny_bind (wpAny_typeOf hTs ?_)
 rw[if_pos (by decide)]
 refine wpAny_bind (z3V hs pl pu ?_)
 have hyes:(((sIx items.size 0 lo:Nat):Int) == 0 && (1:Int) == 1 && (sIx items.size items.size hi-sIx items.size 0 lo) == items.size)=true:=by
  rw[hw.1,hw.2]
  simp
 show wpAny _ _ (if (((sIx items.size 0 lo:Nat):Int) == 0 && (1:Int) == 1 && (sIx items.size items.size hi-sIx items.size 0 lo) == items.size)=true then _ else _) _ _ s
 rw[if_pos hyes]
 refine wpAny_bind (m:=Builtin.Tuple.tupleIsExact _) (wpAny_bind (wpAny_typeOf ht.typeIs (wpAny_pure ?_)))
 rw[if_pos (by decide)]
 refine wpAny_bind (wpAny_rule ?_)
 exact wpAny_pure ⟨_,rfl,wpAny_pure h⟩
end
end HT
namespace L2
open PySem PySem.Spec PyProof.Rows
noncomputable def z2g:List V->List V->Bool
 | [],[]=>true
 | x::xs,y::ys=>eqV x y && z2g xs ys
 | _,_=>false
theorem y1S:∀xs ys:List V,((List.range (min xs.length ys.length)).all (fun j=>eqV (xs.getD j .non) (ys.getD j .non)) && xs.length == ys.length)=z2g xs ys
 | [],[]=>rfl
 | [],_::_=>rfl
 | _::_,[]=>rfl
 | x::xs,y::ys=>by
  have ih:=y1S xs ys
  unfold z2g
  rw[<- ih,bY,bY,Nat.succ_min_succ,List.range_succ_eq_map,dW,j8,Bool.and_assoc]
  congr 1
  congr 1
  rw[d8]
  simp
theorem z9l:∀{x:V},z1t x=true->eqV x x=true:=fun {x} h=>by
 cases x with
 | non=>rfl
 | bl b=>exact beq_self_eq_true b
 | int i=>exact beq_self_eq_true i
 | str z=>exact beq_self_eq_true z
 | _=>exact absurd (show false=true from h) bO
theorem z69:∀{xs:List V},xs.all z1t=true->z2g xs xs=true
 | [],_=>rfl
 | x::xs,h=>by
  rw[dW,bU] at h
  unfold z2g
  rw[z9l h.1,z69 h.2]
  rfl
theorem z9a:∀{xs:List V}{us:List Value},Vals xs us->xs.all z1t=true->∀(j:Nat) (h:j<us.length),RelV (xs.getD j .non) us[j]/\z1t (xs.getD j .non)=true
 | _,_,.nil,_,j,h=>absurd h (fR _)
 | x::xs,u::us,.cons r t,f,0,h=>by
  rw[dW,bU] at f
  exact⟨r,f.1⟩
 | x::xs,u::us,.cons r t,f,j+1,h=>by
  rw[dW,bU] at f
  exact z9a t f.2 j (Nat.lt_of_succ_lt_succ h)
noncomputable def eqI:List Value->List V->Bool
 | [],[]=>true
 | u::us,x::xs=>eqU x u && eqI us xs
 | _,_=>false
theorem y06:∀{ys:List V}{us:List Value} (xs:List V),Vals ys us->ys.all z1t=true->eqI us xs=z2g ys xs
 | _,_,[],.nil,_=>rfl
 | _,_,_::_,.nil,_=>rfl
 | y::ys,u::us,[],.cons r t,f=>rfl
 | y::ys,u::us,x::xs,.cons r t,f=>by
  rw[dW,bU] at f
  unfold eqI z2g
  rw[y01 r f.1,y06 xs t f.2]
section
variable{X:Cx}
theorem y17{A:Around}{s:Shared}{a b:Addr}{its N1:List Value}{xs ys:List V}(pl:s.heap.IsTuple a its.toArray)(pl2:s.heap.IsTuple b N1.toArray)(r:Vals xs its)(r2:Vals ys N1)(f:xs.all z1t=true)(f2:ys.all z1t=true)(hu:A.units<cLine) :
  SeqAt.RcAt A s (.ref a) (.ref b) (z2g xs ys):=by
 have h:=SeqAt.RcAt.tuples (e:=fun j=>eqV (xs.getD j .non) (ys.getD j .non)) pl pl2 hu fun j h1 h2=>by
  rw[bE] at h1 h2
  obtain⟨q1,q2⟩:=z9a r f j h1
  obtain⟨q3,q4⟩:=z9a r2 f2 j h2
  exact y5K q1 q3 q2 q4
 rw[bE,bE,<- r.length,<- r2.length,y1S] at h
 exact h
noncomputable def rEqT(K:PySem.W.Frag):R2:=fun x y H Q=>∃a b xs ys,x=.ref a/\y=.ref b/\SqT K H a xs/\SqT K H b ys/\xs.all z1t=true/\ys.all z1t=true/\Q (.bl (z2g xs ys)) H
theorem y7a(hu:X.A.units<cLine):OpR X (compareOp .Eq) (rEqT X.K):=by
 intro pins s σ H x y v u Q I rx ry h
 obtain⟨a,b,xs,ys,rfl,rfl,ha,hb,f1,f2,q⟩:=h
 cases rx
 cases ry
 obtain⟨its,r,pl,hz⟩:=I.tuple ha
 obtain⟨N1,r2,pl2,hz2⟩:=I.tuple hb
 exact y17 pl pl2 r r2 f1 f2 hu X.prog X.w X.xe _ ⟨.bl _,H,I,rfl,q⟩
noncomputable def z1P(s:Shared)(xs:List V):Value->Bool
 | .ref b=>match s.heap.get? b with
  | some o=>match o.data with
   | .seq its _=>eqI its.toList xs
   | _=>false
  | none=>false
 | _=>false
noncomputable def y6q(K:PySem.W.Frag):R2:=fun x y H Q=>∃a p xs us yss,x=.ref a/\y=.ref p/\SqT K H a xs/\xs.all z1t=true/\SqL K H p us/\Paired (fun u ys=>∃b,u=.ref b/\SqT K H b ys/\ys.all z1t=true) us yss/\Q (.bl (!yss.any fun ys=>z2g ys xs)) H
theorem y0b(hu:X.A.units+1<cLine):OpR X (compareOp .NotIn) (y6q X.K):=by
 intro pins s σ H x y v u Q I rx ry h
 obtain⟨a,p,xs,us,yss,rfl,rfl,ha,f1,hp,pr,q⟩:=h
 cases rx
 cases ry
 obtain⟨its,r,pl,hz⟩:=I.tuple ha
 obtain⟨N1,r2,pl2,hz2⟩:=I.list hp
 have item:∀(b:Addr) (ys:List V),SqT X.K H b ys->ys.all z1t=true->z1P s xs (.ref b)=z2g ys xs/\SeqAt.EqAt X.A.in1 s (.ref b) (.ref a) (z2g ys xs):=fun b ys hb fb=>by
  obtain⟨its3,r3,pl3,hz3⟩:=I.tuple hb
  have e1:z1P s xs (.ref b)=z2g ys xs:=by
   obtain⟨o,ho,hc,n,hd⟩:=pl3
   unfold z1P
   simp only[ho,hd]
   exact y06 xs r3 fb
  refine⟨e1,?_⟩
  by_cases hne:b=a
  ·subst hne
   have e2:z2g ys xs=true:=by
    rw[<- e1]
    obtain⟨o,ho,hc,n,hd⟩:=pl
    unfold z1P
    simp only[ho,hd]
    rw[y06 xs r f1]
    exact z69 f1
   rw[e2]
   exact SeqAt.EqAt.same _
  ·exact SeqAt.EqAt.of_refs hne (y17 pl3 pl r3 r fb f1 hu)
 have all:∀{us:List V}{yss:List (List V)}{vs:List Value},Paired (fun u ys=>∃b,u=.ref b/\SqT X.K H b ys/\ys.all z1t=true) us yss->Vals us vs->vs.any (z1P s xs)=yss.any (fun ys=>z2g ys xs)/\∀v∈vs,SeqAt.EqAt X.A.in1 s v (.ref a) (z1P s xs v):=by
  intro us yss vs pr
  induction pr generalizing vs with
  | nil=>
   intro r
   cases r
   exact⟨rfl,fun v hv=>(nomatch hv)⟩
  | cons h t ih=>
   intro r
   cases r with
   | cons r1 rt=>
    obtain⟨b,rfl,hb,fb⟩:=h
    cases r1
    obtain⟨i1,i2⟩:=ih rt
    obtain⟨j1,j2⟩:=item b _ hb fb
    refine⟨by rw[eV,eV,i1,j1],fun v hv=>?_⟩
    rcases bC.mp hv with rfl|hv
    ·rw[j1];exact j2
    ·exact i2 v hv
 obtain⟨a1,a2⟩:=all pr r2
 refine SeqAt.notIn_listAt (z1P s xs) pl2.isList (fun w hw=>a2 w (by simpa using hw)) ⟨.bl _,H,I,rfl,?_⟩
 rw[show N1.toArray.any (z1P s xs)=N1.any (z1P s xs) by simp,a1]
 exact q
end
noncomputable def rSlA(K:PySem.W.Frag):V->Option Int->Option Int->Hp->VK->Prop:=fun x lo hi H Q=>∃a xs,x=.ref a/\SqT K H a xs/\((HT.sIx xs.length 0 lo=0/\HT.sIx xs.length xs.length hi=xs.length)->Q (.ref a) H)/\
 (¬(HT.sIx xs.length 0 lo=0/\HT.sIx xs.length xs.length hi=xs.length)->∀p,H p=none->Q (.ref p) (upd H p (.tup (S9 xs lo hi))))
theorem y6J{X:Cx}:SlR X (rSlA X.K):=by
 intro pins s σ H x v vl vu lo hi sl Q I rx hs pl pu h
 obtain⟨a,xs,rfl,hx,q1,q2⟩:=h
 by_cases hw:HT.sIx xs.length 0 lo=0/\HT.sIx xs.length xs.length hi=xs.length
 ·cases rx
  obtain⟨its,r,ht,hz⟩:=I.tuple hx
  have hlen:its.toArray.size=xs.length:=by rw[bE];exact r.length.symm
  exact⟨"tuple",_,cV.lookup,ht.typeIs,HT.z6c ht hs pl pu (by rw[hlen];exact hw) ⟨.ref a,H,I,rfl,q1 hw⟩⟩
 ·exact y5v pins s σ H (.ref a) v vl vu lo hi sl Q I rx hs pl pu ⟨a,xs,rfl,hx,hw,q2 hw⟩
section
variable{X:Cx}{tg:Expr}
end
noncomputable def tCut(t u:TS):TS:=fun D σ H=>∃W:St->Hp->Prop,t { D with nx:=W } σ H/\∀σ' H',W σ' H'->u D σ' H'
theorem z6e{X:Cx}{st:Stmt}{rest:List Stmt}{t u:TS}(h1:PS X st t)(h2:PSs X rest u):PSs X (st::rest) (tCut t u):=by
 intro pins s σ H D I h
 obtain⟨W,h,hw⟩:=h
 refine wpAny_execs_cons (thn (h1 pins s σ H { D with nx:=W } I h) fun f s1 q=>?_)
 cases f with
 | next=>
  obtain⟨σ',H',I',q⟩:=q
  exact h2 pins s1 σ' H' D I' (hw σ' H' q)
 | ret v=>exact q
 | brk=>exact q
 | cont=>exact q
theorem len7{us:List Value}{p:List Value->Prop}(h:us.length=7)(k:∀a b c d e f g,p [a,b,c,d,e,f,g]):p us:=by
 match us,h with
 | [a,b,c,d,e,f,g],_=>exact k a b c d e f g
end L2
namespace HT
open PySem PySem.Spec PyProof.Rows L2
section
variable{prog:Program}{w:World}{A:Around}{E:Value->Shared->Prop}{s:Shared}
end
end HT
namespace L2
open PySem PySem.Spec PyProof.Rows
section
variable{X:Cx}
theorem z2B(zs:List Str):(zs.map V.str).all z1t=true:=by
 rw[j8,eF]
 intro z _
 rfl
end
noncomputable def DfK(K:PySem.W.Frag)(x q:Str)(st:Stmt)(dV:Value)(f:Addr):Prop:=∃(oc:Value) (od:Option Addr) (kV doc pm:Value) (an:Option Addr) (cdv ct:Value) (osl:Array (Option Value)),
 K.lookup f=some ⟨oc,od,.func (PySem.W.fnOf x q (z1w st) (z1k st) (z08 st) dV kV doc pm an cdv ct),osl⟩/\PySem.W.codeIn K cdv q=true/\PySem.W.keepIn K (.ref f)=true
noncomputable def DfT(K:PySem.W.Frag)(x:Str)(st:Stmt)(dV:Value)(f:Addr):Prop:=PySem.W.nsIn K mainGlobals x=some (some (.ref f))/\DfK K x x st dV f
noncomputable def DfM(K:PySem.W.Frag)(C:Addr)(x q:Str)(st:Stmt)(dV:Value)(f:Addr):Prop:=PySem.W.findIn K (.ref C) x=some (some (.ref f))/\PySem.W.isFn K (.ref f)=true/\DfK K x q st dV f
noncomputable def DfD(K:PySem.W.Frag)(T:Addr)(its:Array Value):Prop:=∃oct odt nt slt,K.lookup T=some ⟨oct,odt,.seq its nt,slt⟩
noncomputable def DfC(K:PySem.W.Frag)(x:Str)(C:Addr):Prop:=PySem.W.nsIn K mainGlobals x=some (some (.ref C))/\PySem.W.plainGet K C Str.empty=true/\PySem.W.hasDictIn K C=true/\PySem.W.plainOver K C=true/\PySem.W.findIn K (.ref C) "__setattr__"=some (some (.builtin "object.__setattr__"))/\PySem.W.makesIn K C=true/\PySem.W.keepIn K (.ref C)=true
section
variable{K:PySem.W.Frag}{mg:Str->Option Value}{x q:Str}{st:Stmt}{f C T:Addr}{fd:FuncData}{its:Array Value}
theorem DfK.fn(h:DfK K x q st .none f):∃fd,Fun K x q st f fd:=by
 obtain⟨oc,od,kV,doc,pm,an,cdv,ct,osl,l,c,k⟩:=h
 exact⟨_,y7H l c k⟩
theorem DfK.fnD(h:DfK K x q st (.ref T) f)(d:DfD K T its):∃fd,W8 K x q st f fd T its:=by
 obtain⟨oc,od,kV,doc,pm,an,cdv,ct,osl,l,c,k⟩:=h
 obtain⟨_,_,_,_,d⟩:=d
 exact⟨_,y6C l d c k⟩
theorem z0J{h:Heap}(X:K.In h)(G:h.Ns mainGlobals mg)(a:DfT K x st .none f):∃fd,Fun K x x st f fd/\mg x=some (.ref f):=by
 obtain⟨fd,F⟩:=a.2.fn
 exact⟨fd,F,cI X G a.1⟩
theorem z1I(a:DfM K C x q st .none f):∃fd,Fun K x q st f fd/\Meth K C x f:=by
 obtain⟨fd,F⟩:=a.2.2.fn
 exact⟨fd,F,a.1,a.2.1,F.kp⟩
theorem y5h(a:DfM K C x q st (.ref T) f)(d:DfD K T its):∃fd,W8 K x q st f fd T its/\Meth K C x f:=by
 obtain⟨fd,F⟩:=a.2.2.fnD d
 exact⟨fd,F,a.1,a.2.1,F.kp⟩
theorem y0K{y:Str}(c:DfC K y C)(a:DfM K C "__init__" q st .none f):∃fd,Fun K "__init__" q st f fd/\Mk K C f:=by
 obtain⟨fd,F⟩:=a.2.2.fn
 exact⟨fd,F,c.2.2.2.2.2.1,a.1,a.2.1,c.2.2.2.2.2.2⟩
theorem DfC.cls{y:Str}(c:DfC K y C):Cls K C:=⟨c.2.1,c.2.2.1,c.2.2.2.1,c.2.2.2.2.1⟩
theorem DfC.nm{h:Heap}(X:K.In h)(G:h.Ns mainGlobals mg){y:Str}(c:DfC K y C):mg y=some (.ref C):=cI X G c.1
theorem y3V{p:Str}(F:Fun K x q st f fd)(h:∀kV doc pm an cdv ct v,bindArgs (PySem.W.fnOf x q (z1w st) (z1k st) (z08 st) .none kV doc pm an cdv ct) ⟨[v],[]⟩=pure [(p,v)]:=by intros;rfl):∀(s:Shared) (v:Value),BindsTo s fd ⟨[v],[]⟩ [(p,v)]:=by
 obtain⟨oc,od,kV,doc,pm,an,cdv,ct,osl,rfl,l,c⟩:=F.ex
 exact fun s v=>.of_eq (h _ _ _ _ _ _ _)
theorem b0(F:Fun K x q st f fd)(h:∀kV doc pm an cdv ct,bindArgs (PySem.W.fnOf x q (z1w st) (z1k st) (z08 st) .none kV doc pm an cdv ct) ⟨[],[]⟩=pure (List.zip [] []):=by intros;rfl):z1u K fd [] []:=
 F.binds fun kV doc pm an cdv ct us hl=>len0 (p:=fun us=>bindArgs _ ⟨us,[]⟩=pure (List.zip _ us)) hl (h kV doc pm an cdv ct)
theorem b1{p1:Str}(F:Fun K x q st f fd)(h:∀kV doc pm an cdv ct a,bindArgs (PySem.W.fnOf x q (z1w st) (z1k st) (z08 st) .none kV doc pm an cdv ct) ⟨[a],[]⟩=pure (List.zip [p1] [a]):=by intros;rfl):z1u K fd [p1] []:=
 F.binds fun kV doc pm an cdv ct us hl=>Z5 (p:=fun us=>bindArgs _ ⟨us,[]⟩=pure (List.zip _ us)) hl (h kV doc pm an cdv ct)
theorem b2{p1 p2:Str}(F:Fun K x q st f fd)(h:∀kV doc pm an cdv ct a b,bindArgs (PySem.W.fnOf x q (z1w st) (z1k st) (z08 st) .none kV doc pm an cdv ct) ⟨[a,b],[]⟩=pure (List.zip [p1,p2] [a,b]):=by intros;rfl):z1u K fd [p1,p2] []:=
 F.binds fun kV doc pm an cdv ct us hl=>w1e (p:=fun us=>bindArgs _ ⟨us,[]⟩=pure (List.zip _ us)) hl (h kV doc pm an cdv ct)
theorem b3{p1 p2 p3:Str}(F:Fun K x q st f fd)(h:∀kV doc pm an cdv ct a b c,bindArgs (PySem.W.fnOf x q (z1w st) (z1k st) (z08 st) .none kV doc pm an cdv ct) ⟨[a,b,c],[]⟩=pure (List.zip [p1,p2,p3] [a,b,c]):=by intros;rfl):z1u K fd [p1,p2,p3] []:=
 F.binds fun kV doc pm an cdv ct us hl=>w15 (p:=fun us=>bindArgs _ ⟨us,[]⟩=pure (List.zip _ us)) hl (h kV doc pm an cdv ct)
theorem b4{p1 p2 p3 p4:Str}(F:Fun K x q st f fd)(h:∀kV doc pm an cdv ct a b c d,bindArgs (PySem.W.fnOf x q (z1w st) (z1k st) (z08 st) .none kV doc pm an cdv ct) ⟨[a,b,c,d],[]⟩=pure (List.zip [p1,p2,p3,p4] [a,b,c,d]):=by intros;rfl):z1u K fd [p1,p2,p3,p4] []:=
 F.binds fun kV doc pm an cdv ct us hl=>len4 (p:=fun us=>bindArgs _ ⟨us,[]⟩=pure (List.zip _ us)) hl (h kV doc pm an cdv ct)
theorem b5{p1 p2 p3 p4 p5:Str}(F:Fun K x q st f fd)(h:∀kV doc pm an cdv ct a b c d e,bindArgs (PySem.W.fnOf x q (z1w st) (z1k st) (z08 st) .none kV doc pm an cdv ct) ⟨[a,b,c,d,e],[]⟩=pure (List.zip [p1,p2,p3,p4,p5] [a,b,c,d,e]):=by intros;rfl):z1u K fd [p1,p2,p3,p4,p5] []:=
 F.binds fun kV doc pm an cdv ct us hl=>len5 (p:=fun us=>bindArgs _ ⟨us,[]⟩=pure (List.zip _ us)) hl (h kV doc pm an cdv ct)
theorem b7{p1 p2 p3 p4 p5 p6 p7:Str}(F:Fun K x q st f fd)(h:∀kV doc pm an cdv ct a b c d e g i,bindArgs (PySem.W.fnOf x q (z1w st) (z1k st) (z08 st) .none kV doc pm an cdv ct) ⟨[a,b,c,d,e,g,i],[]⟩=pure (List.zip [p1,p2,p3,p4,p5,p6,p7] [a,b,c,d,e,g,i]):=by intros;rfl):z1u K fd [p1,p2,p3,p4,p5,p6,p7] []:=
 F.binds fun kV doc pm an cdv ct us hl=>len7 (p:=fun us=>bindArgs _ ⟨us,[]⟩=pure (List.zip _ us)) hl (h kV doc pm an cdv ct)
end
theorem calF(P:Program)(w:World)(K:PySem.W.Frag)(mg:Str->Option Value)(base:Heap){k:Nat}{x:Str}{ps:List Str}{sp:Sp}{st:Stmt}{f:Addr}{fd:FuncData}(F:Fun K x x st f fd/\mg x=some (.ref f))(a:A8 P w K mg base CX0 k f fd ps sp)(b:z1u K fd ps []):Cal P w K mg base k x ps sp:=.mk' a b F.1.kp F.2
theorem mclF(P:Program)(w:World)(K:PySem.W.Frag)(mg:Str->Option Value)(base:Heap){k:Nat}{C:Addr}{x q:Str}{ps:List Str}{sp:Sp}{st:Stmt}{f:Addr}{fd:FuncData}(c:Cls K C)(F:Fun K x q st f fd/\Meth K C x f)(a:A8 P w K mg base CX0 k f fd ps sp)(b:z1u K fd ps []):D7 P w K mg base k C x ps sp:=.mk' c a b F.2
theorem mkrF(P:Program)(w:World)(K:PySem.W.Frag)(mg:Str->Option Value)(base:Heap){k:Nat}{C:Addr}{x y q:Str}{ps:List Str}{sp:Sp}{st:Stmt}{f:Addr}{fd:FuncData}(c:mg x=some (.ref C))(F:Fun K y q st f fd/\Mk K C f)(a:A8 P w K mg base CX0 k f fd ps sp)(b:z1u K fd ps []):Mkr P w K mg base k C x ps sp:=.mk' a b F.2 c
theorem scp{N P:List Str}{sc:Scope}(h1:sc.kind=.function:=by rfl)(h2:sc.isCoroutine=false:=by rfl)(h3:sc.isGenerator=false:=by rfl)(h4:N.Nodup:=by decide +kernel)(h5:N.take P.length=P:=by rfl)
  (h6:∀x∈P,sc.names.lookup x=some .local\/sc.names.lookup x=some .cell:=by decide +kernel) (h7:∀y∈sc.names,y.2≠.free:=by decide +kernel):A3 N P sc:=⟨h1,h2,h3,h4,h5,h6,h7⟩
theorem rm{j k:Nat}{A:Around}(r:E3 k A)(h:j≤k:=by lia):E3 j A:=r.mono h
theorem Cal.up{P:Program}{w:World}{K:PySem.W.Frag}{mg:Str->Option Value}{base:Heap}{j k:Nat}{x:Str}{ps:List Str}{sp:Sp}(G:Cal P w K mg base j x ps sp)(h:j≤k:=by decide):Cal P w K mg base k x ps sp:=G.mono h
theorem D7.up{P:Program}{w:World}{K:PySem.W.Frag}{mg:Str->Option Value}{base:Heap}{j k:Nat}{C:Addr}{x:Str}{ps:List Str}{sp:Sp}(G:D7 P w K mg base j C x ps sp)(h:j≤k:=by decide):D7 P w K mg base k C x ps sp:=G.mono h
theorem Mkr.up{P:Program}{w:World}{K:PySem.W.Frag}{mg:Str->Option Value}{base:Heap}{j k:Nat}{C:Addr}{x:Str}{ps:List Str}{sp:Sp}(G:Mkr P w K mg base j C x ps sp)(h:j≤k:=by decide):Mkr P w K mg base k C x ps sp:=G.mono h
section
variable{X:Cx}{mg:Str->Option Value}
end
end L2
namespace HT
open PySem PySem.Spec PyProof.Rows L2
section
variable{prog:Program}{w:World}{A:Around}{E:Value->Shared->Prop}{s:Shared}
end
end HT
namespace L2
open PySem PySem.Spec PyProof.Rows
section
variable{X:Cx}{es:List Expr}{ec:Nat}{tp:Pos}
end
section
variable{X:Cx}
end
end L2
namespace HT
open PySem PySem.Spec PyProof.Rows L2
section
variable{prog:Program}{w:World}{A:Around}{E:Value->Shared->Prop}{s:Shared}
end
end HT
namespace L2
open PySem PySem.Spec PyProof.Rows PySem.Builtin PySem.Builtin.Str
section
variable{X:Cx}
noncomputable def y75:V->List V->Hp->VK->Prop:=fun x vs H Q=>∃z,x=.str z/\vs=[]/\tooLong (Txt.upper z).length=false/\Q (.str (Txt.upper z)) H
noncomputable def y7E:V->List V->Hp->VK->Prop:=fun x vs H Q=>∃z,x=.str z/\vs=[]/\tooLong (Txt.lower z).length=false/\Q (.str (Txt.lower z)) H
theorem y58:MtM X "str.upper" y75:=by
 intro pins s σ H x vs v us Q I rx rv h
 obtain⟨z,rfl,rfl,hz,q⟩:=h
 obtain⟨t,rfl⟩:=rx
 cases rv
 exact PySem.W.KXw.upper rfl hz fun t' k=>⟨.str _,H,I.tok _,⟨_,rfl⟩,q⟩
theorem y4z:MtM X "str.lower" y7E:=by
 intro pins s σ H x vs v us Q I rx rv h
 obtain⟨z,rfl,rfl,hz,q⟩:=h
 obtain⟨t,rfl⟩:=rx
 cases rv
 exact PySem.W.KXw.lower rfl hz fun t' k=>⟨.str _,H,I.tok _,⟨_,rfl⟩,q⟩
theorem up3:∀p∈UnicodeData.severalUpper,p.2.length≤3:=by decide +kernel
theorem lo3:∀p∈UnicodeData.severalLower,p.2.length≤3:=by decide +kernel
theorem y5s{l:List (Nat×List Nat)}(h:∀p∈l,p.2.length≤3){c:Nat}{cs:List Nat}(e:l.lookup c=some cs):cs.length≤3:=by
 induction l with
 | nil=>cases e
 | cons p l ih=>
  obtain⟨a,b⟩:=p
  rw[e8] at e
  split at e
  ·cases e
   exact h (a,cs) bX
  ·exact ih (fun q hq=>h q (bP _ hq)) e
theorem z9F{o:List (Nat×Nat×Nat)}{l:List (Nat×List Nat)}(h:∀p∈l,p.2.length≤3)(c:Nat):(Unicode.image o l c).length≤3:=by
 unfold Unicode.image
 split
 ·rename_i cs e
  exact y5s h e
 ·exact(by decide:1≤3)
theorem y0D(s:Array Nat)(i:Nat):(Unicode.lowerAt s i).length≤3:=by
 unfold Unicode.lowerAt
 split
 ·exact cQ _
 ·split
  ·exact(by decide:1≤3)
  ·exact z9F lo3 _
theorem sum3:∀{l:List Nat},(∀n∈l,n≤3)->l.sum≤3*l.length
 | [],_=>cQ _
 | a::l,h=>by
  have:=sum3 fun n hn=>h n (bP a hn)
  have:=h a bX
  rw[List.sum_cons,bY]
  lia
theorem z8y{x:Str}{f:Nat->Nat->List Nat}(h:∀i c,(f i c).length≤3):(placed x f).size≤3*x.length:=by
 unfold placed
 rw[Array.size_flatten]
 have e:=sum3 (l:=((x.cps.mapIdx fun i c=>(f i c).toArray).map Array.size).toList) fun n hn=>by
  rw[Array.toList_map,cF] at hn
  obtain⟨a,ha,rfl⟩:=hn
  obtain⟨i,hi,rfl⟩:=Array.mem_mapIdx.mp (hV.mpr ha)
  exact h _ _
 rw[eM,Array.size_map,Array.size_mapIdx] at e
 rw[<- Array.sum_toList]
 exact e
theorem y46(x:Str):(Txt.upper x).length≤3*x.length:=z8y fun _ c=>z9F up3 c
theorem y37(x:Str):(Txt.lower x).length≤3*x.length:=z8y fun i _=>y0D x.cps i
end
end L2
namespace L2
open PySem PySem.Spec PyProof.Rows PySem.Builtin PySem.Builtin.Str
noncomputable def T7(fs:List Addr)(h h':Heap)(H':Hp)(B:Heap):Prop:=∀b o,h'.get? b=some o->b∉fs->(H' b≠none\/∃o0,h.get? b=some o0)->B.get? b=some o
noncomputable def CX1(P:Program)(w:World):CXT:=fun outer H s E e s'=>∃(a:Addr) (C:Value) (H':Hp) (B:Heap) (a0:Value),e=.ref a/\s'.os=s.os/\AllBare s'.gens/\Un (frs outer) [] H H' s.heap s'.heap/\HOk P w H' s'.heap/\
 Heap.FlyingW B outer a C a0 s'.heap/\T7 (frs outer) s.heap s'.heap H' B/\E C none H'
theorem z1o.there{P:Program}{w:World}{H:Hp}{h:Heap}{a:Addr}{o:HO}(x:z1o P w H h a o):∃u,h.get? a=some u:=by
 cases o with
 | lst xs=>obtain⟨_,_,_,_,e⟩:=x;exact⟨_,e⟩
 | tup xs=>obtain⟨_,_,_,o,e,_⟩:=x;exact⟨_,e⟩
 | dK kvs=>obtain⟨_,_,_,_,o,_,_,e,_⟩:=x;exact⟨_,e⟩
 | dT kvs=>obtain⟨_,_,_,_,o,_,_,e,_⟩:=x;exact⟨_,e⟩
 | set S n=>obtain⟨o,_,_,_,e,_⟩:=x;exact⟨_,e⟩
 | ins C dx fs=>obtain⟨_,_,_,e,_⟩:=x;exact⟨_,e⟩
 | own y=>exact x
 | xd fs=>obtain⟨_,⟨o,_,_,e,_⟩,_⟩:=x;exact⟨_,e⟩
 | rng lo hi=>obtain⟨_,_,_,e⟩:=x;exact⟨_,e⟩
 | frz o u=>exact⟨_,x.1⟩
 | tbl ps=>exact⟨_,(show h.get? a=some _ from x)⟩
 | met f y=>exact⟨_,(show h.get? a=some _ from x)⟩
 | ext φ=>obtain⟨_,e,_⟩:=x;exact e
section
variable{P:Program}{w:World}{fs:List Addr}{H H':Hp}{h h1 h2 B:Heap}
theorem T7.hok(st:T7 fs h h1 H' B)(k:B.StaysIn h2)(hf:∀b∈fs,H' b=none)(ok:HOk P w H' h1):HOk P w H' h2:=fun a o e=>by
 refine(ok a o e).W0 (fun b u hb q=>?_) (fun _ q=>q) (fun _ _ q=>q)
 have hn:H' b≠none:=by
  rcases hb with rfl|hb
  ·rw[e];exact fun z=>nomatch z
  ·rw[hb];exact fun z=>nomatch z
 exact k _ _ (st b u q (fun z=>hn (hf b z)) (.inl hn))
theorem T7.un(st:T7 fs h h1 H' B)(k:B.StaysIn h2)(us:h1.UpToSlots h2)(nf:∀b∈fs,∃o,h1.get? b=some o/\∀vs,o.data≠.fields vs)(u:Un fs [] H H' h h1):Un fs [] H H' h h2 where
 keep:=fun b o q n hb hx=>k _ _ (st b o (u.keep b o q n hb hx) hb (.inr ⟨o,q⟩))
 slot:=fun b o q n hb hx=>by
  obtain⟨sl,e⟩:=u.slot b o q n hb hx
  obtain⟨o1,e1,d1⟩:=nf b hb
  rw[e] at e1
  cases e1
  obtain⟨sl2,e2⟩:=us b _ e d1
  exact⟨sl2,e2⟩
 free:=u.free
 there:=fun b o q hx=>by
  obtain⟨o1,e1⟩:=u.there b o q hx
  by_cases hb:b∈fs
  ·obtain⟨o2,e2,d2⟩:=nf b hb
   obtain⟨sl,e3⟩:=us b o2 e2 d2
   exact⟨_,e3⟩
  ·exact⟨o1,k _ _ (st b o1 e1 hb (.inr ⟨o,q⟩))⟩
 R3:=u.R3
 Q7:=u.Q7
 R9:=u.R9
theorem T7.next(st:T7 fs h h1 H' B)(k:B.StaysIn h2)(ok:HOk P w H' h1)(hf:∀b∈fs,H' b=none)(th:∀b o,h.get? b=some o->∃o',h1.get? b=some o'):T7 fs h h2 H' B:=fun b o q hb hc=>by
 have:∃o1,h1.get? b=some o1:=by
  rcases hc with hc|⟨o0,e0⟩
  ·cases e:H' b with
   | none=>exact absurd e hc
   | some u=>exact(ok b u e).there
  ·exact th b o0 e0
 obtain⟨o1,e1⟩:=this
 have e2:=st b o1 e1 hb hc
 rw[k _ _ e2] at q
 cases q
 exact e2
end
section
variable{X:Cx}{pins:List (Addr×Obj)}{σ:St}{H H':Hp}{s:Shared}{h1 B:Heap}
theorem Inv.w03(I:Inv X pins σ H s){b:Addr}{o:Obj}(e:X.s₀.heap.get? b=some o):b≠X.env.locals:=fun z=>by
 subst z
 exact absurd (cN (bN e) I.ok.above) (d6 _)
theorem Inv.W4(I:Inv X pins σ H s)(hx:X.ex=[])(u:Un (frs X.stack) [] H H' s.heap h1):Un X.fs [] X.H₀ H' X.s₀.heap h1 where
 keep:=fun b o q n hb hc=>u.keep b o (I.base.keep b o q n hb (by rw[hx];exact hc)) (I.base.free b o q n (by rw[hx];exact hc)) (fun z=>(bC.mp (I.S1 b z)).elim (I.w03 q) hb) hc
 slot:=fun b o q n hb hc=>by
  obtain⟨sl,e⟩:=I.base.slot b o q n hb (by rw[hx];exact hc)
  obtain⟨sl2,e2⟩:=u.any e (I.base.free b o q n (by rw[hx];exact hc)) hc
  exact⟨sl2,e2⟩
 free:=fun b o q n hc=>by
  obtain⟨o1,e1⟩:=I.base.there b o q (by rw[hx];exact hc)
  exact u.free b o1 e1 (I.base.free b o q n (by rw[hx];exact hc)) hc
 there:=fun b o q hc=>by
  obtain⟨o1,e1⟩:=I.base.there b o q (by rw[hx];exact hc)
  exact u.there b o1 e1 hc
 R3:=fun b xs q=>u.R3 b xs (I.base.R3 b xs q)
 Q7:=fun b o v q=>u.Q7 b o v (I.base.Q7 b o v q)
 R9:=fun b ps q=>by
  obtain⟨m,e⟩:=I.base.R9 b ps q
  obtain⟨m2,e2⟩:=u.R9 b _ e
  exact⟨m++m2,by rw[e2,Array.append_assoc]⟩
theorem Inv.V5(I:Inv X pins σ H s)(hx:X.ex=[])(hf:∀b∈frs X.stack,H' b=none)(st:T7 (frs X.stack) s.heap h1 H' B):T7 X.fs X.s₀.heap h1 H' B:=fun b o q hb hc=>by
 refine st b o q (fun z=>?_) ?_
 ·rcases hc with hc|⟨o0,e0⟩
  ·exact hc (hf b z)
  ·exact(bC.mp (I.S1 b z)).elim (I.w03 e0) hb
 ·rcases hc with hc|⟨o0,e0⟩
  ·exact .inl hc
  ·exact .inr (I.base.there b o0 e0 (by rw[hx];exact fun z=>nomatch z))
end
section
variable{P:Program}{w:World}{K:PySem.W.Frag}{mg:Str->Option Value}{base:Heap}{N:List Str}{qual:Str}{scope:Scope}{f:Addr}{cd:Value}{A:Around}{outer:List Env}{s0:Shared}{H0:Hp}{E:XK}
theorem y7l:z6A (CX1 P w) (J1 (CX1 P w) P w K mg base N qual scope f cd A outer s0 H0 E) E:=by
 intro pins σ H s e s' I h
 obtain⟨a,C,H',B,a0,rfl,hos,hg,un,hok,fl,st,hE⟩:=h
 have hfr:=I.ok.frames
 have hf:∀b∈frs (envOfC qual scope s0.heap.objs.size f cd::outer),H' b=none:=fun b hb=>by
  obtain⟨_,o,ho,_⟩:=I.stack.mem hb
  exact un.free b o ho (I.P0 b hb) (fun z=>nomatch z)
 have nf:∀b∈frs (envOfC qual scope s0.heap.objs.size f cd::outer),∃o,s'.heap.get? b=some o/\∀vs,o.data≠.fields vs:=fun b hb=>(fl.2.2.1.mem hb).2
 show wpAny (model P w) (A.deeper (envOfC qual scope s0.heap.objs.size f cd)) (leaving (envOfC qual scope s0.heap.objs.size f cd) (.ref a)) _ _ s'
 refine wpAny_leaves_onW hfr rfl fl fun h' fl' us=>?_
 have un2:=st.un fl'.1 us nf un
 have ok2:HOk P w H' h':=st.hok fl'.1 hf hok
 have st2:=st.next fl'.1 hok hf (fun b o q=>un.there b o q (fun z=>nomatch z))
 exact⟨a,C,H',B,a0,rfl,hos.trans I.os,hg,I.W4 rfl un2,ok2,fl',I.V5 rfl hf st2,hE⟩
end
abbrev veL:List Value:=[.type "ValueError",.type "Exception",.type "BaseException",.type "object"]
structure Err(K:PySem.W.Frag)(mg:Str->Option Value)(x:Str)(C:Addr):Prop where
 mgC:mg x=some (.ref C)
 ex:PySem.W.excIn K C veL "ValueError.__new__"=true
theorem Err.obj{K:PySem.W.Frag}{mg:Str->Option Value}{x:Str}{C:Addr}{h:Heap}(E:Err K mg x C)(X:K.In h):OwnCls x C veL "ValueError.__new__" mg h:=by
 refine⟨E.mgC,?_⟩
 have q:=E.ex
 unfold PySem.W.excIn at q
 split at q
 ·rename_i dd cd sl ho
  split at q
  ·rename_i C' bm k0 k1 k2 k3 n k5 hm hs
   simp only[bU,beq_iff_eq,gC] at q
   obtain⟨⟨⟨⟨⟨rfl,rfl⟩,hdel⟩,ht⟩,hok⟩,hni⟩:=q
   obtain⟨nm,bs,mro,ns,qn,hd,sn,sub,ab,col,del⟩:=cd
   dsimp only at hm hdel hok hni
   subst hm hdel
   have hsl:sl=#[k0,k1,k2,k3,some (.builtin "ValueError.__new__"),k5]:=by
    obtain⟨l⟩:=sl
    simp only at hs
    rw[hs]
   subst hsl
   exact⟨bm,ns,nm,qn,bs,hd,sn,sub,ab,col,dd,k0,k1,k2,k3,k5,_,X _ _ ho,.of_isNs (PySem.W.isNs_of_in X hok),PySem.W.nsMap_none_of_in X hok hni,PySem.W.tail_of_in X ht⟩
  ·cases q
 ·cases q
noncomputable def y7j(C:Addr)(E:XK)(t:TA):TS:=fun _ σ H=>t σ H fun vs H1=>vs.length≤sizeLine/\E (.ref C) none H1
section
variable{P:Program}{w:World}{K:PySem.W.Frag}{mg:Str->Option Value}{base:Heap}{N:List Str}{qual:Str}{scope:Scope}{f:Addr}{cd:Value}{A:Around}{outer:List Env}{s0:Shared}{H0:Hp}{E:XK}
theorem z35{x:Str}{C:Addr}{e0:Expr}{es:List Expr}{t:TA}{np N2 pos:Pos}(er:Err K mg x C)(hg:Gl (J1 (CX1 P w) P w K mg base N qual scope f cd A outer s0 H0 E) x)
  (ha:PA (J1 (CX1 P w) P w K mg base N qual scope f cd A outer s0 H0 E) (e0::es) t)
  (hdb:(x == ("__debug__":Str))=false:=by decide)
  (he:starEach (e0::es) (J1 (CX1 P w) P w K mg base N qual scope f cd A outer s0 H0 E).env=(false,eval e0 (J1 (CX1 P w) P w K mg base N qual scope f cd A outer s0 H0 E).env)::starEach es (J1 (CX1 P w) P w K mg base N qual scope f cd A outer s0 H0 E).env:=by rfl)
  (hpl:(backTo N2 (starEach es (J1 (CX1 P w) P w K mg base N qual scope f cd A outer s0 H0 E).env)).any (·.1)=false:=by rfl) :
  PS (J1 (CX1 P w) P w K mg base N qual scope f cd A outer s0 H0 E) (.Raise (some (.Call (.Name x np) (e0::es) [] N2)) none pos) (y7j C E t):=by
 intro pins s σ H D I h
 obtain⟨bm,Ns,nm,q,bs,hdct,sn,sub,ab,col,dd,k0,k1,k2,k3,k5,mN,hC,hN,hni,T⟩:=(er.obj I.mod.kin).obj
 refine wpAny_Raise_call_subT (C:=C) (nm:=nm) (q:=q) (N:=Ns) (bs:=bs) (bm:=bm) (hdct:=hdct) (sn:=sn) (sub:=sub) (ab:=ab) (col:=col) (dd:=dd) (k0:=k0) (k1:=k1) (k2:=k2) (k3:=k3) (k5:=k5)
  fP (mN:=mN) (T.hasType fP.hasBase) (I.ok.hd rfl) (by rw[he];show(false || (backTo N2 (starEach es _)).any (·.1))=false;rw[hpl];rfl) hni (z53 I hg er.mgC ⟨rfl,?_⟩ hdb)
 have hA:=ha N2 pins s σ H _ I h
 rw[he] at hA ⊢
 refine Calls.evalArgs_plain (thn hA fun us s2 ⟨vs,H2,I2,r2,hz,hE⟩=>⟨rfl,by rw[<- r2.length];exact hz,I2.bk _ _ hC,hN.keeps I2.bk,T.keeps I2.bk,fun h' e hm=>?_⟩)
 show wpAny (model P w) (A.deeper (envOfC qual scope s0.heap.objs.size f cd)) (leaving (envOfC qual scope s0.heap.objs.size f cd) (.ref e)) _ _ _
 have sk:=I2.stack
 have hfr:=I2.ok.frames
 refine wpAny_leaves_madeW (base:=PySem.W.hideAll s2.heap (frs (envOfC qual scope s0.heap.objs.size f cd::outer))) (h:=s2.heap) hfr rfl (fun b o z=>PySem.W.of_hideAll _ z) (PySem.W.funFrames_hide sk fun env hv b hb=>hJ.mpr ⟨env,hv,hb⟩) hm fun h'' t' fl _ _ us'=>?_
 have hf:∀b∈frs (envOfC qual scope s0.heap.objs.size f cd::outer),H2 b=none:=I2.P0
 have ok1:HOk P w H2 h':=I2.hok.kept hm.keeps
 have un1:Un (frs (envOfC qual scope s0.heap.objs.size f cd::outer)) [] H2 H2 s2.heap h':=Un.kept hm.keeps
 have nf:∀b∈frs (envOfC qual scope s0.heap.objs.size f cd::outer),∃o,h'.get? b=some o/\∀vs,o.data≠.fields vs:=fun b hb=>by
  obtain⟨_,o,ho,hd⟩:=sk.mem hb
  exact⟨o,hm.keeps _ _ ho,hd⟩
 have st:T7 (frs (envOfC qual scope s0.heap.objs.size f cd::outer)) s2.heap h' H2 (PySem.W.hideAll s2.heap (frs (envOfC qual scope s0.heap.objs.size f cd::outer))):=fun b o z hb hc=>by
  have:∃o1,s2.heap.get? b=some o1:=by
   rcases hc with hc|hc
   ·cases e:H2 b with
    | none=>exact absurd e hc
    | some u=>exact(I2.hok b u e).there
   ·exact hc
  obtain⟨o1,e1⟩:=this
  rw[hm.keeps _ _ e1] at z
  cases z
  exact PySem.W.hideAll_get _ e1 hb
 have un2:=st.un fl.1 us' nf un1
 have ok2:HOk P w H2 h'':=st.hok fl.1 hf ok1
 have st2:=st.next fl.1 ok1 hf (fun b o z=>⟨o,hm.keeps _ _ z⟩)
 exact⟨e,.ref C,H2,_,_,rfl,I2.os,I2.bare,I2.W4 rfl un2,ok2,fl,I2.V5 rfl hf st2,hE⟩
end
section
variable{X:Cx}{e:Expr}{es:List Expr}{te:TE}{pos:Pos}
abbrev TJ:=Str->St->Hp->(Str->Hp->Prop)->Prop
noncomputable def PJ(X:Cx)(es:List Expr)(t:TJ):Prop:=∀(acc:Str) (pins:List (Addr×Obj)) (s:Shared) (σ:St) (H:Hp) (Q:Str->Hp->Prop),Inv X pins σ H s->t acc σ H Q->
 Joins (model X.prog X.w) X.A X.xe (evalEach es X.env) acc (fun out s1=>∃H',Inv X pins σ H' s1/\Q out H') s
theorem Joins.mono{M:Model}{A:Around}{E:Value->Shared->Prop}:∀{l:List (Sem Value)}{acc:Str}{Q Q':Str->Shared->Prop}{s:Shared},(∀o s,Q o s->Q' o s)->Joins M A E l acc Q s->Joins M A E l acc Q' s
 | [],acc,Q,Q',s,k,h=>k _ _ h
 | x::l,acc,Q,Q',s,k,h=>wpAny_mono h (fun v s1 ⟨y,t,e,z,r⟩=>⟨y,t,e,z,Joins.mono k r⟩) fun _ _ x=>x
theorem y1s:PJ X [] (fun acc _ H Q=>Q acc H):=fun acc pins s σ H Q I h=>⟨H,I,h⟩
theorem z3g{tr:TJ}(h:PE X e te)(hr:PJ X es tr):PJ X (e::es) (fun acc σ H Q=>te σ H fun x H1=>∃y,x=.str y/\(acc++y).length≤sizeLine/\tr (acc++y) σ H1 Q):=fun acc pins s σ H Q I q=>
 wpAny_mono (h pins s σ H _ I q) (fun v s1 ⟨x,H1,I1,rx,y,ey,hz,q1⟩=>by
  subst ey
  obtain⟨t,rfl⟩:=rx
  exact⟨y,t,rfl,hz,hr _ pins s1 σ H1 Q I1 q1⟩) fun _ _ x=>x
noncomputable def w2n(t:TJ):TE:=fun σ H Q=>t Str.empty σ H fun out H1=>out.length≤sizeLine/\Q (.str out) H1
theorem z9o{e1 e2:Expr}{t:TJ}(h:PJ X (e1::e2::es) t):PE X (.JoinedStr (e1::e2::es) pos) (w2n t):=by
 intro pins s σ H Q I q
 refine wpAny_JoinedStr (Joins.mono (fun o s1 z=>?_) (h _ pins s σ H _ I q))
 obtain⟨H1,I1,hz,q1⟩:=z
 exact⟨hz,.str o,H1,I1.tok _,⟨_,rfl⟩,q1⟩
noncomputable def w1H(te:TE):TE:=fun σ H Q=>te σ H fun x H1=>∃i:Int,x=.int i/\i.natAbs.log2<1920/\Q (.str (toString i)) H1
theorem y1c(h:PE X e te):PE X (.FormattedValue e (-1) none pos) (w1H te):=by
 intro pins s σ H Q I q
 refine PyProof.Rows.FormattedValue_plain (thn (h pins s σ H _ I q) fun v s1 ⟨x,H1,I1,rx,i,ei,hd,q1⟩=>?_)
 subst ei
 obtain⟨t,rfl⟩:=rx
 exact PyProof.Rows.formatField_int_small hd ⟨.str (toString i),H1,I1.tok _,⟨_,rfl⟩,q1⟩
noncomputable def Low(x:Str):Prop:=∀c∈x.cps.toList,c<16^8
theorem y1j{x:Str}(h:Low x):(reprText x).length≤10*x.length+2:=PySem.StrLaws.reprText_len x h
noncomputable def w1I(te:TE):TE:=fun σ H Q=>te σ H fun x H1=>∃z:Str,x=.str z/\z.length≤1000/\Low z/\Q (.str (reprText z)) H1
theorem y6U(h:PE X e te):PE X (.FormattedValue e 114 none pos) (w1I te):=by
 intro pins s σ H Q I q
 refine wpAny_FormattedValue_repr (thn (h pins s σ H _ I q) fun v s1 ⟨x,H1,I1,rx,z,ez,hz,lo,q1⟩=>?_)
 subst ez
 obtain⟨t,rfl⟩:=rx
 have hl:=y1j lo
 have line:=sizeLine_eq
 refine wpAny_pyReprObj_gives (typeIs_str s1 z t) F.slot_str_repr F.entry_str_repr (F.args_str_repr_1 _) (gives_str_repr z t) ?_ (hx:=by lia)
 exact PyProof.Rows.formatField_str (fun t' tk=>⟨.str (reprText z),H1,(I1.tok _).tok _,⟨_,rfl⟩,q1⟩) (by lia)
end
noncomputable def S4(a:Addr)(C:Value):HO:=.ext fun h=>∃o vs,h.get? a=some o/\o.cls=C/\o.data=.fields vs
theorem y6E{P:Program}{w:World}{H:Hp}{h:Heap}{a:Addr}{C:Value}{o:Obj}{vs:Array Value}(e:h.get? a=some o)(c:o.cls=C)(d:o.data=.fields vs):z1o P w H h a (S4 a C):=
 ⟨⟨o,vs,e,c,d⟩,⟨o,e⟩,fun h1 h2 ⟨o,vs,e,c,d⟩ k=>⟨o,vs,k o e,c,d⟩⟩
abbrev Cx.mark(X:Cx)(e:Value):Cx:={ X with A:=X.A.mark (some e),calm:=false,xe:=fun _ _=>False }
abbrev Cx.pnd(X:Cx)(pn:List (Addr×Obj)):Cx:={ X with pn:=pn }
section
variable{X:Cx}{pins:List (Addr×Obj)}{σ:St}{H H':Hp}{s:Shared}
theorem Cx.Ok.mark(ok:X.Ok)(e:Value):(X.mark e).Ok:=⟨ok.mod,ok.kind,ok.glob,ok.blt,ok.above,ok.inj,ok.has,ok.cab,(fun z=>nomatch z),ok.frames,ok.stk,ok.exf,ok.bs,ok.bsz,ok.noex,ok.exfs,ok.S6,ok.frf⟩
theorem Cx.Ok.pnd(ok:X.Ok)(pn:List (Addr×Obj)):(X.pnd pn).Ok:=⟨ok.mod,ok.kind,ok.glob,ok.blt,ok.above,ok.inj,ok.has,ok.cab,ok.hd,ok.frames,ok.stk,ok.exf,ok.bs,ok.bsz,ok.noex,ok.exfs,ok.S6,ok.frf⟩
theorem Inv.mark(I:Inv X pins σ H s)(e:Value):Inv (X.mark e) pins σ H s:=⟨I.ok.mark e,I.os,I.bare,I.base,I.loc,I.cell,I.free,I.freeC,I.pin,I.hok,I.len⟩
theorem Inv.unmark{e:Value}(I:Inv (X.mark e) pins σ H s)(ok:X.Ok):Inv X pins σ H s:=⟨ok,I.os,I.bare,I.base,I.loc,I.cell,I.free,I.freeC,I.pin,I.hok,I.len⟩
theorem Inv.pnd(I:Inv X pins σ H s):Inv (X.pnd (X.pn++pins)) [] σ H s:=⟨I.ok.pnd _,I.os,I.bare,I.base,I.loc,I.cell,I.free,I.freeC,by rw[cR];exact I.pin,I.hok,I.len⟩
theorem Inv.Q9{ps:List (Addr×Obj)}(I:Inv (X.pnd (X.pn++pins)) ps σ H s)(ok:X.Ok):Inv X pins σ H s:=⟨ok,I.os,I.bare,I.base,I.loc,I.cell,I.free,I.freeC,fun p hp=>I.pin p (dP _ hp),I.hok,I.len⟩
theorem SP.Q9{D:Ends}{f:Flow}{s':Shared}{ps:List (Addr×Obj)}(ok:X.Ok)(h:SP (X.pnd (X.pn++pins)) ps D f s'):SP X pins D f s':=by
 cases f with
 | next=>obtain⟨σ',H',I,q⟩:=h;exact⟨σ',H',I.Q9 ok,q⟩
 | brk=>obtain⟨σ',H',I,q⟩:=h;exact⟨σ',H',I.Q9 ok,q⟩
 | cont=>obtain⟨σ',H',I,q⟩:=h;exact⟨σ',H',I.Q9 ok,q⟩
 | ret u=>obtain⟨v,σ',H',I,r,q⟩:=h;exact⟨v,σ',H',I.Q9 ok,r,q⟩
theorem z8U{M:Model}{A:Around}{E:Value->Shared->Prop}{env:Env}{n:Str}{pos:Pos}{m:Str->Option Value}{Q:Unit->Shared->Prop}(hl:env.kindOf n=some .local)(hn:s.heap.Ns env.locals m)
  (hp:(env.scope.kind == .class || (env.scope.kind == .module && env.locals != env.globals))=false)
  (h:∀h' m' tk,h'.Ns env.locals m'->(∀y,y≠n->m' y=m y)->Heap.SameBut env.locals s.heap h'->Q () { s with heap:=h',toks:=tk }) :
  wpAny M A (do bindName env n .none;unbindBehindTheSuite env n pos) Q E s:=by
 refine wpAny_bind (wpAny_bindName (wpAny_storeName_local hl hn (fun h₁ hn₁ hs₁=>?_) hp))
 unfold unbindBehindTheSuite
 exact wpAny_onRaise (wpAny_unbindName_local (v:=.none) hl hn₁ (by simp) hp fun h₂ u hn₂ hs₂=>h h₂ _ _ hn₂ (fun y hy=>by simp[hy]) (hs₁.trans hs₂))
theorem z5R{M:Model}{A:Around}{E:Value->Shared->Prop}{i:Nat}{x:Str}{pos:Pos}{Q:Unit->Shared->Prop}(I:Inv X pins σ H s)(hN:X.N.Nodup)(hi:X.N[i]? = some x)(hk:X.env.kindOf x=some .local)
  (h:∀s',Inv X pins (σ.set i none) H s'->Q () s'):wpAny M A (do bindName X.env x .none;unbindBehindTheSuite X.env x pos) Q E s:=by
 obtain⟨m,hn,hl⟩:=id I.loc
 have X9:(X.env.scope.kind == .class || (X.env.scope.kind == .module && X.env.locals != X.env.globals))=false:=by rw[I.ok.kind];rfl
 have hiσ:i<σ.length:=by rw[I.len];exact(cO.mp hi).1
 have cne:=I.cne
 refine z8U hk hn X9 fun h' m' tk hn' hm' hs=>?_
 obtain⟨oL,_,_,hoL,_⟩:=id hn
 have tracked:HOk X.prog X.w H h':=fun b ob e=>by
  refine(I.hok b ob e).W0 (fun c w' hc q=>(hs.2 c ?_).trans q) (fun _ q=>q) fun _ _ q=>q
  rintro rfl
  rcases hc with rfl|hc
  ·rw[I.free] at e;cases e
  ·rw[I.free] at hc;cases hc
 refine h _ ⟨I.ok,I.os,I.bare,⟨fun b o e n hb hx=>?_,fun b o e n hb hx=>?_,I.base.free,fun b o e hx=>?_,I.base.R3,I.base.Q7,I.base.R9⟩,⟨_,hn',fun j y v' e1 e2 e3=>?_⟩,fun y c e=>?_,I.free,I.freeC,fun p hp=>?_,tracked,by simpa using I.len⟩
 ·exact(hs.2 b (I.w03 e)).trans (I.base.keep b o e n hb hx)
 ·obtain⟨sl,e1⟩:=I.base.slot b o e n hb hx
  exact⟨sl,(hs.2 b (I.w03 e)).trans e1⟩
 ·obtain⟨o',e1⟩:=I.base.there b o e hx
  exact⟨o',(hs.2 b (I.w03 e)).trans e1⟩
 ·by_cases hj:j=i
  ·subst hj
   rw[gF hiσ] at e2
   cases e2
  ·rw[fK (cU hj)] at e2
   obtain⟨u',r',q⟩:=hl j y v' e1 e2 e3
   refine⟨u',r',?_⟩
   rcases q with ⟨k,e⟩|⟨k,c,e,z⟩
   ·have:y≠x:=fun e=>hj (z9B hN e1 (e ▸ hi))
    exact .inl ⟨k,by rw[hm' y this];exact e⟩
   ·exact .inr ⟨k,c,e,z.sameBut hs (cne y c e)⟩
 ·obtain⟨w',z⟩:=I.cell y c e
  exact⟨w',z.sameBut hs (cne y c e)⟩
 ·obtain⟨e,n,ne,nf,d⟩:=I.pin p hp
  exact⟨(hs.2 p.1 ne).trans e,n,ne,nf,d⟩
end
theorem y0N{M:Model}{A:Around}{E:Value->Shared->Prop}{h:Heap}{g:Array GenState}{d:Drawn}{t:Nat}{os:OsState}{e C D N ND:Addr}{oe:Obj}{nm q nmD qD:Str}{bs bm bsD bmD:List Value}{hdct w0y:Bool}{sn snD:List Str}{sub subD:List Value}{ab abD:Bool}{col colD:Option Bool}{dd ddD:Option Addr}{k0 k1 k2 k3 k5 j0 j1 j2 j3 j5:Option Value}{newId w0E:String}{Q:Bool->Shared->Prop}
  (hC:h.get? C=some (excClassObj nm q C N bs bm hdct sn sub ab col dd k0 k1 k2 k3 k5 newId)) (hD:h.get? D=some (excClassObj nmD qD D ND bsD bmD w0y snD subD abD colD ddD j0 j1 j2 j3 j5 w0E))
  (he:h.get? e=some oe) (X9:oe.cls=.ref C) (U4:bmD.contains (.type "BaseException")=true) (hcC:(Value.ref C::bm).contains (.ref D)=true)
  (hq:Q true ⟨h,g,d,t,os⟩):wpAny M A (excMatches (.ref e) (.ref D)) Q E ⟨h,g,d,t,os⟩:=by
 have hcB:(Value.ref D::bmD).contains (.type "BaseException")=true:=by rw[List.contains_cons,U4,Bool.or_true]
 have f:=tc_notTuple
 unfold excMatches
 repeat (first|(with_reducible refine wpAny_loadPart_at he ?_;rw[X9])|with_reducible refine wpAny_loadPart_at hD ?_|(with_reducible refine wpAny_isSubtype_exc hD ?_;rw[hcB])|(with_reducible refine wpAny_isSubtype_exc hC ?_;rw[hcC])|wp_step)
 exact hq
noncomputable def xw(X:Cx)(EX:St->Value->Hp->Prop):Value->Shared->Prop:=fun e s'=>∃pins σ H s,Inv X pins σ H s/\CX1 X.prog X.w X.stack H s (fun C _ H'=>EX σ C H') e s'
structure Under(K:PySem.W.Frag)(C D:Addr):Prop where
 ex:PySem.W.excIn K C veL "ValueError.__new__"=true
 sub:PySem.W.mroIn K C (.ref D)=some true
noncomputable def tTry(K:PySem.W.Frag)(i:Nat)(D:Addr)(tb:(St->Value->Hp->Prop)->TS)(ts:TS):TS:=fun Ds σ H=>∃EX:St->Value->Hp->Prop,tb EX Ds σ H/\∀σ' C H',EX σ' C H'->(∃c,C=.ref c/\Under K c D)/\
 ∀a,H' a=none->ts { nx:=fun σ H=>Ds.nx (σ.set i none) H,rt:=Ds.rt,bk:=fun σ H=>Ds.bk (σ.set i none) H,ct:=fun σ H=>Ds.ct (σ.set i none) H } (σ'.set i (some (.ref a))) (upd H' a (S4 a C))
theorem y7p{X:Cx}{x n:Str}{i:Nat}{D:Addr}{body w0x:List Stmt}{b0:Stmt}{np hpos pos:Pos}{tb:(St->Value->Hp->Prop)->TS}{ts:TS}(er:Err X.K X.mg x D)(hg:Gl X x)(hN:X.N.Nodup)(hi:X.N[i]? = some n)
  (hl:X.env.scope.names.lookup n=some .local) (hst:X.stack=X.env::X.outer) (hfr:X.env.frame=some X.env.locals)
  (hb:∀pn EX,PSs ((X.pnd pn).O3 (xw (X.pnd pn) EX)) body (tb EX)) (hs:∀pn e,PSs ((X.pnd pn).mark e) (b0::w0x) ts) (hdb:(x == ("__debug__":Str))=false:=by decide) :
  PS X (.Try body [.ExceptHandler (some (.Name x np)) (some n) (b0::w0x) hpos] [] [] pos) (tTry X.K i D tb ts):=by
 intro pins s σ H Ds I h
 obtain⟨EX,hb',hh⟩:=h
 refine wpAny_Try_except (wpAny_mono (hb _ EX [] s σ H Ds (I.pnd.O3 _) hb') (fun f s1 q=>?_) fun e s1 q=>?_)
 ·have q':SP X pins Ds f s1:=q.L4.Q9 I.ok
  cases f with
  | next=>exact wpAny_execs_nil q'
  | ret v=>exact q'
  | brk=>exact q'
  | cont=>exact q'
 obtain⟨ps,σ1,H1,s0,I1,a,C,H',B,a0,rfl,hos,hgn,un,hok,fl,st,hE⟩:=q
 obtain⟨⟨c,rfl,hc⟩,hsu⟩:=hh σ1 C H' hE
 have hF:X.A.frames=some (X.env::X.outer):=by rw[<- hst];exact I.ok.frames
 have fl0:Heap.FlyingW B (X.env::X.outer) a (.ref c) a0 s1.heap:=by rw[<- hst];exact fl
 have hf:∀b∈frs X.stack,H' b=none:=fun b hb=>by
  obtain⟨_,o,ho,_⟩:=I1.stack.mem hb
  exact un.free b o ho (I1.P0 b hb) (fun z=>nomatch z)
 have nf:∀b∈frs X.stack,∃o,s1.heap.get? b=some o/\∀vs,o.data≠.fields vs:=fun b hb=>(fl.2.2.1.mem hb).2
 obtain⟨oe0,vs0,he0,_,hd0,_⟩:=fl.first
 have hna:a∉frs X.stack:=fun z=>by
  obtain⟨o,e,d⟩:=nf a z
  rw[he0] at e
  cases e
  exact d vs0 hd0
 have hBa:B.get? a=none:=fl.2.1
 have w08:H' a=none:=by
  cases e:H' a with
  | none=>rfl
  | some u=>
   have:=st a oe0 he0 hna (.inl (by rw[e];exact fun z=>nomatch z))
   rw[hBa] at this
   cases this
 have hs0a:∀o,s0.heap.get? a≠some o:=fun o e=>by
  have:=st a oe0 he0 hna (.inr ⟨o,e⟩)
  rw[hBa] at this
  cases this
 refine wpAny_looks_onW hF hfr fl0 fun h4 held4 us4=>?_
 refine wpAny_landsW held4 fun h5 fl5 us5=>?_
 have un5:Un (frs X.stack) [] H1 H' s0.heap h5:=st.un fl5.1 (us4.trans us5) nf un
 have ok5:HOk X.prog X.w H' h5:=st.hok fl5.1 hf hok
 have I5:Inv (X.pnd (X.pn++pins)) ps σ1 H' { s1 with heap:=h5 }:=I1.w02 (s':={ s1 with heap:=h5 }) hos un5 ok5 hgn (fun b z=>nomatch z)
 have M5:=I5.mark (.ref a)
 refine wpAny_handleBy_cons (codeAny_handlers_test (z53 (X:=(X.pnd (X.pn++pins)).mark (.ref a)) M5 hg er.mgC ?_ hdb)) (by intro q;cases q)
 obtain⟨bm,Ns,nm,q,bs,hdct,sn,sub,ab,col,dd,k0,k1,k2,k3,k5,mN,hC,hN',hni,T⟩:=((⟨rfl,hc.ex⟩:Err X.K (fun _=>some (.ref c)) x c).obj I5.kIn).obj
 obtain⟨bmD,NsD,nmD,qD,bsD,w0y,snD,subD,abD,colD,ddD,j0,j1,j2,j3,j5,mND,hD,hND,hniD,TD⟩:=(er.obj I5.kIn).obj
 obtain⟨oe5,vs5,he5,hc5,hd5,_⟩:=fl5.first
 have hcD:(Value.ref c::bm).contains (.ref D)=true:=by
  obtain⟨cd,e1,e2⟩:=Option.bind_eq_some_iff.mp hc.sub
  unfold PySem.W.clsIn at e1
  split at e1
  ·rename_i c' d' cd' sl' ho
   cases e1
   have:=I5.kIn _ _ ho
   rw[hC] at this
   cases this
   split at e2
   ·cases e2
   ·exact Option.some.inj e2
  ·cases e1
 refine y0N hC hD he5 hc5 (TD.hasType fP.hasBase) hcD ?_
 refine codeAny_handlers_suite_as ?_
 refine lands_againW fl5 fun h6 fl6 us6=>?_
 have Y4:Un (frs X.stack) [] H1 H' s0.heap h6:=st.un fl6.1 ((us4.trans us5).trans us6) nf un
 have ok6':HOk X.prog X.w H' h6:=st.hok fl6.1 hf hok
 obtain⟨oe6,vs6,he6,hc6,hd6,_⟩:=fl6.first
 have un6:Un (frs X.stack) [] H1 (upd H' a (S4 a (.ref c))) s0.heap h6:=
  ⟨Y4.keep,Y4.slot,fun b o q n hx=>by
   rw[z0f (fun z=>by rw[z] at q;exact hs0a o q)]
   exact Y4.free b o q n hx,Y4.there,fun b xs q=>by
   have:=Y4.R3 b xs q
   rw[z0f (fun z=>by rw[z,w08] at this;cases this)]
   exact this,fun b o u q=>by
   have:=Y4.Q7 b o u q
   rw[z0f (fun z=>by rw[z,w08] at this;cases this)]
   exact this,fun b ps q=>by
   obtain⟨m,e⟩:=Y4.R9 b ps q
   exact⟨m,by rw[z0f (fun z=>by rw[z,w08] at e;cases e)];exact e⟩⟩
 have keep:∀{b:Addr}{u:HO},H' b=some u->upd H' a (S4 a (.ref c)) b=some u:=fun {b u} e=>by
  rw[z0f (fun z=>by rw[z,w08] at e;cases e)]
  exact e
 have ok6:HOk X.prog X.w (upd H' a (S4 a (.ref c))) h6:=fun b o e=>by
  by_cases hba:b=a
  ·subst hba
   rw[z03] at e
   cases e
   exact y6E he6 hc6 hd6
  ·rw[z0f hba] at e
   exact(ok6' b o e).W0 (fun _ _ _ q=>q) (fun _ q=>keep q) (fun _ _ q=>keep q)
 have I6:Inv (X.pnd (X.pn++pins)) ps σ1 (upd H' a (S4 a (.ref c))) { s1 with heap:=h6 }:=I1.w02 (s':={ s1 with heap:=h6 }) hos un6 ok6 hgn (fun b z=>nomatch z)
 refine z94 (X:=(X.pnd (X.pn++pins)).mark (.ref a)) (I6.mark (.ref a)) hN hi (.inl hl) (v:=.ref a) rfl (fun s7 I7=>?_) (.inr hl)
 refine wpAny_mono (hs (X.pn++pins) (.ref a) ps s7 _ _ _ I7 (hsu a w08)) (fun f s8 q=>?_) (fun _ _ z=>z.elim)
 have ok1:(X.pnd (X.pn++pins)).Ok:=I.ok.pnd _
 cases f with
 | next=>
  obtain⟨σ',H2,J,q⟩:=q
  exact z5R (X:=X.pnd (X.pn++pins)) (J.unmark ok1) hN hi hl fun s9 J9=>⟨_,_,J9.Q9 I.ok,q⟩
 | brk=>
  obtain⟨σ',H2,J,q⟩:=q
  exact z5R (X:=X.pnd (X.pn++pins)) (J.unmark ok1) hN hi hl fun s9 J9=>⟨_,_,J9.Q9 I.ok,q⟩
 | cont=>
  obtain⟨σ',H2,J,q⟩:=q
  exact z5R (X:=X.pnd (X.pn++pins)) (J.unmark ok1) hN hi hl fun s9 J9=>⟨_,_,J9.Q9 I.ok,q⟩
 | ret u=>
  obtain⟨v,σ',H2,J,r,q⟩:=q
  exact z5R (X:=X.pnd (X.pn++pins)) (J.unmark ok1) hN hi hl fun s9 J9=>⟨v,_,_,J9.Q9 I.ok,r,q⟩
structure Thr(X:Cx)(EX:St->XK):Prop where
 pass:∀(pins:List (Addr×Obj)) (σ:St) (H:Hp) (s:Shared) (e:Value) (s':Shared),Inv X pins σ H s->CX1 X.prog X.w X.stack H s (EX σ) e s'->X.xe e s'
theorem z34{P:Program}{w:World}{K:PySem.W.Frag}{mg:Str->Option Value}{base:Heap}{N:List Str}{qual:Str}{scope:Scope}{f:Addr}{cd:Value}{A:Around}{outer:List Env}{s0:Shared}{H0:Hp}{E:XK}:Thr (J1 (CX1 P w) P w K mg base N qual scope f cd A outer s0 H0 E) (fun _=>E):=⟨y7l⟩
theorem y3J{X:Cx}{EX:St->Value->Hp->Prop}:Thr (X.O3 (xw X EX)) (fun σ C _ H'=>EX σ C H'):=⟨fun pins σ H s e s' I h=>⟨pins,σ,H,s,I.L4,h⟩⟩
section
variable{X:Cx}{k:Nat}{f C:Addr}{fd:FuncData}{ps:List Str}{sp:Sp}{EX:St->XK}{x m:Str}{p pos apos:Pos}{e o:Expr}{es:List Expr}{ta:TE}{t:TA}
theorem y0V{pins:List (Addr×Obj)}{σ:St}{H:Hp}{s:Shared}{Q:VK}{us:List Value}{vs:List V}(T:Thr X EX)(F:A8 X.prog X.w X.K X.mg X.base (CX1 X.prog X.w) k f fd ps sp)(hr:E3 k X.A)(hb:z1u X.K fd ps [])
  (I:Inv X pins σ H s) (r:Vals vs us) (h:sp vs H Q (EX σ)):wpAny (model X.prog X.w) X.A (call (.ref f) us) (EP X pins σ Q) X.xe s:=by
 have hl:(us++[]).length=ps.length:=by rw[cR,<- r.length];exact F.len _ _ _ _ h
 have r2:Vals (vs++[]) (us++[]):=r.append .nil
 rw[<- cR vs] at h
 refine wpAny_call (codeAny_mono (F.run X.A X.stack s H ⟨us,[]⟩ (us++[]) (vs++[]) Q (EX σ) hr I.w0R (hb s us I.kIn hl) r2 h) fun r s' hq=>?_)
 cases r with
 | error e=>exact T.pass pins σ H s e s' I hq
 | ok fl=>
  cases fl with
  | ret u=>exact I.after hq
  | next=>exact False.elim hq
  | brk=>exact False.elim hq
  | cont=>exact False.elim hq
noncomputable def y7i(sp:Sp)(EX:St->XK)(t:TA):TE:=fun σ H Q=>t σ H fun vs H1=>sp vs H1 Q (EX σ)
noncomputable def y5N(C:Addr)(m:Str)(sp:Sp)(EX:St->XK)(ta:TE)(t:TA):TE:=fun σ H Q=>ta σ H fun x H1=>∃a dx fs,x=.ref a/\H1 a=some (.ins C dx fs)/\fs.lookup m=none/\
 t σ H1 fun vs H2=>sp (x::vs) H2 Q (EX σ)
structure W7(P:Program)(w:World)(K:PySem.W.Frag)(mg:Str->Option Value)(base:Heap)(k:Nat)(x:Str)(ps:List Str)(sp:Sp):Prop where
 ex:∃(f:Addr) (fd:FuncData),A8 P w K mg base (CX1 P w) k f fd ps sp/\z1u K fd ps []/\PySem.W.keepIn K (.ref f)=true/\mg x=some (.ref f)
structure M3(P:Program)(w:World)(K:PySem.W.Frag)(mg:Str->Option Value)(base:Heap)(k:Nat)(C:Addr)(m:Str)(ps:List Str)(sp:Sp):Prop where
 cl:Cls K C
 ex:∃(f:Addr) (fd:FuncData),A8 P w K mg base (CX1 P w) k f fd ps sp/\z1u K fd ps []/\Meth K C m f
structure MkrX(P:Program)(w:World)(K:PySem.W.Frag)(mg:Str->Option Value)(base:Heap)(k:Nat)(C:Addr)(x:Str)(ps:List Str)(sp:Sp):Prop where
 ex:∃(f:Addr) (fd:FuncData),A8 P w K mg base (CX1 P w) k f fd ps sp/\z1u K fd ps []/\Mk K C f/\mg x=some (.ref C)
theorem y0A(T:Thr X EX)(G:W7 X.prog X.w X.K X.mg X.base k x ps sp)(hr:E3 k X.A)(hg:Gl X x)(ha:PA X (e::es) t)
  (hdb:(x == ("__debug__":Str))=false:=by decide) (he:starEach (e::es) X.env=(false,eval e X.env)::starEach es X.env:=by rfl) (hpl:(backTo pos (starEach es X.env)).any (·.1)=false:=by rfl) :
  PE X (.Call (.Name x p) (e::es) [] pos) (y7i sp EX t):=by
 obtain⟨f,fd,F,hb,hk,hm⟩:=G.ex
 intro pins s σ H Q I h
 refine wpAny_Call_Name_kw (z53 I hg hm ?_ hdb)
 refine eX (h₀:=X.base) I.ok.mod.kin hk (thn (ha pos pins s σ H _ I h) fun us s1 ⟨vs,H1,I1,r,q⟩=>⟨I1.kIn,?_⟩) he hpl
 exact y0V T F hr hb I1 r q
theorem z3x{pl:Sem Bool}(T:Thr X EX)(G:M3 X.prog X.w X.K X.mg X.base k C m ps sp)(hr:E3 k X.A)(he:PE X o ta)(ha:PA X (e::es) t)
  (hst:starEach (e::es) X.env=(false,eval e X.env)::starEach es X.env:=by rfl) (hpl:(backTo pos (starEach es X.env)).any (·.1)=false:=by rfl)
  (ht:eval (.Call (.Attribute o m apos) (e::es) [] pos) X.env=(do
   let ov <- eval o X.env
   standAt apos.atName
   let (f,first) <- holding [ov] (getMethod ov m pl)
   callWith pos f first (backTo pos (starEach (e::es) X.env)) (backToKw pos (keywordEach [] X.env))):=by rfl) :
  PE X (.Call (.Attribute o m apos) (e::es) [] pos) (y5N C m sp EX ta t):=by
 obtain⟨f,fd,F,hb,hm⟩:=G.ex
 intro pins s σ H Q I h
 refine dU (pl:=pl) (thn (he pins s σ H _ I h) fun u s1 hz=>?_) ht
 obtain⟨x,H1,I1,rx,a,dx,fs,ex,ea,l,q⟩:=hz
 subst ex
 obtain rfl:u=Value.ref a:=rx
 refine z3t I1 ea G.cl hm l ?_
 refine eX (first:=[.ref a]) (h₀:=X.base) I.ok.mod.kin hm.kp (thn (ha pos pins s1 σ H1 _ I1 q) fun us s2 ⟨vs,H2,I2,r,q2⟩=>⟨I2.kIn,?_⟩) hst hpl
 exact y0V (us:=.ref a::us) (vs:=.ref a::vs) T F hr hb I2 (.cons rfl r) q2
theorem y0a{pl:Sem Bool}(T:Thr X EX)(G:M3 X.prog X.w X.K X.mg X.base k C m ps sp)(hr:E3 k X.A)(he:PE X o ta)
  (ht:eval (.Call (.Attribute o m apos) [] [] pos) X.env=(do
   let ov <- eval o X.env
   standAt apos.atName
   let (f,first) <- holding [ov] (getMethod ov m pl)
   callWith pos f first (backTo pos (starEach [] X.env)) (backToKw pos (keywordEach [] X.env))):=by rfl) :
  PE X (.Call (.Attribute o m apos) [] [] pos) (y5N C m sp EX ta Z3):=by
 obtain⟨f,fd,F,hb,hm⟩:=G.ex
 intro pins s σ H Q I h
 refine dU (pl:=pl) (thn (he pins s σ H _ I h) fun u s1 hz=>?_) ht
 obtain⟨x,H1,I1,rx,a,dx,fs,ex,ea,l,q⟩:=hz
 subst ex
 obtain rfl:u=Value.ref a:=rx
 refine z3t I1 ea G.cl hm l ?_
 exact PySem.W.callWith_K0 (first:=[.ref a]) I1.kIn hm.kp (y0V (us:=[.ref a]) (vs:=[.ref a]) T F hr hb I1 (.cons rfl .nil) q)
end
section
variable{P:Program}{w:World}{K:PySem.W.Frag}{mg:Str->Option Value}{base:Heap}
theorem A8.toX{k:Nat}{f:Addr}{fd:FuncData}{ps:List Str}{sp:Sp}(F:A8 P w K mg base CX0 k f fd ps sp):A8 P w K mg base (CX1 P w) k f fd ps sp:=
 ⟨F.len,fun A outer s H args us vs Q E hr he hb hv hs=>codeAny_mono (F.run A outer s H args us vs Q E hr he hb hv hs) fun r s' q=>by
  cases r with
  | error e=>exact False.elim q
  | ok fl=>cases fl<;>exact q⟩
theorem Fun.okX{x qual:Str}{st:Stmt}{f:Addr}{fd:FuncData}{N ps:List Str}{k:Nat}{sp:Sp}(F:Fun K x qual st f fd)(S:A3 N ps (z08 st))(len:∀vs H Q E,sp vs H Q E->vs.length=ps.length)
  (U6:∀(cdv:Value) (A:Around) (outer:List Env) (s:Shared) (H:Hp) (vs:List V) (Q:VK) (E:XK),E3 k (A.deeper (envOfC qual (z08 st) s.heap.objs.size f cdv))->sp vs H Q E->
   ∃t,PSs (J1 (CX1 P w) P w K mg base N qual (z08 st) f cdv A outer s H E) (z1k st) t/\t { nx:=fun _ H'=>Q .non H',rt:=Q } (z5A N vs) H):A8 P w K mg base (CX1 P w) (k+1) f fd ps sp:=by
 obtain⟨oc,od,kV,doc,pm,an,cdv,ct,osl,rfl,lk,hcd⟩:=F.ex
 exact y6i lk hcd S len fun A outer s H vs Q E hr hsp=>U6 cdv A outer s H vs Q E hr hsp
theorem w1l(P:Program)(w:World)(K:PySem.W.Frag)(mg:Str->Option Value)(base:Heap){k:Nat}{x:Str}{ps:List Str}{sp:Sp}{st:Stmt}{f:Addr}{fd:FuncData}(F:Fun K x x st f fd/\mg x=some (.ref f))(a:A8 P w K mg base (CX1 P w) k f fd ps sp)(b:z1u K fd ps []):W7 P w K mg base k x ps sp:=⟨f,fd,a,b,F.1.kp,F.2⟩
theorem w1B(P:Program)(w:World)(K:PySem.W.Frag)(mg:Str->Option Value)(base:Heap){k:Nat}{C:Addr}{x q:Str}{ps:List Str}{sp:Sp}{st:Stmt}{f:Addr}{fd:FuncData}(c:Cls K C)(F:Fun K x q st f fd/\Meth K C x f)(a:A8 P w K mg base (CX1 P w) k f fd ps sp)(b:z1u K fd ps []):M3 P w K mg base k C x ps sp:=⟨c,f,fd,a,b,F.2⟩
theorem w1m(P:Program)(w:World)(K:PySem.W.Frag)(mg:Str->Option Value)(base:Heap){k:Nat}{C:Addr}{x y q:Str}{ps:List Str}{sp:Sp}{st:Stmt}{f:Addr}{fd:FuncData}(c:mg x=some (.ref C))(F:Fun K y q st f fd/\Mk K C f)(a:A8 P w K mg base (CX1 P w) k f fd ps sp)(b:z1u K fd ps []):MkrX P w K mg base k C x ps sp:=⟨f,fd,a,b,F.2,c⟩
theorem W7.up{j k:Nat}{x:Str}{ps:List Str}{sp:Sp}(G:W7 P w K mg base j x ps sp)(h:j≤k:=by decide):W7 P w K mg base k x ps sp:=let ⟨f,fd,a,b,c⟩:=G.ex;⟨f,fd,a.mono h,b,c⟩
theorem M3.up{j k:Nat}{C:Addr}{x:Str}{ps:List Str}{sp:Sp}(G:M3 P w K mg base j C x ps sp)(h:j≤k:=by decide):M3 P w K mg base k C x ps sp:=let ⟨f,fd,a,b,c⟩:=G.ex;⟨G.cl,f,fd,a.mono h,b,c⟩
end
end L2
namespace L2
open PySem PySem.Spec PyProof.Rows PySem.W PySem.Calls PySem.Builtin PySem.Builtin.ObjectAttr PySem.Builtin.Getset_descriptor
section
variable{prog:Program}{w:World}{A:Around}{E:Value->Shared->Prop}{s:Shared}{K:Frag}{a C:Addr}{o:Obj}
theorem y7h{R:Result->Shared->Prop}{tp:Value}(X:K.In s.heap)(hx:s.heap.get? a=some o)(hc:o.cls=.ref C)(hm:mroIn K C (.type "object")=some true)
  (h:R (.ok (.ret (.ref C))) s):codeAny (model prog w) A (.call (.builtin "getset_descriptor.__get__") ⟨[.builtin "object.__class__",.ref a,tp],[]⟩) R s:=by
 obtain⟨hh,g,dr,t,os⟩:=s
 have L0:Looks (model prog w) hh (typeOf (.ref a)) (.ref C):=hc ▸ (Looks.ld hx).andThen .now
 have L1:=looks_mroIn (M:=model prog w) X hm
 refine codeAny_call_builtin KF.slot_gs.plain KF.entry_gs (KF.slot_gs.check _ _ _ _ _ _ _ _ KF.type_class (KF.args_gs _ _ _) ?_)
 unfold Builtin.«getset_descriptor.__get__» descrGet
 rw[dga_obj]
 refine wpAny_bind (wpAny_pure ?_)
 unfold descrGetter descrCheckInstance descrNameAndClass isInstance
 simp only[KF.owner_class]
 repeat lk
 refine⟨Code.quiet_builtin _ (by decide +kernel),codeAny_builtin KF.entry_class ?_⟩
 unfold Builtin.«object.__class__» shownTypeOf
 repeat lk
 exact h
theorem y5u{tk:Tok}{Q:Fin->Shared->Prop}(X:K.In s.heap)(hx:s.heap.get? a=some o)(hc:o.cls=.ref C)(ha:findIn K (.ref C) "__class__"=some (some (.builtin "object.__class__")))
  (hm:mroIn K C (.type "object")=some true) (hq:Q (.done (.ret (.ref C))) s) :
  wpAny (model prog w) A (Builtin.«object.__getattribute__» ⟨[.ref a,.str "__class__" tk],[]⟩) Q E s:=by
 obtain⟨hh,g,dr,t,os⟩:=s
 have L0:Looks (model prog w) hh (typeOf (.ref a)) (.ref C):=hc ▸ (Looks.ld hx).andThen .now
 have L3:=looks_findIn (M:=model prog w) X ha
 have hT5:(⟨hh,g,dr,t,os⟩:Shared).TypeIs (.builtin "object.__class__") "getset_descriptor":=F.typeOf_object_class
 have f5:=F.typeOf_object_class
 have f6:=F.slot_gs_get.lookup
 have f7:=F.slot_gs_set.lookup
 repeat (any_goals (first|assumption|(with_reducible refine wpAny_loadPart_at hx ?_;rw[hc])|with_reducible refine L3.at ?_|wp_step))
 refine y7h X hx hc hm ?_
 repeat (any_goals (first|assumption|wp_step))
theorem y4I{M:Model}{w0v:Value}{Q:Unit->Shared->Prop}(X:K.In s.heap)(hx:s.heap.get? a=some o)(hc:o.cls=.ref C)(hb:mroIn K C (.type "BaseException")=some true)(hq:Q () s) :
  wpAny M A (checkBuiltinCall "BaseException.__getattribute__" ⟨[.ref a,w0v],[]⟩) Q E s:=by
 obtain⟨hh,g,dr,t,os⟩:=s
 have L1:=looks_mroIn (M:=M) X hb
 have hk:builtinKind "BaseException.__getattribute__"=some .slot:=by decide +kernel
 have w18:splitId "BaseException.__getattribute__"=some ("BaseException","__getattribute__"):=by decide +kernel
 have ha:=F.args_bexc_ga (.ref a) w0v
 simp only[checkBuiltinCall,hk,w18]
 refine wpAny_bind ?_
 ·unfold isInstance
  repeat (first|(with_reducible refine wpAny_loadPart_at hx ?_;rw[hc])|with_reducible refine L1.at ?_|wp_step)
  exact hq
theorem w1Q{tk:Tok}{fill expr:Bool}{Q:Value->Shared->Prop}(X:K.In s.heap)(hx:s.heap.get? a=some o)(hc:o.cls=.ref C)(ha:findIn K (.ref C) "__class__"=some (some (.builtin "object.__class__")))
  (hga:findIn K (.ref C) "__getattribute__"=some (some (.builtin "BaseException.__getattribute__"))) (hgn:findIn K (.ref C) "__getattr__"=some none)
  (hm:mroIn K C (.type "object")=some true) (hb:mroIn K C (.type "BaseException")=some true) (hq:Q (.ref C) s) :
  wpAny (model prog w) A (getAttrBy (.ref a) (.str "__class__" tk) fill expr) Q E s:=by
 obtain⟨hh,g,dr,t,os⟩:=s
 have L1:=looks_findIn (M:=model prog w) X hga
 have L2:=looks_findIn (M:=model prog w) X hgn
 have f3:=F.excAttr_ValueError.ga.bind (.ref a)
 have hx0:(expr && onTheHeap (Value.builtin "BaseException.__getattribute__"))=false:=by cases expr<;>rfl
 have hx2:(Value.builtin "BaseException.__getattribute__" == Value.builtin "object.__getattribute__")=false:=by decide +kernel
 have hx1:(onTheHeap (Value.ref C) && Value.builtin "BaseException.__getattribute__" == Value.builtin "object.__getattribute__")=false:=by rw[hx2];rfl
 repeat (any_goals (first|assumption|(with_reducible refine wpAny_loadPart_at hx ?_;rw[hc])|with_reducible refine L1.at ?_|with_reducible refine L2.at ?_|wp_step))
 refine codeAny_call_builtin F.excAttr_ValueError.ga.plain F.entry_bexc_ga (y4I X hx hc hb (y5u X hx hc ha hm ?_))
 repeat (any_goals (first|assumption|wp_step))
theorem y6e{Q:Option Value->Shared->Prop}(X:K.In s.heap)(hx:s.heap.get? a=some o)(hc:o.cls=.ref C)(ha:findIn K (.ref C) "__class__"=some (some (.builtin "object.__class__")))
  (hga:findIn K (.ref C) "__getattribute__"=some (some (.builtin "BaseException.__getattribute__"))) (hgn:findIn K (.ref C) "__getattr__"=some none)
  (hm:mroIn K C (.type "object")=some true) (hb:mroIn K C (.type "BaseException")=some true) (hq:Q (some (.ref C)) { s with toks:=s.toks+1 }) :
  wpAny (model prog w) A (getAttr? (.ref a) "__class__") Q E s:=by
 obtain⟨hh,g,dr,t,os⟩:=s
 unfold getAttr? getAttrBy?
 refine wpAny_bind (wpAny_mkText (wpAny_bind (wpAny_attempt (w1Q (s:=⟨hh,g,dr,t+1,os⟩) X hx hc ha hga hgn hm hb ?_))))
 exact wpAny_pure hq
end
noncomputable def y5G(K:Frag)(B c:Addr):Bool:=excIn K c veL "ValueError.__new__" && (mroIn K c (.ref B) == some true) && (mroIn K c (.type "object") == some true) && (mroIn K c (.type "BaseException") == some true) && (findIn K (.ref c) "__class__" == some (some (.builtin "object.__class__"))) &&
 (findIn K (.ref c) "__getattribute__" == some (some (.builtin "BaseException.__getattribute__"))) && (findIn K (.ref c) "__getattr__" == some none) && (kitOne K (.ref c) (.type "ValueError") == some true) && (clsIn K c).isSome
noncomputable def z9C(K:Frag)(B:Addr)(cs:List Addr):Bool:=cs.all (y5G K B) && cs.all (fun c=>cs.all fun d=>kitOne K (.ref c) (.ref d) == some (c == d)) && decide cs.Nodup
structure w0n(K:Frag)(C:Addr):Prop where
 ha:findIn K (.ref C) "__class__"=some (some (.builtin "object.__class__"))
 hga:findIn K (.ref C) "__getattribute__"=some (some (.builtin "BaseException.__getattribute__"))
 hgn:findIn K (.ref C) "__getattr__"=some none
 hm:mroIn K C (.type "object")=some true
 hb:mroIn K C (.type "BaseException")=some true
 hv:kitOne K (.ref C) (.type "ValueError")=some true
 cl:(clsIn K C).isSome=true
structure X2(K:Frag)(B:Addr)(cs:List Addr):Prop where
 chk:z9C K B cs=true
theorem X2.one{K:Frag}{B:Addr}{cs:List Addr}(E:X2 K B cs){c:Addr}(h:c∈cs):Under K c B/\w0n K c:=by
 have q:=E.chk
 unfold z9C at q
 rw[bU,bU] at q
 have:=eF.mp q.1.1 c h
 unfold y5G at this
 simp only[bU,beq_iff_eq] at this
 obtain⟨⟨⟨⟨⟨⟨⟨⟨h1,h2⟩,h3⟩,h4⟩,h5⟩,h6⟩,h7⟩,h8⟩,h9⟩:=this
 exact⟨⟨h1,h2⟩,h5,h6,h7,h3,h4,h8,h9⟩
theorem X2.two{K:Frag}{B:Addr}{cs:List Addr}(E:X2 K B cs){c d:Addr}(h:c∈cs)(h':d∈cs):kitOne K (.ref c) (.ref d)=some (c == d):=by
 have q:=E.chk
 unfold z9C at q
 rw[bU,bU] at q
 exact beq_iff_eq.mp (eF.mp (eF.mp q.1.2 c h) d h')
theorem X2.nd{K:Frag}{B:Addr}{cs:List Addr}(E:X2 K B cs):cs.Nodup:=by
 have q:=E.chk
 unfold z9C at q
 rw[bU] at q
 exact of_decide_eq_true q.2
theorem y1C{K:Frag}{a D:Addr}(x:w0n K D):KitX K (.ref a) (.ref D) (fun h=>∃o vs,h.get? a=some o/\o.cls=.ref D/\o.data=.fields vs) where
 ty:=fun M h _ ⟨o,vs,e,c,_⟩=>c ▸ (Looks.ld e).andThen .now
 it:=fun _ _ X _=>by
  have hcD:=x.cl
  unfold clsIn at hcD
  split at hcD
  ·rename_i c' d' cd' sl' ho
   intro A' Q' E' s' k q
   unfold isType loadHead
   exact wpAny_bind (wpAny_loadPart (k _ _ (X _ _ ho)) (wpAny_pure q))
  ·cases hcD
 ne:=fun h tp dd its n sl X htp=>by
  have hcD:=x.cl
  refine fE.mpr fun q=>?_
  have e:D=tp:=Value.ref.inj (beq_iff_eq.mp q)
  subst e
  unfold clsIn at hcD
  split at hcD
  ·rename_i c' d' cd' sl' ho
   have z:=(X _ _ ho).symm.trans htp
   cases z
  ·cases hcD
 ca:=fun X ⟨o,vs,e,c,_⟩ k=>y6e X e c x.ha x.hga x.hgn x.hm x.hb k
section
variable{X:Cx}
theorem z1V{K:Frag}(hK:X.K=K):z3k X (.builtin "isinstance") (fun xs H Q=>∃a C D b,xs=[.ref a,.ref D]/\H a=some (S4 a (.ref C))/\w0n K C/\kitOne K (.ref C) (.ref D)=some b/\Q (.bl b) H):=by
 subst hK
 intro pins s σ H xs us Q I r h
 obtain⟨a,C,D,b,rfl,ea,xc,e,q⟩:=h
 obtain⟨u,w',rfl,rx,ry⟩:=y26 r
 cases (show u=Value.ref a from rx)
 cases (show w'=Value.ref D from ry)
 have ok:z1o X.prog X.w H s.heap a (S4 a (.ref C)):=I.hok a _ ea
 exact kia_one (y1C xc) I.kIn ok.1 e (fun z=>nomatch z) fun tk=>⟨.bl b,H,I.tok _,rfl,q⟩
theorem y2G{K:Frag}(hK:X.K=K):z3k X (.builtin "isinstance") (fun xs H Q=>∃a C T b,xs=[.ref a,.ty T]/\H a=some (S4 a (.ref C))/\w0n K C/\kitOne K (.ref C) (.type T)=some b/\Q (.bl b) H):=by
 subst hK
 intro pins s σ H xs us Q I r h
 obtain⟨a,C,T,b,rfl,ea,xc,e,q⟩:=h
 obtain⟨u,w',rfl,rx,ry⟩:=y26 r
 cases (show u=Value.ref a from rx)
 cases (show w'=Value.type T from ry)
 have ok:z1o X.prog X.w H s.heap a (S4 a (.ref C)):=I.hok a _ ea
 exact kia_one (y1C xc) I.kIn ok.1 e (fun z=>nomatch z) fun tk=>⟨.bl b,H,I.tok _,rfl,q⟩
theorem z42{x:Str}{C:Addr}{pos:Pos}(hg:Gl X x)(hm:X.mg x=some (.ref C))(hdb:(x == ("__debug__":Str))=false:=by decide):PE X (.Name x pos) (fun _ H Q=>Q (.ref C) H):=fun pins s σ H Q I h=>
 z53 I hg hm ⟨.ref C,H,I,rfl,h⟩ hdb
end
end L2
namespace L2
open PySem PySem.Spec PyProof.Rows
section
variable{X:Cx}
noncomputable def y6K(K:PySem.W.Frag):V->List V->Hp->VK->Prop:=fun x vs H Q=>∃(l:Addr) (zs:List V) (z:V) (j:Nat),x=.ref l/\vs=[z]/\SqL K H l zs/\z1t z=true/\zs.all z1t=true/\j<zs.length/\eqV (zs.getD j .non) z=true/\(∀m,m<j->eqV (zs.getD m .non) z=false)/\Q (.int (j:Nat)) H
theorem y39:MtM X "list.index" (y6K X.K):=by
 intro pins s σ H x vs v us Q I rx rv h
 obtain⟨l,zs,z,j,rfl,rfl,hL,fz,fzs,hj,ej,hno,q⟩:=h
 cases rx
 obtain⟨u,rfl,ru⟩:=rv.one
 obtain⟨its,r,pl,hz⟩:=I.list hL
 have lr:=r.length
 have line:=sizeLine_eq
 have at_:∀(m:Nat) (hm:m<its.toArray.size),eqU z its.toArray[m]=eqV (zs.getD m .non) z:=fun m hm=>by
  have hm':m<its.length:=by rw[bE] at hm;exact hm
  obtain⟨q1,q2⟩:=z9a r fzs m hm'
  rw[gP]
  exact y01 q1 q2
 obtain⟨⟨cls,dd,data,sl⟩,ho,hc,n,hd⟩:=id pl.isList
 simp only at hc hd
 subst hc hd
 have hjs:j<its.toArray.size:=by rw[bE];lia
 refine call_meets F.slot_list_index ⟨_,ho,rfl⟩ F.entry_list_index (F.args_list_index_2 _ _)
  (SeqAt.list_indexAt l its.toArray n dd sl u (eqU z) j hjs (by lia) (by rw[at_ j hjs];exact ej) (fun m hm hlt=>by rw[at_ m hm];exact hno m hlt))
  ⟨ho,fun w hw=>z3P ru fz r fzs w (by simpa using hw),?_⟩
 exact⟨.int j,H,I.tok _,⟨_,rfl⟩,q⟩
noncomputable def y3B(K:PySem.W.Frag):V->List V->Hp->VK->Prop:=fun x vs H Q=>∃(l:Addr) (zs:List V) (z:V),x=.ref l/\vs=[z]/\SqL K H l zs/\z1t z=true/\zs.all z1t=true/\Q (.int (zs.countP fun y=>eqV y z:Nat)) H
theorem y1P{z:V}:∀{zs:List V}{us:List Value},Vals zs us->zs.all z1t=true->us.countP (eqU z)=zs.countP fun y=>eqV y z
 | _,_,.nil,_=>rfl
 | x::xs,u::us,.cons r t,f=>by
  rw[dW,bU] at f
  rw[List.countP_cons,List.countP_cons,y1P t f.2,y01 r f.1]
theorem z9Q:MtM X "list.count" (y3B X.K):=by
 intro pins s σ H x vs v us Q I rx rv h
 obtain⟨l,zs,z,rfl,rfl,hL,fz,fzs,q⟩:=h
 cases rx
 obtain⟨u,rfl,ru⟩:=rv.one
 obtain⟨its,r,pl,hz⟩:=I.list hL
 obtain⟨⟨cls,dd,data,sl⟩,ho,hc,n,hd⟩:=id pl.isList
 simp only at hc hd
 subst hc hd
 refine call_meets F.slot_list_count ⟨_,ho,rfl⟩ F.entry_list_count (F.args_list_count_2 _ _) (SeqAt.list_countAt l its.toArray n dd sl u (eqU z)) ⟨ho,fun w hw=>z3P ru fz r fzs w (by simpa using hw),?_⟩
 refine⟨.int (zs.countP fun y=>eqV y z:Nat),H,I.tok _,?_,q⟩
 rw[<- y1P r fzs]
 exact⟨_,rfl⟩
end
theorem y6u:bootBuiltins "ValueError"=some (.type "ValueError"):=by first|rfl|kernel_rfl
noncomputable def K7(a b:Sp):Sp:=fun vs H Q E=>a vs H Q E\/b vs H Q E
theorem A8.or{P:Program}{w:World}{K:PySem.W.Frag}{mg:Str->Option Value}{base:Heap}{CX:CXT}{k:Nat}{f:Addr}{fd:FuncData}{ps:List Str}{a b:Sp}(F:A8 P w K mg base CX k f fd ps a)(G:A8 P w K mg base CX k f fd ps b):A8 P w K mg base CX k f fd ps (K7 a b):=
 ⟨fun vs H Q E h=>h.elim (F.len vs H Q E) (G.len vs H Q E),fun A outer s H args us vs Q E hr he hb hv h=>h.elim (F.run A outer s H args us vs Q E hr he hb hv) (G.run A outer s H args us vs Q E hr he hb hv)⟩
theorem y7F{X:Cx}{K:PySem.W.Frag}{o e:Expr}{es:List Expr}{to:TE}{t:TA}{name:Str}{apos N2:Pos}{T id:String}{r:V->List V->Hp->VK->Prop}(hK:X.K=K)(pa:PlainAttrs T)(slot:Slot T name id)(hty:typeOf (.builtin id)=pure (.type "method_descriptor"))(hm:MtR X id r)(ho:PE X o to)(ha:PA X (e::es) t)
  (U4:attributeBase o name X.env (eval o X.env)=eval o X.env:=by rfl)
  (w0H:((backTo N2 (starEach (e::es) X.env)).all (fun x=>!x.1) && (backToKw N2 (keywordEach [] X.env)).all (fun x=>x.1.isSome)
   && decide ((e::es).length+([]:List Keyword).length+(if ([]:List Keyword).isEmpty then 0 else 1)<30))=true:=by rfl)
  (X7:(apos.endLine == N2.line)=true:=by rfl) (hs:starEach (e::es) X.env=(false,eval e X.env)::starEach es X.env:=by rfl) (S2:(backTo N2 (starEach es X.env)).any (·.1)=false:=by rfl) :
  PE X (.Call (.Attribute o name apos) (e::es) [] N2) (tBM K T r to t):=by
 subst hK
 exact z26 pa slot hty hm ho ha U4 w0H X7 hs S2
theorem y2x{X:Cx}{K:PySem.W.Frag}(hK:X.K=K):MtM X "list.count" (y3B K):=by
 subst hK
 exact z9Q
noncomputable def y4v(B:Heap)(l:List Env)(a:Addr)(C a0:Value)(L:Addr)(h:Heap):Prop:=Heap.FlyingW B l a C a0 h\/Heap.HeldW B l a C a0 L h
theorem y4v.stays{B h:Heap}{l:List Env}{a L:Addr}{C a0:Value}(x:y4v B l a C a0 L h):B.StaysIn h/\B.get? a=none/\h.FunFrames B l:=x.elim (fun y=>⟨y.1,y.2.1,y.2.2.1⟩) fun y=>⟨y.1,y.2.1,y.2.2.1⟩
noncomputable def xh(X:Cx)(EX:St->Value->Hp->Prop):Value->Shared->Prop:=fun e s'=>∃(pins:List (Addr×Obj)) (σ:St) (H:Hp) (s:Shared),Inv X pins σ H s/\∃(a:Addr) (C:Value) (H':Hp) (B:Heap) (a0:Value),e=.ref a/\s'.os=s.os/\AllBare s'.gens/\Un (frs X.stack) [] H H' s.heap s'.heap/\HOk X.prog X.w H' s'.heap/\
 y4v B X.stack a C a0 X.env.locals s'.heap/\T7 (frs X.stack) s.heap s'.heap H' B/\EX σ C H'
theorem w2d{X:Cx}{EX:St->Value->Hp->Prop}{e:Value}{s':Shared}(h:xw X EX e s'):xh X EX e s':=by
 obtain⟨pins,σ,H,s,I,a,C,H',B,a0,h1,h2,h3,h4,h5,h6,h7,h8⟩:=h
 exact⟨pins,σ,H,s,I,a,C,H',B,a0,h1,h2,h3,h4,h5,.inl h6,h7,h8⟩
theorem y6o{X:Cx}{EX:St->Value->Hp->Prop}{pins:List (Addr×Obj)}{σ:St}{H H':Hp}{s s':Shared}{a:Addr}{C a0:Value}{B h2:Heap}(I:Inv X pins σ H s)(hos:s'.os=s.os)(hg:AllBare s'.gens)(un:Un (frs X.stack) [] H H' s.heap s'.heap)(hok:HOk X.prog X.w H' s'.heap)
  (fl:s'.heap.FunFrames B X.stack) (st:T7 (frs X.stack) s.heap s'.heap H' B) (hE:EX σ C H') (us:s'.heap.UpToSlots h2) (fl2:y4v B X.stack a C a0 X.env.locals h2):xh X EX (.ref a) { s' with heap:=h2 }:=by
 have hf:∀b∈frs X.stack,H' b=none:=fun b hb=>by
  obtain⟨_,o,ho,_⟩:=I.stack.mem hb
  exact un.free b o ho (I.P0 b hb) (fun z=>nomatch z)
 have nf:∀b∈frs X.stack,∃o,s'.heap.get? b=some o/\∀vs,o.data≠.fields vs:=fun b hb=>(fl.mem hb).2
 have k:=fl2.stays.1
 exact⟨pins,σ,H,s,I,a,C,H',B,a0,rfl,hos,hg,st.un k us nf un,st.hok k hf hok,fl2,st.next k hok hf (fun b o q=>un.there b o q (fun z=>nomatch z)),hE⟩
theorem y3Q{X:Cx}{EX:St->Value->Hp->Prop}(hst:X.stack=X.env::X.outer)(hfr:X.env.frame=some X.env.locals):PassesOwn (model X.prog X.w) X.A X.env (xh X EX):=by
 intro e s' h
 obtain⟨pins,σ,H,s,I,a,C,H',B,a0,rfl,hos,hg,un,hok,fl,st,hE⟩:=h
 have hF:X.A.frames=some (X.env::X.outer):=by rw[<- hst];exact I.ok.frames
 have back:∀{h2:Heap},s'.heap.UpToSlots h2->Heap.HeldW B X.stack a C a0 X.env.locals h2->cameBackBy (model X.prog X.w) X.A X.env (xh X EX) (.ref a) { s' with heap:=h2 }:=by
  intro h2 us hh
  obtain⟨f1,f2,f3,oe,vs,T,oT,ts,he,X9,hd,h1,hnT,hTe,hT,hdT,h3⟩:=hh
  have hsz3:3<ts.size:=(Array.getElem?_eq_some_iff.mp h3).1
  unfold cameBackBy
  refine wpAny_bind (wpAny_field he hd h1 ?_)
  rw[if_neg (show ¬((Value.ref T == Value.none)=true) from by simp)]
  first|refine wpAny_bind (wpAny_pure ?_)|skip
  unfold setFlight
  refine wpAny_bind (wpAny_field he hd h1 ?_)
  rw[if_pos (show(Value.ref T != Value.none)=true from by simp)]
  rw[hfr]
  have other:∀b,b≠T->(h2.update T (Obj.mapFields (·.setIfInBounds 3 ((some X.env.locals:Option Addr).elim Value.none fun f=>rawInt f)))).get? b=h2.get? b:=fun b hb=>cK _ _ (cU hb)
  have X5:∀b o,h2.get? b=some o->(∀vs,o.data≠.fields vs)->b≠T:=fun b o hb hnf q=>by
   rw[q,hT] at hb;injection hb with hb;subst hb;exact hnf ts hdT
  refine wpAny_setField hT hdT hsz3 ?_
  refine y6o (s':=s') (a0:=a0) I hos hg un hok fl.stays.2.2 st hE (us.trans fun b o hb hnf=>⟨o.slots,(other b (X5 b o hb hnf)).trans hb⟩) (.inr ⟨fun b o hbo=>(other b fun q=>by rw[q,hnT] at hbo;cases hbo).trans (f1 b o hbo),f2,f3.of_keeps fun b o hb hnf=>⟨o,(other b (X5 b o hb hnf)).trans hb,rfl⟩,?_⟩)
  exact⟨oe,vs,T,_,_,(other a (cU hTe)).trans he,X9,hd,h1,hnT,hTe,d7 _ hT (Obj.isFreed_of_fields (Obj.data_mapFields hdT _)),Obj.data_mapFields hdT _,by simp[hsz3]⟩
 unfold notedBy
 rcases fl with fl|fl
 ·have fl0:Heap.FlyingW B (X.env::X.outer) a C a0 s'.heap:=by rw[<- hst];exact fl
  refine wpAny_looks_onW hF hfr fl0 fun h4 held us=>back us ?_
  rw[hst]
  exact held
 ·refine wpAny_noteFrame_againW hfr fl.2.2.2 ?_
  exact back (Heap.UpToSlots.refl _) fl
theorem PS.imp{X:Cx}{E1:Value->Shared->Prop}{st:Stmt}{t:TS}(h:PS (X.O3 E1) st t)(hi:∀e s',E1 e s'->X.xe e s'):PS X st t:=fun pins s σ H D I hw=>
 wpAny_mono (h pins s σ H D (I.O3 _) hw) (fun _ _ q=>q.L4) hi
section
variable{P:Program}{w:World}{K:PySem.W.Frag}{mg:Str->Option Value}{base:Heap}{N:List Str}{qual:Str}{scope:Scope}{f:Addr}{cd:Value}{A:Around}{outer:List Env}{s0:Shared}{H0:Hp}{E:XK}
theorem y2Q{e:Value}{s':Shared}(h:xh (J1 (CX1 P w) P w K mg base N qual scope f cd A outer s0 H0 E) (fun _ C H'=>E C none H') e s'):(J1 (CX1 P w) P w K mg base N qual scope f cd A outer s0 H0 E).xe e s':=by
 obtain⟨pins,σ,H,s,I,a,C,H',B,a0,rfl,hos,hg,un,hok,fl,st,hE⟩:=h
 rcases fl with fl|fl
 ·exact y7l pins σ H s (.ref a) s' I ⟨a,C,H',B,a0,rfl,hos,hg,un,hok,fl,st,hE⟩
 have hf:∀b∈frs (envOfC qual scope s0.heap.objs.size f cd::outer),H' b=none:=fun b hb=>by
  obtain⟨_,o,ho,_⟩:=I.stack.mem hb
  exact un.free b o ho (I.P0 b hb) (fun z=>nomatch z)
 have nf:∀b∈frs (envOfC qual scope s0.heap.objs.size f cd::outer),∃o,s'.heap.get? b=some o/\∀vs,o.data≠.fields vs:=fun b hb=>(fl.2.2.1.mem hb).2
 show wpAny (model P w) (A.deeper (envOfC qual scope s0.heap.objs.size f cd)) (leaving (envOfC qual scope s0.heap.objs.size f cd) (.ref a)) _ _ s'
 unfold leaving
 refine wpAny_bind (wpAny_noteFrame_againW (L:=s0.heap.objs.size) rfl fl.2.2.2 ?_)
 refine wpAny_landsW fl fun h' fl' us=>?_
 have un2:=st.un fl'.1 us nf un
 have ok2:HOk P w H' h':=st.hok fl'.1 hf hok
 have st2:=st.next fl'.1 hok hf (fun b o q=>un.there b o q (fun z=>nomatch z))
 exact⟨a,C,H',B,a0,rfl,hos.trans I.os,hg,I.W4 rfl un2,ok2,⟨fl'.1,fl'.2.1,fl'.2.2.1.2.2,fl'.2.2.2⟩,I.V5 rfl hf st2,hE⟩
theorem y1N:Thr ((J1 (CX1 P w) P w K mg base N qual scope f cd A outer s0 H0 E).O3 (xh (J1 (CX1 P w) P w K mg base N qual scope f cd A outer s0 H0 E) (fun _ C H'=>E C none H'))) (fun _=>E):=
 ⟨fun pins σ H s e s' I h=>w2d ⟨pins,σ,H,s,I.L4,h⟩⟩
theorem y3c{iter tg:Expr}{body:List Stmt}{wi:TI}{g:TG}{tb:TS}{pos:Pos}
  (hi:PI ((J1 (CX1 P w) P w K mg base N qual scope f cd A outer s0 H0 E).O3 (xh (J1 (CX1 P w) P w K mg base N qual scope f cd A outer s0 H0 E) (fun _ C H'=>E C none H'))) tg iter wi)
  (hg:PG ((J1 (CX1 P w) P w K mg base N qual scope f cd A outer s0 H0 E).O3 (xh (J1 (CX1 P w) P w K mg base N qual scope f cd A outer s0 H0 E) (fun _ C H'=>E C none H'))) tg g)
  (hb:PSs ((J1 (CX1 P w) P w K mg base N qual scope f cd A outer s0 H0 E).O3 (xh (J1 (CX1 P w) P w K mg base N qual scope f cd A outer s0 H0 E) (fun _ C H'=>E C none H'))) body tb)
  (hs:∀x,foldedSetIterable iter (J1 (CX1 P w) P w K mg base N qual scope f cd A outer s0 H0 E).env x=pure x:=by intro _;rfl) :
  PS (J1 (CX1 P w) P w K mg base N qual scope f cd A outer s0 H0 E) (.For tg iter body [] pos) (tFor wi g tb):=
 (z1z (y3Q (X:=J1 (CX1 P w) P w K mg base N qual scope f cd A outer s0 H0 E) rfl rfl) rfl hi hg hb hs).imp fun e s' h=>y2Q h
end
end L2
namespace My
open PySem L2
def top(i:Nat):Stmt:=PySem.Challenge.pw_backissues_k38_whole_run.main.body.getD i (.Pass ⟨0,0,0,0⟩)
abbrev z2n:Stmt:=top 21
abbrev z2f:Stmt:=top 22
abbrev z2Y:Stmt:=top 23
abbrev z1l:Stmt:=top 24
abbrev z2D:Stmt:=top 26
abbrev z5j:Stmt:=top 27
abbrev z5Z:Stmt:=top 28
abbrev z1G:Stmt:=top 29
abbrev z3M:Stmt:=top 30
abbrev z1Q:Stmt:=top 31
abbrev z7e:Stmt:=top 33
abbrev z1K:Stmt:=top 35
abbrev z1U:Stmt:=top 36
abbrev z3d:Stmt:=top 37
abbrev z3m:Stmt:=top 38
abbrev z2F:Stmt:=z1i (top 39) 0
abbrev z17:Stmt:=z1i (top 39) 1
abbrev z2K:Stmt:=z1i (top 39) 2
abbrev z3l:Stmt:=z1i (top 39) 3
abbrev z2N:Stmt:=z1i (top 39) 4
abbrev z2T:Stmt:=z1i (top 41) 0
abbrev z6v:Stmt:=z1i (top 41) 1
abbrev z6r:Stmt:=z1i (top 41) 2
abbrev z3T:Stmt:=z1i (top 41) 3
abbrev z3a:Stmt:=z1i (top 41) 4
abbrev z3p:Stmt:=z1i (top 41) 5
abbrev z1X:Stmt:=top 45
abbrev z3j:Stmt:=z1i (top 46) 0
abbrev z0R:Stmt:=z1i (top 46) 1
abbrev z0V:Stmt:=z1i (top 46) 2
abbrev z3J:Stmt:=z1i (top 46) 3
abbrev z2M:Stmt:=z1i (top 46) 4
abbrev z4h:Stmt:=z1i (top 46) 5
abbrev z3I:Stmt:=z1i (top 46) 6
abbrev z5g:Stmt:=z1i (top 46) 7
abbrev z4C:Stmt:=z1i (top 46) 8
abbrev z5k:Stmt:=z1i (top 46) 9
abbrev z7L:Stmt:=top 51
abbrev z3f:Stmt:=top 52
abbrev z9t:Stmt:=top 53
abbrev z6h:Stmt:=top 54
abbrev z7i:Stmt:=top 55
abbrev z2V:Stmt:=top 56
abbrev z65:Stmt:=top 57
abbrev z9r:Stmt:=top 59
abbrev z63:Stmt:=top 60
abbrev z80:Stmt:=top 61
abbrev z4F:Stmt:=top 62
abbrev z57:Stmt:=top 63
abbrev z3G:Stmt:=top 64
abbrev z3Q:Stmt:=top 65
abbrev z6q:Stmt:=top 66
abbrev z52:Stmt:=top 67
abbrev z4y:Stmt:=top 68
abbrev z5c:Stmt:=top 69
abbrev z45:Stmt:=top 70
abbrev z62:Stmt:=top 71
abbrev z60:Stmt:=top 72
abbrev z50:Stmt:=top 73
abbrev z51:Stmt:=top 74
abbrev z55:Stmt:=top 75
abbrev z5d:Stmt:=top 76
abbrev z4c:Stmt:=top 77
abbrev z47:Stmt:=top 78
abbrev z3z:Stmt:=top 79
abbrev z61:Stmt:=top 80
abbrev z3H:Stmt:=top 81
abbrev z6o:Stmt:=top 82
abbrev w0N:Stmt:=top 83
abbrev z2k:List Str:=["names"]
abbrev z2l:List Str:=["reach"]
abbrev z29:List Str:=["names","reach"]
abbrev z0M:List Str:=["names","name"]
abbrev z2H:List Str:=["had"]
abbrev z4Y:List Str:=["number","reach"]
abbrev z6f:List Str:=["had","number","reach"]
abbrev z1f:List Str:=["had","reach"]
abbrev z3D:List Str:=["had","reach"]
abbrev z1R:List Str:=["had","reach","behind"]
abbrev z5m:List Str:=["sets","reach"]
abbrev z11:List Str:=["value"]
abbrev z1d:List Str:=["names","rows"]
abbrev z2p:List Str:=["names","rows"]
abbrev z2t:List Str:=["rows"]
abbrev z2E:List Str:=["self","names","reach"]
abbrev z0z:List Str:=["self","rows"]
abbrev z28:List Str:=["self","rows"]
abbrev z3e:List Str:=["self"]
abbrev z0U:List Str:=["self","number"]
abbrev z2X:List Str:=["self","names","reach"]
abbrev z64:List Str:=["self","issue"]
abbrev z2j:List Str:=["self"]
abbrev z5E:List Str:=["self"]
abbrev z3b:List Str:=["self","number"]
abbrev z3h:List Str:=["self","number"]
abbrev z1Z:List Str:=["readers"]
abbrev z3c:List Str:=["self","names","reach","readers"]
abbrev z0y:List Str:=["self","reader"]
abbrev z0s:List Str:=["self"]
abbrev z3B:List Str:=["self","rows"]
abbrev z2Q:List Str:=["self","reader","number"]
abbrev z4d:List Str:=["self"]
abbrev z3R:List Str:=["self","number"]
abbrev z54:List Str:=["self"]
abbrev z4E:List Str:=["self","which"]
abbrev z2Z:List Str:=["self","reader","deed"]
abbrev z4m:List Str:=["shelf","name"]
abbrev z3i:List Str:=["shelf","number","teller"]
abbrev z76:List Str:=["shelf"]
abbrev z4B:List Str:=["shelf","name"]
abbrev z7O:List Str:=["shelf","name"]
abbrev z2S:List Str:=["shelf","name"]
abbrev z6i:List Str:=["shelf"]
abbrev z74:List Str:=["_law_script","_law_k"]
abbrev z4I:List Str:=["_law_cell","_law_size"]
abbrev z5F:List Str:=["_law_cell","_law_many","_law_size"]
abbrev z1M:List Str:=["_law_found","_law_due"]
abbrev z59:List Str:=["_law_cell","_law_many"]
abbrev z3K:List Str:=["_law_names_here","_law_cell"]
abbrev z3O:List Str:=["_law_times"]
abbrev z5Y:List Str:=["_law_names_here","_law_cell","_law_many"]
abbrev z5f:List Str:=["_law_figure","_law_place"]
abbrev z4i:List Str:=["_law_sets_here","_law_cell"]
abbrev z4Z:List Str:=["_law_rows","_law_number","_law_reach"]
abbrev z4e:List Str:=["_law_had","_law_number","_law_reach"]
abbrev z4H:List Str:=["_law_had","_law_rows","_law_reach"]
abbrev z4J:List Str:=["_law_had","_law_rows","_law_name"]
abbrev z3E:List Str:=["_law_gaps_here","_law_number","_law_name"]
abbrev z5b:List Str:=["_law_gaps_here","_law_number","_law_name"]
abbrev z5h:List Str:=["_law_names_here","_law_had","_law_rows","_law_reach"]
abbrev z5a:List Str:=["_law_script"]
abbrev z49:List Str:=["_law_log","_law_reader","_law_done_here"]
abbrev z4q:List Str:=["_law_good","_law_names_here","_law_cell"]
abbrev z3C:List Str:=["_law_rows","_law_names_here"]
abbrev z6n:List Str:=["_law_deed","_law_thing","_law_one","_law_two"]
abbrev z2O:List Str:=["_law_book","_law_log","_law_reader","_law_deed","_law_names_here","_law_rows","_law_reach"]
abbrev z6m:List Str:=["_law_book","_law_log","_law_rows","_law_good","_law_names_here","_law_reach","_law_readers","_law_kind","_law_rest"]
abbrev plaw:List Str:=["_law_script"]
theorem z30:A3 ["names"] z2k (z08 z2n):=scp
theorem z36:A3 ["reach"] z2l (z08 z2f):=scp
theorem z3Y:A3 ["names","reach"] z29 (z08 z2Y):=scp
theorem z1h:A3 ["names","name"] z0M (z08 z1l):=scp
theorem z3s:A3 ["had","latest"] z2H (z08 z2D):=scp
theorem z6G:A3 ["number","reach"] z4Y (z08 z5j):=scp
theorem z7E:A3 ["had","number","reach","tellers"] z6f (z08 z5Z):=scp
theorem z2c:A3 ["had","reach"] z1f (z08 z1G):=scp
theorem z4U:A3 ["had","reach"] z3D (z08 z3M):=scp
theorem z2C:A3 ["had","reach","behind"] z1R (z08 z1Q):=scp
theorem z8j:A3 ["sets","reach","number","ahead"] z5m (z08 z7e):=scp
theorem z1x:A3 ["value"] z11 (z08 z1K):=scp
theorem z1J:A3 ["names","rows","set_names","name","value"] z1d (z08 z1U):=scp
theorem z4o:A3 ["names","rows","values"] z2p (z08 z3d):=scp
theorem z4p:A3 ["rows"] z2t (z08 z3m):=scp
theorem z3u:A3 ["self","names","reach"] z2E (z08 z2F):=scp
theorem z10:A3 ["self","rows"] z0z (z08 z17):=scp
theorem z2q:A3 ["self","rows","number","sets"] z28 (z08 z2K):=scp
theorem z48:A3 ["self"] z3e (z08 z3l):=scp
theorem z2r:A3 ["self","number"] z0U (z08 z2N):=scp
theorem z40:A3 ["self","names","reach"] z2X (z08 z2T):=scp
theorem z7x:A3 ["self","issue","number"] z64 (z08 z6v):=scp
theorem z7b:A3 ["self"] z2j (z08 z6r):=scp
theorem z4S:A3 ["self"] z5E (z08 z3T):=scp
theorem z4b:A3 ["self","number"] z3b (z08 z3a):=scp
theorem z4f:A3 ["self","number"] z3h (z08 z3p):=scp
theorem z2I:A3 ["readers"] z1Z (z08 z1X):=scp
theorem z4w:A3 ["self","names","reach","readers"] z3c (z08 z3j):=scp
theorem z0P:A3 ["self","reader"] z0y (z08 z0R):=scp
theorem z0S:A3 ["self"] z0s (z08 z0V):=scp
theorem z39:A3 ["self","rows","number"] z3B (z08 z3J):=scp
theorem z2o:A3 ["self","reader","number","getting","lacked"] z2Q (z08 z2M):=scp
theorem z5Q:A3 ["self"] z4d (z08 z4h):=scp
theorem z31:A3 ["self","number"] z3R (z08 z3I):=scp
theorem z6L:A3 ["self"] z54 (z08 z5g):=scp
theorem z3S:A3 ["self","which"] z4E (z08 z4C):=scp
theorem z6O:A3 ["self","reader","deed","behind","told","past"] z2Z (z08 z5k):=scp
theorem z8m:A3 ["shelf","name","number","values"] z4m (z08 z7L):=scp
theorem z4l:A3 ["shelf","number","teller"] z3i (z08 z3f):=scp
theorem y07:A3 ["shelf","lacking"] z76 (z08 z9t):=scp
theorem z7m:A3 ["shelf","name","held_from"] z4B (z08 z6h):=scp
theorem z8v:A3 ["shelf","name","held_from","dark_behind"] z7O (z08 z7i):=scp
theorem z3X:A3 ["shelf","name"] z2S (z08 z2V):=scp
theorem z7c:A3 ["shelf"] z6i (z08 z65):=scp
theorem z9N:A3 ["_law_script","_law_k"] z74 (z08 z9r):=scp
theorem z7M:A3 ["_law_cell","_law_size","_law_once"] z4I (z08 z63):=scp
theorem z8d:A3 ["_law_cell","_law_many","_law_size","_law_rest","_law_mixed","_law_figures","_law_k"] z5F (z08 z80):=scp
theorem z7A:A3 ["_law_found","_law_due","_law_k"] z1M (z08 z4F):=scp
theorem z6z:A3 ["_law_cell","_law_many","_law_signs","_law_turn","_law_stem","_law_spot"] z59 (z08 z57):=scp
theorem z4W:A3 ["_law_names_here","_law_cell","_law_near","_law_far","_law_made"] z3K (z08 z3G):=scp
theorem z4Q:A3 ["_law_times","_law_many","_law_turn"] z3O (z08 z3Q):=scp
theorem z83:A3 ["_law_names_here","_law_cell","_law_many","_law_size","_law_sets_here","_law_figure","_law_mask","_law_chosen","_law_name"] z5Y (z08 z6q):=scp
theorem z6y:A3 ["_law_figure","_law_place"] z5f (z08 z52):=scp
theorem z5p:A3 ["_law_sets_here","_law_cell","_law_figures","_law_rows","_law_k","_law_one","_law_place"] z4i (z08 z4y):=scp
theorem z6R:A3 ["_law_rows","_law_number","_law_reach","_law_tail","_law_other"] z4Z (z08 z5c):=scp
theorem z5n:A3 ["_law_had","_law_number","_law_reach","_law_above"] z4e (z08 z45):=scp
theorem z7s:A3 ["_law_had","_law_rows","_law_reach","_law_gaps_here","_law_number","_law_teller_here"] z4H (z08 z62):=scp
theorem z7y:A3 ["_law_had","_law_rows","_law_name","_law_held_here","_law_number","_law_row_here"] z4J (z08 z60):=scp
theorem z6P:A3 ["_law_gaps_here","_law_number","_law_name"] z3E (z08 z50):=scp
theorem z6H:A3 ["_law_gaps_here","_law_number","_law_name"] z5b (z08 z51):=scp
theorem z6x:A3 ["_law_names_here","_law_had","_law_rows","_law_reach","_law_gaps_here","_law_table_here","_law_name","_law_held_here"] z5h (z08 z55):=scp
theorem z6w:A3 ["_law_script"] z5a (z08 z5d):=scp
theorem z5P:A3 ["_law_log","_law_reader","_law_done_here","_law_had","_law_deed"] z49 (z08 z4c):=scp
theorem z5T:A3 ["_law_good","_law_names_here","_law_cell","_law_rows","_law_spoils","_law_name","_law_place","_law_k"] z4q (z08 z47):=scp
theorem z4R:A3 ["_law_rows","_law_names_here","_law_places"] z3C (z08 z3z):=scp
theorem z7Q:A3 ["_law_deed","_law_thing","_law_one","_law_two","_law_flags","_law_fine","e","_law_words"] z6n (z08 z61):=scp
theorem z4P:A3 ["_law_book","_law_log","_law_reader","_law_deed","_law_names_here","_law_rows","_law_reach","_law_shelf","_law_had","_law_gaps_here","_law_name","_law_due"] z2O (z08 z3H):=scp
theorem z7l:A3 ["_law_book","_law_log","_law_rows","_law_good","_law_names_here","_law_reach","_law_readers","_law_kind","_law_rest","_law_code","_law_handed","_law_due","_law_found","_law_reader","_law_number","_law_deed"] z6m (z08 z6o):=scp
theorem y7L:A3 ["_law_script","_law_names_here","_law_goods","_law_reach","_law_readers","_law_book","_law_rows","_law_log","_law_k","_law_cell","_law_rest","_law_number","_law_reader"] plaw (z08 w0N):=scp
structure F5(K:PySem.W.Frag)(mg:Str->Option Value)(C:Addr):Prop where
 cl:Cls K C
 mgC:mg "Office"=some (.ref C)
 n_names:z2R K C "names"
 n_reach:z2R K C "reach"
 n_written:z2R K C "written"
structure F2(K:PySem.W.Frag)(mg:Str->Option Value)(C:Addr):Prop where
 cl:Cls K C
 mgC:mg "Shelf"=some (.ref C)
 n_names:z2R K C "names"
 n_reach:z2R K C "reach"
 n_issues:z2R K C "issues"
structure F0(K:PySem.W.Frag)(mg:Str->Option Value)(C:Addr):Prop where
 cl:Cls K C
 mgC:mg "Book"=some (.ref C)
 n_office:z2R K C "office"
 n_readers:z2R K C "readers"
 n_done:z2R K C "done"
structure Bl(mg:Str->Option Value):Prop where
 len:mg "len"=none
 range:mg "range"=none
 tuple:mg "tuple"=none
 list:mg "list"=none
 max:mg "max"=none
 min:mg "min"=none
 sorted:mg "sorted"=none
 isinstance:mg "isinstance"=none
 bool:mg "bool"=none
 int:mg "int"=none
 str:mg "str"=none
 set:mg "set"=none
 reversed:mg "reversed"=none
 dict:mg "dict"=none
 zip:mg "zip"=none
 all:mg "all"=none
 ValueError:mg "ValueError"=none
 MOST_NAMES:∃t,mg "MOST_NAMES"=some (.int 12 t)
 MOST_REACH:∃t,mg "MOST_REACH"=some (.int 10 t)
 MOST_NUMBERS:∃t,mg "MOST_NUMBERS"=some (.int 60 t)
 MOST_VALUE:∃t,mg "MOST_VALUE"=some (.int 1000000 t)
 MOST_READERS:∃t,mg "MOST_READERS"=some (.int 10 t)
 MOST_DEEDS:∃t,mg "MOST_DEEDS"=some (.int 400 t)
 WRITE:∃t,mg "WRITE"=some (.str "write" t)
 DELIVER:∃t,mg "DELIVER"=some (.str "deliver" t)
 SURE:∃t,mg "SURE"=some (.str "sure" t)
 STALE:∃t,mg "STALE"=some (.str "stale" t)
 OPEN:∃t,mg "OPEN"=some (.str "open" t)
theorem z01{H:Hp}{p:Addr}(h:H p=none)(o:HO):A4 H (upd H p o):=fun b u q=>by rw[z0f (z0r q h)];exact q
theorem z3L{H H':Hp}{l:Addr}{o:HO}(hs:A4 H H')(hl:H l=none):A4 H (upd H' l o):=fun b u e=>by rw[z0f (z0r e hl)];exact hs b u e
theorem z99{n:Nat}(h:n≤1000):n≤sizeLine:=fG (z0i h)
theorem y12{ns:List Int}{k:Int}(h0:0≤k)(h:k<(ns.length:Int)):atI (ns.map V.int) k=some (.int (ns.getD k.toNat 0)):=by
 have hk:k.toNat<ns.length:=by lia
 have ek:k=((k.toNat:Nat):Int):=by lia
 have q:atI (ns.map V.int) ((k.toNat:Nat):Int)=some (.int (ns.getD k.toNat 0)):=z15 (by
  rw[bL,bH hk,bV,bH hk]<;>rfl)
 rw[<- ek] at q
 exact q
theorem z5V{K:PySem.W.Frag}{H H':Hp}{a:Addr}{xs:List V}(e:A4 H H')(h:SqT K H a xs):SqT K H' a xs:=by
 rcases h with (h|⟨o,h⟩)|h
 ·exact .inl (.inl (e _ _ h))
 ·exact .inl (.inr ⟨o,e _ _ h⟩)
 ·exact .inr h
theorem z0Q{p:Prop}[Decidable p](h:decide p=true):p:=of_decide_eq_true h
theorem z46{p:Prop}[Decidable p](h:¬decide p=true):¬p:=fun q=>h (decide_eq_true q)
section
variable{P:Program}{w:World}{K:PySem.W.Frag}{mg:Str->Option Value}{base:Heap}{f:Addr}{fd:FuncData}
theorem z2P:∀{l1 l2:List Int},l1.Pairwise (· < ·)->l2.Pairwise (· < ·)->(∀x,x∈l1↔x∈l2)->l1=l2
 | [],[],_,_,_=>rfl
 | [],y::_,_,_,h=>by have:=(h y).mpr bX;cases this
 | x::_,[],_,_,h=>by have:=(h x).mp bX;cases this
 | x::r,y::t,p1,p2,h=>by
  rw[hU] at p1 p2
  have e:x=y:=by
   rcases bC.mp ((h x).mp bX) with e|hx
   ·exact e
   ·rcases bC.mp ((h y).mpr bX) with e|hy
    ·exact e.symm
    ·have:=p1.1 y hy
     have:=p2.1 x hx
     lia
  subst e
  refine congrArg (x::·) (z2P p1.2 p2.2 fun z=>⟨fun hz=>?_,fun hz=>?_⟩)
  ·rcases bC.mp ((h z).mp (bP _ hz)) with e|q
   ·have:=p1.1 z hz
    lia
   ·exact q
  ·rcases bC.mp ((h z).mpr (bP _ hz)) with e|q
   ·have:=p2.1 z hz
    lia
   ·exact q
theorem z2a(lo:Int):∀n,(upI lo n).Pairwise (· < ·)
 | 0=>List.Pairwise.nil
 | n+1=>by
  rw[z6Z]
  refine gQ.mpr ⟨z2a lo n,List.pairwise_singleton _ _,fun x hx y hy=>?_⟩
  have h1:=z1O.mp hx
  rw[bA.mp hy]
  lia
theorem y6n(lo:Int)(n:Nat):V9 lo n=(upI lo n).map V.int:=by
 unfold V9 upI
 rw[eI]
 rfl
noncomputable def w1b(K:PySem.W.Frag):Sp:=fun vs H Q _=>∃(a:Addr) (ns:List Int) (k:Int),vs=[.ref a,.int k]/\SqL K H a (ns.map V.int)/\0≤k/\Q (.int (ns.getD k.toNat 0)) H
theorem w2k(M:Bl mg)(F:Fun K "_law_at" "_law_at" z9r f fd):A8 P w K mg base CX0 1 f fd z74 (w1b K):=by
 have nd:=z9N.nd
 refine F.ok z9N (fun vs H Q E h=>?_) (fun cdv A outer s H vs Q E hr h=>?_)
 ·obtain⟨a,ns,k,rfl,_⟩:=h
  rfl
 obtain⟨a,ns,k,rfl,hS,h0,q⟩:=h
 refine⟨_,(z04 (z0H (z0a z43 (pv 1) (z09 z07 rfl M.len bD (z00 (pv 0) z02)) (z0h _)) (z05 (z0d (z0N z0L (pv 0) (pv 1) (fun _ _=>rfl)))) z0j) (z05 (z0d z06))),?_⟩
 have hl:(ns.map V.int).length=ns.length:=b6 _
 refine⟨_,rfl,_,rfl,a,_,rfl,.inl hS,_,_,rfl,rfl,_,rfl,?_⟩
 refine B6 (fun c=>?_) (fun c=>?_)
 ·have c':=z0Q c
  rw[hl] at c'
  exact⟨_,rfl,_,rfl,a,_,_,_,rfl,rfl,hS,y12 h0 c',q⟩
 ·have c':=z46 c
  rw[hl] at c'
  have e:ns.getD k.toNat 0=0:=by rw[bV,List.getElem?_eq_none (by lia)];rfl
  rw[e] at q
  exact q
noncomputable def y2Z:Sp:=fun vs H Q _=>∃c n:Int,vs=[.int c,.int n]/\0<n/\∀r,0≤r->r<n->Q (.int r) H
theorem y6h(F:Fun K "_law_pick" "_law_pick" z63 f fd):A8 P w K mg base CX0 1 f fd z4I y2Z:=by
 have nd:=z7M.nd
 refine F.ok z7M (fun vs H Q E h=>?_) (fun cdv A outer s H vs Q E hr h=>?_)
 ·obtain⟨c,n,rfl,_⟩:=h
  rfl
 obtain⟨c,n,rfl,hn,q⟩:=h
 refine⟨_,(z04 (z0H (z0a z2y (z0e z0I (pv 0) z06) z06 (z0h _)) (z05 (z0d (z0e z0I (z0e z0K (pv 0) z06) (pv 1)))) z0j) (z04 (z0k (i:=2) nd rfl (Or.inl rfl) (z0e z0I (z0e z5s (z0e z0K (pv 0) z06) z06) z06)) (z05 (z0d (z0e z0I (z0e z0I (z0e z5s (z0e z1q (pv 2) z06) z06) z06) (pv 1)))))),?_⟩
 refine⟨_,rfl,_,_,rfl,rfl,(by show(0:Int)<2;decide),rfl,_,rfl,?_⟩
 refine B6 (fun _=>?_) (fun _=>?_)
 ·exact⟨_,rfl,_,_,rfl,rfl,⟨by decide,by decide⟩,_,rfl,_,_,rfl,rfl,hn,q _ (cJ _ (by lia)) (cA _ hn)⟩
 ·refine⟨_,rfl,_,_,rfl,rfl,⟨by decide,by decide⟩,_,_,rfl,rfl,.inr ⟨by decide,by decide⟩,_,_,rfl,rfl,(by show(0:Int)<2147483647;decide),?_⟩
  refine⟨_,rfl,_,_,rfl,rfl,_,_,rfl,rfl,.inr ⟨by decide,by decide⟩,_,_,rfl,rfl,(by show(0:Int)<2147483647;decide),_,rfl,_,_,rfl,rfl,hn,?_⟩
  exact q _ (cJ _ (by lia)) (cA _ hn)
noncomputable def z7z:Nat->Sp
 | 0=>fun _ _ _ _=>False
 | n+1=>fun vs H Q _=>∃x y,vs=[x,y]/\z44 H n x y/\∀H',A4 H H'->Q (.bl true) H'
theorem y3d:A8 P w K mg base CX0 0 f fd z1M (z7z 0):=
 ⟨fun vs H Q E h=>h.elim,fun A outer s H args us vs Q E _ _ _ _ h=>h.elim⟩
noncomputable def tyOf:V->String
 | .non=>"NoneType"
 | .bl _=>"bool"
 | .int _=>"int"
 | _=>"str"
theorem z5e{H:Hp}{x:V}(h:y2m x=true):S7 K H x (.type (tyOf x)):=by
 cases x with
 | non=>exact .non
 | bl b=>exact .bl b
 | int i=>exact .int i
 | str z=>exact .str z
 | _=>exact absurd h bO
noncomputable def kitB:V->String->Bool
 | .bl _,T=>T == "bool" || T == "int"
 | .int _,T=>T == "int"
 | .str _,T=>T == "str"
 | _,_=>false
theorem z75(T:String)(hT:T="tuple"\/T="bool"\/T="int"\/T="str"){x:V}(h:y2m x=true):PySem.W.kitOne K (.type (tyOf x)) (.type T)=some (kitB x T):=by
 cases x with
 | non=>rcases hT with rfl|rfl|rfl|rfl<;>kernel_rfl
 | bl b=>rcases hT with rfl|rfl|rfl|rfl<;>kernel_rfl
 | int i=>rcases hT with rfl|rfl|rfl|rfl<;>kernel_rfl
 | str z=>rcases hT with rfl|rfl|rfl|rfl<;>kernel_rfl
 | _=>exact absurd h bO
theorem y2v(x:V):kitB x "tuple"=false:=by cases x<;>rfl
theorem y45:PySem.W.kitOne K (.type "tuple") (.type "tuple")=some true:=by kernel_rfl
theorem y5A{xs:List V}{i:Nat}(h:i<xs.length):∃v,xs[i]? = some v/\atI xs (i:Int)=some v:=⟨xs[i],bH h,z15 (bH h)⟩
theorem y6M{x:V}(h:y2m x=true):w0G x x=true:=by
 cases x<;>first|rfl|exact absurd h bO
theorem y5Z{n:Nat}(M:Bl mg)(F:Fun K "_law_same" "_law_same" z4F f fd)(B9:Cal P w K mg base n "_law_same" z1M (z7z n)) :
  A8 P w K mg base CX0 (n+1) f fd z1M (z7z (n+1)):=by
 have nd:=z7A.nd
 refine F.ok z7A (fun vs H Q E h=>?_) (fun cdv A outer s H vs Q E hr h=>?_)
 ·obtain⟨x,y,rfl,_⟩:=h
  rfl
 obtain⟨x,y,rfl,ha,q⟩:=h
 refine⟨_,(z04 (z0H (z41 (z09 z1B rfl M.isinstance bR (z00 (pv 1) (z00 (z3U (v:=.ty "tuple") rfl M.tuple bT rfl) z02)))) (z04 (z0H (PW.pt (z3n (z4A (z41 (z09 z1B rfl M.isinstance bR (z00 (pv 0) (z00 (z3U (v:=.ty "tuple") rfl M.tuple bT rfl) z02))))) (z22 (z0a z86 (z09 z07 rfl M.len bD (z00 (pv 0) z02)) (z09 z07 rfl M.len bD (z00 (pv 1) z02)) (z0h _))))) (z05 (z0d z3v)) z0j) (z04 (z1z cG rfl (z1T rfl M.range (z00 (z09 z07 rfl M.len bD (z00 (pv 1) z02)) z02)) (z0m (i:=2) nd rfl (Or.inl rfl)) (z05 (z0H (z4A (z41 (z0l B9 (rm hr) rfl (z00 (z0N z19 (pv 0) (pv 2) (fun _ _=>rfl)) (z00 (z0N z19 (pv 1) (pv 2) (fun _ _=>rfl)) z02))))) (z05 (z0d z3v)) z0j))) (z05 (z0d z3v)))) z0j) (z04 (z0H (PW.pt (z3n (z0a z86 (z09 z1B rfl M.isinstance bR (z00 (pv 0) (z00 (z3U (v:=.ty "bool") rfl M.bool PyProof.Rows.boot_bool rfl) z02))) (z09 z1B rfl M.isinstance bR (z00 (pv 1) (z00 (z3U (v:=.ty "bool") rfl M.bool PyProof.Rows.boot_bool rfl) z02))) (z0h _)) (z22 (z0a z86 (z09 z1B rfl M.isinstance bR (z00 (pv 0) (z00 (z3U (v:=.ty "int") rfl M.int PyProof.Rows.boot_int rfl) z02))) (z09 z1B rfl M.isinstance bR (z00 (pv 1) (z00 (z3U (v:=.ty "int") rfl M.int PyProof.Rows.boot_int rfl) z02))) (z0h _))))) (z05 (z0d z3v)) z0j) (z04 (z0H (PW.pt (z3n (z0a z86 (z09 z1B rfl M.isinstance bR (z00 (pv 0) (z00 (z3U (v:=.ty "str") rfl M.str PyProof.Rows.boot_str rfl) z02))) (z09 z1B rfl M.isinstance bR (z00 (pv 1) (z00 (z3U (v:=.ty "str") rfl M.str PyProof.Rows.boot_str rfl) z02))) (z0h _)) (z22 (z0a z86 (y5w (y4j (pv 0))) (y5w (y4j (pv 1))) (z0h _))))) (z05 (z0d z3v)) z0j) (z05 (z0d (z9y z2y (pv 0) (pv 1) (z0h _))))))),?_⟩
 have ha':(x=y/\y2m x=true)\/∃(m:Nat) (a b:Addr) (xs ys:List V),n=m+1/\x=.ref a/\y=.ref b/\H a=some (.tup xs)/\H b=some (.tup ys)/\xs.length=ys.length/\ys.length≤1000000/\
   ∀(i:Nat) (u v:V),xs[i]? = some u->ys[i]? = some v->z44 H m u v:=by
  cases n with
  | zero=>exact .inl ha
  | succ n=>
   rcases ha with ha|⟨a,b,xs,ys,e1,e2,h1,h2,hl,hm,hi⟩
   ·exact .inl ha
   ·exact .inr ⟨n,a,b,xs,ys,rfl,e1,e2,h1,h2,hl,hm,hi⟩
 rcases ha' with ⟨rfl,hs⟩|⟨m,a,b,xs,ys,rfl,rfl,rfl,h1,h2,hl,hm,hi⟩
 ·have k1:=z75 (K:=K) "tuple" (.inl rfl) hs
  have k2:=z75 (K:=K) "bool" (.inr (.inl rfl)) hs
  have k3:=z75 (K:=K) "int" (.inr (.inr (.inl rfl))) hs
  have k4:=z75 (K:=K) "str" (.inr (.inr (.inr rfl))) hs
  rw[y2v] at k1
  refine⟨_,rfl,_,_,_,_,rfl,z5e hs,k1,_,rfl,C8 ?_⟩
  refine⟨_,rfl,_,_,_,_,rfl,z5e hs,k2,_,rfl,_,_,_,_,rfl,z5e hs,k2,rfl,_,rfl,?_⟩
  rw[decide_eq_true rfl]
  refine C8 ⟨_,rfl,_,_,_,_,rfl,z5e hs,k3,_,rfl,_,_,_,_,rfl,z5e hs,k3,rfl,_,rfl,?_⟩
  rw[decide_eq_true rfl]
  refine C8 ?_
  refine⟨_,rfl,_,_,_,_,rfl,z5e hs,k4,_,rfl,_,_,_,_,rfl,z5e hs,k4,rfl,_,rfl,?_⟩
  rw[decide_eq_true rfl]
  refine C8 ⟨_,rfl,_,rfl,rfl,_,rfl,?_⟩
  rw[decide_eq_true rfl]
  refine C8 ?_
  refine⟨_,rfl,_,rfl,y6M hs,?_⟩
  rw[decide_eq_true rfl]
  exact q H (A4.refl H)
 ·refine⟨_,rfl,_,_,_,_,rfl,.tup h2,y45,_,rfl,J5 ?_⟩
  refine⟨_,rfl,_,_,_,_,rfl,.tup h1,y45,_,rfl,C8 ?_⟩
  refine⟨_,rfl,a,xs,rfl,.inr (SqT.of h1),_,rfl,b,ys,rfl,.inr (SqT.of h2),rfl,_,rfl,?_⟩
  rw[hl,decide_eq_true rfl]
  refine C8 ?_
  refine⟨_,rfl,b,ys,rfl,.inr (SqT.of h2),_,rfl,by lia,by lia,?_⟩
  refine z1E (lo:=0) (n:=ys.length) (fun _ σ H'=>A4 H H'/\∃o,σ=[some (.ref a),some (.ref b),o]) ⟨A4.refl H,_,rfl⟩ (fun i σ H' hi' hp=>?_) (fun σ H' hp=>?_)
  ·obtain⟨hS,o,rfl⟩:=hp
   obtain⟨u,hu,au⟩:=y5A (xs:=xs) (i:=i) (by lia)
   obtain⟨v,hv,av⟩:=y5A (xs:=ys) (i:=i) hi'
   have ei:(0:Int)+(i:Int)=(i:Int):=fU _
   refine⟨_,rfl,_,rfl,a,_,_,_,rfl,rfl,SqT.of (hS _ _ h1),(by rw[ei];exact au),_,rfl,_,rfl,b,_,_,_,rfl,rfl,SqT.of (hS _ _ h2),(by rw[ei];exact av),?_⟩
   refine⟨u,v,rfl,(hi i u v hu hv).keep hS,fun H2 hS2=>⟨_,rfl,?_⟩⟩
   exact C8 ⟨hS.trans hS2,_,rfl⟩
  ·obtain⟨hS,o,rfl⟩:=hp
   exact q H' hS
theorem y1p(M:Bl mg)(F:Fun K "_law_same" "_law_same" z4F f fd)(B:z1u K fd z1M [])(N:mg "_law_same"=some (.ref f)) :
  ∀n,Cal P w K mg base n "_law_same" z1M (z7z n)
 | 0=>.mk' y3d B F.kp N
 | n+1=>.mk' (y5Z M F (y1p M F B N n)) B F.kp N
theorem y32{ns:List Int}{n:Nat}(h:ns.length≤n)(hn:n≤1000):(ns.map V.int).length<sizeLine:=z0i (by rw[b6];lia)
noncomputable def y6W:Sp:=fun vs H Q _=>∃c m z:Int,vs=[.int c,.int m,.int z]/\0≤m/\m≤900/\0<z/\z<1073741824/\
 ∀(l:Addr) (ns:List Int) (H':Hp),H l=none->A4 H H'->H' l=some (.lst (ns.map V.int))->ns.length=m.toNat->(∀x∈ns,0≤x/\x<z)->Q (.ref l) H'
theorem y73(M:Bl mg)(F:Fun K "_law_row" "_law_row" z80 f fd):A8 P w K mg base CX0 1 f fd z5F y6W:=by
 have nd:=z8d.nd
 refine F.ok z8d (fun vs H Q E h=>?_) (fun cdv A outer s H vs Q E hr h=>?_)
 ·obtain⟨c,m,z,rfl,_⟩:=h
  rfl
 obtain⟨c,m,z,rfl,m0,m1,z0,z1,q⟩:=h
 refine⟨_,(z04 (z0k (i:=3) nd rfl (Or.inl rfl) (z0e z0K (pv 0) z06)) (z04 (z0k (i:=4) nd rfl (Or.inl rfl) (z0e z0I (z0e z5s (pv 3) z06) z06)) (z04 (z0k (i:=5) nd rfl (Or.inl rfl) (z0T z02)) (z04 (z1z cG rfl (z1T rfl M.range (z00 (pv 1) z02)) (z0m (i:=6) nd rfl (Or.inl rfl)) (z04 (z0k (i:=4) nd rfl (Or.inl rfl) (z0e z0I (z0e z1q (z0e z1q (z0e z5s (pv 4) z06) (pv 6)) z06) z06)) (z05 (z0H (z0a z2y (z0e z0I (pv 0) z06) z06 (z0h _)) (z04 (z0x (z26 bJ bQ bS z0G (pv 5) (z00 (z0e z0I (pv 3) (pv 2)) z02))) (z05 (z0k (i:=3) nd rfl (Or.inl rfl) (z0e z0K (pv 3) (pv 2))))) (z05 (z0x (z26 bJ bQ bS z0G (pv 5) (z00 (z0e z0I (z0e z0K (pv 4) z06) (pv 2)) z02)))))))) (z05 (z0d (pv 5))))))),?_⟩
 refine⟨_,rfl,_,_,rfl,rfl,⟨by decide,by decide⟩,?_⟩
 refine⟨_,rfl,_,_,rfl,rfl,.inr ⟨by decide,by decide⟩,_,_,rfl,rfl,(by show(0:Int)<2147483647;decide),?_⟩
 refine⟨(by show 0≤sizeLine;decide),fun l hl=>?_⟩
 refine⟨_,rfl,_,rfl,by lia,by lia,?_⟩
 refine z1E (lo:=0) (n:=m.toNat) (fun i σ H'=>∃(ns:List Int) (r mx:Int) (o:Option V),ns.length=i/\(∀x∈ns,0≤x/\x<z)/\H'=upd H l (.lst (ns.map V.int))/\
  σ=[some (.int c),some (.int m),some (.int z),some (.int r),some (.int mx),some (.ref l),o]) ⟨[],_,_,_,rfl,(fun _ h=>nomatch h),rfl,rfl⟩ (fun i σ H' hi hp=>?_) (fun σ H' hp=>?_)
 ·obtain⟨ns,r,mx,o,hlen,C7,rfl,rfl⟩:=hp
  refine⟨_,rfl,_,_,rfl,rfl,.inr ⟨by decide,by decide⟩,_,rfl,_,_,rfl,rfl,_,_,rfl,rfl,_,_,rfl,rfl,(by show(0:Int)<2147483647;decide),?_⟩
  refine⟨_,rfl,_,_,rfl,rfl,(by show(0:Int)<2;decide),rfl,_,rfl,?_⟩
  have grow:∀y:Int,(∀x∈ns++[y%z],0≤x/\x<z):=fun y x hx=>by
   rcases cB.mp hx with h|h
   ·exact C7 x h
   ·rw[bA.mp h]
    exact⟨cJ _ (by lia),cA _ z0⟩
  have put:∀y:Int,upd (upd H l (.lst (ns.map V.int))) l (.lst (ns.map V.int++[.int (y%z)]))=upd H l (.lst ((ns++[y%z]).map V.int)):=fun y=>by
   rw[z82,bI]
   rfl
  refine B6 (fun _=>?_) (fun _=>?_)
  ·refine⟨_,rfl,.inl ⟨rfl,_,SqL.of z03⟩,_,rfl,_,rfl,_,_,rfl,rfl,z0,l,_,_,rfl,rfl,z03,y32 (n:=i) (by lia) (by lia),?_⟩
   refine⟨_,rfl,_,rfl,_,_,rfl,rfl,⟨z0,z1⟩,?_⟩
   exact⟨ns++[r%z],_,_,_,by rw[bF,hlen];rfl,grow r,put r,rfl⟩
  ·refine⟨_,rfl,.inl ⟨rfl,_,SqL.of z03⟩,_,rfl,_,_,rfl,rfl,⟨by decide,by decide⟩,_,rfl,_,_,rfl,rfl,z0,l,_,_,rfl,rfl,z03,y32 (n:=i) (by lia) (by lia),?_⟩
   exact⟨ns++[_%z],_,_,_,by rw[bF,hlen];rfl,grow _,put _,rfl⟩
 ·obtain⟨ns,r,mx,o,hlen,C7,rfl,rfl⟩:=hp
  exact⟨_,rfl,q l ns _ hl (z01 hl _) z03 hlen C7⟩
theorem z4G(x:Int)(ns:List Int):inV (.int x) (ns.map V.int)=decide (x∈ns):=by
 unfold inV
 rw[d8,fV,gJ,decide_eq_true_eq]
 constructor
 ·rintro⟨y,hy,e⟩
  have e':(y == x)=true:=e
  rw[<- eq_of_beq e']
  exact hy
 ·intro h
  exact⟨x,h,show(x == x)=true from beq_self_eq_true x⟩
theorem z3w(ns:List Int):(ns.map V.int).all z1t=true:=by
 rw[j8,eF]
 intro x _
 rfl
noncomputable def z1Y(ns:List Int):List Int:=(upI 1 60).filter fun x=>decide (x∉ns) && decide (∃y∈ns,x<y)
theorem z5x{ns:List Int}{x:Int}:x∈z1Y ns↔(1≤x/\x<1+60)/\x∉ns/\∃y∈ns,x<y:=by
 unfold z1Y
 rw[cM,z1O,bU,decide_eq_true_eq,decide_eq_true_eq]
 rfl
theorem z6p(ns:List Int):(z1Y ns).Pairwise (· < ·):=(z2a 1 60).filter _
theorem z2x(ns:List Int):(z1Y ns).length≤60:=by
 have h:=cE (fun x=>decide (x∉ns) && decide (∃y∈ns,x<y)) (upI 1 60)
 rw[z13] at h
 exact h
theorem y4k{ns:List Int}{m:Int}(hm:m∈ns)(C7:∀x∈ns,1≤x/\x≤60)(top:∀y∈ns,y≤m):(upI 1 (m+1-1).toNat).filter (fun x=>!decide (x∈ns))=z1Y ns:=
 z2P ((z2a _ _).filter _) (z6p _) fun x=>by
  have hm':=C7 m hm
  rw[cM,z1O,z5x,gC,decide_eq_false_iff_not]
  constructor
  ·rintro⟨⟨a,b⟩,c⟩
   refine⟨by lia,c,m,hm,?_⟩
   have:x≠m:=fun e=>c (e ▸ hm)
   lia
  ·rintro⟨a,b,y,hy,c⟩
   have:=top y hy
   exact⟨by lia,b⟩
theorem y02:z1Y []=[]:=by
 refine z2P (z6p _) .nil fun x=>?_
 rw[z5x]
 constructor
 ·rintro⟨_,_,y,hy,_⟩
  cases hy
 ·intro h
  cases h
theorem SqI.keep{K:PySem.W.Frag}{H H':Hp}{a:Addr}{ns:List Int}(e:A4 H H')(h:SqI K H a ns):SqI K H' a ns:=by
 rcases h with h|h
 ·exact .inl (e.seq h)
 ·rcases h with (h|⟨o,h⟩)|h
  ·exact .inr (.inl (.inl (e _ _ h)))
  ·exact .inr (.inl (.inr ⟨o,e _ _ h⟩))
  ·exact .inr (.inr h)
theorem z8E{c:Int->Bool}{t:Int}:∀{l:List Int},l.Pairwise (· < ·)->t∈l->c t=true->(∀y∈l,c y=true->t≤y)->l.find? c=some t
 | [],_,h,_,_=>by cases h
 | x::r,p,h,hc,hm=>by
  rw[hU] at p
  rw[dB]
  rcases bC.mp h with rfl|h
  ·rw[hc]
  ·cases e:c x with
   | true=>
    have h1:=p.1 t h
    have h2:=hm x bX e
    lia
   | false=>exact z8E p.2 h hc fun y hy=>hm y (bP _ hy)
theorem y4c{c:Int->Bool}{t:Int}:∀{l:List Int},l.Pairwise (· < ·)->l.find? c=some t->t∈l/\c t=true/\∀y∈l,c y=true->t≤y
 | [],_,h=>by cases h
 | x::r,p,h=>by
  rw[hU] at p
  rw[dB] at h
  cases e:c x with
  | true=>
   rw[e] at h
   have h':x=t:=Option.some.inj h
   subst h'
   refine⟨bX,e,fun y hy _=>?_⟩
   rcases bC.mp hy with rfl|hy
   ·exact e7 _
   ·have:=p.1 y hy
    lia
  | false=>
   rw[e] at h
   obtain⟨h1,h2,h3⟩:=y4c p.2 h
   refine⟨bP _ h1,h2,fun y hy hc=>?_⟩
   rcases bC.mp hy with rfl|hy
   ·rw[e] at hc
    cases hc
   ·exact h3 y hy hc
noncomputable def y21(ns:List Int)(n r:Int)(y:Int):Bool:=decide (n<y) && decide (y-r≤n) && decide (y∈ns)
noncomputable def z14(ns:List Int)(n r:Int):Int:=((upI 1 60).find? (y21 ns n r)).getD 0
theorem z5o{ns:List Int}{n r y:Int}:y21 ns n r y=true↔n<y/\y-r≤n/\y∈ns:=by
 unfold y21
 rw[bU,bU,decide_eq_true_eq,decide_eq_true_eq,decide_eq_true_eq,and_assoc]
theorem y1o{ns:List Int}{n r t:Int}(C7:∀x∈ns,1≤x/\x≤60)(ht:t∈ns)(h1:n<t)(h2:t-r≤n)(hm:∀y∈ns,n<y->y-r≤n->t≤y):z14 ns n r=t:=by
 unfold z14
 rw[z8E (z2a 1 60) (t:=t) (z1O.mpr (by have:=C7 t ht;lia)) (z5o.mpr ⟨h1,h2,ht⟩) fun y _ hy=>by
  obtain⟨a,b,c⟩:=z5o.mp hy
  exact hm y c a b]
 rfl
theorem z6d{ns:List Int}{n r:Int}(h:∀y∈ns,n<y->¬y-r≤n):z14 ns n r=0:=by
 unfold z14
 have e:(upI 1 60).find? (y21 ns n r)=none:=List.find?_eq_none.mpr fun y _ hy=>by
  obtain⟨a,b,c⟩:=z5o.mp hy
  exact h y c a b
 rw[e]
 rfl
noncomputable def z9M(K:PySem.W.Frag):Sp:=fun vs H Q _=>∃(p:Addr) (ns:List Int) (n r:Int),vs=[.ref p,.int n,.int r]/\SqL K H p (ns.map V.int)/\(∀x∈ns,1≤x/\x≤60)/\ns.length≤900/\0≤r/\
 ∀H',A4 H H'->Q (.int (z14 ns n r)) H'
theorem y2o(M:Bl mg)(F:Fun K "_law_teller" "_law_teller" z45 f fd):A8 P w K mg base CX0 1 f fd z4e (z9M K):=by
 have nd:=z5n.nd
 refine F.ok z5n (fun vs H Q E h=>?_) (fun cdv A outer s H vs Q E hr h=>?_)
 ·obtain⟨p,ns,n,r,rfl,_⟩:=h
  rfl
 obtain⟨p,ns,n,r,rfl,hS,C7,hlen,r0,q⟩:=h
 refine⟨_,(z04 (z4s (i:=3) ["_law_other"] ["_law_number"] [1] rfl nd rfl (Or.inl rfl) (z0w rfl (by decide +kernel) rfl (by decide +kernel) rfl rfl) (z1r (pv 0)) (fun _ _ _ _ _=>(z0m (i:=0) (show((["_law_other"]:List PySem.Str)++(["_law_number"]:List PySem.Str)).Nodup from by decide +kernel) rfl (Or.inl rfl))) (z0B (by decide)) z0c (fun _ _ _ _ _=>(z2m (z0a z1N (pv 0) (pv 1) (z0h _)))) (fun _ _ _ _ _=>(pv 0))) (z04 (z0H (PW.pt (z3n (z0a (y78 hr.Y7) (pv 3) (z0T z02) (z0h _)) (z22 (z0a z1N (z0e z2J (z09 (y0u rfl) rfl M.min gM (z00 (pv 3) z02)) (pv 1)) (pv 2) (z0h _))))) (z05 (z0d z06)) z0j) (z05 (z0d (z09 (y0u rfl) rfl M.min gM (z00 (pv 3) z02)))))),?_⟩
 refine⟨_,rfl,p,rfl,⟨_,hS⟩,?_⟩
 refine y0c (ns:=ns) (fun y=>decide (n<y)) (fun y=>.int y) hS (by lia) (fun y ys N hy hN=>?_) (fun D hD=>?_)
 ·refine⟨_,rfl,_,rfl,_,_,rfl,rfl,_,rfl,?_⟩
  refine B6 (fun c=>?_) (fun c=>?_)
  ·rw[if_pos c] at hN
   exact⟨_,rfl,hN⟩
  ·rw[if_neg c] at hN
   exact hN
 have eD:upd H D (.lst (z2L (fun y=>decide (n<y)) (fun y=>V.int y) ns)) D=some (.lst ((ns.filter fun y=>decide (n<y)).map V.int)):=z03
 have sD:=z01 hD (.lst (z2L (fun y=>decide (n<y)) (fun y=>V.int y) ns))
 generalize upd H D (.lst (z2L (fun y=>decide (n<y)) (fun y=>V.int y) ns))=H1 at eD sD
 have mem:∀y,y∈ns.filter (fun y=>decide (n<y))↔y∈ns/\n<y:=fun y=>by rw[cM,decide_eq_true_eq]
 generalize ns.filter (fun y=>decide (n<y))=ab at eD mem
 refine⟨_,rfl,(by show 0≤sizeLine;decide),fun e0 he0=>⟨D,e0,_,rfl,rfl,SqL.of (z01 he0 _ _ _ eD),SqL.of z03,_,rfl,?_⟩⟩
 have s2:=sD.trans (z01 he0 (.lst []))
 cases ab with
 | nil=>
  refine J5 ?_
  have e:z14 ns n r=0:=z6d fun y hy h1 _=>by
   have:=(mem y).mpr ⟨hy,h1⟩
   cases this
  exact(by rw[<- e];exact q _ s2)
 | cons y0 yr=>
  refine C8 ?_
  have eL:=z01 he0 (.lst []) _ _ eD
  generalize upd H1 e0 (.lst [])=H2 at s2 eL
  refine⟨_,rfl,D,_,rfl,.inl (SqL.of eL),by simp,fun m hm hl=>⟨_,rfl,_,_,rfl,rfl,_,rfl,_,_,rfl,rfl,_,rfl,?_⟩⟩
  have hm':=(mem m).mp hm
  refine B6 (fun c=>?_) (fun c=>?_)
  ·have c':r<m-n:=z0Q c
   have e:z14 ns n r=0:=z6d fun y hy h1 h2=>by
    have:=hl y ((mem y).mpr ⟨hy,h1⟩)
    lia
   exact(by rw[<- e];exact q _ s2)
  ·have c':¬r<m-n:=z46 c
   refine⟨_,rfl,D,_,rfl,.inl (SqL.of eL),by simp,fun m2 hm2 hl2=>?_⟩
   have h2:=(mem m2).mp hm2
   have e:z14 ns n r=m2:=y1o C7 h2.1 h2.2 (by have:=hl2 m hm;lia) fun y hy h1 _=>hl2 y ((mem y).mpr ⟨hy,h1⟩)
   exact(by rw[<- e];exact q _ s2)
noncomputable def sgL:List Nat:=(("mM ~aA0.xX_9":Str).cps.toList)
theorem y10:sgL.length=12:=by decide +kernel
theorem y3l:sgL.Nodup:=by decide +kernel
abbrev w05:Str:="a stranger of twenty"
abbrev z8a:Str:="a long stem of them"
structure Nms(nm:List Str):Prop where
 nd:nm.Nodup
 lo:∀x∈nm,1≤x.length
 hi:∀x∈nm,x.length≤20
 far:w05∉nm
 low:∀x∈nm,∀c∈x.cps.toList,c<16^8
theorem z68(a b:Str):(a++b).cps.toList=a.cps.toList++b.cps.toList:=by
 show(a.cps++b.cps).toList=_
 simp
theorem y6f(c:Nat):(⟨#[c]⟩:Str).cps.toList=[c]:=rfl
theorem z4a{α β:Type}{g:α->β}:∀{l:List α},l.Nodup->(∀x∈l,∀y∈l,g x=g y->x=y)->(l.map g).Nodup
 | [],_,_=>List.nodup_nil
 | x::r,n,h=>by
  rw[dA] at n
  rw[cP,dA]
  refine⟨fun hm=>?_,z4a n.2 fun a ha b hb=>h a (bP _ ha) b (bP _ hb)⟩
  obtain⟨y,hy,e⟩:=cF.mp hm
  have:=h x bX y (bP _ hy) e.symm
  exact n.1 (this ▸ hy)
theorem y03(lo:Int)(n:Nat):(upI lo n).Nodup:=(z2a lo n).imp fun {a b} h=>by lia
theorem y1D{t a b:Int}(ht:0≤t)(ht2:t<12)(a0:0≤a)(a1:a<12)(b0:0≤b)(b1:b<12)(h:(t+a)%12=(t+b)%12):a=b:=by lia
noncomputable def w0b(c:Nat)(t k:Int):Str:=w0f ⟨#[c]⟩ (1+(t+k)%12).toNat
theorem z5v(c:Nat)(t k:Int):(w0b c t k).length=(1+(t+k)%12).toNat:=by
 unfold w0b
 rw[<- z0Y]
 show((List.replicate _ [c]).flatten.toArray).toList.length=_
 simp
theorem y6b{c:Nat}(hc:c<16^8){t:Int}(h0:0≤t)(h1:t<12){m:Nat}(hm:m≤12):Nms ((upI 0 m).map (w0b c t)) where
 nd:=z4a (y03 _ _) fun a ha b hb e=>by
  have ha':=z1O.mp ha
  have hb':=z1O.mp hb
  have e2:=congrArg Str.length e
  rw[z5v,z5v] at e2
  exact y1D h0 h1 (by lia) (by lia) (by lia) (by lia) (by lia)
 lo:=fun x hx=>by
  obtain⟨k,hk,rfl⟩:=cF.mp hx
  rw[z5v]
  lia
 hi:=fun x hx=>by
  obtain⟨k,hk,rfl⟩:=cF.mp hx
  rw[z5v]
  lia
 far:=fun hx=>by
  obtain⟨k,hk,e⟩:=cF.mp hx
  have e2:=congrArg Str.length e
  rw[z5v] at e2
  have e3:w05.length=20:=by decide +kernel
  lia
 low:=fun x hx d hd=>by
  obtain⟨k,hk,rfl⟩:=cF.mp hx
  have hd':d∈(List.replicate (1+(t+k)%12).toNat [c]).flatten:=hd
  obtain⟨l,hl,hm⟩:=List.mem_flatten.mp hd'
  rw[(List.mem_replicate.mp hl).2,bA] at hm
  rw[hm]
  exact hc
noncomputable def z9u(st:Str)(sp:Int)(t k:Int):Str:=P2 st none (some sp)++⟨#[sgL.getD ((t+k)%12).toNat 0]⟩++P2 st (some sp) none
theorem y1n{n d:Nat}{v:Int}(h0:0≤v)(h1:v≤n):HT.sIx n d (some v)=v.toNat:=by
 show(if v<0 then (v+(n:Int)).toNat else min v.toNat n)=_
 rw[if_neg (by lia),Nat.min_eq_left (by lia)]
theorem y5M(st:Str){sp:Int}(h0:0≤sp)(h1:sp≤st.length):(P2 st none (some sp)).cps.toList=st.cps.toList.take sp.toNat:=by
 show((st.cps.toList.drop 0).take (HT.sIx st.length st.length (some sp)-0))=_
 rw[y1n h0 h1,g0,j9]
theorem y5O(st:Str){sp:Int}(h0:0≤sp)(h1:sp≤st.length):(P2 st (some sp) none).cps.toList=st.cps.toList.drop sp.toNat:=by
 show((st.cps.toList.drop (HT.sIx st.length 0 (some sp))).take (st.length-HT.sIx st.length 0 (some sp)))=_
 rw[y1n h0 h1,d5]
 rw[dC,z0Y]
 exact bG _
theorem z4z(st:Str){sp:Int}(h0:0≤sp)(h1:sp≤st.length)(t k:Int):(z9u st sp t k).cps.toList=st.cps.toList.take sp.toNat++sgL.getD ((t+k)%12).toNat 0::st.cps.toList.drop sp.toNat:=by
 unfold z9u
 rw[z68,z68,y5M st h0 h1,y5O st h0 h1,y6f,fB]
 rfl
theorem z7j(st:Str){sp:Int}(h0:0≤sp)(h1:sp≤st.length)(t k:Int):(z9u st sp t k).length=st.length+1:=by
 rw[<- z0Y,z4z st h0 h1,bF,bY,bM,dC,z0Y]
 lia
theorem y4t:∀s<20,∀i<12,z8a.cps.toList.take s++sgL.getD i 0::z8a.cps.toList.drop s≠w05.cps.toList:=by decide +kernel
theorem y55{st:Str}(hst:st=""\/st="row"\/st=z8a){sp:Int}(h0:0≤sp)(h1:sp≤st.length){t:Int}(t0:0≤t)(t1:t<12){m:Nat}(hm:m≤12):Nms ((upI 0 m).map (z9u st sp t)) where
 nd:=z4a (y03 _ _) fun a ha b hb e=>by
  have ha':=z1O.mp ha
  have hb':=z1O.mp hb
  have e2:(z9u st sp t a).cps.toList=(z9u st sp t b).cps.toList:=congrArg (fun z:Str=>z.cps.toList) e
  rw[z4z st h0 h1,z4z st h0 h1] at e2
  have e3:=List.append_cancel_left e2
  have e4:sgL.getD ((t+a)%12).toNat 0=sgL.getD ((t+b)%12).toNat 0:=(List.cons.inj e3).1
  have l1:((t+a)%12).toNat<sgL.length:=by rw[y10];lia
  have l2:((t+b)%12).toNat<sgL.length:=by rw[y10];lia
  rw[bV,bH l1,bV,bH l2] at e4
  have e5:=(List.getElem_inj y3l).mp e4
  exact y1D t0 t1 (by lia) (by lia) (by lia) (by lia) (by lia)
 lo:=fun x hx=>by
  obtain⟨k,hk,rfl⟩:=cF.mp hx
  rw[z7j st h0 h1]
  lia
 hi:=fun x hx=>by
  obtain⟨k,hk,rfl⟩:=cF.mp hx
  rw[z7j st h0 h1]
  have l1:("":Str).length=0:=by decide +kernel
  have l2:("row":Str).length=3:=by decide +kernel
  have l3:z8a.length=19:=by decide +kernel
  rcases hst with rfl|rfl|rfl<;>lia
 far:=fun hx=>by
  obtain⟨k,hk,e⟩:=cF.mp hx
  have l1:("":Str).length=0:=by decide +kernel
  have l2:("row":Str).length=3:=by decide +kernel
  have l3:z8a.length=19:=by decide +kernel
  have l4:w05.length=20:=by decide +kernel
  have e2:=congrArg Str.length e
  rw[z7j st h0 h1] at e2
  rcases hst with rfl|rfl|rfl
  ·lia
  ·lia
  ·have e3:(z9u z8a sp t k).cps.toList=w05.cps.toList:=congrArg (fun z:Str=>z.cps.toList) e
   rw[z4z z8a h0 h1] at e3
   exact y4t sp.toNat (by lia) ((t+k)%12).toNat (by lia) e3
 low:=fun x hx d hd=>by
  obtain⟨k,hk,rfl⟩:=cF.mp hx
  rw[z4z st h0 h1] at hd
  have l1:∀c∈("":Str).cps.toList,c<16^8:=by decide +kernel
  have l2:∀c∈("row":Str).cps.toList,c<16^8:=by decide +kernel
  have l3:∀c∈z8a.cps.toList,c<16^8:=by decide +kernel
  have l4:∀i<12,sgL.getD i 0<16^8:=by decide +kernel
  have ls:∀c∈st.cps.toList,c<16^8:=by rcases hst with rfl|rfl|rfl<;>assumption
  rcases cB.mp hd with hd|hd
  ·exact ls d (dE hd)
  ·rcases bC.mp hd with rfl|hd
   ·exact l4 _ (by lia)
   ·exact ls d (gR hd)
noncomputable def y3A:Sp:=fun vs H Q _=>∃c m:Int,vs=[.int c,.int m]/\0≤m/\m≤12/\
 ∀(l:Addr) (nm:List Str) (H':Hp),H l=none->A4 H H'->H' l=some (.lst (nm.map V.str))->nm.length=m.toNat->Nms nm->Q (.ref l) H'
theorem y1V{f:Int->V}(l:List Int):z2L (fun _=>true) f l=l.map f:=by
 unfold z2L
 rw[List.filter_eq_self.mpr fun _ _=>rfl]
theorem y5r(M:Bl mg)(F:Fun K "_law_named" "_law_named" z57 f fd):A8 P w K mg base CX0 1 f fd z59 y3A:=by
 have nd:=z6z.nd
 refine F.ok z6z (fun vs H Q E h=>?_) (fun cdv A outer s H vs Q E hr h=>?_)
 ·obtain⟨c,m,rfl,_⟩:=h
  rfl
 obtain⟨c,m,rfl,m0,m1,q⟩:=h
 refine⟨_,(z04 (z0k (i:=2) nd rfl (Or.inr rfl) z0F) (z04 (z0k (i:=3) nd rfl (Or.inr rfl) (z0e z0I (z0e z0K (pv 0) z06) z06)) (z04 (z0H (z0a z2y (z0e z0I (pv 0) z06) z06 (z0h _)) (z05 (z0d (z1n ["_law_k"] ["_law_cell","_law_turn"] [0,3] rfl (z0w rfl (by decide +kernel) rfl (by decide +kernel) rfl rfl) (z1T rfl M.range (z00 (pv 1) z02)) (fun _ _ _ _ _=>(z0m (i:=0) (show((["_law_k"]:List PySem.Str)++(["_law_cell","_law_turn"]:List PySem.Str)).Nodup from by decide +kernel) rfl (Or.inl rfl))) (z0B (by decide)) z0c (fun _ _ _ _ _=>z20) (fun _ _ _ _ _=>(z0e y2p (z0N y2y z0F (z0e z0I (z0e z0K (pv 1) z06) z06) (fun _ _=>rfl)) (z0e z1q z06 (z0e z0I (z0e z1q (pv 2) (pv 0)) z06))))))) z0j) (z04 (z0k (i:=4) nd rfl (Or.inr rfl) (z0N z0L (z0T (z00 z0F (z00 z0F (z00 z0F z02)))) (z0e z0I (pv 0) z06) (fun _ _=>rfl))) (z04 (z0k (i:=5) nd rfl (Or.inr rfl) (z0e z0I (z0e z0K (pv 0) z06) (z0e z1q (z09 z6J rfl M.len bD (z00 (pv 4) z02)) z06))) (z05 (z0d (z1n ["_law_k"] ["_law_stem","_law_signs","_law_spot","_law_turn"] [4,2,5,3] rfl (z0w rfl (by decide +kernel) rfl (by decide +kernel) rfl rfl) (z1T rfl M.range (z00 (pv 1) z02)) (fun _ _ _ _ _=>(z0m (i:=0) (show((["_law_k"]:List PySem.Str)++(["_law_stem","_law_signs","_law_spot","_law_turn"]:List PySem.Str)).Nodup from by decide +kernel) rfl (Or.inl rfl))) (z0B (by decide)) z0c (fun _ _ _ _ _=>z20) (fun _ _ _ _ _=>(z0e z4D (z0e z4D (z33 y3e (pv 1) z58 (z3A (pv 3))) (z0N y2y (pv 2) (z0e z0I (z0e z1q (pv 4) (pv 0)) z06) (fun _ _=>rfl))) (z33 y3e (pv 1) (z3A (pv 3)) z58))))))))))),?_⟩
 have t0:0≤c / 4%12:=cJ _ (by decide)
 have t1:c / 4%12<12:=cA _ (by decide)
 refine⟨_,rfl,_,_,rfl,rfl,⟨by decide,by decide⟩,_,_,rfl,rfl,(by show(0:Int)<12;decide),?_⟩
 refine⟨_,rfl,_,_,rfl,rfl,(by show(0:Int)<4;decide),rfl,_,rfl,?_⟩
 refine B6 (fun _=>?_) (fun cn=>?_)
 ·obtain⟨sg,hsg,hsl⟩:∃sg,atI (("a ~":Str).cps.toList) (c / 48%3)=some sg/\sg<16^8:=by
   have h0:0≤c / 48%3:=cJ _ (by decide)
   have h1:c / 48%3<3:=cA _ (by decide)
   have ek:c / 48%3=(((c / 48%3).toNat:Nat):Int):=by lia
   have hl:(("a ~":Str).cps.toList).length=3:=by decide +kernel
   rw[ek]
   have all:∀c∈("a ~":Str).cps.toList,c<16^8:=by decide +kernel
   exact⟨_,z15 (bH (by rw[hl];lia)),all _ (dD _)⟩
  refine⟨_,rfl,_,rfl,by lia,by lia,?_⟩
  refine z92 (lo:=0) (n:=m.toNat) (fun _=>true) (fun k=>.str (w0b sg (c / 4%12) k)) (by lia) (fun k ys N k0 k1 hN=>?_) ?_
  ·refine⟨_,rfl,_,_,rfl,rfl,⟨by decide,by decide⟩,_,_,rfl,rfl,(by show(0:Int)<3;decide),_,_,sg,rfl,rfl,(by decide +kernel),hsg,?_⟩
   refine⟨_,rfl,_,rfl,_,_,rfl,rfl,_,_,rfl,rfl,(by show(0:Int)<12;decide),_,_,rfl,rfl,_,_,rfl,rfl,?_,?_,?_,?_⟩
   ·have:=cJ (c / 4%12+k) (show(12:Int)≠0 by decide)
    lia
   ·have:=cA (c / 4%12+k) (show(0:Int)<12 by decide)
    lia
   ·show 1≤1000
    decide
   ·exact hN
  ·intro D hD
   rw[y1V]
   refine q D ((upI 0 m.toNat).map (w0b sg (c / 4%12))) _ hD (z01 hD _) ?_ (by rw[b6,z13]) (y6b hsl t0 t1 (by lia))
   rw[z03,eI]
   rfl
 ·have c4:c%4=0\/c%4=1\/c%4=2:=by
   have h1:=cJ c (show(4:Int)≠0 by decide)
   have h2:=cA c (show(0:Int)<4 by decide)
   have h3:c%4≠3:=fun e=>cn (decide_eq_true (congrArg V.int e))
   lia
  obtain⟨st,hat,hst⟩:∃st:Str,atI [V.str "",V.str "row",V.str "a long stem of them"] (c%4)=some (.str st)/\(st=""\/st="row"\/st=z8a):=by
   rcases c4 with e|e|e<;>rw[e]
   ·exact⟨_,rfl,.inl rfl⟩
   ·exact⟨_,rfl,.inr (.inl rfl)⟩
   ·exact⟨_,rfl,.inr (.inr rfl)⟩
  have stl:st.length≤19:=by
   have l1:("":Str).length=0:=by decide +kernel
   have l2:("row":Str).length=3:=by decide +kernel
   have l3:z8a.length=19:=by decide +kernel
   rcases hst with rfl|rfl|rfl<;>lia
  refine⟨(by show 3≤sizeLine;decide),fun p hp=>⟨_,rfl,_,_,rfl,rfl,(by show(0:Int)<4;decide),p,_,_,_,rfl,rfl,SqL.of z03,hat,?_⟩⟩
  refine⟨_,rfl,_,_,rfl,rfl,⟨by decide,by decide⟩,_,rfl,st,rfl,z99 (by lia),_,_,rfl,rfl,_,_,rfl,rfl,by lia,?_⟩
  have s0:0≤c / 48%((st.length:Int)+1):=cJ _ (by lia)
  have s1:c / 48%((st.length:Int)+1)≤(st.length:Int):=by
   have:=cA (c / 48) (show(0:Int)<(st.length:Int)+1 by lia)
   lia
  refine⟨_,rfl,_,rfl,by lia,by lia,?_⟩
  refine z92 (lo:=0) (n:=m.toNat) (fun _=>true) (fun k=>.str (z9u st (c / 48%((st.length:Int)+1)) (c / 4%12) k)) (by lia) (fun k ys N k0 k1 hN=>?_) ?_
  ·have i0:=cJ (c / 4%12+k) (show(12:Int)≠0 by decide)
   have i1:=cA (c / 4%12+k) (show(0:Int)<12 by decide)
   have hsg:atI (("mM ~aA0.xX_9":Str).cps.toList) ((c / 4%12+k)%12)=some (sgL.getD ((c / 4%12+k)%12).toNat 0):=by
    have ek:(c / 4%12+k)%12=((((c / 4%12+k)%12).toNat:Nat):Int):=by lia
    have l1:((c / 4%12+k)%12).toNat<sgL.length:=by rw[y10];lia
    have q1:atI sgL ((((c / 4%12+k)%12).toNat:Nat):Int)=some (sgL.getD ((c / 4%12+k)%12).toNat 0):=z15 (by
     rw[bV,bH l1]
     rfl)
    rw[<- ek] at q1
    exact q1
   have la:(P2 st none (some (c / 48%((st.length:Int)+1)))).length≤19:=by
    rw[<- z0Y,y5M st s0 s1,bM,z0Y]
    lia
   have lb:(P2 st (some (c / 48%((st.length:Int)+1))) none).length≤19:=by
    rw[<- z0Y,y5O st s0 s1,dC,z0Y]
    lia
   have lc:∀(x:Nat),(⟨#[x]⟩:Str).length=1:=fun _=>rfl
   have lab:∀(x:Nat),(P2 st none (some (c / 48%((st.length:Int)+1)))++(⟨#[x]⟩:Str)).length≤20:=fun x=>by
    rw[<- z0Y,z68,bF,z0Y,z0Y,lc]
    lia
   refine⟨_,rfl,_,rfl,_,rfl,st,rfl,z99 (by lia),?_⟩
   refine⟨_,rfl,_,rfl,_,rfl,_,_,rfl,rfl,_,_,rfl,rfl,(by show(0:Int)<12;decide),_,_,_,rfl,rfl,(by decide +kernel),hsg,?_⟩
   refine⟨_,_,rfl,rfl,z99 (by rw[lc];lia),?_⟩
   refine⟨_,rfl,_,rfl,_,rfl,st,rfl,z99 (by lia),_,_,rfl,rfl,z99 (by have:=lab (sgL.getD ((c / 4%12+k)%12).toNat 0);lia),?_⟩
   exact hN
  ·intro D hD
   rw[y1V]
   refine q D ((upI 0 m.toNat).map (z9u st (c / 48%((st.length:Int)+1)) (c / 4%12))) _ ((z01 hp _).free hD) ((z01 hp _).trans (z01 hD _)) ?_ (by rw[b6,z13]) (y55 hst s0 s1 t0 t1 (by lia))
   rw[z03,eI]
   rfl
noncomputable def y0j:Sp:=fun vs H Q _=>∃t:Int,vs=[.int t]/\0≤t/\t<1000000/\Q (.int (2^t.toNat)) H
theorem y25(M:Bl mg)(F:Fun K "_law_doubled" "_law_doubled" z3Q f fd):A8 P w K mg base CX0 1 f fd z3O y0j:=by
 have nd:=z4Q.nd
 refine F.ok z4Q (fun vs H Q E h=>?_) (fun cdv A outer s H vs Q E hr h=>?_)
 ·obtain⟨t,rfl,_⟩:=h
  rfl
 obtain⟨t,rfl,t0,t1,q⟩:=h
 refine⟨_,(z04 (z0k (i:=1) nd rfl (Or.inl rfl) z06) (z04 (z1z cG rfl (z1T rfl M.range (z00 (pv 0) z02)) (z0m (i:=2) nd rfl (Or.inl rfl)) (z05 (z0k (i:=1) nd rfl (Or.inl rfl) (z0e z5s (pv 1) z06)))) (z05 (z0d (pv 1))))),?_⟩
 refine⟨_,rfl,_,rfl,by lia,by lia,?_⟩
 refine z1E (lo:=0) (n:=t.toNat) (fun i σ H'=>H'=H/\∃o,σ=[some (.int t),some (.int (2^i)),o]) ⟨rfl,_,rfl⟩ (fun i σ H' hi hp=>?_) (fun σ H' hp=>?_)
 ·obtain⟨rfl,o,rfl⟩:=hp
  refine⟨_,rfl,_,_,rfl,rfl,.inr ⟨by decide,by decide⟩,rfl,some (.int (0+(i:Int))),?_⟩
  rw[Int.pow_succ]
  rfl
 ·obtain⟨rfl,o,rfl⟩:=hp
  exact⟨_,rfl,q⟩
def y0h(H:Hp)(l:Addr)(v:V)(s:List Str):Prop:=∃a,v=.ref a/\a≠l/\H a=some (.lst (s.map V.str))
theorem y0h.keep{H H':Hp}(g:A4 H H'){l:Addr}{v:V}{s:List Str}(h:y0h H l v s):y0h H' l v s:=let ⟨a,e,n,q⟩:=h;⟨a,e,n,g _ _ q⟩
theorem y0h.over{H:Hp}{l:Addr}{o:HO}{v:V}{s:List Str}(h:y0h H l v s):y0h (upd H l o) l v s:=let ⟨a,e,n,q⟩:=h;⟨a,e,n,by rw[z0f n];exact q⟩
abbrev z2d(H:Hp)(l:Addr):List V->List (List Str)->Prop:=Paired (y0h H l)
theorem z2d.keep{H H':Hp}(g:A4 H H'){l:Addr}:∀{xs:List V}{ss:List (List Str)},z2d H l xs ss->z2d H' l xs ss
 | _,_,.nil=>.nil
 | _,_,.cons r t=>.cons (r.keep g) (z2d.keep g t)
theorem z2d.over{H:Hp}{l:Addr}{o:HO}:∀{xs:List V}{ss:List (List Str)},z2d H l xs ss->z2d (upd H l o) l xs ss
 | _,_,.nil=>.nil
 | _,_,.cons r t=>.cons r.over (z2d.over t)
theorem z2d.len{H:Hp}{l:Addr}:∀{xs:List V}{ss:List (List Str)},z2d H l xs ss->xs.length=ss.length
 | _,_,.nil=>rfl
 | _,_,.cons _ t=>by rw[bY,bY,z2d.len t]
theorem z2d.get{H:Hp}{l:Addr}:∀{xs:List V}{ss:List (List Str)},z2d H l xs ss->∀(i:Nat) (s:List Str),ss[i]? = some s->∃v,xs[i]? = some v/\y0h H l v s
 | _,_,.nil,i,s,e=>by simp at e
 | _,_,.cons r t,0,s,e=>by
  simp at e
  subst e
  exact⟨_,rfl,r⟩
 | _,_,.cons r t,i+1,s,e=>by
  obtain⟨v,h1,h2⟩:=z2d.get t i s (by simpa using e)
  exact⟨v,by simpa using h1,h2⟩
theorem z2B(ns:List Str):(ns.map V.str).all z1t=true:=by
 rw[j8,eF]
 intro x _
 rfl
theorem z9k{ns:List Str}{k:Int}(h0:0≤k)(h:k<(ns.length:Int)):∃x,ns[k.toNat]? = some x/\atI (ns.map V.str) k=some (.str x):=by
 have hk:k.toNat<ns.length:=by lia
 have ek:k=((k.toNat:Nat):Int):=by lia
 have q:atI (ns.map V.str) ((k.toNat:Nat):Int)=some (.str ns[k.toNat]):=z15 (by rw[bL,bH hk];rfl)
 rw[<- ek] at q
 exact⟨_,bH hk,q⟩
noncomputable def y5Q(K:PySem.W.Frag):Sp:=fun vs H Q _=>∃(ln:Addr) (nm:List Str) (c m:Int),vs=[.ref ln,.int c,.int m]/\SqL K H ln (nm.map V.str)/\1≤nm.length/\nm.length≤12/\0≤m/\m≤900/\
 ∀(l:Addr) (xs:List V) (ss:List (List Str)) (H':Hp),H l=none->A4 H H'->H' l=some (.lst xs)->z2d H' l xs ss->ss.length=m.toNat->(∀s∈ss,s.Sublist nm)->Q (.ref l) H'
theorem two_pow_le{n:Nat}(h:n≤12):(1:Int)≤2^n/\(2:Int)^n≤4096:=by
 have:∀k≤12,(1:Int)≤2^k/\(2:Int)^k≤4096:=by decide
 exact this n h
theorem y6y(M:Bl mg)(F:Fun K "_law_sets" "_law_sets" z6q f fd)(L8:Cal P w K mg base 1 "_law_row" z5F y6W)(N4:Cal P w K mg base 1 "_law_doubled" z3O y0j) :
  A8 P w K mg base CX0 2 f fd z5Y (y5Q K):=by
 have nd:=z83.nd
 refine F.ok z83 (fun vs H Q E h=>?_) (fun cdv A outer s H vs Q E hr h=>?_)
 ·obtain⟨ln,nm,c,m,rfl,_⟩:=h
  rfl
 obtain⟨ln,nm,c,m,rfl,hS,n1,n2,m0,m1,q⟩:=h
 refine⟨_,(z04 (z0k (i:=3) nd rfl (Or.inl rfl) (z0l N4 (rm hr) rfl (z00 (z09 z07 rfl M.len bD (z00 (pv 0) z02)) z02))) (z04 (z0k (i:=4) nd rfl (Or.inl rfl) (z0T z02)) (z04 (z1z cG rfl (z1r (z0l L8 (rm hr) rfl (z00 (pv 1) (z00 (pv 2) (z00 (z0e z5s z06 (pv 3)) z02))))) (z0m (i:=5) nd rfl (Or.inl rfl)) (z04 (z0k (i:=6) nd rfl (Or.inl rfl) (z0e z0I (pv 5) (pv 3))) (z04 (z0k (i:=7) nd rfl (Or.inl rfl) (z0T z02)) (z04 (z1z cG rfl (z1r (pv 0)) (z0m (i:=8) nd rfl (Or.inl rfl)) (z04 (z0H (z0a z2y (z0e z0I (pv 6) z06) z06 (z0h _)) (z05 (z0x (z26 bJ bQ bS z0G (pv 7) (z00 (pv 8) z02)))) z0j) (z05 (z0k (i:=6) nd rfl (Or.inl rfl) (z0e z0K (pv 6) z06))))) (z04 (z0H (z0a z2y (z0e z0K (pv 5) (pv 3)) z06 (z0h _)) (z05 (z0k (i:=7) nd rfl (Or.inl rfl) (z0T (z00 (z0N z0L (pv 0) (z0e z0I (pv 5) (z09 z07 rfl M.len bD (z00 (pv 0) z02))) (fun _ _=>rfl)) z02)))) z0j) (z04 (z0H (z0a z2y (z0e z0K (pv 5) (pv 3)) z06 (z0h _)) (z05 (z0k (i:=7) nd rfl (Or.inl rfl) (z0T z02))) z0j) (z04 (z0H (z0a z2y (z0e z0K (pv 5) (pv 3)) z06 (z0h _)) (z05 (z0k (i:=7) nd rfl (Or.inl rfl) (z0v z4k rfl M.list gG (z00 (pv 0) z02)))) z0j) (z05 (z0x (z26 bJ bQ bS z0G (pv 4) (z00 (pv 7) z02))))))))))) (z05 (z0d (pv 4)))))),?_⟩
 have hl0:(nm.map V.str).length=nm.length:=b6 _
 refine⟨_,rfl,ln,_,rfl,.inl hS,_,rfl,by lia,by lia,?_⟩
 have pw:=two_pow_le n2
 rw[hl0]
 have ez:(2:Int)^(((nm.length:Nat):Int).toNat)=2^nm.length:=rfl
 rw[ez]
 generalize hz:(2:Int)^nm.length=z at pw ⊢
 refine⟨(by show 0≤sizeLine;decide),fun l hl=>?_⟩
 refine⟨_,rfl,_,rfl,_,rfl,_,_,rfl,rfl,.inl ⟨by decide,by decide⟩,c,m,4*z,rfl,m0,m1,by lia,by lia,fun lf fs H1 nlf s1 e1 Z5 all1=>?_⟩
 have sl:=z01 (H:=H) hl (.lst [])
 have nl:lf≠l:=fun e=>by rw[e,z03] at nlf;cases nlf
 have el1:H1 l=some (.lst []):=s1 _ _ z03
 refine⟨lf,rfl,⟨_,SqL.of e1⟩,?_⟩
 refine z2u (xs:=fs.map V.int) (fun i σ H'=>∃(xs:List V) (ss:List (List Str)) (o1 o2 o3 o4:Option V),H' l=some (.lst xs)/\z2d H' l xs ss/\ss.length=i/\(∀s∈ss,s.Sublist nm)/\H' lf=some (.lst (fs.map V.int))/\A4 H H'/\
  σ=[some (.ref ln),some (.int c),some (.int m),some (.int z),some (.ref l),o1,o2,o3,o4]) ⟨[],[],_,_,_,_,el1,.nil,rfl,(fun _ h=>nomatch h),e1,sl.trans s1,rfl⟩ (fun i σ H' hi hp=>?_) (fun i x σ H' hx hp=>?_) (fun σ H' hp=>?_)
 ·obtain⟨xs,ss,o1,o2,o3,o4,_,_,_,_,h2,_⟩:=hp
  exact SqL.of h2
 ·obtain⟨xs,ss,o1,o2,o3,o4,p1,p2,p3,p4,p5,p6,rfl⟩:=hp
  rw[bL] at hx
  cases ef:fs[i]? with
  | none=>rw[ef] at hx;cases hx
  | some g=>
   rw[ef] at hx
   cases hx
   have hg:=all1 g (bZ ef)
   have hi:i<fs.length:=(cO.mp ef).1
   have lx:=p2.len
   have cd:CDiv g z:=⟨by lia,by lia⟩
   refine⟨_,rfl,_,rfl,_,_,rfl,rfl,(by lia),?_⟩
   refine⟨(by show 0≤sizeLine;decide),fun a ha=>?_⟩
   have nal:a≠l:=fun e=>by rw[e,p1] at ha;cases ha
   have naf:a≠lf:=fun e=>by rw[e,p5] at ha;cases ha
   refine⟨_,rfl,ln,rfl,⟨_,(p6.trans (z01 ha _)).seq hS⟩,?_⟩
   refine z2u (xs:=nm.map V.str) (fun k σ H2=>∃(ch:List Str) (mk:Int) (o4:Option V),ch.Sublist (nm.take k)/\H2=upd H' a (.lst (ch.map V.str))/\
    σ=[some (.ref ln),some (.int c),some (.int m),some (.int z),some (.ref l),some (.int g),some (.int mk),some (.ref a),o4]) ⟨[],_,_,hZ _,rfl,rfl⟩ (fun k σ H2 hk hp=>?_) (fun k y σ H2 hy hp=>?_) (fun σ H2 hp=>?_)
   ·obtain⟨ch,mk,o4,_,rfl,_⟩:=hp
    exact(p6.trans (z01 ha _)).seq hS
   ·obtain⟨ch,mk,o4,hch,rfl,rfl⟩:=hp
    rw[bL] at hy
    cases en:nm[k]? with
    | none=>rw[en] at hy;cases hy
    | some nk=>
     rw[en] at hy
     cases hy
     have tk:=z0C en
     have hcl:ch.length≤12:=by
      have:=hch.length_le
      rw[bM] at this
      lia
     refine⟨_,rfl,_,_,rfl,rfl,(by show(0:Int)<2;decide),rfl,_,rfl,?_⟩
     refine B6 (fun _=>?_) (fun _=>?_)
     ·refine⟨_,rfl,.inl ⟨rfl,_,SqL.of z03⟩,_,rfl,a,_,_,rfl,rfl,z03,z0i (by rw[b6];lia),?_⟩
      refine⟨_,rfl,_,_,rfl,rfl,⟨by decide,by decide⟩,ch++[nk],_,some (.str nk),?_,?_,rfl⟩
      ·rw[tk]
       exact hch.append (hZ _)
      ·rw[z82,bI]
       rfl
     ·refine⟨_,rfl,_,_,rfl,rfl,⟨by decide,by decide⟩,ch,_,some (.str nk),?_,rfl,rfl⟩
      rw[tk]
      exact hch.trans (List.sublist_append_left _ _)
   ·obtain⟨ch,mk,o4,hch,rfl,rfl⟩:=hp
    rw[b6,bW] at hch
    have fin:∀(b:Addr) (cs:List Str) (H3:Hp) (o2 o4:Option V),cs.Sublist nm->b≠l->H3 b=some (.lst (cs.map V.str))->A4 (upd H' a (.lst (ch.map V.str))) H3->
      ∃(xs':List V) (ss':List (List Str)) (o1' o2' o3' o4':Option V),upd H3 l (.lst (xs++[.ref b])) l=some (.lst xs')/\z2d (upd H3 l (.lst (xs++[.ref b]))) l xs' ss'/\ss'.length=i+1/\(∀s∈ss',s.Sublist nm)/\
       upd H3 l (.lst (xs++[.ref b])) lf=some (.lst (fs.map V.int))/\A4 H (upd H3 l (.lst (xs++[.ref b])))/\
       ([some (.ref ln),some (.int c),some (.int m),some (.int z),some (.ref l),some (.int g),o2,some (.ref b),o4]:St)=[some (.ref ln),some (.int c),some (.int m),some (.int z),some (.ref l),o1',o2',o3',o4']:=by
     intro b cs H3 o2 o4 hcs hb hb3 g3
     have g4:A4 H' H3:=(z01 ha _).trans g3
     refine⟨_,ss++[cs],_,_,_,_,z03,?_,by rw[bF,p3];rfl,fun s' hs'=>?_,?_,z3L (p6.trans g4) hl,rfl⟩
     ·exact gZ (p2.keep g4).over ⟨b,rfl,hb,by rw[z0f hb];exact hb3⟩
     ·rcases cB.mp hs' with h|h
      ·exact p4 s' h
      ·rw[bA.mp h]
       exact hcs
     ·rw[z0f nl]
      exact g4 _ _ p5
    have el:∀{H3:Hp},A4 (upd H' a (.lst (ch.map V.str))) H3->H3 l=some (.lst xs):=fun {H3} g3=>g3 _ _ ((z01 ha _) _ _ p1)
    have app:∀{H3:Hp},A4 (upd H' a (.lst (ch.map V.str))) H3->xs.length<sizeLine:=fun _=>z0i (by lia)
    refine⟨_,rfl,_,rfl,_,_,rfl,rfl,cd,rfl,_,rfl,?_⟩
    refine B6 (fun d1=>?_) (fun d1=>?_)
    ·obtain⟨x1,hx1,ax1⟩:=z9k (ns:=nm) (k:=g%(((nm.map V.str).length:Nat):Int)) (cJ _ (by lia)) (by rw[hl0];exact cA _ (by lia))
     have q1:g / z=1:=V.int.inj (z0Q d1)
     refine⟨_,rfl,_,rfl,_,rfl,ln,_,rfl,.inl ((p6.trans (z01 ha _)).seq hS),_,_,rfl,rfl,(by rw[hl0];lia),ln,_,_,_,rfl,rfl,(p6.trans (z01 ha _)).seq hS,ax1,(by show 1≤sizeLine;decide),fun b1 hb1=>?_⟩
     have g1:=z01 hb1 (.lst [.str x1])
     have sub1:[x1].Sublist nm:=List.singleton_sublist.mpr (bZ hx1)
     refine⟨_,rfl,_,rfl,_,_,rfl,rfl,cd,rfl,_,rfl,?_⟩
     refine B6 (fun d=>absurd (show g / z=2 from V.int.inj (z0Q d)) (by lia)) (fun _=>⟨_,rfl,_,rfl,_,_,rfl,rfl,cd,rfl,_,rfl,?_⟩)
     refine B6 (fun d=>absurd (show g / z=3 from V.int.inj (z0Q d)) (by lia)) (fun _=>?_)
     refine⟨_,rfl,.inl ⟨rfl,_,SqL.of (el g1)⟩,_,rfl,l,_,_,rfl,rfl,el g1,app g1,?_⟩
     exact fin b1 [x1] _ _ _ sub1 (fun e=>by rw[e,(z01 ha (.lst (ch.map V.str))) _ _ p1] at hb1;cases hb1) z03 g1
    ·refine⟨_,rfl,_,rfl,_,_,rfl,rfl,cd,rfl,_,rfl,?_⟩
     refine B6 (fun d2=>?_) (fun d2=>?_)
     ·have q2:g / z=2:=V.int.inj (z0Q d2)
      refine⟨(by show 0≤sizeLine;decide),fun b1 hb1=>?_⟩
      have g1:=z01 hb1 (.lst [])
      refine⟨_,rfl,_,rfl,_,_,rfl,rfl,cd,rfl,_,rfl,?_⟩
      refine B6 (fun d=>absurd (show g / z=3 from V.int.inj (z0Q d)) (by lia)) (fun _=>?_)
      refine⟨_,rfl,.inl ⟨rfl,_,SqL.of (el g1)⟩,_,rfl,l,_,_,rfl,rfl,el g1,app g1,?_⟩
      exact fin b1 [] _ _ _ (List.nil_sublist _) (fun e=>by rw[e,(z01 ha (.lst (ch.map V.str))) _ _ p1] at hb1;cases hb1) z03 g1
     ·refine⟨_,rfl,_,rfl,_,_,rfl,rfl,cd,rfl,_,rfl,?_⟩
      refine B6 (fun d3=>?_) (fun d3=>?_)
      ·refine⟨_,rfl,ln,_,rfl,.inl ((p6.trans (z01 ha _)).seq hS),fun b1 hb1=>?_⟩
       have g1:=z01 hb1 (.lst (nm.map V.str))
       refine⟨_,rfl,.inl ⟨rfl,_,SqL.of (el g1)⟩,_,rfl,l,_,_,rfl,rfl,el g1,app g1,?_⟩
       exact fin b1 nm _ _ _ (hZ _) (fun e=>by rw[e,(z01 ha (.lst (ch.map V.str))) _ _ p1] at hb1;cases hb1) z03 g1
      ·refine⟨_,rfl,.inl ⟨rfl,_,SqL.of (el (A4.refl _))⟩,_,rfl,l,_,_,rfl,rfl,el (A4.refl _),app (A4.refl _),?_⟩
       exact fin a ch _ _ _ hch nal z03 (A4.refl _)
 ·obtain⟨xs,ss,o1,o2,o3,o4,p1,p2,p3,p4,p5,p6,rfl⟩:=hp
  rw[b6] at p3
  exact⟨_,rfl,q l xs ss _ hl p6 p1 p2 (by rw[p3,Z5]) p4⟩
abbrev Row:=List (Str×Int)
noncomputable def z9c(p:Str×Int):DV:=.tup [.str p.1,.int p.2]
noncomputable def O4(r:Row):DV:=.tup (r.map z9c)
theorem y40{H:Hp}{a:Addr}{x:Str}{z:Int}(h:H a=some (.tup [.str x,.int z])):A9 H (z9c (x,z)) (.ref a):=z0o h (by show 2≤1000000;decide) (.cons (z0E x) (.cons (z0D z) .nil))
theorem y3p{xs:List V}:∀ys,HO.lst xs≠.tup ys:=fun _ e=>by cases e
noncomputable def y4g:Sp:=fun vs H Q _=>∃g p:Int,vs=[.int g,.int p]/\∀r,0≤r->r≤1000000->Q (.int r) H
theorem y4s(F:Fun K "_law_value" "_law_value" z52 f fd):A8 P w K mg base CX0 1 f fd z5f y4g:=by
 have nd:=z6y.nd
 refine F.ok z6y (fun vs H Q E h=>?_) (fun cdv A outer s H vs Q E hr h=>?_)
 ·obtain⟨g,p,rfl,_⟩:=h
  rfl
 obtain⟨g,p,rfl,q⟩:=h
 refine⟨_,(z04 (z0H (z0a z2y (z0e z0K (pv 0) z06) z06 (z0h _)) (z05 (z0d (z0e z0I (z0e z1q (pv 0) (z0e z5s z06 (pv 1))) z06))) z0j) (z04 (z0H (z0a z2y (z0e z0K (pv 0) z06) z06 (z0h _)) (z05 (z0d (z0e z5s z06 (z0e z0I (z0e z1q (pv 0) (pv 1)) z06)))) z0j) (z05 (z0d (z0e z0I (z0e z1q (pv 0) (pv 1)) z06))))),?_⟩
 refine⟨_,rfl,_,_,rfl,rfl,⟨by decide,by decide⟩,rfl,_,rfl,?_⟩
 refine B6 (fun _=>?_) (fun _=>?_)
 ·refine⟨_,rfl,_,rfl,_,_,rfl,rfl,.inl ⟨by decide,by decide⟩,_,_,rfl,rfl,_,_,rfl,rfl,(by show(0:Int)<1000001;decide),?_⟩
  have h1:=cJ (g+7*p) (show(1000001:Int)≠0 by decide)
  have h2:=cA (g+7*p) (show(0:Int)<1000001 by decide)
  exact q _ h1 (by lia)
 ·refine⟨_,rfl,_,_,rfl,rfl,⟨by decide,by decide⟩,rfl,_,rfl,?_⟩
  have h1:=cJ (g+p) (show(2:Int)≠0 by decide)
  have h2:=cA (g+p) (show(0:Int)<2 by decide)
  refine B6 (fun _=>?_) (fun _=>?_)
  ·refine⟨_,rfl,_,rfl,_,_,rfl,rfl,_,_,rfl,rfl,(by show(0:Int)<2;decide),_,_,rfl,rfl,.inl ⟨by decide,by decide⟩,?_⟩
   exact q _ (by lia) (by lia)
  ·refine⟨_,rfl,_,rfl,_,_,rfl,rfl,_,_,rfl,rfl,(by show(0:Int)<2;decide),?_⟩
   exact q _ h1 (by lia)
structure Rws(nm:List Str)(rows:List Row):Prop where
 sub:∀r∈rows,(r.map Prod.fst).Sublist nm
 val:∀r∈rows,∀p∈r,0≤p.2/\p.2≤1000000
noncomputable def y1i:Sp:=fun vs H Q _=>∃(l:Addr) (xs:List V) (ss:List (List Str)) (c:Int),vs=[.ref l,.int c]/\H l=some (.lst xs)/\z2d H l xs ss/\ss.length≤900/\(∀s∈ss,s.length≤12)/\
 ∀(lr:Addr) (us:List V) (rows:List Row) (H':Hp),H lr=none->A4 H H'->H' lr=some (.lst us)->z0b H' (rows.map O4) us->rows.map (fun r=>r.map Prod.fst)=ss->(∀r∈rows,∀p∈r,0≤p.2/\p.2≤1000000)->Q (.ref lr) H'
theorem y3r(M:Bl mg)(F:Fun K "_law_valued" "_law_valued" z4y f fd)(L8:Cal P w K mg base 1 "_law_row" z5F y6W)(Q5:Cal P w K mg base 1 "_law_value" z5f y4g) :
  A8 P w K mg base CX0 2 f fd z4i y1i:=by
 have nd:=z5p.nd
 refine F.ok z5p (fun vs H Q E h=>?_) (fun cdv A outer s H vs Q E hr h=>?_)
 ·obtain⟨l,xs,ss,c,rfl,_⟩:=h
  rfl
 obtain⟨l,xs,ss,c,rfl,hL,hSs,n0,n1,q⟩:=h
 refine⟨_,(z04 (z0k (i:=2) nd rfl (Or.inl rfl) (z0l L8 (rm hr) rfl (z00 (pv 1) (z00 (z09 z07 rfl M.len bD (z00 (pv 0) z02)) (z00 z06 z02))))) (z04 (z0k (i:=3) nd rfl (Or.inl rfl) (z0T z02)) (z04 (z1z cG rfl (z1T rfl M.range (z00 (z09 z07 rfl M.len bD (z00 (pv 0) z02)) z02)) (z0m (i:=4) nd rfl (Or.inl rfl)) (z04 (z0k (i:=5) nd rfl (Or.inl rfl) (z0T z02)) (z04 (z1z cG rfl (z1T rfl M.range (z00 (z09 z07 rfl M.len bD (z00 (z0N z0L (pv 0) (pv 4) (fun _ _=>rfl)) z02)) z02)) (z0m (i:=6) nd rfl (Or.inl rfl)) (z05 (z0x (z26 bJ bQ bS z0G (pv 5) (z00 (z0X (z00 (z0N z0L (z0N z0L (pv 0) (pv 4) (fun _ _=>rfl)) (pv 6) (fun _ _=>rfl)) (z00 (z0l Q5 (rm hr) rfl (z00 (z0N z0L (pv 2) (pv 4) (fun _ _=>rfl)) (z00 (pv 6) z02))) z02))) z02))))) (z05 (z0x (z26 bJ bQ bS z0G (pv 3) (z00 (z0v z0p rfl M.tuple bT (z00 (pv 5) z02)) z02))))))) (z05 (z0d (pv 3)))))),?_⟩
 have hl0:=hSs.len
 refine⟨_,rfl,_,rfl,l,_,rfl,.inl (SqL.of hL),_,_,_,rfl,by lia,by lia,by decide,by decide,fun lf fs H1 nlf s1 e1 Z5 all1=>?_⟩
 have len1':fs.length=ss.length:=by rw[Z5,hl0];rfl
 refine⟨(by show 0≤sizeLine;decide),fun lr hlr=>?_⟩
 have nr:lf≠lr:=z0r e1 hlr
 have nlr0:H lr=none:=s1.free hlr
 refine⟨_,rfl,l,_,rfl,.inl (SqL.of ((s1.trans (z01 hlr _)) _ _ hL)),_,rfl,by lia,by lia,?_⟩
 refine z1E (lo:=0) (n:=((xs.length:Nat):Int).toNat) (fun i σ H'=>∃(us:List V) (rows:List Row) (o1 o2 o3:Option V),H' lr=some (.lst us)/\z0b H' (rows.map O4) us/\rows.map (fun r=>r.map Prod.fst)=ss.take i/\(∀r∈rows,∀p∈r,0≤p.2/\p.2≤1000000)/\A4 H1 H'/\
  σ=[some (.ref l),some (.int c),some (.ref lf),some (.ref lr),o1,o2,o3]) ⟨[],[],_,_,_,z03,.nil,rfl,(fun _ h=>nomatch h),z01 hlr _,rfl⟩ (fun i σ H' hi hp=>?_) (fun σ H' hp=>?_)
 ·obtain⟨us,rows,o1,o2,o3,p1,p2,p3,p4,p5,rfl⟩:=hp
  have hi':i<ss.length:=by
   have:((xs.length:Nat):Int).toNat=xs.length:=rfl
   lia
  have ei:(0:Int)+(i:Int)=(i:Int):=fU _
  have es:ss[i]? = some ss[i]:=bH hi'
  generalize ss[i]=sI at es
  have hsI:=n1 sI (bZ es)
  obtain⟨v,hv,a,rfl,na,ha⟩:=hSs.get i sI es
  have lus:=p2.length
  rw[b6] at lus
  have lrows:rows.length=i:=by
   have:=congrArg List.length p3
   rw[b6,bM] at this
   lia
  have atv:atI xs ((0:Int)+(i:Int))=some (.ref a):=by rw[ei];exact z15 hv
  have gl:∀{H2:Hp},A4 H' H2->H2 l=some (.lst xs)/\H2 a=some (.lst (sI.map V.str))/\H2 lf=some (.lst (fs.map V.int)):=fun {H2} g=>⟨(s1.trans (p5.trans g)) _ _ hL,(s1.trans (p5.trans g)) _ _ ha,(p5.trans g) _ _ e1⟩
  refine⟨(by show 0≤sizeLine;decide),fun lo hlo=>?_⟩
  have go:=z01 (H:=H') hlo (.lst [])
  refine⟨_,rfl,_,rfl,l,_,_,_,rfl,rfl,SqL.of (gl go).1,atv,a,_,rfl,.inl (SqL.of (gl go).2.1),_,rfl,by lia,by rw[b6];lia,?_⟩
  have hls:(sI.map V.str).length=sI.length:=b6 _
  refine z1E (lo:=0) (n:=(((sI.map V.str).length:Nat):Int).toNat) (fun j σ H2=>∃(zs:List V) (row:Row) (o3:Option V),H2 lo=some (.lst zs)/\z0b H2 (row.map z9c) zs/\row.map Prod.fst=sI.take j/\(∀p∈row,0≤p.2/\p.2≤1000000)/\A4 H' H2/\
   σ=[some (.ref l),some (.int c),some (.ref lf),some (.ref lr),some (.int (0+(i:Int))),some (.ref lo),o3]) ⟨[],[],_,z03,.nil,rfl,(fun _ h=>nomatch h),go,rfl⟩ (fun j σ H2 hj hp=>?_) (fun σ H2 hp=>?_)
  ·obtain⟨zs,row,o3,r1,r2,r3,r4,r5,rfl⟩:=hp
   have hj':j<sI.length:=by
    have:(((sI.map V.str).length:Nat):Int).toNat=sI.length:=by rw[hls];rfl
    lia
   have ej:(0:Int)+(j:Int)=(j:Int):=fU _
   have ex:sI[j]? = some sI[j]:=bH hj'
   generalize sI[j]=x at ex
   have atx:atI (sI.map V.str) ((0:Int)+(j:Int))=some (.str x):=by
    rw[ej]
    exact z15 (by rw[bL,ex];rfl)
   have atf:atI (fs.map V.int) ((0:Int)+(i:Int))=some (.int (fs.getD i 0)):=by
    rw[ei]
    exact y12 (ns:=fs) (k:=(i:Int)) (by lia) (by lia)
   have lrow:row.length=j:=by
    have:=congrArg List.length r3
    rw[b6,bM] at this
    lia
   have lz:=r2.length
   rw[b6] at lz
   refine⟨_,rfl,.inl ⟨rfl,_,SqL.of r1⟩,_,rfl,_,rfl,l,_,_,_,rfl,rfl,SqL.of (gl r5).1,atv,_,rfl,a,_,_,_,rfl,rfl,SqL.of (gl r5).2.1,atx,?_⟩
   refine⟨_,rfl,_,rfl,lf,_,_,_,rfl,rfl,SqL.of (gl r5).2.2,atf,_,rfl,_,_,rfl,fun z z0 z1=>⟨(by show 2≤sizeLine;decide),fun t ht=>?_⟩⟩
   have gt:=z01 (H:=H2) ht (.tup [.str x,.int z])
   refine⟨lo,zs,_,rfl,rfl,gt _ _ r1,z0i (by lia),?_⟩
   refine⟨_,row++[(x,z)],some (.int (0+(j:Int))),z03,?_,?_,fun p hp=>?_,z3L (r5.trans gt) hlo,rfl⟩
   ·rw[bI]
    exact z0b.over (gt _ _ r1) y3p _ _ (z0b.snoc (z0b.keep gt _ _ r2) (y40 z03))
   ·rw[bI,r3,z0C ex]
    rfl
   ·rcases cB.mp hp with h|h
    ·exact r4 p h
    ·rw[bA.mp h]
     exact⟨z0,z1⟩
  ·obtain⟨zs,row,o3,r1,r2,r3,r4,r5,rfl⟩:=hp
   have er:(((sI.map V.str).length:Nat):Int).toNat=sI.length:=by rw[hls];rfl
   rw[er,bW] at r3
   have lrow:row.length≤12:=by
    have:=congrArg List.length r3
    rw[b6] at this
    lia
   refine⟨_,rfl,.inl ⟨rfl,_,SqL.of (r5 _ _ p1)⟩,_,rfl,lo,_,rfl,.inl ⟨SqL.of r1,fun t ht=>?_⟩⟩
   have gt:=z01 (H:=H2) ht (.tup zs)
   have el:=(r5.trans gt) _ _ p1
   refine⟨lr,us,_,rfl,rfl,el,z0i (by lia),?_⟩
   refine⟨_,rows++[row],_,_,_,z03,?_,?_,fun r hr'=>?_,z3L (p5.trans (r5.trans gt)) hlr,rfl⟩
   ·rw[bI]
    refine z0b.over el y3p _ _ (z0b.snoc (z0b.keep (r5.trans gt) _ _ p2) (z0o z03 ?_ (z0b.keep gt _ _ r2)))
    rw[b6]
    lia
   ·rw[bI,p3,z0C es]
    exact congrArg (ss.take i++·) (congrArg (fun z=>[z]) r3)
   ·rcases cB.mp hr' with h|h
    ·exact p4 r h
    ·rw[bA.mp h]
     exact r4
 ·obtain⟨us,rows,o1,o2,o3,p1,p2,p3,p4,p5,rfl⟩:=hp
  have er:((xs.length:Nat):Int).toNat=ss.length:=by rw[hl0];rfl
  rw[er,bW] at p3
  exact⟨_,rfl,q lr us rows _ nlr0 (s1.trans p5) p1 p2 p3 p4⟩
noncomputable def y4f(K:PySem.W.Frag):Sp:=fun vs H Q _=>∃(a:Addr) (ns:List Int),vs=[.ref a]/\SqL K H a (ns.map V.int)/\
 ∀(l:Addr) (nm:List Str) (H':Hp),H l=none->A4 H H'->H' l=some (.lst (nm.map V.str))->1≤nm.length->nm.length≤12->Nms nm->Q (.ref l) H'
theorem y5c(F:Fun K "_law_names" "_law_names" z5d f fd)(E9:Cal P w K mg base 1 "_law_at" z74 (w1b K))(E7:Cal P w K mg base 1 "_law_pick" z4I y2Z)
  (P5:Cal P w K mg base 1 "_law_named" z59 y3A):A8 P w K mg base CX0 2 f fd z5a (y4f K):=by
 have nd:=z6w.nd
 refine F.ok z6w (fun vs H Q E h=>?_) (fun cdv A outer s H vs Q E hr h=>?_)
 ·obtain⟨a,ns,rfl,_⟩:=h
  rfl
 obtain⟨a,ns,rfl,hS,q⟩:=h
 refine⟨_,(z05 (z0d (z0l P5 (rm hr) rfl (z00 (z0e z0K (z0l E9 (rm hr) rfl (z00 (pv 0) (z00 z06 z02))) z06) (z00 (z0e z1q z06 (z0l E7 (rm hr) rfl (z00 (z0e z0I (z0l E9 (rm hr) rfl (z00 (pv 0) (z00 z06 z02))) z06) (z00 z06 z02)))) z02))))),?_⟩
 refine⟨_,rfl,a,ns,0,rfl,hS,e7 0,_,_,rfl,rfl,⟨by decide,by decide⟩,?_⟩
 refine⟨_,rfl,a,ns,0,rfl,hS,e7 0,_,_,rfl,rfl,(by show(0:Int)<24;decide),_,_,rfl,(by decide),fun r h0 h1=>⟨_,_,rfl,rfl,?_⟩⟩
 exact⟨_,_,rfl,by lia,by lia,fun l nm H' nl g e len N=>q l nm H' nl g e (by lia) (by lia) N⟩
noncomputable def U2(s:List Str):DV:=.tup (s.map DV.str)
noncomputable def dnI(hi:Int)(j:Nat):List Int:=(List.range j).map fun(k:Nat)=>hi-(k:Int)
theorem y54(hi:Int)(j:Nat):dnI hi (j+1)=dnI hi j++[hi-(j:Int)]:=by
 unfold dnI
 rw[List.range_succ,bI]
 rfl
theorem z9v(hi:Int)(j:Nat):(dnI hi j).length=j:=by unfold dnI;rw[b6,gA]
theorem z97{hi:Int}{j:Nat}{x:Int}:x∈dnI hi j↔hi-j<x/\x≤hi:=by
 unfold dnI
 rw[cF]
 constructor
 ·rintro⟨k,hk,rfl⟩
  have:=fX.mp hk
  lia
 ·rintro⟨h1,h2⟩
  exact⟨(hi-x).toNat,fX.mpr (by lia),by lia⟩
noncomputable def z23(r:Row):List Str:=r.map Prod.fst
noncomputable def z1b(rows:List Row)(n:Int):Row:=rows.getD (n-1).toNat []
noncomputable def y16(rows:List Row)(k:Int):DV:=.tup [.int k,U2 (z23 (z1b rows k))]
noncomputable def z6t(n r:Int):List Int:=(dnI (n-1) (n-1).toNat).filter fun k=>decide (n-k≤r)
noncomputable def y56(rows:List Row)(n r:Int):DV:=.tup ((z6t n r).map (y16 rows))
noncomputable def z18(rows:List Row)(n r:Int):DV:=.tup [.int n,O4 (z1b rows n),y56 rows n r]
theorem z5H{H:Hp}{rows:List Row}{us:List V}(h:z0b H (rows.map O4) us){k:Int}(k0:1≤k)(k1:k≤rows.length):∃v,us[(k-1).toNat]? = some v/\atI us (k-1)=some v/\A9 H (O4 (z1b rows k)) v:=by
 have hk:(k-1).toNat<rows.length:=by lia
 obtain⟨v,e,t⟩:=h.get (k-1).toNat (O4 (z1b rows k)) (by
  unfold z1b
  rw[bL,bV,bH hk]
  rfl)
 have ek:k-1=(((k-1).toNat:Nat):Int):=by lia
 exact⟨v,e,by rw[ek];exact z15 e,t⟩
theorem z2U{H:Hp}:∀{r:Row}{xs:List V},z0b H (r.map z9c) xs->∀(i:Nat) (x:V),xs[i]? = some x->∃(p:Str×Int) (a:Addr),r[i]? = some p/\x=.ref a/\H a=some (.tup [.str p.1,.int p.2]):=by
 intro r xs h i x e
 obtain⟨d,e1,t⟩:=h.at i x e
 rw[bL] at e1
 cases er:r[i]? with
 | none=>rw[er] at e1;cases e1
 | some p=>
  rw[er] at e1
  have e2:z9c p=d:=Option.some.inj e1
  subst e2
  obtain⟨a,ys,rfl,h1,_,h2⟩:=z0q t
  obtain⟨y1,r1,rfl,t1,h3⟩:=z0g h2
  obtain⟨y2,r2,rfl,t2,h4⟩:=z0g h3
  have:=z0W h4
  subst this
  rw[z4r t1,z1e t2] at h1
  exact⟨p,a,rfl,rfl,h1⟩
noncomputable def y3i(K:PySem.W.Frag):Sp:=fun vs H Q _=>∃(lr:Addr) (us:List V) (rows:List Row) (n r:Int),vs=[.ref lr,.int n,.int r]/\SqL K H lr us/\z0b H (rows.map O4) us/\rows.length≤900/\(∀w∈rows,w.length≤12)/\1≤n/\n≤rows.length/\
 ∀(v:V) (H':Hp),A4 H H'->A9 H' (z18 rows n r) v->Q v H'
theorem z9H{rows:List Row}(h:∀w∈rows,w.length≤12)(k:Int):(z1b rows k).length≤12:=by
 unfold z1b
 rw[bV]
 cases e:rows[(k-1).toNat]? with
 | none=>exact cQ _
 | some w=>exact h w (bZ e)
theorem y5p(M:Bl mg)(F:Fun K "_law_issue" "_law_issue" z5c f fd):A8 P w K mg base CX0 1 f fd z4Z (y3i K):=by
 have nd:=z6R.nd
 refine F.ok z6R (fun vs H Q E h=>?_) (fun cdv A outer s H vs Q E hr h=>?_)
 ·obtain⟨lr,us,rows,n,r,rfl,_⟩:=h
  rfl
 obtain⟨lr,us,rows,n,r,rfl,hS,hT,n0,n12,n1,n2,q⟩:=h
 refine⟨_,(z04 (z0k (i:=3) nd rfl (Or.inl rfl) (z0T z02)) (z04 (z1z cG rfl (y48 rfl M.range (z00 (z0e z2J (pv 1) z06) (z00 z06 (z00 (y0B z7S z06) z02)))) (z0m (i:=4) nd rfl (Or.inl rfl)) (z05 (z0H (z0a y6p (z0e z2J (pv 1) (pv 4)) (pv 2) (z0h _)) (z05 (z0x (z26 bJ bQ bS z0G (pv 3) (z00 (z0X (z00 (pv 4) (z00 (z0v z0p rfl M.tuple bT (z00 (z1n ["_law_row_here"] [] [] rfl (z0w rfl (by decide +kernel) rfl (by decide +kernel) rfl rfl) (z3W (z0N z0L (pv 0) (z0e z2J (pv 4) z06) (fun _ _=>rfl))) (fun _ _ _ _ _=>(z0m (i:=0) (show((["_law_row_here"]:List PySem.Str)++([]:List PySem.Str)).Nodup from by decide +kernel) rfl (Or.inl rfl))) (z0B (by decide)) z0c (fun _ _ _ _ _=>z20) (fun _ _ _ _ _=>(z0N (r:=T6 K) z19 (pv 0) z06 (fun _ _=>rfl)))) z02)) z02))) z02)))) z0j))) (z05 (z0d (z0X (z00 (pv 1) (z00 (z0v z0p rfl M.tuple bT (z00 (z0N z0L (pv 0) (z0e z2J (pv 1) z06) (fun _ _=>rfl)) z02)) (z00 (z0v z0p rfl M.tuple bT (z00 (pv 3) z02)) z02)))))))),?_⟩
 refine⟨(by show 0≤sizeLine;decide),fun lt hlt=>?_⟩
 refine⟨_,rfl,_,_,rfl,rfl,_,rfl,n-1,0,rfl,⟨by lia,by lia,by decide,by decide⟩,?_⟩
 have e0:(n-1-0).toNat=(n-1).toNat:=by rw[Int.sub_zero]
 rw[e0]
 refine y4w (hi:=n-1) (n:=(n-1).toNat) (fun j σ H'=>∃(zs:List V) (o:Option V),H' lt=some (.lst zs)/\z0b H' (((dnI (n-1) j).filter fun k=>decide (n-k≤r)).map (y16 rows)) zs/\A4 H H'/\
  σ=[some (.ref lr),some (.int n),some (.int r),some (.ref lt),o]) ⟨[],_,z03,.nil,z01 hlt _,rfl⟩ (fun j σ H' hj hp=>?_) (fun σ H' hp=>?_)
 ·obtain⟨zs,o,p1,p2,p3,rfl⟩:=hp
  have lz:=p2.length
  rw[b6] at lz
  have lf:=cE (fun k=>decide (n-k≤r)) (dnI (n-1) j)
  rw[z9v] at lf
  have st:((dnI (n-1) (j+1)).filter fun k=>decide (n-k≤r))=((dnI (n-1) j).filter fun k=>decide (n-k≤r))++(if decide (n-(n-1-(j:Int))≤r)=true then [n-1-(j:Int)] else []):=by
   rw[y54,cY,dG]
   rfl
  refine⟨_,rfl,_,rfl,_,_,rfl,rfl,_,rfl,_,_,rfl,rfl,_,rfl,?_⟩
  refine B6 (fun c=>?_) (fun c=>?_)
  ·rw[if_pos c] at st
   have hTk:=z0b.keep p3 _ _ hT
   obtain⟨v,ev,av,tv⟩:=z5H hTk (k:=n-1-(j:Int)) (by lia) (by lia)
   obtain⟨ra,xs,rfl,hra,lxs,txs⟩:=z0q tv
   have lrow:=z9H n12 (n-1-(j:Int))
   have lx:=txs.length
   rw[b6] at lx
   refine⟨_,rfl,.inl ⟨rfl,_,SqL.of p1⟩,_,rfl,_,rfl,_,rfl,_,_,rfl,rfl,lr,_,_,_,rfl,rfl,p3.seq hS,av,ra,rfl,⟨_,SqT.of hra⟩,?_⟩
   refine z27 (xs:=xs) (fun i ys H2=>H2=H'/\ys=((z23 (z1b rows (n-1-(j:Int)))).take i).map V.str) ⟨rfl,rfl⟩ (fun i ys H2 hi hp=>?_) (fun i x ys H2 hx hp=>?_) (fun ys H2 hp=>?_)
   ·obtain⟨rfl,rfl⟩:=hp
    refine⟨SqT.of hra,z0i ?_⟩
    rw[b6,bM]
    lia
   ·obtain⟨rfl,rfl⟩:=hp
    obtain⟨p,a,er,rfl,ha⟩:=z2U txs i x hx
    refine⟨_,rfl,a,_,_,_,rfl,rfl,SqT.of ha,rfl,rfl,?_⟩
    have en:(z23 (z1b rows (n-1-(j:Int))))[i]? = some p.1:=by unfold z23;rw[bL,er];rfl
    rw[z0C en,bI]
    rfl
   ·obtain⟨rfl,rfl⟩:=hp
    have ll:(z23 (z1b rows (n-1-(j:Int)))).length=xs.length:=by unfold z23;rw[b6];exact lx.symm
    rw[<- ll,bW]
    intro D hD
    refine⟨D,_,rfl,.inl ⟨SqL.of z03,fun t ht=>⟨(by show 2≤sizeLine;decide),fun t2 ht2=>?_⟩⟩⟩
    have g1:=(z01 (H:=H2) hD (.lst ((z23 (z1b rows (n-1-(j:Int)))).map V.str))).trans ((z01 ht (.tup ((z23 (z1b rows (n-1-(j:Int)))).map V.str))).trans (z01 ht2 (.tup [.int (n-1-(j:Int)),.ref t])))
    refine⟨lt,zs,_,rfl,rfl,g1 _ _ p1,z0i (by lia),?_⟩
    refine⟨_,some (.int (n-1-(j:Int))),z03,?_,z3L (p3.trans g1) hlt,rfl⟩
    rw[st,bI]
    refine z0b.over (g1 _ _ p1) y3p _ _ (z0b.snoc (z0b.keep g1 _ _ p2) (z0o z03 (by show 2≤1000000;decide) (.cons (z0D _) (.cons ?_ .nil))))
    refine z0o (z01 ht2 _ _ _ z03) ?_ (z4K _)
    rw[b6,ll]
    lia
  ·rw[if_neg c,cR] at st
   refine⟨zs,some (.int (n-1-(j:Int))),p1,?_,p3,rfl⟩
   rw[st]
   exact p2
 ·obtain⟨zs,o,p1,p2,p3,rfl⟩:=hp
  have lz:=p2.length
  rw[b6] at lz
  have lf:=cE (fun k=>decide (n-k≤r)) (dnI (n-1) (n-1).toNat)
  rw[z9v] at lf
  have hTk:=z0b.keep p3 _ _ hT
  obtain⟨v,ev,av,tv⟩:=z5H hTk n1 n2
  obtain⟨ra,xs,rfl,hra,lxs,txs⟩:=z0q tv
  refine⟨_,rfl,_,rfl,_,rfl,_,_,rfl,rfl,lr,_,_,_,rfl,rfl,p3.seq hS,av,ra,xs,rfl,.inr ⟨SqT.of hra,?_⟩⟩
  refine⟨_,rfl,lt,_,rfl,.inl ⟨SqL.of p1,fun t ht=>⟨(by show 3≤sizeLine;decide),fun t2 ht2=>?_⟩⟩⟩
  have g1:=(z01 (H:=H') ht (.tup zs)).trans (z01 ht2 (.tup [.int n,.ref ra,.ref t]))
  refine q _ _ (p3.trans g1) ?_
  refine z0o z03 (by show 3≤1000000;decide) (.cons (z0D _) (.cons (A9.keep g1 _ _ tv) (.cons ?_ .nil)))
  refine z0o (z01 ht2 _ _ _ z03) ?_ (z0b.keep g1 _ _ p2)
  rw[b6]
  show((dnI (n-1) (n-1).toNat).filter fun k=>decide (n-k≤r)).length≤1000000
  lia
structure J8(zs:List Str):Prop where
 lo:1≤zs.length
 hi:zs.length≤12
 nd:zs.Nodup
noncomputable def SqN(K:PySem.W.Frag)(H:Hp)(p:Addr)(zs:List Str):Prop:=SqL K H p (zs.map V.str)\/SqT K H p (zs.map V.str)
theorem SqN.keep{K:PySem.W.Frag}{H H':Hp}{p:Addr}{zs:List Str}(h:A4 H H')(x:SqN K H p zs):SqN K H' p zs:=x.imp (fun q=>h.seq q) fun q=>z5V h q
noncomputable def z8g(K:PySem.W.Frag):Sp:=fun vs H Q _=>∃(p:Addr) (zs:List Str),vs=[.ref p]/\SqN K H p zs/\J8 zs/\∀H',A4 H H'->Q .non H'
theorem y0P(M:Bl mg)(F:Fun K "refuse_bad_names" "refuse_bad_names" z2n f fd):A8 P w K mg base CX0 1 f fd z2k (z8g K):=by
 have nd:=z30.nd
 refine F.ok z30 (fun vs H Q E h=>?_) (fun cdv A outer s H vs Q E hr h=>?_)
 ·obtain⟨p,zs,rfl,_⟩:=h
  rfl
 ·obtain⟨p,zs,rfl,hp,g,k⟩:=h
  refine⟨_,(z04 (z0H (z0a z43 (z09 z07 rfl M.len bD (z00 (pv 0) z02)) z06 (z0h _)) (z05 z1y) z0j) (z04 (z0H (z0a z1N (z09 z07 rfl M.len bD (z00 (pv 0) z02)) (z1c rfl M.MOST_NAMES) (z0h _)) (z05 z1y) z0j) (z05 (z0H (z0a z86 (z09 z3F rfl M.len bD (z00 (z0v (z3o rfl) rfl M.set gN (z00 (pv 0) z02)) z02)) (z09 z07 rfl M.len bD (z00 (pv 0) z02)) (z0h _)) (z05 z1y) z0j)))),?_⟩
  have:=g.lo
  have:=g.hi
  have el:(zs.map V.str).length=zs.length:=b6 _
  refine⟨_,rfl,p,_,rfl,hp,_,_,rfl,rfl,_,rfl,B6 (fun q=>absurd (z0Q q) (by lia)) fun _=>?_⟩
  refine⟨_,rfl,p,_,rfl,hp,_,_,rfl,rfl,_,rfl,B6 (fun q=>absurd (z0Q q) (by lia)) fun _=>?_⟩
  refine⟨_,rfl,p,zs,rfl,hp,by lia,fun l hl=>⟨l,zs,rfl,z03,by lia,_,rfl,p,zs.map V.str,rfl,SqN.keep (z01 hl _) hp,rfl,_,rfl,?_⟩⟩
  refine y4N ?_ (k _ (z01 hl _))
  rw[y0U g.nd,el]
noncomputable def z8l:Sp:=fun vs H Q _=>∃r:Int,vs=[.int r]/\0≤r/\r≤10/\Q .non H
theorem y19(M:Bl mg)(F:Fun K "refuse_bad_reach" "refuse_bad_reach" z2f f fd):A8 P w K mg base CX0 1 f fd z2l z8l:=by
 have nd:=z36.nd
 refine F.ok z36 (fun vs H Q E h=>?_) (fun cdv A outer s H vs Q E hr h=>?_)
 ·obtain⟨r,rfl,_⟩:=h
  rfl
 ·obtain⟨r,rfl,r0,r1,k⟩:=h
  refine⟨_,(z05 (z0H (PW.pt (z3n (z0a z43 (pv 0) z06 (z0h _)) (z22 (z0a z1N (pv 0) (z1c rfl M.MOST_REACH) (z0h _))))) (z05 z1y) z0j)),?_⟩
  refine⟨_,rfl,_,_,rfl,rfl,_,rfl,B6 (fun q=>absurd (z0Q q) (by lia)) fun _=>?_⟩
  exact⟨_,rfl,_,_,rfl,rfl,_,rfl,B6 (fun q=>absurd (z0Q q) (by lia)) fun _=>k⟩
noncomputable def HdN(K:PySem.W.Frag)(H:Hp)(p:Addr)(zs:List Str):Prop:=SqL K H p (zs.map V.str)\/H p=some (.tup (zs.map V.str))
theorem HdN.sq{K:PySem.W.Frag}{H:Hp}{p:Addr}{zs:List Str}(h:HdN K H p zs):SqN K H p zs:=h.imp id SqT.of
theorem HdN.keep{K:PySem.W.Frag}{H H':Hp}{p:Addr}{zs:List Str}(s:A4 H H')(h:HdN K H p zs):HdN K H' p zs:=h.imp (fun q=>s.seq q) fun q=>s _ _ q
noncomputable def z6j(K:PySem.W.Frag):Sp:=fun vs H Q _=>∃(p:Addr) (zs:List Str) (r:Int),vs=[.ref p,.int r]/\HdN K H p zs/\J8 zs/\0≤r/\r≤10/\∀(l:Addr) (H':Hp),A4 H H'->H' l=some (.tup (zs.map V.str))->Q (.ref l) H'
theorem y0O(M:Bl mg)(F:Fun K "bulletin_names" "bulletin_names" z2Y f fd)(J2:Cal P w K mg base 1 "refuse_bad_names" z2k (z8g K))(J3:Cal P w K mg base 1 "refuse_bad_reach" z2l z8l) :
  A8 P w K mg base CX0 2 f fd z29 (z6j K):=by
 have nd:=z3Y.nd
 refine F.ok z3Y (fun vs H Q E h=>?_) (fun cdv A outer s H vs Q E hr h=>?_)
 ·obtain⟨p,zs,r,rfl,_⟩:=h
  rfl
 ·obtain⟨p,zs,r,rfl,hp,g,r0,r1,k⟩:=h
  refine⟨_,(z04 (z0x (z0l J2 (rm hr) rfl (z00 (pv 0) z02))) (z04 (z0x (z0l J3 (rm hr) rfl (z00 (pv 1) z02))) (z05 (z0d (z0v z0p rfl M.tuple bT (z00 (pv 0) z02)))))),?_⟩
  refine⟨_,rfl,p,zs,rfl,hp.sq,g,fun H1 s1=>⟨_,rfl,r,rfl,r0,r1,_,rfl,p,zs.map V.str,rfl,?_⟩⟩
  rcases hp.keep s1 with hq|hq
  ·exact .inl ⟨hq,fun l hl=>k l _ (s1.trans (z01 hl _)) z03⟩
  ·exact .inr ⟨SqT.of hq,k p _ s1 hq⟩
noncomputable def z0t(fp:List Addr)(H H':Hp):Prop:=∀b o,H b=some o->b∉fp->H' b=some o
theorem z0t.of{fp:List Addr}{H H':Hp}(h:A4 H H'):z0t fp H H':=fun b o e _=>h b o e
theorem z0t.then{fp:List Addr}{H H1 H2:Hp}(h:z0t fp H H1)(g:A4 H1 H2):z0t fp H H2:=fun b o e n=>g b o (h b o e n)
noncomputable def z4n(H:Hp)(fp:List Addr):Prop:=∀b∈fp,∀xs,H b≠some (.tup xs)
mutual
theorem A9.but{fp:List Addr}{H H':Hp}(s:z0t fp H H')(n:z4n H fp):∀(d:DV) (x:V),A9 H d x->A9 H' d x
 | .non,_,h=>by unfold A9 at h ⊢;exact h
 | .bl _,_,h=>by unfold A9 at h ⊢;exact h
 | .int _,_,h=>by unfold A9 at h ⊢;exact h
 | .str _,_,h=>by unfold A9 at h ⊢;exact h
 | .tup ds,_,h=>by
  unfold A9 at h ⊢
  obtain⟨a,xs,e,h1,h2,h3⟩:=h
  exact⟨a,xs,e,s _ _ h1 (fun m=>n a m xs h1),h2,z0b.but s n ds xs h3⟩
theorem z0b.but{fp:List Addr}{H H':Hp}(s:z0t fp H H')(n:z4n H fp):∀(ds:List DV) (xs:List V),z0b H ds xs->z0b H' ds xs
 | [],_,h=>by unfold z0b at h ⊢;exact h
 | d::ds,_,h=>by
  unfold z0b at h ⊢
  obtain⟨x,r,e,h1,h2⟩:=h
  exact⟨x,r,e,A9.but s n d x h1,z0b.but s n ds r h2⟩
end
theorem y0x{H:Hp}{x dx b:Addr}{o u v:HO}(nx:H x=none)(ndx:H dx=none)(h:H b=some o):upd (upd H dx u) x v b=some o:=by
 rw[z0f (z0r h nx),z0f (z0r h ndx)]
 exact h
theorem z7v{H H1:Hp}{C x dx:Addr}(s:A4 H H1)(nx:H1 x=none)(ndx:H1 dx=none):A4 H (upd (upd H1 dx (.own x)) x (.ins C dx [])):=fun _ _ e=>y0x nx ndx (s _ _ e)
theorem z7V{H H1 H2:Hp}{x:Addr}(b:z0t [x] H1 H2)(m:A4 H H1)(nx:H x=none):A4 H H2:=fun c o e=>b c o (m c o e) (by
 rw[bA]
 exact z0r e nx)
theorem z6k{H H1:Hp}{x dx b:Addr}(m:A4 H H1)(nx:H x=none)(ndx:H dx=none)(h:b=x\/b=dx\/H1 b=none):H b=none:=by
 rcases h with rfl|rfl|h
 ·exact nx
 ·exact ndx
 ·exact m.free h
theorem y6s{fp fp' fp2:List Addr}{H7 H' GW:Hp}(bt:z0t fp H7 H')(ff:∀b∈fp',b∈fp\/H7 b=none)(gW:A4 H' GW)(hf2:∀b∈fp2,b∈fp'\/GW b=none):∀b∈fp2,b∈fp\/H7 b=none:=fun b m=>(hf2 b m).elim (ff b) fun z=>by
 cases e:H7 b with
 | none=>exact .inr rfl
 | some o=>
  by_cases nb:b∈fp
  ·exact .inl nb
  ·rw[gW _ _ (bt b o e nb)] at z
   cases z
noncomputable def z0u(had:List Int):List Int:=(upI 1 60).filter fun x=>decide (x∈had)
noncomputable def Z9(had:List Int):Int:=(z0u had).getLastD 0
noncomputable def S0(had:List Int)(n:Int):List Int:=if n∈had then had else had++[n]
theorem y1A{had:List Int}{n x:Int}:x∈S0 had n↔x∈had\/x=n:=by
 unfold S0
 by_cases h:n∈had
 ·rw[if_pos h]
  exact⟨.inl,fun q=>q.elim id fun e=>e ▸ h⟩
 ·rw[if_neg h,cB,bA]
theorem z24{had:List Int}{x:Int}:x∈z0u had↔(1≤x/\x<1+60)/\x∈had:=by
 unfold z0u
 rw[cM,z1O,decide_eq_true_eq]
 rfl
theorem z3r(had:List Int):(z0u had).Pairwise (· < ·):=(z2a 1 60).filter _
theorem z7u(had:List Int):(z0u had).length≤60:=by
 have h:=cE (fun x=>decide (x∈had)) (upI 1 60)
 rw[z13] at h
 exact h
theorem y0T{ns ms:List Int}(nd:ns.Nodup)(C7:∀x∈ns,1≤x/\x≤60)(hp:ms.Perm ns)(hs:ms.Pairwise (·≤·)):ms=z0u ns:=by
 have n2:ms.Nodup:=hp.nodup_iff.mpr nd
 have lt:ms.Pairwise (· < ·):=by
  have:=List.pairwise_and_iff.mpr ⟨hs,n2⟩
  exact this.imp fun h=>by
   have:=h.1
   have:=h.2
   lia
 refine z2P lt (z3r _) fun x=>?_
 rw[z24,hp.mem_iff]
 exact⟨fun h=>⟨by have:=C7 x h;lia,h⟩,fun h=>h.2⟩
abbrev ShP:=Hp->Addr->List Addr->List Str->Int->(Int->DV)->List Int->Prop
structure Z2(C:Addr)(ms:List Str)(Sh:ShP):Prop where
 ins:∀{H p fp zs r iss had},Sh H p fp zs r iss had->∃dx fs,H p=some (.ins C dx fs)/\∀m∈ms,fs.lookup m=none
 own:∀{H p fp zs r iss had},Sh H p fp zs r iss had->∀b∈fp,∃o,H b=some o/\∀xs,o≠.tup xs
 keep:∀{H H' p fp gp zs r iss had},Sh H p fp zs r iss had->z0t gp H H'->(∀b∈gp,b∉fp)->z4n H gp->Sh H' p fp zs r iss had
theorem Z2.same{C:Addr}{ms:List Str}{Sh:ShP}(O:Z2 C ms Sh){H H':Hp}{p:Addr}{fp:List Addr}{zs:List Str}{r:Int}{iss:Int->DV}{had:List Int}(h:Sh H p fp zs r iss had)(s:A4 H H'):Sh H' p fp zs r iss had:=
 O.keep (gp:=[]) h (.of s) (fun _ q=>by cases q) fun _ q=>by cases q
theorem Z2.V0{C:Addr}{ms:List Str}{Sh:ShP}(O:Z2 C ms Sh){H:Hp}{p:Addr}{fp:List Addr}{zs:List Str}{r:Int}{iss:Int->DV}{had:List Int}(h:Sh H p fp zs r iss had):z4n H fp:=fun b m xs e=>by
 obtain⟨o,e1,n⟩:=O.own h b m
 rw[e1] at e
 exact n xs (Option.some.inj e)
noncomputable def y1R(K:PySem.W.Frag)(C:Addr)(Sh:ShP):Sp:=fun vs H Q _=>∃(x dx pn:Addr) (zs:List Str) (r:Int),vs=[.ref x,.ref pn,.int r]/\H x=some (.ins C dx [])/\dx≠x/\H dx=some (.own x)/\HdN K H pn zs/\J8 zs/\0≤r/\r≤10/\
 ∀(fp:List Addr) (H':Hp),(∀b∈fp,b=x\/b=dx\/H b=none)->z0t [x] H H'->(∀iss,Sh H' x fp zs r iss [])->Q .non H'
noncomputable def y7v(Sh:ShP):Sp:=fun vs H Q _=>∃(p:Addr) (v:V) (fp:List Addr) (zs:List Str) (r:Int) (iss:Int->DV) (had:List Int) (n:Int) (ds:List DV),vs=[.ref p,v]/\Sh H p fp zs r iss had/\A9 H (iss n) v/\iss n=.tup (.int n::ds)/\1≤n/\n≤60/\
 ∀(fp':List Addr) (H':Hp),(∀b∈fp',b∈fp\/H b=none)->z0t fp H H'->Sh H' p fp' zs r iss (S0 had n)->Q (.bl (decide (n∉had))) H'
noncomputable def z6s(Sh:ShP):Sp:=fun vs H Q _=>∃(p:Addr) (fp:List Addr) (zs:List Str) (r:Int) (iss:Int->DV) (had:List Int),vs=[.ref p]/\Sh H p fp zs r iss had/\
 ∀(l:Addr) (H':Hp),A4 H H'->H' l=some (.tup ((z0u had).map V.int))->Q (.ref l) H'
noncomputable def y2c(Sh:ShP):Sp:=fun vs H Q _=>∃(p:Addr) (fp:List Addr) (zs:List Str) (r:Int) (iss:Int->DV) (had:List Int),vs=[.ref p]/\Sh H p fp zs r iss had/\∀H',A4 H H'->Q (.int (Z9 had)) H'
noncomputable def ShD(K:PySem.W.Frag)(C:Addr):ShP:=fun H p fp zs r iss had=>∃(dx pn pd:Addr) (fs:List (Str×V)) (kvs:List (Key×V)),fp=[p,dx,pd]/\H p=some (.ins C dx fs)/\H dx=some (.own p)/\H pn=some (.tup (zs.map V.str))/\H pd=some (.dK kvs)/\
 fs.lookup ("names":Str)=some (V.ref pn)/\fs.lookup ("reach":Str)=some (V.int r)/\fs.lookup ("issues":Str)=some (V.ref pd)/\(∀m∈(["put","had","latest","rows_of","tail_of"]:List Str),fs.lookup m=none)/\
 kvs.map (·.1)=had.map Sum.inl/\had.Nodup/\(∀n∈had,1≤n/\n≤60)/\(∀n v,(Sum.inl n,v)∈kvs->A9 H (iss n) v)/\J8 zs/\0≤r/\r≤10
theorem ShD.ins{K:PySem.W.Frag}{C:Addr}{H:Hp}{p:Addr}{fp:List Addr}{zs:List Str}{r:Int}{iss:Int->DV}{had:List Int}(h:ShD K C H p fp zs r iss had):∃dx fs,H p=some (.ins C dx fs)/\∀m∈(["put","had","latest","rows_of","tail_of"]:List Str),fs.lookup m=none:=by
 obtain⟨dx,pn,pd,fs,kvs,e,h1,h2,h3,h4,l1,l2,l3,lm,_⟩:=h
 exact⟨dx,fs,h1,lm⟩
theorem P1{K:PySem.W.Frag}{C:Addr}:Z2 C ["put","had","latest"] (ShD K C):=by
 refine⟨fun h=>?_,fun h b hb=>?_,fun h s out nt=>?_⟩
 ·obtain⟨dx,fs,h1,lm⟩:=ShD.ins h
  refine⟨dx,fs,h1,fun m hm=>lm m ?_⟩
  simp only[bC,dM,or_false] at hm ⊢
  rcases hm with h|h|h<;>simp[h]
 ·obtain⟨dx,pn,pd,fs,kvs,rfl,h1,h2,h3,h4,_⟩:=h
  rcases bC.mp hb with rfl|hb
  ·exact⟨_,h1,fun xs z=>by cases z⟩
  rcases bC.mp hb with rfl|hb
  ·exact⟨_,h2,fun xs z=>by cases z⟩
  rw[bA.mp hb]
  exact⟨_,h4,fun xs z=>by cases z⟩
 ·obtain⟨dx,pn,pd,fs,kvs,rfl,h1,h2,h3,h4,l1,l2,l3,lm,kk,nd,all,tl,g⟩:=h
  exact⟨dx,pn,pd,fs,kvs,rfl,s _ _ h1 (fun m=>out _ m (by simp)),s _ _ h2 (fun m=>out _ m (by simp)),s _ _ h3 (fun m=>nt _ m _ h3),s _ _ h4 (fun m=>out _ m (by simp)),l1,l2,l3,lm,kk,nd,all,fun n v hv=>A9.but s nt _ _ (tl n v hv),g⟩
theorem y4p{A2:Addr}(M:Bl mg)(T:F2 K mg A2)(F:Fun K "__init__" "Shelf.__init__" z2T f fd)(D6:Cal P w K mg base 2 "bulletin_names" z29 (z6j K)) :
  A8 P w K mg base CX0 3 f fd z2X (y1R K A2 (ShD K A2)):=by
 have nd:=z40.nd
 refine F.ok z40 (fun vs H Q E h=>?_) (fun cdv A outer s H vs Q E hr h=>?_)
 ·obtain⟨x,dx,pn,zs,r,rfl,_⟩:=h
  rfl
 obtain⟨x,dx,pn,zs,r,rfl,hx,ne,hdx,hn,g,r0,r1,k⟩:=h
 refine⟨_,(z04 (z5J (pv 0) (z0l D6 (rm hr) rfl (z00 (pv 1) (z00 (pv 2) z02))) rfl) (z04 (z5J (pv 0) (pv 2) rfl) (z05 (z5J (pv 0) y5q rfl)))),?_⟩
 refine⟨_,rfl,_,rfl,pn,zs,r,rfl,hn,g,r0,r1,fun l H1 s1 e1=>?_⟩
 refine⟨_,rfl,x,A2,dx,[],rfl,s1 _ _ hx,T.cl,T.n_names,by decide,?_⟩
 have z1:=z1C "names" (.ref l) []
 have z2:=z1C "reach" (.int r) (L5 "names" (.ref l) [])
 have z0:([]:List (Str×V)).length=0:=rfl
 refine⟨_,rfl,_,rfl,x,A2,dx,_,rfl,z03,T.cl,T.n_reach,(by lia),?_⟩
 rw[z82]
 intro pd hd
 have nx:x≠pd:=z0r z03 hd
 have ndd:dx≠pd:=z0r (show upd H1 x _ dx=some _ by rw[z0f ne];exact s1 _ _ hdx) hd
 have nl:l≠x:=z6U e1 (s1 _ _ hx) (fun z=>by cases z)
 have nlp:l≠pd:=z0r (show upd H1 x _ l=some _ by rw[z0f nl];exact e1) hd
 have dfr:H1 pd=none:=by rw[z0f (cU nx)] at hd;exact hd
 refine⟨_,rfl,x,A2,dx,_,rfl,(by rw[z0f nx,z03]),T.cl,T.n_issues,(by lia),?_⟩
 refine k [x,dx,pd] _ (fun b hb=>?_) (fun b o e nb=>?_) (fun iss=>⟨dx,l,pd,_,[],rfl,z03,?_,?_,?_,?_,?_,?_,?_,rfl,.nil,fun _ q=>(nomatch q),fun _ _ q=>(nomatch q),g,r0,r1⟩)
 ·simp only[bC,dM,or_false] at hb
  rcases hb with rfl|rfl|rfl
  ·exact .inl rfl
  ·exact .inr (.inl rfl)
  ·exact .inr (.inr (s1.free dfr))
 ·rw[bA] at nb
  rw[z0f nb,z0f (z0r e (s1.free dfr)),z0f nb]
  exact s1 _ _ e
 ·rw[z0f ne,z0f ndd,z0f ne]
  exact s1 _ _ hdx
 ·rw[z0f nl,z0f nlp,z0f nl]
  exact e1
 ·rw[z0f (cU nx),z03]
 ·rw[z0n,if_neg (by decide +kernel),z0n,if_neg (by decide +kernel),z0n,if_pos rfl]
 ·rw[z0n,if_neg (by decide +kernel),z0n,if_pos rfl]
 ·rw[z0n,if_pos rfl]
 ·intro m hm
  simp only[bC,dM,or_false] at hm
  rcases hm with rfl|rfl|rfl|rfl|rfl<;>rw[z0n,if_neg (by decide +kernel),z0n,if_neg (by decide +kernel),z0n,if_neg (by decide +kernel)]<;>rfl
theorem y7B{α:Type}[DecidableEq α]:∀{l1 l2:List α},l1.Nodup->(∀x∈l1,x∈l2)->l1.length≤l2.length
 | [],_,_,_=>cQ _
 | x::r,l2,nd,sub=>by
  rw[dA] at nd
  have hx:=sub x bX
  have:=y7B (l1:=r) (l2:=l2.erase x) nd.2 fun y hy=>(List.mem_erase_of_ne (fun(e:y=x)=>nd.1 (e ▸ hy))).mpr (sub y (bP _ hy))
  rw[List.length_erase_of_mem hx] at this
  have h0:=gH hx
  rw[bY]
  lia
theorem z8S{had:List Int}(nd:had.Nodup)(all:∀n∈had,1≤n/\n≤60):had.length≤60:=by
 have h:=y7B (l2:=upI 1 60) nd fun n hn=>z1O.mpr (by have:=all n hn;lia)
 rw[z13] at h
 exact h
theorem y14{kvs:List (Key×V)}{had:List Int}(kk:kvs.map (·.1)=had.map Sum.inl)(n:Int):(M8 kvs (Sum.inl n)).isSome=decide (n∈had):=by
 rw[<- z70]
 have e:(kvs.any fun kv=>decide (kv.1=Sum.inl n))=(kvs.map (·.1)).any fun k=>decide (k=Sum.inl n):=by rw[fV];rfl
 rw[e,kk,fV]
 by_cases h:n∈had
 ·rw[decide_eq_true h,gJ]
  exact⟨n,h,decide_eq_true rfl⟩
 ·rw[decide_eq_false h,hW]
  intro m hm z
  have e:=of_decide_eq_true z
  cases e
  exact h hm
theorem y7K{A2:Addr}(M:Bl mg)(T:F2 K mg A2)(F:Fun K "put" "Shelf.put" z6v f fd):A8 P w K mg base CX0 1 f fd z64 (y7v (ShD K A2)):=by
 have nd:=z7x.nd
 refine F.ok z7x (fun vs H Q E h=>?_) (fun cdv A outer s H vs Q E hr h=>?_)
 ·obtain⟨p,v,fp,zs,r,iss,had,n,ds,rfl,_⟩:=h
  rfl
 obtain⟨p,v,fp,zs,r,iss,had,n,ds,rfl,sh,tv,en,n1,n2,k⟩:=h
 have hu:=z9U hr
 refine⟨_,(z04 (z0k (i:=2) nd rfl (Or.inl rfl) (z0N z19 (pv 1) z06 (fun _ _=>rfl))) (z04 (z0H (y1r (y4i hu (pv 2) (z0A (pv 0) rfl))) (z05 (z0d z3v)) z0j) (z04 (y5X hu (z0A (pv 0) rfl) (pv 2) (pv 1) rfl) (z05 (z0d z3v))))),?_⟩
 obtain⟨dx,pn,pd,fs,kvs,rfl,h1,h2,h3,h4,l1,l2,l3,lm,kk,ndh,all,tl,g,r0,r1⟩:=sh
 rw[en] at tv
 obtain⟨a,us,rfl,ea,_,tu⟩:=z0q tv
 obtain⟨x0,ur,rfl,t0,_⟩:=z0g tu
 cases z1e t0
 refine⟨_,rfl,a,_,_,_,rfl,rfl,SqT.of ea,z15 rfl,?_⟩
 refine⟨_,rfl,_,rfl,p,A2,dx,fs,_,rfl,h1,T.cl,T.n_issues,l3,pd,_,rfl,Q6.k (k:=Sum.inl n) h4,?_⟩
 refine⟨_,rfl,?_⟩
 rw[y14 kk]
 have fr:∀b∈[p,dx,pd],∃o,H b=some o:=fun b hb=>by
  simp only[bC,dM,or_false] at hb
  rcases hb with rfl|rfl|rfl
  ·exact⟨_,h1⟩
  ·exact⟨_,h2⟩
  ·exact⟨_,h4⟩
 refine B6 (fun c=>?_) (fun c=>?_)
 ·have c':=z0Q c
  have e:=k [p,dx,pd] H (fun b hb=>.inl hb) (fun b o e _=>e) ⟨dx,pn,pd,fs,kvs,rfl,h1,h2,h3,h4,l1,l2,l3,lm,by unfold S0;rw[if_pos c'];exact kk,by unfold S0;rw[if_pos c'];exact ndh,fun m hm=>?_,tl,g,r0,r1⟩
  ·rw[decide_eq_false (fun z=>z c')] at e
   exact e
  ·unfold S0 at hm
   rw[if_pos c'] at hm
   exact all m hm
 ·have c':=z46 c
  have lk:kvs.length≤60:=by
   have e2:=congrArg List.length kk
   rw[b6,b6] at e2
   have:=z8S ndh all
   lia
  have en':M8 kvs (Sum.inl n:Key)=none:=by
   have:=y14 kk n
   rw[decide_eq_false c'] at this
   cases e:M8 kvs (Sum.inl n:Key) with
   | none=>rfl
   | some v=>rw[e] at this;cases this
  refine⟨_,rfl,_,rfl,p,A2,dx,fs,_,rfl,h1,T.cl,T.n_issues,l3,_,rfl,pd,_,rfl,w00.k (k:=Sum.inl n) h4 (z0i (by lia)),?_⟩
  rw[y4y _ en']
  have np:p≠pd:=z6U h1 h4 (fun z=>by cases z)
  have nx:dx≠pd:=z6U h2 h4 (fun z=>by cases z)
  have nn:pn≠pd:=z6U h3 h4 (fun z=>by cases z)
  have e:=k [p,dx,pd] (upd H pd (.dK (kvs++[(Sum.inl n,.ref a)]))) (fun b hb=>.inl hb) (fun b o e nb=>by rw[z0f (fun z=>nb (by rw[z];simp))];exact e)
   ⟨dx,pn,pd,fs,_,rfl,by rw[z0f np];exact h1,by rw[z0f nx];exact h2,by rw[z0f nn];exact h3,z03,l1,l2,l3,lm,?_,?_,fun m hm=>?_,fun m v hv=>?_,g,r0,r1⟩
  ·rw[decide_eq_true c'] at e
   exact e
  ·unfold S0
   rw[if_neg c',bI,bI,kk]
   rfl
  ·unfold S0
   rw[if_neg c',fA]
   exact⟨ndh,by simp,fun x hx y hy z=>by rw[bA] at hy;subst hy;subst z;exact c' hx⟩
  ·rcases y1A.mp hm with h|rfl
   ·exact all m h
   ·lia
  ·refine A9.over h4 (fun _ z=>by cases z) _ _ ?_
   rcases cB.mp hv with h|h
   ·exact tl m v h
   ·rw[bA] at h
    cases h
    rw[en]
    exact tv
theorem y5a{A2:Addr}(M:Bl mg)(T:F2 K mg A2)(F:Fun K "had" "Shelf.had" z6r f fd):A8 P w K mg base CX0 1 f fd z2j (z6s (ShD K A2)):=by
 have nd:=z7b.nd
 refine F.ok z7b (fun vs H Q E h=>?_) (fun cdv A outer s H vs Q E hr h=>?_)
 ·obtain⟨p,fp,zs,r,iss,had,rfl,_⟩:=h
  rfl
 obtain⟨p,fp,zs,r,iss,had,rfl,sh,k⟩:=h
 refine⟨_,(z05 (z0d (z0v z0p rfl M.tuple bT (z00 (z09 (z6Y rfl) rfl M.sorted fW (z00 (z0A (pv 0) rfl) z02)) z02)))),?_⟩
 obtain⟨dx,pn,pd,fs,kvs,rfl,h1,h2,h3,h4,l1,l2,l3,lm,kk,ndh,all,tl,g,r0,r1⟩:=sh
 refine⟨_,rfl,p,A2,dx,fs,_,rfl,h1,T.cl,T.n_issues,l3,pd,kvs,had,rfl,h4,kk,dR (z8S ndh all) (by decide),fun l ms hl hp hs=>?_⟩
 rw[y0T ndh all hp hs]
 exact⟨l,_,rfl,.inl ⟨SqL.of z03,fun t ht=>k t _ ((z01 hl _).trans (z01 ht _)) z03⟩⟩
theorem y4u{had:List Int}{m:Int}(hm:m∈z0u had)(hb:∀y∈z0u had,y≤m):m=Z9 had:=by
 unfold Z9
 have ne:z0u had≠[]:=fun z=>by rw[z] at hm;cases hm
 have e:(z0u had).getLastD 0=(z0u had).getLast ne:=by rw[List.getLastD_eq_getLast?,List.getLast?_eq_some_getLast ne]<;>rfl
 rw[e]
 have h1:=hb _ (List.getLast_mem ne)
 have d:z0u had=(z0u had).dropLast++[(z0u had).getLast ne]:=(List.dropLast_concat_getLast ne).symm
 have rs:=z3r had
 rw[d] at hm rs
 rcases cB.mp hm with h|h
 ·have:=(gQ.mp rs).2.2 m h _ (bA.mpr rfl)
  lia
 ·exact bA.mp h
theorem y3k{A2:Addr}(M:Bl mg)(T:F2 K mg A2)(F:Fun K "latest" "Shelf.latest" z3T f fd)(C2:D7 P w K mg base 1 A2 "had" z2j (z6s (ShD K A2))):A8 P w K mg base CX0 2 f fd z5E (y2c (ShD K A2)):=by
 have nd:=z4S.nd
 refine F.ok z4S (fun vs H Q E h=>?_) (fun cdv A outer s H vs Q E hr h=>?_)
 ·obtain⟨p,fp,zs,r,iss,had,rfl,_⟩:=h
  rfl
 obtain⟨p,fp,zs,r,iss,had,rfl,sh,k⟩:=h
 refine⟨_,(z05 (z0d (y3w rfl rfl M.max (z00 (z2s C2 (rm hr) (pv 0)) z02) (z9f z06 y1B)))),?_⟩
 obtain⟨dx,fs,h1,lm⟩:=P1.ins sh
 refine⟨_,rfl,p,dx,fs,rfl,h1,lm _ (by simp),p,fp,zs,r,iss,had,rfl,sh,fun l H1 s1 e1=>?_⟩
 refine⟨l,z0u had,_,rfl,rfl,.inr (SqT.of e1),fun z=>?_,fun m hm hb=>?_⟩
 ·have e:Z9 had=0:=by unfold Z9;rw[z];rfl
  have:=k H1 s1
  rw[e] at this
  exact this
 ·rw[y4u hm hb]
  exact k H1 s1
noncomputable def U0(ns:List Int)(rows:List Row)(r n:Int):DV:=.tup [.int n,.int (z14 ns n r),if z14 ns n r=0 then .tup [] else U2 (z23 (z1b rows n))]
noncomputable def z6W(ns:List Int)(rows:List Row)(r:Int):List DV:=(z1Y ns).map (U0 ns rows r)
theorem y08{ns:List Int}{n r:Int}:0≤z14 ns n r:=by
 unfold z14
 cases e:(upI 1 60).find? (y21 ns n r) with
 | none=>exact e7 _
 | some y=>
  have:=z1O.mp (List.mem_of_find?_eq_some e)
  show 0≤y
  lia
theorem y3P{ns:List Int}{m:Int}(hm:m∈ns\/(ns=[]/\m=0))(C7:∀x∈ns,1≤x/\x≤60)(top:∀y∈ns,y≤m):(upI 1 (m-1).toNat).filter (fun x=>!decide (x∈ns))=z1Y ns:=by
 rcases hm with hm|⟨rfl,rfl⟩
 ·refine z2P ((z2a _ _).filter _) (z6p _) fun x=>?_
  have hm':=C7 m hm
  rw[cM,z1O,z5x,gC,decide_eq_false_iff_not]
  constructor
  ·rintro⟨⟨a,b⟩,c⟩
   exact⟨by lia,c,m,hm,by lia⟩
  ·rintro⟨a,b,y,hy,c⟩
   have:=top y hy
   exact⟨by lia,b⟩
 ·rw[y02]
  rfl
theorem z7h{ns:List Int}(i:Nat):(upI 1 (i+1)).filter (fun x=>!decide (x∈ns))=(upI 1 i).filter (fun x=>!decide (x∈ns))++(if (1:Int)+(i:Int)∈ns then [] else [1+(i:Int)]):=by
 rw[z6Z,cY,dG]
 by_cases h:(1:Int)+(i:Int)∈ns
 ·rw[if_pos h,decide_eq_true h]
  rfl
 ·rw[if_neg h,decide_eq_false h]
  rfl
noncomputable def R7(w:Row)(z:Str):Option Int:=w.foldl (fun acc p=>if p.1=z then some p.2 else acc) none
theorem y05(w:Row)(p:Str×Int)(z:Str):R7 (w++[p]) z=if p.1=z then some p.2 else R7 w z:=by
 unfold R7
 rw[gB]
 rfl
noncomputable def z2i(ms:List Int)(rows:List Row)(z:Str):Option (Int×Int):=ms.foldl (fun acc n=>match R7 (z1b rows n) z with|some v=>some (n,v)|none=>acc) none
theorem z8M(ms:List Int)(n:Int)(rows:List Row)(z:Str):z2i (ms++[n]) rows z=match R7 (z1b rows n) z with|some v=>some (n,v)|none=>z2i ms rows z:=by
 unfold z2i
 rw[gB]
 rfl
noncomputable def y3o:Option (Int×Int)->DV
 | some (n,v)=>.tup [.int n,.int v]
 | none=>.tup [.int 0,.non]
noncomputable def z4O(o:Option (Int×Int)):Int:=(o.map Prod.fst).getD 0
noncomputable def y4T:Option (Int×Int)->DV
 | some (_,v)=>.int v
 | none=>.non
theorem z5z{H:Hp}{o:Option (Int×Int)}{v:V}(h:A9 H (y3o o) v):∃(a:Addr) (y:V),v=.ref a/\H a=some (.tup [.int (z4O o),y])/\A9 H (y4T o) y:=by
 cases o with
 | none=>
  obtain⟨a,xs,rfl,ha,_,ta⟩:=z0q (show A9 H (.tup [.int 0,.non]) v from h)
  obtain⟨y1,r1,rfl,t1,h3⟩:=z0g ta
  obtain⟨y2,r2,rfl,t2,h4⟩:=z0g h3
  have:=z0W h4
  subst this
  rw[z1e t1] at ha
  exact⟨a,y2,rfl,ha,t2⟩
 | some p=>
  obtain⟨n,x⟩:=p
  obtain⟨a,xs,rfl,ha,_,ta⟩:=z0q (show A9 H (.tup [.int n,.int x]) v from h)
  obtain⟨y1,r1,rfl,t1,h3⟩:=z0g ta
  obtain⟨y2,r2,rfl,t2,h4⟩:=z0g h3
  have:=z0W h4
  subst this
  rw[z1e t1] at ha
  exact⟨a,y2,rfl,ha,t2⟩
noncomputable def y0Q(K:PySem.W.Frag):Sp:=fun vs H Q _=>∃(p lr:Addr) (ns:List Int) (us:List V) (rows:List Row) (z:Str),vs=[.ref p,.ref lr,.str z]/\SqL K H p (ns.map V.int)/\ns.length<64/\ns.Nodup/\(∀x∈ns,1≤x/\x≤60)/\(∀x∈ns,x≤rows.length)/\
 SqL K H lr us/\z0b H (rows.map O4) us/\∀(v:V) (H':Hp),A4 H H'->A9 H' (y3o (z2i (z0u ns) rows z)) v->Q v H'
theorem y5e(M:Bl mg)(F:Fun K "_law_held" "_law_held" z60 f fd):A8 P w K mg base CX0 1 f fd z4J (y0Q K):=by
 have nd:=z7y.nd
 refine F.ok z7y (fun vs H Q E h=>?_) (fun cdv A outer s H vs Q E hr h=>?_)
 ·obtain⟨p,lr,ns,us,rows,z,rfl,_⟩:=h
  rfl
 obtain⟨p,lr,ns,us,rows,z,rfl,hP,h64,nds,C7,hup,hR,tl,q⟩:=h
 refine⟨_,(z04 (z0k (i:=3) nd rfl (Or.inl rfl) (z0X (z00 z06 (z00 y2N z02)))) (z04 (z1z cG rfl (z1r (z09 z7o rfl M.sorted fW (z00 (pv 0) z02))) (z0m (i:=4) nd rfl (Or.inl rfl)) (z05 (z1z cG rfl (z3W (z0N z0L (pv 1) (z0e z2J (pv 4) z06) (fun _ _=>rfl))) (z0m (i:=5) nd rfl (Or.inl rfl)) (z05 (z0H (z0a z2y (z0N z19 (pv 5) z06 (fun _ _=>rfl)) (pv 2) (z0h _)) (z05 (z0k (i:=3) nd rfl (Or.inl rfl) (z0X (z00 (pv 4) (z00 (z0N z19 (pv 5) z06 (fun _ _=>rfl)) z02))))) z0j))))) (z05 (z0d (pv 3))))),?_⟩
 refine⟨(by show 2≤sizeLine;decide),fun t0 ht0=>?_⟩
 have s1:=z01 ht0 (.tup [V.int 0,V.non])
 have e1:upd H t0 (.tup [V.int 0,V.non]) t0=some (.tup [V.int 0,V.non]):=z03
 generalize upd H t0 (.tup [V.int 0,V.non])=H1 at s1 e1
 refine⟨_,rfl,p,ns,rfl,s1.seq hP,h64,fun ls ms nls hp hs=>?_⟩
 have er:=y0T nds C7 hp hs
 have s2:=s1.trans (z01 nls (.lst (ms.map V.int)))
 have e2:=z01 nls (.lst (ms.map V.int)) _ _ e1
 have els:upd H1 ls (.lst (ms.map V.int)) ls=some (.lst (ms.map V.int)):=z03
 generalize upd H1 ls (.lst (ms.map V.int))=H2 at s2 e2 els
 refine⟨ls,rfl,⟨_,SqL.of els⟩,z2u (K:=K) (a:=ls) (xs:=ms.map V.int) (fun i σ H'=>∃(hv:V) (o1 o2:Option V),A4 H2 H'/\A9 H' (y3o (z2i (ms.take i) rows z)) hv/\σ=[some (.ref p),some (.ref lr),some (.str z),some hv,o1,o2])
  ⟨.ref t0,none,none,A4.refl _,z0o e2 (by show 2≤1000000;decide) (.cons (z0D 0) (.cons y1l .nil)),rfl⟩ (fun i σ H' _ ⟨_,_,_,g,_⟩=>SqL.of (g _ _ els)) ?_ ?_⟩
 ·rintro i x σ H' hi ⟨hv,o1,o2,g,th,rfl⟩
  obtain⟨n,hn,rfl⟩:∃n,ms[i]? = some n/\x=V.int n:=by
   rw[bL] at hi
   cases e:ms[i]? with
   | none=>rw[e] at hi;cases hi
   | some n=>rw[e] at hi;exact⟨n,rfl,(Option.some.inj hi).symm⟩
  have nin:n∈ns:=hp.mem_iff.mp (bZ hn)
  have hn1:=C7 n nin
  have hn2:=hup n nin
  obtain⟨v,_,av,tv⟩:=z5H (z0b.keep (s2.trans g) _ _ tl) (k:=n) hn1.1 hn2
  obtain⟨ar,xs,rfl,er',_,tp⟩:=z0q tv
  have lw:xs.length=(z1b rows n).length:=by rw[tp.length,b6]
  refine⟨_,rfl,_,rfl,_,_,rfl,rfl,lr,us,_,_,rfl,rfl,(s2.trans g).seq hR,av,ar,rfl,⟨_,SqT.of er'⟩,?_⟩
  refine y3n (K:=K) (a:=ar) (xs:=xs) (fun j σ H2'=>∃(hv:V) (o2:Option V),A4 H' H2'/\A9 H2' (y3o (match R7 ((z1b rows n).take j) z with|some v=>some (n,v)|none=>z2i (ms.take i) rows z)) hv/\
    σ=[some (.ref p),some (.ref lr),some (.str z),some hv,some (.int n),o2]) ⟨hv,o2,A4.refl _,th,rfl⟩ (fun j σ H2' _ ⟨_,_,g2,_⟩=>SqT.of (g2 _ _ er')) ?_ ?_
  ·rintro j y σ H2' hy ⟨hv2,o3,g2,th2,rfl⟩
   obtain⟨pq,b,e1',rfl,e2'⟩:=z2U tp j y hy
   have sb:SqT K H2' b [V.str pq.1,V.int pq.2]:=SqT.of (g2 _ _ e2')
   refine⟨_,rfl,b,_,0,_,rfl,rfl,sb,rfl,_,rfl,rfl,_,rfl,?_⟩
   have tk:(z1b rows n).take (j+1)=(z1b rows n).take j++[pq]:=z0C e1'
   refine B6 (fun c=>?_) (fun c=>?_)
   ·have c':pq.1=z:=by
     have:=z0Q c
     injection this
    refine⟨_,rfl,_,rfl,b,_,1,_,rfl,rfl,sb,rfl,(by show 2≤sizeLine;decide),fun t ht=>?_⟩
    refine⟨.ref t,_,g2.trans (z01 ht _),?_,rfl⟩
    rw[tk,y05,if_pos c']
    exact z0o z03 (by show 2≤1000000;decide) (.cons (z0D _) (.cons (z0D _) .nil))
   ·have c':¬pq.1=z:=fun e=>z46 c (by rw[e])
    refine⟨hv2,_,g2,?_,rfl⟩
    rw[tk,y05,if_neg c']
    exact th2
  ·rintro σ H2' ⟨hv2,o3,g2,th2,rfl⟩
   rw[lw,bW] at th2
   refine⟨hv2,_,_,g.trans g2,?_,rfl⟩
   rw[z0C hn,z8M]
   exact th2
 ·rintro σ H' ⟨hv,o1,o2,g,th,rfl⟩
  rw[b6,bW,er] at th
  exact⟨_,rfl,q hv H' (s2.trans g) th⟩
noncomputable def y4l(K:PySem.W.Frag):Sp:=fun vs H Q _=>∃(p lr:Addr) (ns:List Int) (us:List V) (rows:List Row) (r:Int),vs=[.ref p,.ref lr,.int r]/\H p=some (.lst (ns.map V.int))/\(∀x∈ns,1≤x/\x≤60)/\ns.length≤900/\(∀x∈ns,x≤rows.length)/\
 SqL K H lr us/\z0b H (rows.map O4) us/\(∀w∈rows,w.length≤12)/\0≤r/\∀(l:Addr) (zs:List V) (H':Hp),H l=none->A4 H H'->H' l=some (.lst zs)->z0b H' (z6W ns rows r) zs->Q (.ref l) H'
theorem y6w(M:Bl mg)(F:Fun K "_law_gaps" "_law_gaps" z62 f fd)(N9:Cal P w K mg base 1 "_law_teller" z4e (z9M K)):A8 P w K mg base CX0 2 f fd z4H (y4l K):=by
 have nd:=z7s.nd
 refine F.ok z7s (fun vs H Q E h=>?_) (fun cdv A outer s H vs Q E hr h=>?_)
 ·obtain⟨p,lr,ns,us,rows,r,rfl,_⟩:=h
  rfl
 obtain⟨p,lr,ns,us,rows,r,rfl,hP,C7,hlen,hup,hR,tl,h12,r0,q⟩:=h
 refine⟨_,(z04 (z0k (i:=3) nd rfl (Or.inl rfl) (z0T z02)) (z04 (z1z cG rfl (z5C rfl M.range (z00 z06 (z00 (z09 (y43 rfl) rfl M.max gL (z00 (z0e z8e (pv 0) (z0T (z00 z06 z02))) z02)) z02))) (z0m (i:=4) nd rfl (Or.inl rfl)) (z04 (z0k (i:=5) nd rfl (Or.inl rfl) (z0l N9 (rm hr) rfl (z00 (pv 0) (z00 (pv 4) (z00 (pv 2) z02))))) (z04 (z0H (PW.pt (z4j (z0a z1H (pv 4) (pv 0) (by with_unfolding_all rfl)) (z3N (z0a z2y (pv 5) z06 (z0h _))))) (z05 (z0x (z26 bJ bQ bS z0G (pv 3) (z00 (z0X (z00 (pv 4) (z00 z06 (z00 (z0X z02) z02)))) z02)))) z0j) (z05 (z0H (PW.pt (z4j (z0a z1H (pv 4) (pv 0) (by with_unfolding_all rfl)) (z3N (z0a z1N (pv 5) z06 (z0h _))))) (z05 (z0x (z26 bJ bQ bS z0G (pv 3) (z00 (z0X (z00 (pv 4) (z00 (pv 5) (z00 (z0v z0p rfl M.tuple bT (z00 (z1n ["_law_row_here"] [] [] rfl (z0w rfl (by decide +kernel) rfl (by decide +kernel) rfl rfl) (z3W (z0N z0L (pv 1) (z0e z2J (pv 4) z06) (fun _ _=>rfl))) (fun _ _ _ _ _=>(z0m (i:=0) (show((["_law_row_here"]:List PySem.Str)++([]:List PySem.Str)).Nodup from by decide +kernel) rfl (Or.inl rfl))) (z0B (by decide)) z0c (fun _ _ _ _ _=>z20) (fun _ _ _ _ _=>(z0N (r:=T6 K) z19 (pv 0) z06 (fun _ _=>rfl)))) z02)) z02)))) z02)))) z0j))))) (z05 (z0d (pv 3))))),?_⟩
 refine⟨(by show 0≤sizeLine;decide),fun lg hlg=>?_⟩
 have s1:=z01 hlg (.lst [])
 refine⟨_,rfl,(by show 1≤sizeLine;decide),fun l0 hl0=>⟨p,l0,_,_,rfl,rfl,z01 hl0 _ _ _ (s1 _ _ hP),z03,?_,fun lc hlc=>?_⟩⟩
 ·rw[b6]
  exact fG (z0i (by show ns.length+1≤1000;lia))
 have s2:=s1.trans ((z01 hl0 (.lst [V.int 0])).trans (z01 hlc (.lst (ns.map V.int++[V.int 0]))))
 have eg:upd (upd (upd H lg (.lst [])) l0 (.lst [V.int 0])) lc (.lst (ns.map V.int++[V.int 0])) lg=some (.lst []):=(z01 hl0 _).trans (z01 hlc _) _ _ z03
 have ec:upd (upd (upd H lg (.lst [])) l0 (.lst [V.int 0])) lc (.lst (ns.map V.int++[V.int 0])) lc=some (.lst ((ns++[0]).map V.int)):=by
  rw[z03,bI]
  rfl
 generalize upd (upd (upd H lg (.lst [])) l0 (.lst [V.int 0])) lc (.lst (ns.map V.int++[V.int 0]))=H2 at s2 eg ec
 refine⟨lc,ns++[0],rfl,.inl (SqL.of ec),by simp,fun m hm top=>?_⟩
 have hm':m∈ns\/(ns=[]/\m=0):=by
  rcases cB.mp hm with h|h
  ·exact .inl h
  ·rw[bA] at h
   subst h
   cases ns with
   | nil=>exact .inr ⟨rfl,rfl⟩
   | cons x xs=>
    have h1:=top x (by simp)
    have h2:=C7 x bX
    lia
 have m60:0≤m/\m≤60:=by
  rcases hm' with h|⟨_,h⟩
  ·have:=C7 m h
   lia
  ·lia
 have topn:∀y∈ns,y≤m:=fun y hy=>top y (dP _ hy)
 refine⟨1,m,rfl,⟨by decide,by decide,by lia,by lia⟩,?_⟩
 refine z1E (lo:=1) (n:=(m-1).toNat) (fun i σ H'=>∃(zs:List V) (o1 o2:Option V),(∀b u,H b=some u->H' b=some u)/\H' lg=some (.lst zs)/\z0b H' (((upI 1 i).filter fun x=>!decide (x∈ns)).map (U0 ns rows r)) zs/\
   σ=[some (.ref p),some (.ref lr),some (.int r),some (.ref lg),o1,o2]) ⟨[],none,none,s2,eg,.nil,rfl⟩ (fun i σ H' hi hp=>?_) (fun σ H' hp=>?_)
 ·obtain⟨zs,o1,o2,g,eG,tG,rfl⟩:=hp
  have g':A4 H H':=g
  have hn:(1:Int)+(i:Int)≤rows.length:=by
   rcases hm' with h|⟨_,h⟩
   ·have:=hup m h
    lia
   ·lia
  have lz:zs.length≤i:=by
   rw[tG.length,b6]
   have:=cE (fun x=>!decide (x∈ns)) (upI 1 i)
   rw[z13] at this
   exact this
  refine⟨_,rfl,_,rfl,_,rfl,p,ns,1+(i:Int),r,rfl,SqL.of (g _ _ hP),C7,hlen,r0,fun H3 s3=>?_⟩
  have t0:=y08 (ns:=ns) (n:=1+(i:Int)) (r:=r)
  have g3:A4 H H3:=g'.trans s3
  have eG3:=s3 _ _ eG
  have tG3:=z0b.keep s3 _ _ tG
  refine⟨_,rfl,_,rfl,p,_,rfl,.inl (SqL.of (g3 _ _ hP)),rfl,z3w ns,_,rfl,?_⟩
  rw[if_pos rfl,z4G]
  by_cases hin:(1:Int)+(i:Int)∈ns
  ·rw[decide_eq_true hin]
   refine C8 (C8 ?_)
   refine⟨_,rfl,_,rfl,p,_,rfl,.inl (SqL.of (g3 _ _ hP)),rfl,z3w ns,_,rfl,?_⟩
   rw[if_pos rfl,z4G,decide_eq_true hin]
   refine C8 (C8 ⟨zs,_,_,g3,eG3,?_,rfl⟩)
   rw[z7h,if_pos hin,cR]
   exact tG3
  ·rw[decide_eq_false hin]
   refine J5 ⟨_,rfl,rfl,_,rfl,?_⟩
   refine B6 (fun c=>?_) (fun c=>?_)
   ·have c0:z14 ns (1+(i:Int)) r=0:=by
     have:=z0Q c
     injection this
    refine⟨_,rfl,.inl ⟨rfl,_,SqL.of eG3⟩,_,rfl,(by show 0≤sizeLine;decide),fun t0 ht0=>⟨(by show 3≤sizeLine;decide),fun t ht=>?_⟩⟩
    have s4:=(z01 ht0 (.tup [])).trans (z01 ht (.tup [V.int (1+(i:Int)),V.int 0,V.ref t0]))
    have et:upd (upd H3 t0 (.tup [])) t (.tup [V.int (1+(i:Int)),V.int 0,V.ref t0]) t=some (.tup [V.int (1+(i:Int)),V.int 0,V.ref t0]):=z03
    have et0:upd (upd H3 t0 (.tup [])) t (.tup [V.int (1+(i:Int)),V.int 0,V.ref t0]) t0=some (.tup []):=z01 ht _ _ _ z03
    generalize upd (upd H3 t0 (.tup [])) t (.tup [V.int (1+(i:Int)),V.int 0,V.ref t0])=H4 at s4 et et0
    refine⟨lg,_,_,rfl,rfl,s4 _ _ eG3,z0i (by lia),?_⟩
    have g5:∀b u,H b=some u->upd H4 lg (.lst (zs++[V.ref t])) b=some u:=fun b u e=>by
     rw[z0f (z0r e hlg)]
     exact s4 _ _ (g3 _ _ e)
    have tg:A9 H4 (U0 ns rows r (1+(i:Int))) (.ref t):=by
     unfold U0
     rw[if_pos c0,c0]
     exact z0o et (by show 3≤1000000;decide) (.cons (z0D _) (.cons (z0D _) (.cons (z0o et0 (by show 0≤1000000;decide) .nil) .nil)))
    have t5:z0b (upd H4 lg (.lst (zs++[V.ref t]))) (((upI 1 (i+1)).filter fun x=>!decide (x∈ns)).map (U0 ns rows r)) (zs++[V.ref t]):=by
     rw[z7h,if_neg hin,bI]
     exact z0b.over (s4 _ _ eG3) (fun _ e=>by cases e) _ _ (z0b.snoc (z0b.keep s4 _ _ tG3) tg)
    refine⟨_,rfl,_,rfl,p,_,rfl,.inl (SqL.of (g5 _ _ hP)),rfl,z3w ns,_,rfl,?_⟩
    rw[if_pos rfl,z4G,decide_eq_false hin]
    refine J5 ⟨_,rfl,_,_,rfl,rfl,_,rfl,?_⟩
    rw[c0]
    exact C8 ⟨_,_,_,g5,z03,t5,rfl⟩
   ·have c0:z14 ns (1+(i:Int)) r≠0:=fun e=>z46 c (by rw[e])
    refine⟨_,rfl,_,rfl,p,_,rfl,.inl (SqL.of (g3 _ _ hP)),rfl,z3w ns,_,rfl,?_⟩
    rw[if_pos rfl,z4G,decide_eq_false hin]
    refine J5 ⟨_,rfl,_,_,rfl,rfl,_,rfl,?_⟩
    rw[decide_eq_true (show(0:Int)<z14 ns (1+(i:Int)) r by lia)]
    refine J5 ?_
    obtain⟨v,_,av,tv⟩:=z5H (z0b.keep g3 _ _ tl) (k:=1+(i:Int)) (by lia) hn
    obtain⟨ar,xs,rfl,er,_,tp⟩:=z0q tv
    have lw:xs.length=(z1b rows (1+(i:Int))).length:=by rw[tp.length,b6]
    have w12:=z9H h12 (1+(i:Int))
    refine⟨_,rfl,.inl ⟨rfl,_,SqL.of eG3⟩,_,rfl,_,rfl,_,rfl,_,rfl,_,_,rfl,rfl,lr,us,_,_,rfl,rfl,g3.seq hR,av,ar,rfl,⟨_,SqT.of er⟩,?_⟩
    refine z27 (xs:=xs) (fun j ys H2=>H2=H3/\ys=((z23 (z1b rows (1+(i:Int)))).take j).map V.str) ⟨rfl,rfl⟩ (fun j ys H2 hj hp=>?_) (fun j y ys H2 hy hp=>?_) (fun ys H2 hp=>?_)
    ·obtain⟨rfl,rfl⟩:=hp
     refine⟨SqT.of er,z0i ?_⟩
     rw[b6,bM]
     lia
    ·obtain⟨rfl,rfl⟩:=hp
     obtain⟨pq,b,e1,rfl,e2⟩:=z2U tp j y hy
     refine⟨_,rfl,b,_,0,_,rfl,rfl,SqT.of e2,rfl,rfl,?_⟩
     have e3:(z23 (z1b rows (1+(i:Int))))[j]? = some pq.1:=by
      unfold z23
      rw[bL,e1]
      rfl
     rw[z0C e3,bI]
     rfl
    obtain⟨rfl,rfl⟩:=hp
    have ll:(z23 (z1b rows (1+(i:Int)))).take xs.length=z23 (z1b rows (1+(i:Int))):=d5 (by unfold z23;rw[b6];lia)
    rw[ll]
    intro D hD
    refine⟨D,_,rfl,.inl ⟨SqL.of z03,fun t0 ht0=>⟨(by show 3≤sizeLine;decide),fun t ht=>?_⟩⟩⟩
    generalize hN:(z23 (z1b rows (1+(i:Int)))).map V.str=nv at hD ht0 ht
    have s4:=(z01 hD (.lst nv)).trans ((z01 ht0 (.tup nv)).trans (z01 ht (.tup [V.int (1+(i:Int)),V.int (z14 ns (1+(i:Int)) r),V.ref t0])))
    have et:upd (upd (upd H2 D (.lst nv)) t0 (.tup nv)) t (.tup [V.int (1+(i:Int)),V.int (z14 ns (1+(i:Int)) r),V.ref t0]) t=some (.tup [V.int (1+(i:Int)),V.int (z14 ns (1+(i:Int)) r),V.ref t0]):=z03
    have et0:upd (upd (upd H2 D (.lst nv)) t0 (.tup nv)) t (.tup [V.int (1+(i:Int)),V.int (z14 ns (1+(i:Int)) r),V.ref t0]) t0=some (.tup nv):=z01 ht _ _ _ z03
    generalize upd (upd (upd H2 D (.lst nv)) t0 (.tup nv)) t (.tup [V.int (1+(i:Int)),V.int (z14 ns (1+(i:Int)) r),V.ref t0])=H4 at s4 et et0
    refine⟨lg,_,_,rfl,rfl,s4 _ _ eG3,z0i (by lia),?_⟩
    have g5:∀b u,H b=some u->upd H4 lg (.lst (zs++[V.ref t])) b=some u:=fun b u e=>by
     rw[z0f (z0r e hlg)]
     exact s4 _ _ (g3 _ _ e)
    have tg:A9 H4 (U0 ns rows r (1+(i:Int))) (.ref t):=by
     unfold U0
     rw[if_neg c0]
     refine z0o et (by show 3≤1000000;decide) (.cons (z0D _) (.cons (z0D _) (.cons (z0o et0 ?_ ?_) .nil)))
     ·rw[b6]
      unfold z23
      rw[b6]
      lia
     ·rw[<- hN]
      exact z4K _
    refine⟨_,_,_,g5,z03,?_,rfl⟩
    rw[z7h,if_neg hin,bI]
    exact z0b.over (s4 _ _ eG3) (fun _ e=>by cases e) _ _ (z0b.snoc (z0b.keep s4 _ _ tG3) tg)
 ·obtain⟨zs,o1,o2,g,eG,tG,rfl⟩:=hp
  rw[y3P hm' C7 topn] at tG
  exact⟨_,rfl,q lg zs H' hlg g eG tG⟩
theorem y5t(x:Str)(ns:List Str):inV (.str x) (ns.map V.str)=decide (x∈ns):=by
 unfold inV
 rw[d8,fV,gJ,decide_eq_true_eq]
 constructor
 ·rintro⟨y,hy,e⟩
  have:y=x:=by simpa [eqV] using e
  exact this ▸ hy
 ·intro h
  exact⟨x,h,by simp[eqV]⟩
noncomputable def z3q(ns:List Int)(rows:List Row)(r n:Int):List Str:=if z14 ns n r=0 then [] else z23 (z1b rows n)
theorem y6V(ns:List Int)(rows:List Row)(r n:Int):U0 ns rows r n=.tup [.int n,.int (z14 ns n r),U2 (z3q ns rows r n)]:=by
 unfold U0 z3q
 by_cases h:z14 ns n r=0
 ·rw[if_pos h,if_pos h]
  rfl
 ·rw[if_neg h,if_neg h]
noncomputable def z7X(ns:List Int)(rows:List Row)(r num:Int)(z:Str):List Int:=(z1Y ns).filter fun n=>decide (num<n) && decide (z∈z3q ns rows r n)
noncomputable def y2W(ns:List Int)(rows:List Row)(r num:Int)(z:Str):DV:=.tup ((z7X ns rows r num z).map fun n=>.tup [.int n,.int (z14 ns n r)])
theorem z8o(ns:List Int)(rows:List Row)(r num:Int)(z:Str):(z7X ns rows r num z).length≤60:=c9 (cE _ _) (z2x ns)
theorem z7K{H:Hp}{ns:List Int}{rows:List Row}{r:Int}{zs:List V}(h:z0b H (z6W ns rows r) zs){i:Nat}{x:V}(e:zs[i]? = some x) :
  ∃(n:Int) (a b:Addr),(z1Y ns)[i]? = some n/\x=.ref a/\H a=some (.tup [.int n,.int (z14 ns n r),.ref b])/\H b=some (.tup ((z3q ns rows r n).map V.str)):=by
 obtain⟨d,e1,t⟩:=h.at i x e
 unfold z6W at e1
 rw[bL] at e1
 cases er:(z1Y ns)[i]? with
 | none=>rw[er] at e1;cases e1
 | some n=>
  rw[er] at e1
  have e2:U0 ns rows r n=d:=Option.some.inj e1
  rw[y6V] at e2
  subst e2
  obtain⟨a,ys,rfl,h1,_,h2⟩:=z0q t
  obtain⟨y1,r1,rfl,t1,h3⟩:=z0g h2
  obtain⟨y2,r2,rfl,t2,h4⟩:=z0g h3
  obtain⟨y3,r3,rfl,t3,h5⟩:=z0g h4
  have:=z0W h5
  subst this
  obtain⟨b,ws,rfl,hb,_,tb⟩:=z0q t3
  rw[z1e t1,z1e t2] at h1
  rw[z4X tb] at hb
  exact⟨n,a,b,rfl,rfl,h1,hb⟩
theorem z5q{H:Hp}{ns:List Int}{rows:List Row}{r:Int}{zs:List V}(h:z0b H (z6W ns rows r) zs):zs.length=(z1Y ns).length:=by
 rw[h.length]
 unfold z6W
 rw[b6]
noncomputable def y1g(K:PySem.W.Frag):Sp:=fun vs H Q _=>∃(lg:Addr) (zs:List V) (ns:List Int) (rows:List Row) (r num:Int) (z:Str),vs=[.ref lg,.int num,.str z]/\SqL K H lg zs/\z0b H (z6W ns rows r) zs/\
 ∀(v:V) (H':Hp),A4 H H'->A9 H' (y2W ns rows r num z) v->Q v H'
theorem y4O(M:Bl mg)(F:Fun K "_law_again" "_law_again" z50 f fd):A8 P w K mg base CX0 1 f fd z3E (y1g K):=by
 have nd:=z6P.nd
 refine F.ok z6P (fun vs H Q E h=>?_) (fun cdv A outer s H vs Q E hr h=>?_)
 ·obtain⟨lg,zs,ns,rows,r,num,z,rfl,_⟩:=h
  rfl
 obtain⟨lg,zs,ns,rows,r,num,z,rfl,hG,tG,q⟩:=h
 refine⟨_,(z05 (z0d (z0v z0p rfl M.tuple bT (z00 (z1n ["_law_gap"] ["_law_number","_law_name"] [1,2] rfl (z0w rfl (by decide +kernel) rfl (by decide +kernel) rfl rfl) (z1r (pv 0)) (fun _ _ _ _ _=>(z0m (i:=0) (show((["_law_gap"]:List PySem.Str)++(["_law_number","_law_name"]:List PySem.Str)).Nodup from by decide +kernel) rfl (Or.inl rfl))) (z0B (by decide)) z0c (fun _ _ _ _ _=>(z2m (PW.pt (z4j (z0a z1N (z0N (r:=T6 K) z19 (pv 0) z06 (fun _ _=>rfl)) (pv 1) (z0h _)) (z3N (z0a (r:=rIn K false) z7q (pv 2) (z0N (r:=T6 K) z19 (pv 0) z06 (fun _ _=>rfl)) (by with_unfolding_all rfl))))))) (fun _ _ _ _ _=>(z0X (z00 (z0N (r:=T6 K) z19 (pv 0) z06 (fun _ _=>rfl)) (z00 (z0N (r:=T6 K) z19 (pv 0) z06 (fun _ _=>rfl)) z02))))) z02)))),?_⟩
 have lz:=z5q tG
 have l60:=z2x ns
 refine⟨_,rfl,lg,rfl,⟨_,hG⟩,?_⟩
 refine z2b (xs:=zs) (fun i ys H'=>A4 H H'/\z0b H' ((((z1Y ns).take i).filter fun n=>decide (num<n) && decide (z∈z3q ns rows r n)).map fun n=>.tup [.int n,.int (z14 ns n r)]) ys) ⟨A4.refl _,by rw[cT];exact .nil⟩
  (fun i ys H' hi hp=>?_) (fun i x ys H' hx hp=>?_) (fun ys H' hp=>?_)
 ·obtain⟨g,t⟩:=hp
  refine⟨g.seq hG,z0i ?_⟩
  have:=cE (fun n=>decide (num<n) && decide (z∈z3q ns rows r n)) ((z1Y ns).take i)
  rw[bM] at this
  rw[t.length,b6]
  lia
 ·obtain⟨g,t⟩:=hp
  obtain⟨n,a,b,en,rfl,ha,hb⟩:=z7K tG hx
  have sa:SqT K H' a [V.int n,V.int (z14 ns n r),V.ref b]:=SqT.of (g _ _ ha)
  have tks:=z0C en
  refine⟨_,rfl,a,_,0,_,rfl,rfl,sa,rfl,_,rfl,_,_,rfl,rfl,_,rfl,?_⟩
  rw[tks,cY,dG]
  refine B6 (fun c=>?_) (fun c=>?_)
  ·refine⟨_,rfl,_,rfl,a,_,2,_,rfl,rfl,sa,rfl,b,_,rfl,.inr (SqT.of (g _ _ hb)),rfl,z2B _,_,rfl,?_⟩
   rw[if_neg bO,y5t,c,fQ]
   refine B6 (fun c2=>?_) (fun c2=>?_)
   ·rw[if_pos c2,bI]
    refine⟨_,rfl,a,_,0,_,rfl,rfl,sa,rfl,_,rfl,a,_,1,_,rfl,rfl,sa,rfl,(by show 2≤sizeLine;decide),fun u hu=>⟨g.trans (z01 hu _),?_⟩⟩
    exact z0b.snoc (z0b.keep (z01 hu _) _ _ t) (z0o z03 (by show 2≤1000000;decide) (.cons (z0D _) (.cons (z0D _) .nil)))
   ·rw[if_neg c2,dL,cR]
    exact⟨g,t⟩
  ·rw[fE.mpr c,fZ]
   refine C8 ?_
   rw[if_neg bO,dL,cR]
   exact⟨g,t⟩
 ·obtain⟨g,t⟩:=hp
  rw[lz,bW] at t
  intro D hD
  refine⟨D,_,rfl,.inl ⟨SqL.of z03,fun l hl=>?_⟩⟩
  have s2:=(z01 hD (.lst ys)).trans (z01 hl (.tup ys))
  refine q _ _ (g.trans s2) (z0o z03 ?_ (z0b.keep s2 _ _ t))
  have:=z8o ns rows r num z
  rw[b6]
  lia
noncomputable def z3y(ns:List Int)(r num:Int):List Int:=(z1Y ns).filter fun n=>decide (num<n) && decide (z14 ns n r=0)
noncomputable def z2z(ns:List Int)(rows:List Row)(r num:Int)(z:Str):Str:=if 0<(z7X ns rows r num z).length then "stale" else if z3y ns r num=[] then "sure" else "open"
noncomputable def y3s(K:PySem.W.Frag):Sp:=fun vs H Q _=>∃(lg:Addr) (zs:List V) (ns:List Int) (rows:List Row) (r num:Int) (z:Str),vs=[.ref lg,.int num,.str z]/\SqL K H lg zs/\z0b H (z6W ns rows r) zs/\
 ∀H',A4 H H'->Q (.str (z2z ns rows r num z)) H'
theorem y2R(M:Bl mg)(F:Fun K "_law_state" "_law_state" z51 f fd)(J0:Cal P w K mg base 1 "_law_again" z3E (y1g K)):A8 P w K mg base CX0 2 f fd z5b (y3s K):=by
 have nd:=z6H.nd
 refine F.ok z6H (fun vs H Q E h=>?_) (fun cdv A outer s H vs Q E hr h=>?_)
 ·obtain⟨lg,zs,ns,rows,r,num,z,rfl,_⟩:=h
  rfl
 obtain⟨lg,zs,ns,rows,r,num,z,rfl,hG,tG,q⟩:=h
 refine⟨_,(z04 (z0H (z0a z1N (z09 z07 rfl M.len bD (z00 (z0l J0 (rm hr) rfl (z00 (pv 0) (z00 (pv 1) (z00 (pv 2) z02)))) z02)) z06 (z0h _)) (z05 (z0d z0F)) z0j) (z04 (z0H (z0a (y7o hr.Y7) (z1n ["_law_gap"] ["_law_number"] [1] rfl (z0w rfl (by decide +kernel) rfl (by decide +kernel) rfl rfl) (z1r (pv 0)) (fun _ _ _ _ _=>(z0m (i:=0) (show((["_law_gap"]:List PySem.Str)++(["_law_number"]:List PySem.Str)).Nodup from by decide +kernel) rfl (Or.inl rfl))) (z0B (by decide)) z0c (fun _ _ _ _ _=>(z2m (PW.pt (z4j (z0a z1N (z0N (r:=T6 K) z19 (pv 0) z06 (fun _ _=>rfl)) (pv 1) (z0h _)) (z3N (z0a z2y (z0N (r:=T6 K) z19 (pv 0) z06 (fun _ _=>rfl)) z06 (z0h _))))))) (fun _ _ _ _ _=>(z0N (r:=T6 K) z19 (pv 0) z06 (fun _ _=>rfl)))) (z0T z02) (z0h _)) (z05 (z0d z0F)) z0j) (z05 (z0d z0F)))),?_⟩
 have lz:=z5q tG
 have l60:=z2x ns
 refine⟨_,rfl,_,rfl,_,rfl,lg,zs,ns,rows,r,num,z,rfl,hG,tG,fun v H1 s1 t1=>?_⟩
 obtain⟨a,xs,rfl,ha,_,ta⟩:=z0q t1
 have lx:xs.length=(z7X ns rows r num z).length:=by rw[ta.length,b6]
 refine⟨a,xs,rfl,.inr (SqT.of ha),_,_,rfl,rfl,_,rfl,?_⟩
 rw[lx]
 refine B6 (fun c=>?_) (fun c=>?_)
 ·have c':(0:Int)<((z7X ns rows r num z).length:Int):=z0Q c
  have e:z2z ns rows r num z="stale":=by
   unfold z2z
   rw[if_pos (by lia)]
  exact(by rw[<- e];exact q _ s1)
 have c':¬(0:Int)<((z7X ns rows r num z).length:Int):=z46 c
 have nx:¬0<(z7X ns rows r num z).length:=by lia
 refine⟨_,rfl,lg,rfl,⟨_,s1.seq hG⟩,?_⟩
 refine z2b (xs:=zs) (fun i ys H'=>H'=H1/\ys=(((z1Y ns).take i).filter fun n=>decide (num<n) && decide (z14 ns n r=0)).map V.int) ⟨rfl,rfl⟩ (fun i ys H' hi hp=>?_) (fun i x ys H' hx hp=>?_) (fun ys H' hp=>?_)
 ·obtain⟨rfl,rfl⟩:=hp
  refine⟨s1.seq hG,z0i ?_⟩
  have:=cE (fun n=>decide (num<n) && decide (z14 ns n r=0)) ((z1Y ns).take i)
  rw[bM] at this
  rw[b6]
  lia
 ·obtain⟨rfl,rfl⟩:=hp
  obtain⟨n,a2,b2,en,rfl,ha2,hb2⟩:=z7K (z0b.keep s1 _ _ tG) hx
  have sa:SqT K H' a2 [V.int n,V.int (z14 ns n r),V.ref b2]:=SqT.of ha2
  have tks:=z0C en
  refine⟨_,rfl,a2,_,0,_,rfl,rfl,sa,rfl,_,rfl,_,_,rfl,rfl,_,rfl,?_⟩
  rw[tks,cY,dG]
  refine B6 (fun c=>?_) (fun c=>?_)
  ·refine⟨_,rfl,a2,_,1,_,rfl,rfl,sa,rfl,rfl,_,rfl,?_⟩
   rw[c,fQ]
   refine B6 (fun c2=>?_) (fun c2=>?_)
   ·have c3:z14 ns n r=0:=by
     have:=z0Q c2
     injection this
    rw[decide_eq_true c3,if_pos rfl,bI]
    exact⟨_,rfl,a2,_,0,_,rfl,rfl,sa,rfl,rfl,rfl⟩
   ·have c3:¬z14 ns n r=0:=fun e=>z46 c2 (by rw[e])
    rw[decide_eq_false c3,if_neg bO,dL,cR]
    exact⟨rfl,rfl⟩
  ·rw[fE.mpr c,fZ]
   refine C8 ?_
   rw[if_neg bO,dL,cR]
   exact⟨rfl,rfl⟩
 ·obtain⟨rfl,rfl⟩:=hp
  rw[lz,bW]
  have ed:((z1Y ns).filter fun n=>decide (num<n) && decide (z14 ns n r=0))=z3y ns r num:=rfl
  rw[ed]
  intro D hD
  refine⟨(by show 0≤sizeLine;decide),fun e0 he0=>⟨D,e0,_,rfl,rfl,SqL.of (z01 he0 _ _ _ z03),SqL.of z03,_,rfl,?_⟩⟩
  have s2:=s1.trans ((z01 hD (.lst ((z3y ns r num).map V.int))).trans (z01 he0 (.lst [])))
  cases e:z3y ns r num with
  | nil=>
   rw[e] at s2
   refine C8 ?_
   have es:z2z ns rows r num z="sure":=by
    unfold z2z
    rw[if_neg nx,if_pos e]
   exact(by rw[<- es];exact q _ s2)
  | cons y ys=>
   rw[e] at s2
   refine J5 ?_
   have es:z2z ns rows r num z="open":=by
    unfold z2z
    rw[if_neg nx,if_neg (by rw[e];simp)]
   exact(by rw[<- es];exact q _ s2)
noncomputable def Z8(ns:List Int)(rows:List Row)(r:Int)(z:Str):DV:=.tup [.str z,.str (z2z ns rows r (z4O (z2i (z0u ns) rows z)) z),.int (z4O (z2i (z0u ns) rows z)),y4T (z2i (z0u ns) rows z)]
noncomputable def y4a(nm:List Str)(ns:List Int)(rows:List Row)(r:Int):DV:=.tup (nm.map (Z8 ns rows r))
noncomputable def y4h(K:PySem.W.Frag):Sp:=fun vs H Q _=>∃(ln p lr:Addr) (nm:List Str) (ns:List Int) (us:List V) (rows:List Row) (r:Int),vs=[.ref ln,.ref p,.ref lr,.int r]/\SqL K H ln (nm.map V.str)/\nm.length≤12/\H p=some (.lst (ns.map V.int))/\ns.length<64/\ns.Nodup/\(∀x∈ns,1≤x/\x≤60)/\(∀x∈ns,x≤rows.length)/\
 SqL K H lr us/\z0b H (rows.map O4) us/\(∀w∈rows,w.length≤12)/\0≤r/\∀(v:V) (H':Hp),A4 H H'->A9 H' (y4a nm ns rows r) v->Q v H'
theorem y4Y(M:Bl mg)(F:Fun K "_law_table" "_law_table" z55 f fd)(K1:Cal P w K mg base 2 "_law_gaps" z4H (y4l K))(K5:Cal P w K mg base 1 "_law_held" z4J (y0Q K))
  (Q4:Cal P w K mg base 2 "_law_state" z5b (y3s K)):A8 P w K mg base CX0 3 f fd z5h (y4h K):=by
 have nd:=z6x.nd
 refine F.ok z6x (fun vs H Q E h=>?_) (fun cdv A outer s H vs Q E hr h=>?_)
 ·obtain⟨ln,p,lr,nm,ns,us,rows,r,rfl,_⟩:=h
  rfl
 obtain⟨ln,p,lr,nm,ns,us,rows,r,rfl,hN,n12,hP,h64,nds,C7,hup,hR,tl,h12,r0,q⟩:=h
 refine⟨_,(z04 (z0k (i:=4) nd rfl (Or.inl rfl) (z0l K1 (rm hr) rfl (z00 (pv 1) (z00 (pv 2) (z00 (pv 3) z02))))) (z04 (z0k (i:=5) nd rfl (Or.inl rfl) (z0T z02)) (z04 (z1z cG rfl (z1r (pv 0)) (z0m (i:=6) nd rfl (Or.inl rfl)) (z04 (z0k (i:=7) nd rfl (Or.inl rfl) (z0l K5 (rm hr) rfl (z00 (pv 1) (z00 (pv 2) (z00 (pv 6) z02))))) (z05 (z0x (z26 bJ bQ bS z0G (pv 5) (z00 (z0X (z00 (pv 6) (z00 (z0l Q4 (rm hr) rfl (z00 (pv 4) (z00 (z0N z19 (pv 7) z06 (fun _ _=>rfl)) (z00 (pv 6) z02)))) (z00 (z0N z19 (pv 7) z06 (fun _ _=>rfl)) (z00 (z0N z19 (pv 7) z06 (fun _ _=>rfl)) z02))))) z02)))))) (z05 (z0d (z0v z0p rfl M.tuple bT (z00 (pv 5) z02))))))),?_⟩
 refine⟨_,rfl,_,rfl,_,rfl,p,lr,ns,us,rows,r,rfl,hP,C7,by lia,hup,hR,tl,h12,r0,fun lg gz H1 nlg s1 eG tG=>?_⟩
 refine⟨(by show 0≤sizeLine;decide),fun lt hlt=>?_⟩
 refine⟨_,rfl,ln,rfl,⟨_,(s1.trans (z01 hlt _)).seq hN⟩,z2u (K:=K) (a:=ln) (xs:=nm.map V.str) (fun i σ H'=>∃(ts:List V) (o1 o2:Option V),(∀b u,H1 b=some u->H' b=some u)/\H' lt=some (.lst ts)/\z0b H' ((nm.take i).map (Z8 ns rows r)) ts/\
   σ=[some (.ref ln),some (.ref p),some (.ref lr),some (.int r),some (.ref lg),some (.ref lt),o1,o2])
  ⟨[],none,none,z01 hlt _,z03,by rw[cT];exact .nil,rfl⟩ (fun i σ H' _ ⟨_,_,_,g,_⟩=>(s1.trans g).seq hN) ?_ ?_⟩
 ·rintro i x σ H' hi ⟨ts,o1,o2,g,eT,tT,rfl⟩
  have g':A4 H1 H':=g
  obtain⟨z,hz,rfl⟩:∃z,nm[i]? = some z/\x=V.str z:=by
   rw[bL] at hi
   cases e:nm[i]? with
   | none=>rw[e] at hi;cases hi
   | some z=>rw[e] at hi;exact⟨z,rfl,(Option.some.inj hi).symm⟩
  have lts:ts.length≤12:=by
   rw[tT.length,b6,bM]
   lia
  have sg:=s1.trans g'
  refine⟨_,rfl,_,rfl,_,rfl,p,lr,ns,us,rows,z,rfl,SqL.of (sg _ _ hP),h64,nds,C7,hup,sg.seq hR,z0b.keep sg _ _ tl,fun hv H3 s3 th=>?_⟩
  obtain⟨ah,y,rfl,eh,ty⟩:=z5z th
  have sah:SqT K H3 ah [V.int (z4O (z2i (z0u ns) rows z)),y]:=SqT.of eh
  refine⟨_,rfl,.inl ⟨rfl,_,SqL.of (s3 _ _ eT)⟩,_,rfl,_,rfl,_,rfl,ah,_,0,_,rfl,rfl,sah,rfl,_,rfl,lg,gz,ns,rows,r,_,z,rfl,SqL.of (s3 _ _ (g _ _ eG)),z0b.keep (g'.trans s3) _ _ tG,fun H4 s4=>?_⟩
  have sah4:SqT K H4 ah [V.int (z4O (z2i (z0u ns) rows z)),y]:=SqT.of (s4 _ _ eh)
  refine⟨_,rfl,ah,_,0,_,rfl,rfl,sah4,rfl,_,rfl,ah,_,1,_,rfl,rfl,sah4,rfl,(by show 4≤sizeLine;decide),fun t ht=>?_⟩
  have s34:=s3.trans (s4.trans (z01 ht (.tup [V.str z,V.str (z2z ns rows r (z4O (z2i (z0u ns) rows z)) z),V.int (z4O (z2i (z0u ns) rows z)),y])))
  refine⟨lt,_,_,rfl,rfl,s34 _ _ eT,z0i (by lia),?_⟩
  refine⟨_,_,_,fun b u e=>?_,z03,?_,rfl⟩
  ·rw[z0f (z0r e hlt)]
   exact s34 _ _ (g b u e)
  ·rw[z0C hz,bI]
   refine z0b.over (s34 _ _ eT) (fun _ e=>by cases e) _ _ (z0b.snoc (z0b.keep s34 _ _ tT) (z0o z03 (by show 4≤1000000;decide) (.cons (z0E _) (.cons (z0E _) (.cons (z0D _) (.cons ?_ .nil))))))
   exact A9.keep (s4.trans (z01 ht _)) _ _ ty
 ·rintro σ H' ⟨ts,o1,o2,g,eT,tT,rfl⟩
  rw[b6,bW] at tT
  refine⟨_,rfl,lt,ts,rfl,.inl ⟨SqL.of eT,fun l hl=>?_⟩⟩
  refine q _ _ (s1.trans (A4.trans g (z01 hl _))) (z0o z03 ?_ (z0b.keep (z01 hl _) _ _ tT))
  rw[b6]
  lia
theorem y4q{ds:List DV}{n:Nat}(h:∀d∈ds,d.deep≤n):DV.T9 ds≤n:=by
 induction ds with
 | nil=>unfold DV.T9;exact cQ _
 | cons d r ih=>
  unfold DV.T9
  exact Nat.max_le.mpr ⟨h d bX,ih fun x hx=>h x (bP _ hx)⟩
theorem z16{ds:List DV}{n:Nat}(h:∀d∈ds,d.deep≤n):(DV.tup ds).deep≤n+1:=by
 unfold DV.deep
 exact Nat.succ_le_succ (y4q h)
theorem z1s(i:Int)(n:Nat):(DV.int i).deep≤n:=by unfold DV.deep;exact cQ _
theorem z37(i:Str)(n:Nat):(DV.str i).deep≤n:=by unfold DV.deep;exact cQ _
theorem y1K(s:List Str):(U2 s).deep≤1:=z16 fun d hd=>by
 obtain⟨x,_,rfl⟩:=cF.mp hd
 exact z37 _ _
theorem z8H{rows:List Row}{j:Nat}{k:Int}(h0:1≤k)(h:k≤j):z1b (rows.take j) k=z1b rows k:=by
 unfold z1b
 have hk:(k-1).toNat<j:=by lia
 rw[bV,bV,List.getElem?_take,if_pos hk]
theorem y0y{rows:List Row}{j:Nat}{n r:Int}(h0:1≤n)(h:n≤j):z18 (rows.take j) n r=z18 rows n r:=by
 unfold z18 y56
 rw[z8H h0 h]
 have e:(z6t n r).map (y16 (rows.take j))=(z6t n r).map (y16 rows):=gX fun k hk=>by
  unfold z6t at hk
  rw[cM,z97] at hk
  unfold y16
  rw[z8H (by lia) (by lia)]
 rw[e]
abbrev OfP:=Hp->Addr->List Addr->List Str->Int->List Row->Prop
structure w01(C:Addr)(ms:List Str)(Of:OfP):Prop where
 ins:∀{H p fp zs r rows},Of H p fp zs r rows->∃dx fs,H p=some (.ins C dx fs)/\∀m∈ms,fs.lookup m=none
 own:∀{H p fp zs r rows},Of H p fp zs r rows->∀b∈fp,∃o,H b=some o/\∀xs,o≠.tup xs
 keep:∀{H H' p fp gp zs r rows},Of H p fp zs r rows->z0t gp H H'->(∀b∈gp,b∉fp)->z4n H gp->Of H' p fp zs r rows
theorem w01.same{C:Addr}{ms:List Str}{Of:OfP}(O:w01 C ms Of){H H':Hp}{p:Addr}{fp:List Addr}{zs:List Str}{r:Int}{rows:List Row}(h:Of H p fp zs r rows)(s:A4 H H'):Of H' p fp zs r rows:=
 O.keep (gp:=[]) h (.of s) (fun _ q=>by cases q) fun _ q=>by cases q
theorem w01.V0{C:Addr}{ms:List Str}{Of:OfP}(O:w01 C ms Of){H:Hp}{p:Addr}{fp:List Addr}{zs:List Str}{r:Int}{rows:List Row}(h:Of H p fp zs r rows):z4n H fp:=fun b m xs e=>by
 obtain⟨o,e1,n⟩:=O.own h b m
 rw[e1] at e
 exact n xs (Option.some.inj e)
noncomputable def z95(K:PySem.W.Frag)(H:Hp)(fp:List Addr)(u:V)(p:Str×Int):Prop:=∃a,u=.ref a/\(SqL K H a [.str p.1,.int p.2]\/SqT K H a [.str p.1,.int p.2])/\a∉fp
noncomputable def y1J(K:PySem.W.Frag)(H:Hp)(fp:List Addr)(v:V)(pr:Row):Prop:=∃a us,v=.ref a/\SqP K H a us/\a∉fp/\Paired (z95 K H fp) us pr
noncomputable def z1p(zs:List Str)(pr:Row):Row:=zs.filterMap fun z=>pr.find? fun p=>decide (p.1=z)
structure GoodR(zs:List Str)(pr:Row):Prop where
 nd:(pr.map Prod.fst).Nodup
 sub:∀p∈pr,p.1∈zs
 val:∀p∈pr,0≤p.2/\p.2≤1000000
noncomputable def y1L(K:PySem.W.Frag)(C:Addr)(Of:OfP):Sp:=fun vs H Q _=>∃(x dx pn:Addr) (zs:List Str) (r:Int),vs=[.ref x,.ref pn,.int r]/\H x=some (.ins C dx [])/\dx≠x/\H dx=some (.own x)/\HdN K H pn zs/\J8 zs/\0≤r/\r≤10/\
 ∀(fp:List Addr) (H':Hp),(∀b∈fp,b=x\/b=dx\/H b=none)->z0t [x] H H'->Of H' x fp zs r []->Q .non H'
noncomputable def z5S(K:PySem.W.Frag)(Of:OfP):Sp:=fun vs H Q _=>∃(p:Addr) (v:V) (fp:List Addr) (zs:List Str) (r:Int) (rows:List Row) (pr:Row),vs=[.ref p,v]/\Of H p fp zs r rows/\y1J K H fp v pr/\GoodR zs pr/\pr.length≤12/\rows.length<60/\
 ∀(fp':List Addr) (H':Hp),(∀b∈fp',b∈fp\/H b=none)->z0t fp H H'->Of H' p fp' zs r (rows++[z1p zs pr])->Q (.int (rows.length+1)) H'
noncomputable def z8i(Of:OfP):Sp:=fun vs H Q _=>∃(p:Addr) (fp:List Addr) (zs:List Str) (r:Int) (rows:List Row),vs=[.ref p]/\Of H p fp zs r rows/\∀H',A4 H H'->Q (.int rows.length) H'
noncomputable def z25(Of:OfP):Sp:=fun vs H Q _=>∃(p:Addr) (fp:List Addr) (zs:List Str) (r:Int) (rows:List Row) (n:Int),vs=[.ref p,.int n]/\Of H p fp zs r rows/\1≤n/\n≤rows.length/\
 ∀(v:V) (H':Hp),A4 H H'->A9 H' (z18 rows n r) v->Q v H'
theorem z32{z:Str}{zs:List Str}{pr:Row}:z1p (z::zs) pr=(match pr.find? fun p=>decide (p.1=z) with|some p=>p::z1p zs pr|none=>z1p zs pr):=by
 unfold z1p
 rw[eJ]
 cases pr.find? fun p=>decide (p.1=z)<;>rfl
theorem z6M{p:Str×Int}{w:Row}:∀{zs:List Str},p.1∉zs->z1p zs (p::w)=z1p zs w
 | [],_=>rfl
 | y::ys,h=>by
  rw[bC,not_or] at h
  rw[z32,z32,dB,decide_eq_false h.1,z6M h.2]
theorem z5i:∀{zs:List Str}{w:Row},zs.Nodup->(w.map Prod.fst).Sublist zs->z1p zs w=w
 | [],w,_,h=>by
  have:w.map Prod.fst=[]:=List.sublist_nil.mp h
  rw[List.map_eq_nil_iff] at this
  rw[this]
  rfl
 | z::zs,w,nd,h=>by
  rw[dA] at nd
  generalize e:w.map Prod.fst=l at h
  cases h with
  | cons _ h=>
   subst e
   have no:w.find? (fun p=>decide (p.1=z))=none:=List.find?_eq_none.mpr fun p hp=>by
    have:p.1∈zs:=h.subset (gY hp)
    intro e
    exact nd.1 (of_decide_eq_true e ▸ this)
   rw[z32,no]
   exact z5i nd.2 h
  | cons_cons _ h=>
   cases w with
   | nil=>cases e
   | cons p w=>
    rw[cP] at e
    injection e with e1 e2
    subst e2
    rw[z32,dB,decide_eq_true e1,z6M (by rw[e1];exact nd.1),z5i nd.2 h]
noncomputable def tsN(n:Int)(j:Nat):List Int:=(dnI n j).filter fun k=>decide (1≤k)
noncomputable def tsP(ss:List (List Str))(k:Int):DV:=.tup [.int k,U2 (ss.getD (k-1).toNat [])]
noncomputable def tsD(ss:List (List Str))(r:Int):DV:=.tup ((tsN ss.length r.toNat).map (tsP ss))
theorem y62(n:Int)(j:Nat):(tsN n j).length≤j:=by
 have h:=cE (fun k=>decide (1≤k)) (dnI n j)
 rw[z9v] at h
 exact h
noncomputable def y42(K:PySem.W.Frag):Sp:=fun vs H Q _=>∃(p:Addr) (xs:List V) (ss:List (List Str)) (r:Int),vs=[.ref p,.int r]/\(SqL K H p xs\/SqT K H p xs)/\z0b H (ss.map U2) xs/\ss.length≤59/\(∀s∈ss,s.length≤12)/\0≤r/\r≤10/\
 ∀(v:V) (H':Hp),A4 H H'->A9 H' (tsD ss r) v->Q v H'
noncomputable def y0q:Sp:=fun vs H Q _=>∃n r:Int,vs=[.int n,.int r]/\1≤n/\n≤60/\0≤r/\r≤10/\
 ∀(l:Addr) (H':Hp),A4 H H'->H' l=some (.tup (((upI 1 60).filter fun x=>decide (x≤n) && decide (n-x≤r)).map V.int))->Q (.ref l) H'
theorem y2g{n r:Int}(h1:1≤n)(h2:n≤60)(h3:0≤r)(h4:r≤10) :
  V9 (if n-r > 1 then n-r else 1) (n+1-(if n-r > 1 then n-r else 1)).toNat=((upI 1 60).filter fun x=>decide (x≤n) && decide (n-x≤r)).map V.int:=by
 rw[y6n]
 refine congrArg (List.map V.int) (z2P (z2a _ _) ((z2a _ _).filter _) fun x=>?_)
 rw[cM,z1O,z1O,bU,decide_eq_true_eq,decide_eq_true_eq]
 split<;>lia
theorem y2u(M:Bl mg)(F:Fun K "reached_by" "reached_by" z5j f fd):A8 P w K mg base CX0 1 f fd z4Y y0q:=by
 have nd:=z6G.nd
 refine F.ok z6G (fun vs H Q E h=>?_) (fun cdv A outer s H vs Q E hr h=>?_)
 ·obtain⟨n,r,rfl,_⟩:=h
  rfl
 obtain⟨n,r,rfl,h1,h2,h3,h4,q⟩:=h
 refine⟨_,(z05 (z0d (z0v (z8b rfl) rfl M.tuple bT (z00 (z0v y30 rfl M.range PyProof.Rows.boot_range (z00 (z09 (y4b rfl) rfl M.max gL (z00 z06 (z00 (z0e z2J (pv 0) (pv 1)) z02))) (z00 (z0e z1q (pv 0) z06) z02))) z02)))),?_⟩
 refine⟨_,rfl,_,rfl,_,_,rfl,rfl,_,_,rfl,_,rfl,_,_,rfl,rfl,_,_,rfl,fun p hp=>?_⟩
 refine⟨p,_,_,rfl,z03,⟨?_,?_,?_,?_⟩,?_,fun l hl=>?_⟩
 ·split<;>lia
 ·split<;>lia
 ·lia
 ·lia
 ·split<;>lia
 ·refine q l _ ((z01 hp _).trans (z01 hl _)) ?_
  rw[z03,y2g h1 h2 h3 h4]
theorem z7R(hi:Int)(j:Nat):(dnI hi j).Pairwise (· > ·):=by
 unfold dnI
 rw[fF]
 exact List.pairwise_lt_range.imp fun h=>by lia
theorem z7n{n:Int}{j:Nat}{x:Int}:x∈tsN n j↔1≤x/\n-j<x/\x≤n:=by
 unfold tsN
 rw[cM,z97,decide_eq_true_eq]
 lia
theorem y6N(n:Int)(j:Nat):(tsN n j).reverse.Pairwise (· < ·):=by
 rw[fJ]
 exact((z7R n j).filter _).imp fun h=>h
theorem y3v{n r:Int}(h0:0≤n)(h1:n≤59)(r0:0≤r)(r1:r≤10):((upI 1 60).filter fun x=>decide (x≤n+1) && decide (n+1-x≤r))=(tsN n r.toNat).reverse++[n+1]:=by
 refine z2P ((z2a _ _).filter _) (gQ.mpr ⟨y6N _ _,List.pairwise_singleton _ _,fun x hx y hy=>?_⟩) fun x=>?_
 ·rw[fM,z7n] at hx
  rw[bA] at hy
  lia
 ·rw[cM,z1O,bU,decide_eq_true_eq,decide_eq_true_eq,cB,fM,z7n,bA]
  lia
theorem y6H(M:Bl mg)(F:Fun K "tail_for" "tail_for" z7e f fd)(P8:Cal P w K mg base 1 "reached_by" z4Y y0q):A8 P w K mg base CX0 2 f fd z5m (y42 K):=by
 have nd:=z8j.nd
 refine F.ok z8j (fun vs H Q E h=>?_) (fun cdv A outer s H vs Q E hr h=>?_)
 ·obtain⟨p,xs,ss,r,rfl,_⟩:=h
  rfl
 obtain⟨p,xs,ss,r,rfl,hS,tS,l60,l12,r0,r1,k⟩:=h
 refine⟨_,(z04 (z0k (i:=2) nd rfl (Or.inl rfl) (z0e z1q (z09 z07 rfl M.len bD (z00 (pv 0) z02)) z06)) (z04 (z0k (i:=3) nd rfl (Or.inl rfl) (z33 y5v (z0l P8 (rm hr) rfl (z00 (pv 2) (z00 (pv 1) z02))) z58 (z3A (y0B z7S z06)))) (z05 (z0d (z0v z0p rfl M.tuple bT (z00 (z1n ["earlier"] ["sets"] [0] rfl (z0w rfl (by decide +kernel) rfl (by decide +kernel) rfl rfl) (y5H rfl M.reversed (z00 (pv 3) z02)) (fun _ _ _ _ _=>(z0m (i:=0) (show((["earlier"]:List PySem.Str)++(["sets"]:List PySem.Str)).Nodup from by decide +kernel) rfl (Or.inl rfl))) (z0B (by decide)) z0c (fun _ _ _ _ _=>z20) (fun _ _ _ _ _=>(z0X (z00 (pv 0) (z00 (z0v (z88 (K:=K) rfl) rfl M.tuple bT (z00 (z0N (r:=rIx K) y7x (pv 1) (z0e z2J (pv 0) z06) (fun _ _=>rfl)) z02)) z02))))) z02)))))),?_⟩
 have lx:xs.length=ss.length:=by rw[tS.length,b6]
 have lx':(xs.length:Int)=ss.length:=by lia
 refine⟨_,rfl,p,xs,rfl,hS,_,_,rfl,rfl,?_⟩
 refine⟨_,rfl,_,rfl,(xs.length:Int)+1,r,rfl,by lia,by lia,r0,r1,fun l H1 s1 e1=>?_⟩
 rw[lx',y3v (by lia) (by lia) r0 r1] at e1
 have eL:(((tsN ss.length r.toNat).reverse++[(ss.length:Int)+1]).map V.int).length=(tsN ss.length r.toNat).length+1:=by
  rw[b6,bF,eQ]
  rfl
 have sx:HT.sIx (((tsN ss.length r.toNat).reverse++[(ss.length:Int)+1]).map V.int).length (((tsN ss.length r.toNat).reverse++[(ss.length:Int)+1]).map V.int).length (some (-1))=(tsN ss.length r.toNat).length:=by
  rw[eL]
  show(if (-1:Int)<0 then (-1+(((tsN ss.length r.toNat).length+1:Nat):Int)).toNat else min (-1:Int).toNat ((tsN ss.length r.toNat).length+1))=_
  rw[if_pos (by decide)]
  lia
 have cut:S9 (((tsN ss.length r.toNat).reverse++[(ss.length:Int)+1]).map V.int) none (some (-1))=(tsN ss.length r.toNat).reverse.map V.int:=by
  unfold S9
  rw[sx]
  show List.take ((tsN ss.length r.toNat).length-0) (List.drop 0 _)=_
  rw[g0,j9,bI,List.take_left' (by rw[b6,eQ])]
 refine⟨_,rfl,-1,rfl,l,_,rfl,SqT.of e1,?_,fun a ha=>?_⟩
 ·rintro⟨_,z⟩
  rw[sx,eL] at z
  lia
 rw[cut]
 have s2:=s1.trans (z01 ha (.tup ((tsN ss.length r.toNat).reverse.map V.int)))
 have e2:upd H1 a (.tup ((tsN ss.length r.toNat).reverse.map V.int)) a=some (.tup ((tsN ss.length r.toNat).reverse.map V.int)):=z03
 generalize upd H1 a (.tup ((tsN ss.length r.toNat).reverse.map V.int))=H2 at s2 e2
 have le:=y62 ss.length r.toNat
 have lr:((tsN ss.length r.toNat).reverse.map V.int).length=(tsN ss.length r.toNat).length:=by rw[b6,eQ]
 refine⟨_,rfl,a,_,rfl,SqT.of e2,?_⟩
 refine y4S (fun i ys H'=>A4 H2 H'/\z0b H' (((tsN ss.length r.toNat).take i).map (tsP ss)) ys) ⟨A4.refl _,by rw[cT];exact .nil⟩ (fun i ys H' hi hp=>?_) (fun i x ys H' hx hp=>?_) (fun ys H' hp=>?_)
 ·obtain⟨g,t⟩:=hp
  refine⟨SqT.of (g _ _ e2),z0i ?_⟩
  rw[t.length,b6,bM]
  lia
 ·obtain⟨g,t⟩:=hp
  rw[<- List.map_reverse,fN,bL] at hx
  obtain⟨m,hm,rfl⟩:=cS.mp hx
  have hb:=z7n.mp (bZ hm)
  have hk:(m-1).toNat<ss.length:=by lia
  have t2:=z0b.keep (s2.trans g) _ _ tS
  obtain⟨v,ev,tv⟩:=t2.get (m-1).toNat (U2 (ss.getD (m-1).toNat [])) (by
   rw[bL,bV,bH hk]
   rfl)
  have av:atI xs (m-1)=some v:=by
   have e:m-1=(((m-1).toNat:Nat):Int):=by lia
   rw[e]
   exact z15 ev
  obtain⟨b,us,rfl,eb,_,_⟩:=z0q tv
  refine⟨_,rfl,_,rfl,_,rfl,_,_,rfl,rfl,?_⟩
  have go:∀(z:A9 H' (U2 (ss.getD (m-1).toNat [])) (.ref b)),y5C K [.ref b] H' fun x H3=>[V.int m,x].length≤sizeLine/\∀q,H3 q=none->A4 H2 (upd H3 q (.tup [.int m,x]))/\z0b (upd H3 q (.tup [.int m,x])) (((tsN ss.length r.toNat).take (i+1)).map (tsP ss)) (ys++[.ref q]):=fun z=>
   ⟨b,us,rfl,.inr ⟨SqT.of eb,by show 2≤sizeLine;decide,fun q hq=>⟨g.trans (z01 hq _),by
    rw[dH,hm,bI]
    exact z0b.snoc (z0b.keep (z01 hq _) _ _ t) (z0o z03 (by show 2≤1000000;decide) (.cons (z0D _) (.cons (A9.keep (z01 hq _) _ _ z) .nil)))⟩⟩⟩
  rcases hS with hS|hS
  ·exact .inl ⟨p,xs,_,.ref b,rfl,rfl,(s2.trans g).seq hS,av,go tv⟩
  ·exact .inr (.inl ⟨p,xs,_,.ref b,rfl,rfl,z5V (s2.trans g) hS,av,go tv⟩)
 ·obtain⟨g,t⟩:=hp
  rw[lr,bW] at t
  intro D hD
  refine⟨D,ys,rfl,.inl ⟨SqL.of z03,fun q hq=>k _ _ (s2.trans (g.trans ((z01 hD _).trans (z01 hq _)))) (z0o z03 ?_ (z0b.keep ((z01 hD _).trans (z01 hq _)) _ _ t))⟩⟩
  rw[b6]
  lia
noncomputable def kvR(p:Str×Int):Key×V:=(Sum.inr p.1,.int p.2)
noncomputable def y2e(K:PySem.W.Frag):Sp:=fun vs H Q _=>∃(p:Addr) (zs:List Str) (z:Str),vs=[.ref p,.str z]/\SqN K H p zs/\z∈zs/\Q .non H
theorem z4v(x:Str)(ns:List Str):inV (.str x) (ns.map V.str)=decide (x∈ns):=by
 unfold inV
 rw[d8,fV,gJ,decide_eq_true_eq]
 constructor
 ·rintro⟨y,hy,e⟩
  have:y=x:=by simpa [eqV] using e
  exact this ▸ hy
 ·intro h
  exact⟨x,h,by simp[eqV]⟩
theorem y5B(M:Bl mg)(F:Fun K "refuse_unknown_name" "refuse_unknown_name" z1l f fd):A8 P w K mg base CX0 1 f fd z0M (y2e K):=by
 have nd:=z1h.nd
 refine F.ok z1h (fun vs H Q E h=>?_) (fun cdv A outer s H vs Q E hr h=>?_)
 ·obtain⟨p,zs,z,rfl,_⟩:=h
  rfl
 obtain⟨p,zs,z,rfl,hp,hz,k⟩:=h
 refine⟨_,(z05 (z0H (z0a z1H (pv 1) (pv 0) (by with_unfolding_all rfl)) (z05 z1y) z0j)),?_⟩
 refine⟨_,rfl,_,rfl,p,_,rfl,hp,rfl,z2B zs,_,rfl,?_⟩
 rw[if_pos rfl,z4v,decide_eq_true hz]
 exact B6 (fun c=>absurd c (by decide)) fun _=>k
noncomputable def z5D:Sp:=fun vs H Q _=>∃v:Int,vs=[.int v]/\0≤v/\v≤1000000/\Q .non H
theorem y09(M:Bl mg)(F:Fun K "refuse_bad_value" "refuse_bad_value" z1K f fd):A8 P w K mg base CX0 1 f fd z11 z5D:=by
 have nd:=z1x.nd
 refine F.ok z1x (fun vs H Q E h=>?_) (fun cdv A outer s H vs Q E hr h=>?_)
 ·obtain⟨r,rfl,_⟩:=h
  rfl
 obtain⟨r,rfl,r0,r1,k⟩:=h
 refine⟨_,(z05 (z0H (PW.pt (z3n (z0a z43 (pv 0) z06 (z0h _)) (z22 (z0a z1N (pv 0) (z1c rfl M.MOST_VALUE) (z0h _))))) (z05 z1y) z0j)),?_⟩
 refine⟨_,rfl,_,_,rfl,rfl,_,rfl,B6 (fun q=>absurd (z0Q q) (by lia)) fun _=>?_⟩
 exact⟨_,rfl,_,_,rfl,rfl,_,rfl,B6 (fun q=>absurd (z0Q q) (by lia)) fun _=>k⟩
noncomputable def z1A(K:PySem.W.Frag)(H:Hp)(u:V)(p:Str×Int):Prop:=∃a,u=.ref a/\(SqL K H a [.str p.1,.int p.2]\/SqT K H a [.str p.1,.int p.2])
theorem z1A.keep{K:PySem.W.Frag}{H H':Hp}(s:A4 H H'):∀{us:List V}{pr:Row},Paired (z1A K H) us pr->Paired (z1A K H') us pr
 | _,_,.nil=>.nil
 | _,_,.cons ⟨a,e,h⟩ t=>.cons ⟨a,e,h.imp (fun q=>s.seq q) fun q=>z5V s q⟩ (z1A.keep s t)
theorem z1A.at{K:PySem.W.Frag}{H:Hp}:∀{us:List V}{pr:Row},Paired (z1A K H) us pr->∀(i:Nat) (x:V),us[i]? = some x->∃p,pr[i]? = some p/\z1A K H x p
 | _,_,.nil,i,x,e=>by simp at e
 | _,_,.cons r t,0,x,e=>by
  simp at e
  subst e
  exact⟨_,rfl,r⟩
 | _,_,.cons r t,i+1,x,e=>by
  obtain⟨y,h1,h2⟩:=z1A.at t i x (by simpa using e)
  exact⟨y,by simpa using h1,h2⟩
theorem z1A.pairs{K:PySem.W.Frag}{H:Hp}:∀{us:List V}{pr:Row},Paired (z1A K H) us pr->Paired (y3T K H) us (pr.map kvR)
 | _,_,.nil=>.nil
 | _,_,.cons ⟨a,e,h⟩ t=>.cons ⟨a,e,h⟩ (z1A.pairs t)
theorem z1A.of{K:PySem.W.Frag}{H:Hp}{fp:List Addr}:∀{us:List V}{pr:Row},Paired (z95 K H fp) us pr->Paired (z1A K H) us pr
 | _,_,.nil=>.nil
 | _,_,.cons ⟨a,e,h,_⟩ t=>.cons ⟨a,e,h⟩ (z1A.of t)
theorem SqP.or{K:PySem.W.Frag}{H:Hp}{a:Addr}{us:List V}(h:SqP K H a us):SqL K H a us\/SqT K H a us:=h.imp id SqT.of
theorem SqP.keep{K:PySem.W.Frag}{H H':Hp}{a:Addr}{us:List V}(s:A4 H H')(h:SqP K H a us):SqP K H' a us:=h.imp (fun q=>s.seq q) fun q=>s _ _ q
noncomputable def z4g(K:PySem.W.Frag):Sp:=fun vs H Q _=>∃(pn a:Addr) (zs:List Str) (us:List V) (pr:Row),vs=[.ref pn,.ref a]/\SqN K H pn zs/\SqP K H a us/\Paired (z1A K H) us pr/\GoodR zs pr/\pr.length≤12/\∀H',A4 H H'->Q .non H'
theorem z8C(M:Bl mg)(F:Fun K "refuse_bad_rows" "refuse_bad_rows" z1U f fd)(B3:Cal P w K mg base 1 "refuse_unknown_name" z0M (y2e K))
  (C5:Cal P w K mg base 1 "refuse_bad_value" z11 z5D):A8 P w K mg base CX0 2 f fd z1d (z4g K):=by
 have nd:=z1J.nd
 refine F.ok z1J (fun vs H Q E h=>?_) (fun cdv A outer s H vs Q E hr h=>?_)
 ·obtain⟨pn,a,zs,us,pr,rfl,_⟩:=h
  rfl
 obtain⟨pn,a,zs,us,pr,rfl,hn,ha,hp,g,l12,k⟩:=h
 refine⟨_,(z04 (z4s (i:=2) ["name","value"] [] [] rfl nd rfl (Or.inl rfl) (z0w rfl (by decide +kernel) rfl (by decide +kernel) rfl rfl) (z9G (pv 1)) (fun _ _ _ _ _=>(z9z (K:=K) (n:=2) rfl rfl (z1g (z0m (i:=0) (show((["name","value"]:List PySem.Str)++([]:List PySem.Str)).Nodup from by decide +kernel) rfl (Or.inl rfl)) (z1g (z0m (i:=1) (show((["name","value"]:List PySem.Str)++([]:List PySem.Str)).Nodup from by decide +kernel) rfl (Or.inl rfl)) z4t)))) (y2L (z1L (z0B (by decide)) z0c (z1L (z0B (by decide)) z0c z6l z0Z) (z0O z0c z0Z))) (y1h (z0O z0c (z0O z0c z0Z))) (fun _ _ _ _ _=>z20) (fun _ _ _ _ _=>(pv 0))) (z04 (z1z cG rfl (z1r (pv 2)) (z0m (i:=3) nd rfl (Or.inl rfl)) (z05 (z0x (z0l B3 (rm hr) rfl (z00 (pv 0) (z00 (pv 3) z02)))))) (z04 (z0H (z0a z86 (z09 z3F rfl M.len bD (z00 (z0v (z3o rfl) rfl M.set gN (z00 (pv 2) z02)) z02)) (z09 z07 rfl M.len bD (z00 (pv 2) z02)) (z0h _)) (z05 z1y) z0j) (z05 (z1z cG rfl (z9G (pv 1)) (z9z (K:=K) (n:=2) rfl rfl (z1g (z0m (i:=3) nd rfl (Or.inl rfl)) (z1g (z0m (i:=4) nd rfl (Or.inl rfl)) z4t))) (z05 (z0x (z0l C5 (rm hr) rfl (z00 (pv 4) z02))))))))),?_⟩
 obtain⟨t,ht⟩:=SqS.of (SqP.or ha)
 have lu:us.length=pr.length:=hp.length
 refine⟨_,rfl,a,t,rfl,⟨_,ht⟩,?_⟩
 refine z9p (xs:=us) (fun i ys H'=>H'=H/\ys=((pr.take i).map Prod.fst).map V.str) ⟨rfl,rfl⟩ (fun i ys H' hi hq=>?_) (fun i x ys H' hx hq=>?_) (fun ys H' hq=>?_)
 ·obtain⟨rfl,rfl⟩:=hq
  refine⟨ht,z0i ?_⟩
  rw[b6,b6,bM]
  lia
 ·obtain⟨rfl,rfl⟩:=hq
  obtain⟨p,ep,b,rfl,hb⟩:=z1A.at hp i x hx
  refine⟨b,_,rfl,hb,rfl,_,_,rfl,_,_,rfl,rfl,?_⟩
  refine⟨_,rfl,rfl,?_⟩
  rw[z0C ep,bI,bI]
  rfl
 obtain⟨rfl,rfl⟩:=hq
 rw[lu,bW]
 intro D hD
 have s1:=z01 hD (.lst ((pr.map Prod.fst).map V.str))
 have e1:upd H' D (.lst ((pr.map Prod.fst).map V.str)) D=some (.lst ((pr.map Prod.fst).map V.str)):=z03
 generalize upd H' D (.lst ((pr.map Prod.fst).map V.str))=H1 at s1 e1
 have hn1:=SqN.keep s1 hn
 have ht1:=SqS.keep s1 ht
 have hp1:=z1A.keep s1 hp
 refine⟨_,rfl,D,rfl,⟨_,SqL.of e1⟩,z2u (K:=K) (a:=D) (xs:=(pr.map Prod.fst).map V.str) (fun i σ H2=>∃o:Option V,H2=H1/\σ=[some (.ref pn),some (.ref a),some (.ref D),o,none]) ⟨none,rfl,rfl⟩ (fun i σ H2 _ ⟨_,e,_⟩=>e ▸ SqL.of e1) (fun i x σ H2 hx hq=>?_) (fun σ H2 hq=>?_)⟩
 ·obtain⟨o,rfl,rfl⟩:=hq
  rw[bL] at hx
  obtain⟨z,ez,rfl⟩:=cS.mp hx
  have hz:z∈zs:=by
   obtain⟨p,hpm,rfl⟩:=cF.mp (bZ ez)
   exact g.sub p hpm
  exact⟨_,rfl,_,rfl,pn,zs,z,rfl,hn1,hz,_,rfl,rfl⟩
 obtain⟨o,rfl,rfl⟩:=hq
 have lf:(pr.map Prod.fst).length=pr.length:=b6 _
 refine⟨_,rfl,D,pr.map Prod.fst,rfl,.inl (SqL.of e1),by lia,fun l hl=>⟨l,pr.map Prod.fst,rfl,z03,by lia,_,rfl,D,_,rfl,.inl (SqL.of (z01 hl _ _ _ e1)),rfl,_,rfl,?_⟩⟩
 refine y4N (by rw[y0U g.nd,b6 (f:=V.str)]) ?_
 have s2:=s1.trans (z01 hl (R5 P w l (pr.map Prod.fst)))
 have ht2:=SqS.keep (z01 hl (R5 P w l (pr.map Prod.fst))) ht1
 have hp2:=z1A.keep (z01 hl (R5 P w l (pr.map Prod.fst))) hp1
 refine⟨_,rfl,a,t,rfl,⟨_,ht2⟩,?_⟩
 refine y2M (xs:=us) (fun i σ H3=>∃o1 o2:Option V,H3=upd H2 l (R5 P w l (pr.map Prod.fst))/\σ=[some (.ref pn),some (.ref a),some (.ref D),o1,o2]) ⟨_,_,rfl,rfl⟩ (fun i σ H3 _ ⟨_,_,e,_⟩=>e ▸ ht2) (fun i x σ H3 hx hq=>?_) (fun σ H3 hq=>?_)
 ·obtain⟨o1,o2,rfl,rfl⟩:=hq
  obtain⟨p,ep,b,rfl,hb⟩:=z1A.at hp2 i x hx
  have hv:=g.val p (bZ ep)
  refine⟨b,_,rfl,hb,rfl,_,_,rfl,_,_,rfl,rfl,?_⟩
  exact⟨_,rfl,p.2,rfl,hv.1,hv.2,_,_,rfl,rfl⟩
 ·obtain⟨o1,o2,rfl,rfl⟩:=hq
  exact k _ s2
noncomputable def z7w(K:PySem.W.Frag):Sp:=fun vs H Q _=>∃(pn a:Addr) (zs:List Str) (us:List V) (pr:Row),vs=[.ref pn,.ref a]/\SqN K H pn zs/\zs.length≤12/\SqP K H a us/\Paired (z1A K H) us pr/\(pr.map Prod.fst).Nodup/\pr.length≤12/\∀(v:V) (H':Hp),A4 H H'->A9 H' (O4 (z1p zs pr)) v->Q v H'
theorem z9d{z:Str}:∀{pr:Row},M8 (pr.map kvR) (Sum.inr z:Key)=(pr.find? fun p=>decide (p.1=z)).map fun p=>V.int p.2
 | []=>rfl
 | p::w=>by
  rw[cP,dB]
  by_cases e:p.1=z
  ·rw[z5I (show(kvR p).1=Sum.inr z by unfold kvR;rw[e]),decide_eq_true e]
   rfl
  ·rw[z5M (show ¬(kvR p).1=Sum.inr z from fun q=>e (Sum.inr.inj q)),decide_eq_false e]
   exact z9d
theorem z9S(zs:List Str)(z:Str)(pr:Row):z1p (zs++[z]) pr=z1p zs pr++(match pr.find? fun p=>decide (p.1=z) with|some p=>[p]|none=>[]):=by
 unfold z1p
 rw[List.filterMap_append,eJ]
 cases pr.find? fun p=>decide (p.1=z)<;>rfl
theorem z56(zs:List Str)(pr:Row):(z1p zs pr).length≤zs.length:=List.length_filterMap_le _ _
theorem y2k(M:Bl mg)(F:Fun K "rows_in_order" "rows_in_order" z3d f fd):A8 P w K mg base CX0 1 f fd z2p (z7w K):=by
 have nd:=z4o.nd
 refine F.ok z4o (fun vs H Q E h=>?_) (fun cdv A outer s H vs Q E hr h=>?_)
 ·obtain⟨pn,a,zs,us,pr,rfl,_⟩:=h
  rfl
 obtain⟨pn,a,zs,us,pr,rfl,hn,z12,ha,hp,ndr,l12,k⟩:=h
 have hu:=z9U hr
 refine⟨_,(z04 (z0k (i:=2) nd rfl (Or.inr rfl) (z0v (z4x (K:=K) rfl rfl) rfl M.dict gI (z00 (pv 1) z02))) (z05 (z0d (z0v z0p rfl M.tuple bT (z00 (z1n ["name"] ["values"] [2] rfl (z0w rfl (by decide +kernel) rfl (by decide +kernel) rfl rfl) (z9G (pv 0)) (fun _ _ _ _ _=>(z0m (i:=0) (show((["name"]:List PySem.Str)++(["values"]:List PySem.Str)).Nodup from by decide +kernel) rfl (Or.inl rfl))) (z0B (by decide)) z0c (fun _ _ _ _ _=>(z2m (y1r (y4i hu (pv 0) (pv 1))))) (fun _ _ _ _ _=>(z0X (z00 (pv 0) (z00 (z78 hu (pv 1) (pv 0) (fun _ _=>rfl)) z02))))) z02))))),?_⟩
 have lu:us.length=pr.length:=hp.length
 refine⟨_,rfl,a,us,pr.map kvR,rfl,ha,z1A.pairs hp,by lia,?_,fun d hd=>?_⟩
 ·have e:(pr.map kvR).map (·.1)=(pr.map Prod.fst).map Sum.inr:=by rw[eI,eI];rfl
  rw[e,cX,fF]
  exact(cX.mp ndr).imp fun h e=>h (Sum.inr.inj e)
 have s1:=z01 hd (.dK (pr.map kvR))
 have e1:upd H d (.dK (pr.map kvR)) d=some (.dK (pr.map kvR)):=z03
 generalize upd H d (.dK (pr.map kvR))=H1 at s1 e1
 obtain⟨t,ht⟩:=SqS.of (SqN.keep s1 hn)
 refine⟨_,rfl,pn,t,rfl,⟨_,ht⟩,?_⟩
 refine z9p (xs:=zs.map V.str) (fun i ys H'=>A4 H1 H'/\z0b H' ((z1p (zs.take i) pr).map z9c) ys) ⟨A4.refl _,by rw[cT];exact .nil⟩ (fun i ys H' hi hq=>?_) (fun i x ys H' hx hq=>?_) (fun ys H' hq=>?_)
 ·obtain⟨g,t'⟩:=hq
  refine⟨SqS.keep g ht,z0i ?_⟩
  have:=z56 (zs.take i) pr
  rw[bM] at this
  rw[t'.length,b6]
  lia
 ·obtain⟨g,t'⟩:=hq
  rw[bL] at hx
  obtain⟨z,ez,rfl⟩:=cS.mp hx
  refine⟨_,rfl,_,rfl,d,_,rfl,Q6.k (k:=Sum.inr z) (g _ _ e1),_,rfl,?_⟩
  rw[z9d,z0C ez,z9S]
  cases ev:pr.find? fun p=>decide (p.1=z) with
  | none=>
   refine C8 ⟨g,?_⟩
   rw[cR]
   exact t'
  | some p=>
   have ep:p.1=z:=by
    have:=List.find?_some ev
    exact of_decide_eq_true this
   refine J5 ⟨_,rfl,_,rfl,_,rfl,d,_,rfl,(show Q6 _ d (kV (Sum.inr z)) (some (V.int p.2)) by rw[<- show M8 (pr.map kvR) (Sum.inr z:Key)=some (V.int p.2) by rw[z9d,ev];rfl];exact Q6.k (g _ _ e1)),(by show 2≤sizeLine;decide),fun q hq=>⟨g.trans (z01 hq _),?_⟩⟩
   rw[bI]
   refine z0b.snoc (z0b.keep (z01 hq _) _ _ t') ?_
   rw[<- ep]
   exact z0o z03 (by show 2≤1000000;decide) (.cons (z0E _) (.cons (z0D _) .nil))
 ·obtain⟨g,t'⟩:=hq
  rw[b6,bW] at t'
  intro D hD
  refine⟨D,ys,rfl,.inl ⟨SqL.of z03,fun q hq=>k _ _ (s1.trans (g.trans ((z01 hD _).trans (z01 hq _)))) (z0o z03 ?_ (z0b.keep ((z01 hD _).trans (z01 hq _)) _ _ t'))⟩⟩
  have:=z56 zs pr
  rw[b6]
  lia
noncomputable def y1d:Sp:=fun vs H Q _=>∃(a:Addr) (xs:List V) (w:Row),vs=[.ref a]/\H a=some (.tup xs)/\z0b H (w.map z9c) xs/\w.length≤12/\∀(l:Addr) (H':Hp),A4 H H'->H' l=some (.tup ((z23 w).map V.str))->Q (.ref l) H'
theorem y5f(M:Bl mg)(F:Fun K "names_of_rows" "names_of_rows" z3m f fd):A8 P w K mg base CX0 1 f fd z2t y1d:=by
 have nd:=z4p.nd
 refine F.ok z4p (fun vs H Q E h=>?_) (fun cdv A outer s H vs Q E hr h=>?_)
 ·obtain⟨a,xs,w,rfl,_⟩:=h
  rfl
 obtain⟨a,xs,w,rfl,ha,tw,l12,k⟩:=h
 refine⟨_,(z05 (z0d (z0v z0p rfl M.tuple bT (z00 (z1n ["name","value"] [] [] rfl (z0w rfl (by decide +kernel) rfl (by decide +kernel) rfl rfl) (z3W (pv 0)) (fun _ _ _ _ _=>(z90 (K:=K) (n:=2) rfl rfl (z1g (z0m (i:=0) (show((["name","value"]:List PySem.Str)++([]:List PySem.Str)).Nodup from by decide +kernel) rfl (Or.inl rfl)) (z1g (z0m (i:=1) (show((["name","value"]:List PySem.Str)++([]:List PySem.Str)).Nodup from by decide +kernel) rfl (Or.inl rfl)) z4t)))) (z8Y (z1L (z0B (by decide)) z0c (z1L (z0B (by decide)) z0c z6l z0Z) (z0O z0c z0Z))) (z72 (z0O z0c (z0O z0c z0Z))) (fun _ _ _ _ _=>z20) (fun _ _ _ _ _=>(pv 0))) z02)))),?_⟩
 have lx:xs.length=w.length:=by rw[tw.length,b6]
 refine⟨_,rfl,a,rfl,⟨_,SqT.of ha⟩,?_⟩
 refine z27 (xs:=xs) (fun i ys H'=>H'=H/\ys=(z23 (w.take i)).map V.str) ⟨rfl,rfl⟩ (fun i ys H' hi hq=>?_) (fun i x ys H' hx hq=>?_) (fun ys H' hq=>?_)
 ·obtain⟨rfl,rfl⟩:=hq
  refine⟨SqT.of ha,z0i ?_⟩
  unfold z23
  rw[b6,b6,bM]
  lia
 ·obtain⟨rfl,rfl⟩:=hq
  obtain⟨p,b,ep,rfl,hb⟩:=z2U tw i x hx
  refine⟨b,_,rfl,SqT.of hb,rfl,_,_,rfl,_,_,rfl,rfl,?_⟩
  refine⟨_,rfl,rfl,?_⟩
  unfold z23
  rw[z0C ep,bI,bI]
  rfl
 ·obtain⟨rfl,rfl⟩:=hq
  rw[lx,bW]
  intro D hD
  exact⟨D,_,rfl,.inl ⟨SqL.of z03,fun q hq=>k q _ ((z01 hD _).trans (z01 hq _)) z03⟩⟩
noncomputable def OfD(K:PySem.W.Frag)(C:Addr):OfP:=fun H p fp zs r rows=>∃(dx pn pl:Addr) (fs:List (Str×V)) (xs:List V),fp=[p,dx,pl]/\H p=some (.ins C dx fs)/\H dx=some (.own p)/\H pn=some (.tup (zs.map V.str))/\H pl=some (.lst xs)/\
 fs.lookup ("names":Str)=some (V.ref pn)/\fs.lookup ("reach":Str)=some (V.int r)/\fs.lookup ("written":Str)=some (V.ref pl)/\(∀m∈(["refuse_writing","write","latest","issue"]:List Str),fs.lookup m=none)/\
 z0b H ((upI 1 rows.length).map fun n=>z18 rows n r) xs/\rows.length≤60/\(∀w∈rows,w.length≤12)/\J8 zs/\0≤r/\r≤10
theorem T3{K:PySem.W.Frag}{C:Addr}:w01 C ["write","latest","issue"] (OfD K C):=by
 refine⟨fun h=>?_,fun h b hb=>?_,fun h s out nt=>?_⟩
 ·obtain⟨dx,pn,pl,fs,xs,e,h1,h2,h3,h4,l1,l2,l3,lm,_⟩:=h
  refine⟨dx,fs,h1,fun m hm=>lm m ?_⟩
  simp only[bC,dM,or_false] at hm ⊢
  rcases hm with h|h|h<;>simp[h]
 ·obtain⟨dx,pn,pl,fs,xs,rfl,h1,h2,h3,h4,_⟩:=h
  rcases bC.mp hb with rfl|hb
  ·exact⟨_,h1,fun xs z=>by cases z⟩
  rcases bC.mp hb with rfl|hb
  ·exact⟨_,h2,fun xs z=>by cases z⟩
  rw[bA.mp hb]
  exact⟨_,h4,fun xs z=>by cases z⟩
 ·obtain⟨dx,pn,pl,fs,xs,rfl,h1,h2,h3,h4,l1,l2,l3,lm,tl,g⟩:=h
  exact⟨dx,pn,pl,fs,xs,rfl,s _ _ h1 (fun m=>out _ m (by simp)),s _ _ h2 (fun m=>out _ m (by simp)),s _ _ h3 (fun m=>nt _ m _ h3),s _ _ h4 (fun m=>out _ m (by simp)),l1,l2,l3,lm,z0b.but s nt _ _ tl,g⟩
theorem y2I{A0:Addr}(M:Bl mg)(T:F5 K mg A0)(F:Fun K "__init__" "Office.__init__" z2F f fd)(D6:Cal P w K mg base 2 "bulletin_names" z29 (z6j K)) :
  A8 P w K mg base CX0 3 f fd z2E (y1L K A0 (OfD K A0)):=by
 have nd:=z3u.nd
 refine F.ok z3u (fun vs H Q E h=>?_) (fun cdv A outer s H vs Q E hr h=>?_)
 ·obtain⟨x,dx,pn,zs,r,rfl,_⟩:=h
  rfl
 obtain⟨x,dx,pn,zs,r,rfl,hx,ne,hdx,hn,g,r0,r1,k⟩:=h
 refine⟨_,(z04 (z5J (pv 0) (z0l D6 (rm hr) rfl (z00 (pv 1) (z00 (pv 2) z02))) rfl) (z04 (z5J (pv 0) (pv 2) rfl) (z05 (z5J (pv 0) (z0T z02) rfl)))),?_⟩
 refine⟨_,rfl,_,rfl,pn,zs,r,rfl,hn,g,r0,r1,fun l H1 s1 e1=>?_⟩
 refine⟨_,rfl,x,A0,dx,[],rfl,s1 _ _ hx,T.cl,T.n_names,by decide,?_⟩
 have z1:=z1C "names" (.ref l) []
 have z2:=z1C "reach" (.int r) (L5 "names" (.ref l) [])
 have z0:([]:List (Str×V)).length=0:=rfl
 refine⟨_,rfl,_,rfl,x,A0,dx,_,rfl,z03,T.cl,T.n_reach,(by lia),?_⟩
 rw[z82]
 refine⟨(by show 0≤sizeLine;decide),fun pd hd=>?_⟩
 have nx:x≠pd:=z0r z03 hd
 have ndd:dx≠pd:=z0r (show upd H1 x _ dx=some _ by rw[z0f ne];exact s1 _ _ hdx) hd
 have nl:l≠x:=z6U e1 (s1 _ _ hx) (fun z=>by cases z)
 have nlp:l≠pd:=z0r (show upd H1 x _ l=some _ by rw[z0f nl];exact e1) hd
 have dfr:H1 pd=none:=by rw[z0f (cU nx)] at hd;exact hd
 refine⟨_,rfl,x,A0,dx,_,rfl,(by rw[z0f nx,z03]),T.cl,T.n_written,(by lia),?_⟩
 refine k [x,dx,pd] _ (fun b hb=>?_) (fun b o e nb=>?_) ⟨dx,l,pd,_,[],rfl,z03,?_,?_,?_,?_,?_,?_,?_,.nil,by decide,fun _ q=>(nomatch q),g,r0,r1⟩
 ·simp only[bC,dM,or_false] at hb
  rcases hb with rfl|rfl|rfl
  ·exact .inl rfl
  ·exact .inr (.inl rfl)
  ·exact .inr (.inr (s1.free dfr))
 ·rw[bA] at nb
  rw[z0f nb,z0f (z0r e (s1.free dfr)),z0f nb]
  exact s1 _ _ e
 ·rw[z0f ne,z0f ndd,z0f ne]
  exact s1 _ _ hdx
 ·rw[z0f nl,z0f nlp,z0f nl]
  exact e1
 ·rw[z0f (cU nx),z03]
 ·rw[z0n,if_neg (by decide +kernel),z0n,if_neg (by decide +kernel),z0n,if_pos rfl]
 ·rw[z0n,if_neg (by decide +kernel),z0n,if_pos rfl]
 ·rw[z0n,if_pos rfl]
 ·intro m hm
  simp only[bC,dM,or_false] at hm
  rcases hm with rfl|rfl|rfl|rfl<;>rw[z0n,if_neg (by decide +kernel),z0n,if_neg (by decide +kernel),z0n,if_neg (by decide +kernel)]<;>rfl
theorem y0R{A0:Addr}(M:Bl mg)(T:F5 K mg A0)(F:Fun K "latest" "Office.latest" z3l f fd):A8 P w K mg base CX0 1 f fd z3e (z8i (OfD K A0)):=by
 have nd:=z48.nd
 refine F.ok z48 (fun vs H Q E h=>?_) (fun cdv A outer s H vs Q E hr h=>?_)
 ·obtain⟨p,fp,zs,r,rows,rfl,_⟩:=h
  rfl
 obtain⟨p,fp,zs,r,rows,rfl,of,k⟩:=h
 refine⟨_,(z05 (z0d (z09 z07 rfl M.len bD (z00 (z0A (pv 0) rfl) z02)))),?_⟩
 obtain⟨dx,pn,pl,fs,xs,rfl,h1,h2,h3,h4,l1,l2,l3,lm,tl,r60,w12,g,r0,r1⟩:=of
 have lx:xs.length=rows.length:=by rw[tl.length,b6,z13]
 refine⟨_,rfl,p,A0,dx,fs,_,rfl,h1,T.cl,T.n_written,l3,pl,xs,rfl,.inl (SqL.of h4),?_⟩
 rw[lx]
 exact k H (A4.refl _)
theorem z8t{A0:Addr}(M:Bl mg)(T:F5 K mg A0)(F:Fun K "issue" "Office.issue" z2N f fd):A8 P w K mg base CX0 1 f fd z0U (z25 (OfD K A0)):=by
 have nd:=z2r.nd
 refine F.ok z2r (fun vs H Q E h=>?_) (fun cdv A outer s H vs Q E hr h=>?_)
 ·obtain⟨p,fp,zs,r,rows,n,rfl,_⟩:=h
  rfl
 obtain⟨p,fp,zs,r,rows,n,rfl,of,n1,n2,k⟩:=h
 refine⟨_,(z04 (z0H (PW.pt (z3n (z0a z43 (pv 1) z06 (z0h _)) (z22 (z0a z1N (pv 1) (z09 z07 rfl M.len bD (z00 (z0A (pv 0) rfl) z02)) (z0h _))))) (z05 z1y) z0j) (z05 (z0d (z0N z0L (z0A (pv 0) rfl) (z0e z2J (pv 1) z06) (fun _ _=>rfl))))),?_⟩
 obtain⟨dx,pn,pl,fs,xs,rfl,h1,h2,h3,h4,l1,l2,l3,lm,tl,r60,w12,g,r0,r1⟩:=of
 have lx:xs.length=rows.length:=by rw[tl.length,b6,z13]
 refine⟨_,rfl,_,_,rfl,rfl,_,rfl,B6 (fun q=>absurd (z0Q q) (by lia)) fun _=>?_⟩
 refine⟨_,rfl,_,rfl,p,A0,dx,fs,_,rfl,h1,T.cl,T.n_written,l3,pl,xs,rfl,.inl (SqL.of h4),_,_,rfl,rfl,_,rfl,B6 (fun q=>absurd (z0Q q) (by lia)) fun _=>?_⟩
 have hk:(n-1).toNat<rows.length:=by lia
 obtain⟨v,ev,tv⟩:=tl.get (n-1).toNat (z18 rows n r) (by
  unfold upI
  rw[bL,bL,List.getElem?_range hk]
  show some (z18 rows (1+((n-1).toNat:Int)) r)=_
  rw[show(1:Int)+((n-1).toNat:Int)=n by lia])
 have av:atI xs (n-1)=some v:=by
  rw[show n-1=(((n-1).toNat:Nat):Int) by lia]
  exact z15 ev
 exact⟨_,rfl,p,A0,dx,fs,_,rfl,h1,T.cl,T.n_written,l3,_,rfl,_,_,rfl,rfl,pl,xs,_,v,rfl,rfl,SqL.of h4,av,k v H (A4.refl _) tv⟩
noncomputable def z2v(K:PySem.W.Frag)(Of:OfP):Sp:=fun vs H Q _=>∃(p a:Addr) (fp:List Addr) (zs:List Str) (r:Int) (rows:List Row) (us:List V) (pr:Row),vs=[.ref p,.ref a]/\Of H p fp zs r rows/\SqP K H a us/\Paired (z1A K H) us pr/\GoodR zs pr/\pr.length≤12/\rows.length<60/\∀H',A4 H H'->Q .non H'
theorem z8B{A0:Addr}(M:Bl mg)(T:F5 K mg A0)(F:Fun K "refuse_writing" "Office.refuse_writing" z17 f fd)(C9:Cal P w K mg base 2 "refuse_bad_rows" z1d (z4g K)) :
  A8 P w K mg base CX0 3 f fd z0z (z2v K (OfD K A0)):=by
 have nd:=z10.nd
 refine F.ok z10 (fun vs H Q E h=>?_) (fun cdv A outer s H vs Q E hr h=>?_)
 ·obtain⟨p,a,fp,zs,r,rows,us,pr,rfl,_⟩:=h
  rfl
 obtain⟨p,a,fp,zs,r,rows,us,pr,rfl,of,ha,hp,g',l12,l60,k⟩:=h
 refine⟨_,(z04 (z0H (z0a y3F (z09 z07 rfl M.len bD (z00 (z0A (pv 0) rfl) z02)) (z1c rfl M.MOST_NUMBERS) (z0h _)) (z05 z1y) z0j) (z05 (z0x (z0l C9 (rm hr) rfl (z00 (z0A (pv 0) rfl) (z00 (pv 1) z02)))))),?_⟩
 obtain⟨dx,pn,pl,fs,xs,rfl,h1,h2,h3,h4,l1,l2,l3,lm,tl,r60,w12,g,r0,r1⟩:=of
 have lx:xs.length=rows.length:=by rw[tl.length,b6,z13]
 refine⟨_,rfl,p,A0,dx,fs,_,rfl,h1,T.cl,T.n_written,l3,pl,xs,rfl,.inl (SqL.of h4),_,_,rfl,rfl,_,rfl,B6 (fun q=>absurd (z0Q q) (by lia)) fun _=>?_⟩
 exact⟨_,rfl,p,A0,dx,fs,_,rfl,h1,T.cl,T.n_names,l1,_,rfl,pn,a,zs,us,pr,rfl,.inr (SqT.of h3),ha,hp,g',l12,fun H' s=>k H' s⟩
theorem y0G(rows:List Row)(x:Row){n r:Int}(n1:1≤n)(n2:n≤rows.length):z18 (rows++[x]) n r=z18 rows n r:=by
 have e:=y0y (rows:=rows++[x]) (j:=rows.length) (r:=r) n1 n2
 rw[List.take_left] at e
 exact e.symm
theorem y3t(m:Nat)(r:Int)(r0:0≤r):z6t ((m:Int)+1) r=tsN m r.toNat:=by
 have w2e:∀{l1 l2:List Int},l1.Pairwise (· > ·)->l2.Pairwise (· > ·)->(∀x,x∈l1↔x∈l2)->l1=l2:=fun {l1 l2} p1 p2 h=>by
  have e:=z2P (l1:=l1.reverse) (l2:=l2.reverse) (fJ.mpr p1) (fJ.mpr p2) fun x=>by rw[fM,fM];exact h x
  have e2:=congrArg List.reverse e
  rw[fN,fN] at e2
  exact e2
 refine w2e ((z7R _ _).filter _) ((z7R _ _).filter _) fun x=>?_
 rw[z7n]
 unfold z6t
 rw[cM,z97,decide_eq_true_eq]
 lia
theorem y3R(rows:List Row)(x:Row)(r:Int)(r0:0≤r):y56 (rows++[x]) ((rows.length:Int)+1) r=tsD (rows.map z23) r:=by
 unfold y56 tsD
 rw[y3t _ _ r0,b6]
 congr 1
 refine gX fun k hk=>?_
 have hk:=z7n.mp hk
 unfold y16 tsP z1b
 have h1:(k-1).toNat<rows.length:=by lia
 rw[bV,bV,dN h1,bL,bH h1]
 rfl
theorem z8J{A0:Addr}(M:Bl mg)(T:F5 K mg A0)(F:Fun K "write" "Office.write" z2K f fd)(A7:D7 P w K mg base 3 A0 "refuse_writing" z0z (z2v K (OfD K A0)))
  (D1:Cal P w K mg base 1 "names_of_rows" z2t y1d) (D0:Cal P w K mg base 1 "rows_in_order" z2p (z7w K)) (K4:Cal P w K mg base 2 "tail_for" z5m (y42 K)) :
  A8 P w K mg base CX0 4 f fd z28 (z5S K (OfD K A0)):=by
 have nd:=z2q.nd
 refine F.ok z2q (fun vs H Q E h=>?_) (fun cdv A outer s H vs Q E hr h=>?_)
 ·obtain⟨p,v,fp,zs,r,rows,pr,rfl,_⟩:=h
  rfl
 obtain⟨p,v,fp,zs,r,rows,pr,rfl,of,⟨a,us,rfl,ha,na,hp⟩,gr,l12,l60,k⟩:=h
 refine⟨_,(z04 (z0x (z1W A7 (rm hr) (pv 0) (z00 (pv 1) z02))) (z04 (z0k (i:=2) nd rfl (Or.inl rfl) (z0e z1q (z09 z07 rfl M.len bD (z00 (z0A (pv 0) rfl) z02)) z06)) (z04 (z4s (i:=3) ["issue"] [] [] rfl nd rfl (Or.inl rfl) (z0w rfl (by decide +kernel) rfl (by decide +kernel) rfl rfl) (z1r (z0A (pv 0) rfl)) (fun _ _ _ _ _=>(z0m (i:=0) (show((["issue"]:List PySem.Str)++([]:List PySem.Str)).Nodup from by decide +kernel) rfl (Or.inl rfl))) (z0B (by decide)) z0c (fun _ _ _ _ _=>z20) (fun _ _ _ _ _=>(z0l D1 (rm hr) rfl (z00 (z0N (r:=T6 K) z19 (pv 0) z06 (fun _ _=>rfl)) z02)))) (z04 (z0x (z26 bJ bQ bS z0G (z0A (pv 0) rfl) (z00 (z0X (z00 (pv 2) (z00 (z0l D0 (rm hr) rfl (z00 (z0A (pv 0) rfl) (z00 (pv 1) z02))) (z00 (z0l K4 (rm hr) rfl (z00 (pv 3) (z00 (z0A (pv 0) rfl) z02))) z02)))) z02))) (z05 (z0d (pv 2))))))),?_⟩
 have hp':=z1A.of hp
 obtain⟨dx,pn,pl,fs,xs,rfl,h1,h2,h3,h4,l1,l2,l3,lm,tl,r60,w12,g,r0,r1⟩:=id of
 have lx:xs.length=rows.length:=by rw[tl.length,b6,z13]
 refine⟨_,rfl,p,dx,fs,rfl,h1,lm _ (by simp),_,rfl,p,a,_,zs,r,rows,us,pr,rfl,of,ha,hp',gr,l12,l60,fun H1 s1=>?_⟩
 refine⟨_,rfl,p,A0,dx,fs,_,rfl,s1 _ _ h1,T.cl,T.n_written,l3,pl,xs,rfl,.inl (SqL.of (s1 _ _ h4)),_,_,rfl,rfl,?_⟩
 refine⟨_,rfl,p,A0,dx,fs,_,rfl,s1 _ _ h1,T.cl,T.n_written,l3,pl,rfl,⟨_,SqL.of (s1 _ _ h4)⟩,?_⟩
 refine z2b (xs:=xs) (fun i ys H'=>A4 H1 H'/\z0b H' (((rows.take i).map z23).map U2) ys) ⟨A4.refl _,by rw[cT];exact .nil⟩ (fun i ys H' hi hq=>?_) (fun i x ys H' hx hq=>?_) (fun ys H' hq=>?_)
 ·obtain⟨gg,t⟩:=hq
  refine⟨SqL.of (gg _ _ (s1 _ _ h4)),z0i ?_⟩
  rw[t.length,b6,b6,bM]
  lia
 ·obtain⟨gg,t⟩:=hq
  have hi:i<rows.length:=by
   have:=(cO.mp hx).1
   lia
  obtain⟨d,ed,td⟩:=tl.at i x hx
  unfold upI at ed
  rw[bL,bL,List.getElem?_range hi] at ed
  have ed':z18 rows (1+(i:Int)) r=d:=Option.some.inj ed
  subst ed'
  have ew:z1b rows (1+(i:Int))=rows[i]:=by
   unfold z1b
   rw[show(1+(i:Int)-1).toNat=i by lia,bV,bH hi]
   rfl
  obtain⟨b,bs,rfl,eb,_,tb⟩:=z0q td
  obtain⟨x0,ur,rfl,t0,tb⟩:=z0g tb
  obtain⟨x1,ur,rfl,t1,tb⟩:=z0g tb
  rw[ew] at t1
  obtain⟨c,cs,rfl,ec,_,tc⟩:=z0q t1
  refine⟨_,rfl,b,_,_,_,rfl,rfl,SqT.of (gg _ _ (s1 _ _ eb)),z15 rfl,c,cs,rows[i],rfl,gg _ _ (s1 _ _ ec),z0b.keep (s1.trans gg) _ _ tc,w12 _ (dD hi),fun l H2 s2 e2=>⟨gg.trans s2,?_⟩⟩
  rw[z0C (bH hi),bI,bI]
  refine z0b.snoc (z0b.keep s2 _ _ t) (z0o e2 ?_ (z4K _))
  have:=w12 _ (dD hi)
  unfold z23
  rw[b6,b6]
  lia
 obtain⟨gg,t⟩:=hq
 rw[lx,bW] at t
 intro D hD
 have s2:=s1.trans (gg.trans (z01 hD (.lst ys)))
 have eD:upd H' D (.lst ys) D=some (.lst ys):=z03
 have t2:=z0b.keep (z01 hD (.lst ys)) _ _ t
 generalize upd H' D (.lst ys)=H2 at s2 eD t2
 have l60':((rows.map z23)).length≤59:=by rw[b6];lia
 refine⟨_,rfl,p,A0,dx,fs,_,rfl,s2 _ _ h1,T.cl,T.n_written,l3,.inl ⟨rfl,_,SqL.of (s2 _ _ h4)⟩,?_⟩
 refine⟨_,rfl,_,rfl,p,A0,dx,fs,_,rfl,s2 _ _ h1,T.cl,T.n_names,l1,_,rfl,pn,a,zs,us,pr,rfl,.inr (SqT.of (s2 _ _ h3)),g.hi,SqP.keep s2 ha,z1A.keep s2 hp',gr.nd,l12,fun v1 H3 s3 tv1=>?_⟩
 have s23:=s2.trans s3
 refine⟨_,rfl,_,rfl,p,A0,dx,fs,_,rfl,s23 _ _ h1,T.cl,T.n_reach,l2,D,ys,rows.map z23,r,rfl,.inl (SqL.of (s3 _ _ eD)),z0b.keep s3 _ _ t2,l60',?_,r0,r1,fun v2 H4 s4 tv2=>?_⟩
 ·intro w' hw'
  obtain⟨w0,hw0,rfl⟩:=cF.mp hw'
  have:=w12 w0 hw0
  unfold z23
  rw[b6]
  exact this
 refine⟨(by show 3≤sizeLine;decide),fun q hq=>?_⟩
 have s24:=s23.trans (s4.trans (z01 hq (.tup [V.int ((xs.length:Int)+1),v1,v2])))
 have eq':upd H4 q (.tup [V.int ((xs.length:Int)+1),v1,v2]) q=some (.tup [V.int ((xs.length:Int)+1),v1,v2]):=z03
 have tv1':=A9.keep (s4.trans (z01 hq (.tup [V.int ((xs.length:Int)+1),v1,v2]))) _ _ tv1
 have tv2':=A9.keep (z01 hq (.tup [V.int ((xs.length:Int)+1),v1,v2])) _ _ tv2
 generalize upd H4 q (.tup [V.int ((xs.length:Int)+1),v1,v2])=H5 at s24 eq' tv1' tv2'
 refine⟨pl,xs,.ref q,rfl,rfl,s24 _ _ h4,z0i (by lia),?_⟩
 refine⟨_,rfl,?_⟩
 have np:p≠pl:=z6U h1 h4 (fun z=>by cases z)
 have nx:dx≠pl:=z6U h2 h4 (fun z=>by cases z)
 have nn:pn≠pl:=z6U h3 h4 (fun z=>by cases z)
 have h5:=s24 _ _ h4
 have e:=k [p,dx,pl] (upd H5 pl (.lst (xs++[.ref q]))) (fun b hb=>.inl hb) (fun b o e nb=>by rw[z0f (fun z=>nb (by rw[z];simp))];exact s24 _ _ e)
  ⟨dx,pn,pl,fs,_,rfl,by rw[z0f np];exact s24 _ _ h1,by rw[z0f nx];exact s24 _ _ h2,by rw[z0f nn];exact s24 _ _ h3,z03,l1,l2,l3,lm,?_,?_,?_,g,r0,r1⟩
 ·rw[<- lx] at e
  exact e
 ·refine z0b.over h5 (fun _ z=>by cases z) _ _ ?_
  rw[bF,fI,z6Z,bI]
  have e1:(upI 1 rows.length).map (fun n=>z18 (rows++[z1p zs pr]) n r)=(upI 1 rows.length).map fun n=>z18 rows n r:=gX fun n hn=>by
   have:=z1O.mp hn
   exact y0G rows _ (by lia) (by lia)
  rw[e1]
  refine z0b.snoc (z0b.keep s24 _ _ tl) ?_
  have en:(1:Int)+(rows.length:Int)=(rows.length:Int)+1:=by lia
  have er:z1b (rows++[z1p zs pr]) ((rows.length:Int)+1)=z1p zs pr:=by
   unfold z1b
   rw[show((rows.length:Int)+1-1).toNat=rows.length by lia,bV,List.getElem?_concat_length]
   rfl
  show A9 H5 (z18 (rows++[z1p zs pr]) (1+(rows.length:Int)) r) (.ref q)
  unfold z18
  rw[en,er,y3R rows _ r r0]
  rw[lx] at eq'
  exact z0o eq' (by show 3≤1000000;decide) (.cons (z0D _) (.cons tv1' (.cons tv2' .nil)))
 ·rw[bF,fI]
  lia
 ·intro w' hw'
  rcases cB.mp hw' with hw'|hw'
  ·exact w12 w' hw'
  ·rw[bA] at hw'
   rw[hw']
   exact c9 (z56 zs pr) g.hi
abbrev B7:=Option Int×Int
noncomputable def z2G:B7->List V
 | (none,n)=>[.str "write",.int n]
 | (some r,n)=>[.str "deliver",.int r,.int n]
noncomputable def z2e(H:Hp)(u:V)(d:B7):Prop:=∃b,u=.ref b/\H b=some (.tup (z2G d))
theorem z1F{H:Hp}{us:List V}{log:List B7}(h:Paired (z2e H) us log):us.length=log.length:=by
 induction h with
 | nil=>rfl
 | cons _ _ ih=>rw[bY,bY,ih]
noncomputable def O5(log:List B7)(rd:Int):List Int:=log.foldl (fun acc d=>if d.1=some rd then S0 acc d.2 else acc) []
theorem z9V(log:List B7)(d:B7)(rd:Int):O5 (log++[d]) rd=if d.1=some rd then S0 (O5 log rd) d.2 else O5 log rd:=by
 unfold O5
 rw[gB]
 rfl
theorem y1t{log:List B7}{rd n:Int}:n∈O5 log rd↔((some rd,n):B7)∈log:=by
 have go:∀(log:List B7) (acc:List Int),n∈log.foldl (fun acc d=>if d.1=some rd then S0 acc d.2 else acc) acc↔n∈acc\/((some rd,n):B7)∈log:=by
  intro log
  induction log with
  | nil=>intro acc;exact⟨.inl,fun h=>h.elim id fun q=>(nomatch q)⟩
  | cons d log ih=>
   intro acc
   rw[dJ,ih,bC]
   obtain⟨a,m⟩:=d
   by_cases c:a=some rd
   ·subst c
    rw[if_pos rfl,y1A,or_assoc]
    exact or_congr Iff.rfl (or_congr ⟨fun e=>by rw[e],fun e=>congrArg Prod.snd e⟩ Iff.rfl)
   ·rw[if_neg c]
    exact or_congr Iff.rfl ⟨.inr,fun h=>h.elim (fun e=>absurd (congrArg Prod.fst e).symm c) id⟩
 unfold O5
 rw[go]
 exact⟨fun h=>h.elim (fun q=>(nomatch q)) id,.inr⟩
abbrev BkP:=Hp->Addr->List Addr->List Str->Int->Int->List Row->List B7->Prop
structure V6(C:Addr)(ms:List Str)(Bk:BkP):Prop where
 ins:∀{H p fp zs r k rows log},Bk H p fp zs r k rows log->∃dx fs,H p=some (.ins C dx fs)/\∀m∈ms,fs.lookup m=none
 own:∀{H p fp zs r k rows log},Bk H p fp zs r k rows log->∀b∈fp,∃o,H b=some o/\∀xs,o≠.tup xs
 keep:∀{H H' p fp gp zs r k rows log},Bk H p fp zs r k rows log->z0t gp H H'->(∀b∈gp,b∉fp)->z4n H gp->Bk H' p fp zs r k rows log
theorem V6.same{C:Addr}{ms:List Str}{Bk:BkP}(O:V6 C ms Bk){H H':Hp}{p:Addr}{fp:List Addr}{zs:List Str}{r k:Int}{rows:List Row}{log:List B7}(h:Bk H p fp zs r k rows log)(s:A4 H H'):Bk H' p fp zs r k rows log:=
 O.keep (gp:=[]) h (.of s) (fun _ q=>by cases q) fun _ q=>by cases q
theorem V6.V0{C:Addr}{ms:List Str}{Bk:BkP}(O:V6 C ms Bk){H:Hp}{p:Addr}{fp:List Addr}{zs:List Str}{r k:Int}{rows:List Row}{log:List B7}(h:Bk H p fp zs r k rows log):z4n H fp:=fun b m xs e=>by
 obtain⟨o,e1,n⟩:=O.own h b m
 rw[e1] at e
 exact n xs (Option.some.inj e)
noncomputable def y1O(K:PySem.W.Frag)(C:Addr)(Bk:BkP):Sp:=fun vs H Q _=>∃(x dx pn:Addr) (zs:List Str) (r k:Int),vs=[.ref x,.ref pn,.int r,.int k]/\H x=some (.ins C dx [])/\dx≠x/\H dx=some (.own x)/\HdN K H pn zs/\J8 zs/\0≤r/\r≤10/\1≤k/\k≤10/\
 ∀(fp:List Addr) (H':Hp),(∀b∈fp,b=x\/b=dx\/H b=none)->z0t [x] H H'->Bk H' x fp zs r k [] []->Q .non H'
noncomputable def z7r(K:PySem.W.Frag)(Bk:BkP):Sp:=fun vs H Q _=>∃(p:Addr) (v:V) (fp:List Addr) (zs:List Str) (r k:Int) (rows:List Row) (log:List B7) (pr:Row),vs=[.ref p,v]/\Bk H p fp zs r k rows log/\y1J K H fp v pr/\GoodR zs pr/\pr.length≤12/\rows.length<60/\log.length<400/\
 ∀(fp':List Addr) (H':Hp),(∀b∈fp',b∈fp\/H b=none)->z0t fp H H'->Bk H' p fp' zs r k (rows++[z1p zs pr]) (log++[(none,(rows.length:Int)+1)])->Q (.int (rows.length+1)) H'
noncomputable def z5l(Bk:BkP):Sp:=fun vs H Q _=>∃(p:Addr) (fp:List Addr) (zs:List Str) (r k:Int) (rows:List Row) (log:List B7) (rd n:Int),vs=[.ref p,.int rd,.int n]/\Bk H p fp zs r k rows log/\1≤rd/\rd≤k/\1≤n/\n≤rows.length/\log.length<400/\
 ∀(H':Hp),z0t fp H H'->Bk H' p fp zs r k rows (log++[(some rd,n)])->Q (.bl (decide (((some rd,n):B7)∉log))) H'
noncomputable def y0w(Bk:BkP):Sp:=fun vs H Q _=>∃(p:Addr) (fp:List Addr) (zs:List Str) (r k:Int) (rows:List Row) (log:List B7),vs=[.ref p]/\Bk H p fp zs r k rows log/\Q (.int log.length) H
noncomputable def w0Z:Option Nat->V
 | none=>.non
 | some d=>.int d
noncomputable def z5w(Bk:BkP)(Sh:ShP):Sp:=fun vs H Q _=>∃(p:Addr) (fp:List Addr) (zs:List Str) (r k:Int) (rows:List Row) (log:List B7) (rd:Int) (o:Option Nat),vs=[.ref p,.int rd,w0Z o]/\Bk H p fp zs r k rows log/\1≤rd/\rd≤k/\(∀d,o=some d->d≤log.length)/\
 ∀(x:Addr) (fq:List Addr) (H':Hp),(∀b∈fq,H b=none)->A4 H H'->Sh H' x fq zs r (fun n=>z18 rows n r) (O5 (log.take (o.getD log.length)) rd)->Q (.ref x) H'
theorem C3.but{fp:List Addr}{H H':Hp}{us:List V}{log:List B7}(s:z0t fp H H')(n:z4n H fp)(h:Paired (z2e H) us log):Paired (z2e H') us log:=
 L2.Paired.X0 h fun u d ⟨b,e,q⟩=>⟨b,e,s _ _ q fun m=>n b m _ q⟩
structure BkIn(K:PySem.W.Frag)(CB CO:Addr)(H:Hp)(p dx po pd:Addr)(fs:List (Str×V))(fo:List Addr)(us:List V)(zs:List Str)(r k:Int)(rows:List Row)(log:List B7):Prop where
 hp:H p=some (.ins CB dx fs)
 hdx:H dx=some (.own p)
 of:OfD K CO H po fo zs r rows
 hd:H pd=some (.lst us)
 ds:Paired (z2e H) us log
 npo:p∉fo
 ndo:dx∉fo
 ndn:pd∉fo
 lo:fs.lookup ("office":Str)=some (V.ref po)
 lr:fs.lookup ("readers":Str)=some (V.int k)
 ld:fs.lookup ("done":Str)=some (V.ref pd)
 lm:∀m∈(["refuse_unknown_reader","refuse_further_deed","write","deliver","latest","issue","deeds","deed","shelf"]:List Str),fs.lookup m=none
 l4:log.length≤400
 in1:∀d∈log,1≤d.2/\d.2≤rows.length
 k1:1≤k
 k10:k≤10
noncomputable def BkD(K:PySem.W.Frag)(CB CO:Addr):BkP:=fun H p fp zs r k rows log=>∃(dx po pd:Addr) (fs:List (Str×V)) (fo:List Addr) (us:List V),fp=p::dx::pd::fo/\BkIn K CB CO H p dx po pd fs fo us zs r k rows log
theorem U3{K:PySem.W.Frag}{CB CO:Addr}:V6 CB ["write","deliver","latest","issue","deeds","deed","shelf"] (BkD K CB CO):=by
 refine⟨fun h=>?_,fun h b hb=>?_,fun h s out nt=>?_⟩
 ·obtain⟨dx,po,pd,fs,fo,us,rfl,B⟩:=h
  refine⟨dx,fs,B.hp,fun m hm=>B.lm m ?_⟩
  exact bP _ (bP _ hm)
 ·obtain⟨dx,po,pd,fs,fo,us,rfl,B⟩:=h
  rcases bC.mp hb with rfl|hb
  ·exact⟨_,B.hp,fun xs z=>by cases z⟩
  rcases bC.mp hb with rfl|hb
  ·exact⟨_,B.hdx,fun xs z=>by cases z⟩
  rcases bC.mp hb with rfl|hb
  ·exact⟨_,B.hd,fun xs z=>by cases z⟩
  exact T3.own B.of b hb
 ·obtain⟨dx,po,pd,fs,fo,us,rfl,B⟩:=h
  exact⟨dx,po,pd,fs,fo,us,rfl,{ B with
   hp:=s _ _ B.hp fun m=>out _ m (by simp)
   hdx:=s _ _ B.hdx fun m=>out _ m (by simp)
   of:=T3.keep B.of s (fun b m z=>out b m (by simp[z])) nt
   hd:=s _ _ B.hd fun m=>out _ m (by simp)
   ds:=C3.but s nt B.ds }⟩
noncomputable def z6F:Sp:=fun vs H Q _=>∃k:Int,vs=[.int k]/\1≤k/\k≤10/\Q .non H
theorem z8W(M:Bl mg)(F:Fun K "refuse_bad_readers" "refuse_bad_readers" z1X f fd):A8 P w K mg base CX0 1 f fd z1Z z6F:=by
 have nd:=z2I.nd
 refine F.ok z2I (fun vs H Q E h=>?_) (fun cdv A outer s H vs Q E hr h=>?_)
 ·obtain⟨r,rfl,_⟩:=h
  rfl
 ·obtain⟨r,rfl,r0,r1,k⟩:=h
  refine⟨_,(z05 (z0H (PW.pt (z3n (z0a z43 (pv 0) z06 (z0h _)) (z22 (z0a z1N (pv 0) (z1c rfl M.MOST_READERS) (z0h _))))) (z05 z1y) z0j)),?_⟩
  refine⟨_,rfl,_,_,rfl,rfl,_,rfl,B6 (fun q=>absurd (z0Q q) (by lia)) fun _=>?_⟩
  exact⟨_,rfl,_,_,rfl,rfl,_,rfl,B6 (fun q=>absurd (z0Q q) (by lia)) fun _=>k⟩
noncomputable def z2h(Bk:BkP):Sp:=fun vs H Q _=>∃(p:Addr) (fp:List Addr) (zs:List Str) (r k:Int) (rows:List Row) (log:List B7) (rd:Int),vs=[.ref p,.int rd]/\Bk H p fp zs r k rows log/\1≤rd/\rd≤k/\Q .non H
theorem z6B{A1 A0:Addr}(M:Bl mg)(T:F0 K mg A1)(F:Fun K "refuse_unknown_reader" "Book.refuse_unknown_reader" z0R f fd):A8 P w K mg base CX0 1 f fd z0y (z2h (BkD K A1 A0)):=by
 have nd:=z0P.nd
 refine F.ok z0P (fun vs H Q E h=>?_) (fun cdv A outer s H vs Q E hr h=>?_)
 ·obtain⟨p,fp,zs,r,k,rows,log,rd,rfl,_⟩:=h
  rfl
 obtain⟨p,fp,zs,r,k,rows,log,rd,rfl,⟨dx,po,pd,fs,fo,us,rfl,B⟩,r1,r2,q⟩:=h
 refine⟨_,(z05 (z0H (PW.pt (z3n (z0a z43 (pv 1) z06 (z0h _)) (z22 (z0a z1N (pv 1) (z0A (pv 0) rfl) (z0h _))))) (z05 z1y) z0j)),?_⟩
 refine⟨_,rfl,_,_,rfl,rfl,_,rfl,B6 (fun q=>absurd (z0Q q) (by lia)) fun _=>?_⟩
 exact⟨_,rfl,_,rfl,p,A1,dx,fs,_,rfl,B.hp,T.cl,T.n_readers,B.lr,_,_,rfl,rfl,_,rfl,B6 (fun q=>absurd (z0Q q) (by lia)) fun _=>q⟩
noncomputable def z2A(Bk:BkP):Sp:=fun vs H Q _=>∃(p:Addr) (fp:List Addr) (zs:List Str) (r k:Int) (rows:List Row) (log:List B7),vs=[.ref p]/\Bk H p fp zs r k rows log/\log.length<400/\Q .non H
theorem z8K{A1 A0:Addr}(M:Bl mg)(T:F0 K mg A1)(F:Fun K "refuse_further_deed" "Book.refuse_further_deed" z0V f fd):A8 P w K mg base CX0 1 f fd z0s (z2A (BkD K A1 A0)):=by
 have nd:=z0S.nd
 refine F.ok z0S (fun vs H Q E h=>?_) (fun cdv A outer s H vs Q E hr h=>?_)
 ·obtain⟨p,fp,zs,r,k,rows,log,rfl,_⟩:=h
  rfl
 obtain⟨p,fp,zs,r,k,rows,log,rfl,⟨dx,po,pd,fs,fo,us,rfl,B⟩,l4,q⟩:=h
 refine⟨_,(z05 (z0H (z0a y3F (z09 z07 rfl M.len bD (z00 (z0A (pv 0) rfl) z02)) (z1c rfl M.MOST_DEEDS) (z0h _)) (z05 z1y) z0j)),?_⟩
 have lu:=z1F B.ds
 exact⟨_,rfl,p,A1,dx,fs,_,rfl,B.hp,T.cl,T.n_done,B.ld,pd,us,rfl,.inl (SqL.of B.hd),_,_,rfl,rfl,_,rfl,B6 (fun q=>absurd (z0Q q) (by lia)) fun _=>q⟩
theorem y24{A1 A0:Addr}(M:Bl mg)(T:F0 K mg A1)(F:Fun K "deeds" "Book.deeds" z5g f fd):A8 P w K mg base CX0 1 f fd z54 (y0w (BkD K A1 A0)):=by
 have nd:=z6L.nd
 refine F.ok z6L (fun vs H Q E h=>?_) (fun cdv A outer s H vs Q E hr h=>?_)
 ·obtain⟨p,fp,zs,r,k,rows,log,rfl,_⟩:=h
  rfl
 obtain⟨p,fp,zs,r,k,rows,log,rfl,⟨dx,po,pd,fs,fo,us,rfl,B⟩,q⟩:=h
 refine⟨_,(z05 (z0d (z09 z07 rfl M.len bD (z00 (z0A (pv 0) rfl) z02)))),?_⟩
 have lu:=z1F B.ds
 refine⟨_,rfl,p,A1,dx,fs,_,rfl,B.hp,T.cl,T.n_done,B.ld,pd,us,rfl,.inl (SqL.of B.hd),?_⟩
 rw[lu]
 exact q
theorem y38{A1 A0:Addr}(M:Bl mg)(T:F0 K mg A1)(F:Fun K "__init__" "Book.__init__" z3j f fd)(W6:Mkr P w K mg base 3 A0 "Office" z2E (y1L K A0 (OfD K A0)))
  (F4:Cal P w K mg base 1 "refuse_bad_readers" z1Z z6F):A8 P w K mg base CX0 6 f fd z3c (y1O K A1 (BkD K A1 A0)):=by
 have nd:=z4w.nd
 refine F.ok z4w (fun vs H Q E h=>?_) (fun cdv A outer s H vs Q E hr h=>?_)
 ·obtain⟨x,dx,pn,zs,r,k,rfl,_⟩:=h
  rfl
 obtain⟨x,dx,pn,zs,r,k,rfl,hx,ne,hdx,hn,g,r0,r1,k1,k10,q⟩:=h
 refine⟨_,(z04 (z5J (pv 0) (y3G W6 (rm hr) rfl (z00 (pv 1) (z00 (pv 2) z02))) rfl) (z04 (z0x (z0l F4 (rm hr) rfl (z00 (pv 3) z02))) (z04 (z5J (pv 0) (pv 3) rfl) (z05 (z5J (pv 0) (z0T z02) rfl))))),?_⟩
 refine⟨_,rfl,_,rfl,fun po dxo nx ndx neo=>?_⟩
 have m1:=z7v (C:=A0) (A4.refl H) nx ndx
 refine⟨po,dxo,pn,zs,r,rfl,z03,neo,by rw[z0f neo,z03],HdN.keep m1 hn,g,r0,r1,fun fo H1 ff sb of=>⟨rfl,?_⟩⟩
 have s1:A4 H H1:=z7V sb m1 nx
 have f1:∀b∈fo,H b=none:=fun b hb=>z6k m1 nx ndx (ff b hb)
 refine⟨_,rfl,x,A1,dx,[],rfl,s1 _ _ hx,T.cl,T.n_office,by decide,?_⟩
 have z1:=z1C "office" (.ref po) []
 have z2:=z1C "readers" (.int k) (L5 "office" (.ref po) [])
 have z0:([]:List (Str×V)).length=0:=rfl
 refine⟨_,rfl,k,rfl,k1,k10,?_⟩
 refine⟨_,rfl,_,rfl,x,A1,dx,_,rfl,z03,T.cl,T.n_readers,(by lia),?_⟩
 rw[z82]
 refine⟨(by show 0≤sizeLine;decide),fun pd hd=>?_⟩
 have nxp:x≠pd:=z0r z03 hd
 have dfr:H1 pd=none:=by rw[z0f (cU nxp)] at hd;exact hd
 have ndd:dx≠pd:=z0r (s1 _ _ hdx) dfr
 have out:∀{b:Addr}{o:HO},H b=some o->b∉fo:=fun e m=>by rw[f1 _ m] at e;cases e
 refine⟨_,rfl,x,A1,dx,_,rfl,(by rw[z0f nxp,z03]),T.cl,T.n_done,(by lia),?_⟩
 have sx:z0t [x] H1 (upd (upd (upd H1 x (.ins A1 dx (L5 "readers" (.int k) (L5 "office" (.ref po) [])))) pd (.lst [])) x (.ins A1 dx (L5 "done" (.ref pd) (L5 "readers" (.int k) (L5 "office" (.ref po) []))))):=fun b o e nb=>by
  rw[bA] at nb
  rw[z0f nb,z0f (z0r e dfr),z0f nb]
  exact e
 refine q (x::dx::pd::fo) _ (fun b hb=>?_) (fun b o e nb=>sx b o (s1 _ _ e) nb) ⟨dx,po,pd,_,fo,[],rfl,⟨z03,?_,?_,?_,.nil,out hx,out hdx,?_,?_,?_,?_,?_,by decide,fun _ q=>(nomatch q),k1,k10⟩⟩
 ·rcases bC.mp hb with rfl|hb
  ·exact .inl rfl
  rcases bC.mp hb with rfl|hb
  ·exact .inr (.inl rfl)
  rcases bC.mp hb with rfl|hb
  ·exact .inr (.inr (s1.free dfr))
  ·exact .inr (.inr (f1 b hb))
 ·exact sx _ _ (s1 _ _ hdx) (by rw[bA];exact ne)
 ·refine T3.keep of sx (fun b m=>?_) fun b m xs e=>?_
  ·rw[bA.mp m]
   exact out hx
  ·rw[bA.mp m,s1 _ _ hx] at e
   cases e
 ·rw[z0f (cU nxp),z03]
 ·intro m
  obtain⟨o,e,_⟩:=T3.own of pd m
  rw[dfr] at e
  cases e
 ·rw[z0n,if_neg (by decide +kernel),z0n,if_neg (by decide +kernel),z0n,if_pos rfl]
 ·rw[z0n,if_neg (by decide +kernel),z0n,if_pos rfl]
 ·rw[z0n,if_pos rfl]
 ·intro m hm
  simp only[bC,dM,or_false] at hm
  rcases hm with rfl|rfl|rfl|rfl|rfl|rfl|rfl|rfl|rfl<;>rw[z0n,if_neg (by decide +kernel),z0n,if_neg (by decide +kernel),z0n,if_neg (by decide +kernel)]<;>rfl
theorem y5T{K:PySem.W.Frag}{CB CO:Addr}{H H1:Hp}{p dx po pd t:Addr}{fs:List (Str×V)}{fo fo':List Addr}{us:List V}{zs:List Str}{r k:Int}{rows V1:List Row}{log:List B7}{d:B7}(B:BkIn K CB CO H p dx po pd fs fo us zs r k rows log)
  (sb:z0t fo H H1) (of:OfD K CO H1 po fo' zs r V1) (ff:∀b∈fo',b∈fo\/H b=none) (ht:H1 t=some (.tup (z2G d))) (hl:rows.length≤V1.length) (hd1:1≤d.2/\d.2≤V1.length) (l4:log.length<400) :
  z0t (p::dx::pd::fo) H (upd H1 pd (.lst (us++[.ref t])))/\BkD K CB CO (upd H1 pd (.lst (us++[.ref t]))) p (p::dx::pd::fo') zs r k V1 (log++[d]):=by
 have ntf:z4n H fo:=T3.V0 B.of
 have hd':=sb _ _ B.hd B.ndn
 have out:∀{b:Addr}{o:HO},H b=some o->b∉fo->b∉fo':=fun e n m=>(ff _ m).elim n fun z=>by rw[z] at e;cases e
 have s2:z0t [pd] H1 (upd H1 pd (.lst (us++[.ref t]))):=fun b o e nb=>by
  rw[bA] at nb
  rw[z0f nb]
  exact e
 have nt2:z4n H1 [pd]:=fun b m xs e=>by
  rw[bA.mp m,hd'] at e
  cases e
 have npd:p≠pd:=z6U B.hp B.hd (fun z=>by cases z)
 have ndd:dx≠pd:=z6U B.hdx B.hd (fun z=>by cases z)
 refine⟨fun b o e nb=>?_,dx,po,pd,fs,fo',us++[.ref t],rfl,{ B with
  hp:=by rw[z0f npd];exact sb _ _ B.hp B.npo
  hdx:=by rw[z0f ndd];exact sb _ _ B.hdx B.ndo
  of:=T3.keep of s2 (fun b m=>by rw[bA.mp m];exact out B.hd B.ndn) nt2
  hd:=z03
  ds:=?_
  npo:=out B.hp B.npo
  ndo:=out B.hdx B.ndo
  ndn:=out B.hd B.ndn
  l4:=by rw[bF];exact l4
  in1:=fun x hx=>?_ }⟩
 ·rw[bC,bC,bC,not_or,not_or,not_or] at nb
  rw[z0f nb.2.2.1]
  exact sb _ _ e nb.2.2.2
 ·exact gZ (C3.but s2 nt2 (C3.but sb ntf B.ds)) ⟨t,rfl,s2 _ _ ht fun m=>nt2 t m _ ht⟩
 ·rcases cB.mp hx with hx|hx
  ·have:=B.in1 x hx
   lia
  ·rw[bA.mp hx]
   exact hd1
theorem z8A{A1 A0:Addr}(M:Bl mg)(T:F0 K mg A1)(F:Fun K "write" "Book.write" z3J f fd)(A7:D7 P w K mg base 3 A0 "refuse_writing" z0z (z2v K (OfD K A0)))
  (D8:D7 P w K mg base 4 A0 "write" z28 (z5S K (OfD K A0))) (A5:D7 P w K mg base 1 A1 "refuse_further_deed" z0s (z2A (BkD K A1 A0))) :
  A8 P w K mg base CX0 5 f fd z3B (z7r K (BkD K A1 A0)):=by
 have nd:=z39.nd
 refine F.ok z39 (fun vs H Q E h=>?_) (fun cdv A outer s H vs Q E hr h=>?_)
 ·obtain⟨p,v,fp,zs,r,k,rows,log,pr,rfl,_⟩:=h
  rfl
 obtain⟨p,v,fp,zs,r,k,rows,log,pr,rfl,bk,⟨a,vs,rfl,ha,na,hpr⟩,gr,l12,l60,l4,q⟩:=h
 refine⟨_,(z04 (z0x (z1W A7 (rm hr) (z0A (pv 0) rfl) (z00 (pv 1) z02))) (z04 (z0x (z2s A5 (rm hr) (pv 0))) (z04 (z0k (i:=2) nd rfl (Or.inl rfl) (z1W D8 (rm hr) (z0A (pv 0) rfl) (z00 (pv 1) z02))) (z04 (z0x (z26 bJ bQ bS z0G (z0A (pv 0) rfl) (z00 (z0X (z00 (z21 rfl M.WRITE) (z00 (pv 2) z02))) z02))) (z05 (z0d (pv 2))))))),?_⟩
 obtain⟨dx,po,pd,fs,fo,us,rfl,B⟩:=id bk
 have no:∀{b:Addr},b∉p::dx::pd::fo->b∉fo:=fun n m=>n (by simp[m])
 have hand:Paired (z95 K H fo) vs pr:=L2.Paired.X0 hpr fun u x ⟨b,e,q,n⟩=>⟨b,e,q,no n⟩
 obtain⟨dxo,pno,plo,fso,xso,efo,h1,h2,h3,h4,l1,l2,l3,lmo,_⟩:=id B.of
 refine⟨_,rfl,p,A1,dx,fs,_,rfl,B.hp,T.cl,T.n_office,B.lo,po,dxo,fso,rfl,h1,lmo _ (by simp),_,rfl,po,a,fo,zs,r,rows,vs,pr,rfl,B.of,ha,z1A.of hand,gr,l12,l60,fun H1 s1=>?_⟩
 refine⟨_,rfl,p,dx,fs,rfl,s1 _ _ B.hp,B.lm _ (by simp),p,_,zs,r,k,rows,log,rfl,U3.same bk s1,l4,?_⟩
 have ha1:y1J K H1 fo (.ref a) pr:=⟨a,vs,rfl,SqP.keep s1 ha,no na,L2.Paired.X0 hand fun u x ⟨b,e,q,n⟩=>⟨b,e,q.imp (fun z=>s1.seq z) fun z=>z5V s1 z,n⟩⟩
 refine⟨_,rfl,p,A1,dx,fs,_,rfl,s1 _ _ B.hp,T.cl,T.n_office,B.lo,po,dxo,fso,rfl,s1 _ _ h1,lmo _ (by simp),_,rfl,po,.ref a,fo,zs,r,rows,pr,rfl,T3.same B.of s1,ha1,gr,l12,l60,fun fo' H2 ff sb of2=>?_⟩
 have sb2:z0t fo H H2:=fun b o e n=>sb _ _ (s1 _ _ e) n
 have lu:=z1F B.ds
 refine⟨_,rfl,p,A1,dx,fs,_,rfl,sb2 _ _ B.hp B.npo,T.cl,T.n_done,B.ld,.inl ⟨rfl,_,SqL.of (sb2 _ _ B.hd B.ndn)⟩,?_⟩
 refine⟨_,rfl,(by show 2≤sizeLine;decide),fun t ht=>⟨pd,us,_,rfl,rfl,z01 ht _ _ _ (sb2 _ _ B.hd B.ndn),z0i (by lia),?_⟩⟩
 have s3:=z01 ht (.tup [V.str "write",V.int ((rows.length:Int)+1)])
 have et:upd H2 t (.tup [V.str "write",V.int ((rows.length:Int)+1)]) t=some (.tup (z2G (none,(rows.length:Int)+1))):=z03
 have sb3:z0t fo H (upd H2 t (.tup [V.str "write",V.int ((rows.length:Int)+1)])):=fun b o e n=>s3 _ _ (sb2 _ _ e n)
 have of3:=T3.same of2 s3
 obtain⟨g1,g2⟩:=y5T B sb3 of3 (fun b m=>(ff b m).imp id fun z=>s1.free z) et (by rw[bF];lia) ⟨by show(1:Int)≤rows.length+1;lia,by show((rows.length:Int)+1)≤_;rw[bF];exact e7 _⟩ l4
 refine⟨_,rfl,q (p::dx::pd::fo') _ (fun b hb=>?_) g1 g2⟩
 rcases bC.mp hb with rfl|hb
 ·exact .inl (by simp)
 rcases bC.mp hb with rfl|hb
 ·exact .inl (by simp)
 rcases bC.mp hb with rfl|hb
 ·exact .inl (by simp)
 exact(ff b hb).imp (fun z=>by simp[z]) fun z=>s1.free z
theorem z8Z(d:B7)(rd n:Int):z2g (z2G d) (z2G (some rd,n))=decide (d=(some rd,n)):=by
 obtain⟨a,m⟩:=d
 cases a with
 | none=>
  rw[decide_eq_false (fun e=>by cases e)]
  rfl
 | some r=>
  show(eqV (.str "deliver") (.str "deliver") && (eqV (.int r) (.int rd) && (eqV (.int m) (.int n) && true)))=_
  rw[z9l rfl,fQ,Bool.and_true,d8,bU,decide_eq_true_eq]
  show(r == rd)=true/\(m == n)=true↔_
  rw[beq_iff_eq,beq_iff_eq]
  exact⟨fun h=>by rw[h.1,h.2],fun h=>by cases h;exact⟨rfl,rfl⟩⟩
theorem y5n(log:List B7)(rd n:Int):(!(log.map z2G).any fun ys=>z2g ys (z2G (some rd,n)))=decide (((some rd,n):B7)∉log):=by
 rw[fV,d8,gC,decide_eq_true_eq,hW]
 refine⟨fun h m=>h _ m ?_,fun h d hd e=>h ?_⟩
 ·show z2g _ _=true
  rw[z8Z]
  exact decide_eq_true rfl
 ·have e':z2g (z2G d) (z2G (some rd,n))=true:=e
  rw[z8Z] at e'
  rw[<- of_decide_eq_true e']
  exact hd
theorem z5y(d:B7):(z2G d).all z1t=true:=by
 obtain⟨a,m⟩:=d
 cases a<;>rfl
theorem z6K{A1 A0:Addr}(M:Bl mg)(T:F0 K mg A1)(F:Fun K "deliver" "Book.deliver" z2M f fd)(B0:D7 P w K mg base 1 A0 "issue" z0U (z25 (OfD K A0)))
  (A6:D7 P w K mg base 1 A1 "refuse_unknown_reader" z0y (z2h (BkD K A1 A0))) (A5:D7 P w K mg base 1 A1 "refuse_further_deed" z0s (z2A (BkD K A1 A0))) :
  A8 P w K mg base CX0 5 f fd z2Q (z5l (BkD K A1 A0)):=by
 have nd:=z2o.nd
 refine F.ok z2o (fun vs H Q E h=>?_) (fun cdv A outer s H vs Q E hr h=>?_)
 ·obtain⟨p,fp,zs,r,k,rows,log,rd,n,rfl,_⟩:=h
  rfl
 obtain⟨p,fp,zs,r,k,rows,log,rd,n,rfl,bk,r1,r2,n1,n2,l4,q⟩:=h
 have hu:=z9U hr
 refine⟨_,(z04 (z0x (z1W B0 (rm hr) (z0A (pv 0) rfl) (z00 (pv 2) z02))) (z04 (z0x (z1W A6 (rm hr) (pv 0) (z00 (pv 1) z02))) (z04 (z0x (z2s A5 (rm hr) (pv 0))) (z04 (z0k (i:=3) nd rfl (Or.inl rfl) (z0X (z00 (z21 rfl M.DELIVER) (z00 (pv 1) (z00 (pv 2) z02))))) (z04 (z0k (i:=4) nd rfl (Or.inl rfl) (z9y (y0b hu) (pv 3) (z0A (pv 0) rfl) (by with_unfolding_all rfl))) (z04 (z0x (z26 bJ bQ bS z0G (z0A (pv 0) rfl) (z00 (pv 3) z02))) (z05 (z0d (pv 4))))))))),?_⟩
 obtain⟨dx,po,pd,fs,fo,us,rfl,B⟩:=id bk
 obtain⟨dxo,pno,plo,fso,xso,efo,h1,h2,h3,h4,l1,l2,l3,lmo,_⟩:=id B.of
 refine⟨_,rfl,p,A1,dx,fs,_,rfl,B.hp,T.cl,T.n_office,B.lo,po,dxo,fso,rfl,h1,lmo _ (by simp),_,rfl,po,fo,zs,r,rows,n,rfl,B.of,n1,n2,fun v H1 s1 _=>?_⟩
 have bk1:=U3.same bk s1
 refine⟨_,rfl,p,dx,fs,rfl,s1 _ _ B.hp,B.lm _ (by simp),_,rfl,p,_,zs,r,k,rows,log,rd,rfl,bk1,r1,r2,?_⟩
 refine⟨_,rfl,p,dx,fs,rfl,s1 _ _ B.hp,B.lm _ (by simp),p,_,zs,r,k,rows,log,rfl,bk1,l4,?_⟩
 refine⟨_,rfl,_,rfl,(by show 3≤sizeLine;decide),fun t ht=>?_⟩
 have s2:=s1.trans (z01 ht (.tup [V.str "deliver",V.int rd,V.int n]))
 have et:upd H1 t (.tup [V.str "deliver",V.int rd,V.int n]) t=some (.tup (z2G (some rd,n))):=z03
 generalize upd H1 t (.tup [V.str "deliver",V.int rd,V.int n])=H2 at s2 et
 have lu:=z1F B.ds
 have prs:Paired (fun u ys=>∃b,u=.ref b/\SqT K H2 b ys/\ys.all z1t=true) us (log.map z2G):=by
  have go:∀{us:List V}{log:List B7},Paired (z2e H) us log->Paired (fun u ys=>∃b,u=.ref b/\SqT K H2 b ys/\ys.all z1t=true) us (log.map z2G):=by
   intro us log h
   induction h with
   | nil=>exact .nil
   | cons h t ih=>
    obtain⟨b,e,q⟩:=h
    exact .cons ⟨b,e,SqT.of (s2 _ _ q),z5y _⟩ ih
  exact go B.ds
 refine⟨_,rfl,_,rfl,p,A1,dx,fs,_,rfl,s2 _ _ B.hp,T.cl,T.n_done,B.ld,t,pd,_,us,_,rfl,rfl,SqT.of et,z5y _,SqL.of (s2 _ _ B.hd),prs,?_⟩
 rw[y5n]
 refine⟨_,rfl,p,A1,dx,fs,_,rfl,s2 _ _ B.hp,T.cl,T.n_done,B.ld,.inl ⟨rfl,_,SqL.of (s2 _ _ B.hd)⟩,_,rfl,pd,us,_,rfl,rfl,s2 _ _ B.hd,z0i (by lia),?_⟩
 obtain⟨g1,g2⟩:=y5T B (.of s2) (T3.same B.of s2) (fun b m=>.inl m) et (bG _) ⟨n1,n2⟩ l4
 exact⟨_,rfl,q _ g1 g2⟩
noncomputable def y6P:B7->DV
 | (none,n)=>.tup [.str "write",.int n]
 | (some r,n)=>.tup [.str "deliver",.int r,.int n]
theorem y0d{H:Hp}{u:V}{d:B7}(h:z2e H u d):A9 H (y6P d) u:=by
 obtain⟨b,rfl,e⟩:=h
 obtain⟨a,n⟩:=d
 cases a with
 | none=>exact z0o e (by show 2≤1000000;decide) (.cons (z0E _) (.cons (z0D _) .nil))
 | some r=>exact z0o e (by show 3≤1000000;decide) (.cons (z0E _) (.cons (z0D _) (.cons (z0D _) .nil)))
theorem y0v{H:Hp}:∀{us:List V}{log:List B7},Paired (z2e H) us log->∀(i:Nat) (d:B7),log[i]? = some d->∃u,us[i]? = some u/\z2e H u d:=by
 intro us log h
 induction h with
 | nil=>intro i d e;simp at e
 | cons h t ih=>
  intro i d e
  cases i with
  | zero=>
   simp at e
   subst e
   exact⟨_,rfl,h⟩
  | succ i=>
   obtain⟨u,q1,q2⟩:=ih i d (by simpa using e)
   exact⟨u,by simpa using q1,q2⟩
noncomputable def z8x(Bk:BkP):Sp:=fun vs H Q _=>∃(p:Addr) (fp:List Addr) (zs:List Str) (r k:Int) (rows:List Row) (log:List B7),vs=[.ref p]/\Bk H p fp zs r k rows log/\∀H',A4 H H'->Q (.int rows.length) H'
noncomputable def z7I(Bk:BkP):Sp:=fun vs H Q _=>∃(p:Addr) (fp:List Addr) (zs:List Str) (r k:Int) (rows:List Row) (log:List B7) (n:Int),vs=[.ref p,.int n]/\Bk H p fp zs r k rows log/\1≤n/\n≤rows.length/\
 ∀(v:V) (H':Hp),A4 H H'->A9 H' (z18 rows n r) v->Q v H'
noncomputable def z8P(Bk:BkP):Sp:=fun vs H Q _=>∃(p:Addr) (fp:List Addr) (zs:List Str) (r k:Int) (rows:List Row) (log:List B7) (i:Nat) (d:B7),vs=[.ref p,.int ((i:Int)+1)]/\Bk H p fp zs r k rows log/\log[i]? = some d/\
 ∀v,A9 H (y6P d) v->Q v H
theorem y1e{A1 A0:Addr}(M:Bl mg)(T:F0 K mg A1)(F:Fun K "latest" "Book.latest" z4h f fd)(M7:D7 P w K mg base 1 A0 "latest" z3e (z8i (OfD K A0))):A8 P w K mg base CX0 2 f fd z4d (z8x (BkD K A1 A0)):=by
 have nd:=z5Q.nd
 refine F.ok z5Q (fun vs H Q E h=>?_) (fun cdv A outer s H vs Q E hr h=>?_)
 ·obtain⟨p,fp,zs,r,k,rows,log,rfl,_⟩:=h
  rfl
 obtain⟨p,fp,zs,r,k,rows,log,rfl,⟨dx,po,pd,fs,fo,us,rfl,B⟩,q⟩:=h
 refine⟨_,(z05 (z0d (z2s M7 (rm hr) (z0A (pv 0) rfl)))),?_⟩
 obtain⟨dxo,pno,plo,fso,xso,efo,h1,h2,h3,h4,l1,l2,l3,lmo,_⟩:=id B.of
 exact⟨_,rfl,p,A1,dx,fs,_,rfl,B.hp,T.cl,T.n_office,B.lo,po,dxo,fso,rfl,h1,lmo _ (by simp),po,fo,zs,r,rows,rfl,B.of,q⟩
theorem z8f{A1 A0:Addr}(M:Bl mg)(T:F0 K mg A1)(F:Fun K "issue" "Book.issue" z3I f fd)(B0:D7 P w K mg base 1 A0 "issue" z0U (z25 (OfD K A0))):A8 P w K mg base CX0 2 f fd z3R (z7I (BkD K A1 A0)):=by
 have nd:=z31.nd
 refine F.ok z31 (fun vs H Q E h=>?_) (fun cdv A outer s H vs Q E hr h=>?_)
 ·obtain⟨p,fp,zs,r,k,rows,log,n,rfl,_⟩:=h
  rfl
 obtain⟨p,fp,zs,r,k,rows,log,n,rfl,⟨dx,po,pd,fs,fo,us,rfl,B⟩,n1,n2,q⟩:=h
 refine⟨_,(z05 (z0d (z1W B0 (rm hr) (z0A (pv 0) rfl) (z00 (pv 1) z02)))),?_⟩
 obtain⟨dxo,pno,plo,fso,xso,efo,h1,h2,h3,h4,l1,l2,l3,lmo,_⟩:=id B.of
 exact⟨_,rfl,p,A1,dx,fs,_,rfl,B.hp,T.cl,T.n_office,B.lo,po,dxo,fso,rfl,h1,lmo _ (by simp),_,rfl,po,fo,zs,r,rows,n,rfl,B.of,n1,n2,q⟩
theorem y0l{A1 A0:Addr}(M:Bl mg)(T:F0 K mg A1)(F:Fun K "deed" "Book.deed" z4C f fd):A8 P w K mg base CX0 1 f fd z4E (z8P (BkD K A1 A0)):=by
 have nd:=z3S.nd
 refine F.ok z3S (fun vs H Q E h=>?_) (fun cdv A outer s H vs Q E hr h=>?_)
 ·obtain⟨p,fp,zs,r,k,rows,log,i,d,rfl,_⟩:=h
  rfl
 obtain⟨p,fp,zs,r,k,rows,log,i,d,rfl,⟨dx,po,pd,fs,fo,us,rfl,B⟩,ed,q⟩:=h
 refine⟨_,(z04 (z0H (PW.pt (z3n (z0a z43 (pv 1) z06 (z0h _)) (z22 (z0a z1N (pv 1) (z09 z07 rfl M.len bD (z00 (z0A (pv 0) rfl) z02)) (z0h _))))) (z05 z1y) z0j) (z05 (z0d (z0N z0L (z0A (pv 0) rfl) (z0e z2J (pv 1) z06) (fun _ _=>rfl))))),?_⟩
 have lu:=z1F B.ds
 have hi:=(cO.mp ed).1
 obtain⟨u,eu,du⟩:=y0v B.ds i d ed
 have av:atI us ((i:Int)+1-1)=some u:=by
  rw[Int.add_sub_cancel]
  exact z15 eu
 refine⟨_,rfl,_,_,rfl,rfl,_,rfl,B6 (fun q=>absurd (z0Q q) (by lia)) fun _=>?_⟩
 refine⟨_,rfl,_,rfl,p,A1,dx,fs,_,rfl,B.hp,T.cl,T.n_done,B.ld,pd,us,rfl,.inl (SqL.of B.hd),_,_,rfl,rfl,_,rfl,B6 (fun q=>absurd (z0Q q) (by lia)) fun _=>?_⟩
 exact⟨_,rfl,p,A1,dx,fs,_,rfl,B.hp,T.cl,T.n_done,B.ld,_,rfl,_,_,rfl,rfl,pd,us,_,u,rfl,rfl,SqL.of B.hd,av,q u (y0d du)⟩
theorem y3b{xs:List V}{k:Nat}(h:k≤xs.length):S9 xs none (some (k:Int))=xs.take k:=by
 unfold S9
 have e1:HT.sIx xs.length 0 none=0:=rfl
 have e2:HT.sIx xs.length xs.length (some (k:Int))=k:=by
  rw[HT.y44,Nat.min_eq_left h]
 rw[e1,e2,g0,j9]
theorem y1G{H:Hp}:∀{us:List V}{log:List B7},Paired (z2e H) us log->∀(c i:Nat) (u:V),(us.take c)[i]? = some u->∃d,(log.take c)[i]? = some d/\z2e H u d:=by
 intro us log h
 induction h with
 | nil=>intro c i u e;rw[List.take_nil] at e;simp at e
 | cons h t ih=>
  intro c i u e
  cases c with
  | zero=>simp at e
  | succ c=>
   rw[List.take_succ_cons] at e ⊢
   cases i with
   | zero=>
    simp at e
    subst e
    exact⟨_,rfl,h⟩
   | succ i=>
    obtain⟨d,q1,q2⟩:=ih c i u (by simpa using e)
    exact⟨d,by simpa using q1,q2⟩
theorem y5m(d:B7)(rd:Int):z2g ((z2G d).take 2) [.str "deliver",.int rd]=decide (d.1=some rd):=by
 obtain⟨a,m⟩:=d
 cases a with
 | none=>
  rw[decide_eq_false (fun e=>by cases e)]
  rfl
 | some r=>
  show(eqV (.str "deliver") (.str "deliver") && (eqV (.int r) (.int rd) && true))=_
  rw[z9l rfl,fQ,Bool.and_true,d8,decide_eq_true_eq]
  show(r == rd)=true↔_
  rw[beq_iff_eq]
  exact⟨fun h=>by rw[h],fun h=>Option.some.inj h⟩
theorem z8F{A1 A0 A2 T0:Addr}{items:Array Value}(M:Bl mg)(T:F0 K mg A1)(TO:F5 K mg A0)(F:W8 K "shelf" "Book.shelf" z5k f fd T0 items)(B0:D7 P w K mg base 1 A0 "issue" z0U (z25 (OfD K A0)))
  (A6:D7 P w K mg base 1 A1 "refuse_unknown_reader" z0y (z2h (BkD K A1 A0))) (W2:Mkr P w K mg base 3 A2 "Shelf" z2X (y1R K A2 (ShD K A2)))
  (O8:D7 P w K mg base 1 A2 "put" z64 (y7v (ShD K A2))):A8 P w K mg base CX0 6 f fd z2Z (z5w (BkD K A1 A0) (ShD K A2)):=by
 have nd:=z6O.nd
 refine F.ok z6O (fun vs H Q E h=>?_) (fun cdv A outer s H vs Q E hr h=>?_)
 ·obtain⟨p,fp,zs,r,k,rows,log,rd,o,rfl,_⟩:=h
  rfl
 obtain⟨p,fp,zs,r,k,rows,log,rd,o,rfl,bk,r1,r2,od,q⟩:=h
 refine⟨_,(z04 (z0k (i:=3) nd rfl (Or.inl rfl) (z9x (y1r (y4j (pv 2))) (z09 z07 rfl M.len bD (z00 (z0A (pv 0) rfl) z02)) (pv 2))) (z04 (z0H (PW.pt (z3n (z0a z43 (pv 3) z06 (z0h _)) (z22 (z0a z1N (pv 3) (z09 z07 rfl M.len bD (z00 (z0A (pv 0) rfl) z02)) (z0h _))))) (z05 z1y) z0j) (z04 (z0x (z1W A6 (rm hr) (pv 0) (z00 (pv 1) z02))) (z04 (z0k (i:=4) nd rfl (Or.inl rfl) (y3G W2 (rm hr) rfl (z00 (z0A (z0A (pv 0) rfl) rfl) (z00 (z0A (z0A (pv 0) rfl) rfl) z02)))) (z04 (z1z cG rfl (z1r (z33 y0Y (z0A (pv 0) rfl) z58 (z3A (pv 3)))) (z0m (i:=5) nd rfl (Or.inl rfl)) (z05 (z0H (z0a (y7a hr.Y7) (z33 y6J (pv 5) z58 (z3A z06)) (z0X (z00 (z21 rfl M.DELIVER) (z00 (pv 1) z02))) (z0h _)) (z05 (z0x (z1W O8 (rm hr) (pv 4) (z00 (z1W B0 (rm hr) (z0A (pv 0) rfl) (z00 (z0N z19 (pv 5) z06 (fun _ _=>rfl)) z02)) z02)))) z0j))) (z05 (z0d (pv 4)))))))),?_⟩
 obtain⟨dx,po,pd,fs,fo,us,rfl,B⟩:=id bk
 obtain⟨dxo,pno,plo,fso,xso,efo,h1,h2,h3,h4,l1,l2,l3,lmo,_,_,_,g,r0,r10⟩:=id B.of
 have lu:=z1F B.ds
 have cle:o.getD log.length≤log.length:=by
  cases o with
  | none=>exact bG _
  | some d=>exact od d rfl
 have beh:∀(Qk:VK),Qk (.int (o.getD log.length:Nat)) H->tIf (tB (tIsN (w0c 2))) (tCB (fun xs H_1 Q=>∃p ys,xs=[V.ref p]/\(SqL K H_1 p ys\/SqT K H_1 p ys)/\Q (V.int ys.length) H_1) (y68 (tFld K (w0c 0) "done") Z3)) (w0c 2) (z5A ["self","reader","deed","behind","told","past"] [.ref p,.int rd,w0Z o]) H Qk:=fun Qk hq=>by
  cases o with
  | none=>
   refine⟨_,rfl,_,rfl,J5 ⟨_,rfl,p,A1,dx,fs,_,rfl,B.hp,T.cl,T.n_done,B.ld,pd,us,rfl,.inl (SqL.of B.hd),?_⟩⟩
   rw[lu]
   exact hq
  | some d=>exact⟨_,rfl,_,rfl,C8 ⟨_,rfl,hq⟩⟩
 refine beh _ ?_
 generalize o.getD log.length=c at cle q
 clear beh
 refine⟨_,rfl,_,_,rfl,rfl,_,rfl,B6 (fun q=>absurd (z0Q q) (by lia)) fun _=>⟨_,rfl,_,rfl,p,A1,dx,fs,_,rfl,B.hp,T.cl,T.n_done,B.ld,pd,us,rfl,.inl (SqL.of B.hd),_,_,rfl,rfl,_,rfl,B6 (fun q=>absurd (z0Q q) (by lia)) fun _=>?_⟩⟩
 refine⟨_,rfl,p,dx,fs,rfl,B.hp,B.lm _ (by simp),_,rfl,p,_,zs,r,k,rows,log,rd,rfl,bk,r1,r2,?_⟩
 refine⟨_,rfl,p,A1,dx,fs,_,rfl,B.hp,T.cl,T.n_office,B.lo,po,A0,dxo,fso,_,rfl,h1,TO.cl,TO.n_names,l1,_,rfl,p,A1,dx,fs,_,rfl,B.hp,T.cl,T.n_office,B.lo,po,A0,dxo,fso,_,rfl,h1,TO.cl,TO.n_reach,l2,fun x dxs nx ndx ne=>?_⟩
 have m1:=z7v (C:=A2) (A4.refl H) nx ndx
 refine⟨x,dxs,pno,zs,r,rfl,z03,ne,by rw[z0f ne,z03],.inr (m1 _ _ h3),g,r0,r10,fun fq H1 ff sb sh=>⟨rfl,?_⟩⟩
 have s1:A4 H H1:=z7V sb m1 nx
 have f1:∀b∈fq,H b=none:=fun b hb=>z6k m1 nx ndx (ff b hb)
 have sh1:ShD K A2 H1 x fq zs r (fun n=>z18 rows n r) []:=sh _
 refine⟨_,rfl,p,A1,dx,fs,_,rfl,s1 _ _ B.hp,T.cl,T.n_done,B.ld,_,rfl,_,rfl,pd,_,rfl,SqL.of (s1 _ _ B.hd),fun lq hlq=>?_⟩
 rw[y3b (by lia)]
 have s2:=s1.trans (z01 hlq (.lst (us.take c)))
 have e2:upd H1 lq (.lst (us.take c)) lq=some (.lst (us.take c)):=z03
 have sh2:=P1.same sh1 (z01 hlq (.lst (us.take c)))
 have f2:lq∉fq:=fun m=>by
  obtain⟨o,e,_⟩:=P1.own sh1 lq m
  rw[hlq] at e
  cases e
 generalize upd H1 lq (.lst (us.take c))=H2 at s2 e2 sh2
 have nt2:z4n H2 fq:=P1.V0 sh2
 have out:∀{b:Addr}{o:HO},H b=some o->b∉fq:=fun e m=>by rw[f1 _ m] at e;cases e
 have lt:(us.take c).length=c:=by rw[bM];lia
 refine⟨lq,rfl,⟨_,SqL.of e2⟩,z2u (K:=K) (a:=lq) (xs:=us.take c) (fun i σ H'=>∃(fq':List Addr) (o5:Option V),z0t fq H2 H'/\ShD K A2 H' x fq' zs r (fun n=>z18 rows n r) (O5 ((log.take c).take i) rd)/\(∀b∈fq',b∈fq\/H2 b=none)/\
   σ=[some (.ref p),some (.int rd),some (w0Z o),some (.int c),some (.ref x),o5]) ⟨fq,none,.of (A4.refl _),sh2,fun b m=>.inl m,rfl⟩ (fun i σ H' _ ⟨_,_,bt,_⟩=>SqL.of (bt _ _ e2 f2)) ?_ ?_⟩
 ·rintro i u σ H' hi ⟨fq',o5,bt,shx,ffx,rfl⟩
  obtain⟨d,ed,b,rfl,hb⟩:=y1G B.ds c i u hi
  have sk:∀{b:Addr}{o:HO},H b=some o->H' b=some o:=fun e=>bt _ _ (s2 _ _ e) (out e)
  have hin:=B.in1 d (dE (bZ ed))
  have l2d:2≤(z2G d).length:=by
   obtain⟨a,m⟩:=d
   cases a
   ·show 2≤2;decide
   ·show 2≤3;decide
  have cut:∀(Qk:VK),(∀(t1:Addr) (G:Hp),A4 H' G->G t1=some (.tup ((z2G d).take 2))->Qk (.ref t1) G)->rSlA K (.ref b) none (some 2) H' Qk:=fun Qk hq=>by
   refine⟨b,_,rfl,SqT.of (sk hb),fun hw=>hq b H' (A4.refl _) ?_,fun _ t1 ht1=>hq t1 _ (z01 ht1 _) ?_⟩
   ·rw[sk hb,d5]
    have:=hw.2
    have e:HT.sIx (z2G d).length (z2G d).length (some (2:Int))=min 2 (z2G d).length:=HT.y44 _ _ 2
    lia
   ·rw[z03]
    exact congrArg (fun z=>some (HO.tup z)) (y3b (k:=2) l2d)
  refine⟨_,rfl,_,rfl,cut _ fun t1 G sG e1'=>⟨_,rfl,(by show 2≤sizeLine;decide),fun t2 ht2=>?_⟩⟩
  have s3:=sG.trans (z01 ht2 (.tup [V.str "deliver",V.int rd]))
  have e3:upd G t2 (.tup [V.str "deliver",V.int rd]) t1=some (.tup ((z2G d).take 2)):=z01 ht2 _ _ _ e1'
  have e4:upd G t2 (.tup [V.str "deliver",V.int rd]) t2=some (.tup [V.str "deliver",V.int rd]):=z03
  generalize upd G t2 (.tup [V.str "deliver",V.int rd])=H3 at s3 e3 e4
  have fl:((z2G d).take 2).all z1t=true:=by
   obtain⟨a,m⟩:=d
   cases a<;>rfl
  refine⟨t1,t2,_,_,rfl,rfl,SqT.of e3,SqT.of e4,fl,rfl,_,rfl,?_⟩
  rw[y5m,z0C ed,z9V]
  have sh3:=P1.same shx s3
  refine B6 (fun cc=>?_) (fun cc=>?_)
  ·have c':=z0Q cc
   rw[if_pos c']
   obtain⟨a,n⟩:=d
   have ea:a=some rd:=c'
   subst ea
   obtain⟨d1,g1,z1,w1⟩:=P1.ins sh3
   refine⟨_,rfl,x,d1,g1,rfl,z1,w1 _ (by simp),_,rfl,p,A1,dx,fs,_,rfl,s3 _ _ (sk B.hp),T.cl,T.n_office,B.lo,po,dxo,fso,rfl,s3 _ _ (sk h1),lmo _ (by simp),_,rfl,b,_,2,_,rfl,rfl,SqT.of (s3 _ _ (sk hb)),rfl,po,fo,zs,r,rows,n,rfl,?_,hin.1,hin.2,fun v H4 s4 tv=>?_⟩
   ·exact T3.same (T3.keep (T3.same B.of s2) bt (fun b m z=>by
     obtain⟨o,e,_⟩:=T3.own B.of b z
     exact out e m) nt2) s3
   have n60:rows.length≤60:=by
    obtain⟨_,_,_,_,_,_,_,_,_,_,_,_,_,_,_,n60,_⟩:=B.of
    exact n60
   refine⟨x,v,fq',zs,r,_,_,n,_,rfl,P1.same sh3 s4,tv,rfl,hin.1,by have:=hin.2;have:n≤rows.length:=this;lia,fun fq2 H5 ff5 sb5 sh5=>?_⟩
   have g4:=s3.trans s4
   exact⟨fq2,_,(fun b o e nb=>sb5 b o (g4 _ _ (bt b o e nb)) fun m=>(ffx b m).elim nb fun z=>by rw[e] at z;cases z),sh5,y6s bt ffx g4 ff5,rfl⟩
  ·have c':=z46 cc
   rw[if_neg c']
   exact⟨fq',_,fun b o e nb=>s3 _ _ (bt b o e nb),sh3,ffx,rfl⟩
 ·rintro σ H' ⟨fq',o5,bt,shx,ffx,rfl⟩
  rw[lt,List.take_take,Nat.min_self] at shx
  exact⟨_,rfl,q x fq' H' (fun b m=>(ffx b m).elim (f1 b) fun z=>s2.free z) (fun b o e=>bt _ _ (s2 _ _ e) (out e)) shx⟩
theorem C3.keep{H H':Hp}{us:List V}{log:List B7}(s:A4 H H')(h:Paired (z2e H) us log):Paired (z2e H') us log:=
 L2.Paired.X0 h fun u d ⟨b,e,q⟩=>⟨b,e,s _ _ q⟩
noncomputable def HT(H:Hp)(u:V)(p:Str×Int):Prop:=∃b,u=.ref b/\H b=some (.tup [.str p.1,.int p.2])
theorem y4E{H:Hp}:∀{w:Row}{xs:List V},z0b H (w.map z9c) xs->Paired (HT H) xs w
 | [],xs,h=>by
  rw[z0W h]
  exact .nil
 | p::w,xs,h=>by
  obtain⟨x,r,rfl,t,h'⟩:=z0g h
  obtain⟨a,us,rfl,ea,_,tu⟩:=z0q (show A9 H (.tup [.str p.1,.int p.2]) x from t)
  obtain⟨y1,r1,rfl,t1,h3⟩:=z0g tu
  obtain⟨y2,r2,rfl,t2,h4⟩:=z0g h3
  have:=z0W h4
  subst this
  rw[z4r t1,z1e t2] at ea
  exact .cons ⟨a,rfl,ea⟩ (y4E h')
noncomputable def y5P(Sh:ShP):Sp:=fun vs H Q _=>∃(x:Addr) (fp:List Addr) (nm:List Str) (r:Int) (rows:List Row) (had:List Int),vs=[.ref x]/\Sh H x fp nm r (fun n=>z18 rows n r) had/\J8 nm/\Rws nm rows/\rows.length≤60/\(∀n∈had,1≤n/\n≤rows.length)/\0≤r/\r≤10/\
 ∀(v:V) (H':Hp),A4 H H'->A9 H' (y4a nm (z0u had) rows r) v->Q v H'
theorem y2t(nm:List Str)(ns:List Int)(rows:List Row)(r:Int):(y4a nm ns rows r).deep≤2:=z16 fun d hd=>by
 obtain⟨z,_,rfl⟩:=cF.mp hd
 unfold Z8
 refine z16 fun d hd=>?_
 rcases bC.mp hd with rfl|hd
 ·exact z37 _ _
 rcases bC.mp hd with rfl|hd
 ·exact z37 _ _
 rcases bC.mp hd with rfl|hd
 ·exact z1s _ _
 rw[bA.mp hd]
 cases z2i (z0u ns) rows z with
 | none=>unfold y4T DV.deep;exact cQ _
 | some p=>exact z1s _ _
noncomputable def z96(Sh:ShP):Sp:=fun vs H Q _=>∃(x:Addr) (fp:List Addr) (nm:List Str) (r:Int) (rows:List Row) (had:List Int),vs=[.ref x]/\Sh H x fp nm r (fun n=>z18 rows n r) had/\J8 nm/\Rws nm rows/\rows.length≤60/\(∀n∈had,1≤n/\n≤rows.length)/\0≤r/\r≤10/\
 ∀(v:V) (H':Hp),A4 H H'->A9 H' (.tup (z6W (z0u had) rows r)) v->Q v H'
noncomputable def y5U(K:PySem.W.Frag):Sp:=fun vs H Q _=>∃(p:Addr) (ns:List Int),vs=[.ref p]/\SqI K H p ns/\(∀x∈ns,1≤x/\x≤60)/\
 ∀(l:Addr) (H':Hp),H l=none->A4 H H'->H' l=some (.tup ((z1Y ns).map V.int))->Q (.ref l) H'
theorem y65(M:Bl mg)(F:Fun K "lacking_numbers" "lacking_numbers" z2D f fd):A8 P w K mg base CX0 1 f fd z2H (y5U K):=by
 have nd:=z3s.nd
 refine F.ok z3s (fun vs H Q E h=>?_) (fun cdv A outer s H vs Q E hr h=>?_)
 ·obtain⟨p,ns,rfl,_⟩:=h
  rfl
 obtain⟨p,ns,rfl,hS,C7,q⟩:=h
 refine⟨_,(z04 (z0k (i:=1) nd rfl (Or.inl rfl) (y3w rfl rfl M.max (z00 (pv 0) z02) (z9f z06 y1B))) (z05 (z0d (z0v z0p rfl M.tuple bT (z00 (z1n ["number"] ["had"] [0] rfl (z0w rfl (by decide +kernel) rfl (by decide +kernel) rfl rfl) (z5C rfl M.range (z00 z06 (z00 (z0e z1q (pv 1) z06) z02))) (fun _ _ _ _ _=>(z0m (i:=0) (show((["number"]:List PySem.Str)++(["had"]:List PySem.Str)).Nodup from by decide +kernel) rfl (Or.inl rfl))) (z0B (by decide)) z0c (fun _ _ _ _ _=>(z2m (z0a (r:=rIn K true) z1H (pv 0) (pv 1) (by with_unfolding_all rfl)))) (fun _ _ _ _ _=>(pv 0))) z02))))),?_⟩
 refine⟨_,rfl,p,ns,.int 0,rfl,rfl,hS,fun hnil=>?_,fun m hm top=>?_⟩
 ·subst hnil
  refine⟨_,rfl,_,_,rfl,rfl,_,_,rfl,⟨by decide,by decide,by decide,by decide⟩,?_⟩
  refine z92 (lo:=1) (n:=0) (fun _=>true) (fun k=>.int k) (by decide) (fun k ys N k0 k1 hN=>by lia) ?_
  intro D hD
  refine⟨D,_,rfl,.inl ⟨SqL.of z03,fun l hl=>?_⟩⟩
  have h1:H l=none:=(z01 hD _).free hl
  refine q l _ h1 ((z01 hD _).trans (z01 hl _)) ?_
  rw[z03,y02]
  rfl
 ·have hm':=C7 m hm
  refine⟨_,rfl,_,_,rfl,rfl,_,_,rfl,⟨by decide,by decide,by lia,by lia⟩,?_⟩
  refine z92 (lo:=1) (n:=(m+1-1).toNat) (fun k=>!decide (k∈ns)) (fun k=>.int k) (by lia) (fun k ys N k0 k1 hN=>?_) ?_
  ·refine⟨_,rfl,_,rfl,p,_,rfl,hS,rfl,z3w ns,_,rfl,?_⟩
   rw[if_pos rfl,z4G]
   refine B6 (fun c=>?_) (fun c=>?_)
   ·rw[if_pos c] at hN
    exact⟨_,rfl,hN⟩
   ·rw[if_neg c] at hN
    exact hN
  ·intro D hD
   refine⟨D,_,rfl,.inl ⟨SqL.of z03,fun l hl=>?_⟩⟩
   have h1:H l=none:=(z01 hD _).free hl
   refine q l _ h1 ((z01 hD _).trans (z01 hl _)) ?_
   rw[z03]
   have e:z2L (fun k=>!decide (k∈ns)) (fun k=>V.int k) (upI 1 (m+1-1).toNat)=(z1Y ns).map V.int:=by
    unfold z2L
    rw[y4k hm C7 top]
   rw[e]
noncomputable def y1W(K:PySem.W.Frag):Sp:=fun vs H Q _=>∃(p:Addr) (ns:List Int) (n r:Int),vs=[.ref p,.int n,.int r]/\SqI K H p ns/\(∀x∈ns,1≤x/\x≤60)/\ns.length≤900/\
 ∀H',A4 H H'->Q (.int (z14 ns n r)) H'
theorem y3y(M:Bl mg)(F:Fun K "teller_of" "teller_of" z5Z f fd):A8 P w K mg base CX0 1 f fd z6f (y1W K):=by
 have nd:=z7E.nd
 refine F.ok z7E (fun vs H Q E h=>?_) (fun cdv A outer s H vs Q E hr h=>?_)
 ·obtain⟨p,ns,n,r,rfl,_⟩:=h
  rfl
 obtain⟨p,ns,n,r,rfl,hS,C7,hlen,q⟩:=h
 have fin:∀D,H D=none->(z2L (fun y=>decide (n<y) && decide (y-r≤n)) (fun y=>V.int y) ns=(ns.filter fun y=>decide (n<y) && decide (y-r≤n)).map V.int):=fun _ _=>rfl
 have w0B:(ns.filter fun y=>decide (n<y) && decide (y-r≤n))=[]->z14 ns n r=0:=fun e=>z6d fun y hy h1 h2=>by
  have:y∈ns.filter fun y=>decide (n<y) && decide (y-r≤n):=cM.mpr ⟨hy,by rw[decide_eq_true h1,decide_eq_true h2];rfl⟩
  rw[e] at this
  cases this
 have w0z:∀m,m∈(ns.filter fun y=>decide (n<y) && decide (y-r≤n))->(∀y∈(ns.filter fun y=>decide (n<y) && decide (y-r≤n)),m≤y)->z14 ns n r=m:=fun m hm hl=>by
  rw[cM,bU,decide_eq_true_eq,decide_eq_true_eq] at hm
  exact y1o C7 hm.1 hm.2.1 hm.2.2 fun y hy h1 h2=>hl y (cM.mpr ⟨hy,by rw[decide_eq_true h1,decide_eq_true h2];rfl⟩)
 rcases hS with hS|hS
 ·refine⟨_,(z04 (z4s (i:=3) ["above"] ["number","reach"] [1,2] rfl nd rfl (Or.inl rfl) (z0w rfl (by decide +kernel) rfl (by decide +kernel) rfl rfl) (z1r (pv 0)) (fun _ _ _ _ _=>(z0m (i:=0) (show((["above"]:List PySem.Str)++(["number","reach"]:List PySem.Str)).Nodup from by decide +kernel) rfl (Or.inl rfl))) (z0B (by decide)) z0c (fun _ _ _ _ _=>(z2m (PW.pt (z4j (z0a z1N (pv 0) (pv 1) (z0h _)) (z3N (z0a y6p (z0e z2J (pv 0) (pv 2)) (pv 1) (z0h _))))))) (fun _ _ _ _ _=>(pv 0))) (z05 (z0d (y35 rfl rfl M.min (z00 (pv 3) z02) (z9f z06 y1B))))),?_⟩
  refine⟨_,rfl,p,rfl,⟨_,hS⟩,?_⟩
  refine y0c (ns:=ns) (fun y=>decide (n<y) && decide (y-r≤n)) (fun y=>.int y) hS (by lia) (fun y ys N hy hN=>?_) (fun D hD=>?_)
  ·refine⟨_,rfl,_,rfl,_,_,rfl,rfl,_,rfl,?_⟩
   refine B6 (fun c=>?_) (fun c=>?_)
   ·refine⟨_,rfl,_,rfl,_,_,rfl,rfl,_,rfl,_,_,rfl,rfl,_,rfl,?_⟩
    rw[c,fQ] at hN
    refine B6 (fun c2=>?_) (fun c2=>?_)
    ·rw[if_pos c2] at hN
     exact⟨_,rfl,hN⟩
    ·rw[if_neg c2] at hN
     exact hN
   ·rw[fE.mpr c,fZ] at hN
    exact C8 hN
  ·refine⟨_,rfl,D,_,.int 0,rfl,rfl,.inl (SqL.of z03),fun e=>?_,fun m hm hl=>?_⟩
   ·have:=q _ (z01 hD (.lst (z2L (fun y=>decide (n<y) && decide (y-r≤n)) (fun y=>V.int y) ns)))
    rw[w0B e] at this
    exact this
   ·have:=q _ (z01 hD (.lst (z2L (fun y=>decide (n<y) && decide (y-r≤n)) (fun y=>V.int y) ns)))
    rw[w0z m hm hl] at this
    exact this
 ·refine⟨_,(z04 (z4s (i:=3) ["above"] ["number","reach"] [1,2] rfl nd rfl (Or.inl rfl) (z0w rfl (by decide +kernel) rfl (by decide +kernel) rfl rfl) (z3W (pv 0)) (fun _ _ _ _ _=>(z0m (i:=0) (show((["above"]:List PySem.Str)++(["number","reach"]:List PySem.Str)).Nodup from by decide +kernel) rfl (Or.inl rfl))) (z0B (by decide)) z0c (fun _ _ _ _ _=>(z2m (PW.pt (z4j (z0a z1N (pv 0) (pv 1) (z0h _)) (z3N (z0a y6p (z0e z2J (pv 0) (pv 2)) (pv 1) (z0h _))))))) (fun _ _ _ _ _=>(pv 0))) (z05 (z0d (y35 rfl rfl M.min (z00 (pv 3) z02) (z9f z06 y1B))))),?_⟩
  refine⟨_,rfl,p,rfl,⟨_,hS⟩,?_⟩
  refine z8I (ns:=ns) (fun y=>decide (n<y) && decide (y-r≤n)) (fun y=>.int y) hS (by lia) (fun y ys N hy hN=>?_) (fun D hD=>?_)
  ·refine⟨_,rfl,_,rfl,_,_,rfl,rfl,_,rfl,?_⟩
   refine B6 (fun c=>?_) (fun c=>?_)
   ·refine⟨_,rfl,_,rfl,_,_,rfl,rfl,_,rfl,_,_,rfl,rfl,_,rfl,?_⟩
    rw[c,fQ] at hN
    refine B6 (fun c2=>?_) (fun c2=>?_)
    ·rw[if_pos c2] at hN
     exact⟨_,rfl,hN⟩
    ·rw[if_neg c2] at hN
     exact hN
   ·rw[fE.mpr c,fZ] at hN
    exact C8 hN
  ·refine⟨_,rfl,D,_,.int 0,rfl,rfl,.inl (SqL.of z03),fun e=>?_,fun m hm hl=>?_⟩
   ·have:=q _ (z01 hD (.lst (z2L (fun y=>decide (n<y) && decide (y-r≤n)) (fun y=>V.int y) ns)))
    rw[w0B e] at this
    exact this
   ·have:=q _ (z01 hD (.lst (z2L (fun y=>decide (n<y) && decide (y-r≤n)) (fun y=>V.int y) ns)))
    rw[w0z m hm hl] at this
    exact this
def Pr(H:Hp)(u:V)(p:Int×Int):Prop:=∃a,u=.ref a/\H a=some (.tup [.int p.1,.int p.2])
theorem Pr.keep{H H':Hp}(s:A4 H H'){u:V}{p:Int×Int}(h:Pr H u p):Pr H' u p:=let ⟨a,e,q⟩:=h;⟨a,e,s _ _ q⟩
abbrev Prs(H:Hp):List V->List (Int×Int)->Prop:=Paired (Pr H)
theorem Prs.keep{H H':Hp}(s:A4 H H'):∀{xs:List V}{ps:List (Int×Int)},Prs H xs ps->Prs H' xs ps
 | _,_,.nil=>.nil
 | _,_,.cons r t=>.cons (r.keep s) (Prs.keep s t)
theorem Prs.get{H:Hp}:∀{xs:List V}{ps:List (Int×Int)},Prs H xs ps->∀(i:Nat) (u:V),xs[i]? = some u->∃p,ps[i]? = some p/\Pr H u p
 | _,_,.nil,i,u,e=>by simp at e
 | _,_,.cons r t,0,u,e=>by
  simp at e
  subst e
  exact⟨_,rfl,r⟩
 | _,_,.cons r t,i+1,u,e=>by
  obtain⟨p,h1,h2⟩:=Prs.get t i u (by simpa using e)
  exact⟨p,by simpa using h1,h2⟩
theorem Prs.snoc{H:Hp}{xs:List V}{ps:List (Int×Int)}{u:V}{p:Int×Int}(h:Prs H xs ps)(q:Pr H u p):Prs H (xs++[u]) (ps++[p]):=gZ h q
theorem Prs.len{H:Hp}:∀{xs:List V}{ps:List (Int×Int)},Prs H xs ps->xs.length=ps.length
 | _,_,.nil=>rfl
 | _,_,.cons _ t=>by rw[bY,bY,Prs.len t]
noncomputable def U9(ns:List Int)(r:Int):List (Int×Int):=(z1Y ns).map fun n=>(n,z14 ns n r)
noncomputable def z9w(ns:List Int)(r:Int):List Int:=((U9 ns r).filter fun q=>decide (q.2=0)).map Prod.fst
noncomputable def y6v(K:PySem.W.Frag):Sp:=fun vs H Q _=>∃(p:Addr) (ns:List Int) (r:Int),vs=[.ref p,.int r]/\SqI K H p ns/\(∀x∈ns,1≤x/\x≤60)/\ns.length≤900/\
 ∀(l:Addr) (xs:List V) (H':Hp),A4 H H'->H' l=some (.tup xs)->Prs H' xs (U9 ns r)->Q (.ref l) H'
theorem y7t(M:Bl mg)(F:Fun K "lacking_with_tellers" "lacking_with_tellers" z1G f fd)(K2:Cal P w K mg base 1 "lacking_numbers" z2H (y5U K))
  (R0:Cal P w K mg base 1 "teller_of" z6f (y1W K)):A8 P w K mg base CX0 2 f fd z1f (y6v K):=by
 have nd:=z2c.nd
 refine F.ok z2c (fun vs H Q E h=>?_) (fun cdv A outer s H vs Q E hr h=>?_)
 ·obtain⟨p,ns,r,rfl,_⟩:=h
  rfl
 obtain⟨p,ns,r,rfl,hS,C7,hlen,q⟩:=h
 refine⟨_,(z05 (z0d (z0v z0p rfl M.tuple bT (z00 (z1n ["number"] ["had","reach"] [0,1] rfl (z0w rfl (by decide +kernel) rfl (by decide +kernel) rfl rfl) (z3W (z0l K2 (rm hr) rfl (z00 (pv 0) z02))) (fun _ _ _ _ _=>(z0m (i:=0) (show((["number"]:List PySem.Str)++(["had","reach"]:List PySem.Str)).Nodup from by decide +kernel) rfl (Or.inl rfl))) (z0B (by decide)) z0c (fun _ _ _ _ _=>z20) (fun _ _ _ _ _=>(z0X (z00 (pv 0) (z00 (z0l R0 (rm hr) rfl (z00 (pv 1) (z00 (pv 0) (z00 (pv 2) z02)))) z02))))) z02)))),?_⟩
 refine⟨_,rfl,p,ns,rfl,hS,C7,fun lt H1 nlt s1 e1=>⟨lt,rfl,⟨_,SqT.of e1⟩,?_⟩⟩
 have ll:=z2x ns
 refine z27 (xs:=(z1Y ns).map V.int) (fun i ys H'=>A4 H1 H'/\Prs H' ys (((z1Y ns).take i).map fun n=>(n,z14 ns n r))) ⟨A4.refl _,.nil⟩ (fun i ys H' hi hp=>?_) (fun i x ys H' hx hp=>?_) (fun ys H' hp=>?_)
 ·obtain⟨g,pr⟩:=hp
  refine⟨SqT.of (g _ _ e1),z0i ?_⟩
  rw[pr.len,b6,bM]
  lia
 ·obtain⟨g,pr⟩:=hp
  rw[bL] at hx
  cases e:(z1Y ns)[i]? with
  | none=>rw[e] at hx;cases hx
  | some n=>
   rw[e] at hx
   cases hx
   refine⟨_,rfl,_,rfl,_,rfl,_,rfl,p,ns,n,r,rfl,SqI.keep (s1.trans g) hS,C7,hlen,fun H2 g2=>⟨(by show 2≤sizeLine;decide),fun t ht=>?_⟩⟩
   refine⟨g.trans (g2.trans (z01 ht _)),?_⟩
   rw[z0C e,bI]
   exact Prs.snoc (pr.keep (g2.trans (z01 ht _))) ⟨t,rfl,z03⟩
 ·obtain⟨g,pr⟩:=hp
  rw[b6,bW] at pr
  intro D hD
  refine⟨D,_,rfl,.inl ⟨SqL.of z03,fun l hl=>?_⟩⟩
  exact q l ys _ (s1.trans (g.trans ((z01 hD _).trans (z01 hl _)))) z03 (pr.keep ((z01 hD _).trans (z01 hl _)))
noncomputable def y5D(K:PySem.W.Frag):Sp:=fun vs H Q _=>∃(p:Addr) (ns:List Int) (r:Int),vs=[.ref p,.int r]/\SqI K H p ns/\(∀x∈ns,1≤x/\x≤60)/\ns.length≤900/\
 ∀(l:Addr) (H':Hp),A4 H H'->H' l=some (.tup ((z9w ns r).map V.int))->Q (.ref l) H'
theorem y33(ns:List Int)(r:Int):(U9 ns r).length≤60:=by
 unfold U9
 rw[b6]
 exact z2x ns
theorem y6O(M:Bl mg)(F:Fun K "dark_numbers" "dark_numbers" z3M f fd)(C1:Cal P w K mg base 2 "lacking_with_tellers" z1f (y6v K)):A8 P w K mg base CX0 3 f fd z3D (y5D K):=by
 have nd:=z4U.nd
 refine F.ok z4U (fun vs H Q E h=>?_) (fun cdv A outer s H vs Q E hr h=>?_)
 ·obtain⟨p,ns,r,rfl,_⟩:=h
  rfl
 obtain⟨p,ns,r,rfl,hS,C7,hlen,q⟩:=h
 refine⟨_,(z05 (z0d (z0v z0p rfl M.tuple bT (z00 (z1n ["number","teller"] [] [] rfl (z0w rfl (by decide +kernel) rfl (by decide +kernel) rfl rfl) (z3W (z0l C1 (rm hr) rfl (z00 (pv 0) (z00 (pv 1) z02)))) (fun _ _ _ _ _=>(z90 (K:=K) (n:=2) rfl rfl (z1g (z0m (i:=0) (show((["number","teller"]:List PySem.Str)++([]:List PySem.Str)).Nodup from by decide +kernel) rfl (Or.inl rfl)) (z1g (z0m (i:=1) (show((["number","teller"]:List PySem.Str)++([]:List PySem.Str)).Nodup from by decide +kernel) rfl (Or.inl rfl)) z4t)))) (z8Y (z1L (z0B (by decide)) z0c (z1L (z0B (by decide)) z0c z6l z0Z) (z0O z0c z0Z))) (z72 (z0O z0c (z0O z0c z0Z))) (fun _ _ _ _ _=>(z2m (z0a z2y (pv 1) z06 (z0h _)))) (fun _ _ _ _ _=>(pv 0))) z02)))),?_⟩
 refine⟨_,rfl,_,rfl,p,ns,r,rfl,hS,C7,hlen,fun lt xs H1 s1 e1 pr1=>⟨lt,rfl,⟨_,SqT.of e1⟩,?_⟩⟩
 have ll:=y33 ns r
 have lx:=pr1.len
 refine z27 (xs:=xs) (fun i ys H'=>H'=H1/\ys=(((U9 ns r).take i).filter fun q=>decide (q.2=0)).map fun q=>V.int q.1) ⟨rfl,rfl⟩ (fun i ys H' hi hp=>?_) (fun i x ys H' hx hp=>?_) (fun ys H' hp=>?_)
 ·obtain⟨rfl,rfl⟩:=hp
  refine⟨SqT.of e1,z0i ?_⟩
  have h1:=cE (fun q:Int×Int=>decide (q.2=0)) ((U9 ns r).take i)
  rw[b6]
  rw[bM] at h1
  lia
 ·obtain⟨rfl,rfl⟩:=hp
  obtain⟨⟨n,t⟩,e,a,rfl,ha⟩:=pr1.get i x hx
  refine⟨a,_,rfl,SqT.of ha,rfl,_,_,rfl,_,_,rfl,rfl,?_⟩
  refine⟨_,rfl,rfl,_,rfl,?_⟩
  rw[z0C e,cY,dG,bI]
  refine B6 (fun c=>?_) (fun c=>?_)
  ·have c':decide (t=0)=true:=decide_eq_true (V.int.inj (z0Q c))
   refine⟨_,rfl,rfl,?_⟩
   rw[if_pos c']
   rfl
  ·have c':¬decide (t=0)=true:=fun z=>c (decide_eq_true (congrArg V.int (z0Q z)))
   refine⟨rfl,?_⟩
   rw[if_neg c']
   simp
 ·obtain⟨rfl,rfl⟩:=hp
  rw[lx,bW]
  intro D hD
  refine⟨D,_,rfl,.inl ⟨SqL.of z03,fun l hl=>?_⟩⟩
  refine q l _ (s1.trans ((z01 hD _).trans (z01 hl _))) ?_
  rw[z03]
  unfold z9w
  rw[eI]
  rfl
theorem y3m(ns:List Int)(r:Int):(z9w ns r).length≤60:=by
 have h:=cE (fun q:Int×Int=>decide (q.2=0)) (U9 ns r)
 have:=y33 ns r
 unfold z9w
 rw[b6]
 lia
noncomputable def y1a(ns:List Int)(r b:Int):List Int:=(z9w ns r).filter fun y=>decide (b<y)
noncomputable def y1U(K:PySem.W.Frag):Sp:=fun vs H Q _=>∃(p:Addr) (ns:List Int) (r b:Int),vs=[.ref p,.int r,.int b]/\SqI K H p ns/\(∀x∈ns,1≤x/\x≤60)/\ns.length≤900/\
 ∀(l:Addr) (H':Hp),A4 H H'->H' l=some (.tup ((y1a ns r b).map V.int))->Q (.ref l) H'
theorem y2A(M:Bl mg)(F:Fun K "dark_numbers_behind" "dark_numbers_behind" z1Q f fd)(N0:Cal P w K mg base 3 "dark_numbers" z3D (y5D K)):A8 P w K mg base CX0 4 f fd z1R (y1U K):=by
 have nd:=z2C.nd
 refine F.ok z2C (fun vs H Q E h=>?_) (fun cdv A outer s H vs Q E hr h=>?_)
 ·obtain⟨p,ns,r,b,rfl,_⟩:=h
  rfl
 obtain⟨p,ns,r,b,rfl,hS,C7,hlen,q⟩:=h
 refine⟨_,(z05 (z0d (z0v z0p rfl M.tuple bT (z00 (z1n ["number"] ["behind"] [2] rfl (z0w rfl (by decide +kernel) rfl (by decide +kernel) rfl rfl) (z3W (z0l N0 (rm hr) rfl (z00 (pv 0) (z00 (pv 1) z02)))) (fun _ _ _ _ _=>(z0m (i:=0) (show((["number"]:List PySem.Str)++(["behind"]:List PySem.Str)).Nodup from by decide +kernel) rfl (Or.inl rfl))) (z0B (by decide)) z0c (fun _ _ _ _ _=>(z2m (z0a z1N (pv 0) (pv 1) (z0h _)))) (fun _ _ _ _ _=>(pv 0))) z02)))),?_⟩
 refine⟨_,rfl,_,rfl,p,ns,r,rfl,hS,C7,hlen,fun lt H1 s1 e1=>⟨lt,rfl,⟨_,SqT.of e1⟩,?_⟩⟩
 have ll:=y3m ns r
 refine z8I (ns:=z9w ns r) (fun y=>decide (b<y)) (fun y=>.int y) (SqT.of e1) (by lia) (fun y ys N hy hN=>?_) (fun D hD=>?_)
 ·refine⟨_,rfl,_,rfl,_,_,rfl,rfl,_,rfl,?_⟩
  refine B6 (fun c=>?_) (fun c=>?_)
  ·rw[if_pos c] at hN
   exact⟨_,rfl,hN⟩
  ·rw[if_neg c] at hN
   exact hN
 ·exact⟨D,_,rfl,.inl ⟨SqL.of z03,fun l hl=>q l _ (s1.trans ((z01 hD _).trans (z01 hl _))) z03⟩⟩
noncomputable def y1x(Sh:ShP):Sp:=fun vs H Q _=>∃(p:Addr) (fp:List Addr) (zs:List Str) (r:Int) (iss:Int->DV) (had:List Int) (n:Int) (d0 d1 d2:DV),vs=[.ref p,.int n]/\Sh H p fp zs r iss had/\n∈had/\iss n=.tup [d0,d1,d2]/\∀v,A9 H d2 v->Q v H
theorem z8O{kvs:List (Key×V)}{had:List Int}(kk:kvs.map (·.1)=had.map Sum.inl){n:Int}(h:n∈had):∃v,M8 kvs (Sum.inl n:Key)=some v/\((Sum.inl n:Key),v)∈kvs:=by
 have e:=y14 kk n
 rw[decide_eq_true h] at e
 cases ev:M8 kvs (Sum.inl n:Key) with
 | none=>rw[ev] at e;cases e
 | some v=>
  refine⟨v,rfl,?_⟩
  unfold M8 at ev
  obtain⟨⟨k,u⟩,hf,rfl⟩:=cS.mp ev
  have h1:=List.mem_of_find?_eq_some hf
  have h2:=List.find?_some hf
  simp only[decide_eq_true_eq] at h2
  rw[h2] at h1
  exact h1
theorem y36{A2:Addr}(M:Bl mg)(T:F2 K mg A2)(F:Fun K "tail_of" "Shelf.tail_of" z3p f fd):A8 P w K mg base CX0 1 f fd z3h (y1x (ShD K A2)):=by
 have nd:=z4f.nd
 refine F.ok z4f (fun vs H Q E h=>?_) (fun cdv A outer s H vs Q E hr h=>?_)
 ·obtain⟨p,fp,zs,r,iss,had,n,d0,d1,d2,rfl,_⟩:=h
  rfl
 obtain⟨p,fp,zs,r,iss,had,n,d0,d1,d2,rfl,sh,hn,en,k⟩:=h
 have hu:=z9U hr
 refine⟨_,(z05 (z0d (z0N z19 (z78 hu (z0A (pv 0) rfl) (pv 1) (fun _ _=>rfl)) z06 (fun _ _=>rfl)))),?_⟩
 obtain⟨dx,pn,pd,fs,kvs,rfl,h1,h2,h3,h4,l1,l2,l3,lm,kk,ndh,all,tl,g,r0,r1⟩:=sh
 obtain⟨v,ev,mv⟩:=z8O kk hn
 have tv:=tl n v mv
 rw[en] at tv
 obtain⟨a,us,rfl,ea,_,tu⟩:=z0q tv
 obtain⟨x0,ur,rfl,t0,tu⟩:=z0g tu
 obtain⟨x1,ur,rfl,t1,tu⟩:=z0g tu
 obtain⟨x2,ur,rfl,t2,tu⟩:=z0g tu
 refine⟨_,rfl,p,A2,dx,fs,_,rfl,h1,T.cl,T.n_issues,l3,_,rfl,pd,_,rfl,(by rw[<- ev];exact Q6.k (k:=Sum.inl n) h4),?_⟩
 exact⟨a,_,_,x2,rfl,rfl,SqT.of ea,z15 rfl,k x2 t2⟩
theorem y4X(n r:Int):(z6t n r).Nodup:=by
 have h:(dnI (n-1) (n-1).toNat).Nodup:=by
  unfold dnI
  rw[cX,fF]
  exact List.pairwise_lt_range.imp fun h=>by lia
 exact h.filter _
theorem y3a{n r k:Int}:k∈z6t n r↔1≤k/\k<n/\n-k≤r:=by
 unfold z6t
 rw[cM,z97,decide_eq_true_eq]
 lia
theorem z8L{K:PySem.W.Frag}{H:Hp}{rows:List Row}:∀{ks:List Int}{xs:List V},z0b H (ks.map (y16 rows)) xs->∃kvs:List (Key×V),Paired (y3T K H) xs kvs/\kvs.map (·.1)=ks.map Sum.inl/\∀k v,((Sum.inl k:Key),v)∈kvs->A9 H (U2 (z23 (z1b rows k))) v
 | [],xs,h=>by
  rw[z0W h]
  exact⟨[],.nil,rfl,fun _ _ q=>(nomatch q)⟩
 | k::ks,xs,h=>by
  obtain⟨x,r,rfl,t,h⟩:=z0g h
  obtain⟨kvs,p1,p2,p3⟩:=z8L h
  obtain⟨a,us,rfl,ea,_,tu⟩:=z0q t
  obtain⟨x0,ur,rfl,t0,tu⟩:=z0g tu
  obtain⟨x1,ur,rfl,t1,tu⟩:=z0g tu
  have:=z0W tu
  subst this
  cases z1e t0
  refine⟨(Sum.inl k,x1)::kvs,.cons ⟨a,rfl,.inr (SqT.of ea)⟩ p1,by rw[cP,cP,p2],fun m v hv=>?_⟩
  rcases bC.mp hv with e|hv
  ·cases e
   exact t1
  ·exact p3 m v hv
noncomputable def y67(rows:List Row)(n t:Int):DV:=if t=0 then .tup [] else U2 (z23 (z1b rows n))
noncomputable def y5I(Sh:ShP):Sp:=fun vs H Q _=>∃(x:Addr) (n t:Int) (fp:List Addr) (nm:List Str) (r:Int) (rows:List Row) (had:List Int),vs=[.ref x,.int n,.int t]/\Sh H x fp nm r (fun n=>z18 rows n r) had/\(t≠0->t∈had/\t≤60/\n∈z6t t r)/\
 ∀(v:V) (H':Hp),A4 H H'->A9 H' (y67 rows n t) v->Q v H'
theorem y6A{A2:Addr}(M:Bl mg)(T:F2 K mg A2)(F:Fun K "names_told_of" "names_told_of" z3f f fd)(M6:D7 P w K mg base 1 A2 "tail_of" z3h (y1x (ShD K A2))) :
  A8 P w K mg base CX0 2 f fd z3i (y5I (ShD K A2)):=by
 have nd:=z4l.nd
 refine F.ok z4l (fun vs H Q E h=>?_) (fun cdv A outer s H vs Q E hr h=>?_)
 ·obtain⟨x,n,t,fp,nm,r,rows,had,rfl,_⟩:=h
  rfl
 obtain⟨x,n,t,fp,nm,r,rows,had,rfl,sh,ht,k⟩:=h
 have hu:=z9U hr
 refine⟨_,(z04 (z0H (z0a z2y (pv 2) z06 (z0h _)) (z05 (z0d (z0X z02))) z0j) (z05 (z0d (z78 hu (z0v (z4x (K:=K) rfl rfl) rfl M.dict gI (z00 (z1W M6 (rm hr) (pv 0) (z00 (pv 2) z02)) z02)) (pv 1) (fun _ _=>rfl))))),?_⟩
 refine⟨_,rfl,rfl,_,rfl,B6 (fun c=>?_) (fun c=>?_)⟩
 ·have c':t=0:=V.int.inj (z0Q c)
  refine⟨(by show 0≤sizeLine;decide),fun l hl=>k _ _ (z01 hl _) ?_⟩
  unfold y67
  rw[if_pos c']
  exact z0o z03 (by show 0≤1000000;decide) .nil
 ·have c':t≠0:=fun z=>c (decide_eq_true (congrArg V.int z))
  obtain⟨th,t60,tn⟩:=ht c'
  obtain⟨dx,fs,h1,lm⟩:∃dx fs,H x=some (.ins A2 dx fs)/\fs.lookup ("tail_of":Str)=none:=by
   obtain⟨dx,pn,pd,fs,kvs,_,h1,_,_,_,_,_,_,lm,_⟩:=sh
   exact⟨dx,fs,h1,lm _ (by simp)⟩
  refine⟨_,rfl,x,dx,fs,rfl,h1,lm,_,rfl,x,fp,nm,r,_,had,t,_,_,_,rfl,sh,th,rfl,fun v tv=>?_⟩
  obtain⟨a,us,rfl,ea,_,tu⟩:=z0q tv
  obtain⟨kvs,p1,p2,p3⟩:=z8L (K:=K) tu
  have lu:us.length≤1000:=by
   rw[tu.length,b6]
   unfold z6t
   have:=cE (fun k=>decide (t-k≤r)) (dnI (t-1) (t-1).toNat)
   rw[z9v] at this
   lia
  refine⟨a,us,kvs,rfl,.inr ea,p1,lu,?_,fun l hl=>?_⟩
  ·rw[p2]
   rw[cX,fF]
   exact(cX.mp (y4X t r)).imp fun h e=>h (Sum.inl.inj e)
  ·obtain⟨v,ev,mv⟩:=z8O p2 tn
   refine⟨_,rfl,l,_,rfl,(by rw[<- ev];exact Q6.k (k:=Sum.inl n) z03),?_⟩
   refine k v _ (z01 hl _) ?_
   unfold y67
   rw[if_neg c']
   exact A9.keep (z01 hl _) _ _ (p3 n v mv)
theorem y4K{had:List Int}{r n:Int}(h60:∀n∈had,1≤n/\n≤60)(hn:n∈z1Y (z0u had))(h:z14 (z0u had) n r≠0):z14 (z0u had) n r∈had/\z14 (z0u had) n r≤60/\n∈z6t (z14 (z0u had) n r) r:=by
 unfold z14 at h ⊢
 cases e:(upI 1 60).find? (y21 (z0u had) n r) with
 | none=>rw[e] at h;exact absurd rfl h
 | some y=>
  obtain⟨_,hc,_⟩:=y4c (z2a 1 60) e
  obtain⟨a,b,c⟩:=z5o.mp hc
  have hy:=(z24.mp c).2
  have:=h60 y hy
  have:=(z5x.mp hn).1
  show y∈had/\y≤60/\n∈z6t y r
  exact⟨hy,by lia,y3a.mpr (by lia)⟩
theorem y2O{A2:Addr}(M:Bl mg)(T:F2 K mg A2)(F:Fun K "gaps_of" "gaps_of" z9t f fd)(C2:D7 P w K mg base 1 A2 "had" z2j (z6s (ShD K A2)))
  (C1:Cal P w K mg base 2 "lacking_with_tellers" z1f (y6v K)) (M0:Cal P w K mg base 2 "names_told_of" z3i (y5I (ShD K A2))) :
  A8 P w K mg base CX0 3 f fd z76 (z96 (ShD K A2)):=by
 have nd:=y07.nd
 refine F.ok y07 (fun vs H Q E h=>?_) (fun cdv A outer s H vs Q E hr h=>?_)
 ·obtain⟨x,fp,nm,r,rows,had,rfl,_⟩:=h
  rfl
 obtain⟨x,fp,nm,r,rows,had,rfl,sh,gn,rw',l60,hh,r0,r1,k⟩:=h
 refine⟨_,(z04 (z0k (i:=1) nd rfl (Or.inl rfl) (z0l C1 (rm hr) rfl (z00 (z2s C2 (rm hr) (pv 0)) (z00 (z0A (pv 0) rfl) z02)))) (z05 (z0d (z0v z0p rfl M.tuple bT (z00 (z1n ["number","teller"] ["shelf"] [0] rfl (z0w rfl (by decide +kernel) rfl (by decide +kernel) rfl rfl) (z3W (pv 1)) (fun _ _ _ _ _=>(z90 (K:=K) (n:=2) rfl rfl (z1g (z0m (i:=0) (show((["number","teller"]:List PySem.Str)++(["shelf"]:List PySem.Str)).Nodup from by decide +kernel) rfl (Or.inl rfl)) (z1g (z0m (i:=1) (show((["number","teller"]:List PySem.Str)++(["shelf"]:List PySem.Str)).Nodup from by decide +kernel) rfl (Or.inl rfl)) z4t)))) (z8Y (z1L (z0B (by decide)) z0c (z1L (z0B (by decide)) z0c z6l z0Z) (z0O z0c z0Z))) (z72 (z0O z0c (z0O z0c z0Z))) (fun _ _ _ _ _=>z20) (fun _ _ _ _ _=>(z0X (z00 (pv 0) (z00 (pv 1) (z00 (z0l M0 (rm hr) rfl (z00 (pv 2) (z00 (pv 0) (z00 (pv 1) z02)))) z02)))))) z02))))),?_⟩
 have h60:∀n∈had,1≤n/\n≤60:=fun n hn=>by have:=hh n hn;lia
 obtain⟨dx,fs,h1,lm,lr⟩:∃dx fs,H x=some (.ins A2 dx fs)/\fs.lookup ("had":Str)=none/\fs.lookup ("reach":Str)=some (V.int r):=by
  obtain⟨dx,pn,pd,fs,kvs,_,h1,_,_,_,_,lr,_,lm,_⟩:=sh
  exact⟨dx,fs,h1,lm _ (by simp),lr⟩
 refine⟨_,rfl,x,dx,fs,rfl,h1,lm,x,fp,nm,r,_,had,rfl,sh,fun l H1 s1 e1=>?_⟩
 refine⟨_,rfl,x,A2,dx,fs,_,rfl,s1 _ _ h1,T.cl,T.n_reach,lr,l,z0u had,r,rfl,.inr (SqT.of e1),fun n hn=>h60 n (z24.mp hn).2,c9 (z7u had) (by decide),fun lt xs H2 s2 e2 pr2=>?_⟩
 have sh2:ShD K A2 H2 x fp nm r (fun n=>z18 rows n r) had:=P1.same sh (s1.trans s2)
 have lx:xs.length=(z1Y (z0u had)).length:=by rw[pr2.len];unfold U9;rw[b6]
 have ll:=z2x (z0u had)
 refine⟨_,rfl,lt,rfl,⟨_,SqT.of e2⟩,?_⟩
 refine z27 (xs:=xs) (fun i ys H'=>A4 H2 H'/\z0b H' (((z1Y (z0u had)).take i).map (U0 (z0u had) rows r)) ys) ⟨A4.refl _,by rw[cT];exact .nil⟩ (fun i ys H' hi hp=>?_) (fun i y ys H' hy hp=>?_) (fun ys H' hp=>?_)
 ·obtain⟨g,t⟩:=hp
  refine⟨SqT.of (g _ _ e2),z0i ?_⟩
  rw[t.length,b6,bM]
  lia
 ·obtain⟨g,t⟩:=hp
  obtain⟨⟨n,tl⟩,e,a,rfl,ha⟩:=pr2.get i y hy
  unfold U9 at e
  rw[bL] at e
  obtain⟨m,em,e3⟩:=cS.mp e
  cases e3
  refine⟨a,_,rfl,SqT.of (g _ _ ha),rfl,_,_,rfl,_,_,rfl,rfl,?_⟩
  refine⟨_,rfl,_,rfl,_,rfl,_,rfl,_,rfl,x,n,_,fp,nm,r,rows,had,rfl,P1.same sh2 g,y4K h60 (bZ em),fun v H3 s3 tv=>?_⟩
  refine⟨(by show 3≤sizeLine;decide),fun q hq=>⟨g.trans (s3.trans (z01 hq _)),?_⟩⟩
  rw[dH,em,bI]
  exact z0b.snoc (z0b.keep (s3.trans (z01 hq _)) _ _ t) (z0o z03 (by show 3≤1000000;decide) (.cons (z0D _) (.cons (z0D _) (.cons (A9.keep (z01 hq _) _ _ tv) .nil))))
 ·obtain⟨g,t⟩:=hp
  rw[lx,bW] at t
  intro D hD
  refine⟨D,ys,rfl,.inl ⟨SqL.of z03,fun q hq=>k _ _ (s1.trans (s2.trans (g.trans ((z01 hD _).trans (z01 hq _))))) (z0o z03 ?_ (z0b.keep ((z01 hD _).trans (z01 hq _)) _ _ t))⟩⟩
  unfold z6W
  rw[b6]
  lia
noncomputable def y1T(Sh:ShP):Sp:=fun vs H Q _=>∃(p:Addr) (fp:List Addr) (zs:List Str) (r:Int) (iss:Int->DV) (had:List Int) (n:Int) (d0 d1 d2:DV),vs=[.ref p,.int n]/\Sh H p fp zs r iss had/\n∈had/\iss n=.tup [d0,d1,d2]/\∀v,A9 H d1 v->Q v H
theorem y3I{A2:Addr}(M:Bl mg)(T:F2 K mg A2)(F:Fun K "rows_of" "Shelf.rows_of" z3a f fd):A8 P w K mg base CX0 1 f fd z3b (y1T (ShD K A2)):=by
 have nd:=z4b.nd
 refine F.ok z4b (fun vs H Q E h=>?_) (fun cdv A outer s H vs Q E hr h=>?_)
 ·obtain⟨p,fp,zs,r,iss,had,n,d0,d1,d2,rfl,_⟩:=h
  rfl
 obtain⟨p,fp,zs,r,iss,had,n,d0,d1,d2,rfl,sh,hn,en,k⟩:=h
 have hu:=z9U hr
 refine⟨_,(z05 (z0d (z0N z19 (z78 hu (z0A (pv 0) rfl) (pv 1) (fun _ _=>rfl)) z06 (fun _ _=>rfl)))),?_⟩
 obtain⟨dx,pn,pd,fs,kvs,rfl,h1,h2,h3,h4,l1,l2,l3,lm,kk,ndh,all,tl,g,r0,r1⟩:=sh
 obtain⟨v,ev,mv⟩:=z8O kk hn
 have tv:=tl n v mv
 rw[en] at tv
 obtain⟨a,us,rfl,ea,_,tu⟩:=z0q tv
 obtain⟨x0,ur,rfl,t0,tu⟩:=z0g tu
 obtain⟨x1,ur,rfl,t1,tu⟩:=z0g tu
 refine⟨_,rfl,p,A2,dx,fs,_,rfl,h1,T.cl,T.n_issues,l3,_,rfl,pd,_,rfl,(by rw[<- ev];exact Q6.k (k:=Sum.inl n) h4),?_⟩
 exact⟨a,_,_,x1,rfl,rfl,SqT.of ea,z15 rfl,k x1 t1⟩
theorem z9L{K:PySem.W.Frag}{H:Hp}:∀{w:Row}{xs:List V},z0b H (w.map z9c) xs->Paired (y3T K H) xs (w.map kvR)
 | [],xs,h=>by
  rw[z0W h]
  exact .nil
 | p::w,xs,h=>by
  obtain⟨x,r,rfl,t,h'⟩:=z0g h
  obtain⟨a,us,rfl,ea,_,tu⟩:=z0q t
  obtain⟨x0,ur,rfl,t0,tu⟩:=z0g tu
  obtain⟨x1,ur,rfl,t1,tu⟩:=z0g tu
  have:=z0W tu
  subst this
  rw[z4r t0,z1e t1] at ea
  exact .cons ⟨a,rfl,.inr (SqT.of ea)⟩ (z9L h')
theorem w1J(w:Row)(z:Str):∀acc:Option Int,w.foldl (fun acc p=>if p.1=z then some p.2 else acc) acc=match R7 w z with|some v=>some v|none=>acc:=by
 unfold R7
 induction w with
 | nil=>intro acc;rfl
 | cons p w ih=>
  intro acc
  rw[dJ,dJ,ih,ih (if p.1=z then some p.2 else none)]
  cases w.foldl (fun acc p=>if p.1=z then some p.2 else acc) none with
  | some v=>rfl
  | none=>
   by_cases h:p.1=z
   ·rw[if_pos h,if_pos h]
   ·rw[if_neg h,if_neg h]
theorem y04(p:Str×Int)(w:Row)(z:Str):R7 (p::w) z=match R7 w z with|some v=>some v|none=>if p.1=z then some p.2 else none:=by
 conv=>lhs;unfold R7
 rw[dJ,w1J]
theorem y34{w:Row}{z:Str}(h:z∉w.map Prod.fst):R7 w z=none:=by
 induction w with
 | nil=>rfl
 | cons p w ih=>
  rw[cP,bC,not_or] at h
  rw[y04,ih h.2,if_neg (fun e=>h.1 e.symm)]
theorem y0M{z:Str}:∀{w:Row},(w.map Prod.fst).Nodup->M8 (w.map kvR) (Sum.inr z:Key)=(R7 w z).map V.int
 | [],_=>rfl
 | p::w,h=>by
  rw[cP,dA] at h
  rw[cP,y04]
  by_cases e:p.1=z
  ·rw[z5I (show(kvR p).1=Sum.inr z by unfold kvR;rw[e]),y34 (e ▸ h.1),if_pos e]
   rfl
  ·rw[z5M (show ¬(kvR p).1=Sum.inr z from fun q=>e (Sum.inr.inj q)),y0M h.2,if_neg e]
   cases R7 w z<;>rfl
theorem y77{nm:List Str}{rows:List Row}(g:J8 nm)(R:Rws nm rows)(n:Int):((z1b rows n).map Prod.fst).Nodup:=by
 unfold z1b
 rw[bV]
 cases e:rows[(n-1).toNat]? with
 | none=>exact .nil
 | some w=>exact(R.sub w (bZ e)).nodup g.nd
theorem y6r{nm:List Str}{rows:List Row}(g:J8 nm)(R:Rws nm rows)(n:Int):(z1b rows n).length≤12:=by
 unfold z1b
 rw[bV]
 cases e:rows[(n-1).toNat]? with
 | none=>exact cQ _
 | some w=>
  have h:=(R.sub w (bZ e)).length_le
  rw[b6] at h
  exact c9 h g.hi
noncomputable def z5L(Sh:ShP):Sp:=fun vs H Q _=>∃(x:Addr) (z:Str) (fp:List Addr) (nm:List Str) (r:Int) (rows:List Row) (had:List Int),vs=[.ref x,.str z]/\Sh H x fp nm r (fun n=>z18 rows n r) had/\z∈nm/\J8 nm/\Rws nm rows/\
 ∀(v:V) (H':Hp),A4 H H'->A9 H' (y3o (z2i (z0u had) rows z)) v->Q v H'
theorem y29{A2:Addr}(M:Bl mg)(T:F2 K mg A2)(F:Fun K "held_for" "held_for" z7L f fd)(B3:Cal P w K mg base 1 "refuse_unknown_name" z0M (y2e K))
  (C2:D7 P w K mg base 1 A2 "had" z2j (z6s (ShD K A2))) (M4:D7 P w K mg base 1 A2 "rows_of" z3b (y1T (ShD K A2))) :
  A8 P w K mg base CX0 2 f fd z4m (z5L (ShD K A2)):=by
 have nd:=z8m.nd
 refine F.ok z8m (fun vs H Q E h=>?_) (fun cdv A outer s H vs Q E hr h=>?_)
 ·obtain⟨x,z,fp,nm,r,rows,had,rfl,_⟩:=h
  rfl
 obtain⟨x,z,fp,nm,r,rows,had,rfl,sh,hz,gn,R,k⟩:=h
 have hu:=z9U hr
 refine⟨_,(z04 (z0x (z0l B3 (rm hr) rfl (z00 (z0A (pv 0) rfl) (z00 (pv 1) z02)))) (z04 (z1z cG rfl (y5H rfl M.reversed (z00 (z2s C2 (rm hr) (pv 0)) z02)) (z0m (i:=2) nd rfl (Or.inl rfl)) (z04 (z0k (i:=3) nd rfl (Or.inl rfl) (z0v (z4x (K:=K) rfl rfl) rfl M.dict gI (z00 (z1W M4 (rm hr) (pv 0) (z00 (pv 2) z02)) z02))) (z05 (z0H (y1r (y4i hu (pv 1) (pv 3))) (z05 (z0d (z0X (z00 (pv 2) (z00 (z78 hu (pv 3) (pv 1) (fun _ _=>rfl)) z02))))) z0j)))) (z05 (z0d (z0X (z00 z06 (z00 y2N z02))))))),?_⟩
 obtain⟨dx,pn,fs,h1,h3,ln,lh,lo⟩:∃dx pn fs,H x=some (.ins A2 dx fs)/\H pn=some (.tup (nm.map V.str))/\fs.lookup ("names":Str)=some (V.ref pn)/\fs.lookup ("had":Str)=none/\fs.lookup ("rows_of":Str)=none:=by
  obtain⟨dx,pn,pd,fs,kvs,_,h1,_,h3,_,l1,_,_,lm,_⟩:=sh
  exact⟨dx,pn,fs,h1,h3,l1,lm _ (by simp),lm _ (by simp)⟩
 refine⟨_,rfl,x,A2,dx,fs,_,rfl,h1,T.cl,T.n_names,ln,_,rfl,pn,nm,z,rfl,.inr (SqT.of h3),hz,?_⟩
 refine⟨_,rfl,x,dx,fs,rfl,h1,lh,x,fp,nm,r,_,had,rfl,sh,fun l H1 s1 e1=>?_⟩
 refine⟨l,_,rfl,SqT.of e1,?_⟩
 have sh1:ShD K A2 H1 x fp nm r (fun n=>z18 rows n r) had:=P1.same sh s1
 have L1:((z0u had).map V.int).length=(z0u had).length:=b6 _
 refine y6j (fun i σ H'=>∃(o1 o2:Option V),A4 H1 H'/\z2i (z0u had) rows z=z2i ((z0u had).take ((z0u had).length-i)) rows z/\σ=[some (.ref x),some (.str z),o1,o2])
  ⟨none,none,A4.refl _,by rw[j9,bW],rfl⟩ (fun i σ H' _ ⟨_,_,g,_⟩=>SqT.of (g _ _ e1)) (fun i y σ H' hy hp=>?_) (fun σ H' hp=>?_)
 ·obtain⟨o1,o2,g,eh,rfl⟩:=hp
  rw[<- List.map_reverse,bL] at hy
  obtain⟨n,hn,rfl⟩:=cS.mp hy
  have hi:i<(z0u had).length:=by
   have:=(cO.mp hn).1
   rw[eQ] at this
   exact this
  rw[List.getElem?_reverse hi] at hn
  have et:(z0u had).take ((z0u had).length-i)=(z0u had).take ((z0u had).length-(i+1))++[n]:=by
   have e:(z0u had).length-i=((z0u had).length-(i+1))+1:=by lia
   rw[e]
   refine z0C ?_
   rw[show(z0u had).length-(i+1)=(z0u had).length-1-i by lia]
   exact hn
  have nh:n∈had:=(z24.mp (bZ hn)).2
  refine⟨_,rfl,x,dx,fs,rfl,g _ _ (s1 _ _ h1),lo,_,rfl,x,fp,nm,r,_,had,n,_,_,_,rfl,P1.same sh1 g,nh,rfl,fun v tv=>?_⟩
  obtain⟨a,us,rfl,ea,_,tu⟩:=z0q tv
  have ndw:=y77 gn R n
  refine⟨a,us,(z1b rows n).map kvR,rfl,.inr ea,z9L tu,?_,?_,fun d hd=>?_⟩
  ·rw[tu.length,b6]
   have:=y6r gn R n
   lia
  ·have e:((z1b rows n).map kvR).map (·.1)=((z1b rows n).map Prod.fst).map Sum.inr:=by rw[eI,eI];rfl
   rw[e,cX,fF]
   exact(cX.mp ndw).imp fun h e=>h (Sum.inr.inj e)
  refine⟨_,rfl,_,rfl,d,_,rfl,Q6.k (k:=Sum.inr z) z03,_,rfl,?_⟩
  rw[y0M ndw]
  rw[et,z8M] at eh
  cases ev:R7 (z1b rows n) z with
  | none=>
   rw[ev] at eh
   exact C8 ⟨_,_,g.trans (z01 hd _),eh,rfl⟩
  | some v=>
   rw[ev] at eh
   refine J5 ⟨_,rfl,_,rfl,_,rfl,d,_,rfl,(show Q6 _ d (kV (Sum.inr z)) (some (V.int v)) by rw[<- show M8 ((z1b rows n).map kvR) (Sum.inr z:Key)=some (V.int v) by rw[y0M ndw,ev];rfl];exact Q6.k z03),(by show 2≤sizeLine;decide),fun q hq=>k _ _ (s1.trans (g.trans ((z01 hd _).trans (z01 hq _)))) ?_⟩
   rw[eh]
   exact z0o z03 (by show 2≤1000000;decide) (.cons (z0D _) (.cons (z0D _) .nil))
 ·obtain⟨o1,o2,g,eh,rfl⟩:=hp
  rw[L1,Nat.sub_self,cT] at eh
  refine⟨(by show 2≤sizeLine;decide),fun q hq=>k _ _ (s1.trans (g.trans (z01 hq _))) ?_⟩
  rw[eh]
  exact z0o z03 (by show 2≤1000000;decide) (.cons (z0D _) (.cons y1l .nil))
noncomputable def z6b(Sh:ShP):Sp:=fun vs H Q _=>∃(x:Addr) (z:Str) (fp:List Addr) (nm:List Str) (r:Int) (rows:List Row) (had:List Int),vs=[.ref x,.str z]/\Sh H x fp nm r (fun n=>z18 rows n r) had/\z∈nm/\J8 nm/\Rws nm rows/\rows.length≤60/\(∀n∈had,1≤n/\n≤rows.length)/\0≤r/\r≤10/\
 ∀(v:V) (H':Hp),A4 H H'->A9 H' (y2W (z0u had) rows r (z4O (z2i (z0u had) rows z)) z) v->Q v H'
theorem y18{A2:Addr}(M:Bl mg)(T:F2 K mg A2)(F:Fun K "set_again" "set_again" z6h f fd)(F1:Cal P w K mg base 2 "held_for" z4m (z5L (ShD K A2)))
  (N5:Cal P w K mg base 3 "gaps_of" z76 (z96 (ShD K A2))):A8 P w K mg base CX0 4 f fd z4B (z6b (ShD K A2)):=by
 have nd:=z7m.nd
 refine F.ok z7m (fun vs H Q E h=>?_) (fun cdv A outer s H vs Q E hr h=>?_)
 ·obtain⟨x,z,fp,nm,r,rows,had,rfl,_⟩:=h
  rfl
 obtain⟨x,z,fp,nm,r,rows,had,rfl,sh,hz,gn,R,l60,hh,r0,r1,k⟩:=h
 refine⟨_,(z04 (z0k (i:=2) nd rfl (Or.inr rfl) (z0N z19 (z0l F1 (rm hr) rfl (z00 (pv 0) (z00 (pv 1) z02))) z06 (fun _ _=>rfl))) (z05 (z0d (z0v z0p rfl M.tuple bT (z00 (z1n ["number","teller","names"] ["held_from","name"] [2,1] rfl (z0w rfl (by decide +kernel) rfl (by decide +kernel) rfl rfl) (z3W (z0l N5 (rm hr) rfl (z00 (pv 0) z02))) (fun _ _ _ _ _=>(z90 (K:=K) (n:=3) rfl rfl (z1g (z0m (i:=0) (show((["number","teller","names"]:List PySem.Str)++(["held_from","name"]:List PySem.Str)).Nodup from by decide +kernel) rfl (Or.inl rfl)) (z1g (z0m (i:=1) (show((["number","teller","names"]:List PySem.Str)++(["held_from","name"]:List PySem.Str)).Nodup from by decide +kernel) rfl (Or.inl rfl)) (z1g (z0m (i:=2) (show((["number","teller","names"]:List PySem.Str)++(["held_from","name"]:List PySem.Str)).Nodup from by decide +kernel) rfl (Or.inl rfl)) z4t))))) (z8Y (z1L (z0B (by decide)) z0c (z1L (z0B (by decide)) z0c (z1L (z0B (by decide)) z0c z6l z0Z) (z0O z0c z0Z)) (z0O z0c (z0O z0c z0Z)))) (z72 (z0O z0c (z0O z0c (z0O z0c z0Z)))) (fun _ _ _ _ _=>(z2m (PW.pt (z4j (z0a z1N (pv 0) (pv 3) (z0h _)) (z3N (z0a (r:=rIn K false) z7q (pv 4) (pv 2) (by with_unfolding_all rfl))))))) (fun _ _ _ _ _=>(z0X (z00 (pv 0) (z00 (pv 1) z02))))) z02))))),?_⟩
 refine⟨_,rfl,_,rfl,x,z,fp,nm,r,rows,had,rfl,sh,hz,gn,R,fun v H1 s1 tv=>?_⟩
 obtain⟨a,y,rfl,ea,_⟩:=z5z tv
 refine⟨a,_,_,_,rfl,rfl,SqT.of ea,z15 rfl,?_⟩
 have sh1:=P1.same sh s1
 refine⟨_,rfl,x,fp,nm,r,rows,had,rfl,sh1,gn,R,l60,hh,r0,r1,fun u H2 s2 tu=>?_⟩
 obtain⟨b,xs,rfl,eb,_,tb⟩:=z0q tu
 have lx:=z5q tb
 have ll:=z2x (z0u had)
 generalize z4O (z2i (z0u had) rows z)=num at *
 refine⟨b,rfl,⟨_,SqT.of eb⟩,?_⟩
 refine z27 (xs:=xs) (fun i ys H'=>A4 H2 H'/\z0b H' ((((z1Y (z0u had)).take i).filter fun n=>decide (num<n) && decide (z∈z3q (z0u had) rows r n)).map fun n=>.tup [.int n,.int (z14 (z0u had) n r)]) ys) ⟨A4.refl _,.nil⟩ (fun i ys H' hi hp=>?_) (fun i y ys H' hy hp=>?_) (fun ys H' hp=>?_)
 ·obtain⟨g,t⟩:=hp
  refine⟨SqT.of (g _ _ eb),z0i ?_⟩
  rw[t.length,b6]
  have:=cE (fun n=>decide (num<n) && decide (z∈z3q (z0u had) rows r n)) ((z1Y (z0u had)).take i)
  rw[bM] at this
  lia
 ·obtain⟨g,t⟩:=hp
  obtain⟨n,c,d,en,rfl,ec,ed⟩:=z7K tb hy
  refine⟨c,_,rfl,SqT.of (g _ _ ec),rfl,_,_,rfl,_,_,rfl,_,_,rfl,rfl,?_⟩
  rw[z0C en,cY,dG]
  refine⟨_,rfl,_,rfl,_,_,rfl,rfl,_,rfl,?_⟩
  have skip:¬(decide (num<n) && decide (z∈z3q (z0u had) rows r n))=true->A4 H2 H'/\z0b H' (((((z1Y (z0u had)).take i).filter fun n=>decide (num<n) && decide (z∈z3q (z0u had) rows r n))++(if (decide (num<n) && decide (z∈z3q (z0u had) rows r n))=true then n::List.filter (fun n=>decide (num<n) && decide (z∈z3q (z0u had) rows r n)) [] else List.filter (fun n=>decide (num<n) && decide (z∈z3q (z0u had) rows r n)) [])).map fun n=>.tup [.int n,.int (z14 (z0u had) n r)]) ys:=fun c=>by
   rw[if_neg c,dL,cR]
   exact⟨g,t⟩
  refine B6 (fun c=>?_) (fun c=>?_)
  ·refine⟨_,rfl,_,rfl,d,_,rfl,.inr (SqT.of (g _ _ ed)),rfl,z2B _,_,rfl,?_⟩
   rw[if_neg bO,z4v]
   refine B6 (fun c2=>?_) (fun c2=>?_)
   ·refine⟨_,rfl,_,rfl,(by show 2≤sizeLine;decide),fun q hq=>⟨g.trans (z01 hq _),?_⟩⟩
    rw[if_pos (by rw[bU];exact⟨c,c2⟩),dL,bI]
    exact z0b.snoc (z0b.keep (z01 hq _) _ _ t) (z0o z03 (by show 2≤1000000;decide) (.cons (z0D _) (.cons (z0D _) .nil)))
   ·exact skip (by rw[bU];exact fun z=>c2 z.2)
  ·exact skip (by rw[bU];exact fun z=>c z.1)
 ·obtain⟨g,t⟩:=hp
  rw[lx,bW] at t
  intro D hD
  refine⟨D,ys,rfl,.inl ⟨SqL.of z03,fun q hq=>k _ _ (s1.trans (s2.trans (g.trans ((z01 hD _).trans (z01 hq _))))) (z0o z03 ?_ (z0b.keep ((z01 hD _).trans (z01 hq _)) _ _ t))⟩⟩
  rw[b6]
  exact c9 (z8o (z0u had) rows r num z) (by decide)
theorem y0e{ns:List Int}{r n:Int}:n∈z9w ns r↔n∈z1Y ns/\z14 ns n r=0:=by
 unfold z9w U9
 rw[cF]
 constructor
 ·rintro⟨⟨a,b⟩,h,rfl⟩
  rw[cM,cF,decide_eq_true_eq] at h
  obtain⟨⟨m,hm,e⟩,h2⟩:=h
  cases e
  exact⟨hm,h2⟩
 ·rintro⟨h1,h2⟩
  refine⟨(n,z14 ns n r),?_,rfl⟩
  rw[cM,cF,decide_eq_true_eq]
  exact⟨⟨n,h1,rfl⟩,h2⟩
theorem y0i{ns:List Int}{r num:Int}:z3y ns r num=[]↔∀n∈z9w ns r,n≤num:=by
 unfold z3y
 rw[dQ]
 constructor
 ·intro h n hn
  obtain⟨h1,h2⟩:=y0e.mp hn
  have:=h n h1
  rw[bU,decide_eq_true_eq,decide_eq_true_eq] at this
  rcases Int.lt_or_le num n with q|q
  ·exact absurd ⟨q,h2⟩ this
  ·exact q
 ·intro h n hn
  rw[bU,decide_eq_true_eq,decide_eq_true_eq]
  rintro⟨h1,h2⟩
  have:=h n (y0e.mpr ⟨hn,h2⟩)
  lia
theorem z7Z{ns:List Int}{r num:Int}:y1a ns r num=[]↔z3y ns r num=[]:=by
 rw[y0i]
 unfold y1a
 rw[dQ]
 exact⟨fun h n hn=>Int.not_lt.mp fun z=>h n hn (decide_eq_true z),fun h n hn z=>by have:=h n hn;have:=of_decide_eq_true z;lia⟩
noncomputable def z9I(Sh:ShP):Sp:=fun vs H Q _=>∃(x:Addr) (z:Str) (fp:List Addr) (nm:List Str) (r:Int) (rows:List Row) (had:List Int),vs=[.ref x,.str z]/\Sh H x fp nm r (fun n=>z18 rows n r) had/\z∈nm/\J8 nm/\Rws nm rows/\rows.length≤60/\(∀n∈had,1≤n/\n≤rows.length)/\0≤r/\r≤10/\
 ∀(H':Hp),A4 H H'->Q (.str (z2z (z0u had) rows r (z4O (z2i (z0u had) rows z)) z)) H'
theorem y2b{A2:Addr}(M:Bl mg)(T:F2 K mg A2)(F:Fun K "state_of" "state_of" z7i f fd)(F1:Cal P w K mg base 2 "held_for" z4m (z5L (ShD K A2)))
  (K3:Cal P w K mg base 4 "set_again" z4B (z6b (ShD K A2))) (C2:D7 P w K mg base 1 A2 "had" z2j (z6s (ShD K A2)))
  (E8:Cal P w K mg base 4 "dark_numbers_behind" z1R (y1U K)):A8 P w K mg base CX0 5 f fd z7O (z9I (ShD K A2)):=by
 have nd:=z8v.nd
 refine F.ok z8v (fun vs H Q E h=>?_) (fun cdv A outer s H vs Q E hr h=>?_)
 ·obtain⟨x,z,fp,nm,r,rows,had,rfl,_⟩:=h
  rfl
 obtain⟨x,z,fp,nm,r,rows,had,rfl,sh,hz,gn,R,l60,hh,r0,r1,k⟩:=h
 refine⟨_,(z04 (z0H (z0a z1N (z09 z07 rfl M.len bD (z00 (z0l K3 (rm hr) rfl (z00 (pv 0) (z00 (pv 1) z02))) z02)) z06 (z0h _)) (z05 (z0d (z21 rfl M.STALE))) z0j) (z04 (z0k (i:=2) nd rfl (Or.inl rfl) (z0N z19 (z0l F1 (rm hr) rfl (z00 (pv 0) (z00 (pv 1) z02))) z06 (fun _ _=>rfl))) (z04 (z0k (i:=3) nd rfl (Or.inl rfl) (z0l E8 (rm hr) rfl (z00 (z2s C2 (rm hr) (pv 0)) (z00 (z0A (pv 0) rfl) (z00 (pv 2) z02))))) (z05 (z0d (z9x (z0a z1N (z09 z07 rfl M.len bD (z00 (pv 3) z02)) z06 (z0h _)) (z21 rfl M.OPEN) (z21 rfl M.SURE))))))),?_⟩
 refine⟨_,rfl,_,rfl,x,z,fp,nm,r,rows,had,rfl,sh,hz,gn,R,l60,hh,r0,r1,fun v H1 s1 tv=>?_⟩
 obtain⟨a,xs,rfl,ea,_,ta⟩:=z0q tv
 have lx:=ta.length
 rw[b6] at lx
 refine⟨a,xs,rfl,.inr (SqT.of ea),_,_,rfl,rfl,_,rfl,B6 (fun c=>?_) (fun c=>?_)⟩
 ·have c':=z0Q c
  have e:=k H1 s1
  unfold z2z at e
  rw[if_pos (by lia)] at e
  exact e
 ·have c':=z46 c
  have sh1:=P1.same sh s1
  refine⟨_,rfl,_,rfl,x,z,fp,nm,r,rows,had,rfl,sh1,hz,gn,R,fun v H2 s2 tv=>?_⟩
  obtain⟨b,y,rfl,eb,_⟩:=z5z tv
  refine⟨b,_,_,_,rfl,rfl,SqT.of eb,z15 rfl,?_⟩
  have sh2:=P1.same sh1 s2
  obtain⟨dx,fs,h1,lm,lr⟩:∃dx fs,H2 x=some (.ins A2 dx fs)/\fs.lookup ("had":Str)=none/\fs.lookup ("reach":Str)=some (V.int r):=by
   obtain⟨dx,pn,pd,fs,kvs,_,h1,_,_,_,_,lr,_,lm,_⟩:=sh2
   exact⟨dx,fs,h1,lm _ (by simp),lr⟩
  have h60:∀n∈z0u had,1≤n/\n≤60:=fun n hn=>by have:=hh n (z24.mp hn).2;lia
  refine⟨_,rfl,x,dx,fs,rfl,h1,lm,x,fp,nm,r,_,had,rfl,sh2,fun l H3 s3 e3=>?_⟩
  refine⟨_,rfl,x,A2,dx,fs,_,rfl,s3 _ _ h1,T.cl,T.n_reach,lr,_,rfl,l,z0u had,r,_,rfl,.inr (SqT.of e3),h60,c9 (z7u had) (by decide),fun d H4 s4 e4=>?_⟩
  have e:=k H4 (s1.trans (s2.trans (s3.trans s4)))
  unfold z2z at e
  rw[if_neg (by lia)] at e
  refine⟨_,rfl,d,_,rfl,.inr (SqT.of e4),_,_,rfl,rfl,_,rfl,?_⟩
  rw[b6]
  refine B6 (fun c=>?_) (fun c=>?_)
  ·have c2:=z0Q c
   rw[if_neg (fun z=>by rw[z7Z.mpr z] at c2;exact absurd c2 (by decide))] at e
   exact e
  ·have c2:=z46 c
   rw[if_pos (z7Z.mp (List.length_eq_zero_iff.mp (by lia)))] at e
   exact e
theorem z8q(had:List Int):z0u (z0u had)=z0u had:=z2P (z3r _) (z3r _) fun x=>by
 rw[z24,z24]
 exact⟨fun h=>h.2,fun h=>⟨h.1,h⟩⟩
noncomputable def z7p(Sh:ShP):Sp:=fun vs H Q _=>∃(x:Addr) (z:Str) (fp:List Addr) (nm:List Str) (r:Int) (rows:List Row) (had:List Int),vs=[.ref x,.str z]/\Sh H x fp nm r (fun n=>z18 rows n r) had/\z∈nm/\J8 nm/\Rws nm rows/\rows.length≤60/\(∀n∈had,1≤n/\n≤rows.length)/\0≤r/\r≤10/\
 ∀(q:Addr) (y:V) (H':Hp),A4 H H'->H' q=some (.tup [.str (z2z (z0u had) rows r (z4O (z2i (z0u had) rows z)) z),.int (z4O (z2i (z0u had) rows z)),y])->A9 H' (y4T (z2i (z0u had) rows z)) y->Q (.ref q) H'
theorem y0t{A2:Addr}(M:Bl mg)(F:Fun K "state_and_held" "state_and_held" z2V f fd)(F1:Cal P w K mg base 2 "held_for" z4m (z5L (ShD K A2)))
  (S8:Cal P w K mg base 5 "state_of" z7O (z9I (ShD K A2))):A8 P w K mg base CX0 6 f fd z2S (z7p (ShD K A2)):=by
 have nd:=z3X.nd
 refine F.ok z3X (fun vs H Q E h=>?_) (fun cdv A outer s H vs Q E hr h=>?_)
 ·obtain⟨x,z,fp,nm,r,rows,had,rfl,_⟩:=h
  rfl
 obtain⟨x,z,fp,nm,r,rows,had,rfl,sh,hz,gn,R,l60,hh,r0,r1,k⟩:=h
 refine⟨_,(z05 (z0d (z0e (y1M (K:=K) rfl) (z0X (z00 (z0l S8 (rm hr) rfl (z00 (pv 0) (z00 (pv 1) z02))) z02)) (z0l F1 (rm hr) rfl (z00 (pv 0) (z00 (pv 1) z02)))))),?_⟩
 refine⟨_,rfl,_,rfl,x,z,fp,nm,r,rows,had,rfl,sh,hz,gn,R,l60,hh,r0,r1,fun H1 s1=>?_⟩
 refine⟨(by show 1≤sizeLine;decide),fun a ha=>?_⟩
 have g2:=s1.trans (z01 ha (.tup [.str (z2z (z0u had) rows r (z4O (z2i (z0u had) rows z)) z)]))
 have e2:upd H1 a (.tup [.str (z2z (z0u had) rows r (z4O (z2i (z0u had) rows z)) z)]) a=some (.tup [.str (z2z (z0u had) rows r (z4O (z2i (z0u had) rows z)) z)]):=z03
 generalize upd H1 a (.tup [.str (z2z (z0u had) rows r (z4O (z2i (z0u had) rows z)) z)])=H2 at g2 e2
 refine⟨_,rfl,_,rfl,x,z,fp,nm,r,rows,had,rfl,P1.same sh g2,hz,gn,R,fun v H3 s3 tv=>?_⟩
 obtain⟨b,y,rfl,eb,tb⟩:=z5z tv
 exact⟨a,b,_,_,rfl,rfl,SqT.of (s3 _ _ e2),SqT.of eb,by simp,(by show 3≤sizeLine;decide),fun z=>(nomatch z),fun _ q hq=>k q y _ (g2.trans (s3.trans (z01 hq _))) z03 (A9.keep (z01 hq _) _ _ tb)⟩
theorem y0o{A2:Addr}(M:Bl mg)(T:F2 K mg A2)(F:Fun K "knowledge" "knowledge" z65 f fd)(K9:Cal P w K mg base 6 "state_and_held" z2S (z7p (ShD K A2))):A8 P w K mg base CX0 7 f fd z6i (y5P (ShD K A2)):=by
 have nd:=z7c.nd
 refine F.ok z7c (fun vs H Q E h=>?_) (fun cdv A outer s H vs Q E hr h=>?_)
 ·obtain⟨x,fp,nm,r,rows,had,rfl,_⟩:=h
  rfl
 obtain⟨x,fp,nm,r,rows,had,rfl,sh,gn,R,l60,hh,r0,r1,k⟩:=h
 refine⟨_,(z05 (z0d (z0v z0p rfl M.tuple bT (z00 (z1n ["name"] ["shelf"] [0] rfl (z0w rfl (by decide +kernel) rfl (by decide +kernel) rfl rfl) (z3W (z0A (pv 0) rfl)) (fun _ _ _ _ _=>(z0m (i:=0) (show((["name"]:List PySem.Str)++(["shelf"]:List PySem.Str)).Nodup from by decide +kernel) rfl (Or.inl rfl))) (z0B (by decide)) z0c (fun _ _ _ _ _=>z20) (fun _ _ _ _ _=>(z0e (y1M (K:=K) rfl) (z0X (z00 (pv 0) z02)) (z0l K9 (rm hr) rfl (z00 (pv 1) (z00 (pv 0) z02)))))) z02)))),?_⟩
 obtain⟨dx,pn,fs,h1,h3,ln⟩:∃dx pn fs,H x=some (.ins A2 dx fs)/\H pn=some (.tup (nm.map V.str))/\fs.lookup ("names":Str)=some (V.ref pn):=by
  obtain⟨dx,pn,pd,fs,kvs,_,h1,_,h3,_,l1,_⟩:=sh
  exact⟨dx,pn,fs,h1,h3,l1⟩
 have n12:=gn.hi
 refine⟨_,rfl,x,A2,dx,fs,_,rfl,h1,T.cl,T.n_names,ln,pn,rfl,⟨_,SqT.of h3⟩,?_⟩
 refine z27 (xs:=nm.map V.str) (fun i ys H'=>A4 H H'/\z0b H' ((nm.take i).map (Z8 (z0u had) rows r)) ys) ⟨A4.refl _,by rw[cT];exact .nil⟩ (fun i ys H' hi hp=>?_) (fun i y ys H' hy hp=>?_) (fun ys H' hp=>?_)
 ·obtain⟨g,t⟩:=hp
  refine⟨SqT.of (g _ _ h3),z0i ?_⟩
  rw[t.length,b6,bM]
  lia
 ·obtain⟨g,t⟩:=hp
  rw[bL] at hy
  obtain⟨z,ez,rfl⟩:=cS.mp hy
  have hz:=bZ ez
  have sh1:=P1.same sh g
  refine⟨_,rfl,(by show 1≤sizeLine;decide),fun a ha=>?_⟩
  have g2:=z01 ha (.tup [.str z])
  have e2:upd H' a (.tup [.str z]) a=some (.tup [.str z]):=z03
  generalize upd H' a (.tup [.str z])=H2 at g2 e2
  refine⟨_,rfl,_,rfl,x,z,fp,nm,r,rows,had,rfl,P1.same sh1 g2,hz,gn,R,l60,hh,r0,r1,fun b y H3 s3 eb tb=>?_⟩
  refine⟨a,b,_,_,rfl,rfl,SqT.of (s3 _ _ e2),SqT.of eb,by simp,(by show 4≤sizeLine;decide),fun z=>(nomatch z),fun _ q hq=>⟨g.trans (g2.trans (s3.trans (z01 hq _))),?_⟩⟩
  rw[dH,ez,bI]
  refine z0b.snoc (z0b.keep (g2.trans (s3.trans (z01 hq _))) _ _ t) ?_
  unfold Z8
  rw[z8q]
  exact z0o z03 (by show 4≤1000000;decide) (.cons (z0E _) (.cons (z0E _) (.cons (z0D _) (.cons (A9.keep (z01 hq _) _ _ tb) .nil))))
 ·obtain⟨g,t⟩:=hp
  rw[b6,bW] at t
  intro D hD
  refine⟨D,ys,rfl,.inl ⟨SqL.of z03,fun q hq=>k _ _ (g.trans ((z01 hD _).trans (z01 hq _))) (z0o z03 ?_ (z0b.keep ((z01 hD _).trans (z01 hq _)) _ _ t))⟩⟩
  rw[b6]
  lia
theorem z5B(a b:Str):(a++b).length=a.length+b.length:=by
 rw[<- z0Y,z68,bF,z0Y,z0Y]
noncomputable def y5z(K:PySem.W.Frag)(C:Addr):Sp:=fun vs H _ E=>∃(p:Addr) (zs:List Str) (z:Str),vs=[.ref p,.str z]/\SqN K H p zs/\z∉zs/\z.length≤1000/\Low z/\E (.ref C) none H
theorem y60{CUnknownName:Addr}(M:Bl mg)(F:Fun K "refuse_unknown_name" "refuse_unknown_name" z1l f fd)(F3:Err K mg "UnknownName" CUnknownName):A8 P w K mg base (CX1 P w) 1 f fd z0M (K7 (y2e K) (y5z K CUnknownName)):=by
 have nd:=z1h.nd
 refine(y5B M F).toX.or (F.okX z1h (fun vs H Q E h=>?_) (fun cdv A outer s H vs Q E hr h=>?_))
 ·obtain⟨p,zs,z,rfl,_⟩:=h
  rfl
 obtain⟨p,zs,z,rfl,hp,hz,h1000,low,k⟩:=h
 refine⟨_,(z05 (z0H (z0a z1H (pv 1) (pv 0) (by with_unfolding_all rfl)) (z05 (z35 F3 rfl (z00 (z9o (z3g (y6U (pv 1)) (z3g z0F y1s))) z02))) z0j)),?_⟩
 refine⟨_,rfl,_,rfl,p,_,rfl,hp,rfl,z2B zs,_,rfl,?_⟩
 rw[if_pos rfl,z4v,decide_eq_false hz]
 have hl:=y1j low
 have line:=sizeLine_eq
 have l0:Str.empty.length=0:=rfl
 have l1:(" is no name of this bulletin":Str).length=28:=by decide +kernel
 exact J5 ⟨_,rfl,z,rfl,h1000,low,_,rfl,(by rw[z5B];lia),_,rfl,(by rw[z5B,z5B];lia),(by rw[z5B,z5B];lia),(by show 1≤sizeLine;decide),k⟩
noncomputable def z9K(C:Addr):Sp:=fun vs H _ E=>∃v:Int,vs=[.int v]/\(v<0\/1000000<v)/\E (.ref C) none H
theorem y2i{CBadValue:Addr}(M:Bl mg)(F:Fun K "refuse_bad_value" "refuse_bad_value" z1K f fd)(L9:Err K mg "BadValue" CBadValue):A8 P w K mg base (CX1 P w) 1 f fd z11 (K7 z5D (z9K CBadValue)):=by
 have nd:=z1x.nd
 refine(y09 M F).toX.or (F.okX z1x (fun vs H Q E h=>?_) (fun cdv A outer s H vs Q E hr h=>?_))
 ·obtain⟨r,rfl,_⟩:=h
  rfl
 obtain⟨r,rfl,hr2,k⟩:=h
 refine⟨_,(z05 (z0H (PW.pt (z3n (z0a z43 (pv 0) z06 (z0h _)) (z22 (z0a z1N (pv 0) (z1c rfl M.MOST_VALUE) (z0h _))))) (z05 (z35 L9 rfl (z00 (z9o (z3g z0F (z3g (y1c (z1c rfl M.MOST_VALUE)) y1s))) z02))) z0j)),?_⟩
 refine⟨_,rfl,_,_,rfl,rfl,_,rfl,B6 (fun q=>?_) fun n1=>?_⟩
 ·exact⟨_,rfl,(by decide +kernel),_,rfl,by decide,_,rfl,(by decide +kernel),(by decide +kernel),(by show 1≤sizeLine;decide),k⟩
 refine⟨_,rfl,_,_,rfl,rfl,_,rfl,B6 (fun q=>?_) fun n2=>?_⟩
 ·exact⟨_,rfl,(by decide +kernel),_,rfl,by decide,_,rfl,(by decide +kernel),(by decide +kernel),(by show 1≤sizeLine;decide),k⟩
 ·exfalso
  have e1:¬r<0:=fun z=>n1 (decide_eq_true z)
  have e2:¬(1000000:Int)<r:=fun z=>n2 (decide_eq_true z)
  lia
theorem y1Q:∀r:List Str,(L6 r.reverse).length≤r.length/\((L6 r.reverse).length=r.length->r.Nodup)
 | []=>⟨bG _,fun _=>List.nodup_nil⟩
 | k::r=>by
  obtain⟨h1,h2⟩:=y1Q r
  rw[List.reverse_cons,z9J]
  split
  ·refine⟨by rw[bY];lia,fun e=>?_⟩
   rw[bY] at e
   lia
  ·rename_i nm
   rw[bF,bY]
   refine⟨Nat.succ_le_succ h1,fun e=>dA.mpr ⟨fun hk=>nm (z9g.mpr (fM.mpr hk)),h2 (Nat.succ.inj e)⟩⟩
theorem y6l{zs:List Str}(h:(L6 zs).length=zs.length):zs.Nodup:=by
 have:=(y1Q zs.reverse).2
 rw[fN,eQ] at this
 exact(fJ.mp (this h)).imp cU
noncomputable def y5x(CU CT CV:Addr)(zs:List Str)(pr:Row)(C:Addr):Prop:=((∃p∈pr,p.1∉zs)/\C=CU)\/((∀p∈pr,p.1∈zs)/\¬(pr.map Prod.fst).Nodup/\C=CT)\/((∀p∈pr,p.1∈zs)/\(pr.map Prod.fst).Nodup/\(∃p∈pr,p.2<0\/1000000<p.2)/\C=CV)
noncomputable def z8w(K:PySem.W.Frag)(CU CT CV:Addr):Sp:=fun vs H _ E=>∃(pn a:Addr) (zs:List Str) (us:List V) (pr:Row) (C:Addr),vs=[.ref pn,.ref a]/\SqN K H pn zs/\SqP K H a us/\Paired (z1A K H) us pr/\pr.length≤100/\(∀p∈pr,p.1.length≤1000/\Low p.1)/\y5x CU CT CV zs pr C/\∀H',A4 H H'->E (.ref C) none H'
theorem y0z{CUnknownName CNameTwice CBadValue:Addr}(M:Bl mg)(F:Fun K "refuse_bad_rows" "refuse_bad_rows" z1U f fd)(K0:Err K mg "NameTwice" CNameTwice)(B3:Cal P w K mg base 1 "refuse_unknown_name" z0M (y2e K))(C5:Cal P w K mg base 1 "refuse_bad_value" z11 z5D)
  (E5:W7 P w K mg base 1 "refuse_unknown_name" z0M (K7 (y2e K) (y5z K CUnknownName))) (F6:W7 P w K mg base 1 "refuse_bad_value" z11 (K7 z5D (z9K CBadValue))):A8 P w K mg base (CX1 P w) 2 f fd z1d (K7 (z4g K) (z8w K CUnknownName CNameTwice CBadValue)):=by
 have nd:=z1J.nd
 refine(z8C M F B3 C5).toX.or (F.okX z1J (fun vs H Q E h=>?_) (fun cdv A outer s H vs Q E hr h=>?_))
 ·obtain⟨pn,a,zs,us,pr,C,rfl,_⟩:=h
  rfl
 obtain⟨pn,a,zs,us,pr,C,rfl,hn,ha,hp,l100,hlow,rf,k⟩:=h
 refine⟨_,(z04 (z4s (i:=2) ["name","value"] [] [] rfl nd rfl (Or.inl rfl) (z0w rfl (by decide +kernel) rfl (by decide +kernel) rfl rfl) (z9G (pv 1)) (fun _ _ _ _ _=>(z9z (K:=K) (n:=2) rfl rfl (z1g (z0m (i:=0) (show((["name","value"]:List PySem.Str)++([]:List PySem.Str)).Nodup from by decide +kernel) rfl (Or.inl rfl)) (z1g (z0m (i:=1) (show((["name","value"]:List PySem.Str)++([]:List PySem.Str)).Nodup from by decide +kernel) rfl (Or.inl rfl)) z4t)))) (y2L (z1L (z0B (by decide)) z0c (z1L (z0B (by decide)) z0c z6l z0Z) (z0O z0c z0Z))) (y1h (z0O z0c (z0O z0c z0Z))) (fun _ _ _ _ _=>z20) (fun _ _ _ _ _=>(pv 0))) (z04 (y3c (z1r (pv 2)) (z0m (i:=3) nd rfl (Or.inl rfl)) (z05 (z0x (y0A y1N E5 (rm hr) rfl (z00 (pv 0) (z00 (pv 3) z02)))))) (z04 (z0H (z0a z86 (z09 z3F rfl M.len bD (z00 (z0v (z3o rfl) rfl M.set gN (z00 (pv 2) z02)) z02)) (z09 z07 rfl M.len bD (z00 (pv 2) z02)) (z0h _)) (z05 (z35 K0 rfl (z00 z0F z02))) z0j) (z05 (y3c (z9G (pv 1)) (z9z (K:=K) (n:=2) rfl rfl (z1g (z0m (i:=3) nd rfl (Or.inl rfl)) (z1g (z0m (i:=4) nd rfl (Or.inl rfl)) z4t))) (z05 (z0x (y0A y1N F6 (rm hr) rfl (z00 (pv 4) z02))))))))),?_⟩
 obtain⟨t,ht⟩:=SqS.of (SqP.or ha)
 have lu:us.length=pr.length:=hp.length
 refine⟨_,rfl,a,t,rfl,⟨_,ht⟩,?_⟩
 refine z9p (xs:=us) (fun i ys H'=>H'=H/\ys=((pr.take i).map Prod.fst).map V.str) ⟨rfl,rfl⟩ (fun i ys H' hi hq=>?_) (fun i x ys H' hx hq=>?_) (fun ys H' hq=>?_)
 ·obtain⟨rfl,rfl⟩:=hq
  refine⟨ht,z0i ?_⟩
  rw[b6,b6,bM]
  lia
 ·obtain⟨rfl,rfl⟩:=hq
  obtain⟨p,ep,b,rfl,hb⟩:=z1A.at hp i x hx
  refine⟨b,_,rfl,hb,rfl,_,_,rfl,_,_,rfl,rfl,?_⟩
  refine⟨_,rfl,rfl,?_⟩
  rw[z0C ep,bI,bI]
  rfl
 obtain⟨rfl,rfl⟩:=hq
 rw[lu,bW]
 intro D hD
 have s1:=z01 hD (.lst ((pr.map Prod.fst).map V.str))
 have e1:upd H' D (.lst ((pr.map Prod.fst).map V.str)) D=some (.lst ((pr.map Prod.fst).map V.str)):=z03
 generalize upd H' D (.lst ((pr.map Prod.fst).map V.str))=H1 at s1 e1
 have hn1:=SqN.keep s1 hn
 have ht1:=SqS.keep s1 ht
 have hp1:=z1A.keep s1 hp
 refine⟨_,rfl,D,rfl,⟨_,SqL.of e1⟩,z2u (K:=K) (a:=D) (xs:=(pr.map Prod.fst).map V.str) (fun i σ H2=>∃o:Option V,H2=H1/\(∀z∈(pr.map Prod.fst).take i,z∈zs)/\σ=[some (.ref pn),some (.ref a),some (.ref D),o,none]) ⟨none,rfl,(fun z hz=>by rw[cT] at hz;cases hz),rfl⟩ (fun i σ H2 _ ⟨_,e,_⟩=>e ▸ SqL.of e1) (fun i x σ H2 hx hq=>?_) (fun σ H2 hq=>?_)⟩
 ·obtain⟨o,rfl,hin,rfl⟩:=hq
  rw[bL] at hx
  obtain⟨z,ez,rfl⟩:=cS.mp hx
  obtain⟨p,hpm,rfl⟩:=cF.mp (bZ ez)
  by_cases hz:p.1∈zs
  ·refine⟨_,rfl,_,rfl,.inl ⟨pn,zs,p.1,rfl,hn1,hz,_,rfl,fun y hy=>?_,rfl⟩⟩
   rw[z0C ez] at hy
   rcases cB.mp hy with hy|hy
   ·exact hin y hy
   ·rw[bA.mp hy]
    exact hz
  ·refine⟨_,rfl,_,rfl,.inr ⟨pn,zs,p.1,rfl,hn1,hz,(hlow p hpm).1,(hlow p hpm).2,?_⟩⟩
   rcases rf with ⟨_,rfl⟩|⟨h,_⟩|⟨h,_⟩
   ·exact k _ s1
   ·exact absurd (h p hpm) hz
   ·exact absurd (h p hpm) hz
 obtain⟨o,rfl,hin,rfl⟩:=hq
 rw[b6,bW] at hin
 have lf:(pr.map Prod.fst).length=pr.length:=b6 _
 have rf2:((¬(pr.map Prod.fst).Nodup/\C=CNameTwice)\/((pr.map Prod.fst).Nodup/\(∃p∈pr,p.2<0\/1000000<p.2)/\C=CBadValue)):=by
  rcases rf with ⟨⟨p,hp,hz⟩,_⟩|⟨_,h,e⟩|⟨_,h,h2,e⟩
  ·exact absurd (hin p.1 (cF.mpr ⟨p,hp,rfl⟩)) hz
  ·exact .inl ⟨h,e⟩
  ·exact .inr ⟨h,h2,e⟩
 refine⟨_,rfl,D,pr.map Prod.fst,rfl,.inl (SqL.of e1),by lia,fun l hl=>⟨l,pr.map Prod.fst,rfl,z03,by lia,_,rfl,D,_,rfl,.inl (SqL.of (z01 hl _ _ _ e1)),rfl,_,rfl,?_⟩⟩
 have s2:=s1.trans (z01 hl (R5 P w l (pr.map Prod.fst)))
 rcases rf2 with ⟨hnn,rfl⟩|⟨hnd,hbv,rfl⟩
 ·rw[decide_eq_false (fun e=>hnn (y6l (by injection e with e;rw[b6 (f:=V.str)] at e;lia)))]
  exact J5 ⟨(by show 1≤sizeLine;decide),k _ s2⟩
 refine y4N (by rw[y0U hnd,b6 (f:=V.str)]) ?_
 have ht2:=SqS.keep (z01 hl (R5 P w l (pr.map Prod.fst))) ht1
 have hp2:=z1A.keep (z01 hl (R5 P w l (pr.map Prod.fst))) hp1
 refine⟨_,rfl,a,t,rfl,⟨_,ht2⟩,?_⟩
 refine y2M (xs:=us) (fun i σ H3=>∃o1 o2:Option V,H3=upd H2 l (R5 P w l (pr.map Prod.fst))/\(∀p∈pr.take i,0≤p.2/\p.2≤1000000)/\σ=[some (.ref pn),some (.ref a),some (.ref D),o1,o2]) ⟨_,_,rfl,(fun p hp=>by rw[cT] at hp;cases hp),rfl⟩ (fun i σ H3 _ ⟨_,_,e,_⟩=>e ▸ ht2) (fun i x σ H3 hx hq=>?_) (fun σ H3 hq=>?_)
 ·obtain⟨o1,o2,rfl,hok,rfl⟩:=hq
  obtain⟨p,ep,b,rfl,hb⟩:=z1A.at hp2 i x hx
  refine⟨b,_,rfl,hb,rfl,_,_,rfl,_,_,rfl,rfl,?_⟩
  by_cases hv:0≤p.2/\p.2≤1000000
  ·refine⟨_,rfl,.inl ⟨p.2,rfl,hv.1,hv.2,_,_,rfl,fun y hy=>?_,rfl⟩⟩
   rw[z0C ep] at hy
   rcases cB.mp hy with hy|hy
   ·exact hok y hy
   ·rw[bA.mp hy]
    exact hv
  ·exact⟨_,rfl,.inr ⟨p.2,rfl,by lia,k _ s2⟩⟩
 ·obtain⟨o1,o2,rfl,hok,rfl⟩:=hq
  rw[lu,bW] at hok
  obtain⟨p,hp,hb⟩:=hbv
  have:=hok p hp
  lia
noncomputable def w14(CF CU CT CV:Addr)(zs:List Str)(rows:List Row)(pr:Row)(C:Addr):Prop:=(60≤rows.length/\C=CF)\/(rows.length<60/\y5x CU CT CV zs pr C)
noncomputable def z73(K:PySem.W.Frag)(Of:OfP)(CF CU CT CV:Addr):Sp:=fun vs H _ E=>∃(p a:Addr) (fp:List Addr) (zs:List Str) (r:Int) (rows:List Row) (us:List V) (pr:Row) (C:Addr),vs=[.ref p,.ref a]/\Of H p fp zs r rows/\SqP K H a us/\Paired (z1A K H) us pr/\pr.length≤100/\(∀p∈pr,p.1.length≤1000/\Low p.1)/\w14 CF CU CT CV zs rows pr C/\∀H',A4 H H'->E (.ref C) none H'
theorem y1f{A0 COfficeFull CUnknownName CNameTwice CBadValue:Addr}(M:Bl mg)(T:F5 K mg A0)(F:Fun K "refuse_writing" "Office.refuse_writing" z17 f fd)(I0:Err K mg "OfficeFull" COfficeFull)(C9:Cal P w K mg base 2 "refuse_bad_rows" z1d (z4g K))
  (J4:W7 P w K mg base 2 "refuse_bad_rows" z1d (K7 (z4g K) (z8w K CUnknownName CNameTwice CBadValue))):A8 P w K mg base (CX1 P w) 3 f fd z0z (K7 (z2v K (OfD K A0)) (z73 K (OfD K A0) COfficeFull CUnknownName CNameTwice CBadValue)):=by
 have nd:=z10.nd
 refine(z8B M T F C9).toX.or (F.okX z10 (fun vs H Q E h=>?_) (fun cdv A outer s H vs Q E hr h=>?_))
 ·obtain⟨p,a,fp,zs,r,rows,us,pr,C,rfl,_⟩:=h
  rfl
 obtain⟨p,a,fp,zs,r,rows,us,pr,C,rfl,of,ha,hp,l100,hlow,rf,k⟩:=h
 refine⟨_,(z04 (z0H (z0a y3F (z09 z07 rfl M.len bD (z00 (z0A (pv 0) rfl) z02)) (z1c rfl M.MOST_NUMBERS) (z0h _)) (z05 (z35 I0 rfl (z00 (z9o (z3g z0F (z3g (y1c (z1c rfl M.MOST_NUMBERS)) (z3g z0F y1s)))) z02))) z0j) (z05 (z0x (y0A z34 J4 (rm hr) rfl (z00 (z0A (pv 0) rfl) (z00 (pv 1) z02)))))),?_⟩
 obtain⟨dx,pn,pl,fs,xs,rfl,h1,h2,h3,h4,l1,l2,l3,lm,tl,r60,w12,g,r0,r1⟩:=of
 have lx:xs.length=rows.length:=by rw[tl.length,b6,z13]
 refine⟨_,rfl,p,A0,dx,fs,_,rfl,h1,T.cl,T.n_written,l3,pl,xs,rfl,.inl (SqL.of h4),_,_,rfl,rfl,_,rfl,?_⟩
 rcases rf with ⟨h60,rfl⟩|⟨h60,rf⟩
 ·rw[decide_eq_true (by lia)]
  exact J5 ⟨_,rfl,(by decide +kernel),_,rfl,by decide,_,rfl,(by decide +kernel),_,rfl,(by decide +kernel),(by decide +kernel),(by show 1≤sizeLine;decide),k H (A4.refl _)⟩
 ·rw[decide_eq_false (by lia)]
  exact C8 ⟨_,rfl,p,A0,dx,fs,_,rfl,h1,T.cl,T.n_names,l1,_,rfl,.inr ⟨pn,a,zs,us,pr,C,rfl,.inr (SqT.of h3),ha,hp,l100,hlow,rf,k⟩⟩
theorem y0S{A0 COfficeFull CUnknownName CNameTwice CBadValue:Addr}(M:Bl mg)(T:F5 K mg A0)(F:Fun K "write" "Office.write" z2K f fd)(A7:D7 P w K mg base 3 A0 "refuse_writing" z0z (z2v K (OfD K A0)))
  (D1:Cal P w K mg base 1 "names_of_rows" z2t y1d) (D0:Cal P w K mg base 1 "rows_in_order" z2p (z7w K)) (K4:Cal P w K mg base 2 "tail_for" z5m (y42 K))
  (B8:M3 P w K mg base 3 A0 "refuse_writing" z0z (K7 (z2v K (OfD K A0)) (z73 K (OfD K A0) COfficeFull CUnknownName CNameTwice CBadValue))) :
  A8 P w K mg base (CX1 P w) 4 f fd z28 (K7 (z5S K (OfD K A0)) (z73 K (OfD K A0) COfficeFull CUnknownName CNameTwice CBadValue)):=by
 have nd:=z2q.nd
 refine(z8J M T F A7 D1 D0 K4).toX.or (F.okX z2q (fun vs H Q E h=>?_) (fun cdv A outer s H vs Q E hr h=>?_))
 ·obtain⟨p,a,fp,zs,r,rows,us,pr,C,rfl,_⟩:=h
  rfl
 obtain⟨p,a,fp,zs,r,rows,us,pr,C,rfl,of,ha,hp,l100,hlow,rf,k⟩:=h
 refine⟨_,(z04 (z0x (z3x z34 B8 (rm hr) (pv 0) (z00 (pv 1) z02))) (z04 (z0k (i:=2) nd rfl (Or.inl rfl) (z0e z1q (z09 z07 rfl M.len bD (z00 (z0A (pv 0) rfl) z02)) z06)) (z04 (z4s (i:=3) ["issue"] [] [] rfl nd rfl (Or.inl rfl) (z0w rfl (by decide +kernel) rfl (by decide +kernel) rfl rfl) (z1r (z0A (pv 0) rfl)) (fun _ _ _ _ _=>(z0m (i:=0) (show((["issue"]:List PySem.Str)++([]:List PySem.Str)).Nodup from by decide +kernel) rfl (Or.inl rfl))) (z0B (by decide)) z0c (fun _ _ _ _ _=>z20) (fun _ _ _ _ _=>(z0l D1 (rm hr) rfl (z00 (z0N (r:=T6 K) z19 (pv 0) z06 (fun _ _=>rfl)) z02)))) (z04 (z0x (z26 bJ bQ bS z0G (z0A (pv 0) rfl) (z00 (z0X (z00 (pv 2) (z00 (z0l D0 (rm hr) rfl (z00 (z0A (pv 0) rfl) (z00 (pv 1) z02))) (z00 (z0l K4 (rm hr) rfl (z00 (pv 3) (z00 (z0A (pv 0) rfl) z02))) z02)))) z02))) (z05 (z0d (pv 2))))))),?_⟩
 obtain⟨dx,pn,pl,fs,xs,rfl,h1,h2,h3,h4,l1,l2,l3,lm,_⟩:=id of
 exact⟨_,rfl,p,dx,fs,rfl,h1,lm _ (by simp),_,rfl,.inr ⟨p,a,_,zs,r,rows,us,pr,C,rfl,of,ha,hp,l100,hlow,rf,k⟩⟩
noncomputable def z9h(Of:OfP)(CN:Addr):Sp:=fun vs H _ E=>∃(p:Addr) (fp:List Addr) (zs:List Str) (r:Int) (rows:List Row) (n:Int),vs=[.ref p,.int n]/\Of H p fp zs r rows/\(n<1\/(rows.length:Int)<n)/\E (.ref CN) none H
theorem y0C{A0 CNotWritten:Addr}(M:Bl mg)(T:F5 K mg A0)(F:Fun K "issue" "Office.issue" z2N f fd)(F8:Err K mg "NotWritten" CNotWritten):A8 P w K mg base (CX1 P w) 1 f fd z0U (K7 (z25 (OfD K A0)) (z9h (OfD K A0) CNotWritten)):=by
 have nd:=z2r.nd
 refine(z8t M T F).toX.or (F.okX z2r (fun vs H Q E h=>?_) (fun cdv A outer s H vs Q E hr h=>?_))
 ·obtain⟨p,fp,zs,r,rows,n,rfl,_⟩:=h
  rfl
 obtain⟨p,fp,zs,r,rows,n,rfl,of,hn,k⟩:=h
 refine⟨_,(z04 (z0H (PW.pt (z3n (z0a z43 (pv 1) z06 (z0h _)) (z22 (z0a z1N (pv 1) (z09 z07 rfl M.len bD (z00 (z0A (pv 0) rfl) z02)) (z0h _))))) (z05 (z35 F8 rfl (z00 z0F z02))) z0j) (z05 (z0d (z0N z0L (z0A (pv 0) rfl) (z0e z2J (pv 1) z06) (fun _ _=>rfl))))),?_⟩
 obtain⟨dx,pn,pl,fs,xs,rfl,h1,h2,h3,h4,l1,l2,l3,lm,tl,r60,w12,g,r0,r1⟩:=of
 have lx:xs.length=rows.length:=by rw[tl.length,b6,z13]
 refine⟨_,rfl,_,_,rfl,rfl,_,rfl,B6 (fun q=>?_) fun n1=>?_⟩
 ·exact⟨(by show 1≤sizeLine;decide),k⟩
 refine⟨_,rfl,_,rfl,p,A0,dx,fs,_,rfl,h1,T.cl,T.n_written,l3,pl,xs,rfl,.inl (SqL.of h4),_,_,rfl,rfl,_,rfl,B6 (fun q=>?_) fun n2=>?_⟩
 ·exact⟨(by show 1≤sizeLine;decide),k⟩
 ·exfalso
  have e1:¬n<1:=fun z=>n1 (decide_eq_true z)
  have e2:¬(xs.length:Int)<n:=fun z=>n2 (decide_eq_true z)
  lia
noncomputable def z6T(Bk:BkP)(CR:Addr):Sp:=fun vs H _ E=>∃(p:Addr) (fp:List Addr) (zs:List Str) (r k:Int) (rows:List Row) (log:List B7) (rd:Int),vs=[.ref p,.int rd]/\Bk H p fp zs r k rows log/\(rd<1\/k<rd)/\E (.ref CR) none H
theorem z8X{A1 A0 CUnknownReader:Addr}(M:Bl mg)(T:F0 K mg A1)(F:Fun K "refuse_unknown_reader" "Book.refuse_unknown_reader" z0R f fd)(D9:Err K mg "UnknownReader" CUnknownReader) :
  A8 P w K mg base (CX1 P w) 1 f fd z0y (K7 (z2h (BkD K A1 A0)) (z6T (BkD K A1 A0) CUnknownReader)):=by
 have nd:=z0P.nd
 refine(z6B M T F).toX.or (F.okX z0P (fun vs H Q E h=>?_) (fun cdv A outer s H vs Q E hr h=>?_))
 ·obtain⟨p,fp,zs,r,k,rows,log,rd,rfl,_⟩:=h
  rfl
 obtain⟨p,fp,zs,r,k,rows,log,rd,rfl,⟨dx,po,pd,fs,fo,us,rfl,B⟩,hn,kk⟩:=h
 refine⟨_,(z05 (z0H (PW.pt (z3n (z0a z43 (pv 1) z06 (z0h _)) (z22 (z0a z1N (pv 1) (z0A (pv 0) rfl) (z0h _))))) (z05 (z35 D9 rfl (z00 z0F z02))) z0j)),?_⟩
 refine⟨_,rfl,_,_,rfl,rfl,_,rfl,B6 (fun q=>⟨(by show 1≤sizeLine;decide),kk⟩) fun n1=>?_⟩
 refine⟨_,rfl,_,rfl,p,A1,dx,fs,_,rfl,B.hp,T.cl,T.n_readers,B.lr,_,_,rfl,rfl,_,rfl,B6 (fun q=>⟨(by show 1≤sizeLine;decide),kk⟩) fun n2=>?_⟩
 exfalso
 have e1:¬rd<1:=fun z=>n1 (decide_eq_true z)
 have e2:¬k<rd:=fun z=>n2 (decide_eq_true z)
 lia
noncomputable def z6g(Bk:BkP)(CB:Addr):Sp:=fun vs H _ E=>∃(p:Addr) (fp:List Addr) (zs:List Str) (r k:Int) (rows:List Row) (log:List B7),vs=[.ref p]/\Bk H p fp zs r k rows log/\400≤log.length/\E (.ref CB) none H
theorem y11{A1 A0 CBookFull:Addr}(M:Bl mg)(T:F0 K mg A1)(F:Fun K "refuse_further_deed" "Book.refuse_further_deed" z0V f fd)(L7:Err K mg "BookFull" CBookFull) :
  A8 P w K mg base (CX1 P w) 1 f fd z0s (K7 (z2A (BkD K A1 A0)) (z6g (BkD K A1 A0) CBookFull)):=by
 have nd:=z0S.nd
 refine(z8K M T F).toX.or (F.okX z0S (fun vs H Q E h=>?_) (fun cdv A outer s H vs Q E hr h=>?_))
 ·obtain⟨p,fp,zs,r,k,rows,log,rfl,_⟩:=h
  rfl
 obtain⟨p,fp,zs,r,k,rows,log,rfl,⟨dx,po,pd,fs,fo,us,rfl,B⟩,l4,kk⟩:=h
 refine⟨_,(z05 (z0H (z0a y3F (z09 z07 rfl M.len bD (z00 (z0A (pv 0) rfl) z02)) (z1c rfl M.MOST_DEEDS) (z0h _)) (z05 (z35 L7 rfl (z00 (z9o (z3g z0F (z3g (y1c (z1c rfl M.MOST_DEEDS)) (z3g z0F y1s)))) z02))) z0j)),?_⟩
 have lu:=z1F B.ds
 refine⟨_,rfl,p,A1,dx,fs,_,rfl,B.hp,T.cl,T.n_done,B.ld,pd,us,rfl,.inl (SqL.of B.hd),_,_,rfl,rfl,_,rfl,?_⟩
 rw[decide_eq_true (by lia)]
 exact J5 ⟨_,rfl,(by decide +kernel),_,rfl,by decide,_,rfl,(by decide +kernel),_,rfl,(by decide +kernel),(by decide +kernel),(by show 1≤sizeLine;decide),kk⟩
noncomputable def z6a(K:PySem.W.Frag)(Bk:BkP)(CF CU CT CV CB:Addr):Sp:=fun vs H _ E=>∃(p a:Addr) (fp:List Addr) (zs:List Str) (r k:Int) (rows:List Row) (log:List B7) (us:List V) (pr:Row) (C:Addr),vs=[.ref p,.ref a]/\Bk H p fp zs r k rows log/\SqP K H a us/\Paired (z1A K H) us pr/\pr.length≤100/\(∀p∈pr,p.1.length≤1000/\Low p.1)/\
 (w14 CF CU CT CV zs rows pr C\/(rows.length<60/\GoodR zs pr/\pr.length≤12/\400≤log.length/\C=CB))/\∀H',A4 H H'->E (.ref C) none H'
theorem y1b{A1 A0 COfficeFull CUnknownName CNameTwice CBadValue CBookFull:Addr}(M:Bl mg)(T:F0 K mg A1)(F:Fun K "write" "Book.write" z3J f fd)(A7:D7 P w K mg base 3 A0 "refuse_writing" z0z (z2v K (OfD K A0)))
  (D8:D7 P w K mg base 4 A0 "write" z28 (z5S K (OfD K A0))) (A5:D7 P w K mg base 1 A1 "refuse_further_deed" z0s (z2A (BkD K A1 A0)))
  (B8:M3 P w K mg base 3 A0 "refuse_writing" z0z (K7 (z2v K (OfD K A0)) (z73 K (OfD K A0) COfficeFull CUnknownName CNameTwice CBadValue)))
  (B5:M3 P w K mg base 1 A1 "refuse_further_deed" z0s (K7 (z2A (BkD K A1 A0)) (z6g (BkD K A1 A0) CBookFull))) :
  A8 P w K mg base (CX1 P w) 5 f fd z3B (K7 (z7r K (BkD K A1 A0)) (z6a K (BkD K A1 A0) COfficeFull CUnknownName CNameTwice CBadValue CBookFull)):=by
 have nd:=z39.nd
 refine(z8A M T F A7 D8 A5).toX.or (F.okX z39 (fun vs H Q E h=>?_) (fun cdv A outer s H vs Q E hr h=>?_))
 ·obtain⟨p,a,fp,zs,r,k,rows,log,us,pr,C,rfl,_⟩:=h
  rfl
 obtain⟨p,a,fp,zs,r,k,rows,log,us,pr,C,rfl,bk,ha,hp,l100,hlow,rf,kk⟩:=h
 refine⟨_,(z04 (z0x (z3x z34 B8 (rm hr) (z0A (pv 0) rfl) (z00 (pv 1) z02))) (z04 (z0x (y0a z34 B5 (rm hr) (pv 0))) (z04 (z0k (i:=2) nd rfl (Or.inl rfl) (z1W D8 (rm hr) (z0A (pv 0) rfl) (z00 (pv 1) z02))) (z04 (z0x (z26 bJ bQ bS z0G (z0A (pv 0) rfl) (z00 (z0X (z00 (z21 rfl M.WRITE) (z00 (pv 2) z02))) z02))) (z05 (z0d (pv 2))))))),?_⟩
 obtain⟨dx,po,pd,fs,fo,vs,rfl,B⟩:=id bk
 obtain⟨dxo,pno,plo,fso,xso,efo,h1,h2,h3,h4,l1,l2,l3,lmo,_⟩:=id B.of
 rcases rf with rf|⟨l60,gr,l12,l4,rfl⟩
 ·exact⟨_,rfl,p,A1,dx,fs,_,rfl,B.hp,T.cl,T.n_office,B.lo,po,dxo,fso,rfl,h1,lmo _ (by simp),_,rfl,.inr ⟨po,a,fo,zs,r,rows,us,pr,C,rfl,B.of,ha,hp,l100,hlow,rf,kk⟩⟩
 ·exact⟨_,rfl,p,A1,dx,fs,_,rfl,B.hp,T.cl,T.n_office,B.lo,po,dxo,fso,rfl,h1,lmo _ (by simp),_,rfl,.inl ⟨po,a,fo,zs,r,rows,us,pr,rfl,B.of,ha,hp,gr,l12,l60,fun H1 s1=>⟨_,rfl,p,dx,fs,rfl,s1 _ _ B.hp,B.lm _ (by simp),.inr ⟨p,_,zs,r,k,rows,log,rfl,U3.same bk s1,l4,kk H1 s1⟩⟩⟩⟩
noncomputable def RefD(CN CR CB:Addr)(rows:List Row)(log:List B7)(k rd n:Int)(C:Addr):Prop:=((n<1\/(rows.length:Int)<n)/\C=CN)\/(1≤n/\n≤rows.length/\(((rd<1\/k<rd)/\C=CR)\/(1≤rd/\rd≤k/\400≤log.length/\C=CB)))
noncomputable def z4u(Bk:BkP)(CN CR CB:Addr):Sp:=fun vs H _ E=>∃(p:Addr) (fp:List Addr) (zs:List Str) (r k:Int) (rows:List Row) (log:List B7) (rd n:Int) (C:Addr),vs=[.ref p,.int rd,.int n]/\Bk H p fp zs r k rows log/\RefD CN CR CB rows log k rd n C/\∀H',A4 H H'->E (.ref C) none H'
theorem z9s{A1 A0 CNotWritten CUnknownReader CBookFull:Addr}(M:Bl mg)(T:F0 K mg A1)(F:Fun K "deliver" "Book.deliver" z2M f fd)(B0:D7 P w K mg base 1 A0 "issue" z0U (z25 (OfD K A0)))
  (A6:D7 P w K mg base 1 A1 "refuse_unknown_reader" z0y (z2h (BkD K A1 A0))) (A5:D7 P w K mg base 1 A1 "refuse_further_deed" z0s (z2A (BkD K A1 A0)))
  (E2:M3 P w K mg base 1 A0 "issue" z0U (K7 (z25 (OfD K A0)) (z9h (OfD K A0) CNotWritten))) (C6:M3 P w K mg base 1 A1 "refuse_unknown_reader" z0y (K7 (z2h (BkD K A1 A0)) (z6T (BkD K A1 A0) CUnknownReader)))
  (B5:M3 P w K mg base 1 A1 "refuse_further_deed" z0s (K7 (z2A (BkD K A1 A0)) (z6g (BkD K A1 A0) CBookFull))) :
  A8 P w K mg base (CX1 P w) 5 f fd z2Q (K7 (z5l (BkD K A1 A0)) (z4u (BkD K A1 A0) CNotWritten CUnknownReader CBookFull)):=by
 have nd:=z2o.nd
 refine(z6K M T F B0 A6 A5).toX.or (F.okX z2o (fun vs H Q E h=>?_) (fun cdv A outer s H vs Q E hr h=>?_))
 ·obtain⟨p,fp,zs,r,k,rows,log,rd,n,C,rfl,_⟩:=h
  rfl
 obtain⟨p,fp,zs,r,k,rows,log,rd,n,C,rfl,bk,rf,kk⟩:=h
 have hu:=z9U hr
 refine⟨_,(z04 (z0x (z3x z34 E2 (rm hr) (z0A (pv 0) rfl) (z00 (pv 2) z02))) (z04 (z0x (z3x z34 C6 (rm hr) (pv 0) (z00 (pv 1) z02))) (z04 (z0x (y0a z34 B5 (rm hr) (pv 0))) (z04 (z0k (i:=3) nd rfl (Or.inl rfl) (z0X (z00 (z21 rfl M.DELIVER) (z00 (pv 1) (z00 (pv 2) z02))))) (z04 (z0k (i:=4) nd rfl (Or.inl rfl) (z9y (y0b hu) (pv 3) (z0A (pv 0) rfl) (by with_unfolding_all rfl))) (z04 (z0x (z26 bJ bQ bS z0G (z0A (pv 0) rfl) (z00 (pv 3) z02))) (z05 (z0d (pv 4))))))))),?_⟩
 obtain⟨dx,po,pd,fs,fo,vs,rfl,B⟩:=id bk
 obtain⟨dxo,pno,plo,fso,xso,efo,h1,h2,h3,h4,l1,l2,l3,lmo,_⟩:=id B.of
 rcases rf with ⟨hn,rfl⟩|⟨n1,n2,⟨hr2,rfl⟩|⟨r1,r2,l4,rfl⟩⟩
 ·exact⟨_,rfl,p,A1,dx,fs,_,rfl,B.hp,T.cl,T.n_office,B.lo,po,dxo,fso,rfl,h1,lmo _ (by simp),_,rfl,.inr ⟨po,fo,zs,r,rows,n,rfl,B.of,hn,kk H (A4.refl _)⟩⟩
 ·exact⟨_,rfl,p,A1,dx,fs,_,rfl,B.hp,T.cl,T.n_office,B.lo,po,dxo,fso,rfl,h1,lmo _ (by simp),_,rfl,.inl ⟨po,fo,zs,r,rows,n,rfl,B.of,n1,n2,fun v H1 s1 _=>⟨_,rfl,p,dx,fs,rfl,s1 _ _ B.hp,B.lm _ (by simp),_,rfl,.inr ⟨p,_,zs,r,k,rows,log,rd,rfl,U3.same bk s1,hr2,kk H1 s1⟩⟩⟩⟩
 ·exact⟨_,rfl,p,A1,dx,fs,_,rfl,B.hp,T.cl,T.n_office,B.lo,po,dxo,fso,rfl,h1,lmo _ (by simp),_,rfl,.inl ⟨po,fo,zs,r,rows,n,rfl,B.of,n1,n2,fun v H1 s1 _=>⟨_,rfl,p,dx,fs,rfl,s1 _ _ B.hp,B.lm _ (by simp),_,rfl,.inl ⟨p,_,zs,r,k,rows,log,rd,rfl,U3.same bk s1,r1,r2,⟨_,rfl,p,dx,fs,rfl,s1 _ _ B.hp,B.lm _ (by simp),.inr ⟨p,_,zs,r,k,rows,log,rfl,U3.same bk s1,l4,kk H1 s1⟩⟩⟩⟩⟩⟩
noncomputable def y28(Bk:BkP)(CN:Addr):Sp:=fun vs H _ E=>∃(p:Addr) (fp:List Addr) (zs:List Str) (r k:Int) (rows:List Row) (log:List B7) (n:Int),vs=[.ref p,.int n]/\Bk H p fp zs r k rows log/\(n<1\/(rows.length:Int)<n)/\E (.ref CN) none H
theorem y0E{A1 A0 CNotWritten:Addr}(M:Bl mg)(T:F0 K mg A1)(F:Fun K "issue" "Book.issue" z3I f fd)(B0:D7 P w K mg base 1 A0 "issue" z0U (z25 (OfD K A0)))
  (E2:M3 P w K mg base 1 A0 "issue" z0U (K7 (z25 (OfD K A0)) (z9h (OfD K A0) CNotWritten))):A8 P w K mg base (CX1 P w) 2 f fd z3R (K7 (z7I (BkD K A1 A0)) (y28 (BkD K A1 A0) CNotWritten)):=by
 have nd:=z31.nd
 refine(z8f M T F B0).toX.or (F.okX z31 (fun vs H Q E h=>?_) (fun cdv A outer s H vs Q E hr h=>?_))
 ·obtain⟨p,fp,zs,r,k,rows,log,n,rfl,_⟩:=h
  rfl
 obtain⟨p,fp,zs,r,k,rows,log,n,rfl,⟨dx,po,pd,fs,fo,us,rfl,B⟩,hn,kk⟩:=h
 refine⟨_,(z05 (z0d (z3x z34 E2 (rm hr) (z0A (pv 0) rfl) (z00 (pv 1) z02)))),?_⟩
 obtain⟨dxo,pno,plo,fso,xso,efo,h1,h2,h3,h4,l1,l2,l3,lmo,_⟩:=id B.of
 exact⟨_,rfl,p,A1,dx,fs,_,rfl,B.hp,T.cl,T.n_office,B.lo,po,dxo,fso,rfl,h1,lmo _ (by simp),_,rfl,.inr ⟨po,fo,zs,r,rows,n,rfl,B.of,hn,kk⟩⟩
noncomputable def y3O(Bk:BkP)(CD:Addr):Sp:=fun vs H _ E=>∃(p:Addr) (fp:List Addr) (zs:List Str) (r k:Int) (rows:List Row) (log:List B7) (n:Int),vs=[.ref p,.int n]/\Bk H p fp zs r k rows log/\(n<1\/(log.length:Int)<n)/\E (.ref CD) none H
theorem y2a{A1 A0 CNoSuchDeed:Addr}(M:Bl mg)(T:F0 K mg A1)(F:Fun K "deed" "Book.deed" z4C f fd)(F9:Err K mg "NoSuchDeed" CNoSuchDeed):A8 P w K mg base (CX1 P w) 1 f fd z4E (K7 (z8P (BkD K A1 A0)) (y3O (BkD K A1 A0) CNoSuchDeed)):=by
 have nd:=z3S.nd
 refine(y0l M T F).toX.or (F.okX z3S (fun vs H Q E h=>?_) (fun cdv A outer s H vs Q E hr h=>?_))
 ·obtain⟨p,fp,zs,r,k,rows,log,n,rfl,_⟩:=h
  rfl
 obtain⟨p,fp,zs,r,k,rows,log,n,rfl,⟨dx,po,pd,fs,fo,us,rfl,B⟩,hn,kk⟩:=h
 refine⟨_,(z04 (z0H (PW.pt (z3n (z0a z43 (pv 1) z06 (z0h _)) (z22 (z0a z1N (pv 1) (z09 z07 rfl M.len bD (z00 (z0A (pv 0) rfl) z02)) (z0h _))))) (z05 (z35 F9 rfl (z00 z0F z02))) z0j) (z05 (z0d (z0N z0L (z0A (pv 0) rfl) (z0e z2J (pv 1) z06) (fun _ _=>rfl))))),?_⟩
 have lu:=z1F B.ds
 refine⟨_,rfl,_,_,rfl,rfl,_,rfl,B6 (fun q=>⟨(by show 1≤sizeLine;decide),kk⟩) fun n1=>?_⟩
 refine⟨_,rfl,_,rfl,p,A1,dx,fs,_,rfl,B.hp,T.cl,T.n_done,B.ld,pd,us,rfl,.inl (SqL.of B.hd),_,_,rfl,rfl,_,rfl,B6 (fun q=>⟨(by show 1≤sizeLine;decide),kk⟩) fun n2=>?_⟩
 exfalso
 have e1:¬n<1:=fun z=>n1 (decide_eq_true z)
 have e2:¬(us.length:Int)<n:=fun z=>n2 (decide_eq_true z)
 lia
theorem y72:∀p∈UnicodeData.severalUpper,∀d∈p.2,d<16^8:=by decide +kernel
theorem y7f:∀p∈UnicodeData.severalLower,∀d∈p.2,d<16^8:=by decide +kernel
theorem y7g:∀p∈UnicodeData.oneUpper,p.2.2+(p.2.1-p.1)<16^8:=by decide +kernel
theorem y7I:∀p∈UnicodeData.oneLower,p.2.2+(p.2.1-p.1)<16^8:=by decide +kernel
theorem y4V{l:List (Nat×List Nat)}(h:∀p∈l,∀d∈p.2,d<16^8){c:Nat}{cs:List Nat}(e:l.lookup c=some cs):∀d∈cs,d<16^8:=by
 induction l with
 | nil=>cases e
 | cons p l ih=>
  obtain⟨a,b⟩:=p
  rw[e8] at e
  split at e
  ·cases e
   exact h (a,cs) bX
  ·exact ih (fun q hq=>h q (bP _ hq)) e
theorem y3h{l:List (Nat×Nat×Nat)}(h:∀p∈l,p.2.2+(p.2.1-p.1)<16^8){c d:Nat}(e:Unicode.shifted l c=some d):d<16^8:=by
 induction l with
 | nil=>cases e
 | cons p l ih=>
  obtain⟨a,b,t⟩:=p
  unfold Unicode.shifted at e
  split at e
  ·cases e
  ·split at e
   ·cases e
    have:=h (a,b,t) bX
    dsimp only at this
    lia
   ·exact ih (fun q hq=>h q (bP _ hq)) e
theorem y0p{o:List (Nat×Nat×Nat)}{l:List (Nat×List Nat)}(h1:∀p∈o,p.2.2+(p.2.1-p.1)<16^8)(h2:∀p∈l,∀d∈p.2,d<16^8){c:Nat}(hc:c<16^8):∀d∈Unicode.image o l c,d<16^8:=by
 unfold Unicode.image
 split
 ·rename_i cs e
  exact y4V h2 e
 ·intro d hd
  rw[bA.mp hd]
  cases e:Unicode.shifted o c with
  | none=>exact hc
  | some x=>exact y3h h1 e
theorem z8h{x:Str}{f:Nat->Nat->List Nat}(h:∀i c,x.cps[i]? = some c->∀d∈f i c,d<16^8):∀d∈(PySem.placed x f).toList,d<16^8:=fun d hd=>by
 unfold PySem.placed at hd
 have hd':=hV.mpr hd
 obtain⟨a,ha,hm⟩:=Array.mem_flatten.mp hd'
 obtain⟨i,hi,rfl⟩:=Array.mem_mapIdx.mp ha
 exact h i _ (Array.getElem?_eq_getElem hi) d (by simpa using hm)
theorem y4d{x:Str}(h:Low x):Low (Txt.upper x):=z8h fun i c e d hd=>y0p y7g y72 (h c (hV.mp (Array.mem_of_getElem? e))) d hd
theorem y3U{x:Str}(h:Low x):Low (Txt.lower x):=z8h fun i c e d hd=>by
 unfold Unicode.lowerAt at hd
 rw[e] at hd
 dsimp only at hd
 split at hd
 ·rw[bA.mp hd]
  decide
 ·exact y0p y7I y7f (h c (hV.mp (Array.mem_of_getElem? e))) d hd
theorem y3X{a b:Str}(ha:Low a)(hb:Low b):Low (a++b):=fun c hc=>by
 rw[z68] at hc
 exact(cB.mp hc).elim (ha c) (hb c)
theorem y61{z:Str}(h:Low z)(lo hi:Option Int):Low (P2 z lo hi):=fun c hc=>by
 have hc':c∈(z.cps.toList.drop _).take _:=hc
 exact h c (gR (dE hc'))
noncomputable def z9Z(K:PySem.W.Frag):Sp:=fun vs H Q _=>∃(ln:Addr) (nm:List Str) (c:Int),vs=[.ref ln,.int c]/\SqL K H ln (nm.map V.str)/\1≤nm.length/\nm.length≤12/\Nms nm/\∀(z:Str) (H':Hp),A4 H H'->z.length≤100->Low z->z∉nm->Q (.str z) H'
theorem y3u(a b:Str):(a++b).length=a.length+b.length:=by
 rw[<- z0Y,z68,bF,z0Y,z0Y]
theorem y4P(z:Str)(lo hi:Option Int):(P2 z lo hi).length≤z.length:=by
 rw[<- z0Y,<- z0Y]
 show((z.cps.toList.drop _).take _).length≤_
 rw[bM,dC]
 lia
theorem z5G{n:Nat}(h:n≤1000):n≤sizeLine:=fG (z0i h)
theorem y5E{n:Nat}(h:n≤1000):Builtin.Str.tooLong n=false:=by
 have:=z5G h
 unfold Builtin.Str.tooLong
 exact decide_eq_false (by lia)
theorem y22(M:Bl mg)(F:Fun K "_law_strange" "_law_strange" z3G f fd):A8 P w K mg base CX0 1 f fd z3K (z9Z K):=by
 have nd:=z4W.nd
 refine F.ok z4W (fun vs H Q E h=>?_) (fun cdv A outer s H vs Q E hr h=>?_)
 ·obtain⟨ln,nm,c,rfl,_⟩:=h
  rfl
 obtain⟨ln,nm,c,rfl,hN,n1,n12,Nn,q⟩:=h
 have n20:=Nn.hi
 refine⟨_,(z04 (z0k (i:=2) nd rfl (Or.inl rfl) (z0N z0L (pv 0) (z0e z0I (z0e z0K (pv 1) z06) (z09 z07 rfl M.len bD (z00 (pv 0) z02))) (fun _ _=>rfl))) (z04 (z0k (i:=3) nd rfl (Or.inl rfl) z0F) (z04 (z0k (i:=4) nd rfl (Or.inl rfl) (z0N z0L (z0T (z00 (pv 3) (z00 (z0e z4D (pv 2) z0F) (z00 (y5J PySem.F.plainAttrs_str PySem.F.slot_str_upper PySem.F.type_str_upper y58 (pv 2)) (z00 (y5J PySem.F.plainAttrs_str PySem.F.slot_str_lower PySem.F.type_str_lower y4z (pv 2)) (z00 (z0e z4D (pv 2) z0F) (z00 (z33 y3e (pv 2) (z3A z06) z58) z02))))))) (z0e z0I (pv 1) z06) (fun _ _=>rfl))) (z04 (z0H (PW.pt (z3n (z0a z7q (pv 4) (pv 0) (by with_unfolding_all rfl)) (z3n (z0a z2y (pv 4) z0F (z0h _)) (z22 (z0a z1N (z09 z6J rfl M.len bD (z00 (pv 4) z02)) z06 (z0h _)))))) (z05 (z0d (pv 3))) z0j) (z05 (z0d (pv 4))))))),?_⟩
 have i0:0≤c / 6%(nm.length:Int):=cJ _ (by lia)
 have i1:c / 6%(nm.length:Int)<(nm.length:Int):=cA _ (by lia)
 obtain⟨z,ez,az⟩:=z9k i0 i1
 have hz:=n20 z (bZ ez)
 have lz:Low z:=Nn.low z (bZ ez)
 refine⟨_,rfl,_,rfl,_,_,rfl,rfl,⟨by decide,by decide⟩,_,rfl,ln,_,rfl,.inl hN,_,_,rfl,rfl,(by rw[b6];lia),ln,_,_,_,rfl,rfl,hN,(by rw[b6];exact az),?_⟩
 have w0s:Low "a stranger of twenty":=show ∀c∈("a stranger of twenty":Str).cps.toList,c<16^8 from by decide +kernel
 have lx:("x":Str).length=1:=by decide +kernel
 have lb:(" ":Str).length=1:=by decide +kernel
 have lf:("a stranger of twenty":Str).length=20:=by decide +kernel
 have hu:=y46 z
 have hl:=y37 z
 have hc:=y4P z (some 1) none
 refine⟨_,rfl,_,rfl,_,_,rfl,rfl,z5G (by lia),?_⟩
 refine⟨_,rfl,rfl,z,rfl,rfl,y5E (by lia),?_⟩
 refine⟨_,rfl,rfl,z,rfl,rfl,y5E (by lia),?_⟩
 refine⟨_,rfl,_,_,rfl,rfl,z5G (by lia),?_⟩
 refine⟨_,rfl,_,rfl,z,rfl,z5G (by lia),?_⟩
 refine⟨(by show 6≤sizeLine;decide),fun p hp=>?_⟩
 obtain⟨y,hat,hy,ly⟩:∃y:Str,atI [V.str "a stranger of twenty",V.str (z++"x"),V.str (Txt.upper z),V.str (Txt.lower z),V.str (z++" "),V.str (P2 z (some 1) none)] (c%6)=some (.str y)/\y.length≤100/\Low y:=by
  have h1:=cJ c (show(6:Int)≠0 by decide)
  have h2:=cA c (show(0:Int)<6 by decide)
  have c6:c%6=0\/c%6=1\/c%6=2\/c%6=3\/c%6=4\/c%6=5:=by lia
  rcases c6 with e|e|e|e|e|e<;>rw[e]
  ·exact⟨_,rfl,by lia,w0s⟩
  ·exact⟨_,rfl,by rw[y3u];lia,y3X lz (show ∀c∈("x":Str).cps.toList,c<16^8 from by decide +kernel)⟩
  ·exact⟨_,rfl,by lia,y4d lz⟩
  ·exact⟨_,rfl,by lia,y3U lz⟩
  ·exact⟨_,rfl,by rw[y3u];lia,y3X lz (show ∀c∈(" ":Str).cps.toList,c<16^8 from by decide +kernel)⟩
  ·exact⟨_,rfl,by lia,y61 lz _ _⟩
 refine⟨_,rfl,_,_,rfl,rfl,(by show(0:Int)<6;decide),p,_,_,_,rfl,rfl,SqL.of z03,hat,?_⟩
 have s1:=z01 hp (.lst [V.str "a stranger of twenty",V.str (z++"x"),V.str (Txt.upper z),V.str (Txt.lower z),V.str (z++" "),V.str (P2 z (some 1) none)])
 refine⟨_,rfl,_,rfl,ln,_,rfl,.inl (s1.seq hN),rfl,z2B nm,_,rfl,?_⟩
 rw[if_neg bO,z4v]
 by_cases c1:y∈nm
 ·rw[decide_eq_true c1]
  exact J5 ⟨_,rfl,q _ _ s1 (by lia) w0s Nn.far⟩
 rw[decide_eq_false c1]
 refine C8 ⟨_,rfl,rfl,_,rfl,?_⟩
 refine B6 (fun _=>?_) (fun _=>?_)
 ·exact⟨_,rfl,q _ _ s1 (by lia) w0s Nn.far⟩
 refine⟨_,rfl,y,rfl,z5G (by lia),_,_,rfl,rfl,_,rfl,?_⟩
 refine B6 (fun _=>?_) (fun _=>?_)
 ·exact⟨_,rfl,q _ _ s1 (by lia) w0s Nn.far⟩
 ·exact⟨_,rfl,q _ _ s1 hy ly c1⟩
noncomputable def O0(H:Hp)(u:V)(p:Str×Int):Prop:=∃b,u=.ref b/\H b=some (.lst [.str p.1,.int p.2])
theorem O0.keep{H H':Hp}(s:A4 H H'):∀{us:List V}{pr:Row},Paired (O0 H) us pr->Paired (O0 H') us pr
 | _,_,.nil=>.nil
 | _,_,.cons ⟨a,e,h⟩ t=>.cons ⟨a,e,s _ _ h⟩ (O0.keep s t)
theorem O0.at{H:Hp}:∀{us:List V}{pr:Row},Paired (O0 H) us pr->∀(i:Nat) (x:V),us[i]? = some x->∃p,pr[i]? = some p/\O0 H x p
 | _,_,.nil,i,x,e=>by simp at e
 | _,_,.cons r t,0,x,e=>by
  simp at e
  subst e
  exact⟨_,rfl,r⟩
 | _,_,.cons r t,i+1,x,e=>by
  obtain⟨y,h1,h2⟩:=O0.at t i x (by simpa using e)
  exact⟨y,by simpa using h1,h2⟩
theorem O0.hand{K:PySem.W.Frag}{H:Hp}:∀{us:List V}{pr:Row},Paired (O0 H) us pr->Paired (z1A K H) us pr
 | _,_,.nil=>.nil
 | _,_,.cons ⟨a,e,h⟩ t=>.cons ⟨a,e,.inl (SqL.of h)⟩ (O0.hand t)
noncomputable def y6Z(nm:List Str)(pr:Row)(z:Str):Prop:=((∃p∈pr,p.1∉nm)/\z="UnknownName")\/((∀p∈pr,p.1∈nm)/\¬(pr.map Prod.fst).Nodup/\z="NameTwice")\/((∀p∈pr,p.1∈nm)/\(pr.map Prod.fst).Nodup/\(∃p∈pr,p.2<0\/1000000<p.2)/\z="BadValue")\/(GoodR nm pr/\z="")
noncomputable def y0g(K:PySem.W.Frag):Sp:=fun vs H Q _=>∃(lr ln:Addr) (us:List V) (pr:Row) (nm:List Str),vs=[.ref lr,.ref ln]/\H lr=some (.lst us)/\Paired (O0 H) us pr/\pr.length≤100/\SqL K H ln (nm.map V.str)/\∀(z:Str) (H':Hp),A4 H H'->y6Z nm pr z->Q (.str z) H'
theorem y49(zs:List Str)(z:Str):(zs.map V.str).countP (fun y=>eqV y (.str z))=zs.count z:=by
 rw[List.countP_map,List.count]
 rfl
theorem y1X{zs:List Str}:zs.filter (fun z=>decide (1<zs.count z))=[]↔zs.Nodup:=by
 rw[dQ,List.nodup_iff_count]
 constructor
 ·intro h z
  by_cases hz:z∈zs
  ·have:=h z hz
   rw[decide_eq_true_eq] at this
   lia
  ·rw[List.count_eq_zero.mpr hz]
   exact cQ _
 ·intro h z _ q
  have:=of_decide_eq_true q
  have:=h z
  lia
theorem y2r(M:Bl mg)(F:Fun K "_law_refusal" "_law_refusal" z3z f fd):A8 P w K mg base CX0 1 f fd z3C (y0g K):=by
 have nd:=z4R.nd
 refine F.ok z4R (fun vs H Q E h=>?_) (fun cdv A outer s H vs Q E hr h=>?_)
 ·obtain⟨lr,ln,us,pr,nm,rfl,_⟩:=h
  rfl
 obtain⟨lr,ln,us,pr,nm,rfl,eR,hp,l100,hN,q⟩:=h
 refine⟨_,(z04 (z0k (i:=2) nd rfl (Or.inr rfl) (z1n ["_law_row_here"] [] [] rfl (z0w rfl (by decide +kernel) rfl (by decide +kernel) rfl rfl) (z1r (pv 0)) (fun _ _ _ _ _=>(z0m (i:=0) (show((["_law_row_here"]:List PySem.Str)++([]:List PySem.Str)).Nodup from by decide +kernel) rfl (Or.inl rfl))) (z0B (by decide)) z0c (fun _ _ _ _ _=>z20) (fun _ _ _ _ _=>(z0N (r:=w07 K) z0L (pv 0) z06 (fun _ _=>rfl))))) (z04 (z0H (z0a z1N (z09 z07 rfl M.len bD (z00 (z1n ["_law_name"] ["_law_names_here"] [1] rfl (z0w rfl (by decide +kernel) rfl (by decide +kernel) rfl rfl) (z1r (pv 2)) (fun _ _ _ _ _=>(z0m (i:=0) (show((["_law_name"]:List PySem.Str)++(["_law_names_here"]:List PySem.Str)).Nodup from by decide +kernel) rfl (Or.inl rfl))) (z0B (by decide)) z0c (fun _ _ _ _ _=>(z2m (z0a (r:=rIn K true) z1H (pv 0) (pv 1) (by with_unfolding_all rfl)))) (fun _ _ _ _ _=>(pv 0))) z02)) z06 (z0h _)) (z05 (z0d z0F)) z0j) (z04 (z0H (z0a z1N (z09 z07 rfl M.len bD (z00 (z1n ["_law_name"] ["_law_places"] [2] rfl (z0w rfl (by decide +kernel) rfl (by decide +kernel) rfl rfl) (z1r (pv 2)) (fun _ _ _ _ _=>(z0m (i:=0) (show((["_law_name"]:List PySem.Str)++(["_law_places"]:List PySem.Str)).Nodup from by decide +kernel) rfl (Or.inl rfl))) (z0B (by decide)) z0c (fun _ _ _ _ _=>(z2m (z0a z1N (y7F (K:=K) rfl bJ PySem.F.slot_list_count PySem.F.type_list_count (y2x (K:=K) rfl) (pv 1) (z00 (pv 0) z02)) z06 (z0h _)))) (fun _ _ _ _ _=>(pv 0))) z02)) z06 (z0h _)) (z05 (z0d z0F)) z0j) (z04 (z0H (z0a z1N (z09 z07 rfl M.len bD (z00 (z1n ["_law_row_here"] [] [] rfl (z0w rfl (by decide +kernel) rfl (by decide +kernel) rfl rfl) (z1r (pv 0)) (fun _ _ _ _ _=>(z0m (i:=0) (show((["_law_row_here"]:List PySem.Str)++([]:List PySem.Str)).Nodup from by decide +kernel) rfl (Or.inl rfl))) (z0B (by decide)) z0c (fun _ _ _ _ _=>(z2m (PW.pt (z3n (z0a z43 (z0N (r:=w07 K) z0L (pv 0) z06 (fun _ _=>rfl)) z06 (z0h _)) (z22 (z0a z1N (z0N (r:=w07 K) z0L (pv 0) z06 (fun _ _=>rfl)) z06 (z0h _))))))) (fun _ _ _ _ _=>(pv 0))) z02)) z06 (z0h _)) (z05 (z0d z0F)) z0j) (z05 (z0d z0F)))))),?_⟩
 have lu:us.length=pr.length:=hp.length
 refine⟨_,rfl,lr,rfl,⟨_,SqL.of eR⟩,?_⟩
 refine z2b (xs:=us) (fun i ys G=>G=H/\ys=((pr.take i).map Prod.fst).map V.str) ⟨rfl,rfl⟩ (fun i ys G hi hq=>?_) (fun i x ys G hx hq=>?_) (fun ys G hq=>?_)
 ·obtain⟨rfl,rfl⟩:=hq
  refine⟨SqL.of eR,z0i ?_⟩
  rw[b6,b6,bM]
  lia
 ·obtain⟨rfl,rfl⟩:=hq
  obtain⟨p,ep,b,rfl,hb⟩:=O0.at hp i x hx
  refine⟨_,rfl,b,_,0,_,rfl,rfl,SqL.of hb,rfl,rfl,?_⟩
  rw[z0C ep,bI,bI]
  rfl
 obtain⟨rfl,rfl⟩:=hq
 rw[lu,bW]
 intro D hD
 have s1:=z01 hD (.lst ((pr.map Prod.fst).map V.str))
 have e1:upd G D (.lst ((pr.map Prod.fst).map V.str)) D=some (.lst ((pr.map Prod.fst).map V.str)):=z03
 generalize upd G D (.lst ((pr.map Prod.fst).map V.str))=H1 at s1 e1
 have hN1:=s1.seq hN
 have eR1:=s1 _ _ eR
 have hp1:=O0.keep s1 hp
 have lf:(pr.map Prod.fst).length=pr.length:=b6 _
 refine⟨_,rfl,D,rfl,⟨_,SqL.of e1⟩,?_⟩
 refine z2b (xs:=(pr.map Prod.fst).map V.str) (fun i ys G=>G=H1/\ys=(((pr.map Prod.fst).take i).filter fun z=>decide (z∉nm)).map V.str) ⟨rfl,rfl⟩ (fun i ys G hi hq=>?_) (fun i y ys G hy hq=>?_) (fun ys G hq=>?_)
 ·obtain⟨rfl,rfl⟩:=hq
  refine⟨SqL.of e1,z0i ?_⟩
  rw[b6]
  have:=cE (fun z=>decide (z∉nm)) ((pr.map Prod.fst).take i)
  rw[bM] at this
  lia
 ·obtain⟨rfl,rfl⟩:=hq
  rw[bL] at hy
  obtain⟨z,ez,rfl⟩:=cS.mp hy
  refine⟨_,rfl,_,rfl,ln,_,rfl,.inl hN1,rfl,z2B nm,_,rfl,?_⟩
  rw[if_pos rfl,z4v,z0C ez,cY,dG]
  by_cases c:z∈nm
  ·rw[decide_eq_true c,if_neg (fun q=>(of_decide_eq_true q) c),dL,cR]
   exact C8 ⟨rfl,rfl⟩
  ·rw[decide_eq_false c,if_pos (decide_eq_true c),bI]
   exact J5 ⟨_,rfl,rfl,rfl⟩
 obtain⟨rfl,rfl⟩:=hq
 rw[b6,bW]
 intro D2 hD2
 have s2:=z01 hD2 (.lst (((pr.map Prod.fst).filter fun z=>decide (z∉nm)).map V.str))
 refine⟨D2,_,rfl,.inl (SqL.of z03),_,_,rfl,rfl,_,rfl,?_⟩
 rw[b6]
 by_cases C7:∀p∈pr,p.1∈nm
 case neg=>
  have:∃p∈pr,p.1∉nm:=dZ fun c=>C7 fun p hp=>dZ fun d=>c ⟨p,hp,d⟩
  obtain⟨p,hpm,hz⟩:=this
  have pos:0<((pr.map Prod.fst).filter fun z=>decide (z∉nm)).length:=gH (a:=p.1) (cM.mpr ⟨cF.mpr ⟨p,hpm,rfl⟩,decide_eq_true hz⟩)
  rw[decide_eq_true (by lia)]
  exact J5 (q _ _ (s1.trans s2) (.inl ⟨⟨p,hpm,hz⟩,rfl⟩))
 have z0:((pr.map Prod.fst).filter fun z=>decide (z∉nm))=[]:=dQ.mpr fun z hz c=>by
  obtain⟨p,hpm,rfl⟩:=cF.mp hz
  exact(of_decide_eq_true c) (C7 p hpm)
 rw[z0] at s2 ⊢
 rw[decide_eq_false (by show ¬(0:Int)<0;lia)]
 have e12:=s2 _ _ e1
 have s12:=s1.trans s2
 generalize upd G D2 (.lst (([]:List Str).map V.str))=H2 at s2 e12 s12
 have eR2:=s2 _ _ eR1
 have hp2:=O0.keep s2 hp1
 refine C8 ⟨_,rfl,D,rfl,⟨_,SqL.of e12⟩,?_⟩
 refine z2b (xs:=(pr.map Prod.fst).map V.str) (fun i ys G=>G=H2/\ys=(((pr.map Prod.fst).take i).filter fun z=>decide (1<(pr.map Prod.fst).count z)).map V.str) ⟨rfl,rfl⟩ (fun i ys G hi hq=>?_) (fun i y ys G hy hq=>?_) (fun ys G hq=>?_)
 ·obtain⟨rfl,rfl⟩:=hq
  refine⟨SqL.of e12,z0i ?_⟩
  rw[b6]
  have:=cE (fun z=>decide (1<(pr.map Prod.fst).count z)) ((pr.map Prod.fst).take i)
  rw[bM] at this
  lia
 ·obtain⟨rfl,rfl⟩:=hq
  rw[bL] at hy
  obtain⟨z,ez,rfl⟩:=cS.mp hy
  refine⟨_,rfl,.inl ⟨rfl,_,SqL.of e12⟩,_,rfl,D,_,_,rfl,rfl,SqL.of e12,rfl,z2B _,_,_,rfl,rfl,_,rfl,?_⟩
  rw[y49,z0C ez,cY,dG]
  by_cases c:1<(pr.map Prod.fst).count z
  ·rw[decide_eq_true (show(1:Int)<((pr.map Prod.fst).count z:Int) by lia),if_pos (decide_eq_true c),bI]
   exact J5 ⟨_,rfl,rfl,rfl⟩
  ·rw[decide_eq_false (show ¬(1:Int)<((pr.map Prod.fst).count z:Int) by lia),if_neg (fun q=>c (of_decide_eq_true q)),dL,cR]
   exact C8 ⟨rfl,rfl⟩
 obtain⟨rfl,rfl⟩:=hq
 rw[b6,bW]
 intro D3 hD3
 have s3:=z01 hD3 (.lst (((pr.map Prod.fst).filter fun z=>decide (1<(pr.map Prod.fst).count z)).map V.str))
 refine⟨D3,_,rfl,.inl (SqL.of z03),_,_,rfl,rfl,_,rfl,?_⟩
 rw[b6]
 by_cases hnd:(pr.map Prod.fst).Nodup
 case neg=>
  have pos:0<((pr.map Prod.fst).filter fun z=>decide (1<(pr.map Prod.fst).count z)).length:=gT.mpr fun e=>hnd (y1X.mp e)
  rw[decide_eq_true (by lia)]
  exact J5 (q _ _ (s12.trans s3) (.inr (.inl ⟨C7,hnd,rfl⟩)))
 rw[y1X.mpr hnd] at s3 ⊢
 rw[decide_eq_false (by show ¬(0:Int)<0;lia)]
 have s13:=s12.trans s3
 generalize upd G D3 (.lst (([]:List Str).map V.str))=H3 at s3 s13
 have eR3:=s3 _ _ eR2
 have hp3:=O0.keep s3 hp2
 refine C8 ⟨_,rfl,lr,rfl,⟨_,SqL.of eR3⟩,?_⟩
 refine z2b (xs:=us) (fun i ys G=>G=H3/\ys.length=((pr.take i).filter fun p=>decide (p.2<0\/1000000<p.2)).length) ⟨rfl,rfl⟩ (fun i ys G hi hq=>?_) (fun i x ys G hx hq=>?_) (fun ys G hq=>?_)
 ·obtain⟨rfl,hl⟩:=hq
  refine⟨SqL.of eR3,z0i ?_⟩
  rw[hl]
  have:=cE (fun p:Str×Int=>decide (p.2<0\/1000000<p.2)) (pr.take i)
  rw[bM] at this
  lia
 ·obtain⟨rfl,hl⟩:=hq
  obtain⟨p,ep,b,rfl,hb⟩:=O0.at hp3 i x hx
  refine⟨_,rfl,b,_,1,_,rfl,rfl,SqL.of hb,rfl,_,_,rfl,rfl,_,rfl,?_⟩
  rw[z0C ep,cY,dG]
  by_cases c1:p.2<0
  ·rw[decide_eq_true c1,if_pos (decide_eq_true (.inl c1))]
   exact J5 ⟨_,rfl,rfl,by rw[bF,bF,hl];rfl⟩
  rw[decide_eq_false c1]
  refine C8 ⟨_,rfl,b,_,1,_,rfl,rfl,SqL.of hb,rfl,_,_,rfl,rfl,_,rfl,?_⟩
  by_cases c2:1000000<p.2
  ·rw[decide_eq_true c2,if_pos (decide_eq_true (.inr c2))]
   exact J5 ⟨_,rfl,rfl,by rw[bF,bF,hl];rfl⟩
  ·rw[decide_eq_false c2,if_neg (fun q=>(of_decide_eq_true q).elim c1 c2),dL,cR]
   exact C8 ⟨rfl,hl⟩
 obtain⟨rfl,hl⟩:=hq
 rw[lu,bW] at hl
 intro D4 hD4
 have s4:=s13.trans (z01 hD4 (.lst ys))
 refine⟨D4,_,rfl,.inl (SqL.of z03),_,_,rfl,rfl,_,rfl,?_⟩
 rw[hl]
 by_cases hv:∀p∈pr,0≤p.2/\p.2≤1000000
 ·rw[dQ.mpr fun p hpm c=>by
   have:=of_decide_eq_true c
   have:=hv p hpm
   lia]
  rw[decide_eq_false (by show ¬(0:Int)<0;lia)]
  exact C8 (q _ _ s4 (.inr (.inr (.inr ⟨⟨hnd,C7,hv⟩,rfl⟩))))
 ·have:∃p∈pr,p.2<0\/1000000<p.2:=dZ fun c=>hv fun p hp=>dZ fun d=>c ⟨p,hp,by lia⟩
  obtain⟨p,hpm,hb⟩:=this
  have pos:0<(pr.filter fun p=>decide (p.2<0\/1000000<p.2)).length:=gH (cM.mpr ⟨hpm,decide_eq_true hb⟩)
  rw[decide_eq_true (by lia)]
  exact J5 (q _ _ s4 (.inr (.inr (.inl ⟨C7,hnd,⟨p,hpm,hb⟩,rfl⟩))))
noncomputable def HL(H0 H:Hp)(u:V)(p:Str×Int):Prop:=∃b,u=.ref b/\H b=some (.lst [.str p.1,.int p.2])/\H0 b=none
theorem HL.keep{H0 H H':Hp}(g:A4 H H'):∀{us:List V}{pr:Row},Paired (HL H0 H) us pr->Paired (HL H0 H') us pr
 | _,_,.nil=>.nil
 | _,_,.cons ⟨b,e,h,n⟩ t=>.cons ⟨b,e,g _ _ h,n⟩ (HL.keep g t)
theorem HL.row{H0 H:Hp}:∀{us:List V}{pr:Row},Paired (HL H0 H) us pr->Paired (O0 H) us pr
 | _,_,.nil=>.nil
 | _,_,.cons ⟨b,e,h,n⟩ t=>.cons ⟨b,e,h⟩ (HL.row t)
theorem HL.hand{K:PySem.W.Frag}{H0 H:Hp}{fp:List Addr}(no:∀{b:Addr},H0 b=none->b∉fp):∀{us:List V}{pr:Row},Paired (HL H0 H) us pr->Paired (z95 K H fp) us pr
 | _,_,.nil=>.nil
 | _,_,.cons ⟨b,e,h,n⟩ t=>.cons ⟨b,e,.inl (SqL.of h),no n⟩ (HL.hand no t)
theorem HL.ne{H0 G:Hp}{b l:Addr}{p:Str×Int}{xs:List V}{pp:Row}(h:G b=some (.lst [.str p.1,.int p.2]))(e:G l=some (.lst xs))(q:Paired (HL H0 G) xs pp):b≠l:=fun z=>by
 rw[z,e] at h
 have e1:xs=[.str p.1,.int p.2]:=HO.lst.inj (Option.some.inj h)
 rw[e1] at q
 cases q with
 | cons r t=>
  obtain⟨b',e2,_⟩:=r
  cases e2
theorem HL.upd{H0 G:Hp}{l:Addr}{xs:List V}{pp:Row}(o:HO)(e:G l=some (.lst xs))(q:Paired (HL H0 G) xs pp):∀{us:List V}{pr:Row},Paired (HL H0 G) us pr->Paired (HL H0 (upd G l o)) us pr
 | _,_,.nil=>.nil
 | _,_,.cons ⟨b,e1,h,n⟩ t=>.cons ⟨b,e1,by rw[z0f (HL.ne h e q)];exact h,n⟩ (HL.upd o e q t)
theorem z2W{α β:Type}{R:α->β->Prop}:∀{xs:List α}{ys:List β}{x:α}{y:β},Paired R xs ys->R x y->Paired R (xs++[x]) (ys++[y])
 | _,_,_,_,.nil,h=>.cons h .nil
 | _,_,_,_,.cons r t,h=>.cons r (z2W t h)
theorem z7F{α β:Type}{R:α->β->Prop}:∀{xs:List α}{ys:List β},Paired R xs ys->∀(i:Nat) (y:β),ys[i]? = some y->∃x,xs[i]? = some x/\R x y
 | _,_,.nil,i,x,e=>by simp at e
 | _,_,.cons r t,0,x,e=>by
  simp at e
  subst e
  exact⟨_,rfl,r⟩
 | _,_,.cons r t,i+1,x,e=>by
  obtain⟨y,h1,h2⟩:=z7F t i x (by simpa using e)
  exact⟨y,by simpa using h1,h2⟩
theorem z8G{α β:Type}{R:α->β->Prop}:∀{xs:List α}{ys:List β}{xs':List α}{ys':List β},Paired R xs ys->Paired R xs' ys'->Paired R (xs++xs') (ys++ys')
 | _,_,_,_,.nil,h=>h
 | _,_,_,_,.cons r t,h=>.cons r (z8G t h)
theorem z7Y{α β:Type}{R:α->β->Prop}:∀{xs:List α}{ys:List β} (k:Nat),Paired R xs ys->Paired R (xs.take k) (ys.take k)
 | _,_,0,_=>.nil
 | _,_,_+1,.nil=>.nil
 | _,_,k+1,.cons r t=>.cons r (z7Y k t)
theorem z7N{α β:Type}{R:α->β->Prop}:∀{xs:List α}{ys:List β} (k:Nat),Paired R xs ys->Paired R (xs.drop k) (ys.drop k)
 | _,_,0,h=>h
 | _,_,_+1,.nil=>.nil
 | _,_,k+1,.cons r t=>z7N k t
theorem z8r{α β:Type}{R:α->β->Prop}{x:α}{y:β}(h:R x y):∀{xs:List α}{ys:List β} (k:Nat),Paired R xs ys->Paired R (xs.set k x) (ys.set k y)
 | _,_,_,.nil=>.nil
 | _,_,0,.cons r t=>.cons h t
 | _,_,k+1,.cons r t=>.cons r (z8r h k t)
theorem GoodR.perm{nm:List Str}{x y:Row}(s:x.Perm y)(g:GoodR nm x):GoodR nm y:=⟨(s.map Prod.fst).nodup_iff.mp g.nd,fun p hp=>g.sub p (s.mem_iff.mpr hp),fun p hp=>g.val p (s.mem_iff.mpr hp)⟩
noncomputable def w0W(pr:Row):Prop:=∀p∈pr,p.1.length≤100/\Low p.1
structure P6(H G:Hp)(lr ls:Addr)(pr sp:Row):Prop where
 same:A4 H G
 ne:lr≠ls
 fr:H lr=none
 fs:H ls=none
 nmr:w0W pr
 nms:w0W sp
 st:∃us vs,G lr=some (.lst us)/\G ls=some (.lst vs)/\Paired (HL H G) us pr/\Paired (HL H G) vs sp
theorem P6.then{H G G':Hp}{lr ls:Addr}{pr sp:Row}(S:P6 H G lr ls pr sp)(g:A4 G G'):P6 H G' lr ls pr sp:=by
 obtain⟨us,vs,e1,e2,p1,p2⟩:=S.st
 exact⟨S.same.trans g,S.ne,S.fr,S.fs,S.nmr,S.nms,us,vs,g _ _ e1,g _ _ e2,HL.keep g p1,HL.keep g p2⟩
theorem P6.add{H G:Hp}{lr ls l:Addr}{pr sp:Row}{us vs:List V}{z:Str}{k:Int}(S:P6 H G lr ls pr sp)(e1:G lr=some (.lst us))(e2:G ls=some (.lst vs))(p1:Paired (HL H G) us pr)(p2:Paired (HL H G) vs sp)(hl:G l=none)(hz:z.length≤100/\Low z) :
  P6 H (upd (upd G l (.lst [.str z,.int k])) ls (.lst (vs++[.ref l]))) lr ls pr (sp++[(z,k)]):=by
 have g:=z01 hl (.lst [.str z,.int k])
 have q2:=HL.keep g p2
 have u:∀{xs:List V}{x:Row},Paired (HL H (upd G l (.lst [.str z,.int k]))) xs x->Paired (HL H (upd (upd G l (.lst [.str z,.int k])) ls (.lst (vs++[.ref l])))) xs x:=fun h=>HL.upd _ (g _ _ e2) q2 h
 exact⟨z3L (S.same.trans g) S.fs,S.ne,S.fr,S.fs,S.nmr,fun p hp=>(cB.mp hp).elim (S.nms p) fun h=>by rw[bA.mp h];exact hz,us,vs++[.ref l],by rw[z0f S.ne];exact g _ _ e1,z03,u (HL.keep g p1),u (z2W q2 ⟨l,rfl,z03,S.same.free hl⟩)⟩
theorem P6.put{H G:Hp}{lr ls l:Addr}{pr sp:Row}{us vs:List V}{z:Str}{k:Int}{i:Nat}(S:P6 H G lr ls pr sp)(e1:G lr=some (.lst us))(e2:G ls=some (.lst vs))(p1:Paired (HL H G) us pr)(p2:Paired (HL H G) vs sp)(hl:G l=none)(hz:z.length≤100/\Low z) :
  P6 H (upd (upd G l (.lst [.str z,.int k])) lr (.lst (us.set i (.ref l)))) lr ls (pr.set i (z,k)) sp:=by
 have g:=z01 hl (.lst [.str z,.int k])
 have q1:=HL.keep g p1
 have u:∀{xs:List V}{x:Row},Paired (HL H (upd G l (.lst [.str z,.int k]))) xs x->Paired (HL H (upd (upd G l (.lst [.str z,.int k])) lr (.lst (us.set i (.ref l))))) xs x:=fun h=>HL.upd _ (g _ _ e1) q1 h
 exact⟨z3L (S.same.trans g) S.fr,S.ne,S.fr,S.fs,fun p hp=>(List.mem_or_eq_of_mem_set hp).elim (S.nmr p) fun h=>by rw[h];exact hz,S.nms,us.set i (.ref l),vs,z03,by rw[z0f S.ne.symm];exact g _ _ e2,u (z8r ⟨l,rfl,z03,S.same.free hl⟩ i q1),u (HL.keep g p2)⟩
theorem P6.ins{H G:Hp}{lr ls:Addr}{pr sp:Row}{us vs:List V}{u:V}{p:Str×Int}{i:Nat}(S:P6 H G lr ls pr sp)(e1:G lr=some (.lst us))(e2:G ls=some (.lst vs))(p1:Paired (HL H G) us pr)(p2:Paired (HL H G) vs sp)(hu:HL H G u p)(hz:p.1.length≤100/\Low p.1) :
  P6 H (upd G lr (.lst (us.take i++u::us.drop i))) lr ls (pr.take i++p::pr.drop i) sp:=by
 have w:∀{xs:List V}{x:Row},Paired (HL H G) xs x->Paired (HL H (upd G lr (.lst (us.take i++u::us.drop i)))) xs x:=fun h=>HL.upd _ e1 p1 h
 exact⟨z3L S.same S.fr,S.ne,S.fr,S.fs,fun p' hp=>by
  rcases cB.mp hp with h|h
  ·exact S.nmr p' (dE h)
  rcases bC.mp h with rfl|h
  ·exact hz
  ·exact S.nmr p' (gR h),S.nms,_,vs,z03,by rw[z0f S.ne.symm];exact e2,w (z8G (z7Y i p1) (.cons hu (z7N i p1))),w p2⟩
theorem y70{n:Nat}{k:Int}(h0:0≤k)(h:k<(n:Int)):ixN n k=some k.toNat:=by
 unfold ixN
 rw[if_pos h0,if_pos h]
noncomputable def SpJ(nm:List Str)(good pr sp:Row):Prop:=(pr=good/\sp=[])\/¬GoodR nm (pr++sp)
noncomputable def y1k(K:PySem.W.Frag):Sp:=fun vs H Q _=>∃(ln:Addr) (v:V) (nm:List Str) (good:Row) (c:Int),vs=[v,.ref ln,.int c]/\A9 H (O4 good) v/\good.length≤12/\(∀p∈good,p.1∈nm)/\SqL K H ln (nm.map V.str)/\1≤nm.length/\nm.length≤12/\Nms nm/\
 ∀(lr:Addr) (us:List V) (pr:Row) (H':Hp),A4 H H'->H lr=none->H' lr=some (.lst us)->Paired (HL H H') us pr->pr.length≤16->w0W pr->(GoodR nm pr->pr=good)->Q (.ref lr) H'
theorem y4m(M:Bl mg)(F:Fun K "_law_spoilt" "_law_spoilt" z47 f fd)(M9:Cal P w K mg base 1 "_law_strange" z3K (z9Z K)):A8 P w K mg base CX0 2 f fd z4q (y1k K):=by
 have nd:=z5T.nd
 refine F.ok z5T (fun vs H Q E h=>?_) (fun cdv A outer s H vs Q E hr h=>?_)
 ·obtain⟨ln,v,nm,good,c,rfl,_⟩:=h
  rfl
 obtain⟨ln,v,nm,good,c,rfl,tv,g12,gsub,hN,n1,n12,Nn,q⟩:=h
 have n20:=Nn.hi
 refine⟨_,(z04 (z4s (i:=3) ["_law_row_here"] [] [] rfl nd rfl (Or.inl rfl) (z0w rfl (by decide +kernel) rfl (by decide +kernel) rfl rfl) (z3W (pv 0)) (fun _ _ _ _ _=>(z0m (i:=0) (show((["_law_row_here"]:List PySem.Str)++([]:List PySem.Str)).Nodup from by decide +kernel) rfl (Or.inl rfl))) (z0B (by decide)) z0c (fun _ _ _ _ _=>z20) (fun _ _ _ _ _=>(z0v (z8V (K:=K) rfl) rfl M.list gG (z00 (pv 0) z02)))) (z04 (z0k (i:=4) nd rfl (Or.inl rfl) (z0T z02)) (z6e (z0H (z0a z2y (z0e z0I (pv 2) z06) z06 (z0h _)) (z05 (z0x (z26 bJ bQ bS z0G (pv 4) (z00 (z0T (z00 (z0l M9 (rm hr) rfl (z00 (pv 1) (z00 (z0e z0K (pv 2) z06) z02))) (z00 (z0e z0I (z0e z0K (pv 2) z06) z06) z02))) z02)))) z0j) (z6e (z0H (z0a z2y (z0e z0I (z0e z0K (pv 2) z06) z06) z06 (z0h _)) (z04 (z0k (i:=5) nd rfl (Or.inl rfl) (z0N z0L (pv 1) (z0e z0I (z0e z0K (pv 2) z06) (z09 z07 rfl M.len bD (z00 (pv 1) z02))) (fun _ _=>rfl))) (z04 (z0x (z26 bJ bQ bS z0G (pv 4) (z00 (z0T (z00 (pv 5) (z00 (z0e z1q z06 (z0e z0I (z0e z0K (pv 2) z06) z06)) z02))) z02))) (z05 (z0x (z26 bJ bQ bS z0G (pv 4) (z00 (z0T (z00 (pv 5) (z00 (z0e z1q z06 (z0e z0I (z0e z0K (pv 2) z06) z06)) z02))) z02)))))) z0j) (z6e (z0H (PW.pt (z4j (z0a z2y (z0e z0I (z0e z0K (pv 2) z06) z06) z06 (z0h _)) (z4j (z0a z2y (z0e z0I (z0e z0K (pv 2) z06) z06) z06 (z0h _)) (z3N (z0a z1N (z09 z07 rfl M.len bD (z00 (pv 3) z02)) z06 (z0h _)))))) (z04 (z0k (i:=6) nd rfl (Or.inl rfl) (z0e z0I (z0e z0K (pv 2) z06) (z09 z07 rfl M.len bD (z00 (pv 3) z02)))) (z05 (y7z (z0T (z00 (z0N z0L (z0N z0L (pv 3) (pv 6) (fun _ _=>rfl)) z06 (fun _ _=>rfl)) (z00 (z0N z0L (z0T (z00 (y0B z7S z06) (z00 z06 (z00 (y0B z7S z06) (z00 (z0e y1w z06 z06) z02))))) (z0e z0I (z0e z0K (pv 2) z06) z06) (fun _ _=>rfl)) z02))) (y7m (pv 3) (pv 6) y4R)))) (z05 (z0H (z0a z2y (z0e z0I (z0e z0K (pv 2) z06) z06) z06 (z0h _)) (z05 (z0x (z26 bJ bQ bS z0G (pv 4) (z00 (z0T (z00 (z0N z0L (pv 1) (z0e z0I (z0e z0K (pv 2) z06) (z09 z07 rfl M.len bD (z00 (pv 1) z02))) (fun _ _=>rfl)) (z00 (z0N z0L (z0T (z00 (y0B z7S z06) (z00 z06 (z00 (y0B z7S (z0e y1w z06 z06)) (z00 (z0e y1w z06 z06) z02))))) (z0e z0I (z0e z0K (pv 2) z06) z06) (fun _ _=>rfl)) z02))) z02)))) z0j))) (z04 (z1z cG rfl (z1T rfl M.range (z00 (z09 z07 rfl M.len bD (z00 (pv 4) z02)) z02)) (z0m (i:=7) nd rfl (Or.inl rfl)) (z05 (z0x (z26 bJ PySem.F.slot_list_insert PySem.F.type_list_insert y2H (pv 3) (z00 (z0e z0I (z0e z0K (pv 2) z06) (z0e z1q (z09 z07 rfl M.len bD (z00 (pv 3) z02)) z06)) (z00 (z0N z0L (pv 4) (pv 7) (fun _ _=>rfl)) z02)))))) (z05 (z0d (pv 3))))))))),?_⟩
 obtain⟨ar,xs,rfl,er,_,tp⟩:=z0q tv
 have lw:xs.length=good.length:=by rw[tp.length,b6]
 refine⟨_,rfl,ar,rfl,⟨_,SqT.of er⟩,?_⟩
 refine z27 (xs:=xs) (fun j ys H2=>A4 H H2/\Paired (HL H H2) ys (good.take j)) ⟨A4.refl _,by rw[cT];exact .nil⟩ (fun j ys H2 hj hp=>?_) (fun j y ys H2 hy hp=>?_) (fun ys H2 hp=>?_)
 ·obtain⟨g,pr⟩:=hp
  refine⟨SqT.of (g _ _ er),z0i ?_⟩
  rw[pr.length,bM]
  lia
 ·obtain⟨g,pr⟩:=hp
  obtain⟨pq,b,e1,rfl,e2⟩:=z2U tp j y hy
  refine⟨_,rfl,b,_,rfl,.inr (SqT.of (g _ _ e2)),fun l hl=>⟨g.trans (z01 hl _),?_⟩⟩
  rw[dH,e1]
  exact z2W (HL.keep (z01 hl _) pr) ⟨l,rfl,z03,g.free hl⟩
 obtain⟨g,pr⟩:=hp
 rw[lw,bW] at pr
 intro lr hlr
 have gD:=g.trans (z01 hlr (.lst ys))
 have eD:upd H2 lr (.lst ys) lr=some (.lst ys):=z03
 have pD:=HL.keep (z01 hlr (.lst ys)) pr
 have nlr:H lr=none:=g.free hlr
 generalize upd H2 lr (.lst ys)=H3 at gD eD pD
 refine⟨(by show 0≤sizeLine;decide),fun ls hls=>?_⟩
 have gE:=gD.trans (z01 hls (.lst []))
 have eS:upd H3 ls (.lst []) ls=some (.lst []):=z03
 have eR:=z01 hls (.lst []) _ _ eD
 have pR:=HL.keep (z01 hls (.lst [])) pD
 have nls:H ls=none:=gD.free hls
 have ner:lr≠ls:=fun e=>by rw[e,hls] at eD;cases eD
 have st0:P6 H (upd H3 ls (.lst [])) lr ls good []:=⟨gE,ner,nlr,nls,fun p hp=>⟨c9 (n20 _ (gsub p hp)) (by decide),Nn.low _ (gsub p hp)⟩,fun p hp=>(by cases hp),ys,[],eR,eS,pR,.nil⟩
 generalize upd H3 ls (.lst [])=H4 at st0
 clear gE eS eR pR gD eD pD pr g hlr hls tp er lw tv
 refine⟨fun σ G=>∃(sp:Row),P6 H G lr ls good sp/\sp.length≤1/\SpJ nm good good sp/\σ=[some (.ref ar),some (.ref ln),some (.int c),some (.ref lr),some (.ref ls),none,none,none],?_,?_⟩
 rotate_left
 ·rintro σ G ⟨sp,st,l1,J,rfl⟩
  refine⟨fun σ G=>∃(sp:Row) (o5:Option V),P6 H G lr ls good sp/\sp.length≤3/\SpJ nm good good sp/\σ=[some (.ref ar),some (.ref ln),some (.int c),some (.ref lr),some (.ref ls),o5,none,none],?_,?_⟩
  rotate_left
  ·rintro σ G ⟨sp,o5,st,l3,J,rfl⟩
   refine⟨fun σ G=>∃(pr sp:Row) (o5 o6:Option V),P6 H G lr ls pr sp/\pr.length≤12/\sp.length≤4/\SpJ nm good pr sp/\σ=[some (.ref ar),some (.ref ln),some (.int c),some (.ref lr),some (.ref ls),o5,o6,none],?_,?_⟩
   rotate_left
   ·rintro σ G ⟨pr,sp,o5,o6,st,r12,l4,J,rfl⟩
    obtain⟨us,vs,e1,e2,p1,p2⟩:=st.st
    refine⟨_,rfl,ls,vs,rfl,.inl (SqL.of e2),_,rfl,by lia,by rw[p2.length];lia,?_⟩
    refine z1E (lo:=0) (n:=((vs.length:Nat):Int).toNat) (fun j σ H'=>∃(cur:Row) (o7:Option V),P6 H H' lr ls cur sp/\H' ls=some (.lst vs)/\cur.Perm (pr++sp.take j)/\(j=0->cur=pr)/\
      σ=[some (.ref ar),some (.ref ln),some (.int c),some (.ref lr),some (.ref ls),o5,o6,o7])
     ⟨pr,none,st,e2,by rw[cT,cR],fun _=>rfl,rfl⟩ (fun j σ H' hj hp=>?_) (fun σ H' hp=>?_)
    ·obtain⟨cur,o7,S,eS,pm,_,rfl⟩:=hp
     obtain⟨us',vs',eR,eS',pR,pS⟩:=S.st
     obtain rfl:vs'=vs:=HO.lst.inj (Option.some.inj (eS'.symm.trans eS))
     have hj':j<sp.length:=by rw[<- pS.length];lia
     obtain⟨u,eu,hu⟩:=z7F pS j sp[j] (bH hj')
     have lc:us'.length≤16:=by
      rw[pR.length,pm.length_eq,bF,bM]
      lia
     have i0:0≤c / 256%((us'.length:Int)+1):=cJ _ (by lia)
     have i1:c / 256%((us'.length:Int)+1)<(us'.length:Int)+1:=cA _ (by lia)
     have ez:(0:Int)+(j:Int)=j:=fU _
     rw[ez]
     refine⟨_,rfl,.inl ⟨rfl,_,SqL.of eR⟩,_,rfl,_,_,rfl,rfl,⟨by decide,by decide⟩,_,rfl,lr,us',rfl,.inl (SqL.of eR),_,_,rfl,rfl,_,_,rfl,rfl,by lia,_,rfl,_,rfl,ls,_,_,_,rfl,rfl,SqL.of eS,z15 eu,lr,us',_,u,rfl,rfl,eR,i0,by lia,z0i (by lia),?_⟩
     have hm:sp[j]∈sp:=dD hj'
     refine⟨_,_,S.ins eR eS pR pS hu (S.nms _ hm),by rw[z0f S.ne.symm];exact eS,?_,fun h=>absurd h (Nat.succ_ne_zero _),rfl⟩
     rw[dH,bH hj',Option.toList_some,<- fB]
     refine(List.perm_middle.trans (List.Perm.cons _ ?_)).trans (List.perm_append_singleton _ _).symm
     rw[List.take_append_drop]
     exact pm
    ·obtain⟨cur,o7,S,eS,pm,z0,rfl⟩:=hp
     obtain⟨us',vs',eR,eS',pR,pS⟩:=S.st
     have lv:(((vs.length:Nat):Int).toNat)=sp.length:=by rw[<- p2.length];lia
     rw[lv,bW] at pm
     refine⟨_,rfl,q lr us' cur H' S.same S.fr eR pR ?_ S.nmr fun gg=>?_⟩
     ·rw[pm.length_eq,bF]
      lia
     ·rcases J with ⟨j1,j2⟩|j
      ·rw[z0 (by rw[lv,j2];rfl),j1]
      ·exact absurd (gg.perm pm) j
   obtain⟨us,vs,e1,e2,p1,p2⟩:=st.st
   have lu:=p1.length
   have lv:=p2.length
   have bad:∀ks:List Int,ks.length=4->(∀k∈ks,k<0\/1000000<k)->∃k,atI (ks.map V.int) (c / 64%4)=some (.int k)/\(k<0\/1000000<k):=fun ks l4 hk=>by
    have h1:=cJ (c / 64) (show(4:Int)≠0 by decide)
    have h2:=cA (c / 64) (show(0:Int)<4 by decide)
    refine⟨_,y12 h1 (by rw[l4];exact h2),?_⟩
    rw[bV,bH (by lia)]
    exact hk _ (dD _)
   obtain⟨k1,ak1,bk1⟩:=bad [-1,1000001,-1000000,10^(30:Int).toNat] rfl (by decide)
   obtain⟨k2,ak2,bk2⟩:=bad [-1,1000001,-(2^(40:Int).toNat),10^(30:Int).toNat] rfl (by decide)
   have ths:∀{x:Row}{z:Str}{k:Int},(z,k)∈x->(k<0\/1000000<k)->¬GoodR nm x:=fun m b gg=>by have:=gg.val _ m;lia
   refine⟨_,rfl,_,_,rfl,rfl,⟨by decide,by decide⟩,_,_,rfl,rfl,(by show(0:Int)<2;decide),rfl,_,rfl,B6 (fun _=>⟨_,rfl,_,_,rfl,rfl,⟨by decide,by decide⟩,_,_,rfl,rfl,(by show(0:Int)<2;decide),rfl,_,rfl,B6 (fun _=>⟨_,rfl,lr,us,rfl,.inl (SqL.of e1),_,_,rfl,rfl,_,rfl,B6 (fun hl=>?_) (fun _=>?_)⟩) (fun _=>C8 ?_)⟩) (fun _=>C8 ?_)⟩
   ·have l0:=z0Q hl
    have i0:0≤c / 16%(us.length:Int):=cJ _ (by lia)
    have i1:c / 16%(us.length:Int)<(us.length:Int):=cA _ (by lia)
    refine⟨_,rfl,_,_,rfl,rfl,⟨by decide,by decide⟩,_,rfl,lr,us,rfl,.inl (SqL.of e1),_,_,rfl,rfl,l0,?_⟩
    obtain⟨pn,epn⟩:=Int.eq_ofNat_of_zero_le i0
    have hp:pn<us.length:=by lia
    have hg:pn<good.length:=by lia
    obtain⟨u,eu,b,rfl,eb,nb⟩:=z7F p1 pn good[pn] (bH hg)
    have mg:=dD hg
    refine⟨_,rfl,_,rfl,lr,_,_,_,rfl,rfl,SqL.of e1,(by rw[epn];exact z15 eu),b,_,_,_,rfl,rfl,SqL.of eb,rfl,?_⟩
    refine⟨_,rfl,_,rfl,_,_,rfl,rfl,⟨by decide,by decide,by decide⟩,(by show 4≤sizeLine;decide),fun lb hlb=>?_⟩
    have sb:=z01 hlb (.lst ([-1,1000001,-1000000,10^(30:Int).toNat].map V.int))
    refine⟨_,rfl,_,_,rfl,rfl,⟨by decide,by decide⟩,_,_,rfl,rfl,(by show(0:Int)<4;decide),lb,_,_,_,rfl,rfl,SqL.of z03,ak1,(by show 2≤sizeLine;decide),fun l hl=>?_⟩
    have stb:=st.then sb
    have sg:=z01 hl (.lst [.str good[pn].1,.int k1])
    refine⟨_,rfl,_,rfl,lr,us,_,pn,rfl,rfl,sg _ _ (sb _ _ e1),(by rw[epn];exact y70 (Int.natCast_nonneg _) (by lia)),?_⟩
    refine⟨_,sp,_,_,stb.put (i:=pn) (k:=k1) (sb _ _ e1) (sb _ _ e2) (HL.keep sb p1) (HL.keep sb p2) hl (st.nmr _ mg),by rw[List.length_set];exact g12,by lia,.inr (ths (z:=good[pn].1) (k:=k1) (dP _ ?_) bk1),rfl⟩
    exact List.mem_set hg _
   all_goals
    refine⟨_,rfl,_,_,rfl,rfl,⟨by decide,by decide⟩,_,_,rfl,rfl,(by show(0:Int)<2;decide),rfl,_,rfl,B6 (fun _=>?_) (fun _=>⟨good,sp,_,_,st,g12,by lia,J,rfl⟩)⟩
    have i0:0≤c / 16%(nm.length:Int):=cJ _ (by lia)
    have i1:c / 16%(nm.length:Int)<(nm.length:Int):=cA _ (by lia)
    obtain⟨z,ez,az⟩:=z9k i0 i1
    have mz:=bZ ez
    have okz:z.length≤100/\Low z:=⟨c9 (n20 z mz) (by decide),Nn.low z mz⟩
    have hN0:=st.same.seq hN
    refine⟨_,rfl,.inl ⟨rfl,_,SqL.of e2⟩,_,rfl,_,rfl,_,_,rfl,rfl,⟨by decide,by decide⟩,_,rfl,ln,_,rfl,.inl hN0,_,_,rfl,rfl,(by rw[b6];lia),ln,_,_,_,rfl,rfl,hN0,(by rw[b6];exact az),?_⟩
    refine⟨_,rfl,_,_,rfl,rfl,⟨by decide,by decide,by decide⟩,_,rfl,_,_,rfl,rfl,⟨by decide,by decide,by decide⟩,(by show 4≤sizeLine;decide),fun lb hlb=>?_⟩
    have sb:=z01 hlb (.lst ([-1,1000001,-(2^(40:Int).toNat),10^(30:Int).toNat].map V.int))
    refine⟨_,rfl,_,_,rfl,rfl,⟨by decide,by decide⟩,_,_,rfl,rfl,(by show(0:Int)<4;decide),lb,_,_,_,rfl,rfl,SqL.of z03,ak2,(by show 2≤sizeLine;decide),fun l hl=>?_⟩
    have stb:=st.then sb
    have sg:=z01 hl (.lst [.str z,.int k2])
    refine⟨ls,_,_,rfl,rfl,sg _ _ (sb _ _ e2),z0i (by lia),?_⟩
    exact⟨good,_,_,_,stb.add (k:=k2) (sb _ _ e1) (sb _ _ e2) (HL.keep sb p1) (HL.keep sb p2) hl okz,g12,by rw[bF];show sp.length+1≤4;lia,.inr (ths (z:=z) (k:=k2) (cD _ (cD _ (bA.mpr rfl))) bk2),rfl⟩
  obtain⟨us,vs,e1,e2,p1,p2⟩:=st.st
  have lv:=p2.length
  refine⟨_,rfl,_,_,rfl,rfl,⟨by decide,by decide⟩,_,_,rfl,rfl,(by show(0:Int)<2;decide),rfl,_,rfl,B6 (fun _=>?_) (fun _=>⟨sp,none,st,by lia,J,rfl⟩)⟩
  have i0:0≤c / 16%(nm.length:Int):=cJ _ (by lia)
  have i1:c / 16%(nm.length:Int)<(nm.length:Int):=cA _ (by lia)
  obtain⟨z,ez,az⟩:=z9k i0 i1
  have mz:=bZ ez
  have okz:z.length≤100/\Low z:=⟨c9 (n20 z mz) (by decide),Nn.low z mz⟩
  have hN0:=st.same.seq hN
  refine⟨_,rfl,_,rfl,_,_,rfl,rfl,⟨by decide,by decide⟩,_,rfl,ln,_,rfl,.inl hN0,_,_,rfl,rfl,(by rw[b6];lia),ln,_,_,_,rfl,rfl,hN0,(by rw[b6];exact az),?_⟩
  refine⟨_,rfl,.inl ⟨rfl,_,SqL.of e2⟩,_,rfl,_,rfl,_,_,rfl,rfl,⟨by decide,by decide⟩,_,_,rfl,rfl,(by show(0:Int)<3;decide),_,_,rfl,rfl,(by show 2≤sizeLine;decide),fun l hl=>?_⟩
  have sg:=z01 hl (.lst [.str z,.int (1+c / 16%3)])
  refine⟨ls,_,_,rfl,rfl,sg _ _ e2,z0i (by lia),?_⟩
  have st1:=st.add (k:=1+c / 16%3) e1 e2 p1 p2 hl okz
  generalize upd (upd G l (.lst [.str z,.int (1+c / 16%3)])) ls (.lst (vs++[.ref l]))=G1 at st1
  obtain⟨us1,vs1,f1,f2,q1,q2⟩:=st1.st
  have lv1:=q2.length
  rw[bF] at lv1
  have lv2:vs1.length=sp.length+1:=lv1
  refine⟨_,rfl,.inl ⟨rfl,_,SqL.of f2⟩,_,rfl,_,rfl,_,_,rfl,rfl,⟨by decide,by decide⟩,_,_,rfl,rfl,(by show(0:Int)<3;decide),_,_,rfl,rfl,(by show 2≤sizeLine;decide),fun l' hl'=>?_⟩
  have sg':=z01 hl' (.lst [.str z,.int (1+c / 64%3)])
  refine⟨ls,_,_,rfl,rfl,sg' _ _ f2,z0i (by lia),?_⟩
  refine⟨_,_,st1.add (k:=1+c / 64%3) f1 f2 q1 q2 hl' okz,?_,.inr fun gg=>?_,rfl⟩
  ·rw[bF,bF]
   show sp.length+1+1≤3
   lia
  ·have:=gg.nd
   rw[bI,bI,bI,fB] at this
   have h2:=(fA.mp (fA.mp this).2.1).2.1
   exact(dA.mp h2).1 (bA.mpr rfl)
 obtain⟨us,vs,e1,e2,p1,p2⟩:=st0.st
 refine⟨_,rfl,_,_,rfl,rfl,(by show(0:Int)<2;decide),rfl,_,rfl,B6 (fun _=>?_) (fun _=>⟨[],st0,cQ _,.inl ⟨rfl,rfl⟩,rfl⟩)⟩
 refine⟨_,rfl,.inl ⟨rfl,_,SqL.of e2⟩,_,rfl,_,rfl,_,_,rfl,rfl,⟨by decide,by decide⟩,ln,nm,c / 8,rfl,st0.same.seq hN,n1,n12,Nn,fun z G s1 hz lz nz=>?_⟩
 have st1:=st0.then s1
 refine⟨_,rfl,_,_,rfl,rfl,⟨by decide,by decide⟩,_,_,rfl,rfl,(by show(0:Int)<5;decide),(by show 2≤sizeLine;decide),fun l hl=>?_⟩
 have sg:=z01 hl (.lst [.str z,.int (c / 16%5)])
 refine⟨ls,_,_,rfl,rfl,sg _ _ (s1 _ _ e2),z0i (by rw[p2.length];decide),?_⟩
 refine⟨[]++[(z,c / 16%5)],st1.add (s1 _ _ e1) (s1 _ _ e2) (HL.keep s1 p1) (HL.keep s1 p2) hl ⟨hz,lz⟩,bG _,.inr fun gg=>nz (gg.sub (z,c / 16%5) (cD _ (by simp))),rfl⟩
noncomputable def Y6(z:Str):DV:=.tup [.str "refused",.str z]
noncomputable def z8T:List Str:=["OfficeFull","UnknownName","NameTwice","BadValue","NotWritten","BookFull","UnknownReader","NoSuchDeed","BadNames","BadReach","BadReaders","TooManyCourses"]
noncomputable def w1c(nm:List Str)(rows:List Row)(pr:Row)(i:Nat):Prop:=(60≤rows.length/\i=0)\/(rows.length<60/\(((∃p∈pr,p.1∉nm)/\i=1)\/((∀p∈pr,p.1∈nm)/\¬(pr.map Prod.fst).Nodup/\i=2)\/((∀p∈pr,p.1∈nm)/\(pr.map Prod.fst).Nodup/\(∃p∈pr,p.2<0\/1000000<p.2)/\i=3)))
noncomputable def w1W(nm:List Str)(rows:List Row)(log:List B7)(pr:Row)(i:Nat):Prop:=w1c nm rows pr i\/(rows.length<60/\GoodR nm pr/\pr.length≤12/\400≤log.length/\i=5)
noncomputable def DueD(rows:List Row)(log:List B7)(k rd n:Int)(i:Nat):Prop:=((n<1\/(rows.length:Int)<n)/\i=4)\/(1≤n/\n≤rows.length/\(((rd<1\/k<rd)/\i=6)\/(1≤rd/\rd≤k/\400≤log.length/\i=5)))
noncomputable def y2F(K:PySem.W.Frag)(Bk:BkP):Sp:=fun vs H Q _=>∃(th:Str) (p:Addr) (v two:V) (fp:List Addr) (zs:List Str) (r k:Int) (rows:List Row) (log:List B7),vs=[.str th,.ref p,v,two]/\Bk H p fp zs r k rows log/\
 ((th="write"/\∃pr,y1J K H fp v pr/\GoodR zs pr/\pr.length≤12/\rows.length<60/\log.length<400/\∀(fp':List Addr) (H':Hp),(∀b∈fp',b∈fp\/H b=none)->z0t fp H H'->Bk H' p fp' zs r k (rows++[z1p zs pr]) (log++[(none,(rows.length:Int)+1)])->Q (.int (rows.length+1)) H')\/
  (th="write"/\∃(a:Addr) (us:List V) (pr:Row) (i:Nat),v=.ref a/\SqP K H a us/\Paired (z1A K H) us pr/\pr.length≤100/\(∀p∈pr,p.1.length≤1000/\Low p.1)/\w1W zs rows log pr i/\∀(u:V) (H':Hp),A4 H H'->A9 H' (Y6 (z8T.getD i "")) u->Q u H')\/
  (th="deliver"/\∃(rd n:Int),v=.int rd/\two=.int n/\1≤rd/\rd≤k/\1≤n/\n≤rows.length/\log.length<400/\∀(H':Hp),z0t fp H H'->Bk H' p fp zs r k rows (log++[(some rd,n)])->Q (.bl (decide (((some rd,n):B7)∉log))) H')\/
  (th="deliver"/\∃(rd n:Int) (i:Nat),v=.int rd/\two=.int n/\DueD rows log k rd n i/\∀(u:V) (H':Hp),A4 H H'->A9 H' (Y6 (z8T.getD i "")) u->Q u H'))
theorem y4r{A0 A1 CBadNames CBadReach CBadReaders COfficeFull CUnknownName CNameTwice CBadValue CNotWritten CUnknownReader CBookFull CNoSuchDeed CTooManyCourses CBackError:Addr}(M:Bl mg)(F:Fun K "_law_done" "_law_done" z61 f fd)
  (R6:Err K mg "BackError" CBackError) (T4:Err K mg "BadNames" CBadNames) (T1:Err K mg "BadReach" CBadReach) (Q1:Err K mg "BadReaders" CBadReaders) (I0:Err K mg "OfficeFull" COfficeFull) (F3:Err K mg "UnknownName" CUnknownName) (K0:Err K mg "NameTwice" CNameTwice) (L9:Err K mg "BadValue" CBadValue) (F8:Err K mg "NotWritten" CNotWritten) (D9:Err K mg "UnknownReader" CUnknownReader) (L7:Err K mg "BookFull" CBookFull) (F9:Err K mg "NoSuchDeed" CNoSuchDeed) (K8:Err K mg "TooManyCourses" CTooManyCourses)
  (ers:X2 K CBackError [CBadNames,CBadReach,CBadReaders,COfficeFull,CUnknownName,CNameTwice,CBadValue,CNotWritten,CUnknownReader,CBookFull,CNoSuchDeed,CTooManyCourses])
  (O2:M3 P w K mg base 5 A1 "write" z3B (K7 (z7r K (BkD K A1 A0)) (z6a K (BkD K A1 A0) COfficeFull CUnknownName CNameTwice CBadValue CBookFull)))
  (M1:M3 P w K mg base 5 A1 "deliver" z2Q (K7 (z5l (BkD K A1 A0)) (z4u (BkD K A1 A0) CNotWritten CUnknownReader CBookFull))):A8 P w K mg base CX0 7 f fd z6n (y2F K (BkD K A1 A0)):=by
 have nd:=z7Q.nd
 refine F.ok z7Q (fun vs H Q E h=>?_) (fun cdv A outer s H vs Q E hr h=>?_)
 ·obtain⟨th,p,v,two,fp,zs,r,k,rows,log,rfl,_⟩:=h
  rfl
 obtain⟨th,p,v,two,fp,zs,r,k,rows,log,rfl,bk,cases4⟩:=h
 refine⟨_,(z04 (z0k (i:=4) nd rfl (Or.inl rfl) (z0T (z00 z3v z02))) (z04 (z0k (i:=5) nd rfl (Or.inl rfl) z3v) (z6e (y7p (i:=6) R6 rfl nd rfl rfl rfl rfl (fun _ _=>(z04 (z0H (z0a z2y (pv 0) z0F (z0h _)) (z05 (z0d (z3x y3J O2 (rm hr) (pv 1) (z00 (pv 2) z02)))) z0j) (z05 (z0d (z3x y3J M1 (rm hr) (pv 1) (z00 (pv 2) (z00 (pv 3) z02))))))) (fun _ _=>(z04 (z0k (i:=5) nd rfl (Or.inl rfl) (z09 (y2G (K:=K) rfl) rfl M.isinstance bR (z00 (pv 6) (z00 (z3U (v:=.ty "ValueError") rfl M.ValueError y6u rfl) z02)))) (z04 (z0k (i:=4) nd rfl (Or.inl rfl) (z0T (z00 (z09 (z1V (K:=K) rfl) rfl M.isinstance bR (z00 (pv 6) (z00 (z42 rfl I0.mgC) z02))) (z00 (z09 (z1V (K:=K) rfl) rfl M.isinstance bR (z00 (pv 6) (z00 (z42 rfl F3.mgC) z02))) (z00 (z09 (z1V (K:=K) rfl) rfl M.isinstance bR (z00 (pv 6) (z00 (z42 rfl K0.mgC) z02))) z02))))) (z04 (z0k (i:=4) nd rfl (Or.inl rfl) (z0e z8e (pv 4) (z0T (z00 (z09 (z1V (K:=K) rfl) rfl M.isinstance bR (z00 (pv 6) (z00 (z42 rfl L9.mgC) z02))) (z00 (z09 (z1V (K:=K) rfl) rfl M.isinstance bR (z00 (pv 6) (z00 (z42 rfl F8.mgC) z02))) (z00 (z09 (z1V (K:=K) rfl) rfl M.isinstance bR (z00 (pv 6) (z00 (z42 rfl L7.mgC) z02))) z02)))))) (z04 (z0k (i:=4) nd rfl (Or.inl rfl) (z0e z8e (pv 4) (z0T (z00 (z09 (z1V (K:=K) rfl) rfl M.isinstance bR (z00 (pv 6) (z00 (z42 rfl D9.mgC) z02))) (z00 (z09 (z1V (K:=K) rfl) rfl M.isinstance bR (z00 (pv 6) (z00 (z42 rfl F9.mgC) z02))) z02))))) (z04 (z0k (i:=4) nd rfl (Or.inl rfl) (z0e z8e (pv 4) (z0T (z00 (z09 (z1V (K:=K) rfl) rfl M.isinstance bR (z00 (pv 6) (z00 (z42 rfl T4.mgC) z02))) (z00 (z09 (z1V (K:=K) rfl) rfl M.isinstance bR (z00 (pv 6) (z00 (z42 rfl T1.mgC) z02))) (z00 (z09 (z1V (K:=K) rfl) rfl M.isinstance bR (z00 (pv 6) (z00 (z42 rfl Q1.mgC) z02))) z02)))))) (z05 (z0k (i:=4) nd rfl (Or.inl rfl) (z0e z8e (pv 4) (z0T (z00 (z09 (z1V (K:=K) rfl) rfl M.isinstance bR (z00 (pv 6) (z00 (z42 rfl K8.mgC) z02))) z02)))))))))))) (z04 (z0H (PW.pt (z3n (z4A (z41 (pv 5))) (z22 (z0a z86 (z26 bJ PySem.F.slot_list_count PySem.F.type_list_count z9Q (pv 4) (z00 z3v z02)) z06 (z0h _))))) (z05 (z0d y2N)) z0j) (z04 (z0k (i:=7) nd rfl (Or.inl rfl) (z0T (z00 z0F (z00 z0F (z00 z0F (z00 z0F (z00 z0F (z00 z0F z02)))))))) (z04 (z0k (i:=7) nd rfl (Or.inl rfl) (z0e z8e (pv 7) (z0T (z00 z0F (z00 z0F (z00 z0F (z00 z0F (z00 z0F (z00 z0F z02))))))))) (z05 (z0d (z0X (z00 z0F (z00 (z0N z0L (pv 7) (z26 bJ PySem.F.slot_list_index PySem.F.type_list_index y39 (pv 4) (z00 z3v z02)) (fun _ _=>rfl)) z02))))))))))),?_⟩
 refine⟨(by show 1≤sizeLine;decide),fun lf hlf=>?_⟩
 have s0:=z01 hlf (.lst [V.bl false])
 have bk0:=U3.same bk s0
 generalize upd H lf (.lst [V.bl false])=H0 at s0 bk0
 refine⟨fun σ G=>∃(la:Addr) (i:Nat),A4 H G/\i<8/\(∀(u:V) (H':Hp),A4 H H'->A9 H' (Y6 (z8T.getD i "")) u->Q u H')/\G la=some (.lst ((List.range 12).map fun j=>V.bl (j == i)))/\σ=[some (.str th),some (.ref p),some v,some two,some (.ref la),some (.bl true),none,none],?_,?_⟩
 rotate_left
 ·rintro σ G ⟨la,i,g,hi,q,ea,rfl⟩
  have hi8:i=0\/i=1\/i=2\/i=3\/i=4\/i=5\/i=6\/i=7:=by lia
  rcases hi8 with rfl|rfl|rfl|rfl|rfl|rfl|rfl|rfl
  all_goals
   refine⟨_,rfl,_,rfl,C8 ⟨_,rfl,.inl ⟨rfl,_,SqL.of ea⟩,la,_,_,rfl,rfl,SqL.of ea,rfl,rfl,rfl,_,rfl,y4N rfl ?_⟩⟩
   refine⟨(by show 6≤sizeLine;decide),fun l1 hl1=>⟨_,rfl,(by show 6≤sizeLine;decide),fun l2 hl2=>?_⟩⟩
   have s2:=(z01 hl1 (.lst [V.str "OfficeFull",V.str "UnknownName",V.str "NameTwice",V.str "BadValue",V.str "NotWritten",V.str "BookFull"])).trans (z01 hl2 (.lst [V.str "UnknownReader",V.str "NoSuchDeed",V.str "BadNames",V.str "BadReach",V.str "BadReaders",V.str "TooManyCourses"]))
   refine⟨l1,l2,_,_,rfl,rfl,z01 hl2 _ _ _ z03,z03,(by show 12≤sizeLine;decide),fun l3 hl3=>?_⟩
   have s3:=s2.trans (z01 hl3 (.lst (z8T.map V.str)))
   first
    | exact⟨_,rfl,_,rfl,.inl ⟨rfl,_,SqL.of (s3 _ _ ea)⟩,la,_,_,0,rfl,rfl,SqL.of (s3 _ _ ea),rfl,rfl,(by decide),rfl,(by decide),l3,_,_,_,rfl,rfl,SqL.of z03,rfl,(by show 2≤sizeLine;decide),fun t ht=>q _ _ (g.trans (s3.trans (z01 ht _))) (z0o z03 (by show 2≤1000000;decide) (.cons (z0E _) (.cons (z0E _) .nil)))⟩
    | exact⟨_,rfl,_,rfl,.inl ⟨rfl,_,SqL.of (s3 _ _ ea)⟩,la,_,_,1,rfl,rfl,SqL.of (s3 _ _ ea),rfl,rfl,(by decide),rfl,(by decide),l3,_,_,_,rfl,rfl,SqL.of z03,rfl,(by show 2≤sizeLine;decide),fun t ht=>q _ _ (g.trans (s3.trans (z01 ht _))) (z0o z03 (by show 2≤1000000;decide) (.cons (z0E _) (.cons (z0E _) .nil)))⟩
    | exact⟨_,rfl,_,rfl,.inl ⟨rfl,_,SqL.of (s3 _ _ ea)⟩,la,_,_,2,rfl,rfl,SqL.of (s3 _ _ ea),rfl,rfl,(by decide),rfl,(by decide),l3,_,_,_,rfl,rfl,SqL.of z03,rfl,(by show 2≤sizeLine;decide),fun t ht=>q _ _ (g.trans (s3.trans (z01 ht _))) (z0o z03 (by show 2≤1000000;decide) (.cons (z0E _) (.cons (z0E _) .nil)))⟩
    | exact⟨_,rfl,_,rfl,.inl ⟨rfl,_,SqL.of (s3 _ _ ea)⟩,la,_,_,3,rfl,rfl,SqL.of (s3 _ _ ea),rfl,rfl,(by decide),rfl,(by decide),l3,_,_,_,rfl,rfl,SqL.of z03,rfl,(by show 2≤sizeLine;decide),fun t ht=>q _ _ (g.trans (s3.trans (z01 ht _))) (z0o z03 (by show 2≤1000000;decide) (.cons (z0E _) (.cons (z0E _) .nil)))⟩
    | exact⟨_,rfl,_,rfl,.inl ⟨rfl,_,SqL.of (s3 _ _ ea)⟩,la,_,_,4,rfl,rfl,SqL.of (s3 _ _ ea),rfl,rfl,(by decide),rfl,(by decide),l3,_,_,_,rfl,rfl,SqL.of z03,rfl,(by show 2≤sizeLine;decide),fun t ht=>q _ _ (g.trans (s3.trans (z01 ht _))) (z0o z03 (by show 2≤1000000;decide) (.cons (z0E _) (.cons (z0E _) .nil)))⟩
    | exact⟨_,rfl,_,rfl,.inl ⟨rfl,_,SqL.of (s3 _ _ ea)⟩,la,_,_,5,rfl,rfl,SqL.of (s3 _ _ ea),rfl,rfl,(by decide),rfl,(by decide),l3,_,_,_,rfl,rfl,SqL.of z03,rfl,(by show 2≤sizeLine;decide),fun t ht=>q _ _ (g.trans (s3.trans (z01 ht _))) (z0o z03 (by show 2≤1000000;decide) (.cons (z0E _) (.cons (z0E _) .nil)))⟩
    | exact⟨_,rfl,_,rfl,.inl ⟨rfl,_,SqL.of (s3 _ _ ea)⟩,la,_,_,6,rfl,rfl,SqL.of (s3 _ _ ea),rfl,rfl,(by decide),rfl,(by decide),l3,_,_,_,rfl,rfl,SqL.of z03,rfl,(by show 2≤sizeLine;decide),fun t ht=>q _ _ (g.trans (s3.trans (z01 ht _))) (z0o z03 (by show 2≤1000000;decide) (.cons (z0E _) (.cons (z0E _) .nil)))⟩
    | exact⟨_,rfl,_,rfl,.inl ⟨rfl,_,SqL.of (s3 _ _ ea)⟩,la,_,_,7,rfl,rfl,SqL.of (s3 _ _ ea),rfl,rfl,(by decide),rfl,(by decide),l3,_,_,_,rfl,rfl,SqL.of z03,rfl,(by show 2≤sizeLine;decide),fun t ht=>q _ _ (g.trans (s3.trans (z01 ht _))) (z0o z03 (by show 2≤1000000;decide) (.cons (z0E _) (.cons (z0E _) .nil)))⟩
 refine⟨fun σ' C H'=>∃(i:Nat) (C0:Addr),i<8/\(∀(u:V) (H':Hp),A4 H H'->A9 H' (Y6 (z8T.getD i "")) u->Q u H')/\C0=[COfficeFull,CUnknownName,CNameTwice,CBadValue,CNotWritten,CBookFull,CUnknownReader,CNoSuchDeed].getD i 0/\C=.ref C0/\A4 H H'/\σ'=[some (.str th),some (.ref p),some v,some two,some (.ref lf),some (.bl true),none,none],?_,?_⟩
 rotate_left
 ·rintro σ' C H' ⟨i,C0,hi,hq,hc,rfl,g,rfl⟩
  have mem:C0∈[CBadNames,CBadReach,CBadReaders,COfficeFull,CUnknownName,CNameTwice,CBadValue,CNotWritten,CUnknownReader,CBookFull,CNoSuchDeed,CTooManyCourses]:=by
   have hi8:i=0\/i=1\/i=2\/i=3\/i=4\/i=5\/i=6\/i=7:=by lia
   rcases hi8 with rfl|rfl|rfl|rfl|rfl|rfl|rfl|rfl<;>(subst hc;simp)
  obtain⟨un,xc⟩:=ers.one mem
  refine⟨⟨C0,rfl,un⟩,fun a ha=>?_⟩
  have s1:=g.trans (z01 ha (S4 a (.ref C0)))
  have ea:upd H' a (S4 a (.ref C0)) a=some (S4 a (.ref C0)):=z03
  generalize upd H' a (S4 a (.ref C0))=G0 at s1 ea
  refine⟨_,rfl,a,C0,"ValueError",true,rfl,ea,xc,xc.hv,?_⟩
  refine⟨_,rfl,a,C0,COfficeFull,_,rfl,ea,xc,ers.two mem (by simp),_,rfl,a,C0,CUnknownName,_,rfl,ea,xc,ers.two mem (by simp),_,rfl,a,C0,CNameTwice,_,rfl,ea,xc,ers.two mem (by simp),(by show 3≤sizeLine;decide),fun l0 hl0=>?_⟩
  have t:=z01 hl0 (.lst [V.bl (C0 == COfficeFull),V.bl (C0 == CUnknownName),V.bl (C0 == CNameTwice)])
  have e:upd G0 l0 (.lst [V.bl (C0 == COfficeFull),V.bl (C0 == CUnknownName),V.bl (C0 == CNameTwice)]) l0=_:=z03
  replace ea:=t _ _ ea
  replace s1:=s1.trans t
  clear t
  generalize upd G0 l0 (.lst [V.bl (C0 == COfficeFull),V.bl (C0 == CUnknownName),V.bl (C0 == CNameTwice)])=G1 at s1 e ea hl0 ⊢
  clear hl0
  refine⟨_,rfl,_,rfl,a,C0,CBadValue,_,rfl,ea,xc,ers.two mem (by simp),_,rfl,a,C0,CNotWritten,_,rfl,ea,xc,ers.two mem (by simp),_,rfl,a,C0,CBookFull,_,rfl,ea,xc,ers.two mem (by simp),(by show 3≤sizeLine;decide),fun l1 hl1=>?_⟩
  have t:=z01 hl1 (.lst [V.bl (C0 == CBadValue),V.bl (C0 == CNotWritten),V.bl (C0 == CBookFull)])
  refine⟨l0,l1,_,_,rfl,rfl,t _ _ e,z03,(by show 6≤sizeLine;decide),fun m1 hm1=>?_⟩
  replace t:=t.trans (z01 hm1 (.lst ([V.bl (C0 == COfficeFull),V.bl (C0 == CUnknownName),V.bl (C0 == CNameTwice)]++[V.bl (C0 == CBadValue),V.bl (C0 == CNotWritten),V.bl (C0 == CBookFull)])))
  replace e:upd (upd G1 l1 (.lst [V.bl (C0 == CBadValue),V.bl (C0 == CNotWritten),V.bl (C0 == CBookFull)])) m1 (.lst ([V.bl (C0 == COfficeFull),V.bl (C0 == CUnknownName),V.bl (C0 == CNameTwice)]++[V.bl (C0 == CBadValue),V.bl (C0 == CNotWritten),V.bl (C0 == CBookFull)])) m1=some (.lst [V.bl (C0 == COfficeFull),V.bl (C0 == CUnknownName),V.bl (C0 == CNameTwice),V.bl (C0 == CBadValue),V.bl (C0 == CNotWritten),V.bl (C0 == CBookFull)]):=z03
  replace ea:=t _ _ ea
  replace s1:=s1.trans t
  clear t
  generalize upd (upd G1 l1 (.lst [V.bl (C0 == CBadValue),V.bl (C0 == CNotWritten),V.bl (C0 == CBookFull)])) m1 (.lst ([V.bl (C0 == COfficeFull),V.bl (C0 == CUnknownName),V.bl (C0 == CNameTwice)]++[V.bl (C0 == CBadValue),V.bl (C0 == CNotWritten),V.bl (C0 == CBookFull)]))=G2 at s1 e ea ⊢
  clear hm1 hl1
  refine⟨_,rfl,_,rfl,a,C0,CUnknownReader,_,rfl,ea,xc,ers.two mem (by simp),_,rfl,a,C0,CNoSuchDeed,_,rfl,ea,xc,ers.two mem (by simp),(by show 2≤sizeLine;decide),fun l2 hl2=>?_⟩
  have t:=z01 hl2 (.lst [V.bl (C0 == CUnknownReader),V.bl (C0 == CNoSuchDeed)])
  refine⟨m1,l2,_,_,rfl,rfl,t _ _ e,z03,(by show 8≤sizeLine;decide),fun m2 hm2=>?_⟩
  replace t:=t.trans (z01 hm2 (.lst ([V.bl (C0 == COfficeFull),V.bl (C0 == CUnknownName),V.bl (C0 == CNameTwice),V.bl (C0 == CBadValue),V.bl (C0 == CNotWritten),V.bl (C0 == CBookFull)]++[V.bl (C0 == CUnknownReader),V.bl (C0 == CNoSuchDeed)])))
  replace e:upd (upd G2 l2 (.lst [V.bl (C0 == CUnknownReader),V.bl (C0 == CNoSuchDeed)])) m2 (.lst ([V.bl (C0 == COfficeFull),V.bl (C0 == CUnknownName),V.bl (C0 == CNameTwice),V.bl (C0 == CBadValue),V.bl (C0 == CNotWritten),V.bl (C0 == CBookFull)]++[V.bl (C0 == CUnknownReader),V.bl (C0 == CNoSuchDeed)])) m2=some (.lst [V.bl (C0 == COfficeFull),V.bl (C0 == CUnknownName),V.bl (C0 == CNameTwice),V.bl (C0 == CBadValue),V.bl (C0 == CNotWritten),V.bl (C0 == CBookFull),V.bl (C0 == CUnknownReader),V.bl (C0 == CNoSuchDeed)]):=z03
  replace ea:=t _ _ ea
  replace s1:=s1.trans t
  clear t
  generalize upd (upd G2 l2 (.lst [V.bl (C0 == CUnknownReader),V.bl (C0 == CNoSuchDeed)])) m2 (.lst ([V.bl (C0 == COfficeFull),V.bl (C0 == CUnknownName),V.bl (C0 == CNameTwice),V.bl (C0 == CBadValue),V.bl (C0 == CNotWritten),V.bl (C0 == CBookFull)]++[V.bl (C0 == CUnknownReader),V.bl (C0 == CNoSuchDeed)]))=G3 at s1 e ea ⊢
  clear hm2 hl2
  refine⟨_,rfl,_,rfl,a,C0,CBadNames,_,rfl,ea,xc,ers.two mem (by simp),_,rfl,a,C0,CBadReach,_,rfl,ea,xc,ers.two mem (by simp),_,rfl,a,C0,CBadReaders,_,rfl,ea,xc,ers.two mem (by simp),(by show 3≤sizeLine;decide),fun l3 hl3=>?_⟩
  have t:=z01 hl3 (.lst [V.bl (C0 == CBadNames),V.bl (C0 == CBadReach),V.bl (C0 == CBadReaders)])
  refine⟨m2,l3,_,_,rfl,rfl,t _ _ e,z03,(by show 11≤sizeLine;decide),fun m3 hm3=>?_⟩
  replace t:=t.trans (z01 hm3 (.lst ([V.bl (C0 == COfficeFull),V.bl (C0 == CUnknownName),V.bl (C0 == CNameTwice),V.bl (C0 == CBadValue),V.bl (C0 == CNotWritten),V.bl (C0 == CBookFull),V.bl (C0 == CUnknownReader),V.bl (C0 == CNoSuchDeed)]++[V.bl (C0 == CBadNames),V.bl (C0 == CBadReach),V.bl (C0 == CBadReaders)])))
  replace e:upd (upd G3 l3 (.lst [V.bl (C0 == CBadNames),V.bl (C0 == CBadReach),V.bl (C0 == CBadReaders)])) m3 (.lst ([V.bl (C0 == COfficeFull),V.bl (C0 == CUnknownName),V.bl (C0 == CNameTwice),V.bl (C0 == CBadValue),V.bl (C0 == CNotWritten),V.bl (C0 == CBookFull),V.bl (C0 == CUnknownReader),V.bl (C0 == CNoSuchDeed)]++[V.bl (C0 == CBadNames),V.bl (C0 == CBadReach),V.bl (C0 == CBadReaders)])) m3=some (.lst [V.bl (C0 == COfficeFull),V.bl (C0 == CUnknownName),V.bl (C0 == CNameTwice),V.bl (C0 == CBadValue),V.bl (C0 == CNotWritten),V.bl (C0 == CBookFull),V.bl (C0 == CUnknownReader),V.bl (C0 == CNoSuchDeed),V.bl (C0 == CBadNames),V.bl (C0 == CBadReach),V.bl (C0 == CBadReaders)]):=z03
  replace ea:=t _ _ ea
  replace s1:=s1.trans t
  clear t
  generalize upd (upd G3 l3 (.lst [V.bl (C0 == CBadNames),V.bl (C0 == CBadReach),V.bl (C0 == CBadReaders)])) m3 (.lst ([V.bl (C0 == COfficeFull),V.bl (C0 == CUnknownName),V.bl (C0 == CNameTwice),V.bl (C0 == CBadValue),V.bl (C0 == CNotWritten),V.bl (C0 == CBookFull),V.bl (C0 == CUnknownReader),V.bl (C0 == CNoSuchDeed)]++[V.bl (C0 == CBadNames),V.bl (C0 == CBadReach),V.bl (C0 == CBadReaders)]))=G4 at s1 e ea ⊢
  clear hm3 hl3
  refine⟨_,rfl,_,rfl,a,C0,CTooManyCourses,_,rfl,ea,xc,ers.two mem (by simp),(by show 1≤sizeLine;decide),fun l4 hl4=>?_⟩
  have t:=z01 hl4 (.lst [V.bl (C0 == CTooManyCourses)])
  refine⟨m3,l4,_,_,rfl,rfl,t _ _ e,z03,(by show 12≤sizeLine;decide),fun m4 hm4=>?_⟩
  refine⟨m4,i,s1.trans (t.trans (z01 hm4 _)),hi,hq,?_,rfl⟩
  rw[z03]
  have ne:∀(i j:Nat) (hi:i<12) (hj:j<12),i≠j->([CBadNames,CBadReach,CBadReaders,COfficeFull,CUnknownName,CNameTwice,CBadValue,CNotWritten,CUnknownReader,CBookFull,CNoSuchDeed,CTooManyCourses][i]'hi == [CBadNames,CBadReach,CBadReaders,COfficeFull,CUnknownName,CNameTwice,CBadValue,CNotWritten,CUnknownReader,CBookFull,CNoSuchDeed,CTooManyCourses][j]'hj)=false:=fun i j hi hj h=>beq_false_of_ne ((Nat.lt_or_gt_of_ne h).elim (fun l=>List.pairwise_iff_getElem.mp ers.nd i j hi hj l) fun l=>(List.pairwise_iff_getElem.mp ers.nd j i hj hi l).symm)
  have hi8:i=0\/i=1\/i=2\/i=3\/i=4\/i=5\/i=6\/i=7:=by lia
  rcases hi8 with rfl|rfl|rfl|rfl|rfl|rfl|rfl|rfl
  ·rw[show C0=COfficeFull from hc]
   show some (HO.lst [V.bl (COfficeFull == COfficeFull),V.bl (COfficeFull == CUnknownName),V.bl (COfficeFull == CNameTwice),V.bl (COfficeFull == CBadValue),V.bl (COfficeFull == CNotWritten),V.bl (COfficeFull == CBookFull),V.bl (COfficeFull == CUnknownReader),V.bl (COfficeFull == CNoSuchDeed),V.bl (COfficeFull == CBadNames),V.bl (COfficeFull == CBadReach),V.bl (COfficeFull == CBadReaders),V.bl (COfficeFull == CTooManyCourses)])=some (HO.lst [V.bl true,V.bl false,V.bl false,V.bl false,V.bl false,V.bl false,V.bl false,V.bl false,V.bl false,V.bl false,V.bl false,V.bl false])
   rw[beq_self_eq_true,show(COfficeFull == CUnknownName)=false from ne 3 4 (by decide) (by decide) (by decide),show(COfficeFull == CNameTwice)=false from ne 3 5 (by decide) (by decide) (by decide),show(COfficeFull == CBadValue)=false from ne 3 6 (by decide) (by decide) (by decide),show(COfficeFull == CNotWritten)=false from ne 3 7 (by decide) (by decide) (by decide),show(COfficeFull == CBookFull)=false from ne 3 9 (by decide) (by decide) (by decide),show(COfficeFull == CUnknownReader)=false from ne 3 8 (by decide) (by decide) (by decide),show(COfficeFull == CNoSuchDeed)=false from ne 3 10 (by decide) (by decide) (by decide),show(COfficeFull == CBadNames)=false from ne 3 0 (by decide) (by decide) (by decide),show(COfficeFull == CBadReach)=false from ne 3 1 (by decide) (by decide) (by decide),show(COfficeFull == CBadReaders)=false from ne 3 2 (by decide) (by decide) (by decide),show(COfficeFull == CTooManyCourses)=false from ne 3 11 (by decide) (by decide) (by decide)]
  ·rw[show C0=CUnknownName from hc]
   show some (HO.lst [V.bl (CUnknownName == COfficeFull),V.bl (CUnknownName == CUnknownName),V.bl (CUnknownName == CNameTwice),V.bl (CUnknownName == CBadValue),V.bl (CUnknownName == CNotWritten),V.bl (CUnknownName == CBookFull),V.bl (CUnknownName == CUnknownReader),V.bl (CUnknownName == CNoSuchDeed),V.bl (CUnknownName == CBadNames),V.bl (CUnknownName == CBadReach),V.bl (CUnknownName == CBadReaders),V.bl (CUnknownName == CTooManyCourses)])=some (HO.lst [V.bl false,V.bl true,V.bl false,V.bl false,V.bl false,V.bl false,V.bl false,V.bl false,V.bl false,V.bl false,V.bl false,V.bl false])
   rw[beq_self_eq_true,show(CUnknownName == COfficeFull)=false from ne 4 3 (by decide) (by decide) (by decide),show(CUnknownName == CNameTwice)=false from ne 4 5 (by decide) (by decide) (by decide),show(CUnknownName == CBadValue)=false from ne 4 6 (by decide) (by decide) (by decide),show(CUnknownName == CNotWritten)=false from ne 4 7 (by decide) (by decide) (by decide),show(CUnknownName == CBookFull)=false from ne 4 9 (by decide) (by decide) (by decide),show(CUnknownName == CUnknownReader)=false from ne 4 8 (by decide) (by decide) (by decide),show(CUnknownName == CNoSuchDeed)=false from ne 4 10 (by decide) (by decide) (by decide),show(CUnknownName == CBadNames)=false from ne 4 0 (by decide) (by decide) (by decide),show(CUnknownName == CBadReach)=false from ne 4 1 (by decide) (by decide) (by decide),show(CUnknownName == CBadReaders)=false from ne 4 2 (by decide) (by decide) (by decide),show(CUnknownName == CTooManyCourses)=false from ne 4 11 (by decide) (by decide) (by decide)]
  ·rw[show C0=CNameTwice from hc]
   show some (HO.lst [V.bl (CNameTwice == COfficeFull),V.bl (CNameTwice == CUnknownName),V.bl (CNameTwice == CNameTwice),V.bl (CNameTwice == CBadValue),V.bl (CNameTwice == CNotWritten),V.bl (CNameTwice == CBookFull),V.bl (CNameTwice == CUnknownReader),V.bl (CNameTwice == CNoSuchDeed),V.bl (CNameTwice == CBadNames),V.bl (CNameTwice == CBadReach),V.bl (CNameTwice == CBadReaders),V.bl (CNameTwice == CTooManyCourses)])=some (HO.lst [V.bl false,V.bl false,V.bl true,V.bl false,V.bl false,V.bl false,V.bl false,V.bl false,V.bl false,V.bl false,V.bl false,V.bl false])
   rw[beq_self_eq_true,show(CNameTwice == COfficeFull)=false from ne 5 3 (by decide) (by decide) (by decide),show(CNameTwice == CUnknownName)=false from ne 5 4 (by decide) (by decide) (by decide),show(CNameTwice == CBadValue)=false from ne 5 6 (by decide) (by decide) (by decide),show(CNameTwice == CNotWritten)=false from ne 5 7 (by decide) (by decide) (by decide),show(CNameTwice == CBookFull)=false from ne 5 9 (by decide) (by decide) (by decide),show(CNameTwice == CUnknownReader)=false from ne 5 8 (by decide) (by decide) (by decide),show(CNameTwice == CNoSuchDeed)=false from ne 5 10 (by decide) (by decide) (by decide),show(CNameTwice == CBadNames)=false from ne 5 0 (by decide) (by decide) (by decide),show(CNameTwice == CBadReach)=false from ne 5 1 (by decide) (by decide) (by decide),show(CNameTwice == CBadReaders)=false from ne 5 2 (by decide) (by decide) (by decide),show(CNameTwice == CTooManyCourses)=false from ne 5 11 (by decide) (by decide) (by decide)]
  ·rw[show C0=CBadValue from hc]
   show some (HO.lst [V.bl (CBadValue == COfficeFull),V.bl (CBadValue == CUnknownName),V.bl (CBadValue == CNameTwice),V.bl (CBadValue == CBadValue),V.bl (CBadValue == CNotWritten),V.bl (CBadValue == CBookFull),V.bl (CBadValue == CUnknownReader),V.bl (CBadValue == CNoSuchDeed),V.bl (CBadValue == CBadNames),V.bl (CBadValue == CBadReach),V.bl (CBadValue == CBadReaders),V.bl (CBadValue == CTooManyCourses)])=some (HO.lst [V.bl false,V.bl false,V.bl false,V.bl true,V.bl false,V.bl false,V.bl false,V.bl false,V.bl false,V.bl false,V.bl false,V.bl false])
   rw[beq_self_eq_true,show(CBadValue == COfficeFull)=false from ne 6 3 (by decide) (by decide) (by decide),show(CBadValue == CUnknownName)=false from ne 6 4 (by decide) (by decide) (by decide),show(CBadValue == CNameTwice)=false from ne 6 5 (by decide) (by decide) (by decide),show(CBadValue == CNotWritten)=false from ne 6 7 (by decide) (by decide) (by decide),show(CBadValue == CBookFull)=false from ne 6 9 (by decide) (by decide) (by decide),show(CBadValue == CUnknownReader)=false from ne 6 8 (by decide) (by decide) (by decide),show(CBadValue == CNoSuchDeed)=false from ne 6 10 (by decide) (by decide) (by decide),show(CBadValue == CBadNames)=false from ne 6 0 (by decide) (by decide) (by decide),show(CBadValue == CBadReach)=false from ne 6 1 (by decide) (by decide) (by decide),show(CBadValue == CBadReaders)=false from ne 6 2 (by decide) (by decide) (by decide),show(CBadValue == CTooManyCourses)=false from ne 6 11 (by decide) (by decide) (by decide)]
  ·rw[show C0=CNotWritten from hc]
   show some (HO.lst [V.bl (CNotWritten == COfficeFull),V.bl (CNotWritten == CUnknownName),V.bl (CNotWritten == CNameTwice),V.bl (CNotWritten == CBadValue),V.bl (CNotWritten == CNotWritten),V.bl (CNotWritten == CBookFull),V.bl (CNotWritten == CUnknownReader),V.bl (CNotWritten == CNoSuchDeed),V.bl (CNotWritten == CBadNames),V.bl (CNotWritten == CBadReach),V.bl (CNotWritten == CBadReaders),V.bl (CNotWritten == CTooManyCourses)])=some (HO.lst [V.bl false,V.bl false,V.bl false,V.bl false,V.bl true,V.bl false,V.bl false,V.bl false,V.bl false,V.bl false,V.bl false,V.bl false])
   rw[beq_self_eq_true,show(CNotWritten == COfficeFull)=false from ne 7 3 (by decide) (by decide) (by decide),show(CNotWritten == CUnknownName)=false from ne 7 4 (by decide) (by decide) (by decide),show(CNotWritten == CNameTwice)=false from ne 7 5 (by decide) (by decide) (by decide),show(CNotWritten == CBadValue)=false from ne 7 6 (by decide) (by decide) (by decide),show(CNotWritten == CBookFull)=false from ne 7 9 (by decide) (by decide) (by decide),show(CNotWritten == CUnknownReader)=false from ne 7 8 (by decide) (by decide) (by decide),show(CNotWritten == CNoSuchDeed)=false from ne 7 10 (by decide) (by decide) (by decide),show(CNotWritten == CBadNames)=false from ne 7 0 (by decide) (by decide) (by decide),show(CNotWritten == CBadReach)=false from ne 7 1 (by decide) (by decide) (by decide),show(CNotWritten == CBadReaders)=false from ne 7 2 (by decide) (by decide) (by decide),show(CNotWritten == CTooManyCourses)=false from ne 7 11 (by decide) (by decide) (by decide)]
  ·rw[show C0=CBookFull from hc]
   show some (HO.lst [V.bl (CBookFull == COfficeFull),V.bl (CBookFull == CUnknownName),V.bl (CBookFull == CNameTwice),V.bl (CBookFull == CBadValue),V.bl (CBookFull == CNotWritten),V.bl (CBookFull == CBookFull),V.bl (CBookFull == CUnknownReader),V.bl (CBookFull == CNoSuchDeed),V.bl (CBookFull == CBadNames),V.bl (CBookFull == CBadReach),V.bl (CBookFull == CBadReaders),V.bl (CBookFull == CTooManyCourses)])=some (HO.lst [V.bl false,V.bl false,V.bl false,V.bl false,V.bl false,V.bl true,V.bl false,V.bl false,V.bl false,V.bl false,V.bl false,V.bl false])
   rw[beq_self_eq_true,show(CBookFull == COfficeFull)=false from ne 9 3 (by decide) (by decide) (by decide),show(CBookFull == CUnknownName)=false from ne 9 4 (by decide) (by decide) (by decide),show(CBookFull == CNameTwice)=false from ne 9 5 (by decide) (by decide) (by decide),show(CBookFull == CBadValue)=false from ne 9 6 (by decide) (by decide) (by decide),show(CBookFull == CNotWritten)=false from ne 9 7 (by decide) (by decide) (by decide),show(CBookFull == CUnknownReader)=false from ne 9 8 (by decide) (by decide) (by decide),show(CBookFull == CNoSuchDeed)=false from ne 9 10 (by decide) (by decide) (by decide),show(CBookFull == CBadNames)=false from ne 9 0 (by decide) (by decide) (by decide),show(CBookFull == CBadReach)=false from ne 9 1 (by decide) (by decide) (by decide),show(CBookFull == CBadReaders)=false from ne 9 2 (by decide) (by decide) (by decide),show(CBookFull == CTooManyCourses)=false from ne 9 11 (by decide) (by decide) (by decide)]
  ·rw[show C0=CUnknownReader from hc]
   show some (HO.lst [V.bl (CUnknownReader == COfficeFull),V.bl (CUnknownReader == CUnknownName),V.bl (CUnknownReader == CNameTwice),V.bl (CUnknownReader == CBadValue),V.bl (CUnknownReader == CNotWritten),V.bl (CUnknownReader == CBookFull),V.bl (CUnknownReader == CUnknownReader),V.bl (CUnknownReader == CNoSuchDeed),V.bl (CUnknownReader == CBadNames),V.bl (CUnknownReader == CBadReach),V.bl (CUnknownReader == CBadReaders),V.bl (CUnknownReader == CTooManyCourses)])=some (HO.lst [V.bl false,V.bl false,V.bl false,V.bl false,V.bl false,V.bl false,V.bl true,V.bl false,V.bl false,V.bl false,V.bl false,V.bl false])
   rw[beq_self_eq_true,show(CUnknownReader == COfficeFull)=false from ne 8 3 (by decide) (by decide) (by decide),show(CUnknownReader == CUnknownName)=false from ne 8 4 (by decide) (by decide) (by decide),show(CUnknownReader == CNameTwice)=false from ne 8 5 (by decide) (by decide) (by decide),show(CUnknownReader == CBadValue)=false from ne 8 6 (by decide) (by decide) (by decide),show(CUnknownReader == CNotWritten)=false from ne 8 7 (by decide) (by decide) (by decide),show(CUnknownReader == CBookFull)=false from ne 8 9 (by decide) (by decide) (by decide),show(CUnknownReader == CNoSuchDeed)=false from ne 8 10 (by decide) (by decide) (by decide),show(CUnknownReader == CBadNames)=false from ne 8 0 (by decide) (by decide) (by decide),show(CUnknownReader == CBadReach)=false from ne 8 1 (by decide) (by decide) (by decide),show(CUnknownReader == CBadReaders)=false from ne 8 2 (by decide) (by decide) (by decide),show(CUnknownReader == CTooManyCourses)=false from ne 8 11 (by decide) (by decide) (by decide)]
  ·rw[show C0=CNoSuchDeed from hc]
   show some (HO.lst [V.bl (CNoSuchDeed == COfficeFull),V.bl (CNoSuchDeed == CUnknownName),V.bl (CNoSuchDeed == CNameTwice),V.bl (CNoSuchDeed == CBadValue),V.bl (CNoSuchDeed == CNotWritten),V.bl (CNoSuchDeed == CBookFull),V.bl (CNoSuchDeed == CUnknownReader),V.bl (CNoSuchDeed == CNoSuchDeed),V.bl (CNoSuchDeed == CBadNames),V.bl (CNoSuchDeed == CBadReach),V.bl (CNoSuchDeed == CBadReaders),V.bl (CNoSuchDeed == CTooManyCourses)])=some (HO.lst [V.bl false,V.bl false,V.bl false,V.bl false,V.bl false,V.bl false,V.bl false,V.bl true,V.bl false,V.bl false,V.bl false,V.bl false])
   rw[beq_self_eq_true,show(CNoSuchDeed == COfficeFull)=false from ne 10 3 (by decide) (by decide) (by decide),show(CNoSuchDeed == CUnknownName)=false from ne 10 4 (by decide) (by decide) (by decide),show(CNoSuchDeed == CNameTwice)=false from ne 10 5 (by decide) (by decide) (by decide),show(CNoSuchDeed == CBadValue)=false from ne 10 6 (by decide) (by decide) (by decide),show(CNoSuchDeed == CNotWritten)=false from ne 10 7 (by decide) (by decide) (by decide),show(CNoSuchDeed == CBookFull)=false from ne 10 9 (by decide) (by decide) (by decide),show(CNoSuchDeed == CUnknownReader)=false from ne 10 8 (by decide) (by decide) (by decide),show(CNoSuchDeed == CBadNames)=false from ne 10 0 (by decide) (by decide) (by decide),show(CNoSuchDeed == CBadReach)=false from ne 10 1 (by decide) (by decide) (by decide),show(CNoSuchDeed == CBadReaders)=false from ne 10 2 (by decide) (by decide) (by decide),show(CNoSuchDeed == CTooManyCourses)=false from ne 10 11 (by decide) (by decide) (by decide)]
 obtain⟨d1,g1,z1,w1⟩:=U3.ins bk0
 rcases cases4 with ⟨rfl,pr,hd,gr,l12,l60,l4,q⟩|⟨rfl,a,us,pr,i,rfl,ha,hp,l100,hlow,du,q⟩|⟨rfl,rd,n,rfl,rfl,r1,r2,n1,n2,l4,q⟩|⟨rfl,rd,n,i,rfl,rfl,du,q⟩
 ·refine⟨_,rfl,rfl,_,rfl,B6 (fun _=>?_) (fun n=>absurd (decide_eq_true rfl) n)⟩
  obtain⟨a,us,rfl,ha,na,hp⟩:=hd
  refine⟨_,rfl,p,d1,g1,rfl,z1,w1 _ (by simp),_,rfl,.inl ⟨p,.ref a,fp,zs,r,k,rows,log,pr,rfl,bk0,⟨a,us,rfl,SqP.keep s0 ha,na,L2.Paired.X0 hp fun u x ⟨b,e,q,n⟩=>⟨b,e,q.imp (fun z=>s0.seq z) fun z=>z5V s0 z,n⟩⟩,gr,l12,l60,l4,fun fp' H' h1 h2 of'=>q fp' H' (fun b hb=>(h1 b hb).imp id fun e=>s0.free e) (fun b o e n=>h2 b o (s0 _ _ e) n) of'⟩⟩
 ·refine⟨_,rfl,rfl,_,rfl,B6 (fun _=>?_) (fun n=>absurd (decide_eq_true rfl) n)⟩
  refine⟨_,rfl,p,d1,g1,rfl,z1,w1 _ (by simp),_,rfl,.inr ?_⟩
  have thr:∀C0,(w14 COfficeFull CUnknownName CNameTwice CBadValue zs rows pr C0\/(rows.length<60/\GoodR zs pr/\pr.length≤12/\400≤log.length/\C0=CBookFull))->i<8->C0=[COfficeFull,CUnknownName,CNameTwice,CBadValue,CNotWritten,CBookFull,CUnknownReader,CNoSuchDeed].getD i 0->z6a K (BkD K A1 A0) COfficeFull CUnknownName CNameTwice CBadValue CBookFull [.ref p,.ref a] H0 Q fun C _ H'=>∃(i:Nat) (C0:Addr),i<8/\(∀(u:V) (H':Hp),A4 H H'->A9 H' (Y6 (z8T.getD i "")) u->Q u H')/\C0=[COfficeFull,CUnknownName,CNameTwice,CBadValue,CNotWritten,CBookFull,CUnknownReader,CNoSuchDeed].getD i 0/\C=.ref C0/\A4 H H'/\[some (V.str "write"),some (.ref p),some (.ref a),some two,some (.ref lf),some (.bl true),none,none]=[some (V.str "write"),some (.ref p),some (.ref a),some two,some (.ref lf),some (.bl true),none,none]:=fun C0 rf hi hc=>
   ⟨p,a,fp,zs,r,k,rows,log,us,pr,C0,rfl,bk0,SqP.keep s0 ha,z1A.keep s0 hp,l100,hlow,rf,fun H' s'=>⟨i,C0,hi,q,hc,rfl,s0.trans s',rfl⟩⟩
  rcases du with (⟨h60,rfl⟩|⟨h60,⟨h,rfl⟩|⟨h1,h2,rfl⟩|⟨h1,h2,h3,rfl⟩⟩)|⟨h60,h1,h2,h3,rfl⟩
  ·exact thr _ (.inl (.inl ⟨h60,rfl⟩)) (by decide) rfl
  ·exact thr _ (.inl (.inr ⟨h60,.inl ⟨h,rfl⟩⟩)) (by decide) rfl
  ·exact thr _ (.inl (.inr ⟨h60,.inr (.inl ⟨h1,h2,rfl⟩)⟩)) (by decide) rfl
  ·exact thr _ (.inl (.inr ⟨h60,.inr (.inr ⟨h1,h2,h3,rfl⟩)⟩)) (by decide) rfl
  ·exact thr _ (.inr ⟨h60,h1,h2,h3,rfl⟩) (by decide) rfl
 ·refine⟨_,rfl,rfl,_,rfl,B6 (fun q=>absurd (z0Q q) (by decide +kernel)) fun _=>?_⟩
  exact⟨_,rfl,p,d1,g1,rfl,z1,w1 _ (by simp),_,rfl,_,rfl,.inl ⟨p,fp,zs,r,k,rows,log,rd,n,rfl,bk0,r1,r2,n1,n2,l4,fun H' h2 b'=>q H' (fun b o e n=>h2 b o (s0 _ _ e) n) b'⟩⟩
 ·refine⟨_,rfl,rfl,_,rfl,B6 (fun q=>absurd (z0Q q) (by decide +kernel)) fun _=>?_⟩
  refine⟨_,rfl,p,d1,g1,rfl,z1,w1 _ (by simp),_,rfl,_,rfl,.inr ?_⟩
  have thr:∀C0,RefD CNotWritten CUnknownReader CBookFull rows log k rd n C0->i<8->C0=[COfficeFull,CUnknownName,CNameTwice,CBadValue,CNotWritten,CBookFull,CUnknownReader,CNoSuchDeed].getD i 0->z4u (BkD K A1 A0) CNotWritten CUnknownReader CBookFull [.ref p,.int rd,.int n] H0 Q fun C _ H'=>∃(i:Nat) (C0:Addr),i<8/\(∀(u:V) (H':Hp),A4 H H'->A9 H' (Y6 (z8T.getD i "")) u->Q u H')/\C0=[COfficeFull,CUnknownName,CNameTwice,CBadValue,CNotWritten,CBookFull,CUnknownReader,CNoSuchDeed].getD i 0/\C=.ref C0/\A4 H H'/\[some (V.str "deliver"),some (.ref p),some (.int rd),some (.int n),some (.ref lf),some (.bl true),none,none]=[some (V.str "deliver"),some (.ref p),some (.int rd),some (.int n),some (.ref lf),some (.bl true),none,none]:=fun C0 rf hi hc=>
   ⟨p,fp,zs,r,k,rows,log,rd,n,C0,rfl,bk0,rf,fun H' s'=>⟨i,C0,hi,q,hc,rfl,s0.trans s',rfl⟩⟩
  rcases du with ⟨hn,rfl⟩|⟨n1,n2,⟨h,rfl⟩|⟨h1,h2,h3,rfl⟩⟩
  ·exact thr _ (.inl ⟨hn,rfl⟩) (by decide) rfl
  ·exact thr _ (.inr ⟨n1,n2,.inl ⟨h,rfl⟩⟩) (by decide) rfl
  ·exact thr _ (.inr ⟨n1,n2,.inr ⟨h1,h2,h3,rfl⟩⟩) (by decide) rfl
noncomputable def y6Y(K:PySem.W.Frag):V->List V->Hp->VK->Prop:=fun x vs H Q=>∃(l:Addr) (us:List V) (a:Addr) (xs:List V) (yss:List (List V)) (j:Nat),x=.ref l/\vs=[.ref a]/\SqL K H l us/\SqT K H a xs/\xs.all z1t=true/\Paired (fun u ys=>∃b,u=.ref b/\SqT K H b ys/\ys.all z1t=true) us yss/\j<yss.length/\z2g (yss.getD j []) xs=true/\(∀m,m<j->z2g (yss.getD m []) xs=false)/\Q (.int j) H
open PySem.Spec PyProof.Rows in
theorem y3E{X:Cx}(hu:X.A.units+1<cLine):MtM X "list.index" (y6Y X.K):=by
 intro pins s σ H x vs v us0 Q I rx rv h
 obtain⟨l,us,a,xs,yss,j,rfl,rfl,hL,ha,f1,pr,hj,ej,hno,q⟩:=h
 cases rx
 obtain⟨u,rfl,ru⟩:=rv.one
 cases ru
 obtain⟨its,r,pl,hz⟩:=I.tuple ha
 obtain⟨N1,r2,pl2,hz2⟩:=I.list hL
 have line:=sizeLine_eq
 have item:∀(b:Addr) (ys:List V),SqT X.K H b ys->ys.all z1t=true->z1P s xs (.ref b)=z2g ys xs/\SeqAt.EqAt X.A.in1 s (.ref b) (.ref a) (z2g ys xs):=fun b ys hb fb=>by
  obtain⟨its3,r3,pl3,hz3⟩:=I.tuple hb
  have e1:z1P s xs (.ref b)=z2g ys xs:=by
   obtain⟨o,ho,hc,n,hd⟩:=pl3
   unfold z1P
   simp only[ho,hd]
   exact y06 xs r3 fb
  refine⟨e1,?_⟩
  by_cases hne:b=a
  ·subst hne
   have e2:z2g ys xs=true:=by
    rw[<- e1]
    obtain⟨o,ho,hc,n,hd⟩:=pl
    unfold z1P
    simp only[ho,hd]
    rw[y06 xs r f1]
    exact z69 f1
   rw[e2]
   exact SeqAt.EqAt.same _
  ·exact SeqAt.EqAt.of_refs hne (y17 pl3 pl r3 r fb f1 hu)
 have all:∀{us:List V}{yss:List (List V)}{vs:List Value},Paired (fun u ys=>∃b,u=.ref b/\SqT X.K H b ys/\ys.all z1t=true) us yss->Vals us vs->vs.length=yss.length/\(∀(m:Nat) (hm:m<vs.length),z1P s xs vs[m]=z2g (yss.getD m []) xs)/\∀v∈vs,SeqAt.EqAt X.A.in1 s v (.ref a) (z1P s xs v):=by
  intro us yss vs pr
  induction pr generalizing vs with
  | nil=>
   intro r
   cases r
   exact⟨rfl,fun m hm=>absurd hm (fR _),fun v hv=>(nomatch hv)⟩
  | cons h t ih=>
   intro r
   cases r with
   | cons r1 rt=>
    obtain⟨b,rfl,hb,fb⟩:=h
    cases r1
    obtain⟨i0,i1,i2⟩:=ih rt
    obtain⟨j1,j2⟩:=item b _ hb fb
    refine⟨congrArg Nat.succ i0,fun m hm=>?_,fun v hv=>?_⟩
    ·cases m with
     | zero=>exact j1
     | succ m=>exact i1 m (Nat.lt_of_succ_lt_succ hm)
    ·rcases bC.mp hv with rfl|hv
     ·rw[j1];exact j2
     ·exact i2 v hv
 obtain⟨a0,a1,a2⟩:=all pr r2
 obtain⟨⟨cls,dd,data,sl⟩,ho,hc,n,hd⟩:=id pl2.isList
 simp only at hc hd
 subst hc hd
 have lz:N1.length≤sizeLine:=by rw[<- r2.length];exact hz2
 have hjs:j<N1.toArray.size:=by rw[bE,a0];exact hj
 refine call_meets F.slot_list_index ⟨_,ho,rfl⟩ F.entry_list_index (F.args_list_index_2 _ _)
  (SeqAt.list_indexAt l N1.toArray n dd sl (.ref a) (z1P s xs) j hjs (by lia) (by rw[gP,a1 j (by rw[a0];exact hj)];exact ej) (fun m hm hlt=>by rw[gP,a1 m (by rw[bE] at hm;exact hm)];exact hno m hlt))
  ⟨ho,fun w hw=>a2 w (by simpa using hw),?_⟩
 exact⟨.int j,H,I.tok _,⟨_,rfl⟩,q⟩
theorem z8z(rd:Int):∀log:List B7,(O5 log rd).Nodup:=by
 intro log
 have go:∀(log:List B7) (acc:List Int),acc.Nodup->(log.foldl (fun acc d=>if d.1=some rd then S0 acc d.2 else acc) acc).Nodup:=by
  intro log
  induction log with
  | nil=>intro acc h;exact h
  | cons d log ih=>
   intro acc h
   rw[dJ]
   refine ih _ ?_
   split
   ·unfold S0
    split
    ·exact h
    ·rename_i hn
     exact fA.mpr ⟨h,by simp,fun a ha b hb e=>hn (by rw[<- bA.mp hb,<- e];exact ha)⟩
   ·exact h
 exact go log [] .nil
noncomputable def y3x(K:PySem.W.Frag):Sp:=fun vs H Q _=>∃(l:Addr) (us:List V) (log:List B7) (rd:Int) (d:Nat),vs=[.ref l,.int rd,.int d]/\H l=some (.lst us)/\Paired (z2e H) us log/\d≤log.length/\(∀x∈log,1≤x.2/\x.2≤60)/\
 ∀(lo:Addr) (H':Hp),H lo=none->A4 H H'->H' lo=some (.lst ((z0u (O5 (log.take d) rd)).map V.int))->Q (.ref lo) H'
theorem y3L(M:Bl mg)(F:Fun K "_law_had_at" "_law_had_at" z4c f fd):A8 P w K mg base CX0 1 f fd z49 (y3x K):=by
 have nd:=z5P.nd
 refine F.ok z5P (fun vs H Q E h=>?_) (fun cdv A outer s H vs Q E hr h=>?_)
 ·obtain⟨l,us,log,rd,d,rfl,_⟩:=h
  rfl
 obtain⟨l,us,log,rd,d,rfl,el,pr,dl,hin,q⟩:=h
 refine⟨_,(z04 (z0k (i:=3) nd rfl (Or.inl rfl) (z0T z02)) (z04 (z1z cG rfl (z1r (z33 y0Y (pv 0) z58 (z3A (pv 2)))) (z0m (i:=4) nd rfl (Or.inl rfl)) (z05 (z0H (PW.pt (z4j (z0a z2y (z0N z19 (pv 4) z06 (fun _ _=>rfl)) z0F (z0h _)) (z4j (z0a z2y (z0N z19 (pv 4) z06 (fun _ _=>rfl)) (pv 1) (z0h _)) (z3N (z0a z1H (z0N z19 (pv 4) z06 (fun _ _=>rfl)) (pv 3) (by with_unfolding_all rfl)))))) (z05 (z0x (z26 bJ bQ bS z0G (pv 3) (z00 (z0N z19 (pv 4) z06 (fun _ _=>rfl)) z02)))) z0j))) (z05 (z0d (z09 z7o rfl M.sorted fW (z00 (pv 3) z02)))))),?_⟩
 have lu:=z1F pr
 refine⟨(by show 0≤sizeLine;decide),fun lh hlh=>?_⟩
 have s1:=z01 hlh (.lst [])
 have e1:upd H lh (.lst []) lh=some (.lst []):=z03
 generalize upd H lh (.lst [])=H1 at s1 e1
 refine⟨_,rfl,_,rfl,_,rfl,l,_,rfl,SqL.of (s1 _ _ el),fun lq hlq=>?_⟩
 rw[y3b (by lia)]
 have s2:=s1.trans (z01 hlq (.lst (us.take d)))
 have e2:upd H1 lq (.lst (us.take d)) lq=some (.lst (us.take d)):=z03
 have e3:=z01 hlq (.lst (us.take d)) _ _ e1
 have nq:lh≠lq:=z0r e1 hlq
 generalize upd H1 lq (.lst (us.take d))=H2 at s2 e2 e3
 have lt:(us.take d).length=d:=by rw[bM];lia
 have w0D:∀(lg:List B7),(∀x∈lg,x∈log)->∀n∈O5 lg rd,1≤n/\n≤60:=fun lg sub n hn=>hin _ (sub _ (y1t.mp hn))
 refine⟨lq,rfl,⟨_,SqL.of e2⟩,z2u (K:=K) (a:=lq) (xs:=us.take d) (fun i σ G=>∃o4:Option V,z0t [lh] H2 G/\G lh=some (.lst ((O5 ((log.take d).take i) rd).map V.int))/\σ=[some (.ref l),some (.int rd),some (.int d),some (.ref lh),o4]) ⟨none,.of (A4.refl _),e3,rfl⟩ (fun i σ G _ ⟨_,bt,_⟩=>SqL.of (bt _ _ e2 (by rw[bA];exact cU nq))) ?_ ?_⟩
 ·rintro i u σ G hi ⟨o4,bt,eh,rfl⟩
  obtain⟨x,ex,b,rfl,hb⟩:=y1G pr d i u hi
  have nb:b∉[lh]:=fun m=>by
   rw[bA.mp m,hlh] at hb
   cases hb
  have hb':=bt _ _ (s2 _ _ hb) nb
  have g60:=w0D ((log.take d).take i) fun x hx=>dE (dE hx)
  have gl:=z8S (z8z rd ((log.take d).take i)) g60
  have eg:O5 ((log.take d).take (i+1)) rd=if x.1=some rd then S0 (O5 ((log.take d).take i) rd) x.2 else O5 ((log.take d).take i) rd:=by rw[z0C ex,z9V]
  obtain⟨a,n⟩:=x
  cases a with
  | none=>
   have hbd:G b=some (.tup [V.str "write",V.int n]):=hb'
   rw[if_neg (fun e=>by cases e)] at eg
   refine⟨_,rfl,b,_,0,_,rfl,rfl,SqT.of hbd,rfl,rfl,_,rfl,C8 ?_⟩
   exact C8 ⟨_,bt,by rw[eg];exact eh,rfl⟩
  | some rd'=>
   have hbd:G b=some (.tup [V.str "deliver",V.int rd',V.int n]):=hb'
   refine⟨_,rfl,b,_,0,_,rfl,rfl,SqT.of hbd,rfl,rfl,_,rfl,J5 ?_⟩
   refine⟨_,rfl,b,_,1,_,rfl,rfl,SqT.of hbd,rfl,_,rfl,rfl,_,rfl,?_⟩
   by_cases c:rd'=rd
   ·rw[if_pos (show(some rd',n).1=some rd by rw[c])] at eg
    rw[decide_eq_true (congrArg V.int c)]
    refine J5 ⟨_,rfl,b,_,2,_,rfl,rfl,SqT.of hbd,rfl,_,rfl,lh,_,rfl,.inl (SqL.of eh),rfl,z3w _,_,rfl,?_⟩
    rw[if_pos rfl,z4G]
    unfold S0 at eg
    by_cases c2:n∈O5 ((log.take d).take i) rd
    ·rw[if_pos c2] at eg
     rw[decide_eq_true c2]
     exact C8 ⟨_,bt,by rw[eg];exact eh,rfl⟩
    ·rw[if_neg c2] at eg
     rw[decide_eq_false c2]
     refine J5 ⟨_,rfl,.inl ⟨rfl,_,SqL.of eh⟩,_,rfl,b,_,2,_,rfl,rfl,SqT.of hbd,rfl,lh,_,_,rfl,rfl,eh,z0i (by rw[b6];lia),?_⟩
     refine⟨_,fun b o e nb=>?_,by rw[z03,eg,bI];rfl,rfl⟩
     rw[z0f (fun e=>nb (by rw[e];exact bA.mpr rfl))]
     exact bt b o e nb
   ·rw[if_neg (fun e=>c (Option.some.inj e))] at eg
    rw[decide_eq_false (fun e=>c (V.int.inj e))]
    exact C8 (C8 ⟨_,bt,by rw[eg];exact eh,rfl⟩)
 ·rintro σ G ⟨o4,bt,eh,rfl⟩
  rw[lt,List.take_take,Nat.min_self] at eh
  have g60:=w0D (log.take d) fun x hx=>dE hx
  have gnd:=z8z rd (log.take d)
  refine⟨_,rfl,lh,_,rfl,SqL.of eh,by have:=z8S gnd g60;lia,fun lo ms hlo hp hs=>?_⟩
  have em:=y0T gnd g60 hp hs
  have nh:∀{b:Addr}{o:HO},H b=some o->b∉[lh]:=fun e m=>by
   rw[bA.mp m,hlh] at e
   cases e
  have sG:A4 H G:=fun b o e=>bt _ _ (s2 _ _ e) (nh e)
  exact q lo _ (sG.free hlo) (sG.trans (z01 hlo _)) (by rw[z03,em])
theorem y2n(ns:List Int)(rows:List Row)(r num:Int)(z:Str):(y2W ns rows r num z).deep≤2:=z16 fun d hd=>by
 obtain⟨n,_,rfl⟩:=cF.mp hd
 refine z16 fun d hd=>?_
 rcases bC.mp hd with rfl|hd
 ·exact z1s _ _
 ·rw[bA.mp hd]
  exact z1s _ _
theorem y3f(ns:List Int)(rows:List Row)(r:Int):(DV.tup (z6W ns rows r)).deep≤3:=z16 fun d hd=>by
 unfold z6W at hd
 obtain⟨n,_,rfl⟩:=cF.mp hd
 unfold U0
 refine z16 fun d hd=>?_
 rcases bC.mp hd with rfl|hd
 ·exact z1s _ _
 rcases bC.mp hd with rfl|hd
 ·exact z1s _ _
 rw[bA.mp hd]
 split
 ·exact z16 fun d hd=>by cases hd
 ·exact y1K _
theorem z4L{H:Hp}:∀(l:List Int),z0b H (l.map DV.int) (l.map V.int)
 | []=>.nil
 | i::l=>.cons (z0D i) (z4L l)
theorem y6m{nm:List Str}{m:Int}(h0:0≤m)(h1:m<nm.length):∃z∈nm,atI (nm.map V.str) m=some (.str z):=by
 have hm:m.toNat<nm.length:=by lia
 refine⟨nm[m.toNat],dD hm,?_⟩
 have q:atI (nm.map V.str) ((m.toNat:Nat):Int)=some (.str nm[m.toNat]):=z15 (by rw[bL,bH hm]<;>rfl)
 rw[show((m.toNat:Nat):Int)=m by lia] at q
 exact q
noncomputable def z9i(Bk:BkP):Sp:=fun vs H Q _=>∃(x l ln lr:Addr) (fp:List Addr) (nm:List Str) (r k:Int) (rows:List Row) (log:List B7) (us ws:List V) (rd:Int) (d:Nat),vs=[.ref x,.ref l,.int rd,.int d,.ref ln,.ref lr,.int r]/\Bk H x fp nm r k rows log/\H l=some (.lst us)/\Paired (z2e H) us log/\d≤log.length/\1≤rd/\rd≤k/\
 (∀y∈log,1≤y.2/\y.2≤rows.length)/\rows.length≤60/\H ln=some (.lst (nm.map V.str))/\J8 nm/\H lr=some (.lst ws)/\z0b H (rows.map O4) ws/\Rws nm rows/\0≤r/\r≤10/\∀H',A4 H H'->Q (.bl true) H'
theorem y41(M:Bl mg)(F:Fun K "_law_seen_at" "_law_seen_at" z3H f fd){A1 A2:Addr}{Bk:BkP}{Sh:ShP}(O:V6 A1 ["write","deliver","latest","issue","deeds","deed","shelf"] Bk)(OS:Z2 A2 ["put","had","latest"] Sh)
  (B9:Cal P w K mg base 6 "_law_same" z1M (z7z 6)) (N8:Cal P w K mg base 1 "_law_had_at" z49 (y3x K)) (P9:Cal P w K mg base 3 "_law_table" z5h (y4h K)) (K1:Cal P w K mg base 2 "_law_gaps" z4H (y4l K))
  (K5:Cal P w K mg base 1 "_law_held" z4J (y0Q K)) (J0:Cal P w K mg base 1 "_law_again" z3E (y1g K)) (R4:Cal P w K mg base 8 "knowledge" z6i (y5P Sh)) (N5:Cal P w K mg base 8 "gaps_of" z76 (z96 Sh)) (K3:Cal P w K mg base 8 "set_again" z4B (z6b Sh))
  (P7:D7 P w K mg base 8 A1 "shelf" z2Z (z5w Bk Sh)) (C2:D7 P w K mg base 7 A2 "had" z2j (z6s Sh)):A8 P w K mg base CX0 9 f fd z2O (z9i Bk):=by
 have nd:=z4P.nd
 refine F.ok z4P (fun vs H Q E h=>?_) (fun cdv A outer s H vs Q E hr h=>?_)
 ·obtain⟨x,l,ln,lr,fp,nm,r,k,rows,log,us,ws,rd,d,rfl,_⟩:=h
  rfl
 obtain⟨x,l,ln,lr,fp,nm,r,k,rows,log,us,ws,rd,d,rfl,bk,el,pl,hd,rd1,rd2,inL,r60,eN,gn,er,tl,R,r0,r10,q⟩:=h
 refine⟨_,(z04 (z0k (i:=7) nd rfl (Or.inl rfl) (z1W P7 (rm hr) (pv 0) (z00 (pv 2) (z00 (pv 3) z02)))) (z04 (z0k (i:=8) nd rfl (Or.inl rfl) (z0l N8 (rm hr) rfl (z00 (pv 1) (z00 (pv 2) (z00 (pv 3) z02))))) (z04 (z0H (z4A (z41 (z0l B9 (rm hr) rfl (z00 (z2s C2 (rm hr) (pv 7)) (z00 (z0v z0p rfl M.tuple bT (z00 (pv 8) z02)) z02))))) (z05 (z0d z3v)) z0j) (z04 (z0H (z4A (z41 (z0l B9 (rm hr) rfl (z00 (z0l R4 (rm hr) rfl (z00 (pv 7) z02)) (z00 (z0l P9 (rm hr) rfl (z00 (pv 4) (z00 (pv 8) (z00 (pv 5) (z00 (pv 6) z02))))) z02))))) (z05 (z0d z3v)) z0j) (z04 (z0k (i:=9) nd rfl (Or.inl rfl) (z0l K1 (rm hr) rfl (z00 (pv 8) (z00 (pv 5) (z00 (pv 6) z02))))) (z04 (z0k (i:=10) nd rfl (Or.inl rfl) (z0N z0L (pv 4) (z0e z0I (pv 3) (z09 z07 rfl M.len bD (z00 (pv 4) z02))) (fun _ _=>rfl))) (z04 (z0k (i:=11) nd rfl (Or.inl rfl) (z0l J0 (rm hr) rfl (z00 (pv 9) (z00 (z0N z19 (z0l K5 (rm hr) rfl (z00 (pv 8) (z00 (pv 5) (z00 (pv 10) z02)))) z06 (fun _ _=>rfl)) (z00 (pv 10) z02))))) (z05 (z0d (y79 (z0l B9 (rm hr) rfl (z00 (z0l N5 (rm hr) rfl (z00 (pv 7) z02)) (z00 (z0v z0p rfl M.tuple bT (z00 (pv 9) z02)) z02))) (y7G (z0l B9 (rm hr) rfl (z00 (z0l K3 (rm hr) rfl (z00 (pv 7) (z00 (pv 10) z02))) (z00 (pv 11) z02)))))))))))))),?_⟩
 have n12:=gn.hi
 have n1:=gn.lo
 have W5:∀w∈rows,w.length≤12:=fun w hw=>by
  have:=(R.sub w hw).length_le
  rw[b6] at this
  lia
 have in60:∀y∈log,1≤y.2/\y.2≤60:=fun y hy=>by have:=inL y hy;lia
 have Z4:∀n∈O5 (log.take d) rd,1≤n/\n≤rows.length:=fun n hn=>inL _ (dE (y1t.mp hn))
 obtain⟨d2,g2,z2,w2⟩:=O.ins bk
 refine⟨_,rfl,x,d2,g2,rfl,z2,w2 _ (by simp),_,rfl,_,rfl,x,fp,nm,r,k,_,log,rd,some d,rfl,bk,rd1,rd2,(fun d' h=>by cases h;exact hd),fun x1 fq G1 fn s1 sh=>?_⟩
 have sh1:Sh G1 x1 fq nm r (fun n=>z18 rows n r) (O5 (log.take d) rd):=sh
 refine⟨_,rfl,_,rfl,_,rfl,l,us,log,rd,d,rfl,s1 _ _ el,C3.keep s1 pl,hd,in60,fun lh G2 nlh s2 e2=>?_⟩
 have c2:=s1.trans s2
 have sh2:=OS.same sh1 s2
 generalize O5 (log.take d) rd=had at Z4 sh2 e2
 have h60:∀n∈z0u had,1≤n/\n≤60:=fun n hn=>by have:=Z4 n (z24.mp hn).2;lia
 have hrr:∀n∈z0u had,n≤rows.length:=fun n hn=>(Z4 n (z24.mp hn).2).2
 have l60:=z7u had
 have ndr:(z0u had).Nodup:=(z3r had).imp (fun h=>Int.ne_of_lt h)
 obtain⟨d3,g3,z3,w3⟩:=OS.ins sh2
 refine⟨_,rfl,x1,d3,g3,rfl,z3,w3 _ (by simp),x1,fq,nm,r,_,_,rfl,sh2,fun lt G3 s3 e3=>?_⟩
 refine⟨_,rfl,lh,_,rfl,.inl ⟨SqL.of (s3 _ _ e2),fun t2 ht2=>?_⟩⟩
 have tin:∀{X:Hp}{t:Addr},X t=some (.tup ((z0u had).map V.int))->A9 X (.tup ((z0u had).map DV.int)) (.ref t):=fun {X t} e=>z0o e (by rw[b6];lia) (z4L _)
 refine⟨.ref lt,.ref t2,rfl,(z1m _ _ _ (tin (z01 ht2 _ _ _ e3)) (tin z03)).mono ?_,fun G4 t4=>⟨_,rfl,C8 ?_⟩⟩
 ·refine c9 (z16 (n:=0) fun d hd=>?_) (by decide)
  obtain⟨i,_,rfl⟩:=cF.mp hd
  exact z1s _ _
 have c24:=s3.trans ((z01 ht2 (.tup ((z0u had).map V.int))).trans t4)
 have c4:=c2.trans c24
 have e24:=c24 _ _ e2
 have sh4:=OS.same sh2 c24
 clear c24 t4 ht2 e3 e2 s3 sh2 z3 w3 s1 sh1 sh s2 nlh c2
 refine⟨_,rfl,x1,fq,nm,r,rows,had,rfl,sh4,gn,R,r60,Z4,r0,r10,fun v1 G5 t5 tv1=>?_⟩
 refine⟨_,rfl,_,rfl,_,rfl,_,rfl,ln,lh,lr,nm,z0u had,ws,rows,r,rfl,SqL.of ((c4.trans t5) _ _ eN),n12,t5 _ _ e24,by lia,ndr,h60,hrr,SqL.of ((c4.trans t5) _ _ er),z0b.keep (c4.trans t5) _ _ tl,W5,r0,fun v2 G6 t6 tv2=>?_⟩
 refine⟨v1,v2,rfl,(z1m _ _ _ (A9.keep t6 _ _ tv1) tv2).mono (c9 (y2t _ _ _ _) (by decide)),fun G7 t7=>⟨_,rfl,C8 ?_⟩⟩
 have c47:=t5.trans (t6.trans t7)
 have c7:=c4.trans c47
 have e27:=c47 _ _ e24
 have sh7:=OS.same sh4 c47
 clear c47 tv1 tv2 t5 t6 t7 sh4 e24 c4
 refine⟨_,rfl,_,rfl,_,rfl,lh,lr,z0u had,ws,rows,r,rfl,e27,h60,by lia,hrr,SqL.of (c7 _ _ er),z0b.keep c7 _ _ tl,W5,r0,fun lg gz G8 nlg t8 eg tg=>?_⟩
 have c8:=c7.trans t8
 have m0:0≤(d:Int)%(nm.length:Int):=cJ _ (by lia)
 have m2:(d:Int)%(nm.length:Int)<nm.length:=cA _ (by lia)
 obtain⟨z,hz,av⟩:=y6m (nm:=nm) m0 m2
 refine⟨_,rfl,_,rfl,_,rfl,ln,_,rfl,.inl (SqL.of (c8 _ _ eN)),_,_,rfl,rfl,(by rw[b6];show(0:Int)<nm.length;lia),ln,_,_,_,rfl,rfl,SqL.of (c8 _ _ eN),(by rw[b6];exact av),?_⟩
 refine⟨_,rfl,_,rfl,_,rfl,_,rfl,lh,lr,z0u had,ws,rows,z,rfl,SqL.of (t8 _ _ e27),by lia,ndr,h60,hrr,SqL.of (c8 _ _ er),z0b.keep c8 _ _ tl,fun v3 G9 t9 tv3=>?_⟩
 obtain⟨a3,y3,rfl,ea3,_⟩:=z5z tv3
 rw[z8q] at ea3
 refine⟨a3,_,0,_,rfl,rfl,SqT.of ea3,rfl,_,rfl,lg,gz,z0u had,rows,r,_,z,rfl,SqL.of (t9 _ _ eg),z0b.keep t9 _ _ tg,fun v4 G10 t10 tv4=>?_⟩
 have w0p:=t9.trans t10
 have c10:=c8.trans w0p
 have sh10:=OS.same sh7 (t8.trans w0p)
 have eg10:=w0p _ _ eg
 have tg10:=z0b.keep w0p _ _ tg
 refine⟨_,rfl,x1,fq,nm,r,rows,had,rfl,sh10,gn,R,r60,Z4,r0,r10,fun v5 G11 t11 tv5=>?_⟩
 refine⟨_,rfl,lg,_,rfl,.inl ⟨SqL.of (t11 _ _ eg10),fun tk htk=>?_⟩⟩
 have lz:gz.length≤60:=by
  rw[z5q tg]
  exact z2x _
 have tt:A9 (upd G11 tk (.tup gz)) (.tup (z6W (z0u had) rows r)) (.ref tk):=z0o z03 (by rw[<- tg.length];lia) (z0b.keep (t11.trans (z01 htk _)) _ _ tg10)
 refine⟨v5,.ref tk,rfl,(z1m _ _ _ (A9.keep (z01 htk _) _ _ tv5) tt).mono (c9 (y3f _ _ _) (by decide)),fun G12 t12=>?_⟩
 have w0g:=t11.trans ((z01 htk (.tup gz)).trans t12)
 refine⟨_,rfl,J5 ?_⟩
 refine⟨_,rfl,_,rfl,x1,z,fq,nm,r,rows,had,rfl,OS.same sh10 w0g,hz,gn,R,r60,Z4,r0,r10,fun v6 G13 t13 tv6=>?_⟩
 exact⟨_,rfl,v6,v4,rfl,(z1m _ _ _ tv6 (A9.keep (w0g.trans t13) _ _ tv4)).mono (c9 (y2n _ _ _ _ _) (by decide)),fun G14 t14=>q _ (c10.trans (w0g.trans (t13.trans t14)))⟩
theorem len9{p:List Value->Prop}{us:List Value}(hl:us.length=9)(h:∀a b c d e g i j k,p [a,b,c,d,e,g,i,j,k]):p us:=by
 rcases us with _|⟨a,us⟩
 ·cases hl
 rcases us with _|⟨b,us⟩
 ·cases hl
 rcases us with _|⟨c,us⟩
 ·cases hl
 rcases us with _|⟨d,us⟩
 ·cases hl
 rcases us with _|⟨e,us⟩
 ·cases hl
 rcases us with _|⟨g,us⟩
 ·cases hl
 rcases us with _|⟨i,us⟩
 ·cases hl
 rcases us with _|⟨j,us⟩
 ·cases hl
 rcases us with _|⟨k,us⟩
 ·cases hl
 rcases us with _|⟨m,us⟩
 ·exact h a b c d e g i j k
 ·exact absurd hl (by simp)
theorem b9{x q:Str}{st:Stmt}{p1 p2 p3 p4 p5 p6 p7 p8 p9:Str}(F:Fun K x q st f fd)(h:∀kV doc pm an cdv ct a b c d e g i j k,bindArgs (PySem.W.fnOf x q (z1w st) (z1k st) (z08 st) .none kV doc pm an cdv ct) ⟨[a,b,c,d,e,g,i,j,k],[]⟩=pure (List.zip [p1,p2,p3,p4,p5,p6,p7,p8,p9] [a,b,c,d,e,g,i,j,k]):=by intros;rfl):z1u K fd [p1,p2,p3,p4,p5,p6,p7,p8,p9] []:=
 F.binds fun kV doc pm an cdv ct us hl=>len9 (p:=fun us=>bindArgs _ ⟨us,[]⟩=pure (List.zip _ us)) hl (h kV doc pm an cdv ct)
structure T8(Bk:BkP)(G:Hp)(x l lr:Addr)(fp:List Addr)(nm:List Str)(r k:Int)(rows:List Row)(log:List B7):Prop where
 bk:Bk G x fp nm r k rows log
 nl:l∉fp
 nr:lr∉fp
 ne:l≠lr
 l6:rows.length≤60
 inL:∀d∈log,1≤d.2/\d.2≤rows.length
 R:Rws nm rows
 st:∃us ws,G l=some (.lst us)/\Paired (z2e G) us log/\G lr=some (.lst ws)/\z0b G (rows.map O4) ws
theorem T8.same{A1:Addr}{ms:List Str}{Bk:BkP}(O:V6 A1 ms Bk){G G':Hp}{x l lr:Addr}{fp:List Addr}{nm:List Str}{r k:Int}{rows:List Row}{log:List B7}(B:T8 Bk G x l lr fp nm r k rows log)(s:A4 G G'):T8 Bk G' x l lr fp nm r k rows log:=by
 obtain⟨us,ws,h1,h2,h3,h4⟩:=B.st
 exact⟨O.same B.bk s,B.nl,B.nr,B.ne,B.l6,B.inL,B.R,us,ws,s _ _ h1,C3.keep s h2,s _ _ h3,z0b.keep s _ _ h4⟩
theorem z7f(z:Str):(Y6 z).deep≤1:=z16 fun d hd=>by
 rcases bC.mp hd with rfl|hd
 ·exact z37 _ _
 ·rw[bA.mp hd]
  exact z37 _ _
theorem y1H{K:PySem.W.Frag}{H:Hp}:∀{us:List V}{log:List B7},Paired (z2e H) us log->Paired (fun u ys=>∃b,u=.ref b/\SqT K H b ys/\ys.all z1t=true) us (log.map z2G)
 | _,_,.nil=>.nil
 | _,_,.cons ⟨b,e,q⟩ t=>.cons ⟨b,e,SqT.of q,z5y _⟩ (y1H t)
theorem y5d{log:List B7}{d:B7}:∃j,j<(log++[d]).length/\(log++[d])[j]? = some d/\(∀m e,m<j->(log++[d])[m]? = some e->e≠d)/\(j=log.length↔d∉log):=by
 by_cases h:d∈log
 ·induction log with
  | nil=>cases h
  | cons e log ih=>
   by_cases he:e=d
   ·subst he
    refine⟨0,by simp,rfl,fun m e' hm=>absurd hm (fR _),fun q=>?_,fun q=>absurd bX q⟩
    simp at q
   ·have h':d∈log:=(bC.mp h).resolve_left fun q=>he q.symm
    obtain⟨j,h1,h2,h3,h4⟩:=ih h'
    refine⟨j+1,by simp at h1 ⊢;lia,h2,fun m e' hm em=>?_,fun q=>?_,fun q=>absurd h q⟩
    ·cases m with
     | zero=>
      have:e=e':=Option.some.inj em
      rw[<- this]
      exact he
     | succ m=>exact h3 m e' (by lia) em
    ·exact absurd h' (h4.mp (by simp at q;lia))
 ·refine⟨log.length,by simp,by simp,fun m e hm em=>?_,fun _=>h,fun _=>rfl⟩
  rw[dN hm] at em
  intro q
  subst q
  exact h (bZ em)
noncomputable def y5R(K:PySem.W.Frag)(Bk:BkP):Sp:=fun vs H Q _=>∃(x l lr ln:Addr) (v:V) (fp:List Addr) (nm:List Str) (r k:Int) (rows:List Row) (log:List B7) (gd:Row) (kd c:Int),vs=[.ref x,.ref l,.ref lr,v,.ref ln,.int r,.int k,.int kd,.int c]/\T8 Bk H x l lr fp nm r k rows log/\H ln=some (.lst (nm.map V.str))/\ln∉fp/\ln≠l/\ln≠lr/\J8 nm/\Nms nm/\
 A9 H (O4 gd) v/\(gd.map Prod.fst).Sublist nm/\(∀p∈gd,0≤p.2/\p.2≤1000000)/\1≤k/\k≤10/\0≤r/\r≤10/\log.length<400/\
 ∀(fp':List Addr) (V1:List Row) (log':List B7) (H':Hp),(∀b∈fp',b∈fp\/H b=none)->z0t (l::lr::fp) H H'->T8 Bk H' x l lr fp' nm r k V1 log'->log'.length≤log.length+1->Q (.bl true) H'
theorem y6c(M:Bl mg)(F:Fun K "_law_step" "_law_step" z6o f fd){A1:Addr}{Bk:BkP}(O:V6 A1 ["write","deliver","latest","issue","deeds","deed","shelf"] Bk)
  (B9:Cal P w K mg base 6 "_law_same" z1M (z7z 6)) (O6:Cal P w K mg base 2 "_law_spoilt" z4q (y1k K)) (N3:Cal P w K mg base 1 "_law_refusal" z3C (y0g K)) (O1:Cal P w K mg base 7 "_law_done" z6n (y2F K Bk)) (E4:Cal P w K mg base 9 "_law_seen_at" z2O (z9i Bk)) :
  A8 P w K mg base CX0 10 f fd z6m (y5R K Bk):=by
 have nd:=z7l.nd
 refine F.ok z7l (fun vs H Q E h=>?_) (fun cdv A outer s H vs Q E hr h=>?_)
 ·obtain⟨x,l,lr,ln,v,fp,nm,r,k,rows,log,gd,kd,c,rfl,_⟩:=h
  rfl
 obtain⟨x,l,lr,ln,v,fp,nm,r,k,rows,log,gd,kd,c,rfl,B,eN,nN,nNl,nNr,gn,N,tv,gs,gv,k1,k10,r0,r10,w0I,q⟩:=h
 refine⟨_,(z04 (z0H (z0a z43 (pv 7) z06 (z0h _)) (z6e (z0k (i:=9) nd rfl (Or.inl rfl) (z9x (z0a z2y (z0e z0I (pv 8) z06) z06 (z0h _)) (pv 8) (z0e z5s (z0e z0K (pv 8) z06) z06))) (z04 (z0k (i:=10) nd rfl (Or.inl rfl) (z0l O6 (rm hr) rfl (z00 (pv 3) (z00 (pv 4) (z00 (pv 9) z02))))) (z04 (z0k (i:=11) nd rfl (Or.inl rfl) (z0l N3 (rm hr) rfl (z00 (pv 10) (z00 (pv 4) z02)))) (z6e (z0H (z0a y3F (z09 z07 rfl M.len bD (z00 (pv 2) z02)) z06 (z0h _)) (z05 (z0k (i:=11) nd rfl (Or.inl rfl) z0F)) z0j) (z04 (z0k (i:=12) nd rfl (Or.inl rfl) (z0l O1 (rm hr) rfl (z00 z0F (z00 (pv 0) (z00 (pv 10) (z00 z06 z02)))))) (z04 (z0H (z0a z86 (pv 11) z0F (z0h _)) (z05 (z0d (z0l B9 (rm hr) rfl (z00 (pv 12) (z00 (z0X (z00 z0F (z00 (pv 11) z02))) z02))))) z0j) (z04 (z0x (z26 bJ bQ bS z0G (pv 2) (z00 (pv 3) z02))) (z04 (z0x (z26 bJ bQ bS z0G (pv 1) (z00 (z0X (z00 z0F (z00 (z09 z07 rfl M.len bD (z00 (pv 2) z02)) z02))) z02))) (z05 (z0d (z0l B9 (rm hr) rfl (z00 (pv 12) (z00 (z09 z07 rfl M.len bD (z00 (pv 2) z02)) z02))))))))))))) z0j) (z04 (z0H (z0a z43 (pv 7) z06 (z0h _)) (z04 (z0k (i:=13) nd rfl (Or.inl rfl) (z0e z0I (pv 8) (z0e z1q (pv 6) z06))) (z04 (z0k (i:=14) nd rfl (Or.inl rfl) (z0e z0I (z0e z0K (pv 8) z06) (z0e z1q (z09 z07 rfl M.len bD (z00 (pv 2) z02)) z06))) (z04 (z0k (i:=12) nd rfl (Or.inl rfl) (z0l O1 (rm hr) rfl (z00 z0F (z00 (pv 0) (z00 (pv 13) (z00 (pv 14) z02)))))) (z04 (z0H (PW.pt (z3n (z0a z43 (pv 14) z06 (z0h _)) (z22 (z0a z1N (pv 14) (z09 z07 rfl M.len bD (z00 (pv 2) z02)) (z0h _))))) (z05 (z0d (z0l B9 (rm hr) rfl (z00 (pv 12) (z00 (z0X (z00 z0F (z00 z0F z02))) z02))))) z0j) (z04 (z0H (PW.pt (z3n (z0a z43 (pv 13) z06 (z0h _)) (z22 (z0a z1N (pv 13) (pv 6) (z0h _))))) (z05 (z0d (z0l B9 (rm hr) rfl (z00 (pv 12) (z00 (z0X (z00 z0F (z00 z0F z02))) z02))))) z0j) (z04 (z0x (z26 bJ bQ bS z0G (pv 1) (z00 (z0X (z00 z0F (z00 (pv 13) (z00 (pv 14) z02)))) z02))) (z05 (z0d (z0l B9 (rm hr) rfl (z00 (pv 12) (z00 (z9y z2y (z26 bJ PySem.F.slot_list_index PySem.F.type_list_index (y3E (dR (Nat.add_le_add_left (by decide:1≤64) _) hr.units)) (pv 1) (z00 (z0N z0L (pv 1) (y0B z7S z06) (fun _ _=>rfl)) z02)) (z0e z2J (z09 z07 rfl M.len bD (z00 (pv 1) z02)) z06) (z0h _)) z02))))))))))) z0j) (z04 (z0k (i:=15) nd rfl (Or.inl rfl) (z0e z0I (z0e z0K (pv 8) z06) (z0e z1q (z09 z07 rfl M.len bD (z00 (pv 1) z02)) z06))) (z05 (z0d (z0l E4 (rm hr) rfl (z00 (pv 0) (z00 (pv 1) (z00 (z0e z1q z06 (z0e z0I (pv 8) (pv 6))) (z00 (pv 15) (z00 (pv 4) (z00 (pv 2) (z00 (pv 5) z02))))))))))))),?_⟩
 obtain⟨us,ws,el,pl,er,tl⟩:=B.st
 have lus:=z1F pl
 have lws:ws.length=rows.length:=by rw[tl.length,b6]
 have l6:=B.l6
 have g12:gd.length≤12:=by
  have:=gs.length_le
  rw[b6] at this
  have:=gn.hi
  lia
 refine⟨_,rfl,_,_,rfl,rfl,_,rfl,B6 (fun _=>?_) (fun _=>?_)⟩
 ·refine⟨fun σ' G=>H=G/\∃code:Int,σ'=[some (.ref x),some (.ref l),some (.ref lr),some v,some (.ref ln),some (.int r),some (.int k),some (.int kd),some (.int c),some (.int code),none,none,none,none,none,none],?_,?_⟩
  ·refine⟨_,rfl,_,_,rfl,rfl,(by show(0:Int)<3;decide),rfl,_,rfl,B6 (fun _=>⟨_,rfl,rfl,_,rfl⟩) (fun _=>⟨_,rfl,_,_,rfl,rfl,⟨by decide,by decide⟩,_,_,rfl,rfl,.inr ⟨by decide,by decide⟩,rfl,_,rfl⟩)⟩
  rintro σ' _ ⟨rfl,code,rfl⟩
  refine⟨_,rfl,_,rfl,_,rfl,ln,v,nm,gd,code,rfl,tv,g12,fun p hp=>gs.subset (gY hp),SqL.of eN,gn.lo,gn.hi,N,fun lh uh pr G t nlh eh ph l16 nok ginj=>?_⟩
  have nh:lh∉fp:=fun mm=>by obtain⟨o,e,_⟩:=O.own B.bk _ mm;rw[nlh] at e;cases e
  have fr:∀{b:Addr},H b=none->b∉fp:=fun e mm=>by obtain⟨o,e1,_⟩:=O.own B.bk _ mm;rw[e1] at e;cases e
  have luh:uh.length=pr.length:=ph.length
  have nok':∀p∈pr,p.1.length≤1000/\Low p.1:=fun p hp=>⟨c9 (nok p hp).1 (by decide),(nok p hp).2⟩
  refine⟨_,rfl,_,rfl,lh,ln,uh,pr,nm,rfl,eh,HL.row ph,by lia,SqL.of (t _ _ eN),fun zz G3 t3 rw3=>?_⟩
  have g3:=t.trans t3
  have key:rows.length<60->(∃i,w1c nm rows pr i/\zz=z8T.getD i ""/\zz≠"")\/(GoodR nm pr/\zz=""):=fun h=>by
   rcases rw3 with ⟨h1,rfl⟩|⟨h1,h2,rfl⟩|⟨h1,h2,h3,rfl⟩|⟨h1,rfl⟩
   ·exact .inl ⟨1,.inr ⟨h,.inl ⟨h1,rfl⟩⟩,rfl,by decide +kernel⟩
   ·exact .inl ⟨2,.inr ⟨h,.inr (.inl ⟨h1,h2,rfl⟩)⟩,rfl,by decide +kernel⟩
   ·exact .inl ⟨3,.inr ⟨h,.inr (.inr ⟨h1,h2,h3,rfl⟩)⟩,rfl,by decide +kernel⟩
   ·exact .inr ⟨h1,rfl⟩
  refine⟨fun σ' G=>∃(due:Str),A4 G3 G/\((∃i,w1c nm rows pr i/\due=z8T.getD i ""/\due≠"")\/(GoodR nm pr/\due=""/\rows.length<60))/\σ'=[some (.ref x),some (.ref l),some (.ref lr),some v,some (.ref ln),some (.int r),some (.int k),some (.int kd),some (.int c),some (.int code),some (.ref lh),some (.str due),none,none,none,none],?_,?_⟩
  ·refine⟨_,rfl,lr,ws,rfl,.inl (SqL.of (g3 _ _ er)),_,_,rfl,rfl,_,rfl,B6 (fun hl=>?_) (fun hl=>?_)⟩
   ·exact⟨_,A4.refl _,.inl ⟨0,.inl ⟨by have:=z0Q hl;lia,rfl⟩,rfl,by decide +kernel⟩,rfl⟩
   have h60:rows.length<60:=by have:=z46 hl;lia
   exact⟨zz,A4.refl _,(key h60).imp id (fun h=>⟨h.1,h.2,h60⟩),rfl⟩
  clear rw3 key
  rintro σ' G4 ⟨due,t4,hdue,rfl⟩
  have g4:=g3.trans t4
  have t34:=t3.trans t4
  have eh4:=t34 _ _ eh
  have ph4:=HL.keep t34 ph
  have B4:=B.same O g4
  clear eh ph t3 g3 t4
  rcases hdue with ⟨i,du,hd,hne⟩|⟨gr,rfl,h60⟩
  ·refine⟨_,rfl,_,rfl,"write",x,.ref lh,.int 0,fp,nm,r,k,rows,log,rfl,B4.bk,.inr (.inl ⟨rfl,lh,uh,pr,i,rfl,.inl (SqL.of eh4),O0.hand (HL.row ph4),by lia,nok',.inl du,fun u G5 t5 tu=>?_⟩)⟩
   rw[<- hd] at tu
   refine⟨_,rfl,rfl,_,rfl,B6 (fun _=>?_) (fun h=>absurd (by rw[decide_eq_false (fun e=>hne (V.str.inj e))];rfl) h)⟩
   refine⟨_,rfl,_,rfl,(by show 2≤sizeLine;decide),fun tt htt=>⟨u,.ref tt,rfl,(z1m _ _ _ (A9.keep (z01 htt _) _ _ tu) (z0o (ds:=[.str "refused",.str due]) z03 (by show 2≤1000000;decide) (.cons (z0E _) (.cons (z0E _) .nil)))).mono (c9 (z7f due) (by decide)),fun G6 t6=>?_⟩⟩
   have t46:=t5.trans ((z01 htt (.tup [V.str "refused",V.str due])).trans t6)
   exact q fp rows log G6 (fun b hb=>.inl hb) (.of (g4.trans t46)) (B4.same O t46) (dO _)
  have epr:=ginj gr
  subst epr
  have no:∀{b:Addr},H b=none->b∉fp:=fr
  refine⟨_,rfl,_,rfl,"write",x,.ref lh,.int 0,fp,nm,r,k,rows,log,rfl,B4.bk,.inl ⟨rfl,pr,⟨lh,uh,rfl,.inl (SqL.of eh4),nh,HL.hand no ph4⟩,gr,by lia,h60,w0I,fun fp2 G5 hf2 b5 bk5=>?_⟩⟩
  rw[z5i N.nd gs] at bk5
  have el5:=b5 _ _ (g4 _ _ el) B.nl
  have er5:=b5 _ _ (g4 _ _ er) B.nr
  have nt4:z4n G4 fp:=O.V0 B4.bk
  have pl5:=C3.but b5 nt4 (C3.keep g4 pl)
  have tl5:=z0b.but b5 nt4 _ _ (z0b.keep g4 _ _ tl)
  have nl2:l∉fp2:=fun mm=>(hf2 l mm).elim B.nl fun z=>by rw[g4 _ _ el] at z;cases z
  have nr2:lr∉fp2:=fun mm=>(hf2 lr mm).elim B.nr fun z=>by rw[g4 _ _ er] at z;cases z
  have b05:z0t fp H G5:=fun b o e n=>b5 b o (g4 _ _ e) n
  refine⟨_,rfl,rfl,_,rfl,B6 (fun h=>absurd h (by rw[decide_eq_true rfl];decide)) (fun _=>?_)⟩
  have tv5:=A9.but b5 nt4 _ _ (A9.keep g4 _ _ tv)
  refine⟨_,rfl,.inl ⟨rfl,_,SqL.of er5⟩,_,rfl,lr,ws,_,rfl,rfl,er5,z0i (by lia),?_⟩
  have sb7:z0t [lr] G5 (upd G5 lr (.lst (ws++[v]))):=fun b o e n=>by rw[z0f (fun h=>n (bA.mpr h))];exact e
  have nb7:z4n G5 [lr]:=fun b hb xs e=>by rw[bA.mp hb,er5] at e;cases e
  have bk7:=O.keep (bk5) sb7 (fun b hb=>by rw[bA.mp hb];exact nr2) nb7
  have er7:upd G5 lr (.lst (ws++[v])) lr=some (.lst (ws++[v])):=z03
  have tl7:z0b (upd G5 lr (.lst (ws++[v]))) ((rows++[pr]).map O4) (ws++[v]):=by
   rw[bI]
   exact z0b.snoc (z0b.but sb7 nb7 _ _ (tl5)) (A9.but sb7 nb7 _ _ tv5)
  have el7:=sb7 _ _ el5 (fun h=>B.ne (bA.mp h))
  have pl7:=C3.but sb7 nb7 pl5
  have b07:z0t (l::lr::fp) H (upd G5 lr (.lst (ws++[v]))):=fun b o e n=>sb7 b o ((b05 b o e fun h=>n (bP _ (bP _ h)))) fun h=>n (by rw[bA.mp h];simp)
  generalize upd G5 lr (.lst (ws++[v]))=G7 at bk7 er7 tl7 el7 pl7 b07 ⊢
  clear sb7 nb7 tv5
  have lw7:(ws++[v]).length=rows.length+1:=by rw[bF,lws];rfl
  refine⟨_,rfl,.inl ⟨rfl,_,SqL.of el7⟩,_,rfl,lr,_,rfl,.inl (SqL.of er7),(by show 2≤sizeLine;decide),fun tw htw=>⟨l,us,_,rfl,rfl,z01 htw _ _ _ el7,z0i (by lia),?_⟩⟩
  rw[lw7]
  have t8:=z01 htw (.tup [V.str "write",V.int ((rows.length+1:Nat):Int)])
  have sb9:z0t [l] (upd G7 tw (.tup [V.str "write",V.int ((rows.length+1:Nat):Int)])) (upd (upd G7 tw (.tup [V.str "write",V.int ((rows.length+1:Nat):Int)])) l (.lst (us++[.ref tw]))):=fun b o e n=>by rw[z0f (fun h=>n (bA.mpr h))];exact e
  have nb9:z4n (upd G7 tw (.tup [V.str "write",V.int ((rows.length+1:Nat):Int)])) [l]:=fun b hb xs e=>by rw[bA.mp hb,t8 _ _ el7] at e;cases e
  have bk9:=O.keep (O.same bk7 t8) sb9 (fun b hb=>by rw[bA.mp hb];exact nl2) nb9
  have el9:upd (upd G7 tw (.tup [V.str "write",V.int ((rows.length+1:Nat):Int)])) l (.lst (us++[.ref tw])) l=some (.lst (us++[.ref tw])):=z03
  have etw:upd (upd G7 tw (.tup [V.str "write",V.int ((rows.length+1:Nat):Int)])) l (.lst (us++[.ref tw])) tw=some (.tup [V.str "write",V.int ((rows.length+1:Nat):Int)]):=sb9 _ _ z03 (fun h=>by rw[bA.mp h,el7] at htw;cases htw)
  have pl9:Paired (z2e (upd (upd G7 tw (.tup [V.str "write",V.int ((rows.length+1:Nat):Int)])) l (.lst (us++[.ref tw])))) (us++[.ref tw]) (log++[(none,(rows.length:Int)+1)]):=z2W (C3.but sb9 nb9 (C3.keep t8 pl7)) ⟨tw,rfl,etw⟩
  have er9:=sb9 _ _ (t8 _ _ er7) (fun h=>B.ne (bA.mp h).symm)
  have tl9:=z0b.but sb9 nb9 _ _ (z0b.keep t8 _ _ tl7)
  have b09:z0t (l::lr::fp) H (upd (upd G7 tw (.tup [V.str "write",V.int ((rows.length+1:Nat):Int)])) l (.lst (us++[.ref tw]))):=fun b o e n=>sb9 b o (t8 _ _ (b07 b o e n)) fun h=>n (by rw[bA.mp h];exact bX)
  generalize upd (upd G7 tw (.tup [V.str "write",V.int ((rows.length+1:Nat):Int)])) l (.lst (us++[.ref tw]))=G9 at bk9 el9 pl9 er9 tl9 b09 ⊢
  refine⟨_,rfl,_,rfl,lr,_,rfl,.inl (SqL.of er9),_,_,rfl,.inl ⟨by rw[lw7];rfl,rfl⟩,fun GA tA=>?_⟩
  refine q fp2 (rows++[pr]) (log++[(none,(rows.length:Int)+1)]) GA (fun b hb=>(hf2 b hb).imp id fun z=>g4.free z) (b09.then tA) ⟨O.same bk9 tA,nl2,nr2,B.ne,by rw[bF];show rows.length+1≤60;lia,fun d hd=>?_,⟨fun w hw=>?_,fun w hw p hp=>?_⟩,_,_,tA _ _ el9,C3.keep tA pl9,tA _ _ er9,z0b.keep tA _ _ tl9⟩ (by rw[bF];exact bG _)
  ·rw[bF]
   show 1≤d.2/\d.2≤((rows.length+1:Nat):Int)
   rcases cB.mp hd with h|h
   ·have:=B.inL d h
    lia
   ·rw[bA.mp h]
    show 1≤(rows.length:Int)+1/\(rows.length:Int)+1≤((rows.length+1:Nat):Int)
    lia
  ·rcases cB.mp hw with h|h
   ·exact B.R.sub w h
   ·rw[bA.mp h]
    exact gs
  ·rcases cB.mp hw with h|h
   ·exact B.R.val w h p hp
   ·rw[bA.mp h] at hp
    exact gv p hp
 refine⟨_,rfl,_,_,rfl,rfl,_,rfl,B6 (fun _=>?_) (fun _=>?_)⟩
 ·have fork:∀{A B:Prop} (c:Bool),(c=true->A)->(c=false->B)->if c=true then A else B:=fun c h1 h2=>by
   cases c
   ·exact h2 rfl
   ·exact h1 rfl
  refine⟨_,rfl,_,rfl,_,_,rfl,rfl,_,_,rfl,rfl,by lia,_,rfl,_,_,rfl,rfl,⟨by decide,by decide⟩,_,rfl,lr,ws,rfl,.inl (SqL.of er),_,_,rfl,rfl,_,_,rfl,rfl,by lia,?_⟩
  dsimp only
  generalize c%(k+2)=rd
  generalize c / 12%((ws.length:Int)+2)=n
  by_cases hn:n<1\/(rows.length:Int)<n
  ·refine⟨_,rfl,_,rfl,_,rfl,"deliver",x,.int rd,.int n,fp,nm,r,k,rows,log,rfl,B.bk,.inr (.inr (.inr ⟨rfl,rd,n,4,rfl,rfl,.inl ⟨hn,rfl⟩,fun u G5 t5 tu=>?_⟩))⟩
   have fin:∀(tt:Addr) (htt:G5 tt=none) (G6:Hp),A4 (upd G5 tt (.tup [V.str "refused",V.str "NotWritten"])) G6->Q (.bl true) G6:=fun tt htt G6 t6=>by
    have t46:=t5.trans ((z01 htt (.tup [V.str "refused",V.str "NotWritten"])).trans t6)
    exact q fp rows log G6 (fun b hb=>.inl hb) (.of t46) (B.same O t46) (dO _)
   have ali:∀(tt:Addr) (htt:G5 tt=none),z44 (upd G5 tt (.tup [V.str "refused",V.str "NotWritten"])) 5 u (.ref tt):=fun tt htt=>(z1m _ _ _ (A9.keep (z01 htt _) _ _ tu) (z0o (ds:=[.str "refused",.str "NotWritten"]) z03 (by show 2≤1000000;decide) (.cons (z0E _) (.cons (z0E _) .nil)))).mono (c9 (z7f "NotWritten") (by decide))
   refine⟨_,rfl,_,_,rfl,rfl,_,rfl,fork _ (fun c1=>J5 ?_) (fun c1=>⟨_,rfl,_,rfl,lr,ws,rfl,.inl (SqL.of (t5 _ _ er)),_,_,rfl,rfl,_,rfl,fork _ (fun c2=>?_) (fun c2=>?_)⟩)⟩
   ·exact⟨_,rfl,(by show 2≤sizeLine;decide),fun tt htt=>⟨u,.ref tt,rfl,ali tt htt,fun G6 t6=>fin tt htt G6 t6⟩⟩
   ·exact⟨_,rfl,(by show 2≤sizeLine;decide),fun tt htt=>⟨u,.ref tt,rfl,ali tt htt,fun G6 t6=>fin tt htt G6 t6⟩⟩
   ·exfalso
    have h1:=of_decide_eq_false c1
    have h2:=of_decide_eq_false c2
    lia
  have n1:1≤n:=by lia
  have n2:n≤rows.length:=by lia
  clear hn
  by_cases hrd:rd<1\/k<rd
  ·refine⟨_,rfl,_,rfl,_,rfl,"deliver",x,.int rd,.int n,fp,nm,r,k,rows,log,rfl,B.bk,.inr (.inr (.inr ⟨rfl,rd,n,6,rfl,rfl,.inr ⟨n1,n2,.inl ⟨hrd,rfl⟩⟩,fun u G5 t5 tu=>?_⟩))⟩
   have fin:∀(tt:Addr) (htt:G5 tt=none) (G6:Hp),A4 (upd G5 tt (.tup [V.str "refused",V.str "UnknownReader"])) G6->Q (.bl true) G6:=fun tt htt G6 t6=>by
    have t46:=t5.trans ((z01 htt (.tup [V.str "refused",V.str "UnknownReader"])).trans t6)
    exact q fp rows log G6 (fun b hb=>.inl hb) (.of t46) (B.same O t46) (dO _)
   have ali:∀(tt:Addr) (htt:G5 tt=none),z44 (upd G5 tt (.tup [V.str "refused",V.str "UnknownReader"])) 5 u (.ref tt):=fun tt htt=>(z1m _ _ _ (A9.keep (z01 htt _) _ _ tu) (z0o (ds:=[.str "refused",.str "UnknownReader"]) z03 (by show 2≤1000000;decide) (.cons (z0E _) (.cons (z0E _) .nil)))).mono (c9 (z7f "UnknownReader") (by decide))
   refine⟨_,rfl,_,_,rfl,rfl,_,rfl,fork _ (fun c1=>absurd (of_decide_eq_true c1) (by lia)) (fun _=>⟨_,rfl,_,rfl,lr,ws,rfl,.inl (SqL.of (t5 _ _ er)),_,_,rfl,rfl,_,rfl,fork _ (fun c2=>absurd (of_decide_eq_true c2) (by lia)) (fun _=>?_)⟩)⟩
   refine⟨_,rfl,_,_,rfl,rfl,_,rfl,fork _ (fun c1=>J5 ?_) (fun c1=>⟨_,rfl,_,rfl,_,_,rfl,rfl,_,rfl,fork _ (fun c2=>?_) (fun c2=>?_)⟩)⟩
   ·exact⟨_,rfl,(by show 2≤sizeLine;decide),fun tt htt=>⟨u,.ref tt,rfl,ali tt htt,fun G6 t6=>fin tt htt G6 t6⟩⟩
   ·exact⟨_,rfl,(by show 2≤sizeLine;decide),fun tt htt=>⟨u,.ref tt,rfl,ali tt htt,fun G6 t6=>fin tt htt G6 t6⟩⟩
   ·exfalso
    have h1:=of_decide_eq_false c1
    have h2:=of_decide_eq_false c2
    lia
  have r1:1≤rd:=by lia
  have r2:rd≤k:=by lia
  clear hrd
  refine⟨_,rfl,_,rfl,_,rfl,"deliver",x,.int rd,.int n,fp,nm,r,k,rows,log,rfl,B.bk,.inr (.inr (.inl ⟨rfl,rd,n,rfl,rfl,r1,r2,n1,n2,w0I,fun G5 b5 bk5=>?_⟩))⟩
  have nt:z4n H fp:=O.V0 B.bk
  have el5:=b5 _ _ el B.nl
  have er5:=b5 _ _ er B.nr
  have pl5:=C3.but b5 nt pl
  have tl5:=z0b.but b5 nt _ _ tl
  refine⟨_,rfl,_,_,rfl,rfl,_,rfl,fork _ (fun c1=>absurd (of_decide_eq_true c1) (by lia)) (fun _=>⟨_,rfl,_,rfl,lr,ws,rfl,.inl (SqL.of er5),_,_,rfl,rfl,_,rfl,fork _ (fun c2=>absurd (of_decide_eq_true c2) (by lia)) (fun _=>?_)⟩)⟩
  refine⟨_,rfl,_,_,rfl,rfl,_,rfl,fork _ (fun c1=>absurd (of_decide_eq_true c1) (by lia)) (fun _=>⟨_,rfl,_,rfl,_,_,rfl,rfl,_,rfl,fork _ (fun c2=>absurd (of_decide_eq_true c2) (by lia)) (fun _=>?_)⟩)⟩
  refine⟨_,rfl,.inl ⟨rfl,_,SqL.of el5⟩,_,rfl,_,rfl,(by show 3≤sizeLine;decide),fun tw htw=>⟨l,us,_,rfl,rfl,z01 htw _ _ _ el5,z0i (by lia),?_⟩⟩
  have t8:=z01 htw (.tup [V.str "deliver",V.int rd,V.int n])
  have sb9:z0t [l] (upd G5 tw (.tup [V.str "deliver",V.int rd,V.int n])) (upd (upd G5 tw (.tup [V.str "deliver",V.int rd,V.int n])) l (.lst (us++[.ref tw]))):=fun b o e n=>by rw[z0f (fun h=>n (bA.mpr h))];exact e
  have nb9:z4n (upd G5 tw (.tup [V.str "deliver",V.int rd,V.int n])) [l]:=fun b hb xs e=>by rw[bA.mp hb,t8 _ _ el5] at e;cases e
  have bk9:=O.keep (O.same bk5 t8) sb9 (fun b hb=>by rw[bA.mp hb];exact B.nl) nb9
  have el9:upd (upd G5 tw (.tup [V.str "deliver",V.int rd,V.int n])) l (.lst (us++[.ref tw])) l=some (.lst (us++[.ref tw])):=z03
  have etw:upd (upd G5 tw (.tup [V.str "deliver",V.int rd,V.int n])) l (.lst (us++[.ref tw])) tw=some (.tup [V.str "deliver",V.int rd,V.int n]):=sb9 _ _ z03 (fun h=>by rw[bA.mp h,el5] at htw;cases htw)
  have plo:=C3.but sb9 nb9 (C3.keep t8 pl5)
  have er9:=sb9 _ _ (t8 _ _ er5) (fun h=>B.ne (bA.mp h).symm)
  have tl9:=z0b.but sb9 nb9 _ _ (z0b.keep t8 _ _ tl5)
  have b09:z0t (l::lr::fp) H (upd (upd G5 tw (.tup [V.str "deliver",V.int rd,V.int n])) l (.lst (us++[.ref tw]))):=fun b o e n=>sb9 b o (t8 _ _ (b5 b o e fun h=>n (bP _ (bP _ h)))) fun h=>n (by rw[bA.mp h];exact bX)
  generalize upd (upd G5 tw (.tup [V.str "deliver",V.int rd,V.int n])) l (.lst (us++[.ref tw]))=G9 at bk9 el9 plo er9 tl9 b09 etw ⊢
  have pln:Paired (z2e G9) (us++[.ref tw]) (log++[(some rd,n)]):=z2W plo ⟨tw,rfl,etw⟩
  obtain⟨j,j1,j2,j3,j4⟩:=y5d (log:=log) (d:=((some rd,n):B7))
  have gj:∀(m:Nat) (e:B7),(log++[((some rd,n):B7)])[m]? = some e->((log++[((some rd,n):B7)]).map z2G).getD m []=z2G e:=fun m e he=>by
   rw[bV,bL,he]
   rfl
  refine⟨_,rfl,_,rfl,.inl ⟨rfl,_,SqL.of el9⟩,_,rfl,_,rfl,l,_,_,_,rfl,rfl,SqL.of el9,y59 _ _,l,us++[.ref tw],tw,_,(log++[((some rd,n):B7)]).map z2G,j,rfl,rfl,SqL.of el9,SqT.of etw,z5y (some rd,n),y1H pln,by rw[b6];exact j1,?_,fun m hm=>?_,?_⟩
  ·rw[gj j _ j2]
   exact(z8Z _ _ _).trans (decide_eq_true rfl)
  ·obtain⟨e,he⟩:∃e,(log++[((some rd,n):B7)])[m]? = some e:=⟨_,bH (by lia)⟩
   rw[gj m e he]
   exact(z8Z _ _ _).trans (decide_eq_false (j3 m e hm he))
  have ej:decide (V.int (j:Int)=V.int (((us++[V.ref tw]).length:Int)-1))=decide (((some rd,n):B7)∉log):=decide_eq_decide.mpr ⟨fun h=>j4.mp (by
   have h2:=V.int.inj h
   rw[bF,lus] at h2
   have:((log.length+1:Nat):Int)-1=log.length:=by lia
   rw[show log.length+[V.ref tw].length=log.length+1 from rfl,this] at h2
   exact Int.ofNat.inj h2),fun h=>by
   rw[j4.mpr h,bF,lus,show log.length+[V.ref tw].length=log.length+1 from rfl]
   exact congrArg V.int (by lia)⟩
  refine⟨_,rfl,l,_,rfl,.inl (SqL.of el9),_,_,rfl,rfl,rfl,_,_,rfl,.inl ⟨?_,?_⟩,fun GA tA=>?_⟩
  ·exact congrArg V.bl ej.symm
  ·rfl
  refine q fp rows (log++[(some rd,n)]) GA (fun b hb=>.inl hb) (b09.then tA) ⟨O.same bk9 tA,B.nl,B.nr,B.ne,l6,fun d hd=>?_,B.R,_,_,tA _ _ el9,C3.keep tA pln,tA _ _ er9,z0b.keep tA _ _ tl9⟩ (by rw[bF];exact bG _)
  rcases cB.mp hd with h|h
  ·exact B.inL d h
  ·rw[bA.mp h]
   exact⟨n1,n2⟩
 refine⟨_,rfl,_,_,rfl,rfl,⟨by decide,by decide⟩,_,rfl,l,us,rfl,.inl (SqL.of el),_,_,rfl,rfl,_,_,rfl,rfl,by lia,?_⟩
 dsimp only
 obtain⟨d,hd⟩:∃d:Nat,c / 12%((us.length:Int)+1)=d:=⟨(c / 12%((us.length:Int)+1)).toNat,(Int.toNat_of_nonneg (cJ _ (by lia))).symm⟩
 have hd2:=cA (c / 12) (show(0:Int)<(us.length:Int)+1 by lia)
 rw[hd] at hd2 ⊢
 have ck1:=cJ c (show k≠0 by lia)
 have ck2:=cA c (show 0<k by lia)
 refine⟨_,rfl,_,rfl,_,rfl,_,rfl,_,_,rfl,rfl,by lia,_,_,rfl,rfl,_,rfl,_,rfl,_,rfl,_,rfl,?_⟩
 refine⟨x,l,ln,lr,fp,nm,r,k,rows,log,us,ws,1+c%k,d,rfl,B.bk,el,pl,by lia,by lia,by lia,B.inL,l6,eN,gn,er,tl,B.R,r0,r10,fun H' t=>q fp rows log H' (fun b hb=>.inl hb) (.of t) (B.same O t) (dO _)⟩
noncomputable def y4x(K:PySem.W.Frag):Sp:=fun vs H Q _=>∃(a:Addr) (ns:List Int),vs=[.ref a]/\SqL K H a (ns.map V.int)/\ns.length≤63/\∀H',Q (.bl true) H'
theorem y2P(d:B7):(y6P d).deep≤1:=by
 obtain⟨a,n⟩:=d
 cases a with
 | none=>
  refine z16 fun d hd=>?_
  rcases bC.mp hd with rfl|hd
  ·exact z37 _ _
  ·rw[bA.mp hd]
   exact z1s _ _
 | some r=>
  refine z16 fun d hd=>?_
  rcases bC.mp hd with rfl|hd
  ·exact z37 _ _
  rcases bC.mp hd with rfl|hd
  ·exact z1s _ _
  ·rw[bA.mp hd]
   exact z1s _ _
theorem y1z{H:Hp}{t:Addr}{a b:Int}(h:H t=some (.tup [.int a,.int b])):A9 H (.tup [.int a,.int b]) (.ref t):=z0o h (by show 2≤1000000;decide) (.cons (z0D _) (.cons (z0D _) .nil))
theorem y3S{H:Hp}{t:Addr}{a b a' b':Int}(h:H t=some (.tup [.int a',.int b']))(e1:a'=a)(e2:b'=b):A9 H (.tup [.int a,.int b]) (.ref t):=by
 subst e1 e2
 exact y1z h
theorem y51(a b:Int):(DV.tup [.int a,.int b]).deep≤1:=z16 fun d hd=>by
 rcases bC.mp hd with rfl|hd
 ·exact z1s _ _
 ·rw[bA.mp hd]
  exact z1s _ _
theorem y57(w:Row):(O4 w).deep≤2:=z16 fun d hd=>by
 obtain⟨x,_,rfl⟩:=cF.mp hd
 refine z16 fun d hd=>?_
 rcases bC.mp hd with rfl|hd
 ·exact z37 _ _
 ·rw[bA.mp hd]
  exact z1s _ _
theorem y2j(rows:List Row)(n r:Int):(z18 rows n r).deep≤4:=z16 fun d hd=>by
 rcases bC.mp hd with rfl|hd
 ·exact z1s _ _
 rcases bC.mp hd with rfl|hd
 ·exact Nat.le_succ_of_le (y57 _)
 rw[bA.mp hd]
 refine z16 fun d hd=>?_
 obtain⟨k,_,rfl⟩:=cF.mp hd
 refine z16 fun d hd=>?_
 rcases bC.mp hd with rfl|hd
 ·exact z1s _ _
 ·rw[bA.mp hd]
  exact y1K _
theorem y7d(M:Bl mg)(F:Fun K "law" "law" w0N f fd){A1:Addr}{Bk:BkP}(O:V6 A1 ["write","deliver","latest","issue","deeds","deed","shelf"] Bk)
  (E9:Cal P w K mg base 1 "_law_at" z74 (w1b K)) (E7:Cal P w K mg base 1 "_law_pick" z4I y2Z)
  (Q2:Cal P w K mg base 2 "_law_names" z5a (y4f K)) (R1:Cal P w K mg base 2 "_law_sets" z5Y (y5Q K)) (N7:Cal P w K mg base 2 "_law_valued" z4i y1i)
  (B9:Cal P w K mg base 6 "_law_same" z1M (z7z 6)) (Q0:Cal P w K mg base 1 "_law_issue" z4Z (y3i K)) (O7:Cal P w K mg base 10 "_law_step" z6m (y5R K Bk)) (E4:Cal P w K mg base 9 "_law_seen_at" z2O (z9i Bk))
  (w04:Mkr P w K mg base 8 A1 "Book" z3c (y1O K A1 Bk)) (P4:D7 P w K mg base 8 A1 "deeds" z54 (y0w Bk)) (O9:D7 P w K mg base 8 A1 "latest" z4d (z8x Bk))
  (R8:D7 P w K mg base 8 A1 "deed" z4E (z8P Bk)) (Q3:D7 P w K mg base 8 A1 "issue" z3R (z7I Bk)):A8 P w K mg base CX0 14 f fd plaw (y4x K):=by
 have nd:=y7L.nd
 refine F.ok y7L (fun vs H Q E h=>?_) (fun cdv A outer s H vs Q E hr h=>?_)
 ·obtain⟨a,ns,rfl,_⟩:=h
  rfl
 obtain⟨a,ns,rfl,hS,h63,q⟩:=h
 refine⟨_,(z04 (z0k (i:=1) nd rfl (Or.inl rfl) (z0l Q2 (rm hr) rfl (z00 (pv 0) z02))) (z04 (z0k (i:=2) nd rfl (Or.inl rfl) (z0l N7 (rm hr) rfl (z00 (z0l R1 (rm hr) rfl (z00 (pv 1) (z00 (z0l E9 (rm hr) rfl (z00 (pv 0) (z00 z06 z02))) (z00 z06 z02)))) (z00 (z0l E9 (rm hr) rfl (z00 (pv 0) (z00 z06 z02))) z02)))) (z04 (z0k (i:=3) nd rfl (Or.inl rfl) (z0l E7 (rm hr) rfl (z00 (z0e z0K (z0l E9 (rm hr) rfl (z00 (pv 0) (z00 z06 z02))) z06) (z00 z06 z02)))) (z04 (z0k (i:=4) nd rfl (Or.inl rfl) (z0e z1q z06 (z0e z0I (z0l E9 (rm hr) rfl (z00 (pv 0) (z00 z06 z02))) z06))) (z04 (z0k (i:=5) nd rfl (Or.inl rfl) (y3G w04 (rm hr) rfl (z00 (z0v z4k rfl M.list gG (z00 (pv 1) z02)) (z00 (pv 3) (z00 (pv 4) z02))))) (z04 (z0k (i:=6) nd rfl (Or.inl rfl) (z0T z02)) (z04 (z0k (i:=7) nd rfl (Or.inl rfl) (z0T z02)) (z04 (z1z cG rfl (z1T rfl M.range (z00 (z0l E7 (rm hr) rfl (z00 (z0l E9 (rm hr) rfl (z00 (pv 0) (z00 z06 z02))) (z00 z06 z02))) z02)) (z0m (i:=8) nd rfl (Or.inl rfl)) (z05 (z0H (z4A (z41 (z0l O7 (rm hr) rfl (z00 (pv 5) (z00 (pv 7) (z00 (pv 6) (z00 (z0N z0L (pv 2) (pv 8) (fun _ _=>rfl)) (z00 (pv 1) (z00 (pv 3) (z00 (pv 4) (z00 z06 (z00 z06 z02)))))))))))) (z05 (z0d z3v)) z0j))) (z04 (z1z cG rfl (z1r (z33 y0Y (pv 0) (z3A z06) (z3A z06))) (z0m (i:=9) nd rfl (Or.inl rfl)) (z04 (z0k (i:=10) nd rfl (Or.inl rfl) (z0l E7 (rm hr) rfl (z00 (z0e z0K (pv 9) z06) (z00 (z0e y1w z06 z06) z02)))) (z05 (z0H (z4A (z41 (z0l O7 (rm hr) rfl (z00 (pv 5) (z00 (pv 7) (z00 (pv 6) (z00 (z0N z0L (pv 2) (z09 z07 rfl M.len bD (z00 (pv 6) z02)) (fun _ _=>rfl)) (z00 (pv 1) (z00 (pv 3) (z00 (pv 4) (z00 (z0e z0I (pv 9) z06) (z00 (pv 10) z02)))))))))))) (z05 (z0d z3v)) z0j)))) (z04 (z0H (z4A (z41 (z0l B9 (rm hr) rfl (z00 (z0X (z00 (z2s P4 (rm hr) (pv 5)) (z00 (z2s O9 (rm hr) (pv 5)) z02))) (z00 (z0X (z00 (z09 z07 rfl M.len bD (z00 (pv 7) z02)) (z00 (z09 z07 rfl M.len bD (z00 (pv 6) z02)) z02))) z02))))) (z05 (z0d z3v)) z0j) (z04 (z1z cG rfl (z1T rfl M.range (z00 (z09 z07 rfl M.len bD (z00 (pv 7) z02)) z02)) (z0m (i:=8) nd rfl (Or.inl rfl)) (z05 (z0H (z4A (z41 (z0l B9 (rm hr) rfl (z00 (z1W R8 (rm hr) (pv 5) (z00 (z0e z1q (pv 8) z06) z02)) (z00 (z0N z0L (pv 7) (pv 8) (fun _ _=>rfl)) z02))))) (z05 (z0d z3v)) z0j))) (z04 (z1z cG rfl (z5C rfl M.range (z00 z06 (z00 (z0e z1q (z09 z07 rfl M.len bD (z00 (pv 6) z02)) z06) z02))) (z0m (i:=11) nd rfl (Or.inl rfl)) (z05 (z0H (z4A (z41 (z0l B9 (rm hr) rfl (z00 (z1W Q3 (rm hr) (pv 5) (z00 (pv 11) z02)) (z00 (z0l Q0 (rm hr) rfl (z00 (pv 6) (z00 (pv 11) (z00 (pv 3) z02)))) z02))))) (z05 (z0d z3v)) z0j))) (z04 (z1z cG rfl (z5C rfl M.range (z00 z06 (z00 (z0e z1q (pv 4) z06) z02))) (z0m (i:=12) nd rfl (Or.inl rfl)) (z05 (z0H (z4A (z41 (z0l E4 (rm hr) rfl (z00 (pv 5) (z00 (pv 7) (z00 (pv 12) (z00 (z09 z07 rfl M.len bD (z00 (pv 7) z02)) (z00 (pv 1) (z00 (pv 6) (z00 (pv 3) z02)))))))))) (z05 (z0d z3v)) z0j))) (z05 (z0d z3v))))))))))))))),?_⟩
 refine⟨_,rfl,a,ns,rfl,hS,fun ln nm H1 nln s1 eN n1 n12 N=>?_⟩
 refine⟨_,rfl,_,rfl,a,ns,2,rfl,s1.seq hS,by decide,ln,nm,_,61,rfl,SqL.of eN,n1,n12,by decide,by decide,fun l0 xs0 ss H2 nl0 s2 e2 st len0 sub0=>?_⟩
 have s12:=s1.trans s2
 refine⟨_,rfl,a,ns,3,rfl,s12.seq hS,by decide,l0,xs0,ss,_,rfl,e2,st,by rw[len0];decide,fun s hs=>c9 (sub0 s hs).length_le n12,fun lg gs goods H3 nlg s3 eG tlG hm hv=>?_⟩
 have g61:goods.length=61:=by
  have:=congrArg List.length hm
  rw[b6,len0] at this
  exact this
 have RG:Rws nm goods:=⟨fun r hr'=>sub0 _ (by rw[<- hm];exact gY hr'),hv⟩
 have s13:=s12.trans s3
 have eN3:=s3 _ _ (s2 _ _ eN)
 have hS3:=s13.seq hS
 have gn:J8 nm:=⟨n1,n12,N.nd⟩
 have lgs:gs.length=goods.length:=by rw[tlG.length,b6]
 clear st hm hv e2
 refine⟨_,rfl,a,ns,4,rfl,hS3,by decide,?_⟩
 generalize ns.getD (4:Int).toNat 0=c4
 refine⟨_,_,rfl,rfl,⟨by decide,by decide⟩,_,_,rfl,(by decide),fun r r0 r1=>?_⟩
 refine⟨_,rfl,a,ns,4,rfl,hS3,by decide,?_⟩
 generalize ns.getD (4:Int).toNat 0=c5
 refine⟨_,_,rfl,rfl,(by show(0:Int)<4;decide),_,_,rfl,rfl,?_⟩
 dsimp only
 obtain⟨k,hk⟩:∃k,1+c5%4=k:=⟨_,rfl⟩
 have k1:1≤k:=by lia
 have k4:k≤4:=by lia
 rw[hk]
 clear hk
 refine⟨_,rfl,ln,nm.map V.str,rfl,.inl (SqL.of eN3),fun l1 hl1=>⟨_,rfl,_,rfl,fun x dx nx ndx ne=>?_⟩⟩
 have mm1:=z7v (C:=A1) (z01 hl1 (.lst (nm.map V.str))) nx ndx
 refine⟨x,dx,l1,nm,r,k,rfl,z03,ne,by rw[z0f ne,z03],.inl (SqL.of (y0x nx ndx z03)),gn,r0,by lia,k1,by lia,fun fp H8 hfp b8 bk8=>⟨rfl,?_⟩⟩
 have s8:A4 H3 H8:=z7V b8 mm1 ((z01 hl1 _).free nx)
 have f8:∀b∈fp,H3 b=none:=fun b hb=>z6k mm1 ((z01 hl1 _).free nx) ((z01 hl1 _).free ndx) (hfp b hb)
 clear mm1 b8 hfp hl1 nx ndx ne
 refine⟨(by show 0≤sizeLine;decide),fun lr hlr=>⟨(by show 0≤sizeLine;decide),fun l hl=>?_⟩⟩
 have t10:=(z01 hlr (.lst [])).trans (z01 hl (.lst []))
 have er:upd (upd H8 lr (.lst [])) l (.lst []) lr=some (.lst []):=z01 hl _ _ _ z03
 have el:upd (upd H8 lr (.lst [])) l (.lst []) l=some (.lst []):=z03
 have nlr:l≠lr:=fun e=>by rw[e,z03] at hl;cases hl
 have hl8:H8 l=none:=(z01 hlr _).free hl
 generalize upd (upd H8 lr (.lst [])) l (.lst [])=H10 at t10 er el ⊢
 have nf:∀{b:Addr},H8 b=none->b∉fp:=fun e mm=>by obtain⟨o,e1,_⟩:=O.own bk8 _ mm;rw[e1] at e;cases e
 have B10:T8 Bk H10 x l lr fp nm r k [] []:=⟨O.same bk8 t10,nf hl8,nf hlr,nlr,by decide,fun d hd=>(nomatch hd),⟨fun w hw=>(nomatch hw),fun w hw=>(nomatch hw)⟩,[],[],el,.nil,er,.nil⟩
 have w0L:=s8.trans t10
 have nl3:H3 l=none:=s8.free hl8
 have nr3:H3 lr=none:=s8.free hlr
 clear t10 er el nlr hl hlr hl8 nf bk8 s8
 have out:∀{b:Addr}{o:HO}{fq:List Addr},(∀b∈fq,H3 b=none)->H3 b=some o->b∉l::lr::fq:=fun hq e mm=>by
  rcases bC.mp mm with rfl|mm
  ·rw[nl3] at e;cases e
  rcases bC.mp mm with rfl|mm
  ·rw[nr3] at e;cases e
  ·rw[hq _ mm] at e;cases e
 have good:∀(j:Nat),j<61->∃v gd,gs[j]? = some v/\A9 H3 (O4 gd) v/\(gd.map Prod.fst).Sublist nm/\∀p∈gd,0≤p.2/\p.2≤1000000:=fun j hj=>by
  have hj':j<goods.length:=by lia
  obtain⟨v,ev,tv⟩:=tlG.get j (O4 goods[j]) (by rw[bL,bH hj']<;>rfl)
  exact⟨v,_,ev,tv,RG.sub _ (dD hj'),RG.val _ (dD hj')⟩
 have eNl:ln≠l:=fun e=>by rw[e,nl3] at eN3;cases eN3
 have eNr:ln≠lr:=fun e=>by rw[e,nr3] at eN3;cases eN3
 refine⟨_,rfl,a,ns,1,rfl,w0L.seq hS3,by decide,_,_,rfl,(by decide),fun m m0 m1=>⟨m,rfl,by lia,by lia,?_⟩⟩
 refine z1E (lo:=0) (n:=m.toNat) (fun i σ G=>∃(fp':List Addr) (rows:List Row) (log:List B7) (o8:Option V),A4 H3 G/\(∀b∈fp',H3 b=none)/\T8 Bk G x l lr fp' nm r k rows log/\log.length≤i/\
   σ=[some (.ref a),some (.ref ln),some (.ref lg),some (.int r),some (.int k),some (.ref x),some (.ref lr),some (.ref l),o8,none,none,none,none]) ⟨fp,[],[],none,w0L,f8,B10,bG _,rfl⟩ (fun i σ G hi hp=>?_) (fun σ G hp=>?_)
 ·obtain⟨fp',rows,log,o8,g,ff,B,w0V,rfl⟩:=hp
  have ez:(0:Int)+(i:Int)=i:=fU _
  rw[ez]
  obtain⟨v,gd,ev,tv,gsub,gval⟩:=good i (by lia)
  refine⟨_,rfl,_,rfl,_,rfl,_,rfl,_,rfl,lg,gs,_,v,rfl,rfl,SqL.of (g _ _ eG),z15 ev,_,rfl,_,rfl,_,rfl,?_⟩
  refine⟨x,l,lr,ln,v,fp',nm,r,k,rows,log,gd,0,8,rfl,B,g _ _ eN3,(fun mm=>by rw[ff _ mm] at eN3;cases eN3),eNl,eNr,gn,N,A9.keep g _ _ tv,gsub,gval,k1,by lia,r0,by lia,by lia,fun fp2 rows2 log2 G2 hf2 b2 B2 h2=>⟨_,rfl,C8 ?_⟩⟩
  exact⟨fp2,rows2,log2,_,fun b o e=>b2 b o (g b o e) (out ff e),fun b hb=>(hf2 b hb).elim (ff b) fun z=>g.free z,B2,by lia,rfl⟩
 obtain⟨fp1,rows1,log1,o8,g1,ff1,B1,hlog1,rfl⟩:=hp
 have w0V:log1.length≤30:=by lia
 clear hlog1 B10 w0L f8 fp
 refine⟨_,rfl,_,rfl,_,rfl,a,_,rfl,g1.seq hS3,fun lsl hlsl=>?_⟩
 have ecut:∃cs:List Int,S9 (ns.map V.int) (some (5:Int)) (some (205:Int))=cs.map V.int/\cs.length≤63:=by
  refine⟨(ns.drop (HT.sIx (ns.map V.int).length 0 (some 5))).take (HT.sIx (ns.map V.int).length (ns.map V.int).length (some 205)-HT.sIx (ns.map V.int).length 0 (some 5)),?_,?_⟩
  ·unfold S9
   rw[List.map_take,List.map_drop]
  ·rw[bM,dC]
   lia
 obtain⟨cs,ec,c63⟩:=ecut
 rw[ec]
 have t2:=z01 hlsl (.lst (cs.map V.int))
 have eC:upd G lsl (.lst (cs.map V.int)) lsl=some (.lst (cs.map V.int)):=z03
 have nC:H3 lsl=none:=g1.free hlsl
 have nCl:lsl∉l::lr::fp1:=fun mm=>by
  obtain⟨us,ws,el,_,er,_⟩:=B1.st
  rcases bC.mp mm with rfl|mm
  ·rw[hlsl] at el;cases el
  rcases bC.mp mm with rfl|mm
  ·rw[hlsl] at er;cases er
  ·obtain⟨o,e,_⟩:=O.own B1.bk _ mm
   rw[hlsl] at e;cases e
 have B2:=B1.same O t2
 have g2:=g1.trans t2
 generalize upd G lsl (.lst (cs.map V.int))=H12 at B2 g2 eC
 clear t2 B1 g1 hlsl ec
 refine⟨lsl,rfl,⟨_,SqL.of eC⟩,z2u (K:=K) (a:=lsl) (xs:=cs.map V.int) (fun i σ G=>∃(fp':List Addr) (rows:List Row) (log:List B7) (o9 o10:Option V),A4 H3 G/\(∀b∈fp',H3 b=none)/\lsl∉l::lr::fp'/\G lsl=some (.lst (cs.map V.int))/\T8 Bk G x l lr fp' nm r k rows log/\log.length≤30+i/\
   σ=[some (.ref a),some (.ref ln),some (.ref lg),some (.int r),some (.int k),some (.ref x),some (.ref lr),some (.ref l),o8,o9,o10,none,none]) ⟨fp1,rows1,log1,none,none,g2,ff1,nCl,eC,B2,w0V,rfl⟩ (fun i σ G _ ⟨_,_,_,_,_,_,_,_,e,_⟩=>SqL.of e) ?_ ?_⟩
 ·rintro i u σ G hi ⟨fp',rows,log,o9,o10,g,ff,nC',e,B,hl9,rfl⟩
  obtain⟨c,hc,rfl⟩:∃c:Int,cs[i]? = some c/\u=V.int c:=by
   rw[bL] at hi
   cases h:cs[i]? with
   | none=>rw[h] at hi;cases hi
   | some c=>rw[h] at hi;exact⟨c,rfl,(Option.some.inj hi).symm⟩
  have i63:i<63:=by
   have:=(cO.mp hc).1
   lia
  obtain⟨us,ws,el,pl,er,tl⟩:=B.st
  have lws:ws.length=rows.length:=by rw[tl.length,b6]
  obtain⟨v,gd,ev,tv,gsub,gval⟩:=good rows.length (by have:=B.l6;lia)
  refine⟨_,rfl,_,_,rfl,rfl,⟨by decide,by decide⟩,_,_,rfl,rfl,(by unfold CPow;decide +kernel),_,_,rfl,(by decide +kernel),fun c2 c20 c21=>?_⟩
  refine⟨_,rfl,_,rfl,_,rfl,_,rfl,_,rfl,lr,ws,rfl,.inl (SqL.of er),lg,gs,_,v,rfl,rfl,SqL.of (g _ _ eG),by rw[lws];exact z15 ev,_,rfl,_,rfl,_,rfl,_,rfl,_,_,rfl,rfl,(by show(0:Int)<6;decide),_,rfl,?_⟩
  refine⟨x,l,lr,ln,v,fp',nm,r,k,rows,log,gd,c%6,c2,rfl,B,g _ _ eN3,(fun mm=>by rw[ff _ mm] at eN3;cases eN3),eNl,eNr,gn,N,A9.keep g _ _ tv,gsub,gval,k1,by lia,r0,by lia,by lia,fun fp2 rows2 log2 G2 hf2 b2 B2 h2=>⟨_,rfl,C8 ?_⟩⟩
  have nC2:lsl∉l::lr::fp2:=fun mm=>by
   rcases bC.mp mm with h|mm
   ·exact nC' (h ▸ bX)
   rcases bC.mp mm with h|mm
   ·exact nC' (h ▸ bP _ bX)
   ·exact(hf2 _ mm).elim (fun z=>nC' (bP _ (bP _ z))) fun z=>by rw[e] at z;cases z
  exact⟨fp2,rows2,log2,_,_,fun b o e=>b2 b o (g b o e) (out ff e),fun b hb=>(hf2 b hb).elim (ff b) fun z=>g.free z,nC2,b2 _ _ e nC',B2,by lia,rfl⟩
 rintro σ G2 ⟨fp,rows,log,o9,o10,g,ff,_,_,B,hl9,rfl⟩
 have w0I:log.length<400:=by
  rw[b6] at hl9
  lia
 clear hl9 B2 g2 eC nC nCl ff1 w0V
 obtain⟨us,ws,el,pl,er,tl⟩:=B.st
 have lu:=z1F pl
 have lws:ws.length=rows.length:=by rw[tl.length,b6]
 have bk:=B.bk
 obtain⟨d3,g3,q3,w3⟩:=O.ins bk
 refine⟨_,rfl,x,d3,g3,rfl,q3,w3 _ (by simp),x,fp,nm,r,k,_,_,rfl,bk,_,rfl,x,d3,g3,rfl,q3,w3 _ (by simp),x,fp,nm,r,k,_,_,rfl,bk,fun H14 s14=>⟨(by show 2≤sizeLine;decide),fun t ht=>?_⟩⟩
 have t14:=s14.trans (z01 ht (.tup [V.int log.length,V.int rows.length]))
 refine⟨_,rfl,l,us,rfl,.inl (SqL.of (t14 _ _ el)),_,rfl,lr,ws,rfl,.inl (SqL.of (t14 _ _ er)),(by show 2≤sizeLine;decide),fun t2 ht2=>⟨.ref t,.ref t2,rfl,?_,fun H15 s15=>⟨_,rfl,C8 ?_⟩⟩⟩
 ·exact(z1m (.tup [.int ((us.length:Nat):Int),.int ((ws.length:Nat):Int)]) _ _ (y3S (z01 ht2 _ _ _ z03) (by rw[lu]) (by rw[lws])) (y1z z03)).mono (c9 (y51 _ _) (by decide))
 have t15:=t14.trans ((z01 ht2 (.tup [V.int us.length,V.int ws.length])).trans s15)
 have B15:=B.same O t15
 have g15:=g.trans t15
 have w0q:=t15 _ _ el
 have er15:=t15 _ _ er
 have w0S:=C3.keep t15 pl
 have tl15:=z0b.keep t15 _ _ tl
 clear ht ht2 s14 s15 t14 t15 bk el pl q3 w3 er tl B g
 have l6:=B15.l6
 refine⟨_,rfl,l,us,rfl,.inl (SqL.of w0q),_,rfl,by lia,by lia,?_⟩
 refine z1E (lo:=0) (n:=((us.length:Nat):Int).toNat) (fun i σ G=>∃(o8:Option V),A4 H15 G/\σ=[some (.ref a),some (.ref ln),some (.ref lg),some (.int r),some (.int k),some (.ref x),some (.ref lr),some (.ref l),o8,o9,o10,none,none]) ⟨_,A4.refl _,rfl⟩ (fun i σ G hi hp=>?_) (fun σ G hp=>?_)
 ·obtain⟨o8,g,rfl⟩:=hp
  have ez:(0:Int)+(i:Int)=i:=fU _
  rw[ez]
  have hi':i<log.length:=by lia
  have ed:log[i]? = some log[i]:=bH hi'
  generalize log[i]=d at ed
  obtain⟨u,eu,du⟩:=y0v (C3.keep g w0S) i d ed
  have bk2:=O.same B15.bk g
  obtain⟨d2,g2,z2,w2⟩:=O.ins bk2
  refine⟨_,rfl,x,d2,g2,rfl,z2,w2 _ (by simp),_,rfl,_,_,rfl,rfl,x,fp,nm,r,k,_,_,i,d,rfl,bk2,ed,fun v tv=>?_⟩
  refine⟨_,rfl,_,rfl,l,us,_,u,rfl,rfl,SqL.of (g _ _ w0q),z15 eu,v,u,rfl,(z1m _ _ _ tv (y0d du)).mono (c9 (y2P _) (by decide)),fun G2 s2=>⟨_,rfl,C8 ?_⟩⟩
  exact⟨_,g.trans s2,rfl⟩
 obtain⟨o8b,g,rfl⟩:=hp
 have B16:=B15.same O g
 have g16:=g15.trans g
 have el16:=g _ _ w0q
 have pl16:=C3.keep g w0S
 have w0t:=g _ _ er15
 have w0T:=z0b.keep g _ _ tl15
 have W5:∀w∈rows,w.length≤12:=fun w hw=>by
  have:=(B16.R.sub w hw).length_le
  rw[b6] at this
  lia
 clear B15 g15 w0q w0S er15 tl15 g
 refine⟨_,rfl,lr,ws,rfl,.inl (SqL.of w0t),_,_,rfl,rfl,1,(ws.length:Int)+1,rfl,⟨by decide,by decide,by lia,by lia⟩,?_⟩
 refine z1E (lo:=1) (n:=((ws.length:Int)+1-1).toNat) (fun i σ G2=>∃o:Option V,A4 G G2/\σ=[some (.ref a),some (.ref ln),some (.ref lg),some (.int r),some (.int k),some (.ref x),some (.ref lr),some (.ref l),o8b,o9,o10,o,none]) ⟨none,A4.refl _,rfl⟩ (fun i σ G2 hi hp=>?_) (fun σ G2 hp=>?_)
 ·obtain⟨o,g3,rfl⟩:=hp
  have bk2:=O.same B16.bk g3
  obtain⟨d2,g2,z2,w2⟩:=O.ins bk2
  refine⟨_,rfl,x,d2,g2,rfl,z2,w2 _ (by simp),_,rfl,x,fp,nm,r,k,_,_,1+(i:Int),rfl,bk2,by lia,by lia,fun v1 H16 s16 t16=>?_⟩
  have g4:=g3.trans s16
  refine⟨_,rfl,_,rfl,_,rfl,lr,ws,rows,1+(i:Int),r,rfl,SqL.of (g4 _ _ w0t),z0b.keep g4 _ _ w0T,by lia,W5,by lia,by lia,fun v2 H17 s17 t17=>?_⟩
  refine⟨v1,v2,rfl,(z1m _ _ _ (A9.keep s17 _ _ t16) t17).mono (c9 (y2j _ _ _) (by decide)),fun H18 s18=>⟨_,rfl,C8 ?_⟩⟩
  exact⟨_,g3.trans (s16.trans (s17.trans s18)),rfl⟩
 obtain⟨o11,g17,rfl⟩:=hp
 have B17:=B16.same O g17
 have g18:=g16.trans g17
 have el17:=g17 _ _ el16
 have pl17:=C3.keep g17 pl16
 have er17:=g17 _ _ w0t
 have tl17:=z0b.keep g17 _ _ w0T
 clear B16 g16 el16 pl16 w0t w0T g17
 refine⟨_,rfl,_,_,rfl,rfl,1,k+1,rfl,⟨by decide,by decide,by lia,by lia⟩,?_⟩
 refine z1E (lo:=1) (n:=(k+1-1).toNat) (fun i σ G3=>∃o:Option V,A4 G2 G3/\σ=[some (.ref a),some (.ref ln),some (.ref lg),some (.int r),some (.int k),some (.ref x),some (.ref lr),some (.ref l),o8b,o9,o10,o11,o]) ⟨none,A4.refl _,rfl⟩ (fun i σ G3 hi hp=>?_) (fun σ G3 hp=>q _)
 obtain⟨o,g3,rfl⟩:=hp
 refine⟨_,rfl,_,rfl,_,rfl,_,rfl,l,us,rfl,.inl (SqL.of (g3 _ _ el17)),_,rfl,_,rfl,_,rfl,?_⟩
 refine⟨x,l,ln,lr,fp,nm,r,k,rows,log,us,ws,1+(i:Int),us.length,rfl,O.same B17.bk g3,g3 _ _ el17,C3.keep g3 pl17,by lia,by lia,by lia,B17.inL,l6,g3 _ _ (g18 _ _ eN3),gn,g3 _ _ er17,z0b.keep g3 _ _ tl17,B17.R,r0,by lia,fun H' t=>⟨_,rfl,C8 ?_⟩⟩
 exact⟨_,g3.trans t,rfl⟩
end
theorem y7N{l:PySem.W.OpenLaw}{w:World}{K:PySem.W.Frag}{h:Heap}{mg:Str->Option Value}{fa:Addr}(X:K.In h)(G:h.Ns mainGlobals mg)(hfa:mg "law"=some (.ref fa))
  {f0 f1 f2 f3 f4 f5 f6 f7 f8 f9 f10 f11 f12 f13 f14 f15 f16 f17 f18 f19 f20 f21 f22 f23 f24 f25 f26 f27 f28 f29 f30 f31 f32 f33 f34 f35 f36 f37 f38 f39 f40 f41 f42 f43 f44 f45 f46 f47 f48 f49 f50 f51 f52 f53 f54 f55 f56 f57 f58 f59 f60 f61 f62 f63 f64 f65 f66 f67 f68 A0 A2 A1 CBackError CBadNames CBadReach CBadReaders COfficeFull CUnknownName CNameTwice CBadValue CNotWritten CUnknownReader CBookFull CNoSuchDeed CTooManyCourses T36:Addr}{W9 X3 U8 X1 U7 X4 w0P w0e w1P w13 w1Z:Tok}
  (cOffice:DfC K "Office" A0)
  (cShelf:DfC K "Shelf" A2)
  (cBook:DfC K "Book" A1)
  (nOffice_names:PySem.W.findIn K (.ref A0) "names"=some none)
  (nOffice_reach:PySem.W.findIn K (.ref A0) "reach"=some none)
  (nOffice_written:PySem.W.findIn K (.ref A0) "written"=some none)
  (nShelf_names:PySem.W.findIn K (.ref A2) "names"=some none)
  (nShelf_reach:PySem.W.findIn K (.ref A2) "reach"=some none)
  (nShelf_issues:PySem.W.findIn K (.ref A2) "issues"=some none)
  (nBook_office:PySem.W.findIn K (.ref A1) "office"=some none)
  (nBook_readers:PySem.W.findIn K (.ref A1) "readers"=some none)
  (nBook_done:PySem.W.findIn K (.ref A1) "done"=some none)
  (a0:DfT K "refuse_bad_names" z2n .none f0)
  (a1:DfT K "refuse_bad_reach" z2f .none f1)
  (a2:DfT K "bulletin_names" z2Y .none f2)
  (a3:DfT K "refuse_unknown_name" z1l .none f3)
  (a4:DfT K "lacking_numbers" z2D .none f4)
  (a5:DfT K "reached_by" z5j .none f5)
  (a6:DfT K "teller_of" z5Z .none f6)
  (a7:DfT K "lacking_with_tellers" z1G .none f7)
  (a8:DfT K "dark_numbers" z3M .none f8)
  (a9:DfT K "dark_numbers_behind" z1Q .none f9)
  (a10:DfT K "tail_for" z7e .none f10)
  (a11:DfT K "refuse_bad_value" z1K .none f11)
  (a12:DfT K "refuse_bad_rows" z1U .none f12)
  (a13:DfT K "rows_in_order" z3d .none f13)
  (a14:DfT K "names_of_rows" z3m .none f14)
  (a15:DfM K A0 "__init__" "Office.__init__" z2F .none f15)
  (a16:DfM K A0 "refuse_writing" "Office.refuse_writing" z17 .none f16)
  (a17:DfM K A0 "write" "Office.write" z2K .none f17)
  (a18:DfM K A0 "latest" "Office.latest" z3l .none f18)
  (a19:DfM K A0 "issue" "Office.issue" z2N .none f19)
  (a20:DfM K A2 "__init__" "Shelf.__init__" z2T .none f20)
  (a21:DfM K A2 "put" "Shelf.put" z6v .none f21)
  (a22:DfM K A2 "had" "Shelf.had" z6r .none f22)
  (a23:DfM K A2 "latest" "Shelf.latest" z3T .none f23)
  (a24:DfM K A2 "rows_of" "Shelf.rows_of" z3a .none f24)
  (a25:DfM K A2 "tail_of" "Shelf.tail_of" z3p .none f25)
  (a26:DfT K "refuse_bad_readers" z1X .none f26)
  (a27:DfM K A1 "__init__" "Book.__init__" z3j .none f27)
  (a28:DfM K A1 "refuse_unknown_reader" "Book.refuse_unknown_reader" z0R .none f28)
  (a29:DfM K A1 "refuse_further_deed" "Book.refuse_further_deed" z0V .none f29)
  (a30:DfM K A1 "write" "Book.write" z3J .none f30)
  (a31:DfM K A1 "deliver" "Book.deliver" z2M .none f31)
  (a32:DfM K A1 "latest" "Book.latest" z4h .none f32)
  (a33:DfM K A1 "issue" "Book.issue" z3I .none f33)
  (a34:DfM K A1 "deeds" "Book.deeds" z5g .none f34)
  (a35:DfM K A1 "deed" "Book.deed" z4C .none f35)
  (a36:DfM K A1 "shelf" "Book.shelf" z5k (.ref T36) f36)
  (a37:DfT K "held_for" z7L .none f37)
  (a38:DfT K "names_told_of" z3f .none f38)
  (a39:DfT K "gaps_of" z9t .none f39)
  (a40:DfT K "set_again" z6h .none f40)
  (a41:DfT K "state_of" z7i .none f41)
  (a42:DfT K "state_and_held" z2V .none f42)
  (a43:DfT K "knowledge" z65 .none f43)
  (a44:DfT K "_law_at" z9r .none f44)
  (a45:DfT K "_law_pick" z63 .none f45)
  (a46:DfT K "_law_row" z80 .none f46)
  (a47:DfT K "_law_same" z4F .none f47)
  (a48:DfT K "_law_named" z57 .none f48)
  (a49:DfT K "_law_strange" z3G .none f49)
  (a50:DfT K "_law_doubled" z3Q .none f50)
  (a51:DfT K "_law_sets" z6q .none f51)
  (a52:DfT K "_law_value" z52 .none f52)
  (a53:DfT K "_law_valued" z4y .none f53)
  (a54:DfT K "_law_issue" z5c .none f54)
  (a55:DfT K "_law_teller" z45 .none f55)
  (a56:DfT K "_law_gaps" z62 .none f56)
  (a57:DfT K "_law_held" z60 .none f57)
  (a58:DfT K "_law_again" z50 .none f58)
  (a59:DfT K "_law_state" z51 .none f59)
  (a60:DfT K "_law_table" z55 .none f60)
  (a61:DfT K "_law_names" z5d .none f61)
  (a62:DfT K "_law_had_at" z4c .none f62)
  (a63:DfT K "_law_spoilt" z47 .none f63)
  (a64:DfT K "_law_refusal" z3z .none f64)
  (a65:DfT K "_law_done" z61 .none f65)
  (a66:DfT K "_law_seen_at" z3H .none f66)
  (a67:DfT K "_law_step" z6o .none f67)
  (a68:DfT K "law" w0N .none f68)
  (d36:DfD K T36 #[Value.none])
  (xBackError:PySem.W.nsIn K mainGlobals "BackError"=some (some (.ref CBackError)))
  (xBadNames:PySem.W.nsIn K mainGlobals "BadNames"=some (some (.ref CBadNames)))
  (xBadReach:PySem.W.nsIn K mainGlobals "BadReach"=some (some (.ref CBadReach)))
  (xBadReaders:PySem.W.nsIn K mainGlobals "BadReaders"=some (some (.ref CBadReaders)))
  (xOfficeFull:PySem.W.nsIn K mainGlobals "OfficeFull"=some (some (.ref COfficeFull)))
  (xUnknownName:PySem.W.nsIn K mainGlobals "UnknownName"=some (some (.ref CUnknownName)))
  (xNameTwice:PySem.W.nsIn K mainGlobals "NameTwice"=some (some (.ref CNameTwice)))
  (xBadValue:PySem.W.nsIn K mainGlobals "BadValue"=some (some (.ref CBadValue)))
  (xNotWritten:PySem.W.nsIn K mainGlobals "NotWritten"=some (some (.ref CNotWritten)))
  (xUnknownReader:PySem.W.nsIn K mainGlobals "UnknownReader"=some (some (.ref CUnknownReader)))
  (xBookFull:PySem.W.nsIn K mainGlobals "BookFull"=some (some (.ref CBookFull)))
  (xNoSuchDeed:PySem.W.nsIn K mainGlobals "NoSuchDeed"=some (some (.ref CNoSuchDeed)))
  (xTooManyCourses:PySem.W.nsIn K mainGlobals "TooManyCourses"=some (some (.ref CTooManyCourses)))
  (xb:PySem.W.excIn K CBackError veL "ValueError.__new__"=true) (xc:z9C K CBackError [CBadNames,CBadReach,CBadReaders,COfficeFull,CUnknownName,CNameTwice,CBadValue,CNotWritten,CUnknownReader,CBookFull,CNoSuchDeed,CTooManyCourses]=true)
  (zlen:PySem.W.nsIn K mainGlobals "len"=some none) (zrange:PySem.W.nsIn K mainGlobals "range"=some none) (ztuple:PySem.W.nsIn K mainGlobals "tuple"=some none) (zlist:PySem.W.nsIn K mainGlobals "list"=some none) (zmax:PySem.W.nsIn K mainGlobals "max"=some none) (zmin:PySem.W.nsIn K mainGlobals "min"=some none) (zsorted:PySem.W.nsIn K mainGlobals "sorted"=some none) (zisinstance:PySem.W.nsIn K mainGlobals "isinstance"=some none) (zbool:PySem.W.nsIn K mainGlobals "bool"=some none) (zint:PySem.W.nsIn K mainGlobals "int"=some none) (zstr:PySem.W.nsIn K mainGlobals "str"=some none) (zset:PySem.W.nsIn K mainGlobals "set"=some none) (zreversed:PySem.W.nsIn K mainGlobals "reversed"=some none) (zdict:PySem.W.nsIn K mainGlobals "dict"=some none) (zzip:PySem.W.nsIn K mainGlobals "zip"=some none) (zall:PySem.W.nsIn K mainGlobals "all"=some none) (zValueError:PySem.W.nsIn K mainGlobals "ValueError"=some none) (vMOST_NAMES:PySem.W.nsIn K mainGlobals "MOST_NAMES"=some (some (.int 12 W9))) (vMOST_REACH:PySem.W.nsIn K mainGlobals "MOST_REACH"=some (some (.int 10 X3))) (vMOST_NUMBERS:PySem.W.nsIn K mainGlobals "MOST_NUMBERS"=some (some (.int 60 U8))) (vMOST_VALUE:PySem.W.nsIn K mainGlobals "MOST_VALUE"=some (some (.int 1000000 X1))) (vMOST_READERS:PySem.W.nsIn K mainGlobals "MOST_READERS"=some (some (.int 10 U7))) (vMOST_DEEDS:PySem.W.nsIn K mainGlobals "MOST_DEEDS"=some (some (.int 400 X4))) (vWRITE:PySem.W.nsIn K mainGlobals "WRITE"=some (some (.str "write" w0P))) (vDELIVER:PySem.W.nsIn K mainGlobals "DELIVER"=some (some (.str "deliver" w0e))) (vSURE:PySem.W.nsIn K mainGlobals "SURE"=some (some (.str "sure" w1P))) (vSTALE:PySem.W.nsIn K mainGlobals "STALE"=some (some (.str "stale" w13))) (vOPEN:PySem.W.nsIn K mainGlobals "OPEN"=some (some (.str "open" w1Z))) :
  ∃fd:FuncData,(∀(s:Shared) (v:Value),BindsTo s fd ⟨[v],[]⟩ [("_law_script",v)])/\∀base:Heap,K.In base->base.Ns mainGlobals mg->A8 l.prog w K mg base CX0 14 fa fd ["_law_script"] (y4x K):=by
 have M:Bl mg:=⟨cL X G zlen,cL X G zrange,cL X G ztuple,cL X G zlist,cL X G zmax,cL X G zmin,cL X G zsorted,cL X G zisinstance,cL X G zbool,cL X G zint,cL X G zstr,cL X G zset,cL X G zreversed,cL X G zdict,cL X G zzip,cL X G zall,cL X G zValueError,⟨_,cI X G vMOST_NAMES⟩,⟨_,cI X G vMOST_REACH⟩,⟨_,cI X G vMOST_NUMBERS⟩,⟨_,cI X G vMOST_VALUE⟩,⟨_,cI X G vMOST_READERS⟩,⟨_,cI X G vMOST_DEEDS⟩,⟨_,cI X G vWRITE⟩,⟨_,cI X G vDELIVER⟩,⟨_,cI X G vSURE⟩,⟨_,cI X G vSTALE⟩,⟨_,cI X G vOPEN⟩⟩
 have D5:F5 K mg A0:=⟨cOffice.cls,cOffice.nm X G,nOffice_names,nOffice_reach,nOffice_written⟩
 have E6:F2 K mg A2:=⟨cShelf.cls,cShelf.nm X G,nShelf_names,nShelf_reach,nShelf_issues⟩
 have C4:F0 K mg A1:=⟨cBook.cls,cBook.nm X G,nBook_office,nBook_readers,nBook_done⟩
 obtain⟨_,Frefuse_bad_names⟩:=z0J X G a0
 obtain⟨_,Frefuse_bad_reach⟩:=z0J X G a1
 obtain⟨_,Fbulletin_names⟩:=z0J X G a2
 obtain⟨_,Frefuse_unknown_name⟩:=z0J X G a3
 obtain⟨_,Flacking_numbers⟩:=z0J X G a4
 obtain⟨_,Freached_by⟩:=z0J X G a5
 obtain⟨_,Fteller_of⟩:=z0J X G a6
 obtain⟨_,Flacking_with_tellers⟩:=z0J X G a7
 obtain⟨_,Fdark_numbers⟩:=z0J X G a8
 obtain⟨_,Fdark_numbers_behind⟩:=z0J X G a9
 obtain⟨_,Ftail_for⟩:=z0J X G a10
 obtain⟨_,Frefuse_bad_value⟩:=z0J X G a11
 obtain⟨_,Frefuse_bad_rows⟩:=z0J X G a12
 obtain⟨_,Frows_in_order⟩:=z0J X G a13
 obtain⟨_,Fnames_of_rows⟩:=z0J X G a14
 obtain⟨_,FOffice___init__⟩:=y0K cOffice a15
 obtain⟨_,FOffice_refuse_writing⟩:=z1I a16
 obtain⟨_,FOffice_write⟩:=z1I a17
 obtain⟨_,FOffice_latest⟩:=z1I a18
 obtain⟨_,FOffice_issue⟩:=z1I a19
 obtain⟨_,FShelf___init__⟩:=y0K cShelf a20
 obtain⟨_,FShelf_put⟩:=z1I a21
 obtain⟨_,FShelf_had⟩:=z1I a22
 obtain⟨_,FShelf_latest⟩:=z1I a23
 obtain⟨_,FShelf_rows_of⟩:=z1I a24
 obtain⟨_,FShelf_tail_of⟩:=z1I a25
 obtain⟨_,Frefuse_bad_readers⟩:=z0J X G a26
 obtain⟨_,FBook___init__⟩:=y0K cBook a27
 obtain⟨_,FBook_refuse_unknown_reader⟩:=z1I a28
 obtain⟨_,FBook_refuse_further_deed⟩:=z1I a29
 obtain⟨_,FBook_write⟩:=z1I a30
 obtain⟨_,FBook_deliver⟩:=z1I a31
 obtain⟨_,FBook_latest⟩:=z1I a32
 obtain⟨_,FBook_issue⟩:=z1I a33
 obtain⟨_,FBook_deeds⟩:=z1I a34
 obtain⟨_,FBook_deed⟩:=z1I a35
 obtain⟨_,FBook_shelf⟩:=y5h a36 d36
 have X6:=FBook_shelf.1.binds (ps:=["self","reader","deed"]) (ds:=[]) fun _ _ _ _ _ _ us hl=>w15 (p:=fun us=>∃k,bindArgs _ ⟨us,[]⟩=seqItems? _ >>= k/\k (some _)=pure (List.zip _ (us++[]))) hl fun _ _ _=>⟨_,rfl,rfl⟩
 have V8:=FBook_shelf.1.binds (ps:=["self","reader","deed"]) (ds:=[Value.none]) fun _ _ _ _ _ _ us hl=>w1e (p:=fun us=>∃k,bindArgs _ ⟨us,[]⟩=seqItems? _ >>= k/\k (some _)=pure (List.zip _ (us++[Value.none]))) (Nat.succ.inj (hl)) fun _ _=>⟨_,rfl,rfl⟩
 obtain⟨_,Fheld_for⟩:=z0J X G a37
 obtain⟨_,Fnames_told_of⟩:=z0J X G a38
 obtain⟨_,Fgaps_of⟩:=z0J X G a39
 obtain⟨_,Fset_again⟩:=z0J X G a40
 obtain⟨_,Fstate_of⟩:=z0J X G a41
 obtain⟨_,Fstate_and_held⟩:=z0J X G a42
 obtain⟨_,Fknowledge⟩:=z0J X G a43
 obtain⟨_,F_law_at⟩:=z0J X G a44
 obtain⟨_,F_law_pick⟩:=z0J X G a45
 obtain⟨_,F_law_row⟩:=z0J X G a46
 obtain⟨_,F_law_same⟩:=z0J X G a47
 obtain⟨_,F_law_named⟩:=z0J X G a48
 obtain⟨_,F_law_strange⟩:=z0J X G a49
 obtain⟨_,F_law_doubled⟩:=z0J X G a50
 obtain⟨_,F_law_sets⟩:=z0J X G a51
 obtain⟨_,F_law_value⟩:=z0J X G a52
 obtain⟨_,F_law_valued⟩:=z0J X G a53
 obtain⟨_,F_law_issue⟩:=z0J X G a54
 obtain⟨_,F_law_teller⟩:=z0J X G a55
 obtain⟨_,F_law_gaps⟩:=z0J X G a56
 obtain⟨_,F_law_held⟩:=z0J X G a57
 obtain⟨_,F_law_again⟩:=z0J X G a58
 obtain⟨_,F_law_state⟩:=z0J X G a59
 obtain⟨_,F_law_table⟩:=z0J X G a60
 obtain⟨_,F_law_names⟩:=z0J X G a61
 obtain⟨_,F_law_had_at⟩:=z0J X G a62
 obtain⟨_,F_law_spoilt⟩:=z0J X G a63
 obtain⟨_,F_law_refusal⟩:=z0J X G a64
 obtain⟨_,F_law_done⟩:=z0J X G a65
 obtain⟨_,F_law_seen_at⟩:=z0J X G a66
 obtain⟨_,F_law_step⟩:=z0J X G a67
 obtain⟨_,Flaw⟩:=z0J X G a68
 have ers:X2 K CBackError [CBadNames,CBadReach,CBadReaders,COfficeFull,CUnknownName,CNameTwice,CBadValue,CNotWritten,CUnknownReader,CBookFull,CNoSuchDeed,CTooManyCourses]:=⟨xc⟩
 have R6:Err K mg "BackError" CBackError:=⟨cI X G xBackError,xb⟩
 have T4:Err K mg "BadNames" CBadNames:=⟨cI X G xBadNames,(ers.one (by simp)).1.ex⟩
 have T1:Err K mg "BadReach" CBadReach:=⟨cI X G xBadReach,(ers.one (by simp)).1.ex⟩
 have Q1:Err K mg "BadReaders" CBadReaders:=⟨cI X G xBadReaders,(ers.one (by simp)).1.ex⟩
 have I0:Err K mg "OfficeFull" COfficeFull:=⟨cI X G xOfficeFull,(ers.one (by simp)).1.ex⟩
 have F3:Err K mg "UnknownName" CUnknownName:=⟨cI X G xUnknownName,(ers.one (by simp)).1.ex⟩
 have K0:Err K mg "NameTwice" CNameTwice:=⟨cI X G xNameTwice,(ers.one (by simp)).1.ex⟩
 have L9:Err K mg "BadValue" CBadValue:=⟨cI X G xBadValue,(ers.one (by simp)).1.ex⟩
 have F8:Err K mg "NotWritten" CNotWritten:=⟨cI X G xNotWritten,(ers.one (by simp)).1.ex⟩
 have D9:Err K mg "UnknownReader" CUnknownReader:=⟨cI X G xUnknownReader,(ers.one (by simp)).1.ex⟩
 have L7:Err K mg "BookFull" CBookFull:=⟨cI X G xBookFull,(ers.one (by simp)).1.ex⟩
 have F9:Err K mg "NoSuchDeed" CNoSuchDeed:=⟨cI X G xNoSuchDeed,(ers.one (by simp)).1.ex⟩
 have K8:Err K mg "TooManyCourses" CTooManyCourses:=⟨cI X G xTooManyCourses,(ers.one (by simp)).1.ex⟩
 have e:=hfa.symm.trans Flaw.2
 cases e
 refine⟨_,y3V Flaw.1,fun base _ _=>?_⟩
 have Y5:=y1p (P:=l.prog) (w:=w) (base:=base) M F_law_same.1 (b2 F_law_same.1) F_law_same.2
 have cal:=@calF l.prog w K mg base
 have mcl:=@mclF l.prog w K mg base
 have mkr:=@mkrF l.prog w K mg base
 have w17:=@w1l l.prog w K mg base
 have V4:=@w1B l.prog w K mg base
 have mkrX:=@w1m l.prog w K mg base
 have E9:=cal F_law_at (w2k M F_law_at.1) (b2 F_law_at.1)
 have E7:=cal F_law_pick (y6h F_law_pick.1) (b2 F_law_pick.1)
 have L8:=cal F_law_row (y73 M F_law_row.1) (b3 F_law_row.1)
 have N9:=cal F_law_teller (y2o M F_law_teller.1) (b3 F_law_teller.1)
 have P5:=cal F_law_named (y5r M F_law_named.1) (b2 F_law_named.1)
 have N4:=cal F_law_doubled (y25 M F_law_doubled.1) (b1 F_law_doubled.1)
 have Q5:=cal F_law_value (y4s F_law_value.1) (b2 F_law_value.1)
 have Q0:=cal F_law_issue (y5p M F_law_issue.1) (b3 F_law_issue.1)
 have J2:=cal Frefuse_bad_names (y0P M Frefuse_bad_names.1) (b1 Frefuse_bad_names.1)
 have J3:=cal Frefuse_bad_reach (y19 M Frefuse_bad_reach.1) (b1 Frefuse_bad_reach.1)
 have O8:=mcl E6.cl FShelf_put (y7K (A2:=A2) M E6 FShelf_put.1) (b2 FShelf_put.1)
 have C2:=mcl E6.cl FShelf_had (y5a (A2:=A2) M E6 FShelf_had.1) (b1 FShelf_had.1)
 have K5:=cal F_law_held (y5e M F_law_held.1) (b3 F_law_held.1)
 have J0:=cal F_law_again (y4O M F_law_again.1) (b3 F_law_again.1)
 have P8:=cal Freached_by (y2u M Freached_by.1) (b2 Freached_by.1)
 have B3:=cal Frefuse_unknown_name (y5B M Frefuse_unknown_name.1) (b2 Frefuse_unknown_name.1)
 have C5:=cal Frefuse_bad_value (y09 M Frefuse_bad_value.1) (b1 Frefuse_bad_value.1)
 have D0:=cal Frows_in_order (y2k M Frows_in_order.1) (b2 Frows_in_order.1)
 have D1:=cal Fnames_of_rows (y5f M Fnames_of_rows.1) (b1 Fnames_of_rows.1)
 have M7:=mcl D5.cl FOffice_latest (y0R (A0:=A0) M D5 FOffice_latest.1) (b1 FOffice_latest.1)
 have B0:=mcl D5.cl FOffice_issue (z8t (A0:=A0) M D5 FOffice_issue.1) (b2 FOffice_issue.1)
 have F4:=cal Frefuse_bad_readers (z8W M Frefuse_bad_readers.1) (b1 Frefuse_bad_readers.1)
 have A6:=mcl C4.cl FBook_refuse_unknown_reader (z6B (A1:=A1) (A0:=A0) M C4 FBook_refuse_unknown_reader.1) (b2 FBook_refuse_unknown_reader.1)
 have A5:=mcl C4.cl FBook_refuse_further_deed (z8K (A1:=A1) (A0:=A0) M C4 FBook_refuse_further_deed.1) (b1 FBook_refuse_further_deed.1)
 have P4:=mcl C4.cl FBook_deeds (y24 (A1:=A1) (A0:=A0) M C4 FBook_deeds.1) (b1 FBook_deeds.1)
 have R8:=mcl C4.cl FBook_deed (y0l (A1:=A1) (A0:=A0) M C4 FBook_deed.1) (b2 FBook_deed.1)
 have K2:=cal Flacking_numbers (y65 M Flacking_numbers.1) (b1 Flacking_numbers.1)
 have R0:=cal Fteller_of (y3y M Fteller_of.1) (b3 Fteller_of.1)
 have M6:=mcl E6.cl FShelf_tail_of (y36 (A2:=A2) M E6 FShelf_tail_of.1) (b2 FShelf_tail_of.1)
 have M4:=mcl E6.cl FShelf_rows_of (y3I (A2:=A2) M E6 FShelf_rows_of.1) (b2 FShelf_rows_of.1)
 have E5:=w17 Frefuse_unknown_name (y60 (CUnknownName:=CUnknownName) M Frefuse_unknown_name.1 F3) (b2 Frefuse_unknown_name.1)
 have F6:=w17 Frefuse_bad_value (y2i (CBadValue:=CBadValue) M Frefuse_bad_value.1 L9) (b1 Frefuse_bad_value.1)
 have E2:=V4 D5.cl FOffice_issue (y0C (A0:=A0) (CNotWritten:=CNotWritten) M D5 FOffice_issue.1 F8) (b2 FOffice_issue.1)
 have C6:=V4 C4.cl FBook_refuse_unknown_reader (z8X (A1:=A1) (A0:=A0) (CUnknownReader:=CUnknownReader) M C4 FBook_refuse_unknown_reader.1 D9) (b2 FBook_refuse_unknown_reader.1)
 have B5:=V4 C4.cl FBook_refuse_further_deed (y11 (A1:=A1) (A0:=A0) (CBookFull:=CBookFull) M C4 FBook_refuse_further_deed.1 L7) (b1 FBook_refuse_further_deed.1)
 have w0C:=V4 C4.cl FBook_deed (y2a (A1:=A1) (A0:=A0) (CNoSuchDeed:=CNoSuchDeed) M C4 FBook_deed.1 F9) (b2 FBook_deed.1)
 have M9:=cal F_law_strange (y22 M F_law_strange.1) (b2 F_law_strange.1)
 have N3:=cal F_law_refusal (y2r M F_law_refusal.1) (b2 F_law_refusal.1)
 have N8:=cal F_law_had_at (y3L M F_law_had_at.1) (b3 F_law_had_at.1)
 have R1:=cal F_law_sets (y6y M F_law_sets.1 L8.up N4.up) (b3 F_law_sets.1)
 have N7:=cal F_law_valued (y3r M F_law_valued.1 L8.up Q5.up) (b2 F_law_valued.1)
 have Q2:=cal F_law_names (y5c F_law_names.1 E9.up E7.up P5.up) (b1 F_law_names.1)
 have D6:=cal Fbulletin_names (y0O M Fbulletin_names.1 J2.up J3.up) (b2 Fbulletin_names.1)
 have w0i:=mcl E6.cl FShelf_latest (y3k (A2:=A2) M E6 FShelf_latest.1 C2.up) (b1 FShelf_latest.1)
 have K1:=cal F_law_gaps (y6w M F_law_gaps.1 N9.up) (b3 F_law_gaps.1)
 have Q4:=cal F_law_state (y2R M F_law_state.1 J0.up) (b3 F_law_state.1)
 have K4:=cal Ftail_for (y6H M Ftail_for.1 P8.up) (b2 Ftail_for.1)
 have C9:=cal Frefuse_bad_rows (z8C M Frefuse_bad_rows.1 B3.up C5.up) (b2 Frefuse_bad_rows.1)
 have w0j:=mcl C4.cl FBook_deliver (z6K (A1:=A1) (A0:=A0) M C4 FBook_deliver.1 B0.up A6.up A5.up) (b3 FBook_deliver.1)
 have O9:=mcl C4.cl FBook_latest (y1e (A1:=A1) (A0:=A0) M C4 FBook_latest.1 M7.up) (b1 FBook_latest.1)
 have Q3:=mcl C4.cl FBook_issue (z8f (A1:=A1) (A0:=A0) M C4 FBook_issue.1 B0.up) (b2 FBook_issue.1)
 have C1:=cal Flacking_with_tellers (y7t M Flacking_with_tellers.1 K2.up R0.up) (b2 Flacking_with_tellers.1)
 have M0:=cal Fnames_told_of (y6A (A2:=A2) M E6 Fnames_told_of.1 M6.up) (b3 Fnames_told_of.1)
 have F1:=cal Fheld_for (y29 (A2:=A2) M E6 Fheld_for.1 B3.up C2.up M4.up) (b2 Fheld_for.1)
 have J4:=w17 Frefuse_bad_rows (y0z (CUnknownName:=CUnknownName) (CNameTwice:=CNameTwice) (CBadValue:=CBadValue) M Frefuse_bad_rows.1 K0 B3.up C5.up E5.up F6.up) (b2 Frefuse_bad_rows.1)
 have M1:=V4 C4.cl FBook_deliver (z9s (A1:=A1) (A0:=A0) (CNotWritten:=CNotWritten) (CUnknownReader:=CUnknownReader) (CBookFull:=CBookFull) M C4 FBook_deliver.1 B0.up A6.up A5.up E2.up C6.up B5.up) (b3 FBook_deliver.1)
 have w0l:=V4 C4.cl FBook_issue (y0E (A1:=A1) (A0:=A0) (CNotWritten:=CNotWritten) M C4 FBook_issue.1 B0.up E2.up) (b2 FBook_issue.1)
 have O6:=cal F_law_spoilt (y4m M F_law_spoilt.1 M9.up) (b3 F_law_spoilt.1)
 have W2:=mkr E6.mgC FShelf___init__ (y4p (A2:=A2) M E6 FShelf___init__.1 D6.up) (b3 FShelf___init__.1)
 have P9:=cal F_law_table (y4Y M F_law_table.1 K1.up K5.up Q4.up) (b4 F_law_table.1)
 have W6:=mkr D5.mgC FOffice___init__ (y2I (A0:=A0) M D5 FOffice___init__.1 D6.up) (b3 FOffice___init__.1)
 have A7:=mcl D5.cl FOffice_refuse_writing (z8B (A0:=A0) M D5 FOffice_refuse_writing.1 C9.up) (b2 FOffice_refuse_writing.1)
 have N0:=cal Fdark_numbers (y6O M Fdark_numbers.1 C1.up) (b2 Fdark_numbers.1)
 have N5:=cal Fgaps_of (y2O (A2:=A2) M E6 Fgaps_of.1 C2.up C1.up M0.up) (b1 Fgaps_of.1)
 have B8:=V4 D5.cl FOffice_refuse_writing (y1f (A0:=A0) (COfficeFull:=COfficeFull) (CUnknownName:=CUnknownName) (CNameTwice:=CNameTwice) (CBadValue:=CBadValue) M D5 FOffice_refuse_writing.1 I0 C9.up J4.up) (b2 FOffice_refuse_writing.1)
 have D8:=mcl D5.cl FOffice_write (z8J (A0:=A0) M D5 FOffice_write.1 A7.up D1.up D0.up K4.up) (b2 FOffice_write.1)
 have w04:=mkr C4.mgC FBook___init__ (y38 (A1:=A1) (A0:=A0) M C4 FBook___init__.1 W6.up F4.up) (b4 FBook___init__.1)
 have P7:D7 l.prog w K mg base 6 A1 "shelf" z2Z (z5w (BkD K A1 A0) (ShD K A2)):=.mk' C4.cl (z8F (A1:=A1) (A0:=A0) (A2:=A2) M C4 D5 FBook_shelf.1 B0.up A6.up W2.up O8.up) X6 FBook_shelf.2
 have w0k:w0d l.prog w K mg base 6 A1 "shelf" z2Z (z5w (BkD K A1 A0) (ShD K A2)) [V.non]:=.mk' (.cons rfl .nil) C4.cl (z8F (A1:=A1) (A0:=A0) (A2:=A2) M C4 D5 FBook_shelf.1 B0.up A6.up W2.up O8.up) V8 FBook_shelf.2
 have E8:=cal Fdark_numbers_behind (y2A M Fdark_numbers_behind.1 N0.up) (b3 Fdark_numbers_behind.1)
 have K3:=cal Fset_again (y18 (A2:=A2) M E6 Fset_again.1 F1.up N5.up) (b2 Fset_again.1)
 have w06:=V4 D5.cl FOffice_write (y0S (A0:=A0) (COfficeFull:=COfficeFull) (CUnknownName:=CUnknownName) (CNameTwice:=CNameTwice) (CBadValue:=CBadValue) M D5 FOffice_write.1 A7.up D1.up D0.up K4.up B8.up) (b2 FOffice_write.1)
 have w0A:=mcl C4.cl FBook_write (z8A (A1:=A1) (A0:=A0) M C4 FBook_write.1 A7.up D8.up A5.up) (b2 FBook_write.1)
 have S8:=cal Fstate_of (y2b (A2:=A2) M E6 Fstate_of.1 F1.up K3.up C2.up E8.up) (b2 Fstate_of.1)
 have O2:=V4 C4.cl FBook_write (y1b (A1:=A1) (A0:=A0) (COfficeFull:=COfficeFull) (CUnknownName:=CUnknownName) (CNameTwice:=CNameTwice) (CBadValue:=CBadValue) (CBookFull:=CBookFull) M C4 FBook_write.1 A7.up D8.up A5.up B8.up B5.up) (b2 FBook_write.1)
 have K9:=cal Fstate_and_held (y0t (A2:=A2) M Fstate_and_held.1 F1.up S8.up) (b2 Fstate_and_held.1)
 have O1:=cal F_law_done (y4r (A0:=A0) (A1:=A1) (CBadNames:=CBadNames) (CBadReach:=CBadReach) (CBadReaders:=CBadReaders) (COfficeFull:=COfficeFull) (CUnknownName:=CUnknownName) (CNameTwice:=CNameTwice) (CBadValue:=CBadValue) (CNotWritten:=CNotWritten) (CUnknownReader:=CUnknownReader) (CBookFull:=CBookFull) (CNoSuchDeed:=CNoSuchDeed) (CTooManyCourses:=CTooManyCourses) (CBackError:=CBackError) M F_law_done.1 R6 T4 T1 Q1 I0 F3 K0 L9 F8 D9 L7 F9 K8 ers O2.up M1.up) (b4 F_law_done.1)
 have R4:=cal Fknowledge (y0o (A2:=A2) M E6 Fknowledge.1 K9.up) (b1 Fknowledge.1)
 have E4:=cal F_law_seen_at (y41 (A1:=A1) (A2:=A2) (Sh:=(ShD K A2)) (Bk:=(BkD K A1 A0)) M F_law_seen_at.1 U3 P1 (Y5 6) N8.up P9.up K1.up K5.up J0.up R4.up N5.up K3.up P7.up C2.up) (b7 F_law_seen_at.1)
 have O7:=cal F_law_step (y6c (A1:=A1) (Bk:=(BkD K A1 A0)) M F_law_step.1 U3 (Y5 6) O6.up N3.up O1.up E4.up) (b9 F_law_step.1)
 exact y7d M Flaw.1 U3 E9.up E7.up Q2.up R1.up N7.up (Y5 6) Q0.up O7.up E4.up w04.up P4.up O9.up R8.up Q3.up
theorem walk{l:PySem.W.OpenLaw}{q:Program}{loose:List Str}{XP:(Str->Option Value)->Heap->Prop}{YP:World->Heap->Prop}{d:DefRec}{K:Params->PySem.W.Frag}(hn:l.most=some 63)(hdf:d.params.defaults=[])
  (hY:∀(w:World) (h:Heap),YP w h->(K w.params).In h)
  (F:∀(w:World) (mg:Str->Option Value) (fa:Addr) (h:Heap),(K w.params).In h->h.Ns mainGlobals mg->mg d.name=some (.ref fa)->
   ∃fd:FuncData,(∀(s:Shared) (u:Value),BindsTo s fd ⟨[u],[]⟩ [("_law_script",u)])/\∀base:Heap,(K w.params).In base->base.Ns mainGlobals mg->A8 l.prog w (K w.params) mg base CX0 14 fa fd ["_law_script"] (y4x (K w.params))) :
  PySem.W.WalkO q loose XP YP l.row.toRowW d [] (fun f vs=>PySem.call f vs):=
 L2.y69 (n:=63) (k:=14) (x:="_law_script") (CX:=fun _=>CX0) (sp:=fun w=>y4x (K w.params)) hn (by decide) hdf ⟨rfl,by decide,by decide⟩ hY F (fun _ _ a ns hl _ hS=>⟨a,ns,rfl,hS,hl,fun _=>rfl⟩) fun _ _ _ _ _ z=>z
theorem w27{q:Program}{loose:List Str}{XP:(Str->Option Value)->Heap->Prop}{r:PySem.W.RowW}{d:DefRec}{kwd:List (Str×Expr)}{run:Value->List Value->Sem Value}{K:Params->PySem.W.Frag}{ks:List Addr}{n t:Nat}(e:∀P,ks=(K P).map (·.1))
  (W:PySem.W.WalkO q loose XP (fun w h=>(K w.params).In h) r d kwd run):PySem.W.WalkX q loose XP (PySem.W.X.obsZ ks) (PySem.W.X.valZ K n t) r d kwd run:=
 fun w s₀ s₁ mg mb G y a o pm cd doc dV kV h1 h2 h3 h4 h5 h6 args vals as L g1 g2 g3 g4 g5=>W w s₀ s₁ mg mb G (PySem.W.InK.keeps w s₀.heap s₁.heap (PySem.W.X.z_facts e y).2.1 L.keeps) a o pm cd doc dV kV h1 h2 h3 h4 h5 h6 args vals as g1 g2 g3 g4 g5
end My
namespace PySem.W.Fast
def tw10001600766774937841:=()
def tw10015310746148308377:=()
def tw10029527132964224540:=()
def tw10112859392774924985:=()
def tw10182220515502873835:=()
def tw10218082334726221700:=()
def tw10226953744251101950:=()
def tw1024061893829921676:=()
def tw10317189573993750627:=()
def tw10325637919650357455:=()
def tw10450234165592068363:=()
def tw10451340395604122511:=()
def tw10528235802931799749:=()
def tw10565628809615577184:=()
def tw10580647615023098702:=()
def tw10585380416553173980:=()
def tw10647228580600780005:=()
def tw10691425361396090710:=()
def tw10721040945047043984:=()
def tw10812437035918139892:=()
def tw10821577139542636704:=()
def tw10833802362558590267:=()
def tw10972231941018277594:=()
def tw10982871104296872151:=()
def tw10991803174710965126:=()
def tw10998599081028120375:=()
def tw11004698175151790786:=()
def tw11054350058294090798:=()
def tw11078062771135965842:=()
def tw11099100758292480214:=()
def tw11119970474325729097:=()
def tw11122656688766673457:=()
def tw11128203143274096332:=()
def tw11131614791562559939:=()
def tw1119336763662504154:=()
def tw1132811745754281614:=()
def tw11336369327900716508:=()
def tw11343369907343991292:=()
def tw11363934363387513522:=()
def tw11375110843783810230:=()
def tw11398466858770665113:=()
def tw11445484729257875019:=()
def tw11488026802412749326:=()
def tw11499136840162066288:=()
def tw11499646912882538591:=()
def tw11511434268470155926:=()
def tw11512088933498569051:=()
def tw11591974144482846967:=()
def tw11600604757209674465:=()
def tw11609119473030130648:=()
def tw11623768271534573404:=()
def tw11699055115783555770:=()
def tw1175236094233256617:=()
def tw11757009795635586201:=()
def tw11764100087601101470:=()
def tw11778804467633292664:=()
def tw11779246739495562972:=()
def tw11795037868059980543:=()
def tw11814511202225209567:=()
def tw11829612255282429262:=()
def tw11846657014899888011:=()
def tw11862057321148108924:=()
def tw11942280766736283894:=()
def tw11956022419576432447:=()
def tw11983701300825323706:=()
def tw11989049309323588824:=()
def tw12045404294973305664:=()
def tw12056334919541368495:=()
def tw12128815222114387109:=()
def tw12154426143730957477:=()
def tw12183464772872841265:=()
def tw12202585632200098635:=()
def tw12218184612622180266:=()
def tw12286635816932299706:=()
def tw12311889414840025939:=()
def tw12330317727671984381:=()
def tw123723038356851511:=()
def tw12412064535748847888:=()
def tw12420366786686225873:=()
def tw12472625799951356341:=()
def tw12503053561132198403:=()
def tw12537877535875563146:=()
def tw12675678189856531962:=()
def tw12743403387308756780:=()
def tw12814516514179720732:=()
def tw1289328451633186333:=()
def tw12976998411097812266:=()
def tw13065045301016207728:=()
def tw13083283231283763556:=()
def tw13110517937497866586:=()
def tw13134850998622270958:=()
def tw13142928190214425248:=()
def tw13158883550935910889:=()
def tw13220184633748173205:=()
def tw13226028366614225649:=()
def tw13232957550850059904:=()
def tw13267311469025088938:=()
def tw1327397398203770012:=()
def tw13286654969649952921:=()
def tw13309147991825380387:=()
def tw13330427003491424465:=()
def tw13377844651660493018:=()
def tw13385850869165541364:=()
def tw13406462326971319928:=()
def tw13414198688973352744:=()
def tw13425329343721308110:=()
def tw13515829979872628264:=()
def tw13528987425556410700:=()
def tw13530241873712483726:=()
def tw13533968985123109880:=()
def tw13537252612075183578:=()
def tw13568731399461435642:=()
def tw13596856230874642100:=()
def tw13599530098169973101:=()
def tw13620424869663380494:=()
def tw13652740899960596256:=()
def tw13666509587298209715:=()
def tw13669293551347237482:=()
def tw1380938159568588398:=()
def tw13811574907438529081:=()
def tw13872458097889882266:=()
def tw13941788446746635733:=()
def tw13945565144076652216:=()
def tw1406235629029412128:=()
def tw14076513055538106322:=()
def tw14221831407883011026:=()
def tw14388427037590011206:=()
def tw14415786893243473926:=()
def tw14419750482970372646:=()
def tw14460541784014541163:=()
def tw14540472401390579162:=()
def tw14553817868626383192:=()
def tw14558181243555981552:=()
def tw14619069522412619352:=()
def tw1462552907880059007:=()
def tw14657750496941459473:=()
def tw14662086404788331432:=()
def tw14669516201467832540:=()
def tw14684386766799302466:=()
def tw14706562751791147821:=()
def tw14727320238555596780:=()
def tw14753492264902416377:=()
def tw14788519192826017855:=()
def tw14815732199851498500:=()
def tw14816606797381551809:=()
def tw148379589010632400:=()
def tw14848974724246491480:=()
def tw14858453983030154074:=()
def tw1487638721640832843:=()
def tw14889543021296123439:=()
def tw14896305631172678020:=()
def tw14915515863933189783:=()
def tw14932493506100144627:=()
def tw14939136395719109026:=()
def tw14945941258078373877:=()
def tw15122515518642116100:=()
def tw15126228964853842451:=()
def tw1520944906308672140:=()
def tw15214585206048172390:=()
def tw15312097581107722206:=()
def tw15343802298660987820:=()
def tw15350613420368200538:=()
def tw1537202356563870676:=()
def tw15447200395209238963:=()
def tw15477096471539230309:=()
def tw1547922595188010993:=()
def tw15496231520662155735:=()
def tw15635896588675784950:=()
def tw15637941705768401271:=()
def tw1576458593269570828:=()
def tw15818138050308885149:=()
def tw15914679524850396859:=()
def tw15936867470702456175:=()
def tw16121554154466001250:=()
def tw16128322669665333257:=()
def tw16187725666034224223:=()
def tw16195418249127323853:=()
def tw16235071901918268681:=()
def tw16243926225340608507:=()
def tw16246331785569336288:=()
def tw16285078148374727784:=()
def tw162886783507661061:=()
def tw16323652298065941517:=()
def tw16336604968653423802:=()
def tw16366661845364719933:=()
def tw16382713915003389251:=()
def tw16399236855866402966:=()
def tw164019992034565414:=()
def tw16424396158598506050:=()
def tw16472063697890546309:=()
def tw16479219706015096458:=()
def tw16505117046335260854:=()
def tw16515329116376680986:=()
def tw16569294164839842602:=()
def tw16591384312729431392:=()
def tw16735360266979399546:=()
def tw16840086896237157122:=()
def tw16984964102553059424:=()
def tw17176850084576635018:=()
def tw17188704537590020909:=()
def tw17199015239061111055:=()
def tw17232269958258999781:=()
def tw17299034528940296084:=()
def tw1730434521245849531:=()
def tw17330189935021663061:=()
def tw17343057310555902174:=()
def tw17343068703334519234:=()
def tw1736361543719408180:=()
def tw17372037456432773381:=()
def tw17392558944241136708:=()
def tw17449125221186884918:=()
def tw17483009171945042438:=()
def tw17496121558004906795:=()
def tw17556265593095644066:=()
def tw17581395835662034694:=()
def tw17606082624870201063:=()
def tw17647376143450467940:=()
def tw17655605127456511173:=()
def tw17662846899313148227:=()
def tw17676354571017746594:=()
def tw1768215564665280938:=()
def tw17743978671770952184:=()
def tw17771471747341831645:=()
def tw17812734857413792305:=()
def tw17852717037688644491:=()
def tw1787763617408308921:=()
def tw17911443913079630618:=()
def tw18044675325379680970:=()
def tw1814625388214613767:=()
def tw18152891421985618646:=()
def tw18172752664729929732:=()
def tw18195956218461991172:=()
def tw18203123176367578335:=()
def tw1821598604616942449:=()
def tw18226642261419859521:=()
def tw18232446061590682473:=()
def tw18400239480271583779:=()
def tw18439830389067735264:=()
def tw1853069192305773098:=()
def tw1909378185754309300:=()
def tw1910854007368874626:=()
def tw1920773378967162185:=()
def tw1962380453208268709:=()
def tw1989865695476359166:=()
def tw1991366310397579195:=()
def tw1996951231669227944:=()
def tw2054014920923945102:=()
def tw2077685140593714701:=()
def tw213703422227155775:=()
def tw2170590979796700488:=()
def tw2175784581309814234:=()
def tw2246254083547337613:=()
def tw2251994776012697312:=()
def tw2304409477021455589:=()
def tw2307071199841450722:=()
def tw234387130195032143:=()
def tw2351093791042976174:=()
def tw2387038162821580907:=()
def tw2459101923483439482:=()
def tw2475047806265906123:=()
def tw2517507264341689930:=()
def tw2652910850630229716:=()
def tw2660639083377762124:=()
def tw2685995148392509291:=()
def tw2736574967214736760:=()
def tw2772106466158004106:=()
def tw2824554361586470405:=()
def tw2874647778056737416:=()
def tw2899106166125885137:=()
def tw2922157487707420717:=()
def tw2997696343163995433:=()
def tw3024762280106434475:=()
def tw302653187491352988:=()
def tw303240081845080262:=()
def tw3090902721999690026:=()
def tw3140354029830612818:=()
def tw3203558230923021330:=()
def tw3221561307327246964:=()
def tw3226035391440271508:=()
def tw3264459562904744790:=()
def tw3265290739753341553:=()
def tw3269099553158203732:=()
def tw3269680713008626671:=()
def tw3285878234690670515:=()
def tw3315031122734615418:=()
def tw3355158181926310147:=()
def tw3472945739207280676:=()
def tw3480068291136265668:=()
def tw3626168389632319669:=()
def tw3658648698030352334:=()
def tw3661141557618453475:=()
def tw3684843831447850093:=()
def tw3700956536963189508:=()
def tw371893082615738675:=()
def tw377535378955899042:=()
def tw3798272439365185801:=()
def tw3842462519301853697:=()
def tw3986007163994477373:=()
def tw4022450438121504181:=()
def tw4077385502657130330:=()
def tw4099925702525601691:=()
def tw4114015905802113395:=()
def tw4118938505394580587:=()
def tw4123119570290832184:=()
def tw4134465137193645093:=()
def tw4134797415312195709:=()
def tw4138019872180009672:=()
def tw4165291523911946487:=()
def tw4223879773500033937:=()
def tw4284477068562211928:=()
def tw4306008638169365310:=()
def tw4314701954441558626:=()
def tw4382833502780669622:=()
def tw4441343892010425291:=()
def tw4463355301723337977:=()
def tw4484858482533956652:=()
def tw4494808412071251622:=()
def tw4496696108771569437:=()
def tw4512142073428874135:=()
def tw4550250780806268283:=()
def tw4587105629682573708:=()
def tw4638974485688421845:=()
def tw4641149781631221830:=()
def tw4699014506605013884:=()
def tw4702643479562193218:=()
def tw4751254603161292859:=()
def tw4775519766551697761:=()
def tw4797329088948398770:=()
def tw4888394381986080011:=()
def tw4914560609361821598:=()
def tw492812454754091316:=()
def tw4972046735751252579:=()
def tw4987016394463304477:=()
def tw5027860465921011615:=()
def tw5053794529901900336:=()
def tw5218066028292880599:=()
def tw5333177144596717320:=()
def tw5354788159981045032:=()
def tw549674728027589852:=()
def tw5680745933157105421:=()
def tw570180366520067994:=()
def tw5709148254802135617:=()
def tw5811289025756386554:=()
def tw5838310139222157753:=()
def tw5853616185503477432:=()
def tw5882892297764473147:=()
def tw5966734058342335034:=()
def tw6065971734104404065:=()
def tw6072395714257834391:=()
def tw6101715908583052200:=()
def tw6126471232995264490:=()
def tw6128876065417847728:=()
def tw6154896739960037010:=()
def tw6157549570784639798:=()
def tw6299379314628971999:=()
def tw6303106245586819628:=()
def tw6341134893688837:=()
def tw6359915931335247022:=()
def tw6389593085040058054:=()
def tw6410732209918449954:=()
def tw6414093162956448061:=()
def tw6566379043817154366:=()
def tw6593662662455355393:=()
def tw6664065598031226490:=()
def tw6684397774224307394:=()
def tw6723387296084449891:=()
def tw6741310333061269057:=()
def tw6744298436156586375:=()
def tw6776599630982708570:=()
def tw6835247259371057935:=()
def tw6849713334285684852:=()
def tw6869303055524691234:=()
def tw6944704391022745456:=()
def tw6975894061981600407:=()
def tw6984308362753025653:=()
def tw6997694018879133814:=()
def tw7008389531063077585:=()
def tw7010403751404150039:=()
def tw7047459414483514176:=()
def tw7056682371433243587:=()
def tw7057730207059511960:=()
def tw710065722493061694:=()
def tw7134059472320705840:=()
def tw7160372363215012112:=()
def tw7167220097685871616:=()
def tw717357185872546829:=()
def tw7178022834528802080:=()
def tw7205298896453442893:=()
def tw7255912392801273663:=()
def tw7283053257867299217:=()
def tw7369192582844068219:=()
def tw7377719615365994897:=()
def tw7527394708257675749:=()
def tw7618595517612249534:=()
def tw7671395927089306000:=()
def tw7757644073856269890:=()
def tw7762187815799565483:=()
def tw7767658342053882496:=()
def tw7769392828054921319:=()
def tw7790003759541312534:=()
def tw7870960151545627072:=()
def tw8006036944291026837:=()
def tw8102270864875737292:=()
def tw8123754398092855097:=()
def tw8210624782394743468:=()
def tw8279192520930098916:=()
def tw8285417054291619582:=()
def tw8424241381453487062:=()
def tw8430548055157219872:=()
def tw8464247044407995319:=()
def tw8482817307774074366:=()
def tw8541736503264491284:=()
def tw854912425476615127:=()
def tw8658402208868722330:=()
def tw8659725120139887820:=()
def tw8675362576524709312:=()
def tw870925904869086882:=()
def tw8724201476367191525:=()
def tw8797584991365534455:=()
def tw8812028075420457821:=()
def tw8877736620422584592:=()
def tw8994971724500423359:=()
def tw9015217624816400953:=()
def tw9124091253920847986:=()
def tw9203916786828999617:=()
def tw9203971098968986107:=()
def tw9229412911322146832:=()
def tw9284984501746170491:=()
def tw9349396268834604046:=()
def tw9411458420744754581:=()
def tw945411878092876284:=()
def tw9624268883291552404:=()
def tw96498571953528742:=()
def tw9724074458973783922:=()
def tw9728826181804464224:=()
def tw9744577515834476200:=()
def tw9750819225808213767:=()
def tw9861546771466711975:=()
def tw986963354254068495:=()
def tw9917529137309094765:=()
def tw9931419081103081472:=()
def tw9942238722148636705:=()
def tw994574345345737208:=()
def tw9984693045325792714:=()
def tw9987206281764599091:=()
end PySem.W.Fast
open PySem PySem.W PyProof.Rows
set_option maxRecDepth 100000 in
set_option maxHeartbeats 0 in
theorem PySem.Challenge.cw_backissues_k38_whole_run_holds : PySem.Challenge.rw_backissues_k38_whole_run.Holds := by
 w_on; o_law; z_head; (case hw => w_witness2)
 k_fill
 refine My.w27 (fun _ => by kernel_rfl) ?_
 refine My.walk (l := PySem.Challenge.rw_backissues_k38_whole_run) rfl rfl (fun w h Y => Y) ?F
 case F =>
  intro w mg fa h KX G hmg
  refine' My.y7N KX G hmg ?cOffice ?cShelf ?cBook ?nOffice_names ?nOffice_reach ?nOffice_written ?nShelf_names ?nShelf_reach ?nShelf_issues ?nBook_office ?nBook_readers ?nBook_done ?a0 ?a1 ?a2 ?a3 ?a4 ?a5 ?a6 ?a7 ?a8 ?a9 ?a10 ?a11 ?a12 ?a13 ?a14 ?a15 ?a16 ?a17 ?a18 ?a19 ?a20 ?a21 ?a22 ?a23 ?a24 ?a25 ?a26 ?a27 ?a28 ?a29 ?a30 ?a31 ?a32 ?a33 ?a34 ?a35 ?a36 ?a37 ?a38 ?a39 ?a40 ?a41 ?a42 ?a43 ?a44 ?a45 ?a46 ?a47 ?a48 ?a49 ?a50 ?a51 ?a52 ?a53 ?a54 ?a55 ?a56 ?a57 ?a58 ?a59 ?a60 ?a61 ?a62 ?a63 ?a64 ?a65 ?a66 ?a67 ?a68 ?d36 ?xBackError ?xBadNames ?xBadReach ?xBadReaders ?xOfficeFull ?xUnknownName ?xNameTwice ?xBadValue ?xNotWritten ?xUnknownReader ?xBookFull ?xNoSuchDeed ?xTooManyCourses ?xb ?xc ?zlen ?zrange ?ztuple ?zlist ?zmax ?zmin ?zsorted ?zisinstance ?zbool ?zint ?zstr ?zset ?zreversed ?zdict ?zzip ?zall ?zValueError ?vMOST_NAMES ?vMOST_REACH ?vMOST_NUMBERS ?vMOST_VALUE ?vMOST_READERS ?vMOST_DEEDS ?vWRITE ?vDELIVER ?vSURE ?vSTALE ?vOPEN
  case' cOffice | cShelf | cBook => exact ⟨by k_is, by k_is, by k_is, by k_is, by k_is, by k_is, by k_is⟩
  case' nOffice_names | nOffice_reach | nOffice_written | nShelf_names | nShelf_reach | nShelf_issues | nBook_office | nBook_readers | nBook_done => k_is
  case' a0 | a1 | a2 | a3 | a4 | a5 | a6 | a7 | a8 | a9 | a10 | a11 | a12 | a13 | a14 | a26 | a37 | a38 | a39 | a40 | a41 | a42 | a43 | a44 | a45 | a46 | a47 | a48 | a49 | a50 | a51 | a52 | a53 | a54 | a55 | a56 | a57 | a58 | a59 | a60 | a61 | a62 | a63 | a64 | a65 | a66 | a67 | a68 => exact ⟨by k_is, _, _, _, _, _, _, _, _, _, by k_is, by k_is, by k_is⟩
  case' a15 | a16 | a17 | a18 | a19 | a20 | a21 | a22 | a23 | a24 | a25 | a27 | a28 | a29 | a30 | a31 | a32 | a33 | a34 | a35 | a36 => exact ⟨by k_is, by k_is, _, _, _, _, _, _, _, _, _, by k_is, by k_is, by k_is⟩
  case' d36 => exact ⟨_, _, _, _, by k_is⟩
  case' xBackError | xBadNames | xBadReach | xBadReaders | xOfficeFull | xUnknownName | xNameTwice | xBadValue | xNotWritten | xUnknownReader | xBookFull | xNoSuchDeed | xTooManyCourses => k_is
  case' xb => k_exc
  case' xc => kernel_rfl
  case' zlen | zrange | ztuple | zlist | zmax | zmin | zsorted | zisinstance | zbool | zint | zstr | zset | zreversed | zdict | zzip | zall | zValueError | vMOST_NAMES | vMOST_REACH | vMOST_NUMBERS | vMOST_VALUE | vMOST_READERS | vMOST_DEEDS | vWRITE | vDELIVER | vSURE | vSTALE | vOPEN => k_is