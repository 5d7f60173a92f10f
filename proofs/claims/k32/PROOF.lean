import PyProof.Rows.All
import Wide.All
import OpenK.AllK
import Wide.FinOn
import Lean
import PyProof.EqAt
import PyProof.EqKinds
import PyProof.TupleCall
import PyProof.WalksMore
import PyProof.ListRange
import PyProof.NeKinds
import PyProof.SliceStr2
import PyProof.StrOps2
import PyProof.Rows.SetFrom
import PyProof.MinMaxWalk
import KE.KRevIter
import KE.KDictList
import PyProof.AttrMiss
import PyProof.IsiH_list
import PyProof.IsiH_tuple
import KE.KDictOf
import PyProof.ZipIter
import PyProof.TupleIter
import KE.KxWritten
import OpenK.KOwn
import KE.KTryMore
import PyProof.StrLawsRepr
import PyProof.RulesDel
import PyProof.RulesAs
import PyProof.ExcArgsOwn
import KE.KIsAll
import PyProof.SetKind
import PyProof.TupleKey
import PySem.Challenge.RW_backissues_k32_whole_all_courses
set_option Elab.async false
set_option linter.all false
set_option maxHeartbeats 4000000
set_option maxRecDepth 100000
open List renaming length_map->bA,getElem?_eq_getElem->bC,mem_singleton->bD,getElem?_map->bE,length_append->bF,mem_of_getElem?->bH,mem_cons->bI,getElem?_eq_some_iff->bK,length_take->bL,map_append->bM,size_toArray->bN,getD_eq_getElem?_getD->bR,mem_cons_self->bT,mem_cons_of_mem->bU,length_cons->bW,take_length->bY,mem_append->bZ,mem_map->cD,mem_append_right->cF,mem_filter->cG,map_cons->cJ,length_filter_le->cL,take_of_length_le->cN,length_singleton->cP,getElem?_append_left->cS,getElem?_append_right->cV,take_zero->cW,mem_range->cY,exists_cons_of_length_eq_add_one->d6,length_replicate->d7,mem_iff_getElem?->d9,append_nil->dB,pairwise_map->dC,eq_nil_of_length_eq_zero->dD,nodup_cons->dE,pairwise_append->dF,not_mem_nil->dG,foldl_cons->dI,length_drop->dL,nodup_iff_pairwise_ne->dR,filter_append->dS,replicate_succ->dY,append_assoc->eB,map_map->eJ,find?_cons->eO,pairwise_singleton->eU,mem_append_left->eV,mem_of_mem_take->eX,nodup_append->eY,filter_cons->fB,getElem?_replicate->fF,length_range->fI,take_add_one->fJ,length_nil->fO,getElem?_append->fP,filter_nil->fQ,mem_map_of_mem->fS,getElem_mem->fT,all_cons->fX,any_cons->fZ,foldl_append->g9,pairwise_iff_getElem->gB,drop_zero->gC,all_eq_true->gH,filterMap_cons->gN,length_pos_iff->gQ,getElem?_drop->gY,pairwise_lt_range->hG,filter_eq_nil_iff->hU,flatten_cons->hV,countP_congr->j5,take_append_drop->jA,dropLast_concat_getLast->jD,countP_eq_length_filter->jE,idxOf_lt_length_of_mem->jF,nil_sublist->jG,reverse_reverse->jH,take_succ_cons->jL,map_congr_left->jM,length_reverse->jN,getElem?_range->jO,countP_nil->jS,pairwise_cons->jW,any_map->jZ,eq_of_mem_replicate->k7,length_eq_zero_iff->k9,take_sublist->kA,lookup_cons->kG,any_eq_true->kI,sublist_nil->kJ,mem_reverse->kK,pairwise_reverse->kN,getElem?_set_ne->kO,forIn_cons->kR,all_map->kS,getElem_of_mem->kY,getElem_attach->kZ,mem_filterMap->l7,getElem?_take->l9,find?_eq_none->lA,ne_nil_of_mem->lB,getElem_idxOf->lC,countP_append->lD,any_eq_false->lF,filter_congr->lH,countP_cons->lN
open PySem.Heap renaming get?_push_of_some->bB,get?_push_size->bJ,lt_size->bQ,get?_update_other->cZ,get?_update_self->dO,size_push->eI
open Nat renaming le_refl->bG,le_trans->c7,ne_of_lt->c8,zero_le->cQ,lt_of_lt_of_le->cR,lt_of_le_of_lt->d8,le_of_lt->dJ,not_lt_zero->dU,add_le_add_left->dZ,lt_irrefl->eF,zero_add->eZ,pow_le_pow_right->fE,lt_succ_of_lt->fH,ne_of_gt->fL,le_succ->fN,le_mul_of_pos_right->fR,div_div_eq_div_mul->fU,sub_self->fW,lt_succ_self->gD,succ_pos->gE,pow_succ->gJ,pow_zero->gK,zero_mul->gM,mod_lt->gX,le_of_lt_succ->hW,mul_comm->j7,sub_zero->j8,add_zero->j9,mul_le_mul_right->jI,pow_add->jK,div_add_mod->jP,min_eq_left->jQ,pos_of_ne_zero->jU,le_add_right->kH,succ_mul->kQ,lt_or_ge->kW,div_one->l6,lt_trichotomy->lG,le_of_not_lt->lI,lt_trans->lJ,mod_eq_of_lt->lK,succ_le_succ->lM
open PySem renaming boot_len->bO,mem_of_lookup->gP,wpAny_bind->Pl,wpAny_pure->Pm,codeAny_builtin->Pw,wpAny_holding->Py,wpAny_seqItems->Pz,wpAny_newObj_type->OA,plainId_quiet->OB,wpAny_field->OC,wpAny_call_entry->OD,wpAny_callSpecial?_slot->OE,wpAny_mono->OF,wpAny_ite_split->OG,wpAny_tryCatch->OI,wpAny_specialOf->OJ,wpAny_pyIter_tuple->OL,sizeLine_eq->OM,wpAny_pyIter_list->ON,wpAny_setState_of->OO,builtinLookup_eq_fast->OP,wpAny_of_eq->OQ,codeAny_mono->OR,wpAny_truthy_bool->OT,wpAny_setEntries_of->OU,isSubtype_type->OV,wpAny_letGo->OW,wpAny_Call_Name_kw->OX,wpAny_isInstance->OZ,wpAny_forIn_list->Oa,wpAny_updateSeq->Oc,wpAny_rule->Od,typeLookup_type->Oe,wpAny_setField_rec->Og,wpAny_typeOf->Oh,wpAny_runValue->Oi,codeAny_call_builtin->Ol,wpAny_passesOwn->Om,wpAny_setField->Oo,wpAny_pyNext_range_end->Oq,wpAny_pyIter_rangeiter->Ot,wpAny_attempt->Ou,call_meets->Ov,wpAny_pyIter_range->Ow,tupleKind_room_in1->Ox,wpAny_standAt->Oy
open Bool renaming false_ne_true->bP,and_eq_true->bX,eq_iff_iff->cX,false_eq_true->fV,or_eq_true->gU,not_eq_true'->j0,eq_false_iff->j4,and_false->j6,true_and->kF,and_true->lE
open PyProof.Rows renaming boot_tuple->bS,boot_isinstance->cK,callWith_type1->dN,slot_tuple_getitem->dP,boot_max->fM,boot_sorted->gL,boot_set->jC,boot_list->kD,boot_dict->kE,boot_str->kM
open Option renaming map_eq_some_iff->bV
open PySem.PassesOwn renaming never->c6
open PySem.F renaming plainAttrs_list->cA,slot_list_append->cB,type_list_append->cE,called_set->dM,plain_max_loop->dW,plain_min_loop->dX,slot_tuple_iterator_next->g8,slot_tuple_getattribute->gA,slot_list_getattribute->gF,plain_list_iadd->gR,entry_max_loop->gZ,entry_min_loop->h9,slot_tuple_hash->hZ,args_tuple_add_2->jT,entry_tuple_add->k8,slot_tuple_add->kC,slot_zip_next->kU
open PySem.Around renaming under_plainId->cH,in1_units->fA
open Int renaming emod_lt_of_pos->cI,emod_nonneg->cT,toNat_natCast->fG,le_refl->hE,zero_add->jB,natCast_pow->jR,natCast_nonneg->jV
open Array renaming getElem?_toList->cM,length_toList->cO,getElem?_eq_getElem->dH,getElem?_eq_some_iff->g0,forIn_toList->jY,mem_toList_iff->kP
open PySem.W renaming mg_none_of->cU,mg_of->dQ,kia_one->eM,methodCall_KW->kL,plainGet_of->kX,callWith_K->l8
open Classical renaming byContradiction->dA
open Ne renaming symm->eQ
open PyProof.Rows.F renaming plain_set_update_loop->eS,entry_set_update_loop->gS
open PySem.Heap.SameBut renaming update->fK
open List.Sublist renaming refl->j3
open PySem.Paired renaming snoc->jJ
open List.Pairwise renaming imp_of_mem->jX
open PyProof renaming noPylong_small->kB
open Or renaming inl->NC
abbrev Pn:=@if_neg
abbrev Po:=@if_pos
abbrev Pp:=@decide_eq_true_eq
abbrev Pq:=@decide_eq_true
abbrev Pt:=@decide_eq_false
abbrev Pu:=@congrArg
abbrev Px:=@of_decide_eq_true
abbrev OH:=@beq_self_eq_true
abbrev OY:=@or_false
abbrev Ob:=@decide_eq_false_iff_not
abbrev Oj:=@beq_iff_eq
abbrev NA:=@not_or
abbrev AA:=PySem.W.Frag
abbrev AB:=PySem.Value->PySem.Shared->Prop
abbrev AD:=PySem.Shared->Prop
abbrev AE:=PySem.Addr×PySem.Obj
abbrev AF:=List PySem.Str
abbrev AG:=List PySem.Value
abbrev AH:=Option PySem.Value
abbrev AI:=Array PySem.Value
abbrev AJ:=List Int
theorem NB:(n:Nat)->(h:n<=1000:=by decide)->n<=PySem.sizeLine:=fun _ h=>Nat.le_trans h (by decide)
abbrev ND:=@absurd
namespace L2
open PySem PySem.Spec PyProof.Rows
abbrev Key:=Sum Int Str
noncomputable def vf:Key->Value->Bool
 | .inl k,v=>Value.isInt k v
 | .inr x,v=>Value.isStrOf x v
noncomputable def keyH(w:World):Key->Int
 | .inl k=>hashInt k
 | .inr x=>hashStr w x
theorem wU:∀{k:Key}{v:Value},vf k v=true->(∃i t,k=Sum.inl i/\v=Value.int i t)\/(∃x t,k=Sum.inr x/\v=Value.str x t)
 | .inl i,v,h=>by
  obtain⟨t,e⟩:=Value.isInt_shape (k:=i) (v:=v) h
  exact .inl ⟨i,t,rfl,e⟩
 | .inr x,v,h=>by
  obtain⟨t,e⟩:=Value.isStrOf_shape (x:=x) (v:=v) h
  exact .inr ⟨x,t,rfl,e⟩
theorem SK(i:Int)(t:Tok):vf (.inl i) (.int i t)=true:=by simp[vf,Value.isInt]
theorem Sd(x:Str)(t:Tok):vf (.inr x) (.str x t)=true:=by simp[vf,Value.isStrOf]
theorem VB(a b:Int):decide ((Sum.inl a:Key)=Sum.inl b)=(a == b):=by
 by_cases e:a=b
 ·subst e;simp
 ·have h:¬(Sum.inl a:Key)=Sum.inl b:=fun q=>e (Sum.inl.inj q)
  rw[Pt h]
  exact(beq_eq_false_iff_ne.mpr e).symm
theorem WY(a b:Str):decide ((Sum.inr a:Key)=Sum.inr b)=decide (a=b):=by
 by_cases e:a=b
 ·subst e;simp
 ·have h:¬(Sum.inr a:Key)=Sum.inr b:=fun q=>e (Sum.inr.inj q)
  rw[Pt h,Pt e]
theorem Wr(a:Int)(b:Str):decide ((Sum.inl a:Key)=Sum.inr b)=false:=Pt (fun q=>nomatch q)
theorem Wl(a:Str)(b:Int):decide ((Sum.inr a:Key)=Sum.inl b)=false:=Pt (fun q=>nomatch q)
noncomputable def xF(prog:Program)(w:World):PySem.KeyKind prog w Key where
 is:=vf
 hash:=keyH w
 inj:=fun v a b ha hb=>by
  rcases wU ha with ⟨i,t,rfl,rfl⟩|⟨x,t,rfl,rfl⟩
  ·rcases wU hb with ⟨j,u,rfl,e⟩|⟨y,u,rfl,e⟩
   ·injection e with e1 _;rw[e1]
   ·exact nomatch e
  ·rcases wU hb with ⟨j,u,rfl,e⟩|⟨y,u,rfl,e⟩
   ·exact nomatch e
   ·injection e with e1 _;rw[e1]
 byValue:=fun k v h=>by
  rcases wU h with ⟨i,t,rfl,rfl⟩|⟨x,t,rfl,rfl⟩<;>rfl
 pyHash:=fun hv h=>by
  rcases wU hv with ⟨i,t,rfl,rfl⟩|⟨x,t,rfl,rfl⟩
  ·exact wpAny_pyHash_int h
  ·exact wpAny_pyHash_str h
 eqBool:=fun hu hv h=>by
  rcases wU hu with ⟨i,t,rfl,rfl⟩|⟨x,t,rfl,rfl⟩
  ·rcases wU hv with ⟨j,u,rfl,rfl⟩|⟨y,u,rfl,rfl⟩
   ·rw[VB] at h;exact wpAny_eqBool_int h
   ·rw[Wr] at h;exact SeqAt.EqAt.int_str i t y u _ _ _ _ h
  ·rcases wU hv with ⟨j,u,rfl,rfl⟩|⟨y,u,rfl,rfl⟩
   ·rw[Wl] at h;exact SeqAt.EqAt.str_int x t j u _ _ _ _ h
   ·rw[WY] at h;exact wpAny_eqBool_str h
 «strs»:=fun k x t v h=>by
  rcases wU h with ⟨i,u,rfl,e⟩|⟨y,u,rfl,e⟩
  ·exact nomatch e
  ·injection e with e1 _
   subst e1
   cases v<;>rfl
theorem Qz(prog:Program)(w:World)(i:Int)(t:Tok):(xF prog w).is (.inl i) (.int i t)=true:=SK i t
theorem Qo(prog:Program)(w:World)(x:Str)(t:Tok):(xF prog w).is (.inr x) (.str x t)=true:=Sd x t
inductive V where
 | non|bl (b:Bool)|int (i:Int)|str (x:Str)|byt (b:Array UInt8)|flt (b:UInt64)|ref (a:Addr)|ty (n:String)
 deriving DecidableEq
abbrev AK:=List V
def RelV:V->Value->Prop
 | .non,u=>u=Value.none
 | .bl b,u=>u=Value.bool b
 | .int i,u=>∃t,u=Value.int i t
 | .str x,u=>∃t,u=Value.str x t
 | .byt b,u=>∃t,u=Value.bytes b t
 | .flt b,u=>∃t,u=Value.float b t
 | .ref a,u=>u=Value.ref a
 | .ty n,u=>u=Value.type n
abbrev Vals:AK->AG->Prop:=Paired RelV
theorem Vals.length{xs:AK}{us:AG}(r:Vals xs us):xs.length=us.length:=Paired.length r
theorem Vals.get:∀{xs:AK}{us:AG}{i:Nat}{x:V},Vals xs us->xs[i]? = some x->∃u,us[i]? = some u/\RelV x u
 | _,_,_,_,.nil,e=>by simp at e
 | _,_,0,_,.cons r _,e=>by simp at e;subst e;exact⟨_,rfl,r⟩
 | _,_,i+1,x,.cons _ t,e=>by
  obtain⟨u,h1,h2⟩:=Vals.get (i:=i) (x:=x) t (by simpa using e)
  exact⟨u,by simpa using h1,h2⟩
theorem Vals.append:∀{xs ys:AK}{us ws:AG},Vals xs us->Vals ys ws->Vals (xs++ys) (us++ws)
 | _,_,_,_,.nil,s=>s
 | _,_,_,_,.cons r t,s=>.cons r (Vals.append t s)
theorem Vals.take:∀{xs:AK}{us:AG} (n:Nat),Vals xs us->Vals (xs.take n) (us.take n)
 | _,_,0,_=>.nil
 | _,_,_+1,.nil=>.nil
 | _,_,n+1,.cons r t=>.cons r (Vals.take n t)
theorem Vals.drop:∀{xs:AK}{us:AG} (n:Nat),Vals xs us->Vals (xs.drop n) (us.drop n)
 | _,_,0,r=>r
 | _,_,_+1,.nil=>.nil
 | _,_,n+1,.cons _ t=>Vals.drop n t
noncomputable def M5:Option V->AH->Prop
 | some v,some u=>RelV v u
 | none,none=>True
 | _,_=>False
noncomputable def KV{κ:Type}:List (κ×V)->List (κ×Value)->Prop:=Paired fun(p:κ×V) (q:κ×Value)=>p.1=q.1/\RelV p.2 q.2
def kV:Key->V
 | .inl i=>.int i
 | .inr x=>.str x
inductive HO where
 /-- a list -/
 | lst (xs:AK)
 /-- a tuple (never changes) -/
 | tup (xs:AK)
 /-- a dict whose keys are ints and texts;one whose keys are tuples of ints and texts (the empty one is both) -/
 | dK (kvs:List (Key×V))|dT (kvs:List (List Key×V))
 /-- a set of ints: zC members,zC size -/
 | set (S:Int->Bool) (n:Nat)
 /-- an instance of the class at C,zC dict at dx,zC attributes -/
 | ins (C dx:Addr) (fs:List (Str×V))
 /-- the dict of the instance at x -/
 | own (x:Addr)
 /-- the dict of an exception -/
 | xd (fs:List (Str×V))
 /-- a bound method,f of x -/
 | met (f x:Addr)
 /-- a range object lo,lo+1,.. below hi -/
 | rng (lo hi:Int)
 /-- a thing that is known to the object (the script;a dict while a loop walks it): read,never written while it is so -/
 | frz (o:Obj) (u:HO)
 /-- a code object's table -/
 | tbl (ps:AI)
 /-- any other thing,by what is true of zC one object (a def of one's own: SetO a S n:=HO.ext fun h=>..) -/
 | ext (φ:Heap->Prop)
abbrev Hp:=Addr->Option HO
noncomputable def upd(H:Hp)(a:Addr)(o:HO):Hp:=fun b=>if b=a then some o else H b
noncomputable def PlT(h:Heap)(a:Addr)(zB:AI):Prop:=∃o,h.get? a=some o/\o.cls=.type "tuple"/\(∃n,o.data=.seq zB n)/\o.dict=none
theorem PlT.tup{h:Heap}{a:Addr}{zB:AI}(p:PlT h a zB):IsTup h a zB:=let ⟨o,e,c,d,_⟩:=p;⟨o,e,c,d⟩
theorem PlT.new(h:Heap)(zB:AI):PlT (h.push { cls:=.type "tuple",data:=.seq zB }) h.objs.size zB:=⟨_,bJ _ rfl,rfl,⟨_,rfl⟩,rfl⟩
theorem zM{H:Hp}{a:Addr}{o:HO}:upd H a o a=some o:=by unfold upd;rw[Po rfl]
theorem zS{H:Hp}{a b:Addr}{o:HO}(h:b≠a):upd H a o b=H b:=by unfold upd;rw[Pn h]
theorem vq{H:Hp}{a:Addr}{o u:HO}:upd (upd H a o) a u=upd H a u:=by
 funext b;unfold upd;split<;>rfl
theorem xW{H:Hp}{a b:Addr}{o u:HO}(h:H a=some o)(h':H b=some u)(d:o≠u):a≠b:=by
 intro e;subst e;rw[h] at h';exact d (Option.some.inj h')
theorem yC{H:Hp}{a b:Addr}{o:HO}(h:H a=some o)(h':H b=none):a≠b:=by
 intro e;subst e;rw[h] at h';cases h'
section
variable(P:Program)(w:World)
noncomputable def zv(H:Hp)(h:Heap)(a:Addr):HO->Prop
 | .lst xs=>xs.length<=sizeLine/\∃(zC:AG) (n:Nat),Vals xs zC/\h.get? a=some { cls:=.type "list",data:=.seq zC.toArray n }
 | .tup xs=>xs.length<=sizeLine/\∃zC:AG,Vals xs zC/\PlT h a zC.toArray
 | .dK kvs=>kvs.length<=sizeLine/\(a == sysModules)=false/\∃vs,KV kvs vs/\h.DictOf (xF P w) a vs
 | .dT kvs=>kvs.length<=sizeLine/\(a == sysModules)=false/\∃xs:List (List Key×Addr×Value),
   Paired (fun(p:List Key×V) (q:List Key×Addr×Value)=>p.1=q.1/\H q.2.1=some (.tup (p.1.map kV))/\RelV p.2 q.2.2) kvs xs/\
   ∃o es ep,h.get? a=some o/\o.ExactDict/\o.data=.dict es ep/\es.toList=xs.map (entryOfKey (tupleKind (xF P w)))/\(xs.map (·.1)).Nodup
 | .set S n=>h.SetOf (intKind P w) a S n
 | .ins C dx fs=>H dx=some (.own a)/\fs.length<=1000/\dx≠a/\h.get? a=some (PySem.W.instObj C dx)/\
   ∃mA,h.Ns1 dx mA/\(∀f,M5 (fs.lookup f) (mA f))/\PySem.Within mA (fs.map (·.1))
 | .own _=>∃o,h.get? a=some o
 | .xd fs=>∃mA,h.Ns1 a mA/\∀f,M5 (fs.lookup f) (mA f)
 | .rng lo hi=>∃t u v,h.get? a=some { cls:=.type "range",data:=.fields #[.int lo t,.int hi u,.int 1 v] }
 | .frz o u=>h.get? a=some o/\zv H h a u
 | .tbl ps=>h.get? a=some { cls:=.none,data:=.fields ps }
 | .met f x=>h.get? a=some (PySem.W.methodObj (.ref f) (.ref x))
 | .ext φ=>φ h/\(∃o,h.get? a=some o)/\∀h1 h2:Heap,φ h1->(∀o,h1.get? a=some o->h2.get? a=some o)->φ h2
noncomputable def HOk(H:Hp)(h:Heap):Prop:=∀a o,H a=some o->zv P w H h a o
end
section
variable{P:Program}{w:World}{H H':Hp}{h h':Heap}{a:Addr}{o:HO}
theorem zv.lt(x:zv P w H h a o):a<h.objs.size:=by
 cases o with
 | lst xs=>obtain⟨_,_,_,_,e⟩:=x;exact bQ e
 | tup xs=>obtain⟨_,_,_,o,e,_⟩:=x;exact bQ e
 | dK kvs=>obtain⟨_,_,_,_,o,_,_,e,_⟩:=x;exact bQ e
 | dT kvs=>obtain⟨_,_,_,_,o,_,_,e,_⟩:=x;exact bQ e
 | set S n=>obtain⟨o,_,_,_,e,_⟩:=x;exact bQ e
 | ins C dx fs=>obtain⟨_,_,_,e,_⟩:=x;exact bQ e
 | own y=>obtain⟨_,e⟩:=x;exact bQ e
 | xd fs=>obtain⟨_,⟨_,_,_,e,_⟩,_⟩:=x;exact bQ e
 | rng lo hi=>obtain⟨_,_,_,e⟩:=x;exact bQ e
 | frz ob u=>obtain⟨e,_⟩:=x;exact bQ e
 | tbl ps=>exact bQ (show h.get? a=some _ from x)
 | met f y=>exact bQ (show h.get? a=some _ from x)
 | ext φ=>obtain⟨_,⟨_,e⟩,_⟩:=x;exact bQ e
theorem Paired.Q1{α β:Type}{F G:α->β->Prop}:∀{l₁:List α}{l₂:List β},Paired F l₁ l₂->(∀a b,F a b->G a b)->Paired G l₁ l₂
 | _,_,.nil,_=>.nil
 | _,_,.cons r t,f=>.cons (f _ _ r) (Paired.Q1 t f)
theorem zv.Q6(x:zv P w H h a o)(k:∀b u,(b=a\/H b=some (.own a))->h.get? b=some u->h'.get? b=some u)
  (ho:∀b,H b=some (.own a)->H' b=some (.own a)) (ht:∀b xs,H b=some (.tup xs)->H' b=some (.tup xs)):zv P w H' h' a o:=by
 induction o with
 | lst xs=>obtain⟨z,zC,n,r,e⟩:=x;exact⟨z,zC,n,r,k _ _ (.inl rfl) e⟩
 | tup xs=>obtain⟨z,zC,r,ob,e,c⟩:=x;exact⟨z,zC,r,ob,k _ _ (.inl rfl) e,c⟩
 | dK kvs=>obtain⟨z,y,vs,r,ob,es,ep,e,c⟩:=x;exact⟨z,y,vs,r,ob,es,ep,k _ _ (.inl rfl) e,c⟩
 | dT kvs=>
  obtain⟨z,y,xs,r,ob,es,ep,e,c⟩:=x
  exact⟨z,y,xs,Paired.Q1 r fun p q z=>⟨z.1,ht _ _ z.2.1,z.2.2⟩,ob,es,ep,k _ _ (.inl rfl) e,c⟩
 | set S n=>obtain⟨ob,es,ep,t,e,c⟩:=x;exact⟨ob,es,ep,t,k _ _ (.inl rfl) e,c⟩
 | ins C dx fs=>
  obtain⟨d,z,ne,e,mA,⟨od,es,ep,e2,c⟩,r⟩:=x
  exact⟨ho _ d,z,ne,k _ _ (.inl rfl) e,mA,⟨od,es,ep,k _ _ (.inr d) e2,c⟩,r⟩
 | own y=>obtain⟨ob,e⟩:=x;exact⟨ob,k _ _ (.inl rfl) e⟩
 | xd fs=>obtain⟨mA,⟨od,es,ep,e,c⟩,r⟩:=x;exact⟨mA,⟨od,es,ep,k _ _ (.inl rfl) e,c⟩,r⟩
 | rng lo hi=>obtain⟨t,u,v,e⟩:=x;exact⟨t,u,v,k _ _ (.inl rfl) e⟩
 | frz ob u ih=>obtain⟨e,q⟩:=x;exact⟨k _ _ (.inl rfl) e,ih q⟩
 | tbl ps=>
  have e:h.get? a=some { cls:=.none,data:=.fields ps }:=x
  show h'.get? a=some { cls:=.none,data:=.fields ps }
  exact k a _ (.inl rfl) e
 | met f y=>
  have e:h.get? a=some (PySem.W.methodObj (.ref f) (.ref y)):=x
  show h'.get? a=some (PySem.W.methodObj (.ref f) (.ref y))
  exact k a _ (.inl rfl) e
 | ext φ=>obtain⟨p,⟨o,e⟩,st⟩:=x;exact⟨st _ _ p fun o q=>k _ _ (.inl rfl) q,⟨o,k _ _ (.inl rfl) e⟩,st⟩
theorem HOk.lt(x:HOk P w H h)(e:H a=some o):a<h.objs.size:=(x a o e).lt
theorem HOk.fresh(x:HOk P w H h)(e:h.objs.size<=a):H a=none:=by
 cases q:H a with
 | none=>rfl
 | some u=>exact ND (cR (x.lt q) e) (eF _)
theorem HOk.kept(x:HOk P w H h)(k:∀b u,h.get? b=some u->h'.get? b=some u):HOk P w H h':=fun a o e=>
 (x a o e).Q6 (fun b u _ q=>k b u q) (fun _ q=>q) fun _ _ q=>q
theorem HOk.laid(x:HOk P w H h)(k:∀b u,h.get? b=some u->h'.get? b=some u)(hp:h.objs.size<=a)(new:zv P w (upd H a o) h' a o):HOk P w (upd H a o) h':=fun b u e=>by
 have hn:=x.fresh hp
 by_cases hb:b=a
 ·subst hb;rw[zM] at e;cases e;exact new
 ·rw[zS hb] at e
  exact(x b u e).Q6 (fun c v _ q=>k c v q) (fun c q=>by rw[zS (yC q hn)];exact q) fun c xs q=>by rw[zS (yC q hn)];exact q
end
noncomputable def Rd(H:Hp)(a:Addr)(u:HO):Prop:=H a=some u\/∃o,H a=some (.frz o u)
theorem Rd.ok{P:Program}{w:World}{H:Hp}{h:Heap}{a:Addr}{u:HO}(r:Rd H a u)(x:HOk P w H h):zv P w H h a u:=by
 rcases r with r|⟨o,r⟩
 ·exact x a u r
 ·obtain⟨_,q⟩:=x a _ r
  exact q
noncomputable def Mut:Option HO->Prop
 | some (.lst _)=>True
 | some (.dK _)=>True
 | some (.dT _)=>True
 | some (.set _ _)=>True
 | some (.ins _ _ _)=>True
 | some (.ext _)=>True
 | _=>False
section
variable{P:Program}{w:World}{H:Hp}{h h':Heap}{x e:Addr}{o':HO}
theorem HOk.write(ok:HOk P w H h)(mu:Mut (H x))(he:e=x\/H e=some (.own x))(k:∀b u,b≠e->h.get? b=some u->h'.get? b=some u)(heo:∃u,h'.get? e=some u)
  (new:zv P w (upd H x o') h' x o'):HOk P w (upd H x o') h':=fun b u q=>by
 have nown:∀c y,H c=some (.own y)->c≠x:=fun c y r z=>by subst z;rw[r] at mu;exact mu
 have ntup:∀c xs,H c=some (.tup xs)->c≠x:=fun c xs r z=>by subst z;rw[r] at mu;exact mu
 by_cases hb:b=x
 ·subst hb;rw[zM] at q;cases q;exact new
 ·rw[zS hb] at q
  by_cases hbe:b=e
  ·have q':H b=some (.own x):=by
    rcases he with z|z
    ·exact ND (hbe.trans z) hb
    ·rw[hbe];exact z
   rw[q] at q';cases q'
   obtain⟨v,hv⟩:=heo
   exact⟨v,by rw[hbe];exact hv⟩
  ·refine(ok b u q).Q6 (fun c v hc r=>k c v ?_ r) (fun c r=>by rw[zS (nown c b r)];exact r) fun c xs r=>by rw[zS (ntup c xs r)];exact r
   rcases hc with rfl|hc
   ·exact hbe
   ·rintro rfl
    rcases he with z|z
    ·exact nown c b hc z
    ·rw[hc] at z;cases z;exact hb rfl
end
structure Un(fs ex:List Addr)(H H':Hp)(h h':Heap):Prop where
 keep:∀b o,h.get? b=some o->H b=none->b∉fs->b∉ex->h'.get? b=some o
 slot:∀b o,h.get? b=some o->H b=none->b∈fs->b∉ex->∃sl,h'.get? b=some { o with slots:=sl }
 free:∀b o,h.get? b=some o->H b=none->b∉ex->H' b=none
 there:∀b o,h.get? b=some o->b∉ex->∃o',h'.get? b=some o'
 R6:∀b xs,H b=some (.tup xs)->H' b=some (.tup xs)
 P5:∀b o u,H b=some (.frz o u)->H' b=some (.frz o u)
 Q9:∀b ps,H b=some (.tbl ps)->∃more,H' b=some (.tbl (ps++more))
section
variable{fs fs' ex ex':List Addr}{H H1 H2:Hp}{h h1 h2 h':Heap}{a x e:Addr}{o:HO}
theorem Un.any(u:Un fs ex H H1 h h1){b:Addr}{ob:Obj}(q:h.get? b=some ob)(n:H b=none)(hx:b∉ex):∃sl,h1.get? b=some { ob with slots:=sl }:=by
 by_cases hb:b∈fs
 ·exact u.slot b ob q n hb hx
 ·exact⟨ob.slots,u.keep b ob q n hb hx⟩
theorem Un.kept(k:∀b u,h.get? b=some u->h'.get? b=some u):Un fs ex H H h h':=
 ⟨fun b ob q _ _ _=>k b ob q,fun b ob q _ _ _=>⟨ob.slots,k b ob q⟩,fun _ _ _ n _=>n,fun b ob q _=>⟨ob,k b ob q⟩,fun _ _ q=>q,fun _ _ _ q=>q,fun _ ps q=>⟨#[],by rw[q];simp⟩⟩
theorem Un.refl:Un fs ex H H h h:=Un.kept fun _ _ q=>q
theorem Un.laid(k:∀b u,h.get? b=some u->h'.get? b=some u)(hp:h.objs.size<=a)(hn:H a=none):Un fs ex H (upd H a o) h h' where
 keep:=fun b u q _ _ _=>k b u q
 slot:=fun b u q _ _ _=>⟨u.slots,k b u q⟩
 free:=fun b u q n _=>by rw[zS (c8 (cR (bQ q) hp))];exact n
 there:=fun b u q _=>⟨u,k b u q⟩
 R6:=fun b xs q=>by rw[zS (yC q hn)];exact q
 P5:=fun b u xs q=>by rw[zS (yC q hn)];exact q
 Q9:=fun b ps q=>⟨#[],by rw[zS (yC q hn),q];simp⟩
theorem Un.write(mu:Mut (H x))(he:e=x\/H e=some (.own x))(k:∀b u,b≠e->h.get? b=some u->h'.get? b=some u)(heo:∃u,h'.get? e=some u):Un fs ex H (upd H x o) h h':=by
 have hx:∀b,H b=none->b≠x:=fun b n z=>by subst z;rw[n] at mu;exact mu
 have hb:∀b,H b=none->b≠e:=fun b n z=>by
  subst z
  rcases he with r|r
  ·exact hx b n r
  ·rw[n] at r;cases r
 have hm:∀b u,H b=some u->¬Mut (some u)->b≠x:=fun b u q nm z=>by subst z;rw[q] at mu;exact nm mu
 refine⟨fun b u q n _ _=>k b u (hb b n) q,fun b u q n _ _=>⟨u.slots,k b u (hb b n) q⟩,fun b u q n _=>by rw[zS (hx b n)];exact n,fun b u q _=>?_,
  fun b xs q=>by rw[zS (hm b _ q fun z=>z)];exact q,fun b u xs q=>by rw[zS (hm b _ q fun z=>z)];exact q,fun b ps q=>⟨#[],by rw[zS (hm b _ q fun z=>z),q];simp⟩⟩
 by_cases hbe:b=e
 ·subst hbe;exact heo
 ·exact⟨u,k b u hbe q⟩
end
noncomputable def trk(h:Heap)(H:Hp):List Addr:=(List.range h.objs.size).filter fun a=>(H a).isSome
noncomputable def P6(h:Heap)(H:Hp):Heap:=PySem.W.hideAll h (trk h H)
theorem RN(h:Heap)(H:Hp):(P6 h H).objs.size=h.objs.size:=PySem.W.hideAll_size _ _
theorem UT{h:Heap}{H:Hp}{b:Addr}{o:Obj}(e:h.get? b=some o)(n:H b=none):(P6 h H).get? b=some o:=
 PySem.W.hideAll_get _ e fun hm=>by
  have q:(H b).isSome=true:=(cG.mp hm).2
  rw[n] at q;simp at q
theorem UD{h:Heap}{H:Hp}{b:Addr}{o:Obj}(e:(P6 h H).get? b=some o):h.get? b=some o/\H b=none:=by
 have e':h.get? b=some o:=PySem.W.of_hideAll (trk h H) e
 refine⟨e',?_⟩
 cases q:H b with
 | none=>rfl
 | some x=>
  have hm:b∈trk h H:=cG.mpr ⟨cY.mpr (bQ e'),by simp[q]⟩
  have z:(P6 h H).get? b=none:=PySem.W.hideAll_none (trk h H) hm
  rw[z] at e;cases e
noncomputable def VM(g h:Heap)(L:Addr):List AE:=(List.range h.objs.size).filterMap fun a=>if a=L\/(g.get? a).isSome=true then none else (h.get? a).map fun o=>(a,o)
noncomputable def zI(g h:Heap)(L d:Addr):List AE:=(VM g h L).filter fun p=>decide (p.1≠d)
structure Mod(K:AA)(mg:Str->AH)(base:Heap):Prop where
 kin:K.In base
 glob:base.Ns mainGlobals mg
 blt:∃mb,base.Ns builtinsNs mb/\∀x:Str,x≠"__name__"->mb x=bootBuiltins x
 nolimit:base.NoLimit
structure Cx where
 prog:Program
 w:World
 K:AA
 mg:Str->AH
 base:Heap
 A:Around
 N:AF
 s₀:Shared
 H₀:Hp
 env:Env
 outer:List Env
 stack:List Env
 ex:List Addr
 fn:Str->Bool
 calm:Bool
 pn:List AE
 xe:AB
def frs(l:List Env):List Addr:=l.filterMap (·.frame)
abbrev Cx.fs(X:Cx):List Addr:=frs X.outer
noncomputable def Vis(sc:Scope)(x:Str):Prop:=sc.names.lookup x=some .local\/sc.names.lookup x=some .cell\/sc.names.lookup x=some .free
noncomputable def Loc(sc:Scope)(x:Str):Prop:=sc.names.lookup x=some .local\/sc.names.lookup x=some .cell
noncomputable def Look(env:Env)(h:Heap)(m:Str->AH)(x:Str)(u:Value):Prop:=
 (env.kindOf x=some .local/\m x=some u)\/((env.kindOf x=some .cell\/env.kindOf x=some .free)/\∃c,env.cells.lookup x=some c/\h.IsCell c (some u))
structure Cx.Ok(X:Cx):Prop where
 mod:Mod X.K X.mg X.base
 kind:X.env.scope.kind=.function
 glob:X.env.globals=mainGlobals
 blt:X.env.builtins=builtinsNs
 above:X.s₀.heap.objs.size<=X.env.locals
 inj:∀x y c,X.env.cells.lookup x=some c->X.env.cells.lookup y=some c->x=y
 has:∀x,(X.env.kindOf x=some .cell\/X.env.kindOf x=some .free)->∃c,X.env.cells.lookup x=some c
 cab:∀x c,X.fn x=true->X.env.cells.lookup x=some c->X.s₀.heap.objs.size<=c
 hd:X.calm=true->X.A.handled=none
 frames:X.A.frames=some X.stack
 stk:X.stack=X.outer\/(X.stack=X.env::X.outer/\X.env.frame=some X.env.locals)
 exf:∀b∈X.ex,b≠X.env.locals/\∀x c,X.env.cells.lookup x=some c->c≠b
 bs:∀b o,X.base.get? b=some o->X.s₀.heap.get? b=some o/\X.H₀ b=none
 bsz:X.base.objs.size<=X.s₀.heap.objs.size
 noex:∀b o,X.base.get? b=some o->b∉X.ex
 exfs:∀b∈X.ex,b∉X.fs
 O2:X.s₀.heap.FunFrames X.base X.outer
 frf:∀b∈X.fs,X.H₀ b=none
structure Inv(X:Cx)(z4:List AE)(σ:List (Option V))(H:Hp)(s:Shared):Prop where
 ok:X.Ok
 os:s.os=X.s₀.os
 bare:AllBare s.gens
 base:Un X.fs X.ex X.H₀ H X.s₀.heap s.heap
 loc:∃m,s.heap.Ns X.env.locals m/\∀(i:Nat) (x:Str) (v:V),X.N[i]? = some x->σ[i]? = some (some v)->Vis X.env.scope x->∃u,RelV v u/\Look X.env s.heap m x u
 cell:∀x c,X.env.cells.lookup x=some c->∃v,s.heap.IsCell c v
 free:H X.env.locals=none
 freeC:∀x c,X.env.cells.lookup x=some c->H c=none
 pin:∀p∈X.pn++z4,s.heap.get? p.1=some p.2/\H p.1=none/\p.1≠X.env.locals/\p.1∉X.fs/\∀v,p.2.data≠.cell v
 hok:HOk X.prog X.w H s.heap
 len:σ.length=X.N.length
section
variable{X:Cx}{z4:List AE}{σ:List (Option V)}{H H':Hp}{s:Shared}{h':Heap}
theorem Cx.Ok.nofr(ok:X.Ok){b:Addr}{o:Obj}(e:X.base.get? b=some o):b∉X.fs:=fun hb=>by
 have:=(ok.O2.mem hb).1
 rw[e] at this;cases this
theorem Inv.bs(I:Inv X z4 σ H s):∀b o,X.base.get? b=some o->s.heap.get? b=some o/\H b=none:=fun b o e=>
 ⟨I.base.keep b o (I.ok.bs b o e).1 (I.ok.bs b o e).2 (I.ok.nofr e) (I.ok.noex b o e),I.base.free b o (I.ok.bs b o e).1 (I.ok.bs b o e).2 (I.ok.noex b o e)⟩
theorem Inv.bk(I:Inv X z4 σ H s):∀b o,X.base.get? b=some o->s.heap.get? b=some o:=fun b o e=>(I.bs b o e).1
theorem Inv.mod(I:Inv X z4 σ H s):Mod X.K X.mg X.base:=I.ok.mod
theorem Inv.kIn(I:Inv X z4 σ H s):X.K.In s.heap:=I.ok.mod.kin.keeps I.bk
theorem Inv.fr(I:Inv X z4 σ H s):∃m,Fr X.base X.env.locals s.heap m:=
 let ⟨m,hn,_⟩:=I.loc
 ⟨m,hn,I.bk,c7 I.ok.bsz I.ok.above⟩
theorem Inv.lt(I:Inv X z4 σ H s):X.env.locals<s.heap.objs.size:=let ⟨_,hn,_⟩:=I.loc;hn.lt
theorem Inv.sz(I:Inv X z4 σ H s):X.s₀.heap.objs.size<=s.heap.objs.size:=c7 I.ok.above (dJ I.lt)
theorem Inv.nofs(I:Inv X z4 σ H s){a:Addr}(h:s.heap.objs.size<=a):a∉X.fs:=fun hb=>by
 obtain⟨_,o,ho,_⟩:=I.ok.O2.mem hb
 exact ND (cR (bQ ho) (c7 I.sz h)) (eF _)
theorem Inv.cne(I:Inv X z4 σ H s):∀x c,X.env.cells.lookup x=some c->c≠X.env.locals:=fun x c e z=>by
 obtain⟨v,o,ho,hd⟩:=I.cell x c e
 obtain⟨m,⟨o',es,ep,ho',hd',_⟩,_⟩:=I.loc
 rw[z,ho'] at ho;cases ho;rw[hd'] at hd;cases hd
theorem Inv.O2(I:Inv X z4 σ H s):s.heap.FunFrames X.base X.outer:=by
 have all:∀(l:List Env),(∀b∈frs l,b∈X.fs)->X.s₀.heap.FunFrames X.base l->s.heap.FunFrames X.base l:=by
  intro l
  induction l with
  | nil=>intro _ _;trivial
  | cons env r ih=>
   intro hs hl
   obtain⟨hk,⟨L,o,hf,hn,ho,hd⟩,hr⟩:=hl
   have hL:L∈X.fs:=hs L (by unfold frs;rw[gN,hf];exact bT)
   obtain⟨sl,e⟩:=I.base.slot L o ho (I.ok.frf L hL) hL fun z=>I.ok.exfs L z hL
   exact⟨hk,⟨L,_,hf,hn,e,hd⟩,ih (fun b hb=>hs b (by unfold frs;rw[gN,hf];exact bU _ hb)) hr⟩
 exact all X.outer (fun _ hb=>hb) I.ok.O2
theorem Inv.stack(I:Inv X z4 σ H s):s.heap.FunFrames X.base X.stack:=by
 rcases I.ok.stk with e|⟨e,hf⟩
 ·rw[e];exact I.O2
 ·rw[e]
  obtain⟨m,hn,_⟩:=I.loc
  refine .cons (by rw[I.ok.kind];decide) hf hn ?_ I.O2
  exact Heap.get?_none_of_le (c7 I.ok.bsz I.ok.above)
theorem Inv.O5(I:Inv X z4 σ H s):∀b∈frs X.stack,b∈X.env.locals::X.fs:=fun b hb=>by
 rcases I.ok.stk with e|⟨e,hf⟩
 ·rw[e] at hb;exact bU _ hb
 ·rw[e] at hb
  unfold frs at hb
  rw[gN,hf] at hb
  exact hb
theorem Inv.S3(I:Inv X z4 σ H s):∀b∈frs X.stack,H b=none:=fun b hb=>by
 rcases bI.mp (I.O5 b hb) with e|hb
 ·rw[e];exact I.free
 ·obtain⟨_,o,ho,_⟩:=I.ok.O2.mem hb
  exact I.base.free b o ho (I.ok.frf b hb) fun z=>I.ok.exfs b z hb
theorem Inv.step{g':Array GenState}{t':Nat}{d':Drawn}{ch:List Addr}(I:Inv X z4 σ H s)
  (hch:∀b∈ch,(b∈X.ex\/X.s₀.heap.objs.size<=b)/\b≠X.env.locals/\(∀x c,X.env.cells.lookup x=some c->c≠b)/\∀p∈X.pn++z4,p.1≠b)
  (keep:∀b o,b≠X.env.locals->b∉X.fs->b∉ch->s.heap.get? b=some o->H b=none->h'.get? b=some o)
  (slot:∀b o,b≠X.env.locals->b∈X.fs->b∉ch->s.heap.get? b=some o->H b=none->∃sl,h'.get? b=some { o with slots:=sl }) (free:∀b o,b∉ch->s.heap.get? b=some o->H b=none->H' b=none)
  (there:∀b o,b∉ch->s.heap.get? b=some o->∃o',h'.get? b=some o')
  (R6:∀b xs,H b=some (.tup xs)->H' b=some (.tup xs)) (P5:∀b o u,H b=some (.frz o u)->H' b=some (.frz o u)) (Q9:∀b ps,H b=some (.tbl ps)->∃more,H' b=some (.tbl (ps++more)))
  (ns:∀m,s.heap.Ns X.env.locals m->h'.Ns X.env.locals m) (hok:HOk X.prog X.w H' h') (hg:AllBare g') :
  Inv X z4 σ H' { s with heap:=h',gens:=g',drawn:=d',toks:=t' }:=by
 have neL:∀b o,X.s₀.heap.get? b=some o->b≠X.env.locals:=fun b o e=>c8 (cR (bQ e) I.ok.above)
 have neC:∀b o,X.s₀.heap.get? b=some o->b∉X.ex->b∉ch:=fun b o e hx hb=>by
  rcases(hch b hb).1 with z|z
  ·exact hx z
  ·exact ND (cR (bQ e) z) (eF _)
 have cellK:∀x c,X.env.cells.lookup x=some c->∀v,s.heap.IsCell c v->h'.IsCell c v:=fun x c e v ⟨o,ho,hd⟩=>by
  have nch:c∉ch:=fun z=>(hch c z).2.2.1 x c e rfl
  by_cases hc:c∈X.fs
  ·obtain⟨sl,q⟩:=slot c o (I.cne x c e) hc nch ho (I.freeC x c e)
   exact⟨_,q,hd⟩
  ·exact⟨o,keep c o (I.cne x c e) hc nch ho (I.freeC x c e),hd⟩
 refine⟨I.ok,I.os,hg,⟨fun b o e n hb hx=>?_,fun b o e n hb hx=>?_,fun b o e n hx=>?_,fun b o e hx=>?_,fun b xs e=>R6 b xs (I.base.R6 b xs e),fun b o xs e=>P5 b o xs (I.base.P5 b o xs e),fun b ps e=>?_⟩,?_,fun x c e=>?_,?_,fun x c e=>?_,fun p hp=>?_,hok,I.len⟩
 ·exact keep b o (neL b o e) hb (neC b o e hx) (I.base.keep b o e n hb hx) (I.base.free b o e n hx)
 ·obtain⟨sl,e1⟩:=I.base.slot b o e n hb hx
  obtain⟨sl',e2⟩:=slot b _ (neL b o e) hb (neC b o e hx) e1 (I.base.free b o e n hx)
  exact⟨sl',e2⟩
 ·obtain⟨o',e1⟩:=I.base.there b o e hx
  exact free b o' (neC b o e hx) e1 (I.base.free b o e n hx)
 ·obtain⟨o',e1⟩:=I.base.there b o e hx
  exact there b o' (neC b o e hx) e1
 ·obtain⟨m1,e1⟩:=I.base.Q9 b ps e
  obtain⟨m2,e2⟩:=Q9 b _ e1
  exact⟨m1++m2,by rw[e2,Array.append_assoc]⟩
 ·obtain⟨m,hn,hl⟩:=I.loc
  refine⟨m,ns m hn,fun i x v e1 e2 e3=>?_⟩
  obtain⟨u,r,l⟩:=hl i x v e1 e2 e3
  refine⟨u,r,?_⟩
  rcases l with l|⟨k,c,e,z⟩
  ·exact .inl l
  ·exact .inr ⟨k,c,e,cellK x c e _ z⟩
 ·obtain⟨v,z⟩:=I.cell x c e
  exact⟨v,cellK x c e v z⟩
 ·obtain⟨m,⟨o,_,_,ho,_⟩,_⟩:=I.loc
  exact free _ o (fun z=>(hch _ z).2.1 rfl) ho I.free
 ·obtain⟨v,o,ho,hd⟩:=I.cell x c e
  exact free c o (fun z=>(hch c z).2.2.1 x c e rfl) ho (I.freeC x c e)
 ·obtain⟨e,n,ne,nf,d⟩:=I.pin p hp
  have nch:p.1∉ch:=fun z=>(hch p.1 z).2.2.2 p hp rfl
  exact⟨keep p.1 p.2 ne nf nch e n,free p.1 p.2 nch e n,ne,nf,d⟩
theorem Inv.un{t':Nat}(I:Inv X z4 σ H s)(u:Un X.fs [] H H' s.heap h')(hok:HOk X.prog X.w H' h'):Inv X z4 σ H' { s with heap:=h',toks:=t' }:=by
 obtain⟨m,⟨o,es,ep,ho,r⟩,_⟩:=id I.loc
 obtain⟨sl,hL⟩:=u.any ho I.free (by simp)
 exact I.step (g':=s.gens) (d':=s.drawn) (ch:=[]) (fun _ z=>nomatch z) (fun b o _ hb _ e n=>u.keep b o e n hb (by simp)) (fun b o _ hb _ e n=>u.slot b o e n hb (by simp)) (fun b o _ e n=>u.free b o e n (by simp)) (fun b o _ e=>u.there b o e (by simp)) u.R6 u.P5 u.Q9 (fun m' hm=>by
  obtain⟨o',es',ep',ho',r'⟩:=hm
  rw[ho] at ho';cases ho'
  exact⟨_,es',ep',hL,r'⟩) hok I.bare
theorem Inv.call{g':Array GenState}{t':Nat}{d':Drawn}{ch:List Addr}(I:Inv X z4 σ H s)(u:Un (frs X.stack) ch H H' s.heap h')(hok:HOk X.prog X.w H' h')(hg:AllBare g')
  (hch:∀b∈ch,(b∈X.ex\/X.s₀.heap.objs.size<=b)/\b≠X.env.locals/\(∀x c,X.env.cells.lookup x=some c->c≠b)/\∀p∈X.pn++z4,p.1≠b) :
  Inv X z4 σ H' { s with heap:=h',gens:=g',drawn:=d',toks:=t' }:=by
 obtain⟨m,⟨o,es,ep,ho,r⟩,_⟩:=id I.loc
 obtain⟨sl,hL⟩:=u.any ho I.free fun z=>(hch _ z).2.1 rfl
 exact I.step (ch:=ch) hch (fun b o hL hb hc e n=>u.keep b o e n (fun z=>(bI.mp (I.O5 b z)).elim hL hb) hc) (fun b o _ _ hc e n=>u.any e n hc) (fun b o hc e n=>u.free b o e n hc) (fun b o hc e=>u.there b o e hc) u.R6 u.P5 u.Q9 (fun m' hm=>by
  obtain⟨o',es',ep',ho',r'⟩:=hm
  rw[ho] at ho';cases ho'
  exact⟨_,es',ep',hL,r'⟩) hok hg
theorem Inv.turned{t':Nat}{it:Addr}(I:Inv X z4 σ H s)(k:∀b o,b≠it->s.heap.get? b=some o->h'.get? b=some o)(hn:H it=none)(hL:it≠X.env.locals)
  (h1:it∈X.ex\/X.s₀.heap.objs.size<=it) (h2:∀x c,X.env.cells.lookup x=some c->c≠it) (h3:∀p∈X.pn++z4,p.1≠it):Inv X z4 σ H { s with heap:=h',toks:=t' }:=by
 have nit:∀b u,H b=some u->b≠it:=fun b u e z=>by rw[z,hn] at e;cases e
 refine I.step (g':=s.gens) (d':=s.drawn) (ch:=[it]) (fun b hb=>?_) (fun b o _ _ hc e _=>k b o (fun z=>hc (by simp[z])) e) (fun b o _ _ hc e _=>⟨o.slots,k b o (fun z=>hc (by simp[z])) e⟩) (fun _ _ _ _ n=>n)
  (fun b o hc e=>⟨o,k b o (fun z=>hc (by simp[z])) e⟩) (fun _ _ e=>e) (fun _ _ _ e=>e) (fun b ps e=>⟨#[],by rw[e];simp⟩) (fun m hm=>?_) (fun b u e=>?_) I.bare
 ·have e:b=it:=by simpa using hb
  subst e
  exact⟨h1,hL,h2,h3⟩
 ·obtain⟨o,es,ep,ho,r⟩:=hm
  exact⟨o,es,ep,k _ o (eQ hL) ho,r⟩
 ·refine(I.hok b u e).Q6 (fun c v hc q=>k c v ?_ q) (fun _ q=>q) fun _ _ q=>q
  rcases hc with z|z
  ·rw[z];exact nit b u e
  ·exact nit c _ z
theorem Inv.tok(I:Inv X z4 σ H s)(t:Nat):Inv X z4 σ H { s with toks:=t }:=I.un (h':=s.heap) (t':=t) Un.refl I.hok
theorem Inv.kept{t':Nat}(I:Inv X z4 σ H s)(k:∀b u,s.heap.get? b=some u->h'.get? b=some u):Inv X z4 σ H { s with heap:=h',toks:=t' }:=I.un (Un.kept k) (I.hok.kept k)
theorem Inv.laid{a:Addr}{o:HO}{t':Nat}(I:Inv X z4 σ H s)(k:∀b u,s.heap.get? b=some u->h'.get? b=some u)(hp:s.heap.objs.size<=a)(new:zv X.prog X.w (upd H a o) h' a o) :
  Inv X z4 σ (upd H a o) { s with heap:=h',toks:=t' }:=I.un (Un.laid k hp (I.hok.fresh hp)) (I.hok.laid k hp new)
theorem Inv.write{x e:Addr}{o:HO}{t':Nat}(I:Inv X z4 σ H s)(mu:Mut (H x))(he:e=x\/H e=some (.own x))(k:∀b u,b≠e->s.heap.get? b=some u->h'.get? b=some u)(heo:∃u,h'.get? e=some u)
  (new:zv X.prog X.w (upd H x o) h' x o):Inv X z4 σ (upd H x o) { s with heap:=h',toks:=t' }:=I.un (Un.write mu he k heo) (I.hok.write mu he k heo new)
theorem Inv.weak{σ':List (Option V)}(I:Inv X z4 σ H s)(hl:σ'.length=σ.length)(w:∀(i:Nat) v,σ'[i]? = some (some v)->σ[i]? = some (some v)):Inv X z4 σ' H s:=
 ⟨I.ok,I.os,I.bare,I.base,let ⟨m,hn,hl'⟩:=I.loc;⟨m,hn,fun i x v e1 e2 e3=>hl' i x v e1 (w i v e2) e3⟩,I.cell,I.free,I.freeC,I.pin,I.hok,hl.trans I.len⟩
theorem Inv.N9{pins':List AE}(I:Inv X z4 σ H s)(h:∀p∈pins',s.heap.get? p.1=some p.2/\H p.1=none/\p.1≠X.env.locals/\p.1∉X.fs/\∀v,p.2.data≠.cell v):Inv X pins' σ H s:=
 ⟨I.ok,I.os,I.bare,I.base,I.loc,I.cell,I.free,I.freeC,fun p hp=>(bZ.mp hp).elim (fun z=>I.pin p (eV _ z)) (h p),I.hok,I.len⟩
theorem Yd{N:AF}(hN:N.Nodup){i j:Nat}{x:Str}(a:N[i]? = some x)(b:N[j]? = some x):i=j:=by
 obtain⟨h1,e1⟩:=bK.mp a
 obtain⟨h2,e2⟩:=bK.mp b
 exact(List.getElem_inj hN).mp (e1.trans e2.symm)
theorem Rb{M:Model}{A:Around}{E:AB}{i:Nat}{x:Str}{v:V}{u:Value}{Q:Unit->Shared->Prop}(I:Inv X z4 σ H s)(hN:X.N.Nodup)(hi:X.N[i]? = some x)(hx:Loc X.env.scope x)(r:RelV v u)
  (h:∀s',Inv X z4 (σ.set i (some v)) H s'->(∃a,Heap.SameBut a s.heap s'.heap/\(a=X.env.locals\/X.env.cells.lookup x=some a))->Q () s') (hf:X.fn x=true\/X.env.scope.names.lookup x=some .local:=by first|exact .inl rfl|exact .inr rfl|assumption):wpAny M A (storeName X.env x u) Q E s:=by
 obtain⟨m,hn,hl⟩:=id I.loc
 have hcls:(X.env.scope.kind == .class || (X.env.scope.kind == .module && X.env.locals != X.env.globals))=false:=by rw[I.ok.kind];rfl
 have hiσ:i<σ.length:=by rw[I.len];exact(bK.mp hi).1
 have cne:=I.cne
 have tracked:∀{a:Addr}{h':Heap},(∃o,s.heap.get? a=some o/\H a=none)->Heap.SameBut a s.heap h'->HOk X.prog X.w H h':=fun {a h'} ha hs b ob e=>by
  obtain⟨_,_,hfree⟩:=ha
  refine(I.hok b ob e).Q6 (fun c w' hc q=>(hs.2 c ?_).trans q) (fun _ q=>q) fun _ _ q=>q
  rintro rfl
  rcases hc with rfl|hc
  ·rw[hfree] at e;cases e
  ·rw[hfree] at hc;cases hc
 rcases hx with hk|hk
 ·refine wpAny_storeName_local hk hn (fun h' hn' hs=>?_) hcls
  obtain⟨oL,_,_,hoL,_⟩:=id hn
  refine h _ ⟨I.ok,I.os,I.bare,⟨fun b o e n hb hx=>?_,fun b o e n hb hx=>?_,I.base.free,fun b o e hx=>?_,I.base.R6,I.base.P5,I.base.Q9⟩,⟨_,hn',fun j y v' e1 e2 e3=>?_⟩,fun y c e=>?_,I.free,I.freeC,fun p hp=>?_,tracked ⟨oL,hoL,I.free⟩ hs,by simpa using I.len⟩ ⟨_,hs,.inl rfl⟩
  ·exact(hs.2 b (c8 (cR (bQ e) I.ok.above))).trans (I.base.keep b o e n hb hx)
  ·obtain⟨sl,e1⟩:=I.base.slot b o e n hb hx
   exact⟨sl,(hs.2 b (c8 (cR (bQ e) I.ok.above))).trans e1⟩
  ·obtain⟨o',e1⟩:=I.base.there b o e hx
   exact⟨o',(hs.2 b (c8 (cR (bQ e) I.ok.above))).trans e1⟩
  ·by_cases hj:j=i
   ·subst hj
    rw[hi] at e1;cases e1
    rw[List.getElem?_set_self hiσ] at e2
    cases e2
    exact⟨u,r,.inl ⟨hk,by simp⟩⟩
   ·rw[kO (eQ hj)] at e2
    obtain⟨u',r',q⟩:=hl j y v' e1 e2 e3
    refine⟨u',r',?_⟩
    rcases q with ⟨k,e⟩|⟨k,c,e,z⟩
    ·refine .inl ⟨k,?_⟩
     have:y≠x:=fun e=>hj (Yd hN e1 (e ▸ hi))
     simp[this,e]
    ·exact .inr ⟨k,c,e,z.sameBut hs (cne y c e)⟩
  ·obtain⟨w',z⟩:=I.cell y c e
   exact⟨w',z.sameBut hs (cne y c e)⟩
  ·obtain⟨e,n,ne,nf,d⟩:=I.pin p hp
   exact⟨(hs.2 p.1 ne).trans e,n,ne,nf,d⟩
 ·have hfn:X.fn x=true:=by
   rcases hf with z|z
   ·exact z
   ·rw[z] at hk;cases hk
  obtain⟨c,hc⟩:=I.ok.has x (.inl hk)
  obtain⟨w',z⟩:=I.cell x c hc
  refine wpAny_storeName_cell I.ok.kind hk hc z (fun h' hc' hs=>?_)
  obtain⟨oc,hoc,hocd⟩:=id z
  refine h { s with heap:=h' } ⟨I.ok,I.os,I.bare,⟨fun b o e n hb hx=>?_,fun b o e n hb hx=>?_,I.base.free,fun b o e hx=>?_,I.base.R6,I.base.P5,I.base.Q9⟩,⟨m,hn.sameBut hs (eQ (cne x c hc)),fun j y v' e1 e2 e3=>?_⟩,fun y c' e=>?_,I.free,I.freeC,fun p hp=>?_,tracked ⟨oc,hoc,I.freeC x c hc⟩ hs,by simpa using I.len⟩ ⟨c,hs,.inr hc⟩
  ·exact(hs.2 b (c8 (cR (bQ e) (I.ok.cab x c hfn hc)))).trans (I.base.keep b o e n hb hx)
  ·obtain⟨sl,e1⟩:=I.base.slot b o e n hb hx
   exact⟨sl,(hs.2 b (c8 (cR (bQ e) (I.ok.cab x c hfn hc)))).trans e1⟩
  ·obtain⟨o',e1⟩:=I.base.there b o e hx
   exact⟨o',(hs.2 b (c8 (cR (bQ e) (I.ok.cab x c hfn hc)))).trans e1⟩
  ·by_cases hj:j=i
   ·subst hj
    rw[hi] at e1;cases e1
    rw[List.getElem?_set_self hiσ] at e2
    cases e2
    exact⟨u,r,.inr ⟨.inl hk,c,hc,hc'⟩⟩
   ·rw[kO (eQ hj)] at e2
    obtain⟨u',r',q⟩:=hl j y v' e1 e2 e3
    refine⟨u',r',?_⟩
    rcases q with q|⟨k,c',e,z'⟩
    ·exact .inl q
    ·refine .inr ⟨k,c',e,z'.sameBut hs ?_⟩
     rintro rfl
     exact hj (Yd hN e1 (I.ok.inj _ _ _ e hc ▸ hi))
  ·by_cases hcc:c'=c
   ·subst hcc;exact⟨_,hc'⟩
   ·obtain⟨w2,z2⟩:=I.cell y c' e
    exact⟨w2,z2.sameBut hs hcc⟩
  ·obtain⟨e,n,ne,nf,d⟩:=I.pin p hp
   refine⟨(hs.2 p.1 ?_).trans e,n,ne,nf,d⟩
   intro q
   rw[q,hoc] at e
   have q':oc=p.2:=Option.some.inj e
   exact d w' (by rw[<- q'];exact hocd)
theorem Yi{M:Model}{A:Around}{E:AB}{i:Nat}{x:Str}{v:V}{u:Value}{Q:Unit->Shared->Prop}(I:Inv X z4 σ H s)(hN:X.N.Nodup)(hi:X.N[i]? = some x)(hx:Loc X.env.scope x)(r:RelV v u)
  (h:∀s',Inv X z4 (σ.set i (some v)) H s'->Q () s') (hf:X.fn x=true\/X.env.scope.names.lookup x=some .local:=by first|exact .inl rfl|exact .inr rfl|assumption):wpAny M A (storeName X.env x u) Q E s:=
 Rb I hN hi hx r (fun s' I' _=>h s' I') hf
theorem Inv.w03{s':Shared}{ch:List Addr}(I:Inv X z4 σ H s)(ho:s'.os=s.os)(u:Un (frs X.stack) ch H H' s.heap s'.heap)(hok:HOk X.prog X.w H' s'.heap)(hg:AllBare s'.gens)
  (hch:∀b∈ch,(b∈X.ex\/X.s₀.heap.objs.size<=b)/\b≠X.env.locals/\(∀x c,X.env.cells.lookup x=some c->c≠b)/\∀p∈X.pn++z4,p.1≠b):Inv X z4 σ H' s':=by
 obtain⟨h',g',d',t',o'⟩:=s'
 have e:o'=s.os:=ho
 subst e
 exact I.call (g':=g') (t':=t') (d':=d') u hok hg hch
end
abbrev XK:=Value->Option Addr->Hp->Prop
abbrev St:=List (Option V)
abbrev VK:=V->Hp->Prop
abbrev TE:=St->Hp->VK->Prop
abbrev TT:=St->Hp->(Bool->Hp->Prop)->Prop
abbrev TA:=St->Hp->(AK->Hp->Prop)->Prop
structure Ends where
 nx:St->Hp->Prop
 rt:VK
 bk:St->Hp->Prop:=fun _ _=>False
 ct:St->Hp->Prop:=fun _ _=>False
abbrev TS:=Ends->St->Hp->Prop
noncomputable def EP(X:Cx)(z4:List AE)(σ:St)(Q:VK)(u:Value)(s':Shared):Prop:=∃v H',Inv X z4 σ H' s'/\RelV v u/\Q v H'
noncomputable def TP(X:Cx)(z4:List AE)(σ:St)(Q:Bool->Hp->Prop)(b:Bool)(s':Shared):Prop:=∃H',Inv X z4 σ H' s'/\Q b H'
noncomputable def AP(X:Cx)(z4:List AE)(σ:St)(Q:AK->Hp->Prop)(us:AG)(s':Shared):Prop:=∃vs H',Inv X z4 σ H' s'/\Vals vs us/\Q vs H'
noncomputable def SP(X:Cx)(z4:List AE)(D:Ends)(f:Flow)(s':Shared):Prop:=
 match f with
 | .next=>∃σ' H',Inv X z4 σ' H' s'/\D.nx σ' H'
 | .brk=>∃σ' H',Inv X z4 σ' H' s'/\D.bk σ' H'
 | .cont=>∃σ' H',Inv X z4 σ' H' s'/\D.ct σ' H'
 | .ret u=>∃v σ' H',Inv X z4 σ' H' s'/\RelV v u/\D.rt v H'
noncomputable def PE(X:Cx)(e:Expr)(t:TE):Prop:=
 ∀(z4:List AE) (s:Shared) (σ:St) (H:Hp) (Q:VK),Inv X z4 σ H s->t σ H Q->wpAny (model X.prog X.w) X.A (eval e X.env) (EP X z4 σ Q) X.xe s
noncomputable def PT(X:Cx)(e:Expr)(t:TT):Prop:=
 ∀(z4:List AE) (s:Shared) (σ:St) (H:Hp) (Q:Bool->Hp->Prop),Inv X z4 σ H s->t σ H Q->wpAny (model X.prog X.w) X.A (isTrue e X.env (eval e X.env)) (TP X z4 σ Q) X.xe s
noncomputable def PW(X:Cx)(e:Expr)(t:TT):Prop:=
 ∀(whole:Sem Value) (z4:List AE) (s:Shared) (σ:St) (H:Hp) (Q:Bool->Hp->Prop),Inv X z4 σ H s->t σ H Q->wpAny (model X.prog X.w) X.A (isTrue e X.env whole) (TP X z4 σ Q) X.xe s
theorem PW.pt{X:Cx}{e:Expr}{t:TT}(h:PW X e t):PT X e t:=h _
noncomputable def PA(X:Cx)(es:List Expr)(t:TA):Prop:=
 ∀(pos:Pos) (z4:List AE) (s:Shared) (σ:St) (H:Hp) (Q:AK->Hp->Prop),Inv X z4 σ H s->t σ H Q->wpAny (model X.prog X.w) X.A (spliced (backTo pos (starEach es X.env))) (AP X z4 σ Q) X.xe s
noncomputable def PS(X:Cx)(st:Stmt)(t:TS):Prop:=
 ∀(z4:List AE) (s:Shared) (σ:St) (H:Hp) (D:Ends),Inv X z4 σ H s->t D σ H->wpAny (model X.prog X.w) X.A (exec st X.env) (SP X z4 D) X.xe s
noncomputable def PSs(X:Cx)(st:List Stmt)(t:TS):Prop:=
 ∀(z4:List AE) (s:Shared) (σ:St) (H:Hp) (D:Ends),Inv X z4 σ H s->t D σ H->wpAny (model X.prog X.w) X.A (execs st X.env) (SP X z4 D) X.xe s
theorem thn{α:Type}{t:Sem α}{Q Q':α->Shared->Prop}{M:Model}{A:Around}{E:AB}{s:Shared}(h:wpAny M A t Q E s)(hQ:∀a s,Q a s->Q' a s):wpAny M A t Q' E s:=OF h hQ fun _ _ x=>x
section
variable{X:Cx}
noncomputable def T8(i:Nat):TE:=fun σ H Q=>∃v,σ[i]? = some (some v)/\Q v H
noncomputable def tC(v:V):TE:=fun _ H Q=>Q v H
theorem Wb{i:Nat}{x:Str}{pos:Pos}(hN:X.N[i]? = some x)(hv:Vis X.env.scope x)(hd:(x == ("__debug__":Str))=false:=by decide)(hcd:(x == ("__classdict__":Str))=false:=by decide):PE X (.Name x pos) (T8 i):=by
 intro z4 s σ H Q I h
 obtain⟨v,e,h⟩:=h
 obtain⟨m,hn,hl⟩:=I.loc
 obtain⟨u,r,l⟩:=hl i x v hN e hv
 have fin:EP X z4 σ Q u s:=⟨v,H,I,r,h⟩
 rcases l with ⟨hk,hm⟩|⟨hk,c,hc,S8⟩
 ·exact wpAny_Name (wpAny_loadName_local I.ok.kind hk hn hm fin) hd
 ·rcases hk with hk|hk
  ·exact wpAny_Name (wpAny_loadName_cell I.ok.kind hk hc S8 fin) hd
  ·exact wpAny_Name (wpAny_loadName_free I.ok.kind hk hc S8 fin hcd) hd
theorem zL{i j pos}:PE X (.Constant (.int i) j pos) (tC (.int i)):=fun _ _ _ H _ I h=>wpAny_Constant_int ⟨.int i,H,I.tok _,⟨_,rfl⟩,h⟩
theorem yI{b j pos}:PE X (.Constant (.bool b) j pos) (tC (.bl b)):=fun _ _ _ H _ I h=>Constant_bool ⟨.bl b,H,I,rfl,h⟩
theorem vR{j pos}:PE X (.Constant .none j pos) (tC .non):=fun _ _ _ H _ I h=>Constant_none ⟨.non,H,I,rfl,h⟩
theorem xT{x j pos}:PE X (.Constant (.str x) j pos) (tC (.str x)):=fun _ _ _ H _ I h=>Calls.Constant_str ⟨.str x,H,I.tok _,⟨_,rfl⟩,h⟩
noncomputable def Gl(X:Cx)(x:Str):Prop:=X.env.kindOf x=some .globalImplicit
theorem lQ{E:AB}{z4:List AE}{s:Shared}{σ:St}{H:Hp}{x:Str}{u:Value}{pos:Pos}{Q:AB}(I:Inv X z4 σ H s)(hg:Gl X x)(hm:X.mg x=some u)(h:Q u s)
  (hd:(x == ("__debug__":Str))=false:=by decide):wpAny (model X.prog X.w) X.A (eval (.Name x pos) X.env) Q E s:=
 Calls.Name_function_global I.ok.kind hg (Calls.loadGlobal_global (by rw[I.ok.glob];exact I.mod.glob.keeps I.bk) hm h) hd
theorem wF{E:AB}{z4:List AE}{s:Shared}{σ:St}{H:Hp}{x:Str}{u:Value}{pos:Pos}{Q:AB}(I:Inv X z4 σ H s)(hg:Gl X x)(hm:X.mg x=none)(hv:bootBuiltins x=some u)(h:Q u s)
  (hn:x≠"__name__":=by decide) (hd:(x == ("__debug__":Str))=false:=by decide):wpAny (model X.prog X.w) X.A (eval (.Name x pos) X.env) Q E s:=by
 obtain⟨mb,h1,h2⟩:=I.mod.blt
 exact Calls.Name_function_global I.ok.kind hg (Calls.loadGlobal_builtin (by rw[I.ok.glob];exact I.mod.glob.keeps I.bk) hm (by rw[I.ok.blt];exact h1.keeps I.bk) ((h2 x hn).trans hv) h) hd
theorem ZW{x:Str}{v:V}{u:Value}{pos:Pos}(hg:Gl X x)(hm:X.mg x=some u)(r:RelV v u)(hd:(x == ("__debug__":Str))=false:=by decide):PE X (.Name x pos) (tC v):=
 fun _ _ _ H _ I h=>lQ I hg hm ⟨v,H,I,r,h⟩ hd
theorem xp{x:Str}{v:V}{u:Value}{pos:Pos}(hg:Gl X x)(hm:X.mg x=none)(hv:bootBuiltins x=some u)(r:RelV v u)(hn:x≠"__name__":=by decide)(hd:(x == ("__debug__":Str))=false:=by decide):PE X (.Name x pos) (tC v):=
 fun _ _ _ H _ I h=>wF I hg hm hv ⟨v,H,I,r,h⟩ hn hd
variable{a b:Expr}{ta tb:TE}{pos:Pos}
noncomputable def PC(X:Cx)(op:CmpOp)(a b:Expr)(t:TE):Prop:=
 ∀(z4:List AE) (s:Shared) (σ:St) (H:Hp) (Q:VK),Inv X z4 σ H s->t σ H Q->
  wpAny (model X.prog X.w) X.A (eval a X.env) (fun v s₁=>wpAny (model X.prog X.w) X.A (eval b X.env) (fun u s₂=>wpAny (model X.prog X.w) X.A (compareOp op v u) (EP X z4 σ Q) X.xe s₂) X.xe s₁) X.xe s
theorem Yc(b:Expr){op:CmpOp}(h:op≠.In)(h2:op≠.NotIn):behindInMarks op b=false:=by
 have e1:(op == CmpOp.In)=false:=by cases op<;>first|rfl|exact ND rfl h
 have e2:(op == CmpOp.NotIn)=false:=by cases op<;>first|rfl|exact ND rfl h2
 cases b<;>simp[behindInMarks,e1,e2]
noncomputable def tIsN(ta:TE):TE:=fun σ H Q=>ta σ H fun x H1=>Q (.bl (decide (x=.non))) H1
noncomputable def w0G(ta:TE):TE:=fun σ H Q=>ta σ H fun x H1=>Q (.bl (!decide (x=.non))) H1
theorem RelV.R1{x:V}{v:Value}(r:RelV x v):(v == Value.none)=decide (x=.non):=by
 cases x with
 | non=>cases r;rfl
 | bl _=>cases r;rfl
 | int _=>obtain⟨t,rfl⟩:=r;rfl
 | str _=>obtain⟨t,rfl⟩:=r;rfl
 | byt _=>obtain⟨t,rfl⟩:=r;rfl
 | flt _=>obtain⟨t,rfl⟩:=r;rfl
 | ref _=>cases r;rfl
 | ty _=>cases r;rfl
theorem vP{j pos'}(ha:PE X a ta):PC X .Is a (.Constant .none j pos') (tIsN ta):=by
 intro z4 s σ H Q I h
 refine thn (ha z4 s σ H _ I h) fun v s1 hz=>?_
 obtain⟨x,H1,I1,r1,q1⟩:=hz
 exact Constant_none (is_none_gen ⟨.bl _,H1,I1,by rw[r1.R1];rfl,q1⟩)
theorem UB{j pos'}(ha:PE X a ta):PC X .IsNot a (.Constant .none j pos') (w0G ta):=by
 intro z4 s σ H Q I h
 refine thn (ha z4 s σ H _ I h) fun v s1 hz=>?_
 obtain⟨x,H1,I1,r1,q1⟩:=hz
 exact Constant_none (isnot_none_gen ⟨.bl _,H1,I1,by rw[r1.R1];rfl,q1⟩)
noncomputable def tB(t:TE):TT:=fun σ H Q=>t σ H fun x H1=>∃c,x=.bl c/\Q c H1
theorem mR{op:CmpOp}{t:TE}(h:PC X op a b t)(h1:behindInMarks op b=false:=by first|exact Yc _ (by decide) (by decide)|rfl):PE X (.Compare a [op] [b] pos) t:=fun z4 s σ H Q I hw=>wpAny_Compare1 (h z4 s σ H Q I hw) h1
theorem vA{op:CmpOp}{t:TE}(h:PC X op a b t)(h1:behindInMarks op b=false:=by first|exact Yc _ (by decide) (by decide)|rfl):PT X (.Compare a [op] [b] pos) (tB t):=by
 intro z4 s σ H Q I hw
 refine wpAny_isTrue_Compare1 (thn (h z4 s σ H _ I hw) fun v s1 h1=>thn h1 fun u s2 h2=>thn h2 fun c s3 hz=>?_) h1
 obtain⟨x,H1,I1,r1,q1⟩:=hz
 obtain⟨d,rfl,q⟩:=q1
 cases r1
 exact OT ⟨H1,I1,q⟩
theorem xB{e:Expr}{t:TE}(h:PE X e t)(he:∀whole,isTrue e X.env whole=(do let v <- whole;standAt e.pos;holding [v] (truthy v)):=by intro _;rfl):PT X e (tB t):=by
 intro z4 s σ H Q I hw
 refine isTrue_plain (thn (h z4 s σ H _ I hw) fun v s1 hz=>?_) (he _)
 obtain⟨x,H1,I1,r1,q1⟩:=hz
 obtain⟨d,rfl,q⟩:=q1
 cases r1
 exact OT ⟨H1,I1,q⟩
variable{tA tB':TT}{zI:List Expr}
noncomputable def tAnd(t u:TT):TT:=fun σ H Q=>t σ H fun c H1=>if c=true then u σ H1 Q else Q false H1
noncomputable def tOr(t u:TT):TT:=fun σ H Q=>t σ H fun c H1=>if c=true then Q true H1 else u σ H1 Q
noncomputable def tNot(t:TT):TT:=fun σ H Q=>t σ H fun c H1=>Q (!c) H1
theorem vF(ha:PT X a tA):PW X (.BoolOp .And [a] pos) tA:=by
 intro wh z4 s σ H Q I h
 refine isTrue_and (thn (ha z4 s σ H Q I h) fun c s1 e=>?_)
 cases c with
 | true=>exact isTrue_and_nil e
 | false=>exact e
theorem xb(ha:PT X a tA):PW X (.BoolOp .Or [a] pos) tA:=by
 intro wh z4 s σ H Q I h
 refine isTrue_or (thn (ha z4 s σ H Q I h) fun c s1 e=>?_)
 cases c with
 | false=>exact isTrue_or_nil e
 | true=>exact e
theorem wc(ha:PT X a tA)(hb:PW X (.BoolOp .And (b::zI) pos) tB'):PW X (.BoolOp .And (a::b::zI) pos) (tAnd tA tB'):=by
 intro wh z4 s σ H Q I h
 refine isTrue_and (thn (ha z4 s σ H _ I h) fun c s1 hz=>?_)
 obtain⟨H1,I1,q1⟩:=hz
 cases c with
 | true=>exact hb wh z4 s1 σ H1 Q I1 q1
 | false=>exact⟨H1,I1,q1⟩
theorem xX(ha:PT X a tA)(hb:PW X (.BoolOp .Or (b::zI) pos) tB'):PW X (.BoolOp .Or (a::b::zI) pos) (tOr tA tB'):=by
 intro wh z4 s σ H Q I h
 refine isTrue_or (thn (ha z4 s σ H _ I h) fun c s1 hz=>?_)
 obtain⟨H1,I1,q1⟩:=hz
 cases c with
 | true=>exact⟨H1,I1,q1⟩
 | false=>exact hb wh z4 s1 σ H1 Q I1 q1
theorem xc(ha:PT X a tA):PT X (.UnaryOp .Not a pos) (tNot tA):=by
 intro z4 s σ H Q I h
 exact isTrue_not (ha z4 s σ H (fun c H1=>Q (!c) H1) I h)
noncomputable def w0o(ta tb:TE):TE:=fun σ H Q=>ta σ H fun x H1=>∃c,x=.bl c/\if c=true then tb σ H1 Q else Q (.bl false) H1
theorem Wf{op}{t:TE}(h:PE X a t):PE X (.BoolOp op [a] pos) t:=fun z4 s σ H Q I hw=>BoolOp_one (h z4 s σ H Q I hw)
theorem aa(ha:PE X a ta)(hb:PE X (.BoolOp .And (b::zI) pos) tb):PE X (.BoolOp .And (a::b::zI) pos) (w0o ta tb):=by
 intro z4 s σ H Q I h
 refine BoolOp_and (thn (ha z4 s σ H _ I h) fun v s1 hz=>?_)
 obtain⟨x,H1,I1,r1,q1⟩:=hz
 obtain⟨c,rfl,q1⟩:=q1
 cases r1
 refine OT ?_
 cases c with
 | true=>exact hb z4 s1 σ H1 Q I1 q1
 | false=>exact⟨.bl false,H1,I1,rfl,q1⟩
noncomputable def tIf(t:TT)(ta tb:TE):TE:=fun σ H Q=>t σ H fun c H1=>if c=true then ta σ H1 Q else tb σ H1 Q
theorem vt{c:Expr}(hc:PT X c tA)(ha:PE X a ta)(hb:PE X b tb):PE X (.IfExp c a b pos) (tIf tA ta tb):=by
 intro z4 s σ H Q I h
 refine wpAny_IfExp (thn (hc z4 s σ H _ I h) fun d s1 hz=>?_)
 obtain⟨H1,I1,q1⟩:=hz
 cases d with
 | true=>exact ha z4 s1 σ H1 Q I1 q1
 | false=>exact hb z4 s1 σ H1 Q I1 q1
end
noncomputable def SqL(K:AA)(H:Hp)(a:Addr)(xs:AK):Prop:=
 Rd H a (.lst xs)\/
  ∃(o:Obj) (zC:AI) (n:Nat),K.lookup a=some o/\o.cls=.type "list"/\o.dict=none/\o.data=.seq zC n/\zC.size<=sizeLine/\Vals xs zC.toList
noncomputable def SqT(K:AA)(H:Hp)(a:Addr)(xs:AK):Prop:=
 Rd H a (.tup xs)\/
  ∃(o:Obj) (zC:AI) (n:Nat),K.lookup a=some o/\o.cls=.type "tuple"/\o.data=.seq zC n/\zC.size<=sizeLine/\Vals xs zC.toList
noncomputable def absV:Value->Option V
 | .none=>some .non
 | .bool b=>some (.bl b)
 | .int i _=>some (.int i)
 | .str x _=>some (.str x)
 | .bytes b _=>some (.byt b)
 | .float b _=>some (.flt b)
 | .ref a=>some (.ref a)
 | .type n=>some (.ty n)
 | _=>none
theorem RelV.abs{x:V}{u:Value}(r:RelV x u):absV u=some x:=by
 cases x with
 | non=>cases r;rfl
 | bl _=>cases r;rfl
 | int _=>obtain⟨t,rfl⟩:=r;rfl
 | str _=>obtain⟨t,rfl⟩:=r;rfl
 | byt _=>obtain⟨t,rfl⟩:=r;rfl
 | flt _=>obtain⟨t,rfl⟩:=r;rfl
 | ref _=>cases r;rfl
 | ty _=>cases r;rfl
theorem RelV.inj{x y:V}{u:Value}(r:RelV x u)(q:RelV y u):x=y:=Option.some.inj (r.abs.symm.trans q.abs)
theorem Vals.inj:∀{xs ys:AK}{us:AG},Vals xs us->Vals ys us->xs=ys
 | _,_,_,.nil,.nil=>rfl
 | _,_,_,.cons r t,.cons r' t'=>by rw[r.inj r',Vals.inj t t']
section
variable{X:Cx}{z4:List AE}{σ:St}{H:Hp}{s:Shared}{a:Addr}{xs ys:AK}
theorem SqL.of{K:AA}(h:H a=some (.lst xs)):SqL K H a xs:=.inl (.inl h)
theorem SqT.of{K:AA}(h:H a=some (.tup xs)):SqT K H a xs:=.inl (.inl h)
theorem Inv.list(I:Inv X z4 σ H s)(h:SqL X.K H a xs):∃zC:AG,Vals xs zC/\PlainL s.heap a zC.toArray/\xs.length<=sizeLine:=by
 rcases h with h|⟨o,zC,n,hk,hc,hd,hs,hz,r⟩
 ·obtain⟨z,zC,n,r,e⟩:=h.ok I.hok
  exact⟨zC,r,⟨_,n,e,rfl,rfl,rfl⟩,z⟩
 ·refine⟨zC.toList,r,⟨o,n,I.kIn a o hk,hc,hd,by simpa using hs⟩,?_⟩
  have e:=r.length
  simp only[cO] at e
  lia
theorem Inv.tuple(I:Inv X z4 σ H s)(h:SqT X.K H a xs):∃zC:AG,Vals xs zC/\IsTup s.heap a zC.toArray/\xs.length<=sizeLine:=by
 rcases h with h|⟨o,zC,n,hk,hc,hs,hz,r⟩
 ·obtain⟨z,zC,r,p⟩:=h.ok I.hok
  exact⟨zC,r,PlT.tup p,z⟩
 ·refine⟨zC.toList,r,⟨o,I.kIn a o hk,hc,n,by simpa using hs⟩,?_⟩
  have e:=r.length
  simp only[cO] at e
  lia
theorem Inv.T9(I:Inv X z4 σ H s)(h:SqL X.K H a xs)(h':SqL X.K H a ys):xs=ys:=by
 obtain⟨zC,r,⟨o,n,e,_,_,d⟩,_⟩:=I.list h
 obtain⟨its',r',⟨o',n',e',_,_,d'⟩,_⟩:=I.list h'
 rw[e] at e';cases e'
 rw[d] at d'
 injection d' with d1 _
 have:zC=its':=by simpa using Pu Array.toList d1
 subst this
 exact r.inj r'
theorem Inv.M4(I:Inv X z4 σ H s)(h:SqT X.K H a xs)(h':SqT X.K H a ys):xs=ys:=by
 obtain⟨zC,r,⟨o,e,_,n,d⟩,_⟩:=I.tuple h
 obtain⟨its',r',⟨o',e',_,n',d'⟩,_⟩:=I.tuple h'
 rw[e] at e';cases e'
 rw[d] at d'
 injection d' with d1 _
 have:zC=its':=by simpa using Pu Array.toList d1
 subst this
 exact r.inj r'
end
abbrev Cx.P4(X:Cx)(E:AB):Cx:={ X with xe:=E }
abbrev Cx.nox(X:Cx):Cx:=X.P4 fun _ _=>False
theorem Cx.Ok.P4{X:Cx}(ok:X.Ok)(E:AB):(X.P4 E).Ok:=
 ⟨ok.mod,ok.kind,ok.glob,ok.blt,ok.above,ok.inj,ok.has,ok.cab,ok.hd,ok.frames,ok.stk,ok.exf,ok.bs,ok.bsz,ok.noex,ok.exfs,ok.O2,ok.frf⟩
theorem Cx.Ok.L9{X:Cx}{E:AB}(ok:(X.P4 E).Ok):X.Ok:=
 ⟨ok.mod,ok.kind,ok.glob,ok.blt,ok.above,ok.inj,ok.has,ok.cab,ok.hd,ok.frames,ok.stk,ok.exf,ok.bs,ok.bsz,ok.noex,ok.exfs,ok.O2,ok.frf⟩
section
variable{X:Cx}{z4:List AE}{σ:St}{H:Hp}{s:Shared}{E:AB}
theorem Inv.P4(I:Inv X z4 σ H s)(E:AB):Inv (X.P4 E) z4 σ H s:=⟨I.ok.P4 E,I.os,I.bare,I.base,I.loc,I.cell,I.free,I.freeC,I.pin,I.hok,I.len⟩
theorem Inv.L9(I:Inv (X.P4 E) z4 σ H s):Inv X z4 σ H s:=⟨I.ok.L9,I.os,I.bare,I.base,I.loc,I.cell,I.free,I.freeC,I.pin,I.hok,I.len⟩
theorem SP.L9{D:Ends}{f:Flow}{s':Shared}(h:SP (X.P4 E) z4 D f s'):SP X z4 D f s':=by
 cases f with
 | next=>obtain⟨σ',H',I,q⟩:=h;exact⟨σ',H',I.L9,q⟩
 | brk=>obtain⟨σ',H',I,q⟩:=h;exact⟨σ',H',I.L9,q⟩
 | cont=>obtain⟨σ',H',I,q⟩:=h;exact⟨σ',H',I.L9,q⟩
 | ret u=>obtain⟨v,σ',H',I,r,q⟩:=h;exact⟨v,σ',H',I.L9,r,q⟩
theorem PSs.nox{st:List Stmt}{t:TS}(h:PSs X.nox st t):PSs X st t:=fun z4 s σ H D I hw=>
 OF (h z4 s σ H D (I.P4 _) hw) (fun _ _ q=>q.L9) fun _ _ z=>False.elim z
end
section
variable{X:Cx}{st:Stmt}{zI:List Stmt}{t u:TS}{e:Expr}{te:TE}{pos:Pos}
noncomputable def w0D:TS:=fun D σ H=>D.nx σ H
noncomputable def tSeq(t u:TS):TS:=fun D σ H=>t { D with nx:=u D } σ H
theorem zf:PSs X [] w0D:=fun _ _ σ H _ I h=>wpAny_execs_nil ⟨σ,H,I,h⟩
theorem zN(h1:PS X st t)(h2:PSs X zI u):PSs X (st::zI) (tSeq t u):=by
 intro z4 s σ H D I h
 refine wpAny_execs_cons (thn (h1 z4 s σ H { D with nx:=u D } I h) fun f s1 q=>?_)
 cases f with
 | next=>
  obtain⟨σ',H',I',q⟩:=q
  exact h2 z4 s1 σ' H' D I' q
 | ret v=>exact q
 | brk=>exact q
 | cont=>exact q
theorem zJ(h1:PS X st t):PSs X [st] t:=by
 intro z4 s σ H D I h
 refine wpAny_execs_cons (thn (h1 z4 s σ H D I h) fun f s1 q=>?_)
 cases f with
 | next=>exact wpAny_execs_nil q
 | ret v=>exact q
 | brk=>exact q
 | cont=>exact q
noncomputable def Wi:TS:=fun D σ H=>D.bk σ H
theorem Ux:PS X (.Break pos) Wi:=fun _ _ σ H _ I h=>wpAny_Break ⟨σ,H,I,h⟩
theorem Inv.quiet{z4:List AE}{σ:St}{H:Hp}{s:Shared}(I:Inv X z4 σ H s):interactive X.env=false:=by simp[interactive,I.ok.kind]
noncomputable def w0F(te:TE):TS:=fun D σ H=>te σ H fun _ H1=>D.nx σ H1
theorem yB(he:PE X e te)(hs:swapsWith e none pos.line X.env=pure false:=by rfl):PS X (.Expr e pos) (w0F te):=by
 intro z4 s σ H D I h
 exact wpAny_Expr_any (thn (he z4 s σ H _ I h) fun v s1 ⟨x,H1,I1,r1,q1⟩=>⟨σ,H1,I1,q1⟩) I.quiet hs
noncomputable def tRet(te:TE):TS:=fun D σ H=>te σ H D.rt
theorem zR(he:PE X e te):PS X (.Return (some e) pos) (tRet te):=by
 intro z4 s σ H D I h
 exact wpAny_Return_some (thn (he z4 s σ H _ I h) fun v s1 ⟨x,H1,I1,r1,q1⟩=>⟨x,σ,H1,I1,r1,q1⟩)
noncomputable def tIfS(c:TT)(t u:TS):TS:=fun D σ H=>c σ H fun b H1=>if b=true then t D σ H1 else u D σ H1
theorem ze{c:Expr}{a b:List Stmt}{tc:TT}(hc:PT X c tc)(ha:PSs X a t)(hb:PSs X b u):PS X (.If c a b pos) (tIfS tc t u):=by
 intro z4 s σ H D I h
 refine wpAny_If (thn (hc z4 s σ H _ I h) fun d s1 hz=>?_)
 obtain⟨H1,I1,q1⟩:=hz
 cases d with
 | true=>exact ha z4 s1 σ H1 D I1 q1
 | false=>exact hb z4 s1 σ H1 D I1 q1
noncomputable def Wg:TS:=fun _ _ _=>False
theorem xg:PS X st Wg:=fun _ _ _ _ _ _ h=>h.elim
end
abbrev TG:=V->St->Hp->(St->Hp->Prop)->Prop
abbrev TGs:=AK->St->Hp->(St->Hp->Prop)->Prop
noncomputable def PG(X:Cx)(target:Expr)(t:TG):Prop:=
 ∀(z4:List AE) (s:Shared) (σ:St) (H:Hp) (v:V) (u:Value) (Q:St->Hp->Prop),Inv X z4 σ H s->RelV v u->t v σ H Q->
  wpAny (model X.prog X.w) X.A (assign target X.env u) (fun _ s'=>∃σ' H',Inv X z4 σ' H' s'/\Q σ' H') X.xe s
noncomputable def PGs(X:Cx)(ts:List Expr)(t:TGs):Prop:=
 ∀(z4:List AE) (s:Shared) (σ:St) (H:Hp) (vs:AK) (us:AG) (Q:St->Hp->Prop),Inv X z4 σ H s->Vals vs us->t vs σ H Q->
  wpAny (model X.prog X.w) X.A (assignInOrder ((assignEach ts X.env).map (·.2)) us) (fun _ s'=>∃σ' H',Inv X z4 σ' H' s'/\Q σ' H') X.xe s
section
variable{X:Cx}{pos:Pos}
noncomputable def um(i:Nat):TG:=fun v σ H Q=>Q (σ.set i (some v)) H
theorem zd{i:Nat}{x:Str}(hN:X.N.Nodup)(hi:X.N[i]? = some x)(hx:Loc X.env.scope x)(hf:X.fn x=true\/X.env.scope.names.lookup x=some .local:=by first|exact .inl rfl|exact .inr rfl|assumption):PG X (.Name x pos) (um i):=by
 intro z4 s σ H v u Q I r h
 exact wpAny_assign_Name (Yi I hN hi hx r (fun s' I'=>⟨_,H,I',h⟩) hf)
noncomputable def X4:TGs:=fun vs σ H Q=>vs=[]/\Q σ H
noncomputable def mG(t:TG)(u:TGs):TGs:=fun vs σ H Q=>∃v r,vs=v::r/\t v σ H fun σ' H'=>u r σ' H' Q
theorem vC:PGs X [] X4:=by
 intro z4 s σ H vs us Q I r h
 obtain⟨e,h⟩:=h
 subst e
 cases r
 exact assignInOrder_nil ⟨σ,H,I,h⟩
theorem xI{e:Expr}{es:List Expr}{t:TG}{u:TGs}(h1:PG X e t)(h2:PGs X es u)
  (hs:(assignEach (e::es) X.env).map (·.2)=assign e X.env::(assignEach es X.env).map (·.2):=by rfl):PGs X (e::es) (mG t u):=by
 intro z4 s σ H vs us Q I r h
 obtain⟨v,vr,e1,h⟩:=h
 subst e1
 cases r with
 | cons r rr=>
  rw[hs]
  refine assignInOrder_cons (thn (h1 z4 s σ H _ _ _ I r h) fun _ s1 hz=>?_)
  obtain⟨σ1,H1,I1,q1⟩:=hz
  exact h2 z4 s1 σ1 H1 _ _ Q I1 rr q1
noncomputable def W2(K:AA)(n:Nat)(t:TGs):TG:=fun v σ H Q=>∃a xs,v=.ref a/\SqT K H a xs/\xs.length=n/\t xs σ H Q
theorem aj{es:List Expr}{k:Nat}{t:TGs}{n:Nat}(hc:X.calm=true)(h:PGs X es t)
  (hn:(assignEach es X.env).length=n:=by rfl) (hst:(assignEach es X.env).findIdx? (·.1)=none:=by rfl):PG X (.Tuple es k pos) (W2 X.K n t):=by
 intro z4 s σ H v u Q I r hw
 obtain⟨a,xs,e1,hq,hl,hw⟩:=hw
 subst e1
 cases r
 obtain⟨zC,rv,ht,hz⟩:=I.tuple hq
 refine assign_Tuple_tuple (I.ok.hd hc) ht (by simp[hn,<- hl,rv.length]) hst fun h' hx=>?_
 have I1:Inv X z4 σ H { s with heap:=h' }:=I.kept (t':=s.toks) fun b o e=>hx b o (c8 (bQ e)) e
 exact h z4 _ σ H xs _ Q I1 (by simpa using rv) hw
noncomputable def tAsg(te:TE)(g:TG):TS:=fun D σ H=>te σ H fun x H1=>g x σ H1 D.nx
theorem zW{i:Nat}{x:Str}{e:Expr}{te:TE}{pos':Pos}(hN:X.N.Nodup)(hi:X.N[i]? = some x)(hx:Loc X.env.scope x)(he:PE X e te)(hs:swapsWith e (some (.Name x pos')) pos.line X.env=pure false:=by rfl)(hf:X.fn x=true\/X.env.scope.names.lookup x=some .local:=by first|exact .inl rfl|exact .inr rfl|assumption) :
  PS X (.Assign [.Name x pos'] e pos) (tAsg te (um i)):=by
 intro z4 s σ H D I h
 refine wpAny_Assign_Name (thn (he z4 s σ H _ I h) fun v s1 hz=>?_) hs
 obtain⟨y,H1,I1,r1,q1⟩:=hz
 exact Yi I1 hN hi hx r1 (fun s2 I2=>⟨_,H1,I2,q1⟩) hf
end
section
variable{X:Cx}{pos:Pos}
end
structure It where
 go:Nat->Hp->Prop
 yld:Nat->Hp->V->Hp->Prop
 stop:Nat->Hp->Prop
noncomputable def N7(X:Cx)(z4:List AE)(H:Hp)(b:Addr):Prop:=
 H b=none/\b≠X.env.locals/\b∉X.fs/\(b∈X.ex\/X.s₀.heap.objs.size<=b)/\(∀x c,X.env.cells.lookup x=some c->c≠b)/\∀p∈X.pn++z4,p.1≠b
theorem Inv.O6{X:Cx}{z4:List AE}{σ:St}{H H':Hp}{s:Shared}{b:Addr}(I:Inv X z4 σ H s)(hb:s.heap.objs.size<=b)(hn:H' b=none):N7 X z4 H' b:=by
 refine⟨hn,fL (cR I.lt hb),I.nofs hb,.inr (c7 I.sz hb),fun x c e z=>?_,fun p hp z=>?_⟩
 ·obtain⟨v,q⟩:=I.cell x c e
  exact ND (cR q.lt (by rw[z];exact hb)) (eF _)
 ·exact ND (cR (bQ (I.pin p hp).1) (by rw[z];exact hb)) (eF _)
structure Turn(P:Program)(w:World)(K:AA)(tg:Expr)(J:It)(fp:List Addr)(it:Addr)(tn:Nat->Heap->Prop):Prop where
 mem:it∈fp
 obj:∀i h,tn i h->∀b∈fp,∃o,h.get? b=some o/\∀v,o.data≠.cell v
 keep:∀i h h',tn i h->(∀b∈fp,∀o,h.get? b=some o->h'.get? b=some o)->tn i h'
 item:∀(X:Cx),X.prog=P->X.w=w->X.K=K->X.calm=true->∀(i:Nat) (z4:List AE) (s:Shared) (σ:St) (H:Hp) (E:AB),Inv X z4 σ H s->(∀b∈fp,N7 X z4 H b)->tn i s.heap->J.go i H->
  wpAny (model P w) X.A (pyNext (.ref it)) (fun r s1=>∃u,r=some u/\
   wpAny (model P w) X.A (letOwnedTupleGo tg (.ref it) u) (fun _ s2=>∃x H',Inv X z4 σ H' s2/\RelV x u/\J.yld i H x H'/\tn (i+1) s2.heap/\∀b∈fp,H' b=none) E s1) E s
 done:∀(X:Cx),X.prog=P->X.w=w->X.K=K->X.calm=true->∀(i:Nat) (z4:List AE) (s:Shared) (σ:St) (H:Hp) (E:AB),Inv X z4 σ H s->(∀b∈fp,N7 X z4 H b)->tn i s.heap->J.stop i H->
  wpAny (model P w) X.A (pyNext (.ref it)) (fun r s1=>r=none/\Inv X z4 σ H s1) E s
 self:∀(A:Around) (i:Nat) (s:Shared) (Q:AB) (E:AB),tn i s.heap->Q (.ref it) s->wpAny (model P w) A (pyIter (.ref it)) Q E s
abbrev TI:=St->Hp->(It->Hp->Prop)->Prop
noncomputable def PIE(X:Cx)(z4:List AE)(σ:St)(tg:Expr)(R:It->Hp->Prop)(itv:Value)(s2:Shared):Prop:=
 ∃(it:Addr) (fp:List Addr) (tn:Nat->Heap->Prop) (J:It) (H':Hp),itv=.ref it/\Inv X z4 σ H' s2/\Turn X.prog X.w X.K tg J fp it tn/\tn 0 s2.heap/\(∀b∈fp,N7 X z4 H' b)/\R J H'
noncomputable def PI(X:Cx)(tg iter:Expr)(wi:TI):Prop:=
 ∀(z4:List AE) (s:Shared) (σ:St) (H:Hp) (R:It->Hp->Prop),Inv X z4 σ H s->wi σ H R->
  wpAny (model X.prog X.w) X.A (eval iter X.env) (fun v s1=>wpAny (model X.prog X.w) X.A (pyIter v) (PIE X z4 σ tg R) X.xe s1) X.xe s
theorem uD {M : Model} {A : Around} {E : Value -> Shared -> Prop} {s : Shared} {tg : Expr} {it : Addr} {u : Value} {o : Obj} {n : String} {vs : AI} {Q : Unit -> Shared -> Prop} (ho : s.heap.get? it = some o) (hc : o.cls = .type n) (hd : o.data = .fields vs)
    (hn : ["enumerate", "zip", "dict_itemiterator", "dict_reverseitemiterator", "odict_iterator", "itertools.zip_longest", "itertools.pairwise"].contains n = false) (hQ : Q () s) : wpAny M A (letOwnedTupleGo tg (.ref it) u) Q E s := by
  unfold letOwnedTupleGo
  cases tg <;> first
    | exact Pm hQ
    | (cases u <;> first
        | exact Pm hQ
        | (refine Pl (wpAny_load ho ?_)
           rw [hc, hd]
           show wpAny M A (if (["enumerate", "zip", "dict_itemiterator", "dict_reverseitemiterator", "odict_iterator", "itertools.zip_longest", "itertools.pairwise"].contains n && vs[0]? == some (rawInt _)) = true then _ else _) Q E s
           rw [Pn (by intro h; rw [hn, Bool.false_and] at h; cases h)]
           exact Pm hQ))
noncomputable def Itl(K:AA)(a:Addr):It:=
 ⟨fun i H=>∃xs x,SqL K H a xs/\xs[i]? = some x,fun i H x H'=>H'=H/\∀xs,SqL K H a xs->xs[i]? = some x,fun i H=>∃xs,SqL K H a xs/\xs.length<=i⟩
noncomputable def Itt(K:AA)(a:Addr):It:=
 ⟨fun i H=>∃xs x,SqT K H a xs/\xs[i]? = some x,fun i H x H'=>H'=H/\∀xs,SqT K H a xs->xs[i]? = some x,fun i H=>∃xs,SqT K H a xs/\xs.length<=i⟩
noncomputable def Itr(lo:Int)(n:Nat):It:=⟨fun i _=>i<n,fun i H x H'=>H'=H/\x=.int (lo+i),fun i _=>n<=i⟩
theorem XS{P:Program}{w:World}{K:AA}{tg:Expr}(a it:Addr):Turn P w K tg (Itl K a) [it] it (fun i h=>h.IsListIter it a i) where
 mem:=by simp
 obj:=fun i h st b hb=>by
  have e:b=it:=by simpa using hb
  subst e
  obtain⟨o,e,c,d⟩:=st
  exact⟨o,e,fun v z=>by rw[d] at z;cases z⟩
 keep:=fun i h h' st k=>st.at fun o e=>k it (by simp) o e
 item:=by
  intro X hP hw hK hc i z4 s σ H E I hf st hg
  subst hP hw hK
  obtain⟨xs,x,hq,hx⟩:=hg
  obtain⟨zC,rv,p,hz⟩:=I.list hq
  obtain⟨u,hu,ru⟩:=rv.get hx
  obtain⟨f0,f1,f2,f3,f4,f5⟩:=hf it (by simp)
  refine wpAny_pyNext_list_item st p.isList (x:=u) (by simpa using hu) fun h' st' sb=>?_
  have I1:Inv X z4 σ H { s with heap:=h' }:=I.turned (t':=s.toks) (fun b o hb e=>(sb.2 b hb).trans e) f0 f1 f3 f4 f5
  obtain⟨o,e,c,d⟩:=id st'
  exact⟨u,rfl,uD (s:={ s with heap:=h' }) e c d (by decide) ⟨x,H,I1,ru,⟨rfl,fun ys hy=>by rw[I.T9 hy hq];exact hx⟩,st',fun b hb=>(hf b hb).1⟩⟩
 done:=by
  intro X hP hw hK hc i z4 s σ H E I hf st hg
  subst hP hw hK
  obtain⟨xs,hq,hx⟩:=hg
  obtain⟨zC,rv,p,hz⟩:=I.list hq
  obtain⟨f0,f1,f2,f3,f4,f5⟩:=hf it (by simp)
  have hl:=rv.length
  exact wpAny_pyNext_list_end (I.ok.hd hc) st p.isList (by simp;lia) fun h' eb=>⟨rfl,I.turned (t':=s.toks) (fun b o hb e=>eb b o hb e) f0 f1 f3 f4 f5⟩
 self:=fun _ _ _ _ _ st h=>wpAny_pyIter_listiter st h
theorem jx{P:Program}{w:World}{K:AA}{tg:Expr}(a it:Addr):Turn P w K tg (Itt K a) [it] it (fun i h=>h.IsTupleIter it a i) where
 mem:=by simp
 obj:=fun i h st b hb=>by
  have e:b=it:=by simpa using hb
  subst e
  obtain⟨o,e,c,d⟩:=st
  exact⟨o,e,fun v z=>by rw[d] at z;cases z⟩
 keep:=fun i h h' st k=>st.at fun o e=>k it (by simp) o e
 item:=by
  intro X hP hw hK hc i z4 s σ H E I hf st hg
  subst hP hw hK
  obtain⟨xs,x,hq,hx⟩:=hg
  obtain⟨zC,rv,p,hz⟩:=I.tuple hq
  obtain⟨u,hu,ru⟩:=rv.get hx
  obtain⟨f0,f1,f2,f3,f4,f5⟩:=hf it (by simp)
  refine wpAny_pyNext_tuple_item st (show s.heap.IsTuple a zC.toArray from p) (x:=u) (by simpa using hu) fun h' st' sb=>?_
  have I1:Inv X z4 σ H { s with heap:=h' }:=I.turned (t':=s.toks) (fun b o hb e=>(sb.2 b hb).trans e) f0 f1 f3 f4 f5
  obtain⟨o,e,c,d⟩:=id st'
  exact⟨u,rfl,uD (s:={ s with heap:=h' }) e c d (by decide) ⟨x,H,I1,ru,⟨rfl,fun ys hy=>by rw[I.M4 hy hq];exact hx⟩,st',fun b hb=>(hf b hb).1⟩⟩
 done:=by
  intro X hP hw hK hc i z4 s σ H E I hf st hg
  subst hP hw hK
  obtain⟨xs,hq,hx⟩:=hg
  obtain⟨zC,rv,p,hz⟩:=I.tuple hq
  obtain⟨f0,f1,f2,f3,f4,f5⟩:=hf it (by simp)
  have hl:=rv.length
  exact wpAny_pyNext_tuple_end (I.ok.hd hc) st (show s.heap.IsTuple a zC.toArray from p) (by simp;lia) fun h' eb=>⟨rfl,I.turned (t':=s.toks) (fun b o hb e=>eb b o hb e) f0 f1 f3 f4 f5⟩
 self:=fun _ _ _ _ _ st h=>wpAny_pyIter_tupleiter st h
theorem Qd{P:Program}{w:World}{K:AA}{tg:Expr}(it:Addr)(lo:Int)(n:Nat):Turn P w K tg (Itr lo n) [it] it (fun i h=>IsRangeIter h it (lo+(i:Nat)*1) ((n:Int)-(i:Nat)) 1) where
 mem:=by simp
 obj:=fun i h st b hb=>by
  have e:b=it:=by simpa using hb
  subst e
  exact⟨_,st,fun v z=>by
   have z':Data.fields _=Data.cell v:=z
   cases z'⟩
 keep:=fun i h h' st k=>k it (by simp) _ st
 item:=by
  intro X hP hw hK hc i z4 s σ H E I hf st hg
  subst hP hw hK
  obtain⟨f0,f1,f2,f3,f4,f5⟩:=hf it (by simp)
  have W:=Walks.range (prog:=X.prog) (w:=X.w) (I.ok.hd hc) it lo 1 n
  refine W.item i s _ _ hg st fun v h' tk hv st' kk=>?_
  obtain⟨t,rfl⟩:=hv
  have I1:Inv X z4 σ H { s with heap:=h',toks:=tk }:=I.turned (fun b o hb e=>kk b o (by simpa using hb) e) f0 f1 f3 f4 f5
  refine⟨_,rfl,uD (s:={ s with heap:=h',toks:=tk }) (n:="range_iterator") st' rfl rfl (by decide) ⟨.int (lo+i),H,I1,⟨t,?_⟩,⟨rfl,rfl⟩,st',fun b hb=>(hf b hb).1⟩⟩
  rw[Int.mul_one]
 done:=by
  intro X hP hw hK hc i z4 s σ H E I hf st hg
  subst hP hw hK
  obtain⟨f0,f1,f2,f3,f4,f5⟩:=hf it (by simp)
  exact Oq (I.ok.hd hc) st (by have:n<=i:=hg;lia) fun h' eb=>⟨rfl,I.turned (t':=s.toks) (fun b o hb e=>eb b o hb e) f0 f1 f3 f4 f5⟩
 self:=fun _ _ _ _ _ st h=>Ot st h
section
variable{X:Cx}{tg:Expr}
noncomputable def w0R(K:AA)(tl:TE):TI:=fun σ H R=>tl σ H fun x H1=>∃a,x=.ref a/\(∃xs,SqL K H1 a xs)/\R (Itl K a) H1
noncomputable def iTup(K:AA)(tl:TE):TI:=fun σ H R=>tl σ H fun x H1=>∃a,x=.ref a/\(∃xs,SqT K H1 a xs)/\R (Itt K a) H1
theorem xG{l:Expr}{tl:TE}(hl:PE X l tl):PI X tg l (w0R X.K tl):=by
 intro z4 s σ H R I h
 refine thn (hl z4 s σ H _ I h) fun v s1 hz=>?_
 obtain⟨x,H1,I1,r1,q1⟩:=hz
 obtain⟨a,e,⟨xs,hq⟩,q⟩:=q1
 subst e
 cases r1
 obtain⟨zC,rv,p,hz⟩:=I1.list hq
 refine ON p.isList ?_
 refine⟨s1.heap.objs.size,[s1.heap.objs.size],_,_,H1,rfl,I1.kept (t':=s1.toks) fun b o e=>bB _ e,XS a _,⟨_,bJ _ rfl,rfl,rfl⟩,fun b hb=>?_,q⟩
 have e:b=s1.heap.objs.size:=by simpa using hb
 subst e
 exact I1.O6 (bG _) (I1.hok.fresh (bG _))
theorem yt{l:Expr}{tl:TE}(hl:PE X l tl):PI X tg l (iTup X.K tl):=by
 intro z4 s σ H R I h
 refine thn (hl z4 s σ H _ I h) fun v s1 hz=>?_
 obtain⟨x,H1,I1,r1,q1⟩:=hz
 obtain⟨a,e,⟨xs,hq⟩,q⟩:=q1
 subst e
 cases r1
 obtain⟨zC,rv,p,hz⟩:=I1.tuple hq
 refine OL (show s1.heap.IsTuple a zC.toArray from p) ?_
 refine⟨s1.heap.objs.size,[s1.heap.objs.size],_,_,H1,rfl,I1.kept (t':=s1.toks) fun b o e=>bB _ e,jx a _,⟨_,bJ _ rfl,rfl,rfl⟩,fun b hb=>?_,q⟩
 have e:b=s1.heap.objs.size:=by simpa using hb
 subst e
 exact I1.O6 (bG _) (I1.hok.fresh (bG _))
theorem Yy{z4:List AE}{σ:St}{H:Hp}{s:Shared}{R:It->Hp->Prop}{E:AB}{lo hi:Int}{t u v:Tok}{tk:Nat}(I:Inv X z4 σ H s)(h1:-(2^62)<=lo)(h2:lo<2^62)(h3:-(2^62)<=hi)(h4:hi<2^62)
  (q:R (Itr lo (hi-lo).toNat) H):wpAny (model X.prog X.w) X.A (pyIter (.ref s.heap.objs.size)) (PIE X z4 σ tg R) E { s with heap:=s.heap.push { cls:=.type "range",data:=.fields #[.int lo t,.int hi u,.int 1 v] },toks:=tk }:=by
 refine Ow (IsRange.new ..) (small_one h1 h2 h3 h4) ?_
 have I1:Inv X z4 σ H { s with heap:=s.heap.push { cls:=.type "range",data:=.fields #[.int lo t,.int hi u,.int 1 v] },toks:=tk }:=I.kept fun b o e=>bB _ e
 refine⟨(s.heap.push { cls:=.type "range",data:=.fields #[.int lo t,.int hi u,.int 1 v] }).objs.size,[(s.heap.push { cls:=.type "range",data:=.fields #[.int lo t,.int hi u,.int 1 v] }).objs.size],_,_,H,rfl,
  I1.kept (t':=tk) fun b o e=>bB _ e,Qd _ lo (hi-lo).toNat,?_,fun b hb=>?_,q⟩
 ·have e1:lo+((0:Nat):Int)*1=lo:=by simp
  have e2:(((hi-lo).toNat:Nat):Int)-((0:Nat):Int)=Builtin.Range.rangeSize lo hi 1:=by rw[rangeSize_one];split<;>lia
  show IsRangeIter _ _ (lo+((0:Nat):Int)*1) ((((hi-lo).toNat:Nat):Int)-((0:Nat):Int)) 1
  rw[e1,e2]
  exact bJ _ rfl
 ·have e:b=(s.heap.push { cls:=.type "range",data:=.fields #[.int lo t,.int hi u,.int 1 v] }).objs.size:=by simpa using hb
  subst e
  exact I1.O6 (bG _) (I1.hok.fresh (bG _))
noncomputable def w07(ta:TA):TI:=fun σ H R=>ta σ H fun vs H1=>∃j:Int,vs=[.int j]/\-(2^62)<=j/\j<2^62/\R (Itr 0 j.toNat) H1
noncomputable def w0z(ta:TA):TI:=fun σ H R=>ta σ H fun vs H1=>∃i j:Int,vs=[.int i,.int j]/\(-(2^62)<=i/\i<2^62/\-(2^62)<=j/\j<2^62)/\R (Itr i (j-i).toNat) H1
theorem xi{a:Expr}{ta:TA}{p pos:Pos}(hg:Gl X "range")(hm:X.mg "range"=none)(ha:PA X [a] ta)(hs:starEach [a] X.env=[(false,eval a X.env)]:=by rfl):PI X tg (.Call (.Name "range" p) [a] [] pos) (w07 ta):=by
 intro z4 s σ H R I h
 refine Call_ (wF I hg hm boot_range (dN (thn (ha pos z4 s σ H _ I h) fun us s1 hz=>?_) hs rfl))
 obtain⟨vs,H1,I1,r1,q1⟩:=hz
 obtain⟨j,e,q1,q2,q⟩:=q1
 subst e
 cases r1 with
 | cons r rr=>
  cases rr
  obtain⟨t,rfl⟩:=r
  exact call_range_1 (Yy I1 (by lia) (by lia) q1 q2 (by simpa using q))
theorem Xc{a b:Expr}{ta:TA}{p pos:Pos}(hg:Gl X "range")(hm:X.mg "range"=none)(ha:PA X [a,b] ta)(hs:starEach [a,b] X.env=[(false,eval a X.env),(false,eval b X.env)]:=by rfl)(hs2:starEach [b] X.env=[(false,eval b X.env)]:=by rfl) :
  PI X tg (.Call (.Name "range" p) [a,b] [] pos) (w0z ta):=by
 intro z4 s σ H R I h
 refine Call_ (wF I hg hm boot_range (dN (thn (ha pos z4 s σ H _ I h) fun us s1 ⟨vs,H1,I1,r1,q1⟩=>?_) (by rw[hs,hs2]) (by rw[hs2];rfl)))
 obtain⟨i,j,e,⟨q1,q2,q3,q4⟩,q⟩:=q1
 subst e
 cases r1 with
 | cons r rr=>
  cases rr with
  | cons r' rr=>
   cases rr
   obtain⟨t,rfl⟩:=r
   obtain⟨t',rfl⟩:=r'
   exact call_range_2 (Yy I1 q1 q2 q3 q4 q)
noncomputable def tFor(wi:TI)(g:TG)(tb:TS):TS:=fun D σ H=>wi σ H fun J H1=>∃W:Nat->Nat->St->Hp->Prop,(∃m,W 0 m σ H1)/\∀i m σ H,W i m σ H->
 (J.stop i H/\D.nx σ H)\/(J.go i H/\∃N:St->Hp->Prop,(∀σ' H',N σ' H'->∃m',m'<m/\W (i+1) m' σ' H')/\∀x H',J.yld i H x H'->g x σ H' fun σ2 H2=>tb { D with nx:=N,ct:=N,bk:=D.nx } σ2 H2)
noncomputable def uw(fp:List Addr)(h:Heap):List AE:=fp.filterMap fun b=>(h.get? b).map fun o=>(b,o)
theorem sJ{fp:List Addr}{h:Heap}{b:Addr}{o:Obj}(hb:b∈fp)(e:h.get? b=some o):(b,o)∈uw fp h:=l7.mpr ⟨b,hb,by rw[e];rfl⟩
theorem SH{fp:List Addr}{h:Heap}{p:Addr×Obj}(hp:p∈uw fp h):p.1∈fp/\h.get? p.1=some p.2:=by
 obtain⟨b,hb,e⟩:=l7.mp hp
 cases q:h.get? b with
 | none=>rw[q] at e;cases e
 | some o=>
  rw[q] at e
  have e':(b,o)=p:=Option.some.inj e
  subst e'
  exact⟨hb,q⟩
theorem Inv.pinned{z4:List AE}{σ:St}{H:Hp}{s:Shared}{fp:List Addr}(I:Inv X z4 σ H s)(hf:∀b∈fp,N7 X z4 H b)(ho:∀b∈fp,∃o,s.heap.get? b=some o/\∀v,o.data≠.cell v):Inv X (z4++uw fp s.heap) σ H s:=
 I.N9 fun p hp=>(bZ.mp hp).elim (fun z=>I.pin p (cF _ z)) fun z=>by
  obtain⟨hb,e⟩:=SH z
  obtain⟨f0,f1,f2,_⟩:=hf p.1 hb
  obtain⟨o,e',d⟩:=ho p.1 hb
  rw[e] at e';cases e'
  exact⟨e,f0,f1,f2,d⟩
theorem Inv.N6{z4 pl:List AE}{σ:St}{H:Hp}{s:Shared}(I:Inv X (z4++pl) σ H s):Inv X z4 σ H s:=I.N9 fun p hp=>I.pin p (cF _ (eV _ hp))
theorem y9{iter:Expr}{body:List Stmt}{wi:TI}{g:TG}{tb:TS}{pos:Pos}(hp:PassesOwn (model X.prog X.w) X.A X.env X.xe)(hc:X.calm=true)(hi:PI X tg iter wi)(hg:PG X tg g)(hb:PSs X body tb)
  (hs:∀x,foldedSetIterable iter X.env x=pure x:=by intro _;rfl):PS X (.For tg iter body [] pos) (tFor wi g tb):=by
 intro z4 s σ H D I h
 refine wpAny_For (thn (hi z4 s σ H _ I h) fun v s1 h1=>thn h1 fun itv s2 h2=>?_) hs
 obtain⟨it,fp,tn,J,H2,e,I2,T,st2,f2,W,⟨m0,w0⟩,turn⟩:=h2
 subst e
 have X6:∀{H':Hp},(∀b∈fp,H' b=none)->∀b∈fp,N7 X z4 H' b:=fun hn b hb=>⟨hn b hb,(f2 b hb).2⟩
 refine codeAny_forLoop_any (fun n s'=>∃i σ' H',Inv X z4 σ' H' s'/\tn i s'.heap/\(∀b∈fp,H' b=none)/\W i n σ' H') ?_ m0 ⟨0,σ,H2,I2,st2,fun b hb=>(f2 b hb).1,w0⟩
 rintro n s3 ⟨i,σ3,H3,I3,st3,fr3,w3⟩
 rcases turn i n σ3 H3 w3 with ⟨stop,qn⟩|⟨go,N,hN,step⟩
 ·refine Om hp (thn (T.done X rfl rfl rfl hc i z4 s3 σ3 H3 X.xe I3 (X6 fr3) st3 stop) fun r s4 hz=>?_)
  obtain⟨hr,I4⟩:=hz
  subst hr
  exact wpAny_execs_nil ⟨σ3,H3,I4,qn⟩
 ·refine Om hp (thn (T.item X rfl rfl rfl hc i z4 s3 σ3 H3 X.xe I3 (X6 fr3) st3 go) fun r s4 hz=>?_)
  obtain⟨u,hr,h4⟩:=hz
  subst hr
  refine Om hp (thn h4 fun _ s5 hz=>?_)
  obtain⟨x,H5,I5,r5,y5,st5,fr5⟩:=hz
  have I5':=I5.pinned (X6 fr5) (T.obj _ _ st5)
  refine Om hp (thn (hg _ s5 σ3 H5 x u _ I5' r5 (step x H5 y5)) fun _ s6 hz=>?_)
  obtain⟨σ6,H6,I6,q6⟩:=hz
  refine Om hp (thn (hb _ s6 σ6 H6 _ I6 q6) fun f s7 q7=>?_)
  have again:∀{σ7:St}{H7:Hp},Inv X (z4++uw fp s5.heap) σ7 H7 s7->N σ7 H7->∃m,m<n/\∃i σ' H',Inv X z4 σ' H' s7/\tn i s7.heap/\(∀b∈fp,H' b=none)/\W i m σ' H':=fun {σ7 H7} I7 n7=>by
   obtain⟨m',hm,w7⟩:=hN σ7 H7 n7
   refine⟨m',hm,i+1,σ7,H7,I7.N6,T.keep _ _ _ st5 fun b hb o e=>(I7.pin (b,o) (cF _ (cF _ (sJ hb e)))).1,fun b hb=>?_,w7⟩
   obtain⟨o,e,d⟩:=T.obj _ _ st5 b hb
   exact(I7.pin (b,o) (cF _ (cF _ (sJ hb e)))).2.1
  cases f with
  | next=>obtain⟨σ7,H7,I7,n7⟩:=q7;exact again I7 n7
  | cont=>obtain⟨σ7,H7,I7,n7⟩:=q7;exact again I7 n7
  | brk=>obtain⟨σ7,H7,I7,q7⟩:=q7;exact⟨σ7,H7,I7.N6,q7⟩
  | ret v=>obtain⟨x7,σ7,H7,I7,r7,q7⟩:=q7;exact⟨x7,σ7,H7,I7.N6,r7,q7⟩
end
theorem xv{K:AA}{a:Addr}{xs:AK}{g:TG}{tb:TS}{D:Ends}{σ:St}{H:Hp}(Pv:Nat->St->Hp->Prop)(h0:Pv 0 σ H)(hl:∀i σ H,i<=xs.length->Pv i σ H->SqL K H a xs)
  (hs:∀i x σ H,xs[i]? = some x->Pv i σ H->g x σ H fun σ2 H2=>tb { D with nx:=Pv (i+1),ct:=Pv (i+1),bk:=D.nx } σ2 H2) (hd:∀σ H,Pv xs.length σ H->D.nx σ H) :
  ∃W:Nat->Nat->St->Hp->Prop,(∃m,W 0 m σ H)/\∀i m σ H,W i m σ H->
   ((Itl K a).stop i H/\D.nx σ H)\/((Itl K a).go i H/\∃N:St->Hp->Prop,(∀σ' H',N σ' H'->∃m',m'<m/\W (i+1) m' σ' H')/\∀x H',(Itl K a).yld i H x H'->g x σ H' fun σ2 H2=>tb { D with nx:=N,ct:=N,bk:=D.nx } σ2 H2):=by
 refine⟨fun i m σ H=>m=xs.length-i/\i<=xs.length/\Pv i σ H,⟨xs.length,by simp,cQ _,h0⟩,?_⟩
 rintro i m σ H ⟨rfl,hi,p⟩
 have q:=hl i σ H hi p
 by_cases hlt:i<xs.length
 ·refine .inr ⟨⟨xs,xs[i],q,by simp[hlt]⟩,Pv (i+1),fun σ' H' p'=>⟨xs.length-(i+1),by lia,rfl,hlt,p'⟩,fun x H' y=>?_⟩
  obtain⟨e,y⟩:=y
  subst e
  exact hs i x σ _ (y xs q) p
 ·have e:i=xs.length:=by lia
  subst e
  exact .inl ⟨⟨xs,q,bG _⟩,hd σ H p⟩
theorem wo{K:AA}{a:Addr}{xs:AK}{g:TG}{tb:TS}{D:Ends}{σ:St}{H:Hp}(Pv:Nat->St->Hp->Prop)(h0:Pv 0 σ H)(hl:∀i σ H,i<=xs.length->Pv i σ H->SqT K H a xs)
  (hs:∀i x σ H,xs[i]? = some x->Pv i σ H->g x σ H fun σ2 H2=>tb { D with nx:=Pv (i+1),ct:=Pv (i+1),bk:=D.nx } σ2 H2) (hd:∀σ H,Pv xs.length σ H->D.nx σ H) :
  ∃W:Nat->Nat->St->Hp->Prop,(∃m,W 0 m σ H)/\∀i m σ H,W i m σ H->
   ((Itt K a).stop i H/\D.nx σ H)\/((Itt K a).go i H/\∃N:St->Hp->Prop,(∀σ' H',N σ' H'->∃m',m'<m/\W (i+1) m' σ' H')/\∀x H',(Itt K a).yld i H x H'->g x σ H' fun σ2 H2=>tb { D with nx:=N,ct:=N,bk:=D.nx } σ2 H2):=by
 refine⟨fun i m σ H=>m=xs.length-i/\i<=xs.length/\Pv i σ H,⟨xs.length,by simp,cQ _,h0⟩,?_⟩
 rintro i m σ H ⟨rfl,hi,p⟩
 have q:=hl i σ H hi p
 by_cases hlt:i<xs.length
 ·refine .inr ⟨⟨xs,xs[i],q,by simp[hlt]⟩,Pv (i+1),fun σ' H' p'=>⟨xs.length-(i+1),by lia,rfl,hlt,p'⟩,fun x H' y=>?_⟩
  obtain⟨e,y⟩:=y
  subst e
  exact hs i x σ _ (y xs q) p
 ·have e:i=xs.length:=by lia
  subst e
  exact .inl ⟨⟨xs,q,bG _⟩,hd σ H p⟩
theorem w4{lo:Int}{n:Nat}{g:TG}{tb:TS}{D:Ends}{σ:St}{H:Hp}(Pv:Nat->St->Hp->Prop)(h0:Pv 0 σ H)
  (hs:∀i σ H,i<n->Pv i σ H->g (.int (lo+i)) σ H fun σ2 H2=>tb { D with nx:=Pv (i+1),ct:=Pv (i+1),bk:=D.nx } σ2 H2) (hd:∀σ H,Pv n σ H->D.nx σ H) :
  ∃W:Nat->Nat->St->Hp->Prop,(∃m,W 0 m σ H)/\∀i m σ H,W i m σ H->
   ((Itr lo n).stop i H/\D.nx σ H)\/((Itr lo n).go i H/\∃N:St->Hp->Prop,(∀σ' H',N σ' H'->∃m',m'<m/\W (i+1) m' σ' H')/\∀x H',(Itr lo n).yld i H x H'->g x σ H' fun σ2 H2=>tb { D with nx:=N,ct:=N,bk:=D.nx } σ2 H2):=by
 refine⟨fun i m σ H=>m=n-i/\i<=n/\Pv i σ H,⟨n,by simp,cQ _,h0⟩,?_⟩
 rintro i m σ H ⟨rfl,hi,p⟩
 by_cases hlt:i<n
 ·refine .inr ⟨hlt,Pv (i+1),fun σ' H' p'=>⟨n-(i+1),by lia,rfl,hlt,p'⟩,fun x H' y=>?_⟩
  obtain⟨e,y⟩:=y
  subst e y
  exact hs i σ _ hlt p
 ·have e:i=n:=by lia
  subst e
  exact .inl ⟨bG _,hd σ H p⟩
abbrev R2:=V->V->Hp->VK->Prop
noncomputable def OpR(X:Cx)(f:Value->Value->Sem Value)(r:R2):Prop:=
 ∀(z4:List AE) (s:Shared) (σ:St) (H:Hp) (x y:V) (v u:Value) (Q:VK),Inv X z4 σ H s->RelV x v->RelV y u->r x y H Q->
  wpAny (model X.prog X.w) X.A (f v u) (EP X z4 σ Q) X.xe s
noncomputable def UnR(X:Cx)(f:Value->Sem Value)(r:V->Hp->VK->Prop):Prop:=
 ∀(z4:List AE) (s:Shared) (σ:St) (H:Hp) (x:V) (v:Value) (Q:VK),Inv X z4 σ H s->RelV x v->r x H Q->
  wpAny (model X.prog X.w) X.A (f v) (EP X z4 σ Q) X.xe s
noncomputable def yo(X:Cx)(f:Value)(r:AK->Hp->VK->Prop):Prop:=
 ∀(z4:List AE) (s:Shared) (σ:St) (H:Hp) (xs:AK) (us:AG) (Q:VK),Inv X z4 σ H s->Vals xs us->r xs H Q->
  wpAny (model X.prog X.w) X.A (call f us) (EP X z4 σ Q) X.xe s
noncomputable def tOp(r:R2)(ta tb:TE):TE:=fun σ H Q=>ta σ H fun x H1=>tb σ H1 fun y H2=>r x y H2 Q
noncomputable def tUn(r:V->Hp->VK->Prop)(ta:TE):TE:=fun σ H Q=>ta σ H fun x H1=>r x H1 Q
noncomputable def rI(C:Int->Int->Prop)(g:Int->Int->V):R2:=fun x y H Q=>∃i j,x=.int i/\y=.int j/\C i j/\Q (g i j) H
noncomputable def rI0(g:Int->Int->V):R2:=fun x y H Q=>∃i j,x=.int i/\y=.int j/\Q (g i j) H
noncomputable def rU(g:Int->V):V->Hp->VK->Prop:=fun x H Q=>∃i,x=.int i/\Q (g i) H
section
variable{X:Cx}{a b c:Expr}{ta tb tc:TE}{pos:Pos}
theorem Y8(ha:PE X a ta)(hb:PE X b tb){z4:List AE}{s:Shared}{σ:St}{H:Hp}{R:V->V->Hp->Prop}(I:Inv X z4 σ H s)
  (h:ta σ H fun x H1=>tb σ H1 fun y H2=>R x y H2) {Q:AB}{f:Value->Value->Sem Value}
  (hf:∀v u s2 x y H2,Inv X z4 σ H2 s2->RelV x v->RelV y u->R x y H2->wpAny (model X.prog X.w) X.A (f v u) Q X.xe s2) :
  wpAny (model X.prog X.w) X.A (eval a X.env) (fun v s₁=>wpAny (model X.prog X.w) X.A (eval b X.env) (fun u s₂=>wpAny (model X.prog X.w) X.A (f v u) Q X.xe s₂) X.xe s₁) X.xe s:=by
 refine thn (ha z4 s σ H _ I h) fun v s1 hz=>?_
 obtain⟨x,H1,I1,r1,q1⟩:=hz
 refine thn (hb z4 s1 σ H1 _ I1 q1) fun u s2 hz=>?_
 obtain⟨y,H2,I2,r2,q2⟩:=hz
 exact hf v u s2 x y H2 I2 r1 r2 q2
theorem zP{op:Operator}{r:R2}(ho:OpR X (binaryOp op) r)(ha:PE X a ta)(hb:PE X b tb):PE X (.BinOp a op b pos) (tOp r ta tb):=by
 intro z4 s σ H Q I h
 exact wpAny_BinOp (Y8 ha hb I h fun v u s2 x y H2 I2 rx ry q=>ho z4 s2 σ H2 x y v u Q I2 rx ry q)
theorem aJ{op:UnaryOp}{r:V->Hp->VK->Prop}(ho:UnR X (unaryOp op) r)(ha:PE X a ta):PE X (.UnaryOp op a pos) (tUn r ta):=by
 intro z4 s σ H Q I h
 exact UnaryOp_ (thn (ha z4 s σ H _ I h) fun v s1 ⟨x,H1,I1,r1,q1⟩=>ho z4 s1 σ H1 x v Q I1 r1 q1)
theorem opI{f:Value->Value->Sem Value}{C:Int->Int->Prop}{g:Int->Int->Int}
  (rule:∀(i j:Int) (t u:Tok) (s:Shared) (Q:AB) (E:AB),C i j->Q (.int (g i j) s.toks) { s with toks:=s.toks+1 }->wpAny (model X.prog X.w) X.A (f (.int i t) (.int j u)) Q E s) :
  OpR X f (rI C fun i j=>.int (g i j)):=by
 intro z4 s σ H x y v u Q I rx ry h
 obtain⟨i,j,rfl,rfl,hc,q⟩:=h
 obtain⟨t,rfl⟩:=rx
 obtain⟨t',rfl⟩:=ry
 exact rule i j t t' s _ _ hc ⟨.int (g i j),H,I.tok _,⟨_,rfl⟩,q⟩
theorem opI0{f:Value->Value->Sem Value}{g:Int->Int->Int}
  (rule:∀(i j:Int) (t u:Tok) (s:Shared) (Q:AB) (E:AB),Q (.int (g i j) s.toks) { s with toks:=s.toks+1 }->wpAny (model X.prog X.w) X.A (f (.int i t) (.int j u)) Q E s) :
  OpR X f (rI0 fun i j=>.int (g i j)):=by
 intro z4 s σ H x y v u Q I rx ry h
 obtain⟨i,j,rfl,rfl,q⟩:=h
 obtain⟨t,rfl⟩:=rx
 obtain⟨t',rfl⟩:=ry
 exact rule i j t t' s _ _ ⟨.int (g i j),H,I.tok _,⟨_,rfl⟩,q⟩
theorem V9{f:Value->Value->Sem Value}{g:Int->Int->Bool}
  (rule:∀(i j:Int) (t u:Tok) (s:Shared) (Q:AB) (E:AB),Q (.bool (g i j)) s->wpAny (model X.prog X.w) X.A (f (.int i t) (.int j u)) Q E s) :
  OpR X f (rI0 fun i j=>.bl (g i j)):=by
 intro z4 s σ H x y v u Q I rx ry h
 obtain⟨i,j,rfl,rfl,q⟩:=h
 obtain⟨t,rfl⟩:=rx
 obtain⟨t',rfl⟩:=ry
 exact rule i j t t' s _ _ ⟨.bl (g i j),H,I,rfl,q⟩
noncomputable def CDiv(i j:Int):Prop:=0<j/\j<1073741824
noncomputable def CPow(i j:Int):Prop:=0<=j/\j<=1000000/\i.natAbs<2^64
noncomputable def Z1(i j:Int):Prop:=(-(2^64)<i/\i<2^64)\/(-(2^64)<j/\j<2^64)
theorem Z1.ok{i j:Int}(h:Z1 i j):IntMulOk i j:=by
 rcases h with ⟨h1,h2⟩|⟨h1,h2⟩
 ·exact .of_left (intBits_le_64 h1 h2)
 ·exact .of_right (intBits_le_64 h1 h2)
theorem yS:OpR X (binaryOp .Add) (rI0 fun i j=>.int (i+j)):=opI0 fun _ _ _ _ _ _ _ q=>add_int q
theorem yu:OpR X (binaryOp .Sub) (rI0 fun i j=>.int (i-j)):=opI0 fun _ _ _ _ _ _ _ q=>sub_int q
theorem xo:OpR X (binaryOp .Mult) (rI Z1 fun i j=>.int (i*j)):=opI fun _ _ _ _ _ _ _ hc q=>mul_int q hc.ok
theorem yg:OpR X (binaryOp .FloorDiv) (rI CDiv fun i j=>.int (i / j)):=opI fun i j _ _ _ _ _ hc q=>by
 have h1:(0:Int)<j:=hc.1
 have h2:j<1073741824:=hc.2
 exact floordiv_int (by lia) (by rw[Int.fdiv_eq_ediv_of_nonneg i (by lia)];exact q) (.inl (kB (by lia)))
theorem y6:OpR X (binaryOp .Mod) (rI (fun _ j=>0<j) fun i j=>.int (i%j)):=opI fun i j _ _ _ _ _ hc q=>by
 have h1:(0:Int)<j:=hc
 exact mod_int' (by lia) (by rw[Int.fmod_eq_emod_of_nonneg i (by lia)];exact q)
theorem Wx:OpR X (binaryOp .Pow) (rI CPow fun i j=>.int (i^j.toNat)):=opI fun _ _ _ _ _ _ _ hc q=>pow_int_small hc.1 hc.2.1 hc.2.2 q
theorem unI{f:Value->Sem Value}{g:Int->Int}
  (rule:∀(i:Int) (t:Tok) (s:Shared) (Q:AB) (E:AB),Q (.int (g i) s.toks) { s with toks:=s.toks+1 }->wpAny (model X.prog X.w) X.A (f (.int i t)) Q E s) :
  UnR X f (rU fun i=>.int (g i)):=by
 intro z4 s σ H x v Q I rx h
 obtain⟨i,rfl,q⟩:=h
 obtain⟨t,rfl⟩:=rx
 exact rule i t s _ _ ⟨.int (g i),H,I.tok _,⟨_,rfl⟩,q⟩
theorem ZG:UnR X (unaryOp .USub) (rU fun i=>.int (-i)):=unI fun _ _ _ _ _ q=>neg_int q
end
noncomputable def X8:V->V->Bool
 | .non,.non=>true|.non,.int _=>true|.int _,.non=>true|.non,.bl _=>true|.bl _,.non=>true|.non,.str _=>true|.str _,.non=>true
 | .int _,.int _=>true|.bl _,.bl _=>true|.str _,.str _=>true|.byt _,.byt _=>true
 | .int _,.str _=>true|.str _,.int _=>true|.bl _,.str _=>true|.str _,.bl _=>true
 | _,_=>false
noncomputable def rEq:R2:=fun x y H Q=>X8 x y=true/\Q (.bl (decide (x=y))) H
noncomputable def rNe:R2:=fun x y H Q=>X8 x y=true/\Q (.bl (!decide (x=y))) H
theorem Zi{i j:Int}:decide (V.int i=V.int j)=(i == j):=by
 rw[cX]
 simp
theorem ZI{i j:Bool}:decide (V.bl i=V.bl j)=(i == j):=by
 rw[cX]
 simp
theorem Zj{i j:Str}:decide (V.str i=V.str j)=(i == j):=by
 rw[cX]
 simp
theorem Zm{i j:Array UInt8}:decide (V.byt i=V.byt j)=(i.toList == j.toList):=by
 rw[cX]
 cases i
 cases j
 simp
section
variable{X:Cx}{a b c:Expr}{ta tb tc:TE}{pos:Pos}
theorem yL{z4:List AE}{σ:St}{H:Hp}{s:Shared}{Q:VK}{k k':Bool}(I:Inv X z4 σ H s)(q:Q (.bl k) H)(e:k=k'):EP X z4 σ Q (.bool k') s:=by
 subst e
 exact⟨.bl k,H,I,rfl,q⟩
theorem yV:OpR X (compareOp .Eq) rEq:=by
 intro z4 s σ H x y v u Q I rx ry h
 obtain⟨hs,q⟩:=h
 cases x with
 | non=>
  cases rx
  cases y with
  | non=>cases ry;exact PySem.EqNone.eq_none_none (yL I q (by simp))
  | bl j=>cases ry;exact PySem.EqNone.eq_none_bool (yL I q (by simp))
  | int j=>obtain⟨t',rfl⟩:=ry;exact PySem.EqNone.eq_none_int (yL I q (by simp))
  | str j=>obtain⟨t',rfl⟩:=ry;exact PySem.EqNone.eq_none_str (yL I q (by simp))
  | _=>exact ND (show false=true from hs) bP
 | bl i=>
  cases rx
  cases y with
  | non=>cases ry;exact PySem.EqNone.eq_bool_none (yL I q (by simp))
  | bl j=>cases ry;exact eq_bool (yL I q ZI)
  | str j=>obtain⟨t',rfl⟩:=ry;exact PySem.EqMixed.eq_bool_str (yL I q (by simp))
  | _=>exact ND (show false=true from hs) bP
 | int i=>
  obtain⟨t,rfl⟩:=rx
  cases y with
  | non=>cases ry;exact PySem.EqNone.eq_int_none (yL I q (by simp))
  | int j=>obtain⟨t',rfl⟩:=ry;exact eq_int (yL I q Zi)
  | str j=>obtain⟨t',rfl⟩:=ry;exact PySem.EqMixed.eq_int_str (yL I q (by simp))
  | _=>exact ND (show false=true from hs) bP
 | str i=>
  obtain⟨t,rfl⟩:=rx
  cases y with
  | non=>cases ry;exact PySem.EqNone.eq_str_none (yL I q (by simp))
  | bl j=>cases ry;exact PySem.EqMixed.eq_str_bool (yL I q (by simp))
  | int j=>obtain⟨t',rfl⟩:=ry;exact PySem.EqMixed.eq_str_int (yL I q (by simp))
  | str j=>obtain⟨t',rfl⟩:=ry;exact eq_str (yL I q Zj)
  | _=>exact ND (show false=true from hs) bP
 | byt i=>
  obtain⟨t,rfl⟩:=rx
  cases y with
  | byt j=>obtain⟨t',rfl⟩:=ry;exact PySem.W.eq_bytes (yL I q Zm)
  | _=>exact ND (show false=true from hs) bP
 | _=>cases y<;>exact ND (show false=true from hs) bP
theorem xn:OpR X (compareOp .NotEq) rNe:=by
 intro z4 s σ H x y v u Q I rx ry h
 obtain⟨hs,q⟩:=h
 cases x with
 | non=>
  cases rx
  cases y with
  | non=>cases ry;exact PySem.EqNone.ne_none_none (yL I q (by simp))
  | bl j=>cases ry;exact PySem.EqNone.ne_none_bool (yL I q (by simp))
  | int j=>obtain⟨t',rfl⟩:=ry;exact PySem.EqNone.ne_none_int (yL I q (by simp))
  | str j=>obtain⟨t',rfl⟩:=ry;exact PySem.EqNone.ne_none_str (yL I q (by simp))
  | _=>exact ND (show false=true from hs) bP
 | bl i=>
  cases rx
  cases y with
  | non=>cases ry;exact PySem.EqNone.ne_bool_none (yL I q (by simp))
  | bl j=>cases ry;exact ne_bool (yL I q (Pu not ZI))
  | str j=>obtain⟨t',rfl⟩:=ry;exact PySem.EqMixed.ne_bool_str (yL I q (by simp))
  | _=>exact ND (show false=true from hs) bP
 | int i=>
  obtain⟨t,rfl⟩:=rx
  cases y with
  | non=>cases ry;exact PySem.EqNone.ne_int_none (yL I q (by simp))
  | int j=>obtain⟨t',rfl⟩:=ry;exact ne_int (yL I q (Pu not Zi))
  | str j=>obtain⟨t',rfl⟩:=ry;exact PySem.EqMixed.ne_int_str (yL I q (by simp))
  | _=>exact ND (show false=true from hs) bP
 | str i=>
  obtain⟨t,rfl⟩:=rx
  cases y with
  | non=>cases ry;exact PySem.EqNone.ne_str_none (yL I q (by simp))
  | bl j=>cases ry;exact PySem.EqMixed.ne_str_bool (yL I q (by simp))
  | int j=>obtain⟨t',rfl⟩:=ry;exact PySem.EqMixed.ne_str_int (yL I q (by simp))
  | str j=>obtain⟨t',rfl⟩:=ry;exact ne_str (yL I q (Pu not Zj))
  | _=>exact ND (show false=true from hs) bP
 | byt i=>
  obtain⟨t,rfl⟩:=rx
  cases y with
  | byt j=>obtain⟨t',rfl⟩:=ry;exact PySem.W.ne_bytes (yL I q (Pu not Zm))
  | _=>exact ND (show false=true from hs) bP
 | _=>cases y<;>exact ND (show false=true from hs) bP
theorem wA:OpR X (compareOp .Lt) (rI0 fun i j=>.bl (decide (i<j))):=V9 fun _ _ _ _ _ _ _ q=>lt_int q
theorem aE:OpR X (compareOp .LtE) (rI0 fun i j=>.bl (decide (i<=j))):=V9 fun _ _ _ _ _ _ _ q=>le_int q
theorem xA:OpR X (compareOp .Gt) (rI0 fun i j=>.bl (decide (j<i))):=V9 fun _ _ _ _ _ _ _ q=>gt_int q
theorem mJ:OpR X (compareOp .GtE) (rI0 fun i j=>.bl (decide (j<=i))):=V9 fun _ _ _ _ _ _ _ q=>ge_int q
theorem za(b:Expr){op:CmpOp}(h:op≠.In:=by decide)(h2:op≠.NotIn:=by decide):behindInMarks op b=false:=by
 have e1:(op == CmpOp.In)=false:=by cases op<;>first|rfl|exact ND rfl h
 have e2:(op == CmpOp.NotIn)=false:=by cases op<;>first|rfl|exact ND rfl h2
 cases b<;>simp[behindInMarks,e1,e2]
theorem vW{op:CmpOp}{r:R2}(ho:OpR X (compareOp op) r)(ha:PE X a ta)(hb:PE X b tb)(hm:behindInMarks op b=false):PE X (.Compare a [op] [b] pos) (tOp r ta tb):=by
 intro z4 s σ H Q I h
 exact wpAny_Compare1 (Y8 ha hb I h fun v u s2 x y H2 I2 rx ry q=>ho z4 s2 σ H2 x y v u Q I2 rx ry q) hm
noncomputable def w0N(t:TE):TT:=fun σ H Q=>t σ H fun x H'=>∃k,x=.bl k/\Q k H'
theorem zZ{op:CmpOp}{r:R2}(ho:OpR X (compareOp op) r)(ha:PE X a ta)(hb:PE X b tb)(hm:behindInMarks op b=false):PT X (.Compare a [op] [b] pos) (w0N (tOp r ta tb)):=by
 intro z4 s σ H Q I h
 refine wpAny_isTrue_Compare1 (thn (ha z4 s σ H _ I h) fun v s1 ⟨x,H1,I1,r1,q1⟩=>thn (hb z4 s1 σ H1 _ I1 q1) fun u s2 ⟨y,H2,I2,r2,q2⟩=>
  thn (ho z4 s2 σ H2 x y v u _ I2 r1 r2 q2) fun c s3 ⟨z,H3,I3,r3,k,e,q3⟩=>?_) hm
 subst e
 cases r3
 exact OT ⟨H3,I3,q3⟩
theorem vQ:(sizeLine:Nat)<2^63:=by rw[OM];decide
theorem jh:OpR X (binaryOp .Add) (fun x y H Q=>∃i j,x=.str i/\y=.str j/\i.length+j.length<=sizeLine/\Q (.str (i++j)) H):=by
 intro z4 s σ H x y v u Q I rx ry h
 obtain⟨i,j,rfl,rfl,hz,q⟩:=h
 obtain⟨t,rfl⟩:=rx
 obtain⟨t',rfl⟩:=ry
 exact add_str (fun t' tk=>⟨.str (i++j),H,I.tok _,⟨_,rfl⟩,q⟩) hz
theorem xK{x:V}{us:AG}(r:Vals [x] us):∃u,us=[u]/\RelV x u:=by
 cases r with
 | cons r1 r2=>cases r2;exact⟨_,rfl,r1⟩
theorem rA{x y:V}{us:AG}(r:Vals [x,y] us):∃u w',us=[u,w']/\RelV x u/\RelV y w':=by
 cases r with
 | cons r1 r2=>
  cases r2 with
  | cons r3 r4=>cases r4;exact⟨_,_,rfl,r1,r3⟩
theorem qX(hc:X.calm=true):yo X (.builtin "max") (fun xs H Q=>∃i j,xs=[.int i,.int j]/\Q (.int (if j > i then j else i)) H):=by
 intro z4 s σ H xs us Q I r h
 obtain⟨i,j,rfl,q⟩:=h
 obtain⟨u,w',rfl,⟨t,rfl⟩,⟨t',rfl⟩⟩:=rA r
 refine max_two_ints (I.ok.hd hc) fun h' tk k=>⟨_,H,I.kept k,?_,q⟩
 by_cases hj:j > i
 ·rw[Po hj,Po hj];exact⟨_,rfl⟩
 ·rw[Pn hj,Pn hj];exact⟨_,rfl⟩
end
structure S0(h:Heap)(x dx C:Addr)(mA:Str->AH):Prop where
 obj:h.get? x=some (PySem.W.instObj C dx)
 ns:h.Ns1 dx mA
 ne:dx≠x
theorem SM{h:Heap}{dx:Addr}{mA:Str->AH}(n:h.Ns1 dx mA):∃od,h.get? dx=some od/\∀name,PySem.W.lookIn name od=some (mA name):=by
 obtain⟨o,es,ep,ho,hd,hk,_,hm⟩:=n
 refine⟨o,ho,fun name=>?_⟩
 have e:=hm name
 unfold nsFind findBy at e
 rw[<- Array.find?_toList] at e
 unfold PySem.W.lookIn
 rw[hd]
 dsimp only
 split
 ·rename_i y q
  rw[q] at e
  exact Pu some e
 ·rename_i q
  rw[q] at e
  have a:es.toList.any (·.refKey)=false:=by
   rw[lF]
   intro y hy
   obtain⟨z,t,hkey⟩:=hk y (kP.mp hy)
   simp[DictEntry.refKey,hkey]
  have a':¬es.toList.any (·.refKey)=true:=by rw[a];exact bP
  rw[Pn a']
  exact Pu some e
theorem S0.look{h:Heap}{x dx C:Addr}{mA:Str->AH}(I:S0 h x dx C mA):∃od,PySem.W.InstAt h x (PySem.W.instObj C dx) C (some od)/\∀name,PySem.W.lookIn name od=some (mA name):=
 let ⟨od,ho,hl⟩:=SM I.ns
 ⟨od,⟨I.obj,rfl,rfl,ho⟩,hl⟩
section
variable{prog:Program}{w:World}{A:Around}{E:AB}{s:Shared}{K:AA}{x dx C f:Addr}{mA:Str->AH}{name:Str}{v:Value}
theorem Vp{expr:Bool}{Q:AB}(X:K.In s.heap)(I:S0 s.heap x dx C mA)(hg:PySem.W.plainGet K C name=true)(hh:PySem.W.hasDictIn K C=true)
  (ha:PySem.W.findIn K (.ref C) name=some none) (hv:mA name=some v) (hv':PySem.W.handedIn v=true) (h:Q v { s with toks:=s.toks+1 }) :
  wpAny (model prog w) A (getAttr (.ref x) name expr) Q E s:=by
 obtain⟨od,J,hl⟩:=I.look
 exact PySem.W.get_value X J (kX hg).1 (PySem.W.findObj_own hh ha rfl (by rw[hl,hv])) hv' h
theorem Us{pl:Sem Bool}{Q:Value×AG->Shared->Prop}(X:K.In s.heap)(I:S0 s.heap x dx C mA)(hg:PySem.W.plainGet K C name=true)
  (hf:PySem.W.findIn K (.ref C) name=some (some (.ref f))) (ht:PySem.W.isFn K (.ref f)=true) (hv:mA name=none) (h:Q (.ref f,[.ref x]) s) :
  wpAny (model prog w) A (getMethod (.ref x) name pl) Q E s:=by
 obtain⟨od,J,hl⟩:=I.look
 exact PySem.W.method_fn X J (kX hg).1 (kX hg).2 hf (beq_iff_eq.mp ht) (by show(PySem.W.lookIn name od).map (·.isSome)=some false;rw[hl,hv];rfl) h
theorem UJ{ns:AF}{Q:Unit->Shared->Prop}(X:K.In s.heap)(I:S0 s.heap x dx C mA)
  (hs:PySem.W.findIn K (.ref C) "__setattr__"=some (some (.builtin "object.__setattr__"))) (hp:PySem.W.plainOver K C=true) (ht:PySem.W.takerIn K C name=some none) (hh:PySem.W.hasDictIn K C=true)
  (hw:PySem.Within mA ns) (hsz:ns.length<=sizeLine)
  (h:∀h',S0 h' x dx C (fun y=>if y=name then some v else mA y)->Heap.SameBut dx s.heap h'->Q () { s with heap:=h',toks:=s.toks+2 }) :
  wpAny (model prog w) A (setAttr (.ref x) name v) Q E s:=by
 obtain⟨od,J,hl⟩:=I.look
 refine PySem.W.set_plain X J hs (PySem.W.osa_open (s:={ s with toks:=s.toks+1 }) (r:=none) X J hp ht fun b=>?_)
 obtain⟨cd,hc,hd'⟩:=PySem.W.any_some hh
 have hx:s.heap.get? x=some ⟨.ref C,some dx,.plain,#[]⟩:=I.obj
 refine Pl (Pm (Pl (Pl (wpAny_loadPart hx (Pl (PySem.W.Looks.here (s:={ s with toks:=s.toks+1 }) (PySem.W.looks_clsIn X hc) ?_))))))
 rw[hd']
 refine Pm (a:=some dx) (Pl (Pm (Pl ?_)))
 refine wpAny_nsSet1 (s:={ s with toks:=s.toks+1 }) I.ns fun h' hn2 hs2=>?_
 obtain⟨oD,esD,epD,hoD,hdD,hcD⟩:=hn2.count (PySem.Within.cons name v hw)
 refine Pl (wpAny_lookBehind hoD (by rw[hdD];exact pastItsLine_dict (c7 hcD (by rw[bW];lia))) ?_)
 exact Pm (h _ ⟨(hs2.2 _ (eQ I.ne)).trans I.obj,hn2,I.ne⟩ hs2)
theorem TF{R:Result->Shared->Prop}{vs:AG}{kw:List (Str×Value)}(X:K.In s.heap)(hm:PySem.W.makesIn K C=true)
  (hi:PySem.W.findIn K (.ref C) "__init__"=some (some (.ref f))) (hf:PySem.W.typeIn K (.ref f)=some (.type "function"))
  (h:codeAny (model prog w) (A.under (.builtin "type.__call__" ⟨.ref C::vs,kw⟩)) (.call (.ref f) ⟨.ref (s.heap.objs.size+1)::vs,kw⟩) (PySem.W.InitBack (s.heap.objs.size+1) R)
   { s with heap:=(s.heap.push PySem.W.emptyDict).push (PySem.W.instObj C s.heap.objs.size) }) :
  codeAny (model prog w) A (.call (.ref C) ⟨vs,kw⟩) R s:=by
 obtain⟨hh,g,d,t,os⟩:=s
 exact PySem.W.make_core (PySem.W.makes_of X hm) (PySem.W.looks_findIn X hi) (fun self=>PySem.W.bind_fn X self hf) (.inl rfl) h
end
noncomputable def G5(f:Str)(v:V):List (Str×V)->List (Str×V)
 | []=>[(f,v)]
 | (g,x)::r=>if g=f then (g,v)::r else (g,x)::G5 f v r
theorem yP(f g:Str)(v:V):∀fs:List (Str×V),(G5 f v fs).lookup g=if g=f then some v else fs.lookup g
 | []=>by
  show List.lookup g [(f,v)]=_
  by_cases h:g=f
  ·have hb:(g == f)=true:=beq_iff_eq.mpr h
   simp only[List.lookup,hb,Po h]
  ·have hb:(g == f)=false:=beq_eq_false_iff_ne.mpr h
   simp only[List.lookup,hb,Pn h]
 | (k,x)::r=>by
  have ih:=yP f g v r
  rw[show G5 f v ((k,x)::r)=(if k=f then (k,v)::r else (k,x)::G5 f v r) from rfl]
  by_cases hk:k=f
  ·rw[Po hk]
   by_cases h:g=k
   ·have hb:(g == k)=true:=beq_iff_eq.mpr h
    simp only[List.lookup,hb,Po (h.trans hk)]
   ·have hb:(g == k)=false:=beq_eq_false_iff_ne.mpr h
    simp only[List.lookup,hb,Pn (fun e:g=f=>h (e.trans hk.symm))]
  ·rw[Pn hk]
   by_cases h:g=k
   ·have hb:(g == k)=true:=beq_iff_eq.mpr h
    simp only[List.lookup,hb,Pn (fun e:g=f=>hk (h.symm.trans e))]
   ·have hb:(g == k)=false:=beq_eq_false_iff_ne.mpr h
    simp only[List.lookup,hb]
    exact ih
theorem qI(f:Str)(v:V):∀fs:List (Str×V),f∈(G5 f v fs).map (·.1)/\∀g,g∈fs.map (·.1)->g∈(G5 f v fs).map (·.1)
 | []=>⟨by simp[G5],fun g h=>by simp at h⟩
 | (k,x)::r=>by
  obtain⟨i1,i2⟩:=qI f v r
  rw[show G5 f v ((k,x)::r)=(if k=f then (k,v)::r else (k,x)::G5 f v r) from rfl]
  by_cases hk:k=f
  ·rw[Po hk]
   subst hk
   exact⟨by simp,fun g h=>by simpa using h⟩
  ·rw[Pn hk]
   refine⟨?_,fun g h=>?_⟩
   ·rw[cJ]
    exact bU _ i1
   ·rw[cJ] at h ⊢
    rcases bI.mp h with e|e
    ·exact bI.mpr (.inl e)
    ·exact bU _ (i2 g e)
theorem vL(f:Str)(v:V):∀fs:List (Str×V),(G5 f v fs).length<=fs.length+1
 | []=>by simp[G5]
 | (k,x)::r=>by
  have ih:=vL f v r
  rw[show G5 f v ((k,x)::r)=(if k=f then (k,v)::r else (k,x)::G5 f v r) from rfl]
  by_cases hk:k=f
  ·rw[Po hk,bW,bW];lia
  ·rw[Pn hk,bW,bW];lia
theorem M5.some_of{v:V}{o:AH}(r:M5 (some v) o):∃u,o=some u/\RelV v u:=by
 cases o with
 | none=>exact(show False from r).elim
 | some u=>exact⟨u,rfl,r⟩
theorem M5.none_of{o:AH}(r:M5 none o):o=none:=by
 cases o with
 | none=>rfl
 | some u=>exact(show False from r).elim
theorem Su{v:V}{u:Value}(r:RelV v u):PySem.W.handedIn u=true:=by
 cases v with
 | non=>cases (show u=Value.none from r);rfl
 | bl b=>cases (show u=Value.bool b from r);rfl
 | int i=>obtain⟨t,e⟩:=(show ∃t,u=Value.int i t from r);cases e;rfl
 | str x=>obtain⟨t,e⟩:=(show ∃t,u=Value.str x t from r);cases e;rfl
 | byt b=>obtain⟨t,e⟩:=(show ∃t,u=Value.bytes b t from r);cases e;rfl
 | flt b=>obtain⟨t,e⟩:=(show ∃t,u=Value.float b t from r);cases e;rfl
 | ref a=>cases (show u=Value.ref a from r);rfl
 | ty n=>cases (show u=Value.type n from r);rfl
section
variable{P:Program}{w:World}{H H':Hp}{h h':Heap}{a C dx:Addr}{fs fs':List (Str×V)}
theorem rZ(hok:HOk P w H h)(e:H a=some (.ins C dx fs)):∃mA,S0 h a dx C mA/\(∀f,M5 (fs.lookup f) (mA f))/\PySem.Within mA (fs.map (·.1))/\fs.length<=1000/\H dx=some (.own a):=by
 obtain⟨d,z,ne,ob,mA,n,r,q⟩:=(show zv P w H h a (.ins C dx fs) from hok a _ e)
 exact⟨mA,⟨ob,n,ne⟩,r,q,z,d⟩
end
structure Cls(K:AA)(C:Addr):Prop where
 pg:PySem.W.plainGet K C Str.empty=true
 hd:PySem.W.hasDictIn K C=true
 po:PySem.W.plainOver K C=true
 sa:PySem.W.findIn K (.ref C) "__setattr__"=some (some (.builtin "object.__setattr__"))
theorem Cls.get{K:AA}{C:Addr}(c:Cls K C)(f:Str):PySem.W.plainGet K C f=true:=c.pg
noncomputable def xZ(K:AA)(C:Addr)(f:Str):Prop:=PySem.W.findIn K (.ref C) f=some none
theorem xZ.w0w{K:AA}{C:Addr}{f:Str}(n:xZ K C f):PySem.W.takerIn K C f=some none:=by
 unfold PySem.W.takerIn
 rw[show PySem.W.findIn K (.ref C) f=some none from n]
 rfl
structure Meth(K:AA)(C:Addr)(m:Str)(f:Addr):Prop where
 at_:PySem.W.findIn K (.ref C) m=some (some (.ref f))
 fn:PySem.W.isFn K (.ref f)=true
 kp:PySem.W.keepIn K (.ref f)=true
section
variable{X:Cx}{z4:List AE}{σ:St}{H:Hp}{s:Shared}{a C dx:Addr}{fs:List (Str×V)}{f:Str}{v:V}{A:Around}{E:AB}
theorem Rw{b:Bool}{Q:AB}(I:Inv X z4 σ H s)(e:H a=some (.ins C dx fs))(c:Cls X.K C)(n:xZ X.K C f)(l:fs.lookup f=some v)
  (h:∀u s',Inv X z4 σ H s'->RelV v u->Q u s'):wpAny (model X.prog X.w) A (getAttr (.ref a) f b) Q E s:=by
 obtain⟨mA,O,r,_,_,_⟩:=rZ I.hok e
 obtain⟨u,hu,ru⟩:=M5.some_of (v:=v) (o:=mA f) (by rw[<- l];exact r f)
 exact Vp I.kIn O (c.get f) c.hd n hu (Su ru) (h u _ (I.tok _) ru)
theorem qV{m:Str}{g:Addr}{pl:Sem Bool}{Q:Value×AG->Shared->Prop}(I:Inv X z4 σ H s)(e:H a=some (.ins C dx fs))(c:Cls X.K C)(k:Meth X.K C m g)(l:fs.lookup m=none)
  (h:Q (.ref g,[.ref a]) s):wpAny (model X.prog X.w) A (getMethod (.ref a) m pl) Q E s:=by
 obtain⟨mA,O,r,_,_,_⟩:=rZ I.hok e
 have hn:mA m=none:=M5.none_of (by rw[<- l];exact r m)
 exact Us I.kIn O (c.get m) k.at_ k.fn hn h
theorem Rn{y:V}{u:Value}{Q:Unit->Shared->Prop}(I:Inv X z4 σ H s)(e:H a=some (.ins C dx fs))(c:Cls X.K C)(n:xZ X.K C f)(hl:fs.length<1000)(ry:RelV y u)
  (h:∀s',Inv X z4 σ (upd H a (.ins C dx (G5 f y fs))) s'->Q () s'):wpAny (model X.prog X.w) A (setAttr (.ref a) f u) Q E s:=by
 obtain⟨mA,O,r,wi,_,ho⟩:=rZ I.hok e
 have hz:(fs.map (·.1)).length<=sizeLine:=by rw[bA,OM];lia
 refine UJ I.kIn O c.sa c.po n.w0w c.hd wi hz fun h' O' sb=>h _ ?_
 have hd:∃o,h'.get? dx=some o:=let ⟨o,_,_,e',_⟩:=O'.ns;⟨o,e'⟩
 refine I.write (x:=a) (e:=dx) (by rw[e];exact True.intro) (.inr ho) (fun b q hb z=>(sb.2 b hb).trans z) hd ?_
 refine⟨by rw[zS O.ne];exact ho,?_,O.ne,O'.obj,_,O'.ns,fun g=>?_,fun g hg=>?_⟩
 ·have:=vL f y fs;lia
 ·show M5 ((G5 f y fs).lookup g) (if g=f then some u else mA g)
  rw[yP]
  by_cases q:g=f
  ·rw[Po q,Po q];exact ry
  ·rw[Pn q,Pn q];exact r g
 ·by_cases q:g=f
  ·rw[q];exact(qI f y fs).1
  ·refine(qI f y fs).2 g (wi g fun z=>hg ?_)
   show(if g=f then some u else mA g)=none
   rw[Pn q];exact z
theorem Inv.made(I:Inv X z4 σ H s):Inv X z4 σ (upd (upd H s.heap.objs.size (.own (s.heap.objs.size+1))) (s.heap.objs.size+1) (.ins C s.heap.objs.size []))
  { s with heap:=(s.heap.push PySem.W.emptyDict).push (PySem.W.instObj C s.heap.objs.size) }:=by
 have e1:(s.heap.push PySem.W.emptyDict).get? s.heap.objs.size=some PySem.W.emptyDict:=bJ s.heap rfl
 have e2:((s.heap.push PySem.W.emptyDict).push (PySem.W.instObj C s.heap.objs.size)).get? (s.heap.objs.size+1)=some (PySem.W.instObj C s.heap.objs.size):=by
  have:=bJ (s.heap.push PySem.W.emptyDict) (o:=PySem.W.instObj C s.heap.objs.size) rfl
  rwa [eI] at this
 have e3:(s.heap.push PySem.W.emptyDict).Ns s.heap.objs.size (fun _=>none):=⟨PySem.W.emptyDict,#[],_,e1,rfl,(fun e he=>ND he (by simp)),fun _=>rfl⟩
 have I1:=I.laid (a:=s.heap.objs.size) (o:=.own (s.heap.objs.size+1)) (h':=s.heap.push PySem.W.emptyDict) (t':=s.toks) (fun b u q=>bB _ q) (bG _) ⟨_,e1⟩
 refine I1.laid (a:=s.heap.objs.size+1) (o:=.ins C s.heap.objs.size []) (t':=s.toks) (fun b u q=>bB _ q) (Nat.le_of_eq (eI _ _)) ?_
 have ne:s.heap.objs.size≠s.heap.objs.size+1:=c8 (gD _)
 refine⟨by rw[zS ne,zM],cQ _,ne,e2,fun _=>none,(Heap.Ns1.of_empty e3).at fun o q=>bB _ q,fun _=>True.intro,fun y hy=>ND rfl hy⟩
theorem VF{prog:Program}{w:World}{env:Env}{e:Expr}{f:Str}{pos:Pos}{s:Shared}{Q:AB}(hb:attributeBase e f env (eval e env)=eval e env)
  (h:wpAny (model prog w) A (eval e env) (fun o s₁=>wpAny (model prog w) A (getAttr o f true) Q E s₁) E s):wpAny (model prog w) A (eval (.Attribute e f pos) env) Q E s:=
 Attribute_any_ h (by rw[arm_eval_Attribute,hb])
end
noncomputable def Y7(K:AA)(ta:TE)(f:Str):TE:=fun σ H Q=>ta σ H fun x H1=>∃a C dx fs v,x=.ref a/\H1 a=some (.ins C dx fs)/\Cls K C/\xZ K C f/\fs.lookup f=some v/\Q v H1
noncomputable def sFld(K:AA)(ta tv:TE)(f:Str):TS:=fun D σ H=>tv σ H fun y H1=>ta σ H1 fun x H2=>∃a C dx fs,x=.ref a/\H2 a=some (.ins C dx fs)/\Cls K C/\xZ K C f/\fs.length<1000/\
 D.nx σ (upd H2 a (.ins C dx (G5 f y fs)))
section
variable{X:Cx}{o e value:Expr}{f:Str}{pos pos' tpos:Pos}{ta tv:TE}
theorem zt(he:PE X e ta)(hb:attributeBase e f X.env (eval e X.env)=eval e X.env):PE X (.Attribute e f pos) (Y7 X.K ta f):=by
 intro z4 s σ H Q I h
 refine VF hb (thn (he z4 s σ H _ I h) fun u s1 hz=>?_)
 obtain⟨x,H1,I1,rx,a,C,dx,fs,v,ex,ea,c,n,l,q⟩:=hz
 subst ex
 obtain rfl:u=Value.ref a:=rx
 exact Rw I1 ea c n l fun u' s2 I2 ru=>⟨v,H1,I2,ru,q⟩
theorem wb(ha:PE X o ta)(hv:PE X value tv)(hs:swapsWith value (some (.Attribute o f pos')) pos.line X.env=pure false):PS X (.Assign [.Attribute o f pos'] value pos) (sFld X.K ta tv f):=by
 intro z4 s σ H D I h
 refine plainObj_wpAny_Assign_Attribute (thn (hv z4 s σ H _ I h) fun u s1 ⟨y,H1,I1,ry,q⟩=>thn (ha z4 s1 σ H1 _ I1 q) fun ov s2 hz=>?_) hs
 obtain⟨x,H2,I2,rx,a,C,dx,fs,ex,ea,c,n,l,q2⟩:=hz
 subst ex
 obtain rfl:ov=Value.ref a:=rx
 exact Rn I2 ea c n l ry fun s3 I3=>⟨σ,_,I3,q2⟩
theorem Pk{pl:Sem Bool}{m:Str}{apos:Pos}{args:List Expr}{z4:List AE}{s:Shared}{σ:St}{H:Hp}{Q:AB}{te:TE}(he:PE X e te)(I:Inv X z4 σ H s)
  (h:te σ H fun x H1=>∃a C dx fs g,x=.ref a/\H1 a=some (.ins C dx fs)/\Cls X.K C/\Meth X.K C m g/\fs.lookup m=none/\
   ∀s1,Inv X z4 σ H1 s1->wpAny (model X.prog X.w) X.A (callWith pos (.ref g) [.ref a] (backTo pos (starEach args X.env)) (backToKw pos (keywordEach [] X.env))) Q X.xe s1)
  (ht:eval (.Call (.Attribute e m apos) args [] pos) X.env=(do
   let ov <- eval e X.env
   standAt apos.atName
   let (f,first) <- holding [ov] (getMethod ov m pl)
   callWith pos f first (backTo pos (starEach args X.env)) (backToKw pos (keywordEach [] X.env)))) :
  wpAny (model X.prog X.w) X.A (eval (.Call (.Attribute e m apos) args [] pos) X.env) Q X.xe s:=by
 refine kL (pl:=pl) (thn (he z4 s σ H _ I h) fun u s1 hz=>?_) ht
 obtain⟨x,H1,I1,rx,a,C,dx,fs,g,ex,ea,c,k,l,q⟩:=hz
 subst ex
 obtain rfl:u=Value.ref a:=rx
 exact qV I1 ea c k l (q s1 I1)
end
section
variable{X:Cx}{z4:List AE}{σ:St}{H:Hp}{s:Shared}{A:Around}{E:AB}{Q:AB}{c:Value}{b:Bool}
inductive N8(K:AA)(H:Hp):V->Value->Prop where
 | non:N8 K H .non (.type "NoneType")
 | bl (x:Bool):N8 K H (.bl x) (.type "bool")
 | int (i:Int):N8 K H (.int i) (.type "int")
 | str (x:Str):N8 K H (.str x) (.type "str")
 | flt (x:UInt64):N8 K H (.flt x) (.type "float")
 | lst {a:Addr}{xs:AK} (e:H a=some (.lst xs)):N8 K H (.ref a) (.type "list")
 | frz {a:Addr}{o:Obj}{xs:AK} (e:H a=some (.frz o (.lst xs))):N8 K H (.ref a) (.type "list")
 | tup {a:Addr}{xs:AK} (e:H a=some (.tup xs)):N8 K H (.ref a) (.type "tuple")
 | dK {a:Addr}{kvs:List (Key×V)} (e:H a=some (.dK kvs)):N8 K H (.ref a) (.type "dict")
 | dT {a:Addr}{kvs:List (List Key×V)} (e:H a=some (.dT kvs)):N8 K H (.ref a) (.type "dict")
 | ins {a C dx:Addr}{fs:List (Str×V)} (e:H a=some (.ins C dx fs)) (cl:Cls K C) (ha:PySem.W.findIn K (.ref C) "__class__"=some (some (.builtin "object.__class__")))
   (hn:PySem.W.specialIn K (.builtin "object.__class__") "__get__"=some (some (.builtin "getset_descriptor.__get__"))) (htk:PySem.W.takesIn K (.builtin "object.__class__")=some true)
   (hm:PySem.W.mroIn K C (.type "object")=some true):N8 K H (.ref a) (.ref C)
theorem Tw{x:V}{u t:Value}(I:Inv X z4 σ H s)(rx:RelV x u)(ty:N8 X.K H x t)(e:PySem.W.kitOne X.K t c=some b)(h:∀tk,Q (.bool b) { s with toks:=tk }) :
  wpAny (model X.prog X.w) A (call (.builtin "isinstance") [u,c]) Q E s:=by
 cases ty with
 | non=>cases (show u=Value.none from rx);exact eM PySem.W.kitx_none I.kIn True.intro e (fun z=>nomatch z) h
 | bl y=>cases (show u=Value.bool y from rx);exact eM PySem.W.kitx_bool I.kIn True.intro e (fun z=>nomatch z) h
 | int i=>obtain⟨t,q⟩:=(show ∃t,u=Value.int i t from rx);cases q;exact eM PySem.W.kitx_int I.kIn True.intro e (fun z=>nomatch z) h
 | str y=>obtain⟨t,q⟩:=(show ∃t,u=Value.str y t from rx);cases q;exact eM PySem.W.kitx_str I.kIn True.intro e (fun z=>nomatch z) h
 | flt y=>obtain⟨t,q⟩:=(show ∃t,u=Value.float y t from rx);cases q;exact eM PySem.W.kitx_float I.kIn True.intro e (fun z=>nomatch z) h
 | @lst a xs ea=>
  cases (show u=Value.ref a from rx)
  obtain⟨_,_,n,_,h1⟩:=(show zv X.prog X.w H s.heap a (.lst xs) from I.hok a _ ea)
  exact eM PySem.W.kitx_list I.kIn ⟨_,h1,rfl⟩ e (fun z=>nomatch z) h
 | @frz a ob xs ea=>
  cases (show u=Value.ref a from rx)
  obtain⟨_,_,_,n,_,h1⟩:=(show zv X.prog X.w H s.heap a (.frz ob (.lst xs)) from I.hok a _ ea)
  exact eM PySem.W.kitx_list I.kIn ⟨_,h1,rfl⟩ e (fun z=>nomatch z) h
 | @tup a xs ea=>
  cases (show u=Value.ref a from rx)
  obtain⟨_,_,_,p⟩:=(show zv X.prog X.w H s.heap a (.tup xs) from I.hok a _ ea)
  obtain⟨o,h1,h2,_⟩:=p
  exact eM PySem.W.kitx_tuple I.kIn ⟨o,h1,h2⟩ e (fun z=>nomatch z) h
 | @dK a kvs ea=>
  cases (show u=Value.ref a from rx)
  obtain⟨_,_,vs,_,p⟩:=(show zv X.prog X.w H s.heap a (.dK kvs) from I.hok a _ ea)
  obtain⟨o,es,ep,h1,h2,_⟩:=p
  exact eM PySem.W.kitx_dict I.kIn ⟨o,h1,h2.1⟩ e (fun z=>nomatch z) h
 | @dT a kvs ea=>
  cases (show u=Value.ref a from rx)
  obtain⟨_,_,xs,_,o,es,ep,h1,h2,_⟩:=(show zv X.prog X.w H s.heap a (.dT kvs) from I.hok a _ ea)
  exact eM PySem.W.kitx_dict I.kIn ⟨o,h1,h2.1⟩ e (fun z=>nomatch z) h
 | @ins a C dx fs ea cl ha hn htk hm=>
  cases (show u=Value.ref a from rx)
  obtain⟨mA,O,_⟩:=rZ I.hok ea
  obtain⟨od,J,_⟩:=O.look
  exact eM (PySem.W.kitx_own (cl.get _) cl.hd ha hn htk hm) I.kIn J e (fun z=>nomatch z) h
end
structure D9(k:Nat)(A:Around):Prop where
 hd:A.handled=none
 dp:A.depth+3*k+5<recursionLimit
 un:A.units+16*k+200<cLine
theorem D9.mono{j k:Nat}{A:Around}(r:D9 k A)(h:j<=k):D9 j A:=⟨r.hd,by have:=r.dp;lia,by have:=r.un;lia⟩
theorem D9.deeper{k:Nat}{A:Around}(r:D9 (k+1) A)(env:Env):D9 k (A.deeper env):=
 ⟨r.hd,by have:=r.dp;show A.depth+1+3*k+5<_;lia,by have:=r.un;show A.units+3+16*k+200<_;lia⟩
theorem Rv{A:Around}{C:Addr}{us:AG}{kw:List (Str×Value)}:(A.under (.builtin "type.__call__" ⟨.ref C::us,kw⟩)).depth=A.depth+1:=by
 first|rfl|simp[Around.under,Code.weight,Code.isCreation,Code.isGuard,Code.isCaller,Code.frames,Code.isFrame,guardIds]
theorem QK{A:Around}{C:Addr}{us:AG}{kw:List (Str×Value)}:(A.under (.builtin "type.__call__" ⟨.ref C::us,kw⟩)).units=A.units+1:=by
 first|rfl|simp[Around.under,Code.cUnits,Code.frames,Code.isFrame]
theorem D9.make{k:Nat}{A:Around}(r:D9 (k+1) A)(C:Addr)(us:AG)(kw:List (Str×Value)):D9 k (A.under (.builtin "type.__call__" ⟨.ref C::us,kw⟩)):=
 ⟨r.hd,by have:=r.dp;rw[Rv];lia,by have:=r.un;rw[QK];lia⟩
theorem D9.depth{k:Nat}{A:Around}(r:D9 k A):A.depth<recursionLimit:=by have:=r.dp;lia
theorem D9.units{k:Nat}{A:Around}(r:D9 k A):A.units+64<cLine:=by have:=r.un;lia
theorem D9.O8{k:Nat}{A:Around}(r:D9 k A):A.units<cLine:=by have:=r.un;lia
noncomputable def U8:TA:=fun _ H Q=>Q [] H
noncomputable def mI(ta:TE)(tr:TA):TA:=fun σ H Q=>ta σ H fun x H1=>tr σ H1 fun xs H2=>Q (x::xs) H2
section
variable{X:Cx}{e:Expr}{es:List Expr}{te:TE}{t:TA}{pos:Pos}
theorem zD:PA X [] U8:=fun _ _ _ _ H Q I h=>Calls.spliced_nil ⟨[],H,I,.nil,h⟩
theorem z9(ha:PE X e te)(hr:PA X es t)(hs:starEach (e::es) X.env=(false,eval e X.env)::starEach es X.env:=by rfl):PA X (e::es) (mI te t):=by
 intro pos z4 s σ H Q I h
 rw[hs]
 show wpAny _ _ (spliced ((false,eval e X.env)::backTo pos (starEach es X.env))) _ _ s
 refine Calls.spliced_cons (thn (ha z4 s σ H _ I h) fun u s1 hz=>?_)
 obtain⟨x,H1,I1,r1,q1⟩:=hz
 exact thn (hr pos z4 s1 σ H1 _ I1 q1) fun us s2 ⟨xs,H2,I2,r2,q2⟩=>⟨x::xs,H2,I2,.cons r1 r2,q2⟩
noncomputable def tTup(t:TA):TE:=fun σ H Q=>t σ H fun xs H1=>xs.length<=sizeLine/\∀p,H1 p=none->Q (.ref p) (upd H1 p (.tup xs))
noncomputable def tLst(t:TA):TE:=fun σ H Q=>t σ H fun xs H1=>xs.length<=sizeLine/\∀p,H1 p=none->Q (.ref p) (upd H1 p (.lst xs))
theorem yH{x1}(h:PA X es t):PE X (.Tuple es x1 pos) (tTup t):=by
 intro z4 s σ H Q I hq
 refine wpAny_Tuple_spliced (thn (h pos z4 s σ H _ I hq) fun us s1 ⟨xs,H1,I1,r,z,q⟩=>⟨by rw[<- r.length];exact z,?_⟩)
 have hf:H1 s1.heap.objs.size=none:=I1.hok.fresh (bG _)
 refine⟨.ref s1.heap.objs.size,upd H1 s1.heap.objs.size (.tup xs),I1.laid (t':=s1.toks) (fun b u e=>bB _ e) (bG _) ?_,rfl,q _ hf⟩
 exact⟨z,us,r,⟨_,bJ _ rfl,rfl,⟨_,rfl⟩,rfl⟩⟩
theorem yc(h:PA X es t):PE X (.List es pos) (tLst t):=by
 intro z4 s σ H Q I hq
 refine wpAny_List_spliced (thn (h pos z4 s σ H _ I hq) fun us s1 ⟨xs,H1,I1,r,z,q⟩=>⟨by rw[<- r.length];exact z,?_⟩)
 have hf:H1 s1.heap.objs.size=none:=I1.hok.fresh (bG _)
 refine⟨.ref s1.heap.objs.size,upd H1 s1.heap.objs.size (.lst xs),I1.laid (t':=s1.toks) (fun b u e=>bB _ e) (bG _) ?_,rfl,q _ hf⟩
 exact⟨z,us,0,r,bJ _ rfl⟩
end
abbrev Sp:=AK->Hp->VK->XK->Prop
abbrev CXT:=List Env->Hp->Shared->XK->Value->Shared->Prop
structure S1(P:Program)(w:World)(K:AA)(mg:Str->AH)(base:Heap)(A:Around)(outer:List Env)(s:Shared)(H:Hp):Prop where
 frames:A.frames=some outer
 mod:Mod K mg base
 bs:∀b o,base.get? b=some o->s.heap.get? b=some o/\H b=none
 bsz:base.objs.size<=s.heap.objs.size
 O2:s.heap.FunFrames base outer
 frf:∀b∈frs outer,H b=none
 hok:HOk P w H s.heap
 bare:AllBare s.gens
noncomputable def CE(outer:List Env)(P:Program)(w:World)(H:Hp)(s:Shared)(Q:VK)(u:Value)(s':Shared):Prop:=
 ∃v H',s'.os=s.os/\AllBare s'.gens/\Un (frs outer) [] H H' s.heap s'.heap/\HOk P w H' s'.heap/\RelV v u/\Q v H'
noncomputable def CR(CX:CXT)(outer:List Env)(P:Program)(w:World)(H:Hp)(s:Shared)(Q:VK)(E:XK)(r:Result)(s':Shared):Prop:=
 match r with
 | .ok (.ret u)=>CE outer P w H s Q u s'
 | .ok _=>False
 | .error e=>CX outer H s E e s'
structure B2(P:Program)(w:World)(K:AA)(mg:Str->AH)(base:Heap)(CX:CXT)(k:Nat)(f:Addr)(fd:FuncData)(ps:AF)(sp:Sp):Prop where
 len:∀vs H Q E,sp vs H Q E->vs.length=ps.length
 run:∀(A:Around) (outer:List Env) (s:Shared) (H:Hp) (args:Args) (us:AG) (vs:AK) (Q:VK) (E:XK),D9 k A->S1 P w K mg base A outer s H->BindsTo s fd args (ps.zip us)->Vals vs us->sp vs H Q E->
  codeAny (model P w) A (.call (.ref f) args) (CR CX outer P w H s Q E) s
theorem B2.mono{P:Program}{w:World}{K:AA}{mg:Str->AH}{base:Heap}{CX:CXT}{j k:Nat}{f:Addr}{fd:FuncData}{ps:AF}{sp:Sp}(F:B2 P w K mg base CX j f fd ps sp)(h:j<=k) :
  B2 P w K mg base CX k f fd ps sp:=⟨F.len,fun A outer s H args us vs Q E hr=>F.run A outer s H args us vs Q E (hr.mono h)⟩
theorem S1.make{P:Program}{w:World}{K:AA}{mg:Str->AH}{base:Heap}{A:Around}{outer:List Env}{s:Shared}{H:Hp}(e:S1 P w K mg base A outer s H)(C:Addr)(us:AG)(kw:List (Str×Value)) :
  S1 P w K mg base (A.under (.builtin "type.__call__" ⟨.ref C::us,kw⟩)) outer s H:=⟨by first|exact e.frames|(simpa [Around.under,Code.envs,Code.isFrame,pushEnvs] using e.frames),e.mod,e.bs,e.bsz,e.O2,e.frf,e.hok,e.bare⟩
section
variable{X:Cx}{z4:List AE}{σ:St}{H:Hp}{s s':Shared}
theorem Inv.Z7(I:Inv X z4 σ H s):S1 X.prog X.w X.K X.mg X.base X.A X.stack s H:=
 ⟨I.ok.frames,I.ok.mod,I.bs,c7 I.ok.bsz I.sz,I.stack,I.S3,I.hok,I.bare⟩
theorem Inv.after{Q:VK}{u:Value}(I:Inv X z4 σ H s)(h:CE X.stack X.prog X.w H s Q u s'):EP X z4 σ Q u s':=by
 obtain⟨v,H',os,bare,un,hok,r,q⟩:=h
 obtain⟨hh,g,d,t,os'⟩:=s'
 obtain rfl:os'=s.os:=os
 exact⟨v,H',I.call (h':=hh) (g':=g) (d':=d) (t':=t) (ch:=[]) un hok bare (fun b z=>ND z (by simp)),r,q⟩
end
noncomputable def aP(sp:Sp)(dvs:AK)(E:XK)(t:TA):TE:=fun σ H Q=>t σ H fun vs H1=>sp (vs++dvs) H1 Q E
noncomputable def rE(C:Addr)(m:Str)(sp:Sp)(dvs:AK)(E:XK)(ta:TE)(t:TA):TE:=fun σ H Q=>ta σ H fun x H1=>∃a dx fs,x=.ref a/\H1 a=some (.ins C dx fs)/\fs.lookup m=none/\
 t σ H1 fun vs H2=>sp (x::(vs++dvs)) H2 Q E
noncomputable def aG(C:Addr)(sp:Sp)(dvs:AK)(E:XK)(t:TA):TE:=fun σ H Q=>t σ H fun vs H1=>∀x dx,H1 x=none->H1 dx=none->dx≠x->
 sp (.ref x::(vs++dvs)) (upd (upd H1 dx (.own x)) x (.ins C dx [])) (fun v H2=>v=.non/\Q (.ref x) H2) E
noncomputable def yK(K:AA)(fd:FuncData)(ps:AF)(ds:AG):Prop:=
 ∀(s:Shared) (us:AG),K.In s.heap->(us++ds).length=ps.length->BindsTo s fd ⟨us,[]⟩ (ps.zip (us++ds))
theorem yK.all{K:AA}{fd:FuncData}{ps:AF}(h:∀us:AG,us.length=ps.length->bindArgs fd ⟨us,[]⟩=pure (ps.zip us)):yK K fd ps []:=fun s us _ hl=>by
 rw[dB] at hl ⊢
 exact .of_eq (h us hl)
noncomputable def vS(CX:CXT)(X:Cx)(E:XK):Prop:=∀(z4:List AE) (σ:St) (H:Hp) (s:Shared) (e:Value) (s':Shared),Inv X z4 σ H s->CX X.stack H s E e s'->X.xe e s'
section
variable{X:Cx}{CX:CXT}{k:Nat}{f C:Addr}{fd:FuncData}{ps:AF}{sp:Sp}{dvs:AK}{ds:AG}{E:XK}{x m:Str}{p pos apos:Pos}{e o:Expr}{es:List Expr}{ta:TE}{t:TA}
theorem me{z4:List AE}{σ:St}{H:Hp}{s:Shared}{Q:VK}{us:AG}{vs:AK}(F:B2 X.prog X.w X.K X.mg X.base CX k f fd ps sp)(hr:D9 k X.A)(hb:yK X.K fd ps ds)(hd:Vals dvs ds)(hx:vS CX X E)
  (I:Inv X z4 σ H s) (r:Vals vs us) (h:sp (vs++dvs) H Q E):wpAny (model X.prog X.w) X.A (call (.ref f) us) (EP X z4 σ Q) X.xe s:=by
 have r2:Vals (vs++dvs) (us++ds):=r.append hd
 have hl:(us++ds).length=ps.length:=by rw[<- r2.length];exact F.len _ _ _ _ h
 refine wpAny_call (OR (F.run X.A X.stack s H ⟨us,[]⟩ (us++ds) (vs++dvs) Q E hr I.Z7 (hb s us I.kIn hl) r2 h) fun r s' hq=>?_)
 cases r with
 | error e=>exact hx z4 σ H s e s' I hq
 | ok fl=>
  cases fl with
  | ret u=>exact I.after hq
  | next=>exact False.elim hq
  | brk=>exact False.elim hq
  | cont=>exact False.elim hq
theorem VW(F:B2 X.prog X.w X.K X.mg X.base CX k f fd ps sp)(hr:D9 k X.A)(hg:Gl X x)(hm:X.mg x=some (.ref f))(hk:PySem.W.keepIn X.K (.ref f)=true)(hb:yK X.K fd ps ds)(hd:Vals dvs ds)(hx:vS CX X E)
  (ha:PA X (e::es) t) (hdb:(x == ("__debug__":Str))=false:=by decide) (he:starEach (e::es) X.env=(false,eval e X.env)::starEach es X.env:=by rfl) (hpl:(backTo pos (starEach es X.env)).any (·.1)=false:=by rfl) :
  PE X (.Call (.Name x p) (e::es) [] pos) (aP sp dvs E t):=by
 intro z4 s σ H Q I h
 refine OX (lQ I hg hm ?_ hdb)
 refine l8 (h₀:=X.base) I.ok.mod.kin hk (thn (ha pos z4 s σ H _ I h) fun us s1 ⟨vs,H1,I1,r,q⟩=>⟨I1.kIn,?_⟩) he hpl
 exact me F hr hb hd hx I1 r q
theorem Vn{pl:Sem Bool}(he:PE X o ta)(c:Cls X.K C)(hm:Meth X.K C m f)(F:B2 X.prog X.w X.K X.mg X.base CX k f fd ps sp)(hr:D9 k X.A)(hb:yK X.K fd ps ds)(hd:Vals dvs ds)(hx:vS CX X E)(ha:PA X (e::es) t)
  (hst:starEach (e::es) X.env=(false,eval e X.env)::starEach es X.env:=by rfl) (hpl:(backTo pos (starEach es X.env)).any (·.1)=false:=by rfl)
  (ht:eval (.Call (.Attribute o m apos) (e::es) [] pos) X.env=(do
   let ov <- eval o X.env
   standAt apos.atName
   let (f,first) <- holding [ov] (getMethod ov m pl)
   callWith pos f first (backTo pos (starEach (e::es) X.env)) (backToKw pos (keywordEach [] X.env))):=by rfl) :
  PE X (.Call (.Attribute o m apos) (e::es) [] pos) (rE C m sp dvs E ta t):=by
 intro z4 s σ H Q I h
 refine kL (pl:=pl) (thn (he z4 s σ H _ I h) fun u s1 hz=>?_) ht
 obtain⟨x,H1,I1,rx,a,dx,fs,ex,ea,l,q⟩:=hz
 subst ex
 obtain rfl:u=Value.ref a:=rx
 refine qV I1 ea c hm l ?_
 refine l8 (first:=[.ref a]) (h₀:=X.base) I.ok.mod.kin hm.kp (thn (ha pos z4 s1 σ H1 _ I1 q) fun us s2 ⟨vs,H2,I2,r,q2⟩=>⟨I2.kIn,?_⟩) hst hpl
 exact me (us:=.ref a::us) (vs:=.ref a::vs) F hr hb hd hx I2 (.cons rfl r) q2
theorem UX{pl:Sem Bool}(he:PE X o ta)(c:Cls X.K C)(hm:Meth X.K C m f)(F:B2 X.prog X.w X.K X.mg X.base CX k f fd ps sp)(hr:D9 k X.A)(hb:yK X.K fd ps ds)(hd:Vals dvs ds)(hx:vS CX X E)
  (ht:eval (.Call (.Attribute o m apos) [] [] pos) X.env=(do
   let ov <- eval o X.env
   standAt apos.atName
   let (f,first) <- holding [ov] (getMethod ov m pl)
   callWith pos f first (backTo pos (starEach [] X.env)) (backToKw pos (keywordEach [] X.env))):=by rfl) :
  PE X (.Call (.Attribute o m apos) [] [] pos) (rE C m sp dvs E ta U8):=by
 intro z4 s σ H Q I h
 refine kL (pl:=pl) (thn (he z4 s σ H _ I h) fun u s1 hz=>?_) ht
 obtain⟨x,H1,I1,rx,a,dx,fs,ex,ea,l,q⟩:=hz
 subst ex
 obtain rfl:u=Value.ref a:=rx
 refine qV I1 ea c hm l ?_
 exact PySem.W.callWith_K0 (first:=[.ref a]) I1.kIn hm.kp (me (us:=[.ref a]) (vs:=[.ref a]) F hr hb hd hx I1 (.cons rfl .nil) q)
structure Mk(K:AA)(C f:Addr):Prop where
 makes:PySem.W.makesIn K C=true
 init:PySem.W.findIn K (.ref C) "__init__"=some (some (.ref f))
 fn:PySem.W.isFn K (.ref f)=true
 kp:PySem.W.keepIn K (.ref C)=true
theorem Um{z4:List AE}{σ:St}{H:Hp}{s:Shared}{Q:VK}{us:AG}{vs:AK}(M:Mk X.K C f)(F:B2 X.prog X.w X.K X.mg X.base CX k f fd ps sp)(hr:D9 (k+1) X.A)(hb:yK X.K fd ps ds)(hd:Vals dvs ds)
  (hx:vS CX X E) (I:Inv X z4 σ H s) (r:Vals vs us)
  (h:∀x dx,H x=none->H dx=none->dx≠x->sp (.ref x::(vs++dvs)) (upd (upd H dx (.own x)) x (.ins C dx [])) (fun v H2=>v=.non/\Q (.ref x) H2) E) :
  wpAny (model X.prog X.w) X.A (call (.ref C) us) (EP X z4 σ Q) X.xe s:=by
 have hq:=h (s.heap.objs.size+1) s.heap.objs.size (I.hok.fresh (fN _)) (I.hok.fresh (bG _)) (c8 (gD _))
 have I2:=Inv.made (C:=C) I
 have r2:Vals (V.ref (s.heap.objs.size+1)::(vs++dvs)) (Value.ref (s.heap.objs.size+1)::(us++ds)):=.cons rfl (r.append hd)
 have hl:(Value.ref (s.heap.objs.size+1)::us++ds).length=ps.length:=by
  have e:=r2.length
  rw[F.len _ _ _ _ hq] at e
  exact e.symm
 refine wpAny_call (TF (f:=f) I.kIn M.makes M.init (beq_iff_eq.mp M.fn) (OR (F.run _ X.stack _ _ ⟨Value.ref (s.heap.objs.size+1)::us,[]⟩ (Value.ref (s.heap.objs.size+1)::(us++ds)) _ _ E (hr.make C us [])
  (I2.Z7.make C us []) (hb _ (Value.ref (s.heap.objs.size+1)::us) I2.kIn hl) r2 hq) fun r s' hq'=>?_))
 cases r with
 | error e=>exact hx z4 σ _ _ e s' I2 hq'
 | ok fl=>
  cases fl with
  | ret u=>
   obtain⟨v,H',I3,rv,ev,q3⟩:=I2.after hq'
   subst ev
   exact⟨rv,⟨V.ref (s.heap.objs.size+1),H',I3,rfl,q3⟩⟩
  | next=>exact False.elim hq'
  | brk=>exact False.elim hq'
  | cont=>exact False.elim hq'
theorem Vb(M:Mk X.K C f)(F:B2 X.prog X.w X.K X.mg X.base CX k f fd ps sp)(hr:D9 (k+1) X.A)(hg:Gl X x)(hm:X.mg x=some (.ref C))(hb:yK X.K fd ps ds)(hd:Vals dvs ds)(hx:vS CX X E)
  (ha:PA X (e::es) t) (hdb:(x == ("__debug__":Str))=false:=by decide) (he:starEach (e::es) X.env=(false,eval e X.env)::starEach es X.env:=by rfl) (hpl:(backTo pos (starEach es X.env)).any (·.1)=false:=by rfl) :
  PE X (.Call (.Name x p) (e::es) [] pos) (aG C sp dvs E t):=by
 intro z4 s σ H Q I h
 refine OX (lQ I hg hm ?_ hdb)
 refine l8 (h₀:=X.base) I.ok.mod.kin M.kp (thn (ha pos z4 s σ H _ I h) fun us s1 ⟨vs,H1,I1,r,q⟩=>⟨I1.kIn,?_⟩) he hpl
 exact Um M F hr hb hd hx I1 r q
end
noncomputable def PK(X:Cx)(kws:List Keyword)(t:TA):Prop:=
 ∀(pos:Pos) (z4:List AE) (s:Shared) (σ:St) (H:Hp) (Q:AK->Hp->Prop),Inv X z4 σ H s->t σ H Q->wpAny (model X.prog X.w) X.A (evalAll ((backToKw pos (keywordEach kws X.env)).map (·.2))) (AP X z4 σ Q) X.xe s
section
variable{X:Cx}{CX:CXT}{k:Nat}{f C:Addr}{fd:FuncData}{ps ks:AF}{sp:Sp}{E:XK}{x m:Str}{p pos apos kpos:Pos}{e o:Expr}{es:List Expr}{kws:List Keyword}{te ta:TE}{t tk:TA}{nm:Option Str}
theorem rK:PK X [] U8:=fun _ _ _ _ H Q I h=>wpAny_evalAll_nil ⟨[],H,I,.nil,h⟩
theorem rW(ha:PE X e te)(hr:PK X kws t):PK X (⟨nm,e,kpos⟩::kws) (mI te t):=by
 intro pos z4 s σ H Q I h
 show wpAny _ _ (evalAll ((do let v <- eval e X.env;standAt pos;pure v)::(backToKw pos (keywordEach kws X.env)).map (·.2))) _ _ s
 refine wpAny_evalAll_cons (Pl (thn (ha z4 s σ H _ I h) fun u s1 ⟨x,H1,I1,r1,q1⟩=>Pl (Oy (Pm ?_))))
 exact thn (hr pos z4 s1 σ H1 _ I1 q1) fun us s2 ⟨xs,H2,I2,r2,q2⟩=>⟨x::xs,H2,I2,.cons r1 r2,q2⟩
variable{g:AG->AG->AG}{gV:AK->AK->AK}
end
structure A9(N P:AF)(sc:Scope):Prop where
 kind:sc.kind=.function
 co:sc.isCoroutine=false
 gen:sc.isGenerator=false
 nd:N.Nodup
 pre:N.take P.length=P
 par:∀x∈P,sc.names.lookup x=some .local\/sc.names.lookup x=some .cell
 nofree:∀y∈sc.names,y.2≠.free
theorem Xh{kindOf:Str->Option NameKind}{x:Str}:∀{binds:List (Str×Value)}{m:Str->AH},(∀v,(x,v)∉binds)->bindL kindOf binds m x=m x
 | [],_,_=>rfl
 | (n,v)::r,m,h=>by
  unfold bindL
  rw[Xh fun w hw=>h w (bU _ hw)]
  split
  ·have:x≠n:=by rintro rfl;exact h v bT
   simp[this]
  ·rfl
theorem Xg{kindOf:Str->Option NameKind}{x:Str}:∀{binds:List (Str×Value)}{m:Str->AH},(∀v,(x,v)∉binds)->bindC kindOf binds m x=m x
 | [],_,_=>rfl
 | (n,v)::r,m,h=>by
  unfold bindC
  rw[Xg fun w hw=>h w (bU _ hw)]
  split
  ·rfl
  ·have:x≠n:=by rintro rfl;exact h v bT
   simp[this]
theorem Xe{kindOf:Str->Option NameKind}{x:Str}{v:Value}:∀{P:AF}{vs:AG}{i:Nat}{m:Str->AH},P.Nodup->P[i]? = some x->vs[i]? = some v->kindOf x=some .local->
  bindL kindOf (P.zip vs) m x=some v
 | [],_,_,_,_,h,_,_=>by simp at h
 | _::_,[],_,_,_,_,h,_=>by simp at h
 | p::P,w::vs,0,m,nd,h1,h2,hk=>by
  simp at h1 h2;subst h1;subst h2
  show bindL kindOf ((p,w)::P.zip vs) m p=_
  unfold bindL
  rw[Xh fun v hv=>(dE.mp nd).1 (List.of_mem_zip hv).1,Po hk]
  simp
 | p::P,w::vs,i+1,m,nd,h1,h2,hk=>by
  show bindL kindOf ((p,w)::P.zip vs) m x=_
  unfold bindL
  exact Xe (i:=i) (dE.mp nd).2 (by simpa using h1) (by simpa using h2) hk
theorem XX{kindOf:Str->Option NameKind}{x:Str}{v:Value}:∀{P:AF}{vs:AG}{i:Nat}{m:Str->AH},P.Nodup->P[i]? = some x->vs[i]? = some v->kindOf x≠some .local->
  bindC kindOf (P.zip vs) m x=some v
 | [],_,_,_,_,h,_,_=>by simp at h
 | _::_,[],_,_,_,_,h,_=>by simp at h
 | p::P,w::vs,0,m,nd,h1,h2,hk=>by
  simp at h1 h2;subst h1;subst h2
  show bindC kindOf ((p,w)::P.zip vs) m p=_
  unfold bindC
  rw[Xg fun v hv=>(dE.mp nd).1 (List.of_mem_zip hv).1,Pn hk]
  simp
 | p::P,w::vs,i+1,m,nd,h1,h2,hk=>by
  show bindC kindOf ((p,w)::P.zip vs) m x=_
  unfold bindC
  exact XX (i:=i) (dE.mp nd).2 (by simpa using h1) (by simpa using h2) hk
noncomputable def xS(N:AF)(vs:AK):St:=vs.map some++List.replicate (N.length-vs.length) none
noncomputable def R7(CX:CXT)(P:Program)(w:World)(K:AA)(mg:Str->AH)(base:Heap)(N:AF)(qual:Str)(scope:Scope)(f:Addr)(cd:Value)(A:Around)(outer:List Env)(s:Shared)(H:Hp)(E:XK):Cx where
 prog:=P
 w:=w
 K:=K
 mg:=mg
 base:=base
 A:=A.deeper (envOfC qual scope s.heap.objs.size f cd)
 N:=N
 s₀:=s
 H₀:=H
 env:=envOfC qual scope s.heap.objs.size f cd
 outer:=outer
 stack:=envOfC qual scope s.heap.objs.size f cd::outer
 ex:=[]
 calm:=true
 fn:=fun _=>true
 pn:=[]
 xe:=fun e s'=>wpAny (model P w) (A.deeper (envOfC qual scope s.heap.objs.size f cd)) (leaving (envOfC qual scope s.heap.objs.size f cd) e) (fun _ s''=>CX outer H s E e s'') (fun e' s''=>CX outer H s E e' s'') s'
theorem YL{sc:Scope}{n:Nat}{x:Str}(h:sc.names.lookup x=some .cell):∃c,(cellsFrom n sc.names []).lookup x=some c:=by
 have q:=PySem.W.cellsFrom_some sc.names n [] (.inl h)
 exact Option.isSome_iff_exists.mp q
theorem Sx{CX:CXT}{P:Program}{w:World}{K:AA}{mg:Str->AH}{base:Heap}{N ps:AF}{qual:Str}{scope:Scope}{f:Addr}{cd:Value}{A:Around}{outer:List Env}{s s1:Shared}{H:Hp}{E:XK}{us:AG}{vs:AK}
  (S:A9 N ps scope) (hd:A.handled=none) (e0:S1 P w K mg base A outer s H) (hl:vs.length=ps.length) (r:Vals vs us)
  (x:InCallC s s.heap.objs.size (bindL (envOfC qual scope s.heap.objs.size f cd).kindOf (ps.zip us) fun _=>none) (cellsFrom (s.heap.objs.size+1) scope.names []) (bindC (envOfC qual scope s.heap.objs.size f cd).kindOf (ps.zip us) fun _=>none) s1) :
  Inv (R7 CX P w K mg base N qual scope f cd A outer s H E) [] (xS N vs) H s1:=by
 have hpl:ps.length<=N.length:=by have:=Pu List.length S.pre;rw[bL] at this;lia
 obtain⟨h1,tk,rfl,hk⟩:=x.done
 have noA:∀b:Addr,b∉(R7 CX P w K mg base N qual scope f cd A outer s H E).ex:=fun b z=>ND (show b∈([]:List Addr) from z) (by simp)
 refine⟨⟨e0.mod,S.kind,rfl,rfl,bG _,fun y z c h1 h2=>?_,fun y hy=>?_,fun y c _ h=>?_,fun _=>hd,Around.frames_deeper e0.frames,.inr ⟨rfl,rfl⟩,fun b z=>ND z (noA b),e0.bs,e0.bsz,fun b _ _=>noA b,fun b z=>ND z (noA b),e0.O2,e0.frf⟩,
  rfl,e0.bare,Un.kept hk,⟨_,x.toInCall.ns,fun i y v h1 h2 h3=>?_⟩,fun y c h=>⟨_,x.cell y c h⟩,e0.hok.fresh (bG _),fun y c h=>?_,fun p hp=>ND (show p∈([]:List AE) from hp) (by simp),e0.hok.kept hk,?_⟩
 ·exact name_of_addr x.apart (gP h1) (gP h2)
 ·have hy:scope.names.lookup y=some .cell\/scope.names.lookup y=some .free:=hy
  rcases hy with hy|hy
  ·exact YL hy
  ·exact ND rfl (S.nofree _ (gP hy))
 ·exact dJ (x.above y c (gP h))
 ·have hi:i<vs.length:=by
   unfold xS at h2
   by_cases hi:i<vs.length
   ·exact hi
   ·rw[cV (by simpa using hi)] at h2
    rw[fF] at h2
    split at h2<;>cases h2
  have ha:vs[i]? = some v:=by
   unfold xS at h2
   rw[cS (by simpa using hi),bE] at h2
   cases e:vs[i]? with
   | none=>rw[e] at h2;cases h2
   | some a=>rw[e] at h2;cases h2;rfl
  obtain⟨u,hu,rv⟩:=r.get ha
  have hp:ps[i]? = some y:=by
   rw[<- S.pre,List.getElem?_take_of_lt (by lia)];exact h1
  have ndP:ps.Nodup:=by rw[<- S.pre];exact S.nd.sublist (kA _ _)
  refine⟨u,rv,?_⟩
  rcases S.par y (bH hp) with k|k
  ·exact .inl ⟨k,Xe ndP hp hu k⟩
  ·obtain⟨c,e⟩:=YL (n:=s.heap.objs.size+1) k
   refine .inr ⟨.inl k,c,e,?_⟩
   have q:=x.cell y c e
   rw[XX ndP hp hu (by show scope.names.lookup y≠_;rw[k];decide)] at q
   exact q
 ·exact e0.hok.fresh (dJ (x.above y c (gP h)))
 ·unfold xS
  show _=N.length
  rw[bF,bA,d7]
  lia
theorem aQ{CX:CXT}{P:Program}{w:World}{K:AA}{mg:Str->AH}{base:Heap}{k:Nat}{f:Addr}{name qual:Str}{params:Arguments}{body:List Stmt}{scope:Scope}{dV kV doc pm zO ct oc:Value}{an od:Option Addr}
  {osl:Array (AH)}{N ps:AF}{sp:Sp} (lk:K.lookup f=some ⟨oc,od,.func (PySem.W.fnOf name qual params body scope dV kV doc pm an zO ct),osl⟩) (hcd:PySem.W.codeIn K zO qual=true) (S:A9 N ps scope)
  (len:∀vs H Q E,sp vs H Q E->vs.length=ps.length)
  (R4:∀(A:Around) (outer:List Env) (s:Shared) (H:Hp) (vs:AK) (Q:VK) (E:XK),D9 k (A.deeper (envOfC qual scope s.heap.objs.size f zO))->sp vs H Q E->
   ∃t,PSs (R7 CX P w K mg base N qual scope f zO A outer s H E) body t/\t { nx:=fun _ H'=>Q .non H',rt:=Q } (xS N vs) H) :
  B2 P w K mg base CX (k+1) f (PySem.W.fnOf name qual params body scope dV kV doc pm an zO ct) ps sp:=by
 refine⟨len,fun A outer s H args us vs Q E hr e0 hb r hsp=>?_⟩
 have hl:=len _ _ _ _ hsp
 have KX:K.In s.heap:=e0.mod.kin.keeps fun b o e=>(e0.bs b o e).1
 have lim:s.heap.NoLimit:=e0.mod.nolimit.keeps fun b o e=>(e0.bs b o e).1
 have w0B:∀y∈ps.zip us,scope.names.lookup y.1=some .local\/(scope.names.lookup y.1=some .cell/\((cellsFrom (s.heap.objs.size+1) scope.names []).lookup y.1).isSome=true):=fun⟨n,v⟩ hy=>by
  rcases S.par n (List.of_mem_zip hy).1 with q|q
  ·exact .inl q
  ·exact .inr ⟨q,PySem.W.cellsFrom_some _ _ _ (.inl q)⟩
 refine codeAny_call_function hr.depth (KX _ _ lk) rfl S.co S.gen rfl (PySem.W.codeRec_of KX hcd) (hb _ _ _ _ ?_)
 refine wpAny_newFunctionEnv_cells S.kind w0B fun env he s1 x=>?_
 subst he
 refine⟨lim.keeps x.toInCall.keep,codeAny_func ?_⟩
 obtain⟨t,ht,hq⟩:=R4 A outer s H vs Q E (hr.deeper _) hsp
 have I:Inv (R7 CX P w K mg base N qual scope f zO A outer s H E) [] (xS N vs) H s1:=Sx S hr.hd e0 hl r x
 refine OF (ht [] s1 (xS N vs) H _ I hq) (fun fl s' hs=>?_) fun e s' hs=>hs
 have fin:∀{σ':St}{H':Hp}{v:V}{u:Value},Inv (R7 CX P w K mg base N qual scope f zO A outer s H E) [] σ' H' s'->RelV v u->Q v H'->CE outer P w H s Q u s':=
  fun {σ' H' v u} J rv q=>⟨v,H',J.os,J.bare,J.base,J.hok,rv,q⟩
 cases fl with
 | ret u=>
  obtain⟨v,σ',H',J,rv,q⟩:=hs
  exact fin J rv q
 | next=>
  obtain⟨σ',H',J,q⟩:=hs
  exact fin (v:=V.non) (u:=Value.none) J rfl q
 | brk=>
  obtain⟨_,_,_,q⟩:=hs
  exact False.elim q
 | cont=>
  obtain⟨_,_,_,q⟩:=hs
  exact False.elim q
section
variable{X:Cx}{x:Str}{p pos:Pos}{e:Expr}{es:List Expr}{t:TA}{id T:String}{r:AK->Hp->VK->Prop}
noncomputable def tCB(r:AK->Hp->VK->Prop)(t:TA):TE:=fun σ H Q=>t σ H fun vs H1=>r vs H1 Q
theorem zb(hc:yo X (.builtin id) r)(hg:Gl X x)(hm:X.mg x=none)(hv:bootBuiltins x=some (.builtin id))(ha:PA X (e::es) t)(hn:x≠"__name__":=by decide)(hdb:(x == ("__debug__":Str))=false:=by decide)
  (he:starEach (e::es) X.env=(false,eval e X.env)::starEach es X.env:=by rfl) (hpl:(backTo pos (starEach es X.env)).any (·.1)=false:=by rfl):PE X (.Call (.Name x p) (e::es) [] pos) (tCB r t):=by
 intro z4 s σ H Q I h
 refine OX (wF I hg hm hv ?_ hn hdb)
 exact PyProof.Rows.callWith_builtin1 (thn (ha pos z4 s σ H _ I h) fun us s1 ⟨vs,H1,I1,r1,q1⟩=>hc z4 s1 σ H1 vs us Q I1 r1 q1) he hpl
theorem yD(hc:yo X (.type T) r)(hg:Gl X x)(hm:X.mg x=none)(hv:bootBuiltins x=some (.type T))(ha:PA X (e::es) t)(hn:x≠"__name__":=by decide)(hdb:(x == ("__debug__":Str))=false:=by decide)
  (he:starEach (e::es) X.env=(false,eval e X.env)::starEach es X.env:=by rfl) (hpl:(backTo pos (starEach es X.env)).any (·.1)=false:=by rfl):PE X (.Call (.Name x p) (e::es) [] pos) (tCB r t):=by
 intro z4 s σ H Q I h
 refine OX (wF I hg hm hv ?_ hn hdb)
 exact dN (thn (ha pos z4 s σ H _ I h) fun us s1 ⟨vs,H1,I1,r1,q1⟩=>hc z4 s1 σ H1 vs us Q I1 r1 q1) he hpl
end
end L2
namespace HT
open PySem PyProof.Rows
section
open PySem.SeqAt
open PySem.AutoSeq1 (wpAny_loadPart')
open PySem.MeetsSeq PySem.MeetsSeq2 PySem.MeetsSeq3
end
section
variable{prog:Program}{w:World}{A:Around}{E:AB}{s:Shared}
theorem Vc{t b:Addr}{vs ws:AG}{Q:AB}(ht:IsTup s.heap t vs.toArray)(hb:IsTup s.heap b ws.toArray)(hv:vs≠[])
  (h1:ws=[]->Q (.ref t) s) (h2:ws≠[]->Q (.ref s.heap.objs.size) { s with heap:=s.heap.push { cls:=.type "tuple",data:=.seq (vs++ws).toArray } })
  (hsz:vs.length+ws.length<=sizeLine):wpAny (model prog w) A (binaryOp .Add (.ref t) (.ref b)) Q E s:=by
 obtain⟨⟨cls,dd,data,sl⟩,ho,hc,n,hd⟩:=id ht
 obtain⟨⟨cls2,dd2,data2,sl2⟩,ho2,hc2,n2,hd2⟩:=id hb
 simp only at hc hd hc2 hd2
 subst hc hd hc2 hd2
 have e:vs.toArray++ws.toArray=(vs++ws).toArray:=by simp
 by_cases hw:ws=[]
 ·exact concat_meets ⟨_,ho,rfl⟩ ⟨_,ho2,rfl⟩ noFill_tuple_add seq_tuple_add kC k8 (jT _ _)
   (tuple_addW1 t b vs.toArray ws.toArray n n2 dd dd2 sl sl2 (by simpa using hv) (by simp[hw])) ⟨ho,ho2,h1 hw⟩
 ·refine concat_meets ⟨_,ho,rfl⟩ ⟨_,ho2,rfl⟩ noFill_tuple_add seq_tuple_add kC k8 (jT _ _)
   (tuple_addW2 t b vs.toArray ws.toArray n n2 dd dd2 sl sl2 (by simpa using hv) (by simpa using hw) (by rw[bN,bN];exact hsz)) ⟨ho,ho2,?_⟩
  rw[e]
  exact h2 hw
noncomputable def sIx(n d:Nat):Option Int->Nat
 | none=>d
 | some v=>if v<0 then (v+(n:Int)).toNat else min v.toNat n
theorem ra(n d k:Nat):sIx n d (some (k:Int))=min k n:=by
 show(if (k:Int)<0 then ((k:Int)+(n:Int)).toNat else min (k:Int).toNat n)=min k n
 rw[Pn (by lia),fG]
theorem ZP(n d:Nat)(hd:d<=n)(o:Option Int):sIx n d o<=n:=by
 cases o with
 | none=>exact hd
 | some v=>
  show(if v<0 then (v+(n:Int)).toNat else min v.toNat n)<=n
  by_cases hv:v<0
  ·rw[Po hv];lia
  ·rw[Pn hv];exact Nat.min_le_right _ _
theorem Zu(v:Int)(n d:Nat):(if v<0 then max (v+(n:Int)) 0 else min v (n:Int))=((sIx n d (some v):Nat):Int):=by
 show(if v<0 then max (v+(n:Int)) 0 else min v (n:Int))=(((if v<0 then (v+(n:Int)).toNat else min v.toNat n):Nat):Int)
 by_cases hv:v<0
 ·simp only[Po hv];lia
 ·simp only[Pn hv];lia
theorem Rm(lo hi:Option Int)(n:Nat):Builtin.Slice.sliceAdjust lo hi 1 (n:Int)=(((sIx n 0 lo:Nat):Int),((sIx n n hi:Nat):Int)):=by
 have h1:¬((1:Int)<0):=by lia
 unfold Builtin.Slice.sliceAdjust
 simp only[h1,if_false]
 refine Prod.ext ?_ ?_
 ·cases lo with
  | none=>rfl
  | some v=>exact Zu v n 0
 ·cases hi with
  | none=>rfl
  | some v=>exact Zu v n n
theorem QM(i j:Nat):Builtin.Slice.slicePlaces (i:Int) (j:Int) 1=j-i:=by
 unfold Builtin.Slice.slicePlaces
 have h1:(1:Int) > 0:=by lia
 simp only[h1,if_true,Int.ediv_one]
 split<;>lia
theorem jn{v:Value}{o:Option Int}{Q:Option Int->Shared->Prop}(p:IsPart v o)(h:Q o s):wpAny (model prog w) A (Builtin.Slice.slicePartIndex v) Q E s:=by
 cases p with
 | none=>exact slicePart_none h
 | int i t=>exact slicePart_int h
theorem cp{sl:Addr}{vl vu:Value}{lo hi:Option Int}{n:Nat}{Q:Int×Int×Nat->Shared->Prop}(hs:s.heap.IsSliceOf sl vl vu .none)(pl:IsPart vl lo)(pu:IsPart vu hi)
  (h:Q (((sIx n 0 lo:Nat):Int),1,sIx n n hi-sIx n 0 lo) s):wpAny (model prog w) A (Builtin.Slice.sliceApplied (.ref sl) (pure (n:Int))) Q E s:=by
 obtain⟨os,hos,hcs,hds⟩:=id hs
 unfold Builtin.Slice.sliceApplied Builtin.Slice.sliceFields
 refine Pl (Pl (OC hos hds (x:=vl) rfl (Pl (OC hos hds (x:=vu) rfl (Pl (OC hos hds (x:=.none) rfl (Pm ?_)))))))
 refine Pl (slicePart_none ?_)
 show wpAny _ _ (if ((1:Int) == 0)=true then _ else _) _ _ s
 rw[Pn (by decide)]
 refine Pl (jn pl (Pl (jn pu (Pl (Pm ?_)))))
 show wpAny _ _ (match Builtin.Slice.sliceAdjust lo hi 1 (n:Int) with|(lo,hi)=>pure (lo,(1:Int),Builtin.Slice.slicePlaces lo hi 1)) _ _ s
 rw[Rm lo hi n]
 show wpAny _ _ (pure (((sIx n 0 lo:Nat):Int),(1:Int),Builtin.Slice.slicePlaces ((sIx n 0 lo:Nat):Int) ((sIx n n hi:Nat):Int) 1)) _ _ s
 rw[QM]
 exact Pm h
theorem UQ(xs:AI)(i k:Nat):((List.range k).filterMap fun(m:Nat)=>xs[((i:Int)+(m:Int)*1).toNat]?).toArray=((xs.toList.drop i).take k).toArray:=by
 have e:(fun(m:Nat)=>xs[((i:Int)+(m:Int)*1).toNat]?)=fun m=>xs[i+m]? := by
  funext m
  have:((i:Int)+(m:Int)*1).toNat=i+m:=by lia
  rw[this]
 rw[e]
 have:=pick_run xs i k
 rw[List.filterMap_map] at this
 have e2:((fun x=>xs[x]?) ∘ fun x=>i+x)=fun m=>xs[i+m]? := rfl
 rw[e2] at this
 rw[this]
theorem WR{t sl:Addr}{zB:AI}{vl vu:Value}{lo hi:Option Int}{Q:AB}(ht:IsTup s.heap t zB)(hs:s.heap.IsSliceOf sl vl vu .none)(pl:IsPart vl lo)(pu:IsPart vu hi)
  (hw:¬(sIx zB.size 0 lo=0/\sIx zB.size zB.size hi=zB.size))
  (h:Q (.ref s.heap.objs.size) { s with heap:=s.heap.push { cls:=.type "tuple",data:=.seq ((zB.toList.drop (sIx zB.size 0 lo)).take (sIx zB.size zB.size hi-sIx zB.size 0 lo)).toArray } })
  (hsz:zB.size<=sizeLine):wpAny (model prog w) A (getItem (.ref t) (.ref sl)) Q E s:=by
 have S6:sizeOk (.seq ((zB.toList.drop (sIx zB.size 0 lo)).take (sIx zB.size zB.size hi-sIx zB.size 0 lo)).toArray):=by
  show((zB.toList.drop (sIx zB.size 0 lo)).take (sIx zB.size zB.size hi-sIx zB.size 0 lo)).toArray.size<=sizeLine
  rw[bN,bL,dL,cO]
  lia
 have hj:sIx zB.size zB.size hi<=zB.size:=ZP _ _ (bG _) hi
 obtain⟨os,hos,hcs,hds⟩:=id hs
 have hTs:s.TypeIs (.ref sl) "slice":=⟨os,hos,hcs⟩
 unfold getItem
 try with_reducible refine Py ?_
 first|refine Pl (Pm ?_)|skip
 refine Pl (wpAny_sequenceKey ht.typeIs (by decide) ?_)
 refine Pl (OE (name:=Str.ofString "__getitem__") ht.typeIs dP
  (OD dP ht.typeIs entry_tuple_getitem ?_ (args_tuple_getitem _ _)))
 show wpAny _ _ (Builtin.Tuple.tupleItemsOf (.ref t) >>= _) _ _ s
 refine Pl (tupleItemsOf_ ht ?_)
 refine Pl (Oh hTs ?_)
 rw[Po (by decide)]
 refine Pl (cp hs pl pu ?_)
 have hno:¬((((sIx zB.size 0 lo:Nat):Int) == 0 && (1:Int) == 1 && (sIx zB.size zB.size hi-sIx zB.size 0 lo) == zB.size)=true):=by
  intro q
  rw[bX,bX] at q
  have q1:((sIx zB.size 0 lo:Nat):Int)=0:=eq_of_beq q.1.1
  have q2:sIx zB.size zB.size hi-sIx zB.size 0 lo=zB.size:=eq_of_beq q.2
  exact hw ⟨by lia,by lia⟩
 show wpAny _ _ (if (((sIx zB.size 0 lo:Nat):Int) == 0 && (1:Int) == 1 && (sIx zB.size zB.size hi-sIx zB.size 0 lo) == zB.size)=true then _ else _) _ _ s
 rw[Pn hno,UQ]
 first
  | exact Pl (m:=Builtin.Tuple.tupleExact _) (OA (Pm ⟨_,rfl,Pm h⟩) S6)
  | exact Pl (m:=Builtin.Tuple.tupleExact _) (OA (Pl (Pm (Pm ⟨_,rfl,Pm h⟩))) S6)
  | exact Pl (Pl (m:=Builtin.Tuple.tupleExact _) (OA (Pm (Pm ⟨_,rfl,Pm h⟩)) S6))
  | exact Pl (Pl (m:=Builtin.Tuple.tupleExact _) (OA (Pm ⟨_,rfl,Pm h⟩) S6))
end
end HT
namespace L2
open PySem PySem.Spec PyProof.Rows
abbrev TO:=St->Hp->(Option Int->Hp->Prop)->Prop
noncomputable def PO(X:Cx)(e:Option Expr)(t:TO):Prop:=
 ∀(z4:List AE) (s:Shared) (σ:St) (H:Hp) (Q:Option Int->Hp->Prop),Inv X z4 σ H s->t σ H Q->
  wpAny (model X.prog X.w) X.A (evalPart e X.env) (fun u s'=>∃o H',Inv X z4 σ H' s'/\IsPart u o/\Q o H') X.xe s
noncomputable def Vw:TO:=fun _ H Q=>Q none H
noncomputable def w04(t:TE):TO:=fun σ H Q=>t σ H fun x H1=>∃i,x=.int i/\Q (some i) H1
theorem QQ{ns:AJ}:∀{us:AG},Vals (ns.map V.int) us->IntsAre us ns:=by
 induction ns with
 | nil=>intro us r;rw[List.map_nil] at r;cases r;exact .nil
 | cons n ns ih=>
  intro us r
  rw[cJ] at r
  cases r with
  | cons r1 r2=>
   obtain⟨t,e⟩:=r1
   subst e
   exact .cons n t (ih r2)
section
variable{X:Cx}{e:Expr}{te:TE}{lo hi:Option Expr}{tl th:TO}{pos p2:Pos}
theorem wg:PO X none Vw:=by
 intro z4 s σ H Q I h
 rw[evalPart_none]
 exact Pm ⟨none,H,I,.none,h⟩
theorem wt(h:PE X e te):PO X (some e) (w04 te):=by
 intro z4 s σ H Q I hw
 rw[evalPart_some]
 refine thn (h z4 s σ H _ I hw) fun u s1 hz=>?_
 obtain⟨x,H1,I1,r1,q1⟩:=hz
 obtain⟨i,rfl,q⟩:=q1
 obtain⟨t,rfl⟩:=r1
 exact⟨some i,H1,I1,.int i t,q⟩
noncomputable def SlR(X:Cx)(r:V->Option Int->Option Int->Hp->VK->Prop):Prop:=
 ∀(z4:List AE) (s:Shared) (σ:St) (H:Hp) (x:V) (v vl vu:Value) (lo hi:Option Int) (sl:Addr) (Q:VK),Inv X z4 σ H s->RelV x v->s.heap.IsSliceOf sl vl vu .none->IsPart vl lo->IsPart vu hi->r x lo hi H Q->
  ∃T id,typeLookup (.type T) "__getitem__"=pure (some (.builtin id))/\s.TypeIs v T/\wpAny (model X.prog X.w) X.A (getItem v (.ref sl)) (EP X z4 σ Q) X.xe s
noncomputable def tSl(r:V->Option Int->Option Int->Hp->VK->Prop)(te:TE)(tl th:TO):TE:=fun σ H Q=>te σ H fun x H1=>tl σ H1 fun l H2=>th σ H2 fun u H3=>r x l u H3 Q
theorem wu{r:V->Option Int->Option Int->Hp->VK->Prop}(hr:SlR X r)(he:PE X e te)(hl:PO X lo tl)(hu:PO X hi th):PE X (.Subscript e (.Slice lo hi none p2) pos) (tSl r te tl th):=by
 intro z4 s σ H Q I h
 refine Subscript_ (thn (he z4 s σ H _ I h) fun v s1 hz=>?_)
 obtain⟨x,H1,I1,r1,q1⟩:=hz
 refine wpAny_Slice (thn (hl z4 s1 σ H1 _ I1 q1) fun vl s2 ⟨l,H2,I2,pl,q2⟩=>thn (hu z4 s2 σ H2 _ I2 q2) fun vu s3 hz=>?_)
 obtain⟨u,H3,I3,pu,q3⟩:=hz
 rw[evalPart_none]
 refine Pm ?_
 have I4:Inv X z4 σ H3 { s3 with heap:=s3.heap.push { cls:=.type "slice",data:=.fields #[vl,vu,.none] } }:=I3.kept (t':=s3.toks) fun b ob q=>bB _ q
 obtain⟨T,id,hT,ht,hg⟩:=hr z4 { s3 with heap:=s3.heap.push { cls:=.type "slice",data:=.fields #[vl,vu,.none] } } σ H3 x v vl vu l u s3.heap.objs.size Q I4 r1 (Heap.IsSliceOf.new ..) pl pu q3
 show wpAny (model X.prog X.w) X.A (subscriptTail e (.Slice lo hi none p2) v (.ref s3.heap.objs.size)) (EP X z4 σ Q) X.xe { s3 with heap:=s3.heap.push { cls:=.type "slice",data:=.fields #[vl,vu,.none] } }
 exact tail_any (ops:=[.ref s3.heap.objs.size,v]) ht hT hg (by with_unfolding_all rfl)
noncomputable def K0(xs:AK)(lo hi:Option Int):AK:=(xs.drop (HT.sIx xs.length 0 lo)).take (HT.sIx xs.length xs.length hi-HT.sIx xs.length 0 lo)
theorem gm(xs:AK)(lo hi:Option Int):(K0 xs lo hi).length<=xs.length:=by
 unfold K0
 rw[bL,dL]
 lia
noncomputable def rSlT(K:AA):V->Option Int->Option Int->Hp->VK->Prop:=fun x lo hi H Q=>∃a xs,x=.ref a/\SqT K H a xs/\
 ¬(HT.sIx xs.length 0 lo=0/\HT.sIx xs.length xs.length hi=xs.length)/\∀p,H p=none->Q (.ref p) (upd H p (.tup (K0 xs lo hi)))
theorem ZM:SlR X (rSlT X.K):=by
 intro z4 s σ H x v vl vu lo hi sl Q I rx hs pl pu h
 obtain⟨a,xs,rfl,hx,hw,q⟩:=h
 cases rx
 obtain⟨zC,r,ht,hz⟩:=I.tuple hx
 have zU:zC.toArray.size=xs.length:=by rw[bN];exact r.length.symm
 refine⟨"tuple",_,dP.lookup,ht.typeIs,?_⟩
 refine HT.WR ht hs pl pu (by rw[zU];exact hw) ?_ (by rw[zU];exact hz)
 rw[zU]
 refine⟨.ref s.heap.objs.size,_,I.laid (t':=s.toks) (o:=.tup (K0 xs lo hi)) (fun b ob q=>bB _ q) (bG _) ?_,rfl,q _ (I.hok.fresh (bG _))⟩
 exact⟨c7 (gm xs lo hi) hz,_,(r.drop (HT.sIx xs.length 0 lo)).take (HT.sIx xs.length xs.length hi-HT.sIx xs.length 0 lo),PlT.new _ _⟩
theorem Vals.S7{xs:AK}{us:AG}(r:Vals xs us):us=[]↔xs=[]:=by
 cases r with
 | nil=>simp
 | cons _ _=>simp
end
noncomputable def ixN(n:Nat)(i:Int):Option Nat:=if 0<=i then (if i<n then some i.toNat else none) else if -(n:Int)<=i then some (i+n).toNat else none
noncomputable def atI{α:Type}(xs:List α)(i:Int):Option α:=(ixN xs.length i).bind fun j=>xs[j]?
theorem VU{n:Nat}{i:Int}{j:Nat}(h:ixN n i=some j):seqIndex? i n=some j/\j<n/\-(n:Int)<=i/\i<n:=by
 unfold ixN at h
 by_cases h0:0<=i
 ·rw[Po h0] at h
  by_cases h1:i<n
  ·rw[Po h1] at h
   have e:i.toNat=j:=Option.some.inj h
   exact⟨by rw[seqIndex_of h0 h1,e],by lia,by lia,h1⟩
  ·rw[Pn h1] at h;cases h
 ·rw[Pn h0] at h
  by_cases h1:-(n:Int)<=i
  ·rw[Po h1] at h
   have e:(i+n).toNat=j:=Option.some.inj h
   exact⟨by rw[seqIndex_neg (by lia) h1,e],by lia,h1,by lia⟩
  ·rw[Pn h1] at h;cases h
theorem lU{α:Type}{xs:List α}{i:Int}{v:α}(h:atI xs i=some v):∃j,seqIndex? i xs.length=some j/\xs[j]? = some v/\j<xs.length/\-(xs.length:Int)<=i/\i<xs.length:=by
 unfold atI at h
 cases e:ixN xs.length i with
 | none=>rw[e] at h;cases h
 | some j=>
  rw[e] at h
  obtain⟨h1,h2,h3,h4⟩:=VU e
  exact⟨j,h1,h,h2,h3,h4⟩
theorem yT{α:Type}{xs:List α}{j:Nat}{v:α}(h:xs[j]? = some v):atI xs (j:Int)=some v:=by
 have hj:j<xs.length:=(bK.mp h).1
 have e:ixN xs.length (j:Int)=some j:=by
  unfold ixN
  rw[Po (by lia),Po (by lia)];simp
 unfold atI;rw[e];exact h
noncomputable def Vq(b:Expr):Prop:=∀o i,subscripted b false o i=operate [o,i] (getItem o i)
noncomputable def IxR(X:Cx)(r:R2):Prop:=
 ∀(value slice:Expr) (z4:List AE) (s:Shared) (σ:St) (H:Hp) (x y:V) (v u:Value) (Q:VK),Inv X z4 σ H s->RelV x v->RelV y u->r x y H Q->
  subscripted slice false v u=operate [v,u] (getItem v u)->wpAny (model X.prog X.w) X.A (subscriptTail value slice v u) (EP X z4 σ Q) X.xe s
noncomputable def MtR(X:Cx)(id:String)(r:V->AK->Hp->VK->Prop):Prop:=
 ∀(z4:List AE) (s:Shared) (σ:St) (H:Hp) (x:V) (xs:AK) (v:Value) (us:AG) (Q:VK),Inv X z4 σ H s->RelV x v->Vals xs us->r x xs H Q->
  wpAny (model X.prog X.w) X.A (call (.builtin id) (v::us)) (EP X z4 σ Q) X.xe s
section
variable{X:Cx}{a b:Expr}{ta tb:TE}{pos:Pos}
theorem IxR.or{r r':R2}(h:IxR X r)(h':IxR X r'):IxR X (fun x y H Q=>r x y H Q\/r' x y H Q):=by
 intro value slice z4 s σ H x y v u Q I rx ry q hs
 rcases q with q|q
 ·exact h value slice z4 s σ H x y v u Q I rx ry q hs
 ·exact h' value slice z4 s σ H x y v u Q I rx ry q hs
theorem zh{r:R2}(hr:IxR X r)(ha:PE X a ta)(hb:PE X b tb)(hs:Vq b):PE X (.Subscript a b pos) (tOp r ta tb):=by
 intro z4 s σ H Q I h
 exact Subscript_ (Y8 ha hb I h fun v u s2 x y H2 I2 rx ry q=>hr a b z4 s2 σ H2 x y v u Q I2 rx ry q (hs _ _))
noncomputable def Z5(K:AA):R2:=fun x y H Q=>∃p xs i v,x=.ref p/\y=.int i/\SqL K H p xs/\atI xs i=some v/\Q v H
noncomputable def V8(K:AA):R2:=fun x y H Q=>∃p xs i v,x=.ref p/\y=.int i/\SqT K H p xs/\atI xs i=some v/\Q v H
noncomputable def rIxS:R2:=fun x y H Q=>∃z i c,x=.str z/\y=.int i/\z.length<=sizeLine/\atI z.cps.toList i=some c/\Q (.str ⟨#[c]⟩) H
theorem yl:IxR X (Z5 X.K):=by
 intro value slice z4 s σ H x y v u Q I rx ry h hs
 obtain⟨p,xs,i,z,rfl,rfl,hq,he,q⟩:=h
 cases rx
 obtain⟨t,rfl⟩:=ry
 obtain⟨zC,r,pl,hz⟩:=I.list hq
 obtain⟨j,h1,h2,h3,h4,h5⟩:=lU he
 obtain⟨w,ew,rw'⟩:=r.get h2
 have hl:=r.length
 have hn:=vQ
 have fin:EP X z4 σ Q w s:=⟨z,H,I,rw',q⟩
 by_cases h0:0<=i
 ·have hj:i.toNat=j:=by
   rw[seqIndex_of h0 h5] at h1
   exact Option.some.inj h1
  exact item_listR pl.isList h0 (by lia) (by rw[hj];simpa using ew) fin hs
 ·have hj:(i+(zC.toArray.size:Int)).toNat=j:=by
   rw[seqIndex_neg (by lia) h4] at h1
   rw[bN,<- hl]
   exact Option.some.inj h1
  exact subscriptTail_builtinR (x:=w) pl.isList.typeIs slot_list_getitem.lookup
   (wpAny_getItem_list_neg (Q:=fun r s'=>r=w/\EP X z4 σ Q r s') pl.isList (by lia) (by rw[bN]<;>lia) (by lia) (by rw[hj];simpa using ew) ⟨rfl,fin⟩) hs
theorem y8:IxR X (V8 X.K):=by
 intro value slice z4 s σ H x y v u Q I rx ry h hs
 obtain⟨p,xs,i,z,rfl,rfl,hq,he,q⟩:=h
 cases rx
 obtain⟨t,rfl⟩:=ry
 obtain⟨zC,r,pl,hz⟩:=I.tuple hq
 obtain⟨j,h1,h2,h3,h4,h5⟩:=lU he
 obtain⟨w,ew,rw'⟩:=r.get h2
 have hl:=r.length
 have hn:=vQ
 have fin:EP X z4 σ Q w s:=⟨z,H,I,rw',q⟩
 exact subscriptTail_builtinR (x:=w) pl.typeIs slot_tuple_getitem.lookup
  (getItem_tuple (j:=j) (Q:=fun r s'=>r=w/\EP X z4 σ Q r s') pl (by lia) (by lia) (by rw[bN,<- hl];exact h1) (by simpa using ew) ⟨rfl,fin⟩) hs
theorem md:IxR X rIxS:=by
 intro value slice z4 s σ H x y v u Q I rx ry h hs
 obtain⟨z,i,c,rfl,rfl,hz,he,q⟩:=h
 obtain⟨t,rfl⟩:=rx
 obtain⟨t',rfl⟩:=ry
 obtain⟨j,h1,h2,h3,h4,h5⟩:=lU he
 have hl:z.cps.toList.length=z.length:=by simp[Str.length]
 rw[hl] at h1 h4 h5
 have hn:=vQ
 exact tail_any (typeIs_str s z t) slot_str_getitem.lookup (getItem_str (c:=c) (by
  have e1:decide (i < -(2^63:Int))=false:=Pt (by lia)
  have e2:decide (i≥2^63)=false:=Pt (by lia)
  rw[e1,e2,Bool.or_false]) (by rw[h1];simpa using h2) ⟨.str ⟨#[c]⟩,H,I.tok _,⟨_,rfl⟩,q⟩) hs
noncomputable def rIx(K:AA):R2:=fun x y H Q=>Z5 K x y H Q\/V8 K x y H Q\/rIxS x y H Q
theorem Wm:IxR X (rIx X.K):=yl.or (y8.or md)
theorem gb(lo hi:Option Int)(n:Nat):(sliceBounds lo hi none n).1=((HT.sIx n 0 lo:Nat):Int)/\(sliceBounds lo hi none n).2.1=((HT.sIx n n hi:Nat):Int)/\(sliceBounds lo hi none n).2.2=1:=by
 refine⟨?_,?_,rfl⟩
 ·cases lo with
  | none=>simp[sliceBounds,HT.sIx]
  | some i=>
   simp only[sliceBounds,HT.sIx,Option.getD_none,show(1:Int) > 0 by decide,if_true]
   by_cases h:i<0
   ·simp only[h,if_true]<;>lia
   ·simp only[h,if_false]<;>lia
 ·cases hi with
  | none=>simp[sliceBounds,HT.sIx]
  | some i=>
   simp only[sliceBounds,HT.sIx,Option.getD_none,show(1:Int) > 0 by decide,if_true]
   by_cases h:i<0
   ·simp only[h,if_true]<;>lia
   ·simp only[h,if_false]<;>lia
theorem Xw(zC:AG)(lo hi:Option Int):slicePick zC.toArray lo hi none=((zC.drop (HT.sIx zC.length 0 lo)).take (HT.sIx zC.length zC.length hi-HT.sIx zC.length 0 lo)).toArray:=by
 obtain⟨h1,h2,h3⟩:=gb lo hi zC.toArray.size
 unfold slicePick
 rw[h1,h2,h3]
 simp only[sliceRange_one,pick_run,bN]<;>rfl
noncomputable def rSlL(K:AA):V->Option Int->Option Int->Hp->VK->Prop:=fun x lo hi H Q=>∃a xs,x=.ref a/\SqL K H a xs/\∀p,H p=none->Q (.ref p) (upd H p (.lst (K0 xs lo hi)))
theorem lX:SlR X (rSlL X.K):=by
 intro z4 s σ H x v vl vu lo hi sl Q I rx hs pl pu h
 obtain⟨a,xs,rfl,hx,q⟩:=h
 cases rx
 obtain⟨zC,r,ht,hz⟩:=I.list hx
 have zU:=r.length
 refine⟨"list",_,slot_list_getitem.lookup,ht.isList.typeIs,?_⟩
 refine wpAny_getItem_list_slice ht.isList hs pl pu .none (by simp) ?_ (by rw[bN]<;>lia)
 rw[Xw,<- zU]
 refine⟨.ref s.heap.objs.size,_,I.laid (t':=s.toks) (o:=.lst (K0 xs lo hi)) (fun b ob q=>bB _ q) (bG _) ?_,rfl,q _ (I.hok.fresh (bG _))⟩
 exact⟨c7 (gm xs lo hi) hz,_,0,(r.drop (HT.sIx xs.length 0 lo)).take (HT.sIx xs.length xs.length hi-HT.sIx xs.length 0 lo),bJ _ rfl⟩
noncomputable def yJ:V->Bool
 | .non=>true
 | .bl _=>true
 | .int _=>true
 | .str _=>true
 | _=>false
noncomputable def eqV:V->V->Bool
 | .non,.non=>true
 | .bl a,.bl b=>a == b
 | .bl a,.int b=>(if a then 1 else 0) == b
 | .int a,.bl b=>a == (if b then 1 else 0)
 | .int a,.int b=>a == b
 | .str a,.str b=>a == b
 | _,_=>false
theorem mY{A:Around}{s:Shared}{y x:V}{u v:Value}(ry:RelV y u)(rx:RelV x v)(fy:yJ y=true)(fx:yJ x=true):SeqAt.EqAt A s u v (eqV y x):=by
 cases y with
 | non=>
  cases ry
  cases x with
  | non=>cases rx;exact SeqAt.EqAt.same _
  | bl b=>cases rx;exact SeqAt.EqAt.none_bool b
  | int b=>obtain⟨t,rfl⟩:=rx;exact SeqAt.EqAt.none_int b t
  | str b=>obtain⟨t,rfl⟩:=rx;exact SeqAt.EqAt.none_str b t
  | _=>exact ND (show false=true from fx) bP
 | bl a=>
  cases ry
  cases x with
  | non=>cases rx;exact SeqAt.EqAt.bool_none a
  | bl b=>cases rx;exact SeqAt.EqAt.bool_bool a b
  | int b=>obtain⟨t,rfl⟩:=rx;exact SeqAt.EqAt.bool_int a b t
  | str b=>obtain⟨t,rfl⟩:=rx;exact SeqAt.EqAt.bool_str a b t
  | _=>exact ND (show false=true from fx) bP
 | int a=>
  obtain⟨t',rfl⟩:=ry
  cases x with
  | non=>cases rx;exact SeqAt.EqAt.int_none a t'
  | bl b=>cases rx;exact SeqAt.EqAt.int_bool a t' b
  | int b=>obtain⟨t,rfl⟩:=rx;exact SeqAt.EqAt.int_int a t' b t
  | str b=>obtain⟨t,rfl⟩:=rx;exact SeqAt.EqAt.int_str a t' b t
  | _=>exact ND (show false=true from fx) bP
 | str a=>
  obtain⟨t',rfl⟩:=ry
  cases x with
  | non=>cases rx;exact SeqAt.EqAt.str_none a t'
  | bl b=>cases rx;exact SeqAt.EqAt.str_bool a t' b
  | int b=>obtain⟨t,rfl⟩:=rx;exact SeqAt.EqAt.str_int a t' b t
  | str b=>obtain⟨t,rfl⟩:=rx;exact SeqAt.EqAt.str_str a t' b t
  | _=>exact ND (show false=true from fx) bP
 | _=>exact ND (show false=true from fy) bP
noncomputable def eqU(x:V)(u:Value):Bool:=match u with
 | .none=>eqV .non x
 | .bool b=>eqV (.bl b) x
 | .int i _=>eqV (.int i) x
 | .str z _=>eqV (.str z) x
 | _=>false
theorem rJ{x y:V}{u:Value}(r:RelV y u)(f:yJ y=true):eqU x u=eqV y x:=by
 cases y with
 | non=>cases r;rfl
 | bl b=>cases r;rfl
 | int i=>obtain⟨t,rfl⟩:=r;rfl
 | str z=>obtain⟨t,rfl⟩:=r;rfl
 | _=>exact ND (show false=true from f) bP
theorem uE{x:V}:∀{xs:AK}{us:AG},Vals xs us->xs.all yJ=true->us.any (eqU x)=xs.any fun y=>eqV y x
 | _,_,.nil,_=>rfl
 | y::xs,u::us,.cons r t,f=>by
  rw[fX,bX] at f
  rw[fZ,fZ,rJ r f.1,uE t f.2]
theorem vw{A:Around}{s:Shared}{x:V}{v:Value}(rx:RelV x v)(fx:yJ x=true):∀{xs:AK}{us:AG},Vals xs us->xs.all yJ=true->∀u∈us,SeqAt.EqAt A s u v (eqU x u)
 | _,_,.nil,_=>fun u hu=>by cases hu
 | y::xs,u::us,.cons r t,f=>fun u' hu=>by
  rw[fX,bX] at f
  rcases bI.mp hu with rfl|hu
  ·rw[rJ r f.1];exact mY r rx f.1 fx
  ·exact vw rx fx t f.2 u' hu
noncomputable def inV(x:V)(xs:AK):Bool:=xs.any fun y=>eqV y x
noncomputable def rIn(K:AA)(neg:Bool):R2:=fun x y H Q=>∃p xs,y=.ref p/\(SqL K H p xs\/SqT K H p xs)/\yJ x=true/\xs.all yJ=true/\Q (.bl (if neg then !inV x xs else inV x xs)) H
theorem qG:OpR X (compareOp .In) (rIn X.K false):=by
 intro z4 s σ H x y v u Q I rx ry h
 obtain⟨p,xs,rfl,hq,fx,fs,q⟩:=h
 cases ry
 rcases hq with hq|hq
 ·obtain⟨zC,r,pl,hz⟩:=I.list hq
  refine SeqAt.in_listAt (eqU x) pl.isList (fun w hw=>vw rx fx r fs w (by simpa using hw)) ⟨.bl _,H,I,rfl,?_⟩
  rw[show zC.toArray.any (eqU x)=zC.any (eqU x) by simp,uE r fs]
  exact q
 ·obtain⟨zC,r,pl,hz⟩:=I.tuple hq
  refine SeqAt.in_tupleAt (eqU x) pl (fun w hw=>vw rx fx r fs w (by simpa using hw)) ⟨.bl _,H,I,rfl,?_⟩
  rw[show zC.toArray.any (eqU x)=zC.any (eqU x) by simp,uE r fs]
  exact q
theorem sX:OpR X (compareOp .NotIn) (rIn X.K true):=by
 intro z4 s σ H x y v u Q I rx ry h
 obtain⟨p,xs,rfl,hq,fx,fs,q⟩:=h
 cases ry
 rcases hq with hq|hq
 ·obtain⟨zC,r,pl,hz⟩:=I.list hq
  refine SeqAt.notIn_listAt (eqU x) pl.isList (fun w hw=>vw rx fx r fs w (by simpa using hw)) ⟨.bl _,H,I,rfl,?_⟩
  rw[show zC.toArray.any (eqU x)=zC.any (eqU x) by simp,uE r fs]
  exact q
 ·obtain⟨zC,r,pl,hz⟩:=I.tuple hq
  refine SeqAt.notIn_tupleAt (eqU x) pl (fun w hw=>vw rx fx r fs w (by simpa using hw)) ⟨.bl _,H,I,rfl,?_⟩
  rw[show zC.toArray.any (eqU x)=zC.any (eqU x) by simp,uE r fs]
  exact q
theorem zo:yo X (.builtin "len") (fun xs H Q=>∃p ys,xs=[.ref p]/\(SqL X.K H p ys\/SqT X.K H p ys)/\Q (.int ys.length) H):=by
 intro z4 s σ H xs us Q I r h
 obtain⟨p,ys,rfl,hq,q⟩:=h
 obtain⟨u,rfl,rx⟩:=xK r
 cases rx
 have hn:=vQ
 rcases hq with hq|hq
 ·obtain⟨zC,r',pl,hz⟩:=I.list hq
  have zU:=r'.length
  exact Calls.call_len_list pl.isList (by simp only[bN]<;>lia) ⟨.int ys.length,H,I.tok _,⟨s.toks+1,by rw[bN,zU]⟩,q⟩
 ·obtain⟨zC,r',pl,hz⟩:=I.tuple hq
  have zU:=r'.length
  exact len_tuple pl (by simp only[bN]<;>lia) ⟨.int ys.length,H,I.tok _,⟨s.toks+1,by rw[bN,zU]⟩,q⟩
theorem Qt:yo X (.builtin "len") (fun xs H Q=>∃z,xs=[.str z]/\z.length<=sizeLine/\Q (.int z.length) H):=by
 intro z4 s σ H xs us Q I r h
 obtain⟨z,rfl,hz,q⟩:=h
 obtain⟨u,rfl,t,rfl⟩:=xK r
 have hn:=vQ
 exact len_str (by lia) ⟨.int z.length,H,I.tok _,⟨_,rfl⟩,q⟩
theorem oE:yo X (.type "list") (fun xs H Q=>∃p ys,xs=[.ref p]/\(SqL X.K H p ys\/SqT X.K H p ys)/\∀l,H l=none->Q (.ref l) (upd H l (.lst ys))):=by
 intro z4 s σ H xs us Q I r h
 obtain⟨p,ys,rfl,hq,q⟩:=h
 obtain⟨u,rfl,rx⟩:=xK r
 cases rx
 have fin:∀(zC:AG),Vals ys zC->ys.length<=sizeLine->∀(h':Heap) (c':Nat),(∀b o',s.heap.get? b=some o'->h'.get? b=some o')->
   h'.get? s.heap.objs.size=some { cls:=.type "list",dict:=none,data:=.seq zC.toArray c',slots:=#[] }->EP X z4 σ Q (.ref s.heap.objs.size) { s with heap:=h' }:=fun zC r' hz h' c' kp e=>
  ⟨.ref s.heap.objs.size,_,I.laid (t':=s.toks) kp (bG _) (show zv X.prog X.w _ h' _ (.lst ys) from⟨hz,zC,c',r',e⟩),rfl,q _ (I.hok.fresh (bG _))⟩
 rcases hq with hq|hq
 ·obtain⟨zC,r',pl,hz⟩:=I.list hq
  have zU:=r'.length
  obtain⟨o,ho,hc,n,hd⟩:=pl.isList
  exact call_list_seq p (.inl rfl) ho hc hd (fun h' c' kp e=>fin zC r' hz h' c' kp e) (by simp only[bN]<;>lia)
 ·obtain⟨zC,r',pl,hz⟩:=I.tuple hq
  have zU:=r'.length
  obtain⟨o,ho,hc,n,hd⟩:=pl
  exact call_list_seq p (.inr rfl) ho hc hd (fun h' c' kp e=>fin zC r' hz h' c' kp e) (by simp only[bN]<;>lia)
theorem ym:yo X (.type "tuple") (fun xs H Q=>∃p ys,xs=[.ref p]/\((SqL X.K H p ys/\∀l,H l=none->Q (.ref l) (upd H l (.tup ys)))\/(SqT X.K H p ys/\Q (.ref p) H))):=by
 intro z4 s σ H xs us Q I r h
 obtain⟨p,ys,rfl,h⟩:=h
 obtain⟨u,rfl,rx⟩:=xK r
 cases rx
 rcases h with ⟨hq,q⟩|⟨hq,q⟩
 ·obtain⟨zC,r',pl,hz⟩:=I.list hq
  have zU:=r'.length
  refine call_tuple_list pl.isList (fun h' kp=>?_) (by simp only[bN]<;>lia)
  have I1:Inv X z4 σ H { s with heap:=h' }:=I.kept (t':=s.toks) kp
  have I2:Inv X z4 σ (upd H h'.objs.size (.tup ys)) { s with heap:=h'.push { cls:=.type "tuple",data:=.seq zC.toArray } }:=
   I1.laid (t':=s.toks) (fun b o e=>bB _ e) (bG _) (show zv X.prog X.w _ _ _ (.tup ys) from⟨hz,zC,r',PlT.new _ _⟩)
  exact⟨.ref h'.objs.size,_,I2,rfl,q _ (I1.hok.fresh (bG _))⟩
 ·obtain⟨zC,r',pl,hz⟩:=I.tuple hq
  exact call_tuple_same pl ⟨.ref p,H,I,rfl,q⟩
noncomputable def tyV(K:AA)(T:String)(x:V)(H:Hp):Prop:=match x with
 | .str _=>T="str"
 | .int _=>T="int"
 | .ref p=>(T="list"/\∃xs,SqL K H p xs)\/(T="tuple"/\∃o,K.lookup p=some o/\o.cls=.type "tuple"/\o.dict=none)\/
   (T="dict"/\((∃kvs,H p=some (.dK kvs))\/∃kvs,H p=some (.dT kvs)))\/(T="set"/\∃S n,H p=some (.set S n))
 | _=>False
theorem Wk{z4:List AE}{σ:St}{H:Hp}{s:Shared}{T:String}{x:V}{v:Value}(I:Inv X z4 σ H s)(r:RelV x v)(ty:tyV X.K T x H) :
  s.TypeIs v T/\∀a,v=.ref a->∃ob,s.heap.get? a=some ob/\ob.dict=none:=by
 cases x with
 | str z=>
  obtain⟨t,rfl⟩:=r
  cases (show T="str" from ty)
  exact⟨typeIs_str s z t,fun _ e=>nomatch e⟩
 | int i=>
  obtain⟨t,rfl⟩:=r
  cases (show T="int" from ty)
  exact⟨typeIs_int s i t,fun _ e=>nomatch e⟩
 | ref p=>
  cases r
  rcases ty with ⟨rfl,xs,hq⟩|⟨rfl,o,hk,hc,hd⟩|⟨rfl,hk⟩|⟨rfl,S,n,hk⟩
  ·obtain⟨zC,_,pl,_⟩:=I.list hq
   refine⟨pl.isList.typeIs,fun a e=>?_⟩
   cases e
   obtain⟨o,n,e,c,hd,_⟩:=pl
   exact⟨o,e,hd⟩
  ·refine⟨⟨o,I.kIn p o hk,hc⟩,fun a e=>?_⟩
   cases e
   exact⟨o,I.kIn _ o hk,hd⟩
  ·have z:∃o,s.heap.get? p=some o/\o.ExactDict:=by
    rcases hk with ⟨kvs,hk⟩|⟨kvs,hk⟩
    ·obtain⟨_,_,_,_,o,_,_,e,ex,_⟩:=I.hok p _ hk
     exact⟨o,e,ex⟩
    ·obtain⟨_,_,_,_,o,_,_,e,ex,_⟩:=I.hok p _ hk
     exact⟨o,e,ex⟩
   obtain⟨o,e,ex⟩:=z
   refine⟨⟨o,e,ex.1⟩,fun a e2=>?_⟩
   cases e2
   exact⟨o,e,ex.2.1⟩
  ·obtain⟨o,_,_,_,e,ex,_⟩:=I.hok p _ hk
   refine⟨⟨o,e,ex.1⟩,fun a e2=>?_⟩
   cases e2
   exact⟨o,e,ex.2.1⟩
 | _=>exact False.elim ty
noncomputable def tBM(K:AA)(T:String)(r:V->AK->Hp->VK->Prop)(to:TE)(t:TA):TE:=fun σ H Q=>to σ H fun x H1=>tyV K T x H1/\t σ H1 fun xs H2=>r x xs H2 Q
variable{o e:Expr}{es:List Expr}{to:TE}{t:TA}{name:Str}{apos Q4:Pos}{T id:String}{r:V->AK->Hp->VK->Prop}
theorem yq(pa:PlainAttrs T)(slot:Slot T name id)(hty:typeOf (.builtin id)=pure (.type "method_descriptor"))(hm:MtR X id r)(ho:PE X o to)(ha:PA X (e::es) t)
  (Z8:attributeBase o name X.env (eval o X.env)=eval o X.env:=by rfl)
  (hfew:((backTo Q4 (starEach (e::es) X.env)).all (fun x=>!x.1) && (backToKw Q4 (keywordEach [] X.env)).all (fun x=>x.1.isSome)
   && decide ((e::es).length+([]:List Keyword).length+(if ([]:List Keyword).isEmpty then 0 else 1)<30))=true:=by rfl)
  (w06:(apos.endLine == Q4.line)=true:=by rfl) (hs:starEach (e::es) X.env=(false,eval e X.env)::starEach es X.env:=by rfl) (O7:(backTo Q4 (starEach es X.env)).any (·.1)=false:=by rfl) :
  PE X (.Call (.Attribute o name apos) (e::es) [] Q4) (tBM X.K T r to t):=by
 intro z4 s σ H Q I h
 refine wpAny_Call_method_late Z8 hfew w06 rfl (thn (ho z4 s σ H _ I h) fun v s1 hz=>?_)
 obtain⟨x,H1,I1,r1,ty,q1⟩:=hz
 obtain⟨h1,h2⟩:=Wk I1 r1 ty
 refine⟨T,id,pa,slot,hty,h1,h2,?_⟩
 have hA:=ha Q4 z4 s1 σ H1 _ I1 q1
 rw[hs] at hA ⊢
 refine Calls.callWith_builtin (by show(false || (backTo Q4 (starEach es X.env)).any (·.1))=false;rw[O7]<;>rfl) (Calls.evalArgs_plain ?_)
 exact thn hA fun us s2 ⟨vs,H2,I2,r2,q2⟩=>hm z4 s2 σ H2 x vs v us Q I2 r1 r2 q2
end
noncomputable def MtM(X:Cx)(id:String)(r:V->AK->Hp->VK->Prop):Prop:=
 ∀(z4:List AE) (s:Shared) (σ:St) (H:Hp) (x:V) (xs:AK) (v:Value) (us:AG) (Q:VK),Inv X z4 σ H s->RelV x v->Vals xs us->r x xs H Q->
  wpAny (model X.prog X.w) X.A (call (.builtin id) (v::us)) (EP X z4 σ Q) X.xe s
theorem Vals.one:∀{x:V}{us:AG},Vals [x] us->∃u,us=[u]/\RelV x u
 | _,_,.cons r .nil=>⟨_,rfl,r⟩
theorem Vals.dropLast{xs:AK}{us:AG}(h:Vals xs us):Vals xs.dropLast us.dropLast:=by
 induction h with
 | nil=>exact .nil
 | cons r t ih=>
  cases t with
  | nil=>exact .nil
  | cons q t'=>exact .cons r ih
theorem Vals.rep{xs:AK}{us:AG}(h:Vals xs us):∀k:Nat,Vals (List.replicate k xs).flatten (List.replicate k us).flatten
 | 0=>.nil
 | k+1=>by
  rw[dY,dY,hV,hV]
  exact Vals.append h (Vals.rep h k)
theorem Xn(zC:AG):∀(k:Nat) (zK:AG),
  List.foldl (fun x1 x2=>x1++x2) zK.toArray (List.replicate k zC.toArray)=(zK++(List.replicate k zC).flatten).toArray
 | 0,zK=>by simp
 | k+1,zK=>by
  have e:zK.toArray++zC.toArray=(zK++zC).toArray:=by simp
  have e2:(zK++zC)++(List.replicate k zC).flatten=zK++(List.replicate (k+1) zC).flatten:=by
   rw[dY,hV,eB]
  rw[<- e2,<- Xn zC k (zK++zC),<- e,dY,dI]
section
variable{X:Cx}{z4:List AE}{σ:St}{H:Hp}{s:Shared}{l b:Addr}{xs ys zs:AK}
theorem Inv.lset{zC its':AG}{n:Nat}{f:AI->AI}{t':Nat}(I:Inv X z4 σ H s)(hH:H l=some (.lst xs))
  (e:s.heap.get? l=some { cls:=.type "list",data:=.seq zC.toArray n }) (hf:f zC.toArray=its'.toArray) (hv:Vals ys its') (hz:ys.length<=sizeLine) :
  Inv X z4 σ (upd H l (.lst ys)) { s with heap:=s.heap.update l (Obj.mapSeq f),toks:=t' }:=by
 have q:=PySem.IsL.update e f
 rw[hf] at q
 refine I.write (x:=l) (e:=l) (by rw[hH];exact trivial) (.inl rfl) (fun b' u hb hu=>(cZ s.heap (Obj.mapSeq f) (eQ hb)).trans hu) ⟨_,q⟩ ?_
 exact⟨hz,its',_,hv,q⟩
theorem Inv.lnew{zC:AG}{t':Nat}(I:Inv X z4 σ H s)(hv:Vals ys zC)(hz:ys.length<=sizeLine) :
  Inv X z4 σ (upd H s.heap.objs.size (.lst ys)) { s with heap:=s.heap.push { cls:=.type "list",data:=.seq zC.toArray },toks:=t' }:=
 I.laid (fun _ _ q=>bB _ q) (bG _) ⟨hz,zC,0,hv,bJ _ rfl⟩
theorem Inv.fresh(I:Inv X z4 σ H s):H s.heap.objs.size=none:=I.hok.fresh (bG _)
theorem Inv.T2(I:Inv X z4 σ H s)(hH:H l=some (.lst xs)):xs.length<=sizeLine/\∃(zC:AG) (n:Nat),Vals xs zC/\xs.length=zC.length/\s.heap.get? l=some { cls:=.type "list",data:=.seq zC.toArray n }:=by
 obtain⟨z,zC,n,r,e⟩:=I.hok l _ hH
 exact⟨z,zC,n,r,r.length,e⟩
theorem YE{n:Nat}(h:n<=sizeLine):Builtin.List.listTooLong n=false:=by
 unfold Builtin.List.listTooLong
 exact Pt (by lia)
end
section
variable{X:Cx}
noncomputable def UA:V->AK->Hp->VK->Prop:=fun x vs H Q=>∃l xs y,x=.ref l/\vs=[y]/\H l=some (.lst xs)/\xs.length<sizeLine/\Q .non (upd H l (.lst (xs++[y])))
theorem xP:MtM X "list.append" UA:=by
 intro z4 s σ H x vs v us Q I rx rv h
 obtain⟨l,xs,y,rfl,rfl,hH,hz,q⟩:=h
 cases rx
 obtain⟨u,rfl,ru⟩:=rv.one
 obtain⟨z,zC,n,r,hl,e⟩:=I.T2 hH
 refine Ov F.slot_list_append ⟨_,e,rfl⟩ F.entry_list_append (F.args_list_append_2 _ _) (PySem.list_append l zC.toArray n u (by rw[bN];lia)) ⟨e,?_⟩
 refine⟨.non,_,I.lset (its':=zC++[u]) hH e (by simp) (r.append (.cons ru .nil)) ?_,rfl,q⟩
 rw[bF,cP]
 lia
noncomputable def Ug:V->AK->Hp->VK->Prop:=fun x vs H Q=>∃l b xs zs,x=.ref l/\vs=[.ref b]/\H l=some (.lst xs)/\H b=some (.lst zs)/\xs.length+zs.length<=sizeLine/\Q .non (upd H l (.lst (xs++zs)))
theorem SD:MtM X "list.extend" Ug:=by
 intro z4 s σ H x vs v us Q I rx rv h
 obtain⟨l,b,xs,zs,rfl,rfl,hH,hB,hz,q⟩:=h
 cases rx
 obtain⟨u,rfl,ru⟩:=rv.one
 cases ru
 obtain⟨z,zC,n,r,hl,e⟩:=I.T2 hH
 obtain⟨z2,K3,n2,r2,hl2,e2⟩:=I.T2 hB
 have hsz:zC.toArray.size+K3.toArray.size<=sizeLine:=by rw[bN,bN];lia
 have V0:¬(!zC.toArray.isEmpty && Builtin.List.listTooLong (zC.toArray.size+K3.toArray.size))=true:=by
  rw[YE hsz,j6]
  exact bP
 refine Ov F.slot_list_extend ⟨_,e,rfl⟩ F.entry_list_extend (F.args_list_extend_2 _ _)
  (AutoSeq1.list_extend_list_list_0 l zC.toArray n b K3.toArray n2 V0 (by rw[bN];lia) (by lia)) ⟨e,e2,?_⟩
 refine⟨.non,_,I.lset (its':=zC++K3) hH e (by simp) (r.append r2) ?_,rfl,q⟩
 rw[bF]
 lia
noncomputable def rCat:R2:=fun x y H Q=>∃l b xs zs,x=.ref l/\y=.ref b/\H l=some (.lst xs)/\H b=some (.lst zs)/\xs.length+zs.length<=sizeLine/\∀p,H p=none->Q (.ref p) (upd H p (.lst (xs++zs)))
theorem ao:OpR X (binaryOp .Add) rCat:=by
 intro z4 s σ H x y v u Q I rx ry h
 obtain⟨l,b,xs,zs,rfl,rfl,hH,hB,hz,q⟩:=h
 cases rx
 cases ry
 obtain⟨z,zC,n,r,hl,e⟩:=I.T2 hH
 obtain⟨z2,K3,n2,r2,hl2,e2⟩:=I.T2 hB
 refine PySem.P.add_list e e2 ?_ (by rw[bN,bN];lia)
 have ea:zC.toArray++K3.toArray=(zC++K3).toArray:=by simp
 rw[ea]
 exact⟨.ref _,_,I.lnew (t':=s.toks) (r.append r2) (by rw[bF];lia),rfl,q _ I.fresh⟩
noncomputable def rRep:R2:=fun x y H Q=>∃l k xs,x=.ref l/\y=.int k/\H l=some (.lst xs)/\-(2^63)<=k/\k<2^63/\xs.length*k.toNat<=sizeLine/\
 ∀p,H p=none->Q (.ref p) (upd H p (.lst (List.replicate k.toNat xs).flatten))
theorem Vh{α:Type}(xs:List α)(k:Nat):(List.replicate k xs).flatten.length=k*xs.length:=by
 induction k with
 | zero=>simp
 | succ k ih=>rw[dY,hV,bF,ih,kQ,Nat.add_comm]
theorem mV:OpR X (binaryOp .Mult) rRep:=by
 intro z4 s σ H x y v u Q I rx ry h
 obtain⟨l,k,xs,rfl,rfl,hH,h1,h2,hz,q⟩:=h
 cases rx
 obtain⟨t,rfl⟩:=ry
 obtain⟨z,zC,n,r,hl,e⟩:=I.T2 hH
 have zU:zC.toArray.size*k.toNat<=sizeLine:=by rw[bN,<- hl];exact hz
 have hcap:¬zC.toArray.size*k.toNat > (2^63-1) / 8:=by
  have:(sizeLine:Nat)<=(2^63-1) / 8:=by decide
  lia
 have hfit:¬(!Builtin.List.listFitsIndex k)=true:=by
  rw[fitsIndex_both h1 h2]
  exact bP
 have V0:¬Builtin.List.listTooLong (zC.toArray.size*k.toNat)=true:=by
  rw[YE zU]
  exact bP
 have T7:List.foldl (fun x1 x2=>x1++x2) #[] (List.replicate (if zC.toArray.isEmpty=true then 0 else k.toNat) zC.toArray)=(List.replicate k.toNat zC).flatten.toArray:=by
  have f0:∀m:Nat,List.foldl (fun x1 x2=>x1++x2) #[] (List.replicate m zC.toArray)=(List.replicate m zC).flatten.toArray:=fun m=>by
   have:=Xn zC m []
   rw[List.nil_append] at this
   exact this
  rw[f0]
  cases zC with
  | nil=>simp
  | cons a r'=>rw[Pn (by simp)]
 refine wpAny_binaryOp_repeat_ref (T:="list") (U:="int") (by decide) ⟨_,e,rfl⟩ (fun s'=>typeIs_int s' k t) noFill_list_mul F.fills_int_mul F.slot_int_rmul repeat_list F.slot_int_index.lookup
  (Ov F.slot_int_rmul (typeIs_int s k t) F.entry_int_rmul (F.args_int_rmul_2 _ _) (int___rmul___int_list k t l zC.toArray n)
   ⟨e,rfl,⟨_,e,rfl⟩,Ov F.slot_list_mul ⟨_,e,rfl⟩ F.entry_list_mul (F.args_list_mul_2 _ _) (AutoListH.list___mul___list_int_3 l zC.toArray n k t hfit hcap V0) ⟨e,?_⟩⟩)
 rw[T7]
 exact⟨.ref _,_,I.lnew (t':=s.toks) (r.rep k.toNat) (by rw[Vh,j7];exact hz),rfl,q _ I.fresh⟩
end
section
variable{prog:Program}{w:World}{A:Around}{E:AB}{s:Shared}
end
section
variable{X:Cx}
end
end L2
namespace Att
open PySem PySem.W PySem.Calls PyProof.Rows
theorem WH{P:Params}{h:Heap}:∀(ns:AJ) (vs:AG),WellAll P h vs (ns.map WData.int)->IntsAre vs ns:=by
 intro ns
 induction ns with
 | nil=>
  intro vs w
  rw[List.map_nil] at w
  cases w
  exact .nil
 | cons n ns ih=>
  intro vs w
  rw[cJ] at w
  cases w with
  | cons a b=>
   cases a
   exact .cons _ _ (ih _ b)
theorem SR{l:OpenLaw}{n:Nat}(hn:l.most=some n){P:Params}{h:Heap}{args:List WData}{vals:AG}
  (V4:l.row.toRowW.claim.pre args=true) (hwl:WellAll P h vals args) :
  ∃a vs ns,vals=[Value.ref a]/\args=[WData.list (ns.map WData.int)]/\h.get? a=some { cls:=.type "list",data:=.seq vs.toArray }/\IntsAre vs ns/\ns.length<=n:=by
 have hsh:WShape.hasAll [] args [.list .int]=true:=(pre_splitW V4).1
 have hc:l.pre.holds [] { args:=args }=true:=(pre_splitW V4).2
 obtain⟨d,r,rfl,h1,h2⟩:=hasAllW_cons hsh
 obtain rfl:=hasAllW_nil h2
 obtain⟨xs,rfl,h3⟩:=hasW_list h1
 obtain⟨ns,rfl⟩:=items_int h3
 have zU:ns.length<=n:=by
  unfold OpenLaw.pre at hc
  have h4:(WTm.not (.lt (.lit (.int (n:Int))) (.len (.arg 0)))).holds [] { args:=[.list (ns.map .int)] }=true:=by
   have h4:=(holds_andW hc).1
   rw[hn] at h4
   exact h4
  have h5:=condW_of h4 (w_not (w_lt w_lit (w_len_list (w_arg rfl))))
  rw[bA] at h5
  refine lI fun q=>?_
  have q':(n:Int)<((ns.length:Nat):Int):=by lia
  first
   | (rw[Pq q'] at h5;exact ND h5 (by decide))
   | (simp at h5;lia)
 cases hwl with
 | cons w1 w2=>
  cases w2
  cases w1 with
  | list ho D4=>exact⟨_,_,ns,rfl,rfl,ho,WH ns _ D4,zU⟩
theorem RU(l:OpenLaw)(args:List WData):l.row.toRowW.claim.post args (.bool true) args=true:=
 postW_of (r:=l.row.toRowW) (X:=(true == true))
  (show WShape.has [] (.bool true) .bool=true by first|rfl|decide|simp[WShape.has,WShape.arms,WShape.armsAll])
  (show(WTm.eq .res (.lit (.bool true))).value [] { args:=args,res:=some (.bool true),after:=args }=some (.bool (true == true)) from w_eq_bool (w_res rfl) w_lit) rfl
theorem Qh{l:OpenLaw}{n:Nat}{q:Program}{loose:AF}{XP:(Str->AH)->Heap->Prop}{YP:World->Heap->Prop}{d:DefRec}
  (hn:l.most=some n) (hdf:d.params.defaults=[])
  (call:∀(w:World) (s₀ s₁:Shared) (mg mb:Str->AH) (fa:Addr) (o:Obj) (pm cd doc:Value) (a:Addr) (vs:AG) (ns:AJ),
   Ground q loose [] XP w s₀ mg mb s₁.heap->YP w s₁.heap->
   s₁.heap.get? fa=some o->o.data=.func (docDef d.name d.params d.body d.scope pm cd doc)->s₁.heap.CodeRec cd d.name->mg d.name=some (.ref fa)->
   s₁.heap.get? a=some { cls:=.type "list",data:=.seq vs.toArray }->IntsAre vs ns->ns.length<=n->s₁.gens=#[]->
   codeAny (model l.prog w) callerA (.call (.ref fa) ⟨[.ref a],[]⟩) (fun r s'=>r=.ok (.ret (.bool true))/\OldK s₁.heap s'.heap/\s'.os=s₁.os/\AllBare s'.gens) s₁) :
  WalkO q loose XP YP l.row.toRowW d [] (fun f vs=>PySem.call f vs):=by
 intro w s₀ s₁ mg mb G Y fa o pm cd doc dV kV ho hd hcd hD hmg hg args vals as V4 hlay hrd hwl hlo
 obtain rfl:dV=.none:=Dflts.none hD hdf
 obtain rfl:kV=.none:=Dflts.noKw hD
 obtain⟨a,vs,ns,rfl,rfl,hobj,hints,zU⟩:=SR hn V4 hwl
 refine enter_call (OR (call w s₀ s₁ mg mb fa o pm cd doc a vs ns G Y ho (fd_plain hd) hcd hmg hobj hints zU hg) fun r s' hq=>?_)
 obtain⟨rfl,h2,h3,h4⟩:=hq
 exact⟨.inl ⟨.bool true,.bool true,[],rfl,fun _=>rfl,.bool true,RU l _,fun _=>⟨List.Pairwise.nil,fun _ hm=>(nomatch hm)⟩⟩,h2,h3,h4⟩
section
variable{prog:Program}{w:World}{A:Around}{E:AB}{s:Shared}{K:Frag}
end
end Att
namespace L2
open PySem PySem.Spec PyProof.Rows
theorem tm:∀{vs:AG}{ns:AJ},IntsAre vs ns->Vals (ns.map V.int) vs
 | _,_,.nil=>.nil
 | _,_,.cons n t h=>.cons ⟨t,rfl⟩ (tm h)
noncomputable def X2(H:Hp):Prop:=∀b,H b=none\/∃o xs,H b=some (.frz o (.lst xs))
theorem Ul{P:Program}{w:World}{K:AA}{mg mb:Str->AH}{CX:CXT}{k:Nat}{fa a:Addr}{fd:FuncData}{x:Str}{sp:Sp}{s₁:Shared}{vs:AG}{ns:AJ}
  (KX:K.In s₁.heap) (hns:s₁.heap.Ns mainGlobals mg) (hb:s₁.heap.Ns builtinsNs mb) (hbb:∀x:Str,x≠"__name__"->mb x=bootBuiltins x) (hlim:s₁.heap.NoLimit) (hg:s₁.gens=#[])
  (ha:s₁.heap.get? a=some { cls:=.type "list",data:=.seq vs.toArray }) (hi:IntsAre vs ns) (hl:ns.length<=sizeLine) (hr:D9 k callerA)
  (F:∀base:Heap,K.In base->base.Ns mainGlobals mg->B2 P w K mg base CX k fa fd [x] sp) (w0d:∀(s:Shared) (u:Value),BindsTo s fd ⟨[u],[]⟩ [(x,u)])
  (hsp:∀H:Hp,X2 H->SqL K H a (ns.map V.int)->sp [.ref a] H (fun v _=>v=.bl true) fun _ _ _=>False)
  (hCX:∀H e s',CX [] H s₁ (fun _ _ _=>False) e s'->False) :
  codeAny (model P w) callerA (.call (.ref fa) ⟨[.ref a],[]⟩) (fun r s'=>r=.ok (.ret (.bool true))/\OldK s₁.heap s'.heap/\s'.os=s₁.os/\AllBare s'.gens) s₁:=by
 have rv:=tm hi
 have lenV:=hi.length
 have core:∀H:Hp,X2 H->SqL K H a (ns.map V.int)->HOk P w H s₁.heap->(∀b,H b≠none->b=a)->(H a≠none->K.lookup a=none)->
   codeAny (model P w) callerA (.call (.ref fa) ⟨[.ref a],[]⟩) (fun r s'=>r=.ok (.ret (.bool true))/\OldK s₁.heap s'.heap/\s'.os=s₁.os/\AllBare s'.gens) s₁:=by
  intro H hO hS hok hA hK
  have S5:∀{b:Addr}{o:Obj},s₁.heap.get? b=some o->H b=none->(P6 s₁.heap H).get? b=some o:=fun e n=>UT e n
  have noA:∀{b:Addr}{o:Obj}{es:Array DictEntry}{ep:Nat},s₁.heap.get? b=some o->o.data=.dict es ep->H b=none:=fun {b o es ep} e d=>by
   cases q:H b with
   | none=>rfl
   | some u=>
    have e':b=a:=hA b (by rw[q];simp)
    subst e'
    rw[ha] at e;cases e
    have d':Data.seq vs.toArray _=Data.dict es ep:=d
    cases d'
  have nsK:∀{b:Addr}{m:Str->AH},s₁.heap.Ns b m->(P6 s₁.heap H).Ns b m:=fun {b m} ⟨o,es,ep,e,d,r⟩=>⟨o,es,ep,S5 e (noA e d),d,r⟩
  have hKb:K.In (P6 s₁.heap H):=fun b o e=>S5 (KX b o e) (by
   cases q:H b with
   | none=>rfl
   | some u=>
    have e':b=a:=hA b (by rw[q];simp)
    subst e'
    rw[hK (by rw[q];simp)] at e;cases e)
  have hM:Mod K mg (P6 s₁.heap H):=⟨hKb,nsK hns,⟨mb,nsK hb,hbb⟩,let ⟨mc,h1,h2⟩:=hlim;⟨mc,nsK h1,h2⟩⟩
  have e0:S1 P w K mg (P6 s₁.heap H) callerA [] s₁ H:=⟨rfl,hM,fun b o e=>UD e,Nat.le_of_eq (RN _ _),trivial,fun b hb=>ND (show b∈([]:List Addr) from hb) (by simp),hok,.of_eq hg⟩
  refine OR ((F _ hKb (nsK hns)).run callerA [] s₁ H ⟨[.ref a],[]⟩ [.ref a] [.ref a] _ _ hr e0 (w0d s₁ (.ref a)) (.cons rfl .nil) (hsp H hO hS)) fun r s' h=>?_
  cases r with
  | error e=>exact(hCX H e s' h).elim
  | ok fl=>
   cases fl with
   | next=>exact False.elim h
   | brk=>exact False.elim h
   | cont=>exact False.elim h
   | ret u=>
    obtain⟨v,H',os,bare,un,hok',r',q⟩:=h
    have q':v=.bl true:=q
    subst q'
    obtain rfl:u=Value.bool true:=r'
    refine⟨rfl,OldK.of_keep fun b o e=>?_,os,bare⟩
    cases q:H b with
    | none=>exact un.keep b o e q (by intro z;exact ND (show b∈([]:List Addr) from z) (by simp)) (by simp)
    | some u=>
     rcases hO b with z|⟨ob,xs,z⟩
     ·rw[q] at z;cases z
     ·have z2:=un.P5 b ob _ z
      obtain⟨e1,_⟩:=hok b _ z
      obtain⟨e2,_⟩:=hok' b _ z2
      rw[e] at e1;cases e1
      exact e2
 cases hk:K.lookup a with
 | some o=>
  have e:=KX a o hk
  rw[ha] at e
  cases e
  refine core (fun _=>none) (fun _=>.inl rfl) (.inr ⟨_,vs.toArray,_,hk,rfl,rfl,rfl,by rw[bN,lenV];exact hl,by simpa using rv⟩) (fun b u z=>by have z':(none:Option HO)=some u:=z;cases z') (fun b z=>ND rfl z) fun z=>ND rfl z
 | none=>
  refine core (fun b=>if b=a then some (.frz { cls:=.type "list",data:=.seq vs.toArray } (.lst (ns.map V.int))) else none) (fun b=>?_) (.inl (.inr ⟨{ cls:=.type "list",data:=.seq vs.toArray },Po rfl⟩)) (fun b u z=>?_) (fun b z=>?_) fun _=>hk
  ·by_cases hb:b=a
   ·exact .inr ⟨_,_,Po hb⟩
   ·exact .inl (Pn hb)
  ·by_cases hb:b=a
   ·have z':=(Po hb).symm.trans z
    cases z'
    subst hb
    exact⟨ha,by rw[bA];exact hl,vs,_,rv,ha⟩
   ·have z':=(Pn hb).symm.trans z
    cases z'
  ·by_cases hb:b=a
   ·exact hb
   ·exact ND (Pn hb) z
theorem Vx{l:PySem.W.OpenLaw}{n k:Nat}{q:Program}{loose:AF}{XP:(Str->AH)->Heap->Prop}{YP:World->Heap->Prop}{d:DefRec}{K:Params->AA}{CX:World->CXT}{sp:World->Sp}{x:Str}
  (hn:l.most=some n) (hn2:n<=sizeLine) (hdf:d.params.defaults=[]) (hr:D9 k callerA)
  (hY:∀(w:World) (h:Heap),YP w h->(K w.params).In h)
  (F:∀(w:World) (mg:Str->AH) (fa:Addr) (h:Heap),(K w.params).In h->h.Ns mainGlobals mg->mg d.name=some (.ref fa)->
   ∃fd:FuncData,(∀(s:Shared) (u:Value),BindsTo s fd ⟨[u],[]⟩ [(x,u)])/\
    ∀base:Heap,(K w.params).In base->base.Ns mainGlobals mg->B2 l.prog w (K w.params) mg base (CX w) k fa fd [x] (sp w))
  (hsp:∀(w:World) (H:Hp) (a:Addr) (ns:AJ),ns.length<=n->X2 H->SqL (K w.params) H a (ns.map V.int)->sp w [.ref a] H (fun v _=>v=.bl true) fun _ _ _=>False)
  (hCX:∀(w:World) (H:Hp) (s:Shared) (e:Value) (s':Shared),CX w [] H s (fun _ _ _=>False) e s'->False) :
  PySem.W.WalkO q loose XP YP l.row.toRowW d [] (fun f vs=>PySem.call f vs):=by
 refine Att.Qh hn hdf fun w s₀ s₁ mg mb fa o pm cd doc a vs ns G Y ho hd hcd hmg hobj hints zU hg=>?_
 have KX:=hY w _ Y
 obtain⟨fd,hb,hF⟩:=F w mg fa _ KX G.T.g hmg
 exact Ul KX G.T.g G.T.b G.T.builtins G.T.nolimit hg hobj hints (c7 zU hn2) hr hF hb (fun H hO hS=>hsp w H a ns zU hO hS) fun H e s'=>hCX w H s₁ e s'
def yk(s:Stmt)(j:Nat):Stmt:=match s with
 | .ClassDef _ _ _ body _ _ _ _ _ _ _=>body.getD j (.Pass ⟨0,0,0,0⟩)
 | _=>.Pass ⟨0,0,0,0⟩
noncomputable def xE(s:Stmt):Arguments:=match s with
 | .FunctionDef _ a _ _ _ _ _ _ _ _=>a
 | _=>{ posonlyargs:=[],args:=[],vararg:=none,kwonlyargs:=[],kw_defaults:=[],kwarg:=none,defaults:=[] }
noncomputable def yp(s:Stmt):List Stmt:=match s with
 | .FunctionDef _ _ b _ _ _ _ _ _ _=>b
 | _=>[]
noncomputable def zT(s:Stmt):Scope:=match s with
 | .FunctionDef _ _ _ _ _ _ sc _ _ _=>sc
 | _=>{ kind:=.function,names:=[],isGenerator:=false,isCoroutine:=false }
abbrev CX0:CXT:=fun _ _ _ _ _ _=>False
abbrev E0:XK:=fun _ _ _=>False
theorem rC{X:Cx}:vS CX0 X E0:=fun _ _ _ _ _ _ _ h=>h.elim
structure Fun(K:AA)(x qual:Str)(st:Stmt)(f:Addr)(fd:FuncData):Prop where
 ex:∃(oc:Value) (od:Option Addr) (kV doc pm:Value) (an:Option Addr) (zO ct:Value) (osl:Array (AH)),
  fd=PySem.W.fnOf x qual (xE st) (yp st) (zT st) .none kV doc pm an zO ct/\K.lookup f=some ⟨oc,od,.func fd,osl⟩/\PySem.W.codeIn K zO qual=true
 kp:PySem.W.keepIn K (.ref f)=true
section
variable{P:Program}{w:World}{K:AA}{mg:Str->AH}{base:Heap}
theorem Fun.ok{x qual:Str}{st:Stmt}{f:Addr}{fd:FuncData}{N ps:AF}{k:Nat}{sp:Sp}(F:Fun K x qual st f fd)(S:A9 N ps (zT st))(len:∀vs H Q E,sp vs H Q E->vs.length=ps.length)
  (R4:∀(zO:Value) (A:Around) (outer:List Env) (s:Shared) (H:Hp) (vs:AK) (Q:VK) (E:XK),D9 k (A.deeper (envOfC qual (zT st) s.heap.objs.size f zO))->sp vs H Q E->
   ∃t,PSs (R7 CX0 P w K mg base N qual (zT st) f zO A outer s H E).nox (yp st) t/\t { nx:=fun _ H'=>Q .non H',rt:=Q } (xS N vs) H):B2 P w K mg base CX0 (k+1) f fd ps sp:=by
 obtain⟨oc,od,kV,doc,pm,an,zO,ct,osl,rfl,lk,hcd⟩:=F.ex
 refine aQ lk hcd S len fun A outer s H vs Q E hr hsp=>?_
 obtain⟨t,h,q⟩:=R4 zO A outer s H vs Q E hr hsp
 exact⟨t,h.nox,q⟩
theorem Fun.binds{x qual:Str}{st:Stmt}{f:Addr}{fd:FuncData}{ps:AF}(F:Fun K x qual st f fd)
  (h:∀(kV doc pm:Value) (an:Option Addr) (zO ct:Value) (us:AG),us.length=ps.length->bindArgs (PySem.W.fnOf x qual (xE st) (yp st) (zT st) .none kV doc pm an zO ct) ⟨us,[]⟩=pure (ps.zip us)):yK K fd ps []:=by
 obtain⟨oc,od,kV,doc,pm,an,zO,ct,osl,rfl,lk,hcd⟩:=F.ex
 exact .all (h kV doc pm an zO ct)
theorem WW{x qual:Str}{st:Stmt}{f:Addr}{oc:Value}{od an:Option Addr}{osl:Array (AH)}{kV doc pm zO ct:Value}(l:K.lookup f=some ⟨oc,od,.func (PySem.W.fnOf x qual (xE st) (yp st) (zT st) .none kV doc pm an zO ct),osl⟩)
  (c:PySem.W.codeIn K zO qual=true) (k:PySem.W.keepIn K (.ref f)=true):Fun K x qual st f (PySem.W.fnOf x qual (xE st) (yp st) (zT st) .none kV doc pm an zO ct):=⟨⟨oc,od,kV,doc,pm,an,zO,ct,osl,rfl,l,c⟩,k⟩
end
theorem vN{A:Around}{k:Nat}(hr:D9 k A):A.units+1<cLine:=d8 (dZ (by decide:1<=64) _) hr.units
theorem zp{n:Nat}(h:n<=1000):n<sizeLine:=d8 h (by decide)
section
variable{X:Cx}
theorem pv(i:Nat){x:Str}{pos:Pos}(hN:X.N[i]? = some x:=by rfl)(hv:Vis X.env.scope x:=by first|exact NC rfl|exact Or.inr (NC rfl)|exact Or.inr (Or.inr rfl))(hd:(x == ("__debug__":Str))=false:=by decide)
  (hcd:(x == ("__classdict__":Str))=false:=by decide):PE X (.Name x pos) (T8 i):=Wb hN hv hd hcd
end
theorem C1{A B:Prop}(h:B):if false=true then A else B:=by
 rw[Pn bP]
 exact h
theorem F3{A B:Prop}(h:A):if true=true then A else B:=by
 rw[Po rfl]
 exact h
theorem C0{c A B:Prop}[Decidable c](h1:c->A)(h2:¬c->B):if c then A else B:=by
 by_cases h:c
 ·rw[Po h]
  exact h1 h
 ·rw[Pn h]
  exact h2 h
theorem aD{c A B:Prop}[Decidable c](hc:c)(h:B):if (!decide c)=true then A else B:=by
 rw[Pq hc]
 exact C1 h
noncomputable def B0(H H':Hp):Prop:=∀b o,H b=some o->H' b=some o
theorem B0.refl(H:Hp):B0 H H:=fun _ _ h=>h
theorem B0.trans{H H1 H2:Hp}(a:B0 H H1)(b:B0 H1 H2):B0 H H2:=fun c o h=>b c o (a c o h)
theorem B0.free{H H':Hp}(e:B0 H H'){l:Addr}(h:H' l=Option.none):H l=Option.none:=by
 cases q:H l with
 | none=>rfl
 | some o=>
  rw[e l o q] at h
  cases h
theorem B0.seq{K:AA}{H H':Hp}{a:Addr}{xs:AK}(e:B0 H H')(h:SqL K H a xs):SqL K H' a xs:=by
 rcases h with (h|⟨o,h⟩)|h
 ·exact .inl (.inl (e _ _ h))
 ·exact .inl (.inr ⟨o,e _ _ h⟩)
 ·exact .inr h
abbrev noE:AB:=fun _ _=>False
theorem Qg{prog:Program}{w:World}{A:Around}{R:Result->Shared->Prop}{s:Shared}{elt target iter:Expr}{ifs:List Expr}{scope:Scope}{pos:Pos}{it zK:Value}{env:Env}(I:Nat->Shared->Prop)
  (turn:∀n s,I n s->wpAny (model prog w) A (pyNext it) (fun r s1=>match r with
   | none=>R (.ok .next) s1
   | some v=>wpAny (model prog w) A (letOwnedTupleGo target it v) (fun _ s0=>wpAny (model prog w) A (assign target env v) (fun _ s2=>
     wpAny (model prog w) A (forIn ifs true fun c r=>if r=true then do let ok <- isTrue c env (eval c env);pure (ForInStep.yield ok) else pure (ForInStep.yield r)) (fun ok s3=>
      if ok=true then wpAny (model prog w) A (eval elt env) (fun x s4=>
       wpAny (model prog w) A (call (.builtin "list.append") [zK,x]) (fun _ s5=>∃m,m<n/\I m s5) noE s4) noE s3
      else ∃m,m<n/\I m s3) noE s2) noE s0) noE s1) noE s)
  (n:Nat) (h:I n s):codeAny (model prog w) A (.compLoop (.ListComp elt [⟨target,iter,ifs,0⟩] scope pos) 0 it zK env) R s:=by
 refine codeAny_loop rfl I (fun n s hI=>?_) n h
 show wpAny _ A ((compTurn (.ListComp elt [⟨target,iter,ifs,0⟩] scope pos) 0 it zK env).onRaise (fun x=>do noteFrame x env;theTreesLotGoes x)) _ _ s
 refine wpAny_noted ?_
 rw[compTurn_list]
 refine Pl (Oy (Pl (OF (turn n s hI) (fun r s1 h1=>?_) fun _ _ z=>False.elim z)))
 cases r with
 | none=>exact Pm h1
 | some v=>
  refine Pl (OF h1 (fun _ s0 h0=>?_) fun _ _ z=>False.elim z)
  refine Pl (OF h0 (fun _ s2 h2=>Pl (OF h2 (fun ok s3 h3=>?_) fun _ _ z=>False.elim z)) fun _ _ z=>False.elim z)
  cases ok with
  | false=>exact Pm ⟨rfl,h3⟩
  | true=>
   exact Pl (Pl (OF h3 (fun x s4 h4=>Pl (OF h4 (fun _ s5 h5=>Pm (Pm ⟨rfl,h5⟩)) fun _ _ z=>False.elim z)) fun _ _ z=>False.elim z))
noncomputable def wC(cells:List (Str×Addr)):List (Str×NameKind)->List (Str×Addr)->Option (List (Str×Addr))
 | [],zK=>some zK
 | (n,k)::r,zK=>if k == .free then (match cells.lookup n with
   | some a=>wC cells r ((n,a)::zK)
   | none=>none) else wC cells r zK
theorem qW{env:Env}:∀(names:List (Str×NameKind)) (zK cl:List (Str×Addr)),wC env.cells names zK=some cl->
  (forIn names zK fun(x:Str×NameKind) (cs:List (Str×Addr))=>match x with
   | (name,kind)=>if (kind == NameKind.free)=true then do let c <- cellOf env name;pure (ForInStep.yield ((name,c)::cs)) else pure (ForInStep.yield cs):Sem (List (Str×Addr)))=pure cl
 | [],zK,cl,h=>by
  have h':zK=cl:=Option.some.inj h
  subst h'
  rfl
 | (n,k)::r,zK,cl,h=>by
  rw[kR]
  unfold wC at h
  by_cases hk:(k == NameKind.free)=true
  ·rw[Po hk] at h
   cases e:env.cells.lookup n with
   | none=>rw[e] at h;cases h
   | some a=>
    rw[e] at h
    have ih:=qW r ((n,a)::zK) cl h
    have hc:cellOf env n=pure a:=by unfold cellOf;rw[e]
    dsimp only
    rw[Po hk,hc]
    simpa using ih
  ·rw[Pn hk] at h
   have ih:=qW r zK cl h
   dsimp only
   rw[Pn hk]
   simpa using ih
theorem ia{scope:Scope}{env:Env}{cl:List (Str×Addr)}(h:wC env.cells scope.names []=some cl):closureFor scope env=pure cl:=by
 have q:=qW (env:=env) scope.names [] cl h
 unfold closureFor
 simpa using q
theorem qO{cells:List (Str×Addr)}:∀{names:List (Str×NameKind)}{zK cl:List (Str×Addr)},wC cells names zK=some cl->
  (∀x c,zK.lookup x=some c->cells.lookup x=some c)->∀x c,cl.lookup x=some c->cells.lookup x=some c
 | [],zK,cl,h,ha,x,c,e=>by
  have h':zK=cl:=Option.some.inj h
  subst h'
  exact ha x c e
 | (n,k)::r,zK,cl,h,ha,x,c,e=>by
  unfold wC at h
  by_cases hk:(k == NameKind.free)=true
  ·rw[Po hk] at h
   cases q:cells.lookup n with
   | none=>rw[q] at h;cases h
   | some a=>
    rw[q] at h
    refine qO (names:=r) (zK:=(n,a)::zK) h (fun y d z=>?_) x c e
    rw[kG] at z
    cases hy:y == n with
    | true=>
     rw[hy] at z
     have z':a=d:=Option.some.inj z
     rw[<- z',beq_iff_eq.mp hy]
     exact q
    | false=>
     rw[hy] at z
     exact ha y d z
  ·rw[Pn hk] at h
   exact qO (names:=r) (zK:=zK) h ha x c e
theorem tX{cells:List (Str×Addr)}:∀{names:List (Str×NameKind)}{zK cl:List (Str×Addr)},wC cells names zK=some cl->
  ∀x,((∃c,zK.lookup x=some c)\/(x,NameKind.free)∈names)->∃c,cl.lookup x=some c
 | [],zK,cl,h,x,hx=>by
  have h':zK=cl:=Option.some.inj h
  subst h'
  rcases hx with hx|hx
  ·exact hx
  ·cases hx
 | (n,k)::r,zK,cl,h,x,hx=>by
  unfold wC at h
  by_cases hk:(k == NameKind.free)=true
  ·rw[Po hk] at h
   cases q:cells.lookup n with
   | none=>rw[q] at h;cases h
   | some a=>
    rw[q] at h
    refine tX (names:=r) (zK:=(n,a)::zK) h x ?_
    rcases hx with ⟨c,hx⟩|hx
    ·left
     rw[kG]
     cases hy:x == n with
     | true=>exact⟨a,rfl⟩
     | false=>exact⟨c,hx⟩
    ·rcases bI.mp hx with e|e
     ·left
      have e1:x=n:=Pu Prod.fst e
      rw[kG,e1,OH]
      exact⟨a,rfl⟩
     ·exact .inr e
  ·rw[Pn hk] at h
   refine tX (names:=r) (zK:=zK) h x ?_
   rcases hx with hx|hx
   ·exact .inl hx
   ·rcases bI.mp hx with e|e
    ·have e2:NameKind.free=k:=Pu Prod.snd e
     exact ND (by rw[<- e2];rfl) hk
    ·exact .inr e
theorem iU{α β:Type}[BEq α][LawfulBEq α]:∀{l:List (α×β)}{x:α}{b:β},l.lookup x=some b->(x,b)∈l
 | [],x,b,h=>by cases h
 | (a,c)::r,x,b,h=>by
  rw[kG] at h
  cases hx:x == a with
  | true=>
   rw[hx] at h
   have h':c=b:=Option.some.inj h
   rw[beq_iff_eq.mp hx,h']
   exact bT
  | false=>
   rw[hx] at h
   exact bU _ (iU h)
theorem iq{scope:Scope}{env:Env}(S8:∀y∈scope.names,y.2≠.cell){x:Str}(h:(relabel scope env).names.lookup x=some .cell\/(relabel scope env).names.lookup x=some .free):(x,NameKind.free)∈scope.names:=by
 have go:∀k,(relabel scope env).names.lookup x=some k->(k=.cell\/k=.free)->(x,NameKind.free)∈scope.names:=fun k h hk=>by
  have m:=iU h
  obtain⟨⟨n,k'⟩,hm,e⟩:=cD.mp m
  dsimp only at e
  by_cases c:(k' == NameKind.free && env.scope.kind == .function && env.kindOf n == some .cell)=true
  ·rw[Po c] at e
   have e1:n=x:=Pu Prod.fst e
   have c1:(k' == NameKind.free)=true:=by
    rw[bX,bX] at c
    exact c.1.1
   have c2:k'=.free:=eq_of_beq c1
   rw[<- e1,<- c2]
   exact hm
  ·rw[Pn c] at e
   have e1:n=x:=Pu Prod.fst e
   have e2:k'=k:=Pu Prod.snd e
   rcases hk with z|z
   ·exact ND (e2.trans z) (S8 _ hm)
   ·rw[<- e1,<- z,<- e2]
    exact hm
 rcases h with h|h
 ·exact go _ h (.inl rfl)
 ·exact go _ h (.inr rfl)
noncomputable def xy(X:Cx)(scope:Scope)(cl:List (Str×Addr))(N:AF)(C:Addr)(s3:Shared)(H1:Hp)(ex:List Addr)(z4:List AE):Cx:=
 { X with N:=N,s₀:=s3,H₀:=H1,env:=compEnvC scope cl C X.env,outer:=X.stack,ex:=ex,fn:=fun _=>false,pn:=X.pn++z4,xe:=noE }
noncomputable def vV(own:Nat)(ix:List Nat)(σ:St):St:=List.replicate own none++ix.map fun i=>(σ[i]?).join
structure F5(X:Cx)(scope:Scope)(cl:List (Str×Addr))(own E7:AF)(ix:List Nat):Prop where
 R9:wC X.env.cells scope.names []=some cl
 cell:∀y∈scope.names,y.2≠.cell
 kind:scope.kind=.function
 names:∀y∈scope.names,y.2=.local->scope.names.lookup y.1=some .local
 capn:E7.length=ix.length
 cap:∀(j i:Nat) (x:Str),E7[j]? = some x->ix[j]? = some i->X.N[i]? = some x/\X.env.kindOf x≠some .local/\Vis X.env.scope x/\((relabel scope X.env).names.lookup x=some .cell\/(relabel scope X.env).names.lookup x=some .free)
theorem Inv.w0H{X:Cx}{z4:List AE}{σ:St}{H:Hp}{s:Shared}{D:Addr}{o:HO}(I:Inv X z4 σ H s)(f:N7 X z4 H D)(new:zv X.prog X.w (upd H D o) s.heap D o):Inv X z4 σ (upd H D o) s:=by
 obtain⟨f0,f1,f2,f3,f4,f5⟩:=f
 have q:=I.step (H':=upd H D o) (h':=s.heap) (g':=s.gens) (t':=s.toks) (d':=s.drawn) (ch:=[D]) (fun b hb=>by
   have e:b=D:=by simpa using hb
   subst e
   exact⟨f3,f1,f4,f5⟩)
  (fun _ _ _ _ _ e _=>e) (fun b ob _ _ _ e _=>⟨ob.slots,e⟩) (fun b ob hb _ n=>by
   have e:b≠D:=fun z=>hb (by simp[z])
   rw[zS e];exact n)
  (fun b ob _ e=>⟨ob,e⟩) (fun b xs e=>by rw[zS (yC e f0)];exact e) (fun b ob u e=>by rw[zS (yC e f0)];exact e)
  (fun b ps e=>⟨#[],by rw[zS (yC e f0),e];simp⟩) (fun _ hm=>hm) (fun b u e=>by
   by_cases hb:b=D
   ·subst hb
    rw[zM] at e
    cases e
    exact new
   ·rw[zS hb] at e
    exact(I.hok b u e).Q6 (fun _ _ _ q=>q) (fun c q=>by rw[zS (yC q f0)];exact q) fun c xs q=>by rw[zS (yC q f0)];exact q) I.bare
 exact q
section
variable{X:Cx}{scope:Scope}{cl:List (Str×Addr)}{own E7:AF}{ix:List Nat}
theorem F5.look(S:F5 X scope cl own E7 ix):∀x c,cl.lookup x=some c->X.env.cells.lookup x=some c:=
 qO S.R9 fun x c e=>by cases e
theorem TU{z4:List AE}{σ:St}{H1:Hp}{s3:Shared}{h1:Heap}{ex:List Addr}{m:Str->AH}{tk:Nat}(S:F5 X scope cl own E7 ix)(I:Inv X z4 σ H1 s3)
  (hex:∀b∈ex,b<s3.heap.objs.size/\b≠X.env.locals/\b∉X.fs/\(b∈X.ex\/X.s₀.heap.objs.size<=b)/\∀x c,X.env.cells.lookup x=some c->c≠b)
  (hn:h1.Ns s3.heap.objs.size m) (hk:∀b o,s3.heap.get? b=some o->h1.get? b=some o) :
  Inv (xy X scope cl (own++E7) s3.heap.objs.size s3 H1 ex z4) [] (vV own.length ix σ) H1 { s3 with heap:=h1,toks:=tk }:=by
 have stkN:∀b∈frs X.stack,b<s3.heap.objs.size:=fun b hb=>by
  obtain⟨_,o,ho,_⟩:=I.stack.mem hb
  exact bQ ho
 have lt0:∀b o,X.base.get? b=some o->b<X.s₀.heap.objs.size:=fun b o e=>bQ (I.ok.bs b o e).1
 refine⟨⟨I.ok.mod,S.kind,I.ok.glob,I.ok.blt,bG _,?_,?_,?_,I.ok.hd,I.ok.frames,.inl rfl,?_,I.bs,c7 I.ok.bsz I.sz,?_,?_,I.stack,I.S3⟩,rfl,I.bare,?_,?_,?_,?_,?_,?_,?_,?_⟩
 ·intro x y c e1 e2
  exact I.ok.inj x y c (S.look x c e1) (S.look y c e2)
 ·intro x hx
  exact tX S.R9 x (.inr (iq S.cell hx))
 ·intro x c hf
  exact ND hf bP
 ·intro b hb
  obtain⟨l,a1,a2,a3,a4⟩:=hex b hb
  exact⟨c8 l,fun x c e=>a4 x c (S.look x c e)⟩
 ·intro b o e hb
  obtain⟨l,a1,a2,a3,a4⟩:=hex b hb
  rcases a3 with z|z
  ·exact I.ok.noex b o e z
  ·exact ND (cR (lt0 b o e) z) (eF _)
 ·intro b hb hf
  obtain⟨l,a1,a2,a3,a4⟩:=hex b hb
  rcases bI.mp (I.O5 b hf) with z|z
  ·exact a1 z
  ·exact a2 z
 ·exact Un.kept hk
 ·refine⟨m,hn,fun i x v e1 e2 e3=>?_⟩
  have e2':(List.replicate own.length none++ix.map fun i=>(σ[i]?).join:St)[i]? = some (some v):=e2
  have e1':(own++E7)[i]? = some x:=e1
  by_cases hi:i<own.length
  ·rw[cS (by simpa using hi),fF,Po hi] at e2'
   cases e2'
  ·have hi':own.length<=i:=lI hi
   rw[cV (by simpa using hi'),d7,bE] at e2'
   rw[cV hi'] at e1'
   cases q:ix[i-own.length]? with
   | none=>rw[q] at e2';cases e2'
   | some k=>
    rw[q] at e2'
    have V7:(σ[k]?).join=some v:=Option.some.inj e2'
    have e4:σ[k]? = some (some v):=by
     cases z:σ[k]? with
     | none=>rw[z] at V7;cases V7
     | some u=>rw[z] at V7;rw[show u=some v from V7]
    obtain⟨n1,n2,n3,n4⟩:=S.cap (i-own.length) k x e1' q
    obtain⟨mX,_,hl⟩:=I.loc
    obtain⟨u,r,l⟩:=hl k x v n1 e4 n3
    refine⟨u,r,?_⟩
    rcases l with ⟨kl,_⟩|⟨_,c,ec,ic⟩
    ·exact ND kl n2
    ·obtain⟨c',ec'⟩:=tX S.R9 x (.inr (iq S.cell n4))
     have e5:=S.look x c' ec'
     rw[ec] at e5
     cases e5
     exact .inr ⟨n4,c,ec',ic.keeps hk⟩
 ·intro x c e
  obtain⟨v,q⟩:=I.cell x c (S.look x c e)
  exact⟨v,q.keeps hk⟩
 ·exact I.hok.fresh (bG _)
 ·intro x c e
  exact I.freeC x c (S.look x c e)
 ·intro p hp
  have hp':p∈X.pn++z4:=by
   have:p∈(X.pn++z4)++[]:=hp
   rwa [dB] at this
  obtain⟨e,n,ne,nf,d⟩:=I.pin p hp'
  refine⟨hk _ _ e,n,c8 (bQ e),fun z=>?_,d⟩
  rcases bI.mp (I.O5 p.1 z) with z|z
  ·exact ne z
  ·exact nf z
 ·exact I.hok.kept hk
 ·show(List.replicate own.length none++ix.map fun i=>(σ[i]?).join:St).length=(own++E7).length
  rw[bF,d7,bA,bF,S.capn]
noncomputable def PTs(X:Cx)(ifs:List Expr)(t:TT):Prop:=
 ∀(z4:List AE) (s:Shared) (σ:St) (H:Hp) (Q:Bool->Hp->Prop),Inv X z4 σ H s->t σ H Q->
  wpAny (model X.prog X.w) X.A (forIn ifs true fun c r=>if r=true then do let ok <- isTrue c X.env (eval c X.env);pure (ForInStep.yield ok) else pure (ForInStep.yield r)) (TP X z4 σ Q) X.xe s
noncomputable def tYes:TT:=fun _ H Q=>Q true H
theorem xU:PTs X [] tYes:=fun _ _ _ H _ I h=>wpAny_tests_nil ⟨H,I,h⟩
theorem wk{c:Expr}{t:TT}(hc:PT X c t):PTs X [c] t:=fun z4 s σ H Q I h=>wpAny_tests_one (hc z4 s σ H Q I h)
noncomputable def wd(n:Nat)(σ σ':St):Prop:=σ'.length=σ.length/\∀i,n<=i->σ'[i]? = σ[i]?
noncomputable def R8(n:Nat)(g:TG):Prop:=∀v σ H Q,g v σ H Q->g v σ H fun σ' H'=>Q σ' H'/\wd n σ σ'
noncomputable def ug(n:Nat)(g:TGs):Prop:=∀vs σ H Q,g vs σ H Q->g vs σ H fun σ' H'=>Q σ' H'/\wd n σ σ'
theorem wd.refl(n:Nat)(σ:St):wd n σ σ:=⟨rfl,fun _ _=>rfl⟩
theorem wd.trans{n:Nat}{a b c:St}(x:wd n a b)(y:wd n b c):wd n a c:=⟨y.1.trans x.1,fun i h=>(y.2 i h).trans (x.2 i h)⟩
theorem yG{n i:Nat}(h:i<n):R8 n (um i):=fun v σ H Q q=>⟨q,by simp,fun j hj=>kO (by lia)⟩
theorem vk{n:Nat}:ug n X4:=fun vs σ H Q q=>⟨q.1,q.2,wd.refl n σ⟩
noncomputable def vM(g:TG):Prop:=∀v σ H (Q Q':St->Hp->Prop),(∀σ' H',Q σ' H'->Q' σ' H')->g v σ H Q->g v σ H Q'
noncomputable def vi(g:TGs):Prop:=∀vs σ H (Q Q':St->Hp->Prop),(∀σ' H',Q σ' H'->Q' σ' H')->g vs σ H Q->g vs σ H Q'
theorem zl{i:Nat}:vM (um i):=fun _ _ _ _ _ f q=>f _ _ q
theorem yz:vi X4:=fun _ _ _ _ _ f q=>⟨q.1,f _ _ q.2⟩
theorem yn{t:TG}{u:TGs}(a:vM t)(b:vi u):vi (mG t u):=fun vs σ H Q Q' f q=>by
 obtain⟨v,r,e,q⟩:=q
 exact⟨v,r,e,a _ _ _ _ _ (fun σ' H' z=>b _ _ _ _ _ f z) q⟩
theorem uN{K:AA}{n:Nat}{t:TGs}(a:vi t):vM (W2 K n t):=fun v σ H Q Q' f q=>by
 obtain⟨p,xs,e,h1,h2,q⟩:=q
 exact⟨p,xs,e,h1,h2,a _ _ _ _ _ f q⟩
theorem xu{n:Nat}{t:TG}{u:TGs}(a:R8 n t)(m:vM t)(b:ug n u)(m':vi u):ug n (mG t u):=fun vs σ H Q q=>by
 obtain⟨v,r,e,q⟩:=q
 refine⟨v,r,e,m _ _ _ _ _ (fun σ' H' z=>?_) (a _ _ _ _ q)⟩
 exact m' _ _ _ _ _ (fun σ2 H2 y=>⟨y.1,z.2.trans y.2⟩) (b _ _ _ _ z.1)
theorem uI{K:AA}{n k:Nat}{t:TGs}(a:ug n t):R8 n (W2 K k t):=fun v σ H Q q=>by
 obtain⟨p,xs,e,h1,h2,q⟩:=q
 exact⟨p,xs,e,h1,h2,a _ _ _ _ q⟩
noncomputable def w6(g:TG)(tc:TT)(te:TE)(σ0:St)(x:V)(H:Hp)(ys:AK)(N:AK->Hp->Prop):Prop:=
 g x σ0 H fun σ2 H2=>tc σ2 H2 fun b H3=>if b=true then te σ2 H3 fun y H4=>N (ys++[y]) H4 else N ys H3
noncomputable def Wv(own:Nat)(ix:List Nat)(wi:TI)(g:TG)(tc:TT)(te:TE)(σ:St)(H:Hp)(F:AK->Hp->Prop):Prop:=
 wi σ H fun J H1=>∃W:Nat->Nat->AK->Hp->Prop,(∃m,W 0 m [] H1)/\∀i m ys H,W i m ys H->
  (J.stop i H/\F ys H)\/(J.go i H/\ys.length<sizeLine/\∃N:AK->Hp->Prop,(∀zs H',N zs H'->∃m',m'<m/\W (i+1) m' zs H')/\
   ∀x H',J.yld i H x H'->w6 g tc te (vV own ix σ) x H' ys N)
theorem jb{elt iter tg:Expr}{ifs:List Expr}{pos:Pos}{z4:List AE}{σ:St}{s2:Shared}{itv:Value}{g:TG}{tc:TT}{te:TE}{F:AK->Hp->Prop}{RR:Value->Addr->Result->Shared->Prop}{E:AB}
  (S:F5 X scope cl own E7 ix) (hc:X.calm=true)
  (hg:∀C s3 H1 ex pn,PG (xy X scope cl (own++E7) C s3 H1 ex pn) tg g) (og:R8 own.length g) (mg:vM g)
  (ht:∀C s3 H1 ex pn,PTs (xy X scope cl (own++E7) C s3 H1 ex pn) ifs tc)
  (he:∀C s3 H1 ex pn,PE (xy X scope cl (own++E7) C s3 H1 ex pn) elt te)
  (h:PIE X z4 σ tg (fun J H1=>∃W:Nat->Nat->AK->Hp->Prop,(∃m,W 0 m [] H1)/\∀i m ys H,W i m ys H->
   (J.stop i H/\F ys H)\/(J.go i H/\ys.length<sizeLine/\∃N:AK->Hp->Prop,(∀zs H',N zs H'->∃m',m'<m/\W (i+1) m' zs H')/\
    ∀x H',J.yld i H x H'->w6 g tc te (vV own.length ix σ) x H' ys N)) itv s2)
  (hRR:∀D C m H' ys s',Inv X z4 σ (upd H' D (.lst ys)) s'->N7 X z4 (upd H' D (.lst ys)) C->s'.heap.Ns C m->H' D=none->F ys H'->RR (.ref D) C (.ok .next) s') :
  wpAny (model X.prog X.w) X.A (newList []) (fun zK s3=>wpAny (model X.prog X.w) X.A (newFunctionEnv scope X.env.globals cl [] X.env.qual none .none (some X.env)) (fun cenv s4=>
   codeAny (model X.prog X.w) X.A (.compStart (.ListComp elt [⟨tg,iter,ifs,0⟩] scope pos) 0 itv zK { cenv with scope:=relabel scope X.env }) (RR zK cenv.locals) s4) E s3) E s2:=by
 obtain⟨it,fp,tn,J,H1,e,I2,T,st2,f2,W,⟨m0,w0⟩,turn⟩:=h
 subst e
 refine OA (wpAny_newFunctionEnv S.cell (by intro y hy;simp at hy) (fun h1 hns1 hsb1=>?_) S.kind)
 dsimp only at hns1 hsb1 ⊢
 generalize hH2:s2.heap.push { cls:=.type "list",dict:=none,data:=.seq ([]:AG).toArray }=h2 at hns1 hsb1 ⊢
 have U0:∀b o,s2.heap.get? b=some o->h2.get? b=some o:=fun b o e=>hH2 ▸ bB _ e
 have sz2:h2.objs.size=s2.heap.objs.size+1:=by rw[<- hH2,eI]
 have hDC:s2.heap.objs.size≠h2.objs.size:=by lia
 have S4:∀b o,h2.get? b=some o->h1.get? b=some o:=fun b o e=>hsb1.extBut b o (c8 (bQ e)) (bB _ e)
 have w0p:h2.get? s2.heap.objs.size=some { cls:=.type "list",dict:=none,data:=.seq ([]:AG).toArray }:=hH2 ▸ bJ _ rfl
 have I3:Inv X z4 σ H1 { s2 with heap:=h2,toks:=s2.toks }:=I2.kept U0
 have fD:N7 X z4 H1 s2.heap.objs.size:=I2.O6 (bG _) I2.fresh
 have fDs:∀{H':Hp},H' s2.heap.objs.size=none->N7 X z4 H' s2.heap.objs.size:=fun hn=>⟨hn,fD.2⟩
 have fpLt:∀b∈fp,b<s2.heap.objs.size:=fun b hb=>by
  obtain⟨o,e,_⟩:=T.obj _ _ st2 b hb
  exact bQ e
 have hDfp:s2.heap.objs.size∉fp:=fun z=>eF _ (fpLt _ z)
 have Y2:∀b∈s2.heap.objs.size::fp,b<h2.objs.size/\b≠X.env.locals/\b∉X.fs/\(b∈X.ex\/X.s₀.heap.objs.size<=b)/\∀x c,X.env.cells.lookup x=some c->c≠b:=fun b hb=>by
  rcases bI.mp hb with rfl|hb
  ·exact⟨by lia,fD.2.1,fD.2.2.1,fD.2.2.2.1,fD.2.2.2.2.1⟩
  ·have:=fpLt b hb
   obtain⟨_,a1,a2,a3,a4,_⟩:=f2 b hb
   exact⟨by rw[sz2];exact fH this,a1,a2,a3,a4⟩
 have I4:Inv (xy X scope cl (own++E7) h2.objs.size { s2 with heap:=h2,toks:=s2.toks } H1 (s2.heap.objs.size::fp) z4) [] (vV own.length ix σ) H1 { s2 with heap:=h1,toks:=s2.toks+([]:List (Str×Value)).length }:=
  TU S I3 Y2 hns1 S4
 generalize hX:xy X scope cl (own++E7) h2.objs.size { s2 with heap:=h2,toks:=s2.toks } H1 (s2.heap.objs.size::fp) z4=Y at I4
 have HG:PG Y tg g:=by rw[<- hX];exact hg _ _ _ _ _
 have HT:PTs Y ifs tc:=by rw[<- hX];exact ht _ _ _ _ _
 have HE:PE Y elt te:=by rw[<- hX];exact he _ _ _ _ _
 have eP:Y.prog=X.prog:=by rw[<- hX];rfl
 have eW:Y.w=X.w:=by rw[<- hX];rfl
 have eK:Y.K=X.K:=by rw[<- hX];rfl
 have eA:Y.A=X.A:=by rw[<- hX];rfl
 have eC:Y.calm=true:=by rw[<- hX];exact hc
 have eE:Y.xe=noE:=by rw[<- hX];rfl
 have U1:Y.env=compEnvC scope cl h2.objs.size X.env:=by rw[<- hX];rfl
 have eEx:Y.ex=s2.heap.objs.size::fp:=by rw[<- hX];rfl
 have ePn:Y.pn=X.pn++z4:=by rw[<- hX];rfl
 have eFs:Y.fs=frs X.stack:=by rw[<- hX];rfl
 have Y4:∀x c,Y.env.cells.lookup x=some c->X.env.cells.lookup x=some c:=fun x c e=>by
  rw[U1] at e
  exact S.look x c e
 have Z0:Y.env.locals=h2.objs.size:=by rw[U1];rfl
 have fY:∀{pl:List AE}{H':Hp}{b:Addr},b∈s2.heap.objs.size::fp->H' b=none->(∀p∈pl,p.1≠b)->N7 Y pl H' b:=fun {pl H' b} hb hn hpl=>by
  obtain⟨l,a1,a2,a3,a4⟩:=Y2 b hb
  refine⟨hn,by rw[Z0];exact c8 l,fun z=>?_,.inl (by rw[eEx];exact hb),fun x c e=>a4 x c (Y4 x c e),fun p hp=>?_⟩
  ·rw[eFs] at z
   rcases bI.mp (I3.O5 b z) with z|z
   ·exact a1 z
   ·exact a2 z
  ·rcases bZ.mp hp with z|z
   ·rw[ePn] at z
    rcases bI.mp hb with rfl|hb
    ·exact fD.2.2.2.2.2 p z
    ·exact(f2 b hb).2.2.2.2.2 p z
   ·exact hpl p z
 let IV:Nat->Shared->Prop:=fun n s'=>∃i ys zC c H',Inv Y [] (vV own.length ix σ) H' s'/\tn i s'.heap/\(∀b∈fp,H' b=none)/\H' s2.heap.objs.size=none/\Vals ys zC/\
  s'.heap.get? s2.heap.objs.size=some { cls:=.type "list",data:=.seq zC.toArray c }/\ys.length<=sizeLine/\W i n ys H'
 have loop:∀s3:Shared,s3={ s2 with heap:=h1,toks:=s2.toks+([]:List (Str×Value)).length }->
   codeAny (model X.prog X.w) X.A (.compLoop (.ListComp elt [⟨tg,iter,ifs,0⟩] scope pos) 0 (.ref it) (.ref s2.heap.objs.size) (compEnvC scope cl h2.objs.size X.env)) (RR (.ref s2.heap.objs.size) h2.objs.size) s3:=by
  rintro s3 rfl
  refine Qg IV ?_ m0 ⟨0,[],[],_,H1,I4,T.keep _ _ _ st2 fun b _ o e=>S4 b o (U0 b o e),fun b hb=>(f2 b hb).1,I2.fresh,.nil,S4 _ _ w0p,cQ _,w0⟩
  rintro n s5 ⟨i,ys,zC,c,H5,I5,st5,fr5,nD5,v5,gD5,z5,w5⟩
  have I5p:Inv Y [(s2.heap.objs.size,{ cls:=.type "list",data:=.seq zC.toArray c })] (vV own.length ix σ) H5 s5:=I5.N9 fun p hp=>by
   have e:p=(s2.heap.objs.size,{ cls:=.type "list",data:=.seq zC.toArray c }):=by simpa using hp
   subst e
   obtain⟨_,b1,b2,_⟩:=fY (pl:=[]) (H':=H5) (b:=s2.heap.objs.size) bT nD5 (fun p hp=>nomatch hp)
   exact⟨gD5,nD5,b1,b2,fun v z=>by cases z⟩
  have fps:∀{H':Hp},(∀b∈fp,H' b=none)->∀b∈fp,N7 Y [(s2.heap.objs.size,{ cls:=.type "list",data:=.seq zC.toArray c })] H' b:=fun hn b hb=>
   fY (bU _ hb) (hn b hb) fun p hp=>by
    have e:p=(s2.heap.objs.size,{ cls:=.type "list",data:=.seq zC.toArray c }):=by simpa using hp
    subst e
    exact fun z=>hDfp (by have z':s2.heap.objs.size=b:=z;rw[z'];exact hb)
  rcases turn i n ys H5 w5 with ⟨stop,fin⟩|⟨go,zU,N,hN,step⟩
  ·have q:=T.done Y eP eW eK eC i _ s5 _ H5 noE I5p (fps fr5) st5 stop
   rw[eA] at q
   refine thn q fun r s6 ⟨hr,I6⟩=>?_
   subst hr
   have gD6:=(I6.pin (s2.heap.objs.size,{ cls:=.type "list",data:=.seq zC.toArray c }) (cF _ (by simp))).1
   have u6:Un (frs X.stack) (s2.heap.objs.size::fp) H1 H5 h2 s6.heap:=by
    have:=I6.base
    rw[eFs,eEx] at this
    rw[<- hX] at this
    exact this
   have os6:s6.os=s2.os:=by
    have:=I6.os
    rw[<- hX] at this
    exact this
   have hok6:HOk X.prog X.w H5 s6.heap:=by
    have:=I6.hok
    rw[eP,eW] at this
    exact this
   have J6:Inv X z4 σ H5 s6:=I3.w03 (s':=s6) os6 u6 hok6 I6.bare fun b hb=>by
    obtain⟨l,a1,a2,a3,a4⟩:=Y2 b hb
    refine⟨a3,a1,a4,?_⟩
    rcases bI.mp hb with rfl|hb
    ·exact fD.2.2.2.2.2
    ·exact(f2 b hb).2.2.2.2.2
   have J7:Inv X z4 σ (upd H5 s2.heap.objs.size (.lst ys)) s6:=J6.w0H (fDs nD5) ⟨z5,zC,c,v5,gD6⟩
   obtain⟨mC,hC,_⟩:=I6.loc
   rw[Z0] at hC
   have nC:H5 h2.objs.size=none:=by
    have:=I6.free
    rw[Z0] at this
    exact this
   refine hRR _ _ mC H5 ys s6 J7 (I3.O6 (bG _) ?_) hC nD5 fin
   show upd H5 s2.heap.objs.size (.lst ys) h2.objs.size=none
   rw[zS (eQ hDC)]
   exact nC
  ·have q:=T.item Y eP eW eK eC i _ s5 _ H5 noE I5p (fps fr5) st5 go
   rw[eA] at q
   refine thn q fun r s6 ⟨u,hr,h6⟩=>?_
   subst hr
   refine thn h6 fun _ s7 ⟨x,H7,I7,r7,y7,st7,fr7⟩=>?_
   have I7p:=I7.pinned (fps fr7) (T.obj _ _ st7)
   have st:=og _ _ _ _ (step x H7 y7)
   have q2:=HG _ s7 _ H7 x u _ I7p r7 st
   rw[eE,eP,eW,eA,U1] at q2
   refine thn q2 fun _ s8 ⟨σ8,H8,I8,q8,fr8⟩=>?_
   have q3:=HT _ s8 σ8 H8 _ I8 q8
   rw[eE,eP,eW,eA,U1] at q3
   refine thn q3 fun ok s9 ⟨H9,I9,q9⟩=>?_
   have back:∀{H':Hp}{s':Shared},Inv Y ([(s2.heap.objs.size,({ cls:=.type "list",data:=.seq zC.toArray c }:Obj))]++uw fp s7.heap) σ8 H' s'->
     Inv Y [] (vV own.length ix σ) H' s'/\tn (i+1) s'.heap/\(∀b∈fp,H' b=none)/\H' s2.heap.objs.size=none/\s'.heap.get? s2.heap.objs.size=some { cls:=.type "list",data:=.seq zC.toArray c }:=fun {H' s'} I'=>by
    have pD:=I'.pin (s2.heap.objs.size,{ cls:=.type "list",data:=.seq zC.toArray c }) (cF _ (eV _ (by simp)))
    refine⟨(I'.N9 (pins':=[]) fun p hp=>nomatch hp).weak fr8.1.symm fun j v e=>?_,T.keep _ _ _ st7 fun b hb o e=>(I'.pin (b,o) (cF _ (cF _ (sJ hb e)))).1,fun b hb=>?_,pD.2.1,pD.1⟩
    ·by_cases hj:j<own.length
     ·have e':(List.replicate own.length none++ix.map fun i=>(σ[i]?).join:St)[j]? = some (some v):=e
      rw[cS (by simpa using hj),fF,Po hj] at e'
      cases e'
     ·rw[fr8.2 j (lI hj)]
      exact e
    ·obtain⟨o,e,d⟩:=T.obj _ _ st7 b hb
     exact(I'.pin (b,o) (cF _ (cF _ (sJ hb e)))).2.1
   cases ok with
   | false=>
    obtain⟨m',hm,w9⟩:=hN _ _ (show N ys H9 from q9)
    obtain⟨b1,b2,b3,b4,b5⟩:=back I9
    exact⟨m',hm,i+1,ys,zC,c,H9,b1,b2,b3,b4,v5,b5,z5,w9⟩
   | true=>
    have q9':te σ8 H9 fun y H4=>N (ys++[y]) H4:=q9
    have q4:=HE _ s9 σ8 H9 _ I9 q9'
    rw[eE,eP,eW,eA,U1] at q4
    refine thn q4 fun yv s10 ⟨y,H10,I10,r10,n10⟩=>?_
    obtain⟨b1,b2,b3,b4,b5⟩:=back I10
    obtain⟨m',hm,w10⟩:=hN _ _ n10
    have hl:=v5.length
    refine Ov cB ⟨_,b5,rfl⟩ PySem.F.entry_list_append (PySem.F.args_list_append_2 _ _) (PySem.list_append s2.heap.objs.size zC.toArray c yv (by rw[bN];lia)) ⟨b5,?_⟩
    have q5:=PySem.IsL.update b5 (fun a=>a.push yv)
    have e5:zC.toArray.push yv=(zC++[yv]).toArray:=by simp
    rw[e5] at q5
    have k5:∀b o,b≠s2.heap.objs.size->s10.heap.get? b=some o->(s10.heap.update s2.heap.objs.size (Obj.mapSeq fun a=>a.push yv)).get? b=some o:=fun b o hb e=>
     (cZ s10.heap (Obj.mapSeq fun a=>a.push yv) (eQ hb)).trans e
    obtain⟨f0,f1,f2',f3,f4,f5⟩:=fY (pl:=[]) (H':=H10) (b:=s2.heap.objs.size) bT b4 (fun p hp=>nomatch hp)
    have b1':=b1.turned (t':=s10.toks) k5 f0 f1 f3 f4 f5
    refine⟨m',hm,i+1,ys++[y],zC++[yv],_,H10,b1',T.keep _ _ _ b2 fun b hb o e=>k5 b o (fun z=>hDfp (by rw[<- z];exact hb)) e,b3,b4,v5.append (.cons r10 .nil),q5,?_,w10⟩
    ·rw[bF,cP]
     lia
 exact codeAny_compStart_list (loop _ rfl) (T.self _ 0 _ _ _ (T.keep _ _ _ st2 fun b _ o e=>S4 b o (U0 b o e)) (loop _ rfl))
noncomputable def aI(own:Nat)(ix:List Nat)(wi:TI)(g:TG)(tc:TT)(te:TE):TE:=fun σ H Q=>Wv own ix wi g tc te σ H fun ys H'=>∀D,H' D=none->Q (.ref D) (upd H' D (.lst ys))
theorem xH{elt iter tg:Expr}{ifs:List Expr}{pos:Pos}{wi:TI}{g:TG}{tc:TT}{te:TE}(own E7:AF)(ix:List Nat)
  (hc:X.calm=true) (S:F5 X scope cl own E7 ix) (hi:PI X tg iter wi)
  (hg:∀C s3 H1 ex pn,PG (xy X scope cl (own++E7) C s3 H1 ex pn) tg g) (og:R8 own.length g) (mg:vM g)
  (ht:∀C s3 H1 ex pn,PTs (xy X scope cl (own++E7) C s3 H1 ex pn) ifs tc)
  (he:∀C s3 H1 ex pn,PE (xy X scope cl (own++E7) C s3 H1 ex pn) elt te)
  (hs:∀x,foldedSetIterable iter X.env x=pure x:=by intro _;rfl) :
  PE X (.ListComp elt [⟨tg,iter,ifs,0⟩] scope pos) (aI own.length ix wi g tc te):=by
 intro z4 s σ H Q I h
 rw[eval_ListComp]
 refine wpAny_comprehension_free (use:=none) rfl hs (ia S.R9) S.kind S.names (thn (hi z4 s σ H _ I h) fun v s1 h1=>thn h1 fun itv s2 h2=>?_)
 refine jb (RR:=fun zK C=>compPost (model X.prog X.w) X.A X.xe none (EP X z4 σ Q) zK C) S hc hg og mg ht he h2 ?_
 intro D C m H' ys s' I' fC hn hD fin
 refine⟨m,hn,fun h' sb=>?_⟩
 obtain⟨f0,f1,f2,f3,f4,f5⟩:=fC
 have I2:=I'.turned (t':=s'.toks) (h':=h') (it:=C) (fun b o hb e=>(sb.2 b hb).trans e) f0 f1 f3 f4 f5
 exact⟨.ref D,_,I2,rfl,fin D hD⟩
theorem vX{elt iter tg:Expr}{ifs:List Expr}{pos pos' Z6:Pos}{x:Str}{i:Nat}{wi:TI}{g:TG}{tc:TT}{te:TE}(own E7:AF)(ix:List Nat)
  (hc:X.calm=true) (hN:X.N.Nodup) (hx:X.N[i]? = some x) (hl:Loc X.env.scope x) (S:F5 X scope cl own E7 ix) (hi:PI X tg iter wi)
  (hg:∀C s3 H1 ex pn,PG (xy X scope cl (own++E7) C s3 H1 ex pn) tg g) (og:R8 own.length g) (mg:vM g)
  (ht:∀C s3 H1 ex pn,PTs (xy X scope cl (own++E7) C s3 H1 ex pn) ifs tc)
  (he:∀C s3 H1 ex pn,PE (xy X scope cl (own++E7) C s3 H1 ex pn) elt te)
  (hsw:swapsWith (.ListComp elt [⟨tg,iter,ifs,0⟩] scope pos) (some (.Name x pos')) Z6.line X.env=pure true:=by rfl)
  (hf:X.fn x=true\/X.env.scope.names.lookup x=some .local:=by first|exact .inl rfl|exact .inr rfl|assumption)
  (hs:∀x,foldedSetIterable iter X.env x=pure x:=by intro _;rfl) :
  PS X (.Assign [.Name x pos'] (.ListComp elt [⟨tg,iter,ifs,0⟩] scope pos) Z6) (tAsg (aI own.length ix wi g tc te) (um i)):=by
 intro z4 s σ H D I h
 rw[exec_Assign_Name_used _ _ _ _ hsw]
 refine Pl (Oy (Pl ?_))
 show wpAny _ X.A (do let _ <- comprehension (.ListComp elt [⟨tg,iter,ifs,0⟩] scope pos) scope X.env _ (newList []) false (eval iter X.env) (some (assign (.Name x pos') X.env))) _ _ s
 refine Pl (OF (wpAny_comprehension_free (use:=some (assign (.Name x pos') X.env)) (Q:=fun _ s'=>SP X z4 D .next s') rfl hs (ia S.R9) S.kind S.names
  (thn (hi z4 s σ H _ I h) fun v s1 h1=>thn h1 fun itv s2 h2=>?_)) (fun _ s' hq=>Pm (Pm hq)) fun _ _ e=>e)
 refine jb (RR:=fun zK C=>compPost (model X.prog X.w) X.A X.xe (some (assign (.Name x pos') X.env)) (fun _ s'=>SP X z4 D .next s') zK C) S hc hg og mg ht he h2 ?_
 intro D' C m H' ys s' I' fC hn hD fin
 obtain⟨f0,f1,f2,f3,f4,f5⟩:=fC
 obtain⟨oC,es,ep,hoC,hdC,hr⟩:=id hn
 show wpAny _ X.A (assign (.Name x pos') X.env (.ref D')) _ _ _
 have Ip:Inv X (z4++[(C,oC)]) σ (upd H' D' (.lst ys)) s':=I'.N9 fun p hp=>(bZ.mp hp).elim (fun z=>I'.pin p (cF _ z)) fun z=>by
  have e:p=(C,oC):=by simpa using z
  subst e
  exact⟨hoC,f0,f1,f2,fun v z=>by rw[hdC] at z;cases z⟩
 refine thn (zd hN hx hl hf (z4++[(C,oC)]) s' σ _ (.ref D') (.ref D') _ Ip rfl (fin D' hD)) fun _ s3 ⟨σ3,H3,I3,q3⟩=>?_
 have pC:=I3.pin (C,oC) (cF _ (cF _ (by simp)))
 refine⟨m,⟨oC,es,ep,pC.1,hdC,hr⟩,fun h' sb=>?_⟩
 have I4:Inv X z4 σ3 H3 s3:=I3.N6
 exact⟨σ3,H3,I4.turned (t':=s3.toks) (h':=h') (it:=C) (fun b o hb e=>(sb.2 b hb).trans e) pC.2.1 f1 f3 f4 f5,q3⟩
end
section
variable{prog:Program}{w:World}{A:Around}{R:Result->Shared->Prop}{I:Addr}{fp wr:List Addr}{n:Nat}{P:Nat->Value->Prop}{St:Nat->Heap->Prop}
theorem Uv(W:Walks prog w A.in1 I fp wr n P St)(bt:Nat->Nat->Bool)(O9:CmpOf prog w A.in1 .Gt P bt)(S:Addr)(hSf:S∉fp)(kw:List (Str×Value)) :
  ∀(k j:Nat) (s:Shared) (vb:Value) (c:Nat),n-(j+1)=k->j+1<=n->St (j+1) s.heap->P (argBest bt j) vb->
  s.heap.get? S=some { cls:=.type "list",dict:=none,data:=.seq #[vb,vb] c,slots:=#[] }->
  (∀v h' tk,P (argBest bt (n-1)) v->(∀b o,b∉wr->b≠S->s.heap.get? b=some o->h'.get? b=some o)->R (.ok (.ret v)) { s with heap:=h',toks:=tk })->
  codeAny (model prog w) A (.builtin "max.loop" ⟨[.ref I,.none,.ref S],kw⟩) R s:=by
 have hSw:S∉wr:=fun h=>hSf (W.sub _ h)
 have K2:(toString "max"++toString ".loop":String)="max.loop":=by decide
 intro k
 induction k with
 | zero=>
  intro j s vb c hk hj hst hPb hS hR
  have hin:j+1=n:=by lia
  refine Pw gZ ?_
  rw[cH dW _]
  show wpAny _ A.in1 (seqItems? (.ref S) >>= _) _ _ s
  refine Pl (Pz hS rfl ?_)
  show wpAny _ A.in1 (tryCatch (pyNext (.ref I)) _ >>= _) _ _ s
  refine Pl (OI (W.done s _ _ (hin ▸ hst) fun h' tk hk'=>?_))
  have hS':=hk' S _ hSw hS
  show wpAny _ A.in1 (updateSeq S (fun _=>#[]) >>= _) _ _ _
  refine Pl ?_
  refine Oc hS' rfl (Pl (OW (Pm ?_)))
  refine hR vb _ tk (by rw[<- hin];exact hPb) fun b o hbw hbS e=>(cZ _ _ (eQ hbS)).trans (hk' b o hbw e)
 | succ k ih=>
  intro j s vb c hk hj hst hPb hS hR
  have hlt:j+1<n:=by lia
  refine Pw gZ ?_
  rw[cH dW _]
  show wpAny _ A.in1 (seqItems? (.ref S) >>= _) _ _ s
  refine Pl (Pz hS rfl ?_)
  show wpAny _ A.in1 (tryCatch (pyNext (.ref I)) _ >>= _) _ _ s
  refine Pl (OI (W.item (j+1) s _ _ hlt hst fun v h' tk hP hst' hk'=>?_))
  have hS':=hk' S _ hSw hS
  show wpAny _ A.in1 (tryCatch (holding [v,v] (richCompare .Gt v vb >>= _)) _ >>= _) _ _ _
  refine Pl (OI (Py (Pl (O9 (j+1) (argBest bt j) v vb _ _ _ hP hPb ?_))))
  refine Pl (Py (OT ?_))
  refine Pl (OW (Pm ?_))
  cases hb:bt (j+1) (argBest bt j) with
  | true=>
   simp only[if_true]
   refine Pl ?_
   refine Oc hS' rfl (Pl (OW ?_))
   rw[K2]
   refine Pm ⟨OB dW _,ih (j+1) _ v _ (by lia) hlt (W.frame _ _ _ hst' fun b hbf o e=>?_) (by simp only[argBest,hb,if_true];exact hP) (dO _ hS' rfl)
    fun v' h'' tk'' hP' hk''=>?_⟩
   ·exact(cZ _ _ (fun h:S=b=>hSf (by rw[h];exact hbf))).trans e
   ·exact hR v' h'' tk'' hP' fun b o hbw hbS e=>hk'' b o hbw hbS ((cZ _ _ (eQ hbS)).trans (hk' b o hbw e))
  | false=>
   simp only[fV,if_false]
   refine Pl (OW ?_)
   rw[K2]
   refine Pm ⟨OB dW _,ih (j+1) _ vb c (by lia) hlt hst' (by simp only[argBest,hb,fV,if_false];exact hPb) hS' fun v' h'' tk'' hP' hk''=>?_⟩
   exact hR v' h'' tk'' hP' fun b o hbw hbS e=>hk'' b o hbw hbS (hk' b o hbw e)
theorem RW(W:Walks prog w A.in1 I fp wr n P St)(bt:Nat->Nat->Bool)(O9:CmpOf prog w A.in1 .Gt P bt)(S:Addr)(hSf:S∉fp)(kw:List (Str×Value))(hn:0<n){s:Shared}{c:Nat}(hst:St 0 s.heap)
  (hS:s.heap.get? S=some { cls:=.type "list",dict:=none,data:=.seq #[] c,slots:=#[] })
  (hR:∀v h' tk,P (argBest bt (n-1)) v->(∀b o,b∉wr->b≠S->s.heap.get? b=some o->h'.get? b=some o)->R (.ok (.ret v)) { s with heap:=h',toks:=tk }) :
  codeAny (model prog w) A (.builtin "max.loop" ⟨[.ref I,.none,.ref S],kw⟩) R s:=by
 have hSw:S∉wr:=fun h=>hSf (W.sub _ h)
 have K2:(toString "max"++toString ".loop":String)="max.loop":=by decide
 refine Pw gZ ?_
 rw[cH dW _]
 show wpAny _ A.in1 (seqItems? (.ref S) >>= _) _ _ s
 refine Pl (Pz hS rfl ?_)
 show wpAny _ A.in1 (tryCatch (pyNext (.ref I)) _ >>= _) _ _ s
 refine Pl (OI (W.item 0 s _ _ hn hst fun v h' tk hP hst' hk'=>?_))
 have hS':=hk' S _ hSw hS
 show wpAny _ A.in1 (updateSeq S (fun _=>#[v,v]) >>= _) _ _ _
 refine Pl ?_
 refine Oc hS' rfl ?_
 rw[K2]
 refine Pm ⟨OB dW _,Uv W bt O9 S hSf kw _ 0 _ v _ rfl hn (W.frame _ _ _ hst' fun b hbf o e=>?_) hP (dO _ hS' rfl) fun v' h'' tk'' hP' hk''=>?_⟩
 ·exact(cZ _ _ (fun h:S=b=>hSf (by rw[h];exact hbf))).trans e
 ·exact hR v' h'' tk'' hP' fun b o hbw hbS e=>hk'' b o hbw hbS ((cZ _ _ (eQ hbS)).trans (hk' b o hbw e))
theorem TC(W:Walks prog w A.in1 I fp wr n P St)(S:Addr)(hSf:S∉fp)(kn:Str)(d:Value)(hn:n=0){s:Shared}{c:Nat}(hst:St 0 s.heap)
  (hS:s.heap.get? S=some { cls:=.type "list",dict:=none,data:=.seq #[] c,slots:=#[] })
  (hR:∀h' tk,(∀b o,b∉wr->s.heap.get? b=some o->h'.get? b=some o)->R (.ok (.ret d)) { s with heap:=h',toks:=tk }) :
  codeAny (model prog w) A (.builtin "max.loop" ⟨[.ref I,.none,.ref S],[(kn,d)]⟩) R s:=by
 refine Pw gZ ?_
 rw[cH dW _]
 show wpAny _ A.in1 (seqItems? (.ref S) >>= _) _ _ s
 refine Pl (Pz hS rfl ?_)
 show wpAny _ A.in1 (tryCatch (pyNext (.ref I)) _ >>= _) _ _ s
 refine Pl (OI (W.done s _ _ (hn ▸ hst) fun h' tk hk'=>?_))
 exact Pl (Od (Pm (hR h' tk hk')))
theorem WO(a v:Value):argsOk "max" ⟨[a],[(Str.ofString "default",v)]⟩:=by unfold argsOk;kernel_rfl
theorem Uh{x d:Value}{s:Shared}{E:AB}{Q:AB}
  (h:wpAny (model prog w) A.in1 (pyIter x) (fun it s2=>∃I fp wr n P St bt,it=.ref I/\Walks prog w A.in1 I fp wr n P St/\St 0 s2.heap/\(∀b∈fp,b<s2.heap.objs.size)/\CmpOf prog w A.in1 .Gt P bt/\
   (n=0->∀h' tk,(∀b o,b∉wr->s2.heap.get? b=some o->h'.get? b=some o)->Q d { s2 with heap:=h',toks:=tk })/\
   (0<n->∀v h' tk,P (argBest bt (n-1)) v->(∀b o,b∉wr->s2.heap.get? b=some o->h'.get? b=some o)->Q v { s2 with heap:=h',toks:=tk })) E s) :
  wpAny (model prog w) A (call (.builtin "max") [x] [(Str.ofString "default",d)]) Q E s:=by
 have K2:(toString "max"++toString ".loop":String)="max.loop":=by decide
 refine kmk_tree PySem.F.kind_max PySem.F.plain_max PySem.F.entry_max (WO _ _) ?_
 show wpAny _ A.in1 (Builtin.Builtins.bindParams "max" ["key","default"] 0 ⟨[],[(Str.ofString "default",d)]⟩ >>= _) _ _ s
 refine Pl (OQ (show Builtin.Builtins.bindParams "max" ["key","default"] 0 ⟨[],[(Str.ofString "default",d)]⟩=pure [none,some d] from by kernel_rfl) ?_)
 refine Pl (Pm ?_)
 refine Pl (OF h (fun it s2 h2=>?_) fun _ _ e=>e)
 obtain⟨I,fp,wr,n,P,St,bt,rfl,W,hst,hfp,O9,hQ0,hQ⟩:=h2
 refine Pl (OA ?_)
 have hSf:s2.heap.objs.size∉fp:=fun hm=>eF _ (hfp _ hm)
 rw[K2]
 refine Pm ⟨OB dW _,?_⟩
 by_cases hn:n=0
 ·exact TC W s2.heap.objs.size hSf _ d hn (W.frame _ _ _ hst fun b _ o e=>bB _ e) (bJ _ rfl) fun h' tk hk=>hQ0 hn h' tk fun b o hbw e=>hk b o hbw (bB _ e)
 ·exact RW W bt O9 s2.heap.objs.size hSf _ (jU hn) (W.frame _ _ _ hst fun b _ o e=>bB _ e) (bJ _ rfl) fun v h' tk hP hk=>
   hQ (jU hn) v h' tk hP fun b o hbw e=>hk b o hbw (c8 (bQ e)) (bB _ e)
theorem Ui(W:Walks prog w A.in1 I fp wr n P St)(bt:Nat->Nat->Bool)(O9:CmpOf prog w A.in1 .Lt P bt)(S:Addr)(hSf:S∉fp)(kw:List (Str×Value)) :
  ∀(k j:Nat) (s:Shared) (vb:Value) (c:Nat),n-(j+1)=k->j+1<=n->St (j+1) s.heap->P (argBest bt j) vb->
  s.heap.get? S=some { cls:=.type "list",dict:=none,data:=.seq #[vb,vb] c,slots:=#[] }->
  (∀v h' tk,P (argBest bt (n-1)) v->(∀b o,b∉wr->b≠S->s.heap.get? b=some o->h'.get? b=some o)->R (.ok (.ret v)) { s with heap:=h',toks:=tk })->
  codeAny (model prog w) A (.builtin "min.loop" ⟨[.ref I,.none,.ref S],kw⟩) R s:=by
 have hSw:S∉wr:=fun h=>hSf (W.sub _ h)
 have K2:(toString "min"++toString ".loop":String)="min.loop":=by decide
 intro k
 induction k with
 | zero=>
  intro j s vb c hk hj hst hPb hS hR
  have hin:j+1=n:=by lia
  refine Pw h9 ?_
  rw[cH dX _]
  show wpAny _ A.in1 (seqItems? (.ref S) >>= _) _ _ s
  refine Pl (Pz hS rfl ?_)
  show wpAny _ A.in1 (tryCatch (pyNext (.ref I)) _ >>= _) _ _ s
  refine Pl (OI (W.done s _ _ (hin ▸ hst) fun h' tk hk'=>?_))
  have hS':=hk' S _ hSw hS
  show wpAny _ A.in1 (updateSeq S (fun _=>#[]) >>= _) _ _ _
  refine Pl ?_
  refine Oc hS' rfl (Pl (OW (Pm ?_)))
  refine hR vb _ tk (by rw[<- hin];exact hPb) fun b o hbw hbS e=>(cZ _ _ (eQ hbS)).trans (hk' b o hbw e)
 | succ k ih=>
  intro j s vb c hk hj hst hPb hS hR
  have hlt:j+1<n:=by lia
  refine Pw h9 ?_
  rw[cH dX _]
  show wpAny _ A.in1 (seqItems? (.ref S) >>= _) _ _ s
  refine Pl (Pz hS rfl ?_)
  show wpAny _ A.in1 (tryCatch (pyNext (.ref I)) _ >>= _) _ _ s
  refine Pl (OI (W.item (j+1) s _ _ hlt hst fun v h' tk hP hst' hk'=>?_))
  have hS':=hk' S _ hSw hS
  show wpAny _ A.in1 (tryCatch (holding [v,v] (richCompare .Lt v vb >>= _)) _ >>= _) _ _ _
  refine Pl (OI (Py (Pl (O9 (j+1) (argBest bt j) v vb _ _ _ hP hPb ?_))))
  refine Pl (Py (OT ?_))
  refine Pl (OW (Pm ?_))
  cases hb:bt (j+1) (argBest bt j) with
  | true=>
   simp only[if_true]
   refine Pl ?_
   refine Oc hS' rfl (Pl (OW ?_))
   rw[K2]
   refine Pm ⟨OB dX _,ih (j+1) _ v _ (by lia) hlt (W.frame _ _ _ hst' fun b hbf o e=>?_) (by simp only[argBest,hb,if_true];exact hP) (dO _ hS' rfl)
    fun v' h'' tk'' hP' hk''=>?_⟩
   ·exact(cZ _ _ (fun h:S=b=>hSf (by rw[h];exact hbf))).trans e
   ·exact hR v' h'' tk'' hP' fun b o hbw hbS e=>hk'' b o hbw hbS ((cZ _ _ (eQ hbS)).trans (hk' b o hbw e))
  | false=>
   simp only[fV,if_false]
   refine Pl (OW ?_)
   rw[K2]
   refine Pm ⟨OB dX _,ih (j+1) _ vb c (by lia) hlt hst' (by simp only[argBest,hb,fV,if_false];exact hPb) hS' fun v' h'' tk'' hP' hk''=>?_⟩
   exact hR v' h'' tk'' hP' fun b o hbw hbS e=>hk'' b o hbw hbS (hk' b o hbw e)
theorem Sg(W:Walks prog w A.in1 I fp wr n P St)(bt:Nat->Nat->Bool)(O9:CmpOf prog w A.in1 .Lt P bt)(S:Addr)(hSf:S∉fp)(kw:List (Str×Value))(hn:0<n){s:Shared}{c:Nat}(hst:St 0 s.heap)
  (hS:s.heap.get? S=some { cls:=.type "list",dict:=none,data:=.seq #[] c,slots:=#[] })
  (hR:∀v h' tk,P (argBest bt (n-1)) v->(∀b o,b∉wr->b≠S->s.heap.get? b=some o->h'.get? b=some o)->R (.ok (.ret v)) { s with heap:=h',toks:=tk }) :
  codeAny (model prog w) A (.builtin "min.loop" ⟨[.ref I,.none,.ref S],kw⟩) R s:=by
 have hSw:S∉wr:=fun h=>hSf (W.sub _ h)
 have K2:(toString "min"++toString ".loop":String)="min.loop":=by decide
 refine Pw h9 ?_
 rw[cH dX _]
 show wpAny _ A.in1 (seqItems? (.ref S) >>= _) _ _ s
 refine Pl (Pz hS rfl ?_)
 show wpAny _ A.in1 (tryCatch (pyNext (.ref I)) _ >>= _) _ _ s
 refine Pl (OI (W.item 0 s _ _ hn hst fun v h' tk hP hst' hk'=>?_))
 have hS':=hk' S _ hSw hS
 show wpAny _ A.in1 (updateSeq S (fun _=>#[v,v]) >>= _) _ _ _
 refine Pl ?_
 refine Oc hS' rfl ?_
 rw[K2]
 refine Pm ⟨OB dX _,Ui W bt O9 S hSf kw _ 0 _ v _ rfl hn (W.frame _ _ _ hst' fun b hbf o e=>?_) hP (dO _ hS' rfl) fun v' h'' tk'' hP' hk''=>?_⟩
 ·exact(cZ _ _ (fun h:S=b=>hSf (by rw[h];exact hbf))).trans e
 ·exact hR v' h'' tk'' hP' fun b o hbw hbS e=>hk'' b o hbw hbS ((cZ _ _ (eQ hbS)).trans (hk' b o hbw e))
theorem TL(W:Walks prog w A.in1 I fp wr n P St)(S:Addr)(hSf:S∉fp)(kn:Str)(d:Value)(hn:n=0){s:Shared}{c:Nat}(hst:St 0 s.heap)
  (hS:s.heap.get? S=some { cls:=.type "list",dict:=none,data:=.seq #[] c,slots:=#[] })
  (hR:∀h' tk,(∀b o,b∉wr->s.heap.get? b=some o->h'.get? b=some o)->R (.ok (.ret d)) { s with heap:=h',toks:=tk }) :
  codeAny (model prog w) A (.builtin "min.loop" ⟨[.ref I,.none,.ref S],[(kn,d)]⟩) R s:=by
 refine Pw h9 ?_
 rw[cH dX _]
 show wpAny _ A.in1 (seqItems? (.ref S) >>= _) _ _ s
 refine Pl (Pz hS rfl ?_)
 show wpAny _ A.in1 (tryCatch (pyNext (.ref I)) _ >>= _) _ _ s
 refine Pl (OI (W.done s _ _ (hn ▸ hst) fun h' tk hk'=>?_))
 exact Pl (Od (Pm (hR h' tk hk')))
theorem WN(a v:Value):argsOk "min" ⟨[a],[(Str.ofString "default",v)]⟩:=by unfold argsOk;kernel_rfl
theorem UO{x d:Value}{s:Shared}{E:AB}{Q:AB}
  (h:wpAny (model prog w) A.in1 (pyIter x) (fun it s2=>∃I fp wr n P St bt,it=.ref I/\Walks prog w A.in1 I fp wr n P St/\St 0 s2.heap/\(∀b∈fp,b<s2.heap.objs.size)/\CmpOf prog w A.in1 .Lt P bt/\
   (n=0->∀h' tk,(∀b o,b∉wr->s2.heap.get? b=some o->h'.get? b=some o)->Q d { s2 with heap:=h',toks:=tk })/\
   (0<n->∀v h' tk,P (argBest bt (n-1)) v->(∀b o,b∉wr->s2.heap.get? b=some o->h'.get? b=some o)->Q v { s2 with heap:=h',toks:=tk })) E s) :
  wpAny (model prog w) A (call (.builtin "min") [x] [(Str.ofString "default",d)]) Q E s:=by
 have K2:(toString "min"++toString ".loop":String)="min.loop":=by decide
 refine kmk_tree PySem.F.kind_min PySem.F.plain_min PySem.F.entry_min (WN _ _) ?_
 show wpAny _ A.in1 (Builtin.Builtins.bindParams "min" ["key","default"] 0 ⟨[],[(Str.ofString "default",d)]⟩ >>= _) _ _ s
 refine Pl (OQ (show Builtin.Builtins.bindParams "min" ["key","default"] 0 ⟨[],[(Str.ofString "default",d)]⟩=pure [none,some d] from by kernel_rfl) ?_)
 refine Pl (Pm ?_)
 refine Pl (OF h (fun it s2 h2=>?_) fun _ _ e=>e)
 obtain⟨I,fp,wr,n,P,St,bt,rfl,W,hst,hfp,O9,hQ0,hQ⟩:=h2
 refine Pl (OA ?_)
 have hSf:s2.heap.objs.size∉fp:=fun hm=>eF _ (hfp _ hm)
 rw[K2]
 refine Pm ⟨OB dX _,?_⟩
 by_cases hn:n=0
 ·exact TL W s2.heap.objs.size hSf _ d hn (W.frame _ _ _ hst fun b _ o e=>bB _ e) (bJ _ rfl) fun h' tk hk=>hQ0 hn h' tk fun b o hbw e=>hk b o hbw (bB _ e)
 ·exact Sg W bt O9 s2.heap.objs.size hSf _ (jU hn) (W.frame _ _ _ hst fun b _ o e=>bB _ e) (bJ _ rfl) fun v h' tk hP hk=>
   hQ (jU hn) v h' tk hP fun b o hbw e=>hk b o hbw (c8 (bQ e)) (bB _ e)
end
theorem kf(f:Nat->Int):∀k,argBest (fun i j=>decide (f i > f j)) k<=k/\∀i,i<=k->f i<=f (argBest (fun i j=>decide (f i > f j)) k)
 | 0=>⟨bG _,fun i hi=>by rw[Nat.le_zero.mp hi];exact hE _⟩
 | k+1=>by
  obtain⟨h1,h2⟩:=kf f k
  unfold argBest
  by_cases c:f (k+1) > f (argBest (fun i j=>decide (f i > f j)) k)
  ·rw[Po (Pq c)]
   refine⟨bG _,fun i hi=>?_⟩
   by_cases e:i=k+1
   ·rw[e];exact hE _
   ·have:=h2 i (by lia)
    lia
  ·rw[Pn (by rw[Pt c];exact bP)]
   refine⟨by lia,fun i hi=>?_⟩
   by_cases e:i=k+1
   ·rw[e];lia
   ·exact h2 i (by lia)
theorem YT(f:Nat->Int):∀k,argBest (fun i j=>decide (f i<f j)) k<=k/\∀i,i<=k->f (argBest (fun i j=>decide (f i<f j)) k)<=f i
 | 0=>⟨bG _,fun i hi=>by rw[Nat.le_zero.mp hi];exact hE _⟩
 | k+1=>by
  obtain⟨h1,h2⟩:=YT f k
  unfold argBest
  by_cases c:f (k+1)<f (argBest (fun i j=>decide (f i<f j)) k)
  ·rw[Po (Pq c)]
   refine⟨bG _,fun i hi=>?_⟩
   by_cases e:i=k+1
   ·rw[e];exact hE _
   ·have:=h2 i (by lia)
    lia
  ·rw[Pn (by rw[Pt c];exact bP)]
   refine⟨by lia,fun i hi=>?_⟩
   by_cases e:i=k+1
   ·rw[e];lia
   ·exact h2 i (by lia)
section
variable{X:Cx}
noncomputable def SqI(K:AA)(H:Hp)(p:Addr)(ns:AJ):Prop:=SqL K H p (ns.map V.int)\/SqT K H p (ns.map V.int)
theorem vv{ns:AJ}{zC:AG}(r:Vals (ns.map V.int) zC):∀(i:Nat) (v:Value),zC.toArray[i]? = some v->∃t,v=.int (ns.getD i 0) t:=by
 intro i v e
 have e':zC[i]? = some v:=by simpa using e
 have hi:i<zC.length:=(bK.mp e').1
 have hl:=r.length
 rw[bA] at hl
 obtain⟨u,hu,ru⟩:=r.get (i:=i) (x:=.int (ns.getD i 0)) (by
  rw[bE,bR]
  have:ns[i]? = some ns[i]:=bC (by lia)
  rw[this];rfl)
 rw[e'] at hu
 cases hu
 exact ru
theorem qN{z4:List AE}{σ:St}{H:Hp}{s:Shared}{p:Addr}{ns:AJ}{A:Around}{E:AB}{Q:AB}(I:Inv X z4 σ H s)(hh:A.handled=none)(hq:SqI X.K H p ns)
  (h:∀(it:Addr) (fp:List Addr) (St:Nat->Heap->Prop) (zC:AG) (s2:Shared),Vals (ns.map V.int) zC->Walks X.prog X.w A it fp [it] zC.toArray.size (fun i v=>zC.toArray[i]? = some v) St->St 0 s2.heap->(∀b∈fp,b<s2.heap.objs.size)->
   (∀h' tk,(∀b o,b∉[it]->s2.heap.get? b=some o->h'.get? b=some o)->Inv X z4 σ H { s2 with heap:=h',toks:=tk })->Q (.ref it) s2) :
  wpAny (model X.prog X.w) A (pyIter (.ref p)) Q E s:=by
 have back:∀(o:Obj) (h':Heap) (tk:Nat),(∀b ob,b∉[s.heap.objs.size]->(s.heap.push o).get? b=some ob->h'.get? b=some ob)->Inv X z4 σ H { s with heap:=h',toks:=tk }:=fun o h' tk k=>
  I.kept fun b ob e=>k b ob (fun z=>ND (bQ e) (by rw[bD.mp z];exact eF _)) (bB _ e)
 rcases hq with hq|hq
 ·obtain⟨zC,r,pl,hz⟩:=I.list hq
  have hlt:p<s.heap.objs.size:=by obtain⟨_,e,_⟩:=pl.isList;exact bQ e
  refine ON pl.isList ?_
  refine h s.heap.objs.size [s.heap.objs.size,p] _ zC _ r (Walks.list hh s.heap.objs.size p (c8 hlt) zC.toArray) ⟨⟨_,bJ _ rfl,rfl,rfl⟩,pl.isList.push _⟩ (fun b hb=>?_) fun h' tk k=>back _ h' tk k
  show b<(s.heap.push _).objs.size
  rw[eI]
  rcases bI.mp hb with rfl|hb
  ·exact gD _
  ·rw[bD.mp hb];exact fH hlt
 ·obtain⟨zC,r,pl,hz⟩:=I.tuple hq
  have hlt:p<s.heap.objs.size:=by obtain⟨_,e,_⟩:=pl;exact bQ e
  refine OL (show s.heap.IsTuple p zC.toArray from pl) ?_
  refine h s.heap.objs.size [s.heap.objs.size,p] _ zC _ r (Walks.tuple hh s.heap.objs.size p (c8 hlt) zC.toArray) ⟨⟨_,bJ _ rfl,rfl,rfl⟩,?_⟩ (fun b hb=>?_) fun h' tk k=>back _ h' tk k
  ·obtain⟨o,e,c⟩:=(show s.heap.IsTuple p zC.toArray from pl)
   exact⟨o,bB _ e,c⟩
  ·show b<(s.heap.push _).objs.size
   rw[eI]
   rcases bI.mp hb with rfl|hb
   ·exact gD _
   ·rw[bD.mp hb];exact fH hlt
noncomputable def aZ(K:AA)(le:Int->Int->Prop)(ta td:TA):TE:=fun σ H Q=>ta σ H fun xs H1=>td σ H1 fun ds H2=>∃p ns d,xs=[.ref p]/\ds=[d]/\SqI K H2 p ns/\(ns=[]->Q d H2)/\∀m,m∈ns->(∀y∈ns,le y m)->Q (.int m) H2
theorem kb{ns:AJ}{i:Nat}(h:i<ns.length):ns.getD i 0∈ns:=by
 rw[bR,bC h]
 exact fT h
theorem kh{ns:AJ}{y:Int}(h:y∈ns):∃i,i<ns.length/\ns.getD i 0=y:=by
 obtain⟨i,hi,e⟩:=List.mem_iff_getElem.mp h
 refine⟨i,hi,?_⟩
 rw[bR,bC hi]
 exact e
theorem YA{e:Expr}{p pos kp:Pos}{dx:Expr}{ta td:TA}(hc:X.calm=true)(hg:Gl X "max")(hm:X.mg "max"=none)(ha:PA X [e] ta)(hd:PK X [⟨some (Str.ofString "default"),dx,kp⟩] td)
  (he:backTo pos (starEach [e] X.env)=(false,eval e X.env)::backTo pos (starEach [] X.env):=by rfl)
  (O7:(backTo pos (starEach [e] X.env)).any (·.1)=false:=by rfl)
  (D4:(backToKw pos (keywordEach [⟨some (Str.ofString "default"),dx,kp⟩] X.env)).all (·.1.isSome)=true:=by rfl)
  (hkw:(backToKw pos (keywordEach [⟨some (Str.ofString "default"),dx,kp⟩] X.env)).any (·.1.isNone)=false:=by rfl) :
  PE X (.Call (.Name "max" p) [e] [⟨some (Str.ofString "default"),dx,kp⟩] pos) (aZ X.K (fun y m=>y<=m) ta td):=by
 intro z4 s σ H Q I h
 refine OX (wF I hg hm fM ?_)
 refine PyProof.Rows.callWith_kw (thn (ha pos z4 s σ H _ I h) fun us s1 ⟨vs,H1,I1,r,q⟩=>?_) he O7 D4 hkw
 refine thn (hd pos z4 s1 σ H1 _ I1 q) fun ws s2 ⟨zs,H2,I2,rz,q2⟩=>?_
 obtain⟨a,ns,d,e1,e2,hq,q0,q1⟩:=q2
 subst e1 e2
 obtain⟨u,rfl,ru⟩:=xK r
 cases ru
 obtain⟨dv,rfl,rd⟩:=xK rz
 show wpAny _ X.A (call (.builtin "max") [.ref a] [(Str.ofString "default",dv)]) _ _ _
 refine Uh (qN (A:=X.A.in1) I2 (I2.ok.hd hc) hq fun it fp St zC s3 rv W st hfp back=>?_)
 have hl:=rv.length
 rw[bA] at hl
 refine⟨it,fp,[it],_,_,St,_,rfl,W,st,hfp,CmpOf.ints_gt (fun i=>ns.getD i 0) (vv rv),fun hn h' tk k=>?_,fun hn v h' tk hv k=>?_⟩
 ·rw[bN] at hn
  exact⟨d,H2,back h' tk k,rd,q0 (dD (by lia))⟩
 ·rw[bN] at hn hv
  obtain⟨t,rfl⟩:=vv rv _ _ hv
  obtain⟨b1,b2⟩:=kf (fun i=>ns.getD i 0) (zC.length-1)
  refine⟨.int _,H2,back h' tk k,⟨t,rfl⟩,q1 _ (kb (by lia)) fun y hy=>?_⟩
  obtain⟨i,hi,rfl⟩:=kh hy
  exact b2 i (by lia)
theorem Zk{e:Expr}{p pos kp:Pos}{dx:Expr}{ta td:TA}(hc:X.calm=true)(hg:Gl X "min")(hm:X.mg "min"=none)(ha:PA X [e] ta)(hd:PK X [⟨some (Str.ofString "default"),dx,kp⟩] td)
  (he:backTo pos (starEach [e] X.env)=(false,eval e X.env)::backTo pos (starEach [] X.env):=by rfl)
  (O7:(backTo pos (starEach [e] X.env)).any (·.1)=false:=by rfl)
  (D4:(backToKw pos (keywordEach [⟨some (Str.ofString "default"),dx,kp⟩] X.env)).all (·.1.isSome)=true:=by rfl)
  (hkw:(backToKw pos (keywordEach [⟨some (Str.ofString "default"),dx,kp⟩] X.env)).any (·.1.isNone)=false:=by rfl) :
  PE X (.Call (.Name "min" p) [e] [⟨some (Str.ofString "default"),dx,kp⟩] pos) (aZ X.K (fun y m=>m<=y) ta td):=by
 intro z4 s σ H Q I h
 refine OX (wF I hg hm PyProof.Rows.boot_min ?_)
 refine PyProof.Rows.callWith_kw (thn (ha pos z4 s σ H _ I h) fun us s1 ⟨vs,H1,I1,r,q⟩=>?_) he O7 D4 hkw
 refine thn (hd pos z4 s1 σ H1 _ I1 q) fun ws s2 ⟨zs,H2,I2,rz,q2⟩=>?_
 obtain⟨a,ns,d,e1,e2,hq,q0,q1⟩:=q2
 subst e1 e2
 obtain⟨u,rfl,ru⟩:=xK r
 cases ru
 obtain⟨dv,rfl,rd⟩:=xK rz
 show wpAny _ X.A (call (.builtin "min") [.ref a] [(Str.ofString "default",dv)]) _ _ _
 refine UO (qN (A:=X.A.in1) I2 (I2.ok.hd hc) hq fun it fp St zC s3 rv W st hfp back=>?_)
 have hl:=rv.length
 rw[bA] at hl
 refine⟨it,fp,[it],_,_,St,_,rfl,W,st,hfp,CmpOf.ints_lt (fun i=>ns.getD i 0) (vv rv),fun hn h' tk k=>?_,fun hn v h' tk hv k=>?_⟩
 ·rw[bN] at hn
  exact⟨d,H2,back h' tk k,rd,q0 (dD (by lia))⟩
 ·rw[bN] at hn hv
  obtain⟨t,rfl⟩:=vv rv _ _ hv
  obtain⟨b1,b2⟩:=YT (fun i=>ns.getD i 0) (zC.length-1)
  refine⟨.int _,H2,back h' tk k,⟨t,rfl⟩,q1 _ (kb (by lia)) fun y hy=>?_⟩
  obtain⟨i,hi,rfl⟩:=kh hy
  exact b2 i (by lia)
noncomputable def Q2(i:Int)(n:Nat):AK:=(List.range n).map fun(k:Nat)=>V.int (i+(k:Int))
theorem SF:yo X (.type "range") (fun xs H Q=>∃i j,xs=[.int i,.int j]/\∀p,H p=none->Q (.ref p) (upd H p (.rng i j))):=by
 intro z4 s σ H xs us Q I r h
 obtain⟨i,j,rfl,q⟩:=h
 obtain⟨u,w',rfl,⟨t,rfl⟩,⟨t',rfl⟩⟩:=rA r
 refine call_range_2 ?_
 refine⟨.ref s.heap.objs.size,_,I.laid (fun b o e=>bB _ e) (bG _) (show zv X.prog X.w _ _ _ (.rng i j) from⟨t,t',s.toks,bJ _ rfl⟩),rfl,q _ (I.hok.fresh (bG _))⟩
theorem Pf{prog:Program}{w:World}{A:Around}{E:AB}{s:Shared}{Q:AG->Shared->Prop}{r:Addr}{a b c:Int}{t u v:Tok}{n:Nat}(hh:A.handled=none)(hr:IsRange s.heap r a b c t u v)(S2:Builtin.Range.small a b c=true)
  (hn:Builtin.Range.rangeSize a b c=n) (zU:n<=2^24)
  (hQ:∀h' tk zK,(∀b o,s.heap.get? b=some o->h'.get? b=some o)->ItemsOf (fun i v=>∃t,v=.int (a+i*c) t) zK n->Q zK.toList { s with heap:=h',toks:=tk }) :
  wpAny (model prog w) A (collect (.ref r)) Q E s:=by
 unfold collect
 refine Pl (Oi (Pw PySem.F.entry_proto_collect ?_))
 rw[cH PySem.F.plain_proto_collect _]
 show wpAny _ A.in1 (newList [] >>= fun l=>again (.builtin "list.__iadd__" ⟨[l,.ref r],[]⟩)) _ _ s
 refine Pl (OA ?_)
 refine Pm ⟨OB gR _,Pw PySem.F.entry_list_iadd ?_⟩
 rw[cH gR _]
 show wpAny _ A.in1 (Builtin.List.listExtendWith (.ref s.heap.objs.size) (.ref r) (.ref s.heap.objs.size)) _ _ _
 have hS:(s.heap.push { cls:=.type "list",data:=.seq ([]:AG).toArray }).get? s.heap.objs.size=some { cls:=.type "list",data:=.seq #[] 0 }:=bJ _ rfl
 have fin:∀(r':Result) (s':Shared),(∃h' tk zK c',r'=.ok (.ret (.ref s.heap.objs.size))/\s'={ s with heap:=h',toks:=tk }/\(∀b o,s.heap.get? b=some o->h'.get? b=some o)/\
   h'.get? s.heap.objs.size=some { cls:=.type "list",dict:=none,data:=.seq zK c',slots:=#[] }/\ItemsOf (fun i v=>∃t,v=.int (a+i*c) t) zK n)->
   match r' with
   | Except.ok (Flow.ret v)=>wpAny (model prog w) A (match v with
     | Value.ref a=>do
      match (<- load a).data with
       | Data.seq xs _=>pure xs.toList
       | _=>unsupported "internal:collect"
     | _=>unsupported "internal:collect") Q E s'
   | Except.ok _=>False
   | Except.error e=>E e s':=by
  rintro r' s' ⟨h',tk,zK,c',rfl,rfl,hk,hS',hacc⟩
  show wpAny _ A (load s.heap.objs.size >>= _) _ _ _
  refine Pl (wpAny_load hS' ?_)
  exact Pm (hQ h' tk zK hk hacc)
 refine OF (wpAny_extend_range (A:=A) (R:=fun r' s'=>∃h' tk zK c',r'=.ok (.ret (.ref s.heap.objs.size))/\s'={ s with heap:=h',toks:=tk }/\(∀b o,s.heap.get? b=some o->h'.get? b=some o)/\
   h'.get? s.heap.objs.size=some { cls:=.type "list",dict:=none,data:=.seq zK c',slots:=#[] }/\ItemsOf (fun i v=>∃t,v=.int (a+i*c) t) zK n)
  (s:={ s with heap:=s.heap.push { cls:=.type "list",data:=.seq ([]:AG).toArray } }) hh (bB _ hr) S2 hn zU s.heap.objs.size _ 0 hS
  fun h' tk zK c' hk hS' hacc=>⟨h',tk,zK,c',rfl,rfl,fun b o e=>hk b o (c8 (bQ e)) (bB _ e),hS',hacc⟩) (fun f s' h=>?_) (fun e s' h=>?_)
 ·cases f with
  | done f=>exact fin _ _ h
  | again c'=>exact⟨h.1,OR h.2 fun r' s'' hr'=>fin _ _ hr'⟩
 ·obtain⟨_,_,_,_,e,_⟩:=h
  cases e
theorem WM(r:Addr)(a b:Int)(t u v:Tok)(n:Nat)(S2:Builtin.Range.small a b 1=true)(hn:Builtin.Range.rangeSize a b 1=n)(zU:n<=2^24) :
  Meets (Builtin.«tuple.__new__» ⟨[.type "tuple",.ref r],[]⟩)
   (fun A R s=>A.handled=none/\IsRange s.heap r a b 1 t u v/\∀(h':Heap) (tk:Nat) (zK:AI),(∀b o,s.heap.get? b=some o->h'.get? b=some o)->ItemsOf (fun i v=>∃t,v=.int (a+i*1) t) zK n->
    R (.ok (.ret (.ref h'.objs.size))) { s with heap:=h'.push { cls:=.type "tuple",data:=.seq zK },toks:=tk }):=
 .of_wp fun prog w A R s h=>by
  obtain⟨hp,g,d,tk0,os⟩:=s
  obtain⟨hh,hr,h⟩:=h
  have X5:=sub_tuple_self
  have hinit:=init_tuple_lookup
  have hmh:=madeHere_tuple
  have hT:Shared.TypeIs ⟨hp,g,d,tk0,os⟩ (.ref r) "range":=⟨_,hr,rfl⟩
  have hh1:A.in1.handled=none:=hh
  wp_walk using Oh hT,Pf hh1 hr S2 hn zU
  intro h' tk zK hk hacc
  show wpAny _ _ (Builtin.Tuple.tupleExact zK.toList.toArray >>= fun v=>ret v) _ _ _
  unfold Builtin.Tuple.tupleExact
  refine Pl (OA ?_ (show zK.toList.toArray.size<=sizeLine by simp only[Array.toArray_toList];rw[hacc.1,OM];lia))
  refine Pm ⟨_,rfl,?_⟩
  have e:zK.toList.toArray=zK:=by simp
  rw[e]
  exact h h' tk zK hk hacc
theorem Uw{a:Int}{zK:AI}{n:Nat}(h:ItemsOf (fun i v=>∃t,v=Value.int (a+(i:Int)*1) t) zK n):Vals (Q2 a n) zK.toList:=by
 have go:∀(l:AG) (k:Nat),(∀(j:Nat) (v:Value),l[j]? = some v->∃t,v=Value.int (a+((k+j:Nat):Int)) t)->Vals ((List.range' k l.length).map fun(j:Nat)=>V.int (a+(j:Int))) l:=by
  intro l
  induction l with
  | nil=>intro k _;exact .nil
  | cons x r ih=>
   intro k hx
   rw[bW,List.range'_succ,cJ]
   refine .cons ?_ (ih (k+1) fun j v e=>?_)
   ·obtain⟨t,e⟩:=hx 0 x rfl
    exact⟨t,e⟩
   ·obtain⟨t,e'⟩:=hx (j+1) v (by simpa using e)
    refine⟨t,e'.trans ?_⟩
    congr 1
    lia
 have q:=go zK.toList 0 fun j v e=>by
  obtain⟨t,e'⟩:=h.2 j v (by simpa using e)
  exact⟨t,by rw[e'];congr 1;first|done|lia⟩
 unfold Q2
 rw[List.range_eq_range']
 have hn:zK.toList.length=n:=by simpa using h.1
 rw[hn] at q
 exact q
theorem WE(hc:X.calm=true):yo X (.type "tuple") (fun xs H Q=>∃p i j,xs=[.ref p]/\H p=some (.rng i j)/\(-(2^62)<=i/\i<2^62/\-(2^62)<=j/\j<2^62)/\(j-i).toNat<=2^24/\
  ∀l,H l=none->Q (.ref l) (upd H l (.tup (Q2 i (j-i).toNat)))):=by
 intro z4 s σ H xs us Q I r h
 obtain⟨p,i,j,rfl,hp,⟨h1,h2,h3,h4⟩,zU,q⟩:=h
 obtain⟨u,rfl,rx⟩:=xK r
 cases rx
 obtain⟨t,u',v,e⟩:=(show zv X.prog X.w H s.heap p (.rng i j) from I.hok p _ hp)
 have hn:Builtin.Range.rangeSize i j 1=(((j-i).toNat:Nat):Int):=by rw[rangeSize_one];split<;>lia
 refine callType_new PySem.F.called_tuple (by decide) (PySem.F.typeCall_tuple_1 _) (PySem.F.newCall_tuple_1 _) (fun obj=>PySem.F.args_object_init_2 obj _) PySem.F.entry_tuple_new
  (WM p i j t u' v _ (small_one h1 h2 h3 h4) hn zU) ⟨I.ok.hd hc,e,fun h' tk zK hk hacc=>⟨⟨_,bJ _ rfl,rfl⟩,?_⟩⟩
 have I1:Inv X z4 σ H { s with heap:=h',toks:=tk }:=I.kept hk
 have z:(Q2 i (j-i).toNat).length<=sizeLine:=by unfold Q2;rw[bA,fI,OM];lia
 have I2:Inv X z4 σ (upd H h'.objs.size (.tup (Q2 i (j-i).toNat))) { s with heap:=h'.push { cls:=.type "tuple",data:=.seq zK },toks:=tk }:=
  I1.laid (t':=tk) (fun b o e=>bB _ e) (bG _) (show zv X.prog X.w _ _ _ (.tup _) from⟨z,zK.toList,Uw hacc,by simpa using PlT.new h' zK⟩)
 exact⟨.ref h'.objs.size,_,I2,rfl,q _ (I1.hok.fresh (bG _))⟩
theorem iV:yo X (.builtin "sorted") (fun xs H Q=>∃(p:Addr) (ns:AJ),xs=[.ref p]/\SqL X.K H p (ns.map V.int)/\ns.length<64/\
  ∀(l:Addr) (ns':AJ),H l=none->ns'.Perm ns->ns'.Pairwise (·<=·)->Q (.ref l) (upd H l (.lst (ns'.map V.int)))):=by
 intro z4 s σ H xs us Q I r h
 obtain⟨p,ns,rfl,hq,h64,q⟩:=h
 obtain⟨u,rfl,rx⟩:=xK r
 cases rx
 obtain⟨zC,rv,pl,hz⟩:=I.list hq
 have hl:=rv.length
 rw[bA] at hl hz
 refine sorted_ints pl.isList (QQ rv) (by lia) fun out ns' a1 a2 a3=>?_
 obtain⟨e,he⟩:=sortedAll_at s.heap zC out
 have zU:=a2.length_eq
 refine⟨.ref (s.heap.objs.size+1),_,I.laid (t':=s.toks) (fun b o e=>sortedAll_old e) (fN _) (show zv X.prog X.w _ _ _ (.lst (ns'.map V.int)) from⟨?_,out.toList,e,tm a1,?_⟩),rfl,q _ ns' (I.hok.fresh (fN _)) a2 a3⟩
 ·rw[bA,zU];exact hz
 ·simpa using he
noncomputable def Itd(hi:Int)(n:Nat):It:=⟨fun i _=>i<n,fun i H x H'=>H'=H/\x=.int (hi-i),fun i _=>n<=i⟩
theorem SQ{P:Program}{w:World}{K:AA}{tg:Expr}(it:Addr)(hi:Int)(n:Nat):Turn P w K tg (Itd hi n) [it] it (fun i h=>IsRangeIter h it (hi+(i:Nat)*(-1)) ((n:Int)-(i:Nat)) (-1)) where
 mem:=by simp
 obj:=fun i h st b hb=>by
  have e:b=it:=by simpa using hb
  subst e
  exact⟨_,st,fun v z=>by
   have z':Data.fields _=Data.cell v:=z
   cases z'⟩
 keep:=fun i h h' st k=>k it (by simp) _ st
 item:=by
  intro X hP hw hK hc i z4 s σ H E I hf st hg
  subst hP hw hK
  obtain⟨f0,f1,f2,f3,f4,f5⟩:=hf it (by simp)
  have W:=Walks.range (prog:=X.prog) (w:=X.w) (I.ok.hd hc) it hi (-1) n
  refine W.item i s _ _ hg st fun v h' tk hv st' kk=>?_
  obtain⟨t,rfl⟩:=hv
  have I1:Inv X z4 σ H { s with heap:=h',toks:=tk }:=I.turned (fun b o hb e=>kk b o (by simpa using hb) e) f0 f1 f3 f4 f5
  refine⟨_,rfl,uD (s:={ s with heap:=h',toks:=tk }) (n:="range_iterator") st' rfl rfl (by decide) ⟨.int (hi-i),H,I1,⟨t,?_⟩,⟨rfl,rfl⟩,st',fun b hb=>(hf b hb).1⟩⟩
  congr 1
  lia
 done:=by
  intro X hP hw hK hc i z4 s σ H E I hf st hg
  subst hP hw hK
  obtain⟨f0,f1,f2,f3,f4,f5⟩:=hf it (by simp)
  exact Oq (I.ok.hd hc) st (by have:n<=i:=hg;lia) fun h' eb=>⟨rfl,I.turned (t':=s.toks) (fun b o hb e=>eb b o hb e) f0 f1 f3 f4 f5⟩
 self:=fun _ _ _ _ _ st h=>Ot st h
theorem dg(a b:Int):Builtin.Range.rangeSize a b (-1)=(((a-b).toNat:Nat):Int):=by
 unfold Builtin.Range.rangeSize
 rw[Pn (by decide)]
 by_cases h:a > b
 ·rw[Po h]
  have e:(a-b-1) / (- -1)=a-b-1:=by
   show(a-b-1) / 1=_
   exact Int.ediv_one _
  rw[e]
  lia
 ·rw[Pn h]
  lia
theorem QF{a b:Int}(ha:-(2^62)<=a)(ha':a<2^62)(hb:-(2^62)<=b)(hb':b<2^62):Builtin.Range.small a b (-1)=true:=by
 unfold Builtin.Range.small
 rw[dg]
 simp only[Builtin.Range.rangeFitsLong,bX,gU,Pp,Oj]
 refine⟨?_,?_⟩<;>first|lia|(split<;>lia)|(simp<;>lia)
end
section
variable{X:Cx}{tg:Expr}
noncomputable def w05(ta:TA):TI:=fun σ H R=>ta σ H fun vs H1=>∃i j:Int,vs=[.int i,.int j,.int (-1)]/\(-(2^62)<=i/\i<2^62/\-(2^62)<=j/\j<2^62)/\R (Itd i (i-j).toNat) H1
theorem RA{a b c:Expr}{ta:TA}{p pos:Pos}(hg:Gl X "range")(hm:X.mg "range"=none)(ha:PA X [a,b,c] ta)
  (hs:starEach [a,b,c] X.env=[(false,eval a X.env),(false,eval b X.env),(false,eval c X.env)]:=by rfl) (hs2:starEach [b,c] X.env=[(false,eval b X.env),(false,eval c X.env)]:=by rfl) :
  PI X tg (.Call (.Name "range" p) [a,b,c] [] pos) (w05 ta):=by
 intro z4 s σ H R I h
 refine Call_ (wF I hg hm boot_range (dN (thn (ha pos z4 s σ H _ I h) fun us s1 ⟨vs,H1,I1,r1,q1⟩=>?_) (by rw[hs,hs2]) (by rw[hs2];rfl)))
 obtain⟨i,j,e,⟨q1,q2,q3,q4⟩,q⟩:=q1
 subst e
 cases r1 with
 | cons r rr=>
  cases rr with
  | cons r' rr=>
   cases rr with
   | cons r'' rr=>
    cases rr
    obtain⟨t,rfl⟩:=r
    obtain⟨t',rfl⟩:=r'
    obtain⟨t'',rfl⟩:=r''
    refine call_range_3 (by decide) ?_ (.inl (kB (by decide)))
    refine Ow (IsRange.new ..) (QF q1 q2 q3 q4) ?_
    have I2:Inv X z4 σ H1 { s1 with heap:=s1.heap.push { cls:=.type "range",data:=.fields #[.int i t,.int j t',.int (-1) t''] },toks:=s1.toks }:=I1.kept fun b o e=>bB _ e
    refine⟨(s1.heap.push { cls:=.type "range",data:=.fields #[.int i t,.int j t',.int (-1) t''] }).objs.size,[(s1.heap.push { cls:=.type "range",data:=.fields #[.int i t,.int j t',.int (-1) t''] }).objs.size],_,_,H1,rfl,
     I2.kept (t':=s1.toks) fun b o e=>bB _ e,SQ _ i (i-j).toNat,?_,fun b hb=>?_,q⟩
    ·have e1:i+((0:Nat):Int)*(-1)=i:=by simp
     have e2:(((i-j).toNat:Nat):Int)-((0:Nat):Int)=Builtin.Range.rangeSize i j (-1):=by rw[dg];lia
     show IsRangeIter _ _ (i+((0:Nat):Int)*(-1)) ((((i-j).toNat:Nat):Int)-((0:Nat):Int)) (-1)
     rw[e1,e2]
     exact bJ _ rfl
    ·have e:b=(s1.heap.push { cls:=.type "range",data:=.fields #[.int i t,.int j t',.int (-1) t''] }).objs.size:=by simpa using hb
     subst e
     exact I2.O6 (bG _) (I2.hok.fresh (bG _))
end
theorem UR{hi:Int}{n:Nat}{g:TG}{tb:TS}{D:Ends}{σ:St}{H:Hp}(Pv:Nat->St->Hp->Prop)(h0:Pv 0 σ H)
  (hs:∀i σ H,i<n->Pv i σ H->g (.int (hi-i)) σ H fun σ2 H2=>tb { D with nx:=Pv (i+1),ct:=Pv (i+1),bk:=D.nx } σ2 H2) (hd:∀σ H,Pv n σ H->D.nx σ H) :
  ∃W:Nat->Nat->St->Hp->Prop,(∃m,W 0 m σ H)/\∀i m σ H,W i m σ H->
   ((Itd hi n).stop i H/\D.nx σ H)\/((Itd hi n).go i H/\∃N:St->Hp->Prop,(∀σ' H',N σ' H'->∃m',m'<m/\W (i+1) m' σ' H')/\∀x H',(Itd hi n).yld i H x H'->g x σ H' fun σ2 H2=>tb { D with nx:=N,ct:=N,bk:=D.nx } σ2 H2):=by
 refine⟨fun i m σ H=>m=n-i/\i<=n/\Pv i σ H,⟨n,by simp,cQ _,h0⟩,?_⟩
 rintro i m σ H ⟨rfl,hi',p⟩
 by_cases hlt:i<n
 ·refine .inr ⟨hlt,Pv (i+1),fun σ' H' p'=>⟨n-(i+1),by lia,rfl,hlt,p'⟩,fun x H' y=>?_⟩
  obtain⟨e,y⟩:=y
  subst e y
  exact hs i σ _ hlt p
 ·have e:i=n:=by lia
  subst e
  exact .inl ⟨bG _,hd σ H p⟩
abbrev wY(J:It)(g:TG)(tc:TT)(te:TE)(σ0:St)(H1:Hp)(F:AK->Hp->Prop):Prop:=
 ∃W:Nat->Nat->AK->Hp->Prop,(∃m,W 0 m [] H1)/\∀i m ys H,W i m ys H->
  (J.stop i H/\F ys H)\/(J.go i H/\ys.length<sizeLine/\∃N:AK->Hp->Prop,(∀zs H',N zs H'->∃m',m'<m/\W (i+1) m' zs H')/\
   ∀x H',J.yld i H x H'->w6 g tc te σ0 x H' ys N)
theorem vY{K:AA}{a:Addr}{xs:AK}{g:TG}{tc:TT}{te:TE}{σ0:St}{H1:Hp}{F:AK->Hp->Prop}(Pv:Nat->AK->Hp->Prop)(h0:Pv 0 [] H1)
  (hl:∀i ys H,i<=xs.length->Pv i ys H->SqL K H a xs/\ys.length<sizeLine)
  (hs:∀i x ys H,xs[i]? = some x->Pv i ys H->w6 g tc te σ0 x H ys (Pv (i+1))) (hd:∀ys H,Pv xs.length ys H->F ys H):wY (Itl K a) g tc te σ0 H1 F:=by
 refine⟨fun i m ys H=>m=xs.length-i/\i<=xs.length/\Pv i ys H,⟨xs.length,by simp,cQ _,h0⟩,?_⟩
 rintro i m ys H ⟨rfl,hi,p⟩
 obtain⟨q,z⟩:=hl i ys H hi p
 by_cases hlt:i<xs.length
 ·refine .inr ⟨⟨xs,xs[i],q,by simp[hlt]⟩,z,Pv (i+1),fun zs H' p'=>⟨xs.length-(i+1),by lia,rfl,hlt,p'⟩,fun x H' y=>?_⟩
  obtain⟨e,y⟩:=y
  subst e
  exact hs i x ys _ (y xs q) p
 ·have e:i=xs.length:=by lia
  subst e
  exact .inl ⟨⟨xs,q,bG _⟩,hd ys H p⟩
theorem wI{K:AA}{a:Addr}{xs:AK}{g:TG}{tc:TT}{te:TE}{σ0:St}{H1:Hp}{F:AK->Hp->Prop}(Pv:Nat->AK->Hp->Prop)(h0:Pv 0 [] H1)
  (hl:∀i ys H,i<=xs.length->Pv i ys H->SqT K H a xs/\ys.length<sizeLine)
  (hs:∀i x ys H,xs[i]? = some x->Pv i ys H->w6 g tc te σ0 x H ys (Pv (i+1))) (hd:∀ys H,Pv xs.length ys H->F ys H):wY (Itt K a) g tc te σ0 H1 F:=by
 refine⟨fun i m ys H=>m=xs.length-i/\i<=xs.length/\Pv i ys H,⟨xs.length,by simp,cQ _,h0⟩,?_⟩
 rintro i m ys H ⟨rfl,hi,p⟩
 obtain⟨q,z⟩:=hl i ys H hi p
 by_cases hlt:i<xs.length
 ·refine .inr ⟨⟨xs,xs[i],q,by simp[hlt]⟩,z,Pv (i+1),fun zs H' p'=>⟨xs.length-(i+1),by lia,rfl,hlt,p'⟩,fun x H' y=>?_⟩
  obtain⟨e,y⟩:=y
  subst e
  exact hs i x ys _ (y xs q) p
 ·have e:i=xs.length:=by lia
  subst e
  exact .inl ⟨⟨xs,q,bG _⟩,hd ys H p⟩
theorem jd{lo:Int}{n:Nat}{g:TG}{tc:TT}{te:TE}{σ0:St}{H1:Hp}{F:AK->Hp->Prop}(Pv:Nat->AK->Hp->Prop)(h0:Pv 0 [] H1)
  (hl:∀i ys H,i<=n->Pv i ys H->ys.length<sizeLine)
  (hs:∀i ys H,i<n->Pv i ys H->w6 g tc te σ0 (.int (lo+i)) H ys (Pv (i+1))) (hd:∀ys H,Pv n ys H->F ys H):wY (Itr lo n) g tc te σ0 H1 F:=by
 refine⟨fun i m ys H=>m=n-i/\i<=n/\Pv i ys H,⟨n,by simp,cQ _,h0⟩,?_⟩
 rintro i m ys H ⟨rfl,hi,p⟩
 have z:=hl i ys H hi p
 by_cases hlt:i<n
 ·refine .inr ⟨hlt,z,Pv (i+1),fun zs H' p'=>⟨n-(i+1),by lia,rfl,hlt,p'⟩,fun x H' y=>?_⟩
  obtain⟨e,y⟩:=y
  subst e y
  exact hs i ys _ hlt p
 ·have e:i=n:=by lia
  subst e
  exact .inl ⟨bG _,hd ys H p⟩
noncomputable def yi{α:Type}(p:α->Bool)(f:α->V)(zs:List α):AK:=(zs.filter p).map f
theorem qu{α:Type}(p:α->Bool)(f:α->V)(zs:List α)(z:α):yi p f (zs++[z])=if p z=true then yi p f zs++[f z] else yi p f zs:=by
 unfold yi
 rw[dS,bM]
 cases h:p z<;>simp[h]
theorem ri{α:Type}(p:α->Bool)(f:α->V)(zs:List α):(yi p f zs).length<=zs.length:=by
 unfold yi
 rw[bA]
 exact cL _ _
theorem zq{α:Type}{zs:List α}{i:Nat}{z:α}(h:zs[i]? = some z):zs.take (i+1)=zs.take i++[z]:=by
 rw[fJ,h]
 rfl
theorem SO{K:AA}{a:Addr}{ns:AJ}{g:TG}{tc:TT}{te:TE}{σ0:St}{H1:Hp}{F:AK->Hp->Prop}(p:Int->Bool)(f:Int->V)(hq:SqL K H1 a (ns.map V.int))(hz:ns.length<=1000)
  (hs:∀n ys N,n∈ns->N (if p n=true then ys++[f n] else ys) H1->w6 g tc te σ0 (.int n) H1 ys N) (hd:F (yi p f ns) H1):wY (Itl K a) g tc te σ0 H1 F:=by
 refine vY (xs:=ns.map V.int) (fun i ys H=>H=H1/\ys=yi p f (ns.take i)) ⟨rfl,rfl⟩ (fun i ys H hi hp=>?_) (fun i x ys H hx hp=>?_) (fun ys H hp=>?_)
 ·obtain⟨rfl,rfl⟩:=hp
  refine⟨hq,zp ?_⟩
  have h1:=ri p f (ns.take i)
  have h2:=List.length_take_le i ns
  have h3:(ns.take i).length<=ns.length:=by rw[bL];lia
  lia
 ·obtain⟨rfl,rfl⟩:=hp
  rw[bE] at hx
  cases e:ns[i]? with
  | none=>rw[e] at hx;cases hx
  | some n=>
   rw[e] at hx
   cases hx
   refine hs n _ _ (bH e) ⟨rfl,?_⟩
   rw[zq e,qu]
 ·obtain⟨rfl,rfl⟩:=hp
  rw[bA,bY]
  exact hd
theorem i7{K:AA}{a:Addr}{ns:AJ}{g:TG}{tc:TT}{te:TE}{σ0:St}{H1:Hp}{F:AK->Hp->Prop}(p:Int->Bool)(f:Int->V)(hq:SqT K H1 a (ns.map V.int))(hz:ns.length<=1000)
  (hs:∀n ys N,n∈ns->N (if p n=true then ys++[f n] else ys) H1->w6 g tc te σ0 (.int n) H1 ys N) (hd:F (yi p f ns) H1):wY (Itt K a) g tc te σ0 H1 F:=by
 refine wI (xs:=ns.map V.int) (fun i ys H=>H=H1/\ys=yi p f (ns.take i)) ⟨rfl,rfl⟩ (fun i ys H hi hp=>?_) (fun i x ys H hx hp=>?_) (fun ys H hp=>?_)
 ·obtain⟨rfl,rfl⟩:=hp
  refine⟨hq,zp ?_⟩
  have h1:=ri p f (ns.take i)
  have h3:(ns.take i).length<=ns.length:=by rw[bL];lia
  lia
 ·obtain⟨rfl,rfl⟩:=hp
  rw[bE] at hx
  cases e:ns[i]? with
  | none=>rw[e] at hx;cases hx
  | some n=>
   rw[e] at hx
   cases hx
   refine hs n _ _ (bH e) ⟨rfl,?_⟩
   rw[zq e,qu]
 ·obtain⟨rfl,rfl⟩:=hp
  rw[bA,bY]
  exact hd
noncomputable def upI(lo:Int)(n:Nat):AJ:=(List.range n).map fun(k:Nat)=>lo+(k:Int)
theorem tM(lo:Int)(n:Nat):upI lo (n+1)=upI lo n++[lo+(n:Int)]:=by
 unfold upI
 rw[List.range_succ,bM]
 rfl
theorem xk(lo:Int)(n:Nat):(upI lo n).length=n:=by unfold upI;rw[bA,fI]
theorem yx{lo:Int}{n:Nat}{x:Int}:x∈upI lo n↔lo<=x/\x<lo+n:=by
 unfold upI
 rw[cD]
 constructor
 ·rintro⟨k,hk,rfl⟩
  have:=cY.mp hk
  lia
 ·rintro⟨h1,h2⟩
  exact⟨(x-lo).toNat,cY.mpr (by lia),by lia⟩
theorem rS{lo:Int}{n:Nat}{g:TG}{tc:TT}{te:TE}{σ0:St}{H1:Hp}{F:AK->Hp->Prop}(p:Int->Bool)(f:Int->V)(hz:n<=1000)
  (hs:∀k ys N,lo<=k->k<lo+n->N (if p k=true then ys++[f k] else ys) H1->w6 g tc te σ0 (.int k) H1 ys N) (hd:F (yi p f (upI lo n)) H1):wY (Itr lo n) g tc te σ0 H1 F:=by
 refine jd (fun i ys H=>H=H1/\ys=yi p f (upI lo i)) ⟨rfl,rfl⟩ (fun i ys H hi hp=>?_) (fun i ys H hx hp=>?_) (fun ys H hp=>?_)
 ·obtain⟨rfl,rfl⟩:=hp
  have h1:=ri p f (upI lo i)
  rw[xk] at h1
  exact zp (by lia)
 ·obtain⟨rfl,rfl⟩:=hp
  refine hs _ _ _ (by lia) (by lia) ⟨rfl,?_⟩
  rw[tM,qu]
 ·obtain⟨rfl,rfl⟩:=hp
  exact hd
section
variable{X:Cx}
theorem xw:yo X (.builtin "isinstance") (fun xs H Q=>∃x T t b,xs=[x,.ty T]/\N8 X.K H x t/\PySem.W.kitOne X.K t (.type T)=some b/\Q (.bl b) H):=by
 intro z4 s σ H xs us Q I r h
 obtain⟨x,T,t,b,rfl,ty,e,q⟩:=h
 obtain⟨u,w',rfl,rx,ry⟩:=rA r
 cases (show w'=Value.type T from ry)
 exact Tw I rx ty e fun tk=>⟨.bl b,H,I.tok _,rfl,q⟩
end
noncomputable def rN(N:AF)(kind:Str->Option NameKind)(rl:List (Str×NameKind)):AF->List Nat->Bool
 | x::xs,i::is=>decide (N[i]? = some x) && (decide (kind x=some .cell) || decide (kind x=some .free)) && (decide (rl.lookup x=some .cell) || decide (rl.lookup x=some .free)) && rN N kind rl xs is
 | _,_=>true
theorem ZJ{N:AF}{kind:Str->Option NameKind}{rl:List (Str×NameKind)}:∀{E7:AF}{ix:List Nat},rN N kind rl E7 ix=true->∀(j i:Nat) (x:Str),E7[j]? = some x->ix[j]? = some i->
  N[i]? = some x/\(kind x=some .cell\/kind x=some .free)/\(rl.lookup x=some .cell\/rl.lookup x=some .free)
 | [],_,_,j,i,x,e,_=>by simp at e
 | _::_,[],_,j,i,x,_,e=>by simp at e
 | y::ys,k::ks,h,j,i,x,e1,e2=>by
  unfold rN at h
  rw[bX,bX,bX,gU,gU] at h
  obtain⟨⟨⟨h1,h2⟩,h3⟩,h4⟩:=h
  cases j with
  | zero=>
   simp at e1 e2
   subst e1 e2
   exact⟨Px h1,h2.imp Px Px,h3.imp Px Px⟩
  | succ j=>exact ZJ h4 j i x (by simpa using e1) (by simpa using e2)
theorem yY{X:Cx}{scope:Scope}{cl:List (Str×Addr)}{own E7:AF}{ix:List Nat}(R9:wC X.env.cells scope.names []=some cl)(cell:∀y∈scope.names,y.2≠.cell)(kind:scope.kind=.function)
  (names:∀y∈scope.names,y.2=.local->scope.names.lookup y.1=some .local) (n:E7.length=ix.length) (cap:rN X.N X.env.kindOf (relabel scope X.env).names E7 ix=true):F5 X scope cl own E7 ix:=
 ⟨R9,cell,kind,names,n,fun j i x e1 e2=>by
  obtain⟨a,b,c⟩:=ZJ cap j i x e1 e2
  refine⟨a,fun z=>?_,b.elim (fun q=>.inr (.inl q)) (fun q=>.inr (.inr q)),c⟩
  rcases b with b|b<;>(rw[b] at z;cases z)⟩
theorem uH{X:Cx}{K:AA}{es:List Expr}{k:Nat}{t:TGs}{n:Nat}{pos:Pos}(hK:X.K=K)(hc:X.calm=true)(h:PGs X es t)
  (hn:(assignEach es X.env).length=n:=by rfl) (hst:(assignEach es X.env).findIdx? (·.1)=none:=by rfl):PG X (.Tuple es k pos) (W2 K n t):=by
 subst hK
 exact aj hc h hn hst
structure Cal(P:Program)(w:World)(K:AA)(mg:Str->AH)(base:Heap)(k:Nat)(x:Str)(ps:AF)(sp:Sp):Prop where
 ex:∃(f:Addr) (fd:FuncData),B2 P w K mg base CX0 k f fd ps sp/\yK K fd ps []/\PySem.W.keepIn K (.ref f)=true/\mg x=some (.ref f)
theorem Cal.mk'{P:Program}{w:World}{K:AA}{mg:Str->AH}{base:Heap}{k:Nat}{x:Str}{ps:AF}{sp:Sp}{f:Addr}{fd:FuncData}(a:B2 P w K mg base CX0 k f fd ps sp)(b:yK K fd ps [])(c:PySem.W.keepIn K (.ref f)=true)(d:mg x=some (.ref f)) :
  Cal P w K mg base k x ps sp:=⟨⟨f,fd,a,b,c,d⟩⟩
theorem zX{X:Cx}{k:Nat}{x:Str}{ps:AF}{sp:Sp}{e:Expr}{es:List Expr}{t:TA}{p pos:Pos}(G:Cal X.prog X.w X.K X.mg X.base k x ps sp)(hr:D9 k X.A)(hg:Gl X x)(ha:PA X (e::es) t)
  (hdb:(x == ("__debug__":Str))=false:=by decide) (he:starEach (e::es) X.env=(false,eval e X.env)::starEach es X.env:=by rfl) (hpl:(backTo pos (starEach es X.env)).any (·.1)=false:=by rfl) :
  PE X (.Call (.Name x p) (e::es) [] pos) (aP sp [] E0 t):=by
 obtain⟨f,fd,a,b,c,d⟩:=G.ex
 exact VW a hr hg d c b .nil rC ha hdb he hpl
noncomputable def N5(z:Str)(lo hi:Option Int):Str:=⟨((z.cps.toList.drop (HT.sIx z.length 0 lo)).take (HT.sIx z.length z.length hi-HT.sIx z.length 0 lo)).toArray⟩
theorem rR{x y:Str}(h:x.cps.toList=y.cps.toList):x=y:=by
 obtain⟨a⟩:=x
 obtain⟨b⟩:=y
 exact Pu Str.mk (Array.toList_inj.mp h)
theorem xN(z:Str):z.cps.toList.length=z.length:=by simp[Str.length]
theorem PD(lo hi:Option Int)(n:Nat):Builtin.Str.strSliceIndices lo hi 1 n=(List.range (HT.sIx n n hi-HT.sIx n 0 lo)).map (fun k=>HT.sIx n 0 lo+k):=by
 obtain⟨h1,h2,h3⟩:=gb lo hi n
 have e:Builtin.Str.strSliceIndices lo hi 1 n=sliceRange (sliceBounds lo hi none n).1 (sliceBounds lo hi none n).2.1 1:=by
  unfold Builtin.Str.strSliceIndices sliceBounds
  cases lo<;>cases hi<;>rfl
 rw[e,h1,h2,sliceRange_one]
theorem TX{z:Str}{t:Tok}{l u:Option (Int×Tok)}{Q:AB}{s:Shared}(hz:z.length<=sizeLine)(h:∀t' tk,Q (.str (N5 z (l.map (·.1)) (u.map (·.1))) t') { s with toks:=tk }):(sliceMade z t l u none).post Q s:=by
 have uo:slicePicked z l u none=(List.range (HT.sIx z.length z.length (u.map (·.1))-HT.sIx z.length 0 (l.map (·.1)))).map (fun k=>HT.sIx z.length 0 (l.map (·.1))+k):=PD _ _ _
 have zB:(slicePicked z l u none).filterMap (z.cps[·]?)=(N5 z (l.map (·.1)) (u.map (·.1))).cps.toList:=by
  rw[uo,pick_run]
  rfl
 have lh:=HT.ZP z.length z.length (bG _) (u.map (·.1))
 unfold sliceMade
 by_cases c:(((none:Option (Int×Tok)).map (·.1)).getD 1 == 1 && (slicePicked z l u none).length == z.length)=true
 ·rw[Po c]
  rw[bX] at c
  have c2:(slicePicked z l u none).length=z.length:=eq_of_beq c.2
  rw[uo,bA,fI] at c2
  have e:N5 z (l.map (·.1)) (u.map (·.1))=z:=by
   apply rR
   show(z.cps.toList.drop _).take _=_
   by_cases hz0:z.length=0
   ·have:z.cps.toList=[]:=dD (by rw[xN];exact hz0)
    rw[this]
    simp
   ·have e1:HT.sIx z.length 0 (l.map (·.1))=0:=by lia
    rw[e1,gC,cN]
    rw[xN]
    lia
  have:=h t s.toks
  rw[e] at this
  exact this
 ·rw[Pn c,zB]
  refine⟨?_,?_⟩
  ·show(((N5 z (l.map (·.1)) (u.map (·.1))).cps.toList.toArray).size)<=sizeLine
   rw[bN]
   show((z.cps.toList.drop _).take _).length<=_
   rw[bL,dL,xN]
   lia
  ·have:=h s.toks (s.toks+1)
   have e:(⟨(N5 z (l.map (·.1)) (u.map (·.1))).cps.toList.toArray⟩:Str)=N5 z (l.map (·.1)) (u.map (·.1)):=rR (by simp)
   rw[e]
   exact this
section
variable{X:Cx}
theorem iz{v:Value}{o:Option Int}(h:IsPart v o):∃p:Option (Int×Tok),v=partValue p/\p.map (·.1)=o:=by
 cases h with
 | none=>exact⟨none,rfl,rfl⟩
 | int i t=>exact⟨some (i,t),rfl,rfl⟩
noncomputable def rSlS:V->Option Int->Option Int->Hp->VK->Prop:=fun x lo hi H Q=>∃z,x=.str z/\z.length<=sizeLine/\Q (.str (N5 z lo hi)) H
theorem af:SlR X rSlS:=by
 intro z4 s σ H x v vl vu lo hi sl Q I rx hs pl pu h
 obtain⟨z,rfl,hz,q⟩:=h
 obtain⟨t,rfl⟩:=rx
 obtain⟨l,rfl,rfl⟩:=iz pl
 obtain⟨u,rfl,rfl⟩:=iz pu
 refine⟨"str",_,slot_str_getitem.lookup,typeIs_str s z t,?_⟩
 obtain⟨o,ho,hc,hd⟩:=hs
 refine wpAny_getItem_str_slice (l:=l) (u:=u) (st:=none) ⟨o,ho,hc,hd⟩ rfl (TX hz fun t' tk=>?_)
 exact⟨.str _,H,I.tok _,⟨_,rfl⟩,q⟩
noncomputable def T6(z:Str)(n:Nat):Str:=⟨(List.replicate n z.cps.toList).flatten.toArray⟩
theorem Ym(z:Array Nat):∀(n:Nat) (zK:Array Nat),(List.foldl (fun a b=>a++b) zK (List.replicate n z)).toList=zK.toList++(List.replicate n z.toList).flatten
 | 0,zK=>by simp
 | n+1,zK=>by
  rw[dY,dI,Ym z n]
  simp[dY]
theorem Qb:OpR X (binaryOp .Mult) (fun x y H Q=>∃z n,x=.str z/\y=.int n/\1<=n/\n<=1000/\z.length<=1000/\Q (.str (T6 z n.toNat)) H):=by
 intro z4 s σ H x y v u Q I rx ry h
 obtain⟨z,n,rfl,rfl,h1,h2,hz,q⟩:=h
 obtain⟨t,rfl⟩:=rx
 obtain⟨t',rfl⟩:=ry
 have hs:sizeLine=16777216:=OM
 have hm:z.length*n.toNat<=1000*1000:=Nat.mul_le_mul hz (by lia)
 have fin:∀t' tk,EP X z4 σ Q (.str (T6 z n.toNat) t') { s with toks:=tk }:=fun t' tk=>⟨.str _,H,I.tok _,⟨_,rfl⟩,q⟩
 refine PySem.P.mul_str ?_ (fun _ _=>?_) (fun _ _=>?_) ?_
 ·rw[Pt (show ¬n < -(2^63:Int) by lia),Pt (show ¬n≥2^63 by lia)]
  rfl
 ·have:(1000:Int)<=(2^63-1) / n:=by
   apply Int.le_ediv_of_mul_le (by lia)
   have:1000*n<=1000*1000:=Int.mul_le_mul_of_nonneg_left h2 (by decide)
   lia
  lia
 ·unfold Builtin.Str.tooLong
  exact Pt (by lia)
 ·rw[Pn (by lia)]
  by_cases c:(n == 1 || z.length == 0)=true
  ·rw[Po c]
   have e:T6 z n.toNat=z:=by
    apply rR
    show((List.replicate n.toNat z.cps.toList).flatten.toArray).toList=_
    rw[gU] at c
    rcases c with c|c
    ·have:n=1:=eq_of_beq c
     subst this
     simp
    ·have:z.length=0:=eq_of_beq c
     have:z.cps.toList=[]:=dD (by rw[xN];exact this)
     rw[this]
     simp
   have:=fin t s.toks
   rw[e] at this
   exact this
  ·rw[Pn c]
   have e:(⟨(List.replicate n.toNat z.cps).foldl (·++·) #[]⟩:Str)=T6 z n.toNat:=by
    apply rR
    show(List.foldl (fun a b=>a++b) #[] (List.replicate n.toNat z.cps)).toList=((List.replicate n.toNat z.cps.toList).flatten.toArray).toList
    rw[Ym]
    simp
   refine⟨?_,?_⟩
   ·rw[e,<- xN]
    show((List.replicate n.toNat z.cps.toList).flatten.toArray).toList.length<=sizeLine
    have:((List.replicate n.toNat z.cps.toList).flatten.toArray).toList.length=n.toNat*z.length:=by
     simp[List.length_flatten,List.map_replicate,xN]
     rfl
    rw[this,j7]
    lia
   ·rw[e]
    exact fin _ _
end
end L2
namespace L2
open PySem
inductive DV where
 | non|bl (b:Bool)|int (i:Int)|str (x:Str)|tup (l:List DV)
mutual
noncomputable def Tell(H:Hp):DV->V->Prop
 | .non,x=>x=.non
 | .bl b,x=>x=.bl b
 | .int i,x=>x=.int i
 | .str s,x=>x=.str s
 | .tup ds,x=>∃a xs,x=.ref a/\H a=some (.tup xs)/\xs.length<=1000000/\zF H ds xs
noncomputable def zF(H:Hp):List DV->AK->Prop
 | [],xs=>xs=[]
 | d::ds,xs=>∃x r,xs=x::r/\Tell H d x/\zF H ds r
end
mutual
theorem Tell.keep{H H':Hp}(s:B0 H H'):∀(d:DV) (x:V),Tell H d x->Tell H' d x
 | .non,_,h=>h
 | .bl _,_,h=>h
 | .int _,_,h=>h
 | .str _,_,h=>h
 | .tup ds,_,h=>by
  unfold Tell at h ⊢
  obtain⟨a,xs,e,h1,h2,h3⟩:=h
  exact⟨a,xs,e,s _ _ h1,h2,zF.keep s ds xs h3⟩
theorem zF.keep{H H':Hp}(s:B0 H H'):∀(ds:List DV) (xs:AK),zF H ds xs->zF H' ds xs
 | [],_,h=>h
 | d::ds,_,h=>by
  unfold zF at h ⊢
  obtain⟨x,r,e,h1,h2⟩:=h
  exact⟨x,r,e,Tell.keep s d x h1,zF.keep s ds r h2⟩
end
mutual
theorem Tell.over{H:Hp}{l:Addr}{o o':HO}(hl:H l=some o)(hn:∀xs,o≠.tup xs):∀(d:DV) (x:V),Tell H d x->Tell (upd H l o') d x
 | .non,_,h=>h
 | .bl _,_,h=>h
 | .int _,_,h=>h
 | .str _,_,h=>h
 | .tup ds,_,h=>by
  unfold Tell at h ⊢
  obtain⟨a,xs,e,h1,h2,h3⟩:=h
  exact⟨a,xs,e,by rw[zS (xW h1 hl (fun z=>hn xs z.symm))];exact h1,h2,zF.over hl hn ds xs h3⟩
theorem zF.over{H:Hp}{l:Addr}{o o':HO}(hl:H l=some o)(hn:∀xs,o≠.tup xs):∀(ds:List DV) (xs:AK),zF H ds xs->zF (upd H l o') ds xs
 | [],_,h=>h
 | d::ds,_,h=>by
  unfold zF at h ⊢
  obtain⟨x,r,e,h1,h2⟩:=h
  exact⟨x,r,e,Tell.over hl hn d x h1,zF.over hl hn ds r h2⟩
end
theorem zF.length{H:Hp}:∀{ds:List DV}{xs:AK},zF H ds xs->xs.length=ds.length
 | [],_,h=>by unfold zF at h;rw[h];rfl
 | d::ds,_,h=>by
  unfold zF at h
  obtain⟨x,r,rfl,_,h2⟩:=h
  rw[bW,bW,zF.length h2]
theorem zF.get{H:Hp}:∀{ds:List DV}{xs:AK},zF H ds xs->∀(i:Nat) (d:DV),ds[i]? = some d->∃x,xs[i]? = some x/\Tell H d x
 | [],_,_,i,d,e=>by simp at e
 | d0::ds,_,h,0,d,e=>by
  unfold zF at h
  obtain⟨x,r,rfl,h1,_⟩:=h
  simp at e
  subst e
  exact⟨x,rfl,h1⟩
 | d0::ds,_,h,i+1,d,e=>by
  unfold zF at h
  obtain⟨x,r,rfl,_,h2⟩:=h
  obtain⟨y,e1,e2⟩:=zF.get h2 i d (by simpa using e)
  exact⟨y,by simpa using e1,e2⟩
theorem zF.at{H:Hp}:∀{ds:List DV}{xs:AK},zF H ds xs->∀(i:Nat) (x:V),xs[i]? = some x->∃d,ds[i]? = some d/\Tell H d x
 | [],_,h,i,x,e=>by
  unfold zF at h
  subst h
  simp at e
 | d0::ds,_,h,0,x,e=>by
  unfold zF at h
  obtain⟨x0,r,rfl,h1,_⟩:=h
  simp at e
  subst e
  exact⟨d0,rfl,h1⟩
 | d0::ds,_,h,i+1,x,e=>by
  unfold zF at h
  obtain⟨x0,r,rfl,_,h2⟩:=h
  obtain⟨y,e1,e2⟩:=zF.at h2 i x (by simpa using e)
  exact⟨y,by simpa using e1,e2⟩
theorem zF.nil{H:Hp}:zF H [] []:=by unfold zF;rfl
theorem zF.cons{H:Hp}{d:DV}{ds:List DV}{x:V}{xs:AK}(h:Tell H d x)(t:zF H ds xs):zF H (d::ds) (x::xs):=by unfold zF;exact⟨x,xs,rfl,h,t⟩
theorem zF.snoc{H:Hp}:∀{ds:List DV}{xs:AK}{d:DV}{x:V},zF H ds xs->Tell H d x->zF H (ds++[d]) (xs++[x])
 | [],_,_,_,h,q=>by
  unfold zF at h
  subst h
  exact zF.cons q .nil
 | d0::ds,_,_,_,h,q=>by
  unfold zF at h
  obtain⟨x0,r,rfl,h1,h2⟩:=h
  exact zF.cons h1 (zF.snoc h2 q)
theorem zF.append{H:Hp}:∀{ds es:List DV}{xs ys:AK},zF H ds xs->zF H es ys->zF H (ds++es) (xs++ys)
 | [],_,_,_,h,q=>by
  unfold zF at h
  subst h
  exact q
 | d0::ds,_,_,_,h,q=>by
  unfold zF at h
  obtain⟨x0,r,rfl,h1,h2⟩:=h
  exact zF.cons h1 (zF.append h2 q)
theorem zF.take{H:Hp}:∀{ds:List DV}{xs:AK} (n:Nat),zF H ds xs->zF H (ds.take n) (xs.take n)
 | _,_,0,_=>by rw[cW,cW];exact .nil
 | [],_,n+1,h=>by
  unfold zF at h
  subst h
  exact .nil
 | d0::ds,_,n+1,h=>by
  unfold zF at h
  obtain⟨x0,r,rfl,h1,h2⟩:=h
  exact zF.cons h1 (zF.take n h2)
theorem yy{H:Hp}(i:Int):Tell H (.int i) (.int i):=by unfold Tell;rfl
theorem vG{H:Hp}(x:Str):Tell H (.str x) (.str x):=by unfold Tell;rfl
theorem tF{H:Hp}:Tell H .non .non:=by unfold Tell;rfl
theorem zw{H:Hp}{a:Addr}{xs:AK}{ds:List DV}(h:H a=some (.tup xs))(hl:ds.length<=1000000)(t:zF H ds xs):Tell H (.tup ds) (.ref a):=by
 unfold Tell
 exact⟨a,xs,rfl,h,by rw[t.length];exact hl,t⟩
theorem vc{H:Hp}:∀(l:AF),zF H (l.map DV.str) (l.map V.str)
 | []=>.nil
 | i::r=>.cons (vG i) (vc r)
theorem w8{H:Hp}:∀{l:AF}{xs:AK},zF H (l.map DV.str) xs->xs=l.map V.str
 | [],_,h=>by unfold zF at h;exact h
 | i::r,_,h=>by
  rw[cJ] at h
  unfold zF at h
  obtain⟨x,t,rfl,h1,h2⟩:=h
  unfold Tell at h1
  rw[h1,w8 h2]
  rfl
theorem zr{H:Hp}{ds:List DV}{x:V}(h:Tell H (.tup ds) x):∃a xs,x=.ref a/\H a=some (.tup xs)/\xs.length<=1000000/\zF H ds xs:=by
 unfold Tell at h
 exact h
theorem wz{H:Hp}{i:Int}{x:V}(h:Tell H (.int i) x):x=.int i:=by unfold Tell at h;exact h
theorem sW{H:Hp}{i:Str}{x:V}(h:Tell H (.str i) x):x=.str i:=by unfold Tell at h;exact h
theorem yM{H:Hp}{d:DV}{ds:List DV}{xs:AK}(h:zF H (d::ds) xs):∃x r,xs=x::r/\Tell H d x/\zF H ds r:=by
 unfold zF at h
 exact h
theorem xx{H:Hp}{xs:AK}(h:zF H [] xs):xs=[]:=by unfold zF at h;exact h
mutual
noncomputable def DV.deep:DV->Nat
 | .tup ds=>DV.L3 ds+1
 | _=>0
noncomputable def DV.L3:List DV->Nat
 | []=>0
 | d::ds=>max d.deep (DV.L3 ds)
end
noncomputable def uC:V->Bool
 | .non=>true
 | .bl _=>true
 | .int _=>true
 | .str _=>true
 | _=>false
noncomputable def xR(H:Hp):Nat->V->V->Prop
 | 0,x,y=>x=y/\uC x=true
 | n+1,x,y=>(x=y/\uC x=true)\/∃(a b:Addr) (xs ys:AK),x=.ref a/\y=.ref b/\H a=some (.tup xs)/\H b=some (.tup ys)/\xs.length=ys.length/\ys.length<=1000000/\
   ∀(i:Nat) (u v:V),xs[i]? = some u->ys[i]? = some v->xR H n u v
theorem xR.keep{H H':Hp}(s:B0 H H'):∀{n:Nat}{x y:V},xR H n x y->xR H' n x y
 | 0,_,_,h=>h
 | n+1,x,y,h=>by
  rcases h with h|⟨a,b,xs,ys,e1,e2,h1,h2,hl,hm,h⟩
  ·exact .inl h
  ·exact .inr ⟨a,b,xs,ys,e1,e2,s _ _ h1,s _ _ h2,hl,hm,fun i u v hu hv=>xR.keep s (h i u v hu hv)⟩
theorem xR.up{H:Hp}:∀{n:Nat}{x y:V},xR H n x y->xR H (n+1) x y
 | 0,_,_,h=>.inl h
 | n+1,x,y,h=>by
  rcases h with h|⟨a,b,xs,ys,e1,e2,h1,h2,hl,hm,h⟩
  ·exact .inl h
  ·exact .inr ⟨a,b,xs,ys,e1,e2,h1,h2,hl,hm,fun i u v hu hv=>xR.up (h i u v hu hv)⟩
theorem xR.mono{H:Hp}{x y:V}{n m:Nat}(h:xR H n x y)(hm:n<=m):xR H m x y:=by
 induction hm with
 | refl=>exact h
 | step _ ih=>exact ih.up
mutual
theorem jk{H:Hp}:∀(d:DV) (x y:V),Tell H d x->Tell H d y->xR H d.deep x y
 | .non,x,y,h1,h2=>by
  unfold Tell at h1 h2
  subst h1 h2
  exact⟨rfl,rfl⟩
 | .bl _,x,y,h1,h2=>by
  unfold Tell at h1 h2
  subst h1 h2
  exact⟨rfl,rfl⟩
 | .int _,x,y,h1,h2=>by
  unfold Tell at h1 h2
  subst h1 h2
  exact⟨rfl,rfl⟩
 | .str _,x,y,h1,h2=>by
  unfold Tell at h1 h2
  subst h1 h2
  exact⟨rfl,rfl⟩
 | .tup ds,x,y,h1,h2=>by
  unfold Tell at h1 h2
  obtain⟨a,xs,rfl,a1,a2,a3⟩:=h1
  obtain⟨b,ys,rfl,b1,b2,b3⟩:=h2
  unfold DV.deep
  exact .inr ⟨a,b,xs,ys,rfl,rfl,a1,b1,by rw[a3.length,b3.length],b2,gu ds xs ys a3 b3⟩
theorem gu{H:Hp}:∀(ds:List DV) (xs ys:AK),zF H ds xs->zF H ds ys->∀(i:Nat) (u v:V),xs[i]? = some u->ys[i]? = some v->xR H (DV.L3 ds) u v
 | [],xs,ys,h1,h2,i,u,v,e1,e2=>by
  unfold zF at h1
  subst h1
  simp at e1
 | d::ds,xs,ys,h1,h2,0,u,v,e1,e2=>by
  unfold zF at h1 h2
  obtain⟨x,r,rfl,a1,a2⟩:=h1
  obtain⟨y,t,rfl,b1,b2⟩:=h2
  simp at e1 e2
  subst e1 e2
  unfold DV.L3
  exact(jk d x y a1 b1).mono (Nat.le_max_left _ _)
 | d::ds,xs,ys,h1,h2,i+1,u,v,e1,e2=>by
  unfold zF at h1 h2
  obtain⟨x,r,rfl,a1,a2⟩:=h1
  obtain⟨y,t,rfl,b1,b2⟩:=h2
  unfold DV.L3
  exact(gu ds r t a2 b2 i u v (by simpa using e1) (by simpa using e2)).mono (Nat.le_max_right _ _)
end
end L2
namespace L2
open PySem PySem.Spec PyProof.Rows
section
variable{κ:Type}[DecidableEq κ]
def D8(ks:List κ):List κ:=ks.foldl (fun zK k=>if k∈zK then zK else zK++[k]) []
theorem Tx(ks:List κ)(k:κ):D8 (ks++[k])=if k∈D8 ks then D8 ks else D8 ks++[k]:=by
 unfold D8
 rw[g9]
 rfl
theorem Xo{ks:List κ}{i:Nat}{k:κ}(h:ks[i]? = some k):D8 (ks.take (i+1))=if k∈D8 (ks.take i) then D8 (ks.take i) else D8 (ks.take i)++[k]:=by
 have e:ks.take (i+1)=ks.take i++[k]:=by rw[fJ,h]<;>rfl
 rw[e,Tx]
theorem iG(k:κ):∀(ks zK:List κ),k∈ks.foldl (fun zK k=>if k∈zK then zK else zK++[k]) zK↔k∈zK\/k∈ks
 | [],zK=>by simp
 | x::r,zK=>by
  rw[dI,iG k r]
  by_cases h:x∈zK
  ·rw[Po h,bI]
   constructor
   ·rintro(a|a)
    ·exact .inl a
    ·exact .inr (.inr a)
   ·rintro(a|rfl|a)
    ·exact .inl a
    ·exact .inl h
    ·exact .inr a
  ·rw[Pn h,bZ,bD,bI,or_assoc]
theorem tP{k:κ}{ks:List κ}:k∈D8 ks↔k∈ks:=by unfold D8;rw[iG];simp
theorem iL:∀(ks zK:List κ),(ks.foldl (fun zK k=>if k∈zK then zK else zK++[k]) zK).length<=zK.length+ks.length
 | [],zK=>by simp
 | x::r,zK=>by
  rw[dI]
  refine c7 (iL r _) ?_
  by_cases h:x∈zK
  ·rw[Po h,bW];lia
  ·rw[Pn h,bF,bW,bW,fO];lia
theorem kx(ks:List κ):(D8 ks).length<=ks.length:=by
 have:=iL ks []
 simpa [D8] using this
theorem ji:∀(ks zK:List κ),(zK++ks).Nodup->ks.foldl (fun zK k=>if k∈zK then zK else zK++[k]) zK=zK++ks
 | [],zK,_=>by simp
 | x::r,zK,h=>by
  have hx:x∉zK:=fun hx=>by
   rw[eY] at h
   exact h.2.2 x hx x (bT) rfl
  rw[dI,Pn hx,ji r (zK++[x]) (by rw[eB];exact h),eB]
  rfl
theorem lZ{ks:List κ}(h:ks.Nodup):D8 ks=ks:=by
 have:=ji ks [] (by simpa using h)
 simpa [D8] using this
end
section
variable{prog:Program}{w:World}{A:Around}{κ:Type}[DecidableEq κ]{kd:KeyKind prog w κ}{I:Addr}{fp wr:List Addr}{G:Array GenState->Array GenState->Prop}{n:Nat}{P:Nat->Value->Prop}{St:Nat->Shared->Prop}
abbrev xh(kd:KeyKind prog w κ)(h:Heap)(a:Addr)(ks:List κ):Prop:=h.SetOf kd a (fun k=>decide (k∈ks)) (D8 ks).length
theorem xh.at{h h':Heap}{a:Addr}{ks:List κ}(x:xh kd h a ks)(e:∀o,h.get? a=some o->h'.get? a=some o):xh kd h' a ks:=by
 obtain⟨o,es,ep,t,ho,r⟩:=x
 exact⟨o,es,ep,t,e o ho,r⟩
theorem ku{R:Result->Shared->Prop}(W:WalksS prog w A.in1 I fp wr G n P St){a:Addr}(out:a∉fp){ks:List κ}(lk:ks.length=n)
  (vals:∀i v,P i v->∃k,ks[i]? = some k/\kd.is k v=true/\v.scannable=true) (few:n+1<scanBound) :
  ∀(todo i:Nat) (s:Shared),i+todo=n->St i s->xh kd s.heap a (ks.take i)->
   (∀s',Moved (a::wr) G s s'->xh kd s'.heap a ks->R (.ok (.ret .none)) s')->codeAny (model prog w) A (.builtin "set.update.loop" ⟨[.ref a,.ref I],[]⟩) R s
 | 0,i,s,ei,st,sx,fin=>by
  have e:ks.take i=ks:=cN (by lia)
  rw[e] at sx
  have ei':i=n:=by lia
  subst ei'
  refine Pw gS ?_
  rw[cH eS _]
  refine Pl (W.done s _ _ st fun s' mv=>Pm (fin s' (mv.mono fun b hb=>.tail _ hb) (sx.at fun o=>mv.heap a o fun q=>out (W.sub _ q))))
 | todo+1,i,s,ei,st,sx,fin=>by
  refine Pw gS ?_
  rw[cH eS _]
  refine Pl (W.item i s _ _ (by lia) st fun v s1 hv st1 mv=>?_)
  obtain⟨k,ek,iv,sc⟩:=vals i v hv
  have sx1:=sx.at (h':=s1.heap) fun o=>mv.heap a o fun q=>out (W.sub _ q)
  refine Pl (Py (m:=setAdd a v) ?_)
  unfold setAdd
  refine Py (Pl (kd.pyHash iv ?_))
  have lm:=kx (ks.take i)
  rw[bL] at lm
  refine wpAny_setAddHashed_of (s:={ s1 with toks:=s1.toks+1 }) iv sc sx1 (by lia) fun h2 sb sx2=>?_
  have sx3:xh kd h2 a (ks.take (i+1)):=by
   have e1:(fun k'=>decide (k'∈ks.take i) || decide (k'=k))=fun k'=>decide (k'∈ks.take (i+1)):=by
    funext k'
    rw[fJ,ek]
    simp[Bool.decide_or]
   have e2:(if decide (k∈ks.take i)=true then (D8 (ks.take i)).length else (D8 (ks.take i)).length+1)=(D8 (ks.take (i+1))).length:=by
    rw[Xo ek]
    by_cases hk:k∈ks.take i
    ·rw[Po (Pq hk),Po (tP.mpr hk)]
    ·rw[Pn (by simpa using hk),Pn (fun q=>hk (tP.mp q)),bF]
     rfl
   rw[e1,e2] at sx2
   exact sx2
  have far:∀b,b≠a->h2.get? b=s1.heap.get? b:=fun b hb=>sb.2 b hb
  refine Pm ⟨OB eS _,ku W out lk vals few todo (i+1) _ (by lia) (W.frame _ s1 _ _ st1 (fN _) fun b hb o q=>?_) sx3 fun s3 mv3 sx4=>?_⟩
  ·rw[far b fun z=>out (z ▸ hb)];exact q
  ·refine fin s3 (.trans W.gtrans ((mv.mono fun b hb=>.tail _ hb).then_heap (fN _) fun b o hb q=>?_) mv3) sx4
   rw[far b fun z=>hb (z ▸ .head _)];exact q
end
namespace Ty
theorem Xt:isSubtype (.type "tuple") (.type "set")=pure false:=by rw[OV];kernel_rfl
theorem cw:isSubtype (.type "tuple") (.type "frozenset")=pure false:=by rw[OV];kernel_rfl
end Ty
abbrev F1(led:Bool):Obj:={ cls:=.type "set",dict:=none,data:=.set #[] 0 (.fresh 0 0 led) }
section
variable{prog:Program}{w:World}{A:Around}{E:AB}{s:Shared}{κ:Type}[DecidableEq κ]{kd:KeyKind prog w κ}
theorem Tj{T:String}{p:Addr}{o:Obj}{zC:AI}{c0:Nat}{ks:List κ}{Q:AB}(hh:A.handled=none)(hp:s.heap.get? p=some o)(hc:o.cls=.type T)(hd:o.data=.seq zC c0)(hT:T="list"\/T="tuple")
  (lk:ks.length=zC.size) (vals:∀(i:Nat) v,zC[i]? = some v->∃k,ks[i]? = some k/\kd.is k v=true/\v.scannable=true) (few:zC.size+1<scanBound)
  (fin:∀(h':Heap) (t:Nat),xh kd h' s.heap.objs.size ks->(∀b u,b<s.heap.objs.size->s.heap.get? b=some u->h'.get? b=some u)->Q (.ref s.heap.objs.size) { s with heap:=h',toks:=t }) :
  wpAny (model prog w) A (call (.type "set") [.ref p]) Q E s:=by
 obtain⟨c,tl,hmro⟩:=dM.mro
 have g1:=dM.made
 have g2:=dM.sub
 refine wpAny_call (codeAny_of_tree (Pm ⟨Code.quiet_builtin _ (by decide +kernel),Pw F.entry_type_call ?_⟩))
 rw[Around.under_plain (weight_type_call_type "set" [.ref p] []) rfl]
 have g3:=dM.notType
 have g4:=dM.canCreate
 have g5:=F.typeCall_set_1 (.ref p)
 repeat (any_goals (first|assumption|wp_step))
 refine OR (code_set_new_1 (.ref p) (E:=E) (Q₁:=fun u s1=>∃led,u=.ref s.heap.objs.size/\s1={ s with heap:=s.heap.push (F1 led) }) fun led=>⟨led,rfl,rfl⟩) fun r s1 q1=>?_
 rcases r with e|(_|_|_|u)
 all_goals try exact q1.elim
 all_goals try exact q1
 obtain⟨led,rfl,rfl⟩:=q1
 have at1:(s.heap.push (F1 led)).get? s.heap.objs.size=some (F1 led):=bJ _ rfl
 have ty1:Shared.TypeIs { s with heap:=s.heap.push (F1 led) } (.ref s.heap.objs.size) "set":=⟨_,at1,rfl⟩
 have g6:=dM.init.lookup
 have g7:=dM.init.bind (.ref s.heap.objs.size)
 repeat (any_goals (first|assumption|wp_step))
 refine OR (Ol (R:=wants (fun r s2=>r=.none/\∃h' t,s2={ s with heap:=h',toks:=t }/\xh kd h' s.heap.objs.size ks/\∀b u,b<s.heap.objs.size->s.heap.get? b=some u->h'.get? b=some u) E)
  dM.init.plain F.entry_set_init (check_set_init_1 ty1 ?_)) fun r s2 q2=>?_
 case _=>
  have hpS:p<s.heap.objs.size:=bQ hp
  obtain⟨oc,od,oa,os⟩:=o
  simp only at hc hd
  subst hc;subst hd
  have hp1:(s.heap.push (F1 led)).get? p=some { cls:=.type T,dict:=od,data:=.seq zC c0,slots:=os }:=bB _ hp
  have f1:isSubtype (.type T) (.type "set")=pure false:=by rcases hT with rfl|rfl<;>first|exact F.sub_list_set|exact Ty.Xt
  have f2:isSubtype (.type T) (.type "frozenset")=pure false:=by rcases hT with rfl|rfl<;>first|exact F.sub_list_frozenset|exact Ty.cw
  have f3:(Value.type T == Value.type "dict")=false:=by rcases hT with rfl|rfl<;>decide
  have hh3:A.in1.in1.in1.handled=none:=by simp[hh]
  have sz:(s.heap.push (F1 led)).objs.size=s.heap.objs.size+1:=eI _ _
  have apart:p≠(s.heap.push (F1 led)).objs.size:=by rw[sz];exact c8 (fH hpS)
  have out:s.heap.objs.size∉[(s.heap.push (F1 led)).objs.size,p]:=by rw[sz,bI,bD];exact fun z=>z.elim (c8 (gD _)) (fL hpS)
  have xS:∀x:Obj,xh kd ((s.heap.push (F1 led)).push x) s.heap.objs.size (ks.take 0):=fun x=>by
   have z:=(setObjOf_fresh (knd:=kd) led).setOf (bB x at1) (by unfold scanBound;lia)
   have e:(fun k:κ=>decide (k∈ks.take 0))=fun _=>false:=by funext k;simp
   show Heap.SetOf kd _ _ (fun k=>decide (k∈ks.take 0)) _
   rw[e]
   exact z
  have ends:∀(x:Obj) (s':Shared),Moved [s.heap.objs.size,(s.heap.push (F1 led)).objs.size] (fun a b=>b=a) { s with heap:=(s.heap.push (F1 led)).push x } s'->xh kd s'.heap s.heap.objs.size ks->
    ∃h' t,s'={ s with heap:=h',toks:=t }/\xh kd h' s.heap.objs.size ks/\∀b u,b<s.heap.objs.size->s.heap.get? b=some u->h'.get? b=some u:=fun x s' mv sx=>by
   obtain⟨h',g',d',t',o'⟩:=s'
   obtain rfl:g'=s.gens:=mv.gens
   obtain rfl:d'=s.drawn:=mv.drawn
   obtain rfl:o'=s.os:=mv.os
   exact⟨h',t',rfl,sx,fun b u hb q=>mv.heap b u (by rw[sz,bI,bD];exact fun z=>z.elim (c8 hb) (c8 (fH hb))) (bB _ (bB _ q))⟩
  unfold Builtin.«set.__init__» noKeywords Builtin.Frozenset.updateFrom
  generalize hPI:pyIter=PI
  wp_walk
  subst hPI
  rcases hT with rfl|rfl
  ·have hl:(s.heap.push (F1 led)).IsList p zC:=⟨_,hp1,rfl,c0,rfl⟩
   refine ON hl (Pl (Oi ?_))
   refine ku (kd:=kd) ((Walks.list hh3 _ p apart zC).toS) out lk vals few zC.size 0 _ (eZ _) ⟨⟨_,bJ _ rfl,rfl,rfl⟩,hl.push _⟩ (xS _) fun s' mv sx=>?_
   exact Pm (Pm ⟨rfl,ends _ s' mv sx⟩)
  ·have hl:(s.heap.push (F1 led)).IsTuple p zC:=⟨_,hp1,rfl,c0,rfl⟩
   refine OL hl (Pl (Oi ?_))
   refine ku (kd:=kd) ((Walks.tuple hh3 _ p apart zC).toS) out lk vals few zC.size 0 _ (eZ _) ⟨⟨_,bJ _ rfl,rfl,rfl⟩,hl.push _⟩ (xS _) fun s' mv sx=>?_
   exact Pm (Pm ⟨rfl,ends _ s' mv sx⟩)
 ·rcases r with e|(_|_|_|u)
  all_goals try exact q2.elim
  all_goals try exact q2
  obtain⟨rfl,h',t,rfl,sx,kp⟩:=q2
  repeat (any_goals (first|assumption|wp_step))
  exact fin _ _ sx kp
end
section
variable{X:Cx}
noncomputable def O4(P:Program)(w:World)(a:Addr)(zs:AF):HO:=.ext fun h=>xh (strKind P w) h a zs
theorem O4.new{P:Program}{w:World}{H:Hp}{h:Heap}{a:Addr}{zs:AF}(x:xh (strKind P w) h a zs):zv P w H h a (O4 P w a zs):=by
 refine⟨x,?_,fun h1 h2 y e=>xh.at y e⟩
 obtain⟨o,_,_,_,e,_⟩:=x
 exact⟨o,e⟩
theorem Yb:∀{zs:AF}{us:AG},Vals (zs.map V.str) us->∀(i:Nat) (v:Value),us[i]? = some v->∃(k:Str) (t:Tok),zs[i]? = some k/\v=.str k t
 | [],_,.nil,i,v,h=>by simp at h
 | z::zs,u::us,.cons r rs,0,v,h=>by
  simp at h
  subst h
  obtain⟨t,rfl⟩:=r
  exact⟨z,t,rfl,rfl⟩
 | z::zs,u::us,.cons r rs,i+1,v,h=>by
  simp at h
  obtain⟨k,t,a,b⟩:=Yb rs i v h
  exact⟨k,t,by simpa using a,b⟩
theorem dk(hc:X.calm=true):yo X (.type "set") (fun xs H Q=>∃p zs,xs=[.ref p]/\(SqL X.K H p (zs.map V.str)\/SqT X.K H p (zs.map V.str))/\zs.length<=1000/\∀l,H l=none->Q (.ref l) (upd H l (O4 X.prog X.w l zs))):=by
 intro z4 s σ H xs us Q I r h
 obtain⟨p,zs,rfl,hq,hl,q⟩:=h
 obtain⟨u,rfl,rx⟩:=xK r
 cases rx
 have go:∀(T:String) (o:Obj) (zC:AG) (c0:Nat),s.heap.get? p=some o->o.cls=.type T->o.data=.seq zC.toArray c0->(T="list"\/T="tuple")->Vals (zs.map V.str) zC->wpAny (model X.prog X.w) X.A (call (.type "set") [.ref p]) (EP X z4 σ Q) X.xe s:=
  fun T o zC c0 ho hcl hda hT rv=>by
   have ln:zs.length=zC.length:=by have:=rv.length;rwa [bA] at this
   refine Tj (kd:=strKind X.prog X.w) (ks:=zs) (I.ok.hd hc) ho hcl hda hT (by simpa using ln) (fun i v hv=>?_) (by simp[scanBound];lia) fun h' t sx kp=>?_
   ·obtain⟨k,t,a,rfl⟩:=Yb rv i v (by simpa using hv)
    exact⟨k,a,strKind_is _ _ _ _,rfl⟩
   ·refine⟨.ref s.heap.objs.size,_,I.laid (a:=s.heap.objs.size) (o:=O4 X.prog X.w s.heap.objs.size zs) (h':=h') (t':=t) (fun b u q1=>kp b u (bQ q1) q1) (bG _) (O4.new sx),rfl,q _ (I.hok.fresh (bG _))⟩
 rcases hq with hq|hq
 ·obtain⟨zC,rv,pl,_⟩:=I.list hq
  obtain⟨o,ho,hcl,n,hda⟩:=pl.isList
  exact go "list" o zC n ho hcl hda (.inl rfl) rv
 ·obtain⟨zC,rv,pl,_⟩:=I.tuple hq
  obtain⟨o,ho,hcl,n,hda⟩:=pl
  exact go "tuple" o zC n ho hcl hda (.inr rfl) rv
theorem dy:yo X (.builtin "len") (fun xs H Q=>∃p zs,xs=[.ref p]/\H p=some (O4 X.prog X.w p zs)/\zs.length<=1000/\Q (.int (D8 zs).length) H):=by
 intro z4 s σ H xs us Q I r h
 obtain⟨p,zs,rfl,hp,hl,q⟩:=h
 obtain⟨u,rfl,rx⟩:=xK r
 cases rx
 obtain⟨⟨o,es,ep,t,e1,e2,e3,_,_,_,e4,e5⟩,_⟩:=(show zv X.prog X.w H s.heap p (O4 X.prog X.w p zs) from I.hok p _ hp)
 have:=kx zs
 exact PySem.call_len_set e1 e2 e3 e4 (by lia) ⟨.int (D8 zs).length,H,I.tok _,⟨s.toks+1,by rw[e5]⟩,q⟩
end
section
variable{κ:Type}[DecidableEq κ]
noncomputable def I0(kvs:List (κ×V))(k:κ):Option V:=(kvs.find? fun kv=>decide (kv.1=k)).map (·.2)
noncomputable def putK(kvs:List (κ×V))(k:κ)(v:V):List (κ×V):=
 if (kvs.any fun kv=>decide (kv.1=k))=true then kvs.map (fun kv=>if kv.1=k then (kv.1,v) else kv) else kvs++[(k,v)]
theorem uM{p:κ×V}{r:List (κ×V)}{k:κ}(e:p.1=k):I0 (p::r) k=some p.2:=by simp[I0,eO,e]
theorem uL{p:κ×V}{r:List (κ×V)}{k:κ}(e:¬p.1=k):I0 (p::r) k=I0 r k:=by simp[I0,eO,e]
theorem tE(k:κ):∀kvs:List (κ×V),(kvs.any fun kv=>decide (kv.1=k))=(I0 kvs k).isSome
 | []=>rfl
 | p::r=>by
  rw[fZ]
  by_cases e:p.1=k
  ·simp only[uM e,Pq e,Bool.true_or,Option.isSome_some]
  ·rw[uL e,Pt e,Bool.false_or];exact tE k r
theorem iE(kvs:List (κ×V))(k:κ)(v:V):(putK kvs k v).length<=kvs.length+1:=by
 unfold putK
 split
 ·rw[bA];lia
 ·rw[bF,bW,fO];lia
theorem Yf{kvs:List (κ×V)}{k:κ}(v:V)(h:I0 kvs k=none):putK kvs k v=kvs++[(k,v)]:=by
 unfold putK
 rw[tE,h]
 exact Pn (by decide)
theorem M5.O0{o:Option V}{u:AH}(r:M5 o u):o.isSome=u.isSome:=by
 cases o with
 | none=>cases u with
  | none=>rfl
  | some _=>exact(show False from r).elim
 | some _=>cases u with
  | none=>exact(show False from r).elim
  | some _=>rfl
theorem KV.val{kvs:List (κ×V)}{vs:List (κ×Value)}(r:KV kvs vs)(k:κ):M5 (I0 kvs k) (valueAt vs k):=by
 unfold KV at r
 induction r with
 | nil=>exact True.intro
 | @cons p q ps qs h t ih=>
  obtain⟨h1,h2⟩:=h
  by_cases e:p.1=k
  ·have e':q.1=k:=h1.symm.trans e
   have b:valueAt (q::qs) k=some q.2:=by simp[valueAt,eO,e']
   rw[uM e,b];exact h2
  ·have e':¬q.1=k:=fun z=>e (h1.trans z)
   have b:valueAt (q::qs) k=valueAt qs k:=by simp[valueAt,eO,e']
   rw[uL e,b];exact ih
theorem KV.any{kvs:List (κ×V)}{vs:List (κ×Value)}(r:KV kvs vs)(k:κ):(kvs.any fun kv=>decide (kv.1=k))=vs.any fun kv=>decide (kv.1=k):=by
 unfold KV at r
 induction r with
 | nil=>rfl
 | cons h t ih=>rw[fZ,fZ,ih,h.1]
theorem KV.X3{kvs:List (κ×V)}{vs:List (κ×Value)}(r:KV kvs vs)(k:κ){y:V}{u:Value}(ry:RelV y u) :
  KV (kvs.map fun kv=>if kv.1=k then (kv.1,y) else kv) (vs.map fun kv=>if kv.1=k then (kv.1,u) else kv):=by
 unfold KV at r ⊢
 induction r with
 | nil=>exact .nil
 | @cons p q ps qs h t ih=>
  rw[cJ,cJ]
  refine .cons ?_ ih
  obtain⟨h1,h2⟩:=h
  by_cases e:p.1=k
  ·rw[Po e,Po (h1.symm.trans e)];exact⟨h1,ry⟩
  ·rw[Pn e,Pn (fun z=>e (h1.trans z))];exact⟨h1,h2⟩
theorem KV.put{kvs:List (κ×V)}{vs:List (κ×Value)}(r:KV kvs vs)(k:κ){y:V}{u:Value}(ry:RelV y u):KV (putK kvs k y) (stored vs k u):=by
 unfold putK stored
 rw[r.any k]
 by_cases e:(vs.any fun kv=>decide (kv.1=k))=true
 ·rw[Po e,Po e];exact r.X3 k ry
 ·rw[Pn e,Pn e];exact jJ r ⟨rfl,ry⟩
theorem KV.keys{kvs:List (κ×V)}{vs:List (κ×Value)}(r:KV kvs vs):kvs.map (·.1)=vs.map (·.1):=by
 unfold KV at r
 induction r with
 | nil=>rfl
 | cons h t ih=>rw[cJ,cJ,ih,h.1]
theorem KV.length{kvs:List (κ×V)}{vs:List (κ×Value)}(r:KV kvs vs):kvs.length=vs.length:=Paired.length r
end
theorem uh{P:Program}{w:World}{k:Key}{u:Value}(r:RelV (kV k) u):(xF P w).is k u=true:=by
 cases k with
 | inl i=>obtain⟨t,e⟩:=(show ∃t,u=Value.int i t from r);subst e;exact Qz P w i t
 | inr x=>obtain⟨t,e⟩:=(show ∃t,u=Value.str x t from r);subst e;exact Qo P w x t
theorem XW{P:Program}{w:World}:∀{ks:List Key}{us:AG},Vals (ks.map kV) us->ItemsAre (xF P w) ks us
 | [],_,r=>by rw[List.map_nil] at r;cases r;exact .nil
 | k::ks,_,r=>by
  rw[cJ] at r
  cases r with
  | cons h t=>exact .cons (uh h) (XW t)
abbrev KT(H:Hp):List (List Key×V)->List (List Key×Addr×Value)->Prop:=Paired fun p q=>p.1=q.1/\H q.2.1=some (.tup (p.1.map kV))/\RelV p.2 q.2.2
theorem KT.val{H:Hp}{kvs:List (List Key×V)}{xs:List (List Key×Addr×Value)}(r:KT H kvs xs)(k:List Key):M5 (I0 kvs k) ((atKey xs k).map (·.2)):=by
 induction r with
 | nil=>exact True.intro
 | @cons p q ps qs h t ih=>
  obtain⟨h1,_,h2⟩:=h
  by_cases e:p.1=k
  ·have e':q.1=k:=h1.symm.trans e
   have b:atKey (q::qs) k=some q.2:=by simp[atKey,eO,e']
   rw[uM e,b];exact h2
  ·have e':¬q.1=k:=fun z=>e (h1.trans z)
   have b:atKey (q::qs) k=atKey qs k:=by simp[atKey,eO,e']
   rw[uL e,b];exact ih
theorem KT.X3{H:Hp}{kvs:List (List Key×V)}{xs:List (List Key×Addr×Value)}(r:KT H kvs xs)(k:List Key){y:V}{u:Value}(ry:RelV y u) :
  KT H (kvs.map fun kv=>if kv.1=k then (kv.1,y) else kv) (xs.map (putAt k u)):=by
 induction r with
 | nil=>exact .nil
 | @cons p q ps qs h t ih=>
  rw[cJ,cJ]
  refine .cons ?_ ih
  obtain⟨h1,h2,h3⟩:=h
  unfold putAt
  by_cases e:p.1=k
  ·rw[Po e,Po (h1.symm.trans e)];exact⟨h1,h2,ry⟩
  ·rw[Pn e,Pn (fun z=>e (h1.trans z))];exact⟨h1,h2,h3⟩
theorem KT.put{H:Hp}{kvs:List (List Key×V)}{xs:List (List Key×Addr×Value)}(r:KT H kvs xs)(k:List Key){b:Addr}{y:V}{u:Value}(hb:H b=some (.tup (k.map kV)))(ry:RelV y u) :
  KT H (putK kvs k y) (storedH xs k b u):=by
 have e:(kvs.any fun kv=>decide (kv.1=k))=(atKey xs k).isSome:=by
  rw[tE,(r.val k).O0,Option.isSome_map]
 unfold putK storedH
 rw[e]
 by_cases q:(atKey xs k).isSome=true
 ·rw[Po q,Po q];exact r.X3 k ry
 ·rw[Pn q,Pn q];exact jJ r ⟨rfl,hb,ry⟩
theorem KT.keeps{H H':Hp}{kvs:List (List Key×V)}{xs:List (List Key×Addr×Value)}(r:KT H kvs xs)(ht:∀b ys,H b=some (.tup ys)->H' b=some (.tup ys)):KT H' kvs xs:=
 Paired.Q1 r fun _ _ z=>⟨z.1,ht _ _ z.2.1,z.2.2⟩
section
variable{P:Program}{w:World}{H:Hp}{h:Heap}{a:Addr}
theorem aC{u:HO}(ok:HOk P w H h)(e:Rd H a u):zv P w H h a u:=e.ok ok
theorem rH{kvs:List (Key×V)}(ok:HOk P w H h)(e:Rd H a (.dK kvs)):kvs.length<=sizeLine/\(a == sysModules)=false/\∃vs,KV kvs vs/\h.DictOf (xF P w) a vs:=
 show zv P w H h a (.dK kvs) from aC ok e
theorem aT{kvs:List (Key×V)}(ok:HOk P w H h)(e:H a=some (.dK kvs)):kvs.length<=sizeLine/\(a == sysModules)=false/\∃vs,KV kvs vs/\h.DictOf (xF P w) a vs:=rH ok (.inl e)
theorem rL{ks:List Key}(ok:HOk P w H h)(e:H a=some (.tup (ks.map kV))):(tupleKind (xF P w)).is h ks a:=by
 obtain⟨_,zC,r,o,h1,h2,⟨n,h3⟩,_⟩:=(show zv P w H h a (.tup (ks.map kV)) from ok a _ e)
 exact⟨o,zC.toArray,n,h1,h2,h3,by simpa using XW r⟩
theorem rG{kvs:List (List Key×V)}(ok:HOk P w H h)(e:Rd H a (.dT kvs)):kvs.length<=sizeLine/\(a == sysModules)=false/\
  ∃xs,KT H kvs xs/\h.DictOfH (tupleKind (xF P w)) a xs:=by
 obtain⟨z,y,xs,r,o,es,ep,h1,h2,h3,h4,h5⟩:=(show zv P w H h a (.dT kvs) from aC ok e)
 refine⟨z,y,xs,r,o,es,ep,h1,h2,h3,h4,fun x hx=>?_,h5⟩
 have all:∀{l:List (List Key×V)}{m:List (List Key×Addr×Value)},KT H l m->∀x∈m,(tupleKind (xF P w)).is h x.1 x.2.1:=by
  intro l m q
  induction q with
  | nil=>intro x hx;exact nomatch hx
  | @cons p q ps qs hq t ih=>
   intro x hx
   rcases bI.mp hx with e|hx
   ·subst e
    exact rL ok (by rw[<- hq.1];exact hq.2.1)
   ·exact ih x hx
 exact all r x hx
theorem w0x{kvs:List (List Key×V)}(ok:HOk P w H h)(e:H a=some (.dT kvs)):kvs.length<=sizeLine/\(a == sysModules)=false/\
  ∃xs,KT H kvs xs/\h.DictOfH (tupleKind (xF P w)) a xs:=rG ok (.inl e)
end
noncomputable def L5(H:Hp)(a:Addr)(y:V)(r:Option V):Prop:=
 (∃kvs k,Rd H a (.dK kvs)/\y=kV k/\r=I0 kvs k)\/∃kvs k b,Rd H a (.dT kvs)/\y=.ref b/\H b=some (.tup (k.map kV))/\r=I0 kvs k
noncomputable def R0(H:Hp)(a:Addr)(y v:V)(H':Hp):Prop:=
 (∃kvs k,H a=some (.dK kvs)/\y=kV k/\kvs.length<sizeLine/\H'=upd H a (.dK (putK kvs k v)))\/
 ∃kvs k b,H a=some (.dT kvs)/\y=.ref b/\H b=some (.tup (k.map kV))/\kvs.length<sizeLine/\H'=upd H a (.dT (putK kvs k v))
theorem L5.k{H:Hp}{a:Addr}{kvs:List (Key×V)}{k:Key}(e:H a=some (.dK kvs)):L5 H a (kV k) (I0 kvs k):=.inl ⟨kvs,k,.inl e,rfl,rfl⟩
theorem R0.k{H:Hp}{a:Addr}{kvs:List (Key×V)}{k:Key}{v:V}(e:H a=some (.dK kvs))(hl:kvs.length<sizeLine):R0 H a (kV k) v (upd H a (.dK (putK kvs k v))):=.inl ⟨kvs,k,e,rfl,hl,rfl⟩
section
variable{X:Cx}{z4:List AE}{σ:St}{H:Hp}{s:Shared}{a:Addr}{y v:V}{u r:Value}{o:Option V}{A:Around}{E:AB}
theorem Inv.big(I:Inv X z4 σ H s):sysModules<s.heap.objs.size:=by
 have h:mainGlobals<s.heap.objs.size:=(I.mod.glob.keeps I.bk).lt
 exact lJ (by decide) h
theorem SJ{Q:AB}(hu:A.units+1<cLine)(I:Inv X z4 σ H s)(g:L5 H a y (some v))(ry:RelV y u)(h:∀w' s',Inv X z4 σ H s'->RelV v w'->Q w' s') :
  wpAny (model X.prog X.w) A (getItem (.ref a) u) Q E s:=by
 rcases g with ⟨kvs,k,e,ey,l⟩|⟨kvs,k,b,e,ey,eb,l⟩
 ·subst ey
  obtain⟨z,hd,vs,rel,dd⟩:=rH I.hok e
  obtain⟨w',hw,rw'⟩:=M5.some_of (v:=v) (o:=valueAt vs k) (by rw[l];exact rel.val k)
  exact wpAny_getItem_of (uh ry) dd.mapOf hw (h w' _ (I.tok _) rw')
 ·subst ey
  cases (show u=Value.ref b from ry)
  obtain⟨z,hd,xs,rel,dd⟩:=rG I.hok e
  obtain⟨w',hw,rw'⟩:=M5.some_of (v:=v) (o:=(atKey xs k).map (·.2)) (by rw[l];exact rel.val k)
  obtain⟨p,hp,hp2⟩:=bV.mp hw
  refine wpAny_getItem_heap (Ox hu) (rL I.hok eb) dd hp ?_
  rw[hp2]
  exact h w' _ (I.tok _) rw'
theorem d_in{Q:AB}(hu:A.units+1<cLine)(I:Inv X z4 σ H s)(g:L5 H a y o)(ry:RelV y u)(h:∀s',Inv X z4 σ H s'->Q (.bool o.isSome) s') :
  wpAny (model X.prog X.w) A (compareOp .In u (.ref a)) Q E s:=by
 rcases g with ⟨kvs,k,e,ey,l⟩|⟨kvs,k,b,e,ey,eb,l⟩
 ·subst ey
  obtain⟨z,hd,vs,rel,dd⟩:=rH I.hok e
  refine wpAny_in_of (uh ry) hd dd.mapOf ?_
  rw[<- (rel.val k).O0,<- l]
  exact h _ (I.tok _)
 ·subst ey
  cases (show u=Value.ref b from ry)
  obtain⟨z,hd,xs,rel,dd⟩:=rG I.hok e
  refine wpAny_in_heap (Ox hu) (rL I.hok eb) hd dd ?_
  have q:=(rel.val k).O0
  rw[Option.isSome_map] at q
  rw[<- q,<- l]
  exact h _ (I.tok _)
theorem ZY{h':Heap}{t':Nat}{ob:HO}(I:Inv X z4 σ H s)(mu:Mut (H a))(hs:Heap.SameBut a s.heap h')(he:∃q,h'.get? a=some q)(new:zv X.prog X.w (upd H a ob) h' a ob) :
  Inv X z4 σ (upd H a ob) { s with heap:=h',toks:=t' }:=
 I.write (x:=a) (e:=a) mu (.inl rfl) (fun b q hb z=>(hs.2 b hb).trans z) he new
theorem aX{P:Program}{w:World}{H':Hp}{h':Heap}{kvs:List (Key×V)}{vs:List (Key×Value)}(z:kvs.length<=sizeLine)(hd:(a == sysModules)=false)(rel:KV kvs vs)(dd:h'.DictOf (xF P w) a vs) :
  zv P w H' h' a (.dK kvs):=⟨z,hd,vs,rel,dd⟩
theorem RO{H':Hp}{Q:Unit->Shared->Prop}(hu:A.units+1<cLine)(I:Inv X z4 σ H s)(g:R0 H a y v H')(ry:RelV y u)(rv:RelV v r)(h:∀s',Inv X z4 σ H' s'->Q () s') :
  wpAny (model X.prog X.w) A (setItem (.ref a) u r) Q E s:=by
 rcases g with ⟨kvs,k,e,ey,l,eH⟩|⟨kvs,k,b,e,ey,eb,l,eH⟩
 ·subst ey eH
  obtain⟨z,hd,vs,rel,dd⟩:=aT I.hok e
  have hz:vs.length<=sizeLine:=by rw[<- rel.length];exact z
  have hl:(putK kvs k v).length<=sizeLine:=by have:=iE kvs k v;lia
  refine wpAny_setItem_pairs (hsz:=hz) (uh ry) dd fun h' dd' hs=>h _ ?_
  have he:∃q,h'.get? a=some q:=let ⟨q,_,_,hq,_⟩:=dd';⟨q,hq⟩
  exact ZY I (by rw[e];exact True.intro) hs he (aX hl hd (rel.put k rv) dd')
 ·subst ey eH
  cases (show u=Value.ref b from ry)
  obtain⟨z,hd,xs,rel,dd⟩:=w0x I.hok e
  have hz:xs.length<=sizeLine:=by rw[<- Paired.length rel];exact z
  have hl:(putK kvs k v).length<=sizeLine:=by have:=iE kvs k v;lia
  refine wpAny_setItem_heap (hsz:=hz) (Ox hu) (rL I.hok eb) dd fun h' dd' hs=>h _ ?_
  obtain⟨q,es,ep,hq,h2,h3,h4,_,h5⟩:=dd'
  refine ZY I (by rw[e];exact True.intro) hs ⟨q,hq⟩ ⟨hl,hd,_,(rel.put k eb rv).keeps fun c ys ec=>?_,q,es,ep,hq,h2,h3,h4,h5⟩
  rw[zS (xW ec e (fun z=>nomatch z))]
  exact ec
end
section
variable{X:Cx}{z4:List AE}{σ:St}{H:Hp}{s:Shared}{a:Addr}{kvs:List (Key×V)}{k:Key}{u:Value}{A:Around}{E:AB}
end
noncomputable def NoSl(i:Expr):Prop:=∀ov iv,subscripted i false ov iv=operate [ov,iv] (getItem ov iv)
theorem VH{prog:Program}{w:World}{A:Around}{E:AB}{s:Shared}{env:Env}{value slice:Expr}{pos:Pos}{T id:String}{Q:AB}
  (hl:typeLookup (.type T) "__getitem__"=pure (some (.builtin id))) (hs:NoSl slice)
  (h:wpAny (model prog w) A (eval value env) (fun o s₁=>wpAny (model prog w) A (eval slice env) (fun i s₂=>s₂.TypeIs o T/\wpAny (model prog w) A (getItem o i) Q E s₂) E s₁) E s) :
  wpAny (model prog w) A (eval (.Subscript value slice pos) env) Q E s:=by
 refine Subscript_ (OF h (fun o s₁ h₁=>OF h₁ (fun i s₂ h₂=>?_) fun _ _ x=>x) fun _ _ x=>x)
 obtain⟨hT,h₂⟩:=h₂
 unfold subscriptTail
 refine Pl ?_
 rw[getitemInPython_of_ne hT.not_modules]
 refine Pl (OJ hT hl ?_)
 have fin:wpAny (model prog w) A (subscripted slice false o i) (fun r s₃=>wpAny (model prog w) A (letTemporaryGo value o r >>= fun _=>pure r) Q E s₃) E s₂:=by
  rw[hs o i]
  exact wpAny_operating (OF h₂ (fun r s₃ h₃=>Pl (wpAny_letTemporaryGo (Pm h₃))) fun _ _ x=>x)
 first
  | exact Pm (Pl fin)
  | exact Pl (Pm (Pl fin))
  | exact Pl fin
theorem PN{X:Cx}{z4:List AE}{σ:St}{H:Hp}{s:Shared}{a:Addr}{y:V}{o:Option V}(I:Inv X z4 σ H s)(g:L5 H a y o):s.TypeIs (.ref a) "dict":=by
 rcases g with ⟨kvs,k,e,_,_⟩|⟨kvs,k,b,e,_,_,_⟩
 ·obtain⟨_,_,vs,_,dd⟩:=rH I.hok e
  exact dd.typeIs
 ·obtain⟨_,_,xs,_,dd⟩:=rG I.hok e
  exact dd.typeIs
noncomputable def w0i(td ty:TE):TE:=fun σ H Q=>td σ H fun x H1=>ty σ H1 fun y H2=>∃a v,x=.ref a/\L5 H2 a y (some v)/\Q v H2
noncomputable def tDIn(ty td:TE):TE:=fun σ H Q=>ty σ H fun y H1=>td σ H1 fun x H2=>∃a o,x=.ref a/\L5 H2 a y o/\Q (.bl o.isSome) H2
noncomputable def w0t(td ty tv:TE):TS:=fun D σ H=>tv σ H fun v H1=>td σ H1 fun x H2=>ty σ H2 fun y H3=>∃a H4,x=.ref a/\R0 H3 a y v H4/\D.nx σ H4
section
variable{X:Cx}{o i e value:Expr}{pos pos' tpos:Pos}{td ty tv:TE}
theorem vn(hu:X.A.units+1<cLine)(ho:PE X o td)(hi:PE X i ty)(hs:NoSl i):PE X (.Subscript o i pos) (w0i td ty):=by
 intro z4 s σ H Q I h
 refine VH PySem.F.slot_dict_getitem.lookup hs (thn (ho z4 s σ H _ I h) fun u s1 ⟨x,H1,I1,rx,q1⟩=>thn (hi z4 s1 σ H1 _ I1 q1) fun iv s2 hz=>?_)
 obtain⟨y,H2,I2,ry,a,v,ex,g,q2⟩:=hz
 subst ex
 obtain rfl:u=Value.ref a:=rx
 exact⟨PN I2 g,SJ hu I2 g ry fun w' s3 I3 rw'=>⟨v,H2,I3,rw',q2⟩⟩
theorem mO(hu:X.A.units+1<cLine)(hi:PE X i ty)(ho:PE X o td):PC X .In i o (tDIn ty td):=by
 intro z4 s σ H Q I h
 refine thn (hi z4 s σ H _ I h) fun iv s1 ⟨y,H1,I1,ry,q1⟩=>thn (ho z4 s1 σ H1 _ I1 q1) fun u s2 hz=>?_
 obtain⟨x,H2,I2,rx,a,ov,ex,g,q2⟩:=hz
 subst ex
 obtain rfl:u=Value.ref a:=rx
 exact d_in hu I2 g ry fun s3 I3=>⟨.bl ov.isSome,H2,I3,rfl,q2⟩
theorem ml(hu:X.A.units+1<cLine)(ho:PE X o td)(hi:PE X i ty)(hv:PE X value tv)(hs:swapsWith value (some (.Subscript o i pos')) pos.line X.env=pure false) :
  PS X (.Assign [.Subscript o i pos'] value pos) (w0t td ty tv):=by
 intro z4 s σ H D I h
 refine wpAny_Assign_Subscript (thn (hv z4 s σ H _ I h) fun r s1 ⟨v,H1,I1,rv,q1⟩=>thn (ho z4 s1 σ H1 _ I1 q1) fun u s2 ⟨x,H2,I2,rx,q2⟩=>thn (hi z4 s2 σ H2 _ I2 q2) fun iv s3 hz=>?_) hs
 obtain⟨y,H3,I3,ry,a,H4,ex,g,q3⟩:=hz
 subst ex
 obtain rfl:u=Value.ref a:=rx
 exact RO hu I3 g ry rv fun s4 I4=>⟨σ,H4,I4,q3⟩
end
theorem Te{P:Program}{w:World}{H:Hp}(h:Heap)(hb:sysModules<h.objs.size):zv P w H (h.push { cls:=.type "dict",data:=.dict #[] }) h.objs.size (.dK []):=
 ⟨cQ _,beq_eq_false_iff_ne.mpr (eQ (c8 hb)),[],.nil,Heap.DictOf.new h⟩
noncomputable def Wq:TE:=fun _ H Q=>∀p,H p=none->Q (.ref p) (upd H p (.dK []))
section
variable{X:Cx}{pos:Pos}
theorem Yj:PE X (.Dict [] [] pos) Wq:=fun z4 s σ H Q I h=>
 wpAny_Dict_empty ⟨.ref s.heap.objs.size,_,I.laid (a:=s.heap.objs.size) (o:=.dK []) (t':=s.toks) (fun _ _ q=>bB _ q) (bG _) (Te s.heap I.big),rfl,h _ (I.hok.fresh (bG _))⟩
end
section
variable{X:Cx}{z4:List AE}{σ:St}{H:Hp}{s:Shared}{a:Addr}{y d:V}{u r:Value}{o:Option V}{A:Around}{E:AB}
end
section
variable{X:Cx}{o e f:Expr}{apos Q4:Pos}{td ty tx:TE}
end
section
variable{X:Cx}{z4:List AE}{σ:St}{H:Hp}{s:Shared}{a:Addr}{kvs:List (Key×V)}{A:Around}{E:AB}
end
section
variable{X:Cx}{z4:List AE}{σ:St}{H:Hp}{s:Shared}{a:Addr}{y:V}{u:Value}{A:Around}{E:AB}
end
structure D5(P:Program)(w:World)(K:AA)(mg:Str->AH)(base:Heap)(k:Nat)(C:Addr)(m:Str)(ps:AF)(sp:Sp):Prop where
 cl:Cls K C
 ex:∃(f:Addr) (fd:FuncData),B2 P w K mg base CX0 k f fd ps sp/\yK K fd ps []/\Meth K C m f
theorem D5.mk'{P:Program}{w:World}{K:AA}{mg:Str->AH}{base:Heap}{k:Nat}{C:Addr}{m:Str}{ps:AF}{sp:Sp}{f:Addr}{fd:FuncData}(c:Cls K C)(a:B2 P w K mg base CX0 k f fd ps sp)(b:yK K fd ps [])(d:Meth K C m f) :
  D5 P w K mg base k C m ps sp:=⟨c,f,fd,a,b,d⟩
section
variable{X:Cx}{k:Nat}{C:Addr}{m x:Str}{ps:AF}{sp:Sp}{o e:Expr}{es:List Expr}{ta:TE}{t:TA}{p pos apos:Pos}{pl:Sem Bool}
theorem xV(G:D5 X.prog X.w X.K X.mg X.base k C m ps sp)(hr:D9 k X.A)(he:PE X o ta)(ha:PA X (e::es) t)
  (hst:starEach (e::es) X.env=(false,eval e X.env)::starEach es X.env:=by rfl) (hpl:(backTo pos (starEach es X.env)).any (·.1)=false:=by rfl)
  (ht:eval (.Call (.Attribute o m apos) (e::es) [] pos) X.env=(do
   let ov <- eval o X.env
   standAt apos.atName
   let (f,first) <- holding [ov] (getMethod ov m pl)
   callWith pos f first (backTo pos (starEach (e::es) X.env)) (backToKw pos (keywordEach [] X.env))):=by rfl) :
  PE X (.Call (.Attribute o m apos) (e::es) [] pos) (rE C m sp [] E0 ta t):=by
 obtain⟨f,fd,a,b,d⟩:=G.ex
 exact Vn he G.cl d a hr b .nil rC ha hst hpl ht
theorem wH(G:D5 X.prog X.w X.K X.mg X.base k C m ps sp)(hr:D9 k X.A)(he:PE X o ta)
  (ht:eval (.Call (.Attribute o m apos) [] [] pos) X.env=(do
   let ov <- eval o X.env
   standAt apos.atName
   let (f,first) <- holding [ov] (getMethod ov m pl)
   callWith pos f first (backTo pos (starEach [] X.env)) (backToKw pos (keywordEach [] X.env))):=by rfl) :
  PE X (.Call (.Attribute o m apos) [] [] pos) (rE C m sp [] E0 ta U8):=by
 obtain⟨f,fd,a,b,d⟩:=G.ex
 exact UX he G.cl d a hr b .nil rC ht
end
structure Mkr(P:Program)(w:World)(K:AA)(mg:Str->AH)(base:Heap)(k:Nat)(C:Addr)(x:Str)(ps:AF)(sp:Sp):Prop where
 ex:∃(f:Addr) (fd:FuncData),B2 P w K mg base CX0 k f fd ps sp/\yK K fd ps []/\Mk K C f/\mg x=some (.ref C)
theorem Mkr.mk'{P:Program}{w:World}{K:AA}{mg:Str->AH}{base:Heap}{k:Nat}{C:Addr}{x:Str}{ps:AF}{sp:Sp}{f:Addr}{fd:FuncData}(a:B2 P w K mg base CX0 k f fd ps sp)(b:yK K fd ps [])(c:Mk K C f)(d:mg x=some (.ref C)) :
  Mkr P w K mg base k C x ps sp:=⟨f,fd,a,b,c,d⟩
section
variable{X:Cx}{k:Nat}{C:Addr}{m x:Str}{ps:AF}{sp:Sp}{o e:Expr}{es:List Expr}{ta:TE}{t:TA}{p pos apos:Pos}
theorem mZ(G:Mkr X.prog X.w X.K X.mg X.base k C x ps sp)(hr:D9 (k+1) X.A)(hg:Gl X x)(ha:PA X (e::es) t)
  (hdb:(x == ("__debug__":Str))=false:=by decide) (he:starEach (e::es) X.env=(false,eval e X.env)::starEach es X.env:=by rfl) (hpl:(backTo pos (starEach es X.env)).any (·.1)=false:=by rfl) :
  PE X (.Call (.Name x p) (e::es) [] pos) (aG C sp [] E0 t):=by
 obtain⟨f,fd,a,b,c,d⟩:=G.ex
 exact Vb c a hr hg d b .nil rC ha hdb he hpl
theorem vd{n:Int}(hg:Gl X x)(hm:∃t,X.mg x=some (.int n t))(hd:(x == ("__debug__":Str))=false:=by decide):PE X (.Name x pos) (tC (.int n)):=by
 obtain⟨t,e⟩:=hm
 exact ZW hg e ⟨t,rfl⟩ hd
end
noncomputable def ae(K:AA):AK->Hp->VK->Prop:=fun xs H Q=>∃p ys,xs=[.ref p]/\((SqL K H p ys/\∀l,H l=none->Q (.ref l) (upd H l (.tup ys)))\/(SqT K H p ys/\Q (.ref p) H))
section
variable{X:Cx}{K:AA}
theorem dc(h:X.K=K):yo X (.type "tuple") (ae K):=by
 subst h
 exact ym
end
section
variable{X:Cx}
noncomputable def w0j(K:AA)(le:Int->Int->Prop):AK->Hp->VK->Prop:=fun xs H Q=>∃p ns,xs=[.ref p]/\SqI K H p ns/\ns≠[]/\∀m,m∈ns->(∀y∈ns,le y m)->Q (.int m) H
theorem XZ(hc:X.calm=true):yo X (.builtin "max") (w0j X.K fun y m=>y<=m):=by
 intro z4 s σ H xs us Q I r h
 obtain⟨a,ns,rfl,hq,hn,q⟩:=h
 obtain⟨u,rfl,ru⟩:=xK r
 cases ru
 refine call_max_walk (qN (A:=X.A.in1) I (I.ok.hd hc) hq fun it fp St zC s3 rv W st hfp back=>?_)
 have hl:=rv.length
 rw[bA] at hl
 have h0:0<zC.length:=by
  rw[<- hl]
  exact gQ.mpr hn
 refine⟨it,fp,[it],_,_,St,_,rfl,W,st,hfp,by rw[bN];exact h0,CmpOf.ints_gt (fun i=>ns.getD i 0) (vv rv),fun v h' tk hv k=>?_⟩
 rw[bN] at hv
 obtain⟨t,rfl⟩:=vv rv _ _ hv
 obtain⟨b1,b2⟩:=kf (fun i=>ns.getD i 0) (zC.length-1)
 refine⟨.int _,H,back h' tk k,⟨t,rfl⟩,q _ (kb (by lia)) fun y hy=>?_⟩
 obtain⟨i,hi,rfl⟩:=kh hy
 exact b2 i (by lia)
end
end L2
namespace L2
open PySem
noncomputable def Ris(xs:Array Nat):Prop:=∀i j,i<j->j<xs.size->xs.getD i 0<xs.getD j 0
theorem TZ{xs:Array Nat}{i d e:Nat}(h:i<xs.size):xs.getD i d=xs.getD i e:=by simp[Array.getD,h]
structure Lo(xs:Array Nat)(j r:Nat):Prop where
 le:r<=xs.size
 lt:∀i,i<r->xs.getD i 0<j
 ge:∀i,r<=i->i<xs.size->j<=xs.getD i 0
theorem tN{xs:Array Nat}{j:Nat}(hr:Ris xs):∀(fuel lo hi:Nat),hi-lo<=fuel->lo<=hi->hi<=xs.size->(∀i,i<lo->xs.getD i 0<j)->(∀i,hi<=i->i<xs.size->j<=xs.getD i 0)->Lo xs j (SetTable.below.go xs j fuel lo hi)
 | 0,lo,hi,h,hl,hs,a,b=>by
  unfold SetTable.below.go
  have:lo=hi:=by lia
  subst this
  exact⟨hs,a,b⟩
 | fuel+1,lo,hi,h,hl,hs,a,b=>by
  unfold SetTable.below.go
  by_cases c:lo<hi
  ·rw[Po c]
   have m1:lo<=(lo+hi) / 2:=by lia
   have m2:(lo+hi) / 2<hi:=by lia
   have m3:(lo+hi) / 2<xs.size:=by lia
   dsimp only
   rw[TZ (e:=0) m3]
   by_cases d:xs.getD ((lo+hi) / 2) 0<j
   ·rw[Po d]
    refine tN hr fuel _ hi (by lia) (by lia) hs (fun i hi'=>?_) b
    by_cases e:i=(lo+hi) / 2
    ·rw[e];exact d
    ·exact lJ (hr i _ (by lia) m3) d
   ·rw[Pn d]
    refine tN hr fuel lo _ (by lia) m1 (by lia) a fun i hi' hz=>?_
    by_cases e:i=(lo+hi) / 2
    ·rw[e];lia
    ·have:=hr _ i (show(lo+hi) / 2<i by lia) hz
     lia
  ·rw[Pn c]
   have:lo=hi:=by lia
   subst this
   exact⟨hs,a,b⟩
theorem i9{t:SetTable}(hd:t.dummies=#[]){j:Nat}(h:t.slot j=.empty):t.place[SetTable.below t.place j]? ≠ some j:=by
 intro e
 unfold SetTable.slot at h
 dsimp only at h
 rw[e] at h
 simp at h
theorem QB{t:SetTable}(hd:t.dummies=#[]){j:Nat}:t.slot j≠.dummy:=by
 unfold SetTable.slot
 dsimp only
 intro h
 split at h
 ·cases h
 ·split at h
  ·rename_i h2
   rw[hd] at h2
   unfold SetTable.has at h2
   simp at h2
  ·cases h
theorem rn{t:SetTable}{ha:Nat->Int}{h:Int}(hd:t.dummies=#[])(hne:∀i,(ha i == h)=false):∀(fuel:Nat) (p:SetTable.Probe) (j:Nat) (d:Option Nat),p.dummy=none->SetTable.probe.go t ha h fuel p=some (.empty j d)->d=none/\t.slot j=.empty
 | 0,p,j,d,_,e=>by
  unfold SetTable.probe.go at e
  cases e
 | fuel+1,p,j,d,hp,e=>by
  unfold SetTable.probe.go at e
  cases hs:t.slot p.j with
  | empty=>
   rw[hs] at e
   simp at e
   obtain⟨rfl,rfl⟩:=e
   exact⟨hp,hs⟩
  | dummy=>exact ND hs (QB hd)
  | live i=>
   rw[hs] at e
   dsimp only at e
   rw[hne i,Pn bP] at e
   refine rn hd hne fuel _ j d ?_ e
   unfold SetTable.advance
   split
   ·exact hp
   ·exact hp
section
variable{prog:Program}{w:World}{A:Around}{E:AB}{s:Shared}{κ:Type}[DecidableEq κ]{kd:KeyKind prog w κ}{led:Bool}
end
end L2
namespace L2
open PySem PySem.Spec PyProof.Rows
namespace Ty
end Ty
theorem qq{α:Type}:∀(l:List α) (i:Nat) (h:i<l.length),(l[i]::l.eraseIdx i).Perm l
 | x::r,0,h=>List.Perm.refl _
 | x::r,i+1,h=>by
  have:=qq r i (by simpa using h)
  rw[List.eraseIdx_cons_succ,List.getElem_cons_succ]
  exact(List.Perm.swap x _ _).trans (this.cons x)
theorem Zn{α:Type}(next:Nat->Nat):∀(fuel k:Nat) (left:List α) (out:Array α),left.length=fuel->(pickOrder.go next fuel k left out).toList.Perm (out.toList++left)
 | 0,k,left,out,h=>by
  unfold pickOrder.go
  rw[dD h,dB]
 | fuel+1,k,left,out,h=>by
  unfold pickOrder.go
  have hi:next k%left.length<left.length:=gX _ (by lia)
  rw[bC hi]
  dsimp only
  refine(Zn next fuel (k+1) _ _ (by rw[List.length_eraseIdx_of_lt hi];lia)).trans ?_
  rw[Array.toList_push,eB]
  exact List.Perm.append_left _ (qq _ _ hi)
theorem Sb{α:Type}(next:Nat->Nat)(xs:Array α):(pickOrder next xs).toList.Perm xs.toList:=by
 have:=Zn next xs.size 0 xs.toList #[] (by simp)
 simpa [pickOrder] using this
section
variable{prog:Program}{w:World}{A:Around}{E:AB}{s:Shared}
theorem Rh{α:Type}(n:Nat):∀(xs:List α) (s:Shared) (Q:List α->Shared->Prop),xs.length=n->(∀(ys:List α) (d:Drawn),ys.Perm xs->Q ys { s with drawn:=d })->wpAny (model prog w) A (drawOrder n xs) Q E s:=by
 induction n with
 | zero=>
  intro xs s Q h fin
  rw[dD h] at fin ⊢
  exact Pm (fin [] s.drawn (List.Perm.refl _))
 | succ n ih=>
  intro xs s Q h fin
  obtain⟨x,r,rfl⟩:=d6 h
  show wpAny _ _ (choose .order (x::r).length >>= _) _ _ s
  have hi:(model prog w).w.draws .order (s.drawn.get .order)%(x::r).length<(x::r).length:=gX _ (gE _)
  refine Pl (fun Γ p hΓ=>?_)
  unfold choose
  rw[Sem.wp_choose]
  refine⟨by simp,?_⟩
  show wpAny _ _ _ _ _ _
  generalize (model prog w).w.draws .order (s.drawn.get .order)%(x::r).length=i at hi
  rw[bC hi]
  dsimp only
  refine Pl (ih _ _ _ (by rw[List.length_eraseIdx_of_lt hi,h];rfl) fun ys d hp=>Pm (fin _ d ?_))
  exact(hp.cons _).trans (qq _ _ hi)
end
namespace Ty
end Ty
section
variable{prog:Program}{w:World}{A:Around}{E:AB}{s:Shared}{κ:Type}[DecidableEq κ]{kd:KeyKind prog w κ}
end
section
variable{X:Cx}
theorem Inv.V3{z4:List AE}{σ:St}{H:Hp}{s:Shared}(I:Inv X z4 σ H s)(d:Drawn):Inv X z4 σ H { s with drawn:=d }:=by
 cases I
 constructor<;>assumption
end
theorem ue:Slot "reversed" "__next__" "reversed.__next__":=
 .of (owner:="reversed") (n:="__next__") (by rw[Oe,OP];kernel_rfl) (by decide +kernel) (by decide +kernel) (by decide +kernel) (by first|exact .inl (by decide +kernel)|exact .inr (by decide +kernel)) (by rw[OV];kernel_rfl)
theorem iw:Slot "reversed" "__iter__" "reversed.__iter__":=
 .of (owner:="reversed") (n:="__iter__") (by rw[Oe,OP];kernel_rfl) (by decide +kernel) (by decide +kernel) (by decide +kernel) (by first|exact .inl (by decide +kernel)|exact .inr (by decide +kernel)) (by rw[OV];kernel_rfl)
theorem PU:Slot "reversed" "__init__" "object.__init__":=
 .of (owner:="object") (n:="__init__") (by rw[Oe,OP];kernel_rfl) (by decide +kernel) (by decide +kernel) (by decide +kernel) (by first|exact .inl (by decide +kernel)|exact .inr (by decide +kernel)) (by rw[OV];kernel_rfl)
theorem fj:entryFor table "reversed.__next__"=some Builtin.«reversed.__next__»:=entryFor_of_tree (by kernel_rfl)
theorem PX:entryFor table "reversed.__iter__"=some Builtin.«dict_keyiterator.__iter__»:=entryFor_alias (id':="dict_keyiterator.__iter__") (by kernel_rfl) (by first|rfl|decide +kernel|(unfold String.splitOn;simp +decide [String.splitOnAux])) (by decide +kernel) (by kernel_rfl)
theorem gf(a:Value):argsOk "reversed.__next__" ⟨[a],[]⟩:=by unfold argsOk;kernel_rfl
theorem Pc(a:Value):argsOk "reversed.__iter__" ⟨[a],[]⟩:=by unfold argsOk;kernel_rfl
theorem qH:TypeCalled "reversed" "reversed.__new__" "object.__init__":=
 ⟨by decide +kernel,by decide +kernel,⟨_,_,PySem.F.mro_reversed⟩,PySem.F.made_reversed,by decide +kernel,PySem.F.sub_reversed_self,PU⟩
theorem Xv:typeLookup (.type "tuple") "__reversed__"=pure none:=by rw[Oe,OP];kernel_rfl
theorem Rq:isSubtype (.type "tuple") (.type "dict")=pure false:=by rw[OV];kernel_rfl
abbrev wZ(t:Addr)(i:Int):Obj:={ cls:=.type "reversed",dict:=none,data:=.fields #[.ref t,rawInt i],slots:=#[] }
section
variable{prog:Program}{w:World}{A:Around}{E:AB}{s:Shared}
theorem Qi{t:Addr}{zB:AI}{Q:AB}(ht:IsTup s.heap t zB)(hf:(zB.size:Int)<2^63)(h:∀tk,Q (.ref s.heap.objs.size) { s with heap:=s.heap.push (wZ t ((zB.size:Int)-1)),toks:=tk }) :
  codeAny (model prog w) A (.call (.builtin "reversed.__new__") ⟨[.type "reversed",.ref t],[]⟩) (wants Q E) s:=by
 refine codeAny_of_tree ?_
 show wpAny _ A.in1 (do checkBuiltinCall "reversed.__new__" ⟨[.type "reversed",.ref t],[]⟩;again (.builtin "reversed.__new__" ⟨[.type "reversed",.ref t],[]⟩)) _ _ s
 refine Pl (OQ (PySem.F.newCall_reversed_1 _) (Pm ⟨OB PySem.F.plain_reversed_new _,Pw PySem.F.entry_reversed_new ?_⟩))
 rw[cH PySem.F.plain_reversed_new _]
 unfold Builtin.«reversed.__new__»
 refine Pl (OQ (newClass_reversed _) ?_)
 try dsimp only
 refine Pl (OQ (a:=()) (by first|rfl|kernel_rfl) ?_)
 refine Pl (OQ (a:=()) (by first|rfl|kernel_rfl) ?_)
 try dsimp only
 refine Pl (OJ ht.typeIs Xv ?_)
 try dsimp only
 refine Pl ?_
 show wpAny _ _ (isInstance (.ref t) (.type "dict") >>= fun b=>_) _ _ _
 refine Pl (OZ (T:="tuple") ht.typeIs Rq ?_)
 rw[Pn (by decide)]
 refine Pl (OJ ht.typeIs slot_tuple_getitem.lookup ?_)
 dsimp only
 rw[Po (by decide +kernel)]
 refine Pm ?_
 rw[Pn (by decide)]
 refine Pl (len_tuple ht hf ?_)
 refine Pl (OQ (a:=some (zB.size:Int)) rfl ?_)
 dsimp only
 refine Pl ?_
 show wpAny _ _ (newObj (.type "reversed") (.fields #[.ref t,rawInt ((zB.size:Int)-1)])) _ _ _
 exact OA (Pm (h _)) (by size_fits)
theorem Vr{t:Addr}{zB:AI}{Q:AB}(ht:IsTup s.heap t zB)(hf:(zB.size:Int)<2^63)(h:∀tk,Q (.ref s.heap.objs.size) { s with heap:=s.heap.push (wZ t ((zB.size:Int)-1)),toks:=tk }) :
  wpAny (model prog w) A (call (.type "reversed") [.ref t]) Q E s:=by
 refine callType_codes (Q₁:=fun obj s₁=>obj=.ref s.heap.objs.size/\∃tk,s₁={ s with heap:=s.heap.push (wZ t ((zB.size:Int)-1)),toks:=tk }) qH (PySem.F.typeCall_reversed_1 _) F.entry_object_init (Qi ht hf fun tk=>⟨rfl,tk,rfl⟩) ?_
 rintro obj s₁ ⟨rfl,tk,rfl⟩
 have ty:Shared.TypeIs { s with heap:=s.heap.push (wZ t ((zB.size:Int)-1)),toks:=tk } (.ref s.heap.objs.size) "reversed":=⟨_,bJ _ rfl,rfl⟩
 exact⟨ty,F.args_object_init_2 _ _,object_init_meets qH.init.lookup qH.made (by decide) _ _ _ _ _ ⟨ty,rfl,h tk⟩⟩
theorem UH{I t:Addr}{i:Nat}{zB:AI}{x:Value}{Q:AH->Shared->Prop}(hI:s.heap.get? I=some (wZ t (i:Int)))(ht:IsTup s.heap t zB)(hx:zB[i]? = some x)(hz:(zB.size:Int)<2^63)
  (hQ:∀h' tk,h'.get? I=some (wZ t ((i:Int)-1))->Heap.SameBut I s.heap h'->Q (some x) { s with heap:=h',toks:=tk }):wpAny (model prog w) A (pyNext (.ref I)) Q E s:=by
 have ty:s.TypeIs (.ref I) "reversed":=⟨_,hI,rfl⟩
 have hi:i<zB.size:=(g0.mp hx).1
 unfold pyNext
 refine Pl (Ou (OE (name:=Str.ofString "__next__") ty ue
  (OD ue ty fj ?_ (gf _))))
 unfold Builtin.«reversed.__next__»
 refine Pl (OQ (a:=(Value.ref I,[])) rfl ?_)
 try dsimp only
 refine Pl (OC hI rfl (x:=.ref t) rfl ?_)
 refine Pl (OC hI rfl (x:=rawInt (i:Int)) rfl ?_)
 show wpAny _ _ (if (i:Int)<0 then _ else _) _ _ s
 rw[Pn (by lia)]
 refine Pl (OJ ht.typeIs slot_tuple_getitem.lookup ?_)
 rw[Pn (by decide)]
 refine Pl (wpAny_mkInt ?_)
 refine Pl (Ou (getItem_tuple (j:=i) (x:=x) ht (by lia) (by lia) ?_ hx ?_))
 ·exact seqIndex_of (by lia) (by lia)
 dsimp only
 refine Pl (OC hI rfl (x:=rawInt (i:Int)) rfl ?_)
 show wpAny _ _ (setField (.ref I) 1 (rawInt ((i:Int)-1)) >>= _) _ _ _
 refine Pl (Oo hI rfl (by simp) ?_)
 refine Pm ⟨x,rfl,Pm (hQ _ _ ?_ (fK ..))⟩
 exact dO _ hI rfl
theorem Wt{I t:Addr}{Q:AH->Shared->Prop}(hh:A.handled=none)(hI:s.heap.get? I=some (wZ t (-1)))
  (hQ:∀h',Heap.ExtBut I s.heap h'->Q none { s with heap:=h' }):wpAny (model prog w) A (pyNext (.ref I)) Q E s:=by
 have ty:s.TypeIs (.ref I) "reversed":=⟨_,hI,rfl⟩
 unfold pyNext
 refine Pl (Ou (OE (name:=Str.ofString "__next__") ty ue
  (OD ue ty fj ?_ (gf _))))
 unfold Builtin.«reversed.__next__»
 refine Pl (OQ (a:=(Value.ref I,[])) rfl ?_)
 try dsimp only
 refine Pl (OC hI rfl (x:=.ref t) rfl ?_)
 refine Pl (OC hI rfl (x:=rawInt (-1)) rfl ?_)
 show wpAny _ _ (if (-1:Int)<0 then _ else _) _ _ s
 rw[Po (by decide)]
 refine Pl (Od ?_)
 refine Pl ?_
 show wpAny _ _ (setField (.ref I) 1 (rawInt (-1)) >>= fun _=>setField (.ref I) 0 .none) _ _ _
 refine Pl (Oo hI rfl (by simp) ?_)
 have g1:=dO (Obj.mapFields (·.setIfInBounds 1 (rawInt (-1)))) hI rfl
 have b1:Heap.SameBut I s.heap (s.heap.update I (Obj.mapFields (·.setIfInBounds 1 (rawInt (-1))))):=fK ..
 refine Oo (vs:=#[.ref t,rawInt (-1)]) g1 rfl (by simp) ?_
 have b2:Heap.SameBut I (s.heap.update I (Obj.mapFields (·.setIfInBounds 1 (rawInt (-1))))) ((s.heap.update I (Obj.mapFields (·.setIfInBounds 1 (rawInt (-1))))).update I (Obj.mapFields (·.setIfInBounds 0 .none))):=fK ..
 refine Pl ?_
 unfold Builtin.SmallTypes.stopIteration
 refine Pl ?_
 simp only[newExc,newTuple]
 refine Pl (OA ?_ (by size_fits))
 refine Pl (m:=firstArgMember _ _) (OQ (a:=Value.none) (by first|rfl|(simp only[firstArgMember];rfl)) (OA ?_ (by size_fits)))
 simp only[raiseNew]
 refine Pl (wpAny_handled ?_)
 rw[show A.in1.handled=none from hh]
 refine Pl (Pm (wpAny_throw ?_))
 refine Pl (OZ (T:="StopIteration") (b:=true) ⟨_,bJ _ rfl,rfl⟩ isSubtype_stop ?_)
 exact Pm (hQ _ fun b o hb e=>bB _ (bB _ ((b2.2 b hb).trans ((b1.2 b hb).trans e))))
theorem YC{I t:Addr}{i:Int}{Q:AB}(hI:s.heap.get? I=some (wZ t i))(h:Q (.ref I) s):wpAny (model prog w) A (pyIter (.ref I)) Q E s:=by
 have ty:s.TypeIs (.ref I) "reversed":=⟨_,hI,rfl⟩
 refine wpAny_pyIter_slot ty iw (OD iw ty PX ?_ (Pc _))
 show wpAny _ _ (ret (.ref I)) _ _ s
 exact Pm ⟨_,rfl,"reversed",_,ty,ue.lookup,h⟩
end
noncomputable def Itv(K:AA)(a:Addr)(n:Nat):It:=
 ⟨fun i H=>i<n/\∃xs,SqT K H a xs/\xs.length=n,fun i H x H'=>H'=H/\∀xs,SqT K H a xs->xs.reverse[i]? = some x,fun i H=>n<=i⟩
theorem Ua{P:Program}{w:World}{K:AA}{tg:Expr}(a it:Addr)(n:Nat):Turn P w K tg (Itv K a n) [it] it (fun i h=>i<=n/\h.get? it=some (wZ a ((n:Int)-1-(i:Int)))) where
 mem:=by simp
 obj:=fun i h st b hb=>by
  have e:b=it:=by simpa using hb
  subst e
  exact⟨_,st.2,fun v z=>by
   have z':Data.fields _=Data.cell v:=z
   cases z'⟩
 keep:=fun i h h' st k=>⟨st.1,k it (by simp) _ st.2⟩
 item:=by
  intro X hP hw hK hc i z4 s σ H E I hf st hg
  subst hP hw hK
  obtain⟨hi,xs,hq,hn⟩:=hg
  obtain⟨zC,rv,p,hz⟩:=I.tuple hq
  have ln:xs.length=zC.length:=rv.length
  have hk:n-1-i<xs.length:=by lia
  obtain⟨u,hu,ru⟩:=rv.get (bC hk)
  obtain⟨f0,f1,f2,f3,f4,f5⟩:=hf it (by simp)
  have e1:(n:Int)-1-(i:Int)=((n-1-i:Nat):Int):=by lia
  have st1:=st.2
  rw[e1] at st1
  refine UH st1 (show IsTup s.heap a zC.toArray from p) (x:=u) (by simpa using hu) ?_ fun h' tk st' sb=>?_
  ·have:zC.toArray.size=xs.length:=by simp[ln]
   rw[this]
   have:=d8 hz vQ
   lia
  have I1:Inv X z4 σ H { s with heap:=h',toks:=tk }:=I.turned (t':=tk) (fun b o hb e=>(sb.2 b hb).trans e) f0 f1 f3 f4 f5
  refine⟨u,rfl,uD (s:={ s with heap:=h',toks:=tk }) st' rfl rfl (by decide) ⟨xs[n-1-i],H,I1,ru,⟨rfl,fun ys hy=>?_⟩,⟨hi,?_⟩,fun b hb=>(hf b hb).1⟩⟩
  ·rw[I.M4 hy hq,List.getElem?_reverse (by lia),bC (by lia)]
   congr 2
   lia
  ·have e2:(n:Int)-1-((i+1:Nat):Int)=((n-1-i:Nat):Int)-1:=by lia
   rw[e2]
   exact st'
 done:=by
  intro X hP hw hK hc i z4 s σ H E I hf st hg
  subst hP hw hK
  obtain⟨f0,f1,f2,f3,f4,f5⟩:=hf it (by simp)
  have hg':n<=i:=hg
  have st1:=st.2
  rw[show(n:Int)-1-(i:Int)=-1 by have:=st.1;lia] at st1
  exact Wt (I.ok.hd hc) st1 fun h' eb=>⟨rfl,I.turned (t':=s.toks) (fun b o hb e=>eb b o hb e) f0 f1 f3 f4 f5⟩
 self:=fun _ _ _ _ _ st h=>YC st.2 h
section
variable{X:Cx}{tg:Expr}
noncomputable def iRev(K:AA)(ta:TA):TI:=fun σ H R=>ta σ H fun vs H1=>∃a xs,vs=[.ref a]/\SqT K H1 a xs/\R (Itv K a xs.length) H1
theorem aW{e:Expr}{ta:TA}{p pos:Pos}(hg:Gl X "reversed")(hm:X.mg "reversed"=none)(ha:PA X [e] ta)(hs:starEach [e] X.env=[(false,eval e X.env)]:=by rfl):PI X tg (.Call (.Name "reversed" p) [e] [] pos) (iRev X.K ta):=by
 intro z4 s σ H R I h
 refine Call_ (wF I hg hm boot_reversed (dN (thn (ha pos z4 s σ H _ I h) fun us s1 ⟨vs,H1,I1,r1,q1⟩=>?_) hs rfl))
 obtain⟨a,xs,e,hq,q⟩:=q1
 subst e
 cases r1 with
 | cons r rr=>
  cases rr
  cases r
  obtain⟨zC,rv,p,hz⟩:=I1.tuple hq
  have ln:(zC.toArray.size:Int)=xs.length:=by simp[rv.length]
  refine Vr (show IsTup s1.heap a zC.toArray from p) ?_ fun tk=>?_
  ·rw[ln]
   have:=d8 hz vQ
   lia
  refine YC (bJ _ rfl) ?_
  refine⟨s1.heap.objs.size,[s1.heap.objs.size],_,_,H1,rfl,I1.kept (t':=tk) fun b o e=>bB _ e,Ua a _ xs.length,⟨cQ _,?_⟩,fun b hb=>?_,q⟩
  ·rw[show(xs.length:Int)-1-((0:Nat):Int)=(zC.toArray.size:Int)-1 by rw[ln];simp]
   exact bJ _ rfl
  ·have e:b=s1.heap.objs.size:=by simpa using hb
   subst e
   exact I1.O6 (bG _) (I1.hok.fresh (bG _))
end
theorem Ts{K:AA}{a:Addr}{xs:AK}{g:TG}{tc:TT}{te:TE}{σ0:St}{H1:Hp}{F:AK->Hp->Prop}(Pv:Nat->AK->Hp->Prop)(h0:Pv 0 [] H1)
  (hl:∀i ys H,i<=xs.length->Pv i ys H->SqT K H a xs/\ys.length<sizeLine)
  (hs:∀i x ys H,xs.reverse[i]? = some x->Pv i ys H->w6 g tc te σ0 x H ys (Pv (i+1))) (hd:∀ys H,Pv xs.length ys H->F ys H):wY (Itv K a xs.length) g tc te σ0 H1 F:=by
 refine⟨fun i m ys H=>m=xs.length-i/\i<=xs.length/\Pv i ys H,⟨xs.length,by simp,cQ _,h0⟩,?_⟩
 rintro i m ys H ⟨rfl,hi,p⟩
 obtain⟨q,z⟩:=hl i ys H hi p
 by_cases hlt:i<xs.length
 ·refine .inr ⟨⟨hlt,xs,q,rfl⟩,z,Pv (i+1),fun zs H' p'=>⟨xs.length-(i+1),by lia,rfl,hlt,p'⟩,fun x H' y=>?_⟩
  obtain⟨e,y⟩:=y
  subst e
  exact hs i x ys _ (y xs q) p
 ·have e:i=xs.length:=by lia
  subst e
  exact .inl ⟨bG _,hd ys H p⟩
theorem Vo{K:AA}{a:Addr}{xs:AK}{g:TG}{tb:TS}{D:Ends}{σ:St}{H:Hp}(Pv:Nat->St->Hp->Prop)(h0:Pv 0 σ H)(hl:∀i σ H,i<=xs.length->Pv i σ H->SqT K H a xs)
  (hs:∀i x σ H,xs.reverse[i]? = some x->Pv i σ H->g x σ H fun σ2 H2=>tb { D with nx:=Pv (i+1),ct:=Pv (i+1),bk:=D.nx } σ2 H2) (hd:∀σ H,Pv xs.length σ H->D.nx σ H) :
  ∃W:Nat->Nat->St->Hp->Prop,(∃m,W 0 m σ H)/\∀i m σ H,W i m σ H->
   ((Itv K a xs.length).stop i H/\D.nx σ H)\/((Itv K a xs.length).go i H/\∃N:St->Hp->Prop,(∀σ' H',N σ' H'->∃m',m'<m/\W (i+1) m' σ' H')/\∀x H',(Itv K a xs.length).yld i H x H'->g x σ H' fun σ2 H2=>tb { D with nx:=N,ct:=N,bk:=D.nx } σ2 H2):=by
 refine⟨fun i m σ H=>m=xs.length-i/\i<=xs.length/\Pv i σ H,⟨xs.length,by simp,cQ _,h0⟩,?_⟩
 rintro i m σ H ⟨rfl,hi',p⟩
 have q:=hl i σ H hi' p
 by_cases hlt:i<xs.length
 ·refine .inr ⟨⟨hlt,xs,q,rfl⟩,Pv (i+1),fun σ' H' p'=>⟨xs.length-(i+1),by lia,rfl,hlt,p'⟩,fun x H' y=>?_⟩
  obtain⟨e,y⟩:=y
  subst e
  exact hs i x σ _ (y xs q) p
 ·have e:i=xs.length:=by lia
  subst e
  exact .inl ⟨bG _,hd σ H p⟩
theorem len0{us:AG}{p:AG->Prop}(h:us.length=0)(k:p []):p us:=by rw[dD h];exact k
theorem T3{us:AG}{p:AG->Prop}(h:us.length=1)(k:∀a,p [a]):p us:=by
 obtain⟨a,r,rfl⟩:=d6 h
 exact len0 (p:=fun r=>p (a::r)) (Nat.succ.inj h) (k a)
theorem Y5{us:AG}{p:AG->Prop}(h:us.length=2)(k:∀a b,p [a,b]):p us:=by
 obtain⟨a,r,rfl⟩:=d6 h
 exact T3 (p:=fun r=>p (a::r)) (Nat.succ.inj h) (k a)
theorem Y0{us:AG}{p:AG->Prop}(h:us.length=3)(k:∀a b c,p [a,b,c]):p us:=by
 obtain⟨a,r,rfl⟩:=d6 h
 exact Y5 (p:=fun r=>p (a::r)) (Nat.succ.inj h) (k a)
theorem len4{us:AG}{p:AG->Prop}(h:us.length=4)(k:∀a b c d,p [a,b,c,d]):p us:=by
 obtain⟨a,r,rfl⟩:=d6 h
 exact Y0 (p:=fun r=>p (a::r)) (Nat.succ.inj h) (k a)
theorem len5{us:AG}{p:AG->Prop}(h:us.length=5)(k:∀a b c d e,p [a,b,c,d,e]):p us:=by
 obtain⟨a,r,rfl⟩:=d6 h
 exact len4 (p:=fun r=>p (a::r)) (Nat.succ.inj h) (k a)
theorem len6{us:AG}{p:AG->Prop}(h:us.length=6)(k:∀a b c d e f,p [a,b,c,d,e,f]):p us:=by
 obtain⟨a,r,rfl⟩:=d6 h
 exact len5 (p:=fun r=>p (a::r)) (Nat.succ.inj h) (k a)
theorem Cal.mono{P:Program}{w:World}{K:AA}{mg:Str->AH}{base:Heap}{j k:Nat}{x:Str}{ps:AF}{sp:Sp}(G:Cal P w K mg base j x ps sp)(h:j<=k):Cal P w K mg base k x ps sp:=by
 obtain⟨f,fd,a,b,c,d⟩:=G.ex
 exact⟨f,fd,a.mono h,b,c,d⟩
theorem D5.mono{P:Program}{w:World}{K:AA}{mg:Str->AH}{base:Heap}{j k:Nat}{C:Addr}{m:Str}{ps:AF}{sp:Sp}(G:D5 P w K mg base j C m ps sp)(h:j<=k):D5 P w K mg base k C m ps sp:=by
 obtain⟨f,fd,a,b,c⟩:=G.ex
 exact⟨G.cl,f,fd,a.mono h,b,c⟩
theorem Mkr.mono{P:Program}{w:World}{K:AA}{mg:Str->AH}{base:Heap}{j k:Nat}{C:Addr}{x:Str}{ps:AF}{sp:Sp}(G:Mkr P w K mg base j C x ps sp)(h:j<=k):Mkr P w K mg base k C x ps sp:=by
 obtain⟨f,fd,a,b,c,d⟩:=G.ex
 exact⟨f,fd,a.mono h,b,c,d⟩
theorem vI{X:Cx}{x z:Str}{pos:Pos}(hg:Gl X x)(hm:∃t,X.mg x=some (.str z t))(hd:(x == ("__debug__":Str))=false:=by decide):PE X (.Name x pos) (tC (.str z)):=by
 obtain⟨t,e⟩:=hm
 exact ZW hg e ⟨t,rfl⟩ hd
section
variable{X:Cx}
theorem iy{P:Program}{w:World}:∀{ns:AJ}{vs:AG},vs.length=ns.length->(∀(j:Nat) (v:Value),vs[j]? = some v->∃k:Key,(ns.map Sum.inl)[j]? = some k/\(xF P w).is k v=true)->IntsAre vs ns
 | [],[],_,_=>.nil
 | [],_::_,h,_=>by cases h
 | _::_,[],h,_=>by cases h
 | n::ns,v::vs,h,q=>by
  obtain⟨k,e,hk⟩:=q 0 v rfl
  cases e
  rcases wU (show vf (Sum.inl n) v=true from hk) with ⟨i,t,e1,rfl⟩|⟨x,t,e1,_⟩
  ·cases e1
   exact .cons n t (iy (Nat.succ.inj h) fun j u hu=>q (j+1) u hu)
  ·cases e1
theorem Qv{prog:Program}{w:World}{A:Around}{E:AB}{s:Shared}{R:AG->Shared->Prop}{T:String}{r d:Addr}{n:Nat}{P:Nat->Value->Prop}{OK:Heap->Prop}(K:PySem.W.KdlSrc prog w T r d n P OK)(hh:A.handled=none)(hok:OK s.heap)(hn:n<=sizeLine)
  (fin:∀(h':Heap) (tk:Nat) (zK:AI),(∀b o,s.heap.get? b=some o->h'.get? b=some o)->s.heap.objs.size<h'.objs.size->ItemsOf P zK n->R zK.toList { s with heap:=h',toks:=tk }):wpAny (model prog w) A (collect (.ref r)) R E s:=by
 have hlt:=K.there _ hok
 unfold collect
 refine Pl (Oi (Pw entry_proto_collect' ?_))
 rw[cH PySem.F.plain_proto_collect _]
 refine(show wpAny _ A.in1 (newList [] >>= fun l=>again (.builtin "list.__iadd__" ⟨[l,.ref r],[]⟩)) _ _ s from Pl (OA (Pm ⟨OB gR _,Pw entry_list_iadd' ?_⟩)))
 rw[cH gR _]
 have g1:(s.heap.push { cls:=.type "list",data:=.seq ([]:AG).toArray }).get? s.heap.objs.size=some { cls:=.type "list",data:=.seq #[] }:=bJ _ rfl
 have ext:=PySem.W.kdl_extend (A:=A) (s:={ s with heap:=s.heap.push { cls:=.type "list",data:=.seq ([]:AG).toArray } })
  (R:=fun(q:Result) (s':Shared)=>∃(h':Heap) (tk:Nat) (zK:AI) (c':Nat),q=.ok (.ret (.ref s.heap.objs.size))/\s'={ s with heap:=h',toks:=tk }/\(∀b o,s.heap.get? b=some o->h'.get? b=some o)/\
   h'.get? s.heap.objs.size=some { cls:=.type "list",dict:=none,data:=.seq zK c',slots:=#[] }/\ItemsOf P zK n)
  K hh (K.keep _ _ hok fun b _ o e=>bB _ e) s.heap.objs.size (fL hlt.1) (fL hlt.2) (.ref s.heap.objs.size) 0 g1
  (fun h' tk zK c' k hS' so=>⟨h',tk,zK,c',rfl,rfl,fun b o e=>k b o (c8 (bQ e)) (bB _ e),hS',so⟩) hn
 refine(show wpAny _ A.in1 (Builtin.List.listExtendWith (.ref s.heap.objs.size) (.ref r) (.ref s.heap.objs.size)) _ _ _ from OF ext (fun f s' x=>?_) fun e s' x=>?_)
 ·cases f with
  | done f=>
   obtain⟨h',tk,zK,c',e,rfl,k,hS',so⟩:=x
   cases e
   exact(show wpAny _ A (load s.heap.objs.size >>= _) _ _ _ from Pl (wpAny_load hS' (Pm (fin h' tk _ k (bQ hS') so))))
  | again c1=>
   refine⟨x.1,OR x.2 fun q s2 y=>?_⟩
   obtain⟨h',tk,zK,c',rfl,rfl,k,hS',so⟩:=y
   exact(show wpAny _ A (load s.heap.objs.size >>= _) _ _ _ from Pl (wpAny_load hS' (Pm (fin h' tk _ k (bQ hS') so))))
 ·obtain⟨_,_,_,_,e',_⟩:=x
  cases e'
theorem cq(hc:X.calm=true):yo X (.builtin "sorted") (fun xs H Q=>∃(p:Addr) (kvs:List (Key×V)) (ns:AJ),xs=[.ref p]/\H p=some (.dK kvs)/\kvs.map (·.1)=ns.map Sum.inl/\ns.length<64/\
  ∀(l:Addr) (ms:AJ),H l=none->ms.Perm ns->ms.Pairwise (·<=·)->Q (.ref l) (upd H l (.lst (ms.map V.int)))):=by
 intro z4 s σ H xs us Q I r h
 obtain⟨p,kvs,ns,rfl,hp,hk,h64,q⟩:=h
 obtain⟨u,rfl,rx⟩:=xK r
 cases rx
 obtain⟨_,lo,kv,rk,dd⟩:=aT I.hok hp
 obtain⟨ep,hat⟩:=dd.dictAt
 have lk:kv.length=ns.length:=by
  have e1:=rk.length
  have e2:=Pu List.length hk
  rw[bA,bA] at e2
  lia
 refine Calls.call_function_entry kind_sorted plain_sorted entry_sorted (args_sorted1 _) ?_
 unfold Builtin.«sorted»
 refine Pl (m:=checkCount "sorted" 1 1 _) (Pm ?_)
 refine Pl (Qv (A:=X.A.in1) (PySem.W.kdl_dict (knd:=xF X.prog X.w) (kvs:=kv) (ep:=ep) lo) (I.ok.hd hc) hat (by rw[OM];lia) fun h' tk zK kp slt zB=>?_)
 have hi:IntsAre zK.toList ns:=iy (P:=X.prog) (w:=X.w) (by rw[cO,zB.1,lk]) fun j v hv=>by
  obtain⟨k,x,e,ik⟩:=zB.2 j v (by rw[<- cM];exact hv)
  refine⟨k,?_,ik⟩
  rw[<- hk,rk.keys,bE,e]
  rfl
 have lv:zK.toList.length<64:=by rw[IntsAre.length hi];exact h64
 refine Pl (wpAny_newList ?_ (by rw[OM];lia))
 have g1:(h'.push (seqObj "list" zK.toList.toArray 0)).get? h'.objs.size=some (seqObj "list" zK.toList.toArray 0):=bJ _ rfl
 refine Pl (Py (OD slot_list_sort ⟨_,g1,rfl⟩ entry_list_sort (list_sort_tree g1 hi lv fun out ns' a1 a2 a3=>⟨_,rfl,?_⟩) (args_list_sort _)))
 refine Pm ⟨_,rfl,?_⟩
 obtain⟨e,he⟩:=sortedHeap_at (out:=out) g1
 have sle:s.heap.objs.size<=h'.objs.size:=dJ slt
 have old:∀b o,s.heap.get? b=some o->(sortedHeap (h'.push (seqObj "list" zK.toList.toArray 0)) h'.objs.size zK.toList out).get? b=some o:=fun b o e=>by
  have hb:=bQ (kp b o e)
  rw[sortedHeap_old (c8 hb) (by rw[size_push'];exact fH hb)]
  exact bB _ (kp b o e)
 refine⟨.ref h'.objs.size,_,I.laid (a:=h'.objs.size) (o:=.lst (ns'.map V.int)) (t':=tk) old sle (show zv X.prog X.w _ _ _ (.lst (ns'.map V.int)) from⟨?_,out.toList,e,tm a1,?_⟩),rfl,q _ ns' (I.hok.fresh sle) a2 a3⟩
 ·rw[bA,a2.length_eq,OM]
  lia
 ·simpa using he
end
theorem WC:typeLookup (.type "list") "keys"=pure none:=am_miss_of_fast (by kernel_rfl)
theorem WG:typeLookup (.type "tuple") "keys"=pure none:=am_miss_of_fast (by kernel_rfl)
theorem Qq:typeLookup (.type "list") "__getattr__"=pure none:=by rw[Oe,OP];kernel_rfl
theorem Pe:typeLookup (.type "tuple") "__getattr__"=pure none:=by rw[Oe,OP];kernel_rfl
section
variable{prog:Program}{w:World}{A:Around}{E:AB}{s:Shared}
theorem Qs{a:Addr}{zB:AI}{n:Nat}{sl:Array (AH)}{u:Tok}{R:Result->Shared->Prop}(hA:A.handled=none)(ho:s.heap.get? a=some ⟨.type "list",none,.seq zB n,sl⟩)(h:∀h' tk e,Heap.NewAttrErr s.heap h' e (.ref a) "keys"->R (.error (.ref e)) { s with heap:=h',toks:=tk }) :
  wpAny (model prog w) A.in1 (Builtin.«object.__getattribute__» ⟨[.ref a,.str "keys" u],[]⟩) (fun fin s'=>match fin with|.done f=>R (.ok f) s'|.again c'=>c'.quiet=true/\codeAny (model prog w) A c' R s') (fun e s'=>R (.error e) s') s:=by
 obtain⟨hp,g,d,tk,os⟩:=s
 have hT:(⟨hp,g,d,tk,os⟩:Shared).TypeIs (.ref a) "list":=⟨_,ho,rfl⟩
 have f1:=WC
 unfold Builtin.«object.__getattribute__»
 repeat (any_goals (first|assumption|wp_step))
 exact wpAny_raiseAttrError hA h (attrMsg_fits (by decide +kernel) (by decide +kernel))
theorem PZ{a:Addr}{zB:AI}{n:Nat}{sl:Array (AH)}{u:Tok}{R:Result->Shared->Prop}(hA:A.handled=none)(ho:s.heap.get? a=some ⟨.type "tuple",none,.seq zB n,sl⟩)(h:∀h' tk e,Heap.NewAttrErr s.heap h' e (.ref a) "keys"->R (.error (.ref e)) { s with heap:=h',toks:=tk }) :
  wpAny (model prog w) A.in1 (Builtin.«object.__getattribute__» ⟨[.ref a,.str "keys" u],[]⟩) (fun fin s'=>match fin with|.done f=>R (.ok f) s'|.again c'=>c'.quiet=true/\codeAny (model prog w) A c' R s') (fun e s'=>R (.error e) s') s:=by
 obtain⟨hp,g,d,tk,os⟩:=s
 have hT:(⟨hp,g,d,tk,os⟩:Shared).TypeIs (.ref a) "tuple":=⟨_,ho,rfl⟩
 have f1:=WG
 unfold Builtin.«object.__getattribute__»
 repeat (any_goals (first|assumption|wp_step))
 exact wpAny_raiseAttrError hA h (attrMsg_fits (by decide +kernel) (by decide +kernel))
theorem WD{a:Addr}{zB:AI}{n:Nat}{sl:Array (AH)}{u:Tok}{R:Result->Shared->Prop}(hA:A.handled=none)(ho:s.heap.get? a=some ⟨.type "list",none,.seq zB n,sl⟩)(h:∀h' tk e,Heap.NewAttrErr s.heap h' e (.ref a) "keys"->R (.error (.ref e)) { s with heap:=h',toks:=tk }) :
  codeAny (model prog w) A (.call (.builtin "list.__getattribute__") ⟨[.ref a,.str "keys" u],[]⟩) R s:=
 Ol gF.plain F.entry_list_ga (gF.check _ _ _ _ _ _ _ _ (show s.TypeIs (.ref a) "list" from⟨_,ho,rfl⟩) (F.args_list_getattribute_2 _ _) (Qs (R:=R) hA ho h))
theorem WJ{a:Addr}{zB:AI}{n:Nat}{sl:Array (AH)}{Q:AH->Shared->Prop}(hA:A.handled=none)(ho:s.heap.get? a=some ⟨.type "list",none,.seq zB n,sl⟩)(h:∀h' tk,(∀b o,s.heap.get? b=some o->h'.get? b=some o)->Q none { s with heap:=h',toks:=tk }) :
  wpAny (model prog w) A (getAttr? (.ref a) "keys") Q E s:=by
 obtain⟨hp,g,d,tk,os⟩:=s
 have hT:∀tk',(⟨hp,g,d,tk',os⟩:Shared).TypeIs (.ref a) "list":=fun _=>⟨_,ho,rfl⟩
 have f1:=sub_AttributeError
 have f3:=gF.lookup
 have f4:=gF.bind (.ref a)
 have f5:=Qq
 unfold getAttr? getAttrBy? getAttrBy
 repeat (any_goals (first|assumption|exact hT _|wp_step))
 refine WD (s:=⟨hp,g,d,tk+1,os⟩) hA ho fun h' tk' e hx=>?_
 obtain⟨t',u',he⟩:=hx.there
 show wpAny _ _ (getattributeRaised _ _ _ _ _ _ _) _ _ _
 unfold getattributeRaised
 repeat (any_goals (first|assumption|wp_step))
 exact h _ _ hx.keeps
theorem WK{a:Addr}{zB:AI}{n:Nat}{sl:Array (AH)}{u:Tok}{R:Result->Shared->Prop}(hA:A.handled=none)(ho:s.heap.get? a=some ⟨.type "tuple",none,.seq zB n,sl⟩)(h:∀h' tk e,Heap.NewAttrErr s.heap h' e (.ref a) "keys"->R (.error (.ref e)) { s with heap:=h',toks:=tk }) :
  codeAny (model prog w) A (.call (.builtin "tuple.__getattribute__") ⟨[.ref a,.str "keys" u],[]⟩) R s:=
 Ol gA.plain F.entry_tuple_ga (gA.check _ _ _ _ _ _ _ _ (show s.TypeIs (.ref a) "tuple" from⟨_,ho,rfl⟩) (F.args_tuple_getattribute_2 _ _) (PZ (R:=R) hA ho h))
theorem WL{a:Addr}{zB:AI}{n:Nat}{sl:Array (AH)}{Q:AH->Shared->Prop}(hA:A.handled=none)(ho:s.heap.get? a=some ⟨.type "tuple",none,.seq zB n,sl⟩)(h:∀h' tk,(∀b o,s.heap.get? b=some o->h'.get? b=some o)->Q none { s with heap:=h',toks:=tk }) :
  wpAny (model prog w) A (getAttr? (.ref a) "keys") Q E s:=by
 obtain⟨hp,g,d,tk,os⟩:=s
 have hT:∀tk',(⟨hp,g,d,tk',os⟩:Shared).TypeIs (.ref a) "tuple":=fun _=>⟨_,ho,rfl⟩
 have f1:=sub_AttributeError
 have f3:=gA.lookup
 have f4:=gA.bind (.ref a)
 have f5:=Pe
 unfold getAttr? getAttrBy? getAttrBy
 repeat (any_goals (first|assumption|exact hT _|wp_step))
 refine WK (s:=⟨hp,g,d,tk+1,os⟩) hA ho fun h' tk' e hx=>?_
 obtain⟨t',u',he⟩:=hx.there
 show wpAny _ _ (getattributeRaised _ _ _ _ _ _ _) _ _ _
 unfold getattributeRaised
 repeat (any_goals (first|assumption|wp_step))
 exact h _ _ hx.keeps
end
theorem de:entryFor table "dict.update.loop"=some Builtin.«dict.update.loop»:=entryFor_of_tree (by kernel_rfl)
theorem uf:plainId "dict.update.loop"=true:=by decide +kernel
section
variable{prog:Program}{w:World}{A:Around}{κ:Type}[DecidableEq κ]{kd:KeyKind prog w κ}{I:Addr}{fp wr:List Addr}{G:Array GenState->Array GenState->Prop}{n:Nat}{P:Nat->Value->Prop}{St:Nat->Shared->Prop}
noncomputable def uv(kd:KeyKind prog w κ)(h:Heap)(v:Value)(kv:κ×Value)(out:List Addr):Prop:=∃(a:Addr) (o:Obj) (T:String) (k:Value) (c:Nat),v=.ref a/\h.get? a=some o/\o.cls=.type T/\(T="list"\/T="tuple")/\o.data=.seq #[k,kv.2] c/\kd.is kv.1 k=true/\a∉out
theorem qK{R:Result->Shared->Prop}(W:WalksS prog w A.in1 I fp wr G n P St){d:Addr}(out:d∉fp){h0:Heap}{vs:List (κ×Value)}(lk:vs.length=n)
  (vals:∀i v,P i v->∃kv,vs[i]? = some kv/\uv kd h0 v kv (d::wr)) (few:n<=1000) :
  ∀(todo i:Nat) (s:Shared),i+todo=n->St i s->s.heap.DictOf kd d (merged [] (vs.take i))->(∀b o,b∉d::wr->h0.get? b=some o->s.heap.get? b=some o)->
   (∀s',Moved (d::wr) G s s'->s'.heap.DictOf kd d (merged [] vs)->R (.ok (.ret .none)) s')->codeAny (model prog w) A (.builtin "dict.update.loop" ⟨[.ref d,.ref I,rawInt i,.none],[]⟩) R s
 | 0,i,s,ei,st,sx,kp,fin=>by
  have e:vs.take i=vs:=cN (by lia)
  rw[e] at sx
  have ei':i=n:=by lia
  subst ei'
  refine Pw de ?_
  rw[cH uf _]
  refine Pl (W.done s _ _ st fun s' mv=>Pl (Pm (Pm (fin s' (mv.mono fun b hb=>.tail _ hb) (sx.at fun o=>mv.heap d o fun q=>out (W.sub _ q))))))
 | todo+1,i,s,ei,st,sx,kp,fin=>by
  refine Pw de ?_
  rw[cH uf _]
  refine Pl (W.item i s _ _ (by lia) st fun v s1 hv st1 mv=>?_)
  obtain⟨⟨key,y⟩,ek,a,o,T,k,c,rfl,ho,hc,hT,hd,ik,na⟩:=vals i v hv
  have sx1:=sx.at (h':=s1.heap) fun o=>mv.heap d o fun q=>out (W.sub _ q)
  have ho1:s1.heap.get? a=some o:=mv.heap a o (fun q=>na (.tail _ q)) (kp a o na ho)
  have ty:s1.TypeIs (.ref a) T:=⟨o,ho1,hc⟩
  refine Pl (Py (m:=(Builtin.Dict.pairItems (.ref a)).tryCatch _ >>= _) (Pl (OI ?_)))
  unfold Builtin.Dict.pairItems
  refine Pl (Oh ty ?_)
  rw[Po (by rcases hT with rfl|rfl<;>decide)]
  refine Pl (Pz ho1 hd (Pm ?_))
  show wpAny _ _ (holding [k,y] (dictSet d k y)) _ _ _
  have lm:=merged_length_le [] (vs.take i)
  rw[bL,fO] at lm
  refine Py (wpAny_dictSet_pairs (hsz:=by rw[OM];lia) ik sx1 fun h2 sx2 sb=>?_)
  rw[<- merged_take_succ [] vs i (key,y) ek] at sx2
  have far:∀b,b≠d->h2.get? b=s1.heap.get? b:=fun b hb=>sb.2 b hb
  refine Pm ⟨OB uf _,qK W out lk vals few todo (i+1) _ (by lia) (W.frame _ s1 _ _ st1 (fN _) fun b hb o q=>?_) sx2 (fun b o nb q=>?_) fun s3 mv3 sx4=>?_⟩
  ·rw[far b fun z=>out (z ▸ hb)];exact q
  ·rw[far b fun z=>nb (z ▸ .head _)]
   exact mv.heap b o (fun q=>nb (.tail _ q)) (kp b o nb q)
  ·refine fin s3 (.trans W.gtrans ((mv.mono fun b hb=>.tail _ hb).then_heap (fN _) fun b o hb q=>?_) mv3) sx4
   rw[far b fun z=>hb (z ▸ .head _)];exact q
end
section
variable{prog:Program}{w:World}{A:Around}{E:AB}{s:Shared}{κ:Type}[DecidableEq κ]{kd:KeyKind prog w κ}
theorem Vf{T:String}{p:Addr}{zC:AI}{c0:Nat}{sl:Array (AH)}{vs:List (κ×Value)}{Q:AB}(hh:A.handled=none)(hp:s.heap.get? p=some ⟨.type T,none,.seq zC c0,sl⟩)(hT:T="list"\/T="tuple")
  (lk:vs.length=zC.size) (vals:∀(i:Nat) v,zC[i]? = some v->∃kv,vs[i]? = some kv/\uv kd s.heap v kv []) (few:zC.size<=1000) (nd:(vs.map (·.1)).Nodup)
  (fin:∀(h':Heap) (t:Nat),h'.DictOf kd s.heap.objs.size vs->(∀b u,s.heap.get? b=some u->h'.get? b=some u)->Q (.ref s.heap.objs.size) { s with heap:=h',toks:=t }) :
  wpAny (model prog w) A (call (.type "dict") [.ref p]) Q E s:=by
 refine callType_codes (Q₁:=fun obj s₁=>obj=.ref s.heap.objs.size/\s₁={ s with heap:=s.heap.push { cls:=.type "dict",data:=.dict #[] } }) PySem.F.kt_called_dict (PySem.F.kt_typeCall_dict_1 _) F.entry_dict_init (kt_code_dict_new _ ⟨rfl,rfl⟩) ?_
 rintro obj s₁ ⟨rfl,rfl⟩
 have T7:(s.heap.push { cls:=.type "dict",data:=.dict #[] }).DictOf kd s.heap.objs.size []:=Heap.DictOf.new s.heap
 have hp1:(s.heap.push { cls:=.type "dict",data:=.dict #[] }).get? p=some ⟨.type T,none,.seq zC c0,sl⟩:=bB _ hp
 have hpl:p<s.heap.objs.size:=bQ hp
 refine⟨T7.typeIs,F.args_dict_init_2 _ _,?_⟩
 unfold Builtin.«dict.__init__»
 refine Pl ?_
 unfold Builtin.Dict.selfAndRest
 refine Pl (wpAny_notOrdered_dict T7.typeIs ?_)
 show wpAny _ _ (pure (s.heap.objs.size,[Value.ref p])) _ _ _
 refine Pm ?_
 show wpAny _ _ (Builtin.Dict.updateFrom "dict.__init__" s.heap.objs.size (.ref p) [] .none) _ _ _
 unfold Builtin.Dict.updateFrom
 refine Pl (Oh (T:=T) ⟨_,hp1,rfl⟩ ?_)
 rw[Po (by rcases hT with rfl|rfl<;>decide)]
 have main:∀(h1:Heap) (tk:Nat),(∀b o,(s.heap.push { cls:=.type "dict",data:=.dict #[] }).get? b=some o->h1.get? b=some o)->
   wpAny (model prog w) A.in1.in1 (do
    rule (toString "dict.__init__"++toString ".from-pairs")
    return <- again (.builtin "dict.update.loop" ⟨[.ref s.heap.objs.size,<- pyIter (.ref p),rawInt 0,.none],[]⟩))
    (fun fin s'=>match fin with|.done f=>wants (fun r s₂=>r=.none/\Q (.ref s.heap.objs.size) s₂) E (.ok f) s'|.again c'=>c'.quiet=true/\codeAny (model prog w) A.in1 c' (wants (fun r s₂=>r=.none/\Q (.ref s.heap.objs.size) s₂) E) s')
    (fun e s'=>wants (fun r s₂=>r=.none/\Q (.ref s.heap.objs.size) s₂) E (.error e) s') { s with heap:=h1,toks:=tk }:=by
  intro h1 tk k1
  have hd1:=T7.keep k1
  have dlt:s.heap.objs.size<h1.objs.size:=by
   obtain⟨_,_,_,e,_⟩:=hd1
   exact bQ e
  have hp2:=k1 _ _ hp1
  have apart:p≠h1.objs.size:=c8 (bQ hp2)
  have out:s.heap.objs.size∉[h1.objs.size,p]:=by rw[bI,bD];exact fun z=>z.elim (c8 dlt) (fL hpl)
  have hh2:A.in1.in1.handled=none:=by simp[hh]
  have nin:∀{b:Addr}{o:Obj},s.heap.get? b=some o->b∉[s.heap.objs.size,h1.objs.size]:=fun e m=>by
   have hb:=bQ e
   rcases bI.mp m with z|z
   ·exact ND hb (by rw[z];exact eF _)
   ·rw[bD] at z
    exact ND (lJ hb dlt) (by rw[z];exact eF _)
  have W9:∀(i:Nat) v,zC[i]? = some v->∃kv,vs[i]? = some kv/\uv kd s.heap v kv [s.heap.objs.size,h1.objs.size]:=fun i v hv=>by
   obtain⟨kv,e,a,o,T,k,c,e1,e2,e3,e4,e5,e6,_⟩:=vals i v hv
   exact⟨kv,e,a,o,T,k,c,e1,e2,e3,e4,e5,e6,nin e2⟩
  have ends:∀(x:Obj) (s':Shared),Moved [s.heap.objs.size,h1.objs.size] (fun a b=>b=a) { s with heap:=h1.push x,toks:=tk } s'->s'.heap.DictOf kd s.heap.objs.size (merged [] vs)->Q (.ref s.heap.objs.size) s':=fun x s' mv sx=>by
   obtain⟨h',g',d',t',o'⟩:=s'
   obtain rfl:g'=s.gens:=mv.gens
   obtain rfl:d'=s.drawn:=mv.drawn
   obtain rfl:o'=s.os:=mv.os
   rw[merged_nil_of_nodup vs nd] at sx
   exact fin h' t' sx fun b u q=>mv.heap b u (nin q) (bB _ (k1 _ _ (bB _ q)))
  refine Pl (Od ?_)
  rcases hT with rfl|rfl
  ·have hl:h1.IsList p zC:=⟨_,hp2,rfl,c0,rfl⟩
   refine Pl (ON hl (Pm ⟨OB uf _,?_⟩))
   exact qK (kd:=kd) ((Walks.list hh2 _ p apart zC).toS) out (h0:=s.heap) lk W9 few zC.size 0 _ (eZ _) ⟨⟨_,bJ _ rfl,rfl,rfl⟩,hl.push _⟩ (by rw[cW];exact hd1.push _) (fun b o _ q=>bB _ (k1 _ _ (bB _ q))) fun s' mv sx=>⟨rfl,ends _ s' mv sx⟩
  ·have hl:h1.IsTuple p zC:=⟨_,hp2,rfl,c0,rfl⟩
   refine Pl (OL hl (Pm ⟨OB uf _,?_⟩))
   exact qK (kd:=kd) ((Walks.tuple hh2 _ p apart zC).toS) out (h0:=s.heap) lk W9 few zC.size 0 _ (eZ _) ⟨⟨_,bJ _ rfl,rfl,rfl⟩,hl.push _⟩ (by rw[cW];exact hd1.push _) (fun b o _ q=>bB _ (k1 _ _ (bB _ q))) fun s' mv sx=>⟨rfl,ends _ s' mv sx⟩
 have hh2:A.in1.in1.handled=none:=by simp[hh]
 rcases hT with rfl|rfl
 ·refine Pl (WJ hh2 hp1 fun h1 tk k1=>?_)
  exact main h1 tk k1
 ·refine Pl (WL hh2 hp1 fun h1 tk k1=>?_)
  exact main h1 tk k1
end
section
variable{X:Cx}
noncomputable def uk(K:AA)(H:Hp)(u:V)(kv:Key×V):Prop:=∃a,u=.ref a/\(SqL K H a [kV kv.1,kv.2]\/SqT K H a [kV kv.1,kv.2])
noncomputable def SqP(K:AA)(H:Hp)(p:Addr)(ys:AK):Prop:=SqL K H p ys\/H p=some (.tup ys)
noncomputable def VT(K:AA):AK->Hp->VK->Prop:=fun xs H Q=>∃p ys kvs,xs=[.ref p]/\SqP K H p ys/\Paired (uk K H) ys kvs/\ys.length<=1000/\(kvs.map (·.1)).Nodup/\∀l,H l=none->Q (.ref l) (upd H l (.dK kvs))
theorem iA{z4:List AE}{σ:St}{H:Hp}{s:Shared}(I:Inv X z4 σ H s):∀{ys:AK}{kvs:List (Key×V)}{zC:AG},Paired (uk X.K H) ys kvs->Vals ys zC->
  ∃vs,KV kvs vs/\vs.length=zC.length/\∀(i:Nat) v,zC[i]? = some v->∃kv,vs[i]? = some kv/\uv (xF X.prog X.w) s.heap v kv []
 | _,_,_,.nil,.nil=>⟨[],.nil,rfl,fun i v h=>by simp at h⟩
 | _::ys,kv::kvs,_::zC,.cons ⟨a,e,hq⟩ t,.cons r rr=>by
  obtain⟨vs,k1,l1,p1⟩:=iA I t rr
  subst e
  cases r
  have go:∀(T:String) (o:Obj) (us:AG) (c:Nat),s.heap.get? a=some o->o.cls=.type T->(T="list"\/T="tuple")->o.data=.seq us.toArray c->Vals [kV kv.1,kv.2] us->
    ∃vs',KV (kv::kvs) vs'/\vs'.length=(Value.ref a::zC).length/\∀(i:Nat) v,(Value.ref a::zC)[i]? = some v->∃kv,vs'[i]? = some kv/\uv (xF X.prog X.w) s.heap v kv []:=fun T o us c h1 h2 h3 h4 h5=>by
   obtain⟨u1,u2,rfl,r1,r2⟩:=rA h5
   refine⟨(kv.1,u2)::vs,.cons ⟨rfl,r2⟩ k1,by rw[bW,bW,l1],fun i v hv=>?_⟩
   cases i with
   | zero=>
    simp at hv
    subst hv
    exact⟨_,rfl,a,o,T,u1,c,rfl,h1,h2,h3,by simpa using h4,uh r1,by simp⟩
   | succ i=>exact p1 i v (by simpa using hv)
  rcases hq with hq|hq
  ·obtain⟨us,rv,pl,_⟩:=I.list hq
   obtain⟨o,ho,hcl,n,hda⟩:=pl.isList
   exact go "list" o us n ho hcl (.inl rfl) hda rv
  ·obtain⟨us,rv,pl,_⟩:=I.tuple hq
   obtain⟨o,ho,hcl,n,hda⟩:=pl
   exact go "tuple" o us n ho hcl (.inr rfl) hda rv
theorem oY{K:AA}(hK:X.K=K)(hc:X.calm=true):yo X (.type "dict") (VT K):=by
 subst hK
 intro z4 s σ H xs us Q I r h
 obtain⟨p,ys,kvs,rfl,hq,pr,hl,nd,q⟩:=h
 obtain⟨u,rfl,rx⟩:=xK r
 cases rx
 have go:∀(T:String) (zC:AG) (c0:Nat) (sl:Array (AH)),s.heap.get? p=some ⟨.type T,none,.seq zC.toArray c0,sl⟩->(T="list"\/T="tuple")->Vals ys zC->wpAny (model X.prog X.w) X.A (call (.type "dict") [.ref p]) (EP X z4 σ Q) X.xe s:=
  fun T zC c0 sl ho hT rv=>by
   obtain⟨vs,k1,l1,p1⟩:=iA I pr rv
   have ln:ys.length=zC.length:=rv.length
   refine Vf (kd:=xF X.prog X.w) (vs:=vs) (I.ok.hd hc) ho hT (by simpa using l1) (fun i v hv=>p1 i v (by simpa using hv)) (by simp;lia) (by rw[<- k1.keys];exact nd) fun h' t dd kp=>?_
   have big:=I.big
   refine⟨.ref s.heap.objs.size,_,I.laid (a:=s.heap.objs.size) (o:=.dK kvs) (h':=h') (t':=t) kp (bG _) (aX ?_ ?_ k1 dd),rfl,q _ (I.hok.fresh (bG _))⟩
   ·have:=k1.length
    rw[OM]
    lia
   ·exact beq_false_of_ne (fL big)
 rcases hq with hq|hq
 ·obtain⟨zC,rv,pl,_⟩:=I.list hq
  obtain⟨o,n,ho,hcl,hdi,hda⟩:=pl
  obtain⟨oc,od,oa,os⟩:=o
  simp only at hcl hdi hda
  subst hcl hdi hda
  exact go "list" zC n os ho (.inl rfl) rv
 ·obtain⟨_,zC,rv,o,ho,hcl,⟨n,hda⟩,hdi⟩:=(show zv X.prog X.w H s.heap p (.tup ys) from I.hok p _ hq)
  obtain⟨oc,od,oa,os⟩:=o
  simp only at hcl hdi hda
  subst hcl hdi hda
  exact go "tuple" zC n os ho (.inr rfl) rv
end
noncomputable def SqS(K:AA)(t:Bool)(H:Hp)(a:Addr)(xs:AK):Prop:=if t then SqL K H a xs else SqT K H a xs
theorem SqS.of{K:AA}{H:Hp}{a:Addr}{xs:AK}(h:SqL K H a xs\/SqT K H a xs):∃t,SqS K t H a xs:=h.elim (fun q=>⟨true,q⟩) fun q=>⟨false,q⟩
theorem SqS.keep{K:AA}{t:Bool}{H H':Hp}{a:Addr}{xs:AK}(s:B0 H H')(h:SqS K t H a xs):SqS K t H' a xs:=by
 cases t
 ·rcases(show SqT K H a xs from h) with (h|⟨o,h⟩)|h
  ·exact .inl (.inl (s _ _ h))
  ·exact .inl (.inr ⟨o,s _ _ h⟩)
  ·exact .inr h
 ·exact s.seq (show SqL K H a xs from h)
noncomputable def Its(K:AA)(t:Bool)(a:Addr):It:=if t then Itl K a else Itt K a
section
variable{X:Cx}{tg:Expr}
noncomputable def iSeq(K:AA)(tl:TE):TI:=fun σ H R=>tl σ H fun x H1=>∃a t,x=.ref a/\(∃xs,SqS K t H1 a xs)/\R (Its K t a) H1
theorem mU{l:Expr}{tl:TE}(hl:PE X l tl):PI X tg l (iSeq X.K tl):=by
 intro z4 s σ H R I h
 refine thn (hl z4 s σ H _ I h) fun v s1 ⟨x,H1,I1,r1,q1⟩=>?_
 obtain⟨a,t,e,⟨xs,hq⟩,q⟩:=q1
 subst e
 cases r1
 cases t
 ·obtain⟨zC,rv,p,hz⟩:=I1.tuple hq
  refine OL (show s1.heap.IsTuple a zC.toArray from p) ?_
  refine⟨s1.heap.objs.size,[s1.heap.objs.size],_,_,H1,rfl,I1.kept (t':=s1.toks) fun b o e=>bB _ e,jx a _,⟨_,bJ _ rfl,rfl,rfl⟩,fun b hb=>?_,q⟩
  have e:b=s1.heap.objs.size:=by simpa using hb
  subst e
  exact I1.O6 (bG _) (I1.hok.fresh (bG _))
 ·obtain⟨zC,rv,p,hz⟩:=I1.list hq
  refine ON p.isList ?_
  refine⟨s1.heap.objs.size,[s1.heap.objs.size],_,_,H1,rfl,I1.kept (t':=s1.toks) fun b o e=>bB _ e,XS a _,⟨_,bJ _ rfl,rfl,rfl⟩,fun b hb=>?_,q⟩
  have e:b=s1.heap.objs.size:=by simpa using hb
  subst e
  exact I1.O6 (bG _) (I1.hok.fresh (bG _))
end
theorem Yl{K:AA}{t:Bool}{a:Addr}{xs:AK}{g:TG}{tc:TT}{te:TE}{σ0:St}{H1:Hp}{F:AK->Hp->Prop}(Pv:Nat->AK->Hp->Prop)(h0:Pv 0 [] H1)
  (hl:∀i ys H,i<=xs.length->Pv i ys H->SqS K t H a xs/\ys.length<sizeLine)
  (hs:∀i x ys H,xs[i]? = some x->Pv i ys H->w6 g tc te σ0 x H ys (Pv (i+1))) (hd:∀ys H,Pv xs.length ys H->F ys H):wY (Its K t a) g tc te σ0 H1 F:=by
 cases t
 ·exact wI Pv h0 hl hs hd
 ·exact vY Pv h0 hl hs hd
theorem Vi{K:AA}{t:Bool}{a:Addr}{xs:AK}{g:TG}{tb:TS}{D:Ends}{σ:St}{H:Hp}(Pv:Nat->St->Hp->Prop)(h0:Pv 0 σ H)(hl:∀i σ H,i<=xs.length->Pv i σ H->SqS K t H a xs)
  (hs:∀i x σ H,xs[i]? = some x->Pv i σ H->g x σ H fun σ2 H2=>tb { D with nx:=Pv (i+1),ct:=Pv (i+1),bk:=D.nx } σ2 H2) (hd:∀σ H,Pv xs.length σ H->D.nx σ H) :
  ∃W:Nat->Nat->St->Hp->Prop,(∃m,W 0 m σ H)/\∀i m σ H,W i m σ H->
   ((Its K t a).stop i H/\D.nx σ H)\/((Its K t a).go i H/\∃N:St->Hp->Prop,(∀σ' H',N σ' H'->∃m',m'<m/\W (i+1) m' σ' H')/\∀x H',(Its K t a).yld i H x H'->g x σ H' fun σ2 H2=>tb { D with nx:=N,ct:=N,bk:=D.nx } σ2 H2):=by
 cases t
 ·exact wo Pv h0 hl hs hd
 ·exact xv Pv h0 hl hs hd
section
variable{prog:Program}{w:World}{A:Around}{E:AB}
theorem Xr{it t:Addr}{zB:AI}(hne:t≠it):∀(n i:Nat) (s:Shared) (Q:AG->Shared->Prop),s.heap.IsListIter it t i->s.heap.IsList t zB->i+n<=zB.size->
  (∀h',h'.IsListIter it t (i+n)->Heap.SameBut it s.heap h'->Q ((zB.toList.drop i).take n) { s with heap:=h' })->wpAny (model prog w) A (draw (.ref it) n) Q E s
 | 0,i,s,Q,hit,_,_,hQ=>by
  show wpAny _ _ (pure []) Q E s
  exact Pm (by simpa using hQ s.heap hit (Heap.SameBut.refl ..))
 | n+1,i,s,Q,hit,ht,hle,hQ=>by
  have hlt:i<zB.size:=by lia
  show wpAny _ _ (pyNext (.ref it) >>= _) Q E s
  refine Pl (wpAny_pyNext_list_item hit ht (x:=zB[i]) (by simp[hlt]) fun h₁ hit₁ hs₁=>?_)
  refine Pl (Py (Xr hne n (i+1) _ _ hit₁ (ht.at fun o e=>(hs₁.2 t hne).trans e) (by lia) fun h₂ hit₂ hs₂=>Pm ?_))
  have hd:zB.toList.drop i=zB[i]::zB.toList.drop (i+1):=by simp[List.drop_eq_getElem_cons,hlt]
  have:=hQ h₂ (by rw[show i+(n+1)=i+1+n by lia];exact hit₂) (hs₁.trans hs₂)
  rw[hd,jL] at this
  exact this
theorem PQ{s:Shared}{t:Addr}{zB:AI}{Q:AG->Shared->Prop}(hh:A.handled=none)(ht:s.heap.IsList t zB)
  (hQ:∀h',Heap.ExtBut s.heap.objs.size s.heap h'->Q zB.toList { s with heap:=h' }):wpAny (model prog w) A (unpackItems (.ref t) zB.size none) Q E s:=by
 have hlt:t≠s.heap.objs.size:=by obtain⟨o,ho,_⟩:=ht;exact c8 (bQ ho)
 unfold unpackItems
 refine Pl ?_
 unfold notIterableAtAll
 refine Pl (OJ ht.typeIs PySem.F.slot_list_iter.lookup ?_)
 refine Pm ?_
 simp only[fV,if_false]
 refine Pl (Py (ON ht ?_))
 refine Pl (Py (Xr hlt zB.size 0 _ _ ⟨_,bJ _ rfl,rfl,rfl⟩ (ht.push _) (by lia) fun h₁ hit₁ hs₁=>?_))
 have D4:List.take zB.size (List.drop 0 zB.toList)=zB.toList:=by
  rw[gC];exact cN (by simp)
 rw[D4]
 rw[Pn (by simp)]
 have ht₁:h₁.IsList t zB:=(ht.push _).at fun o e=>(hs₁.2 t hlt).trans e
 refine Pl (Py (wpAny_pyNext_list_end hh hit₁ ht₁ (by simp) fun h₂ he₂=>?_))
 simp only[Option.isSome_none,fV,if_false]
 exact Pm (hQ h₂ fun b o hb e=>he₂ b o hb (hs₁.extBut b o hb (bB _ e)))
theorem WT{s:Shared}{env:Env}{elts:List Expr}{x1}{pos:Pos}{t:Addr}{zB:AI}{Q:Unit->Shared->Prop}(hh:A.handled=none)(ht:s.heap.IsList t zB)
  (hn:(assignEach elts env).length=zB.size) (w0A:(assignEach elts env).findIdx? (·.1)=none)
  (h:∀h',Heap.ExtBut s.heap.objs.size s.heap h'->wpAny (model prog w) A (assignInOrder ((assignEach elts env).map (·.2)) zB.toList) Q E { s with heap:=h' }) :
  wpAny (model prog w) A (assign (.Tuple elts x1 pos) env (.ref t)) Q E s:=by
 rw[assign_Tuple]
 refine Pl (Oy ?_)
 unfold unpack
 rw[hn,w0A]
 exact Pl (Py (PQ hh ht h))
end
noncomputable def X9(K:AA)(n:Nat)(t:TGs):TG:=fun v σ H Q=>∃a xs,v=.ref a/\(SqL K H a xs\/SqT K H a xs)/\xs.length=n/\t xs σ H Q
theorem Zx{X:Cx}{K:AA}{es:List Expr}{k:Nat}{t:TGs}{n:Nat}{pos:Pos}(hK:X.K=K)(hc:X.calm=true)(h:PGs X es t)
  (hn:(assignEach es X.env).length=n:=by rfl) (hst:(assignEach es X.env).findIdx? (·.1)=none:=by rfl):PG X (.Tuple es k pos) (X9 K n t):=by
 subst hK
 intro z4 s σ H v u Q I r hw
 obtain⟨a,xs,e1,hq,hl,hw⟩:=hw
 subst e1
 cases r
 rcases hq with hq|hq
 ·obtain⟨zC,rv,ht,hz⟩:=I.list hq
  refine WT (I.ok.hd hc) ht.isList (by simp[hn,<- hl,rv.length]) hst fun h' hx=>?_
  have I1:Inv X z4 σ H { s with heap:=h' }:=I.kept (t':=s.toks) fun b o e=>hx b o (c8 (bQ e)) e
  exact h z4 _ σ H xs _ Q I1 (by simpa using rv) hw
 ·obtain⟨zC,rv,ht,hz⟩:=I.tuple hq
  refine assign_Tuple_tuple (I.ok.hd hc) ht (by simp[hn,<- hl,rv.length]) hst fun h' hx=>?_
  have I1:Inv X z4 σ H { s with heap:=h' }:=I.kept (t':=s.toks) fun b o e=>hx b o (c8 (bQ e)) e
  exact h z4 _ σ H xs _ Q I1 (by simpa using rv) hw
theorem Uj{K:AA}{n:Nat}{t:TGs}(a:vi t):vM (X9 K n t):=fun v σ H Q Q' f q=>by
 obtain⟨p,xs,e,h1,h2,q⟩:=q
 exact⟨p,xs,e,h1,h2,a _ _ _ _ _ f q⟩
theorem Vs{K:AA}{n k:Nat}{t:TGs}(a:ug n t):R8 n (X9 K k t):=fun v σ H Q q=>by
 obtain⟨p,xs,e,h1,h2,q⟩:=q
 exact⟨p,xs,e,h1,h2,a _ _ _ _ q⟩
section
variable{X:Cx}
noncomputable def w09(i j:Int):Prop:=0<j/\j<18446744073709551616
theorem UZ:OpR X (binaryOp .FloorDiv) (rI w09 fun i j=>.int (i / j)):=opI fun i j _ _ _ _ _ hc q=>by
 have h1:(0:Int)<j:=hc.1
 have h2:j<18446744073709551616:=hc.2
 have h3:j.natAbs.log2<64:=(Nat.log2_lt (by lia)).mpr (by lia)
 exact floordiv_int (by lia) (by rw[Int.fdiv_eq_ediv_of_nonneg i (by lia)];exact q) (.inl (PyProof.noPylong_of_log2 (by lia)))
end
structure R3(K:AA)(x qual:Str)(st:Stmt)(f:Addr)(fd:FuncData)(T:Addr)(zB:AI):Prop where
 ex:∃(oc:Value) (od:Option Addr) (kV doc pm:Value) (an:Option Addr) (zO ct:Value) (osl:Array (AH)),
  fd=PySem.W.fnOf x qual (xE st) (yp st) (zT st) (.ref T) kV doc pm an zO ct/\K.lookup f=some ⟨oc,od,.func fd,osl⟩/\PySem.W.codeIn K zO qual=true
 kp:PySem.W.keepIn K (.ref f)=true
 dt:∃(o:Obj) (n:Nat),K.lookup T=some o/\o.data=.seq zB n
section
variable{P:Program}{w:World}{K:AA}{mg:Str->AH}{base:Heap}
theorem R3.ok{x qual:Str}{st:Stmt}{f T:Addr}{zB:AI}{fd:FuncData}{N ps:AF}{k:Nat}{sp:Sp}(F:R3 K x qual st f fd T zB)(S:A9 N ps (zT st))(len:∀vs H Q E,sp vs H Q E->vs.length=ps.length)
  (R4:∀(zO:Value) (A:Around) (outer:List Env) (s:Shared) (H:Hp) (vs:AK) (Q:VK) (E:XK),D9 k (A.deeper (envOfC qual (zT st) s.heap.objs.size f zO))->sp vs H Q E->
   ∃t,PSs (R7 CX0 P w K mg base N qual (zT st) f zO A outer s H E).nox (yp st) t/\t { nx:=fun _ H'=>Q .non H',rt:=Q } (xS N vs) H):B2 P w K mg base CX0 (k+1) f fd ps sp:=by
 obtain⟨oc,od,kV,doc,pm,an,zO,ct,osl,rfl,lk,hcd⟩:=F.ex
 refine aQ lk hcd S len fun A outer s H vs Q E hr hsp=>?_
 obtain⟨t,h,q⟩:=R4 zO A outer s H vs Q E hr hsp
 exact⟨t,h.nox,q⟩
theorem R3.binds{x qual:Str}{st:Stmt}{f T:Addr}{zB:AI}{fd:FuncData}{ps:AF}{ds:AG}(F:R3 K x qual st f fd T zB)
  (h:∀(kV doc pm:Value) (an:Option Addr) (zO ct:Value) (us:AG),us.length+ds.length=ps.length->∃k,bindArgs (PySem.W.fnOf x qual (xE st) (yp st) (zT st) (.ref T) kV doc pm an zO ct) ⟨us,[]⟩=seqItems? (.ref T) >>= k/\k (some zB)=pure (ps.zip (us++ds))):yK K fd ps ds:=by
 obtain⟨oc,od,kV,doc,pm,an,zO,ct,osl,rfl,lk,hcd⟩:=F.ex
 obtain⟨o,n,lt,hs⟩:=F.dt
 intro s us KX hl
 rw[bF] at hl
 obtain⟨k,h1,h2⟩:=h kV doc pm an zO ct us hl
 exact .of_defaults rfl (KX _ _ lt) hs h1 h2
theorem VQ{x qual:Str}{st:Stmt}{f T:Addr}{oc oct:Value}{od odt an:Option Addr}{osl oslt:Array (AH)}{zB:AI}{n:Nat}{kV doc pm zO ct:Value}(l:K.lookup f=some ⟨oc,od,.func (PySem.W.fnOf x qual (xE st) (yp st) (zT st) (.ref T) kV doc pm an zO ct),osl⟩)
  (lt:K.lookup T=some ⟨oct,odt,.seq zB n,oslt⟩) (c:PySem.W.codeIn K zO qual=true) (k:PySem.W.keepIn K (.ref f)=true):R3 K x qual st f (PySem.W.fnOf x qual (xE st) (yp st) (zT st) (.ref T) kV doc pm an zO ct) T zB:=⟨⟨oc,od,kV,doc,pm,an,zO,ct,osl,rfl,l,c⟩,k,_,n,lt,rfl⟩
end
structure V1(P:Program)(w:World)(K:AA)(mg:Str->AH)(base:Heap)(k:Nat)(C:Addr)(m:Str)(ps:AF)(sp:Sp)(dvs:AK):Prop where
 cl:Cls K C
 ex:∃(f:Addr) (fd:FuncData) (ds:AG),B2 P w K mg base CX0 k f fd ps sp/\yK K fd ps ds/\Vals dvs ds/\Meth K C m f
theorem V1.mk'{P:Program}{w:World}{K:AA}{mg:Str->AH}{base:Heap}{k:Nat}{C:Addr}{m:Str}{ps:AF}{sp:Sp}{dvs:AK}{ds:AG}{f:Addr}{fd:FuncData}(v:Vals dvs ds)(c:Cls K C)(a:B2 P w K mg base CX0 k f fd ps sp)(b:yK K fd ps ds)(d:Meth K C m f) :
  V1 P w K mg base k C m ps sp dvs:=⟨c,f,fd,ds,a,b,v,d⟩
end L2
namespace HT
open PySem PySem.Spec PyProof.Rows L2
section
variable{prog:Program}{w:World}{A:Around}{E:AB}{s:Shared}
theorem WU{t sl:Addr}{zB:AI}{vl vu:Value}{lo hi:Option Int}{Q:AB}(ht:IsTup s.heap t zB)(hs:s.heap.IsSliceOf sl vl vu .none)(pl:IsPart vl lo)(pu:IsPart vu hi)
  (hw:sIx zB.size 0 lo=0/\sIx zB.size zB.size hi=zB.size) (h:Q (.ref t) s):wpAny (model prog w) A (getItem (.ref t) (.ref sl)) Q E s:=by
 obtain⟨os,hos,hcs,hds⟩:=id hs
 have hTs:s.TypeIs (.ref sl) "slice":=⟨os,hos,hcs⟩
 unfold getItem
 try with_reducible refine Py ?_
 first|refine Pl (Pm ?_)|skip
 refine Pl (wpAny_sequenceKey ht.typeIs (by decide) ?_)
 refine Pl (OE (name:=Str.ofString "__getitem__") ht.typeIs dP
  (OD dP ht.typeIs entry_tuple_getitem ?_ (args_tuple_getitem _ _)))
 show wpAny _ _ (Builtin.Tuple.tupleItemsOf (.ref t) >>= _) _ _ s
 refine Pl (tupleItemsOf_ ht ?_)
 refine Pl (Oh hTs ?_)
 rw[Po (by decide)]
 refine Pl (cp hs pl pu ?_)
 have hyes:(((sIx zB.size 0 lo:Nat):Int) == 0 && (1:Int) == 1 && (sIx zB.size zB.size hi-sIx zB.size 0 lo) == zB.size)=true:=by
  rw[hw.1,hw.2]
  simp
 show wpAny _ _ (if (((sIx zB.size 0 lo:Nat):Int) == 0 && (1:Int) == 1 && (sIx zB.size zB.size hi-sIx zB.size 0 lo) == zB.size)=true then _ else _) _ _ s
 rw[Po hyes]
 refine Pl (m:=Builtin.Tuple.tupleIsExact _) (Pl (Oh ht.typeIs (Pm ?_)))
 rw[Po (by decide)]
 refine Pl (Od ?_)
 exact Pm ⟨_,rfl,Pm h⟩
end
end HT
namespace L2
open PySem PySem.Spec PyProof.Rows
noncomputable def ya:AK->AK->Bool
 | [],[]=>true
 | x::xs,y::ys=>eqV x y && ya xs ys
 | _,_=>false
theorem rp:∀xs ys:AK,((List.range (min xs.length ys.length)).all (fun j=>eqV (xs.getD j .non) (ys.getD j .non)) && xs.length == ys.length)=ya xs ys
 | [],[]=>rfl
 | [],_::_=>rfl
 | _::_,[]=>rfl
 | x::xs,y::ys=>by
  have ih:=rp xs ys
  unfold ya
  rw[<- ih,bW,bW,Nat.succ_min_succ,List.range_succ_eq_map,fX,kS,Bool.and_assoc]
  congr 1
  congr 1
  rw[cX]
  simp
theorem ro:∀{x:V},yJ x=true->eqV x x=true:=fun {x} h=>by
 cases x with
 | non=>rfl
 | bl b=>exact OH b
 | int i=>exact OH i
 | str z=>exact OH z
 | _=>exact ND (show false=true from h) bP
theorem sN:∀{xs:AK},xs.all yJ=true->ya xs xs=true
 | [],_=>rfl
 | x::xs,h=>by
  rw[fX,bX] at h
  unfold ya
  rw[ro h.1,sN h.2]
  rfl
theorem vm:∀{xs:AK}{us:AG},Vals xs us->xs.all yJ=true->∀(j:Nat) (h:j<us.length),RelV (xs.getD j .non) us[j]/\yJ (xs.getD j .non)=true
 | _,_,.nil,_,j,h=>ND h (dU _)
 | x::xs,u::us,.cons r t,f,0,h=>by
  rw[fX,bX] at f
  exact⟨r,f.1⟩
 | x::xs,u::us,.cons r t,f,j+1,h=>by
  rw[fX,bX] at f
  exact vm t f.2 j (Nat.lt_of_succ_lt_succ h)
noncomputable def eqI:AG->AK->Bool
 | [],[]=>true
 | u::us,x::xs=>eqU x u && eqI us xs
 | _,_=>false
theorem mf:∀{ys:AK}{us:AG} (xs:AK),Vals ys us->ys.all yJ=true->eqI us xs=ya ys xs
 | _,_,[],.nil,_=>rfl
 | _,_,_::_,.nil,_=>rfl
 | y::ys,u::us,[],.cons r t,f=>rfl
 | y::ys,u::us,x::xs,.cons r t,f=>by
  rw[fX,bX] at f
  unfold eqI ya
  rw[rJ r f.1,mf xs t f.2]
section
variable{X:Cx}
theorem Zc{A:Around}{s:Shared}{a b:Addr}{zC K3:AG}{xs ys:AK}(pl:s.heap.IsTuple a zC.toArray)(pl2:s.heap.IsTuple b K3.toArray)(r:Vals xs zC)(r2:Vals ys K3)(f:xs.all yJ=true)(f2:ys.all yJ=true)(hu:A.units<cLine) :
  SeqAt.RcAt A s (.ref a) (.ref b) (ya xs ys):=by
 have h:=SeqAt.RcAt.tuples (e:=fun j=>eqV (xs.getD j .non) (ys.getD j .non)) pl pl2 hu fun j h1 h2=>by
  rw[bN] at h1 h2
  obtain⟨q1,q2⟩:=vm r f j h1
  obtain⟨q3,q4⟩:=vm r2 f2 j h2
  exact mY q1 q3 q2 q4
 rw[bN,bN,<- r.length,<- r2.length,rp] at h
 exact h
noncomputable def rEqT(K:AA):R2:=fun x y H Q=>∃a b xs ys,x=.ref a/\y=.ref b/\SqT K H a xs/\SqT K H b ys/\xs.all yJ=true/\ys.all yJ=true/\Q (.bl (ya xs ys)) H
theorem mS(hu:X.A.units<cLine):OpR X (compareOp .Eq) (rEqT X.K):=by
 intro z4 s σ H x y v u Q I rx ry h
 obtain⟨a,b,xs,ys,rfl,rfl,ha,hb,f1,f2,q⟩:=h
 cases rx
 cases ry
 obtain⟨zC,r,pl,hz⟩:=I.tuple ha
 obtain⟨K3,r2,pl2,hz2⟩:=I.tuple hb
 exact Zc pl pl2 r r2 f1 f2 hu X.prog X.w X.xe _ ⟨.bl _,H,I,rfl,q⟩
noncomputable def wq(s:Shared)(xs:AK):Value->Bool
 | .ref b=>match s.heap.get? b with
  | some o=>match o.data with
   | .seq zC _=>eqI zC.toList xs
   | _=>false
  | none=>false
 | _=>false
noncomputable def Vv(K:AA):R2:=fun x y H Q=>∃a p xs us yss,x=.ref a/\y=.ref p/\SqT K H a xs/\xs.all yJ=true/\SqL K H p us/\Paired (fun u ys=>∃b,u=.ref b/\SqT K H b ys/\ys.all yJ=true) us yss/\Q (.bl (!yss.any fun ys=>ya ys xs)) H
theorem RY(hu:X.A.units+1<cLine):OpR X (compareOp .NotIn) (Vv X.K):=by
 intro z4 s σ H x y v u Q I rx ry h
 obtain⟨a,p,xs,us,yss,rfl,rfl,ha,f1,hp,pr,q⟩:=h
 cases rx
 cases ry
 obtain⟨zC,r,pl,hz⟩:=I.tuple ha
 obtain⟨K3,r2,pl2,hz2⟩:=I.list hp
 have item:∀(b:Addr) (ys:AK),SqT X.K H b ys->ys.all yJ=true->wq s xs (.ref b)=ya ys xs/\SeqAt.EqAt X.A.in1 s (.ref b) (.ref a) (ya ys xs):=fun b ys hb fb=>by
  obtain⟨its3,r3,pl3,hz3⟩:=I.tuple hb
  have e1:wq s xs (.ref b)=ya ys xs:=by
   obtain⟨o,ho,hc,n,hd⟩:=pl3
   unfold wq
   simp only[ho,hd]
   exact mf xs r3 fb
  refine⟨e1,?_⟩
  by_cases hne:b=a
  ·subst hne
   have e2:ya ys xs=true:=by
    rw[<- e1]
    obtain⟨o,ho,hc,n,hd⟩:=pl
    unfold wq
    simp only[ho,hd]
    rw[mf xs r f1]
    exact sN f1
   rw[e2]
   exact SeqAt.EqAt.same _
  ·exact SeqAt.EqAt.of_refs hne (Zc pl3 pl r3 r fb f1 hu)
 have all:∀{us:AK}{yss:List (AK)}{vs:AG},Paired (fun u ys=>∃b,u=.ref b/\SqT X.K H b ys/\ys.all yJ=true) us yss->Vals us vs->vs.any (wq s xs)=yss.any (fun ys=>ya ys xs)/\∀v∈vs,SeqAt.EqAt X.A.in1 s v (.ref a) (wq s xs v):=by
  intro us yss vs pr
  induction pr generalizing vs with
  | nil=>
   intro r
   cases r
   exact⟨rfl,fun v hv=>(nomatch hv)⟩
  | cons h t ih=>
   intro r
   cases r with
   | cons r1 rt=>
    obtain⟨b,rfl,hb,fb⟩:=h
    cases r1
    obtain⟨i1,i2⟩:=ih rt
    obtain⟨j1,j2⟩:=item b _ hb fb
    refine⟨by rw[fZ,fZ,i1,j1],fun v hv=>?_⟩
    rcases bI.mp hv with rfl|hv
    ·rw[j1];exact j2
    ·exact i2 v hv
 obtain⟨a1,a2⟩:=all pr r2
 refine SeqAt.notIn_listAt (wq s xs) pl2.isList (fun w hw=>a2 w (by simpa using hw)) ⟨.bl _,H,I,rfl,?_⟩
 rw[show K3.toArray.any (wq s xs)=K3.any (wq s xs) by simp,a1]
 exact q
end
noncomputable def rSlA(K:AA):V->Option Int->Option Int->Hp->VK->Prop:=fun x lo hi H Q=>∃a xs,x=.ref a/\SqT K H a xs/\((HT.sIx xs.length 0 lo=0/\HT.sIx xs.length xs.length hi=xs.length)->Q (.ref a) H)/\
 (¬(HT.sIx xs.length 0 lo=0/\HT.sIx xs.length xs.length hi=xs.length)->∀p,H p=none->Q (.ref p) (upd H p (.tup (K0 xs lo hi))))
theorem ZV{X:Cx}:SlR X (rSlA X.K):=by
 intro z4 s σ H x v vl vu lo hi sl Q I rx hs pl pu h
 obtain⟨a,xs,rfl,hx,q1,q2⟩:=h
 by_cases hw:HT.sIx xs.length 0 lo=0/\HT.sIx xs.length xs.length hi=xs.length
 ·cases rx
  obtain⟨zC,r,ht,hz⟩:=I.tuple hx
  have zU:zC.toArray.size=xs.length:=by rw[bN];exact r.length.symm
  exact⟨"tuple",_,dP.lookup,ht.typeIs,HT.WU ht hs pl pu (by rw[zU];exact hw) ⟨.ref a,H,I,rfl,q1 hw⟩⟩
 ·exact ZM z4 s σ H (.ref a) v vl vu lo hi sl Q I rx hs pl pu ⟨a,xs,rfl,hx,hw,q2 hw⟩
noncomputable def rNeT(K:AA):R2:=fun x y H Q=>∃a b xs ys,x=.ref a/\y=.ref b/\SqT K H a xs/\SqT K H b ys/\xs.all yJ=true/\ys.all yJ=true/\Q (.bl (!ya xs ys)) H
theorem ZN{X:Cx}(hu:X.A.units<cLine):OpR X (compareOp .NotEq) (rNeT X.K):=by
 intro z4 s σ H x y v u Q I rx ry h
 obtain⟨a,b,xs,ys,rfl,rfl,ha,hb,f1,f2,q⟩:=h
 cases rx
 cases ry
 obtain⟨zC,r,pl,hz⟩:=I.tuple ha
 obtain⟨K3,r2,pl2,hz2⟩:=I.tuple hb
 have h:=SeqAt.RcNeAt.tuples (A:=X.A) (e:=fun j=>eqV (xs.getD j .non) (ys.getD j .non)) pl pl2 hu fun j h1 h2=>by
  rw[bN] at h1 h2
  obtain⟨q1,q2⟩:=vm r f1 j h1
  obtain⟨q3,q4⟩:=vm r2 f2 j h2
  exact mY q1 q3 q2 q4
 rw[bN,bN,<- r.length,<- r2.length,rp] at h
 exact h X.prog X.w X.xe _ ⟨.bl _,H,I,rfl,q⟩
noncomputable def C5(a b c:Int):Nat:=(Builtin.Range.rangeSize a b c).toNat
theorem YW{a b c:Int}(hc:c<0):C5 a b c=if a > b then ((a-b-1) / (-c)+1).toNat else 0:=by
 unfold C5 Builtin.Range.rangeSize
 rw[Pn (by lia)]
 split<;>rfl
theorem Zo{a b c:Int}{i:Nat}(hc:c<0)(h:i<C5 a b c):b<a+i*c/\a+i*c<=a:=by
 rw[YW hc] at h
 split at h
 ·have h0:0<=(a-b-1) / (-c):=Int.ediv_nonneg (by lia) (by lia)
  have h1:(i:Int)<=(a-b-1) / (-c):=by lia
  have h2:(a-b-1) / (-c)*(-c)<=a-b-1:=Int.ediv_mul_le _ (by lia)
  have h3:(i:Int)*(-c)<=(a-b-1) / (-c)*(-c):=Int.mul_le_mul_of_nonneg_right h1 (by lia)
  have h4:(i:Int)*(-c)=-((i:Int)*c):=Int.mul_neg _ _
  have h5:(0:Int)<=(i:Int)*(-c):=Int.mul_nonneg (by lia) (by lia)
  lia
 ·exact ND h (dU _)
theorem UP{a b c:Int}(hc:c<0):(C5 a b c:Int)<=(a-b).toNat:=by
 rw[YW hc]
 split
 ·have h0:0<=(a-b-1) / (-c):=Int.ediv_nonneg (by lia) (by lia)
  have h1:(a-b-1) / (-c)<=a-b-1:=Int.ediv_le_self _ (by lia)
  lia
 ·lia
noncomputable def Itk(hi c:Int)(n:Nat):It:=⟨fun i _=>i<n,fun i H x H'=>H'=H/\x=.int (hi+i*c),fun i _=>n<=i⟩
theorem Ss{P:Program}{w:World}{K:AA}{tg:Expr}(it:Addr)(hi c:Int)(n:Nat):Turn P w K tg (Itk hi c n) [it] it (fun i h=>IsRangeIter h it (hi+(i:Nat)*c) ((n:Int)-(i:Nat)) c) where
 mem:=by simp
 obj:=fun i h st b hb=>by
  have e:b=it:=by simpa using hb
  subst e
  exact⟨_,st,fun v z=>by
   have z':Data.fields _=Data.cell v:=z
   cases z'⟩
 keep:=fun i h h' st k=>k it (by simp) _ st
 item:=by
  intro X hP hw hK hc i z4 s σ H E I hf st hg
  subst hP hw hK
  obtain⟨f0,f1,f2,f3,f4,f5⟩:=hf it (by simp)
  have W:=Walks.range (prog:=X.prog) (w:=X.w) (I.ok.hd hc) it hi c n
  refine W.item i s _ _ hg st fun v h' tk hv st' kk=>?_
  obtain⟨t,rfl⟩:=hv
  have I1:Inv X z4 σ H { s with heap:=h',toks:=tk }:=I.turned (fun b o hb e=>kk b o (by simpa using hb) e) f0 f1 f3 f4 f5
  exact⟨_,rfl,uD (s:={ s with heap:=h',toks:=tk }) (n:="range_iterator") st' rfl rfl (by decide) ⟨.int (hi+i*c),H,I1,⟨t,rfl⟩,⟨rfl,rfl⟩,st',fun b hb=>(hf b hb).1⟩⟩
 done:=by
  intro X hP hw hK hc i z4 s σ H E I hf st hg
  subst hP hw hK
  obtain⟨f0,f1,f2,f3,f4,f5⟩:=hf it (by simp)
  exact Oq (I.ok.hd hc) st (by have:n<=i:=hg;lia) fun h' eb=>⟨rfl,I.turned (t':=s.toks) (fun b o hb e=>eb b o hb e) f0 f1 f3 f4 f5⟩
 self:=fun _ _ _ _ _ st h=>Ot st h
theorem Rp{a b c:Int}(ha:-1000<=a)(ha':a<=1000)(hb:-1000<=b)(hb':b<=1000)(hc:c<0)(hc':-1000<=c):Builtin.Range.small a b c=true:=by
 have h:=UP (a:=a) (b:=b) hc
 have e:Builtin.Range.rangeSize a b c=(C5 a b c:Int):=by
  unfold C5
  exact rangeSize_toNat a b c
 unfold Builtin.Range.small
 rw[e]
 have h0:(0:Int)<=(C5 a b c:Int):=jV _
 have h':(C5 a b c:Int)<=2000:=by lia
 clear h
 generalize (C5 a b c:Int)=m at h' h0
 rw[Pn (show ¬c > 0 by lia)]
 simp only[Builtin.Range.rangeFitsLong,bX,gU,Pp,Oj]
 exact⟨by lia,.inr (by lia)⟩
section
variable{X:Cx}{tg:Expr}
noncomputable def w0P(ta:TA):TI:=fun σ H R=>ta σ H fun vs H1=>∃i j c:Int,vs=[.int i,.int j,.int c]/\(-1000<=i/\i<=1000/\-1000<=j/\j<=1000/\c<0/\-1000<=c)/\R (Itk i c (C5 i j c)) H1
theorem RF{a b c:Expr}{ta:TA}{p pos:Pos}(hg:Gl X "range")(hm:X.mg "range"=none)(ha:PA X [a,b,c] ta)
  (hs:starEach [a,b,c] X.env=[(false,eval a X.env),(false,eval b X.env),(false,eval c X.env)]:=by rfl) (hs2:starEach [b,c] X.env=[(false,eval b X.env),(false,eval c X.env)]:=by rfl) :
  PI X tg (.Call (.Name "range" p) [a,b,c] [] pos) (w0P ta):=by
 intro z4 s σ H R I h
 refine Call_ (wF I hg hm boot_range (dN (thn (ha pos z4 s σ H _ I h) fun us s1 ⟨vs,H1,I1,r1,q1⟩=>?_) (by rw[hs,hs2]) (by rw[hs2];rfl)))
 obtain⟨i,j,k,e,⟨q1,q2,q3,q4,q5,q6⟩,q⟩:=q1
 subst e
 cases r1 with
 | cons r rr=>
  cases rr with
  | cons r' rr=>
   cases rr with
   | cons r'' rr=>
    cases rr
    obtain⟨t,rfl⟩:=r
    obtain⟨t',rfl⟩:=r'
    obtain⟨t'',rfl⟩:=r''
    refine call_range_3 (by lia) ?_ (.inl (kB (by lia)))
    refine Ow (IsRange.new ..) (Rp q1 q2 q3 q4 q5 q6) ?_
    have I2:Inv X z4 σ H1 { s1 with heap:=s1.heap.push { cls:=.type "range",data:=.fields #[.int i t,.int j t',.int k t''] },toks:=s1.toks }:=I1.kept fun b o e=>bB _ e
    refine⟨(s1.heap.push { cls:=.type "range",data:=.fields #[.int i t,.int j t',.int k t''] }).objs.size,[(s1.heap.push { cls:=.type "range",data:=.fields #[.int i t,.int j t',.int k t''] }).objs.size],_,_,H1,rfl,
     I2.kept (t':=s1.toks) fun b o e=>bB _ e,Ss _ i k (C5 i j k),?_,fun b hb=>?_,q⟩
    ·have e1:i+((0:Nat):Int)*k=i:=by simp
     have e2:((C5 i j k:Nat):Int)-((0:Nat):Int)=Builtin.Range.rangeSize i j k:=by
      unfold C5
      rw[<- rangeSize_toNat i j k]
      simp
     show IsRangeIter _ _ (i+((0:Nat):Int)*k) (((C5 i j k:Nat):Int)-((0:Nat):Int)) k
     rw[e1,e2]
     exact bJ _ rfl
    ·have e:b=(s1.heap.push { cls:=.type "range",data:=.fields #[.int i t,.int j t',.int k t''] }).objs.size:=by simpa using hb
     subst e
     exact I2.O6 (bG _) (I2.hok.fresh (bG _))
end
theorem Ub{hi c:Int}{n:Nat}{g:TG}{tb:TS}{D:Ends}{σ:St}{H:Hp}(Pv:Nat->St->Hp->Prop)(h0:Pv 0 σ H)
  (hs:∀i σ H,i<n->Pv i σ H->g (.int (hi+i*c)) σ H fun σ2 H2=>tb { D with nx:=Pv (i+1),ct:=Pv (i+1),bk:=D.nx } σ2 H2) (hd:∀σ H,Pv n σ H->D.nx σ H) :
  ∃W:Nat->Nat->St->Hp->Prop,(∃m,W 0 m σ H)/\∀i m σ H,W i m σ H->
   ((Itk hi c n).stop i H/\D.nx σ H)\/((Itk hi c n).go i H/\∃N:St->Hp->Prop,(∀σ' H',N σ' H'->∃m',m'<m/\W (i+1) m' σ' H')/\∀x H',(Itk hi c n).yld i H x H'->g x σ H' fun σ2 H2=>tb { D with nx:=N,ct:=N,bk:=D.nx } σ2 H2):=by
 refine⟨fun i m σ H=>m=n-i/\i<=n/\Pv i σ H,⟨n,by simp,cQ _,h0⟩,?_⟩
 rintro i m σ H ⟨rfl,hi',p⟩
 by_cases hlt:i<n
 ·refine .inr ⟨hlt,Pv (i+1),fun σ' H' p'=>⟨n-(i+1),by lia,rfl,hlt,p'⟩,fun x H' y=>?_⟩
  obtain⟨e,y⟩:=y
  subst e y
  exact hs i σ _ hlt p
 ·have e:i=n:=by lia
  subst e
  exact .inl ⟨bG _,hd σ H p⟩
noncomputable def tCut(t u:TS):TS:=fun D σ H=>∃W:St->Hp->Prop,t { D with nx:=W } σ H/\∀σ' H',W σ' H'->u D σ' H'
theorem lY{X:Cx}{st:Stmt}{zI:List Stmt}{t u:TS}(h1:PS X st t)(h2:PSs X zI u):PSs X (st::zI) (tCut t u):=by
 intro z4 s σ H D I h
 obtain⟨W,h,hw⟩:=h
 refine wpAny_execs_cons (thn (h1 z4 s σ H { D with nx:=W } I h) fun f s1 q=>?_)
 cases f with
 | next=>
  obtain⟨σ',H',I',q⟩:=q
  exact h2 z4 s1 σ' H' D I' (hw σ' H' q)
 | ret v=>exact q
 | brk=>exact q
 | cont=>exact q
theorem len7{us:AG}{p:AG->Prop}(h:us.length=7)(k:∀a b c d e f g,p [a,b,c,d,e,f,g]):p us:=by
 match us,h with
 | [a,b,c,d,e,f,g],_=>exact k a b c d e f g
end L2
namespace HT
open PySem PySem.Spec PyProof.Rows L2
section
variable{prog:Program}{w:World}{A:Around}{E:AB}{s:Shared}
theorem Ud{t b:Addr}{vs ws:AG}{Q:AB}(ht:IsTup s.heap t vs.toArray)(hb:IsTup s.heap b ws.toArray)(h0:vs=[]->Q (.ref b) s)
  (h1:vs≠[]->ws=[]->Q (.ref t) s) (h2:vs≠[]->ws≠[]->Q (.ref s.heap.objs.size) { s with heap:=s.heap.push { cls:=.type "tuple",data:=.seq (vs++ws).toArray } })
  (hsz:vs.length+ws.length<=sizeLine):wpAny (model prog w) A (binaryOp .Add (.ref t) (.ref b)) Q E s:=by
 by_cases hv:vs=[]
 ·obtain⟨⟨cls,dd,data,sl⟩,ho,hc,n,hd⟩:=id ht
  obtain⟨⟨cls2,dd2,data2,sl2⟩,ho2,hc2,n2,hd2⟩:=id hb
  simp only at hc hd hc2 hd2
  subst hc hd hc2 hd2
  exact concat_meets ⟨_,ho,rfl⟩ ⟨_,ho2,rfl⟩ noFill_tuple_add seq_tuple_add kC k8 (jT _ _)
   (tuple_addW0 t b vs.toArray ws.toArray n n2 dd dd2 sl sl2 (by simp[hv])) ⟨ho,ho2,h0 hv⟩
 ·exact Vc ht hb hv (h1 hv) (h2 hv) hsz
end
end HT
namespace L2
open PySem PySem.Spec PyProof.Rows
section
variable{X:Cx}
noncomputable def w0U:R2:=fun x y H Q=>∃a b xs ys,x=.ref a/\y=.ref b/\H a=some (.tup xs)/\H b=some (.tup ys)/\xs.length+ys.length<=sizeLine/\∀p H',B0 H H'->H' p=some (.tup (xs++ys))->Q (.ref p) H'
theorem uy:OpR X (binaryOp .Add) w0U:=by
 intro z4 s σ H x y v u Q I rx ry h
 obtain⟨a,b,xs,ys,rfl,rfl,ha,hb,hz,q⟩:=h
 cases rx
 cases ry
 obtain⟨zC,r1,p1,_⟩:=I.tuple (SqT.of ha)
 obtain⟨K3,r2,p2,_⟩:=I.tuple (SqT.of hb)
 refine HT.Ud p1 p2 (fun z=>?_) (fun z0 z=>?_) (fun z0 z=>?_) (by rw[<- r1.length,<- r2.length];exact hz)
 ·refine⟨.ref b,H,I,rfl,q b H (B0.refl _) ?_⟩
  rw[r1.S7.mp z]
  exact hb
 ·refine⟨.ref a,H,I,rfl,q a H (B0.refl _) ?_⟩
  rw[r2.S7.mp z,dB]
  exact ha
 ·refine⟨.ref s.heap.objs.size,_,I.laid (t':=s.toks) (o:=.tup (xs++ys)) (fun b ob q=>bB _ q) (bG _) ?_,rfl,q _ _ (fun c o e=>?_) zM⟩
  ·exact⟨by rw[bF];exact hz,_,r1.append r2,PlT.new _ _⟩
  ·rw[zS (yC e (I.hok.fresh (bG _)))]
   exact e
noncomputable def rSlB:V->Option Int->Option Int->Hp->VK->Prop:=fun x lo hi H Q=>∃a xs,x=.ref a/\H a=some (.tup xs)/\∀p H',B0 H H'->H' p=some (.tup (K0 xs lo hi))->Q (.ref p) H'
theorem YB:SlR X rSlB:=by
 intro z4 s σ H x v vl vu lo hi sl Q I rx hs pl pu h
 obtain⟨a,xs,rfl,ha,q⟩:=h
 refine ZV z4 s σ H (.ref a) v vl vu lo hi sl Q I rx hs pl pu ⟨a,xs,rfl,SqT.of ha,fun hw=>q a H (B0.refl _) ?_,fun _ p hp=>q p _ (fun c o e=>by rw[zS (yC e hp)];exact e) zM⟩
 have e:K0 xs lo hi=xs:=by
  unfold K0
  rw[hw.1,hw.2,gC,j8,bY]
 rw[e]
 exact ha
noncomputable def UG(K:AA):V->AK->Hp->VK->Prop:=fun x vs H Q=>∃(l:Addr) (zs:AF) (z:Str) (j:Nat),x=.ref l/\vs=[.str z]/\SqL K H l (zs.map V.str)/\zs[j]? = some z/\(∀m,m<j->zs[m]? ≠ some z)/\Q (.int (j:Nat)) H
theorem xJ(zs:AF):(zs.map V.str).all yJ=true:=by
 rw[kS,gH]
 intro z _
 rfl
theorem RB:MtM X "list.index" (UG X.K):=by
 intro z4 s σ H x vs v us Q I rx rv h
 obtain⟨l,zs,z,j,rfl,rfl,hL,ej,hno,q⟩:=h
 cases rx
 obtain⟨u,rfl,ru⟩:=rv.one
 have ru0:=ru
 obtain⟨t,rfl⟩:=ru
 obtain⟨zC,r,pl,hz⟩:=I.list hL
 have lr:=r.length
 rw[bA] at lr hz
 have hj:=(bK.mp ej).1
 have line:=OM
 have at_:∀(m:Nat) (hm:m<zC.toArray.size),eqU (.str z) zC.toArray[m]=decide (zs[m]? = some z):=fun m hm=>by
  have hm':m<zC.length:=by rw[bN] at hm;exact hm
  obtain⟨q1,q2⟩:=vm r (xJ zs) m hm'
  have eu:=rJ (x:=.str z) q1 q2
  have eg:(zs.map V.str).getD m .non=.str (zs[m]'(by lia)):=by
   rw[bR,bE,bC (show m<zs.length by lia)]
   rfl
  rw[eg] at eu
  rw[List.getElem_toArray,eu,bC (show m<zs.length by lia)]
  show(zs[m] == z)=decide (some zs[m]=some z)
  rw[cX,Pp,Oj,Option.some.injEq]
 obtain⟨⟨cls,dd,data,sl⟩,ho,hc,n,hd⟩:=id pl.isList
 simp only at hc hd
 subst hc hd
 have hjs:j<zC.toArray.size:=by rw[bN];lia
 refine Ov F.slot_list_index ⟨_,ho,rfl⟩ F.entry_list_index (F.args_list_index_2 _ _)
  (SeqAt.list_indexAt l zC.toArray n dd sl (.str z t) (eqU (.str z)) j hjs (by lia) (by rw[at_ j hjs];exact Pq ej) (fun m hm hlt=>by rw[at_ m hm];exact Pt (hno m hlt)))
  ⟨ho,fun w hw=>vw ru0 rfl r (xJ zs) w (by simpa using hw),?_⟩
 exact⟨.int j,H,I.tok _,⟨_,rfl⟩,q⟩
end
noncomputable def DfK(K:AA)(x q:Str)(st:Stmt)(dV:Value)(f:Addr):Prop:=∃(oc:Value) (od:Option Addr) (kV doc pm:Value) (an:Option Addr) (zO ct:Value) (osl:Array (AH)),
 K.lookup f=some ⟨oc,od,.func (PySem.W.fnOf x q (xE st) (yp st) (zT st) dV kV doc pm an zO ct),osl⟩/\PySem.W.codeIn K zO q=true/\PySem.W.keepIn K (.ref f)=true
noncomputable def DfT(K:AA)(x:Str)(st:Stmt)(dV:Value)(f:Addr):Prop:=PySem.W.nsIn K mainGlobals x=some (some (.ref f))/\DfK K x x st dV f
noncomputable def DfM(K:AA)(C:Addr)(x q:Str)(st:Stmt)(dV:Value)(f:Addr):Prop:=PySem.W.findIn K (.ref C) x=some (some (.ref f))/\PySem.W.isFn K (.ref f)=true/\DfK K x q st dV f
noncomputable def DfD(K:AA)(T:Addr)(zC:AI):Prop:=∃oct odt nt slt,K.lookup T=some ⟨oct,odt,.seq zC nt,slt⟩
noncomputable def DfC(K:AA)(x:Str)(C:Addr):Prop:=PySem.W.nsIn K mainGlobals x=some (some (.ref C))/\PySem.W.plainGet K C Str.empty=true/\PySem.W.hasDictIn K C=true/\PySem.W.plainOver K C=true/\PySem.W.findIn K (.ref C) "__setattr__"=some (some (.builtin "object.__setattr__"))/\PySem.W.makesIn K C=true/\PySem.W.keepIn K (.ref C)=true
section
variable{K:AA}{mg:Str->AH}{x q:Str}{st:Stmt}{f C T:Addr}{fd:FuncData}{zC:AI}
theorem DfK.fn(h:DfK K x q st .none f):∃fd,Fun K x q st f fd:=by
 obtain⟨oc,od,kV,doc,pm,an,zO,ct,osl,l,c,k⟩:=h
 exact⟨_,WW l c k⟩
theorem DfK.fnD(h:DfK K x q st (.ref T) f)(d:DfD K T zC):∃fd,R3 K x q st f fd T zC:=by
 obtain⟨oc,od,kV,doc,pm,an,zO,ct,osl,l,c,k⟩:=h
 obtain⟨_,_,_,_,d⟩:=d
 exact⟨_,VQ l d c k⟩
theorem zm{h:Heap}(X:K.In h)(G:h.Ns mainGlobals mg)(a:DfT K x st .none f):∃fd,Fun K x x st f fd/\mg x=some (.ref f):=by
 obtain⟨fd,F⟩:=a.2.fn
 exact⟨fd,F,dQ X G a.1⟩
theorem xO(a:DfM K C x q st .none f):∃fd,Fun K x q st f fd/\Meth K C x f:=by
 obtain⟨fd,F⟩:=a.2.2.fn
 exact⟨fd,F,a.1,a.2.1,F.kp⟩
theorem UL(a:DfM K C x q st (.ref T) f)(d:DfD K T zC):∃fd,R3 K x q st f fd T zC/\Meth K C x f:=by
 obtain⟨fd,F⟩:=a.2.2.fnD d
 exact⟨fd,F,a.1,a.2.1,F.kp⟩
theorem lW{y:Str}(c:DfC K y C)(a:DfM K C "__init__" q st .none f):∃fd,Fun K "__init__" q st f fd/\Mk K C f:=by
 obtain⟨fd,F⟩:=a.2.2.fn
 exact⟨fd,F,c.2.2.2.2.2.1,a.1,a.2.1,c.2.2.2.2.2.2⟩
theorem DfC.cls{y:Str}(c:DfC K y C):Cls K C:=⟨c.2.1,c.2.2.1,c.2.2.2.1,c.2.2.2.2.1⟩
theorem DfC.nm{h:Heap}(X:K.In h)(G:h.Ns mainGlobals mg){y:Str}(c:DfC K y C):mg y=some (.ref C):=dQ X G c.1
theorem Sr{p:Str}(F:Fun K x q st f fd)(h:∀kV doc pm an zO ct v,bindArgs (PySem.W.fnOf x q (xE st) (yp st) (zT st) .none kV doc pm an zO ct) ⟨[v],[]⟩=pure [(p,v)]:=by intros;rfl):∀(s:Shared) (v:Value),BindsTo s fd ⟨[v],[]⟩ [(p,v)]:=by
 obtain⟨oc,od,kV,doc,pm,an,zO,ct,osl,rfl,l,c⟩:=F.ex
 exact fun s v=>.of_eq (h _ _ _ _ _ _ _)
theorem b0(F:Fun K x q st f fd)(h:∀kV doc pm an zO ct,bindArgs (PySem.W.fnOf x q (xE st) (yp st) (zT st) .none kV doc pm an zO ct) ⟨[],[]⟩=pure (List.zip [] []):=by intros;rfl):yK K fd [] []:=
 F.binds fun kV doc pm an zO ct us hl=>len0 (p:=fun us=>bindArgs _ ⟨us,[]⟩=pure (List.zip _ us)) hl (h kV doc pm an zO ct)
theorem b1{p1:Str}(F:Fun K x q st f fd)(h:∀kV doc pm an zO ct a,bindArgs (PySem.W.fnOf x q (xE st) (yp st) (zT st) .none kV doc pm an zO ct) ⟨[a],[]⟩=pure (List.zip [p1] [a]):=by intros;rfl):yK K fd [p1] []:=
 F.binds fun kV doc pm an zO ct us hl=>T3 (p:=fun us=>bindArgs _ ⟨us,[]⟩=pure (List.zip _ us)) hl (h kV doc pm an zO ct)
theorem b2{p1 p2:Str}(F:Fun K x q st f fd)(h:∀kV doc pm an zO ct a b,bindArgs (PySem.W.fnOf x q (xE st) (yp st) (zT st) .none kV doc pm an zO ct) ⟨[a,b],[]⟩=pure (List.zip [p1,p2] [a,b]):=by intros;rfl):yK K fd [p1,p2] []:=
 F.binds fun kV doc pm an zO ct us hl=>Y5 (p:=fun us=>bindArgs _ ⟨us,[]⟩=pure (List.zip _ us)) hl (h kV doc pm an zO ct)
theorem b3{p1 p2 p3:Str}(F:Fun K x q st f fd)(h:∀kV doc pm an zO ct a b c,bindArgs (PySem.W.fnOf x q (xE st) (yp st) (zT st) .none kV doc pm an zO ct) ⟨[a,b,c],[]⟩=pure (List.zip [p1,p2,p3] [a,b,c]):=by intros;rfl):yK K fd [p1,p2,p3] []:=
 F.binds fun kV doc pm an zO ct us hl=>Y0 (p:=fun us=>bindArgs _ ⟨us,[]⟩=pure (List.zip _ us)) hl (h kV doc pm an zO ct)
theorem b4{p1 p2 p3 p4:Str}(F:Fun K x q st f fd)(h:∀kV doc pm an zO ct a b c d,bindArgs (PySem.W.fnOf x q (xE st) (yp st) (zT st) .none kV doc pm an zO ct) ⟨[a,b,c,d],[]⟩=pure (List.zip [p1,p2,p3,p4] [a,b,c,d]):=by intros;rfl):yK K fd [p1,p2,p3,p4] []:=
 F.binds fun kV doc pm an zO ct us hl=>len4 (p:=fun us=>bindArgs _ ⟨us,[]⟩=pure (List.zip _ us)) hl (h kV doc pm an zO ct)
theorem b5{p1 p2 p3 p4 p5:Str}(F:Fun K x q st f fd)(h:∀kV doc pm an zO ct a b c d e,bindArgs (PySem.W.fnOf x q (xE st) (yp st) (zT st) .none kV doc pm an zO ct) ⟨[a,b,c,d,e],[]⟩=pure (List.zip [p1,p2,p3,p4,p5] [a,b,c,d,e]):=by intros;rfl):yK K fd [p1,p2,p3,p4,p5] []:=
 F.binds fun kV doc pm an zO ct us hl=>len5 (p:=fun us=>bindArgs _ ⟨us,[]⟩=pure (List.zip _ us)) hl (h kV doc pm an zO ct)
theorem b6{p1 p2 p3 p4 p5 p6:Str}(F:Fun K x q st f fd)(h:∀kV doc pm an zO ct a b c d e g,bindArgs (PySem.W.fnOf x q (xE st) (yp st) (zT st) .none kV doc pm an zO ct) ⟨[a,b,c,d,e,g],[]⟩=pure (List.zip [p1,p2,p3,p4,p5,p6] [a,b,c,d,e,g]):=by intros;rfl):yK K fd [p1,p2,p3,p4,p5,p6] []:=
 F.binds fun kV doc pm an zO ct us hl=>len6 (p:=fun us=>bindArgs _ ⟨us,[]⟩=pure (List.zip _ us)) hl (h kV doc pm an zO ct)
theorem b7{p1 p2 p3 p4 p5 p6 p7:Str}(F:Fun K x q st f fd)(h:∀kV doc pm an zO ct a b c d e g i,bindArgs (PySem.W.fnOf x q (xE st) (yp st) (zT st) .none kV doc pm an zO ct) ⟨[a,b,c,d,e,g,i],[]⟩=pure (List.zip [p1,p2,p3,p4,p5,p6,p7] [a,b,c,d,e,g,i]):=by intros;rfl):yK K fd [p1,p2,p3,p4,p5,p6,p7] []:=
 F.binds fun kV doc pm an zO ct us hl=>len7 (p:=fun us=>bindArgs _ ⟨us,[]⟩=pure (List.zip _ us)) hl (h kV doc pm an zO ct)
end
theorem calF(P:Program)(w:World)(K:AA)(mg:Str->AH)(base:Heap){k:Nat}{x:Str}{ps:AF}{sp:Sp}{st:Stmt}{f:Addr}{fd:FuncData}(F:Fun K x x st f fd/\mg x=some (.ref f))(a:B2 P w K mg base CX0 k f fd ps sp)(b:yK K fd ps []):Cal P w K mg base k x ps sp:=.mk' a b F.1.kp F.2
theorem mclF(P:Program)(w:World)(K:AA)(mg:Str->AH)(base:Heap){k:Nat}{C:Addr}{x q:Str}{ps:AF}{sp:Sp}{st:Stmt}{f:Addr}{fd:FuncData}(c:Cls K C)(F:Fun K x q st f fd/\Meth K C x f)(a:B2 P w K mg base CX0 k f fd ps sp)(b:yK K fd ps []):D5 P w K mg base k C x ps sp:=.mk' c a b F.2
theorem mkrF(P:Program)(w:World)(K:AA)(mg:Str->AH)(base:Heap){k:Nat}{C:Addr}{x y q:Str}{ps:AF}{sp:Sp}{st:Stmt}{f:Addr}{fd:FuncData}(c:mg x=some (.ref C))(F:Fun K y q st f fd/\Mk K C f)(a:B2 P w K mg base CX0 k f fd ps sp)(b:yK K fd ps []):Mkr P w K mg base k C x ps sp:=.mk' a b F.2 c
theorem scp{N P:AF}{sc:Scope}(h1:sc.kind=.function:=by rfl)(h2:sc.isCoroutine=false:=by rfl)(h3:sc.isGenerator=false:=by rfl)(h4:N.Nodup:=by decide +kernel)(h5:N.take P.length=P:=by rfl)
  (h6:∀x∈P,sc.names.lookup x=some .local\/sc.names.lookup x=some .cell:=by decide +kernel) (h7:∀y∈sc.names,y.2≠.free:=by decide +kernel):A9 N P sc:=⟨h1,h2,h3,h4,h5,h6,h7⟩
theorem rm{j k:Nat}{A:Around}(r:D9 k A)(h:j<=k:=by lia):D9 j A:=r.mono h
theorem Cal.up{P:Program}{w:World}{K:AA}{mg:Str->AH}{base:Heap}{j k:Nat}{x:Str}{ps:AF}{sp:Sp}(G:Cal P w K mg base j x ps sp)(h:j<=k:=by decide):Cal P w K mg base k x ps sp:=G.mono h
theorem D5.up{P:Program}{w:World}{K:AA}{mg:Str->AH}{base:Heap}{j k:Nat}{C:Addr}{x:Str}{ps:AF}{sp:Sp}(G:D5 P w K mg base j C x ps sp)(h:j<=k:=by decide):D5 P w K mg base k C x ps sp:=G.mono h
theorem Mkr.up{P:Program}{w:World}{K:AA}{mg:Str->AH}{base:Heap}{j k:Nat}{C:Addr}{x:Str}{ps:AF}{sp:Sp}(G:Mkr P w K mg base j C x ps sp)(h:j<=k:=by decide):Mkr P w K mg base k C x ps sp:=G.mono h
section
variable{X:Cx}{mg:Str->AH}
end
end L2
namespace HT
open PySem PySem.Spec PyProof.Rows L2
section
variable{prog:Program}{w:World}{A:Around}{E:AB}{s:Shared}
theorem Zz{J t:Addr}{k:Nat}{ts:AI}{v:Value}{Q:AB}(hJ:s.heap.IsTupleIter J t k)(hT:s.heap.IsTuple t ts)(hv:ts[k]? = some v)
  (q:∀g,g.IsTupleIter J t (k+1)->Heap.SameBut J s.heap g->Q v { s with heap:=g }):wpAny (model prog w) A (Builtin.SmallTypes.nextOf (.ref J)) Q E s:=by
 obtain⟨oj,gj,cj,dj⟩:=id hJ
 obtain⟨ot,gt,_,nt,dt⟩:=hT
 unfold Builtin.SmallTypes.nextOf
 refine Pl (OE (name:=Str.ofString "__next__") hJ.typeIs g8 (OD g8 hJ.typeIs F.entry_tuple_iterator_next ?_ (F.args_tuple_iterator_next_1 _)))
 show wpAny _ _ (field (.ref J) 0 >>= _) _ _ s
 refine Pl (OC gj dj (x:=.ref t) rfl ?_)
 show wpAny _ _ (if (Value.ref t == .none)=true then _ else _) _ _ s
 rw[Pn (show ¬(Value.ref t == .none)=true from bP)]
 show wpAny _ _ (field (.ref J) 1 >>= _) _ _ s
 refine Pl (OC gj dj (x:=.int k 0) rfl ?_)
 show wpAny _ _ (seqItems? (.ref t) >>= _) _ _ s
 refine Pl (Pz gt dt ?_)
 simp only[fG,hv]
 refine Pl (Oo gj dj (by simp) (Pm ⟨v,rfl,Pm (q _ ⟨_,dO _ gj (Obj.isFreed_of_fields (Obj.data_mapFields dj _)),(Obj.cls_mapFields ..).trans cj,?_⟩ (fK ..))⟩))
 rw[Obj.data_mapFields dj]
 simp[rawInt]
theorem Wn{J t:Addr}{k:Nat}{ts:AI}{Q:AB}(nh:A.handled=none)(hJ:s.heap.IsTupleIter J t k)(hT:s.heap.IsTuple t ts)(hv:ts[k]? = none)
  (q:∀g e,Heap.ExtBut J s.heap g->(∃o,g.get? e=some o/\o.cls=.type "StopIteration")->E (.ref e) { s with heap:=g }):wpAny (model prog w) A (Builtin.SmallTypes.nextOf (.ref J)) Q E s:=by
 obtain⟨oj,gj,cj,dj⟩:=id hJ
 obtain⟨ot,gt,_,nt,dt⟩:=hT
 unfold Builtin.SmallTypes.nextOf
 refine Pl (OE (name:=Str.ofString "__next__") hJ.typeIs g8 (OD g8 hJ.typeIs F.entry_tuple_iterator_next ?_ (F.args_tuple_iterator_next_1 _)))
 show wpAny _ _ (field (.ref J) 0 >>= _) _ _ s
 refine Pl (OC gj dj (x:=.ref t) rfl ?_)
 show wpAny _ _ (if (Value.ref t == .none)=true then _ else _) _ _ s
 rw[Pn (show ¬(Value.ref t == .none)=true from bP)]
 show wpAny _ _ (field (.ref J) 1 >>= _) _ _ s
 refine Pl (OC gj dj (x:=.int k 0) rfl ?_)
 show wpAny _ _ (seqItems? (.ref t) >>= _) _ _ s
 refine Pl (Pz gt dt ?_)
 simp only[fG,hv]
 refine Pl (Od (Pl (Oo gj dj (by simp) ?_)))
 show wpAny _ _ (newExc (.type "StopIteration") [] >>= _) _ _ _
 refine Pl ?_
 simp only[newExc,newTuple]
 refine Pl (OA ?_ (by size_fits))
 refine Pl (m:=firstArgMember _ _) (OQ (a:=Value.none) (by first|rfl|(simp only[firstArgMember];rfl)) ?_)
 refine OA ?_ (by size_fits)
 simp only[raiseNew]
 refine Pl (wpAny_handled ?_)
 first|rw[show A.in1.handled=none from nh]|rw[nh]
 exact Pl (Pm (wpAny_throw (q _ _ (((fK ..).extBut.push _).push _) ⟨_,bJ _ rfl,rfl⟩)))
structure ZA(z I O j1 j2 t1 t2:Addr):Prop where
 Iz:I≠z
 Oz:O≠z
 j1z:j1≠z
 j2z:j2≠z
 IO:I≠O
 Ij1:I≠j1
 Ij2:I≠j2
 Oj1:O≠j1
 Oj2:O≠j2
 jj:j1≠j2
 t1z:t1≠z
 t1O:t1≠O
 t1j1:t1≠j1
 t1j2:t1≠j2
 t2z:t2≠z
 t2O:t2≠O
 t2j1:t2≠j1
 t2j2:t2≠j2
abbrev U3(h:Heap)(a t:Addr)(i:Nat):Prop:=h.IsTupleIter a t i
theorem U3.at{h g:Heap}{a t:Addr}{i:Nat}(x:h.IsTupleIter a t i)(k:∀o,h.get? a=some o->g.get? a=some o):g.IsTupleIter a t i:=by
 obtain⟨o,e,r⟩:=x
 exact⟨o,k o e,r⟩
theorem VO{z I O j1 j2 t1 t2:Addr}{k:Nat}{xs ys:AI}{x y a b:Value}{Q:AB}(D:ZA z I O j1 j2 t1 t2)
  (gz:IsZip s.heap z I O .none) (gI:IsPair s.heap I (.ref j1) (.ref j2)) (gO:IsPair s.heap O a b) (g1:s.heap.IsTupleIter j1 t1 k) (g2:s.heap.IsTupleIter j2 t2 k) (u1:s.heap.IsTuple t1 xs) (u2:s.heap.IsTuple t2 ys) (hx:xs[k]? = some x) (hy:ys[k]? = some y)
  (q:∀g,IsZip g z I O (rawInt s.heap.objs.size)->IsPair g O x y->g.IsTupleIter j1 t1 (k+1)->g.IsTupleIter j2 t2 (k+1)->IsPair g s.heap.objs.size x y->g.objs.size=s.heap.objs.size+1->
   (∀c o,c≠z->c≠O->c≠j1->c≠j2->s.heap.get? c=some o->g.get? c=some o)->Q (.ref s.heap.objs.size) { s with heap:=g }) :
  wpAny (model prog w) A (Builtin.«zip.__next__» ⟨[.ref z],[]⟩) (fun fin s'=>∃v,fin=.done (.ret v)/\Q v s') E s:=by
 show wpAny _ _ (field (.ref z) 2 >>= _) _ _ _
 refine Pl (OC gz rfl (x:=.bool false) rfl ?_)
 show wpAny _ _ (field (.ref z) 3 >>= _) _ _ _
 refine Pl (OC gz rfl (x:=.ref I) rfl ?_)
 refine Pl (Pz gI rfl ?_)
 show wpAny _ _ (Builtin.SmallTypes.ownedTupleIsFree (.ref z) >>= _) _ _ _
 refine Pl ?_
 unfold Builtin.SmallTypes.ownedTupleIsFree
 refine Pl (OC gz rfl (x:=.none) rfl (Pm ?_))
 simp only[if_true]
 refine Pl (Od ?_)
 refine Pl (OC gz rfl (x:=.ref O) rfl ?_)
 refine Pl (Og gz (by simp) fun A1 a1 b1=>?_)
 replace a1:IsZip A1 z I O .ellipsis:=a1
 refine Pl ?_
 simp only[List.zipIdx_cons,List.zipIdx_nil,kR,List.forIn_nil]
 refine Pl (Pl (wpAny_onRaise ?_))
 show wpAny _ _ (Builtin.SmallTypes.nextOf (.ref j1) >>= _) _ _ _
 refine Pl (Zz (g1.extBut b1.extBut D.j1z) (u1.extBut b1.extBut D.t1z) hx fun A2 a2 b2=>Pm ?_)
 have o2:IsPair A2 O a b:=b2.extBut _ _ D.Oj1 (b1.extBut _ _ D.Oz gO)
 refine Pl (Pz o2 rfl ?_)
 refine Pl (wpAny_updateSeq_pair o2 fun A3 o3 b3=>?_)
 replace o3:IsPair A3 O x b:=o3
 refine Pl (OW (Pm ?_))
 refine Pl (Pl (wpAny_onRaise ?_))
 show wpAny _ _ (Builtin.SmallTypes.nextOf (.ref j2) >>= _) _ _ _
 refine Pl (Zz (((g2.extBut b1.extBut D.j2z).extBut b2.extBut D.jj.symm).extBut b3.extBut D.Oj2.symm) (((u2.extBut b1.extBut D.t2z).extBut b2.extBut D.t2j1).extBut b3.extBut D.t2O) hy fun A4 a4 b4=>Pm ?_)
 have o4:IsPair A4 O x b:=b4.extBut _ _ D.Oj2 o3
 refine Pl (Pz o4 rfl ?_)
 refine Pl (wpAny_updateSeq_pair o4 fun A5 o5 b5=>?_)
 replace o5:IsPair A5 O x y:=o5
 refine Pl (OW (Pm (Pm ?_)))
 refine Pl (Pz o5 rfl ?_)
 refine Pl (wpAny_newTuple ?_)
 have hsz:A5.objs.size=s.heap.objs.size:=by rw[b5.1,b4.1,b3.1,b2.1,b1.1]
 have z5:IsZip A5 z I O .ellipsis:=b5.extBut _ _ D.Oz.symm (b4.extBut _ _ D.j2z.symm (b3.extBut _ _ D.Oz.symm (b2.extBut _ _ D.j1z.symm a1)))
 have k5:∀c o,c≠z->c≠O->c≠j1->c≠j2->s.heap.get? c=some o->A5.get? c=some o:=fun c o c1 c2 c3 c4 e=>b5.extBut _ _ c2 (b4.extBut _ _ c4 (b3.extBut _ _ c2 (b2.extBut _ _ c3 (b1.extBut _ _ c1 e))))
 have e1:A5.IsTupleIter j1 t1 (k+1):=((a2.extBut b3.extBut D.Oj1.symm).extBut b4.extBut D.jj).extBut b5.extBut D.Oj1.symm
 have e2:A5.IsTupleIter j2 t2 (k+1):=a4.extBut b5.extBut D.Oj2.symm
 have lz:z<A5.objs.size:=bQ z5
 show wpAny _ _ (Builtin.SmallTypes.ownedTupleHandOut (.ref z) (.ref A5.objs.size) >>= _) _ _ _
 refine Pl ?_
 unfold Builtin.SmallTypes.ownedTupleHandOut
 have z6:IsZip (A5.push { cls:=.type "tuple",data:=.seq #[x,y] }) z I O .ellipsis:=bB _ z5
 refine Pl (Og z6 (by simp) fun A7 z7 b7=>?_)
 replace z7:IsZip A7 z I O (rawInt A5.objs.size):=z7
 refine Og z7 (by simp) fun A8 z8 b8=>?_
 replace z8:IsZip A8 z I O (rawInt A5.objs.size):=z8
 have up:∀c o,c≠z->A5.get? c=some o->A8.get? c=some o:=fun c o c1 e=>b8.extBut _ _ c1 (b7.extBut _ _ c1 (bB _ e))
 have r8:IsPair A8 A5.objs.size x y:=b8.extBut _ _ (fL lz) (b7.extBut _ _ (fL lz) (bJ _ rfl))
 have s8:A8.objs.size=A5.objs.size+1:=by rw[b8.1,b7.1,eI]
 rw[hsz] at z8 r8 s8
 refine Pm ⟨_,rfl,?_⟩
 show Q (.ref A5.objs.size) _
 rw[hsz]
 exact q A8 z8 (up _ _ D.Oz o5) (U3.at e1 fun o e=>up _ o D.j1z e) (U3.at e2 fun o e=>up _ o D.j2z e) r8 s8 fun c o c1 c2 c3 c4 e=>up c o c1 (k5 c o c1 c2 c3 c4 e)
theorem Ws{z I O j1 j2 t1 t2:Addr}{k:Nat}{xs:AI}{Q:Fin->Shared->Prop}(nh:A.handled=none)(D:ZA z I O j1 j2 t1 t2)
  (gz:IsZip s.heap z I O .none) (gI:IsPair s.heap I (.ref j1) (.ref j2)) (g1:s.heap.IsTupleIter j1 t1 k) (u1:s.heap.IsTuple t1 xs) (hx:xs[k]? = none)
  (q:∀g e,(∀c o,c≠z->c≠j1->s.heap.get? c=some o->g.get? c=some o)->(∃o,g.get? e=some o/\o.cls=.type "StopIteration")->E (.ref e) { s with heap:=g }) :
  wpAny (model prog w) A (Builtin.«zip.__next__» ⟨[.ref z],[]⟩) Q E s:=by
 show wpAny _ _ (field (.ref z) 2 >>= _) _ _ _
 refine Pl (OC gz rfl (x:=.bool false) rfl ?_)
 show wpAny _ _ (field (.ref z) 3 >>= _) _ _ _
 refine Pl (OC gz rfl (x:=.ref I) rfl ?_)
 refine Pl (Pz gI rfl ?_)
 show wpAny _ _ (Builtin.SmallTypes.ownedTupleIsFree (.ref z) >>= _) _ _ _
 refine Pl ?_
 unfold Builtin.SmallTypes.ownedTupleIsFree
 refine Pl (OC gz rfl (x:=.none) rfl (Pm ?_))
 simp only[if_true]
 refine Pl (Od ?_)
 refine Pl (OC gz rfl (x:=.ref O) rfl ?_)
 refine Pl (Og gz (by simp) fun A1 a1 b1=>?_)
 replace a1:IsZip A1 z I O .ellipsis:=a1
 refine Pl ?_
 simp only[List.zipIdx_cons,List.zipIdx_nil,kR,List.forIn_nil]
 refine Pl (Pl (wpAny_onRaise ?_))
 show wpAny _ _ (Builtin.SmallTypes.nextOf (.ref j1) >>= _) _ _ _
 refine Pl (Wn nh (g1.extBut b1.extBut D.j1z) (u1.extBut b1.extBut D.t1z) hx fun A2 e b2 he=>?_)
 obtain⟨oe,ge,ce⟩:=he
 have z2:IsZip A2 z I O .ellipsis:=b2 _ _ D.j1z.symm a1
 have ne:e≠z:=fun x=>by subst x;rw[z2] at ge;cases ge;simp at ce
 exact Og z2 (by simp) fun A3 _ b3=>q A3 e (fun c o c1 c3 x=>b3.extBut _ _ c1 (b2 _ _ c3 (b1.extBut _ _ c1 x))) ⟨oe,b3.extBut _ _ ne ge,ce⟩
theorem VV{z I O j1 j2 t1 t2:Addr}{k:Nat}{xs ys:AI}{x y a b:Value}{Q:AH->Shared->Prop}(D:ZA z I O j1 j2 t1 t2)
  (gz:IsZip s.heap z I O .none) (gI:IsPair s.heap I (.ref j1) (.ref j2)) (gO:IsPair s.heap O a b) (g1:s.heap.IsTupleIter j1 t1 k) (g2:s.heap.IsTupleIter j2 t2 k) (u1:s.heap.IsTuple t1 xs) (u2:s.heap.IsTuple t2 ys) (hx:xs[k]? = some x) (hy:ys[k]? = some y)
  (q:∀g,IsZip g z I O (rawInt s.heap.objs.size)->IsPair g O x y->g.IsTupleIter j1 t1 (k+1)->g.IsTupleIter j2 t2 (k+1)->IsPair g s.heap.objs.size x y->g.objs.size=s.heap.objs.size+1->
   (∀c o,c≠z->c≠O->c≠j1->c≠j2->s.heap.get? c=some o->g.get? c=some o)->Q (some (.ref s.heap.objs.size)) { s with heap:=g }):wpAny (model prog w) A (pyNext (.ref z)) Q E s:=by
 have ty:s.TypeIs (.ref z) "zip":=⟨_,gz,rfl⟩
 unfold pyNext
 exact Pl (Ou (OE (name:=Str.ofString "__next__") ty kU (OD kU ty F.entry_zip_next
  (VO D gz gI gO g1 g2 u1 u2 hx hy fun g p1 p2 p3 p4 p5 p6 p7=>Pm (q g p1 p2 p3 p4 p5 p6 p7)) (F.args_zip_next_1 _))))
theorem WZ{z I O j1 j2 t1 t2:Addr}{k:Nat}{xs:AI}{Q:AH->Shared->Prop}(nh:A.handled=none)(D:ZA z I O j1 j2 t1 t2)
  (gz:IsZip s.heap z I O .none) (gI:IsPair s.heap I (.ref j1) (.ref j2)) (g1:s.heap.IsTupleIter j1 t1 k) (u1:s.heap.IsTuple t1 xs) (hx:xs[k]? = none)
  (q:∀g,(∀c o,c≠z->c≠j1->s.heap.get? c=some o->g.get? c=some o)->Q none { s with heap:=g }):wpAny (model prog w) A (pyNext (.ref z)) Q E s:=by
 have ty:s.TypeIs (.ref z) "zip":=⟨_,gz,rfl⟩
 unfold pyNext
 refine Pl (Ou (OE (name:=Str.ofString "__next__") ty kU (OD kU ty F.entry_zip_next (Ws nh D gz gI g1 u1 hx fun g e hk he=>?_) (F.args_zip_next_1 _))))
 obtain⟨o,go,co⟩:=he
 exact Pl (OZ (T:="StopIteration") (b:=true) ⟨o,go,co⟩ isSubtype_stop (Pm (q _ hk)))
abbrev zq1(h:Heap)(t1:Addr):Heap:=h.push { cls:=.type "tuple_iterator",data:=.fields #[.ref t1,.int 0 0] }
abbrev zq2(h:Heap)(t1 t2:Addr):Heap:=(zq1 h t1).push { cls:=.type "tuple_iterator",data:=.fields #[.ref t2,.int 0 0] }
abbrev zq3(h:Heap)(t1 t2:Addr):Heap:=(zq2 h t1 t2).push { cls:=.type "tuple",data:=.seq #[.ref h.objs.size,.ref (zq1 h t1).objs.size] }
abbrev zq4(h:Heap)(t1 t2:Addr):Heap:=(zq3 h t1 t2).push { cls:=.type "tuple",data:=.seq #[.none,.none] }
abbrev zq5(h:Heap)(t1 t2:Addr):Heap:=(zq4 h t1 t2).push { cls:=.type "zip",data:=.fields #[.none,.bool false,.bool false,.ref (zq2 h t1 t2).objs.size,.ref (zq3 h t1 t2).objs.size] }
theorem Qa(t1 t2:Addr)(xs ys:AI):Meets (Builtin.«zip.__new__» ⟨[.type "zip",.ref t1,.ref t2],[]⟩) (fun _ R s=>s.heap.IsTuple t1 xs/\s.heap.IsTuple t2 ys/\R (.ok (.ret (.ref (zq4 s.heap t1 t2).objs.size))) { s with heap:=zq5 s.heap t1 t2 }):=
 .of_wp fun prog w A R s h=>by
  obtain⟨hp,g,d,tk,os⟩:=s
  obtain⟨u1,u2,h⟩:=h
  have X5:=sub_zip
  have v1:Heap.IsTuple (Shared.heap ⟨hp,g,d,tk,os⟩) t1 xs:=u1
  have v2:Heap.IsTuple (Shared.heap ⟨hp.push { cls:=.type "tuple_iterator",data:=.fields #[.ref t1,.int 0 0] },g,d,tk,os⟩) t2 ys:=Heap.IsTuple.push u2 _
  wp_walk using OL v1,OL v2
  exact⟨_,rfl,h⟩
theorem Sv{t1 t2:Addr}{xs ys:AI}{Q:AB}(u1:s.heap.IsTuple t1 xs)(u2:s.heap.IsTuple t2 ys)
  (h:∀g,IsZip g (s.heap.objs.size+4) (s.heap.objs.size+2) (s.heap.objs.size+3) .none->IsPair g (s.heap.objs.size+2) (.ref s.heap.objs.size) (.ref (s.heap.objs.size+1))->IsPair g (s.heap.objs.size+3) .none .none->g.IsTupleIter s.heap.objs.size t1 0->
   g.IsTupleIter (s.heap.objs.size+1) t2 0->(∀c o,s.heap.get? c=some o->g.get? c=some o)->Q (.ref (s.heap.objs.size+4)) { s with heap:=g }):wpAny (model prog w) A (call (.type "zip") [.ref t1,.ref t2]) Q E s:=by
 refine callType_new F.called_zip (by decide) (F.typeCall_zip_2 _ _) (F.newCall_zip_2 _ _) (fun obj=>F.args_object_init_3 obj _ _) F.entry_zip_new (Qa t1 t2 xs ys) ⟨u1,u2,?_⟩
 have n1:(zq1 s.heap t1).objs.size=s.heap.objs.size+1:=eI ..
 have n2:(zq2 s.heap t1 t2).objs.size=s.heap.objs.size+2:=by rw[eI,n1]
 have n3:(zq3 s.heap t1 t2).objs.size=s.heap.objs.size+3:=by rw[eI,n2]
 have n4:(zq4 s.heap t1 t2).objs.size=s.heap.objs.size+4:=by rw[eI,n3]
 have k5:(zq5 s.heap t1 t2).get? (zq4 s.heap t1 t2).objs.size=some _:=bJ _ rfl
 have k4:(zq5 s.heap t1 t2).get? (zq3 s.heap t1 t2).objs.size=some _:=bB _ (bJ _ rfl)
 have k3:(zq5 s.heap t1 t2).get? (zq2 s.heap t1 t2).objs.size=some _:=bB _ (bB _ (bJ _ rfl))
 have k2:(zq5 s.heap t1 t2).get? (zq1 s.heap t1).objs.size=some _:=bB _ (bB _ (bB _ (bJ _ rfl)))
 have k1:(zq5 s.heap t1 t2).get? s.heap.objs.size=some _:=bB _ (bB _ (bB _ (bB _ (bJ _ rfl))))
 show _/\_
 rw[n2,n3,n4] at k5
 rw[n1,n2] at k3
 rw[n3] at k4
 rw[n1] at k2
 rw[n4]
 exact⟨⟨_,k5,rfl⟩,h _ k5 k3 k4 ⟨_,k1,rfl,rfl⟩ ⟨_,k2,rfl,rfl⟩ fun c o x=>bB _ (bB _ (bB _ (bB _ (bB _ x))))⟩
theorem Wu{n t1 t2:Nat}(h1:t1<n)(h2:t2<n):ZA (n+4) (n+2) (n+3) n (n+1) t1 t2:=
 have l {a b:Nat} (h:a<b):a≠b:=c8 h
 have g {a b:Nat} (h:b<a):a≠b:=fL h
 ⟨l (by lia),l (by lia),l (by lia),l (by lia),l (by lia),g (by lia),g (by lia),g (by lia),g (by lia),l (by lia),l (by lia),l (by lia),l (by lia),l (by lia),l (by lia),l (by lia),l (by lia),l (by lia)⟩
end
end HT
namespace L2
open PySem PySem.Spec PyProof.Rows
theorem Inv.w0T{X:Cx}{z4:List AE}{σ:St}{H:Hp}{s:Shared}{h':Heap}{fp:List Addr}{T:Addr}{o:HO}{t':Nat}(I:Inv X z4 σ H s)(hf:∀b∈fp,N7 X z4 H b)
  (k:∀b u,b∉fp->s.heap.get? b=some u->h'.get? b=some u) (hp:s.heap.objs.size<=T) (new:zv X.prog X.w (upd H T o) h' T o):Inv X z4 σ (upd H T o) { s with heap:=h',toks:=t' }:=by
 have hn:=I.hok.fresh hp
 refine I.step (g':=s.gens) (d':=s.drawn) (ch:=fp) (fun b hb=>⟨(hf b hb).2.2.2.1,(hf b hb).2.1,(hf b hb).2.2.2.2.1,(hf b hb).2.2.2.2.2⟩) (fun b o _ _ hc e _=>k b o hc e) (fun b o _ _ hc e _=>⟨o.slots,k b o hc e⟩)
  (fun b o _ e n=>by rw[zS (c8 (cR (bQ e) hp))];exact n) (fun b o hc e=>⟨o,k b o hc e⟩) (fun b xs e=>by rw[zS (yC e hn)];exact e) (fun b o u e=>by rw[zS (yC e hn)];exact e)
  (fun b ps e=>⟨#[],by rw[zS (yC e hn),e];simp⟩) (fun m hm=>?_) (fun b u e=>?_) I.bare
 ·obtain⟨o,es,ep,ho,r⟩:=hm
  exact⟨o,es,ep,k _ o (fun m=>(hf _ m).2.1 rfl) ho,r⟩
 ·by_cases hb:b=T
  ·subst hb
   rw[zM] at e
   cases e
   exact new
  ·rw[zS hb] at e
   refine(I.hok b u e).Q6 (fun c v hc q=>k c v (fun m=>?_) q) (fun c q=>by rw[zS (yC q hn)];exact q) fun c xs q=>by rw[zS (yC q hn)];exact q
   have z:=(hf c m).1
   rcases hc with e2|e2
   ·rw[e2,e] at z
    cases z
   ·rw[e2] at z
    cases z
theorem Inv.w0n{X:Cx}{z4:List AE}{σ:St}{H:Hp}{s:Shared}{h':Heap}{fp:List Addr}{t':Nat}(I:Inv X z4 σ H s)(hf:∀b∈fp,N7 X z4 H b)
  (k:∀b u,b∉fp->s.heap.get? b=some u->h'.get? b=some u):Inv X z4 σ H { s with heap:=h',toks:=t' }:=by
 refine I.step (g':=s.gens) (d':=s.drawn) (ch:=fp) (fun b hb=>⟨(hf b hb).2.2.2.1,(hf b hb).2.1,(hf b hb).2.2.2.2.1,(hf b hb).2.2.2.2.2⟩) (fun b o _ _ hc e _=>k b o hc e) (fun b o _ _ hc e _=>⟨o.slots,k b o hc e⟩)
  (fun _ _ _ _ n=>n) (fun b o hc e=>⟨o,k b o hc e⟩) (fun _ _ e=>e) (fun _ _ _ e=>e) (fun b ps e=>⟨#[],by rw[e];simp⟩) (fun m hm=>?_) (fun b u e=>?_) I.bare
 ·obtain⟨o,es,ep,ho,r⟩:=hm
  exact⟨o,es,ep,k _ o (fun m=>(hf _ m).2.1 rfl) ho,r⟩
 ·refine(I.hok b u e).Q6 (fun c v hc q=>k c v (fun m=>?_) q) (fun _ q=>q) fun _ _ q=>q
  have z:=(hf c m).1
  rcases hc with e2|e2
  ·rw[e2,e] at z
   cases z
  ·rw[e2] at z
   cases z
noncomputable def Itz(K:AA)(a b:Addr)(n:Nat):It:=
 ⟨fun i H=>i<n/\∃xs ys,SqT K H a xs/\SqT K H b ys/\xs.length=n/\ys.length=n,
  fun i H v H'=>∃T,v=.ref T/\H T=none/\∀xs ys,SqT K H a xs->SqT K H b ys->∃x y,xs[i]? = some x/\ys[i]? = some y/\H'=upd H T (.tup [x,y]),
  fun i H=>n<=i/\∃xs,SqT K H a xs/\xs.length=n⟩
noncomputable def ZSt(z J O j1 j2 a b:Addr)(i:Nat)(h:Heap):Prop:=IsZip h z J O .none/\IsPair h J (.ref j1) (.ref j2)/\(∃u v,IsPair h O u v)/\h.IsTupleIter j1 a i/\h.IsTupleIter j2 b i
theorem UK{P:Program}{w:World}{K:AA}{es:List Expr}{ec:Nat}{tp:Pos}{z J O j1 j2 a b:Addr}(D:HT.ZA z J O j1 j2 a b)(n:Nat):Turn P w K (.Tuple es ec tp) (Itz K a b n) [z,J,O,j1,j2] z (ZSt z J O j1 j2 a b) where
 mem:=by simp
 obj:=fun i h st c hc=>by
  obtain⟨g1,g2,⟨u,v,g3⟩,⟨o4,g4,_,d4⟩,⟨o5,g5,_,d5⟩⟩:=st
  simp only[bI,dG,OY] at hc
  rcases hc with rfl|rfl|rfl|rfl|rfl
  ·exact⟨_,g1,fun v e=>by cases e⟩
  ·exact⟨_,g2,fun v e=>by cases e⟩
  ·exact⟨_,g3,fun v e=>by cases e⟩
  ·exact⟨_,g4,fun v e=>by rw[d4] at e;cases e⟩
  ·exact⟨_,g5,fun v e=>by rw[d5] at e;cases e⟩
 keep:=fun i h h' st k=>by
  obtain⟨g1,g2,⟨u,v,g3⟩,g4,g5⟩:=st
  exact⟨k _ (by simp) _ g1,k _ (by simp) _ g2,⟨u,v,k _ (by simp) _ g3⟩,HT.U3.at g4 fun o e=>k _ (by simp) o e,HT.U3.at g5 fun o e=>k _ (by simp) o e⟩
 item:=by
  intro X hP hw hK hc i z4 s σ H E I hf st hg
  subst hP hw hK
  obtain⟨hi,xs,ys,ha,hb,lx,ly⟩:=hg
  obtain⟨zC,rv,pa,hz⟩:=I.tuple ha
  obtain⟨K3,rv2,pb,hz2⟩:=I.tuple hb
  have ex:xs[i]? = some xs[i]:=bC (by lia)
  have ey:ys[i]? = some ys[i]:=bC (by lia)
  obtain⟨u,hu,ru⟩:=rv.get ex
  obtain⟨u2,hu2,ru2⟩:=rv2.get ey
  obtain⟨g1,g2,⟨p,q,g3⟩,g4,g5⟩:=st
  refine HT.VV D g1 g2 g3 g4 g5 (show s.heap.IsTuple a zC.toArray from pa) (show s.heap.IsTuple b K3.toArray from pb) (x:=u) (y:=u2) (by simpa using hu) (by simpa using hu2) fun g p1 p2 p3 p4 p5 p6 p7=>⟨_,rfl,wpAny_letOwnedTupleGo_zip p1 fun g' z' sb=>?_⟩
  have nT:∀c∈[z,J,O,j1,j2],s.heap.objs.size≠c:=fun c hc=>by
   obtain⟨o,e⟩:∃o,s.heap.get? c=some o:=by
    simp only[bI,dG,OY] at hc
    rcases hc with rfl|rfl|rfl|rfl|rfl
    ·exact⟨_,g1⟩
    ·exact⟨_,g2⟩
    ·exact⟨_,g3⟩
    ·obtain⟨o,e,_⟩:=g4;exact⟨o,e⟩
    ·obtain⟨o,e,_⟩:=g5;exact⟨o,e⟩
   exact fL (bQ e)
  have gT:g'.get? s.heap.objs.size=some { cls:=.type "tuple",data:=.seq #[u,u2] }:=sb.extBut _ _ (nT z (by simp)) p5
  have kp:∀c o,c∉[z,J,O,j1,j2]->s.heap.get? c=some o->g'.get? c=some o:=fun c o hc e=>by
   simp only[bI,dG,OY,NA] at hc
   exact sb.extBut _ _ hc.1 (p7 c o hc.1 hc.2.2.1 hc.2.2.2.1 hc.2.2.2.2 e)
  have I1:Inv X z4 σ (upd H s.heap.objs.size (.tup [xs[i],ys[i]])) { s with heap:=g' }:=Inv.w0T (t':=s.toks) I hf kp (bG _) ⟨by show 2<=sizeLine;decide,[u,u2],.cons ru (.cons ru2 .nil),⟨_,gT,rfl,⟨_,rfl⟩,rfl⟩⟩
  refine⟨.ref s.heap.objs.size,_,I1,rfl,⟨_,rfl,I.hok.fresh (bG _),fun xs' ys' hx' hy'=>?_⟩,?_,fun c hc=>?_⟩
  ·rw[I.M4 hx' ha,I.M4 hy' hb]
   exact⟨_,_,ex,ey,rfl⟩
  ·exact⟨z',sb.extBut _ _ D.Iz (p7 _ _ D.Iz D.IO D.Ij1 D.Ij2 g2),⟨_,_,sb.extBut _ _ D.Oz p2⟩,p3.extBut sb.extBut D.j1z,p4.extBut sb.extBut D.j2z⟩
  ·rw[zS (eQ (nT c hc))]
   exact(hf c hc).1
 done:=by
  intro X hP hw hK hc i z4 s σ H E I hf st hg
  subst hP hw hK
  obtain⟨hi,xs,ha,lx⟩:=hg
  obtain⟨zC,rv,pa,hz⟩:=I.tuple ha
  have hl:=rv.length
  obtain⟨g1,g2,_,g4,_⟩:=st
  refine HT.WZ (I.ok.hd hc) D g1 g2 g4 (show s.heap.IsTuple a zC.toArray from pa) (by simp;lia) fun g hk=>⟨rfl,Inv.w0n (t':=s.toks) I hf fun c o hc e=>?_⟩
  simp only[bI,dG,OY,NA] at hc
  exact hk c o hc.1 hc.2.2.2.1 e
 self:=fun _ _ _ _ _ st h=>wpAny_pyIter_zip st.1 h
section
variable{X:Cx}{es:List Expr}{ec:Nat}{tp:Pos}
noncomputable def iZip(K:AA)(ta:TA):TI:=fun σ H R=>ta σ H fun vs H1=>∃a b xs ys,vs=[.ref a,.ref b]/\SqT K H1 a xs/\SqT K H1 b ys/\xs.length=ys.length/\R (Itz K a b xs.length) H1
theorem VC{e e2:Expr}{ta:TA}{p pos:Pos}(hg:Gl X "zip")(hm:X.mg "zip"=none)(ha:PA X [e,e2] ta)(hs:starEach [e,e2] X.env=(false,eval e X.env)::starEach [e2] X.env:=by rfl)(hs2:(backTo pos (starEach [e2] X.env)).any (·.1)=false:=by rfl):PI X (.Tuple es ec tp) (.Call (.Name "zip" p) [e,e2] [] pos) (iZip X.K ta):=by
 intro z4 s σ H R I h
 refine Call_ (wF I hg hm boot_zip (dN (thn (ha pos z4 s σ H _ I h) fun us s1 ⟨vs,H1,I1,r1,q1⟩=>?_) hs hs2))
 obtain⟨a,b,xs,ys,e,hq,hq2,ll,q⟩:=q1
 subst e
 cases r1 with
 | cons r rr=>
  cases rr with
  | cons r' rr'=>
   cases rr'
   cases r
   cases r'
   obtain⟨zC,rv,pa,hz⟩:=I1.tuple hq
   obtain⟨K3,rv2,pb,hz2⟩:=I1.tuple hq2
   have la:a<s1.heap.objs.size:=by obtain⟨o,e,_⟩:=pa;exact bQ e
   have lb:b<s1.heap.objs.size:=by obtain⟨o,e,_⟩:=pb;exact bQ e
   refine HT.Sv (show s1.heap.IsTuple a zC.toArray from pa) (show s1.heap.IsTuple b K3.toArray from pb) fun g k1 k2 k3 k4 k5 k6=>?_
   refine wpAny_pyIter_zip k1 ?_
   refine⟨s1.heap.objs.size+4,_,_,_,H1,rfl,I1.kept (t':=s1.toks) k6,UK (HT.Wu la lb) xs.length,⟨k1,k2,⟨_,_,k3⟩,k4,k5⟩,fun c hc=>?_,q⟩
   have lc:s1.heap.objs.size<=c:=by
    simp only[bI,dG,OY] at hc
    rcases hc with rfl|rfl|rfl|rfl|rfl
    ·exact kH _ _
    ·exact kH _ _
    ·exact kH _ _
    ·exact bG _
    ·exact kH _ _
   exact I1.O6 lc (I1.hok.fresh lc)
theorem TY(hc:X.calm=true):yo X (.builtin "all") (fun xs H Q=>∃(p:Addr) (bs:List Bool),xs=[.ref p]/\SqL X.K H p (bs.map V.bl)/\Q (.bl (bs.all id)) H):=by
 intro z4 s σ H xs us Q I r h
 obtain⟨p,bs,rfl,hq,q⟩:=h
 obtain⟨u,rfl,rx⟩:=xK r
 cases rx
 obtain⟨zC,rv,pl,hz⟩:=I.list hq
 have hl:=rv.length
 rw[bA] at hl
 have lp:p<s.heap.objs.size:=by obtain⟨o,e,_⟩:=pl.isList;exact bQ e
 have vals:∀(i:Nat) (v:Value),zC.toArray[i]? = some v->v=.bool (bs.getD i true):=fun i v e=>by
  have e':zC[i]? = some v:=by simpa using e
  have hi:i<bs.length:=by have:=(bK.mp e').1;lia
  obtain⟨u,hu,ru⟩:=rv.get (show(bs.map V.bl)[i]? = some (V.bl bs[i]) by rw[bE,bC hi];rfl)
  rw[e'] at hu
  cases hu
  rw[bR,bC hi]
  cases ru
  rfl
 refine call_all_walk (ON pl.isList ?_)
 refine⟨s.heap.objs.size,_,_,_,_,_,fun i=>bs.getD i true,rfl,Walks.list (A:=X.A.in1) (show X.A.in1.handled=none from I.ok.hd hc) s.heap.objs.size p (c8 lp) zC.toArray,⟨⟨_,bJ _ rfl,rfl,rfl⟩,Heap.IsList.push pl.isList _⟩,fun i v s Q E e hQ=>?_,fun h' tk k=>?_⟩
 ·rw[vals i v e]
  exact OT hQ
 ·refine⟨.bl _,H,I.kept (t':=tk) (fun b o e=>k b o (fun m=>?_) (bB _ e)),rfl,?_⟩
  ·have:=bQ e
   rw[bD.mp m] at this
   exact ND this (eF _)
  ·have e:(List.range zC.toArray.size).all (fun i=>bs.getD i true)=bs.all id:=by
    rw[bN,<- hl,cX,gH,gH]
    constructor
    ·intro h b hb
     obtain⟨i,hi,e⟩:=kY hb
     have:=h i (cY.mpr hi)
     rw[bR,bC hi,e] at this
     exact this
    ·intro h i hi
     have hi':=cY.mp hi
     rw[bR,bC hi']
     exact h _ (fT hi')
   rw[e]
   exact q
end
theorem Ta{K:AA}{a b:Addr}{xs ys:AK}{g:TG}{tc:TT}{te:TE}{σ0:St}{H1:Hp}{F:AK->Hp->Prop}(ll:xs.length=ys.length)(Pv:Nat->AK->Hp->Prop)(h0:Pv 0 [] H1)
  (hl:∀i zs H,i<=xs.length->Pv i zs H->SqT K H a xs/\SqT K H b ys/\zs.length<sizeLine)
  (hs:∀i x y zs H T,xs[i]? = some x->ys[i]? = some y->H T=none->Pv i zs H->w6 g tc te σ0 (.ref T) (upd H T (.tup [x,y])) zs (Pv (i+1))) (hd:∀zs H,Pv xs.length zs H->F zs H):wY (Itz K a b xs.length) g tc te σ0 H1 F:=by
 refine⟨fun i m zs H=>m=xs.length-i/\i<=xs.length/\Pv i zs H,⟨xs.length,by simp,cQ _,h0⟩,?_⟩
 rintro i m zs H ⟨rfl,hi,p⟩
 obtain⟨q1,q2,z⟩:=hl i zs H hi p
 by_cases hlt:i<xs.length
 ·refine .inr ⟨⟨hlt,xs,ys,q1,q2,rfl,ll.symm⟩,z,Pv (i+1),fun zs' H' p'=>⟨xs.length-(i+1),by lia,rfl,hlt,p'⟩,fun x H' y=>?_⟩
  obtain⟨T,rfl,hT,y⟩:=y
  obtain⟨x1,y1,e1,e2,rfl⟩:=y xs ys q1 q2
  exact hs i x1 y1 zs H T e1 e2 hT p
 ·have e:i=xs.length:=by lia
  subst e
  exact .inl ⟨⟨bG _,xs,q1,rfl⟩,hd zs H p⟩
theorem Vl{X:Cx}{K:AA}{e:Expr}{ta:TE}{f:Str}{pos:Pos}(hK:X.K=K)(he:PE X e ta)(hb:attributeBase e f X.env (eval e X.env)=eval e X.env):PE X (.Attribute e f pos) (Y7 K ta f):=by
 subst hK
 exact zt he hb
theorem UC{X:Cx}{K:AA}{tg l:Expr}{tl:TE}(hK:X.K=K)(hl:PE X l tl):PI X tg l (iTup K tl):=by
 subst hK
 exact yt hl
section
variable{X:Cx}
end
end L2
namespace HT
open PySem PySem.Spec PyProof.Rows L2
section
variable{prog:Program}{w:World}{A:Around}{E:AB}{s:Shared}
end
end HT
namespace L2
open PySem PySem.Spec PyProof.Rows PySem.Builtin PySem.Builtin.Str
section
variable{X:Cx}
end
end L2
namespace L2
open PySem PySem.Spec PyProof.Rows PySem.Builtin PySem.Builtin.Str
section
variable{P:Program}{w:World}{fs:List Addr}{H H':Hp}{h h1 h2 B:Heap}
end
section
variable{X:Cx}{z4:List AE}{σ:St}{H H':Hp}{s:Shared}{h1 B:Heap}
end
section
variable{P:Program}{w:World}{K:AA}{mg:Str->AH}{base:Heap}{N:AF}{qual:Str}{scope:Scope}{f:Addr}{cd:Value}{A:Around}{outer:List Env}{s0:Shared}{H0:Hp}{E:XK}
end
section
variable{P:Program}{w:World}{K:AA}{mg:Str->AH}{base:Heap}{N:AF}{qual:Str}{scope:Scope}{f:Addr}{cd:Value}{A:Around}{outer:List Env}{s0:Shared}{H0:Hp}{E:XK}
end
section
variable{X:Cx}{e:Expr}{es:List Expr}{te:TE}{pos:Pos}
end
section
variable{X:Cx}{z4:List AE}{σ:St}{H H':Hp}{s:Shared}
end
section
variable{X:Cx}{k:Nat}{f C:Addr}{fd:FuncData}{ps:AF}{sp:Sp}{EX:St->XK}{x m:Str}{p pos apos:Pos}{e o:Expr}{es:List Expr}{ta:TE}{t:TA}
end
section
variable{P:Program}{w:World}{K:AA}{mg:Str->AH}{base:Heap}
end
end L2
namespace L2
open PySem PySem.Spec PyProof.Rows PySem.W PySem.Calls PySem.Builtin PySem.Builtin.ObjectAttr PySem.Builtin.Getset_descriptor
section
variable{prog:Program}{w:World}{A:Around}{E:AB}{s:Shared}{K:Frag}{a C:Addr}{o:Obj}
end
section
variable{X:Cx}
end
end L2
namespace L2
open PySem PySem.Spec PyProof.Rows
section
variable{X:Cx}
end
section
variable{P:Program}{w:World}{K:AA}{mg:Str->AH}{base:Heap}{N:AF}{qual:Str}{scope:Scope}{f:Addr}{cd:Value}{A:Around}{outer:List Env}{s0:Shared}{H0:Hp}{E:XK}
end
end L2
namespace Tab
open PySem PySem.SetTable
noncomputable def C5(x:Nat):Nat:=5*x+1
noncomputable def rep{α:Type}(f:α->α):Nat->α->α
 | 0,x=>x
 | n+1,x=>rep f n (f x)
theorem wO{α:Type}(f:α->α):∀(a b:Nat) (x:α),rep f (a+b) x=rep f b (rep f a x)
 | 0,b,x=>by rw[eZ];rfl
 | a+1,b,x=>by
  rw[show a+1+b=(a+b)+1 by lia]
  show rep f (a+b) (f x)=_
  rw[wO f a b]
  rfl
theorem Tq{α:Type}(f:α->α)(n:Nat)(x:α):rep f (n+1) x=f (rep f n x):=by
 rw[wO f n 1]
 rfl
theorem Ys:∀k:Nat,∃a b:Nat,∀x,rep C5 (2^k) x=(1+4*2^k*a)*x+2^k*(1+2*b)
 | 0=>⟨1,0,fun x=>by show C5 x=_;unfold C5;lia⟩
 | k+1=>by
  obtain⟨a,b,h⟩:=Ys k
  refine⟨a+2*2^k*(a*a),b+2^k*a*(1+2*b),fun x=>?_⟩
  rw[show 2^(k+1)=2^k+2^k by rw[gJ];lia,wO,h,h]
  generalize 2^k=y
  grind
theorem aF:∀(k x s:Nat),∃q,q<2^k/\rep C5 q x%2^k=s%2^k
 | 0,x,s=>⟨0,by decide,by rw[gK,Nat.mod_one,Nat.mod_one]⟩
 | k+1,x,s=>by
  obtain⟨q,hq,e⟩:=aF k x s
  obtain⟨a,b,h⟩:=Ys k
  have p:2^(k+1)=2*2^k:=by rw[gJ];lia
  have pos:0<2^k:=Nat.two_pow_pos k
  rw[p]
  have e2:rep C5 (q+2^k) x=rep C5 q x+2^k+2*2^k*(2*a*rep C5 q x+b):=by
   rw[wO,h]
   generalize rep C5 q x=y
   generalize 2^k=z
   grind
  generalize hy:rep C5 q x=y at e e2
  generalize 2^k=z at *
  have m1:y%(2*z)=s%(2*z)\/(y+z)%(2*z)=s%(2*z):=by
   have d1:=jP y z
   have d2:=jP s z
   rw[e] at d1
   have l:=gX s pos
   generalize s%z=r at d1 d2 l e
   generalize y / z=u at d1
   generalize s / z=v at d2
   have hu:u%2=v%2\/(u+1)%2=v%2:=by lia
   have f:∀w:Nat,(z*w+r)%(2*z)=z*(w%2)+r:=fun w=>by
    have hw:=jP w 2
    have:z*w+r=(z*(w%2)+r)+(2*z)*(w / 2):=by
     generalize w / 2=c at *
     generalize w%2=d at *
     subst hw
     grind
    rw[this,Nat.add_mul_mod_self_left]
    refine lK ?_
    have:w%2<2:=gX _ (by decide)
    rcases(show w%2=0\/w%2=1 by lia) with h0|h0<;>rw[h0]<;>lia
   rcases hu with hu|hu
   ·refine .inl ?_
    rw[<- d1,<- d2,f,f,hu]
   ·refine .inr ?_
    rw[<- d1,<- d2,show z*u+r+z=z*(u+1)+r by rw[Nat.mul_add];lia,f,f,hu]
  rcases m1 with m1|m1
  ·exact⟨q,by lia,by rw[hy];exact m1⟩
  ·exact⟨q+z,by lia,by rw[e2,Nat.add_mul_mod_self_left];exact m1⟩
theorem least{P:Nat->Prop}:∀n,P n->∃m,m<=n/\P m/\∀k,k<m->¬P k:=by
 intro n
 induction n using Nat.strongRecOn with
 | _ n ih=>
  intro h
  by_cases c:∃k,k<n/\P k
  ·obtain⟨k,hk,pk⟩:=c
   obtain⟨m,h1,h2,h3⟩:=ih k hk pk
   exact⟨m,by lia,h2,h3⟩
  ·exact⟨n,bG _,h,fun k hk pk=>c ⟨k,hk,pk⟩⟩
noncomputable def adv(m:Nat)(p:Probe):Probe:=
 if p.more > 0 then { p with j:=p.j+1,more:=p.more-1 } else
 { p with j:=(leap m p.i p.perturb).1,more:=runEnd m (leap m p.i p.perturb).1-(leap m p.i p.perturb).1,i:=(leap m p.i p.perturb).1,perturb:=(leap m p.i p.perturb).2 }
theorem VD(t:SetTable)(p:Probe):t.advance p=adv t.mask p:=rfl
noncomputable def atP(m i b:Nat):Probe:={ j:=i,more:=runEnd m i-i,i,perturb:=b,dummy:=none }
theorem XY(m:Nat)(p:Probe):(adv m p).dummy=p.dummy:=by
 unfold adv
 split<;>rfl
theorem Xb(m:Nat):∀(n:Nat) (p:Probe),(rep (adv m) n p).dummy=p.dummy
 | 0,p=>rfl
 | n+1,p=>by rw[show rep (adv m) (n+1) p=rep (adv m) n (adv m p) from rfl,Xb m n,XY]
theorem mh(m:Nat):∀(c:Nat) (p:Probe),c<=p.more->rep (adv m) c p={ p with j:=p.j+c,more:=p.more-c }
 | 0,p,_=>rfl
 | c+1,p,h=>by
  show rep (adv m) c (adv m p)=_
  have e:adv m p={ p with j:=p.j+1,more:=p.more-1 }:=by unfold adv;rw[Po (by lia)]
  rw[e,mh m c _ (by show c<=p.more-1;lia)]
  show({ p with j:=p.j+1+c,more:=p.more-1-c }:Probe)=_
  congr 1<;>lia
theorem aO{m i b k:Nat}(h:k<=runEnd m i-i):(rep (adv m) k (atP m i b)).j=i+k:=by
 rw[mh m k _ h]
 rfl
theorem tH(m i b:Nat):rep (adv m) (runEnd m i-i+1) (atP m i b)=atP m (leap m i b).1 (leap m i b).2:=by
 rw[Tq,mh m (runEnd m i-i) (atP m i b) (bG _)]
 unfold adv
 rw[Pn (by show ¬(runEnd m i-i)-(runEnd m i-i) > 0;lia)]
 rfl
theorem XH(m i:Nat):runEnd m i-i<=9:=by
 unfold runEnd
 split<;>lia
theorem uu{m i k:Nat}(hi:i<=m)(h:k<=runEnd m i-i):i+k<=m:=by
 unfold runEnd at h
 split at h<;>lia
noncomputable def xM(m:Nat):Nat->Nat->Nat->Nat×Nat
 | 0,i,b=>(i,b)
 | r+1,i,b=>xM m r (leap m i b).1 (leap m i b).2
theorem YS(m:Nat):∀(r i b:Nat),∃n,n<=10*r/\rep (adv m) n (atP m i b)=atP m (xM m r i b).1 (xM m r i b).2
 | 0,i,b=>⟨0,by lia,rfl⟩
 | r+1,i,b=>by
  obtain⟨n,h1,h2⟩:=YS m r (leap m i b).1 (leap m i b).2
  have:=XH m i
  exact⟨runEnd m i-i+1+n,by lia,by rw[wO,tH,h2];rfl⟩
theorem XT(m:Nat):∀(a c i b:Nat),xM m (a+c) i b=xM m c (xM m a i b).1 (xM m a i b).2
 | 0,c,i,b=>by rw[eZ];rfl
 | a+1,c,i,b=>by
  rw[show a+1+c=(a+c)+1 by lia]
  exact XT m a c _ _
theorem rT(m i b:Nat):(leap m i b).1<=m:=hW (gX _ (gE _))
theorem Yx(m:Nat):∀(r i b:Nat),i<=m->(xM m r i b).1<=m
 | 0,_,_,h=>h
 | r+1,i,b,_=>Yx m r _ _ (rT m i b)
theorem XF(m:Nat):∀(r i b:Nat),(xM m r i b).2=b / 32^r
 | 0,i,b=>by rw[gK,l6];rfl
 | r+1,i,b=>by
  show(xM m r _ _).2=_
  rw[XF m r]
  show b / 32 / 32^r=_
  rw[fU,gJ,j7]
theorem i6(m:Nat):∀(q i:Nat),i<=m->(xM m q i 0).1=rep C5 q i%(m+1)
 | 0,i,h=>(lK (Nat.lt_succ_of_le h)).symm
 | q+1,i,h=>by
  show(xM m q (leap m i 0).1 (leap m i 0).2).1=_
  have e2:(leap m i 0).2=0:=rfl
  rw[e2,i6 m q _ (rT m i 0)]
  show rep C5 q _%_=rep C5 q (C5 i)%_
  have e1:(leap m i 0).1=C5 i%(m+1):=by
   show(i*5+1+0 / 32)%(m+1)=_
   unfold C5
   rw[Nat.zero_div,j9,j7]
  rw[e1]
  have g:∀(q x y:Nat),x%(m+1)=y%(m+1)->rep C5 q x%(m+1)=rep C5 q y%(m+1):=by
   intro q
   induction q with
   | zero=>exact fun x y e=>e
   | succ q ih=>
    intro x y e
    refine ih _ _ ?_
    unfold C5
    rw[Nat.add_mod,Nat.mul_mod,e,<- Nat.mul_mod,<- Nat.add_mod]
  exact g q _ _ (Nat.mod_mod _ _)
theorem aS{m k b i s:Nat}(hm:m+1=2^k)(hb:b<2^64)(hi:i<=m)(hs:s<=m):∃r,r<=m+13/\(xM m r i b).1=s:=by
 obtain⟨q,hq,e⟩:=aF k (xM m 13 i b).1 s
 refine⟨13+q,by lia,?_⟩
 rw[XT]
 have z:(xM m 13 i b).2=0:=by
  rw[XF]
  exact Nat.div_eq_of_lt (cR hb (by decide))
 rw[z,i6 m q _ (Yx m 13 i b hi),hm,e,<- hm,lK (by lia)]
theorem Zv(h:Int):bits h<2^64:=by
 unfold bits
 have h1:=cI h (show(0:Int)<2^64 by decide)
 have h2:=cT h (show(2:Int)^64≠0 by decide)
 lia
theorem uq{α:Type}[DecidableEq α]:∀{a b:List α},a.Nodup->(∀x∈a,x∈b)->a.length<=b.length
 | [],b,_,_=>cQ _
 | x::r,b,nd,sub=>by
  rw[dE] at nd
  have hx:=sub x bT
  have:=uq (a:=r) (b:=b.erase x) nd.2 fun y hy=>(List.mem_erase_of_ne (show y≠x from fun e=>nd.1 (e ▸ hy))).mpr (sub y (bU _ hy))
  have hl:=List.length_erase_of_mem hx
  have hp:0<b.length:=List.length_pos_of_mem hx
  rw[bW]
  lia
theorem XU{l:List Nat}{m:Nat}(h:l.length<=m):∃s,s<=m/\s∉l:=by
 refine dA fun c=>?_
 have all:∀s∈List.range (m+1),s∈l:=fun s hs=>dA fun n=>c ⟨s,by have:=cY.mp hs;lia,n⟩
 have:=uq List.nodup_range all
 rw[fI] at this
 lia
noncomputable def way(m:Nat)(h:Int)(n:Nat):Nat:=(rep (adv m) n (atP m (bits h%(m+1)) (bits h))).j
theorem ab(m:Nat)(h:Int)(n:Nat):way m h n<=m:=by
 have go:∀(n:Nat) (p:Probe),p.j+p.more<=m->(rep (adv m) n p).j<=m:=by
  intro n
  induction n with
  | zero=>exact fun p h=>by show p.j<=m;lia
  | succ n ih=>
   intro p hp
   refine ih _ ?_
   unfold adv
   split
   ·show p.j+1+(p.more-1)<=m
    lia
   ·show(leap m p.i p.perturb).1+(runEnd m (leap m p.i p.perturb).1-(leap m p.i p.perturb).1)<=m
    exact uu (rT m _ _) (bG _)
 exact go n _ (uu (hW (gX _ (gE _))) (bG _))
theorem jc{m k:Nat}(hm:m+1=2^k){l:List Nat}(hl:l.length<=m)(h:Int):∃e,e<=10*(m+13)/\way m h e∉l/\∀n,n<e->way m h n∈l:=by
 obtain⟨s,hs,ns⟩:=XU hl
 obtain⟨r,hr,e⟩:=aS (i:=bits h%(m+1)) hm (Zv h) (hW (gX _ (gE _))) hs
 obtain⟨n,hn,en⟩:=YS m r (bits h%(m+1)) (bits h)
 obtain⟨e0,h1,h2,h3⟩:=least (P:=fun n=>way m h n∉l) n (by show(rep (adv m) n _).j∉l;rw[en];show(xM m r _ _).1∉l;rw[e];exact ns)
 exact⟨e0,by lia,h2,fun n hn=>dA (h3 n hn)⟩
abbrev T5(xs:Array Nat):Prop:=xs.toList.Pairwise (· < ·)
theorem Zl{xs:Array Nat}(h:T5 xs){i k:Nat}(hik:i<k)(hk:k<xs.size):xs.getD i 0<xs.getD k 0:=by
 have:=gB.mp h i k (by simpa using (by lia:i<xs.size)) (by simpa using hk) hik
 have hi:i<xs.size:=by lia
 simpa [Array.getD,hi,hk] using this
theorem tN{xs:Array Nat}(mono:∀i k,i<k->k<xs.size->xs.getD i 0<xs.getD k 0)(j:Nat):∀(fuel lo hi:Nat),lo<=hi->hi<=xs.size->hi-lo<=fuel->(∀i,i<lo->xs.getD i 0<j)->(∀i,hi<=i->i<xs.size->¬xs.getD i 0<j)->
  below.go xs j fuel lo hi<=xs.size/\(∀i,i<below.go xs j fuel lo hi->xs.getD i 0<j)/\∀i,below.go xs j fuel lo hi<=i->i<xs.size->¬xs.getD i 0<j:=by
 intro fuel
 induction fuel with
 | zero=>
  intro lo hi h1 h2 h3 h4 h5
  unfold below.go
  exact⟨by lia,h4,fun i hi'=>h5 i (by lia)⟩
 | succ fuel ih=>
  intro lo hi h1 h2 h3 h4 h5
  unfold below.go
  by_cases c:lo<hi
  ·rw[Po c]
   dsimp only
   have hm:(lo+hi) / 2<xs.size:=by lia
   rw[show xs.getD ((lo+hi) / 2) j=xs.getD ((lo+hi) / 2) 0 by simp[Array.getD,hm]]
   by_cases d:xs.getD ((lo+hi) / 2) 0<j
   ·rw[Po d]
    refine ih _ _ (by lia) h2 (by lia) (fun i hi'=>?_) h5
    rcases kW i ((lo+hi) / 2) with q|q
    ·exact lJ (mono i _ q (by lia)) d
    ·rw[show i=(lo+hi) / 2 by lia]
     exact d
   ·rw[Pn d]
    refine ih _ _ (by lia) (by lia) (by lia) h4 (fun i hi' hs=>?_)
    rcases kW ((lo+hi) / 2) i with q|q
    ·have:=mono _ i q hs
     lia
    ·rw[show i=(lo+hi) / 2 by lia]
     exact d
  ·rw[Pn c]
   exact⟨by lia,h4,fun i hi'=>h5 i (by lia)⟩
theorem qk{xs:Array Nat}(h:T5 xs)(j:Nat):below xs j<=xs.size/\(∀i,i<below xs j->xs.getD i 0<j)/\∀i,below xs j<=i->i<xs.size->¬xs.getD i 0<j:=
 tN (fun i k=>Zl h) j _ _ _ (cQ _) (bG _) (bG _) (fun i hi=>ND hi (dU _)) fun i hi hs=>ND hs (by lia)
theorem lP{xs:Array Nat}{i j:Nat}(h:xs[i]? = some j):xs.getD i 0=j:=by
 rw[Array.getD_eq_getD_getElem?,h]
 rfl
theorem ZX{xs:Array Nat}{i j:Nat}(h:xs[i]? = some j):i<xs.size:=(g0.mp h).1
theorem vZ{xs:Array Nat}(h:T5 xs){i j:Nat}(e:xs[i]? = some j):below xs j=i:=by
 obtain⟨h1,h2,h3⟩:=qk h j
 have hs:=ZX e
 have hd:=lP e
 rcases lG (below xs j) i with q|q|q
 ·have:=Zl h q hs
  have:=h3 _ (bG _) (by lia)
  lia
 ·exact q
 ·have:=h2 i q
  lia
structure Plain(t:SetTable):Prop where
 d0:t.dummies=#[]
 rise:T5 t.place
theorem Yp(j:Nat):has #[] j=false:=by
 unfold has
 rfl
theorem uS{t:SetTable}(g:Plain t){i j:Nat}(e:t.place[i]? = some j):t.slot j=.live i:=by
 unfold slot
 dsimp only
 rw[vZ g.rise e,Po (by rw[e];exact OH _)]
theorem i9{t:SetTable}(g:Plain t){j:Nat}(e:j∉t.place.toList):t.slot j=.empty:=by
 unfold slot
 dsimp only
 rw[Pn (fun h=>e ?_),g.d0,Yp]
 ·rfl
 ·have:=eq_of_beq h
  exact bH (by rw[cM];exact this)
theorem WX{xs:Array Nat}{j:Nat}(h:j∈xs.toList):∃i:Nat,xs[i]? = some j:=by
 obtain⟨i,hi⟩:=d9.mp h
 exact⟨i,by rw[<- cM];exact hi⟩
theorem rn{t:SetTable}(g:Plain t)(hashAt:Nat->Int)(h:Int)(p:Probe)(hp:p.dummy=none):∀(fuel e:Nat),e<fuel->(rep (adv t.mask) e p).j∉t.place.toList->(∀n,n<e->(rep (adv t.mask) n p).j∈t.place.toList)->
  (probe.go t hashAt h fuel p=some (.empty (rep (adv t.mask) e p).j none)/\∀n i,n<e->t.place[i]? = some (rep (adv t.mask) n p).j->hashAt i≠h)\/
  ∃n i,n<e/\t.place[i]? = some (rep (adv t.mask) n p).j/\hashAt i=h/\probe.go t hashAt h fuel p=some (.candidate (rep (adv t.mask) n p).j i (rep (adv t.mask) (n+1) p))/\∀n' i',n'<n->t.place[i']? = some (rep (adv t.mask) n' p).j->hashAt i'≠h:=by
 intro fuel
 induction fuel generalizing p with
 | zero=>intro e he;exact ND he (dU _)
 | succ fuel ih=>
  intro e he free occ
  unfold probe.go
  cases e with
  | zero=>
   have hs:t.slot p.j=.empty:=i9 g free
   rw[hs]
   refine .inl ⟨?_,fun n i hn=>ND hn (dU _)⟩
   dsimp only
   rw[hp]
   rfl
  | succ e=>
   obtain⟨i,hi⟩:=WX (occ 0 (gE _))
   have hs:t.slot p.j=.live i:=uS g hi
   rw[hs]
   dsimp only
   by_cases c:hashAt i=h
   ·rw[Po (by rw[c];exact OH _)]
    exact .inr ⟨0,i,gE _,hi,c,rfl,fun n' i' hn=>ND hn (dU _)⟩
   ·rw[Pn (by rw[Oj];exact c),VD]
    have one:∀{i':Nat},t.place[i']? = some p.j->i'=i:=fun e'=>by
     have a:=vZ g.rise e'
     have b:=vZ g.rise hi
     exact a.symm.trans b
    rcases ih (adv t.mask p) (by rw[XY];exact hp) e (by lia) free (fun n hn=>occ (n+1) (by lia)) with ⟨q1,q2⟩|⟨n,i2,q1,q2,q3,q4,q5⟩
    ·refine .inl ⟨q1,fun n i' hn hn'=>?_⟩
     cases n with
     | zero=>rw[one hn'];exact c
     | succ n=>exact q2 n i' (by lia) hn'
    ·refine .inr ⟨n+1,i2,by lia,q2,q3,q4,fun n' i' hn hn'=>?_⟩
     cases n' with
     | zero=>rw[one hn'];exact c
     | succ n'=>exact q5 n' i' (by lia) hn'
noncomputable def v7:List Nat:=[7,31,127,511,2047,8191]
theorem qQ{m:Nat}(h:m∈v7):∃k,m+1=2^k:=by
 unfold v7 at h
 simp at h
 rcases h with rfl|rfl|rfl|rfl|rfl|rfl
 ·exact⟨3,rfl⟩
 ·exact⟨5,rfl⟩
 ·exact⟨7,rfl⟩
 ·exact⟨9,rfl⟩
 ·exact⟨11,rfl⟩
 ·exact⟨13,rfl⟩
theorem uO{m:Nat}(h:m∈v7):7<=m/\m<=8191/\m%2=1:=by
 unfold v7 at h
 simp at h
 lia
structure Good(t:SetTable)(hs:AJ):Prop extends Plain t where
 size:t.place.size=hs.length
 le:∀j∈t.place.toList,j<=t.mask
 msk:t.mask∈v7
 room:hs.length*5<t.mask*3+5
 reach:∀(i j:Nat) (h:Int),t.place[i]? = some j->hs[i]? = some h->∃n,way t.mask h n=j/\∀n',n'<n->way t.mask h n'∈t.place.toList
theorem Good.len{t:SetTable}{hs:AJ}(g:Good t hs):t.place.toList.length<=t.mask:=by
 have:=g.room
 have:=uO g.msk
 rw[cO,g.size]
 lia
theorem Good.fits{t:SetTable}{hs:AJ}(g:Good t hs):t.fits hs.length=true:=by
 have:=g.len
 rw[cO] at this
 unfold SetTable.fits SetTable.fill
 rw[g.size,g.d0]
 rw[g.size] at this
 simp
 exact this
theorem Good.gave{t:SetTable}{hs:AJ}(g:Good t hs):t.gaveWay=false:=by
 have:=(uO g.msk).2.2
 unfold SetTable.gaveWay
 rw[this]
 rfl
theorem ZO{α:Type}(l:List α)(p:Nat)(x:α)(hp:p<=l.length)(i:Nat):(l.take p++x::l.drop p)[i]? = if i<p then l[i]? else if i=p then some x else l[i-1]? := by
 rw[fP,bL,jQ hp]
 by_cases c:i<p
 ·rw[Po c,Po c,l9,Po c]
 ·rw[Pn c,Pn c]
  by_cases d:i=p
  ·rw[Po d,d,fW]
   rfl
  ·rw[Pn d,show i-p=(i-p-1)+1 by lia,List.getElem?_cons_succ,gY]
   congr 1
   lia
theorem Tg{xs:Array Nat}(h:T5 xs){j:Nat}(nj:j∉xs.toList):(xs.toList.take (below xs j)++j::xs.toList.drop (below xs j)).Pairwise (· < ·):=by
 obtain⟨h1,h2,h3⟩:=qk h j
 have h':(xs.toList.take (below xs j)++xs.toList.drop (below xs j)).Pairwise (· < ·):=by rw[jA];exact h
 rw[dF] at h' ⊢
 have lo:∀a∈xs.toList.take (below xs j),a<j:=fun a ha=>by
  obtain⟨i,hi⟩:=d9.mp ha
  rw[l9] at hi
  split at hi
  ·rename_i c
   rw[cM] at hi
   have:=h2 i c
   rwa [lP hi] at this
  ·cases hi
 have hi':∀b∈xs.toList.drop (below xs j),j<b:=fun b hb=>by
  obtain⟨i,hi⟩:=d9.mp hb
  rw[gY,cM] at hi
  have:=h3 _ (by lia) (ZX hi)
  rw[lP hi] at this
  have:b≠j:=fun e=>nj (e ▸ List.mem_of_mem_drop hb)
  lia
 refine⟨h'.1,jW.mpr ⟨hi',h'.2.1⟩,fun a ha b hb=>?_⟩
 rcases bI.mp hb with rfl|hb
 ·exact lo a ha
 ·exact h'.2.2 a ha b hb
theorem rV{α:Type}{l:List α}{p:Nat}{x y:α}:y∈l.take p++x::l.drop p↔y=x\/y∈l:=by
 have:y∈l↔y∈l.take p\/y∈l.drop p:=by rw[<- bZ,jA]
 rw[bZ,bI,this]
 constructor
 ·rintro(h|h|h)
  ·exact .inr (.inl h)
  ·exact .inl h
  ·exact .inr (.inr h)
 ·rintro(h|h|h)
  ·exact .inr (.inl h)
  ·exact .inl h
  ·exact .inr (.inr h)
theorem Good.put{t:SetTable}{hs:AJ}(g:Good t hs)(lt:hs.length*5<t.mask*3){h:Int}{e:Nat}(fr:way t.mask h e∉t.place.toList)(oc:∀n,n<e->way t.mask h n∈t.place.toList) :
  Good (t.put (way t.mask h e)).1 (hs.take (t.put (way t.mask h e)).2++h::hs.drop (t.put (way t.mask h e)).2)/\(t.put (way t.mask h e)).2<=hs.length/\(t.put (way t.mask h e)).1.mask=t.mask:=by
 obtain⟨h1,h2,h3⟩:=qk g.rise (way t.mask h e)
 have hd:(t.put (way t.mask h e)).1.dummies=#[]:=by
  show(if has t.dummies _=true then _ else t.dummies)=#[]
  rw[g.d0,Yp]
  rfl
 have hp:(t.put (way t.mask h e)).1.place.toList=t.place.toList.take (below t.place (way t.mask h e))++way t.mask h e::t.place.toList.drop (below t.place (way t.mask h e)):=SetTable.toList_insertAt _ _ _
 have h2':(t.put (way t.mask h e)).2=below t.place (way t.mask h e):=rfl
 have h3':(t.put (way t.mask h e)).1.mask=t.mask:=rfl
 rw[h2',h3']
 generalize (t.put (way t.mask h e)).1=t' at hd hp h3'
 have hm:∀{y:Nat},y∈t'.place.toList↔y=way t.mask h e\/y∈t.place.toList:=by rw[hp];exact rV
 refine⟨⟨⟨hd,?_⟩,?_,?_,by rw[h3'];exact g.msk,?_,?_⟩,by rw[<- g.size];exact h1,rfl⟩
 ·show t'.place.toList.Pairwise _
  rw[hp]
  exact Tg g.rise fr
 ·rw[<- cO,hp]
  simp[g.size]
 ·intro j hj
  rw[h3']
  rcases hm.mp hj with rfl|hj
  ·exact ab _ _ _
  ·exact g.le j hj
 ·rw[h3']
  simp
  lia
 ·intro i j h0 ep eh
  rw[h3']
  rw[<- cM,hp,ZO _ _ _ (by simpa using h1)] at ep
  rw[ZO _ _ _ (by rw[<- g.size];exact h1)] at eh
  by_cases c:i<below t.place (way t.mask h e)
  ·rw[Po c] at ep eh
   rw[cM] at ep
   obtain⟨n,a,b⟩:=g.reach i j h0 ep eh
   exact⟨n,a,fun n' hn=>hm.mpr (.inr (b n' hn))⟩
  ·rw[Pn c] at ep eh
   by_cases d:i=below t.place (way t.mask h e)
   ·rw[Po d] at ep eh
    cases ep
    cases eh
    exact⟨e,rfl,fun n' hn=>hm.mpr (.inr (oc n' hn))⟩
   ·rw[Pn d] at ep eh
    rw[cM] at ep
    obtain⟨n,a,b⟩:=g.reach _ j h0 ep eh
    exact⟨n,a,fun n' hn=>hm.mpr (.inr (b n' hn))⟩
theorem Good.fresh(a b:Nat)(led:Bool):Good (SetTable.fresh a b led) []:=⟨⟨rfl,.nil⟩,rfl,fun j hj=>(nomatch hj),by show 7∈v7;decide,by show 0*5<7*3+5;decide,fun i j h e=>by simp[SetTable.fresh] at e⟩
theorem RG{m:Nat}{owner:Array (Option Nat)}{L:List Nat}(occ:∀j,j<=m->((owner.getD j (some 0)).isNone=true↔j∉L)):∀(fuel i b:Nat),i<=m->(∃r,r<fuel/\(xM m r i b).1∉L)->
  ∃e,layClean.free m owner fuel i b=some (rep (adv m) e (atP m i b)).j/\(rep (adv m) e (atP m i b)).j∉L/\∀n,n<e->(rep (adv m) n (atP m i b)).j∈L:=by
 intro fuel
 induction fuel with
 | zero=>rintro i b _ ⟨r,hr,_⟩;exact ND hr (dU _)
 | succ fuel ih=>
  rintro i b hi ⟨r,hr,nr⟩
  unfold layClean.free
  cases e:(List.range (runEnd m i+1-i)).find? fun k=>(owner.getD (i+k) (some 0)).isNone with
  | some k=>
   rw[List.find?_range_eq_some] at e
   obtain⟨e1,e2,e3⟩:=e
   have hk:=cY.mp e2
   have rj:∀k',k'<=k->(rep (adv m) k' (atP m i b)).j=i+k':=fun k' h=>aO (by lia)
   refine⟨k,by rw[rj k (bG _)],by rw[rj k (bG _)];exact(occ _ (uu hi (by lia))).mp e1,fun n hn=>?_⟩
   rw[rj n (by lia)]
   have:=e3 n hn
   exact dA fun c=>by
    rw[(occ _ (uu hi (by lia))).mpr c] at this
    exact ND this (by decide)
  | none=>
   rw[List.find?_range_eq_none] at e
   have inL:∀k,k<=runEnd m i-i->i+k∈L:=fun k hk=>dA fun c=>by
    have:=e k (by have:=XH m i;unfold runEnd at hk ⊢;split at hk<;>split<;>lia)
    rw[(occ _ (uu hi hk)).mpr c] at this
    exact ND this (by decide)
   dsimp only
   cases r with
   | zero=>exact ND (inL 0 (cQ _)) nr
   | succ r=>
    obtain⟨e',a1,a2,a3⟩:=ih (leap m i b).1 (leap m i b).2 (rT m i b) ⟨r,by lia,nr⟩
    refine⟨runEnd m i-i+1+e',?_,?_,fun n hn=>?_⟩
    ·rw[wO,tH]
     exact a1
    ·rw[wO,tH]
     exact a2
    ·by_cases c:n<=runEnd m i-i
     ·rw[aO c]
      exact inL n c
     ·have:=a3 (n-(runEnd m i-i+1)) (by lia)
      rw[<- tH,<- wO] at this
      rwa [show runEnd m i-i+1+(n-(runEnd m i-i+1))=n by lia] at this
structure P8(m:Nat)(owner:Array (Option Nat))(L:List Nat)(hs:AJ):Prop where
 size:owner.size=m+1
 own:∀j k:Nat,owner[j]? = some (some k)↔L[k]? = some j
 le:∀j∈L,j<=m
 len:L.length=hs.length
 reach:∀(k j:Nat) (h:Int),L[k]? = some j->hs[k]? = some h->∃n,way m h n=j/\∀n',n'<n->way m h n'∈L
theorem P8.occ{m:Nat}{owner:Array (Option Nat)}{L:List Nat}{hs:AJ}(o:P8 m owner L hs)(j:Nat)(hj:j<=m):(owner.getD j (some 0)).isNone=true↔j∉L:=by
 have hs:=o.size
 have hlt:j<owner.size:=by lia
 have e:owner.getD j (some 0)=owner[j]:=by simp[Array.getD,hlt]
 rw[e]
 constructor
 ·intro h hm
  obtain⟨k,hk⟩:=d9.mp hm
  have:=(o.own j k).mpr hk
  rw[dH hlt] at this
  rw[Option.some.inj this] at h
  exact bP h
 ·intro h
  cases c:owner[j] with
  | none=>rfl
  | some k=>exact ND (bH ((o.own j k).mp (by rw[dH hlt,c]))) h
theorem P8.step{m:Nat}{owner:Array (Option Nat)}{L:List Nat}{hs:AJ}(o:P8 m owner L hs)(hm:∃k,m+1=2^k)(few:hs.length<=m)(h:Int) :
  ∃j,layClean.free m owner (turns m) (bits h%(m+1)) (bits h)=some j/\P8 m (owner.setIfInBounds j (some hs.length)) (L++[j]) (hs++[h]):=by
 obtain⟨kk,hk⟩:=hm
 obtain⟨s,hs1,hs2⟩:=XU (l:=L) (m:=m) (by rw[o.len];exact few)
 obtain⟨r,hr,er⟩:=aS (i:=bits h%(m+1)) hk (Zv h) (hW (gX _ (gE _))) hs1
 obtain⟨e,e1,e2,e3⟩:=RG (o.occ) (turns m) (bits h%(m+1)) (bits h) (hW (gX _ (gE _))) ⟨r,by unfold turns;lia,by rw[er];exact hs2⟩
 refine⟨_,e1,?_⟩
 have jl:(rep (adv m) e (atP m (bits h%(m+1)) (bits h))).j<=m:=ab m h e
 have e3':∀n,n<e->way m h n∈L:=e3
 have ew:way m h e=(rep (adv m) e (atP m (bits h%(m+1)) (bits h))).j:=rfl
 generalize (rep (adv m) e (atP m (bits h%(m+1)) (bits h))).j=j at e2 jl ew
 have hsz:=o.size
 refine⟨by rw[Array.size_setIfInBounds];exact hsz,fun j' k=>?_,fun j' hj'=>?_,by rw[bF,bF,o.len];rfl,fun k j' h' ek eh=>?_⟩
 ·rw[Array.getElem?_setIfInBounds,<- o.len]
  by_cases c:j=j'
  ·subst c
   rw[Po rfl,Po (by lia)]
   constructor
   ·intro q
    cases q
    rw[cV (bG _),fW]
    rfl
   ·intro q
    rw[fP] at q
    split at q
    ·exact ND (bH q) e2
    ·rename_i c2
     have:=(bK.mp q).1
     rw[cP] at this
     rw[show k=L.length by lia]
  ·rw[Pn c,o.own,fP]
   split
   ·rfl
   ·rename_i c2
    constructor
    ·intro q
     exact ND (bK.mp q).1 c2
    ·intro q
     have zU:=(bK.mp q).1
     rw[cP] at zU
     rw[show k-L.length=0 by lia] at q
     exact ND (Option.some.inj q) c
 ·rcases bZ.mp hj' with q|q
  ·exact o.le j' q
  ·rw[bD.mp q]
   exact jl
 ·have mem:∀{x:Nat},x∈L->x∈L++[j]:=fun q=>bZ.mpr (.inl q)
  rw[fP] at ek eh
  rw[o.len] at ek
  by_cases c:k<hs.length
  ·rw[Po c] at ek eh
   obtain⟨n,a,b⟩:=o.reach k j' h' ek eh
   exact⟨n,a,fun n' hn=>mem (b n' hn)⟩
  ·rw[Pn c] at ek eh
   have zU:=(bK.mp ek).1
   rw[cP] at zU
   rw[show k-hs.length=0 by lia] at ek eh
   cases ek
   cases eh
   exact⟨e,ew,fun n' hn=>mem (e3' n' hn)⟩
theorem PY{m:Nat}(hm:∃k,m+1=2^k)(hs:AJ)(few:hs.length<=m):∃owner L,layClean m hs.toArray=some owner/\P8 m owner L hs:=by
 have go:∀(zI pre:AJ) (owner:Array (Option Nat)) (L:List Nat),P8 m owner L pre->(pre++zI).length<=m->∃owner' L',zI.foldl (fun zK h=>(do
  let (owner,k) <- zK
  let j <- layClean.free m owner (turns m) (bits h%(m+1)) (bits h)
  pure (owner.setIfInBounds j (some k),k+1):Option (Array (Option Nat)×Nat))) (some (owner,pre.length))=some (owner',(pre++zI).length)/\P8 m owner' L' (pre++zI):=by
  intro zI
  induction zI with
  | nil=>intro pre owner L o _;exact⟨owner,L,by rw[dB];rfl,by rw[dB];exact o⟩
  | cons h zI ih=>
   intro pre owner L o fw
   obtain⟨j,e,o'⟩:=o.step hm (by rw[bF] at fw;lia) h
   obtain⟨owner',L',a,b⟩:=ih (pre++[h]) _ _ o' (by rw[eB];exact fw)
   refine⟨owner',L',?_,by rw[eB] at b;exact b⟩
   rw[dI]
   rw[eB,bF (as:=pre) (bs:=[h])] at a
   rw[<- show(pre++([h]++zI))=pre++h::zI from rfl,<- a]
   congr 1
   show(layClean.free m owner (turns m) (bits h%(m+1)) (bits h)).bind _=_
   rw[e]
   rfl
 have o0:P8 m (Array.replicate (m+1) none) [] []:=by
  refine⟨Array.size_replicate,fun j k=>?_,fun j hj=>(nomatch hj),rfl,fun k j h e=>by simp at e⟩
  rw[Array.getElem?_replicate]
  constructor
  ·intro q
   split at q<;>cases q
  ·intro q
   simp at q
 obtain⟨owner,L,a,b⟩:=go hs [] _ _ o0 few
 refine⟨owner,L,?_,b⟩
 unfold layClean
 rw[<- Array.foldl_toList]
 show(List.foldl _ (some (Array.replicate (m+1) none,([]:AJ).length)) hs).map _=_
 rw[a]
 rfl
theorem rY{m:Nat}{owner:Array (Option Nat)}(hs:owner.size=m+1){j:Nat}{q:Nat×Nat}(hj:j<=m):(owner.getD j none).map (j,·)=some q↔q.1=j/\owner[j]? = some (some q.2):=by
 have hlt:j<owner.size:=by lia
 have e:owner.getD j none=owner[j]:=by simp[Array.getD,hlt]
 rw[e,dH hlt]
 cases c:owner[j] with
 | none=>simp
 | some k=>
  obtain⟨a,b⟩:=q
  simp
  intro _
  constructor<;>exact fun h=>h.symm
noncomputable def xD(m:Nat)(owner:Array (Option Nat)):List (Nat×Nat):=(List.range (m+1)).filterMap fun j=>(owner.getD j none).map (j,·)
theorem Tz{m f mv:Nat}{led pl:Bool}(hm:m∈v7)(hs:AJ)(few:hs.length*5<m*3+5):∃t order,laid m f mv led pl hs.toArray=some (t,order)/\t.mask=m/\t.led=led/\t.plain=pl/\order.toList.Perm (List.range hs.length)/\Good t (order.toList.map fun k=>hs.getD k 0):=by
 have m7:=uO hm
 have le:hs.length<=m:=by lia
 obtain⟨owner,L,e,o⟩:=PY (qQ hm) hs le
 have mem:∀j k,(j,k)∈xD m owner↔L[k]? = some j:=fun j k=>by
  unfold xD
  rw[l7]
  constructor
  ·rintro⟨a,ha,h⟩
   obtain⟨h1,h2⟩:=(rY o.size (by have:=cY.mp ha;lia)).mp h
   dsimp only at h1 h2
   rw[h1]
   exact(o.own a k).mp h2
  ·intro h
   have hj:=o.le j (bH h)
   exact⟨j,cY.mpr (by lia),(rY o.size hj).mpr ⟨rfl,(o.own j k).mpr h⟩⟩
 have pw:((xD m owner).map (·.1)).Pairwise (· < ·):=by
  rw[dC]
  unfold xD
  rw[List.pairwise_filterMap]
  refine jX (fun {a b} ha hb hab=>?_) hG
  intro q hq q' hq'
  have h1:=((rY o.size (by have:=cY.mp ha;lia)).mp hq).1
  have h2:=((rY o.size (by have:=cY.mp hb;lia)).mp hq').1
  lia
 have inj:∀{q q':Nat×Nat},q∈xD m owner->q'∈xD m owner->q.1=q'.1->q.2=q'.2:=fun {q q'} h1 h2 e=>by
  obtain⟨a,b⟩:=q
  obtain⟨a',b'⟩:=q'
  dsimp only at e ⊢
  subst e
  have x:=(o.own a b).mpr ((mem a b).mp h1)
  have y:=(o.own a b').mpr ((mem a b').mp h2)
  rw[x] at y
  exact Option.some.inj (Option.some.inj y)
 have nd2:((xD m owner).map (·.2)).Nodup:=by
  rw[List.Nodup,dC]
  have:=dC.mp pw
  refine jX (fun {a b} ha hb hab e=>?_) this
  have x:=(mem a.1 a.2).mp ha
  have y:=(mem b.1 b.2).mp hb
  rw[e,y] at x
  have:=Option.some.inj x
  lia
 have perm:((xD m owner).map (·.2)).Perm (List.range hs.length):=by
  have mm:∀k,k∈(xD m owner).map (·.2)↔k∈List.range hs.length:=fun k=>by
   rw[cD,cY,<- o.len]
   constructor
   ·rintro⟨q,hq,rfl⟩
    exact(bK.mp ((mem q.1 q.2).mp hq)).1
   ·intro h
    exact⟨(L[k],k),(mem _ _).mpr (bC h),rfl⟩
  exact(List.perm_ext_iff_of_nodup nd2 List.nodup_range).mpr mm
 refine⟨_,_,by unfold laid;rw[e];rfl,rfl,rfl,rfl,perm,?_⟩
 have len:(xD m owner).length=hs.length:=by
  have:=perm.length_eq
  rwa [bA,fI] at this
 have inP:∀{j:Nat},j∈(xD m owner).map (·.1)↔j∈L:=fun {j}=>by
  rw[cD]
  constructor
  ·rintro⟨q,hq,rfl⟩
   exact bH ((mem q.1 q.2).mp hq)
  ·intro h
   obtain⟨k,hk⟩:=d9.mp h
   exact⟨(j,k),(mem j k).mpr hk,rfl⟩
 refine⟨⟨rfl,pw⟩,?_,fun j hj=>o.le j (inP.mp hj),hm,?_,fun i j h ep eh=>?_⟩
 ·show((xD m owner).map (·.1)).toArray.size=(((xD m owner).map (·.2)).map _).length
  simp
 ·show(((xD m owner).map (·.2)).map _).length*5<m*3+5
  rw[bA,bA,len]
  exact few
 ·have ep':((xD m owner).map (·.1))[i]? = some j:=by
   have h2:(((xD m owner).map (·.1)).toArray)[i]? = some j:=ep
   rwa [List.getElem?_toArray] at h2
  have eh':(((xD m owner).map (·.2)).map fun k=>hs.getD k 0)[i]? = some h:=eh
  rw[bE] at ep' eh'
  rw[bE] at eh'
  cases c:(xD m owner)[i]? with
  | none=>rw[c] at ep';cases ep'
  | some q=>
   rw[c] at ep' eh'
   obtain⟨a,b⟩:=q
   cases ep'
   have hq:=(mem a b).mp (bH c)
   have hb:b<hs.length:=by rw[<- o.len];exact(bK.mp hq).1
   have eb:hs[b]? = some h:=by
    have:hs.getD b 0=h:=Option.some.inj eh'
    rw[bR,bC hb] at this
    rw[bC hb]
    exact Pu some this
   obtain⟨n,x,y⟩:=o.reach b a h hq eb
   exact⟨n,x,fun n' hn=>inP.mpr (y n' hn)⟩
theorem Good.relaid{t:SetTable}{hs:AJ}(g:Good t hs)(full:t.tooFull=true)(few:hs.length<=4096):∃t' order,t.relaid hs.toArray (SetTable.grown hs.length)=some (t',order)/\sizeAbove (SetTable.grown hs.length)<=8192/\
  t'.led=t.led/\order.toList.Perm (List.range hs.length)/\Good t' (order.toList.map fun k=>hs.getD k 0)/\hs.length*5<t'.mask*3/\t'.plain=t.plain:=by
 have fl:hs.length*5≥t.mask*3:=by
  unfold SetTable.tooFull SetTable.fill at full
  rw[g.size,g.d0] at full
  exact Px full
 have rm:=g.room
 have key:∃m',sizeAbove (SetTable.grown hs.length)-1=m'/\m'∈v7/\hs.length*5<m'*3/\sizeAbove (SetTable.grown hs.length)<=8192:=by
  have hm:=g.msk
  unfold v7 at hm
  simp at hm
  rcases hm with h|h|h|h|h|h<;>rw[h] at fl rm
  ·have e:hs.length=5:=by lia
   rw[e]
   exact⟨31,by decide,by decide,by decide,by decide⟩
  ·have e:hs.length=19:=by lia
   rw[e]
   exact⟨127,by decide,by decide,by decide,by decide⟩
  ·have e:hs.length=77:=by lia
   rw[e]
   exact⟨511,by decide,by decide,by decide,by decide⟩
  ·have e:hs.length=307:=by lia
   rw[e]
   exact⟨2047,by decide,by decide,by decide,by decide⟩
  ·have e:hs.length=1229:=by lia
   rw[e]
   exact⟨8191,by decide,by decide,by decide,by decide⟩
  ·exfalso
   lia
 obtain⟨m',e1,e2,e3,e4⟩:=key
 unfold SetTable.relaid
 rw[e1]
 obtain⟨t',order,a,b,c,d,p,q⟩:=Tz (f:=t.finger) (mv:=t.movedTo m') (led:=t.led) (pl:=t.plain) e2 hs (by lia)
 exact⟨t',order,a,e4,c,p,q,by rw[b];exact e3,d⟩
theorem Sq{t:SetTable}(g:Plain t)(hashAt:Nat->Int)(h:Int){e m:Nat}(hm:m<=e)(he:e<=10*(t.mask+13))(fr:way t.mask h e∉t.place.toList)(oc:∀n,n<e->way t.mask h n∈t.place.toList) :
  (t.probe hashAt h (rep (adv t.mask) m (t.probeStart h))=some (.empty (way t.mask h e) none)/\∀q i,m<=q->q<e->t.place[i]? = some (way t.mask h q)->hashAt i≠h)\/
  ∃q i,m<=q/\q<e/\t.place[i]? = some (way t.mask h q)/\hashAt i=h/\t.probe hashAt h (rep (adv t.mask) m (t.probeStart h))=some (.candidate (way t.mask h q) i (rep (adv t.mask) (q+1) (t.probeStart h)))/\∀q' i',m<=q'->q'<q->t.place[i']? = some (way t.mask h q')->hashAt i'≠h:=by
 have wj:∀k,(rep (adv t.mask) k (rep (adv t.mask) m (t.probeStart h))).j=way t.mask h (m+k):=fun k=>by
  rw[<- wO]
  rfl
 rcases rn g hashAt h (rep (adv t.mask) m (t.probeStart h)) (by rw[Xb];rfl) (10*turns t.mask) (e-m) (by unfold turns;lia) (by rw[wj,show m+(e-m)=e by lia];exact fr) (fun n hn=>by rw[wj];exact oc _ (by lia)) with ⟨a,b⟩|⟨q,i,a,b,c,d,f⟩
 ·refine .inl ⟨?_,fun q i h1 h2 h3=>b (q-m) i (by lia) ?_⟩
  ·rw[wj,show m+(e-m)=e by lia] at a
   exact a
  ·rw[wj,show m+(q-m)=q by lia]
   exact h3
 ·rw[wj] at b
  rw[wj,<- wO] at d
  refine .inr ⟨m+q,i,by lia,by lia,b,c,?_,fun q' i' h1 h2 h3=>f (q'-m) i' (by lia) ?_⟩
  ·rw[show m+q+1=m+(q+1) by lia]
   exact d
  ·rw[wj,show m+(q'-m)=q' by lia]
   exact h3
end Tab
namespace L2
open PySem PySem.Spec PyProof.Rows Tab
section
mutual
noncomputable def AtD(h:Heap):DV->Value->Prop
 | .str z,v=>∃t,v=.str z t
 | .tup ds,v=>∃a zC,v=.ref a/\h.IsTuple a zC/\C9 h ds zC.toList
 | _,_=>False
noncomputable def C9(h:Heap):List DV->AG->Prop
 | [],vs=>vs=[]
 | d::ds,vs=>∃v r,vs=v::r/\AtD h d v/\C9 h ds r
end
noncomputable def Sub(h h':Heap):Prop:=∀b o,h.get? b=some o->h'.get? b=some o
mutual
theorem AtD.mono{h h':Heap}(s:Sub h h'):∀(d:DV) (v:Value),AtD h d v->AtD h' d v
 | .str _,_,q=>by unfold AtD at q ⊢;exact q
 | .non,_,q=>by unfold AtD at q;exact q.elim
 | .bl _,_,q=>by unfold AtD at q;exact q.elim
 | .int _,_,q=>by unfold AtD at q;exact q.elim
 | .tup ds,v,q=>by
  unfold AtD at q ⊢
  obtain⟨a,zC,e,⟨o,ho,r⟩,q2⟩:=q
  exact⟨a,zC,e,⟨o,s _ _ ho,r⟩,C9.mono s ds _ q2⟩
theorem C9.mono{h h':Heap}(s:Sub h h'):∀(ds:List DV) (vs:AG),C9 h ds vs->C9 h' ds vs
 | [],_,q=>by unfold C9 at q ⊢;exact q
 | d::ds,_,q=>by
  unfold C9 at q ⊢
  obtain⟨v,r,e,q1,q2⟩:=q
  exact⟨v,r,e,AtD.mono s d v q1,C9.mono s ds r q2⟩
end
theorem C9.length{h:Heap}:∀{ds:List DV}{vs:AG},C9 h ds vs->vs.length=ds.length
 | [],_,q=>by unfold C9 at q;rw[q];rfl
 | d::ds,_,q=>by
  unfold C9 at q
  obtain⟨v,r,rfl,_,q2⟩:=q
  rw[bW,bW,C9.length q2]
theorem C9.get{h:Heap}:∀{ds:List DV}{vs:AG},C9 h ds vs->∀(i:Nat) (v:Value),vs[i]? = some v->∃d,ds[i]? = some d/\AtD h d v
 | [],_,q,i,v,e=>by
  unfold C9 at q
  rw[q] at e
  cases e
 | d::ds,_,q,i,v,e=>by
  unfold C9 at q
  obtain⟨v0,r,rfl,q1,q2⟩:=q
  cases i with
  | zero=>cases e;exact⟨d,rfl,q1⟩
  | succ i=>exact C9.get q2 i v e
variable{prog:Program}{w:World}{A:Around}{E:AB}{s:Shared}
theorem TJ{a:Addr}{zC:AI}{hs:AJ}{Q:Int->Shared->Prop}(it:s.heap.IsTuple a zC)(hu:A.units<cLine)(lh:hs.length=zC.size)
  (zB:∀(i:Nat) (v:Value) (k:Int),zC[i]? = some v->hs[i]? = some k->∀(t0:Nat) (E':AB) (Q':Int->Shared->Prop),s.toks<=t0->(∀t,t0<=t->Q' k { s with toks:=t })->wpAny (model prog w) A.in1 (pyHash v) Q' E' { s with toks:=t0 })
  (fin:∀t,s.toks<=t->Q (reduceHash (Builtin.Tuple.tupleHashOf hs)) { s with toks:=t }):wpAny (model prog w) A (pyHash (.ref a)) Q E s:=by
 obtain⟨o,ho,hc,n,hd⟩:=it
 have hT:s.TypeIs (.ref a) "tuple":=⟨o,ho,hc⟩
 unfold pyHash pyHashByItsType
 refine Pl (wpAny_cRoomFor_or (.inr hu) (Pl (OJ hT hZ.lookup ?_)))
 rw[Pn (by rw[beq_builtin_none];exact bP)]
 refine Pl (OJ hT hZ.lookup ?_)
 rw[Pn (by decide)]
 refine Pl (wpAny_callSpecialIfBoundUnlessNone?_slot hT hZ (OD hZ hT F.entry_tuple_hash ?_ (F.args_tuple_hash_1 _)))
 unfold Builtin.«tuple.__hash__»
 show wpAny _ _ (Builtin.Tuple.tupleItemsOf (.ref a) >>= _) _ _ s
 refine Pl (wpAny_tupleItemsOf ho hd (Pl ?_))
 rw[<- jY]
 refine Oa _ (fun zI (b:Array Int) s'=>∃i t,i<=zC.size/\zI=zC.toList.drop i/\b.toList=hs.take i/\s.toks<=t/\s'={ s with toks:=t }) _ ?_ ?_ _ _ ⟨0,s.toks,cQ _,rfl,rfl,bG _,rfl⟩
 ·rintro x zI b s' ⟨i,t,hi,er,eb,tk,rfl⟩
  have hlt:i<zC.size:=by
   rcases kW i zC.size with h|h
   ·exact h
   ·rw[List.drop_of_length_le (by simpa using h)] at er
    cases er
  have ex:zC[i]? = some x:=by
   have:=Pu (·[0]?) er
   simp only[List.getElem?_cons_zero,gY,j9,cM] at this
   exact this.symm
  have er':zI=zC.toList.drop (i+1):=by
   have:=Pu List.tail er
   rw[List.tail_cons,List.tail_drop] at this
   exact this
  have eh:hs[i]? = some hs[i]:=bC (by lia)
  refine Pl (zB i x _ ex eh _ _ _ tk fun t' tk'=>?_)
  refine Pm ⟨i+1,t',by lia,er',?_,c7 tk tk',rfl⟩
  rw[Array.toList_push,eb,fJ,eh]
  rfl
 ·rintro b s' ⟨i,t,hi,er,eb,tk,rfl⟩
  have hge:zC.size<=i:=by
   rcases kW i zC.size with h|h
   ·have:=Pu List.length er
    simp at this
    lia
   ·exact h
  rw[cN (by lia)] at eb
  show wpAny _ _ (retInt (Builtin.Tuple.tupleHashOf b.toList)) _ _ _
  rw[eb]
  refine wpAny_ret_mkInt ?_
  dsimp only
  unfold pyHashByItsType.reduced
  unfold reduceHash at fin
  split
  ·rename_i c
   rw[Po c] at fin
   exact Pm (fin _ (c7 tk (fN _)))
  ·rename_i c
   rw[Pn c] at fin
   exact Pl (Od (Pm (fin _ (c7 tk (fN _)))))
mutual
noncomputable def yU(prog:Program)(w:World):DV->Int
 | .str z=>(strKind prog w).hash z
 | .tup ds=>reduceHash (Builtin.Tuple.tupleHashOf (vU prog w ds))
 | _=>0
noncomputable def vU(prog:Program)(w:World):List DV->AJ
 | []=>[]
 | d::ds=>yU prog w d::vU prog w ds
end
theorem jo(prog:Program)(w:World):∀ds:List DV,(vU prog w ds).length=ds.length
 | []=>by unfold vU;rfl
 | d::ds=>by unfold vU;rw[bW,bW,jo prog w ds]
mutual
theorem Zh:∀(d:DV) (v:Value) (A:Around) (E:AB) (s:Shared) (Q:Int->Shared->Prop),AtD s.heap d v->A.units+d.deep<cLine->(∀t,s.toks<=t->Q (yU prog w d) { s with toks:=t })->wpAny (model prog w) A (pyHash v) Q E s
 | .str z,v,A,E,s,Q,q,_,fin=>by
  unfold AtD at q
  obtain⟨t,rfl⟩:=q
  refine(strKind prog w).pyHash (k:=z) (strKind_is _ _ _ _) ?_
  have:=fin (s.toks+1) (fN _)
  unfold yU at this
  exact this
 | .non,v,A,E,s,Q,q,_,fin=>by unfold AtD at q;exact q.elim
 | .bl _,v,A,E,s,Q,q,_,fin=>by unfold AtD at q;exact q.elim
 | .int _,v,A,E,s,Q,q,_,fin=>by unfold AtD at q;exact q.elim
 | .tup ds,v,A,E,s,Q,q,hu,fin=>by
  unfold AtD at q
  obtain⟨a,zC,rfl,it,q2⟩:=q
  unfold DV.deep at hu
  unfold yU at fin
  refine TJ it (by lia) (by rw[jo,<- q2.length,cO]) (fun i v k ei ek t0 E' Q' _ f=>?_) fin
  exact Yh ds zC.toList A.in1 E' { s with toks:=t0 } Q' q2 (by rw[fA];lia) i v k (by rw[cM];exact ei) ek f
theorem Yh:∀(ds:List DV) (vs:AG) (A:Around) (E:AB) (s:Shared) (Q:Int->Shared->Prop),C9 s.heap ds vs->A.units+DV.L3 ds<cLine->∀(i:Nat) (v:Value) (k:Int),vs[i]? = some v->(vU prog w ds)[i]? = some k->(∀t,s.toks<=t->Q k { s with toks:=t })->wpAny (model prog w) A (pyHash v) Q E s
 | [],vs,A,E,s,Q,q,hu,i,v,k,ei,ek,f=>by
  unfold C9 at q
  rw[q] at ei
  cases ei
 | d::ds,vs,A,E,s,Q,q,hu,i,v,k,ei,ek,f=>by
  unfold C9 at q
  obtain⟨v0,r,rfl,q1,q2⟩:=q
  unfold vU at ek
  unfold DV.L3 at hu
  cases i with
  | zero=>
   cases ei
   cases ek
   exact Zh d v A E s Q q1 (d8 (dZ (Nat.le_max_left _ _) _) hu) f
  | succ i=>exact Yh ds r A E s Q q2 (d8 (dZ (Nat.le_max_right _ _) _) hu) i v k ei ek f
end
mutual
theorem AtD.inj{h:Heap}:∀(d d':DV) (v:Value),AtD h d v->AtD h d' v->d=d'
 | .str z,.str z',v,q,q'=>by
  unfold AtD at q q'
  obtain⟨t,rfl⟩:=q
  obtain⟨t',e⟩:=q'
  cases e
  rfl
 | .str z,.tup ds',v,q,q'=>by
  unfold AtD at q q'
  obtain⟨t,rfl⟩:=q
  obtain⟨a,zC,e,_⟩:=q'
  cases e
 | .tup ds,.str z',v,q,q'=>by
  unfold AtD at q q'
  obtain⟨t,rfl⟩:=q'
  obtain⟨a,zC,e,_⟩:=q
  cases e
 | .tup ds,.tup ds',v,q,q'=>by
  unfold AtD at q q'
  obtain⟨a,zC,rfl,⟨o,ho,_,n,hd⟩,q⟩:=q
  obtain⟨a',its',e,⟨o',ho',_,n',hd'⟩,q'⟩:=q'
  cases e
  rw[ho] at ho'
  cases ho'
  rw[hd] at hd'
  cases hd'
  rw[C9.inj ds ds' _ q q']
 | .non,_,v,q,_=>by unfold AtD at q;exact q.elim
 | .bl _,_,v,q,_=>by unfold AtD at q;exact q.elim
 | .int _,_,v,q,_=>by unfold AtD at q;exact q.elim
 | .str _,.non,v,_,q=>by unfold AtD at q;exact q.elim
 | .str _,.bl _,v,_,q=>by unfold AtD at q;exact q.elim
 | .str _,.int _,v,_,q=>by unfold AtD at q;exact q.elim
 | .tup _,.non,v,_,q=>by unfold AtD at q;exact q.elim
 | .tup _,.bl _,v,_,q=>by unfold AtD at q;exact q.elim
 | .tup _,.int _,v,_,q=>by unfold AtD at q;exact q.elim
theorem C9.inj{h:Heap}:∀(ds ds':List DV) (vs:AG),C9 h ds vs->C9 h ds' vs->ds=ds'
 | [],[],_,_,_=>rfl
 | [],d::ds',vs,q,q'=>by
  unfold C9 at q q'
  obtain⟨v,r,e,_⟩:=q'
  rw[q] at e
  cases e
 | d::ds,[],vs,q,q'=>by
  unfold C9 at q q'
  obtain⟨v,r,e,_⟩:=q
  rw[q'] at e
  cases e
 | d::ds,d'::ds',vs,q,q'=>by
  unfold C9 at q q'
  obtain⟨v,r,rfl,q1,q2⟩:=q
  obtain⟨v',r',e,q1',q2'⟩:=q'
  cases e
  rw[AtD.inj d d' v q1 q1',C9.inj ds ds' r q2 q2']
end
noncomputable def Rk:Nat->DV->Prop
 | 0,d=>∃z,d=.str z
 | n+1,d=>∃ds,d=.tup ds/\∀x∈ds,Rk n x
noncomputable instance decDV:DecidableEq DV:=fun _ _=>Classical.propDecidable _
theorem C9.item{h:Heap}{ds:List DV}{zC:AI}(q:C9 h ds zC.toList){i:Nat}(hi:i<zC.size):∃d,ds[i]? = some d/\AtD h d zC[i]:=
 q.get i zC[i] (by rw[cM];exact dH hi)
theorem Yz{α:Type}[DecidableEq α]:∀(a b:List α),((List.range (min a.length b.length)).all (fun j=>decide (a[j]? = b[j]?)) && a.length == b.length)=decide (a=b)
 | [],[]=>by simp
 | [],_::_=>by simp
 | _::_,[]=>by simp
 | x::a,y::b=>by
  have ih:=Yz a b
  rw[bW,bW,Nat.succ_min_succ,List.range_succ_eq_map,fX,kS,Bool.and_assoc]
  have e:((List.range (min a.length b.length)).all ((fun j=>decide ((x::a)[j]? = (y::b)[j]?)) ∘ Nat.succ) && (a.length+1 == b.length+1))=decide (a=b):=by
   rw[<- ih]
   congr 1
   rw[cX]
   simp
  rw[e]
  simp
theorem rF:∀(n:Nat) (d d':DV) (v v':Value) (A:Around) (s:Shared),Rk n d->Rk n d'->AtD s.heap d v->AtD s.heap d' v'->A.units+n<cLine->SeqAt.EqAt A s v v' (decide (d=d')):=by
 intro n
 induction n with
 | zero=>
  rintro _ _ v v' A s ⟨z,rfl⟩ ⟨z',rfl⟩ q q' _ prog w E Q h
  unfold AtD at q q'
  obtain⟨t,rfl⟩:=q
  obtain⟨t',rfl⟩:=q'
  refine(strKind prog w).eqBool (a:=z) (b:=z') (strKind_is _ _ _ _) (strKind_is _ _ _ _) ?_
  have e:decide (z=z')=decide (DV.str z=DV.str z'):=decide_eq_decide.mpr ⟨fun e=>by rw[e],fun e=>by cases e;rfl⟩
  rw[e]
  exact h
 | succ n ih=>
  rintro _ _ v v' A s ⟨ds,rfl,rk⟩ ⟨ds',rfl,rk'⟩ q q' hu
  have q0:=q
  have q0':=q'
  unfold AtD at q q'
  obtain⟨a,zC,rfl,it,qs⟩:=q
  obtain⟨a',its',rfl,it',qs'⟩:=q'
  by_cases hne:a=a'
  ·subst hne
   rw[Pq (AtD.inj _ _ _ q0 q0')]
   exact SeqAt.EqAt.same _
  refine SeqAt.EqAt.of_refs hne ?_
  have l1:zC.size=ds.length:=by rw[<- qs.length,cO]
  have l2:its'.size=ds'.length:=by rw[<- qs'.length,cO]
  have hh:=SeqAt.RcAt.tuples (A:=A) (e:=fun j=>decide (ds[j]? = ds'[j]?)) it it' (by lia) fun j h1 h2=>by
   obtain⟨d,ed,ad⟩:=qs.item h1
   obtain⟨d',ed',ad'⟩:=qs'.item h2
   have:=ih d d' zC[j] its'[j] A.in1 s (rk d (bH ed)) (rk' d' (bH ed')) ad ad' (by rw[fA];lia)
   have e:decide (ds[j]? = ds'[j]?)=decide (d=d'):=by
    rw[ed,ed']
    exact decide_eq_decide.mpr ⟨fun e=>Option.some.inj e,fun e=>by rw[e]⟩
   rw[e]
   exact this
  rw[l1,l2,Yz] at hh
  have e:decide (ds=ds')=decide (DV.tup ds=DV.tup ds'):=decide_eq_decide.mpr ⟨fun e=>by rw[e],fun e=>by cases e;rfl⟩
  rw[e] at hh
  exact hh
theorem VN:∀(n:Nat) (d:DV),Rk n d->d.deep<=n:=by
 intro n
 induction n with
 | zero=>
  rintro _ ⟨z,rfl⟩
  unfold DV.deep
  exact bG _
 | succ n ih=>
  rintro _ ⟨ds,rfl,rk⟩
  unfold DV.deep
  refine lM ?_
  induction ds with
  | nil=>unfold DV.L3;exact cQ _
  | cons d r ihr=>
   unfold DV.L3
   exact Nat.max_le.mpr ⟨ih d (rk d bT),ihr fun x hx=>rk x (bU _ hx)⟩
theorem Yg:∀(n m:Nat) (d:DV) (v:Value) (A:Around) (E:AB) (s:Shared) (Q:Bool->Shared->Prop),n<=m->Rk n d->AtD s.heap d v->Q true s->wpAny (model prog w) A (eqIsQuiet m v) Q E s:=by
 intro n
 induction n with
 | zero=>
  rintro m _ v A E s Q hm ⟨z,rfl⟩ q h
  unfold AtD at q
  obtain⟨t,rfl⟩:=q
  rw[eqIsQuiet_byValue m (v:=.str z t) rfl]
  exact Pm h
 | succ n ih=>
  rintro m _ v A E s Q hm ⟨ds,rfl,rk⟩ q h
  unfold AtD at q
  obtain⟨a,zC,rfl,it,qs⟩:=q
  obtain⟨o,ho,hc,k,hd⟩:=it
  have hT:s.TypeIs (.ref a) "tuple":=⟨o,ho,hc⟩
  obtain⟨m,rfl⟩:∃m',m=m'+1:=⟨m-1,by lia⟩
  unfold eqIsQuiet
  refine Pl (OJ hT F.slot_tuple_eq.lookup ?_)
  dsimp only
  refine Pl (OZ hT isSubtype_tuple_tuple ?_)
  rw[Pn (by decide)]
  refine Pl (Pz ho hd (Pl ?_))
  show wpAny _ _ (forIn zC _ _) _ _ s
  rw[<- jY]
  refine Oa _ (fun zI r s'=>r.1=none/\s'=s/\∀v∈zI,v∈zC.toList) _ ?_ ?_ _ _ ⟨rfl,rfl,fun v hv=>hv⟩
  ·rintro v zI r s' ⟨hr,rfl,hv⟩
   obtain⟨i,hi⟩:=d9.mp (hv v bT)
   obtain⟨d,ed,ad⟩:=qs.get i v hi
   refine Pl (ih m d v _ _ _ _ (by lia) (rk d (bH ed)) ad ?_)
   rw[Pn (by decide)]
   exact Pm ⟨rfl,rfl,fun u hu=>hv u (bU _ hu)⟩
  ·rintro⟨r1,r2⟩ s' ⟨hr,rfl,_⟩
   dsimp only at hr
   subst hr
   exact Pm h
theorem jw:∀(n m:Nat) (d:DV) (v:Value) (A:Around) (E:AB) (s:Shared) (Q:Bool->Shared->Prop),n<=m->Rk n d->AtD s.heap d v->Q false s->wpAny (model prog w) A (ofAClassStatement m v) Q E s:=by
 intro n
 induction n with
 | zero=>
  rintro m _ v A E s Q hm ⟨z,rfl⟩ q h
  unfold AtD at q
  obtain⟨t,rfl⟩:=q
  unfold ofAClassStatement
  exact Pm h
 | succ n ih=>
  rintro m _ v A E s Q hm ⟨ds,rfl,rk⟩ q h
  unfold AtD at q
  obtain⟨a,zC,rfl,it,qs⟩:=q
  obtain⟨o,ho,hc,k,hd⟩:=it
  have hT:s.TypeIs (.ref a) "tuple":=⟨o,ho,hc⟩
  obtain⟨m,rfl⟩:∃m',m=m'+1:=⟨m-1,by lia⟩
  unfold ofAClassStatement
  refine Pl (Oh hT ?_)
  dsimp only
  rw[Po (by decide)]
  refine Pl (Pm ?_)
  rw[Pn (by decide)]
  refine Pl (Pz ho hd ?_)
  dsimp only
  refine Pl ?_
  rw[<- jY]
  refine Oa _ (fun zI r s'=>r.1=none/\s'=s/\∀v∈zI,v∈zC.toList) _ ?_ ?_ _ _ ⟨rfl,rfl,fun v hv=>hv⟩
  ·rintro v zI r s' ⟨hr,rfl,hv⟩
   obtain⟨i,hi⟩:=d9.mp (hv v bT)
   obtain⟨d,ed,ad⟩:=qs.get i v hi
   refine Pl (ih m d v _ _ _ _ (by lia) (rk d (bH ed)) ad ?_)
   rw[Pn (by decide)]
   exact Pm ⟨rfl,rfl,fun u hu=>hv u (bU _ hu)⟩
  ·rintro⟨r1,r2⟩ s' ⟨hr,rfl,_⟩
   dsimp only at hr
   subst hr
   exact Pm h
noncomputable def NoS:Nat->DV->Prop
 | 0,_=>False
 | n+1,d=>∃ds,d=.tup ds/\∀x∈ds,NoS n x
theorem Th:∀(n m:Nat) (d:DV) (v:Value) (A:Around) (E:AB) (s:Shared) (Q:Bool->Shared->Prop),n<=m->Rk n d->AtD s.heap d v->(∀b,(b=true->NoS n d)->Q b s)->wpAny (model prog w) A (hashByValue m v) Q E s:=by
 intro n
 induction n with
 | zero=>
  rintro m _ v A E s Q hm ⟨z,rfl⟩ q h
  unfold AtD at q
  obtain⟨t,rfl⟩:=q
  unfold hashByValue
  exact Pm (h _ fun e=>(nomatch e))
 | succ n ih=>
  rintro m _ v A E s Q hm ⟨ds,rfl,rk⟩ q h
  unfold AtD at q
  obtain⟨a,zC,rfl,it,qs⟩:=q
  obtain⟨o,ho,hc,k,hd⟩:=it
  have hT:s.TypeIs (.ref a) "tuple":=⟨o,ho,hc⟩
  obtain⟨m,rfl⟩:∃m',m=m'+1:=⟨m-1,by lia⟩
  unfold hashByValue
  refine Pl (OJ hT hZ.lookup ?_)
  dsimp only
  refine Pl (Pz ho hd (Pl ?_))
  show wpAny _ _ (forIn zC _ _) _ _ s
  rw[<- jY]
  refine Oa _ (fun zI r s'=>r.1=none/\s'=s/\(∀v∈zI,v∈zC.toList)/\∃i,zI=zC.toList.drop i/\∀x∈ds.take i,NoS n x) _ ?_ ?_ _ _ ⟨rfl,rfl,fun v hv=>hv,0,rfl,fun x hx=>by rw[cW] at hx;cases hx⟩
  ·rintro v zI r s' ⟨hr,rfl,hv,i0,er,al⟩
   obtain⟨i,hi⟩:=d9.mp (hv v bT)
   have ev:zC.toList[i0]? = some v:=by
    have:=Pu (·[0]?) er
    simp only[List.getElem?_cons_zero,gY,j9] at this
    exact this.symm
   have er':zI=zC.toList.drop (i0+1):=by
    have:=Pu List.tail er
    rw[List.tail_cons,List.tail_drop] at this
    exact this
   obtain⟨d,ed,ad⟩:=qs.get i0 v ev
   refine Pl (ih m d v _ _ _ _ (by lia) (rk d (bH ed)) ad fun b hb=>?_)
   cases b with
   | true=>
    rw[Pn (by decide)]
    refine Pm ⟨rfl,rfl,fun u hu=>hv u (bU _ hu),i0+1,er',fun x hx=>?_⟩
    rw[fJ,ed] at hx
    rcases bZ.mp hx with hx|hx
    ·exact al x hx
    ·rw[bD.mp hx]
     exact hb rfl
   | false=>
    rw[Po (by decide)]
    refine Pm ?_
    exact Pm (h _ fun e=>(nomatch e))
  ·rintro⟨r1,r2⟩ s' ⟨hr,rfl,_,i0,er,al⟩
   dsimp only at hr
   subst hr
   refine Pm (h _ fun _=>⟨ds,rfl,?_⟩)
   have hge:ds.length<=i0:=by
    have e1:=Pu List.length er
    rw[dL,qs.length] at e1
    have e2:([]:AG).length=0:=rfl
    rw[e2] at e1
    lia
   rw[cN hge] at al
   exact al
structure Els(prog:Program)(w:World)(zQ:List (Addr×DV))(es:Array (Int×Value))(S:DV->Prop):Prop where
 all:∀e∈es.toList,∃d b,e.2=.ref b/\(b,d)∈zQ/\e.1=yU prog w d/\S d
 has:∀d,S d->∃e∈es.toList,∃b,e.2=.ref b/\(b,d)∈zQ
noncomputable def AtP(n:Nat)(zQ:List (Addr×DV))(h:Heap):Prop:=∀b d,(b,d)∈zQ->Rk n d/\AtD h d (.ref b)
theorem AtP.mono{n:Nat}{zQ:List (Addr×DV)}{h h':Heap}(s:Sub h h')(p:AtP n zQ h):AtP n zQ h':=fun b d m=>⟨(p b d m).1,AtD.mono s _ _ (p b d m).2⟩
def M6(prog:Program)(w:World)(n:Nat)(zQ:List (Addr×DV))(h:Heap)(a:Addr)(S:DV->Prop)(k:Nat):Prop:=
 ∃o es ep t,h.get? a=some o/\o.ExactSet/\o.data=.set es ep t/\Good t (es.toList.map (·.1))/\k*5<t.mask*3/\es.size=k/\(t.plain=true->∀d,S d->NoS n d)/\Els prog w zQ es S
theorem M6.at{n:Nat}{zQ:List (Addr×DV)}{h h':Heap}{a:Addr}{S:DV->Prop}{k:Nat}(x:M6 prog w n zQ h a S k)(e:∀o,h.get? a=some o->h'.get? a=some o):M6 prog w n zQ h' a S k:=by
 obtain⟨o,es,ep,t,ho,r⟩:=x
 exact⟨o,es,ep,t,e o ho,r⟩
theorem yw(es:Array (Int×Value)):(es.toList.map (·.1)).length=es.size:=by rw[bA,cO]
theorem Yr(es:Array (Int×Value))(i:Nat):(es.toList.map (·.1))[i]? = es[i]?.map (·.1):=by rw[bE,cM]
theorem Vt{n:Nat}(hn:n<=8){d:DV}{x:Value}(rk:Rk n d)(ax:AtD s.heap d x):∀(stored:AG),(∀y∈stored,∃d',Rk n d'/\AtD s.heap d' y)->∀{Q:Bool->Shared->Prop},Q false s->wpAny (model prog w) A (searchCouldBeSeen x stored) Q E s:=by
 intro stored all Q h
 unfold searchCouldBeSeen
 refine Pl ?_
 refine Oa _ (fun zI r s'=>r.1=none/\s'=s/\∀v∈zI,v∈stored) _ ?_ ?_ _ _ ⟨rfl,rfl,fun v hv=>hv⟩
 ·rintro v zI r s' ⟨hr,rfl,hv⟩
  obtain⟨d',rk',ay⟩:=all v (hv v bT)
  have nx:∀u∈zI,u∈stored:=fun u hu=>hv u (bU _ hu)
  dsimp only
  refine OG (fun _=>?_) (fun _=>?_)
  ·exact Pm ⟨rfl,rfl,nx⟩
  ·refine Pl (Yg n 8 d x _ _ _ _ hn rk ax ?_)
   rw[Pn (by decide)]
   refine Pl (Yg n 8 d' v _ _ _ _ hn rk' ay ?_)
   rw[Pn (by decide)]
   refine Pl (jw n 8 d x _ _ _ _ hn rk ax ?_)
   rw[Pn (by decide)]
   refine Pl (jw n 8 d' v _ _ _ _ hn rk' ay ?_)
   rw[Pn (by decide)]
   exact Pm ⟨rfl,rfl,nx⟩
 ·rintro⟨r1,r2⟩ s' ⟨hr,rfl,_⟩
  dsimp only at hr
  subst hr
  exact Pm h
theorem tD{A:Around}{E:AB}{s:Shared}{b:Addr}{Q:Bool->Shared->Prop}(h:Q true s):wpAny (model prog w) A (isSame (.ref b) (.ref b)) Q E s:=by
 unfold isSame
 dsimp only
 rw[Po (OH b)]
 exact Pm h
theorem iM{n:Nat}(h1:1<=n)(h8:n<=8){zQ:List (Addr×DV)}{a xa:Addr}{o:Obj}{es:Array (Int×Value)}{ep:Nat}{t:SetTable}{S:DV->Prop}{d:DV}{adding:Bool}{Q:SetFound->Shared->Prop}(hu:A.units+n<cLine)
  (ho:s.heap.get? a=some o) (hd:o.data=.set es ep t) (g:Good t (es.toList.map (·.1))) (els:Els prog w zQ es S) (atp:AtP n zQ s.heap) (rk:Rk n d) (ax:AtD s.heap d (.ref xa)) {e:Nat} (he:e<=10*(t.mask+13)) (fr:way t.mask (yU prog w d) e∉t.place.toList) (oc:∀k,k<e->way t.mask (yU prog w d) k∈t.place.toList)
  (yes:S d->∀r:Option Nat,(adding=false->r.isSome=true)->Q (.there r) s) (no:¬S d->Q (.free (way t.mask (yU prog w d) e) false) s):∀(fuel m:Nat) (S9:Option SetTable.Probe),m<=e->e-m<fuel->S9.getD (t.probeStart (yU prog w d))=rep (adv t.mask) m (t.probeStart (yU prog w d))->
   (∀(q i:Nat) (en:Int×Value),q<m->t.place[i]? = some (way t.mask (yU prog w d) q)->es[i]? = some en->¬AtD s.heap d en.2)->wpAny (model prog w) A (setSearchFrom a (.ref xa) (yU prog w d) adding fuel S9) Q E s:=by
 have ft:t.fits es.size=true:=by rw[<- yw];exact g.fits
 intro fuel
 induction fuel with
 | zero=>intro m S9 _ h;exact ND h (dU _)
 | succ fuel ih=>
  intro m S9 hm hf est vis
  unfold setSearchFrom
  refine Pl (OO ho hd ft ?_)
  dsimp only
  rw[g.gave,Pn (by decide),est]
  rcases Sq g.toPlain (fun i=>(es[i]?.map (·.1)).getD 0) (yU prog w d) hm he fr oc with ⟨q1,q2⟩|⟨q,i,q1,q2,q3,q4,q5,q6⟩
  ·erw [q1]
   dsimp only
   refine Pm (no fun sd=>?_)
   obtain⟨en,hen,b0,eb0,mb0⟩:=els.has d sd
   have aen:AtD s.heap d en.2:=by rw[eb0];exact(atp b0 d mb0).2
   obtain⟨i,hi⟩:=d9.mp hen
   rw[cM] at hi
   have lt:=(g0.mp hi).1
   have hpl:i<t.place.size:=by rw[g.size,yw];exact lt
   have epl:t.place[i]? = some t.place[i]:=dH hpl
   obtain⟨d',b1,eb1,mb1,eh,_⟩:=els.all en hen
   have ad':AtD s.heap d' en.2:=by rw[eb1];exact(atp b1 d' mb1).2
   have ed:=AtD.inj _ _ _ ad' aen
   subst ed
   obtain⟨k,k1,k2⟩:=g.reach i _ en.1 epl (by rw[Yr,hi];rfl)
   rw[eh] at k1 k2
   have kl:k<e:=by
    rcases lG k e with c|c|c
    ·exact c
    ·rw[c] at k1
     exact ND (bH (by rw[cM];exact epl)) (k1 ▸ fr)
    ·exact ND (k2 e c) fr
   rw[<- k1] at epl
   by_cases c:m<=k
   ·exact q2 k i c kl epl (by rw[hi];exact eh)
   ·exact vis k i en (by lia) epl hi ad'
  ·erw [q5]
   dsimp only
   have hi:i<es.size:=by
    have:=(g0.mp q3).1
    rw[g.size,yw] at this
    exact this
   have ei:es[i]? = some es[i]:=dH hi
   generalize es[i]=en at ei
   obtain⟨hk,y⟩:=en
   have hen:(hk,y)∈es.toList:=bH (by rw[cM];exact ei)
   obtain⟨d',b,eb,mb,eh,sd'⟩:=els.all _ hen
   dsimp only at eb eh
   subst eb
   obtain⟨rk',ad2⟩:=atp b d' mb
   have ad':=ad2
   have sm:t.sameMemory t.moves t.mask=some true:=by
    unfold SetTable.sameMemory
    rw[Po (OH _)]
   refine OG (fun _=>?_) (fun _=>?_)
   ·refine Pl (Vt h8 rk ax _ (fun y hy=>?_) ?_)
    ·obtain⟨z,hz,rfl⟩:=cD.mp hy
     obtain⟨d2,b2,eb2,mb2,_⟩:=els.all z (kP.mpr (Array.mem_filter.mp (kP.mp hz)).1)
     exact⟨d2,(atp b2 d2 mb2).1,by rw[eb2];exact(atp b2 d2 mb2).2⟩
    rw[Pn (by decide)]
    rw[ei]
    dsimp only
    refine Pl (Py (rF n d' d (.ref b) (.ref xa) A s rk' rk ad2 ax hu prog w _ _ (Pl (OO ho hd ft ?_))))
    dsimp only
    by_cases c:d'=d
    ·subst c
     rw[Pq rfl]
     refine OG (fun ca=>Pm (yes sd' _ fun ea=>by rw[ea] at ca;exact ND ca (by decide))) (fun _=>?_)
     rw[sm]
     dsimp only
     rw[Po rfl,uS g.toPlain q3]
     dsimp only
     rw[ei]
     refine Pl (tD (Pl (Pm ?_)))
     exact Pm (yes sd' _ fun _=>rfl)
    ·rw[Pt c,j6,Pn (by decide),sm]
     dsimp only
     rw[Po rfl,uS g.toPlain q3]
     dsimp only
     rw[ei]
     refine Pl (tD (Pl (Pm ?_)))
     refine ih (q+1) _ (by lia) (by lia) rfl fun q' i' en' hq' hp' he'=>?_
     by_cases z1:q'<m
     ·exact vis q' i' en' z1 hp' he'
     by_cases z2:q'<q
     ·intro had'
      have hn:=q6 q' i' (by lia) z2 hp'
      rw[he'] at hn
      obtain⟨d3,b3,eb3,mb3,eh3,_⟩:=els.all en' (bH (by rw[cM];exact he'))
      have ad3:AtD s.heap d3 en'.2:=by rw[eb3];exact(atp b3 d3 mb3).2
      rw[AtD.inj _ _ _ ad3 had'] at eh3
      exact hn eh3
     ·have eq':q'=q:=by lia
      subst eq'
      have ii:i'=i:=(vZ g.rise hp').symm.trans (vZ g.rise q3)
      subst ii
      rw[ei] at he'
      cases he'
      exact fun had'=>c (AtD.inj _ _ _ ad' had')
   ·rw[ei]
    dsimp only
    refine Pl (Py (rF n d' d (.ref b) (.ref xa) A s rk' rk ad2 ax hu prog w _ _ (Pl (OO ho hd ft ?_))))
    dsimp only
    by_cases c:d'=d
    ·subst c
     rw[Pq rfl]
     refine OG (fun ca=>Pm (yes sd' _ fun ea=>by rw[ea] at ca;exact ND ca (by decide))) (fun _=>?_)
     rw[sm]
     dsimp only
     rw[Po rfl,uS g.toPlain q3]
     dsimp only
     rw[ei]
     refine Pl (tD (Pl (Pm ?_)))
     exact Pm (yes sd' _ fun _=>rfl)
    ·rw[Pt c,j6,Pn (by decide),sm]
     dsimp only
     rw[Po rfl,uS g.toPlain q3]
     dsimp only
     rw[ei]
     refine Pl (tD (Pl (Pm ?_)))
     refine ih (q+1) _ (by lia) (by lia) rfl fun q' i' en' hq' hp' he'=>?_
     by_cases z1:q'<m
     ·exact vis q' i' en' z1 hp' he'
     by_cases z2:q'<q
     ·intro had'
      have hn:=q6 q' i' (by lia) z2 hp'
      rw[he'] at hn
      obtain⟨d3,b3,eb3,mb3,eh3,_⟩:=els.all en' (bH (by rw[cM];exact he'))
      have ad3:AtD s.heap d3 en'.2:=by rw[eb3];exact(atp b3 d3 mb3).2
      rw[AtD.inj _ _ _ ad3 had'] at eh3
      exact hn eh3
     ·have eq':q'=q:=by lia
      subst eq'
      have ii:i'=i:=(vZ g.rise hp').symm.trans (vZ g.rise q3)
      subst ii
      rw[ei] at he'
      cases he'
      exact fun had'=>c (AtD.inj _ _ _ ad' had')
theorem Good.dull{t:SetTable}{hs:AJ}(g:Good t hs):Good { t with plain:=false } hs:=⟨⟨g.d0,g.rise⟩,g.size,g.le,g.msk,g.room,g.reach⟩
theorem uo(es:Array (Int×Value)):∀l:List Nat,(∀k∈l,k<es.size)->(l.filterMap (es[·]?)).map (·.1)=l.map fun k=>(es.toList.map (·.1)).getD k 0
 | [],_=>rfl
 | k::l,h=>by
  have hk:=h k bT
  rw[List.filterMap_cons_some (dH hk),cJ,cJ,uo es l fun x hx=>h x (bU _ hx)]
  congr 1
  rw[bR,Yr,dH hk]
  rfl
theorem Tn{zQ:List (Addr×DV)}{es es':Array (Int×Value)}{S:DV->Prop}(x:Els prog w zQ es S)(p:es'.toList.Perm es.toList):Els prog w zQ es' S:=
 ⟨fun e he=>x.all e (p.mem_iff.mp he),fun d hd=>by
  obtain⟨e,he,q⟩:=x.has d hd
  exact⟨e,p.mem_iff.mpr he,q⟩⟩
theorem QO{n:Nat}(h1:1<=n)(h8:n<=8){zQ:List (Addr×DV)}{a xa:Addr}{S:DV->Prop}{k:Nat}{d:DV}{Q:Bool->Shared->Prop}(hu:A.units+n<cLine)(hS:M6 prog w n zQ s.heap a S k)(few:k+1<=4096)(atp:AtP n zQ s.heap)(mx:(xa,d)∈zQ)
  (yes:S d->∀b,Q b s) (fin:¬S d->∀h',Heap.SameBut a s.heap h'->M6 prog w n zQ h' a (fun d'=>S d'\/d'=d) (k+1)->∀b,Q b { s with heap:=h' }):wpAny (model prog w) A (setAddHashed a (.ref xa) (yU prog w d)) Q E s:=by
 obtain⟨o,es,ep,t,ho,hex,hd,g,room,ek,pl,els⟩:=hS
 obtain⟨rk,ax⟩:=atp xa d mx
 have ft:t.fits es.size=true:=by rw[<- yw];exact g.fits
 obtain⟨m2,hm2⟩:=qQ g.msk
 obtain⟨e,he,fr,oc⟩:=jc hm2 g.len (yU prog w d)
 have mm:=uO g.msk
 unfold setAddHashed setAddHashedIn
 refine Py (Pl (OO ho hd ft ?_))
 dsimp only
 have nb:byScan (.ref xa) es=false:=by unfold byScan;rfl
 rw[nb,Pn (by decide)]
 refine Pl ?_
 unfold setSearch
 refine iM h1 h8 hu ho hd g els atp rk ax he fr oc (fun sd r _=>?_) (fun nsd=>?_) 100000 0 none (cQ _) (by lia) rfl (fun q i en hq=>ND hq (dU _))
 ·exact Pm (yes sd _)
 dsimp only
 refine Pl (OO ho hd ft ?_)
 dsimp only
 obtain⟨g1,p1,p2⟩:=g.put (by rw[yw,ek];exact room) fr oc
 have p3:(t.put (way t.mask (yU prog w d) e)).1.plain=t.plain:=rfl
 generalize t.put (way t.mask (yU prog w d) e)=tp at g1 p1 p2 p3 ⊢
 obtain⟨t1,p⟩:=tp
 dsimp only at g1 p1 p2 p3 ⊢
 have el1:(SetTable.insertAt es p (yU prog w d,.ref xa)).toList=es.toList.take p++(yU prog w d,.ref xa)::es.toList.drop p:=SetTable.toList_insertAt _ _ _
 have hm1:(SetTable.insertAt es p (yU prog w d,.ref xa)).toList.map (·.1)=(es.toList.map (·.1)).take p++yU prog w d::(es.toList.map (·.1)).drop p:=by
  rw[el1,bM,cJ,List.map_take,List.map_drop]
 have Y9:Els prog w zQ (SetTable.insertAt es p (yU prog w d,.ref xa)) (fun d'=>S d'\/d'=d):=by
  refine⟨fun en hen=>?_,fun d' hd'=>?_⟩
  ·rw[el1] at hen
   rcases rV.mp hen with rfl|hen
   ·exact⟨d,xa,rfl,mx,rfl,.inr rfl⟩
   ·obtain⟨d2,b2,a1,a2,a3,a4⟩:=els.all en hen
    exact⟨d2,b2,a1,a2,a3,.inl a4⟩
  ·rw[el1]
   rcases hd' with hd'|rfl
   ·obtain⟨en,h1,h2⟩:=els.has d' hd'
    exact⟨en,rV.mpr (.inr h1),h2⟩
   ·exact⟨_,rV.mpr (.inl rfl),xa,rfl,mx⟩
 have sz1:(SetTable.insertAt es p (yU prog w d,.ref xa)).size=k+1:=by
  have:=Pu List.length el1
  rw[cO,bF,bW,bL,dL,cO] at this
  rw[yw] at p1
  lia
 generalize SetTable.insertAt es p (yU prog w d,.ref xa)=es1 at el1 hm1 Y9 sz1 ⊢
 rw[<- hm1] at g1
 clear hm1 el1 p1
 have zI:∀t2:SetTable,Good t2 (es1.toList.map (·.1))->t2.mask=t.mask->(t2.plain=true->∀d',S d'\/d'=d->NoS n d')->wpAny (model prog w) A (do
   storeSet a es1 t2
   if (!false && t2.tooFull)=true then do
    setRelay a (SetTable.grown (es.size+1))
    pure true
   else pure true) Q E s:=fun t2 g2 m2' pl2=>by
  refine Pl (wpAny_storeSet_of ho hd ?_ (by rw[sz1];show k+1<=2^24;lia))
  have ho1:(s.heap.update a (Obj.putSet es1 t2)).get? a=some { o with data:=.set es1 (ep+1) t2 }:=by
   have:=dO (Obj.putSet es1 t2) ho (by rw[putSet_of es1 t2 hd];rfl)
   rw[putSet_of es1 t2 hd] at this
   exact this
  have sb1:=fK s.heap a (Obj.putSet es1 t2)
  have ft1:t2.fits es1.size=true:=by rw[<- yw];exact g2.fits
  by_cases full:t2.tooFull=true
  ·rw[full]
   refine OG (fun _=>?_) (fun c=>ND rfl c)
   unfold setRelay
   refine Pl (Pl (OO ho1 rfl ft1 ?_))
   dsimp only
   obtain⟨t3,order,r1,r2,r3,r4,r5,r6,r7⟩:=g2.relaid full (by rw[yw,sz1];exact few)
   rw[yw,sz1,<- ek] at r1
   rw[yw,sz1,<- ek] at r2
   rw[Pn (by rw[OM];lia)]
   have ea:es1.map (·.1)=(es1.toList.map (·.1)).toArray:=by cases es1;simp
   rw[ea,r1]
   have pm:(order.filterMap (es1[·]?)).toList.Perm es1.toList:=by
    rw[Array.toList_filterMap]
    rw[yw] at r4
    exact(r4.filterMap _).trans (by rw[filterMap_getElem?_range])
   have s2:(order.filterMap (es1[·]?)).size=es1.size:=by rw[<- cO,pm.length_eq,cO]
   have h2:(order.filterMap (es1[·]?)).toList.map (·.1)=order.toList.map fun j=>(es1.toList.map (·.1)).getD j 0:=by
    rw[Array.toList_filterMap]
    refine uo es1 _ fun j hj=>?_
    have:=cY.mp (r4.mem_iff.mp hj)
    rwa [yw] at this
   rw[<- h2] at r5
   refine Pl ?_
   refine OG (fun c=>ND s2 (by simpa using c)) (fun _=>Pm ?_)
   dsimp only
   refine wpAny_storeSet_of ho1 rfl ?_ (by rw[s2,sz1];show k+1<=2^24;lia)
   have ho2:((s.heap.update a (Obj.putSet es1 t2)).update a (Obj.putSet (order.filterMap (es1[·]?)) t3)).get? a=some { o with data:=.set (order.filterMap (es1[·]?)) (ep+1+1) t3 }:=by
    have hd1:({ o with data:=.set es1 (ep+1) t2 }:Obj).data=.set es1 (ep+1) t2:=rfl
    have:=dO (Obj.putSet (order.filterMap (es1[·]?)) t3) ho1 (by rw[putSet_of _ t3 hd1];rfl)
    rw[putSet_of _ t3 hd1] at this
    exact this
   refine Pm (fin nsd _ (sb1.trans (fK _ a _)) ⟨_,_,_,_,ho2,hex,rfl,r5,by rw[<- sz1,<- yw];exact r6,by rw[s2,sz1],(fun e=>pl2 (r7 ▸ e)),Tn Y9 pm⟩ _)
  ·have nf:t2.tooFull=false:=by simpa using full
   rw[nf]
   refine OG (fun c=>ND c (by decide)) (fun _=>Pm ?_)
   refine fin nsd _ sb1 ⟨_,_,_,_,ho1,hex,rfl,g2,?_,sz1,pl2,Y9⟩ _
   unfold SetTable.tooFull SetTable.fill at nf
   rw[g2.size,g2.d0,yw,sz1] at nf
   have:=of_decide_eq_false nf
   simp at this
   lia
 have pl1:t1.plain=t.plain:=p3
 refine OG (fun pt=>?_) (fun pf=>?_)
 ·refine Pl (Th n 8 d (.ref xa) _ _ _ _ h8 rk ax fun b hb=>?_)
  cases b with
  | false=>exact zI _ (Good.dull g1) p2 fun e=>by cases e
  | true=>exact zI _ g1 p2 fun e d' hd'=>hd'.elim (pl (pl1 ▸ e) d') fun e'=>e' ▸ hb rfl
 ·refine Pl (Pm ?_)
  exact zI _ g1 p2 fun e=>ND e pf
section
variable{I:Addr}{fp wr:List Addr}{G:Array GenState->Array GenState->Prop}{n:Nat}{P:Nat->Value->Prop}{St:Nat->Shared->Prop}
abbrev HTo(prog:Program)(w:World)(r:Nat)(zQ:List (Addr×DV))(h:Heap)(a:Addr)(ks:List DV):Prop:=M6 prog w r zQ h a (·∈ks) (D8 ks).length
theorem tZ{R:Result->Shared->Prop}(W:WalksS prog w A.in1 I fp wr G n P St){a:Addr}(out:a∉fp){r:Nat}(h1:1<=r)(h8:r<=8)(hu:A.units+1+r<cLine){h0:Heap}(na:h0.get? a=none){zQ:List (Addr×DV)}(at0:AtP r zQ h0){ks:List DV}(lk:ks.length=n)
  (vals:∀i v,P i v->∃d b,ks[i]? = some d/\v=.ref b/\(b,d)∈zQ) (few:n<=4096) (fpn:∀b∈wr,h0.get? b=none) :
  ∀(todo i:Nat) (s:Shared),i+todo=n->St i s->Sub h0 s.heap->HTo prog w r zQ s.heap a (ks.take i)->
   (∀s',Moved (a::wr) G s s'->HTo prog w r zQ s'.heap a ks->R (.ok (.ret .none)) s')->codeAny (model prog w) A (.builtin "set.update.loop" ⟨[.ref a,.ref I],[]⟩) R s
 | 0,i,s,ei,st,sb,sx,fin=>by
  have e:ks.take i=ks:=cN (by lia)
  rw[e] at sx
  have ei':i=n:=by lia
  subst ei'
  refine Pw gS ?_
  rw[cH eS _]
  exact Pl (W.done s _ _ st fun s' mv=>Pm (fin s' (mv.mono fun b hb=>.tail _ hb) (M6.at sx fun o=>mv.heap a o fun q=>out (W.sub _ q))))
 | todo+1,i,s,ei,st,sb,sx,fin=>by
  refine Pw gS ?_
  rw[cH eS _]
  refine Pl (W.item i s _ _ (by lia) st fun v s1 hv st1 mv=>?_)
  obtain⟨d,b,ek,rfl,mb⟩:=vals i v hv
  obtain⟨rk,ad⟩:=at0 b d mb
  have sx1:=M6.at (h':=s1.heap) sx fun o=>mv.heap a o fun q=>out (W.sub _ q)
  have sb1:Sub h0 s1.heap:=fun b o e=>mv.heap b o (fun q=>by rw[fpn b q] at e;cases e) (sb b o e)
  refine Pl (Py (m:=setAdd a (.ref b)) ?_)
  unfold setAdd
  have lm:=kx (ks.take i)
  rw[bL] at lm
  have dr:=VN r d rk
  refine Py (Pl (Zh d (.ref b) _ _ s1 _ (AtD.mono sb1 _ _ ad) (by rw[fA];lia) fun tk tkl=>?_))
  have W0:D8 (ks.take (i+1))=if d∈D8 (ks.take i) then D8 (ks.take i) else D8 (ks.take i)++[d]:=Xo ek
  have T4:∀x,x∈ks.take (i+1)↔x∈ks.take i\/x=d:=fun x=>by
   rw[fJ,ek,bZ]
   simp
  refine QO (s:={ s1 with toks:=tk }) h1 h8 (by rw[fA];lia) sx1 (by lia) (AtP.mono sb1 at0) mb (fun hin b=>?_) (fun hout h2 sbb sx2 b=>?_)
  ·refine Pm ⟨OB eS _,tZ W out h1 h8 hu na at0 lk vals few fpn todo (i+1) _ (by lia) (W.frame _ s1 _ _ st1 tkl fun b hb o q=>q) sb1 ?_ fun s3 mv3 sx4=>?_⟩
   ·have hin':d∈D8 (ks.take i):=tP.mpr hin
    rw[Po hin'] at W0
    show M6 prog w r zQ s1.heap a _ (D8 (ks.take (i+1))).length
    rw[W0]
    obtain⟨o,es,ep,t,x1,x2,x3,x4,x5,x6,x8,x7⟩:=sx1
    refine⟨o,es,ep,t,x1,x2,x3,x4,x5,x6,fun e d' hd'=>x8 e d' (((T4 d').mp hd').elim id fun z=>z ▸ hin),fun e he=>?_,fun d' hd'=>x7.has d' ?_⟩
    ·obtain⟨d2,b2,y1,y2,y3,y4⟩:=x7.all e he
     exact⟨d2,b2,y1,y2,y3,(T4 d2).mpr (.inl y4)⟩
    ·exact((T4 d').mp hd').elim id fun z=>z ▸ hin
   ·exact fin s3 (.trans W.gtrans ((mv.mono fun b hb=>.tail _ hb).then_heap tkl fun b o hb q=>q) mv3) sx4
  ·have far:∀b,b≠a->h2.get? b=s1.heap.get? b:=fun b hb=>sbb.2 b hb
   have sb2:Sub h0 h2:=fun b o e=>by
    rw[far b fun z=>by rw[z,na] at e;cases e]
    exact sb1 b o e
   refine Pm ⟨OB eS _,tZ W out h1 h8 hu na at0 lk vals few fpn todo (i+1) _ (by lia) (W.frame _ s1 _ _ st1 tkl fun b hb o q=>?_) sb2 ?_ fun s3 mv3 sx4=>?_⟩
   ·rw[far b fun z=>out (z ▸ hb)]
    exact q
   ·have w0e:d∉D8 (ks.take i):=fun z=>hout (tP.mp z)
    rw[Pn w0e] at W0
    show M6 prog w r zQ h2 a _ (D8 (ks.take (i+1))).length
    rw[W0,bF]
    obtain⟨o,es,ep,t,x1,x2,x3,x4,x5,x6,x8,x7⟩:=sx2
    refine⟨o,es,ep,t,x1,x2,x3,x4,x5,x6,fun e d' hd'=>x8 e d' ((T4 d').mp hd'),fun e he=>?_,fun d' hd'=>x7.has d' ((T4 d').mp hd')⟩
    obtain⟨d2,b2,y1,y2,y3,y4⟩:=x7.all e he
    exact⟨d2,b2,y1,y2,y3,(T4 d2).mpr y4⟩
   ·refine fin s3 (.trans W.gtrans ((mv.mono fun b hb=>.tail _ hb).then_heap tkl fun b o hb q=>?_) mv3) sx4
    rw[far b fun z=>hb (z ▸ .head _)]
    exact q
end
end
end L2
namespace L2
open PySem PySem.Spec PyProof.Rows Tab
section
variable{prog:Program}{w:World}{A:Around}{E:AB}{s:Shared}
section
theorem Td(prog:Program)(w:World)(r:Nat)(zQ:List (Addr×DV)){h:Heap}{a:Addr}{led:Bool}(e:h.get? a=some (F1 led)):HTo prog w r zQ h a []:=
 ⟨_,#[],0,_,e,⟨rfl,rfl,rfl⟩,rfl,Good.fresh 0 0 led,(by show 0*5<7*3;decide),rfl,fun _ d hd=>(nomatch hd),fun e he=>(nomatch he),fun d hd=>(nomatch hd)⟩
theorem RD{T:String}{p:Addr}{o:Obj}{zC:AI}{c0 r:Nat}{ks:List DV}{zQ:List (Addr×DV)}{Q:AB}(at0:AtP r zQ s.heap)(hh:A.handled=none)(hp:s.heap.get? p=some o)(hc:o.cls=.type T)(hd:o.data=.seq zC c0)(hT:T="list"\/T="tuple")(h1:1<=r)(h8:r<=8)(hu:A.units+20<cLine)
  (lk:ks.length=zC.size) (vals:∀(i:Nat) v,zC[i]? = some v->∃d b,ks[i]? = some d/\v=.ref b/\(b,d)∈zQ) (few:zC.size<=4096)
  (fin:∀(h':Heap) (t:Nat),HTo prog w r zQ h' s.heap.objs.size ks->(∀b u,b<s.heap.objs.size->s.heap.get? b=some u->h'.get? b=some u)->Q (.ref s.heap.objs.size) { s with heap:=h',toks:=t }) :
  wpAny (model prog w) A (call (.type "set") [.ref p]) Q E s:=by
 obtain⟨c,tl,hmro⟩:=dM.mro
 have g1:=dM.made
 have g2:=dM.sub
 refine wpAny_call (codeAny_of_tree (Pm ⟨Code.quiet_builtin _ (by decide +kernel),Pw F.entry_type_call ?_⟩))
 rw[Around.under_plain (weight_type_call_type "set" [.ref p] []) rfl]
 have g3:=dM.notType
 have g4:=dM.canCreate
 have g5:=F.typeCall_set_1 (.ref p)
 repeat (any_goals (first|assumption|wp_step))
 refine OR (code_set_new_1 (.ref p) (E:=E) (Q₁:=fun u s1=>∃led,u=.ref s.heap.objs.size/\s1={ s with heap:=s.heap.push (F1 led) }) fun led=>⟨led,rfl,rfl⟩) fun r s1 q1=>?_
 rcases r with e|(_|_|_|u)
 all_goals try exact q1.elim
 all_goals try exact q1
 obtain⟨led,rfl,rfl⟩:=q1
 have at1:(s.heap.push (F1 led)).get? s.heap.objs.size=some (F1 led):=bJ _ rfl
 have ty1:Shared.TypeIs { s with heap:=s.heap.push (F1 led) } (.ref s.heap.objs.size) "set":=⟨_,at1,rfl⟩
 have g6:=dM.init.lookup
 have g7:=dM.init.bind (.ref s.heap.objs.size)
 repeat (any_goals (first|assumption|wp_step))
 refine OR (Ol (R:=wants (fun u s2=>u=.none/\∃h' t,s2={ s with heap:=h',toks:=t }/\HTo prog w r zQ h' s.heap.objs.size ks/\∀b u,b<s.heap.objs.size->s.heap.get? b=some u->h'.get? b=some u) E)
  dM.init.plain F.entry_set_init (check_set_init_1 ty1 ?_)) fun u s2 q2=>?_
 case _=>
  have hpS:p<s.heap.objs.size:=bQ hp
  obtain⟨oc,od,oa,os⟩:=o
  simp only at hc hd
  subst hc;subst hd
  have hp1:(s.heap.push (F1 led)).get? p=some { cls:=.type T,dict:=od,data:=.seq zC c0,slots:=os }:=bB _ hp
  have f1:isSubtype (.type T) (.type "set")=pure false:=by rcases hT with rfl|rfl<;>first|exact F.sub_list_set|exact Ty.Xt
  have f2:isSubtype (.type T) (.type "frozenset")=pure false:=by rcases hT with rfl|rfl<;>first|exact F.sub_list_frozenset|exact Ty.cw
  have f3:(Value.type T == Value.type "dict")=false:=by rcases hT with rfl|rfl<;>decide
  have hh3:A.in1.in1.in1.handled=none:=by simp[hh]
  have sz:(s.heap.push (F1 led)).objs.size=s.heap.objs.size+1:=eI _ _
  have apart:p≠(s.heap.push (F1 led)).objs.size:=by rw[sz];exact c8 (fH hpS)
  have out:s.heap.objs.size∉[(s.heap.push (F1 led)).objs.size,p]:=by rw[sz,bI,bD];exact fun z=>z.elim (c8 (gD _)) (fL hpS)
  have na:∀{b:Addr},s.heap.objs.size<=b->s.heap.get? b=none:=fun {b} hb=>by
   cases e:s.heap.get? b with
   | none=>rfl
   | some o=>exact ND (bQ e) (Nat.not_lt.mpr hb)
  have fpn:∀b∈[(s.heap.push (F1 led)).objs.size],s.heap.get? b=none:=fun b hb=>by
   rw[bD.mp hb,sz]
   exact na (fN _)
  have sb0:∀x:Obj,Sub s.heap ((s.heap.push (F1 led)).push x):=fun x b o e=>bB _ (bB _ e)
  have xS:∀x:Obj,HTo prog w r zQ ((s.heap.push (F1 led)).push x) s.heap.objs.size (ks.take 0):=fun x=>Td prog w r zQ (led:=led) (bB x at1)
  have ends:∀(x:Obj) (s':Shared),Moved [s.heap.objs.size,(s.heap.push (F1 led)).objs.size] (fun a b=>b=a) { s with heap:=(s.heap.push (F1 led)).push x } s'->HTo prog w r zQ s'.heap s.heap.objs.size ks->
    ∃h' t,s'={ s with heap:=h',toks:=t }/\HTo prog w r zQ h' s.heap.objs.size ks/\∀b u,b<s.heap.objs.size->s.heap.get? b=some u->h'.get? b=some u:=fun x s' mv sx=>by
   obtain⟨h',g',d',t',o'⟩:=s'
   obtain rfl:g'=s.gens:=mv.gens
   obtain rfl:d'=s.drawn:=mv.drawn
   obtain rfl:o'=s.os:=mv.os
   exact⟨h',t',rfl,sx,fun b u hb q=>mv.heap b u (by rw[sz,bI,bD];exact fun z=>z.elim (c8 hb) (c8 (fH hb))) (bB _ (bB _ q))⟩
  unfold Builtin.«set.__init__» noKeywords Builtin.Frozenset.updateFrom
  generalize hPI:pyIter=PI
  wp_walk
  subst hPI
  rcases hT with rfl|rfl
  ·have hl:(s.heap.push (F1 led)).IsList p zC:=⟨_,hp1,rfl,c0,rfl⟩
   refine ON hl (Pl (Oi ?_))
   refine tZ ((Walks.list hh3 _ p apart zC).toS) out h1 h8 (by simp only[fA];lia) (na (bG _)) at0 lk vals few fpn zC.size 0 _ (eZ _) ⟨⟨_,bJ _ rfl,rfl,rfl⟩,hl.push _⟩ (sb0 _) (xS _) fun s' mv sx=>?_
   exact Pm (Pm ⟨rfl,ends _ s' mv sx⟩)
  ·have hl:(s.heap.push (F1 led)).IsTuple p zC:=⟨_,hp1,rfl,c0,rfl⟩
   refine OL hl (Pl (Oi ?_))
   refine tZ ((Walks.tuple hh3 _ p apart zC).toS) out h1 h8 (by simp only[fA];lia) (na (bG _)) at0 lk vals few fpn zC.size 0 _ (eZ _) ⟨⟨_,bJ _ rfl,rfl,rfl⟩,hl.push _⟩ (sb0 _) (xS _) fun s' mv sx=>?_
   exact Pm (Pm ⟨rfl,ends _ s' mv sx⟩)
 ·rcases u with e|(_|_|_|u)
  all_goals try exact q2.elim
  all_goals try exact q2
  obtain⟨rfl,h',t,rfl,sx,kp⟩:=q2
  repeat (any_goals (first|assumption|wp_step))
  exact fin _ _ sx kp
end
end
end L2
namespace L2
open PySem PySem.Spec PyProof.Rows Tab
section
variable{X:Cx}
theorem ux{z4:List AE}{σ:St}{H:Hp}{s:Shared}(I:Inv X z4 σ H s):∀(n:Nat) (d:DV) (x:V) (v:Value),Rk n d->Tell H d x->RelV x v->AtD s.heap d v:=by
 intro n
 induction n with
 | zero=>
  rintro _ x v ⟨z,rfl⟩ t r
  unfold Tell at t
  subst t
  obtain⟨t,rfl⟩:=r
  unfold AtD
  exact⟨t,rfl⟩
 | succ n ih=>
  rintro _ x v ⟨ds,rfl,rk⟩ t r
  unfold Tell at t
  obtain⟨a,xs,rfl,ha,hl,ts⟩:=t
  cases r
  obtain⟨zC,rv,pl,hz⟩:=I.tuple (SqT.of ha)
  unfold AtD
  refine⟨a,zC.toArray,rfl,pl,?_⟩
  clear pl ha hl hz
  show C9 s.heap ds zC
  induction ds generalizing xs zC with
  | nil=>
   unfold zF at ts
   subst ts
   cases rv
   unfold C9
   rfl
  | cons d ds ihd=>
   unfold zF at ts
   obtain⟨y,r,rfl,t1,t2⟩:=ts
   cases rv with
   | cons r1 r2=>
    unfold C9
    exact⟨_,_,rfl,ih d y _ (rk d bT) t1 r1,ihd (fun z hz=>rk z (bU _ hz)) r t2 _ r2⟩
theorem YI:∀{xs:AK}{us:AG},Vals xs us->∀(i:Nat) (v:Value),us[i]? = some v->∃x,xs[i]? = some x/\RelV x v
 | [],_,.nil,i,v,h=>by simp at h
 | x::xs,u::us,.cons r rs,0,v,h=>by
  simp at h
  subst h
  exact⟨x,rfl,r⟩
 | x::xs,u::us,.cons r rs,i+1,v,h=>by
  simp at h
  obtain⟨y,a,b⟩:=YI rs i v h
  exact⟨y,by simpa using a,b⟩
noncomputable def O3(P:Program)(w:World)(a:Addr)(r:Nat)(zQ:List (Addr×DV)):HO:=.ext fun h=>HTo P w r zQ h a (zQ.map (·.2))
theorem O3.new{P:Program}{w:World}{H:Hp}{r:Nat}{zQ:List (Addr×DV)}{h:Heap}{a:Addr}(x:HTo P w r zQ h a (zQ.map (·.2))):zv P w H h a (O3 P w a r zQ):=by
 refine⟨x,?_,fun h1 h2 y e=>M6.at y e⟩
 obtain⟨o,_,_,_,e,_⟩:=x
 exact⟨o,e⟩
noncomputable def wK(zQ:List (Addr×DV)):AK:=zQ.map fun q=>.ref q.1
theorem mT{z4:List AE}{σ:St}{H:Hp}{s:Shared}(I:Inv X z4 σ H s){r:Nat}{zQ:List (Addr×DV)}(h:∀b d,(b,d)∈zQ->Rk r d/\Tell H d (.ref b)):AtP r zQ s.heap:=fun b d m=>⟨(h b d m).1,ux I r d (.ref b) (.ref b) (h b d m).1 (h b d m).2 rfl⟩
theorem Ri(hc:X.calm=true)(hu:X.A.units+20<cLine){F:Addr->Nat->List (Addr×DV)->HO}(fok:∀{H:Hp}{h:Heap}{a:Addr}{r:Nat}{zQ:List (Addr×DV)},HTo X.prog X.w r zQ h a (zQ.map (·.2))->zv X.prog X.w H h a (F a r zQ)) :
  yo X (.type "set") (fun xs H Q=>∃p r zQ,xs=[.ref p]/\(SqL X.K H p (wK zQ)\/SqT X.K H p (wK zQ))/\1<=r/\r<=8/\(∀b d,(b,d)∈zQ->Rk r d/\Tell H d (.ref b))/\zQ.length<=4096/\∀l,H l=none->Q (.ref l) (upd H l (F l r zQ))):=by
 intro z4 s σ H xs us Q I r h
 obtain⟨p,rk,zQ,rfl,hq,h1,h8,hr,hl,q⟩:=h
 obtain⟨u,rfl,rx⟩:=xK r
 cases rx
 have go:∀(T:String) (o:Obj) (zC:AG) (c0:Nat),s.heap.get? p=some o->o.cls=.type T->o.data=.seq zC.toArray c0->(T="list"\/T="tuple")->Vals (wK zQ) zC->wpAny (model X.prog X.w) X.A (call (.type "set") [.ref p]) (EP X z4 σ Q) X.xe s:=
  fun T o zC c0 ho hcl hda hT rv=>by
   have ln:zQ.length=zC.length:=by have:=rv.length;unfold wK at this;rwa [bA] at this
   refine RD (r:=rk) (zQ:=zQ) (ks:=zQ.map (·.2)) (mT I hr) (I.ok.hd hc) ho hcl hda hT h1 h8 hu (by rw[bN,<- ln,bA]) (fun i v hv=>?_) (by rw[bN,<- ln];exact hl) fun h' t sx kp=>?_
   ·obtain⟨x,ex,rv'⟩:=YI rv i v (by simpa using hv)
    unfold wK at ex
    rw[bE] at ex
    obtain⟨pq,epq,rfl⟩:=bV.mp ex
    obtain⟨b,d⟩:=pq
    cases rv'
    exact⟨d,b,by rw[bE,epq];rfl,rfl,bH epq⟩
   ·refine⟨.ref s.heap.objs.size,_,I.laid (a:=s.heap.objs.size) (o:=F s.heap.objs.size rk zQ) (h':=h') (t':=t) (fun b u q1=>kp b u (bQ q1) q1) (bG _) (fok sx),rfl,q _ (I.hok.fresh (bG _))⟩
 rcases hq with hq|hq
 ·obtain⟨zC,rv,pl,_⟩:=I.list hq
  obtain⟨o,ho,hcl,n,hda⟩:=pl.isList
  exact go "list" o zC n ho hcl hda (.inl rfl) rv
 ·obtain⟨zC,rv,pl,_⟩:=I.tuple hq
  obtain⟨o,ho,hcl,n,hda⟩:=pl
  exact go "tuple" o zC n ho hcl hda (.inr rfl) rv
theorem mQ{H:Hp}{r:Nat}(h1:1<=r):∀{ds:List DV}{us:AK},zF H ds us->(∀d∈ds,Rk r d)->∃zQ:List (Addr×DV),us=wK zQ/\ds=zQ.map (·.2)/\∀b d,(b,d)∈zQ->Rk r d/\Tell H d (.ref b)
 | [],us,t,_=>by
  unfold zF at t
  subst t
  exact⟨[],rfl,rfl,fun b d m=>(nomatch m)⟩
 | d::ds,us,t,rk=>by
  unfold zF at t
  obtain⟨x,t',rfl,tx,tt⟩:=t
  obtain⟨zQ,e1,e2,e3⟩:=mQ h1 tt fun z hz=>rk z (bU _ hz)
  have rd:=rk d bT
  obtain⟨b,rfl⟩:∃b,x=.ref b:=by
   obtain⟨k,rfl⟩:∃k,r=k+1:=⟨r-1,by lia⟩
   obtain⟨es,rfl,_⟩:=rd
   unfold Tell at tx
   obtain⟨a,xs,e,_⟩:=tx
   exact⟨a,e⟩
  refine⟨(b,d)::zQ,by rw[e1];rfl,by rw[e2];rfl,fun b' d' m=>?_⟩
  rcases bI.mp m with e|m
  ·cases e
   exact⟨rd,tx⟩
  ·exact e3 b' d' m
end
end L2
namespace L2
open PySem PySem.Spec PyProof.Rows Tab
section
variable{prog:Program}{w:World}{A:Around}{E:AB}{s:Shared}
theorem UE{n:Nat}(h1:1<=n)(h8:n<=8){zQ:List (Addr×DV)}{a xa:Addr}{S:DV->Prop}{k:Nat}{d:DV}{Q:Option Nat->Shared->Prop}(hu:A.units+n<cLine)(hS:M6 prog w n zQ s.heap a S k)(atp:AtP n zQ s.heap)(rk:Rk n d)(ax:AtD s.heap d (.ref xa))
  (fin:∀r:Option Nat,(r.isSome=true↔S d)->Q r s):wpAny (model prog w) A (setFind a (.ref xa) (yU prog w d)) Q E s:=by
 obtain⟨o,es,ep,t,ho,hex,hd,g,room,ek,pl,els⟩:=hS
 have ft:t.fits es.size=true:=by rw[<- yw];exact g.fits
 obtain⟨m2,hm2⟩:=qQ g.msk
 obtain⟨e,he,fr,oc⟩:=jc hm2 g.len (yU prog w d)
 have mm:=uO g.msk
 unfold setFind setFindIn
 refine Pl (OO ho hd ft ?_)
 dsimp only
 have nb:byScan (.ref xa) es=false:=by unfold byScan;rfl
 rw[nb,Pn (by decide)]
 refine Pl ?_
 unfold setSearch
 refine iM (adding:=false) h1 h8 hu ho hd g els atp rk ax he fr oc (fun sd r hr=>?_) (fun nsd=>?_) 100000 0 none (cQ _) (by lia) rfl (fun q i en hq=>ND hq (dU _))
 ·exact Pm (fin r ⟨fun _=>sd,fun _=>hr rfl⟩)
 ·exact Pm (fin none ⟨fun h=>ND h (by decide),fun h=>ND h nsd⟩)
theorem Uk{a:Addr}{o:Obj}{es:Array (Int×Value)}{ep:Nat}{t:SetTable}{Q:Array (Int×Value)->Shared->Prop}(ho:s.heap.get? a=some o)(hd:o.data=.set es ep t)(ft:t.fits es.size=true)(few:t.plain=true->es.size<=1)
  (fin:∀(ys:Array (Int×Value)) (d:Drawn),ys.toList.Perm es.toList->Q ys { s with drawn:=d }):wpAny (model prog w) A (setWalk a) Q E s:=by
 unfold setWalk
 refine Pl (OO ho hd ft ?_)
 dsimp only
 unfold setsByText
 refine Pl (Pl (wpAny_askSetting (Pm ?_)))
 refine OG (fun _=>?_) (fun _=>?_)
 ·refine Pl (wpAny_askSetting ?_)
  refine Pm ?_
  have e:s={ s with drawn:=s.drawn }:=rfl
  rw[e]
  exact fin _ _ (Sb _ _)
 refine OG (fun dr=>?_) (fun nd=>?_)
 ·refine Pl (Rh _ _ s _ (by simp) fun ys d hp=>Pm (fin _ d hp))
 ·have h1:es.size<=1:=by
   by_cases p:t.plain=true
   ·exact few p
   ·refine Nat.not_lt.mp fun h=>nd ?_
    show(!t.plain && decide (es.size > 1))=true
    rw[Bool.not_eq_true] at p
    rw[p]
    exact Pq h
  refine Pl ?_
  refine OG (fun c=>?_) (fun _=>Pm ?_)
  ·exfalso
   have c':(!t.led && decide (es.size > 1))=true:=c
   rw[bX,Pp] at c'
   lia
  refine Pm ?_
  have e:s={ s with drawn:=s.drawn }:=rfl
  rw[e]
  exact fin _ _ (List.Perm.refl _)
namespace Ty
theorem PV:entryFor table "set.__ne__"=some Builtin.«frozenset.__ne__»:=entryFor_alias (id':="frozenset.__ne__") (by kernel_rfl) rfl (by decide +kernel) (by kernel_rfl)
theorem PJ:isSubtype (.type "set") (.type "set")=pure true:=by rw[OV];kernel_rfl
theorem WS:isSubtype (.type "set") (.type "frozenset")=pure false:=by rw[OV];kernel_rfl
end Ty
theorem Sk{n:Nat}{d:DV}{b:Addr}{Q:Bool->Shared->Prop}(h1:1<=n)(rk:Rk n d)(ax:AtD s.heap d (.ref b))(h:Q false s):wpAny (model prog w) A (Builtin.Frozenset.quietEq (.ref b)) Q E s:=by
 obtain⟨n,rfl⟩:∃k,n=k+1:=⟨n-1,by lia⟩
 obtain⟨ds,rfl,_⟩:=rk
 unfold AtD at ax
 obtain⟨a,zC,e,⟨o,ho,hc,_⟩,_⟩:=ax
 cases e
 have hT:s.TypeIs (.ref b) "tuple":=⟨o,ho,hc⟩
 unfold Builtin.Frozenset.quietEq
 refine Pl (OJ hT F.slot_tuple_eq.lookup (Pm ?_))
 exact h
theorem RZ{n:Nat}(h1:1<=n)(h8:n<=8){zQ L4:List (Addr×DV)}{a b:Addr}{S S':DV->Prop}{k:Nat}{nm:String}{Q:Bool->Shared->Prop}(hu:A.units+n<cLine)(hS:M6 prog w n zQ s.heap a S k)(hS':M6 prog w n L4 s.heap b S' k)(atp:AtP n zQ s.heap)(Y6:AtP n L4 s.heap)
  (one:(∀d,S d->NoS n d)->k<=1) (fin:∀(r:Bool) (dr:Drawn),(r=true↔∀d,S d->S' d)->Q r { s with drawn:=dr }):wpAny (model prog w) A (Builtin.Frozenset.subsetOf nm a b) Q E s:=by
 obtain⟨o,es,ep,t,ho,hex,hd,g,room,ek,pl,els⟩:=id hS
 obtain⟨o',es',ep',t',ho',hex',hd',g',room',ek',pl',els'⟩:=id hS'
 have ft:t.fits es.size=true:=by rw[<- yw];exact g.fits
 have ft':t'.fits es'.size=true:=by rw[<- yw];exact g'.fits
 unfold Builtin.Frozenset.subsetOf Builtin.Frozenset.sizeOf
 refine Pl (Pl (OU ho hd ft (Pm ?_)))
 refine Pl (Pl (OU ho' hd' ft' (Pm ?_)))
 rw[Pn (by lia)]
 refine Pl (wpAny_setEpoch_of ho hd ft ?_)
 have walk:∀(Q':List (Int×Value)->Shared->Prop),(∀(ys:List (Int×Value)) (dr:Drawn),ys.Perm es.toList->Q' ys { s with drawn:=dr })->wpAny (model prog w) A (Builtin.Frozenset.walkUnseen a b) Q' E s:=fun Q' f=>by
  unfold Builtin.Frozenset.walkUnseen
  refine Pl (OU ho hd ft (Pl (OU ho' hd' ft' (Pl ?_))))
  cases hes:es.toList with
  | nil=>
   have hz:es'.toList=[]:=dD (by
    have:=Pu List.length hes
    rw[cO,fO] at this
    rw[cO]
    lia)
   rw[hz]
   refine Pm ?_
   refine Pm ?_
   have e:s={ s with drawn:=s.drawn }:=rfl
   rw[e]
   exact f _ _ (by rw[hes])
  | cons y ys=>
   obtain⟨d,c,ec,mc,_⟩:=els.all y (by rw[hes];exact bT)
   rw[List.cons_append,kR]
   refine Pl ?_
   obtain⟨hy,vy⟩:=y
   dsimp only at ec
   subst ec
   refine Pl (Sk h1 (atp c d mc).1 (atp c d mc).2 ?_)
   rw[Po (by decide)]
   refine Pl ?_
   unfold Builtin.Frozenset.walk
   refine Pl (Uk ho hd ft (fun p=>by rw[ek];exact one (pl p)) fun zs dr hp=>Pm (Pm ?_))
   exact Pm (Pm (f _ dr hp))
 refine Pl (walk _ fun ys dr hp=>Pl ?_)
 have my:∀y∈ys,y∈es.toList:=fun y hy=>hp.mem_iff.mp hy
 refine Oa _ (fun zI r s'=>r.1=none/\s'={ s with drawn:=dr }/\(∀y∈zI,y∈ys)/\∀y∈ys,y∈zI\/∀d,AtD s.heap d y.2->S' d) _ ?_ ?_ _ _ ⟨rfl,rfl,fun y hy=>hy,fun y hy=>.inl hy⟩
 ·rintro⟨h,x⟩ zI r s' ⟨hr,rfl,hin,D4⟩
  obtain⟨d,c,ec,mc,eh,sd⟩:=els.all (h,x) (my _ (hin _ bT))
  dsimp only at ec eh
  subst ec
  subst eh
  obtain⟨rk,ad⟩:=atp c d mc
  refine Pl (Py (UE (s:={ s with drawn:=dr }) h1 h8 hu hS' Y6 rk ad fun q hq=>?_))
  cases q with
  | none=>
   rw[Po (by decide)]
   refine Pm ?_
   refine Pm (fin false dr ⟨(fun h=>by cases h),fun h=>?_⟩)
   exact ND (hq.mpr (h d sd)) (by decide)
  | some i=>
   rw[Pn (show ¬(some i).isNone=true from bP)]
   unfold Builtin.Frozenset.unchanged
   refine Pl (Pl (wpAny_setEpoch_of (s:={ s with drawn:=dr }) ho hd ft ?_))
   rw[Pn (by simp)]
   refine Pm (Pm ⟨rfl,rfl,fun y hy=>hin y (bU _ hy),fun y hy=>?_⟩)
   rcases D4 y hy with h|h
   ·rcases bI.mp h with rfl|h
    ·exact .inr fun d' ad'=>by rw[AtD.inj d' d _ ad' ad];exact hq.mp rfl
    ·exact .inl h
   ·exact .inr h
 ·rintro⟨r1,r2⟩ s' ⟨hr,rfl,_,D4⟩
  dsimp only at hr
  subst hr
  refine Pm (fin true dr ⟨fun _ d sd=>?_,fun _=>rfl⟩)
  obtain⟨e,he,c,ec,mc⟩:=els.has d sd
  rcases D4 e (hp.mem_iff.mpr he) with h|h
  ·cases h
  ·exact h d (by rw[ec];exact(atp c d mc).2)
theorem VG{n:Nat}(h1:1<=n)(h8:n<=8){zQ L4:List (Addr×DV)}{a b:Addr}{S S':DV->Prop}{k k':Nat}{Q:AB}(hu:A.units+20<cLine)(hS:M6 prog w n zQ s.heap a S k)(hS':M6 prog w n L4 s.heap b S' k')(atp:AtP n zQ s.heap)(Y6:AtP n L4 s.heap)
  (one:(∀d,S d->NoS n d)->k<=1) (fin:∀(r:Bool) (dr:Drawn),(r=false↔k=k'/\∀d,S d->S' d)->Q (.bool r) { s with drawn:=dr }):wpAny (model prog w) A (compareOp .NotEq (.ref a) (.ref b)) Q E s:=by
 obtain⟨o,es,ep,t,ho,hex,hd,g,room,ek,pl,els⟩:=id hS
 obtain⟨o',es',ep',t',ho',hex',hd',g',room',ek',pl',els'⟩:=id hS'
 have hT:s.TypeIs (.ref a) "set":=⟨o,ho,hex.1⟩
 have hT':s.TypeIs (.ref b) "set":=⟨o',ho',hex'.1⟩
 have ft:t.fits es.size=true:=by rw[<- yw];exact g.fits
 have ft':t'.fits es'.size=true:=by rw[<- yw];exact g'.fits
 refine wpAny_richCompare_same_room (op:=.NotEq) hT hT' F.slot_set_ne (OD F.slot_set_ne hT Ty.PV ?_ (F.args_set_ne_2 _ _)) (by lia)
 unfold Builtin.«frozenset.__ne__»
 refine Pl ?_
 unfold Builtin.Frozenset.slot1
 refine Pl (Pm ?_)
 refine Pm ?_
 dsimp only
 refine Pl ?_
 unfold Builtin.Frozenset.isAnySet orM
 refine Pl (OZ hT' Ty.PJ ?_)
 refine Pm ?_
 rw[Pn (by decide)]
 refine Pl (Pm ?_)
 refine Pl (Pm ?_)
 unfold Builtin.Frozenset.sizeOf
 refine Pl (Pl (OU ho hd ft (Pm ?_)))
 refine Pl (Pl (OU ho' hd' ft' (Pm ?_)))
 rw[ek,ek']
 by_cases hk:k=k'
 ·subst hk
  refine Pl ?_
  rw[Pn (by simp)]
  unfold andM
  refine Pl (Pl (OZ hT Ty.WS (Pm ?_)))
  rw[Pn (by decide)]
  refine RZ h1 h8 (by rw[fA];lia) hS hS' atp Y6 one fun r dr hr=>?_
  refine Pm ⟨_,rfl,(fun e=>nomatch e),fin _ dr ?_⟩
  cases r with
  | true=>exact⟨fun _=>⟨rfl,hr.mp rfl⟩,fun _=>rfl⟩
  | false=>exact⟨fun e=>(by cases e),fun e=>ND (hr.mpr e.2) (by decide)⟩
 ·refine Pl ?_
  rw[Po (by simpa using hk)]
  refine Pm ?_
  have e:s={ s with drawn:=s.drawn }:=rfl
  rw[e]
  exact Pm ⟨_,rfl,(fun e=>nomatch e),fin _ s.drawn ⟨(fun e=>by cases e),fun e=>ND e.1 hk⟩⟩
end
section
variable{X:Cx}
noncomputable def rNeD(P:Program)(w:World):R2:=fun x y H Q=>∃a b r zQ L4,x=.ref a/\y=.ref b/\H a=some (O3 P w a r zQ)/\H b=some (O3 P w b r L4)/\1<=r/\r<=8/\(∀c d,(c,d)∈zQ->Rk r d/\Tell H d (.ref c))/\(∀c d,(c,d)∈L4->Rk r d/\Tell H d (.ref c))/\
 ((∀d∈zQ.map (·.2),NoS r d)->(D8 (zQ.map (·.2))).length<=1)/\∀v:Bool,(v=false↔(D8 (zQ.map (·.2))).length=(D8 (L4.map (·.2))).length/\∀d∈zQ.map (·.2),d∈L4.map (·.2))->Q (.bl v) H
theorem Wo(hu:X.A.units+20<cLine):OpR X (compareOp .NotEq) (rNeD X.prog X.w):=by
 intro z4 s σ H x y v u Q I rx ry h
 obtain⟨a,b,r,zQ,L4,rfl,rfl,ha,hb,h1,h8,t,t',one,q⟩:=h
 cases rx
 cases ry
 have sa:=(show zv X.prog X.w H s.heap a (O3 X.prog X.w a r zQ) from I.hok a _ ha).1
 have sb:=(show zv X.prog X.w H s.heap b (O3 X.prog X.w b r L4) from I.hok b _ hb).1
 exact VG h1 h8 hu sa sb (mT I t) (mT I t') one fun v dr hv=>⟨.bl v,H,I.V3 dr,rfl,q v hv⟩
theorem mW{h:Heap}{d:DV}:∀{ds:List DV}{vs:AG},C9 h ds vs->(vs.any fun v=>@decide (AtD h d v) (Classical.propDecidable _))=decide (d∈ds)
 | [],vs,q=>by
  unfold C9 at q
  subst q
  exact(Pt (fun h=>nomatch h)).symm
 | d'::ds,vs,q=>by
  unfold C9 at q
  obtain⟨v,r,rfl,q1,q2⟩:=q
  rw[fZ,mW q2,cX,gU,@decide_eq_true_eq _ (Classical.propDecidable _),Pp,Pp,bI]
  exact or_congr ⟨fun q=>AtD.inj _ _ _ q q1,fun e=>e ▸ q1⟩ Iff.rfl
theorem qa{z4:List AE}{σ:St}{H:Hp}{s:Shared}(I:Inv X z4 σ H s){r:Nat}:∀{ds:List DV}{us:AK}{vs:AG},(∀d∈ds,Rk r d)->zF H ds us->Vals us vs->C9 s.heap ds vs
 | [],us,vs,_,t,rv=>by
  unfold zF at t
  subst t
  cases rv
  unfold C9
  rfl
 | d::ds,us,vs,rk,t,rv=>by
  unfold zF at t
  obtain⟨y,u,rfl,t1,t2⟩:=t
  cases rv with
  | cons r1 r2=>
   unfold C9
   exact⟨_,_,rfl,ux I r d y _ (rk d bT) t1 r1,qa I (fun z hz=>rk z (bU _ hz)) t2 r2⟩
noncomputable def rInD(K:AA)(neg:Bool):R2:=fun x y H Q=>∃p us ds d r,y=.ref p/\Tell H d x/\Rk r d/\r<=8/\SqL K H p us/\zF H ds us/\(∀d∈ds,Rk r d)/\Q (.bl (neg != decide (d∈ds))) H
theorem aw(hu:X.A.units+20<cLine):OpR X (compareOp .In) (rInD X.K false):=by
 intro z4 s σ H x y v u Q I rx ry h
 obtain⟨p,us,ds,d,r,rfl,td,rk,r8,hp,ts,rks,q⟩:=h
 cases ry
 obtain⟨zC,rv,pl,hz⟩:=I.list hp
 have ad:=ux I r d x v rk td rx
 have all:=qa I rks ts rv
 refine SeqAt.in_listAt (fun v=>@decide (AtD s.heap d v) (Classical.propDecidable _)) pl.isList (fun z hz=>?_) ⟨.bl _,H,I,rfl,?_⟩
 ·obtain⟨i,hi⟩:=d9.mp (show z∈zC from by simpa using hz)
  obtain⟨d',ed',ad'⟩:=all.get i z hi
  have:=rF r d' d z v X.A.in1 s (rks d' (bH ed')) rk ad' ad (by rw[fA];lia)
  rw[show(@decide (AtD s.heap d z) (Classical.propDecidable _))=decide (d'=d) from(@decide_eq_decide _ _ (Classical.propDecidable _) _).mpr ⟨fun h=>AtD.inj _ _ _ ad' h,fun e=>e ▸ ad'⟩]
  exact this
 ·rw[show(zC.toArray.any fun v=>@decide (AtD s.heap d v) (Classical.propDecidable _))=zC.any fun v=>@decide (AtD s.heap d v) (Classical.propDecidable _) by simp,mW all]
  rw[show(false != decide (d∈ds))=decide (d∈ds) by cases decide (d∈ds)<;>rfl] at q
  exact q
theorem RX(hu:X.A.units+20<cLine):OpR X (compareOp .NotIn) (rInD X.K true):=by
 intro z4 s σ H x y v u Q I rx ry h
 obtain⟨p,us,ds,d,r,rfl,td,rk,r8,hp,ts,rks,q⟩:=h
 cases ry
 obtain⟨zC,rv,pl,hz⟩:=I.list hp
 have ad:=ux I r d x v rk td rx
 have all:=qa I rks ts rv
 refine SeqAt.notIn_listAt (fun v=>@decide (AtD s.heap d v) (Classical.propDecidable _)) pl.isList (fun z hz=>?_) ⟨.bl _,H,I,rfl,?_⟩
 ·obtain⟨i,hi⟩:=d9.mp (show z∈zC from by simpa using hz)
  obtain⟨d',ed',ad'⟩:=all.get i z hi
  have:=rF r d' d z v X.A.in1 s (rks d' (bH ed')) rk ad' ad (by rw[fA];lia)
  rw[show(@decide (AtD s.heap d z) (Classical.propDecidable _))=decide (d'=d) from(@decide_eq_decide _ _ (Classical.propDecidable _) _).mpr ⟨fun h=>AtD.inj _ _ _ ad' h,fun e=>e ▸ ad'⟩]
  exact this
 ·rw[show(zC.toArray.any fun v=>@decide (AtD s.heap d v) (Classical.propDecidable _))=zC.any fun v=>@decide (AtD s.heap d v) (Classical.propDecidable _) by simp,mW all]
  rw[show(true != decide (d∈ds))=!decide (d∈ds) by cases decide (d∈ds)<;>rfl] at q
  exact q
theorem iJ(hc:X.calm=true)(hu:X.A.units+20<cLine):yo X (.type "set") (fun xs H Q=>∃p r zQ,xs=[.ref p]/\(SqL X.K H p (wK zQ)\/SqT X.K H p (wK zQ))/\1<=r/\r<=8/\(∀b d,(b,d)∈zQ->Rk r d/\Tell H d (.ref b))/\zQ.length<=4096/\∀l,H l=none->Q (.ref l) (upd H l (O3 X.prog X.w l r zQ))):=
 Ri hc hu (F:=fun a r zQ=>O3 X.prog X.w a r zQ) fun x=>O3.new x
end
end L2
namespace My
open PySem L2
theorem NF{α:Sort _}{p q:α->Prop}{a:α}(h1:p a)(h2:q a):∃v,p v/\q v:=⟨a,h1,h2⟩
theorem NG{t0 t1:Type}{p:t0->t1->Prop}(a0:t0)(a1:t1)(h:p a0 a1):∃a0 a1,p a0 a1:=⟨a0,a1,h⟩
theorem NH{t0 t1 t2:Type}{p:t0->t1->t2->Prop}(a0:t0)(a1:t1)(a2:t2)(h:p a0 a1 a2):∃a0 a1 a2,p a0 a1 a2:=⟨a0,a1,a2,h⟩
theorem NI{t0 t1 t2 t3:Type}{p:t0->t1->t2->t3->Prop}(a0:t0)(a1:t1)(a2:t2)(a3:t3)(h:p a0 a1 a2 a3):∃a0 a1 a2 a3,p a0 a1 a2 a3:=⟨a0,a1,a2,a3,h⟩
theorem NJ{t0 t1 t2 t3 t4:Type}{p:t0->t1->t2->t3->t4->Prop}(a0:t0)(a1:t1)(a2:t2)(a3:t3)(a4:t4)(h:p a0 a1 a2 a3 a4):∃a0 a1 a2 a3 a4,p a0 a1 a2 a3 a4:=⟨a0,a1,a2,a3,a4,h⟩
theorem NK{t0 t1 t2 t3 t4 t5:Type}{p:t0->t1->t2->t3->t4->t5->Prop}(a0:t0)(a1:t1)(a2:t2)(a3:t3)(a4:t4)(a5:t5)(h:p a0 a1 a2 a3 a4 a5):∃a0 a1 a2 a3 a4 a5,p a0 a1 a2 a3 a4 a5:=⟨a0,a1,a2,a3,a4,a5,h⟩
theorem NL{t0 t1 t2 t3 t4 t5 t6:Type}{p:t0->t1->t2->t3->t4->t5->t6->Prop}(a0:t0)(a1:t1)(a2:t2)(a3:t3)(a4:t4)(a5:t5)(a6:t6)(h:p a0 a1 a2 a3 a4 a5 a6):∃a0 a1 a2 a3 a4 a5 a6,p a0 a1 a2 a3 a4 a5 a6:=⟨a0,a1,a2,a3,a4,a5,a6,h⟩
theorem NM{t0 t1 t2 t3 t4 t5 t6 t7:Type}{p:t0->t1->t2->t3->t4->t5->t6->t7->Prop}(a0:t0)(a1:t1)(a2:t2)(a3:t3)(a4:t4)(a5:t5)(a6:t6)(a7:t7)(h:p a0 a1 a2 a3 a4 a5 a6 a7):∃a0 a1 a2 a3 a4 a5 a6 a7,p a0 a1 a2 a3 a4 a5 a6 a7:=⟨a0,a1,a2,a3,a4,a5,a6,a7,h⟩
theorem NN{t0 t1 t2 t3 t4 t5 t6 t7 t8:Type}{p:t0->t1->t2->t3->t4->t5->t6->t7->t8->Prop}(a0:t0)(a1:t1)(a2:t2)(a3:t3)(a4:t4)(a5:t5)(a6:t6)(a7:t7)(a8:t8)(h:p a0 a1 a2 a3 a4 a5 a6 a7 a8):∃a0 a1 a2 a3 a4 a5 a6 a7 a8,p a0 a1 a2 a3 a4 a5 a6 a7 a8:=⟨a0,a1,a2,a3,a4,a5,a6,a7,a8,h⟩
theorem Z4{t0 t1 t2 t3 t4 t5 t6 t7 t8 t9:Type}{p:t0->t1->t2->t3->t4->t5->t6->t7->t8->t9->Prop}(a0:t0)(a1:t1)(a2:t2)(a3:t3)(a4:t4)(a5:t5)(a6:t6)(a7:t7)(a8:t8)(a9:t9)(h:p a0 a1 a2 a3 a4 a5 a6 a7 a8 a9):∃a0 a1 a2 a3 a4 a5 a6 a7 a8 a9,p a0 a1 a2 a3 a4 a5 a6 a7 a8 a9:=⟨a0,a1,a2,a3,a4,a5,a6,a7,a8,a9,h⟩
theorem Y1{t0 t1 t2 t3 t4 t5 t6 t7 t8 t9 t10 t11:Type}{p:t0->t1->t2->t3->t4->t5->t6->t7->t8->t9->t10->t11->Prop}(a0:t0)(a1:t1)(a2:t2)(a3:t3)(a4:t4)(a5:t5)(a6:t6)(a7:t7)(a8:t8)(a9:t9)(a10:t10)(a11:t11)(h:p a0 a1 a2 a3 a4 a5 a6 a7 a8 a9 a10 a11):∃a0 a1 a2 a3 a4 a5 a6 a7 a8 a9 a10 a11,p a0 a1 a2 a3 a4 a5 a6 a7 a8 a9 a10 a11:=⟨a0,a1,a2,a3,a4,a5,a6,a7,a8,a9,a10,a11,h⟩
def top(i:Nat):Stmt:=PySem.Challenge.pw_backissues_k32_whole_all_courses.main.body.getD i (.Pass ⟨0,0,0,0⟩)
abbrev nY:Stmt:=top 1
abbrev pM:Stmt:=top 2
abbrev qi:Stmt:=top 3
abbrev m9:Stmt:=top 4
abbrev oN:Stmt:=top 5
abbrev m6:Stmt:=top 6
abbrev nN:Stmt:=top 29
abbrev nQ:Stmt:=top 30
abbrev nM:Stmt:=top 31
abbrev m8:Stmt:=top 32
abbrev qE:Stmt:=top 37
abbrev nH:Stmt:=top 38
abbrev kz:Stmt:=top 39
abbrev qw:Stmt:=top 40
abbrev qJ:Stmt:=top 41
abbrev qD:Stmt:=top 43
abbrev nP:Stmt:=top 45
abbrev nW:Stmt:=top 46
abbrev nG:Stmt:=top 47
abbrev ow:Stmt:=top 48
abbrev nZ:Stmt:=yk (top 49) 0
abbrev mB:Stmt:=yk (top 49) 1
abbrev nB:Stmt:=yk (top 49) 2
abbrev nK:Stmt:=yk (top 49) 3
abbrev oK:Stmt:=yk (top 49) 4
abbrev nL:Stmt:=yk (top 51) 0
abbrev qv:Stmt:=yk (top 51) 1
abbrev qm:Stmt:=yk (top 51) 2
abbrev ou:Stmt:=yk (top 51) 3
abbrev oz:Stmt:=yk (top 51) 4
abbrev ox:Stmt:=yk (top 51) 5
abbrev nv:Stmt:=top 55
abbrev oy:Stmt:=yk (top 56) 0
abbrev mD:Stmt:=yk (top 56) 1
abbrev m5:Stmt:=yk (top 56) 2
abbrev pZ:Stmt:=yk (top 56) 3
abbrev om:Stmt:=yk (top 56) 4
abbrev oG:Stmt:=yk (top 56) 5
abbrev pI:Stmt:=yk (top 56) 6
abbrev pL:Stmt:=yk (top 56) 7
abbrev qp:Stmt:=yk (top 56) 8
abbrev oA:Stmt:=yk (top 56) 9
abbrev pN:Stmt:=top 58
abbrev qb:Stmt:=top 59
abbrev pB:Stmt:=top 60
abbrev mK:Stmt:=top 61
abbrev px:Stmt:=top 62
abbrev oq:Stmt:=top 63
abbrev oU:Stmt:=top 64
abbrev oP:Stmt:=top 65
abbrev nu:Stmt:=top 66
abbrev nE:Stmt:=top 67
abbrev oJ:Stmt:=top 68
abbrev kq:Stmt:=top 70
abbrev qx:Stmt:=top 71
abbrev qS:Stmt:=top 72
abbrev sQ:Stmt:=top 73
abbrev pS:Stmt:=top 74
abbrev oO:Stmt:=top 75
abbrev ql:Stmt:=top 76
abbrev pH:Stmt:=top 77
abbrev oX:Stmt:=top 78
abbrev qc:Stmt:=top 79
abbrev oT:Stmt:=top 80
abbrev n9:Stmt:=top 81
abbrev pV:Stmt:=top 82
abbrev oR:Stmt:=top 83
abbrev qj:Stmt:=top 84
abbrev pW:Stmt:=top 85
abbrev oB:Stmt:=top 86
abbrev nO:Stmt:=top 87
abbrev oI:Stmt:=top 88
abbrev slaw:Stmt:=top 89
abbrev nV:AF:=["had"]
abbrev pP:AF:=["number","reach"]
abbrev qr:AF:=["had","number","reach"]
abbrev su:AF:=["had","reach"]
abbrev ua:AF:=["had","reach"]
abbrev sj:AF:=["had","reach","behind"]
abbrev nR:AF:=["names"]
abbrev nU:AF:=["reach"]
abbrev sZ:AF:=["names","reach"]
abbrev sr:AF:=["names","name"]
abbrev uU:AF:=["shelf","name"]
abbrev n5:AF:=["shelf","number","teller"]
abbrev tI:AF:=["shelf"]
abbrev qy:AF:=["shelf","name"]
abbrev uT:AF:=["shelf","name"]
abbrev qT:AF:=["sets","reach"]
abbrev ni:AF:=["value"]
abbrev ng:AF:=["names","rows"]
abbrev nF:AF:=["names","rows"]
abbrev si:AF:=["rows"]
abbrev nX:AF:=["self","names","reach"]
abbrev sv:AF:=["self","rows"]
abbrev nD:AF:=["self","rows"]
abbrev n6:AF:=["self"]
abbrev ub:AF:=["self","number"]
abbrev nA:AF:=["self","names","reach"]
abbrev p0:AF:=["self","issue"]
abbrev wV:AF:=["self"]
abbrev fm:AF:=["self"]
abbrev sf:AF:=["self","number"]
abbrev nI:AF:=["self","number"]
abbrev ny:AF:=["readers"]
abbrev nJ:AF:=["self","names","reach","readers"]
abbrev r9:AF:=["self","reader"]
abbrev sy:AF:=["self"]
abbrev pJ:AF:=["self","rows"]
abbrev oh:AF:=["self","reader","number"]
abbrev ib:AF:=["self"]
abbrev iQ:AF:=["self","number"]
abbrev iW:AF:=["self"]
abbrev i5:AF:=["self","which"]
abbrev uV:AF:=["self","reader","deed"]
abbrev uW:AF:=["shelf"]
abbrev qd:AF:=["names","chosen"]
abbrev qh:AF:=["names","known","chosen"]
abbrev mE:AF:=["shelf","course"]
abbrev sY:AF:=["power"]
abbrev uc:AF:=["shelf"]
abbrev oS:AF:=["shelf","name"]
abbrev oo:AF:=["names"]
abbrev m4:AF:=["courses","choices"]
abbrev oi:AF:=["shelf"]
abbrev oQ:AF:=["shelf","name"]
abbrev qA:AF:=["_law_script","_law_k"]
abbrev sM:AF:=["_law_cell","_law_size"]
abbrev tU:AF:=["_law_cell","_law_many","_law_size"]
abbrev vJ:AF:=["_law_found","_law_due"]
abbrev pX:AF:=["_law_cell","_law_many"]
abbrev se:AF:=["_law_times"]
abbrev qe:AF:=["_law_names","_law_cell","_law_many"]
abbrev pj:AF:=["_law_figure","_law_place"]
abbrev oW:AF:=["_law_sets_here","_law_cell"]
abbrev qg:AF:=["_law_had","_law_rows","_law_name"]
abbrev sU:AF:=["_law_found","_law_names","_law_known"]
abbrev n8:AF:=["_law_course_here","_law_number","_law_name"]
abbrev pU:AF:=["_law_cells","_law_many","_law_first","_law_readers"]
abbrev oZ:AF:=["_law_log","_law_reader","_law_done"]
abbrev qz:AF:=["_law_book","_law_log","_law_rows"]
abbrev pe:AF:=["_law_code","_law_names","_law_latest"]
abbrev oF:AF:=["_law_course_here","_law_sets_here","_law_had","_law_reach"]
abbrev nS:AF:=["_law_shelf","_law_names","_law_name","_law_number","_law_kept"]
abbrev oV:AF:=["_law_shelf","_law_names","_law_rows","_law_had","_law_reach"]
abbrev plaw:AF:=["_law_script"]
theorem bp:A9 ["had","latest"] nV (zT nY):=scp
theorem ip:A9 ["number","reach"] pP (zT pM):=scp
theorem iC:A9 ["had","number","reach","tellers"] qr (zT qi):=scp
theorem bq:A9 ["had","reach"] su (zT m9):=scp
theorem di:A9 ["had","reach"] ua (zT oN):=scp
theorem bx:A9 ["had","reach","behind"] sj (zT m6):=scp
theorem bg:A9 ["names"] nR (zT nN):=scp
theorem bh:A9 ["reach"] nU (zT nQ):=scp
theorem cu:A9 ["names","reach"] sZ (zT nM):=scp
theorem bz:A9 ["names","name"] sr (zT m8):=scp
theorem jv:A9 ["shelf","name","number","values"] uU (zT qE):=scp
theorem cb:A9 ["shelf","number","teller"] n5 (zT nH):=scp
theorem Xd:A9 ["shelf","lacking"] tI (zT kz):=scp
theorem iS:A9 ["shelf","name","held_from"] qy (zT qw):=scp
theorem jy:A9 ["shelf","name","held_from","dark_behind"] uT (zT qJ):=scp
theorem i3:A9 ["sets","reach","number","ahead"] qT (zT qD):=scp
theorem bc:A9 ["value"] ni (zT nP):=scp
theorem bo:A9 ["names","rows","set_names","name","value"] ng (zT nW):=scp
theorem dz:A9 ["names","rows","values"] nF (zT nG):=scp
theorem cx:A9 ["rows"] si (zT ow):=scp
theorem bj:A9 ["self","names","reach"] nX (zT nZ):=scp
theorem br:A9 ["self","rows"] sv (zT mB):=scp
theorem fz:A9 ["self","rows","number","sets"] nD (zT nB):=scp
theorem ba:A9 ["self"] n6 (zT nK):=scp
theorem fv:A9 ["self","number"] ub (zT oK):=scp
theorem cv:A9 ["self","names","reach"] nA (zT nL):=scp
theorem iD:A9 ["self","issue","number"] p0 (zT qv):=scp
theorem iX:A9 ["self"] wV (zT qm):=scp
theorem ee:A9 ["self"] fm (zT ou):=scp
theorem cy:A9 ["self","number"] sf (zT oz):=scp
theorem bb:A9 ["self","number"] nI (zT ox):=scp
theorem bw:A9 ["readers"] ny (zT nv):=scp
theorem cz:A9 ["self","names","reach","readers"] nJ (zT oy):=scp
theorem aB:A9 ["self","reader"] r9 (zT mD):=scp
theorem aA:A9 ["self"] sy (zT m5):=scp
theorem ij:A9 ["self","rows","number"] pJ (zT pZ):=scp
theorem dh:A9 ["self","reader","number","getting","lacked"] oh (zT om):=scp
theorem fk:A9 ["self"] ib (zT oG):=scp
theorem gk:A9 ["self","number"] iQ (zT pI):=scp
theorem iY:A9 ["self"] iW (zT pL):=scp
theorem iB:A9 ["self","which"] i5 (zT qp):=scp
theorem iZ:A9 ["self","reader","deed","behind","told","past"] uV (zT oA):=scp
theorem ie:A9 ["shelf","sets","number","teller","names"] uW (zT pN):=scp
theorem iK:A9 ["names","chosen"] qd (zT qb):=scp
theorem iT:A9 ["names","known","chosen"] qh (zT pB):=scp
theorem aq:A9 ["shelf","course","sets"] mE (zT mK):=scp
theorem gi:A9 ["power","product","step"] sY (zT px):=scp
theorem da:A9 ["shelf","dark"] uc (zT oq):=scp
theorem gx:A9 ["shelf","name","state","count","held_from","dark_behind","not_again"] oS (zT oU):=scp
theorem dq:A9 ["names","choices","name"] oo (zT oP):=scp
theorem bu:A9 ["courses","choices","further","choice"] m4 (zT nu):=scp
theorem df:A9 ["shelf","courses","known","choices"] oi (zT nE):=scp
theorem fg:A9 ["shelf","name","not_again","latest_dark","again"] oQ (zT oJ):=scp
theorem Xl:A9 ["_law_script","_law_k"] qA (zT kq):=scp
theorem iI:A9 ["_law_cell","_law_size","_law_once"] sM (zT qx):=scp
theorem jq:A9 ["_law_cell","_law_many","_law_size","_law_rest","_law_mixed","_law_figures","_law_k"] tU (zT qS):=scp
theorem gs:A9 ["_law_found","_law_due","_law_k"] vJ (zT sQ):=scp
theorem iu:A9 ["_law_cell","_law_many","_law_signs","_law_turn","_law_stem","_law_spot"] pX (zT pS):=scp
theorem fu:A9 ["_law_times","_law_many","_law_turn"] se (zT oO):=scp
theorem gq:A9 ["_law_names","_law_cell","_law_many","_law_size","_law_sets_here","_law_figure","_law_mask","_law_chosen","_law_name"] qe (zT ql):=scp
theorem il:A9 ["_law_figure","_law_place"] pj (zT pH):=scp
theorem fh:A9 ["_law_sets_here","_law_cell","_law_figures","_law_rows","_law_k","_law_one","_law_place"] oW (zT oX):=scp
theorem iF:A9 ["_law_had","_law_rows","_law_name","_law_held_here","_law_number","_law_row_here"] qg (zT qc):=scp
theorem fe:A9 ["_law_found","_law_names","_law_known","_law_k","_law_places","_law_name","_law_j"] sU (zT oT):=scp
theorem ck:A9 ["_law_course_here","_law_number","_law_name","_law_k"] n8 (zT n9):=scp
theorem gd:A9 ["_law_cells","_law_many","_law_first","_law_readers","_law_log","_law_written","_law_cell","_law_rest","_law_k","_law_reader","_law_number","_law_jump","_law_other"] pU (zT pV):=scp
theorem fi:A9 ["_law_log","_law_reader","_law_done","_law_had","_law_deed"] oZ (zT oR):=scp
theorem iO:A9 ["_law_book","_law_log","_law_rows","_law_deed"] qz (zT qj):=scp
theorem ir:A9 ["_law_code","_law_names","_law_latest","_law_course_here","_law_k","_law_one","_law_name"] pe (zT pW):=scp
theorem gy:A9 ["_law_course_here","_law_sets_here","_law_had","_law_reach","_law_number","_law_other"] oF (zT oB):=scp
theorem bf:A9 ["_law_shelf","_law_names","_law_name","_law_number","_law_kept","_law_again","_law_state","_law_pair"] nS (zT nO):=scp
theorem gw:A9 ["_law_shelf","_law_names","_law_rows","_law_had","_law_reach","_law_sets_here","_law_latest","_law_codes","_law_kept","_law_code","_law_course_here","_law_fine","_law_found","_law_name"] oV (zT oI):=scp
theorem aH:A9 ["_law_script","_law_names","_law_most","_law_rows","_law_reach","_law_readers","_law_log","_law_book","_law_deed","_law_reader","_law_had"] plaw (zT slaw):=scp
structure TxOffice(K:AA)(mg:Str->AH)(C:Addr):Prop where
 cl:Cls K C
 mgC:mg "Office"=some (.ref C)
 n_names:xZ K C "names"
 n_reach:xZ K C "reach"
 n_written:xZ K C "written"
structure TxShelf(K:AA)(mg:Str->AH)(C:Addr):Prop where
 cl:Cls K C
 mgC:mg "Shelf"=some (.ref C)
 n_names:xZ K C "names"
 n_reach:xZ K C "reach"
 n_issues:xZ K C "issues"
structure TxBook(K:AA)(mg:Str->AH)(C:Addr):Prop where
 cl:Cls K C
 mgC:mg "Book"=some (.ref C)
 n_office:xZ K C "office"
 n_readers:xZ K C "readers"
 n_done:xZ K C "done"
structure Bl(mg:Str->AH):Prop where
 len:mg "len"=none
 range:mg "range"=none
 tuple:mg "tuple"=none
 list:mg "list"=none
 max:mg "max"=none
 min:mg "min"=none
 sorted:mg "sorted"=none
 isinstance:mg "isinstance"=none
 bool:mg "bool"=none
 int:mg "int"=none
 str:mg "str"=none
 set:mg "set"=none
 reversed:mg "reversed"=none
 dict:mg "dict"=none
 zip:mg "zip"=none
 all:mg "all"=none
 MOST_NAMES:∃t,mg "MOST_NAMES"=some (.int 12 t)
 MOST_REACH:∃t,mg "MOST_REACH"=some (.int 10 t)
 MOST_NUMBERS:∃t,mg "MOST_NUMBERS"=some (.int 60 t)
 MOST_VALUE:∃t,mg "MOST_VALUE"=some (.int 1000000 t)
 MOST_READERS:∃t,mg "MOST_READERS"=some (.int 10 t)
 MOST_DEEDS:∃t,mg "MOST_DEEDS"=some (.int 400 t)
 MOST_COURSES:∃t,mg "MOST_COURSES"=some (.int 4096 t)
 SURE:∃t,mg "SURE"=some (.str "sure" t)
 STALE:∃t,mg "STALE"=some (.str "stale" t)
 OPEN:∃t,mg "OPEN"=some (.str "open" t)
 WRITE:∃t,mg "WRITE"=some (.str "write" t)
 DELIVER:∃t,mg "DELIVER"=some (.str "deliver" t)
theorem zH{H:Hp}{p:Addr}(h:H p=none)(o:HO):B0 H (upd H p o):=fun b u q=>by rw[zS (yC q h)];exact q
theorem wQ{H H':Hp}{l:Addr}{o:HO}(hs:B0 H H')(hl:H l=none):B0 H (upd H' l o):=fun b u e=>by rw[zS (yC e hl)];exact hs b u e
theorem uJ{n:Nat}(h:n<=1000):n<=sizeLine:=dJ (zp h)
theorem Ze{ns:AJ}{k:Int}(h0:0<=k)(h:k<(ns.length:Int)):atI (ns.map V.int) k=some (.int (ns.getD k.toNat 0)):=by
 have hk:k.toNat<ns.length:=by lia
 have ek:k=((k.toNat:Nat):Int):=by lia
 have q:atI (ns.map V.int) ((k.toNat:Nat):Int)=some (.int (ns.getD k.toNat 0)):=yT (by
  rw[bE,bC hk,bR,bC hk]<;>rfl)
 rw[<- ek] at q
 exact q
theorem uK{K:AA}{H H':Hp}{a:Addr}{xs:AK}(e:B0 H H')(h:SqT K H a xs):SqT K H' a xs:=by
 rcases h with (h|⟨o,h⟩)|h
 ·exact .inl (.inl (e _ _ h))
 ·exact .inl (.inr ⟨o,e _ _ h⟩)
 ·exact .inr h
theorem zx{p:Prop}[Decidable p](h:decide p=true):p:=Px h
theorem wN{p:Prop}[Decidable p](h:¬decide p=true):¬p:=fun q=>h (Pq q)
section
variable{P:Program}{w:World}{K:AA}{mg:Str->AH}{base:Heap}{f:Addr}{fd:FuncData}
theorem wR:∀{l1 l2:AJ},l1.Pairwise (· < ·)->l2.Pairwise (· < ·)->(∀x,x∈l1↔x∈l2)->l1=l2
 | [],[],_,_,_=>rfl
 | [],y::_,_,_,h=>by have:=(h y).mpr bT;cases this
 | x::_,[],_,_,h=>by have:=(h x).mp bT;cases this
 | x::r,y::t,p1,p2,h=>by
  rw[jW] at p1 p2
  have e:x=y:=by
   rcases bI.mp ((h x).mp bT) with e|hx
   ·exact e
   ·rcases bI.mp ((h y).mpr bT) with e|hy
    ·exact e.symm
    ·have:=p1.1 y hy
     have:=p2.1 x hx
     lia
  subst e
  refine Pu (x::·) (wR p1.2 p2.2 fun z=>⟨fun hz=>?_,fun hz=>?_⟩)
  ·rcases bI.mp ((h z).mp (bU _ hz)) with e|q
   ·have:=p1.1 z hz
    lia
   ·exact q
  ·rcases bI.mp ((h z).mpr (bU _ hz)) with e|q
   ·have:=p2.1 z hz
    lia
   ·exact q
theorem xt(lo:Int):∀n,(upI lo n).Pairwise (· < ·)
 | 0=>List.Pairwise.nil
 | n+1=>by
  rw[tM]
  refine dF.mpr ⟨xt lo n,eU _ _,fun x hx y hy=>?_⟩
  have h1:=yx.mp hx
  rw[bD.mp hy]
  lia
theorem VP(lo:Int)(n:Nat):Q2 lo n=(upI lo n).map V.int:=by
 unfold Q2 upI
 rw[eJ]
 rfl
noncomputable def spAt(K:AA):Sp:=fun vs H Q _=>∃(a:Addr) (ns:AJ) (k:Int),vs=[.ref a,.int k]/\SqL K H a (ns.map V.int)/\0<=k/\Q (.int (ns.getD k.toNat 0)) H
theorem ok_at(M:Bl mg)(F:Fun K "_law_at" "_law_at" kq f fd):B2 P w K mg base CX0 1 f fd qA (spAt K):=by
 have nd:=Xl.nd
 refine F.ok Xl ?_ ?_
 ·rintro _ _ _ _⟨_,_,_,rfl,_⟩
  rfl
 rintro _ _ _ _ H vs Q E hr⟨a,ns,k,rfl,hS,h0,q⟩
 refine⟨_,(zN (ze (zZ wA (pv 1) (zb zo rfl M.len bO (z9 (pv 0) zD)) (za _)) (zJ (zR (zh yl (pv 0) (pv 1) (fun _ _=>rfl)))) zf) (zJ (zR zL))),?_⟩
 have hl:(ns.map V.int).length=ns.length:=bA _
 refine NF rfl (NF rfl (NG a _ ⟨rfl,.inl hS,NG _ _ ⟨rfl,rfl,NF rfl ?_⟩⟩))
 refine C0 (fun c=>?_) (fun c=>?_)
 ·have c':=zx c
  rw[hl] at c'
  exact NF rfl (NF rfl (NI a _ _ _ ⟨rfl,rfl,hS,Ze h0 c',q⟩))
 ·have c':=wN c
  rw[hl] at c'
  have e:ns.getD k.toNat 0=0:=by rw[bR,List.getElem?_eq_none (by lia)];rfl
  rw[e] at q
  exact q
noncomputable def mP:Sp:=fun vs H Q _=>∃c n:Int,vs=[.int c,.int n]/\0<n/\∀r,0<=r->r<n->Q (.int r) H
theorem VX(F:Fun K "_law_pick" "_law_pick" qx f fd):B2 P w K mg base CX0 1 f fd sM mP:=by
 have nd:=iI.nd
 refine F.ok iI ?_ ?_
 ·rintro _ _ _ _⟨_,_,rfl,_⟩
  rfl
 rintro _ _ _ _ H vs Q E hr⟨c,n,rfl,hn,q⟩
 refine⟨_,(zN (ze (zZ yV (zP y6 (pv 0) zL) zL (za _)) (zJ (zR (zP y6 (zP yg (pv 0) zL) (pv 1)))) zf) (zN (zW (i:=2) nd rfl (NC rfl) (zP y6 (zP xo (zP yg (pv 0) zL) zL) zL)) (zJ (zR (zP y6 (zP y6 (zP xo (zP yS (pv 2) zL) zL) zL) (pv 1)))))),?_⟩
 refine NF rfl (NG _ _ ⟨rfl,rfl,(by show(0:Int)<2;decide),rfl,NF rfl ?_⟩)
 refine C0 (fun _=>?_) (fun _=>?_)
 ·exact(NF rfl (NG _ _ ⟨rfl,rfl,⟨by decide,by decide⟩,NF rfl (NG _ _ ⟨rfl,rfl,hn,q _ (cT _ (by lia)) (cI _ hn)⟩)⟩))
 ·refine(NF rfl (NG _ _ ⟨rfl,rfl,⟨by decide,by decide⟩,(NG _ _ ⟨rfl,rfl,.inr ⟨by decide,by decide⟩,NG _ _ ⟨rfl,rfl,(by show(0:Int)<2147483647;decide),?_⟩⟩)⟩))
  refine(NF rfl (NG _ _ ⟨rfl,rfl,(NG _ _ ⟨rfl,rfl,.inr ⟨by decide,by decide⟩,NG _ _ ⟨rfl,rfl,(by show(0:Int)<2147483647;decide),NF rfl (NG _ _ ⟨rfl,rfl,hn,?_⟩)⟩⟩)⟩))
  exact q _ (cT _ (by lia)) (cI _ hn)
noncomputable def vj:Nat->Sp
 | 0=>fun _ _ _ _=>False
 | n+1=>fun vs H Q _=>∃x y,vs=[x,y]/\xR H n x y/\∀H',B0 H H'->Q (.bl true) H'
theorem RS:B2 P w K mg base CX0 0 f fd vJ (vj 0):=
 ⟨fun vs H Q E h=>h.elim,fun A outer s H args us vs Q E _ _ _ _ h=>h.elim⟩
noncomputable def tyOf:V->String
 | .non=>"NoneType"
 | .bl _=>"bool"
 | .int _=>"int"
 | _=>"str"
theorem vE{H:Hp}{x:V}(h:uC x=true):N8 K H x (.type (tyOf x)):=by
 cases x with
 | non=>exact .non
 | bl b=>exact .bl b
 | int i=>exact .int i
 | str z=>exact .str z
 | _=>exact ND h bP
noncomputable def kitB:V->String->Bool
 | .bl _,T=>T == "bool" || T == "int"
 | .int _,T=>T == "int"
 | .str _,T=>T == "str"
 | _,_=>false
theorem uQ(T:String)(hT:T="tuple"\/T="bool"\/T="int"\/T="str"){x:V}(h:uC x=true):PySem.W.kitOne K (.type (tyOf x)) (.type T)=some (kitB x T):=by
 cases x with
 | non=>rcases hT with rfl|rfl|rfl|rfl<;>kernel_rfl
 | bl b=>rcases hT with rfl|rfl|rfl|rfl<;>kernel_rfl
 | int i=>rcases hT with rfl|rfl|rfl|rfl<;>kernel_rfl
 | str z=>rcases hT with rfl|rfl|rfl|rfl<;>kernel_rfl
 | _=>exact ND h bP
theorem Qe(x:V):kitB x "tuple"=false:=by cases x<;>rfl
theorem vp:PySem.W.kitOne K (.type "tuple") (.type "tuple")=some true:=by kernel_rfl
theorem ai{xs:AK}{i:Nat}(h:i<xs.length):∃v,xs[i]? = some v/\atI xs (i:Int)=some v:=⟨xs[i],bC h,yT (bC h)⟩
theorem Vj{x:V}(h:uC x=true):X8 x x=true:=by
 cases x<;>first|rfl|exact ND h bP
theorem Vu{n:Nat}(M:Bl mg)(F:Fun K "_law_same" "_law_same" sQ f fd)(F8:Cal P w K mg base n "_law_same" vJ (vj n)) :
  B2 P w K mg base CX0 (n+1) f fd vJ (vj (n+1)):=by
 have nd:=gs.nd
 refine F.ok gs ?_ ?_
 ·rintro _ _ _ _⟨_,_,rfl,_⟩
  rfl
 rintro _ _ _ _ H vs Q E hr⟨x,y,rfl,ha,q⟩
 refine⟨_,(zN (ze (xB (zb xw rfl M.isinstance cK (z9 (pv 1) (z9 (xp (v:=.ty "tuple") rfl M.tuple bS rfl) zD)))) (zN (ze (PW.pt (xX (xc (xB (zb xw rfl M.isinstance cK (z9 (pv 0) (z9 (xp (v:=.ty "tuple") rfl M.tuple bS rfl) zD))))) (xb (zZ xn (zb zo rfl M.len bO (z9 (pv 0) zD)) (zb zo rfl M.len bO (z9 (pv 1) zD)) (za _))))) (zJ (zR yI)) zf) (zN (y9 c6 rfl (xi rfl M.range (z9 (zb zo rfl M.len bO (z9 (pv 1) zD)) zD)) (zd (i:=2) nd rfl (NC rfl)) (zJ (ze (xc (xB (zX F8 (rm hr) rfl (z9 (zh y8 (pv 0) (pv 2) (fun _ _=>rfl)) (z9 (zh y8 (pv 1) (pv 2) (fun _ _=>rfl)) zD))))) (zJ (zR yI)) zf))) (zJ (zR yI)))) zf) (zN (ze (PW.pt (xX (zZ xn (zb xw rfl M.isinstance cK (z9 (pv 0) (z9 (xp (v:=.ty "bool") rfl M.bool PyProof.Rows.boot_bool rfl) zD))) (zb xw rfl M.isinstance cK (z9 (pv 1) (z9 (xp (v:=.ty "bool") rfl M.bool PyProof.Rows.boot_bool rfl) zD))) (za _)) (xb (zZ xn (zb xw rfl M.isinstance cK (z9 (pv 0) (z9 (xp (v:=.ty "int") rfl M.int PyProof.Rows.boot_int rfl) zD))) (zb xw rfl M.isinstance cK (z9 (pv 1) (z9 (xp (v:=.ty "int") rfl M.int PyProof.Rows.boot_int rfl) zD))) (za _))))) (zJ (zR yI)) zf) (zN (ze (PW.pt (xX (zZ xn (zb xw rfl M.isinstance cK (z9 (pv 0) (z9 (xp (v:=.ty "str") rfl M.str kM rfl) zD))) (zb xw rfl M.isinstance cK (z9 (pv 1) (z9 (xp (v:=.ty "str") rfl M.str kM rfl) zD))) (za _)) (xb (zZ xn (mR (vP (pv 0))) (mR (vP (pv 1))) (za _))))) (zJ (zR yI)) zf) (zJ (zR (vW yV (pv 0) (pv 1) (za _))))))),?_⟩
 have ha':(x=y/\uC x=true)\/∃(m:Nat) (a b:Addr) (xs ys:AK),n=m+1/\x=.ref a/\y=.ref b/\H a=some (.tup xs)/\H b=some (.tup ys)/\xs.length=ys.length/\ys.length<=1000000/\
   ∀(i:Nat) (u v:V),xs[i]? = some u->ys[i]? = some v->xR H m u v:=by
  cases n with
  | zero=>exact .inl ha
  | succ n=>
   rcases ha with ha|⟨a,b,xs,ys,e1,e2,h1,h2,hl,hm,hi⟩
   ·exact .inl ha
   ·exact .inr (NJ n a b xs ys ⟨rfl,e1,e2,h1,h2,hl,hm,hi⟩)
 rcases ha' with ⟨rfl,hs⟩|⟨m,a,b,xs,ys,rfl,rfl,rfl,h1,h2,hl,hm,hi⟩
 ·have k1:=uQ (K:=K) "tuple" (.inl rfl) hs
  have k2:=uQ (K:=K) "bool" (.inr (.inl rfl)) hs
  have k3:=uQ (K:=K) "int" (.inr (.inr (.inl rfl))) hs
  have k4:=uQ (K:=K) "str" (.inr (.inr (.inr rfl))) hs
  rw[Qe] at k1
  refine NF rfl (NI _ _ _ _ ⟨rfl,vE hs,k1,NF rfl (C1 ?_)⟩)
  refine NF rfl (NI _ _ _ _ ⟨rfl,vE hs,k2,NF rfl (NI _ _ _ _ ⟨rfl,vE hs,k2,rfl,NF rfl ?_⟩)⟩)
  rw[Pq rfl]
  refine C1 (NF rfl (NI _ _ _ _ ⟨rfl,vE hs,k3,NF rfl (NI _ _ _ _ ⟨rfl,vE hs,k3,rfl,NF rfl ?_⟩)⟩))
  rw[Pq rfl]
  refine C1 ?_
  refine NF rfl (NI _ _ _ _ ⟨rfl,vE hs,k4,NF rfl (NI _ _ _ _ ⟨rfl,vE hs,k4,rfl,NF rfl ?_⟩)⟩)
  rw[Pq rfl]
  refine C1 (NF rfl (NF rfl ⟨rfl,NF rfl ?_⟩))
  rw[Pq rfl]
  refine C1 ?_
  refine NF rfl (NF rfl ⟨Vj hs,?_⟩)
  rw[Pq rfl]
  exact q H (B0.refl H)
 ·refine NF rfl (NI _ _ _ _ ⟨rfl,.tup h2,vp,NF rfl (F3 ?_)⟩)
  refine NF rfl (NI _ _ _ _ ⟨rfl,.tup h1,vp,NF rfl (C1 ?_)⟩)
  refine NF rfl (NG a xs ⟨rfl,.inr (SqT.of h1),NF rfl (NG b ys ⟨rfl,.inr (SqT.of h2),rfl,NF rfl ?_⟩)⟩)
  rw[hl,Pq rfl]
  refine C1 ?_
  refine NF rfl (NG b ys ⟨rfl,.inr (SqT.of h2),(NF rfl ⟨by lia,by lia,?_⟩)⟩)
  refine w4 (lo:=0) (n:=ys.length) (fun _ σ H'=>B0 H H'/\∃o,σ=[some (.ref a),some (.ref b),o]) ⟨B0.refl H,_,rfl⟩ (fun i σ H' hi' hp=>?_) (fun σ H' hp=>?_)
  ·obtain⟨hS,o,rfl⟩:=hp
   obtain⟨u,hu,au⟩:=ai (xs:=xs) (i:=i) (by lia)
   obtain⟨v,hv,av⟩:=ai (xs:=ys) (i:=i) hi'
   have ei:(0:Int)+(i:Int)=(i:Int):=jB _
   refine NF rfl (NF rfl (NI a _ _ _ ⟨rfl,rfl,SqT.of (hS _ _ h1),(by rw[ei];exact au),NF rfl (NF rfl (NI b _ _ _ ⟨rfl,rfl,SqT.of (hS _ _ h2),(by rw[ei];exact av),?_⟩))⟩))
   refine(NG u v ⟨rfl,(hi i u v hu hv).keep hS,fun H2 hS2=>(NF rfl ?_)⟩)
   exact C1 ⟨hS.trans hS2,_,rfl⟩
  ·obtain⟨hS,o,rfl⟩:=hp
   exact q H' hS
theorem Yt(M:Bl mg)(F:Fun K "_law_same" "_law_same" sQ f fd)(B:yK K fd vJ [])(N:mg "_law_same"=some (.ref f)) :
  ∀n,Cal P w K mg base n "_law_same" vJ (vj n)
 | 0=>.mk' RS B F.kp N
 | n+1=>.mk' (Vu M F (Yt M F B N n)) B F.kp N
theorem YD{ns:AJ}{n:Nat}(h:ns.length<=n)(hn:n<=1000):(ns.map V.int).length<sizeLine:=zp (by rw[bA];lia)
noncomputable def mF:Sp:=fun vs H Q _=>∃c m z:Int,vs=[.int c,.int m,.int z]/\0<=m/\m<=900/\0<z/\z<1073741824/\
 ∀(l:Addr) (ns:AJ) (H':Hp),H l=none->B0 H H'->H' l=some (.lst (ns.map V.int))->ns.length=m.toNat->(∀x∈ns,0<=x/\x<z)->Q (.ref l) H'
theorem We(M:Bl mg)(F:Fun K "_law_row" "_law_row" qS f fd):B2 P w K mg base CX0 1 f fd tU mF:=by
 have nd:=jq.nd
 refine F.ok jq ?_ ?_
 ·rintro _ _ _ _⟨_,_,_,rfl,_⟩
  rfl
 rintro _ _ _ _ H vs Q E hr⟨c,m,z,rfl,m0,m1,z0,z1,q⟩
 refine⟨_,(zN (zW (i:=3) nd rfl (NC rfl) (zP yg (pv 0) zL)) (zN (zW (i:=4) nd rfl (NC rfl) (zP y6 (zP xo (pv 3) zL) zL)) (zN (zW (i:=5) nd rfl (NC rfl) (yc zD)) (zN (y9 c6 rfl (xi rfl M.range (z9 (pv 1) zD)) (zd (i:=6) nd rfl (NC rfl)) (zN (zW (i:=4) nd rfl (NC rfl) (zP y6 (zP yS (zP yS (zP xo (pv 4) zL) (pv 6)) zL) zL)) (zJ (ze (zZ yV (zP y6 (pv 0) zL) zL (za _)) (zN (yB (yq cA cB cE xP (pv 5) (z9 (zP y6 (pv 3) (pv 2)) zD))) (zJ (zW (i:=3) nd rfl (NC rfl) (zP yg (pv 3) (pv 2))))) (zJ (yB (yq cA cB cE xP (pv 5) (z9 (zP y6 (zP yg (pv 4) zL) (pv 2)) zD)))))))) (zJ (zR (pv 5))))))),?_⟩
 refine NF rfl (NG _ _ ⟨rfl,rfl,⟨by decide,by decide⟩,?_⟩)
 refine(NF rfl (NG _ _ ⟨rfl,rfl,.inr ⟨by decide,by decide⟩,NG _ _ ⟨rfl,rfl,(by show(0:Int)<2147483647;decide),?_⟩⟩))
 refine⟨(NB 0),fun l hl=>?_⟩
 refine NF rfl (NF rfl ⟨by lia,by lia,?_⟩)
 refine w4 (lo:=0) (n:=m.toNat) (fun i σ H'=>∃(ns:AJ) (r mx:Int) (o:Option V),ns.length=i/\(∀x∈ns,0<=x/\x<z)/\H'=upd H l (.lst (ns.map V.int))/\
  σ=[some (.int c),some (.int m),some (.int z),some (.int r),some (.int mx),some (.ref l),o]) ⟨[],_,_,_,rfl,(fun _ h=>nomatch h),rfl,rfl⟩ (fun i σ H' hi hp=>?_) (fun σ H' hp=>?_)
 ·obtain⟨ns,r,mx,o,zU,D4,rfl,rfl⟩:=hp
  refine(NF rfl (NG _ _ ⟨rfl,rfl,.inr ⟨by decide,by decide⟩,NF rfl (NG _ _ ⟨rfl,rfl,NG _ _ ⟨rfl,rfl,NG _ _ ⟨rfl,rfl,(by show(0:Int)<2147483647;decide),?_⟩⟩⟩)⟩))
  refine NF rfl (NG _ _ ⟨rfl,rfl,(by show(0:Int)<2;decide),rfl,NF rfl ?_⟩)
  have grow:∀y:Int,(∀x∈ns++[y%z],0<=x/\x<z):=fun y x hx=>by
   rcases bZ.mp hx with h|h
   ·exact D4 x h
   ·rw[bD.mp h]
    exact⟨cT _ (by lia),cI _ z0⟩
  have put:∀y:Int,upd (upd H l (.lst (ns.map V.int))) l (.lst (ns.map V.int++[.int (y%z)]))=upd H l (.lst ((ns++[y%z]).map V.int)):=fun y=>by
   rw[vq,bM]
   rfl
  refine C0 (fun _=>?_) (fun _=>?_)
  ·refine NF rfl ⟨.inl ⟨rfl,_,SqL.of zM⟩,NF rfl (NF rfl (NG _ _ ⟨rfl,rfl,z0,NH l _ _ ⟨rfl,rfl,zM,YD (n:=i) (by lia) (by lia),?_⟩⟩))⟩
   refine NF rfl (NF rfl (NG _ _ ⟨rfl,rfl,⟨z0,z1⟩,?_⟩))
   exact⟨ns++[r%z],_,_,_,by rw[bF,zU];rfl,grow r,put r,rfl⟩
  ·refine(NF rfl ⟨.inl ⟨rfl,_,SqL.of zM⟩,(NF rfl (NG _ _ ⟨rfl,rfl,⟨by decide,by decide⟩,NF rfl (NG _ _ ⟨rfl,rfl,z0,NH l _ _ ⟨rfl,rfl,zM,YD (n:=i) (by lia) (by lia),?_⟩⟩)⟩))⟩)
   exact⟨ns++[_%z],_,_,_,by rw[bF,zU];rfl,grow _,put _,rfl⟩
 ·obtain⟨ns,r,mx,o,zU,D4,rfl,rfl⟩:=hp
  exact NF rfl (q l ns _ hl (zH hl _) zM zU D4)
theorem YY(x:Int)(ns:AJ):inV (.int x) (ns.map V.int)=decide (x∈ns):=by
 unfold inV
 rw[cX,jZ,kI,Pp]
 constructor
 ·rintro⟨y,hy,e⟩
  have e':(y == x)=true:=e
  rw[<- eq_of_beq e']
  exact hy
 ·intro h
  exact⟨x,h,show(x == x)=true from OH x⟩
theorem XQ(ns:AJ):(ns.map V.int).all yJ=true:=by
 rw[kS,gH]
 intro x _
 rfl
noncomputable def zz(ns:AJ):AJ:=(upI 1 60).filter fun x=>decide (x∉ns) && decide (∃y∈ns,x<y)
theorem xr{ns:AJ}{x:Int}:x∈zz ns↔(1<=x/\x<1+60)/\x∉ns/\∃y∈ns,x<y:=by
 unfold zz
 rw[cG,yx,bX,Pp,Pp]
 rfl
theorem uY(ns:AJ):(zz ns).Pairwise (· < ·):=(xt 1 60).filter _
theorem u5(ns:AJ):(zz ns).length<=60:=by
 have h:=cL (fun x=>decide (x∉ns) && decide (∃y∈ns,x<y)) (upI 1 60)
 rw[xk] at h
 exact h
theorem Sw{ns:AJ}{m:Int}(hm:m∈ns)(D4:∀x∈ns,1<=x/\x<=60)(top:∀y∈ns,y<=m):(upI 1 (m+1-1).toNat).filter (fun x=>!decide (x∈ns))=zz ns:=
 wR ((xt _ _).filter _) (uY _) fun x=>by
  have hm':=D4 m hm
  rw[cG,yx,xr,j0,Ob]
  constructor
  ·rintro⟨⟨a,b⟩,c⟩
   refine⟨by lia,c,m,hm,?_⟩
   have:x≠m:=fun e=>c (e ▸ hm)
   lia
  ·rintro⟨a,b,y,hy,c⟩
   have:=top y hy
   exact⟨by lia,b⟩
theorem SA:zz []=[]:=by
 refine wR (uY _) .nil fun x=>?_
 rw[xr]
 constructor
 ·rintro⟨_,_,y,hy,_⟩
  cases hy
 ·intro h
  cases h
theorem SqI.keep{K:AA}{H H':Hp}{a:Addr}{ns:AJ}(e:B0 H H')(h:SqI K H a ns):SqI K H' a ns:=by
 rcases h with h|h
 ·exact .inl (e.seq h)
 ·rcases h with (h|⟨o,h⟩)|h
  ·exact .inr (.inl (.inl (e _ _ h)))
  ·exact .inr (.inl (.inr ⟨o,e _ _ h⟩))
  ·exact .inr (.inr h)
theorem jr{c:Int->Bool}{t:Int}:∀{l:AJ},l.Pairwise (· < ·)->t∈l->c t=true->(∀y∈l,c y=true->t<=y)->l.find? c=some t
 | [],_,h,_,_=>by cases h
 | x::r,p,h,hc,hm=>by
  rw[jW] at p
  rw[eO]
  rcases bI.mp h with rfl|h
  ·rw[hc]
  ·cases e:c x with
   | true=>
    have h1:=p.1 t h
    have h2:=hm x bT e
    lia
   | false=>exact jr p.2 h hc fun y hy=>hm y (bU _ hy)
theorem mq{c:Int->Bool}{t:Int}:∀{l:AJ},l.Pairwise (· < ·)->l.find? c=some t->t∈l/\c t=true/\∀y∈l,c y=true->t<=y
 | [],_,h=>by cases h
 | x::r,p,h=>by
  rw[jW] at p
  rw[eO] at h
  cases e:c x with
  | true=>
   rw[e] at h
   have h':x=t:=Option.some.inj h
   subst h'
   refine⟨bT,e,fun y hy _=>?_⟩
   rcases bI.mp hy with rfl|hy
   ·exact hE _
   ·have:=p.1 y hy
    lia
  | false=>
   rw[e] at h
   obtain⟨h1,h2,h3⟩:=mq p.2 h
   refine⟨bU _ h1,h2,fun y hy hc=>?_⟩
   rcases bI.mp hy with rfl|hy
   ·rw[e] at hc
    cases hc
   ·exact h3 y hy hc
noncomputable def vg(ns:AJ)(n r:Int)(y:Int):Bool:=decide (n<y) && decide (y-r<=n) && decide (y∈ns)
noncomputable def zy(ns:AJ)(n r:Int):Int:=((upI 1 60).find? (vg ns n r)).getD 0
theorem u4{ns:AJ}{n r y:Int}:vg ns n r y=true↔n<y/\y-r<=n/\y∈ns:=by
 unfold vg
 rw[bX,bX,Pp,Pp,Pp,and_assoc]
theorem Uo{ns:AJ}{n r t:Int}(D4:∀x∈ns,1<=x/\x<=60)(ht:t∈ns)(h1:n<t)(h2:t-r<=n)(hm:∀y∈ns,n<y->y-r<=n->t<=y):zy ns n r=t:=by
 unfold zy
 rw[jr (xt 1 60) (t:=t) (yx.mpr (by have:=D4 t ht;lia)) (u4.mpr ⟨h1,h2,ht⟩) fun y _ hy=>by
  obtain⟨a,b,c⟩:=u4.mp hy
  exact hm y c a b]
 rfl
theorem QY{ns:AJ}{n r:Int}(h:∀y∈ns,n<y->¬y-r<=n):zy ns n r=0:=by
 unfold zy
 have e:(upI 1 60).find? (vg ns n r)=none:=lA.mpr fun y _ hy=>by
  obtain⟨a,b,c⟩:=u4.mp hy
  exact h y c a b
 rw[e]
 rfl
theorem QN{ns:AJ}{n r:Int}(D4:∀x∈ns,1<=x/\x<=60)(h:zy ns n r=0):∀y∈ns,n<y->¬y-r<=n:=fun y hy h1 h2=>by
 unfold zy at h
 cases e:(upI 1 60).find? (vg ns n r) with
 | none=>exact lA.mp e y (yx.mpr (by have:=D4 y hy;lia)) (u4.mpr ⟨h1,h2,hy⟩)
 | some t=>
  rw[e] at h
  have:=yx.mp (List.mem_of_find?_eq_some e)
  have h':t=0:=h
  lia
noncomputable def sgL:List Nat:=(("mM ~aA0.xX_9":Str).cps.toList)
theorem lO:sgL.length=12:=by decide +kernel
theorem RQ:sgL.Nodup:=by decide +kernel
abbrev farS:Str:="a stranger of twenty"
abbrev wa:Str:="a long stem of them"
structure Nms(nm:AF):Prop where
 nd:nm.Nodup
 lo:∀x∈nm,1<=x.length
 hi:∀x∈nm,x.length<=20
 far:farS∉nm
theorem mz(a b:Str):(a++b).cps.toList=a.cps.toList++b.cps.toList:=by
 show(a.cps++b.cps).toList=_
 simp
theorem VS(c:Nat):(⟨#[c]⟩:Str).cps.toList=[c]:=rfl
theorem oH{α β:Type}{g:α->β}:∀{l:List α},l.Nodup->(∀x∈l,∀y∈l,g x=g y->x=y)->(l.map g).Nodup
 | [],_,_=>List.nodup_nil
 | x::r,n,h=>by
  rw[dE] at n
  rw[cJ,dE]
  refine⟨fun hm=>?_,oH n.2 fun a ha b hb=>h a (bU _ ha) b (bU _ hb)⟩
  obtain⟨y,hy,e⟩:=cD.mp hm
  have:=h x bT y (bU _ hy) e.symm
  exact n.1 (this ▸ hy)
theorem XD(lo:Int)(n:Nat):(upI lo n).Nodup:=(xt lo n).imp fun {a b} h=>by lia
theorem Ya{t a b:Int}(ht:0<=t)(ht2:t<12)(a0:0<=a)(a1:a<12)(b0:0<=b)(b1:b<12)(h:(t+a)%12=(t+b)%12):a=b:=by lia
noncomputable def repN(c:Nat)(t k:Int):Str:=T6 ⟨#[c]⟩ (1+(t+k)%12).toNat
theorem uP(c:Nat)(t k:Int):(repN c t k).length=(1+(t+k)%12).toNat:=by
 unfold repN
 rw[<- xN]
 show((List.replicate _ [c]).flatten.toArray).toList.length=_
 simp
theorem Ve(c:Nat){t:Int}(h0:0<=t)(h1:t<12){m:Nat}(hm:m<=12):Nms ((upI 0 m).map (repN c t)) where
 nd:=oH (XD _ _) fun a ha b hb e=>by
  have ha':=yx.mp ha
  have hb':=yx.mp hb
  have e2:=Pu Str.length e
  rw[uP,uP] at e2
  exact Ya h0 h1 (by lia) (by lia) (by lia) (by lia) (by lia)
 lo:=fun x hx=>by
  obtain⟨k,hk,rfl⟩:=cD.mp hx
  rw[uP]
  lia
 hi:=fun x hx=>by
  obtain⟨k,hk,rfl⟩:=cD.mp hx
  rw[uP]
  lia
 far:=fun hx=>by
  obtain⟨k,hk,e⟩:=cD.mp hx
  have e2:=Pu Str.length e
  rw[uP] at e2
  have e3:farS.length=20:=by decide +kernel
  lia
noncomputable def v8(st:Str)(sp:Int)(t k:Int):Str:=N5 st none (some sp)++⟨#[sgL.getD ((t+k)%12).toNat 0]⟩++N5 st (some sp) none
theorem YN{n d:Nat}{v:Int}(h0:0<=v)(h1:v<=n):HT.sIx n d (some v)=v.toNat:=by
 show(if v<0 then (v+(n:Int)).toNat else min v.toNat n)=_
 rw[Pn (by lia),jQ (by lia)]
theorem ZE(st:Str){sp:Int}(h0:0<=sp)(h1:sp<=st.length):(N5 st none (some sp)).cps.toList=st.cps.toList.take sp.toNat:=by
 show((st.cps.toList.drop 0).take (HT.sIx st.length st.length (some sp)-0))=_
 rw[YN h0 h1,gC,j8]
theorem aY(st:Str){sp:Int}(h0:0<=sp)(h1:sp<=st.length):(N5 st (some sp) none).cps.toList=st.cps.toList.drop sp.toNat:=by
 show((st.cps.toList.drop (HT.sIx st.length 0 (some sp))).take (st.length-HT.sIx st.length 0 (some sp)))=_
 rw[YN h0 h1,cN]
 rw[dL,xN]
 exact bG _
theorem tj(st:Str){sp:Int}(h0:0<=sp)(h1:sp<=st.length)(t k:Int):(v8 st sp t k).cps.toList=st.cps.toList.take sp.toNat++sgL.getD ((t+k)%12).toNat 0::st.cps.toList.drop sp.toNat:=by
 unfold v8
 rw[mz,mz,ZE st h0 h1,aY st h0 h1,VS,eB]
 rfl
theorem qL(st:Str){sp:Int}(h0:0<=sp)(h1:sp<=st.length)(t k:Int):(v8 st sp t k).length=st.length+1:=by
 rw[<- xN,tj st h0 h1,bF,bW,bL,dL,xN]
 lia
theorem Uu:∀s<20,∀i<12,wa.cps.toList.take s++sgL.getD i 0::wa.cps.toList.drop s≠farS.cps.toList:=by decide +kernel
theorem Tc{st:Str}(hst:st=""\/st="row"\/st=wa){sp:Int}(h0:0<=sp)(h1:sp<=st.length){t:Int}(t0:0<=t)(t1:t<12){m:Nat}(hm:m<=12):Nms ((upI 0 m).map (v8 st sp t)) where
 nd:=oH (XD _ _) fun a ha b hb e=>by
  have ha':=yx.mp ha
  have hb':=yx.mp hb
  have e2:(v8 st sp t a).cps.toList=(v8 st sp t b).cps.toList:=Pu (fun z:Str=>z.cps.toList) e
  rw[tj st h0 h1,tj st h0 h1] at e2
  have e3:=List.append_cancel_left e2
  have e4:sgL.getD ((t+a)%12).toNat 0=sgL.getD ((t+b)%12).toNat 0:=(List.cons.inj e3).1
  have l1:((t+a)%12).toNat<sgL.length:=by rw[lO];lia
  have l2:((t+b)%12).toNat<sgL.length:=by rw[lO];lia
  rw[bR,bC l1,bR,bC l2] at e4
  have e5:=(List.getElem_inj RQ).mp e4
  exact Ya t0 t1 (by lia) (by lia) (by lia) (by lia) (by lia)
 lo:=fun x hx=>by
  obtain⟨k,hk,rfl⟩:=cD.mp hx
  rw[qL st h0 h1]
  lia
 hi:=fun x hx=>by
  obtain⟨k,hk,rfl⟩:=cD.mp hx
  rw[qL st h0 h1]
  have l1:("":Str).length=0:=by decide +kernel
  have l2:("row":Str).length=3:=by decide +kernel
  have l3:wa.length=19:=by decide +kernel
  rcases hst with rfl|rfl|rfl<;>lia
 far:=fun hx=>by
  obtain⟨k,hk,e⟩:=cD.mp hx
  have l1:("":Str).length=0:=by decide +kernel
  have l2:("row":Str).length=3:=by decide +kernel
  have l3:wa.length=19:=by decide +kernel
  have l4:farS.length=20:=by decide +kernel
  have e2:=Pu Str.length e
  rw[qL st h0 h1] at e2
  rcases hst with rfl|rfl|rfl
  ·lia
  ·lia
  ·have e3:(v8 wa sp t k).cps.toList=farS.cps.toList:=Pu (fun z:Str=>z.cps.toList) e
   rw[tj wa h0 h1] at e3
   exact Uu sp.toNat (by lia) ((t+k)%12).toNat (by lia) e3
noncomputable def Zy:Sp:=fun vs H Q _=>∃c m:Int,vs=[.int c,.int m]/\0<=m/\m<=12/\
 ∀(l:Addr) (nm:AF) (H':Hp),H l=none->B0 H H'->H' l=some (.lst (nm.map V.str))->nm.length=m.toNat->Nms nm->Q (.ref l) H'
theorem YK{f:Int->V}(l:AJ):yi (fun _=>true) f l=l.map f:=by
 unfold yi
 rw[List.filter_eq_self.mpr fun _ _=>rfl]
theorem Ur(M:Bl mg)(F:Fun K "_law_named" "_law_named" pS f fd):B2 P w K mg base CX0 1 f fd pX Zy:=by
 have nd:=iu.nd
 refine F.ok iu ?_ ?_
 ·rintro _ _ _ _⟨_,_,rfl,_⟩
  rfl
 rintro _ _ _ _ H vs Q E hr⟨c,m,rfl,m0,m1,q⟩
 refine⟨_,(zN (zW (i:=2) nd rfl (Or.inr rfl) xT) (zN (zW (i:=3) nd rfl (Or.inr rfl) (zP y6 (zP yg (pv 0) zL) zL)) (zN (ze (zZ yV (zP y6 (pv 0) zL) zL (za _)) (zJ (zR (xH ["_law_k"] ["_law_cell","_law_turn"] [0,3] rfl (yY rfl (by decide +kernel) rfl (by decide +kernel) rfl rfl) (xi rfl M.range (z9 (pv 1) zD)) (fun _ _ _ _ _=>(zd (i:=0) (show((["_law_k"]:List PySem.Str)++(["_law_cell","_law_turn"]:List PySem.Str)).Nodup from by decide +kernel) rfl (NC rfl))) (yG (by decide)) zl (fun _ _ _ _ _=>xU) (fun _ _ _ _ _=>(zP Qb (zh md xT (zP y6 (zP yg (pv 1) zL) zL) (fun _ _=>rfl)) (zP yS zL (zP y6 (zP yS (pv 2) (pv 0)) zL))))))) zf) (zN (zW (i:=4) nd rfl (Or.inr rfl) (zh yl (yc (z9 xT (z9 xT (z9 xT zD)))) (zP y6 (pv 0) zL) (fun _ _=>rfl))) (zN (zW (i:=5) nd rfl (Or.inr rfl) (zP y6 (zP yg (pv 0) zL) (zP yS (zb Qt rfl M.len bO (z9 (pv 4) zD)) zL))) (zJ (zR (xH ["_law_k"] ["_law_stem","_law_signs","_law_spot","_law_turn"] [4,2,5,3] rfl (yY rfl (by decide +kernel) rfl (by decide +kernel) rfl rfl) (xi rfl M.range (z9 (pv 1) zD)) (fun _ _ _ _ _=>(zd (i:=0) (show((["_law_k"]:List PySem.Str)++(["_law_stem","_law_signs","_law_spot","_law_turn"]:List PySem.Str)).Nodup from by decide +kernel) rfl (NC rfl))) (yG (by decide)) zl (fun _ _ _ _ _=>xU) (fun _ _ _ _ _=>(zP jh (zP jh (wu af (pv 1) wg (wt (pv 3))) (zh md (pv 2) (zP y6 (zP yS (pv 4) (pv 0)) zL) (fun _ _=>rfl))) (wu af (pv 1) (wt (pv 3)) wg))))))))))),?_⟩
 have t0:0<=c / 4%12:=cT _ (by decide)
 have t1:c / 4%12<12:=cI _ (by decide)
 refine(NF rfl (NG _ _ ⟨rfl,rfl,⟨by decide,by decide⟩,NG _ _ ⟨rfl,rfl,(by show(0:Int)<12;decide),?_⟩⟩))
 refine NF rfl (NG _ _ ⟨rfl,rfl,(by show(0:Int)<4;decide),rfl,NF rfl ?_⟩)
 refine C0 (fun _=>?_) (fun cn=>?_)
 ·obtain⟨sg,hsg⟩:∃sg,atI (("a ~":Str).cps.toList) (c / 48%3)=some sg:=by
   have h0:0<=c / 48%3:=cT _ (by decide)
   have h1:c / 48%3<3:=cI _ (by decide)
   have ek:c / 48%3=(((c / 48%3).toNat:Nat):Int):=by lia
   have hl:(("a ~":Str).cps.toList).length=3:=by decide +kernel
   rw[ek]
   exact⟨_,yT (bC (by rw[hl];lia))⟩
  refine NF rfl (NF rfl ⟨by lia,by lia,?_⟩)
  refine rS (lo:=0) (n:=m.toNat) (fun _=>true) (fun k=>.str (repN sg (c / 4%12) k)) (by lia) (fun k ys N k0 k1 hN=>?_) ?_
  ·refine(NF rfl (NG _ _ ⟨rfl,rfl,⟨by decide,by decide⟩,NG _ _ ⟨rfl,rfl,(by show(0:Int)<3;decide),NH _ _ sg ⟨rfl,rfl,(by decide +kernel),hsg,?_⟩⟩⟩))
   refine NF rfl (NF rfl (NG _ _ ⟨rfl,rfl,NG _ _ ⟨rfl,rfl,(by show(0:Int)<12;decide),NG _ _ ⟨rfl,rfl,NG _ _ ⟨rfl,rfl,?_,?_,?_,?_⟩⟩⟩⟩))
   ·have:=cT (c / 4%12+k) (show(12:Int)≠0 by decide)
    lia
   ·have:=cI (c / 4%12+k) (show(0:Int)<12 by decide)
    lia
   ·show 1<=1000
    decide
   ·exact hN
  ·intro D hD
   rw[YK]
   refine q D ((upI 0 m.toNat).map (repN sg (c / 4%12))) _ hD (zH hD _) ?_ (by rw[bA,xk]) (Ve sg t0 t1 (by lia))
   rw[zM,eJ]
   rfl
 ·have c4:c%4=0\/c%4=1\/c%4=2:=by
   have h1:=cT c (show(4:Int)≠0 by decide)
   have h2:=cI c (show(0:Int)<4 by decide)
   have h3:c%4≠3:=fun e=>cn (Pq (Pu V.int e))
   lia
  obtain⟨st,hat,hst⟩:∃st:Str,atI [V.str "",V.str "row",V.str "a long stem of them"] (c%4)=some (.str st)/\(st=""\/st="row"\/st=wa):=by
   rcases c4 with e|e|e<;>rw[e]
   ·exact NF rfl (.inl rfl)
   ·exact NF rfl (.inr (.inl rfl))
   ·exact NF rfl (.inr (.inr rfl))
  have stl:st.length<=19:=by
   have l1:("":Str).length=0:=by decide +kernel
   have l2:("row":Str).length=3:=by decide +kernel
   have l3:wa.length=19:=by decide +kernel
   rcases hst with rfl|rfl|rfl<;>lia
  refine⟨(NB 3),fun p hp=>(NF rfl (NG _ _ ⟨rfl,rfl,(by show(0:Int)<4;decide),NI p _ _ _ ⟨rfl,rfl,SqL.of zM,hat,?_⟩⟩))⟩
  refine(NF rfl (NG _ _ ⟨rfl,rfl,⟨by decide,by decide⟩,NF rfl ⟨st,rfl,uJ (by lia),NG _ _ ⟨rfl,rfl,(NG _ _ ⟨rfl,rfl,by lia,?_⟩)⟩⟩⟩))
  have s0:0<=c / 48%((st.length:Int)+1):=cT _ (by lia)
  have s1:c / 48%((st.length:Int)+1)<=(st.length:Int):=by
   have:=cI (c / 48) (show(0:Int)<(st.length:Int)+1 by lia)
   lia
  refine NF rfl (NF rfl ⟨by lia,by lia,?_⟩)
  refine rS (lo:=0) (n:=m.toNat) (fun _=>true) (fun k=>.str (v8 st (c / 48%((st.length:Int)+1)) (c / 4%12) k)) (by lia) (fun k ys N k0 k1 hN=>?_) ?_
  ·have i0:=cT (c / 4%12+k) (show(12:Int)≠0 by decide)
   have i1:=cI (c / 4%12+k) (show(0:Int)<12 by decide)
   have hsg:atI (("mM ~aA0.xX_9":Str).cps.toList) ((c / 4%12+k)%12)=some (sgL.getD ((c / 4%12+k)%12).toNat 0):=by
    have ek:(c / 4%12+k)%12=((((c / 4%12+k)%12).toNat:Nat):Int):=by lia
    have l1:((c / 4%12+k)%12).toNat<sgL.length:=by rw[lO];lia
    have q1:atI sgL ((((c / 4%12+k)%12).toNat:Nat):Int)=some (sgL.getD ((c / 4%12+k)%12).toNat 0):=yT (by
     rw[bR,bC l1]
     rfl)
    rw[<- ek] at q1
    exact q1
   have la:(N5 st none (some (c / 48%((st.length:Int)+1)))).length<=19:=by
    rw[<- xN,ZE st s0 s1,bL,xN]
    lia
   have lb:(N5 st (some (c / 48%((st.length:Int)+1))) none).length<=19:=by
    rw[<- xN,aY st s0 s1,dL,xN]
    lia
   have lc:∀(x:Nat),(⟨#[x]⟩:Str).length=1:=fun _=>rfl
   have lab:∀(x:Nat),(N5 st none (some (c / 48%((st.length:Int)+1)))++(⟨#[x]⟩:Str)).length<=20:=fun x=>by
    rw[<- xN,mz,bF,xN,xN,lc]
    lia
   refine NF rfl (NF rfl (NF rfl ⟨st,rfl,uJ (by lia),?_⟩))
   refine NF rfl (NF rfl (NF rfl (NG _ _ ⟨rfl,rfl,NG _ _ ⟨rfl,rfl,(by show(0:Int)<12;decide),NH _ _ _ ⟨rfl,rfl,(by decide +kernel),hsg,?_⟩⟩⟩)))
   refine NG _ _ ⟨rfl,rfl,uJ (by rw[lc];lia),?_⟩
   refine(NF rfl (NF rfl (NF rfl ⟨st,rfl,uJ (by lia),(NG _ _ ⟨rfl,rfl,uJ (by have:=lab (sgL.getD ((c / 4%12+k)%12).toNat 0);lia),?_⟩)⟩)))
   exact hN
  ·intro D hD
   rw[YK]
   refine q D ((upI 0 m.toNat).map (v8 st (c / 48%((st.length:Int)+1)) (c / 4%12))) _ ((zH hp _).free hD) ((zH hp _).trans (zH hD _)) ?_ (by rw[bA,xk]) (Tc hst s0 s1 t0 t1 (by lia))
   rw[zM,eJ]
   rfl
noncomputable def vz:Sp:=fun vs H Q _=>∃t:Int,vs=[.int t]/\0<=t/\t<1000000/\Q (.int (2^t.toNat)) H
theorem QE(M:Bl mg)(F:Fun K "_law_doubled" "_law_doubled" oO f fd):B2 P w K mg base CX0 1 f fd se vz:=by
 have nd:=fu.nd
 refine F.ok fu ?_ ?_
 ·rintro _ _ _ _⟨_,rfl,_⟩
  rfl
 rintro _ _ _ _ H vs Q E hr⟨t,rfl,t0,t1,q⟩
 refine⟨_,(zN (zW (i:=1) nd rfl (NC rfl) zL) (zN (y9 c6 rfl (xi rfl M.range (z9 (pv 0) zD)) (zd (i:=2) nd rfl (NC rfl)) (zJ (zW (i:=1) nd rfl (NC rfl) (zP xo (pv 1) zL)))) (zJ (zR (pv 1))))),?_⟩
 refine NF rfl (NF rfl ⟨by lia,by lia,?_⟩)
 refine w4 (lo:=0) (n:=t.toNat) (fun i σ H'=>H'=H/\∃o,σ=[some (.int t),some (.int (2^i)),o]) ⟨rfl,_,rfl⟩ (fun i σ H' hi hp=>?_) (fun σ H' hp=>?_)
 ·obtain⟨rfl,o,rfl⟩:=hp
  refine(NF rfl (NG _ _ ⟨rfl,rfl,.inr ⟨by decide,by decide⟩,rfl,some (.int (0+(i:Int))),?_⟩))
  rw[Int.pow_succ]
  rfl
 ·obtain⟨rfl,o,rfl⟩:=hp
  exact NF rfl q
def vO(H:Hp)(l:Addr)(v:V)(s:AF):Prop:=∃a,v=.ref a/\a≠l/\H a=some (.lst (s.map V.str))
theorem vO.keep{H H':Hp}(g:B0 H H'){l:Addr}{v:V}{s:AF}(h:vO H l v s):vO H' l v s:=let ⟨a,e,n,q⟩:=h;⟨a,e,n,g _ _ q⟩
theorem vO.over{H:Hp}{l:Addr}{o:HO}{v:V}{s:AF}(h:vO H l v s):vO (upd H l o) l v s:=let ⟨a,e,n,q⟩:=h;⟨a,e,n,by rw[zS n];exact q⟩
abbrev xC(H:Hp)(l:Addr):AK->List AF->Prop:=Paired (vO H l)
theorem xC.keep{H H':Hp}(g:B0 H H'){l:Addr}:∀{xs:AK}{ss:List AF},xC H l xs ss->xC H' l xs ss
 | _,_,.nil=>.nil
 | _,_,.cons r t=>.cons (r.keep g) (xC.keep g t)
theorem xC.over{H:Hp}{l:Addr}{o:HO}:∀{xs:AK}{ss:List AF},xC H l xs ss->xC (upd H l o) l xs ss
 | _,_,.nil=>.nil
 | _,_,.cons r t=>.cons r.over (xC.over t)
theorem xC.len{H:Hp}{l:Addr}:∀{xs:AK}{ss:List AF},xC H l xs ss->xs.length=ss.length
 | _,_,.nil=>rfl
 | _,_,.cons _ t=>by rw[bW,bW,xC.len t]
theorem xC.get{H:Hp}{l:Addr}:∀{xs:AK}{ss:List AF},xC H l xs ss->∀(i:Nat) (s:AF),ss[i]? = some s->∃v,xs[i]? = some v/\vO H l v s
 | _,_,.nil,i,s,e=>by simp at e
 | _,_,.cons r t,0,s,e=>by
  simp at e
  subst e
  exact NF rfl r
 | _,_,.cons r t,i+1,s,e=>by
  obtain⟨v,h1,h2⟩:=xC.get t i s (by simpa using e)
  exact⟨v,by simpa using h1,h2⟩
theorem xJ(ns:AF):(ns.map V.str).all yJ=true:=by
 rw[kS,gH]
 intro x _
 rfl
theorem Vk{ns:AF}{k:Int}(h0:0<=k)(h:k<(ns.length:Int)):∃x,ns[k.toNat]? = some x/\atI (ns.map V.str) k=some (.str x):=by
 have hk:k.toNat<ns.length:=by lia
 have ek:k=((k.toNat:Nat):Int):=by lia
 have q:atI (ns.map V.str) ((k.toNat:Nat):Int)=some (.str ns[k.toNat]):=yT (by rw[bE,bC hk];rfl)
 rw[<- ek] at q
 exact⟨_,bC hk,q⟩
noncomputable def ZL(K:AA):Sp:=fun vs H Q _=>∃(ln:Addr) (nm:AF) (c m:Int),vs=[.ref ln,.int c,.int m]/\SqL K H ln (nm.map V.str)/\1<=nm.length/\nm.length<=12/\0<=m/\m<=900/\
 ∀(l:Addr) (xs:AK) (ss:List AF) (H':Hp),H l=none->B0 H H'->H' l=some (.lst xs)->xC H' l xs ss->ss.length=m.toNat->(∀s∈ss,s.Sublist nm)->Q (.ref l) H'
theorem two_pow_le{n:Nat}(h:n<=12):(1:Int)<=2^n/\(2:Int)^n<=4096:=by
 have:∀k≤12,(1:Int)<=2^k/\(2:Int)^k<=4096:=by decide
 exact this n h
theorem Vm(M:Bl mg)(F:Fun K "_law_sets" "_law_sets" ql f fd)(G6:Cal P w K mg base 1 "_law_row" tU mF)(D7:Cal P w K mg base 1 "_law_doubled" se vz) :
  B2 P w K mg base CX0 2 f fd qe (ZL K):=by
 have nd:=gq.nd
 refine F.ok gq ?_ ?_
 ·rintro _ _ _ _⟨_,_,_,_,rfl,_⟩
  rfl
 rintro _ _ _ _ H vs Q E hr⟨ln,nm,c,m,rfl,hS,n1,n2,m0,m1,q⟩
 refine⟨_,(zN (zW (i:=3) nd rfl (NC rfl) (zX D7 (rm hr) rfl (z9 (zb zo rfl M.len bO (z9 (pv 0) zD)) zD))) (zN (zW (i:=4) nd rfl (NC rfl) (yc zD)) (zN (y9 c6 rfl (xG (zX G6 (rm hr) rfl (z9 (pv 1) (z9 (pv 2) (z9 (zP xo zL (pv 3)) zD))))) (zd (i:=5) nd rfl (NC rfl)) (zN (zW (i:=6) nd rfl (NC rfl) (zP y6 (pv 5) (pv 3))) (zN (zW (i:=7) nd rfl (NC rfl) (yc zD)) (zN (y9 c6 rfl (xG (pv 0)) (zd (i:=8) nd rfl (NC rfl)) (zN (ze (zZ yV (zP y6 (pv 6) zL) zL (za _)) (zJ (yB (yq cA cB cE xP (pv 7) (z9 (pv 8) zD)))) zf) (zJ (zW (i:=6) nd rfl (NC rfl) (zP yg (pv 6) zL))))) (zN (ze (zZ yV (zP yg (pv 5) (pv 3)) zL (za _)) (zJ (zW (i:=7) nd rfl (NC rfl) (yc (z9 (zh yl (pv 0) (zP y6 (pv 5) (zb zo rfl M.len bO (z9 (pv 0) zD))) (fun _ _=>rfl)) zD)))) zf) (zN (ze (zZ yV (zP yg (pv 5) (pv 3)) zL (za _)) (zJ (zW (i:=7) nd rfl (NC rfl) (yc zD))) zf) (zN (ze (zZ yV (zP yg (pv 5) (pv 3)) zL (za _)) (zJ (zW (i:=7) nd rfl (NC rfl) (yD oE rfl M.list kD (z9 (pv 0) zD)))) zf) (zJ (yB (yq cA cB cE xP (pv 4) (z9 (pv 7) zD))))))))))) (zJ (zR (pv 4)))))),?_⟩
 have hl0:(nm.map V.str).length=nm.length:=bA _
 refine NF rfl ⟨ln,NF rfl ⟨.inl hS,(NF rfl ⟨by lia,by lia,?_⟩)⟩⟩
 have pw:=two_pow_le n2
 rw[hl0]
 have ez:(2:Int)^(((nm.length:Nat):Int).toNat)=2^nm.length:=rfl
 rw[ez]
 generalize hz:(2:Int)^nm.length=z at pw ⊢
 refine⟨(NB 0),fun l hl=>?_⟩
 refine(NF rfl (NF rfl (NF rfl (NG _ _ ⟨rfl,rfl,.inl ⟨by decide,by decide⟩,(NH c m (4*z) ⟨rfl,m0,m1,by lia,by lia,fun lf fs H1 nlf s1 e1 T3 all1=>?_⟩)⟩))))
 have sl:=zH (H:=H) hl (.lst [])
 have nl:lf≠l:=fun e=>by rw[e,zM] at nlf;cases nlf
 have el1:H1 l=some (.lst []):=s1 _ _ zM
 refine⟨lf,rfl,⟨_,SqL.of e1⟩,?_⟩
 refine xv (xs:=fs.map V.int) (fun i σ H'=>∃(xs:AK) (ss:List AF) (o1 o2 o3 o4:Option V),H' l=some (.lst xs)/\xC H' l xs ss/\ss.length=i/\(∀s∈ss,s.Sublist nm)/\H' lf=some (.lst (fs.map V.int))/\B0 H H'/\
  σ=[some (.ref ln),some (.int c),some (.int m),some (.int z),some (.ref l),o1,o2,o3,o4]) ⟨[],[],_,_,_,_,el1,.nil,rfl,(fun _ h=>nomatch h),e1,sl.trans s1,rfl⟩ (fun i σ H' hi hp=>?_) (fun i x σ H' hx hp=>?_) (fun σ H' hp=>?_)
 ·obtain⟨xs,ss,o1,o2,o3,o4,_,_,_,_,h2,_⟩:=hp
  exact SqL.of h2
 ·obtain⟨xs,ss,o1,o2,o3,o4,p1,p2,p3,p4,p5,p6,rfl⟩:=hp
  rw[bE] at hx
  cases ef:fs[i]? with
  | none=>rw[ef] at hx;cases hx
  | some g=>
   rw[ef] at hx
   cases hx
   have hg:=all1 g (bH ef)
   have hi:i<fs.length:=(bK.mp ef).1
   have lx:=p2.len
   have cd:CDiv g z:=⟨by lia,by lia⟩
   refine NF rfl (NF rfl (NG _ _ ⟨rfl,rfl,(by lia),?_⟩))
   refine⟨(NB 0),fun a ha=>?_⟩
   have nal:a≠l:=fun e=>by rw[e,p1] at ha;cases ha
   have naf:a≠lf:=fun e=>by rw[e,p5] at ha;cases ha
   refine NF rfl ⟨ln,rfl,⟨_,(p6.trans (zH ha _)).seq hS⟩,?_⟩
   refine xv (xs:=nm.map V.str) (fun k σ H2=>∃(ch:AF) (mk:Int) (o4:Option V),ch.Sublist (nm.take k)/\H2=upd H' a (.lst (ch.map V.str))/\
    σ=[some (.ref ln),some (.int c),some (.int m),some (.int z),some (.ref l),some (.int g),some (.int mk),some (.ref a),o4]) ⟨[],_,_,j3 _,rfl,rfl⟩ (fun k σ H2 hk hp=>?_) (fun k y σ H2 hy hp=>?_) (fun σ H2 hp=>?_)
   ·obtain⟨ch,mk,o4,_,rfl,_⟩:=hp
    exact(p6.trans (zH ha _)).seq hS
   ·obtain⟨ch,mk,o4,hch,rfl,rfl⟩:=hp
    rw[bE] at hy
    cases en:nm[k]? with
    | none=>rw[en] at hy;cases hy
    | some nk=>
     rw[en] at hy
     cases hy
     have tk:=zq en
     have hcl:ch.length<=12:=by
      have:=hch.length_le
      rw[bL] at this
      lia
     refine NF rfl (NG _ _ ⟨rfl,rfl,(by show(0:Int)<2;decide),rfl,NF rfl ?_⟩)
     refine C0 (fun _=>?_) (fun _=>?_)
     ·refine NF rfl ⟨.inl ⟨rfl,_,SqL.of zM⟩,NF rfl (NH a _ _ ⟨rfl,rfl,zM,zp (by rw[bA];lia),?_⟩)⟩
      refine NF rfl (NG _ _ ⟨rfl,rfl,⟨by decide,by decide⟩,ch++[nk],_,some (.str nk),?_,?_,rfl⟩)
      ·rw[tk]
       exact hch.append (j3 _)
      ·rw[vq,bM]
       rfl
     ·refine NF rfl (NG _ _ ⟨rfl,rfl,⟨by decide,by decide⟩,ch,_,some (.str nk),?_,rfl,rfl⟩)
      rw[tk]
      exact hch.trans (List.sublist_append_left _ _)
   ·obtain⟨ch,mk,o4,hch,rfl,rfl⟩:=hp
    rw[bA,bY] at hch
    have fin:∀(b:Addr) (cs:AF) (H3:Hp) (o2 o4:Option V),cs.Sublist nm->b≠l->H3 b=some (.lst (cs.map V.str))->B0 (upd H' a (.lst (ch.map V.str))) H3->
      ∃(xs':AK) (ss':List AF) (o1' o2' o3' o4':Option V),upd H3 l (.lst (xs++[.ref b])) l=some (.lst xs')/\xC (upd H3 l (.lst (xs++[.ref b]))) l xs' ss'/\ss'.length=i+1/\(∀s∈ss',s.Sublist nm)/\
       upd H3 l (.lst (xs++[.ref b])) lf=some (.lst (fs.map V.int))/\B0 H (upd H3 l (.lst (xs++[.ref b])))/\
       ([some (.ref ln),some (.int c),some (.int m),some (.int z),some (.ref l),some (.int g),o2,some (.ref b),o4]:St)=[some (.ref ln),some (.int c),some (.int m),some (.int z),some (.ref l),o1',o2',o3',o4']:=by
     intro b cs H3 o2 o4 hcs hb hb3 g3
     have g4:B0 H' H3:=(zH ha _).trans g3
     refine⟨_,ss++[cs],_,_,_,_,zM,?_,by rw[bF,p3];rfl,fun s' hs'=>?_,?_,wQ (p6.trans g4) hl,rfl⟩
     ·exact jJ (p2.keep g4).over ⟨b,rfl,hb,by rw[zS hb];exact hb3⟩
     ·rcases bZ.mp hs' with h|h
      ·exact p4 s' h
      ·rw[bD.mp h]
       exact hcs
     ·rw[zS nl]
      exact g4 _ _ p5
    have el:∀{H3:Hp},B0 (upd H' a (.lst (ch.map V.str))) H3->H3 l=some (.lst xs):=fun {H3} g3=>g3 _ _ ((zH ha _) _ _ p1)
    have app:∀{H3:Hp},B0 (upd H' a (.lst (ch.map V.str))) H3->xs.length<sizeLine:=fun _=>zp (by lia)
    refine NF rfl (NF rfl (NG _ _ ⟨rfl,rfl,cd,rfl,NF rfl ?_⟩))
    refine C0 (fun d1=>?_) (fun d1=>?_)
    ·obtain⟨x1,hx1,ax1⟩:=Vk (ns:=nm) (k:=g%(((nm.map V.str).length:Nat):Int)) (cT _ (by lia)) (by rw[hl0];exact cI _ (by lia))
     have q1:g / z=1:=V.int.inj (zx d1)
     refine(NF rfl (NF rfl (NF rfl ⟨ln,(NF rfl ⟨.inl ((p6.trans (zH ha _)).seq hS),(NG _ _ ⟨rfl,rfl,(by rw[hl0];lia),(NI ln _ _ _ ⟨rfl,rfl,(p6.trans (zH ha _)).seq hS,ax1,(NB 1),fun b1 hb1=>?_⟩)⟩)⟩)⟩)))
     have g1:=zH hb1 (.lst [.str x1])
     have sub1:[x1].Sublist nm:=List.singleton_sublist.mpr (bH hx1)
     refine NF rfl (NF rfl (NG _ _ ⟨rfl,rfl,cd,rfl,NF rfl ?_⟩))
     refine C0 (fun d=>ND (show g / z=2 from V.int.inj (zx d)) (by lia)) (fun _=>(NF rfl (NF rfl (NG _ _ ⟨rfl,rfl,cd,rfl,NF rfl ?_⟩))))
     refine C0 (fun d=>ND (show g / z=3 from V.int.inj (zx d)) (by lia)) (fun _=>?_)
     refine NF rfl ⟨.inl ⟨rfl,_,SqL.of (el g1)⟩,NF rfl (NH l _ _ ⟨rfl,rfl,el g1,app g1,?_⟩)⟩
     exact fin b1 [x1] _ _ _ sub1 (fun e=>by rw[e,(zH ha (.lst (ch.map V.str))) _ _ p1] at hb1;cases hb1) zM g1
    ·refine NF rfl (NF rfl (NG _ _ ⟨rfl,rfl,cd,rfl,NF rfl ?_⟩))
     refine C0 (fun d2=>?_) (fun d2=>?_)
     ·have q2:g / z=2:=V.int.inj (zx d2)
      refine⟨(NB 0),fun b1 hb1=>?_⟩
      have g1:=zH hb1 (.lst [])
      refine NF rfl (NF rfl (NG _ _ ⟨rfl,rfl,cd,rfl,NF rfl ?_⟩))
      refine C0 (fun d=>ND (show g / z=3 from V.int.inj (zx d)) (by lia)) (fun _=>?_)
      refine NF rfl ⟨.inl ⟨rfl,_,SqL.of (el g1)⟩,NF rfl (NH l _ _ ⟨rfl,rfl,el g1,app g1,?_⟩)⟩
      exact fin b1 [] _ _ _ (jG _) (fun e=>by rw[e,(zH ha (.lst (ch.map V.str))) _ _ p1] at hb1;cases hb1) zM g1
     ·refine NF rfl (NF rfl (NG _ _ ⟨rfl,rfl,cd,rfl,NF rfl ?_⟩))
      refine C0 (fun d3=>?_) (fun d3=>?_)
      ·refine(NF rfl ⟨ln,(NF rfl ⟨.inl ((p6.trans (zH ha _)).seq hS),fun b1 hb1=>?_⟩)⟩)
       have g1:=zH hb1 (.lst (nm.map V.str))
       refine NF rfl ⟨.inl ⟨rfl,_,SqL.of (el g1)⟩,NF rfl (NH l _ _ ⟨rfl,rfl,el g1,app g1,?_⟩)⟩
       exact fin b1 nm _ _ _ (j3 _) (fun e=>by rw[e,(zH ha (.lst (ch.map V.str))) _ _ p1] at hb1;cases hb1) zM g1
      ·refine NF rfl ⟨.inl ⟨rfl,_,SqL.of (el (B0.refl _))⟩,NF rfl (NH l _ _ ⟨rfl,rfl,el (B0.refl _),app (B0.refl _),?_⟩)⟩
       exact fin a ch _ _ _ hch nal zM (B0.refl _)
 ·obtain⟨xs,ss,o1,o2,o3,o4,p1,p2,p3,p4,p5,p6,rfl⟩:=hp
  rw[bA] at p3
  exact NF rfl (q l xs ss _ hl p6 p1 p2 (by rw[p3,T3]) p4)
abbrev Row:=List (Str×Int)
abbrev AL:=List Row
noncomputable def wX(p:Str×Int):DV:=.tup [.str p.1,.int p.2]
noncomputable def rowD(r:Row):DV:=.tup (r.map wX)
theorem SX{H:Hp}{a:Addr}{x:Str}{z:Int}(h:H a=some (.tup [.str x,.int z])):Tell H (wX (x,z)) (.ref a):=zw h (by show 2<=1000000;decide) (.cons (vG x) (.cons (yy z) .nil))
theorem vT{xs:AK}:∀ys,HO.lst xs≠.tup ys:=fun _ e=>by cases e
noncomputable def ZZ:Sp:=fun vs H Q _=>∃g p:Int,vs=[.int g,.int p]/\∀r,0<=r->r<=1000000->Q (.int r) H
theorem TB(F:Fun K "_law_value" "_law_value" pH f fd):B2 P w K mg base CX0 1 f fd pj ZZ:=by
 have nd:=il.nd
 refine F.ok il ?_ ?_
 ·rintro _ _ _ _⟨_,_,rfl,_⟩
  rfl
 rintro _ _ _ _ H vs Q E hr⟨g,p,rfl,q⟩
 refine⟨_,(zN (ze (zZ yV (zP yg (pv 0) zL) zL (za _)) (zJ (zR (zP y6 (zP yS (pv 0) (zP xo zL (pv 1))) zL))) zf) (zN (ze (zZ yV (zP yg (pv 0) zL) zL (za _)) (zJ (zR (zP xo zL (zP y6 (zP yS (pv 0) (pv 1)) zL)))) zf) (zJ (zR (zP y6 (zP yS (pv 0) (pv 1)) zL))))),?_⟩
 refine NF rfl (NG _ _ ⟨rfl,rfl,⟨by decide,by decide⟩,rfl,NF rfl ?_⟩)
 refine C0 (fun _=>?_) (fun _=>?_)
 ·refine(NF rfl (NF rfl (NG _ _ ⟨rfl,rfl,.inl ⟨by decide,by decide⟩,NG _ _ ⟨rfl,rfl,NG _ _ ⟨rfl,rfl,(by show(0:Int)<1000001;decide),?_⟩⟩⟩)))
  have h1:=cT (g+7*p) (show(1000001:Int)≠0 by decide)
  have h2:=cI (g+7*p) (show(0:Int)<1000001 by decide)
  exact q _ h1 (by lia)
 ·refine NF rfl (NG _ _ ⟨rfl,rfl,⟨by decide,by decide⟩,rfl,NF rfl ?_⟩)
  have h1:=cT (g+p) (show(2:Int)≠0 by decide)
  have h2:=cI (g+p) (show(0:Int)<2 by decide)
  refine C0 (fun _=>?_) (fun _=>?_)
  ·refine NF rfl (NF rfl (NG _ _ ⟨rfl,rfl,NG _ _ ⟨rfl,rfl,(by show(0:Int)<2;decide),(NG _ _ ⟨rfl,rfl,.inl ⟨by decide,by decide⟩,?_⟩)⟩⟩))
   exact q _ (by lia) (by lia)
  ·refine NF rfl (NF rfl (NG _ _ ⟨rfl,rfl,NG _ _ ⟨rfl,rfl,(by show(0:Int)<2;decide),?_⟩⟩))
   exact q _ h1 (by lia)
structure Rws(nm:AF)(z3:AL):Prop where
 sub:∀r∈z3,(r.map Prod.fst).Sublist nm
 val:∀r∈z3,∀p∈r,0<=p.2/\p.2<=1000000
noncomputable def YQ:Sp:=fun vs H Q _=>∃(l:Addr) (xs:AK) (ss:List AF) (c:Int),vs=[.ref l,.int c]/\H l=some (.lst xs)/\xC H l xs ss/\ss.length<=900/\(∀s∈ss,s.length<=12)/\
 ∀(lr:Addr) (us:AK) (z3:AL) (H':Hp),H lr=none->B0 H H'->H' lr=some (.lst us)->zF H' (z3.map rowD) us->z3.map (fun r=>r.map Prod.fst)=ss->(∀r∈z3,∀p∈r,0<=p.2/\p.2<=1000000)->Q (.ref lr) H'
theorem SI(M:Bl mg)(F:Fun K "_law_valued" "_law_valued" oX f fd)(G6:Cal P w K mg base 1 "_law_row" tU mF)(L8:Cal P w K mg base 1 "_law_value" pj ZZ) :
  B2 P w K mg base CX0 2 f fd oW YQ:=by
 have nd:=fh.nd
 refine F.ok fh ?_ ?_
 ·rintro _ _ _ _⟨_,_,_,_,rfl,_⟩
  rfl
 rintro _ _ _ _ H vs Q E hr⟨l,xs,ss,c,rfl,hL,hSs,n0,n1,q⟩
 refine⟨_,(zN (zW (i:=2) nd rfl (NC rfl) (zX G6 (rm hr) rfl (z9 (pv 1) (z9 (zb zo rfl M.len bO (z9 (pv 0) zD)) (z9 zL zD))))) (zN (zW (i:=3) nd rfl (NC rfl) (yc zD)) (zN (y9 c6 rfl (xi rfl M.range (z9 (zb zo rfl M.len bO (z9 (pv 0) zD)) zD)) (zd (i:=4) nd rfl (NC rfl)) (zN (zW (i:=5) nd rfl (NC rfl) (yc zD)) (zN (y9 c6 rfl (xi rfl M.range (z9 (zb zo rfl M.len bO (z9 (zh yl (pv 0) (pv 4) (fun _ _=>rfl)) zD)) zD)) (zd (i:=6) nd rfl (NC rfl)) (zJ (yB (yq cA cB cE xP (pv 5) (z9 (yH (z9 (zh yl (zh yl (pv 0) (pv 4) (fun _ _=>rfl)) (pv 6) (fun _ _=>rfl)) (z9 (zX L8 (rm hr) rfl (z9 (zh yl (pv 2) (pv 4) (fun _ _=>rfl)) (z9 (pv 6) zD))) zD))) zD))))) (zJ (yB (yq cA cB cE xP (pv 3) (z9 (yD ym rfl M.tuple bS (z9 (pv 5) zD)) zD))))))) (zJ (zR (pv 3)))))),?_⟩
 have hl0:=hSs.len
 refine NF rfl (NF rfl (NG l _ ⟨rfl,.inl (SqL.of hL),(NH _ _ _ ⟨rfl,by lia,by lia,by decide,by decide,fun lf fs H1 nlf s1 e1 T3 all1=>?_⟩)⟩))
 have len1':fs.length=ss.length:=by rw[T3,hl0];rfl
 refine⟨(NB 0),fun lr hlr=>?_⟩
 have nr:lf≠lr:=yC e1 hlr
 have nlr0:H lr=none:=s1.free hlr
 refine NF rfl (NG l _ ⟨rfl,.inl (SqL.of ((s1.trans (zH hlr _)) _ _ hL)),(NF rfl ⟨by lia,by lia,?_⟩)⟩)
 refine w4 (lo:=0) (n:=((xs.length:Nat):Int).toNat) (fun i σ H'=>∃(us:AK) (z3:AL) (o1 o2 o3:Option V),H' lr=some (.lst us)/\zF H' (z3.map rowD) us/\z3.map (fun r=>r.map Prod.fst)=ss.take i/\(∀r∈z3,∀p∈r,0<=p.2/\p.2<=1000000)/\B0 H1 H'/\
  σ=[some (.ref l),some (.int c),some (.ref lf),some (.ref lr),o1,o2,o3]) ⟨[],[],_,_,_,zM,.nil,rfl,(fun _ h=>nomatch h),zH hlr _,rfl⟩ (fun i σ H' hi hp=>?_) (fun σ H' hp=>?_)
 ·obtain⟨us,z3,o1,o2,o3,p1,p2,p3,p4,p5,rfl⟩:=hp
  have hi':i<ss.length:=by
   have:((xs.length:Nat):Int).toNat=xs.length:=rfl
   lia
  have ei:(0:Int)+(i:Int)=(i:Int):=jB _
  have es:ss[i]? = some ss[i]:=bC hi'
  generalize ss[i]=sI at es
  have hsI:=n1 sI (bH es)
  obtain⟨v,hv,a,rfl,na,ha⟩:=hSs.get i sI es
  have lus:=p2.length
  rw[bA] at lus
  have lrows:z3.length=i:=by
   have:=Pu List.length p3
   rw[bA,bL] at this
   lia
  have atv:atI xs ((0:Int)+(i:Int))=some (.ref a):=by rw[ei];exact yT hv
  have gl:∀{H2:Hp},B0 H' H2->H2 l=some (.lst xs)/\H2 a=some (.lst (sI.map V.str))/\H2 lf=some (.lst (fs.map V.int)):=fun {H2} g=>⟨(s1.trans (p5.trans g)) _ _ hL,(s1.trans (p5.trans g)) _ _ ha,(p5.trans g) _ _ e1⟩
  refine⟨(NB 0),fun lo hlo=>?_⟩
  have go:=zH (H:=H') hlo (.lst [])
  refine NF rfl (NF rfl (NI l _ _ _ ⟨rfl,rfl,SqL.of (gl go).1,atv,NG a _ ⟨rfl,.inl (SqL.of (gl go).2.1),(NF rfl ⟨by lia,by rw[bA];lia,?_⟩)⟩⟩))
  have hls:(sI.map V.str).length=sI.length:=bA _
  refine w4 (lo:=0) (n:=(((sI.map V.str).length:Nat):Int).toNat) (fun j σ H2=>∃(zs:AK) (row:Row) (o3:Option V),H2 lo=some (.lst zs)/\zF H2 (row.map wX) zs/\row.map Prod.fst=sI.take j/\(∀p∈row,0<=p.2/\p.2<=1000000)/\B0 H' H2/\
   σ=[some (.ref l),some (.int c),some (.ref lf),some (.ref lr),some (.int (0+(i:Int))),some (.ref lo),o3]) ⟨[],[],_,zM,.nil,rfl,(fun _ h=>nomatch h),go,rfl⟩ (fun j σ H2 hj hp=>?_) (fun σ H2 hp=>?_)
  ·obtain⟨zs,row,o3,r1,r2,r3,r4,r5,rfl⟩:=hp
   have hj':j<sI.length:=by
    have:(((sI.map V.str).length:Nat):Int).toNat=sI.length:=by rw[hls];rfl
    lia
   have ej:(0:Int)+(j:Int)=(j:Int):=jB _
   have ex:sI[j]? = some sI[j]:=bC hj'
   generalize sI[j]=x at ex
   have atx:atI (sI.map V.str) ((0:Int)+(j:Int))=some (.str x):=by
    rw[ej]
    exact yT (by rw[bE,ex];rfl)
   have atf:atI (fs.map V.int) ((0:Int)+(i:Int))=some (.int (fs.getD i 0)):=by
    rw[ei]
    exact Ze (ns:=fs) (k:=(i:Int)) (by lia) (by lia)
   have lrow:row.length=j:=by
    have:=Pu List.length r3
    rw[bA,bL] at this
    lia
   have lz:=r2.length
   rw[bA] at lz
   refine NF rfl ⟨.inl ⟨rfl,_,SqL.of r1⟩,NF rfl (NF rfl (NI l _ _ _ ⟨rfl,rfl,SqL.of (gl r5).1,atv,NF rfl (NI a _ _ _ ⟨rfl,rfl,SqL.of (gl r5).2.1,atx,?_⟩)⟩))⟩
   refine NF rfl (NF rfl (NI lf _ _ _ ⟨rfl,rfl,SqL.of (gl r5).2.2,atf,NF rfl (NG _ _ ⟨rfl,fun z z0 z1=>⟨(NB 2),fun t ht=>?_⟩⟩)⟩))
   have gt:=zH (H:=H2) ht (.tup [.str x,.int z])
   refine NH lo zs _ ⟨rfl,rfl,gt _ _ r1,zp (by lia),?_⟩
   refine⟨_,row++[(x,z)],some (.int (0+(j:Int))),zM,?_,?_,fun p hp=>?_,wQ (r5.trans gt) hlo,rfl⟩
   ·rw[bM]
    exact zF.over (gt _ _ r1) vT _ _ (zF.snoc (zF.keep gt _ _ r2) (SX zM))
   ·rw[bM,r3,zq ex]
    rfl
   ·rcases bZ.mp hp with h|h
    ·exact r4 p h
    ·rw[bD.mp h]
     exact⟨z0,z1⟩
  ·obtain⟨zs,row,o3,r1,r2,r3,r4,r5,rfl⟩:=hp
   have er:(((sI.map V.str).length:Nat):Int).toNat=sI.length:=by rw[hls];rfl
   rw[er,bY] at r3
   have lrow:row.length<=12:=by
    have:=Pu List.length r3
    rw[bA] at this
    lia
   refine NF rfl ⟨.inl ⟨rfl,_,SqL.of (r5 _ _ p1)⟩,NF rfl ⟨lo,NF rfl (.inl ⟨SqL.of r1,fun t ht=>?_⟩)⟩⟩
   have gt:=zH (H:=H2) ht (.tup zs)
   have el:=(r5.trans gt) _ _ p1
   refine NH lr us _ ⟨rfl,rfl,el,zp (by lia),?_⟩
   refine⟨_,z3++[row],_,_,_,zM,?_,?_,fun r hr'=>?_,wQ (p5.trans (r5.trans gt)) hlr,rfl⟩
   ·rw[bM]
    refine zF.over el vT _ _ (zF.snoc (zF.keep (r5.trans gt) _ _ p2) (zw zM ?_ (zF.keep gt _ _ r2)))
    rw[bA]
    lia
   ·rw[bM,p3,zq es]
    exact Pu (ss.take i++·) (Pu (fun z=>[z]) r3)
   ·rcases bZ.mp hr' with h|h
    ·exact p4 r h
    ·rw[bD.mp h]
     exact r4
 ·obtain⟨us,z3,o1,o2,o3,p1,p2,p3,p4,p5,rfl⟩:=hp
  have er:((xs.length:Nat):Int).toNat=ss.length:=by rw[hl0];rfl
  rw[er,bY] at p3
  exact NF rfl (q lr us z3 _ nlr0 (s1.trans p5) p1 p2 p3 p4)
noncomputable def zY(s:AF):DV:=.tup (s.map DV.str)
noncomputable def dnI(hi:Int)(j:Nat):AJ:=(List.range j).map fun(k:Nat)=>hi-(k:Int)
theorem Zg(hi:Int)(j:Nat):(dnI hi j).length=j:=by unfold dnI;rw[bA,fI]
theorem uz{hi:Int}{j:Nat}{x:Int}:x∈dnI hi j↔hi-j<x/\x<=hi:=by
 unfold dnI
 rw[cD]
 constructor
 ·rintro⟨k,hk,rfl⟩
  have:=cY.mp hk
  lia
 ·rintro⟨h1,h2⟩
  exact⟨(hi-x).toNat,cY.mpr (by lia),by lia⟩
noncomputable def zk(r:Row):AF:=r.map Prod.fst
noncomputable def zg(z3:AL)(n:Int):Row:=z3.getD (n-1).toNat []
noncomputable def uB(z3:AL)(k:Int):DV:=.tup [.int k,zY (zk (zg z3 k))]
noncomputable def xl(n r:Int):AJ:=(dnI (n-1) (n-1).toNat).filter fun k=>decide (n-k<=r)
noncomputable def rD(z3:AL)(n r:Int):DV:=.tup ((xl n r).map (uB z3))
noncomputable def yE(z3:AL)(n r:Int):DV:=.tup [.int n,rowD (zg z3 n),rD z3 n r]
theorem Se{H:Hp}{z3:AL}{us:AK}(h:zF H (z3.map rowD) us){k:Int}(k0:1<=k)(k1:k<=z3.length):∃v,us[(k-1).toNat]? = some v/\atI us (k-1)=some v/\Tell H (rowD (zg z3 k)) v:=by
 have hk:(k-1).toNat<z3.length:=by lia
 obtain⟨v,e,t⟩:=h.get (k-1).toNat (rowD (zg z3 k)) (by
  unfold zg
  rw[bE,bR,bC hk]
  rfl)
 have ek:k-1=(((k-1).toNat:Nat):Int):=by lia
 exact⟨v,e,by rw[ek];exact yT e,t⟩
theorem pK{H:Hp}:∀{r:Row}{xs:AK},zF H (r.map wX) xs->∀(i:Nat) (x:V),xs[i]? = some x->∃(p:Str×Int) (a:Addr),r[i]? = some p/\x=.ref a/\H a=some (.tup [.str p.1,.int p.2]):=by
 intro r xs h i x e
 obtain⟨d,e1,t⟩:=h.at i x e
 rw[bE] at e1
 cases er:r[i]? with
 | none=>rw[er] at e1;cases e1
 | some p=>
  rw[er] at e1
  have e2:wX p=d:=Option.some.inj e1
  subst e2
  obtain⟨a,ys,rfl,h1,_,h2⟩:=zr t
  obtain⟨y1,r1,rfl,t1,h3⟩:=yM h2
  obtain⟨y2,r2,rfl,t2,h4⟩:=yM h3
  have:=xx h4
  subst this
  rw[sW t1,wz t2] at h1
  exact NG p a ⟨rfl,rfl,h1⟩
structure GoodN(zs:AF):Prop where
 lo:1<=zs.length
 hi:zs.length<=12
 nd:zs.Nodup
noncomputable def SqN(K:AA)(H:Hp)(p:Addr)(zs:AF):Prop:=SqL K H p (zs.map V.str)\/SqT K H p (zs.map V.str)
theorem SqN.keep{K:AA}{H H':Hp}{p:Addr}{zs:AF}(h:B0 H H')(x:SqN K H p zs):SqN K H' p zs:=x.imp (fun q=>h.seq q) fun q=>uK h q
noncomputable def ja(K:AA):Sp:=fun vs H Q _=>∃(p:Addr) (zs:AF),vs=[.ref p]/\SqN K H p zs/\GoodN zs/\∀H',B0 H H'->Q .non H'
theorem Ql(M:Bl mg)(F:Fun K "refuse_bad_names" "refuse_bad_names" nN f fd):B2 P w K mg base CX0 1 f fd nR (ja K):=by
 have nd:=bg.nd
 refine F.ok bg (fun vs H Q E h=>?_) (fun _ _ _ _ H vs Q E hr h=>?_)
 ·obtain⟨_,_,rfl,_⟩:=h
  rfl
 ·obtain⟨p,zs,rfl,hp,g,k⟩:=h
  refine⟨_,(zN (ze (zZ wA (zb zo rfl M.len bO (z9 (pv 0) zD)) zL (za _)) (zJ xg) zf) (zN (ze (zZ xA (zb zo rfl M.len bO (z9 (pv 0) zD)) (vd rfl M.MOST_NAMES) (za _)) (zJ xg) zf) (zJ (ze (zZ xn (zb dy rfl M.len bO (z9 (yD (dk rfl) rfl M.set jC (z9 (pv 0) zD)) zD)) (zb zo rfl M.len bO (z9 (pv 0) zD)) (za _)) (zJ xg) zf)))),?_⟩
  have:=g.lo
  have:=g.hi
  have el:(zs.map V.str).length=zs.length:=bA _
  refine(NF rfl (NG p _ ⟨rfl,hp,(NG _ _ ⟨rfl,rfl,(NF rfl (C0 (fun q=>ND (zx q) (by lia)) fun _=>?_))⟩)⟩))
  refine(NF rfl (NG p _ ⟨rfl,hp,(NG _ _ ⟨rfl,rfl,(NF rfl (C0 (fun q=>ND (zx q) (by lia)) fun _=>?_))⟩)⟩))
  refine(NF rfl (NG p zs ⟨rfl,hp,by lia,fun l hl=>(NG l zs ⟨rfl,zM,by lia,NF rfl (NG p (zs.map V.str) ⟨rfl,SqN.keep (zH hl _) hp,rfl,NF rfl ?_⟩)⟩)⟩))
  refine aD ?_ (k _ (zH hl _))
  rw[lZ g.nd,el]
noncomputable def je:Sp:=fun vs H Q _=>∃r:Int,vs=[.int r]/\0<=r/\r<=10/\Q .non H
theorem Qn(M:Bl mg)(F:Fun K "refuse_bad_reach" "refuse_bad_reach" nQ f fd):B2 P w K mg base CX0 1 f fd nU je:=by
 have nd:=bh.nd
 refine F.ok bh (fun vs H Q E h=>?_) (fun _ _ _ _ H vs Q E hr h=>?_)
 ·obtain⟨_,rfl,_⟩:=h
  rfl
 ·obtain⟨r,rfl,r0,r1,k⟩:=h
  refine⟨_,(zJ (ze (PW.pt (xX (zZ wA (pv 0) zL (za _)) (xb (zZ xA (pv 0) (vd rfl M.MOST_REACH) (za _))))) (zJ xg) zf)),?_⟩
  refine(NF rfl (NG _ _ ⟨rfl,rfl,(NF rfl (C0 (fun q=>ND (zx q) (by lia)) fun _=>?_))⟩))
  exact(NF rfl (NG _ _ ⟨rfl,rfl,(NF rfl (C0 (fun q=>ND (zx q) (by lia)) fun _=>k))⟩))
noncomputable def HdN(K:AA)(H:Hp)(p:Addr)(zs:AF):Prop:=SqL K H p (zs.map V.str)\/H p=some (.tup (zs.map V.str))
theorem HdN.sq{K:AA}{H:Hp}{p:Addr}{zs:AF}(h:HdN K H p zs):SqN K H p zs:=h.imp id SqT.of
theorem HdN.keep{K:AA}{H H':Hp}{p:Addr}{zs:AF}(s:B0 H H')(h:HdN K H p zs):HdN K H' p zs:=h.imp (fun q=>s.seq q) fun q=>s _ _ q
noncomputable def qo(K:AA):Sp:=fun vs H Q _=>∃(p:Addr) (zs:AF) (r:Int),vs=[.ref p,.int r]/\HdN K H p zs/\GoodN zs/\0<=r/\r<=10/\∀(l:Addr) (H':Hp),B0 H H'->H' l=some (.tup (zs.map V.str))->Q (.ref l) H'
theorem Qj(M:Bl mg)(F:Fun K "bulletin_names" "bulletin_names" nM f fd)(E9:Cal P w K mg base 1 "refuse_bad_names" nR (ja K))(F2:Cal P w K mg base 1 "refuse_bad_reach" nU je) :
  B2 P w K mg base CX0 2 f fd sZ (qo K):=by
 have nd:=cu.nd
 refine F.ok cu (fun vs H Q E h=>?_) (fun _ _ _ _ H vs Q E hr h=>?_)
 ·obtain⟨_,_,_,rfl,_⟩:=h
  rfl
 ·obtain⟨p,zs,r,rfl,hp,g,r0,r1,k⟩:=h
  refine⟨_,(zN (yB (zX E9 (rm hr) rfl (z9 (pv 0) zD))) (zN (yB (zX F2 (rm hr) rfl (z9 (pv 1) zD))) (zJ (zR (yD ym rfl M.tuple bS (z9 (pv 0) zD)))))),?_⟩
  refine(NF rfl (NG p zs ⟨rfl,hp.sq,g,fun H1 s1=>(NF rfl ⟨r,rfl,r0,r1,NF rfl (NG p (zs.map V.str) ⟨rfl,?_⟩)⟩)⟩))
  rcases hp.keep s1 with hq|hq
  ·exact .inl ⟨hq,fun l hl=>k l _ (s1.trans (zH hl _)) zM⟩
  ·exact .inr ⟨SqT.of hq,k p _ s1 hq⟩
noncomputable def yO(fp:List Addr)(H H':Hp):Prop:=∀b o,H b=some o->b∉fp->H' b=some o
theorem yO.of{fp:List Addr}{H H':Hp}(h:B0 H H'):yO fp H H':=fun b o e _=>h b o e
noncomputable def xY(H:Hp)(fp:List Addr):Prop:=∀b∈fp,∀xs,H b≠some (.tup xs)
mutual
theorem Tell.but{fp:List Addr}{H H':Hp}(s:yO fp H H')(n:xY H fp):∀(d:DV) (x:V),Tell H d x->Tell H' d x
 | .non,_,h=>by unfold Tell at h ⊢;exact h
 | .bl _,_,h=>by unfold Tell at h ⊢;exact h
 | .int _,_,h=>by unfold Tell at h ⊢;exact h
 | .str _,_,h=>by unfold Tell at h ⊢;exact h
 | .tup ds,_,h=>by
  unfold Tell at h ⊢
  obtain⟨a,xs,e,h1,h2,h3⟩:=h
  exact⟨a,xs,e,s _ _ h1 (fun m=>n a m xs h1),h2,zF.but s n ds xs h3⟩
theorem zF.but{fp:List Addr}{H H':Hp}(s:yO fp H H')(n:xY H fp):∀(ds:List DV) (xs:AK),zF H ds xs->zF H' ds xs
 | [],_,h=>by unfold zF at h ⊢;exact h
 | d::ds,_,h=>by
  unfold zF at h ⊢
  obtain⟨x,r,e,h1,h2⟩:=h
  exact⟨x,r,e,Tell.but s n d x h1,zF.but s n ds r h2⟩
end
theorem XO{H:Hp}{x dx b:Addr}{o u v:HO}(nx:H x=none)(ndx:H dx=none)(h:H b=some o):upd (upd H dx u) x v b=some o:=by
 rw[zS (yC h nx),zS (yC h ndx)]
 exact h
theorem qC{H H1:Hp}{C x dx:Addr}(s:B0 H H1)(nx:H1 x=none)(ndx:H1 dx=none):B0 H (upd (upd H1 dx (.own x)) x (.ins C dx [])):=fun _ _ e=>XO nx ndx (s _ _ e)
theorem qY{H H1 H2:Hp}{x:Addr}(b:yO [x] H1 H2)(m:B0 H H1)(nx:H x=none):B0 H H2:=fun c o e=>b c o (m c o e) (by
 rw[bD]
 exact yC e nx)
theorem pE{H H1:Hp}{x dx b:Addr}(m:B0 H H1)(nx:H x=none)(ndx:H dx=none)(h:b=x\/b=dx\/H1 b=none):H b=none:=by
 rcases h with rfl|rfl|h
 ·exact nx
 ·exact ndx
 ·exact m.free h
theorem Zt{fp fp' fp2:List Addr}{H7 H' GW:Hp}(bt:yO fp H7 H')(ff:∀b∈fp',b∈fp\/H7 b=none)(gW:B0 H' GW)(hf2:∀b∈fp2,b∈fp'\/GW b=none):∀b∈fp2,b∈fp\/H7 b=none:=fun b m=>(hf2 b m).elim (ff b) fun z=>by
 cases e:H7 b with
 | none=>exact .inr rfl
 | some o=>
  by_cases nb:b∈fp
  ·exact .inl nb
  ·rw[gW _ _ (bt b o e nb)] at z
   cases z
noncomputable def zG(zA:AJ):AJ:=(upI 1 60).filter fun x=>decide (x∈zA)
noncomputable def topL(zA:AJ):Int:=(zG zA).getLastD 0
noncomputable def addN(zA:AJ)(n:Int):AJ:=if n∈zA then zA else zA++[n]
theorem YM{zA:AJ}{n x:Int}:x∈addN zA n↔x∈zA\/x=n:=by
 unfold addN
 by_cases h:n∈zA
 ·rw[Po h]
  exact⟨.inl,fun q=>q.elim id fun e=>e ▸ h⟩
 ·rw[Pn h,bZ,bD]
theorem yh{zA:AJ}{x:Int}:x∈zG zA↔(1<=x/\x<1+60)/\x∈zA:=by
 unfold zG
 rw[cG,yx,Pp]
 rfl
theorem wW(zA:AJ):(zG zA).Pairwise (· < ·):=(xt 1 60).filter _
theorem va(zA:AJ):(zG zA).length<=60:=by
 have h:=cL (fun x=>decide (x∈zA)) (upI 1 60)
 rw[xk] at h
 exact h
theorem rQ{ns ms:AJ}(nd:ns.Nodup)(D4:∀x∈ns,1<=x/\x<=60)(hp:ms.Perm ns)(hs:ms.Pairwise (·<=·)):ms=zG ns:=by
 have n2:ms.Nodup:=hp.nodup_iff.mpr nd
 have lt:ms.Pairwise (· < ·):=by
  have:=List.pairwise_and_iff.mpr ⟨hs,n2⟩
  exact this.imp fun h=>by
   have:=h.1
   have:=h.2
   lia
 refine wR lt (wW _) fun x=>?_
 rw[yh,hp.mem_iff]
 exact⟨fun h=>⟨by have:=D4 x h;lia,h⟩,fun h=>h.2⟩
abbrev ShP:=Hp->Addr->List Addr->AF->Int->(Int->DV)->AJ->Prop
structure ShOk(C:Addr)(ms:AF)(Sh:ShP):Prop where
 ins:∀{H p fp zs r iss zA},Sh H p fp zs r iss zA->∃dx fs,H p=some (.ins C dx fs)/\∀m∈ms,fs.lookup m=none
 own:∀{H p fp zs r iss zA},Sh H p fp zs r iss zA->∀b∈fp,∃o,H b=some o/\∀xs,o≠.tup xs
 keep:∀{H H' p fp gp zs r iss zA},Sh H p fp zs r iss zA->yO gp H H'->(∀b∈gp,b∉fp)->xY H gp->Sh H' p fp zs r iss zA
theorem ShOk.same{C:Addr}{ms:AF}{Sh:ShP}(O:ShOk C ms Sh){H H':Hp}{p:Addr}{fp:List Addr}{zs:AF}{r:Int}{iss:Int->DV}{zA:AJ}(h:Sh H p fp zs r iss zA)(s:B0 H H'):Sh H' p fp zs r iss zA:=
 O.keep (gp:=[]) h (.of s) (fun _ q=>by cases q) fun _ q=>by cases q
theorem ShOk.noTup{C:Addr}{ms:AF}{Sh:ShP}(O:ShOk C ms Sh){H:Hp}{p:Addr}{fp:List Addr}{zs:AF}{r:Int}{iss:Int->DV}{zA:AJ}(h:Sh H p fp zs r iss zA):xY H fp:=fun b m xs e=>by
 obtain⟨o,e1,n⟩:=O.own h b m
 rw[e1] at e
 exact n xs (Option.some.inj e)
noncomputable def YV(K:AA)(C:Addr)(Sh:ShP):Sp:=fun vs H Q _=>∃(x dx pn:Addr) (zs:AF) (r:Int),vs=[.ref x,.ref pn,.int r]/\H x=some (.ins C dx [])/\dx≠x/\H dx=some (.own x)/\HdN K H pn zs/\GoodN zs/\0<=r/\r<=10/\
 ∀(fp:List Addr) (H':Hp),(∀b∈fp,b=x\/b=dx\/H b=none)->yO [x] H H'->(∀iss,Sh H' x fp zs r iss [])->Q .non H'
noncomputable def aM(Sh:ShP):Sp:=fun vs H Q _=>∃(p:Addr) (v:V) (fp:List Addr) (zs:AF) (r:Int) (iss:Int->DV) (zA:AJ) (n:Int) (ds:List DV),vs=[.ref p,v]/\Sh H p fp zs r iss zA/\Tell H (iss n) v/\iss n=.tup (.int n::ds)/\1<=n/\n<=60/\
 ∀(fp':List Addr) (H':Hp),(∀b∈fp',b∈fp\/H b=none)->yO fp H H'->Sh H' p fp' zs r iss (addN zA n)->Q (.bl (decide (n∉zA))) H'
noncomputable def we(Sh:ShP):Sp:=fun vs H Q _=>∃(p:Addr) (fp:List Addr) (zs:AF) (r:Int) (iss:Int->DV) (zA:AJ),vs=[.ref p]/\Sh H p fp zs r iss zA/\
 ∀(l:Addr) (H':Hp),B0 H H'->H' l=some (.tup ((zG zA).map V.int))->Q (.ref l) H'
noncomputable def Rf(Sh:ShP):Sp:=fun vs H Q _=>∃(p:Addr) (fp:List Addr) (zs:AF) (r:Int) (iss:Int->DV) (zA:AJ),vs=[.ref p]/\Sh H p fp zs r iss zA/\∀H',B0 H H'->Q (.int (topL zA)) H'
noncomputable def ShD(K:AA)(C:Addr):ShP:=fun H p fp zs r iss zA=>∃(dx pn pd:Addr) (fs:List (Str×V)) (kvs:List (Key×V)),fp=[p,dx,pd]/\H p=some (.ins C dx fs)/\H dx=some (.own p)/\H pn=some (.tup (zs.map V.str))/\H pd=some (.dK kvs)/\
 fs.lookup ("names":Str)=some (V.ref pn)/\fs.lookup ("reach":Str)=some (V.int r)/\fs.lookup ("issues":Str)=some (V.ref pd)/\(∀m∈(["put","had","latest","rows_of","tail_of"]:AF),fs.lookup m=none)/\
 kvs.map (·.1)=zA.map Sum.inl/\zA.Nodup/\(∀n∈zA,1<=n/\n<=60)/\(∀n v,(Sum.inl n,v)∈kvs->Tell H (iss n) v)/\GoodN zs/\0<=r/\r<=10
theorem ShD.ins{K:AA}{C:Addr}{H:Hp}{p:Addr}{fp:List Addr}{zs:AF}{r:Int}{iss:Int->DV}{zA:AJ}(h:ShD K C H p fp zs r iss zA):∃dx fs,H p=some (.ins C dx fs)/\∀m∈(["put","had","latest","rows_of","tail_of"]:AF),fs.lookup m=none:=by
 obtain⟨dx,pn,pd,fs,kvs,e,h1,h2,h3,h4,l1,l2,l3,lm,_⟩:=h
 exact⟨dx,fs,h1,lm⟩
theorem shOk{K:AA}{C:Addr}:ShOk C ["put","had","latest"] (ShD K C):=by
 refine⟨fun h=>?_,fun h b hb=>?_,fun h s out nt=>?_⟩
 ·obtain⟨dx,fs,h1,lm⟩:=ShD.ins h
  refine⟨dx,fs,h1,fun m hm=>lm m ?_⟩
  simp only[bI,dG,OY] at hm ⊢
  rcases hm with h|h|h<;>simp[h]
 ·obtain⟨dx,pn,pd,fs,kvs,rfl,h1,h2,h3,h4,_⟩:=h
  rcases bI.mp hb with rfl|hb
  ·exact⟨_,h1,fun xs z=>by cases z⟩
  rcases bI.mp hb with rfl|hb
  ·exact⟨_,h2,fun xs z=>by cases z⟩
  rw[bD.mp hb]
  exact⟨_,h4,fun xs z=>by cases z⟩
 ·obtain⟨dx,pn,pd,fs,kvs,rfl,h1,h2,h3,h4,l1,l2,l3,lm,kk,nd,all,tl,g⟩:=h
  exact(NJ dx pn pd fs kvs ⟨rfl,s _ _ h1 (fun m=>out _ m (by simp)),s _ _ h2 (fun m=>out _ m (by simp)),s _ _ h3 (fun m=>nt _ m _ h3),s _ _ h4 (fun m=>out _ m (by simp)),l1,l2,l3,lm,kk,nd,all,fun n v hv=>Tell.but s nt _ _ (tl n v hv),g⟩)
theorem SW{A0:Addr}(M:Bl mg)(T:TxShelf K mg A0)(F:Fun K "__init__" "Shelf.__init__" nL f fd)(C7:Cal P w K mg base 2 "bulletin_names" sZ (qo K)) :
  B2 P w K mg base CX0 3 f fd nA (YV K A0 (ShD K A0)):=by
 have nd:=cv.nd
 refine F.ok cv ?_ ?_
 ·rintro _ _ _ _⟨_,_,_,_,_,rfl,_⟩
  rfl
 rintro _ _ _ _ H vs Q E hr⟨x,dx,pn,zs,r,rfl,hx,ne,hdx,hn,g,r0,r1,k⟩
 refine⟨_,(zN (wb (pv 0) (zX C7 (rm hr) rfl (z9 (pv 1) (z9 (pv 2) zD))) rfl) (zN (wb (pv 0) (pv 2) rfl) (zJ (wb (pv 0) Yj rfl)))),?_⟩
 refine NF rfl (NF rfl (NH pn zs r ⟨rfl,hn,g,r0,r1,fun l H1 s1 e1=>?_⟩))
 refine NF rfl (NI x A0 dx ([]) ⟨rfl,s1 _ _ hx,T.cl,T.n_names,by decide,?_⟩)
 have z1:=vL "names" (.ref l) []
 have z2:=vL "reach" (.int r) (G5 "names" (.ref l) [])
 have z0:([]:List (Str×V)).length=0:=rfl
 refine NF rfl (NF rfl (NI x A0 dx _ ⟨rfl,zM,T.cl,T.n_reach,(by lia),?_⟩))
 rw[vq]
 intro pd hd
 have nx:x≠pd:=yC zM hd
 have ndd:dx≠pd:=yC (show upd H1 x _ dx=some _ by rw[zS ne];exact s1 _ _ hdx) hd
 have nl:l≠x:=xW e1 (s1 _ _ hx) (fun z=>by cases z)
 have nlp:l≠pd:=yC (show upd H1 x _ l=some _ by rw[zS nl];exact e1) hd
 have dfr:H1 pd=none:=by rw[zS (eQ nx)] at hd;exact hd
 refine NF rfl (NI x A0 dx _ ⟨rfl,(by rw[zS nx,zM]),T.cl,T.n_issues,(by lia),?_⟩)
 refine k [x,dx,pd] _ (fun b hb=>?_) (fun b o e nb=>?_) (fun iss=>(NJ dx l pd _ ([]) ⟨rfl,zM,?_,?_,?_,?_,?_,?_,?_,rfl,.nil,fun _ q=>(nomatch q),fun _ _ q=>(nomatch q),g,r0,r1⟩))
 ·simp only[bI,dG,OY] at hb
  rcases hb with rfl|rfl|rfl
  ·exact .inl rfl
  ·exact .inr (.inl rfl)
  ·exact .inr (.inr (s1.free dfr))
 ·rw[bD] at nb
  rw[zS nb,zS (yC e (s1.free dfr)),zS nb]
  exact s1 _ _ e
 ·rw[zS ne,zS ndd,zS ne]
  exact s1 _ _ hdx
 ·rw[zS nl,zS nlp,zS nl]
  exact e1
 ·rw[zS (eQ nx),zM]
 ·rw[yP,Pn (by decide +kernel),yP,Pn (by decide +kernel),yP,Po rfl]
 ·rw[yP,Pn (by decide +kernel),yP,Po rfl]
 ·rw[yP,Po rfl]
 ·intro m hm
  simp only[bI,dG,OY] at hm
  rcases hm with rfl|rfl|rfl|rfl|rfl<;>rw[yP,Pn (by decide +kernel),yP,Pn (by decide +kernel),yP,Pn (by decide +kernel)]<;>rfl
theorem aU{α:Type}[DecidableEq α]:∀{l1 l2:List α},l1.Nodup->(∀x∈l1,x∈l2)->l1.length<=l2.length
 | [],_,_,_=>cQ _
 | x::r,l2,nd,sub=>by
  rw[dE] at nd
  have hx:=sub x bT
  have:=aU (l1:=r) (l2:=l2.erase x) nd.2 fun y hy=>(List.mem_erase_of_ne (fun(e:y=x)=>nd.1 (e ▸ hy))).mpr (sub y (bU _ hy))
  rw[List.length_erase_of_mem hx] at this
  have h0:=List.length_pos_of_mem hx
  rw[bW]
  lia
theorem uG{zA:AJ}(nd:zA.Nodup)(all:∀n∈zA,1<=n/\n<=60):zA.length<=60:=by
 have h:=aU (l2:=upI 1 60) nd fun n hn=>yx.mpr (by have:=all n hn;lia)
 rw[xk] at h
 exact h
theorem rO{kvs:List (Key×V)}{zA:AJ}(kk:kvs.map (·.1)=zA.map Sum.inl)(n:Int):(I0 kvs (Sum.inl n)).isSome=decide (n∈zA):=by
 rw[<- tE]
 have e:(kvs.any fun kv=>decide (kv.1=Sum.inl n))=(kvs.map (·.1)).any fun k=>decide (k=Sum.inl n):=by rw[jZ];rfl
 rw[e,kk,jZ]
 by_cases h:n∈zA
 ·rw[Pq h,kI]
  exact⟨n,h,Pq rfl⟩
 ·rw[Pt h,lF]
  intro m hm z
  have e:=Px z
  cases e
  exact h hm
theorem VE{A0:Addr}(M:Bl mg)(T:TxShelf K mg A0)(F:Fun K "put" "Shelf.put" qv f fd):B2 P w K mg base CX0 1 f fd p0 (aM (ShD K A0)):=by
 have nd:=iD.nd
 refine F.ok iD ?_ ?_
 ·rintro _ _ _ _⟨_,_,_,_,_,_,_,_,_,rfl,_⟩
  rfl
 rintro _ _ _ _ H vs Q E hr⟨p,v,fp,zs,r,iss,zA,n,ds,rfl,sh,tv,en,n1,n2,k⟩
 have hu:=vN hr
 refine⟨_,(zN (zW (i:=2) nd rfl (NC rfl) (zh y8 (pv 1) zL (fun _ _=>rfl))) (zN (ze (vA (mO hu (pv 2) (zt (pv 0) rfl))) (zJ (zR yI)) zf) (zN (ml hu (zt (pv 0) rfl) (pv 2) (pv 1) rfl) (zJ (zR yI))))),?_⟩
 obtain⟨dx,pn,pd,fs,kvs,rfl,h1,h2,h3,h4,l1,l2,l3,lm,kk,ndh,all,tl,g,r0,r1⟩:=sh
 rw[en] at tv
 obtain⟨a,us,rfl,ea,_,tu⟩:=zr tv
 obtain⟨x0,ur,rfl,t0,_⟩:=yM tu
 cases wz t0
 refine NF rfl (NI a _ _ _ ⟨rfl,rfl,SqT.of ea,yT rfl,?_⟩)
 refine NF rfl (NF rfl (NJ p A0 dx fs _ ⟨rfl,h1,T.cl,T.n_issues,l3,NG pd _ ⟨rfl,L5.k (k:=Sum.inl n) h4,?_⟩⟩))
 refine NF rfl ?_
 rw[rO kk]
 have fr:∀b∈[p,dx,pd],∃o,H b=some o:=fun b hb=>by
  simp only[bI,dG,OY] at hb
  rcases hb with rfl|rfl|rfl
  ·exact⟨_,h1⟩
  ·exact⟨_,h2⟩
  ·exact⟨_,h4⟩
 refine C0 (fun c=>?_) (fun c=>?_)
 ·have c':=zx c
  have e:=k [p,dx,pd] H (fun b hb=>.inl hb) (fun b o e _=>e) ⟨dx,pn,pd,fs,kvs,rfl,h1,h2,h3,h4,l1,l2,l3,lm,by unfold addN;rw[Po c'];exact kk,by unfold addN;rw[Po c'];exact ndh,fun m hm=>?_,tl,g,r0,r1⟩
  ·rw[Pt (fun z=>z c')] at e
   exact e
  ·unfold addN at hm
   rw[Po c'] at hm
   exact all m hm
 ·have c':=wN c
  have lk:kvs.length<=60:=by
   have e2:=Pu List.length kk
   rw[bA,bA] at e2
   have:=uG ndh all
   lia
  have en':I0 kvs (Sum.inl n:Key)=none:=by
   have:=rO kk n
   rw[Pt c'] at this
   cases e:I0 kvs (Sum.inl n:Key) with
   | none=>rfl
   | some v=>rw[e] at this;cases this
  refine NF rfl (NF rfl (NJ p A0 dx fs _ ⟨rfl,h1,T.cl,T.n_issues,l3,NF rfl (NG pd _ ⟨rfl,R0.k (k:=Sum.inl n) h4 (zp (by lia)),?_⟩)⟩))
  rw[Yf _ en']
  have np:p≠pd:=xW h1 h4 (fun z=>by cases z)
  have nx:dx≠pd:=xW h2 h4 (fun z=>by cases z)
  have nn:pn≠pd:=xW h3 h4 (fun z=>by cases z)
  have e:=k [p,dx,pd] (upd H pd (.dK (kvs++[(Sum.inl n,.ref a)]))) (fun b hb=>.inl hb) (fun b o e nb=>by rw[zS (fun z=>nb (by rw[z];simp))];exact e)
   ⟨dx,pn,pd,fs,_,rfl,by rw[zS np];exact h1,by rw[zS nx];exact h2,by rw[zS nn];exact h3,zM,l1,l2,l3,lm,?_,?_,fun m hm=>?_,fun m v hv=>?_,g,r0,r1⟩
  ·rw[Pq c'] at e
   exact e
  ·unfold addN
   rw[Pn c',bM,bM,kk]
   rfl
  ·unfold addN
   rw[Pn c',eY]
   exact⟨ndh,by simp,fun x hx y hy z=>by rw[bD] at hy;subst hy;subst z;exact c' hx⟩
  ·rcases YM.mp hm with h|rfl
   ·exact all m h
   ·lia
  ·refine Tell.over h4 (fun _ z=>by cases z) _ _ ?_
   rcases bZ.mp hv with h|h
   ·exact tl m v h
   ·rw[bD] at h
    cases h
    rw[en]
    exact tv
theorem TH{A0:Addr}(M:Bl mg)(T:TxShelf K mg A0)(F:Fun K "had" "Shelf.had" qm f fd):B2 P w K mg base CX0 1 f fd wV (we (ShD K A0)):=by
 have nd:=iX.nd
 refine F.ok iX ?_ ?_
 ·rintro _ _ _ _⟨_,_,_,_,_,_,rfl,_⟩
  rfl
 rintro _ _ _ _ H vs Q E hr⟨p,fp,zs,r,iss,zA,rfl,sh,k⟩
 refine⟨_,(zJ (zR (yD ym rfl M.tuple bS (z9 (zb (cq rfl) rfl M.sorted gL (z9 (zt (pv 0) rfl) zD)) zD)))),?_⟩
 obtain⟨dx,pn,pd,fs,kvs,rfl,h1,h2,h3,h4,l1,l2,l3,lm,kk,ndh,all,tl,g,r0,r1⟩:=sh
 refine NF rfl (NJ p A0 dx fs _ ⟨rfl,h1,T.cl,T.n_issues,l3,(NH pd kvs zA ⟨rfl,h4,kk,d8 (uG ndh all) (by decide),fun l ms hl hp hs=>?_⟩)⟩)
 rw[rQ ndh all hp hs]
 exact(NG l _ ⟨rfl,.inl ⟨SqL.of zM,fun t ht=>k t _ ((zH hl _).trans (zH ht _)) zM⟩⟩)
theorem Uy{zA:AJ}{m:Int}(hm:m∈zG zA)(hb:∀y∈zG zA,y<=m):m=topL zA:=by
 unfold topL
 have ne:zG zA≠[]:=fun z=>by rw[z] at hm;cases hm
 have e:(zG zA).getLastD 0=(zG zA).getLast ne:=by rw[List.getLastD_eq_getLast?,List.getLast?_eq_some_getLast ne]<;>rfl
 rw[e]
 have h1:=hb _ (List.getLast_mem ne)
 have d:zG zA=(zG zA).dropLast++[(zG zA).getLast ne]:=(jD ne).symm
 have rs:=wW zA
 rw[d] at hm rs
 rcases bZ.mp hm with h|h
 ·have:=(dF.mp rs).2.2 m h _ (bD.mpr rfl)
  lia
 ·exact bD.mp h
theorem SN{A0:Addr}(M:Bl mg)(T:TxShelf K mg A0)(F:Fun K "latest" "Shelf.latest" ou f fd)(B4:D5 P w K mg base 1 A0 "had" wV (we (ShD K A0))):B2 P w K mg base CX0 2 f fd fm (Rf (ShD K A0)):=by
 have nd:=ee.nd
 refine F.ok ee ?_ ?_
 ·rintro _ _ _ _⟨_,_,_,_,_,_,rfl,_⟩
  rfl
 rintro _ _ _ _ H vs Q E hr⟨p,fp,zs,r,iss,zA,rfl,sh,k⟩
 refine⟨_,(zJ (zR (YA rfl rfl M.max (z9 (wH B4 (rm hr) (pv 0)) zD) (rW zL rK)))),?_⟩
 obtain⟨dx,fs,h1,lm⟩:=shOk.ins sh
 refine NF rfl (NH p dx fs ⟨rfl,h1,lm _ (by simp),(NK p fp zs r iss zA ⟨rfl,sh,fun l H1 s1 e1=>?_⟩)⟩)
 refine(NH l (zG zA) _ ⟨rfl,rfl,.inr (SqT.of e1),fun z=>?_,fun m hm hb=>?_⟩)
 ·have e:topL zA=0:=by unfold topL;rw[z];rfl
  have:=k H1 s1
  rw[e] at this
  exact this
 ·rw[Uy hm hb]
  exact k H1 s1
noncomputable def gapD(ns:AJ)(z3:AL)(r n:Int):DV:=.tup [.int n,.int (zy ns n r),if zy ns n r=0 then .tup [] else zY (zk (zg z3 n))]
noncomputable def v9(ns:AJ)(z3:AL)(r:Int):List DV:=(zz ns).map (gapD ns z3 r)
noncomputable def valL(w:Row)(z:Str):Option Int:=w.foldl (fun zK p=>if p.1=z then some p.2 else zK) none
theorem XR(w:Row)(p:Str×Int)(z:Str):valL (w++[p]) z=if p.1=z then some p.2 else valL w z:=by
 unfold valL
 rw[g9]
 rfl
noncomputable def zi(ms:AJ)(z3:AL)(z:Str):Option (Int×Int):=ms.foldl (fun zK n=>match valL (zg z3 n) z with|some v=>some (n,v)|none=>zK) none
theorem pA(ms:AJ)(n:Int)(z3:AL)(z:Str):zi (ms++[n]) z3 z=match valL (zg z3 n) z with|some v=>some (n,v)|none=>zi ms z3 z:=by
 unfold zi
 rw[g9]
 rfl
noncomputable def ui:Option (Int×Int)->DV
 | some (n,v)=>.tup [.int n,.int v]
 | none=>.tup [.int 0,.non]
noncomputable def zu(o:Option (Int×Int)):Int:=(o.map Prod.fst).getD 0
noncomputable def heldV:Option (Int×Int)->DV
 | some (_,v)=>.int v
 | none=>.non
theorem tJ{H:Hp}{o:Option (Int×Int)}{v:V}(h:Tell H (ui o) v):∃(a:Addr) (y:V),v=.ref a/\H a=some (.tup [.int (zu o),y])/\Tell H (heldV o) y:=by
 cases o with
 | none=>
  obtain⟨a,xs,rfl,ha,_,ta⟩:=zr (show Tell H (.tup [.int 0,.non]) v from h)
  obtain⟨y1,r1,rfl,t1,h3⟩:=yM ta
  obtain⟨y2,r2,rfl,t2,h4⟩:=yM h3
  have:=xx h4
  subst this
  rw[wz t1] at ha
  exact NG a y2 ⟨rfl,ha,t2⟩
 | some p=>
  obtain⟨n,x⟩:=p
  obtain⟨a,xs,rfl,ha,_,ta⟩:=zr (show Tell H (.tup [.int n,.int x]) v from h)
  obtain⟨y1,r1,rfl,t1,h3⟩:=yM ta
  obtain⟨y2,r2,rfl,t2,h4⟩:=yM h3
  have:=xx h4
  subst this
  rw[wz t1] at ha
  exact NG a y2 ⟨rfl,ha,t2⟩
noncomputable def ZU(K:AA):Sp:=fun vs H Q _=>∃(p lr:Addr) (ns:AJ) (us:AK) (z3:AL) (z:Str),vs=[.ref p,.ref lr,.str z]/\SqL K H p (ns.map V.int)/\ns.length<64/\ns.Nodup/\(∀x∈ns,1<=x/\x<=60)/\(∀x∈ns,x<=z3.length)/\
 SqL K H lr us/\zF H (z3.map rowD) us/\∀(v:V) (H':Hp),B0 H H'->Tell H' (ui (zi (zG ns) z3 z)) v->Q v H'
theorem UY(M:Bl mg)(F:Fun K "_law_held" "_law_held" qc f fd):B2 P w K mg base CX0 1 f fd qg (ZU K):=by
 have nd:=iF.nd
 refine F.ok iF ?_ ?_
 ·rintro _ _ _ _⟨_,_,_,_,_,_,rfl,_⟩
  rfl
 rintro _ _ _ _ H vs Q E hr⟨p,lr,ns,us,z3,z,rfl,hP,h64,nds,D4,hup,hR,tl,q⟩
 refine⟨_,(zN (zW (i:=3) nd rfl (NC rfl) (yH (z9 zL (z9 vR zD)))) (zN (y9 c6 rfl (xG (zb iV rfl M.sorted gL (z9 (pv 0) zD))) (zd (i:=4) nd rfl (NC rfl)) (zJ (y9 c6 rfl (yt (zh yl (pv 1) (zP yu (pv 4) zL) (fun _ _=>rfl))) (zd (i:=5) nd rfl (NC rfl)) (zJ (ze (zZ yV (zh y8 (pv 5) zL (fun _ _=>rfl)) (pv 2) (za _)) (zJ (zW (i:=3) nd rfl (NC rfl) (yH (z9 (pv 4) (z9 (zh y8 (pv 5) zL (fun _ _=>rfl)) zD))))) zf))))) (zJ (zR (pv 3))))),?_⟩
 refine⟨(NB 2),fun t0 ht0=>?_⟩
 have s1:=zH ht0 (.tup [V.int 0,V.non])
 have e1:upd H t0 (.tup [V.int 0,V.non]) t0=some (.tup [V.int 0,V.non]):=zM
 generalize upd H t0 (.tup [V.int 0,V.non])=H1 at s1 e1
 refine NF rfl (NG p ns ⟨rfl,s1.seq hP,h64,fun ls ms nls hp hs=>?_⟩)
 have er:=rQ nds D4 hp hs
 have s2:=s1.trans (zH nls (.lst (ms.map V.int)))
 have e2:=zH nls (.lst (ms.map V.int)) _ _ e1
 have els:upd H1 ls (.lst (ms.map V.int)) ls=some (.lst (ms.map V.int)):=zM
 generalize upd H1 ls (.lst (ms.map V.int))=H2 at s2 e2 els
 refine⟨ls,rfl,⟨_,SqL.of els⟩,xv (K:=K) (a:=ls) (xs:=ms.map V.int) (fun i σ H'=>∃(hv:V) (o1 o2:Option V),B0 H2 H'/\Tell H' (ui (zi (ms.take i) z3 z)) hv/\σ=[some (.ref p),some (.ref lr),some (.str z),some hv,o1,o2])
  ⟨.ref t0,none,none,B0.refl _,zw e2 (by show 2<=1000000;decide) (.cons (yy 0) (.cons tF .nil)),rfl⟩ (fun i σ H' _ ⟨_,_,_,g,_⟩=>SqL.of (g _ _ els)) ?_ ?_⟩
 ·rintro i x σ H' hi ⟨hv,o1,o2,g,th,rfl⟩
  obtain⟨n,hn,rfl⟩:∃n,ms[i]? = some n/\x=V.int n:=by
   rw[bE] at hi
   cases e:ms[i]? with
   | none=>rw[e] at hi;cases hi
   | some n=>rw[e] at hi;exact⟨n,rfl,(Option.some.inj hi).symm⟩
  have nin:n∈ns:=hp.mem_iff.mp (bH hn)
  have hn1:=D4 n nin
  have hn2:=hup n nin
  obtain⟨v,_,av,tv⟩:=Se (zF.keep (s2.trans g) _ _ tl) (k:=n) hn1.1 hn2
  obtain⟨ar,xs,rfl,er',_,tp⟩:=zr tv
  have lw:xs.length=(zg z3 n).length:=by rw[tp.length,bA]
  refine NF rfl (NF rfl (NG _ _ ⟨rfl,rfl,NI lr us _ _ ⟨rfl,rfl,(s2.trans g).seq hR,av,ar,rfl,⟨_,SqT.of er'⟩,?_⟩⟩))
  refine wo (K:=K) (a:=ar) (xs:=xs) (fun j σ H2'=>∃(hv:V) (o2:Option V),B0 H' H2'/\Tell H2' (ui (match valL ((zg z3 n).take j) z with|some v=>some (n,v)|none=>zi (ms.take i) z3 z)) hv/\
    σ=[some (.ref p),some (.ref lr),some (.str z),some hv,some (.int n),o2]) ⟨hv,o2,B0.refl _,th,rfl⟩ (fun j σ H2' _ ⟨_,_,g2,_⟩=>SqT.of (g2 _ _ er')) ?_ ?_
  ·rintro j y σ H2' hy ⟨hv2,o3,g2,th2,rfl⟩
   obtain⟨pq,b,e1',rfl,e2'⟩:=pK tp j y hy
   have sb:SqT K H2' b [V.str pq.1,V.int pq.2]:=SqT.of (g2 _ _ e2')
   refine NF rfl (NI b _ 0 _ ⟨rfl,rfl,sb,rfl,NF rfl ⟨rfl,NF rfl ?_⟩⟩)
   have tk:(zg z3 n).take (j+1)=(zg z3 n).take j++[pq]:=zq e1'
   refine C0 (fun c=>?_) (fun c=>?_)
   ·have c':pq.1=z:=by
     have:=zx c
     injection this
    refine NF rfl (NF rfl (NI b _ 1 _ ⟨rfl,rfl,sb,rfl,(NB 2),fun t ht=>?_⟩))
    refine⟨.ref t,_,g2.trans (zH ht _),?_,rfl⟩
    rw[tk,XR,Po c']
    exact zw zM (by show 2<=1000000;decide) (.cons (yy _) (.cons (yy _) .nil))
   ·have c':¬pq.1=z:=fun e=>wN c (by rw[e])
    refine⟨hv2,_,g2,?_,rfl⟩
    rw[tk,XR,Pn c']
    exact th2
  ·rintro σ H2' ⟨hv2,o3,g2,th2,rfl⟩
   rw[lw,bY] at th2
   refine⟨hv2,_,_,g.trans g2,?_,rfl⟩
   rw[zq hn,pA]
   exact th2
 ·rintro σ H' ⟨hv,o1,o2,g,th,rfl⟩
  rw[bA,bY,er] at th
  exact NF rfl (q hv H' (s2.trans g) th)
theorem rq(x:Str)(ns:AF):inV (.str x) (ns.map V.str)=decide (x∈ns):=by
 unfold inV
 rw[cX,jZ,kI,Pp]
 constructor
 ·rintro⟨y,hy,e⟩
  have:y=x:=by simpa [eqV] using e
  exact this ▸ hy
 ·intro h
  exact⟨x,h,by simp[eqV]⟩
noncomputable def xf(ns:AJ)(z3:AL)(r n:Int):AF:=if zy ns n r=0 then [] else zk (zg z3 n)
theorem Vd(ns:AJ)(z3:AL)(r n:Int):gapD ns z3 r n=.tup [.int n,.int (zy ns n r),zY (xf ns z3 r n)]:=by
 unfold gapD xf
 by_cases h:zy ns n r=0
 ·rw[Po h,Po h]
  rfl
 ·rw[Pn h,Pn h]
noncomputable def wM(ns:AJ)(z3:AL)(r num:Int)(z:Str):AJ:=(zz ns).filter fun n=>decide (num<n) && decide (z∈xf ns z3 r n)
noncomputable def Wh(ns:AJ)(z3:AL)(r num:Int)(z:Str):DV:=.tup ((wM ns z3 r num z).map fun n=>.tup [.int n,.int (zy ns n r)])
theorem QD(ns:AJ)(z3:AL)(r num:Int)(z:Str):(wM ns z3 r num z).length<=60:=c7 (cL _ _) (u5 ns)
theorem Xq{H:Hp}{ns:AJ}{z3:AL}{r:Int}{zs:AK}(h:zF H (v9 ns z3 r) zs){i:Nat}{x:V}(e:zs[i]? = some x) :
  ∃(n:Int) (a b:Addr),(zz ns)[i]? = some n/\x=.ref a/\H a=some (.tup [.int n,.int (zy ns n r),.ref b])/\H b=some (.tup ((xf ns z3 r n).map V.str)):=by
 obtain⟨d,e1,t⟩:=h.at i x e
 unfold v9 at e1
 rw[bE] at e1
 cases er:(zz ns)[i]? with
 | none=>rw[er] at e1;cases e1
 | some n=>
  rw[er] at e1
  have e2:gapD ns z3 r n=d:=Option.some.inj e1
  rw[Vd] at e2
  subst e2
  obtain⟨a,ys,rfl,h1,_,h2⟩:=zr t
  obtain⟨y1,r1,rfl,t1,h3⟩:=yM h2
  obtain⟨y2,r2,rfl,t2,h4⟩:=yM h3
  obtain⟨y3,r3,rfl,t3,h5⟩:=yM h4
  have:=xx h5
  subst this
  obtain⟨b,ws,rfl,hb,_,tb⟩:=zr t3
  rw[wz t1,wz t2] at h1
  rw[w8 tb] at hb
  exact NH n a b ⟨rfl,rfl,h1,hb⟩
theorem Sm{H:Hp}{ns:AJ}{z3:AL}{r:Int}{zs:AK}(h:zF H (v9 ns z3 r) zs):zs.length=(zz ns).length:=by
 rw[h.length]
 unfold v9
 rw[bA]
noncomputable def vx(ns:AJ)(r num:Int):AJ:=(zz ns).filter fun n=>decide (num<n) && decide (zy ns n r=0)
noncomputable def yF(ns:AJ)(z3:AL)(r num:Int)(z:Str):Str:=if 0<(wM ns z3 r num z).length then "stale" else if vx ns r num=[] then "sure" else "open"
theorem Tb{ds:List DV}{n:Nat}(h:∀d∈ds,d.deep<=n):DV.L3 ds<=n:=by
 induction ds with
 | nil=>unfold DV.L3;exact cQ _
 | cons d r ih=>
  unfold DV.L3
  exact Nat.max_le.mpr ⟨h d bT,ih fun x hx=>h x (bU _ hx)⟩
theorem Uq{ds:List DV}{n:Nat}(h:∀d∈ds,d.deep<=n):(DV.tup ds).deep<=n+1:=by
 unfold DV.deep
 exact lM (Tb h)
theorem US(i:Int)(n:Nat):(DV.int i).deep<=n:=by unfold DV.deep;exact cQ _
theorem Tr(i:Str)(n:Nat):(DV.str i).deep<=n:=by unfold DV.deep;exact cQ _
theorem sO{z3:AL}{j:Nat}{k:Int}(h0:1<=k)(h:k<=j):zg (z3.take j) k=zg z3 k:=by
 unfold zg
 have hk:(k-1).toNat<j:=by lia
 rw[bR,bR,l9,Po hk]
theorem Qy{z3:AL}{j:Nat}{n r:Int}(h0:1<=n)(h:n<=j):yE (z3.take j) n r=yE z3 n r:=by
 unfold yE rD
 rw[sO h0 h]
 have e:(xl n r).map (uB (z3.take j))=(xl n r).map (uB z3):=jM fun k hk=>by
  unfold xl at hk
  rw[cG,uz] at hk
  unfold uB
  rw[sO (by lia) (by lia)]
 rw[e]
abbrev OfP:=Hp->Addr->List Addr->AF->Int->AL->Prop
structure OfOk(C:Addr)(ms:AF)(Of:OfP):Prop where
 ins:∀{H p fp zs r z3},Of H p fp zs r z3->∃dx fs,H p=some (.ins C dx fs)/\∀m∈ms,fs.lookup m=none
 own:∀{H p fp zs r z3},Of H p fp zs r z3->∀b∈fp,∃o,H b=some o/\∀xs,o≠.tup xs
 keep:∀{H H' p fp gp zs r z3},Of H p fp zs r z3->yO gp H H'->(∀b∈gp,b∉fp)->xY H gp->Of H' p fp zs r z3
theorem OfOk.same{C:Addr}{ms:AF}{Of:OfP}(O:OfOk C ms Of){H H':Hp}{p:Addr}{fp:List Addr}{zs:AF}{r:Int}{z3:AL}(h:Of H p fp zs r z3)(s:B0 H H'):Of H' p fp zs r z3:=
 O.keep (gp:=[]) h (.of s) (fun _ q=>by cases q) fun _ q=>by cases q
theorem OfOk.noTup{C:Addr}{ms:AF}{Of:OfP}(O:OfOk C ms Of){H:Hp}{p:Addr}{fp:List Addr}{zs:AF}{r:Int}{z3:AL}(h:Of H p fp zs r z3):xY H fp:=fun b m xs e=>by
 obtain⟨o,e1,n⟩:=O.own h b m
 rw[e1] at e
 exact n xs (Option.some.inj e)
noncomputable def rb(K:AA)(H:Hp)(fp:List Addr)(u:V)(p:Str×Int):Prop:=∃a,u=.ref a/\(SqL K H a [.str p.1,.int p.2]\/SqT K H a [.str p.1,.int p.2])/\a∉fp
noncomputable def ma(K:AA)(H:Hp)(fp:List Addr)(v:V)(pr:Row):Prop:=∃a us,v=.ref a/\SqP K H a us/\a∉fp/\Paired (rb K H fp) us pr
noncomputable def yj(zs:AF)(pr:Row):Row:=zs.filterMap fun z=>pr.find? fun p=>decide (p.1=z)
structure GoodR(zs:AF)(pr:Row):Prop where
 nd:(pr.map Prod.fst).Nodup
 sub:∀p∈pr,p.1∈zs
 val:∀p∈pr,0<=p.2/\p.2<=1000000
noncomputable def YH(K:AA)(C:Addr)(Of:OfP):Sp:=fun vs H Q _=>∃(x dx pn:Addr) (zs:AF) (r:Int),vs=[.ref x,.ref pn,.int r]/\H x=some (.ins C dx [])/\dx≠x/\H dx=some (.own x)/\HdN K H pn zs/\GoodN zs/\0<=r/\r<=10/\
 ∀(fp:List Addr) (H':Hp),(∀b∈fp,b=x\/b=dx\/H b=none)->yO [x] H H'->Of H' x fp zs r []->Q .non H'
noncomputable def XG(K:AA)(Of:OfP):Sp:=fun vs H Q _=>∃(p:Addr) (v:V) (fp:List Addr) (zs:AF) (r:Int) (z3:AL) (pr:Row),vs=[.ref p,v]/\Of H p fp zs r z3/\ma K H fp v pr/\GoodR zs pr/\pr.length<=12/\z3.length<60/\
 ∀(fp':List Addr) (H':Hp),(∀b∈fp',b∈fp\/H b=none)->yO fp H H'->Of H' p fp' zs r (z3++[yj zs pr])->Q (.int (z3.length+1)) H'
noncomputable def jz(Of:OfP):Sp:=fun vs H Q _=>∃(p:Addr) (fp:List Addr) (zs:AF) (r:Int) (z3:AL),vs=[.ref p]/\Of H p fp zs r z3/\∀H',B0 H H'->Q (.int z3.length) H'
noncomputable def tV(Of:OfP):Sp:=fun vs H Q _=>∃(p:Addr) (fp:List Addr) (zs:AF) (r:Int) (z3:AL) (n:Int),vs=[.ref p,.int n]/\Of H p fp zs r z3/\1<=n/\n<=z3.length/\
 ∀(v:V) (H':Hp),B0 H H'->Tell H' (yE z3 n r) v->Q v H'
theorem sS{z:Str}{zs:AF}{pr:Row}:yj (z::zs) pr=(match pr.find? fun p=>decide (p.1=z) with|some p=>p::yj zs pr|none=>yj zs pr):=by
 unfold yj
 rw[gN]
 cases pr.find? fun p=>decide (p.1=z)<;>rfl
theorem gc{p:Str×Int}{w:Row}:∀{zs:AF},p.1∉zs->yj zs (p::w)=yj zs w
 | [],_=>rfl
 | y::ys,h=>by
  rw[bI,NA] at h
  rw[sS,sS,eO,Pt h.1,gc h.2]
theorem pT:∀{zs:AF}{w:Row},zs.Nodup->(w.map Prod.fst).Sublist zs->yj zs w=w
 | [],w,_,h=>by
  have:w.map Prod.fst=[]:=kJ.mp h
  rw[List.map_eq_nil_iff] at this
  rw[this]
  rfl
 | z::zs,w,nd,h=>by
  rw[dE] at nd
  generalize e:w.map Prod.fst=l at h
  cases h with
  | cons _ h=>
   subst e
   have no:w.find? (fun p=>decide (p.1=z))=none:=lA.mpr fun p hp=>by
    have:p.1∈zs:=h.subset (fS hp)
    intro e
    exact nd.1 (Px e ▸ this)
   rw[sS,no]
   exact pT nd.2 h
  | cons_cons _ h=>
   cases w with
   | nil=>cases e
   | cons p w=>
    rw[cJ] at e
    injection e with e1 e2
    subst e2
    rw[sS,eO,Pq e1,gc (by rw[e1];exact nd.1),pT nd.2 h]
noncomputable def tsN(n:Int)(j:Nat):AJ:=(dnI n j).filter fun k=>decide (1<=k)
noncomputable def tsP(ss:List AF)(k:Int):DV:=.tup [.int k,zY (ss.getD (k-1).toNat [])]
noncomputable def tsD(ss:List AF)(r:Int):DV:=.tup ((tsN ss.length r.toNat).map (tsP ss))
theorem Vy(n:Int)(j:Nat):(tsN n j).length<=j:=by
 have h:=cL (fun k=>decide (1<=k)) (dnI n j)
 rw[Zg] at h
 exact h
noncomputable def az(K:AA):Sp:=fun vs H Q _=>∃(p:Addr) (xs:AK) (ss:List AF) (r:Int),vs=[.ref p,.int r]/\(SqL K H p xs\/SqT K H p xs)/\zF H (ss.map zY) xs/\ss.length<=59/\(∀s∈ss,s.length<=12)/\0<=r/\r<=10/\
 ∀(v:V) (H':Hp),B0 H H'->Tell H' (tsD ss r) v->Q v H'
noncomputable def Xk:Sp:=fun vs H Q _=>∃n r:Int,vs=[.int n,.int r]/\1<=n/\n<=60/\0<=r/\r<=10/\
 ∀(l:Addr) (H':Hp),B0 H H'->H' l=some (.tup (((upI 1 60).filter fun x=>decide (x<=n) && decide (n-x<=r)).map V.int))->Q (.ref l) H'
theorem QR{n r:Int}(h1:1<=n)(h2:n<=60)(h3:0<=r)(h4:r<=10) :
  Q2 (if n-r > 1 then n-r else 1) (n+1-(if n-r > 1 then n-r else 1)).toNat=((upI 1 60).filter fun x=>decide (x<=n) && decide (n-x<=r)).map V.int:=by
 rw[VP]
 refine Pu (List.map V.int) (wR (xt _ _) ((xt _ _).filter _) fun x=>?_)
 rw[cG,yx,yx,bX,Pp,Pp]
 split<;>lia
theorem Qf(M:Bl mg)(F:Fun K "reached_by" "reached_by" pM f fd):B2 P w K mg base CX0 1 f fd pP Xk:=by
 have nd:=ip.nd
 refine F.ok ip ?_ ?_
 ·rintro _ _ _ _⟨_,_,rfl,_⟩
  rfl
 rintro _ _ _ _ H vs Q E hr⟨n,r,rfl,h1,h2,h3,h4,q⟩
 refine⟨_,(zJ (zR (yD (WE rfl) rfl M.tuple bS (z9 (yD SF rfl M.range PyProof.Rows.boot_range (z9 (zb (qX rfl) rfl M.max fM (z9 zL (z9 (zP yu (pv 0) (pv 1)) zD))) (z9 (zP yS (pv 0) zL) zD))) zD)))),?_⟩
 refine NF rfl (NF rfl (NG _ _ ⟨rfl,rfl,NG _ _ ⟨rfl,NF rfl (NG _ _ ⟨rfl,rfl,(NG _ _ ⟨rfl,fun p hp=>?_⟩)⟩)⟩⟩))
 refine(NH p _ _ ⟨rfl,zM,⟨?_,?_,?_,?_⟩,?_,fun l hl=>?_⟩)
 ·split<;>lia
 ·split<;>lia
 ·lia
 ·lia
 ·split<;>lia
 ·refine q l _ ((zH hp _).trans (zH hl _)) ?_
  rw[zM,QR h1 h2 h3 h4]
theorem qZ(hi:Int)(j:Nat):(dnI hi j).Pairwise (· > ·):=by
 unfold dnI
 rw[dC]
 exact hG.imp fun h=>by lia
theorem uF{n:Int}{j:Nat}{x:Int}:x∈tsN n j↔1<=x/\n-j<x/\x<=n:=by
 unfold tsN
 rw[cG,uz,Pp]
 lia
theorem Vg(n:Int)(j:Nat):(tsN n j).reverse.Pairwise (· < ·):=by
 rw[kN]
 exact((qZ n j).filter _).imp fun h=>h
theorem SS{n r:Int}(h0:0<=n)(h1:n<=59)(r0:0<=r)(r1:r<=10):((upI 1 60).filter fun x=>decide (x<=n+1) && decide (n+1-x<=r))=(tsN n r.toNat).reverse++[n+1]:=by
 refine wR ((xt _ _).filter _) (dF.mpr ⟨Vg _ _,eU _ _,fun x hx y hy=>?_⟩) fun x=>?_
 ·rw[kK,uF] at hx
  rw[bD] at hy
  lia
 ·rw[cG,yx,bX,Pp,Pp,bZ,kK,uF,bD]
  lia
theorem VY(M:Bl mg)(F:Fun K "tail_for" "tail_for" qD f fd)(M1:Cal P w K mg base 1 "reached_by" pP Xk):B2 P w K mg base CX0 2 f fd qT (az K):=by
 have nd:=i3.nd
 refine F.ok i3 ?_ ?_
 ·rintro _ _ _ _⟨_,_,_,_,rfl,_⟩
  rfl
 rintro _ _ _ _ H vs Q E hr⟨p,xs,ss,r,rfl,hS,tS,l60,l12,r0,r1,k⟩
 refine⟨_,(zN (zW (i:=2) nd rfl (NC rfl) (zP yS (zb zo rfl M.len bO (z9 (pv 0) zD)) zL)) (zN (zW (i:=3) nd rfl (NC rfl) (wu ZM (zX M1 (rm hr) rfl (z9 (pv 2) (z9 (pv 1) zD))) wg (wt (aJ ZG zL)))) (zJ (zR (yD ym rfl M.tuple bS (z9 (xH ["earlier"] ["sets"] [0] rfl (yY rfl (by decide +kernel) rfl (by decide +kernel) rfl rfl) (aW rfl M.reversed (z9 (pv 3) zD)) (fun _ _ _ _ _=>(zd (i:=0) (show((["earlier"]:List PySem.Str)++(["sets"]:List PySem.Str)).Nodup from by decide +kernel) rfl (NC rfl))) (yG (by decide)) zl (fun _ _ _ _ _=>xU) (fun _ _ _ _ _=>(yH (z9 (pv 0) (z9 (yD (dc (K:=K) rfl) rfl M.tuple bS (z9 (zh (r:=rIx K) Wm (pv 1) (zP yu (pv 0) zL) (fun _ _=>rfl)) zD)) zD))))) zD)))))),?_⟩
 have lx:xs.length=ss.length:=by rw[tS.length,bA]
 have lx':(xs.length:Int)=ss.length:=by lia
 refine NF rfl (NG p xs ⟨rfl,hS,NG _ _ ⟨rfl,rfl,?_⟩⟩)
 refine(NF rfl (NF rfl (NG ((xs.length:Int)+1) r ⟨rfl,by lia,by lia,r0,r1,fun l H1 s1 e1=>?_⟩)))
 rw[lx',SS (by lia) (by lia) r0 r1] at e1
 have eL:(((tsN ss.length r.toNat).reverse++[(ss.length:Int)+1]).map V.int).length=(tsN ss.length r.toNat).length+1:=by
  rw[bA,bF,jN]
  rfl
 have sx:HT.sIx (((tsN ss.length r.toNat).reverse++[(ss.length:Int)+1]).map V.int).length (((tsN ss.length r.toNat).reverse++[(ss.length:Int)+1]).map V.int).length (some (-1))=(tsN ss.length r.toNat).length:=by
  rw[eL]
  show(if (-1:Int)<0 then (-1+(((tsN ss.length r.toNat).length+1:Nat):Int)).toNat else min (-1:Int).toNat ((tsN ss.length r.toNat).length+1))=_
  rw[Po (by decide)]
  lia
 have cut:K0 (((tsN ss.length r.toNat).reverse++[(ss.length:Int)+1]).map V.int) none (some (-1))=(tsN ss.length r.toNat).reverse.map V.int:=by
  unfold K0
  rw[sx]
  show List.take ((tsN ss.length r.toNat).length-0) (List.drop 0 _)=_
  rw[gC,j8,bM,List.take_left' (by rw[bA,jN])]
 refine NF rfl ⟨-1,rfl,(NG l _ ⟨rfl,SqT.of e1,?_,fun a ha=>?_⟩)⟩
 ·rintro⟨_,z⟩
  rw[sx,eL] at z
  lia
 rw[cut]
 have s2:=s1.trans (zH ha (.tup ((tsN ss.length r.toNat).reverse.map V.int)))
 have e2:upd H1 a (.tup ((tsN ss.length r.toNat).reverse.map V.int)) a=some (.tup ((tsN ss.length r.toNat).reverse.map V.int)):=zM
 generalize upd H1 a (.tup ((tsN ss.length r.toNat).reverse.map V.int))=H2 at s2 e2
 have le:=Vy ss.length r.toNat
 have lr:((tsN ss.length r.toNat).reverse.map V.int).length=(tsN ss.length r.toNat).length:=by rw[bA,jN]
 refine NF rfl (NG a _ ⟨rfl,SqT.of e2,?_⟩)
 refine Ts (fun i ys H'=>B0 H2 H'/\zF H' (((tsN ss.length r.toNat).take i).map (tsP ss)) ys) ⟨B0.refl _,by rw[cW];exact .nil⟩ (fun i ys H' hi hp=>?_) (fun i x ys H' hx hp=>?_) (fun ys H' hp=>?_)
 ·obtain⟨g,t⟩:=hp
  refine⟨SqT.of (g _ _ e2),zp ?_⟩
  rw[t.length,bA,bL]
  lia
 ·obtain⟨g,t⟩:=hp
  rw[<- List.map_reverse,jH,bE] at hx
  obtain⟨m,hm,rfl⟩:=bV.mp hx
  have hb:=uF.mp (bH hm)
  have hk:(m-1).toNat<ss.length:=by lia
  have t2:=zF.keep (s2.trans g) _ _ tS
  obtain⟨v,ev,tv⟩:=t2.get (m-1).toNat (zY (ss.getD (m-1).toNat [])) (by
   rw[bE,bR,bC hk]
   rfl)
  have av:atI xs (m-1)=some v:=by
   have e:m-1=(((m-1).toNat:Nat):Int):=by lia
   rw[e]
   exact yT ev
  obtain⟨b,us,rfl,eb,_,_⟩:=zr tv
  refine NF rfl (NF rfl (NF rfl (NG _ _ ⟨rfl,rfl,?_⟩)))
  have go:∀(z:Tell H' (zY (ss.getD (m-1).toNat [])) (.ref b)),ae K [.ref b] H' fun x H3=>[V.int m,x].length<=sizeLine/\∀q,H3 q=none->B0 H2 (upd H3 q (.tup [.int m,x]))/\zF (upd H3 q (.tup [.int m,x])) (((tsN ss.length r.toNat).take (i+1)).map (tsP ss)) (ys++[.ref q]):=fun z=>
   ⟨b,us,rfl,.inr ⟨SqT.of eb,by show 2<=sizeLine;decide,fun q hq=>⟨g.trans (zH hq _),by
    rw[fJ,hm,bM]
    exact zF.snoc (zF.keep (zH hq _) _ _ t) (zw zM (by show 2<=1000000;decide) (.cons (yy _) (.cons (Tell.keep (zH hq _) _ _ z) .nil)))⟩⟩⟩
  rcases hS with hS|hS
  ·exact .inl (NI p xs _ (.ref b) ⟨rfl,rfl,(s2.trans g).seq hS,av,go tv⟩)
  ·exact .inr (.inl (NI p xs _ (.ref b) ⟨rfl,rfl,uK (s2.trans g) hS,av,go tv⟩))
 ·obtain⟨g,t⟩:=hp
  rw[lr,bY] at t
  intro D hD
  refine(NG D ys ⟨rfl,.inl ⟨SqL.of zM,fun q hq=>k _ _ (s2.trans (g.trans ((zH hD _).trans (zH hq _)))) (zw zM ?_ (zF.keep ((zH hD _).trans (zH hq _)) _ _ t))⟩⟩)
  rw[bA]
  lia
noncomputable def kvR(p:Str×Int):Key×V:=(Sum.inr p.1,.int p.2)
noncomputable def mH(K:AA):Sp:=fun vs H Q _=>∃(p:Addr) (zs:AF) (z:Str),vs=[.ref p,.str z]/\SqN K H p zs/\z∈zs/\Q .non H
theorem Xu(x:Str)(ns:AF):inV (.str x) (ns.map V.str)=decide (x∈ns):=by
 unfold inV
 rw[cX,jZ,kI,Pp]
 constructor
 ·rintro⟨y,hy,e⟩
  have:y=x:=by simpa [eqV] using e
  exact this ▸ hy
 ·intro h
  exact⟨x,h,by simp[eqV]⟩
theorem Ww(M:Bl mg)(F:Fun K "refuse_unknown_name" "refuse_unknown_name" m8 f fd):B2 P w K mg base CX0 1 f fd sr (mH K):=by
 have nd:=bz.nd
 refine F.ok bz ?_ ?_
 ·rintro _ _ _ _⟨_,_,_,rfl,_⟩
  rfl
 rintro _ _ _ _ H vs Q E hr⟨p,zs,z,rfl,hp,hz,k⟩
 refine⟨_,(zJ (ze (zZ sX (pv 1) (pv 0) (by with_unfolding_all rfl)) (zJ xg) zf)),?_⟩
 refine NF rfl (NF rfl (NG p _ ⟨rfl,hp,rfl,xJ zs,NF rfl ?_⟩))
 rw[Po rfl,Xu,Pq hz]
 exact C0 (fun c=>ND c (by decide)) fun _=>k
noncomputable def XB:Sp:=fun vs H Q _=>∃v:Int,vs=[.int v]/\0<=v/\v<=1000000/\Q .non H
theorem SE(M:Bl mg)(F:Fun K "refuse_bad_value" "refuse_bad_value" nP f fd):B2 P w K mg base CX0 1 f fd ni XB:=by
 have nd:=bc.nd
 refine F.ok bc ?_ ?_
 ·rintro _ _ _ _⟨_,rfl,_⟩
  rfl
 rintro _ _ _ _ H vs Q E hr⟨r,rfl,r0,r1,k⟩
 refine⟨_,(zJ (ze (PW.pt (xX (zZ wA (pv 0) zL (za _)) (xb (zZ xA (pv 0) (vd rfl M.MOST_VALUE) (za _))))) (zJ xg) zf)),?_⟩
 refine(NF rfl (NG _ _ ⟨rfl,rfl,(NF rfl (C0 (fun q=>ND (zx q) (by lia)) fun _=>?_))⟩))
 exact(NF rfl (NG _ _ ⟨rfl,rfl,(NF rfl (C0 (fun q=>ND (zx q) (by lia)) fun _=>k))⟩))
noncomputable def yW(K:AA)(H:Hp)(u:V)(p:Str×Int):Prop:=∃a,u=.ref a/\(SqL K H a [.str p.1,.int p.2]\/SqT K H a [.str p.1,.int p.2])
theorem yW.keep{K:AA}{H H':Hp}(s:B0 H H'):∀{us:AK}{pr:Row},Paired (yW K H) us pr->Paired (yW K H') us pr
 | _,_,.nil=>.nil
 | _,_,.cons ⟨a,e,h⟩ t=>.cons ⟨a,e,h.imp (fun q=>s.seq q) fun q=>uK s q⟩ (yW.keep s t)
theorem yW.at{K:AA}{H:Hp}:∀{us:AK}{pr:Row},Paired (yW K H) us pr->∀(i:Nat) (x:V),us[i]? = some x->∃p,pr[i]? = some p/\yW K H x p
 | _,_,.nil,i,x,e=>by simp at e
 | _,_,.cons r t,0,x,e=>by
  simp at e
  subst e
  exact NF rfl r
 | _,_,.cons r t,i+1,x,e=>by
  obtain⟨y,h1,h2⟩:=yW.at t i x (by simpa using e)
  exact⟨y,by simpa using h1,h2⟩
theorem yW.pairs{K:AA}{H:Hp}:∀{us:AK}{pr:Row},Paired (yW K H) us pr->Paired (uk K H) us (pr.map kvR)
 | _,_,.nil=>.nil
 | _,_,.cons ⟨a,e,h⟩ t=>.cons ⟨a,e,h⟩ (yW.pairs t)
theorem yW.of{K:AA}{H:Hp}{fp:List Addr}:∀{us:AK}{pr:Row},Paired (rb K H fp) us pr->Paired (yW K H) us pr
 | _,_,.nil=>.nil
 | _,_,.cons ⟨a,e,h,_⟩ t=>.cons ⟨a,e,h⟩ (yW.of t)
theorem SqP.or{K:AA}{H:Hp}{a:Addr}{us:AK}(h:SqP K H a us):SqL K H a us\/SqT K H a us:=h.imp id SqT.of
theorem SqP.keep{K:AA}{H H':Hp}{a:Addr}{us:AK}(s:B0 H H')(h:SqP K H a us):SqP K H' a us:=h.imp (fun q=>s.seq q) fun q=>s _ _ q
noncomputable def Xa(K:AA):Sp:=fun vs H Q _=>∃(pn a:Addr) (zs:AF) (us:AK) (pr:Row),vs=[.ref pn,.ref a]/\SqN K H pn zs/\SqP K H a us/\Paired (yW K H) us pr/\GoodR zs pr/\pr.length<=12/\∀H',B0 H H'->Q .non H'
theorem Rl(M:Bl mg)(F:Fun K "refuse_bad_rows" "refuse_bad_rows" nW f fd)(B9:Cal P w K mg base 1 "refuse_unknown_name" sr (mH K))
  (F0:Cal P w K mg base 1 "refuse_bad_value" ni XB):B2 P w K mg base CX0 2 f fd ng (Xa K):=by
 have nd:=bo.nd
 refine F.ok bo ?_ ?_
 ·rintro _ _ _ _⟨_,_,_,_,_,rfl,_⟩
  rfl
 rintro _ _ _ _ H vs Q E hr⟨pn,a,zs,us,pr,rfl,hn,ha,hp,g,l12,k⟩
 refine⟨_,(zN (vX (i:=2) ["name","value"] [] [] rfl nd rfl (NC rfl) (yY rfl (by decide +kernel) rfl (by decide +kernel) rfl rfl) (mU (pv 1)) (fun _ _ _ _ _=>(Zx (K:=K) (n:=2) rfl rfl (xI (zd (i:=0) (show((["name","value"]:List PySem.Str)++([]:List PySem.Str)).Nodup from by decide +kernel) rfl (NC rfl)) (xI (zd (i:=1) (show((["name","value"]:List PySem.Str)++([]:List PySem.Str)).Nodup from by decide +kernel) rfl (NC rfl)) vC)))) (Vs (xu (yG (by decide)) zl (xu (yG (by decide)) zl vk yz) (yn zl yz))) (Uj (yn zl (yn zl yz))) (fun _ _ _ _ _=>xU) (fun _ _ _ _ _=>(pv 0))) (zN (y9 c6 rfl (xG (pv 2)) (zd (i:=3) nd rfl (NC rfl)) (zJ (yB (zX B9 (rm hr) rfl (z9 (pv 0) (z9 (pv 3) zD)))))) (zN (ze (zZ xn (zb dy rfl M.len bO (z9 (yD (dk rfl) rfl M.set jC (z9 (pv 2) zD)) zD)) (zb zo rfl M.len bO (z9 (pv 2) zD)) (za _)) (zJ xg) zf) (zJ (y9 c6 rfl (mU (pv 1)) (Zx (K:=K) (n:=2) rfl rfl (xI (zd (i:=3) nd rfl (NC rfl)) (xI (zd (i:=4) nd rfl (NC rfl)) vC))) (zJ (yB (zX F0 (rm hr) rfl (z9 (pv 4) zD))))))))),?_⟩
 obtain⟨t,ht⟩:=SqS.of (SqP.or ha)
 have lu:us.length=pr.length:=hp.length
 refine NF rfl (NG a t ⟨rfl,⟨_,ht⟩,?_⟩)
 refine Yl (xs:=us) (fun i ys H'=>H'=H/\ys=((pr.take i).map Prod.fst).map V.str) ⟨rfl,rfl⟩ (fun i ys H' hi hq=>?_) (fun i x ys H' hx hq=>?_) (fun ys H' hq=>?_)
 ·obtain⟨rfl,rfl⟩:=hq
  refine⟨ht,zp ?_⟩
  rw[bA,bA,bL]
  lia
 ·obtain⟨rfl,rfl⟩:=hq
  obtain⟨p,ep,b,rfl,hb⟩:=yW.at hp i x hx
  refine NG b _ ⟨rfl,hb,rfl,NG _ _ ⟨rfl,NG _ _ ⟨rfl,rfl,?_⟩⟩⟩
  refine NF rfl ⟨rfl,?_⟩
  rw[zq ep,bM,bM]
  rfl
 obtain⟨rfl,rfl⟩:=hq
 rw[lu,bY]
 intro D hD
 have s1:=zH hD (.lst ((pr.map Prod.fst).map V.str))
 have e1:upd H' D (.lst ((pr.map Prod.fst).map V.str)) D=some (.lst ((pr.map Prod.fst).map V.str)):=zM
 generalize upd H' D (.lst ((pr.map Prod.fst).map V.str))=H1 at s1 e1
 have hn1:=SqN.keep s1 hn
 have ht1:=SqS.keep s1 ht
 have hp1:=yW.keep s1 hp
 refine NF rfl ⟨D,rfl,⟨_,SqL.of e1⟩,xv (K:=K) (a:=D) (xs:=(pr.map Prod.fst).map V.str) (fun i σ H2=>∃o:Option V,H2=H1/\σ=[some (.ref pn),some (.ref a),some (.ref D),o,none]) ⟨none,rfl,rfl⟩ (fun i σ H2 _ ⟨_,e,_⟩=>e ▸ SqL.of e1) (fun i x σ H2 hx hq=>?_) (fun σ H2 hq=>?_)⟩
 ·obtain⟨o,rfl,rfl⟩:=hq
  rw[bE] at hx
  obtain⟨z,ez,rfl⟩:=bV.mp hx
  have hz:z∈zs:=by
   obtain⟨p,hpm,rfl⟩:=cD.mp (bH ez)
   exact g.sub p hpm
  exact NF rfl (NF rfl (NH pn zs z ⟨rfl,hn1,hz,NF rfl rfl⟩))
 obtain⟨o,rfl,rfl⟩:=hq
 have lf:(pr.map Prod.fst).length=pr.length:=bA _
 refine(NF rfl (NG D (pr.map Prod.fst) ⟨rfl,.inl (SqL.of e1),by lia,fun l hl=>(NG l (pr.map Prod.fst) ⟨rfl,zM,by lia,NF rfl (NG D _ ⟨rfl,.inl (SqL.of (zH hl _ _ _ e1)),rfl,NF rfl ?_⟩)⟩)⟩))
 refine aD (by rw[lZ g.nd,bA (f:=V.str)]) ?_
 have s2:=s1.trans (zH hl (O4 P w l (pr.map Prod.fst)))
 have ht2:=SqS.keep (zH hl (O4 P w l (pr.map Prod.fst))) ht1
 have hp2:=yW.keep (zH hl (O4 P w l (pr.map Prod.fst))) hp1
 refine NF rfl (NG a t ⟨rfl,⟨_,ht2⟩,?_⟩)
 refine Vi (xs:=us) (fun i σ H3=>∃o1 o2:Option V,H3=upd H2 l (O4 P w l (pr.map Prod.fst))/\σ=[some (.ref pn),some (.ref a),some (.ref D),o1,o2]) ⟨_,_,rfl,rfl⟩ (fun i σ H3 _ ⟨_,_,e,_⟩=>e ▸ ht2) (fun i x σ H3 hx hq=>?_) (fun σ H3 hq=>?_)
 ·obtain⟨o1,o2,rfl,rfl⟩:=hq
  obtain⟨p,ep,b,rfl,hb⟩:=yW.at hp2 i x hx
  have hv:=g.val p (bH ep)
  refine NG b _ ⟨rfl,hb,rfl,NG _ _ ⟨rfl,NG _ _ ⟨rfl,rfl,?_⟩⟩⟩
  exact NF rfl ⟨p.2,rfl,hv.1,hv.2,NG _ _ ⟨rfl,rfl⟩⟩
 ·obtain⟨o1,o2,rfl,rfl⟩:=hq
  exact k _ s2
noncomputable def XI(K:AA):Sp:=fun vs H Q _=>∃(pn a:Addr) (zs:AF) (us:AK) (pr:Row),vs=[.ref pn,.ref a]/\SqN K H pn zs/\zs.length<=12/\SqP K H a us/\Paired (yW K H) us pr/\(pr.map Prod.fst).Nodup/\pr.length<=12/\∀(v:V) (H':Hp),B0 H H'->Tell H' (rowD (yj zs pr)) v->Q v H'
theorem rg{z:Str}:∀{pr:Row},I0 (pr.map kvR) (Sum.inr z:Key)=(pr.find? fun p=>decide (p.1=z)).map fun p=>V.int p.2
 | []=>rfl
 | p::w=>by
  rw[cJ,eO]
  by_cases e:p.1=z
  ·rw[uM (show(kvR p).1=Sum.inr z by unfold kvR;rw[e]),Pq e]
   rfl
  ·rw[uL (show ¬(kvR p).1=Sum.inr z from fun q=>e (Sum.inr.inj q)),Pt e]
   exact rg
theorem PR(zs:AF)(z:Str)(pr:Row):yj (zs++[z]) pr=yj zs pr++(match pr.find? fun p=>decide (p.1=z) with|some p=>[p]|none=>[]):=by
 unfold yj
 rw[List.filterMap_append,gN]
 cases pr.find? fun p=>decide (p.1=z)<;>rfl
theorem pF(zs:AF)(pr:Row):(yj zs pr).length<=zs.length:=List.length_filterMap_le _ _
theorem QL(M:Bl mg)(F:Fun K "rows_in_order" "rows_in_order" nG f fd):B2 P w K mg base CX0 1 f fd nF (XI K):=by
 have nd:=dz.nd
 refine F.ok dz ?_ ?_
 ·rintro _ _ _ _⟨_,_,_,_,_,rfl,_⟩
  rfl
 rintro _ _ _ _ H vs Q E hr⟨pn,a,zs,us,pr,rfl,hn,Pj,ha,hp,ndr,l12,k⟩
 have hu:=vN hr
 refine⟨_,(zN (zW (i:=2) nd rfl (Or.inr rfl) (yD (oY (K:=K) rfl rfl) rfl M.dict kE (z9 (pv 1) zD))) (zJ (zR (yD ym rfl M.tuple bS (z9 (xH ["name"] ["values"] [2] rfl (yY rfl (by decide +kernel) rfl (by decide +kernel) rfl rfl) (mU (pv 0)) (fun _ _ _ _ _=>(zd (i:=0) (show((["name"]:List PySem.Str)++(["values"]:List PySem.Str)).Nodup from by decide +kernel) rfl (NC rfl))) (yG (by decide)) zl (fun _ _ _ _ _=>(wk (vA (mO hu (pv 0) (pv 1))))) (fun _ _ _ _ _=>(yH (z9 (pv 0) (z9 (vn hu (pv 1) (pv 0) (fun _ _=>rfl)) zD))))) zD))))),?_⟩
 have lu:us.length=pr.length:=hp.length
 refine NF rfl (NH a us (pr.map kvR) ⟨rfl,ha,yW.pairs hp,by lia,?_,fun d hd=>?_⟩)
 ·have e:(pr.map kvR).map (·.1)=(pr.map Prod.fst).map Sum.inr:=by rw[eJ,eJ];rfl
  rw[e,dR,dC]
  exact(dR.mp ndr).imp fun h e=>h (Sum.inr.inj e)
 have s1:=zH hd (.dK (pr.map kvR))
 have e1:upd H d (.dK (pr.map kvR)) d=some (.dK (pr.map kvR)):=zM
 generalize upd H d (.dK (pr.map kvR))=H1 at s1 e1
 obtain⟨t,ht⟩:=SqS.of (SqN.keep s1 hn)
 refine NF rfl (NG pn t ⟨rfl,⟨_,ht⟩,?_⟩)
 refine Yl (xs:=zs.map V.str) (fun i ys H'=>B0 H1 H'/\zF H' ((yj (zs.take i) pr).map wX) ys) ⟨B0.refl _,by rw[cW];exact .nil⟩ (fun i ys H' hi hq=>?_) (fun i x ys H' hx hq=>?_) (fun ys H' hq=>?_)
 ·obtain⟨g,t'⟩:=hq
  refine⟨SqS.keep g ht,zp ?_⟩
  have:=pF (zs.take i) pr
  rw[bL] at this
  rw[t'.length,bA]
  lia
 ·obtain⟨g,t'⟩:=hq
  rw[bE] at hx
  obtain⟨z,ez,rfl⟩:=bV.mp hx
  refine NF rfl (NF rfl (NG d _ ⟨rfl,L5.k (k:=Sum.inr z) (g _ _ e1),NF rfl ?_⟩))
  rw[rg,zq ez,PR]
  cases ev:pr.find? fun p=>decide (p.1=z) with
  | none=>
   refine C1 ⟨g,?_⟩
   rw[dB]
   exact t'
  | some p=>
   have ep:p.1=z:=by
    have:=List.find?_some ev
    exact Px this
   refine F3 (NF rfl (NF rfl (NF rfl (NG d _ ⟨rfl,(show L5 _ d (kV (Sum.inr z)) (some (V.int p.2)) by rw[<- show I0 (pr.map kvR) (Sum.inr z:Key)=some (V.int p.2) by rw[rg,ev];rfl];exact L5.k (g _ _ e1)),(NB 2),fun q hq=>⟨g.trans (zH hq _),?_⟩⟩))))
   rw[bM]
   refine zF.snoc (zF.keep (zH hq _) _ _ t') ?_
   rw[<- ep]
   exact zw zM (by show 2<=1000000;decide) (.cons (vG _) (.cons (yy _) .nil))
 ·obtain⟨g,t'⟩:=hq
  rw[bA,bY] at t'
  intro D hD
  refine(NG D ys ⟨rfl,.inl ⟨SqL.of zM,fun q hq=>k _ _ (s1.trans (g.trans ((zH hD _).trans (zH hq _)))) (zw zM ?_ (zF.keep ((zH hD _).trans (zH hq _)) _ _ t'))⟩⟩)
  have:=pF zs pr
  rw[bA]
  lia
noncomputable def lV:Sp:=fun vs H Q _=>∃(a:Addr) (xs:AK) (w:Row),vs=[.ref a]/\H a=some (.tup xs)/\zF H (w.map wX) xs/\w.length<=12/\∀(l:Addr) (H':Hp),B0 H H'->H' l=some (.tup ((zk w).map V.str))->Q (.ref l) H'
theorem TV(M:Bl mg)(F:Fun K "names_of_rows" "names_of_rows" ow f fd):B2 P w K mg base CX0 1 f fd si lV:=by
 have nd:=cx.nd
 refine F.ok cx ?_ ?_
 ·rintro _ _ _ _⟨_,_,_,rfl,_⟩
  rfl
 rintro _ _ _ _ H vs Q E hr⟨a,xs,w,rfl,ha,tw,l12,k⟩
 refine⟨_,(zJ (zR (yD ym rfl M.tuple bS (z9 (xH ["name","value"] [] [] rfl (yY rfl (by decide +kernel) rfl (by decide +kernel) rfl rfl) (yt (pv 0)) (fun _ _ _ _ _=>(uH (K:=K) (n:=2) rfl rfl (xI (zd (i:=0) (show((["name","value"]:List PySem.Str)++([]:List PySem.Str)).Nodup from by decide +kernel) rfl (NC rfl)) (xI (zd (i:=1) (show((["name","value"]:List PySem.Str)++([]:List PySem.Str)).Nodup from by decide +kernel) rfl (NC rfl)) vC)))) (uI (xu (yG (by decide)) zl (xu (yG (by decide)) zl vk yz) (yn zl yz))) (uN (yn zl (yn zl yz))) (fun _ _ _ _ _=>xU) (fun _ _ _ _ _=>(pv 0))) zD)))),?_⟩
 have lx:xs.length=w.length:=by rw[tw.length,bA]
 refine NF rfl ⟨a,rfl,⟨_,SqT.of ha⟩,?_⟩
 refine wI (xs:=xs) (fun i ys H'=>H'=H/\ys=(zk (w.take i)).map V.str) ⟨rfl,rfl⟩ (fun i ys H' hi hq=>?_) (fun i x ys H' hx hq=>?_) (fun ys H' hq=>?_)
 ·obtain⟨rfl,rfl⟩:=hq
  refine⟨SqT.of ha,zp ?_⟩
  unfold zk
  rw[bA,bA,bL]
  lia
 ·obtain⟨rfl,rfl⟩:=hq
  obtain⟨p,b,ep,rfl,hb⟩:=pK tw i x hx
  refine NG b _ ⟨rfl,SqT.of hb,rfl,NG _ _ ⟨rfl,NG _ _ ⟨rfl,rfl,?_⟩⟩⟩
  refine NF rfl ⟨rfl,?_⟩
  unfold zk
  rw[zq ep,bM,bM]
  rfl
 ·obtain⟨rfl,rfl⟩:=hq
  rw[lx,bY]
  intro D hD
  exact(NG D _ ⟨rfl,.inl ⟨SqL.of zM,fun q hq=>k q _ ((zH hD _).trans (zH hq _)) zM⟩⟩)
noncomputable def OfD(K:AA)(C:Addr):OfP:=fun H p fp zs r z3=>∃(dx pn pl:Addr) (fs:List (Str×V)) (xs:AK),fp=[p,dx,pl]/\H p=some (.ins C dx fs)/\H dx=some (.own p)/\H pn=some (.tup (zs.map V.str))/\H pl=some (.lst xs)/\
 fs.lookup ("names":Str)=some (V.ref pn)/\fs.lookup ("reach":Str)=some (V.int r)/\fs.lookup ("written":Str)=some (V.ref pl)/\(∀m∈(["refuse_writing","write","latest","issue"]:AF),fs.lookup m=none)/\
 zF H ((upI 1 z3.length).map fun n=>yE z3 n r) xs/\z3.length<=60/\(∀w∈z3,w.length<=12)/\GoodN zs/\0<=r/\r<=10
theorem ofOk{K:AA}{C:Addr}:OfOk C ["write","latest","issue"] (OfD K C):=by
 refine⟨fun h=>?_,fun h b hb=>?_,fun h s out nt=>?_⟩
 ·obtain⟨dx,pn,pl,fs,xs,e,h1,h2,h3,h4,l1,l2,l3,lm,_⟩:=h
  refine⟨dx,fs,h1,fun m hm=>lm m ?_⟩
  simp only[bI,dG,OY] at hm ⊢
  rcases hm with h|h|h<;>simp[h]
 ·obtain⟨dx,pn,pl,fs,xs,rfl,h1,h2,h3,h4,_⟩:=h
  rcases bI.mp hb with rfl|hb
  ·exact⟨_,h1,fun xs z=>by cases z⟩
  rcases bI.mp hb with rfl|hb
  ·exact⟨_,h2,fun xs z=>by cases z⟩
  rw[bD.mp hb]
  exact⟨_,h4,fun xs z=>by cases z⟩
 ·obtain⟨dx,pn,pl,fs,xs,rfl,h1,h2,h3,h4,l1,l2,l3,lm,tl,g⟩:=h
  exact NJ dx pn pl fs xs ⟨rfl,s _ _ h1 (fun m=>out _ m (by simp)),s _ _ h2 (fun m=>out _ m (by simp)),s _ _ h3 (fun m=>nt _ m _ h3),s _ _ h4 (fun m=>out _ m (by simp)),l1,l2,l3,lm,zF.but s nt _ _ tl,g⟩
theorem RH{A6:Addr}(M:Bl mg)(T:TxOffice K mg A6)(F:Fun K "__init__" "Office.__init__" nZ f fd)(C7:Cal P w K mg base 2 "bulletin_names" sZ (qo K)) :
  B2 P w K mg base CX0 3 f fd nX (YH K A6 (OfD K A6)):=by
 have nd:=bj.nd
 refine F.ok bj ?_ ?_
 ·rintro _ _ _ _⟨_,_,_,_,_,rfl,_⟩
  rfl
 rintro _ _ _ _ H vs Q E hr⟨x,dx,pn,zs,r,rfl,hx,ne,hdx,hn,g,r0,r1,k⟩
 refine⟨_,(zN (wb (pv 0) (zX C7 (rm hr) rfl (z9 (pv 1) (z9 (pv 2) zD))) rfl) (zN (wb (pv 0) (pv 2) rfl) (zJ (wb (pv 0) (yc zD) rfl)))),?_⟩
 refine NF rfl (NF rfl (NH pn zs r ⟨rfl,hn,g,r0,r1,fun l H1 s1 e1=>?_⟩))
 refine NF rfl (NI x A6 dx ([]) ⟨rfl,s1 _ _ hx,T.cl,T.n_names,by decide,?_⟩)
 have z1:=vL "names" (.ref l) []
 have z2:=vL "reach" (.int r) (G5 "names" (.ref l) [])
 have z0:([]:List (Str×V)).length=0:=rfl
 refine NF rfl (NF rfl (NI x A6 dx _ ⟨rfl,zM,T.cl,T.n_reach,(by lia),?_⟩))
 rw[vq]
 refine⟨(NB 0),fun pd hd=>?_⟩
 have nx:x≠pd:=yC zM hd
 have ndd:dx≠pd:=yC (show upd H1 x _ dx=some _ by rw[zS ne];exact s1 _ _ hdx) hd
 have nl:l≠x:=xW e1 (s1 _ _ hx) (fun z=>by cases z)
 have nlp:l≠pd:=yC (show upd H1 x _ l=some _ by rw[zS nl];exact e1) hd
 have dfr:H1 pd=none:=by rw[zS (eQ nx)] at hd;exact hd
 refine NF rfl (NI x A6 dx _ ⟨rfl,(by rw[zS nx,zM]),T.cl,T.n_written,(by lia),?_⟩)
 refine k [x,dx,pd] _ (fun b hb=>?_) (fun b o e nb=>?_) (NJ dx l pd _ ([]) ⟨rfl,zM,?_,?_,?_,?_,?_,?_,?_,.nil,by decide,fun _ q=>(nomatch q),g,r0,r1⟩)
 ·simp only[bI,dG,OY] at hb
  rcases hb with rfl|rfl|rfl
  ·exact .inl rfl
  ·exact .inr (.inl rfl)
  ·exact .inr (.inr (s1.free dfr))
 ·rw[bD] at nb
  rw[zS nb,zS (yC e (s1.free dfr)),zS nb]
  exact s1 _ _ e
 ·rw[zS ne,zS ndd,zS ne]
  exact s1 _ _ hdx
 ·rw[zS nl,zS nlp,zS nl]
  exact e1
 ·rw[zS (eQ nx),zM]
 ·rw[yP,Pn (by decide +kernel),yP,Pn (by decide +kernel),yP,Po rfl]
 ·rw[yP,Pn (by decide +kernel),yP,Po rfl]
 ·rw[yP,Po rfl]
 ·intro m hm
  simp only[bI,dG,OY] at hm
  rcases hm with rfl|rfl|rfl|rfl<;>rw[yP,Pn (by decide +kernel),yP,Pn (by decide +kernel),yP,Pn (by decide +kernel)]<;>rfl
theorem PL{A6:Addr}(M:Bl mg)(T:TxOffice K mg A6)(F:Fun K "latest" "Office.latest" nK f fd):B2 P w K mg base CX0 1 f fd n6 (jz (OfD K A6)):=by
 have nd:=ba.nd
 refine F.ok ba ?_ ?_
 ·rintro _ _ _ _⟨_,_,_,_,_,rfl,_⟩
  rfl
 rintro _ _ _ _ H vs Q E hr⟨p,fp,zs,r,z3,rfl,of,k⟩
 refine⟨_,(zJ (zR (zb zo rfl M.len bO (z9 (zt (pv 0) rfl) zD)))),?_⟩
 obtain⟨dx,pn,pl,fs,xs,rfl,h1,h2,h3,h4,l1,l2,l3,lm,tl,r60,w12,g,r0,r1⟩:=of
 have lx:xs.length=z3.length:=by rw[tl.length,bA,xk]
 refine NF rfl (NJ p A6 dx fs _ ⟨rfl,h1,T.cl,T.n_written,l3,NG pl xs ⟨rfl,.inl (SqL.of h4),?_⟩⟩)
 rw[lx]
 exact k H (B0.refl _)
theorem QG{A6:Addr}(M:Bl mg)(T:TxOffice K mg A6)(F:Fun K "issue" "Office.issue" oK f fd):B2 P w K mg base CX0 1 f fd ub (tV (OfD K A6)):=by
 have nd:=fv.nd
 refine F.ok fv ?_ ?_
 ·rintro _ _ _ _⟨_,_,_,_,_,_,rfl,_⟩
  rfl
 rintro _ _ _ _ H vs Q E hr⟨p,fp,zs,r,z3,n,rfl,of,n1,n2,k⟩
 refine⟨_,(zN (ze (PW.pt (xX (zZ wA (pv 1) zL (za _)) (xb (zZ xA (pv 1) (zb zo rfl M.len bO (z9 (zt (pv 0) rfl) zD)) (za _))))) (zJ xg) zf) (zJ (zR (zh yl (zt (pv 0) rfl) (zP yu (pv 1) zL) (fun _ _=>rfl))))),?_⟩
 obtain⟨dx,pn,pl,fs,xs,rfl,h1,h2,h3,h4,l1,l2,l3,lm,tl,r60,w12,g,r0,r1⟩:=of
 have lx:xs.length=z3.length:=by rw[tl.length,bA,xk]
 refine(NF rfl (NG _ _ ⟨rfl,rfl,(NF rfl (C0 (fun q=>ND (zx q) (by lia)) fun _=>?_))⟩))
 refine(NF rfl (NF rfl (NJ p A6 dx fs _ ⟨rfl,h1,T.cl,T.n_written,l3,(NG pl xs ⟨rfl,.inl (SqL.of h4),(NG _ _ ⟨rfl,rfl,(NF rfl (C0 (fun q=>ND (zx q) (by lia)) fun _=>?_))⟩)⟩)⟩)))
 have hk:(n-1).toNat<z3.length:=by lia
 obtain⟨v,ev,tv⟩:=tl.get (n-1).toNat (yE z3 n r) (by
  unfold upI
  rw[bE,bE,jO hk]
  show some (yE z3 (1+((n-1).toNat:Int)) r)=_
  rw[show(1:Int)+((n-1).toNat:Int)=n by lia])
 have av:atI xs (n-1)=some v:=by
  rw[show n-1=(((n-1).toNat:Nat):Int) by lia]
  exact yT ev
 exact NF rfl (NJ p A6 dx fs _ ⟨rfl,h1,T.cl,T.n_written,l3,NF rfl (NG _ _ ⟨rfl,rfl,NI pl xs _ v ⟨rfl,rfl,SqL.of h4,av,k v H (B0.refl _) tv⟩⟩)⟩)
noncomputable def qP(K:AA)(Of:OfP):Sp:=fun vs H Q _=>∃(p a:Addr) (fp:List Addr) (zs:AF) (r:Int) (z3:AL) (us:AK) (pr:Row),vs=[.ref p,.ref a]/\Of H p fp zs r z3/\SqP K H a us/\Paired (yW K H) us pr/\GoodR zs pr/\pr.length<=12/\z3.length<60/\∀H',B0 H H'->Q .non H'
theorem QS{A6:Addr}(M:Bl mg)(T:TxOffice K mg A6)(F:Fun K "refuse_writing" "Office.refuse_writing" mB f fd)(F7:Cal P w K mg base 2 "refuse_bad_rows" ng (Xa K)) :
  B2 P w K mg base CX0 3 f fd sv (qP K (OfD K A6)):=by
 have nd:=br.nd
 refine F.ok br ?_ ?_
 ·rintro _ _ _ _⟨_,_,_,_,_,_,_,_,rfl,_⟩
  rfl
 rintro _ _ _ _ H vs Q E hr⟨p,a,fp,zs,r,z3,us,pr,rfl,of,ha,hp,g',l12,l60,k⟩
 refine⟨_,(zN (ze (zZ mJ (zb zo rfl M.len bO (z9 (zt (pv 0) rfl) zD)) (vd rfl M.MOST_NUMBERS) (za _)) (zJ xg) zf) (zJ (yB (zX F7 (rm hr) rfl (z9 (zt (pv 0) rfl) (z9 (pv 1) zD)))))),?_⟩
 obtain⟨dx,pn,pl,fs,xs,rfl,h1,h2,h3,h4,l1,l2,l3,lm,tl,r60,w12,g,r0,r1⟩:=of
 have lx:xs.length=z3.length:=by rw[tl.length,bA,xk]
 refine(NF rfl (NJ p A6 dx fs _ ⟨rfl,h1,T.cl,T.n_written,l3,(NG pl xs ⟨rfl,.inl (SqL.of h4),(NG _ _ ⟨rfl,rfl,(NF rfl (C0 (fun q=>ND (zx q) (by lia)) fun _=>?_))⟩)⟩)⟩))
 exact NF rfl (NJ p A6 dx fs _ ⟨rfl,h1,T.cl,T.n_names,l1,NF rfl (NJ pn a zs us pr ⟨rfl,.inr (SqT.of h3),ha,hp,g',l12,fun H' s=>k H' s⟩)⟩)
theorem PH(z3:AL)(x:Row){n r:Int}(n1:1<=n)(n2:n<=z3.length):yE (z3++[x]) n r=yE z3 n r:=by
 have e:=Qy (z3:=z3++[x]) (j:=z3.length) (r:=r) n1 n2
 rw[List.take_left] at e
 exact e.symm
theorem SY(m:Nat)(r:Int)(r0:0<=r):xl ((m:Int)+1) r=tsN m r.toNat:=by
 have w0v:∀{l1 l2:AJ},l1.Pairwise (· > ·)->l2.Pairwise (· > ·)->(∀x,x∈l1↔x∈l2)->l1=l2:=fun {l1 l2} p1 p2 h=>by
  have e:=wR (l1:=l1.reverse) (l2:=l2.reverse) (kN.mpr p1) (kN.mpr p2) fun x=>by rw[kK,kK];exact h x
  have e2:=Pu List.reverse e
  rw[jH,jH] at e2
  exact e2
 refine w0v ((qZ _ _).filter _) ((qZ _ _).filter _) fun x=>?_
 rw[uF]
 unfold xl
 rw[cG,uz,Pp]
 lia
theorem Ra(z3:AL)(x:Row)(r:Int)(r0:0<=r):rD (z3++[x]) ((z3.length:Int)+1) r=tsD (z3.map zk) r:=by
 unfold rD tsD
 rw[SY _ _ r0,bA]
 congr 1
 refine jM fun k hk=>?_
 have hk:=uF.mp hk
 unfold uB tsP zg
 have h1:(k-1).toNat<z3.length:=by lia
 rw[bR,bR,cS h1,bE,bC h1]
 rfl
theorem Ry{A6:Addr}(M:Bl mg)(T:TxOffice K mg A6)(F:Fun K "write" "Office.write" nB f fd)(B6:D5 P w K mg base 3 A6 "refuse_writing" sv (qP K (OfD K A6)))
  (D0:Cal P w K mg base 1 "names_of_rows" si lV) (J1:Cal P w K mg base 1 "rows_in_order" nF (XI K)) (O1:Cal P w K mg base 2 "tail_for" qT (az K)) :
  B2 P w K mg base CX0 4 f fd nD (XG K (OfD K A6)):=by
 have nd:=fz.nd
 refine F.ok fz ?_ ?_
 ·rintro _ _ _ _⟨_,_,_,_,_,_,_,rfl,_⟩
  rfl
 rintro _ _ _ _ H vs Q E hr⟨p,v,fp,zs,r,z3,pr,rfl,of,⟨a,us,rfl,ha,na,hp⟩,gr,l12,l60,k⟩
 refine⟨_,(zN (yB (xV B6 (rm hr) (pv 0) (z9 (pv 1) zD))) (zN (zW (i:=2) nd rfl (NC rfl) (zP yS (zb zo rfl M.len bO (z9 (zt (pv 0) rfl) zD)) zL)) (zN (vX (i:=3) ["issue"] [] [] rfl nd rfl (NC rfl) (yY rfl (by decide +kernel) rfl (by decide +kernel) rfl rfl) (xG (zt (pv 0) rfl)) (fun _ _ _ _ _=>(zd (i:=0) (show((["issue"]:List PySem.Str)++([]:List PySem.Str)).Nodup from by decide +kernel) rfl (NC rfl))) (yG (by decide)) zl (fun _ _ _ _ _=>xU) (fun _ _ _ _ _=>(zX D0 (rm hr) rfl (z9 (zh (r:=V8 K) y8 (pv 0) zL (fun _ _=>rfl)) zD)))) (zN (yB (yq cA cB cE xP (zt (pv 0) rfl) (z9 (yH (z9 (pv 2) (z9 (zX J1 (rm hr) rfl (z9 (zt (pv 0) rfl) (z9 (pv 1) zD))) (z9 (zX O1 (rm hr) rfl (z9 (pv 3) (z9 (zt (pv 0) rfl) zD))) zD)))) zD))) (zJ (zR (pv 2))))))),?_⟩
 have hp':=yW.of hp
 obtain⟨dx,pn,pl,fs,xs,rfl,h1,h2,h3,h4,l1,l2,l3,lm,tl,r60,w12,g,r0,r1⟩:=id of
 have lx:xs.length=z3.length:=by rw[tl.length,bA,xk]
 refine NF rfl (NH p dx fs ⟨rfl,h1,lm _ (by simp),NF rfl (NM p a _ zs r z3 us pr ⟨rfl,of,ha,hp',gr,l12,l60,fun H1 s1=>?_⟩)⟩)
 refine NF rfl (NJ p A6 dx fs _ ⟨rfl,s1 _ _ h1,T.cl,T.n_written,l3,NG pl xs ⟨rfl,.inl (SqL.of (s1 _ _ h4)),NG _ _ ⟨rfl,rfl,?_⟩⟩⟩)
 refine NF rfl (NJ p A6 dx fs _ ⟨rfl,s1 _ _ h1,T.cl,T.n_written,l3,pl,rfl,⟨_,SqL.of (s1 _ _ h4)⟩,?_⟩)
 refine vY (xs:=xs) (fun i ys H'=>B0 H1 H'/\zF H' (((z3.take i).map zk).map zY) ys) ⟨B0.refl _,by rw[cW];exact .nil⟩ (fun i ys H' hi hq=>?_) (fun i x ys H' hx hq=>?_) (fun ys H' hq=>?_)
 ·obtain⟨gg,t⟩:=hq
  refine⟨SqL.of (gg _ _ (s1 _ _ h4)),zp ?_⟩
  rw[t.length,bA,bA,bL]
  lia
 ·obtain⟨gg,t⟩:=hq
  have hi:i<z3.length:=by
   have:=(bK.mp hx).1
   lia
  obtain⟨d,ed,td⟩:=tl.at i x hx
  unfold upI at ed
  rw[bE,bE,jO hi] at ed
  have ed':yE z3 (1+(i:Int)) r=d:=Option.some.inj ed
  subst ed'
  have ew:zg z3 (1+(i:Int))=z3[i]:=by
   unfold zg
   rw[show(1+(i:Int)-1).toNat=i by lia,bR,bC hi]
   rfl
  obtain⟨b,bs,rfl,eb,_,tb⟩:=zr td
  obtain⟨x0,ur,rfl,t0,tb⟩:=yM tb
  obtain⟨x1,ur,rfl,t1,tb⟩:=yM tb
  rw[ew] at t1
  obtain⟨c,cs,rfl,ec,_,tc⟩:=zr t1
  refine NF rfl (NI b _ _ _ ⟨rfl,rfl,SqT.of (gg _ _ (s1 _ _ eb)),yT rfl,(NH c cs (z3[i]) ⟨rfl,gg _ _ (s1 _ _ ec),zF.keep (s1.trans gg) _ _ tc,w12 _ (fT hi),fun l H2 s2 e2=>⟨gg.trans s2,?_⟩⟩)⟩)
  rw[zq (bC hi),bM,bM]
  refine zF.snoc (zF.keep s2 _ _ t) (zw e2 ?_ (vc _))
  have:=w12 _ (fT hi)
  unfold zk
  rw[bA,bA]
  lia
 obtain⟨gg,t⟩:=hq
 rw[lx,bY] at t
 intro D hD
 have s2:=s1.trans (gg.trans (zH hD (.lst ys)))
 have eD:upd H' D (.lst ys) D=some (.lst ys):=zM
 have t2:=zF.keep (zH hD (.lst ys)) _ _ t
 generalize upd H' D (.lst ys)=H2 at s2 eD t2
 have l60':((z3.map zk)).length<=59:=by rw[bA];lia
 refine NF rfl (NJ p A6 dx fs _ ⟨rfl,s2 _ _ h1,T.cl,T.n_written,l3,.inl ⟨rfl,_,SqL.of (s2 _ _ h4)⟩,?_⟩)
 refine(NF rfl (NF rfl (NJ p A6 dx fs _ ⟨rfl,s2 _ _ h1,T.cl,T.n_names,l1,(NF rfl (NJ pn a zs us pr ⟨rfl,.inr (SqT.of (s2 _ _ h3)),g.hi,SqP.keep s2 ha,yW.keep s2 hp',gr.nd,l12,fun v1 H3 s3 tv1=>?_⟩))⟩)))
 have s23:=s2.trans s3
 refine(NF rfl (NF rfl (NJ p A6 dx fs _ ⟨rfl,s23 _ _ h1,T.cl,T.n_reach,l2,(NI D ys (z3.map zk) r ⟨rfl,.inl (SqL.of (s3 _ _ eD)),zF.keep s3 _ _ t2,l60',?_,r0,r1,fun v2 H4 s4 tv2=>?_⟩)⟩)))
 ·intro w' hw'
  obtain⟨w0,hw0,rfl⟩:=cD.mp hw'
  have:=w12 w0 hw0
  unfold zk
  rw[bA]
  exact this
 refine⟨(NB 3),fun q hq=>?_⟩
 have s24:=s23.trans (s4.trans (zH hq (.tup [V.int ((xs.length:Int)+1),v1,v2])))
 have eq':upd H4 q (.tup [V.int ((xs.length:Int)+1),v1,v2]) q=some (.tup [V.int ((xs.length:Int)+1),v1,v2]):=zM
 have tv1':=Tell.keep (s4.trans (zH hq (.tup [V.int ((xs.length:Int)+1),v1,v2]))) _ _ tv1
 have Z9:=Tell.keep (zH hq (.tup [V.int ((xs.length:Int)+1),v1,v2])) _ _ tv2
 generalize upd H4 q (.tup [V.int ((xs.length:Int)+1),v1,v2])=H5 at s24 eq' tv1' Z9
 refine NH pl xs (.ref q) ⟨rfl,rfl,s24 _ _ h4,zp (by lia),?_⟩
 refine NF rfl ?_
 have np:p≠pl:=xW h1 h4 (fun z=>by cases z)
 have nx:dx≠pl:=xW h2 h4 (fun z=>by cases z)
 have nn:pn≠pl:=xW h3 h4 (fun z=>by cases z)
 have h5:=s24 _ _ h4
 have e:=k [p,dx,pl] (upd H5 pl (.lst (xs++[.ref q]))) (fun b hb=>.inl hb) (fun b o e nb=>by rw[zS (fun z=>nb (by rw[z];simp))];exact s24 _ _ e)
  ⟨dx,pn,pl,fs,_,rfl,by rw[zS np];exact s24 _ _ h1,by rw[zS nx];exact s24 _ _ h2,by rw[zS nn];exact s24 _ _ h3,zM,l1,l2,l3,lm,?_,?_,?_,g,r0,r1⟩
 ·rw[<- lx] at e
  exact e
 ·refine zF.over h5 (fun _ z=>by cases z) _ _ ?_
  rw[bF,cP,tM,bM]
  have e1:(upI 1 z3.length).map (fun n=>yE (z3++[yj zs pr]) n r)=(upI 1 z3.length).map fun n=>yE z3 n r:=jM fun n hn=>by
   have:=yx.mp hn
   exact PH z3 _ (by lia) (by lia)
  rw[e1]
  refine zF.snoc (zF.keep s24 _ _ tl) ?_
  have en:(1:Int)+(z3.length:Int)=(z3.length:Int)+1:=by lia
  have er:zg (z3++[yj zs pr]) ((z3.length:Int)+1)=yj zs pr:=by
   unfold zg
   rw[show((z3.length:Int)+1-1).toNat=z3.length by lia,bR,List.getElem?_concat_length]
   rfl
  show Tell H5 (yE (z3++[yj zs pr]) (1+(z3.length:Int)) r) (.ref q)
  unfold yE
  rw[en,er,Ra z3 _ r r0]
  rw[lx] at eq'
  exact zw eq' (by show 3<=1000000;decide) (.cons (yy _) (.cons tv1' (.cons Z9 .nil)))
 ·rw[bF,cP]
  lia
 ·intro w' hw'
  rcases bZ.mp hw' with hw'|hw'
  ·exact w12 w' hw'
  ·rw[bD] at hw'
   rw[hw']
   exact c7 (pF zs pr) g.hi
abbrev Deed:=Option Int×Int
noncomputable def yQ:Deed->AK
 | (none,n)=>[.str "write",.int n]
 | (some r,n)=>[.str "deliver",.int r,.int n]
noncomputable def yb(H:Hp)(u:V)(d:Deed):Prop:=∃b,u=.ref b/\H b=some (.tup (yQ d))
theorem xq{H:Hp}{us:AK}{zE:List Deed}(h:Paired (yb H) us zE):us.length=zE.length:=by
 induction h with
 | nil=>rfl
 | cons _ _ ih=>rw[bW,bW,ih]
noncomputable def gotL(zE:List Deed)(rd:Int):AJ:=zE.foldl (fun zK d=>if d.1=some rd then addN zK d.2 else zK) []
theorem Xs(zE:List Deed)(d:Deed)(rd:Int):gotL (zE++[d]) rd=if d.1=some rd then addN (gotL zE rd) d.2 else gotL zE rd:=by
 unfold gotL
 rw[g9]
 rfl
theorem YO{zE:List Deed}{rd n:Int}:n∈gotL zE rd↔((some rd,n):Deed)∈zE:=by
 have go:∀(zE:List Deed) (zK:AJ),n∈zE.foldl (fun zK d=>if d.1=some rd then addN zK d.2 else zK) zK↔n∈zK\/((some rd,n):Deed)∈zE:=by
  intro zE
  induction zE with
  | nil=>intro zK;exact⟨.inl,fun h=>h.elim id fun q=>(nomatch q)⟩
  | cons d zE ih=>
   intro zK
   rw[dI,ih,bI]
   obtain⟨a,m⟩:=d
   by_cases c:a=some rd
   ·subst c
    rw[Po rfl,YM,or_assoc]
    exact or_congr Iff.rfl (or_congr ⟨fun e=>by rw[e],fun e=>Pu Prod.snd e⟩ Iff.rfl)
   ·rw[Pn c]
    exact or_congr Iff.rfl ⟨.inr,fun h=>h.elim (fun e=>ND (Pu Prod.fst e).symm c) id⟩
 unfold gotL
 rw[go]
 exact⟨fun h=>h.elim (fun q=>(nomatch q)) id,.inr⟩
abbrev BkP:=Hp->Addr->List Addr->AF->Int->Int->AL->List Deed->Prop
structure BkOk(C:Addr)(ms:AF)(Bk:BkP):Prop where
 ins:∀{H p fp zs r k z3 zE},Bk H p fp zs r k z3 zE->∃dx fs,H p=some (.ins C dx fs)/\∀m∈ms,fs.lookup m=none
 own:∀{H p fp zs r k z3 zE},Bk H p fp zs r k z3 zE->∀b∈fp,∃o,H b=some o/\∀xs,o≠.tup xs
 keep:∀{H H' p fp gp zs r k z3 zE},Bk H p fp zs r k z3 zE->yO gp H H'->(∀b∈gp,b∉fp)->xY H gp->Bk H' p fp zs r k z3 zE
theorem BkOk.same{C:Addr}{ms:AF}{Bk:BkP}(O:BkOk C ms Bk){H H':Hp}{p:Addr}{fp:List Addr}{zs:AF}{r k:Int}{z3:AL}{zE:List Deed}(h:Bk H p fp zs r k z3 zE)(s:B0 H H'):Bk H' p fp zs r k z3 zE:=
 O.keep (gp:=[]) h (.of s) (fun _ q=>by cases q) fun _ q=>by cases q
theorem BkOk.noTup{C:Addr}{ms:AF}{Bk:BkP}(O:BkOk C ms Bk){H:Hp}{p:Addr}{fp:List Addr}{zs:AF}{r k:Int}{z3:AL}{zE:List Deed}(h:Bk H p fp zs r k z3 zE):xY H fp:=fun b m xs e=>by
 obtain⟨o,e1,n⟩:=O.own h b m
 rw[e1] at e
 exact n xs (Option.some.inj e)
noncomputable def Ye(K:AA)(C:Addr)(Bk:BkP):Sp:=fun vs H Q _=>∃(x dx pn:Addr) (zs:AF) (r k:Int),vs=[.ref x,.ref pn,.int r,.int k]/\H x=some (.ins C dx [])/\dx≠x/\H dx=some (.own x)/\HdN K H pn zs/\GoodN zs/\0<=r/\r<=10/\1<=k/\k<=10/\
 ∀(fp:List Addr) (H':Hp),(∀b∈fp,b=x\/b=dx\/H b=none)->yO [x] H H'->Bk H' x fp zs r k [] []->Q .non H'
noncomputable def Xj(K:AA)(Bk:BkP):Sp:=fun vs H Q _=>∃(p:Addr) (v:V) (fp:List Addr) (zs:AF) (r k:Int) (z3:AL) (zE:List Deed) (pr:Row),vs=[.ref p,v]/\Bk H p fp zs r k z3 zE/\ma K H fp v pr/\GoodR zs pr/\pr.length<=12/\z3.length<60/\zE.length<400/\
 ∀(fp':List Addr) (H':Hp),(∀b∈fp',b∈fp\/H b=none)->yO fp H H'->Bk H' p fp' zs r k (z3++[yj zs pr]) (zE++[(none,(z3.length:Int)+1)])->Q (.int (z3.length+1)) H'
noncomputable def iN(Bk:BkP):Sp:=fun vs H Q _=>∃(p:Addr) (fp:List Addr) (zs:AF) (r k:Int) (z3:AL) (zE:List Deed) (rd n:Int),vs=[.ref p,.int rd,.int n]/\Bk H p fp zs r k z3 zE/\1<=rd/\rd<=k/\1<=n/\n<=z3.length/\zE.length<400/\
 ∀(H':Hp),yO fp H H'->Bk H' p fp zs r k z3 (zE++[(some rd,n)])->Q (.bl (decide (((some rd,n):Deed)∉zE))) H'
noncomputable def RE(Bk:BkP):Sp:=fun vs H Q _=>∃(p:Addr) (fp:List Addr) (zs:AF) (r k:Int) (z3:AL) (zE:List Deed),vs=[.ref p]/\Bk H p fp zs r k z3 zE/\Q (.int zE.length) H
noncomputable def dedV:Option Nat->V
 | none=>.non
 | some d=>.int d
noncomputable def tY(Bk:BkP)(Sh:ShP):Sp:=fun vs H Q _=>∃(p:Addr) (fp:List Addr) (zs:AF) (r k:Int) (z3:AL) (zE:List Deed) (rd:Int) (o:Option Nat),vs=[.ref p,.int rd,dedV o]/\Bk H p fp zs r k z3 zE/\1<=rd/\rd<=k/\(∀d,o=some d->d<=zE.length)/\
 ∀(x:Addr) (fq:List Addr) (H':Hp),(∀b∈fq,H b=none)->B0 H H'->Sh H' x fq zs r (fun n=>yE z3 n r) (gotL (zE.take (o.getD zE.length)) rd)->Q (.ref x) H'
theorem DeedsAt.but{fp:List Addr}{H H':Hp}{us:AK}{zE:List Deed}(s:yO fp H H')(n:xY H fp)(h:Paired (yb H) us zE):Paired (yb H') us zE:=
 L2.Paired.Q1 h fun u d ⟨b,e,q⟩=>⟨b,e,s _ _ q fun m=>n b m _ q⟩
structure BkIn(K:AA)(CB CO:Addr)(H:Hp)(p dx po pd:Addr)(fs:List (Str×V))(fo:List Addr)(us:AK)(zs:AF)(r k:Int)(z3:AL)(zE:List Deed):Prop where
 hp:H p=some (.ins CB dx fs)
 hdx:H dx=some (.own p)
 of:OfD K CO H po fo zs r z3
 hd:H pd=some (.lst us)
 ds:Paired (yb H) us zE
 npo:p∉fo
 ndo:dx∉fo
 ndn:pd∉fo
 lo:fs.lookup ("office":Str)=some (V.ref po)
 lr:fs.lookup ("readers":Str)=some (V.int k)
 ld:fs.lookup ("done":Str)=some (V.ref pd)
 lm:∀m∈(["refuse_unknown_reader","refuse_further_deed","write","deliver","latest","issue","deeds","deed","shelf"]:AF),fs.lookup m=none
 l4:zE.length<=400
 in1:∀d∈zE,1<=d.2/\d.2<=z3.length
 k1:1<=k
 k10:k<=10
noncomputable def BkD(K:AA)(CB CO:Addr):BkP:=fun H p fp zs r k z3 zE=>∃(dx po pd:Addr) (fs:List (Str×V)) (fo:List Addr) (us:AK),fp=p::dx::pd::fo/\BkIn K CB CO H p dx po pd fs fo us zs r k z3 zE
theorem bkOk{K:AA}{CB CO:Addr}:BkOk CB ["write","deliver","latest","issue","deeds","deed","shelf"] (BkD K CB CO):=by
 refine⟨fun h=>?_,fun h b hb=>?_,fun h s out nt=>?_⟩
 ·obtain⟨dx,po,pd,fs,fo,us,rfl,B⟩:=h
  refine⟨dx,fs,B.hp,fun m hm=>B.lm m ?_⟩
  exact bU _ (bU _ hm)
 ·obtain⟨dx,po,pd,fs,fo,us,rfl,B⟩:=h
  rcases bI.mp hb with rfl|hb
  ·exact⟨_,B.hp,fun xs z=>by cases z⟩
  rcases bI.mp hb with rfl|hb
  ·exact⟨_,B.hdx,fun xs z=>by cases z⟩
  rcases bI.mp hb with rfl|hb
  ·exact⟨_,B.hd,fun xs z=>by cases z⟩
  exact ofOk.own B.of b hb
 ·obtain⟨dx,po,pd,fs,fo,us,rfl,B⟩:=h
  exact⟨dx,po,pd,fs,fo,us,rfl,{ B with
   hp:=s _ _ B.hp fun m=>out _ m (by simp)
   hdx:=s _ _ B.hdx fun m=>out _ m (by simp)
   of:=ofOk.keep B.of s (fun b m z=>out b m (by simp[z])) nt
   hd:=s _ _ B.hd fun m=>out _ m (by simp)
   ds:=DeedsAt.but s nt B.ds }⟩
noncomputable def ig:Sp:=fun vs H Q _=>∃k:Int,vs=[.int k]/\1<=k/\k<=10/\Q .non H
theorem Xy(M:Bl mg)(F:Fun K "refuse_bad_readers" "refuse_bad_readers" nv f fd):B2 P w K mg base CX0 1 f fd ny ig:=by
 have nd:=bw.nd
 refine F.ok bw (fun vs H Q E h=>?_) (fun _ _ _ _ H vs Q E hr h=>?_)
 ·obtain⟨_,rfl,_⟩:=h
  rfl
 ·obtain⟨r,rfl,r0,r1,k⟩:=h
  refine⟨_,(zJ (ze (PW.pt (xX (zZ wA (pv 0) zL (za _)) (xb (zZ xA (pv 0) (vd rfl M.MOST_READERS) (za _))))) (zJ xg) zf)),?_⟩
  refine(NF rfl (NG _ _ ⟨rfl,rfl,(NF rfl (C0 (fun q=>ND (zx q) (by lia)) fun _=>?_))⟩))
  exact(NF rfl (NG _ _ ⟨rfl,rfl,(NF rfl (C0 (fun q=>ND (zx q) (by lia)) fun _=>k))⟩))
noncomputable def pY(Bk:BkP):Sp:=fun vs H Q _=>∃(p:Addr) (fp:List Addr) (zs:AF) (r k:Int) (z3:AL) (zE:List Deed) (rd:Int),vs=[.ref p,.int rd]/\Bk H p fp zs r k z3 zE/\1<=rd/\rd<=k/\Q .non H
theorem Pd{B1 A6:Addr}(M:Bl mg)(T:TxBook K mg B1)(F:Fun K "refuse_unknown_reader" "Book.refuse_unknown_reader" mD f fd):B2 P w K mg base CX0 1 f fd r9 (pY (BkD K B1 A6)):=by
 have nd:=aB.nd
 refine F.ok aB ?_ ?_
 ·rintro _ _ _ _⟨_,_,_,_,_,_,_,_,rfl,_⟩
  rfl
 rintro _ _ _ _ H vs Q E hr⟨p,fp,zs,r,k,z3,zE,rd,rfl,⟨dx,po,pd,fs,fo,us,rfl,B⟩,r1,r2,q⟩
 refine⟨_,(zJ (ze (PW.pt (xX (zZ wA (pv 1) zL (za _)) (xb (zZ xA (pv 1) (zt (pv 0) rfl) (za _))))) (zJ xg) zf)),?_⟩
 refine(NF rfl (NG _ _ ⟨rfl,rfl,(NF rfl (C0 (fun q=>ND (zx q) (by lia)) fun _=>?_))⟩))
 exact(NF rfl (NF rfl (NJ p B1 dx fs _ ⟨rfl,B.hp,T.cl,T.n_readers,B.lr,(NG _ _ ⟨rfl,rfl,(NF rfl (C0 (fun q=>ND (zx q) (by lia)) fun _=>q))⟩)⟩)))
noncomputable def qR(Bk:BkP):Sp:=fun vs H Q _=>∃(p:Addr) (fp:List Addr) (zs:AF) (r k:Int) (z3:AL) (zE:List Deed),vs=[.ref p]/\Bk H p fp zs r k z3 zE/\zE.length<400/\Q .non H
theorem QT{B1 A6:Addr}(M:Bl mg)(T:TxBook K mg B1)(F:Fun K "refuse_further_deed" "Book.refuse_further_deed" m5 f fd):B2 P w K mg base CX0 1 f fd sy (qR (BkD K B1 A6)):=by
 have nd:=aA.nd
 refine F.ok aA ?_ ?_
 ·rintro _ _ _ _⟨_,_,_,_,_,_,_,rfl,_⟩
  rfl
 rintro _ _ _ _ H vs Q E hr⟨p,fp,zs,r,k,z3,zE,rfl,⟨dx,po,pd,fs,fo,us,rfl,B⟩,l4,q⟩
 refine⟨_,(zJ (ze (zZ mJ (zb zo rfl M.len bO (z9 (zt (pv 0) rfl) zD)) (vd rfl M.MOST_DEEDS) (za _)) (zJ xg) zf)),?_⟩
 have lu:=xq B.ds
 exact(NF rfl (NJ p B1 dx fs _ ⟨rfl,B.hp,T.cl,T.n_done,B.ld,(NG pd us ⟨rfl,.inl (SqL.of B.hd),(NG _ _ ⟨rfl,rfl,(NF rfl (C0 (fun q=>ND (zx q) (by lia)) fun _=>q))⟩)⟩)⟩))
theorem Rz{B1 A6:Addr}(M:Bl mg)(T:TxBook K mg B1)(F:Fun K "deeds" "Book.deeds" pL f fd):B2 P w K mg base CX0 1 f fd iW (RE (BkD K B1 A6)):=by
 have nd:=iY.nd
 refine F.ok iY ?_ ?_
 ·rintro _ _ _ _⟨_,_,_,_,_,_,_,rfl,_⟩
  rfl
 rintro _ _ _ _ H vs Q E hr⟨p,fp,zs,r,k,z3,zE,rfl,⟨dx,po,pd,fs,fo,us,rfl,B⟩,q⟩
 refine⟨_,(zJ (zR (zb zo rfl M.len bO (z9 (zt (pv 0) rfl) zD)))),?_⟩
 have lu:=xq B.ds
 refine NF rfl (NJ p B1 dx fs _ ⟨rfl,B.hp,T.cl,T.n_done,B.ld,NG pd us ⟨rfl,.inl (SqL.of B.hd),?_⟩⟩)
 rw[lu]
 exact q
theorem So{B1 A6:Addr}(M:Bl mg)(T:TxBook K mg B1)(F:Fun K "__init__" "Book.__init__" oy f fd)(Q0:Mkr P w K mg base 3 A6 "Office" nX (YH K A6 (OfD K A6)))
  (E5:Cal P w K mg base 1 "refuse_bad_readers" ny ig):B2 P w K mg base CX0 6 f fd nJ (Ye K B1 (BkD K B1 A6)):=by
 have nd:=cz.nd
 refine F.ok cz ?_ ?_
 ·rintro _ _ _ _⟨_,_,_,_,_,_,rfl,_⟩
  rfl
 rintro _ _ _ _ H vs Q E hr⟨x,dx,pn,zs,r,k,rfl,hx,ne,hdx,hn,g,r0,r1,k1,k10,q⟩
 refine⟨_,(zN (wb (pv 0) (mZ Q0 (rm hr) rfl (z9 (pv 1) (z9 (pv 2) zD))) rfl) (zN (yB (zX E5 (rm hr) rfl (z9 (pv 3) zD))) (zN (wb (pv 0) (pv 3) rfl) (zJ (wb (pv 0) (yc zD) rfl))))),?_⟩
 refine NF rfl (NF rfl (fun po dxo nx ndx neo=>?_))
 have m1:=qC (C:=A6) (B0.refl H) nx ndx
 refine(NJ po dxo pn zs r ⟨rfl,zM,neo,by rw[zS neo,zM],HdN.keep m1 hn,g,r0,r1,fun fo H1 ff sb of=>⟨rfl,?_⟩⟩)
 have s1:B0 H H1:=qY sb m1 nx
 have f1:∀b∈fo,H b=none:=fun b hb=>pE m1 nx ndx (ff b hb)
 refine NF rfl (NI x B1 dx ([]) ⟨rfl,s1 _ _ hx,T.cl,T.n_office,by decide,?_⟩)
 have z1:=vL "office" (.ref po) []
 have z2:=vL "readers" (.int k) (G5 "office" (.ref po) [])
 have z0:([]:List (Str×V)).length=0:=rfl
 refine NF rfl ⟨k,rfl,k1,k10,?_⟩
 refine NF rfl (NF rfl (NI x B1 dx _ ⟨rfl,zM,T.cl,T.n_readers,(by lia),?_⟩))
 rw[vq]
 refine⟨(NB 0),fun pd hd=>?_⟩
 have nxp:x≠pd:=yC zM hd
 have dfr:H1 pd=none:=by rw[zS (eQ nxp)] at hd;exact hd
 have ndd:dx≠pd:=yC (s1 _ _ hdx) dfr
 have out:∀{b:Addr}{o:HO},H b=some o->b∉fo:=fun e m=>by rw[f1 _ m] at e;cases e
 refine NF rfl (NI x B1 dx _ ⟨rfl,(by rw[zS nxp,zM]),T.cl,T.n_done,(by lia),?_⟩)
 have sx:yO [x] H1 (upd (upd (upd H1 x (.ins B1 dx (G5 "readers" (.int k) (G5 "office" (.ref po) [])))) pd (.lst [])) x (.ins B1 dx (G5 "done" (.ref pd) (G5 "readers" (.int k) (G5 "office" (.ref po) []))))):=fun b o e nb=>by
  rw[bD] at nb
  rw[zS nb,zS (yC e dfr),zS nb]
  exact e
 refine q (x::dx::pd::fo) _ (fun b hb=>?_) (fun b o e nb=>sx b o (s1 _ _ e) nb) (NK dx po pd _ fo ([]) ⟨rfl,⟨zM,?_,?_,?_,.nil,out hx,out hdx,?_,?_,?_,?_,?_,by decide,fun _ q=>(nomatch q),k1,k10⟩⟩)
 ·rcases bI.mp hb with rfl|hb
  ·exact .inl rfl
  rcases bI.mp hb with rfl|hb
  ·exact .inr (.inl rfl)
  rcases bI.mp hb with rfl|hb
  ·exact .inr (.inr (s1.free dfr))
  ·exact .inr (.inr (f1 b hb))
 ·exact sx _ _ (s1 _ _ hdx) (by rw[bD];exact ne)
 ·refine ofOk.keep of sx (fun b m=>?_) fun b m xs e=>?_
  ·rw[bD.mp m]
   exact out hx
  ·rw[bD.mp m,s1 _ _ hx] at e
   cases e
 ·rw[zS (eQ nxp),zM]
 ·intro m
  obtain⟨o,e,_⟩:=ofOk.own of pd m
  rw[dfr] at e
  cases e
 ·rw[yP,Pn (by decide +kernel),yP,Pn (by decide +kernel),yP,Po rfl]
 ·rw[yP,Pn (by decide +kernel),yP,Po rfl]
 ·rw[yP,Po rfl]
 ·intro m hm
  simp only[bI,dG,OY] at hm
  rcases hm with rfl|rfl|rfl|rfl|rfl|rfl|rfl|rfl|rfl<;>rw[yP,Pn (by decide +kernel),yP,Pn (by decide +kernel),yP,Pn (by decide +kernel)]<;>rfl
theorem ZC{K:AA}{CB CO:Addr}{H H1:Hp}{p dx po pd t:Addr}{fs:List (Str×V)}{fo fo':List Addr}{us:AK}{zs:AF}{r k:Int}{z3 T1:AL}{zE:List Deed}{d:Deed}(B:BkIn K CB CO H p dx po pd fs fo us zs r k z3 zE)
  (sb:yO fo H H1) (of:OfD K CO H1 po fo' zs r T1) (ff:∀b∈fo',b∈fo\/H b=none) (ht:H1 t=some (.tup (yQ d))) (hl:z3.length<=T1.length) (hd1:1<=d.2/\d.2<=T1.length) (l4:zE.length<400) :
  yO (p::dx::pd::fo) H (upd H1 pd (.lst (us++[.ref t])))/\BkD K CB CO (upd H1 pd (.lst (us++[.ref t]))) p (p::dx::pd::fo') zs r k T1 (zE++[d]):=by
 have ntf:xY H fo:=ofOk.noTup B.of
 have hd':=sb _ _ B.hd B.ndn
 have out:∀{b:Addr}{o:HO},H b=some o->b∉fo->b∉fo':=fun e n m=>(ff _ m).elim n fun z=>by rw[z] at e;cases e
 have s2:yO [pd] H1 (upd H1 pd (.lst (us++[.ref t]))):=fun b o e nb=>by
  rw[bD] at nb
  rw[zS nb]
  exact e
 have nt2:xY H1 [pd]:=fun b m xs e=>by
  rw[bD.mp m,hd'] at e
  cases e
 have npd:p≠pd:=xW B.hp B.hd (fun z=>by cases z)
 have ndd:dx≠pd:=xW B.hdx B.hd (fun z=>by cases z)
 refine⟨fun b o e nb=>?_,dx,po,pd,fs,fo',us++[.ref t],rfl,{ B with
  hp:=by rw[zS npd];exact sb _ _ B.hp B.npo
  hdx:=by rw[zS ndd];exact sb _ _ B.hdx B.ndo
  of:=ofOk.keep of s2 (fun b m=>by rw[bD.mp m];exact out B.hd B.ndn) nt2
  hd:=zM
  ds:=?_
  npo:=out B.hp B.npo
  ndo:=out B.hdx B.ndo
  ndn:=out B.hd B.ndn
  l4:=by rw[bF];exact l4
  in1:=fun x hx=>?_ }⟩
 ·rw[bI,bI,bI,NA,NA,NA] at nb
  rw[zS nb.2.2.1]
  exact sb _ _ e nb.2.2.2
 ·exact jJ (DeedsAt.but s2 nt2 (DeedsAt.but sb ntf B.ds)) ⟨t,rfl,s2 _ _ ht fun m=>nt2 t m _ ht⟩
 ·rcases bZ.mp hx with hx|hx
  ·have:=B.in1 x hx
   lia
  ·rw[bD.mp hx]
   exact hd1
theorem Ru{B1 A6:Addr}(M:Bl mg)(T:TxBook K mg B1)(F:Fun K "write" "Book.write" pZ f fd)(B6:D5 P w K mg base 3 A6 "refuse_writing" sv (qP K (OfD K A6)))
  (J9:D5 P w K mg base 4 A6 "write" nD (XG K (OfD K A6))) (B5:D5 P w K mg base 1 B1 "refuse_further_deed" sy (qR (BkD K B1 A6))) :
  B2 P w K mg base CX0 5 f fd pJ (Xj K (BkD K B1 A6)):=by
 have nd:=ij.nd
 refine F.ok ij ?_ ?_
 ·rintro _ _ _ _⟨_,_,_,_,_,_,_,_,_,rfl,_⟩
  rfl
 rintro _ _ _ _ H vs Q E hr⟨p,v,fp,zs,r,k,z3,zE,pr,rfl,bk,⟨a,vs,rfl,ha,na,hpr⟩,gr,l12,l60,l4,q⟩
 refine⟨_,(zN (yB (xV B6 (rm hr) (zt (pv 0) rfl) (z9 (pv 1) zD))) (zN (yB (wH B5 (rm hr) (pv 0))) (zN (zW (i:=2) nd rfl (NC rfl) (xV J9 (rm hr) (zt (pv 0) rfl) (z9 (pv 1) zD))) (zN (yB (yq cA cB cE xP (zt (pv 0) rfl) (z9 (yH (z9 (vI rfl M.WRITE) (z9 (pv 2) zD))) zD))) (zJ (zR (pv 2))))))),?_⟩
 obtain⟨dx,po,pd,fs,fo,us,rfl,B⟩:=id bk
 have no:∀{b:Addr},b∉p::dx::pd::fo->b∉fo:=fun n m=>n (by simp[m])
 have hand:Paired (rb K H fo) vs pr:=L2.Paired.Q1 hpr fun u x ⟨b,e,q,n⟩=>⟨b,e,q,no n⟩
 obtain⟨dxo,pno,plo,fso,xso,efo,h1,h2,h3,h4,l1,l2,l3,lmo,_⟩:=id B.of
 refine NF rfl (NJ p B1 dx fs _ ⟨rfl,B.hp,T.cl,T.n_office,B.lo,NH po dxo fso ⟨rfl,h1,lmo _ (by simp),NF rfl (NM po a fo zs r z3 vs pr ⟨rfl,B.of,ha,yW.of hand,gr,l12,l60,fun H1 s1=>?_⟩)⟩⟩)
 refine NF rfl (NH p dx fs ⟨rfl,s1 _ _ B.hp,B.lm _ (by simp),NL p _ zs r k z3 zE ⟨rfl,bkOk.same bk s1,l4,?_⟩⟩)
 have ha1:ma K H1 fo (.ref a) pr:=⟨a,vs,rfl,SqP.keep s1 ha,no na,L2.Paired.Q1 hand fun u x ⟨b,e,q,n⟩=>⟨b,e,q.imp (fun z=>s1.seq z) fun z=>uK s1 z,n⟩⟩
 refine NF rfl (NJ p B1 dx fs _ ⟨rfl,s1 _ _ B.hp,T.cl,T.n_office,B.lo,NH po dxo fso ⟨rfl,s1 _ _ h1,lmo _ (by simp),NF rfl (NL po (.ref a) fo zs r z3 pr ⟨rfl,ofOk.same B.of s1,ha1,gr,l12,l60,fun fo' H2 ff sb of2=>?_⟩)⟩⟩)
 have sb2:yO fo H H2:=fun b o e n=>sb _ _ (s1 _ _ e) n
 have lu:=xq B.ds
 refine NF rfl (NJ p B1 dx fs _ ⟨rfl,sb2 _ _ B.hp B.npo,T.cl,T.n_done,B.ld,.inl ⟨rfl,_,SqL.of (sb2 _ _ B.hd B.ndn)⟩,?_⟩)
 refine(NF rfl ⟨(NB 2),fun t ht=>(NH pd us _ ⟨rfl,rfl,zH ht _ _ _ (sb2 _ _ B.hd B.ndn),zp (by lia),?_⟩)⟩)
 have s3:=zH ht (.tup [V.str "write",V.int ((z3.length:Int)+1)])
 have et:upd H2 t (.tup [V.str "write",V.int ((z3.length:Int)+1)]) t=some (.tup (yQ (none,(z3.length:Int)+1))):=zM
 have sb3:yO fo H (upd H2 t (.tup [V.str "write",V.int ((z3.length:Int)+1)])):=fun b o e n=>s3 _ _ (sb2 _ _ e n)
 have of3:=ofOk.same of2 s3
 obtain⟨g1,g2⟩:=ZC B sb3 of3 (fun b m=>(ff b m).imp id fun z=>s1.free z) et (by rw[bF];lia) ⟨by show(1:Int)<=z3.length+1;lia,by show((z3.length:Int)+1)<=_;rw[bF];exact hE _⟩ l4
 refine NF rfl (q (p::dx::pd::fo') _ (fun b hb=>?_) g1 g2)
 rcases bI.mp hb with rfl|hb
 ·exact .inl (by simp)
 rcases bI.mp hb with rfl|hb
 ·exact .inl (by simp)
 rcases bI.mp hb with rfl|hb
 ·exact .inl (by simp)
 exact(ff b hb).imp (fun z=>by simp[z]) fun z=>s1.free z
theorem Zf(d:Deed)(rd n:Int):ya (yQ d) (yQ (some rd,n))=decide (d=(some rd,n)):=by
 obtain⟨a,m⟩:=d
 cases a with
 | none=>
  rw[Pt (fun e=>by cases e)]
  rfl
 | some r=>
  show(eqV (.str "deliver") (.str "deliver") && (eqV (.int r) (.int rd) && (eqV (.int m) (.int n) && true)))=_
  rw[ro rfl,kF,lE,cX,bX,Pp]
  show(r == rd)=true/\(m == n)=true↔_
  rw[Oj,Oj]
  exact⟨fun h=>by rw[h.1,h.2],fun h=>by cases h;exact⟨rfl,rfl⟩⟩
theorem Tt(zE:List Deed)(rd n:Int):(!(zE.map yQ).any fun ys=>ya ys (yQ (some rd,n)))=decide (((some rd,n):Deed)∉zE):=by
 rw[jZ,cX,j0,Pp,lF]
 refine⟨fun h m=>h _ m ?_,fun h d hd e=>h ?_⟩
 ·show ya _ _=true
  rw[Zf]
  exact Pq rfl
 ·have e':ya (yQ d) (yQ (some rd,n))=true:=e
  rw[Zf] at e'
  rw[<- Px e']
  exact hd
theorem Xp(d:Deed):(yQ d).all yJ=true:=by
 obtain⟨a,m⟩:=d
 cases a<;>rfl
theorem Pb{B1 A6:Addr}(M:Bl mg)(T:TxBook K mg B1)(F:Fun K "deliver" "Book.deliver" om f fd)(C2:D5 P w K mg base 1 A6 "issue" ub (tV (OfD K A6)))
  (B3:D5 P w K mg base 1 B1 "refuse_unknown_reader" r9 (pY (BkD K B1 A6))) (B5:D5 P w K mg base 1 B1 "refuse_further_deed" sy (qR (BkD K B1 A6))) :
  B2 P w K mg base CX0 5 f fd oh (iN (BkD K B1 A6)):=by
 have nd:=dh.nd
 refine F.ok dh ?_ ?_
 ·rintro _ _ _ _⟨_,_,_,_,_,_,_,_,_,rfl,_⟩
  rfl
 rintro _ _ _ _ H vs Q E hr⟨p,fp,zs,r,k,z3,zE,rd,n,rfl,bk,r1,r2,n1,n2,l4,q⟩
 have hu:=vN hr
 refine⟨_,(zN (yB (xV C2 (rm hr) (zt (pv 0) rfl) (z9 (pv 2) zD))) (zN (yB (xV B3 (rm hr) (pv 0) (z9 (pv 1) zD))) (zN (yB (wH B5 (rm hr) (pv 0))) (zN (zW (i:=3) nd rfl (NC rfl) (yH (z9 (vI rfl M.DELIVER) (z9 (pv 1) (z9 (pv 2) zD))))) (zN (zW (i:=4) nd rfl (NC rfl) (vW (RY hu) (pv 3) (zt (pv 0) rfl) (by with_unfolding_all rfl))) (zN (yB (yq cA cB cE xP (zt (pv 0) rfl) (z9 (pv 3) zD))) (zJ (zR (pv 4))))))))),?_⟩
 obtain⟨dx,po,pd,fs,fo,us,rfl,B⟩:=id bk
 obtain⟨dxo,pno,plo,fso,xso,efo,h1,h2,h3,h4,l1,l2,l3,lmo,_⟩:=id B.of
 refine NF rfl (NJ p B1 dx fs _ ⟨rfl,B.hp,T.cl,T.n_office,B.lo,NH po dxo fso ⟨rfl,h1,lmo _ (by simp),NF rfl (NK po fo zs r z3 n ⟨rfl,B.of,n1,n2,fun v H1 s1 _=>?_⟩)⟩⟩)
 have bk1:=bkOk.same bk s1
 refine NF rfl (NH p dx fs ⟨rfl,s1 _ _ B.hp,B.lm _ (by simp),NF rfl (NM p _ zs r k z3 zE rd ⟨rfl,bk1,r1,r2,?_⟩)⟩)
 refine NF rfl (NH p dx fs ⟨rfl,s1 _ _ B.hp,B.lm _ (by simp),NL p _ zs r k z3 zE ⟨rfl,bk1,l4,?_⟩⟩)
 refine NF rfl (NF rfl ⟨(NB 3),fun t ht=>?_⟩)
 have s2:=s1.trans (zH ht (.tup [V.str "deliver",V.int rd,V.int n]))
 have et:upd H1 t (.tup [V.str "deliver",V.int rd,V.int n]) t=some (.tup (yQ (some rd,n))):=zM
 generalize upd H1 t (.tup [V.str "deliver",V.int rd,V.int n])=H2 at s2 et
 have lu:=xq B.ds
 have zQ:Paired (fun u ys=>∃b,u=.ref b/\SqT K H2 b ys/\ys.all yJ=true) us (zE.map yQ):=by
  have go:∀{us:AK}{zE:List Deed},Paired (yb H) us zE->Paired (fun u ys=>∃b,u=.ref b/\SqT K H2 b ys/\ys.all yJ=true) us (zE.map yQ):=by
   intro us zE h
   induction h with
   | nil=>exact .nil
   | cons h t ih=>
    obtain⟨b,e,q⟩:=h
    exact .cons ⟨b,e,SqT.of (s2 _ _ q),Xp _⟩ ih
  exact go B.ds
 refine NF rfl (NF rfl (NJ p B1 dx fs _ ⟨rfl,s2 _ _ B.hp,T.cl,T.n_done,B.ld,NJ t pd _ us _ ⟨rfl,rfl,SqT.of et,Xp _,SqL.of (s2 _ _ B.hd),zQ,?_⟩⟩))
 rw[Tt]
 refine NF rfl (NJ p B1 dx fs _ ⟨rfl,s2 _ _ B.hp,T.cl,T.n_done,B.ld,.inl ⟨rfl,_,SqL.of (s2 _ _ B.hd)⟩,NF rfl (NH pd us _ ⟨rfl,rfl,s2 _ _ B.hd,zp (by lia),?_⟩)⟩)
 obtain⟨g1,g2⟩:=ZC B (.of s2) (ofOk.same B.of s2) (fun b m=>.inl m) et (bG _) ⟨n1,n2⟩ l4
 exact NF rfl (q _ g1 g2)
theorem mN{xs:AK}{k:Nat}(h:k<=xs.length):K0 xs none (some (k:Int))=xs.take k:=by
 unfold K0
 have e1:HT.sIx xs.length 0 none=0:=rfl
 have e2:HT.sIx xs.length xs.length (some (k:Int))=k:=by
  rw[HT.ra,jQ h]
 rw[e1,e2,gC,j8]
theorem rh{H:Hp}:∀{us:AK}{zE:List Deed},Paired (yb H) us zE->∀(c i:Nat) (u:V),(us.take c)[i]? = some u->∃d,(zE.take c)[i]? = some d/\yb H u d:=by
 intro us zE h
 induction h with
 | nil=>intro c i u e;rw[List.take_nil] at e;simp at e
 | cons h t ih=>
  intro c i u e
  cases c with
  | zero=>simp at e
  | succ c=>
   rw[jL] at e ⊢
   cases i with
   | zero=>
    simp at e
    subst e
    exact NF rfl h
   | succ i=>
    obtain⟨d,q1,q2⟩:=ih c i u (by simpa using e)
    exact⟨d,by simpa using q1,q2⟩
theorem Ut(d:Deed)(rd:Int):ya ((yQ d).take 2) [.str "deliver",.int rd]=decide (d.1=some rd):=by
 obtain⟨a,m⟩:=d
 cases a with
 | none=>
  rw[Pt (fun e=>by cases e)]
  rfl
 | some r=>
  show(eqV (.str "deliver") (.str "deliver") && (eqV (.int r) (.int rd) && true))=_
  rw[ro rfl,kF,lE,cX,Pp]
  show(r == rd)=true↔_
  rw[Oj]
  exact⟨fun h=>by rw[h],fun h=>Option.some.inj h⟩
theorem jm{B1 A6 A0 T0:Addr}{zB:AI}(M:Bl mg)(T:TxBook K mg B1)(TO:TxOffice K mg A6)(F:R3 K "shelf" "Book.shelf" oA f fd T0 zB)(C2:D5 P w K mg base 1 A6 "issue" ub (tV (OfD K A6)))
  (B3:D5 P w K mg base 1 B1 "refuse_unknown_reader" r9 (pY (BkD K B1 A6))) (P9:Mkr P w K mg base 3 A0 "Shelf" nA (YV K A0 (ShD K A0)))
  (K5:D5 P w K mg base 1 A0 "put" p0 (aM (ShD K A0))):B2 P w K mg base CX0 6 f fd uV (tY (BkD K B1 A6) (ShD K A0)):=by
 have nd:=iZ.nd
 refine F.ok iZ ?_ ?_
 ·rintro _ _ _ _⟨_,_,_,_,_,_,_,_,_,rfl,_⟩
  rfl
 rintro _ _ _ _ H vs Q E hr⟨p,fp,zs,r,k,z3,zE,rd,o,rfl,bk,r1,r2,od,q⟩
 refine⟨_,(zN (zW (i:=3) nd rfl (NC rfl) (vt (vA (vP (pv 2))) (zb zo rfl M.len bO (z9 (zt (pv 0) rfl) zD)) (pv 2))) (zN (ze (PW.pt (xX (zZ wA (pv 3) zL (za _)) (xb (zZ xA (pv 3) (zb zo rfl M.len bO (z9 (zt (pv 0) rfl) zD)) (za _))))) (zJ xg) zf) (zN (yB (xV B3 (rm hr) (pv 0) (z9 (pv 1) zD))) (zN (zW (i:=4) nd rfl (NC rfl) (mZ P9 (rm hr) rfl (z9 (zt (zt (pv 0) rfl) rfl) (z9 (zt (zt (pv 0) rfl) rfl) zD)))) (zN (y9 c6 rfl (xG (wu lX (zt (pv 0) rfl) wg (wt (pv 3)))) (zd (i:=5) nd rfl (NC rfl)) (zJ (ze (zZ (mS hr.O8) (wu ZV (pv 5) wg (wt zL)) (yH (z9 (vI rfl M.DELIVER) (z9 (pv 1) zD))) (za _)) (zJ (yB (xV K5 (rm hr) (pv 4) (z9 (xV C2 (rm hr) (zt (pv 0) rfl) (z9 (zh y8 (pv 5) zL (fun _ _=>rfl)) zD)) zD)))) zf))) (zJ (zR (pv 4)))))))),?_⟩
 obtain⟨dx,po,pd,fs,fo,us,rfl,B⟩:=id bk
 obtain⟨dxo,pno,plo,fso,xso,efo,h1,h2,h3,h4,l1,l2,l3,lmo,_,_,_,g,r0,r10⟩:=id B.of
 have lu:=xq B.ds
 have cle:o.getD zE.length<=zE.length:=by
  cases o with
  | none=>exact bG _
  | some d=>exact od d rfl
 have beh:∀(Qk:VK),Qk (.int (o.getD zE.length:Nat)) H->tIf (tB (tIsN (T8 2))) (tCB (fun xs H_1 Q=>∃p ys,xs=[V.ref p]/\(SqL K H_1 p ys\/SqT K H_1 p ys)/\Q (V.int ys.length) H_1) (mI (Y7 K (T8 0) "done") U8)) (T8 2) (xS ["self","reader","deed","behind","told","past"] [.ref p,.int rd,dedV o]) H Qk:=fun Qk hq=>by
  cases o with
  | none=>
   refine NF rfl (NF rfl (F3 (NF rfl (NJ p B1 dx fs _ ⟨rfl,B.hp,T.cl,T.n_done,B.ld,NG pd us ⟨rfl,.inl (SqL.of B.hd),?_⟩⟩))))
   rw[lu]
   exact hq
  | some d=>exact⟨_,rfl,_,rfl,C1 ⟨_,rfl,hq⟩⟩
 refine beh _ ?_
 generalize o.getD zE.length=c at cle q
 clear beh
 refine(NF rfl (NG _ _ ⟨rfl,rfl,(NF rfl (C0 (fun q=>ND (zx q) (by lia)) fun _=>(NF rfl (NF rfl (NJ p B1 dx fs _ ⟨rfl,B.hp,T.cl,T.n_done,B.ld,(NG pd us ⟨rfl,.inl (SqL.of B.hd),(NG _ _ ⟨rfl,rfl,(NF rfl (C0 (fun q=>ND (zx q) (by lia)) fun _=>?_))⟩)⟩)⟩)))))⟩))
 refine NF rfl (NH p dx fs ⟨rfl,B.hp,B.lm _ (by simp),NF rfl (NM p _ zs r k z3 zE rd ⟨rfl,bk,r1,r2,?_⟩)⟩)
 refine NF rfl (NJ p B1 dx fs _ ⟨rfl,B.hp,T.cl,T.n_office,B.lo,NJ po A6 dxo fso _ ⟨rfl,h1,TO.cl,TO.n_names,l1,NF rfl (NJ p B1 dx fs _ ⟨rfl,B.hp,T.cl,T.n_office,B.lo,(NJ po A6 dxo fso _ ⟨rfl,h1,TO.cl,TO.n_reach,l2,fun x dxs nx ndx ne=>?_⟩)⟩)⟩⟩)
 have m1:=qC (C:=A0) (B0.refl H) nx ndx
 refine(NJ x dxs pno zs r ⟨rfl,zM,ne,by rw[zS ne,zM],.inr (m1 _ _ h3),g,r0,r10,fun fq H1 ff sb sh=>⟨rfl,?_⟩⟩)
 have s1:B0 H H1:=qY sb m1 nx
 have f1:∀b∈fq,H b=none:=fun b hb=>pE m1 nx ndx (ff b hb)
 have sh1:ShD K A0 H1 x fq zs r (fun n=>yE z3 n r) []:=sh _
 refine NF rfl (NJ p B1 dx fs _ ⟨rfl,s1 _ _ B.hp,T.cl,T.n_done,B.ld,NF rfl (NF rfl (NG pd _ ⟨rfl,SqL.of (s1 _ _ B.hd),fun lq hlq=>?_⟩))⟩)
 rw[mN (by lia)]
 have s2:=s1.trans (zH hlq (.lst (us.take c)))
 have e2:upd H1 lq (.lst (us.take c)) lq=some (.lst (us.take c)):=zM
 have sh2:=shOk.same sh1 (zH hlq (.lst (us.take c)))
 have f2:lq∉fq:=fun m=>by
  obtain⟨o,e,_⟩:=shOk.own sh1 lq m
  rw[hlq] at e
  cases e
 generalize upd H1 lq (.lst (us.take c))=H2 at s2 e2 sh2
 have nt2:xY H2 fq:=shOk.noTup sh2
 have out:∀{b:Addr}{o:HO},H b=some o->b∉fq:=fun e m=>by rw[f1 _ m] at e;cases e
 have lt:(us.take c).length=c:=by rw[bL];lia
 refine⟨lq,rfl,⟨_,SqL.of e2⟩,xv (K:=K) (a:=lq) (xs:=us.take c) (fun i σ H'=>∃(fq':List Addr) (o5:Option V),yO fq H2 H'/\ShD K A0 H' x fq' zs r (fun n=>yE z3 n r) (gotL ((zE.take c).take i) rd)/\(∀b∈fq',b∈fq\/H2 b=none)/\
   σ=[some (.ref p),some (.int rd),some (dedV o),some (.int c),some (.ref x),o5]) ⟨fq,none,.of (B0.refl _),sh2,fun b m=>.inl m,rfl⟩ (fun i σ H' _ ⟨_,_,bt,_⟩=>SqL.of (bt _ _ e2 f2)) ?_ ?_⟩
 ·rintro i u σ H' hi ⟨fq',o5,bt,shx,ffx,rfl⟩
  obtain⟨d,ed,b,rfl,hb⟩:=rh B.ds c i u hi
  have sk:∀{b:Addr}{o:HO},H b=some o->H' b=some o:=fun e=>bt _ _ (s2 _ _ e) (out e)
  have hin:=B.in1 d (eX (bH ed))
  have l2d:2<=(yQ d).length:=by
   obtain⟨a,m⟩:=d
   cases a
   ·show 2<=2;decide
   ·show 2<=3;decide
  have cut:∀(Qk:VK),(∀(t1:Addr) (G:Hp),B0 H' G->G t1=some (.tup ((yQ d).take 2))->Qk (.ref t1) G)->rSlA K (.ref b) none (some 2) H' Qk:=fun Qk hq=>by
   refine(NG b _ ⟨rfl,SqT.of (sk hb),fun hw=>hq b H' (B0.refl _) ?_,fun _ t1 ht1=>hq t1 _ (zH ht1 _) ?_⟩)
   ·rw[sk hb,cN]
    have:=hw.2
    have e:HT.sIx (yQ d).length (yQ d).length (some (2:Int))=min 2 (yQ d).length:=HT.ra _ _ 2
    lia
   ·rw[zM]
    exact Pu (fun z=>some (HO.tup z)) (mN (k:=2) l2d)
  refine(NF rfl (NF rfl (cut _ fun t1 G sG e1'=>(NF rfl ⟨(NB 2),fun t2 ht2=>?_⟩))))
  have s3:=sG.trans (zH ht2 (.tup [V.str "deliver",V.int rd]))
  have e3:upd G t2 (.tup [V.str "deliver",V.int rd]) t1=some (.tup ((yQ d).take 2)):=zH ht2 _ _ _ e1'
  have e4:upd G t2 (.tup [V.str "deliver",V.int rd]) t2=some (.tup [V.str "deliver",V.int rd]):=zM
  generalize upd G t2 (.tup [V.str "deliver",V.int rd])=H3 at s3 e3 e4
  have fl:((yQ d).take 2).all yJ=true:=by
   obtain⟨a,m⟩:=d
   cases a<;>rfl
  refine NI t1 t2 _ _ ⟨rfl,rfl,SqT.of e3,SqT.of e4,fl,rfl,NF rfl ?_⟩
  rw[Ut,zq ed,Xs]
  have sh3:=shOk.same shx s3
  refine C0 (fun cc=>?_) (fun cc=>?_)
  ·have c':=zx cc
   rw[Po c']
   obtain⟨a,n⟩:=d
   have ea:a=some rd:=c'
   subst ea
   obtain⟨d1,g1,z1,w1⟩:=shOk.ins sh3
   refine NF rfl (NH x d1 g1 ⟨rfl,z1,w1 _ (by simp),NF rfl (NJ p B1 dx fs _ ⟨rfl,s3 _ _ (sk B.hp),T.cl,T.n_office,B.lo,NH po dxo fso ⟨rfl,s3 _ _ (sk h1),lmo _ (by simp),NF rfl (NI b _ 2 _ ⟨rfl,rfl,SqT.of (s3 _ _ (sk hb)),rfl,(NK po fo zs r z3 n ⟨rfl,?_,hin.1,hin.2,fun v H4 s4 tv=>?_⟩)⟩)⟩⟩)⟩)
   ·exact ofOk.same (ofOk.keep (ofOk.same B.of s2) bt (fun b m z=>by
     obtain⟨o,e,_⟩:=ofOk.own B.of b z
     exact out e m) nt2) s3
   have n60:z3.length<=60:=by
    obtain⟨_,_,_,_,_,_,_,_,_,_,_,_,_,_,_,n60,_⟩:=B.of
    exact n60
   refine(NN x v fq' zs r _ _ n _ ⟨rfl,shOk.same sh3 s4,tv,rfl,hin.1,by have:=hin.2;have:n<=z3.length:=this;lia,fun fq2 H5 ff5 sb5 sh5=>?_⟩)
   have g4:=s3.trans s4
   exact⟨fq2,_,(fun b o e nb=>sb5 b o (g4 _ _ (bt b o e nb)) fun m=>(ffx b m).elim nb fun z=>by rw[e] at z;cases z),sh5,Zt bt ffx g4 ff5,rfl⟩
  ·have c':=wN cc
   rw[Pn c']
   exact⟨fq',_,fun b o e nb=>s3 _ _ (bt b o e nb),sh3,ffx,rfl⟩
 ·rintro σ H' ⟨fq',o5,bt,shx,ffx,rfl⟩
  rw[lt,List.take_take,Nat.min_self] at shx
  exact NF rfl (q x fq' H' (fun b m=>(ffx b m).elim (f1 b) fun z=>s2.free z) (fun b o e=>bt _ _ (s2 _ _ e) (out e)) shx)
noncomputable def HT(H:Hp)(u:V)(p:Str×Int):Prop:=∃b,u=.ref b/\H b=some (.tup [.str p.1,.int p.2])
theorem HT.keep{H H':Hp}(g:B0 H H'):∀{us:AK}{pr:Row},Paired (HT H) us pr->Paired (HT H') us pr
 | _,_,.nil=>.nil
 | _,_,.cons ⟨b,e,h⟩ t=>.cons ⟨b,e,g _ _ h⟩ (HT.keep g t)
theorem HT.hand{K:AA}{H:Hp}{fp:List Addr}(no:xY H fp):∀{us:AK}{pr:Row},Paired (HT H) us pr->Paired (rb K H fp) us pr
 | _,_,.nil=>.nil
 | _,_,.cons ⟨b,e,h⟩ t=>.cons ⟨b,e,.inr (SqT.of h),fun m=>no b m _ h⟩ (HT.hand no t)
theorem ki{H:Hp}:∀{w:Row}{xs:AK},zF H (w.map wX) xs->Paired (HT H) xs w
 | [],xs,h=>by
  rw[xx h]
  exact .nil
 | p::w,xs,h=>by
  obtain⟨x,r,rfl,t,h'⟩:=yM h
  obtain⟨a,us,rfl,ea,_,tu⟩:=zr (show Tell H (.tup [.str p.1,.int p.2]) x from t)
  obtain⟨y1,r1,rfl,t1,h3⟩:=yM tu
  obtain⟨y2,r2,rfl,t2,h4⟩:=yM h3
  have:=xx h4
  subst this
  rw[sW t1,wz t2] at ea
  exact .cons ⟨a,rfl,ea⟩ (ki h')
noncomputable def lj(Sh:ShP):Sp:=fun vs H Q _=>∃(x:Addr) (fp:List Addr) (nm:AF) (r:Int) (z3:AL) (zA:AJ),vs=[.ref x]/\Sh H x fp nm r (fun n=>yE z3 n r) zA/\GoodN nm/\Rws nm z3/\z3.length<=60/\(∀n∈zA,1<=n/\n<=z3.length)/\0<=r/\r<=10/\
 ∀(v:V) (H':Hp),B0 H H'->Tell H' (.tup (v9 (zG zA) z3 r)) v->Q v H'
noncomputable def ah(K:AA):Sp:=fun vs H Q _=>∃(p:Addr) (ns:AJ),vs=[.ref p]/\SqI K H p ns/\(∀x∈ns,1<=x/\x<=60)/\
 ∀(l:Addr) (H':Hp),H l=none->B0 H H'->H' l=some (.tup ((zz ns).map V.int))->Q (.ref l) H'
theorem Va(M:Bl mg)(F:Fun K "lacking_numbers" "lacking_numbers" nY f fd):B2 P w K mg base CX0 1 f fd nV (ah K):=by
 have nd:=bp.nd
 refine F.ok bp ?_ ?_
 ·rintro _ _ _ _⟨_,_,rfl,_⟩
  rfl
 rintro _ _ _ _ H vs Q E hr⟨p,ns,rfl,hS,D4,q⟩
 refine⟨_,(zN (zW (i:=1) nd rfl (NC rfl) (YA rfl rfl M.max (z9 (pv 0) zD) (rW zL rK))) (zJ (zR (yD ym rfl M.tuple bS (z9 (xH ["number"] ["had"] [0] rfl (yY rfl (by decide +kernel) rfl (by decide +kernel) rfl rfl) (Xc rfl M.range (z9 zL (z9 (zP yS (pv 1) zL) zD))) (fun _ _ _ _ _=>(zd (i:=0) (show((["number"]:List PySem.Str)++(["had"]:List PySem.Str)).Nodup from by decide +kernel) rfl (NC rfl))) (yG (by decide)) zl (fun _ _ _ _ _=>(wk (zZ (r:=rIn K true) sX (pv 0) (pv 1) (by with_unfolding_all rfl)))) (fun _ _ _ _ _=>(pv 0))) zD))))),?_⟩
 refine(NF rfl ⟨p,ns,.int 0,rfl,rfl,hS,fun hnil=>?_,fun m hm top=>?_⟩)
 ·subst hnil
  refine NF rfl (NG _ _ ⟨rfl,rfl,(NG _ _ ⟨rfl,⟨by decide,by decide,by decide,by decide⟩,?_⟩)⟩)
  refine rS (lo:=1) (n:=0) (fun _=>true) (fun k=>.int k) (by decide) (fun k ys N k0 k1 hN=>by lia) ?_
  intro D hD
  refine(NG D _ ⟨rfl,.inl ⟨SqL.of zM,fun l hl=>?_⟩⟩)
  have h1:H l=none:=(zH hD _).free hl
  refine q l _ h1 ((zH hD _).trans (zH hl _)) ?_
  rw[zM,SA]
  rfl
 ·have hm':=D4 m hm
  refine NF rfl (NG _ _ ⟨rfl,rfl,(NG _ _ ⟨rfl,⟨by decide,by decide,by lia,by lia⟩,?_⟩)⟩)
  refine rS (lo:=1) (n:=(m+1-1).toNat) (fun k=>!decide (k∈ns)) (fun k=>.int k) (by lia) (fun k ys N k0 k1 hN=>?_) ?_
  ·refine NF rfl (NF rfl (NG p _ ⟨rfl,hS,rfl,XQ ns,NF rfl ?_⟩))
   rw[Po rfl,YY]
   refine C0 (fun c=>?_) (fun c=>?_)
   ·rw[Po c] at hN
    exact NF rfl hN
   ·rw[Pn c] at hN
    exact hN
  ·intro D hD
   refine(NG D _ ⟨rfl,.inl ⟨SqL.of zM,fun l hl=>?_⟩⟩)
   have h1:H l=none:=(zH hD _).free hl
   refine q l _ h1 ((zH hD _).trans (zH hl _)) ?_
   rw[zM]
   have e:yi (fun k=>!decide (k∈ns)) (fun k=>V.int k) (upI 1 (m+1-1).toNat)=(zz ns).map V.int:=by
    unfold yi
    rw[Sw hm D4 top]
   rw[e]
noncomputable def YZ(K:AA):Sp:=fun vs H Q _=>∃(p:Addr) (ns:AJ) (n r:Int),vs=[.ref p,.int n,.int r]/\SqI K H p ns/\(∀x∈ns,1<=x/\x<=60)/\ns.length<=900/\
 ∀H',B0 H H'->Q (.int (zy ns n r)) H'
theorem Sn(M:Bl mg)(F:Fun K "teller_of" "teller_of" qi f fd):B2 P w K mg base CX0 1 f fd qr (YZ K):=by
 have nd:=iC.nd
 refine F.ok iC ?_ ?_
 ·rintro _ _ _ _⟨_,_,_,_,rfl,_⟩
  rfl
 rintro _ _ _ _ H vs Q E hr⟨p,ns,n,r,rfl,hS,D4,zU,q⟩
 have fin:∀D,H D=none->(yi (fun y=>decide (n<y) && decide (y-r<=n)) (fun y=>V.int y) ns=(ns.filter fun y=>decide (n<y) && decide (y-r<=n)).map V.int):=fun _ _=>rfl
 have W3:(ns.filter fun y=>decide (n<y) && decide (y-r<=n))=[]->zy ns n r=0:=fun e=>QY fun y hy h1 h2=>by
  have:y∈ns.filter fun y=>decide (n<y) && decide (y-r<=n):=cG.mpr ⟨hy,by rw[Pq h1,Pq h2];rfl⟩
  rw[e] at this
  cases this
 have W8:∀m,m∈(ns.filter fun y=>decide (n<y) && decide (y-r<=n))->(∀y∈(ns.filter fun y=>decide (n<y) && decide (y-r<=n)),m<=y)->zy ns n r=m:=fun m hm hl=>by
  rw[cG,bX,Pp,Pp] at hm
  exact Uo D4 hm.1 hm.2.1 hm.2.2 fun y hy h1 h2=>hl y (cG.mpr ⟨hy,by rw[Pq h1,Pq h2];rfl⟩)
 rcases hS with hS|hS
 ·refine⟨_,(zN (vX (i:=3) ["above"] ["number","reach"] [1,2] rfl nd rfl (NC rfl) (yY rfl (by decide +kernel) rfl (by decide +kernel) rfl rfl) (xG (pv 0)) (fun _ _ _ _ _=>(zd (i:=0) (show((["above"]:List PySem.Str)++(["number","reach"]:List PySem.Str)).Nodup from by decide +kernel) rfl (NC rfl))) (yG (by decide)) zl (fun _ _ _ _ _=>(wk (PW.pt (wc (zZ xA (pv 0) (pv 1) (za _)) (vF (zZ aE (zP yu (pv 0) (pv 2)) (pv 1) (za _))))))) (fun _ _ _ _ _=>(pv 0))) (zJ (zR (Zk rfl rfl M.min (z9 (pv 3) zD) (rW zL rK))))),?_⟩
  refine NF rfl ⟨p,rfl,⟨_,hS⟩,?_⟩
  refine SO (ns:=ns) (fun y=>decide (n<y) && decide (y-r<=n)) (fun y=>.int y) hS (by lia) (fun y ys N hy hN=>?_) (fun D hD=>?_)
  ·refine NF rfl (NF rfl (NG _ _ ⟨rfl,rfl,NF rfl ?_⟩))
   refine C0 (fun c=>?_) (fun c=>?_)
   ·refine NF rfl (NF rfl (NG _ _ ⟨rfl,rfl,NF rfl (NG _ _ ⟨rfl,rfl,NF rfl ?_⟩)⟩))
    rw[c,kF] at hN
    refine C0 (fun c2=>?_) (fun c2=>?_)
    ·rw[Po c2] at hN
     exact NF rfl hN
    ·rw[Pn c2] at hN
     exact hN
   ·rw[j4.mpr c,Bool.false_and] at hN
    exact C1 hN
  ·refine(NF rfl ⟨D,_,.int 0,rfl,rfl,.inl (SqL.of zM),fun e=>?_,fun m hm hl=>?_⟩)
   ·have:=q _ (zH hD (.lst (yi (fun y=>decide (n<y) && decide (y-r<=n)) (fun y=>V.int y) ns)))
    rw[W3 e] at this
    exact this
   ·have:=q _ (zH hD (.lst (yi (fun y=>decide (n<y) && decide (y-r<=n)) (fun y=>V.int y) ns)))
    rw[W8 m hm hl] at this
    exact this
 ·refine⟨_,(zN (vX (i:=3) ["above"] ["number","reach"] [1,2] rfl nd rfl (NC rfl) (yY rfl (by decide +kernel) rfl (by decide +kernel) rfl rfl) (yt (pv 0)) (fun _ _ _ _ _=>(zd (i:=0) (show((["above"]:List PySem.Str)++(["number","reach"]:List PySem.Str)).Nodup from by decide +kernel) rfl (NC rfl))) (yG (by decide)) zl (fun _ _ _ _ _=>(wk (PW.pt (wc (zZ xA (pv 0) (pv 1) (za _)) (vF (zZ aE (zP yu (pv 0) (pv 2)) (pv 1) (za _))))))) (fun _ _ _ _ _=>(pv 0))) (zJ (zR (Zk rfl rfl M.min (z9 (pv 3) zD) (rW zL rK))))),?_⟩
  refine NF rfl ⟨p,rfl,⟨_,hS⟩,?_⟩
  refine i7 (ns:=ns) (fun y=>decide (n<y) && decide (y-r<=n)) (fun y=>.int y) hS (by lia) (fun y ys N hy hN=>?_) (fun D hD=>?_)
  ·refine NF rfl (NF rfl (NG _ _ ⟨rfl,rfl,NF rfl ?_⟩))
   refine C0 (fun c=>?_) (fun c=>?_)
   ·refine NF rfl (NF rfl (NG _ _ ⟨rfl,rfl,NF rfl (NG _ _ ⟨rfl,rfl,NF rfl ?_⟩)⟩))
    rw[c,kF] at hN
    refine C0 (fun c2=>?_) (fun c2=>?_)
    ·rw[Po c2] at hN
     exact NF rfl hN
    ·rw[Pn c2] at hN
     exact hN
   ·rw[j4.mpr c,Bool.false_and] at hN
    exact C1 hN
  ·refine(NF rfl ⟨D,_,.int 0,rfl,rfl,.inl (SqL.of zM),fun e=>?_,fun m hm hl=>?_⟩)
   ·have:=q _ (zH hD (.lst (yi (fun y=>decide (n<y) && decide (y-r<=n)) (fun y=>V.int y) ns)))
    rw[W3 e] at this
    exact this
   ·have:=q _ (zH hD (.lst (yi (fun y=>decide (n<y) && decide (y-r<=n)) (fun y=>V.int y) ns)))
    rw[W8 m hm hl] at this
    exact this
def Pr(H:Hp)(u:V)(p:Int×Int):Prop:=∃a,u=.ref a/\H a=some (.tup [.int p.1,.int p.2])
theorem Pr.keep{H H':Hp}(s:B0 H H'){u:V}{p:Int×Int}(h:Pr H u p):Pr H' u p:=let ⟨a,e,q⟩:=h;⟨a,e,s _ _ q⟩
abbrev Prs(H:Hp):AK->List (Int×Int)->Prop:=Paired (Pr H)
theorem Prs.keep{H H':Hp}(s:B0 H H'):∀{xs:AK}{ps:List (Int×Int)},Prs H xs ps->Prs H' xs ps
 | _,_,.nil=>.nil
 | _,_,.cons r t=>.cons (r.keep s) (Prs.keep s t)
theorem Prs.get{H:Hp}:∀{xs:AK}{ps:List (Int×Int)},Prs H xs ps->∀(i:Nat) (u:V),xs[i]? = some u->∃p,ps[i]? = some p/\Pr H u p
 | _,_,.nil,i,u,e=>by simp at e
 | _,_,.cons r t,0,u,e=>by
  simp at e
  subst e
  exact NF rfl r
 | _,_,.cons r t,i+1,u,e=>by
  obtain⟨p,h1,h2⟩:=Prs.get t i u (by simpa using e)
  exact⟨p,by simpa using h1,h2⟩
theorem Prs.snoc{H:Hp}{xs:AK}{ps:List (Int×Int)}{u:V}{p:Int×Int}(h:Prs H xs ps)(q:Pr H u p):Prs H (xs++[u]) (ps++[p]):=jJ h q
theorem Prs.len{H:Hp}:∀{xs:AK}{ps:List (Int×Int)},Prs H xs ps->xs.length=ps.length
 | _,_,.nil=>rfl
 | _,_,.cons _ t=>by rw[bW,bW,Prs.len t]
noncomputable def lwtL(ns:AJ)(r:Int):List (Int×Int):=(zz ns).map fun n=>(n,zy ns n r)
noncomputable def zj(ns:AJ)(r:Int):AJ:=((lwtL ns r).filter fun q=>decide (q.2=0)).map Prod.fst
noncomputable def mM(K:AA):Sp:=fun vs H Q _=>∃(p:Addr) (ns:AJ) (r:Int),vs=[.ref p,.int r]/\SqI K H p ns/\(∀x∈ns,1<=x/\x<=60)/\ns.length<=900/\
 ∀(l:Addr) (xs:AK) (H':Hp),B0 H H'->H' l=some (.tup xs)->Prs H' xs (lwtL ns r)->Q (.ref l) H'
theorem Wj(M:Bl mg)(F:Fun K "lacking_with_tellers" "lacking_with_tellers" m9 f fd)(F6:Cal P w K mg base 1 "lacking_numbers" nV (ah K))
  (N4:Cal P w K mg base 1 "teller_of" qr (YZ K)):B2 P w K mg base CX0 2 f fd su (mM K):=by
 have nd:=bq.nd
 refine F.ok bq ?_ ?_
 ·rintro _ _ _ _⟨_,_,_,rfl,_⟩
  rfl
 rintro _ _ _ _ H vs Q E hr⟨p,ns,r,rfl,hS,D4,zU,q⟩
 refine⟨_,(zJ (zR (yD ym rfl M.tuple bS (z9 (xH ["number"] ["had","reach"] [0,1] rfl (yY rfl (by decide +kernel) rfl (by decide +kernel) rfl rfl) (yt (zX F6 (rm hr) rfl (z9 (pv 0) zD))) (fun _ _ _ _ _=>(zd (i:=0) (show((["number"]:List PySem.Str)++(["had","reach"]:List PySem.Str)).Nodup from by decide +kernel) rfl (NC rfl))) (yG (by decide)) zl (fun _ _ _ _ _=>xU) (fun _ _ _ _ _=>(yH (z9 (pv 0) (z9 (zX N4 (rm hr) rfl (z9 (pv 1) (z9 (pv 0) (z9 (pv 2) zD)))) zD))))) zD)))),?_⟩
 refine NF rfl (NG p ns ⟨rfl,hS,D4,fun lt H1 nlt s1 e1=>⟨lt,rfl,⟨_,SqT.of e1⟩,?_⟩⟩)
 have ll:=u5 ns
 refine wI (xs:=(zz ns).map V.int) (fun i ys H'=>B0 H1 H'/\Prs H' ys (((zz ns).take i).map fun n=>(n,zy ns n r))) ⟨B0.refl _,.nil⟩ (fun i ys H' hi hp=>?_) (fun i x ys H' hx hp=>?_) (fun ys H' hp=>?_)
 ·obtain⟨g,pr⟩:=hp
  refine⟨SqT.of (g _ _ e1),zp ?_⟩
  rw[pr.len,bA,bL]
  lia
 ·obtain⟨g,pr⟩:=hp
  rw[bE] at hx
  cases e:(zz ns)[i]? with
  | none=>rw[e] at hx;cases hx
  | some n=>
   rw[e] at hx
   cases hx
   refine NF rfl (NF rfl (NF rfl (NF rfl (NI p ns n r ⟨rfl,SqI.keep (s1.trans g) hS,D4,zU,fun H2 g2=>⟨(NB 2),fun t ht=>?_⟩⟩))))
   refine⟨g.trans (g2.trans (zH ht _)),?_⟩
   rw[zq e,bM]
   exact Prs.snoc (pr.keep (g2.trans (zH ht _))) ⟨t,rfl,zM⟩
 ·obtain⟨g,pr⟩:=hp
  rw[bA,bY] at pr
  intro D hD
  refine(NG D _ ⟨rfl,.inl ⟨SqL.of zM,fun l hl=>?_⟩⟩)
  exact q l ys _ (s1.trans (g.trans ((zH hD _).trans (zH hl _)))) zM (pr.keep ((zH hD _).trans (zH hl _)))
noncomputable def rM(K:AA):Sp:=fun vs H Q _=>∃(p:Addr) (ns:AJ) (r:Int),vs=[.ref p,.int r]/\SqI K H p ns/\(∀x∈ns,1<=x/\x<=60)/\ns.length<=900/\
 ∀(l:Addr) (H':Hp),B0 H H'->H' l=some (.tup ((zj ns r).map V.int))->Q (.ref l) H'
theorem Zw(ns:AJ)(r:Int):(lwtL ns r).length<=60:=by
 unfold lwtL
 rw[bA]
 exact u5 ns
theorem Vz(M:Bl mg)(F:Fun K "dark_numbers" "dark_numbers" oN f fd)(B7:Cal P w K mg base 2 "lacking_with_tellers" su (mM K)):B2 P w K mg base CX0 3 f fd ua (rM K):=by
 have nd:=di.nd
 refine F.ok di ?_ ?_
 ·rintro _ _ _ _⟨_,_,_,rfl,_⟩
  rfl
 rintro _ _ _ _ H vs Q E hr⟨p,ns,r,rfl,hS,D4,zU,q⟩
 refine⟨_,(zJ (zR (yD ym rfl M.tuple bS (z9 (xH ["number","teller"] [] [] rfl (yY rfl (by decide +kernel) rfl (by decide +kernel) rfl rfl) (yt (zX B7 (rm hr) rfl (z9 (pv 0) (z9 (pv 1) zD)))) (fun _ _ _ _ _=>(uH (K:=K) (n:=2) rfl rfl (xI (zd (i:=0) (show((["number","teller"]:List PySem.Str)++([]:List PySem.Str)).Nodup from by decide +kernel) rfl (NC rfl)) (xI (zd (i:=1) (show((["number","teller"]:List PySem.Str)++([]:List PySem.Str)).Nodup from by decide +kernel) rfl (NC rfl)) vC)))) (uI (xu (yG (by decide)) zl (xu (yG (by decide)) zl vk yz) (yn zl yz))) (uN (yn zl (yn zl yz))) (fun _ _ _ _ _=>(wk (zZ yV (pv 1) zL (za _)))) (fun _ _ _ _ _=>(pv 0))) zD)))),?_⟩
 refine NF rfl (NF rfl (NH p ns r ⟨rfl,hS,D4,zU,fun lt xs H1 s1 e1 pr1=>⟨lt,rfl,⟨_,SqT.of e1⟩,?_⟩⟩))
 have ll:=Zw ns r
 have lx:=pr1.len
 refine wI (xs:=xs) (fun i ys H'=>H'=H1/\ys=(((lwtL ns r).take i).filter fun q=>decide (q.2=0)).map fun q=>V.int q.1) ⟨rfl,rfl⟩ (fun i ys H' hi hp=>?_) (fun i x ys H' hx hp=>?_) (fun ys H' hp=>?_)
 ·obtain⟨rfl,rfl⟩:=hp
  refine⟨SqT.of e1,zp ?_⟩
  have h1:=cL (fun q:Int×Int=>decide (q.2=0)) ((lwtL ns r).take i)
  rw[bA]
  rw[bL] at h1
  lia
 ·obtain⟨rfl,rfl⟩:=hp
  obtain⟨⟨n,t⟩,e,a,rfl,ha⟩:=pr1.get i x hx
  refine NG a _ ⟨rfl,SqT.of ha,rfl,NG _ _ ⟨rfl,NG _ _ ⟨rfl,rfl,?_⟩⟩⟩
  refine NF rfl ⟨rfl,NF rfl ?_⟩
  rw[zq e,dS,fB,bM]
  refine C0 (fun c=>?_) (fun c=>?_)
  ·have c':decide (t=0)=true:=Pq (V.int.inj (zx c))
   refine NF rfl ⟨rfl,?_⟩
   rw[Po c']
   rfl
  ·have c':¬decide (t=0)=true:=fun z=>c (Pq (Pu V.int (zx z)))
   refine⟨rfl,?_⟩
   rw[Pn c']
   simp
 ·obtain⟨rfl,rfl⟩:=hp
  rw[lx,bY]
  intro D hD
  refine(NG D _ ⟨rfl,.inl ⟨SqL.of zM,fun l hl=>?_⟩⟩)
  refine q l _ (s1.trans ((zH hD _).trans (zH hl _))) ?_
  rw[zM]
  unfold zj
  rw[eJ]
  rfl
theorem qF(ns:AJ)(r:Int):(zj ns r).length<=60:=by
 have h:=cL (fun q:Int×Int=>decide (q.2=0)) (lwtL ns r)
 have:=Zw ns r
 unfold zj
 rw[bA]
 lia
noncomputable def ye(ns:AJ)(r b:Int):AJ:=(zj ns r).filter fun y=>decide (b<y)
noncomputable def ky(K:AA):Sp:=fun vs H Q _=>∃(p:Addr) (ns:AJ) (r b:Int),vs=[.ref p,.int r,.int b]/\SqI K H p ns/\(∀x∈ns,1<=x/\x<=60)/\ns.length<=900/\
 ∀(l:Addr) (H':Hp),B0 H H'->H' l=some (.tup ((ye ns r b).map V.int))->Q (.ref l) H'
theorem TR(M:Bl mg)(F:Fun K "dark_numbers_behind" "dark_numbers_behind" m6 f fd)(C3:Cal P w K mg base 3 "dark_numbers" ua (rM K)):B2 P w K mg base CX0 4 f fd sj (ky K):=by
 have nd:=bx.nd
 refine F.ok bx ?_ ?_
 ·rintro _ _ _ _⟨_,_,_,_,rfl,_⟩
  rfl
 rintro _ _ _ _ H vs Q E hr⟨p,ns,r,b,rfl,hS,D4,zU,q⟩
 refine⟨_,(zJ (zR (yD ym rfl M.tuple bS (z9 (xH ["number"] ["behind"] [2] rfl (yY rfl (by decide +kernel) rfl (by decide +kernel) rfl rfl) (yt (zX C3 (rm hr) rfl (z9 (pv 0) (z9 (pv 1) zD)))) (fun _ _ _ _ _=>(zd (i:=0) (show((["number"]:List PySem.Str)++(["behind"]:List PySem.Str)).Nodup from by decide +kernel) rfl (NC rfl))) (yG (by decide)) zl (fun _ _ _ _ _=>(wk (zZ xA (pv 0) (pv 1) (za _)))) (fun _ _ _ _ _=>(pv 0))) zD)))),?_⟩
 refine NF rfl (NF rfl (NH p ns r ⟨rfl,hS,D4,zU,fun lt H1 s1 e1=>⟨lt,rfl,⟨_,SqT.of e1⟩,?_⟩⟩))
 have ll:=qF ns r
 refine i7 (ns:=zj ns r) (fun y=>decide (b<y)) (fun y=>.int y) (SqT.of e1) (by lia) (fun y ys N hy hN=>?_) (fun D hD=>?_)
 ·refine NF rfl (NF rfl (NG _ _ ⟨rfl,rfl,NF rfl ?_⟩))
  refine C0 (fun c=>?_) (fun c=>?_)
  ·rw[Po c] at hN
   exact NF rfl hN
  ·rw[Pn c] at hN
   exact hN
 ·exact(NG D _ ⟨rfl,.inl ⟨SqL.of zM,fun l hl=>q l _ (s1.trans ((zH hD _).trans (zH hl _))) zM⟩⟩)
noncomputable def Yv(Sh:ShP):Sp:=fun vs H Q _=>∃(p:Addr) (fp:List Addr) (zs:AF) (r:Int) (iss:Int->DV) (zA:AJ) (n:Int) (d0 d1 d2:DV),vs=[.ref p,.int n]/\Sh H p fp zs r iss zA/\n∈zA/\iss n=.tup [d0,d1,d2]/\∀v,Tell H d2 v->Q v H
theorem tO{kvs:List (Key×V)}{zA:AJ}(kk:kvs.map (·.1)=zA.map Sum.inl){n:Int}(h:n∈zA):∃v,I0 kvs (Sum.inl n:Key)=some v/\((Sum.inl n:Key),v)∈kvs:=by
 have e:=rO kk n
 rw[Pq h] at e
 cases ev:I0 kvs (Sum.inl n:Key) with
 | none=>rw[ev] at e;cases e
 | some v=>
  refine⟨v,rfl,?_⟩
  unfold I0 at ev
  obtain⟨⟨k,u⟩,hf,rfl⟩:=bV.mp ev
  have h1:=List.mem_of_find?_eq_some hf
  have h2:=List.find?_some hf
  simp only[Pp] at h2
  rw[h2] at h1
  exact h1
theorem Sj{A0:Addr}(M:Bl mg)(T:TxShelf K mg A0)(F:Fun K "tail_of" "Shelf.tail_of" ox f fd):B2 P w K mg base CX0 1 f fd nI (Yv (ShD K A0)):=by
 have nd:=bb.nd
 refine F.ok bb ?_ ?_
 ·rintro _ _ _ _⟨_,_,_,_,_,_,_,_,_,_,rfl,_⟩
  rfl
 rintro _ _ _ _ H vs Q E hr⟨p,fp,zs,r,iss,zA,n,d0,d1,d2,rfl,sh,hn,en,k⟩
 have hu:=vN hr
 refine⟨_,(zJ (zR (zh y8 (vn hu (zt (pv 0) rfl) (pv 1) (fun _ _=>rfl)) zL (fun _ _=>rfl)))),?_⟩
 obtain⟨dx,pn,pd,fs,kvs,rfl,h1,h2,h3,h4,l1,l2,l3,lm,kk,ndh,all,tl,g,r0,r1⟩:=sh
 obtain⟨v,ev,mv⟩:=tO kk hn
 have tv:=tl n v mv
 rw[en] at tv
 obtain⟨a,us,rfl,ea,_,tu⟩:=zr tv
 obtain⟨x0,ur,rfl,t0,tu⟩:=yM tu
 obtain⟨x1,ur,rfl,t1,tu⟩:=yM tu
 obtain⟨x2,ur,rfl,t2,tu⟩:=yM tu
 refine NF rfl (NJ p A0 dx fs _ ⟨rfl,h1,T.cl,T.n_issues,l3,NF rfl (NG pd _ ⟨rfl,(by rw[<- ev];exact L5.k (k:=Sum.inl n) h4),?_⟩)⟩)
 exact NI a _ _ x2 ⟨rfl,rfl,SqT.of ea,yT rfl,k x2 t2⟩
theorem Tu(n r:Int):(xl n r).Nodup:=by
 have h:(dnI (n-1) (n-1).toNat).Nodup:=by
  unfold dnI
  rw[dR,dC]
  exact hG.imp fun h=>by lia
 exact h.filter _
theorem Sf{n r k:Int}:k∈xl n r↔1<=k/\k<n/\n-k<=r:=by
 unfold xl
 rw[cG,uz,Pp]
 lia
theorem i8{K:AA}{H:Hp}{z3:AL}:∀{ks:AJ}{xs:AK},zF H (ks.map (uB z3)) xs->∃kvs:List (Key×V),Paired (uk K H) xs kvs/\kvs.map (·.1)=ks.map Sum.inl/\∀k v,((Sum.inl k:Key),v)∈kvs->Tell H (zY (zk (zg z3 k))) v
 | [],xs,h=>by
  rw[xx h]
  exact⟨[],.nil,rfl,fun _ _ q=>(nomatch q)⟩
 | k::ks,xs,h=>by
  obtain⟨x,r,rfl,t,h⟩:=yM h
  obtain⟨kvs,p1,p2,p3⟩:=i8 h
  obtain⟨a,us,rfl,ea,_,tu⟩:=zr t
  obtain⟨x0,ur,rfl,t0,tu⟩:=yM tu
  obtain⟨x1,ur,rfl,t1,tu⟩:=yM tu
  have:=xx tu
  subst this
  cases wz t0
  refine⟨(Sum.inl k,x1)::kvs,.cons ⟨a,rfl,.inr (SqT.of ea)⟩ p1,by rw[cJ,cJ,p2],fun m v hv=>?_⟩
  rcases bI.mp hv with e|hv
  ·cases e
   exact t1
  ·exact p3 m v hv
noncomputable def mL(z3:AL)(n t:Int):DV:=if t=0 then .tup [] else zY (zk (zg z3 n))
noncomputable def ZD(Sh:ShP):Sp:=fun vs H Q _=>∃(x:Addr) (n t:Int) (fp:List Addr) (nm:AF) (r:Int) (z3:AL) (zA:AJ),vs=[.ref x,.int n,.int t]/\Sh H x fp nm r (fun n=>yE z3 n r) zA/\(t≠0->t∈zA/\t<=60/\n∈xl t r)/\
 ∀(v:V) (H':Hp),B0 H H'->Tell H' (mL z3 n t) v->Q v H'
theorem VI{A0:Addr}(M:Bl mg)(T:TxShelf K mg A0)(F:Fun K "names_told_of" "names_told_of" nH f fd)(J2:D5 P w K mg base 1 A0 "tail_of" nI (Yv (ShD K A0))) :
  B2 P w K mg base CX0 2 f fd n5 (ZD (ShD K A0)):=by
 have nd:=cb.nd
 refine F.ok cb ?_ ?_
 ·rintro _ _ _ _⟨_,_,_,_,_,_,_,_,rfl,_⟩
  rfl
 rintro _ _ _ _ H vs Q E hr⟨x,n,t,fp,nm,r,z3,zA,rfl,sh,ht,k⟩
 have hu:=vN hr
 refine⟨_,(zN (ze (zZ yV (pv 2) zL (za _)) (zJ (zR (yH zD))) zf) (zJ (zR (vn hu (yD (oY (K:=K) rfl rfl) rfl M.dict kE (z9 (xV J2 (rm hr) (pv 0) (z9 (pv 2) zD)) zD)) (pv 1) (fun _ _=>rfl))))),?_⟩
 refine NF rfl ⟨rfl,NF rfl (C0 (fun c=>?_) (fun c=>?_))⟩
 ·have c':t=0:=V.int.inj (zx c)
  refine⟨(NB 0),fun l hl=>k _ _ (zH hl _) ?_⟩
  unfold mL
  rw[Po c']
  exact zw zM (by show 0<=1000000;decide) .nil
 ·have c':t≠0:=fun z=>c (Pq (Pu V.int z))
  obtain⟨th,t60,tn⟩:=ht c'
  obtain⟨dx,fs,h1,lm⟩:∃dx fs,H x=some (.ins A0 dx fs)/\fs.lookup ("tail_of":Str)=none:=by
   obtain⟨dx,pn,pd,fs,kvs,_,h1,_,_,_,_,_,_,lm,_⟩:=sh
   exact⟨dx,fs,h1,lm _ (by simp)⟩
  refine NF rfl (NH x dx fs ⟨rfl,h1,lm,NF rfl (Z4 x fp nm r _ zA t _ _ _ ⟨rfl,sh,th,rfl,fun v tv=>?_⟩)⟩)
  obtain⟨a,us,rfl,ea,_,tu⟩:=zr tv
  obtain⟨kvs,p1,p2,p3⟩:=i8 (K:=K) tu
  have lu:us.length<=1000:=by
   rw[tu.length,bA]
   unfold xl
   have:=cL (fun k=>decide (t-k<=r)) (dnI (t-1) (t-1).toNat)
   rw[Zg] at this
   lia
  refine(NH a us kvs ⟨rfl,.inr ea,p1,lu,?_,fun l hl=>?_⟩)
  ·rw[p2]
   rw[dR,dC]
   exact(dR.mp (Tu t r)).imp fun h e=>h (Sum.inl.inj e)
  ·obtain⟨v,ev,mv⟩:=tO p2 tn
   refine NF rfl (NG l _ ⟨rfl,(by rw[<- ev];exact L5.k (k:=Sum.inl n) zM),?_⟩)
   refine k v _ (zH hl _) ?_
   unfold mL
   rw[Pn c']
   exact Tell.keep (zH hl _) _ _ (p3 n v mv)
theorem UW{zA:AJ}{r n:Int}(h60:∀n∈zA,1<=n/\n<=60)(hn:n∈zz (zG zA))(h:zy (zG zA) n r≠0):zy (zG zA) n r∈zA/\zy (zG zA) n r<=60/\n∈xl (zy (zG zA) n r) r:=by
 unfold zy at h ⊢
 cases e:(upI 1 60).find? (vg (zG zA) n r) with
 | none=>rw[e] at h;exact ND rfl h
 | some y=>
  obtain⟨_,hc,_⟩:=mq (xt 1 60) e
  obtain⟨a,b,c⟩:=u4.mp hc
  have hy:=(yh.mp c).2
  have:=h60 y hy
  have:=(xr.mp hn).1
  show y∈zA/\y<=60/\n∈xl y r
  exact⟨hy,by lia,Sf.mpr (by lia)⟩
theorem SU{A0:Addr}(M:Bl mg)(T:TxShelf K mg A0)(F:Fun K "gaps_of" "gaps_of" kz f fd)(B4:D5 P w K mg base 1 A0 "had" wV (we (ShD K A0)))
  (B7:Cal P w K mg base 2 "lacking_with_tellers" su (mM K)) (J0:Cal P w K mg base 2 "names_told_of" n5 (ZD (ShD K A0))) :
  B2 P w K mg base CX0 3 f fd tI (lj (ShD K A0)):=by
 have nd:=Xd.nd
 refine F.ok Xd ?_ ?_
 ·rintro _ _ _ _⟨_,_,_,_,_,_,rfl,_⟩
  rfl
 rintro _ _ _ _ H vs Q E hr⟨x,fp,nm,r,z3,zA,rfl,sh,gn,rw',l60,hh,r0,r1,k⟩
 refine⟨_,(zN (zW (i:=1) nd rfl (NC rfl) (zX B7 (rm hr) rfl (z9 (wH B4 (rm hr) (pv 0)) (z9 (zt (pv 0) rfl) zD)))) (zJ (zR (yD ym rfl M.tuple bS (z9 (xH ["number","teller"] ["shelf"] [0] rfl (yY rfl (by decide +kernel) rfl (by decide +kernel) rfl rfl) (yt (pv 1)) (fun _ _ _ _ _=>(uH (K:=K) (n:=2) rfl rfl (xI (zd (i:=0) (show((["number","teller"]:List PySem.Str)++(["shelf"]:List PySem.Str)).Nodup from by decide +kernel) rfl (NC rfl)) (xI (zd (i:=1) (show((["number","teller"]:List PySem.Str)++(["shelf"]:List PySem.Str)).Nodup from by decide +kernel) rfl (NC rfl)) vC)))) (uI (xu (yG (by decide)) zl (xu (yG (by decide)) zl vk yz) (yn zl yz))) (uN (yn zl (yn zl yz))) (fun _ _ _ _ _=>xU) (fun _ _ _ _ _=>(yH (z9 (pv 0) (z9 (pv 1) (z9 (zX J0 (rm hr) rfl (z9 (pv 2) (z9 (pv 0) (z9 (pv 1) zD)))) zD)))))) zD))))),?_⟩
 have h60:∀n∈zA,1<=n/\n<=60:=fun n hn=>by have:=hh n hn;lia
 obtain⟨dx,fs,h1,lm,lr⟩:∃dx fs,H x=some (.ins A0 dx fs)/\fs.lookup ("had":Str)=none/\fs.lookup ("reach":Str)=some (V.int r):=by
  obtain⟨dx,pn,pd,fs,kvs,_,h1,_,_,_,_,lr,_,lm,_⟩:=sh
  exact⟨dx,fs,h1,lm _ (by simp),lr⟩
 refine NF rfl (NH x dx fs ⟨rfl,h1,lm,(NK x fp nm r _ zA ⟨rfl,sh,fun l H1 s1 e1=>?_⟩)⟩)
 refine NF rfl (NJ x A0 dx fs _ ⟨rfl,s1 _ _ h1,T.cl,T.n_reach,lr,(NH l (zG zA) r ⟨rfl,.inr (SqT.of e1),fun n hn=>h60 n (yh.mp hn).2,c7 (va zA) (by decide),fun lt xs H2 s2 e2 pr2=>?_⟩)⟩)
 have sh2:ShD K A0 H2 x fp nm r (fun n=>yE z3 n r) zA:=shOk.same sh (s1.trans s2)
 have lx:xs.length=(zz (zG zA)).length:=by rw[pr2.len];unfold lwtL;rw[bA]
 have ll:=u5 (zG zA)
 refine NF rfl ⟨lt,rfl,⟨_,SqT.of e2⟩,?_⟩
 refine wI (xs:=xs) (fun i ys H'=>B0 H2 H'/\zF H' (((zz (zG zA)).take i).map (gapD (zG zA) z3 r)) ys) ⟨B0.refl _,by rw[cW];exact .nil⟩ (fun i ys H' hi hp=>?_) (fun i y ys H' hy hp=>?_) (fun ys H' hp=>?_)
 ·obtain⟨g,t⟩:=hp
  refine⟨SqT.of (g _ _ e2),zp ?_⟩
  rw[t.length,bA,bL]
  lia
 ·obtain⟨g,t⟩:=hp
  obtain⟨⟨n,tl⟩,e,a,rfl,ha⟩:=pr2.get i y hy
  unfold lwtL at e
  rw[bE] at e
  obtain⟨m,em,e3⟩:=bV.mp e
  cases e3
  refine NG a _ ⟨rfl,SqT.of (g _ _ ha),rfl,NG _ _ ⟨rfl,NG _ _ ⟨rfl,rfl,?_⟩⟩⟩
  refine NF rfl (NF rfl (NF rfl (NF rfl (NF rfl (NM x n _ fp nm r z3 zA ⟨rfl,shOk.same sh2 g,UW h60 (bH em),fun v H3 s3 tv=>?_⟩)))))
  refine⟨(NB 3),fun q hq=>⟨g.trans (s3.trans (zH hq _)),?_⟩⟩
  rw[fJ,em,bM]
  exact zF.snoc (zF.keep (s3.trans (zH hq _)) _ _ t) (zw zM (by show 3<=1000000;decide) (.cons (yy _) (.cons (yy _) (.cons (Tell.keep (zH hq _) _ _ tv) .nil))))
 ·obtain⟨g,t⟩:=hp
  rw[lx,bY] at t
  intro D hD
  refine(NG D ys ⟨rfl,.inl ⟨SqL.of zM,fun q hq=>k _ _ (s1.trans (s2.trans (g.trans ((zH hD _).trans (zH hq _))))) (zw zM ?_ (zF.keep ((zH hD _).trans (zH hq _)) _ _ t))⟩⟩)
  unfold v9
  rw[bA]
  lia
noncomputable def ke(Sh:ShP):Sp:=fun vs H Q _=>∃(p:Addr) (fp:List Addr) (zs:AF) (r:Int) (iss:Int->DV) (zA:AJ) (n:Int) (d0 d1 d2:DV),vs=[.ref p,.int n]/\Sh H p fp zs r iss zA/\n∈zA/\iss n=.tup [d0,d1,d2]/\∀v,Tell H d1 v->Q v H
theorem RK{A0:Addr}(M:Bl mg)(T:TxShelf K mg A0)(F:Fun K "rows_of" "Shelf.rows_of" oz f fd):B2 P w K mg base CX0 1 f fd sf (ke (ShD K A0)):=by
 have nd:=cy.nd
 refine F.ok cy ?_ ?_
 ·rintro _ _ _ _⟨_,_,_,_,_,_,_,_,_,_,rfl,_⟩
  rfl
 rintro _ _ _ _ H vs Q E hr⟨p,fp,zs,r,iss,zA,n,d0,d1,d2,rfl,sh,hn,en,k⟩
 have hu:=vN hr
 refine⟨_,(zJ (zR (zh y8 (vn hu (zt (pv 0) rfl) (pv 1) (fun _ _=>rfl)) zL (fun _ _=>rfl)))),?_⟩
 obtain⟨dx,pn,pd,fs,kvs,rfl,h1,h2,h3,h4,l1,l2,l3,lm,kk,ndh,all,tl,g,r0,r1⟩:=sh
 obtain⟨v,ev,mv⟩:=tO kk hn
 have tv:=tl n v mv
 rw[en] at tv
 obtain⟨a,us,rfl,ea,_,tu⟩:=zr tv
 obtain⟨x0,ur,rfl,t0,tu⟩:=yM tu
 obtain⟨x1,ur,rfl,t1,tu⟩:=yM tu
 refine NF rfl (NJ p A0 dx fs _ ⟨rfl,h1,T.cl,T.n_issues,l3,NF rfl (NG pd _ ⟨rfl,(by rw[<- ev];exact L5.k (k:=Sum.inl n) h4),?_⟩)⟩)
 exact NI a _ _ x1 ⟨rfl,rfl,SqT.of ea,yT rfl,k x1 t1⟩
theorem Xf{K:AA}{H:Hp}:∀{w:Row}{xs:AK},zF H (w.map wX) xs->Paired (uk K H) xs (w.map kvR)
 | [],xs,h=>by
  rw[xx h]
  exact .nil
 | p::w,xs,h=>by
  obtain⟨x,r,rfl,t,h'⟩:=yM h
  obtain⟨a,us,rfl,ea,_,tu⟩:=zr t
  obtain⟨x0,ur,rfl,t0,tu⟩:=yM tu
  obtain⟨x1,ur,rfl,t1,tu⟩:=yM tu
  have:=xx tu
  subst this
  rw[sW t0,wz t1] at ea
  exact .cons ⟨a,rfl,.inr (SqT.of ea)⟩ (Xf h')
theorem foldV(w:Row)(z:Str):∀zK:Option Int,w.foldl (fun zK p=>if p.1=z then some p.2 else zK) zK=match valL w z with|some v=>some v|none=>zK:=by
 unfold valL
 induction w with
 | nil=>intro zK;rfl
 | cons p w ih=>
  intro zK
  rw[dI,dI,ih,ih (if p.1=z then some p.2 else none)]
  cases w.foldl (fun zK p=>if p.1=z then some p.2 else zK) none with
  | some v=>rfl
  | none=>
   by_cases h:p.1=z
   ·rw[Po h,Po h]
   ·rw[Pn h,Pn h]
theorem qU(p:Str×Int)(w:Row)(z:Str):valL (p::w) z=match valL w z with|some v=>some v|none=>if p.1=z then some p.2 else none:=by
 conv=>lhs;unfold valL
 rw[dI,foldV]
theorem RL{w:Row}{z:Str}(h:z∉w.map Prod.fst):valL w z=none:=by
 induction w with
 | nil=>rfl
 | cons p w ih=>
  rw[cJ,bI,NA] at h
  rw[qU,ih h.2,Pn (fun e=>h.1 e.symm)]
theorem lS{z:Str}:∀{w:Row},(w.map Prod.fst).Nodup->I0 (w.map kvR) (Sum.inr z:Key)=(valL w z).map V.int
 | [],_=>rfl
 | p::w,h=>by
  rw[cJ,dE] at h
  rw[cJ,qU]
  by_cases e:p.1=z
  ·rw[uM (show(kvR p).1=Sum.inr z by unfold kvR;rw[e]),RL (e ▸ h.1),Po e]
   rfl
  ·rw[uL (show ¬(kvR p).1=Sum.inr z from fun q=>e (Sum.inr.inj q)),lS h.2,Pn e]
   cases valL w z<;>rfl
theorem Wa{nm:AF}{z3:AL}(g:GoodN nm)(R:Rws nm z3)(n:Int):((zg z3 n).map Prod.fst).Nodup:=by
 unfold zg
 rw[bR]
 cases e:z3[(n-1).toNat]? with
 | none=>exact .nil
 | some w=>exact(R.sub w (bH e)).nodup g.nd
theorem lR{nm:AF}{z3:AL}(g:GoodN nm)(R:Rws nm z3)(n:Int):(zg z3 n).length<=12:=by
 unfold zg
 rw[bR]
 cases e:z3[(n-1).toNat]? with
 | none=>exact cQ _
 | some w=>
  have h:=(R.sub w (bH e)).length_le
  rw[bA] at h
  exact c7 h g.hi
noncomputable def ti(Sh:ShP):Sp:=fun vs H Q _=>∃(x:Addr) (z:Str) (fp:List Addr) (nm:AF) (r:Int) (z3:AL) (zA:AJ),vs=[.ref x,.str z]/\Sh H x fp nm r (fun n=>yE z3 n r) zA/\z∈nm/\GoodN nm/\Rws nm z3/\
 ∀(v:V) (H':Hp),B0 H H'->Tell H' (ui (zi (zG zA) z3 z)) v->Q v H'
theorem QW{A0:Addr}(M:Bl mg)(T:TxShelf K mg A0)(F:Fun K "held_for" "held_for" qE f fd)(B9:Cal P w K mg base 1 "refuse_unknown_name" sr (mH K))
  (B4:D5 P w K mg base 1 A0 "had" wV (we (ShD K A0))) (D1:D5 P w K mg base 1 A0 "rows_of" sf (ke (ShD K A0))) :
  B2 P w K mg base CX0 2 f fd uU (ti (ShD K A0)):=by
 have nd:=jv.nd
 refine F.ok jv ?_ ?_
 ·rintro _ _ _ _⟨_,_,_,_,_,_,_,rfl,_⟩
  rfl
 rintro _ _ _ _ H vs Q E hr⟨x,z,fp,nm,r,z3,zA,rfl,sh,hz,gn,R,k⟩
 have hu:=vN hr
 refine⟨_,(zN (yB (zX B9 (rm hr) rfl (z9 (zt (pv 0) rfl) (z9 (pv 1) zD)))) (zN (y9 c6 rfl (aW rfl M.reversed (z9 (wH B4 (rm hr) (pv 0)) zD)) (zd (i:=2) nd rfl (NC rfl)) (zN (zW (i:=3) nd rfl (NC rfl) (yD (oY (K:=K) rfl rfl) rfl M.dict kE (z9 (xV D1 (rm hr) (pv 0) (z9 (pv 2) zD)) zD))) (zJ (ze (vA (mO hu (pv 1) (pv 3))) (zJ (zR (yH (z9 (pv 2) (z9 (vn hu (pv 3) (pv 1) (fun _ _=>rfl)) zD))))) zf)))) (zJ (zR (yH (z9 zL (z9 vR zD))))))),?_⟩
 obtain⟨dx,pn,fs,h1,h3,ln,lh,lo⟩:∃dx pn fs,H x=some (.ins A0 dx fs)/\H pn=some (.tup (nm.map V.str))/\fs.lookup ("names":Str)=some (V.ref pn)/\fs.lookup ("had":Str)=none/\fs.lookup ("rows_of":Str)=none:=by
  obtain⟨dx,pn,pd,fs,kvs,_,h1,_,h3,_,l1,_,_,lm,_⟩:=sh
  exact⟨dx,pn,fs,h1,h3,l1,lm _ (by simp),lm _ (by simp)⟩
 refine NF rfl (NJ x A0 dx fs _ ⟨rfl,h1,T.cl,T.n_names,ln,NF rfl (NH pn nm z ⟨rfl,.inr (SqT.of h3),hz,?_⟩)⟩)
 refine NF rfl (NH x dx fs ⟨rfl,h1,lh,(NK x fp nm r _ zA ⟨rfl,sh,fun l H1 s1 e1=>?_⟩)⟩)
 refine NG l _ ⟨rfl,SqT.of e1,?_⟩
 have sh1:ShD K A0 H1 x fp nm r (fun n=>yE z3 n r) zA:=shOk.same sh s1
 have L1:((zG zA).map V.int).length=(zG zA).length:=bA _
 refine Vo (fun i σ H'=>∃(o1 o2:Option V),B0 H1 H'/\zi (zG zA) z3 z=zi ((zG zA).take ((zG zA).length-i)) z3 z/\σ=[some (.ref x),some (.str z),o1,o2])
  ⟨none,none,B0.refl _,by rw[j8,bY],rfl⟩ (fun i σ H' _ ⟨_,_,g,_⟩=>SqT.of (g _ _ e1)) (fun i y σ H' hy hp=>?_) (fun σ H' hp=>?_)
 ·obtain⟨o1,o2,g,eh,rfl⟩:=hp
  rw[<- List.map_reverse,bE] at hy
  obtain⟨n,hn,rfl⟩:=bV.mp hy
  have hi:i<(zG zA).length:=by
   have:=(bK.mp hn).1
   rw[jN] at this
   exact this
  rw[List.getElem?_reverse hi] at hn
  have et:(zG zA).take ((zG zA).length-i)=(zG zA).take ((zG zA).length-(i+1))++[n]:=by
   have e:(zG zA).length-i=((zG zA).length-(i+1))+1:=by lia
   rw[e]
   refine zq ?_
   rw[show(zG zA).length-(i+1)=(zG zA).length-1-i by lia]
   exact hn
  have nh:n∈zA:=(yh.mp (bH hn)).2
  refine NF rfl (NH x dx fs ⟨rfl,g _ _ (s1 _ _ h1),lo,NF rfl (Z4 x fp nm r _ zA n _ _ _ ⟨rfl,shOk.same sh1 g,nh,rfl,fun v tv=>?_⟩)⟩)
  obtain⟨a,us,rfl,ea,_,tu⟩:=zr tv
  have ndw:=Wa gn R n
  refine(NH a us ((zg z3 n).map kvR) ⟨rfl,.inr ea,Xf tu,?_,?_,fun d hd=>?_⟩)
  ·rw[tu.length,bA]
   have:=lR gn R n
   lia
  ·have e:((zg z3 n).map kvR).map (·.1)=((zg z3 n).map Prod.fst).map Sum.inr:=by rw[eJ,eJ];rfl
   rw[e,dR,dC]
   exact(dR.mp ndw).imp fun h e=>h (Sum.inr.inj e)
  refine NF rfl (NF rfl (NG d _ ⟨rfl,L5.k (k:=Sum.inr z) zM,NF rfl ?_⟩))
  rw[lS ndw]
  rw[et,pA] at eh
  cases ev:valL (zg z3 n) z with
  | none=>
   rw[ev] at eh
   exact C1 ⟨_,_,g.trans (zH hd _),eh,rfl⟩
  | some v=>
   rw[ev] at eh
   refine F3 (NF rfl (NF rfl (NF rfl (NG d _ ⟨rfl,(show L5 _ d (kV (Sum.inr z)) (some (V.int v)) by rw[<- show I0 ((zg z3 n).map kvR) (Sum.inr z:Key)=some (V.int v) by rw[lS ndw,ev];rfl];exact L5.k zM),(NB 2),fun q hq=>k _ _ (s1.trans (g.trans ((zH hd _).trans (zH hq _)))) ?_⟩))))
   rw[eh]
   exact zw zM (by show 2<=1000000;decide) (.cons (yy _) (.cons (yy _) .nil))
 ·obtain⟨o1,o2,g,eh,rfl⟩:=hp
  rw[L1,fW,cW] at eh
  refine⟨(NB 2),fun q hq=>k _ _ (s1.trans (g.trans (zH hq _))) ?_⟩
  rw[eh]
  exact zw zM (by show 2<=1000000;decide) (.cons (yy _) (.cons tF .nil))
noncomputable def js(Sh:ShP):Sp:=fun vs H Q _=>∃(x:Addr) (z:Str) (fp:List Addr) (nm:AF) (r:Int) (z3:AL) (zA:AJ),vs=[.ref x,.str z]/\Sh H x fp nm r (fun n=>yE z3 n r) zA/\z∈nm/\GoodN nm/\Rws nm z3/\z3.length<=60/\(∀n∈zA,1<=n/\n<=z3.length)/\0<=r/\r<=10/\
 ∀(v:V) (H':Hp),B0 H H'->Tell H' (Wh (zG zA) z3 r (zu (zi (zG zA) z3 z)) z) v->Q v H'
theorem Qm{A0:Addr}(M:Bl mg)(T:TxShelf K mg A0)(F:Fun K "set_again" "set_again" qw f fd)(E2:Cal P w K mg base 2 "held_for" uU (ti (ShD K A0)))
  (K1:Cal P w K mg base 3 "gaps_of" tI (lj (ShD K A0))):B2 P w K mg base CX0 4 f fd qy (js (ShD K A0)):=by
 have nd:=iS.nd
 refine F.ok iS ?_ ?_
 ·rintro _ _ _ _⟨_,_,_,_,_,_,_,rfl,_⟩
  rfl
 rintro _ _ _ _ H vs Q E hr⟨x,z,fp,nm,r,z3,zA,rfl,sh,hz,gn,R,l60,hh,r0,r1,k⟩
 refine⟨_,(zN (zW (i:=2) nd rfl (Or.inr rfl) (zh y8 (zX E2 (rm hr) rfl (z9 (pv 0) (z9 (pv 1) zD))) zL (fun _ _=>rfl))) (zJ (zR (yD ym rfl M.tuple bS (z9 (xH ["number","teller","names"] ["held_from","name"] [2,1] rfl (yY rfl (by decide +kernel) rfl (by decide +kernel) rfl rfl) (yt (zX K1 (rm hr) rfl (z9 (pv 0) zD))) (fun _ _ _ _ _=>(uH (K:=K) (n:=3) rfl rfl (xI (zd (i:=0) (show((["number","teller","names"]:List PySem.Str)++(["held_from","name"]:List PySem.Str)).Nodup from by decide +kernel) rfl (NC rfl)) (xI (zd (i:=1) (show((["number","teller","names"]:List PySem.Str)++(["held_from","name"]:List PySem.Str)).Nodup from by decide +kernel) rfl (NC rfl)) (xI (zd (i:=2) (show((["number","teller","names"]:List PySem.Str)++(["held_from","name"]:List PySem.Str)).Nodup from by decide +kernel) rfl (NC rfl)) vC))))) (uI (xu (yG (by decide)) zl (xu (yG (by decide)) zl (xu (yG (by decide)) zl vk yz) (yn zl yz)) (yn zl (yn zl yz)))) (uN (yn zl (yn zl (yn zl yz)))) (fun _ _ _ _ _=>(wk (PW.pt (wc (zZ xA (pv 0) (pv 3) (za _)) (vF (zZ (r:=rIn K false) qG (pv 4) (pv 2) (by with_unfolding_all rfl))))))) (fun _ _ _ _ _=>(yH (z9 (pv 0) (z9 (pv 1) zD))))) zD))))),?_⟩
 refine NF rfl (NF rfl (NL x z fp nm r z3 zA ⟨rfl,sh,hz,gn,R,fun v H1 s1 tv=>?_⟩))
 obtain⟨a,y,rfl,ea,_⟩:=tJ tv
 refine NI a _ _ _ ⟨rfl,rfl,SqT.of ea,yT rfl,?_⟩
 have sh1:=shOk.same sh s1
 refine NF rfl (NK x fp nm r z3 zA ⟨rfl,sh1,gn,R,l60,hh,r0,r1,fun u H2 s2 tu=>?_⟩)
 obtain⟨b,xs,rfl,eb,_,tb⟩:=zr tu
 have lx:=Sm tb
 have ll:=u5 (zG zA)
 generalize zu (zi (zG zA) z3 z)=num at *
 refine⟨b,rfl,⟨_,SqT.of eb⟩,?_⟩
 refine wI (xs:=xs) (fun i ys H'=>B0 H2 H'/\zF H' ((((zz (zG zA)).take i).filter fun n=>decide (num<n) && decide (z∈xf (zG zA) z3 r n)).map fun n=>.tup [.int n,.int (zy (zG zA) n r)]) ys) ⟨B0.refl _,.nil⟩ (fun i ys H' hi hp=>?_) (fun i y ys H' hy hp=>?_) (fun ys H' hp=>?_)
 ·obtain⟨g,t⟩:=hp
  refine⟨SqT.of (g _ _ eb),zp ?_⟩
  rw[t.length,bA]
  have:=cL (fun n=>decide (num<n) && decide (z∈xf (zG zA) z3 r n)) ((zz (zG zA)).take i)
  rw[bL] at this
  lia
 ·obtain⟨g,t⟩:=hp
  obtain⟨n,c,d,en,rfl,ec,ed⟩:=Xq tb hy
  refine NG c _ ⟨rfl,SqT.of (g _ _ ec),rfl,NG _ _ ⟨rfl,NG _ _ ⟨rfl,NG _ _ ⟨rfl,rfl,?_⟩⟩⟩⟩
  rw[zq en,dS,fB]
  refine NF rfl (NF rfl (NG _ _ ⟨rfl,rfl,NF rfl ?_⟩))
  have skip:¬(decide (num<n) && decide (z∈xf (zG zA) z3 r n))=true->B0 H2 H'/\zF H' (((((zz (zG zA)).take i).filter fun n=>decide (num<n) && decide (z∈xf (zG zA) z3 r n))++(if (decide (num<n) && decide (z∈xf (zG zA) z3 r n))=true then n::List.filter (fun n=>decide (num<n) && decide (z∈xf (zG zA) z3 r n)) [] else List.filter (fun n=>decide (num<n) && decide (z∈xf (zG zA) z3 r n)) [])).map fun n=>.tup [.int n,.int (zy (zG zA) n r)]) ys:=fun c=>by
   rw[Pn c,fQ,dB]
   exact⟨g,t⟩
  refine C0 (fun c=>?_) (fun c=>?_)
  ·refine NF rfl (NF rfl (NG d _ ⟨rfl,.inr (SqT.of (g _ _ ed)),rfl,xJ _,NF rfl ?_⟩))
   rw[Pn bP,Xu]
   refine C0 (fun c2=>?_) (fun c2=>?_)
   ·refine NF rfl (NF rfl ⟨(NB 2),fun q hq=>⟨g.trans (zH hq _),?_⟩⟩)
    rw[Po (by rw[bX];exact⟨c,c2⟩),fQ,bM]
    exact zF.snoc (zF.keep (zH hq _) _ _ t) (zw zM (by show 2<=1000000;decide) (.cons (yy _) (.cons (yy _) .nil)))
   ·exact skip (by rw[bX];exact fun z=>c2 z.2)
  ·exact skip (by rw[bX];exact fun z=>c z.1)
 ·obtain⟨g,t⟩:=hp
  rw[lx,bY] at t
  intro D hD
  refine(NG D ys ⟨rfl,.inl ⟨SqL.of zM,fun q hq=>k _ _ (s1.trans (s2.trans (g.trans ((zH hD _).trans (zH hq _))))) (zw zM ?_ (zF.keep ((zH hD _).trans (zH hq _)) _ _ t))⟩⟩)
  rw[bA]
  exact c7 (QD (zG zA) z3 r num z) (by decide)
theorem tf{ns:AJ}{r n:Int}:n∈zj ns r↔n∈zz ns/\zy ns n r=0:=by
 unfold zj lwtL
 rw[cD]
 constructor
 ·rintro⟨⟨a,b⟩,h,rfl⟩
  rw[cG,cD,Pp] at h
  obtain⟨⟨m,hm,e⟩,h2⟩:=h
  cases e
  exact⟨hm,h2⟩
 ·rintro⟨h1,h2⟩
  refine⟨(n,zy ns n r),?_,rfl⟩
  rw[cG,cD,Pp]
  exact⟨⟨n,h1,rfl⟩,h2⟩
theorem sV{ns:AJ}{r num:Int}:vx ns r num=[]↔∀n∈zj ns r,n<=num:=by
 unfold vx
 rw[hU]
 constructor
 ·intro h n hn
  obtain⟨h1,h2⟩:=tf.mp hn
  have:=h n h1
  rw[bX,Pp,Pp] at this
  rcases Int.lt_or_le num n with q|q
  ·exact ND ⟨q,h2⟩ this
  ·exact q
 ·intro h n hn
  rw[bX,Pp,Pp]
  rintro⟨h1,h2⟩
  have:=h n (tf.mpr ⟨hn,h2⟩)
  lia
theorem iR{ns:AJ}{r num:Int}:ye ns r num=[]↔vx ns r num=[]:=by
 rw[sV]
 unfold ye
 rw[hU]
 exact⟨fun h n hn=>Int.not_lt.mp fun z=>h n hn (Pq z),fun h n hn z=>by have:=h n hn;have:=Px z;lia⟩
noncomputable def tq(Sh:ShP):Sp:=fun vs H Q _=>∃(x:Addr) (z:Str) (fp:List Addr) (nm:AF) (r:Int) (z3:AL) (zA:AJ),vs=[.ref x,.str z]/\Sh H x fp nm r (fun n=>yE z3 n r) zA/\z∈nm/\GoodN nm/\Rws nm z3/\z3.length<=60/\(∀n∈zA,1<=n/\n<=z3.length)/\0<=r/\r<=10/\
 ∀(H':Hp),B0 H H'->Q (.str (yF (zG zA) z3 r (zu (zi (zG zA) z3 z)) z)) H'
theorem Rj{A0:Addr}(M:Bl mg)(T:TxShelf K mg A0)(F:Fun K "state_of" "state_of" qJ f fd)(E2:Cal P w K mg base 2 "held_for" uU (ti (ShD K A0)))
  (N2:Cal P w K mg base 4 "set_again" qy (js (ShD K A0))) (B4:D5 P w K mg base 1 A0 "had" wV (we (ShD K A0)))
  (B8:Cal P w K mg base 4 "dark_numbers_behind" sj (ky K)):B2 P w K mg base CX0 5 f fd uT (tq (ShD K A0)):=by
 have nd:=jy.nd
 refine F.ok jy ?_ ?_
 ·rintro _ _ _ _⟨_,_,_,_,_,_,_,rfl,_⟩
  rfl
 rintro _ _ _ _ H vs Q E hr⟨x,z,fp,nm,r,z3,zA,rfl,sh,hz,gn,R,l60,hh,r0,r1,k⟩
 refine⟨_,(zN (ze (zZ xA (zb zo rfl M.len bO (z9 (zX N2 (rm hr) rfl (z9 (pv 0) (z9 (pv 1) zD))) zD)) zL (za _)) (zJ (zR (vI rfl M.STALE))) zf) (zN (zW (i:=2) nd rfl (NC rfl) (zh y8 (zX E2 (rm hr) rfl (z9 (pv 0) (z9 (pv 1) zD))) zL (fun _ _=>rfl))) (zN (zW (i:=3) nd rfl (NC rfl) (zX B8 (rm hr) rfl (z9 (wH B4 (rm hr) (pv 0)) (z9 (zt (pv 0) rfl) (z9 (pv 2) zD))))) (zJ (zR (vt (zZ xA (zb zo rfl M.len bO (z9 (pv 3) zD)) zL (za _)) (vI rfl M.OPEN) (vI rfl M.SURE))))))),?_⟩
 refine NF rfl (NF rfl (NL x z fp nm r z3 zA ⟨rfl,sh,hz,gn,R,l60,hh,r0,r1,fun v H1 s1 tv=>?_⟩))
 obtain⟨a,xs,rfl,ea,_,ta⟩:=zr tv
 have lx:=ta.length
 rw[bA] at lx
 refine NG a xs ⟨rfl,.inr (SqT.of ea),NG _ _ ⟨rfl,rfl,NF rfl (C0 (fun c=>?_) (fun c=>?_))⟩⟩
 ·have c':=zx c
  have e:=k H1 s1
  unfold yF at e
  rw[Po (by lia)] at e
  exact e
 ·have c':=wN c
  have sh1:=shOk.same sh s1
  refine NF rfl (NF rfl (NL x z fp nm r z3 zA ⟨rfl,sh1,hz,gn,R,fun v H2 s2 tv=>?_⟩))
  obtain⟨b,y,rfl,eb,_⟩:=tJ tv
  refine NI b _ _ _ ⟨rfl,rfl,SqT.of eb,yT rfl,?_⟩
  have sh2:=shOk.same sh1 s2
  obtain⟨dx,fs,h1,lm,lr⟩:∃dx fs,H2 x=some (.ins A0 dx fs)/\fs.lookup ("had":Str)=none/\fs.lookup ("reach":Str)=some (V.int r):=by
   obtain⟨dx,pn,pd,fs,kvs,_,h1,_,_,_,_,lr,_,lm,_⟩:=sh2
   exact⟨dx,fs,h1,lm _ (by simp),lr⟩
  have h60:∀n∈zG zA,1<=n/\n<=60:=fun n hn=>by have:=hh n (yh.mp hn).2;lia
  refine NF rfl (NH x dx fs ⟨rfl,h1,lm,(NK x fp nm r _ zA ⟨rfl,sh2,fun l H3 s3 e3=>?_⟩)⟩)
  refine NF rfl (NJ x A0 dx fs _ ⟨rfl,s3 _ _ h1,T.cl,T.n_reach,lr,NF rfl (NI l (zG zA) r _ ⟨rfl,.inr (SqT.of e3),h60,c7 (va zA) (by decide),fun d H4 s4 e4=>?_⟩)⟩)
  have e:=k H4 (s1.trans (s2.trans (s3.trans s4)))
  unfold yF at e
  rw[Pn (by lia)] at e
  refine NF rfl (NG d _ ⟨rfl,.inr (SqT.of e4),NG _ _ ⟨rfl,rfl,NF rfl ?_⟩⟩)
  rw[bA]
  refine C0 (fun c=>?_) (fun c=>?_)
  ·have c2:=zx c
   rw[Pn (fun z=>by rw[iR.mpr z] at c2;exact ND c2 (by decide))] at e
   exact e
  ·have c2:=wN c
   rw[Po (iR.mp (k9.mp (by lia)))] at e
   exact e
noncomputable def zV(zE:List Deed):Nat:=(zE.filter fun d=>d.1.isNone).length
theorem wx(zE:List Deed)(d:Deed):zV (zE++[d])=zV zE+(if d.1.isNone then 1 else 0):=by
 unfold zV
 rw[dS,bF,fB]
 split<;>rfl
theorem ZF(zE:List Deed):zV zE<=zE.length:=cL _ _
noncomputable def ZQ(k:Int)(zE:List Deed)(d:Deed):Prop:=match d with
 | (none,n)=>n=(zV zE:Int)+1/\zV zE<60
 | (some rd,n)=>1<=rd/\rd<=k/\1<=n/\n<=(zV zE:Int)
noncomputable def v3(k:Int)(zE:List Deed):Prop:=∀i d,zE[i]? = some d->ZQ k (zE.take i) d
theorem v3.nil(k:Int):v3 k []:=fun i d e=>by simp at e
theorem v3.snoc{k:Int}{zE:List Deed}{d:Deed}(h:v3 k zE)(n:ZQ k zE d):v3 k (zE++[d]):=fun i e he=>by
 rcases kW i zE.length with q|q
 ·rw[cS q] at he
  rw[List.take_append_of_le_length (dJ q)]
  exact h i e he
 ·rw[cV q] at he
  have hi:i-zE.length=0:=by
   have:=(bK.mp he).1
   rw[cP] at this
   lia
  rw[hi] at he
  cases he
  have:i=zE.length:=by lia
  rw[this,List.take_left]
  exact n
theorem kj{H H':Hp}{l t:Addr}{us:AK}{zE:List Deed}(d:Deed)(s:B0 H H')(nl:H l=none)(el:H' l=some (.lst us))(pr:Paired (yb H') us zE)(ht:H' t=none) :
  B0 H (upd (upd H' t (.tup (yQ d))) l (.lst (us++[.ref t])))/\upd (upd H' t (.tup (yQ d))) l (.lst (us++[.ref t])) l=some (.lst (us++[.ref t]))/\Paired (yb (upd (upd H' t (.tup (yQ d))) l (.lst (us++[.ref t])))) (us++[.ref t]) (zE++[d]):=by
 have s1:=zH ht (.tup (yQ d))
 have e1:=s1 _ _ el
 have k1:∀{b:Addr}{xs:AK},upd H' t (.tup (yQ d)) b=some (.tup xs)->upd (upd H' t (.tup (yQ d))) l (.lst (us++[.ref t])) b=some (.tup xs):=fun q=>by
  rw[zS (xW q e1 (fun z=>by cases z))]
  exact q
 refine⟨wQ (s.trans s1) nl,zM,jJ (L2.Paired.Q1 pr fun u d' ⟨b,e,q⟩=>⟨b,e,k1 (s1 _ _ q)⟩) ⟨t,rfl,k1 zM⟩⟩
theorem DeedsAt.keep{H H':Hp}{us:AK}{zE:List Deed}(s:B0 H H')(h:Paired (yb H) us zE):Paired (yb H') us zE:=
 L2.Paired.Q1 h fun u d ⟨b,e,q⟩=>⟨b,e,s _ _ q⟩
noncomputable def aR:Deed->DV
 | (none,n)=>.tup [.str "write",.int n]
 | (some r,n)=>.tup [.str "deliver",.int r,.int n]
theorem Tv{H:Hp}{u:V}{d:Deed}(h:yb H u d):Tell H (aR d) u:=by
 obtain⟨b,rfl,e⟩:=h
 obtain⟨a,n⟩:=d
 cases a with
 | none=>exact zw e (by show 2<=1000000;decide) (.cons (vG _) (.cons (yy _) .nil))
 | some r=>exact zw e (by show 3<=1000000;decide) (.cons (vG _) (.cons (yy _) (.cons (yy _) .nil)))
theorem Sy{H:Hp}:∀{us:AK}{zE:List Deed},Paired (yb H) us zE->∀(i:Nat) (d:Deed),zE[i]? = some d->∃u,us[i]? = some u/\yb H u d:=by
 intro us zE h
 induction h with
 | nil=>intro i d e;simp at e
 | cons h t ih=>
  intro i d e
  cases i with
  | zero=>
   simp at e
   subst e
   exact NF rfl h
  | succ i=>
   obtain⟨u,q1,q2⟩:=ih i d (by simpa using e)
   exact⟨u,by simpa using q1,q2⟩
noncomputable def QJ(Bk:BkP):Sp:=fun vs H Q _=>∃(p:Addr) (fp:List Addr) (zs:AF) (r k:Int) (z3:AL) (zE:List Deed),vs=[.ref p]/\Bk H p fp zs r k z3 zE/\∀H',B0 H H'->Q (.int z3.length) H'
noncomputable def RC(Bk:BkP):Sp:=fun vs H Q _=>∃(p:Addr) (fp:List Addr) (zs:AF) (r k:Int) (z3:AL) (zE:List Deed) (n:Int),vs=[.ref p,.int n]/\Bk H p fp zs r k z3 zE/\1<=n/\n<=z3.length/\
 ∀(v:V) (H':Hp),B0 H H'->Tell H' (yE z3 n r) v->Q v H'
noncomputable def TM(Bk:BkP):Sp:=fun vs H Q _=>∃(p:Addr) (fp:List Addr) (zs:AF) (r k:Int) (z3:AL) (zE:List Deed) (i:Nat) (d:Deed),vs=[.ref p,.int ((i:Int)+1)]/\Bk H p fp zs r k z3 zE/\zE[i]? = some d/\
 ∀v,Tell H (aR d) v->Q v H
theorem PM{B1 A6:Addr}(M:Bl mg)(T:TxBook K mg B1)(F:Fun K "latest" "Book.latest" oG f fd)(G7:D5 P w K mg base 1 A6 "latest" n6 (jz (OfD K A6))):B2 P w K mg base CX0 2 f fd ib (QJ (BkD K B1 A6)):=by
 have nd:=fk.nd
 refine F.ok fk ?_ ?_
 ·rintro _ _ _ _⟨_,_,_,_,_,_,_,rfl,_⟩
  rfl
 rintro _ _ _ _ H vs Q E hr⟨p,fp,zs,r,k,z3,zE,rfl,⟨dx,po,pd,fs,fo,us,rfl,B⟩,q⟩
 refine⟨_,(zJ (zR (wH G7 (rm hr) (zt (pv 0) rfl)))),?_⟩
 obtain⟨dxo,pno,plo,fso,xso,efo,h1,h2,h3,h4,l1,l2,l3,lmo,_⟩:=id B.of
 exact NF rfl (NJ p B1 dx fs _ ⟨rfl,B.hp,T.cl,T.n_office,B.lo,NH po dxo fso ⟨rfl,h1,lmo _ (by simp),NJ po fo zs r z3 ⟨rfl,B.of,q⟩⟩⟩)
theorem Rr{B1 A6:Addr}(M:Bl mg)(T:TxBook K mg B1)(F:Fun K "issue" "Book.issue" pI f fd)(C2:D5 P w K mg base 1 A6 "issue" ub (tV (OfD K A6))):B2 P w K mg base CX0 2 f fd iQ (RC (BkD K B1 A6)):=by
 have nd:=gk.nd
 refine F.ok gk ?_ ?_
 ·rintro _ _ _ _⟨_,_,_,_,_,_,_,_,rfl,_⟩
  rfl
 rintro _ _ _ _ H vs Q E hr⟨p,fp,zs,r,k,z3,zE,n,rfl,⟨dx,po,pd,fs,fo,us,rfl,B⟩,n1,n2,q⟩
 refine⟨_,(zJ (zR (xV C2 (rm hr) (zt (pv 0) rfl) (z9 (pv 1) zD)))),?_⟩
 obtain⟨dxo,pno,plo,fso,xso,efo,h1,h2,h3,h4,l1,l2,l3,lmo,_⟩:=id B.of
 exact NF rfl (NJ p B1 dx fs _ ⟨rfl,B.hp,T.cl,T.n_office,B.lo,NH po dxo fso ⟨rfl,h1,lmo _ (by simp),NF rfl (NK po fo zs r z3 n ⟨rfl,B.of,n1,n2,q⟩)⟩⟩)
theorem RP{B1 A6:Addr}(M:Bl mg)(T:TxBook K mg B1)(F:Fun K "deed" "Book.deed" qp f fd):B2 P w K mg base CX0 1 f fd i5 (TM (BkD K B1 A6)):=by
 have nd:=iB.nd
 refine F.ok iB ?_ ?_
 ·rintro _ _ _ _⟨_,_,_,_,_,_,_,_,_,rfl,_⟩
  rfl
 rintro _ _ _ _ H vs Q E hr⟨p,fp,zs,r,k,z3,zE,i,d,rfl,⟨dx,po,pd,fs,fo,us,rfl,B⟩,ed,q⟩
 refine⟨_,(zN (ze (PW.pt (xX (zZ wA (pv 1) zL (za _)) (xb (zZ xA (pv 1) (zb zo rfl M.len bO (z9 (zt (pv 0) rfl) zD)) (za _))))) (zJ xg) zf) (zJ (zR (zh yl (zt (pv 0) rfl) (zP yu (pv 1) zL) (fun _ _=>rfl))))),?_⟩
 have lu:=xq B.ds
 have hi:=(bK.mp ed).1
 obtain⟨u,eu,du⟩:=Sy B.ds i d ed
 have av:atI us ((i:Int)+1-1)=some u:=by
  rw[Int.add_sub_cancel]
  exact yT eu
 refine(NF rfl (NG _ _ ⟨rfl,rfl,(NF rfl (C0 (fun q=>ND (zx q) (by lia)) fun _=>?_))⟩))
 refine(NF rfl (NF rfl (NJ p B1 dx fs _ ⟨rfl,B.hp,T.cl,T.n_done,B.ld,(NG pd us ⟨rfl,.inl (SqL.of B.hd),(NG _ _ ⟨rfl,rfl,(NF rfl (C0 (fun q=>ND (zx q) (by lia)) fun _=>?_))⟩)⟩)⟩)))
 exact NF rfl (NJ p B1 dx fs _ ⟨rfl,B.hp,T.cl,T.n_done,B.ld,NF rfl (NG _ _ ⟨rfl,rfl,NI pd us _ u ⟨rfl,rfl,SqL.of B.hd,av,q u (Tv du)⟩⟩)⟩)
noncomputable def rB(K:AA):Sp:=fun vs H Q _=>∃(a:Addr) (ns:AJ),vs=[.ref a]/\SqL K H a (ns.map V.int)/\ns.length<=63/\∀H',Q (.bl true) H'
theorem Wd{nm:AF}{z3:AL}(R:Rws nm z3)(h:nm.length<=12):∀w∈z3,w.length<=12:=fun w hw=>by
 have:=(R.sub w hw).length_le
 rw[bA] at this
 lia
theorem Uz{xs:AK}{k:Nat}(h:k<=xs.length):K0 xs none (some (k:Int))=xs.take k:=by
 unfold K0
 have e1:HT.sIx xs.length 0 none=0:=rfl
 have e2:HT.sIx xs.length xs.length (some (k:Int))=k:=by
  rw[HT.ra,jQ h]
 rw[e1,e2,gC,j8]
theorem Tf{xs:AK}{k:Nat}(h:k<=xs.length):K0 xs (some (k:Int)) none=xs.drop k:=by
 unfold K0
 have e1:HT.sIx xs.length xs.length none=xs.length:=rfl
 have e2:HT.sIx xs.length 0 (some (k:Int))=k:=by
  rw[HT.ra,jQ h]
 rw[e1,e2,cN]
 rw[dL]
 exact bG _
theorem jt{z3:AL}{z:Str}:∀(ns:AJ),ns.Pairwise (· < ·)->(zi ns z3 z=none/\∀n∈ns,valL (zg z3 n) z=none)\/∃n v,zi ns z3 z=some (n,v)/\n∈ns/\valL (zg z3 n) z=some v/\∀m∈ns,n<m->valL (zg z3 m) z=none:=by
 intro ns
 have rev:∀(l:AJ),l.reverse.Pairwise (· < ·)->(zi l.reverse z3 z=none/\∀n∈l.reverse,valL (zg z3 n) z=none)\/∃n v,zi l.reverse z3 z=some (n,v)/\n∈l.reverse/\valL (zg z3 n) z=some v/\∀m∈l.reverse,n<m->valL (zg z3 m) z=none:=by
  intro l
  induction l with
  | nil=>intro _;exact .inl ⟨rfl,fun _ h=>(nomatch h)⟩
  | cons x l ih=>
   intro p
   rw[List.reverse_cons] at p ⊢
   obtain⟨p1,_,p2⟩:=dF.mp p
   rw[pA]
   cases ev:valL (zg z3 x) z with
   | some v=>
    refine .inr (NG x v ⟨rfl,cF _ (bD.mpr rfl),ev,fun m hm h=>?_⟩)
    rcases bZ.mp hm with hm|hm
    ·have:=p2 m hm x (bD.mpr rfl)
     lia
    ·have:=bD.mp hm
     lia
   | none=>
    rcases ih p1 with ⟨h1,h2⟩|⟨n,v,h1,h2,h3,h4⟩
    ·refine .inl ⟨h1,fun n hn=>?_⟩
     rcases bZ.mp hn with hn|hn
     ·exact h2 n hn
     ·rw[bD.mp hn]
      exact ev
    ·refine .inr ⟨n,v,h1,eV _ h2,h3,fun m hm h=>?_⟩
     rcases bZ.mp hm with hm|hm
     ·exact h4 m hm h
     ·rw[bD.mp hm]
      exact ev
 intro h
 have:=rev ns.reverse
 rw[jH] at this
 exact this h
theorem XA{w:Row}{z:Str}(h:z∈zk w):∃v,valL w z=some v:=by
 cases e:valL w z with
 | some v=>exact⟨v,rfl⟩
 | none=>
  refine ND h ?_
  have go:∀(w:Row),valL w z=none->z∉zk w:=by
   intro w
   induction w with
   | nil=>intro _ h;exact(nomatch h)
   | cons p w ih=>
    intro hz
    rw[qU] at hz
    unfold zk
    rw[cJ,bI,NA]
    cases e2:valL w z with
    | some v=>rw[e2] at hz;cases hz
    | none=>
     rw[e2] at hz
     refine⟨fun e3=>?_,ih e2⟩
     have hz':(if p.1=z then some p.2 else none)=none:=hz
     rw[Po e3.symm] at hz'
     cases hz'
  exact go w e
noncomputable def optD:Option AF->DV
 | none=>.non
 | some zs=>zY zs
noncomputable def yX(hs:AJ)(z3:AL)(r n:Int):Option AF:=if n∈hs\/zy hs n r≠0 then some (zk (zg z3 n)) else none
noncomputable def zc(m:Nat)(hs:AJ)(z3:AL)(r:Int):List (Option AF):=(upI 1 m).map (yX hs z3 r)
noncomputable def yZ(zA:AJ)(m:Nat):Prop:=((m:Int)∈zA\/(zA=[]/\m=0))/\∀y∈zA,y<=(m:Int)
theorem x9(m:Nat)(hs:AJ)(z3:AL)(r:Int):(zc m hs z3 r).length=m:=by
 unfold zc
 rw[bA,xk]
theorem yZ.same{a b:AJ}{m:Nat}(h:yZ a m)(e:∀x,x∈b↔x∈a):yZ b m:=by
 refine⟨?_,fun y hy=>h.2 y ((e y).mp hy)⟩
 rcases h.1 with q|⟨q,q0⟩
 ·exact .inl ((e _).mpr q)
 ·refine .inr ⟨List.eq_nil_iff_forall_not_mem.mpr fun x hx=>?_,q0⟩
  have:=(e x).mp hx
  rw[q] at this
  cases this
theorem yZ.le{a:AJ}{m:Nat}{k:Int}(h:yZ a m)(hk:0<=k)(ha:∀x∈a,x<=k):(m:Int)<=k:=by
 rcases h.1 with q|⟨_,q⟩
 ·exact ha _ q
 ·lia
theorem aL{nm:AF}{z3:AL}(R:Rws nm z3)(gn:GoodN nm)(n:Int):(zk (zg z3 n)).length<=12:=by
 have:=lR gn R n
 unfold zk
 rw[bA]
 exact this
noncomputable def rf(Sh:ShP):Sp:=fun vs H Q _=>∃(x:Addr) (fp:List Addr) (nm:AF) (r:Int) (iss:Int->DV) (zA:AJ),vs=[.ref x]/\Sh H x fp nm r iss zA/\(∀n∈zA,1<=n/\n<=60)/\
 ∀(H':Hp),B0 H H'->Q (.int (2^((zj (zG zA) r).length*nm.length))) H'
theorem VA(M:Bl mg)(F:Fun K "two_to_the" "two_to_the" px f fd):B2 P w K mg base CX0 1 f fd sY vz:=by
 have nd:=gi.nd
 refine F.ok gi ?_ ?_
 ·rintro _ _ _ _⟨_,rfl,_⟩
  rfl
 rintro _ _ _ _ H vs Q E hr⟨t,rfl,t0,t1,q⟩
 refine⟨_,(zN (zW (i:=1) nd rfl (NC rfl) zL) (zN (y9 c6 rfl (xi rfl M.range (z9 (pv 0) zD)) (zd (i:=2) nd rfl (NC rfl)) (zJ (zW (i:=1) nd rfl (NC rfl) (zP xo (pv 1) zL)))) (zJ (zR (pv 1))))),?_⟩
 refine NF rfl (NF rfl ⟨by lia,by lia,?_⟩)
 refine w4 (lo:=0) (n:=t.toNat) (fun i σ H'=>H'=H/\∃o,σ=[some (.int t),some (.int (2^i)),o]) ⟨rfl,_,rfl⟩ (fun i σ H' hi hp=>?_) (fun σ H' hp=>?_)
 ·obtain⟨rfl,o,rfl⟩:=hp
  refine(NF rfl (NG _ _ ⟨rfl,rfl,.inr ⟨by decide,by decide⟩,rfl,some (.int (0+(i:Int))),?_⟩))
  rw[Int.pow_succ]
  rfl
 ·obtain⟨rfl,o,rfl⟩:=hp
  exact NF rfl q
theorem Tp{A0:Addr}(M:Bl mg)(T:TxShelf K mg A0)(F:Fun K "course_count" "course_count" oq f fd)(B4:D5 P w K mg base 1 A0 "had" wV (we (ShD K A0)))
  (C3:Cal P w K mg base 3 "dark_numbers" ua (rM K)) (E8:Cal P w K mg base 1 "two_to_the" sY vz):B2 P w K mg base CX0 4 f fd uc (rf (ShD K A0)):=by
 have nd:=da.nd
 refine F.ok da ?_ ?_
 ·rintro _ _ _ _⟨_,_,_,_,_,_,rfl,_⟩
  rfl
 rintro _ _ _ _ H vs Q E hr⟨x,fp,nm,r,iss,zA,rfl,sh,hh,k⟩
 refine⟨_,(zN (zW (i:=1) nd rfl (NC rfl) (zX C3 (rm hr) rfl (z9 (wH B4 (rm hr) (pv 0)) (z9 (zt (pv 0) rfl) zD)))) (zJ (zR (zX E8 (rm hr) rfl (z9 (zP xo (zb zo rfl M.len bO (z9 (pv 1) zD)) (zb zo rfl M.len bO (z9 (zt (pv 0) rfl) zD))) zD))))),?_⟩
 obtain⟨dx,pn,fs,h1,h3,ln,lr,lm,gn⟩:∃dx pn fs,H x=some (.ins A0 dx fs)/\H pn=some (.tup (nm.map V.str))/\fs.lookup ("names":Str)=some (V.ref pn)/\fs.lookup ("reach":Str)=some (V.int r)/\fs.lookup ("had":Str)=none/\GoodN nm:=by
  obtain⟨dx,pn,pd,fs,kvs,_,h1,_,h3,_,l1,l2,_,lm,_,_,_,_,gn,_⟩:=sh
  exact⟨dx,pn,fs,h1,h3,l1,l2,lm _ (by simp),gn⟩
 have h60:∀n∈zG zA,1<=n/\n<=60:=fun n hn=>hh n (yh.mp hn).2
 refine NF rfl (NH x dx fs ⟨rfl,h1,lm,(NK x fp nm r _ zA ⟨rfl,sh,fun l H1 s1 e1=>?_⟩)⟩)
 refine NF rfl (NJ x A0 dx fs _ ⟨rfl,s1 _ _ h1,T.cl,T.n_reach,lr,(NH l (zG zA) r ⟨rfl,.inr (SqT.of e1),h60,c7 (va zA) (by decide),fun d H2 s2 e2=>?_⟩)⟩)
 have s12:=s1.trans s2
 have ld:((zj (zG zA) r).map V.int).length=(zj (zG zA) r).length:=bA _
 have lm':(nm.map V.str).length=nm.length:=bA _
 have l60:=qF (zG zA) r
 have n12:=gn.hi
 have lt:(zj (zG zA) r).length*nm.length<=60*12:=Nat.mul_le_mul l60 n12
 refine NF rfl (NG d _ ⟨rfl,.inr (SqT.of e2),NF rfl (NJ x A0 dx fs _ ⟨rfl,s12 _ _ h1,T.cl,T.n_names,ln,NG pn _ ⟨rfl,.inr (SqT.of (s12 _ _ h3)),NG _ _ ⟨rfl,rfl,?_,NF rfl ⟨?_,?_,?_⟩⟩⟩⟩)⟩)
 ·rw[ld]
  exact .inl ⟨by lia,by lia⟩
 ·exact Int.mul_nonneg (jV _) (jV _)
 ·rw[ld,lm',<- Int.natCast_mul]
  lia
 ·rw[ld,lm',<- Int.natCast_mul,fG]
  exact k H2 s12
noncomputable def agC(k:Nat)(ns:AJ)(z3:AL)(r:Int)(z:Str):Int:=
 if yF ns z3 r (zu (zi ns z3 z)) z="stale" then 2^((zj ns r).length*k) else 2^((zj ns r).length*k)-2^((zj ns r).length*k-(ye ns r (zu (zi ns z3 z))).length)
noncomputable def YU(Sh:ShP):Sp:=fun vs H Q _=>∃(x:Addr) (z:Str) (fp:List Addr) (nm:AF) (r:Int) (z3:AL) (zA:AJ),vs=[.ref x,.str z]/\Sh H x fp nm r (fun n=>yE z3 n r) zA/\z∈nm/\GoodN nm/\Rws nm z3/\z3.length<=60/\(∀n∈zA,1<=n/\n<=z3.length)/\0<=r/\r<=10/\
 ∀(H':Hp),B0 H H'->Q (.int (agC nm.length (zG zA) z3 r z)) H'
theorem UI(a b:Nat)(h:b<=a):(2:Int)^a / 2^b=2^(a-b):=by
 have e:(2:Int)^a=2^(a-b)*2^b:=by rw[<- Int.pow_add,Nat.sub_add_cancel h]
 rw[e]
 exact Int.mul_ediv_cancel _ (by have:=Int.pow_pos (n:=2) (m:=b) (by decide);lia)
theorem VZ{a b:Nat}(h:a<=b):(2:Int)^a<=2^b:=by
 have:=fE (n:=2) (by decide) h
 exact_mod_cast this
theorem Sl{A0:Addr}(M:Bl mg)(T:TxShelf K mg A0)(F:Fun K "again_count" "again_count" oU f fd)(E2:Cal P w K mg base 2 "held_for" uU (ti (ShD K A0)))
  (E1:Cal P w K mg base 5 "state_of" uT (tq (ShD K A0))) (B4:D5 P w K mg base 1 A0 "had" wV (we (ShD K A0)))
  (C4:Cal P w K mg base 4 "course_count" uc (rf (ShD K A0))) (E8:Cal P w K mg base 1 "two_to_the" sY vz)
  (B8:Cal P w K mg base 4 "dark_numbers_behind" sj (ky K)):B2 P w K mg base CX0 6 f fd oS (YU (ShD K A0)):=by
 have nd:=gx.nd
 refine F.ok gx ?_ ?_
 ·rintro _ _ _ _⟨_,_,_,_,_,_,_,rfl,_⟩
  rfl
 rintro _ _ _ _ H vs Q E hr⟨x,z,fp,nm,r,z3,zA,rfl,sh,hz,gn,R,l60,hh,r0,r1,k⟩
 refine⟨_,(zN (zW (i:=2) nd rfl (NC rfl) (zX E1 (rm hr) rfl (z9 (pv 0) (z9 (pv 1) zD)))) (zN (zW (i:=3) nd rfl (NC rfl) (zX C4 (rm hr) rfl (z9 (pv 0) zD))) (zN (ze (zZ yV (pv 2) (vI rfl M.STALE) (za _)) (zJ (zR (pv 3))) zf) (zN (zW (i:=4) nd rfl (NC rfl) (zh y8 (zX E2 (rm hr) rfl (z9 (pv 0) (z9 (pv 1) zD))) zL (fun _ _=>rfl))) (zN (zW (i:=5) nd rfl (NC rfl) (zX B8 (rm hr) rfl (z9 (wH B4 (rm hr) (pv 0)) (z9 (zt (pv 0) rfl) (z9 (pv 4) zD))))) (zN (zW (i:=6) nd rfl (NC rfl) (zP UZ (pv 3) (zX E8 (rm hr) rfl (z9 (zb zo rfl M.len bO (z9 (pv 5) zD)) zD)))) (zJ (zR (zP yu (pv 3) (pv 6)))))))))),?_⟩
 have hh60:∀n∈zA,1<=n/\n<=60:=fun n hn=>by have:=hh n hn;lia
 have h60:∀n∈zG zA,1<=n/\n<=60:=fun n hn=>hh60 n (yh.mp hn).2
 refine NF rfl (NF rfl (NL x z fp nm r z3 zA ⟨rfl,sh,hz,gn,R,l60,hh,r0,r1,fun H1 s1=>?_⟩))
 have sh1:=shOk.same sh s1
 refine NF rfl (NK x fp nm r _ zA ⟨rfl,sh1,hh60,fun H2 s2=>?_⟩)
 have sh2:=shOk.same sh1 s2
 refine NF rfl ⟨rfl,NF rfl (C0 (fun c=>?_) (fun c=>?_))⟩
 ·have c':yF (zG zA) z3 r (zu (zi (zG zA) z3 z)) z="stale":=V.str.inj (zx c)
  have e:=k H2 (s1.trans s2)
  unfold agC at e
  rw[Po c'] at e
  exact NF rfl e
 ·have c':¬yF (zG zA) z3 r (zu (zi (zG zA) z3 z)) z="stale":=fun e=>c (Pq (Pu V.str e))
  refine NF rfl (NF rfl (NL x z fp nm r z3 zA ⟨rfl,sh2,hz,gn,R,fun v H3 s3 tv=>?_⟩))
  obtain⟨b,y,rfl,eb,_⟩:=tJ tv
  refine NI b _ _ _ ⟨rfl,rfl,SqT.of eb,yT rfl,?_⟩
  have sh3:=shOk.same sh2 s3
  obtain⟨dx,fs,h1,lm,lr⟩:∃dx fs,H3 x=some (.ins A0 dx fs)/\fs.lookup ("had":Str)=none/\fs.lookup ("reach":Str)=some (V.int r):=by
   obtain⟨dx,pn,pd,fs,kvs,_,h1,_,_,_,_,lr,_,lm,_⟩:=sh3
   exact⟨dx,fs,h1,lm _ (by simp),lr⟩
  refine NF rfl (NH x dx fs ⟨rfl,h1,lm,(NK x fp nm r _ zA ⟨rfl,sh3,fun l H4 s4 e4=>?_⟩)⟩)
  refine NF rfl (NJ x A0 dx fs _ ⟨rfl,s4 _ _ h1,T.cl,T.n_reach,lr,NF rfl (NI l (zG zA) r _ ⟨rfl,.inr (SqT.of e4),h60,c7 (va zA) (by decide),fun d H5 s5 e5=>?_⟩)⟩)
  have e:=k H5 (s1.trans (s2.trans (s3.trans (s4.trans s5))))
  unfold agC at e
  rw[Pn c'] at e
  have ld:((ye (zG zA) r (zu (zi (zG zA) z3 z))).map V.int).length=(ye (zG zA) r (zu (zi (zG zA) z3 z))).length:=bA _
  have bd:(ye (zG zA) r (zu (zi (zG zA) z3 z))).length<=(zj (zG zA) r).length:=cL _ _
  have d60:=qF (zG zA) r
  have lb:(ye (zG zA) r (zu (zi (zG zA) z3 z))).length<=(zj (zG zA) r).length*nm.length:=c7 bd (fR _ gn.lo)
  have p64:(2:Int)^(ye (zG zA) r (zu (zi (zG zA) z3 z))).length<18446744073709551616:=Int.lt_of_le_of_lt (VZ (c7 bd d60)) (by decide)
  refine NF rfl (NF rfl (NG d _ ⟨rfl,.inr (SqT.of e5),(NF rfl ⟨by lia,by lia,?_⟩)⟩))
  rw[ld,fG]
  refine NG _ _ ⟨rfl,rfl,⟨Int.pow_pos (by decide),p64⟩,NF rfl (NF rfl (NG _ _ ⟨rfl,rfl,?_⟩))⟩
  rw[UI _ _ lb]
  exact e
noncomputable def rP(Sh:ShP):Sp:=fun vs H Q _=>∃(x:Addr) (fp:List Addr) (nm:AF) (r:Int) (z3:AL) (zA:AJ) (m:Nat),vs=[.ref x]/\Sh H x fp nm r (fun n=>yE z3 n r) zA/\GoodN nm/\Rws nm z3/\z3.length<=60/\(∀n∈zA,1<=n/\n<=z3.length)/\0<=r/\r<=10/\yZ zA m/\
 ∀(v:V) (H':Hp),B0 H H'->Tell H' (.tup ((zc m (zG zA) z3 r).map optD)) v->Q v H'
theorem Yo{zA:AJ}{m:Nat}(h60:∀n∈zA,1<=n/\n<=60)(t:yZ zA m):zG (zG zA++zz (zG zA))=upI 1 m:=wR (wW _) (xt _ _) fun x=>by
 have inr:∀y,y∈zG zA↔y∈zA:=fun y=>by
  rw[yh]
  exact⟨fun h=>h.2,fun h=>⟨by have:=h60 y h;lia,h⟩⟩
 rw[yh,bZ,yx,xr]
 constructor
 ·rintro⟨h1,h|⟨_,_,y,hy,h⟩⟩
  ·have:=t.2 x ((inr x).mp h)
   lia
  ·have:=t.2 y ((inr y).mp hy)
   lia
 ·rintro⟨h1,h2⟩
  rcases t.1 with q|⟨_,q⟩
  ·have:=h60 _ q
   refine⟨by lia,?_⟩
   by_cases c:x∈zG zA
   ·exact .inl c
   ·refine .inr ⟨by lia,c,m,(inr _).mpr q,?_⟩
    have:x≠(m:Int):=fun e=>c (by rw[e];exact(inr _).mpr q)
    lia
  ·lia
theorem YJ{kvs:List (Key×V)}{ks:AJ}(kk:kvs.map (·.1)=ks.map Sum.inl){n:Int}(hn:n∉ks)(v:V):putK kvs (Sum.inl n) v=kvs++[(Sum.inl n,v)]:=by
 refine Yf _ ?_
 have:=rO kk n
 rw[Pt hn] at this
 cases e:I0 kvs (Sum.inl n:Key) with
 | none=>rfl
 | some v=>rw[e] at this;cases this
theorem Ue{A0:Addr}(M:Bl mg)(F:Fun K "known_sets" "known_sets" pN f fd)(B4:D5 P w K mg base 1 A0 "had" wV (we (ShD K A0)))(D1:D5 P w K mg base 1 A0 "rows_of" sf (ke (ShD K A0)))
  (D0:Cal P w K mg base 1 "names_of_rows" si lV) (K1:Cal P w K mg base 3 "gaps_of" tI (lj (ShD K A0))):B2 P w K mg base CX0 4 f fd uW (rP (ShD K A0)):=by
 have nd:=ie.nd
 refine F.ok ie ?_ ?_
 ·rintro _ _ _ _⟨_,_,_,_,_,_,_,rfl,_⟩
  rfl
 rintro _ _ _ _ H vs Q E hr⟨x,fp,nm,r,z3,zA,m,rfl,sh,gn,R,l60,hh,r0,r10,it,k⟩
 have hu:=vN hr
 refine⟨_,(zN (zW (i:=1) nd rfl (Or.inr rfl) Yj) (zN (y9 c6 rfl (yt (wH B4 (rm hr) (pv 0))) (zd (i:=2) nd rfl (NC rfl)) (zJ (ml hu (pv 1) (pv 2) (zX D0 (rm hr) rfl (z9 (xV D1 (rm hr) (pv 0) (z9 (pv 2) zD)) zD)) rfl))) (zN (y9 c6 rfl (yt (zX K1 (rm hr) rfl (z9 (pv 0) zD))) (aj rfl (xI (zd (i:=2) nd rfl (NC rfl)) (xI (zd (i:=3) nd rfl (NC rfl)) (xI (zd (i:=4) nd rfl (NC rfl)) vC)))) (zJ (ml hu (pv 1) (pv 2) (vt (zZ yV (pv 3) zL (za _)) vR (pv 4)) rfl))) (zJ (zR (yD ym rfl M.tuple bS (z9 (xH ["number"] ["sets"] [1] rfl (yY rfl (by decide +kernel) rfl (by decide +kernel) rfl rfl) (xG (zb (cq rfl) rfl M.sorted gL (z9 (pv 1) zD))) (fun _ _ _ _ _=>(zd (i:=0) (show((["number"]:List PySem.Str)++(["sets"]:List PySem.Str)).Nodup from by decide +kernel) rfl (NC rfl))) (yG (by decide)) zl (fun _ _ _ _ _=>xU) (fun _ _ _ _ _=>(vn hu (pv 1) (pv 0) (fun _ _=>rfl)))) zD))))))),?_⟩
 have h60:∀n∈zA,1<=n/\n<=60:=fun n hn=>by have:=hh n hn;lia
 have rl:=va zA
 have ll:=u5 (zG zA)
 obtain⟨dx,fs,h1,lm,lo⟩:∃dx fs,H x=some (.ins A0 dx fs)/\fs.lookup ("had":Str)=none/\fs.lookup ("rows_of":Str)=none:=by
  obtain⟨dx,pn,pd,fs,kvs,_,h1,_,_,_,_,lr,_,lm,_⟩:=sh
  exact⟨dx,fs,h1,lm _ (by simp),lm _ (by simp)⟩
 intro d hd
 have s0:=zH hd (.dK [])
 have e0:upd H d (.dK []) d=some (.dK []):=zM
 generalize upd H d (.dK [])=H0 at s0 e0
 refine NF rfl (NH x dx fs ⟨rfl,s0 _ _ h1,lm,(NK x fp nm r _ zA ⟨rfl,shOk.same sh s0,fun l H1 s1 e1=>?_⟩)⟩)
 have s01:=s0.trans s1
 refine⟨l,rfl,⟨_,SqT.of e1⟩,wo (K:=K) (a:=l) (xs:=(zG zA).map V.int) (fun i σ G=>∃(kvs:List (Key×V)) (o2:Option V),B0 H G/\G l=some (.tup ((zG zA).map V.int))/\G d=some (.dK kvs)/\kvs.map (·.1)=((zG zA).take i).map Sum.inl/\(∀n v,(Sum.inl n,v)∈kvs->Tell G (zY (zk (zg z3 n))) v)/\
   σ=[some (.ref x),some (.ref d),o2,none,none]) ⟨[],none,s01,e1,s1 _ _ e0,by rw[cW];rfl,fun _ _ q=>(nomatch q),rfl⟩ (fun i σ G _ ⟨_,_,_,e,_⟩=>SqT.of e) ?_ ?_⟩
 ·rintro i y σ G hy ⟨kvs,o2,sG,elG,edG,kk,tk,rfl⟩
  rw[bE] at hy
  obtain⟨n,en,rfl⟩:=bV.mp hy
  have nh:n∈zA:=(yh.mp (bH en)).2
  have lk:kvs.length<=60:=by
   have:=Pu List.length kk
   rw[bA,bA,bL] at this
   lia
  refine NF rfl (NH x dx fs ⟨rfl,sG _ _ h1,lo,NF rfl (Z4 x fp nm r _ zA n _ _ _ ⟨rfl,shOk.same sh sG,nh,rfl,fun v tv=>?_⟩)⟩)
  obtain⟨a,us,rfl,ea,_,tu⟩:=zr tv
  refine(NH a us (zg z3 n) ⟨rfl,ea,tu,lR gn R n,fun q G1 s1' eq=>?_⟩)
  refine NF rfl (NF rfl (NG d _ ⟨rfl,R0.k (k:=Sum.inl n) (s1' _ _ edG) (zp (by lia)),?_⟩))
  have nin:n∉(zG zA).take i:=fun h=>by
   have:=(wW zA)
   rw[<- jA (i+1) (zG zA),zq en] at this
   have:=(dF.mp (dF.mp this).1).2.2 n h n (bD.mpr rfl)
   lia
  rw[YJ kk nin]
  have nl:l≠d:=xW elG edG (by intro z;cases z)
  refine⟨_,_,wQ (sG.trans s1') hd,by rw[zS nl];exact s1' _ _ elG,zM,?_,fun n' v' hv=>?_,rfl⟩
  ·rw[bM,kk,zq en,bM]
   rfl
  ·refine Tell.over (s1' _ _ edG) (fun _ z=>by cases z) _ _ ?_
   rcases bZ.mp hv with h|h
   ·exact Tell.keep s1' _ _ (tk n' v' h)
   ·rw[bD] at h
    cases h
    exact zw eq (by rw[bA];have:=aL R gn n;lia) (vc _)
 rintro σ H2 ⟨kvs,o2,s2,_,ed2,kk2,tk2,rfl⟩
 rw[bA,bY] at kk2
 have sh2:=shOk.same sh s2
 refine NF rfl (NK x fp nm r z3 zA ⟨rfl,sh2,gn,R,l60,hh,r0,r10,fun gv H3 s3 tg=>?_⟩)
 obtain⟨ag,gz,rfl,eag,_,tgz⟩:=zr tg
 have lgz:gz.length=(zz (zG zA)).length:=by
  rw[tgz.length]
  unfold v9
  rw[bA]
 have s23:=s2.trans s3
 refine⟨ag,rfl,⟨_,SqT.of eag⟩,wo (K:=K) (a:=ag) (xs:=gz) (fun i σ G=>∃(kvs:List (Key×V)) (o2 o3 o4:Option V),B0 H G/\G ag=some (.tup gz)/\zF G (v9 (zG zA) z3 r) gz/\G d=some (.dK kvs)/\kvs.map (·.1)=(zG zA++(zz (zG zA)).take i).map Sum.inl/\(∀n v,(Sum.inl n,v)∈kvs->Tell G (optD (yX (zG zA) z3 r n)) v)/\
   σ=[some (.ref x),some (.ref d),o2,o3,o4]) ⟨kvs,_,_,_,s23,eag,tgz,s3 _ _ ed2,by rw[cW,dB];exact kk2,fun n v hv=>?_,rfl⟩ (fun i σ G _ ⟨_,_,_,_,_,e,_⟩=>SqT.of e) ?_ ?_⟩
 ·have hm:n∈zG zA:=by
   have:(Sum.inl n:Key)∈kvs.map (·.1):=cD.mpr ⟨_,hv,rfl⟩
   rw[kk2] at this
   obtain⟨n',h,e⟩:=cD.mp this
   cases e
   exact h
  unfold yX
  rw[Po (.inl hm)]
  exact Tell.keep s3 _ _ (tk2 n v hv)
 ·rintro i y σ G hy ⟨kvs,o2,o3,o4,sG,eaG,tG,edG,kk,tk,rfl⟩
  obtain⟨n,a,b,en,rfl,ha,hb⟩:=Xq tG hy
  have hlk:=bH en
  have hin:n∉zG zA:=(xr.mp hlk).2.1
  have lk:kvs.length<=120:=by
   have:=Pu List.length kk
   rw[bA,bA,bF,bL] at this
   lia
  have nin:n∉zG zA++(zz (zG zA)).take i:=fun h=>by
   rcases bZ.mp h with h|h
   ·exact hin h
   ·have:=uY (zG zA)
    rw[<- jA (i+1) (zz (zG zA)),zq en] at this
    have:=(dF.mp (dF.mp this).1).2.2 n h n (bD.mpr rfl)
    lia
  have nag:ag≠d:=xW eaG edG (by intro z;cases z)
  refine NG a _ ⟨rfl,SqT.of ha,rfl,NG _ _ ⟨rfl,NG _ _ ⟨rfl,NG _ _ ⟨rfl,rfl,?_⟩⟩⟩⟩
  have fin:∀v,Tell G (optD (yX (zG zA) z3 r n)) v->∃(Z3:List (Key×V)) (o2 o3 o4:Option V),B0 H (upd G d (.dK (putK kvs (Sum.inl n) v)))/\upd G d (.dK (putK kvs (Sum.inl n) v)) ag=some (.tup gz)/\zF (upd G d (.dK (putK kvs (Sum.inl n) v))) (v9 (zG zA) z3 r) gz/\upd G d (.dK (putK kvs (Sum.inl n) v)) d=some (.dK Z3)/\Z3.map (·.1)=(zG zA++(zz (zG zA)).take (i+1)).map Sum.inl/\(∀n' v',(Sum.inl n',v')∈Z3->Tell (upd G d (.dK (putK kvs (Sum.inl n) v))) (optD (yX (zG zA) z3 r n')) v')/\
    [some (V.ref x),some (.ref d),some (.int n),some (.int (zy (zG zA) n r)),some (.ref b)]=[some (V.ref x),some (.ref d),o2,o3,o4]:=fun v tv=>by
   rw[YJ kk nin]
   refine⟨_,_,_,_,wQ sG hd,by rw[zS nag];exact eaG,zF.over edG (fun _ z=>by cases z) _ _ tG,zM,?_,fun n' v' hv=>?_,rfl⟩
   ·rw[bM,kk,zq en,<- eB,bM (l₁:=zG zA++_)]
    rfl
   ·refine Tell.over edG (fun _ z=>by cases z) _ _ ?_
    rcases bZ.mp hv with h|h
    ·exact tk n' v' h
    ·rw[bD] at h
     cases h
     exact tv
  refine NF rfl ⟨rfl,NF rfl ?_⟩
  by_cases c:zy (zG zA) n r=0
  ·rw[Pq (Pu V.int c)]
   refine F3 (NF rfl (NF rfl (NG d _ ⟨rfl,R0.k (k:=Sum.inl n) edG (zp (by lia)),fin .non ?_⟩)))
   unfold yX
   rw[Pn (fun h=>h.elim hin fun h=>h c)]
   exact tF
  ·rw[Pt (fun e=>c (V.int.inj e))]
   refine C1 (NF rfl (NF rfl (NF rfl (NG d _ ⟨rfl,R0.k (k:=Sum.inl n) edG (zp (by lia)),fin (.ref b) ?_⟩))))
   unfold yX
   rw[Po (.inr c)]
   unfold xf at hb
   rw[Pn c] at hb
   exact zw hb (by rw[bA];have:=aL R gn n;lia) (vc _)
 rintro σ H4 ⟨kvs,p2,p3,p4,s4,_,_,ed4,kk4,tk4,rfl⟩
 rw[lgz,bY] at kk4
 have U7:m<=60:=by have:=it.le (k:=60) (by decide) fun x hx=>(h60 x hx).2;lia
 have knd:(zG zA++zz (zG zA)).Nodup:=eY.mpr ⟨(wW zA).imp fun h=>Int.ne_of_lt h,(uY _).imp fun h=>Int.ne_of_lt h,fun a ha b hb e=>(xr.mp hb).2.1 (e ▸ ha)⟩
 have kall:∀n∈zG zA++zz (zG zA),1<=n/\n<=60:=fun n hn=>by
  rcases bZ.mp hn with h|h
  ·exact h60 n (yh.mp h).2
  ·have:=(xr.mp h).1
   lia
 refine(NF rfl (NH d kvs (zG zA++zz (zG zA)) ⟨rfl,ed4,kk4,d8 (uG knd kall) (by decide),fun ls ms hls hp hs=>?_⟩))
 have ems:ms=upI 1 m:=by
  rw[rQ knd kall hp hs]
  exact Yo h60 it
 subst ems
 have s5:=zH hls (.lst ((upI 1 m).map V.int))
 have e5:upd H4 ls (.lst ((upI 1 m).map V.int)) ls=some (.lst ((upI 1 m).map V.int)):=zM
 have ed5:=s5 _ _ ed4
 generalize upd H4 ls (.lst ((upI 1 m).map V.int))=H5 at s5 e5 ed5
 refine⟨ls,rfl,⟨_,SqL.of e5⟩,?_⟩
 refine vY (xs:=(upI 1 m).map V.int) (fun i ys G=>G=H5/\zF H5 (((upI 1 m).take i).map fun n=>optD (yX (zG zA) z3 r n)) ys) ⟨rfl,by rw[cW];exact .nil⟩ (fun i ys G hi hp=>?_) (fun i y ys G hy hp=>?_) (fun ys G hp=>?_)
 ·obtain⟨rfl,t⟩:=hp
  refine⟨SqL.of e5,zp ?_⟩
  rw[t.length,bA,bL,xk]
  lia
 ·obtain⟨rfl,t⟩:=hp
  rw[bE] at hy
  obtain⟨n,en,rfl⟩:=bV.mp hy
  have hn:n∈zG zA++zz (zG zA):=by
   have:=bH en
   rw[<- Yo h60 it] at this
   exact(yh.mp this).2
  obtain⟨v,ev,mv⟩:=tO kk4 hn
  refine NF rfl (NF rfl (NG d v ⟨rfl,(by rw[<- ev];exact L5.k (k:=Sum.inl n) ed5),rfl,?_⟩))
  rw[zq en,bM]
  exact zF.snoc t (Tell.keep s5 _ _ (tk4 n v mv))
 ·obtain⟨rfl,t⟩:=hp
  rw[bA,bY] at t
  intro D hD
  refine(NG D ys ⟨rfl,.inl ⟨SqL.of zM,fun q hq=>k _ _ (s4.trans (s5.trans ((zH hD _).trans (zH hq _)))) (zw zM ?_ (zF.keep ((zH hD _).trans (zH hq _)) _ _ ?_))⟩⟩)
  ·rw[bA,x9]
   lia
  ·unfold zc
   rw[eJ]
   exact t
noncomputable def yA(c:List AF):DV:=.tup (c.map zY)
noncomputable def yr(ks:List (Option AF)):List AF:=ks.map fun o=>o.getD []
noncomputable def wL(c:List AF)(d:Nat)(z:Str):List AF:=c.take (d-1)++[[z]]++c.drop d
theorem zF.drop{H:Hp}:∀{ds:List DV}{xs:AK} (n:Nat),zF H ds xs->zF H (ds.drop n) (xs.drop n)
 | _,_,0,h=>h
 | [],_,n+1,h=>by
  have:=xx h
  subst this
  exact .nil
 | d0::ds,_,n+1,h=>by
  obtain⟨x0,r,rfl,h1,h2⟩:=yM h
  exact zF.drop n h2
theorem YG{zA:AJ}{r:Int}{m:Nat}(h60:∀n∈zA,1<=n/\n<=60)(t:yZ zA m){d:Int}(hd:d∈zj (zG zA) r):1<=d/\d<(m:Int):=by
 obtain⟨h1,_⟩:=tf.mp hd
 obtain⟨h2,_,y,hy,h3⟩:=xr.mp h1
 have:=t.2 y (yh.mp hy).2
 lia
theorem XJ{ns:AJ}{z3:AL}{r num:Int}{z:Str}(h:yF ns z3 r num z="open"):∃n∈zj ns r,num<n:=by
 unfold yF at h
 split at h
 ·exact ND h (by decide)
 ·split at h
  ·exact ND h (by decide)
  ·rename_i c
   refine dA fun q=>c (sV.mpr fun n hn=>?_)
   exact Int.not_lt.mp fun z=>q ⟨n,hn,z⟩
noncomputable def aN(Sh:ShP):Sp:=fun vs H Q _=>∃(x:Addr) (z:Str) (fp:List Addr) (nm:AF) (r:Int) (z3:AL) (zA:AJ) (m:Nat),vs=[.ref x,.str z]/\Sh H x fp nm r (fun n=>yE z3 n r) zA/\z∈nm/\GoodN nm/\Rws nm z3/\z3.length<=60/\(∀n∈zA,1<=n/\n<=z3.length)/\0<=r/\r<=10/\yZ zA m/\
 (yF (zG zA) z3 r (zu (zi (zG zA) z3 z)) z≠"open"->∀H',B0 H H'->Q .non H')/\
 (yF (zG zA) z3 r (zu (zi (zG zA) z3 z)) z="open"->∀(d:Nat),(d:Int)∈zj (zG zA) r->(∀y∈zj (zG zA) r,y<=(d:Int))->∀(v:V) (H':Hp),B0 H H'->Tell H' (.tup [yA (yr (zc m (zG zA) z3 r)),yA (wL (yr (zc m (zG zA) z3 r)) d z)]) v->Q v H')
theorem WI{A0:Addr}(M:Bl mg)(T:TxShelf K mg A0)(F:Fun K "two_courses" "two_courses" oJ f fd)(E1:Cal P w K mg base 5 "state_of" uT (tq (ShD K A0)))(C8:Cal P w K mg base 4 "known_sets" uW (rP (ShD K A0)))
  (B4:D5 P w K mg base 1 A0 "had" wV (we (ShD K A0))) (C3:Cal P w K mg base 3 "dark_numbers" ua (rM K)):B2 P w K mg base CX0 6 f fd oQ (aN (ShD K A0)):=by
 have nd:=fg.nd
 refine F.ok fg ?_ ?_
 ·rintro _ _ _ _⟨_,_,_,_,_,_,_,_,rfl,_⟩
  rfl
 rintro _ _ _ _ H vs Q E hr⟨x,z,fp,nm,r,z3,zA,m,rfl,sh,hz,gn,R,l60,hh,r0,r10,it,k1,k2⟩
 refine⟨_,(zN (ze (zZ xn (zX E1 (rm hr) rfl (z9 (pv 0) (z9 (pv 1) zD))) (vI rfl M.OPEN) (za _)) (zJ (zR vR)) zf) (zN (zW (i:=2) nd rfl (NC rfl) (yD ym rfl M.tuple bS (z9 (xH ["known"] [] [] rfl (yY rfl (by decide +kernel) rfl (by decide +kernel) rfl rfl) (yt (zX C8 (rm hr) rfl (z9 (pv 0) zD))) (fun _ _ _ _ _=>(zd (i:=0) (show((["known"]:List PySem.Str)++([]:List PySem.Str)).Nodup from by decide +kernel) rfl (NC rfl))) (yG (by decide)) zl (fun _ _ _ _ _=>xU) (fun _ _ _ _ _=>(vt (vA (vP (pv 0))) (yH zD) (pv 0)))) zD))) (zN (zW (i:=3) nd rfl (NC rfl) (zb (XZ rfl) rfl M.max fM (z9 (zX C3 (rm hr) rfl (z9 (wH B4 (rm hr) (pv 0)) (z9 (zt (pv 0) rfl) zD))) zD))) (zN (zW (i:=4) nd rfl (NC rfl) (zP uy (zP uy (wu YB (pv 2) wg (wt (zP yu (pv 3) zL))) (yH (z9 (yH (z9 (pv 1) zD)) zD))) (wu YB (pv 2) (wt (pv 3)) wg))) (zJ (zR (yH (z9 (pv 2) (z9 (pv 4) zD))))))))),?_⟩
 have h60:∀n∈zA,1<=n/\n<=60:=fun n hn=>by have:=hh n hn;lia
 have N1:∀n∈zG zA,1<=n/\n<=60:=fun n hn=>h60 n (yh.mp hn).2
 have U7:m<=60:=by have:=it.le (k:=60) (by decide) fun x hx=>(h60 x hx).2;lia
 obtain⟨dx,fs,h1,lm,lr⟩:∃dx fs,H x=some (.ins A0 dx fs)/\fs.lookup ("had":Str)=none/\fs.lookup ("reach":Str)=some (V.int r):=by
  obtain⟨dx,pn,pd,fs,kvs,_,h1,_,_,_,_,lr,_,lm,_⟩:=sh
  exact⟨dx,fs,h1,lm _ (by simp),lr⟩
 refine NF rfl (NF rfl (NL x z fp nm r z3 zA ⟨rfl,sh,hz,gn,R,l60,hh,r0,r10,fun H1 s1=>⟨rfl,NF rfl ?_⟩⟩))
 by_cases c:yF (zG zA) z3 r (zu (zi (zG zA) z3 z)) z="open"
 case neg=>
  rw[Pt (fun e=>c (V.str.inj e))]
  exact F3 (k1 c H1 s1)
 rw[Pq (Pu V.str c)]
 refine C1 ?_
 have sh1:=shOk.same sh s1
 refine NF rfl (NL x fp nm r z3 zA m ⟨rfl,sh1,gn,R,l60,hh,r0,r10,it,fun kv H2 s2 tk=>?_⟩)
 obtain⟨ak,us,rfl,eak,_,tus⟩:=zr tk
 have lus:us.length=m:=by rw[tus.length,bA,x9]
 refine⟨ak,rfl,⟨_,SqT.of eak⟩,?_⟩
 refine wI (xs:=us) (fun i ys G=>B0 H2 G/\zF G ((yr ((zc m (zG zA) z3 r).take i)).map zY) ys) ⟨B0.refl _,by rw[cW];exact .nil⟩ (fun i ys G hi hp=>?_) (fun i y ys G hy hp=>?_) (fun ys G hp=>?_)
 ·obtain⟨g,t⟩:=hp
  refine⟨SqT.of (g _ _ eak),zp ?_⟩
  rw[t.length,bA]
  unfold yr
  rw[bA,bL,x9]
  lia
 ·obtain⟨g,t⟩:=hp
  obtain⟨d,ed,td⟩:=tus.at i y hy
  rw[bE] at ed
  obtain⟨o,eo,rfl⟩:=bV.mp ed
  have eb:yr ((zc m (zG zA) z3 r).take (i+1))=yr ((zc m (zG zA) z3 r).take i)++[o.getD []]:=by
   unfold yr
   rw[zq eo,bM]
   rfl
  rw[eb,bM]
  cases o with
  | none=>
   have ey:y=.non:=by
    unfold optD Tell at td
    exact td
   subst ey
   refine NF rfl (NF rfl (F3 ⟨(NB 0),fun t0 ht0=>⟨g.trans (zH ht0 _),?_⟩⟩))
   exact zF.snoc (zF.keep (zH ht0 _) _ _ t) (zw zM (by decide) .nil)
  | some zs=>
   obtain⟨b,ws,rfl,eb',lb,tb⟩:=zr (show Tell H2 (zY zs) y from td)
   refine NF rfl (NF rfl (C1 (NF rfl ⟨g,?_⟩)))
   exact zF.snoc t (Tell.keep g _ _ td)
 obtain⟨g,t⟩:=hp
 rw[lus,cN (by rw[x9];exact bG _)] at t
 intro D hD
 refine(NG D ys ⟨rfl,.inl ⟨SqL.of zM,fun an han=>?_⟩⟩)
 have s3:=g.trans ((zH hD (.lst ys)).trans (zH han (.tup ys)))
 have t3:=zF.keep ((zH hD (.lst ys)).trans (zH han (.tup ys))) _ _ t
 have en:upd (upd G D (.lst ys)) an (.tup ys) an=some (.tup ys):=zM
 generalize upd (upd G D (.lst ys)) an (.tup ys)=H3 at s3 t3 en
 have lys:ys.length=m:=by
  rw[t3.length,bA]
  unfold yr
  rw[bA,x9]
 have c13:=s2.trans s3
 have sh3:=shOk.same sh1 c13
 have h13:=(s1.trans c13) _ _ h1
 refine NF rfl (NH x dx fs ⟨rfl,h13,lm,(NK x fp nm r _ zA ⟨rfl,sh3,fun lh H4 s4 e4=>?_⟩)⟩)
 refine NF rfl (NJ x A0 dx fs _ ⟨rfl,s4 _ _ h13,T.cl,T.n_reach,lr,(NH lh (zG zA) r ⟨rfl,.inr (SqT.of e4),N1,c7 (va zA) (by decide),fun ld H5 s5 e5=>?_⟩)⟩)
 obtain⟨n0,hn0,_⟩:=XJ c
 refine(NG ld (zj (zG zA) r) ⟨rfl,.inr (SqT.of e5),lB hn0,fun dm hdm topd=>?_⟩)
 have hdr:=YG h60 it hdm
 obtain⟨d,rfl⟩:∃d:Nat,dm=(d:Int):=⟨dm.toNat,by lia⟩
 have s35:=s4.trans s5
 have en5:=s35 _ _ en
 have t5:=zF.keep s35 _ _ t3
 have ed1:(d:Int)-1=((d-1:Nat):Int):=by lia
 have ltm:∀l:AK,l.length<=60->l.length<sizeLine:=fun l h=>zp (by lia)
 refine NF rfl (NF rfl (NG _ _ ⟨rfl,rfl,NF rfl (NG an ys ⟨rfl,en5,fun p1 H6 s6 e6=>?_⟩)⟩))
 rw[ed1,Uz (by rw[lys];lia)] at e6
 refine(NF rfl ⟨(NB 1),fun t1 ht1=>⟨(NB 1),fun t2 ht2=>?_⟩⟩)
 have s7:=(zH ht1 (.tup [V.str z])).trans (zH ht2 (.tup [V.ref t1]))
 have e7:upd (upd H6 t1 (.tup [V.str z])) t2 (.tup [V.ref t1]) t2=some (.tup [V.ref t1]):=zM
 have et1:=zH ht2 (.tup [V.ref t1]) _ _ (show upd H6 t1 (.tup [V.str z]) t1=_ from zM)
 generalize upd (upd H6 t1 (.tup [V.str z])) t2 (.tup [V.ref t1])=H7 at s7 e7 et1
 refine(NI p1 t2 _ _ ⟨rfl,rfl,s7 _ _ e6,e7,?_,fun p3 H8 s8 e8=>?_⟩)
 ·rw[bL]
  exact dJ (zp (by show min (d-1) ys.length+1<=1000;lia))
 have s58:=s6.trans (s7.trans s8)
 refine NF rfl (NF rfl (NF rfl (NG an ys ⟨rfl,s58 _ _ en5,fun p4 H9 s9 e9=>?_⟩)))
 rw[Tf (by rw[lys];lia)] at e9
 refine(NI p3 p4 _ _ ⟨rfl,rfl,s9 _ _ e8,e9,?_,fun p5 HA sA eA=>?_⟩)
 ·rw[bF,bL,dL]
  exact dJ (zp (by show min (d-1) ys.length+1+(ys.length-d)<=1000;lia))
 have s5A:=s58.trans (s9.trans sA)
 refine NF rfl (NF rfl ⟨(NB 2),fun tz htz=>?_⟩)
 have sz:=s5A.trans (zH htz (.tup [V.ref an,V.ref p5]))
 have tyz:=zF.keep sz _ _ t5
 refine k2 c d hdm topd (.ref tz) _ (s1.trans (c13.trans (s35.trans sz))) (zw zM (by show 2<=1000000;decide) (.cons (zw (sz _ _ en5) ?_ tyz) (.cons (zw (zH htz _ _ _ eA) ?_ ?_) .nil)))
 ·rw[bA,<- bA (f:=zY),<- tyz.length]
  lia
 ·rw[bA]
  unfold wL yr
  rw[bF,bF,bL,dL,bA,x9]
  show min (d-1) m+1+(m-d)<=1000000
  lia
 ·unfold wL
  rw[bM,bM,List.map_take,List.map_drop]
  refine zF.append (zF.append (zF.take _ tyz) (.cons ?_ .nil)) (zF.drop _ tyz)
  exact zw ((s8.trans (s9.trans (sA.trans (zH htz _)))) _ _ et1) (by show 1<=1000000;decide) (.cons (vG z) .nil)
noncomputable def OkO(nm:AF)(o:Option AF)(zs:AF):Prop:=zs.Sublist nm/\∀ws,o=some ws->zs=ws
noncomputable def yf(nm:AF)(ks:List (Option AF))(c:List AF):Prop:=c.length=ks.length/\∀(i:Nat) (o:Option AF) (zs:AF),ks[i]? = some o->c[i]? = some zs->OkO nm o zs
theorem XN{nm:AF}(nd:nm.Nodup){i:Nat}(h:i<nm.length):nm.idxOf nm[i]=i:=by
 have h1:nm.idxOf nm[i]<nm.length:=jF (fT h)
 have h2:nm[nm.idxOf nm[i]]=nm[i]:=lC h1
 have pw:=gB.mp nd
 rcases lG (nm.idxOf nm[i]) i with c|c|c
 ·exact ND h2 (pw _ _ h1 h c)
 ·exact c
 ·exact ND h2.symm (pw _ _ h h1 c)
theorem ZR{nm zs:AF}(nd:nm.Nodup)(hin:∀z∈zs,z∈nm):(zs.map fun z=>nm.idxOf z).Pairwise (· < ·)↔zs.Sublist nm:=by
 constructor
 ·intro h
  have e:zs=(zs.attach.map fun z=>(⟨nm.idxOf z.1,jF (hin z.1 z.2)⟩:Fin nm.length)).map fun i=>nm[i]:=by
   rw[eJ]
   refine(List.ext_getElem (by rw[bA,List.length_attach]) fun i h1 h2=>?_)
   rw[List.getElem_map,kZ]
   exact(lC _).symm
  rw[e]
  refine List.map_getElem_sublist ?_
  rw[dC] at h ⊢
  rw[gB] at h ⊢
  intro i j hi hj hij
  rw[List.length_attach] at hi hj
  have:=h i j hi hj hij
  rw[kZ,kZ]
  exact this
 ·intro h
  obtain⟨is,rfl,hp⟩:=List.sublist_eq_map_getElem h
  rw[eJ,dC]
  refine hp.imp fun {a b} hab=>?_
  show nm.idxOf nm[a]<nm.idxOf nm[b]
  have ha:nm.idxOf nm[a]=a.1:=XN nd a.2
  have hb:nm.idxOf nm[b]=b.1:=XN nd b.2
  rw[ha,hb]
  exact hab
theorem SV{nm:AF}{z:Str}(h:z∈nm):nm[nm.idxOf z]? = some z/\∀m,m<nm.idxOf z->nm[m]? ≠ some z:=by
 have h1:=jF h
 refine⟨by rw[bC h1,lC h1],fun m hm e=>?_⟩
 have hm':m<nm.length:=by lia
 rw[bC hm'] at e
 have e':=Option.some.inj e
 have hf:(nm[m] == z)=false:=List.not_of_lt_findIdx (p:=(· == z)) (xs:=nm) hm
 rw[e',OH] at hf
 cases hf
theorem RT{ps:List Nat}{j:Nat}(h:(ps.take (j+1)).Pairwise (· < ·)){a b:Nat}(ha:ps[j]? = some a)(hb:ps[j+1]? = some b)(hab:a<b):(ps.take (j+1+1)).Pairwise (· < ·):=by
 rw[zq hb]
 refine dF.mpr ⟨h,eU _ _,fun x hx y hy=>?_⟩
 rw[bD.mp hy]
 rw[zq ha] at h hx
 rcases bZ.mp hx with hx|hx
 ·have:=(dF.mp h).2.2 x hx a (bD.mpr rfl)
  lia
 ·rw[bD.mp hx]
  exact hab
theorem sE(a b:AF):ya (a.map V.str) (b.map V.str)=decide (a=b):=by
 induction a generalizing b with
 | nil=>
  cases b with
  | nil=>rfl
  | cons y b=>exact(Pt (fun e=>nomatch e)).symm
 | cons x a ih=>
  cases b with
  | nil=>exact(Pt (fun e=>nomatch e)).symm
  | cons y b=>
   show(x == y && ya (a.map V.str) (b.map V.str))=decide (x::a=y::b)
   rw[ih,cX,bX,Pp,Pp,Oj,List.cons.injEq]
noncomputable def kg(K:AA):Sp:=fun vs H Q _=>∃(v:V) (ln lk:Addr) (c:List AF) (nm:AF) (ks:List (Option AF)) (xs:AK),vs=[v,.ref ln,.ref lk]/\Tell H (yA c) v/\(∀zs∈c,zs.length<=100)/\SqL K H ln (nm.map V.str)/\nm.Nodup/\nm.length<=12/\SqL K H lk xs/\zF H (ks.map optD) xs/\ks.length<=100/\
 (yf nm ks c->∀H',B0 H H'->Q (.bl true) H')/\(¬yf nm ks c->∀H',B0 H H'->Q (.bl false) H')
theorem w8{H:Hp}:∀{l:AF}{xs:AK},zF H (l.map DV.str) xs->xs=l.map V.str
 | [],_,h=>xx h
 | i::r,_,h=>by
  obtain⟨x,t,rfl,h1,h2⟩:=yM h
  rw[sW h1,w8 h2]
  rfl
theorem QP(M:Bl mg)(F:Fun K "_law_course" "_law_course" oT f fd):B2 P w K mg base CX0 1 f fd sU (kg K):=by
 have nd:=fe.nd
 refine F.ok fe ?_ ?_
 ·rintro _ _ _ _⟨_,_,_,_,_,_,_,rfl,_⟩
  rfl
 rintro _ _ _ _ H vs Q E hr⟨v,ln,lk,c,nm,ks,xs,rfl,tc,c100,hN,ndn,n12,hK,tk,k100,qt,qf⟩
 refine⟨_,(zN (ze (PW.pt (xX (xc (xB (zb xw rfl M.isinstance cK (z9 (pv 0) (z9 (xp (v:=.ty "tuple") rfl M.tuple bS rfl) zD))))) (xb (zZ xn (zb zo rfl M.len bO (z9 (pv 0) zD)) (zb zo rfl M.len bO (z9 (pv 2) zD)) (za _))))) (zJ (zR yI)) zf) (zN (y9 c6 rfl (xi rfl M.range (z9 (zb zo rfl M.len bO (z9 (pv 2) zD)) zD)) (zd (i:=3) nd rfl (NC rfl)) (zN (ze (xc (xB (zb xw rfl M.isinstance cK (z9 (zh y8 (pv 0) (pv 3) (fun _ _=>rfl)) (z9 (xp (v:=.ty "tuple") rfl M.tuple bS rfl) zD))))) (zJ (zR yI)) zf) (zN (zW (i:=4) nd rfl (NC rfl) (yc zD)) (zN (y9 c6 rfl (yt (zh y8 (pv 0) (pv 3) (fun _ _=>rfl))) (zd (i:=5) nd rfl (NC rfl)) (zN (ze (PW.pt (xX (xc (xB (zb xw rfl M.isinstance cK (z9 (pv 5) (z9 (xp (v:=.ty "str") rfl M.str kM rfl) zD))))) (xb (zZ sX (pv 5) (pv 1) (by with_unfolding_all rfl))))) (zJ (zR yI)) zf) (zJ (yB (yq cA cB cE xP (pv 4) (z9 (yq cA PySem.F.slot_list_index PySem.F.type_list_index RB (pv 1) (z9 (pv 5) zD)) zD)))))) (zN (y9 c6 rfl (Xc rfl M.range (z9 zL (z9 (zb zo rfl M.len bO (z9 (pv 4) zD)) zD))) (zd (i:=6) nd rfl (NC rfl)) (zJ (ze (zZ mJ (zh yl (pv 4) (zP yu (pv 6) zL) (fun _ _=>rfl)) (zh yl (pv 4) (pv 6) (fun _ _=>rfl)) (za _)) (zJ (zR yI)) zf))) (zJ (ze (PW.pt (wc (vA (UB (zh yl (pv 2) (pv 3) (fun _ _=>rfl)))) (vF (zZ (ZN hr.O8) (zh y8 (pv 0) (pv 3) (fun _ _=>rfl)) (zh yl (pv 2) (pv 3) (fun _ _=>rfl)) (za _))))) (zJ (zR yI)) zf))))))) (zJ (zR yI)))),?_⟩
 obtain⟨a,us,rfl,ea,_,tu⟩:=zr (show Tell H (.tup (c.map zY)) v from tc)
 have lus:us.length=c.length:=by rw[tu.length,bA]
 have lxs:xs.length=ks.length:=by rw[tk.length,bA]
 refine NF rfl (NI _ _ _ _ ⟨rfl,.tup ea,vp,NF rfl (C1 (NF rfl (NG a _ ⟨rfl,.inr (SqT.of ea),NF rfl (NG lk _ ⟨rfl,.inl hK,rfl,NF rfl ?_⟩)⟩)))⟩)
 by_cases cl:c.length=ks.length
 case neg=>
  rw[Pt (fun e=>cl (by injection e with e;lia))]
  exact F3 (qf (fun h=>cl h.1) H (B0.refl _))
 rw[Pq (by rw[lus,lxs,cl])]
 refine C1 ?_
 refine NF rfl (NG lk xs ⟨rfl,.inl hK,(NF rfl ⟨by lia,by lia,?_⟩)⟩)
 refine w4 (lo:=0) (n:=((xs.length:Nat):Int).toNat) (fun i σ G=>∃(o3 o4 o5 o6:Option V),B0 H G/\(∀(j:Nat) (o:Option AF) (zs:AF),j<i->ks[j]? = some o->c[j]? = some zs->OkO nm o zs)/\σ=[some (.ref a),some (.ref ln),some (.ref lk),o3,o4,o5,o6]) ⟨_,_,_,_,B0.refl _,fun _ _ _ h=>ND h (dU _),rfl⟩ (fun i σ G hi hp=>?_) (fun σ G hp=>?_)
 ·obtain⟨o3,o4,o5,o6,g,done,rfl⟩:=hp
  have hic:i<c.length:=by lia
  have hik:i<ks.length:=by lia
  have ei:(0:Int)+(i:Int)=(i:Int):=jB _
  have eci:c[i]? = some c[i]:=bC hic
  have eki:ks[i]? = some ks[i]:=bC hik
  have w0l:=c100 c[i] (fT hic)
  generalize c[i]=zs at eci w0l
  generalize ks[i]=o at eki
  obtain⟨u,eu,tu1⟩:=tu.get i (zY zs) (by rw[bE,eci];rfl)
  obtain⟨b,ws,rfl,eb,_,tb⟩:=zr (show Tell H (.tup (zs.map DV.str)) u from tu1)
  have ews:=w8 tb
  subst ews
  obtain⟨x,ex,tx⟩:=tk.get i (optD o) (by rw[bE,eki];rfl)
  have atu:atI us ((0:Int)+(i:Int))=some (.ref b):=by rw[ei];exact yT eu
  have atx:atI xs ((0:Int)+(i:Int))=some x:=by rw[ei];exact yT ex
  have bad:¬OkO nm o zs->¬yf nm ks c:=fun h q=>h (q.2 i o zs eki eci)
  refine NF rfl (NF rfl (NI a _ _ _ ⟨rfl,rfl,SqT.of (g _ _ ea),atu,NI _ _ _ _ ⟨rfl,.tup (g _ _ eb),vp,NF rfl (C1 ?_)⟩⟩))
  refine⟨(NB 0),fun lp hlp=>?_⟩
  have s1:=g.trans (zH hlp (.lst []))
  have e1:upd G lp (.lst []) lp=some (.lst []):=zM
  have nlp:H lp=none:=g.free hlp
  generalize upd G lp (.lst [])=G1 at s1 e1
  refine(NF rfl (NF rfl (NI a _ _ _ ⟨rfl,rfl,SqT.of (s1 _ _ ea),atu,b,rfl,⟨_,SqT.of (s1 _ _ eb)⟩,wo (K:=K) (a:=b) (xs:=zs.map V.str) (fun j σ G2=>∃(o5:Option V),B0 H G2/\(∀z∈zs.take j,z∈nm)/\G2 lp=some (.lst ((zs.take j).map fun z=>V.int (nm.idxOf z:Nat)))/\σ=[some (.ref a),some (.ref ln),some (.ref lk),some (.int (0+(i:Int))),some (.ref lp),o5,o6]) ⟨_,s1,(fun z hz=>by rw[cW] at hz;cases hz),by rw[cW];exact e1,rfl⟩ (fun j σ G2 _ ⟨_,g2,_⟩=>SqT.of (g2 _ _ eb)) ?_ ?_⟩)))
  ·rintro j y σ G2 hy ⟨o5,g2,hin,ep,rfl⟩
   rw[bE] at hy
   obtain⟨z,ez,rfl⟩:=bV.mp hy
   refine NF rfl (NI _ _ _ _ ⟨rfl,vE rfl,uQ "str" (.inr (.inr (.inr rfl))) rfl,NF rfl (C1 (NF rfl (NF rfl ⟨ln,NF rfl ⟨.inl (g2.seq hN),rfl,xJ nm,NF rfl ?_⟩⟩)))⟩)
   rw[Po rfl,rq]
   by_cases hz:z∈nm
   ·rw[Pq hz]
    obtain⟨f1,f2⟩:=SV hz
    refine C1 (NF rfl ⟨.inl ⟨rfl,_,SqL.of ep⟩,NF rfl ⟨.inl ⟨rfl,_,g2.seq hN⟩,NF rfl (NI ln nm z (nm.idxOf z) ⟨rfl,rfl,g2.seq hN,f1,f2,NH lp _ _ ⟨rfl,rfl,ep,zp (by rw[bA,bL];lia),?_⟩⟩)⟩⟩)
    refine⟨_,wQ g2 nlp,fun z' hz'=>?_,?_,rfl⟩
    ·rw[zq ez] at hz'
     rcases bZ.mp hz' with h|h
     ·exact hin z' h
     ·rw[bD.mp h]
      exact hz
    ·rw[zM,zq ez,bM]
     rfl
   ·rw[Pt hz]
    exact F3 (qf (bad fun h=>hz (h.1.subset (bH ez))) _ g2)
  rintro σ G2 ⟨o5,g2,hin,ep,rfl⟩
  rw[bA,bY] at hin ep
  have lps:(zs.map fun z=>V.int (nm.idxOf z:Nat)).length=zs.length:=bA _
  have pat:∀(j:Nat) (hj:j<zs.length),atI (zs.map fun z=>V.int (nm.idxOf z:Nat)) (j:Int)=some (V.int (nm.idxOf zs[j]:Nat)):=fun j hj=>yT (by rw[bE,bC hj];rfl)
  have ipt:∀(j:Nat) (hj:j<zs.length),(zs.map fun z=>nm.idxOf z)[j]? = some (nm.idxOf zs[j]):=fun j hj=>by rw[bE,bC hj];rfl
  refine NF rfl (NG lp _ ⟨rfl,.inl (SqL.of ep),(NG 1 _ ⟨rfl,⟨by decide,by decide,by lia,by lia⟩,?_⟩)⟩)
  refine w4 (lo:=1) (n:=((((zs.map fun z=>V.int (nm.idxOf z:Nat)).length:Nat):Int)-1).toNat) (fun j σ G3=>∃(o6:Option V),G3=G2/\((zs.map fun z=>nm.idxOf z).take (j+1)).Pairwise (· < ·)/\σ=[some (.ref a),some (.ref ln),some (.ref lk),some (.int (0+(i:Int))),some (.ref lp),o5,o6]) ⟨_,rfl,?_,rfl⟩ (fun j σ G3 hj hp=>?_) (fun σ G3 hp=>?_)
  ·cases zs with
   | nil=>exact .nil
   | cons z r=>exact eU _ _
  ·obtain⟨o6',rfl,pw,rfl⟩:=hp
   have hj1:j+1<zs.length:=by rw[lps] at hj;lia
   have e1:(1:Int)+(j:Int)-1=((j:Nat):Int):=by lia
   have e2:(1:Int)+(j:Int)=((j+1:Nat):Int):=by lia
   refine NF rfl (NF rfl (NG _ _ ⟨rfl,rfl,NI lp _ _ _ ⟨rfl,rfl,SqL.of ep,(by rw[e1];exact pat j (by lia)),NF rfl (NF rfl (NI lp _ _ _ ⟨rfl,rfl,SqL.of ep,(by rw[e2];exact pat (j+1) hj1),NG _ _ ⟨rfl,rfl,NF rfl ?_⟩⟩))⟩⟩))
   by_cases hlt:nm.idxOf zs[j]<nm.idxOf zs[j+1]
   ·rw[Pt (by lia)]
    exact C1 (NF rfl ⟨RT pw (ipt j (by lia)) (ipt (j+1) hj1) hlt,rfl⟩)
   ·rw[Pq (by lia)]
    refine F3 (qf (bad fun h=>hlt ?_) _ g2)
    have:=(ZR ndn hin).mpr h.1
    rw[dC,gB] at this
    exact this j (j+1) (by lia) hj1 (by lia)
  obtain⟨o6',rfl,pw,rfl⟩:=hp
  have sub:zs.Sublist nm:=by
   refine(ZR ndn hin).mp ?_
   rw[cN (by rw[bA];rw[lps];lia)] at pw
   exact pw
  have more:OkO nm o zs->∀(j:Nat) (o:Option AF) (zs:AF),j<i+1->ks[j]? = some o->c[j]? = some zs->OkO nm o zs:=fun h j o' zs' hj h1 h2=>by
   by_cases e:j=i
   ·subst e
    rw[eki] at h1
    rw[eci] at h2
    cases h1
    cases h2
    exact h
   ·exact done j o' zs' (by lia) h1 h2
  refine NF rfl (NF rfl (NI lk _ _ _ ⟨rfl,rfl,g2.seq hK,atx,?_⟩))
  cases o with
  | none=>
   have ex':x=.non:=by
    unfold optD Tell at tx
    exact tx
   subst ex'
   exact NF rfl (C1 (C1 ⟨_,_,_,_,g2,more ⟨sub,fun _ h=>by cases h⟩,rfl⟩))
  | some ws=>
   obtain⟨b2,vs2,rfl,eb2,_,tb2⟩:=zr (show Tell H (.tup (ws.map DV.str)) x from tx)
   have ews:=w8 tb2
   subst ews
   refine NF rfl (F3 (NF rfl (NF rfl (NI a _ _ _ ⟨rfl,rfl,SqT.of (g2 _ _ ea),atu,NF rfl (NF rfl (NI lk _ _ _ ⟨rfl,rfl,g2.seq hK,atx,NI b b2 _ _ ⟨rfl,rfl,SqT.of (g2 _ _ eb),SqT.of (g2 _ _ eb2),xJ zs,xJ ws,NF rfl ?_⟩⟩))⟩))))
   by_cases e:zs=ws
   ·subst e
    rw[sN (xJ zs)]
    exact C1 ⟨_,_,_,_,g2,more ⟨sub,fun _ h=>by cases h;rfl⟩,rfl⟩
   ·rw[sE,Pt e]
    exact F3 (qf (bad fun h=>e (h.2 ws rfl)) _ g2)
 ·obtain⟨o3,o4,o5,o6,g,done,rfl⟩:=hp
  refine qt ⟨cl,fun i o zs h1 h2=>done i o zs ?_ h1 h2⟩ _ g
  have:=(bK.mp h1).1
  lia
theorem Zr{nm:AF}{z3:AL}(R:Rws nm z3)(n:Int):(zk (zg z3 n)).Sublist nm:=by
 unfold zg zk
 rw[bR]
 cases e:z3[(n-1).toNat]? with
 | none=>exact jG _
 | some w=>exact R.sub w (bH e)
theorem tQ{m:Nat}{hs:AJ}{z3:AL}{r:Int}{i:Nat}{o:Option AF}(h:(zc m hs z3 r)[i]? = some o):i<m/\o=yX hs z3 r (1+(i:Int)):=by
 have hi:=(bK.mp h).1
 rw[x9] at hi
 refine⟨hi,?_⟩
 unfold zc at h
 rw[bE,show(upI 1 m)[i]? = some (1+(i:Int)) by unfold upI;rw[bE,jO hi];rfl] at h
 exact(Option.some.inj h).symm
theorem pR{hs:AJ}{z3:AL}{r n:Int}{ws:AF}(h:yX hs z3 r n=some ws):ws=zk (zg z3 n)/\(n∈hs\/zy hs n r≠0):=by
 unfold yX at h
 split at h
 ·rename_i c
  exact⟨(Option.some.inj h).symm,c⟩
 ·cases h
theorem km(m:Nat)(hs:AJ)(z3:AL)(r:Int):(yr (zc m hs z3 r)).length=m:=by
 unfold yr
 rw[bA,x9]
theorem Zp{ks:List (Option AF)}{i:Nat}{zs:AF}(h:(yr ks)[i]? = some zs):∃o,ks[i]? = some o/\zs=o.getD []:=by
 unfold yr at h
 rw[bE] at h
 obtain⟨o,e,h⟩:=bV.mp h
 exact⟨o,e,h.symm⟩
theorem Xm{nm:AF}{z3:AL}(R:Rws nm z3)(m:Nat)(hs:AJ)(r:Int):yf nm (zc m hs z3 r) (yr (zc m hs z3 r)):=by
 refine⟨by rw[km,x9],fun i o zs h1 h2=>?_⟩
 obtain⟨o',e,rfl⟩:=Zp h2
 rw[h1] at e
 cases e
 obtain⟨_,eo⟩:=tQ h1
 cases o with
 | none=>exact⟨jG _,fun _ h=>by cases h⟩
 | some ws=>
  refine⟨?_,fun _ h=>by cases h;rfl⟩
  rw[show(some ws).getD []=ws from rfl,(pR eo.symm).1]
  exact Zr R _
theorem Yk{c:List AF}{d:Nat}{z:Str}(h1:1<=d)(h2:d<=c.length)(i:Nat):(wL c d z)[i]? = if i=d-1 then some [z] else c[i]? := by
 have hl:(c.take (d-1)).length=d-1:=by rw[bL];lia
 unfold wL
 by_cases hi:i<d-1
 ·rw[Pn (by lia),cS (by rw[bF,hl];show i<d-1+1;lia),cS (by lia),List.getElem?_take_of_lt hi]
 ·by_cases he:i=d-1
  ·rw[Po he,cS (by rw[bF,hl];show i<d-1+1;lia),cV (by lia),hl,he,fW]
   rfl
  ·rw[Pn he,cV (by rw[bF,hl];show d-1+1<=i;lia),bF,hl,gY]
   congr 1
   show d+(i-(d-1+1))=i
   lia
theorem SG{c:List AF}{d:Nat}{z:Str}(h1:1<=d)(h2:d<=c.length):(wL c d z).length=c.length:=by
 unfold wL
 rw[bF,bF,bL,dL]
 show min (d-1) c.length+1+(c.length-d)=c.length
 lia
theorem Rg{nm:AF}{z3:AL}(R:Rws nm z3){m:Nat}{hs:AJ}{r:Int}{d:Nat}{z:Str}(hz:z∈nm)(d1:1<=d)(dm:d<=m)(hd:(d:Int)∈zj hs r):yf nm (zc m hs z3 r) (wL (yr (zc m hs z3 r)) d z):=by
 have hb:=km m hs z3 r
 refine⟨by rw[SG d1 (by lia),hb,x9],fun i o zs h1 h2=>?_⟩
 rw[Yk d1 (by lia)] at h2
 split at h2
 ·rename_i e
  cases h2
  obtain⟨_,eo⟩:=tQ h1
  have en:(1:Int)+(i:Int)=(d:Int):=by lia
  rw[en] at eo
  obtain⟨q1,q2⟩:=tf.mp hd
  have:yX hs z3 r d=none:=by
   unfold yX
   rw[Pn (fun h=>h.elim (xr.mp q1).2.1 fun h=>h q2)]
  rw[this] at eo
  subst eo
  exact⟨List.singleton_sublist.mpr hz,fun _ h=>by cases h⟩
 ·exact(Xm R m hs r).2 i o zs h1 h2
noncomputable def InC(c:List AF)(num:Int)(z:Str):Prop:=∃(i:Nat) (zs:AF),c[i]? = some zs/\num<(i:Int)+1/\z∈zs
theorem UU{c:List AF}{d:Nat}{z:Str}{num:Int}(h1:1<=d)(h2:d<=c.length)(h:num<(d:Int)):InC (wL c d z) num z:=⟨d-1,[z],by rw[Yk h1 h2,Po rfl],by lia,bD.mpr rfl⟩
theorem UM{hs:AJ}{z3:AL}{r:Int}{m:Nat}{z:Str}(rise:hs.Pairwise (· < ·))(h60:∀x∈hs,1<=x/\x<=60)(it:yZ hs m)(ns:yF hs z3 r (zu (zi hs z3 z)) z≠"stale"):¬InC (yr (zc m hs z3 r)) (zu (zi hs z3 z)) z:=by
 rintro⟨i,zs,h1,h2,h3⟩
 obtain⟨o,e,rfl⟩:=Zp h1
 obtain⟨hi,eo⟩:=tQ e
 cases o with
 | none=>cases h3
 | some ws=>
  obtain⟨rfl,c⟩:=pR eo.symm
  have h3':z∈zk (zg z3 (1+(i:Int))):=h3
  obtain⟨v,ev⟩:=XA h3'
  by_cases hin:(1:Int)+(i:Int)∈hs
  ·rcases jt (z3:=z3) (z:=z) hs rise with ⟨_,q⟩|⟨n,u,q1,q2,q3,q4⟩
   ·rw[q _ hin] at ev
    cases ev
   ·rw[q1] at h2
    have h2':n<(i:Int)+1:=h2
    rw[q4 _ hin (by lia)] at ev
    cases ev
  ·have ct:=c.resolve_left hin
   refine ns ?_
   unfold yF
   rw[Po]
   refine gQ.mpr (lB (a:=1+(i:Int)) ?_)
   unfold wM
   rw[cG,bX,Pp,Pp]
   refine⟨xr.mpr ?_,by lia,?_⟩
   ·rcases it.1 with q|⟨q,q0⟩
    ·have:=h60 _ q
     refine⟨by lia,hin,m,q,?_⟩
     have:(1:Int)+(i:Int)≠m:=fun e=>hin (e ▸ q)
     lia
    ·lia
   ·unfold xf
    rw[Pn ct]
    exact h3'
noncomputable def aK(K:AA):Sp:=fun vs H Q _=>∃(v:V) (c:List AF) (num:Int) (z:Str),vs=[v,.int num,.str z]/\Tell H (yA c) v/\c.length<=1000/\(InC c num z->Q (.bl true) H)/\(¬InC c num z->Q (.bl false) H)
theorem Qw(M:Bl mg)(F:Fun K "_law_in_course" "_law_in_course" n9 f fd):B2 P w K mg base CX0 1 f fd n8 (aK K):=by
 have nd:=ck.nd
 refine F.ok ck ?_ ?_
 ·rintro _ _ _ _⟨_,_,_,_,rfl,_⟩
  rfl
 rintro _ _ _ _ H vs Q E hr⟨v,c,num,z,rfl,tc,c1000,qt,qf⟩
 refine⟨_,(zN (y9 c6 rfl (xi rfl M.range (z9 (zb zo rfl M.len bO (z9 (pv 0) zD)) zD)) (zd (i:=3) nd rfl (NC rfl)) (zJ (ze (PW.pt (wc (zZ xA (zP yS (pv 3) zL) (pv 1) (za _)) (vF (zZ qG (pv 2) (zh y8 (pv 0) (pv 3) (fun _ _=>rfl)) (by with_unfolding_all rfl))))) (zJ (zR yI)) zf))) (zJ (zR yI))),?_⟩
 obtain⟨a,us,rfl,ea,_,tu⟩:=zr (show Tell H (.tup (c.map zY)) v from tc)
 have lus:us.length=c.length:=by rw[tu.length,bA]
 refine NF rfl (NG a us ⟨rfl,.inr (SqT.of ea),(NF rfl ⟨by lia,by lia,?_⟩)⟩)
 refine w4 (lo:=0) (n:=((us.length:Nat):Int).toNat) (fun i σ G=>∃(o3:Option V),G=H/\(∀(j:Nat) (zs:AF),j<i->c[j]? = some zs->num<(j:Int)+1->z∉zs)/\σ=[some (.ref a),some (.int num),some (.str z),o3]) ⟨_,rfl,fun _ _ h=>ND h (dU _),rfl⟩ (fun i σ G hi hp=>?_) (fun σ G hp=>?_)
 ·obtain⟨o3,rfl,done,rfl⟩:=hp
  have hic:i<c.length:=by lia
  have ei:(0:Int)+(i:Int)=(i:Int):=jB _
  have eci:c[i]? = some c[i]:=bC hic
  generalize c[i]=zs at eci
  obtain⟨u,eu,tu1⟩:=tu.get i (zY zs) (by rw[bE,eci];rfl)
  obtain⟨b,ws,rfl,eb,_,tb⟩:=zr (show Tell G (.tup (zs.map DV.str)) u from tu1)
  have ews:=w8 tb
  subst ews
  have atu:atI us ((0:Int)+(i:Int))=some (.ref b):=by rw[ei];exact yT eu
  have more:(num<(i:Int)+1->z∉zs)->∀(j:Nat) (zs:AF),j<i+1->c[j]? = some zs->num<(j:Int)+1->z∉zs:=fun h j zs' hj h1 h2=>by
   by_cases e:j=i
   ·subst e
    rw[eci] at h1
    cases h1
    exact h h2
   ·exact done j zs' (by lia) h1 h2
  refine NF rfl (NG _ _ ⟨rfl,rfl,NF rfl (NG _ _ ⟨rfl,rfl,NF rfl ?_⟩)⟩)
  by_cases c1:num<(i:Int)+1
  ·rw[Pq (show num<0+(i:Int)+1 by lia)]
   refine F3 (NF rfl (NF rfl (NF rfl (NI a _ _ _ ⟨rfl,rfl,SqT.of ea,atu,NG b _ ⟨rfl,.inr (SqT.of eb),rfl,xJ zs,NF rfl ?_⟩⟩))))
   rw[Pn bP,rq]
   by_cases c2:z∈zs
   ·rw[Pq c2]
    exact F3 (qt ⟨i,zs,eci,c1,c2⟩)
   ·rw[Pt c2]
    exact C1 (NF rfl ⟨more fun _=>c2,rfl⟩)
  ·rw[Pt (show ¬num<0+(i:Int)+1 by lia)]
   exact C1 (C1 (NF rfl ⟨more fun h=>ND h c1,rfl⟩))
 ·obtain⟨o3,rfl,done,rfl⟩:=hp
  refine qf fun⟨i,zs,h1,h2,h3⟩=>done i zs ?_ h1 h2 h3
  have:=(bK.mp h1).1
  lia
theorem QU{nm zs:AF}(nd:nm.Nodup):zs.Sublist nm↔zs=nm.filter fun z=>decide (z∈zs):=by
 constructor
 ·intro h
  induction h with
  | slnil=>rfl
  | cons a h ih=>
   rw[dE] at nd
   rw[fB,Pn (fun z=>nd.1 (h.subset (Px z)))]
   exact ih nd.2
  | cons_cons a h ih=>
   rename_i l1 l2
   rw[dE] at nd
   rw[fB,Po (Pq bT)]
   congr 1
   refine(ih nd.2).trans (lH fun z hz=>?_)
   rw[decide_eq_decide,bI]
   exact⟨.inr,fun h=>h.elim (fun e=>ND (e ▸ hz) nd.1) id⟩
 ·intro h
  rw[h]
  exact List.filter_sublist
noncomputable def YF(K:AA):Sp:=fun vs H Q _=>∃(pn pc:Addr) (nm zs:AF),vs=[.ref pn,.ref pc]/\SqT K H pn (nm.map V.str)/\nm.Nodup/\nm.length<=12/\SqT K H pc (zs.map V.str)/\∀H',B0 H H'->Q (.bl (decide (zs.Sublist nm))) H'
theorem Rc(M:Bl mg)(F:Fun K "is_choice" "is_choice" qb f fd):B2 P w K mg base CX0 1 f fd qd (YF K):=by
 have nd:=iK.nd
 refine F.ok iK ?_ ?_
 ·rintro _ _ _ _⟨_,_,_,_,rfl,_⟩
  rfl
 rintro _ _ _ _ H vs Q E hr⟨pn,pc,nm,zs,rfl,hN,ndn,n12,hC,q⟩
 refine⟨_,(zJ (zR (vW (mS hr.O8) (pv 1) (yD ym rfl M.tuple bS (z9 (xH ["name"] ["chosen"] [1] rfl (yY rfl (by decide +kernel) rfl (by decide +kernel) rfl rfl) (yt (pv 0)) (fun _ _ _ _ _=>(zd (i:=0) (show((["name"]:List PySem.Str)++(["chosen"]:List PySem.Str)).Nodup from by decide +kernel) rfl (NC rfl))) (yG (by decide)) zl (fun _ _ _ _ _=>(wk (zZ (r:=rIn K false) qG (pv 0) (pv 1) (by with_unfolding_all rfl)))) (fun _ _ _ _ _=>(pv 0))) zD)) (za _)))),?_⟩
 refine NF rfl (NF rfl ⟨pn,rfl,⟨_,hN⟩,?_⟩)
 refine wI (xs:=nm.map V.str) (fun i ys G=>G=H/\ys=((nm.take i).filter fun z=>decide (z∈zs)).map V.str) ⟨rfl,rfl⟩ (fun i ys G hi hp=>?_) (fun i y ys G hy hp=>?_) (fun ys G hp=>?_)
 ·obtain⟨rfl,rfl⟩:=hp
  refine⟨hN,zp ?_⟩
  rw[bA]
  have:=cL (fun z=>decide (z∈zs)) (nm.take i)
  rw[bL] at this
  lia
 ·obtain⟨rfl,rfl⟩:=hp
  rw[bE] at hy
  obtain⟨z,ez,rfl⟩:=bV.mp hy
  refine NF rfl (NF rfl (NG pc _ ⟨rfl,.inr hC,rfl,xJ zs,NF rfl ?_⟩))
  rw[Pn bP,rq,zq ez,dS,fB]
  by_cases c:z∈zs
  ·rw[Pq c,Po rfl,bM]
   exact F3 (NF rfl ⟨rfl,rfl⟩)
  ·rw[Pt c,Pn bP,fQ,dB]
   exact C1 ⟨rfl,rfl⟩
 ·obtain⟨rfl,rfl⟩:=hp
  rw[bA,bY]
  intro D hD
  refine(NG D _ ⟨rfl,.inl ⟨SqL.of zM,fun t ht=>?_⟩⟩)
  have s1:=(zH hD (.lst ((nm.filter fun z=>decide (z∈zs)).map V.str))).trans (zH ht (.tup ((nm.filter fun z=>decide (z∈zs)).map V.str)))
  refine NI pc t _ _ ⟨rfl,rfl,uK s1 hC,SqT.of zM,xJ zs,xJ _,?_⟩
  rw[sE]
  have:=q _ s1
  rw[decide_eq_decide.mpr (QU ndn)] at this
  exact this
noncomputable def StO(nm:AF)(o:Option AF)(zs:AF):Bool:=match o with
 | none=>decide (zs.Sublist nm)
 | some ws=>decide (zs=ws)
noncomputable def ZS(K:AA):Sp:=fun vs H Q _=>∃(pn pc:Addr) (v:V) (nm zs:AF) (o:Option AF),vs=[.ref pn,v,.ref pc]/\SqT K H pn (nm.map V.str)/\nm.Nodup/\nm.length<=12/\SqT K H pc (zs.map V.str)/\Tell H (optD o) v/\∀H',B0 H H'->Q (.bl (StO nm o zs)) H'
theorem TK(M:Bl mg)(F:Fun K "may_stand" "may_stand" pB f fd)(M8:Cal P w K mg base 1 "is_choice" qd (YF K)):B2 P w K mg base CX0 2 f fd qh (ZS K):=by
 have nd:=iT.nd
 refine F.ok iT ?_ ?_
 ·rintro _ _ _ _⟨_,_,_,_,_,_,rfl,_⟩
  rfl
 rintro _ _ _ _ H vs Q E hr⟨pn,pc,v,nm,zs,o,rfl,hN,ndn,n12,hC,tv,q⟩
 refine⟨_,(zJ (zR (vt (vA (vP (pv 1))) (zX M8 (rm hr) rfl (z9 (pv 0) (z9 (pv 2) zD))) (vW (mS hr.O8) (pv 2) (pv 1) (za _))))),?_⟩
 cases o with
 | none=>
  have ev:v=.non:=by
   unfold optD Tell at tv
   exact tv
  subst ev
  exact NF rfl (NF rfl (F3 (NF rfl (NF rfl (NI pn pc nm zs ⟨rfl,hN,ndn,n12,hC,fun H' s'=>q H' s'⟩)))))
 | some ws=>
  obtain⟨b,us,rfl,eb,_,tb⟩:=zr (show Tell H (.tup (ws.map DV.str)) v from tv)
  have e:=w8 tb
  subst e
  refine NF rfl (NF rfl (C1 (NF rfl (NF rfl (NI pc b _ _ ⟨rfl,rfl,hC,SqT.of eb,xJ zs,xJ ws,?_⟩)))))
  rw[sE]
  exact q H (B0.refl _)
noncomputable def ZH(Sh:ShP):Sp:=fun vs H Q _=>∃(x:Addr) (v:V) (fp:List Addr) (nm:AF) (r:Int) (z3:AL) (zA:AJ) (m:Nat) (c:List AF),vs=[.ref x,v]/\Sh H x fp nm r (fun n=>yE z3 n r) zA/\GoodN nm/\Rws nm z3/\z3.length<=60/\(∀n∈zA,1<=n/\n<=z3.length)/\0<=r/\r<=10/\yZ zA m/\Tell H (yA c) v/\
 (yf nm (zc m (zG zA) z3 r) c->∀H',B0 H H'->Q (.bl true) H')/\(¬yf nm (zc m (zG zA) z3 r) c->∀H',B0 H H'->Q (.bl false) H')
theorem Yn{nm:AF}{z3:AL}(R:Rws nm z3){m:Nat}{hs:AJ}{r:Int}{c:List AF}(hl:c.length=(zc m hs z3 r).length) :
  yf nm (zc m hs z3 r) c↔(((zc m hs z3 r).zip c).map fun p=>StO nm p.1 p.2).all id=true:=by
 rw[gH]
 constructor
 ·intro h b hb
  obtain⟨⟨o,zs⟩,hp,rfl⟩:=cD.mp hb
  obtain⟨i,hi,e⟩:=kY hp
  rw[List.getElem_zip] at e
  rw[List.length_zip] at hi
  have h1:(zc m hs z3 r)[i]? = some o:=by rw[bC (by lia)];exact Pu some (Pu Prod.fst e)
  have h2:c[i]? = some zs:=by rw[bC (by lia)];exact Pu some (Pu Prod.snd e)
  obtain⟨q1,q2⟩:=h.2 i o zs h1 h2
  show StO nm o zs=true
  cases o with
  | none=>exact Pq q1
  | some ws=>exact Pq (q2 ws rfl)
 ·intro h
  refine⟨hl,fun i o zs h1 h2=>?_⟩
  have hi1:=(bK.mp h1).1
  have hi2:=(bK.mp h2).1
  have hz:i<((zc m hs z3 r).zip c).length:=by rw[List.length_zip];lia
  have e:((zc m hs z3 r).zip c)[i]=(o,zs):=by
   rw[List.getElem_zip]
   rw[bC hi1] at h1
   rw[bC hi2] at h2
   rw[Option.some.inj h1,Option.some.inj h2]
  have hb:StO nm o zs=true:=h (StO nm o zs) (cD.mpr ⟨(o,zs),by rw[<- e];exact fT hz,rfl⟩)
  cases o with
  | none=>exact⟨Px hb,fun _ h=>by cases h⟩
  | some ws=>
   have ew:zs=ws:=Px hb
   refine⟨?_,fun _ h=>by cases h;exact ew⟩
   rw[ew,(pR (tQ h1).2.symm).1]
   exact Zr R _
theorem VR{A0:Addr}(M:Bl mg)(T:TxShelf K mg A0)(F:Fun K "fits" "fits" mK f fd)(C8:Cal P w K mg base 4 "known_sets" uW (rP (ShD K A0)))(M7:Cal P w K mg base 2 "may_stand" qh (ZS K)):B2 P w K mg base CX0 5 f fd mE (ZH (ShD K A0)):=by
 have nd:=aq.nd
 refine F.ok aq ?_ ?_
 ·rintro _ _ _ _⟨_,_,_,_,_,_,_,_,_,rfl,_⟩
  rfl
 rintro _ _ _ _ H vs Q E hr⟨x,v,fp,nm,r,z3,zA,m,c,rfl,sh,gn,R,l60,hh,r0,r10,it,tc,qt,qf⟩
 refine⟨_,(zN (zW (i:=2) nd rfl (NC rfl) (zX C8 (rm hr) rfl (z9 (pv 0) zD))) (zN (ze (zZ xn (zb zo rfl M.len bO (z9 (pv 1) zD)) (zb zo rfl M.len bO (z9 (pv 2) zD)) (za _)) (zJ (zR yI)) zf) (zJ (zR (zb (TY rfl) rfl M.all PyProof.Rows.boot_all (z9 (xH ["known","chosen"] ["shelf"] [0] rfl (yY rfl (by decide +kernel) rfl (by decide +kernel) rfl rfl) (VC rfl M.zip (z9 (pv 2) (z9 (pv 1) zD))) (fun _ _ _ _ _=>(uH (K:=K) (n:=2) rfl rfl (xI (zd (i:=0) (show((["known","chosen"]:List PySem.Str)++(["shelf"]:List PySem.Str)).Nodup from by decide +kernel) rfl (NC rfl)) (xI (zd (i:=1) (show((["known","chosen"]:List PySem.Str)++(["shelf"]:List PySem.Str)).Nodup from by decide +kernel) rfl (NC rfl)) vC)))) (uI (xu (yG (by decide)) zl (xu (yG (by decide)) zl vk yz) (yn zl yz))) (uN (yn zl (yn zl yz))) (fun _ _ _ _ _=>xU) (fun _ _ _ _ _=>(zX M7 (rm hr) rfl (z9 (Vl (K:=K) rfl (pv 2) rfl) (z9 (pv 0) (z9 (pv 1) zD)))))) zD)))))),?_⟩
 have h60:∀n∈zA,1<=n/\n<=60:=fun n hn=>by have:=hh n hn;lia
 have U7:m<=60:=by have:=it.le (k:=60) (by decide) fun x hx=>(h60 x hx).2;lia
 obtain⟨dx,pn,fs,h1,h3,ln⟩:∃dx pn fs,H x=some (.ins A0 dx fs)/\H pn=some (.tup (nm.map V.str))/\fs.lookup ("names":Str)=some (V.ref pn):=by
  obtain⟨dx,pn,pd,fs,kvs,_,h1,_,h3,_,l1,_⟩:=sh
  exact⟨dx,pn,fs,h1,h3,l1⟩
 refine NF rfl (NL x fp nm r z3 zA m ⟨rfl,sh,gn,R,l60,hh,r0,r10,it,fun kv H1 s1 tk=>?_⟩)
 obtain⟨ak,us,rfl,eak,_,tus⟩:=zr tk
 obtain⟨ac,ws,rfl,eac,_,tws⟩:=zr (show Tell H (.tup (c.map zY)) v from tc)
 have lus:us.length=(zc m (zG zA) z3 r).length:=by rw[tus.length,bA]
 have lws:ws.length=c.length:=by rw[tws.length,bA]
 have lk:=x9 m (zG zA) z3 r
 have X1:=s1 _ _ eac
 refine NF rfl (NG ac _ ⟨rfl,.inr (SqT.of X1),NF rfl ⟨ak,NF rfl ⟨.inr (SqT.of eak),rfl,NF rfl ?_⟩⟩⟩)
 by_cases cl:c.length=(zc m (zG zA) z3 r).length
 case neg=>
  rw[Pt (fun e=>cl (by injection e with e;lia))]
  exact F3 (qf (fun h=>cl h.1) H1 s1)
 rw[Pq (by rw[lus,lws,cl])]
 refine C1 ?_
 refine NF rfl (NF rfl (NI ak ac us ws ⟨rfl,SqT.of eak,SqT.of X1,by lia,?_⟩))
 refine Ta (xs:=us) (ys:=ws) (by lia) (fun i zs G=>B0 H1 G/\zs=((((zc m (zG zA) z3 r).zip c).take i).map fun p=>StO nm p.1 p.2).map V.bl) ⟨B0.refl _,rfl⟩ (fun i zs G hi hp=>?_) (fun i y1 y2 zs G T' e1 e2 hT hp=>?_) (fun zs G hp=>?_)
 ·obtain⟨g,rfl⟩:=hp
  refine⟨SqT.of (g _ _ eak),SqT.of (g _ _ X1),zp ?_⟩
  rw[bA,bA,bL]
  lia
 ·obtain⟨g,rfl⟩:=hp
  have gT:=g.trans (zH hT (.tup [y1,y2]))
  obtain⟨d,ed,td⟩:=tus.at i y1 e1
  rw[bE] at ed
  obtain⟨o,eo,rfl⟩:=bV.mp ed
  obtain⟨d2,ed2,td2⟩:=tws.at i y2 e2
  rw[bE] at ed2
  obtain⟨zs2,ez2,rfl⟩:=bV.mp ed2
  obtain⟨b,vs2,rfl,eb,_,tb⟩:=zr (show Tell H (.tup (zs2.map DV.str)) y2 from td2)
  have e:=w8 tb
  subst e
  have sG:=s1.trans gT
  have ez:((zc m (zG zA) z3 r).zip c)[i]? = some (o,zs2):=by
   rw[List.getElem?_zip_eq_some]
   exact⟨eo,ez2⟩
  refine(NG T' _ ⟨rfl,SqT.of zM,rfl,NG _ _ ⟨rfl,NG _ _ ⟨rfl,rfl,?_⟩⟩⟩)
  refine NF rfl (NJ x A0 dx fs _ ⟨rfl,sG _ _ h1,T.cl,T.n_names,ln,NF rfl (NF rfl (NK pn b y1 nm zs2 o ⟨rfl,SqT.of (sG _ _ h3),gn.nd,gn.hi,SqT.of (sG _ _ eb),Tell.keep gT _ _ td,fun G2 g2=>⟨gT.trans g2,?_⟩⟩))⟩)
  rw[zq ez,bM,bM]
  rfl
 ·obtain⟨g,rfl⟩:=hp
  rw[cN (by rw[List.length_zip];lia)]
  intro D hD
  refine NG D _ ⟨rfl,SqL.of zM,?_⟩
  have sF:=s1.trans (g.trans (zH hD (.lst ((((zc m (zG zA) z3 r).zip c).map fun p=>StO nm p.1 p.2).map V.bl))))
  by_cases cf:yf nm (zc m (zG zA) z3 r) c
  ·rw[(Yn R cl).mp cf]
   exact qt cf _ sF
  ·rw[j4.mpr fun h=>cf ((Yn R cl).mpr h)]
   exact qf cf _ sF
theorem vh{n:Nat}(h:n<=100000):n<sizeLine:=by rw[OM];lia
noncomputable def yd(nm:AF):List AF:=nm.foldl (fun cs z=>cs++cs.map (·++[z])) [[]]
theorem u9(nm:AF)(z:Str):yd (nm++[z])=yd nm++(yd nm).map (·++[z]):=by
 unfold yd
 rw[g9]
 rfl
theorem wG{α:Type}{p:List α->Prop}(h0:p [])(h1:∀l x,p l->p (l++[x]))(l:List α):p l:=by
 have go:∀n (l:List α),l.length=n->p l:=by
  intro n
  induction n with
  | zero=>intro l hl;rw[k9.mp hl];exact h0
  | succ n ih=>
   intro l hl
   have hne:l≠[]:=fun e=>by rw[e] at hl;cases hl
   have e:=jD hne
   rw[<- e]
   exact h1 _ _ (ih _ (by rw[List.length_dropLast];lia))
 exact go _ l rfl
theorem sH(nm:AF):(yd nm).length=2^nm.length:=by
 induction nm using wG with
 | h0=>rfl
 | h1 nm z ih=>rw[u9,bF,bA,ih,bF,cP,gJ];lia
theorem Up{zs nm:AF}{z:Str}:zs.Sublist (nm++[z])↔zs.Sublist nm\/∃ys:AF,ys.Sublist nm/\zs=ys++[z]:=by
 rw[List.sublist_append_iff]
 constructor
 ·rintro⟨l1,l2,rfl,h1,h2⟩
  rcases(show l2=[]\/l2=[z] from by
   cases h2 with
   | cons _ h=>exact .inl (kJ.mp h)
   | cons_cons _ h=>exact .inr (by rw[kJ.mp h])) with rfl|rfl
  ·rw[dB]
   exact .inl h1
  ·exact .inr ⟨l1,h1,rfl⟩
 ·rintro(h|⟨ys,h,rfl⟩)
  ·exact⟨zs,[],by rw[dB],h,jG _⟩
  ·exact NG ys ([z]) ⟨rfl,h,j3 _⟩
theorem sP{nm:AF}:∀{zs:AF},zs∈yd nm↔zs.Sublist nm:=by
 induction nm using wG with
 | h0=>
  intro zs
  show zs∈[[]]↔_
  rw[bD,kJ]
 | h1 nm z ih=>
  intro zs
  rw[u9,bZ,cD,Up,ih]
  refine or_congr Iff.rfl ⟨?_,?_⟩
  ·rintro⟨ys,h,rfl⟩
   exact⟨ys,ih.mp h,rfl⟩
  ·rintro⟨ys,h,rfl⟩
   exact⟨ys,ih.mpr h,rfl⟩
theorem dw{α:Type}{cs:List (List α)}(h:cs.Nodup)(x:α):(cs.map (·++[x])).Nodup:=by
 rw[List.Nodup,dC]
 exact h.imp fun {a b} hab e=>hab (List.append_cancel_right e)
theorem Qr{nm:AF}(nd:nm.Nodup):(yd nm).Nodup:=by
 induction nm using wG with
 | h0=>exact eU _ _
 | h1 nm z ih=>
  rw[eY] at nd
  rw[u9,eY]
  refine⟨ih nd.1,dw (ih nd.1) z,fun a ha b hb e=>?_⟩
  subst e
  obtain⟨ys,_,rfl⟩:=cD.mp hb
  have:=(sP.mp ha).subset (cF _ (bD.mpr rfl))
  exact nd.2.2 z this z (bD.mpr rfl) rfl
noncomputable def xj(cs:List (List AF))(chs:List AF):List (List AF):=chs.flatMap fun ch=>cs.map (·++[ch])
theorem ud(cs:List (List AF))(chs:List AF)(ch:AF):xj cs (chs++[ch])=xj cs chs++cs.map (·++[ch]):=by
 unfold xj
 rw[List.flatMap_append,List.flatMap_singleton]
theorem pO(cs:List (List AF))(chs:List AF):(xj cs chs).length=chs.length*cs.length:=by
 induction chs using wG with
 | h0=>rw[fO,gM];rfl
 | h1 chs ch ih=>rw[ud,bF,ih,bA,bF,cP,kQ]
theorem iP{cs:List (List AF)}{chs:List AF}{c:List AF}:c∈xj cs chs↔∃ch∈chs,∃c0∈cs,c0++[ch]=c:=by
 unfold xj
 rw[List.mem_flatMap]
 refine⟨fun⟨ch,h1,h2⟩=>⟨ch,h1,cD.mp h2⟩,fun⟨ch,h1,h2⟩=>⟨ch,h1,cD.mpr h2⟩⟩
theorem Ph{cs:List (List AF)}{chs:List AF}(h1:cs.Nodup)(h2:chs.Nodup):(xj cs chs).Nodup:=by
 induction chs using wG with
 | h0=>exact .nil
 | h1 chs ch ih=>
  rw[eY] at h2
  rw[ud,eY]
  refine⟨ih h2.1,dw h1 ch,fun a ha b hb e=>?_⟩
  subst e
  obtain⟨c1,_,rfl⟩:=cD.mp hb
  obtain⟨ch2,q1,c2,_,q2⟩:=iP.mp ha
  have:=(List.append_inj' q2 rfl).2
  cases this
  exact h2.2.2 _ q1 _ (bD.mpr rfl) rfl
noncomputable def wy(nm:AF):Option AF->List AF
 | none=>yd nm
 | some s=>[s]
noncomputable def yN(nm:AF)(ks:List (Option AF)):List (List AF):=ks.foldl (fun cs k=>xj cs (wy nm k)) [[]]
theorem uA(nm:AF)(ks:List (Option AF))(k:Option AF):yN nm (ks++[k])=xj (yN nm ks) (wy nm k):=by
 unfold yN
 rw[g9]
 rfl
noncomputable def xQ(ks:List (Option AF)):Nat:=(ks.filter fun k=>k.isNone).length
theorem vK(nm:AF)(ks:List (Option AF)):(yN nm ks).length=2^(xQ ks*nm.length):=by
 induction ks using wG with
 | h0=>unfold xQ;rw[fQ,fO,gM];rfl
 | h1 ks k ih=>
  rw[uA,pO,ih]
  have e:xQ (ks++[k])=xQ ks+(if k.isNone then 1 else 0):=by
   unfold xQ
   rw[dS,bF]
   cases k<;>rfl
  rw[e]
  cases k with
  | none=>
   show(yd nm).length*_=_
   rw[sH,show(if (none:Option AF).isNone=true then 1 else 0)=1 from rfl,Nat.add_mul,Nat.one_mul,jK,j7]
  | some s=>
   show 1*_=_
   rw[Nat.one_mul]
   rfl
theorem Pa{nm:AF}(nd:nm.Nodup)(k:Option AF):(wy nm k).Nodup:=by
 cases k with
 | none=>exact Qr nd
 | some s=>exact eU _ _
theorem oM{nm:AF}(nd:nm.Nodup)(ks:List (Option AF)):(yN nm ks).Nodup:=by
 induction ks using wG with
 | h0=>exact eU _ _
 | h1 ks k ih=>
  rw[uA]
  exact Ph ih (Pa nd k)
theorem ve{nm:AF}{ks:List (Option AF)}:(∀s,some s∈ks->s.Sublist nm)->∀{c:List AF},c∈yN nm ks↔yf nm ks c:=by
 induction ks using wG with
 | h0=>
  intro _ c
  show c∈[[]]↔_
  rw[bD]
  constructor
  ·rintro rfl
   exact⟨rfl,fun i o zs h=>by simp at h⟩
  ·intro h
   exact k9.mp h.1
 | h1 ks k ih=>
  intro hs c
  have ih':=@ih (fun s h=>hs s (eV _ h))
  rw[uA,iP]
  have ok:∀ch,ch∈wy nm k↔OkO nm k ch:=fun ch=>by
   cases k with
   | none=>
    show ch∈yd nm↔_
    rw[sP]
    exact⟨fun h=>⟨h,fun _ e=>by cases e⟩,fun h=>h.1⟩
   | some s=>
    show ch∈[s]↔_
    rw[bD]
    constructor
    ·rintro rfl
     exact⟨hs _ (cF _ (bD.mpr rfl)),fun _ e=>by cases e;rfl⟩
    ·exact fun h=>h.2 s rfl
  constructor
  ·rintro⟨ch,h1,c0,h2,rfl⟩
   have f:=ih'.mp h2
   refine⟨by rw[bF,bF,f.1];rfl,fun i o zs e1 e2=>?_⟩
   rw[fP] at e1 e2
   rw[f.1] at e2
   by_cases hi:i<ks.length
   ·rw[Po hi] at e1 e2
    exact f.2 i o zs e1 e2
   ·rw[Pn hi] at e1 e2
    have hl:=(bK.mp e1).1
    rw[cP] at hl
    rw[show i-ks.length=0 by lia] at e1 e2
    cases e1
    cases e2
    exact(ok _).mp h1
  ·intro f
   have hl:c.length=ks.length+1:=by rw[f.1,bF,cP]
   have hne:c≠[]:=fun e=>by rw[e] at hl;cases hl
   have e:=jD hne
   have hd:c.dropLast.length=ks.length:=by rw[List.length_dropLast,hl];rfl
   refine⟨c.getLast hne,(ok _).mpr (f.2 ks.length k _ ?_ ?_),c.dropLast,ih'.mpr ⟨hd,fun i o zs e1 e2=>f.2 i o zs ?_ ?_⟩,e⟩
   ·rw[cV (bG _),fW]
    rfl
   ·have:(c.dropLast++[c.getLast hne])[ks.length]? = c[ks.length]? := by rw[e]
    rw[cV (by lia),hd,fW] at this
    exact this.symm
   ·rw[cS (bK.mp e1).1]
    exact e1
   ·have:(c.dropLast++[c.getLast hne])[i]? = c[i]? := by rw[e]
    rw[cS (bK.mp e2).1] at this
    rw[<- this]
    exact e2
theorem WQ(nm:AF)(ks:List (Option AF))(i:Nat):(yN nm (ks.take i)).length<=(yN nm ks).length:=by
 rw[vK,vK]
 refine fE (by decide) (jI _ ?_)
 unfold xQ
 exact((kA i ks).filter _).length_le
theorem wJ{H:Hp}{α:Type}{f:α->DV}{l:List α}{xs:AK}(h:zF H (l.map f) xs):xs.length=l.length:=by rw[h.length,bA]
noncomputable def XM:Sp:=fun vs H Q _=>∃(pn:Addr) (nm:AF),vs=[.ref pn]/\H pn=some (.tup (nm.map V.str))/\nm.length<=12/\∀(v:V) (H':Hp),B0 H H'->Tell H' (.tup ((yd nm).map zY)) v->Q v H'
theorem qM{nm:AF}(h:nm.length<=12)(i:Nat):(yd (nm.take i)).length<=4096:=by
 rw[sH]
 exact c7 (fE (by decide) (c7 (List.length_take_le' _ _) h)) (by decide)
theorem Qu{nm zs:AF}(h:nm.length<=12){i:Nat}(hz:zs∈yd (nm.take i)):zs.length<=12:=by
 have:=(sP.mp hz).length_le
 have:=List.length_take_le' i nm
 lia
theorem WB(M:Bl mg)(F:Fun K "every_choice" "every_choice" oP f fd):B2 P w K mg base CX0 1 f fd oo XM:=by
 have nd:=dq.nd
 refine F.ok dq ?_ ?_
 ·rintro _ _ _ _⟨_,_,rfl,_⟩
  rfl
 rintro _ _ _ _ H vs Q E hr⟨pn,nm,rfl,ep,n12,q⟩
 refine⟨_,(zN (zW (i:=1) nd rfl (NC rfl) (yc (z9 (yH zD) zD))) (zN (y9 c6 rfl (yt (pv 0)) (zd (i:=2) nd rfl (Or.inr rfl)) (zJ (zW (i:=1) nd rfl (NC rfl) (zP ao (pv 1) (xH ["choice"] ["name"] [2] rfl (yY rfl (by decide +kernel) rfl (by decide +kernel) rfl rfl) (xG (pv 1)) (fun _ _ _ _ _=>(zd (i:=0) (show((["choice"]:List PySem.Str)++(["name"]:List PySem.Str)).Nodup from by decide +kernel) rfl (NC rfl))) (yG (by decide)) zl (fun _ _ _ _ _=>xU) (fun _ _ _ _ _=>(zP uy (pv 0) (yH (z9 (pv 1) zD))))))))) (zJ (zR (yD ym rfl M.tuple bS (z9 (pv 1) zD)))))),?_⟩
 refine⟨(NB 0),fun t0 ht0=>⟨(NB 1),fun l0 hl0=>?_⟩⟩
 have st:=(zH ht0 (.tup [])).trans (zH hl0 (.lst [V.ref t0]))
 have e0:=zH hl0 (.lst [V.ref t0]) _ _ (zM (H:=H) (a:=t0) (o:=.tup []))
 have e1:upd (upd H t0 (.tup [])) l0 (.lst [V.ref t0]) l0=some (.lst [V.ref t0]):=zM
 generalize upd (upd H t0 (.tup [])) l0 (.lst [V.ref t0])=H0 at st e0 e1
 refine⟨_,rfl,pn,rfl,⟨_,SqT.of (st _ _ ep)⟩,wo (K:=K) (a:=pn) (xs:=nm.map V.str) (fun i σ G=>∃(lc:Addr) (ys:AK) (o:Option V),B0 H G/\G lc=some (.lst ys)/\zF G ((yd (nm.take i)).map zY) ys/\σ=[some (.ref pn),some (.ref lc),o])
  ⟨l0,_,none,st,e1,.cons (zw e0 (by show 0<=1000000;decide) .nil) .nil,rfl⟩ (fun i σ G _ ⟨_,_,_,g,_⟩=>SqT.of (g _ _ ep)) ?_ ?_⟩
 ·rintro i y σ G hy ⟨lc,ys,o,g,eG,tG,rfl⟩
  rw[bE] at hy
  obtain⟨z,ez,rfl⟩:=bV.mp hy
  have cl:=qM n12 i
  have cl2:=qM n12 (i+1)
  have ly:=(wJ tG)
  rw[zq ez,u9,bF,bA] at cl2
  refine NF rfl (NF rfl ⟨lc,rfl,⟨_,SqL.of eG⟩,?_⟩)
  refine vY (xs:=ys) (fun j zs G2=>B0 G G2/\zF G2 (((yd (nm.take i)).take j).map fun c=>zY (c++[z])) zs) ⟨B0.refl _,by rw[cW];exact .nil⟩ (fun j zs G2 hj hp=>?_) (fun j u zs G2 hu hp=>?_) (fun zs G2 hp=>?_)
  ·obtain⟨g2,t⟩:=hp
   refine⟨SqL.of (g2 _ _ eG),vh ?_⟩
   rw[(wJ t),bL]
   lia
  ·obtain⟨g2,t⟩:=hp
   obtain⟨d,ed,td⟩:=(zF.keep g2 _ _ tG).at j u hu
   rw[bE] at ed
   obtain⟨c,ec,rfl⟩:=bV.mp ed
   obtain⟨a,xs,rfl,ea,_,tx⟩:=zr (show Tell G2 (.tup (c.map DV.str)) u from td)
   have exs:=w8 tx
   subst exs
   have c12:=Qu n12 (bH ec)
   refine NF rfl (NF rfl ⟨(NB 1),fun t1 ht1=>?_⟩)
   have s1:=zH ht1 (.tup [V.str z])
   refine(NI a t1 (c.map V.str) ([V.str z]) ⟨rfl,rfl,s1 _ _ ea,zM,dJ (zp (by rw[bA];show c.length+1<=1000;lia)),fun b G3 g3 eb=>?_⟩)
   refine⟨g2.trans (s1.trans g3),?_⟩
   rw[zq ec,bM]
   refine zF.snoc (zF.keep (s1.trans g3) _ _ t) ?_
   refine zw eb (by rw[bA,bF];show c.length+1<=1000000;lia) ?_
   have:=vc (H:=G3) (c++[z])
   rw[bM (f:=V.str)] at this
   exact this
  obtain⟨g2,t⟩:=hp
  rw[ly,bY] at t
  intro D hD
  have lz:=(wJ t)
  have sD:=zH hD (.lst zs)
  refine(NI lc D ys zs ⟨rfl,rfl,sD _ _ (g2 _ _ eG),zM,dJ (vh (by lia)),fun lq hlq=>?_⟩)
  have sq:=(g2.trans sD).trans (zH hlq (.lst (ys++zs)))
  refine⟨lq,ys++zs,_,g.trans sq,zM,?_,rfl⟩
  rw[zq ez,u9,bM]
  refine zF.append (zF.keep sq _ _ tG) ?_
  rw[eJ]
  exact zF.keep (sD.trans (zH hlq (.lst (ys++zs)))) _ _ t
 ·rintro σ G ⟨lc,ys,o,g,eG,tG,rfl⟩
  rw[bA,bY] at tG
  refine(NF rfl (NG lc ys ⟨rfl,.inl ⟨SqL.of eG,fun t ht=>q _ _ (g.trans (zH ht _)) (zw zM ?_ (zF.keep (zH ht _) _ _ tG))⟩⟩))
  rw[bA]
  have:=qM n12 nm.length
  rw[bY] at this
  lia
noncomputable def ka:Sp:=fun vs H Q _=>∃(pc ph:Addr) (us ws:AK) (cs:List (List AF)) (chs:List AF),vs=[.ref pc,.ref ph]/\H pc=some (.tup us)/\zF H (cs.map yA) us/\H ph=some (.tup ws)/\zF H (chs.map zY) ws/\chs.length*cs.length<=4096/\chs.length<=4096/\cs.length<=4096/\(∀c∈cs,c.length<=100)/\
 ∀(v:V) (H':Hp),B0 H H'->Tell H' (.tup ((xj cs chs).map yA)) v->Q v H'
theorem Xz(M:Bl mg)(F:Fun K "one_number_further" "one_number_further" nu f fd):B2 P w K mg base CX0 1 f fd m4 ka:=by
 have nd:=bu.nd
 refine F.ok bu ?_ ?_
 ·rintro _ _ _ _⟨_,_,_,_,_,_,rfl,_⟩
  rfl
 rintro _ _ _ _ H vs Q E hr⟨pc,ph,us,ws,cs,chs,rfl,ec,tc,eh,th,l1,l2,l3,h100,q⟩
 refine⟨_,(zN (zW (i:=2) nd rfl (NC rfl) (yc zD)) (zN (y9 c6 rfl (yt (pv 1)) (zd (i:=3) nd rfl (Or.inr rfl)) (zJ (yB (yq cA PySem.F.slot_list_extend PySem.F.type_list_extend SD (pv 2) (z9 (xH ["course"] ["choice"] [3] rfl (yY rfl (by decide +kernel) rfl (by decide +kernel) rfl rfl) (yt (pv 0)) (fun _ _ _ _ _=>(zd (i:=0) (show((["course"]:List PySem.Str)++(["choice"]:List PySem.Str)).Nodup from by decide +kernel) rfl (NC rfl))) (yG (by decide)) zl (fun _ _ _ _ _=>xU) (fun _ _ _ _ _=>(zP uy (pv 0) (yH (z9 (pv 1) zD))))) zD))))) (zJ (zR (yD ym rfl M.tuple bS (z9 (pv 2) zD)))))),?_⟩
 refine⟨(NB 0),fun lf hlf=>?_⟩
 have s0:=zH hlf (.lst [])
 have lu:=(wJ tc)
 have lw:=(wJ th)
 have part:∀i,(xj cs (chs.take i)).length<=4096:=fun i=>by
  rw[pO]
  refine c7 (jI _ ?_) l1
  rw[bL]
  exact Nat.min_le_right _ _
 refine(NF rfl ⟨ph,rfl,⟨_,SqT.of (s0 _ _ eh)⟩,wo (K:=K) (a:=ph) (xs:=ws) (fun i σ G=>∃(o3:Option V) (ys:AK),B0 H G/\G lf=some (.lst ys)/\zF G ((xj cs (chs.take i)).map yA) ys/\σ=[some (.ref pc),some (.ref ph),some (.ref lf),o3]) ⟨none,[],s0,zM,by rw[cW];exact .nil,rfl⟩ (fun i σ G _ ⟨_,_,g,_⟩=>SqT.of (g _ _ eh)) ?_ ?_⟩)
 ·rintro i y σ G hi ⟨o3,ys,g,eG,tG,rfl⟩
  obtain⟨d,ed,td⟩:=th.at i y hi
  rw[bE] at ed
  obtain⟨ch,ech,rfl⟩:=bV.mp ed
  have pi:=part i
  have pi2:=part (i+1)
  rw[zq ech,ud,bF,bA] at pi2
  refine NF rfl ⟨.inl ⟨rfl,_,SqL.of eG⟩,NF rfl ⟨pc,rfl,⟨_,SqT.of (g _ _ ec)⟩,?_⟩⟩
  refine wI (xs:=us) (fun j zs G2=>B0 G G2/\zF G2 ((cs.take j).map fun c=>yA (c++[ch])) zs) ⟨B0.refl _,by rw[cW];exact .nil⟩ (fun j zs G2 hj hp=>?_) (fun j u zs G2 hu hp=>?_) (fun zs G2 hp=>?_)
  ·obtain⟨g2,t⟩:=hp
   refine⟨SqT.of (g2 _ _ (g _ _ ec)),vh ?_⟩
   rw[(wJ t),bL]
   lia
  ·obtain⟨g2,t⟩:=hp
   have cg:=g.trans g2
   obtain⟨d,ed,tu⟩:=(zF.keep cg _ _ tc).at j u hu
   rw[bE] at ed
   obtain⟨c,ecc,rfl⟩:=bV.mp ed
   obtain⟨a,xs,rfl,ea,_,tx⟩:=zr (show Tell G2 (.tup (c.map zY)) u from tu)
   have lx:=(wJ tx)
   have c100:=h100 c (bH ecc)
   refine NF rfl (NF rfl ⟨(NB 1),fun t1 ht1=>?_⟩)
   have s1:=zH ht1 (.tup [y])
   refine(NI a t1 xs ([y]) ⟨rfl,rfl,s1 _ _ ea,zM,dJ (zp (by show xs.length+1<=1000;lia)),fun b G3 g3 eb=>?_⟩)
   refine⟨g2.trans (s1.trans g3),?_⟩
   rw[zq ecc,bM]
   refine zF.snoc (zF.keep (s1.trans g3) _ _ t) ?_
   refine zw eb (by rw[bA,bF];show c.length+1<=1000000;lia) ?_
   rw[bM]
   exact zF.snoc (zF.keep (s1.trans g3) _ _ tx) (Tell.keep (cg.trans (s1.trans g3)) _ _ td)
  obtain⟨g2,t⟩:=hp
  rw[lu,bY] at t
  intro D hD
  have lz:=(wJ t)
  have ly:=(wJ tG)
  have sD:=zH hD (.lst zs)
  refine NI lf D ys zs ⟨rfl,rfl,sD _ _ (g2 _ _ eG),zM,dJ (vh (by lia)),?_⟩
  have cg:=(g.trans g2).trans sD
  refine⟨_,ys++zs,wQ cg hlf,zM,?_,rfl⟩
  rw[zq ech,ud,bM]
  refine zF.over (sD _ _ (g2 _ _ eG)) vT _ _ (zF.append (zF.keep (g2.trans sD) _ _ tG) ?_)
  rw[eJ]
  exact zF.keep sD _ _ t
 ·rintro σ G ⟨o3,ys,g,eG,tG,rfl⟩
  rw[lw,bY] at tG
  refine(NF rfl (NG lf _ ⟨rfl,.inl ⟨SqL.of eG,fun t ht=>q _ _ (g.trans (zH ht _)) (zw zM ?_ (zF.keep (zH ht _) _ _ tG))⟩⟩))
  have:=part chs.length
  rw[bY] at this
  rw[bA]
  lia
theorem aV(ns:AJ)(r:Int):zj ns r=(zz ns).filter fun n=>decide (zy ns n r=0):=by
 unfold zj lwtL
 rw[List.filter_map,eJ]
 exact List.map_id _
theorem Wz{ns:AJ}{r n:Int}:n∈zj ns r↔n∈zz ns/\zy ns n r=0:=by rw[aV,cG,Pp]
theorem VL(ns:AJ)(r:Int):(zj ns r).Pairwise (· < ·):=by
 rw[aV]
 exact(uY ns).filter _
theorem ZT{hs:AJ}{z3:AL}{r:Int}{m:Nat}(h60:∀x∈hs,1<=x/\x<=60)(it:yZ hs m):zj hs r=(upI 1 m).filter fun n=>(yX hs z3 r n).isNone:=by
 refine wR (VL hs r) ((xt _ _).filter _) fun x=>?_
 rw[Wz,cG,yx,xr]
 have ko:(yX hs z3 r x).isNone=true↔¬(x∈hs\/zy hs x r≠0):=by
  unfold yX
  by_cases c:x∈hs\/zy hs x r≠0
  ·rw[Po c]
   exact⟨(fun h=>by cases h),fun h=>ND c h⟩
  ·rw[Pn c]
   exact⟨fun _=>c,fun _=>rfl⟩
 rw[ko]
 constructor
 ·rintro⟨⟨h1,h2,y,hy,hxy⟩,h3⟩
  have:=it.2 y hy
  exact⟨by lia,fun q=>q.elim h2 fun q=>q h3⟩
 ·rintro⟨h1,h2⟩
  have hn:x∉hs:=fun q=>h2 (.inl q)
  have ht:zy hs x r=0:=dA fun q=>h2 (.inr q)
  rcases it.1 with q|⟨q,q0⟩
  ·have:=h60 _ q
   have:x≠(m:Int):=fun e=>hn (e ▸ q)
   exact⟨⟨by lia,hn,m,q,by lia⟩,ht⟩
  ·lia
theorem u7{hs:AJ}{z3:AL}{r:Int}{m:Nat}(h60:∀x∈hs,1<=x/\x<=60)(it:yZ hs m):xQ (zc m hs z3 r)=(zj hs r).length:=by
 rw[ZT (z3:=z3) h60 it]
 unfold xQ zc
 rw[List.filter_map,bA]
 rfl
noncomputable def Yu(Sh:ShP):Sp:=fun vs H Q _=>∃(x:Addr) (fp:List Addr) (nm:AF) (r:Int) (z3:AL) (zA:AJ) (m:Nat),vs=[.ref x]/\Sh H x fp nm r (fun n=>yE z3 n r) zA/\GoodN nm/\Rws nm z3/\z3.length<=60/\(∀n∈zA,1<=n/\n<=z3.length)/\0<=r/\r<=10/\yZ zA m/\
 (zj (zG zA) r).length*nm.length<=12/\∀(v:V) (H':Hp),B0 H H'->Tell H' (.tup ((yN nm (zc m (zG zA) z3 r)).map yA)) v->Q v H'
theorem PB{nm:AF}{ks:List (Option AF)}(hs:∀s,some s∈ks->s.Sublist nm)(hl:ks.length<=60){i:Nat}:∀c∈yN nm (ks.take i),c.length<=100:=fun c hc=>by
 have:=((ve fun s h=>hs s (eX h)).mp hc).1
 rw[bL] at this
 lia
theorem uZ{nm:AF}{z3:AL}(R:Rws nm z3){m:Nat}{hs:AJ}{r:Int}{s:AF}(h:some s∈zc m hs z3 r):s.Sublist nm:=by
 unfold zc at h
 obtain⟨n,_,e⟩:=cD.mp h
 unfold yX at e
 split at e
 ·cases e
  unfold zg zk
  rw[bR]
  cases e:z3[(n-1).toNat]? with
  | none=>exact jG _
  | some w=>exact R.sub w (bH e)
 ·cases e
theorem WA{A0:Addr}(M:Bl mg)(T:TxShelf K mg A0)(F:Fun K "every_course" "every_course" nE f fd)(C4:Cal P w K mg base 5 "course_count" uc (rf (ShD K A0)))(C8:Cal P w K mg base 5 "known_sets" uW (rP (ShD K A0)))
  (J4:Cal P w K mg base 1 "every_choice" oo XM) (E4:Cal P w K mg base 1 "one_number_further" m4 ka):B2 P w K mg base CX0 6 f fd oi (Yu (ShD K A0)):=by
 have nd:=df.nd
 refine F.ok df ?_ ?_
 ·rintro _ _ _ _⟨_,_,_,_,_,_,_,rfl,_⟩
  rfl
 rintro _ _ _ _ H vs Q E hr⟨x,fp,nm,r,z3,zA,m,rfl,sh,gn,R,l60,hh,r0,r10,it,few,q⟩
 refine⟨_,(zN (ze (zZ xA (zX C4 (rm hr) rfl (z9 (pv 0) zD)) (vd rfl M.MOST_COURSES) (za _)) (zJ xg) zf) (zN (zW (i:=1) nd rfl (NC rfl) (yH (z9 (yH zD) zD))) (zN (y9 c6 rfl (yt (zX C8 (rm hr) rfl (z9 (pv 0) zD))) (zd (i:=2) nd rfl (NC rfl)) (zN (zW (i:=3) nd rfl (NC rfl) (vt (vA (vP (pv 2))) (zX J4 (rm hr) rfl (z9 (zt (pv 0) rfl) zD)) (yH (z9 (pv 2) zD)))) (zJ (zW (i:=1) nd rfl (NC rfl) (zX E4 (rm hr) rfl (z9 (pv 1) (z9 (pv 3) zD))))))) (zJ (zR (pv 1)))))),?_⟩
 have h60:∀n∈zA,1<=n/\n<=60:=fun n hn=>by have:=hh n hn;lia
 have N1:∀n∈zG zA,1<=n/\n<=60:=fun n hn=>h60 n (yh.mp hn).2
 have itr:yZ (zG zA) m:=it.same fun x=>by
  rw[yh]
  exact⟨fun h=>h.2,fun h=>⟨by have:=h60 x h;lia,h⟩⟩
 have U7:m<=60:=by have:=it.le (k:=60) (by decide) fun x hx=>(h60 x hx).2;lia
 have few':(yN nm (zc m (zG zA) z3 r)).length<=4096:=by
  rw[vK,u7 N1 itr]
  exact c7 (fE (by decide) few) (by decide)
 obtain⟨dx,pn,fs,h1,h3,ln⟩:∃dx pn fs,H x=some (.ins A0 dx fs)/\H pn=some (.tup (nm.map V.str))/\fs.lookup ("names":Str)=some (V.ref pn):=by
  obtain⟨dx,pn,pd,fs,kvs,_,h1,_,h3,_,l1,_⟩:=sh
  exact⟨dx,pn,fs,h1,h3,l1⟩
 refine NF rfl (NK x fp nm r _ zA ⟨rfl,sh,h60,fun H1 s1=>?_⟩)
 have pw:(2:Int)^((zj (zG zA) r).length*nm.length)<=4096:=by
  have:2^((zj (zG zA) r).length*nm.length)<=2^12:=fE (by decide) few
  have e:((2^((zj (zG zA) r).length*nm.length):Nat):Int)=(2:Int)^((zj (zG zA) r).length*nm.length):=by rw[jR];rfl
  lia
 refine(NG _ _ ⟨rfl,rfl,(NF rfl (C0 (fun h=>ND (zx h) (by lia)) fun _=>?_))⟩)
 refine⟨(NB 0),fun t0 ht0=>⟨(NB 1),fun t1 ht1=>?_⟩⟩
 have st0:=zH ht0 (.tup [])
 have st1:=zH ht1 (.tup [V.ref t0])
 have e0:=st1 _ _ (zM (H:=H1) (a:=t0) (o:=.tup []))
 have e1:upd (upd H1 t0 (.tup [])) t1 (.tup [V.ref t0]) t1=some (.tup [V.ref t0]):=zM
 have c1:=s1.trans (st0.trans st1)
 generalize upd (upd H1 t0 (.tup [])) t1 (.tup [V.ref t0])=H2 at e0 e1 c1
 refine NF rfl (NL x fp nm r z3 zA m ⟨rfl,shOk.same sh c1,gn,R,l60,hh,r0,r10,it,fun kv H3 s3 tk=>?_⟩)
 obtain⟨ak,us,rfl,eak,_,tus⟩:=zr tk
 have lus:us.length=m:=by rw[tus.length,bA,x9]
 have c3:=c1.trans s3
 have W5:∀s,some s∈zc m (zG zA) z3 r->s.Sublist nm:=fun s h=>uZ R h
 have lks:(zc m (zG zA) z3 r).length<=60:=by rw[x9];exact U7
 generalize zc m (zG zA) z3 r=ks at few' tus W5 lks q
 have part:=fun i=>c7 (WQ nm ks i) few'
 refine⟨ak,rfl,⟨_,SqT.of eak⟩,wo (K:=K) (a:=ak) (xs:=us) (fun i σ G=>∃(p:Addr) (ws:AK) (o2 o3:Option V),B0 H3 G/\G p=some (.tup ws)/\zF G ((yN nm (ks.take i)).map yA) ws/\σ=[some (.ref x),some (.ref p),o2,o3]) ⟨t1,_,none,none,B0.refl _,s3 _ _ e1,.cons (zw (s3 _ _ e0) (by show 0<=1000000;decide) .nil) .nil,rfl⟩ (fun i σ G _ ⟨_,_,_,_,g,_⟩=>SqT.of (g _ _ eak)) ?_ ?_⟩
 ·rintro i y σ G hi ⟨p,ws,o2,o3,g,ep,tp,rfl⟩
  obtain⟨d,ed,td⟩:=tus.at i y hi
  rw[bE] at ed
  obtain⟨o,eo,rfl⟩:=bV.mp ed
  have p1:=part i
  have p2:=part (i+1)
  rw[zq eo,uA,pO] at p2
  have pos:1<=(yN nm (ks.take i)).length:=by
   rw[vK]
   exact Nat.one_le_two_pow
  have lc:(wy nm o).length<=4096:=c7 (fR _ pos) p2
  have fin:∀{G2:Hp}{b:Addr}{zs:AK},B0 G G2->G2 b=some (.tup zs)->zF G2 ((wy nm o).map zY) zs->ka [.ref p,.ref b] G2 (fun v H1=>∃(p':Addr) (ws:AK) (o2 o3:Option V),B0 H3 H1/\H1 p'=some (.tup ws)/\zF H1 ((yN nm (ks.take (i+1))).map yA) ws/\[some (V.ref x),some v,some y,some (.ref b)]=[some (.ref x),some (.ref p'),o2,o3]) (fun _ _ _=>False):=fun {G2 b zs} g2 eb tb=>by
   refine(NK p b ws zs _ _ ⟨rfl,g2 _ _ ep,zF.keep g2 _ _ tp,eb,tb,p2,lc,p1,PB W5 lks,fun v H' s' tv=>?_⟩)
   obtain⟨a',ws',rfl,ea',_,ta'⟩:=zr tv
   refine⟨a',ws',_,_,g.trans (g2.trans s'),ea',?_,rfl⟩
   rw[zq eo,uA]
   exact ta'
  cases o with
  | none=>
   have ey:y=.non:=by
    unfold optD Tell at td
    exact td
   subst ey
   refine NF rfl (NF rfl (F3 (NF rfl (NJ x A0 dx fs _ ⟨rfl,g _ _ (c3 _ _ h1),T.cl,T.n_names,ln,(NG pn nm ⟨rfl,g _ _ (c3 _ _ h3),gn.hi,fun v H' s' tv=>?_⟩)⟩))))
   obtain⟨b,zs,rfl,eb,_,tb⟩:=zr tv
   exact NF rfl (NF rfl (fin s' eb tb))
  | some s0=>
   obtain⟨b,vs2,rfl,eb2,_,tb2⟩:=zr (show Tell H3 (.tup (s0.map DV.str)) y from td)
   refine NF rfl (NF rfl (C1 (NF rfl ⟨(NB 1),fun t ht=>?_⟩)))
   have st:=zH ht (.tup [V.ref b])
   exact NF rfl (NF rfl (fin st zM (.cons (Tell.keep (g.trans st) _ _ td) .nil)))
 ·rintro σ G ⟨p,ws,o2,o3,g,ep,tp,rfl⟩
  have ll:ks.take us.length=ks:=cN (by have:=wJ tus;lia)
  rw[ll] at tp
  exact NF rfl (q _ _ (c3.trans g) (zw ep (by rw[bA];lia) tp))
theorem Wy(s:AF):Rk 1 (zY s):=⟨_,rfl,fun x hx=>by
 obtain⟨z,_,rfl⟩:=cD.mp hx
 exact⟨z,rfl⟩⟩
theorem tR(c:List AF):Rk 2 (yA c):=⟨_,rfl,fun x hx=>by
 obtain⟨s,_,rfl⟩:=cD.mp hx
 exact Wy s⟩
theorem mj{α β:Type}{f:α->β}(h:∀x y,f x=f y->x=y):∀a b:List α,a.map f=b.map f->a=b
 | [],[],_=>rfl
 | [],_::_,e=>by cases e
 | _::_,[],e=>by cases e
 | x::a,y::b,e=>by
  rw[cJ,cJ] at e
  injection e with e1 e2
  rw[h x y e1,mj h a b e2]
theorem VJ(a b:AF)(h:zY a=zY b):a=b:=by
 unfold zY at h
 injection h with h
 exact mj (fun x y e=>by injection e) a b h
theorem jf(a b:List AF)(h:yA a=yA b):a=b:=by
 unfold yA at h
 injection h with h
 exact mj VJ a b h
theorem gh{cs:List (List AF)}(h:cs.Nodup):D8 (cs.map yA)=cs.map yA:=lZ (by
 rw[List.Nodup,dC]
 exact h.imp fun {a b} hab e=>hab (jf a b e))
noncomputable def subL:AF->Nat->AF
 | [],_=>[]
 | z::nm,c=>(if c%2=1 then [z] else [])++subL nm (c / 2)
noncomputable def yR(nm:AF):Nat->Nat->List AF
 | _,0=>[]
 | c,m+1=>subL nm c::yR nm (c / 2^nm.length) m
theorem vo:∀(nm:AF) (c:Nat),(subL nm c).Sublist nm
 | [],_=>j3 _
 | z::nm,c=>by
  unfold subL
  split
  ·exact(vo nm (c / 2)).cons_cons z
  ·exact(vo nm (c / 2)).cons z
theorem Zd:∀{nm:AF},nm.Nodup->∀{c c':Nat},subL nm c=subL nm c'->c%2^nm.length=c'%2^nm.length
 | [],_,c,c',_=>by rw[fO,gK,Nat.mod_one,Nat.mod_one]
 | z::nm,nd,c,c',h=>by
  rw[dE] at nd
  have nz:∀k,z∉subL nm k:=fun k hk=>nd.1 ((vo nm k).subset hk)
  unfold subL at h
  have key:c%2=c'%2/\subL nm (c / 2)=subL nm (c' / 2):=by
   rcases Nat.mod_two_eq_zero_or_one c with h1|h1<;>rcases Nat.mod_two_eq_zero_or_one c' with h2|h2<;>rw[h1,h2] at h ⊢
   ·exact⟨rfl,h⟩
   ·exact ND (show z∈subL nm (c / 2) by rw[show subL nm (c / 2)=z::subL nm (c' / 2) from h];exact bT) (nz _)
   ·exact ND (show z∈subL nm (c' / 2) by rw[<- show z::subL nm (c / 2)=subL nm (c' / 2) from h];exact bT) (nz _)
   ·exact⟨rfl,(List.cons.inj (show z::subL nm (c / 2)=z::subL nm (c' / 2) from h)).2⟩
  have ih:=Zd nd.2 key.2
  rw[bW,gJ,j7,Nat.mod_mul,Nat.mod_mul,key.1,ih]
theorem vH(nm:AF):∀(m c:Nat),(yR nm c m).length=m
 | 0,_=>rfl
 | m+1,c=>by unfold yR;rw[bW,vH nm m]
theorem Yw{nm:AF}(nd:nm.Nodup):∀(m c c':Nat),c<2^(m*nm.length)->c'<2^(m*nm.length)->yR nm c m=yR nm c' m->c=c'
 | 0,c,c',h,h',_=>by
  rw[gM,gK] at h h'
  lia
 | m+1,c,c',h,h',e=>by
  unfold yR at e
  injection e with e1 e2
  have p:2^((m+1)*nm.length)=2^nm.length*2^(m*nm.length):=by rw[kQ,jK,j7]
  rw[p] at h h'
  have d:=Yw nd m _ _ (Nat.div_lt_of_lt_mul h) (Nat.div_lt_of_lt_mul h') e2
  have a:=jP c (2^nm.length)
  have b:=jP c' (2^nm.length)
  rw[d,Zd nd e1,b] at a
  exact a.symm
theorem qB(nm:AF):∀(m c:Nat),∀zs∈yR nm c m,zs.Sublist nm
 | 0,_,zs,h=>by cases h
 | m+1,c,zs,h=>by
  unfold yR at h
  rcases bI.mp h with rfl|h
  ·exact vo nm c
  ·exact qB nm m _ zs h
theorem u3{nm:AF}{m:Nat}{c:List AF}:yf nm (List.replicate m none) c↔c.length=m/\∀zs∈c,zs.Sublist nm:=by
 constructor
 ·intro h
  refine⟨by rw[h.1,d7],fun zs hz=>?_⟩
  obtain⟨i,hi⟩:=d9.mp hz
  have hl:i<m:=by
   have:=(bK.mp hi).1
   rw[h.1,d7] at this
   exact this
  exact(h.2 i none zs (by rw[fF,Po hl]) hi).1
 ·rintro⟨h1,h2⟩
  refine⟨by rw[h1,d7],fun i o zs e1 e2=>?_⟩
  rw[fF] at e1
  split at e1
  ·cases e1
   exact⟨h2 zs (bH e2),fun _ e=>by cases e⟩
  ·cases e1
noncomputable def vB(nm:AF)(m:Nat):List (List AF):=(List.range (2^(m*nm.length))).map fun c=>yR nm c m
theorem iH{nm:AF}(nd:nm.Nodup)(m:Nat):(vB nm m).Nodup:=by
 unfold vB
 rw[List.Nodup,dC]
 refine jX (fun {a b} ha hb hab e=>?_) hG
 have:=Yw nd m a b (cY.mp ha) (cY.mp hb) e
 lia
theorem QX(m:Nat):xQ (List.replicate m none)=m:=by
 unfold xQ
 rw[List.filter_eq_self.mpr fun x hx=>by rw[k7 hx];rfl,d7]
theorem Sz{nm:AF}(nd:nm.Nodup){m:Nat}{c:List AF}:c∈vB nm m↔yf nm (List.replicate m none) c:=by
 have sub:∀x∈vB nm m,x∈yN nm (List.replicate m none):=fun x hx=>by
  unfold vB at hx
  obtain⟨k,_,rfl⟩:=cD.mp hx
  exact(ve fun s h=>by cases k7 h).mpr (u3.mpr ⟨vH nm m k,qB nm m k⟩)
 rw[<- ve (nm:=nm) (ks:=List.replicate m none) fun s h=>by cases k7 h]
 refine⟨sub c,fun hc=>dA fun nc=>?_⟩
 have l1:(vB nm m).length=2^(m*nm.length):=by unfold vB;rw[bA,fI]
 have l2:(yN nm (List.replicate m none)).length=2^(m*nm.length):=by rw[vK,QX]
 have:=Tab.uq (a:=c::vB nm m) (b:=yN nm (List.replicate m none)) (dE.mpr ⟨nc,iH nd m⟩) fun x hx=>by
  rcases bI.mp hx with rfl|hx
  ·exact hc
  ·exact sub x hx
 rw[bW,l1,l2] at this
 lia
noncomputable def noAt(z:Str)(num:Int):Nat->List AF->Bool
 | _,[]=>true
 | i,zs::r=>!(decide (num<(i:Int)+1) && decide (z∈zs)) && noAt z num (i+1) r
theorem Xi(z:Str)(num:Int):∀(c:List AF) (i:Nat) (ch:AF),noAt z num i (c++[ch])=(noAt z num i c && !(decide (num<((i+c.length:Nat):Int)+1) && decide (z∈ch)))
 | [],i,ch=>by
  show(!(decide (num<(i:Int)+1) && decide (z∈ch)) && true)=_
  rw[lE]
  rfl
 | zs::c,i,ch=>by
  show(!(decide (num<(i:Int)+1) && decide (z∈zs)) && noAt z num (i+1) (c++[ch]))=_
  rw[Xi z num c (i+1) ch,<- Bool.and_assoc,bW,show i+1+c.length=i+(c.length+1) by lia]
  rfl
noncomputable def wD(nm:AF)(z:Str):Nat:=(yd nm).countP fun zs=>decide (z∉zs)
theorem QH{nm:AF}{z:Str}(h:z∉nm):wD nm z=2^nm.length:=by
 unfold wD
 rw[show((yd nm).countP fun zs=>decide (z∉zs))=(yd nm).length from List.countP_eq_length.mpr fun zs hz=>Pq fun q=>h ((sP.mp hz).subset q),sH]
theorem Qc{nm:AF}(nd:nm.Nodup){z:Str}(h:z∈nm):2*wD nm z=2^nm.length:=by
 induction nm using wG with
 | h0=>cases h
 | h1 nm y ih=>
  rw[eY] at nd
  have e:wD (nm++[y]) z=wD nm z+(yd nm).countP fun zs=>decide (z∉zs++[y]):=by
   unfold wD
   rw[u9,lD,List.countP_map]
   rfl
  rw[e,bF,cP,gJ]
  by_cases c:z=y
  ·subst c
   have nz:z∉nm:=fun q=>nd.2.2 z q z (bD.mpr rfl) rfl
   rw[QH nz,show((yd nm).countP fun zs=>decide (z∉zs++[z]))=0 from List.countP_eq_zero.mpr fun zs _ q=>(Px q) (cF _ (bD.mpr rfl))]
   lia
  ·have hz:z∈nm:=(bZ.mp h).elim id fun q=>ND (bD.mp q) c
   have e2:((yd nm).countP fun zs=>decide (z∉zs++[y]))=wD nm z:=by
    unfold wD
    refine j5 fun zs _=>?_
    rw[Pp,Pp,bZ,bD]
    exact⟨fun q p=>q (.inl p),fun q p=>p.elim q c⟩
   have:=ih nd.1 hz
   rw[e2]
   lia
theorem Xx(z:Str)(num:Int){cs:List (List AF)}{L:Nat}(hl:∀c∈cs,c.length=L)(chs:List AF):(xj cs chs).countP (noAt z num 0)=cs.countP (noAt z num 0)*chs.countP fun ch=>!(decide (num<(L:Int)+1) && decide (z∈ch)):=by
 induction chs using wG with
 | h0=>rw[show xj cs []=[] from rfl,jS,jS,Nat.mul_zero]
 | h1 chs ch ih=>
  rw[ud,lD,ih,lD,Nat.mul_add,List.countP_map]
  congr 1
  have e:∀c∈cs,(noAt z num 0 ∘ fun x=>x++[ch]) c=(noAt z num 0 c && !(decide (num<(L:Int)+1) && decide (z∈ch))):=fun c hc=>by
   show noAt z num 0 (c++[ch])=_
   rw[Xi,eZ,hl c hc]
  rw[j5 fun c hc=>by rw[e c hc]]
  cases q:!(decide (num<(L:Int)+1) && decide (z∈ch)) with
  | true=>
   rw[lN,q,jS,Po rfl,Nat.mul_one]
   exact j5 fun c _=>by rw[lE]
  | false=>
   rw[lN,q,jS,Pn (by decide),Nat.mul_zero]
   exact List.countP_eq_zero.mpr fun c _ h=>by rw[j6] at h;cases h
noncomputable def vD(num:Int)(ks:List (Option AF)):Nat:=((List.range ks.length).filter fun i:Nat=>decide (ks[i]? = some none) && decide (num<(i:Int)+1)).length
noncomputable def uj(z:Str)(num:Int)(ks:List (Option AF)):Prop:=∃(i:Nat) (s:AF),ks[i]? = some (some s)/\num<(i:Int)+1/\z∈s
theorem Qx(num:Int)(ks:List (Option AF))(k:Option AF):vD num (ks++[k])=vD num ks+(if k=none/\num<(ks.length:Int)+1 then 1 else 0):=by
 unfold vD
 rw[bF,cP,List.range_succ,dS,bF]
 congr 1
 ·congr 1
  refine lH fun i hi=>?_
  rw[cS (cY.mp hi)]
 ·rw[fB,fQ,cV (bG _),fW]
  show(if (decide (some k=some none) && decide (num<(ks.length:Int)+1))=true then [ks.length] else []).length=_
  by_cases h1:k=none
  ·by_cases h2:num<(ks.length:Int)+1
   ·rw[Pq (Pu some h1),Pq h2,Po (show k=none/\num<(ks.length:Int)+1 from⟨h1,h2⟩)]
    rfl
   ·rw[Pt h2,j6,Pn (show ¬(k=none/\num<(ks.length:Int)+1) from fun h=>h2 h.2)]
    rfl
  ·rw[Pt (fun e=>h1 (Option.some.inj e):¬some k=some none),Pn (show ¬(k=none/\num<(ks.length:Int)+1) from fun h=>h1 h.1)]
   rfl
theorem RV{z:Str}{num:Int}{ks:List (Option AF)}{k:Option AF}:uj z num (ks++[k])↔uj z num ks\/∃s,k=some s/\num<(ks.length:Int)+1/\z∈s:=by
 constructor
 ·rintro⟨i,s,h1,h2,h3⟩
  rw[fP] at h1
  split at h1
  ·exact .inl ⟨i,s,h1,h2,h3⟩
  ·rename_i c
   have hl:=(bK.mp h1).1
   rw[cP] at hl
   have e:i=ks.length:=by lia
   subst e
   rw[fW] at h1
   exact .inr ⟨s,Option.some.inj h1,h2,h3⟩
 ·rintro(⟨i,s,h1,h2,h3⟩|⟨s,rfl,h2,h3⟩)
  ·exact⟨i,s,by rw[cS (bK.mp h1).1];exact h1,h2,h3⟩
  ·exact⟨ks.length,s,by rw[cV (bG _),fW];rfl,h2,h3⟩
theorem RM{nm:AF}(nd:nm.Nodup){z:Str}(hz:z∈nm)(num:Int)(ks:List (Option AF)):(∀s,some s∈ks->s.Sublist nm)->
  (uj z num ks->(yN nm ks).countP (noAt z num 0)=0)/\(¬uj z num ks->(yN nm ks).countP (noAt z num 0)*2^vD num ks=2^(xQ ks*nm.length)):=by
 induction ks using wG with
 | h0=>
  intro _
  refine⟨fun⟨i,s,h,_⟩=>by simp at h,fun _=>?_⟩
  unfold xQ
  rw[fQ,fO,gM]
  rfl
 | h1 ks k ih=>
  intro hs
  obtain⟨i1,i2⟩:=ih fun s h=>hs s (eV _ h)
  have hl:∀c∈yN nm ks,c.length=ks.length:=fun c hc=>((ve fun s h=>hs s (eV _ h)).mp hc).1
  rw[uA,Xx z num hl,RV,Qx]
  have ed:xQ (ks++[k])=xQ ks+(if k.isNone then 1 else 0):=by
   unfold xQ
   rw[dS,bF]
   cases k<;>rfl
  rw[ed]
  cases k with
  | some s=>
   have e1:((wy nm (some s)).countP fun ch=>!(decide (num<(ks.length:Int)+1) && decide (z∈ch)))=if num<(ks.length:Int)+1/\z∈s then 0 else 1:=by
    show([s].countP _)=_
    rw[lN,jS,eZ]
    by_cases h1:num<(ks.length:Int)+1
    ·by_cases h2:z∈s
     ·rw[Po (show num<(ks.length:Int)+1/\z∈s from⟨h1,h2⟩),Pq h1,Pq h2]
      rfl
     ·rw[Pn (show ¬(num<(ks.length:Int)+1/\z∈s) from fun h=>h2 h.2),Pt h2,j6]
      rfl
    ·rw[Pn (show ¬(num<(ks.length:Int)+1/\z∈s) from fun h=>h1 h.1),Pt h1]
     rfl
   rw[e1,Pn (show ¬((some s:Option AF)=none/\num<(ks.length:Int)+1) from fun h=>nomatch h.1),j9,show(if (some s:Option AF).isNone=true then 1 else 0)=0 from rfl,j9]
   constructor
   ·rintro(h|⟨s',e,h2,h3⟩)
    ·rw[i1 h,gM]
    ·cases e
     rw[Po (show num<(ks.length:Int)+1/\z∈s from⟨h2,h3⟩),Nat.mul_zero]
   ·intro h
    rw[Pn (show ¬(num<(ks.length:Int)+1/\z∈s) from fun q=>h (.inr ⟨s,rfl,q.1,q.2⟩)),Nat.mul_one]
    exact i2 fun q=>h (.inl q)
  | none=>
   rw[show(if (none:Option AF).isNone=true then 1 else 0)=1 from rfl,Nat.add_mul,Nat.one_mul]
   constructor
   ·rintro(h|⟨s',e,_⟩)
    ·rw[i1 h,gM]
    ·cases e
   ·intro h
    have j2:=i2 fun q=>h (.inl q)
    by_cases hb:num<(ks.length:Int)+1
    ·have e1:((wy nm none).countP fun ch=>!(decide (num<(ks.length:Int)+1) && decide (z∈ch)))=wD nm z:=by
      show((yd nm).countP _)=_
      unfold wD
      refine j5 fun ch _=>?_
      rw[Pq hb,kF,j0,Ob,Pp]
     rw[e1,Po (show(none:Option AF)=none/\num<(ks.length:Int)+1 from⟨rfl,hb⟩),gJ,jK,<- j2,<- Qc nd hz]
     generalize (yN nm ks).countP (noAt z num 0)=a
     generalize wD nm z=b
     generalize 2^vD num ks=d
     grind
    ·have e1:((wy nm none).countP fun ch=>!(decide (num<(ks.length:Int)+1) && decide (z∈ch)))=2^nm.length:=by
      show((yd nm).countP _)=_
      rw[Pt hb,<- sH]
      exact List.countP_eq_length.mpr fun ch _=>rfl
     rw[e1,Pn (show ¬((none:Option AF)=none/\num<(ks.length:Int)+1) from fun q=>hb q.2),j9,jK,<- j2]
     generalize (yN nm ks).countP (noAt z num 0)=a
     generalize 2^vD num ks=d
     generalize 2^nm.length=b
     grind
noncomputable def Zs(c:List AF)(hs:AJ)(z3:AL)(r:Int):Prop:=∀n∈hs,∀o:Int,1<=o->n-r<=o->o<=n->c[(o-1).toNat]? = some (zk (zg z3 o))
theorem uR{m:Nat}{hs:AJ}{z3:AL}{r:Int}{i:Nat}(hi:i<m):(zc m hs z3 r)[i]? = some (yX hs z3 r (1+(i:Int))):=by
 unfold zc
 rw[bE,show(upI 1 m)[i]? = some (1+(i:Int)) by unfold upI;rw[bE,jO hi];rfl]
 rfl
theorem PF{nm:AF}{hs:AJ}{z3:AL}{r:Int}{m:Nat}{c:List AF}(h60:∀x∈hs,1<=x/\x<=60)(it:yZ hs m)(r0:0<=r)(hc:yf nm (List.replicate m none) c):Zs c hs z3 r↔yf nm (zc m hs z3 r) c:=by
 obtain⟨hl,X5⟩:=u3.mp hc
 constructor
 ·intro ag
  refine⟨by rw[hl,x9],fun i o zs e1 e2=>⟨X5 zs (bH e2),fun ws ew=>?_⟩⟩
  have hi:i<m:=by rw[<- hl];exact(bK.mp e2).1
  rw[uR hi] at e1
  have e1':=Option.some.inj e1
  rw[ew] at e1'
  unfold yX at e1'
  split at e1'
  ·rename_i k
   have ews:=Option.some.inj e1'
   have key:c[((1+(i:Int))-1).toNat]? = some (zk (zg z3 (1+(i:Int)))):=by
    by_cases k1:1+(i:Int)∈hs
    ·exact ag _ k1 _ (by lia) (by lia) (hE _)
    ·have kt:=k.resolve_left k1
     cases f:(upI 1 60).find? (vg hs (1+(i:Int)) r) with
     | none=>
      unfold zy at kt
      rw[f] at kt
      exact ND rfl kt
     | some t=>
      obtain⟨_,q,_⟩:=mq (xt 1 60) f
      obtain⟨q1,q2,q3⟩:=u4.mp q
      exact ag t q3 _ (by lia) (by lia) (by lia)
   rw[show((1+(i:Int))-1).toNat=i by lia,e2] at key
   rw[Option.some.inj key,ews]
  ·cases e1'
 ·intro f n hn o o1 o2 o3
  have hm:=it.2 n hn
  obtain⟨i,hi⟩:∃i:Nat,o=1+(i:Int):=⟨(o-1).toNat,by lia⟩
  subst hi
  have him:i<m:=by lia
  have hcl:i<c.length:=by lia
  have ko:yX hs z3 r (1+(i:Int))=some (zk (zg z3 (1+(i:Int)))):=by
   unfold yX
   rw[Po]
   by_cases k1:1+(i:Int)∈hs
   ·exact .inl k1
   ·refine .inr fun z=>QN h60 z n hn ?_ (by lia)
    have:1+(i:Int)≠n:=fun e=>k1 (e ▸ hn)
    lia
  have:=(f.2 i _ c[i] (uR him) (bC hcl)).2 _ ko
  rw[show((1+(i:Int))-1).toNat=i by lia,bC hcl,this]
theorem YR(z:Str)(num:Int):∀(c:List AF) (i:Nat),noAt z num i c=true↔∀(j:Nat) (zs:AF),c[j]? = some zs->num<((i+j:Nat):Int)+1->z∉zs
 | [],i=>⟨fun _ j zs h=>(by simp at h),fun _=>rfl⟩
 | zs::c,i=>by
  show(!(decide (num<(i:Int)+1) && decide (z∈zs)) && noAt z num (i+1) c)=true↔_
  rw[bX,YR z num c (i+1),j0,Bool.and_eq_false_iff,Ob,Ob]
  constructor
  ·rintro⟨h1,h2⟩ j ws hj hn
   cases j with
   | zero=>
    cases hj
    exact h1.elim (fun q=>ND hn (by rw[j9];exact q)) id
   | succ j=>exact h2 j ws hj (by rw[show i+1+j=i+(j+1) by lia];exact hn)
  ·intro h
   refine⟨?_,fun j ws hj hn=>h (j+1) ws hj (by rw[show i+(j+1)=i+1+j by lia];exact hn)⟩
   by_cases q:num<(i:Int)+1
   ·exact .inr (h 0 zs rfl q)
   ·exact .inl q
theorem Qp{hs:AJ}{z3:AL}{r:Int}{m:Nat}(num:Int)(h60:∀x∈hs,1<=x/\x<=60)(it:yZ hs m):vD num (zc m hs z3 r)=(ye hs r num).length:=by
 unfold vD ye
 rw[ZT (z3:=z3) h60 it,List.filter_filter,x9]
 unfold upI
 rw[List.filter_map,bA]
 congr 1
 refine lH fun i hi=>?_
 rw[uR (cY.mp hi),cX,bX,Pp,Pp]
 show _↔(decide (num<1+(i:Int)) && (yX hs z3 r (1+(i:Int))).isNone)=true
 rw[bX,Pp,Option.isNone_iff_eq_none]
 constructor
 ·rintro⟨h1,h2⟩
  exact⟨by lia,Option.some.inj h1⟩
 ·rintro⟨h1,h2⟩
  exact⟨Pu some h2,by lia⟩
theorem Rx{hs:AJ}{z3:AL}{r:Int}{m:Nat}{z:Str}(rise:hs.Pairwise (· < ·))(h60:∀x∈hs,1<=x/\x<=60)(it:yZ hs m):uj z (zu (zi hs z3 z)) (zc m hs z3 r)↔wM hs z3 r (zu (zi hs z3 z)) z≠[]:=by
 constructor
 ·rintro⟨i,s,e,lt,hz⟩
  have hi:i<m:=by have:=(bK.mp e).1;rwa [x9] at this
  rw[uR hi] at e
  have e':=Option.some.inj e
  unfold yX at e'
  split at e'
  ·rename_i k
   have es:=Option.some.inj e'
   subst es
   obtain⟨v,ev⟩:=XA hz
   have nin:1+(i:Int)∉hs:=fun hin=>by
    rcases jt (z3:=z3) (z:=z) hs rise with ⟨_,q⟩|⟨n,u,q1,q2,q3,q4⟩
    ·rw[q _ hin] at ev
     cases ev
    ·rw[q1] at lt
     have lt':n<(i:Int)+1:=lt
     rw[q4 _ hin (by lia)] at ev
     cases ev
   have kt:=k.resolve_left nin
   refine lB (a:=1+(i:Int)) ?_
   unfold wM
   rw[cG,bX,Pp,Pp]
   refine⟨xr.mpr ?_,by lia,?_⟩
   ·rcases it.1 with q|⟨q,q0⟩
    ·have:=h60 _ q
     refine⟨by lia,nin,m,q,?_⟩
     have:(1:Int)+(i:Int)≠m:=fun e=>nin (e ▸ q)
     lia
    ·lia
   ·unfold xf
    rw[Pn kt]
    exact hz
  ·cases e'
 ·intro h
  obtain⟨n,hn⟩:=List.exists_mem_of_ne_nil _ h
  unfold wM at hn
  rw[cG,bX,Pp,Pp] at hn
  obtain⟨hl,lt,hz⟩:=hn
  obtain⟨h1,h2,y,hy,h3⟩:=xr.mp hl
  have hm:=it.2 y hy
  obtain⟨i,hi⟩:∃i:Nat,n=1+(i:Int):=⟨(n-1).toNat,by lia⟩
  subst hi
  unfold xf at hz
  split at hz
  ·cases hz
  ·rename_i kt
   exact⟨i,_,by rw[uR (show i<m by lia)];unfold yX;rw[Po (.inr kt)],by lia,hz⟩
theorem ag_is{nm:AF}(nd:nm.Nodup)(n1:1<=nm.length){hs:AJ}{z3:AL}(R:Rws nm z3){r:Int}{m:Nat}{z:Str}(hz:z∈nm)(rise:hs.Pairwise (· < ·))(h60:∀x∈hs,1<=x/\x<=60)(it:yZ hs m) :
  (((yN nm (zc m hs z3 r)).countP fun c=>!noAt z (zu (zi hs z3 z)) 0 c:Nat):Int)=agC nm.length hs z3 r z:=by
 obtain⟨q1,q2⟩:=RM nd hz (zu (zi hs z3 z)) (zc m hs z3 r) fun s h=>uZ R h
 have tot:(yN nm (zc m hs z3 r)).length=2^((zj hs r).length*nm.length):=by rw[vK,u7 h60 it]
 have split:(yN nm (zc m hs z3 r)).countP (noAt z (zu (zi hs z3 z)) 0)+((yN nm (zc m hs z3 r)).countP fun c=>!noAt z (zu (zi hs z3 z)) 0 c)=2^((zj hs r).length*nm.length):=by
  rw[<- tot,List.length_eq_countP_add_countP (noAt z (zu (zi hs z3 z)) 0)]
  congr 1
  exact j5 fun c _=>by simp
 have sa:=Rx (z3:=z3) (r:=r) (z:=z) rise h60 it
 rw[u7 h60 it,Qp _ h60 it] at q2
 unfold agC
 have st:yF hs z3 r (zu (zi hs z3 z)) z="stale"↔wM hs z3 r (zu (zi hs z3 z)) z≠[]:=by
  unfold yF
  by_cases c:0<(wM hs z3 r (zu (zi hs z3 z)) z).length
  ·rw[Po c]
   exact⟨fun _=>gQ.mp c,fun _=>rfl⟩
  ·rw[Pn c]
   refine⟨fun h=>?_,fun h=>ND (gQ.mpr h) c⟩
   split at h<;>exact ND h (by decide)
 have pw:∀k:Nat,((2^k:Nat):Int)=(2:Int)^k:=fun k=>by rw[jR];rfl
 by_cases c:yF hs z3 r (zu (zi hs z3 z)) z="stale"
 ·rw[Po c,<- pw]
  rw[q1 (sa.mpr (st.mp c))] at split
  lia
 ·rw[Pn c,<- pw,<- pw]
  have q:=q2 fun h=>c (st.mpr (sa.mp h))
  have hb:(ye hs r (zu (zi hs z3 z))).length<=(zj hs r).length*nm.length:=c7 (cL _ _) (fR _ n1)
  have e:2^((zj hs r).length*nm.length)=2^((zj hs r).length*nm.length-(ye hs r (zu (zi hs z3 z))).length)*2^(ye hs r (zu (zi hs z3 z))).length:=by rw[<- jK,Nat.sub_add_cancel hb]
  have e2:(yN nm (zc m hs z3 r)).countP (noAt z (zu (zi hs z3 z)) 0)=2^((zj hs r).length*nm.length-(ye hs r (zu (zi hs z3 z))).length):=Nat.eq_of_mul_eq_mul_right (Nat.two_pow_pos _) (q.trans e)
  rw[e2] at split
  lia
theorem pQ{α:Type}[DecidableEq α]{a b:List α}(na:a.Nodup)(nb:b.Nodup)(h:∀x,x∈a↔x∈b):a.length=b.length:=Nat.le_antisymm (Tab.uq na fun x hx=>(h x).mp hx) (Tab.uq nb fun x hx=>(h x).mpr hx)
theorem Pg{α:Type}[DecidableEq α]{a b:List α}(na:a.Nodup)(nb:b.Nodup)(h:∀x,x∈a↔x∈b)(p:α->Bool):a.countP p=b.countP p:=by
 rw[jE,jE]
 exact pQ (na.filter _) (nb.filter _) fun x=>by rw[cG,cG,h x]
theorem tW{nm:AF}{ks:List (Option AF)}{c:List AF}(h:yf nm ks c):yf nm (List.replicate ks.length none) c:=by
 refine⟨by rw[d7];exact h.1,fun i o zs e1 e2=>?_⟩
 have hi:=(bK.mp e1).1
 rw[d7] at hi
 rw[fF,Po hi] at e1
 cases e1
 exact⟨(h.2 i _ zs (bC hi) e2).1,fun _ e=>by cases e⟩
theorem sR(H:Hp):∀m:Nat,zF H ((List.replicate m (none:Option AF)).map optD) (List.replicate m [V.non]).flatten
 | 0=>.nil
 | m+1=>by
  rw[dY,dY,hV,cJ]
  exact .cons tF (sR H m)
theorem rX{c:List AF}{num:Int}{z:Str}:InC c num z↔(!noAt z num 0 c)=true:=by
 rw[j0,<- Bool.not_eq_true,YR]
 constructor
 ·rintro⟨i,zs,h1,h2,h3⟩ h
  exact h i zs h1 (by rw[eZ];exact h2) h3
 ·intro h
  refine dA fun q=>h fun i zs h1 h2 h3=>q ⟨i,zs,h1,?_,h3⟩
  rw[eZ] at h2
  exact h2
theorem UN{k:Nat}(k1:1<=k)(ns:AJ)(z3:AL)(r:Int)(z:Str) :
  (yF ns z3 r (zu (zi ns z3 z)) z="stale"/\agC k ns z3 r z=2^((zj ns r).length*k))\/(yF ns z3 r (zu (zi ns z3 z)) z="sure"/\agC k ns z3 r z=0)\/
  (yF ns z3 r (zu (zi ns z3 z)) z="open"/\0<agC k ns z3 r z/\agC k ns z3 r z<2^((zj ns r).length*k)):=by
 unfold agC
 generalize zu (zi ns z3 z)=num
 by_cases c:yF ns z3 r num z="stale"
 ·rw[Po c]
  exact .inl ⟨c,rfl⟩
 rw[Pn c]
 have h0:¬0<(wM ns z3 r num z).length:=fun h=>c (by unfold yF;rw[Po h])
 have st:yF ns z3 r num z=if vx ns r num=[] then ("sure":Str) else ("open":Str):=by unfold yF;rw[Pn h0]
 have bl:(ye ns r num).length<=(zj ns r).length*k:=c7 (cL _ _) (fR _ k1)
 have p1:∀j:Nat,(0:Int)<2^j:=fun j=>Int.pow_pos (by decide)
 by_cases d:vx ns r num=[]
 ·rw[Po d] at st
  have e:ye ns r num=[]:=by
   unfold ye
   rw[hU]
   intro n hn q
   have:=sV.mp d n hn
   have:=Px q
   lia
  rw[e]
  exact .inr (.inl ⟨st,by show _-(2:Int)^(_-0)=0;rw[j8];lia⟩)
 ·rw[Pn d] at st
  refine .inr (.inr ⟨st,?_,by have:=p1 ((zj ns r).length*k-(ye ns r num).length);lia⟩)
  have ne:ye ns r num≠[]:=fun e=>d (sV.mpr fun n hn=>by
   unfold ye at e
   rw[hU] at e
   have:=e n hn
   rw[Pp] at this
   lia)
  have b1:=gQ.mpr ne
  have lt:(2:Int)^((zj ns r).length*k-(ye ns r num).length)<2^((zj ns r).length*k):=by
   have:=Nat.pow_lt_pow_right (a:=2) (by decide) (show(zj ns r).length*k-(ye ns r num).length<(zj ns r).length*k by lia)
   exact_mod_cast this
  lia
theorem TN{k:Int}{zE:List Deed}(h:v3 k zE):∀x∈zE,1<=x.2/\x.2<=(zV zE:Int):=by
 intro x hx
 obtain⟨i,hi,e⟩:=kY hx
 have ok:=h i x (by rw[bC hi,e])
 have mono:∀j,zV (zE.take j)<=zV zE:=fun j=>by
  unfold zV
  exact((kA j zE).filter _).length_le
 obtain⟨a,n⟩:=x
 cases a with
 | none=>
  have e1:n=(zV (zE.take i):Int)+1:=ok.1
  have:=mono (i+1)
  rw[zq (show zE[i]? = some ((none,n):Deed) by rw[bC hi,e]),wx] at this
  have t:zV (zE.take i)+1<=zV zE:=this
  show 1<=n/\n<=_
  lia
 | some rd=>
  obtain⟨_,_,h3,h4⟩:=ok
  have:=mono i
  show 1<=n/\n<=_
  have h4':n<=(zV (zE.take i):Int):=h4
  lia
theorem QZ{z3:AL}{z:Str}{m:Nat}:∀(ns:AJ),(∀n∈ns,1<=n/\n<=(m:Int))->zi ns (z3.take m) z=zi ns z3 z:=by
 intro ns
 have go:∀(ns:AJ) (zK:Option (Int×Int)),(∀n∈ns,1<=n/\n<=(m:Int))->ns.foldl (fun zK n=>match valL (zg (z3.take m) n) z with|some v=>some (n,v)|none=>zK) zK=ns.foldl (fun zK n=>match valL (zg z3 n) z with|some v=>some (n,v)|none=>zK) zK:=by
  intro ns
  induction ns with
  | nil=>intro _ _;rfl
  | cons n r ih=>
   intro zK h
   rw[dI,dI,sO (h n bT).1 (h n bT).2]
   exact ih _ fun x hx=>h x (bU _ hx)
 exact go ns none
noncomputable def xm(n:Nat):List Deed:=(upI 1 n).map fun k=>(none,k)
theorem ju(i:Nat):xm (i+1)=xm i++[(none,1+(i:Int))]:=by
 unfold xm
 rw[tM,bM]
 rfl
theorem YX(k:Int):∀i,i<=60->v3 k (xm i)/\zV (xm i)=i
 | 0,_=>⟨v3.nil k,rfl⟩
 | i+1,h=>by
  obtain⟨h1,h2⟩:=YX k i (by lia)
  rw[ju]
  refine⟨h1.snoc ⟨by rw[h2];exact Int.add_comm _ _,by rw[h2];lia⟩,?_⟩
  rw[wx,h2]
  rfl
theorem QA{num jp mx:Int}(hj:1<=jp)(hm:num-5*jp<=mx):C5 (num-jp) mx (0-jp)<=4:=by
 refine dA fun h=>?_
 have:=Zo (a:=num-jp) (b:=mx) (c:=0-jp) (i:=4) (by lia) (by lia)
 have e:((4:Nat):Int)*(0-jp)=-(4*jp):=by lia
 rw[e] at this
 lia
noncomputable def LogM(mn:Nat)(k:Int)(zE:List Deed):Prop:=v3 k zE/\zV zE<=mn/\mn<=60
noncomputable def NextM(mn:Nat)(k:Int)(zE:List Deed):Deed->Prop
 | (none,n)=>n=(zV zE:Int)+1/\zV zE<mn
 | (some rd,n)=>1<=rd/\rd<=k/\1<=n/\n<=(zV zE:Int)
theorem LogM.snoc{mn:Nat}{k:Int}{zE:List Deed}{d:Deed}(h:LogM mn k zE)(n:NextM mn k zE d):LogM mn k (zE++[d]):=by
 obtain⟨h1,h2,h3⟩:=h
 obtain⟨a,m⟩:=d
 cases a with
 | none=>
  obtain⟨n1,n2⟩:=n
  have e:zV (zE++[((none,m):Deed)])=zV zE+1:=by rw[wx]<;>rfl
  exact⟨h1.snoc ⟨n1,by lia⟩,by lia,h3⟩
 | some rd=>
  have e:zV (zE++[((some rd,m):Deed)])=zV zE:=by rw[wx]<;>rfl
  exact⟨h1.snoc n,by lia,h3⟩
theorem wlogM(mn:Nat)(k:Int)(m60:mn<=60):∀i,i<=mn->LogM mn k (xm i)/\zV (xm i)=i:=fun i h=>by
 obtain⟨h1,h2⟩:=YX k i (by lia)
 exact⟨⟨h1,by lia,m60⟩,h2⟩
noncomputable def Za(K:AA):Sp:=fun vs H Q _=>∃(lc:Addr) (cs:AJ) (first rds:Int) (mn:Nat),vs=[.ref lc,.int (mn:Int),.int first,.int rds]/\SqL K H lc (cs.map V.int)/\0<=first/\first<=mn/\mn<=60/\1<=rds/\rds<=10/\
 ∀(l:Addr) (us:AK) (zE:List Deed) (H':Hp),H l=none->B0 H H'->H' l=some (.lst us)->Paired (yb H') us zE->LogM mn rds zE->zE.length<=246->Q (.ref l) H'
theorem Si(M:Bl mg)(F:Fun K "_law_deeds" "_law_deeds" pV f fd)(D2:Cal P w K mg base 1 "_law_pick" sM mP):B2 P w K mg base CX0 2 f fd pU (Za K):=by
 have nd:=gd.nd
 refine F.ok gd ?_ ?_
 ·rintro _ _ _ _⟨_,_,_,_,_,rfl,_⟩
  rfl
 rintro _ _ _ _ H vs Q E hr⟨lc,cs,first,rds,mn,rfl,hC,f0,f30,m60,d1,d10,q⟩
 refine⟨_,(zN (vX (i:=4) ["_law_k"] [] [] rfl nd rfl (NC rfl) (yY rfl (by decide +kernel) rfl (by decide +kernel) rfl rfl) (xi rfl M.range (z9 (pv 2) zD)) (fun _ _ _ _ _=>(zd (i:=0) (show((["_law_k"]:List PySem.Str)++([]:List PySem.Str)).Nodup from by decide +kernel) rfl (NC rfl))) (yG (by decide)) zl (fun _ _ _ _ _=>xU) (fun _ _ _ _ _=>(yH (z9 xT (z9 (zP yS (pv 0) zL) zD))))) (zN (zW (i:=5) nd rfl (NC rfl) (pv 2)) (zN (y9 c6 rfl (xG (pv 0)) (zd (i:=6) nd rfl (NC rfl)) (zN (zW (i:=7) nd rfl (NC rfl) (zX D2 (rm hr) rfl (z9 (zP yg (pv 6) zL) (z9 (zP Wx zL zL) zD)))) (zN (ze (zZ xA (zb zo rfl M.len bO (z9 (pv 4) zD)) zL (za _)) (zJ Ux) zf) (zJ (ze (zZ yV (zP y6 (pv 6) zL) zL (za _)) (zJ (y9 c6 rfl (xi rfl M.range (z9 (zP yS zL (zP y6 (pv 7) zL)) zD)) (zd (i:=8) nd rfl (NC rfl)) (zJ (ze (zZ wA (pv 5) (pv 1) (za _)) (zN (zW (i:=5) nd rfl (NC rfl) (zP yS (pv 5) zL)) (zJ (yB (yq cA cB cE xP (pv 4) (z9 (yH (z9 xT (z9 (pv 5) zD))) zD))))) zf)))) (zJ (ze (zZ xA (pv 5) zL (za _)) (zN (zW (i:=9) nd rfl (NC rfl) (zP yS zL (zP y6 (pv 7) (pv 3)))) (zN (zW (i:=10) nd rfl (NC rfl) (zP yS zL (zP y6 (zP yg (pv 7) (pv 3)) (pv 5)))) (lY (ze (zZ yV (zP y6 (pv 6) zL) zL (za _)) (zJ (zW (i:=10) nd rfl (NC rfl) (pv 5))) zf) (zN (yB (yq cA cB cE xP (pv 4) (z9 (yH (z9 xT (z9 (pv 9) (z9 (pv 10) zD)))) zD))) (zJ (ze (zZ yV (zP y6 (pv 6) zL) zL (za _)) (zN (zW (i:=11) nd rfl (NC rfl) (zP yS zL (zP y6 (zP yg (zP yg (pv 7) (pv 3)) (pv 5)) zL))) (zJ (y9 c6 rfl (RF rfl M.range (z9 (zP yu (pv 10) (pv 11)) (z9 (zb (qX rfl) rfl M.max fM (z9 zL (z9 (zP yu (pv 10) (zP xo zL (pv 11))) zD))) (z9 (zP yu zL (pv 11)) zD)))) (zd (i:=12) nd rfl (NC rfl)) (zJ (yB (yq cA cB cE xP (pv 4) (z9 (yH (z9 xT (z9 (pv 9) (z9 (pv 12) zD)))) zD))))))) zf)))))) zf))))))) (zJ (zR (pv 4)))))),?_⟩
 refine NF rfl (NF rfl ⟨by lia,by lia,?_⟩)
 refine jd (lo:=0) (n:=first.toNat) (fun i ys H'=>B0 H H'/\Paired (yb H') ys (xm i)) ⟨B0.refl _,.nil⟩ (fun i ys H' hi hp=>?_) (fun i ys H' hi hp=>?_) (fun ys H' hp=>?_)
 ·obtain⟨g,p⟩:=hp
  have:=xq p
  unfold xm at this
  rw[bA,xk] at this
  exact zp (by lia)
 ·obtain⟨g,p⟩:=hp
  refine NF rfl (NG _ _ ⟨rfl,rfl,(NB 2),fun t ht=>⟨g.trans (zH ht _),?_⟩⟩)
  rw[ju]
  refine jJ (DeedsAt.keep (zH ht _) p) ⟨t,rfl,?_⟩
  rw[zM]
  show some (HO.tup [V.str "write",V.int (0+(i:Int)+1)])=some (HO.tup [V.str "write",V.int (1+(i:Int))])
  rw[jB,Int.add_comm]
 obtain⟨g,p⟩:=hp
 intro l hl
 have nl:H l=none:=g.free hl
 have s1:=g.trans (zH hl (.lst ys))
 have e1:upd H' l (.lst ys) l=some (.lst ys):=zM
 have p1:=DeedsAt.keep (zH hl (.lst ys)) p
 generalize upd H' l (.lst ys)=H1 at s1 e1 p1
 obtain⟨lk0,wn0⟩:=wlogM mn rds m60 first.toNat (by lia)
 have ln0:(xm first.toNat).length=first.toNat:=by
  unfold xm
  rw[bA,xk]
 have wf:((zV (xm first.toNat):Nat):Int)=first:=by rw[wn0];lia
 refine⟨_,rfl,_,rfl,lc,rfl,⟨_,s1.seq hC⟩,xv (K:=K) (a:=lc) (xs:=cs.map V.int) (fun _ σ G=>∃(us:AK) (zE:List Deed) (o6 o7 o8 o9 o10 o11 o12:Option V),B0 H G/\G l=some (.lst us)/\Paired (yb G) us zE/\LogM mn rds zE/\zE.length<=246/\
   σ=[some (.ref lc),some (.int (mn:Int)),some (.int first),some (.int rds),some (.ref l),some (.int (zV zE)),o6,o7,o8,o9,o10,o11,o12]) ⟨ys,xm first.toNat,none,none,none,none,none,none,none,s1,e1,p1,lk0,by lia,by rw[wf];rfl⟩ (fun i σ G _ ⟨_,_,_,_,_,_,_,_,_,g,_⟩=>g.seq hC) ?_ ?_⟩
 ·rintro i u σ G hi ⟨us,zE,o6,o7,o8,o9,o10,o11,o12,sG,eG,pG,lk,l246,rfl⟩
  rw[bE] at hi
  obtain⟨c,_,rfl⟩:=bV.mp hi
  have lu:=xq pG
  refine(NF rfl (NG _ _ ⟨rfl,rfl,⟨by decide,by decide⟩,(NG _ _ ⟨rfl,rfl,⟨by decide,by decide,by decide⟩,(NG _ _ ⟨rfl,(by decide),fun zI x0 x1=>?_⟩)⟩)⟩))
  refine NF rfl (NG l us ⟨rfl,.inl (SqL.of eG),NG _ _ ⟨rfl,rfl,NF rfl (C0 (fun c1=>?_) (fun c1=>?_))⟩⟩)
  ·exact NF rfl (q l us zE G nl sG eG pG lk l246)
  have c1':=wN c1
  have l240:zE.length<=240:=by lia
  refine NF rfl (NG _ _ ⟨rfl,rfl,(by show(0:Int)<5;decide),rfl,NF rfl (C0 (fun c2=>?_) (fun c2=>?_))⟩)
  ·refine(NF rfl (NG _ _ ⟨rfl,rfl,(by show(0:Int)<6;decide),(NG _ _ ⟨rfl,rfl,(NF rfl ⟨by have:=cT zI (show(6:Int)≠0 by decide);lia,by have:=cI zI (show(0:Int)<6 by decide);lia,?_⟩)⟩)⟩))
   have r6:(1+zI%6).toNat<=6:=by have:=cI zI (show(0:Int)<6 by decide);lia
   refine w4 (lo:=0) (n:=(1+zI%6).toNat) (fun j σ G2=>∃(us2:AK) (log2:List Deed) (o8:Option V),B0 H G2/\G2 l=some (.lst us2)/\Paired (yb G2) us2 log2/\LogM mn rds log2/\log2.length<=240+j/\
    σ=[some (.ref lc),some (.int (mn:Int)),some (.int first),some (.int rds),some (.ref l),some (.int (zV log2)),some (.int c),some (.int zI),o8,o9,o10,o11,o12]) ⟨us,zE,_,sG,eG,pG,lk,l240,rfl⟩ (fun j σ G2 hj hp=>?_) (fun σ G2 hp=>?_)
   ·obtain⟨us2,log2,o8',sG2,eG2,pG2,lk2,l2,rfl⟩:=hp
    have lu2:=xq pG2
    refine NF rfl (NF rfl (NG _ _ ⟨rfl,rfl,NF rfl (C0 (fun c3=>?_) (fun c3=>?_))⟩))
    ·have c3':=zx c3
     have eN:((zV (log2++[(none,(zV log2:Int)+1)]):Nat):Int)=(zV log2:Int)+1:=by
      rw[wx]
      rfl
     refine(NF rfl (NG _ _ ⟨rfl,rfl,(NF rfl ⟨.inl ⟨rfl,_,SqL.of eG2⟩,(NF rfl ⟨(NB 2),fun t ht=>(NH l us2 _ ⟨rfl,rfl,zH ht _ _ _ eG2,zp (by lia),?_⟩)⟩)⟩)⟩))
     obtain⟨a1,a2,a3⟩:=kj (none,(zV log2:Int)+1) sG2 nl eG2 pG2 ht
     exact⟨_,log2++[(none,(zV log2:Int)+1)],_,a1,a2,a3,lk2.snoc ⟨rfl,by lia⟩,by rw[bF];exact lM l2,by rw[eN];rfl⟩
    ·exact⟨us2,log2,_,sG2,eG2,pG2,lk2,by lia,rfl⟩
   ·obtain⟨us2,log2,o8',sG2,eG2,pG2,lk2,l2,rfl⟩:=hp
    exact⟨us2,log2,_,_,_,_,_,_,_,sG2,eG2,pG2,lk2,by lia,rfl⟩
  ·refine NF rfl (NG _ _ ⟨rfl,rfl,NF rfl (C0 (fun c3=>?_) (fun c3=>?_))⟩)
   ·have c3':(0:Int)<(zV zE:Int):=zx c3
    have w60:zV zE<=246:=c7 (ZF zE) l246
    have hrd:1<=1+zI%rds/\1+zI%rds<=rds:=by
     have:=cT zI (show rds≠0 by lia)
     have:=cI zI (show(0:Int)<rds by lia)
     lia
    have hnm:1<=1+zI / rds%(zV zE:Int)/\1+zI / rds%(zV zE:Int)<=(zV zE:Int):=by
     have:=cT (zI / rds) (show(zV zE:Int)≠0 by lia)
     have:=cI (zI / rds) c3'
     lia
    refine NF rfl (NF rfl (NG _ _ ⟨rfl,rfl,by lia,NG _ _ ⟨rfl,rfl,?_⟩⟩))
    refine(NF rfl (NF rfl (NG _ _ ⟨rfl,rfl,⟨by lia,by lia⟩,NF rfl (NG _ _ ⟨rfl,rfl,c3',NG _ _ ⟨rfl,rfl,?_⟩⟩)⟩)))
    refine⟨fun σ G2=>∃num:Int,1<=num/\num<=(zV zE:Int)/\G=G2/\σ=[some (.ref lc),some (.int (mn:Int)),some (.int first),some (.int rds),some (.ref l),some (.int (zV zE)),some (.int c),some (.int zI),o8,some (.int (1+zI%rds)),some (.int num),o11,o12],?_,?_⟩
    ·refine NF rfl (NG _ _ ⟨rfl,rfl,(by show(0:Int)<5;decide),rfl,NF rfl (C0 (fun c4=>(NF rfl ?_)) (fun c4=>?_))⟩)
     ·exact⟨_,by lia,hE _,rfl,rfl⟩
     ·exact⟨_,hnm.1,hnm.2,rfl,rfl⟩
    rintro σ G2 ⟨num,hN1,hN2,rfl,rfl⟩
    have hN:1<=num/\num<=(zV zE:Int):=⟨hN1,hN2⟩
    refine(NF rfl ⟨.inl ⟨rfl,_,SqL.of eG⟩,(NF rfl (NF rfl ⟨(NB 3),fun t ht=>(NH l us _ ⟨rfl,rfl,zH ht _ _ _ eG,zp (by lia),?_⟩)⟩))⟩)
    obtain⟨a1,a2,a3⟩:=kj (some (1+zI%rds),num) sG nl eG pG ht
    have lk1:=lk.snoc (d:=(some (1+zI%rds),num)) ⟨hrd.1,hrd.2,hN.1,hN.2⟩
    have wn1:zV (zE++[((some (1+zI%rds),num):Deed)])=zV zE:=by rw[wx];rfl
    have ln1:(zE++[((some (1+zI%rds),num):Deed)]).length=zE.length+1:=by rw[bF];rfl
    generalize hG1:upd (upd G t (.tup (yQ (some (1+zI%rds),num)))) l (.lst (us++[.ref t]))=G1 at a1 a2 a3
    have hG1':upd (upd G t (.tup [V.str "deliver",V.int (1+zI%rds),V.int num])) l (.lst (us++[.ref t]))=G1:=hG1
    rw[hG1']
    clear hG1 hG1'
    refine NF rfl (NG _ _ ⟨rfl,rfl,(by show(0:Int)<5;decide),rfl,NF rfl (C0 (fun c5=>?_) (fun c5=>?_))⟩)
    ·have hj:1<=1+zI / rds / (zV zE:Int)%9/\1+zI / rds / (zV zE:Int)%9<=9:=by
      have:=cT (zI / rds / (zV zE:Int)) (show(9:Int)≠0 by decide)
      have:=cI (zI / rds / (zV zE:Int)) (show(0:Int)<9 by decide)
      lia
     refine(NF rfl (NF rfl (NG _ _ ⟨rfl,rfl,⟨by lia,by lia⟩,(NF rfl (NG _ _ ⟨rfl,rfl,⟨c3',by lia⟩,NG _ _ ⟨rfl,rfl,(by show(0:Int)<9;decide),NG _ _ ⟨rfl,rfl,?_⟩⟩⟩))⟩)))
     refine(NF rfl (NF rfl (NG _ _ ⟨rfl,rfl,(NF rfl (NF rfl (NG _ _ ⟨rfl,rfl,.inl ⟨by decide,by decide⟩,NG _ _ ⟨rfl,rfl,NG _ _ ⟨rfl,NF rfl (NG _ _ ⟨rfl,rfl,NH _ _ _ ⟨rfl,?_,?_⟩⟩)⟩⟩⟩)))⟩)))
     ·refine⟨by lia,by lia,by split<;>lia,by split<;>lia,by lia,by lia⟩
     ·have mx0:0<=(if num-5*(1+zI / rds / (zV zE:Int)%9) > 0 then num-5*(1+zI / rds / (zV zE:Int)%9) else 0):=by split<;>lia
      have mx5:num-5*(1+zI / rds / (zV zE:Int)%9)<=(if num-5*(1+zI / rds / (zV zE:Int)%9) > 0 then num-5*(1+zI / rds / (zV zE:Int)%9) else 0):=by split<;>lia
      have n4:=QA hj.1 mx5
      refine Ub (hi:=num-(1+zI / rds / (zV zE:Int)%9)) (c:=0-(1+zI / rds / (zV zE:Int)%9)) (n:=C5 (num-(1+zI / rds / (zV zE:Int)%9)) (if num-5*(1+zI / rds / (zV zE:Int)%9) > 0 then num-5*(1+zI / rds / (zV zE:Int)%9) else 0) (0-(1+zI / rds / (zV zE:Int)%9))) (fun j σ G2=>∃(us2:AK) (log2:List Deed) (p12:Option V),B0 H G2/\G2 l=some (.lst us2)/\Paired (yb G2) us2 log2/\LogM mn rds log2/\zV log2=zV zE/\log2.length=zE.length+1+j/\
       σ=[some (.ref lc),some (.int (mn:Int)),some (.int first),some (.int rds),some (.ref l),some (.int (zV zE)),some (.int c),some (.int zI),o8,some (.int (1+zI%rds)),some (.int num),some (.int (1+zI / rds / (zV zE:Int)%9)),p12]) ⟨_,_,_,a1,a2,a3,lk1,wn1,ln1,rfl⟩ (fun j σ G2 hj2 hp=>?_) (fun σ G2 hp=>?_)
      ·obtain⟨us2,log2,p12,sG2,eG2,pG2,lk2,w2,l2,rfl⟩:=hp
       have lu2:=xq pG2
       have st:=Zo (by lia) hj2
       refine(NF rfl ⟨.inl ⟨rfl,_,SqL.of eG2⟩,(NF rfl (NF rfl ⟨(NB 3),fun t2 ht2=>(NH l us2 _ ⟨rfl,rfl,zH ht2 _ _ _ eG2,zp (by lia),?_⟩)⟩))⟩)
       obtain⟨b1,b2,b3⟩:=kj (some (1+zI%rds),num-(1+zI / rds / (zV zE:Int)%9)+j*(0-(1+zI / rds / (zV zE:Int)%9))) sG2 nl eG2 pG2 ht2
       exact⟨_,_,_,b1,b2,b3,lk2.snoc ⟨hrd.1,hrd.2,by lia,by rw[w2];lia⟩,by rw[wx,w2]<;>rfl,by rw[bF,l2]<;>rfl,rfl⟩
      ·obtain⟨us2,log2,p12,sG2,eG2,pG2,lk2,w2,l2,rfl⟩:=hp
       exact⟨us2,log2,_,_,_,_,_,_,_,sG2,eG2,pG2,lk2,by lia,by rw[w2]<;>rfl⟩
    ·exact⟨_,_,_,_,_,_,_,_,_,a1,a2,a3,lk1,by lia,by rw[wn1]⟩
   ·exact⟨us,zE,_,_,_,_,_,_,_,sG,eG,pG,lk,l246,rfl⟩
 ·rintro σ G ⟨us,zE,o6,o7,o8,o9,o10,o11,o12,sG,eG,pG,lk,l246,rfl⟩
  exact NF rfl (q l us zE G nl sG eG pG lk l246)
noncomputable def ZK(K:AA)(Bk:BkP):Sp:=fun vs H Q _=>∃(x l lr:Addr) (fp:List Addr) (nm:AF) (r k:Int) (mn:Nat) (us ws:AK) (zE:List Deed) (z3:AL),vs=[.ref x,.ref l,.ref lr]/\Bk H x fp nm r k [] []/\H l=some (.lst us)/\l∉fp/\Paired (yb H) us zE/\LogM mn k zE/\zE.length<=400/\
 H lr=some (.lst ws)/\lr∉fp/\zF H (z3.map rowD) ws/\z3.length=mn/\Rws nm z3/\nm.Nodup/\nm.length<=12/\
 ∀(fp':List Addr) (H':Hp),(∀b∈fp',b∈fp\/H b=none)->yO fp H H'->Bk H' x fp' nm r k (z3.take (zV zE)) zE->Q (.ref x) H'
theorem TQ(M:Bl mg)(F:Fun K "_law_play" "_law_play" qj f fd){B1:Addr}{Bk:BkP}(O:BkOk B1 ["write","deliver","latest","issue","deeds","deed","shelf"] Bk)(J3:D5 P w K mg base 8 B1 "write" pJ (Xj K Bk))(J5:D5 P w K mg base 8 B1 "deliver" oh (iN Bk)) :
  B2 P w K mg base CX0 9 f fd qz (ZK K Bk):=by
 have nd:=iO.nd
 refine F.ok iO ?_ ?_
 ·rintro _ _ _ _⟨_,_,_,_,_,_,_,_,_,_,_,_,rfl,_⟩
  rfl
 rintro _ _ _ _ H vs Q E hr⟨x,l,lr,fp,nm,r,k,mn,us,ws,zE,z3,rfl,bk0,el,nl,pr,lkm,l400,er,nr,tl,r60,R,ndn,n12,q⟩
 refine⟨_,(zN (y9 c6 rfl (xG (pv 1)) (zd (i:=3) nd rfl (NC rfl)) (zJ (ze (PW.pt (wc (zZ yV (zh y8 (pv 3) zL (fun _ _=>rfl)) xT (za _)) (vF (zZ yV (zP y6 (zh y8 (pv 3) zL (fun _ _=>rfl)) zL) zL (za _))))) (zJ (yB (xV J3 (rm hr) (pv 0) (z9 (yD oE rfl M.list kD (z9 (zh yl (pv 2) (zP yu (zh y8 (pv 3) zL (fun _ _=>rfl)) zL) (fun _ _=>rfl)) zD)) zD)))) (zJ (ze (zZ yV (zh y8 (pv 3) zL (fun _ _=>rfl)) xT (za _)) (zJ (yB (xV J3 (rm hr) (pv 0) (z9 (yD ym rfl M.tuple bS (z9 (zh yl (pv 2) (zP yu (zh y8 (pv 3) zL (fun _ _=>rfl)) zL) (fun _ _=>rfl)) zD)) zD)))) (zJ (yB (xV J5 (rm hr) (pv 0) (z9 (zh y8 (pv 3) zL (fun _ _=>rfl)) (z9 (zh y8 (pv 3) zL (fun _ _=>rfl)) zD)))))))))) (zJ (zR (pv 0)))),?_⟩
 have ntp:xY H fp:=O.noTup bk0
 obtain⟨lk,wm,m60⟩:=lkm
 have wmi:∀i,zV (zE.take i)<=mn:=fun i=>by
  have:zV (zE.take i)<=zV zE:=by
   unfold zV
   exact((kA i zE).filter _).length_le
  lia
 have lw:ws.length=mn:=by rw[tl.length,bA,r60]
 have lu:=xq pr
 refine⟨_,rfl,l,rfl,⟨_,SqL.of el⟩,xv (K:=K) (a:=l) (xs:=us) (fun i σ H'=>∃(fp':List Addr) (o:Option V),yO fp H H'/\Bk H' x fp' nm r k (z3.take (zV (zE.take i))) (zE.take i)/\(∀b∈fp',b∈fp\/H b=none)/\σ=[some (.ref x),some (.ref l),some (.ref lr),o])
  ⟨fp,none,.of (B0.refl _),bk0,fun b m=>.inl m,rfl⟩ (fun i σ H' _ ⟨_,_,bt,_⟩=>SqL.of (bt _ _ el nl)) ?_ ?_⟩
 ·rintro i u σ H' hi ⟨fp',o,bt,bk,ff,rfl⟩
  have hi':us.take us.length=us:=bY
  obtain⟨d,ed,b,rfl,hb⟩:∃d,zE[i]? = some d/\yb H u d:=by
   obtain⟨d,e1,e2⟩:=rh pr us.length i u (by rw[bY];exact hi)
   rw[lu,bY] at e1
   exact⟨d,e1,e2⟩
  have ok:=lk i d ed
  have hb':=bt _ _ hb (fun m=>ntp b m _ hb)
  have ltk:(zE.take i).length<400:=by
   have:=(bK.mp ed).1
   rw[bL]
   lia
  obtain⟨d2,g2,z2,w2⟩:=O.ins bk
  have wle:zV (zE.take i)<=(zE.take i).length:=ZF _
  obtain⟨a,n⟩:=d
  cases a with
  | some rd=>
   obtain⟨o1,o2,o3,o4⟩:=ok
   have hbd:H' b=some (.tup [V.str "deliver",V.int rd,V.int n]):=hb'
   refine NF rfl (NI b _ 0 _ ⟨rfl,rfl,SqT.of hbd,rfl,rfl,NF rfl (C1 (C1 ?_))⟩)
   refine NF rfl (NI b _ 0 _ ⟨rfl,rfl,SqT.of hbd,rfl,rfl,NF rfl (C1 ?_)⟩)
   have n60:n<=((z3.take (zV (zE.take i))).length:Int):=by
    have q0:=wmi i
    rw[bL]
    have o4':n<=(zV (zE.take i):Int):=o4
    lia
   refine NF rfl (NH x d2 g2 ⟨rfl,z2,w2 _ (by simp),NF rfl (NI b _ 1 _ ⟨rfl,rfl,SqT.of hbd,rfl,NF rfl (NI b _ 2 _ ⟨rfl,rfl,SqT.of hbd,rfl,(NN x fp' nm r k _ _ rd n ⟨rfl,bk,o1,o2,o3,n60,ltk,fun H7 b7 bk7=>?_⟩)⟩)⟩)⟩)
   have ew:zV (zE.take (i+1))=zV (zE.take i):=by rw[zq ed,wx]<;>rfl
   exact⟨fp',_,(fun b o e nb=>b7 b o (bt b o e nb) fun m=>(ff b m).elim nb fun z=>by rw[e] at z;cases z),by rw[ew,zq ed];exact bk7,ff,rfl⟩
  | none=>
   obtain⟨en,n60⟩:=ok
   have en':n=(zV (zE.take i):Int)+1:=en
   have n60':zV (zE.take i)<60:=n60
   have hbd:H' b=some (.tup [V.str "write",V.int n]):=hb'
   have ew:zV (zE.take (i+1))=zV (zE.take i)+1:=by rw[zq ed,wx]<;>rfl
   have wm1:=wmi (i+1)
   have hlt:zV (zE.take i)<z3.length:=by lia
   obtain⟨v,ev,tv⟩:=(zF.but bt ntp _ _ tl).get (zV (zE.take i)) (rowD z3[zV (zE.take i)]) (by rw[bE,bC hlt]<;>rfl)
   have av:atI ws (n-1)=some v:=by
    rw[en',Int.add_sub_cancel]
    exact yT ev
   have Y3:z3[zV (zE.take i)]? = some z3[zV (zE.take i)]:=bC hlt
   generalize z3[zV (zE.take i)]=wr at tv Y3
   have hw:=bH Y3
   obtain⟨ar,xs,rfl,era,_,tp⟩:=zr tv
   have sb:=R.sub wr hw
   have good:GoodR nm wr:=⟨sb.nodup ndn,fun p hp=>sb.subset (fS hp),fun p hp=>R.val wr hw p hp⟩
   have ino:yj nm wr=wr:=pT ndn sb
   have w12:wr.length<=12:=by
    have:=sb.length_le
    rw[bA] at this
    lia
   have lti:(z3.take (zV (zE.take i))).length=zV (zE.take i):=by rw[bL];lia
   have er':=bt _ _ er nr
   have fin:∀{G:Hp} (fp2:List Addr) (H6:Hp),B0 H' G->(∀b∈fp2,b∈fp'\/G b=none)->yO fp' G H6->Bk H6 x fp2 nm r k (z3.take (zV (zE.take i))++[yj nm wr]) (zE.take i++[(none,((z3.take (zV (zE.take i))).length:Int)+1)])->
     ∃(fp':List Addr) (o:Option V),yO fp H H6/\Bk H6 x fp' nm r k (z3.take (zV (zE.take (i+1)))) (zE.take (i+1))/\(∀b∈fp',b∈fp\/H b=none)/\[some (V.ref x),some (V.ref l),some (V.ref lr),some (V.ref b)]=[some (V.ref x),some (V.ref l),some (V.ref lr),o]:=fun {G} fp2 H6 sl hf2 b6 bk6=>by
    rw[ino,lti,<- zq Y3,<- en',<- zq ed,<- ew] at bk6
    exact⟨fp2,_,(fun b o e nb=>b6 b o (sl _ _ (bt b o e nb)) fun m=>(ff b m).elim nb fun z=>by rw[e] at z;cases z),bk6,Zt bt ff sl hf2,rfl⟩
   refine NF rfl (NI b _ 0 _ ⟨rfl,rfl,SqT.of hbd,rfl,rfl,NF rfl (F3 ?_)⟩)
   refine NF rfl (NI b _ 1 _ ⟨rfl,rfl,SqT.of hbd,rfl,NG _ _ ⟨rfl,rfl,(by show(0:Int)<2;decide),rfl,NF rfl (C0 (fun c=>?_) (fun c=>?_))⟩⟩)
   ·refine NF rfl (NH x d2 g2 ⟨rfl,z2,w2 _ (by simp),NF rfl (NF rfl (NI b _ 1 _ ⟨rfl,rfl,SqT.of hbd,rfl,NG _ _ ⟨rfl,rfl,NI lr ws _ _ ⟨rfl,rfl,SqL.of er',av,(NG ar xs ⟨rfl,.inr (SqT.of era),fun l2 hl2=>?_⟩)⟩⟩⟩))⟩)
    have sl:=zH hl2 (.lst xs)
    have el2:upd H' l2 (.lst xs) l2=some (.lst xs):=zM
    have nl2:l2∉fp':=fun m=>by
     obtain⟨o,e,_⟩:=O.own bk l2 m
     rw[hl2] at e
     cases e
    have bk':=O.same bk sl
    have hts:=ki (zF.keep sl _ _ tp)
    generalize upd H' l2 (.lst xs)=G at sl el2 bk' hts
    exact(NN x (.ref l2) fp' nm r k _ _ wr ⟨rfl,bk',NG l2 xs ⟨rfl,.inl (SqL.of el2),nl2,HT.hand (O.noTup bk') hts⟩,good,w12,by lia,ltk,fun fp2 H6 hf2 b6 bk6=>fin fp2 H6 sl hf2 b6 bk6⟩)
   ·refine NF rfl (NI b _ 0 _ ⟨rfl,rfl,SqT.of hbd,rfl,rfl,NF rfl (F3 ?_)⟩)
    refine NF rfl (NH x d2 g2 ⟨rfl,z2,w2 _ (by simp),NF rfl (NF rfl (NI b _ 1 _ ⟨rfl,rfl,SqT.of hbd,rfl,NG _ _ ⟨rfl,rfl,NI lr ws _ _ ⟨rfl,rfl,SqL.of er',av,NG ar xs ⟨rfl,.inr ⟨SqT.of era,?_⟩⟩⟩⟩⟩))⟩)
    exact(NN x (.ref ar) fp' nm r k _ _ wr ⟨rfl,bk,(NG ar xs ⟨rfl,.inr era,fun m=>O.noTup bk ar m _ era,HT.hand (O.noTup bk) (ki tp)⟩),good,w12,by lia,ltk,fun fp2 H6 hf2 b6 bk6=>fin fp2 H6 (B0.refl _) hf2 b6 bk6⟩)
 ·rintro σ H' ⟨fp',o,bt,bk,ff,rfl⟩
  rw[lu,bY] at bk
  exact NF rfl (q fp' H' ff bt bk)
theorem i4(rd:Int):∀zE:List Deed,(gotL zE rd).Nodup:=by
 intro zE
 have go:∀(zE:List Deed) (zK:AJ),zK.Nodup->(zE.foldl (fun zK d=>if d.1=some rd then addN zK d.2 else zK) zK).Nodup:=by
  intro zE
  induction zE with
  | nil=>intro zK h;exact h
  | cons d zE ih=>
   intro zK h
   rw[dI]
   refine ih _ ?_
   split
   ·unfold addN
    split
    ·exact h
    ·rename_i hn
     exact eY.mpr ⟨h,by simp,fun a ha b hb e=>hn (by rw[<- bD.mp hb,<- e];exact ha)⟩
   ·exact h
 exact go zE [] .nil
noncomputable def Zb(K:AA):Sp:=fun vs H Q _=>∃(l:Addr) (us:AK) (zE:List Deed) (rd:Int) (d:Nat),vs=[.ref l,.int rd,.int d]/\H l=some (.lst us)/\Paired (yb H) us zE/\d<=zE.length/\(∀x∈zE,1<=x.2/\x.2<=60)/\
 ∀(lo:Addr) (H':Hp),H lo=none->B0 H H'->H' lo=some (.lst ((zG (gotL (zE.take d) rd)).map V.int))->Q (.ref lo) H'
theorem RJ(M:Bl mg)(F:Fun K "_law_had_at" "_law_had_at" oR f fd):B2 P w K mg base CX0 1 f fd oZ (Zb K):=by
 have nd:=fi.nd
 refine F.ok fi ?_ ?_
 ·rintro _ _ _ _⟨_,_,_,_,_,rfl,_⟩
  rfl
 rintro _ _ _ _ H vs Q E hr⟨l,us,zE,rd,d,rfl,el,pr,dl,hin,q⟩
 refine⟨_,(zN (zW (i:=3) nd rfl (NC rfl) (yc zD)) (zN (y9 c6 rfl (xG (wu lX (pv 0) wg (wt (pv 2)))) (zd (i:=4) nd rfl (NC rfl)) (zJ (ze (PW.pt (wc (zZ yV (zh y8 (pv 4) zL (fun _ _=>rfl)) xT (za _)) (wc (zZ yV (zh y8 (pv 4) zL (fun _ _=>rfl)) (pv 1) (za _)) (vF (zZ sX (zh y8 (pv 4) zL (fun _ _=>rfl)) (pv 3) (by with_unfolding_all rfl)))))) (zJ (yB (yq cA cB cE xP (pv 3) (z9 (zh y8 (pv 4) zL (fun _ _=>rfl)) zD)))) zf))) (zJ (zR (zb iV rfl M.sorted gL (z9 (pv 3) zD)))))),?_⟩
 have lu:=xq pr
 refine⟨(NB 0),fun lh hlh=>?_⟩
 have s1:=zH hlh (.lst [])
 have e1:upd H lh (.lst []) lh=some (.lst []):=zM
 generalize upd H lh (.lst [])=H1 at s1 e1
 refine NF rfl (NF rfl (NF rfl (NG l _ ⟨rfl,SqL.of (s1 _ _ el),fun lq hlq=>?_⟩)))
 rw[mN (by lia)]
 have s2:=s1.trans (zH hlq (.lst (us.take d)))
 have e2:upd H1 lq (.lst (us.take d)) lq=some (.lst (us.take d)):=zM
 have e3:=zH hlq (.lst (us.take d)) _ _ e1
 have nq:lh≠lq:=yC e1 hlq
 generalize upd H1 lq (.lst (us.take d))=H2 at s2 e2 e3
 have lt:(us.take d).length=d:=by rw[bL];lia
 have W6:∀(lg:List Deed),(∀x∈lg,x∈zE)->∀n∈gotL lg rd,1<=n/\n<=60:=fun lg sub n hn=>hin _ (sub _ (YO.mp hn))
 refine⟨lq,rfl,⟨_,SqL.of e2⟩,xv (K:=K) (a:=lq) (xs:=us.take d) (fun i σ G=>∃o4:Option V,yO [lh] H2 G/\G lh=some (.lst ((gotL ((zE.take d).take i) rd).map V.int))/\σ=[some (.ref l),some (.int rd),some (.int d),some (.ref lh),o4]) ⟨none,.of (B0.refl _),e3,rfl⟩ (fun i σ G _ ⟨_,bt,_⟩=>SqL.of (bt _ _ e2 (by rw[bD];exact eQ nq))) ?_ ?_⟩
 ·rintro i u σ G hi ⟨o4,bt,eh,rfl⟩
  obtain⟨x,ex,b,rfl,hb⟩:=rh pr d i u hi
  have nb:b∉[lh]:=fun m=>by
   rw[bD.mp m,hlh] at hb
   cases hb
  have hb':=bt _ _ (s2 _ _ hb) nb
  have g60:=W6 ((zE.take d).take i) fun x hx=>eX (eX hx)
  have gl:=uG (i4 rd ((zE.take d).take i)) g60
  have eg:gotL ((zE.take d).take (i+1)) rd=if x.1=some rd then addN (gotL ((zE.take d).take i) rd) x.2 else gotL ((zE.take d).take i) rd:=by rw[zq ex,Xs]
  obtain⟨a,n⟩:=x
  cases a with
  | none=>
   have hbd:G b=some (.tup [V.str "write",V.int n]):=hb'
   rw[Pn (fun e=>by cases e)] at eg
   refine NF rfl (NI b _ 0 _ ⟨rfl,rfl,SqT.of hbd,rfl,rfl,NF rfl (C1 ?_)⟩)
   exact C1 ⟨_,bt,by rw[eg];exact eh,rfl⟩
  | some rd'=>
   have hbd:G b=some (.tup [V.str "deliver",V.int rd',V.int n]):=hb'
   refine NF rfl (NI b _ 0 _ ⟨rfl,rfl,SqT.of hbd,rfl,rfl,NF rfl (F3 ?_)⟩)
   refine NF rfl (NI b _ 1 _ ⟨rfl,rfl,SqT.of hbd,rfl,NF rfl ⟨rfl,NF rfl ?_⟩⟩)
   by_cases c:rd'=rd
   ·rw[Po (show(some rd',n).1=some rd by rw[c])] at eg
    rw[Pq (Pu V.int c)]
    refine F3 (NF rfl (NI b _ 2 _ ⟨rfl,rfl,SqT.of hbd,rfl,NF rfl (NG lh _ ⟨rfl,.inl (SqL.of eh),rfl,XQ _,NF rfl ?_⟩)⟩))
    rw[Po rfl,YY]
    unfold addN at eg
    by_cases c2:n∈gotL ((zE.take d).take i) rd
    ·rw[Po c2] at eg
     rw[Pq c2]
     exact C1 ⟨_,bt,by rw[eg];exact eh,rfl⟩
    ·rw[Pn c2] at eg
     rw[Pt c2]
     refine F3 (NF rfl ⟨.inl ⟨rfl,_,SqL.of eh⟩,NF rfl (NI b _ 2 _ ⟨rfl,rfl,SqT.of hbd,rfl,NH lh _ _ ⟨rfl,rfl,eh,zp (by rw[bA];lia),?_⟩⟩)⟩)
     refine⟨_,fun b o e nb=>?_,by rw[zM,eg,bM];rfl,rfl⟩
     rw[zS (fun e=>nb (by rw[e];exact bD.mpr rfl))]
     exact bt b o e nb
   ·rw[Pn (fun e=>c (Option.some.inj e))] at eg
    rw[Pt (fun e=>c (V.int.inj e))]
    exact C1 (C1 ⟨_,bt,by rw[eg];exact eh,rfl⟩)
 ·rintro σ G ⟨o4,bt,eh,rfl⟩
  rw[lt,List.take_take,Nat.min_self] at eh
  have g60:=W6 (zE.take d) fun x hx=>eX hx
  have gnd:=i4 rd (zE.take d)
  refine NF rfl (NG lh _ ⟨rfl,SqL.of eh,by have:=uG gnd g60;lia,fun lo ms hlo hp hs=>?_⟩)
  have em:=rQ gnd g60 hp hs
  have nh:∀{b:Addr}{o:HO},H b=some o->b∉[lh]:=fun e m=>by
   rw[bD.mp m,hlh] at e
   cases e
  have sG:B0 H G:=fun b o e=>bt _ _ (s2 _ _ e) (nh e)
  exact q lo _ (sG.free hlo) (sG.trans (zH hlo _)) (by rw[zM,em])
noncomputable def Zq(K:AA):Sp:=fun vs H Q _=>∃(c m:Nat) (ln:Addr) (nm:AF),vs=[.int c,.ref ln,.int m]/\SqL K H ln (nm.map V.str)/\nm.length<=12/\m<=60/\∀(v:V) (H':Hp),B0 H H'->Tell H' (yA (yR nm c m)) v->Q v H'
noncomputable def Yq(K:AA):Sp:=fun vs H Q _=>∃(v:V) (ls lo:Addr) (c:List AF) (xs:AK) (z3:AL) (hs:AJ) (r:Int),vs=[v,.ref ls,.ref lo,.int r]/\Tell H (yA c) v/\SqL K H ls xs/\zF H (z3.map fun w=>zY (zk w)) xs/\SqL K H lo (hs.map V.int)/\
 (∀n∈hs,1<=n/\n<=(c.length:Int)/\n<=(z3.length:Int))/\c.length<=60/\0<=r/\r<=10/\∀b:Bool,(b=true↔Zs c hs z3 r)->Q (.bl b) H
noncomputable def XE(K:AA)(Sh:ShP):Sp:=fun vs H Q _=>∃(x ln lk:Addr) (fp:List Addr) (nm:AF) (r:Int) (z3:AL) (zA:AJ) (m:Nat) (z:Str) (kc:List (List AF)) (us:AK),vs=[.ref x,.ref ln,.str z,.int (zu (zi (zG zA) z3 z)),.ref lk]/\Sh H x fp nm r (fun n=>yE z3 n r) zA/\SqL K H ln (nm.map V.str)/\z∈nm/\GoodN nm/\Rws nm z3/\z3.length<=60/\
 (∀n∈zA,1<=n/\n<=z3.length)/\0<=r/\r<=10/\yZ zA m/\SqL K H lk us/\zF H (kc.map yA) us/\kc.Nodup/\(∀c,c∈kc↔yf nm (zc m (zG zA) z3 r) c)/\kc.length<=4096/\∀H',B0 H H'->Q (.bl true) H'
theorem pz{c:List AF}{cs:List (List AF)}:yA c∈cs.map yA↔c∈cs:=by
 rw[cD]
 exact⟨fun⟨c',h,e⟩=>jf _ _ e ▸ h,fun h=>⟨c,h,rfl⟩⟩
theorem uX{cs:List (List AF)}:∀d∈cs.map yA,Rk 2 d:=fun d hd=>by
 obtain⟨c,_,rfl⟩:=cD.mp hd
 exact tR c
noncomputable def XC(K:AA)(Sh:ShP):Sp:=fun vs H Q _=>∃(x ln lr lo:Addr) (fp:List Addr) (nm:AF) (r:Int) (us:AK) (z3:AL) (w:Nat) (zA hs:AJ),vs=[.ref x,.ref ln,.ref lr,.ref lo,.int r]/\Sh H x fp nm r (fun n=>yE (z3.take w) n r) zA/\SqL K H ln (nm.map V.str)/\GoodN nm/\SqL K H lr us/\zF H (z3.map rowD) us/\Rws nm z3/\
 w<=z3.length/\z3.length*nm.length<=10/\(∀n∈zA,1<=n/\n<=(w:Int))/\H lo=some (.lst (hs.map V.int))/\hs=zG zA/\0<=r/\r<=10/\∀H',B0 H H'->Q (.bl true) H'
theorem jg(nm:AF):∀(m c:Nat),yR nm c (m+1)=yR nm c m++[subL nm (c / 2^(m*nm.length))]
 | 0,c=>by
  unfold yR yR
  rw[gM,gK,l6]
  rfl
 | m+1,c=>by
  rw[yR,jg nm m,yR,List.cons_append,fU,<- jK,kQ,Nat.add_comm (m*nm.length)]
theorem RI{nm:AF}{z:Str}:∀{i:Nat},nm[i]? = some z->∀c:Nat,subL (nm.take (i+1)) c=subL (nm.take i) c++(if c / 2^i%2=1 then [z] else []):=by
 induction nm with
 | nil=>intro i h;cases h
 | cons y nm ih=>
  intro i h c
  cases i with
  | zero=>
   cases h
   rw[gK,l6]
   show(if c%2=1 then [z] else [])++[]=[]++_
   rw[dB,List.nil_append]
  | succ i=>
   rw[jL,jL]
   show(if c%2=1 then [y] else [])++subL (nm.take (i+1)) (c / 2)=((if c%2=1 then [y] else [])++subL (nm.take i) (c / 2))++_
   rw[ih (by simpa using h),eB,fU,<- Nat.pow_succ']
theorem Uc(M:Bl mg)(F:Fun K "_law_coded" "_law_coded" pW f fd):B2 P w K mg base CX0 1 f fd pe (Zq K):=by
 have nd:=ir.nd
 refine F.ok ir ?_ ?_
 ·rintro _ _ _ _⟨_,_,_,_,rfl,_⟩
  rfl
 rintro _ _ _ _ H vs Q E hr⟨c,m,ln,nm,rfl,hN,n12,m60,q⟩
 refine⟨_,(zN (zW (i:=3) nd rfl (NC rfl) (yc zD)) (zN (y9 c6 rfl (xi rfl M.range (z9 (pv 2) zD)) (zd (i:=4) nd rfl (NC rfl)) (zN (zW (i:=5) nd rfl (NC rfl) (yc zD)) (zN (y9 c6 rfl (xG (pv 1)) (zd (i:=6) nd rfl (NC rfl)) (zN (ze (zZ yV (zP y6 (pv 0) zL) zL (za _)) (zJ (yB (yq cA cB cE xP (pv 5) (z9 (pv 6) zD)))) zf) (zJ (zW (i:=0) nd rfl (NC rfl) (zP yg (pv 0) zL))))) (zJ (yB (yq cA cB cE xP (pv 3) (z9 (yD ym rfl M.tuple bS (z9 (pv 5) zD)) zD))))))) (zJ (zR (yD ym rfl M.tuple bS (z9 (pv 3) zD)))))),?_⟩
 refine⟨(NB 0),fun lc hlc=>?_⟩
 have s0:=zH hlc (.lst [])
 refine NF rfl (NF rfl ⟨by lia,by lia,?_⟩)
 refine w4 (lo:=0) (n:=((m:Nat):Int).toNat) (fun i σ G=>∃(ys:AK) (o4 o5 o6:Option V),B0 H G/\G lc=some (.lst ys)/\zF G ((yR nm c i).map zY) ys/\σ=[some (.int (c / 2^(i*nm.length):Nat)),some (.ref ln),some (.int m),some (.ref lc),o4,o5,o6]) ⟨[],_,_,_,s0,zM,.nil,by rw[gM,gK,l6];rfl⟩ (fun i σ G hi hp=>?_) (fun σ G hp=>?_)
 ·obtain⟨ys,o4,o5,o6,g,eG,tG,rfl⟩:=hp
  have him:i<m:=by lia
  generalize hc0:c / 2^(i*nm.length)=c0
  refine⟨(NB 0),fun lo hlo=>?_⟩
  have s1:=zH hlo (.lst [])
  refine(NF rfl ⟨ln,rfl,⟨_,(g.trans s1).seq hN⟩,xv (K:=K) (a:=ln) (xs:=nm.map V.str) (fun j σ G2=>∃(o6:Option V),G2=upd G lo (.lst ((subL (nm.take j) c0).map V.str))/\σ=[some (.int (c0 / 2^j:Nat)),some (.ref ln),some (.int m),some (.ref lc),some (.int (0+(i:Int))),some (.ref lo),o6]) ⟨o6,rfl,by rw[gK,l6];rfl⟩ (fun j σ G2 _ ⟨_,b,_⟩=>?_) ?_ ?_⟩)
  ·rw[b]
   exact(g.trans (zH hlo _)).seq hN
  ·rintro j y σ G2 hy ⟨o6,rfl,rfl⟩
   rw[bE] at hy
   obtain⟨z,ez,rfl⟩:=bV.mp hy
   have tk:=RI ez c0
   have ed:((c0 / 2^j:Nat):Int) / 2=((c0 / 2^(j+1):Nat):Int):=by
    rw[gJ,<- fU]
    lia
   have ls:(subL (nm.take j) c0).length<=12:=by
    have h1:=(vo (nm.take j) c0).length_le
    rw[bL] at h1
    lia
   have em:((c0 / 2^j:Nat):Int)%2=((c0 / 2^j%2:Nat):Int):=rfl
   refine NF rfl (NG _ _ ⟨rfl,rfl,(by show(0:Int)<2;decide),rfl,NF rfl ?_⟩)
   refine C0 (fun c2=>?_) (fun c2=>?_)
   ·have c2':c0 / 2^j%2=1:=by have:=V.int.inj (zx c2);lia
    rw[Po c2'] at tk
    refine NF rfl ⟨.inl ⟨rfl,_,SqL.of zM⟩,NF rfl (NH lo _ _ ⟨rfl,rfl,zM,zp (by rw[bA];lia),?_⟩)⟩
    refine NF rfl (NG _ _ ⟨rfl,rfl,⟨by decide,by decide⟩,some (.str z),?_,by rw[<- ed];rfl⟩)
    rw[vq,tk,bM]
    rfl
   ·have c2':¬c0 / 2^j%2=1:=fun e=>wN c2 (by show V.int (((c0 / 2^j:Nat):Int)%2)=V.int 1;rw[em,e];rfl)
    rw[Pn c2',dB] at tk
    refine NF rfl (NG _ _ ⟨rfl,rfl,⟨by decide,by decide⟩,some (.str z),by rw[tk],by rw[<- ed];rfl⟩)
  ·rintro σ G2 ⟨o6,rfl,rfl⟩
   rw[bA,bY]
   have s1:=zH hlo (.lst ((subL nm c0).map V.str))
   have e1:upd G lo (.lst ((subL nm c0).map V.str)) lo=some (.lst ((subL nm c0).map V.str)):=zM
   generalize upd G lo (.lst ((subL nm c0).map V.str))=G3 at s1 e1
   have ls:(subL nm c0).length<=12:=c7 (vo nm c0).length_le n12
   have ly:=tG.length
   rw[bA,vH] at ly
   refine(NF rfl ⟨.inl ⟨rfl,_,SqL.of (s1 _ _ eG)⟩,(NF rfl ⟨lo,(NF rfl (.inl ⟨SqL.of e1,fun t ht=>(NH lc ys _ ⟨rfl,rfl,zH ht _ _ _ (s1 _ _ eG),zp (by lia),?_⟩)⟩))⟩)⟩)
   have s2:=s1.trans (zH ht (.tup ((subL nm c0).map V.str)))
   refine⟨ys++[.ref t],some (.int (0+(i:Int))),some (.ref lo),o6,wQ (g.trans s2) hlc,zM,?_,?_⟩
   ·rw[jg,hc0,bM]
    exact zF.over (s2 _ _ eG) vT _ _ (zF.snoc (zF.keep s2 _ _ tG) (zw zM (by rw[bA];lia) (vc _)))
   ·rw[<- hc0,fU,<- jK,kQ]
 ·obtain⟨ys,o4,o5,o6,g,eG,tG,rfl⟩:=hp
  refine NF rfl (NG lc ys ⟨rfl,.inl ⟨SqL.of eG,fun t ht=>?_⟩⟩)
  rw[fG] at tG
  have ly:=tG.length
  rw[bA,vH] at ly
  exact q _ _ (g.trans (zH ht _)) (zw zM (by rw[bA,vH];lia) (zF.keep (zH ht _) _ _ tG))
theorem QC(M:Bl mg)(F:Fun K "_law_agrees" "_law_agrees" oB f fd):B2 P w K mg base CX0 1 f fd oF (Yq K):=by
 have nd:=gy.nd
 refine F.ok gy ?_ ?_
 ·rintro _ _ _ _⟨_,_,_,_,_,_,_,_,rfl,_⟩
  rfl
 rintro _ _ _ _ H vs Q E hr⟨v,ls,lo,c,xs,z3,hs,r,rfl,tc,hS,tS,hO,hb,c60,r0,r10,q⟩
 refine⟨_,(zN (y9 c6 rfl (xG (pv 2)) (zd (i:=4) nd rfl (NC rfl)) (zJ (y9 c6 rfl (RA rfl M.range (z9 (pv 4) (z9 (zb (qX rfl) rfl M.max fM (z9 zL (z9 (zP yu (zP yu (pv 4) (pv 3)) zL) zD))) (z9 (aJ ZG zL) zD)))) (zd (i:=5) nd rfl (NC rfl)) (zJ (ze (zZ (ZN hr.O8) (zh y8 (pv 0) (zP yu (pv 5) zL) (fun _ _=>rfl)) (zh yl (pv 1) (zP yu (pv 5) zL) (fun _ _=>rfl)) (za _)) (zJ (zR yI)) zf))))) (zJ (zR yI))),?_⟩
 obtain⟨a,us,rfl,ea,_,tu⟩:=zr (show Tell H (.tup (c.map zY)) v from tc)
 refine(NF rfl ⟨lo,rfl,⟨_,hO⟩,xv (K:=K) (a:=lo) (xs:=hs.map V.int) (fun i σ G=>∃(o4 o5:Option V),G=H/\(∀n∈hs.take i,∀o:Int,1<=o->n-r<=o->o<=n->c[(o-1).toNat]? = some (zk (zg z3 o)))/\σ=[some (.ref a),some (.ref ls),some (.ref lo),some (.int r),o4,o5]) (NG _ _ ⟨rfl,(fun n hn=>by rw[cW] at hn;cases hn),rfl⟩) (fun i σ G _ ⟨_,_,g,_⟩=>by rw[g];exact hO) ?_ ?_⟩)
 ·rintro i y σ G hy ⟨o4,o5,rfl,done1,rfl⟩
  rw[bE] at hy
  obtain⟨n,en,rfl⟩:=bV.mp hy
  obtain⟨n1,n2,n3⟩:=hb n (bH en)
  have mx0:0<=(if n-r-1 > 0 then n-r-1 else 0)/\(if n-r-1 > 0 then n-r-1 else 0)<n/\(∀o:Int,(if n-r-1 > 0 then n-r-1 else 0)<o↔1<=o/\n-r<=o):=by
   split
   ·exact⟨by lia,by lia,fun o=>by lia⟩
   ·exact⟨by lia,by lia,fun o=>by lia⟩
  generalize hmx:(if n-r-1 > 0 then n-r-1 else 0)=mx at mx0
  obtain⟨mx1,mx2,mx3⟩:=mx0
  have emx:(if n-r-1 > (0:Int) then V.int (n-r-1) else V.int 0)=V.int mx:=by rw[<- hmx];split<;>rfl
  refine NF rfl (NF rfl (NF rfl (NG _ _ ⟨rfl,rfl,NG _ _ ⟨rfl,rfl,NG _ _ ⟨rfl,(NF rfl ⟨n,mx,by rw[hmx],⟨by lia,by lia,by lia,by lia⟩,?_⟩)⟩⟩⟩)))
  refine UR (hi:=n) (n:=(n-mx).toNat) (fun j σ G1=>∃(o5:Option V),G1=G/\(∀o:Int,n-(j:Int)<o->o<=n->c[(o-1).toNat]? = some (zk (zg z3 o)))/\σ=[some (.ref a),some (.ref ls),some (.ref lo),some (.int r),some (.int n),o5]) ⟨_,rfl,(fun o h1 h2=>by lia),rfl⟩ (fun j σ G hj hp=>?_) (fun σ G hp=>?_)
  ·obtain⟨o5,rfl,dn2,rfl⟩:=hp
   have hj':(j:Int)<n-mx:=by lia
   obtain⟨o1,o2⟩:=(mx3 (n-(j:Int))).mp (by lia)
   have ek:n-(j:Int)-1=((n-(j:Int)-1).toNat:Int):=by lia
   have kc:(n-(j:Int)-1).toNat<c.length:=by lia
   have kr:(n-(j:Int)-1).toNat<z3.length:=by lia
   have era:zg z3 (n-(j:Int))=z3[(n-(j:Int)-1).toNat]:=by
    unfold zg
    rw[bR,bC kr]
    rfl
   obtain⟨u1,eu1,tu1⟩:=tu.get (n-(j:Int)-1).toNat (zY c[(n-(j:Int)-1).toNat]) (by rw[bE,bC kc];rfl)
   obtain⟨x1,ex1,tx1⟩:=tS.get (n-(j:Int)-1).toNat (zY (zk z3[(n-(j:Int)-1).toNat])) (by rw[bE,bC kr];rfl)
   rw[<- era] at tx1
   have eck:c[(n-(j:Int)-1).toNat]? = some c[(n-(j:Int)-1).toNat]:=bC kc
   generalize c[(n-(j:Int)-1).toNat]=zs at eck tu1
   have au:atI us (n-(j:Int)-1)=some u1:=by rw[ek];exact yT eu1
   have ax:atI xs (n-(j:Int)-1)=some x1:=by rw[ek];exact yT ex1
   obtain⟨b1,w1,rfl,eb1,_,tb1⟩:=zr (show Tell G (.tup (zs.map DV.str)) u1 from tu1)
   have e1:=w8 tb1
   subst e1
   obtain⟨b2,w2,rfl,eb2,_,tb2⟩:=zr (show Tell G (.tup ((zk (zg z3 (n-(j:Int)))).map DV.str)) x1 from tx1)
   have e2:=w8 tb2
   subst e2
   refine NF rfl (NF rfl (NG _ _ ⟨rfl,rfl,NI a _ _ _ ⟨rfl,rfl,SqT.of ea,au,NF rfl (NF rfl (NG _ _ ⟨rfl,rfl,NI ls _ _ _ ⟨rfl,rfl,hS,ax,NI b1 b2 _ _ ⟨rfl,rfl,SqT.of eb1,SqT.of eb2,xJ zs,xJ _,NF rfl ?_⟩⟩⟩))⟩⟩))
   by_cases e:zs=zk (zg z3 (n-(j:Int)))
   ·rw[e,sN (xJ _)]
    refine C1 (NF rfl ⟨fun o h1 h2=>?_,rfl⟩)
    by_cases q:o=n-(j:Int)
    ·rw[q,eck,e]
    ·exact dn2 o (by lia) h2
   ·rw[sE,Pt e]
    refine F3 (q false ⟨(fun h=>by cases h),fun h=>ND ?_ e⟩)
    have:=h n (bH en) (n-(j:Int)) (by lia) (by lia) (by lia)
    rw[eck] at this
    exact Option.some.inj this
  ·obtain⟨o5,rfl,dn2,rfl⟩:=hp
   refine(NG _ _ ⟨rfl,fun n' hn' o h1 h2 h3=>?_,rfl⟩)
   rw[zq en] at hn'
   rcases bZ.mp hn' with h|h
   ·exact done1 n' h o h1 h2 h3
   ·rw[bD.mp h] at h2 h3
    exact dn2 o (by have:=(mx3 o).mpr ⟨h1,h2⟩;lia) h3
 ·rintro σ G ⟨o4,o5,rfl,dn,rfl⟩
  rw[cN (by rw[bA];exact bG _)] at dn
  exact q true ⟨fun _=>dn,fun _=>rfl⟩
theorem To(M:Bl mg)(F:Fun K "_law_name_stands" "_law_name_stands" nO f fd){A0:Addr}{Sh:ShP}(OS:ShOk A0 ["put","had","latest"] Sh)(F9:Cal P w K mg base 1 "_law_in_course" n8 (aK K))(D3:Cal P w K mg base 1 "_law_course" sU (kg K))
  (F8:Cal P w K mg base 5 "_law_same" vJ (vj 5)) (E1:Cal P w K mg base 8 "state_of" uT (tq Sh)) (K7:Cal P w K mg base 8 "again_count" oS (YU Sh)) (K4:Cal P w K mg base 8 "two_courses" oQ (aN Sh)) :
  B2 P w K mg base CX0 9 f fd nS (XE K Sh):=by
 have nd:=bf.nd
 refine F.ok bf ?_ ?_
 ·rintro _ _ _ _⟨_,_,_,_,_,_,_,_,_,_,_,_,rfl,_⟩
  rfl
 rintro _ _ _ _ H vs Q E hr⟨x,ln,lk,fp,nm,r,z3,zA,m,z,kc,us,rfl,sh,hN,hz,gn,R,l60,hh,r0,r10,it,hK,tK,ndk,mk,k4096,q⟩
 refine⟨_,(zN (vX (i:=5) ["_law_course_here"] ["_law_number","_law_name"] [3,2] rfl nd rfl (NC rfl) (yY rfl (by decide +kernel) rfl (by decide +kernel) rfl rfl) (xG (pv 4)) (fun _ _ _ _ _=>(zd (i:=0) (show((["_law_course_here"]:List PySem.Str)++(["_law_number","_law_name"]:List PySem.Str)).Nodup from by decide +kernel) rfl (NC rfl))) (yG (by decide)) zl (fun _ _ _ _ _=>(wk (xB (zX F9 (rm hr) rfl (z9 (pv 0) (z9 (pv 1) (z9 (pv 2) zD))))))) (fun _ _ _ _ _=>(pv 0))) (zN (zW (i:=6) nd rfl (NC rfl) xT) (lY (ze (zZ yV (zb zo rfl M.len bO (z9 (pv 5) zD)) zL (za _)) (zJ (zW (i:=6) nd rfl (NC rfl) xT)) (zJ (ze (zZ yV (zb zo rfl M.len bO (z9 (pv 5) zD)) (zb zo rfl M.len bO (z9 (pv 4) zD)) (za _)) (zJ (zW (i:=6) nd rfl (NC rfl) xT)) zf))) (zN (ze (xc (xB (zX F8 (rm hr) rfl (z9 (yH (z9 (zX E1 (rm hr) rfl (z9 (pv 0) (z9 (pv 2) zD))) (z9 (zX K7 (rm hr) rfl (z9 (pv 0) (z9 (pv 2) zD))) zD))) (z9 (yH (z9 (pv 6) (z9 (zb zo rfl M.len bO (z9 (pv 5) zD)) zD))) zD))))) (zJ (zR yI)) zf) (zN (zW (i:=7) nd rfl (NC rfl) (zX K4 (rm hr) rfl (z9 (pv 0) (z9 (pv 2) zD)))) (zN (ze (zZ xn (pv 6) xT (za _)) (zJ (zR (mR (vP (pv 7))))) zf) (zN (ze (PW.pt (xX (xc (xB (zb xw rfl M.isinstance cK (z9 (pv 7) (z9 (xp (v:=.ty "tuple") rfl M.tuple bS rfl) zD))))) (xb (zZ xn (zb zo rfl M.len bO (z9 (pv 7) zD)) zL (za _))))) (zJ (zR yI)) zf) (zN (ze (xc (xB (zX D3 (rm hr) rfl (z9 (zh y8 (pv 7) zL (fun _ _=>rfl)) (z9 (pv 1) (z9 (zP mV (yc (z9 vR zD)) (zb zo rfl M.len bO (z9 (zh yl (pv 4) zL (fun _ _=>rfl)) zD))) zD)))))) (zJ (zR yI)) zf) (zN (ze (xc (xB (zX D3 (rm hr) rfl (z9 (zh y8 (pv 7) zL (fun _ _=>rfl)) (z9 (pv 1) (z9 (zP mV (yc (z9 vR zD)) (zb zo rfl M.len bO (z9 (zh yl (pv 4) zL (fun _ _=>rfl)) zD))) zD)))))) (zJ (zR yI)) zf) (zJ (zR (aa (vW (aw (d8 (dZ (by decide:20<=64) _) hr.units)) (zh y8 (pv 7) zL (fun _ _=>rfl)) (pv 4) (by with_unfolding_all rfl)) (aa (vW (aw (d8 (dZ (by decide:20<=64) _) hr.units)) (zh y8 (pv 7) zL (fun _ _=>rfl)) (pv 5) (by with_unfolding_all rfl)) (Wf (vW (RX (d8 (dZ (by decide:20<=64) _) hr.units)) (zh y8 (pv 7) zL (fun _ _=>rfl)) (pv 5) (by with_unfolding_all rfl)))))))))))))))),?_⟩
 have h60:∀n∈zA,1<=n/\n<=60:=fun n hn=>by have:=hh n hn;lia
 have N1:∀n∈zG zA,1<=n/\n<=60:=fun n hn=>h60 n (yh.mp hn).2
 have itr:yZ (zG zA) m:=it.same fun n=>by
  rw[yh]
  exact⟨fun h=>h.2,fun h=>⟨by have:=h60 n h;lia,h⟩⟩
 have U7:m<=60:=by have:=it.le (k:=60) (by decide) fun x hx=>(h60 x hx).2;lia
 have tot:(kc.length:Int)=2^((zj (zG zA) r).length*nm.length):=by
  rw[pQ ndk (oM gn.nd _) fun c=>(mk c).trans (ve fun s hs=>uZ R hs).symm,vK,u7 N1 itr,jR]
  rfl
 have agc:((kc.countP fun c=>!noAt z (zu (zi (zG zA) z3 z)) 0 c:Nat):Int)=agC nm.length (zG zA) z3 r z:=by
  rw[<- ag_is gn.nd gn.lo R hz (wW zA) N1 itr,Pg ndk (oM gn.nd _) fun c=>(mk c).trans (ve fun s hs=>uZ R hs).symm]
 have lus:us.length=kc.length:=by rw[tK.length,bA]
 have cl:∀c∈kc,c.length=m:=fun c hc=>by rw[((mk c).mp hc).1,x9]
 generalize hnum:zu (zi (zG zA) z3 z)=num at *
 refine NF rfl ⟨lk,rfl,⟨_,hK⟩,?_⟩
 refine vY (xs:=us) (fun i ys G=>G=H/\zF G (((kc.take i).filter fun c=>!noAt z num 0 c).map yA) ys) ⟨rfl,.nil⟩ (fun i ys G hi hp=>?_) (fun i y ys G hy hp=>?_) (fun ys G hp=>?_)
 ·obtain⟨rfl,t⟩:=hp
  refine⟨hK,vh ?_⟩
  rw[t.length,bA]
  have h1:=cL (fun c=>!noAt z num 0 c) (kc.take i)
  rw[bL] at h1
  lia
 ·obtain⟨rfl,t⟩:=hp
  obtain⟨d,ed,td⟩:=tK.at i y hy
  rw[bE] at ed
  obtain⟨c,ec,rfl⟩:=bV.mp ed
  rw[zq ec,dS,fB,fQ,bM]
  refine NF rfl (NF rfl (NF rfl (NI y c num z ⟨rfl,td,by rw[cl c (bH ec)];lia,fun hc=>?_,fun hc=>?_⟩)))
  ·rw[rX.mp hc]
   exact⟨true,rfl,F3 (NF rfl ⟨rfl,zF.snoc t td⟩)⟩
  ·rw[j4.mpr fun h=>hc (rX.mpr h)]
   exact⟨false,rfl,C1 ⟨rfl,by show zF _ (_++[]) _;rw[dB];exact t⟩⟩
 obtain⟨rfl,t⟩:=hp
 rw[lus,bY] at t
 intro la hla
 have s1:=zH hla (.lst ys)
 have ea:upd G la (.lst ys) la=some (.lst ys):=zM
 have tA:=zF.keep s1 _ _ t
 have lya:ys.length=kc.countP fun c=>!noAt z num 0 c:=by rw[t.length,bA,jE]
 generalize upd G la (.lst ys)=H1 at s1 ea tA
 have hK1:=s1.seq hK
 have sh1:=OS.same sh s1
 have kpos:0<(kc.length:Int):=by rw[tot];exact Int.pow_pos (by decide)
 have cs:=UN gn.lo (zG zA) z3 r z
 rw[hnum,<- agc,<- tot,<- lya] at cs
 refine⟨fun σ G=>G=H1/\σ=[some (.ref x),some (.ref ln),some (.str z),some (.int num),some (.ref lk),some (.ref la),some (.str (yF (zG zA) z3 r num z)),none],?_,?_⟩
 ·refine NF rfl (NG la _ ⟨rfl,.inl (SqL.of ea),rfl,NF rfl (C0 (fun c=>?_) (fun c=>?_))⟩)
  ·have c':=V.int.inj (zx c)
   rcases cs with ⟨_,q2⟩|⟨q1,_⟩|⟨_,q2,_⟩
   ·lia
   ·exact⟨rfl,by rw[q1];rfl⟩
   ·lia
  ·have c':(ys.length:Int)≠0:=fun e=>wN c (Pu V.int e)
   refine NF rfl (NG la _ ⟨rfl,.inl (SqL.of ea),NF rfl (NG lk _ ⟨rfl,.inl hK1,rfl,NF rfl (C0 (fun d=>?_) (fun d=>?_))⟩)⟩)
   ·have d':=V.int.inj (zx d)
    rcases cs with ⟨q1,_⟩|⟨_,q2⟩|⟨_,_,q3⟩
    ·exact⟨rfl,by rw[q1];rfl⟩
    ·exact ND q2 c'
    ·lia
   ·have d':(ys.length:Int)≠(us.length:Int):=fun e=>wN d (Pu V.int e)
    rcases cs with ⟨_,q2⟩|⟨_,q2⟩|⟨q1,_,_⟩
    ·lia
    ·exact ND q2 c'
    ·exact⟨rfl,by rw[q1];rfl⟩
 rintro σ G ⟨rfl,rfl⟩
 refine NF rfl (NF rfl (NL x z fp nm r z3 zA ⟨rfl,sh1,hz,gn,R,l60,hh,r0,r10,fun H2 s2=>?_⟩))
 rw[hnum]
 have sh2:=OS.same sh1 s2
 refine NF rfl (NF rfl (NL x z fp nm r z3 zA ⟨rfl,sh2,hz,gn,R,l60,hh,r0,r10,fun H3 s3=>⟨(NB 2),fun t1 ht1=>?_⟩⟩))
 have sT1:=zH ht1 (.tup [V.str (yF (zG zA) z3 r num z),V.int (agC nm.length (zG zA) z3 r z)])
 have eT1:upd H3 t1 (.tup [V.str (yF (zG zA) z3 r num z),V.int (agC nm.length (zG zA) z3 r z)]) t1=some (.tup [V.str (yF (zG zA) z3 r num z),V.int (agC nm.length (zG zA) z3 r z)]):=zM
 have b3:=s2.trans (s3.trans sT1)
 have sh4:=OS.same sh1 b3
 have ea4:=b3 _ _ ea
 have tA4:=zF.keep b3 _ _ tA
 generalize upd H3 t1 (.tup [V.str (yF (zG zA) z3 r num z),V.int (agC nm.length (zG zA) z3 r z)])=H4 at sT1 eT1 b3 sh4 ea4 tA4
 refine NF rfl (NF rfl (NG la _ ⟨rfl,.inl (SqL.of ea4),(NB 2),fun t2 ht2=>?_⟩))
 have tl1:Tell (upd H4 t2 (.tup [V.str (yF (zG zA) z3 r num z),V.int (ys.length:Int)])) (.tup [.str (yF (zG zA) z3 r num z),.int (agC nm.length (zG zA) z3 r z)]) (.ref t1):=zw (zH ht2 _ _ _ eT1) (by show 2<=1000000;decide) (.cons (vG _) (.cons (yy _) .nil))
 have tl2:Tell (upd H4 t2 (.tup [V.str (yF (zG zA) z3 r num z),V.int (ys.length:Int)])) (.tup [.str (yF (zG zA) z3 r num z),.int (agC nm.length (zG zA) z3 r z)]) (.ref t2):=zw zM (by show 2<=1000000;decide) (.cons (vG _) (.cons (by rw[<- agc,<- lya];exact yy _) .nil))
 refine(NG (.ref t1) (.ref t2) ⟨rfl,(jk _ _ _ tl1 tl2).mono (c7 (Uq (n:=0) fun d hd=>?_) (by decide)),fun H5 s5=>(NF rfl (C1 ?_))⟩)
 ·rcases bI.mp hd with rfl|hd
  ·exact Tr _ _
  ·rw[bD.mp hd]
   exact US _ _
 clear tl1 tl2
 have b5:=(zH ht2 (.tup [V.str (yF (zG zA) z3 r num z),V.int (ys.length:Int)])).trans s5
 have sh5:=OS.same sh4 b5
 have ea5:=b5 _ _ ea4
 have tA5:=zF.keep b5 _ _ tA4
 have c5:=s1.trans (b3.trans b5)
 have hN5:=c5.seq hN
 have hK5:=c5.seq hK
 have tK5:=zF.keep c5 _ _ tK
 refine NF rfl (NF rfl (NM x z fp nm r z3 zA m ⟨rfl,sh5,hz,gn,R,l60,hh,r0,r10,it,?_,?_⟩))
 ·rw[hnum]
  intro ne H6 s6
  refine NF rfl ⟨rfl,NF rfl ?_⟩
  rw[Pt (fun e=>ne (V.str.inj e))]
  exact F3 (NF rfl (q _ (c5.trans s6)))
 ·rw[hnum]
  intro eo d hd top v H6 s6 tv
  refine NF rfl ⟨rfl,NF rfl ?_⟩
  rw[Pq (Pu V.str eo)]
  refine C1 ?_
  obtain⟨pa,pxs,rfl,epa,_,tps⟩:=zr tv
  obtain⟨y1,q1,rfl,ty1,tps⟩:=yM tps
  obtain⟨y2,q2,rfl,ty2,tps⟩:=yM tps
  have:=xx tps
  subst this
  have hK6:=s6.seq hK5
  have hN6:=s6.seq hN5
  have tK6:=zF.keep s6 _ _ tK5
  have ea6:=s6 _ _ ea5
  have tA6:=zF.keep s6 _ _ tA5
  refine NF rfl (NI _ _ _ _ ⟨rfl,.tup epa,vp,NF rfl (C1 (NF rfl (NG pa _ ⟨rfl,.inr (SqT.of epa),rfl,NF rfl (C1 ?_)⟩)))⟩)
  have dr:=YG h60 it hd
  have f1:=Xm R m (zG zA) r
  have f2:=Rg R hz (m:=m) (by lia) (by lia) hd
  have no1:=UM (z:=z) (z3:=z3) (r:=r) (wW zA) N1 itr (by rw[hnum,eo];decide)
  rw[hnum] at no1
  have in2:num<(d:Int):=by
   obtain⟨n,hn,lt⟩:=XJ eo
   have:=top n hn
   lia
  have in2':=UU (c:=yr (zc m (zG zA) z3 r)) (d:=d) (z:=z) (num:=num) (by lia) (by rw[km];lia) in2
  generalize wL (yr (zc m (zG zA) z3 r)) d z=c2 at ty2 f2 in2'
  generalize yr (zc m (zG zA) z3 r)=c1 at ty1 f1 no1
  have f01:=tW f1
  have f02:=tW f2
  rw[x9] at f01 f02
  obtain⟨c0,hc0⟩:∃c0,kc[0]? = some c0:=⟨kc[0]'(by lia),bC _⟩
  have lc0:=cl c0 (bH hc0)
  obtain⟨u0,eu0,tu0⟩:=tK6.get 0 (yA c0) (by rw[bE,hc0];rfl)
  obtain⟨b0,w0,rfl,eb0,_,tw0⟩:=zr (show Tell H6 (.tup (c0.map zY)) u0 from tu0)
  have lw0:w0.length=m:=by rw[tw0.length,bA,lc0]
  refine NF rfl (NI pa _ 0 _ ⟨rfl,rfl,SqT.of epa,rfl,(NF rfl ⟨(NB 1),fun l1 hl1=>?_⟩)⟩)
  have s7:=zH hl1 (.lst [V.non])
  refine(NF rfl (NI lk _ _ _ ⟨rfl,rfl,s7.seq hK6,yT (j:=0) eu0,(NG b0 _ ⟨rfl,.inr (SqT.of (s7 _ _ eb0)),(NH l1 _ _ ⟨rfl,rfl,zM,by lia,by lia,(by show 1*w0.length<=sizeLine;exact dJ (zp (by lia))),fun l2 hl2=>?_⟩)⟩)⟩))
  rw[<- lw0] at f01 f02
  have s8:=s7.trans (zH hl2 (.lst (List.replicate w0.length [V.non]).flatten))
  refine(NL y1 ln l2 c1 nm (List.replicate w0.length none) _ ⟨rfl,Tell.keep s8 _ _ ty1,fun zs hzs=>by have:=((u3.mp f01).2 zs hzs).length_le;have:=gn.hi;lia,s8.seq hN6,gn.nd,gn.hi,SqL.of zM,sR _ _,by rw[d7];lia,fun _ H9 s9=>(NF rfl (C1 ?_)),fun nf=>ND f01 nf⟩)
  have c9:=s8.trans s9
  refine NF rfl (NI pa _ 1 _ ⟨rfl,rfl,SqT.of (c9 _ _ epa),rfl,(NF rfl ⟨(NB 1),fun l3 hl3=>?_⟩)⟩)
  have sA:=c9.trans (zH hl3 (.lst [V.non]))
  refine(NF rfl (NI lk _ _ _ ⟨rfl,rfl,sA.seq hK6,yT (j:=0) eu0,(NG b0 _ ⟨rfl,.inr (SqT.of (sA _ _ eb0)),(NH l3 _ _ ⟨rfl,rfl,zM,by lia,by lia,(by show 1*w0.length<=sizeLine;exact dJ (zp (by lia))),fun l4 hl4=>?_⟩)⟩)⟩))
  have sB:=sA.trans (zH hl4 (.lst (List.replicate w0.length [V.non]).flatten))
  refine(NL y2 ln l4 c2 nm (List.replicate w0.length none) _ ⟨rfl,Tell.keep sB _ _ ty2,fun zs hzs=>by have:=((u3.mp f02).2 zs hzs).length_le;have:=gn.hi;lia,sB.seq hN6,gn.nd,gn.hi,SqL.of zM,sR _ _,by rw[d7];lia,fun _ HC sC=>(NF rfl (C1 ?_)),fun nf=>ND f02 nf⟩)
  have cC:=sB.trans sC
  refine NF rfl (NI pa _ 0 _ ⟨rfl,rfl,SqT.of (cC _ _ epa),rfl,NF rfl (NJ lk us _ (yA c1) 2 ⟨rfl,Tell.keep cC _ _ ty1,tR c1,by decide,cC.seq hK6,zF.keep cC _ _ tK6,uX,?_⟩)⟩)
  rw[Pq (pz.mpr ((mk c1).mpr f1))]
  refine NF rfl (F3 ?_)
  refine NF rfl (NI pa _ 1 _ ⟨rfl,rfl,SqT.of (cC _ _ epa),rfl,NF rfl (NJ la ys _ (yA c2) 2 ⟨rfl,Tell.keep cC _ _ ty2,tR c2,by decide,SqL.of (cC _ _ ea6),zF.keep cC _ _ tA6,uX,?_⟩)⟩)
  rw[Pq (pz.mpr (cG.mpr ⟨(mk c2).mpr f2,rX.mp in2'⟩))]
  refine NF rfl (F3 ?_)
  refine NF rfl (NI pa _ 0 _ ⟨rfl,rfl,SqT.of (cC _ _ epa),rfl,NF rfl (NJ la ys _ (yA c1) 2 ⟨rfl,Tell.keep cC _ _ ty1,tR c1,by decide,SqL.of (cC _ _ ea6),zF.keep cC _ _ tA6,uX,?_⟩)⟩)
  rw[Pt fun h=>no1 (rX.mpr (cG.mp (pz.mp h)).2)]
  exact q _ (c5.trans (s6.trans cC))
theorem QV{m w:Nat}(h:m<=w)(hs:AJ)(z3:AL)(r:Int):zc m hs (z3.take w) r=zc m hs z3 r:=by
 unfold zc
 refine jM fun n hn=>?_
 have:=yx.mp hn
 unfold yX
 rw[sO (by lia) (by lia)]
noncomputable def fitB(nm:AF)(ks:List (Option AF))(c:List AF):Bool:=@decide (yf nm ks c) (Classical.propDecidable _)
theorem tL{nm:AF}{ks:List (Option AF)}{c:List AF}:fitB nm ks c=true↔yf nm ks c:=@decide_eq_true_iff _ (Classical.propDecidable _)
noncomputable def wB(nm:AF)(m:Nat)(ks:List (Option AF))(i:Nat):List (List AF):=((List.range i).map fun c=>yR nm c m).filter (fitB nm ks)
theorem Rt(nm:AF)(m:Nat)(ks:List (Option AF))(i:Nat):wB nm m ks (i+1)=wB nm m ks i++(if fitB nm ks (yR nm i m)=true then [yR nm i m] else []):=by
 unfold wB
 rw[List.range_succ,bM,dS]
 show _++[yR nm i m].filter (fitB nm ks)=_
 rw[fB,fQ]
theorem Sa(nm:AF)(m:Nat)(ks:List (Option AF))(i:Nat):(wB nm m ks i).length<=i:=by
 unfold wB
 refine c7 (cL _ _) ?_
 rw[bA,fI]
 exact bG _
theorem Ro{nm:AF}(nd:nm.Nodup)(m:Nat)(ks:List (Option AF)):(wB nm m ks (2^(m*nm.length))).Nodup:=(iH nd m).filter _
theorem Ti{nm:AF}(nd:nm.Nodup){m:Nat}{ks:List (Option AF)}(hk:ks.length=m)(c:List AF):c∈wB nm m ks (2^(m*nm.length))↔yf nm ks c:=by
 unfold wB
 rw[cG,tL]
 refine⟨fun h=>h.2,fun h=>⟨?_,h⟩⟩
 have:=(Sz nd (m:=m) (c:=c)).mpr (by rw[<- hk];exact tW h)
 exact this
theorem QI(M:Bl mg)(F:Fun K "_law_stands" "_law_stands" oI f fd){A0:Addr}{Sh:ShP}(OS:ShOk A0 ["put","had","latest"] Sh)(D7:Cal P w K mg base 1 "_law_doubled" se vz)(L6:Cal P w K mg base 1 "_law_coded" pe (Zq K))(L0:Cal P w K mg base 1 "_law_agrees" oF (Yq K))
  (D3:Cal P w K mg base 1 "_law_course" sU (kg K)) (F8:Cal P w K mg base 5 "_law_same" vJ (vj 5)) (N3:Cal P w K mg base 1 "_law_held" qg (ZU K)) (F4:Cal P w K mg base 9 "_law_name_stands" nS (XE K Sh))
  (U4:Cal P w K mg base 8 "fits" mE (ZH Sh)) (J8:Cal P w K mg base 8 "every_course" oi (Yu Sh)) (C4:Cal P w K mg base 8 "course_count" uc (rf Sh)):B2 P w K mg base CX0 10 f fd oV (XC K Sh):=by
 have nd:=gw.nd
 refine F.ok gw ?_ ?_
 ·rintro _ _ _ _⟨_,_,_,_,_,_,_,_,_,_,_,_,rfl,_⟩
  rfl
 rintro _ _ _ _ H vs Q E hr⟨x,ln,lr,lo,fp,nm,r,us,z3,w',zA,hs,rfl,sh,hN,gn,hR,tl,R,wl,l10,hh,eo,ehs,r0,r10,q⟩
 refine⟨_,(zN (vX (i:=5) ["_law_one"] [] [] rfl nd rfl (NC rfl) (yY rfl (by decide +kernel) rfl (by decide +kernel) rfl rfl) (xG (pv 2)) (fun _ _ _ _ _=>(zd (i:=0) (show((["_law_one"]:List PySem.Str)++([]:List PySem.Str)).Nodup from by decide +kernel) rfl (NC rfl))) (yG (by decide)) zl (fun _ _ _ _ _=>xU) (fun _ _ _ _ _=>(yD (dc (K:=K) rfl) rfl M.tuple bS (z9 (xH ["_law_row_here"] [] [] rfl (yY rfl (by decide +kernel) rfl (by decide +kernel) rfl rfl) (UC (K:=K) rfl (pv 0)) (fun _ _ _ _ _=>(zd (i:=0) (show((["_law_row_here"]:List PySem.Str)++([]:List PySem.Str)).Nodup from by decide +kernel) rfl (NC rfl))) (yG (by decide)) zl (fun _ _ _ _ _=>xU) (fun _ _ _ _ _=>(zh (r:=V8 K) y8 (pv 0) zL (fun _ _=>rfl)))) zD)))) (zN (zW (i:=6) nd rfl (NC rfl) (zb (XZ rfl) rfl M.max fM (z9 (zP ao (pv 3) (yc (z9 zL zD))) zD))) (zN (zW (i:=7) nd rfl (NC rfl) (zX D7 (rm hr) rfl (z9 (zP xo (pv 6) (zb zo rfl M.len bO (z9 (pv 1) zD))) zD))) (zN (zW (i:=8) nd rfl (NC rfl) (yc zD)) (zN (y9 c6 rfl (xi rfl M.range (z9 (pv 7) zD)) (zd (i:=9) nd rfl (NC rfl)) (zN (zW (i:=10) nd rfl (NC rfl) (zX L6 (rm hr) rfl (z9 (pv 9) (z9 (pv 1) (z9 (pv 6) zD))))) (zN (zW (i:=11) nd rfl (NC rfl) (zX L0 (rm hr) rfl (z9 (pv 10) (z9 (pv 5) (z9 (pv 3) (z9 (pv 4) zD)))))) (lY (ze (xB (pv 11)) (zJ (yB (yq cA cB cE xP (pv 8) (z9 (pv 10) zD)))) zf) (zJ (ze (PW.pt (wc (zZ wA (zP y6 (zP xo (pv 9) zL) (pv 7)) zL (za _)) (vF (xc (xB (zX F8 (rm hr) rfl (z9 (zX U4 (rm hr) rfl (z9 (pv 0) (z9 (pv 10) zD))) (z9 (pv 11) zD)))))))) (zJ (zR yI)) zf)))))) (zN (zW (i:=12) nd rfl (NC rfl) (zX J8 (rm hr) rfl (z9 (pv 0) zD))) (zN (ze (PW.pt (xX (xc (xB (zb xw rfl M.isinstance cK (z9 (pv 12) (z9 (xp (v:=.ty "tuple") rfl M.tuple bS rfl) zD))))) (xb (xc (xB (zX F8 (rm hr) rfl (z9 (zX C4 (rm hr) rfl (z9 (pv 0) zD)) (z9 (zb zo rfl M.len bO (z9 (pv 8) zD)) zD)))))))) (zJ (zR yI)) zf) (zN (y9 c6 rfl (yt (pv 12)) (zd (i:=10) nd rfl (NC rfl)) (zJ (ze (xc (xB (zX D3 (rm hr) rfl (z9 (pv 10) (z9 (pv 1) (z9 (zP mV (yc (z9 vR zD)) (pv 6)) zD)))))) (zJ (zR yI)) zf))) (zN (ze (PW.pt (xX (zZ xn (zb zo rfl M.len bO (z9 (pv 12) zD)) (zb zo rfl M.len bO (z9 (pv 8) zD)) (za _)) (xb (zZ (Wo (d8 (dZ (by decide:20<=64) _) hr.units)) (yD (iJ rfl (d8 (dZ (by decide:20<=64) _) hr.units)) rfl M.set jC (z9 (pv 12) zD)) (yD (iJ rfl (d8 (dZ (by decide:20<=64) _) hr.units)) rfl M.set jC (z9 (pv 8) zD)) (za _))))) (zJ (zR yI)) zf) (zN (y9 c6 rfl (xG (pv 1)) (zd (i:=13) nd rfl (NC rfl)) (zJ (ze (xc (xB (zX F4 (rm hr) rfl (z9 (pv 0) (z9 (pv 1) (z9 (pv 13) (z9 (zh y8 (zX N3 (rm hr) rfl (z9 (pv 3) (z9 (pv 2) (z9 (pv 13) zD)))) zL (fun _ _=>rfl)) (z9 (pv 8) zD)))))))) (zJ (zR yI)) zf))) (zJ (zR yI)))))))))))),?_⟩
 have n12:=gn.hi
 have rl:z3.length<=10:=c7 (fR _ gn.lo) l10
 have h60:∀n∈zA,1<=n/\n<=60:=fun n hn=>by have:=hh n hn;lia
 have mr:∀n,n∈hs↔n∈zA:=fun n=>by
  rw[ehs,yh]
  exact⟨fun h=>h.2,fun h=>⟨by have:=h60 n h;lia,h⟩⟩
 have N1:∀n∈hs,1<=n/\n<=60:=fun n hn=>h60 n ((mr n).mp hn)
 have lhs:hs.length<=60:=by rw[ehs];exact va zA
 have r12:=Wd R n12
 refine NF rfl ⟨lr,rfl,⟨_,hR⟩,?_⟩
 refine vY (xs:=us) (fun i ys G=>B0 H G/\zF G ((z3.take i).map fun w=>zY (zk w)) ys) ⟨B0.refl _,.nil⟩ (fun i ys G hi hp=>?_) (fun i u ys G hu hp=>?_) (fun ts G1 hp=>?_)
 ·obtain⟨gG,th⟩:=hp
  have:=th.length
  rw[bA,bL] at this
  exact⟨gG.seq hR,zp (by lia)⟩
 ·obtain⟨gG,th⟩:=hp
  obtain⟨d,ed,td⟩:=(zF.keep gG _ _ tl).at i u hu
  rw[bE] at ed
  obtain⟨wr,ew,rfl⟩:=bV.mp ed
  have hw:=bH ew
  obtain⟨ar,xs,rfl,er,_,tp⟩:=zr td
  have lx:xs.length=wr.length:=by rw[tp.length,bA]
  have w12:=r12 wr hw
  refine NF rfl ⟨ar,rfl,⟨_,SqT.of er⟩,?_⟩
  refine wI (xs:=xs) (fun j ys2 H2=>H2=G/\ys2=((zk wr).take j).map V.str) ⟨rfl,rfl⟩ (fun j ys2 H2 hj hp=>?_) (fun j y2 ys2 H2 hy hp=>?_) (fun ys2 H2 hp=>?_)
  ·obtain⟨rfl,rfl⟩:=hp
   refine⟨SqT.of er,zp ?_⟩
   rw[bA,bL]
   lia
  ·obtain⟨rfl,rfl⟩:=hp
   obtain⟨pq,b,e1',rfl,e2'⟩:=pK tp j y2 hy
   refine NF rfl (NI b _ 0 _ ⟨rfl,rfl,SqT.of e2',rfl,rfl,?_⟩)
   have e3:(zk wr)[j]? = some pq.1:=by
    unfold zk
    rw[bE,e1']
    rfl
   rw[zq e3,bM]
   rfl
  obtain⟨rfl,rfl⟩:=hp
  have ll:(zk wr).take xs.length=zk wr:=cN (by unfold zk;rw[bA];lia)
  rw[ll]
  intro D hD
  refine(NG D _ ⟨rfl,.inl ⟨SqL.of zM,fun t ht=>?_⟩⟩)
  have sT:=(zH hD (.lst ((zk wr).map V.str))).trans (zH ht (.tup ((zk wr).map V.str)))
  have lw:(zk wr).length<=12:=by
   unfold zk
   rw[bA]
   exact w12
  have eT:upd (upd H2 D (.lst ((zk wr).map V.str))) t (.tup ((zk wr).map V.str)) t=some (.tup ((zk wr).map V.str)):=zM
  generalize upd (upd H2 D (.lst ((zk wr).map V.str))) t (.tup ((zk wr).map V.str))=H5 at sT eT
  refine⟨gG.trans sT,?_⟩
  rw[zq ew,bM]
  exact zF.snoc (zF.keep sT _ _ th) (zw eT (by rw[bA];lia) (vc _))
 obtain⟨gG,th⟩:=hp
 have lxs:us.length=z3.length:=by rw[tl.length,bA]
 rw[lxs,bY] at th
 intro lT hT
 have s1:=gG.trans (zH hT (.lst ts))
 have eT:upd G1 lT (.lst ts) lT=some (.lst ts):=zM
 have tT:=zF.keep (zH hT (.lst ts)) _ _ th
 generalize upd G1 lT (.lst ts)=H1 at s1 eT tT
 have eo1:=s1 _ _ eo
 refine(NF rfl ⟨(NB 1),fun l0 hl0=>(NI lo l0 _ _ ⟨rfl,rfl,zH hl0 _ _ _ eo1,zM,?_,fun lc hlc=>?_⟩)⟩)
 ·rw[bA]
  exact dJ (zp (by show hs.length+1<=1000;lia))
 have sC:=(zH hl0 (.lst [V.int 0])).trans (zH hlc (.lst (hs.map V.int++[V.int 0])))
 have ec:upd (upd H1 l0 (.lst [V.int 0])) lc (.lst (hs.map V.int++[V.int 0])) lc=some (.lst ((hs++[0]).map V.int)):=by
  rw[zM,bM]
  rfl
 generalize upd (upd H1 l0 (.lst [V.int 0])) lc (.lst (hs.map V.int++[V.int 0]))=H2 at sC ec
 refine(NG lc (hs++[0]) ⟨rfl,.inl (SqL.of ec),by simp,fun mi hm top=>?_⟩)
 have hm':mi∈hs\/(hs=[]/\mi=0):=by
  rcases bZ.mp hm with h|h
  ·exact .inl h
  ·rw[bD] at h
   subst h
   cases hs with
   | nil=>exact .inr ⟨rfl,rfl⟩
   | cons x xs=>
    have h1:=top x (by simp)
    have h2:=N1 x bT
    lia
 have top':∀y∈hs,y<=mi:=fun y hy=>top y (eV _ hy)
 have mi0:0<=mi:=by
  rcases hm' with h|⟨_,h⟩
  ·have:=N1 _ h
   lia
  ·lia
 obtain⟨m,rfl⟩:∃m:Nat,mi=(m:Int):=⟨mi.toNat,by lia⟩
 have itr:yZ hs m:=⟨hm'.imp id fun⟨a,b⟩=>⟨a,by lia⟩,top'⟩
 have it:yZ zA m:=itr.same fun n=>(mr n).symm
 have mw:m<=w':=by have:=it.le (k:=(w':Int)) (by lia) fun x hx=>(hh x hx).2;lia
 have s2:=s1.trans sC
 have eT2:=sC _ _ eT
 have tT2:=zF.keep sC _ _ tT
 have eo2:=sC _ _ eo1
 clear hm top hm' ec sC s1 th gG eT tT eo1
 have b10:m*nm.length<=10:=c7 (jI _ (by lia)) l10
 have el:((nm.map V.str).length:Int)=nm.length:=by rw[bA]
 have em:(m:Int)*(nm.length:Int)=((m*nm.length:Nat):Int):=(Int.natCast_mul _ _).symm
 refine NF rfl (NF rfl ⟨ln,NF rfl ⟨.inl (s2.seq hN),(NG _ _ ⟨rfl,rfl,.inr ⟨by lia,by lia⟩,?_⟩)⟩⟩)
 dsimp only
 rw[el,em]
 refine(NF rfl ⟨jV _,by lia,?_⟩)
 rw[fG]
 have p10:(2:Int)^(m*nm.length)=((2^(m*nm.length):Nat):Int):=by rw[jR];rfl
 have w0s:2^(m*nm.length)<=1024:=fE (n:=2) (by decide) b10
 rw[p10]
 refine⟨(NB 0),fun lk hlk=>?_⟩
 have s3:=s2.trans (zH hlk (.lst []))
 have ek:upd H2 lk (.lst []) lk=some (.lst []):=zM
 have s23:=zH hlk (.lst [])
 have nlk:H lk=none:=s2.free hlk
 generalize upd H2 lk (.lst [])=H3 at s3 ek s23
 have eT3:=s23 _ _ eT2
 have tT3:=zF.keep s23 _ _ tT2
 have eo3:=s23 _ _ eo2
 have s02:=s2
 have kl:=x9 m hs z3 r
 have R2:Rws nm (z3.take w'):=⟨fun w hw=>R.sub w (eX hw),fun w hw=>R.val w (eX hw)⟩
 have l2:(z3.take w').length=w':=by rw[bL];lia
 have hh2:∀n∈zA,1<=n/\n<=((z3.take w').length:Int):=fun n hn=>by rw[l2];exact hh n hn
 have ek2:zc m hs (z3.take w') r=zc m hs z3 r:=QV mw hs z3 r
 generalize hcd:2^(m*nm.length)=cd at w0s
 refine NF rfl (NF rfl ⟨by lia,by lia,?_⟩)
 refine w4 (lo:=0) (n:=(cd:Int).toNat) (fun i σ G=>∃(ys:AK) (o9 o10 o11:Option V),(∀b o,H3 b=some o->b≠lk->G b=some o)/\B0 H G/\G lk=some (.lst ys)/\zF G (z3.map fun w=>zY (zk w)) ts/\zF G ((wB nm m (zc m hs z3 r) i).map yA) ys/\
  σ=[some (.ref x),some (.ref ln),some (.ref lr),some (.ref lo),some (.int r),some (.ref lT),some (.int m),some (.int (cd:Nat)),some (.ref lk),o9,o10,o11,none,none]) ⟨[],_,_,_,(fun b o h _=>h),s3,ek,tT3,.nil,rfl⟩ (fun i σ G hi hp=>?_) (fun σ G hp=>?_)
 ·obtain⟨ys,o9,o10,o11,st,sG,eG,tTG,tG,rfl⟩:=hp
  rw[jB]
  have hi':i<cd:=by lia
  have kT:lT≠lk:=fun e=>by rw[e,hlk] at eT2;cases eT2
  refine NF rfl (NF rfl (NF rfl (NI i m ln nm ⟨rfl,sG.seq hN,n12,by lia,fun v G1 g1 tv=>?_⟩)))
  have sG1:=sG.trans g1
  have fb:yf nm (List.replicate m none) (yR nm i m):=u3.mpr ⟨vH nm m i,qB nm m i⟩
  refine(NF rfl (NF rfl (NF rfl (NF rfl (NM v lT lo (yR nm i m) ts z3 hs r ⟨rfl,tv,SqL.of (g1 _ _ (st _ _ eT3 kT)),?_,SqL.of (sG1 _ _ eo),?_,?_,r0,r10,fun b hb=>?_⟩)))))
  ·exact zF.keep g1 _ _ tTG
  ·intro n hn
   have h1:=N1 n hn
   have h2:=top' n hn
   rw[vH]
   lia
  ·rw[vH];lia
  have eb:b=fitB nm (zc m hs z3 r) (yR nm i m):=by rw[cX,hb,PF N1 itr r0 fb,tL]
  subst eb
  have st1:∀b o,H3 b=some o->b≠lk->G1 b=some o:=fun b o h1 h2=>g1 _ _ (st b o h1 h2)
  have eG1:=g1 _ _ eG
  have tT1:=zF.keep g1 _ _ tTG
  have tG1:=zF.keep g1 _ _ tG
  have ly:=tG.length
  rw[bA] at ly
  have lk9:=Sa nm m (zc m hs z3 r) i
  have ksu:=Rt nm m (zc m hs z3 r) i
  generalize hfb:fitB nm (zc m hs z3 r) (yR nm i m)=b at ksu
  refine⟨fun σ G2=>∃(ys':AK),(∀b o,H3 b=some o->b≠lk->G2 b=some o)/\B0 H G2/\G2 lk=some (.lst ys')/\zF G2 (z3.map fun w=>zY (zk w)) ts/\zF G2 ((wB nm m (zc m hs z3 r) (i+1)).map yA) ys'/\Tell G2 (yA (yR nm i m)) v/\
   σ=[some (.ref x),some (.ref ln),some (.ref lr),some (.ref lo),some (.int r),some (.ref lT),some (.int m),some (.int (cd:Nat)),some (.ref lk),some (.int (i:Int)),some v,some (.bl b),none,none],?_,?_⟩
  ·refine NF rfl ⟨b,rfl,?_⟩
   cases b with
   | true=>
    rw[Po rfl] at ksu
    refine F3 (NF rfl ⟨.inl ⟨rfl,_,SqL.of eG1⟩,NF rfl (NH lk ys _ ⟨rfl,rfl,eG1,vh (by lia),?_⟩)⟩)
    refine⟨ys++[v],(fun b o h1 h2=>by rw[zS h2];exact st1 b o h1 h2),wQ sG1 nlk,zM,zF.over eG1 vT _ _ tT1,?_,Tell.over eG1 vT _ _ tv,rfl⟩
    rw[ksu,bM]
    exact zF.over eG1 vT _ _ (zF.snoc tG1 tv)
   | false=>
    rw[Pn bP,dB] at ksu
    refine C1 ⟨ys,st1,sG1,eG1,tT1,by rw[ksu];exact tG1,tv,rfl⟩
  rintro σ G2 ⟨ys',st2,sG2,eG2,tT2',tK2,tv2,rfl⟩
  refine NF rfl (NG _ _ ⟨rfl,rfl,?_,NF rfl (NG _ _ ⟨rfl,rfl,?_,NG _ _ ⟨rfl,rfl,NF rfl ?_⟩⟩)⟩)
  ·exact .inl ⟨by lia,by lia⟩
  ·show(0:Int)<(cd:Int)
   lia
  ·refine C0 (fun _=>?_) (fun _=>?_)
   rotate_left
   ·exact C1 ⟨_,_,_,_,st2,sG2,eG2,tT2',tK2,rfl⟩
   refine NF rfl (NF rfl (NN x v fp nm r (z3.take w') zA m (yR nm i m) ⟨rfl,OS.same sh sG2,gn,R2,by lia,hh2,r0,r10,it,tv2,fun hf G3 g3=>?_,fun hf G3 g3=>?_⟩))
   ·obtain rfl:b=true:=by rw[<- hfb,tL,<- ek2,ehs];exact hf
    exact(NF rfl ⟨.bl true,.bl true,rfl,.inl ⟨rfl,rfl⟩,fun G4 g4=>(NF rfl (C1 ⟨_,_,_,_,(fun b o h1 h2=>g4 _ _ (g3 _ _ (st2 b o h1 h2))),sG2.trans (g3.trans g4),g4 _ _ (g3 _ _ eG2),zF.keep (g3.trans g4) _ _ tT2',zF.keep (g3.trans g4) _ _ tK2,rfl⟩))⟩)
   ·obtain rfl:b=false:=by rw[<- hfb,j4];exact fun h=>hf (by rw[<- ehs,ek2];exact tL.mp h)
    exact(NF rfl ⟨.bl false,.bl false,rfl,.inl ⟨rfl,rfl⟩,fun G4 g4=>(NF rfl (C1 ⟨_,_,_,_,(fun b o h1 h2=>g4 _ _ (g3 _ _ (st2 b o h1 h2))),sG2.trans (g3.trans g4),g4 _ _ (g3 _ _ eG2),zF.keep (g3.trans g4) _ _ tT2',zF.keep (g3.trans g4) _ _ tK2,rfl⟩))⟩)
 obtain⟨ys,o9,o10,o11,st,sG,eG,tTG,tK,rfl⟩:=hp
 rw[fG,<- hcd] at tK
 have ndk:=Ro gn.nd m (zc m hs z3 r)
 have mk:=Ti gn.nd kl
 generalize wB nm m (zc m hs z3 r) (2^(m*nm.length))=kc at tK ndk mk
 clear tTG st tT3 eT3 s23 ek hlk
 have dkm:(zj hs r).length<=m:=by
  rw[<- u7 (z3:=z3) N1 itr]
  unfold xQ
  exact c7 (cL _ _) (Nat.le_of_eq kl)
 have few:(zj hs r).length*nm.length<=10:=c7 (jI _ dkm) b10
 refine NF rfl (NL x fp nm r (z3.take w') zA m ⟨rfl,OS.same sh sG,gn,R2,by lia,hh2,r0,r10,it,by rw[<- ehs];lia,fun v G1 g1 tv=>?_⟩)
 rw[<- ehs,ek2] at tv
 have cl:(yN nm (zc m hs z3 r)).length=2^((zj hs r).length*nm.length):=by rw[vK,u7 N1 itr]
 have cn:=oM gn.nd (zc m hs z3 r)
 have cm:∀c,c∈yN nm (zc m hs z3 r)↔yf nm (zc m hs z3 r) c:=fun c=>ve fun s hs'=>uZ R hs'
 generalize yN nm (zc m hs z3 r)=cs at tv cl cn cm
 have lck:cs.length=kc.length:=pQ cn ndk fun c=>(cm c).trans (mk c).symm
 obtain⟨av,vs,rfl,ev,_,tvs⟩:=zr tv
 have lv:vs.length=cs.length:=by rw[tvs.length,bA]
 have ly:ys.length=kc.length:=by rw[tK.length,bA]
 have w08:2^((zj hs r).length*nm.length)<=1024:=fE (n:=2) (by decide) few
 have sG1:=sG.trans g1
 have shG1:=OS.same sh sG1
 have eK1:=g1 _ _ eG
 have tK1:=zF.keep g1 _ _ tK
 have U6:(2:Int)^((zj (zG zA) r).length*nm.length)=(ys.length:Int):=by
  rw[ly,<- lck,cl,<- ehs,jR]
  rfl
 refine NF rfl (NI _ _ _ _ ⟨rfl,.tup ev,vp,NF rfl (C1 (NF rfl (NK x fp nm r _ zA ⟨rfl,shG1,h60,fun G2 g2=>?_⟩)))⟩)
 rw[U6]
 refine(NF rfl (NG lk ys ⟨rfl,.inl (SqL.of (g2 _ _ eK1)),.int (ys.length:Int),.int (ys.length:Int),rfl,.inl ⟨rfl,rfl⟩,fun G3 g3=>(NF rfl (C1 ?_))⟩))
 have g23:=g2.trans g3
 have sG3:=sG1.trans g23
 have eK3:=g23 _ _ eK1
 have tK3:=zF.keep g23 _ _ tK1
 have ev3:=g23 _ _ ev
 have tv3:=zF.keep g23 _ _ tvs
 refine(NF rfl ⟨av,rfl,⟨_,SqT.of ev3⟩,wo (K:=K) (a:=av) (xs:=vs) (fun i σ G=>∃(p10:Option V),B0 G3 G/\σ=[some (.ref x),some (.ref ln),some (.ref lr),some (.ref lo),some (.int r),some (.ref lT),some (.int m),some (.int (cd:Nat)),some (.ref lk),o9,p10,o11,some (.ref av),none]) ⟨_,B0.refl _,rfl⟩ (fun i σ G _ ⟨_,g,_⟩=>SqT.of (g _ _ ev3)) ?_ ?_⟩)
 ·rintro i y σ G hi ⟨p10,g,rfl⟩
  obtain⟨d,ed,td⟩:=tv3.at i y hi
  rw[bE] at ed
  obtain⟨c,ec,rfl⟩:=bV.mp ed
  have fc:=(cm c).mp (bH ec)
  have f0:=tW fc
  rw[kl] at f0
  refine(NF rfl (NF rfl ⟨(NB 1),fun l1 hl1=>(NF rfl (NH l1 _ _ ⟨rfl,rfl,zM,by lia,by lia,(by show 1*m<=sizeLine;exact dJ (zp (by lia))),fun l2 hl2=>?_⟩))⟩))
  have sl:=(zH hl1 (.lst [V.non])).trans (zH hl2 (.lst (List.replicate m [V.non]).flatten))
  have gl:=g.trans sl
  refine(NL y ln l2 c nm (List.replicate m none) _ ⟨rfl,Tell.keep gl _ _ td,fun zs hz=>?_,(sG3.trans gl).seq hN,gn.nd,n12,SqL.of zM,sR _ m,by rw[d7];lia,fun _ G4 s4=>(NF rfl (C1 ⟨_,gl.trans s4,rfl⟩)),fun nf=>ND f0 nf⟩)
  have:=((u3.mp f0).2 zs hz).length_le
  lia
 rintro σ G4 ⟨p10,g4,rfl⟩
 have eK4:=g4 _ _ eK3
 have tK4:=zF.keep g4 _ _ tK3
 have ev4:=g4 _ _ ev3
 have tv4:=zF.keep g4 _ _ tv3
 have sG4:=sG3.trans g4
 refine NF rfl ⟨av,NF rfl ⟨.inr (SqT.of ev4),NF rfl (NG lk _ ⟨rfl,.inl (SqL.of eK4),rfl,NF rfl ?_⟩)⟩⟩
 rw[lv,ly,lck,Pq rfl]
 refine C1 ?_
 obtain⟨zQ,ep1,ep2,ep3⟩:=mQ (r:=2) (by decide) tv4 uX
 obtain⟨L4,eq1,eq2,eq3⟩:=mQ (r:=2) (by decide) tK4 uX
 have lp:zQ.length=cs.length:=by rw[<- lv,ep1];unfold wK;rw[bA]
 have lq:L4.length=kc.length:=by rw[<- ly,eq1];unfold wK;rw[bA]
 refine NF rfl ⟨av,(NG 2 zQ ⟨rfl,.inr (by rw[<- ep1];exact SqT.of ev4),by decide,by decide,ep3,by lia,fun l1 hl1=>?_⟩)⟩
 have sl1:=zH hl1 (O3 P w l1 2 zQ)
 refine(NF rfl (NH lk 2 L4 ⟨rfl,.inl (by rw[<- eq1];exact SqL.of (sl1 _ _ eK4)),by decide,by decide,fun b d hb=>⟨(eq3 b d hb).1,Tell.keep sl1 _ _ (eq3 b d hb).2⟩,by lia,fun l2 hl2=>?_⟩))
 have sl2:B0 (upd G4 l1 (O3 P w l1 2 zQ)) _:=zH hl2 (O3 P w l2 2 L4)
 have g46:=sl1.trans sl2
 have mcs:D8 (zQ.map (·.2))=cs.map yA:=by rw[<- ep2];exact gh cn
 have mkc:D8 (L4.map (·.2))=kc.map yA:=by rw[<- eq2];exact gh ndk
 refine(NJ l1 l2 2 zQ L4 ⟨rfl,rfl,sl2 _ _ zM,zM,by decide,by decide,fun b d hb=>⟨(ep3 b d hb).1,Tell.keep g46 _ _ (ep3 b d hb).2⟩,fun b d hb=>⟨(eq3 b d hb).1,Tell.keep g46 _ _ (eq3 b d hb).2⟩,fun no=>?_,fun b hb=>?_⟩)
 ·rw[mcs,bA]
  rw[<- ep2] at no
  have same:∀c∈cs,c=List.replicate m []:=fun c hc=>by
   have lc:c.length=m:=by rw[((cm c).mp hc).1,kl]
   refine List.eq_replicate_iff.mpr ⟨lc,fun zs hz=>?_⟩
   obtain⟨ds,e,h1⟩:=no (yA c) (fS hc)
   unfold yA at e
   injection e with e
   obtain⟨ds2,e2,h2⟩:=h1 (zY zs) (by rw[<- e];exact fS hz)
   unfold zY at e2
   injection e2 with e2
   cases zs with
   | nil=>rfl
   | cons z r=>exact(h2 (.str z) (by rw[<- e2];exact bT)).elim
  clear no mk cm tvs tv3 tv4 tv lck lv cl lp mcs ep2 w08 U6
  match cs,cn,same with
  | [],_,_=>exact cQ _
  | [_],_,_=>exact bG _
  | c::c'::r,cn,same=>
   rw[dE] at cn
   exact ND (by rw[same c bT,<- same c' (by simp)];exact bT) cn.1
 obtain rfl:b=false:=hb.mpr ⟨by rw[mcs,mkc,bA,bA,lck],fun d hd=>by
  rw[<- ep2] at hd
  rw[<- eq2]
  obtain⟨c,hc,rfl⟩:=cD.mp hd
  exact fS ((mk c).mpr ((cm c).mp hc))⟩
 refine NF rfl (C1 ?_)
 clear mcs mkc ep1 ep2 ep3 eq1 eq2 eq3
 have sG6:=sG4.trans g46
 have eK6:=g46 _ _ eK4
 have tK6:=zF.keep g46 _ _ tK4
 clear tK4 eK4 ev4 tv4 tK3 eK3 ev3 tv3 tK1 eK1 tvs tv ev
 refine(NF rfl ⟨ln,rfl,⟨_,sG6.seq hN⟩,xv (K:=K) (a:=ln) (xs:=nm.map V.str) (fun i σ G=>∃(p13:Option V),B0 _ G/\σ=[some (.ref x),some (.ref ln),some (.ref lr),some (.ref lo),some (.int r),some (.ref lT),some (.int m),some (.int (cd:Nat)),some (.ref lk),o9,p10,o11,some (.ref av),p13]) ⟨_,B0.refl _,rfl⟩ (fun i σ G _ ⟨_,g,_⟩=>(sG6.trans g).seq hN) ?_ ?_⟩)
 ·rintro i y σ G hi ⟨p13,g,rfl⟩
  rw[bE] at hi
  obtain⟨z,ez,rfl⟩:=bV.mp hi
  have hz:=bH ez
  have sG7:=sG6.trans g
  refine(NF rfl (NF rfl (NF rfl (NF rfl (NF rfl (NF rfl (NK lo lr hs us z3 z ⟨rfl,SqL.of (sG7 _ _ eo),by lia,(by rw[ehs];exact(wW zA).imp fun h=>Int.ne_of_lt h),N1,(fun n hn=>by have:=hh n ((mr n).mp hn);lia),sG7.seq hR,zF.keep sG7 _ _ tl,fun hv G8 s8 th=>?_⟩)))))))
  obtain⟨hb,y0,rfl,ehb,_⟩:=tJ th
  have rr:zG hs=hs:=by
   rw[ehs]
   refine wR (wW _) (wW _) fun n=>?_
   rw[yh]
   exact⟨fun h=>h.2,fun h=>⟨(yh.mp h).1,h⟩⟩
  have eh:zi (zG hs) z3 z=zi (zG zA) (z3.take w') z:=by
   rw[rr,ehs]
   exact(QZ _ fun n hn=>hh n (yh.mp hn).2).symm
  rw[eh] at ehb
  have sG8:=sG7.trans s8
  refine(NI hb _ _ _ ⟨rfl,rfl,SqT.of ehb,rfl,(NF rfl (Y1 x ln lk fp nm r (z3.take w') zA m z kc ys ⟨rfl,OS.same sh sG8,sG8.seq hN,hz,gn,R2,by lia,hh2,r0,r10,it,SqL.of (s8 _ _ (g _ _ eK6)),zF.keep (g.trans s8) _ _ tK6,ndk,fun c=>by rw[mk,<- ehs,ek2],by lia,fun G9 s9=>(NF rfl (C1 ⟨_,g.trans (s8.trans s9),rfl⟩))⟩))⟩)
 ·rintro σ G ⟨p13,g,rfl⟩
  exact q _ (sG6.trans g)
theorem WV(M:Bl mg)(F:Fun K "law" "law" slaw f fd){B1 A0:Addr}{Bk:BkP}{Sh:ShP}(O:BkOk B1 ["write","deliver","latest","issue","deeds","deed","shelf"] Bk)(OS:ShOk A0 ["put","had","latest"] Sh)
  (D6:Cal P w K mg base 1 "_law_at" qA (spAt K)) (D2:Cal P w K mg base 1 "_law_pick" sM mP)
  (L7:Cal P w K mg base 1 "_law_named" pX Zy) (N0:Cal P w K mg base 2 "_law_sets" qe (ZL K)) (K9:Cal P w K mg base 2 "_law_valued" oW YQ)
  (M3:Cal P w K mg base 2 "_law_deeds" pU (Za K)) (K8:Cal P w K mg base 1 "_law_had_at" oZ (Zb K)) (M9:Cal P w K mg base 9 "_law_play" qz (ZK K Bk)) (K6:Cal P w K mg base 10 "_law_stands" oV (XC K Sh))
  (U5:Mkr P w K mg base 8 B1 "Book" nJ (Ye K B1 Bk)) (M0:D5 P w K mg base 8 B1 "shelf" uV (tY Bk Sh)):B2 P w K mg base CX0 14 f fd plaw (rB K):=by
 have nd:=aH.nd
 refine F.ok aH ?_ ?_
 ·rintro _ _ _ _⟨_,_,rfl,_⟩
  rfl
 rintro _ _ _ _ H vs Q E hr⟨a,ns,rfl,hS,h63,q⟩
 refine⟨_,(zN (zW (i:=1) nd rfl (NC rfl) (zX L7 (rm hr) rfl (z9 (zP yg (zX D6 (rm hr) rfl (z9 (pv 0) (z9 zL zD))) zL) (z9 (zP yS zL (zP y6 (zX D6 (rm hr) rfl (z9 (pv 0) (z9 zL zD))) zL)) zD)))) (zN (zW (i:=2) nd rfl (NC rfl) (zP yg zL (zb zo rfl M.len bO (z9 (pv 1) zD)))) (zN (zW (i:=3) nd rfl (NC rfl) (zX K9 (rm hr) rfl (z9 (zX N0 (rm hr) rfl (z9 (pv 1) (z9 (zX D6 (rm hr) rfl (z9 (pv 0) (z9 zL zD))) (z9 (pv 2) zD)))) (z9 (zX D6 (rm hr) rfl (z9 (pv 0) (z9 zL zD))) zD)))) (zN (zW (i:=4) nd rfl (NC rfl) (zX D2 (rm hr) rfl (z9 (zP yg (zX D6 (rm hr) rfl (z9 (pv 0) (z9 zL zD))) zL) (z9 (zh yl (yc (z9 zL (z9 zL (z9 zL (z9 zL zD))))) (zP y6 (zX D6 (rm hr) rfl (z9 (pv 0) (z9 zL zD))) zL) (fun _ _=>rfl)) zD)))) (zN (zW (i:=5) nd rfl (NC rfl) (zP yS zL (zX D2 (rm hr) rfl (z9 (zX D6 (rm hr) rfl (z9 (pv 0) (z9 zL zD))) (z9 zL zD))))) (zN (zW (i:=6) nd rfl (NC rfl) (zX M3 (rm hr) rfl (z9 (wu lX (pv 0) (wt zL) wg) (z9 (pv 2) (z9 (zX D2 (rm hr) rfl (z9 (zX D6 (rm hr) rfl (z9 (pv 0) (z9 zL zD))) (z9 (zP yS (pv 2) zL) zD))) (z9 (pv 5) zD)))))) (zN (zW (i:=7) nd rfl (NC rfl) (zX M9 (rm hr) rfl (z9 (mZ U5 (rm hr) rfl (z9 (yD oE rfl M.list kD (z9 (pv 1) zD)) (z9 (pv 4) (z9 (pv 5) zD)))) (z9 (pv 6) (z9 (pv 3) zD))))) (zN (y9 c6 rfl (xG (yc (z9 (zb zo rfl M.len bO (z9 (pv 6) zD)) (z9 (zP y6 (zX D2 (rm hr) rfl (z9 (zX D6 (rm hr) rfl (z9 (pv 0) (z9 zL zD))) (z9 zL zD))) (zP yS (zb zo rfl M.len bO (z9 (pv 6) zD)) zL)) zD)))) (zd (i:=8) nd rfl (NC rfl)) (zN (zW (i:=9) nd rfl (NC rfl) (zP yS zL (zP y6 (zP yS (zX D6 (rm hr) rfl (z9 (pv 0) (z9 zL zD))) (pv 8)) (pv 5)))) (zN (zW (i:=10) nd rfl (NC rfl) (zX K8 (rm hr) rfl (z9 (pv 6) (z9 (pv 9) (z9 (pv 8) zD))))) (zJ (ze (xc (xB (zX K6 (rm hr) rfl (z9 (xV M0 (rm hr) (pv 7) (z9 (pv 9) (z9 (pv 8) zD))) (z9 (pv 1) (z9 (pv 3) (z9 (pv 10) (z9 (pv 4) zD)))))))) (zJ (zR yI)) zf))))) (zJ (zR yI)))))))))),?_⟩
 refine NF rfl (NH a ns 0 ⟨rfl,hS,by decide,(NG _ _ ⟨rfl,rfl,⟨by decide,by decide⟩,?_⟩)⟩)
 refine(NF rfl (NH a ns 0 ⟨rfl,hS,by decide,NG _ _ ⟨rfl,rfl,(by show(0:Int)<3;decide),NG _ _ ⟨rfl,rfl,?_⟩⟩⟩))
 refine(NG _ _ ⟨rfl,by lia,by lia,fun ln nm H1 nln s1 eN lnm N=>?_⟩)
 have n1:1<=nm.length:=by lia
 have n3:nm.length<=3:=by lia
 have n12:nm.length<=12:=by lia
 have gn:GoodN nm:=⟨n1,n12,N.nd⟩
 have lnl:(nm.map V.str).length=nm.length:=bA _
 refine NF rfl ⟨ln,NF rfl ⟨.inl (SqL.of eN),(NG _ _ ⟨rfl,rfl,⟨by lia,by lia⟩,?_⟩)⟩⟩
 dsimp only
 rw[lnl,show(10:Int) / (nm.length:Int)=((10 / nm.length:Nat):Int) from rfl]
 have mnl:10 / nm.length*nm.length<=10:=Nat.div_mul_le_self 10 nm.length
 have mn10:10 / nm.length<=10:=Nat.div_le_self 10 nm.length
 generalize 10 / nm.length=mn at mnl mn10
 refine(NF rfl (NF rfl (NH a ns 2 ⟨rfl,s1.seq hS,by decide,(NF rfl (NI ln nm _ ((mn:Int)) ⟨rfl,SqL.of eN,n1,n12,by lia,by lia,fun l0 xs0 ss H2 nl0 s2 e2 st len0 sub0=>?_⟩))⟩)))
 have s12:=s1.trans s2
 refine(NF rfl (NH a ns 3 ⟨rfl,s12.seq hS,by decide,(NI l0 xs0 ss _ ⟨rfl,e2,st,by rw[len0];lia,fun s hs=>c7 (sub0 s hs).length_le n12,fun lr us z3 H3 nlr s3 eR tl hm hv=>?_⟩)⟩))
 have rmn:z3.length=mn:=by
  have:=Pu List.length hm
  rw[bA,len0] at this
  lia
 have R:Rws nm z3:=⟨fun r hr'=>sub0 _ (by rw[<- hm];exact fS hr'),hv⟩
 have s13:=s12.trans s3
 have eN3:=s3 _ _ (s2 _ _ eN)
 clear st hm hv e2
 refine NF rfl (NH a ns 4 ⟨rfl,s13.seq hS,by decide,(NG _ _ ⟨rfl,rfl,⟨by decide,by decide⟩,?_⟩)⟩)
 have four:∀k:Int,0<=k->k<4->∃c:Int,atI [V.int 5,V.int 5,V.int 5,V.int 11] k=some (.int c)/\5<=c/\c<=11:=fun k k0 k4=>by
  obtain⟨j,rfl⟩:∃j:Nat,k=(j:Int):=⟨k.toNat,by lia⟩
  match j,k4 with
  | 0,_=>exact⟨5,rfl,by decide,by decide⟩
  | 1,_=>exact⟨5,rfl,by decide,by decide⟩
  | 2,_=>exact⟨5,rfl,by decide,by decide⟩
  | 3,_=>exact⟨11,rfl,by decide,by decide⟩
  | j+4,h=>lia
 refine⟨(NB 4),fun l5 hl5=>?_⟩
 have s5:=s13.trans (zH hl5 (.lst [V.int 5,V.int 5,V.int 5,V.int 11]))
 have eN5:=zH hl5 (.lst [V.int 5,V.int 5,V.int 5,V.int 11]) _ _ eN3
 have eR5:=zH hl5 (.lst [V.int 5,V.int 5,V.int 5,V.int 11]) _ _ eR
 have tl5:=zF.keep (zH hl5 (.lst [V.int 5,V.int 5,V.int 5,V.int 11])) _ _ tl
 have e5:upd H3 l5 (.lst [V.int 5,V.int 5,V.int 5,V.int 11]) l5=some (.lst [V.int 5,V.int 5,V.int 5,V.int 11]):=zM
 generalize upd H3 l5 (.lst [V.int 5,V.int 5,V.int 5,V.int 11])=H4 at s5 eN5 eR5 tl5 e5
 refine(NF rfl (NH a ns 4 ⟨rfl,s5.seq hS,by decide,NG _ _ ⟨rfl,rfl,(by show(0:Int)<4;decide),?_⟩⟩))
 obtain⟨cc,ec,c5,c11⟩:=four (ns.getD (4:Int).toNat 0%4) (cT _ (by decide)) (cI _ (by decide))
 refine NI l5 _ _ _ ⟨rfl,rfl,SqL.of e5,ec,(NG _ _ ⟨rfl,(by lia),fun r r0 r1=>?_⟩)⟩
 refine(NF rfl (NH a ns 5 ⟨rfl,s5.seq hS,by decide,(NG _ _ ⟨rfl,(by decide),fun rd0 rd1 rd2=>(NG _ _ ⟨rfl,rfl,?_⟩)⟩)⟩))
 refine NF rfl (NF rfl (NG a _ ⟨rfl,s5.seq hS,fun lsl hlsl=>?_⟩))
 have ecut:K0 (ns.map V.int) (some (6:Int)) none=((ns.drop (HT.sIx (ns.map V.int).length 0 (some 6))).take (HT.sIx (ns.map V.int).length (ns.map V.int).length none-HT.sIx (ns.map V.int).length 0 (some 6))).map V.int:=by
  unfold K0
  rw[List.map_take,List.map_drop]
 rw[ecut]
 generalize (ns.drop (HT.sIx (ns.map V.int).length 0 (some 6))).take (HT.sIx (ns.map V.int).length (ns.map V.int).length none-HT.sIx (ns.map V.int).length 0 (some 6))=cs
 have s34:=zH hlsl (.lst (cs.map V.int))
 have eC:upd H4 lsl (.lst (cs.map V.int)) lsl=some (.lst (cs.map V.int)):=zM
 generalize upd H4 lsl (.lst (cs.map V.int))=H5 at s34 eC
 have s6:=s5.trans s34
 refine(NF rfl (NF rfl (NH a ns 1 ⟨rfl,s6.seq hS,by decide,NF rfl (NG _ _ ⟨rfl,rfl,(NG _ _ ⟨rfl,(by lia),fun fst f0 f1=>?_⟩)⟩)⟩)))
 refine NF rfl (NJ lsl cs fst (1+rd0) mn ⟨rfl,SqL.of eC,f0,by lia,by lia,by lia,by lia,fun l us' zE H6 nl s7 el pl lkm l246=>?_⟩)
 have s57:=s34.trans s7
 have eN7:=s57 _ _ eN5
 have eR7:=s57 _ _ eR5
 have tl7:=zF.keep s57 _ _ tl5
 have hS7:=(s6.trans s7).seq hS
 have lu7:=xq pl
 have lk:=lkm.1
 have wmn:zV zE<=mn:=lkm.2.1
 refine(NF rfl (NG ln (nm.map V.str) ⟨rfl,.inl (SqL.of eN7),fun l1 hl1=>(NF rfl (NF rfl (fun x dx nx ndx ne=>?_)))⟩))
 have mm1:=qC (C:=B1) (zH hl1 (.lst (nm.map V.str))) nx ndx
 refine(NK x dx l1 nm r (1+rd0) ⟨rfl,zM,ne,by rw[zS ne,zM],.inl (SqL.of (XO nx ndx zM)),gn,r0,by lia,by lia,by lia,fun fp H8 hfp b8 bk8=>⟨rfl,?_⟩⟩)
 have s8:B0 H6 H8:=qY b8 mm1 ((zH hl1 _).free nx)
 have f8:∀b∈fp,H6 b=none:=fun b hb=>pE mm1 ((zH hl1 _).free nx) ((zH hl1 _).free ndx) (hfp b hb)
 have out:∀{b:Addr}{o:HO},H6 b=some o->b∉fp:=fun e m=>by rw[f8 _ m] at e;cases e
 have nt8:xY H8 fp:=O.noTup bk8
 refine NF rfl (NF rfl (Y1 x l lr fp nm r (1+rd0) mn us' us zE z3 ⟨rfl,bk8,s8 _ _ el,out el,DeedsAt.keep s8 pl,lkm,by lia,s8 _ _ eR7,out eR7,zF.keep s8 _ _ tl7,rmn,R,N.nd,n12,fun fp9 H9 ff9 b9 bk9=>?_⟩))
 have sk:∀{b:Addr}{o:HO},H6 b=some o->H9 b=some o:=fun e=>b9 _ _ (s8 _ _ e) (out e)
 have eN9:=sk eN7
 have eR9:=sk eR7
 have el9:=sk el
 have pl9:Paired (yb H9) us' zE:=L2.Paired.Q1 pl fun u d ⟨b,e,q⟩=>⟨b,e,sk q⟩
 have tl9:zF H9 (z3.map rowD) us:=zF.but b9 nt8 _ _ (zF.keep s8 _ _ tl7)
 have hS9:SqL K H9 a (ns.map V.int):=by
  rcases hS7 with (h|⟨o,h⟩)|h
  ·exact .inl (.inl (sk h))
  ·exact .inl (.inr ⟨o,sk h⟩)
  ·exact .inr h
 have in60:∀y∈zE,1<=y.2/\y.2<=(zV zE:Int):=TN lk
 have w0r:∀y∈zE,1<=y.2/\y.2<=60:=fun y hy=>by have:=in60 y hy;lia
 clear mm1 b8 hfp bk8 b9 sk s8 nt8 out f8 pl el eN7 eR7 tl7 hS7 s34 s7 s57 tl eR eN3 eN eC nl
 refine(NF rfl (NG l us' ⟨rfl,.inl (SqL.of el9),(NF rfl (NH a ns 1 ⟨rfl,hS9,by decide,(NG _ _ ⟨rfl,(by decide),fun pk k0 k1=>?_⟩)⟩))⟩))
 refine NF rfl (NG l us' ⟨rfl,.inl (SqL.of el9),NG _ _ ⟨rfl,rfl,(NG _ _ ⟨rfl,rfl,by lia,(NB 2),fun lL hlL=>?_⟩)⟩⟩)
 have md0:=cT pk (show((us'.length:Nat):Int)+1≠0 by lia)
 have md1:=cI pk (show(0:Int)<((us'.length:Nat):Int)+1 by lia)
 have sL:=zH hlL (.lst [V.int (us'.length:Int),V.int (pk%((us'.length:Int)+1))])
 have eL:upd H9 lL (.lst [V.int (us'.length:Int),V.int (pk%((us'.length:Int)+1))]) lL=some (.lst [V.int (us'.length:Int),V.int (pk%((us'.length:Int)+1))]):=zM
 have two:∀(j:Nat) (v:V),[V.int (us'.length:Int),V.int (pk%((us'.length:Int)+1))][j]? = some v->∃d:Nat,v=.int (d:Int)/\d<=zE.length:=fun j v e=>by
  match j,e with
  | 0,e=>cases e;exact⟨us'.length,rfl,by lia⟩
  | 1,e=>cases e;exact⟨(pk%((us'.length:Int)+1)).toNat,by rw[Int.toNat_of_nonneg md0],by lia⟩
 generalize [V.int (us'.length:Int),V.int (pk%((us'.length:Int)+1))]=dv at sL eL two
 generalize upd H9 lL (.lst dv)=GA at sL eL
 refine⟨lL,rfl,⟨_,SqL.of eL⟩,xv (K:=K) (a:=lL) (xs:=dv) (fun _ σ G=>∃(p8 p9 p10:Option V),B0 GA G/\σ=[some (.ref a),some (.ref ln),some (.int (mn:Int)),some (.ref lr),some (.int r),some (.int (1+rd0)),some (.ref l),some (.ref x),p8,p9,p10]) ⟨_,_,_,B0.refl _,rfl⟩ (fun i σ G _ ⟨_,_,_,g,_⟩=>SqL.of (g _ _ eL)) ?_ ?_⟩
 ·rintro j v σ G0 hj ⟨q8,q9,q10,h0,rfl⟩
  obtain⟨d,rfl,hd⟩:=two j v hj
  have c0:=sL.trans h0
  have rr0:=cT (ns.getD (5:Int).toNat 0+(d:Int)) (show 1+rd0≠0 by lia)
  have rr1:=cI (ns.getD (5:Int).toNat 0+(d:Int)) (show 0<1+rd0 by lia)
  refine(NF rfl (NH a ns 5 ⟨rfl,c0.seq hS9,by decide,NF rfl (NG _ _ ⟨rfl,rfl,NF rfl (NG _ _ ⟨rfl,rfl,(by lia),NG _ _ ⟨rfl,rfl,?_⟩⟩)⟩)⟩))
  dsimp only
  generalize hrd:1+(ns.getD (5:Int).toNat 0+(d:Int))%(1+rd0)=rd
  have rdr:1<=rd/\rd<=1+rd0:=by lia
  have g60:∀n∈gotL (zE.take d) rd,1<=n/\n<=(zV zE:Int):=fun n hn=>in60 _ (eX (YO.mp hn))
  refine NF rfl (NF rfl (NF rfl (NJ l us' zE rd d ⟨rfl,c0 _ _ el9,DeedsAt.keep c0 pl9,hd,w0r,fun lo G1 nlo h1 e1=>?_⟩)))
  have c1:=c0.trans h1
  have bk1:=O.same bk9 c1
  obtain⟨d2,g2,z2,w2'⟩:=O.ins bk1
  refine NF rfl (NH x d2 g2 ⟨rfl,z2,w2' _ (by simp),NF rfl (NF rfl (NN x fp9 nm r (1+rd0) _ zE rd (some d) ⟨rfl,bk1,rdr.1,rdr.2,(fun d' h=>by cases h;exact hd),fun x1 fq G2 fn h2 sh=>?_⟩))⟩)
  have sh2:Sh G2 x1 fq nm r (fun n=>yE (z3.take (zV zE)) n r) (gotL (zE.take d) rd):=sh
  have c2:=c1.trans h2
  refine(NF rfl (NF rfl (NF rfl (NF rfl (Y1 x1 ln lr lo fq nm r us z3 (zV zE) _ _ ⟨rfl,sh2,SqL.of (c2 _ _ eN9),gn,SqL.of (c2 _ _ eR9),zF.keep c2 _ _ tl9,R,by lia,by rw[rmn];exact mnl,g60,h2 _ _ e1,rfl,r0,by lia,fun G3 h3=>(NF rfl (C1 ?_))⟩)))))
  exact⟨_,_,_,h0.trans (h1.trans (h2.trans h3)),rfl⟩
 ·rintro σ G0 ⟨q8,q9,q10,h0,rfl⟩
  exact q _
end
theorem Wc{l:PySem.W.OpenLaw}{w:World}{K:AA}{h:Heap}{mg:Str->AH}{fa:Addr}(X:K.In h)(G:h.Ns mainGlobals mg)(hfa:mg "law"=some (.ref fa))
  {f0 f1 f2 f3 f4 f5 f6 f7 f8 f9 f10 f11 f12 f13 f14 f15 f16 f17 f18 f19 f20 f21 f22 f23 f24 f25 f26 f27 f28 f29 f30 f31 f32 f33 f34 f35 f36 f37 f38 f39 f40 f41 f42 f43 f44 f45 f46 f47 f48 f49 f50 f51 f52 f53 f54 f55 f56 f57 f58 f59 f60 f61 f62 f63 f64 f65 f66 f67 f68 f69 f70 f71 f72 A6 A0 B1 T41:Addr}{Q8 R5 P2 Q5 P1 Q3 P0 w0c X7 w0C Z2 U2:Tok}
  (cOffice:DfC K "Office" A6)
  (cShelf:DfC K "Shelf" A0)
  (cBook:DfC K "Book" B1)
  (nOffice_names:PySem.W.findIn K (.ref A6) "names"=some none)
  (nOffice_reach:PySem.W.findIn K (.ref A6) "reach"=some none)
  (nOffice_written:PySem.W.findIn K (.ref A6) "written"=some none)
  (nShelf_names:PySem.W.findIn K (.ref A0) "names"=some none)
  (nShelf_reach:PySem.W.findIn K (.ref A0) "reach"=some none)
  (nShelf_issues:PySem.W.findIn K (.ref A0) "issues"=some none)
  (nBook_office:PySem.W.findIn K (.ref B1) "office"=some none)
  (nBook_readers:PySem.W.findIn K (.ref B1) "readers"=some none)
  (nBook_done:PySem.W.findIn K (.ref B1) "done"=some none)
  (a0:DfT K "lacking_numbers" nY .none f0)
  (a1:DfT K "reached_by" pM .none f1)
  (a2:DfT K "teller_of" qi .none f2)
  (a3:DfT K "lacking_with_tellers" m9 .none f3)
  (a4:DfT K "dark_numbers" oN .none f4)
  (a5:DfT K "dark_numbers_behind" m6 .none f5)
  (a6:DfT K "refuse_bad_names" nN .none f6)
  (a7:DfT K "refuse_bad_reach" nQ .none f7)
  (a8:DfT K "bulletin_names" nM .none f8)
  (a9:DfT K "refuse_unknown_name" m8 .none f9)
  (a10:DfT K "held_for" qE .none f10)
  (a11:DfT K "names_told_of" nH .none f11)
  (a12:DfT K "gaps_of" kz .none f12)
  (a13:DfT K "set_again" qw .none f13)
  (a14:DfT K "state_of" qJ .none f14)
  (a15:DfT K "tail_for" qD .none f15)
  (a16:DfT K "refuse_bad_value" nP .none f16)
  (a17:DfT K "refuse_bad_rows" nW .none f17)
  (a18:DfT K "rows_in_order" nG .none f18)
  (a19:DfT K "names_of_rows" ow .none f19)
  (a20:DfM K A6 "__init__" "Office.__init__" nZ .none f20)
  (a21:DfM K A6 "refuse_writing" "Office.refuse_writing" mB .none f21)
  (a22:DfM K A6 "write" "Office.write" nB .none f22)
  (a23:DfM K A6 "latest" "Office.latest" nK .none f23)
  (a24:DfM K A6 "issue" "Office.issue" oK .none f24)
  (a25:DfM K A0 "__init__" "Shelf.__init__" nL .none f25)
  (a26:DfM K A0 "put" "Shelf.put" qv .none f26)
  (a27:DfM K A0 "had" "Shelf.had" qm .none f27)
  (a28:DfM K A0 "latest" "Shelf.latest" ou .none f28)
  (a29:DfM K A0 "rows_of" "Shelf.rows_of" oz .none f29)
  (a30:DfM K A0 "tail_of" "Shelf.tail_of" ox .none f30)
  (a31:DfT K "refuse_bad_readers" nv .none f31)
  (a32:DfM K B1 "__init__" "Book.__init__" oy .none f32)
  (a33:DfM K B1 "refuse_unknown_reader" "Book.refuse_unknown_reader" mD .none f33)
  (a34:DfM K B1 "refuse_further_deed" "Book.refuse_further_deed" m5 .none f34)
  (a35:DfM K B1 "write" "Book.write" pZ .none f35)
  (a36:DfM K B1 "deliver" "Book.deliver" om .none f36)
  (a37:DfM K B1 "latest" "Book.latest" oG .none f37)
  (a38:DfM K B1 "issue" "Book.issue" pI .none f38)
  (a39:DfM K B1 "deeds" "Book.deeds" pL .none f39)
  (a40:DfM K B1 "deed" "Book.deed" qp .none f40)
  (a41:DfM K B1 "shelf" "Book.shelf" oA (.ref T41) f41)
  (a42:DfT K "known_sets" pN .none f42)
  (a43:DfT K "is_choice" qb .none f43)
  (a44:DfT K "may_stand" pB .none f44)
  (a45:DfT K "fits" mK .none f45)
  (a46:DfT K "two_to_the" px .none f46)
  (a47:DfT K "course_count" oq .none f47)
  (a48:DfT K "again_count" oU .none f48)
  (a49:DfT K "every_choice" oP .none f49)
  (a50:DfT K "one_number_further" nu .none f50)
  (a51:DfT K "every_course" nE .none f51)
  (a52:DfT K "two_courses" oJ .none f52)
  (a53:DfT K "_law_at" kq .none f53)
  (a54:DfT K "_law_pick" qx .none f54)
  (a55:DfT K "_law_row" qS .none f55)
  (a56:DfT K "_law_same" sQ .none f56)
  (a57:DfT K "_law_named" pS .none f57)
  (a58:DfT K "_law_doubled" oO .none f58)
  (a59:DfT K "_law_sets" ql .none f59)
  (a60:DfT K "_law_value" pH .none f60)
  (a61:DfT K "_law_valued" oX .none f61)
  (a62:DfT K "_law_held" qc .none f62)
  (a63:DfT K "_law_course" oT .none f63)
  (a64:DfT K "_law_in_course" n9 .none f64)
  (a65:DfT K "_law_deeds" pV .none f65)
  (a66:DfT K "_law_had_at" oR .none f66)
  (a67:DfT K "_law_play" qj .none f67)
  (a68:DfT K "_law_coded" pW .none f68)
  (a69:DfT K "_law_agrees" oB .none f69)
  (a70:DfT K "_law_name_stands" nO .none f70)
  (a71:DfT K "_law_stands" oI .none f71)
  (a72:DfT K "law" slaw .none f72)
  (d41:DfD K T41 #[Value.none])
  (zlen:PySem.W.nsIn K mainGlobals "len"=some none) (zrange:PySem.W.nsIn K mainGlobals "range"=some none) (ztuple:PySem.W.nsIn K mainGlobals "tuple"=some none) (zlist:PySem.W.nsIn K mainGlobals "list"=some none) (zmax:PySem.W.nsIn K mainGlobals "max"=some none) (zmin:PySem.W.nsIn K mainGlobals "min"=some none) (zsorted:PySem.W.nsIn K mainGlobals "sorted"=some none) (zisinstance:PySem.W.nsIn K mainGlobals "isinstance"=some none) (zbool:PySem.W.nsIn K mainGlobals "bool"=some none) (zint:PySem.W.nsIn K mainGlobals "int"=some none) (zstr:PySem.W.nsIn K mainGlobals "str"=some none) (zset:PySem.W.nsIn K mainGlobals "set"=some none) (zreversed:PySem.W.nsIn K mainGlobals "reversed"=some none) (zdict:PySem.W.nsIn K mainGlobals "dict"=some none) (zzip:PySem.W.nsIn K mainGlobals "zip"=some none) (zall:PySem.W.nsIn K mainGlobals "all"=some none) (vMOST_NAMES:PySem.W.nsIn K mainGlobals "MOST_NAMES"=some (some (.int 12 Q8))) (vMOST_REACH:PySem.W.nsIn K mainGlobals "MOST_REACH"=some (some (.int 10 R5))) (vMOST_NUMBERS:PySem.W.nsIn K mainGlobals "MOST_NUMBERS"=some (some (.int 60 P2))) (vMOST_VALUE:PySem.W.nsIn K mainGlobals "MOST_VALUE"=some (some (.int 1000000 Q5))) (vMOST_READERS:PySem.W.nsIn K mainGlobals "MOST_READERS"=some (some (.int 10 P1))) (vMOST_DEEDS:PySem.W.nsIn K mainGlobals "MOST_DEEDS"=some (some (.int 400 Q3))) (vMOST_COURSES:PySem.W.nsIn K mainGlobals "MOST_COURSES"=some (some (.int 4096 P0))) (vSURE:PySem.W.nsIn K mainGlobals "SURE"=some (some (.str "sure" w0c))) (vSTALE:PySem.W.nsIn K mainGlobals "STALE"=some (some (.str "stale" X7))) (vOPEN:PySem.W.nsIn K mainGlobals "OPEN"=some (some (.str "open" w0C))) (vWRITE:PySem.W.nsIn K mainGlobals "WRITE"=some (some (.str "write" Z2))) (vDELIVER:PySem.W.nsIn K mainGlobals "DELIVER"=some (some (.str "deliver" U2))) :
  ∃fd:FuncData,(∀(s:Shared) (v:Value),BindsTo s fd ⟨[v],[]⟩ [("_law_script",v)])/\∀base:Heap,K.In base->base.Ns mainGlobals mg->B2 l.prog w K mg base CX0 14 fa fd ["_law_script"] (rB K):=by
 have M:Bl mg:=⟨cU X G zlen,cU X G zrange,cU X G ztuple,cU X G zlist,cU X G zmax,cU X G zmin,cU X G zsorted,cU X G zisinstance,cU X G zbool,cU X G zint,cU X G zstr,cU X G zset,cU X G zreversed,cU X G zdict,cU X G zzip,cU X G zall,⟨_,dQ X G vMOST_NAMES⟩,⟨_,dQ X G vMOST_REACH⟩,⟨_,dQ X G vMOST_NUMBERS⟩,⟨_,dQ X G vMOST_VALUE⟩,⟨_,dQ X G vMOST_READERS⟩,⟨_,dQ X G vMOST_DEEDS⟩,⟨_,dQ X G vMOST_COURSES⟩,⟨_,dQ X G vSURE⟩,⟨_,dQ X G vSTALE⟩,⟨_,dQ X G vOPEN⟩,⟨_,dQ X G vWRITE⟩,⟨_,dQ X G vDELIVER⟩⟩
 have E6:TxOffice K mg A6:=⟨cOffice.cls,cOffice.nm X G,nOffice_names,nOffice_reach,nOffice_written⟩
 have C6:TxShelf K mg A0:=⟨cShelf.cls,cShelf.nm X G,nShelf_names,nShelf_reach,nShelf_issues⟩
 have E3:TxBook K mg B1:=⟨cBook.cls,cBook.nm X G,nBook_office,nBook_readers,nBook_done⟩
 obtain⟨_,Flacking_numbers⟩:=zm X G a0
 obtain⟨_,Freached_by⟩:=zm X G a1
 obtain⟨_,Fteller_of⟩:=zm X G a2
 obtain⟨_,Flacking_with_tellers⟩:=zm X G a3
 obtain⟨_,Fdark_numbers⟩:=zm X G a4
 obtain⟨_,Fdark_numbers_behind⟩:=zm X G a5
 obtain⟨_,Frefuse_bad_names⟩:=zm X G a6
 obtain⟨_,Frefuse_bad_reach⟩:=zm X G a7
 obtain⟨_,Fbulletin_names⟩:=zm X G a8
 obtain⟨_,Frefuse_unknown_name⟩:=zm X G a9
 obtain⟨_,Fheld_for⟩:=zm X G a10
 obtain⟨_,Fnames_told_of⟩:=zm X G a11
 obtain⟨_,Fgaps_of⟩:=zm X G a12
 obtain⟨_,Fset_again⟩:=zm X G a13
 obtain⟨_,Fstate_of⟩:=zm X G a14
 obtain⟨_,Ftail_for⟩:=zm X G a15
 obtain⟨_,Frefuse_bad_value⟩:=zm X G a16
 obtain⟨_,Frefuse_bad_rows⟩:=zm X G a17
 obtain⟨_,Frows_in_order⟩:=zm X G a18
 obtain⟨_,Fnames_of_rows⟩:=zm X G a19
 obtain⟨_,FOffice___init__⟩:=lW cOffice a20
 obtain⟨_,FOffice_refuse_writing⟩:=xO a21
 obtain⟨_,FOffice_write⟩:=xO a22
 obtain⟨_,FOffice_latest⟩:=xO a23
 obtain⟨_,FOffice_issue⟩:=xO a24
 obtain⟨_,FShelf___init__⟩:=lW cShelf a25
 obtain⟨_,FShelf_put⟩:=xO a26
 obtain⟨_,FShelf_had⟩:=xO a27
 obtain⟨_,FShelf_latest⟩:=xO a28
 obtain⟨_,FShelf_rows_of⟩:=xO a29
 obtain⟨_,FShelf_tail_of⟩:=xO a30
 obtain⟨_,Frefuse_bad_readers⟩:=zm X G a31
 obtain⟨_,FBook___init__⟩:=lW cBook a32
 obtain⟨_,FBook_refuse_unknown_reader⟩:=xO a33
 obtain⟨_,FBook_refuse_further_deed⟩:=xO a34
 obtain⟨_,FBook_write⟩:=xO a35
 obtain⟨_,FBook_deliver⟩:=xO a36
 obtain⟨_,FBook_latest⟩:=xO a37
 obtain⟨_,FBook_issue⟩:=xO a38
 obtain⟨_,FBook_deeds⟩:=xO a39
 obtain⟨_,FBook_deed⟩:=xO a40
 obtain⟨_,FBook_shelf⟩:=UL a41 d41
 have Q7:=FBook_shelf.1.binds (ps:=["self","reader","deed"]) (ds:=[]) fun _ _ _ _ _ _ us hl=>Y0 (p:=fun us=>∃k,bindArgs _ ⟨us,[]⟩=seqItems? _ >>= k/\k (some _)=pure (List.zip _ (us++[]))) hl fun _ _ _=>⟨_,rfl,rfl⟩
 have P7:=FBook_shelf.1.binds (ps:=["self","reader","deed"]) (ds:=[Value.none]) fun _ _ _ _ _ _ us hl=>Y5 (p:=fun us=>∃k,bindArgs _ ⟨us,[]⟩=seqItems? _ >>= k/\k (some _)=pure (List.zip _ (us++[Value.none]))) (Nat.succ.inj (hl)) fun _ _=>⟨_,rfl,rfl⟩
 obtain⟨_,Fknown_sets⟩:=zm X G a42
 obtain⟨_,Fis_choice⟩:=zm X G a43
 obtain⟨_,Fmay_stand⟩:=zm X G a44
 obtain⟨_,Ffits⟩:=zm X G a45
 obtain⟨_,Ftwo_to_the⟩:=zm X G a46
 obtain⟨_,Fcourse_count⟩:=zm X G a47
 obtain⟨_,Fagain_count⟩:=zm X G a48
 obtain⟨_,Fevery_choice⟩:=zm X G a49
 obtain⟨_,Fone_number_further⟩:=zm X G a50
 obtain⟨_,Fevery_course⟩:=zm X G a51
 obtain⟨_,Ftwo_courses⟩:=zm X G a52
 obtain⟨_,F_law_at⟩:=zm X G a53
 obtain⟨_,F_law_pick⟩:=zm X G a54
 obtain⟨_,F_law_row⟩:=zm X G a55
 obtain⟨_,F_law_same⟩:=zm X G a56
 obtain⟨_,F_law_named⟩:=zm X G a57
 obtain⟨_,F_law_doubled⟩:=zm X G a58
 obtain⟨_,F_law_sets⟩:=zm X G a59
 obtain⟨_,F_law_value⟩:=zm X G a60
 obtain⟨_,F_law_valued⟩:=zm X G a61
 obtain⟨_,F_law_held⟩:=zm X G a62
 obtain⟨_,F_law_course⟩:=zm X G a63
 obtain⟨_,F_law_in_course⟩:=zm X G a64
 obtain⟨_,F_law_deeds⟩:=zm X G a65
 obtain⟨_,F_law_had_at⟩:=zm X G a66
 obtain⟨_,F_law_play⟩:=zm X G a67
 obtain⟨_,F_law_coded⟩:=zm X G a68
 obtain⟨_,F_law_agrees⟩:=zm X G a69
 obtain⟨_,F_law_name_stands⟩:=zm X G a70
 obtain⟨_,F_law_stands⟩:=zm X G a71
 obtain⟨_,Flaw⟩:=zm X G a72
 have e:=hfa.symm.trans Flaw.2
 cases e
 refine⟨_,Sr Flaw.1,fun base _ _=>?_⟩
 have U9:=Yt (P:=l.prog) (w:=w) (base:=base) M F_law_same.1 (b2 F_law_same.1) F_law_same.2
 have cal:=@calF l.prog w K mg base
 have mcl:=@mclF l.prog w K mg base
 have mkr:=@mkrF l.prog w K mg base
 have D6:=cal F_law_at (ok_at M F_law_at.1) (b2 F_law_at.1)
 have D2:=cal F_law_pick (VX F_law_pick.1) (b2 F_law_pick.1)
 have G6:=cal F_law_row (We M F_law_row.1) (b3 F_law_row.1)
 have L7:=cal F_law_named (Ur M F_law_named.1) (b2 F_law_named.1)
 have D7:=cal F_law_doubled (QE M F_law_doubled.1) (b1 F_law_doubled.1)
 have L8:=cal F_law_value (TB F_law_value.1) (b2 F_law_value.1)
 have E9:=cal Frefuse_bad_names (Ql M Frefuse_bad_names.1) (b1 Frefuse_bad_names.1)
 have F2:=cal Frefuse_bad_reach (Qn M Frefuse_bad_reach.1) (b1 Frefuse_bad_reach.1)
 have K5:=mcl C6.cl FShelf_put (VE (A0:=A0) M C6 FShelf_put.1) (b2 FShelf_put.1)
 have B4:=mcl C6.cl FShelf_had (TH (A0:=A0) M C6 FShelf_had.1) (b1 FShelf_had.1)
 have N3:=cal F_law_held (UY M F_law_held.1) (b3 F_law_held.1)
 have M1:=cal Freached_by (Qf M Freached_by.1) (b2 Freached_by.1)
 have B9:=cal Frefuse_unknown_name (Ww M Frefuse_unknown_name.1) (b2 Frefuse_unknown_name.1)
 have F0:=cal Frefuse_bad_value (SE M Frefuse_bad_value.1) (b1 Frefuse_bad_value.1)
 have J1:=cal Frows_in_order (QL M Frows_in_order.1) (b2 Frows_in_order.1)
 have D0:=cal Fnames_of_rows (TV M Fnames_of_rows.1) (b1 Fnames_of_rows.1)
 have G7:=mcl E6.cl FOffice_latest (PL (A6:=A6) M E6 FOffice_latest.1) (b1 FOffice_latest.1)
 have C2:=mcl E6.cl FOffice_issue (QG (A6:=A6) M E6 FOffice_issue.1) (b2 FOffice_issue.1)
 have E5:=cal Frefuse_bad_readers (Xy M Frefuse_bad_readers.1) (b1 Frefuse_bad_readers.1)
 have B3:=mcl E3.cl FBook_refuse_unknown_reader (Pd (B1:=B1) (A6:=A6) M E3 FBook_refuse_unknown_reader.1) (b2 FBook_refuse_unknown_reader.1)
 have B5:=mcl E3.cl FBook_refuse_further_deed (QT (B1:=B1) (A6:=A6) M E3 FBook_refuse_further_deed.1) (b1 FBook_refuse_further_deed.1)
 have W7:=mcl E3.cl FBook_deeds (Rz (B1:=B1) (A6:=A6) M E3 FBook_deeds.1) (b1 FBook_deeds.1)
 have F6:=cal Flacking_numbers (Va M Flacking_numbers.1) (b1 Flacking_numbers.1)
 have N4:=cal Fteller_of (Sn M Fteller_of.1) (b3 Fteller_of.1)
 have J2:=mcl C6.cl FShelf_tail_of (Sj (A0:=A0) M C6 FShelf_tail_of.1) (b2 FShelf_tail_of.1)
 have D1:=mcl C6.cl FShelf_rows_of (RK (A0:=A0) M C6 FShelf_rows_of.1) (b2 FShelf_rows_of.1)
 have X0:=mcl E3.cl FBook_deed (RP (B1:=B1) (A6:=A6) M E3 FBook_deed.1) (b2 FBook_deed.1)
 have E8:=cal Ftwo_to_the (VA M Ftwo_to_the.1) (b1 Ftwo_to_the.1)
 have D3:=cal F_law_course (QP M F_law_course.1) (b3 F_law_course.1)
 have F9:=cal F_law_in_course (Qw M F_law_in_course.1) (b3 F_law_in_course.1)
 have M8:=cal Fis_choice (Rc M Fis_choice.1) (b2 Fis_choice.1)
 have J4:=cal Fevery_choice (WB M Fevery_choice.1) (b1 Fevery_choice.1)
 have E4:=cal Fone_number_further (Xz M Fone_number_further.1) (b2 Fone_number_further.1)
 have K8:=cal F_law_had_at (RJ M F_law_had_at.1) (b3 F_law_had_at.1)
 have L6:=cal F_law_coded (Uc M F_law_coded.1) (b3 F_law_coded.1)
 have L0:=cal F_law_agrees (QC M F_law_agrees.1) (b4 F_law_agrees.1)
 have N0:=cal F_law_sets (Vm M F_law_sets.1 G6.up D7.up) (b3 F_law_sets.1)
 have K9:=cal F_law_valued (SI M F_law_valued.1 G6.up L8.up) (b2 F_law_valued.1)
 have C7:=cal Fbulletin_names (Qj M Fbulletin_names.1 E9.up F2.up) (b2 Fbulletin_names.1)
 have V2:=mcl C6.cl FShelf_latest (SN (A0:=A0) M C6 FShelf_latest.1 B4.up) (b1 FShelf_latest.1)
 have O1:=cal Ftail_for (VY M Ftail_for.1 M1.up) (b2 Ftail_for.1)
 have F7:=cal Frefuse_bad_rows (Rl M Frefuse_bad_rows.1 B9.up F0.up) (b2 Frefuse_bad_rows.1)
 have J5:=mcl E3.cl FBook_deliver (Pb (B1:=B1) (A6:=A6) M E3 FBook_deliver.1 C2.up B3.up B5.up) (b3 FBook_deliver.1)
 have B7:=cal Flacking_with_tellers (Wj M Flacking_with_tellers.1 F6.up N4.up) (b2 Flacking_with_tellers.1)
 have J0:=cal Fnames_told_of (VI (A0:=A0) M C6 Fnames_told_of.1 J2.up) (b3 Fnames_told_of.1)
 have E2:=cal Fheld_for (QW (A0:=A0) M C6 Fheld_for.1 B9.up B4.up D1.up) (b2 Fheld_for.1)
 have V6:=mcl E3.cl FBook_latest (PM (B1:=B1) (A6:=A6) M E3 FBook_latest.1 G7.up) (b1 FBook_latest.1)
 have W4:=mcl E3.cl FBook_issue (Rr (B1:=B1) (A6:=A6) M E3 FBook_issue.1 C2.up) (b2 FBook_issue.1)
 have M7:=cal Fmay_stand (TK M Fmay_stand.1 M8.up) (b3 Fmay_stand.1)
 have M3:=cal F_law_deeds (Si M F_law_deeds.1 D2.up) (b4 F_law_deeds.1)
 have P9:=mkr C6.mgC FShelf___init__ (SW (A0:=A0) M C6 FShelf___init__.1 C7.up) (b3 FShelf___init__.1)
 have Q0:=mkr E6.mgC FOffice___init__ (RH (A6:=A6) M E6 FOffice___init__.1 C7.up) (b3 FOffice___init__.1)
 have B6:=mcl E6.cl FOffice_refuse_writing (QS (A6:=A6) M E6 FOffice_refuse_writing.1 F7.up) (b2 FOffice_refuse_writing.1)
 have C3:=cal Fdark_numbers (Vz M Fdark_numbers.1 B7.up) (b2 Fdark_numbers.1)
 have K1:=cal Fgaps_of (SU (A0:=A0) M C6 Fgaps_of.1 B4.up B7.up J0.up) (b1 Fgaps_of.1)
 have J9:=mcl E6.cl FOffice_write (Ry (A6:=A6) M E6 FOffice_write.1 B6.up D0.up J1.up O1.up) (b2 FOffice_write.1)
 have U5:=mkr E3.mgC FBook___init__ (So (B1:=B1) (A6:=A6) M E3 FBook___init__.1 Q0.up E5.up) (b4 FBook___init__.1)
 have M0:D5 l.prog w K mg base 6 B1 "shelf" uV (tY (BkD K B1 A6) (ShD K A0)):=.mk' E3.cl (jm (B1:=B1) (A6:=A6) (A0:=A0) M E3 E6 FBook_shelf.1 C2.up B3.up P9.up K5.up) Q7 FBook_shelf.2
 have V5:V1 l.prog w K mg base 6 B1 "shelf" uV (tY (BkD K B1 A6) (ShD K A0)) [V.non]:=.mk' (.cons rfl .nil) E3.cl (jm (B1:=B1) (A6:=A6) (A0:=A0) M E3 E6 FBook_shelf.1 C2.up B3.up P9.up K5.up) P7 FBook_shelf.2
 have B8:=cal Fdark_numbers_behind (TR M Fdark_numbers_behind.1 C3.up) (b3 Fdark_numbers_behind.1)
 have N2:=cal Fset_again (Qm (A0:=A0) M C6 Fset_again.1 E2.up K1.up) (b2 Fset_again.1)
 have C4:=cal Fcourse_count (Tp (A0:=A0) M C6 Fcourse_count.1 B4.up C3.up E8.up) (b1 Fcourse_count.1)
 have C8:=cal Fknown_sets (Ue (A0:=A0) M Fknown_sets.1 B4.up D1.up D0.up K1.up) (b1 Fknown_sets.1)
 have J3:=mcl E3.cl FBook_write (Ru (B1:=B1) (A6:=A6) M E3 FBook_write.1 B6.up J9.up B5.up) (b2 FBook_write.1)
 have E1:=cal Fstate_of (Rj (A0:=A0) M C6 Fstate_of.1 E2.up N2.up B4.up B8.up) (b2 Fstate_of.1)
 have U4:=cal Ffits (VR (A0:=A0) M C6 Ffits.1 C8.up M7.up) (b2 Ffits.1)
 have J8:=cal Fevery_course (WA (A0:=A0) M C6 Fevery_course.1 C4.up C8.up J4.up E4.up) (b1 Fevery_course.1)
 have K7:=cal Fagain_count (Sl (A0:=A0) M C6 Fagain_count.1 E2.up E1.up B4.up C4.up E8.up B8.up) (b2 Fagain_count.1)
 have K4:=cal Ftwo_courses (WI (A0:=A0) M C6 Ftwo_courses.1 E1.up C8.up B4.up C3.up) (b2 Ftwo_courses.1)
 have M9:=cal F_law_play (TQ (B1:=B1) (Bk:=(BkD K B1 A6)) M F_law_play.1 bkOk J3.up J5.up) (b3 F_law_play.1)
 have F4:=cal F_law_name_stands (To (A0:=A0) (Sh:=(ShD K A0)) M F_law_name_stands.1 shOk F9.up D3.up (U9 5) E1.up K7.up K4.up) (b5 F_law_name_stands.1)
 have K6:=cal F_law_stands (QI (A0:=A0) (Sh:=(ShD K A0)) M F_law_stands.1 shOk D7.up L6.up L0.up D3.up (U9 5) N3.up F4.up U4.up J8.up C4.up) (b5 F_law_stands.1)
 exact WV M Flaw.1 bkOk shOk D6.up D2.up L7.up N0.up K9.up M3.up K8.up M9.up K6.up U5.up M0.up
theorem walk{l:PySem.W.OpenLaw}{q:Program}{loose:AF}{XP:(Str->AH)->Heap->Prop}{YP:World->Heap->Prop}{d:DefRec}{K:Params->AA}(hn:l.most=some 63)(hdf:d.params.defaults=[])
  (hY:∀(w:World) (h:Heap),YP w h->(K w.params).In h)
  (F:∀(w:World) (mg:Str->AH) (fa:Addr) (h:Heap),(K w.params).In h->h.Ns mainGlobals mg->mg d.name=some (.ref fa)->
   ∃fd:FuncData,(∀(s:Shared) (u:Value),BindsTo s fd ⟨[u],[]⟩ [("_law_script",u)])/\∀base:Heap,(K w.params).In base->base.Ns mainGlobals mg->B2 l.prog w (K w.params) mg base CX0 14 fa fd ["_law_script"] (rB (K w.params))) :
  PySem.W.WalkO q loose XP YP l.row.toRowW d [] (fun f vs=>PySem.call f vs):=
 L2.Vx (n:=63) (k:=14) (x:="_law_script") (CX:=fun _=>CX0) (sp:=fun w=>rB (K w.params)) hn (by decide) hdf ⟨rfl,by decide,by decide⟩ hY F (fun _ _ a ns hl _ hS=>⟨a,ns,rfl,hS,hl,fun _=>rfl⟩) fun _ _ _ _ _ z=>z
theorem w0k{q:Program}{loose:AF}{XP:(Str->AH)->Heap->Prop}{r:PySem.W.RowW}{d:DefRec}{kwd:List (Str×Expr)}{run:Value->AG->Sem Value}{K:Params->AA}{ks:List Addr}{n t:Nat}(e:∀P,ks=(K P).map (·.1))
  (W:PySem.W.WalkO q loose XP (fun w h=>(K w.params).In h) r d kwd run):PySem.W.WalkX q loose XP (PySem.W.X.obsZ ks) (PySem.W.X.valZ K n t) r d kwd run:=
 fun w s₀ s₁ mg mb G y a o pm cd doc dV kV h1 h2 h3 h4 h5 h6 args vals as L g1 g2 g3 g4 g5=>W w s₀ s₁ mg mb G (PySem.W.InK.keeps w s₀.heap s₁.heap (PySem.W.X.z_facts e y).2.1 L.keeps) a o pm cd doc dV kV h1 h2 h3 h4 h5 h6 args vals as g1 g2 g3 g4 g5
end My
namespace PySem.W.Fast
def tw10014405972856177891:=()
def tw10027010939005081091:=()
def tw1004420764941830220:=()
def tw10057938963227684911:=()
def tw10085019025214035459:=()
def tw10092229689856674799:=()
def tw10106578353546776682:=()
def tw1025085583601289414:=()
def tw10344462749070764115:=()
def tw1038158074575217221:=()
def tw10393354332497566170:=()
def tw10410595678043538306:=()
def tw1042870432709964485:=()
def tw10469810931239370640:=()
def tw1047237318818560153:=()
def tw10487419586966114556:=()
def tw10508153674283900814:=()
def tw10546554841659245926:=()
def tw10552080450112543650:=()
def tw10597213492523201688:=()
def tw10681081411125913889:=()
def tw1070861547652092636:=()
def tw10743871118098910828:=()
def tw10749345204592622412:=()
def tw10764312688484509032:=()
def tw10818615778290091583:=()
def tw10830321429676344667:=()
def tw1084245810798952821:=()
def tw10861019855289351800:=()
def tw10920454765492542380:=()
def tw10941431812084763021:=()
def tw11032837923594234982:=()
def tw11203432333429456072:=()
def tw11243653234098885131:=()
def tw11263569091039816340:=()
def tw11367862172287175772:=()
def tw11394672749093810404:=()
def tw11429348934597891470:=()
def tw11464783394251129039:=()
def tw11473557625962569966:=()
def tw11507676765078838307:=()
def tw11514591872904983475:=()
def tw1152517990065653017:=()
def tw11526697164176085737:=()
def tw11529775542705703219:=()
def tw11541337967032224623:=()
def tw11573717947551265016:=()
def tw11583135242521977374:=()
def tw11657247946634412715:=()
def tw11690206482132241832:=()
def tw11717863645572581707:=()
def tw11730376050427647831:=()
def tw11732844128889036960:=()
def tw11734265988767810327:=()
def tw11786245106699722326:=()
def tw11832792453754552718:=()
def tw11852436422224926146:=()
def tw1189640551823500422:=()
def tw11929069219236766940:=()
def tw11942047654283892536:=()
def tw11956117508480819655:=()
def tw11971485097565381627:=()
def tw11991255392862316827:=()
def tw1201911131777433786:=()
def tw12074053644485648684:=()
def tw12151576669217016077:=()
def tw12264223753334689569:=()
def tw12298941370136248199:=()
def tw12308058798037203649:=()
def tw12312643842975268901:=()
def tw12361297985423449522:=()
def tw12488803578231849613:=()
def tw12489314848457883058:=()
def tw12546283166571754513:=()
def tw12550396691611466538:=()
def tw12604764882059940292:=()
def tw12641088350207381296:=()
def tw12680384936970333636:=()
def tw12691651846171586001:=()
def tw12731146194900226796:=()
def tw1276520274401368244:=()
def tw12809977815763622312:=()
def tw12839333499760029796:=()
def tw12875070748067063496:=()
def tw12961421700452650959:=()
def tw13003457016063728059:=()
def tw13032485392848961673:=()
def tw13101833028312290387:=()
def tw13144160455128051576:=()
def tw13145093285039573483:=()
def tw13184690945037587909:=()
def tw1319748500810456244:=()
def tw13221480178489356333:=()
def tw13284671023144533254:=()
def tw13291534016050804830:=()
def tw13302614850772399847:=()
def tw13425017202262085385:=()
def tw13447973694514848726:=()
def tw13464146817789919002:=()
def tw13567293735664509011:=()
def tw13705888901186341111:=()
def tw13708300309511009113:=()
def tw13708757321551678396:=()
def tw13716394710919083999:=()
def tw13735428760771779720:=()
def tw13823330786981952056:=()
def tw13880810693555525120:=()
def tw13987194132915633156:=()
def tw14006515402751936871:=()
def tw1401436147369668711:=()
def tw14035882117927942762:=()
def tw14061089272268403259:=()
def tw14080483516164391508:=()
def tw14098325194065532001:=()
def tw14110371212459167158:=()
def tw14198387866527958122:=()
def tw14206476646782339771:=()
def tw14240694532470404794:=()
def tw14245802629247109531:=()
def tw14404411522152309595:=()
def tw14430610184586911753:=()
def tw14476899050526564515:=()
def tw14529342647742082721:=()
def tw14559168574532938779:=()
def tw14610767727391552358:=()
def tw14636535320452827569:=()
def tw14733377630223473223:=()
def tw14740522139456953563:=()
def tw14847862698335383041:=()
def tw1486022097944360738:=()
def tw15037577484633643762:=()
def tw15053439027066488027:=()
def tw15121706840650261529:=()
def tw15136620942107619345:=()
def tw1522576279983590411:=()
def tw1529621884085459093:=()
def tw15359485968177512479:=()
def tw15370037064116564788:=()
def tw15424912662327262818:=()
def tw15426133983309244919:=()
def tw15430757012261354515:=()
def tw15455300320235787781:=()
def tw15476099346835589642:=()
def tw15476533612695015284:=()
def tw15525024431582466014:=()
def tw15539897551985309575:=()
def tw1556123309438392605:=()
def tw15601516256042261255:=()
def tw15641921714819877986:=()
def tw15705501764534255255:=()
def tw15730775674148297137:=()
def tw15738899390324922607:=()
def tw15750262903257058914:=()
def tw15787270801033853013:=()
def tw15838050069779894026:=()
def tw15852380061068260398:=()
def tw15863821550074398869:=()
def tw1589032318137681924:=()
def tw15931238735456396122:=()
def tw15950745587597938791:=()
def tw15991632946057225628:=()
def tw16009334747385940311:=()
def tw16011572885500967075:=()
def tw16035234517257789108:=()
def tw16062003904453555116:=()
def tw16089732681395405312:=()
def tw16256521019970904489:=()
def tw16314270602253141602:=()
def tw16318757464479433752:=()
def tw16331708097397653910:=()
def tw1633209926444549087:=()
def tw16355537070532007647:=()
def tw16368067586884869774:=()
def tw16372502388510261555:=()
def tw16373221880516006206:=()
def tw16439105928046130063:=()
def tw1647245509811800932:=()
def tw16475649594193727959:=()
def tw16488681503523611401:=()
def tw165882789390952144:=()
def tw16608400456326512841:=()
def tw16625959947666411958:=()
def tw16789951916547865190:=()
def tw16864039848452754204:=()
def tw16908707466216003124:=()
def tw1694981286467806902:=()
def tw16973861845624441644:=()
def tw17025079833555727094:=()
def tw17038332545073404082:=()
def tw17069316077121060186:=()
def tw17121695835218652990:=()
def tw17143817242268619703:=()
def tw17240058550027905562:=()
def tw17263632452526557515:=()
def tw17286858211216443333:=()
def tw17305085060625464423:=()
def tw17370541738125544721:=()
def tw17394947242486858806:=()
def tw17398208316471076014:=()
def tw17409037150244259769:=()
def tw17437030423264647188:=()
def tw17527610257010262859:=()
def tw17593174405933863836:=()
def tw1763863011486308565:=()
def tw17648018882396502625:=()
def tw17654739330964559629:=()
def tw17657403081651369830:=()
def tw17667692820679847805:=()
def tw17748972867644573358:=()
def tw17789480144585773703:=()
def tw17826627276834256991:=()
def tw17827393738364953526:=()
def tw17889008051176216822:=()
def tw1816942524542540344:=()
def tw18250312731699417917:=()
def tw18286548524597823560:=()
def tw1834302121104150540:=()
def tw18384218097358647792:=()
def tw18385053445465386931:=()
def tw18389009483243271106:=()
def tw18429699042146086964:=()
def tw18440543422355172084:=()
def tw185817321076089884:=()
def tw1881156849627663390:=()
def tw1908436284516996754:=()
def tw1947248755077373539:=()
def tw1991735103355345955:=()
def tw2044958600603792320:=()
def tw2051619436919009562:=()
def tw2070846223622106637:=()
def tw2073938451409606725:=()
def tw2160346693279174353:=()
def tw2162091466613172421:=()
def tw2167303008422132325:=()
def tw2191111861331887373:=()
def tw2193416338569773907:=()
def tw220872680123870590:=()
def tw2211247070189092250:=()
def tw2228559797140638339:=()
def tw2279398751102878559:=()
def tw2289420931587461618:=()
def tw2290475034363326980:=()
def tw2311085330070728292:=()
def tw2323897966496483100:=()
def tw2340802300638869076:=()
def tw2361418983154756124:=()
def tw2371066905267571327:=()
def tw2450040428639080638:=()
def tw2453945326288730393:=()
def tw2541025099071675047:=()
def tw2542674558227184687:=()
def tw2585979894823751812:=()
def tw2659633090379822075:=()
def tw2696247801753563272:=()
def tw2752069638813679256:=()
def tw2772410206880519848:=()
def tw2786687161468768718:=()
def tw2792300547807189890:=()
def tw2855522315228028769:=()
def tw2880016218571783356:=()
def tw2897275109914960318:=()
def tw2902057843444447896:=()
def tw2934677559155672864:=()
def tw2963885630493529400:=()
def tw2979655890621797325:=()
def tw3062900825057845699:=()
def tw3120986446197605593:=()
def tw3128819011124104473:=()
def tw3134997741450290685:=()
def tw3159022411637268068:=()
def tw3234474195843122954:=()
def tw3271017948200304804:=()
def tw3309724638784683878:=()
def tw3452753600802483902:=()
def tw3467784121858184036:=()
def tw3489137582953812083:=()
def tw3521383004645548945:=()
def tw3552032426971337396:=()
def tw3608874706098221449:=()
def tw3614376186922754367:=()
def tw3674390587948833044:=()
def tw3681036253274731699:=()
def tw3695583820264663582:=()
def tw3704522013926773308:=()
def tw3727894118982236226:=()
def tw3798899101744638810:=()
def tw3828062091323883391:=()
def tw3880350281796839839:=()
def tw3906037091551801750:=()
def tw3996904909239440318:=()
def tw4015392625342106018:=()
def tw4020834355949946724:=()
def tw4119199581888252564:=()
def tw4153734623047357778:=()
def tw4156988211606456917:=()
def tw4163689869495248099:=()
def tw416557432170813341:=()
def tw4269040085076968031:=()
def tw4292562636254159604:=()
def tw4297137381348346481:=()
def tw4332896571272981097:=()
def tw4407063739807268514:=()
def tw4409976641976413478:=()
def tw4411954464925738166:=()
def tw4477253069826177636:=()
def tw4504288604267365597:=()
def tw4555059153938687945:=()
def tw4616755316832697306:=()
def tw4633694984569249714:=()
def tw4652117376453384528:=()
def tw4685859391473300222:=()
def tw469957835765123367:=()
def tw471851310237004546:=()
def tw4745172995932739312:=()
def tw4774587797595345578:=()
def tw4794721521534145400:=()
def tw4808545303864295202:=()
def tw482201756811838042:=()
def tw4823849120545078859:=()
def tw4931022960801787999:=()
def tw4970217941107073654:=()
def tw5051620897143568772:=()
def tw5053883590601800049:=()
def tw5086029275300701321:=()
def tw5100225730674030002:=()
def tw5158257318091478105:=()
def tw5191106709407392593:=()
def tw5262664865351335923:=()
def tw5270714853892188010:=()
def tw5276116275635405380:=()
def tw5322035600303509535:=()
def tw5361761956705391743:=()
def tw5383355928016259263:=()
def tw5427617514933176735:=()
def tw5475279290519368748:=()
def tw552786426625001517:=()
def tw5557714594450430272:=()
def tw5571433638160212528:=()
def tw5592809115699973924:=()
def tw5604410142685105197:=()
def tw5626750215504505034:=()
def tw5654348216736879193:=()
def tw5657137866861198148:=()
def tw5670540295973867053:=()
def tw5674961200107059853:=()
def tw5680825480173026158:=()
def tw5682830215171754802:=()
def tw5736843145313775434:=()
def tw5739743936471384382:=()
def tw5763475624426615145:=()
def tw5833354023971280447:=()
def tw5964769280407807859:=()
def tw598428793717525942:=()
def tw6002764591225347607:=()
def tw6008130707558692630:=()
def tw6023143913723933905:=()
def tw6028621085207588280:=()
def tw6035461159255427111:=()
def tw605071384399870393:=()
def tw6101985166862093215:=()
def tw6107011693715302136:=()
def tw6180409506897537226:=()
def tw6223121638174869576:=()
def tw6287450149717289779:=()
def tw6301622240100523975:=()
def tw6484038357989304031:=()
def tw6487106328377267450:=()
def tw6570543624318477308:=()
def tw6590559690000854956:=()
def tw6624066125809873430:=()
def tw6643136230591631538:=()
def tw6662658851636127981:=()
def tw667208998594642526:=()
def tw6722313304413361370:=()
def tw6805938783710862536:=()
def tw6816482062814090332:=()
def tw687406314115242277:=()
def tw6924611278236238467:=()
def tw7018036238750540763:=()
def tw7042928671000966662:=()
def tw707903674734381482:=()
def tw7118783511356543218:=()
def tw7169357919443903559:=()
def tw7169786640997818852:=()
def tw7186023187940934695:=()
def tw7204930165150995434:=()
def tw7266543733303797468:=()
def tw728958113850859561:=()
def tw7296613985459057747:=()
def tw7322534333285004101:=()
def tw7325456522560962840:=()
def tw7338959093725189710:=()
def tw7452217305592056294:=()
def tw7473921399269225584:=()
def tw7540733981150109675:=()
def tw7590612829552476123:=()
def tw7627193567867524761:=()
def tw7650183439340643169:=()
def tw7689237448841687672:=()
def tw7775579681733351192:=()
def tw7784020706509734833:=()
def tw7797965759015664253:=()
def tw7800297537747943682:=()
def tw7840186064225556230:=()
def tw7879191459299654675:=()
def tw7992670321344073450:=()
def tw8035428235760314480:=()
def tw8045980976787872978:=()
def tw806095135604566896:=()
def tw8078251431144231808:=()
def tw8086870423146389783:=()
def tw809693920783096368:=()
def tw8128421525580682402:=()
def tw8143702449760185226:=()
def tw8147911217037460639:=()
def tw819828493396487677:=()
def tw8214227771321932716:=()
def tw8214843389108399228:=()
def tw8255159391363322323:=()
def tw8336702619906536177:=()
def tw8373414854534130020:=()
def tw8400120460383455173:=()
def tw8408168081638981999:=()
def tw8422261344432883592:=()
def tw8431022189657198512:=()
def tw8452309594447371398:=()
def tw8459519647220449670:=()
def tw8589296175920969878:=()
def tw8694867270255591925:=()
def tw875669573879937816:=()
def tw8772917244300701782:=()
def tw8810995595141139116:=()
def tw8832494271108218727:=()
def tw8950317945537698628:=()
def tw9029952695732581315:=()
def tw9076148779082705562:=()
def tw9085051182924675702:=()
def tw9173608331562790416:=()
def tw9230023404313995917:=()
def tw9266831121887211033:=()
def tw9269956786099123805:=()
def tw932019944495672060:=()
def tw933299871578348834:=()
def tw9385733429665704179:=()
def tw9390421514581661443:=()
def tw9417233537447970259:=()
def tw9463156747721915927:=()
def tw9607088304578323285:=()
def tw962073567085682301:=()
def tw9633562326016679392:=()
def tw9650295317609200413:=()
def tw9658046150001058777:=()
def tw9769239648095007871:=()
def tw9802848018917612633:=()
def tw9823967504828984429:=()
def tw9825997000481773244:=()
def tw9897130957435706891:=()
def tw9919758268561950962:=()
def tw9973037676750060497:=()
def tw998729352168098660:=()
end PySem.W.Fast
open PySem PySem.W PyProof.Rows
set_option maxRecDepth 100000 in
set_option maxHeartbeats 0 in
theorem PySem.Challenge.cw_backissues_k32_whole_all_courses_holds : PySem.Challenge.rw_backissues_k32_whole_all_courses.Holds := by
 w_on; o_law; z_head; (case hw => w_witness2)
 k_fill
 refine My.w0k (fun _ => by kernel_rfl) ?_
 refine My.walk (l := PySem.Challenge.rw_backissues_k32_whole_all_courses) rfl rfl (fun w h Y => Y) ?F
 case F =>
  intro w mg fa h KX G hmg
  refine' My.Wc KX G hmg ?cOffice ?cShelf ?cBook ?nOffice_names ?nOffice_reach ?nOffice_written ?nShelf_names ?nShelf_reach ?nShelf_issues ?nBook_office ?nBook_readers ?nBook_done ?a0 ?a1 ?a2 ?a3 ?a4 ?a5 ?a6 ?a7 ?a8 ?a9 ?a10 ?a11 ?a12 ?a13 ?a14 ?a15 ?a16 ?a17 ?a18 ?a19 ?a20 ?a21 ?a22 ?a23 ?a24 ?a25 ?a26 ?a27 ?a28 ?a29 ?a30 ?a31 ?a32 ?a33 ?a34 ?a35 ?a36 ?a37 ?a38 ?a39 ?a40 ?a41 ?a42 ?a43 ?a44 ?a45 ?a46 ?a47 ?a48 ?a49 ?a50 ?a51 ?a52 ?a53 ?a54 ?a55 ?a56 ?a57 ?a58 ?a59 ?a60 ?a61 ?a62 ?a63 ?a64 ?a65 ?a66 ?a67 ?a68 ?a69 ?a70 ?a71 ?a72 ?d41 ?zlen ?zrange ?ztuple ?zlist ?zmax ?zmin ?zsorted ?zisinstance ?zbool ?zint ?zstr ?zset ?zreversed ?zdict ?zzip ?zall ?vMOST_NAMES ?vMOST_REACH ?vMOST_NUMBERS ?vMOST_VALUE ?vMOST_READERS ?vMOST_DEEDS ?vMOST_COURSES ?vSURE ?vSTALE ?vOPEN ?vWRITE ?vDELIVER
  case' cOffice | cShelf | cBook => exact ⟨by k_is, by k_is, by k_is, by k_is, by k_is, by k_is, by k_is⟩
  case' nOffice_names | nOffice_reach | nOffice_written | nShelf_names | nShelf_reach | nShelf_issues | nBook_office | nBook_readers | nBook_done => k_is
  case' a0 | a1 | a2 | a3 | a4 | a5 | a6 | a7 | a8 | a9 | a10 | a11 | a12 | a13 | a14 | a15 | a16 | a17 | a18 | a19 | a31 | a42 | a43 | a44 | a45 | a46 | a47 | a48 | a49 | a50 | a51 | a52 | a53 | a54 | a55 | a56 | a57 | a58 | a59 | a60 | a61 | a62 | a63 | a64 | a65 | a66 | a67 | a68 | a69 | a70 | a71 | a72 => exact ⟨by k_is, _, _, _, _, _, _, _, _, _, by k_is, by k_is, by k_is⟩
  case' a20 | a21 | a22 | a23 | a24 | a25 | a26 | a27 | a28 | a29 | a30 | a32 | a33 | a34 | a35 | a36 | a37 | a38 | a39 | a40 | a41 => exact ⟨by k_is, by k_is, _, _, _, _, _, _, _, _, _, by k_is, by k_is, by k_is⟩
  case' d41 => exact ⟨_, _, _, _, by k_is⟩
  case' zlen | zrange | ztuple | zlist | zmax | zmin | zsorted | zisinstance | zbool | zint | zstr | zset | zreversed | zdict | zzip | zall | vMOST_NAMES | vMOST_REACH | vMOST_NUMBERS | vMOST_VALUE | vMOST_READERS | vMOST_DEEDS | vMOST_COURSES | vSURE | vSTALE | vOPEN | vWRITE | vDELIVER => k_is