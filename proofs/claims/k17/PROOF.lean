import PyProof.Rows.All
import Wide.All
import OpenK.AllK
import Wide.FinOn
import Lean
import PyProof.EqAt
import PyProof.EqKinds
import PyProof.TupleCall
import PyProof.WalksMore
import PyProof.ListRange
import PyProof.NeKinds
import PyProof.SliceStr2
import PyProof.StrOps2
import PyProof.Rows.SetFrom
import PyProof.MinMaxWalk
import KE.KRevIter
import KE.KDictList
import PyProof.AttrMiss
import PyProof.IsiH_list
import PyProof.IsiH_tuple
import KE.KDictOf
import PyProof.ZipIter
import PyProof.TupleIter
import KE.KxWritten
import OpenK.KOwn
import KE.KTryMore
import PyProof.StrLawsRepr
import PyProof.RulesDel
import PyProof.RulesAs
import PyProof.ExcArgsOwn
import KE.KIsAll
import PySem.Challenge.RW_backissues_k17_unknown_name
set_option Elab.async false
set_option linter.all false
set_option maxHeartbeats 4000000
set_option maxRecDepth 100000
abbrev b9:=@List.length_map
abbrev bA:=@PySem.Heap.get?_push_of_some
abbrev bB:=@List.mem_singleton
abbrev bD:=@List.mem_cons
abbrev bE:=@Nat.le_refl
abbrev bF:=@List.size_toArray
abbrev bG:=@List.map_append
abbrev bH:=@PySem.boot_len
abbrev bI:=@PyProof.Rows.boot_tuple
abbrev bJ:=@PySem.Heap.get?_push_size
abbrev bK:=@List.getElem?_map
abbrev bL:=@PySem.Heap.lt_size
abbrev bM:=@Bool.false_ne_true
abbrev bN:=@List.length_append
abbrev bO:=@List.length_take
abbrev bP:=@List.mem_cons_of_mem
abbrev bQ:=@List.mem_of_getElem?
abbrev bR:=@List.mem_append_right
abbrev bS:=@List.mem_append
abbrev bT:=@PySem.F.slot_list_append
abbrev bU:=@List.getElem?_eq_getElem
abbrev bV:=@PySem.F.plainAttrs_list
abbrev bW:=@Bool.and_eq_true
abbrev bX:=@List.take_length
abbrev bY:=@List.getD_eq_getElem?_getD
abbrev bZ:=@PySem.F.type_list_append
abbrev c9:=@List.length_cons
abbrev cA:=@PyProof.Rows.boot_isinstance
abbrev cB:=@List.mem_cons_self
abbrev cC:=@Nat.ne_of_lt
abbrev cD:=@PySem.PassesOwn.never
abbrev cE:=@PySem.Heap.get?_update_other
abbrev cF:=@PySem.W.mg_of
abbrev cG:=@List.mem_map
abbrev cH:=@PySem.Around.under_plainId
abbrev cI:=@List.length_filter_le
abbrev cJ:=@List.getElem?_eq_some_iff
abbrev cK:=@List.mem_filter
abbrev cL:=@Nat.le_trans
abbrev cM:=@Int.emod_lt_of_pos
abbrev cN:=@PySem.W.mg_none_of
abbrev cO:=@Nat.lt_of_lt_of_le
abbrev cP:=@Option.map_eq_some_iff
abbrev cQ:=@List.map_cons
abbrev cR:=@Nat.zero_le
abbrev cS:=@Ne.symm
abbrev cT:=@Int.emod_nonneg
abbrev cU:=@List.append_nil
abbrev cV:=@List.take_zero
abbrev cW:=@List.exists_cons_of_length_eq_add_one
abbrev cX:=@List.pairwise_append
abbrev cY:=@Nat.lt_irrefl
abbrev cZ:=@PyProof.Rows.slot_tuple_getitem
abbrev d5:=@List.nodup_iff_pairwise_ne
abbrev d6:=@List.mem_append_left
abbrev d7:=@PySem.F.plain_max_loop
abbrev d8:=@PySem.F.plain_min_loop
abbrev d9:=@List.take_of_length_le
abbrev dA:=@List.length_singleton
abbrev dB:=@PySem.Heap.get?_update_self
abbrev dC:=@Bool.eq_iff_iff
abbrev dD:=@PySem.W.kia_one
abbrev dE:=@List.nodup_cons
abbrev dF:=@List.length_drop
abbrev dG:=@List.eq_nil_of_length_eq_zero
abbrev dH:=@List.map_map
abbrev dI:=@List.not_mem_nil
abbrev dJ:=@PyProof.Rows.callWith_type1
abbrev dL:=@List.find?_cons
abbrev dM:=@Array.getElem?_eq_some_iff
abbrev dN:=@List.filter_append
abbrev dO:=@List.getElem?_append_left
abbrev dP:=@Int.le_refl
abbrev dQ:=@Nat.lt_succ_of_lt
abbrev dR:=@List.pairwise_map
abbrev dS:=@List.filterMap_cons
abbrev dU:=@Nat.lt_of_le_of_lt
abbrev dW:=@Bool.false_eq_true
abbrev dX:=@PySem.W.methodCall_KW
abbrev dY:=@List.foldl_cons
abbrev dZ:=@List.take_add_one
abbrev e7:=@PySem.F.slot_tuple_getattribute
abbrev eB:=@PySem.Heap.size_push
abbrev eF:=@List.lookup_cons
abbrev eI:=@PySem.F.called_set
abbrev eJ:=@PySem.F.slot_list_getattribute
abbrev eM:=@List.all_eq_true
abbrev eO:=@PyProof.Rows.boot_sorted
abbrev eQ:=@List.filter_cons
abbrev eS:=@Array.length_toList
abbrev eU:=@PySem.mem_of_lookup
abbrev eV:=@List.length_reverse
abbrev eX:=@List.getElem?_replicate
abbrev eY:=@PySem.F.plain_list_iadd
abbrev eZ:=@List.pairwise_singleton
abbrev fA:=@List.all_cons
abbrev fB:=@List.any_cons
abbrev fE:=@PySem.W.callWith_K
abbrev fF:=@List.filter_nil
abbrev fG:=@PySem.F.entry_max_loop
abbrev fH:=@PySem.F.entry_min_loop
abbrev fI:=@PyProof.Rows.boot_dict
abbrev fJ:=@Bool.eq_false_iff
abbrev fK:=@Nat.le_of_lt
abbrev fL:=@PyProof.Rows.boot_max
abbrev fM:=@PyProof.Rows.boot_min
abbrev fN:=@List.drop_zero
abbrev fO:=@List.pairwise_reverse
abbrev fP:=@List.getElem?_set_ne
abbrev fQ:=@Nat.lt_succ_self
abbrev fR:=@List.mem_of_mem_take
abbrev fS:=@List.mem_reverse
abbrev fT:=@List.reverse_reverse
abbrev fU:=@List.getElem?_append_right
abbrev fV:=@PySem.F.excBase_ValueError
abbrev fW:=@Bool.true_and
abbrev fX:=@Nat.le_succ
abbrev fZ:=@List.mem_of_find?_eq_some
abbrev g0:=@Nat.ne_of_gt
abbrev g8:=@PySem.F.args_tuple_add_2
abbrev g9:=@Nat.pos_of_ne_zero
abbrev gB:=@PySem.F.slot_list_insert
abbrev gC:=@PySem.Obj.data_mapFields
abbrev gD:=@List.pairwise_cons
abbrev gE:=@List.any_map
abbrev gF:=@List.mem_range
abbrev gG:=@Bool.false_and
abbrev gH:=@PySem.F.entry_tuple_add
abbrev gI:=@PyProof.Rows.F.plain_set_update_loop
abbrev gJ:=@List.length_range
abbrev gK:=@List.foldl_append
abbrev gL:=@List.nodup_append
abbrev gM:=@List.append_assoc
abbrev gN:=@Bool.not_eq_true'
abbrev gO:=@List.getElem?_set_self
abbrev gP:=@PySem.F.slot_tuple_add
abbrev gQ:=@PySem.Paired.snoc
abbrev gR:=@PyProof.Rows.boot_list
abbrev gS:=@Nat.le_of_not_lt
abbrev gT:=@List.getElem_mem
abbrev gU:=@List.any_eq_true
abbrev gX:=@List.length_replicate
abbrev gY:=@PyProof.Rows.boot_set
abbrev gZ:=@List.take_append_drop
abbrev hJ:=@Bool.or_eq_true
abbrev hU:=@Nat.sub_zero
abbrev hV:=@List.mem_of_mem_drop
abbrev hW:=@PySem.W.hideAll_get
abbrev hZ:=@PySem.W.plainGet_of
abbrev j4:=@PySem.Heap.SameBut.update
abbrev j6:=@List.map_congr_left
abbrev j7:=@PySem.W.of_hideAll
abbrev j8:=@List.mem_filterMap
abbrev j9:=@Array.mem_def
abbrev jA:=@List.any_eq_false
abbrev jB:=@PySem.list_append
abbrev jC:=@List.Sublist.refl
abbrev jD:=@PySem.IsL.update
abbrev jE:=@Nat.zero_add
abbrev jF:=@List.all_map
abbrev jG:=@Int.zero_add
abbrev jH:=@Nat.succ_le_succ
namespace L2
open PySem PySem.Spec PyProof.Rows
abbrev Key:=Sum Int Str
noncomputable def y0Z:Key->Value->Bool
 | .inl k,v=>Value.isInt k v
 | .inr x,v=>Value.isStrOf x v
noncomputable def keyH(w:World):Key->Int
 | .inl k=>hashInt k
 | .inr x=>hashStr w x
theorem z1m:∀{k:Key}{v:Value},y0Z k v=true->(∃i t,k=Sum.inl i/\v=Value.int i t)\/(∃x t,k=Sum.inr x/\v=Value.str x t)
 | .inl i,v,h=>by
  obtain⟨t,e⟩:=Value.isInt_shape (k:=i) (v:=v) h
  exact .inl ⟨i,t,rfl,e⟩
 | .inr x,v,h=>by
  obtain⟨t,e⟩:=Value.isStrOf_shape (x:=x) (v:=v) h
  exact .inr ⟨x,t,rfl,e⟩
theorem y4f(i:Int)(t:Tok):y0Z (.inl i) (.int i t)=true:=by simp[y0Z,Value.isInt]
theorem y3j(x:Str)(t:Tok):y0Z (.inr x) (.str x t)=true:=by simp[y0Z,Value.isStrOf]
theorem y8e(a b:Int):decide ((Sum.inl a:Key)=Sum.inl b)=(a == b):=by
 by_cases e:a=b
 ·subst e;simp
 ·have h:¬(Sum.inl a:Key)=Sum.inl b:=fun q=>e (Sum.inl.inj q)
  rw[decide_eq_false h]
  exact(beq_eq_false_iff_ne.mpr e).symm
theorem y8c(a b:Str):decide ((Sum.inr a:Key)=Sum.inr b)=decide (a=b):=by
 by_cases e:a=b
 ·subst e;simp
 ·have h:¬(Sum.inr a:Key)=Sum.inr b:=fun q=>e (Sum.inr.inj q)
  rw[decide_eq_false h,decide_eq_false e]
theorem y8i(a:Int)(b:Str):decide ((Sum.inl a:Key)=Sum.inr b)=false:=decide_eq_false (fun q=>nomatch q)
theorem y86(a:Str)(b:Int):decide ((Sum.inr a:Key)=Sum.inl b)=false:=decide_eq_false (fun q=>nomatch q)
noncomputable def z1E(prog:Program)(w:World):PySem.KeyKind prog w Key where
 is:=y0Z
 hash:=keyH w
 inj:=fun v a b ha hb=>by
  rcases z1m ha with ⟨i,t,rfl,rfl⟩|⟨x,t,rfl,rfl⟩
  ·rcases z1m hb with ⟨j,u,rfl,e⟩|⟨y,u,rfl,e⟩
   ·injection e with e1 _;rw[e1]
   ·exact nomatch e
  ·rcases z1m hb with ⟨j,u,rfl,e⟩|⟨y,u,rfl,e⟩
   ·exact nomatch e
   ·injection e with e1 _;rw[e1]
 byValue:=fun k v h=>by
  rcases z1m h with ⟨i,t,rfl,rfl⟩|⟨x,t,rfl,rfl⟩<;>rfl
 pyHash:=fun hv h=>by
  rcases z1m hv with ⟨i,t,rfl,rfl⟩|⟨x,t,rfl,rfl⟩
  ·exact wpAny_pyHash_int h
  ·exact wpAny_pyHash_str h
 eqBool:=fun hu hv h=>by
  rcases z1m hu with ⟨i,t,rfl,rfl⟩|⟨x,t,rfl,rfl⟩
  ·rcases z1m hv with ⟨j,u,rfl,rfl⟩|⟨y,u,rfl,rfl⟩
   ·rw[y8e] at h;exact wpAny_eqBool_int h
   ·rw[y8i] at h;exact SeqAt.EqAt.int_str i t y u _ _ _ _ h
  ·rcases z1m hv with ⟨j,u,rfl,rfl⟩|⟨y,u,rfl,rfl⟩
   ·rw[y86] at h;exact SeqAt.EqAt.str_int x t j u _ _ _ _ h
   ·rw[y8c] at h;exact wpAny_eqBool_str h
 «strs»:=fun k x t v h=>by
  rcases z1m h with ⟨i,u,rfl,e⟩|⟨y,u,rfl,e⟩
  ·exact nomatch e
  ·injection e with e1 _
   subst e1
   cases v<;>rfl
theorem y10(prog:Program)(w:World)(i:Int)(t:Tok):(z1E prog w).is (.inl i) (.int i t)=true:=y4f i t
theorem y15(prog:Program)(w:World)(x:Str)(t:Tok):(z1E prog w).is (.inr x) (.str x t)=true:=y3j x t
inductive V where
 | non|bl (b:Bool)|int (i:Int)|str (x:Str)|byt (b:Array UInt8)|flt (b:UInt64)|ref (a:Addr)|ty (n:String)
 deriving DecidableEq
def RelV:V->Value->Prop
 | .non,u=>u=Value.none
 | .bl b,u=>u=Value.bool b
 | .int i,u=>∃t,u=Value.int i t
 | .str x,u=>∃t,u=Value.str x t
 | .byt b,u=>∃t,u=Value.bytes b t
 | .flt b,u=>∃t,u=Value.float b t
 | .ref a,u=>u=Value.ref a
 | .ty n,u=>u=Value.type n
abbrev Vals:List V->List Value->Prop:=Paired RelV
theorem Vals.length{xs:List V}{us:List Value}(r:Vals xs us):xs.length=us.length:=Paired.length r
theorem Vals.get:∀{xs:List V}{us:List Value}{i:Nat}{x:V},Vals xs us->xs[i]? = some x->∃u,us[i]? = some u/\RelV x u
 | _,_,_,_,.nil,e=>by simp at e
 | _,_,0,_,.cons r _,e=>by simp at e;subst e;exact⟨_,rfl,r⟩
 | _,_,i+1,x,.cons _ t,e=>by
  obtain⟨u,h1,h2⟩:=Vals.get (i:=i) (x:=x) t (by simpa using e)
  exact⟨u,by simpa using h1,h2⟩
theorem Vals.append:∀{xs ys:List V}{us ws:List Value},Vals xs us->Vals ys ws->Vals (xs++ys) (us++ws)
 | _,_,_,_,.nil,s=>s
 | _,_,_,_,.cons r t,s=>.cons r (Vals.append t s)
theorem Vals.take:∀{xs:List V}{us:List Value} (n:Nat),Vals xs us->Vals (xs.take n) (us.take n)
 | _,_,0,_=>.nil
 | _,_,_+1,.nil=>.nil
 | _,_,n+1,.cons r t=>.cons r (Vals.take n t)
theorem Vals.drop:∀{xs:List V}{us:List Value} (n:Nat),Vals xs us->Vals (xs.drop n) (us.drop n)
 | _,_,0,r=>r
 | _,_,_+1,.nil=>.nil
 | _,_,n+1,.cons _ t=>Vals.drop n t
noncomputable def P6:Option V->Option Value->Prop
 | some v,some u=>RelV v u
 | none,none=>True
 | _,_=>False
noncomputable def KV{κ:Type}:List (κ×V)->List (κ×Value)->Prop:=Paired fun(p:κ×V) (q:κ×Value)=>p.1=q.1/\RelV p.2 q.2
def kV:Key->V
 | .inl i=>.int i
 | .inr x=>.str x
inductive HO where
 /-- a list -/
 | lst (xs:List V)
 /-- a tuple (never changes) -/
 | tup (xs:List V)
 /-- a dict whose keys are ints and texts;one whose keys are tuples of ints and texts (the empty one is both) -/
 | dK (kvs:List (Key×V))|dT (kvs:List (List Key×V))
 /-- a set of ints: its members,its size -/
 | set (S:Int->Bool) (n:Nat)
 /-- an instance of the class at C,its dict at dx,its attributes -/
 | ins (C dx:Addr) (fs:List (Str×V))
 /-- the dict of the instance at x -/
 | own (x:Addr)
 /-- the dict of an exception -/
 | xd (fs:List (Str×V))
 /-- a bound method,f of x -/
 | met (f x:Addr)
 /-- a range object lo,lo+1,.. below hi -/
 | rng (lo hi:Int)
 /-- a thing that is known to the object (the script;a dict while a loop walks it): read,never written while it is so -/
 | frz (o:Obj) (u:HO)
 /-- a code object's table -/
 | tbl (ps:Array Value)
 /-- any other thing,by what is true of its one object (a def of one's own: SetO a S n:=HO.ext fun h=>..) -/
 | ext (φ:Heap->Prop)
abbrev Hp:=Addr->Option HO
noncomputable def upd(H:Hp)(a:Addr)(o:HO):Hp:=fun b=>if b=a then some o else H b
noncomputable def PlT(h:Heap)(a:Addr)(items:Array Value):Prop:=∃o,h.get? a=some o/\o.cls=.type "tuple"/\(∃n,o.data=.seq items n)/\o.dict=none
theorem PlT.tup{h:Heap}{a:Addr}{items:Array Value}(p:PlT h a items):IsTup h a items:=let ⟨o,e,c,d,_⟩:=p;⟨o,e,c,d⟩
theorem PlT.new(h:Heap)(items:Array Value):PlT (h.push { cls:=.type "tuple",data:=.seq items }) h.objs.size items:=⟨_,bJ _ rfl,rfl,⟨_,rfl⟩,rfl⟩
theorem z04{H:Hp}{a:Addr}{o:HO}:upd H a o a=some o:=by unfold upd;rw[if_pos rfl]
theorem z0e{H:Hp}{a b:Addr}{o:HO}(h:b≠a):upd H a o b=H b:=by unfold upd;rw[if_neg h]
theorem z5A{H:Hp}{a:Addr}{o u:HO}:upd (upd H a o) a u=upd H a u:=by
 funext b;unfold upd;split<;>rfl
theorem z50{H:Hp}{a b:Addr}{o u:HO}(h:H a=some o)(h':H b=some u)(d:o≠u):a≠b:=by
 intro e;subst e;rw[h] at h';exact d (Option.some.inj h')
theorem z0o{H:Hp}{a b:Addr}{o:HO}(h:H a=some o)(h':H b=none):a≠b:=by
 intro e;subst e;rw[h] at h';cases h'
section
variable(P:Program)(w:World)
noncomputable def z1t(H:Hp)(h:Heap)(a:Addr):HO->Prop
 | .lst xs=>xs.length≤sizeLine/\∃(its:List Value) (n:Nat),Vals xs its/\h.get? a=some { cls:=.type "list",data:=.seq its.toArray n }
 | .tup xs=>xs.length≤sizeLine/\∃its:List Value,Vals xs its/\PlT h a its.toArray
 | .dK kvs=>kvs.length≤sizeLine/\(a == sysModules)=false/\∃vs,KV kvs vs/\h.DictOf (z1E P w) a vs
 | .dT kvs=>kvs.length≤sizeLine/\(a == sysModules)=false/\∃xs:List (List Key×Addr×Value),
   Paired (fun(p:List Key×V) (q:List Key×Addr×Value)=>p.1=q.1/\H q.2.1=some (.tup (p.1.map kV))/\RelV p.2 q.2.2) kvs xs/\
   ∃o es ep,h.get? a=some o/\o.ExactDict/\o.data=.dict es ep/\es.toList=xs.map (entryOfKey (tupleKind (z1E P w)))/\(xs.map (·.1)).Nodup
 | .set S n=>h.SetOf (intKind P w) a S n
 | .ins C dx fs=>H dx=some (.own a)/\fs.length≤1000/\dx≠a/\h.get? a=some (PySem.W.instObj C dx)/\
   ∃mA,h.Ns1 dx mA/\(∀f,P6 (fs.lookup f) (mA f))/\PySem.Within mA (fs.map (·.1))
 | .own _=>∃o,h.get? a=some o
 | .xd fs=>∃mA,h.Ns1 a mA/\∀f,P6 (fs.lookup f) (mA f)
 | .rng lo hi=>∃t u v,h.get? a=some { cls:=.type "range",data:=.fields #[.int lo t,.int hi u,.int 1 v] }
 | .frz o u=>h.get? a=some o/\z1t H h a u
 | .tbl ps=>h.get? a=some { cls:=.none,data:=.fields ps }
 | .met f x=>h.get? a=some (PySem.W.methodObj (.ref f) (.ref x))
 | .ext φ=>φ h/\(∃o,h.get? a=some o)/\∀h1 h2:Heap,φ h1->(∀o,h1.get? a=some o->h2.get? a=some o)->φ h2
noncomputable def HOk(H:Hp)(h:Heap):Prop:=∀a o,H a=some o->z1t P w H h a o
end
section
variable{P:Program}{w:World}{H H':Hp}{h h':Heap}{a:Addr}{o:HO}
theorem z1t.lt(x:z1t P w H h a o):a<h.objs.size:=by
 cases o with
 | lst xs=>obtain⟨_,_,_,_,e⟩:=x;exact bL e
 | tup xs=>obtain⟨_,_,_,o,e,_⟩:=x;exact bL e
 | dK kvs=>obtain⟨_,_,_,_,o,_,_,e,_⟩:=x;exact bL e
 | dT kvs=>obtain⟨_,_,_,_,o,_,_,e,_⟩:=x;exact bL e
 | set S n=>obtain⟨o,_,_,_,e,_⟩:=x;exact bL e
 | ins C dx fs=>obtain⟨_,_,_,e,_⟩:=x;exact bL e
 | own y=>obtain⟨_,e⟩:=x;exact bL e
 | xd fs=>obtain⟨_,⟨_,_,_,e,_⟩,_⟩:=x;exact bL e
 | rng lo hi=>obtain⟨_,_,_,e⟩:=x;exact bL e
 | frz ob u=>obtain⟨e,_⟩:=x;exact bL e
 | tbl ps=>exact bL (show h.get? a=some _ from x)
 | met f y=>exact bL (show h.get? a=some _ from x)
 | ext φ=>obtain⟨_,⟨_,e⟩,_⟩:=x;exact bL e
theorem Paired.X9{α β:Type}{F G:α->β->Prop}:∀{l₁:List α}{l₂:List β},Paired F l₁ l₂->(∀a b,F a b->G a b)->Paired G l₁ l₂
 | _,_,.nil,_=>.nil
 | _,_,.cons r t,f=>.cons (f _ _ r) (Paired.X9 t f)
theorem z1t.V3(x:z1t P w H h a o)(k:∀b u,(b=a\/H b=some (.own a))->h.get? b=some u->h'.get? b=some u)
  (ho:∀b,H b=some (.own a)->H' b=some (.own a)) (ht:∀b xs,H b=some (.tup xs)->H' b=some (.tup xs)):z1t P w H' h' a o:=by
 induction o with
 | lst xs=>obtain⟨z,its,n,r,e⟩:=x;exact⟨z,its,n,r,k _ _ (.inl rfl) e⟩
 | tup xs=>obtain⟨z,its,r,ob,e,c⟩:=x;exact⟨z,its,r,ob,k _ _ (.inl rfl) e,c⟩
 | dK kvs=>obtain⟨z,y,vs,r,ob,es,ep,e,c⟩:=x;exact⟨z,y,vs,r,ob,es,ep,k _ _ (.inl rfl) e,c⟩
 | dT kvs=>
  obtain⟨z,y,xs,r,ob,es,ep,e,c⟩:=x
  exact⟨z,y,xs,Paired.X9 r fun p q z=>⟨z.1,ht _ _ z.2.1,z.2.2⟩,ob,es,ep,k _ _ (.inl rfl) e,c⟩
 | set S n=>obtain⟨ob,es,ep,t,e,c⟩:=x;exact⟨ob,es,ep,t,k _ _ (.inl rfl) e,c⟩
 | ins C dx fs=>
  obtain⟨d,z,ne,e,mA,⟨od,es,ep,e2,c⟩,r⟩:=x
  exact⟨ho _ d,z,ne,k _ _ (.inl rfl) e,mA,⟨od,es,ep,k _ _ (.inr d) e2,c⟩,r⟩
 | own y=>obtain⟨ob,e⟩:=x;exact⟨ob,k _ _ (.inl rfl) e⟩
 | xd fs=>obtain⟨mA,⟨od,es,ep,e,c⟩,r⟩:=x;exact⟨mA,⟨od,es,ep,k _ _ (.inl rfl) e,c⟩,r⟩
 | rng lo hi=>obtain⟨t,u,v,e⟩:=x;exact⟨t,u,v,k _ _ (.inl rfl) e⟩
 | frz ob u ih=>obtain⟨e,q⟩:=x;exact⟨k _ _ (.inl rfl) e,ih q⟩
 | tbl ps=>
  have e:h.get? a=some { cls:=.none,data:=.fields ps }:=x
  show h'.get? a=some { cls:=.none,data:=.fields ps }
  exact k a _ (.inl rfl) e
 | met f y=>
  have e:h.get? a=some (PySem.W.methodObj (.ref f) (.ref y)):=x
  show h'.get? a=some (PySem.W.methodObj (.ref f) (.ref y))
  exact k a _ (.inl rfl) e
 | ext φ=>obtain⟨p,⟨o,e⟩,st⟩:=x;exact⟨st _ _ p fun o q=>k _ _ (.inl rfl) q,⟨o,k _ _ (.inl rfl) e⟩,st⟩
theorem HOk.lt(x:HOk P w H h)(e:H a=some o):a<h.objs.size:=(x a o e).lt
theorem HOk.fresh(x:HOk P w H h)(e:h.objs.size≤a):H a=none:=by
 cases q:H a with
 | none=>rfl
 | some u=>exact absurd (cO (x.lt q) e) (cY _)
theorem HOk.kept(x:HOk P w H h)(k:∀b u,h.get? b=some u->h'.get? b=some u):HOk P w H h':=fun a o e=>
 (x a o e).V3 (fun b u _ q=>k b u q) (fun _ q=>q) fun _ _ q=>q
theorem HOk.laid(x:HOk P w H h)(k:∀b u,h.get? b=some u->h'.get? b=some u)(hp:h.objs.size≤a)(new:z1t P w (upd H a o) h' a o):HOk P w (upd H a o) h':=fun b u e=>by
 have hn:=x.fresh hp
 by_cases hb:b=a
 ·subst hb;rw[z04] at e;cases e;exact new
 ·rw[z0e hb] at e
  exact(x b u e).V3 (fun c v _ q=>k c v q) (fun c q=>by rw[z0e (z0o q hn)];exact q) fun c xs q=>by rw[z0e (z0o q hn)];exact q
end
noncomputable def Rd(H:Hp)(a:Addr)(u:HO):Prop:=H a=some u\/∃o,H a=some (.frz o u)
theorem Rd.ok{P:Program}{w:World}{H:Hp}{h:Heap}{a:Addr}{u:HO}(r:Rd H a u)(x:HOk P w H h):z1t P w H h a u:=by
 rcases r with r|⟨o,r⟩
 ·exact x a u r
 ·obtain⟨_,q⟩:=x a _ r
  exact q
noncomputable def Mut:Option HO->Prop
 | some (.lst _)=>True
 | some (.dK _)=>True
 | some (.dT _)=>True
 | some (.set _ _)=>True
 | some (.ins _ _ _)=>True
 | some (.ext _)=>True
 | _=>False
section
variable{P:Program}{w:World}{H:Hp}{h h':Heap}{x e:Addr}{o':HO}
theorem HOk.write(ok:HOk P w H h)(mu:Mut (H x))(he:e=x\/H e=some (.own x))(k:∀b u,b≠e->h.get? b=some u->h'.get? b=some u)(heo:∃u,h'.get? e=some u)
  (new:z1t P w (upd H x o') h' x o'):HOk P w (upd H x o') h':=fun b u q=>by
 have nown:∀c y,H c=some (.own y)->c≠x:=fun c y r z=>by subst z;rw[r] at mu;exact mu
 have ntup:∀c xs,H c=some (.tup xs)->c≠x:=fun c xs r z=>by subst z;rw[r] at mu;exact mu
 by_cases hb:b=x
 ·subst hb;rw[z04] at q;cases q;exact new
 ·rw[z0e hb] at q
  by_cases hbe:b=e
  ·have q':H b=some (.own x):=by
    rcases he with z|z
    ·exact absurd (hbe.trans z) hb
    ·rw[hbe];exact z
   rw[q] at q';cases q'
   obtain⟨v,hv⟩:=heo
   exact⟨v,by rw[hbe];exact hv⟩
  ·refine(ok b u q).V3 (fun c v hc r=>k c v ?_ r) (fun c r=>by rw[z0e (nown c b r)];exact r) fun c xs r=>by rw[z0e (ntup c xs r)];exact r
   rcases hc with rfl|hc
   ·exact hbe
   ·rintro rfl
    rcases he with z|z
    ·exact nown c b hc z
    ·rw[hc] at z;cases z;exact hb rfl
end
structure Un(fs ex:List Addr)(H H':Hp)(h h':Heap):Prop where
 keep:∀b o,h.get? b=some o->H b=none->b∉fs->b∉ex->h'.get? b=some o
 slot:∀b o,h.get? b=some o->H b=none->b∈fs->b∉ex->∃sl,h'.get? b=some { o with slots:=sl }
 free:∀b o,h.get? b=some o->H b=none->b∉ex->H' b=none
 there:∀b o,h.get? b=some o->b∉ex->∃o',h'.get? b=some o'
 P8:∀b xs,H b=some (.tup xs)->H' b=some (.tup xs)
 O1:∀b o u,H b=some (.frz o u)->H' b=some (.frz o u)
 P7:∀b ps,H b=some (.tbl ps)->∃more,H' b=some (.tbl (ps++more))
section
variable{fs fs' ex ex':List Addr}{H H1 H2:Hp}{h h1 h2 h':Heap}{a x e:Addr}{o:HO}
theorem Un.any(u:Un fs ex H H1 h h1){b:Addr}{ob:Obj}(q:h.get? b=some ob)(n:H b=none)(hx:b∉ex):∃sl,h1.get? b=some { ob with slots:=sl }:=by
 by_cases hb:b∈fs
 ·exact u.slot b ob q n hb hx
 ·exact⟨ob.slots,u.keep b ob q n hb hx⟩
theorem Un.kept(k:∀b u,h.get? b=some u->h'.get? b=some u):Un fs ex H H h h':=
 ⟨fun b ob q _ _ _=>k b ob q,fun b ob q _ _ _=>⟨ob.slots,k b ob q⟩,fun _ _ _ n _=>n,fun b ob q _=>⟨ob,k b ob q⟩,fun _ _ q=>q,fun _ _ _ q=>q,fun _ ps q=>⟨#[],by rw[q];simp⟩⟩
theorem Un.refl:Un fs ex H H h h:=Un.kept fun _ _ q=>q
theorem Un.laid(k:∀b u,h.get? b=some u->h'.get? b=some u)(hp:h.objs.size≤a)(hn:H a=none):Un fs ex H (upd H a o) h h' where
 keep:=fun b u q _ _ _=>k b u q
 slot:=fun b u q _ _ _=>⟨u.slots,k b u q⟩
 free:=fun b u q n _=>by rw[z0e (cC (cO (bL q) hp))];exact n
 there:=fun b u q _=>⟨u,k b u q⟩
 P8:=fun b xs q=>by rw[z0e (z0o q hn)];exact q
 O1:=fun b u xs q=>by rw[z0e (z0o q hn)];exact q
 P7:=fun b ps q=>⟨#[],by rw[z0e (z0o q hn),q];simp⟩
theorem Un.write(mu:Mut (H x))(he:e=x\/H e=some (.own x))(k:∀b u,b≠e->h.get? b=some u->h'.get? b=some u)(heo:∃u,h'.get? e=some u):Un fs ex H (upd H x o) h h':=by
 have hx:∀b,H b=none->b≠x:=fun b n z=>by subst z;rw[n] at mu;exact mu
 have hb:∀b,H b=none->b≠e:=fun b n z=>by
  subst z
  rcases he with r|r
  ·exact hx b n r
  ·rw[n] at r;cases r
 have hm:∀b u,H b=some u->¬Mut (some u)->b≠x:=fun b u q nm z=>by subst z;rw[q] at mu;exact nm mu
 refine⟨fun b u q n _ _=>k b u (hb b n) q,fun b u q n _ _=>⟨u.slots,k b u (hb b n) q⟩,fun b u q n _=>by rw[z0e (hx b n)];exact n,fun b u q _=>?_,
  fun b xs q=>by rw[z0e (hm b _ q fun z=>z)];exact q,fun b u xs q=>by rw[z0e (hm b _ q fun z=>z)];exact q,fun b ps q=>⟨#[],by rw[z0e (hm b _ q fun z=>z),q];simp⟩⟩
 by_cases hbe:b=e
 ·subst hbe;exact heo
 ·exact⟨u,k b u hbe q⟩
end
noncomputable def trk(h:Heap)(H:Hp):List Addr:=(List.range h.objs.size).filter fun a=>(H a).isSome
noncomputable def V1(h:Heap)(H:Hp):Heap:=PySem.W.hideAll h (trk h H)
theorem y3R(h:Heap)(H:Hp):(V1 h H).objs.size=h.objs.size:=PySem.W.hideAll_size _ _
theorem y5m{h:Heap}{H:Hp}{b:Addr}{o:Obj}(e:h.get? b=some o)(n:H b=none):(V1 h H).get? b=some o:=
 hW _ e fun hm=>by
  have q:(H b).isSome=true:=(cK.mp hm).2
  rw[n] at q;simp at q
theorem y6W{h:Heap}{H:Hp}{b:Addr}{o:Obj}(e:(V1 h H).get? b=some o):h.get? b=some o/\H b=none:=by
 have e':h.get? b=some o:=j7 (trk h H) e
 refine⟨e',?_⟩
 cases q:H b with
 | none=>rfl
 | some x=>
  have hm:b∈trk h H:=cK.mpr ⟨gF.mpr (bL e'),by simp[q]⟩
  have z:(V1 h H).get? b=none:=PySem.W.hideAll_none (trk h H) hm
  rw[z] at e;cases e
noncomputable def y6G(g h:Heap)(L:Addr):List (Addr×Obj):=(List.range h.objs.size).filterMap fun a=>if a=L\/(g.get? a).isSome=true then none else (h.get? a).map fun o=>(a,o)
noncomputable def rest(g h:Heap)(L d:Addr):List (Addr×Obj):=(y6G g h L).filter fun p=>decide (p.1≠d)
structure Mod(K:PySem.W.Frag)(mg:Str->Option Value)(base:Heap):Prop where
 kin:K.In base
 glob:base.Ns mainGlobals mg
 blt:∃mb,base.Ns builtinsNs mb/\∀x:Str,x≠"__name__"->mb x=bootBuiltins x
 nolimit:base.NoLimit
structure Cx where
 prog:Program
 w:World
 K:PySem.W.Frag
 mg:Str->Option Value
 base:Heap
 A:Around
 N:List Str
 s₀:Shared
 H₀:Hp
 env:Env
 outer:List Env
 stack:List Env
 ex:List Addr
 fn:Str->Bool
 calm:Bool
 pn:List (Addr×Obj)
 xe:Value->Shared->Prop
def frs(l:List Env):List Addr:=l.filterMap (·.frame)
abbrev Cx.fs(X:Cx):List Addr:=frs X.outer
noncomputable def Vis(sc:Scope)(x:Str):Prop:=sc.names.lookup x=some .local\/sc.names.lookup x=some .cell\/sc.names.lookup x=some .free
noncomputable def Loc(sc:Scope)(x:Str):Prop:=sc.names.lookup x=some .local\/sc.names.lookup x=some .cell
noncomputable def Look(env:Env)(h:Heap)(m:Str->Option Value)(x:Str)(u:Value):Prop:=
 (env.kindOf x=some .local/\m x=some u)\/((env.kindOf x=some .cell\/env.kindOf x=some .free)/\∃c,env.cells.lookup x=some c/\h.IsCell c (some u))
structure Cx.Ok(X:Cx):Prop where
 mod:Mod X.K X.mg X.base
 kind:X.env.scope.kind=.function
 glob:X.env.globals=mainGlobals
 blt:X.env.builtins=builtinsNs
 above:X.s₀.heap.objs.size≤X.env.locals
 inj:∀x y c,X.env.cells.lookup x=some c->X.env.cells.lookup y=some c->x=y
 has:∀x,(X.env.kindOf x=some .cell\/X.env.kindOf x=some .free)->∃c,X.env.cells.lookup x=some c
 cab:∀x c,X.fn x=true->X.env.cells.lookup x=some c->X.s₀.heap.objs.size≤c
 hd:X.calm=true->X.A.handled=none
 frames:X.A.frames=some X.stack
 stk:X.stack=X.outer\/(X.stack=X.env::X.outer/\X.env.frame=some X.env.locals)
 exf:∀b∈X.ex,b≠X.env.locals/\∀x c,X.env.cells.lookup x=some c->c≠b
 bs:∀b o,X.base.get? b=some o->X.s₀.heap.get? b=some o/\X.H₀ b=none
 bsz:X.base.objs.size≤X.s₀.heap.objs.size
 noex:∀b o,X.base.get? b=some o->b∉X.ex
 exfs:∀b∈X.ex,b∉X.fs
 R4:X.s₀.heap.FunFrames X.base X.outer
 frf:∀b∈X.fs,X.H₀ b=none
structure Inv(X:Cx)(pins:List (Addr×Obj))(σ:List (Option V))(H:Hp)(s:Shared):Prop where
 ok:X.Ok
 os:s.os=X.s₀.os
 bare:AllBare s.gens
 base:Un X.fs X.ex X.H₀ H X.s₀.heap s.heap
 loc:∃m,s.heap.Ns X.env.locals m/\∀(i:Nat) (x:Str) (v:V),X.N[i]? = some x->σ[i]? = some (some v)->Vis X.env.scope x->∃u,RelV v u/\Look X.env s.heap m x u
 cell:∀x c,X.env.cells.lookup x=some c->∃v,s.heap.IsCell c v
 free:H X.env.locals=none
 freeC:∀x c,X.env.cells.lookup x=some c->H c=none
 pin:∀p∈X.pn++pins,s.heap.get? p.1=some p.2/\H p.1=none/\p.1≠X.env.locals/\p.1∉X.fs/\∀v,p.2.data≠.cell v
 hok:HOk X.prog X.w H s.heap
 len:σ.length=X.N.length
section
variable{X:Cx}{pins:List (Addr×Obj)}{σ:List (Option V)}{H H':Hp}{s:Shared}{h':Heap}
theorem Cx.Ok.nofr(ok:X.Ok){b:Addr}{o:Obj}(e:X.base.get? b=some o):b∉X.fs:=fun hb=>by
 have:=(ok.R4.mem hb).1
 rw[e] at this;cases this
theorem Inv.bs(I:Inv X pins σ H s):∀b o,X.base.get? b=some o->s.heap.get? b=some o/\H b=none:=fun b o e=>
 ⟨I.base.keep b o (I.ok.bs b o e).1 (I.ok.bs b o e).2 (I.ok.nofr e) (I.ok.noex b o e),I.base.free b o (I.ok.bs b o e).1 (I.ok.bs b o e).2 (I.ok.noex b o e)⟩
theorem Inv.bk(I:Inv X pins σ H s):∀b o,X.base.get? b=some o->s.heap.get? b=some o:=fun b o e=>(I.bs b o e).1
theorem Inv.mod(I:Inv X pins σ H s):Mod X.K X.mg X.base:=I.ok.mod
theorem Inv.kIn(I:Inv X pins σ H s):X.K.In s.heap:=I.ok.mod.kin.keeps I.bk
theorem Inv.fr(I:Inv X pins σ H s):∃m,Fr X.base X.env.locals s.heap m:=
 let ⟨m,hn,_⟩:=I.loc
 ⟨m,hn,I.bk,cL I.ok.bsz I.ok.above⟩
theorem Inv.lt(I:Inv X pins σ H s):X.env.locals<s.heap.objs.size:=let ⟨_,hn,_⟩:=I.loc;hn.lt
theorem Inv.sz(I:Inv X pins σ H s):X.s₀.heap.objs.size≤s.heap.objs.size:=cL I.ok.above (fK I.lt)
theorem Inv.nofs(I:Inv X pins σ H s){a:Addr}(h:s.heap.objs.size≤a):a∉X.fs:=fun hb=>by
 obtain⟨_,o,ho,_⟩:=I.ok.R4.mem hb
 exact absurd (cO (bL ho) (cL I.sz h)) (cY _)
theorem Inv.cne(I:Inv X pins σ H s):∀x c,X.env.cells.lookup x=some c->c≠X.env.locals:=fun x c e z=>by
 obtain⟨v,o,ho,hd⟩:=I.cell x c e
 obtain⟨m,⟨o',es,ep,ho',hd',_⟩,_⟩:=I.loc
 rw[z,ho'] at ho;cases ho;rw[hd'] at hd;cases hd
theorem Inv.R4(I:Inv X pins σ H s):s.heap.FunFrames X.base X.outer:=by
 have all:∀(l:List Env),(∀b∈frs l,b∈X.fs)->X.s₀.heap.FunFrames X.base l->s.heap.FunFrames X.base l:=by
  intro l
  induction l with
  | nil=>intro _ _;trivial
  | cons env r ih=>
   intro hs hl
   obtain⟨hk,⟨L,o,hf,hn,ho,hd⟩,hr⟩:=hl
   have hL:L∈X.fs:=hs L (by unfold frs;rw[dS,hf];exact cB)
   obtain⟨sl,e⟩:=I.base.slot L o ho (I.ok.frf L hL) hL fun z=>I.ok.exfs L z hL
   exact⟨hk,⟨L,_,hf,hn,e,hd⟩,ih (fun b hb=>hs b (by unfold frs;rw[dS,hf];exact bP _ hb)) hr⟩
 exact all X.outer (fun _ hb=>hb) I.ok.R4
theorem Inv.stack(I:Inv X pins σ H s):s.heap.FunFrames X.base X.stack:=by
 rcases I.ok.stk with e|⟨e,hf⟩
 ·rw[e];exact I.R4
 ·rw[e]
  obtain⟨m,hn,_⟩:=I.loc
  refine .cons (by rw[I.ok.kind];decide) hf hn ?_ I.R4
  exact Heap.get?_none_of_le (cL I.ok.bsz I.ok.above)
theorem Inv.P4(I:Inv X pins σ H s):∀b∈frs X.stack,b∈X.env.locals::X.fs:=fun b hb=>by
 rcases I.ok.stk with e|⟨e,hf⟩
 ·rw[e] at hb;exact bP _ hb
 ·rw[e] at hb
  unfold frs at hb
  rw[dS,hf] at hb
  exact hb
theorem Inv.L9(I:Inv X pins σ H s):∀b∈frs X.stack,H b=none:=fun b hb=>by
 rcases bD.mp (I.P4 b hb) with e|hb
 ·rw[e];exact I.free
 ·obtain⟨_,o,ho,_⟩:=I.ok.R4.mem hb
  exact I.base.free b o ho (I.ok.frf b hb) fun z=>I.ok.exfs b z hb
theorem Inv.step{g':Array GenState}{t':Nat}{d':Drawn}{ch:List Addr}(I:Inv X pins σ H s)
  (hch:∀b∈ch,(b∈X.ex\/X.s₀.heap.objs.size≤b)/\b≠X.env.locals/\(∀x c,X.env.cells.lookup x=some c->c≠b)/\∀p∈X.pn++pins,p.1≠b)
  (keep:∀b o,b≠X.env.locals->b∉X.fs->b∉ch->s.heap.get? b=some o->H b=none->h'.get? b=some o)
  (slot:∀b o,b≠X.env.locals->b∈X.fs->b∉ch->s.heap.get? b=some o->H b=none->∃sl,h'.get? b=some { o with slots:=sl }) (free:∀b o,b∉ch->s.heap.get? b=some o->H b=none->H' b=none)
  (there:∀b o,b∉ch->s.heap.get? b=some o->∃o',h'.get? b=some o')
  (P8:∀b xs,H b=some (.tup xs)->H' b=some (.tup xs)) (O1:∀b o u,H b=some (.frz o u)->H' b=some (.frz o u)) (P7:∀b ps,H b=some (.tbl ps)->∃more,H' b=some (.tbl (ps++more)))
  (ns:∀m,s.heap.Ns X.env.locals m->h'.Ns X.env.locals m) (hok:HOk X.prog X.w H' h') (hg:AllBare g') :
  Inv X pins σ H' { s with heap:=h',gens:=g',drawn:=d',toks:=t' }:=by
 have neL:∀b o,X.s₀.heap.get? b=some o->b≠X.env.locals:=fun b o e=>cC (cO (bL e) I.ok.above)
 have neC:∀b o,X.s₀.heap.get? b=some o->b∉X.ex->b∉ch:=fun b o e hx hb=>by
  rcases(hch b hb).1 with z|z
  ·exact hx z
  ·exact absurd (cO (bL e) z) (cY _)
 have cellK:∀x c,X.env.cells.lookup x=some c->∀v,s.heap.IsCell c v->h'.IsCell c v:=fun x c e v ⟨o,ho,hd⟩=>by
  have nch:c∉ch:=fun z=>(hch c z).2.2.1 x c e rfl
  by_cases hc:c∈X.fs
  ·obtain⟨sl,q⟩:=slot c o (I.cne x c e) hc nch ho (I.freeC x c e)
   exact⟨_,q,hd⟩
  ·exact⟨o,keep c o (I.cne x c e) hc nch ho (I.freeC x c e),hd⟩
 refine⟨I.ok,I.os,hg,⟨fun b o e n hb hx=>?_,fun b o e n hb hx=>?_,fun b o e n hx=>?_,fun b o e hx=>?_,fun b xs e=>P8 b xs (I.base.P8 b xs e),fun b o xs e=>O1 b o xs (I.base.O1 b o xs e),fun b ps e=>?_⟩,?_,fun x c e=>?_,?_,fun x c e=>?_,fun p hp=>?_,hok,I.len⟩
 ·exact keep b o (neL b o e) hb (neC b o e hx) (I.base.keep b o e n hb hx) (I.base.free b o e n hx)
 ·obtain⟨sl,e1⟩:=I.base.slot b o e n hb hx
  obtain⟨sl',e2⟩:=slot b _ (neL b o e) hb (neC b o e hx) e1 (I.base.free b o e n hx)
  exact⟨sl',e2⟩
 ·obtain⟨o',e1⟩:=I.base.there b o e hx
  exact free b o' (neC b o e hx) e1 (I.base.free b o e n hx)
 ·obtain⟨o',e1⟩:=I.base.there b o e hx
  exact there b o' (neC b o e hx) e1
 ·obtain⟨m1,e1⟩:=I.base.P7 b ps e
  obtain⟨m2,e2⟩:=P7 b _ e1
  exact⟨m1++m2,by rw[e2,Array.append_assoc]⟩
 ·obtain⟨m,hn,hl⟩:=I.loc
  refine⟨m,ns m hn,fun i x v e1 e2 e3=>?_⟩
  obtain⟨u,r,l⟩:=hl i x v e1 e2 e3
  refine⟨u,r,?_⟩
  rcases l with l|⟨k,c,e,z⟩
  ·exact .inl l
  ·exact .inr ⟨k,c,e,cellK x c e _ z⟩
 ·obtain⟨v,z⟩:=I.cell x c e
  exact⟨v,cellK x c e v z⟩
 ·obtain⟨m,⟨o,_,_,ho,_⟩,_⟩:=I.loc
  exact free _ o (fun z=>(hch _ z).2.1 rfl) ho I.free
 ·obtain⟨v,o,ho,hd⟩:=I.cell x c e
  exact free c o (fun z=>(hch c z).2.2.1 x c e rfl) ho (I.freeC x c e)
 ·obtain⟨e,n,ne,nf,d⟩:=I.pin p hp
  have nch:p.1∉ch:=fun z=>(hch p.1 z).2.2.2 p hp rfl
  exact⟨keep p.1 p.2 ne nf nch e n,free p.1 p.2 nch e n,ne,nf,d⟩
theorem Inv.un{t':Nat}(I:Inv X pins σ H s)(u:Un X.fs [] H H' s.heap h')(hok:HOk X.prog X.w H' h'):Inv X pins σ H' { s with heap:=h',toks:=t' }:=by
 obtain⟨m,⟨o,es,ep,ho,r⟩,_⟩:=id I.loc
 obtain⟨sl,hL⟩:=u.any ho I.free (by simp)
 exact I.step (g':=s.gens) (d':=s.drawn) (ch:=[]) (fun _ z=>nomatch z) (fun b o _ hb _ e n=>u.keep b o e n hb (by simp)) (fun b o _ hb _ e n=>u.slot b o e n hb (by simp)) (fun b o _ e n=>u.free b o e n (by simp)) (fun b o _ e=>u.there b o e (by simp)) u.P8 u.O1 u.P7 (fun m' hm=>by
  obtain⟨o',es',ep',ho',r'⟩:=hm
  rw[ho] at ho';cases ho'
  exact⟨_,es',ep',hL,r'⟩) hok I.bare
theorem Inv.call{g':Array GenState}{t':Nat}{d':Drawn}{ch:List Addr}(I:Inv X pins σ H s)(u:Un (frs X.stack) ch H H' s.heap h')(hok:HOk X.prog X.w H' h')(hg:AllBare g')
  (hch:∀b∈ch,(b∈X.ex\/X.s₀.heap.objs.size≤b)/\b≠X.env.locals/\(∀x c,X.env.cells.lookup x=some c->c≠b)/\∀p∈X.pn++pins,p.1≠b) :
  Inv X pins σ H' { s with heap:=h',gens:=g',drawn:=d',toks:=t' }:=by
 obtain⟨m,⟨o,es,ep,ho,r⟩,_⟩:=id I.loc
 obtain⟨sl,hL⟩:=u.any ho I.free fun z=>(hch _ z).2.1 rfl
 exact I.step (ch:=ch) hch (fun b o hL hb hc e n=>u.keep b o e n (fun z=>(bD.mp (I.P4 b z)).elim hL hb) hc) (fun b o _ _ hc e n=>u.any e n hc) (fun b o hc e n=>u.free b o e n hc) (fun b o hc e=>u.there b o e hc) u.P8 u.O1 u.P7 (fun m' hm=>by
  obtain⟨o',es',ep',ho',r'⟩:=hm
  rw[ho] at ho';cases ho'
  exact⟨_,es',ep',hL,r'⟩) hok hg
theorem Inv.turned{t':Nat}{it:Addr}(I:Inv X pins σ H s)(k:∀b o,b≠it->s.heap.get? b=some o->h'.get? b=some o)(hn:H it=none)(hL:it≠X.env.locals)
  (h1:it∈X.ex\/X.s₀.heap.objs.size≤it) (h2:∀x c,X.env.cells.lookup x=some c->c≠it) (h3:∀p∈X.pn++pins,p.1≠it):Inv X pins σ H { s with heap:=h',toks:=t' }:=by
 have nit:∀b u,H b=some u->b≠it:=fun b u e z=>by rw[z,hn] at e;cases e
 refine I.step (g':=s.gens) (d':=s.drawn) (ch:=[it]) (fun b hb=>?_) (fun b o _ _ hc e _=>k b o (fun z=>hc (by simp[z])) e) (fun b o _ _ hc e _=>⟨o.slots,k b o (fun z=>hc (by simp[z])) e⟩) (fun _ _ _ _ n=>n)
  (fun b o hc e=>⟨o,k b o (fun z=>hc (by simp[z])) e⟩) (fun _ _ e=>e) (fun _ _ _ e=>e) (fun b ps e=>⟨#[],by rw[e];simp⟩) (fun m hm=>?_) (fun b u e=>?_) I.bare
 ·have e:b=it:=by simpa using hb
  subst e
  exact⟨h1,hL,h2,h3⟩
 ·obtain⟨o,es,ep,ho,r⟩:=hm
  exact⟨o,es,ep,k _ o (cS hL) ho,r⟩
 ·refine(I.hok b u e).V3 (fun c v hc q=>k c v ?_ q) (fun _ q=>q) fun _ _ q=>q
  rcases hc with z|z
  ·rw[z];exact nit b u e
  ·exact nit c _ z
theorem Inv.tok(I:Inv X pins σ H s)(t:Nat):Inv X pins σ H { s with toks:=t }:=I.un (h':=s.heap) (t':=t) Un.refl I.hok
theorem Inv.kept{t':Nat}(I:Inv X pins σ H s)(k:∀b u,s.heap.get? b=some u->h'.get? b=some u):Inv X pins σ H { s with heap:=h',toks:=t' }:=I.un (Un.kept k) (I.hok.kept k)
theorem Inv.laid{a:Addr}{o:HO}{t':Nat}(I:Inv X pins σ H s)(k:∀b u,s.heap.get? b=some u->h'.get? b=some u)(hp:s.heap.objs.size≤a)(new:z1t X.prog X.w (upd H a o) h' a o) :
  Inv X pins σ (upd H a o) { s with heap:=h',toks:=t' }:=I.un (Un.laid k hp (I.hok.fresh hp)) (I.hok.laid k hp new)
theorem Inv.write{x e:Addr}{o:HO}{t':Nat}(I:Inv X pins σ H s)(mu:Mut (H x))(he:e=x\/H e=some (.own x))(k:∀b u,b≠e->s.heap.get? b=some u->h'.get? b=some u)(heo:∃u,h'.get? e=some u)
  (new:z1t X.prog X.w (upd H x o) h' x o):Inv X pins σ (upd H x o) { s with heap:=h',toks:=t' }:=I.un (Un.write mu he k heo) (I.hok.write mu he k heo new)
theorem Inv.weak{σ':List (Option V)}(I:Inv X pins σ H s)(hl:σ'.length=σ.length)(w:∀(i:Nat) v,σ'[i]? = some (some v)->σ[i]? = some (some v)):Inv X pins σ' H s:=
 ⟨I.ok,I.os,I.bare,I.base,let ⟨m,hn,hl'⟩:=I.loc;⟨m,hn,fun i x v e1 e2 e3=>hl' i x v e1 (w i v e2) e3⟩,I.cell,I.free,I.freeC,I.pin,I.hok,hl.trans I.len⟩
theorem Inv.M0{pins':List (Addr×Obj)}(I:Inv X pins σ H s)(h:∀p∈pins',s.heap.get? p.1=some p.2/\H p.1=none/\p.1≠X.env.locals/\p.1∉X.fs/\∀v,p.2.data≠.cell v):Inv X pins' σ H s:=
 ⟨I.ok,I.os,I.bare,I.base,I.loc,I.cell,I.free,I.freeC,fun p hp=>(bS.mp hp).elim (fun z=>I.pin p (d6 _ z)) (h p),I.hok,I.len⟩
theorem z9r{N:List Str}(hN:N.Nodup){i j:Nat}{x:Str}(a:N[i]? = some x)(b:N[j]? = some x):i=j:=by
 obtain⟨h1,e1⟩:=cJ.mp a
 obtain⟨h2,e2⟩:=cJ.mp b
 exact(List.getElem_inj hN).mp (e1.trans e2.symm)
theorem y44{M:Model}{A:Around}{E:Value->Shared->Prop}{i:Nat}{x:Str}{v:V}{u:Value}{Q:Unit->Shared->Prop}(I:Inv X pins σ H s)(hN:X.N.Nodup)(hi:X.N[i]? = some x)(hx:Loc X.env.scope x)(r:RelV v u)
  (h:∀s',Inv X pins (σ.set i (some v)) H s'->(∃a,Heap.SameBut a s.heap s'.heap/\(a=X.env.locals\/X.env.cells.lookup x=some a))->Q () s') (hf:X.fn x=true\/X.env.scope.names.lookup x=some .local:=by first|exact .inl rfl|exact .inr rfl|assumption):wpAny M A (storeName X.env x u) Q E s:=by
 obtain⟨m,hn,hl⟩:=id I.loc
 have S6:(X.env.scope.kind == .class || (X.env.scope.kind == .module && X.env.locals != X.env.globals))=false:=by rw[I.ok.kind];rfl
 have hiσ:i<σ.length:=by rw[I.len];exact(cJ.mp hi).1
 have cne:=I.cne
 have tracked:∀{a:Addr}{h':Heap},(∃o,s.heap.get? a=some o/\H a=none)->Heap.SameBut a s.heap h'->HOk X.prog X.w H h':=fun {a h'} ha hs b ob e=>by
  obtain⟨_,_,hfree⟩:=ha
  refine(I.hok b ob e).V3 (fun c w' hc q=>(hs.2 c ?_).trans q) (fun _ q=>q) fun _ _ q=>q
  rintro rfl
  rcases hc with rfl|hc
  ·rw[hfree] at e;cases e
  ·rw[hfree] at hc;cases hc
 rcases hx with hk|hk
 ·refine wpAny_storeName_local hk hn (fun h' hn' hs=>?_) S6
  obtain⟨oL,_,_,hoL,_⟩:=id hn
  refine h _ ⟨I.ok,I.os,I.bare,⟨fun b o e n hb hx=>?_,fun b o e n hb hx=>?_,I.base.free,fun b o e hx=>?_,I.base.P8,I.base.O1,I.base.P7⟩,⟨_,hn',fun j y v' e1 e2 e3=>?_⟩,fun y c e=>?_,I.free,I.freeC,fun p hp=>?_,tracked ⟨oL,hoL,I.free⟩ hs,by simpa using I.len⟩ ⟨_,hs,.inl rfl⟩
  ·exact(hs.2 b (cC (cO (bL e) I.ok.above))).trans (I.base.keep b o e n hb hx)
  ·obtain⟨sl,e1⟩:=I.base.slot b o e n hb hx
   exact⟨sl,(hs.2 b (cC (cO (bL e) I.ok.above))).trans e1⟩
  ·obtain⟨o',e1⟩:=I.base.there b o e hx
   exact⟨o',(hs.2 b (cC (cO (bL e) I.ok.above))).trans e1⟩
  ·by_cases hj:j=i
   ·subst hj
    rw[hi] at e1;cases e1
    rw[gO hiσ] at e2
    cases e2
    exact⟨u,r,.inl ⟨hk,by simp⟩⟩
   ·rw[fP (cS hj)] at e2
    obtain⟨u',r',q⟩:=hl j y v' e1 e2 e3
    refine⟨u',r',?_⟩
    rcases q with ⟨k,e⟩|⟨k,c,e,z⟩
    ·refine .inl ⟨k,?_⟩
     have:y≠x:=fun e=>hj (z9r hN e1 (e ▸ hi))
     simp[this,e]
    ·exact .inr ⟨k,c,e,z.sameBut hs (cne y c e)⟩
  ·obtain⟨w',z⟩:=I.cell y c e
   exact⟨w',z.sameBut hs (cne y c e)⟩
  ·obtain⟨e,n,ne,nf,d⟩:=I.pin p hp
   exact⟨(hs.2 p.1 ne).trans e,n,ne,nf,d⟩
 ·have hfn:X.fn x=true:=by
   rcases hf with z|z
   ·exact z
   ·rw[z] at hk;cases hk
  obtain⟨c,hc⟩:=I.ok.has x (.inl hk)
  obtain⟨w',z⟩:=I.cell x c hc
  refine wpAny_storeName_cell I.ok.kind hk hc z (fun h' hc' hs=>?_)
  obtain⟨oc,hoc,hocd⟩:=id z
  refine h { s with heap:=h' } ⟨I.ok,I.os,I.bare,⟨fun b o e n hb hx=>?_,fun b o e n hb hx=>?_,I.base.free,fun b o e hx=>?_,I.base.P8,I.base.O1,I.base.P7⟩,⟨m,hn.sameBut hs (cS (cne x c hc)),fun j y v' e1 e2 e3=>?_⟩,fun y c' e=>?_,I.free,I.freeC,fun p hp=>?_,tracked ⟨oc,hoc,I.freeC x c hc⟩ hs,by simpa using I.len⟩ ⟨c,hs,.inr hc⟩
  ·exact(hs.2 b (cC (cO (bL e) (I.ok.cab x c hfn hc)))).trans (I.base.keep b o e n hb hx)
  ·obtain⟨sl,e1⟩:=I.base.slot b o e n hb hx
   exact⟨sl,(hs.2 b (cC (cO (bL e) (I.ok.cab x c hfn hc)))).trans e1⟩
  ·obtain⟨o',e1⟩:=I.base.there b o e hx
   exact⟨o',(hs.2 b (cC (cO (bL e) (I.ok.cab x c hfn hc)))).trans e1⟩
  ·by_cases hj:j=i
   ·subst hj
    rw[hi] at e1;cases e1
    rw[gO hiσ] at e2
    cases e2
    exact⟨u,r,.inr ⟨.inl hk,c,hc,hc'⟩⟩
   ·rw[fP (cS hj)] at e2
    obtain⟨u',r',q⟩:=hl j y v' e1 e2 e3
    refine⟨u',r',?_⟩
    rcases q with q|⟨k,c',e,z'⟩
    ·exact .inl q
    ·refine .inr ⟨k,c',e,z'.sameBut hs ?_⟩
     rintro rfl
     exact hj (z9r hN e1 (I.ok.inj _ _ _ e hc ▸ hi))
  ·by_cases hcc:c'=c
   ·subst hcc;exact⟨_,hc'⟩
   ·obtain⟨w2,z2⟩:=I.cell y c' e
    exact⟨w2,z2.sameBut hs hcc⟩
  ·obtain⟨e,n,ne,nf,d⟩:=I.pin p hp
   refine⟨(hs.2 p.1 ?_).trans e,n,ne,nf,d⟩
   intro q
   rw[q,hoc] at e
   have q':oc=p.2:=Option.some.inj e
   exact d w' (by rw[<- q'];exact hocd)
theorem z9K{M:Model}{A:Around}{E:Value->Shared->Prop}{i:Nat}{x:Str}{v:V}{u:Value}{Q:Unit->Shared->Prop}(I:Inv X pins σ H s)(hN:X.N.Nodup)(hi:X.N[i]? = some x)(hx:Loc X.env.scope x)(r:RelV v u)
  (h:∀s',Inv X pins (σ.set i (some v)) H s'->Q () s') (hf:X.fn x=true\/X.env.scope.names.lookup x=some .local:=by first|exact .inl rfl|exact .inr rfl|assumption):wpAny M A (storeName X.env x u) Q E s:=
 y44 I hN hi hx r (fun s' I' _=>h s' I') hf
theorem Inv.W4{s':Shared}{ch:List Addr}(I:Inv X pins σ H s)(ho:s'.os=s.os)(u:Un (frs X.stack) ch H H' s.heap s'.heap)(hok:HOk X.prog X.w H' s'.heap)(hg:AllBare s'.gens)
  (hch:∀b∈ch,(b∈X.ex\/X.s₀.heap.objs.size≤b)/\b≠X.env.locals/\(∀x c,X.env.cells.lookup x=some c->c≠b)/\∀p∈X.pn++pins,p.1≠b):Inv X pins σ H' s':=by
 obtain⟨h',g',d',t',o'⟩:=s'
 have e:o'=s.os:=ho
 subst e
 exact I.call (g':=g') (t':=t') (d':=d') u hok hg hch
end
abbrev XK:=Value->Option Addr->Hp->Prop
abbrev St:=List (Option V)
abbrev VK:=V->Hp->Prop
abbrev TE:=St->Hp->VK->Prop
abbrev TT:=St->Hp->(Bool->Hp->Prop)->Prop
abbrev TA:=St->Hp->(List V->Hp->Prop)->Prop
structure Ends where
 nx:St->Hp->Prop
 rt:VK
 bk:St->Hp->Prop:=fun _ _=>False
 ct:St->Hp->Prop:=fun _ _=>False
abbrev TS:=Ends->St->Hp->Prop
noncomputable def EP(X:Cx)(pins:List (Addr×Obj))(σ:St)(Q:VK)(u:Value)(s':Shared):Prop:=∃v H',Inv X pins σ H' s'/\RelV v u/\Q v H'
noncomputable def TP(X:Cx)(pins:List (Addr×Obj))(σ:St)(Q:Bool->Hp->Prop)(b:Bool)(s':Shared):Prop:=∃H',Inv X pins σ H' s'/\Q b H'
noncomputable def AP(X:Cx)(pins:List (Addr×Obj))(σ:St)(Q:List V->Hp->Prop)(us:List Value)(s':Shared):Prop:=∃vs H',Inv X pins σ H' s'/\Vals vs us/\Q vs H'
noncomputable def SP(X:Cx)(pins:List (Addr×Obj))(D:Ends)(f:Flow)(s':Shared):Prop:=
 match f with
 | .next=>∃σ' H',Inv X pins σ' H' s'/\D.nx σ' H'
 | .brk=>∃σ' H',Inv X pins σ' H' s'/\D.bk σ' H'
 | .cont=>∃σ' H',Inv X pins σ' H' s'/\D.ct σ' H'
 | .ret u=>∃v σ' H',Inv X pins σ' H' s'/\RelV v u/\D.rt v H'
noncomputable def PE(X:Cx)(e:Expr)(t:TE):Prop:=
 ∀(pins:List (Addr×Obj)) (s:Shared) (σ:St) (H:Hp) (Q:VK),Inv X pins σ H s->t σ H Q->wpAny (model X.prog X.w) X.A (eval e X.env) (EP X pins σ Q) X.xe s
noncomputable def PT(X:Cx)(e:Expr)(t:TT):Prop:=
 ∀(pins:List (Addr×Obj)) (s:Shared) (σ:St) (H:Hp) (Q:Bool->Hp->Prop),Inv X pins σ H s->t σ H Q->wpAny (model X.prog X.w) X.A (isTrue e X.env (eval e X.env)) (TP X pins σ Q) X.xe s
noncomputable def PW(X:Cx)(e:Expr)(t:TT):Prop:=
 ∀(whole:Sem Value) (pins:List (Addr×Obj)) (s:Shared) (σ:St) (H:Hp) (Q:Bool->Hp->Prop),Inv X pins σ H s->t σ H Q->wpAny (model X.prog X.w) X.A (isTrue e X.env whole) (TP X pins σ Q) X.xe s
theorem PW.pt{X:Cx}{e:Expr}{t:TT}(h:PW X e t):PT X e t:=h _
noncomputable def PA(X:Cx)(es:List Expr)(t:TA):Prop:=
 ∀(pos:Pos) (pins:List (Addr×Obj)) (s:Shared) (σ:St) (H:Hp) (Q:List V->Hp->Prop),Inv X pins σ H s->t σ H Q->wpAny (model X.prog X.w) X.A (spliced (backTo pos (starEach es X.env))) (AP X pins σ Q) X.xe s
noncomputable def PS(X:Cx)(st:Stmt)(t:TS):Prop:=
 ∀(pins:List (Addr×Obj)) (s:Shared) (σ:St) (H:Hp) (D:Ends),Inv X pins σ H s->t D σ H->wpAny (model X.prog X.w) X.A (exec st X.env) (SP X pins D) X.xe s
noncomputable def PSs(X:Cx)(st:List Stmt)(t:TS):Prop:=
 ∀(pins:List (Addr×Obj)) (s:Shared) (σ:St) (H:Hp) (D:Ends),Inv X pins σ H s->t D σ H->wpAny (model X.prog X.w) X.A (execs st X.env) (SP X pins D) X.xe s
theorem thn{α:Type}{t:Sem α}{Q Q':α->Shared->Prop}{M:Model}{A:Around}{E:Value->Shared->Prop}{s:Shared}(h:wpAny M A t Q E s)(hQ:∀a s,Q a s->Q' a s):wpAny M A t Q' E s:=wpAny_mono h hQ fun _ _ x=>x
section
variable{X:Cx}
noncomputable def Y4(i:Nat):TE:=fun σ H Q=>∃v,σ[i]? = some (some v)/\Q v H
noncomputable def tC(v:V):TE:=fun _ H Q=>Q v H
theorem y7H{i:Nat}{x:Str}{pos:Pos}(hN:X.N[i]? = some x)(hv:Vis X.env.scope x)(hd:(x == ("__debug__":Str))=false:=by decide)(hcd:(x == ("__classdict__":Str))=false:=by decide):PE X (.Name x pos) (Y4 i):=by
 intro pins s σ H Q I h
 obtain⟨v,e,h⟩:=h
 obtain⟨m,hn,hl⟩:=I.loc
 obtain⟨u,r,l⟩:=hl i x v hN e hv
 have fin:EP X pins σ Q u s:=⟨v,H,I,r,h⟩
 rcases l with ⟨hk,hm⟩|⟨hk,c,hc,X4⟩
 ·exact wpAny_Name (wpAny_loadName_local I.ok.kind hk hn hm fin) hd
 ·rcases hk with hk|hk
  ·exact wpAny_Name (wpAny_loadName_cell I.ok.kind hk hc X4 fin) hd
  ·exact wpAny_Name (wpAny_loadName_free I.ok.kind hk hc X4 fin hcd) hd
theorem z06{i j pos}:PE X (.Constant (.int i) j pos) (tC (.int i)):=fun _ _ _ H _ I h=>wpAny_Constant_int ⟨.int i,H,I.tok _,⟨_,rfl⟩,h⟩
theorem z5D{b j pos}:PE X (.Constant (.bool b) j pos) (tC (.bl b)):=fun _ _ _ H _ I h=>Constant_bool ⟨.bl b,H,I,rfl,h⟩
theorem z9a{j pos}:PE X (.Constant .none j pos) (tC .non):=fun _ _ _ H _ I h=>Constant_none ⟨.non,H,I,rfl,h⟩
theorem z16{x j pos}:PE X (.Constant (.str x) j pos) (tC (.str x)):=fun _ _ _ H _ I h=>Calls.Constant_str ⟨.str x,H,I.tok _,⟨_,rfl⟩,h⟩
noncomputable def Gl(X:Cx)(x:Str):Prop:=X.env.kindOf x=some .globalImplicit
theorem z5f{E:Value->Shared->Prop}{pins:List (Addr×Obj)}{s:Shared}{σ:St}{H:Hp}{x:Str}{u:Value}{pos:Pos}{Q:Value->Shared->Prop}(I:Inv X pins σ H s)(hg:Gl X x)(hm:X.mg x=some u)(h:Q u s)
  (hd:(x == ("__debug__":Str))=false:=by decide):wpAny (model X.prog X.w) X.A (eval (.Name x pos) X.env) Q E s:=
 Calls.Name_function_global I.ok.kind hg (Calls.loadGlobal_global (by rw[I.ok.glob];exact I.mod.glob.keeps I.bk) hm h) hd
theorem z69{E:Value->Shared->Prop}{pins:List (Addr×Obj)}{s:Shared}{σ:St}{H:Hp}{x:Str}{u:Value}{pos:Pos}{Q:Value->Shared->Prop}(I:Inv X pins σ H s)(hg:Gl X x)(hm:X.mg x=none)(hv:bootBuiltins x=some u)(h:Q u s)
  (hn:x≠"__name__":=by decide) (hd:(x == ("__debug__":Str))=false:=by decide):wpAny (model X.prog X.w) X.A (eval (.Name x pos) X.env) Q E s:=by
 obtain⟨mb,h1,h2⟩:=I.mod.blt
 exact Calls.Name_function_global I.ok.kind hg (Calls.loadGlobal_builtin (by rw[I.ok.glob];exact I.mod.glob.keeps I.bk) hm (by rw[I.ok.blt];exact h1.keeps I.bk) ((h2 x hn).trans hv) h) hd
theorem y4q{x:Str}{v:V}{u:Value}{pos:Pos}(hg:Gl X x)(hm:X.mg x=some u)(r:RelV v u)(hd:(x == ("__debug__":Str))=false:=by decide):PE X (.Name x pos) (tC v):=
 fun _ _ _ H _ I h=>z5f I hg hm ⟨v,H,I,r,h⟩ hd
theorem z3V{x:Str}{v:V}{u:Value}{pos:Pos}(hg:Gl X x)(hm:X.mg x=none)(hv:bootBuiltins x=some u)(r:RelV v u)(hn:x≠"__name__":=by decide)(hd:(x == ("__debug__":Str))=false:=by decide):PE X (.Name x pos) (tC v):=
 fun _ _ _ H _ I h=>z69 I hg hm hv ⟨v,H,I,r,h⟩ hn hd
variable{a b:Expr}{ta tb:TE}{pos:Pos}
noncomputable def PC(X:Cx)(op:CmpOp)(a b:Expr)(t:TE):Prop:=
 ∀(pins:List (Addr×Obj)) (s:Shared) (σ:St) (H:Hp) (Q:VK),Inv X pins σ H s->t σ H Q->
  wpAny (model X.prog X.w) X.A (eval a X.env) (fun v s₁=>wpAny (model X.prog X.w) X.A (eval b X.env) (fun u s₂=>wpAny (model X.prog X.w) X.A (compareOp op v u) (EP X pins σ Q) X.xe s₂) X.xe s₁) X.xe s
theorem y2d(b:Expr){op:CmpOp}(h:op≠.In)(h2:op≠.NotIn):behindInMarks op b=false:=by
 have e1:(op == CmpOp.In)=false:=by cases op<;>first|rfl|exact absurd rfl h
 have e2:(op == CmpOp.NotIn)=false:=by cases op<;>first|rfl|exact absurd rfl h2
 cases b<;>simp[behindInMarks,e1,e2]
noncomputable def tIsN(ta:TE):TE:=fun σ H Q=>ta σ H fun x H1=>Q (.bl (decide (x=.non))) H1
theorem RelV.Z4{x:V}{v:Value}(r:RelV x v):(v == Value.none)=decide (x=.non):=by
 cases x with
 | non=>cases r;rfl
 | bl _=>cases r;rfl
 | int _=>obtain⟨t,rfl⟩:=r;rfl
 | str _=>obtain⟨t,rfl⟩:=r;rfl
 | byt _=>obtain⟨t,rfl⟩:=r;rfl
 | flt _=>obtain⟨t,rfl⟩:=r;rfl
 | ref _=>cases r;rfl
 | ty _=>cases r;rfl
theorem z94{j pos'}(ha:PE X a ta):PC X .Is a (.Constant .none j pos') (tIsN ta):=by
 intro pins s σ H Q I h
 refine thn (ha pins s σ H _ I h) fun v s1 hz=>?_
 obtain⟨x,H1,I1,r1,q1⟩:=hz
 exact Constant_none (is_none_gen ⟨.bl _,H1,I1,by rw[r1.Z4];rfl,q1⟩)
noncomputable def tB(t:TE):TT:=fun σ H Q=>t σ H fun x H1=>∃c,x=.bl c/\Q c H1
theorem y6b{op:CmpOp}{t:TE}(h:PC X op a b t)(h1:behindInMarks op b=false:=by first|exact y2d _ (by decide) (by decide)|rfl):PE X (.Compare a [op] [b] pos) t:=fun pins s σ H Q I hw=>wpAny_Compare1 (h pins s σ H Q I hw) h1
theorem z7d{op:CmpOp}{t:TE}(h:PC X op a b t)(h1:behindInMarks op b=false:=by first|exact y2d _ (by decide) (by decide)|rfl):PT X (.Compare a [op] [b] pos) (tB t):=by
 intro pins s σ H Q I hw
 refine wpAny_isTrue_Compare1 (thn (h pins s σ H _ I hw) fun v s1 h1=>thn h1 fun u s2 h2=>thn h2 fun c s3 hz=>?_) h1
 obtain⟨x,H1,I1,r1,q1⟩:=hz
 obtain⟨d,rfl,q⟩:=q1
 cases r1
 exact wpAny_truthy_bool ⟨H1,I1,q⟩
theorem z77{e:Expr}{t:TE}(h:PE X e t)(he:∀whole,isTrue e X.env whole=(do let v <- whole;standAt e.pos;holding [v] (truthy v)):=by intro _;rfl):PT X e (tB t):=by
 intro pins s σ H Q I hw
 refine isTrue_plain (thn (h pins s σ H _ I hw) fun v s1 hz=>?_) (he _)
 obtain⟨x,H1,I1,r1,q1⟩:=hz
 obtain⟨d,rfl,q⟩:=q1
 cases r1
 exact wpAny_truthy_bool ⟨H1,I1,q⟩
variable{tA tB':TT}{rest:List Expr}
noncomputable def tAnd(t u:TT):TT:=fun σ H Q=>t σ H fun c H1=>if c=true then u σ H1 Q else Q false H1
noncomputable def tOr(t u:TT):TT:=fun σ H Q=>t σ H fun c H1=>if c=true then Q true H1 else u σ H1 Q
noncomputable def tNot(t:TT):TT:=fun σ H Q=>t σ H fun c H1=>Q (!c) H1
theorem z40(ha:PT X a tA):PW X (.BoolOp .And [a] pos) tA:=by
 intro wh pins s σ H Q I h
 refine isTrue_and (thn (ha pins s σ H Q I h) fun c s1 e=>?_)
 cases c with
 | true=>exact isTrue_and_nil e
 | false=>exact e
theorem z2q(ha:PT X a tA):PW X (.BoolOp .Or [a] pos) tA:=by
 intro wh pins s σ H Q I h
 refine isTrue_or (thn (ha pins s σ H Q I h) fun c s1 e=>?_)
 cases c with
 | false=>exact isTrue_or_nil e
 | true=>exact e
theorem z6l(ha:PT X a tA)(hb:PW X (.BoolOp .And (b::rest) pos) tB'):PW X (.BoolOp .And (a::b::rest) pos) (tAnd tA tB'):=by
 intro wh pins s σ H Q I h
 refine isTrue_and (thn (ha pins s σ H _ I h) fun c s1 hz=>?_)
 obtain⟨H1,I1,q1⟩:=hz
 cases c with
 | true=>exact hb wh pins s1 σ H1 Q I1 q1
 | false=>exact⟨H1,I1,q1⟩
theorem z3Q(ha:PT X a tA)(hb:PW X (.BoolOp .Or (b::rest) pos) tB'):PW X (.BoolOp .Or (a::b::rest) pos) (tOr tA tB'):=by
 intro wh pins s σ H Q I h
 refine isTrue_or (thn (ha pins s σ H _ I h) fun c s1 hz=>?_)
 obtain⟨H1,I1,q1⟩:=hz
 cases c with
 | true=>exact⟨H1,I1,q1⟩
 | false=>exact hb wh pins s1 σ H1 Q I1 q1
theorem z8j(ha:PT X a tA):PT X (.UnaryOp .Not a pos) (tNot tA):=by
 intro pins s σ H Q I h
 exact isTrue_not (ha pins s σ H (fun c H1=>Q (!c) H1) I h)
noncomputable def w1E(ta tb:TE):TE:=fun σ H Q=>ta σ H fun x H1=>∃c,x=.bl c/\if c=true then tb σ H1 Q else Q (.bl false) H1
noncomputable def w1A(ta:TE):TE:=fun σ H Q=>ta σ H fun x H1=>∃c,x=.bl c/\Q (.bl (!c)) H1
theorem y3w{op}{t:TE}(h:PE X a t):PE X (.BoolOp op [a] pos) t:=fun pins s σ H Q I hw=>BoolOp_one (h pins s σ H Q I hw)
theorem y0p(ha:PE X a ta)(hb:PE X (.BoolOp .And (b::rest) pos) tb):PE X (.BoolOp .And (a::b::rest) pos) (w1E ta tb):=by
 intro pins s σ H Q I h
 refine BoolOp_and (thn (ha pins s σ H _ I h) fun v s1 hz=>?_)
 obtain⟨x,H1,I1,r1,q1⟩:=hz
 obtain⟨c,rfl,q1⟩:=q1
 cases r1
 refine wpAny_truthy_bool ?_
 cases c with
 | true=>exact hb pins s1 σ H1 Q I1 q1
 | false=>exact⟨.bl false,H1,I1,rfl,q1⟩
theorem y0l(ha:PE X a ta):PE X (.UnaryOp .Not a pos) (w1A ta):=by
 intro pins s σ H Q I h
 refine UnaryOp_ (thn (ha pins s σ H _ I h) fun v s1 hz=>?_)
 obtain⟨x,H1,I1,r1,q1⟩:=hz
 obtain⟨c,rfl,q1⟩:=q1
 cases r1
 exact not_of (wpAny_truthy_bool ⟨.bl (!c),H1,I1,rfl,q1⟩)
noncomputable def tIf(t:TT)(ta tb:TE):TE:=fun σ H Q=>t σ H fun c H1=>if c=true then ta σ H1 Q else tb σ H1 Q
theorem z43{c:Expr}(hc:PT X c tA)(ha:PE X a ta)(hb:PE X b tb):PE X (.IfExp c a b pos) (tIf tA ta tb):=by
 intro pins s σ H Q I h
 refine wpAny_IfExp (thn (hc pins s σ H _ I h) fun d s1 hz=>?_)
 obtain⟨H1,I1,q1⟩:=hz
 cases d with
 | true=>exact ha pins s1 σ H1 Q I1 q1
 | false=>exact hb pins s1 σ H1 Q I1 q1
end
noncomputable def SqL(K:PySem.W.Frag)(H:Hp)(a:Addr)(xs:List V):Prop:=
 Rd H a (.lst xs)\/
  ∃(o:Obj) (its:Array Value) (n:Nat),K.lookup a=some o/\o.cls=.type "list"/\o.dict=none/\o.data=.seq its n/\its.size≤sizeLine/\Vals xs its.toList
noncomputable def SqT(K:PySem.W.Frag)(H:Hp)(a:Addr)(xs:List V):Prop:=
 Rd H a (.tup xs)\/
  ∃(o:Obj) (its:Array Value) (n:Nat),K.lookup a=some o/\o.cls=.type "tuple"/\o.data=.seq its n/\its.size≤sizeLine/\Vals xs its.toList
noncomputable def absV:Value->Option V
 | .none=>some .non
 | .bool b=>some (.bl b)
 | .int i _=>some (.int i)
 | .str x _=>some (.str x)
 | .bytes b _=>some (.byt b)
 | .float b _=>some (.flt b)
 | .ref a=>some (.ref a)
 | .type n=>some (.ty n)
 | _=>none
theorem RelV.abs{x:V}{u:Value}(r:RelV x u):absV u=some x:=by
 cases x with
 | non=>cases r;rfl
 | bl _=>cases r;rfl
 | int _=>obtain⟨t,rfl⟩:=r;rfl
 | str _=>obtain⟨t,rfl⟩:=r;rfl
 | byt _=>obtain⟨t,rfl⟩:=r;rfl
 | flt _=>obtain⟨t,rfl⟩:=r;rfl
 | ref _=>cases r;rfl
 | ty _=>cases r;rfl
theorem RelV.inj{x y:V}{u:Value}(r:RelV x u)(q:RelV y u):x=y:=Option.some.inj (r.abs.symm.trans q.abs)
theorem Vals.inj:∀{xs ys:List V}{us:List Value},Vals xs us->Vals ys us->xs=ys
 | _,_,_,.nil,.nil=>rfl
 | _,_,_,.cons r t,.cons r' t'=>by rw[r.inj r',Vals.inj t t']
section
variable{X:Cx}{pins:List (Addr×Obj)}{σ:St}{H:Hp}{s:Shared}{a:Addr}{xs ys:List V}
theorem SqL.of{K:PySem.W.Frag}(h:H a=some (.lst xs)):SqL K H a xs:=.inl (.inl h)
theorem SqT.of{K:PySem.W.Frag}(h:H a=some (.tup xs)):SqT K H a xs:=.inl (.inl h)
theorem Inv.list(I:Inv X pins σ H s)(h:SqL X.K H a xs):∃its:List Value,Vals xs its/\PlainL s.heap a its.toArray/\xs.length≤sizeLine:=by
 rcases h with h|⟨o,its,n,hk,hc,hd,hs,hz,r⟩
 ·obtain⟨z,its,n,r,e⟩:=h.ok I.hok
  exact⟨its,r,⟨_,n,e,rfl,rfl,rfl⟩,z⟩
 ·refine⟨its.toList,r,⟨o,n,I.kIn a o hk,hc,hd,by simpa using hs⟩,?_⟩
  have e:=r.length
  simp only[eS] at e
  omega
theorem Inv.tuple(I:Inv X pins σ H s)(h:SqT X.K H a xs):∃its:List Value,Vals xs its/\IsTup s.heap a its.toArray/\xs.length≤sizeLine:=by
 rcases h with h|⟨o,its,n,hk,hc,hs,hz,r⟩
 ·obtain⟨z,its,r,p⟩:=h.ok I.hok
  exact⟨its,r,PlT.tup p,z⟩
 ·refine⟨its.toList,r,⟨o,I.kIn a o hk,hc,n,by simpa using hs⟩,?_⟩
  have e:=r.length
  simp only[eS] at e
  omega
theorem Inv.Z5(I:Inv X pins σ H s)(h:SqL X.K H a xs)(h':SqL X.K H a ys):xs=ys:=by
 obtain⟨its,r,⟨o,n,e,_,_,d⟩,_⟩:=I.list h
 obtain⟨its',r',⟨o',n',e',_,_,d'⟩,_⟩:=I.list h'
 rw[e] at e';cases e'
 rw[d] at d'
 injection d' with d1 _
 have:its=its':=by simpa using congrArg Array.toList d1
 subst this
 exact r.inj r'
theorem Inv.U4(I:Inv X pins σ H s)(h:SqT X.K H a xs)(h':SqT X.K H a ys):xs=ys:=by
 obtain⟨its,r,⟨o,e,_,n,d⟩,_⟩:=I.tuple h
 obtain⟨its',r',⟨o',e',_,n',d'⟩,_⟩:=I.tuple h'
 rw[e] at e';cases e'
 rw[d] at d'
 injection d' with d1 _
 have:its=its':=by simpa using congrArg Array.toList d1
 subst this
 exact r.inj r'
end
abbrev Cx.J2(X:Cx)(E:Value->Shared->Prop):Cx:={ X with xe:=E }
abbrev Cx.nox(X:Cx):Cx:=X.J2 fun _ _=>False
theorem Cx.Ok.J2{X:Cx}(ok:X.Ok)(E:Value->Shared->Prop):(X.J2 E).Ok:=
 ⟨ok.mod,ok.kind,ok.glob,ok.blt,ok.above,ok.inj,ok.has,ok.cab,ok.hd,ok.frames,ok.stk,ok.exf,ok.bs,ok.bsz,ok.noex,ok.exfs,ok.R4,ok.frf⟩
theorem Cx.Ok.F9{X:Cx}{E:Value->Shared->Prop}(ok:(X.J2 E).Ok):X.Ok:=
 ⟨ok.mod,ok.kind,ok.glob,ok.blt,ok.above,ok.inj,ok.has,ok.cab,ok.hd,ok.frames,ok.stk,ok.exf,ok.bs,ok.bsz,ok.noex,ok.exfs,ok.R4,ok.frf⟩
section
variable{X:Cx}{pins:List (Addr×Obj)}{σ:St}{H:Hp}{s:Shared}{E:Value->Shared->Prop}
theorem Inv.J2(I:Inv X pins σ H s)(E:Value->Shared->Prop):Inv (X.J2 E) pins σ H s:=⟨I.ok.J2 E,I.os,I.bare,I.base,I.loc,I.cell,I.free,I.freeC,I.pin,I.hok,I.len⟩
theorem Inv.F9(I:Inv (X.J2 E) pins σ H s):Inv X pins σ H s:=⟨I.ok.F9,I.os,I.bare,I.base,I.loc,I.cell,I.free,I.freeC,I.pin,I.hok,I.len⟩
theorem SP.F9{D:Ends}{f:Flow}{s':Shared}(h:SP (X.J2 E) pins D f s'):SP X pins D f s':=by
 cases f with
 | next=>obtain⟨σ',H',I,q⟩:=h;exact⟨σ',H',I.F9,q⟩
 | brk=>obtain⟨σ',H',I,q⟩:=h;exact⟨σ',H',I.F9,q⟩
 | cont=>obtain⟨σ',H',I,q⟩:=h;exact⟨σ',H',I.F9,q⟩
 | ret u=>obtain⟨v,σ',H',I,r,q⟩:=h;exact⟨v,σ',H',I.F9,r,q⟩
theorem PSs.nox{st:List Stmt}{t:TS}(h:PSs X.nox st t):PSs X st t:=fun pins s σ H D I hw=>
 wpAny_mono (h pins s σ H D (I.J2 _) hw) (fun _ _ q=>q.F9) fun _ _ z=>False.elim z
end
section
variable{X:Cx}{st:Stmt}{rest:List Stmt}{t u:TS}{e:Expr}{te:TE}{pos:Pos}
noncomputable def w1n:TS:=fun D σ H=>D.nx σ H
noncomputable def tSeq(t u:TS):TS:=fun D σ H=>t { D with nx:=u D } σ H
theorem z0g:PSs X [] w1n:=fun _ _ σ H _ I h=>wpAny_execs_nil ⟨σ,H,I,h⟩
theorem z03(h1:PS X st t)(h2:PSs X rest u):PSs X (st::rest) (tSeq t u):=by
 intro pins s σ H D I h
 refine wpAny_execs_cons (thn (h1 pins s σ H { D with nx:=u D } I h) fun f s1 q=>?_)
 cases f with
 | next=>
  obtain⟨σ',H',I',q⟩:=q
  exact h2 pins s1 σ' H' D I' q
 | ret v=>exact q
 | brk=>exact q
 | cont=>exact q
theorem z05(h1:PS X st t):PSs X [st] t:=by
 intro pins s σ H D I h
 refine wpAny_execs_cons (thn (h1 pins s σ H D I h) fun f s1 q=>?_)
 cases f with
 | next=>exact wpAny_execs_nil q
 | ret v=>exact q
 | brk=>exact q
 | cont=>exact q
theorem Inv.quiet{pins:List (Addr×Obj)}{σ:St}{H:Hp}{s:Shared}(I:Inv X pins σ H s):interactive X.env=false:=by simp[interactive,I.ok.kind]
noncomputable def w1j(te:TE):TS:=fun D σ H=>te σ H fun _ H1=>D.nx σ H1
theorem z0y(he:PE X e te)(hs:swapsWith e none pos.line X.env=pure false:=by rfl):PS X (.Expr e pos) (w1j te):=by
 intro pins s σ H D I h
 exact wpAny_Expr_any (thn (he pins s σ H _ I h) fun v s1 ⟨x,H1,I1,r1,q1⟩=>⟨σ,H1,I1,q1⟩) I.quiet hs
noncomputable def tRet(te:TE):TS:=fun D σ H=>te σ H D.rt
theorem z0d(he:PE X e te):PS X (.Return (some e) pos) (tRet te):=by
 intro pins s σ H D I h
 exact wpAny_Return_some (thn (he pins s σ H _ I h) fun v s1 ⟨x,H1,I1,r1,q1⟩=>⟨x,σ,H1,I1,r1,q1⟩)
noncomputable def tIfS(c:TT)(t u:TS):TS:=fun D σ H=>c σ H fun b H1=>if b=true then t D σ H1 else u D σ H1
theorem z0G{c:Expr}{a b:List Stmt}{tc:TT}(hc:PT X c tc)(ha:PSs X a t)(hb:PSs X b u):PS X (.If c a b pos) (tIfS tc t u):=by
 intro pins s σ H D I h
 refine wpAny_If (thn (hc pins s σ H _ I h) fun d s1 hz=>?_)
 obtain⟨H1,I1,q1⟩:=hz
 cases d with
 | true=>exact ha pins s1 σ H1 D I1 q1
 | false=>exact hb pins s1 σ H1 D I1 q1
noncomputable def y7R:TS:=fun _ _ _=>False
theorem z1F:PS X st y7R:=fun _ _ _ _ _ _ h=>h.elim
end
abbrev TG:=V->St->Hp->(St->Hp->Prop)->Prop
abbrev TGs:=List V->St->Hp->(St->Hp->Prop)->Prop
noncomputable def PG(X:Cx)(target:Expr)(t:TG):Prop:=
 ∀(pins:List (Addr×Obj)) (s:Shared) (σ:St) (H:Hp) (v:V) (u:Value) (Q:St->Hp->Prop),Inv X pins σ H s->RelV v u->t v σ H Q->
  wpAny (model X.prog X.w) X.A (assign target X.env u) (fun _ s'=>∃σ' H',Inv X pins σ' H' s'/\Q σ' H') X.xe s
noncomputable def PGs(X:Cx)(ts:List Expr)(t:TGs):Prop:=
 ∀(pins:List (Addr×Obj)) (s:Shared) (σ:St) (H:Hp) (vs:List V) (us:List Value) (Q:St->Hp->Prop),Inv X pins σ H s->Vals vs us->t vs σ H Q->
  wpAny (model X.prog X.w) X.A (assignInOrder ((assignEach ts X.env).map (·.2)) us) (fun _ s'=>∃σ' H',Inv X pins σ' H' s'/\Q σ' H') X.xe s
section
variable{X:Cx}{pos:Pos}
noncomputable def y2A(i:Nat):TG:=fun v σ H Q=>Q (σ.set i (some v)) H
theorem z0h{i:Nat}{x:Str}(hN:X.N.Nodup)(hi:X.N[i]? = some x)(hx:Loc X.env.scope x)(hf:X.fn x=true\/X.env.scope.names.lookup x=some .local:=by first|exact .inl rfl|exact .inr rfl|assumption):PG X (.Name x pos) (y2A i):=by
 intro pins s σ H v u Q I r h
 exact wpAny_assign_Name (z9K I hN hi hx r (fun s' I'=>⟨_,H,I',h⟩) hf)
noncomputable def w0x:TGs:=fun vs σ H Q=>vs=[]/\Q σ H
noncomputable def y73(t:TG)(u:TGs):TGs:=fun vs σ H Q=>∃v r,vs=v::r/\t v σ H fun σ' H'=>u r σ' H' Q
theorem z3y:PGs X [] w0x:=by
 intro pins s σ H vs us Q I r h
 obtain⟨e,h⟩:=h
 subst e
 cases r
 exact assignInOrder_nil ⟨σ,H,I,h⟩
theorem z0O{e:Expr}{es:List Expr}{t:TG}{u:TGs}(h1:PG X e t)(h2:PGs X es u)
  (hs:(assignEach (e::es) X.env).map (·.2)=assign e X.env::(assignEach es X.env).map (·.2):=by rfl):PGs X (e::es) (y73 t u):=by
 intro pins s σ H vs us Q I r h
 obtain⟨v,vr,e1,h⟩:=h
 subst e1
 cases r with
 | cons r rr=>
  rw[hs]
  refine assignInOrder_cons (thn (h1 pins s σ H _ _ _ I r h) fun _ s1 hz=>?_)
  obtain⟨σ1,H1,I1,q1⟩:=hz
  exact h2 pins s1 σ1 H1 _ _ Q I1 rr q1
noncomputable def w04(K:PySem.W.Frag)(n:Nat)(t:TGs):TG:=fun v σ H Q=>∃a xs,v=.ref a/\SqT K H a xs/\xs.length=n/\t xs σ H Q
theorem y6g{es:List Expr}{k:Nat}{t:TGs}{n:Nat}(hc:X.calm=true)(h:PGs X es t)
  (hn:(assignEach es X.env).length=n:=by rfl) (hst:(assignEach es X.env).findIdx? (·.1)=none:=by rfl):PG X (.Tuple es k pos) (w04 X.K n t):=by
 intro pins s σ H v u Q I r hw
 obtain⟨a,xs,e1,hq,hl,hw⟩:=hw
 subst e1
 cases r
 obtain⟨its,rv,ht,hz⟩:=I.tuple hq
 refine assign_Tuple_tuple (I.ok.hd hc) ht (by simp[hn,<- hl,rv.length]) hst fun h' hx=>?_
 have I1:Inv X pins σ H { s with heap:=h' }:=I.kept (t':=s.toks) fun b o e=>hx b o (cC (bL e)) e
 exact h pins _ σ H xs _ Q I1 (by simpa using rv) hw
noncomputable def w0p(te:TE)(g:TG):TS:=fun D σ H=>te σ H fun x H1=>g x σ H1 D.nx
theorem z0f{i:Nat}{x:Str}{e:Expr}{te:TE}{pos':Pos}(hN:X.N.Nodup)(hi:X.N[i]? = some x)(hx:Loc X.env.scope x)(he:PE X e te)(hs:swapsWith e (some (.Name x pos')) pos.line X.env=pure false:=by rfl)(hf:X.fn x=true\/X.env.scope.names.lookup x=some .local:=by first|exact .inl rfl|exact .inr rfl|assumption) :
  PS X (.Assign [.Name x pos'] e pos) (w0p te (y2A i)):=by
 intro pins s σ H D I h
 refine wpAny_Assign_Name (thn (he pins s σ H _ I h) fun v s1 hz=>?_) hs
 obtain⟨y,H1,I1,r1,q1⟩:=hz
 exact z9K I1 hN hi hx r1 (fun s2 I2=>⟨_,H1,I2,q1⟩) hf
end
section
variable{X:Cx}{pos:Pos}
end
structure It where
 go:Nat->Hp->Prop
 yld:Nat->Hp->V->Hp->Prop
 stop:Nat->Hp->Prop
noncomputable def P0(X:Cx)(pins:List (Addr×Obj))(H:Hp)(b:Addr):Prop:=
 H b=none/\b≠X.env.locals/\b∉X.fs/\(b∈X.ex\/X.s₀.heap.objs.size≤b)/\(∀x c,X.env.cells.lookup x=some c->c≠b)/\∀p∈X.pn++pins,p.1≠b
theorem Inv.T6{X:Cx}{pins:List (Addr×Obj)}{σ:St}{H H':Hp}{s:Shared}{b:Addr}(I:Inv X pins σ H s)(hb:s.heap.objs.size≤b)(hn:H' b=none):P0 X pins H' b:=by
 refine⟨hn,g0 (cO I.lt hb),I.nofs hb,.inr (cL I.sz hb),fun x c e z=>?_,fun p hp z=>?_⟩
 ·obtain⟨v,q⟩:=I.cell x c e
  exact absurd (cO q.lt (by rw[z];exact hb)) (cY _)
 ·exact absurd (cO (bL (I.pin p hp).1) (by rw[z];exact hb)) (cY _)
structure Turn(P:Program)(w:World)(K:PySem.W.Frag)(tg:Expr)(J:It)(fp:List Addr)(it:Addr)(tn:Nat->Heap->Prop):Prop where
 mem:it∈fp
 obj:∀i h,tn i h->∀b∈fp,∃o,h.get? b=some o/\∀v,o.data≠.cell v
 keep:∀i h h',tn i h->(∀b∈fp,∀o,h.get? b=some o->h'.get? b=some o)->tn i h'
 item:∀(X:Cx),X.prog=P->X.w=w->X.K=K->X.calm=true->∀(i:Nat) (pins:List (Addr×Obj)) (s:Shared) (σ:St) (H:Hp) (E:Value->Shared->Prop),Inv X pins σ H s->(∀b∈fp,P0 X pins H b)->tn i s.heap->J.go i H->
  wpAny (model P w) X.A (pyNext (.ref it)) (fun r s1=>∃u,r=some u/\
   wpAny (model P w) X.A (letOwnedTupleGo tg (.ref it) u) (fun _ s2=>∃x H',Inv X pins σ H' s2/\RelV x u/\J.yld i H x H'/\tn (i+1) s2.heap/\∀b∈fp,H' b=none) E s1) E s
 done:∀(X:Cx),X.prog=P->X.w=w->X.K=K->X.calm=true->∀(i:Nat) (pins:List (Addr×Obj)) (s:Shared) (σ:St) (H:Hp) (E:Value->Shared->Prop),Inv X pins σ H s->(∀b∈fp,P0 X pins H b)->tn i s.heap->J.stop i H->
  wpAny (model P w) X.A (pyNext (.ref it)) (fun r s1=>r=none/\Inv X pins σ H s1) E s
 self:∀(A:Around) (i:Nat) (s:Shared) (Q:Value->Shared->Prop) (E:Value->Shared->Prop),tn i s.heap->Q (.ref it) s->wpAny (model P w) A (pyIter (.ref it)) Q E s
abbrev TI:=St->Hp->(It->Hp->Prop)->Prop
noncomputable def PIE(X:Cx)(pins:List (Addr×Obj))(σ:St)(tg:Expr)(R:It->Hp->Prop)(itv:Value)(s2:Shared):Prop:=
 ∃(it:Addr) (fp:List Addr) (tn:Nat->Heap->Prop) (J:It) (H':Hp),itv=.ref it/\Inv X pins σ H' s2/\Turn X.prog X.w X.K tg J fp it tn/\tn 0 s2.heap/\(∀b∈fp,P0 X pins H' b)/\R J H'
noncomputable def PI(X:Cx)(tg iter:Expr)(wi:TI):Prop:=
 ∀(pins:List (Addr×Obj)) (s:Shared) (σ:St) (H:Hp) (R:It->Hp->Prop),Inv X pins σ H s->wi σ H R->
  wpAny (model X.prog X.w) X.A (eval iter X.env) (fun v s1=>wpAny (model X.prog X.w) X.A (pyIter v) (PIE X pins σ tg R) X.xe s1) X.xe s
theorem y4l {M : Model} {A : Around} {E : Value -> Shared -> Prop} {s : Shared} {tg : Expr} {it : Addr} {u : Value} {o : Obj} {n : String} {vs : Array Value} {Q : Unit -> Shared -> Prop} (ho : s.heap.get? it = some o) (hc : o.cls = .type n) (hd : o.data = .fields vs)
    (hn : ["enumerate", "zip", "dict_itemiterator", "dict_reverseitemiterator", "odict_iterator", "itertools.zip_longest", "itertools.pairwise"].contains n = false) (hQ : Q () s) : wpAny M A (letOwnedTupleGo tg (.ref it) u) Q E s := by
  unfold letOwnedTupleGo
  cases tg <;> first
    | exact wpAny_pure hQ
    | (cases u <;> first
        | exact wpAny_pure hQ
        | (refine wpAny_bind (wpAny_load ho ?_)
           rw [hc, hd]
           show wpAny M A (if (["enumerate", "zip", "dict_itemiterator", "dict_reverseitemiterator", "odict_iterator", "itertools.zip_longest", "itertools.pairwise"].contains n && vs[0]? == some (rawInt _)) = true then _ else _) Q E s
           rw [if_neg (by intro h; rw [hn, gG] at h; cases h)]
           exact wpAny_pure hQ))
noncomputable def Itl(K:PySem.W.Frag)(a:Addr):It:=
 ⟨fun i H=>∃xs x,SqL K H a xs/\xs[i]? = some x,fun i H x H'=>H'=H/\∀xs,SqL K H a xs->xs[i]? = some x,fun i H=>∃xs,SqL K H a xs/\xs.length≤i⟩
noncomputable def Itt(K:PySem.W.Frag)(a:Addr):It:=
 ⟨fun i H=>∃xs x,SqT K H a xs/\xs[i]? = some x,fun i H x H'=>H'=H/\∀xs,SqT K H a xs->xs[i]? = some x,fun i H=>∃xs,SqT K H a xs/\xs.length≤i⟩
noncomputable def Itr(lo:Int)(n:Nat):It:=⟨fun i _=>i<n,fun i H x H'=>H'=H/\x=.int (lo+i),fun i _=>n≤i⟩
theorem y0L{P:Program}{w:World}{K:PySem.W.Frag}{tg:Expr}(a it:Addr):Turn P w K tg (Itl K a) [it] it (fun i h=>h.IsListIter it a i) where
 mem:=by simp
 obj:=fun i h st b hb=>by
  have e:b=it:=by simpa using hb
  subst e
  obtain⟨o,e,c,d⟩:=st
  exact⟨o,e,fun v z=>by rw[d] at z;cases z⟩
 keep:=fun i h h' st k=>st.at fun o e=>k it (by simp) o e
 item:=by
  intro X hP hw hK hc i pins s σ H E I hf st hg
  subst hP hw hK
  obtain⟨xs,x,hq,hx⟩:=hg
  obtain⟨its,rv,p,hz⟩:=I.list hq
  obtain⟨u,hu,ru⟩:=rv.get hx
  obtain⟨f0,f1,f2,f3,f4,f5⟩:=hf it (by simp)
  refine wpAny_pyNext_list_item st p.isList (x:=u) (by simpa using hu) fun h' st' sb=>?_
  have I1:Inv X pins σ H { s with heap:=h' }:=I.turned (t':=s.toks) (fun b o hb e=>(sb.2 b hb).trans e) f0 f1 f3 f4 f5
  obtain⟨o,e,c,d⟩:=id st'
  exact⟨u,rfl,y4l (s:={ s with heap:=h' }) e c d (by decide) ⟨x,H,I1,ru,⟨rfl,fun ys hy=>by rw[I.Z5 hy hq];exact hx⟩,st',fun b hb=>(hf b hb).1⟩⟩
 done:=by
  intro X hP hw hK hc i pins s σ H E I hf st hg
  subst hP hw hK
  obtain⟨xs,hq,hx⟩:=hg
  obtain⟨its,rv,p,hz⟩:=I.list hq
  obtain⟨f0,f1,f2,f3,f4,f5⟩:=hf it (by simp)
  have hl:=rv.length
  exact wpAny_pyNext_list_end (I.ok.hd hc) st p.isList (by simp;omega) fun h' eb=>⟨rfl,I.turned (t':=s.toks) (fun b o hb e=>eb b o hb e) f0 f1 f3 f4 f5⟩
 self:=fun _ _ _ _ _ st h=>wpAny_pyIter_listiter st h
theorem z9d{P:Program}{w:World}{K:PySem.W.Frag}{tg:Expr}(a it:Addr):Turn P w K tg (Itt K a) [it] it (fun i h=>h.IsTupleIter it a i) where
 mem:=by simp
 obj:=fun i h st b hb=>by
  have e:b=it:=by simpa using hb
  subst e
  obtain⟨o,e,c,d⟩:=st
  exact⟨o,e,fun v z=>by rw[d] at z;cases z⟩
 keep:=fun i h h' st k=>st.at fun o e=>k it (by simp) o e
 item:=by
  intro X hP hw hK hc i pins s σ H E I hf st hg
  subst hP hw hK
  obtain⟨xs,x,hq,hx⟩:=hg
  obtain⟨its,rv,p,hz⟩:=I.tuple hq
  obtain⟨u,hu,ru⟩:=rv.get hx
  obtain⟨f0,f1,f2,f3,f4,f5⟩:=hf it (by simp)
  refine wpAny_pyNext_tuple_item st (show s.heap.IsTuple a its.toArray from p) (x:=u) (by simpa using hu) fun h' st' sb=>?_
  have I1:Inv X pins σ H { s with heap:=h' }:=I.turned (t':=s.toks) (fun b o hb e=>(sb.2 b hb).trans e) f0 f1 f3 f4 f5
  obtain⟨o,e,c,d⟩:=id st'
  exact⟨u,rfl,y4l (s:={ s with heap:=h' }) e c d (by decide) ⟨x,H,I1,ru,⟨rfl,fun ys hy=>by rw[I.U4 hy hq];exact hx⟩,st',fun b hb=>(hf b hb).1⟩⟩
 done:=by
  intro X hP hw hK hc i pins s σ H E I hf st hg
  subst hP hw hK
  obtain⟨xs,hq,hx⟩:=hg
  obtain⟨its,rv,p,hz⟩:=I.tuple hq
  obtain⟨f0,f1,f2,f3,f4,f5⟩:=hf it (by simp)
  have hl:=rv.length
  exact wpAny_pyNext_tuple_end (I.ok.hd hc) st (show s.heap.IsTuple a its.toArray from p) (by simp;omega) fun h' eb=>⟨rfl,I.turned (t':=s.toks) (fun b o hb e=>eb b o hb e) f0 f1 f3 f4 f5⟩
 self:=fun _ _ _ _ _ st h=>wpAny_pyIter_tupleiter st h
theorem y2u{P:Program}{w:World}{K:PySem.W.Frag}{tg:Expr}(it:Addr)(lo:Int)(n:Nat):Turn P w K tg (Itr lo n) [it] it (fun i h=>IsRangeIter h it (lo+(i:Nat)*1) ((n:Int)-(i:Nat)) 1) where
 mem:=by simp
 obj:=fun i h st b hb=>by
  have e:b=it:=by simpa using hb
  subst e
  exact⟨_,st,fun v z=>by
   have z':Data.fields _=Data.cell v:=z
   cases z'⟩
 keep:=fun i h h' st k=>k it (by simp) _ st
 item:=by
  intro X hP hw hK hc i pins s σ H E I hf st hg
  subst hP hw hK
  obtain⟨f0,f1,f2,f3,f4,f5⟩:=hf it (by simp)
  have W:=Walks.range (prog:=X.prog) (w:=X.w) (I.ok.hd hc) it lo 1 n
  refine W.item i s _ _ hg st fun v h' tk hv st' kk=>?_
  obtain⟨t,rfl⟩:=hv
  have I1:Inv X pins σ H { s with heap:=h',toks:=tk }:=I.turned (fun b o hb e=>kk b o (by simpa using hb) e) f0 f1 f3 f4 f5
  refine⟨_,rfl,y4l (s:={ s with heap:=h',toks:=tk }) (n:="range_iterator") st' rfl rfl (by decide) ⟨.int (lo+i),H,I1,⟨t,?_⟩,⟨rfl,rfl⟩,st',fun b hb=>(hf b hb).1⟩⟩
  rw[Int.mul_one]
 done:=by
  intro X hP hw hK hc i pins s σ H E I hf st hg
  subst hP hw hK
  obtain⟨f0,f1,f2,f3,f4,f5⟩:=hf it (by simp)
  exact wpAny_pyNext_range_end (I.ok.hd hc) st (by have:n≤i:=hg;omega) fun h' eb=>⟨rfl,I.turned (t':=s.toks) (fun b o hb e=>eb b o hb e) f0 f1 f3 f4 f5⟩
 self:=fun _ _ _ _ _ st h=>wpAny_pyIter_rangeiter st h
section
variable{X:Cx}{tg:Expr}
noncomputable def w19(K:PySem.W.Frag)(tl:TE):TI:=fun σ H R=>tl σ H fun x H1=>∃a,x=.ref a/\(∃xs,SqL K H1 a xs)/\R (Itl K a) H1
noncomputable def iTup(K:PySem.W.Frag)(tl:TE):TI:=fun σ H R=>tl σ H fun x H1=>∃a,x=.ref a/\(∃xs,SqT K H1 a xs)/\R (Itt K a) H1
theorem z1v{l:Expr}{tl:TE}(hl:PE X l tl):PI X tg l (w19 X.K tl):=by
 intro pins s σ H R I h
 refine thn (hl pins s σ H _ I h) fun v s1 hz=>?_
 obtain⟨x,H1,I1,r1,q1⟩:=hz
 obtain⟨a,e,⟨xs,hq⟩,q⟩:=q1
 subst e
 cases r1
 obtain⟨its,rv,p,hz⟩:=I1.list hq
 refine wpAny_pyIter_list p.isList ?_
 refine⟨s1.heap.objs.size,[s1.heap.objs.size],_,_,H1,rfl,I1.kept (t':=s1.toks) fun b o e=>bA _ e,y0L a _,⟨_,bJ _ rfl,rfl,rfl⟩,fun b hb=>?_,q⟩
 have e:b=s1.heap.objs.size:=by simpa using hb
 subst e
 exact I1.T6 (bE _) (I1.hok.fresh (bE _))
theorem z2N{l:Expr}{tl:TE}(hl:PE X l tl):PI X tg l (iTup X.K tl):=by
 intro pins s σ H R I h
 refine thn (hl pins s σ H _ I h) fun v s1 hz=>?_
 obtain⟨x,H1,I1,r1,q1⟩:=hz
 obtain⟨a,e,⟨xs,hq⟩,q⟩:=q1
 subst e
 cases r1
 obtain⟨its,rv,p,hz⟩:=I1.tuple hq
 refine wpAny_pyIter_tuple (show s1.heap.IsTuple a its.toArray from p) ?_
 refine⟨s1.heap.objs.size,[s1.heap.objs.size],_,_,H1,rfl,I1.kept (t':=s1.toks) fun b o e=>bA _ e,z9d a _,⟨_,bJ _ rfl,rfl,rfl⟩,fun b hb=>?_,q⟩
 have e:b=s1.heap.objs.size:=by simpa using hb
 subst e
 exact I1.T6 (bE _) (I1.hok.fresh (bE _))
theorem y2q{pins:List (Addr×Obj)}{σ:St}{H:Hp}{s:Shared}{R:It->Hp->Prop}{E:Value->Shared->Prop}{lo hi:Int}{t u v:Tok}{tk:Nat}(I:Inv X pins σ H s)(h1:-(2^62)≤lo)(h2:lo<2^62)(h3:-(2^62)≤hi)(h4:hi<2^62)
  (q:R (Itr lo (hi-lo).toNat) H):wpAny (model X.prog X.w) X.A (pyIter (.ref s.heap.objs.size)) (PIE X pins σ tg R) E { s with heap:=s.heap.push { cls:=.type "range",data:=.fields #[.int lo t,.int hi u,.int 1 v] },toks:=tk }:=by
 refine wpAny_pyIter_range (IsRange.new ..) (small_one h1 h2 h3 h4) ?_
 have I1:Inv X pins σ H { s with heap:=s.heap.push { cls:=.type "range",data:=.fields #[.int lo t,.int hi u,.int 1 v] },toks:=tk }:=I.kept fun b o e=>bA _ e
 refine⟨(s.heap.push { cls:=.type "range",data:=.fields #[.int lo t,.int hi u,.int 1 v] }).objs.size,[(s.heap.push { cls:=.type "range",data:=.fields #[.int lo t,.int hi u,.int 1 v] }).objs.size],_,_,H,rfl,
  I1.kept (t':=tk) fun b o e=>bA _ e,y2u _ lo (hi-lo).toNat,?_,fun b hb=>?_,q⟩
 ·have e1:lo+((0:Nat):Int)*1=lo:=by simp
  have e2:(((hi-lo).toNat:Nat):Int)-((0:Nat):Int)=Builtin.Range.rangeSize lo hi 1:=by rw[rangeSize_one];split<;>omega
  show IsRangeIter _ _ (lo+((0:Nat):Int)*1) ((((hi-lo).toNat:Nat):Int)-((0:Nat):Int)) 1
  rw[e1,e2]
  exact bJ _ rfl
 ·have e:b=(s.heap.push { cls:=.type "range",data:=.fields #[.int lo t,.int hi u,.int 1 v] }).objs.size:=by simpa using hb
  subst e
  exact I1.T6 (bE _) (I1.hok.fresh (bE _))
noncomputable def w1c(ta:TA):TI:=fun σ H R=>ta σ H fun vs H1=>∃j:Int,vs=[.int j]/\-(2^62)≤j/\j<2^62/\R (Itr 0 j.toNat) H1
noncomputable def w1b(ta:TA):TI:=fun σ H R=>ta σ H fun vs H1=>∃i j:Int,vs=[.int i,.int j]/\(-(2^62)≤i/\i<2^62/\-(2^62)≤j/\j<2^62)/\R (Itr i (j-i).toNat) H1
theorem z1M{a:Expr}{ta:TA}{p pos:Pos}(hg:Gl X "range")(hm:X.mg "range"=none)(ha:PA X [a] ta)(hs:starEach [a] X.env=[(false,eval a X.env)]:=by rfl):PI X tg (.Call (.Name "range" p) [a] [] pos) (w1c ta):=by
 intro pins s σ H R I h
 refine Call_ (z69 I hg hm boot_range (dJ (thn (ha pos pins s σ H _ I h) fun us s1 hz=>?_) hs rfl))
 obtain⟨vs,H1,I1,r1,q1⟩:=hz
 obtain⟨j,e,q1,q2,q⟩:=q1
 subst e
 cases r1 with
 | cons r rr=>
  cases rr
  obtain⟨t,rfl⟩:=r
  exact call_range_1 (y2q I1 (by omega) (by omega) q1 q2 (by simpa using q))
theorem z8v{a b:Expr}{ta:TA}{p pos:Pos}(hg:Gl X "range")(hm:X.mg "range"=none)(ha:PA X [a,b] ta)(hs:starEach [a,b] X.env=[(false,eval a X.env),(false,eval b X.env)]:=by rfl)(hs2:starEach [b] X.env=[(false,eval b X.env)]:=by rfl) :
  PI X tg (.Call (.Name "range" p) [a,b] [] pos) (w1b ta):=by
 intro pins s σ H R I h
 refine Call_ (z69 I hg hm boot_range (dJ (thn (ha pos pins s σ H _ I h) fun us s1 ⟨vs,H1,I1,r1,q1⟩=>?_) (by rw[hs,hs2]) (by rw[hs2];rfl)))
 obtain⟨i,j,e,⟨q1,q2,q3,q4⟩,q⟩:=q1
 subst e
 cases r1 with
 | cons r rr=>
  cases rr with
  | cons r' rr=>
   cases rr
   obtain⟨t,rfl⟩:=r
   obtain⟨t',rfl⟩:=r'
   exact call_range_2 (y2q I1 q1 q2 q3 q4 q)
noncomputable def tFor(wi:TI)(g:TG)(tb:TS):TS:=fun D σ H=>wi σ H fun J H1=>∃W:Nat->Nat->St->Hp->Prop,(∃m,W 0 m σ H1)/\∀i m σ H,W i m σ H->
 (J.stop i H/\D.nx σ H)\/(J.go i H/\∃N:St->Hp->Prop,(∀σ' H',N σ' H'->∃m',m'<m/\W (i+1) m' σ' H')/\∀x H',J.yld i H x H'->g x σ H' fun σ2 H2=>tb { D with nx:=N,ct:=N,bk:=D.nx } σ2 H2)
noncomputable def z90(fp:List Addr)(h:Heap):List (Addr×Obj):=fp.filterMap fun b=>(h.get? b).map fun o=>(b,o)
theorem z34{fp:List Addr}{h:Heap}{b:Addr}{o:Obj}(hb:b∈fp)(e:h.get? b=some o):(b,o)∈z90 fp h:=j8.mpr ⟨b,hb,by rw[e];rfl⟩
theorem y4K{fp:List Addr}{h:Heap}{p:Addr×Obj}(hp:p∈z90 fp h):p.1∈fp/\h.get? p.1=some p.2:=by
 obtain⟨b,hb,e⟩:=j8.mp hp
 cases q:h.get? b with
 | none=>rw[q] at e;cases e
 | some o=>
  rw[q] at e
  have e':(b,o)=p:=Option.some.inj e
  subst e'
  exact⟨hb,q⟩
theorem Inv.pinned{pins:List (Addr×Obj)}{σ:St}{H:Hp}{s:Shared}{fp:List Addr}(I:Inv X pins σ H s)(hf:∀b∈fp,P0 X pins H b)(ho:∀b∈fp,∃o,s.heap.get? b=some o/\∀v,o.data≠.cell v):Inv X (pins++z90 fp s.heap) σ H s:=
 I.M0 fun p hp=>(bS.mp hp).elim (fun z=>I.pin p (bR _ z)) fun z=>by
  obtain⟨hb,e⟩:=y4K z
  obtain⟨f0,f1,f2,_⟩:=hf p.1 hb
  obtain⟨o,e',d⟩:=ho p.1 hb
  rw[e] at e';cases e'
  exact⟨e,f0,f1,f2,d⟩
theorem Inv.O9{pins pl:List (Addr×Obj)}{σ:St}{H:Hp}{s:Shared}(I:Inv X (pins++pl) σ H s):Inv X pins σ H s:=I.M0 fun p hp=>I.pin p (bR _ (d6 _ hp))
theorem z1s{iter:Expr}{body:List Stmt}{wi:TI}{g:TG}{tb:TS}{pos:Pos}(hp:PassesOwn (model X.prog X.w) X.A X.env X.xe)(hc:X.calm=true)(hi:PI X tg iter wi)(hg:PG X tg g)(hb:PSs X body tb)
  (hs:∀x,foldedSetIterable iter X.env x=pure x:=by intro _;rfl):PS X (.For tg iter body [] pos) (tFor wi g tb):=by
 intro pins s σ H D I h
 refine wpAny_For (thn (hi pins s σ H _ I h) fun v s1 h1=>thn h1 fun itv s2 h2=>?_) hs
 obtain⟨it,fp,tn,J,H2,e,I2,T,st2,f2,W,⟨m0,w0⟩,turn⟩:=h2
 subst e
 have w0K:∀{H':Hp},(∀b∈fp,H' b=none)->∀b∈fp,P0 X pins H' b:=fun hn b hb=>⟨hn b hb,(f2 b hb).2⟩
 refine codeAny_forLoop_any (fun n s'=>∃i σ' H',Inv X pins σ' H' s'/\tn i s'.heap/\(∀b∈fp,H' b=none)/\W i n σ' H') ?_ m0 ⟨0,σ,H2,I2,st2,fun b hb=>(f2 b hb).1,w0⟩
 rintro n s3 ⟨i,σ3,H3,I3,st3,fr3,w3⟩
 rcases turn i n σ3 H3 w3 with ⟨stop,qn⟩|⟨go,N,hN,step⟩
 ·refine wpAny_passesOwn hp (thn (T.done X rfl rfl rfl hc i pins s3 σ3 H3 X.xe I3 (w0K fr3) st3 stop) fun r s4 hz=>?_)
  obtain⟨hr,I4⟩:=hz
  subst hr
  exact wpAny_execs_nil ⟨σ3,H3,I4,qn⟩
 ·refine wpAny_passesOwn hp (thn (T.item X rfl rfl rfl hc i pins s3 σ3 H3 X.xe I3 (w0K fr3) st3 go) fun r s4 hz=>?_)
  obtain⟨u,hr,h4⟩:=hz
  subst hr
  refine wpAny_passesOwn hp (thn h4 fun _ s5 hz=>?_)
  obtain⟨x,H5,I5,r5,y5,st5,fr5⟩:=hz
  have I5':=I5.pinned (w0K fr5) (T.obj _ _ st5)
  refine wpAny_passesOwn hp (thn (hg _ s5 σ3 H5 x u _ I5' r5 (step x H5 y5)) fun _ s6 hz=>?_)
  obtain⟨σ6,H6,I6,q6⟩:=hz
  refine wpAny_passesOwn hp (thn (hb _ s6 σ6 H6 _ I6 q6) fun f s7 q7=>?_)
  have again:∀{σ7:St}{H7:Hp},Inv X (pins++z90 fp s5.heap) σ7 H7 s7->N σ7 H7->∃m,m<n/\∃i σ' H',Inv X pins σ' H' s7/\tn i s7.heap/\(∀b∈fp,H' b=none)/\W i m σ' H':=fun {σ7 H7} I7 n7=>by
   obtain⟨m',hm,w7⟩:=hN σ7 H7 n7
   refine⟨m',hm,i+1,σ7,H7,I7.O9,T.keep _ _ _ st5 fun b hb o e=>(I7.pin (b,o) (bR _ (bR _ (z34 hb e)))).1,fun b hb=>?_,w7⟩
   obtain⟨o,e,d⟩:=T.obj _ _ st5 b hb
   exact(I7.pin (b,o) (bR _ (bR _ (z34 hb e)))).2.1
  cases f with
  | next=>obtain⟨σ7,H7,I7,n7⟩:=q7;exact again I7 n7
  | cont=>obtain⟨σ7,H7,I7,n7⟩:=q7;exact again I7 n7
  | brk=>obtain⟨σ7,H7,I7,q7⟩:=q7;exact⟨σ7,H7,I7.O9,q7⟩
  | ret v=>obtain⟨x7,σ7,H7,I7,r7,q7⟩:=q7;exact⟨x7,σ7,H7,I7.O9,r7,q7⟩
end
theorem z2a{K:PySem.W.Frag}{a:Addr}{xs:List V}{g:TG}{tb:TS}{D:Ends}{σ:St}{H:Hp}(Pv:Nat->St->Hp->Prop)(h0:Pv 0 σ H)(hl:∀i σ H,i≤xs.length->Pv i σ H->SqL K H a xs)
  (hs:∀i x σ H,xs[i]? = some x->Pv i σ H->g x σ H fun σ2 H2=>tb { D with nx:=Pv (i+1),ct:=Pv (i+1),bk:=D.nx } σ2 H2) (hd:∀σ H,Pv xs.length σ H->D.nx σ H) :
  ∃W:Nat->Nat->St->Hp->Prop,(∃m,W 0 m σ H)/\∀i m σ H,W i m σ H->
   ((Itl K a).stop i H/\D.nx σ H)\/((Itl K a).go i H/\∃N:St->Hp->Prop,(∀σ' H',N σ' H'->∃m',m'<m/\W (i+1) m' σ' H')/\∀x H',(Itl K a).yld i H x H'->g x σ H' fun σ2 H2=>tb { D with nx:=N,ct:=N,bk:=D.nx } σ2 H2):=by
 refine⟨fun i m σ H=>m=xs.length-i/\i≤xs.length/\Pv i σ H,⟨xs.length,by simp,cR _,h0⟩,?_⟩
 rintro i m σ H ⟨rfl,hi,p⟩
 have q:=hl i σ H hi p
 by_cases hlt:i<xs.length
 ·refine .inr ⟨⟨xs,xs[i],q,by simp[hlt]⟩,Pv (i+1),fun σ' H' p'=>⟨xs.length-(i+1),by omega,rfl,hlt,p'⟩,fun x H' y=>?_⟩
  obtain⟨e,y⟩:=y
  subst e
  exact hs i x σ _ (y xs q) p
 ·have e:i=xs.length:=by omega
  subst e
  exact .inl ⟨⟨xs,q,bE _⟩,hd σ H p⟩
theorem z7T{K:PySem.W.Frag}{a:Addr}{xs:List V}{g:TG}{tb:TS}{D:Ends}{σ:St}{H:Hp}(Pv:Nat->St->Hp->Prop)(h0:Pv 0 σ H)(hl:∀i σ H,i≤xs.length->Pv i σ H->SqT K H a xs)
  (hs:∀i x σ H,xs[i]? = some x->Pv i σ H->g x σ H fun σ2 H2=>tb { D with nx:=Pv (i+1),ct:=Pv (i+1),bk:=D.nx } σ2 H2) (hd:∀σ H,Pv xs.length σ H->D.nx σ H) :
  ∃W:Nat->Nat->St->Hp->Prop,(∃m,W 0 m σ H)/\∀i m σ H,W i m σ H->
   ((Itt K a).stop i H/\D.nx σ H)\/((Itt K a).go i H/\∃N:St->Hp->Prop,(∀σ' H',N σ' H'->∃m',m'<m/\W (i+1) m' σ' H')/\∀x H',(Itt K a).yld i H x H'->g x σ H' fun σ2 H2=>tb { D with nx:=N,ct:=N,bk:=D.nx } σ2 H2):=by
 refine⟨fun i m σ H=>m=xs.length-i/\i≤xs.length/\Pv i σ H,⟨xs.length,by simp,cR _,h0⟩,?_⟩
 rintro i m σ H ⟨rfl,hi,p⟩
 have q:=hl i σ H hi p
 by_cases hlt:i<xs.length
 ·refine .inr ⟨⟨xs,xs[i],q,by simp[hlt]⟩,Pv (i+1),fun σ' H' p'=>⟨xs.length-(i+1),by omega,rfl,hlt,p'⟩,fun x H' y=>?_⟩
  obtain⟨e,y⟩:=y
  subst e
  exact hs i x σ _ (y xs q) p
 ·have e:i=xs.length:=by omega
  subst e
  exact .inl ⟨⟨xs,q,bE _⟩,hd σ H p⟩
theorem z2h{lo:Int}{n:Nat}{g:TG}{tb:TS}{D:Ends}{σ:St}{H:Hp}(Pv:Nat->St->Hp->Prop)(h0:Pv 0 σ H)
  (hs:∀i σ H,i<n->Pv i σ H->g (.int (lo+i)) σ H fun σ2 H2=>tb { D with nx:=Pv (i+1),ct:=Pv (i+1),bk:=D.nx } σ2 H2) (hd:∀σ H,Pv n σ H->D.nx σ H) :
  ∃W:Nat->Nat->St->Hp->Prop,(∃m,W 0 m σ H)/\∀i m σ H,W i m σ H->
   ((Itr lo n).stop i H/\D.nx σ H)\/((Itr lo n).go i H/\∃N:St->Hp->Prop,(∀σ' H',N σ' H'->∃m',m'<m/\W (i+1) m' σ' H')/\∀x H',(Itr lo n).yld i H x H'->g x σ H' fun σ2 H2=>tb { D with nx:=N,ct:=N,bk:=D.nx } σ2 H2):=by
 refine⟨fun i m σ H=>m=n-i/\i≤n/\Pv i σ H,⟨n,by simp,cR _,h0⟩,?_⟩
 rintro i m σ H ⟨rfl,hi,p⟩
 by_cases hlt:i<n
 ·refine .inr ⟨hlt,Pv (i+1),fun σ' H' p'=>⟨n-(i+1),by omega,rfl,hlt,p'⟩,fun x H' y=>?_⟩
  obtain⟨e,y⟩:=y
  subst e y
  exact hs i σ _ hlt p
 ·have e:i=n:=by omega
  subst e
  exact .inl ⟨bE _,hd σ H p⟩
abbrev R2:=V->V->Hp->VK->Prop
noncomputable def OpR(X:Cx)(f:Value->Value->Sem Value)(r:R2):Prop:=
 ∀(pins:List (Addr×Obj)) (s:Shared) (σ:St) (H:Hp) (x y:V) (v u:Value) (Q:VK),Inv X pins σ H s->RelV x v->RelV y u->r x y H Q->
  wpAny (model X.prog X.w) X.A (f v u) (EP X pins σ Q) X.xe s
noncomputable def UnR(X:Cx)(f:Value->Sem Value)(r:V->Hp->VK->Prop):Prop:=
 ∀(pins:List (Addr×Obj)) (s:Shared) (σ:St) (H:Hp) (x:V) (v:Value) (Q:VK),Inv X pins σ H s->RelV x v->r x H Q->
  wpAny (model X.prog X.w) X.A (f v) (EP X pins σ Q) X.xe s
noncomputable def z3L(X:Cx)(f:Value)(r:List V->Hp->VK->Prop):Prop:=
 ∀(pins:List (Addr×Obj)) (s:Shared) (σ:St) (H:Hp) (xs:List V) (us:List Value) (Q:VK),Inv X pins σ H s->Vals xs us->r xs H Q->
  wpAny (model X.prog X.w) X.A (call f us) (EP X pins σ Q) X.xe s
noncomputable def tOp(r:R2)(ta tb:TE):TE:=fun σ H Q=>ta σ H fun x H1=>tb σ H1 fun y H2=>r x y H2 Q
noncomputable def tUn(r:V->Hp->VK->Prop)(ta:TE):TE:=fun σ H Q=>ta σ H fun x H1=>r x H1 Q
noncomputable def rI(C:Int->Int->Prop)(g:Int->Int->V):R2:=fun x y H Q=>∃i j,x=.int i/\y=.int j/\C i j/\Q (g i j) H
noncomputable def rI0(g:Int->Int->V):R2:=fun x y H Q=>∃i j,x=.int i/\y=.int j/\Q (g i j) H
noncomputable def rU(g:Int->V):V->Hp->VK->Prop:=fun x H Q=>∃i,x=.int i/\Q (g i) H
section
variable{X:Cx}{a b c:Expr}{ta tb tc:TE}{pos:Pos}
theorem w0H(ha:PE X a ta)(hb:PE X b tb){pins:List (Addr×Obj)}{s:Shared}{σ:St}{H:Hp}{R:V->V->Hp->Prop}(I:Inv X pins σ H s)
  (h:ta σ H fun x H1=>tb σ H1 fun y H2=>R x y H2) {Q:Value->Shared->Prop}{f:Value->Value->Sem Value}
  (hf:∀v u s2 x y H2,Inv X pins σ H2 s2->RelV x v->RelV y u->R x y H2->wpAny (model X.prog X.w) X.A (f v u) Q X.xe s2) :
  wpAny (model X.prog X.w) X.A (eval a X.env) (fun v s₁=>wpAny (model X.prog X.w) X.A (eval b X.env) (fun u s₂=>wpAny (model X.prog X.w) X.A (f v u) Q X.xe s₂) X.xe s₁) X.xe s:=by
 refine thn (ha pins s σ H _ I h) fun v s1 hz=>?_
 obtain⟨x,H1,I1,r1,q1⟩:=hz
 refine thn (hb pins s1 σ H1 _ I1 q1) fun u s2 hz=>?_
 obtain⟨y,H2,I2,r2,q2⟩:=hz
 exact hf v u s2 x y H2 I2 r1 r2 q2
theorem z0t{op:Operator}{r:R2}(ho:OpR X (binaryOp op) r)(ha:PE X a ta)(hb:PE X b tb):PE X (.BinOp a op b pos) (tOp r ta tb):=by
 intro pins s σ H Q I h
 exact wpAny_BinOp (w0H ha hb I h fun v u s2 x y H2 I2 rx ry q=>ho pins s2 σ H2 x y v u Q I2 rx ry q)
theorem y3n{op:UnaryOp}{r:V->Hp->VK->Prop}(ho:UnR X (unaryOp op) r)(ha:PE X a ta):PE X (.UnaryOp op a pos) (tUn r ta):=by
 intro pins s σ H Q I h
 exact UnaryOp_ (thn (ha pins s σ H _ I h) fun v s1 ⟨x,H1,I1,r1,q1⟩=>ho pins s1 σ H1 x v Q I1 r1 q1)
theorem opI{f:Value->Value->Sem Value}{C:Int->Int->Prop}{g:Int->Int->Int}
  (rule:∀(i j:Int) (t u:Tok) (s:Shared) (Q:Value->Shared->Prop) (E:Value->Shared->Prop),C i j->Q (.int (g i j) s.toks) { s with toks:=s.toks+1 }->wpAny (model X.prog X.w) X.A (f (.int i t) (.int j u)) Q E s) :
  OpR X f (rI C fun i j=>.int (g i j)):=by
 intro pins s σ H x y v u Q I rx ry h
 obtain⟨i,j,rfl,rfl,hc,q⟩:=h
 obtain⟨t,rfl⟩:=rx
 obtain⟨t',rfl⟩:=ry
 exact rule i j t t' s _ _ hc ⟨.int (g i j),H,I.tok _,⟨_,rfl⟩,q⟩
theorem opI0{f:Value->Value->Sem Value}{g:Int->Int->Int}
  (rule:∀(i j:Int) (t u:Tok) (s:Shared) (Q:Value->Shared->Prop) (E:Value->Shared->Prop),Q (.int (g i j) s.toks) { s with toks:=s.toks+1 }->wpAny (model X.prog X.w) X.A (f (.int i t) (.int j u)) Q E s) :
  OpR X f (rI0 fun i j=>.int (g i j)):=by
 intro pins s σ H x y v u Q I rx ry h
 obtain⟨i,j,rfl,rfl,q⟩:=h
 obtain⟨t,rfl⟩:=rx
 obtain⟨t',rfl⟩:=ry
 exact rule i j t t' s _ _ ⟨.int (g i j),H,I.tok _,⟨_,rfl⟩,q⟩
theorem w07{f:Value->Value->Sem Value}{g:Int->Int->Bool}
  (rule:∀(i j:Int) (t u:Tok) (s:Shared) (Q:Value->Shared->Prop) (E:Value->Shared->Prop),Q (.bool (g i j)) s->wpAny (model X.prog X.w) X.A (f (.int i t) (.int j u)) Q E s) :
  OpR X f (rI0 fun i j=>.bl (g i j)):=by
 intro pins s σ H x y v u Q I rx ry h
 obtain⟨i,j,rfl,rfl,q⟩:=h
 obtain⟨t,rfl⟩:=rx
 obtain⟨t',rfl⟩:=ry
 exact rule i j t t' s _ _ ⟨.bl (g i j),H,I,rfl,q⟩
noncomputable def CDiv(i j:Int):Prop:=0<j/\j<1073741824
noncomputable def w0s(i j:Int):Prop:=(-(2^64)<i/\i<2^64)\/(-(2^64)<j/\j<2^64)
theorem w0s.ok{i j:Int}(h:w0s i j):IntMulOk i j:=by
 rcases h with ⟨h1,h2⟩|⟨h1,h2⟩
 ·exact .of_left (intBits_le_64 h1 h2)
 ·exact .of_right (intBits_le_64 h1 h2)
theorem z1G:OpR X (binaryOp .Add) (rI0 fun i j=>.int (i+j)):=opI0 fun _ _ _ _ _ _ _ q=>add_int q
theorem z2Q:OpR X (binaryOp .Sub) (rI0 fun i j=>.int (i-j)):=opI0 fun _ _ _ _ _ _ _ q=>sub_int q
theorem z57:OpR X (binaryOp .Mult) (rI w0s fun i j=>.int (i*j)):=opI fun _ _ _ _ _ _ _ hc q=>mul_int q hc.ok
theorem z1y:OpR X (binaryOp .FloorDiv) (rI CDiv fun i j=>.int (i / j)):=opI fun i j _ _ _ _ _ hc q=>by
 have h1:(0:Int)<j:=hc.1
 have h2:j<1073741824:=hc.2
 exact floordiv_int (by omega) (by rw[Int.fdiv_eq_ediv_of_nonneg i (by omega)];exact q) (.inl (PyProof.noPylong_small (by omega)))
theorem z17:OpR X (binaryOp .Mod) (rI (fun _ j=>0<j) fun i j=>.int (i%j)):=opI fun i j _ _ _ _ _ hc q=>by
 have h1:(0:Int)<j:=hc
 exact mod_int' (by omega) (by rw[Int.fmod_eq_emod_of_nonneg i (by omega)];exact q)
theorem unI{f:Value->Sem Value}{g:Int->Int}
  (rule:∀(i:Int) (t:Tok) (s:Shared) (Q:Value->Shared->Prop) (E:Value->Shared->Prop),Q (.int (g i) s.toks) { s with toks:=s.toks+1 }->wpAny (model X.prog X.w) X.A (f (.int i t)) Q E s) :
  UnR X f (rU fun i=>.int (g i)):=by
 intro pins s σ H x v Q I rx h
 obtain⟨i,rfl,q⟩:=h
 obtain⟨t,rfl⟩:=rx
 exact rule i t s _ _ ⟨.int (g i),H,I.tok _,⟨_,rfl⟩,q⟩
theorem y0Q:UnR X (unaryOp .USub) (rU fun i=>.int (-i)):=unI fun _ _ _ _ _ q=>neg_int q
end
noncomputable def w0w:V->V->Bool
 | .non,.non=>true|.non,.int _=>true|.int _,.non=>true|.non,.bl _=>true|.bl _,.non=>true|.non,.str _=>true|.str _,.non=>true
 | .int _,.int _=>true|.bl _,.bl _=>true|.str _,.str _=>true|.byt _,.byt _=>true
 | .int _,.str _=>true|.str _,.int _=>true|.bl _,.str _=>true|.str _,.bl _=>true
 | _,_=>false
noncomputable def rEq:R2:=fun x y H Q=>w0w x y=true/\Q (.bl (decide (x=y))) H
noncomputable def rNe:R2:=fun x y H Q=>w0w x y=true/\Q (.bl (!decide (x=y))) H
theorem y3t{i j:Int}:decide (V.int i=V.int j)=(i == j):=by
 rw[dC]
 simp
theorem y6n{i j:Bool}:decide (V.bl i=V.bl j)=(i == j):=by
 rw[dC]
 simp
theorem y4n{i j:Str}:decide (V.str i=V.str j)=(i == j):=by
 rw[dC]
 simp
theorem y3I{i j:Array UInt8}:decide (V.byt i=V.byt j)=(i.toList == j.toList):=by
 rw[dC]
 cases i
 cases j
 simp
section
variable{X:Cx}{a b c:Expr}{ta tb tc:TE}{pos:Pos}
theorem z1a{pins:List (Addr×Obj)}{σ:St}{H:Hp}{s:Shared}{Q:VK}{k k':Bool}(I:Inv X pins σ H s)(q:Q (.bl k) H)(e:k=k'):EP X pins σ Q (.bool k') s:=by
 subst e
 exact⟨.bl k,H,I,rfl,q⟩
theorem z23:OpR X (compareOp .Eq) rEq:=by
 intro pins s σ H x y v u Q I rx ry h
 obtain⟨hs,q⟩:=h
 cases x with
 | non=>
  cases rx
  cases y with
  | non=>cases ry;exact PySem.EqNone.eq_none_none (z1a I q (by simp))
  | bl j=>cases ry;exact PySem.EqNone.eq_none_bool (z1a I q (by simp))
  | int j=>obtain⟨t',rfl⟩:=ry;exact PySem.EqNone.eq_none_int (z1a I q (by simp))
  | str j=>obtain⟨t',rfl⟩:=ry;exact PySem.EqNone.eq_none_str (z1a I q (by simp))
  | _=>exact absurd (show false=true from hs) bM
 | bl i=>
  cases rx
  cases y with
  | non=>cases ry;exact PySem.EqNone.eq_bool_none (z1a I q (by simp))
  | bl j=>cases ry;exact eq_bool (z1a I q y6n)
  | str j=>obtain⟨t',rfl⟩:=ry;exact PySem.EqMixed.eq_bool_str (z1a I q (by simp))
  | _=>exact absurd (show false=true from hs) bM
 | int i=>
  obtain⟨t,rfl⟩:=rx
  cases y with
  | non=>cases ry;exact PySem.EqNone.eq_int_none (z1a I q (by simp))
  | int j=>obtain⟨t',rfl⟩:=ry;exact eq_int (z1a I q y3t)
  | str j=>obtain⟨t',rfl⟩:=ry;exact PySem.EqMixed.eq_int_str (z1a I q (by simp))
  | _=>exact absurd (show false=true from hs) bM
 | str i=>
  obtain⟨t,rfl⟩:=rx
  cases y with
  | non=>cases ry;exact PySem.EqNone.eq_str_none (z1a I q (by simp))
  | bl j=>cases ry;exact PySem.EqMixed.eq_str_bool (z1a I q (by simp))
  | int j=>obtain⟨t',rfl⟩:=ry;exact PySem.EqMixed.eq_str_int (z1a I q (by simp))
  | str j=>obtain⟨t',rfl⟩:=ry;exact eq_str (z1a I q y4n)
  | _=>exact absurd (show false=true from hs) bM
 | byt i=>
  obtain⟨t,rfl⟩:=rx
  cases y with
  | byt j=>obtain⟨t',rfl⟩:=ry;exact PySem.W.eq_bytes (z1a I q y3I)
  | _=>exact absurd (show false=true from hs) bM
 | _=>cases y<;>exact absurd (show false=true from hs) bM
theorem z9j:OpR X (compareOp .NotEq) rNe:=by
 intro pins s σ H x y v u Q I rx ry h
 obtain⟨hs,q⟩:=h
 cases x with
 | non=>
  cases rx
  cases y with
  | non=>cases ry;exact PySem.EqNone.ne_none_none (z1a I q (by simp))
  | bl j=>cases ry;exact PySem.EqNone.ne_none_bool (z1a I q (by simp))
  | int j=>obtain⟨t',rfl⟩:=ry;exact PySem.EqNone.ne_none_int (z1a I q (by simp))
  | str j=>obtain⟨t',rfl⟩:=ry;exact PySem.EqNone.ne_none_str (z1a I q (by simp))
  | _=>exact absurd (show false=true from hs) bM
 | bl i=>
  cases rx
  cases y with
  | non=>cases ry;exact PySem.EqNone.ne_bool_none (z1a I q (by simp))
  | bl j=>cases ry;exact ne_bool (z1a I q (congrArg not y6n))
  | str j=>obtain⟨t',rfl⟩:=ry;exact PySem.EqMixed.ne_bool_str (z1a I q (by simp))
  | _=>exact absurd (show false=true from hs) bM
 | int i=>
  obtain⟨t,rfl⟩:=rx
  cases y with
  | non=>cases ry;exact PySem.EqNone.ne_int_none (z1a I q (by simp))
  | int j=>obtain⟨t',rfl⟩:=ry;exact ne_int (z1a I q (congrArg not y3t))
  | str j=>obtain⟨t',rfl⟩:=ry;exact PySem.EqMixed.ne_int_str (z1a I q (by simp))
  | _=>exact absurd (show false=true from hs) bM
 | str i=>
  obtain⟨t,rfl⟩:=rx
  cases y with
  | non=>cases ry;exact PySem.EqNone.ne_str_none (z1a I q (by simp))
  | bl j=>cases ry;exact PySem.EqMixed.ne_str_bool (z1a I q (by simp))
  | int j=>obtain⟨t',rfl⟩:=ry;exact PySem.EqMixed.ne_str_int (z1a I q (by simp))
  | str j=>obtain⟨t',rfl⟩:=ry;exact ne_str (z1a I q (congrArg not y4n))
  | _=>exact absurd (show false=true from hs) bM
 | byt i=>
  obtain⟨t,rfl⟩:=rx
  cases y with
  | byt j=>obtain⟨t',rfl⟩:=ry;exact PySem.W.ne_bytes (z1a I q (congrArg not y3I))
  | _=>exact absurd (show false=true from hs) bM
 | _=>cases y<;>exact absurd (show false=true from hs) bM
theorem z6d:OpR X (compareOp .Lt) (rI0 fun i j=>.bl (decide (i<j))):=w07 fun _ _ _ _ _ _ _ q=>lt_int q
theorem y5X:OpR X (compareOp .LtE) (rI0 fun i j=>.bl (decide (i≤j))):=w07 fun _ _ _ _ _ _ _ q=>le_int q
theorem z2c:OpR X (compareOp .Gt) (rI0 fun i j=>.bl (decide (j<i))):=w07 fun _ _ _ _ _ _ _ q=>gt_int q
theorem y41:OpR X (compareOp .GtE) (rI0 fun i j=>.bl (decide (j≤i))):=w07 fun _ _ _ _ _ _ _ q=>ge_int q
theorem z0i(b:Expr){op:CmpOp}(h:op≠.In:=by decide)(h2:op≠.NotIn:=by decide):behindInMarks op b=false:=by
 have e1:(op == CmpOp.In)=false:=by cases op<;>first|rfl|exact absurd rfl h
 have e2:(op == CmpOp.NotIn)=false:=by cases op<;>first|rfl|exact absurd rfl h2
 cases b<;>simp[behindInMarks,e1,e2]
theorem y1x{op:CmpOp}{r:R2}(ho:OpR X (compareOp op) r)(ha:PE X a ta)(hb:PE X b tb)(hm:behindInMarks op b=false):PE X (.Compare a [op] [b] pos) (tOp r ta tb):=by
 intro pins s σ H Q I h
 exact wpAny_Compare1 (w0H ha hb I h fun v u s2 x y H2 I2 rx ry q=>ho pins s2 σ H2 x y v u Q I2 rx ry q) hm
noncomputable def w0V(t:TE):TT:=fun σ H Q=>t σ H fun x H'=>∃k,x=.bl k/\Q k H'
theorem z08{op:CmpOp}{r:R2}(ho:OpR X (compareOp op) r)(ha:PE X a ta)(hb:PE X b tb)(hm:behindInMarks op b=false):PT X (.Compare a [op] [b] pos) (w0V (tOp r ta tb)):=by
 intro pins s σ H Q I h
 refine wpAny_isTrue_Compare1 (thn (ha pins s σ H _ I h) fun v s1 ⟨x,H1,I1,r1,q1⟩=>thn (hb pins s1 σ H1 _ I1 q1) fun u s2 ⟨y,H2,I2,r2,q2⟩=>
  thn (ho pins s2 σ H2 x y v u _ I2 r1 r2 q2) fun c s3 ⟨z,H3,I3,r3,k,e,q3⟩=>?_) hm
 subst e
 cases r3
 exact wpAny_truthy_bool ⟨H3,I3,q3⟩
theorem z76:(sizeLine:Nat)<2^63:=by rw[sizeLine_eq];decide
theorem z4Y:OpR X (binaryOp .Add) (fun x y H Q=>∃i j,x=.str i/\y=.str j/\i.length+j.length≤sizeLine/\Q (.str (i++j)) H):=by
 intro pins s σ H x y v u Q I rx ry h
 obtain⟨i,j,rfl,rfl,hz,q⟩:=h
 obtain⟨t,rfl⟩:=rx
 obtain⟨t',rfl⟩:=ry
 exact add_str (fun t' tk=>⟨.str (i++j),H,I.tok _,⟨_,rfl⟩,q⟩) hz
theorem z51{x:V}{us:List Value}(r:Vals [x] us):∃u,us=[u]/\RelV x u:=by
 cases r with
 | cons r1 r2=>cases r2;exact⟨_,rfl,r1⟩
theorem y2X{x y:V}{us:List Value}(r:Vals [x,y] us):∃u w',us=[u,w']/\RelV x u/\RelV y w':=by
 cases r with
 | cons r1 r2=>
  cases r2 with
  | cons r3 r4=>cases r4;exact⟨_,_,rfl,r1,r3⟩
theorem y39(hc:X.calm=true):z3L X (.builtin "max") (fun xs H Q=>∃i j,xs=[.int i,.int j]/\Q (.int (if j > i then j else i)) H):=by
 intro pins s σ H xs us Q I r h
 obtain⟨i,j,rfl,q⟩:=h
 obtain⟨u,w',rfl,⟨t,rfl⟩,⟨t',rfl⟩⟩:=y2X r
 refine max_two_ints (I.ok.hd hc) fun h' tk k=>⟨_,H,I.kept k,?_,q⟩
 by_cases hj:j > i
 ·rw[if_pos hj,if_pos hj];exact⟨_,rfl⟩
 ·rw[if_neg hj,if_neg hj];exact⟨_,rfl⟩
end
structure W9(h:Heap)(x dx C:Addr)(mA:Str->Option Value):Prop where
 obj:h.get? x=some (PySem.W.instObj C dx)
 ns:h.Ns1 dx mA
 ne:dx≠x
theorem y3L{h:Heap}{dx:Addr}{mA:Str->Option Value}(n:h.Ns1 dx mA):∃od,h.get? dx=some od/\∀name,PySem.W.lookIn name od=some (mA name):=by
 obtain⟨o,es,ep,ho,hd,hk,_,hm⟩:=n
 refine⟨o,ho,fun name=>?_⟩
 have e:=hm name
 unfold nsFind findBy at e
 rw[<- Array.find?_toList] at e
 unfold PySem.W.lookIn
 rw[hd]
 dsimp only
 split
 ·rename_i y q
  rw[q] at e
  exact congrArg some e
 ·rename_i q
  rw[q] at e
  have a:es.toList.any (·.refKey)=false:=by
   rw[jA]
   intro y hy
   obtain⟨z,t,hkey⟩:=hk y (Array.mem_toList_iff.mp hy)
   simp[DictEntry.refKey,hkey]
  have a':¬es.toList.any (·.refKey)=true:=by rw[a];exact bM
  rw[if_neg a']
  exact congrArg some e
theorem W9.look{h:Heap}{x dx C:Addr}{mA:Str->Option Value}(I:W9 h x dx C mA):∃od,PySem.W.InstAt h x (PySem.W.instObj C dx) C (some od)/\∀name,PySem.W.lookIn name od=some (mA name):=
 let ⟨od,ho,hl⟩:=y3L I.ns
 ⟨od,⟨I.obj,rfl,rfl,ho⟩,hl⟩
section
variable{prog:Program}{w:World}{A:Around}{E:Value->Shared->Prop}{s:Shared}{K:PySem.W.Frag}{x dx C f:Addr}{mA:Str->Option Value}{name:Str}{v:Value}
theorem y7r{expr:Bool}{Q:Value->Shared->Prop}(X:K.In s.heap)(I:W9 s.heap x dx C mA)(hg:PySem.W.plainGet K C name=true)(hh:PySem.W.hasDictIn K C=true)
  (ha:PySem.W.findIn K (.ref C) name=some none) (hv:mA name=some v) (hv':PySem.W.handedIn v=true) (h:Q v { s with toks:=s.toks+1 }) :
  wpAny (model prog w) A (getAttr (.ref x) name expr) Q E s:=by
 obtain⟨od,J,hl⟩:=I.look
 exact PySem.W.get_value X J (hZ hg).1 (PySem.W.findObj_own hh ha rfl (by rw[hl,hv])) hv' h
theorem y5z{pl:Sem Bool}{Q:Value×List Value->Shared->Prop}(X:K.In s.heap)(I:W9 s.heap x dx C mA)(hg:PySem.W.plainGet K C name=true)
  (hf:PySem.W.findIn K (.ref C) name=some (some (.ref f))) (ht:PySem.W.isFn K (.ref f)=true) (hv:mA name=none) (h:Q (.ref f,[.ref x]) s) :
  wpAny (model prog w) A (getMethod (.ref x) name pl) Q E s:=by
 obtain⟨od,J,hl⟩:=I.look
 exact PySem.W.method_fn X J (hZ hg).1 (hZ hg).2 hf (beq_iff_eq.mp ht) (by show(PySem.W.lookIn name od).map (·.isSome)=some false;rw[hl,hv];rfl) h
theorem y76{ns:List Str}{Q:Unit->Shared->Prop}(X:K.In s.heap)(I:W9 s.heap x dx C mA)
  (hs:PySem.W.findIn K (.ref C) "__setattr__"=some (some (.builtin "object.__setattr__"))) (hp:PySem.W.plainOver K C=true) (ht:PySem.W.takerIn K C name=some none) (hh:PySem.W.hasDictIn K C=true)
  (hw:PySem.Within mA ns) (hsz:ns.length≤sizeLine)
  (h:∀h',W9 h' x dx C (fun y=>if y=name then some v else mA y)->Heap.SameBut dx s.heap h'->Q () { s with heap:=h',toks:=s.toks+2 }) :
  wpAny (model prog w) A (setAttr (.ref x) name v) Q E s:=by
 obtain⟨od,J,hl⟩:=I.look
 refine PySem.W.set_plain X J hs (PySem.W.osa_open (s:={ s with toks:=s.toks+1 }) (r:=none) X J hp ht fun b=>?_)
 obtain⟨cd,hc,hd'⟩:=PySem.W.any_some hh
 have hx:s.heap.get? x=some ⟨.ref C,some dx,.plain,#[]⟩:=I.obj
 refine wpAny_bind (wpAny_pure (wpAny_bind (wpAny_bind (wpAny_loadPart hx (wpAny_bind (PySem.W.Looks.here (s:={ s with toks:=s.toks+1 }) (PySem.W.looks_clsIn X hc) ?_))))))
 rw[hd']
 refine wpAny_pure (a:=some dx) (wpAny_bind (wpAny_pure (wpAny_bind ?_)))
 refine wpAny_nsSet1 (s:={ s with toks:=s.toks+1 }) I.ns fun h' hn2 hs2=>?_
 obtain⟨oD,esD,epD,hoD,hdD,hcD⟩:=hn2.count (PySem.Within.cons name v hw)
 refine wpAny_bind (wpAny_lookBehind hoD (by rw[hdD];exact pastItsLine_dict (cL hcD (by rw[c9];omega))) ?_)
 exact wpAny_pure (h _ ⟨(hs2.2 _ (cS I.ne)).trans I.obj,hn2,I.ne⟩ hs2)
theorem y66{R:Result->Shared->Prop}{vs:List Value}{kw:List (Str×Value)}(X:K.In s.heap)(hm:PySem.W.makesIn K C=true)
  (hi:PySem.W.findIn K (.ref C) "__init__"=some (some (.ref f))) (hf:PySem.W.typeIn K (.ref f)=some (.type "function"))
  (h:codeAny (model prog w) (A.under (.builtin "type.__call__" ⟨.ref C::vs,kw⟩)) (.call (.ref f) ⟨.ref (s.heap.objs.size+1)::vs,kw⟩) (PySem.W.InitBack (s.heap.objs.size+1) R)
   { s with heap:=(s.heap.push PySem.W.emptyDict).push (PySem.W.instObj C s.heap.objs.size) }) :
  codeAny (model prog w) A (.call (.ref C) ⟨vs,kw⟩) R s:=by
 obtain⟨hh,g,d,t,os⟩:=s
 exact PySem.W.make_core (PySem.W.makes_of X hm) (PySem.W.looks_findIn X hi) (fun self=>PySem.W.bind_fn X self hf) (.inl rfl) h
end
noncomputable def K5(f:Str)(v:V):List (Str×V)->List (Str×V)
 | []=>[(f,v)]
 | (g,x)::r=>if g=f then (g,v)::r else (g,x)::K5 f v r
theorem z0r(f g:Str)(v:V):∀fs:List (Str×V),(K5 f v fs).lookup g=if g=f then some v else fs.lookup g
 | []=>by
  show List.lookup g [(f,v)]=_
  by_cases h:g=f
  ·have hb:(g == f)=true:=beq_iff_eq.mpr h
   simp only[List.lookup,hb,if_pos h]
  ·have hb:(g == f)=false:=beq_eq_false_iff_ne.mpr h
   simp only[List.lookup,hb,if_neg h]
 | (k,x)::r=>by
  have ih:=z0r f g v r
  rw[show K5 f v ((k,x)::r)=(if k=f then (k,v)::r else (k,x)::K5 f v r) from rfl]
  by_cases hk:k=f
  ·rw[if_pos hk]
   by_cases h:g=k
   ·have hb:(g == k)=true:=beq_iff_eq.mpr h
    simp only[List.lookup,hb,if_pos (h.trans hk)]
   ·have hb:(g == k)=false:=beq_eq_false_iff_ne.mpr h
    simp only[List.lookup,hb,if_neg (fun e:g=f=>h (e.trans hk.symm))]
  ·rw[if_neg hk]
   by_cases h:g=k
   ·have hb:(g == k)=true:=beq_iff_eq.mpr h
    simp only[List.lookup,hb,if_neg (fun e:g=f=>hk (h.symm.trans e))]
   ·have hb:(g == k)=false:=beq_eq_false_iff_ne.mpr h
    simp only[List.lookup,hb]
    exact ih
theorem z88(f:Str)(v:V):∀fs:List (Str×V),f∈(K5 f v fs).map (·.1)/\∀g,g∈fs.map (·.1)->g∈(K5 f v fs).map (·.1)
 | []=>⟨by simp[K5],fun g h=>by simp at h⟩
 | (k,x)::r=>by
  obtain⟨i1,i2⟩:=z88 f v r
  rw[show K5 f v ((k,x)::r)=(if k=f then (k,v)::r else (k,x)::K5 f v r) from rfl]
  by_cases hk:k=f
  ·rw[if_pos hk]
   subst hk
   exact⟨by simp,fun g h=>by simpa using h⟩
  ·rw[if_neg hk]
   refine⟨?_,fun g h=>?_⟩
   ·rw[cQ]
    exact bP _ i1
   ·rw[cQ] at h ⊢
    rcases bD.mp h with e|e
    ·exact bD.mpr (.inl e)
    ·exact bP _ (i2 g e)
theorem z1Q(f:Str)(v:V):∀fs:List (Str×V),(K5 f v fs).length≤fs.length+1
 | []=>by simp[K5]
 | (k,x)::r=>by
  have ih:=z1Q f v r
  rw[show K5 f v ((k,x)::r)=(if k=f then (k,v)::r else (k,x)::K5 f v r) from rfl]
  by_cases hk:k=f
  ·rw[if_pos hk,c9,c9];omega
  ·rw[if_neg hk,c9,c9];omega
theorem P6.some_of{v:V}{o:Option Value}(r:P6 (some v) o):∃u,o=some u/\RelV v u:=by
 cases o with
 | none=>exact(show False from r).elim
 | some u=>exact⟨u,rfl,r⟩
theorem P6.none_of{o:Option Value}(r:P6 none o):o=none:=by
 cases o with
 | none=>rfl
 | some u=>exact(show False from r).elim
theorem y51{v:V}{u:Value}(r:RelV v u):PySem.W.handedIn u=true:=by
 cases v with
 | non=>cases (show u=Value.none from r);rfl
 | bl b=>cases (show u=Value.bool b from r);rfl
 | int i=>obtain⟨t,e⟩:=(show ∃t,u=Value.int i t from r);cases e;rfl
 | str x=>obtain⟨t,e⟩:=(show ∃t,u=Value.str x t from r);cases e;rfl
 | byt b=>obtain⟨t,e⟩:=(show ∃t,u=Value.bytes b t from r);cases e;rfl
 | flt b=>obtain⟨t,e⟩:=(show ∃t,u=Value.float b t from r);cases e;rfl
 | ref a=>cases (show u=Value.ref a from r);rfl
 | ty n=>cases (show u=Value.type n from r);rfl
section
variable{P:Program}{w:World}{H H':Hp}{h h':Heap}{a C dx:Addr}{fs fs':List (Str×V)}
theorem z9P(hok:HOk P w H h)(e:H a=some (.ins C dx fs)):∃mA,W9 h a dx C mA/\(∀f,P6 (fs.lookup f) (mA f))/\PySem.Within mA (fs.map (·.1))/\fs.length≤1000/\H dx=some (.own a):=by
 obtain⟨d,z,ne,ob,mA,n,r,q⟩:=(show z1t P w H h a (.ins C dx fs) from hok a _ e)
 exact⟨mA,⟨ob,n,ne⟩,r,q,z,d⟩
end
structure Cls(K:PySem.W.Frag)(C:Addr):Prop where
 pg:PySem.W.plainGet K C Str.empty=true
 hd:PySem.W.hasDictIn K C=true
 po:PySem.W.plainOver K C=true
 sa:PySem.W.findIn K (.ref C) "__setattr__"=some (some (.builtin "object.__setattr__"))
theorem Cls.get{K:PySem.W.Frag}{C:Addr}(c:Cls K C)(f:Str):PySem.W.plainGet K C f=true:=c.pg
noncomputable def z3a(K:PySem.W.Frag)(C:Addr)(f:Str):Prop:=PySem.W.findIn K (.ref C) f=some none
theorem z3a.w16{K:PySem.W.Frag}{C:Addr}{f:Str}(n:z3a K C f):PySem.W.takerIn K C f=some none:=by
 unfold PySem.W.takerIn
 rw[show PySem.W.findIn K (.ref C) f=some none from n]
 rfl
structure Meth(K:PySem.W.Frag)(C:Addr)(m:Str)(f:Addr):Prop where
 at_:PySem.W.findIn K (.ref C) m=some (some (.ref f))
 fn:PySem.W.isFn K (.ref f)=true
 kp:PySem.W.keepIn K (.ref f)=true
section
variable{X:Cx}{pins:List (Addr×Obj)}{σ:St}{H:Hp}{s:Shared}{a C dx:Addr}{fs:List (Str×V)}{f:Str}{v:V}{A:Around}{E:Value->Shared->Prop}
theorem y2H{b:Bool}{Q:Value->Shared->Prop}(I:Inv X pins σ H s)(e:H a=some (.ins C dx fs))(c:Cls X.K C)(n:z3a X.K C f)(l:fs.lookup f=some v)
  (h:∀u s',Inv X pins σ H s'->RelV v u->Q u s'):wpAny (model X.prog X.w) A (getAttr (.ref a) f b) Q E s:=by
 obtain⟨mA,O,r,_,_,_⟩:=z9P I.hok e
 obtain⟨u,hu,ru⟩:=P6.some_of (v:=v) (o:=mA f) (by rw[<- l];exact r f)
 exact y7r I.kIn O (c.get f) c.hd n hu (y51 ru) (h u _ (I.tok _) ru)
theorem z3P{m:Str}{g:Addr}{pl:Sem Bool}{Q:Value×List Value->Shared->Prop}(I:Inv X pins σ H s)(e:H a=some (.ins C dx fs))(c:Cls X.K C)(k:Meth X.K C m g)(l:fs.lookup m=none)
  (h:Q (.ref g,[.ref a]) s):wpAny (model X.prog X.w) A (getMethod (.ref a) m pl) Q E s:=by
 obtain⟨mA,O,r,_,_,_⟩:=z9P I.hok e
 have hn:mA m=none:=P6.none_of (by rw[<- l];exact r m)
 exact y5z I.kIn O (c.get m) k.at_ k.fn hn h
theorem y2J{y:V}{u:Value}{Q:Unit->Shared->Prop}(I:Inv X pins σ H s)(e:H a=some (.ins C dx fs))(c:Cls X.K C)(n:z3a X.K C f)(hl:fs.length<1000)(ry:RelV y u)
  (h:∀s',Inv X pins σ (upd H a (.ins C dx (K5 f y fs))) s'->Q () s'):wpAny (model X.prog X.w) A (setAttr (.ref a) f u) Q E s:=by
 obtain⟨mA,O,r,wi,_,ho⟩:=z9P I.hok e
 have hz:(fs.map (·.1)).length≤sizeLine:=by rw[b9,sizeLine_eq];omega
 refine y76 I.kIn O c.sa c.po n.w16 c.hd wi hz fun h' O' sb=>h _ ?_
 have hd:∃o,h'.get? dx=some o:=let ⟨o,_,_,e',_⟩:=O'.ns;⟨o,e'⟩
 refine I.write (x:=a) (e:=dx) (by rw[e];exact True.intro) (.inr ho) (fun b q hb z=>(sb.2 b hb).trans z) hd ?_
 refine⟨by rw[z0e O.ne];exact ho,?_,O.ne,O'.obj,_,O'.ns,fun g=>?_,fun g hg=>?_⟩
 ·have:=z1Q f y fs;omega
 ·show P6 ((K5 f y fs).lookup g) (if g=f then some u else mA g)
  rw[z0r]
  by_cases q:g=f
  ·rw[if_pos q,if_pos q];exact ry
  ·rw[if_neg q,if_neg q];exact r g
 ·by_cases q:g=f
  ·rw[q];exact(z88 f y fs).1
  ·refine(z88 f y fs).2 g (wi g fun z=>hg ?_)
   show(if g=f then some u else mA g)=none
   rw[if_neg q];exact z
theorem Inv.made(I:Inv X pins σ H s):Inv X pins σ (upd (upd H s.heap.objs.size (.own (s.heap.objs.size+1))) (s.heap.objs.size+1) (.ins C s.heap.objs.size []))
  { s with heap:=(s.heap.push PySem.W.emptyDict).push (PySem.W.instObj C s.heap.objs.size) }:=by
 have e1:(s.heap.push PySem.W.emptyDict).get? s.heap.objs.size=some PySem.W.emptyDict:=bJ s.heap rfl
 have e2:((s.heap.push PySem.W.emptyDict).push (PySem.W.instObj C s.heap.objs.size)).get? (s.heap.objs.size+1)=some (PySem.W.instObj C s.heap.objs.size):=by
  have:=bJ (s.heap.push PySem.W.emptyDict) (o:=PySem.W.instObj C s.heap.objs.size) rfl
  rwa [eB] at this
 have e3:(s.heap.push PySem.W.emptyDict).Ns s.heap.objs.size (fun _=>none):=⟨PySem.W.emptyDict,#[],_,e1,rfl,(fun e he=>absurd he (by simp)),fun _=>rfl⟩
 have I1:=I.laid (a:=s.heap.objs.size) (o:=.own (s.heap.objs.size+1)) (h':=s.heap.push PySem.W.emptyDict) (t':=s.toks) (fun b u q=>bA _ q) (bE _) ⟨_,e1⟩
 refine I1.laid (a:=s.heap.objs.size+1) (o:=.ins C s.heap.objs.size []) (t':=s.toks) (fun b u q=>bA _ q) (Nat.le_of_eq (eB _ _)) ?_
 have ne:s.heap.objs.size≠s.heap.objs.size+1:=cC (fQ _)
 refine⟨by rw[z0e ne,z04],cR _,ne,e2,fun _=>none,(Heap.Ns1.of_empty e3).at fun o q=>bA _ q,fun _=>True.intro,fun y hy=>absurd rfl hy⟩
theorem y6L{prog:Program}{w:World}{env:Env}{e:Expr}{f:Str}{pos:Pos}{s:Shared}{Q:Value->Shared->Prop}(hb:attributeBase e f env (eval e env)=eval e env)
  (h:wpAny (model prog w) A (eval e env) (fun o s₁=>wpAny (model prog w) A (getAttr o f true) Q E s₁) E s):wpAny (model prog w) A (eval (.Attribute e f pos) env) Q E s:=
 Attribute_any_ h (by rw[arm_eval_Attribute,hb])
end
noncomputable def tFld(K:PySem.W.Frag)(ta:TE)(f:Str):TE:=fun σ H Q=>ta σ H fun x H1=>∃a C dx fs v,x=.ref a/\H1 a=some (.ins C dx fs)/\Cls K C/\z3a K C f/\fs.lookup f=some v/\Q v H1
noncomputable def sFld(K:PySem.W.Frag)(ta tv:TE)(f:Str):TS:=fun D σ H=>tv σ H fun y H1=>ta σ H1 fun x H2=>∃a C dx fs,x=.ref a/\H2 a=some (.ins C dx fs)/\Cls K C/\z3a K C f/\fs.length<1000/\
 D.nx σ (upd H2 a (.ins C dx (K5 f y fs)))
section
variable{X:Cx}{o e value:Expr}{f:Str}{pos pos' tpos:Pos}{ta tv:TE}
theorem z0u(he:PE X e ta)(hb:attributeBase e f X.env (eval e X.env)=eval e X.env):PE X (.Attribute e f pos) (tFld X.K ta f):=by
 intro pins s σ H Q I h
 refine y6L hb (thn (he pins s σ H _ I h) fun u s1 hz=>?_)
 obtain⟨x,H1,I1,rx,a,C,dx,fs,v,ex,ea,c,n,l,q⟩:=hz
 subst ex
 obtain rfl:u=Value.ref a:=rx
 exact y2H I1 ea c n l fun u' s2 I2 ru=>⟨v,H1,I2,ru,q⟩
theorem z6b(ha:PE X o ta)(hv:PE X value tv)(hs:swapsWith value (some (.Attribute o f pos')) pos.line X.env=pure false):PS X (.Assign [.Attribute o f pos'] value pos) (sFld X.K ta tv f):=by
 intro pins s σ H D I h
 refine plainObj_wpAny_Assign_Attribute (thn (hv pins s σ H _ I h) fun u s1 ⟨y,H1,I1,ry,q⟩=>thn (ha pins s1 σ H1 _ I1 q) fun ov s2 hz=>?_) hs
 obtain⟨x,H2,I2,rx,a,C,dx,fs,ex,ea,c,n,l,q2⟩:=hz
 subst ex
 obtain rfl:ov=Value.ref a:=rx
 exact y2J I2 ea c n l ry fun s3 I3=>⟨σ,_,I3,q2⟩
theorem y7l{pl:Sem Bool}{m:Str}{apos:Pos}{args:List Expr}{pins:List (Addr×Obj)}{s:Shared}{σ:St}{H:Hp}{Q:Value->Shared->Prop}{te:TE}(he:PE X e te)(I:Inv X pins σ H s)
  (h:te σ H fun x H1=>∃a C dx fs g,x=.ref a/\H1 a=some (.ins C dx fs)/\Cls X.K C/\Meth X.K C m g/\fs.lookup m=none/\
   ∀s1,Inv X pins σ H1 s1->wpAny (model X.prog X.w) X.A (callWith pos (.ref g) [.ref a] (backTo pos (starEach args X.env)) (backToKw pos (keywordEach [] X.env))) Q X.xe s1)
  (ht:eval (.Call (.Attribute e m apos) args [] pos) X.env=(do
   let ov <- eval e X.env
   standAt apos.atName
   let (f,first) <- holding [ov] (getMethod ov m pl)
   callWith pos f first (backTo pos (starEach args X.env)) (backToKw pos (keywordEach [] X.env)))) :
  wpAny (model X.prog X.w) X.A (eval (.Call (.Attribute e m apos) args [] pos) X.env) Q X.xe s:=by
 refine dX (pl:=pl) (thn (he pins s σ H _ I h) fun u s1 hz=>?_) ht
 obtain⟨x,H1,I1,rx,a,C,dx,fs,g,ex,ea,c,k,l,q⟩:=hz
 subst ex
 obtain rfl:u=Value.ref a:=rx
 exact z3P I1 ea c k l (q s1 I1)
end
section
variable{X:Cx}{pins:List (Addr×Obj)}{σ:St}{H:Hp}{s:Shared}{A:Around}{E:Value->Shared->Prop}{Q:Value->Shared->Prop}{c:Value}{b:Bool}
inductive R5(K:PySem.W.Frag)(H:Hp):V->Value->Prop where
 | non:R5 K H .non (.type "NoneType")
 | bl (x:Bool):R5 K H (.bl x) (.type "bool")
 | int (i:Int):R5 K H (.int i) (.type "int")
 | str (x:Str):R5 K H (.str x) (.type "str")
 | flt (x:UInt64):R5 K H (.flt x) (.type "float")
 | lst {a:Addr}{xs:List V} (e:H a=some (.lst xs)):R5 K H (.ref a) (.type "list")
 | frz {a:Addr}{o:Obj}{xs:List V} (e:H a=some (.frz o (.lst xs))):R5 K H (.ref a) (.type "list")
 | tup {a:Addr}{xs:List V} (e:H a=some (.tup xs)):R5 K H (.ref a) (.type "tuple")
 | dK {a:Addr}{kvs:List (Key×V)} (e:H a=some (.dK kvs)):R5 K H (.ref a) (.type "dict")
 | dT {a:Addr}{kvs:List (List Key×V)} (e:H a=some (.dT kvs)):R5 K H (.ref a) (.type "dict")
 | ins {a C dx:Addr}{fs:List (Str×V)} (e:H a=some (.ins C dx fs)) (cl:Cls K C) (ha:PySem.W.findIn K (.ref C) "__class__"=some (some (.builtin "object.__class__")))
   (hn:PySem.W.specialIn K (.builtin "object.__class__") "__get__"=some (some (.builtin "getset_descriptor.__get__"))) (htk:PySem.W.takesIn K (.builtin "object.__class__")=some true)
   (hm:PySem.W.mroIn K C (.type "object")=some true):R5 K H (.ref a) (.ref C)
theorem y3M{x:V}{u t:Value}(I:Inv X pins σ H s)(rx:RelV x u)(ty:R5 X.K H x t)(e:PySem.W.kitOne X.K t c=some b)(h:∀tk,Q (.bool b) { s with toks:=tk }) :
  wpAny (model X.prog X.w) A (call (.builtin "isinstance") [u,c]) Q E s:=by
 cases ty with
 | non=>cases (show u=Value.none from rx);exact dD PySem.W.kitx_none I.kIn True.intro e (fun z=>nomatch z) h
 | bl y=>cases (show u=Value.bool y from rx);exact dD PySem.W.kitx_bool I.kIn True.intro e (fun z=>nomatch z) h
 | int i=>obtain⟨t,q⟩:=(show ∃t,u=Value.int i t from rx);cases q;exact dD PySem.W.kitx_int I.kIn True.intro e (fun z=>nomatch z) h
 | str y=>obtain⟨t,q⟩:=(show ∃t,u=Value.str y t from rx);cases q;exact dD PySem.W.kitx_str I.kIn True.intro e (fun z=>nomatch z) h
 | flt y=>obtain⟨t,q⟩:=(show ∃t,u=Value.float y t from rx);cases q;exact dD PySem.W.kitx_float I.kIn True.intro e (fun z=>nomatch z) h
 | @lst a xs ea=>
  cases (show u=Value.ref a from rx)
  obtain⟨_,_,n,_,h1⟩:=(show z1t X.prog X.w H s.heap a (.lst xs) from I.hok a _ ea)
  exact dD PySem.W.kitx_list I.kIn ⟨_,h1,rfl⟩ e (fun z=>nomatch z) h
 | @frz a ob xs ea=>
  cases (show u=Value.ref a from rx)
  obtain⟨_,_,_,n,_,h1⟩:=(show z1t X.prog X.w H s.heap a (.frz ob (.lst xs)) from I.hok a _ ea)
  exact dD PySem.W.kitx_list I.kIn ⟨_,h1,rfl⟩ e (fun z=>nomatch z) h
 | @tup a xs ea=>
  cases (show u=Value.ref a from rx)
  obtain⟨_,_,_,p⟩:=(show z1t X.prog X.w H s.heap a (.tup xs) from I.hok a _ ea)
  obtain⟨o,h1,h2,_⟩:=p
  exact dD PySem.W.kitx_tuple I.kIn ⟨o,h1,h2⟩ e (fun z=>nomatch z) h
 | @dK a kvs ea=>
  cases (show u=Value.ref a from rx)
  obtain⟨_,_,vs,_,p⟩:=(show z1t X.prog X.w H s.heap a (.dK kvs) from I.hok a _ ea)
  obtain⟨o,es,ep,h1,h2,_⟩:=p
  exact dD PySem.W.kitx_dict I.kIn ⟨o,h1,h2.1⟩ e (fun z=>nomatch z) h
 | @dT a kvs ea=>
  cases (show u=Value.ref a from rx)
  obtain⟨_,_,xs,_,o,es,ep,h1,h2,_⟩:=(show z1t X.prog X.w H s.heap a (.dT kvs) from I.hok a _ ea)
  exact dD PySem.W.kitx_dict I.kIn ⟨o,h1,h2.1⟩ e (fun z=>nomatch z) h
 | @ins a C dx fs ea cl ha hn htk hm=>
  cases (show u=Value.ref a from rx)
  obtain⟨mA,O,_⟩:=z9P I.hok ea
  obtain⟨od,J,_⟩:=O.look
  exact dD (PySem.W.kitx_own (cl.get _) cl.hd ha hn htk hm) I.kIn J e (fun z=>nomatch z) h
end
structure E5(k:Nat)(A:Around):Prop where
 hd:A.handled=none
 dp:A.depth+3*k+5<recursionLimit
 un:A.units+16*k+200<cLine
theorem E5.mono{j k:Nat}{A:Around}(r:E5 k A)(h:j≤k):E5 j A:=⟨r.hd,by have:=r.dp;omega,by have:=r.un;omega⟩
theorem E5.deeper{k:Nat}{A:Around}(r:E5 (k+1) A)(env:Env):E5 k (A.deeper env):=
 ⟨r.hd,by have:=r.dp;show A.depth+1+3*k+5<_;omega,by have:=r.un;show A.units+3+16*k+200<_;omega⟩
theorem y2N{A:Around}{C:Addr}{us:List Value}{kw:List (Str×Value)}:(A.under (.builtin "type.__call__" ⟨.ref C::us,kw⟩)).depth=A.depth+1:=by
 first|rfl|simp[Around.under,Code.weight,Code.isCreation,Code.isGuard,Code.isCaller,Code.frames,Code.isFrame,guardIds]
theorem y2B{A:Around}{C:Addr}{us:List Value}{kw:List (Str×Value)}:(A.under (.builtin "type.__call__" ⟨.ref C::us,kw⟩)).units=A.units+1:=by
 first|rfl|simp[Around.under,Code.cUnits,Code.frames,Code.isFrame]
theorem E5.make{k:Nat}{A:Around}(r:E5 (k+1) A)(C:Addr)(us:List Value)(kw:List (Str×Value)):E5 k (A.under (.builtin "type.__call__" ⟨.ref C::us,kw⟩)):=
 ⟨r.hd,by have:=r.dp;rw[y2N];omega,by have:=r.un;rw[y2B];omega⟩
theorem E5.depth{k:Nat}{A:Around}(r:E5 k A):A.depth<recursionLimit:=by have:=r.dp;omega
theorem E5.units{k:Nat}{A:Around}(r:E5 k A):A.units+64<cLine:=by have:=r.un;omega
theorem E5.T7{k:Nat}{A:Around}(r:E5 k A):A.units<cLine:=by have:=r.un;omega
noncomputable def X7:TA:=fun _ H Q=>Q [] H
noncomputable def y6O(ta:TE)(tr:TA):TA:=fun σ H Q=>ta σ H fun x H1=>tr σ H1 fun xs H2=>Q (x::xs) H2
section
variable{X:Cx}{e:Expr}{es:List Expr}{te:TE}{t:TA}{pos:Pos}
theorem z01:PA X [] X7:=fun _ _ _ _ H Q I h=>Calls.spliced_nil ⟨[],H,I,.nil,h⟩
theorem z00(ha:PE X e te)(hr:PA X es t)(hs:starEach (e::es) X.env=(false,eval e X.env)::starEach es X.env:=by rfl):PA X (e::es) (y6O te t):=by
 intro pos pins s σ H Q I h
 rw[hs]
 show wpAny _ _ (spliced ((false,eval e X.env)::backTo pos (starEach es X.env))) _ _ s
 refine Calls.spliced_cons (thn (ha pins s σ H _ I h) fun u s1 hz=>?_)
 obtain⟨x,H1,I1,r1,q1⟩:=hz
 exact thn (hr pos pins s1 σ H1 _ I1 q1) fun us s2 ⟨xs,H2,I2,r2,q2⟩=>⟨x::xs,H2,I2,.cons r1 r2,q2⟩
noncomputable def tTup(t:TA):TE:=fun σ H Q=>t σ H fun xs H1=>xs.length≤sizeLine/\∀p,H1 p=none->Q (.ref p) (upd H1 p (.tup xs))
noncomputable def tLst(t:TA):TE:=fun σ H Q=>t σ H fun xs H1=>xs.length≤sizeLine/\∀p,H1 p=none->Q (.ref p) (upd H1 p (.lst xs))
theorem z0I{x1}(h:PA X es t):PE X (.Tuple es x1 pos) (tTup t):=by
 intro pins s σ H Q I hq
 refine wpAny_Tuple_spliced (thn (h pos pins s σ H _ I hq) fun us s1 ⟨xs,H1,I1,r,z,q⟩=>⟨by rw[<- r.length];exact z,?_⟩)
 have hf:H1 s1.heap.objs.size=none:=I1.hok.fresh (bE _)
 refine⟨.ref s1.heap.objs.size,upd H1 s1.heap.objs.size (.tup xs),I1.laid (t':=s1.toks) (fun b u e=>bA _ e) (bE _) ?_,rfl,q _ hf⟩
 exact⟨z,us,r,⟨_,bJ _ rfl,rfl,⟨_,rfl⟩,rfl⟩⟩
theorem z1w(h:PA X es t):PE X (.List es pos) (tLst t):=by
 intro pins s σ H Q I hq
 refine wpAny_List_spliced (thn (h pos pins s σ H _ I hq) fun us s1 ⟨xs,H1,I1,r,z,q⟩=>⟨by rw[<- r.length];exact z,?_⟩)
 have hf:H1 s1.heap.objs.size=none:=I1.hok.fresh (bE _)
 refine⟨.ref s1.heap.objs.size,upd H1 s1.heap.objs.size (.lst xs),I1.laid (t':=s1.toks) (fun b u e=>bA _ e) (bE _) ?_,rfl,q _ hf⟩
 exact⟨z,us,0,r,bJ _ rfl⟩
end
abbrev Sp:=List V->Hp->VK->XK->Prop
abbrev CXT:=List Env->Hp->Shared->XK->Value->Shared->Prop
structure X0(P:Program)(w:World)(K:PySem.W.Frag)(mg:Str->Option Value)(base:Heap)(A:Around)(outer:List Env)(s:Shared)(H:Hp):Prop where
 frames:A.frames=some outer
 mod:Mod K mg base
 bs:∀b o,base.get? b=some o->s.heap.get? b=some o/\H b=none
 bsz:base.objs.size≤s.heap.objs.size
 R4:s.heap.FunFrames base outer
 frf:∀b∈frs outer,H b=none
 hok:HOk P w H s.heap
 bare:AllBare s.gens
noncomputable def CE(outer:List Env)(P:Program)(w:World)(H:Hp)(s:Shared)(Q:VK)(u:Value)(s':Shared):Prop:=
 ∃v H',s'.os=s.os/\AllBare s'.gens/\Un (frs outer) [] H H' s.heap s'.heap/\HOk P w H' s'.heap/\RelV v u/\Q v H'
noncomputable def CR(CX:CXT)(outer:List Env)(P:Program)(w:World)(H:Hp)(s:Shared)(Q:VK)(E:XK)(r:Result)(s':Shared):Prop:=
 match r with
 | .ok (.ret u)=>CE outer P w H s Q u s'
 | .ok _=>False
 | .error e=>CX outer H s E e s'
structure A8(P:Program)(w:World)(K:PySem.W.Frag)(mg:Str->Option Value)(base:Heap)(CX:CXT)(k:Nat)(f:Addr)(fd:FuncData)(ps:List Str)(sp:Sp):Prop where
 len:∀vs H Q E,sp vs H Q E->vs.length=ps.length
 run:∀(A:Around) (outer:List Env) (s:Shared) (H:Hp) (args:Args) (us:List Value) (vs:List V) (Q:VK) (E:XK),E5 k A->X0 P w K mg base A outer s H->BindsTo s fd args (ps.zip us)->Vals vs us->sp vs H Q E->
  codeAny (model P w) A (.call (.ref f) args) (CR CX outer P w H s Q E) s
theorem A8.mono{P:Program}{w:World}{K:PySem.W.Frag}{mg:Str->Option Value}{base:Heap}{CX:CXT}{j k:Nat}{f:Addr}{fd:FuncData}{ps:List Str}{sp:Sp}(F:A8 P w K mg base CX j f fd ps sp)(h:j≤k) :
  A8 P w K mg base CX k f fd ps sp:=⟨F.len,fun A outer s H args us vs Q E hr=>F.run A outer s H args us vs Q E (hr.mono h)⟩
theorem X0.make{P:Program}{w:World}{K:PySem.W.Frag}{mg:Str->Option Value}{base:Heap}{A:Around}{outer:List Env}{s:Shared}{H:Hp}(e:X0 P w K mg base A outer s H)(C:Addr)(us:List Value)(kw:List (Str×Value)) :
  X0 P w K mg base (A.under (.builtin "type.__call__" ⟨.ref C::us,kw⟩)) outer s H:=⟨by first|exact e.frames|(simpa [Around.under,Code.envs,Code.isFrame,pushEnvs] using e.frames),e.mod,e.bs,e.bsz,e.R4,e.frf,e.hok,e.bare⟩
section
variable{X:Cx}{pins:List (Addr×Obj)}{σ:St}{H:Hp}{s s':Shared}
theorem Inv.w0G(I:Inv X pins σ H s):X0 X.prog X.w X.K X.mg X.base X.A X.stack s H:=
 ⟨I.ok.frames,I.ok.mod,I.bs,cL I.ok.bsz I.sz,I.stack,I.L9,I.hok,I.bare⟩
theorem Inv.after{Q:VK}{u:Value}(I:Inv X pins σ H s)(h:CE X.stack X.prog X.w H s Q u s'):EP X pins σ Q u s':=by
 obtain⟨v,H',os,bare,un,hok,r,q⟩:=h
 obtain⟨hh,g,d,t,os'⟩:=s'
 obtain rfl:os'=s.os:=os
 exact⟨v,H',I.call (h':=hh) (g':=g) (d':=d) (t':=t) (ch:=[]) un hok bare (fun b z=>absurd z (by simp)),r,q⟩
end
noncomputable def y8h(sp:Sp)(dvs:List V)(E:XK)(t:TA):TE:=fun σ H Q=>t σ H fun vs H1=>sp (vs++dvs) H1 Q E
noncomputable def y5P(C:Addr)(m:Str)(sp:Sp)(dvs:List V)(E:XK)(ta:TE)(t:TA):TE:=fun σ H Q=>ta σ H fun x H1=>∃a dx fs,x=.ref a/\H1 a=some (.ins C dx fs)/\fs.lookup m=none/\
 t σ H1 fun vs H2=>sp (x::(vs++dvs)) H2 Q E
noncomputable def y7D(C:Addr)(sp:Sp)(dvs:List V)(E:XK)(t:TA):TE:=fun σ H Q=>t σ H fun vs H1=>∀x dx,H1 x=none->H1 dx=none->dx≠x->
 sp (.ref x::(vs++dvs)) (upd (upd H1 dx (.own x)) x (.ins C dx [])) (fun v H2=>v=.non/\Q (.ref x) H2) E
noncomputable def z1D(K:PySem.W.Frag)(fd:FuncData)(ps:List Str)(ds:List Value):Prop:=
 ∀(s:Shared) (us:List Value),K.In s.heap->(us++ds).length=ps.length->BindsTo s fd ⟨us,[]⟩ (ps.zip (us++ds))
theorem z1D.all{K:PySem.W.Frag}{fd:FuncData}{ps:List Str}(h:∀us:List Value,us.length=ps.length->bindArgs fd ⟨us,[]⟩=pure (ps.zip us)):z1D K fd ps []:=fun s us _ hl=>by
 rw[cU] at hl ⊢
 exact .of_eq (h us hl)
noncomputable def z7f(CX:CXT)(X:Cx)(E:XK):Prop:=∀(pins:List (Addr×Obj)) (σ:St) (H:Hp) (s:Shared) (e:Value) (s':Shared),Inv X pins σ H s->CX X.stack H s E e s'->X.xe e s'
section
variable{X:Cx}{CX:CXT}{k:Nat}{f C:Addr}{fd:FuncData}{ps:List Str}{sp:Sp}{dvs:List V}{ds:List Value}{E:XK}{x m:Str}{p pos apos:Pos}{e o:Expr}{es:List Expr}{ta:TE}{t:TA}
theorem y3Y{pins:List (Addr×Obj)}{σ:St}{H:Hp}{s:Shared}{Q:VK}{us:List Value}{vs:List V}(F:A8 X.prog X.w X.K X.mg X.base CX k f fd ps sp)(hr:E5 k X.A)(hb:z1D X.K fd ps ds)(hd:Vals dvs ds)(hx:z7f CX X E)
  (I:Inv X pins σ H s) (r:Vals vs us) (h:sp (vs++dvs) H Q E):wpAny (model X.prog X.w) X.A (call (.ref f) us) (EP X pins σ Q) X.xe s:=by
 have r2:Vals (vs++dvs) (us++ds):=r.append hd
 have hl:(us++ds).length=ps.length:=by rw[<- r2.length];exact F.len _ _ _ _ h
 refine wpAny_call (codeAny_mono (F.run X.A X.stack s H ⟨us,[]⟩ (us++ds) (vs++dvs) Q E hr I.w0G (hb s us I.kIn hl) r2 h) fun r s' hq=>?_)
 cases r with
 | error e=>exact hx pins σ H s e s' I hq
 | ok fl=>
  cases fl with
  | ret u=>exact I.after hq
  | next=>exact False.elim hq
  | brk=>exact False.elim hq
  | cont=>exact False.elim hq
theorem y7c(F:A8 X.prog X.w X.K X.mg X.base CX k f fd ps sp)(hr:E5 k X.A)(hg:Gl X x)(hm:X.mg x=some (.ref f))(hk:PySem.W.keepIn X.K (.ref f)=true)(hb:z1D X.K fd ps ds)(hd:Vals dvs ds)(hx:z7f CX X E)
  (ha:PA X (e::es) t) (hdb:(x == ("__debug__":Str))=false:=by decide) (he:starEach (e::es) X.env=(false,eval e X.env)::starEach es X.env:=by rfl) (hpl:(backTo pos (starEach es X.env)).any (·.1)=false:=by rfl) :
  PE X (.Call (.Name x p) (e::es) [] pos) (y8h sp dvs E t):=by
 intro pins s σ H Q I h
 refine wpAny_Call_Name_kw (z5f I hg hm ?_ hdb)
 refine fE (h₀:=X.base) I.ok.mod.kin hk (thn (ha pos pins s σ H _ I h) fun us s1 ⟨vs,H1,I1,r,q⟩=>⟨I1.kIn,?_⟩) he hpl
 exact y3Y F hr hb hd hx I1 r q
theorem y6P{pl:Sem Bool}(he:PE X o ta)(c:Cls X.K C)(hm:Meth X.K C m f)(F:A8 X.prog X.w X.K X.mg X.base CX k f fd ps sp)(hr:E5 k X.A)(hb:z1D X.K fd ps ds)(hd:Vals dvs ds)(hx:z7f CX X E)(ha:PA X (e::es) t)
  (hst:starEach (e::es) X.env=(false,eval e X.env)::starEach es X.env:=by rfl) (hpl:(backTo pos (starEach es X.env)).any (·.1)=false:=by rfl)
  (ht:eval (.Call (.Attribute o m apos) (e::es) [] pos) X.env=(do
   let ov <- eval o X.env
   standAt apos.atName
   let (f,first) <- holding [ov] (getMethod ov m pl)
   callWith pos f first (backTo pos (starEach (e::es) X.env)) (backToKw pos (keywordEach [] X.env))):=by rfl) :
  PE X (.Call (.Attribute o m apos) (e::es) [] pos) (y5P C m sp dvs E ta t):=by
 intro pins s σ H Q I h
 refine dX (pl:=pl) (thn (he pins s σ H _ I h) fun u s1 hz=>?_) ht
 obtain⟨x,H1,I1,rx,a,dx,fs,ex,ea,l,q⟩:=hz
 subst ex
 obtain rfl:u=Value.ref a:=rx
 refine z3P I1 ea c hm l ?_
 refine fE (first:=[.ref a]) (h₀:=X.base) I.ok.mod.kin hm.kp (thn (ha pos pins s1 σ H1 _ I1 q) fun us s2 ⟨vs,H2,I2,r,q2⟩=>⟨I2.kIn,?_⟩) hst hpl
 exact y3Y (us:=.ref a::us) (vs:=.ref a::vs) F hr hb hd hx I2 (.cons rfl r) q2
theorem y5h{pl:Sem Bool}(he:PE X o ta)(c:Cls X.K C)(hm:Meth X.K C m f)(F:A8 X.prog X.w X.K X.mg X.base CX k f fd ps sp)(hr:E5 k X.A)(hb:z1D X.K fd ps ds)(hd:Vals dvs ds)(hx:z7f CX X E)
  (ht:eval (.Call (.Attribute o m apos) [] [] pos) X.env=(do
   let ov <- eval o X.env
   standAt apos.atName
   let (f,first) <- holding [ov] (getMethod ov m pl)
   callWith pos f first (backTo pos (starEach [] X.env)) (backToKw pos (keywordEach [] X.env))):=by rfl) :
  PE X (.Call (.Attribute o m apos) [] [] pos) (y5P C m sp dvs E ta X7):=by
 intro pins s σ H Q I h
 refine dX (pl:=pl) (thn (he pins s σ H _ I h) fun u s1 hz=>?_) ht
 obtain⟨x,H1,I1,rx,a,dx,fs,ex,ea,l,q⟩:=hz
 subst ex
 obtain rfl:u=Value.ref a:=rx
 refine z3P I1 ea c hm l ?_
 exact PySem.W.callWith_K0 (first:=[.ref a]) I1.kIn hm.kp (y3Y (us:=[.ref a]) (vs:=[.ref a]) F hr hb hd hx I1 (.cons rfl .nil) q)
structure Mk(K:PySem.W.Frag)(C f:Addr):Prop where
 makes:PySem.W.makesIn K C=true
 init:PySem.W.findIn K (.ref C) "__init__"=some (some (.ref f))
 fn:PySem.W.isFn K (.ref f)=true
 kp:PySem.W.keepIn K (.ref C)=true
theorem y5f{pins:List (Addr×Obj)}{σ:St}{H:Hp}{s:Shared}{Q:VK}{us:List Value}{vs:List V}(M:Mk X.K C f)(F:A8 X.prog X.w X.K X.mg X.base CX k f fd ps sp)(hr:E5 (k+1) X.A)(hb:z1D X.K fd ps ds)(hd:Vals dvs ds)
  (hx:z7f CX X E) (I:Inv X pins σ H s) (r:Vals vs us)
  (h:∀x dx,H x=none->H dx=none->dx≠x->sp (.ref x::(vs++dvs)) (upd (upd H dx (.own x)) x (.ins C dx [])) (fun v H2=>v=.non/\Q (.ref x) H2) E) :
  wpAny (model X.prog X.w) X.A (call (.ref C) us) (EP X pins σ Q) X.xe s:=by
 have hq:=h (s.heap.objs.size+1) s.heap.objs.size (I.hok.fresh (fX _)) (I.hok.fresh (bE _)) (cC (fQ _))
 have I2:=Inv.made (C:=C) I
 have r2:Vals (V.ref (s.heap.objs.size+1)::(vs++dvs)) (Value.ref (s.heap.objs.size+1)::(us++ds)):=.cons rfl (r.append hd)
 have hl:(Value.ref (s.heap.objs.size+1)::us++ds).length=ps.length:=by
  have e:=r2.length
  rw[F.len _ _ _ _ hq] at e
  exact e.symm
 refine wpAny_call (y66 (f:=f) I.kIn M.makes M.init (beq_iff_eq.mp M.fn) (codeAny_mono (F.run _ X.stack _ _ ⟨Value.ref (s.heap.objs.size+1)::us,[]⟩ (Value.ref (s.heap.objs.size+1)::(us++ds)) _ _ E (hr.make C us [])
  (I2.w0G.make C us []) (hb _ (Value.ref (s.heap.objs.size+1)::us) I2.kIn hl) r2 hq) fun r s' hq'=>?_))
 cases r with
 | error e=>exact hx pins σ _ _ e s' I2 hq'
 | ok fl=>
  cases fl with
  | ret u=>
   obtain⟨v,H',I3,rv,ev,q3⟩:=I2.after hq'
   subst ev
   exact⟨rv,⟨V.ref (s.heap.objs.size+1),H',I3,rfl,q3⟩⟩
  | next=>exact False.elim hq'
  | brk=>exact False.elim hq'
  | cont=>exact False.elim hq'
theorem y7q(M:Mk X.K C f)(F:A8 X.prog X.w X.K X.mg X.base CX k f fd ps sp)(hr:E5 (k+1) X.A)(hg:Gl X x)(hm:X.mg x=some (.ref C))(hb:z1D X.K fd ps ds)(hd:Vals dvs ds)(hx:z7f CX X E)
  (ha:PA X (e::es) t) (hdb:(x == ("__debug__":Str))=false:=by decide) (he:starEach (e::es) X.env=(false,eval e X.env)::starEach es X.env:=by rfl) (hpl:(backTo pos (starEach es X.env)).any (·.1)=false:=by rfl) :
  PE X (.Call (.Name x p) (e::es) [] pos) (y7D C sp dvs E t):=by
 intro pins s σ H Q I h
 refine wpAny_Call_Name_kw (z5f I hg hm ?_ hdb)
 refine fE (h₀:=X.base) I.ok.mod.kin M.kp (thn (ha pos pins s σ H _ I h) fun us s1 ⟨vs,H1,I1,r,q⟩=>⟨I1.kIn,?_⟩) he hpl
 exact y5f M F hr hb hd hx I1 r q
end
noncomputable def PK(X:Cx)(kws:List Keyword)(t:TA):Prop:=
 ∀(pos:Pos) (pins:List (Addr×Obj)) (s:Shared) (σ:St) (H:Hp) (Q:List V->Hp->Prop),Inv X pins σ H s->t σ H Q->wpAny (model X.prog X.w) X.A (evalAll ((backToKw pos (keywordEach kws X.env)).map (·.2))) (AP X pins σ Q) X.xe s
section
variable{X:Cx}{CX:CXT}{k:Nat}{f C:Addr}{fd:FuncData}{ps ks:List Str}{sp:Sp}{E:XK}{x m:Str}{p pos apos kpos:Pos}{e o:Expr}{es:List Expr}{kws:List Keyword}{te ta:TE}{t tk:TA}{nm:Option Str}
theorem y27:PK X [] X7:=fun _ _ _ _ H Q I h=>wpAny_evalAll_nil ⟨[],H,I,.nil,h⟩
theorem z9A(ha:PE X e te)(hr:PK X kws t):PK X (⟨nm,e,kpos⟩::kws) (y6O te t):=by
 intro pos pins s σ H Q I h
 show wpAny _ _ (evalAll ((do let v <- eval e X.env;standAt pos;pure v)::(backToKw pos (keywordEach kws X.env)).map (·.2))) _ _ s
 refine wpAny_evalAll_cons (wpAny_bind (thn (ha pins s σ H _ I h) fun u s1 ⟨x,H1,I1,r1,q1⟩=>wpAny_bind (wpAny_standAt (wpAny_pure ?_))))
 exact thn (hr pos pins s1 σ H1 _ I1 q1) fun us s2 ⟨xs,H2,I2,r2,q2⟩=>⟨x::xs,H2,I2,.cons r1 r2,q2⟩
variable{g:List Value->List Value->List Value}{gV:List V->List V->List V}
end
structure A3(N P:List Str)(sc:Scope):Prop where
 kind:sc.kind=.function
 co:sc.isCoroutine=false
 gen:sc.isGenerator=false
 nd:N.Nodup
 pre:N.take P.length=P
 par:∀x∈P,sc.names.lookup x=some .local\/sc.names.lookup x=some .cell
 nofree:∀y∈sc.names,y.2≠.free
theorem y0m{kindOf:Str->Option NameKind}{x:Str}:∀{binds:List (Str×Value)}{m:Str->Option Value},(∀v,(x,v)∉binds)->bindL kindOf binds m x=m x
 | [],_,_=>rfl
 | (n,v)::r,m,h=>by
  unfold bindL
  rw[y0m fun w hw=>h w (bP _ hw)]
  split
  ·have:x≠n:=by rintro rfl;exact h v cB
   simp[this]
  ·rfl
theorem y02{kindOf:Str->Option NameKind}{x:Str}:∀{binds:List (Str×Value)}{m:Str->Option Value},(∀v,(x,v)∉binds)->bindC kindOf binds m x=m x
 | [],_,_=>rfl
 | (n,v)::r,m,h=>by
  unfold bindC
  rw[y02 fun w hw=>h w (bP _ hw)]
  split
  ·rfl
  ·have:x≠n:=by rintro rfl;exact h v cB
   simp[this]
theorem y03{kindOf:Str->Option NameKind}{x:Str}{v:Value}:∀{P:List Str}{vs:List Value}{i:Nat}{m:Str->Option Value},P.Nodup->P[i]? = some x->vs[i]? = some v->kindOf x=some .local->
  bindL kindOf (P.zip vs) m x=some v
 | [],_,_,_,_,h,_,_=>by simp at h
 | _::_,[],_,_,_,_,h,_=>by simp at h
 | p::P,w::vs,0,m,nd,h1,h2,hk=>by
  simp at h1 h2;subst h1;subst h2
  show bindL kindOf ((p,w)::P.zip vs) m p=_
  unfold bindL
  rw[y0m fun v hv=>(dE.mp nd).1 (List.of_mem_zip hv).1,if_pos hk]
  simp
 | p::P,w::vs,i+1,m,nd,h1,h2,hk=>by
  show bindL kindOf ((p,w)::P.zip vs) m x=_
  unfold bindL
  exact y03 (i:=i) (dE.mp nd).2 (by simpa using h1) (by simpa using h2) hk
theorem y0X{kindOf:Str->Option NameKind}{x:Str}{v:Value}:∀{P:List Str}{vs:List Value}{i:Nat}{m:Str->Option Value},P.Nodup->P[i]? = some x->vs[i]? = some v->kindOf x≠some .local->
  bindC kindOf (P.zip vs) m x=some v
 | [],_,_,_,_,h,_,_=>by simp at h
 | _::_,[],_,_,_,_,h,_=>by simp at h
 | p::P,w::vs,0,m,nd,h1,h2,hk=>by
  simp at h1 h2;subst h1;subst h2
  show bindC kindOf ((p,w)::P.zip vs) m p=_
  unfold bindC
  rw[y02 fun v hv=>(dE.mp nd).1 (List.of_mem_zip hv).1,if_neg hk]
  simp
 | p::P,w::vs,i+1,m,nd,h1,h2,hk=>by
  show bindC kindOf ((p,w)::P.zip vs) m x=_
  unfold bindC
  exact y0X (i:=i) (dE.mp nd).2 (by simpa using h1) (by simpa using h2) hk
noncomputable def z5h(N:List Str)(vs:List V):St:=vs.map some++List.replicate (N.length-vs.length) none
noncomputable def B8(CX:CXT)(P:Program)(w:World)(K:PySem.W.Frag)(mg:Str->Option Value)(base:Heap)(N:List Str)(qual:Str)(scope:Scope)(f:Addr)(cd:Value)(A:Around)(outer:List Env)(s:Shared)(H:Hp)(E:XK):Cx where
 prog:=P
 w:=w
 K:=K
 mg:=mg
 base:=base
 A:=A.deeper (envOfC qual scope s.heap.objs.size f cd)
 N:=N
 s₀:=s
 H₀:=H
 env:=envOfC qual scope s.heap.objs.size f cd
 outer:=outer
 stack:=envOfC qual scope s.heap.objs.size f cd::outer
 ex:=[]
 calm:=true
 fn:=fun _=>true
 pn:=[]
 xe:=fun e s'=>wpAny (model P w) (A.deeper (envOfC qual scope s.heap.objs.size f cd)) (leaving (envOfC qual scope s.heap.objs.size f cd) e) (fun _ s''=>CX outer H s E e s'') (fun e' s''=>CX outer H s E e' s'') s'
theorem y25{sc:Scope}{n:Nat}{x:Str}(h:sc.names.lookup x=some .cell):∃c,(cellsFrom n sc.names []).lookup x=some c:=by
 have q:=PySem.W.cellsFrom_some sc.names n [] (.inl h)
 exact Option.isSome_iff_exists.mp q
theorem y4g{CX:CXT}{P:Program}{w:World}{K:PySem.W.Frag}{mg:Str->Option Value}{base:Heap}{N ps:List Str}{qual:Str}{scope:Scope}{f:Addr}{cd:Value}{A:Around}{outer:List Env}{s s1:Shared}{H:Hp}{E:XK}{us:List Value}{vs:List V}
  (S:A3 N ps scope) (hd:A.handled=none) (e0:X0 P w K mg base A outer s H) (hl:vs.length=ps.length) (r:Vals vs us)
  (x:InCallC s s.heap.objs.size (bindL (envOfC qual scope s.heap.objs.size f cd).kindOf (ps.zip us) fun _=>none) (cellsFrom (s.heap.objs.size+1) scope.names []) (bindC (envOfC qual scope s.heap.objs.size f cd).kindOf (ps.zip us) fun _=>none) s1) :
  Inv (B8 CX P w K mg base N qual scope f cd A outer s H E) [] (z5h N vs) H s1:=by
 have hpl:ps.length≤N.length:=by have:=congrArg List.length S.pre;rw[bO] at this;omega
 obtain⟨h1,tk,rfl,hk⟩:=x.done
 have noA:∀b:Addr,b∉(B8 CX P w K mg base N qual scope f cd A outer s H E).ex:=fun b z=>absurd (show b∈([]:List Addr) from z) (by simp)
 refine⟨⟨e0.mod,S.kind,rfl,rfl,bE _,fun y z c h1 h2=>?_,fun y hy=>?_,fun y c _ h=>?_,fun _=>hd,Around.frames_deeper e0.frames,.inr ⟨rfl,rfl⟩,fun b z=>absurd z (noA b),e0.bs,e0.bsz,fun b _ _=>noA b,fun b z=>absurd z (noA b),e0.R4,e0.frf⟩,
  rfl,e0.bare,Un.kept hk,⟨_,x.toInCall.ns,fun i y v h1 h2 h3=>?_⟩,fun y c h=>⟨_,x.cell y c h⟩,e0.hok.fresh (bE _),fun y c h=>?_,fun p hp=>absurd (show p∈([]:List (Addr×Obj)) from hp) (by simp),e0.hok.kept hk,?_⟩
 ·exact name_of_addr x.apart (eU h1) (eU h2)
 ·have hy:scope.names.lookup y=some .cell\/scope.names.lookup y=some .free:=hy
  rcases hy with hy|hy
  ·exact y25 hy
  ·exact absurd rfl (S.nofree _ (eU hy))
 ·exact fK (x.above y c (eU h))
 ·have hi:i<vs.length:=by
   unfold z5h at h2
   by_cases hi:i<vs.length
   ·exact hi
   ·rw[fU (by simpa using hi)] at h2
    rw[eX] at h2
    split at h2<;>cases h2
  have ha:vs[i]? = some v:=by
   unfold z5h at h2
   rw[dO (by simpa using hi),bK] at h2
   cases e:vs[i]? with
   | none=>rw[e] at h2;cases h2
   | some a=>rw[e] at h2;cases h2;rfl
  obtain⟨u,hu,rv⟩:=r.get ha
  have hp:ps[i]? = some y:=by
   rw[<- S.pre,List.getElem?_take_of_lt (by omega)];exact h1
  have ndP:ps.Nodup:=by rw[<- S.pre];exact S.nd.sublist (List.take_sublist _ _)
  refine⟨u,rv,?_⟩
  rcases S.par y (bQ hp) with k|k
  ·exact .inl ⟨k,y03 ndP hp hu k⟩
  ·obtain⟨c,e⟩:=y25 (n:=s.heap.objs.size+1) k
   refine .inr ⟨.inl k,c,e,?_⟩
   have q:=x.cell y c e
   rw[y0X ndP hp hu (by show scope.names.lookup y≠_;rw[k];decide)] at q
   exact q
 ·exact e0.hok.fresh (fK (x.above y c (eU h)))
 ·unfold z5h
  show _=N.length
  rw[bN,b9,gX]
  omega
theorem y58{CX:CXT}{P:Program}{w:World}{K:PySem.W.Frag}{mg:Str->Option Value}{base:Heap}{k:Nat}{f:Addr}{name qual:Str}{params:Arguments}{body:List Stmt}{scope:Scope}{dV kV doc pm cdv ct oc:Value}{an od:Option Addr}
  {osl:Array (Option Value)}{N ps:List Str}{sp:Sp} (lk:K.lookup f=some ⟨oc,od,.func (PySem.W.fnOf name qual params body scope dV kV doc pm an cdv ct),osl⟩) (hcd:PySem.W.codeIn K cdv qual=true) (S:A3 N ps scope)
  (len:∀vs H Q E,sp vs H Q E->vs.length=ps.length)
  (R1:∀(A:Around) (outer:List Env) (s:Shared) (H:Hp) (vs:List V) (Q:VK) (E:XK),E5 k (A.deeper (envOfC qual scope s.heap.objs.size f cdv))->sp vs H Q E->
   ∃t,PSs (B8 CX P w K mg base N qual scope f cdv A outer s H E) body t/\t { nx:=fun _ H'=>Q .non H',rt:=Q } (z5h N vs) H) :
  A8 P w K mg base CX (k+1) f (PySem.W.fnOf name qual params body scope dV kV doc pm an cdv ct) ps sp:=by
 refine⟨len,fun A outer s H args us vs Q E hr e0 hb r hsp=>?_⟩
 have hl:=len _ _ _ _ hsp
 have KX:K.In s.heap:=e0.mod.kin.keeps fun b o e=>(e0.bs b o e).1
 have lim:s.heap.NoLimit:=e0.mod.nolimit.keeps fun b o e=>(e0.bs b o e).1
 have w1f:∀y∈ps.zip us,scope.names.lookup y.1=some .local\/(scope.names.lookup y.1=some .cell/\((cellsFrom (s.heap.objs.size+1) scope.names []).lookup y.1).isSome=true):=fun⟨n,v⟩ hy=>by
  rcases S.par n (List.of_mem_zip hy).1 with q|q
  ·exact .inl q
  ·exact .inr ⟨q,PySem.W.cellsFrom_some _ _ _ (.inl q)⟩
 refine codeAny_call_function hr.depth (KX _ _ lk) rfl S.co S.gen rfl (PySem.W.codeRec_of KX hcd) (hb _ _ _ _ ?_)
 refine wpAny_newFunctionEnv_cells S.kind w1f fun env he s1 x=>?_
 subst he
 refine⟨lim.keeps x.toInCall.keep,codeAny_func ?_⟩
 obtain⟨t,ht,hq⟩:=R1 A outer s H vs Q E (hr.deeper _) hsp
 have I:Inv (B8 CX P w K mg base N qual scope f cdv A outer s H E) [] (z5h N vs) H s1:=y4g S hr.hd e0 hl r x
 refine wpAny_mono (ht [] s1 (z5h N vs) H _ I hq) (fun fl s' hs=>?_) fun e s' hs=>hs
 have fin:∀{σ':St}{H':Hp}{v:V}{u:Value},Inv (B8 CX P w K mg base N qual scope f cdv A outer s H E) [] σ' H' s'->RelV v u->Q v H'->CE outer P w H s Q u s':=
  fun {σ' H' v u} J rv q=>⟨v,H',J.os,J.bare,J.base,J.hok,rv,q⟩
 cases fl with
 | ret u=>
  obtain⟨v,σ',H',J,rv,q⟩:=hs
  exact fin J rv q
 | next=>
  obtain⟨σ',H',J,q⟩:=hs
  exact fin (v:=V.non) (u:=Value.none) J rfl q
 | brk=>
  obtain⟨_,_,_,q⟩:=hs
  exact False.elim q
 | cont=>
  obtain⟨_,_,_,q⟩:=hs
  exact False.elim q
section
variable{X:Cx}{x:Str}{p pos:Pos}{e:Expr}{es:List Expr}{t:TA}{id T:String}{r:List V->Hp->VK->Prop}
noncomputable def tCB(r:List V->Hp->VK->Prop)(t:TA):TE:=fun σ H Q=>t σ H fun vs H1=>r vs H1 Q
theorem z0b(hc:z3L X (.builtin id) r)(hg:Gl X x)(hm:X.mg x=none)(hv:bootBuiltins x=some (.builtin id))(ha:PA X (e::es) t)(hn:x≠"__name__":=by decide)(hdb:(x == ("__debug__":Str))=false:=by decide)
  (he:starEach (e::es) X.env=(false,eval e X.env)::starEach es X.env:=by rfl) (hpl:(backTo pos (starEach es X.env)).any (·.1)=false:=by rfl):PE X (.Call (.Name x p) (e::es) [] pos) (tCB r t):=by
 intro pins s σ H Q I h
 refine wpAny_Call_Name_kw (z69 I hg hm hv ?_ hn hdb)
 exact PyProof.Rows.callWith_builtin1 (thn (ha pos pins s σ H _ I h) fun us s1 ⟨vs,H1,I1,r1,q1⟩=>hc pins s1 σ H1 vs us Q I1 r1 q1) he hpl
theorem z0q(hc:z3L X (.type T) r)(hg:Gl X x)(hm:X.mg x=none)(hv:bootBuiltins x=some (.type T))(ha:PA X (e::es) t)(hn:x≠"__name__":=by decide)(hdb:(x == ("__debug__":Str))=false:=by decide)
  (he:starEach (e::es) X.env=(false,eval e X.env)::starEach es X.env:=by rfl) (hpl:(backTo pos (starEach es X.env)).any (·.1)=false:=by rfl):PE X (.Call (.Name x p) (e::es) [] pos) (tCB r t):=by
 intro pins s σ H Q I h
 refine wpAny_Call_Name_kw (z69 I hg hm hv ?_ hn hdb)
 exact dJ (thn (ha pos pins s σ H _ I h) fun us s1 ⟨vs,H1,I1,r1,q1⟩=>hc pins s1 σ H1 vs us Q I1 r1 q1) he hpl
end
end L2
namespace HT
open PySem PyProof.Rows
section
open PySem.SeqAt
open PySem.AutoSeq1 (wpAny_loadPart')
open PySem.MeetsSeq PySem.MeetsSeq2 PySem.MeetsSeq3
end
section
variable{prog:Program}{w:World}{A:Around}{E:Value->Shared->Prop}{s:Shared}
theorem y3H{t b:Addr}{vs ws:List Value}{Q:Value->Shared->Prop}(ht:IsTup s.heap t vs.toArray)(hb:IsTup s.heap b ws.toArray)(hv:vs≠[])
  (h1:ws=[]->Q (.ref t) s) (h2:ws≠[]->Q (.ref s.heap.objs.size) { s with heap:=s.heap.push { cls:=.type "tuple",data:=.seq (vs++ws).toArray } })
  (hsz:vs.length+ws.length≤sizeLine):wpAny (model prog w) A (binaryOp .Add (.ref t) (.ref b)) Q E s:=by
 obtain⟨⟨cls,dd,data,sl⟩,ho,hc,n,hd⟩:=id ht
 obtain⟨⟨cls2,dd2,data2,sl2⟩,ho2,hc2,n2,hd2⟩:=id hb
 simp only at hc hd hc2 hd2
 subst hc hd hc2 hd2
 have e:vs.toArray++ws.toArray=(vs++ws).toArray:=by simp
 by_cases hw:ws=[]
 ·exact concat_meets ⟨_,ho,rfl⟩ ⟨_,ho2,rfl⟩ noFill_tuple_add seq_tuple_add gP gH (g8 _ _)
   (tuple_addW1 t b vs.toArray ws.toArray n n2 dd dd2 sl sl2 (by simpa using hv) (by simp[hw])) ⟨ho,ho2,h1 hw⟩
 ·refine concat_meets ⟨_,ho,rfl⟩ ⟨_,ho2,rfl⟩ noFill_tuple_add seq_tuple_add gP gH (g8 _ _)
   (tuple_addW2 t b vs.toArray ws.toArray n n2 dd dd2 sl sl2 (by simpa using hv) (by simpa using hw) (by rw[bF,bF];exact hsz)) ⟨ho,ho2,?_⟩
  rw[e]
  exact h2 hw
noncomputable def sIx(n d:Nat):Option Int->Nat
 | none=>d
 | some v=>if v<0 then (v+(n:Int)).toNat else min v.toNat n
theorem y47(n d k:Nat):sIx n d (some (k:Int))=min k n:=by
 show(if (k:Int)<0 then ((k:Int)+(n:Int)).toNat else min (k:Int).toNat n)=min k n
 rw[if_neg (by omega),Int.toNat_natCast]
theorem y6w(n d:Nat)(hd:d≤n)(o:Option Int):sIx n d o≤n:=by
 cases o with
 | none=>exact hd
 | some v=>
  show(if v<0 then (v+(n:Int)).toNat else min v.toNat n)≤n
  by_cases hv:v<0
  ·rw[if_pos hv];omega
  ·rw[if_neg hv];exact Nat.min_le_right _ _
theorem y3a(v:Int)(n d:Nat):(if v<0 then max (v+(n:Int)) 0 else min v (n:Int))=((sIx n d (some v):Nat):Int):=by
 show(if v<0 then max (v+(n:Int)) 0 else min v (n:Int))=(((if v<0 then (v+(n:Int)).toNat else min v.toNat n):Nat):Int)
 by_cases hv:v<0
 ·simp only[if_pos hv];omega
 ·simp only[if_neg hv];omega
theorem y2Y(lo hi:Option Int)(n:Nat):Builtin.Slice.sliceAdjust lo hi 1 (n:Int)=(((sIx n 0 lo:Nat):Int),((sIx n n hi:Nat):Int)):=by
 have h1:¬((1:Int)<0):=by omega
 unfold Builtin.Slice.sliceAdjust
 simp only[h1,if_false]
 refine Prod.ext ?_ ?_
 ·cases lo with
  | none=>rfl
  | some v=>exact y3a v n 0
 ·cases hi with
  | none=>rfl
  | some v=>exact y3a v n n
theorem y2w(i j:Nat):Builtin.Slice.slicePlaces (i:Int) (j:Int) 1=j-i:=by
 unfold Builtin.Slice.slicePlaces
 have h1:(1:Int) > 0:=by omega
 simp only[h1,if_true,Int.ediv_one]
 split<;>omega
theorem z8V{v:Value}{o:Option Int}{Q:Option Int->Shared->Prop}(p:IsPart v o)(h:Q o s):wpAny (model prog w) A (Builtin.Slice.slicePartIndex v) Q E s:=by
 cases p with
 | none=>exact slicePart_none h
 | int i t=>exact slicePart_int h
theorem z4h{sl:Addr}{vl vu:Value}{lo hi:Option Int}{n:Nat}{Q:Int×Int×Nat->Shared->Prop}(hs:s.heap.IsSliceOf sl vl vu .none)(pl:IsPart vl lo)(pu:IsPart vu hi)
  (h:Q (((sIx n 0 lo:Nat):Int),1,sIx n n hi-sIx n 0 lo) s):wpAny (model prog w) A (Builtin.Slice.sliceApplied (.ref sl) (pure (n:Int))) Q E s:=by
 obtain⟨os,hos,hcs,hds⟩:=id hs
 unfold Builtin.Slice.sliceApplied Builtin.Slice.sliceFields
 refine wpAny_bind (wpAny_bind (wpAny_field hos hds (x:=vl) rfl (wpAny_bind (wpAny_field hos hds (x:=vu) rfl (wpAny_bind (wpAny_field hos hds (x:=.none) rfl (wpAny_pure ?_)))))))
 refine wpAny_bind (slicePart_none ?_)
 show wpAny _ _ (if ((1:Int) == 0)=true then _ else _) _ _ s
 rw[if_neg (by decide)]
 refine wpAny_bind (z8V pl (wpAny_bind (z8V pu (wpAny_bind (wpAny_pure ?_)))))
 show wpAny _ _ (match Builtin.Slice.sliceAdjust lo hi 1 (n:Int) with|(lo,hi)=>pure (lo,(1:Int),Builtin.Slice.slicePlaces lo hi 1)) _ _ s
 rw[y2Y lo hi n]
 show wpAny _ _ (pure (((sIx n 0 lo:Nat):Int),(1:Int),Builtin.Slice.slicePlaces ((sIx n 0 lo:Nat):Int) ((sIx n n hi:Nat):Int) 1)) _ _ s
 rw[y2w]
 exact wpAny_pure h
theorem y5H(xs:Array Value)(i k:Nat):((List.range k).filterMap fun(m:Nat)=>xs[((i:Int)+(m:Int)*1).toNat]?).toArray=((xs.toList.drop i).take k).toArray:=by
 have e:(fun(m:Nat)=>xs[((i:Int)+(m:Int)*1).toNat]?)=fun m=>xs[i+m]? := by
  funext m
  have:((i:Int)+(m:Int)*1).toNat=i+m:=by omega
  rw[this]
 rw[e]
 have:=pick_run xs i k
 rw[List.filterMap_map] at this
 have e2:((fun x=>xs[x]?) ∘ fun x=>i+x)=fun m=>xs[i+m]? := rfl
 rw[e2] at this
 rw[this]
theorem z6R{t sl:Addr}{items:Array Value}{vl vu:Value}{lo hi:Option Int}{Q:Value->Shared->Prop}(ht:IsTup s.heap t items)(hs:s.heap.IsSliceOf sl vl vu .none)(pl:IsPart vl lo)(pu:IsPart vu hi)
  (hw:¬(sIx items.size 0 lo=0/\sIx items.size items.size hi=items.size))
  (h:Q (.ref s.heap.objs.size) { s with heap:=s.heap.push { cls:=.type "tuple",data:=.seq ((items.toList.drop (sIx items.size 0 lo)).take (sIx items.size items.size hi-sIx items.size 0 lo)).toArray } })
  (hsz:items.size≤sizeLine):wpAny (model prog w) A (getItem (.ref t) (.ref sl)) Q E s:=by
 have X6:sizeOk (.seq ((items.toList.drop (sIx items.size 0 lo)).take (sIx items.size items.size hi-sIx items.size 0 lo)).toArray):=by
  show((items.toList.drop (sIx items.size 0 lo)).take (sIx items.size items.size hi-sIx items.size 0 lo)).toArray.size≤sizeLine
  rw[bF,bO,dF,eS]
  omega
 have hj:sIx items.size items.size hi≤items.size:=y6w _ _ (bE _) hi
 obtain⟨os,hos,hcs,hds⟩:=id hs
 have hTs:s.TypeIs (.ref sl) "slice":=⟨os,hos,hcs⟩
 unfold getItem
 try with_reducible refine wpAny_holding ?_
 first|refine wpAny_bind (wpAny_pure ?_)|skip
 refine wpAny_bind (wpAny_sequenceKey ht.typeIs (by decide) ?_)
 refine wpAny_bind (wpAny_callSpecial?_slot (name:=Str.ofString "__getitem__") ht.typeIs cZ
  (wpAny_call_entry cZ ht.typeIs entry_tuple_getitem ?_ (args_tuple_getitem _ _)))
 show wpAny _ _ (Builtin.Tuple.tupleItemsOf (.ref t) >>= _) _ _ s
 refine wpAny_bind (tupleItemsOf_ ht ?_)
 refine wpAny_bind (wpAny_typeOf hTs ?_)
 rw[if_pos (by decide)]
 refine wpAny_bind (z4h hs pl pu ?_)
 have hno:¬((((sIx items.size 0 lo:Nat):Int) == 0 && (1:Int) == 1 && (sIx items.size items.size hi-sIx items.size 0 lo) == items.size)=true):=by
  intro q
  rw[bW,bW] at q
  have q1:((sIx items.size 0 lo:Nat):Int)=0:=eq_of_beq q.1.1
  have q2:sIx items.size items.size hi-sIx items.size 0 lo=items.size:=eq_of_beq q.2
  exact hw ⟨by omega,by omega⟩
 show wpAny _ _ (if (((sIx items.size 0 lo:Nat):Int) == 0 && (1:Int) == 1 && (sIx items.size items.size hi-sIx items.size 0 lo) == items.size)=true then _ else _) _ _ s
 rw[if_neg hno,y5H]
 first
  | exact wpAny_bind (m:=Builtin.Tuple.tupleExact _) (wpAny_newObj_type (wpAny_pure ⟨_,rfl,wpAny_pure h⟩) X6)
  | exact wpAny_bind (m:=Builtin.Tuple.tupleExact _) (wpAny_newObj_type (wpAny_bind (wpAny_pure (wpAny_pure ⟨_,rfl,wpAny_pure h⟩))) X6)
  | exact wpAny_bind (wpAny_bind (m:=Builtin.Tuple.tupleExact _) (wpAny_newObj_type (wpAny_pure (wpAny_pure ⟨_,rfl,wpAny_pure h⟩)) X6))
  | exact wpAny_bind (wpAny_bind (m:=Builtin.Tuple.tupleExact _) (wpAny_newObj_type (wpAny_pure ⟨_,rfl,wpAny_pure h⟩) X6))
end
end HT
namespace L2
open PySem PySem.Spec PyProof.Rows
abbrev TO:=St->Hp->(Option Int->Hp->Prop)->Prop
noncomputable def PO(X:Cx)(e:Option Expr)(t:TO):Prop:=
 ∀(pins:List (Addr×Obj)) (s:Shared) (σ:St) (H:Hp) (Q:Option Int->Hp->Prop),Inv X pins σ H s->t σ H Q->
  wpAny (model X.prog X.w) X.A (evalPart e X.env) (fun u s'=>∃o H',Inv X pins σ H' s'/\IsPart u o/\Q o H') X.xe s
noncomputable def y6I:TO:=fun _ H Q=>Q none H
noncomputable def w1i(t:TE):TO:=fun σ H Q=>t σ H fun x H1=>∃i,x=.int i/\Q (some i) H1
theorem y30{ns:List Int}:∀{us:List Value},Vals (ns.map V.int) us->IntsAre us ns:=by
 induction ns with
 | nil=>intro us r;rw[List.map_nil] at r;cases r;exact .nil
 | cons n ns ih=>
  intro us r
  rw[cQ] at r
  cases r with
  | cons r1 r2=>
   obtain⟨t,e⟩:=r1
   subst e
   exact .cons n t (ih r2)
section
variable{X:Cx}{e:Expr}{te:TE}{lo hi:Option Expr}{tl th:TO}{pos p2:Pos}
theorem z3e:PO X none y6I:=by
 intro pins s σ H Q I h
 rw[evalPart_none]
 exact wpAny_pure ⟨none,H,I,.none,h⟩
theorem z3c(h:PE X e te):PO X (some e) (w1i te):=by
 intro pins s σ H Q I hw
 rw[evalPart_some]
 refine thn (h pins s σ H _ I hw) fun u s1 hz=>?_
 obtain⟨x,H1,I1,r1,q1⟩:=hz
 obtain⟨i,rfl,q⟩:=q1
 obtain⟨t,rfl⟩:=r1
 exact⟨some i,H1,I1,.int i t,q⟩
noncomputable def SlR(X:Cx)(r:V->Option Int->Option Int->Hp->VK->Prop):Prop:=
 ∀(pins:List (Addr×Obj)) (s:Shared) (σ:St) (H:Hp) (x:V) (v vl vu:Value) (lo hi:Option Int) (sl:Addr) (Q:VK),Inv X pins σ H s->RelV x v->s.heap.IsSliceOf sl vl vu .none->IsPart vl lo->IsPart vu hi->r x lo hi H Q->
  ∃T id,typeLookup (.type T) "__getitem__"=pure (some (.builtin id))/\s.TypeIs v T/\wpAny (model X.prog X.w) X.A (getItem v (.ref sl)) (EP X pins σ Q) X.xe s
noncomputable def tSl(r:V->Option Int->Option Int->Hp->VK->Prop)(te:TE)(tl th:TO):TE:=fun σ H Q=>te σ H fun x H1=>tl σ H1 fun l H2=>th σ H2 fun u H3=>r x l u H3 Q
theorem z2p{r:V->Option Int->Option Int->Hp->VK->Prop}(hr:SlR X r)(he:PE X e te)(hl:PO X lo tl)(hu:PO X hi th):PE X (.Subscript e (.Slice lo hi none p2) pos) (tSl r te tl th):=by
 intro pins s σ H Q I h
 refine Subscript_ (thn (he pins s σ H _ I h) fun v s1 hz=>?_)
 obtain⟨x,H1,I1,r1,q1⟩:=hz
 refine wpAny_Slice (thn (hl pins s1 σ H1 _ I1 q1) fun vl s2 ⟨l,H2,I2,pl,q2⟩=>thn (hu pins s2 σ H2 _ I2 q2) fun vu s3 hz=>?_)
 obtain⟨u,H3,I3,pu,q3⟩:=hz
 rw[evalPart_none]
 refine wpAny_pure ?_
 have I4:Inv X pins σ H3 { s3 with heap:=s3.heap.push { cls:=.type "slice",data:=.fields #[vl,vu,.none] } }:=I3.kept (t':=s3.toks) fun b ob q=>bA _ q
 obtain⟨T,id,hT,ht,hg⟩:=hr pins { s3 with heap:=s3.heap.push { cls:=.type "slice",data:=.fields #[vl,vu,.none] } } σ H3 x v vl vu l u s3.heap.objs.size Q I4 r1 (Heap.IsSliceOf.new ..) pl pu q3
 show wpAny (model X.prog X.w) X.A (subscriptTail e (.Slice lo hi none p2) v (.ref s3.heap.objs.size)) (EP X pins σ Q) X.xe { s3 with heap:=s3.heap.push { cls:=.type "slice",data:=.fields #[vl,vu,.none] } }
 exact tail_any (ops:=[.ref s3.heap.objs.size,v]) ht hT hg (by with_unfolding_all rfl)
noncomputable def R9(xs:List V)(lo hi:Option Int):List V:=(xs.drop (HT.sIx xs.length 0 lo)).take (HT.sIx xs.length xs.length hi-HT.sIx xs.length 0 lo)
theorem z85(xs:List V)(lo hi:Option Int):(R9 xs lo hi).length≤xs.length:=by
 unfold R9
 rw[bO,dF]
 omega
noncomputable def rSlT(K:PySem.W.Frag):V->Option Int->Option Int->Hp->VK->Prop:=fun x lo hi H Q=>∃a xs,x=.ref a/\SqT K H a xs/\
 ¬(HT.sIx xs.length 0 lo=0/\HT.sIx xs.length xs.length hi=xs.length)/\∀p,H p=none->Q (.ref p) (upd H p (.tup (R9 xs lo hi)))
theorem y49:SlR X (rSlT X.K):=by
 intro pins s σ H x v vl vu lo hi sl Q I rx hs pl pu h
 obtain⟨a,xs,rfl,hx,hw,q⟩:=h
 cases rx
 obtain⟨its,r,ht,hz⟩:=I.tuple hx
 have hlen:its.toArray.size=xs.length:=by rw[bF];exact r.length.symm
 refine⟨"tuple",_,cZ.lookup,ht.typeIs,?_⟩
 refine HT.z6R ht hs pl pu (by rw[hlen];exact hw) ?_ (by rw[hlen];exact hz)
 rw[hlen]
 refine⟨.ref s.heap.objs.size,_,I.laid (t':=s.toks) (o:=.tup (R9 xs lo hi)) (fun b ob q=>bA _ q) (bE _) ?_,rfl,q _ (I.hok.fresh (bE _))⟩
 exact⟨cL (z85 xs lo hi) hz,_,(r.drop (HT.sIx xs.length 0 lo)).take (HT.sIx xs.length xs.length hi-HT.sIx xs.length 0 lo),PlT.new _ _⟩
noncomputable def y82(K:PySem.W.Frag):R2:=fun x y H Q=>∃a b xs ys,x=.ref a/\y=.ref b/\SqT K H a xs/\SqT K H b ys/\xs≠[]/\xs.length+ys.length≤sizeLine/\
 (ys=[]->Q (.ref a) H)/\(ys≠[]->∀p,H p=none->Q (.ref p) (upd H p (.tup (xs++ys))))
theorem Vals.R3{xs:List V}{us:List Value}(r:Vals xs us):us=[]↔xs=[]:=by
 cases r with
 | nil=>simp
 | cons _ _=>simp
theorem y6X:OpR X (binaryOp .Add) (y82 X.K):=by
 intro pins s σ H x y v u Q I rx ry h
 obtain⟨a,b,xs,ys,rfl,rfl,ha,hb,hx,hz,q1,q2⟩:=h
 cases rx
 cases ry
 obtain⟨its,r1,p1,_⟩:=I.tuple ha
 obtain⟨N6,r2,p2,_⟩:=I.tuple hb
 refine HT.y3H p1 p2 (fun z=>hx (r1.R3.mp z)) (fun z=>⟨.ref a,H,I,rfl,q1 (r2.R3.mp z)⟩) (fun z=>?_) (by rw[<- r1.length,<- r2.length];exact hz)
 refine⟨.ref s.heap.objs.size,_,I.laid (t':=s.toks) (o:=.tup (xs++ys)) (fun b ob q=>bA _ q) (bE _) ?_,rfl,q2 (fun w=>z (r2.R3.mpr w)) _ (I.hok.fresh (bE _))⟩
 exact⟨by rw[bN];exact hz,_,r1.append r2,PlT.new _ _⟩
end
noncomputable def ixN(n:Nat)(i:Int):Option Nat:=if 0≤i then (if i<n then some i.toNat else none) else if -(n:Int)≤i then some (i+n).toNat else none
noncomputable def atI{α:Type}(xs:List α)(i:Int):Option α:=(ixN xs.length i).bind fun j=>xs[j]?
theorem y6H{n:Nat}{i:Int}{j:Nat}(h:ixN n i=some j):seqIndex? i n=some j/\j<n/\-(n:Int)≤i/\i<n:=by
 unfold ixN at h
 by_cases h0:0≤i
 ·rw[if_pos h0] at h
  by_cases h1:i<n
  ·rw[if_pos h1] at h
   have e:i.toNat=j:=Option.some.inj h
   exact⟨by rw[seqIndex_of h0 h1,e],by omega,by omega,h1⟩
  ·rw[if_neg h1] at h;cases h
 ·rw[if_neg h0] at h
  by_cases h1:-(n:Int)≤i
  ·rw[if_pos h1] at h
   have e:(i+n).toNat=j:=Option.some.inj h
   exact⟨by rw[seqIndex_neg (by omega) h1,e],by omega,h1,by omega⟩
  ·rw[if_neg h1] at h;cases h
theorem y19{α:Type}{xs:List α}{i:Int}{v:α}(h:atI xs i=some v):∃j,seqIndex? i xs.length=some j/\xs[j]? = some v/\j<xs.length/\-(xs.length:Int)≤i/\i<xs.length:=by
 unfold atI at h
 cases e:ixN xs.length i with
 | none=>rw[e] at h;cases h
 | some j=>
  rw[e] at h
  obtain⟨h1,h2,h3,h4⟩:=y6H e
  exact⟨j,h1,h,h2,h3,h4⟩
theorem z1O{α:Type}{xs:List α}{j:Nat}{v:α}(h:xs[j]? = some v):atI xs (j:Int)=some v:=by
 have hj:j<xs.length:=(cJ.mp h).1
 have e:ixN xs.length (j:Int)=some j:=by
  unfold ixN
  rw[if_pos (by omega),if_pos (by omega)];simp
 unfold atI;rw[e];exact h
theorem y56{α:Type}(xs:List α)(v:α):atI (xs++[v]) (-1)=some v:=by
 have hl:(xs++[v]).length=xs.length+1:=by simp
 have e:ixN (xs++[v]).length (-1)=some xs.length:=by
  unfold ixN
  rw[hl,if_neg (by decide),if_pos (by omega)]
  congr 1
  omega
 unfold atI
 rw[e]
 show(xs++[v])[xs.length]? = some v
 simp
noncomputable def y75(b:Expr):Prop:=∀o i,subscripted b false o i=operate [o,i] (getItem o i)
noncomputable def IxR(X:Cx)(r:R2):Prop:=
 ∀(value slice:Expr) (pins:List (Addr×Obj)) (s:Shared) (σ:St) (H:Hp) (x y:V) (v u:Value) (Q:VK),Inv X pins σ H s->RelV x v->RelV y u->r x y H Q->
  subscripted slice false v u=operate [v,u] (getItem v u)->wpAny (model X.prog X.w) X.A (subscriptTail value slice v u) (EP X pins σ Q) X.xe s
noncomputable def MtR(X:Cx)(id:String)(r:V->List V->Hp->VK->Prop):Prop:=
 ∀(pins:List (Addr×Obj)) (s:Shared) (σ:St) (H:Hp) (x:V) (xs:List V) (v:Value) (us:List Value) (Q:VK),Inv X pins σ H s->RelV x v->Vals xs us->r x xs H Q->
  wpAny (model X.prog X.w) X.A (call (.builtin id) (v::us)) (EP X pins σ Q) X.xe s
section
variable{X:Cx}{a b:Expr}{ta tb:TE}{pos:Pos}
theorem IxR.or{r r':R2}(h:IxR X r)(h':IxR X r'):IxR X (fun x y H Q=>r x y H Q\/r' x y H Q):=by
 intro value slice pins s σ H x y v u Q I rx ry q hs
 rcases q with q|q
 ·exact h value slice pins s σ H x y v u Q I rx ry q hs
 ·exact h' value slice pins s σ H x y v u Q I rx ry q hs
theorem z0M{r:R2}(hr:IxR X r)(ha:PE X a ta)(hb:PE X b tb)(hs:y75 b):PE X (.Subscript a b pos) (tOp r ta tb):=by
 intro pins s σ H Q I h
 exact Subscript_ (w0H ha hb I h fun v u s2 x y H2 I2 rx ry q=>hr a b pins s2 σ H2 x y v u Q I2 rx ry q (hs _ _))
noncomputable def w0E(K:PySem.W.Frag):R2:=fun x y H Q=>∃p xs i v,x=.ref p/\y=.int i/\SqL K H p xs/\atI xs i=some v/\Q v H
noncomputable def R6(K:PySem.W.Frag):R2:=fun x y H Q=>∃p xs i v,x=.ref p/\y=.int i/\SqT K H p xs/\atI xs i=some v/\Q v H
noncomputable def rIxS:R2:=fun x y H Q=>∃z i c,x=.str z/\y=.int i/\z.length≤sizeLine/\atI z.cps.toList i=some c/\Q (.str ⟨#[c]⟩) H
theorem z0N:IxR X (w0E X.K):=by
 intro value slice pins s σ H x y v u Q I rx ry h hs
 obtain⟨p,xs,i,z,rfl,rfl,hq,he,q⟩:=h
 cases rx
 obtain⟨t,rfl⟩:=ry
 obtain⟨its,r,pl,hz⟩:=I.list hq
 obtain⟨j,h1,h2,h3,h4,h5⟩:=y19 he
 obtain⟨w,ew,rw'⟩:=r.get h2
 have hl:=r.length
 have hn:=z76
 have fin:EP X pins σ Q w s:=⟨z,H,I,rw',q⟩
 by_cases h0:0≤i
 ·have hj:i.toNat=j:=by
   rw[seqIndex_of h0 h5] at h1
   exact Option.some.inj h1
  exact item_listR pl.isList h0 (by omega) (by rw[hj];simpa using ew) fin hs
 ·have hj:(i+(its.toArray.size:Int)).toNat=j:=by
   rw[seqIndex_neg (by omega) h4] at h1
   rw[bF,<- hl]
   exact Option.some.inj h1
  exact subscriptTail_builtinR (x:=w) pl.isList.typeIs slot_list_getitem.lookup
   (wpAny_getItem_list_neg (Q:=fun r s'=>r=w/\EP X pins σ Q r s') pl.isList (by omega) (by rw[bF]<;>omega) (by omega) (by rw[hj];simpa using ew) ⟨rfl,fin⟩) hs
theorem z1b:IxR X (R6 X.K):=by
 intro value slice pins s σ H x y v u Q I rx ry h hs
 obtain⟨p,xs,i,z,rfl,rfl,hq,he,q⟩:=h
 cases rx
 obtain⟨t,rfl⟩:=ry
 obtain⟨its,r,pl,hz⟩:=I.tuple hq
 obtain⟨j,h1,h2,h3,h4,h5⟩:=y19 he
 obtain⟨w,ew,rw'⟩:=r.get h2
 have hl:=r.length
 have hn:=z76
 have fin:EP X pins σ Q w s:=⟨z,H,I,rw',q⟩
 exact subscriptTail_builtinR (x:=w) pl.typeIs slot_tuple_getitem.lookup
  (getItem_tuple (j:=j) (Q:=fun r s'=>r=w/\EP X pins σ Q r s') pl (by omega) (by omega) (by rw[bF,<- hl];exact h1) (by simpa using ew) ⟨rfl,fin⟩) hs
theorem y3X:IxR X rIxS:=by
 intro value slice pins s σ H x y v u Q I rx ry h hs
 obtain⟨z,i,c,rfl,rfl,hz,he,q⟩:=h
 obtain⟨t,rfl⟩:=rx
 obtain⟨t',rfl⟩:=ry
 obtain⟨j,h1,h2,h3,h4,h5⟩:=y19 he
 have hl:z.cps.toList.length=z.length:=by simp[Str.length]
 rw[hl] at h1 h4 h5
 have hn:=z76
 exact tail_any (typeIs_str s z t) slot_str_getitem.lookup (getItem_str (c:=c) (by
  have e1:decide (i < -(2^63:Int))=false:=decide_eq_false (by omega)
  have e2:decide (i≥2^63)=false:=decide_eq_false (by omega)
  rw[e1,e2,Bool.or_false]) (by rw[h1];simpa using h2) ⟨.str ⟨#[c]⟩,H,I.tok _,⟨_,rfl⟩,q⟩) hs
noncomputable def rIx(K:PySem.W.Frag):R2:=fun x y H Q=>w0E K x y H Q\/R6 K x y H Q\/rIxS x y H Q
theorem y7U:IxR X (rIx X.K):=z0N.or (z1b.or y3X)
theorem z7b(lo hi:Option Int)(n:Nat):(sliceBounds lo hi none n).1=((HT.sIx n 0 lo:Nat):Int)/\(sliceBounds lo hi none n).2.1=((HT.sIx n n hi:Nat):Int)/\(sliceBounds lo hi none n).2.2=1:=by
 refine⟨?_,?_,rfl⟩
 ·cases lo with
  | none=>simp[sliceBounds,HT.sIx]
  | some i=>
   simp only[sliceBounds,HT.sIx,Option.getD_none,show(1:Int) > 0 by decide,if_true]
   by_cases h:i<0
   ·simp only[h,if_true]<;>omega
   ·simp only[h,if_false]<;>omega
 ·cases hi with
  | none=>simp[sliceBounds,HT.sIx]
  | some i=>
   simp only[sliceBounds,HT.sIx,Option.getD_none,show(1:Int) > 0 by decide,if_true]
   by_cases h:i<0
   ·simp only[h,if_true]<;>omega
   ·simp only[h,if_false]<;>omega
theorem z9M(its:List Value)(lo hi:Option Int):slicePick its.toArray lo hi none=((its.drop (HT.sIx its.length 0 lo)).take (HT.sIx its.length its.length hi-HT.sIx its.length 0 lo)).toArray:=by
 obtain⟨h1,h2,h3⟩:=z7b lo hi its.toArray.size
 unfold slicePick
 rw[h1,h2,h3]
 simp only[sliceRange_one,pick_run,bF]<;>rfl
noncomputable def rSlL(K:PySem.W.Frag):V->Option Int->Option Int->Hp->VK->Prop:=fun x lo hi H Q=>∃a xs,x=.ref a/\SqL K H a xs/\∀p,H p=none->Q (.ref p) (upd H p (.lst (R9 xs lo hi)))
theorem y4U:SlR X (rSlL X.K):=by
 intro pins s σ H x v vl vu lo hi sl Q I rx hs pl pu h
 obtain⟨a,xs,rfl,hx,q⟩:=h
 cases rx
 obtain⟨its,r,ht,hz⟩:=I.list hx
 have hlen:=r.length
 refine⟨"list",_,slot_list_getitem.lookup,ht.isList.typeIs,?_⟩
 refine wpAny_getItem_list_slice ht.isList hs pl pu .none (by simp) ?_ (by rw[bF]<;>omega)
 rw[z9M,<- hlen]
 refine⟨.ref s.heap.objs.size,_,I.laid (t':=s.toks) (o:=.lst (R9 xs lo hi)) (fun b ob q=>bA _ q) (bE _) ?_,rfl,q _ (I.hok.fresh (bE _))⟩
 exact⟨cL (z85 xs lo hi) hz,_,0,(r.drop (HT.sIx xs.length 0 lo)).take (HT.sIx xs.length xs.length hi-HT.sIx xs.length 0 lo),bJ _ rfl⟩
noncomputable def z22:V->Bool
 | .non=>true
 | .bl _=>true
 | .int _=>true
 | .str _=>true
 | _=>false
noncomputable def eqV:V->V->Bool
 | .non,.non=>true
 | .bl a,.bl b=>a == b
 | .bl a,.int b=>(if a then 1 else 0) == b
 | .int a,.bl b=>a == (if b then 1 else 0)
 | .int a,.int b=>a == b
 | .str a,.str b=>a == b
 | _,_=>false
theorem y4D{A:Around}{s:Shared}{y x:V}{u v:Value}(ry:RelV y u)(rx:RelV x v)(fy:z22 y=true)(fx:z22 x=true):SeqAt.EqAt A s u v (eqV y x):=by
 cases y with
 | non=>
  cases ry
  cases x with
  | non=>cases rx;exact SeqAt.EqAt.same _
  | bl b=>cases rx;exact SeqAt.EqAt.none_bool b
  | int b=>obtain⟨t,rfl⟩:=rx;exact SeqAt.EqAt.none_int b t
  | str b=>obtain⟨t,rfl⟩:=rx;exact SeqAt.EqAt.none_str b t
  | _=>exact absurd (show false=true from fx) bM
 | bl a=>
  cases ry
  cases x with
  | non=>cases rx;exact SeqAt.EqAt.bool_none a
  | bl b=>cases rx;exact SeqAt.EqAt.bool_bool a b
  | int b=>obtain⟨t,rfl⟩:=rx;exact SeqAt.EqAt.bool_int a b t
  | str b=>obtain⟨t,rfl⟩:=rx;exact SeqAt.EqAt.bool_str a b t
  | _=>exact absurd (show false=true from fx) bM
 | int a=>
  obtain⟨t',rfl⟩:=ry
  cases x with
  | non=>cases rx;exact SeqAt.EqAt.int_none a t'
  | bl b=>cases rx;exact SeqAt.EqAt.int_bool a t' b
  | int b=>obtain⟨t,rfl⟩:=rx;exact SeqAt.EqAt.int_int a t' b t
  | str b=>obtain⟨t,rfl⟩:=rx;exact SeqAt.EqAt.int_str a t' b t
  | _=>exact absurd (show false=true from fx) bM
 | str a=>
  obtain⟨t',rfl⟩:=ry
  cases x with
  | non=>cases rx;exact SeqAt.EqAt.str_none a t'
  | bl b=>cases rx;exact SeqAt.EqAt.str_bool a t' b
  | int b=>obtain⟨t,rfl⟩:=rx;exact SeqAt.EqAt.str_int a t' b t
  | str b=>obtain⟨t,rfl⟩:=rx;exact SeqAt.EqAt.str_str a t' b t
  | _=>exact absurd (show false=true from fx) bM
 | _=>exact absurd (show false=true from fy) bM
noncomputable def eqU(x:V)(u:Value):Bool:=match u with
 | .none=>eqV .non x
 | .bool b=>eqV (.bl b) x
 | .int i _=>eqV (.int i) x
 | .str z _=>eqV (.str z) x
 | _=>false
theorem y1Y{x y:V}{u:Value}(r:RelV y u)(f:z22 y=true):eqU x u=eqV y x:=by
 cases y with
 | non=>cases r;rfl
 | bl b=>cases r;rfl
 | int i=>obtain⟨t,rfl⟩:=r;rfl
 | str z=>obtain⟨t,rfl⟩:=r;rfl
 | _=>exact absurd (show false=true from f) bM
theorem z8e{x:V}:∀{xs:List V}{us:List Value},Vals xs us->xs.all z22=true->us.any (eqU x)=xs.any fun y=>eqV y x
 | _,_,.nil,_=>rfl
 | y::xs,u::us,.cons r t,f=>by
  rw[fA,bW] at f
  rw[fB,fB,y1Y r f.1,z8e t f.2]
theorem z4X{A:Around}{s:Shared}{x:V}{v:Value}(rx:RelV x v)(fx:z22 x=true):∀{xs:List V}{us:List Value},Vals xs us->xs.all z22=true->∀u∈us,SeqAt.EqAt A s u v (eqU x u)
 | _,_,.nil,_=>fun u hu=>by cases hu
 | y::xs,u::us,.cons r t,f=>fun u' hu=>by
  rw[fA,bW] at f
  rcases bD.mp hu with rfl|hu
  ·rw[y1Y r f.1];exact y4D r rx f.1 fx
  ·exact z4X rx fx t f.2 u' hu
noncomputable def inV(x:V)(xs:List V):Bool:=xs.any fun y=>eqV y x
noncomputable def rIn(K:PySem.W.Frag)(neg:Bool):R2:=fun x y H Q=>∃p xs,y=.ref p/\(SqL K H p xs\/SqT K H p xs)/\z22 x=true/\xs.all z22=true/\Q (.bl (if neg then !inV x xs else inV x xs)) H
theorem z66:OpR X (compareOp .In) (rIn X.K false):=by
 intro pins s σ H x y v u Q I rx ry h
 obtain⟨p,xs,rfl,hq,fx,fs,q⟩:=h
 cases ry
 rcases hq with hq|hq
 ·obtain⟨its,r,pl,hz⟩:=I.list hq
  refine SeqAt.in_listAt (eqU x) pl.isList (fun w hw=>z4X rx fx r fs w (by simpa using hw)) ⟨.bl _,H,I,rfl,?_⟩
  rw[show its.toArray.any (eqU x)=its.any (eqU x) by simp,z8e r fs]
  exact q
 ·obtain⟨its,r,pl,hz⟩:=I.tuple hq
  refine SeqAt.in_tupleAt (eqU x) pl (fun w hw=>z4X rx fx r fs w (by simpa using hw)) ⟨.bl _,H,I,rfl,?_⟩
  rw[show its.toArray.any (eqU x)=its.any (eqU x) by simp,z8e r fs]
  exact q
theorem z2f:OpR X (compareOp .NotIn) (rIn X.K true):=by
 intro pins s σ H x y v u Q I rx ry h
 obtain⟨p,xs,rfl,hq,fx,fs,q⟩:=h
 cases ry
 rcases hq with hq|hq
 ·obtain⟨its,r,pl,hz⟩:=I.list hq
  refine SeqAt.notIn_listAt (eqU x) pl.isList (fun w hw=>z4X rx fx r fs w (by simpa using hw)) ⟨.bl _,H,I,rfl,?_⟩
  rw[show its.toArray.any (eqU x)=its.any (eqU x) by simp,z8e r fs]
  exact q
 ·obtain⟨its,r,pl,hz⟩:=I.tuple hq
  refine SeqAt.notIn_tupleAt (eqU x) pl (fun w hw=>z4X rx fx r fs w (by simpa using hw)) ⟨.bl _,H,I,rfl,?_⟩
  rw[show its.toArray.any (eqU x)=its.any (eqU x) by simp,z8e r fs]
  exact q
theorem z09:z3L X (.builtin "len") (fun xs H Q=>∃p ys,xs=[.ref p]/\(SqL X.K H p ys\/SqT X.K H p ys)/\Q (.int ys.length) H):=by
 intro pins s σ H xs us Q I r h
 obtain⟨p,ys,rfl,hq,q⟩:=h
 obtain⟨u,rfl,rx⟩:=z51 r
 cases rx
 have hn:=z76
 rcases hq with hq|hq
 ·obtain⟨its,r',pl,hz⟩:=I.list hq
  have hlen:=r'.length
  exact Calls.call_len_list pl.isList (by simp only[bF]<;>omega) ⟨.int ys.length,H,I.tok _,⟨s.toks+1,by rw[bF,hlen]⟩,q⟩
 ·obtain⟨its,r',pl,hz⟩:=I.tuple hq
  have hlen:=r'.length
  exact len_tuple pl (by simp only[bF]<;>omega) ⟨.int ys.length,H,I.tok _,⟨s.toks+1,by rw[bF,hlen]⟩,q⟩
theorem z6X:z3L X (.builtin "len") (fun xs H Q=>∃z,xs=[.str z]/\z.length≤sizeLine/\Q (.int z.length) H):=by
 intro pins s σ H xs us Q I r h
 obtain⟨z,rfl,hz,q⟩:=h
 obtain⟨u,rfl,t,rfl⟩:=z51 r
 have hn:=z76
 exact len_str (by omega) ⟨.int z.length,H,I.tok _,⟨_,rfl⟩,q⟩
theorem z4t:z3L X (.type "list") (fun xs H Q=>∃p ys,xs=[.ref p]/\(SqL X.K H p ys\/SqT X.K H p ys)/\∀l,H l=none->Q (.ref l) (upd H l (.lst ys))):=by
 intro pins s σ H xs us Q I r h
 obtain⟨p,ys,rfl,hq,q⟩:=h
 obtain⟨u,rfl,rx⟩:=z51 r
 cases rx
 have fin:∀(its:List Value),Vals ys its->ys.length≤sizeLine->∀(h':Heap) (c':Nat),(∀b o',s.heap.get? b=some o'->h'.get? b=some o')->
   h'.get? s.heap.objs.size=some { cls:=.type "list",dict:=none,data:=.seq its.toArray c',slots:=#[] }->EP X pins σ Q (.ref s.heap.objs.size) { s with heap:=h' }:=fun its r' hz h' c' kp e=>
  ⟨.ref s.heap.objs.size,_,I.laid (t':=s.toks) kp (bE _) (show z1t X.prog X.w _ h' _ (.lst ys) from⟨hz,its,c',r',e⟩),rfl,q _ (I.hok.fresh (bE _))⟩
 rcases hq with hq|hq
 ·obtain⟨its,r',pl,hz⟩:=I.list hq
  have hlen:=r'.length
  obtain⟨o,ho,hc,n,hd⟩:=pl.isList
  exact call_list_seq p (.inl rfl) ho hc hd (fun h' c' kp e=>fin its r' hz h' c' kp e) (by simp only[bF]<;>omega)
 ·obtain⟨its,r',pl,hz⟩:=I.tuple hq
  have hlen:=r'.length
  obtain⟨o,ho,hc,n,hd⟩:=pl
  exact call_list_seq p (.inr rfl) ho hc hd (fun h' c' kp e=>fin its r' hz h' c' kp e) (by simp only[bF]<;>omega)
theorem z0l:z3L X (.type "tuple") (fun xs H Q=>∃p ys,xs=[.ref p]/\((SqL X.K H p ys/\∀l,H l=none->Q (.ref l) (upd H l (.tup ys)))\/(SqT X.K H p ys/\Q (.ref p) H))):=by
 intro pins s σ H xs us Q I r h
 obtain⟨p,ys,rfl,h⟩:=h
 obtain⟨u,rfl,rx⟩:=z51 r
 cases rx
 rcases h with ⟨hq,q⟩|⟨hq,q⟩
 ·obtain⟨its,r',pl,hz⟩:=I.list hq
  have hlen:=r'.length
  refine call_tuple_list pl.isList (fun h' kp=>?_) (by simp only[bF]<;>omega)
  have I1:Inv X pins σ H { s with heap:=h' }:=I.kept (t':=s.toks) kp
  have I2:Inv X pins σ (upd H h'.objs.size (.tup ys)) { s with heap:=h'.push { cls:=.type "tuple",data:=.seq its.toArray } }:=
   I1.laid (t':=s.toks) (fun b o e=>bA _ e) (bE _) (show z1t X.prog X.w _ _ _ (.tup ys) from⟨hz,its,r',PlT.new _ _⟩)
  exact⟨.ref h'.objs.size,_,I2,rfl,q _ (I1.hok.fresh (bE _))⟩
 ·obtain⟨its,r',pl,hz⟩:=I.tuple hq
  exact call_tuple_same pl ⟨.ref p,H,I,rfl,q⟩
noncomputable def tyV(K:PySem.W.Frag)(T:String)(x:V)(H:Hp):Prop:=match x with
 | .str _=>T="str"
 | .int _=>T="int"
 | .ref p=>(T="list"/\∃xs,SqL K H p xs)\/(T="tuple"/\∃o,K.lookup p=some o/\o.cls=.type "tuple"/\o.dict=none)\/
   (T="dict"/\((∃kvs,H p=some (.dK kvs))\/∃kvs,H p=some (.dT kvs)))\/(T="set"/\∃S n,H p=some (.set S n))
 | _=>False
theorem y6p{pins:List (Addr×Obj)}{σ:St}{H:Hp}{s:Shared}{T:String}{x:V}{v:Value}(I:Inv X pins σ H s)(r:RelV x v)(ty:tyV X.K T x H) :
  s.TypeIs v T/\∀a,v=.ref a->∃ob,s.heap.get? a=some ob/\ob.dict=none:=by
 cases x with
 | str z=>
  obtain⟨t,rfl⟩:=r
  cases (show T="str" from ty)
  exact⟨typeIs_str s z t,fun _ e=>nomatch e⟩
 | int i=>
  obtain⟨t,rfl⟩:=r
  cases (show T="int" from ty)
  exact⟨typeIs_int s i t,fun _ e=>nomatch e⟩
 | ref p=>
  cases r
  rcases ty with ⟨rfl,xs,hq⟩|⟨rfl,o,hk,hc,hd⟩|⟨rfl,hk⟩|⟨rfl,S,n,hk⟩
  ·obtain⟨its,_,pl,_⟩:=I.list hq
   refine⟨pl.isList.typeIs,fun a e=>?_⟩
   cases e
   obtain⟨o,n,e,c,hd,_⟩:=pl
   exact⟨o,e,hd⟩
  ·refine⟨⟨o,I.kIn p o hk,hc⟩,fun a e=>?_⟩
   cases e
   exact⟨o,I.kIn _ o hk,hd⟩
  ·have z:∃o,s.heap.get? p=some o/\o.ExactDict:=by
    rcases hk with ⟨kvs,hk⟩|⟨kvs,hk⟩
    ·obtain⟨_,_,_,_,o,_,_,e,ex,_⟩:=I.hok p _ hk
     exact⟨o,e,ex⟩
    ·obtain⟨_,_,_,_,o,_,_,e,ex,_⟩:=I.hok p _ hk
     exact⟨o,e,ex⟩
   obtain⟨o,e,ex⟩:=z
   refine⟨⟨o,e,ex.1⟩,fun a e2=>?_⟩
   cases e2
   exact⟨o,e,ex.2.1⟩
  ·obtain⟨o,_,_,_,e,ex,_⟩:=I.hok p _ hk
   refine⟨⟨o,e,ex.1⟩,fun a e2=>?_⟩
   cases e2
   exact⟨o,e,ex.2.1⟩
 | _=>exact False.elim ty
noncomputable def tBM0(K:PySem.W.Frag)(T:String)(r:V->List V->Hp->VK->Prop)(to:TE):TE:=fun σ H Q=>to σ H fun x H1=>tyV K T x H1/\r x [] H1 Q
noncomputable def tBM(K:PySem.W.Frag)(T:String)(r:V->List V->Hp->VK->Prop)(to:TE)(t:TA):TE:=fun σ H Q=>to σ H fun x H1=>tyV K T x H1/\t σ H1 fun xs H2=>r x xs H2 Q
variable{o e:Expr}{es:List Expr}{to:TE}{t:TA}{name:Str}{apos Q8:Pos}{T id:String}{r:V->List V->Hp->VK->Prop}
theorem y6h(pa:PlainAttrs T)(slot:Slot T name id)(hty:typeOf (.builtin id)=pure (.type "method_descriptor"))(hm:MtR X id r)(ho:PE X o to)
  (V7:attributeBase o name X.env (eval o X.env)=eval o X.env:=by rfl) (Z1:(apos.endLine == Q8.line)=true:=by rfl):PE X (.Call (.Attribute o name apos) [] [] Q8) (tBM0 X.K T r to):=by
 intro pins s σ H Q I h
 refine wpAny_Call_method0_late V7 Z1 (thn (ho pins s σ H _ I h) fun v s1 hz=>?_)
 obtain⟨x,H1,I1,r1,ty,q1⟩:=hz
 obtain⟨h1,h2⟩:=y6p I1 r1 ty
 exact⟨T,id,pa,slot,hty,h1,h2,Calls.callWith_builtin rfl (PySem.evalArgs_none (hm pins s1 σ H1 x [] v [] Q I1 r1 .nil q1))⟩
theorem z2Z(pa:PlainAttrs T)(slot:Slot T name id)(hty:typeOf (.builtin id)=pure (.type "method_descriptor"))(hm:MtR X id r)(ho:PE X o to)(ha:PA X (e::es) t)
  (V7:attributeBase o name X.env (eval o X.env)=eval o X.env:=by rfl)
  (hfew:((backTo Q8 (starEach (e::es) X.env)).all (fun x=>!x.1) && (backToKw Q8 (keywordEach [] X.env)).all (fun x=>x.1.isSome)
   && decide ((e::es).length+([]:List Keyword).length+(if ([]:List Keyword).isEmpty then 0 else 1)<30))=true:=by rfl)
  (Z1:(apos.endLine == Q8.line)=true:=by rfl) (hs:starEach (e::es) X.env=(false,eval e X.env)::starEach es X.env:=by rfl) (T9:(backTo Q8 (starEach es X.env)).any (·.1)=false:=by rfl) :
  PE X (.Call (.Attribute o name apos) (e::es) [] Q8) (tBM X.K T r to t):=by
 intro pins s σ H Q I h
 refine wpAny_Call_method_late V7 hfew Z1 rfl (thn (ho pins s σ H _ I h) fun v s1 hz=>?_)
 obtain⟨x,H1,I1,r1,ty,q1⟩:=hz
 obtain⟨h1,h2⟩:=y6p I1 r1 ty
 refine⟨T,id,pa,slot,hty,h1,h2,?_⟩
 have hA:=ha Q8 pins s1 σ H1 _ I1 q1
 rw[hs] at hA ⊢
 refine Calls.callWith_builtin (by show(false || (backTo Q8 (starEach es X.env)).any (·.1))=false;rw[T9]<;>rfl) (Calls.evalArgs_plain ?_)
 exact thn hA fun us s2 ⟨vs,H2,I2,r2,q2⟩=>hm pins s2 σ H2 x vs v us Q I2 r1 r2 q2
end
noncomputable def MtM(X:Cx)(id:String)(r:V->List V->Hp->VK->Prop):Prop:=
 ∀(pins:List (Addr×Obj)) (s:Shared) (σ:St) (H:Hp) (x:V) (xs:List V) (v:Value) (us:List Value) (Q:VK),Inv X pins σ H s->RelV x v->Vals xs us->r x xs H Q->
  wpAny (model X.prog X.w) X.A (call (.builtin id) (v::us)) (EP X pins σ Q) X.xe s
theorem Vals.one:∀{x:V}{us:List Value},Vals [x] us->∃u,us=[u]/\RelV x u
 | _,_,.cons r .nil=>⟨_,rfl,r⟩
theorem Vals.two:∀{x y:V}{us:List Value},Vals [x,y] us->∃u v,us=[u,v]/\RelV x u/\RelV y v
 | _,_,_,.cons r (.cons q .nil)=>⟨_,_,rfl,r,q⟩
theorem Vals.dropLast{xs:List V}{us:List Value}(h:Vals xs us):Vals xs.dropLast us.dropLast:=by
 induction h with
 | nil=>exact .nil
 | cons r t ih=>
  cases t with
  | nil=>exact .nil
  | cons q t'=>exact .cons r ih
section
variable{X:Cx}{pins:List (Addr×Obj)}{σ:St}{H:Hp}{s:Shared}{l b:Addr}{xs ys zs:List V}
theorem Inv.w0F{its its':List Value}{n:Nat}{f:Array Value->Array Value}{t':Nat}(I:Inv X pins σ H s)(hH:H l=some (.lst xs))
  (e:s.heap.get? l=some { cls:=.type "list",data:=.seq its.toArray n }) (hf:f its.toArray=its'.toArray) (hv:Vals ys its') (hz:ys.length≤sizeLine) :
  Inv X pins σ (upd H l (.lst ys)) { s with heap:=s.heap.update l (Obj.mapSeq f),toks:=t' }:=by
 have q:=jD e f
 rw[hf] at q
 refine I.write (x:=l) (e:=l) (by rw[hH];exact trivial) (.inl rfl) (fun b' u hb hu=>(cE s.heap (Obj.mapSeq f) (cS hb)).trans hu) ⟨_,q⟩ ?_
 exact⟨hz,its',_,hv,q⟩
theorem Inv.lnew{its:List Value}{t':Nat}(I:Inv X pins σ H s)(hv:Vals ys its)(hz:ys.length≤sizeLine) :
  Inv X pins σ (upd H s.heap.objs.size (.lst ys)) { s with heap:=s.heap.push { cls:=.type "list",data:=.seq its.toArray },toks:=t' }:=
 I.laid (fun _ _ q=>bA _ q) (bE _) ⟨hz,its,0,hv,bJ _ rfl⟩
theorem Inv.fresh(I:Inv X pins σ H s):H s.heap.objs.size=none:=I.hok.fresh (bE _)
theorem Inv.X8(I:Inv X pins σ H s)(hH:H l=some (.lst xs)):xs.length≤sizeLine/\∃(its:List Value) (n:Nat),Vals xs its/\xs.length=its.length/\s.heap.get? l=some { cls:=.type "list",data:=.seq its.toArray n }:=by
 obtain⟨z,its,n,r,e⟩:=I.hok l _ hH
 exact⟨z,its,n,r,r.length,e⟩
theorem y5Z{n:Nat}(h:n≤sizeLine):Builtin.List.listTooLong n=false:=by
 unfold Builtin.List.listTooLong
 exact decide_eq_false (by omega)
end
section
variable{X:Cx}
noncomputable def y7p:V->List V->Hp->VK->Prop:=fun x vs H Q=>∃l xs y,x=.ref l/\vs=[y]/\H l=some (.lst xs)/\xs.length<sizeLine/\Q .non (upd H l (.lst (xs++[y])))
theorem z0K:MtM X "list.append" y7p:=by
 intro pins s σ H x vs v us Q I rx rv h
 obtain⟨l,xs,y,rfl,rfl,hH,hz,q⟩:=h
 cases rx
 obtain⟨u,rfl,ru⟩:=rv.one
 obtain⟨z,its,n,r,hl,e⟩:=I.X8 hH
 refine call_meets F.slot_list_append ⟨_,e,rfl⟩ F.entry_list_append (F.args_list_append_2 _ _) (jB l its.toArray n u (by rw[bF];omega)) ⟨e,?_⟩
 refine⟨.non,_,I.w0F (its':=its++[u]) hH e (by simp) (r.append (.cons ru .nil)) ?_,rfl,q⟩
 rw[bN,dA]
 omega
noncomputable def y6K:V->List V->Hp->VK->Prop:=fun x vs H Q=>∃l b xs zs,x=.ref l/\vs=[.ref b]/\H l=some (.lst xs)/\H b=some (.lst zs)/\xs.length+zs.length≤sizeLine/\Q .non (upd H l (.lst (xs++zs)))
theorem y8j:MtM X "list.extend" y6K:=by
 intro pins s σ H x vs v us Q I rx rv h
 obtain⟨l,b,xs,zs,rfl,rfl,hH,hB,hz,q⟩:=h
 cases rx
 obtain⟨u,rfl,ru⟩:=rv.one
 cases ru
 obtain⟨z,its,n,r,hl,e⟩:=I.X8 hH
 obtain⟨z2,N6,n2,r2,hl2,e2⟩:=I.X8 hB
 have hsz:its.toArray.size+N6.toArray.size≤sizeLine:=by rw[bF,bF];omega
 have w1G:¬(!its.toArray.isEmpty && Builtin.List.listTooLong (its.toArray.size+N6.toArray.size))=true:=by
  rw[y5Z hsz,Bool.and_false]
  exact bM
 refine call_meets F.slot_list_extend ⟨_,e,rfl⟩ F.entry_list_extend (F.args_list_extend_2 _ _)
  (AutoSeq1.list_extend_list_list_0 l its.toArray n b N6.toArray n2 w1G (by rw[bF];omega) (by omega)) ⟨e,e2,?_⟩
 refine⟨.non,_,I.w0F (its':=its++N6) hH e (by simp) (r.append r2) ?_,rfl,q⟩
 rw[bN]
 omega
noncomputable def rCat:R2:=fun x y H Q=>∃l b xs zs,x=.ref l/\y=.ref b/\H l=some (.lst xs)/\H b=some (.lst zs)/\xs.length+zs.length≤sizeLine/\∀p,H p=none->Q (.ref p) (upd H p (.lst (xs++zs)))
theorem y7L:OpR X (binaryOp .Add) rCat:=by
 intro pins s σ H x y v u Q I rx ry h
 obtain⟨l,b,xs,zs,rfl,rfl,hH,hB,hz,q⟩:=h
 cases rx
 cases ry
 obtain⟨z,its,n,r,hl,e⟩:=I.X8 hH
 obtain⟨z2,N6,n2,r2,hl2,e2⟩:=I.X8 hB
 refine PySem.P.add_list e e2 ?_ (by rw[bF,bF];omega)
 have ea:its.toArray++N6.toArray=(its++N6).toArray:=by simp
 rw[ea]
 exact⟨.ref _,_,I.lnew (t':=s.toks) (r.append r2) (by rw[bN];omega),rfl,q _ I.fresh⟩
end
section
variable{prog:Program}{w:World}{A:Around}{E:Value->Shared->Prop}{s:Shared}
end
section
variable{X:Cx}
end
end L2
namespace Att
open PySem PySem.W PySem.Calls PyProof.Rows
theorem z7X{P:Params}{h:Heap}:∀(ns:List Int) (vs:List Value),WellAll P h vs (ns.map WData.int)->IntsAre vs ns:=by
 intro ns
 induction ns with
 | nil=>
  intro vs w
  rw[List.map_nil] at w
  cases w
  exact .nil
 | cons n ns ih=>
  intro vs w
  rw[cQ] at w
  cases w with
  | cons a b=>
   cases a
   exact .cons _ _ (ih _ b)
theorem y45{l:OpenLaw}{n:Nat}(hn:l.most=some n){P:Params}{h:Heap}{args:List WData}{vals:List Value}
  (w02:l.row.toRowW.claim.pre args=true) (hwl:WellAll P h vals args) :
  ∃a vs ns,vals=[Value.ref a]/\args=[WData.list (ns.map WData.int)]/\h.get? a=some { cls:=.type "list",data:=.seq vs.toArray }/\IntsAre vs ns/\ns.length≤n:=by
 have hsh:WShape.hasAll [] args [.list .int]=true:=(pre_splitW w02).1
 have hc:l.pre.holds [] { args:=args }=true:=(pre_splitW w02).2
 obtain⟨d,r,rfl,h1,h2⟩:=hasAllW_cons hsh
 obtain rfl:=hasAllW_nil h2
 obtain⟨xs,rfl,h3⟩:=hasW_list h1
 obtain⟨ns,rfl⟩:=items_int h3
 have hlen:ns.length≤n:=by
  unfold OpenLaw.pre at hc
  have h4:(WTm.not (.lt (.lit (.int (n:Int))) (.len (.arg 0)))).holds [] { args:=[.list (ns.map .int)] }=true:=by
   have h4:=(holds_andW hc).1
   rw[hn] at h4
   exact h4
  have h5:=condW_of h4 (w_not (w_lt w_lit (w_len_list (w_arg rfl))))
  rw[b9] at h5
  refine gS fun q=>?_
  have q':(n:Int)<((ns.length:Nat):Int):=by omega
  first
   | (rw[decide_eq_true q'] at h5;exact absurd h5 (by decide))
   | (simp at h5;omega)
 cases hwl with
 | cons w1 w2=>
  cases w2
  cases w1 with
  | list ho C7=>exact⟨_,_,ns,rfl,rfl,ho,z7X ns _ C7,hlen⟩
theorem y4N(l:OpenLaw)(args:List WData):l.row.toRowW.claim.post args (.bool true) args=true:=
 postW_of (r:=l.row.toRowW) (X:=(true == true))
  (show WShape.has [] (.bool true) .bool=true by first|rfl|decide|simp[WShape.has,WShape.arms,WShape.armsAll])
  (show(WTm.eq .res (.lit (.bool true))).value [] { args:=args,res:=some (.bool true),after:=args }=some (.bool (true == true)) from w_eq_bool (w_res rfl) w_lit) rfl
theorem y13{l:OpenLaw}{n:Nat}{q:Program}{loose:List Str}{XP:(Str->Option Value)->Heap->Prop}{YP:World->Heap->Prop}{d:DefRec}
  (hn:l.most=some n) (hdf:d.params.defaults=[])
  (call:∀(w:World) (s₀ s₁:Shared) (mg mb:Str->Option Value) (fa:Addr) (o:Obj) (pm cd doc:Value) (a:Addr) (vs:List Value) (ns:List Int),
   Ground q loose [] XP w s₀ mg mb s₁.heap->YP w s₁.heap->
   s₁.heap.get? fa=some o->o.data=.func (docDef d.name d.params d.body d.scope pm cd doc)->s₁.heap.CodeRec cd d.name->mg d.name=some (.ref fa)->
   s₁.heap.get? a=some { cls:=.type "list",data:=.seq vs.toArray }->IntsAre vs ns->ns.length≤n->s₁.gens=#[]->
   codeAny (model l.prog w) callerA (.call (.ref fa) ⟨[.ref a],[]⟩) (fun r s'=>r=.ok (.ret (.bool true))/\OldK s₁.heap s'.heap/\s'.os=s₁.os/\AllBare s'.gens) s₁) :
  WalkO q loose XP YP l.row.toRowW d [] (fun f vs=>PySem.call f vs):=by
 intro w s₀ s₁ mg mb G Y fa o pm cd doc dV kV ho hd hcd hD hmg hg args vals as w02 hlay hrd hwl hlo
 obtain rfl:dV=.none:=Dflts.none hD hdf
 obtain rfl:kV=.none:=Dflts.noKw hD
 obtain⟨a,vs,ns,rfl,rfl,hobj,hints,hlen⟩:=y45 hn w02 hwl
 refine enter_call (codeAny_mono (call w s₀ s₁ mg mb fa o pm cd doc a vs ns G Y ho (fd_plain hd) hcd hmg hobj hints hlen hg) fun r s' hq=>?_)
 obtain⟨rfl,h2,h3,h4⟩:=hq
 exact⟨.inl ⟨.bool true,.bool true,[],rfl,fun _=>rfl,.bool true,y4N l _,fun _=>⟨List.Pairwise.nil,fun _ hm=>(nomatch hm)⟩⟩,h2,h3,h4⟩
section
variable{prog:Program}{w:World}{A:Around}{E:Value->Shared->Prop}{s:Shared}{K:Frag}
end
end Att
namespace L2
open PySem PySem.Spec PyProof.Rows
theorem z6t:∀{vs:List Value}{ns:List Int},IntsAre vs ns->Vals (ns.map V.int) vs
 | _,_,.nil=>.nil
 | _,_,.cons n t h=>.cons ⟨t,rfl⟩ (z6t h)
noncomputable def w0B(H:Hp):Prop:=∀b,H b=none\/∃o xs,H b=some (.frz o (.lst xs))
theorem y5b{P:Program}{w:World}{K:PySem.W.Frag}{mg mb:Str->Option Value}{CX:CXT}{k:Nat}{fa a:Addr}{fd:FuncData}{x:Str}{sp:Sp}{s₁:Shared}{vs:List Value}{ns:List Int}
  (KX:K.In s₁.heap) (hns:s₁.heap.Ns mainGlobals mg) (hb:s₁.heap.Ns builtinsNs mb) (hbb:∀x:Str,x≠"__name__"->mb x=bootBuiltins x) (hlim:s₁.heap.NoLimit) (hg:s₁.gens=#[])
  (ha:s₁.heap.get? a=some { cls:=.type "list",data:=.seq vs.toArray }) (hi:IntsAre vs ns) (hl:ns.length≤sizeLine) (hr:E5 k callerA)
  (F:∀base:Heap,K.In base->base.Ns mainGlobals mg->A8 P w K mg base CX k fa fd [x] sp) (w1l:∀(s:Shared) (u:Value),BindsTo s fd ⟨[u],[]⟩ [(x,u)])
  (hsp:∀H:Hp,w0B H->SqL K H a (ns.map V.int)->sp [.ref a] H (fun v _=>v=.bl true) fun _ _ _=>False)
  (hCX:∀H e s',CX [] H s₁ (fun _ _ _=>False) e s'->False) :
  codeAny (model P w) callerA (.call (.ref fa) ⟨[.ref a],[]⟩) (fun r s'=>r=.ok (.ret (.bool true))/\OldK s₁.heap s'.heap/\s'.os=s₁.os/\AllBare s'.gens) s₁:=by
 have rv:=z6t hi
 have lenV:=hi.length
 have core:∀H:Hp,w0B H->SqL K H a (ns.map V.int)->HOk P w H s₁.heap->(∀b,H b≠none->b=a)->(H a≠none->K.lookup a=none)->
   codeAny (model P w) callerA (.call (.ref fa) ⟨[.ref a],[]⟩) (fun r s'=>r=.ok (.ret (.bool true))/\OldK s₁.heap s'.heap/\s'.os=s₁.os/\AllBare s'.gens) s₁:=by
  intro H hO hS hok hA hK
  have X3:∀{b:Addr}{o:Obj},s₁.heap.get? b=some o->H b=none->(V1 s₁.heap H).get? b=some o:=fun e n=>y5m e n
  have noA:∀{b:Addr}{o:Obj}{es:Array DictEntry}{ep:Nat},s₁.heap.get? b=some o->o.data=.dict es ep->H b=none:=fun {b o es ep} e d=>by
   cases q:H b with
   | none=>rfl
   | some u=>
    have e':b=a:=hA b (by rw[q];simp)
    subst e'
    rw[ha] at e;cases e
    have d':Data.seq vs.toArray _=Data.dict es ep:=d
    cases d'
  have nsK:∀{b:Addr}{m:Str->Option Value},s₁.heap.Ns b m->(V1 s₁.heap H).Ns b m:=fun {b m} ⟨o,es,ep,e,d,r⟩=>⟨o,es,ep,X3 e (noA e d),d,r⟩
  have hKb:K.In (V1 s₁.heap H):=fun b o e=>X3 (KX b o e) (by
   cases q:H b with
   | none=>rfl
   | some u=>
    have e':b=a:=hA b (by rw[q];simp)
    subst e'
    rw[hK (by rw[q];simp)] at e;cases e)
  have hM:Mod K mg (V1 s₁.heap H):=⟨hKb,nsK hns,⟨mb,nsK hb,hbb⟩,let ⟨mc,h1,h2⟩:=hlim;⟨mc,nsK h1,h2⟩⟩
  have e0:X0 P w K mg (V1 s₁.heap H) callerA [] s₁ H:=⟨rfl,hM,fun b o e=>y6W e,Nat.le_of_eq (y3R _ _),trivial,fun b hb=>absurd (show b∈([]:List Addr) from hb) (by simp),hok,.of_eq hg⟩
  refine codeAny_mono ((F _ hKb (nsK hns)).run callerA [] s₁ H ⟨[.ref a],[]⟩ [.ref a] [.ref a] _ _ hr e0 (w1l s₁ (.ref a)) (.cons rfl .nil) (hsp H hO hS)) fun r s' h=>?_
  cases r with
  | error e=>exact(hCX H e s' h).elim
  | ok fl=>
   cases fl with
   | next=>exact False.elim h
   | brk=>exact False.elim h
   | cont=>exact False.elim h
   | ret u=>
    obtain⟨v,H',os,bare,un,hok',r',q⟩:=h
    have q':v=.bl true:=q
    subst q'
    obtain rfl:u=Value.bool true:=r'
    refine⟨rfl,OldK.of_keep fun b o e=>?_,os,bare⟩
    cases q:H b with
    | none=>exact un.keep b o e q (by intro z;exact absurd (show b∈([]:List Addr) from z) (by simp)) (by simp)
    | some u=>
     rcases hO b with z|⟨ob,xs,z⟩
     ·rw[q] at z;cases z
     ·have z2:=un.O1 b ob _ z
      obtain⟨e1,_⟩:=hok b _ z
      obtain⟨e2,_⟩:=hok' b _ z2
      rw[e] at e1;cases e1
      exact e2
 cases hk:K.lookup a with
 | some o=>
  have e:=KX a o hk
  rw[ha] at e
  cases e
  refine core (fun _=>none) (fun _=>.inl rfl) (.inr ⟨_,vs.toArray,_,hk,rfl,rfl,rfl,by rw[bF,lenV];exact hl,by simpa using rv⟩) (fun b u z=>by have z':(none:Option HO)=some u:=z;cases z') (fun b z=>absurd rfl z) fun z=>absurd rfl z
 | none=>
  refine core (fun b=>if b=a then some (.frz { cls:=.type "list",data:=.seq vs.toArray } (.lst (ns.map V.int))) else none) (fun b=>?_) (.inl (.inr ⟨{ cls:=.type "list",data:=.seq vs.toArray },if_pos rfl⟩)) (fun b u z=>?_) (fun b z=>?_) fun _=>hk
  ·by_cases hb:b=a
   ·exact .inr ⟨_,_,if_pos hb⟩
   ·exact .inl (if_neg hb)
  ·by_cases hb:b=a
   ·have z':=(if_pos hb).symm.trans z
    cases z'
    subst hb
    exact⟨ha,by rw[b9];exact hl,vs,_,rv,ha⟩
   ·have z':=(if_neg hb).symm.trans z
    cases z'
  ·by_cases hb:b=a
   ·exact hb
   ·exact absurd (if_neg hb) z
theorem y7g{l:PySem.W.OpenLaw}{n k:Nat}{q:Program}{loose:List Str}{XP:(Str->Option Value)->Heap->Prop}{YP:World->Heap->Prop}{d:DefRec}{K:Params->PySem.W.Frag}{CX:World->CXT}{sp:World->Sp}{x:Str}
  (hn:l.most=some n) (hn2:n≤sizeLine) (hdf:d.params.defaults=[]) (hr:E5 k callerA)
  (hY:∀(w:World) (h:Heap),YP w h->(K w.params).In h)
  (F:∀(w:World) (mg:Str->Option Value) (fa:Addr) (h:Heap),(K w.params).In h->h.Ns mainGlobals mg->mg d.name=some (.ref fa)->
   ∃fd:FuncData,(∀(s:Shared) (u:Value),BindsTo s fd ⟨[u],[]⟩ [(x,u)])/\
    ∀base:Heap,(K w.params).In base->base.Ns mainGlobals mg->A8 l.prog w (K w.params) mg base (CX w) k fa fd [x] (sp w))
  (hsp:∀(w:World) (H:Hp) (a:Addr) (ns:List Int),ns.length≤n->w0B H->SqL (K w.params) H a (ns.map V.int)->sp w [.ref a] H (fun v _=>v=.bl true) fun _ _ _=>False)
  (hCX:∀(w:World) (H:Hp) (s:Shared) (e:Value) (s':Shared),CX w [] H s (fun _ _ _=>False) e s'->False) :
  PySem.W.WalkO q loose XP YP l.row.toRowW d [] (fun f vs=>PySem.call f vs):=by
 refine Att.y13 hn hdf fun w s₀ s₁ mg mb fa o pm cd doc a vs ns G Y ho hd hcd hmg hobj hints hlen hg=>?_
 have KX:=hY w _ Y
 obtain⟨fd,hb,hF⟩:=F w mg fa _ KX G.T.g hmg
 exact y5b KX G.T.g G.T.b G.T.builtins G.T.nolimit hg hobj hints (cL hlen hn2) hr hF hb (fun H hO hS=>hsp w H a ns hlen hO hS) fun H e s'=>hCX w H s₁ e s'
def z1l(s:Stmt)(j:Nat):Stmt:=match s with
 | .ClassDef _ _ _ body _ _ _ _ _ _ _=>body.getD j (.Pass ⟨0,0,0,0⟩)
 | _=>.Pass ⟨0,0,0,0⟩
noncomputable def z1C(s:Stmt):Arguments:=match s with
 | .FunctionDef _ a _ _ _ _ _ _ _ _=>a
 | _=>{ posonlyargs:=[],args:=[],vararg:=none,kwonlyargs:=[],kw_defaults:=[],kwarg:=none,defaults:=[] }
noncomputable def z1c(s:Stmt):List Stmt:=match s with
 | .FunctionDef _ _ b _ _ _ _ _ _ _=>b
 | _=>[]
noncomputable def z07(s:Stmt):Scope:=match s with
 | .FunctionDef _ _ _ _ _ _ sc _ _ _=>sc
 | _=>{ kind:=.function,names:=[],isGenerator:=false,isCoroutine:=false }
abbrev CX0:CXT:=fun _ _ _ _ _ _=>False
abbrev E0:XK:=fun _ _ _=>False
theorem y5O{X:Cx}:z7f CX0 X E0:=fun _ _ _ _ _ _ _ h=>h.elim
structure Fun(K:PySem.W.Frag)(x qual:Str)(st:Stmt)(f:Addr)(fd:FuncData):Prop where
 ex:∃(oc:Value) (od:Option Addr) (kV doc pm:Value) (an:Option Addr) (cdv ct:Value) (osl:Array (Option Value)),
  fd=PySem.W.fnOf x qual (z1C st) (z1c st) (z07 st) .none kV doc pm an cdv ct/\K.lookup f=some ⟨oc,od,.func fd,osl⟩/\PySem.W.codeIn K cdv qual=true
 kp:PySem.W.keepIn K (.ref f)=true
section
variable{P:Program}{w:World}{K:PySem.W.Frag}{mg:Str->Option Value}{base:Heap}
theorem Fun.ok{x qual:Str}{st:Stmt}{f:Addr}{fd:FuncData}{N ps:List Str}{k:Nat}{sp:Sp}(F:Fun K x qual st f fd)(S:A3 N ps (z07 st))(len:∀vs H Q E,sp vs H Q E->vs.length=ps.length)
  (R1:∀(cdv:Value) (A:Around) (outer:List Env) (s:Shared) (H:Hp) (vs:List V) (Q:VK) (E:XK),E5 k (A.deeper (envOfC qual (z07 st) s.heap.objs.size f cdv))->sp vs H Q E->
   ∃t,PSs (B8 CX0 P w K mg base N qual (z07 st) f cdv A outer s H E).nox (z1c st) t/\t { nx:=fun _ H'=>Q .non H',rt:=Q } (z5h N vs) H):A8 P w K mg base CX0 (k+1) f fd ps sp:=by
 obtain⟨oc,od,kV,doc,pm,an,cdv,ct,osl,rfl,lk,hcd⟩:=F.ex
 refine y58 lk hcd S len fun A outer s H vs Q E hr hsp=>?_
 obtain⟨t,h,q⟩:=R1 cdv A outer s H vs Q E hr hsp
 exact⟨t,h.nox,q⟩
theorem Fun.binds{x qual:Str}{st:Stmt}{f:Addr}{fd:FuncData}{ps:List Str}(F:Fun K x qual st f fd)
  (h:∀(kV doc pm:Value) (an:Option Addr) (cdv ct:Value) (us:List Value),us.length=ps.length->bindArgs (PySem.W.fnOf x qual (z1C st) (z1c st) (z07 st) .none kV doc pm an cdv ct) ⟨us,[]⟩=pure (ps.zip us)):z1D K fd ps []:=by
 obtain⟨oc,od,kV,doc,pm,an,cdv,ct,osl,rfl,lk,hcd⟩:=F.ex
 exact .all (h kV doc pm an cdv ct)
theorem y7O{x qual:Str}{st:Stmt}{f:Addr}{oc:Value}{od an:Option Addr}{osl:Array (Option Value)}{kV doc pm cdv ct:Value}(l:K.lookup f=some ⟨oc,od,.func (PySem.W.fnOf x qual (z1C st) (z1c st) (z07 st) .none kV doc pm an cdv ct),osl⟩)
  (c:PySem.W.codeIn K cdv qual=true) (k:PySem.W.keepIn K (.ref f)=true):Fun K x qual st f (PySem.W.fnOf x qual (z1C st) (z1c st) (z07 st) .none kV doc pm an cdv ct):=⟨⟨oc,od,kV,doc,pm,an,cdv,ct,osl,rfl,l,c⟩,k⟩
end
theorem z8G{A:Around}{k:Nat}(hr:E5 k A):A.units+1<cLine:=dU (Nat.add_le_add_left (by decide:1≤64) _) hr.units
theorem z0n{n:Nat}(h:n≤1000):n<sizeLine:=dU h (by decide)
section
variable{X:Cx}
theorem pv(i:Nat){x:Str}{pos:Pos}(hN:X.N[i]? = some x:=by rfl)(hv:Vis X.env.scope x:=by first|exact Or.inl rfl|exact Or.inr (Or.inl rfl)|exact Or.inr (Or.inr rfl))(hd:(x == ("__debug__":Str))=false:=by decide)
  (hcd:(x == ("__classdict__":Str))=false:=by decide):PE X (.Name x pos) (Y4 i):=y7H hN hv hd hcd
end
theorem E7{A B:Prop}(h:B):if false=true then A else B:=by
 rw[if_neg bM]
 exact h
theorem L8{A B:Prop}(h:A):if true=true then A else B:=by
 rw[if_pos rfl]
 exact h
theorem B4{c A B:Prop}[Decidable c](h1:c->A)(h2:¬c->B):if c then A else B:=by
 by_cases h:c
 ·rw[if_pos h]
  exact h1 h
 ·rw[if_neg h]
  exact h2 h
theorem y6M{c A B:Prop}[Decidable c](hc:c)(h:B):if (!decide c)=true then A else B:=by
 rw[decide_eq_true hc]
 exact E7 h
noncomputable def A4(H H':Hp):Prop:=∀b o,H b=some o->H' b=some o
theorem A4.refl(H:Hp):A4 H H:=fun _ _ h=>h
theorem A4.trans{H H1 H2:Hp}(a:A4 H H1)(b:A4 H1 H2):A4 H H2:=fun c o h=>b c o (a c o h)
theorem A4.free{H H':Hp}(e:A4 H H'){l:Addr}(h:H' l=Option.none):H l=Option.none:=by
 cases q:H l with
 | none=>rfl
 | some o=>
  rw[e l o q] at h
  cases h
theorem A4.seq{K:PySem.W.Frag}{H H':Hp}{a:Addr}{xs:List V}(e:A4 H H')(h:SqL K H a xs):SqL K H' a xs:=by
 rcases h with (h|⟨o,h⟩)|h
 ·exact .inl (.inl (e _ _ h))
 ·exact .inl (.inr ⟨o,e _ _ h⟩)
 ·exact .inr h
abbrev noE:Value->Shared->Prop:=fun _ _=>False
theorem y1E{prog:Program}{w:World}{A:Around}{R:Result->Shared->Prop}{s:Shared}{elt target iter:Expr}{ifs:List Expr}{scope:Scope}{pos:Pos}{it acc:Value}{env:Env}(I:Nat->Shared->Prop)
  (turn:∀n s,I n s->wpAny (model prog w) A (pyNext it) (fun r s1=>match r with
   | none=>R (.ok .next) s1
   | some v=>wpAny (model prog w) A (letOwnedTupleGo target it v) (fun _ s0=>wpAny (model prog w) A (assign target env v) (fun _ s2=>
     wpAny (model prog w) A (forIn ifs true fun c r=>if r=true then do let ok <- isTrue c env (eval c env);pure (ForInStep.yield ok) else pure (ForInStep.yield r)) (fun ok s3=>
      if ok=true then wpAny (model prog w) A (eval elt env) (fun x s4=>
       wpAny (model prog w) A (call (.builtin "list.append") [acc,x]) (fun _ s5=>∃m,m<n/\I m s5) noE s4) noE s3
      else ∃m,m<n/\I m s3) noE s2) noE s0) noE s1) noE s)
  (n:Nat) (h:I n s):codeAny (model prog w) A (.compLoop (.ListComp elt [⟨target,iter,ifs,0⟩] scope pos) 0 it acc env) R s:=by
 refine codeAny_loop rfl I (fun n s hI=>?_) n h
 show wpAny _ A ((compTurn (.ListComp elt [⟨target,iter,ifs,0⟩] scope pos) 0 it acc env).onRaise (fun x=>do noteFrame x env;theTreesLotGoes x)) _ _ s
 refine wpAny_noted ?_
 rw[compTurn_list]
 refine wpAny_bind (wpAny_standAt (wpAny_bind (wpAny_mono (turn n s hI) (fun r s1 h1=>?_) fun _ _ z=>False.elim z)))
 cases r with
 | none=>exact wpAny_pure h1
 | some v=>
  refine wpAny_bind (wpAny_mono h1 (fun _ s0 h0=>?_) fun _ _ z=>False.elim z)
  refine wpAny_bind (wpAny_mono h0 (fun _ s2 h2=>wpAny_bind (wpAny_mono h2 (fun ok s3 h3=>?_) fun _ _ z=>False.elim z)) fun _ _ z=>False.elim z)
  cases ok with
  | false=>exact wpAny_pure ⟨rfl,h3⟩
  | true=>
   exact wpAny_bind (wpAny_bind (wpAny_mono h3 (fun x s4 h4=>wpAny_bind (wpAny_mono h4 (fun _ s5 h5=>wpAny_pure (wpAny_pure ⟨rfl,h5⟩)) fun _ _ z=>False.elim z)) fun _ _ z=>False.elim z))
noncomputable def z8d(cells:List (Str×Addr)):List (Str×NameKind)->List (Str×Addr)->Option (List (Str×Addr))
 | [],acc=>some acc
 | (n,k)::r,acc=>if k == .free then (match cells.lookup n with
   | some a=>z8d cells r ((n,a)::acc)
   | none=>none) else z8d cells r acc
theorem z6u{env:Env}:∀(names:List (Str×NameKind)) (acc cl:List (Str×Addr)),z8d env.cells names acc=some cl->
  (forIn names acc fun(x:Str×NameKind) (cs:List (Str×Addr))=>match x with
   | (name,kind)=>if (kind == NameKind.free)=true then do let c <- cellOf env name;pure (ForInStep.yield ((name,c)::cs)) else pure (ForInStep.yield cs):Sem (List (Str×Addr)))=pure cl
 | [],acc,cl,h=>by
  have h':acc=cl:=Option.some.inj h
  subst h'
  rfl
 | (n,k)::r,acc,cl,h=>by
  rw[List.forIn_cons]
  unfold z8d at h
  by_cases hk:(k == NameKind.free)=true
  ·rw[if_pos hk] at h
   cases e:env.cells.lookup n with
   | none=>rw[e] at h;cases h
   | some a=>
    rw[e] at h
    have ih:=z6u r ((n,a)::acc) cl h
    have hc:cellOf env n=pure a:=by unfold cellOf;rw[e]
    dsimp only
    rw[if_pos hk,hc]
    simpa using ih
  ·rw[if_neg hk] at h
   have ih:=z6u r acc cl h
   dsimp only
   rw[if_neg hk]
   simpa using ih
theorem z4o{scope:Scope}{env:Env}{cl:List (Str×Addr)}(h:z8d env.cells scope.names []=some cl):closureFor scope env=pure cl:=by
 have q:=z6u (env:=env) scope.names [] cl h
 unfold closureFor
 simpa using q
theorem z8o{cells:List (Str×Addr)}:∀{names:List (Str×NameKind)}{acc cl:List (Str×Addr)},z8d cells names acc=some cl->
  (∀x c,acc.lookup x=some c->cells.lookup x=some c)->∀x c,cl.lookup x=some c->cells.lookup x=some c
 | [],acc,cl,h,ha,x,c,e=>by
  have h':acc=cl:=Option.some.inj h
  subst h'
  exact ha x c e
 | (n,k)::r,acc,cl,h,ha,x,c,e=>by
  unfold z8d at h
  by_cases hk:(k == NameKind.free)=true
  ·rw[if_pos hk] at h
   cases q:cells.lookup n with
   | none=>rw[q] at h;cases h
   | some a=>
    rw[q] at h
    refine z8o (names:=r) (acc:=(n,a)::acc) h (fun y d z=>?_) x c e
    rw[eF] at z
    cases hy:y == n with
    | true=>
     rw[hy] at z
     have z':a=d:=Option.some.inj z
     rw[<- z',beq_iff_eq.mp hy]
     exact q
    | false=>
     rw[hy] at z
     exact ha y d z
  ·rw[if_neg hk] at h
   exact z8o (names:=r) (acc:=acc) h ha x c e
theorem z5V{cells:List (Str×Addr)}:∀{names:List (Str×NameKind)}{acc cl:List (Str×Addr)},z8d cells names acc=some cl->
  ∀x,((∃c,acc.lookup x=some c)\/(x,NameKind.free)∈names)->∃c,cl.lookup x=some c
 | [],acc,cl,h,x,hx=>by
  have h':acc=cl:=Option.some.inj h
  subst h'
  rcases hx with hx|hx
  ·exact hx
  ·cases hx
 | (n,k)::r,acc,cl,h,x,hx=>by
  unfold z8d at h
  by_cases hk:(k == NameKind.free)=true
  ·rw[if_pos hk] at h
   cases q:cells.lookup n with
   | none=>rw[q] at h;cases h
   | some a=>
    rw[q] at h
    refine z5V (names:=r) (acc:=(n,a)::acc) h x ?_
    rcases hx with ⟨c,hx⟩|hx
    ·left
     rw[eF]
     cases hy:x == n with
     | true=>exact⟨a,rfl⟩
     | false=>exact⟨c,hx⟩
    ·rcases bD.mp hx with e|e
     ·left
      have e1:x=n:=congrArg Prod.fst e
      rw[eF,e1,beq_self_eq_true]
      exact⟨a,rfl⟩
     ·exact .inr e
  ·rw[if_neg hk] at h
   refine z5V (names:=r) (acc:=acc) h x ?_
   rcases hx with hx|hx
   ·exact .inl hx
   ·rcases bD.mp hx with e|e
    ·have e2:NameKind.free=k:=congrArg Prod.snd e
     exact absurd (by rw[<- e2];rfl) hk
    ·exact .inr e
theorem z8y{α β:Type}[BEq α][LawfulBEq α]:∀{l:List (α×β)}{x:α}{b:β},l.lookup x=some b->(x,b)∈l
 | [],x,b,h=>by cases h
 | (a,c)::r,x,b,h=>by
  rw[eF] at h
  cases hx:x == a with
  | true=>
   rw[hx] at h
   have h':c=b:=Option.some.inj h
   rw[beq_iff_eq.mp hx,h']
   exact cB
  | false=>
   rw[hx] at h
   exact bP _ (z8y h)
theorem z78{scope:Scope}{env:Env}(X4:∀y∈scope.names,y.2≠.cell){x:Str}(h:(relabel scope env).names.lookup x=some .cell\/(relabel scope env).names.lookup x=some .free):(x,NameKind.free)∈scope.names:=by
 have go:∀k,(relabel scope env).names.lookup x=some k->(k=.cell\/k=.free)->(x,NameKind.free)∈scope.names:=fun k h hk=>by
  have m:=z8y h
  obtain⟨⟨n,k'⟩,hm,e⟩:=cG.mp m
  dsimp only at e
  by_cases c:(k' == NameKind.free && env.scope.kind == .function && env.kindOf n == some .cell)=true
  ·rw[if_pos c] at e
   have e1:n=x:=congrArg Prod.fst e
   have c1:(k' == NameKind.free)=true:=by
    rw[bW,bW] at c
    exact c.1.1
   have c2:k'=.free:=eq_of_beq c1
   rw[<- e1,<- c2]
   exact hm
  ·rw[if_neg c] at e
   have e1:n=x:=congrArg Prod.fst e
   have e2:k'=k:=congrArg Prod.snd e
   rcases hk with z|z
   ·exact absurd (e2.trans z) (X4 _ hm)
   ·rw[<- e1,<- z,<- e2]
    exact hm
 rcases h with h|h
 ·exact go _ h (.inl rfl)
 ·exact go _ h (.inr rfl)
noncomputable def z1I(X:Cx)(scope:Scope)(cl:List (Str×Addr))(N:List Str)(C:Addr)(s3:Shared)(H1:Hp)(ex:List Addr)(pins:List (Addr×Obj)):Cx:=
 { X with N:=N,s₀:=s3,H₀:=H1,env:=compEnvC scope cl C X.env,outer:=X.stack,ex:=ex,fn:=fun _=>false,pn:=X.pn++pins,xe:=noE }
noncomputable def z4j(own:Nat)(ix:List Nat)(σ:St):St:=List.replicate own none++ix.map fun i=>(σ[i]?).join
structure F1(X:Cx)(scope:Scope)(cl:List (Str×Addr))(own D6:List Str)(ix:List Nat):Prop where
 W0:z8d X.env.cells scope.names []=some cl
 cell:∀y∈scope.names,y.2≠.cell
 kind:scope.kind=.function
 names:∀y∈scope.names,y.2=.local->scope.names.lookup y.1=some .local
 capn:D6.length=ix.length
 cap:∀(j i:Nat) (x:Str),D6[j]? = some x->ix[j]? = some i->X.N[i]? = some x/\X.env.kindOf x≠some .local/\Vis X.env.scope x/\((relabel scope X.env).names.lookup x=some .cell\/(relabel scope X.env).names.lookup x=some .free)
theorem Inv.w0f{X:Cx}{pins:List (Addr×Obj)}{σ:St}{H:Hp}{s:Shared}{D:Addr}{o:HO}(I:Inv X pins σ H s)(f:P0 X pins H D)(new:z1t X.prog X.w (upd H D o) s.heap D o):Inv X pins σ (upd H D o) s:=by
 obtain⟨f0,f1,f2,f3,f4,f5⟩:=f
 have q:=I.step (H':=upd H D o) (h':=s.heap) (g':=s.gens) (t':=s.toks) (d':=s.drawn) (ch:=[D]) (fun b hb=>by
   have e:b=D:=by simpa using hb
   subst e
   exact⟨f3,f1,f4,f5⟩)
  (fun _ _ _ _ _ e _=>e) (fun b ob _ _ _ e _=>⟨ob.slots,e⟩) (fun b ob hb _ n=>by
   have e:b≠D:=fun z=>hb (by simp[z])
   rw[z0e e];exact n)
  (fun b ob _ e=>⟨ob,e⟩) (fun b xs e=>by rw[z0e (z0o e f0)];exact e) (fun b ob u e=>by rw[z0e (z0o e f0)];exact e)
  (fun b ps e=>⟨#[],by rw[z0e (z0o e f0),e];simp⟩) (fun _ hm=>hm) (fun b u e=>by
   by_cases hb:b=D
   ·subst hb
    rw[z04] at e
    cases e
    exact new
   ·rw[z0e hb] at e
    exact(I.hok b u e).V3 (fun _ _ _ q=>q) (fun c q=>by rw[z0e (z0o q f0)];exact q) fun c xs q=>by rw[z0e (z0o q f0)];exact q) I.bare
 exact q
section
variable{X:Cx}{scope:Scope}{cl:List (Str×Addr)}{own D6:List Str}{ix:List Nat}
theorem F1.look(S:F1 X scope cl own D6 ix):∀x c,cl.lookup x=some c->X.env.cells.lookup x=some c:=
 z8o S.W0 fun x c e=>by cases e
theorem y2h{pins:List (Addr×Obj)}{σ:St}{H1:Hp}{s3:Shared}{h1:Heap}{ex:List Addr}{m:Str->Option Value}{tk:Nat}(S:F1 X scope cl own D6 ix)(I:Inv X pins σ H1 s3)
  (hex:∀b∈ex,b<s3.heap.objs.size/\b≠X.env.locals/\b∉X.fs/\(b∈X.ex\/X.s₀.heap.objs.size≤b)/\∀x c,X.env.cells.lookup x=some c->c≠b)
  (hn:h1.Ns s3.heap.objs.size m) (hk:∀b o,s3.heap.get? b=some o->h1.get? b=some o) :
  Inv (z1I X scope cl (own++D6) s3.heap.objs.size s3 H1 ex pins) [] (z4j own.length ix σ) H1 { s3 with heap:=h1,toks:=tk }:=by
 have stkN:∀b∈frs X.stack,b<s3.heap.objs.size:=fun b hb=>by
  obtain⟨_,o,ho,_⟩:=I.stack.mem hb
  exact bL ho
 have lt0:∀b o,X.base.get? b=some o->b<X.s₀.heap.objs.size:=fun b o e=>bL (I.ok.bs b o e).1
 refine⟨⟨I.ok.mod,S.kind,I.ok.glob,I.ok.blt,bE _,?_,?_,?_,I.ok.hd,I.ok.frames,.inl rfl,?_,I.bs,cL I.ok.bsz I.sz,?_,?_,I.stack,I.L9⟩,rfl,I.bare,?_,?_,?_,?_,?_,?_,?_,?_⟩
 ·intro x y c e1 e2
  exact I.ok.inj x y c (S.look x c e1) (S.look y c e2)
 ·intro x hx
  exact z5V S.W0 x (.inr (z78 S.cell hx))
 ·intro x c hf
  exact absurd hf bM
 ·intro b hb
  obtain⟨l,a1,a2,a3,a4⟩:=hex b hb
  exact⟨cC l,fun x c e=>a4 x c (S.look x c e)⟩
 ·intro b o e hb
  obtain⟨l,a1,a2,a3,a4⟩:=hex b hb
  rcases a3 with z|z
  ·exact I.ok.noex b o e z
  ·exact absurd (cO (lt0 b o e) z) (cY _)
 ·intro b hb hf
  obtain⟨l,a1,a2,a3,a4⟩:=hex b hb
  rcases bD.mp (I.P4 b hf) with z|z
  ·exact a1 z
  ·exact a2 z
 ·exact Un.kept hk
 ·refine⟨m,hn,fun i x v e1 e2 e3=>?_⟩
  have e2':(List.replicate own.length none++ix.map fun i=>(σ[i]?).join:St)[i]? = some (some v):=e2
  have e1':(own++D6)[i]? = some x:=e1
  by_cases hi:i<own.length
  ·rw[dO (by simpa using hi),eX,if_pos hi] at e2'
   cases e2'
  ·have hi':own.length≤i:=gS hi
   rw[fU (by simpa using hi'),gX,bK] at e2'
   rw[fU hi'] at e1'
   cases q:ix[i-own.length]? with
   | none=>rw[q] at e2';cases e2'
   | some k=>
    rw[q] at e2'
    have w05:(σ[k]?).join=some v:=Option.some.inj e2'
    have e4:σ[k]? = some (some v):=by
     cases z:σ[k]? with
     | none=>rw[z] at w05;cases w05
     | some u=>rw[z] at w05;rw[show u=some v from w05]
    obtain⟨n1,n2,n3,n4⟩:=S.cap (i-own.length) k x e1' q
    obtain⟨mX,_,hl⟩:=I.loc
    obtain⟨u,r,l⟩:=hl k x v n1 e4 n3
    refine⟨u,r,?_⟩
    rcases l with ⟨kl,_⟩|⟨_,c,ec,ic⟩
    ·exact absurd kl n2
    ·obtain⟨c',ec'⟩:=z5V S.W0 x (.inr (z78 S.cell n4))
     have e5:=S.look x c' ec'
     rw[ec] at e5
     cases e5
     exact .inr ⟨n4,c,ec',ic.keeps hk⟩
 ·intro x c e
  obtain⟨v,q⟩:=I.cell x c (S.look x c e)
  exact⟨v,q.keeps hk⟩
 ·exact I.hok.fresh (bE _)
 ·intro x c e
  exact I.freeC x c (S.look x c e)
 ·intro p hp
  have hp':p∈X.pn++pins:=by
   have:p∈(X.pn++pins)++[]:=hp
   rwa [cU] at this
  obtain⟨e,n,ne,nf,d⟩:=I.pin p hp'
  refine⟨hk _ _ e,n,cC (bL e),fun z=>?_,d⟩
  rcases bD.mp (I.P4 p.1 z) with z|z
  ·exact ne z
  ·exact nf z
 ·exact I.hok.kept hk
 ·show(List.replicate own.length none++ix.map fun i=>(σ[i]?).join:St).length=(own++D6).length
  rw[bN,gX,b9,bN,S.capn]
noncomputable def PTs(X:Cx)(ifs:List Expr)(t:TT):Prop:=
 ∀(pins:List (Addr×Obj)) (s:Shared) (σ:St) (H:Hp) (Q:Bool->Hp->Prop),Inv X pins σ H s->t σ H Q->
  wpAny (model X.prog X.w) X.A (forIn ifs true fun c r=>if r=true then do let ok <- isTrue c X.env (eval c X.env);pure (ForInStep.yield ok) else pure (ForInStep.yield r)) (TP X pins σ Q) X.xe s
noncomputable def tYes:TT:=fun _ H Q=>Q true H
theorem z1Z:PTs X [] tYes:=fun _ _ _ H _ I h=>wpAny_tests_nil ⟨H,I,h⟩
theorem z2A{c:Expr}{t:TT}(hc:PT X c t):PTs X [c] t:=fun pins s σ H Q I h=>wpAny_tests_one (hc pins s σ H Q I h)
noncomputable def z5R(n:Nat)(σ σ':St):Prop:=σ'.length=σ.length/\∀i,n≤i->σ'[i]? = σ[i]?
noncomputable def U6(n:Nat)(g:TG):Prop:=∀v σ H Q,g v σ H Q->g v σ H fun σ' H'=>Q σ' H'/\z5R n σ σ'
noncomputable def y4T(n:Nat)(g:TGs):Prop:=∀vs σ H Q,g vs σ H Q->g vs σ H fun σ' H'=>Q σ' H'/\z5R n σ σ'
theorem z5R.refl(n:Nat)(σ:St):z5R n σ σ:=⟨rfl,fun _ _=>rfl⟩
theorem z5R.trans{n:Nat}{a b c:St}(x:z5R n a b)(y:z5R n b c):z5R n a c:=⟨y.1.trans x.1,fun i h=>(y.2 i h).trans (x.2 i h)⟩
theorem z0A{n i:Nat}(h:i<n):U6 n (y2A i):=fun v σ H Q q=>⟨q,by simp,fun j hj=>fP (by omega)⟩
theorem z5L{n:Nat}:y4T n w0x:=fun vs σ H Q q=>⟨q.1,q.2,z5R.refl n σ⟩
noncomputable def z8I(g:TG):Prop:=∀v σ H (Q Q':St->Hp->Prop),(∀σ' H',Q σ' H'->Q' σ' H')->g v σ H Q->g v σ H Q'
noncomputable def z8X(g:TGs):Prop:=∀vs σ H (Q Q':St->Hp->Prop),(∀σ' H',Q σ' H'->Q' σ' H')->g vs σ H Q->g vs σ H Q'
theorem z0a{i:Nat}:z8I (y2A i):=fun _ _ _ _ _ f q=>f _ _ q
theorem z0R:z8X w0x:=fun _ _ _ _ _ f q=>⟨q.1,f _ _ q.2⟩
theorem z0E{t:TG}{u:TGs}(a:z8I t)(b:z8X u):z8X (y73 t u):=fun vs σ H Q Q' f q=>by
 obtain⟨v,r,e,q⟩:=q
 exact⟨v,r,e,a _ _ _ _ _ (fun σ' H' z=>b _ _ _ _ _ f z) q⟩
theorem z5S{K:PySem.W.Frag}{n:Nat}{t:TGs}(a:z8X t):z8I (w04 K n t):=fun v σ H Q Q' f q=>by
 obtain⟨p,xs,e,h1,h2,q⟩:=q
 exact⟨p,xs,e,h1,h2,a _ _ _ _ _ f q⟩
theorem z1p{n:Nat}{t:TG}{u:TGs}(a:U6 n t)(m:z8I t)(b:y4T n u)(m':z8X u):y4T n (y73 t u):=fun vs σ H Q q=>by
 obtain⟨v,r,e,q⟩:=q
 refine⟨v,r,e,m _ _ _ _ _ (fun σ' H' z=>?_) (a _ _ _ _ q)⟩
 exact m' _ _ _ _ _ (fun σ2 H2 y=>⟨y.1,z.2.trans y.2⟩) (b _ _ _ _ z.1)
theorem z84{K:PySem.W.Frag}{n k:Nat}{t:TGs}(a:y4T n t):U6 n (w04 K k t):=fun v σ H Q q=>by
 obtain⟨p,xs,e,h1,h2,q⟩:=q
 exact⟨p,xs,e,h1,h2,a _ _ _ _ q⟩
noncomputable def z1B(g:TG)(tc:TT)(te:TE)(σ0:St)(x:V)(H:Hp)(ys:List V)(N:List V->Hp->Prop):Prop:=
 g x σ0 H fun σ2 H2=>tc σ2 H2 fun b H3=>if b=true then te σ2 H3 fun y H4=>N (ys++[y]) H4 else N ys H3
noncomputable def y89(own:Nat)(ix:List Nat)(wi:TI)(g:TG)(tc:TT)(te:TE)(σ:St)(H:Hp)(F:List V->Hp->Prop):Prop:=
 wi σ H fun J H1=>∃W:Nat->Nat->List V->Hp->Prop,(∃m,W 0 m [] H1)/\∀i m ys H,W i m ys H->
  (J.stop i H/\F ys H)\/(J.go i H/\ys.length<sizeLine/\∃N:List V->Hp->Prop,(∀zs H',N zs H'->∃m',m'<m/\W (i+1) m' zs H')/\
   ∀x H',J.yld i H x H'->z1B g tc te (z4j own ix σ) x H' ys N)
theorem z91{elt iter tg:Expr}{ifs:List Expr}{pos:Pos}{pins:List (Addr×Obj)}{σ:St}{s2:Shared}{itv:Value}{g:TG}{tc:TT}{te:TE}{F:List V->Hp->Prop}{RR:Value->Addr->Result->Shared->Prop}{E:Value->Shared->Prop}
  (S:F1 X scope cl own D6 ix) (hc:X.calm=true)
  (hg:∀C s3 H1 ex pn,PG (z1I X scope cl (own++D6) C s3 H1 ex pn) tg g) (og:U6 own.length g) (mg:z8I g)
  (ht:∀C s3 H1 ex pn,PTs (z1I X scope cl (own++D6) C s3 H1 ex pn) ifs tc)
  (he:∀C s3 H1 ex pn,PE (z1I X scope cl (own++D6) C s3 H1 ex pn) elt te)
  (h:PIE X pins σ tg (fun J H1=>∃W:Nat->Nat->List V->Hp->Prop,(∃m,W 0 m [] H1)/\∀i m ys H,W i m ys H->
   (J.stop i H/\F ys H)\/(J.go i H/\ys.length<sizeLine/\∃N:List V->Hp->Prop,(∀zs H',N zs H'->∃m',m'<m/\W (i+1) m' zs H')/\
    ∀x H',J.yld i H x H'->z1B g tc te (z4j own.length ix σ) x H' ys N)) itv s2)
  (hRR:∀D C m H' ys s',Inv X pins σ (upd H' D (.lst ys)) s'->P0 X pins (upd H' D (.lst ys)) C->s'.heap.Ns C m->H' D=none->F ys H'->RR (.ref D) C (.ok .next) s') :
  wpAny (model X.prog X.w) X.A (newList []) (fun acc s3=>wpAny (model X.prog X.w) X.A (newFunctionEnv scope X.env.globals cl [] X.env.qual none .none (some X.env)) (fun cenv s4=>
   codeAny (model X.prog X.w) X.A (.compStart (.ListComp elt [⟨tg,iter,ifs,0⟩] scope pos) 0 itv acc { cenv with scope:=relabel scope X.env }) (RR acc cenv.locals) s4) E s3) E s2:=by
 obtain⟨it,fp,tn,J,H1,e,I2,T,st2,f2,W,⟨m0,w0⟩,turn⟩:=h
 subst e
 refine wpAny_newObj_type (wpAny_newFunctionEnv S.cell (by intro y hy;simp at hy) (fun h1 hns1 hsb1=>?_) S.kind)
 dsimp only at hns1 hsb1 ⊢
 generalize hH2:s2.heap.push { cls:=.type "list",dict:=none,data:=.seq ([]:List Value).toArray }=h2 at hns1 hsb1 ⊢
 have U0:∀b o,s2.heap.get? b=some o->h2.get? b=some o:=fun b o e=>hH2 ▸ bA _ e
 have sz2:h2.objs.size=s2.heap.objs.size+1:=by rw[<- hH2,eB]
 have hDC:s2.heap.objs.size≠h2.objs.size:=by omega
 have R8:∀b o,h2.get? b=some o->h1.get? b=some o:=fun b o e=>hsb1.extBut b o (cC (bL e)) (bA _ e)
 have Y3:h2.get? s2.heap.objs.size=some { cls:=.type "list",dict:=none,data:=.seq ([]:List Value).toArray }:=hH2 ▸ bJ _ rfl
 have I3:Inv X pins σ H1 { s2 with heap:=h2,toks:=s2.toks }:=I2.kept U0
 have fD:P0 X pins H1 s2.heap.objs.size:=I2.T6 (bE _) I2.fresh
 have fDs:∀{H':Hp},H' s2.heap.objs.size=none->P0 X pins H' s2.heap.objs.size:=fun hn=>⟨hn,fD.2⟩
 have Z3:∀b∈fp,b<s2.heap.objs.size:=fun b hb=>by
  obtain⟨o,e,_⟩:=T.obj _ _ st2 b hb
  exact bL e
 have Y5:s2.heap.objs.size∉fp:=fun z=>cY _ (Z3 _ z)
 have W2:∀b∈s2.heap.objs.size::fp,b<h2.objs.size/\b≠X.env.locals/\b∉X.fs/\(b∈X.ex\/X.s₀.heap.objs.size≤b)/\∀x c,X.env.cells.lookup x=some c->c≠b:=fun b hb=>by
  rcases bD.mp hb with rfl|hb
  ·exact⟨by omega,fD.2.1,fD.2.2.1,fD.2.2.2.1,fD.2.2.2.2.1⟩
  ·have:=Z3 b hb
   obtain⟨_,a1,a2,a3,a4,_⟩:=f2 b hb
   exact⟨by rw[sz2];exact dQ this,a1,a2,a3,a4⟩
 have I4:Inv (z1I X scope cl (own++D6) h2.objs.size { s2 with heap:=h2,toks:=s2.toks } H1 (s2.heap.objs.size::fp) pins) [] (z4j own.length ix σ) H1 { s2 with heap:=h1,toks:=s2.toks+([]:List (Str×Value)).length }:=
  y2h S I3 W2 hns1 R8
 generalize hX:z1I X scope cl (own++D6) h2.objs.size { s2 with heap:=h2,toks:=s2.toks } H1 (s2.heap.objs.size::fp) pins=Y at I4
 have HG:PG Y tg g:=by rw[<- hX];exact hg _ _ _ _ _
 have HT:PTs Y ifs tc:=by rw[<- hX];exact ht _ _ _ _ _
 have HE:PE Y elt te:=by rw[<- hX];exact he _ _ _ _ _
 have eP:Y.prog=X.prog:=by rw[<- hX];rfl
 have eW:Y.w=X.w:=by rw[<- hX];rfl
 have eK:Y.K=X.K:=by rw[<- hX];rfl
 have eA:Y.A=X.A:=by rw[<- hX];rfl
 have eC:Y.calm=true:=by rw[<- hX];exact hc
 have eE:Y.xe=noE:=by rw[<- hX];rfl
 have T4:Y.env=compEnvC scope cl h2.objs.size X.env:=by rw[<- hX];rfl
 have eEx:Y.ex=s2.heap.objs.size::fp:=by rw[<- hX];rfl
 have ePn:Y.pn=X.pn++pins:=by rw[<- hX];rfl
 have eFs:Y.fs=frs X.stack:=by rw[<- hX];rfl
 have W8:∀x c,Y.env.cells.lookup x=some c->X.env.cells.lookup x=some c:=fun x c e=>by
  rw[T4] at e
  exact S.look x c e
 have U9:Y.env.locals=h2.objs.size:=by rw[T4];rfl
 have fY:∀{pl:List (Addr×Obj)}{H':Hp}{b:Addr},b∈s2.heap.objs.size::fp->H' b=none->(∀p∈pl,p.1≠b)->P0 Y pl H' b:=fun {pl H' b} hb hn hpl=>by
  obtain⟨l,a1,a2,a3,a4⟩:=W2 b hb
  refine⟨hn,by rw[U9];exact cC l,fun z=>?_,.inl (by rw[eEx];exact hb),fun x c e=>a4 x c (W8 x c e),fun p hp=>?_⟩
  ·rw[eFs] at z
   rcases bD.mp (I3.P4 b z) with z|z
   ·exact a1 z
   ·exact a2 z
  ·rcases bS.mp hp with z|z
   ·rw[ePn] at z
    rcases bD.mp hb with rfl|hb
    ·exact fD.2.2.2.2.2 p z
    ·exact(f2 b hb).2.2.2.2.2 p z
   ·exact hpl p z
 let IV:Nat->Shared->Prop:=fun n s'=>∃i ys its c H',Inv Y [] (z4j own.length ix σ) H' s'/\tn i s'.heap/\(∀b∈fp,H' b=none)/\H' s2.heap.objs.size=none/\Vals ys its/\
  s'.heap.get? s2.heap.objs.size=some { cls:=.type "list",data:=.seq its.toArray c }/\ys.length≤sizeLine/\W i n ys H'
 have loop:∀s3:Shared,s3={ s2 with heap:=h1,toks:=s2.toks+([]:List (Str×Value)).length }->
   codeAny (model X.prog X.w) X.A (.compLoop (.ListComp elt [⟨tg,iter,ifs,0⟩] scope pos) 0 (.ref it) (.ref s2.heap.objs.size) (compEnvC scope cl h2.objs.size X.env)) (RR (.ref s2.heap.objs.size) h2.objs.size) s3:=by
  rintro s3 rfl
  refine y1E IV ?_ m0 ⟨0,[],[],_,H1,I4,T.keep _ _ _ st2 fun b _ o e=>R8 b o (U0 b o e),fun b hb=>(f2 b hb).1,I2.fresh,.nil,R8 _ _ Y3,cR _,w0⟩
  rintro n s5 ⟨i,ys,its,c,H5,I5,st5,fr5,nD5,v5,gD5,z5,w5⟩
  have I5p:Inv Y [(s2.heap.objs.size,{ cls:=.type "list",data:=.seq its.toArray c })] (z4j own.length ix σ) H5 s5:=I5.M0 fun p hp=>by
   have e:p=(s2.heap.objs.size,{ cls:=.type "list",data:=.seq its.toArray c }):=by simpa using hp
   subst e
   obtain⟨_,b1,b2,_⟩:=fY (pl:=[]) (H':=H5) (b:=s2.heap.objs.size) cB nD5 (fun p hp=>nomatch hp)
   exact⟨gD5,nD5,b1,b2,fun v z=>by cases z⟩
  have fps:∀{H':Hp},(∀b∈fp,H' b=none)->∀b∈fp,P0 Y [(s2.heap.objs.size,{ cls:=.type "list",data:=.seq its.toArray c })] H' b:=fun hn b hb=>
   fY (bP _ hb) (hn b hb) fun p hp=>by
    have e:p=(s2.heap.objs.size,{ cls:=.type "list",data:=.seq its.toArray c }):=by simpa using hp
    subst e
    exact fun z=>Y5 (by have z':s2.heap.objs.size=b:=z;rw[z'];exact hb)
  rcases turn i n ys H5 w5 with ⟨stop,fin⟩|⟨go,hlen,N,hN,step⟩
  ·have q:=T.done Y eP eW eK eC i _ s5 _ H5 noE I5p (fps fr5) st5 stop
   rw[eA] at q
   refine thn q fun r s6 ⟨hr,I6⟩=>?_
   subst hr
   have gD6:=(I6.pin (s2.heap.objs.size,{ cls:=.type "list",data:=.seq its.toArray c }) (bR _ (by simp))).1
   have u6:Un (frs X.stack) (s2.heap.objs.size::fp) H1 H5 h2 s6.heap:=by
    have:=I6.base
    rw[eFs,eEx] at this
    rw[<- hX] at this
    exact this
   have os6:s6.os=s2.os:=by
    have:=I6.os
    rw[<- hX] at this
    exact this
   have w0L:HOk X.prog X.w H5 s6.heap:=by
    have:=I6.hok
    rw[eP,eW] at this
    exact this
   have J6:Inv X pins σ H5 s6:=I3.W4 (s':=s6) os6 u6 w0L I6.bare fun b hb=>by
    obtain⟨l,a1,a2,a3,a4⟩:=W2 b hb
    refine⟨a3,a1,a4,?_⟩
    rcases bD.mp hb with rfl|hb
    ·exact fD.2.2.2.2.2
    ·exact(f2 b hb).2.2.2.2.2
   have J7:Inv X pins σ (upd H5 s2.heap.objs.size (.lst ys)) s6:=J6.w0f (fDs nD5) ⟨z5,its,c,v5,gD6⟩
   obtain⟨mC,hC,_⟩:=I6.loc
   rw[U9] at hC
   have nC:H5 h2.objs.size=none:=by
    have:=I6.free
    rw[U9] at this
    exact this
   refine hRR _ _ mC H5 ys s6 J7 (I3.T6 (bE _) ?_) hC nD5 fin
   show upd H5 s2.heap.objs.size (.lst ys) h2.objs.size=none
   rw[z0e (cS hDC)]
   exact nC
  ·have q:=T.item Y eP eW eK eC i _ s5 _ H5 noE I5p (fps fr5) st5 go
   rw[eA] at q
   refine thn q fun r s6 ⟨u,hr,h6⟩=>?_
   subst hr
   refine thn h6 fun _ s7 ⟨x,H7,I7,r7,y7,st7,fr7⟩=>?_
   have I7p:=I7.pinned (fps fr7) (T.obj _ _ st7)
   have st:=og _ _ _ _ (step x H7 y7)
   have q2:=HG _ s7 _ H7 x u _ I7p r7 st
   rw[eE,eP,eW,eA,T4] at q2
   refine thn q2 fun _ s8 ⟨σ8,H8,I8,q8,fr8⟩=>?_
   have q3:=HT _ s8 σ8 H8 _ I8 q8
   rw[eE,eP,eW,eA,T4] at q3
   refine thn q3 fun ok s9 ⟨H9,I9,q9⟩=>?_
   have back:∀{H':Hp}{s':Shared},Inv Y ([(s2.heap.objs.size,({ cls:=.type "list",data:=.seq its.toArray c }:Obj))]++z90 fp s7.heap) σ8 H' s'->
     Inv Y [] (z4j own.length ix σ) H' s'/\tn (i+1) s'.heap/\(∀b∈fp,H' b=none)/\H' s2.heap.objs.size=none/\s'.heap.get? s2.heap.objs.size=some { cls:=.type "list",data:=.seq its.toArray c }:=fun {H' s'} I'=>by
    have pD:=I'.pin (s2.heap.objs.size,{ cls:=.type "list",data:=.seq its.toArray c }) (bR _ (d6 _ (by simp)))
    refine⟨(I'.M0 (pins':=[]) fun p hp=>nomatch hp).weak fr8.1.symm fun j v e=>?_,T.keep _ _ _ st7 fun b hb o e=>(I'.pin (b,o) (bR _ (bR _ (z34 hb e)))).1,fun b hb=>?_,pD.2.1,pD.1⟩
    ·by_cases hj:j<own.length
     ·have e':(List.replicate own.length none++ix.map fun i=>(σ[i]?).join:St)[j]? = some (some v):=e
      rw[dO (by simpa using hj),eX,if_pos hj] at e'
      cases e'
     ·rw[fr8.2 j (gS hj)]
      exact e
    ·obtain⟨o,e,d⟩:=T.obj _ _ st7 b hb
     exact(I'.pin (b,o) (bR _ (bR _ (z34 hb e)))).2.1
   cases ok with
   | false=>
    obtain⟨m',hm,w9⟩:=hN _ _ (show N ys H9 from q9)
    obtain⟨b1,b2,b3,b4,b5⟩:=back I9
    exact⟨m',hm,i+1,ys,its,c,H9,b1,b2,b3,b4,v5,b5,z5,w9⟩
   | true=>
    have q9':te σ8 H9 fun y H4=>N (ys++[y]) H4:=q9
    have q4:=HE _ s9 σ8 H9 _ I9 q9'
    rw[eE,eP,eW,eA,T4] at q4
    refine thn q4 fun yv s10 ⟨y,H10,I10,r10,n10⟩=>?_
    obtain⟨b1,b2,b3,b4,b5⟩:=back I10
    obtain⟨m',hm,w10⟩:=hN _ _ n10
    have hl:=v5.length
    refine call_meets bT ⟨_,b5,rfl⟩ PySem.F.entry_list_append (PySem.F.args_list_append_2 _ _) (jB s2.heap.objs.size its.toArray c yv (by rw[bF];omega)) ⟨b5,?_⟩
    have q5:=jD b5 (fun a=>a.push yv)
    have e5:its.toArray.push yv=(its++[yv]).toArray:=by simp
    rw[e5] at q5
    have k5:∀b o,b≠s2.heap.objs.size->s10.heap.get? b=some o->(s10.heap.update s2.heap.objs.size (Obj.mapSeq fun a=>a.push yv)).get? b=some o:=fun b o hb e=>
     (cE s10.heap (Obj.mapSeq fun a=>a.push yv) (cS hb)).trans e
    obtain⟨f0,f1,f2',f3,f4,f5⟩:=fY (pl:=[]) (H':=H10) (b:=s2.heap.objs.size) cB b4 (fun p hp=>nomatch hp)
    have b1':=b1.turned (t':=s10.toks) k5 f0 f1 f3 f4 f5
    refine⟨m',hm,i+1,ys++[y],its++[yv],_,H10,b1',T.keep _ _ _ b2 fun b hb o e=>k5 b o (fun z=>Y5 (by rw[<- z];exact hb)) e,b3,b4,v5.append (.cons r10 .nil),q5,?_,w10⟩
    ·rw[bN,dA]
     omega
 exact codeAny_compStart_list (loop _ rfl) (T.self _ 0 _ _ _ (T.keep _ _ _ st2 fun b _ o e=>R8 b o (U0 b o e)) (loop _ rfl))
noncomputable def y6Q(own:Nat)(ix:List Nat)(wi:TI)(g:TG)(tc:TT)(te:TE):TE:=fun σ H Q=>y89 own ix wi g tc te σ H fun ys H'=>∀D,H' D=none->Q (.ref D) (upd H' D (.lst ys))
theorem z1n{elt iter tg:Expr}{ifs:List Expr}{pos:Pos}{wi:TI}{g:TG}{tc:TT}{te:TE}(own D6:List Str)(ix:List Nat)
  (hc:X.calm=true) (S:F1 X scope cl own D6 ix) (hi:PI X tg iter wi)
  (hg:∀C s3 H1 ex pn,PG (z1I X scope cl (own++D6) C s3 H1 ex pn) tg g) (og:U6 own.length g) (mg:z8I g)
  (ht:∀C s3 H1 ex pn,PTs (z1I X scope cl (own++D6) C s3 H1 ex pn) ifs tc)
  (he:∀C s3 H1 ex pn,PE (z1I X scope cl (own++D6) C s3 H1 ex pn) elt te)
  (hs:∀x,foldedSetIterable iter X.env x=pure x:=by intro _;rfl) :
  PE X (.ListComp elt [⟨tg,iter,ifs,0⟩] scope pos) (y6Q own.length ix wi g tc te):=by
 intro pins s σ H Q I h
 rw[eval_ListComp]
 refine wpAny_comprehension_free (use:=none) rfl hs (z4o S.W0) S.kind S.names (thn (hi pins s σ H _ I h) fun v s1 h1=>thn h1 fun itv s2 h2=>?_)
 refine z91 (RR:=fun acc C=>compPost (model X.prog X.w) X.A X.xe none (EP X pins σ Q) acc C) S hc hg og mg ht he h2 ?_
 intro D C m H' ys s' I' fC hn hD fin
 refine⟨m,hn,fun h' sb=>?_⟩
 obtain⟨f0,f1,f2,f3,f4,f5⟩:=fC
 have I2:=I'.turned (t':=s'.toks) (h':=h') (it:=C) (fun b o hb e=>(sb.2 b hb).trans e) f0 f1 f3 f4 f5
 exact⟨.ref D,_,I2,rfl,fin D hD⟩
theorem z5n{elt iter tg:Expr}{ifs:List Expr}{pos pos' Z0:Pos}{x:Str}{i:Nat}{wi:TI}{g:TG}{tc:TT}{te:TE}(own D6:List Str)(ix:List Nat)
  (hc:X.calm=true) (hN:X.N.Nodup) (hx:X.N[i]? = some x) (hl:Loc X.env.scope x) (S:F1 X scope cl own D6 ix) (hi:PI X tg iter wi)
  (hg:∀C s3 H1 ex pn,PG (z1I X scope cl (own++D6) C s3 H1 ex pn) tg g) (og:U6 own.length g) (mg:z8I g)
  (ht:∀C s3 H1 ex pn,PTs (z1I X scope cl (own++D6) C s3 H1 ex pn) ifs tc)
  (he:∀C s3 H1 ex pn,PE (z1I X scope cl (own++D6) C s3 H1 ex pn) elt te)
  (hsw:swapsWith (.ListComp elt [⟨tg,iter,ifs,0⟩] scope pos) (some (.Name x pos')) Z0.line X.env=pure true:=by rfl)
  (hf:X.fn x=true\/X.env.scope.names.lookup x=some .local:=by first|exact .inl rfl|exact .inr rfl|assumption)
  (hs:∀x,foldedSetIterable iter X.env x=pure x:=by intro _;rfl) :
  PS X (.Assign [.Name x pos'] (.ListComp elt [⟨tg,iter,ifs,0⟩] scope pos) Z0) (w0p (y6Q own.length ix wi g tc te) (y2A i)):=by
 intro pins s σ H D I h
 rw[exec_Assign_Name_used _ _ _ _ hsw]
 refine wpAny_bind (wpAny_standAt (wpAny_bind ?_))
 show wpAny _ X.A (do let _ <- comprehension (.ListComp elt [⟨tg,iter,ifs,0⟩] scope pos) scope X.env _ (newList []) false (eval iter X.env) (some (assign (.Name x pos') X.env))) _ _ s
 refine wpAny_bind (wpAny_mono (wpAny_comprehension_free (use:=some (assign (.Name x pos') X.env)) (Q:=fun _ s'=>SP X pins D .next s') rfl hs (z4o S.W0) S.kind S.names
  (thn (hi pins s σ H _ I h) fun v s1 h1=>thn h1 fun itv s2 h2=>?_)) (fun _ s' hq=>wpAny_pure (wpAny_pure hq)) fun _ _ e=>e)
 refine z91 (RR:=fun acc C=>compPost (model X.prog X.w) X.A X.xe (some (assign (.Name x pos') X.env)) (fun _ s'=>SP X pins D .next s') acc C) S hc hg og mg ht he h2 ?_
 intro D' C m H' ys s' I' fC hn hD fin
 obtain⟨f0,f1,f2,f3,f4,f5⟩:=fC
 obtain⟨oC,es,ep,hoC,hdC,hr⟩:=id hn
 show wpAny _ X.A (assign (.Name x pos') X.env (.ref D')) _ _ _
 have Ip:Inv X (pins++[(C,oC)]) σ (upd H' D' (.lst ys)) s':=I'.M0 fun p hp=>(bS.mp hp).elim (fun z=>I'.pin p (bR _ z)) fun z=>by
  have e:p=(C,oC):=by simpa using z
  subst e
  exact⟨hoC,f0,f1,f2,fun v z=>by rw[hdC] at z;cases z⟩
 refine thn (z0h hN hx hl hf (pins++[(C,oC)]) s' σ _ (.ref D') (.ref D') _ Ip rfl (fin D' hD)) fun _ s3 ⟨σ3,H3,I3,q3⟩=>?_
 have pC:=I3.pin (C,oC) (bR _ (bR _ (by simp)))
 refine⟨m,⟨oC,es,ep,pC.1,hdC,hr⟩,fun h' sb=>?_⟩
 have I4:Inv X pins σ3 H3 s3:=I3.O9
 exact⟨σ3,H3,I4.turned (t':=s3.toks) (h':=h') (it:=C) (fun b o hb e=>(sb.2 b hb).trans e) pC.2.1 f1 f3 f4 f5,q3⟩
end
section
variable{prog:Program}{w:World}{A:Around}{R:Result->Shared->Prop}{I:Addr}{fp wr:List Addr}{n:Nat}{P:Nat->Value->Prop}{St:Nat->Heap->Prop}
theorem y5I(W:Walks prog w A.in1 I fp wr n P St)(bt:Nat->Nat->Bool)(T5:CmpOf prog w A.in1 .Gt P bt)(S:Addr)(hSf:S∉fp)(kw:List (Str×Value)) :
  ∀(k j:Nat) (s:Shared) (vb:Value) (c:Nat),n-(j+1)=k->j+1≤n->St (j+1) s.heap->P (argBest bt j) vb->
  s.heap.get? S=some { cls:=.type "list",dict:=none,data:=.seq #[vb,vb] c,slots:=#[] }->
  (∀v h' tk,P (argBest bt (n-1)) v->(∀b o,b∉wr->b≠S->s.heap.get? b=some o->h'.get? b=some o)->R (.ok (.ret v)) { s with heap:=h',toks:=tk })->
  codeAny (model prog w) A (.builtin "max.loop" ⟨[.ref I,.none,.ref S],kw⟩) R s:=by
 have hSw:S∉wr:=fun h=>hSf (W.sub _ h)
 have N0:(toString "max"++toString ".loop":String)="max.loop":=by decide
 intro k
 induction k with
 | zero=>
  intro j s vb c hk hj hst hPb hS hR
  have hin:j+1=n:=by omega
  refine codeAny_builtin fG ?_
  rw[cH d7 _]
  show wpAny _ A.in1 (seqItems? (.ref S) >>= _) _ _ s
  refine wpAny_bind (wpAny_seqItems hS rfl ?_)
  show wpAny _ A.in1 (tryCatch (pyNext (.ref I)) _ >>= _) _ _ s
  refine wpAny_bind (wpAny_tryCatch (W.done s _ _ (hin ▸ hst) fun h' tk hk'=>?_))
  have hS':=hk' S _ hSw hS
  show wpAny _ A.in1 (updateSeq S (fun _=>#[]) >>= _) _ _ _
  refine wpAny_bind ?_
  refine wpAny_updateSeq hS' rfl (wpAny_bind (wpAny_letGo (wpAny_pure ?_)))
  refine hR vb _ tk (by rw[<- hin];exact hPb) fun b o hbw hbS e=>(cE _ _ (cS hbS)).trans (hk' b o hbw e)
 | succ k ih=>
  intro j s vb c hk hj hst hPb hS hR
  have hlt:j+1<n:=by omega
  refine codeAny_builtin fG ?_
  rw[cH d7 _]
  show wpAny _ A.in1 (seqItems? (.ref S) >>= _) _ _ s
  refine wpAny_bind (wpAny_seqItems hS rfl ?_)
  show wpAny _ A.in1 (tryCatch (pyNext (.ref I)) _ >>= _) _ _ s
  refine wpAny_bind (wpAny_tryCatch (W.item (j+1) s _ _ hlt hst fun v h' tk hP hst' hk'=>?_))
  have hS':=hk' S _ hSw hS
  show wpAny _ A.in1 (tryCatch (holding [v,v] (richCompare .Gt v vb >>= _)) _ >>= _) _ _ _
  refine wpAny_bind (wpAny_tryCatch (wpAny_holding (wpAny_bind (T5 (j+1) (argBest bt j) v vb _ _ _ hP hPb ?_))))
  refine wpAny_bind (wpAny_holding (wpAny_truthy_bool ?_))
  refine wpAny_bind (wpAny_letGo (wpAny_pure ?_))
  cases hb:bt (j+1) (argBest bt j) with
  | true=>
   simp only[if_true]
   refine wpAny_bind ?_
   refine wpAny_updateSeq hS' rfl (wpAny_bind (wpAny_letGo ?_))
   rw[N0]
   refine wpAny_pure ⟨plainId_quiet d7 _,ih (j+1) _ v _ (by omega) hlt (W.frame _ _ _ hst' fun b hbf o e=>?_) (by simp only[argBest,hb,if_true];exact hP) (dB _ hS' rfl)
    fun v' h'' tk'' hP' hk''=>?_⟩
   ·exact(cE _ _ (fun h:S=b=>hSf (by rw[h];exact hbf))).trans e
   ·exact hR v' h'' tk'' hP' fun b o hbw hbS e=>hk'' b o hbw hbS ((cE _ _ (cS hbS)).trans (hk' b o hbw e))
  | false=>
   simp only[dW,if_false]
   refine wpAny_bind (wpAny_letGo ?_)
   rw[N0]
   refine wpAny_pure ⟨plainId_quiet d7 _,ih (j+1) _ vb c (by omega) hlt hst' (by simp only[argBest,hb,dW,if_false];exact hPb) hS' fun v' h'' tk'' hP' hk''=>?_⟩
   exact hR v' h'' tk'' hP' fun b o hbw hbS e=>hk'' b o hbw hbS (hk' b o hbw e)
theorem y3Z(W:Walks prog w A.in1 I fp wr n P St)(bt:Nat->Nat->Bool)(T5:CmpOf prog w A.in1 .Gt P bt)(S:Addr)(hSf:S∉fp)(kw:List (Str×Value))(hn:0<n){s:Shared}{c:Nat}(hst:St 0 s.heap)
  (hS:s.heap.get? S=some { cls:=.type "list",dict:=none,data:=.seq #[] c,slots:=#[] })
  (hR:∀v h' tk,P (argBest bt (n-1)) v->(∀b o,b∉wr->b≠S->s.heap.get? b=some o->h'.get? b=some o)->R (.ok (.ret v)) { s with heap:=h',toks:=tk }) :
  codeAny (model prog w) A (.builtin "max.loop" ⟨[.ref I,.none,.ref S],kw⟩) R s:=by
 have hSw:S∉wr:=fun h=>hSf (W.sub _ h)
 have N0:(toString "max"++toString ".loop":String)="max.loop":=by decide
 refine codeAny_builtin fG ?_
 rw[cH d7 _]
 show wpAny _ A.in1 (seqItems? (.ref S) >>= _) _ _ s
 refine wpAny_bind (wpAny_seqItems hS rfl ?_)
 show wpAny _ A.in1 (tryCatch (pyNext (.ref I)) _ >>= _) _ _ s
 refine wpAny_bind (wpAny_tryCatch (W.item 0 s _ _ hn hst fun v h' tk hP hst' hk'=>?_))
 have hS':=hk' S _ hSw hS
 show wpAny _ A.in1 (updateSeq S (fun _=>#[v,v]) >>= _) _ _ _
 refine wpAny_bind ?_
 refine wpAny_updateSeq hS' rfl ?_
 rw[N0]
 refine wpAny_pure ⟨plainId_quiet d7 _,y5I W bt T5 S hSf kw _ 0 _ v _ rfl hn (W.frame _ _ _ hst' fun b hbf o e=>?_) hP (dB _ hS' rfl) fun v' h'' tk'' hP' hk''=>?_⟩
 ·exact(cE _ _ (fun h:S=b=>hSf (by rw[h];exact hbf))).trans e
 ·exact hR v' h'' tk'' hP' fun b o hbw hbS e=>hk'' b o hbw hbS ((cE _ _ (cS hbS)).trans (hk' b o hbw e))
theorem y5C(W:Walks prog w A.in1 I fp wr n P St)(S:Addr)(hSf:S∉fp)(kn:Str)(d:Value)(hn:n=0){s:Shared}{c:Nat}(hst:St 0 s.heap)
  (hS:s.heap.get? S=some { cls:=.type "list",dict:=none,data:=.seq #[] c,slots:=#[] })
  (hR:∀h' tk,(∀b o,b∉wr->s.heap.get? b=some o->h'.get? b=some o)->R (.ok (.ret d)) { s with heap:=h',toks:=tk }) :
  codeAny (model prog w) A (.builtin "max.loop" ⟨[.ref I,.none,.ref S],[(kn,d)]⟩) R s:=by
 refine codeAny_builtin fG ?_
 rw[cH d7 _]
 show wpAny _ A.in1 (seqItems? (.ref S) >>= _) _ _ s
 refine wpAny_bind (wpAny_seqItems hS rfl ?_)
 show wpAny _ A.in1 (tryCatch (pyNext (.ref I)) _ >>= _) _ _ s
 refine wpAny_bind (wpAny_tryCatch (W.done s _ _ (hn ▸ hst) fun h' tk hk'=>?_))
 exact wpAny_bind (wpAny_rule (wpAny_pure (hR h' tk hk')))
theorem z7q(a v:Value):argsOk "max" ⟨[a],[(Str.ofString "default",v)]⟩:=by unfold argsOk;kernel_rfl
theorem y5g{x d:Value}{s:Shared}{E:Value->Shared->Prop}{Q:Value->Shared->Prop}
  (h:wpAny (model prog w) A.in1 (pyIter x) (fun it s2=>∃I fp wr n P St bt,it=.ref I/\Walks prog w A.in1 I fp wr n P St/\St 0 s2.heap/\(∀b∈fp,b<s2.heap.objs.size)/\CmpOf prog w A.in1 .Gt P bt/\
   (n=0->∀h' tk,(∀b o,b∉wr->s2.heap.get? b=some o->h'.get? b=some o)->Q d { s2 with heap:=h',toks:=tk })/\
   (0<n->∀v h' tk,P (argBest bt (n-1)) v->(∀b o,b∉wr->s2.heap.get? b=some o->h'.get? b=some o)->Q v { s2 with heap:=h',toks:=tk })) E s) :
  wpAny (model prog w) A (call (.builtin "max") [x] [(Str.ofString "default",d)]) Q E s:=by
 have N0:(toString "max"++toString ".loop":String)="max.loop":=by decide
 refine kmk_tree PySem.F.kind_max PySem.F.plain_max PySem.F.entry_max (z7q _ _) ?_
 show wpAny _ A.in1 (Builtin.Builtins.bindParams "max" ["key","default"] 0 ⟨[],[(Str.ofString "default",d)]⟩ >>= _) _ _ s
 refine wpAny_bind (wpAny_of_eq (show Builtin.Builtins.bindParams "max" ["key","default"] 0 ⟨[],[(Str.ofString "default",d)]⟩=pure [none,some d] from by kernel_rfl) ?_)
 refine wpAny_bind (wpAny_pure ?_)
 refine wpAny_bind (wpAny_mono h (fun it s2 h2=>?_) fun _ _ e=>e)
 obtain⟨I,fp,wr,n,P,St,bt,rfl,W,hst,hfp,T5,hQ0,hQ⟩:=h2
 refine wpAny_bind (wpAny_newObj_type ?_)
 have hSf:s2.heap.objs.size∉fp:=fun hm=>cY _ (hfp _ hm)
 rw[N0]
 refine wpAny_pure ⟨plainId_quiet d7 _,?_⟩
 by_cases hn:n=0
 ·exact y5C W s2.heap.objs.size hSf _ d hn (W.frame _ _ _ hst fun b _ o e=>bA _ e) (bJ _ rfl) fun h' tk hk=>hQ0 hn h' tk fun b o hbw e=>hk b o hbw (bA _ e)
 ·exact y3Z W bt T5 s2.heap.objs.size hSf _ (g9 hn) (W.frame _ _ _ hst fun b _ o e=>bA _ e) (bJ _ rfl) fun v h' tk hP hk=>
   hQ (g9 hn) v h' tk hP fun b o hbw e=>hk b o hbw (cC (bL e)) (bA _ e)
theorem y6a(W:Walks prog w A.in1 I fp wr n P St)(bt:Nat->Nat->Bool)(T5:CmpOf prog w A.in1 .Lt P bt)(S:Addr)(hSf:S∉fp)(kw:List (Str×Value)) :
  ∀(k j:Nat) (s:Shared) (vb:Value) (c:Nat),n-(j+1)=k->j+1≤n->St (j+1) s.heap->P (argBest bt j) vb->
  s.heap.get? S=some { cls:=.type "list",dict:=none,data:=.seq #[vb,vb] c,slots:=#[] }->
  (∀v h' tk,P (argBest bt (n-1)) v->(∀b o,b∉wr->b≠S->s.heap.get? b=some o->h'.get? b=some o)->R (.ok (.ret v)) { s with heap:=h',toks:=tk })->
  codeAny (model prog w) A (.builtin "min.loop" ⟨[.ref I,.none,.ref S],kw⟩) R s:=by
 have hSw:S∉wr:=fun h=>hSf (W.sub _ h)
 have N0:(toString "min"++toString ".loop":String)="min.loop":=by decide
 intro k
 induction k with
 | zero=>
  intro j s vb c hk hj hst hPb hS hR
  have hin:j+1=n:=by omega
  refine codeAny_builtin fH ?_
  rw[cH d8 _]
  show wpAny _ A.in1 (seqItems? (.ref S) >>= _) _ _ s
  refine wpAny_bind (wpAny_seqItems hS rfl ?_)
  show wpAny _ A.in1 (tryCatch (pyNext (.ref I)) _ >>= _) _ _ s
  refine wpAny_bind (wpAny_tryCatch (W.done s _ _ (hin ▸ hst) fun h' tk hk'=>?_))
  have hS':=hk' S _ hSw hS
  show wpAny _ A.in1 (updateSeq S (fun _=>#[]) >>= _) _ _ _
  refine wpAny_bind ?_
  refine wpAny_updateSeq hS' rfl (wpAny_bind (wpAny_letGo (wpAny_pure ?_)))
  refine hR vb _ tk (by rw[<- hin];exact hPb) fun b o hbw hbS e=>(cE _ _ (cS hbS)).trans (hk' b o hbw e)
 | succ k ih=>
  intro j s vb c hk hj hst hPb hS hR
  have hlt:j+1<n:=by omega
  refine codeAny_builtin fH ?_
  rw[cH d8 _]
  show wpAny _ A.in1 (seqItems? (.ref S) >>= _) _ _ s
  refine wpAny_bind (wpAny_seqItems hS rfl ?_)
  show wpAny _ A.in1 (tryCatch (pyNext (.ref I)) _ >>= _) _ _ s
  refine wpAny_bind (wpAny_tryCatch (W.item (j+1) s _ _ hlt hst fun v h' tk hP hst' hk'=>?_))
  have hS':=hk' S _ hSw hS
  show wpAny _ A.in1 (tryCatch (holding [v,v] (richCompare .Lt v vb >>= _)) _ >>= _) _ _ _
  refine wpAny_bind (wpAny_tryCatch (wpAny_holding (wpAny_bind (T5 (j+1) (argBest bt j) v vb _ _ _ hP hPb ?_))))
  refine wpAny_bind (wpAny_holding (wpAny_truthy_bool ?_))
  refine wpAny_bind (wpAny_letGo (wpAny_pure ?_))
  cases hb:bt (j+1) (argBest bt j) with
  | true=>
   simp only[if_true]
   refine wpAny_bind ?_
   refine wpAny_updateSeq hS' rfl (wpAny_bind (wpAny_letGo ?_))
   rw[N0]
   refine wpAny_pure ⟨plainId_quiet d8 _,ih (j+1) _ v _ (by omega) hlt (W.frame _ _ _ hst' fun b hbf o e=>?_) (by simp only[argBest,hb,if_true];exact hP) (dB _ hS' rfl)
    fun v' h'' tk'' hP' hk''=>?_⟩
   ·exact(cE _ _ (fun h:S=b=>hSf (by rw[h];exact hbf))).trans e
   ·exact hR v' h'' tk'' hP' fun b o hbw hbS e=>hk'' b o hbw hbS ((cE _ _ (cS hbS)).trans (hk' b o hbw e))
  | false=>
   simp only[dW,if_false]
   refine wpAny_bind (wpAny_letGo ?_)
   rw[N0]
   refine wpAny_pure ⟨plainId_quiet d8 _,ih (j+1) _ vb c (by omega) hlt hst' (by simp only[argBest,hb,dW,if_false];exact hPb) hS' fun v' h'' tk'' hP' hk''=>?_⟩
   exact hR v' h'' tk'' hP' fun b o hbw hbS e=>hk'' b o hbw hbS (hk' b o hbw e)
theorem y4H(W:Walks prog w A.in1 I fp wr n P St)(bt:Nat->Nat->Bool)(T5:CmpOf prog w A.in1 .Lt P bt)(S:Addr)(hSf:S∉fp)(kw:List (Str×Value))(hn:0<n){s:Shared}{c:Nat}(hst:St 0 s.heap)
  (hS:s.heap.get? S=some { cls:=.type "list",dict:=none,data:=.seq #[] c,slots:=#[] })
  (hR:∀v h' tk,P (argBest bt (n-1)) v->(∀b o,b∉wr->b≠S->s.heap.get? b=some o->h'.get? b=some o)->R (.ok (.ret v)) { s with heap:=h',toks:=tk }) :
  codeAny (model prog w) A (.builtin "min.loop" ⟨[.ref I,.none,.ref S],kw⟩) R s:=by
 have hSw:S∉wr:=fun h=>hSf (W.sub _ h)
 have N0:(toString "min"++toString ".loop":String)="min.loop":=by decide
 refine codeAny_builtin fH ?_
 rw[cH d8 _]
 show wpAny _ A.in1 (seqItems? (.ref S) >>= _) _ _ s
 refine wpAny_bind (wpAny_seqItems hS rfl ?_)
 show wpAny _ A.in1 (tryCatch (pyNext (.ref I)) _ >>= _) _ _ s
 refine wpAny_bind (wpAny_tryCatch (W.item 0 s _ _ hn hst fun v h' tk hP hst' hk'=>?_))
 have hS':=hk' S _ hSw hS
 show wpAny _ A.in1 (updateSeq S (fun _=>#[v,v]) >>= _) _ _ _
 refine wpAny_bind ?_
 refine wpAny_updateSeq hS' rfl ?_
 rw[N0]
 refine wpAny_pure ⟨plainId_quiet d8 _,y6a W bt T5 S hSf kw _ 0 _ v _ rfl hn (W.frame _ _ _ hst' fun b hbf o e=>?_) hP (dB _ hS' rfl) fun v' h'' tk'' hP' hk''=>?_⟩
 ·exact(cE _ _ (fun h:S=b=>hSf (by rw[h];exact hbf))).trans e
 ·exact hR v' h'' tk'' hP' fun b o hbw hbS e=>hk'' b o hbw hbS ((cE _ _ (cS hbS)).trans (hk' b o hbw e))
theorem y5n(W:Walks prog w A.in1 I fp wr n P St)(S:Addr)(hSf:S∉fp)(kn:Str)(d:Value)(hn:n=0){s:Shared}{c:Nat}(hst:St 0 s.heap)
  (hS:s.heap.get? S=some { cls:=.type "list",dict:=none,data:=.seq #[] c,slots:=#[] })
  (hR:∀h' tk,(∀b o,b∉wr->s.heap.get? b=some o->h'.get? b=some o)->R (.ok (.ret d)) { s with heap:=h',toks:=tk }) :
  codeAny (model prog w) A (.builtin "min.loop" ⟨[.ref I,.none,.ref S],[(kn,d)]⟩) R s:=by
 refine codeAny_builtin fH ?_
 rw[cH d8 _]
 show wpAny _ A.in1 (seqItems? (.ref S) >>= _) _ _ s
 refine wpAny_bind (wpAny_seqItems hS rfl ?_)
 show wpAny _ A.in1 (tryCatch (pyNext (.ref I)) _ >>= _) _ _ s
 refine wpAny_bind (wpAny_tryCatch (W.done s _ _ (hn ▸ hst) fun h' tk hk'=>?_))
 exact wpAny_bind (wpAny_rule (wpAny_pure (hR h' tk hk')))
theorem z7p(a v:Value):argsOk "min" ⟨[a],[(Str.ofString "default",v)]⟩:=by unfold argsOk;kernel_rfl
theorem y5u{x d:Value}{s:Shared}{E:Value->Shared->Prop}{Q:Value->Shared->Prop}
  (h:wpAny (model prog w) A.in1 (pyIter x) (fun it s2=>∃I fp wr n P St bt,it=.ref I/\Walks prog w A.in1 I fp wr n P St/\St 0 s2.heap/\(∀b∈fp,b<s2.heap.objs.size)/\CmpOf prog w A.in1 .Lt P bt/\
   (n=0->∀h' tk,(∀b o,b∉wr->s2.heap.get? b=some o->h'.get? b=some o)->Q d { s2 with heap:=h',toks:=tk })/\
   (0<n->∀v h' tk,P (argBest bt (n-1)) v->(∀b o,b∉wr->s2.heap.get? b=some o->h'.get? b=some o)->Q v { s2 with heap:=h',toks:=tk })) E s) :
  wpAny (model prog w) A (call (.builtin "min") [x] [(Str.ofString "default",d)]) Q E s:=by
 have N0:(toString "min"++toString ".loop":String)="min.loop":=by decide
 refine kmk_tree PySem.F.kind_min PySem.F.plain_min PySem.F.entry_min (z7p _ _) ?_
 show wpAny _ A.in1 (Builtin.Builtins.bindParams "min" ["key","default"] 0 ⟨[],[(Str.ofString "default",d)]⟩ >>= _) _ _ s
 refine wpAny_bind (wpAny_of_eq (show Builtin.Builtins.bindParams "min" ["key","default"] 0 ⟨[],[(Str.ofString "default",d)]⟩=pure [none,some d] from by kernel_rfl) ?_)
 refine wpAny_bind (wpAny_pure ?_)
 refine wpAny_bind (wpAny_mono h (fun it s2 h2=>?_) fun _ _ e=>e)
 obtain⟨I,fp,wr,n,P,St,bt,rfl,W,hst,hfp,T5,hQ0,hQ⟩:=h2
 refine wpAny_bind (wpAny_newObj_type ?_)
 have hSf:s2.heap.objs.size∉fp:=fun hm=>cY _ (hfp _ hm)
 rw[N0]
 refine wpAny_pure ⟨plainId_quiet d8 _,?_⟩
 by_cases hn:n=0
 ·exact y5n W s2.heap.objs.size hSf _ d hn (W.frame _ _ _ hst fun b _ o e=>bA _ e) (bJ _ rfl) fun h' tk hk=>hQ0 hn h' tk fun b o hbw e=>hk b o hbw (bA _ e)
 ·exact y4H W bt T5 s2.heap.objs.size hSf _ (g9 hn) (W.frame _ _ _ hst fun b _ o e=>bA _ e) (bJ _ rfl) fun v h' tk hP hk=>
   hQ (g9 hn) v h' tk hP fun b o hbw e=>hk b o hbw (cC (bL e)) (bA _ e)
end
theorem z9X(f:Nat->Int):∀k,argBest (fun i j=>decide (f i > f j)) k≤k/\∀i,i≤k->f i≤f (argBest (fun i j=>decide (f i > f j)) k)
 | 0=>⟨bE _,fun i hi=>by rw[Nat.le_zero.mp hi];exact dP _⟩
 | k+1=>by
  obtain⟨h1,h2⟩:=z9X f k
  unfold argBest
  by_cases c:f (k+1) > f (argBest (fun i j=>decide (f i > f j)) k)
  ·rw[if_pos (decide_eq_true c)]
   refine⟨bE _,fun i hi=>?_⟩
   by_cases e:i=k+1
   ·rw[e];exact dP _
   ·have:=h2 i (by omega)
    omega
  ·rw[if_neg (by rw[decide_eq_false c];exact bM)]
   refine⟨by omega,fun i hi=>?_⟩
   by_cases e:i=k+1
   ·rw[e];omega
   ·exact h2 i (by omega)
theorem z9H(f:Nat->Int):∀k,argBest (fun i j=>decide (f i<f j)) k≤k/\∀i,i≤k->f (argBest (fun i j=>decide (f i<f j)) k)≤f i
 | 0=>⟨bE _,fun i hi=>by rw[Nat.le_zero.mp hi];exact dP _⟩
 | k+1=>by
  obtain⟨h1,h2⟩:=z9H f k
  unfold argBest
  by_cases c:f (k+1)<f (argBest (fun i j=>decide (f i<f j)) k)
  ·rw[if_pos (decide_eq_true c)]
   refine⟨bE _,fun i hi=>?_⟩
   by_cases e:i=k+1
   ·rw[e];exact dP _
   ·have:=h2 i (by omega)
    omega
  ·rw[if_neg (by rw[decide_eq_false c];exact bM)]
   refine⟨by omega,fun i hi=>?_⟩
   by_cases e:i=k+1
   ·rw[e];omega
   ·exact h2 i (by omega)
section
variable{X:Cx}
noncomputable def SqI(K:PySem.W.Frag)(H:Hp)(p:Addr)(ns:List Int):Prop:=SqL K H p (ns.map V.int)\/SqT K H p (ns.map V.int)
theorem z3m{ns:List Int}{its:List Value}(r:Vals (ns.map V.int) its):∀(i:Nat) (v:Value),its.toArray[i]? = some v->∃t,v=.int (ns.getD i 0) t:=by
 intro i v e
 have e':its[i]? = some v:=by simpa using e
 have hi:i<its.length:=(cJ.mp e').1
 have hl:=r.length
 rw[b9] at hl
 obtain⟨u,hu,ru⟩:=r.get (i:=i) (x:=.int (ns.getD i 0)) (by
  rw[bK,bY]
  have:ns[i]? = some ns[i]:=bU (by omega)
  rw[this];rfl)
 rw[e'] at hu
 cases hu
 exact ru
theorem z6n{pins:List (Addr×Obj)}{σ:St}{H:Hp}{s:Shared}{p:Addr}{ns:List Int}{A:Around}{E:Value->Shared->Prop}{Q:Value->Shared->Prop}(I:Inv X pins σ H s)(hh:A.handled=none)(hq:SqI X.K H p ns)
  (h:∀(it:Addr) (fp:List Addr) (St:Nat->Heap->Prop) (its:List Value) (s2:Shared),Vals (ns.map V.int) its->Walks X.prog X.w A it fp [it] its.toArray.size (fun i v=>its.toArray[i]? = some v) St->St 0 s2.heap->(∀b∈fp,b<s2.heap.objs.size)->
   (∀h' tk,(∀b o,b∉[it]->s2.heap.get? b=some o->h'.get? b=some o)->Inv X pins σ H { s2 with heap:=h',toks:=tk })->Q (.ref it) s2) :
  wpAny (model X.prog X.w) A (pyIter (.ref p)) Q E s:=by
 have back:∀(o:Obj) (h':Heap) (tk:Nat),(∀b ob,b∉[s.heap.objs.size]->(s.heap.push o).get? b=some ob->h'.get? b=some ob)->Inv X pins σ H { s with heap:=h',toks:=tk }:=fun o h' tk k=>
  I.kept fun b ob e=>k b ob (fun z=>absurd (bL e) (by rw[bB.mp z];exact cY _)) (bA _ e)
 rcases hq with hq|hq
 ·obtain⟨its,r,pl,hz⟩:=I.list hq
  have hlt:p<s.heap.objs.size:=by obtain⟨_,e,_⟩:=pl.isList;exact bL e
  refine wpAny_pyIter_list pl.isList ?_
  refine h s.heap.objs.size [s.heap.objs.size,p] _ its _ r (Walks.list hh s.heap.objs.size p (cC hlt) its.toArray) ⟨⟨_,bJ _ rfl,rfl,rfl⟩,pl.isList.push _⟩ (fun b hb=>?_) fun h' tk k=>back _ h' tk k
  show b<(s.heap.push _).objs.size
  rw[eB]
  rcases bD.mp hb with rfl|hb
  ·exact fQ _
  ·rw[bB.mp hb];exact dQ hlt
 ·obtain⟨its,r,pl,hz⟩:=I.tuple hq
  have hlt:p<s.heap.objs.size:=by obtain⟨_,e,_⟩:=pl;exact bL e
  refine wpAny_pyIter_tuple (show s.heap.IsTuple p its.toArray from pl) ?_
  refine h s.heap.objs.size [s.heap.objs.size,p] _ its _ r (Walks.tuple hh s.heap.objs.size p (cC hlt) its.toArray) ⟨⟨_,bJ _ rfl,rfl,rfl⟩,?_⟩ (fun b hb=>?_) fun h' tk k=>back _ h' tk k
  ·obtain⟨o,e,c⟩:=(show s.heap.IsTuple p its.toArray from pl)
   exact⟨o,bA _ e,c⟩
  ·show b<(s.heap.push _).objs.size
   rw[eB]
   rcases bD.mp hb with rfl|hb
   ·exact fQ _
   ·rw[bB.mp hb];exact dQ hlt
noncomputable def y6B(K:PySem.W.Frag)(le:Int->Int->Prop)(ta td:TA):TE:=fun σ H Q=>ta σ H fun xs H1=>td σ H1 fun ds H2=>∃p ns d,xs=[.ref p]/\ds=[d]/\SqI K H2 p ns/\(ns=[]->Q d H2)/\∀m,m∈ns->(∀y∈ns,le y m)->Q (.int m) H2
theorem z7z{ns:List Int}{i:Nat}(h:i<ns.length):ns.getD i 0∈ns:=by
 rw[bY,bU h]
 exact gT h
theorem z7B{ns:List Int}{y:Int}(h:y∈ns):∃i,i<ns.length/\ns.getD i 0=y:=by
 obtain⟨i,hi,e⟩:=List.mem_iff_getElem.mp h
 refine⟨i,hi,?_⟩
 rw[bY,bU hi]
 exact e
theorem y3l{e:Expr}{p pos kp:Pos}{dx:Expr}{ta td:TA}(hc:X.calm=true)(hg:Gl X "max")(hm:X.mg "max"=none)(ha:PA X [e] ta)(hd:PK X [⟨some (Str.ofString "default"),dx,kp⟩] td)
  (he:backTo pos (starEach [e] X.env)=(false,eval e X.env)::backTo pos (starEach [] X.env):=by rfl)
  (T9:(backTo pos (starEach [e] X.env)).any (·.1)=false:=by rfl)
  (C7:(backToKw pos (keywordEach [⟨some (Str.ofString "default"),dx,kp⟩] X.env)).all (·.1.isSome)=true:=by rfl)
  (hkw:(backToKw pos (keywordEach [⟨some (Str.ofString "default"),dx,kp⟩] X.env)).any (·.1.isNone)=false:=by rfl) :
  PE X (.Call (.Name "max" p) [e] [⟨some (Str.ofString "default"),dx,kp⟩] pos) (y6B X.K (fun y m=>y≤m) ta td):=by
 intro pins s σ H Q I h
 refine wpAny_Call_Name_kw (z69 I hg hm fL ?_)
 refine PyProof.Rows.callWith_kw (thn (ha pos pins s σ H _ I h) fun us s1 ⟨vs,H1,I1,r,q⟩=>?_) he T9 C7 hkw
 refine thn (hd pos pins s1 σ H1 _ I1 q) fun ws s2 ⟨zs,H2,I2,rz,q2⟩=>?_
 obtain⟨a,ns,d,e1,e2,hq,q0,q1⟩:=q2
 subst e1 e2
 obtain⟨u,rfl,ru⟩:=z51 r
 cases ru
 obtain⟨dv,rfl,rd⟩:=z51 rz
 show wpAny _ X.A (call (.builtin "max") [.ref a] [(Str.ofString "default",dv)]) _ _ _
 refine y5g (z6n (A:=X.A.in1) I2 (I2.ok.hd hc) hq fun it fp St its s3 rv W st hfp back=>?_)
 have hl:=rv.length
 rw[b9] at hl
 refine⟨it,fp,[it],_,_,St,_,rfl,W,st,hfp,CmpOf.ints_gt (fun i=>ns.getD i 0) (z3m rv),fun hn h' tk k=>?_,fun hn v h' tk hv k=>?_⟩
 ·rw[bF] at hn
  exact⟨d,H2,back h' tk k,rd,q0 (dG (by omega))⟩
 ·rw[bF] at hn hv
  obtain⟨t,rfl⟩:=z3m rv _ _ hv
  obtain⟨b1,b2⟩:=z9X (fun i=>ns.getD i 0) (its.length-1)
  refine⟨.int _,H2,back h' tk k,⟨t,rfl⟩,q1 _ (z7z (by omega)) fun y hy=>?_⟩
  obtain⟨i,hi,rfl⟩:=z7B hy
  exact b2 i (by omega)
theorem y4v{e:Expr}{p pos kp:Pos}{dx:Expr}{ta td:TA}(hc:X.calm=true)(hg:Gl X "min")(hm:X.mg "min"=none)(ha:PA X [e] ta)(hd:PK X [⟨some (Str.ofString "default"),dx,kp⟩] td)
  (he:backTo pos (starEach [e] X.env)=(false,eval e X.env)::backTo pos (starEach [] X.env):=by rfl)
  (T9:(backTo pos (starEach [e] X.env)).any (·.1)=false:=by rfl)
  (C7:(backToKw pos (keywordEach [⟨some (Str.ofString "default"),dx,kp⟩] X.env)).all (·.1.isSome)=true:=by rfl)
  (hkw:(backToKw pos (keywordEach [⟨some (Str.ofString "default"),dx,kp⟩] X.env)).any (·.1.isNone)=false:=by rfl) :
  PE X (.Call (.Name "min" p) [e] [⟨some (Str.ofString "default"),dx,kp⟩] pos) (y6B X.K (fun y m=>m≤y) ta td):=by
 intro pins s σ H Q I h
 refine wpAny_Call_Name_kw (z69 I hg hm fM ?_)
 refine PyProof.Rows.callWith_kw (thn (ha pos pins s σ H _ I h) fun us s1 ⟨vs,H1,I1,r,q⟩=>?_) he T9 C7 hkw
 refine thn (hd pos pins s1 σ H1 _ I1 q) fun ws s2 ⟨zs,H2,I2,rz,q2⟩=>?_
 obtain⟨a,ns,d,e1,e2,hq,q0,q1⟩:=q2
 subst e1 e2
 obtain⟨u,rfl,ru⟩:=z51 r
 cases ru
 obtain⟨dv,rfl,rd⟩:=z51 rz
 show wpAny _ X.A (call (.builtin "min") [.ref a] [(Str.ofString "default",dv)]) _ _ _
 refine y5u (z6n (A:=X.A.in1) I2 (I2.ok.hd hc) hq fun it fp St its s3 rv W st hfp back=>?_)
 have hl:=rv.length
 rw[b9] at hl
 refine⟨it,fp,[it],_,_,St,_,rfl,W,st,hfp,CmpOf.ints_lt (fun i=>ns.getD i 0) (z3m rv),fun hn h' tk k=>?_,fun hn v h' tk hv k=>?_⟩
 ·rw[bF] at hn
  exact⟨d,H2,back h' tk k,rd,q0 (dG (by omega))⟩
 ·rw[bF] at hn hv
  obtain⟨t,rfl⟩:=z3m rv _ _ hv
  obtain⟨b1,b2⟩:=z9H (fun i=>ns.getD i 0) (its.length-1)
  refine⟨.int _,H2,back h' tk k,⟨t,rfl⟩,q1 _ (z7z (by omega)) fun y hy=>?_⟩
  obtain⟨i,hi,rfl⟩:=z7B hy
  exact b2 i (by omega)
noncomputable def V2(i:Int)(n:Nat):List V:=(List.range n).map fun(k:Nat)=>V.int (i+(k:Int))
theorem y3p:z3L X (.type "range") (fun xs H Q=>∃i j,xs=[.int i,.int j]/\∀p,H p=none->Q (.ref p) (upd H p (.rng i j))):=by
 intro pins s σ H xs us Q I r h
 obtain⟨i,j,rfl,q⟩:=h
 obtain⟨u,w',rfl,⟨t,rfl⟩,⟨t',rfl⟩⟩:=y2X r
 refine call_range_2 ?_
 refine⟨.ref s.heap.objs.size,_,I.laid (fun b o e=>bA _ e) (bE _) (show z1t X.prog X.w _ _ _ (.rng i j) from⟨t,t',s.toks,bJ _ rfl⟩),rfl,q _ (I.hok.fresh (bE _))⟩
theorem z9T{prog:Program}{w:World}{A:Around}{E:Value->Shared->Prop}{s:Shared}{Q:List Value->Shared->Prop}{r:Addr}{a b c:Int}{t u v:Tok}{n:Nat}(hh:A.handled=none)(hr:IsRange s.heap r a b c t u v)(X2:Builtin.Range.small a b c=true)
  (hn:Builtin.Range.rangeSize a b c=n) (hlen:n≤2^24)
  (hQ:∀h' tk acc,(∀b o,s.heap.get? b=some o->h'.get? b=some o)->ItemsOf (fun i v=>∃t,v=.int (a+i*c) t) acc n->Q acc.toList { s with heap:=h',toks:=tk }) :
  wpAny (model prog w) A (collect (.ref r)) Q E s:=by
 unfold collect
 refine wpAny_bind (wpAny_runValue (codeAny_builtin PySem.F.entry_proto_collect ?_))
 rw[cH PySem.F.plain_proto_collect _]
 show wpAny _ A.in1 (newList [] >>= fun l=>again (.builtin "list.__iadd__" ⟨[l,.ref r],[]⟩)) _ _ s
 refine wpAny_bind (wpAny_newObj_type ?_)
 refine wpAny_pure ⟨plainId_quiet eY _,codeAny_builtin PySem.F.entry_list_iadd ?_⟩
 rw[cH eY _]
 show wpAny _ A.in1 (Builtin.List.listExtendWith (.ref s.heap.objs.size) (.ref r) (.ref s.heap.objs.size)) _ _ _
 have hS:(s.heap.push { cls:=.type "list",data:=.seq ([]:List Value).toArray }).get? s.heap.objs.size=some { cls:=.type "list",data:=.seq #[] 0 }:=bJ _ rfl
 have fin:∀(r':Result) (s':Shared),(∃h' tk acc c',r'=.ok (.ret (.ref s.heap.objs.size))/\s'={ s with heap:=h',toks:=tk }/\(∀b o,s.heap.get? b=some o->h'.get? b=some o)/\
   h'.get? s.heap.objs.size=some { cls:=.type "list",dict:=none,data:=.seq acc c',slots:=#[] }/\ItemsOf (fun i v=>∃t,v=.int (a+i*c) t) acc n)->
   match r' with
   | Except.ok (Flow.ret v)=>wpAny (model prog w) A (match v with
     | Value.ref a=>do
      match (<- load a).data with
       | Data.seq xs _=>pure xs.toList
       | _=>unsupported "internal:collect"
     | _=>unsupported "internal:collect") Q E s'
   | Except.ok _=>False
   | Except.error e=>E e s':=by
  rintro r' s' ⟨h',tk,acc,c',rfl,rfl,hk,hS',hacc⟩
  show wpAny _ A (load s.heap.objs.size >>= _) _ _ _
  refine wpAny_bind (wpAny_load hS' ?_)
  exact wpAny_pure (hQ h' tk acc hk hacc)
 refine wpAny_mono (wpAny_extend_range (A:=A) (R:=fun r' s'=>∃h' tk acc c',r'=.ok (.ret (.ref s.heap.objs.size))/\s'={ s with heap:=h',toks:=tk }/\(∀b o,s.heap.get? b=some o->h'.get? b=some o)/\
   h'.get? s.heap.objs.size=some { cls:=.type "list",dict:=none,data:=.seq acc c',slots:=#[] }/\ItemsOf (fun i v=>∃t,v=.int (a+i*c) t) acc n)
  (s:={ s with heap:=s.heap.push { cls:=.type "list",data:=.seq ([]:List Value).toArray } }) hh (bA _ hr) X2 hn hlen s.heap.objs.size _ 0 hS
  fun h' tk acc c' hk hS' hacc=>⟨h',tk,acc,c',rfl,rfl,fun b o e=>hk b o (cC (bL e)) (bA _ e),hS',hacc⟩) (fun f s' h=>?_) (fun e s' h=>?_)
 ·cases f with
  | done f=>exact fin _ _ h
  | again c'=>exact⟨h.1,codeAny_mono h.2 fun r' s'' hr'=>fin _ _ hr'⟩
 ·obtain⟨_,_,_,_,e,_⟩:=h
  cases e
theorem z8q(r:Addr)(a b:Int)(t u v:Tok)(n:Nat)(X2:Builtin.Range.small a b 1=true)(hn:Builtin.Range.rangeSize a b 1=n)(hlen:n≤2^24) :
  Meets (Builtin.«tuple.__new__» ⟨[.type "tuple",.ref r],[]⟩)
   (fun A R s=>A.handled=none/\IsRange s.heap r a b 1 t u v/\∀(h':Heap) (tk:Nat) (acc:Array Value),(∀b o,s.heap.get? b=some o->h'.get? b=some o)->ItemsOf (fun i v=>∃t,v=.int (a+i*1) t) acc n->
    R (.ok (.ret (.ref h'.objs.size))) { s with heap:=h'.push { cls:=.type "tuple",data:=.seq acc },toks:=tk }):=
 .of_wp fun prog w A R s h=>by
  obtain⟨hp,g,d,tk0,os⟩:=s
  obtain⟨hh,hr,h⟩:=h
  have V9:=sub_tuple_self
  have hinit:=init_tuple_lookup
  have hmh:=madeHere_tuple
  have hT:Shared.TypeIs ⟨hp,g,d,tk0,os⟩ (.ref r) "range":=⟨_,hr,rfl⟩
  have hh1:A.in1.handled=none:=hh
  wp_walk using wpAny_typeOf hT,z9T hh1 hr X2 hn hlen
  intro h' tk acc hk hacc
  show wpAny _ _ (Builtin.Tuple.tupleExact acc.toList.toArray >>= fun v=>ret v) _ _ _
  unfold Builtin.Tuple.tupleExact
  refine wpAny_bind (wpAny_newObj_type ?_ (show acc.toList.toArray.size≤sizeLine by simp only[Array.toArray_toList];rw[hacc.1,sizeLine_eq];omega))
  refine wpAny_pure ⟨_,rfl,?_⟩
  have e:acc.toList.toArray=acc:=by simp
  rw[e]
  exact h h' tk acc hk hacc
theorem y5L{a:Int}{acc:Array Value}{n:Nat}(h:ItemsOf (fun i v=>∃t,v=Value.int (a+(i:Int)*1) t) acc n):Vals (V2 a n) acc.toList:=by
 have go:∀(l:List Value) (k:Nat),(∀(j:Nat) (v:Value),l[j]? = some v->∃t,v=Value.int (a+((k+j:Nat):Int)) t)->Vals ((List.range' k l.length).map fun(j:Nat)=>V.int (a+(j:Int))) l:=by
  intro l
  induction l with
  | nil=>intro k _;exact .nil
  | cons x r ih=>
   intro k hx
   rw[c9,List.range'_succ,cQ]
   refine .cons ?_ (ih (k+1) fun j v e=>?_)
   ·obtain⟨t,e⟩:=hx 0 x rfl
    exact⟨t,e⟩
   ·obtain⟨t,e'⟩:=hx (j+1) v (by simpa using e)
    refine⟨t,e'.trans ?_⟩
    congr 1
    omega
 have q:=go acc.toList 0 fun j v e=>by
  obtain⟨t,e'⟩:=h.2 j v (by simpa using e)
  exact⟨t,by rw[e'];congr 1;first|done|omega⟩
 unfold V2
 rw[List.range_eq_range']
 have hn:acc.toList.length=n:=by simpa using h.1
 rw[hn] at q
 exact q
theorem z8D(hc:X.calm=true):z3L X (.type "tuple") (fun xs H Q=>∃p i j,xs=[.ref p]/\H p=some (.rng i j)/\(-(2^62)≤i/\i<2^62/\-(2^62)≤j/\j<2^62)/\(j-i).toNat≤2^24/\
  ∀l,H l=none->Q (.ref l) (upd H l (.tup (V2 i (j-i).toNat)))):=by
 intro pins s σ H xs us Q I r h
 obtain⟨p,i,j,rfl,hp,⟨h1,h2,h3,h4⟩,hlen,q⟩:=h
 obtain⟨u,rfl,rx⟩:=z51 r
 cases rx
 obtain⟨t,u',v,e⟩:=(show z1t X.prog X.w H s.heap p (.rng i j) from I.hok p _ hp)
 have hn:Builtin.Range.rangeSize i j 1=(((j-i).toNat:Nat):Int):=by rw[rangeSize_one];split<;>omega
 refine callType_new PySem.F.called_tuple (by decide) (PySem.F.typeCall_tuple_1 _) (PySem.F.newCall_tuple_1 _) (fun obj=>PySem.F.args_object_init_2 obj _) PySem.F.entry_tuple_new
  (z8q p i j t u' v _ (small_one h1 h2 h3 h4) hn hlen) ⟨I.ok.hd hc,e,fun h' tk acc hk hacc=>⟨⟨_,bJ _ rfl,rfl⟩,?_⟩⟩
 have I1:Inv X pins σ H { s with heap:=h',toks:=tk }:=I.kept hk
 have z:(V2 i (j-i).toNat).length≤sizeLine:=by unfold V2;rw[b9,gJ,sizeLine_eq];omega
 have I2:Inv X pins σ (upd H h'.objs.size (.tup (V2 i (j-i).toNat))) { s with heap:=h'.push { cls:=.type "tuple",data:=.seq acc },toks:=tk }:=
  I1.laid (t':=tk) (fun b o e=>bA _ e) (bE _) (show z1t X.prog X.w _ _ _ (.tup _) from⟨z,acc.toList,y5L hacc,by simpa using PlT.new h' acc⟩)
 exact⟨.ref h'.objs.size,_,I2,rfl,q _ (I1.hok.fresh (bE _))⟩
theorem Vals.ins{x:V}{u:Value}(r:RelV x u){xs:List V}{us:List Value}(h:Vals xs us)(k:Nat):Vals (xs.take k++x::xs.drop k) (us.take k++u::us.drop k):=
 (h.take k).append (.cons r (h.drop k))
noncomputable def y6V:V->List V->Hp->VK->Prop:=fun x vs H Q=>∃l xs i y,x=.ref l/\vs=[.int i,y]/\H l=some (.lst xs)/\0≤i/\i≤xs.length/\xs.length<sizeLine/\Q .non (upd H l (.lst (xs.take i.toNat++y::xs.drop i.toNat)))
theorem y0g:MtM X "list.insert" y6V:=by
 intro pins s σ H x vs v us Q I rx rv h
 obtain⟨l,xs,i,y,rfl,rfl,hH,h0,h1,hz,q⟩:=h
 cases rx
 obtain⟨u,w',rfl,⟨t,rfl⟩,ry⟩:=rv.two
 obtain⟨z,its,n,r,hl,e⟩:=I.X8 hH
 have hn:=z76
 have hs:sizeLine=16777216:=sizeLine_eq
 have fit:¬(!Builtin.List.listFitsIndex i)=true:=by
  rw[fitsIndex_both (by omega) (by omega)]
  decide
 refine call_meets gB ⟨_,e,rfl⟩ PySem.F.entry_list_insert (PySem.F.args_list_insert_3 _ _ _) (AutoSeq1.list_insert_list_int_val_1 l its.toArray n i t w' fit (by rw[bF];omega)) ⟨e,?_⟩
 refine⟨.non,_,I.w0F (its':=its.take i.toNat++w'::its.drop i.toNat) hH e ?_ (Vals.ins ry r i.toNat) ?_,rfl,q⟩
 ·have e1:(if i<0 then (i+(its.toArray.size:Int)).toNat else min i.toNat its.toArray.size)=i.toNat:=by
   rw[if_neg (by omega),bF,Nat.min_eq_left (by omega)]
  show((its.toArray.extract 0 (if i<0 then (i+(its.toArray.size:Int)).toNat else min i.toNat its.toArray.size)).push w'++its.toArray.extract (if i<0 then (i+(its.toArray.size:Int)).toNat else min i.toNat its.toArray.size))=_
  rw[e1]
  apply Array.toList_inj.mp
  simp
  rw[d9 (by rw[dF];omega)]
 ·rw[bN,c9,bO,dF]
  omega
theorem z8c:z3L X (.builtin "sorted") (fun xs H Q=>∃(p:Addr) (ns:List Int),xs=[.ref p]/\SqL X.K H p (ns.map V.int)/\ns.length<64/\
  ∀(l:Addr) (ns':List Int),H l=none->ns'.Perm ns->ns'.Pairwise (·≤·)->Q (.ref l) (upd H l (.lst (ns'.map V.int)))):=by
 intro pins s σ H xs us Q I r h
 obtain⟨p,ns,rfl,hq,h64,q⟩:=h
 obtain⟨u,rfl,rx⟩:=z51 r
 cases rx
 obtain⟨its,rv,pl,hz⟩:=I.list hq
 have hl:=rv.length
 rw[b9] at hl hz
 refine sorted_ints pl.isList (y30 rv) (by omega) fun out ns' a1 a2 a3=>?_
 obtain⟨e,he⟩:=sortedAll_at s.heap its out
 have hlen:=a2.length_eq
 refine⟨.ref (s.heap.objs.size+1),_,I.laid (t':=s.toks) (fun b o e=>sortedAll_old e) (fX _) (show z1t X.prog X.w _ _ _ (.lst (ns'.map V.int)) from⟨?_,out.toList,e,z6t a1,?_⟩),rfl,q _ ns' (I.hok.fresh (fX _)) a2 a3⟩
 ·rw[b9,hlen];exact hz
 ·simpa using he
noncomputable def Itd(hi:Int)(n:Nat):It:=⟨fun i _=>i<n,fun i H x H'=>H'=H/\x=.int (hi-i),fun i _=>n≤i⟩
theorem y3r{P:Program}{w:World}{K:PySem.W.Frag}{tg:Expr}(it:Addr)(hi:Int)(n:Nat):Turn P w K tg (Itd hi n) [it] it (fun i h=>IsRangeIter h it (hi+(i:Nat)*(-1)) ((n:Int)-(i:Nat)) (-1)) where
 mem:=by simp
 obj:=fun i h st b hb=>by
  have e:b=it:=by simpa using hb
  subst e
  exact⟨_,st,fun v z=>by
   have z':Data.fields _=Data.cell v:=z
   cases z'⟩
 keep:=fun i h h' st k=>k it (by simp) _ st
 item:=by
  intro X hP hw hK hc i pins s σ H E I hf st hg
  subst hP hw hK
  obtain⟨f0,f1,f2,f3,f4,f5⟩:=hf it (by simp)
  have W:=Walks.range (prog:=X.prog) (w:=X.w) (I.ok.hd hc) it hi (-1) n
  refine W.item i s _ _ hg st fun v h' tk hv st' kk=>?_
  obtain⟨t,rfl⟩:=hv
  have I1:Inv X pins σ H { s with heap:=h',toks:=tk }:=I.turned (fun b o hb e=>kk b o (by simpa using hb) e) f0 f1 f3 f4 f5
  refine⟨_,rfl,y4l (s:={ s with heap:=h',toks:=tk }) (n:="range_iterator") st' rfl rfl (by decide) ⟨.int (hi-i),H,I1,⟨t,?_⟩,⟨rfl,rfl⟩,st',fun b hb=>(hf b hb).1⟩⟩
  congr 1
  omega
 done:=by
  intro X hP hw hK hc i pins s σ H E I hf st hg
  subst hP hw hK
  obtain⟨f0,f1,f2,f3,f4,f5⟩:=hf it (by simp)
  exact wpAny_pyNext_range_end (I.ok.hd hc) st (by have:n≤i:=hg;omega) fun h' eb=>⟨rfl,I.turned (t':=s.toks) (fun b o hb e=>eb b o hb e) f0 f1 f3 f4 f5⟩
 self:=fun _ _ _ _ _ st h=>wpAny_pyIter_rangeiter st h
theorem z56(a b:Int):Builtin.Range.rangeSize a b (-1)=(((a-b).toNat:Nat):Int):=by
 unfold Builtin.Range.rangeSize
 rw[if_neg (by decide)]
 by_cases h:a > b
 ·rw[if_pos h]
  have e:(a-b-1) / (- -1)=a-b-1:=by
   show(a-b-1) / 1=_
   exact Int.ediv_one _
  rw[e]
  omega
 ·rw[if_neg h]
  omega
theorem y2Z{a b:Int}(ha:-(2^62)≤a)(ha':a<2^62)(hb:-(2^62)≤b)(hb':b<2^62):Builtin.Range.small a b (-1)=true:=by
 unfold Builtin.Range.small
 rw[z56]
 simp only[Builtin.Range.rangeFitsLong,bW,hJ,decide_eq_true_eq,beq_iff_eq]
 refine⟨?_,?_⟩<;>first|omega|(split<;>omega)|(simp<;>omega)
end
section
variable{X:Cx}{tg:Expr}
noncomputable def w0Z(ta:TA):TI:=fun σ H R=>ta σ H fun vs H1=>∃i j:Int,vs=[.int i,.int j,.int (-1)]/\(-(2^62)≤i/\i<2^62/\-(2^62)≤j/\j<2^62)/\R (Itd i (i-j).toNat) H1
theorem y4O{a b c:Expr}{ta:TA}{p pos:Pos}(hg:Gl X "range")(hm:X.mg "range"=none)(ha:PA X [a,b,c] ta)
  (hs:starEach [a,b,c] X.env=[(false,eval a X.env),(false,eval b X.env),(false,eval c X.env)]:=by rfl) (hs2:starEach [b,c] X.env=[(false,eval b X.env),(false,eval c X.env)]:=by rfl) :
  PI X tg (.Call (.Name "range" p) [a,b,c] [] pos) (w0Z ta):=by
 intro pins s σ H R I h
 refine Call_ (z69 I hg hm boot_range (dJ (thn (ha pos pins s σ H _ I h) fun us s1 ⟨vs,H1,I1,r1,q1⟩=>?_) (by rw[hs,hs2]) (by rw[hs2];rfl)))
 obtain⟨i,j,e,⟨q1,q2,q3,q4⟩,q⟩:=q1
 subst e
 cases r1 with
 | cons r rr=>
  cases rr with
  | cons r' rr=>
   cases rr with
   | cons r'' rr=>
    cases rr
    obtain⟨t,rfl⟩:=r
    obtain⟨t',rfl⟩:=r'
    obtain⟨t'',rfl⟩:=r''
    refine call_range_3 (by decide) ?_ (.inl (PyProof.noPylong_small (by decide)))
    refine wpAny_pyIter_range (IsRange.new ..) (y2Z q1 q2 q3 q4) ?_
    have I2:Inv X pins σ H1 { s1 with heap:=s1.heap.push { cls:=.type "range",data:=.fields #[.int i t,.int j t',.int (-1) t''] },toks:=s1.toks }:=I1.kept fun b o e=>bA _ e
    refine⟨(s1.heap.push { cls:=.type "range",data:=.fields #[.int i t,.int j t',.int (-1) t''] }).objs.size,[(s1.heap.push { cls:=.type "range",data:=.fields #[.int i t,.int j t',.int (-1) t''] }).objs.size],_,_,H1,rfl,
     I2.kept (t':=s1.toks) fun b o e=>bA _ e,y3r _ i (i-j).toNat,?_,fun b hb=>?_,q⟩
    ·have e1:i+((0:Nat):Int)*(-1)=i:=by simp
     have e2:(((i-j).toNat:Nat):Int)-((0:Nat):Int)=Builtin.Range.rangeSize i j (-1):=by rw[z56];omega
     show IsRangeIter _ _ (i+((0:Nat):Int)*(-1)) ((((i-j).toNat:Nat):Int)-((0:Nat):Int)) (-1)
     rw[e1,e2]
     exact bJ _ rfl
    ·have e:b=(s1.heap.push { cls:=.type "range",data:=.fields #[.int i t,.int j t',.int (-1) t''] }).objs.size:=by simpa using hb
     subst e
     exact I2.T6 (bE _) (I2.hok.fresh (bE _))
end
theorem y5w{hi:Int}{n:Nat}{g:TG}{tb:TS}{D:Ends}{σ:St}{H:Hp}(Pv:Nat->St->Hp->Prop)(h0:Pv 0 σ H)
  (hs:∀i σ H,i<n->Pv i σ H->g (.int (hi-i)) σ H fun σ2 H2=>tb { D with nx:=Pv (i+1),ct:=Pv (i+1),bk:=D.nx } σ2 H2) (hd:∀σ H,Pv n σ H->D.nx σ H) :
  ∃W:Nat->Nat->St->Hp->Prop,(∃m,W 0 m σ H)/\∀i m σ H,W i m σ H->
   ((Itd hi n).stop i H/\D.nx σ H)\/((Itd hi n).go i H/\∃N:St->Hp->Prop,(∀σ' H',N σ' H'->∃m',m'<m/\W (i+1) m' σ' H')/\∀x H',(Itd hi n).yld i H x H'->g x σ H' fun σ2 H2=>tb { D with nx:=N,ct:=N,bk:=D.nx } σ2 H2):=by
 refine⟨fun i m σ H=>m=n-i/\i≤n/\Pv i σ H,⟨n,by simp,cR _,h0⟩,?_⟩
 rintro i m σ H ⟨rfl,hi',p⟩
 by_cases hlt:i<n
 ·refine .inr ⟨hlt,Pv (i+1),fun σ' H' p'=>⟨n-(i+1),by omega,rfl,hlt,p'⟩,fun x H' y=>?_⟩
  obtain⟨e,y⟩:=y
  subst e y
  exact hs i σ _ hlt p
 ·have e:i=n:=by omega
  subst e
  exact .inl ⟨bE _,hd σ H p⟩
abbrev y0o(J:It)(g:TG)(tc:TT)(te:TE)(σ0:St)(H1:Hp)(F:List V->Hp->Prop):Prop:=
 ∃W:Nat->Nat->List V->Hp->Prop,(∃m,W 0 m [] H1)/\∀i m ys H,W i m ys H->
  (J.stop i H/\F ys H)\/(J.go i H/\ys.length<sizeLine/\∃N:List V->Hp->Prop,(∀zs H',N zs H'->∃m',m'<m/\W (i+1) m' zs H')/\
   ∀x H',J.yld i H x H'->z1B g tc te σ0 x H' ys N)
theorem z38{K:PySem.W.Frag}{a:Addr}{xs:List V}{g:TG}{tc:TT}{te:TE}{σ0:St}{H1:Hp}{F:List V->Hp->Prop}(Pv:Nat->List V->Hp->Prop)(h0:Pv 0 [] H1)
  (hl:∀i ys H,i≤xs.length->Pv i ys H->SqL K H a xs/\ys.length<sizeLine)
  (hs:∀i x ys H,xs[i]? = some x->Pv i ys H->z1B g tc te σ0 x H ys (Pv (i+1))) (hd:∀ys H,Pv xs.length ys H->F ys H):y0o (Itl K a) g tc te σ0 H1 F:=by
 refine⟨fun i m ys H=>m=xs.length-i/\i≤xs.length/\Pv i ys H,⟨xs.length,by simp,cR _,h0⟩,?_⟩
 rintro i m ys H ⟨rfl,hi,p⟩
 obtain⟨q,z⟩:=hl i ys H hi p
 by_cases hlt:i<xs.length
 ·refine .inr ⟨⟨xs,xs[i],q,by simp[hlt]⟩,z,Pv (i+1),fun zs H' p'=>⟨xs.length-(i+1),by omega,rfl,hlt,p'⟩,fun x H' y=>?_⟩
  obtain⟨e,y⟩:=y
  subst e
  exact hs i x ys _ (y xs q) p
 ·have e:i=xs.length:=by omega
  subst e
  exact .inl ⟨⟨xs,q,bE _⟩,hd ys H p⟩
theorem z2r{K:PySem.W.Frag}{a:Addr}{xs:List V}{g:TG}{tc:TT}{te:TE}{σ0:St}{H1:Hp}{F:List V->Hp->Prop}(Pv:Nat->List V->Hp->Prop)(h0:Pv 0 [] H1)
  (hl:∀i ys H,i≤xs.length->Pv i ys H->SqT K H a xs/\ys.length<sizeLine)
  (hs:∀i x ys H,xs[i]? = some x->Pv i ys H->z1B g tc te σ0 x H ys (Pv (i+1))) (hd:∀ys H,Pv xs.length ys H->F ys H):y0o (Itt K a) g tc te σ0 H1 F:=by
 refine⟨fun i m ys H=>m=xs.length-i/\i≤xs.length/\Pv i ys H,⟨xs.length,by simp,cR _,h0⟩,?_⟩
 rintro i m ys H ⟨rfl,hi,p⟩
 obtain⟨q,z⟩:=hl i ys H hi p
 by_cases hlt:i<xs.length
 ·refine .inr ⟨⟨xs,xs[i],q,by simp[hlt]⟩,z,Pv (i+1),fun zs H' p'=>⟨xs.length-(i+1),by omega,rfl,hlt,p'⟩,fun x H' y=>?_⟩
  obtain⟨e,y⟩:=y
  subst e
  exact hs i x ys _ (y xs q) p
 ·have e:i=xs.length:=by omega
  subst e
  exact .inl ⟨⟨xs,q,bE _⟩,hd ys H p⟩
theorem y33{lo:Int}{n:Nat}{g:TG}{tc:TT}{te:TE}{σ0:St}{H1:Hp}{F:List V->Hp->Prop}(Pv:Nat->List V->Hp->Prop)(h0:Pv 0 [] H1)
  (hl:∀i ys H,i≤n->Pv i ys H->ys.length<sizeLine)
  (hs:∀i ys H,i<n->Pv i ys H->z1B g tc te σ0 (.int (lo+i)) H ys (Pv (i+1))) (hd:∀ys H,Pv n ys H->F ys H):y0o (Itr lo n) g tc te σ0 H1 F:=by
 refine⟨fun i m ys H=>m=n-i/\i≤n/\Pv i ys H,⟨n,by simp,cR _,h0⟩,?_⟩
 rintro i m ys H ⟨rfl,hi,p⟩
 have z:=hl i ys H hi p
 by_cases hlt:i<n
 ·refine .inr ⟨hlt,z,Pv (i+1),fun zs H' p'=>⟨n-(i+1),by omega,rfl,hlt,p'⟩,fun x H' y=>?_⟩
  obtain⟨e,y⟩:=y
  subst e y
  exact hs i ys _ hlt p
 ·have e:i=n:=by omega
  subst e
  exact .inl ⟨bE _,hd ys H p⟩
noncomputable def z2L{α:Type}(p:α->Bool)(f:α->V)(zs:List α):List V:=(zs.filter p).map f
theorem z6D{α:Type}(p:α->Bool)(f:α->V)(zs:List α)(z:α):z2L p f (zs++[z])=if p z=true then z2L p f zs++[f z] else z2L p f zs:=by
 unfold z2L
 rw[dN,bG]
 cases h:p z<;>simp[h]
theorem z9W{α:Type}(p:α->Bool)(f:α->V)(zs:List α):(z2L p f zs).length≤zs.length:=by
 unfold z2L
 rw[b9]
 exact cI _ _
theorem z0x{α:Type}{zs:List α}{i:Nat}{z:α}(h:zs[i]? = some z):zs.take (i+1)=zs.take i++[z]:=by
 rw[dZ,h]
 rfl
theorem y0T{K:PySem.W.Frag}{a:Addr}{ns:List Int}{g:TG}{tc:TT}{te:TE}{σ0:St}{H1:Hp}{F:List V->Hp->Prop}(p:Int->Bool)(f:Int->V)(hq:SqL K H1 a (ns.map V.int))(hz:ns.length≤1000)
  (hs:∀n ys N,n∈ns->N (if p n=true then ys++[f n] else ys) H1->z1B g tc te σ0 (.int n) H1 ys N) (hd:F (z2L p f ns) H1):y0o (Itl K a) g tc te σ0 H1 F:=by
 refine z38 (xs:=ns.map V.int) (fun i ys H=>H=H1/\ys=z2L p f (ns.take i)) ⟨rfl,rfl⟩ (fun i ys H hi hp=>?_) (fun i x ys H hx hp=>?_) (fun ys H hp=>?_)
 ·obtain⟨rfl,rfl⟩:=hp
  refine⟨hq,z0n ?_⟩
  have h1:=z9W p f (ns.take i)
  have h2:=List.length_take_le i ns
  have h3:(ns.take i).length≤ns.length:=by rw[bO];omega
  omega
 ·obtain⟨rfl,rfl⟩:=hp
  rw[bK] at hx
  cases e:ns[i]? with
  | none=>rw[e] at hx;cases hx
  | some n=>
   rw[e] at hx
   cases hx
   refine hs n _ _ (bQ e) ⟨rfl,?_⟩
   rw[z0x e,z6D]
 ·obtain⟨rfl,rfl⟩:=hp
  rw[b9,bX]
  exact hd
theorem z8S{K:PySem.W.Frag}{a:Addr}{ns:List Int}{g:TG}{tc:TT}{te:TE}{σ0:St}{H1:Hp}{F:List V->Hp->Prop}(p:Int->Bool)(f:Int->V)(hq:SqT K H1 a (ns.map V.int))(hz:ns.length≤1000)
  (hs:∀n ys N,n∈ns->N (if p n=true then ys++[f n] else ys) H1->z1B g tc te σ0 (.int n) H1 ys N) (hd:F (z2L p f ns) H1):y0o (Itt K a) g tc te σ0 H1 F:=by
 refine z2r (xs:=ns.map V.int) (fun i ys H=>H=H1/\ys=z2L p f (ns.take i)) ⟨rfl,rfl⟩ (fun i ys H hi hp=>?_) (fun i x ys H hx hp=>?_) (fun ys H hp=>?_)
 ·obtain⟨rfl,rfl⟩:=hp
  refine⟨hq,z0n ?_⟩
  have h1:=z9W p f (ns.take i)
  have h3:(ns.take i).length≤ns.length:=by rw[bO];omega
  omega
 ·obtain⟨rfl,rfl⟩:=hp
  rw[bK] at hx
  cases e:ns[i]? with
  | none=>rw[e] at hx;cases hx
  | some n=>
   rw[e] at hx
   cases hx
   refine hs n _ _ (bQ e) ⟨rfl,?_⟩
   rw[z0x e,z6D]
 ·obtain⟨rfl,rfl⟩:=hp
  rw[b9,bX]
  exact hd
noncomputable def upI(lo:Int)(n:Nat):List Int:=(List.range n).map fun(k:Nat)=>lo+(k:Int)
theorem z7A(lo:Int)(n:Nat):upI lo (n+1)=upI lo n++[lo+(n:Int)]:=by
 unfold upI
 rw[List.range_succ,bG]
 rfl
theorem z0T(lo:Int)(n:Nat):(upI lo n).length=n:=by unfold upI;rw[b9,gJ]
theorem z1r{lo:Int}{n:Nat}{x:Int}:x∈upI lo n↔lo≤x/\x<lo+n:=by
 unfold upI
 rw[cG]
 constructor
 ·rintro⟨k,hk,rfl⟩
  have:=gF.mp hk
  omega
 ·rintro⟨h1,h2⟩
  exact⟨(x-lo).toNat,gF.mpr (by omega),by omega⟩
theorem z83{lo:Int}{n:Nat}{g:TG}{tc:TT}{te:TE}{σ0:St}{H1:Hp}{F:List V->Hp->Prop}(p:Int->Bool)(f:Int->V)(hz:n≤1000)
  (hs:∀k ys N,lo≤k->k<lo+n->N (if p k=true then ys++[f k] else ys) H1->z1B g tc te σ0 (.int k) H1 ys N) (hd:F (z2L p f (upI lo n)) H1):y0o (Itr lo n) g tc te σ0 H1 F:=by
 refine y33 (fun i ys H=>H=H1/\ys=z2L p f (upI lo i)) ⟨rfl,rfl⟩ (fun i ys H hi hp=>?_) (fun i ys H hx hp=>?_) (fun ys H hp=>?_)
 ·obtain⟨rfl,rfl⟩:=hp
  have h1:=z9W p f (upI lo i)
  rw[z0T] at h1
  exact z0n (by omega)
 ·obtain⟨rfl,rfl⟩:=hp
  refine hs _ _ _ (by omega) (by omega) ⟨rfl,?_⟩
  rw[z7A,z6D]
 ·obtain⟨rfl,rfl⟩:=hp
  exact hd
section
variable{X:Cx}
theorem z1P:z3L X (.builtin "isinstance") (fun xs H Q=>∃x T t b,xs=[x,.ty T]/\R5 X.K H x t/\PySem.W.kitOne X.K t (.type T)=some b/\Q (.bl b) H):=by
 intro pins s σ H xs us Q I r h
 obtain⟨x,T,t,b,rfl,ty,e,q⟩:=h
 obtain⟨u,w',rfl,rx,ry⟩:=y2X r
 cases (show w'=Value.type T from ry)
 exact y3M I rx ty e fun tk=>⟨.bl b,H,I.tok _,rfl,q⟩
theorem y7X(hu:X.A.units<cLine):OpR X (compareOp .NotEq) (fun x y H Q=>∃a b xs,x=.ref a/\y=.ref b/\SqL X.K H a xs/\SqL X.K H b []/\Q (.bl (!xs.isEmpty)) H):=by
 intro pins s σ H x y v u Q I rx ry h
 obtain⟨a,b,xs,rfl,rfl,ha,hb,q⟩:=h
 cases rx
 cases ry
 obtain⟨its,r,pl,hz⟩:=I.list ha
 obtain⟨N6,r2,pl2,hz2⟩:=I.list hb
 cases r2
 have hl:=r.length
 cases xs with
 | nil=>
  cases r
  exact SeqAt.RcNeAt.lists (e:=fun _=>true) pl.isList pl2.isList rfl hu (fun j h1 _=>absurd h1 (Nat.not_lt_zero _)) X.prog X.w X.xe _ ⟨.bl false,H,I,rfl,q⟩
 | cons x0 xr=>
  refine SeqAt.RcNeAt.lists_lengths pl.isList pl2.isList ?_ hu X.prog X.w X.xe _ ⟨.bl true,H,I,rfl,q⟩
  rw[bF,<- hl]
  rfl
end
noncomputable def y2a(N:List Str)(kind:Str->Option NameKind)(rl:List (Str×NameKind)):List Str->List Nat->Bool
 | x::xs,i::is=>decide (N[i]? = some x) && (decide (kind x=some .cell) || decide (kind x=some .free)) && (decide (rl.lookup x=some .cell) || decide (rl.lookup x=some .free)) && y2a N kind rl xs is
 | _,_=>true
theorem y6t{N:List Str}{kind:Str->Option NameKind}{rl:List (Str×NameKind)}:∀{D6:List Str}{ix:List Nat},y2a N kind rl D6 ix=true->∀(j i:Nat) (x:Str),D6[j]? = some x->ix[j]? = some i->
  N[i]? = some x/\(kind x=some .cell\/kind x=some .free)/\(rl.lookup x=some .cell\/rl.lookup x=some .free)
 | [],_,_,j,i,x,e,_=>by simp at e
 | _::_,[],_,j,i,x,_,e=>by simp at e
 | y::ys,k::ks,h,j,i,x,e1,e2=>by
  unfold y2a at h
  rw[bW,bW,bW,hJ,hJ] at h
  obtain⟨⟨⟨h1,h2⟩,h3⟩,h4⟩:=h
  cases j with
  | zero=>
   simp at e1 e2
   subst e1 e2
   exact⟨of_decide_eq_true h1,h2.imp of_decide_eq_true of_decide_eq_true,h3.imp of_decide_eq_true of_decide_eq_true⟩
  | succ j=>exact y6t h4 j i x (by simpa using e1) (by simpa using e2)
theorem z0z{X:Cx}{scope:Scope}{cl:List (Str×Addr)}{own D6:List Str}{ix:List Nat}(W0:z8d X.env.cells scope.names []=some cl)(cell:∀y∈scope.names,y.2≠.cell)(kind:scope.kind=.function)
  (names:∀y∈scope.names,y.2=.local->scope.names.lookup y.1=some .local) (n:D6.length=ix.length) (cap:y2a X.N X.env.kindOf (relabel scope X.env).names D6 ix=true):F1 X scope cl own D6 ix:=
 ⟨W0,cell,kind,names,n,fun j i x e1 e2=>by
  obtain⟨a,b,c⟩:=y6t cap j i x e1 e2
  refine⟨a,fun z=>?_,b.elim (fun q=>.inr (.inl q)) (fun q=>.inr (.inr q)),c⟩
  rcases b with b|b<;>(rw[b] at z;cases z)⟩
theorem z7K{X:Cx}{K:PySem.W.Frag}{es:List Expr}{k:Nat}{t:TGs}{n:Nat}{pos:Pos}(hK:X.K=K)(hc:X.calm=true)(h:PGs X es t)
  (hn:(assignEach es X.env).length=n:=by rfl) (hst:(assignEach es X.env).findIdx? (·.1)=none:=by rfl):PG X (.Tuple es k pos) (w04 K n t):=by
 subst hK
 exact y6g hc h hn hst
structure Cal(P:Program)(w:World)(K:PySem.W.Frag)(mg:Str->Option Value)(base:Heap)(k:Nat)(x:Str)(ps:List Str)(sp:Sp):Prop where
 ex:∃(f:Addr) (fd:FuncData),A8 P w K mg base CX0 k f fd ps sp/\z1D K fd ps []/\PySem.W.keepIn K (.ref f)=true/\mg x=some (.ref f)
theorem Cal.mk'{P:Program}{w:World}{K:PySem.W.Frag}{mg:Str->Option Value}{base:Heap}{k:Nat}{x:Str}{ps:List Str}{sp:Sp}{f:Addr}{fd:FuncData}(a:A8 P w K mg base CX0 k f fd ps sp)(b:z1D K fd ps [])(c:PySem.W.keepIn K (.ref f)=true)(d:mg x=some (.ref f)) :
  Cal P w K mg base k x ps sp:=⟨⟨f,fd,a,b,c,d⟩⟩
theorem z0k{X:Cx}{k:Nat}{x:Str}{ps:List Str}{sp:Sp}{e:Expr}{es:List Expr}{t:TA}{p pos:Pos}(G:Cal X.prog X.w X.K X.mg X.base k x ps sp)(hr:E5 k X.A)(hg:Gl X x)(ha:PA X (e::es) t)
  (hdb:(x == ("__debug__":Str))=false:=by decide) (he:starEach (e::es) X.env=(false,eval e X.env)::starEach es X.env:=by rfl) (hpl:(backTo pos (starEach es X.env)).any (·.1)=false:=by rfl) :
  PE X (.Call (.Name x p) (e::es) [] pos) (y8h sp [] E0 t):=by
 obtain⟨f,fd,a,b,c,d⟩:=G.ex
 exact y7c a hr hg d c b .nil y5O ha hdb he hpl
noncomputable def N7(z:Str)(lo hi:Option Int):Str:=⟨((z.cps.toList.drop (HT.sIx z.length 0 lo)).take (HT.sIx z.length z.length hi-HT.sIx z.length 0 lo)).toArray⟩
theorem z9V{x y:Str}(h:x.cps.toList=y.cps.toList):x=y:=by
 obtain⟨a⟩:=x
 obtain⟨b⟩:=y
 exact congrArg Str.mk (Array.toList_inj.mp h)
theorem z10(z:Str):z.cps.toList.length=z.length:=by simp[Str.length]
theorem y16(lo hi:Option Int)(n:Nat):Builtin.Str.strSliceIndices lo hi 1 n=(List.range (HT.sIx n n hi-HT.sIx n 0 lo)).map (fun k=>HT.sIx n 0 lo+k):=by
 obtain⟨h1,h2,h3⟩:=z7b lo hi n
 have e:Builtin.Str.strSliceIndices lo hi 1 n=sliceRange (sliceBounds lo hi none n).1 (sliceBounds lo hi none n).2.1 1:=by
  unfold Builtin.Str.strSliceIndices sliceBounds
  cases lo<;>cases hi<;>rfl
 rw[e,h1,h2,sliceRange_one]
theorem y67{z:Str}{t:Tok}{l u:Option (Int×Tok)}{Q:Value->Shared->Prop}{s:Shared}(hz:z.length≤sizeLine)(h:∀t' tk,Q (.str (N7 z (l.map (·.1)) (u.map (·.1))) t') { s with toks:=tk }):(sliceMade z t l u none).post Q s:=by
 have picked:slicePicked z l u none=(List.range (HT.sIx z.length z.length (u.map (·.1))-HT.sIx z.length 0 (l.map (·.1)))).map (fun k=>HT.sIx z.length 0 (l.map (·.1))+k):=y16 _ _ _
 have items:(slicePicked z l u none).filterMap (z.cps[·]?)=(N7 z (l.map (·.1)) (u.map (·.1))).cps.toList:=by
  rw[picked,pick_run]
  rfl
 have lh:=HT.y6w z.length z.length (bE _) (u.map (·.1))
 unfold sliceMade
 by_cases c:(((none:Option (Int×Tok)).map (·.1)).getD 1 == 1 && (slicePicked z l u none).length == z.length)=true
 ·rw[if_pos c]
  rw[bW] at c
  have c2:(slicePicked z l u none).length=z.length:=eq_of_beq c.2
  rw[picked,b9,gJ] at c2
  have e:N7 z (l.map (·.1)) (u.map (·.1))=z:=by
   apply z9V
   show(z.cps.toList.drop _).take _=_
   by_cases hz0:z.length=0
   ·have:z.cps.toList=[]:=dG (by rw[z10];exact hz0)
    rw[this]
    simp
   ·have e1:HT.sIx z.length 0 (l.map (·.1))=0:=by omega
    rw[e1,fN,d9]
    rw[z10]
    omega
  have:=h t s.toks
  rw[e] at this
  exact this
 ·rw[if_neg c,items]
  refine⟨?_,?_⟩
  ·show(((N7 z (l.map (·.1)) (u.map (·.1))).cps.toList.toArray).size)≤sizeLine
   rw[bF]
   show((z.cps.toList.drop _).take _).length≤_
   rw[bO,dF,z10]
   omega
  ·have:=h s.toks (s.toks+1)
   have e:(⟨(N7 z (l.map (·.1)) (u.map (·.1))).cps.toList.toArray⟩:Str)=N7 z (l.map (·.1)) (u.map (·.1)):=z9V (by simp)
   rw[e]
   exact this
section
variable{X:Cx}
theorem z75{v:Value}{o:Option Int}(h:IsPart v o):∃p:Option (Int×Tok),v=partValue p/\p.map (·.1)=o:=by
 cases h with
 | none=>exact⟨none,rfl,rfl⟩
 | int i t=>exact⟨some (i,t),rfl,rfl⟩
noncomputable def rSlS:V->Option Int->Option Int->Hp->VK->Prop:=fun x lo hi H Q=>∃z,x=.str z/\z.length≤sizeLine/\Q (.str (N7 z lo hi)) H
theorem y3C:SlR X rSlS:=by
 intro pins s σ H x v vl vu lo hi sl Q I rx hs pl pu h
 obtain⟨z,rfl,hz,q⟩:=h
 obtain⟨t,rfl⟩:=rx
 obtain⟨l,rfl,rfl⟩:=z75 pl
 obtain⟨u,rfl,rfl⟩:=z75 pu
 refine⟨"str",_,slot_str_getitem.lookup,typeIs_str s z t,?_⟩
 obtain⟨o,ho,hc,hd⟩:=hs
 refine wpAny_getItem_str_slice (l:=l) (u:=u) (st:=none) ⟨o,ho,hc,hd⟩ rfl (y67 hz fun t' tk=>?_)
 exact⟨.str _,H,I.tok _,⟨_,rfl⟩,q⟩
noncomputable def Y2(z:Str)(n:Nat):Str:=⟨(List.replicate n z.cps.toList).flatten.toArray⟩
theorem y2e(z:Array Nat):∀(n:Nat) (acc:Array Nat),(List.foldl (fun a b=>a++b) acc (List.replicate n z)).toList=acc.toList++(List.replicate n z.toList).flatten
 | 0,acc=>by simp
 | n+1,acc=>by
  rw[List.replicate_succ,dY,y2e z n]
  simp[List.replicate_succ]
theorem y31:OpR X (binaryOp .Mult) (fun x y H Q=>∃z n,x=.str z/\y=.int n/\1≤n/\n≤1000/\z.length≤1000/\Q (.str (Y2 z n.toNat)) H):=by
 intro pins s σ H x y v u Q I rx ry h
 obtain⟨z,n,rfl,rfl,h1,h2,hz,q⟩:=h
 obtain⟨t,rfl⟩:=rx
 obtain⟨t',rfl⟩:=ry
 have hs:sizeLine=16777216:=sizeLine_eq
 have hm:z.length*n.toNat≤1000*1000:=Nat.mul_le_mul hz (by omega)
 have fin:∀t' tk,EP X pins σ Q (.str (Y2 z n.toNat) t') { s with toks:=tk }:=fun t' tk=>⟨.str _,H,I.tok _,⟨_,rfl⟩,q⟩
 refine PySem.P.mul_str ?_ (fun _ _=>?_) (fun _ _=>?_) ?_
 ·rw[decide_eq_false (show ¬n < -(2^63:Int) by omega),decide_eq_false (show ¬n≥2^63 by omega)]
  rfl
 ·have:(1000:Int)≤(2^63-1) / n:=by
   apply Int.le_ediv_of_mul_le (by omega)
   have:1000*n≤1000*1000:=Int.mul_le_mul_of_nonneg_left h2 (by decide)
   omega
  omega
 ·unfold Builtin.Str.tooLong
  exact decide_eq_false (by omega)
 ·rw[if_neg (by omega)]
  by_cases c:(n == 1 || z.length == 0)=true
  ·rw[if_pos c]
   have e:Y2 z n.toNat=z:=by
    apply z9V
    show((List.replicate n.toNat z.cps.toList).flatten.toArray).toList=_
    rw[hJ] at c
    rcases c with c|c
    ·have:n=1:=eq_of_beq c
     subst this
     simp
    ·have:z.length=0:=eq_of_beq c
     have:z.cps.toList=[]:=dG (by rw[z10];exact this)
     rw[this]
     simp
   have:=fin t s.toks
   rw[e] at this
   exact this
  ·rw[if_neg c]
   have e:(⟨(List.replicate n.toNat z.cps).foldl (·++·) #[]⟩:Str)=Y2 z n.toNat:=by
    apply z9V
    show(List.foldl (fun a b=>a++b) #[] (List.replicate n.toNat z.cps)).toList=((List.replicate n.toNat z.cps.toList).flatten.toArray).toList
    rw[y2e]
    simp
   refine⟨?_,?_⟩
   ·rw[e,<- z10]
    show((List.replicate n.toNat z.cps.toList).flatten.toArray).toList.length≤sizeLine
    have:((List.replicate n.toNat z.cps.toList).flatten.toArray).toList.length=n.toNat*z.length:=by
     simp[List.length_flatten,List.map_replicate,z10]
     rfl
    rw[this,Nat.mul_comm]
    omega
   ·rw[e]
    exact fin _ _
end
end L2
namespace L2
open PySem
inductive DV where
 | non|bl (b:Bool)|int (i:Int)|str (x:Str)|tup (l:List DV)
mutual
noncomputable def Tell(H:Hp):DV->V->Prop
 | .non,x=>x=.non
 | .bl b,x=>x=.bl b
 | .int i,x=>x=.int i
 | .str s,x=>x=.str s
 | .tup ds,x=>∃a xs,x=.ref a/\H a=some (.tup xs)/\xs.length≤1000000/\z0c H ds xs
noncomputable def z0c(H:Hp):List DV->List V->Prop
 | [],xs=>xs=[]
 | d::ds,xs=>∃x r,xs=x::r/\Tell H d x/\z0c H ds r
end
mutual
theorem Tell.keep{H H':Hp}(s:A4 H H'):∀(d:DV) (x:V),Tell H d x->Tell H' d x
 | .non,_,h=>h
 | .bl _,_,h=>h
 | .int _,_,h=>h
 | .str _,_,h=>h
 | .tup ds,_,h=>by
  unfold Tell at h ⊢
  obtain⟨a,xs,e,h1,h2,h3⟩:=h
  exact⟨a,xs,e,s _ _ h1,h2,z0c.keep s ds xs h3⟩
theorem z0c.keep{H H':Hp}(s:A4 H H'):∀(ds:List DV) (xs:List V),z0c H ds xs->z0c H' ds xs
 | [],_,h=>h
 | d::ds,_,h=>by
  unfold z0c at h ⊢
  obtain⟨x,r,e,h1,h2⟩:=h
  exact⟨x,r,e,Tell.keep s d x h1,z0c.keep s ds r h2⟩
end
mutual
theorem Tell.over{H:Hp}{l:Addr}{o o':HO}(hl:H l=some o)(hn:∀xs,o≠.tup xs):∀(d:DV) (x:V),Tell H d x->Tell (upd H l o') d x
 | .non,_,h=>h
 | .bl _,_,h=>h
 | .int _,_,h=>h
 | .str _,_,h=>h
 | .tup ds,_,h=>by
  unfold Tell at h ⊢
  obtain⟨a,xs,e,h1,h2,h3⟩:=h
  exact⟨a,xs,e,by rw[z0e (z50 h1 hl (fun z=>hn xs z.symm))];exact h1,h2,z0c.over hl hn ds xs h3⟩
theorem z0c.over{H:Hp}{l:Addr}{o o':HO}(hl:H l=some o)(hn:∀xs,o≠.tup xs):∀(ds:List DV) (xs:List V),z0c H ds xs->z0c (upd H l o') ds xs
 | [],_,h=>h
 | d::ds,_,h=>by
  unfold z0c at h ⊢
  obtain⟨x,r,e,h1,h2⟩:=h
  exact⟨x,r,e,Tell.over hl hn d x h1,z0c.over hl hn ds r h2⟩
end
theorem z0c.length{H:Hp}:∀{ds:List DV}{xs:List V},z0c H ds xs->xs.length=ds.length
 | [],_,h=>by unfold z0c at h;rw[h];rfl
 | d::ds,_,h=>by
  unfold z0c at h
  obtain⟨x,r,rfl,_,h2⟩:=h
  rw[c9,c9,z0c.length h2]
theorem z0c.get{H:Hp}:∀{ds:List DV}{xs:List V},z0c H ds xs->∀(i:Nat) (d:DV),ds[i]? = some d->∃x,xs[i]? = some x/\Tell H d x
 | [],_,_,i,d,e=>by simp at e
 | d0::ds,_,h,0,d,e=>by
  unfold z0c at h
  obtain⟨x,r,rfl,h1,_⟩:=h
  simp at e
  subst e
  exact⟨x,rfl,h1⟩
 | d0::ds,_,h,i+1,d,e=>by
  unfold z0c at h
  obtain⟨x,r,rfl,_,h2⟩:=h
  obtain⟨y,e1,e2⟩:=z0c.get h2 i d (by simpa using e)
  exact⟨y,by simpa using e1,e2⟩
theorem z0c.at{H:Hp}:∀{ds:List DV}{xs:List V},z0c H ds xs->∀(i:Nat) (x:V),xs[i]? = some x->∃d,ds[i]? = some d/\Tell H d x
 | [],_,h,i,x,e=>by
  unfold z0c at h
  subst h
  simp at e
 | d0::ds,_,h,0,x,e=>by
  unfold z0c at h
  obtain⟨x0,r,rfl,h1,_⟩:=h
  simp at e
  subst e
  exact⟨d0,rfl,h1⟩
 | d0::ds,_,h,i+1,x,e=>by
  unfold z0c at h
  obtain⟨x0,r,rfl,_,h2⟩:=h
  obtain⟨y,e1,e2⟩:=z0c.at h2 i x (by simpa using e)
  exact⟨y,by simpa using e1,e2⟩
theorem z0c.nil{H:Hp}:z0c H [] []:=by unfold z0c;rfl
theorem z0c.cons{H:Hp}{d:DV}{ds:List DV}{x:V}{xs:List V}(h:Tell H d x)(t:z0c H ds xs):z0c H (d::ds) (x::xs):=by unfold z0c;exact⟨x,xs,rfl,h,t⟩
theorem z0c.snoc{H:Hp}:∀{ds:List DV}{xs:List V}{d:DV}{x:V},z0c H ds xs->Tell H d x->z0c H (ds++[d]) (xs++[x])
 | [],_,_,_,h,q=>by
  unfold z0c at h
  subst h
  exact z0c.cons q .nil
 | d0::ds,_,_,_,h,q=>by
  unfold z0c at h
  obtain⟨x0,r,rfl,h1,h2⟩:=h
  exact z0c.cons h1 (z0c.snoc h2 q)
theorem z0J{H:Hp}(i:Int):Tell H (.int i) (.int i):=by unfold Tell;rfl
theorem z14{H:Hp}(x:Str):Tell H (.str x) (.str x):=by unfold Tell;rfl
theorem z9J{H:Hp}:Tell H .non .non:=by unfold Tell;rfl
theorem z0w{H:Hp}{a:Addr}{xs:List V}{ds:List DV}(h:H a=some (.tup xs))(hl:ds.length≤1000000)(t:z0c H ds xs):Tell H (.tup ds) (.ref a):=by
 unfold Tell
 exact⟨a,xs,rfl,h,by rw[t.length];exact hl,t⟩
theorem z6I{H:Hp}:∀(l:List Int),z0c H (l.map DV.int) (l.map V.int)
 | []=>.nil
 | i::r=>.cons (z0J i) (z6I r)
theorem z36{H:Hp}:∀(l:List Str),z0c H (l.map DV.str) (l.map V.str)
 | []=>.nil
 | i::r=>.cons (z14 i) (z36 r)
theorem z5b{H:Hp}:∀{l:List Str}{xs:List V},z0c H (l.map DV.str) xs->xs=l.map V.str
 | [],_,h=>by unfold z0c at h;exact h
 | i::r,_,h=>by
  rw[cQ] at h
  unfold z0c at h
  obtain⟨x,t,rfl,h1,h2⟩:=h
  unfold Tell at h1
  rw[h1,z5b h2]
  rfl
theorem z0s{H:Hp}{ds:List DV}{x:V}(h:Tell H (.tup ds) x):∃a xs,x=.ref a/\H a=some (.tup xs)/\xs.length≤1000000/\z0c H ds xs:=by
 unfold Tell at h
 exact h
theorem z1k{H:Hp}{i:Int}{x:V}(h:Tell H (.int i) x):x=.int i:=by unfold Tell at h;exact h
theorem z4L{H:Hp}{i:Str}{x:V}(h:Tell H (.str i) x):x=.str i:=by unfold Tell at h;exact h
theorem z0j{H:Hp}{d:DV}{ds:List DV}{xs:List V}(h:z0c H (d::ds) xs):∃x r,xs=x::r/\Tell H d x/\z0c H ds r:=by
 unfold z0c at h
 exact h
theorem z0X{H:Hp}{xs:List V}(h:z0c H [] xs):xs=[]:=by unfold z0c at h;exact h
mutual
noncomputable def DV.deep:DV->Nat
 | .tup ds=>DV.S8 ds+1
 | _=>0
noncomputable def DV.S8:List DV->Nat
 | []=>0
 | d::ds=>max d.deep (DV.S8 ds)
end
noncomputable def y2K:V->Bool
 | .non=>true
 | .bl _=>true
 | .int _=>true
 | .str _=>true
 | _=>false
noncomputable def z53(H:Hp):Nat->V->V->Prop
 | 0,x,y=>x=y/\y2K x=true
 | n+1,x,y=>(x=y/\y2K x=true)\/∃(a b:Addr) (xs ys:List V),x=.ref a/\y=.ref b/\H a=some (.tup xs)/\H b=some (.tup ys)/\xs.length=ys.length/\ys.length≤1000000/\
   ∀(i:Nat) (u v:V),xs[i]? = some u->ys[i]? = some v->z53 H n u v
theorem z53.keep{H H':Hp}(s:A4 H H'):∀{n:Nat}{x y:V},z53 H n x y->z53 H' n x y
 | 0,_,_,h=>h
 | n+1,x,y,h=>by
  rcases h with h|⟨a,b,xs,ys,e1,e2,h1,h2,hl,hm,h⟩
  ·exact .inl h
  ·exact .inr ⟨a,b,xs,ys,e1,e2,s _ _ h1,s _ _ h2,hl,hm,fun i u v hu hv=>z53.keep s (h i u v hu hv)⟩
theorem z53.up{H:Hp}:∀{n:Nat}{x y:V},z53 H n x y->z53 H (n+1) x y
 | 0,_,_,h=>.inl h
 | n+1,x,y,h=>by
  rcases h with h|⟨a,b,xs,ys,e1,e2,h1,h2,hl,hm,h⟩
  ·exact .inl h
  ·exact .inr ⟨a,b,xs,ys,e1,e2,h1,h2,hl,hm,fun i u v hu hv=>z53.up (h i u v hu hv)⟩
theorem z53.mono{H:Hp}{x y:V}{n m:Nat}(h:z53 H n x y)(hm:n≤m):z53 H m x y:=by
 induction hm with
 | refl=>exact h
 | step _ ih=>exact ih.up
mutual
theorem z32{H:Hp}:∀(d:DV) (x y:V),Tell H d x->Tell H d y->z53 H d.deep x y
 | .non,x,y,h1,h2=>by
  unfold Tell at h1 h2
  subst h1 h2
  exact⟨rfl,rfl⟩
 | .bl _,x,y,h1,h2=>by
  unfold Tell at h1 h2
  subst h1 h2
  exact⟨rfl,rfl⟩
 | .int _,x,y,h1,h2=>by
  unfold Tell at h1 h2
  subst h1 h2
  exact⟨rfl,rfl⟩
 | .str _,x,y,h1,h2=>by
  unfold Tell at h1 h2
  subst h1 h2
  exact⟨rfl,rfl⟩
 | .tup ds,x,y,h1,h2=>by
  unfold Tell at h1 h2
  obtain⟨a,xs,rfl,a1,a2,a3⟩:=h1
  obtain⟨b,ys,rfl,b1,b2,b3⟩:=h2
  unfold DV.deep
  exact .inr ⟨a,b,xs,ys,rfl,rfl,a1,b1,by rw[a3.length,b3.length],b2,z7Q ds xs ys a3 b3⟩
theorem z7Q{H:Hp}:∀(ds:List DV) (xs ys:List V),z0c H ds xs->z0c H ds ys->∀(i:Nat) (u v:V),xs[i]? = some u->ys[i]? = some v->z53 H (DV.S8 ds) u v
 | [],xs,ys,h1,h2,i,u,v,e1,e2=>by
  unfold z0c at h1
  subst h1
  simp at e1
 | d::ds,xs,ys,h1,h2,0,u,v,e1,e2=>by
  unfold z0c at h1 h2
  obtain⟨x,r,rfl,a1,a2⟩:=h1
  obtain⟨y,t,rfl,b1,b2⟩:=h2
  simp at e1 e2
  subst e1 e2
  unfold DV.S8
  exact(z32 d x y a1 b1).mono (Nat.le_max_left _ _)
 | d::ds,xs,ys,h1,h2,i+1,u,v,e1,e2=>by
  unfold z0c at h1 h2
  obtain⟨x,r,rfl,a1,a2⟩:=h1
  obtain⟨y,t,rfl,b1,b2⟩:=h2
  unfold DV.S8
  exact(z7Q ds r t a2 b2 i u v (by simpa using e1) (by simpa using e2)).mono (Nat.le_max_right _ _)
end
end L2
namespace L2
open PySem PySem.Spec PyProof.Rows
section
variable{κ:Type}[DecidableEq κ]
def K6(ks:List κ):List κ:=ks.foldl (fun acc k=>if k∈acc then acc else acc++[k]) []
theorem y0j(ks:List κ)(k:κ):K6 (ks++[k])=if k∈K6 ks then K6 ks else K6 ks++[k]:=by
 unfold K6
 rw[gK]
 rfl
theorem y3V{ks:List κ}{i:Nat}{k:κ}(h:ks[i]? = some k):K6 (ks.take (i+1))=if k∈K6 (ks.take i) then K6 (ks.take i) else K6 (ks.take i)++[k]:=by
 have e:ks.take (i+1)=ks.take i++[k]:=by rw[dZ,h]<;>rfl
 rw[e,y0j]
theorem z8k(k:κ):∀(ks acc:List κ),k∈ks.foldl (fun acc k=>if k∈acc then acc else acc++[k]) acc↔k∈acc\/k∈ks
 | [],acc=>by simp
 | x::r,acc=>by
  rw[dY,z8k k r]
  by_cases h:x∈acc
  ·rw[if_pos h,bD]
   constructor
   ·rintro(a|a)
    ·exact .inl a
    ·exact .inr (.inr a)
   ·rintro(a|rfl|a)
    ·exact .inl a
    ·exact .inl h
    ·exact .inr a
  ·rw[if_neg h,bS,bB,bD,or_assoc]
theorem z9z{k:κ}{ks:List κ}:k∈K6 ks↔k∈ks:=by unfold K6;rw[z8k];simp
theorem z7P:∀(ks acc:List κ),(ks.foldl (fun acc k=>if k∈acc then acc else acc++[k]) acc).length≤acc.length+ks.length
 | [],acc=>by simp
 | x::r,acc=>by
  rw[dY]
  refine cL (z7P r _) ?_
  by_cases h:x∈acc
  ·rw[if_pos h,c9];omega
  ·rw[if_neg h,bN,c9,c9,List.length_nil];omega
theorem y2c(ks:List κ):(K6 ks).length≤ks.length:=by
 have:=z7P ks []
 simpa [K6] using this
theorem z9e:∀(ks acc:List κ),(acc++ks).Nodup->ks.foldl (fun acc k=>if k∈acc then acc else acc++[k]) acc=acc++ks
 | [],acc,_=>by simp
 | x::r,acc,h=>by
  have hx:x∉acc:=fun hx=>by
   rw[gL] at h
   exact h.2.2 x hx x (cB) rfl
  rw[dY,if_neg hx,z9e r (acc++[x]) (by rw[gM];exact h),gM]
  rfl
theorem y1u{ks:List κ}(h:ks.Nodup):K6 ks=ks:=by
 have:=z9e ks [] (by simpa using h)
 simpa [K6] using this
end
section
variable{prog:Program}{w:World}{A:Around}{κ:Type}[DecidableEq κ]{kd:KeyKind prog w κ}{I:Addr}{fp wr:List Addr}{G:Array GenState->Array GenState->Prop}{n:Nat}{P:Nat->Value->Prop}{St:Nat->Shared->Prop}
abbrev z6i(kd:KeyKind prog w κ)(h:Heap)(a:Addr)(ks:List κ):Prop:=h.SetOf kd a (fun k=>decide (k∈ks)) (K6 ks).length
theorem z6i.at{h h':Heap}{a:Addr}{ks:List κ}(x:z6i kd h a ks)(e:∀o,h.get? a=some o->h'.get? a=some o):z6i kd h' a ks:=by
 obtain⟨o,es,ep,t,ho,r⟩:=x
 exact⟨o,es,ep,t,e o ho,r⟩
theorem z9L{R:Result->Shared->Prop}(W:WalksS prog w A.in1 I fp wr G n P St){a:Addr}(out:a∉fp){ks:List κ}(lk:ks.length=n)
  (vals:∀i v,P i v->∃k,ks[i]? = some k/\kd.is k v=true/\v.scannable=true) (few:n+1<scanBound) :
  ∀(todo i:Nat) (s:Shared),i+todo=n->St i s->z6i kd s.heap a (ks.take i)->
   (∀s',Moved (a::wr) G s s'->z6i kd s'.heap a ks->R (.ok (.ret .none)) s')->codeAny (model prog w) A (.builtin "set.update.loop" ⟨[.ref a,.ref I],[]⟩) R s
 | 0,i,s,ei,st,sx,fin=>by
  have e:ks.take i=ks:=d9 (by omega)
  rw[e] at sx
  have ei':i=n:=by omega
  subst ei'
  refine codeAny_builtin F.entry_set_update_loop ?_
  rw[cH gI _]
  refine wpAny_bind (W.done s _ _ st fun s' mv=>wpAny_pure (fin s' (mv.mono fun b hb=>.tail _ hb) (sx.at fun o=>mv.heap a o fun q=>out (W.sub _ q))))
 | todo+1,i,s,ei,st,sx,fin=>by
  refine codeAny_builtin F.entry_set_update_loop ?_
  rw[cH gI _]
  refine wpAny_bind (W.item i s _ _ (by omega) st fun v s1 hv st1 mv=>?_)
  obtain⟨k,ek,iv,sc⟩:=vals i v hv
  have sx1:=sx.at (h':=s1.heap) fun o=>mv.heap a o fun q=>out (W.sub _ q)
  refine wpAny_bind (wpAny_holding (m:=setAdd a v) ?_)
  unfold setAdd
  refine wpAny_holding (wpAny_bind (kd.pyHash iv ?_))
  have lm:=y2c (ks.take i)
  rw[bO] at lm
  refine wpAny_setAddHashed_of (s:={ s1 with toks:=s1.toks+1 }) iv sc sx1 (by omega) fun h2 sb sx2=>?_
  have sx3:z6i kd h2 a (ks.take (i+1)):=by
   have e1:(fun k'=>decide (k'∈ks.take i) || decide (k'=k))=fun k'=>decide (k'∈ks.take (i+1)):=by
    funext k'
    rw[dZ,ek]
    simp[Bool.decide_or]
   have e2:(if decide (k∈ks.take i)=true then (K6 (ks.take i)).length else (K6 (ks.take i)).length+1)=(K6 (ks.take (i+1))).length:=by
    rw[y3V ek]
    by_cases hk:k∈ks.take i
    ·rw[if_pos (decide_eq_true hk),if_pos (z9z.mpr hk)]
    ·rw[if_neg (by simpa using hk),if_neg (fun q=>hk (z9z.mp q)),bN]
     rfl
   rw[e1,e2] at sx2
   exact sx2
  have far:∀b,b≠a->h2.get? b=s1.heap.get? b:=fun b hb=>sb.2 b hb
  refine wpAny_pure ⟨plainId_quiet gI _,z9L W out lk vals few todo (i+1) _ (by omega) (W.frame _ s1 _ _ st1 (fX _) fun b hb o q=>?_) sx3 fun s3 mv3 sx4=>?_⟩
  ·rw[far b fun z=>out (z ▸ hb)];exact q
  ·refine fin s3 (.trans W.gtrans ((mv.mono fun b hb=>.tail _ hb).then_heap (fX _) fun b o hb q=>?_) mv3) sx4
   rw[far b fun z=>hb (z ▸ .head _)];exact q
end
namespace Ty
theorem y3k:isSubtype (.type "tuple") (.type "set")=pure false:=by rw[isSubtype_type];kernel_rfl
theorem z7H:isSubtype (.type "tuple") (.type "frozenset")=pure false:=by rw[isSubtype_type];kernel_rfl
end Ty
abbrev S4(led:Bool):Obj:={ cls:=.type "set",dict:=none,data:=.set #[] 0 (.fresh 0 0 led) }
section
variable{prog:Program}{w:World}{A:Around}{E:Value->Shared->Prop}{s:Shared}{κ:Type}[DecidableEq κ]{kd:KeyKind prog w κ}
theorem y5M{T:String}{p:Addr}{o:Obj}{its:Array Value}{c0:Nat}{ks:List κ}{Q:Value->Shared->Prop}(hh:A.handled=none)(hp:s.heap.get? p=some o)(hc:o.cls=.type T)(hd:o.data=.seq its c0)(hT:T="list"\/T="tuple")
  (lk:ks.length=its.size) (vals:∀(i:Nat) v,its[i]? = some v->∃k,ks[i]? = some k/\kd.is k v=true/\v.scannable=true) (few:its.size+1<scanBound)
  (fin:∀(h':Heap) (t:Nat),z6i kd h' s.heap.objs.size ks->(∀b u,b<s.heap.objs.size->s.heap.get? b=some u->h'.get? b=some u)->Q (.ref s.heap.objs.size) { s with heap:=h',toks:=t }) :
  wpAny (model prog w) A (call (.type "set") [.ref p]) Q E s:=by
 obtain⟨c,tl,hmro⟩:=eI.mro
 have g1:=eI.made
 have g2:=eI.sub
 refine wpAny_call (codeAny_of_tree (wpAny_pure ⟨Code.quiet_builtin _ (by decide +kernel),codeAny_builtin F.entry_type_call ?_⟩))
 rw[Around.under_plain (weight_type_call_type "set" [.ref p] []) rfl]
 have g3:=eI.notType
 have g4:=eI.canCreate
 have g5:=F.typeCall_set_1 (.ref p)
 repeat (any_goals (first|assumption|wp_step))
 refine codeAny_mono (code_set_new_1 (.ref p) (E:=E) (Q₁:=fun u s1=>∃led,u=.ref s.heap.objs.size/\s1={ s with heap:=s.heap.push (S4 led) }) fun led=>⟨led,rfl,rfl⟩) fun r s1 q1=>?_
 rcases r with e|(_|_|_|u)
 all_goals try exact q1.elim
 all_goals try exact q1
 obtain⟨led,rfl,rfl⟩:=q1
 have at1:(s.heap.push (S4 led)).get? s.heap.objs.size=some (S4 led):=bJ _ rfl
 have ty1:Shared.TypeIs { s with heap:=s.heap.push (S4 led) } (.ref s.heap.objs.size) "set":=⟨_,at1,rfl⟩
 have g6:=eI.init.lookup
 have g7:=eI.init.bind (.ref s.heap.objs.size)
 repeat (any_goals (first|assumption|wp_step))
 refine codeAny_mono (codeAny_call_builtin (R:=wants (fun r s2=>r=.none/\∃h' t,s2={ s with heap:=h',toks:=t }/\z6i kd h' s.heap.objs.size ks/\∀b u,b<s.heap.objs.size->s.heap.get? b=some u->h'.get? b=some u) E)
  eI.init.plain F.entry_set_init (check_set_init_1 ty1 ?_)) fun r s2 q2=>?_
 case _=>
  have hpS:p<s.heap.objs.size:=bL hp
  obtain⟨oc,od,oa,os⟩:=o
  simp only at hc hd
  subst hc;subst hd
  have hp1:(s.heap.push (S4 led)).get? p=some { cls:=.type T,dict:=od,data:=.seq its c0,slots:=os }:=bA _ hp
  have f1:isSubtype (.type T) (.type "set")=pure false:=by rcases hT with rfl|rfl<;>first|exact F.sub_list_set|exact Ty.y3k
  have f2:isSubtype (.type T) (.type "frozenset")=pure false:=by rcases hT with rfl|rfl<;>first|exact F.sub_list_frozenset|exact Ty.z7H
  have f3:(Value.type T == Value.type "dict")=false:=by rcases hT with rfl|rfl<;>decide
  have hh3:A.in1.in1.in1.handled=none:=by simp[hh]
  have sz:(s.heap.push (S4 led)).objs.size=s.heap.objs.size+1:=eB _ _
  have apart:p≠(s.heap.push (S4 led)).objs.size:=by rw[sz];exact cC (dQ hpS)
  have out:s.heap.objs.size∉[(s.heap.push (S4 led)).objs.size,p]:=by rw[sz,bD,bB];exact fun z=>z.elim (cC (fQ _)) (g0 hpS)
  have z5h:∀x:Obj,z6i kd ((s.heap.push (S4 led)).push x) s.heap.objs.size (ks.take 0):=fun x=>by
   have z:=(setObjOf_fresh (knd:=kd) led).setOf (bA x at1) (by unfold scanBound;omega)
   have e:(fun k:κ=>decide (k∈ks.take 0))=fun _=>false:=by funext k;simp
   show Heap.SetOf kd _ _ (fun k=>decide (k∈ks.take 0)) _
   rw[e]
   exact z
  have ends:∀(x:Obj) (s':Shared),Moved [s.heap.objs.size,(s.heap.push (S4 led)).objs.size] (fun a b=>b=a) { s with heap:=(s.heap.push (S4 led)).push x } s'->z6i kd s'.heap s.heap.objs.size ks->
    ∃h' t,s'={ s with heap:=h',toks:=t }/\z6i kd h' s.heap.objs.size ks/\∀b u,b<s.heap.objs.size->s.heap.get? b=some u->h'.get? b=some u:=fun x s' mv sx=>by
   obtain⟨h',g',d',t',o'⟩:=s'
   obtain rfl:g'=s.gens:=mv.gens
   obtain rfl:d'=s.drawn:=mv.drawn
   obtain rfl:o'=s.os:=mv.os
   exact⟨h',t',rfl,sx,fun b u hb q=>mv.heap b u (by rw[sz,bD,bB];exact fun z=>z.elim (cC hb) (cC (dQ hb))) (bA _ (bA _ q))⟩
  unfold Builtin.«set.__init__» noKeywords Builtin.Frozenset.updateFrom
  generalize hPI:pyIter=PI
  wp_walk
  subst hPI
  rcases hT with rfl|rfl
  ·have hl:(s.heap.push (S4 led)).IsList p its:=⟨_,hp1,rfl,c0,rfl⟩
   refine wpAny_pyIter_list hl (wpAny_bind (wpAny_runValue ?_))
   refine z9L (kd:=kd) ((Walks.list hh3 _ p apart its).toS) out lk vals few its.size 0 _ (jE _) ⟨⟨_,bJ _ rfl,rfl,rfl⟩,hl.push _⟩ (z5h _) fun s' mv sx=>?_
   exact wpAny_pure (wpAny_pure ⟨rfl,ends _ s' mv sx⟩)
  ·have hl:(s.heap.push (S4 led)).IsTuple p its:=⟨_,hp1,rfl,c0,rfl⟩
   refine wpAny_pyIter_tuple hl (wpAny_bind (wpAny_runValue ?_))
   refine z9L (kd:=kd) ((Walks.tuple hh3 _ p apart its).toS) out lk vals few its.size 0 _ (jE _) ⟨⟨_,bJ _ rfl,rfl,rfl⟩,hl.push _⟩ (z5h _) fun s' mv sx=>?_
   exact wpAny_pure (wpAny_pure ⟨rfl,ends _ s' mv sx⟩)
 ·rcases r with e|(_|_|_|u)
  all_goals try exact q2.elim
  all_goals try exact q2
  obtain⟨rfl,h',t,rfl,sx,kp⟩:=q2
  repeat (any_goals (first|assumption|wp_step))
  exact fin _ _ sx kp
end
section
variable{X:Cx}
noncomputable def Q2(P:Program)(w:World)(a:Addr)(zs:List Str):HO:=.ext fun h=>z6i (strKind P w) h a zs
theorem Q2.new{P:Program}{w:World}{H:Hp}{h:Heap}{a:Addr}{zs:List Str}(x:z6i (strKind P w) h a zs):z1t P w H h a (Q2 P w a zs):=by
 refine⟨x,?_,fun h1 h2 y e=>z6i.at y e⟩
 obtain⟨o,_,_,_,e,_⟩:=x
 exact⟨o,e⟩
theorem y2n:∀{zs:List Str}{us:List Value},Vals (zs.map V.str) us->∀(i:Nat) (v:Value),us[i]? = some v->∃(k:Str) (t:Tok),zs[i]? = some k/\v=.str k t
 | [],_,.nil,i,v,h=>by simp at h
 | z::zs,u::us,.cons r rs,0,v,h=>by
  simp at h
  subst h
  obtain⟨t,rfl⟩:=r
  exact⟨z,t,rfl,rfl⟩
 | z::zs,u::us,.cons r rs,i+1,v,h=>by
  simp at h
  obtain⟨k,t,a,b⟩:=y2n rs i v h
  exact⟨k,t,by simpa using a,b⟩
theorem z3B(hc:X.calm=true):z3L X (.type "set") (fun xs H Q=>∃p zs,xs=[.ref p]/\(SqL X.K H p (zs.map V.str)\/SqT X.K H p (zs.map V.str))/\zs.length≤1000/\∀l,H l=none->Q (.ref l) (upd H l (Q2 X.prog X.w l zs))):=by
 intro pins s σ H xs us Q I r h
 obtain⟨p,zs,rfl,hq,hl,q⟩:=h
 obtain⟨u,rfl,rx⟩:=z51 r
 cases rx
 have go:∀(T:String) (o:Obj) (its:List Value) (c0:Nat),s.heap.get? p=some o->o.cls=.type T->o.data=.seq its.toArray c0->(T="list"\/T="tuple")->Vals (zs.map V.str) its->wpAny (model X.prog X.w) X.A (call (.type "set") [.ref p]) (EP X pins σ Q) X.xe s:=
  fun T o its c0 ho hcl hda hT rv=>by
   have ln:zs.length=its.length:=by have:=rv.length;rwa [b9] at this
   refine y5M (kd:=strKind X.prog X.w) (ks:=zs) (I.ok.hd hc) ho hcl hda hT (by simpa using ln) (fun i v hv=>?_) (by simp[scanBound];omega) fun h' t sx kp=>?_
   ·obtain⟨k,t,a,rfl⟩:=y2n rv i v (by simpa using hv)
    exact⟨k,a,strKind_is _ _ _ _,rfl⟩
   ·refine⟨.ref s.heap.objs.size,_,I.laid (a:=s.heap.objs.size) (o:=Q2 X.prog X.w s.heap.objs.size zs) (h':=h') (t':=t) (fun b u q1=>kp b u (bL q1) q1) (bE _) (Q2.new sx),rfl,q _ (I.hok.fresh (bE _))⟩
 rcases hq with hq|hq
 ·obtain⟨its,rv,pl,_⟩:=I.list hq
  obtain⟨o,ho,hcl,n,hda⟩:=pl.isList
  exact go "list" o its n ho hcl hda (.inl rfl) rv
 ·obtain⟨its,rv,pl,_⟩:=I.tuple hq
  obtain⟨o,ho,hcl,n,hda⟩:=pl
  exact go "tuple" o its n ho hcl hda (.inr rfl) rv
theorem z44:z3L X (.builtin "len") (fun xs H Q=>∃p zs,xs=[.ref p]/\H p=some (Q2 X.prog X.w p zs)/\zs.length≤1000/\Q (.int (K6 zs).length) H):=by
 intro pins s σ H xs us Q I r h
 obtain⟨p,zs,rfl,hp,hl,q⟩:=h
 obtain⟨u,rfl,rx⟩:=z51 r
 cases rx
 obtain⟨⟨o,es,ep,t,e1,e2,e3,_,_,_,e4,e5⟩,_⟩:=(show z1t X.prog X.w H s.heap p (Q2 X.prog X.w p zs) from I.hok p _ hp)
 have:=y2c zs
 exact PySem.call_len_set e1 e2 e3 e4 (by omega) ⟨.int (K6 zs).length,H,I.tok _,⟨s.toks+1,by rw[e5]⟩,q⟩
end
section
variable{κ:Type}[DecidableEq κ]
noncomputable def K9(kvs:List (κ×V))(k:κ):Option V:=(kvs.find? fun kv=>decide (kv.1=k)).map (·.2)
noncomputable def putK(kvs:List (κ×V))(k:κ)(v:V):List (κ×V):=
 if (kvs.any fun kv=>decide (kv.1=k))=true then kvs.map (fun kv=>if kv.1=k then (kv.1,v) else kv) else kvs++[(k,v)]
theorem z6r{p:κ×V}{r:List (κ×V)}{k:κ}(e:p.1=k):K9 (p::r) k=some p.2:=by simp[K9,dL,e]
theorem z6j{p:κ×V}{r:List (κ×V)}{k:κ}(e:¬p.1=k):K9 (p::r) k=K9 r k:=by simp[K9,dL,e]
theorem z7F(k:κ):∀kvs:List (κ×V),(kvs.any fun kv=>decide (kv.1=k))=(K9 kvs k).isSome
 | []=>rfl
 | p::r=>by
  rw[fB]
  by_cases e:p.1=k
  ·simp only[z6r e,decide_eq_true e,Bool.true_or,Option.isSome_some]
  ·rw[z6j e,decide_eq_false e,Bool.false_or];exact z7F k r
theorem z8b(kvs:List (κ×V))(k:κ)(v:V):(putK kvs k v).length≤kvs.length+1:=by
 unfold putK
 split
 ·rw[b9];omega
 ·rw[bN,c9,List.length_nil];omega
theorem y28{kvs:List (κ×V)}{k:κ}(v:V)(h:K9 kvs k=none):putK kvs k v=kvs++[(k,v)]:=by
 unfold putK
 rw[z7F,h]
 exact if_neg (by decide)
theorem P6.S5{o:Option V}{u:Option Value}(r:P6 o u):o.isSome=u.isSome:=by
 cases o with
 | none=>cases u with
  | none=>rfl
  | some _=>exact(show False from r).elim
 | some _=>cases u with
  | none=>exact(show False from r).elim
  | some _=>rfl
theorem KV.val{kvs:List (κ×V)}{vs:List (κ×Value)}(r:KV kvs vs)(k:κ):P6 (K9 kvs k) (valueAt vs k):=by
 unfold KV at r
 induction r with
 | nil=>exact True.intro
 | @cons p q ps qs h t ih=>
  obtain⟨h1,h2⟩:=h
  by_cases e:p.1=k
  ·have e':q.1=k:=h1.symm.trans e
   have b:valueAt (q::qs) k=some q.2:=by simp[valueAt,dL,e']
   rw[z6r e,b];exact h2
  ·have e':¬q.1=k:=fun z=>e (h1.trans z)
   have b:valueAt (q::qs) k=valueAt qs k:=by simp[valueAt,dL,e']
   rw[z6j e,b];exact ih
theorem KV.any{kvs:List (κ×V)}{vs:List (κ×Value)}(r:KV kvs vs)(k:κ):(kvs.any fun kv=>decide (kv.1=k))=vs.any fun kv=>decide (kv.1=k):=by
 unfold KV at r
 induction r with
 | nil=>rfl
 | cons h t ih=>rw[fB,fB,ih,h.1]
theorem KV.w0o{kvs:List (κ×V)}{vs:List (κ×Value)}(r:KV kvs vs)(k:κ){y:V}{u:Value}(ry:RelV y u) :
  KV (kvs.map fun kv=>if kv.1=k then (kv.1,y) else kv) (vs.map fun kv=>if kv.1=k then (kv.1,u) else kv):=by
 unfold KV at r ⊢
 induction r with
 | nil=>exact .nil
 | @cons p q ps qs h t ih=>
  rw[cQ,cQ]
  refine .cons ?_ ih
  obtain⟨h1,h2⟩:=h
  by_cases e:p.1=k
  ·rw[if_pos e,if_pos (h1.symm.trans e)];exact⟨h1,ry⟩
  ·rw[if_neg e,if_neg (fun z=>e (h1.trans z))];exact⟨h1,h2⟩
theorem KV.put{kvs:List (κ×V)}{vs:List (κ×Value)}(r:KV kvs vs)(k:κ){y:V}{u:Value}(ry:RelV y u):KV (putK kvs k y) (stored vs k u):=by
 unfold putK stored
 rw[r.any k]
 by_cases e:(vs.any fun kv=>decide (kv.1=k))=true
 ·rw[if_pos e,if_pos e];exact r.w0o k ry
 ·rw[if_neg e,if_neg e];exact gQ r ⟨rfl,ry⟩
theorem KV.keys{kvs:List (κ×V)}{vs:List (κ×Value)}(r:KV kvs vs):kvs.map (·.1)=vs.map (·.1):=by
 unfold KV at r
 induction r with
 | nil=>rfl
 | cons h t ih=>rw[cQ,cQ,ih,h.1]
theorem KV.length{kvs:List (κ×V)}{vs:List (κ×Value)}(r:KV kvs vs):kvs.length=vs.length:=Paired.length r
end
theorem y38{P:Program}{w:World}{k:Key}{u:Value}(r:RelV (kV k) u):(z1E P w).is k u=true:=by
 cases k with
 | inl i=>obtain⟨t,e⟩:=(show ∃t,u=Value.int i t from r);subst e;exact y10 P w i t
 | inr x=>obtain⟨t,e⟩:=(show ∃t,u=Value.str x t from r);subst e;exact y15 P w x t
theorem y0t{P:Program}{w:World}:∀{ks:List Key}{us:List Value},Vals (ks.map kV) us->ItemsAre (z1E P w) ks us
 | [],_,r=>by rw[List.map_nil] at r;cases r;exact .nil
 | k::ks,_,r=>by
  rw[cQ] at r
  cases r with
  | cons h t=>exact .cons (y38 h) (y0t t)
abbrev KT(H:Hp):List (List Key×V)->List (List Key×Addr×Value)->Prop:=Paired fun p q=>p.1=q.1/\H q.2.1=some (.tup (p.1.map kV))/\RelV p.2 q.2.2
theorem KT.val{H:Hp}{kvs:List (List Key×V)}{xs:List (List Key×Addr×Value)}(r:KT H kvs xs)(k:List Key):P6 (K9 kvs k) ((atKey xs k).map (·.2)):=by
 induction r with
 | nil=>exact True.intro
 | @cons p q ps qs h t ih=>
  obtain⟨h1,_,h2⟩:=h
  by_cases e:p.1=k
  ·have e':q.1=k:=h1.symm.trans e
   have b:atKey (q::qs) k=some q.2:=by simp[atKey,dL,e']
   rw[z6r e,b];exact h2
  ·have e':¬q.1=k:=fun z=>e (h1.trans z)
   have b:atKey (q::qs) k=atKey qs k:=by simp[atKey,dL,e']
   rw[z6j e,b];exact ih
theorem KT.w0o{H:Hp}{kvs:List (List Key×V)}{xs:List (List Key×Addr×Value)}(r:KT H kvs xs)(k:List Key){y:V}{u:Value}(ry:RelV y u) :
  KT H (kvs.map fun kv=>if kv.1=k then (kv.1,y) else kv) (xs.map (putAt k u)):=by
 induction r with
 | nil=>exact .nil
 | @cons p q ps qs h t ih=>
  rw[cQ,cQ]
  refine .cons ?_ ih
  obtain⟨h1,h2,h3⟩:=h
  unfold putAt
  by_cases e:p.1=k
  ·rw[if_pos e,if_pos (h1.symm.trans e)];exact⟨h1,h2,ry⟩
  ·rw[if_neg e,if_neg (fun z=>e (h1.trans z))];exact⟨h1,h2,h3⟩
theorem KT.put{H:Hp}{kvs:List (List Key×V)}{xs:List (List Key×Addr×Value)}(r:KT H kvs xs)(k:List Key){b:Addr}{y:V}{u:Value}(hb:H b=some (.tup (k.map kV)))(ry:RelV y u) :
  KT H (putK kvs k y) (storedH xs k b u):=by
 have e:(kvs.any fun kv=>decide (kv.1=k))=(atKey xs k).isSome:=by
  rw[z7F,(r.val k).S5,Option.isSome_map]
 unfold putK storedH
 rw[e]
 by_cases q:(atKey xs k).isSome=true
 ·rw[if_pos q,if_pos q];exact r.w0o k ry
 ·rw[if_neg q,if_neg q];exact gQ r ⟨rfl,hb,ry⟩
theorem KT.keeps{H H':Hp}{kvs:List (List Key×V)}{xs:List (List Key×Addr×Value)}(r:KT H kvs xs)(ht:∀b ys,H b=some (.tup ys)->H' b=some (.tup ys)):KT H' kvs xs:=
 Paired.X9 r fun _ _ z=>⟨z.1,ht _ _ z.2.1,z.2.2⟩
section
variable{P:Program}{w:World}{H:Hp}{h:Heap}{a:Addr}
theorem y7Z{u:HO}(ok:HOk P w H h)(e:Rd H a u):z1t P w H h a u:=e.ok ok
theorem y5U{kvs:List (Key×V)}(ok:HOk P w H h)(e:Rd H a (.dK kvs)):kvs.length≤sizeLine/\(a == sysModules)=false/\∃vs,KV kvs vs/\h.DictOf (z1E P w) a vs:=
 show z1t P w H h a (.dK kvs) from y7Z ok e
theorem y8m{kvs:List (Key×V)}(ok:HOk P w H h)(e:H a=some (.dK kvs)):kvs.length≤sizeLine/\(a == sysModules)=false/\∃vs,KV kvs vs/\h.DictOf (z1E P w) a vs:=y5U ok (.inl e)
theorem y1R{ks:List Key}(ok:HOk P w H h)(e:H a=some (.tup (ks.map kV))):(tupleKind (z1E P w)).is h ks a:=by
 obtain⟨_,its,r,o,h1,h2,⟨n,h3⟩,_⟩:=(show z1t P w H h a (.tup (ks.map kV)) from ok a _ e)
 exact⟨o,its.toArray,n,h1,h2,h3,by simpa using y0t r⟩
theorem y60{kvs:List (List Key×V)}(ok:HOk P w H h)(e:Rd H a (.dT kvs)):kvs.length≤sizeLine/\(a == sysModules)=false/\
  ∃xs,KT H kvs xs/\h.DictOfH (tupleKind (z1E P w)) a xs:=by
 obtain⟨z,y,xs,r,o,es,ep,h1,h2,h3,h4,h5⟩:=(show z1t P w H h a (.dT kvs) from y7Z ok e)
 refine⟨z,y,xs,r,o,es,ep,h1,h2,h3,h4,fun x hx=>?_,h5⟩
 have all:∀{l:List (List Key×V)}{m:List (List Key×Addr×Value)},KT H l m->∀x∈m,(tupleKind (z1E P w)).is h x.1 x.2.1:=by
  intro l m q
  induction q with
  | nil=>intro x hx;exact nomatch hx
  | @cons p q ps qs hq t ih=>
   intro x hx
   rcases bD.mp hx with e|hx
   ·subst e
    exact y1R ok (by rw[<- hq.1];exact hq.2.1)
   ·exact ih x hx
 exact all r x hx
theorem w13{kvs:List (List Key×V)}(ok:HOk P w H h)(e:H a=some (.dT kvs)):kvs.length≤sizeLine/\(a == sysModules)=false/\
  ∃xs,KT H kvs xs/\h.DictOfH (tupleKind (z1E P w)) a xs:=y60 ok (.inl e)
end
noncomputable def N8(H:Hp)(a:Addr)(y:V)(r:Option V):Prop:=
 (∃kvs k,Rd H a (.dK kvs)/\y=kV k/\r=K9 kvs k)\/∃kvs k b,Rd H a (.dT kvs)/\y=.ref b/\H b=some (.tup (k.map kV))/\r=K9 kvs k
noncomputable def V4(H:Hp)(a:Addr)(y v:V)(H':Hp):Prop:=
 (∃kvs k,H a=some (.dK kvs)/\y=kV k/\kvs.length<sizeLine/\H'=upd H a (.dK (putK kvs k v)))\/
 ∃kvs k b,H a=some (.dT kvs)/\y=.ref b/\H b=some (.tup (k.map kV))/\kvs.length<sizeLine/\H'=upd H a (.dT (putK kvs k v))
theorem N8.k{H:Hp}{a:Addr}{kvs:List (Key×V)}{k:Key}(e:H a=some (.dK kvs)):N8 H a (kV k) (K9 kvs k):=.inl ⟨kvs,k,.inl e,rfl,rfl⟩
theorem V4.k{H:Hp}{a:Addr}{kvs:List (Key×V)}{k:Key}{v:V}(e:H a=some (.dK kvs))(hl:kvs.length<sizeLine):V4 H a (kV k) v (upd H a (.dK (putK kvs k v))):=.inl ⟨kvs,k,e,rfl,hl,rfl⟩
section
variable{X:Cx}{pins:List (Addr×Obj)}{σ:St}{H:Hp}{s:Shared}{a:Addr}{y v:V}{u r:Value}{o:Option V}{A:Around}{E:Value->Shared->Prop}
theorem Inv.big(I:Inv X pins σ H s):sysModules<s.heap.objs.size:=by
 have h:mainGlobals<s.heap.objs.size:=(I.mod.glob.keeps I.bk).lt
 exact Nat.lt_trans (by decide) h
theorem y4o{Q:Value->Shared->Prop}(hu:A.units+1<cLine)(I:Inv X pins σ H s)(g:N8 H a y (some v))(ry:RelV y u)(h:∀w' s',Inv X pins σ H s'->RelV v w'->Q w' s') :
  wpAny (model X.prog X.w) A (getItem (.ref a) u) Q E s:=by
 rcases g with ⟨kvs,k,e,ey,l⟩|⟨kvs,k,b,e,ey,eb,l⟩
 ·subst ey
  obtain⟨z,hd,vs,rel,dd⟩:=y5U I.hok e
  obtain⟨w',hw,rw'⟩:=P6.some_of (v:=v) (o:=valueAt vs k) (by rw[l];exact rel.val k)
  exact wpAny_getItem_of (y38 ry) dd.mapOf hw (h w' _ (I.tok _) rw')
 ·subst ey
  cases (show u=Value.ref b from ry)
  obtain⟨z,hd,xs,rel,dd⟩:=y60 I.hok e
  obtain⟨w',hw,rw'⟩:=P6.some_of (v:=v) (o:=(atKey xs k).map (·.2)) (by rw[l];exact rel.val k)
  obtain⟨p,hp,hp2⟩:=cP.mp hw
  refine wpAny_getItem_heap (tupleKind_room_in1 hu) (y1R I.hok eb) dd hp ?_
  rw[hp2]
  exact h w' _ (I.tok _) rw'
theorem d_in{Q:Value->Shared->Prop}(hu:A.units+1<cLine)(I:Inv X pins σ H s)(g:N8 H a y o)(ry:RelV y u)(h:∀s',Inv X pins σ H s'->Q (.bool o.isSome) s') :
  wpAny (model X.prog X.w) A (compareOp .In u (.ref a)) Q E s:=by
 rcases g with ⟨kvs,k,e,ey,l⟩|⟨kvs,k,b,e,ey,eb,l⟩
 ·subst ey
  obtain⟨z,hd,vs,rel,dd⟩:=y5U I.hok e
  refine wpAny_in_of (y38 ry) hd dd.mapOf ?_
  rw[<- (rel.val k).S5,<- l]
  exact h _ (I.tok _)
 ·subst ey
  cases (show u=Value.ref b from ry)
  obtain⟨z,hd,xs,rel,dd⟩:=y60 I.hok e
  refine wpAny_in_heap (tupleKind_room_in1 hu) (y1R I.hok eb) hd dd ?_
  have q:=(rel.val k).S5
  rw[Option.isSome_map] at q
  rw[<- q,<- l]
  exact h _ (I.tok _)
theorem y4d{h':Heap}{t':Nat}{ob:HO}(I:Inv X pins σ H s)(mu:Mut (H a))(hs:Heap.SameBut a s.heap h')(he:∃q,h'.get? a=some q)(new:z1t X.prog X.w (upd H a ob) h' a ob) :
  Inv X pins σ (upd H a ob) { s with heap:=h',toks:=t' }:=
 I.write (x:=a) (e:=a) mu (.inl rfl) (fun b q hb z=>(hs.2 b hb).trans z) he new
theorem y6m{P:Program}{w:World}{H':Hp}{h':Heap}{kvs:List (Key×V)}{vs:List (Key×Value)}(z:kvs.length≤sizeLine)(hd:(a == sysModules)=false)(rel:KV kvs vs)(dd:h'.DictOf (z1E P w) a vs) :
  z1t P w H' h' a (.dK kvs):=⟨z,hd,vs,rel,dd⟩
theorem y4P{H':Hp}{Q:Unit->Shared->Prop}(hu:A.units+1<cLine)(I:Inv X pins σ H s)(g:V4 H a y v H')(ry:RelV y u)(rv:RelV v r)(h:∀s',Inv X pins σ H' s'->Q () s') :
  wpAny (model X.prog X.w) A (setItem (.ref a) u r) Q E s:=by
 rcases g with ⟨kvs,k,e,ey,l,eH⟩|⟨kvs,k,b,e,ey,eb,l,eH⟩
 ·subst ey eH
  obtain⟨z,hd,vs,rel,dd⟩:=y8m I.hok e
  have hz:vs.length≤sizeLine:=by rw[<- rel.length];exact z
  have hl:(putK kvs k v).length≤sizeLine:=by have:=z8b kvs k v;omega
  refine wpAny_setItem_pairs (hsz:=hz) (y38 ry) dd fun h' dd' hs=>h _ ?_
  have he:∃q,h'.get? a=some q:=let ⟨q,_,_,hq,_⟩:=dd';⟨q,hq⟩
  exact y4d I (by rw[e];exact True.intro) hs he (y6m hl hd (rel.put k rv) dd')
 ·subst ey eH
  cases (show u=Value.ref b from ry)
  obtain⟨z,hd,xs,rel,dd⟩:=w13 I.hok e
  have hz:xs.length≤sizeLine:=by rw[<- Paired.length rel];exact z
  have hl:(putK kvs k v).length≤sizeLine:=by have:=z8b kvs k v;omega
  refine wpAny_setItem_heap (hsz:=hz) (tupleKind_room_in1 hu) (y1R I.hok eb) dd fun h' dd' hs=>h _ ?_
  obtain⟨q,es,ep,hq,h2,h3,h4,_,h5⟩:=dd'
  refine y4d I (by rw[e];exact True.intro) hs ⟨q,hq⟩ ⟨hl,hd,_,(rel.put k eb rv).keeps fun c ys ec=>?_,q,es,ep,hq,h2,h3,h4,h5⟩
  rw[z0e (z50 ec e (fun z=>nomatch z))]
  exact ec
end
section
variable{X:Cx}{pins:List (Addr×Obj)}{σ:St}{H:Hp}{s:Shared}{a:Addr}{kvs:List (Key×V)}{k:Key}{u:Value}{A:Around}{E:Value->Shared->Prop}
end
noncomputable def NoSl(i:Expr):Prop:=∀ov iv,subscripted i false ov iv=operate [ov,iv] (getItem ov iv)
theorem y7B{prog:Program}{w:World}{A:Around}{E:Value->Shared->Prop}{s:Shared}{env:Env}{value slice:Expr}{pos:Pos}{T id:String}{Q:Value->Shared->Prop}
  (hl:typeLookup (.type T) "__getitem__"=pure (some (.builtin id))) (hs:NoSl slice)
  (h:wpAny (model prog w) A (eval value env) (fun o s₁=>wpAny (model prog w) A (eval slice env) (fun i s₂=>s₂.TypeIs o T/\wpAny (model prog w) A (getItem o i) Q E s₂) E s₁) E s) :
  wpAny (model prog w) A (eval (.Subscript value slice pos) env) Q E s:=by
 refine Subscript_ (wpAny_mono h (fun o s₁ h₁=>wpAny_mono h₁ (fun i s₂ h₂=>?_) fun _ _ x=>x) fun _ _ x=>x)
 obtain⟨hT,h₂⟩:=h₂
 unfold subscriptTail
 refine wpAny_bind ?_
 rw[getitemInPython_of_ne hT.not_modules]
 refine wpAny_bind (wpAny_specialOf hT hl ?_)
 have fin:wpAny (model prog w) A (subscripted slice false o i) (fun r s₃=>wpAny (model prog w) A (letTemporaryGo value o r >>= fun _=>pure r) Q E s₃) E s₂:=by
  rw[hs o i]
  exact wpAny_operating (wpAny_mono h₂ (fun r s₃ h₃=>wpAny_bind (wpAny_letTemporaryGo (wpAny_pure h₃))) fun _ _ x=>x)
 first
  | exact wpAny_pure (wpAny_bind fin)
  | exact wpAny_bind (wpAny_pure (wpAny_bind fin))
  | exact wpAny_bind fin
theorem y1L{X:Cx}{pins:List (Addr×Obj)}{σ:St}{H:Hp}{s:Shared}{a:Addr}{y:V}{o:Option V}(I:Inv X pins σ H s)(g:N8 H a y o):s.TypeIs (.ref a) "dict":=by
 rcases g with ⟨kvs,k,e,_,_⟩|⟨kvs,k,b,e,_,_,_⟩
 ·obtain⟨_,_,vs,_,dd⟩:=y5U I.hok e
  exact dd.typeIs
 ·obtain⟨_,_,xs,_,dd⟩:=y60 I.hok e
  exact dd.typeIs
noncomputable def w0Q(td ty:TE):TE:=fun σ H Q=>td σ H fun x H1=>ty σ H1 fun y H2=>∃a v,x=.ref a/\N8 H2 a y (some v)/\Q v H2
noncomputable def tDIn(ty td:TE):TE:=fun σ H Q=>ty σ H fun y H1=>td σ H1 fun x H2=>∃a o,x=.ref a/\N8 H2 a y o/\Q (.bl o.isSome) H2
noncomputable def w1o(td ty tv:TE):TS:=fun D σ H=>tv σ H fun v H1=>td σ H1 fun x H2=>ty σ H2 fun y H3=>∃a H4,x=.ref a/\V4 H3 a y v H4/\D.nx σ H4
section
variable{X:Cx}{o i e value:Expr}{pos pos' tpos:Pos}{td ty tv:TE}
theorem z5q(hu:X.A.units+1<cLine)(ho:PE X o td)(hi:PE X i ty)(hs:NoSl i):PE X (.Subscript o i pos) (w0Q td ty):=by
 intro pins s σ H Q I h
 refine y7B PySem.F.slot_dict_getitem.lookup hs (thn (ho pins s σ H _ I h) fun u s1 ⟨x,H1,I1,rx,q1⟩=>thn (hi pins s1 σ H1 _ I1 q1) fun iv s2 hz=>?_)
 obtain⟨y,H2,I2,ry,a,v,ex,g,q2⟩:=hz
 subst ex
 obtain rfl:u=Value.ref a:=rx
 exact⟨y1L I2 g,y4o hu I2 g ry fun w' s3 I3 rw'=>⟨v,H2,I3,rw',q2⟩⟩
theorem y2o(hu:X.A.units+1<cLine)(hi:PE X i ty)(ho:PE X o td):PC X .In i o (tDIn ty td):=by
 intro pins s σ H Q I h
 refine thn (hi pins s σ H _ I h) fun iv s1 ⟨y,H1,I1,ry,q1⟩=>thn (ho pins s1 σ H1 _ I1 q1) fun u s2 hz=>?_
 obtain⟨x,H2,I2,rx,a,ov,ex,g,q2⟩:=hz
 subst ex
 obtain rfl:u=Value.ref a:=rx
 exact d_in hu I2 g ry fun s3 I3=>⟨.bl ov.isSome,H2,I3,rfl,q2⟩
theorem y1D(hu:X.A.units+1<cLine)(ho:PE X o td)(hi:PE X i ty)(hv:PE X value tv)(hs:swapsWith value (some (.Subscript o i pos')) pos.line X.env=pure false) :
  PS X (.Assign [.Subscript o i pos'] value pos) (w1o td ty tv):=by
 intro pins s σ H D I h
 refine wpAny_Assign_Subscript (thn (hv pins s σ H _ I h) fun r s1 ⟨v,H1,I1,rv,q1⟩=>thn (ho pins s1 σ H1 _ I1 q1) fun u s2 ⟨x,H2,I2,rx,q2⟩=>thn (hi pins s2 σ H2 _ I2 q2) fun iv s3 hz=>?_) hs
 obtain⟨y,H3,I3,ry,a,H4,ex,g,q3⟩:=hz
 subst ex
 obtain rfl:u=Value.ref a:=rx
 exact y4P hu I3 g ry rv fun s4 I4=>⟨σ,H4,I4,q3⟩
end
theorem y59{P:Program}{w:World}{H:Hp}(h:Heap)(hb:sysModules<h.objs.size):z1t P w H (h.push { cls:=.type "dict",data:=.dict #[] }) h.objs.size (.dK []):=
 ⟨cR _,beq_eq_false_iff_ne.mpr (cS (cC hb)),[],.nil,Heap.DictOf.new h⟩
noncomputable def y8f:TE:=fun _ H Q=>∀p,H p=none->Q (.ref p) (upd H p (.dK []))
section
variable{X:Cx}{pos:Pos}
theorem y21:PE X (.Dict [] [] pos) y8f:=fun pins s σ H Q I h=>
 wpAny_Dict_empty ⟨.ref s.heap.objs.size,_,I.laid (a:=s.heap.objs.size) (o:=.dK []) (t':=s.toks) (fun _ _ q=>bA _ q) (bE _) (y59 s.heap I.big),rfl,h _ (I.hok.fresh (bE _))⟩
end
section
variable{X:Cx}{pins:List (Addr×Obj)}{σ:St}{H:Hp}{s:Shared}{a:Addr}{y d:V}{u r:Value}{o:Option V}{A:Around}{E:Value->Shared->Prop}
end
section
variable{X:Cx}{o e f:Expr}{apos Q8:Pos}{td ty tx:TE}
end
section
variable{X:Cx}{pins:List (Addr×Obj)}{σ:St}{H:Hp}{s:Shared}{a:Addr}{kvs:List (Key×V)}{A:Around}{E:Value->Shared->Prop}
end
section
variable{X:Cx}{pins:List (Addr×Obj)}{σ:St}{H:Hp}{s:Shared}{a:Addr}{y:V}{u:Value}{A:Around}{E:Value->Shared->Prop}
end
structure C5(P:Program)(w:World)(K:PySem.W.Frag)(mg:Str->Option Value)(base:Heap)(k:Nat)(C:Addr)(m:Str)(ps:List Str)(sp:Sp):Prop where
 cl:Cls K C
 ex:∃(f:Addr) (fd:FuncData),A8 P w K mg base CX0 k f fd ps sp/\z1D K fd ps []/\Meth K C m f
theorem C5.mk'{P:Program}{w:World}{K:PySem.W.Frag}{mg:Str->Option Value}{base:Heap}{k:Nat}{C:Addr}{m:Str}{ps:List Str}{sp:Sp}{f:Addr}{fd:FuncData}(c:Cls K C)(a:A8 P w K mg base CX0 k f fd ps sp)(b:z1D K fd ps [])(d:Meth K C m f) :
  C5 P w K mg base k C m ps sp:=⟨c,f,fd,a,b,d⟩
section
variable{X:Cx}{k:Nat}{C:Addr}{m x:Str}{ps:List Str}{sp:Sp}{o e:Expr}{es:List Expr}{ta:TE}{t:TA}{p pos apos:Pos}{pl:Sem Bool}
theorem z1z(G:C5 X.prog X.w X.K X.mg X.base k C m ps sp)(hr:E5 k X.A)(he:PE X o ta)(ha:PA X (e::es) t)
  (hst:starEach (e::es) X.env=(false,eval e X.env)::starEach es X.env:=by rfl) (hpl:(backTo pos (starEach es X.env)).any (·.1)=false:=by rfl)
  (ht:eval (.Call (.Attribute o m apos) (e::es) [] pos) X.env=(do
   let ov <- eval o X.env
   standAt apos.atName
   let (f,first) <- holding [ov] (getMethod ov m pl)
   callWith pos f first (backTo pos (starEach (e::es) X.env)) (backToKw pos (keywordEach [] X.env))):=by rfl) :
  PE X (.Call (.Attribute o m apos) (e::es) [] pos) (y5P C m sp [] E0 ta t):=by
 obtain⟨f,fd,a,b,d⟩:=G.ex
 exact y6P he G.cl d a hr b .nil y5O ha hst hpl ht
theorem z1q(G:C5 X.prog X.w X.K X.mg X.base k C m ps sp)(hr:E5 k X.A)(he:PE X o ta)
  (ht:eval (.Call (.Attribute o m apos) [] [] pos) X.env=(do
   let ov <- eval o X.env
   standAt apos.atName
   let (f,first) <- holding [ov] (getMethod ov m pl)
   callWith pos f first (backTo pos (starEach [] X.env)) (backToKw pos (keywordEach [] X.env))):=by rfl) :
  PE X (.Call (.Attribute o m apos) [] [] pos) (y5P C m sp [] E0 ta X7):=by
 obtain⟨f,fd,a,b,d⟩:=G.ex
 exact y5h he G.cl d a hr b .nil y5O ht
end
structure Mkr(P:Program)(w:World)(K:PySem.W.Frag)(mg:Str->Option Value)(base:Heap)(k:Nat)(C:Addr)(x:Str)(ps:List Str)(sp:Sp):Prop where
 ex:∃(f:Addr) (fd:FuncData),A8 P w K mg base CX0 k f fd ps sp/\z1D K fd ps []/\Mk K C f/\mg x=some (.ref C)
theorem Mkr.mk'{P:Program}{w:World}{K:PySem.W.Frag}{mg:Str->Option Value}{base:Heap}{k:Nat}{C:Addr}{x:Str}{ps:List Str}{sp:Sp}{f:Addr}{fd:FuncData}(a:A8 P w K mg base CX0 k f fd ps sp)(b:z1D K fd ps [])(c:Mk K C f)(d:mg x=some (.ref C)) :
  Mkr P w K mg base k C x ps sp:=⟨f,fd,a,b,c,d⟩
section
variable{X:Cx}{k:Nat}{C:Addr}{m x:Str}{ps:List Str}{sp:Sp}{o e:Expr}{es:List Expr}{ta:TE}{t:TA}{p pos apos:Pos}
theorem y01(G:Mkr X.prog X.w X.K X.mg X.base k C x ps sp)(hr:E5 (k+1) X.A)(hg:Gl X x)(ha:PA X (e::es) t)
  (hdb:(x == ("__debug__":Str))=false:=by decide) (he:starEach (e::es) X.env=(false,eval e X.env)::starEach es X.env:=by rfl) (hpl:(backTo pos (starEach es X.env)).any (·.1)=false:=by rfl) :
  PE X (.Call (.Name x p) (e::es) [] pos) (y7D C sp [] E0 t):=by
 obtain⟨f,fd,a,b,c,d⟩:=G.ex
 exact y7q c a hr hg d b .nil y5O ha hdb he hpl
theorem z1f{n:Int}(hg:Gl X x)(hm:∃t,X.mg x=some (.int n t))(hd:(x == ("__debug__":Str))=false:=by decide):PE X (.Name x pos) (tC (.int n)):=by
 obtain⟨t,e⟩:=hm
 exact y4q hg e ⟨t,rfl⟩ hd
end
noncomputable def y6j(K:PySem.W.Frag):List V->Hp->VK->Prop:=fun xs H Q=>∃p ys,xs=[.ref p]/\((SqL K H p ys/\∀l,H l=none->Q (.ref l) (upd H l (.tup ys)))\/(SqT K H p ys/\Q (.ref p) H))
section
variable{X:Cx}{K:PySem.W.Frag}
theorem z8H(h:X.K=K):z3L X (.type "tuple") (y6j K):=by
 subst h
 exact z0l
end
section
variable{X:Cx}
noncomputable def y87(K:PySem.W.Frag)(le:Int->Int->Prop):List V->Hp->VK->Prop:=fun xs H Q=>∃p ns,xs=[.ref p]/\SqI K H p ns/\ns≠[]/\∀m,m∈ns->(∀y∈ns,le y m)->Q (.int m) H
theorem y04(hc:X.calm=true):z3L X (.builtin "max") (y87 X.K fun y m=>y≤m):=by
 intro pins s σ H xs us Q I r h
 obtain⟨a,ns,rfl,hq,hn,q⟩:=h
 obtain⟨u,rfl,ru⟩:=z51 r
 cases ru
 refine call_max_walk (z6n (A:=X.A.in1) I (I.ok.hd hc) hq fun it fp St its s3 rv W st hfp back=>?_)
 have hl:=rv.length
 rw[b9] at hl
 have h0:0<its.length:=by
  rw[<- hl]
  exact List.length_pos_iff.mpr hn
 refine⟨it,fp,[it],_,_,St,_,rfl,W,st,hfp,by rw[bF];exact h0,CmpOf.ints_gt (fun i=>ns.getD i 0) (z3m rv),fun v h' tk hv k=>?_⟩
 rw[bF] at hv
 obtain⟨t,rfl⟩:=z3m rv _ _ hv
 obtain⟨b1,b2⟩:=z9X (fun i=>ns.getD i 0) (its.length-1)
 refine⟨.int _,H,back h' tk k,⟨t,rfl⟩,q _ (z7z (by omega)) fun y hy=>?_⟩
 obtain⟨i,hi,rfl⟩:=z7B hy
 exact b2 i (by omega)
theorem z7U(hc:X.calm=true):z3L X (.builtin "min") (y87 X.K fun y m=>m≤y):=by
 intro pins s σ H xs us Q I r h
 obtain⟨a,ns,rfl,hq,hn,q⟩:=h
 obtain⟨u,rfl,ru⟩:=z51 r
 cases ru
 refine call_min_walk (z6n (A:=X.A.in1) I (I.ok.hd hc) hq fun it fp St its s3 rv W st hfp back=>?_)
 have hl:=rv.length
 rw[b9] at hl
 have h0:0<its.length:=by
  rw[<- hl]
  exact List.length_pos_iff.mpr hn
 refine⟨it,fp,[it],_,_,St,_,rfl,W,st,hfp,by rw[bF];exact h0,CmpOf.ints_lt (fun i=>ns.getD i 0) (z3m rv),fun v h' tk hv k=>?_⟩
 rw[bF] at hv
 obtain⟨t,rfl⟩:=z3m rv _ _ hv
 obtain⟨b1,b2⟩:=z9H (fun i=>ns.getD i 0) (its.length-1)
 refine⟨.int _,H,back h' tk k,⟨t,rfl⟩,q _ (z7z (by omega)) fun y hy=>?_⟩
 obtain⟨i,hi,rfl⟩:=z7B hy
 exact b2 i (by omega)
theorem y8b(hu:X.A.units<cLine):OpR X (compareOp .Eq) (fun x y H Q=>∃a b xs,x=.ref a/\y=.ref b/\SqL X.K H a xs/\SqL X.K H b []/\Q (.bl xs.isEmpty) H):=by
 intro pins s σ H x y v u Q I rx ry h
 obtain⟨a,b,xs,rfl,rfl,ha,hb,q⟩:=h
 cases rx
 cases ry
 obtain⟨its,r,pl,hz⟩:=I.list ha
 obtain⟨N6,r2,pl2,hz2⟩:=I.list hb
 cases r2
 have hl:=r.length
 cases xs with
 | nil=>
  cases r
  exact SeqAt.RcAt.lists (e:=fun _=>true) pl.isList pl2.isList rfl hu (fun j h1 _=>absurd h1 (Nat.not_lt_zero _)) X.prog X.w X.xe _ ⟨.bl true,H,I,rfl,q⟩
 | cons x0 xr=>
  refine SeqAt.RcAt.lists_lengths pl.isList pl2.isList ?_ hu X.prog X.w X.xe _ ⟨.bl false,H,I,rfl,q⟩
  rw[bF,<- hl]
  rfl
end
end L2
namespace L2
open PySem
section
variable{prog:Program}{w:World}{A:Around}{E:Value->Shared->Prop}{s:Shared}{κ:Type}[DecidableEq κ]{kd:KeyKind prog w κ}{led:Bool}
end
end L2
namespace L2
open PySem PySem.Spec PyProof.Rows
namespace Ty
end Ty
section
variable{prog:Program}{w:World}{A:Around}{E:Value->Shared->Prop}{s:Shared}
end
namespace Ty
end Ty
section
variable{prog:Program}{w:World}{A:Around}{E:Value->Shared->Prop}{s:Shared}{κ:Type}[DecidableEq κ]{kd:KeyKind prog w κ}
end
section
variable{X:Cx}
end
theorem z2H:Slot "reversed" "__next__" "reversed.__next__":=
 .of (owner:="reversed") (n:="__next__") (by rw[typeLookup_type,builtinLookup_eq_fast];kernel_rfl) (by decide +kernel) (by decide +kernel) (by decide +kernel) (by first|exact .inl (by decide +kernel)|exact .inr (by decide +kernel)) (by rw[isSubtype_type];kernel_rfl)
theorem z7a:Slot "reversed" "__iter__" "reversed.__iter__":=
 .of (owner:="reversed") (n:="__iter__") (by rw[typeLookup_type,builtinLookup_eq_fast];kernel_rfl) (by decide +kernel) (by decide +kernel) (by decide +kernel) (by first|exact .inl (by decide +kernel)|exact .inr (by decide +kernel)) (by rw[isSubtype_type];kernel_rfl)
theorem y0W:Slot "reversed" "__init__" "object.__init__":=
 .of (owner:="object") (n:="__init__") (by rw[typeLookup_type,builtinLookup_eq_fast];kernel_rfl) (by decide +kernel) (by decide +kernel) (by decide +kernel) (by first|exact .inl (by decide +kernel)|exact .inr (by decide +kernel)) (by rw[isSubtype_type];kernel_rfl)
theorem z6h:entryFor table "reversed.__next__"=some Builtin.«reversed.__next__»:=entryFor_of_tree (by kernel_rfl)
theorem z9w:entryFor table "reversed.__iter__"=some Builtin.«dict_keyiterator.__iter__»:=entryFor_alias (id':="dict_keyiterator.__iter__") (by kernel_rfl) (by first|rfl|decide +kernel|(unfold String.splitOn;simp +decide [String.splitOnAux])) (by decide +kernel) (by kernel_rfl)
theorem z7k(a:Value):argsOk "reversed.__next__" ⟨[a],[]⟩:=by unfold argsOk;kernel_rfl
theorem y0I(a:Value):argsOk "reversed.__iter__" ⟨[a],[]⟩:=by unfold argsOk;kernel_rfl
theorem z80:TypeCalled "reversed" "reversed.__new__" "object.__init__":=
 ⟨by decide +kernel,by decide +kernel,⟨_,_,PySem.F.mro_reversed⟩,PySem.F.made_reversed,by decide +kernel,PySem.F.sub_reversed_self,y0W⟩
theorem z9k:typeLookup (.type "tuple") "__reversed__"=pure none:=by rw[typeLookup_type,builtinLookup_eq_fast];kernel_rfl
theorem y2W:isSubtype (.type "tuple") (.type "dict")=pure false:=by rw[isSubtype_type];kernel_rfl
abbrev z9o(t:Addr)(i:Int):Obj:={ cls:=.type "reversed",dict:=none,data:=.fields #[.ref t,rawInt i],slots:=#[] }
section
variable{prog:Program}{w:World}{A:Around}{E:Value->Shared->Prop}{s:Shared}
theorem y1w{t:Addr}{items:Array Value}{Q:Value->Shared->Prop}(ht:IsTup s.heap t items)(hf:(items.size:Int)<2^63)(h:∀tk,Q (.ref s.heap.objs.size) { s with heap:=s.heap.push (z9o t ((items.size:Int)-1)),toks:=tk }) :
  codeAny (model prog w) A (.call (.builtin "reversed.__new__") ⟨[.type "reversed",.ref t],[]⟩) (wants Q E) s:=by
 refine codeAny_of_tree ?_
 show wpAny _ A.in1 (do checkBuiltinCall "reversed.__new__" ⟨[.type "reversed",.ref t],[]⟩;again (.builtin "reversed.__new__" ⟨[.type "reversed",.ref t],[]⟩)) _ _ s
 refine wpAny_bind (wpAny_of_eq (PySem.F.newCall_reversed_1 _) (wpAny_pure ⟨plainId_quiet PySem.F.plain_reversed_new _,codeAny_builtin PySem.F.entry_reversed_new ?_⟩))
 rw[cH PySem.F.plain_reversed_new _]
 unfold Builtin.«reversed.__new__»
 refine wpAny_bind (wpAny_of_eq (newClass_reversed _) ?_)
 try dsimp only
 refine wpAny_bind (wpAny_of_eq (a:=()) (by first|rfl|kernel_rfl) ?_)
 refine wpAny_bind (wpAny_of_eq (a:=()) (by first|rfl|kernel_rfl) ?_)
 try dsimp only
 refine wpAny_bind (wpAny_specialOf ht.typeIs z9k ?_)
 try dsimp only
 refine wpAny_bind ?_
 show wpAny _ _ (isInstance (.ref t) (.type "dict") >>= fun b=>_) _ _ _
 refine wpAny_bind (wpAny_isInstance (T:="tuple") ht.typeIs y2W ?_)
 rw[if_neg (by decide)]
 refine wpAny_bind (wpAny_specialOf ht.typeIs slot_tuple_getitem.lookup ?_)
 dsimp only
 rw[if_pos (by decide +kernel)]
 refine wpAny_pure ?_
 rw[if_neg (by decide)]
 refine wpAny_bind (len_tuple ht hf ?_)
 refine wpAny_bind (wpAny_of_eq (a:=some (items.size:Int)) rfl ?_)
 dsimp only
 refine wpAny_bind ?_
 show wpAny _ _ (newObj (.type "reversed") (.fields #[.ref t,rawInt ((items.size:Int)-1)])) _ _ _
 exact wpAny_newObj_type (wpAny_pure (h _)) (by size_fits)
theorem y77{t:Addr}{items:Array Value}{Q:Value->Shared->Prop}(ht:IsTup s.heap t items)(hf:(items.size:Int)<2^63)(h:∀tk,Q (.ref s.heap.objs.size) { s with heap:=s.heap.push (z9o t ((items.size:Int)-1)),toks:=tk }) :
  wpAny (model prog w) A (call (.type "reversed") [.ref t]) Q E s:=by
 refine callType_codes (Q₁:=fun obj s₁=>obj=.ref s.heap.objs.size/\∃tk,s₁={ s with heap:=s.heap.push (z9o t ((items.size:Int)-1)),toks:=tk }) z80 (PySem.F.typeCall_reversed_1 _) F.entry_object_init (y1w ht hf fun tk=>⟨rfl,tk,rfl⟩) ?_
 rintro obj s₁ ⟨rfl,tk,rfl⟩
 have ty:Shared.TypeIs { s with heap:=s.heap.push (z9o t ((items.size:Int)-1)),toks:=tk } (.ref s.heap.objs.size) "reversed":=⟨_,bJ _ rfl,rfl⟩
 exact⟨ty,F.args_object_init_2 _ _,object_init_meets z80.init.lookup z80.made (by decide) _ _ _ _ _ ⟨ty,rfl,h tk⟩⟩
theorem y7i{I t:Addr}{i:Nat}{items:Array Value}{x:Value}{Q:Option Value->Shared->Prop}(hI:s.heap.get? I=some (z9o t (i:Int)))(ht:IsTup s.heap t items)(hx:items[i]? = some x)(hz:(items.size:Int)<2^63)
  (hQ:∀h' tk,h'.get? I=some (z9o t ((i:Int)-1))->Heap.SameBut I s.heap h'->Q (some x) { s with heap:=h',toks:=tk }):wpAny (model prog w) A (pyNext (.ref I)) Q E s:=by
 have ty:s.TypeIs (.ref I) "reversed":=⟨_,hI,rfl⟩
 have hi:i<items.size:=(dM.mp hx).1
 unfold pyNext
 refine wpAny_bind (wpAny_attempt (wpAny_callSpecial?_slot (name:=Str.ofString "__next__") ty z2H
  (wpAny_call_entry z2H ty z6h ?_ (z7k _))))
 unfold Builtin.«reversed.__next__»
 refine wpAny_bind (wpAny_of_eq (a:=(Value.ref I,[])) rfl ?_)
 try dsimp only
 refine wpAny_bind (wpAny_field hI rfl (x:=.ref t) rfl ?_)
 refine wpAny_bind (wpAny_field hI rfl (x:=rawInt (i:Int)) rfl ?_)
 show wpAny _ _ (if (i:Int)<0 then _ else _) _ _ s
 rw[if_neg (by omega)]
 refine wpAny_bind (wpAny_specialOf ht.typeIs slot_tuple_getitem.lookup ?_)
 rw[if_neg (by decide)]
 refine wpAny_bind (wpAny_mkInt ?_)
 refine wpAny_bind (wpAny_attempt (getItem_tuple (j:=i) (x:=x) ht (by omega) (by omega) ?_ hx ?_))
 ·exact seqIndex_of (by omega) (by omega)
 dsimp only
 refine wpAny_bind (wpAny_field hI rfl (x:=rawInt (i:Int)) rfl ?_)
 show wpAny _ _ (setField (.ref I) 1 (rawInt ((i:Int)-1)) >>= _) _ _ _
 refine wpAny_bind (wpAny_setField hI rfl (by simp) ?_)
 refine wpAny_pure ⟨x,rfl,wpAny_pure (hQ _ _ ?_ (j4 ..))⟩
 exact dB _ hI rfl
theorem y80{I t:Addr}{Q:Option Value->Shared->Prop}(hh:A.handled=none)(hI:s.heap.get? I=some (z9o t (-1)))
  (hQ:∀h',Heap.ExtBut I s.heap h'->Q none { s with heap:=h' }):wpAny (model prog w) A (pyNext (.ref I)) Q E s:=by
 have ty:s.TypeIs (.ref I) "reversed":=⟨_,hI,rfl⟩
 unfold pyNext
 refine wpAny_bind (wpAny_attempt (wpAny_callSpecial?_slot (name:=Str.ofString "__next__") ty z2H
  (wpAny_call_entry z2H ty z6h ?_ (z7k _))))
 unfold Builtin.«reversed.__next__»
 refine wpAny_bind (wpAny_of_eq (a:=(Value.ref I,[])) rfl ?_)
 try dsimp only
 refine wpAny_bind (wpAny_field hI rfl (x:=.ref t) rfl ?_)
 refine wpAny_bind (wpAny_field hI rfl (x:=rawInt (-1)) rfl ?_)
 show wpAny _ _ (if (-1:Int)<0 then _ else _) _ _ s
 rw[if_pos (by decide)]
 refine wpAny_bind (wpAny_rule ?_)
 refine wpAny_bind ?_
 show wpAny _ _ (setField (.ref I) 1 (rawInt (-1)) >>= fun _=>setField (.ref I) 0 .none) _ _ _
 refine wpAny_bind (wpAny_setField hI rfl (by simp) ?_)
 have g1:=dB (Obj.mapFields (·.setIfInBounds 1 (rawInt (-1)))) hI rfl
 have b1:Heap.SameBut I s.heap (s.heap.update I (Obj.mapFields (·.setIfInBounds 1 (rawInt (-1))))):=j4 ..
 refine wpAny_setField (vs:=#[.ref t,rawInt (-1)]) g1 rfl (by simp) ?_
 have b2:Heap.SameBut I (s.heap.update I (Obj.mapFields (·.setIfInBounds 1 (rawInt (-1))))) ((s.heap.update I (Obj.mapFields (·.setIfInBounds 1 (rawInt (-1))))).update I (Obj.mapFields (·.setIfInBounds 0 .none))):=j4 ..
 refine wpAny_bind ?_
 unfold Builtin.SmallTypes.stopIteration
 refine wpAny_bind ?_
 simp only[newExc,newTuple]
 refine wpAny_bind (wpAny_newObj_type ?_ (by size_fits))
 refine wpAny_bind (m:=firstArgMember _ _) (wpAny_of_eq (a:=Value.none) (by first|rfl|(simp only[firstArgMember];rfl)) (wpAny_newObj_type ?_ (by size_fits)))
 simp only[raiseNew]
 refine wpAny_bind (wpAny_handled ?_)
 rw[show A.in1.handled=none from hh]
 refine wpAny_bind (wpAny_pure (wpAny_throw ?_))
 refine wpAny_bind (wpAny_isInstance (T:="StopIteration") (b:=true) ⟨_,bJ _ rfl,rfl⟩ isSubtype_stop ?_)
 exact wpAny_pure (hQ _ fun b o hb e=>bA _ (bA _ ((b2.2 b hb).trans ((b1.2 b hb).trans e))))
theorem y3G{I t:Addr}{i:Int}{Q:Value->Shared->Prop}(hI:s.heap.get? I=some (z9o t i))(h:Q (.ref I) s):wpAny (model prog w) A (pyIter (.ref I)) Q E s:=by
 have ty:s.TypeIs (.ref I) "reversed":=⟨_,hI,rfl⟩
 refine wpAny_pyIter_slot ty z7a (wpAny_call_entry z7a ty z9w ?_ (y0I _))
 show wpAny _ _ (ret (.ref I)) _ _ s
 exact wpAny_pure ⟨_,rfl,"reversed",_,ty,z2H.lookup,h⟩
end
noncomputable def Itv(K:PySem.W.Frag)(a:Addr)(n:Nat):It:=
 ⟨fun i H=>i<n/\∃xs,SqT K H a xs/\xs.length=n,fun i H x H'=>H'=H/\∀xs,SqT K H a xs->xs.reverse[i]? = some x,fun i H=>n≤i⟩
theorem y5o{P:Program}{w:World}{K:PySem.W.Frag}{tg:Expr}(a it:Addr)(n:Nat):Turn P w K tg (Itv K a n) [it] it (fun i h=>i≤n/\h.get? it=some (z9o a ((n:Int)-1-(i:Int)))) where
 mem:=by simp
 obj:=fun i h st b hb=>by
  have e:b=it:=by simpa using hb
  subst e
  exact⟨_,st.2,fun v z=>by
   have z':Data.fields _=Data.cell v:=z
   cases z'⟩
 keep:=fun i h h' st k=>⟨st.1,k it (by simp) _ st.2⟩
 item:=by
  intro X hP hw hK hc i pins s σ H E I hf st hg
  subst hP hw hK
  obtain⟨hi,xs,hq,hn⟩:=hg
  obtain⟨its,rv,p,hz⟩:=I.tuple hq
  have ln:xs.length=its.length:=rv.length
  have hk:n-1-i<xs.length:=by omega
  obtain⟨u,hu,ru⟩:=rv.get (bU hk)
  obtain⟨f0,f1,f2,f3,f4,f5⟩:=hf it (by simp)
  have e1:(n:Int)-1-(i:Int)=((n-1-i:Nat):Int):=by omega
  have st1:=st.2
  rw[e1] at st1
  refine y7i st1 (show IsTup s.heap a its.toArray from p) (x:=u) (by simpa using hu) ?_ fun h' tk st' sb=>?_
  ·have:its.toArray.size=xs.length:=by simp[ln]
   rw[this]
   have:=dU hz z76
   omega
  have I1:Inv X pins σ H { s with heap:=h',toks:=tk }:=I.turned (t':=tk) (fun b o hb e=>(sb.2 b hb).trans e) f0 f1 f3 f4 f5
  refine⟨u,rfl,y4l (s:={ s with heap:=h',toks:=tk }) st' rfl rfl (by decide) ⟨xs[n-1-i],H,I1,ru,⟨rfl,fun ys hy=>?_⟩,⟨hi,?_⟩,fun b hb=>(hf b hb).1⟩⟩
  ·rw[I.U4 hy hq,List.getElem?_reverse (by omega),bU (by omega)]
   congr 2
   omega
  ·have e2:(n:Int)-1-((i+1:Nat):Int)=((n-1-i:Nat):Int)-1:=by omega
   rw[e2]
   exact st'
 done:=by
  intro X hP hw hK hc i pins s σ H E I hf st hg
  subst hP hw hK
  obtain⟨f0,f1,f2,f3,f4,f5⟩:=hf it (by simp)
  have hg':n≤i:=hg
  have st1:=st.2
  rw[show(n:Int)-1-(i:Int)=-1 by have:=st.1;omega] at st1
  exact y80 (I.ok.hd hc) st1 fun h' eb=>⟨rfl,I.turned (t':=s.toks) (fun b o hb e=>eb b o hb e) f0 f1 f3 f4 f5⟩
 self:=fun _ _ _ _ _ st h=>y3G st.2 h
section
variable{X:Cx}{tg:Expr}
noncomputable def iRev(K:PySem.W.Frag)(ta:TA):TI:=fun σ H R=>ta σ H fun vs H1=>∃a xs,vs=[.ref a]/\SqT K H1 a xs/\R (Itv K a xs.length) H1
theorem y3F{e:Expr}{ta:TA}{p pos:Pos}(hg:Gl X "reversed")(hm:X.mg "reversed"=none)(ha:PA X [e] ta)(hs:starEach [e] X.env=[(false,eval e X.env)]:=by rfl):PI X tg (.Call (.Name "reversed" p) [e] [] pos) (iRev X.K ta):=by
 intro pins s σ H R I h
 refine Call_ (z69 I hg hm boot_reversed (dJ (thn (ha pos pins s σ H _ I h) fun us s1 ⟨vs,H1,I1,r1,q1⟩=>?_) hs rfl))
 obtain⟨a,xs,e,hq,q⟩:=q1
 subst e
 cases r1 with
 | cons r rr=>
  cases rr
  cases r
  obtain⟨its,rv,p,hz⟩:=I1.tuple hq
  have ln:(its.toArray.size:Int)=xs.length:=by simp[rv.length]
  refine y77 (show IsTup s1.heap a its.toArray from p) ?_ fun tk=>?_
  ·rw[ln]
   have:=dU hz z76
   omega
  refine y3G (bJ _ rfl) ?_
  refine⟨s1.heap.objs.size,[s1.heap.objs.size],_,_,H1,rfl,I1.kept (t':=tk) fun b o e=>bA _ e,y5o a _ xs.length,⟨cR _,?_⟩,fun b hb=>?_,q⟩
  ·rw[show(xs.length:Int)-1-((0:Nat):Int)=(its.toArray.size:Int)-1 by rw[ln];simp]
   exact bJ _ rfl
  ·have e:b=s1.heap.objs.size:=by simpa using hb
   subst e
   exact I1.T6 (bE _) (I1.hok.fresh (bE _))
end
theorem y5i{K:PySem.W.Frag}{a:Addr}{xs:List V}{g:TG}{tc:TT}{te:TE}{σ0:St}{H1:Hp}{F:List V->Hp->Prop}(Pv:Nat->List V->Hp->Prop)(h0:Pv 0 [] H1)
  (hl:∀i ys H,i≤xs.length->Pv i ys H->SqT K H a xs/\ys.length<sizeLine)
  (hs:∀i x ys H,xs.reverse[i]? = some x->Pv i ys H->z1B g tc te σ0 x H ys (Pv (i+1))) (hd:∀ys H,Pv xs.length ys H->F ys H):y0o (Itv K a xs.length) g tc te σ0 H1 F:=by
 refine⟨fun i m ys H=>m=xs.length-i/\i≤xs.length/\Pv i ys H,⟨xs.length,by simp,cR _,h0⟩,?_⟩
 rintro i m ys H ⟨rfl,hi,p⟩
 obtain⟨q,z⟩:=hl i ys H hi p
 by_cases hlt:i<xs.length
 ·refine .inr ⟨⟨hlt,xs,q,rfl⟩,z,Pv (i+1),fun zs H' p'=>⟨xs.length-(i+1),by omega,rfl,hlt,p'⟩,fun x H' y=>?_⟩
  obtain⟨e,y⟩:=y
  subst e
  exact hs i x ys _ (y xs q) p
 ·have e:i=xs.length:=by omega
  subst e
  exact .inl ⟨bE _,hd ys H p⟩
theorem y7j{K:PySem.W.Frag}{a:Addr}{xs:List V}{g:TG}{tb:TS}{D:Ends}{σ:St}{H:Hp}(Pv:Nat->St->Hp->Prop)(h0:Pv 0 σ H)(hl:∀i σ H,i≤xs.length->Pv i σ H->SqT K H a xs)
  (hs:∀i x σ H,xs.reverse[i]? = some x->Pv i σ H->g x σ H fun σ2 H2=>tb { D with nx:=Pv (i+1),ct:=Pv (i+1),bk:=D.nx } σ2 H2) (hd:∀σ H,Pv xs.length σ H->D.nx σ H) :
  ∃W:Nat->Nat->St->Hp->Prop,(∃m,W 0 m σ H)/\∀i m σ H,W i m σ H->
   ((Itv K a xs.length).stop i H/\D.nx σ H)\/((Itv K a xs.length).go i H/\∃N:St->Hp->Prop,(∀σ' H',N σ' H'->∃m',m'<m/\W (i+1) m' σ' H')/\∀x H',(Itv K a xs.length).yld i H x H'->g x σ H' fun σ2 H2=>tb { D with nx:=N,ct:=N,bk:=D.nx } σ2 H2):=by
 refine⟨fun i m σ H=>m=xs.length-i/\i≤xs.length/\Pv i σ H,⟨xs.length,by simp,cR _,h0⟩,?_⟩
 rintro i m σ H ⟨rfl,hi',p⟩
 have q:=hl i σ H hi' p
 by_cases hlt:i<xs.length
 ·refine .inr ⟨⟨hlt,xs,q,rfl⟩,Pv (i+1),fun σ' H' p'=>⟨xs.length-(i+1),by omega,rfl,hlt,p'⟩,fun x H' y=>?_⟩
  obtain⟨e,y⟩:=y
  subst e
  exact hs i x σ _ (y xs q) p
 ·have e:i=xs.length:=by omega
  subst e
  exact .inl ⟨bE _,hd σ H p⟩
theorem len0{us:List Value}{p:List Value->Prop}(h:us.length=0)(k:p []):p us:=by rw[dG h];exact k
theorem T1{us:List Value}{p:List Value->Prop}(h:us.length=1)(k:∀a,p [a]):p us:=by
 obtain⟨a,r,rfl⟩:=cW h
 exact len0 (p:=fun r=>p (a::r)) (Nat.succ.inj h) (k a)
theorem w0b{us:List Value}{p:List Value->Prop}(h:us.length=2)(k:∀a b,p [a,b]):p us:=by
 obtain⟨a,r,rfl⟩:=cW h
 exact T1 (p:=fun r=>p (a::r)) (Nat.succ.inj h) (k a)
theorem Y8{us:List Value}{p:List Value->Prop}(h:us.length=3)(k:∀a b c,p [a,b,c]):p us:=by
 obtain⟨a,r,rfl⟩:=cW h
 exact w0b (p:=fun r=>p (a::r)) (Nat.succ.inj h) (k a)
theorem w0v{us:List Value}{p:List Value->Prop}(h:us.length=4)(k:∀a b c d,p [a,b,c,d]):p us:=by
 obtain⟨a,r,rfl⟩:=cW h
 exact Y8 (p:=fun r=>p (a::r)) (Nat.succ.inj h) (k a)
theorem len5{us:List Value}{p:List Value->Prop}(h:us.length=5)(k:∀a b c d e,p [a,b,c,d,e]):p us:=by
 obtain⟨a,r,rfl⟩:=cW h
 exact w0v (p:=fun r=>p (a::r)) (Nat.succ.inj h) (k a)
theorem len6{us:List Value}{p:List Value->Prop}(h:us.length=6)(k:∀a b c d e f,p [a,b,c,d,e,f]):p us:=by
 obtain⟨a,r,rfl⟩:=cW h
 exact len5 (p:=fun r=>p (a::r)) (Nat.succ.inj h) (k a)
theorem Cal.mono{P:Program}{w:World}{K:PySem.W.Frag}{mg:Str->Option Value}{base:Heap}{j k:Nat}{x:Str}{ps:List Str}{sp:Sp}(G:Cal P w K mg base j x ps sp)(h:j≤k):Cal P w K mg base k x ps sp:=by
 obtain⟨f,fd,a,b,c,d⟩:=G.ex
 exact⟨f,fd,a.mono h,b,c,d⟩
theorem C5.mono{P:Program}{w:World}{K:PySem.W.Frag}{mg:Str->Option Value}{base:Heap}{j k:Nat}{C:Addr}{m:Str}{ps:List Str}{sp:Sp}(G:C5 P w K mg base j C m ps sp)(h:j≤k):C5 P w K mg base k C m ps sp:=by
 obtain⟨f,fd,a,b,c⟩:=G.ex
 exact⟨G.cl,f,fd,a.mono h,b,c⟩
theorem Mkr.mono{P:Program}{w:World}{K:PySem.W.Frag}{mg:Str->Option Value}{base:Heap}{j k:Nat}{C:Addr}{x:Str}{ps:List Str}{sp:Sp}(G:Mkr P w K mg base j C x ps sp)(h:j≤k):Mkr P w K mg base k C x ps sp:=by
 obtain⟨f,fd,a,b,c,d⟩:=G.ex
 exact⟨f,fd,a.mono h,b,c,d⟩
theorem z0V{X:Cx}{x z:Str}{pos:Pos}(hg:Gl X x)(hm:∃t,X.mg x=some (.str z t))(hd:(x == ("__debug__":Str))=false:=by decide):PE X (.Name x pos) (tC (.str z)):=by
 obtain⟨t,e⟩:=hm
 exact y4q hg e ⟨t,rfl⟩ hd
section
variable{X:Cx}
theorem z7m{P:Program}{w:World}:∀{ns:List Int}{vs:List Value},vs.length=ns.length->(∀(j:Nat) (v:Value),vs[j]? = some v->∃k:Key,(ns.map Sum.inl)[j]? = some k/\(z1E P w).is k v=true)->IntsAre vs ns
 | [],[],_,_=>.nil
 | [],_::_,h,_=>by cases h
 | _::_,[],h,_=>by cases h
 | n::ns,v::vs,h,q=>by
  obtain⟨k,e,hk⟩:=q 0 v rfl
  cases e
  rcases z1m (show y0Z (Sum.inl n) v=true from hk) with ⟨i,t,e1,rfl⟩|⟨x,t,e1,_⟩
  ·cases e1
   exact .cons n t (z7m (Nat.succ.inj h) fun j u hu=>q (j+1) u hu)
  ·cases e1
theorem y08{prog:Program}{w:World}{A:Around}{E:Value->Shared->Prop}{s:Shared}{R:List Value->Shared->Prop}{T:String}{r d:Addr}{n:Nat}{P:Nat->Value->Prop}{OK:Heap->Prop}(K:PySem.W.KdlSrc prog w T r d n P OK)(hh:A.handled=none)(hok:OK s.heap)(hn:n≤sizeLine)
  (fin:∀(h':Heap) (tk:Nat) (acc:Array Value),(∀b o,s.heap.get? b=some o->h'.get? b=some o)->s.heap.objs.size<h'.objs.size->ItemsOf P acc n->R acc.toList { s with heap:=h',toks:=tk }):wpAny (model prog w) A (collect (.ref r)) R E s:=by
 have hlt:=K.there _ hok
 unfold collect
 refine wpAny_bind (wpAny_runValue (codeAny_builtin entry_proto_collect' ?_))
 rw[cH PySem.F.plain_proto_collect _]
 refine(show wpAny _ A.in1 (newList [] >>= fun l=>again (.builtin "list.__iadd__" ⟨[l,.ref r],[]⟩)) _ _ s from wpAny_bind (wpAny_newObj_type (wpAny_pure ⟨plainId_quiet eY _,codeAny_builtin entry_list_iadd' ?_⟩)))
 rw[cH eY _]
 have g1:(s.heap.push { cls:=.type "list",data:=.seq ([]:List Value).toArray }).get? s.heap.objs.size=some { cls:=.type "list",data:=.seq #[] }:=bJ _ rfl
 have ext:=PySem.W.kdl_extend (A:=A) (s:={ s with heap:=s.heap.push { cls:=.type "list",data:=.seq ([]:List Value).toArray } })
  (R:=fun(q:Result) (s':Shared)=>∃(h':Heap) (tk:Nat) (acc:Array Value) (c':Nat),q=.ok (.ret (.ref s.heap.objs.size))/\s'={ s with heap:=h',toks:=tk }/\(∀b o,s.heap.get? b=some o->h'.get? b=some o)/\
   h'.get? s.heap.objs.size=some { cls:=.type "list",dict:=none,data:=.seq acc c',slots:=#[] }/\ItemsOf P acc n)
  K hh (K.keep _ _ hok fun b _ o e=>bA _ e) s.heap.objs.size (g0 hlt.1) (g0 hlt.2) (.ref s.heap.objs.size) 0 g1
  (fun h' tk acc c' k hS' so=>⟨h',tk,acc,c',rfl,rfl,fun b o e=>k b o (cC (bL e)) (bA _ e),hS',so⟩) hn
 refine(show wpAny _ A.in1 (Builtin.List.listExtendWith (.ref s.heap.objs.size) (.ref r) (.ref s.heap.objs.size)) _ _ _ from wpAny_mono ext (fun f s' x=>?_) fun e s' x=>?_)
 ·cases f with
  | done f=>
   obtain⟨h',tk,acc,c',e,rfl,k,hS',so⟩:=x
   cases e
   exact(show wpAny _ A (load s.heap.objs.size >>= _) _ _ _ from wpAny_bind (wpAny_load hS' (wpAny_pure (fin h' tk _ k (bL hS') so))))
  | again c1=>
   refine⟨x.1,codeAny_mono x.2 fun q s2 y=>?_⟩
   obtain⟨h',tk,acc,c',rfl,rfl,k,hS',so⟩:=y
   exact(show wpAny _ A (load s.heap.objs.size >>= _) _ _ _ from wpAny_bind (wpAny_load hS' (wpAny_pure (fin h' tk _ k (bL hS') so))))
 ·obtain⟨_,_,_,_,e',_⟩:=x
  cases e'
theorem z4l(hc:X.calm=true):z3L X (.builtin "sorted") (fun xs H Q=>∃(p:Addr) (kvs:List (Key×V)) (ns:List Int),xs=[.ref p]/\H p=some (.dK kvs)/\kvs.map (·.1)=ns.map Sum.inl/\ns.length<64/\
  ∀(l:Addr) (ms:List Int),H l=none->ms.Perm ns->ms.Pairwise (·≤·)->Q (.ref l) (upd H l (.lst (ms.map V.int)))):=by
 intro pins s σ H xs us Q I r h
 obtain⟨p,kvs,ns,rfl,hp,hk,h64,q⟩:=h
 obtain⟨u,rfl,rx⟩:=z51 r
 cases rx
 obtain⟨_,lo,kv,rk,dd⟩:=y8m I.hok hp
 obtain⟨ep,hat⟩:=dd.dictAt
 have lk:kv.length=ns.length:=by
  have e1:=rk.length
  have e2:=congrArg List.length hk
  rw[b9,b9] at e2
  omega
 refine Calls.call_function_entry kind_sorted plain_sorted entry_sorted (args_sorted1 _) ?_
 unfold Builtin.«sorted»
 refine wpAny_bind (m:=checkCount "sorted" 1 1 _) (wpAny_pure ?_)
 refine wpAny_bind (y08 (A:=X.A.in1) (PySem.W.kdl_dict (knd:=z1E X.prog X.w) (kvs:=kv) (ep:=ep) lo) (I.ok.hd hc) hat (by rw[sizeLine_eq];omega) fun h' tk acc kp slt items=>?_)
 have hi:IntsAre acc.toList ns:=z7m (P:=X.prog) (w:=X.w) (by rw[eS,items.1,lk]) fun j v hv=>by
  obtain⟨k,x,e,ik⟩:=items.2 j v (by rw[<- Array.getElem?_toList];exact hv)
  refine⟨k,?_,ik⟩
  rw[<- hk,rk.keys,bK,e]
  rfl
 have lv:acc.toList.length<64:=by rw[IntsAre.length hi];exact h64
 refine wpAny_bind (wpAny_newList ?_ (by rw[sizeLine_eq];omega))
 have g1:(h'.push (seqObj "list" acc.toList.toArray 0)).get? h'.objs.size=some (seqObj "list" acc.toList.toArray 0):=bJ _ rfl
 refine wpAny_bind (wpAny_holding (wpAny_call_entry slot_list_sort ⟨_,g1,rfl⟩ entry_list_sort (list_sort_tree g1 hi lv fun out ns' a1 a2 a3=>⟨_,rfl,?_⟩) (args_list_sort _)))
 refine wpAny_pure ⟨_,rfl,?_⟩
 obtain⟨e,he⟩:=sortedHeap_at (out:=out) g1
 have sle:s.heap.objs.size≤h'.objs.size:=fK slt
 have old:∀b o,s.heap.get? b=some o->(sortedHeap (h'.push (seqObj "list" acc.toList.toArray 0)) h'.objs.size acc.toList out).get? b=some o:=fun b o e=>by
  have hb:=bL (kp b o e)
  rw[sortedHeap_old (cC hb) (by rw[size_push'];exact dQ hb)]
  exact bA _ (kp b o e)
 refine⟨.ref h'.objs.size,_,I.laid (a:=h'.objs.size) (o:=.lst (ns'.map V.int)) (t':=tk) old sle (show z1t X.prog X.w _ _ _ (.lst (ns'.map V.int)) from⟨?_,out.toList,e,z6t a1,?_⟩),rfl,q _ ns' (I.hok.fresh sle) a2 a3⟩
 ·rw[b9,a2.length_eq,sizeLine_eq]
  omega
 ·simpa using he
end
theorem z8B:typeLookup (.type "list") "keys"=pure none:=am_miss_of_fast (by kernel_rfl)
theorem z8g:typeLookup (.type "tuple") "keys"=pure none:=am_miss_of_fast (by kernel_rfl)
theorem y0M:typeLookup (.type "list") "__getattr__"=pure none:=by rw[typeLookup_type,builtinLookup_eq_fast];kernel_rfl
theorem z9R:typeLookup (.type "tuple") "__getattr__"=pure none:=by rw[typeLookup_type,builtinLookup_eq_fast];kernel_rfl
section
variable{prog:Program}{w:World}{A:Around}{E:Value->Shared->Prop}{s:Shared}
theorem y0S{a:Addr}{items:Array Value}{n:Nat}{sl:Array (Option Value)}{u:Tok}{R:Result->Shared->Prop}(hA:A.handled=none)(ho:s.heap.get? a=some ⟨.type "list",none,.seq items n,sl⟩)(h:∀h' tk e,Heap.NewAttrErr s.heap h' e (.ref a) "keys"->R (.error (.ref e)) { s with heap:=h',toks:=tk }) :
  wpAny (model prog w) A.in1 (Builtin.«object.__getattribute__» ⟨[.ref a,.str "keys" u],[]⟩) (fun fin s'=>match fin with|.done f=>R (.ok f) s'|.again c'=>c'.quiet=true/\codeAny (model prog w) A c' R s') (fun e s'=>R (.error e) s') s:=by
 obtain⟨hp,g,d,tk,os⟩:=s
 have hT:(⟨hp,g,d,tk,os⟩:Shared).TypeIs (.ref a) "list":=⟨_,ho,rfl⟩
 have f1:=z8B
 unfold Builtin.«object.__getattribute__»
 repeat (any_goals (first|assumption|wp_step))
 exact wpAny_raiseAttrError hA h (attrMsg_fits (by decide +kernel) (by decide +kernel))
theorem z9B{a:Addr}{items:Array Value}{n:Nat}{sl:Array (Option Value)}{u:Tok}{R:Result->Shared->Prop}(hA:A.handled=none)(ho:s.heap.get? a=some ⟨.type "tuple",none,.seq items n,sl⟩)(h:∀h' tk e,Heap.NewAttrErr s.heap h' e (.ref a) "keys"->R (.error (.ref e)) { s with heap:=h',toks:=tk }) :
  wpAny (model prog w) A.in1 (Builtin.«object.__getattribute__» ⟨[.ref a,.str "keys" u],[]⟩) (fun fin s'=>match fin with|.done f=>R (.ok f) s'|.again c'=>c'.quiet=true/\codeAny (model prog w) A c' R s') (fun e s'=>R (.error e) s') s:=by
 obtain⟨hp,g,d,tk,os⟩:=s
 have hT:(⟨hp,g,d,tk,os⟩:Shared).TypeIs (.ref a) "tuple":=⟨_,ho,rfl⟩
 have f1:=z8g
 unfold Builtin.«object.__getattribute__»
 repeat (any_goals (first|assumption|wp_step))
 exact wpAny_raiseAttrError hA h (attrMsg_fits (by decide +kernel) (by decide +kernel))
theorem z8F{a:Addr}{items:Array Value}{n:Nat}{sl:Array (Option Value)}{u:Tok}{R:Result->Shared->Prop}(hA:A.handled=none)(ho:s.heap.get? a=some ⟨.type "list",none,.seq items n,sl⟩)(h:∀h' tk e,Heap.NewAttrErr s.heap h' e (.ref a) "keys"->R (.error (.ref e)) { s with heap:=h',toks:=tk }) :
  codeAny (model prog w) A (.call (.builtin "list.__getattribute__") ⟨[.ref a,.str "keys" u],[]⟩) R s:=
 codeAny_call_builtin eJ.plain F.entry_list_ga (eJ.check _ _ _ _ _ _ _ _ (show s.TypeIs (.ref a) "list" from⟨_,ho,rfl⟩) (F.args_list_getattribute_2 _ _) (y0S (R:=R) hA ho h))
theorem z8E{a:Addr}{items:Array Value}{n:Nat}{sl:Array (Option Value)}{Q:Option Value->Shared->Prop}(hA:A.handled=none)(ho:s.heap.get? a=some ⟨.type "list",none,.seq items n,sl⟩)(h:∀h' tk,(∀b o,s.heap.get? b=some o->h'.get? b=some o)->Q none { s with heap:=h',toks:=tk }) :
  wpAny (model prog w) A (getAttr? (.ref a) "keys") Q E s:=by
 obtain⟨hp,g,d,tk,os⟩:=s
 have hT:∀tk',(⟨hp,g,d,tk',os⟩:Shared).TypeIs (.ref a) "list":=fun _=>⟨_,ho,rfl⟩
 have f1:=sub_AttributeError
 have f3:=eJ.lookup
 have f4:=eJ.bind (.ref a)
 have f5:=y0M
 unfold getAttr? getAttrBy? getAttrBy
 repeat (any_goals (first|assumption|exact hT _|wp_step))
 refine z8F (s:=⟨hp,g,d,tk+1,os⟩) hA ho fun h' tk' e hx=>?_
 obtain⟨t',u',he⟩:=hx.there
 show wpAny _ _ (getattributeRaised _ _ _ _ _ _ _) _ _ _
 unfold getattributeRaised
 repeat (any_goals (first|assumption|wp_step))
 exact h _ _ hx.keeps
theorem z81{a:Addr}{items:Array Value}{n:Nat}{sl:Array (Option Value)}{u:Tok}{R:Result->Shared->Prop}(hA:A.handled=none)(ho:s.heap.get? a=some ⟨.type "tuple",none,.seq items n,sl⟩)(h:∀h' tk e,Heap.NewAttrErr s.heap h' e (.ref a) "keys"->R (.error (.ref e)) { s with heap:=h',toks:=tk }) :
  codeAny (model prog w) A (.call (.builtin "tuple.__getattribute__") ⟨[.ref a,.str "keys" u],[]⟩) R s:=
 codeAny_call_builtin e7.plain F.entry_tuple_ga (e7.check _ _ _ _ _ _ _ _ (show s.TypeIs (.ref a) "tuple" from⟨_,ho,rfl⟩) (F.args_tuple_getattribute_2 _ _) (z9B (R:=R) hA ho h))
theorem z7R{a:Addr}{items:Array Value}{n:Nat}{sl:Array (Option Value)}{Q:Option Value->Shared->Prop}(hA:A.handled=none)(ho:s.heap.get? a=some ⟨.type "tuple",none,.seq items n,sl⟩)(h:∀h' tk,(∀b o,s.heap.get? b=some o->h'.get? b=some o)->Q none { s with heap:=h',toks:=tk }) :
  wpAny (model prog w) A (getAttr? (.ref a) "keys") Q E s:=by
 obtain⟨hp,g,d,tk,os⟩:=s
 have hT:∀tk',(⟨hp,g,d,tk',os⟩:Shared).TypeIs (.ref a) "tuple":=fun _=>⟨_,ho,rfl⟩
 have f1:=sub_AttributeError
 have f3:=e7.lookup
 have f4:=e7.bind (.ref a)
 have f5:=z9R
 unfold getAttr? getAttrBy? getAttrBy
 repeat (any_goals (first|assumption|exact hT _|wp_step))
 refine z81 (s:=⟨hp,g,d,tk+1,os⟩) hA ho fun h' tk' e hx=>?_
 obtain⟨t',u',he⟩:=hx.there
 show wpAny _ _ (getattributeRaised _ _ _ _ _ _ _) _ _ _
 unfold getattributeRaised
 repeat (any_goals (first|assumption|wp_step))
 exact h _ _ hx.keeps
end
theorem z5a:entryFor table "dict.update.loop"=some Builtin.«dict.update.loop»:=entryFor_of_tree (by kernel_rfl)
theorem z20:plainId "dict.update.loop"=true:=by decide +kernel
section
variable{prog:Program}{w:World}{A:Around}{κ:Type}[DecidableEq κ]{kd:KeyKind prog w κ}{I:Addr}{fp wr:List Addr}{G:Array GenState->Array GenState->Prop}{n:Nat}{P:Nat->Value->Prop}{St:Nat->Shared->Prop}
noncomputable def y0y(kd:KeyKind prog w κ)(h:Heap)(v:Value)(kv:κ×Value)(out:List Addr):Prop:=∃(a:Addr) (o:Obj) (T:String) (k:Value) (c:Nat),v=.ref a/\h.get? a=some o/\o.cls=.type T/\(T="list"\/T="tuple")/\o.data=.seq #[k,kv.2] c/\kd.is kv.1 k=true/\a∉out
theorem z89{R:Result->Shared->Prop}(W:WalksS prog w A.in1 I fp wr G n P St){d:Addr}(out:d∉fp){h0:Heap}{vs:List (κ×Value)}(lk:vs.length=n)
  (vals:∀i v,P i v->∃kv,vs[i]? = some kv/\y0y kd h0 v kv (d::wr)) (few:n≤1000) :
  ∀(todo i:Nat) (s:Shared),i+todo=n->St i s->s.heap.DictOf kd d (merged [] (vs.take i))->(∀b o,b∉d::wr->h0.get? b=some o->s.heap.get? b=some o)->
   (∀s',Moved (d::wr) G s s'->s'.heap.DictOf kd d (merged [] vs)->R (.ok (.ret .none)) s')->codeAny (model prog w) A (.builtin "dict.update.loop" ⟨[.ref d,.ref I,rawInt i,.none],[]⟩) R s
 | 0,i,s,ei,st,sx,kp,fin=>by
  have e:vs.take i=vs:=d9 (by omega)
  rw[e] at sx
  have ei':i=n:=by omega
  subst ei'
  refine codeAny_builtin z5a ?_
  rw[cH z20 _]
  refine wpAny_bind (W.done s _ _ st fun s' mv=>wpAny_bind (wpAny_pure (wpAny_pure (fin s' (mv.mono fun b hb=>.tail _ hb) (sx.at fun o=>mv.heap d o fun q=>out (W.sub _ q))))))
 | todo+1,i,s,ei,st,sx,kp,fin=>by
  refine codeAny_builtin z5a ?_
  rw[cH z20 _]
  refine wpAny_bind (W.item i s _ _ (by omega) st fun v s1 hv st1 mv=>?_)
  obtain⟨⟨key,y⟩,ek,a,o,T,k,c,rfl,ho,hc,hT,hd,ik,na⟩:=vals i v hv
  have sx1:=sx.at (h':=s1.heap) fun o=>mv.heap d o fun q=>out (W.sub _ q)
  have ho1:s1.heap.get? a=some o:=mv.heap a o (fun q=>na (.tail _ q)) (kp a o na ho)
  have ty:s1.TypeIs (.ref a) T:=⟨o,ho1,hc⟩
  refine wpAny_bind (wpAny_holding (m:=(Builtin.Dict.pairItems (.ref a)).tryCatch _ >>= _) (wpAny_bind (wpAny_tryCatch ?_)))
  unfold Builtin.Dict.pairItems
  refine wpAny_bind (wpAny_typeOf ty ?_)
  rw[if_pos (by rcases hT with rfl|rfl<;>decide)]
  refine wpAny_bind (wpAny_seqItems ho1 hd (wpAny_pure ?_))
  show wpAny _ _ (holding [k,y] (dictSet d k y)) _ _ _
  have lm:=merged_length_le [] (vs.take i)
  rw[bO,List.length_nil] at lm
  refine wpAny_holding (wpAny_dictSet_pairs (hsz:=by rw[sizeLine_eq];omega) ik sx1 fun h2 sx2 sb=>?_)
  rw[<- merged_take_succ [] vs i (key,y) ek] at sx2
  have far:∀b,b≠d->h2.get? b=s1.heap.get? b:=fun b hb=>sb.2 b hb
  refine wpAny_pure ⟨plainId_quiet z20 _,z89 W out lk vals few todo (i+1) _ (by omega) (W.frame _ s1 _ _ st1 (fX _) fun b hb o q=>?_) sx2 (fun b o nb q=>?_) fun s3 mv3 sx4=>?_⟩
  ·rw[far b fun z=>out (z ▸ hb)];exact q
  ·rw[far b fun z=>nb (z ▸ .head _)]
   exact mv.heap b o (fun q=>nb (.tail _ q)) (kp b o nb q)
  ·refine fin s3 (.trans W.gtrans ((mv.mono fun b hb=>.tail _ hb).then_heap (fX _) fun b o hb q=>?_) mv3) sx4
   rw[far b fun z=>hb (z ▸ .head _)];exact q
end
section
variable{prog:Program}{w:World}{A:Around}{E:Value->Shared->Prop}{s:Shared}{κ:Type}[DecidableEq κ]{kd:KeyKind prog w κ}
theorem y74{T:String}{p:Addr}{its:Array Value}{c0:Nat}{sl:Array (Option Value)}{vs:List (κ×Value)}{Q:Value->Shared->Prop}(hh:A.handled=none)(hp:s.heap.get? p=some ⟨.type T,none,.seq its c0,sl⟩)(hT:T="list"\/T="tuple")
  (lk:vs.length=its.size) (vals:∀(i:Nat) v,its[i]? = some v->∃kv,vs[i]? = some kv/\y0y kd s.heap v kv []) (few:its.size≤1000) (nd:(vs.map (·.1)).Nodup)
  (fin:∀(h':Heap) (t:Nat),h'.DictOf kd s.heap.objs.size vs->(∀b u,s.heap.get? b=some u->h'.get? b=some u)->Q (.ref s.heap.objs.size) { s with heap:=h',toks:=t }) :
  wpAny (model prog w) A (call (.type "dict") [.ref p]) Q E s:=by
 refine callType_codes (Q₁:=fun obj s₁=>obj=.ref s.heap.objs.size/\s₁={ s with heap:=s.heap.push { cls:=.type "dict",data:=.dict #[] } }) PySem.F.kt_called_dict (PySem.F.kt_typeCall_dict_1 _) F.entry_dict_init (kt_code_dict_new _ ⟨rfl,rfl⟩) ?_
 rintro obj s₁ ⟨rfl,rfl⟩
 have w0I:(s.heap.push { cls:=.type "dict",data:=.dict #[] }).DictOf kd s.heap.objs.size []:=Heap.DictOf.new s.heap
 have hp1:(s.heap.push { cls:=.type "dict",data:=.dict #[] }).get? p=some ⟨.type T,none,.seq its c0,sl⟩:=bA _ hp
 have hpl:p<s.heap.objs.size:=bL hp
 refine⟨w0I.typeIs,F.args_dict_init_2 _ _,?_⟩
 unfold Builtin.«dict.__init__»
 refine wpAny_bind ?_
 unfold Builtin.Dict.selfAndRest
 refine wpAny_bind (wpAny_notOrdered_dict w0I.typeIs ?_)
 show wpAny _ _ (pure (s.heap.objs.size,[Value.ref p])) _ _ _
 refine wpAny_pure ?_
 show wpAny _ _ (Builtin.Dict.updateFrom "dict.__init__" s.heap.objs.size (.ref p) [] .none) _ _ _
 unfold Builtin.Dict.updateFrom
 refine wpAny_bind (wpAny_typeOf (T:=T) ⟨_,hp1,rfl⟩ ?_)
 rw[if_pos (by rcases hT with rfl|rfl<;>decide)]
 have main:∀(h1:Heap) (tk:Nat),(∀b o,(s.heap.push { cls:=.type "dict",data:=.dict #[] }).get? b=some o->h1.get? b=some o)->
   wpAny (model prog w) A.in1.in1 (do
    rule (toString "dict.__init__"++toString ".from-pairs")
    return <- again (.builtin "dict.update.loop" ⟨[.ref s.heap.objs.size,<- pyIter (.ref p),rawInt 0,.none],[]⟩))
    (fun fin s'=>match fin with|.done f=>wants (fun r s₂=>r=.none/\Q (.ref s.heap.objs.size) s₂) E (.ok f) s'|.again c'=>c'.quiet=true/\codeAny (model prog w) A.in1 c' (wants (fun r s₂=>r=.none/\Q (.ref s.heap.objs.size) s₂) E) s')
    (fun e s'=>wants (fun r s₂=>r=.none/\Q (.ref s.heap.objs.size) s₂) E (.error e) s') { s with heap:=h1,toks:=tk }:=by
  intro h1 tk k1
  have hd1:=w0I.keep k1
  have dlt:s.heap.objs.size<h1.objs.size:=by
   obtain⟨_,_,_,e,_⟩:=hd1
   exact bL e
  have hp2:=k1 _ _ hp1
  have apart:p≠h1.objs.size:=cC (bL hp2)
  have out:s.heap.objs.size∉[h1.objs.size,p]:=by rw[bD,bB];exact fun z=>z.elim (cC dlt) (g0 hpl)
  have hh2:A.in1.in1.handled=none:=by simp[hh]
  have nin:∀{b:Addr}{o:Obj},s.heap.get? b=some o->b∉[s.heap.objs.size,h1.objs.size]:=fun e m=>by
   have hb:=bL e
   rcases bD.mp m with z|z
   ·exact absurd hb (by rw[z];exact cY _)
   ·rw[bB] at z
    exact absurd (Nat.lt_trans hb dlt) (by rw[z];exact cY _)
  have w0e:∀(i:Nat) v,its[i]? = some v->∃kv,vs[i]? = some kv/\y0y kd s.heap v kv [s.heap.objs.size,h1.objs.size]:=fun i v hv=>by
   obtain⟨kv,e,a,o,T,k,c,e1,e2,e3,e4,e5,e6,_⟩:=vals i v hv
   exact⟨kv,e,a,o,T,k,c,e1,e2,e3,e4,e5,e6,nin e2⟩
  have ends:∀(x:Obj) (s':Shared),Moved [s.heap.objs.size,h1.objs.size] (fun a b=>b=a) { s with heap:=h1.push x,toks:=tk } s'->s'.heap.DictOf kd s.heap.objs.size (merged [] vs)->Q (.ref s.heap.objs.size) s':=fun x s' mv sx=>by
   obtain⟨h',g',d',t',o'⟩:=s'
   obtain rfl:g'=s.gens:=mv.gens
   obtain rfl:d'=s.drawn:=mv.drawn
   obtain rfl:o'=s.os:=mv.os
   rw[merged_nil_of_nodup vs nd] at sx
   exact fin h' t' sx fun b u q=>mv.heap b u (nin q) (bA _ (k1 _ _ (bA _ q)))
  refine wpAny_bind (wpAny_rule ?_)
  rcases hT with rfl|rfl
  ·have hl:h1.IsList p its:=⟨_,hp2,rfl,c0,rfl⟩
   refine wpAny_bind (wpAny_pyIter_list hl (wpAny_pure ⟨plainId_quiet z20 _,?_⟩))
   exact z89 (kd:=kd) ((Walks.list hh2 _ p apart its).toS) out (h0:=s.heap) lk w0e few its.size 0 _ (jE _) ⟨⟨_,bJ _ rfl,rfl,rfl⟩,hl.push _⟩ (by rw[cV];exact hd1.push _) (fun b o _ q=>bA _ (k1 _ _ (bA _ q))) fun s' mv sx=>⟨rfl,ends _ s' mv sx⟩
  ·have hl:h1.IsTuple p its:=⟨_,hp2,rfl,c0,rfl⟩
   refine wpAny_bind (wpAny_pyIter_tuple hl (wpAny_pure ⟨plainId_quiet z20 _,?_⟩))
   exact z89 (kd:=kd) ((Walks.tuple hh2 _ p apart its).toS) out (h0:=s.heap) lk w0e few its.size 0 _ (jE _) ⟨⟨_,bJ _ rfl,rfl,rfl⟩,hl.push _⟩ (by rw[cV];exact hd1.push _) (fun b o _ q=>bA _ (k1 _ _ (bA _ q))) fun s' mv sx=>⟨rfl,ends _ s' mv sx⟩
 have hh2:A.in1.in1.handled=none:=by simp[hh]
 rcases hT with rfl|rfl
 ·refine wpAny_bind (z8E hh2 hp1 fun h1 tk k1=>?_)
  exact main h1 tk k1
 ·refine wpAny_bind (z7R hh2 hp1 fun h1 tk k1=>?_)
  exact main h1 tk k1
end
section
variable{X:Cx}
noncomputable def y4X(K:PySem.W.Frag)(H:Hp)(u:V)(kv:Key×V):Prop:=∃a,u=.ref a/\(SqL K H a [kV kv.1,kv.2]\/SqT K H a [kV kv.1,kv.2])
noncomputable def SqP(K:PySem.W.Frag)(H:Hp)(p:Addr)(ys:List V):Prop:=SqL K H p ys\/H p=some (.tup ys)
noncomputable def y7h(K:PySem.W.Frag):List V->Hp->VK->Prop:=fun xs H Q=>∃p ys kvs,xs=[.ref p]/\SqP K H p ys/\Paired (y4X K H) ys kvs/\ys.length≤1000/\(kvs.map (·.1)).Nodup/\∀l,H l=none->Q (.ref l) (upd H l (.dK kvs))
theorem z98{pins:List (Addr×Obj)}{σ:St}{H:Hp}{s:Shared}(I:Inv X pins σ H s):∀{ys:List V}{kvs:List (Key×V)}{its:List Value},Paired (y4X X.K H) ys kvs->Vals ys its->
  ∃vs,KV kvs vs/\vs.length=its.length/\∀(i:Nat) v,its[i]? = some v->∃kv,vs[i]? = some kv/\y0y (z1E X.prog X.w) s.heap v kv []
 | _,_,_,.nil,.nil=>⟨[],.nil,rfl,fun i v h=>by simp at h⟩
 | _::ys,kv::kvs,_::its,.cons ⟨a,e,hq⟩ t,.cons r rr=>by
  obtain⟨vs,k1,l1,p1⟩:=z98 I t rr
  subst e
  cases r
  have go:∀(T:String) (o:Obj) (us:List Value) (c:Nat),s.heap.get? a=some o->o.cls=.type T->(T="list"\/T="tuple")->o.data=.seq us.toArray c->Vals [kV kv.1,kv.2] us->
    ∃vs',KV (kv::kvs) vs'/\vs'.length=(Value.ref a::its).length/\∀(i:Nat) v,(Value.ref a::its)[i]? = some v->∃kv,vs'[i]? = some kv/\y0y (z1E X.prog X.w) s.heap v kv []:=fun T o us c h1 h2 h3 h4 h5=>by
   obtain⟨u1,u2,rfl,r1,r2⟩:=y2X h5
   refine⟨(kv.1,u2)::vs,.cons ⟨rfl,r2⟩ k1,by rw[c9,c9,l1],fun i v hv=>?_⟩
   cases i with
   | zero=>
    simp at hv
    subst hv
    exact⟨_,rfl,a,o,T,u1,c,rfl,h1,h2,h3,by simpa using h4,y38 r1,by simp⟩
   | succ i=>exact p1 i v (by simpa using hv)
  rcases hq with hq|hq
  ·obtain⟨us,rv,pl,_⟩:=I.list hq
   obtain⟨o,ho,hcl,n,hda⟩:=pl.isList
   exact go "list" o us n ho hcl (.inl rfl) hda rv
  ·obtain⟨us,rv,pl,_⟩:=I.tuple hq
   obtain⟨o,ho,hcl,n,hda⟩:=pl
   exact go "tuple" o us n ho hcl (.inr rfl) hda rv
theorem z3j{K:PySem.W.Frag}(hK:X.K=K)(hc:X.calm=true):z3L X (.type "dict") (y7h K):=by
 subst hK
 intro pins s σ H xs us Q I r h
 obtain⟨p,ys,kvs,rfl,hq,pr,hl,nd,q⟩:=h
 obtain⟨u,rfl,rx⟩:=z51 r
 cases rx
 have go:∀(T:String) (its:List Value) (c0:Nat) (sl:Array (Option Value)),s.heap.get? p=some ⟨.type T,none,.seq its.toArray c0,sl⟩->(T="list"\/T="tuple")->Vals ys its->wpAny (model X.prog X.w) X.A (call (.type "dict") [.ref p]) (EP X pins σ Q) X.xe s:=
  fun T its c0 sl ho hT rv=>by
   obtain⟨vs,k1,l1,p1⟩:=z98 I pr rv
   have ln:ys.length=its.length:=rv.length
   refine y74 (kd:=z1E X.prog X.w) (vs:=vs) (I.ok.hd hc) ho hT (by simpa using l1) (fun i v hv=>p1 i v (by simpa using hv)) (by simp;omega) (by rw[<- k1.keys];exact nd) fun h' t dd kp=>?_
   have big:=I.big
   refine⟨.ref s.heap.objs.size,_,I.laid (a:=s.heap.objs.size) (o:=.dK kvs) (h':=h') (t':=t) kp (bE _) (y6m ?_ ?_ k1 dd),rfl,q _ (I.hok.fresh (bE _))⟩
   ·have:=k1.length
    rw[sizeLine_eq]
    omega
   ·exact beq_false_of_ne (g0 big)
 rcases hq with hq|hq
 ·obtain⟨its,rv,pl,_⟩:=I.list hq
  obtain⟨o,n,ho,hcl,hdi,hda⟩:=pl
  obtain⟨oc,od,oa,os⟩:=o
  simp only at hcl hdi hda
  subst hcl hdi hda
  exact go "list" its n os ho (.inl rfl) rv
 ·obtain⟨_,its,rv,o,ho,hcl,⟨n,hda⟩,hdi⟩:=(show z1t X.prog X.w H s.heap p (.tup ys) from I.hok p _ hq)
  obtain⟨oc,od,oa,os⟩:=o
  simp only at hcl hdi hda
  subst hcl hdi hda
  exact go "tuple" its n os ho (.inr rfl) rv
end
noncomputable def SqS(K:PySem.W.Frag)(t:Bool)(H:Hp)(a:Addr)(xs:List V):Prop:=if t then SqL K H a xs else SqT K H a xs
theorem SqS.of{K:PySem.W.Frag}{H:Hp}{a:Addr}{xs:List V}(h:SqL K H a xs\/SqT K H a xs):∃t,SqS K t H a xs:=h.elim (fun q=>⟨true,q⟩) fun q=>⟨false,q⟩
theorem SqS.keep{K:PySem.W.Frag}{t:Bool}{H H':Hp}{a:Addr}{xs:List V}(s:A4 H H')(h:SqS K t H a xs):SqS K t H' a xs:=by
 cases t
 ·rcases(show SqT K H a xs from h) with (h|⟨o,h⟩)|h
  ·exact .inl (.inl (s _ _ h))
  ·exact .inl (.inr ⟨o,s _ _ h⟩)
  ·exact .inr h
 ·exact s.seq (show SqL K H a xs from h)
noncomputable def Its(K:PySem.W.Frag)(t:Bool)(a:Addr):It:=if t then Itl K a else Itt K a
section
variable{X:Cx}{tg:Expr}
noncomputable def iSeq(K:PySem.W.Frag)(tl:TE):TI:=fun σ H R=>tl σ H fun x H1=>∃a t,x=.ref a/\(∃xs,SqS K t H1 a xs)/\R (Its K t a) H1
theorem y0D{l:Expr}{tl:TE}(hl:PE X l tl):PI X tg l (iSeq X.K tl):=by
 intro pins s σ H R I h
 refine thn (hl pins s σ H _ I h) fun v s1 ⟨x,H1,I1,r1,q1⟩=>?_
 obtain⟨a,t,e,⟨xs,hq⟩,q⟩:=q1
 subst e
 cases r1
 cases t
 ·obtain⟨its,rv,p,hz⟩:=I1.tuple hq
  refine wpAny_pyIter_tuple (show s1.heap.IsTuple a its.toArray from p) ?_
  refine⟨s1.heap.objs.size,[s1.heap.objs.size],_,_,H1,rfl,I1.kept (t':=s1.toks) fun b o e=>bA _ e,z9d a _,⟨_,bJ _ rfl,rfl,rfl⟩,fun b hb=>?_,q⟩
  have e:b=s1.heap.objs.size:=by simpa using hb
  subst e
  exact I1.T6 (bE _) (I1.hok.fresh (bE _))
 ·obtain⟨its,rv,p,hz⟩:=I1.list hq
  refine wpAny_pyIter_list p.isList ?_
  refine⟨s1.heap.objs.size,[s1.heap.objs.size],_,_,H1,rfl,I1.kept (t':=s1.toks) fun b o e=>bA _ e,y0L a _,⟨_,bJ _ rfl,rfl,rfl⟩,fun b hb=>?_,q⟩
  have e:b=s1.heap.objs.size:=by simpa using hb
  subst e
  exact I1.T6 (bE _) (I1.hok.fresh (bE _))
end
theorem z9Z{K:PySem.W.Frag}{t:Bool}{a:Addr}{xs:List V}{g:TG}{tc:TT}{te:TE}{σ0:St}{H1:Hp}{F:List V->Hp->Prop}(Pv:Nat->List V->Hp->Prop)(h0:Pv 0 [] H1)
  (hl:∀i ys H,i≤xs.length->Pv i ys H->SqS K t H a xs/\ys.length<sizeLine)
  (hs:∀i x ys H,xs[i]? = some x->Pv i ys H->z1B g tc te σ0 x H ys (Pv (i+1))) (hd:∀ys H,Pv xs.length ys H->F ys H):y0o (Its K t a) g tc te σ0 H1 F:=by
 cases t
 ·exact z2r Pv h0 hl hs hd
 ·exact z38 Pv h0 hl hs hd
theorem y4b{K:PySem.W.Frag}{t:Bool}{a:Addr}{xs:List V}{g:TG}{tb:TS}{D:Ends}{σ:St}{H:Hp}(Pv:Nat->St->Hp->Prop)(h0:Pv 0 σ H)(hl:∀i σ H,i≤xs.length->Pv i σ H->SqS K t H a xs)
  (hs:∀i x σ H,xs[i]? = some x->Pv i σ H->g x σ H fun σ2 H2=>tb { D with nx:=Pv (i+1),ct:=Pv (i+1),bk:=D.nx } σ2 H2) (hd:∀σ H,Pv xs.length σ H->D.nx σ H) :
  ∃W:Nat->Nat->St->Hp->Prop,(∃m,W 0 m σ H)/\∀i m σ H,W i m σ H->
   ((Its K t a).stop i H/\D.nx σ H)\/((Its K t a).go i H/\∃N:St->Hp->Prop,(∀σ' H',N σ' H'->∃m',m'<m/\W (i+1) m' σ' H')/\∀x H',(Its K t a).yld i H x H'->g x σ H' fun σ2 H2=>tb { D with nx:=N,ct:=N,bk:=D.nx } σ2 H2):=by
 cases t
 ·exact z7T Pv h0 hl hs hd
 ·exact z2a Pv h0 hl hs hd
section
variable{prog:Program}{w:World}{A:Around}{E:Value->Shared->Prop}
theorem y0J{it t:Addr}{items:Array Value}(hne:t≠it):∀(n i:Nat) (s:Shared) (Q:List Value->Shared->Prop),s.heap.IsListIter it t i->s.heap.IsList t items->i+n≤items.size->
  (∀h',h'.IsListIter it t (i+n)->Heap.SameBut it s.heap h'->Q ((items.toList.drop i).take n) { s with heap:=h' })->wpAny (model prog w) A (draw (.ref it) n) Q E s
 | 0,i,s,Q,hit,_,_,hQ=>by
  show wpAny _ _ (pure []) Q E s
  exact wpAny_pure (by simpa using hQ s.heap hit (Heap.SameBut.refl ..))
 | n+1,i,s,Q,hit,ht,hle,hQ=>by
  have hlt:i<items.size:=by omega
  show wpAny _ _ (pyNext (.ref it) >>= _) Q E s
  refine wpAny_bind (wpAny_pyNext_list_item hit ht (x:=items[i]) (by simp[hlt]) fun h₁ hit₁ hs₁=>?_)
  refine wpAny_bind (wpAny_holding (y0J hne n (i+1) _ _ hit₁ (ht.at fun o e=>(hs₁.2 t hne).trans e) (by omega) fun h₂ hit₂ hs₂=>wpAny_pure ?_))
  have hd:items.toList.drop i=items[i]::items.toList.drop (i+1):=by simp[List.drop_eq_getElem_cons,hlt]
  have:=hQ h₂ (by rw[show i+(n+1)=i+1+n by omega];exact hit₂) (hs₁.trans hs₂)
  rw[hd,List.take_succ_cons] at this
  exact this
theorem y1B{s:Shared}{t:Addr}{items:Array Value}{Q:List Value->Shared->Prop}(hh:A.handled=none)(ht:s.heap.IsList t items)
  (hQ:∀h',Heap.ExtBut s.heap.objs.size s.heap h'->Q items.toList { s with heap:=h' }):wpAny (model prog w) A (unpackItems (.ref t) items.size none) Q E s:=by
 have hlt:t≠s.heap.objs.size:=by obtain⟨o,ho,_⟩:=ht;exact cC (bL ho)
 unfold unpackItems
 refine wpAny_bind ?_
 unfold notIterableAtAll
 refine wpAny_bind (wpAny_specialOf ht.typeIs PySem.F.slot_list_iter.lookup ?_)
 refine wpAny_pure ?_
 simp only[dW,if_false]
 refine wpAny_bind (wpAny_holding (wpAny_pyIter_list ht ?_))
 refine wpAny_bind (wpAny_holding (y0J hlt items.size 0 _ _ ⟨_,bJ _ rfl,rfl,rfl⟩ (ht.push _) (by omega) fun h₁ hit₁ hs₁=>?_))
 have C7:List.take items.size (List.drop 0 items.toList)=items.toList:=by
  rw[fN];exact d9 (by simp)
 rw[C7]
 rw[if_neg (by simp)]
 have ht₁:h₁.IsList t items:=(ht.push _).at fun o e=>(hs₁.2 t hlt).trans e
 refine wpAny_bind (wpAny_holding (wpAny_pyNext_list_end hh hit₁ ht₁ (by simp) fun h₂ he₂=>?_))
 simp only[Option.isSome_none,dW,if_false]
 exact wpAny_pure (hQ h₂ fun b o hb e=>he₂ b o hb (hs₁.extBut b o hb (bA _ e)))
theorem z6z{s:Shared}{env:Env}{elts:List Expr}{x1}{pos:Pos}{t:Addr}{items:Array Value}{Q:Unit->Shared->Prop}(hh:A.handled=none)(ht:s.heap.IsList t items)
  (hn:(assignEach elts env).length=items.size) (w1D:(assignEach elts env).findIdx? (·.1)=none)
  (h:∀h',Heap.ExtBut s.heap.objs.size s.heap h'->wpAny (model prog w) A (assignInOrder ((assignEach elts env).map (·.2)) items.toList) Q E { s with heap:=h' }) :
  wpAny (model prog w) A (assign (.Tuple elts x1 pos) env (.ref t)) Q E s:=by
 rw[assign_Tuple]
 refine wpAny_bind (wpAny_standAt ?_)
 unfold unpack
 rw[hn,w1D]
 exact wpAny_bind (wpAny_holding (y1B hh ht h))
end
noncomputable def w0q(K:PySem.W.Frag)(n:Nat)(t:TGs):TG:=fun v σ H Q=>∃a xs,v=.ref a/\(SqL K H a xs\/SqT K H a xs)/\xs.length=n/\t xs σ H Q
theorem z9y{X:Cx}{K:PySem.W.Frag}{es:List Expr}{k:Nat}{t:TGs}{n:Nat}{pos:Pos}(hK:X.K=K)(hc:X.calm=true)(h:PGs X es t)
  (hn:(assignEach es X.env).length=n:=by rfl) (hst:(assignEach es X.env).findIdx? (·.1)=none:=by rfl):PG X (.Tuple es k pos) (w0q K n t):=by
 subst hK
 intro pins s σ H v u Q I r hw
 obtain⟨a,xs,e1,hq,hl,hw⟩:=hw
 subst e1
 cases r
 rcases hq with hq|hq
 ·obtain⟨its,rv,ht,hz⟩:=I.list hq
  refine z6z (I.ok.hd hc) ht.isList (by simp[hn,<- hl,rv.length]) hst fun h' hx=>?_
  have I1:Inv X pins σ H { s with heap:=h' }:=I.kept (t':=s.toks) fun b o e=>hx b o (cC (bL e)) e
  exact h pins _ σ H xs _ Q I1 (by simpa using rv) hw
 ·obtain⟨its,rv,ht,hz⟩:=I.tuple hq
  refine assign_Tuple_tuple (I.ok.hd hc) ht (by simp[hn,<- hl,rv.length]) hst fun h' hx=>?_
  have I1:Inv X pins σ H { s with heap:=h' }:=I.kept (t':=s.toks) fun b o e=>hx b o (cC (bL e)) e
  exact h pins _ σ H xs _ Q I1 (by simpa using rv) hw
theorem y2j{K:PySem.W.Frag}{n:Nat}{t:TGs}(a:z8X t):z8I (w0q K n t):=fun v σ H Q Q' f q=>by
 obtain⟨p,xs,e,h1,h2,q⟩:=q
 exact⟨p,xs,e,h1,h2,a _ _ _ _ _ f q⟩
theorem y4J{K:PySem.W.Frag}{n k:Nat}{t:TGs}(a:y4T n t):U6 n (w0q K k t):=fun v σ H Q q=>by
 obtain⟨p,xs,e,h1,h2,q⟩:=q
 exact⟨p,xs,e,h1,h2,a _ _ _ _ q⟩
theorem z5P{X:Cx}{K:PySem.W.Frag}(hK:X.K=K):OpR X (binaryOp .Add) (y82 K):=by
 subst hK
 exact y6X
section
variable{X:Cx}
noncomputable def w0O(i j:Int):Prop:=0<j/\j<18446744073709551616
theorem y55:OpR X (binaryOp .FloorDiv) (rI w0O fun i j=>.int (i / j)):=opI fun i j _ _ _ _ _ hc q=>by
 have h1:(0:Int)<j:=hc.1
 have h2:j<18446744073709551616:=hc.2
 have h3:j.natAbs.log2<64:=(Nat.log2_lt (by omega)).mpr (by omega)
 exact floordiv_int (by omega) (by rw[Int.fdiv_eq_ediv_of_nonneg i (by omega)];exact q) (.inl (PyProof.noPylong_of_log2 (by omega)))
end
structure FunD(K:PySem.W.Frag)(x qual:Str)(st:Stmt)(f:Addr)(fd:FuncData)(T:Addr)(items:Array Value):Prop where
 ex:∃(oc:Value) (od:Option Addr) (kV doc pm:Value) (an:Option Addr) (cdv ct:Value) (osl:Array (Option Value)),
  fd=PySem.W.fnOf x qual (z1C st) (z1c st) (z07 st) (.ref T) kV doc pm an cdv ct/\K.lookup f=some ⟨oc,od,.func fd,osl⟩/\PySem.W.codeIn K cdv qual=true
 kp:PySem.W.keepIn K (.ref f)=true
 dt:∃(o:Obj) (n:Nat),K.lookup T=some o/\o.data=.seq items n
section
variable{P:Program}{w:World}{K:PySem.W.Frag}{mg:Str->Option Value}{base:Heap}
theorem FunD.ok{x qual:Str}{st:Stmt}{f T:Addr}{items:Array Value}{fd:FuncData}{N ps:List Str}{k:Nat}{sp:Sp}(F:FunD K x qual st f fd T items)(S:A3 N ps (z07 st))(len:∀vs H Q E,sp vs H Q E->vs.length=ps.length)
  (R1:∀(cdv:Value) (A:Around) (outer:List Env) (s:Shared) (H:Hp) (vs:List V) (Q:VK) (E:XK),E5 k (A.deeper (envOfC qual (z07 st) s.heap.objs.size f cdv))->sp vs H Q E->
   ∃t,PSs (B8 CX0 P w K mg base N qual (z07 st) f cdv A outer s H E).nox (z1c st) t/\t { nx:=fun _ H'=>Q .non H',rt:=Q } (z5h N vs) H):A8 P w K mg base CX0 (k+1) f fd ps sp:=by
 obtain⟨oc,od,kV,doc,pm,an,cdv,ct,osl,rfl,lk,hcd⟩:=F.ex
 refine y58 lk hcd S len fun A outer s H vs Q E hr hsp=>?_
 obtain⟨t,h,q⟩:=R1 cdv A outer s H vs Q E hr hsp
 exact⟨t,h.nox,q⟩
theorem FunD.binds{x qual:Str}{st:Stmt}{f T:Addr}{items:Array Value}{fd:FuncData}{ps:List Str}{ds:List Value}(F:FunD K x qual st f fd T items)
  (h:∀(kV doc pm:Value) (an:Option Addr) (cdv ct:Value) (us:List Value),us.length+ds.length=ps.length->∃k,bindArgs (PySem.W.fnOf x qual (z1C st) (z1c st) (z07 st) (.ref T) kV doc pm an cdv ct) ⟨us,[]⟩=seqItems? (.ref T) >>= k/\k (some items)=pure (ps.zip (us++ds))):z1D K fd ps ds:=by
 obtain⟨oc,od,kV,doc,pm,an,cdv,ct,osl,rfl,lk,hcd⟩:=F.ex
 obtain⟨o,n,lt,hs⟩:=F.dt
 intro s us KX hl
 rw[bN] at hl
 obtain⟨k,h1,h2⟩:=h kV doc pm an cdv ct us hl
 exact .of_defaults rfl (KX _ _ lt) hs h1 h2
theorem y7u{x qual:Str}{st:Stmt}{f T:Addr}{oc oct:Value}{od odt an:Option Addr}{osl oslt:Array (Option Value)}{items:Array Value}{n:Nat}{kV doc pm cdv ct:Value}(l:K.lookup f=some ⟨oc,od,.func (PySem.W.fnOf x qual (z1C st) (z1c st) (z07 st) (.ref T) kV doc pm an cdv ct),osl⟩)
  (lt:K.lookup T=some ⟨oct,odt,.seq items n,oslt⟩) (c:PySem.W.codeIn K cdv qual=true) (k:PySem.W.keepIn K (.ref f)=true):FunD K x qual st f (PySem.W.fnOf x qual (z1C st) (z1c st) (z07 st) (.ref T) kV doc pm an cdv ct) T items:=⟨⟨oc,od,kV,doc,pm,an,cdv,ct,osl,rfl,l,c⟩,k,_,n,lt,rfl⟩
end
structure Z6(P:Program)(w:World)(K:PySem.W.Frag)(mg:Str->Option Value)(base:Heap)(k:Nat)(C:Addr)(m:Str)(ps:List Str)(sp:Sp)(dvs:List V):Prop where
 cl:Cls K C
 ex:∃(f:Addr) (fd:FuncData) (ds:List Value),A8 P w K mg base CX0 k f fd ps sp/\z1D K fd ps ds/\Vals dvs ds/\Meth K C m f
theorem Z6.mk'{P:Program}{w:World}{K:PySem.W.Frag}{mg:Str->Option Value}{base:Heap}{k:Nat}{C:Addr}{m:Str}{ps:List Str}{sp:Sp}{dvs:List V}{ds:List Value}{f:Addr}{fd:FuncData}(v:Vals dvs ds)(c:Cls K C)(a:A8 P w K mg base CX0 k f fd ps sp)(b:z1D K fd ps ds)(d:Meth K C m f) :
  Z6 P w K mg base k C m ps sp dvs:=⟨c,f,fd,ds,a,b,v,d⟩
end L2
namespace HT
open PySem PySem.Spec PyProof.Rows L2
section
variable{prog:Program}{w:World}{A:Around}{E:Value->Shared->Prop}{s:Shared}
theorem z6K{t sl:Addr}{items:Array Value}{vl vu:Value}{lo hi:Option Int}{Q:Value->Shared->Prop}(ht:IsTup s.heap t items)(hs:s.heap.IsSliceOf sl vl vu .none)(pl:IsPart vl lo)(pu:IsPart vu hi)
  (hw:sIx items.size 0 lo=0/\sIx items.size items.size hi=items.size) (h:Q (.ref t) s):wpAny (model prog w) A (getItem (.ref t) (.ref sl)) Q E s:=by
 obtain⟨os,hos,hcs,hds⟩:=id hs
 have hTs:s.TypeIs (.ref sl) "slice":=⟨os,hos,hcs⟩
 unfold getItem
 try with_reducible refine wpAny_holding ?_
 first|refine wpAny_bind (wpAny_pure ?_)|skip
 refine wpAny_bind (wpAny_sequenceKey ht.typeIs (by decide) ?_)
 refine wpAny_bind (wpAny_callSpecial?_slot (name:=Str.ofString "__getitem__") ht.typeIs cZ
  (wpAny_call_entry cZ ht.typeIs entry_tuple_getitem ?_ (args_tuple_getitem _ _)))
 show wpAny _ _ (Builtin.Tuple.tupleItemsOf (.ref t) >>= _) _ _ s
 refine wpAny_bind (tupleItemsOf_ ht ?_)
 refine wpAny_bind (wpAny_typeOf hTs ?_)
 rw[if_pos (by decide)]
 refine wpAny_bind (z4h hs pl pu ?_)
 have hyes:(((sIx items.size 0 lo:Nat):Int) == 0 && (1:Int) == 1 && (sIx items.size items.size hi-sIx items.size 0 lo) == items.size)=true:=by
  rw[hw.1,hw.2]
  simp
 show wpAny _ _ (if (((sIx items.size 0 lo:Nat):Int) == 0 && (1:Int) == 1 && (sIx items.size items.size hi-sIx items.size 0 lo) == items.size)=true then _ else _) _ _ s
 rw[if_pos hyes]
 refine wpAny_bind (m:=Builtin.Tuple.tupleIsExact _) (wpAny_bind (wpAny_typeOf ht.typeIs (wpAny_pure ?_)))
 rw[if_pos (by decide)]
 refine wpAny_bind (wpAny_rule ?_)
 exact wpAny_pure ⟨_,rfl,wpAny_pure h⟩
end
end HT
namespace L2
open PySem PySem.Spec PyProof.Rows
noncomputable def z3q:List V->List V->Bool
 | [],[]=>true
 | x::xs,y::ys=>eqV x y && z3q xs ys
 | _,_=>false
theorem z9F:∀xs ys:List V,((List.range (min xs.length ys.length)).all (fun j=>eqV (xs.getD j .non) (ys.getD j .non)) && xs.length == ys.length)=z3q xs ys
 | [],[]=>rfl
 | [],_::_=>rfl
 | _::_,[]=>rfl
 | x::xs,y::ys=>by
  have ih:=z9F xs ys
  unfold z3q
  rw[<- ih,c9,c9,Nat.succ_min_succ,List.range_succ_eq_map,fA,jF,Bool.and_assoc]
  congr 1
  congr 1
  rw[dC]
  simp
theorem z9n:∀{x:V},z22 x=true->eqV x x=true:=fun {x} h=>by
 cases x with
 | non=>rfl
 | bl b=>exact beq_self_eq_true b
 | int i=>exact beq_self_eq_true i
 | str z=>exact beq_self_eq_true z
 | _=>exact absurd (show false=true from h) bM
theorem z97:∀{xs:List V},xs.all z22=true->z3q xs xs=true
 | [],_=>rfl
 | x::xs,h=>by
  rw[fA,bW] at h
  unfold z3q
  rw[z9n h.1,z97 h.2]
  rfl
theorem z6P:∀{xs:List V}{us:List Value},Vals xs us->xs.all z22=true->∀(j:Nat) (h:j<us.length),RelV (xs.getD j .non) us[j]/\z22 (xs.getD j .non)=true
 | _,_,.nil,_,j,h=>absurd h (Nat.not_lt_zero _)
 | x::xs,u::us,.cons r t,f,0,h=>by
  rw[fA,bW] at f
  exact⟨r,f.1⟩
 | x::xs,u::us,.cons r t,f,j+1,h=>by
  rw[fA,bW] at f
  exact z6P t f.2 j (Nat.lt_of_succ_lt_succ h)
noncomputable def eqI:List Value->List V->Bool
 | [],[]=>true
 | u::us,x::xs=>eqU x u && eqI us xs
 | _,_=>false
theorem y3v:∀{ys:List V}{us:List Value} (xs:List V),Vals ys us->ys.all z22=true->eqI us xs=z3q ys xs
 | _,_,[],.nil,_=>rfl
 | _,_,_::_,.nil,_=>rfl
 | y::ys,u::us,[],.cons r t,f=>rfl
 | y::ys,u::us,x::xs,.cons r t,f=>by
  rw[fA,bW] at f
  unfold eqI z3q
  rw[y1Y r f.1,y3v xs t f.2]
section
variable{X:Cx}
theorem y3K{A:Around}{s:Shared}{a b:Addr}{its N6:List Value}{xs ys:List V}(pl:s.heap.IsTuple a its.toArray)(pl2:s.heap.IsTuple b N6.toArray)(r:Vals xs its)(r2:Vals ys N6)(f:xs.all z22=true)(f2:ys.all z22=true)(hu:A.units<cLine) :
  SeqAt.RcAt A s (.ref a) (.ref b) (z3q xs ys):=by
 have h:=SeqAt.RcAt.tuples (e:=fun j=>eqV (xs.getD j .non) (ys.getD j .non)) pl pl2 hu fun j h1 h2=>by
  rw[bF] at h1 h2
  obtain⟨q1,q2⟩:=z6P r f j h1
  obtain⟨q3,q4⟩:=z6P r2 f2 j h2
  exact y4D q1 q3 q2 q4
 rw[bF,bF,<- r.length,<- r2.length,z9F] at h
 exact h
noncomputable def rEqT(K:PySem.W.Frag):R2:=fun x y H Q=>∃a b xs ys,x=.ref a/\y=.ref b/\SqT K H a xs/\SqT K H b ys/\xs.all z22=true/\ys.all z22=true/\Q (.bl (z3q xs ys)) H
theorem y6z(hu:X.A.units<cLine):OpR X (compareOp .Eq) (rEqT X.K):=by
 intro pins s σ H x y v u Q I rx ry h
 obtain⟨a,b,xs,ys,rfl,rfl,ha,hb,f1,f2,q⟩:=h
 cases rx
 cases ry
 obtain⟨its,r,pl,hz⟩:=I.tuple ha
 obtain⟨N6,r2,pl2,hz2⟩:=I.tuple hb
 exact y3K pl pl2 r r2 f1 f2 hu X.prog X.w X.xe _ ⟨.bl _,H,I,rfl,q⟩
noncomputable def z3Z(s:Shared)(xs:List V):Value->Bool
 | .ref b=>match s.heap.get? b with
  | some o=>match o.data with
   | .seq its _=>eqI its.toList xs
   | _=>false
  | none=>false
 | _=>false
noncomputable def y6R(K:PySem.W.Frag):R2:=fun x y H Q=>∃a p xs us yss,x=.ref a/\y=.ref p/\SqT K H a xs/\xs.all z22=true/\SqL K H p us/\Paired (fun u ys=>∃b,u=.ref b/\SqT K H b ys/\ys.all z22=true) us yss/\Q (.bl (!yss.any fun ys=>z3q ys xs)) H
theorem y0n(hu:X.A.units+1<cLine):OpR X (compareOp .NotIn) (y6R X.K):=by
 intro pins s σ H x y v u Q I rx ry h
 obtain⟨a,p,xs,us,yss,rfl,rfl,ha,f1,hp,pr,q⟩:=h
 cases rx
 cases ry
 obtain⟨its,r,pl,hz⟩:=I.tuple ha
 obtain⟨N6,r2,pl2,hz2⟩:=I.list hp
 have item:∀(b:Addr) (ys:List V),SqT X.K H b ys->ys.all z22=true->z3Z s xs (.ref b)=z3q ys xs/\SeqAt.EqAt X.A.in1 s (.ref b) (.ref a) (z3q ys xs):=fun b ys hb fb=>by
  obtain⟨its3,r3,pl3,hz3⟩:=I.tuple hb
  have e1:z3Z s xs (.ref b)=z3q ys xs:=by
   obtain⟨o,ho,hc,n,hd⟩:=pl3
   unfold z3Z
   simp only[ho,hd]
   exact y3v xs r3 fb
  refine⟨e1,?_⟩
  by_cases hne:b=a
  ·subst hne
   have e2:z3q ys xs=true:=by
    rw[<- e1]
    obtain⟨o,ho,hc,n,hd⟩:=pl
    unfold z3Z
    simp only[ho,hd]
    rw[y3v xs r f1]
    exact z97 f1
   rw[e2]
   exact SeqAt.EqAt.same _
  ·exact SeqAt.EqAt.of_refs hne (y3K pl3 pl r3 r fb f1 hu)
 have all:∀{us:List V}{yss:List (List V)}{vs:List Value},Paired (fun u ys=>∃b,u=.ref b/\SqT X.K H b ys/\ys.all z22=true) us yss->Vals us vs->vs.any (z3Z s xs)=yss.any (fun ys=>z3q ys xs)/\∀v∈vs,SeqAt.EqAt X.A.in1 s v (.ref a) (z3Z s xs v):=by
  intro us yss vs pr
  induction pr generalizing vs with
  | nil=>
   intro r
   cases r
   exact⟨rfl,fun v hv=>(nomatch hv)⟩
  | cons h t ih=>
   intro r
   cases r with
   | cons r1 rt=>
    obtain⟨b,rfl,hb,fb⟩:=h
    cases r1
    obtain⟨i1,i2⟩:=ih rt
    obtain⟨j1,j2⟩:=item b _ hb fb
    refine⟨by rw[fB,fB,i1,j1],fun v hv=>?_⟩
    rcases bD.mp hv with rfl|hv
    ·rw[j1];exact j2
    ·exact i2 v hv
 obtain⟨a1,a2⟩:=all pr r2
 refine SeqAt.notIn_listAt (z3Z s xs) pl2.isList (fun w hw=>a2 w (by simpa using hw)) ⟨.bl _,H,I,rfl,?_⟩
 rw[show N6.toArray.any (z3Z s xs)=N6.any (z3Z s xs) by simp,a1]
 exact q
end
noncomputable def rSlA(K:PySem.W.Frag):V->Option Int->Option Int->Hp->VK->Prop:=fun x lo hi H Q=>∃a xs,x=.ref a/\SqT K H a xs/\((HT.sIx xs.length 0 lo=0/\HT.sIx xs.length xs.length hi=xs.length)->Q (.ref a) H)/\
 (¬(HT.sIx xs.length 0 lo=0/\HT.sIx xs.length xs.length hi=xs.length)->∀p,H p=none->Q (.ref p) (upd H p (.tup (R9 xs lo hi))))
theorem y1y{X:Cx}:SlR X (rSlA X.K):=by
 intro pins s σ H x v vl vu lo hi sl Q I rx hs pl pu h
 obtain⟨a,xs,rfl,hx,q1,q2⟩:=h
 by_cases hw:HT.sIx xs.length 0 lo=0/\HT.sIx xs.length xs.length hi=xs.length
 ·cases rx
  obtain⟨its,r,ht,hz⟩:=I.tuple hx
  have hlen:its.toArray.size=xs.length:=by rw[bF];exact r.length.symm
  exact⟨"tuple",_,cZ.lookup,ht.typeIs,HT.z6K ht hs pl pu (by rw[hlen];exact hw) ⟨.ref a,H,I,rfl,q1 hw⟩⟩
 ·exact y49 pins s σ H (.ref a) v vl vu lo hi sl Q I rx hs pl pu ⟨a,xs,rfl,hx,hw,q2 hw⟩
noncomputable def rNeT(K:PySem.W.Frag):R2:=fun x y H Q=>∃a b xs ys,x=.ref a/\y=.ref b/\SqT K H a xs/\SqT K H b ys/\xs.all z22=true/\ys.all z22=true/\Q (.bl (!z3q xs ys)) H
theorem y7T{X:Cx}(hu:X.A.units<cLine):OpR X (compareOp .NotEq) (rNeT X.K):=by
 intro pins s σ H x y v u Q I rx ry h
 obtain⟨a,b,xs,ys,rfl,rfl,ha,hb,f1,f2,q⟩:=h
 cases rx
 cases ry
 obtain⟨its,r,pl,hz⟩:=I.tuple ha
 obtain⟨N6,r2,pl2,hz2⟩:=I.tuple hb
 have h:=SeqAt.RcNeAt.tuples (A:=X.A) (e:=fun j=>eqV (xs.getD j .non) (ys.getD j .non)) pl pl2 hu fun j h1 h2=>by
  rw[bF] at h1 h2
  obtain⟨q1,q2⟩:=z6P r f1 j h1
  obtain⟨q3,q4⟩:=z6P r2 f2 j h2
  exact y4D q1 q3 q2 q4
 rw[bF,bF,<- r.length,<- r2.length,z9F] at h
 exact h X.prog X.w X.xe _ ⟨.bl _,H,I,rfl,q⟩
section
variable{X:Cx}{tg:Expr}
end
noncomputable def tCut(t u:TS):TS:=fun D σ H=>∃W:St->Hp->Prop,t { D with nx:=W } σ H/\∀σ' H',W σ' H'->u D σ' H'
theorem y4W{X:Cx}{st:Stmt}{rest:List Stmt}{t u:TS}(h1:PS X st t)(h2:PSs X rest u):PSs X (st::rest) (tCut t u):=by
 intro pins s σ H D I h
 obtain⟨W,h,hw⟩:=h
 refine wpAny_execs_cons (thn (h1 pins s σ H { D with nx:=W } I h) fun f s1 q=>?_)
 cases f with
 | next=>
  obtain⟨σ',H',I',q⟩:=q
  exact h2 pins s1 σ' H' D I' (hw σ' H' q)
 | ret v=>exact q
 | brk=>exact q
 | cont=>exact q
theorem len7{us:List Value}{p:List Value->Prop}(h:us.length=7)(k:∀a b c d e f g,p [a,b,c,d,e,f,g]):p us:=by
 match us,h with
 | [a,b,c,d,e,f,g],_=>exact k a b c d e f g
end L2
namespace HT
open PySem PySem.Spec PyProof.Rows L2
section
variable{prog:Program}{w:World}{A:Around}{E:Value->Shared->Prop}{s:Shared}
theorem y65{t b:Addr}{vs ws:List Value}{Q:Value->Shared->Prop}(ht:IsTup s.heap t vs.toArray)(hb:IsTup s.heap b ws.toArray)(h0:vs=[]->Q (.ref b) s)
  (h1:vs≠[]->ws=[]->Q (.ref t) s) (h2:vs≠[]->ws≠[]->Q (.ref s.heap.objs.size) { s with heap:=s.heap.push { cls:=.type "tuple",data:=.seq (vs++ws).toArray } })
  (hsz:vs.length+ws.length≤sizeLine):wpAny (model prog w) A (binaryOp .Add (.ref t) (.ref b)) Q E s:=by
 by_cases hv:vs=[]
 ·obtain⟨⟨cls,dd,data,sl⟩,ho,hc,n,hd⟩:=id ht
  obtain⟨⟨cls2,dd2,data2,sl2⟩,ho2,hc2,n2,hd2⟩:=id hb
  simp only at hc hd hc2 hd2
  subst hc hd hc2 hd2
  exact concat_meets ⟨_,ho,rfl⟩ ⟨_,ho2,rfl⟩ noFill_tuple_add seq_tuple_add gP gH (g8 _ _)
   (tuple_addW0 t b vs.toArray ws.toArray n n2 dd dd2 sl sl2 (by simp[hv])) ⟨ho,ho2,h0 hv⟩
 ·exact y3H ht hb hv (h1 hv) (h2 hv) hsz
end
end HT
namespace L2
open PySem PySem.Spec PyProof.Rows
section
variable{X:Cx}
noncomputable def w0R:R2:=fun x y H Q=>∃a b xs ys,x=.ref a/\y=.ref b/\H a=some (.tup xs)/\H b=some (.tup ys)/\xs.length+ys.length≤sizeLine/\∀p H',A4 H H'->H' p=some (.tup (xs++ys))->Q (.ref p) H'
theorem y4R:OpR X (binaryOp .Add) w0R:=by
 intro pins s σ H x y v u Q I rx ry h
 obtain⟨a,b,xs,ys,rfl,rfl,ha,hb,hz,q⟩:=h
 cases rx
 cases ry
 obtain⟨its,r1,p1,_⟩:=I.tuple (SqT.of ha)
 obtain⟨N6,r2,p2,_⟩:=I.tuple (SqT.of hb)
 refine HT.y65 p1 p2 (fun z=>?_) (fun z0 z=>?_) (fun z0 z=>?_) (by rw[<- r1.length,<- r2.length];exact hz)
 ·refine⟨.ref b,H,I,rfl,q b H (A4.refl _) ?_⟩
  rw[r1.R3.mp z]
  exact hb
 ·refine⟨.ref a,H,I,rfl,q a H (A4.refl _) ?_⟩
  rw[r2.R3.mp z,cU]
  exact ha
 ·refine⟨.ref s.heap.objs.size,_,I.laid (t':=s.toks) (o:=.tup (xs++ys)) (fun b ob q=>bA _ q) (bE _) ?_,rfl,q _ _ (fun c o e=>?_) z04⟩
  ·exact⟨by rw[bN];exact hz,_,r1.append r2,PlT.new _ _⟩
  ·rw[z0e (z0o e (I.hok.fresh (bE _)))]
   exact e
noncomputable def rSlB:V->Option Int->Option Int->Hp->VK->Prop:=fun x lo hi H Q=>∃a xs,x=.ref a/\H a=some (.tup xs)/\∀p H',A4 H H'->H' p=some (.tup (R9 xs lo hi))->Q (.ref p) H'
theorem y3U:SlR X rSlB:=by
 intro pins s σ H x v vl vu lo hi sl Q I rx hs pl pu h
 obtain⟨a,xs,rfl,ha,q⟩:=h
 refine y1y pins s σ H (.ref a) v vl vu lo hi sl Q I rx hs pl pu ⟨a,xs,rfl,SqT.of ha,fun hw=>q a H (A4.refl _) ?_,fun _ p hp=>q p _ (fun c o e=>by rw[z0e (z0o e hp)];exact e) z04⟩
 have e:R9 xs lo hi=xs:=by
  unfold R9
  rw[hw.1,hw.2,fN,hU,bX]
 rw[e]
 exact ha
theorem z3J(zs:List Str):(zs.map V.str).all z22=true:=by
 rw[jF,eM]
 intro z _
 rfl
end
noncomputable def DfK(K:PySem.W.Frag)(x q:Str)(st:Stmt)(dV:Value)(f:Addr):Prop:=∃(oc:Value) (od:Option Addr) (kV doc pm:Value) (an:Option Addr) (cdv ct:Value) (osl:Array (Option Value)),
 K.lookup f=some ⟨oc,od,.func (PySem.W.fnOf x q (z1C st) (z1c st) (z07 st) dV kV doc pm an cdv ct),osl⟩/\PySem.W.codeIn K cdv q=true/\PySem.W.keepIn K (.ref f)=true
noncomputable def DfT(K:PySem.W.Frag)(x:Str)(st:Stmt)(dV:Value)(f:Addr):Prop:=PySem.W.nsIn K mainGlobals x=some (some (.ref f))/\DfK K x x st dV f
noncomputable def DfM(K:PySem.W.Frag)(C:Addr)(x q:Str)(st:Stmt)(dV:Value)(f:Addr):Prop:=PySem.W.findIn K (.ref C) x=some (some (.ref f))/\PySem.W.isFn K (.ref f)=true/\DfK K x q st dV f
noncomputable def DfD(K:PySem.W.Frag)(T:Addr)(its:Array Value):Prop:=∃oct odt nt slt,K.lookup T=some ⟨oct,odt,.seq its nt,slt⟩
noncomputable def DfC(K:PySem.W.Frag)(x:Str)(C:Addr):Prop:=PySem.W.nsIn K mainGlobals x=some (some (.ref C))/\PySem.W.plainGet K C Str.empty=true/\PySem.W.hasDictIn K C=true/\PySem.W.plainOver K C=true/\PySem.W.findIn K (.ref C) "__setattr__"=some (some (.builtin "object.__setattr__"))/\PySem.W.makesIn K C=true/\PySem.W.keepIn K (.ref C)=true
section
variable{K:PySem.W.Frag}{mg:Str->Option Value}{x q:Str}{st:Stmt}{f C T:Addr}{fd:FuncData}{its:Array Value}
theorem DfK.fn(h:DfK K x q st .none f):∃fd,Fun K x q st f fd:=by
 obtain⟨oc,od,kV,doc,pm,an,cdv,ct,osl,l,c,k⟩:=h
 exact⟨_,y7O l c k⟩
theorem DfK.fnD(h:DfK K x q st (.ref T) f)(d:DfD K T its):∃fd,FunD K x q st f fd T its:=by
 obtain⟨oc,od,kV,doc,pm,an,cdv,ct,osl,l,c,k⟩:=h
 obtain⟨_,_,_,_,d⟩:=d
 exact⟨_,y7u l d c k⟩
theorem z0F{h:Heap}(X:K.In h)(G:h.Ns mainGlobals mg)(a:DfT K x st .none f):∃fd,Fun K x x st f fd/\mg x=some (.ref f):=by
 obtain⟨fd,F⟩:=a.2.fn
 exact⟨fd,F,cF X G a.1⟩
theorem y70{h:Heap}(X:K.In h)(G:h.Ns mainGlobals mg)(a:DfT K x st (.ref T) f)(d:DfD K T its):∃fd,FunD K x x st f fd T its/\mg x=some (.ref f):=by
 obtain⟨fd,F⟩:=a.2.fnD d
 exact⟨fd,F,cF X G a.1⟩
theorem z1J(a:DfM K C x q st .none f):∃fd,Fun K x q st f fd/\Meth K C x f:=by
 obtain⟨fd,F⟩:=a.2.2.fn
 exact⟨fd,F,a.1,a.2.1,F.kp⟩
theorem y5c(a:DfM K C x q st (.ref T) f)(d:DfD K T its):∃fd,FunD K x q st f fd T its/\Meth K C x f:=by
 obtain⟨fd,F⟩:=a.2.2.fnD d
 exact⟨fd,F,a.1,a.2.1,F.kp⟩
theorem y1s{y:Str}(c:DfC K y C)(a:DfM K C "__init__" q st .none f):∃fd,Fun K "__init__" q st f fd/\Mk K C f:=by
 obtain⟨fd,F⟩:=a.2.2.fn
 exact⟨fd,F,c.2.2.2.2.2.1,a.1,a.2.1,c.2.2.2.2.2.2⟩
theorem DfC.cls{y:Str}(c:DfC K y C):Cls K C:=⟨c.2.1,c.2.2.1,c.2.2.2.1,c.2.2.2.2.1⟩
theorem DfC.nm{h:Heap}(X:K.In h)(G:h.Ns mainGlobals mg){y:Str}(c:DfC K y C):mg y=some (.ref C):=cF X G c.1
theorem y37{p:Str}(F:Fun K x q st f fd)(h:∀kV doc pm an cdv ct v,bindArgs (PySem.W.fnOf x q (z1C st) (z1c st) (z07 st) .none kV doc pm an cdv ct) ⟨[v],[]⟩=pure [(p,v)]:=by intros;rfl):∀(s:Shared) (v:Value),BindsTo s fd ⟨[v],[]⟩ [(p,v)]:=by
 obtain⟨oc,od,kV,doc,pm,an,cdv,ct,osl,rfl,l,c⟩:=F.ex
 exact fun s v=>.of_eq (h _ _ _ _ _ _ _)
theorem b0(F:Fun K x q st f fd)(h:∀kV doc pm an cdv ct,bindArgs (PySem.W.fnOf x q (z1C st) (z1c st) (z07 st) .none kV doc pm an cdv ct) ⟨[],[]⟩=pure (List.zip [] []):=by intros;rfl):z1D K fd [] []:=
 F.binds fun kV doc pm an cdv ct us hl=>len0 (p:=fun us=>bindArgs _ ⟨us,[]⟩=pure (List.zip _ us)) hl (h kV doc pm an cdv ct)
theorem b1{p1:Str}(F:Fun K x q st f fd)(h:∀kV doc pm an cdv ct a,bindArgs (PySem.W.fnOf x q (z1C st) (z1c st) (z07 st) .none kV doc pm an cdv ct) ⟨[a],[]⟩=pure (List.zip [p1] [a]):=by intros;rfl):z1D K fd [p1] []:=
 F.binds fun kV doc pm an cdv ct us hl=>T1 (p:=fun us=>bindArgs _ ⟨us,[]⟩=pure (List.zip _ us)) hl (h kV doc pm an cdv ct)
theorem b2{p1 p2:Str}(F:Fun K x q st f fd)(h:∀kV doc pm an cdv ct a b,bindArgs (PySem.W.fnOf x q (z1C st) (z1c st) (z07 st) .none kV doc pm an cdv ct) ⟨[a,b],[]⟩=pure (List.zip [p1,p2] [a,b]):=by intros;rfl):z1D K fd [p1,p2] []:=
 F.binds fun kV doc pm an cdv ct us hl=>w0b (p:=fun us=>bindArgs _ ⟨us,[]⟩=pure (List.zip _ us)) hl (h kV doc pm an cdv ct)
theorem b3{p1 p2 p3:Str}(F:Fun K x q st f fd)(h:∀kV doc pm an cdv ct a b c,bindArgs (PySem.W.fnOf x q (z1C st) (z1c st) (z07 st) .none kV doc pm an cdv ct) ⟨[a,b,c],[]⟩=pure (List.zip [p1,p2,p3] [a,b,c]):=by intros;rfl):z1D K fd [p1,p2,p3] []:=
 F.binds fun kV doc pm an cdv ct us hl=>Y8 (p:=fun us=>bindArgs _ ⟨us,[]⟩=pure (List.zip _ us)) hl (h kV doc pm an cdv ct)
theorem b4{p1 p2 p3 p4:Str}(F:Fun K x q st f fd)(h:∀kV doc pm an cdv ct a b c d,bindArgs (PySem.W.fnOf x q (z1C st) (z1c st) (z07 st) .none kV doc pm an cdv ct) ⟨[a,b,c,d],[]⟩=pure (List.zip [p1,p2,p3,p4] [a,b,c,d]):=by intros;rfl):z1D K fd [p1,p2,p3,p4] []:=
 F.binds fun kV doc pm an cdv ct us hl=>w0v (p:=fun us=>bindArgs _ ⟨us,[]⟩=pure (List.zip _ us)) hl (h kV doc pm an cdv ct)
theorem b5{p1 p2 p3 p4 p5:Str}(F:Fun K x q st f fd)(h:∀kV doc pm an cdv ct a b c d e,bindArgs (PySem.W.fnOf x q (z1C st) (z1c st) (z07 st) .none kV doc pm an cdv ct) ⟨[a,b,c,d,e],[]⟩=pure (List.zip [p1,p2,p3,p4,p5] [a,b,c,d,e]):=by intros;rfl):z1D K fd [p1,p2,p3,p4,p5] []:=
 F.binds fun kV doc pm an cdv ct us hl=>len5 (p:=fun us=>bindArgs _ ⟨us,[]⟩=pure (List.zip _ us)) hl (h kV doc pm an cdv ct)
theorem b6{p1 p2 p3 p4 p5 p6:Str}(F:Fun K x q st f fd)(h:∀kV doc pm an cdv ct a b c d e g,bindArgs (PySem.W.fnOf x q (z1C st) (z1c st) (z07 st) .none kV doc pm an cdv ct) ⟨[a,b,c,d,e,g],[]⟩=pure (List.zip [p1,p2,p3,p4,p5,p6] [a,b,c,d,e,g]):=by intros;rfl):z1D K fd [p1,p2,p3,p4,p5,p6] []:=
 F.binds fun kV doc pm an cdv ct us hl=>len6 (p:=fun us=>bindArgs _ ⟨us,[]⟩=pure (List.zip _ us)) hl (h kV doc pm an cdv ct)
theorem b7{p1 p2 p3 p4 p5 p6 p7:Str}(F:Fun K x q st f fd)(h:∀kV doc pm an cdv ct a b c d e g i,bindArgs (PySem.W.fnOf x q (z1C st) (z1c st) (z07 st) .none kV doc pm an cdv ct) ⟨[a,b,c,d,e,g,i],[]⟩=pure (List.zip [p1,p2,p3,p4,p5,p6,p7] [a,b,c,d,e,g,i]):=by intros;rfl):z1D K fd [p1,p2,p3,p4,p5,p6,p7] []:=
 F.binds fun kV doc pm an cdv ct us hl=>len7 (p:=fun us=>bindArgs _ ⟨us,[]⟩=pure (List.zip _ us)) hl (h kV doc pm an cdv ct)
end
theorem calF(P:Program)(w:World)(K:PySem.W.Frag)(mg:Str->Option Value)(base:Heap){k:Nat}{x:Str}{ps:List Str}{sp:Sp}{st:Stmt}{f:Addr}{fd:FuncData}(F:Fun K x x st f fd/\mg x=some (.ref f))(a:A8 P w K mg base CX0 k f fd ps sp)(b:z1D K fd ps []):Cal P w K mg base k x ps sp:=.mk' a b F.1.kp F.2
theorem mclF(P:Program)(w:World)(K:PySem.W.Frag)(mg:Str->Option Value)(base:Heap){k:Nat}{C:Addr}{x q:Str}{ps:List Str}{sp:Sp}{st:Stmt}{f:Addr}{fd:FuncData}(c:Cls K C)(F:Fun K x q st f fd/\Meth K C x f)(a:A8 P w K mg base CX0 k f fd ps sp)(b:z1D K fd ps []):C5 P w K mg base k C x ps sp:=.mk' c a b F.2
theorem mkrF(P:Program)(w:World)(K:PySem.W.Frag)(mg:Str->Option Value)(base:Heap){k:Nat}{C:Addr}{x y q:Str}{ps:List Str}{sp:Sp}{st:Stmt}{f:Addr}{fd:FuncData}(c:mg x=some (.ref C))(F:Fun K y q st f fd/\Mk K C f)(a:A8 P w K mg base CX0 k f fd ps sp)(b:z1D K fd ps []):Mkr P w K mg base k C x ps sp:=.mk' a b F.2 c
theorem scp{N P:List Str}{sc:Scope}(h1:sc.kind=.function:=by rfl)(h2:sc.isCoroutine=false:=by rfl)(h3:sc.isGenerator=false:=by rfl)(h4:N.Nodup:=by decide +kernel)(h5:N.take P.length=P:=by rfl)
  (h6:∀x∈P,sc.names.lookup x=some .local\/sc.names.lookup x=some .cell:=by decide +kernel) (h7:∀y∈sc.names,y.2≠.free:=by decide +kernel):A3 N P sc:=⟨h1,h2,h3,h4,h5,h6,h7⟩
theorem rm{j k:Nat}{A:Around}(r:E5 k A)(h:j≤k:=by omega):E5 j A:=r.mono h
theorem Cal.up{P:Program}{w:World}{K:PySem.W.Frag}{mg:Str->Option Value}{base:Heap}{j k:Nat}{x:Str}{ps:List Str}{sp:Sp}(G:Cal P w K mg base j x ps sp)(h:j≤k:=by decide):Cal P w K mg base k x ps sp:=G.mono h
theorem C5.up{P:Program}{w:World}{K:PySem.W.Frag}{mg:Str->Option Value}{base:Heap}{j k:Nat}{C:Addr}{x:Str}{ps:List Str}{sp:Sp}(G:C5 P w K mg base j C x ps sp)(h:j≤k:=by decide):C5 P w K mg base k C x ps sp:=G.mono h
theorem Mkr.up{P:Program}{w:World}{K:PySem.W.Frag}{mg:Str->Option Value}{base:Heap}{j k:Nat}{C:Addr}{x:Str}{ps:List Str}{sp:Sp}(G:Mkr P w K mg base j C x ps sp)(h:j≤k:=by decide):Mkr P w K mg base k C x ps sp:=G.mono h
section
variable{X:Cx}{mg:Str->Option Value}
theorem le2:2≤sizeLine:=by decide
end
end L2
namespace HT
open PySem PySem.Spec PyProof.Rows L2
section
variable{prog:Program}{w:World}{A:Around}{E:Value->Shared->Prop}{s:Shared}
end
end HT
namespace L2
open PySem PySem.Spec PyProof.Rows
section
variable{X:Cx}{es:List Expr}{ec:Nat}{tp:Pos}
end
section
variable{X:Cx}
end
end L2
namespace HT
open PySem PySem.Spec PyProof.Rows L2
section
variable{prog:Program}{w:World}{A:Around}{E:Value->Shared->Prop}{s:Shared}
end
end HT
namespace L2
open PySem PySem.Spec PyProof.Rows PySem.Builtin PySem.Builtin.Str
section
variable{X:Cx}
noncomputable def y7Y:V->List V->Hp->VK->Prop:=fun x vs H Q=>∃z,x=.str z/\vs=[]/\tooLong (Txt.upper z).length=false/\Q (.str (Txt.upper z)) H
noncomputable def y7W:V->List V->Hp->VK->Prop:=fun x vs H Q=>∃z,x=.str z/\vs=[]/\tooLong (Txt.lower z).length=false/\Q (.str (Txt.lower z)) H
theorem y64:MtM X "str.upper" y7Y:=by
 intro pins s σ H x vs v us Q I rx rv h
 obtain⟨z,rfl,rfl,hz,q⟩:=h
 obtain⟨t,rfl⟩:=rx
 cases rv
 exact PySem.W.KXw.upper rfl hz fun t' k=>⟨.str _,H,I.tok _,⟨_,rfl⟩,q⟩
theorem y62:MtM X "str.lower" y7W:=by
 intro pins s σ H x vs v us Q I rx rv h
 obtain⟨z,rfl,rfl,hz,q⟩:=h
 obtain⟨t,rfl⟩:=rx
 cases rv
 exact PySem.W.KXw.lower rfl hz fun t' k=>⟨.str _,H,I.tok _,⟨_,rfl⟩,q⟩
theorem up3:∀p∈UnicodeData.severalUpper,p.2.length≤3:=by decide +kernel
theorem lo3:∀p∈UnicodeData.severalLower,p.2.length≤3:=by decide +kernel
theorem y5e{l:List (Nat×List Nat)}(h:∀p∈l,p.2.length≤3){c:Nat}{cs:List Nat}(e:l.lookup c=some cs):cs.length≤3:=by
 induction l with
 | nil=>cases e
 | cons p l ih=>
  obtain⟨a,b⟩:=p
  rw[eF] at e
  split at e
  ·cases e
   exact h (a,cs) cB
  ·exact ih (fun q hq=>h q (bP _ hq)) e
theorem y0F{o:List (Nat×Nat×Nat)}{l:List (Nat×List Nat)}(h:∀p∈l,p.2.length≤3)(c:Nat):(Unicode.image o l c).length≤3:=by
 unfold Unicode.image
 split
 ·rename_i cs e
  exact y5e h e
 ·exact(by decide:1≤3)
theorem y1d(s:Array Nat)(i:Nat):(Unicode.lowerAt s i).length≤3:=by
 unfold Unicode.lowerAt
 split
 ·exact cR _
 ·split
  ·exact(by decide:1≤3)
  ·exact y0F lo3 _
theorem sum3:∀{l:List Nat},(∀n∈l,n≤3)->l.sum≤3*l.length
 | [],_=>cR _
 | a::l,h=>by
  have:=sum3 fun n hn=>h n (bP a hn)
  have:=h a cB
  rw[List.sum_cons,c9]
  omega
theorem z8Z{x:Str}{f:Nat->Nat->List Nat}(h:∀i c,(f i c).length≤3):(placed x f).size≤3*x.length:=by
 unfold placed
 rw[Array.size_flatten]
 have e:=sum3 (l:=((x.cps.mapIdx fun i c=>(f i c).toArray).map Array.size).toList) fun n hn=>by
  rw[Array.toList_map,cG] at hn
  obtain⟨a,ha,rfl⟩:=hn
  obtain⟨i,hi,rfl⟩:=Array.mem_mapIdx.mp (j9.mpr ha)
  exact h _ _
 rw[eS,Array.size_map,Array.size_mapIdx] at e
 rw[<- Array.sum_toList]
 exact e
theorem y3P(x:Str):(Txt.upper x).length≤3*x.length:=z8Z fun _ c=>y0F up3 c
theorem y3e(x:Str):(Txt.lower x).length≤3*x.length:=z8Z fun i _=>y1d x.cps i
end
end L2
namespace L2
open PySem PySem.Spec PyProof.Rows PySem.Builtin PySem.Builtin.Str
noncomputable def P9(fs:List Addr)(h h':Heap)(H':Hp)(B:Heap):Prop:=∀b o,h'.get? b=some o->b∉fs->(H' b≠none\/∃o0,h.get? b=some o0)->B.get? b=some o
noncomputable def CX1(P:Program)(w:World):CXT:=fun outer H s E e s'=>∃(a:Addr) (C:Value) (H':Hp) (B:Heap) (a0:Value),e=.ref a/\s'.os=s.os/\AllBare s'.gens/\Un (frs outer) [] H H' s.heap s'.heap/\HOk P w H' s'.heap/\
 Heap.FlyingW B outer a C a0 s'.heap/\P9 (frs outer) s.heap s'.heap H' B/\E C none H'
theorem z1t.there{P:Program}{w:World}{H:Hp}{h:Heap}{a:Addr}{o:HO}(x:z1t P w H h a o):∃u,h.get? a=some u:=by
 cases o with
 | lst xs=>obtain⟨_,_,_,_,e⟩:=x;exact⟨_,e⟩
 | tup xs=>obtain⟨_,_,_,o,e,_⟩:=x;exact⟨_,e⟩
 | dK kvs=>obtain⟨_,_,_,_,o,_,_,e,_⟩:=x;exact⟨_,e⟩
 | dT kvs=>obtain⟨_,_,_,_,o,_,_,e,_⟩:=x;exact⟨_,e⟩
 | set S n=>obtain⟨o,_,_,_,e,_⟩:=x;exact⟨_,e⟩
 | ins C dx fs=>obtain⟨_,_,_,e,_⟩:=x;exact⟨_,e⟩
 | own y=>exact x
 | xd fs=>obtain⟨_,⟨o,_,_,e,_⟩,_⟩:=x;exact⟨_,e⟩
 | rng lo hi=>obtain⟨_,_,_,e⟩:=x;exact⟨_,e⟩
 | frz o u=>exact⟨_,x.1⟩
 | tbl ps=>exact⟨_,(show h.get? a=some _ from x)⟩
 | met f y=>exact⟨_,(show h.get? a=some _ from x)⟩
 | ext φ=>obtain⟨_,e,_⟩:=x;exact e
section
variable{P:Program}{w:World}{fs:List Addr}{H H':Hp}{h h1 h2 B:Heap}
theorem P9.hok(st:P9 fs h h1 H' B)(k:B.StaysIn h2)(hf:∀b∈fs,H' b=none)(ok:HOk P w H' h1):HOk P w H' h2:=fun a o e=>by
 refine(ok a o e).V3 (fun b u hb q=>?_) (fun _ q=>q) (fun _ _ q=>q)
 have hn:H' b≠none:=by
  rcases hb with rfl|hb
  ·rw[e];exact fun z=>nomatch z
  ·rw[hb];exact fun z=>nomatch z
 exact k _ _ (st b u q (fun z=>hn (hf b z)) (.inl hn))
theorem P9.un(st:P9 fs h h1 H' B)(k:B.StaysIn h2)(us:h1.UpToSlots h2)(nf:∀b∈fs,∃o,h1.get? b=some o/\∀vs,o.data≠.fields vs)(u:Un fs [] H H' h h1):Un fs [] H H' h h2 where
 keep:=fun b o q n hb hx=>k _ _ (st b o (u.keep b o q n hb hx) hb (.inr ⟨o,q⟩))
 slot:=fun b o q n hb hx=>by
  obtain⟨sl,e⟩:=u.slot b o q n hb hx
  obtain⟨o1,e1,d1⟩:=nf b hb
  rw[e] at e1
  cases e1
  obtain⟨sl2,e2⟩:=us b _ e d1
  exact⟨sl2,e2⟩
 free:=u.free
 there:=fun b o q hx=>by
  obtain⟨o1,e1⟩:=u.there b o q hx
  by_cases hb:b∈fs
  ·obtain⟨o2,e2,d2⟩:=nf b hb
   obtain⟨sl,e3⟩:=us b o2 e2 d2
   exact⟨_,e3⟩
  ·exact⟨o1,k _ _ (st b o1 e1 hb (.inr ⟨o,q⟩))⟩
 P8:=u.P8
 O1:=u.O1
 P7:=u.P7
theorem P9.next(st:P9 fs h h1 H' B)(k:B.StaysIn h2)(ok:HOk P w H' h1)(hf:∀b∈fs,H' b=none)(th:∀b o,h.get? b=some o->∃o',h1.get? b=some o'):P9 fs h h2 H' B:=fun b o q hb hc=>by
 have:∃o1,h1.get? b=some o1:=by
  rcases hc with hc|⟨o0,e0⟩
  ·cases e:H' b with
   | none=>exact absurd e hc
   | some u=>exact(ok b u e).there
  ·exact th b o0 e0
 obtain⟨o1,e1⟩:=this
 have e2:=st b o1 e1 hb hc
 rw[k _ _ e2] at q
 cases q
 exact e2
end
section
variable{X:Cx}{pins:List (Addr×Obj)}{σ:St}{H H':Hp}{s:Shared}{h1 B:Heap}
theorem Inv.Z2(I:Inv X pins σ H s){b:Addr}{o:Obj}(e:X.s₀.heap.get? b=some o):b≠X.env.locals:=fun z=>by
 subst z
 exact absurd (cO (bL e) I.ok.above) (cY _)
theorem Inv.T2(I:Inv X pins σ H s)(hx:X.ex=[])(u:Un (frs X.stack) [] H H' s.heap h1):Un X.fs [] X.H₀ H' X.s₀.heap h1 where
 keep:=fun b o q n hb hc=>u.keep b o (I.base.keep b o q n hb (by rw[hx];exact hc)) (I.base.free b o q n (by rw[hx];exact hc)) (fun z=>(bD.mp (I.P4 b z)).elim (I.Z2 q) hb) hc
 slot:=fun b o q n hb hc=>by
  obtain⟨sl,e⟩:=I.base.slot b o q n hb (by rw[hx];exact hc)
  obtain⟨sl2,e2⟩:=u.any e (I.base.free b o q n (by rw[hx];exact hc)) hc
  exact⟨sl2,e2⟩
 free:=fun b o q n hc=>by
  obtain⟨o1,e1⟩:=I.base.there b o q (by rw[hx];exact hc)
  exact u.free b o1 e1 (I.base.free b o q n (by rw[hx];exact hc)) hc
 there:=fun b o q hc=>by
  obtain⟨o1,e1⟩:=I.base.there b o q (by rw[hx];exact hc)
  exact u.there b o1 e1 hc
 P8:=fun b xs q=>u.P8 b xs (I.base.P8 b xs q)
 O1:=fun b o v q=>u.O1 b o v (I.base.O1 b o v q)
 P7:=fun b ps q=>by
  obtain⟨m,e⟩:=I.base.P7 b ps q
  obtain⟨m2,e2⟩:=u.P7 b _ e
  exact⟨m++m2,by rw[e2,Array.append_assoc]⟩
theorem Inv.T3(I:Inv X pins σ H s)(hx:X.ex=[])(hf:∀b∈frs X.stack,H' b=none)(st:P9 (frs X.stack) s.heap h1 H' B):P9 X.fs X.s₀.heap h1 H' B:=fun b o q hb hc=>by
 refine st b o q (fun z=>?_) ?_
 ·rcases hc with hc|⟨o0,e0⟩
  ·exact hc (hf b z)
  ·exact(bD.mp (I.P4 b z)).elim (I.Z2 e0) hb
 ·rcases hc with hc|⟨o0,e0⟩
  ·exact .inl hc
  ·exact .inr (I.base.there b o0 e0 (by rw[hx];exact fun z=>nomatch z))
end
section
variable{P:Program}{w:World}{K:PySem.W.Frag}{mg:Str->Option Value}{base:Heap}{N:List Str}{qual:Str}{scope:Scope}{f:Addr}{cd:Value}{A:Around}{outer:List Env}{s0:Shared}{H0:Hp}{E:XK}
theorem y7K:z7f (CX1 P w) (B8 (CX1 P w) P w K mg base N qual scope f cd A outer s0 H0 E) E:=by
 intro pins σ H s e s' I h
 obtain⟨a,C,H',B,a0,rfl,hos,hg,un,hok,fl,st,hE⟩:=h
 have hfr:=I.ok.frames
 have hf:∀b∈frs (envOfC qual scope s0.heap.objs.size f cd::outer),H' b=none:=fun b hb=>by
  obtain⟨_,o,ho,_⟩:=I.stack.mem hb
  exact un.free b o ho (I.L9 b hb) (fun z=>nomatch z)
 have nf:∀b∈frs (envOfC qual scope s0.heap.objs.size f cd::outer),∃o,s'.heap.get? b=some o/\∀vs,o.data≠.fields vs:=fun b hb=>(fl.2.2.1.mem hb).2
 show wpAny (model P w) (A.deeper (envOfC qual scope s0.heap.objs.size f cd)) (leaving (envOfC qual scope s0.heap.objs.size f cd) (.ref a)) _ _ s'
 refine wpAny_leaves_onW hfr rfl fl fun h' fl' us=>?_
 have un2:=st.un fl'.1 us nf un
 have ok2:HOk P w H' h':=st.hok fl'.1 hf hok
 have st2:=st.next fl'.1 hok hf (fun b o q=>un.there b o q (fun z=>nomatch z))
 exact⟨a,C,H',B,a0,rfl,hos.trans I.os,hg,I.T2 rfl un2,ok2,fl',I.T3 rfl hf st2,hE⟩
end
abbrev veL:List Value:=[.type "ValueError",.type "Exception",.type "BaseException",.type "object"]
structure Err(K:PySem.W.Frag)(mg:Str->Option Value)(x:Str)(C:Addr):Prop where
 mgC:mg x=some (.ref C)
 ex:PySem.W.excIn K C veL "ValueError.__new__"=true
theorem Err.obj{K:PySem.W.Frag}{mg:Str->Option Value}{x:Str}{C:Addr}{h:Heap}(E:Err K mg x C)(X:K.In h):OwnCls x C veL "ValueError.__new__" mg h:=by
 refine⟨E.mgC,?_⟩
 have q:=E.ex
 unfold PySem.W.excIn at q
 split at q
 ·rename_i dd cd sl ho
  split at q
  ·rename_i C' bm k0 k1 k2 k3 n k5 hm hs
   simp only[bW,beq_iff_eq,gN] at q
   obtain⟨⟨⟨⟨⟨rfl,rfl⟩,hdel⟩,ht⟩,hok⟩,hni⟩:=q
   obtain⟨nm,bs,mro,ns,qn,hd,sn,sub,ab,col,del⟩:=cd
   dsimp only at hm hdel hok hni
   subst hm hdel
   have hsl:sl=#[k0,k1,k2,k3,some (.builtin "ValueError.__new__"),k5]:=by
    obtain⟨l⟩:=sl
    simp only at hs
    rw[hs]
   subst hsl
   exact⟨bm,ns,nm,qn,bs,hd,sn,sub,ab,col,dd,k0,k1,k2,k3,k5,_,X _ _ ho,.of_isNs (PySem.W.isNs_of_in X hok),PySem.W.nsMap_none_of_in X hok hni,PySem.W.tail_of_in X ht⟩
  ·cases q
 ·cases q
noncomputable def y7E(C:Addr)(E:XK)(t:TA):TS:=fun _ σ H=>t σ H fun vs H1=>vs.length≤sizeLine/\E (.ref C) none H1
section
variable{P:Program}{w:World}{K:PySem.W.Frag}{mg:Str->Option Value}{base:Heap}{N:List Str}{qual:Str}{scope:Scope}{f:Addr}{cd:Value}{A:Around}{outer:List Env}{s0:Shared}{H0:Hp}{E:XK}
theorem z31{x:Str}{C:Addr}{e0:Expr}{es:List Expr}{t:TA}{np Q8 pos:Pos}(er:Err K mg x C)(hg:Gl (B8 (CX1 P w) P w K mg base N qual scope f cd A outer s0 H0 E) x)
  (ha:PA (B8 (CX1 P w) P w K mg base N qual scope f cd A outer s0 H0 E) (e0::es) t)
  (hdb:(x == ("__debug__":Str))=false:=by decide)
  (he:starEach (e0::es) (B8 (CX1 P w) P w K mg base N qual scope f cd A outer s0 H0 E).env=(false,eval e0 (B8 (CX1 P w) P w K mg base N qual scope f cd A outer s0 H0 E).env)::starEach es (B8 (CX1 P w) P w K mg base N qual scope f cd A outer s0 H0 E).env:=by rfl)
  (hpl:(backTo Q8 (starEach es (B8 (CX1 P w) P w K mg base N qual scope f cd A outer s0 H0 E).env)).any (·.1)=false:=by rfl) :
  PS (B8 (CX1 P w) P w K mg base N qual scope f cd A outer s0 H0 E) (.Raise (some (.Call (.Name x np) (e0::es) [] Q8)) none pos) (y7E C E t):=by
 intro pins s σ H D I h
 obtain⟨bm,Ns,nm,q,bs,hdct,sn,sub,ab,col,dd,k0,k1,k2,k3,k5,mN,hC,hN,hni,T⟩:=(er.obj I.mod.kin).obj
 refine wpAny_Raise_call_subT (C:=C) (nm:=nm) (q:=q) (N:=Ns) (bs:=bs) (bm:=bm) (hdct:=hdct) (sn:=sn) (sub:=sub) (ab:=ab) (col:=col) (dd:=dd) (k0:=k0) (k1:=k1) (k2:=k2) (k3:=k3) (k5:=k5)
  fV (mN:=mN) (T.hasType fV.hasBase) (I.ok.hd rfl) (by rw[he];show(false || (backTo Q8 (starEach es _)).any (·.1))=false;rw[hpl];rfl) hni (z5f I hg er.mgC ⟨rfl,?_⟩ hdb)
 have hA:=ha Q8 pins s σ H _ I h
 rw[he] at hA ⊢
 refine Calls.evalArgs_plain (thn hA fun us s2 ⟨vs,H2,I2,r2,hz,hE⟩=>⟨rfl,by rw[<- r2.length];exact hz,I2.bk _ _ hC,hN.keeps I2.bk,T.keeps I2.bk,fun h' e hm=>?_⟩)
 show wpAny (model P w) (A.deeper (envOfC qual scope s0.heap.objs.size f cd)) (leaving (envOfC qual scope s0.heap.objs.size f cd) (.ref e)) _ _ _
 have sk:=I2.stack
 have hfr:=I2.ok.frames
 refine wpAny_leaves_madeW (base:=PySem.W.hideAll s2.heap (frs (envOfC qual scope s0.heap.objs.size f cd::outer))) (h:=s2.heap) hfr rfl (fun b o z=>j7 _ z) (PySem.W.funFrames_hide sk fun env hv b hb=>j8.mpr ⟨env,hv,hb⟩) hm fun h'' t' fl _ _ us'=>?_
 have hf:∀b∈frs (envOfC qual scope s0.heap.objs.size f cd::outer),H2 b=none:=I2.L9
 have ok1:HOk P w H2 h':=I2.hok.kept hm.keeps
 have un1:Un (frs (envOfC qual scope s0.heap.objs.size f cd::outer)) [] H2 H2 s2.heap h':=Un.kept hm.keeps
 have nf:∀b∈frs (envOfC qual scope s0.heap.objs.size f cd::outer),∃o,h'.get? b=some o/\∀vs,o.data≠.fields vs:=fun b hb=>by
  obtain⟨_,o,ho,hd⟩:=sk.mem hb
  exact⟨o,hm.keeps _ _ ho,hd⟩
 have st:P9 (frs (envOfC qual scope s0.heap.objs.size f cd::outer)) s2.heap h' H2 (PySem.W.hideAll s2.heap (frs (envOfC qual scope s0.heap.objs.size f cd::outer))):=fun b o z hb hc=>by
  have:∃o1,s2.heap.get? b=some o1:=by
   rcases hc with hc|hc
   ·cases e:H2 b with
    | none=>exact absurd e hc
    | some u=>exact(I2.hok b u e).there
   ·exact hc
  obtain⟨o1,e1⟩:=this
  rw[hm.keeps _ _ e1] at z
  cases z
  exact hW _ e1 hb
 have un2:=st.un fl.1 us' nf un1
 have ok2:HOk P w H2 h'':=st.hok fl.1 hf ok1
 have st2:=st.next fl.1 ok1 hf (fun b o z=>⟨o,hm.keeps _ _ z⟩)
 exact⟨e,.ref C,H2,_,_,rfl,I2.os,I2.bare,I2.T2 rfl un2,ok2,fl,I2.T3 rfl hf st2,hE⟩
end
section
variable{X:Cx}{e:Expr}{es:List Expr}{te:TE}{pos:Pos}
abbrev TJ:=Str->St->Hp->(Str->Hp->Prop)->Prop
noncomputable def PJ(X:Cx)(es:List Expr)(t:TJ):Prop:=∀(acc:Str) (pins:List (Addr×Obj)) (s:Shared) (σ:St) (H:Hp) (Q:Str->Hp->Prop),Inv X pins σ H s->t acc σ H Q->
 Joins (model X.prog X.w) X.A X.xe (evalEach es X.env) acc (fun out s1=>∃H',Inv X pins σ H' s1/\Q out H') s
theorem Joins.mono{M:Model}{A:Around}{E:Value->Shared->Prop}:∀{l:List (Sem Value)}{acc:Str}{Q Q':Str->Shared->Prop}{s:Shared},(∀o s,Q o s->Q' o s)->Joins M A E l acc Q s->Joins M A E l acc Q' s
 | [],acc,Q,Q',s,k,h=>k _ _ h
 | x::l,acc,Q,Q',s,k,h=>wpAny_mono h (fun v s1 ⟨y,t,e,z,r⟩=>⟨y,t,e,z,Joins.mono k r⟩) fun _ _ x=>x
theorem y2l:PJ X [] (fun acc _ H Q=>Q acc H):=fun acc pins s σ H Q I h=>⟨H,I,h⟩
theorem z3C{tr:TJ}(h:PE X e te)(hr:PJ X es tr):PJ X (e::es) (fun acc σ H Q=>te σ H fun x H1=>∃y,x=.str y/\(acc++y).length≤sizeLine/\tr (acc++y) σ H1 Q):=fun acc pins s σ H Q I q=>
 wpAny_mono (h pins s σ H _ I q) (fun v s1 ⟨x,H1,I1,rx,y,ey,hz,q1⟩=>by
  subst ey
  obtain⟨t,rfl⟩:=rx
  exact⟨y,t,rfl,hz,hr _ pins s1 σ H1 Q I1 q1⟩) fun _ _ x=>x
noncomputable def w1y(t:TJ):TE:=fun σ H Q=>t Str.empty σ H fun out H1=>out.length≤sizeLine/\Q (.str out) H1
theorem z9u{e1 e2:Expr}{t:TJ}(h:PJ X (e1::e2::es) t):PE X (.JoinedStr (e1::e2::es) pos) (w1y t):=by
 intro pins s σ H Q I q
 refine wpAny_JoinedStr (Joins.mono (fun o s1 z=>?_) (h _ pins s σ H _ I q))
 obtain⟨H1,I1,hz,q1⟩:=z
 exact⟨hz,.str o,H1,I1.tok _,⟨_,rfl⟩,q1⟩
noncomputable def w1t(te:TE):TE:=fun σ H Q=>te σ H fun x H1=>∃i:Int,x=.int i/\i.natAbs.log2<1920/\Q (.str (toString i)) H1
theorem y1K(h:PE X e te):PE X (.FormattedValue e (-1) none pos) (w1t te):=by
 intro pins s σ H Q I q
 refine PyProof.Rows.FormattedValue_plain (thn (h pins s σ H _ I q) fun v s1 ⟨x,H1,I1,rx,i,ei,hd,q1⟩=>?_)
 subst ei
 obtain⟨t,rfl⟩:=rx
 exact PyProof.Rows.formatField_int_small hd ⟨.str (toString i),H1,I1.tok _,⟨_,rfl⟩,q1⟩
noncomputable def Low(x:Str):Prop:=∀c∈x.cps.toList,c<16^8
theorem y2g{x:Str}(h:Low x):(reprText x).length≤10*x.length+2:=PySem.StrLaws.reprText_len x h
noncomputable def w1a(te:TE):TE:=fun σ H Q=>te σ H fun x H1=>∃z:Str,x=.str z/\z.length≤1000/\Low z/\Q (.str (reprText z)) H1
theorem y7A(h:PE X e te):PE X (.FormattedValue e 114 none pos) (w1a te):=by
 intro pins s σ H Q I q
 refine wpAny_FormattedValue_repr (thn (h pins s σ H _ I q) fun v s1 ⟨x,H1,I1,rx,z,ez,hz,lo,q1⟩=>?_)
 subst ez
 obtain⟨t,rfl⟩:=rx
 have hl:=y2g lo
 have line:=sizeLine_eq
 refine wpAny_pyReprObj_gives (typeIs_str s1 z t) F.slot_str_repr F.entry_str_repr (F.args_str_repr_1 _) (gives_str_repr z t) ?_ (hx:=by omega)
 exact PyProof.Rows.formatField_str (fun t' tk=>⟨.str (reprText z),H1,(I1.tok _).tok _,⟨_,rfl⟩,q1⟩) (by omega)
end
noncomputable def R7(a:Addr)(C:Value):HO:=.ext fun h=>∃o vs,h.get? a=some o/\o.cls=C/\o.data=.fields vs
theorem y7v{P:Program}{w:World}{H:Hp}{h:Heap}{a:Addr}{C:Value}{o:Obj}{vs:Array Value}(e:h.get? a=some o)(c:o.cls=C)(d:o.data=.fields vs):z1t P w H h a (R7 a C):=
 ⟨⟨o,vs,e,c,d⟩,⟨o,e⟩,fun h1 h2 ⟨o,vs,e,c,d⟩ k=>⟨o,vs,k o e,c,d⟩⟩
abbrev Cx.mark(X:Cx)(e:Value):Cx:={ X with A:=X.A.mark (some e),calm:=false,xe:=fun _ _=>False }
abbrev Cx.pnd(X:Cx)(pn:List (Addr×Obj)):Cx:={ X with pn:=pn }
section
variable{X:Cx}{pins:List (Addr×Obj)}{σ:St}{H H':Hp}{s:Shared}
theorem Cx.Ok.mark(ok:X.Ok)(e:Value):(X.mark e).Ok:=⟨ok.mod,ok.kind,ok.glob,ok.blt,ok.above,ok.inj,ok.has,ok.cab,(fun z=>nomatch z),ok.frames,ok.stk,ok.exf,ok.bs,ok.bsz,ok.noex,ok.exfs,ok.R4,ok.frf⟩
theorem Cx.Ok.pnd(ok:X.Ok)(pn:List (Addr×Obj)):(X.pnd pn).Ok:=⟨ok.mod,ok.kind,ok.glob,ok.blt,ok.above,ok.inj,ok.has,ok.cab,ok.hd,ok.frames,ok.stk,ok.exf,ok.bs,ok.bsz,ok.noex,ok.exfs,ok.R4,ok.frf⟩
theorem Inv.mark(I:Inv X pins σ H s)(e:Value):Inv (X.mark e) pins σ H s:=⟨I.ok.mark e,I.os,I.bare,I.base,I.loc,I.cell,I.free,I.freeC,I.pin,I.hok,I.len⟩
theorem Inv.unmark{e:Value}(I:Inv (X.mark e) pins σ H s)(ok:X.Ok):Inv X pins σ H s:=⟨ok,I.os,I.bare,I.base,I.loc,I.cell,I.free,I.freeC,I.pin,I.hok,I.len⟩
theorem Inv.pnd(I:Inv X pins σ H s):Inv (X.pnd (X.pn++pins)) [] σ H s:=⟨I.ok.pnd _,I.os,I.bare,I.base,I.loc,I.cell,I.free,I.freeC,by rw[cU];exact I.pin,I.hok,I.len⟩
theorem Inv.Q0{ps:List (Addr×Obj)}(I:Inv (X.pnd (X.pn++pins)) ps σ H s)(ok:X.Ok):Inv X pins σ H s:=⟨ok,I.os,I.bare,I.base,I.loc,I.cell,I.free,I.freeC,fun p hp=>I.pin p (d6 _ hp),I.hok,I.len⟩
theorem SP.Q0{D:Ends}{f:Flow}{s':Shared}{ps:List (Addr×Obj)}(ok:X.Ok)(h:SP (X.pnd (X.pn++pins)) ps D f s'):SP X pins D f s':=by
 cases f with
 | next=>obtain⟨σ',H',I,q⟩:=h;exact⟨σ',H',I.Q0 ok,q⟩
 | brk=>obtain⟨σ',H',I,q⟩:=h;exact⟨σ',H',I.Q0 ok,q⟩
 | cont=>obtain⟨σ',H',I,q⟩:=h;exact⟨σ',H',I.Q0 ok,q⟩
 | ret u=>obtain⟨v,σ',H',I,r,q⟩:=h;exact⟨v,σ',H',I.Q0 ok,r,q⟩
theorem z9G{M:Model}{A:Around}{E:Value->Shared->Prop}{env:Env}{n:Str}{pos:Pos}{m:Str->Option Value}{Q:Unit->Shared->Prop}(hl:env.kindOf n=some .local)(hn:s.heap.Ns env.locals m)
  (hp:(env.scope.kind == .class || (env.scope.kind == .module && env.locals != env.globals))=false)
  (h:∀h' m' tk,h'.Ns env.locals m'->(∀y,y≠n->m' y=m y)->Heap.SameBut env.locals s.heap h'->Q () { s with heap:=h',toks:=tk }) :
  wpAny M A (do bindName env n .none;unbindBehindTheSuite env n pos) Q E s:=by
 refine wpAny_bind (wpAny_bindName (wpAny_storeName_local hl hn (fun h₁ hn₁ hs₁=>?_) hp))
 unfold unbindBehindTheSuite
 exact wpAny_onRaise (wpAny_unbindName_local (v:=.none) hl hn₁ (by simp) hp fun h₂ u hn₂ hs₂=>h h₂ _ _ hn₂ (fun y hy=>by simp[hy]) (hs₁.trans hs₂))
theorem z5T{M:Model}{A:Around}{E:Value->Shared->Prop}{i:Nat}{x:Str}{pos:Pos}{Q:Unit->Shared->Prop}(I:Inv X pins σ H s)(hN:X.N.Nodup)(hi:X.N[i]? = some x)(hk:X.env.kindOf x=some .local)
  (h:∀s',Inv X pins (σ.set i none) H s'->Q () s'):wpAny M A (do bindName X.env x .none;unbindBehindTheSuite X.env x pos) Q E s:=by
 obtain⟨m,hn,hl⟩:=id I.loc
 have S6:(X.env.scope.kind == .class || (X.env.scope.kind == .module && X.env.locals != X.env.globals))=false:=by rw[I.ok.kind];rfl
 have hiσ:i<σ.length:=by rw[I.len];exact(cJ.mp hi).1
 have cne:=I.cne
 refine z9G hk hn S6 fun h' m' tk hn' hm' hs=>?_
 obtain⟨oL,_,_,hoL,_⟩:=id hn
 have tracked:HOk X.prog X.w H h':=fun b ob e=>by
  refine(I.hok b ob e).V3 (fun c w' hc q=>(hs.2 c ?_).trans q) (fun _ q=>q) fun _ _ q=>q
  rintro rfl
  rcases hc with rfl|hc
  ·rw[I.free] at e;cases e
  ·rw[I.free] at hc;cases hc
 refine h _ ⟨I.ok,I.os,I.bare,⟨fun b o e n hb hx=>?_,fun b o e n hb hx=>?_,I.base.free,fun b o e hx=>?_,I.base.P8,I.base.O1,I.base.P7⟩,⟨_,hn',fun j y v' e1 e2 e3=>?_⟩,fun y c e=>?_,I.free,I.freeC,fun p hp=>?_,tracked,by simpa using I.len⟩
 ·exact(hs.2 b (I.Z2 e)).trans (I.base.keep b o e n hb hx)
 ·obtain⟨sl,e1⟩:=I.base.slot b o e n hb hx
  exact⟨sl,(hs.2 b (I.Z2 e)).trans e1⟩
 ·obtain⟨o',e1⟩:=I.base.there b o e hx
  exact⟨o',(hs.2 b (I.Z2 e)).trans e1⟩
 ·by_cases hj:j=i
  ·subst hj
   rw[gO hiσ] at e2
   cases e2
  ·rw[fP (cS hj)] at e2
   obtain⟨u',r',q⟩:=hl j y v' e1 e2 e3
   refine⟨u',r',?_⟩
   rcases q with ⟨k,e⟩|⟨k,c,e,z⟩
   ·have:y≠x:=fun e=>hj (z9r hN e1 (e ▸ hi))
    exact .inl ⟨k,by rw[hm' y this];exact e⟩
   ·exact .inr ⟨k,c,e,z.sameBut hs (cne y c e)⟩
 ·obtain⟨w',z⟩:=I.cell y c e
  exact⟨w',z.sameBut hs (cne y c e)⟩
 ·obtain⟨e,n,ne,nf,d⟩:=I.pin p hp
  exact⟨(hs.2 p.1 ne).trans e,n,ne,nf,d⟩
end
theorem y1z{M:Model}{A:Around}{E:Value->Shared->Prop}{h:Heap}{g:Array GenState}{d:Drawn}{t:Nat}{os:OsState}{e C D N ND:Addr}{oe:Obj}{nm q nmD qD:Str}{bs bm bsD bmD:List Value}{hdct w0c:Bool}{sn snD:List Str}{sub subD:List Value}{ab abD:Bool}{col colD:Option Bool}{dd ddD:Option Addr}{k0 k1 k2 k3 k5 j0 j1 j2 j3 j5:Option Value}{newId w0A:String}{Q:Bool->Shared->Prop}
  (hC:h.get? C=some (excClassObj nm q C N bs bm hdct sn sub ab col dd k0 k1 k2 k3 k5 newId)) (hD:h.get? D=some (excClassObj nmD qD D ND bsD bmD w0c snD subD abD colD ddD j0 j1 j2 j3 j5 w0A))
  (he:h.get? e=some oe) (S6:oe.cls=.ref C) (V7:bmD.contains (.type "BaseException")=true) (hcC:(Value.ref C::bm).contains (.ref D)=true)
  (hq:Q true ⟨h,g,d,t,os⟩):wpAny M A (excMatches (.ref e) (.ref D)) Q E ⟨h,g,d,t,os⟩:=by
 have hcB:(Value.ref D::bmD).contains (.type "BaseException")=true:=by rw[List.contains_cons,V7,Bool.or_true]
 have f:=tc_notTuple
 unfold excMatches
 repeat (first|(with_reducible refine wpAny_loadPart_at he ?_;rw[S6])|with_reducible refine wpAny_loadPart_at hD ?_|(with_reducible refine wpAny_isSubtype_exc hD ?_;rw[hcB])|(with_reducible refine wpAny_isSubtype_exc hC ?_;rw[hcC])|wp_step)
 exact hq
noncomputable def xw(X:Cx)(EX:St->Value->Hp->Prop):Value->Shared->Prop:=fun e s'=>∃pins σ H s,Inv X pins σ H s/\CX1 X.prog X.w X.stack H s (fun C _ H'=>EX σ C H') e s'
structure Under(K:PySem.W.Frag)(C D:Addr):Prop where
 ex:PySem.W.excIn K C veL "ValueError.__new__"=true
 sub:PySem.W.mroIn K C (.ref D)=some true
noncomputable def tTry(K:PySem.W.Frag)(i:Nat)(D:Addr)(tb:(St->Value->Hp->Prop)->TS)(ts:TS):TS:=fun Ds σ H=>∃EX:St->Value->Hp->Prop,tb EX Ds σ H/\∀σ' C H',EX σ' C H'->(∃c,C=.ref c/\Under K c D)/\
 ∀a,H' a=none->ts { nx:=fun σ H=>Ds.nx (σ.set i none) H,rt:=Ds.rt,bk:=fun σ H=>Ds.bk (σ.set i none) H,ct:=fun σ H=>Ds.ct (σ.set i none) H } (σ'.set i (some (.ref a))) (upd H' a (R7 a C))
theorem y8k{X:Cx}{x n:Str}{i:Nat}{D:Addr}{body w0d:List Stmt}{b0:Stmt}{np hpos pos:Pos}{tb:(St->Value->Hp->Prop)->TS}{ts:TS}(er:Err X.K X.mg x D)(hg:Gl X x)(hN:X.N.Nodup)(hi:X.N[i]? = some n)
  (hl:X.env.scope.names.lookup n=some .local) (hst:X.stack=X.env::X.outer) (hfr:X.env.frame=some X.env.locals)
  (hb:∀pn EX,PSs ((X.pnd pn).J2 (xw (X.pnd pn) EX)) body (tb EX)) (hs:∀pn e,PSs ((X.pnd pn).mark e) (b0::w0d) ts) (hdb:(x == ("__debug__":Str))=false:=by decide) :
  PS X (.Try body [.ExceptHandler (some (.Name x np)) (some n) (b0::w0d) hpos] [] [] pos) (tTry X.K i D tb ts):=by
 intro pins s σ H Ds I h
 obtain⟨EX,hb',hh⟩:=h
 refine wpAny_Try_except (wpAny_mono (hb _ EX [] s σ H Ds (I.pnd.J2 _) hb') (fun f s1 q=>?_) fun e s1 q=>?_)
 ·have q':SP X pins Ds f s1:=q.F9.Q0 I.ok
  cases f with
  | next=>exact wpAny_execs_nil q'
  | ret v=>exact q'
  | brk=>exact q'
  | cont=>exact q'
 obtain⟨ps,σ1,H1,s0,I1,a,C,H',B,a0,rfl,hos,hgn,un,hok,fl,st,hE⟩:=q
 obtain⟨⟨c,rfl,hc⟩,hsu⟩:=hh σ1 C H' hE
 have hF:X.A.frames=some (X.env::X.outer):=by rw[<- hst];exact I.ok.frames
 have fl0:Heap.FlyingW B (X.env::X.outer) a (.ref c) a0 s1.heap:=by rw[<- hst];exact fl
 have hf:∀b∈frs X.stack,H' b=none:=fun b hb=>by
  obtain⟨_,o,ho,_⟩:=I1.stack.mem hb
  exact un.free b o ho (I1.L9 b hb) (fun z=>nomatch z)
 have nf:∀b∈frs X.stack,∃o,s1.heap.get? b=some o/\∀vs,o.data≠.fields vs:=fun b hb=>(fl.2.2.1.mem hb).2
 obtain⟨oe0,vs0,he0,_,hd0,_⟩:=fl.first
 have hna:a∉frs X.stack:=fun z=>by
  obtain⟨o,e,d⟩:=nf a z
  rw[he0] at e
  cases e
  exact d vs0 hd0
 have hBa:B.get? a=none:=fl.2.1
 have Y1:H' a=none:=by
  cases e:H' a with
  | none=>rfl
  | some u=>
   have:=st a oe0 he0 hna (.inl (by rw[e];exact fun z=>nomatch z))
   rw[hBa] at this
   cases this
 have hs0a:∀o,s0.heap.get? a≠some o:=fun o e=>by
  have:=st a oe0 he0 hna (.inr ⟨o,e⟩)
  rw[hBa] at this
  cases this
 refine wpAny_looks_onW hF hfr fl0 fun h4 held4 us4=>?_
 refine wpAny_landsW held4 fun h5 fl5 us5=>?_
 have un5:Un (frs X.stack) [] H1 H' s0.heap h5:=st.un fl5.1 (us4.trans us5) nf un
 have ok5:HOk X.prog X.w H' h5:=st.hok fl5.1 hf hok
 have I5:Inv (X.pnd (X.pn++pins)) ps σ1 H' { s1 with heap:=h5 }:=I1.W4 (s':={ s1 with heap:=h5 }) hos un5 ok5 hgn (fun b z=>nomatch z)
 have M5:=I5.mark (.ref a)
 refine wpAny_handleBy_cons (codeAny_handlers_test (z5f (X:=(X.pnd (X.pn++pins)).mark (.ref a)) M5 hg er.mgC ?_ hdb)) (by intro q;cases q)
 obtain⟨bm,Ns,nm,q,bs,hdct,sn,sub,ab,col,dd,k0,k1,k2,k3,k5,mN,hC,hN',hni,T⟩:=((⟨rfl,hc.ex⟩:Err X.K (fun _=>some (.ref c)) x c).obj I5.kIn).obj
 obtain⟨bmD,NsD,nmD,qD,bsD,w0c,snD,subD,abD,colD,ddD,j0,j1,j2,j3,j5,mND,hD,hND,hniD,TD⟩:=(er.obj I5.kIn).obj
 obtain⟨oe5,vs5,he5,hc5,hd5,_⟩:=fl5.first
 have hcD:(Value.ref c::bm).contains (.ref D)=true:=by
  obtain⟨cd,e1,e2⟩:=Option.bind_eq_some_iff.mp hc.sub
  unfold PySem.W.clsIn at e1
  split at e1
  ·rename_i c' d' cd' sl' ho
   cases e1
   have:=I5.kIn _ _ ho
   rw[hC] at this
   cases this
   split at e2
   ·cases e2
   ·exact Option.some.inj e2
  ·cases e1
 refine y1z hC hD he5 hc5 (TD.hasType fV.hasBase) hcD ?_
 refine codeAny_handlers_suite_as ?_
 refine lands_againW fl5 fun h6 fl6 us6=>?_
 have X1:Un (frs X.stack) [] H1 H' s0.heap h6:=st.un fl6.1 ((us4.trans us5).trans us6) nf un
 have ok6':HOk X.prog X.w H' h6:=st.hok fl6.1 hf hok
 obtain⟨oe6,vs6,he6,hc6,hd6,_⟩:=fl6.first
 have un6:Un (frs X.stack) [] H1 (upd H' a (R7 a (.ref c))) s0.heap h6:=
  ⟨X1.keep,X1.slot,fun b o q n hx=>by
   rw[z0e (fun z=>by rw[z] at q;exact hs0a o q)]
   exact X1.free b o q n hx,X1.there,fun b xs q=>by
   have:=X1.P8 b xs q
   rw[z0e (fun z=>by rw[z,Y1] at this;cases this)]
   exact this,fun b o u q=>by
   have:=X1.O1 b o u q
   rw[z0e (fun z=>by rw[z,Y1] at this;cases this)]
   exact this,fun b ps q=>by
   obtain⟨m,e⟩:=X1.P7 b ps q
   exact⟨m,by rw[z0e (fun z=>by rw[z,Y1] at e;cases e)];exact e⟩⟩
 have keep:∀{b:Addr}{u:HO},H' b=some u->upd H' a (R7 a (.ref c)) b=some u:=fun {b u} e=>by
  rw[z0e (fun z=>by rw[z,Y1] at e;cases e)]
  exact e
 have ok6:HOk X.prog X.w (upd H' a (R7 a (.ref c))) h6:=fun b o e=>by
  by_cases hba:b=a
  ·subst hba
   rw[z04] at e
   cases e
   exact y7v he6 hc6 hd6
  ·rw[z0e hba] at e
   exact(ok6' b o e).V3 (fun _ _ _ q=>q) (fun _ q=>keep q) (fun _ _ q=>keep q)
 have I6:Inv (X.pnd (X.pn++pins)) ps σ1 (upd H' a (R7 a (.ref c))) { s1 with heap:=h6 }:=I1.W4 (s':={ s1 with heap:=h6 }) hos un6 ok6 hgn (fun b z=>nomatch z)
 refine z9K (X:=(X.pnd (X.pn++pins)).mark (.ref a)) (I6.mark (.ref a)) hN hi (.inl hl) (v:=.ref a) rfl (fun s7 I7=>?_) (.inr hl)
 refine wpAny_mono (hs (X.pn++pins) (.ref a) ps s7 _ _ _ I7 (hsu a Y1)) (fun f s8 q=>?_) (fun _ _ z=>z.elim)
 have ok1:(X.pnd (X.pn++pins)).Ok:=I.ok.pnd _
 cases f with
 | next=>
  obtain⟨σ',H2,J,q⟩:=q
  exact z5T (X:=X.pnd (X.pn++pins)) (J.unmark ok1) hN hi hl fun s9 J9=>⟨_,_,J9.Q0 I.ok,q⟩
 | brk=>
  obtain⟨σ',H2,J,q⟩:=q
  exact z5T (X:=X.pnd (X.pn++pins)) (J.unmark ok1) hN hi hl fun s9 J9=>⟨_,_,J9.Q0 I.ok,q⟩
 | cont=>
  obtain⟨σ',H2,J,q⟩:=q
  exact z5T (X:=X.pnd (X.pn++pins)) (J.unmark ok1) hN hi hl fun s9 J9=>⟨_,_,J9.Q0 I.ok,q⟩
 | ret u=>
  obtain⟨v,σ',H2,J,r,q⟩:=q
  exact z5T (X:=X.pnd (X.pn++pins)) (J.unmark ok1) hN hi hl fun s9 J9=>⟨v,_,_,J9.Q0 I.ok,r,q⟩
structure Thr(X:Cx)(EX:St->XK):Prop where
 pass:∀(pins:List (Addr×Obj)) (σ:St) (H:Hp) (s:Shared) (e:Value) (s':Shared),Inv X pins σ H s->CX1 X.prog X.w X.stack H s (EX σ) e s'->X.xe e s'
theorem z1i{P:Program}{w:World}{K:PySem.W.Frag}{mg:Str->Option Value}{base:Heap}{N:List Str}{qual:Str}{scope:Scope}{f:Addr}{cd:Value}{A:Around}{outer:List Env}{s0:Shared}{H0:Hp}{E:XK}:Thr (B8 (CX1 P w) P w K mg base N qual scope f cd A outer s0 H0 E) (fun _=>E):=⟨y7K⟩
theorem z4K{X:Cx}{EX:St->Value->Hp->Prop}:Thr (X.J2 (xw X EX)) (fun σ C _ H'=>EX σ C H'):=⟨fun pins σ H s e s' I h=>⟨pins,σ,H,s,I.F9,h⟩⟩
section
variable{X:Cx}{k:Nat}{f C:Addr}{fd:FuncData}{ps:List Str}{sp:Sp}{EX:St->XK}{x m:Str}{p pos apos:Pos}{e o:Expr}{es:List Expr}{ta:TE}{t:TA}
theorem y1n{pins:List (Addr×Obj)}{σ:St}{H:Hp}{s:Shared}{Q:VK}{us:List Value}{vs:List V}(T:Thr X EX)(F:A8 X.prog X.w X.K X.mg X.base (CX1 X.prog X.w) k f fd ps sp)(hr:E5 k X.A)(hb:z1D X.K fd ps [])
  (I:Inv X pins σ H s) (r:Vals vs us) (h:sp vs H Q (EX σ)):wpAny (model X.prog X.w) X.A (call (.ref f) us) (EP X pins σ Q) X.xe s:=by
 have hl:(us++[]).length=ps.length:=by rw[cU,<- r.length];exact F.len _ _ _ _ h
 have r2:Vals (vs++[]) (us++[]):=r.append .nil
 rw[<- cU vs] at h
 refine wpAny_call (codeAny_mono (F.run X.A X.stack s H ⟨us,[]⟩ (us++[]) (vs++[]) Q (EX σ) hr I.w0G (hb s us I.kIn hl) r2 h) fun r s' hq=>?_)
 cases r with
 | error e=>exact T.pass pins σ H s e s' I hq
 | ok fl=>
  cases fl with
  | ret u=>exact I.after hq
  | next=>exact False.elim hq
  | brk=>exact False.elim hq
  | cont=>exact False.elim hq
noncomputable def y83(sp:Sp)(EX:St->XK)(t:TA):TE:=fun σ H Q=>t σ H fun vs H1=>sp vs H1 Q (EX σ)
noncomputable def y6s(C:Addr)(m:Str)(sp:Sp)(EX:St->XK)(ta:TE)(t:TA):TE:=fun σ H Q=>ta σ H fun x H1=>∃a dx fs,x=.ref a/\H1 a=some (.ins C dx fs)/\fs.lookup m=none/\
 t σ H1 fun vs H2=>sp (x::vs) H2 Q (EX σ)
structure K4(P:Program)(w:World)(K:PySem.W.Frag)(mg:Str->Option Value)(base:Heap)(k:Nat)(x:Str)(ps:List Str)(sp:Sp):Prop where
 ex:∃(f:Addr) (fd:FuncData),A8 P w K mg base (CX1 P w) k f fd ps sp/\z1D K fd ps []/\PySem.W.keepIn K (.ref f)=true/\mg x=some (.ref f)
structure K2(P:Program)(w:World)(K:PySem.W.Frag)(mg:Str->Option Value)(base:Heap)(k:Nat)(C:Addr)(m:Str)(ps:List Str)(sp:Sp):Prop where
 cl:Cls K C
 ex:∃(f:Addr) (fd:FuncData),A8 P w K mg base (CX1 P w) k f fd ps sp/\z1D K fd ps []/\Meth K C m f
structure MkrX(P:Program)(w:World)(K:PySem.W.Frag)(mg:Str->Option Value)(base:Heap)(k:Nat)(C:Addr)(x:Str)(ps:List Str)(sp:Sp):Prop where
 ex:∃(f:Addr) (fd:FuncData),A8 P w K mg base (CX1 P w) k f fd ps sp/\z1D K fd ps []/\Mk K C f/\mg x=some (.ref C)
theorem z1x(T:Thr X EX)(G:K4 X.prog X.w X.K X.mg X.base k x ps sp)(hr:E5 k X.A)(hg:Gl X x)(ha:PA X (e::es) t)
  (hdb:(x == ("__debug__":Str))=false:=by decide) (he:starEach (e::es) X.env=(false,eval e X.env)::starEach es X.env:=by rfl) (hpl:(backTo pos (starEach es X.env)).any (·.1)=false:=by rfl) :
  PE X (.Call (.Name x p) (e::es) [] pos) (y83 sp EX t):=by
 obtain⟨f,fd,F,hb,hk,hm⟩:=G.ex
 intro pins s σ H Q I h
 refine wpAny_Call_Name_kw (z5f I hg hm ?_ hdb)
 refine fE (h₀:=X.base) I.ok.mod.kin hk (thn (ha pos pins s σ H _ I h) fun us s1 ⟨vs,H1,I1,r,q⟩=>⟨I1.kIn,?_⟩) he hpl
 exact y1n T F hr hb I1 r q
theorem z3g{pl:Sem Bool}(T:Thr X EX)(G:K2 X.prog X.w X.K X.mg X.base k C m ps sp)(hr:E5 k X.A)(he:PE X o ta)(ha:PA X (e::es) t)
  (hst:starEach (e::es) X.env=(false,eval e X.env)::starEach es X.env:=by rfl) (hpl:(backTo pos (starEach es X.env)).any (·.1)=false:=by rfl)
  (ht:eval (.Call (.Attribute o m apos) (e::es) [] pos) X.env=(do
   let ov <- eval o X.env
   standAt apos.atName
   let (f,first) <- holding [ov] (getMethod ov m pl)
   callWith pos f first (backTo pos (starEach (e::es) X.env)) (backToKw pos (keywordEach [] X.env))):=by rfl) :
  PE X (.Call (.Attribute o m apos) (e::es) [] pos) (y6s C m sp EX ta t):=by
 obtain⟨f,fd,F,hb,hm⟩:=G.ex
 intro pins s σ H Q I h
 refine dX (pl:=pl) (thn (he pins s σ H _ I h) fun u s1 hz=>?_) ht
 obtain⟨x,H1,I1,rx,a,dx,fs,ex,ea,l,q⟩:=hz
 subst ex
 obtain rfl:u=Value.ref a:=rx
 refine z3P I1 ea G.cl hm l ?_
 refine fE (first:=[.ref a]) (h₀:=X.base) I.ok.mod.kin hm.kp (thn (ha pos pins s1 σ H1 _ I1 q) fun us s2 ⟨vs,H2,I2,r,q2⟩=>⟨I2.kIn,?_⟩) hst hpl
 exact y1n (us:=.ref a::us) (vs:=.ref a::vs) T F hr hb I2 (.cons rfl r) q2
theorem y09{pl:Sem Bool}(T:Thr X EX)(G:K2 X.prog X.w X.K X.mg X.base k C m ps sp)(hr:E5 k X.A)(he:PE X o ta)
  (ht:eval (.Call (.Attribute o m apos) [] [] pos) X.env=(do
   let ov <- eval o X.env
   standAt apos.atName
   let (f,first) <- holding [ov] (getMethod ov m pl)
   callWith pos f first (backTo pos (starEach [] X.env)) (backToKw pos (keywordEach [] X.env))):=by rfl) :
  PE X (.Call (.Attribute o m apos) [] [] pos) (y6s C m sp EX ta X7):=by
 obtain⟨f,fd,F,hb,hm⟩:=G.ex
 intro pins s σ H Q I h
 refine dX (pl:=pl) (thn (he pins s σ H _ I h) fun u s1 hz=>?_) ht
 obtain⟨x,H1,I1,rx,a,dx,fs,ex,ea,l,q⟩:=hz
 subst ex
 obtain rfl:u=Value.ref a:=rx
 refine z3P I1 ea G.cl hm l ?_
 exact PySem.W.callWith_K0 (first:=[.ref a]) I1.kIn hm.kp (y1n (us:=[.ref a]) (vs:=[.ref a]) T F hr hb I1 (.cons rfl .nil) q)
end
section
variable{P:Program}{w:World}{K:PySem.W.Frag}{mg:Str->Option Value}{base:Heap}
theorem A8.toX{k:Nat}{f:Addr}{fd:FuncData}{ps:List Str}{sp:Sp}(F:A8 P w K mg base CX0 k f fd ps sp):A8 P w K mg base (CX1 P w) k f fd ps sp:=
 ⟨F.len,fun A outer s H args us vs Q E hr he hb hv hs=>codeAny_mono (F.run A outer s H args us vs Q E hr he hb hv hs) fun r s' q=>by
  cases r with
  | error e=>exact False.elim q
  | ok fl=>cases fl<;>exact q⟩
theorem Fun.okX{x qual:Str}{st:Stmt}{f:Addr}{fd:FuncData}{N ps:List Str}{k:Nat}{sp:Sp}(F:Fun K x qual st f fd)(S:A3 N ps (z07 st))(len:∀vs H Q E,sp vs H Q E->vs.length=ps.length)
  (R1:∀(cdv:Value) (A:Around) (outer:List Env) (s:Shared) (H:Hp) (vs:List V) (Q:VK) (E:XK),E5 k (A.deeper (envOfC qual (z07 st) s.heap.objs.size f cdv))->sp vs H Q E->
   ∃t,PSs (B8 (CX1 P w) P w K mg base N qual (z07 st) f cdv A outer s H E) (z1c st) t/\t { nx:=fun _ H'=>Q .non H',rt:=Q } (z5h N vs) H):A8 P w K mg base (CX1 P w) (k+1) f fd ps sp:=by
 obtain⟨oc,od,kV,doc,pm,an,cdv,ct,osl,rfl,lk,hcd⟩:=F.ex
 exact y58 lk hcd S len fun A outer s H vs Q E hr hsp=>R1 cdv A outer s H vs Q E hr hsp
theorem w0W(P:Program)(w:World)(K:PySem.W.Frag)(mg:Str->Option Value)(base:Heap){k:Nat}{x:Str}{ps:List Str}{sp:Sp}{st:Stmt}{f:Addr}{fd:FuncData}(F:Fun K x x st f fd/\mg x=some (.ref f))(a:A8 P w K mg base (CX1 P w) k f fd ps sp)(b:z1D K fd ps []):K4 P w K mg base k x ps sp:=⟨f,fd,a,b,F.1.kp,F.2⟩
theorem w11(P:Program)(w:World)(K:PySem.W.Frag)(mg:Str->Option Value)(base:Heap){k:Nat}{C:Addr}{x q:Str}{ps:List Str}{sp:Sp}{st:Stmt}{f:Addr}{fd:FuncData}(c:Cls K C)(F:Fun K x q st f fd/\Meth K C x f)(a:A8 P w K mg base (CX1 P w) k f fd ps sp)(b:z1D K fd ps []):K2 P w K mg base k C x ps sp:=⟨c,f,fd,a,b,F.2⟩
theorem w0S(P:Program)(w:World)(K:PySem.W.Frag)(mg:Str->Option Value)(base:Heap){k:Nat}{C:Addr}{x y q:Str}{ps:List Str}{sp:Sp}{st:Stmt}{f:Addr}{fd:FuncData}(c:mg x=some (.ref C))(F:Fun K y q st f fd/\Mk K C f)(a:A8 P w K mg base (CX1 P w) k f fd ps sp)(b:z1D K fd ps []):MkrX P w K mg base k C x ps sp:=⟨f,fd,a,b,F.2,c⟩
theorem K4.up{j k:Nat}{x:Str}{ps:List Str}{sp:Sp}(G:K4 P w K mg base j x ps sp)(h:j≤k:=by decide):K4 P w K mg base k x ps sp:=let ⟨f,fd,a,b,c⟩:=G.ex;⟨f,fd,a.mono h,b,c⟩
theorem K2.up{j k:Nat}{C:Addr}{x:Str}{ps:List Str}{sp:Sp}(G:K2 P w K mg base j C x ps sp)(h:j≤k:=by decide):K2 P w K mg base k C x ps sp:=let ⟨f,fd,a,b,c⟩:=G.ex;⟨G.cl,f,fd,a.mono h,b,c⟩
end
end L2
namespace L2
open PySem PySem.Spec PyProof.Rows PySem.W PySem.Calls PySem.Builtin PySem.Builtin.ObjectAttr PySem.Builtin.Getset_descriptor
section
variable{prog:Program}{w:World}{A:Around}{E:Value->Shared->Prop}{s:Shared}{K:Frag}{a C:Addr}{o:Obj}
theorem y84{R:Result->Shared->Prop}{tp:Value}(X:K.In s.heap)(hx:s.heap.get? a=some o)(hc:o.cls=.ref C)(hm:mroIn K C (.type "object")=some true)
  (h:R (.ok (.ret (.ref C))) s):codeAny (model prog w) A (.call (.builtin "getset_descriptor.__get__") ⟨[.builtin "object.__class__",.ref a,tp],[]⟩) R s:=by
 obtain⟨hh,g,dr,t,os⟩:=s
 have L0:Looks (model prog w) hh (typeOf (.ref a)) (.ref C):=hc ▸ (Looks.ld hx).andThen .now
 have L1:=looks_mroIn (M:=model prog w) X hm
 refine codeAny_call_builtin KF.slot_gs.plain KF.entry_gs (KF.slot_gs.check _ _ _ _ _ _ _ _ KF.type_class (KF.args_gs _ _ _) ?_)
 unfold Builtin.«getset_descriptor.__get__» descrGet
 rw[dga_obj]
 refine wpAny_bind (wpAny_pure ?_)
 unfold descrGetter descrCheckInstance descrNameAndClass isInstance
 simp only[KF.owner_class]
 repeat lk
 refine⟨Code.quiet_builtin _ (by decide +kernel),codeAny_builtin KF.entry_class ?_⟩
 unfold Builtin.«object.__class__» shownTypeOf
 repeat lk
 exact h
theorem y5T{tk:Tok}{Q:Fin->Shared->Prop}(X:K.In s.heap)(hx:s.heap.get? a=some o)(hc:o.cls=.ref C)(ha:findIn K (.ref C) "__class__"=some (some (.builtin "object.__class__")))
  (hm:mroIn K C (.type "object")=some true) (hq:Q (.done (.ret (.ref C))) s) :
  wpAny (model prog w) A (Builtin.«object.__getattribute__» ⟨[.ref a,.str "__class__" tk],[]⟩) Q E s:=by
 obtain⟨hh,g,dr,t,os⟩:=s
 have L0:Looks (model prog w) hh (typeOf (.ref a)) (.ref C):=hc ▸ (Looks.ld hx).andThen .now
 have L3:=looks_findIn (M:=model prog w) X ha
 have hT5:(⟨hh,g,dr,t,os⟩:Shared).TypeIs (.builtin "object.__class__") "getset_descriptor":=F.typeOf_object_class
 have f5:=F.typeOf_object_class
 have f6:=F.slot_gs_get.lookup
 have f7:=F.slot_gs_set.lookup
 repeat (any_goals (first|assumption|(with_reducible refine wpAny_loadPart_at hx ?_;rw[hc])|with_reducible refine L3.at ?_|wp_step))
 refine y84 X hx hc hm ?_
 repeat (any_goals (first|assumption|wp_step))
theorem y5Y{M:Model}{w0h:Value}{Q:Unit->Shared->Prop}(X:K.In s.heap)(hx:s.heap.get? a=some o)(hc:o.cls=.ref C)(hb:mroIn K C (.type "BaseException")=some true)(hq:Q () s) :
  wpAny M A (checkBuiltinCall "BaseException.__getattribute__" ⟨[.ref a,w0h],[]⟩) Q E s:=by
 obtain⟨hh,g,dr,t,os⟩:=s
 have L1:=looks_mroIn (M:=M) X hb
 have hk:builtinKind "BaseException.__getattribute__"=some .slot:=by decide +kernel
 have w0n:splitId "BaseException.__getattribute__"=some ("BaseException","__getattribute__"):=by decide +kernel
 have ha:=F.args_bexc_ga (.ref a) w0h
 simp only[checkBuiltinCall,hk,w0n]
 refine wpAny_bind ?_
 ·unfold isInstance
  repeat (first|(with_reducible refine wpAny_loadPart_at hx ?_;rw[hc])|with_reducible refine L1.at ?_|wp_step)
  exact hq
theorem w18{tk:Tok}{fill expr:Bool}{Q:Value->Shared->Prop}(X:K.In s.heap)(hx:s.heap.get? a=some o)(hc:o.cls=.ref C)(ha:findIn K (.ref C) "__class__"=some (some (.builtin "object.__class__")))
  (hga:findIn K (.ref C) "__getattribute__"=some (some (.builtin "BaseException.__getattribute__"))) (hgn:findIn K (.ref C) "__getattr__"=some none)
  (hm:mroIn K C (.type "object")=some true) (hb:mroIn K C (.type "BaseException")=some true) (hq:Q (.ref C) s) :
  wpAny (model prog w) A (getAttrBy (.ref a) (.str "__class__" tk) fill expr) Q E s:=by
 obtain⟨hh,g,dr,t,os⟩:=s
 have L1:=looks_findIn (M:=model prog w) X hga
 have L2:=looks_findIn (M:=model prog w) X hgn
 have f3:=F.excAttr_ValueError.ga.bind (.ref a)
 have hx0:(expr && onTheHeap (Value.builtin "BaseException.__getattribute__"))=false:=by cases expr<;>rfl
 have hx2:(Value.builtin "BaseException.__getattribute__" == Value.builtin "object.__getattribute__")=false:=by decide +kernel
 have hx1:(onTheHeap (Value.ref C) && Value.builtin "BaseException.__getattribute__" == Value.builtin "object.__getattribute__")=false:=by rw[hx2];rfl
 repeat (any_goals (first|assumption|(with_reducible refine wpAny_loadPart_at hx ?_;rw[hc])|with_reducible refine L1.at ?_|with_reducible refine L2.at ?_|wp_step))
 refine codeAny_call_builtin F.excAttr_ValueError.ga.plain F.entry_bexc_ga (y5Y X hx hc hb (y5T X hx hc ha hm ?_))
 repeat (any_goals (first|assumption|wp_step))
theorem y6Y{Q:Option Value->Shared->Prop}(X:K.In s.heap)(hx:s.heap.get? a=some o)(hc:o.cls=.ref C)(ha:findIn K (.ref C) "__class__"=some (some (.builtin "object.__class__")))
  (hga:findIn K (.ref C) "__getattribute__"=some (some (.builtin "BaseException.__getattribute__"))) (hgn:findIn K (.ref C) "__getattr__"=some none)
  (hm:mroIn K C (.type "object")=some true) (hb:mroIn K C (.type "BaseException")=some true) (hq:Q (some (.ref C)) { s with toks:=s.toks+1 }) :
  wpAny (model prog w) A (getAttr? (.ref a) "__class__") Q E s:=by
 obtain⟨hh,g,dr,t,os⟩:=s
 unfold getAttr? getAttrBy?
 refine wpAny_bind (wpAny_mkText (wpAny_bind (wpAny_attempt (w18 (s:=⟨hh,g,dr,t+1,os⟩) X hx hc ha hga hgn hm hb ?_))))
 exact wpAny_pure hq
end
noncomputable def y6d(K:Frag)(B c:Addr):Bool:=excIn K c veL "ValueError.__new__" && (mroIn K c (.ref B) == some true) && (mroIn K c (.type "object") == some true) && (mroIn K c (.type "BaseException") == some true) && (findIn K (.ref c) "__class__" == some (some (.builtin "object.__class__"))) &&
 (findIn K (.ref c) "__getattribute__" == some (some (.builtin "BaseException.__getattribute__"))) && (findIn K (.ref c) "__getattr__" == some none) && (kitOne K (.ref c) (.type "ValueError") == some true) && (clsIn K c).isSome
noncomputable def y0H(K:Frag)(B:Addr)(cs:List Addr):Bool:=cs.all (y6d K B) && cs.all (fun c=>cs.all fun d=>kitOne K (.ref c) (.ref d) == some (c == d)) && decide cs.Nodup
structure w0a(K:Frag)(C:Addr):Prop where
 ha:findIn K (.ref C) "__class__"=some (some (.builtin "object.__class__"))
 hga:findIn K (.ref C) "__getattribute__"=some (some (.builtin "BaseException.__getattribute__"))
 hgn:findIn K (.ref C) "__getattr__"=some none
 hm:mroIn K C (.type "object")=some true
 hb:mroIn K C (.type "BaseException")=some true
 hv:kitOne K (.ref C) (.type "ValueError")=some true
 cl:(clsIn K C).isSome=true
structure V5(K:Frag)(B:Addr)(cs:List Addr):Prop where
 chk:y0H K B cs=true
theorem V5.one{K:Frag}{B:Addr}{cs:List Addr}(E:V5 K B cs){c:Addr}(h:c∈cs):Under K c B/\w0a K c:=by
 have q:=E.chk
 unfold y0H at q
 rw[bW,bW] at q
 have:=eM.mp q.1.1 c h
 unfold y6d at this
 simp only[bW,beq_iff_eq] at this
 obtain⟨⟨⟨⟨⟨⟨⟨⟨h1,h2⟩,h3⟩,h4⟩,h5⟩,h6⟩,h7⟩,h8⟩,h9⟩:=this
 exact⟨⟨h1,h2⟩,h5,h6,h7,h3,h4,h8,h9⟩
theorem V5.two{K:Frag}{B:Addr}{cs:List Addr}(E:V5 K B cs){c d:Addr}(h:c∈cs)(h':d∈cs):kitOne K (.ref c) (.ref d)=some (c == d):=by
 have q:=E.chk
 unfold y0H at q
 rw[bW,bW] at q
 exact beq_iff_eq.mp (eM.mp (eM.mp q.1.2 c h) d h')
theorem V5.nd{K:Frag}{B:Addr}{cs:List Addr}(E:V5 K B cs):cs.Nodup:=by
 have q:=E.chk
 unfold y0H at q
 rw[bW] at q
 exact of_decide_eq_true q.2
theorem y1N{K:Frag}{a D:Addr}(x:w0a K D):KitX K (.ref a) (.ref D) (fun h=>∃o vs,h.get? a=some o/\o.cls=.ref D/\o.data=.fields vs) where
 ty:=fun M h _ ⟨o,vs,e,c,_⟩=>c ▸ (Looks.ld e).andThen .now
 it:=fun _ _ X _=>by
  have hcD:=x.cl
  unfold clsIn at hcD
  split at hcD
  ·rename_i c' d' cd' sl' ho
   intro A' Q' E' s' k q
   unfold isType loadHead
   exact wpAny_bind (wpAny_loadPart (k _ _ (X _ _ ho)) (wpAny_pure q))
  ·cases hcD
 ne:=fun h tp dd its n sl X htp=>by
  have hcD:=x.cl
  refine fJ.mpr fun q=>?_
  have e:D=tp:=Value.ref.inj (beq_iff_eq.mp q)
  subst e
  unfold clsIn at hcD
  split at hcD
  ·rename_i c' d' cd' sl' ho
   have z:=(X _ _ ho).symm.trans htp
   cases z
  ·cases hcD
 ca:=fun X ⟨o,vs,e,c,_⟩ k=>y6Y X e c x.ha x.hga x.hgn x.hm x.hb k
section
variable{X:Cx}
theorem z3W{K:Frag}(hK:X.K=K):z3L X (.builtin "isinstance") (fun xs H Q=>∃a C D b,xs=[.ref a,.ref D]/\H a=some (R7 a (.ref C))/\w0a K C/\kitOne K (.ref C) (.ref D)=some b/\Q (.bl b) H):=by
 subst hK
 intro pins s σ H xs us Q I r h
 obtain⟨a,C,D,b,rfl,ea,xc,e,q⟩:=h
 obtain⟨u,w',rfl,rx,ry⟩:=y2X r
 cases (show u=Value.ref a from rx)
 cases (show w'=Value.ref D from ry)
 have ok:z1t X.prog X.w H s.heap a (R7 a (.ref C)):=I.hok a _ ea
 exact kia_one (y1N xc) I.kIn ok.1 e (fun z=>nomatch z) fun tk=>⟨.bl b,H,I.tok _,rfl,q⟩
theorem y4I{K:Frag}(hK:X.K=K):z3L X (.builtin "isinstance") (fun xs H Q=>∃a C T b,xs=[.ref a,.ty T]/\H a=some (R7 a (.ref C))/\w0a K C/\kitOne K (.ref C) (.type T)=some b/\Q (.bl b) H):=by
 subst hK
 intro pins s σ H xs us Q I r h
 obtain⟨a,C,T,b,rfl,ea,xc,e,q⟩:=h
 obtain⟨u,w',rfl,rx,ry⟩:=y2X r
 cases (show u=Value.ref a from rx)
 cases (show w'=Value.type T from ry)
 have ok:z1t X.prog X.w H s.heap a (R7 a (.ref C)):=I.hok a _ ea
 exact kia_one (y1N xc) I.kIn ok.1 e (fun z=>nomatch z) fun tk=>⟨.bl b,H,I.tok _,rfl,q⟩
theorem z7L{x:Str}{C:Addr}{pos:Pos}(hg:Gl X x)(hm:X.mg x=some (.ref C))(hdb:(x == ("__debug__":Str))=false:=by decide):PE X (.Name x pos) (fun _ H Q=>Q (.ref C) H):=fun pins s σ H Q I h=>
 z5f I hg hm ⟨.ref C,H,I,rfl,h⟩ hdb
end
end L2
namespace L2
open PySem PySem.Spec PyProof.Rows
section
variable{X:Cx}
noncomputable def y7f(K:PySem.W.Frag):V->List V->Hp->VK->Prop:=fun x vs H Q=>∃(l:Addr) (zs:List V) (z:V) (j:Nat),x=.ref l/\vs=[z]/\SqL K H l zs/\z22 z=true/\zs.all z22=true/\j<zs.length/\eqV (zs.getD j .non) z=true/\(∀m,m<j->eqV (zs.getD m .non) z=false)/\Q (.int (j:Nat)) H
theorem y4y:MtM X "list.index" (y7f X.K):=by
 intro pins s σ H x vs v us Q I rx rv h
 obtain⟨l,zs,z,j,rfl,rfl,hL,fz,fzs,hj,ej,hno,q⟩:=h
 cases rx
 obtain⟨u,rfl,ru⟩:=rv.one
 obtain⟨its,r,pl,hz⟩:=I.list hL
 have lr:=r.length
 have line:=sizeLine_eq
 have at_:∀(m:Nat) (hm:m<its.toArray.size),eqU z its.toArray[m]=eqV (zs.getD m .non) z:=fun m hm=>by
  have hm':m<its.length:=by rw[bF] at hm;exact hm
  obtain⟨q1,q2⟩:=z6P r fzs m hm'
  rw[List.getElem_toArray]
  exact y1Y q1 q2
 obtain⟨⟨cls,dd,data,sl⟩,ho,hc,n,hd⟩:=id pl.isList
 simp only at hc hd
 subst hc hd
 have hjs:j<its.toArray.size:=by rw[bF];omega
 refine call_meets F.slot_list_index ⟨_,ho,rfl⟩ F.entry_list_index (F.args_list_index_2 _ _)
  (SeqAt.list_indexAt l its.toArray n dd sl u (eqU z) j hjs (by omega) (by rw[at_ j hjs];exact ej) (fun m hm hlt=>by rw[at_ m hm];exact hno m hlt))
  ⟨ho,fun w hw=>z4X ru fz r fzs w (by simpa using hw),?_⟩
 exact⟨.int j,H,I.tok _,⟨_,rfl⟩,q⟩
end
theorem y6N:bootBuiltins "ValueError"=some (.type "ValueError"):=by first|rfl|kernel_rfl
noncomputable def I0(a b:Sp):Sp:=fun vs H Q E=>a vs H Q E\/b vs H Q E
theorem A8.or{P:Program}{w:World}{K:PySem.W.Frag}{mg:Str->Option Value}{base:Heap}{CX:CXT}{k:Nat}{f:Addr}{fd:FuncData}{ps:List Str}{a b:Sp}(F:A8 P w K mg base CX k f fd ps a)(G:A8 P w K mg base CX k f fd ps b):A8 P w K mg base CX k f fd ps (I0 a b):=
 ⟨fun vs H Q E h=>h.elim (F.len vs H Q E) (G.len vs H Q E),fun A outer s H args us vs Q E hr he hb hv h=>h.elim (F.run A outer s H args us vs Q E hr he hb hv) (G.run A outer s H args us vs Q E hr he hb hv)⟩
noncomputable def y5x(B:Heap)(l:List Env)(a:Addr)(C a0:Value)(L:Addr)(h:Heap):Prop:=Heap.FlyingW B l a C a0 h\/Heap.HeldW B l a C a0 L h
theorem y5x.stays{B h:Heap}{l:List Env}{a L:Addr}{C a0:Value}(x:y5x B l a C a0 L h):B.StaysIn h/\B.get? a=none/\h.FunFrames B l:=x.elim (fun y=>⟨y.1,y.2.1,y.2.2.1⟩) fun y=>⟨y.1,y.2.1,y.2.2.1⟩
noncomputable def xh(X:Cx)(EX:St->Value->Hp->Prop):Value->Shared->Prop:=fun e s'=>∃(pins:List (Addr×Obj)) (σ:St) (H:Hp) (s:Shared),Inv X pins σ H s/\∃(a:Addr) (C:Value) (H':Hp) (B:Heap) (a0:Value),e=.ref a/\s'.os=s.os/\AllBare s'.gens/\Un (frs X.stack) [] H H' s.heap s'.heap/\HOk X.prog X.w H' s'.heap/\
 y5x B X.stack a C a0 X.env.locals s'.heap/\P9 (frs X.stack) s.heap s'.heap H' B/\EX σ C H'
theorem w0P{X:Cx}{EX:St->Value->Hp->Prop}{e:Value}{s':Shared}(h:xw X EX e s'):xh X EX e s':=by
 obtain⟨pins,σ,H,s,I,a,C,H',B,a0,h1,h2,h3,h4,h5,h6,h7,h8⟩:=h
 exact⟨pins,σ,H,s,I,a,C,H',B,a0,h1,h2,h3,h4,h5,.inl h6,h7,h8⟩
theorem y7y{X:Cx}{EX:St->Value->Hp->Prop}{pins:List (Addr×Obj)}{σ:St}{H H':Hp}{s s':Shared}{a:Addr}{C a0:Value}{B h2:Heap}(I:Inv X pins σ H s)(hos:s'.os=s.os)(hg:AllBare s'.gens)(un:Un (frs X.stack) [] H H' s.heap s'.heap)(hok:HOk X.prog X.w H' s'.heap)
  (fl:s'.heap.FunFrames B X.stack) (st:P9 (frs X.stack) s.heap s'.heap H' B) (hE:EX σ C H') (us:s'.heap.UpToSlots h2) (fl2:y5x B X.stack a C a0 X.env.locals h2):xh X EX (.ref a) { s' with heap:=h2 }:=by
 have hf:∀b∈frs X.stack,H' b=none:=fun b hb=>by
  obtain⟨_,o,ho,_⟩:=I.stack.mem hb
  exact un.free b o ho (I.L9 b hb) (fun z=>nomatch z)
 have nf:∀b∈frs X.stack,∃o,s'.heap.get? b=some o/\∀vs,o.data≠.fields vs:=fun b hb=>(fl.mem hb).2
 have k:=fl2.stays.1
 exact⟨pins,σ,H,s,I,a,C,H',B,a0,rfl,hos,hg,st.un k us nf un,st.hok k hf hok,fl2,st.next k hok hf (fun b o q=>un.there b o q (fun z=>nomatch z)),hE⟩
theorem y3c{X:Cx}{EX:St->Value->Hp->Prop}(hst:X.stack=X.env::X.outer)(hfr:X.env.frame=some X.env.locals):PassesOwn (model X.prog X.w) X.A X.env (xh X EX):=by
 intro e s' h
 obtain⟨pins,σ,H,s,I,a,C,H',B,a0,rfl,hos,hg,un,hok,fl,st,hE⟩:=h
 have hF:X.A.frames=some (X.env::X.outer):=by rw[<- hst];exact I.ok.frames
 have back:∀{h2:Heap},s'.heap.UpToSlots h2->Heap.HeldW B X.stack a C a0 X.env.locals h2->cameBackBy (model X.prog X.w) X.A X.env (xh X EX) (.ref a) { s' with heap:=h2 }:=by
  intro h2 us hh
  obtain⟨f1,f2,f3,oe,vs,T,oT,ts,he,S6,hd,h1,hnT,hTe,hT,hdT,h3⟩:=hh
  have Z7:3<ts.size:=(dM.mp h3).1
  unfold cameBackBy
  refine wpAny_bind (wpAny_field he hd h1 ?_)
  rw[if_neg (show ¬((Value.ref T == Value.none)=true) from by simp)]
  first|refine wpAny_bind (wpAny_pure ?_)|skip
  unfold setFlight
  refine wpAny_bind (wpAny_field he hd h1 ?_)
  rw[if_pos (show(Value.ref T != Value.none)=true from by simp)]
  rw[hfr]
  have other:∀b,b≠T->(h2.update T (Obj.mapFields (·.setIfInBounds 3 ((some X.env.locals:Option Addr).elim Value.none fun f=>rawInt f)))).get? b=h2.get? b:=fun b hb=>cE _ _ (cS hb)
  have W6:∀b o,h2.get? b=some o->(∀vs,o.data≠.fields vs)->b≠T:=fun b o hb hnf q=>by
   rw[q,hT] at hb;injection hb with hb;subst hb;exact hnf ts hdT
  refine wpAny_setField hT hdT Z7 ?_
  refine y7y (s':=s') (a0:=a0) I hos hg un hok fl.stays.2.2 st hE (us.trans fun b o hb hnf=>⟨o.slots,(other b (W6 b o hb hnf)).trans hb⟩) (.inr ⟨fun b o hbo=>(other b fun q=>by rw[q,hnT] at hbo;cases hbo).trans (f1 b o hbo),f2,f3.of_keeps fun b o hb hnf=>⟨o,(other b (W6 b o hb hnf)).trans hb,rfl⟩,?_⟩)
  exact⟨oe,vs,T,_,_,(other a (cS hTe)).trans he,S6,hd,h1,hnT,hTe,dB _ hT (Obj.isFreed_of_fields (gC hdT _)),gC hdT _,by simp[Z7]⟩
 unfold notedBy
 rcases fl with fl|fl
 ·have fl0:Heap.FlyingW B (X.env::X.outer) a C a0 s'.heap:=by rw[<- hst];exact fl
  refine wpAny_looks_onW hF hfr fl0 fun h4 held us=>back us ?_
  rw[hst]
  exact held
 ·refine wpAny_noteFrame_againW hfr fl.2.2.2 ?_
  exact back (Heap.UpToSlots.refl _) fl
theorem PS.imp{X:Cx}{E1:Value->Shared->Prop}{st:Stmt}{t:TS}(h:PS (X.J2 E1) st t)(hi:∀e s',E1 e s'->X.xe e s'):PS X st t:=fun pins s σ H D I hw=>
 wpAny_mono (h pins s σ H D (I.J2 _) hw) (fun _ _ q=>q.F9) hi
section
variable{P:Program}{w:World}{K:PySem.W.Frag}{mg:Str->Option Value}{base:Heap}{N:List Str}{qual:Str}{scope:Scope}{f:Addr}{cd:Value}{A:Around}{outer:List Env}{s0:Shared}{H0:Hp}{E:XK}
theorem y4Q{e:Value}{s':Shared}(h:xh (B8 (CX1 P w) P w K mg base N qual scope f cd A outer s0 H0 E) (fun _ C H'=>E C none H') e s'):(B8 (CX1 P w) P w K mg base N qual scope f cd A outer s0 H0 E).xe e s':=by
 obtain⟨pins,σ,H,s,I,a,C,H',B,a0,rfl,hos,hg,un,hok,fl,st,hE⟩:=h
 rcases fl with fl|fl
 ·exact y7K pins σ H s (.ref a) s' I ⟨a,C,H',B,a0,rfl,hos,hg,un,hok,fl,st,hE⟩
 have hf:∀b∈frs (envOfC qual scope s0.heap.objs.size f cd::outer),H' b=none:=fun b hb=>by
  obtain⟨_,o,ho,_⟩:=I.stack.mem hb
  exact un.free b o ho (I.L9 b hb) (fun z=>nomatch z)
 have nf:∀b∈frs (envOfC qual scope s0.heap.objs.size f cd::outer),∃o,s'.heap.get? b=some o/\∀vs,o.data≠.fields vs:=fun b hb=>(fl.2.2.1.mem hb).2
 show wpAny (model P w) (A.deeper (envOfC qual scope s0.heap.objs.size f cd)) (leaving (envOfC qual scope s0.heap.objs.size f cd) (.ref a)) _ _ s'
 unfold leaving
 refine wpAny_bind (wpAny_noteFrame_againW (L:=s0.heap.objs.size) rfl fl.2.2.2 ?_)
 refine wpAny_landsW fl fun h' fl' us=>?_
 have un2:=st.un fl'.1 us nf un
 have ok2:HOk P w H' h':=st.hok fl'.1 hf hok
 have st2:=st.next fl'.1 hok hf (fun b o q=>un.there b o q (fun z=>nomatch z))
 exact⟨a,C,H',B,a0,rfl,hos.trans I.os,hg,I.T2 rfl un2,ok2,⟨fl'.1,fl'.2.1,fl'.2.2.1.2.2,fl'.2.2.2⟩,I.T3 rfl hf st2,hE⟩
theorem z7v:Thr ((B8 (CX1 P w) P w K mg base N qual scope f cd A outer s0 H0 E).J2 (xh (B8 (CX1 P w) P w K mg base N qual scope f cd A outer s0 H0 E) (fun _ C H'=>E C none H'))) (fun _=>E):=
 ⟨fun pins σ H s e s' I h=>w0P ⟨pins,σ,H,s,I.F9,h⟩⟩
theorem z87{iter tg:Expr}{body:List Stmt}{wi:TI}{g:TG}{tb:TS}{pos:Pos}
  (hi:PI ((B8 (CX1 P w) P w K mg base N qual scope f cd A outer s0 H0 E).J2 (xh (B8 (CX1 P w) P w K mg base N qual scope f cd A outer s0 H0 E) (fun _ C H'=>E C none H'))) tg iter wi)
  (hg:PG ((B8 (CX1 P w) P w K mg base N qual scope f cd A outer s0 H0 E).J2 (xh (B8 (CX1 P w) P w K mg base N qual scope f cd A outer s0 H0 E) (fun _ C H'=>E C none H'))) tg g)
  (hb:PSs ((B8 (CX1 P w) P w K mg base N qual scope f cd A outer s0 H0 E).J2 (xh (B8 (CX1 P w) P w K mg base N qual scope f cd A outer s0 H0 E) (fun _ C H'=>E C none H'))) body tb)
  (hs:∀x,foldedSetIterable iter (B8 (CX1 P w) P w K mg base N qual scope f cd A outer s0 H0 E).env x=pure x:=by intro _;rfl) :
  PS (B8 (CX1 P w) P w K mg base N qual scope f cd A outer s0 H0 E) (.For tg iter body [] pos) (tFor wi g tb):=
 (z1s (y3c (X:=B8 (CX1 P w) P w K mg base N qual scope f cd A outer s0 H0 E) rfl rfl) rfl hi hg hb hs).imp fun e s' h=>y4Q h
end
noncomputable def z7e(B:Heap)(l:List Env)(a:Addr)(C a0:Value)(h:Heap):Prop:=B.StaysIn h/\B.get? a=none/\h.FunFrames B l/\∃fl,h.TracedAtW B a C a0 fl
theorem z7e.of{B h:Heap}{l:List Env}{a:Addr}{C a0:Value}(x:Heap.FlyingW B l a C a0 h):z7e B l a C a0 h:=⟨x.1,x.2.1,x.2.2.1,_,x.2.2.2.at⟩
section
variable{M:Model}{A:Around}{E:Value->Shared->Prop}{s:Shared}
theorem y2k{base:Heap}{env:Env}{outer:List Env}{L e:Addr}{cls a0:Value}{Q:Unit->Shared->Prop}
  (hfr:A.frames=some (env::outer)) (hf:env.frame=some L) (x:z7e base (env::outer) e cls a0 s.heap)
  (hQ:∀h',Heap.HeldW base (env::outer) e cls a0 L h'->s.heap.UpToSlots h'->Q () { s with heap:=h' }):wpAny M A (noteFrame (.ref e) env) Q E s:=by
 obtain⟨f1,f2,f3,fl,ht⟩:=x
 by_cases hfl:fl=rawInt L
 ·subst hfl
  exact wpAny_noteFrame_againW hf ht (hQ s.heap ⟨f1,f2,f3,ht⟩ (Heap.UpToSlots.refl _))
 obtain⟨oe,vs,T,oT,ts,he,⟨S6,h0⟩,hd,h1,hnT,hTe,hT,hdT,h3⟩:=ht
 subst S6
 unfold noteFrame
 simp only[hf]
 refine wpAny_bind (wpAny_field he hd h1 ?_)
 rw[if_pos (show(Value.ref T != Value.none)=true from by simp)]
 refine wpAny_bind (wpAny_field hT hdT h3 ?_)
 rw[if_neg (show ¬((fl == rawInt L)=true) from fun z=>hfl (eq_of_beq z))]
 refine wpAny_bind (wpAny_setField hT hdT (dM.mp h3).1 ?_)
 have other:∀b,b≠T->(s.heap.update T (Obj.mapFields (·.setIfInBounds 3 Value.none))).get? b=s.heap.get? b:=fun b hb=>cE _ _ (cS hb)
 have W3:∀b o,s.heap.get? b=some o->(∀vs,o.data≠.fields vs)->b≠T:=fun b o hb hnf q=>by
  rw[q,hT] at hb;injection hb with hb;subst hb;exact hnf ts hdT
 refine wpAny_entryW hfr (f3.of_keeps fun b o hb hnf=>⟨o,(other b (W3 b o hb hnf)).trans hb,rfl⟩) hf ((other e (cS hTe)).trans he)
  (fun b o hbo=>(other b fun q=>by rw[q,hnT] at hbo;cases hbo).trans (f1 b o hbo)) f2 hd (dM.mp h1).1 h0
  fun h' ⟨x1,x2,x3,x4⟩=>hQ h' ⟨x1,f2,x2,x3⟩ fun b o hb hnf=>x4 b o ((other b (W3 b o hb hnf)).trans hb) hnf
theorem y3z{e:Value}{env env':Env}(h:env'.frame=env.frame):noteFrame e env'=noteFrame e env:=by
 unfold noteFrame PySem.frameOf
 rw[h]
theorem y69{α:Type}{base:Heap}{l:List Env}{env:Env}{e:Addr}{cls a0:Value}{what:String}{Q:α->Shared->Prop}(x:z7e base l e cls a0 s.heap)
  (hQ:∀h',z7e base l e cls a0 h'->s.heap.UpToSlots h'->E (.ref e) { s with heap:=h' }):wpAny M A (PySem.passOn what (.ref e) env:Sem α) Q E s:=by
 obtain⟨f1,f2,f3,fl,ht⟩:=x
 obtain⟨oe,vs,T,oT,ts,he,S6,hd,h1,hnT,hTe,hT,hdT,h3⟩:=ht
 have Z7:3<ts.size:=(dM.mp h3).1
 unfold PySem.passOn
 refine wpAny_bind (wpAny_field he hd h1 ?_)
 rw[if_neg (show ¬((Value.ref T == Value.none)=true) from by simp)]
 first|refine wpAny_bind (wpAny_pure ?_)|skip
 unfold setFlight
 refine wpAny_bind (wpAny_bind (wpAny_field he hd h1 ?_))
 rw[if_pos (show(Value.ref T != Value.none)=true from by simp)]
 have other:∀v b,b≠T->(s.heap.update T (Obj.mapFields (·.setIfInBounds 3 v))).get? b=s.heap.get? b:=fun v b hb=>cE _ _ (cS hb)
 have W3:∀b o,s.heap.get? b=some o->(∀vs,o.data≠.fields vs)->b≠T:=fun b o hb hnf q=>by
  rw[q,hT] at hb;injection hb with hb;subst hb;exact hnf ts hdT
 generalize (env.frame.elim Value.none fun f=>rawInt f)=v
 have key:=hQ (s.heap.update T (Obj.mapFields (·.setIfInBounds 3 v))) ⟨fun b o hbo=>(other v b fun q=>by rw[q,hnT] at hbo;cases hbo).trans (f1 b o hbo),f2,f3.of_keeps fun b o hb hnf=>⟨o,(other v b (W3 b o hb hnf)).trans hb,rfl⟩,v,oe,vs,T,_,_,(other v e (cS hTe)).trans he,S6,hd,h1,hnT,hTe,dB _ hT (Obj.isFreed_of_fields (gC hdT _)),gC hdT _,by simp[Z7]⟩ (fun b o hb hnf=>⟨o.slots,(other v b (W3 b o hb hnf)).trans hb⟩)
 exact wpAny_setField hT hdT Z7 (wpAny_throw key)
end
noncomputable def xg(X:Cx)(EX:Value->Hp->Prop):Value->Shared->Prop:=fun e s'=>∃(a:Addr) (C:Value) (H':Hp) (B:Heap) (a0:Value),e=.ref a/\s'.os=X.s₀.os/\AllBare s'.gens/\Un X.fs [] X.H₀ H' X.s₀.heap s'.heap/\HOk X.prog X.w H' s'.heap/\(∀b∈frs X.stack,H' b=none)/\
 z7e B X.stack a C a0 s'.heap/\P9 X.fs X.s₀.heap s'.heap H' B/\EX C H'
section
variable{P:Program}{w:World}{K:PySem.W.Frag}{mg:Str->Option Value}{base:Heap}{N:List Str}{qual:Str}{scope:Scope}{f:Addr}{cd:Value}{A:Around}{outer:List Env}{s0:Shared}{H0:Hp}{E:XK}
theorem y4z{e:Value}{s':Shared}(h:xg (B8 (CX1 P w) P w K mg base N qual scope f cd A outer s0 H0 E) (fun C H'=>E C none H') e s')
  (hfr:(A.deeper (envOfC qual scope s0.heap.objs.size f cd)).frames=some (envOfC qual scope s0.heap.objs.size f cd::outer)):(B8 (CX1 P w) P w K mg base N qual scope f cd A outer s0 H0 E).xe e s':=by
 obtain⟨a,C,H',B,a0,rfl,hos,hg,un,hok,hf,fl,st,hE⟩:=h
 have hf2:∀b∈frs outer,H' b=none:=fun b hb=>hf b (bP _ hb)
 have nf:∀b∈frs outer,∃o,s'.heap.get? b=some o/\∀vs,o.data≠.fields vs:=fun b hb=>(fl.2.2.1.mem (bP _ hb)).2
 show wpAny (model P w) (A.deeper (envOfC qual scope s0.heap.objs.size f cd)) (leaving (envOfC qual scope s0.heap.objs.size f cd) (.ref a)) _ _ s'
 unfold leaving
 refine wpAny_bind (y2k (L:=s0.heap.objs.size) hfr rfl fl fun h1 hh us=>?_)
 refine wpAny_landsW hh fun h' fl' us2=>?_
 have us3:=us.trans us2
 have un2:=st.un fl'.1 us3 nf un
 have ok2:HOk P w H' h':=st.hok fl'.1 hf2 hok
 have st2:=st.next fl'.1 hok hf2 (fun b o q=>un.there b o q (fun z=>nomatch z))
 exact⟨a,C,H',B,a0,rfl,hos,hg,un2,ok2,⟨fl'.1,fl'.2.1,fl'.2.2.1.2.2,fl'.2.2.2⟩,st2,hE⟩
end
section
variable{X:Cx}{scope:Scope}{cl:List (Str×Addr)}{own D6:List Str}{ix:List Nat}
theorem y0U{prog:Program}{w:World}{A:Around}{R:Result->Shared->Prop}{s:Shared}{elt target iter:Expr}{ifs:List Expr}{scope:Scope}{pos:Pos}{it acc:Value}{env:Env}(I:Nat->Shared->Prop)(EY:Value->Shared->Prop)
  (hE:∀e s,EY e s->notedBy (model prog w) A env (fun e s=>R (.error e) s) e s)
  (turn:∀n s,I n s->wpAny (model prog w) A (pyNext it) (fun r s1=>match r with
   | none=>R (.ok .next) s1
   | some v=>wpAny (model prog w) A (letOwnedTupleGo target it v) (fun _ s0=>wpAny (model prog w) A (assign target env v) (fun _ s2=>
     wpAny (model prog w) A (forIn ifs true fun c r=>if r=true then do let ok <- isTrue c env (eval c env);pure (ForInStep.yield ok) else pure (ForInStep.yield r)) (fun ok s3=>
      if ok=true then wpAny (model prog w) A (eval elt env) (fun x s4=>
       wpAny (model prog w) A (call (.builtin "list.append") [acc,x]) (fun _ s5=>∃m,m<n/\I m s5) noE s4) EY s3
      else ∃m,m<n/\I m s3) EY s2) noE s0) noE s1) noE s)
  (n:Nat) (h:I n s):codeAny (model prog w) A (.compLoop (.ListComp elt [⟨target,iter,ifs,0⟩] scope pos) 0 it acc env) R s:=by
 refine codeAny_loop rfl I (fun n s hI=>?_) n h
 show wpAny _ A ((compTurn (.ListComp elt [⟨target,iter,ifs,0⟩] scope pos) 0 it acc env).onRaise (fun x=>do noteFrame x env;theTreesLotGoes x)) _ _ s
 refine wpAny_noted ?_
 rw[compTurn_list]
 refine wpAny_bind (wpAny_standAt (wpAny_bind (wpAny_mono (turn n s hI) (fun r s1 h1=>?_) fun _ _ z=>False.elim z)))
 cases r with
 | none=>exact wpAny_pure h1
 | some v=>
  refine wpAny_bind (wpAny_mono h1 (fun _ s0 h0=>?_) fun _ _ z=>False.elim z)
  refine wpAny_bind (wpAny_mono h0 (fun _ s2 h2=>wpAny_bind (wpAny_mono h2 (fun ok s3 h3=>?_) hE)) fun _ _ z=>False.elim z)
  cases ok with
  | false=>exact wpAny_pure ⟨rfl,h3⟩
  | true=>
   exact wpAny_bind (wpAny_bind (wpAny_mono h3 (fun x s4 h4=>wpAny_bind (wpAny_mono h4 (fun _ s5 h5=>wpAny_pure (wpAny_pure ⟨rfl,h5⟩)) fun _ _ z=>False.elim z)) hE))
theorem y1q{elt iter tg:Expr}{ifs:List Expr}{pos:Pos}{pins:List (Addr×Obj)}{σ:St}{s2:Shared}{itv:Value}{g:TG}{tc:TT}{te:TE}{F:List V->Hp->Prop}{RR:Value->Addr->Result->Shared->Prop}{E:Value->Shared->Prop}
  (EX:Value->Hp->Prop) (w0J:X.ex=[]) (V9:∀b∈X.fs,b∈frs X.stack) (hst:X.stack=X.env::X.outer) (hfr0:X.env.frame=some X.env.locals) (S:F1 X scope cl own D6 ix) (hc:X.calm=true)
  (hg:∀C s3 H1 ex pn,PG (z1I X scope cl (own++D6) C s3 H1 ex pn) tg g) (og:U6 own.length g) (mg:z8I g)
  (ht:∀C s3 H1 ex pn,PTs ((z1I X scope cl (own++D6) C s3 H1 ex pn).J2 (xw (z1I X scope cl (own++D6) C s3 H1 ex pn) (fun _ C H'=>EX C H'))) ifs tc)
  (he:∀C s3 H1 ex pn,PE ((z1I X scope cl (own++D6) C s3 H1 ex pn).J2 (xw (z1I X scope cl (own++D6) C s3 H1 ex pn) (fun _ C H'=>EX C H'))) elt te)
  (h:PIE X pins σ tg (fun J H1=>∃W:Nat->Nat->List V->Hp->Prop,(∃m,W 0 m [] H1)/\∀i m ys H,W i m ys H->
   (J.stop i H/\F ys H)\/(J.go i H/\ys.length<sizeLine/\∃N:List V->Hp->Prop,(∀zs H',N zs H'->∃m',m'<m/\W (i+1) m' zs H')/\
    ∀x H',J.yld i H x H'->z1B g tc te (z4j own.length ix σ) x H' ys N)) itv s2)
  (hRX:∀D C e s',(∃m,s'.heap.Ns C m)->(∀h',Heap.SameBut C s'.heap h'->xg X EX e { s' with heap:=h' })->RR (.ref D) C (.error e) s')
  (hRR:∀D C m H' ys s',Inv X pins σ (upd H' D (.lst ys)) s'->P0 X pins (upd H' D (.lst ys)) C->s'.heap.Ns C m->H' D=none->F ys H'->RR (.ref D) C (.ok .next) s') :
  wpAny (model X.prog X.w) X.A (newList []) (fun acc s3=>wpAny (model X.prog X.w) X.A (newFunctionEnv scope X.env.globals cl [] X.env.qual none .none (some X.env)) (fun cenv s4=>
   codeAny (model X.prog X.w) X.A (.compStart (.ListComp elt [⟨tg,iter,ifs,0⟩] scope pos) 0 itv acc { cenv with scope:=relabel scope X.env }) (RR acc cenv.locals) s4) E s3) E s2:=by
 obtain⟨it,fp,tn,J,H1,e,I2,T,st2,f2,W,⟨m0,w0⟩,turn⟩:=h
 subst e
 refine wpAny_newObj_type (wpAny_newFunctionEnv S.cell (by intro y hy;simp at hy) (fun h1 hns1 hsb1=>?_) S.kind)
 dsimp only at hns1 hsb1 ⊢
 generalize hH2:s2.heap.push { cls:=.type "list",dict:=none,data:=.seq ([]:List Value).toArray }=h2 at hns1 hsb1 ⊢
 have U0:∀b o,s2.heap.get? b=some o->h2.get? b=some o:=fun b o e=>hH2 ▸ bA _ e
 have sz2:h2.objs.size=s2.heap.objs.size+1:=by rw[<- hH2,eB]
 have hDC:s2.heap.objs.size≠h2.objs.size:=by omega
 have R8:∀b o,h2.get? b=some o->h1.get? b=some o:=fun b o e=>hsb1.extBut b o (cC (bL e)) (bA _ e)
 have Y3:h2.get? s2.heap.objs.size=some { cls:=.type "list",dict:=none,data:=.seq ([]:List Value).toArray }:=hH2 ▸ bJ _ rfl
 have I3:Inv X pins σ H1 { s2 with heap:=h2,toks:=s2.toks }:=I2.kept U0
 have fD:P0 X pins H1 s2.heap.objs.size:=I2.T6 (bE _) I2.fresh
 have fDs:∀{H':Hp},H' s2.heap.objs.size=none->P0 X pins H' s2.heap.objs.size:=fun hn=>⟨hn,fD.2⟩
 have Z3:∀b∈fp,b<s2.heap.objs.size:=fun b hb=>by
  obtain⟨o,e,_⟩:=T.obj _ _ st2 b hb
  exact bL e
 have Y5:s2.heap.objs.size∉fp:=fun z=>cY _ (Z3 _ z)
 have W2:∀b∈s2.heap.objs.size::fp,b<h2.objs.size/\b≠X.env.locals/\b∉X.fs/\(b∈X.ex\/X.s₀.heap.objs.size≤b)/\∀x c,X.env.cells.lookup x=some c->c≠b:=fun b hb=>by
  rcases bD.mp hb with rfl|hb
  ·exact⟨by omega,fD.2.1,fD.2.2.1,fD.2.2.2.1,fD.2.2.2.2.1⟩
  ·have:=Z3 b hb
   obtain⟨_,a1,a2,a3,a4,_⟩:=f2 b hb
   exact⟨by rw[sz2];exact dQ this,a1,a2,a3,a4⟩
 have I4:Inv (z1I X scope cl (own++D6) h2.objs.size { s2 with heap:=h2,toks:=s2.toks } H1 (s2.heap.objs.size::fp) pins) [] (z4j own.length ix σ) H1 { s2 with heap:=h1,toks:=s2.toks+([]:List (Str×Value)).length }:=
  y2h S I3 W2 hns1 R8
 generalize hX:z1I X scope cl (own++D6) h2.objs.size { s2 with heap:=h2,toks:=s2.toks } H1 (s2.heap.objs.size::fp) pins=Y at I4
 have HG:PG Y tg g:=by rw[<- hX];exact hg _ _ _ _ _
 have HT:PTs (Y.J2 (xw Y fun _ C H'=>EX C H')) ifs tc:=by rw[<- hX];exact ht _ _ _ _ _
 have HE:PE (Y.J2 (xw Y fun _ C H'=>EX C H')) elt te:=by rw[<- hX];exact he _ _ _ _ _
 have eStk:Y.stack=X.stack:=by rw[<- hX];rfl
 have HT':∀(pins:List (Addr×Obj)) (s:Shared) (σ:St) (H:Hp) (Q:Bool->Hp->Prop),Inv Y pins σ H s->tc σ H Q->
   wpAny (model Y.prog Y.w) Y.A (forIn ifs true fun c r=>if r=true then do let ok <- isTrue c Y.env (eval c Y.env);pure (ForInStep.yield ok) else pure (ForInStep.yield r)) (TP Y pins σ Q) (xw Y fun _ C H'=>EX C H') s:=fun pins s σ H Q I q=>
  wpAny_mono (HT pins s σ H Q (I.J2 _) q) (fun _ _ ⟨H9,I9,q9⟩=>⟨H9,I9.F9,q9⟩) fun _ _ z=>z
 have HE':∀(pins:List (Addr×Obj)) (s:Shared) (σ:St) (H:Hp) (Q:VK),Inv Y pins σ H s->te σ H Q->wpAny (model Y.prog Y.w) Y.A (eval elt Y.env) (EP Y pins σ Q) (xw Y fun _ C H'=>EX C H') s:=fun pins s σ H Q I q=>
  wpAny_mono (HE pins s σ H Q (I.J2 _) q) (fun _ _ ⟨v,H9,I9,r9,q9⟩=>⟨v,H9,I9.F9,r9,q9⟩) fun _ _ z=>z
 have eP:Y.prog=X.prog:=by rw[<- hX];rfl
 have eW:Y.w=X.w:=by rw[<- hX];rfl
 have eK:Y.K=X.K:=by rw[<- hX];rfl
 have eA:Y.A=X.A:=by rw[<- hX];rfl
 have eC:Y.calm=true:=by rw[<- hX];exact hc
 have eE:Y.xe=noE:=by rw[<- hX];rfl
 have T4:Y.env=compEnvC scope cl h2.objs.size X.env:=by rw[<- hX];rfl
 have eEx:Y.ex=s2.heap.objs.size::fp:=by rw[<- hX];rfl
 have ePn:Y.pn=X.pn++pins:=by rw[<- hX];rfl
 have eFs:Y.fs=frs X.stack:=by rw[<- hX];rfl
 have W8:∀x c,Y.env.cells.lookup x=some c->X.env.cells.lookup x=some c:=fun x c e=>by
  rw[T4] at e
  exact S.look x c e
 have U9:Y.env.locals=h2.objs.size:=by rw[T4];rfl
 have raise:∀e s',xw Y (fun _ C H'=>EX C H') e s'->notedBy (model X.prog X.w) X.A (compEnvC scope cl h2.objs.size X.env) (fun e s=>RR (.ref s2.heap.objs.size) h2.objs.size (.error e) s) e s':=by
  rintro e s' ⟨pins',σ',H5,s5,I5,a,C,H',B,a0,rfl,hos,hg5,un,hok,fl,st,hE⟩
  rw[eStk] at un fl st
  rw[eP,eW] at hok
  have u5:Un (frs X.stack) (s2.heap.objs.size::fp) H1 H5 h2 s5.heap:=by
   have:=I5.base
   rw[eFs,eEx] at this
   rw[<- hX] at this
   exact this
  have os5:s5.os=s2.os:=by
   have:=I5.os
   rw[<- hX] at this
   exact this
  have hok5:HOk X.prog X.w H5 s5.heap:=by
   have:=I5.hok
   rw[eP,eW] at this
   exact this
  have J5:Inv X pins σ H5 s5:=I3.W4 (s':=s5) os5 u5 hok5 I5.bare fun b hb=>by
   obtain⟨l,a1,a2,a3,a4⟩:=W2 b hb
   refine⟨a3,a1,a4,?_⟩
   rcases bD.mp hb with rfl|hb
   ·exact fD.2.2.2.2.2
   ·exact(f2 b hb).2.2.2.2.2
  obtain⟨mC,hC,_⟩:=I5.loc
  rw[U9] at hC
  have nC5:H5 h2.objs.size=none:=by
   have:=I5.free
   rw[U9] at this
   exact this
  have cfr:h2.objs.size∉frs X.stack:=fun z=>by
   obtain⟨_,o,ho,_⟩:=I3.stack.mem z
   exact cY _ (bL (show h2.get? h2.objs.size=some o from ho))
  have c0:∀b o,X.s₀.heap.get? b=some o->b≠h2.objs.size:=fun b o q z=>by
   obtain⟨o2,q2⟩:=I3.base.there b o q (by rw[w0J];exact fun z=>nomatch z)
   exact cY _ (z ▸ bL (show h2.get? b=some o2 from q2))
  obtain⟨oC,es,ep,hoC,hdC,hrC⟩:=id hC
  have nC':H' h2.objs.size=none:=un.free _ oC hoC nC5 (fun z=>nomatch z)
  have hoC':s'.heap.get? h2.objs.size=some oC:=un.keep _ oC hoC nC5 cfr (fun z=>nomatch z)
  have bC:B.get? h2.objs.size=some oC:=st _ _ hoC' cfr (.inr ⟨oC,hoC⟩)
  have hf:∀b∈frs X.stack,H' b=none:=fun b hb=>by
   obtain⟨_,o,ho,_⟩:=J5.stack.mem hb
   exact un.free b o ho (J5.L9 b hb) (fun z=>nomatch z)
  have hf2:∀b∈X.fs,H' b=none:=fun b hb=>hf b (V9 b hb)
  have unX:=J5.T2 w0J un
  have stX:=J5.T3 w0J hf st
  have hF:X.A.frames=some (X.env::X.outer):=by rw[<- hst];exact J5.ok.frames
  unfold notedBy
  rw[y3z (env:=X.env) (env':=compEnvC scope cl h2.objs.size X.env) rfl]
  refine y2k (L:=X.env.locals) hF hfr0 (by rw[<- hst];exact z7e.of fl) fun h4 hh us=>?_
  rw[<- hst] at hh
  refine hRX _ _ _ _ ⟨mC,us.ns ⟨oC,es,ep,hoC',hdC,hrC⟩⟩ fun h5 sb=>?_
  have nf:∀b∈X.fs,∃o,s'.heap.get? b=some o/\∀vs,o.data≠.fields vs:=fun b hb=>(fl.2.2.1.mem (V9 b hb)).2
  have un4:=stX.un hh.1 us nf unX
  have hid:∀{b o},(PySem.W.hideAll B [h2.objs.size]).get? b=some o->b≠h2.objs.size/\B.get? b=some o:=fun {b o} q=>⟨(fun z=>by
   rw[z,PySem.W.hideAll_none _ (bB.mpr rfl)] at q
   cases q),j7 _ q⟩
  have k5:(PySem.W.hideAll B [h2.objs.size]).StaysIn h5:=fun b o q=>by
   obtain⟨q1,q2⟩:=hid q
   exact(sb.2 b q1).trans (hh.1 b o q2)
  have st5:P9 X.fs X.s₀.heap s'.heap H' (PySem.W.hideAll B [h2.objs.size]):=fun b o q hb hc=>by
   refine hW _ (stX b o q hb hc) fun z=>?_
   rw[bB] at z
   rcases hc with hc|⟨o0,q0⟩
   ·exact hc (by rw[z];exact nC')
   ·exact c0 b o0 q0 z
  have hide:∀b,B.get? b=none->(PySem.W.hideAll B [h2.objs.size]).get? b=none:=fun b q=>by
   cases e:(PySem.W.hideAll B [h2.objs.size]).get? b with
   | none=>rfl
   | some o=>
    rw[(hid e).2] at q
    cases q
  have neC:∀b,B.get? b=none->b≠h2.objs.size:=fun b q z=>by rw[z,bC] at q;cases q
  refine⟨a,C,H',PySem.W.hideAll B [h2.objs.size],a0,rfl,hos.trans J5.os,hg5,?_,st5.hok k5 hf2 hok,hf,⟨k5,hide a hh.2.1,?_,rawInt X.env.locals,?_⟩,st5.next k5 hok hf2 (fun b o q=>unX.there b o q (fun z=>nomatch z)),hE⟩
  ·exact⟨fun b o q n hb hx=>(sb.2 b (c0 b o q)).trans (un4.keep b o q n hb hx),fun b o q n hb hx=>by
    obtain⟨sl,e⟩:=un4.slot b o q n hb hx
    exact⟨sl,(sb.2 b (c0 b o q)).trans e⟩,un4.free,fun b o q hx=>by
    obtain⟨o',e⟩:=un4.there b o q hx
    exact⟨o',(sb.2 b (c0 b o q)).trans e⟩,un4.P8,un4.O1,un4.P7⟩
  ·have fr:=hh.2.2.1
   have go:∀l:List Env,h2.objs.size∉frs l->h4.FunFrames B l->h5.FunFrames (PySem.W.hideAll B [h2.objs.size]) l:=by
    intro l
    induction l with
    | nil=>exact fun _ _=>trivial
    | cons en l ih=>
     rintro hn ⟨x1,⟨L,o,x2,x3,x4,x5⟩,x6⟩
     have em:frs (en::l)=L::frs l:=by
      unfold frs
      rw[dS,x2]
     rw[em] at hn
     exact⟨x1,⟨L,o,x2,hide L x3,(sb.2 L fun z=>hn (z ▸ cB)).trans x4,x5⟩,ih (fun z=>hn (bP _ z)) x6⟩
   exact go _ cfr fr
  ·obtain⟨oe,vs,T,oT,ts,he,S6,hd,h1',hnT,hTe,hT,hdT,h3⟩:=hh.2.2.2
   exact⟨oe,vs,T,oT,ts,(sb.2 a (neC a hh.2.1)).trans he,S6,hd,h1',hide T hnT,hTe,(sb.2 T (neC T hnT)).trans hT,hdT,h3⟩
 have fY:∀{pl:List (Addr×Obj)}{H':Hp}{b:Addr},b∈s2.heap.objs.size::fp->H' b=none->(∀p∈pl,p.1≠b)->P0 Y pl H' b:=fun {pl H' b} hb hn hpl=>by
  obtain⟨l,a1,a2,a3,a4⟩:=W2 b hb
  refine⟨hn,by rw[U9];exact cC l,fun z=>?_,.inl (by rw[eEx];exact hb),fun x c e=>a4 x c (W8 x c e),fun p hp=>?_⟩
  ·rw[eFs] at z
   rcases bD.mp (I3.P4 b z) with z|z
   ·exact a1 z
   ·exact a2 z
  ·rcases bS.mp hp with z|z
   ·rw[ePn] at z
    rcases bD.mp hb with rfl|hb
    ·exact fD.2.2.2.2.2 p z
    ·exact(f2 b hb).2.2.2.2.2 p z
   ·exact hpl p z
 let IV:Nat->Shared->Prop:=fun n s'=>∃i ys its c H',Inv Y [] (z4j own.length ix σ) H' s'/\tn i s'.heap/\(∀b∈fp,H' b=none)/\H' s2.heap.objs.size=none/\Vals ys its/\
  s'.heap.get? s2.heap.objs.size=some { cls:=.type "list",data:=.seq its.toArray c }/\ys.length≤sizeLine/\W i n ys H'
 have loop:∀s3:Shared,s3={ s2 with heap:=h1,toks:=s2.toks+([]:List (Str×Value)).length }->
   codeAny (model X.prog X.w) X.A (.compLoop (.ListComp elt [⟨tg,iter,ifs,0⟩] scope pos) 0 (.ref it) (.ref s2.heap.objs.size) (compEnvC scope cl h2.objs.size X.env)) (RR (.ref s2.heap.objs.size) h2.objs.size) s3:=by
  rintro s3 rfl
  refine y0U IV _ raise ?_ m0 ⟨0,[],[],_,H1,I4,T.keep _ _ _ st2 fun b _ o e=>R8 b o (U0 b o e),fun b hb=>(f2 b hb).1,I2.fresh,.nil,R8 _ _ Y3,cR _,w0⟩
  rintro n s5 ⟨i,ys,its,c,H5,I5,st5,fr5,nD5,v5,gD5,z5,w5⟩
  have I5p:Inv Y [(s2.heap.objs.size,{ cls:=.type "list",data:=.seq its.toArray c })] (z4j own.length ix σ) H5 s5:=I5.M0 fun p hp=>by
   have e:p=(s2.heap.objs.size,{ cls:=.type "list",data:=.seq its.toArray c }):=by simpa using hp
   subst e
   obtain⟨_,b1,b2,_⟩:=fY (pl:=[]) (H':=H5) (b:=s2.heap.objs.size) cB nD5 (fun p hp=>nomatch hp)
   exact⟨gD5,nD5,b1,b2,fun v z=>by cases z⟩
  have fps:∀{H':Hp},(∀b∈fp,H' b=none)->∀b∈fp,P0 Y [(s2.heap.objs.size,{ cls:=.type "list",data:=.seq its.toArray c })] H' b:=fun hn b hb=>
   fY (bP _ hb) (hn b hb) fun p hp=>by
    have e:p=(s2.heap.objs.size,{ cls:=.type "list",data:=.seq its.toArray c }):=by simpa using hp
    subst e
    exact fun z=>Y5 (by have z':s2.heap.objs.size=b:=z;rw[z'];exact hb)
  rcases turn i n ys H5 w5 with ⟨stop,fin⟩|⟨go,hlen,N,hN,step⟩
  ·have q:=T.done Y eP eW eK eC i _ s5 _ H5 noE I5p (fps fr5) st5 stop
   rw[eA] at q
   refine thn q fun r s6 ⟨hr,I6⟩=>?_
   subst hr
   have gD6:=(I6.pin (s2.heap.objs.size,{ cls:=.type "list",data:=.seq its.toArray c }) (bR _ (by simp))).1
   have u6:Un (frs X.stack) (s2.heap.objs.size::fp) H1 H5 h2 s6.heap:=by
    have:=I6.base
    rw[eFs,eEx] at this
    rw[<- hX] at this
    exact this
   have os6:s6.os=s2.os:=by
    have:=I6.os
    rw[<- hX] at this
    exact this
   have w0L:HOk X.prog X.w H5 s6.heap:=by
    have:=I6.hok
    rw[eP,eW] at this
    exact this
   have J6:Inv X pins σ H5 s6:=I3.W4 (s':=s6) os6 u6 w0L I6.bare fun b hb=>by
    obtain⟨l,a1,a2,a3,a4⟩:=W2 b hb
    refine⟨a3,a1,a4,?_⟩
    rcases bD.mp hb with rfl|hb
    ·exact fD.2.2.2.2.2
    ·exact(f2 b hb).2.2.2.2.2
   have J7:Inv X pins σ (upd H5 s2.heap.objs.size (.lst ys)) s6:=J6.w0f (fDs nD5) ⟨z5,its,c,v5,gD6⟩
   obtain⟨mC,hC,_⟩:=I6.loc
   rw[U9] at hC
   have nC:H5 h2.objs.size=none:=by
    have:=I6.free
    rw[U9] at this
    exact this
   refine hRR _ _ mC H5 ys s6 J7 (I3.T6 (bE _) ?_) hC nD5 fin
   show upd H5 s2.heap.objs.size (.lst ys) h2.objs.size=none
   rw[z0e (cS hDC)]
   exact nC
  ·have q:=T.item Y eP eW eK eC i _ s5 _ H5 noE I5p (fps fr5) st5 go
   rw[eA] at q
   refine thn q fun r s6 ⟨u,hr,h6⟩=>?_
   subst hr
   refine thn h6 fun _ s7 ⟨x,H7,I7,r7,y7,st7,fr7⟩=>?_
   have I7p:=I7.pinned (fps fr7) (T.obj _ _ st7)
   have st:=og _ _ _ _ (step x H7 y7)
   have q2:=HG _ s7 _ H7 x u _ I7p r7 st
   rw[eE,eP,eW,eA,T4] at q2
   refine thn q2 fun _ s8 ⟨σ8,H8,I8,q8,fr8⟩=>?_
   have q3:=HT' _ s8 σ8 H8 _ I8 q8
   rw[eP,eW,eA,T4] at q3
   refine thn q3 fun ok s9 ⟨H9,I9,q9⟩=>?_
   have back:∀{H':Hp}{s':Shared},Inv Y ([(s2.heap.objs.size,({ cls:=.type "list",data:=.seq its.toArray c }:Obj))]++z90 fp s7.heap) σ8 H' s'->
     Inv Y [] (z4j own.length ix σ) H' s'/\tn (i+1) s'.heap/\(∀b∈fp,H' b=none)/\H' s2.heap.objs.size=none/\s'.heap.get? s2.heap.objs.size=some { cls:=.type "list",data:=.seq its.toArray c }:=fun {H' s'} I'=>by
    have pD:=I'.pin (s2.heap.objs.size,{ cls:=.type "list",data:=.seq its.toArray c }) (bR _ (d6 _ (by simp)))
    refine⟨(I'.M0 (pins':=[]) fun p hp=>nomatch hp).weak fr8.1.symm fun j v e=>?_,T.keep _ _ _ st7 fun b hb o e=>(I'.pin (b,o) (bR _ (bR _ (z34 hb e)))).1,fun b hb=>?_,pD.2.1,pD.1⟩
    ·by_cases hj:j<own.length
     ·have e':(List.replicate own.length none++ix.map fun i=>(σ[i]?).join:St)[j]? = some (some v):=e
      rw[dO (by simpa using hj),eX,if_pos hj] at e'
      cases e'
     ·rw[fr8.2 j (gS hj)]
      exact e
    ·obtain⟨o,e,d⟩:=T.obj _ _ st7 b hb
     exact(I'.pin (b,o) (bR _ (bR _ (z34 hb e)))).2.1
   cases ok with
   | false=>
    obtain⟨m',hm,w9⟩:=hN _ _ (show N ys H9 from q9)
    obtain⟨b1,b2,b3,b4,b5⟩:=back I9
    exact⟨m',hm,i+1,ys,its,c,H9,b1,b2,b3,b4,v5,b5,z5,w9⟩
   | true=>
    have q9':te σ8 H9 fun y H4=>N (ys++[y]) H4:=q9
    have q4:=HE' _ s9 σ8 H9 _ I9 q9'
    rw[eP,eW,eA,T4] at q4
    refine thn q4 fun yv s10 ⟨y,H10,I10,r10,n10⟩=>?_
    obtain⟨b1,b2,b3,b4,b5⟩:=back I10
    obtain⟨m',hm,w10⟩:=hN _ _ n10
    have hl:=v5.length
    refine call_meets bT ⟨_,b5,rfl⟩ PySem.F.entry_list_append (PySem.F.args_list_append_2 _ _) (jB s2.heap.objs.size its.toArray c yv (by rw[bF];omega)) ⟨b5,?_⟩
    have q5:=jD b5 (fun a=>a.push yv)
    have e5:its.toArray.push yv=(its++[yv]).toArray:=by simp
    rw[e5] at q5
    have k5:∀b o,b≠s2.heap.objs.size->s10.heap.get? b=some o->(s10.heap.update s2.heap.objs.size (Obj.mapSeq fun a=>a.push yv)).get? b=some o:=fun b o hb e=>
     (cE s10.heap (Obj.mapSeq fun a=>a.push yv) (cS hb)).trans e
    obtain⟨f0,f1,f2',f3,f4,f5⟩:=fY (pl:=[]) (H':=H10) (b:=s2.heap.objs.size) cB b4 (fun p hp=>nomatch hp)
    have b1':=b1.turned (t':=s10.toks) k5 f0 f1 f3 f4 f5
    refine⟨m',hm,i+1,ys++[y],its++[yv],_,H10,b1',T.keep _ _ _ b2 fun b hb o e=>k5 b o (fun z=>Y5 (by rw[<- z];exact hb)) e,b3,b4,v5.append (.cons r10 .nil),q5,?_,w10⟩
    ·rw[bN,dA]
     omega
 exact codeAny_compStart_list (loop _ rfl) (T.self _ 0 _ _ _ (T.keep _ _ _ st2 fun b _ o e=>R8 b o (U0 b o e)) (loop _ rfl))
theorem y7w{X:Cx}{EX:Value->Hp->Prop}{H':Hp}{s':Shared}{a:Addr}{C a0:Value}{B h2:Heap}(V9:∀b∈X.fs,b∈frs X.stack)(hos:s'.os=X.s₀.os)(hg:AllBare s'.gens)(un:Un X.fs [] X.H₀ H' X.s₀.heap s'.heap)(hok:HOk X.prog X.w H' s'.heap)(hf:∀b∈frs X.stack,H' b=none)
  (fl:s'.heap.FunFrames B X.stack) (st:P9 X.fs X.s₀.heap s'.heap H' B) (hE:EX C H') (us:s'.heap.UpToSlots h2) (fl2:z7e B X.stack a C a0 h2):xg X EX (.ref a) { s' with heap:=h2 }:=by
 have hf2:∀b∈X.fs,H' b=none:=fun b hb=>hf b (V9 b hb)
 have nf:∀b∈X.fs,∃o,s'.heap.get? b=some o/\∀vs,o.data≠.fields vs:=fun b hb=>(fl.mem (V9 b hb)).2
 exact⟨a,C,H',B,a0,rfl,hos,hg,st.un fl2.1 us nf un,st.hok fl2.1 hf2 hok,hf,fl2,st.next fl2.1 hok hf2 (fun b o q=>un.there b o q (fun z=>nomatch z)),hE⟩
theorem y79{X:Cx}{EX:Value->Hp->Prop}{E:Value->Shared->Prop}{use:Option (Value->Sem Unit)}{Q:Value->Shared->Prop}{acc:Value}{C:Addr}{e:Value}{s':Shared}(V9:∀b∈X.fs,b∈frs X.stack)(hE:∀e s,xg X EX e s->E e s)
  (hn:∃m,s'.heap.Ns C m) (k:∀h',Heap.SameBut C s'.heap h'->xg X EX e { s' with heap:=h' }):compPost (model X.prog X.w) X.A E use Q acc C (.error e) s':=by
 obtain⟨m,hn⟩:=hn
 have go:∀h',Heap.SameBut C s'.heap h'->∀cenv:Env,cenv.locals=C->wpAny (model X.prog X.w) X.A (PySem.passOn "comprehension.variables-let-go" e cenv:Sem Value) (fun _ _=>False) E { s' with heap:=h' }:=fun h' sb cenv _=>by
  obtain⟨a,C',H',B,a0,rfl,hos,hg,un,hok,hf,fl,st,hX⟩:=k h' sb
  exact y69 fl fun h2 fl2 us=>hE _ _ (y7w (s':={ s' with heap:=h' }) V9 hos hg un hok hf fl.2.2.1 st hX us fl2)
 cases use with
 | none=>exact⟨m,hn,go⟩
 | some u=>exact⟨m,hn,go⟩
end
section
variable{P:Program}{w:World}{K:PySem.W.Frag}{mg:Str->Option Value}{base:Heap}{N:List Str}{qual:Str}{sc:Scope}{f:Addr}{cd:Value}{A:Around}{outer:List Env}{s0:Shared}{H0:Hp}{E:XK}{scope:Scope}{cl:List (Str×Addr)}
theorem y5K{elt iter tg:Expr}{ifs:List Expr}{pos pos' Z0:Pos}{x:Str}{i:Nat}{wi:TI}{g:TG}{tc:TT}{te:TE}(own D6:List Str)(ix:List Nat)
  (hc:(B8 (CX1 P w) P w K mg base N qual sc f cd A outer s0 H0 E).calm=true) (hN:(B8 (CX1 P w) P w K mg base N qual sc f cd A outer s0 H0 E).N.Nodup) (hx:(B8 (CX1 P w) P w K mg base N qual sc f cd A outer s0 H0 E).N[i]? = some x) (hl:Loc (B8 (CX1 P w) P w K mg base N qual sc f cd A outer s0 H0 E).env.scope x) (S:F1 (B8 (CX1 P w) P w K mg base N qual sc f cd A outer s0 H0 E) scope cl own D6 ix) (hi:PI (B8 (CX1 P w) P w K mg base N qual sc f cd A outer s0 H0 E) tg iter wi)
  (hg:∀C s3 H1 ex pn,PG (z1I (B8 (CX1 P w) P w K mg base N qual sc f cd A outer s0 H0 E) scope cl (own++D6) C s3 H1 ex pn) tg g) (og:U6 own.length g) (mo:z8I g)
  (ht:∀C s3 H1 ex pn,PTs ((z1I (B8 (CX1 P w) P w K mg base N qual sc f cd A outer s0 H0 E) scope cl (own++D6) C s3 H1 ex pn).J2 (xw (z1I (B8 (CX1 P w) P w K mg base N qual sc f cd A outer s0 H0 E) scope cl (own++D6) C s3 H1 ex pn) (fun _ C H'=>E C none H'))) ifs tc)
  (he:∀C s3 H1 ex pn,PE ((z1I (B8 (CX1 P w) P w K mg base N qual sc f cd A outer s0 H0 E) scope cl (own++D6) C s3 H1 ex pn).J2 (xw (z1I (B8 (CX1 P w) P w K mg base N qual sc f cd A outer s0 H0 E) scope cl (own++D6) C s3 H1 ex pn) (fun _ C H'=>E C none H'))) elt te)
  (hsw:swapsWith (.ListComp elt [⟨tg,iter,ifs,0⟩] scope pos) (some (.Name x pos')) Z0.line (B8 (CX1 P w) P w K mg base N qual sc f cd A outer s0 H0 E).env=pure true:=by rfl)
  (hf:(B8 (CX1 P w) P w K mg base N qual sc f cd A outer s0 H0 E).fn x=true\/(B8 (CX1 P w) P w K mg base N qual sc f cd A outer s0 H0 E).env.scope.names.lookup x=some .local:=by first|exact .inl rfl|exact .inr rfl|assumption)
  (hs:∀x,foldedSetIterable iter (B8 (CX1 P w) P w K mg base N qual sc f cd A outer s0 H0 E).env x=pure x:=by intro _;rfl) :
  PS (B8 (CX1 P w) P w K mg base N qual sc f cd A outer s0 H0 E) (.Assign [.Name x pos'] (.ListComp elt [⟨tg,iter,ifs,0⟩] scope pos) Z0) (w0p (y6Q own.length ix wi g tc te) (y2A i)):=by
 intro pins s σ H D I h
 rw[exec_Assign_Name_used _ _ _ _ hsw]
 refine wpAny_bind (wpAny_standAt (wpAny_bind ?_))
 show wpAny _ (B8 (CX1 P w) P w K mg base N qual sc f cd A outer s0 H0 E).A (do let _ <- comprehension (.ListComp elt [⟨tg,iter,ifs,0⟩] scope pos) scope (B8 (CX1 P w) P w K mg base N qual sc f cd A outer s0 H0 E).env _ (newList []) false (eval iter (B8 (CX1 P w) P w K mg base N qual sc f cd A outer s0 H0 E).env) (some (assign (.Name x pos') (B8 (CX1 P w) P w K mg base N qual sc f cd A outer s0 H0 E).env))) _ _ s
 refine wpAny_bind (wpAny_mono (wpAny_comprehension_free (use:=some (assign (.Name x pos') (B8 (CX1 P w) P w K mg base N qual sc f cd A outer s0 H0 E).env)) (Q:=fun _ s'=>SP (B8 (CX1 P w) P w K mg base N qual sc f cd A outer s0 H0 E) pins D .next s') rfl hs (z4o S.W0) S.kind S.names
  (thn (hi pins s σ H _ I h) fun v s1 h1=>thn h1 fun itv s2 h2=>?_)) (fun _ s' hq=>wpAny_pure (wpAny_pure hq)) fun _ _ e=>e)
 refine y1q (RR:=fun acc C=>compPost (model (B8 (CX1 P w) P w K mg base N qual sc f cd A outer s0 H0 E).prog (B8 (CX1 P w) P w K mg base N qual sc f cd A outer s0 H0 E).w) (B8 (CX1 P w) P w K mg base N qual sc f cd A outer s0 H0 E).A (B8 (CX1 P w) P w K mg base N qual sc f cd A outer s0 H0 E).xe (some (assign (.Name x pos') (B8 (CX1 P w) P w K mg base N qual sc f cd A outer s0 H0 E).env)) (fun _ s'=>SP (B8 (CX1 P w) P w K mg base N qual sc f cd A outer s0 H0 E) pins D .next s') acc C) (fun C H'=>E C none H') rfl (fun b hb=>bP _ hb) rfl rfl S hc hg og mo ht he h2 (fun D C e s' hn k=>y79 (X:=(B8 (CX1 P w) P w K mg base N qual sc f cd A outer s0 H0 E)) (fun b hb=>bP _ hb) (fun e s h=>y4z h I.ok.frames) hn k) ?_
 intro D' C m H' ys s' I' fC hn hD fin
 obtain⟨f0,f1,f2,f3,f4,f5⟩:=fC
 obtain⟨oC,es,ep,hoC,hdC,hr⟩:=id hn
 show wpAny _ (B8 (CX1 P w) P w K mg base N qual sc f cd A outer s0 H0 E).A (assign (.Name x pos') (B8 (CX1 P w) P w K mg base N qual sc f cd A outer s0 H0 E).env (.ref D')) _ _ _
 have Ip:Inv (B8 (CX1 P w) P w K mg base N qual sc f cd A outer s0 H0 E) (pins++[(C,oC)]) σ (upd H' D' (.lst ys)) s':=I'.M0 fun p hp=>(bS.mp hp).elim (fun z=>I'.pin p (bR _ z)) fun z=>by
  have e:p=(C,oC):=by simpa using z
  subst e
  exact⟨hoC,f0,f1,f2,fun v z=>by rw[hdC] at z;cases z⟩
 refine thn (z0h hN hx hl hf (pins++[(C,oC)]) s' σ _ (.ref D') (.ref D') _ Ip rfl (fin D' hD)) fun _ s3 ⟨σ3,H3,I3,q3⟩=>?_
 have pC:=I3.pin (C,oC) (bR _ (bR _ (by simp)))
 refine⟨m,⟨oC,es,ep,pC.1,hdC,hr⟩,fun h' sb=>?_⟩
 have I4:Inv (B8 (CX1 P w) P w K mg base N qual sc f cd A outer s0 H0 E) pins σ3 H3 s3:=I3.O9
 exact⟨σ3,H3,I4.turned (t':=s3.toks) (h':=h') (it:=C) (fun b o hb e=>(sb.2 b hb).trans e) pC.2.1 f1 f3 f4 f5,q3⟩
end
end L2
namespace My
open PySem L2
def top(i:Nat):Stmt:=PySem.Challenge.pw_backissues_k17_unknown_name.main.body.getD i (.Pass ⟨0,0,0,0⟩)
abbrev z2T:Stmt:=top 15
abbrev z5M:Stmt:=top 16
abbrev z6V:Stmt:=top 17
abbrev z1K:Stmt:=top 18
abbrev z48:Stmt:=top 19
abbrev z1X:Stmt:=top 20
abbrev z2x:Stmt:=top 28
abbrev z2B:Stmt:=top 29
abbrev z37:Stmt:=top 30
abbrev z1o:Stmt:=top 31
abbrev z6a:Stmt:=top 36
abbrev z3D:Stmt:=top 37
abbrev z9E:Stmt:=top 38
abbrev z4S:Stmt:=top 39
abbrev z6s:Stmt:=top 40
abbrev z2n:Stmt:=top 41
abbrev z6G:Stmt:=top 42
abbrev z8h:Stmt:=top 44
abbrev z1R:Stmt:=top 46
abbrev z29:Stmt:=top 47
abbrev z3t:Stmt:=top 48
abbrev z3p:Stmt:=top 49
abbrev z2R:Stmt:=z1l (top 50) 0
abbrev z19:Stmt:=z1l (top 50) 1
abbrev z30:Stmt:=z1l (top 50) 2
abbrev z3z:Stmt:=z1l (top 50) 3
abbrev z2W:Stmt:=z1l (top 50) 4
abbrev z5v:Stmt:=top 52
abbrev z5F:Stmt:=top 53
abbrev z3S:Stmt:=top 54
abbrev z4H:Stmt:=top 55
abbrev z4q:Stmt:=top 56
abbrev z39:Stmt:=z1l (top 58) 0
abbrev z6A:Stmt:=z1l (top 58) 1
abbrev z6Q:Stmt:=z1l (top 58) 2
abbrev z4d:Stmt:=z1l (top 58) 3
abbrev z3A:Stmt:=z1l (top 58) 4
abbrev z3E:Stmt:=z1l (top 58) 5
abbrev z2e:Stmt:=top 62
abbrev z3r:Stmt:=z1l (top 63) 0
abbrev z0Q:Stmt:=z1l (top 63) 1
abbrev z0Y:Stmt:=z1l (top 63) 2
abbrev z4f:Stmt:=z1l (top 63) 3
abbrev z2X:Stmt:=z1l (top 63) 4
abbrev z4M:Stmt:=z1l (top 63) 5
abbrev z4a:Stmt:=z1l (top 63) 6
abbrev z5s:Stmt:=z1l (top 63) 7
abbrev z4R:Stmt:=z1l (top 63) 8
abbrev z47:Stmt:=z1l (top 63) 9
abbrev z9l:Stmt:=top 65
abbrev z3d:Stmt:=top 67
abbrev z8a:Stmt:=top 68
abbrev z9t:Stmt:=top 70
abbrev z6y:Stmt:=top 71
abbrev z7Z:Stmt:=top 72
abbrev z4W:Stmt:=top 73
abbrev z5y:Stmt:=top 74
abbrev z4b:Stmt:=top 75
abbrev z3U:Stmt:=top 76
abbrev z6L:Stmt:=top 77
abbrev z5k:Stmt:=top 78
abbrev z4p:Stmt:=top 79
abbrev z8m:Stmt:=top 80
abbrev z3o:Stmt:=top 81
abbrev z5N:Stmt:=top 82
abbrev z4B:Stmt:=top 83
abbrev z6U:Stmt:=top 84
abbrev z6w:Stmt:=top 85
abbrev z5l:Stmt:=top 86
abbrev z5B:Stmt:=top 87
abbrev z5H:Stmt:=top 88
abbrev z3R:Stmt:=top 89
abbrev z5z:Stmt:=top 90
abbrev z4w:Stmt:=top 91
abbrev z5r:Stmt:=top 92
abbrev slaw:Stmt:=top 93
abbrev z2U:List Str:=["had"]
abbrev z5K:List Str:=["number","reach"]
abbrev z6M:List Str:=["had","number","reach"]
abbrev z1g:List Str:=["had","reach"]
abbrev z2i:List Str:=["had","reach"]
abbrev z0S:List Str:=["had","reach","behind"]
abbrev z2y:List Str:=["names"]
abbrev z2z:List Str:=["reach"]
abbrev z2k:List Str:=["names","reach"]
abbrev z0H:List Str:=["names","name"]
abbrev z1A:List Str:=["shelf","name"]
abbrev z3u:List Str:=["shelf","number","teller"]
abbrev z64:List Str:=["shelf"]
abbrev z35:List Str:=["shelf","name"]
abbrev z2l:List Str:=["shelf","name"]
abbrev z1u:List Str:=["shelf","name"]
abbrev z6C:List Str:=["shelf"]
abbrev z65:List Str:=["sets","reach"]
abbrev z18:List Str:=["value"]
abbrev z1e:List Str:=["names","rows"]
abbrev z2C:List Str:=["names","rows"]
abbrev z26:List Str:=["rows"]
abbrev z2S:List Str:=["self","names","reach"]
abbrev z0B:List Str:=["self","rows"]
abbrev z2o:List Str:=["self","rows"]
abbrev z3s:List Str:=["self"]
abbrev z0P:List Str:=["self","number"]
abbrev z5p:List Str:=["shelf"]
abbrev z42:List Str:=["power"]
abbrev z41:List Str:=["shelf"]
abbrev z4J:List Str:=["shelf","name"]
abbrev z4P:List Str:=["shelf","name"]
abbrev z1L:List Str:=["self","names","reach"]
abbrev z3H:List Str:=["self","issue"]
abbrev z0Z:List Str:=["self"]
abbrev z5O:List Str:=["self"]
abbrev z27:List Str:=["self","number"]
abbrev z3v:List Str:=["self","number"]
abbrev z2b:List Str:=["readers"]
abbrev z3F:List Str:=["self","names","reach","readers"]
abbrev z0p:List Str:=["self","reader"]
abbrev z0v:List Str:=["self"]
abbrev z4c:List Str:=["self","rows"]
abbrev z2Y:List Str:=["self","reader","number"]
abbrev z70:List Str:=["self"]
abbrev z5j:List Str:=["self","number"]
abbrev z5i:List Str:=["self"]
abbrev z6S:List Str:=["self","which"]
abbrev z2d:List Str:=["self","reader","deed"]
abbrev z9v:List Str:=["book","reader","name"]
abbrev z3b:List Str:=["had","reach","behind"]
abbrev z5W:List Str:=["shelf","name"]
abbrev z5X:List Str:=["_law_script","_law_k"]
abbrev z3G:List Str:=["_law_cell","_law_size"]
abbrev z3K:List Str:=["_law_cell","_law_many","_law_size"]
abbrev z2w:List Str:=["_law_found","_law_due"]
abbrev z5E:List Str:=["_law_cell","_law_many"]
abbrev z3X:List Str:=["_law_names_here","_law_cell"]
abbrev z3T:List Str:=["_law_times"]
abbrev z6E:List Str:=["_law_names_here","_law_cell","_law_many"]
abbrev z5g:List Str:=["_law_figure","_law_place"]
abbrev z4E:List Str:=["_law_sets_here","_law_cell"]
abbrev z7I:List Str:=["_law_cell","_law_many"]
abbrev z3x:List Str:=["_law_row_here","_law_cell"]
abbrev z5o:List Str:=["_law_rows","_law_number","_law_reach"]
abbrev z4s:List Str:=["_law_had_here","_law_number","_law_reach"]
abbrev z6T:List Str:=["_law_had_here","_law_rows","_law_reach"]
abbrev z6x:List Str:=["_law_had_here","_law_rows","_law_name"]
abbrev z5J:List Str:=["_law_gaps_here","_law_number","_law_name"]
abbrev z5u:List Str:=["_law_gaps_here","_law_number","_law_name"]
abbrev z5w:List Str:=["_law_names_here","_law_had_here","_law_rows","_law_reach"]
abbrev z45:List Str:=["_law_script","_law_names_here"]
abbrev z5m:List Str:=["_law_script"]
abbrev z4G:List Str:=["_law_names_here","_law_reach","_law_rows","_law_order"]
abbrev z5G:List Str:=["_law_which","_law_shelf","_law_book","_law_reader","_law_name"]
abbrev plaw:List Str:=["_law_script"]
theorem z3O:A3 ["had","latest"] z2U (z07 z2T):=scp
theorem z6Y:A3 ["number","reach"] z5K (z07 z5M):=scp
theorem z7S:A3 ["had","number","reach","tellers"] z6M (z07 z6V):=scp
theorem z2s:A3 ["had","reach"] z1g (z07 z1K):=scp
theorem z5d:A3 ["had","reach"] z2i (z07 z48):=scp
theorem z2J:A3 ["had","reach","behind"] z0S (z07 z1X):=scp
theorem z3n:A3 ["names"] z2y (z07 z2x):=scp
theorem z3l:A3 ["reach"] z2z (z07 z2B):=scp
theorem z4i:A3 ["names","reach"] z2k (z07 z37):=scp
theorem z1h:A3 ["names","name"] z0H (z07 z1o):=scp
theorem z4Z:A3 ["shelf","name","number","values"] z1A (z07 z6a):=scp
theorem z4u:A3 ["shelf","number","teller"] z3u (z07 z3D):=scp
theorem y0P:A3 ["shelf","lacking"] z64 (z07 z9E):=scp
theorem z4e:A3 ["shelf","name","held_from"] z35 (z07 z4S):=scp
theorem z4U:A3 ["shelf","name","held_from","dark_behind"] z2l (z07 z6s):=scp
theorem z28:A3 ["shelf","name"] z1u (z07 z2n):=scp
theorem z8p:A3 ["shelf"] z6C (z07 z6G):=scp
theorem z8T:A3 ["sets","reach","number","ahead"] z65 (z07 z8h):=scp
theorem z1H:A3 ["value"] z18 (z07 z1R):=scp
theorem z1U:A3 ["names","rows","set_names","name","value"] z1e (z07 z29):=scp
theorem z4z:A3 ["names","rows","values"] z2C (z07 z3t):=scp
theorem z4C:A3 ["rows"] z26 (z07 z3p):=scp
theorem z3M:A3 ["self","names","reach"] z2S (z07 z2R):=scp
theorem z13:A3 ["self","rows"] z0B (z07 z19):=scp
theorem z2D:A3 ["self","rows","number","sets"] z2o (z07 z30):=scp
theorem z4D:A3 ["self"] z3s (z07 z3z):=scp
theorem z2F:A3 ["self","number"] z0P (z07 z2W):=scp
theorem z7j:A3 ["shelf","sets","number","teller","names"] z5p (z07 z5v):=scp
theorem z7l:A3 ["power","product","step"] z42 (z07 z5F):=scp
theorem z5e:A3 ["shelf","dark"] z41 (z07 z3S):=scp
theorem z6g:A3 ["shelf","name","state","count","held_from","dark_behind","not_again"] z4J (z07 z4H):=scp
theorem z68:A3 ["shelf","name","not_again","latest_dark","again"] z4P (z07 z4q):=scp
theorem z4g:A3 ["self","names","reach"] z1L (z07 z39):=scp
theorem z7M:A3 ["self","issue","number"] z3H (z07 z6A):=scp
theorem z7N:A3 ["self"] z0Z (z07 z6Q):=scp
theorem z55:A3 ["self"] z5O (z07 z4d):=scp
theorem z4F:A3 ["self","number"] z27 (z07 z3A):=scp
theorem z4r:A3 ["self","number"] z3v (z07 z3E):=scp
theorem z2V:A3 ["readers"] z2b (z07 z2e):=scp
theorem z4n:A3 ["self","names","reach","readers"] z3F (z07 z3r):=scp
theorem z0L:A3 ["self","reader"] z0p (z07 z0Q):=scp
theorem z0U:A3 ["self"] z0v (z07 z0Y):=scp
theorem z3f:A3 ["self","rows","number"] z4c (z07 z4f):=scp
theorem z2G:A3 ["self","reader","number","getting","lacked"] z2Y (z07 z2X):=scp
theorem z5U:A3 ["self"] z70 (z07 z4M):=scp
theorem z3k:A3 ["self","number"] z5j (z07 z4a):=scp
theorem z7g:A3 ["self"] z5i (z07 z5s):=scp
theorem z3Y:A3 ["self","which"] z6S (z07 z4R):=scp
theorem z3i:A3 ["self","reader","deed","behind","told","past"] z2d (z07 z47):=scp
theorem y0f:A3 ["book","reader","name","rows","which","now"] z9v (z07 z9l):=scp
theorem z4k:A3 ["had","reach","behind","fewest","apart","dark"] z3b (z07 z3d):=scp
theorem z8U:A3 ["shelf","name","asked","held_from"] z5W (z07 z8a):=scp
theorem y0N:A3 ["_law_script","_law_k"] z5X (z07 z9t):=scp
theorem z7J:A3 ["_law_cell","_law_size","_law_once"] z3G (z07 z6y):=scp
theorem z99:A3 ["_law_cell","_law_many","_law_size","_law_rest","_law_mixed","_law_figures","_law_k"] z3K (z07 z7Z):=scp
theorem z7W:A3 ["_law_found","_law_due","_law_k"] z2w (z07 z4W):=scp
theorem z71:A3 ["_law_cell","_law_many","_law_signs","_law_turn","_law_stem","_law_spot"] z5E (z07 z5y):=scp
theorem z5c:A3 ["_law_names_here","_law_cell","_law_near","_law_far","_law_made"] z3X (z07 z4b):=scp
theorem z59:A3 ["_law_times","_law_many","_law_turn"] z3T (z07 z3U):=scp
theorem z8u:A3 ["_law_names_here","_law_cell","_law_many","_law_size","_law_sets_here","_law_figure","_law_mask","_law_chosen","_law_name"] z6E (z07 z6L):=scp
theorem z79:A3 ["_law_figure","_law_place"] z5g (z07 z5k):=scp
theorem z6f:A3 ["_law_sets_here","_law_cell","_law_figures","_law_rows","_law_k","_law_one","_law_place"] z4E (z07 z4p):=scp
theorem z95:A3 ["_law_cell","_law_many","_law_flags","_law_numbers_here","_law_number","_law_jump","_law_figure"] z7I (z07 z8m):=scp
theorem z4Q:A3 ["_law_row_here","_law_cell","_law_figures","_law_told","_law_k"] z3x (z07 z3o):=scp
theorem z7i:A3 ["_law_rows","_law_number","_law_reach","_law_tail","_law_other"] z5o (z07 z5N):=scp
theorem z6e:A3 ["_law_had_here","_law_number","_law_reach","_law_above"] z4s (z07 z4B):=scp
theorem z82:A3 ["_law_had_here","_law_rows","_law_reach","_law_gaps_here","_law_number","_law_teller_here"] z6T (z07 z6U):=scp
theorem z7Y:A3 ["_law_had_here","_law_rows","_law_name","_law_held_here","_law_number","_law_row_here"] z6x (z07 z6w):=scp
theorem z74:A3 ["_law_gaps_here","_law_number","_law_name"] z5J (z07 z5l):=scp
theorem z7c:A3 ["_law_gaps_here","_law_number","_law_name"] z5u (z07 z5B):=scp
theorem z6W:A3 ["_law_names_here","_law_had_here","_law_rows","_law_reach","_law_gaps_here","_law_table_here","_law_name","_law_held_here"] z5w (z07 z5H):=scp
theorem z58:A3 ["_law_script","_law_names_here","_law_many","_law_sets_here"] z45 (z07 z3R):=scp
theorem z7h:A3 ["_law_script"] z5m (z07 z5z):=scp
theorem z62:A3 ["_law_names_here","_law_reach","_law_rows","_law_order","_law_shelf","_law_number"] z4G (z07 z4w):=scp
theorem z7o:A3 ["_law_which","_law_shelf","_law_book","_law_reader","_law_name","_law_flags","_law_fine","e"] z5G (z07 z5r):=scp
theorem y8d:A3 ["_law_script","_law_names_here","_law_rows","_law_reach","_law_had_here","_law_order","_law_shelf","_law_book","_law_near","_law_strange_here","_law_which","_law_reader"] plaw (z07 slaw):=scp
structure TxOffice(K:PySem.W.Frag)(mg:Str->Option Value)(C:Addr):Prop where
 cl:Cls K C
 mgC:mg "Office"=some (.ref C)
 n_names:z3a K C "names"
 n_reach:z3a K C "reach"
 n_written:z3a K C "written"
structure TxShelf(K:PySem.W.Frag)(mg:Str->Option Value)(C:Addr):Prop where
 cl:Cls K C
 mgC:mg "Shelf"=some (.ref C)
 n_names:z3a K C "names"
 n_reach:z3a K C "reach"
 n_issues:z3a K C "issues"
structure TxBook(K:PySem.W.Frag)(mg:Str->Option Value)(C:Addr):Prop where
 cl:Cls K C
 mgC:mg "Book"=some (.ref C)
 n_office:z3a K C "office"
 n_readers:z3a K C "readers"
 n_done:z3a K C "done"
structure Bl(mg:Str->Option Value):Prop where
 len:mg "len"=none
 range:mg "range"=none
 tuple:mg "tuple"=none
 list:mg "list"=none
 max:mg "max"=none
 min:mg "min"=none
 sorted:mg "sorted"=none
 isinstance:mg "isinstance"=none
 bool:mg "bool"=none
 int:mg "int"=none
 str:mg "str"=none
 set:mg "set"=none
 reversed:mg "reversed"=none
 dict:mg "dict"=none
 zip:mg "zip"=none
 all:mg "all"=none
 ValueError:mg "ValueError"=none
 MOST_NAMES:∃t,mg "MOST_NAMES"=some (.int 12 t)
 MOST_REACH:∃t,mg "MOST_REACH"=some (.int 10 t)
 MOST_NUMBERS:∃t,mg "MOST_NUMBERS"=some (.int 60 t)
 MOST_VALUE:∃t,mg "MOST_VALUE"=some (.int 1000000 t)
 MOST_READERS:∃t,mg "MOST_READERS"=some (.int 10 t)
 MOST_DEEDS:∃t,mg "MOST_DEEDS"=some (.int 400 t)
 SURE:∃t,mg "SURE"=some (.str "sure" t)
 STALE:∃t,mg "STALE"=some (.str "stale" t)
 OPEN:∃t,mg "OPEN"=some (.str "open" t)
 WRITE:∃t,mg "WRITE"=some (.str "write" t)
 DELIVER:∃t,mg "DELIVER"=some (.str "deliver" t)
theorem z02{H:Hp}{p:Addr}(h:H p=none)(o:HO):A4 H (upd H p o):=fun b u q=>by rw[z0e (z0o q h)];exact q
theorem z2E{H H':Hp}{l:Addr}{o:HO}(hs:A4 H H')(hl:H l=none):A4 H (upd H' l o):=fun b u e=>by rw[z0e (z0o e hl)];exact hs b u e
theorem z9C{n:Nat}(h:n≤1000):n≤sizeLine:=fK (z0n h)
theorem z8x{ns:List Int}{k:Int}(h0:0≤k)(h:k<(ns.length:Int)):atI (ns.map V.int) k=some (.int (ns.getD k.toNat 0)):=by
 have hk:k.toNat<ns.length:=by omega
 have ek:k=((k.toNat:Nat):Int):=by omega
 have q:atI (ns.map V.int) ((k.toNat:Nat):Int)=some (.int (ns.getD k.toNat 0)):=z1O (by
  rw[bK,bU hk,bY,bU hk]<;>rfl)
 rw[<- ek] at q
 exact q
theorem z7C{K:PySem.W.Frag}{H H':Hp}{a:Addr}{xs:List V}(e:A4 H H')(h:SqT K H a xs):SqT K H' a xs:=by
 rcases h with (h|⟨o,h⟩)|h
 ·exact .inl (.inl (e _ _ h))
 ·exact .inl (.inr ⟨o,e _ _ h⟩)
 ·exact .inr h
theorem z0C{p:Prop}[Decidable p](h:decide p=true):p:=of_decide_eq_true h
theorem z4I{p:Prop}[Decidable p](h:¬decide p=true):¬p:=fun q=>h (decide_eq_true q)
section
variable{P:Program}{w:World}{K:PySem.W.Frag}{mg:Str->Option Value}{base:Heap}{f:Addr}{fd:FuncData}
theorem z2m:∀{l1 l2:List Int},l1.Pairwise (· < ·)->l2.Pairwise (· < ·)->(∀x,x∈l1↔x∈l2)->l1=l2
 | [],[],_,_,_=>rfl
 | [],y::_,_,_,h=>by have:=(h y).mpr cB;cases this
 | x::_,[],_,_,h=>by have:=(h x).mp cB;cases this
 | x::r,y::t,p1,p2,h=>by
  rw[gD] at p1 p2
  have e:x=y:=by
   rcases bD.mp ((h x).mp cB) with e|hx
   ·exact e
   ·rcases bD.mp ((h y).mpr cB) with e|hy
    ·exact e.symm
    ·have:=p1.1 y hy
     have:=p2.1 x hx
     omega
  subst e
  refine congrArg (x::·) (z2m p1.2 p2.2 fun z=>⟨fun hz=>?_,fun hz=>?_⟩)
  ·rcases bD.mp ((h z).mp (bP _ hz)) with e|q
   ·have:=p1.1 z hz
    omega
   ·exact q
  ·rcases bD.mp ((h z).mpr (bP _ hz)) with e|q
   ·have:=p2.1 z hz
    omega
   ·exact q
theorem z1S(lo:Int):∀n,(upI lo n).Pairwise (· < ·)
 | 0=>List.Pairwise.nil
 | n+1=>by
  rw[z7A]
  refine cX.mpr ⟨z1S lo n,eZ _ _,fun x hx y hy=>?_⟩
  have h1:=z1r.mp hx
  rw[bB.mp hy]
  omega
theorem y6S(lo:Int)(n:Nat):V2 lo n=(upI lo n).map V.int:=by
 unfold V2 upI
 rw[dH]
 rfl
noncomputable def spAt(K:PySem.W.Frag):Sp:=fun vs H Q _=>∃(a:Addr) (ns:List Int) (k:Int),vs=[.ref a,.int k]/\SqL K H a (ns.map V.int)/\0≤k/\Q (.int (ns.getD k.toNat 0)) H
theorem ok_at(M:Bl mg)(F:Fun K "_law_at" "_law_at" z9t f fd):A8 P w K mg base CX0 1 f fd z5X (spAt K):=by
 have nd:=y0N.nd
 refine F.ok y0N (fun vs H Q E h=>?_) (fun cdv A outer s H vs Q E hr h=>?_)
 ·obtain⟨a,ns,k,rfl,_⟩:=h
  rfl
 obtain⟨a,ns,k,rfl,hS,h0,q⟩:=h
 refine⟨_,(z03 (z0G (z08 z6d (pv 1) (z0b z09 rfl M.len bH (z00 (pv 0) z01)) (z0i _)) (z05 (z0d (z0M z0N (pv 0) (pv 1) (fun _ _=>rfl)))) z0g) (z05 (z0d z06))),?_⟩
 have hl:(ns.map V.int).length=ns.length:=b9 _
 refine⟨_,rfl,_,rfl,a,_,rfl,.inl hS,_,_,rfl,rfl,_,rfl,?_⟩
 refine B4 (fun c=>?_) (fun c=>?_)
 ·have c':=z0C c
  rw[hl] at c'
  exact⟨_,rfl,_,rfl,a,_,_,_,rfl,rfl,hS,z8x h0 c',q⟩
 ·have c':=z4I c
  rw[hl] at c'
  have e:ns.getD k.toNat 0=0:=by rw[bY,List.getElem?_eq_none (by omega)];rfl
  rw[e] at q
  exact q
noncomputable def y24:Sp:=fun vs H Q _=>∃c n:Int,vs=[.int c,.int n]/\0<n/\∀r,0≤r->r<n->Q (.int r) H
theorem y6J(F:Fun K "_law_pick" "_law_pick" z6y f fd):A8 P w K mg base CX0 1 f fd z3G y24:=by
 have nd:=z7J.nd
 refine F.ok z7J (fun vs H Q E h=>?_) (fun cdv A outer s H vs Q E hr h=>?_)
 ·obtain⟨c,n,rfl,_⟩:=h
  rfl
 obtain⟨c,n,rfl,hn,q⟩:=h
 refine⟨_,(z03 (z0G (z08 z23 (z0t z17 (pv 0) z06) z06 (z0i _)) (z05 (z0d (z0t z17 (z0t z1y (pv 0) z06) (pv 1)))) z0g) (z03 (z0f (i:=2) nd rfl (Or.inl rfl) (z0t z17 (z0t z57 (z0t z1y (pv 0) z06) z06) z06)) (z05 (z0d (z0t z17 (z0t z17 (z0t z57 (z0t z1G (pv 2) z06) z06) z06) (pv 1)))))),?_⟩
 refine⟨_,rfl,_,_,rfl,rfl,(by show(0:Int)<2;decide),rfl,_,rfl,?_⟩
 refine B4 (fun _=>?_) (fun _=>?_)
 ·exact⟨_,rfl,_,_,rfl,rfl,⟨by decide,by decide⟩,_,rfl,_,_,rfl,rfl,hn,q _ (cT _ (by omega)) (cM _ hn)⟩
 ·refine⟨_,rfl,_,_,rfl,rfl,⟨by decide,by decide⟩,_,_,rfl,rfl,.inr ⟨by decide,by decide⟩,_,_,rfl,rfl,(by show(0:Int)<2147483647;decide),?_⟩
  refine⟨_,rfl,_,_,rfl,rfl,_,_,rfl,rfl,.inr ⟨by decide,by decide⟩,_,_,rfl,rfl,(by show(0:Int)<2147483647;decide),_,rfl,_,_,rfl,rfl,hn,?_⟩
  exact q _ (cT _ (by omega)) (cM _ hn)
noncomputable def y0K:Nat->Sp
 | 0=>fun _ _ _ _=>False
 | n+1=>fun vs H Q _=>∃x y,vs=[x,y]/\z53 H n x y/\∀H',A4 H H'->Q (.bl true) H'
theorem y3E:A8 P w K mg base CX0 0 f fd z2w (y0K 0):=
 ⟨fun vs H Q E h=>h.elim,fun A outer s H args us vs Q E _ _ _ _ h=>h.elim⟩
noncomputable def tyOf:V->String
 | .non=>"NoneType"
 | .bl _=>"bool"
 | .int _=>"int"
 | _=>"str"
theorem z5C{H:Hp}{x:V}(h:y2K x=true):R5 K H x (.type (tyOf x)):=by
 cases x with
 | non=>exact .non
 | bl b=>exact .bl b
 | int i=>exact .int i
 | str z=>exact .str z
 | _=>exact absurd h bM
noncomputable def kitB:V->String->Bool
 | .bl _,T=>T == "bool" || T == "int"
 | .int _,T=>T == "int"
 | .str _,T=>T == "str"
 | _,_=>false
theorem z7s(T:String)(hT:T="tuple"\/T="bool"\/T="int"\/T="str"){x:V}(h:y2K x=true):PySem.W.kitOne K (.type (tyOf x)) (.type T)=some (kitB x T):=by
 cases x with
 | non=>rcases hT with rfl|rfl|rfl|rfl<;>kernel_rfl
 | bl b=>rcases hT with rfl|rfl|rfl|rfl<;>kernel_rfl
 | int i=>rcases hT with rfl|rfl|rfl|rfl<;>kernel_rfl
 | str z=>rcases hT with rfl|rfl|rfl|rfl<;>kernel_rfl
 | _=>exact absurd h bM
theorem y2M(x:V):kitB x "tuple"=false:=by cases x<;>rfl
theorem y4Y:PySem.W.kitOne K (.type "tuple") (.type "tuple")=some true:=by kernel_rfl
theorem y6k{xs:List V}{i:Nat}(h:i<xs.length):∃v,xs[i]? = some v/\atI xs (i:Int)=some v:=⟨xs[i],bU h,z1O (bU h)⟩
theorem y6U{x:V}(h:y2K x=true):w0w x x=true:=by
 cases x<;>first|rfl|exact absurd h bM
theorem y7s{n:Nat}(M:Bl mg)(F:Fun K "_law_same" "_law_same" z4W f fd)(F4:Cal P w K mg base n "_law_same" z2w (y0K n)) :
  A8 P w K mg base CX0 (n+1) f fd z2w (y0K (n+1)):=by
 have nd:=z7W.nd
 refine F.ok z7W (fun vs H Q E h=>?_) (fun cdv A outer s H vs Q E hr h=>?_)
 ·obtain⟨x,y,rfl,_⟩:=h
  rfl
 obtain⟨x,y,rfl,ha,q⟩:=h
 refine⟨_,(z03 (z0G (z77 (z0b z1P rfl M.isinstance cA (z00 (pv 1) (z00 (z3V (v:=.ty "tuple") rfl M.tuple bI rfl) z01)))) (z03 (z0G (PW.pt (z3Q (z8j (z77 (z0b z1P rfl M.isinstance cA (z00 (pv 0) (z00 (z3V (v:=.ty "tuple") rfl M.tuple bI rfl) z01))))) (z2q (z08 z9j (z0b z09 rfl M.len bH (z00 (pv 0) z01)) (z0b z09 rfl M.len bH (z00 (pv 1) z01)) (z0i _))))) (z05 (z0d z5D)) z0g) (z03 (z1s cD rfl (z1M rfl M.range (z00 (z0b z09 rfl M.len bH (z00 (pv 1) z01)) z01)) (z0h (i:=2) nd rfl (Or.inl rfl)) (z05 (z0G (z8j (z77 (z0k F4 (rm hr) rfl (z00 (z0M z1b (pv 0) (pv 2) (fun _ _=>rfl)) (z00 (z0M z1b (pv 1) (pv 2) (fun _ _=>rfl)) z01))))) (z05 (z0d z5D)) z0g))) (z05 (z0d z5D)))) z0g) (z03 (z0G (PW.pt (z3Q (z08 z9j (z0b z1P rfl M.isinstance cA (z00 (pv 0) (z00 (z3V (v:=.ty "bool") rfl M.bool PyProof.Rows.boot_bool rfl) z01))) (z0b z1P rfl M.isinstance cA (z00 (pv 1) (z00 (z3V (v:=.ty "bool") rfl M.bool PyProof.Rows.boot_bool rfl) z01))) (z0i _)) (z2q (z08 z9j (z0b z1P rfl M.isinstance cA (z00 (pv 0) (z00 (z3V (v:=.ty "int") rfl M.int PyProof.Rows.boot_int rfl) z01))) (z0b z1P rfl M.isinstance cA (z00 (pv 1) (z00 (z3V (v:=.ty "int") rfl M.int PyProof.Rows.boot_int rfl) z01))) (z0i _))))) (z05 (z0d z5D)) z0g) (z03 (z0G (PW.pt (z3Q (z08 z9j (z0b z1P rfl M.isinstance cA (z00 (pv 0) (z00 (z3V (v:=.ty "str") rfl M.str PyProof.Rows.boot_str rfl) z01))) (z0b z1P rfl M.isinstance cA (z00 (pv 1) (z00 (z3V (v:=.ty "str") rfl M.str PyProof.Rows.boot_str rfl) z01))) (z0i _)) (z2q (z08 z9j (y6b (z94 (pv 0))) (y6b (z94 (pv 1))) (z0i _))))) (z05 (z0d z5D)) z0g) (z05 (z0d (y1x z23 (pv 0) (pv 1) (z0i _))))))),?_⟩
 have ha':(x=y/\y2K x=true)\/∃(m:Nat) (a b:Addr) (xs ys:List V),n=m+1/\x=.ref a/\y=.ref b/\H a=some (.tup xs)/\H b=some (.tup ys)/\xs.length=ys.length/\ys.length≤1000000/\
   ∀(i:Nat) (u v:V),xs[i]? = some u->ys[i]? = some v->z53 H m u v:=by
  cases n with
  | zero=>exact .inl ha
  | succ n=>
   rcases ha with ha|⟨a,b,xs,ys,e1,e2,h1,h2,hl,hm,hi⟩
   ·exact .inl ha
   ·exact .inr ⟨n,a,b,xs,ys,rfl,e1,e2,h1,h2,hl,hm,hi⟩
 rcases ha' with ⟨rfl,hs⟩|⟨m,a,b,xs,ys,rfl,rfl,rfl,h1,h2,hl,hm,hi⟩
 ·have k1:=z7s (K:=K) "tuple" (.inl rfl) hs
  have k2:=z7s (K:=K) "bool" (.inr (.inl rfl)) hs
  have k3:=z7s (K:=K) "int" (.inr (.inr (.inl rfl))) hs
  have k4:=z7s (K:=K) "str" (.inr (.inr (.inr rfl))) hs
  rw[y2M] at k1
  refine⟨_,rfl,_,_,_,_,rfl,z5C hs,k1,_,rfl,E7 ?_⟩
  refine⟨_,rfl,_,_,_,_,rfl,z5C hs,k2,_,rfl,_,_,_,_,rfl,z5C hs,k2,rfl,_,rfl,?_⟩
  rw[decide_eq_true rfl]
  refine E7 ⟨_,rfl,_,_,_,_,rfl,z5C hs,k3,_,rfl,_,_,_,_,rfl,z5C hs,k3,rfl,_,rfl,?_⟩
  rw[decide_eq_true rfl]
  refine E7 ?_
  refine⟨_,rfl,_,_,_,_,rfl,z5C hs,k4,_,rfl,_,_,_,_,rfl,z5C hs,k4,rfl,_,rfl,?_⟩
  rw[decide_eq_true rfl]
  refine E7 ⟨_,rfl,_,rfl,rfl,_,rfl,?_⟩
  rw[decide_eq_true rfl]
  refine E7 ?_
  refine⟨_,rfl,_,rfl,y6U hs,?_⟩
  rw[decide_eq_true rfl]
  exact q H (A4.refl H)
 ·refine⟨_,rfl,_,_,_,_,rfl,.tup h2,y4Y,_,rfl,L8 ?_⟩
  refine⟨_,rfl,_,_,_,_,rfl,.tup h1,y4Y,_,rfl,E7 ?_⟩
  refine⟨_,rfl,a,xs,rfl,.inr (SqT.of h1),_,rfl,b,ys,rfl,.inr (SqT.of h2),rfl,_,rfl,?_⟩
  rw[hl,decide_eq_true rfl]
  refine E7 ?_
  refine⟨_,rfl,b,ys,rfl,.inr (SqT.of h2),_,rfl,by omega,by omega,?_⟩
  refine z2h (lo:=0) (n:=ys.length) (fun _ σ H'=>A4 H H'/\∃o,σ=[some (.ref a),some (.ref b),o]) ⟨A4.refl H,_,rfl⟩ (fun i σ H' hi' hp=>?_) (fun σ H' hp=>?_)
  ·obtain⟨hS,o,rfl⟩:=hp
   obtain⟨u,hu,au⟩:=y6k (xs:=xs) (i:=i) (by omega)
   obtain⟨v,hv,av⟩:=y6k (xs:=ys) (i:=i) hi'
   have ei:(0:Int)+(i:Int)=(i:Int):=jG _
   refine⟨_,rfl,_,rfl,a,_,_,_,rfl,rfl,SqT.of (hS _ _ h1),(by rw[ei];exact au),_,rfl,_,rfl,b,_,_,_,rfl,rfl,SqT.of (hS _ _ h2),(by rw[ei];exact av),?_⟩
   refine⟨u,v,rfl,(hi i u v hu hv).keep hS,fun H2 hS2=>⟨_,rfl,?_⟩⟩
   exact E7 ⟨hS.trans hS2,_,rfl⟩
  ·obtain⟨hS,o,rfl⟩:=hp
   exact q H' hS
theorem y1T(M:Bl mg)(F:Fun K "_law_same" "_law_same" z4W f fd)(B:z1D K fd z2w [])(N:mg "_law_same"=some (.ref f)) :
  ∀n,Cal P w K mg base n "_law_same" z2w (y0K n)
 | 0=>.mk' y3E B F.kp N
 | n+1=>.mk' (y7s M F (y1T M F B N n)) B F.kp N
theorem z9Y{ns:List Int}{n:Nat}(h:ns.length≤n)(hn:n≤1000):(ns.map V.int).length<sizeLine:=z0n (by rw[b9];omega)
noncomputable def y42:Sp:=fun vs H Q _=>∃c m z:Int,vs=[.int c,.int m,.int z]/\0≤m/\m≤900/\0<z/\z<1073741824/\
 ∀(l:Addr) (ns:List Int) (H':Hp),H l=none->A4 H H'->H' l=some (.lst (ns.map V.int))->ns.length=m.toNat->(∀x∈ns,0≤x/\x<z)->Q (.ref l) H'
theorem y81(M:Bl mg)(F:Fun K "_law_row" "_law_row" z7Z f fd):A8 P w K mg base CX0 1 f fd z3K y42:=by
 have nd:=z99.nd
 refine F.ok z99 (fun vs H Q E h=>?_) (fun cdv A outer s H vs Q E hr h=>?_)
 ·obtain⟨c,m,z,rfl,_⟩:=h
  rfl
 obtain⟨c,m,z,rfl,m0,m1,z0,z1,q⟩:=h
 refine⟨_,(z03 (z0f (i:=3) nd rfl (Or.inl rfl) (z0t z1y (pv 0) z06)) (z03 (z0f (i:=4) nd rfl (Or.inl rfl) (z0t z17 (z0t z57 (pv 3) z06) z06)) (z03 (z0f (i:=5) nd rfl (Or.inl rfl) (z1w z01)) (z03 (z1s cD rfl (z1M rfl M.range (z00 (pv 1) z01)) (z0h (i:=6) nd rfl (Or.inl rfl)) (z03 (z0f (i:=4) nd rfl (Or.inl rfl) (z0t z17 (z0t z1G (z0t z1G (z0t z57 (pv 4) z06) (pv 6)) z06) z06)) (z05 (z0G (z08 z23 (z0t z17 (pv 0) z06) z06 (z0i _)) (z03 (z0y (z2Z bV bT bZ z0K (pv 5) (z00 (z0t z17 (pv 3) (pv 2)) z01))) (z05 (z0f (i:=3) nd rfl (Or.inl rfl) (z0t z1y (pv 3) (pv 2))))) (z05 (z0y (z2Z bV bT bZ z0K (pv 5) (z00 (z0t z17 (z0t z1y (pv 4) z06) (pv 2)) z01)))))))) (z05 (z0d (pv 5))))))),?_⟩
 refine⟨_,rfl,_,_,rfl,rfl,⟨by decide,by decide⟩,?_⟩
 refine⟨_,rfl,_,_,rfl,rfl,.inr ⟨by decide,by decide⟩,_,_,rfl,rfl,(by show(0:Int)<2147483647;decide),?_⟩
 refine⟨(by show 0≤sizeLine;decide),fun l hl=>?_⟩
 refine⟨_,rfl,_,rfl,by omega,by omega,?_⟩
 refine z2h (lo:=0) (n:=m.toNat) (fun i σ H'=>∃(ns:List Int) (r mx:Int) (o:Option V),ns.length=i/\(∀x∈ns,0≤x/\x<z)/\H'=upd H l (.lst (ns.map V.int))/\
  σ=[some (.int c),some (.int m),some (.int z),some (.int r),some (.int mx),some (.ref l),o]) ⟨[],_,_,_,rfl,(fun _ h=>nomatch h),rfl,rfl⟩ (fun i σ H' hi hp=>?_) (fun σ H' hp=>?_)
 ·obtain⟨ns,r,mx,o,hlen,C7,rfl,rfl⟩:=hp
  refine⟨_,rfl,_,_,rfl,rfl,.inr ⟨by decide,by decide⟩,_,rfl,_,_,rfl,rfl,_,_,rfl,rfl,_,_,rfl,rfl,(by show(0:Int)<2147483647;decide),?_⟩
  refine⟨_,rfl,_,_,rfl,rfl,(by show(0:Int)<2;decide),rfl,_,rfl,?_⟩
  have grow:∀y:Int,(∀x∈ns++[y%z],0≤x/\x<z):=fun y x hx=>by
   rcases bS.mp hx with h|h
   ·exact C7 x h
   ·rw[bB.mp h]
    exact⟨cT _ (by omega),cM _ z0⟩
  have put:∀y:Int,upd (upd H l (.lst (ns.map V.int))) l (.lst (ns.map V.int++[.int (y%z)]))=upd H l (.lst ((ns++[y%z]).map V.int)):=fun y=>by
   rw[z5A,bG]
   rfl
  refine B4 (fun _=>?_) (fun _=>?_)
  ·refine⟨_,rfl,.inl ⟨rfl,_,SqL.of z04⟩,_,rfl,_,rfl,_,_,rfl,rfl,z0,l,_,_,rfl,rfl,z04,z9Y (n:=i) (by omega) (by omega),?_⟩
   refine⟨_,rfl,_,rfl,_,_,rfl,rfl,⟨z0,z1⟩,?_⟩
   exact⟨ns++[r%z],_,_,_,by rw[bN,hlen];rfl,grow r,put r,rfl⟩
  ·refine⟨_,rfl,.inl ⟨rfl,_,SqL.of z04⟩,_,rfl,_,_,rfl,rfl,⟨by decide,by decide⟩,_,rfl,_,_,rfl,rfl,z0,l,_,_,rfl,rfl,z04,z9Y (n:=i) (by omega) (by omega),?_⟩
   exact⟨ns++[_%z],_,_,_,by rw[bN,hlen];rfl,grow _,put _,rfl⟩
 ·obtain⟨ns,r,mx,o,hlen,C7,rfl,rfl⟩:=hp
  exact⟨_,rfl,q l ns _ hl (z02 hl _) z04 hlen C7⟩
theorem z4V(x:Int)(ns:List Int):inV (.int x) (ns.map V.int)=decide (x∈ns):=by
 unfold inV
 rw[dC,gE,gU,decide_eq_true_eq]
 constructor
 ·rintro⟨y,hy,e⟩
  have e':(y == x)=true:=e
  rw[<- eq_of_beq e']
  exact hy
 ·intro h
  exact⟨x,h,show(x == x)=true from beq_self_eq_true x⟩
theorem z3N(ns:List Int):(ns.map V.int).all z22=true:=by
 rw[jF,eM]
 intro x _
 rfl
theorem y3N{l:List Int}{x:Int}(h:l.Pairwise (· < ·))(hx:∀y∈l,y<x):(l++[x]).Pairwise (· < ·):=
 cX.mpr ⟨h,eZ _ _,fun a ha b hb=>by rw[bB.mp hb];exact hx a ha⟩
theorem y3D{l:List Int}(h:l.Pairwise (· < ·)):(l.map fun x=>x+1).Pairwise (· < ·):=by
 rw[dR]
 exact h.imp fun {a b} h=>by omega
theorem y0z:∀{l:List Int},l.Pairwise (·≤·)->l.Nodup->l.Pairwise (· < ·)
 | [],_,_=>.nil
 | x::r,h,n=>by
  rw[gD] at h ⊢
  rw[dE] at n
  refine⟨fun y hy=>?_,y0z h.2 n.2⟩
  have:=h.1 y hy
  have:x≠y:=fun e=>n.1 (e ▸ hy)
  omega
noncomputable def y7M:Sp:=fun vs H Q _=>∃c m:Int,vs=[.int c,.int m]/\0≤m/\m≤60/\
 ∀(l:Addr) (ns:List Int) (H':Hp),H l=none->A4 H H'->H' l=some (.lst (ns.map V.int))->ns.Pairwise (· < ·)->(∀x∈ns,1≤x/\x≤m)->ns.length≤60->Q (.ref l) H'
theorem y8g(M:Bl mg)(F:Fun K "_law_had" "_law_had" z8m f fd)(D0:Cal P w K mg base 1 "_law_row" z3K y42):A8 P w K mg base CX0 2 f fd z7I y7M:=by
 have nd:=z95.nd
 refine F.ok z95 (fun vs H Q E h=>?_) (fun cdv A outer s H vs Q E hr h=>?_)
 ·obtain⟨c,m,rfl,_⟩:=h
  rfl
 obtain⟨c,m,rfl,m0,m1,q⟩:=h
 refine⟨_,(z03 (z0G (z08 z23 (z0t z17 (pv 0) z06) z06 (z0i _)) (z03 (z0f (i:=2) nd rfl (Or.inr rfl) (z0k D0 (rm hr) rfl (z00 (z0t z1y (pv 0) z06) (z00 (pv 1) (z00 z06 z01))))) (z05 (z0d (z1n ["_law_k"] ["_law_flags"] [2] rfl (z0z rfl (by decide +kernel) rfl (by decide +kernel) rfl rfl) (z1M rfl M.range (z00 (pv 1) z01)) (fun _ _ _ _ _=>(z0h (i:=0) (show((["_law_k"]:List PySem.Str)++(["_law_flags"]:List PySem.Str)).Nodup from by decide +kernel) rfl (Or.inl rfl))) (z0A (by decide)) z0a (fun _ _ _ _ _=>(z2A (z08 z23 (z0M (r:=w0E K) z0N (pv 1) (pv 0) (fun _ _=>rfl)) z06 (z0i _)))) (fun _ _ _ _ _=>(z0t z1G (pv 0) z06)))))) z0g) (z03 (z0f (i:=3) nd rfl (Or.inl rfl) (z1w z01)) (z03 (z0G (z08 z23 (z0t z17 (pv 0) z06) z06 (z0i _)) (z03 (z0f (i:=4) nd rfl (Or.inl rfl) z06) (z03 (z1s cD rfl (z1v (z0k D0 (rm hr) rfl (z00 (z0t z1y (pv 0) z06) (z00 (pv 1) (z00 z06 z01))))) (z0h (i:=5) nd rfl (Or.inl rfl)) (z03 (z0f (i:=4) nd rfl (Or.inl rfl) (z0t z1G (z0t z1G (pv 4) z06) (pv 5))) (z05 (z0G (z08 y5X (pv 4) (pv 1) (z0i _)) (z05 (z0y (z2Z bV bT bZ z0K (pv 3) (z00 (pv 4) z01)))) z0g)))) (z05 (z0d (pv 3))))) z0g) (z03 (z1s cD rfl (z1v (z0k D0 (rm hr) rfl (z00 (z0t z1y (pv 0) z06) (z00 z06 (z00 (z0t z1G (pv 1) z06) z01))))) (z0h (i:=6) nd rfl (Or.inl rfl)) (z05 (z0G (PW.pt (z6l (z08 z2c (pv 6) z06 (z0i _)) (z40 (z08 z2f (pv 6) (pv 3) (by with_unfolding_all rfl))))) (z05 (z0y (z2Z bV bT bZ z0K (pv 3) (z00 (pv 6) z01)))) z0g))) (z05 (z0d (z0b z8c rfl M.sorted eO (z00 (pv 3) z01)))))))),?_⟩
 refine⟨_,rfl,_,_,rfl,rfl,(by show(0:Int)<3;decide),rfl,_,rfl,?_⟩
 refine B4 (fun _=>?_) (fun _=>?_)
 ·refine⟨_,rfl,_,_,rfl,rfl,⟨by decide,by decide⟩,_,rfl,_,m,2,rfl,m0,by omega,by decide,by decide,fun lf fs H1 nlf s1 e1 T1 all1=>?_⟩
  refine⟨_,rfl,_,rfl,by omega,by omega,?_⟩
  refine z83 (lo:=0) (n:=m.toNat) (fun k=>decide (fs.getD k.toNat 0=1)) (fun k=>.int (k+1)) (by omega) (fun k ys N k0 k1 hN=>?_) ?_
  ·refine⟨_,rfl,_,rfl,lf,_,_,_,rfl,rfl,SqL.of e1,z8x k0 (by omega),rfl,_,rfl,?_⟩
   refine B4 (fun c2=>?_) (fun c2=>?_)
   ·have c3:decide (fs.getD k.toNat 0=1)=true:=decide_eq_true (V.int.inj (z0C c2))
    rw[if_pos c3] at hN
    exact⟨_,rfl,_,_,rfl,rfl,hN⟩
   ·have c3:¬decide (fs.getD k.toNat 0=1)=true:=fun z=>c2 (decide_eq_true (congrArg V.int (z0C z)))
    rw[if_neg c3] at hN
    exact hN
  ·intro D hD
   have e:z2L (fun k=>decide (fs.getD k.toNat 0=1)) (fun k=>V.int (k+1)) (upI 0 m.toNat)=(((upI 0 m.toNat).filter fun k=>decide (fs.getD k.toNat 0=1)).map fun x=>x+1).map V.int:=by
    unfold z2L
    rw[dH]
    rfl
   refine q D (((upI 0 m.toNat).filter fun k=>decide (fs.getD k.toNat 0=1)).map fun x=>x+1) _ (s1.free hD) (s1.trans (z02 hD _)) ?_ (y3D ((z1S 0 _).filter _)) (fun x hx=>?_) ?_
   ·rw[z04,e]
   ·obtain⟨y,hy,rfl⟩:=cG.mp hx
    have:=z1r.mp (cK.mp hy).1
    omega
   ·rw[b9]
    have h:=cI (fun k:Int=>decide (fs.getD k.toNat 0=1)) (upI 0 m.toNat)
    rw[z0T] at h
    omega
 ·refine⟨(by show 0≤sizeLine;decide),fun l hl=>?_⟩
  refine⟨_,rfl,_,_,rfl,rfl,(by show(0:Int)<3;decide),rfl,_,rfl,?_⟩
  refine B4 (fun _=>?_) (fun _=>?_)
  ·refine⟨_,rfl,_,_,rfl,rfl,⟨by decide,by decide⟩,_,rfl,_,m,15,rfl,m0,by omega,by decide,by decide,fun lf fs H1 nlf s1 e1 T1 all1=>?_⟩
   have nl:lf≠l:=fun z=>by rw[z,z04] at nlf;cases nlf
   refine⟨lf,rfl,⟨_,SqL.of e1⟩,?_⟩
   refine z2a (xs:=fs.map V.int) (fun i σ H'=>∃(ns:List Int) (x:Int) (o1 o2 o3:Option V),ns.Pairwise (· < ·)/\(∀y∈ns,1≤y/\y≤m/\y≤x)/\0≤x/\ns.length≤i/\H' l=some (.lst (ns.map V.int))/\H' lf=some (.lst (fs.map V.int))/\A4 H H'/\
    σ=[some (.int c),some (.int m),o1,some (.ref l),some (.int x),o2,o3]) ⟨[],0,_,_,_,.nil,(fun _ h=>nomatch h),dP 0,bE 0,s1 _ _ z04,e1,(z02 hl _).trans s1,rfl⟩ (fun i σ H' hi hp=>?_) (fun i x σ H' hx hp=>?_) (fun σ H' hp=>?_)
   ·obtain⟨ns,x,o1,o2,o3,_,_,_,_,_,h2,_⟩:=hp
    exact SqL.of h2
   ·obtain⟨ns,v,o1,o2,o3,p1,p2,p3,p4,p5,p6,p7,rfl⟩:=hp
    rw[bK] at hx
    cases ef:fs[i]? with
    | none=>rw[ef] at hx;cases hx
    | some j=>
     rw[ef] at hx
     cases hx
     have hj:=all1 j (bQ ef)
     have hi:i<fs.length:=(cJ.mp ef).1
     refine⟨_,rfl,_,_,rfl,rfl,_,rfl,_,_,rfl,rfl,?_⟩
     refine⟨_,rfl,_,rfl,_,_,rfl,rfl,_,rfl,?_⟩
     refine B4 (fun c2=>?_) (fun c2=>?_)
     ·have c3:=z0C c2
      refine⟨_,rfl,.inl ⟨rfl,_,SqL.of p5⟩,_,rfl,l,_,_,rfl,rfl,p5,z9Y (n:=i) p4 (by omega),?_⟩
      refine⟨ns++[v+1+j],v+1+j,_,_,_,y3N p1 fun y hy=>by have:=p2 y hy;omega,fun y hy=>?_,by omega,by rw[bN,dA];omega,?_,?_,z2E p7 hl,rfl⟩
      ·rcases bS.mp hy with h|h
       ·have:=p2 y h;omega
       ·rw[bB.mp h];omega
      ·rw[z04,bG];rfl
      ·rw[z0e nl];exact p6
     ·exact⟨ns,v+1+j,_,_,_,p1,fun y hy=>by have:=p2 y hy;omega,by omega,by omega,p5,p6,p7,rfl⟩
   ·obtain⟨ns,x,o1,o2,o3,p1,p2,p3,p4,p5,p6,p7,rfl⟩:=hp
    rw[b9] at p4
    exact⟨_,rfl,q l ns _ hl p7 p5 p1 (fun y hy=>⟨(p2 y hy).1,(p2 y hy).2.1⟩) (by omega)⟩
  ·refine⟨_,rfl,_,_,rfl,rfl,⟨by decide,by decide⟩,_,rfl,_,_,rfl,rfl,_,4,m+1,rfl,by decide,by decide,by omega,by omega,fun lf fs H1 nlf s1 e1 T1 all1=>?_⟩
   have nl:lf≠l:=fun z=>by rw[z,z04] at nlf;cases nlf
   refine⟨lf,rfl,⟨_,SqL.of e1⟩,?_⟩
   refine z2a (xs:=fs.map V.int) (fun i σ H'=>∃(ns:List Int) (o1 o2 o3 o4:Option V),ns.Nodup/\(∀y∈ns,1≤y/\y≤m)/\ns.length≤i/\H' l=some (.lst (ns.map V.int))/\H' lf=some (.lst (fs.map V.int))/\A4 H H'/\
    σ=[some (.int c),some (.int m),o1,some (.ref l),o2,o3,o4]) ⟨[],_,_,_,_,.nil,(fun _ h=>nomatch h),bE 0,s1 _ _ z04,e1,(z02 hl _).trans s1,rfl⟩ (fun i σ H' hi hp=>?_) (fun i x σ H' hx hp=>?_) (fun σ H' hp=>?_)
   ·obtain⟨ns,o1,o2,o3,o4,_,_,_,_,h2,_⟩:=hp
    exact SqL.of h2
   ·obtain⟨ns,o1,o2,o3,o4,p1,p2,p4,p5,p6,p7,rfl⟩:=hp
    rw[bK] at hx
    cases ef:fs[i]? with
    | none=>rw[ef] at hx;cases hx
    | some j=>
     rw[ef] at hx
     cases hx
     have hj:=all1 j (bQ ef)
     have hi:i<fs.length:=(cJ.mp ef).1
     have same:∃(ns':List Int) (o1 o2 o3 o4:Option V),ns'.Nodup/\(∀y∈ns',1≤y/\y≤m)/\ns'.length≤i+1/\H' l=some (.lst (ns'.map V.int))/\H' lf=some (.lst (fs.map V.int))/\A4 H H'/\
       ([some (.int c),some (.int m),o1,some (.ref l),o2,o3,o4]:St)=[some (.int c),some (.int m),o1,some (.ref l),o2,o3,o4]:=⟨ns,o1,o2,o3,o4,p1,p2,by omega,p5,p6,p7,rfl⟩
     refine⟨_,rfl,_,_,rfl,rfl,_,rfl,?_⟩
     refine B4 (fun c2=>?_) (fun c2=>?_)
     ·have c3:=z0C c2
      refine⟨_,rfl,_,rfl,l,_,rfl,.inl (SqL.of p5),rfl,z3N ns,_,rfl,?_⟩
      rw[if_pos rfl,z4V]
      refine B4 (fun c4=>?_) (fun c4=>?_)
      ·have c5:j∉ns:=fun z=>by rw[decide_eq_true z] at c4;exact absurd c4 bM
       refine⟨_,rfl,.inl ⟨rfl,_,SqL.of p5⟩,_,rfl,l,_,_,rfl,rfl,p5,z9Y (n:=i) p4 (by omega),?_⟩
       refine⟨ns++[j],_,_,_,_,?_,fun y hy=>?_,by rw[bN,dA];omega,?_,?_,z2E p7 hl,rfl⟩
       ·rw[gL]
        exact⟨p1,dE.mpr ⟨dI,List.nodup_nil⟩,fun y hy z hz=>by rw[bB.mp hz];exact fun e=>c5 (e ▸ hy)⟩
       ·rcases bS.mp hy with h|h
        ·exact p2 y h
        ·rw[bB.mp h];omega
       ·rw[z04,bG];rfl
       ·rw[z0e nl];exact p6
      ·exact⟨ns,_,_,_,_,p1,p2,by omega,p5,p6,p7,rfl⟩
     ·refine E7 ?_
      exact⟨ns,_,_,_,_,p1,p2,by omega,p5,p6,p7,rfl⟩
   ·obtain⟨ns,o1,o2,o3,o4,p1,p2,p4,p5,p6,p7,rfl⟩:=hp
    rw[b9] at p4
    refine⟨_,rfl,l,ns,rfl,SqL.of p5,by omega,fun l2 ns2 hl2 perm srt=>?_⟩
    refine q l2 ns2 _ (p7.free hl2) (p7.trans (z02 hl2 _)) z04 (y0z srt (perm.nodup_iff.mpr p1)) (fun x hx=>p2 x (perm.mem_iff.mp hx)) ?_
    have:=perm.length_eq
    omega
noncomputable def z1d(ns:List Int):List Int:=(upI 1 60).filter fun x=>decide (x∉ns) && decide (∃y∈ns,x<y)
theorem z25{ns:List Int}{x:Int}:x∈z1d ns↔(1≤x/\x<1+60)/\x∉ns/\∃y∈ns,x<y:=by
 unfold z1d
 rw[cK,z1r,bW,decide_eq_true_eq,decide_eq_true_eq]
 rfl
theorem z33(ns:List Int):(z1d ns).Pairwise (· < ·):=(z1S 1 60).filter _
theorem z2O(ns:List Int):(z1d ns).length≤60:=by
 have h:=cI (fun x=>decide (x∉ns) && decide (∃y∈ns,x<y)) (upI 1 60)
 rw[z0T] at h
 exact h
theorem y3B{ns:List Int}{m:Int}(hm:m∈ns)(C7:∀x∈ns,1≤x/\x≤60)(top:∀y∈ns,y≤m):(upI 1 (m+1-1).toNat).filter (fun x=>!decide (x∈ns))=z1d ns:=
 z2m ((z1S _ _).filter _) (z33 _) fun x=>by
  have hm':=C7 m hm
  rw[cK,z1r,z25,gN,decide_eq_false_iff_not]
  constructor
  ·rintro⟨⟨a,b⟩,c⟩
   refine⟨by omega,c,m,hm,?_⟩
   have:x≠m:=fun e=>c (e ▸ hm)
   omega
  ·rintro⟨a,b,y,hy,c⟩
   have:=top y hy
   exact⟨by omega,b⟩
theorem y0x:z1d []=[]:=by
 refine z2m (z33 _) .nil fun x=>?_
 rw[z25]
 constructor
 ·rintro⟨_,_,y,hy,_⟩
  cases hy
 ·intro h
  cases h
theorem SqI.keep{K:PySem.W.Frag}{H H':Hp}{a:Addr}{ns:List Int}(e:A4 H H')(h:SqI K H a ns):SqI K H' a ns:=by
 rcases h with h|h
 ·exact .inl (e.seq h)
 ·rcases h with (h|⟨o,h⟩)|h
  ·exact .inr (.inl (.inl (e _ _ h)))
  ·exact .inr (.inl (.inr ⟨o,e _ _ h⟩))
  ·exact .inr (.inr h)
theorem z96{c:Int->Bool}{t:Int}:∀{l:List Int},l.Pairwise (· < ·)->t∈l->c t=true->(∀y∈l,c y=true->t≤y)->l.find? c=some t
 | [],_,h,_,_=>by cases h
 | x::r,p,h,hc,hm=>by
  rw[gD] at p
  rw[dL]
  rcases bD.mp h with rfl|h
  ·rw[hc]
  ·cases e:c x with
   | true=>
    have h1:=p.1 t h
    have h2:=hm x cB e
    omega
   | false=>exact z96 p.2 h hc fun y hy=>hm y (bP _ hy)
theorem y4k{c:Int->Bool}{t:Int}:∀{l:List Int},l.Pairwise (· < ·)->l.find? c=some t->t∈l/\c t=true/\∀y∈l,c y=true->t≤y
 | [],_,h=>by cases h
 | x::r,p,h=>by
  rw[gD] at p
  rw[dL] at h
  cases e:c x with
  | true=>
   rw[e] at h
   have h':x=t:=Option.some.inj h
   subst h'
   refine⟨cB,e,fun y hy _=>?_⟩
   rcases bD.mp hy with rfl|hy
   ·exact dP _
   ·have:=p.1 y hy
    omega
  | false=>
   rw[e] at h
   obtain⟨h1,h2,h3⟩:=y4k p.2 h
   refine⟨bP _ h1,h2,fun y hy hc=>?_⟩
   rcases bD.mp hy with rfl|hy
   ·rw[e] at hc
    cases hc
   ·exact h3 y hy hc
noncomputable def y1t(ns:List Int)(n r:Int)(y:Int):Bool:=decide (n<y) && decide (y-r≤n) && decide (y∈ns)
noncomputable def z0W(ns:List Int)(n r:Int):Int:=((upI 1 60).find? (y1t ns n r)).getD 0
theorem z4x{ns:List Int}{n r y:Int}:y1t ns n r y=true↔n<y/\y-r≤n/\y∈ns:=by
 unfold y1t
 rw[bW,bW,decide_eq_true_eq,decide_eq_true_eq,decide_eq_true_eq,and_assoc]
theorem y2f{ns:List Int}{n r t:Int}(C7:∀x∈ns,1≤x/\x≤60)(ht:t∈ns)(h1:n<t)(h2:t-r≤n)(hm:∀y∈ns,n<y->y-r≤n->t≤y):z0W ns n r=t:=by
 unfold z0W
 rw[z96 (z1S 1 60) (t:=t) (z1r.mpr (by have:=C7 t ht;omega)) (z4x.mpr ⟨h1,h2,ht⟩) fun y _ hy=>by
  obtain⟨a,b,c⟩:=z4x.mp hy
  exact hm y c a b]
 rfl
theorem z6F{ns:List Int}{n r:Int}(h:∀y∈ns,n<y->¬y-r≤n):z0W ns n r=0:=by
 unfold z0W
 have e:(upI 1 60).find? (y1t ns n r)=none:=List.find?_eq_none.mpr fun y _ hy=>by
  obtain⟨a,b,c⟩:=z4x.mp hy
  exact h y c a b
 rw[e]
 rfl
noncomputable def y0B(K:PySem.W.Frag):Sp:=fun vs H Q _=>∃(p:Addr) (ns:List Int) (n r:Int),vs=[.ref p,.int n,.int r]/\SqL K H p (ns.map V.int)/\(∀x∈ns,1≤x/\x≤60)/\ns.length≤900/\0≤r/\
 ∀H',A4 H H'->Q (.int (z0W ns n r)) H'
theorem y2U(M:Bl mg)(F:Fun K "_law_teller" "_law_teller" z4B f fd):A8 P w K mg base CX0 1 f fd z4s (y0B K):=by
 have nd:=z6e.nd
 refine F.ok z6e (fun vs H Q E h=>?_) (fun cdv A outer s H vs Q E hr h=>?_)
 ·obtain⟨p,ns,n,r,rfl,_⟩:=h
  rfl
 obtain⟨p,ns,n,r,rfl,hS,C7,hlen,r0,q⟩:=h
 refine⟨_,(z03 (z5n (i:=3) ["_law_other"] ["_law_number"] [1] rfl nd rfl (Or.inl rfl) (z0z rfl (by decide +kernel) rfl (by decide +kernel) rfl rfl) (z1v (pv 0)) (fun _ _ _ _ _=>(z0h (i:=0) (show((["_law_other"]:List PySem.Str)++(["_law_number"]:List PySem.Str)).Nodup from by decide +kernel) rfl (Or.inl rfl))) (z0A (by decide)) z0a (fun _ _ _ _ _=>(z2A (z08 z2c (pv 0) (pv 1) (z0i _)))) (fun _ _ _ _ _=>(pv 0))) (z03 (z0G (PW.pt (z3Q (z08 (y8b hr.T7) (pv 3) (z1w z01) (z0i _)) (z2q (z08 z2c (z0t z2Q (z0b (z7U rfl) rfl M.min fM (z00 (pv 3) z01)) (pv 1)) (pv 2) (z0i _))))) (z05 (z0d z06)) z0g) (z05 (z0d (z0b (z7U rfl) rfl M.min fM (z00 (pv 3) z01)))))),?_⟩
 refine⟨_,rfl,p,rfl,⟨_,hS⟩,?_⟩
 refine y0T (ns:=ns) (fun y=>decide (n<y)) (fun y=>.int y) hS (by omega) (fun y ys N hy hN=>?_) (fun D hD=>?_)
 ·refine⟨_,rfl,_,rfl,_,_,rfl,rfl,_,rfl,?_⟩
  refine B4 (fun c=>?_) (fun c=>?_)
  ·rw[if_pos c] at hN
   exact⟨_,rfl,hN⟩
  ·rw[if_neg c] at hN
   exact hN
 have eD:upd H D (.lst (z2L (fun y=>decide (n<y)) (fun y=>V.int y) ns)) D=some (.lst ((ns.filter fun y=>decide (n<y)).map V.int)):=z04
 have sD:=z02 hD (.lst (z2L (fun y=>decide (n<y)) (fun y=>V.int y) ns))
 generalize upd H D (.lst (z2L (fun y=>decide (n<y)) (fun y=>V.int y) ns))=H1 at eD sD
 have mem:∀y,y∈ns.filter (fun y=>decide (n<y))↔y∈ns/\n<y:=fun y=>by rw[cK,decide_eq_true_eq]
 generalize ns.filter (fun y=>decide (n<y))=ab at eD mem
 refine⟨_,rfl,(by show 0≤sizeLine;decide),fun e0 he0=>⟨D,e0,_,rfl,rfl,SqL.of (z02 he0 _ _ _ eD),SqL.of z04,_,rfl,?_⟩⟩
 have s2:=sD.trans (z02 he0 (.lst []))
 cases ab with
 | nil=>
  refine L8 ?_
  have e:z0W ns n r=0:=z6F fun y hy h1 _=>by
   have:=(mem y).mpr ⟨hy,h1⟩
   cases this
  exact(by rw[<- e];exact q _ s2)
 | cons y0 yr=>
  refine E7 ?_
  have eL:=z02 he0 (.lst []) _ _ eD
  generalize upd H1 e0 (.lst [])=H2 at s2 eL
  refine⟨_,rfl,D,_,rfl,.inl (SqL.of eL),by simp,fun m hm hl=>⟨_,rfl,_,_,rfl,rfl,_,rfl,_,_,rfl,rfl,_,rfl,?_⟩⟩
  have hm':=(mem m).mp hm
  refine B4 (fun c=>?_) (fun c=>?_)
  ·have c':r<m-n:=z0C c
   have e:z0W ns n r=0:=z6F fun y hy h1 h2=>by
    have:=hl y ((mem y).mpr ⟨hy,h1⟩)
    omega
   exact(by rw[<- e];exact q _ s2)
  ·have c':¬r<m-n:=z4I c
   refine⟨_,rfl,D,_,rfl,.inl (SqL.of eL),by simp,fun m2 hm2 hl2=>?_⟩
   have h2:=(mem m2).mp hm2
   have e:z0W ns n r=m2:=y2f C7 h2.1 h2.2 (by have:=hl2 m hm;omega) fun y hy h1 _=>hl2 y ((mem y).mpr ⟨hy,h1⟩)
   exact(by rw[<- e];exact q _ s2)
noncomputable def sgL:List Nat:=(("mM ~aA0.xX_9":Str).cps.toList)
theorem y1b:sgL.length=12:=by decide +kernel
theorem y4j:sgL.Nodup:=by decide +kernel
abbrev farS:Str:="a stranger of twenty"
abbrev z8C:Str:="a long stem of them"
structure Nms(nm:List Str):Prop where
 nd:nm.Nodup
 lo:∀x∈nm,1≤x.length
 hi:∀x∈nm,x.length≤20
 far:farS∉nm
 low:∀x∈nm,∀c∈x.cps.toList,c<16^8
theorem z6J(a b:Str):(a++b).cps.toList=a.cps.toList++b.cps.toList:=by
 show(a.cps++b.cps).toList=_
 simp
theorem y7k(c:Nat):(⟨#[c]⟩:Str).cps.toList=[c]:=rfl
theorem z4O{α β:Type}{g:α->β}:∀{l:List α},l.Nodup->(∀x∈l,∀y∈l,g x=g y->x=y)->(l.map g).Nodup
 | [],_,_=>List.nodup_nil
 | x::r,n,h=>by
  rw[dE] at n
  rw[cQ,dE]
  refine⟨fun hm=>?_,z4O n.2 fun a ha b hb=>h a (bP _ ha) b (bP _ hb)⟩
  obtain⟨y,hy,e⟩:=cG.mp hm
  have:=h x cB y (bP _ hy) e.symm
  exact n.1 (this ▸ hy)
theorem y0u(lo:Int)(n:Nat):(upI lo n).Nodup:=(z1S lo n).imp fun {a b} h=>by omega
theorem y26{t a b:Int}(ht:0≤t)(ht2:t<12)(a0:0≤a)(a1:a<12)(b0:0≤b)(b1:b<12)(h:(t+a)%12=(t+b)%12):a=b:=by omega
noncomputable def repN(c:Nat)(t k:Int):Str:=Y2 ⟨#[c]⟩ (1+(t+k)%12).toNat
theorem z5Q(c:Nat)(t k:Int):(repN c t k).length=(1+(t+k)%12).toNat:=by
 unfold repN
 rw[<- z10]
 show((List.replicate _ [c]).flatten.toArray).toList.length=_
 simp
theorem y7n{c:Nat}(hc:c<16^8){t:Int}(h0:0≤t)(h1:t<12){m:Nat}(hm:m≤12):Nms ((upI 0 m).map (repN c t)) where
 nd:=z4O (y0u _ _) fun a ha b hb e=>by
  have ha':=z1r.mp ha
  have hb':=z1r.mp hb
  have e2:=congrArg Str.length e
  rw[z5Q,z5Q] at e2
  exact y26 h0 h1 (by omega) (by omega) (by omega) (by omega) (by omega)
 lo:=fun x hx=>by
  obtain⟨k,hk,rfl⟩:=cG.mp hx
  rw[z5Q]
  omega
 hi:=fun x hx=>by
  obtain⟨k,hk,rfl⟩:=cG.mp hx
  rw[z5Q]
  omega
 far:=fun hx=>by
  obtain⟨k,hk,e⟩:=cG.mp hx
  have e2:=congrArg Str.length e
  rw[z5Q] at e2
  have e3:farS.length=20:=by decide +kernel
  omega
 low:=fun x hx d hd=>by
  obtain⟨k,hk,rfl⟩:=cG.mp hx
  have hd':d∈(List.replicate (1+(t+k)%12).toNat [c]).flatten:=hd
  obtain⟨l,hl,hm⟩:=List.mem_flatten.mp hd'
  rw[(List.mem_replicate.mp hl).2,bB] at hm
  rw[hm]
  exact hc
noncomputable def z9x(st:Str)(sp:Int)(t k:Int):Str:=N7 st none (some sp)++⟨#[sgL.getD ((t+k)%12).toNat 0]⟩++N7 st (some sp) none
theorem y1X{n d:Nat}{v:Int}(h0:0≤v)(h1:v≤n):HT.sIx n d (some v)=v.toNat:=by
 show(if v<0 then (v+(n:Int)).toNat else min v.toNat n)=_
 rw[if_neg (by omega),Nat.min_eq_left (by omega)]
theorem y6c(st:Str){sp:Int}(h0:0≤sp)(h1:sp≤st.length):(N7 st none (some sp)).cps.toList=st.cps.toList.take sp.toNat:=by
 show((st.cps.toList.drop 0).take (HT.sIx st.length st.length (some sp)-0))=_
 rw[y1X h0 h1,fN,hU]
theorem y6e(st:Str){sp:Int}(h0:0≤sp)(h1:sp≤st.length):(N7 st (some sp) none).cps.toList=st.cps.toList.drop sp.toNat:=by
 show((st.cps.toList.drop (HT.sIx st.length 0 (some sp))).take (st.length-HT.sIx st.length 0 (some sp)))=_
 rw[y1X h0 h1,d9]
 rw[dF,z10]
 exact bE _
theorem z4y(st:Str){sp:Int}(h0:0≤sp)(h1:sp≤st.length)(t k:Int):(z9x st sp t k).cps.toList=st.cps.toList.take sp.toNat++sgL.getD ((t+k)%12).toNat 0::st.cps.toList.drop sp.toNat:=by
 unfold z9x
 rw[z6J,z6J,y6c st h0 h1,y6e st h0 h1,y7k,gM]
 rfl
theorem z8i(st:Str){sp:Int}(h0:0≤sp)(h1:sp≤st.length)(t k:Int):(z9x st sp t k).length=st.length+1:=by
 rw[<- z10,z4y st h0 h1,bN,c9,bO,dF,z10]
 omega
theorem y5y:∀s<20,∀i<12,z8C.cps.toList.take s++sgL.getD i 0::z8C.cps.toList.drop s≠farS.cps.toList:=by decide +kernel
theorem y5E{st:Str}(hst:st=""\/st="row"\/st=z8C){sp:Int}(h0:0≤sp)(h1:sp≤st.length){t:Int}(t0:0≤t)(t1:t<12){m:Nat}(hm:m≤12):Nms ((upI 0 m).map (z9x st sp t)) where
 nd:=z4O (y0u _ _) fun a ha b hb e=>by
  have ha':=z1r.mp ha
  have hb':=z1r.mp hb
  have e2:(z9x st sp t a).cps.toList=(z9x st sp t b).cps.toList:=congrArg (fun z:Str=>z.cps.toList) e
  rw[z4y st h0 h1,z4y st h0 h1] at e2
  have e3:=List.append_cancel_left e2
  have e4:sgL.getD ((t+a)%12).toNat 0=sgL.getD ((t+b)%12).toNat 0:=(List.cons.inj e3).1
  have l1:((t+a)%12).toNat<sgL.length:=by rw[y1b];omega
  have l2:((t+b)%12).toNat<sgL.length:=by rw[y1b];omega
  rw[bY,bU l1,bY,bU l2] at e4
  have e5:=(List.getElem_inj y4j).mp e4
  exact y26 t0 t1 (by omega) (by omega) (by omega) (by omega) (by omega)
 lo:=fun x hx=>by
  obtain⟨k,hk,rfl⟩:=cG.mp hx
  rw[z8i st h0 h1]
  omega
 hi:=fun x hx=>by
  obtain⟨k,hk,rfl⟩:=cG.mp hx
  rw[z8i st h0 h1]
  have l1:("":Str).length=0:=by decide +kernel
  have l2:("row":Str).length=3:=by decide +kernel
  have l3:z8C.length=19:=by decide +kernel
  rcases hst with rfl|rfl|rfl<;>omega
 far:=fun hx=>by
  obtain⟨k,hk,e⟩:=cG.mp hx
  have l1:("":Str).length=0:=by decide +kernel
  have l2:("row":Str).length=3:=by decide +kernel
  have l3:z8C.length=19:=by decide +kernel
  have l4:farS.length=20:=by decide +kernel
  have e2:=congrArg Str.length e
  rw[z8i st h0 h1] at e2
  rcases hst with rfl|rfl|rfl
  ·omega
  ·omega
  ·have e3:(z9x z8C sp t k).cps.toList=farS.cps.toList:=congrArg (fun z:Str=>z.cps.toList) e
   rw[z4y z8C h0 h1] at e3
   exact y5y sp.toNat (by omega) ((t+k)%12).toNat (by omega) e3
 low:=fun x hx d hd=>by
  obtain⟨k,hk,rfl⟩:=cG.mp hx
  rw[z4y st h0 h1] at hd
  have l1:∀c∈("":Str).cps.toList,c<16^8:=by decide +kernel
  have l2:∀c∈("row":Str).cps.toList,c<16^8:=by decide +kernel
  have l3:∀c∈z8C.cps.toList,c<16^8:=by decide +kernel
  have l4:∀i<12,sgL.getD i 0<16^8:=by decide +kernel
  have ls:∀c∈st.cps.toList,c<16^8:=by rcases hst with rfl|rfl|rfl<;>assumption
  rcases bS.mp hd with hd|hd
  ·exact ls d (fR hd)
  ·rcases bD.mp hd with rfl|hd
   ·exact l4 _ (by omega)
   ·exact ls d (hV hd)
noncomputable def y4Z:Sp:=fun vs H Q _=>∃c m:Int,vs=[.int c,.int m]/\0≤m/\m≤12/\
 ∀(l:Addr) (nm:List Str) (H':Hp),H l=none->A4 H H'->H' l=some (.lst (nm.map V.str))->nm.length=m.toNat->Nms nm->Q (.ref l) H'
theorem y20{f:Int->V}(l:List Int):z2L (fun _=>true) f l=l.map f:=by
 unfold z2L
 rw[List.filter_eq_self.mpr fun _ _=>rfl]
theorem y5d(M:Bl mg)(F:Fun K "_law_named" "_law_named" z5y f fd):A8 P w K mg base CX0 1 f fd z5E y4Z:=by
 have nd:=z71.nd
 refine F.ok z71 (fun vs H Q E h=>?_) (fun cdv A outer s H vs Q E hr h=>?_)
 ·obtain⟨c,m,rfl,_⟩:=h
  rfl
 obtain⟨c,m,rfl,m0,m1,q⟩:=h
 refine⟨_,(z03 (z0f (i:=2) nd rfl (Or.inr rfl) z16) (z03 (z0f (i:=3) nd rfl (Or.inr rfl) (z0t z17 (z0t z1y (pv 0) z06) z06)) (z03 (z0G (z08 z23 (z0t z17 (pv 0) z06) z06 (z0i _)) (z05 (z0d (z1n ["_law_k"] ["_law_cell","_law_turn"] [0,3] rfl (z0z rfl (by decide +kernel) rfl (by decide +kernel) rfl rfl) (z1M rfl M.range (z00 (pv 1) z01)) (fun _ _ _ _ _=>(z0h (i:=0) (show((["_law_k"]:List PySem.Str)++(["_law_cell","_law_turn"]:List PySem.Str)).Nodup from by decide +kernel) rfl (Or.inl rfl))) (z0A (by decide)) z0a (fun _ _ _ _ _=>z1Z) (fun _ _ _ _ _=>(z0t y31 (z0M y3X z16 (z0t z17 (z0t z1y (pv 1) z06) z06) (fun _ _=>rfl)) (z0t z1G z06 (z0t z17 (z0t z1G (pv 2) (pv 0)) z06))))))) z0g) (z03 (z0f (i:=4) nd rfl (Or.inr rfl) (z0M z0N (z1w (z00 z16 (z00 z16 (z00 z16 z01)))) (z0t z17 (pv 0) z06) (fun _ _=>rfl))) (z03 (z0f (i:=5) nd rfl (Or.inr rfl) (z0t z17 (z0t z1y (pv 0) z06) (z0t z1G (z0b z6X rfl M.len bH (z00 (pv 4) z01)) z06))) (z05 (z0d (z1n ["_law_k"] ["_law_stem","_law_signs","_law_spot","_law_turn"] [4,2,5,3] rfl (z0z rfl (by decide +kernel) rfl (by decide +kernel) rfl rfl) (z1M rfl M.range (z00 (pv 1) z01)) (fun _ _ _ _ _=>(z0h (i:=0) (show((["_law_k"]:List PySem.Str)++(["_law_stem","_law_signs","_law_spot","_law_turn"]:List PySem.Str)).Nodup from by decide +kernel) rfl (Or.inl rfl))) (z0A (by decide)) z0a (fun _ _ _ _ _=>z1Z) (fun _ _ _ _ _=>(z0t z4Y (z0t z4Y (z2p y3C (pv 1) z3e (z3c (pv 3))) (z0M y3X (pv 2) (z0t z17 (z0t z1G (pv 4) (pv 0)) z06) (fun _ _=>rfl))) (z2p y3C (pv 1) (z3c (pv 3)) z3e))))))))))),?_⟩
 have t0:0≤c / 4%12:=cT _ (by decide)
 have t1:c / 4%12<12:=cM _ (by decide)
 refine⟨_,rfl,_,_,rfl,rfl,⟨by decide,by decide⟩,_,_,rfl,rfl,(by show(0:Int)<12;decide),?_⟩
 refine⟨_,rfl,_,_,rfl,rfl,(by show(0:Int)<4;decide),rfl,_,rfl,?_⟩
 refine B4 (fun _=>?_) (fun cn=>?_)
 ·obtain⟨sg,hsg,hsl⟩:∃sg,atI (("a ~":Str).cps.toList) (c / 48%3)=some sg/\sg<16^8:=by
   have h0:0≤c / 48%3:=cT _ (by decide)
   have h1:c / 48%3<3:=cM _ (by decide)
   have ek:c / 48%3=(((c / 48%3).toNat:Nat):Int):=by omega
   have hl:(("a ~":Str).cps.toList).length=3:=by decide +kernel
   rw[ek]
   have all:∀c∈("a ~":Str).cps.toList,c<16^8:=by decide +kernel
   exact⟨_,z1O (bU (by rw[hl];omega)),all _ (gT _)⟩
  refine⟨_,rfl,_,rfl,by omega,by omega,?_⟩
  refine z83 (lo:=0) (n:=m.toNat) (fun _=>true) (fun k=>.str (repN sg (c / 4%12) k)) (by omega) (fun k ys N k0 k1 hN=>?_) ?_
  ·refine⟨_,rfl,_,_,rfl,rfl,⟨by decide,by decide⟩,_,_,rfl,rfl,(by show(0:Int)<3;decide),_,_,sg,rfl,rfl,(by decide +kernel),hsg,?_⟩
   refine⟨_,rfl,_,rfl,_,_,rfl,rfl,_,_,rfl,rfl,(by show(0:Int)<12;decide),_,_,rfl,rfl,_,_,rfl,rfl,?_,?_,?_,?_⟩
   ·have:=cT (c / 4%12+k) (show(12:Int)≠0 by decide)
    omega
   ·have:=cM (c / 4%12+k) (show(0:Int)<12 by decide)
    omega
   ·show 1≤1000
    decide
   ·exact hN
  ·intro D hD
   rw[y20]
   refine q D ((upI 0 m.toNat).map (repN sg (c / 4%12))) _ hD (z02 hD _) ?_ (by rw[b9,z0T]) (y7n hsl t0 t1 (by omega))
   rw[z04,dH]
   rfl
 ·have c4:c%4=0\/c%4=1\/c%4=2:=by
   have h1:=cT c (show(4:Int)≠0 by decide)
   have h2:=cM c (show(0:Int)<4 by decide)
   have h3:c%4≠3:=fun e=>cn (decide_eq_true (congrArg V.int e))
   omega
  obtain⟨st,hat,hst⟩:∃st:Str,atI [V.str "",V.str "row",V.str "a long stem of them"] (c%4)=some (.str st)/\(st=""\/st="row"\/st=z8C):=by
   rcases c4 with e|e|e<;>rw[e]
   ·exact⟨_,rfl,.inl rfl⟩
   ·exact⟨_,rfl,.inr (.inl rfl)⟩
   ·exact⟨_,rfl,.inr (.inr rfl)⟩
  have stl:st.length≤19:=by
   have l1:("":Str).length=0:=by decide +kernel
   have l2:("row":Str).length=3:=by decide +kernel
   have l3:z8C.length=19:=by decide +kernel
   rcases hst with rfl|rfl|rfl<;>omega
  refine⟨(by show 3≤sizeLine;decide),fun p hp=>⟨_,rfl,_,_,rfl,rfl,(by show(0:Int)<4;decide),p,_,_,_,rfl,rfl,SqL.of z04,hat,?_⟩⟩
  refine⟨_,rfl,_,_,rfl,rfl,⟨by decide,by decide⟩,_,rfl,st,rfl,z9C (by omega),_,_,rfl,rfl,_,_,rfl,rfl,by omega,?_⟩
  have s0:0≤c / 48%((st.length:Int)+1):=cT _ (by omega)
  have s1:c / 48%((st.length:Int)+1)≤(st.length:Int):=by
   have:=cM (c / 48) (show(0:Int)<(st.length:Int)+1 by omega)
   omega
  refine⟨_,rfl,_,rfl,by omega,by omega,?_⟩
  refine z83 (lo:=0) (n:=m.toNat) (fun _=>true) (fun k=>.str (z9x st (c / 48%((st.length:Int)+1)) (c / 4%12) k)) (by omega) (fun k ys N k0 k1 hN=>?_) ?_
  ·have i0:=cT (c / 4%12+k) (show(12:Int)≠0 by decide)
   have i1:=cM (c / 4%12+k) (show(0:Int)<12 by decide)
   have hsg:atI (("mM ~aA0.xX_9":Str).cps.toList) ((c / 4%12+k)%12)=some (sgL.getD ((c / 4%12+k)%12).toNat 0):=by
    have ek:(c / 4%12+k)%12=((((c / 4%12+k)%12).toNat:Nat):Int):=by omega
    have l1:((c / 4%12+k)%12).toNat<sgL.length:=by rw[y1b];omega
    have q1:atI sgL ((((c / 4%12+k)%12).toNat:Nat):Int)=some (sgL.getD ((c / 4%12+k)%12).toNat 0):=z1O (by
     rw[bY,bU l1]
     rfl)
    rw[<- ek] at q1
    exact q1
   have la:(N7 st none (some (c / 48%((st.length:Int)+1)))).length≤19:=by
    rw[<- z10,y6c st s0 s1,bO,z10]
    omega
   have lb:(N7 st (some (c / 48%((st.length:Int)+1))) none).length≤19:=by
    rw[<- z10,y6e st s0 s1,dF,z10]
    omega
   have lc:∀(x:Nat),(⟨#[x]⟩:Str).length=1:=fun _=>rfl
   have lab:∀(x:Nat),(N7 st none (some (c / 48%((st.length:Int)+1)))++(⟨#[x]⟩:Str)).length≤20:=fun x=>by
    rw[<- z10,z6J,bN,z10,z10,lc]
    omega
   refine⟨_,rfl,_,rfl,_,rfl,st,rfl,z9C (by omega),?_⟩
   refine⟨_,rfl,_,rfl,_,rfl,_,_,rfl,rfl,_,_,rfl,rfl,(by show(0:Int)<12;decide),_,_,_,rfl,rfl,(by decide +kernel),hsg,?_⟩
   refine⟨_,_,rfl,rfl,z9C (by rw[lc];omega),?_⟩
   refine⟨_,rfl,_,rfl,_,rfl,st,rfl,z9C (by omega),_,_,rfl,rfl,z9C (by have:=lab (sgL.getD ((c / 4%12+k)%12).toNat 0);omega),?_⟩
   exact hN
  ·intro D hD
   rw[y20]
   refine q D ((upI 0 m.toNat).map (z9x st (c / 48%((st.length:Int)+1)) (c / 4%12))) _ ((z02 hp _).free hD) ((z02 hp _).trans (z02 hD _)) ?_ (by rw[b9,z0T]) (y5E hst s0 s1 t0 t1 (by omega))
   rw[z04,dH]
   rfl
noncomputable def z4A:Sp:=fun vs H Q _=>∃t:Int,vs=[.int t]/\0≤t/\t<1000000/\Q (.int (2^t.toNat)) H
theorem y2r(M:Bl mg)(F:Fun K "_law_doubled" "_law_doubled" z3U f fd):A8 P w K mg base CX0 1 f fd z3T z4A:=by
 have nd:=z59.nd
 refine F.ok z59 (fun vs H Q E h=>?_) (fun cdv A outer s H vs Q E hr h=>?_)
 ·obtain⟨t,rfl,_⟩:=h
  rfl
 obtain⟨t,rfl,t0,t1,q⟩:=h
 refine⟨_,(z03 (z0f (i:=1) nd rfl (Or.inl rfl) z06) (z03 (z1s cD rfl (z1M rfl M.range (z00 (pv 0) z01)) (z0h (i:=2) nd rfl (Or.inl rfl)) (z05 (z0f (i:=1) nd rfl (Or.inl rfl) (z0t z57 (pv 1) z06)))) (z05 (z0d (pv 1))))),?_⟩
 refine⟨_,rfl,_,rfl,by omega,by omega,?_⟩
 refine z2h (lo:=0) (n:=t.toNat) (fun i σ H'=>H'=H/\∃o,σ=[some (.int t),some (.int (2^i)),o]) ⟨rfl,_,rfl⟩ (fun i σ H' hi hp=>?_) (fun σ H' hp=>?_)
 ·obtain⟨rfl,o,rfl⟩:=hp
  refine⟨_,rfl,_,_,rfl,rfl,.inr ⟨by decide,by decide⟩,rfl,some (.int (0+(i:Int))),?_⟩
  rw[Int.pow_succ]
  rfl
 ·obtain⟨rfl,o,rfl⟩:=hp
  exact⟨_,rfl,q⟩
def y0e(H:Hp)(l:Addr)(v:V)(s:List Str):Prop:=∃a,v=.ref a/\a≠l/\H a=some (.lst (s.map V.str))
theorem y0e.keep{H H':Hp}(g:A4 H H'){l:Addr}{v:V}{s:List Str}(h:y0e H l v s):y0e H' l v s:=let ⟨a,e,n,q⟩:=h;⟨a,e,n,g _ _ q⟩
theorem y0e.over{H:Hp}{l:Addr}{o:HO}{v:V}{s:List Str}(h:y0e H l v s):y0e (upd H l o) l v s:=let ⟨a,e,n,q⟩:=h;⟨a,e,n,by rw[z0e n];exact q⟩
abbrev z2t(H:Hp)(l:Addr):List V->List (List Str)->Prop:=Paired (y0e H l)
theorem z2t.keep{H H':Hp}(g:A4 H H'){l:Addr}:∀{xs:List V}{ss:List (List Str)},z2t H l xs ss->z2t H' l xs ss
 | _,_,.nil=>.nil
 | _,_,.cons r t=>.cons (r.keep g) (z2t.keep g t)
theorem z2t.over{H:Hp}{l:Addr}{o:HO}:∀{xs:List V}{ss:List (List Str)},z2t H l xs ss->z2t (upd H l o) l xs ss
 | _,_,.nil=>.nil
 | _,_,.cons r t=>.cons r.over (z2t.over t)
theorem z2t.len{H:Hp}{l:Addr}:∀{xs:List V}{ss:List (List Str)},z2t H l xs ss->xs.length=ss.length
 | _,_,.nil=>rfl
 | _,_,.cons _ t=>by rw[c9,c9,z2t.len t]
theorem z2t.get{H:Hp}{l:Addr}:∀{xs:List V}{ss:List (List Str)},z2t H l xs ss->∀(i:Nat) (s:List Str),ss[i]? = some s->∃v,xs[i]? = some v/\y0e H l v s
 | _,_,.nil,i,s,e=>by simp at e
 | _,_,.cons r t,0,s,e=>by
  simp at e
  subst e
  exact⟨_,rfl,r⟩
 | _,_,.cons r t,i+1,s,e=>by
  obtain⟨v,h1,h2⟩:=z2t.get t i s (by simpa using e)
  exact⟨v,by simpa using h1,h2⟩
theorem z3J(ns:List Str):(ns.map V.str).all z22=true:=by
 rw[jF,eM]
 intro x _
 rfl
theorem y1H{ns:List Str}{k:Int}(h0:0≤k)(h:k<(ns.length:Int)):∃x,ns[k.toNat]? = some x/\atI (ns.map V.str) k=some (.str x):=by
 have hk:k.toNat<ns.length:=by omega
 have ek:k=((k.toNat:Nat):Int):=by omega
 have q:atI (ns.map V.str) ((k.toNat:Nat):Int)=some (.str ns[k.toNat]):=z1O (by rw[bK,bU hk];rfl)
 rw[<- ek] at q
 exact⟨_,bU hk,q⟩
noncomputable def y6v(K:PySem.W.Frag):Sp:=fun vs H Q _=>∃(ln:Addr) (nm:List Str) (c m:Int),vs=[.ref ln,.int c,.int m]/\SqL K H ln (nm.map V.str)/\1≤nm.length/\nm.length≤12/\0≤m/\m≤900/\
 ∀(l:Addr) (xs:List V) (ss:List (List Str)) (H':Hp),H l=none->A4 H H'->H' l=some (.lst xs)->z2t H' l xs ss->ss.length=m.toNat->(∀s∈ss,s.Sublist nm)->Q (.ref l) H'
theorem two_pow_le{n:Nat}(h:n≤12):(1:Int)≤2^n/\(2:Int)^n≤4096:=by
 have:∀k≤12,(1:Int)≤2^k/\(2:Int)^k≤4096:=by decide
 exact this n h
theorem y7e(M:Bl mg)(F:Fun K "_law_sets" "_law_sets" z6L f fd)(D0:Cal P w K mg base 1 "_law_row" z3K y42)(M8:Cal P w K mg base 1 "_law_doubled" z3T z4A) :
  A8 P w K mg base CX0 2 f fd z6E (y6v K):=by
 have nd:=z8u.nd
 refine F.ok z8u (fun vs H Q E h=>?_) (fun cdv A outer s H vs Q E hr h=>?_)
 ·obtain⟨ln,nm,c,m,rfl,_⟩:=h
  rfl
 obtain⟨ln,nm,c,m,rfl,hS,n1,n2,m0,m1,q⟩:=h
 refine⟨_,(z03 (z0f (i:=3) nd rfl (Or.inl rfl) (z0k M8 (rm hr) rfl (z00 (z0b z09 rfl M.len bH (z00 (pv 0) z01)) z01))) (z03 (z0f (i:=4) nd rfl (Or.inl rfl) (z1w z01)) (z03 (z1s cD rfl (z1v (z0k D0 (rm hr) rfl (z00 (pv 1) (z00 (pv 2) (z00 (z0t z57 z06 (pv 3)) z01))))) (z0h (i:=5) nd rfl (Or.inl rfl)) (z03 (z0f (i:=6) nd rfl (Or.inl rfl) (z0t z17 (pv 5) (pv 3))) (z03 (z0f (i:=7) nd rfl (Or.inl rfl) (z1w z01)) (z03 (z1s cD rfl (z1v (pv 0)) (z0h (i:=8) nd rfl (Or.inl rfl)) (z03 (z0G (z08 z23 (z0t z17 (pv 6) z06) z06 (z0i _)) (z05 (z0y (z2Z bV bT bZ z0K (pv 7) (z00 (pv 8) z01)))) z0g) (z05 (z0f (i:=6) nd rfl (Or.inl rfl) (z0t z1y (pv 6) z06))))) (z03 (z0G (z08 z23 (z0t z1y (pv 5) (pv 3)) z06 (z0i _)) (z05 (z0f (i:=7) nd rfl (Or.inl rfl) (z1w (z00 (z0M z0N (pv 0) (z0t z17 (pv 5) (z0b z09 rfl M.len bH (z00 (pv 0) z01))) (fun _ _=>rfl)) z01)))) z0g) (z03 (z0G (z08 z23 (z0t z1y (pv 5) (pv 3)) z06 (z0i _)) (z05 (z0f (i:=7) nd rfl (Or.inl rfl) (z1w z01))) z0g) (z03 (z0G (z08 z23 (z0t z1y (pv 5) (pv 3)) z06 (z0i _)) (z05 (z0f (i:=7) nd rfl (Or.inl rfl) (z0q z4t rfl M.list gR (z00 (pv 0) z01)))) z0g) (z05 (z0y (z2Z bV bT bZ z0K (pv 4) (z00 (pv 7) z01))))))))))) (z05 (z0d (pv 4)))))),?_⟩
 have hl0:(nm.map V.str).length=nm.length:=b9 _
 refine⟨_,rfl,ln,_,rfl,.inl hS,_,rfl,by omega,by omega,?_⟩
 have pw:=two_pow_le n2
 rw[hl0]
 have ez:(2:Int)^(((nm.length:Nat):Int).toNat)=2^nm.length:=rfl
 rw[ez]
 generalize hz:(2:Int)^nm.length=z at pw ⊢
 refine⟨(by show 0≤sizeLine;decide),fun l hl=>?_⟩
 refine⟨_,rfl,_,rfl,_,rfl,_,_,rfl,rfl,.inl ⟨by decide,by decide⟩,c,m,4*z,rfl,m0,m1,by omega,by omega,fun lf fs H1 nlf s1 e1 T1 all1=>?_⟩
 have sl:=z02 (H:=H) hl (.lst [])
 have nl:lf≠l:=fun e=>by rw[e,z04] at nlf;cases nlf
 have el1:H1 l=some (.lst []):=s1 _ _ z04
 refine⟨lf,rfl,⟨_,SqL.of e1⟩,?_⟩
 refine z2a (xs:=fs.map V.int) (fun i σ H'=>∃(xs:List V) (ss:List (List Str)) (o1 o2 o3 o4:Option V),H' l=some (.lst xs)/\z2t H' l xs ss/\ss.length=i/\(∀s∈ss,s.Sublist nm)/\H' lf=some (.lst (fs.map V.int))/\A4 H H'/\
  σ=[some (.ref ln),some (.int c),some (.int m),some (.int z),some (.ref l),o1,o2,o3,o4]) ⟨[],[],_,_,_,_,el1,.nil,rfl,(fun _ h=>nomatch h),e1,sl.trans s1,rfl⟩ (fun i σ H' hi hp=>?_) (fun i x σ H' hx hp=>?_) (fun σ H' hp=>?_)
 ·obtain⟨xs,ss,o1,o2,o3,o4,_,_,_,_,h2,_⟩:=hp
  exact SqL.of h2
 ·obtain⟨xs,ss,o1,o2,o3,o4,p1,p2,p3,p4,p5,p6,rfl⟩:=hp
  rw[bK] at hx
  cases ef:fs[i]? with
  | none=>rw[ef] at hx;cases hx
  | some g=>
   rw[ef] at hx
   cases hx
   have hg:=all1 g (bQ ef)
   have hi:i<fs.length:=(cJ.mp ef).1
   have lx:=p2.len
   have cd:CDiv g z:=⟨by omega,by omega⟩
   refine⟨_,rfl,_,rfl,_,_,rfl,rfl,(by omega),?_⟩
   refine⟨(by show 0≤sizeLine;decide),fun a ha=>?_⟩
   have nal:a≠l:=fun e=>by rw[e,p1] at ha;cases ha
   have naf:a≠lf:=fun e=>by rw[e,p5] at ha;cases ha
   refine⟨_,rfl,ln,rfl,⟨_,(p6.trans (z02 ha _)).seq hS⟩,?_⟩
   refine z2a (xs:=nm.map V.str) (fun k σ H2=>∃(ch:List Str) (mk:Int) (o4:Option V),ch.Sublist (nm.take k)/\H2=upd H' a (.lst (ch.map V.str))/\
    σ=[some (.ref ln),some (.int c),some (.int m),some (.int z),some (.ref l),some (.int g),some (.int mk),some (.ref a),o4]) ⟨[],_,_,jC _,rfl,rfl⟩ (fun k σ H2 hk hp=>?_) (fun k y σ H2 hy hp=>?_) (fun σ H2 hp=>?_)
   ·obtain⟨ch,mk,o4,_,rfl,_⟩:=hp
    exact(p6.trans (z02 ha _)).seq hS
   ·obtain⟨ch,mk,o4,hch,rfl,rfl⟩:=hp
    rw[bK] at hy
    cases en:nm[k]? with
    | none=>rw[en] at hy;cases hy
    | some nk=>
     rw[en] at hy
     cases hy
     have tk:=z0x en
     have hcl:ch.length≤12:=by
      have:=hch.length_le
      rw[bO] at this
      omega
     refine⟨_,rfl,_,_,rfl,rfl,(by show(0:Int)<2;decide),rfl,_,rfl,?_⟩
     refine B4 (fun _=>?_) (fun _=>?_)
     ·refine⟨_,rfl,.inl ⟨rfl,_,SqL.of z04⟩,_,rfl,a,_,_,rfl,rfl,z04,z0n (by rw[b9];omega),?_⟩
      refine⟨_,rfl,_,_,rfl,rfl,⟨by decide,by decide⟩,ch++[nk],_,some (.str nk),?_,?_,rfl⟩
      ·rw[tk]
       exact hch.append (jC _)
      ·rw[z5A,bG]
       rfl
     ·refine⟨_,rfl,_,_,rfl,rfl,⟨by decide,by decide⟩,ch,_,some (.str nk),?_,rfl,rfl⟩
      rw[tk]
      exact hch.trans (List.sublist_append_left _ _)
   ·obtain⟨ch,mk,o4,hch,rfl,rfl⟩:=hp
    rw[b9,bX] at hch
    have fin:∀(b:Addr) (cs:List Str) (H3:Hp) (o2 o4:Option V),cs.Sublist nm->b≠l->H3 b=some (.lst (cs.map V.str))->A4 (upd H' a (.lst (ch.map V.str))) H3->
      ∃(xs':List V) (ss':List (List Str)) (o1' o2' o3' o4':Option V),upd H3 l (.lst (xs++[.ref b])) l=some (.lst xs')/\z2t (upd H3 l (.lst (xs++[.ref b]))) l xs' ss'/\ss'.length=i+1/\(∀s∈ss',s.Sublist nm)/\
       upd H3 l (.lst (xs++[.ref b])) lf=some (.lst (fs.map V.int))/\A4 H (upd H3 l (.lst (xs++[.ref b])))/\
       ([some (.ref ln),some (.int c),some (.int m),some (.int z),some (.ref l),some (.int g),o2,some (.ref b),o4]:St)=[some (.ref ln),some (.int c),some (.int m),some (.int z),some (.ref l),o1',o2',o3',o4']:=by
     intro b cs H3 o2 o4 hcs hb hb3 g3
     have g4:A4 H' H3:=(z02 ha _).trans g3
     refine⟨_,ss++[cs],_,_,_,_,z04,?_,by rw[bN,p3];rfl,fun s' hs'=>?_,?_,z2E (p6.trans g4) hl,rfl⟩
     ·exact gQ (p2.keep g4).over ⟨b,rfl,hb,by rw[z0e hb];exact hb3⟩
     ·rcases bS.mp hs' with h|h
      ·exact p4 s' h
      ·rw[bB.mp h]
       exact hcs
     ·rw[z0e nl]
      exact g4 _ _ p5
    have el:∀{H3:Hp},A4 (upd H' a (.lst (ch.map V.str))) H3->H3 l=some (.lst xs):=fun {H3} g3=>g3 _ _ ((z02 ha _) _ _ p1)
    have app:∀{H3:Hp},A4 (upd H' a (.lst (ch.map V.str))) H3->xs.length<sizeLine:=fun _=>z0n (by omega)
    refine⟨_,rfl,_,rfl,_,_,rfl,rfl,cd,rfl,_,rfl,?_⟩
    refine B4 (fun d1=>?_) (fun d1=>?_)
    ·obtain⟨x1,hx1,ax1⟩:=y1H (ns:=nm) (k:=g%(((nm.map V.str).length:Nat):Int)) (cT _ (by omega)) (by rw[hl0];exact cM _ (by omega))
     have q1:g / z=1:=V.int.inj (z0C d1)
     refine⟨_,rfl,_,rfl,_,rfl,ln,_,rfl,.inl ((p6.trans (z02 ha _)).seq hS),_,_,rfl,rfl,(by rw[hl0];omega),ln,_,_,_,rfl,rfl,(p6.trans (z02 ha _)).seq hS,ax1,(by show 1≤sizeLine;decide),fun b1 hb1=>?_⟩
     have g1:=z02 hb1 (.lst [.str x1])
     have sub1:[x1].Sublist nm:=List.singleton_sublist.mpr (bQ hx1)
     refine⟨_,rfl,_,rfl,_,_,rfl,rfl,cd,rfl,_,rfl,?_⟩
     refine B4 (fun d=>absurd (show g / z=2 from V.int.inj (z0C d)) (by omega)) (fun _=>⟨_,rfl,_,rfl,_,_,rfl,rfl,cd,rfl,_,rfl,?_⟩)
     refine B4 (fun d=>absurd (show g / z=3 from V.int.inj (z0C d)) (by omega)) (fun _=>?_)
     refine⟨_,rfl,.inl ⟨rfl,_,SqL.of (el g1)⟩,_,rfl,l,_,_,rfl,rfl,el g1,app g1,?_⟩
     exact fin b1 [x1] _ _ _ sub1 (fun e=>by rw[e,(z02 ha (.lst (ch.map V.str))) _ _ p1] at hb1;cases hb1) z04 g1
    ·refine⟨_,rfl,_,rfl,_,_,rfl,rfl,cd,rfl,_,rfl,?_⟩
     refine B4 (fun d2=>?_) (fun d2=>?_)
     ·have q2:g / z=2:=V.int.inj (z0C d2)
      refine⟨(by show 0≤sizeLine;decide),fun b1 hb1=>?_⟩
      have g1:=z02 hb1 (.lst [])
      refine⟨_,rfl,_,rfl,_,_,rfl,rfl,cd,rfl,_,rfl,?_⟩
      refine B4 (fun d=>absurd (show g / z=3 from V.int.inj (z0C d)) (by omega)) (fun _=>?_)
      refine⟨_,rfl,.inl ⟨rfl,_,SqL.of (el g1)⟩,_,rfl,l,_,_,rfl,rfl,el g1,app g1,?_⟩
      exact fin b1 [] _ _ _ (List.nil_sublist _) (fun e=>by rw[e,(z02 ha (.lst (ch.map V.str))) _ _ p1] at hb1;cases hb1) z04 g1
     ·refine⟨_,rfl,_,rfl,_,_,rfl,rfl,cd,rfl,_,rfl,?_⟩
      refine B4 (fun d3=>?_) (fun d3=>?_)
      ·refine⟨_,rfl,ln,_,rfl,.inl ((p6.trans (z02 ha _)).seq hS),fun b1 hb1=>?_⟩
       have g1:=z02 hb1 (.lst (nm.map V.str))
       refine⟨_,rfl,.inl ⟨rfl,_,SqL.of (el g1)⟩,_,rfl,l,_,_,rfl,rfl,el g1,app g1,?_⟩
       exact fin b1 nm _ _ _ (jC _) (fun e=>by rw[e,(z02 ha (.lst (ch.map V.str))) _ _ p1] at hb1;cases hb1) z04 g1
      ·refine⟨_,rfl,.inl ⟨rfl,_,SqL.of (el (A4.refl _))⟩,_,rfl,l,_,_,rfl,rfl,el (A4.refl _),app (A4.refl _),?_⟩
       exact fin a ch _ _ _ hch nal z04 (A4.refl _)
 ·obtain⟨xs,ss,o1,o2,o3,o4,p1,p2,p3,p4,p5,p6,rfl⟩:=hp
  rw[b9] at p3
  exact⟨_,rfl,q l xs ss _ hl p6 p1 p2 (by rw[p3,T1]) p4⟩
abbrev Row:=List (Str×Int)
noncomputable def z9p(p:Str×Int):DV:=.tup [.str p.1,.int p.2]
noncomputable def rowD(r:Row):DV:=.tup (r.map z9p)
theorem y4L{H:Hp}{a:Addr}{x:Str}{z:Int}(h:H a=some (.tup [.str x,.int z])):Tell H (z9p (x,z)) (.ref a):=z0w h (by show 2≤1000000;decide) (.cons (z14 x) (.cons (z0J z) .nil))
theorem y3d{xs:List V}:∀ys,HO.lst xs≠.tup ys:=fun _ e=>by cases e
noncomputable def y3u:Sp:=fun vs H Q _=>∃g p:Int,vs=[.int g,.int p]/\∀r,0≤r->r≤1000000->Q (.int r) H
theorem y5S(F:Fun K "_law_value" "_law_value" z5k f fd):A8 P w K mg base CX0 1 f fd z5g y3u:=by
 have nd:=z79.nd
 refine F.ok z79 (fun vs H Q E h=>?_) (fun cdv A outer s H vs Q E hr h=>?_)
 ·obtain⟨g,p,rfl,_⟩:=h
  rfl
 obtain⟨g,p,rfl,q⟩:=h
 refine⟨_,(z03 (z0G (z08 z23 (z0t z1y (pv 0) z06) z06 (z0i _)) (z05 (z0d (z0t z17 (z0t z1G (pv 0) (z0t z57 z06 (pv 1))) z06))) z0g) (z03 (z0G (z08 z23 (z0t z1y (pv 0) z06) z06 (z0i _)) (z05 (z0d (z0t z57 z06 (z0t z17 (z0t z1G (pv 0) (pv 1)) z06)))) z0g) (z05 (z0d (z0t z17 (z0t z1G (pv 0) (pv 1)) z06))))),?_⟩
 refine⟨_,rfl,_,_,rfl,rfl,⟨by decide,by decide⟩,rfl,_,rfl,?_⟩
 refine B4 (fun _=>?_) (fun _=>?_)
 ·refine⟨_,rfl,_,rfl,_,_,rfl,rfl,.inl ⟨by decide,by decide⟩,_,_,rfl,rfl,_,_,rfl,rfl,(by show(0:Int)<1000001;decide),?_⟩
  have h1:=cT (g+7*p) (show(1000001:Int)≠0 by decide)
  have h2:=cM (g+7*p) (show(0:Int)<1000001 by decide)
  exact q _ h1 (by omega)
 ·refine⟨_,rfl,_,_,rfl,rfl,⟨by decide,by decide⟩,rfl,_,rfl,?_⟩
  have h1:=cT (g+p) (show(2:Int)≠0 by decide)
  have h2:=cM (g+p) (show(0:Int)<2 by decide)
  refine B4 (fun _=>?_) (fun _=>?_)
  ·refine⟨_,rfl,_,rfl,_,_,rfl,rfl,_,_,rfl,rfl,(by show(0:Int)<2;decide),_,_,rfl,rfl,.inl ⟨by decide,by decide⟩,?_⟩
   exact q _ (by omega) (by omega)
  ·refine⟨_,rfl,_,rfl,_,_,rfl,rfl,_,_,rfl,rfl,(by show(0:Int)<2;decide),?_⟩
   exact q _ h1 (by omega)
structure Rws(nm:List Str)(rows:List Row):Prop where
 sub:∀r∈rows,(r.map Prod.fst).Sublist nm
 val:∀r∈rows,∀p∈r,0≤p.2/\p.2≤1000000
noncomputable def y2p:Sp:=fun vs H Q _=>∃(l:Addr) (xs:List V) (ss:List (List Str)) (c:Int),vs=[.ref l,.int c]/\H l=some (.lst xs)/\z2t H l xs ss/\ss.length≤900/\(∀s∈ss,s.length≤12)/\
 ∀(lr:Addr) (us:List V) (rows:List Row) (H':Hp),H lr=none->A4 H H'->H' lr=some (.lst us)->z0c H' (rows.map rowD) us->rows.map (fun r=>r.map Prod.fst)=ss->(∀r∈rows,∀p∈r,0≤p.2/\p.2≤1000000)->Q (.ref lr) H'
theorem y3y(M:Bl mg)(F:Fun K "_law_valued" "_law_valued" z4p f fd)(D0:Cal P w K mg base 1 "_law_row" z3K y42)(P1:Cal P w K mg base 1 "_law_value" z5g y3u) :
  A8 P w K mg base CX0 2 f fd z4E y2p:=by
 have nd:=z6f.nd
 refine F.ok z6f (fun vs H Q E h=>?_) (fun cdv A outer s H vs Q E hr h=>?_)
 ·obtain⟨l,xs,ss,c,rfl,_⟩:=h
  rfl
 obtain⟨l,xs,ss,c,rfl,hL,hSs,n0,n1,q⟩:=h
 refine⟨_,(z03 (z0f (i:=2) nd rfl (Or.inl rfl) (z0k D0 (rm hr) rfl (z00 (pv 1) (z00 (z0b z09 rfl M.len bH (z00 (pv 0) z01)) (z00 z06 z01))))) (z03 (z0f (i:=3) nd rfl (Or.inl rfl) (z1w z01)) (z03 (z1s cD rfl (z1M rfl M.range (z00 (z0b z09 rfl M.len bH (z00 (pv 0) z01)) z01)) (z0h (i:=4) nd rfl (Or.inl rfl)) (z03 (z0f (i:=5) nd rfl (Or.inl rfl) (z1w z01)) (z03 (z1s cD rfl (z1M rfl M.range (z00 (z0b z09 rfl M.len bH (z00 (z0M z0N (pv 0) (pv 4) (fun _ _=>rfl)) z01)) z01)) (z0h (i:=6) nd rfl (Or.inl rfl)) (z05 (z0y (z2Z bV bT bZ z0K (pv 5) (z00 (z0I (z00 (z0M z0N (z0M z0N (pv 0) (pv 4) (fun _ _=>rfl)) (pv 6) (fun _ _=>rfl)) (z00 (z0k P1 (rm hr) rfl (z00 (z0M z0N (pv 2) (pv 4) (fun _ _=>rfl)) (z00 (pv 6) z01))) z01))) z01))))) (z05 (z0y (z2Z bV bT bZ z0K (pv 3) (z00 (z0q z0l rfl M.tuple bI (z00 (pv 5) z01)) z01))))))) (z05 (z0d (pv 3)))))),?_⟩
 have hl0:=hSs.len
 refine⟨_,rfl,_,rfl,l,_,rfl,.inl (SqL.of hL),_,_,_,rfl,by omega,by omega,by decide,by decide,fun lf fs H1 nlf s1 e1 T1 all1=>?_⟩
 have w1d:fs.length=ss.length:=by rw[T1,hl0];rfl
 refine⟨(by show 0≤sizeLine;decide),fun lr hlr=>?_⟩
 have nr:lf≠lr:=z0o e1 hlr
 have nlr0:H lr=none:=s1.free hlr
 refine⟨_,rfl,l,_,rfl,.inl (SqL.of ((s1.trans (z02 hlr _)) _ _ hL)),_,rfl,by omega,by omega,?_⟩
 refine z2h (lo:=0) (n:=((xs.length:Nat):Int).toNat) (fun i σ H'=>∃(us:List V) (rows:List Row) (o1 o2 o3:Option V),H' lr=some (.lst us)/\z0c H' (rows.map rowD) us/\rows.map (fun r=>r.map Prod.fst)=ss.take i/\(∀r∈rows,∀p∈r,0≤p.2/\p.2≤1000000)/\A4 H1 H'/\
  σ=[some (.ref l),some (.int c),some (.ref lf),some (.ref lr),o1,o2,o3]) ⟨[],[],_,_,_,z04,.nil,rfl,(fun _ h=>nomatch h),z02 hlr _,rfl⟩ (fun i σ H' hi hp=>?_) (fun σ H' hp=>?_)
 ·obtain⟨us,rows,o1,o2,o3,p1,p2,p3,p4,p5,rfl⟩:=hp
  have hi':i<ss.length:=by
   have:((xs.length:Nat):Int).toNat=xs.length:=rfl
   omega
  have ei:(0:Int)+(i:Int)=(i:Int):=jG _
  have es:ss[i]? = some ss[i]:=bU hi'
  generalize ss[i]=sI at es
  have hsI:=n1 sI (bQ es)
  obtain⟨v,hv,a,rfl,na,ha⟩:=hSs.get i sI es
  have lus:=p2.length
  rw[b9] at lus
  have lrows:rows.length=i:=by
   have:=congrArg List.length p3
   rw[b9,bO] at this
   omega
  have atv:atI xs ((0:Int)+(i:Int))=some (.ref a):=by rw[ei];exact z1O hv
  have gl:∀{H2:Hp},A4 H' H2->H2 l=some (.lst xs)/\H2 a=some (.lst (sI.map V.str))/\H2 lf=some (.lst (fs.map V.int)):=fun {H2} g=>⟨(s1.trans (p5.trans g)) _ _ hL,(s1.trans (p5.trans g)) _ _ ha,(p5.trans g) _ _ e1⟩
  refine⟨(by show 0≤sizeLine;decide),fun lo hlo=>?_⟩
  have go:=z02 (H:=H') hlo (.lst [])
  refine⟨_,rfl,_,rfl,l,_,_,_,rfl,rfl,SqL.of (gl go).1,atv,a,_,rfl,.inl (SqL.of (gl go).2.1),_,rfl,by omega,by rw[b9];omega,?_⟩
  have hls:(sI.map V.str).length=sI.length:=b9 _
  refine z2h (lo:=0) (n:=(((sI.map V.str).length:Nat):Int).toNat) (fun j σ H2=>∃(zs:List V) (row:Row) (o3:Option V),H2 lo=some (.lst zs)/\z0c H2 (row.map z9p) zs/\row.map Prod.fst=sI.take j/\(∀p∈row,0≤p.2/\p.2≤1000000)/\A4 H' H2/\
   σ=[some (.ref l),some (.int c),some (.ref lf),some (.ref lr),some (.int (0+(i:Int))),some (.ref lo),o3]) ⟨[],[],_,z04,.nil,rfl,(fun _ h=>nomatch h),go,rfl⟩ (fun j σ H2 hj hp=>?_) (fun σ H2 hp=>?_)
  ·obtain⟨zs,row,o3,r1,r2,r3,r4,r5,rfl⟩:=hp
   have hj':j<sI.length:=by
    have:(((sI.map V.str).length:Nat):Int).toNat=sI.length:=by rw[hls];rfl
    omega
   have ej:(0:Int)+(j:Int)=(j:Int):=jG _
   have ex:sI[j]? = some sI[j]:=bU hj'
   generalize sI[j]=x at ex
   have atx:atI (sI.map V.str) ((0:Int)+(j:Int))=some (.str x):=by
    rw[ej]
    exact z1O (by rw[bK,ex];rfl)
   have atf:atI (fs.map V.int) ((0:Int)+(i:Int))=some (.int (fs.getD i 0)):=by
    rw[ei]
    exact z8x (ns:=fs) (k:=(i:Int)) (by omega) (by omega)
   have lrow:row.length=j:=by
    have:=congrArg List.length r3
    rw[b9,bO] at this
    omega
   have lz:=r2.length
   rw[b9] at lz
   refine⟨_,rfl,.inl ⟨rfl,_,SqL.of r1⟩,_,rfl,_,rfl,l,_,_,_,rfl,rfl,SqL.of (gl r5).1,atv,_,rfl,a,_,_,_,rfl,rfl,SqL.of (gl r5).2.1,atx,?_⟩
   refine⟨_,rfl,_,rfl,lf,_,_,_,rfl,rfl,SqL.of (gl r5).2.2,atf,_,rfl,_,_,rfl,fun z z0 z1=>⟨(by show 2≤sizeLine;decide),fun t ht=>?_⟩⟩
   have gt:=z02 (H:=H2) ht (.tup [.str x,.int z])
   refine⟨lo,zs,_,rfl,rfl,gt _ _ r1,z0n (by omega),?_⟩
   refine⟨_,row++[(x,z)],some (.int (0+(j:Int))),z04,?_,?_,fun p hp=>?_,z2E (r5.trans gt) hlo,rfl⟩
   ·rw[bG]
    exact z0c.over (gt _ _ r1) y3d _ _ (z0c.snoc (z0c.keep gt _ _ r2) (y4L z04))
   ·rw[bG,r3,z0x ex]
    rfl
   ·rcases bS.mp hp with h|h
    ·exact r4 p h
    ·rw[bB.mp h]
     exact⟨z0,z1⟩
  ·obtain⟨zs,row,o3,r1,r2,r3,r4,r5,rfl⟩:=hp
   have er:(((sI.map V.str).length:Nat):Int).toNat=sI.length:=by rw[hls];rfl
   rw[er,bX] at r3
   have lrow:row.length≤12:=by
    have:=congrArg List.length r3
    rw[b9] at this
    omega
   refine⟨_,rfl,.inl ⟨rfl,_,SqL.of (r5 _ _ p1)⟩,_,rfl,lo,_,rfl,.inl ⟨SqL.of r1,fun t ht=>?_⟩⟩
   have gt:=z02 (H:=H2) ht (.tup zs)
   have el:=(r5.trans gt) _ _ p1
   refine⟨lr,us,_,rfl,rfl,el,z0n (by omega),?_⟩
   refine⟨_,rows++[row],_,_,_,z04,?_,?_,fun r hr'=>?_,z2E (p5.trans (r5.trans gt)) hlr,rfl⟩
   ·rw[bG]
    refine z0c.over el y3d _ _ (z0c.snoc (z0c.keep (r5.trans gt) _ _ p2) (z0w z04 ?_ (z0c.keep gt _ _ r2)))
    rw[b9]
    omega
   ·rw[bG,p3,z0x es]
    exact congrArg (ss.take i++·) (congrArg (fun z=>[z]) r3)
   ·rcases bS.mp hr' with h|h
    ·exact p4 r h
    ·rw[bB.mp h]
     exact r4
 ·obtain⟨us,rows,o1,o2,o3,p1,p2,p3,p4,p5,rfl⟩:=hp
  have er:((xs.length:Nat):Int).toNat=ss.length:=by rw[hl0];rfl
  rw[er,bX] at p3
  exact⟨_,rfl,q lr us rows _ nlr0 (s1.trans p5) p1 p2 p3 p4⟩
noncomputable def y4p(K:PySem.W.Frag):Sp:=fun vs H Q _=>∃(a:Addr) (ns:List Int),vs=[.ref a]/\SqL K H a (ns.map V.int)/\
 ∀(l:Addr) (nm:List Str) (H':Hp),H l=none->A4 H H'->H' l=some (.lst (nm.map V.str))->1≤nm.length->nm.length≤12->Nms nm->Q (.ref l) H'
theorem y5R(F:Fun K "_law_names" "_law_names" z5z f fd)(C9:Cal P w K mg base 1 "_law_at" z5X (spAt K))(E6:Cal P w K mg base 1 "_law_pick" z3G y24)
  (O8:Cal P w K mg base 1 "_law_named" z5E y4Z):A8 P w K mg base CX0 2 f fd z5m (y4p K):=by
 have nd:=z7h.nd
 refine F.ok z7h (fun vs H Q E h=>?_) (fun cdv A outer s H vs Q E hr h=>?_)
 ·obtain⟨a,ns,rfl,_⟩:=h
  rfl
 obtain⟨a,ns,rfl,hS,q⟩:=h
 refine⟨_,(z05 (z0d (z0k O8 (rm hr) rfl (z00 (z0t z1y (z0k C9 (rm hr) rfl (z00 (pv 0) (z00 z06 z01))) z06) (z00 (z0t z1G z06 (z0k E6 (rm hr) rfl (z00 (z0t z17 (z0k C9 (rm hr) rfl (z00 (pv 0) (z00 z06 z01))) z06) (z00 z06 z01)))) z01))))),?_⟩
 refine⟨_,rfl,a,ns,0,rfl,hS,dP 0,_,_,rfl,rfl,⟨by decide,by decide⟩,?_⟩
 refine⟨_,rfl,a,ns,0,rfl,hS,dP 0,_,_,rfl,rfl,(by show(0:Int)<24;decide),_,_,rfl,(by decide),fun r h0 h1=>⟨_,_,rfl,rfl,?_⟩⟩
 exact⟨_,_,rfl,by omega,by omega,fun l nm H' nl g e len N=>q l nm H' nl g e (by omega) (by omega) N⟩
noncomputable def nmsD(s:List Str):DV:=.tup (s.map DV.str)
noncomputable def dnI(hi:Int)(j:Nat):List Int:=(List.range j).map fun(k:Nat)=>hi-(k:Int)
theorem y5s(hi:Int)(j:Nat):dnI hi (j+1)=dnI hi j++[hi-(j:Int)]:=by
 unfold dnI
 rw[List.range_succ,bG]
 rfl
theorem z9m(hi:Int)(j:Nat):(dnI hi j).length=j:=by unfold dnI;rw[b9,gJ]
theorem z9I{hi:Int}{j:Nat}{x:Int}:x∈dnI hi j↔hi-j<x/\x≤hi:=by
 unfold dnI
 rw[cG]
 constructor
 ·rintro⟨k,hk,rfl⟩
  have:=gF.mp hk
  omega
 ·rintro⟨h1,h2⟩
  exact⟨(hi-x).toNat,gF.mpr (by omega),by omega⟩
noncomputable def z1T(r:Row):List Str:=r.map Prod.fst
noncomputable def z15(rows:List Row)(n:Int):Row:=rows.getD (n-1).toNat []
noncomputable def y1a(rows:List Row)(k:Int):DV:=.tup [.int k,nmsD (z1T (z15 rows k))]
noncomputable def z6N(n r:Int):List Int:=(dnI (n-1) (n-1).toNat).filter fun k=>decide (n-k≤r)
noncomputable def y5Q(rows:List Row)(n r:Int):DV:=.tup ((z6N n r).map (y1a rows))
noncomputable def z11(rows:List Row)(n r:Int):DV:=.tup [.int n,rowD (z15 rows n),y5Q rows n r]
theorem z63{H:Hp}{rows:List Row}{us:List V}(h:z0c H (rows.map rowD) us){k:Int}(k0:1≤k)(k1:k≤rows.length):∃v,us[(k-1).toNat]? = some v/\atI us (k-1)=some v/\Tell H (rowD (z15 rows k)) v:=by
 have hk:(k-1).toNat<rows.length:=by omega
 obtain⟨v,e,t⟩:=h.get (k-1).toNat (rowD (z15 rows k)) (by
  unfold z15
  rw[bK,bY,bU hk]
  rfl)
 have ek:k-1=(((k-1).toNat:Nat):Int):=by omega
 exact⟨v,e,by rw[ek];exact z1O e,t⟩
theorem z46{H:Hp}:∀{r:Row}{xs:List V},z0c H (r.map z9p) xs->∀(i:Nat) (x:V),xs[i]? = some x->∃(p:Str×Int) (a:Addr),r[i]? = some p/\x=.ref a/\H a=some (.tup [.str p.1,.int p.2]):=by
 intro r xs h i x e
 obtain⟨d,e1,t⟩:=h.at i x e
 rw[bK] at e1
 cases er:r[i]? with
 | none=>rw[er] at e1;cases e1
 | some p=>
  rw[er] at e1
  have e2:z9p p=d:=Option.some.inj e1
  subst e2
  obtain⟨a,ys,rfl,h1,_,h2⟩:=z0s t
  obtain⟨y1,r1,rfl,t1,h3⟩:=z0j h2
  obtain⟨y2,r2,rfl,t2,h4⟩:=z0j h3
  have:=z0X h4
  subst this
  rw[z4L t1,z1k t2] at h1
  exact⟨p,a,rfl,rfl,h1⟩
noncomputable def y3T(K:PySem.W.Frag):Sp:=fun vs H Q _=>∃(lr:Addr) (us:List V) (rows:List Row) (n r:Int),vs=[.ref lr,.int n,.int r]/\SqL K H lr us/\z0c H (rows.map rowD) us/\rows.length≤900/\(∀w∈rows,w.length≤12)/\1≤n/\n≤rows.length/\
 ∀(v:V) (H':Hp),A4 H H'->Tell H' (z11 rows n r) v->Q v H'
theorem y0v{rows:List Row}(h:∀w∈rows,w.length≤12)(k:Int):(z15 rows k).length≤12:=by
 unfold z15
 rw[bY]
 cases e:rows[(k-1).toNat]? with
 | none=>exact cR _
 | some w=>exact h w (bQ e)
theorem y68(M:Bl mg)(F:Fun K "_law_issue" "_law_issue" z5N f fd):A8 P w K mg base CX0 1 f fd z5o (y3T K):=by
 have nd:=z7i.nd
 refine F.ok z7i (fun vs H Q E h=>?_) (fun cdv A outer s H vs Q E hr h=>?_)
 ·obtain⟨lr,us,rows,n,r,rfl,_⟩:=h
  rfl
 obtain⟨lr,us,rows,n,r,rfl,hS,hT,n0,n12,n1,n2,q⟩:=h
 refine⟨_,(z03 (z0f (i:=3) nd rfl (Or.inl rfl) (z1w z01)) (z03 (z1s cD rfl (y4O rfl M.range (z00 (z0t z2Q (pv 1) z06) (z00 z06 (z00 (y3n y0Q z06) z01)))) (z0h (i:=4) nd rfl (Or.inl rfl)) (z05 (z0G (z08 y5X (z0t z2Q (pv 1) (pv 4)) (pv 2) (z0i _)) (z05 (z0y (z2Z bV bT bZ z0K (pv 3) (z00 (z0I (z00 (pv 4) (z00 (z0q z0l rfl M.tuple bI (z00 (z1n ["_law_row_here"] [] [] rfl (z0z rfl (by decide +kernel) rfl (by decide +kernel) rfl rfl) (z2N (z0M z0N (pv 0) (z0t z2Q (pv 4) z06) (fun _ _=>rfl))) (fun _ _ _ _ _=>(z0h (i:=0) (show((["_law_row_here"]:List PySem.Str)++([]:List PySem.Str)).Nodup from by decide +kernel) rfl (Or.inl rfl))) (z0A (by decide)) z0a (fun _ _ _ _ _=>z1Z) (fun _ _ _ _ _=>(z0M (r:=R6 K) z1b (pv 0) z06 (fun _ _=>rfl)))) z01)) z01))) z01)))) z0g))) (z05 (z0d (z0I (z00 (pv 1) (z00 (z0q z0l rfl M.tuple bI (z00 (z0M z0N (pv 0) (z0t z2Q (pv 1) z06) (fun _ _=>rfl)) z01)) (z00 (z0q z0l rfl M.tuple bI (z00 (pv 3) z01)) z01)))))))),?_⟩
 refine⟨(by show 0≤sizeLine;decide),fun lt hlt=>?_⟩
 refine⟨_,rfl,_,_,rfl,rfl,_,rfl,n-1,0,rfl,⟨by omega,by omega,by decide,by decide⟩,?_⟩
 have e0:(n-1-0).toNat=(n-1).toNat:=by rw[Int.sub_zero]
 rw[e0]
 refine y5w (hi:=n-1) (n:=(n-1).toNat) (fun j σ H'=>∃(zs:List V) (o:Option V),H' lt=some (.lst zs)/\z0c H' (((dnI (n-1) j).filter fun k=>decide (n-k≤r)).map (y1a rows)) zs/\A4 H H'/\
  σ=[some (.ref lr),some (.int n),some (.int r),some (.ref lt),o]) ⟨[],_,z04,.nil,z02 hlt _,rfl⟩ (fun j σ H' hj hp=>?_) (fun σ H' hp=>?_)
 ·obtain⟨zs,o,p1,p2,p3,rfl⟩:=hp
  have lz:=p2.length
  rw[b9] at lz
  have lf:=cI (fun k=>decide (n-k≤r)) (dnI (n-1) j)
  rw[z9m] at lf
  have st:((dnI (n-1) (j+1)).filter fun k=>decide (n-k≤r))=((dnI (n-1) j).filter fun k=>decide (n-k≤r))++(if decide (n-(n-1-(j:Int))≤r)=true then [n-1-(j:Int)] else []):=by
   rw[y5s,dN,eQ]
   rfl
  refine⟨_,rfl,_,rfl,_,_,rfl,rfl,_,rfl,_,_,rfl,rfl,_,rfl,?_⟩
  refine B4 (fun c=>?_) (fun c=>?_)
  ·rw[if_pos c] at st
   have hTk:=z0c.keep p3 _ _ hT
   obtain⟨v,ev,av,tv⟩:=z63 hTk (k:=n-1-(j:Int)) (by omega) (by omega)
   obtain⟨ra,xs,rfl,hra,lxs,txs⟩:=z0s tv
   have lrow:=y0v n12 (n-1-(j:Int))
   have lx:=txs.length
   rw[b9] at lx
   refine⟨_,rfl,.inl ⟨rfl,_,SqL.of p1⟩,_,rfl,_,rfl,_,rfl,_,_,rfl,rfl,lr,_,_,_,rfl,rfl,p3.seq hS,av,ra,rfl,⟨_,SqT.of hra⟩,?_⟩
   refine z2r (xs:=xs) (fun i ys H2=>H2=H'/\ys=((z1T (z15 rows (n-1-(j:Int)))).take i).map V.str) ⟨rfl,rfl⟩ (fun i ys H2 hi hp=>?_) (fun i x ys H2 hx hp=>?_) (fun ys H2 hp=>?_)
   ·obtain⟨rfl,rfl⟩:=hp
    refine⟨SqT.of hra,z0n ?_⟩
    rw[b9,bO]
    omega
   ·obtain⟨rfl,rfl⟩:=hp
    obtain⟨p,a,er,rfl,ha⟩:=z46 txs i x hx
    refine⟨_,rfl,a,_,_,_,rfl,rfl,SqT.of ha,rfl,rfl,?_⟩
    have en:(z1T (z15 rows (n-1-(j:Int))))[i]? = some p.1:=by unfold z1T;rw[bK,er];rfl
    rw[z0x en,bG]
    rfl
   ·obtain⟨rfl,rfl⟩:=hp
    have ll:(z1T (z15 rows (n-1-(j:Int)))).length=xs.length:=by unfold z1T;rw[b9];exact lx.symm
    rw[<- ll,bX]
    intro D hD
    refine⟨D,_,rfl,.inl ⟨SqL.of z04,fun t ht=>⟨(by show 2≤sizeLine;decide),fun t2 ht2=>?_⟩⟩⟩
    have g1:=(z02 (H:=H2) hD (.lst ((z1T (z15 rows (n-1-(j:Int)))).map V.str))).trans ((z02 ht (.tup ((z1T (z15 rows (n-1-(j:Int)))).map V.str))).trans (z02 ht2 (.tup [.int (n-1-(j:Int)),.ref t])))
    refine⟨lt,zs,_,rfl,rfl,g1 _ _ p1,z0n (by omega),?_⟩
    refine⟨_,some (.int (n-1-(j:Int))),z04,?_,z2E (p3.trans g1) hlt,rfl⟩
    rw[st,bG]
    refine z0c.over (g1 _ _ p1) y3d _ _ (z0c.snoc (z0c.keep g1 _ _ p2) (z0w z04 (by show 2≤1000000;decide) (.cons (z0J _) (.cons ?_ .nil))))
    refine z0w (z02 ht2 _ _ _ z04) ?_ (z36 _)
    rw[b9,ll]
    omega
  ·rw[if_neg c,cU] at st
   refine⟨zs,some (.int (n-1-(j:Int))),p1,?_,p3,rfl⟩
   rw[st]
   exact p2
 ·obtain⟨zs,o,p1,p2,p3,rfl⟩:=hp
  have lz:=p2.length
  rw[b9] at lz
  have lf:=cI (fun k=>decide (n-k≤r)) (dnI (n-1) (n-1).toNat)
  rw[z9m] at lf
  have hTk:=z0c.keep p3 _ _ hT
  obtain⟨v,ev,av,tv⟩:=z63 hTk n1 n2
  obtain⟨ra,xs,rfl,hra,lxs,txs⟩:=z0s tv
  refine⟨_,rfl,_,rfl,_,rfl,_,_,rfl,rfl,lr,_,_,_,rfl,rfl,p3.seq hS,av,ra,xs,rfl,.inr ⟨SqT.of hra,?_⟩⟩
  refine⟨_,rfl,lt,_,rfl,.inl ⟨SqL.of p1,fun t ht=>⟨(by show 3≤sizeLine;decide),fun t2 ht2=>?_⟩⟩⟩
  have g1:=(z02 (H:=H') ht (.tup zs)).trans (z02 ht2 (.tup [.int n,.ref ra,.ref t]))
  refine q _ _ (p3.trans g1) ?_
  refine z0w z04 (by show 3≤1000000;decide) (.cons (z0J _) (.cons (Tell.keep g1 _ _ tv) (.cons ?_ .nil)))
  refine z0w (z02 ht2 _ _ _ z04) ?_ (z0c.keep g1 _ _ p2)
  rw[b9]
  show((dnI (n-1) (n-1).toNat).filter fun k=>decide (n-k≤r)).length≤1000000
  omega
structure GoodN(zs:List Str):Prop where
 lo:1≤zs.length
 hi:zs.length≤12
 nd:zs.Nodup
noncomputable def SqN(K:PySem.W.Frag)(H:Hp)(p:Addr)(zs:List Str):Prop:=SqL K H p (zs.map V.str)\/SqT K H p (zs.map V.str)
theorem SqN.keep{K:PySem.W.Frag}{H H':Hp}{p:Addr}{zs:List Str}(h:A4 H H')(x:SqN K H p zs):SqN K H' p zs:=x.imp (fun q=>h.seq q) fun q=>z7C h q
noncomputable def z9b(K:PySem.W.Frag):Sp:=fun vs H Q _=>∃(p:Addr) (zs:List Str),vs=[.ref p]/\SqN K H p zs/\GoodN zs/\∀H',A4 H H'->Q .non H'
theorem y1I(M:Bl mg)(F:Fun K "refuse_bad_names" "refuse_bad_names" z2x f fd):A8 P w K mg base CX0 1 f fd z2y (z9b K):=by
 have nd:=z3n.nd
 refine F.ok z3n (fun vs H Q E h=>?_) (fun cdv A outer s H vs Q E hr h=>?_)
 ·obtain⟨p,zs,rfl,_⟩:=h
  rfl
 ·obtain⟨p,zs,rfl,hp,g,k⟩:=h
  refine⟨_,(z03 (z0G (z08 z6d (z0b z09 rfl M.len bH (z00 (pv 0) z01)) z06 (z0i _)) (z05 z1F) z0g) (z03 (z0G (z08 z2c (z0b z09 rfl M.len bH (z00 (pv 0) z01)) (z1f rfl M.MOST_NAMES) (z0i _)) (z05 z1F) z0g) (z05 (z0G (z08 z9j (z0b z44 rfl M.len bH (z00 (z0q (z3B rfl) rfl M.set gY (z00 (pv 0) z01)) z01)) (z0b z09 rfl M.len bH (z00 (pv 0) z01)) (z0i _)) (z05 z1F) z0g)))),?_⟩
  have:=g.lo
  have:=g.hi
  have el:(zs.map V.str).length=zs.length:=b9 _
  refine⟨_,rfl,p,_,rfl,hp,_,_,rfl,rfl,_,rfl,B4 (fun q=>absurd (z0C q) (by omega)) fun _=>?_⟩
  refine⟨_,rfl,p,_,rfl,hp,_,_,rfl,rfl,_,rfl,B4 (fun q=>absurd (z0C q) (by omega)) fun _=>?_⟩
  refine⟨_,rfl,p,zs,rfl,hp,by omega,fun l hl=>⟨l,zs,rfl,z04,by omega,_,rfl,p,zs.map V.str,rfl,SqN.keep (z02 hl _) hp,rfl,_,rfl,?_⟩⟩
  refine y6M ?_ (k _ (z02 hl _))
  rw[y1u g.nd,el]
noncomputable def z9c:Sp:=fun vs H Q _=>∃r:Int,vs=[.int r]/\0≤r/\r≤10/\Q .non H
theorem y1i(M:Bl mg)(F:Fun K "refuse_bad_reach" "refuse_bad_reach" z2B f fd):A8 P w K mg base CX0 1 f fd z2z z9c:=by
 have nd:=z3l.nd
 refine F.ok z3l (fun vs H Q E h=>?_) (fun cdv A outer s H vs Q E hr h=>?_)
 ·obtain⟨r,rfl,_⟩:=h
  rfl
 ·obtain⟨r,rfl,r0,r1,k⟩:=h
  refine⟨_,(z05 (z0G (PW.pt (z3Q (z08 z6d (pv 0) z06 (z0i _)) (z2q (z08 z2c (pv 0) (z1f rfl M.MOST_REACH) (z0i _))))) (z05 z1F) z0g)),?_⟩
  refine⟨_,rfl,_,_,rfl,rfl,_,rfl,B4 (fun q=>absurd (z0C q) (by omega)) fun _=>?_⟩
  exact⟨_,rfl,_,_,rfl,rfl,_,rfl,B4 (fun q=>absurd (z0C q) (by omega)) fun _=>k⟩
noncomputable def HdN(K:PySem.W.Frag)(H:Hp)(p:Addr)(zs:List Str):Prop:=SqL K H p (zs.map V.str)\/H p=some (.tup (zs.map V.str))
theorem HdN.sq{K:PySem.W.Frag}{H:Hp}{p:Addr}{zs:List Str}(h:HdN K H p zs):SqN K H p zs:=h.imp id SqT.of
theorem HdN.keep{K:PySem.W.Frag}{H H':Hp}{p:Addr}{zs:List Str}(s:A4 H H')(h:HdN K H p zs):HdN K H' p zs:=h.imp (fun q=>s.seq q) fun q=>s _ _ q
noncomputable def z6H(K:PySem.W.Frag):Sp:=fun vs H Q _=>∃(p:Addr) (zs:List Str) (r:Int),vs=[.ref p,.int r]/\HdN K H p zs/\GoodN zs/\0≤r/\r≤10/\∀(l:Addr) (H':Hp),A4 H H'->H' l=some (.tup (zs.map V.str))->Q (.ref l) H'
theorem y1p(M:Bl mg)(F:Fun K "bulletin_names" "bulletin_names" z37 f fd)(G3:Cal P w K mg base 1 "refuse_bad_names" z2y (z9b K))(G9:Cal P w K mg base 1 "refuse_bad_reach" z2z z9c) :
  A8 P w K mg base CX0 2 f fd z2k (z6H K):=by
 have nd:=z4i.nd
 refine F.ok z4i (fun vs H Q E h=>?_) (fun cdv A outer s H vs Q E hr h=>?_)
 ·obtain⟨p,zs,r,rfl,_⟩:=h
  rfl
 ·obtain⟨p,zs,r,rfl,hp,g,r0,r1,k⟩:=h
  refine⟨_,(z03 (z0y (z0k G3 (rm hr) rfl (z00 (pv 0) z01))) (z03 (z0y (z0k G9 (rm hr) rfl (z00 (pv 1) z01))) (z05 (z0d (z0q z0l rfl M.tuple bI (z00 (pv 0) z01)))))),?_⟩
  refine⟨_,rfl,p,zs,rfl,hp.sq,g,fun H1 s1=>⟨_,rfl,r,rfl,r0,r1,_,rfl,p,zs.map V.str,rfl,?_⟩⟩
  rcases hp.keep s1 with hq|hq
  ·exact .inl ⟨hq,fun l hl=>k l _ (s1.trans (z02 hl _)) z04⟩
  ·exact .inr ⟨SqT.of hq,k p _ s1 hq⟩
noncomputable def z0D(fp:List Addr)(H H':Hp):Prop:=∀b o,H b=some o->b∉fp->H' b=some o
theorem z0D.of{fp:List Addr}{H H':Hp}(h:A4 H H'):z0D fp H H':=fun b o e _=>h b o e
noncomputable def z6c(H:Hp)(fp:List Addr):Prop:=∀b∈fp,∀xs,H b≠some (.tup xs)
mutual
theorem Tell.but{fp:List Addr}{H H':Hp}(s:z0D fp H H')(n:z6c H fp):∀(d:DV) (x:V),Tell H d x->Tell H' d x
 | .non,_,h=>by unfold Tell at h ⊢;exact h
 | .bl _,_,h=>by unfold Tell at h ⊢;exact h
 | .int _,_,h=>by unfold Tell at h ⊢;exact h
 | .str _,_,h=>by unfold Tell at h ⊢;exact h
 | .tup ds,_,h=>by
  unfold Tell at h ⊢
  obtain⟨a,xs,e,h1,h2,h3⟩:=h
  exact⟨a,xs,e,s _ _ h1 (fun m=>n a m xs h1),h2,z0c.but s n ds xs h3⟩
theorem z0c.but{fp:List Addr}{H H':Hp}(s:z0D fp H H')(n:z6c H fp):∀(ds:List DV) (xs:List V),z0c H ds xs->z0c H' ds xs
 | [],_,h=>by unfold z0c at h ⊢;exact h
 | d::ds,_,h=>by
  unfold z0c at h ⊢
  obtain⟨x,r,e,h1,h2⟩:=h
  exact⟨x,r,e,Tell.but s n d x h1,z0c.but s n ds r h2⟩
end
theorem SqL.but{K:PySem.W.Frag}{fp:List Addr}{H H':Hp}{a:Addr}{xs:List V}(s:z0D fp H H')(n:a∉fp)(h:SqL K H a xs):SqL K H' a xs:=by
 rcases h with (h|⟨o,h⟩)|h
 ·exact .inl (.inl (s _ _ h n))
 ·exact .inl (.inr ⟨o,s _ _ h n⟩)
 ·exact .inr h
theorem z8A{H:Hp}{x dx b:Addr}{o u v:HO}(nx:H x=none)(ndx:H dx=none)(h:H b=some o):upd (upd H dx u) x v b=some o:=by
 rw[z0e (z0o h nx),z0e (z0o h ndx)]
 exact h
theorem z6p{H H1:Hp}{C x dx:Addr}(s:A4 H H1)(nx:H1 x=none)(ndx:H1 dx=none):A4 H (upd (upd H1 dx (.own x)) x (.ins C dx [])):=fun _ _ e=>z8A nx ndx (s _ _ e)
theorem z6m{H H1 H2:Hp}{x:Addr}(b:z0D [x] H1 H2)(m:A4 H H1)(nx:H x=none):A4 H H2:=fun c o e=>b c o (m c o e) (by
 rw[bB]
 exact z0o e nx)
theorem z4T{H H1:Hp}{x dx b:Addr}(m:A4 H H1)(nx:H x=none)(ndx:H dx=none)(h:b=x\/b=dx\/H1 b=none):H b=none:=by
 rcases h with rfl|rfl|h
 ·exact nx
 ·exact ndx
 ·exact m.free h
theorem y40{fp fp' fp2:List Addr}{H7 H' GW:Hp}(bt:z0D fp H7 H')(ff:∀b∈fp',b∈fp\/H7 b=none)(gW:A4 H' GW)(hf2:∀b∈fp2,b∈fp'\/GW b=none):∀b∈fp2,b∈fp\/H7 b=none:=fun b m=>(hf2 b m).elim (ff b) fun z=>by
 cases e:H7 b with
 | none=>exact .inr rfl
 | some o=>
  by_cases nb:b∈fp
  ·exact .inl nb
  ·rw[gW _ _ (bt b o e nb)] at z
   cases z
noncomputable def z0m(had:List Int):List Int:=(upI 1 60).filter fun x=>decide (x∈had)
noncomputable def topL(had:List Int):Int:=(z0m had).getLastD 0
noncomputable def addN(had:List Int)(n:Int):List Int:=if n∈had then had else had++[n]
theorem y1V{had:List Int}{n x:Int}:x∈addN had n↔x∈had\/x=n:=by
 unfold addN
 by_cases h:n∈had
 ·rw[if_pos h]
  exact⟨.inl,fun q=>q.elim id fun e=>e ▸ h⟩
 ·rw[if_neg h,bS,bB]
theorem z1j{had:List Int}{x:Int}:x∈z0m had↔(1≤x/\x<1+60)/\x∈had:=by
 unfold z0m
 rw[cK,z1r,decide_eq_true_eq]
 rfl
theorem z2g(had:List Int):(z0m had).Pairwise (· < ·):=(z1S 1 60).filter _
theorem z67(had:List Int):(z0m had).length≤60:=by
 have h:=cI (fun x=>decide (x∈had)) (upI 1 60)
 rw[z0T] at h
 exact h
theorem y12{ns ms:List Int}(nd:ns.Nodup)(C7:∀x∈ns,1≤x/\x≤60)(hp:ms.Perm ns)(hs:ms.Pairwise (·≤·)):ms=z0m ns:=by
 have n2:ms.Nodup:=hp.nodup_iff.mpr nd
 have lt:ms.Pairwise (· < ·):=by
  have:=List.pairwise_and_iff.mpr ⟨hs,n2⟩
  exact this.imp fun h=>by
   have:=h.1
   have:=h.2
   omega
 refine z2m lt (z2g _) fun x=>?_
 rw[z1j,hp.mem_iff]
 exact⟨fun h=>⟨by have:=C7 x h;omega,h⟩,fun h=>h.2⟩
abbrev ShP:=Hp->Addr->List Addr->List Str->Int->(Int->DV)->List Int->Prop
structure ShOk(C:Addr)(ms:List Str)(Sh:ShP):Prop where
 ins:∀{H p fp zs r iss had},Sh H p fp zs r iss had->∃dx fs,H p=some (.ins C dx fs)/\∀m∈ms,fs.lookup m=none
 own:∀{H p fp zs r iss had},Sh H p fp zs r iss had->∀b∈fp,∃o,H b=some o/\∀xs,o≠.tup xs
 keep:∀{H H' p fp gp zs r iss had},Sh H p fp zs r iss had->z0D gp H H'->(∀b∈gp,b∉fp)->z6c H gp->Sh H' p fp zs r iss had
theorem ShOk.same{C:Addr}{ms:List Str}{Sh:ShP}(O:ShOk C ms Sh){H H':Hp}{p:Addr}{fp:List Addr}{zs:List Str}{r:Int}{iss:Int->DV}{had:List Int}(h:Sh H p fp zs r iss had)(s:A4 H H'):Sh H' p fp zs r iss had:=
 O.keep (gp:=[]) h (.of s) (fun _ q=>by cases q) fun _ q=>by cases q
theorem ShOk.noTup{C:Addr}{ms:List Str}{Sh:ShP}(O:ShOk C ms Sh){H:Hp}{p:Addr}{fp:List Addr}{zs:List Str}{r:Int}{iss:Int->DV}{had:List Int}(h:Sh H p fp zs r iss had):z6c H fp:=fun b m xs e=>by
 obtain⟨o,e1,n⟩:=O.own h b m
 rw[e1] at e
 exact n xs (Option.some.inj e)
noncomputable def z7u(K:PySem.W.Frag)(C:Addr)(Sh:ShP):Sp:=fun vs H Q _=>∃(x dx pn:Addr) (zs:List Str) (r:Int),vs=[.ref x,.ref pn,.int r]/\H x=some (.ins C dx [])/\dx≠x/\H dx=some (.own x)/\HdN K H pn zs/\GoodN zs/\0≤r/\r≤10/\
 ∀(fp:List Addr) (H':Hp),(∀b∈fp,b=x\/b=dx\/H b=none)->z0D [x] H H'->(∀iss,Sh H' x fp zs r iss [])->Q .non H'
noncomputable def y63(Sh:ShP):Sp:=fun vs H Q _=>∃(p:Addr) (v:V) (fp:List Addr) (zs:List Str) (r:Int) (iss:Int->DV) (had:List Int) (n:Int) (ds:List DV),vs=[.ref p,v]/\Sh H p fp zs r iss had/\Tell H (iss n) v/\iss n=.tup (.int n::ds)/\1≤n/\n≤60/\
 ∀(fp':List Addr) (H':Hp),(∀b∈fp',b∈fp\/H b=none)->z0D fp H H'->Sh H' p fp' zs r iss (addN had n)->Q (.bl (decide (n∉had))) H'
noncomputable def z2u(Sh:ShP):Sp:=fun vs H Q _=>∃(p:Addr) (fp:List Addr) (zs:List Str) (r:Int) (iss:Int->DV) (had:List Int),vs=[.ref p]/\Sh H p fp zs r iss had/\
 ∀(l:Addr) (H':Hp),A4 H H'->H' l=some (.tup ((z0m had).map V.int))->Q (.ref l) H'
noncomputable def y2P(Sh:ShP):Sp:=fun vs H Q _=>∃(p:Addr) (fp:List Addr) (zs:List Str) (r:Int) (iss:Int->DV) (had:List Int),vs=[.ref p]/\Sh H p fp zs r iss had/\∀H',A4 H H'->Q (.int (topL had)) H'
noncomputable def ShD(K:PySem.W.Frag)(C:Addr):ShP:=fun H p fp zs r iss had=>∃(dx pn pd:Addr) (fs:List (Str×V)) (kvs:List (Key×V)),fp=[p,dx,pd]/\H p=some (.ins C dx fs)/\H dx=some (.own p)/\H pn=some (.tup (zs.map V.str))/\H pd=some (.dK kvs)/\
 fs.lookup ("names":Str)=some (V.ref pn)/\fs.lookup ("reach":Str)=some (V.int r)/\fs.lookup ("issues":Str)=some (V.ref pd)/\(∀m∈(["put","had","latest","rows_of","tail_of"]:List Str),fs.lookup m=none)/\
 kvs.map (·.1)=had.map Sum.inl/\had.Nodup/\(∀n∈had,1≤n/\n≤60)/\(∀n v,(Sum.inl n,v)∈kvs->Tell H (iss n) v)/\GoodN zs/\0≤r/\r≤10
theorem ShD.ins{K:PySem.W.Frag}{C:Addr}{H:Hp}{p:Addr}{fp:List Addr}{zs:List Str}{r:Int}{iss:Int->DV}{had:List Int}(h:ShD K C H p fp zs r iss had):∃dx fs,H p=some (.ins C dx fs)/\∀m∈(["put","had","latest","rows_of","tail_of"]:List Str),fs.lookup m=none:=by
 obtain⟨dx,pn,pd,fs,kvs,e,h1,h2,h3,h4,l1,l2,l3,lm,_⟩:=h
 exact⟨dx,fs,h1,lm⟩
theorem shOk{K:PySem.W.Frag}{C:Addr}:ShOk C ["put","had","latest"] (ShD K C):=by
 refine⟨fun h=>?_,fun h b hb=>?_,fun h s out nt=>?_⟩
 ·obtain⟨dx,fs,h1,lm⟩:=ShD.ins h
  refine⟨dx,fs,h1,fun m hm=>lm m ?_⟩
  simp only[bD,dI,or_false] at hm ⊢
  rcases hm with h|h|h<;>simp[h]
 ·obtain⟨dx,pn,pd,fs,kvs,rfl,h1,h2,h3,h4,_⟩:=h
  rcases bD.mp hb with rfl|hb
  ·exact⟨_,h1,fun xs z=>by cases z⟩
  rcases bD.mp hb with rfl|hb
  ·exact⟨_,h2,fun xs z=>by cases z⟩
  rw[bB.mp hb]
  exact⟨_,h4,fun xs z=>by cases z⟩
 ·obtain⟨dx,pn,pd,fs,kvs,rfl,h1,h2,h3,h4,l1,l2,l3,lm,kk,nd,all,tl,g⟩:=h
  exact⟨dx,pn,pd,fs,kvs,rfl,s _ _ h1 (fun m=>out _ m (by simp)),s _ _ h2 (fun m=>out _ m (by simp)),s _ _ h3 (fun m=>nt _ m _ h3),s _ _ h4 (fun m=>out _ m (by simp)),l1,l2,l3,lm,kk,nd,all,fun n v hv=>Tell.but s nt _ _ (tl n v hv),g⟩
theorem y4M{A1:Addr}(M:Bl mg)(T:TxShelf K mg A1)(F:Fun K "__init__" "Shelf.__init__" z39 f fd)(D8:Cal P w K mg base 2 "bulletin_names" z2k (z6H K)) :
  A8 P w K mg base CX0 3 f fd z1L (z7u K A1 (ShD K A1)):=by
 have nd:=z4g.nd
 refine F.ok z4g (fun vs H Q E h=>?_) (fun cdv A outer s H vs Q E hr h=>?_)
 ·obtain⟨x,dx,pn,zs,r,rfl,_⟩:=h
  rfl
 obtain⟨x,dx,pn,zs,r,rfl,hx,ne,hdx,hn,g,r0,r1,k⟩:=h
 refine⟨_,(z03 (z6b (pv 0) (z0k D8 (rm hr) rfl (z00 (pv 1) (z00 (pv 2) z01))) rfl) (z03 (z6b (pv 0) (pv 2) rfl) (z05 (z6b (pv 0) y21 rfl)))),?_⟩
 refine⟨_,rfl,_,rfl,pn,zs,r,rfl,hn,g,r0,r1,fun l H1 s1 e1=>?_⟩
 refine⟨_,rfl,x,A1,dx,[],rfl,s1 _ _ hx,T.cl,T.n_names,by decide,?_⟩
 have z1:=z1Q "names" (.ref l) []
 have z2:=z1Q "reach" (.int r) (K5 "names" (.ref l) [])
 have z0:([]:List (Str×V)).length=0:=rfl
 refine⟨_,rfl,_,rfl,x,A1,dx,_,rfl,z04,T.cl,T.n_reach,(by omega),?_⟩
 rw[z5A]
 intro pd hd
 have nx:x≠pd:=z0o z04 hd
 have ndd:dx≠pd:=z0o (show upd H1 x _ dx=some _ by rw[z0e ne];exact s1 _ _ hdx) hd
 have nl:l≠x:=z50 e1 (s1 _ _ hx) (fun z=>by cases z)
 have nlp:l≠pd:=z0o (show upd H1 x _ l=some _ by rw[z0e nl];exact e1) hd
 have dfr:H1 pd=none:=by rw[z0e (cS nx)] at hd;exact hd
 refine⟨_,rfl,x,A1,dx,_,rfl,(by rw[z0e nx,z04]),T.cl,T.n_issues,(by omega),?_⟩
 refine k [x,dx,pd] _ (fun b hb=>?_) (fun b o e nb=>?_) (fun iss=>⟨dx,l,pd,_,[],rfl,z04,?_,?_,?_,?_,?_,?_,?_,rfl,.nil,fun _ q=>(nomatch q),fun _ _ q=>(nomatch q),g,r0,r1⟩)
 ·simp only[bD,dI,or_false] at hb
  rcases hb with rfl|rfl|rfl
  ·exact .inl rfl
  ·exact .inr (.inl rfl)
  ·exact .inr (.inr (s1.free dfr))
 ·rw[bB] at nb
  rw[z0e nb,z0e (z0o e (s1.free dfr)),z0e nb]
  exact s1 _ _ e
 ·rw[z0e ne,z0e ndd,z0e ne]
  exact s1 _ _ hdx
 ·rw[z0e nl,z0e nlp,z0e nl]
  exact e1
 ·rw[z0e (cS nx),z04]
 ·rw[z0r,if_neg (by decide +kernel),z0r,if_neg (by decide +kernel),z0r,if_pos rfl]
 ·rw[z0r,if_neg (by decide +kernel),z0r,if_pos rfl]
 ·rw[z0r,if_pos rfl]
 ·intro m hm
  simp only[bD,dI,or_false] at hm
  rcases hm with rfl|rfl|rfl|rfl|rfl<;>rw[z0r,if_neg (by decide +kernel),z0r,if_neg (by decide +kernel),z0r,if_neg (by decide +kernel)]<;>rfl
theorem y8l{α:Type}[DecidableEq α]:∀{l1 l2:List α},l1.Nodup->(∀x∈l1,x∈l2)->l1.length≤l2.length
 | [],_,_,_=>cR _
 | x::r,l2,nd,sub=>by
  rw[dE] at nd
  have hx:=sub x cB
  have:=y8l (l1:=r) (l2:=l2.erase x) nd.2 fun y hy=>(List.mem_erase_of_ne (fun(e:y=x)=>nd.1 (e ▸ hy))).mpr (sub y (bP _ hy))
  rw[List.length_erase_of_mem hx] at this
  have h0:=List.length_pos_of_mem hx
  rw[c9]
  omega
theorem y1r{had:List Int}(nd:had.Nodup)(all:∀n∈had,1≤n/\n≤60):had.length≤60:=by
 have h:=y8l (l2:=upI 1 60) nd fun n hn=>z1r.mpr (by have:=all n hn;omega)
 rw[z0T] at h
 exact h
theorem z9h{kvs:List (Key×V)}{had:List Int}(kk:kvs.map (·.1)=had.map Sum.inl)(n:Int):(K9 kvs (Sum.inl n)).isSome=decide (n∈had):=by
 rw[<- z7F]
 have e:(kvs.any fun kv=>decide (kv.1=Sum.inl n))=(kvs.map (·.1)).any fun k=>decide (k=Sum.inl n):=by rw[gE];rfl
 rw[e,kk,gE]
 by_cases h:n∈had
 ·rw[decide_eq_true h,gU]
  exact⟨n,h,decide_eq_true rfl⟩
 ·rw[decide_eq_false h,jA]
  intro m hm z
  have e:=of_decide_eq_true z
  cases e
  exact h hm
theorem y7Q{A1:Addr}(M:Bl mg)(T:TxShelf K mg A1)(F:Fun K "put" "Shelf.put" z6A f fd):A8 P w K mg base CX0 1 f fd z3H (y63 (ShD K A1)):=by
 have nd:=z7M.nd
 refine F.ok z7M (fun vs H Q E h=>?_) (fun cdv A outer s H vs Q E hr h=>?_)
 ·obtain⟨p,v,fp,zs,r,iss,had,n,ds,rfl,_⟩:=h
  rfl
 obtain⟨p,v,fp,zs,r,iss,had,n,ds,rfl,sh,tv,en,n1,n2,k⟩:=h
 have hu:=z8G hr
 refine⟨_,(z03 (z0f (i:=2) nd rfl (Or.inl rfl) (z0M z1b (pv 1) z06 (fun _ _=>rfl))) (z03 (z0G (z7d (y2o hu (pv 2) (z0u (pv 0) rfl))) (z05 (z0d z5D)) z0g) (z03 (y1D hu (z0u (pv 0) rfl) (pv 2) (pv 1) rfl) (z05 (z0d z5D))))),?_⟩
 obtain⟨dx,pn,pd,fs,kvs,rfl,h1,h2,h3,h4,l1,l2,l3,lm,kk,ndh,all,tl,g,r0,r1⟩:=sh
 rw[en] at tv
 obtain⟨a,us,rfl,ea,_,tu⟩:=z0s tv
 obtain⟨x0,ur,rfl,t0,_⟩:=z0j tu
 cases z1k t0
 refine⟨_,rfl,a,_,_,_,rfl,rfl,SqT.of ea,z1O rfl,?_⟩
 refine⟨_,rfl,_,rfl,p,A1,dx,fs,_,rfl,h1,T.cl,T.n_issues,l3,pd,_,rfl,N8.k (k:=Sum.inl n) h4,?_⟩
 refine⟨_,rfl,?_⟩
 rw[z9h kk]
 have fr:∀b∈[p,dx,pd],∃o,H b=some o:=fun b hb=>by
  simp only[bD,dI,or_false] at hb
  rcases hb with rfl|rfl|rfl
  ·exact⟨_,h1⟩
  ·exact⟨_,h2⟩
  ·exact⟨_,h4⟩
 refine B4 (fun c=>?_) (fun c=>?_)
 ·have c':=z0C c
  have e:=k [p,dx,pd] H (fun b hb=>.inl hb) (fun b o e _=>e) ⟨dx,pn,pd,fs,kvs,rfl,h1,h2,h3,h4,l1,l2,l3,lm,by unfold addN;rw[if_pos c'];exact kk,by unfold addN;rw[if_pos c'];exact ndh,fun m hm=>?_,tl,g,r0,r1⟩
  ·rw[decide_eq_false (fun z=>z c')] at e
   exact e
  ·unfold addN at hm
   rw[if_pos c'] at hm
   exact all m hm
 ·have c':=z4I c
  have lk:kvs.length≤60:=by
   have e2:=congrArg List.length kk
   rw[b9,b9] at e2
   have:=y1r ndh all
   omega
  have en':K9 kvs (Sum.inl n:Key)=none:=by
   have:=z9h kk n
   rw[decide_eq_false c'] at this
   cases e:K9 kvs (Sum.inl n:Key) with
   | none=>rfl
   | some v=>rw[e] at this;cases this
  refine⟨_,rfl,_,rfl,p,A1,dx,fs,_,rfl,h1,T.cl,T.n_issues,l3,_,rfl,pd,_,rfl,V4.k (k:=Sum.inl n) h4 (z0n (by omega)),?_⟩
  rw[y28 _ en']
  have np:p≠pd:=z50 h1 h4 (fun z=>by cases z)
  have nx:dx≠pd:=z50 h2 h4 (fun z=>by cases z)
  have nn:pn≠pd:=z50 h3 h4 (fun z=>by cases z)
  have e:=k [p,dx,pd] (upd H pd (.dK (kvs++[(Sum.inl n,.ref a)]))) (fun b hb=>.inl hb) (fun b o e nb=>by rw[z0e (fun z=>nb (by rw[z];simp))];exact e)
   ⟨dx,pn,pd,fs,_,rfl,by rw[z0e np];exact h1,by rw[z0e nx];exact h2,by rw[z0e nn];exact h3,z04,l1,l2,l3,lm,?_,?_,fun m hm=>?_,fun m v hv=>?_,g,r0,r1⟩
  ·rw[decide_eq_true c'] at e
   exact e
  ·unfold addN
   rw[if_neg c',bG,bG,kk]
   rfl
  ·unfold addN
   rw[if_neg c',gL]
   exact⟨ndh,by simp,fun x hx y hy z=>by rw[bB] at hy;subst hy;subst z;exact c' hx⟩
  ·rcases y1V.mp hm with h|rfl
   ·exact all m h
   ·omega
  ·refine Tell.over h4 (fun _ z=>by cases z) _ _ ?_
   rcases bS.mp hv with h|h
   ·exact tl m v h
   ·rw[bB] at h
    cases h
    rw[en]
    exact tv
theorem y5W{A1:Addr}(M:Bl mg)(T:TxShelf K mg A1)(F:Fun K "had" "Shelf.had" z6Q f fd):A8 P w K mg base CX0 1 f fd z0Z (z2u (ShD K A1)):=by
 have nd:=z7N.nd
 refine F.ok z7N (fun vs H Q E h=>?_) (fun cdv A outer s H vs Q E hr h=>?_)
 ·obtain⟨p,fp,zs,r,iss,had,rfl,_⟩:=h
  rfl
 obtain⟨p,fp,zs,r,iss,had,rfl,sh,k⟩:=h
 refine⟨_,(z05 (z0d (z0q z0l rfl M.tuple bI (z00 (z0b (z4l rfl) rfl M.sorted eO (z00 (z0u (pv 0) rfl) z01)) z01)))),?_⟩
 obtain⟨dx,pn,pd,fs,kvs,rfl,h1,h2,h3,h4,l1,l2,l3,lm,kk,ndh,all,tl,g,r0,r1⟩:=sh
 refine⟨_,rfl,p,A1,dx,fs,_,rfl,h1,T.cl,T.n_issues,l3,pd,kvs,had,rfl,h4,kk,dU (y1r ndh all) (by decide),fun l ms hl hp hs=>?_⟩
 rw[y12 ndh all hp hs]
 exact⟨l,_,rfl,.inl ⟨SqL.of z04,fun t ht=>k t _ ((z02 hl _).trans (z02 ht _)) z04⟩⟩
theorem y5F{had:List Int}{m:Int}(hm:m∈z0m had)(hb:∀y∈z0m had,y≤m):m=topL had:=by
 unfold topL
 have ne:z0m had≠[]:=fun z=>by rw[z] at hm;cases hm
 have e:(z0m had).getLastD 0=(z0m had).getLast ne:=by rw[List.getLastD_eq_getLast?,List.getLast?_eq_some_getLast ne]<;>rfl
 rw[e]
 have h1:=hb _ (List.getLast_mem ne)
 have d:z0m had=(z0m had).dropLast++[(z0m had).getLast ne]:=(List.dropLast_concat_getLast ne).symm
 have rs:=z2g had
 rw[d] at hm rs
 rcases bS.mp hm with h|h
 ·have:=(cX.mp rs).2.2 m h _ (bB.mpr rfl)
  omega
 ·exact bB.mp h
theorem y4w{A1:Addr}(M:Bl mg)(T:TxShelf K mg A1)(F:Fun K "latest" "Shelf.latest" z4d f fd)(A7:C5 P w K mg base 1 A1 "had" z0Z (z2u (ShD K A1))):A8 P w K mg base CX0 2 f fd z5O (y2P (ShD K A1)):=by
 have nd:=z55.nd
 refine F.ok z55 (fun vs H Q E h=>?_) (fun cdv A outer s H vs Q E hr h=>?_)
 ·obtain⟨p,fp,zs,r,iss,had,rfl,_⟩:=h
  rfl
 obtain⟨p,fp,zs,r,iss,had,rfl,sh,k⟩:=h
 refine⟨_,(z05 (z0d (y3l rfl rfl M.max (z00 (z1q A7 (rm hr) (pv 0)) z01) (z9A z06 y27)))),?_⟩
 obtain⟨dx,fs,h1,lm⟩:=shOk.ins sh
 refine⟨_,rfl,p,dx,fs,rfl,h1,lm _ (by simp),p,fp,zs,r,iss,had,rfl,sh,fun l H1 s1 e1=>?_⟩
 refine⟨l,z0m had,_,rfl,rfl,.inr (SqT.of e1),fun z=>?_,fun m hm hb=>?_⟩
 ·have e:topL had=0:=by unfold topL;rw[z];rfl
  have:=k H1 s1
  rw[e] at this
  exact this
 ·rw[y5F hm hb]
  exact k H1 s1
noncomputable def gapD(ns:List Int)(rows:List Row)(r n:Int):DV:=.tup [.int n,.int (z0W ns n r),if z0W ns n r=0 then .tup [] else nmsD (z1T (z15 rows n))]
noncomputable def z7r(ns:List Int)(rows:List Row)(r:Int):List DV:=(z1d ns).map (gapD ns rows r)
theorem y05{ns:List Int}{n r:Int}:0≤z0W ns n r:=by
 unfold z0W
 cases e:(upI 1 60).find? (y1t ns n r) with
 | none=>exact dP _
 | some y=>
  have:=z1r.mp (fZ e)
  show 0≤y
  omega
theorem y4m{ns:List Int}{m:Int}(hm:m∈ns\/(ns=[]/\m=0))(C7:∀x∈ns,1≤x/\x≤60)(top:∀y∈ns,y≤m):(upI 1 (m-1).toNat).filter (fun x=>!decide (x∈ns))=z1d ns:=by
 rcases hm with hm|⟨rfl,rfl⟩
 ·refine z2m ((z1S _ _).filter _) (z33 _) fun x=>?_
  have hm':=C7 m hm
  rw[cK,z1r,z25,gN,decide_eq_false_iff_not]
  constructor
  ·rintro⟨⟨a,b⟩,c⟩
   exact⟨by omega,c,m,hm,by omega⟩
  ·rintro⟨a,b,y,hy,c⟩
   have:=top y hy
   exact⟨by omega,b⟩
 ·rw[y0x]
  rfl
theorem z8s{ns:List Int}(i:Nat):(upI 1 (i+1)).filter (fun x=>!decide (x∈ns))=(upI 1 i).filter (fun x=>!decide (x∈ns))++(if (1:Int)+(i:Int)∈ns then [] else [1+(i:Int)]):=by
 rw[z7A,dN,eQ]
 by_cases h:(1:Int)+(i:Int)∈ns
 ·rw[if_pos h,decide_eq_true h]
  rfl
 ·rw[if_neg h,decide_eq_false h]
  rfl
noncomputable def valL(w:Row)(z:Str):Option Int:=w.foldl (fun acc p=>if p.1=z then some p.2 else acc) none
theorem y0C(w:Row)(p:Str×Int)(z:Str):valL (w++[p]) z=if p.1=z then some p.2 else valL w z:=by
 unfold valL
 rw[gK]
 rfl
noncomputable def z2v(ms:List Int)(rows:List Row)(z:Str):Option (Int×Int):=ms.foldl (fun acc n=>match valL (z15 rows n) z with|some v=>some (n,v)|none=>acc) none
theorem z93(ms:List Int)(n:Int)(rows:List Row)(z:Str):z2v (ms++[n]) rows z=match valL (z15 rows n) z with|some v=>some (n,v)|none=>z2v ms rows z:=by
 unfold z2v
 rw[gK]
 rfl
noncomputable def y3i:Option (Int×Int)->DV
 | some (n,v)=>.tup [.int n,.int v]
 | none=>.tup [.int 0,.non]
noncomputable def z52(o:Option (Int×Int)):Int:=(o.map Prod.fst).getD 0
noncomputable def y5l:Option (Int×Int)->DV
 | some (_,v)=>.int v
 | none=>.non
theorem z7G{H:Hp}{o:Option (Int×Int)}{v:V}(h:Tell H (y3i o) v):∃(a:Addr) (y:V),v=.ref a/\H a=some (.tup [.int (z52 o),y])/\Tell H (y5l o) y:=by
 cases o with
 | none=>
  obtain⟨a,xs,rfl,ha,_,ta⟩:=z0s (show Tell H (.tup [.int 0,.non]) v from h)
  obtain⟨y1,r1,rfl,t1,h3⟩:=z0j ta
  obtain⟨y2,r2,rfl,t2,h4⟩:=z0j h3
  have:=z0X h4
  subst this
  rw[z1k t1] at ha
  exact⟨a,y2,rfl,ha,t2⟩
 | some p=>
  obtain⟨n,x⟩:=p
  obtain⟨a,xs,rfl,ha,_,ta⟩:=z0s (show Tell H (.tup [.int n,.int x]) v from h)
  obtain⟨y1,r1,rfl,t1,h3⟩:=z0j ta
  obtain⟨y2,r2,rfl,t2,h4⟩:=z0j h3
  have:=z0X h4
  subst this
  rw[z1k t1] at ha
  exact⟨a,y2,rfl,ha,t2⟩
noncomputable def y4E(K:PySem.W.Frag):Sp:=fun vs H Q _=>∃(p lr:Addr) (ns:List Int) (us:List V) (rows:List Row) (z:Str),vs=[.ref p,.ref lr,.str z]/\SqL K H p (ns.map V.int)/\ns.length<64/\ns.Nodup/\(∀x∈ns,1≤x/\x≤60)/\(∀x∈ns,x≤rows.length)/\
 SqL K H lr us/\z0c H (rows.map rowD) us/\∀(v:V) (H':Hp),A4 H H'->Tell H' (y3i (z2v (z0m ns) rows z)) v->Q v H'
theorem y57(M:Bl mg)(F:Fun K "_law_held" "_law_held" z6w f fd):A8 P w K mg base CX0 1 f fd z6x (y4E K):=by
 have nd:=z7Y.nd
 refine F.ok z7Y (fun vs H Q E h=>?_) (fun cdv A outer s H vs Q E hr h=>?_)
 ·obtain⟨p,lr,ns,us,rows,z,rfl,_⟩:=h
  rfl
 obtain⟨p,lr,ns,us,rows,z,rfl,hP,h64,nds,C7,hup,hR,tl,q⟩:=h
 refine⟨_,(z03 (z0f (i:=3) nd rfl (Or.inl rfl) (z0I (z00 z06 (z00 z9a z01)))) (z03 (z1s cD rfl (z1v (z0b z8c rfl M.sorted eO (z00 (pv 0) z01))) (z0h (i:=4) nd rfl (Or.inl rfl)) (z05 (z1s cD rfl (z2N (z0M z0N (pv 1) (z0t z2Q (pv 4) z06) (fun _ _=>rfl))) (z0h (i:=5) nd rfl (Or.inl rfl)) (z05 (z0G (z08 z23 (z0M z1b (pv 5) z06 (fun _ _=>rfl)) (pv 2) (z0i _)) (z05 (z0f (i:=3) nd rfl (Or.inl rfl) (z0I (z00 (pv 4) (z00 (z0M z1b (pv 5) z06 (fun _ _=>rfl)) z01))))) z0g))))) (z05 (z0d (pv 3))))),?_⟩
 refine⟨(by show 2≤sizeLine;decide),fun t0 ht0=>?_⟩
 have s1:=z02 ht0 (.tup [V.int 0,V.non])
 have e1:upd H t0 (.tup [V.int 0,V.non]) t0=some (.tup [V.int 0,V.non]):=z04
 generalize upd H t0 (.tup [V.int 0,V.non])=H1 at s1 e1
 refine⟨_,rfl,p,ns,rfl,s1.seq hP,h64,fun ls ms nls hp hs=>?_⟩
 have er:=y12 nds C7 hp hs
 have s2:=s1.trans (z02 nls (.lst (ms.map V.int)))
 have e2:=z02 nls (.lst (ms.map V.int)) _ _ e1
 have els:upd H1 ls (.lst (ms.map V.int)) ls=some (.lst (ms.map V.int)):=z04
 generalize upd H1 ls (.lst (ms.map V.int))=H2 at s2 e2 els
 refine⟨ls,rfl,⟨_,SqL.of els⟩,z2a (K:=K) (a:=ls) (xs:=ms.map V.int) (fun i σ H'=>∃(hv:V) (o1 o2:Option V),A4 H2 H'/\Tell H' (y3i (z2v (ms.take i) rows z)) hv/\σ=[some (.ref p),some (.ref lr),some (.str z),some hv,o1,o2])
  ⟨.ref t0,none,none,A4.refl _,z0w e2 (by show 2≤1000000;decide) (.cons (z0J 0) (.cons z9J .nil)),rfl⟩ (fun i σ H' _ ⟨_,_,_,g,_⟩=>SqL.of (g _ _ els)) ?_ ?_⟩
 ·rintro i x σ H' hi ⟨hv,o1,o2,g,th,rfl⟩
  obtain⟨n,hn,rfl⟩:∃n,ms[i]? = some n/\x=V.int n:=by
   rw[bK] at hi
   cases e:ms[i]? with
   | none=>rw[e] at hi;cases hi
   | some n=>rw[e] at hi;exact⟨n,rfl,(Option.some.inj hi).symm⟩
  have nin:n∈ns:=hp.mem_iff.mp (bQ hn)
  have hn1:=C7 n nin
  have hn2:=hup n nin
  obtain⟨v,_,av,tv⟩:=z63 (z0c.keep (s2.trans g) _ _ tl) (k:=n) hn1.1 hn2
  obtain⟨ar,xs,rfl,er',_,tp⟩:=z0s tv
  have lw:xs.length=(z15 rows n).length:=by rw[tp.length,b9]
  refine⟨_,rfl,_,rfl,_,_,rfl,rfl,lr,us,_,_,rfl,rfl,(s2.trans g).seq hR,av,ar,rfl,⟨_,SqT.of er'⟩,?_⟩
  refine z7T (K:=K) (a:=ar) (xs:=xs) (fun j σ H2'=>∃(hv:V) (o2:Option V),A4 H' H2'/\Tell H2' (y3i (match valL ((z15 rows n).take j) z with|some v=>some (n,v)|none=>z2v (ms.take i) rows z)) hv/\
    σ=[some (.ref p),some (.ref lr),some (.str z),some hv,some (.int n),o2]) ⟨hv,o2,A4.refl _,th,rfl⟩ (fun j σ H2' _ ⟨_,_,g2,_⟩=>SqT.of (g2 _ _ er')) ?_ ?_
  ·rintro j y σ H2' hy ⟨hv2,o3,g2,th2,rfl⟩
   obtain⟨pq,b,e1',rfl,e2'⟩:=z46 tp j y hy
   have sb:SqT K H2' b [V.str pq.1,V.int pq.2]:=SqT.of (g2 _ _ e2')
   refine⟨_,rfl,b,_,0,_,rfl,rfl,sb,rfl,_,rfl,rfl,_,rfl,?_⟩
   have tk:(z15 rows n).take (j+1)=(z15 rows n).take j++[pq]:=z0x e1'
   refine B4 (fun c=>?_) (fun c=>?_)
   ·have c':pq.1=z:=by
     have:=z0C c
     injection this
    refine⟨_,rfl,_,rfl,b,_,1,_,rfl,rfl,sb,rfl,(by show 2≤sizeLine;decide),fun t ht=>?_⟩
    refine⟨.ref t,_,g2.trans (z02 ht _),?_,rfl⟩
    rw[tk,y0C,if_pos c']
    exact z0w z04 (by show 2≤1000000;decide) (.cons (z0J _) (.cons (z0J _) .nil))
   ·have c':¬pq.1=z:=fun e=>z4I c (by rw[e])
    refine⟨hv2,_,g2,?_,rfl⟩
    rw[tk,y0C,if_neg c']
    exact th2
  ·rintro σ H2' ⟨hv2,o3,g2,th2,rfl⟩
   rw[lw,bX] at th2
   refine⟨hv2,_,_,g.trans g2,?_,rfl⟩
   rw[z0x hn,z93]
   exact th2
 ·rintro σ H' ⟨hv,o1,o2,g,th,rfl⟩
  rw[b9,bX,er] at th
  exact⟨_,rfl,q hv H' (s2.trans g) th⟩
noncomputable def y6C(K:PySem.W.Frag):Sp:=fun vs H Q _=>∃(p lr:Addr) (ns:List Int) (us:List V) (rows:List Row) (r:Int),vs=[.ref p,.ref lr,.int r]/\H p=some (.lst (ns.map V.int))/\(∀x∈ns,1≤x/\x≤60)/\ns.length≤900/\(∀x∈ns,x≤rows.length)/\
 SqL K H lr us/\z0c H (rows.map rowD) us/\(∀w∈rows,w.length≤12)/\0≤r/\∀(l:Addr) (zs:List V) (H':Hp),H l=none->A4 H H'->H' l=some (.lst zs)->z0c H' (z7r ns rows r) zs->Q (.ref l) H'
theorem y7d(M:Bl mg)(F:Fun K "_law_gaps" "_law_gaps" z6U f fd)(N3:Cal P w K mg base 1 "_law_teller" z4s (y0B K)):A8 P w K mg base CX0 2 f fd z6T (y6C K):=by
 have nd:=z82.nd
 refine F.ok z82 (fun vs H Q E h=>?_) (fun cdv A outer s H vs Q E hr h=>?_)
 ·obtain⟨p,lr,ns,us,rows,r,rfl,_⟩:=h
  rfl
 obtain⟨p,lr,ns,us,rows,r,rfl,hP,C7,hlen,hup,hR,tl,h12,r0,q⟩:=h
 refine⟨_,(z03 (z0f (i:=3) nd rfl (Or.inl rfl) (z1w z01)) (z03 (z1s cD rfl (z8v rfl M.range (z00 z06 (z00 (z0b (y04 rfl) rfl M.max fL (z00 (z0t y7L (pv 0) (z1w (z00 z06 z01))) z01)) z01))) (z0h (i:=4) nd rfl (Or.inl rfl)) (z03 (z0f (i:=5) nd rfl (Or.inl rfl) (z0k N3 (rm hr) rfl (z00 (pv 0) (z00 (pv 4) (z00 (pv 2) z01))))) (z03 (z0G (PW.pt (z6l (z08 z2f (pv 4) (pv 0) (by with_unfolding_all rfl)) (z40 (z08 z23 (pv 5) z06 (z0i _))))) (z05 (z0y (z2Z bV bT bZ z0K (pv 3) (z00 (z0I (z00 (pv 4) (z00 z06 (z00 (z0I z01) z01)))) z01)))) z0g) (z05 (z0G (PW.pt (z6l (z08 z2f (pv 4) (pv 0) (by with_unfolding_all rfl)) (z40 (z08 z2c (pv 5) z06 (z0i _))))) (z05 (z0y (z2Z bV bT bZ z0K (pv 3) (z00 (z0I (z00 (pv 4) (z00 (pv 5) (z00 (z0q z0l rfl M.tuple bI (z00 (z1n ["_law_row_here"] [] [] rfl (z0z rfl (by decide +kernel) rfl (by decide +kernel) rfl rfl) (z2N (z0M z0N (pv 1) (z0t z2Q (pv 4) z06) (fun _ _=>rfl))) (fun _ _ _ _ _=>(z0h (i:=0) (show((["_law_row_here"]:List PySem.Str)++([]:List PySem.Str)).Nodup from by decide +kernel) rfl (Or.inl rfl))) (z0A (by decide)) z0a (fun _ _ _ _ _=>z1Z) (fun _ _ _ _ _=>(z0M (r:=R6 K) z1b (pv 0) z06 (fun _ _=>rfl)))) z01)) z01)))) z01)))) z0g))))) (z05 (z0d (pv 3))))),?_⟩
 refine⟨(by show 0≤sizeLine;decide),fun lg hlg=>?_⟩
 have s1:=z02 hlg (.lst [])
 refine⟨_,rfl,(by show 1≤sizeLine;decide),fun l0 hl0=>⟨p,l0,_,_,rfl,rfl,z02 hl0 _ _ _ (s1 _ _ hP),z04,?_,fun lc hlc=>?_⟩⟩
 ·rw[b9]
  exact fK (z0n (by show ns.length+1≤1000;omega))
 have s2:=s1.trans ((z02 hl0 (.lst [V.int 0])).trans (z02 hlc (.lst (ns.map V.int++[V.int 0]))))
 have eg:upd (upd (upd H lg (.lst [])) l0 (.lst [V.int 0])) lc (.lst (ns.map V.int++[V.int 0])) lg=some (.lst []):=(z02 hl0 _).trans (z02 hlc _) _ _ z04
 have ec:upd (upd (upd H lg (.lst [])) l0 (.lst [V.int 0])) lc (.lst (ns.map V.int++[V.int 0])) lc=some (.lst ((ns++[0]).map V.int)):=by
  rw[z04,bG]
  rfl
 generalize upd (upd (upd H lg (.lst [])) l0 (.lst [V.int 0])) lc (.lst (ns.map V.int++[V.int 0]))=H2 at s2 eg ec
 refine⟨lc,ns++[0],rfl,.inl (SqL.of ec),by simp,fun m hm top=>?_⟩
 have hm':m∈ns\/(ns=[]/\m=0):=by
  rcases bS.mp hm with h|h
  ·exact .inl h
  ·rw[bB] at h
   subst h
   cases ns with
   | nil=>exact .inr ⟨rfl,rfl⟩
   | cons x xs=>
    have h1:=top x (by simp)
    have h2:=C7 x cB
    omega
 have m60:0≤m/\m≤60:=by
  rcases hm' with h|⟨_,h⟩
  ·have:=C7 m h
   omega
  ·omega
 have topn:∀y∈ns,y≤m:=fun y hy=>top y (d6 _ hy)
 refine⟨1,m,rfl,⟨by decide,by decide,by omega,by omega⟩,?_⟩
 refine z2h (lo:=1) (n:=(m-1).toNat) (fun i σ H'=>∃(zs:List V) (o1 o2:Option V),(∀b u,H b=some u->H' b=some u)/\H' lg=some (.lst zs)/\z0c H' (((upI 1 i).filter fun x=>!decide (x∈ns)).map (gapD ns rows r)) zs/\
   σ=[some (.ref p),some (.ref lr),some (.int r),some (.ref lg),o1,o2]) ⟨[],none,none,s2,eg,.nil,rfl⟩ (fun i σ H' hi hp=>?_) (fun σ H' hp=>?_)
 ·obtain⟨zs,o1,o2,g,eG,tG,rfl⟩:=hp
  have g':A4 H H':=g
  have hn:(1:Int)+(i:Int)≤rows.length:=by
   rcases hm' with h|⟨_,h⟩
   ·have:=hup m h
    omega
   ·omega
  have lz:zs.length≤i:=by
   rw[tG.length,b9]
   have:=cI (fun x=>!decide (x∈ns)) (upI 1 i)
   rw[z0T] at this
   exact this
  refine⟨_,rfl,_,rfl,_,rfl,p,ns,1+(i:Int),r,rfl,SqL.of (g _ _ hP),C7,hlen,r0,fun H3 s3=>?_⟩
  have t0:=y05 (ns:=ns) (n:=1+(i:Int)) (r:=r)
  have g3:A4 H H3:=g'.trans s3
  have eG3:=s3 _ _ eG
  have tG3:=z0c.keep s3 _ _ tG
  refine⟨_,rfl,_,rfl,p,_,rfl,.inl (SqL.of (g3 _ _ hP)),rfl,z3N ns,_,rfl,?_⟩
  rw[if_pos rfl,z4V]
  by_cases hin:(1:Int)+(i:Int)∈ns
  ·rw[decide_eq_true hin]
   refine E7 (E7 ?_)
   refine⟨_,rfl,_,rfl,p,_,rfl,.inl (SqL.of (g3 _ _ hP)),rfl,z3N ns,_,rfl,?_⟩
   rw[if_pos rfl,z4V,decide_eq_true hin]
   refine E7 (E7 ⟨zs,_,_,g3,eG3,?_,rfl⟩)
   rw[z8s,if_pos hin,cU]
   exact tG3
  ·rw[decide_eq_false hin]
   refine L8 ⟨_,rfl,rfl,_,rfl,?_⟩
   refine B4 (fun c=>?_) (fun c=>?_)
   ·have c0:z0W ns (1+(i:Int)) r=0:=by
     have:=z0C c
     injection this
    refine⟨_,rfl,.inl ⟨rfl,_,SqL.of eG3⟩,_,rfl,(by show 0≤sizeLine;decide),fun t0 ht0=>⟨(by show 3≤sizeLine;decide),fun t ht=>?_⟩⟩
    have s4:=(z02 ht0 (.tup [])).trans (z02 ht (.tup [V.int (1+(i:Int)),V.int 0,V.ref t0]))
    have et:upd (upd H3 t0 (.tup [])) t (.tup [V.int (1+(i:Int)),V.int 0,V.ref t0]) t=some (.tup [V.int (1+(i:Int)),V.int 0,V.ref t0]):=z04
    have et0:upd (upd H3 t0 (.tup [])) t (.tup [V.int (1+(i:Int)),V.int 0,V.ref t0]) t0=some (.tup []):=z02 ht _ _ _ z04
    generalize upd (upd H3 t0 (.tup [])) t (.tup [V.int (1+(i:Int)),V.int 0,V.ref t0])=H4 at s4 et et0
    refine⟨lg,_,_,rfl,rfl,s4 _ _ eG3,z0n (by omega),?_⟩
    have g5:∀b u,H b=some u->upd H4 lg (.lst (zs++[V.ref t])) b=some u:=fun b u e=>by
     rw[z0e (z0o e hlg)]
     exact s4 _ _ (g3 _ _ e)
    have tg:Tell H4 (gapD ns rows r (1+(i:Int))) (.ref t):=by
     unfold gapD
     rw[if_pos c0,c0]
     exact z0w et (by show 3≤1000000;decide) (.cons (z0J _) (.cons (z0J _) (.cons (z0w et0 (by show 0≤1000000;decide) .nil) .nil)))
    have t5:z0c (upd H4 lg (.lst (zs++[V.ref t]))) (((upI 1 (i+1)).filter fun x=>!decide (x∈ns)).map (gapD ns rows r)) (zs++[V.ref t]):=by
     rw[z8s,if_neg hin,bG]
     exact z0c.over (s4 _ _ eG3) (fun _ e=>by cases e) _ _ (z0c.snoc (z0c.keep s4 _ _ tG3) tg)
    refine⟨_,rfl,_,rfl,p,_,rfl,.inl (SqL.of (g5 _ _ hP)),rfl,z3N ns,_,rfl,?_⟩
    rw[if_pos rfl,z4V,decide_eq_false hin]
    refine L8 ⟨_,rfl,_,_,rfl,rfl,_,rfl,?_⟩
    rw[c0]
    exact E7 ⟨_,_,_,g5,z04,t5,rfl⟩
   ·have c0:z0W ns (1+(i:Int)) r≠0:=fun e=>z4I c (by rw[e])
    refine⟨_,rfl,_,rfl,p,_,rfl,.inl (SqL.of (g3 _ _ hP)),rfl,z3N ns,_,rfl,?_⟩
    rw[if_pos rfl,z4V,decide_eq_false hin]
    refine L8 ⟨_,rfl,_,_,rfl,rfl,_,rfl,?_⟩
    rw[decide_eq_true (show(0:Int)<z0W ns (1+(i:Int)) r by omega)]
    refine L8 ?_
    obtain⟨v,_,av,tv⟩:=z63 (z0c.keep g3 _ _ tl) (k:=1+(i:Int)) (by omega) hn
    obtain⟨ar,xs,rfl,er,_,tp⟩:=z0s tv
    have lw:xs.length=(z15 rows (1+(i:Int))).length:=by rw[tp.length,b9]
    have w12:=y0v h12 (1+(i:Int))
    refine⟨_,rfl,.inl ⟨rfl,_,SqL.of eG3⟩,_,rfl,_,rfl,_,rfl,_,rfl,_,_,rfl,rfl,lr,us,_,_,rfl,rfl,g3.seq hR,av,ar,rfl,⟨_,SqT.of er⟩,?_⟩
    refine z2r (xs:=xs) (fun j ys H2=>H2=H3/\ys=((z1T (z15 rows (1+(i:Int)))).take j).map V.str) ⟨rfl,rfl⟩ (fun j ys H2 hj hp=>?_) (fun j y ys H2 hy hp=>?_) (fun ys H2 hp=>?_)
    ·obtain⟨rfl,rfl⟩:=hp
     refine⟨SqT.of er,z0n ?_⟩
     rw[b9,bO]
     omega
    ·obtain⟨rfl,rfl⟩:=hp
     obtain⟨pq,b,e1,rfl,e2⟩:=z46 tp j y hy
     refine⟨_,rfl,b,_,0,_,rfl,rfl,SqT.of e2,rfl,rfl,?_⟩
     have e3:(z1T (z15 rows (1+(i:Int))))[j]? = some pq.1:=by
      unfold z1T
      rw[bK,e1]
      rfl
     rw[z0x e3,bG]
     rfl
    obtain⟨rfl,rfl⟩:=hp
    have ll:(z1T (z15 rows (1+(i:Int)))).take xs.length=z1T (z15 rows (1+(i:Int))):=d9 (by unfold z1T;rw[b9];omega)
    rw[ll]
    intro D hD
    refine⟨D,_,rfl,.inl ⟨SqL.of z04,fun t0 ht0=>⟨(by show 3≤sizeLine;decide),fun t ht=>?_⟩⟩⟩
    generalize hN:(z1T (z15 rows (1+(i:Int)))).map V.str=nv at hD ht0 ht
    have s4:=(z02 hD (.lst nv)).trans ((z02 ht0 (.tup nv)).trans (z02 ht (.tup [V.int (1+(i:Int)),V.int (z0W ns (1+(i:Int)) r),V.ref t0])))
    have et:upd (upd (upd H2 D (.lst nv)) t0 (.tup nv)) t (.tup [V.int (1+(i:Int)),V.int (z0W ns (1+(i:Int)) r),V.ref t0]) t=some (.tup [V.int (1+(i:Int)),V.int (z0W ns (1+(i:Int)) r),V.ref t0]):=z04
    have et0:upd (upd (upd H2 D (.lst nv)) t0 (.tup nv)) t (.tup [V.int (1+(i:Int)),V.int (z0W ns (1+(i:Int)) r),V.ref t0]) t0=some (.tup nv):=z02 ht _ _ _ z04
    generalize upd (upd (upd H2 D (.lst nv)) t0 (.tup nv)) t (.tup [V.int (1+(i:Int)),V.int (z0W ns (1+(i:Int)) r),V.ref t0])=H4 at s4 et et0
    refine⟨lg,_,_,rfl,rfl,s4 _ _ eG3,z0n (by omega),?_⟩
    have g5:∀b u,H b=some u->upd H4 lg (.lst (zs++[V.ref t])) b=some u:=fun b u e=>by
     rw[z0e (z0o e hlg)]
     exact s4 _ _ (g3 _ _ e)
    have tg:Tell H4 (gapD ns rows r (1+(i:Int))) (.ref t):=by
     unfold gapD
     rw[if_neg c0]
     refine z0w et (by show 3≤1000000;decide) (.cons (z0J _) (.cons (z0J _) (.cons (z0w et0 ?_ ?_) .nil)))
     ·rw[b9]
      unfold z1T
      rw[b9]
      omega
     ·rw[<- hN]
      exact z36 _
    refine⟨_,_,_,g5,z04,?_,rfl⟩
    rw[z8s,if_neg hin,bG]
    exact z0c.over (s4 _ _ eG3) (fun _ e=>by cases e) _ _ (z0c.snoc (z0c.keep s4 _ _ tG3) tg)
 ·obtain⟨zs,o1,o2,g,eG,tG,rfl⟩:=hp
  rw[y4m hm' C7 topn] at tG
  exact⟨_,rfl,q lg zs H' hlg g eG tG⟩
theorem y5k(x:Str)(ns:List Str):inV (.str x) (ns.map V.str)=decide (x∈ns):=by
 unfold inV
 rw[dC,gE,gU,decide_eq_true_eq]
 constructor
 ·rintro⟨y,hy,e⟩
  have:y=x:=by simpa [eqV] using e
  exact this ▸ hy
 ·intro h
  exact⟨x,h,by simp[eqV]⟩
noncomputable def z3h(ns:List Int)(rows:List Row)(r n:Int):List Str:=if z0W ns n r=0 then [] else z1T (z15 rows n)
theorem y7x(ns:List Int)(rows:List Row)(r n:Int):gapD ns rows r n=.tup [.int n,.int (z0W ns n r),nmsD (z3h ns rows r n)]:=by
 unfold gapD z3h
 by_cases h:z0W ns n r=0
 ·rw[if_pos h,if_pos h]
  rfl
 ·rw[if_neg h,if_neg h]
noncomputable def z8n(ns:List Int)(rows:List Row)(r num:Int)(z:Str):List Int:=(z1d ns).filter fun n=>decide (num<n) && decide (z∈z3h ns rows r n)
noncomputable def y6u(ns:List Int)(rows:List Row)(r num:Int)(z:Str):DV:=.tup ((z8n ns rows r num z).map fun n=>.tup [.int n,.int (z0W ns n r)])
theorem z8J(ns:List Int)(rows:List Row)(r num:Int)(z:Str):(z8n ns rows r num z).length≤60:=cL (cI _ _) (z2O ns)
theorem z6k{H:Hp}{ns:List Int}{rows:List Row}{r:Int}{zs:List V}(h:z0c H (z7r ns rows r) zs){i:Nat}{x:V}(e:zs[i]? = some x) :
  ∃(n:Int) (a b:Addr),(z1d ns)[i]? = some n/\x=.ref a/\H a=some (.tup [.int n,.int (z0W ns n r),.ref b])/\H b=some (.tup ((z3h ns rows r n).map V.str)):=by
 obtain⟨d,e1,t⟩:=h.at i x e
 unfold z7r at e1
 rw[bK] at e1
 cases er:(z1d ns)[i]? with
 | none=>rw[er] at e1;cases e1
 | some n=>
  rw[er] at e1
  have e2:gapD ns rows r n=d:=Option.some.inj e1
  rw[y7x] at e2
  subst e2
  obtain⟨a,ys,rfl,h1,_,h2⟩:=z0s t
  obtain⟨y1,r1,rfl,t1,h3⟩:=z0j h2
  obtain⟨y2,r2,rfl,t2,h4⟩:=z0j h3
  obtain⟨y3,r3,rfl,t3,h5⟩:=z0j h4
  have:=z0X h5
  subst this
  obtain⟨b,ws,rfl,hb,_,tb⟩:=z0s t3
  rw[z1k t1,z1k t2] at h1
  rw[z5b tb] at hb
  exact⟨n,a,b,rfl,rfl,h1,hb⟩
theorem z8t{H:Hp}{ns:List Int}{rows:List Row}{r:Int}{zs:List V}(h:z0c H (z7r ns rows r) zs):zs.length=(z1d ns).length:=by
 rw[h.length]
 unfold z7r
 rw[b9]
noncomputable def y3q(K:PySem.W.Frag):Sp:=fun vs H Q _=>∃(lg:Addr) (zs:List V) (ns:List Int) (rows:List Row) (r num:Int) (z:Str),vs=[.ref lg,.int num,.str z]/\SqL K H lg zs/\z0c H (z7r ns rows r) zs/\
 ∀(v:V) (H':Hp),A4 H H'->Tell H' (y6u ns rows r num z) v->Q v H'
theorem y5p(M:Bl mg)(F:Fun K "_law_again" "_law_again" z5l f fd):A8 P w K mg base CX0 1 f fd z5J (y3q K):=by
 have nd:=z74.nd
 refine F.ok z74 (fun vs H Q E h=>?_) (fun cdv A outer s H vs Q E hr h=>?_)
 ·obtain⟨lg,zs,ns,rows,r,num,z,rfl,_⟩:=h
  rfl
 obtain⟨lg,zs,ns,rows,r,num,z,rfl,hG,tG,q⟩:=h
 refine⟨_,(z05 (z0d (z0q z0l rfl M.tuple bI (z00 (z1n ["_law_gap"] ["_law_number","_law_name"] [1,2] rfl (z0z rfl (by decide +kernel) rfl (by decide +kernel) rfl rfl) (z1v (pv 0)) (fun _ _ _ _ _=>(z0h (i:=0) (show((["_law_gap"]:List PySem.Str)++(["_law_number","_law_name"]:List PySem.Str)).Nodup from by decide +kernel) rfl (Or.inl rfl))) (z0A (by decide)) z0a (fun _ _ _ _ _=>(z2A (PW.pt (z6l (z08 z2c (z0M (r:=R6 K) z1b (pv 0) z06 (fun _ _=>rfl)) (pv 1) (z0i _)) (z40 (z08 (r:=rIn K false) z66 (pv 2) (z0M (r:=R6 K) z1b (pv 0) z06 (fun _ _=>rfl)) (by with_unfolding_all rfl))))))) (fun _ _ _ _ _=>(z0I (z00 (z0M (r:=R6 K) z1b (pv 0) z06 (fun _ _=>rfl)) (z00 (z0M (r:=R6 K) z1b (pv 0) z06 (fun _ _=>rfl)) z01))))) z01)))),?_⟩
 have lz:=z8t tG
 have l60:=z2O ns
 refine⟨_,rfl,lg,rfl,⟨_,hG⟩,?_⟩
 refine z38 (xs:=zs) (fun i ys H'=>A4 H H'/\z0c H' ((((z1d ns).take i).filter fun n=>decide (num<n) && decide (z∈z3h ns rows r n)).map fun n=>.tup [.int n,.int (z0W ns n r)]) ys) ⟨A4.refl _,by rw[cV];exact .nil⟩
  (fun i ys H' hi hp=>?_) (fun i x ys H' hx hp=>?_) (fun ys H' hp=>?_)
 ·obtain⟨g,t⟩:=hp
  refine⟨g.seq hG,z0n ?_⟩
  have:=cI (fun n=>decide (num<n) && decide (z∈z3h ns rows r n)) ((z1d ns).take i)
  rw[bO] at this
  rw[t.length,b9]
  omega
 ·obtain⟨g,t⟩:=hp
  obtain⟨n,a,b,en,rfl,ha,hb⟩:=z6k tG hx
  have sa:SqT K H' a [V.int n,V.int (z0W ns n r),V.ref b]:=SqT.of (g _ _ ha)
  have tks:=z0x en
  refine⟨_,rfl,a,_,0,_,rfl,rfl,sa,rfl,_,rfl,_,_,rfl,rfl,_,rfl,?_⟩
  rw[tks,dN,eQ]
  refine B4 (fun c=>?_) (fun c=>?_)
  ·refine⟨_,rfl,_,rfl,a,_,2,_,rfl,rfl,sa,rfl,b,_,rfl,.inr (SqT.of (g _ _ hb)),rfl,z3J _,_,rfl,?_⟩
   rw[if_neg bM,y5k,c,fW]
   refine B4 (fun c2=>?_) (fun c2=>?_)
   ·rw[if_pos c2,bG]
    refine⟨_,rfl,a,_,0,_,rfl,rfl,sa,rfl,_,rfl,a,_,1,_,rfl,rfl,sa,rfl,(by show 2≤sizeLine;decide),fun u hu=>⟨g.trans (z02 hu _),?_⟩⟩
    exact z0c.snoc (z0c.keep (z02 hu _) _ _ t) (z0w z04 (by show 2≤1000000;decide) (.cons (z0J _) (.cons (z0J _) .nil)))
   ·rw[if_neg c2,fF,cU]
    exact⟨g,t⟩
  ·rw[fJ.mpr c,gG]
   refine E7 ?_
   rw[if_neg bM,fF,cU]
   exact⟨g,t⟩
 ·obtain⟨g,t⟩:=hp
  rw[lz,bX] at t
  intro D hD
  refine⟨D,_,rfl,.inl ⟨SqL.of z04,fun l hl=>?_⟩⟩
  have s2:=(z02 hD (.lst ys)).trans (z02 hl (.tup ys))
  refine q _ _ (g.trans s2) (z0w z04 ?_ (z0c.keep s2 _ _ t))
  have:=z8J ns rows r num z
  rw[b9]
  omega
noncomputable def z49(ns:List Int)(r num:Int):List Int:=(z1d ns).filter fun n=>decide (num<n) && decide (z0W ns n r=0)
noncomputable def z2M(ns:List Int)(rows:List Row)(r num:Int)(z:Str):Str:=if 0<(z8n ns rows r num z).length then "stale" else if z49 ns r num=[] then "sure" else "open"
noncomputable def y4r(K:PySem.W.Frag):Sp:=fun vs H Q _=>∃(lg:Addr) (zs:List V) (ns:List Int) (rows:List Row) (r num:Int) (z:Str),vs=[.ref lg,.int num,.str z]/\SqL K H lg zs/\z0c H (z7r ns rows r) zs/\
 ∀H',A4 H H'->Q (.str (z2M ns rows r num z)) H'
theorem y3s(M:Bl mg)(F:Fun K "_law_state" "_law_state" z5B f fd)(O6:Cal P w K mg base 1 "_law_again" z5J (y3q K)):A8 P w K mg base CX0 2 f fd z5u (y4r K):=by
 have nd:=z7c.nd
 refine F.ok z7c (fun vs H Q E h=>?_) (fun cdv A outer s H vs Q E hr h=>?_)
 ·obtain⟨lg,zs,ns,rows,r,num,z,rfl,_⟩:=h
  rfl
 obtain⟨lg,zs,ns,rows,r,num,z,rfl,hG,tG,q⟩:=h
 refine⟨_,(z03 (z0G (z08 z2c (z0b z09 rfl M.len bH (z00 (z0k O6 (rm hr) rfl (z00 (pv 0) (z00 (pv 1) (z00 (pv 2) z01)))) z01)) z06 (z0i _)) (z05 (z0d z16)) z0g) (z03 (z0G (z08 (y7X hr.T7) (z1n ["_law_gap"] ["_law_number"] [1] rfl (z0z rfl (by decide +kernel) rfl (by decide +kernel) rfl rfl) (z1v (pv 0)) (fun _ _ _ _ _=>(z0h (i:=0) (show((["_law_gap"]:List PySem.Str)++(["_law_number"]:List PySem.Str)).Nodup from by decide +kernel) rfl (Or.inl rfl))) (z0A (by decide)) z0a (fun _ _ _ _ _=>(z2A (PW.pt (z6l (z08 z2c (z0M (r:=R6 K) z1b (pv 0) z06 (fun _ _=>rfl)) (pv 1) (z0i _)) (z40 (z08 z23 (z0M (r:=R6 K) z1b (pv 0) z06 (fun _ _=>rfl)) z06 (z0i _))))))) (fun _ _ _ _ _=>(z0M (r:=R6 K) z1b (pv 0) z06 (fun _ _=>rfl)))) (z1w z01) (z0i _)) (z05 (z0d z16)) z0g) (z05 (z0d z16)))),?_⟩
 have lz:=z8t tG
 have l60:=z2O ns
 refine⟨_,rfl,_,rfl,_,rfl,lg,zs,ns,rows,r,num,z,rfl,hG,tG,fun v H1 s1 t1=>?_⟩
 obtain⟨a,xs,rfl,ha,_,ta⟩:=z0s t1
 have lx:xs.length=(z8n ns rows r num z).length:=by rw[ta.length,b9]
 refine⟨a,xs,rfl,.inr (SqT.of ha),_,_,rfl,rfl,_,rfl,?_⟩
 rw[lx]
 refine B4 (fun c=>?_) (fun c=>?_)
 ·have c':(0:Int)<((z8n ns rows r num z).length:Int):=z0C c
  have e:z2M ns rows r num z="stale":=by
   unfold z2M
   rw[if_pos (by omega)]
  exact(by rw[<- e];exact q _ s1)
 have c':¬(0:Int)<((z8n ns rows r num z).length:Int):=z4I c
 have nx:¬0<(z8n ns rows r num z).length:=by omega
 refine⟨_,rfl,lg,rfl,⟨_,s1.seq hG⟩,?_⟩
 refine z38 (xs:=zs) (fun i ys H'=>H'=H1/\ys=(((z1d ns).take i).filter fun n=>decide (num<n) && decide (z0W ns n r=0)).map V.int) ⟨rfl,rfl⟩ (fun i ys H' hi hp=>?_) (fun i x ys H' hx hp=>?_) (fun ys H' hp=>?_)
 ·obtain⟨rfl,rfl⟩:=hp
  refine⟨s1.seq hG,z0n ?_⟩
  have:=cI (fun n=>decide (num<n) && decide (z0W ns n r=0)) ((z1d ns).take i)
  rw[bO] at this
  rw[b9]
  omega
 ·obtain⟨rfl,rfl⟩:=hp
  obtain⟨n,a2,b2,en,rfl,ha2,hb2⟩:=z6k (z0c.keep s1 _ _ tG) hx
  have sa:SqT K H' a2 [V.int n,V.int (z0W ns n r),V.ref b2]:=SqT.of ha2
  have tks:=z0x en
  refine⟨_,rfl,a2,_,0,_,rfl,rfl,sa,rfl,_,rfl,_,_,rfl,rfl,_,rfl,?_⟩
  rw[tks,dN,eQ]
  refine B4 (fun c=>?_) (fun c=>?_)
  ·refine⟨_,rfl,a2,_,1,_,rfl,rfl,sa,rfl,rfl,_,rfl,?_⟩
   rw[c,fW]
   refine B4 (fun c2=>?_) (fun c2=>?_)
   ·have c3:z0W ns n r=0:=by
     have:=z0C c2
     injection this
    rw[decide_eq_true c3,if_pos rfl,bG]
    exact⟨_,rfl,a2,_,0,_,rfl,rfl,sa,rfl,rfl,rfl⟩
   ·have c3:¬z0W ns n r=0:=fun e=>z4I c2 (by rw[e])
    rw[decide_eq_false c3,if_neg bM,fF,cU]
    exact⟨rfl,rfl⟩
  ·rw[fJ.mpr c,gG]
   refine E7 ?_
   rw[if_neg bM,fF,cU]
   exact⟨rfl,rfl⟩
 ·obtain⟨rfl,rfl⟩:=hp
  rw[lz,bX]
  have ed:((z1d ns).filter fun n=>decide (num<n) && decide (z0W ns n r=0))=z49 ns r num:=rfl
  rw[ed]
  intro D hD
  refine⟨(by show 0≤sizeLine;decide),fun e0 he0=>⟨D,e0,_,rfl,rfl,SqL.of (z02 he0 _ _ _ z04),SqL.of z04,_,rfl,?_⟩⟩
  have s2:=s1.trans ((z02 hD (.lst ((z49 ns r num).map V.int))).trans (z02 he0 (.lst [])))
  cases e:z49 ns r num with
  | nil=>
   rw[e] at s2
   refine E7 ?_
   have es:z2M ns rows r num z="sure":=by
    unfold z2M
    rw[if_neg nx,if_pos e]
   exact(by rw[<- es];exact q _ s2)
  | cons y ys=>
   rw[e] at s2
   refine L8 ?_
   have es:z2M ns rows r num z="open":=by
    unfold z2M
    rw[if_neg nx,if_neg (by rw[e];simp)]
   exact(by rw[<- es];exact q _ s2)
noncomputable def tabD(ns:List Int)(rows:List Row)(r:Int)(z:Str):DV:=.tup [.str z,.str (z2M ns rows r (z52 (z2v (z0m ns) rows z)) z),.int (z52 (z2v (z0m ns) rows z)),y5l (z2v (z0m ns) rows z)]
noncomputable def y4e(nm:List Str)(ns:List Int)(rows:List Row)(r:Int):DV:=.tup (nm.map (tabD ns rows r))
noncomputable def y3A(K:PySem.W.Frag):Sp:=fun vs H Q _=>∃(ln p lr:Addr) (nm:List Str) (ns:List Int) (us:List V) (rows:List Row) (r:Int),vs=[.ref ln,.ref p,.ref lr,.int r]/\SqL K H ln (nm.map V.str)/\nm.length≤12/\H p=some (.lst (ns.map V.int))/\ns.length<64/\ns.Nodup/\(∀x∈ns,1≤x/\x≤60)/\(∀x∈ns,x≤rows.length)/\
 SqL K H lr us/\z0c H (rows.map rowD) us/\(∀w∈rows,w.length≤12)/\0≤r/\∀(v:V) (H':Hp),A4 H H'->Tell H' (y4e nm ns rows r) v->Q v H'
theorem y5j(M:Bl mg)(F:Fun K "_law_table" "_law_table" z5H f fd)(Q6:Cal P w K mg base 2 "_law_gaps" z6T (y6C K))(Q3:Cal P w K mg base 1 "_law_held" z6x (y4E K))
  (O0:Cal P w K mg base 2 "_law_state" z5u (y4r K)):A8 P w K mg base CX0 3 f fd z5w (y3A K):=by
 have nd:=z6W.nd
 refine F.ok z6W (fun vs H Q E h=>?_) (fun cdv A outer s H vs Q E hr h=>?_)
 ·obtain⟨ln,p,lr,nm,ns,us,rows,r,rfl,_⟩:=h
  rfl
 obtain⟨ln,p,lr,nm,ns,us,rows,r,rfl,hN,n12,hP,h64,nds,C7,hup,hR,tl,h12,r0,q⟩:=h
 refine⟨_,(z03 (z0f (i:=4) nd rfl (Or.inl rfl) (z0k Q6 (rm hr) rfl (z00 (pv 1) (z00 (pv 2) (z00 (pv 3) z01))))) (z03 (z0f (i:=5) nd rfl (Or.inl rfl) (z1w z01)) (z03 (z1s cD rfl (z1v (pv 0)) (z0h (i:=6) nd rfl (Or.inl rfl)) (z03 (z0f (i:=7) nd rfl (Or.inl rfl) (z0k Q3 (rm hr) rfl (z00 (pv 1) (z00 (pv 2) (z00 (pv 6) z01))))) (z05 (z0y (z2Z bV bT bZ z0K (pv 5) (z00 (z0I (z00 (pv 6) (z00 (z0k O0 (rm hr) rfl (z00 (pv 4) (z00 (z0M z1b (pv 7) z06 (fun _ _=>rfl)) (z00 (pv 6) z01)))) (z00 (z0M z1b (pv 7) z06 (fun _ _=>rfl)) (z00 (z0M z1b (pv 7) z06 (fun _ _=>rfl)) z01))))) z01)))))) (z05 (z0d (z0q z0l rfl M.tuple bI (z00 (pv 5) z01))))))),?_⟩
 refine⟨_,rfl,_,rfl,_,rfl,p,lr,ns,us,rows,r,rfl,hP,C7,by omega,hup,hR,tl,h12,r0,fun lg gz H1 nlg s1 eG tG=>?_⟩
 refine⟨(by show 0≤sizeLine;decide),fun lt hlt=>?_⟩
 refine⟨_,rfl,ln,rfl,⟨_,(s1.trans (z02 hlt _)).seq hN⟩,z2a (K:=K) (a:=ln) (xs:=nm.map V.str) (fun i σ H'=>∃(ts:List V) (o1 o2:Option V),(∀b u,H1 b=some u->H' b=some u)/\H' lt=some (.lst ts)/\z0c H' ((nm.take i).map (tabD ns rows r)) ts/\
   σ=[some (.ref ln),some (.ref p),some (.ref lr),some (.int r),some (.ref lg),some (.ref lt),o1,o2])
  ⟨[],none,none,z02 hlt _,z04,by rw[cV];exact .nil,rfl⟩ (fun i σ H' _ ⟨_,_,_,g,_⟩=>(s1.trans g).seq hN) ?_ ?_⟩
 ·rintro i x σ H' hi ⟨ts,o1,o2,g,eT,tT,rfl⟩
  have g':A4 H1 H':=g
  obtain⟨z,hz,rfl⟩:∃z,nm[i]? = some z/\x=V.str z:=by
   rw[bK] at hi
   cases e:nm[i]? with
   | none=>rw[e] at hi;cases hi
   | some z=>rw[e] at hi;exact⟨z,rfl,(Option.some.inj hi).symm⟩
  have lts:ts.length≤12:=by
   rw[tT.length,b9,bO]
   omega
  have sg:=s1.trans g'
  refine⟨_,rfl,_,rfl,_,rfl,p,lr,ns,us,rows,z,rfl,SqL.of (sg _ _ hP),h64,nds,C7,hup,sg.seq hR,z0c.keep sg _ _ tl,fun hv H3 s3 th=>?_⟩
  obtain⟨ah,y,rfl,eh,ty⟩:=z7G th
  have sah:SqT K H3 ah [V.int (z52 (z2v (z0m ns) rows z)),y]:=SqT.of eh
  refine⟨_,rfl,.inl ⟨rfl,_,SqL.of (s3 _ _ eT)⟩,_,rfl,_,rfl,_,rfl,ah,_,0,_,rfl,rfl,sah,rfl,_,rfl,lg,gz,ns,rows,r,_,z,rfl,SqL.of (s3 _ _ (g _ _ eG)),z0c.keep (g'.trans s3) _ _ tG,fun H4 s4=>?_⟩
  have sah4:SqT K H4 ah [V.int (z52 (z2v (z0m ns) rows z)),y]:=SqT.of (s4 _ _ eh)
  refine⟨_,rfl,ah,_,0,_,rfl,rfl,sah4,rfl,_,rfl,ah,_,1,_,rfl,rfl,sah4,rfl,(by show 4≤sizeLine;decide),fun t ht=>?_⟩
  have s34:=s3.trans (s4.trans (z02 ht (.tup [V.str z,V.str (z2M ns rows r (z52 (z2v (z0m ns) rows z)) z),V.int (z52 (z2v (z0m ns) rows z)),y])))
  refine⟨lt,_,_,rfl,rfl,s34 _ _ eT,z0n (by omega),?_⟩
  refine⟨_,_,_,fun b u e=>?_,z04,?_,rfl⟩
  ·rw[z0e (z0o e hlt)]
   exact s34 _ _ (g b u e)
  ·rw[z0x hz,bG]
   refine z0c.over (s34 _ _ eT) (fun _ e=>by cases e) _ _ (z0c.snoc (z0c.keep s34 _ _ tT) (z0w z04 (by show 4≤1000000;decide) (.cons (z14 _) (.cons (z14 _) (.cons (z0J _) (.cons ?_ .nil))))))
   exact Tell.keep (s4.trans (z02 ht _)) _ _ ty
 ·rintro σ H' ⟨ts,o1,o2,g,eT,tT,rfl⟩
  rw[b9,bX] at tT
  refine⟨_,rfl,lt,ts,rfl,.inl ⟨SqL.of eT,fun l hl=>?_⟩⟩
  refine q _ _ (s1.trans (A4.trans g (z02 hl _))) (z0w z04 ?_ (z0c.keep (z02 hl _) _ _ tT))
  rw[b9]
  omega
theorem y5G{ds:List DV}{n:Nat}(h:∀d∈ds,d.deep≤n):DV.S8 ds≤n:=by
 induction ds with
 | nil=>unfold DV.S8;exact cR _
 | cons d r ih=>
  unfold DV.S8
  exact Nat.max_le.mpr ⟨h d cB,ih fun x hx=>h x (bP _ hx)⟩
theorem z7y{ds:List DV}{n:Nat}(h:∀d∈ds,d.deep≤n):(DV.tup ds).deep≤n+1:=by
 unfold DV.deep
 exact jH (y5G h)
theorem z9U(i:Int)(n:Nat):(DV.int i).deep≤n:=by unfold DV.deep;exact cR _
theorem z7E(i:Str)(n:Nat):(DV.str i).deep≤n:=by unfold DV.deep;exact cR _
theorem z8N{rows:List Row}{j:Nat}{k:Int}(h0:1≤k)(h:k≤j):z15 (rows.take j) k=z15 rows k:=by
 unfold z15
 have hk:(k-1).toNat<j:=by omega
 rw[bY,bY,List.getElem?_take,if_pos hk]
theorem y1o{rows:List Row}{j:Nat}{n r:Int}(h0:1≤n)(h:n≤j):z11 (rows.take j) n r=z11 rows n r:=by
 unfold z11 y5Q
 rw[z8N h0 h]
 have e:(z6N n r).map (y1a (rows.take j))=(z6N n r).map (y1a rows):=j6 fun k hk=>by
  unfold z6N at hk
  rw[cK,z9I] at hk
  unfold y1a
  rw[z8N (by omega) (by omega)]
 rw[e]
abbrev OfP:=Hp->Addr->List Addr->List Str->Int->List Row->Prop
structure OfOk(C:Addr)(ms:List Str)(Of:OfP):Prop where
 ins:∀{H p fp zs r rows},Of H p fp zs r rows->∃dx fs,H p=some (.ins C dx fs)/\∀m∈ms,fs.lookup m=none
 own:∀{H p fp zs r rows},Of H p fp zs r rows->∀b∈fp,∃o,H b=some o/\∀xs,o≠.tup xs
 keep:∀{H H' p fp gp zs r rows},Of H p fp zs r rows->z0D gp H H'->(∀b∈gp,b∉fp)->z6c H gp->Of H' p fp zs r rows
theorem OfOk.same{C:Addr}{ms:List Str}{Of:OfP}(O:OfOk C ms Of){H H':Hp}{p:Addr}{fp:List Addr}{zs:List Str}{r:Int}{rows:List Row}(h:Of H p fp zs r rows)(s:A4 H H'):Of H' p fp zs r rows:=
 O.keep (gp:=[]) h (.of s) (fun _ q=>by cases q) fun _ q=>by cases q
theorem OfOk.noTup{C:Addr}{ms:List Str}{Of:OfP}(O:OfOk C ms Of){H:Hp}{p:Addr}{fp:List Addr}{zs:List Str}{r:Int}{rows:List Row}(h:Of H p fp zs r rows):z6c H fp:=fun b m xs e=>by
 obtain⟨o,e1,n⟩:=O.own h b m
 rw[e1] at e
 exact n xs (Option.some.inj e)
noncomputable def z9Q(K:PySem.W.Frag)(H:Hp)(fp:List Addr)(u:V)(p:Str×Int):Prop:=∃a,u=.ref a/\(SqL K H a [.str p.1,.int p.2]\/SqT K H a [.str p.1,.int p.2])/\a∉fp
noncomputable def y3x(K:PySem.W.Frag)(H:Hp)(fp:List Addr)(v:V)(pr:Row):Prop:=∃a us,v=.ref a/\SqP K H a us/\a∉fp/\Paired (z9Q K H fp) us pr
noncomputable def z1W(zs:List Str)(pr:Row):Row:=zs.filterMap fun z=>pr.find? fun p=>decide (p.1=z)
structure GoodR(zs:List Str)(pr:Row):Prop where
 nd:(pr.map Prod.fst).Nodup
 sub:∀p∈pr,p.1∈zs
 val:∀p∈pr,0≤p.2/\p.2≤1000000
noncomputable def y1S(K:PySem.W.Frag)(C:Addr)(Of:OfP):Sp:=fun vs H Q _=>∃(x dx pn:Addr) (zs:List Str) (r:Int),vs=[.ref x,.ref pn,.int r]/\H x=some (.ins C dx [])/\dx≠x/\H dx=some (.own x)/\HdN K H pn zs/\GoodN zs/\0≤r/\r≤10/\
 ∀(fp:List Addr) (H':Hp),(∀b∈fp,b=x\/b=dx\/H b=none)->z0D [x] H H'->Of H' x fp zs r []->Q .non H'
noncomputable def z60(K:PySem.W.Frag)(Of:OfP):Sp:=fun vs H Q _=>∃(p:Addr) (v:V) (fp:List Addr) (zs:List Str) (r:Int) (rows:List Row) (pr:Row),vs=[.ref p,v]/\Of H p fp zs r rows/\y3x K H fp v pr/\GoodR zs pr/\pr.length≤12/\rows.length<60/\
 ∀(fp':List Addr) (H':Hp),(∀b∈fp',b∈fp\/H b=none)->z0D fp H H'->Of H' p fp' zs r (rows++[z1W zs pr])->Q (.int (rows.length+1)) H'
noncomputable def z9f(Of:OfP):Sp:=fun vs H Q _=>∃(p:Addr) (fp:List Addr) (zs:List Str) (r:Int) (rows:List Row),vs=[.ref p]/\Of H p fp zs r rows/\∀H',A4 H H'->Q (.int rows.length) H'
noncomputable def z24(Of:OfP):Sp:=fun vs H Q _=>∃(p:Addr) (fp:List Addr) (zs:List Str) (r:Int) (rows:List Row) (n:Int),vs=[.ref p,.int n]/\Of H p fp zs r rows/\1≤n/\n≤rows.length/\
 ∀(v:V) (H':Hp),A4 H H'->Tell H' (z11 rows n r) v->Q v H'
theorem y6D{z:Str}{zs:List Str}{pr:Row}:z1W (z::zs) pr=(match pr.find? fun p=>decide (p.1=z) with|some p=>p::z1W zs pr|none=>z1W zs pr):=by
 unfold z1W
 rw[dS]
 cases pr.find? fun p=>decide (p.1=z)<;>rfl
noncomputable def tsN(n:Int)(j:Nat):List Int:=(dnI n j).filter fun k=>decide (1≤k)
noncomputable def tsP(ss:List (List Str))(k:Int):DV:=.tup [.int k,nmsD (ss.getD (k-1).toNat [])]
noncomputable def tsD(ss:List (List Str))(r:Int):DV:=.tup ((tsN ss.length r.toNat).map (tsP ss))
theorem y72(n:Int)(j:Nat):(tsN n j).length≤j:=by
 have h:=cI (fun k=>decide (1≤k)) (dnI n j)
 rw[z9m] at h
 exact h
noncomputable def y43(K:PySem.W.Frag):Sp:=fun vs H Q _=>∃(p:Addr) (xs:List V) (ss:List (List Str)) (r:Int),vs=[.ref p,.int r]/\(SqL K H p xs\/SqT K H p xs)/\z0c H (ss.map nmsD) xs/\ss.length≤59/\(∀s∈ss,s.length≤12)/\0≤r/\r≤10/\
 ∀(v:V) (H':Hp),A4 H H'->Tell H' (tsD ss r) v->Q v H'
noncomputable def y0c:Sp:=fun vs H Q _=>∃n r:Int,vs=[.int n,.int r]/\1≤n/\n≤60/\0≤r/\r≤10/\
 ∀(l:Addr) (H':Hp),A4 H H'->H' l=some (.tup (((upI 1 60).filter fun x=>decide (x≤n) && decide (n-x≤r)).map V.int))->Q (.ref l) H'
theorem y2O{n r:Int}(h1:1≤n)(h2:n≤60)(h3:0≤r)(h4:r≤10) :
  V2 (if n-r > 1 then n-r else 1) (n+1-(if n-r > 1 then n-r else 1)).toNat=((upI 1 60).filter fun x=>decide (x≤n) && decide (n-x≤r)).map V.int:=by
 rw[y6S]
 refine congrArg (List.map V.int) (z2m (z1S _ _) ((z1S _ _).filter _) fun x=>?_)
 rw[cK,z1r,z1r,bW,decide_eq_true_eq,decide_eq_true_eq]
 split<;>omega
theorem y2x(M:Bl mg)(F:Fun K "reached_by" "reached_by" z5M f fd):A8 P w K mg base CX0 1 f fd z5K y0c:=by
 have nd:=z6Y.nd
 refine F.ok z6Y (fun vs H Q E h=>?_) (fun cdv A outer s H vs Q E hr h=>?_)
 ·obtain⟨n,r,rfl,_⟩:=h
  rfl
 obtain⟨n,r,rfl,h1,h2,h3,h4,q⟩:=h
 refine⟨_,(z05 (z0d (z0q (z8D rfl) rfl M.tuple bI (z00 (z0q y3p rfl M.range PyProof.Rows.boot_range (z00 (z0b (y39 rfl) rfl M.max fL (z00 z06 (z00 (z0t z2Q (pv 0) (pv 1)) z01))) (z00 (z0t z1G (pv 0) z06) z01))) z01)))),?_⟩
 refine⟨_,rfl,_,rfl,_,_,rfl,rfl,_,_,rfl,_,rfl,_,_,rfl,rfl,_,_,rfl,fun p hp=>?_⟩
 refine⟨p,_,_,rfl,z04,⟨?_,?_,?_,?_⟩,?_,fun l hl=>?_⟩
 ·split<;>omega
 ·split<;>omega
 ·omega
 ·omega
 ·split<;>omega
 ·refine q l _ ((z02 hp _).trans (z02 hl _)) ?_
  rw[z04,y2O h1 h2 h3 h4]
theorem z7V(hi:Int)(j:Nat):(dnI hi j).Pairwise (· > ·):=by
 unfold dnI
 rw[dR]
 exact List.pairwise_lt_range.imp fun h=>by omega
theorem z86{n:Int}{j:Nat}{x:Int}:x∈tsN n j↔1≤x/\n-j<x/\x≤n:=by
 unfold tsN
 rw[cK,z9I,decide_eq_true_eq]
 omega
theorem y6F(n:Int)(j:Nat):(tsN n j).reverse.Pairwise (· < ·):=by
 rw[fO]
 exact((z7V n j).filter _).imp fun h=>h
theorem y4a{n r:Int}(h0:0≤n)(h1:n≤59)(r0:0≤r)(r1:r≤10):((upI 1 60).filter fun x=>decide (x≤n+1) && decide (n+1-x≤r))=(tsN n r.toNat).reverse++[n+1]:=by
 refine z2m ((z1S _ _).filter _) (cX.mpr ⟨y6F _ _,eZ _ _,fun x hx y hy=>?_⟩) fun x=>?_
 ·rw[fS,z86] at hx
  rw[bB] at hy
  omega
 ·rw[cK,z1r,bW,decide_eq_true_eq,decide_eq_true_eq,bS,fS,z86,bB]
  omega
theorem y7a(M:Bl mg)(F:Fun K "tail_for" "tail_for" z8h f fd)(O5:Cal P w K mg base 1 "reached_by" z5K y0c):A8 P w K mg base CX0 2 f fd z65 (y43 K):=by
 have nd:=z8T.nd
 refine F.ok z8T (fun vs H Q E h=>?_) (fun cdv A outer s H vs Q E hr h=>?_)
 ·obtain⟨p,xs,ss,r,rfl,_⟩:=h
  rfl
 obtain⟨p,xs,ss,r,rfl,hS,tS,l60,l12,r0,r1,k⟩:=h
 refine⟨_,(z03 (z0f (i:=2) nd rfl (Or.inl rfl) (z0t z1G (z0b z09 rfl M.len bH (z00 (pv 0) z01)) z06)) (z03 (z0f (i:=3) nd rfl (Or.inl rfl) (z2p y49 (z0k O5 (rm hr) rfl (z00 (pv 2) (z00 (pv 1) z01))) z3e (z3c (y3n y0Q z06)))) (z05 (z0d (z0q z0l rfl M.tuple bI (z00 (z1n ["earlier"] ["sets"] [0] rfl (z0z rfl (by decide +kernel) rfl (by decide +kernel) rfl rfl) (y3F rfl M.reversed (z00 (pv 3) z01)) (fun _ _ _ _ _=>(z0h (i:=0) (show((["earlier"]:List PySem.Str)++(["sets"]:List PySem.Str)).Nodup from by decide +kernel) rfl (Or.inl rfl))) (z0A (by decide)) z0a (fun _ _ _ _ _=>z1Z) (fun _ _ _ _ _=>(z0I (z00 (pv 0) (z00 (z0q (z8H (K:=K) rfl) rfl M.tuple bI (z00 (z0M (r:=rIx K) y7U (pv 1) (z0t z2Q (pv 0) z06) (fun _ _=>rfl)) z01)) z01))))) z01)))))),?_⟩
 have lx:xs.length=ss.length:=by rw[tS.length,b9]
 have lx':(xs.length:Int)=ss.length:=by omega
 refine⟨_,rfl,p,xs,rfl,hS,_,_,rfl,rfl,?_⟩
 refine⟨_,rfl,_,rfl,(xs.length:Int)+1,r,rfl,by omega,by omega,r0,r1,fun l H1 s1 e1=>?_⟩
 rw[lx',y4a (by omega) (by omega) r0 r1] at e1
 have eL:(((tsN ss.length r.toNat).reverse++[(ss.length:Int)+1]).map V.int).length=(tsN ss.length r.toNat).length+1:=by
  rw[b9,bN,eV]
  rfl
 have sx:HT.sIx (((tsN ss.length r.toNat).reverse++[(ss.length:Int)+1]).map V.int).length (((tsN ss.length r.toNat).reverse++[(ss.length:Int)+1]).map V.int).length (some (-1))=(tsN ss.length r.toNat).length:=by
  rw[eL]
  show(if (-1:Int)<0 then (-1+(((tsN ss.length r.toNat).length+1:Nat):Int)).toNat else min (-1:Int).toNat ((tsN ss.length r.toNat).length+1))=_
  rw[if_pos (by decide)]
  omega
 have cut:R9 (((tsN ss.length r.toNat).reverse++[(ss.length:Int)+1]).map V.int) none (some (-1))=(tsN ss.length r.toNat).reverse.map V.int:=by
  unfold R9
  rw[sx]
  show List.take ((tsN ss.length r.toNat).length-0) (List.drop 0 _)=_
  rw[fN,hU,bG,List.take_left' (by rw[b9,eV])]
 refine⟨_,rfl,-1,rfl,l,_,rfl,SqT.of e1,?_,fun a ha=>?_⟩
 ·rintro⟨_,z⟩
  rw[sx,eL] at z
  omega
 rw[cut]
 have s2:=s1.trans (z02 ha (.tup ((tsN ss.length r.toNat).reverse.map V.int)))
 have e2:upd H1 a (.tup ((tsN ss.length r.toNat).reverse.map V.int)) a=some (.tup ((tsN ss.length r.toNat).reverse.map V.int)):=z04
 generalize upd H1 a (.tup ((tsN ss.length r.toNat).reverse.map V.int))=H2 at s2 e2
 have le:=y72 ss.length r.toNat
 have lr:((tsN ss.length r.toNat).reverse.map V.int).length=(tsN ss.length r.toNat).length:=by rw[b9,eV]
 refine⟨_,rfl,a,_,rfl,SqT.of e2,?_⟩
 refine y5i (fun i ys H'=>A4 H2 H'/\z0c H' (((tsN ss.length r.toNat).take i).map (tsP ss)) ys) ⟨A4.refl _,by rw[cV];exact .nil⟩ (fun i ys H' hi hp=>?_) (fun i x ys H' hx hp=>?_) (fun ys H' hp=>?_)
 ·obtain⟨g,t⟩:=hp
  refine⟨SqT.of (g _ _ e2),z0n ?_⟩
  rw[t.length,b9,bO]
  omega
 ·obtain⟨g,t⟩:=hp
  rw[<- List.map_reverse,fT,bK] at hx
  obtain⟨m,hm,rfl⟩:=cP.mp hx
  have hb:=z86.mp (bQ hm)
  have hk:(m-1).toNat<ss.length:=by omega
  have t2:=z0c.keep (s2.trans g) _ _ tS
  obtain⟨v,ev,tv⟩:=t2.get (m-1).toNat (nmsD (ss.getD (m-1).toNat [])) (by
   rw[bK,bY,bU hk]
   rfl)
  have av:atI xs (m-1)=some v:=by
   have e:m-1=(((m-1).toNat:Nat):Int):=by omega
   rw[e]
   exact z1O ev
  obtain⟨b,us,rfl,eb,_,_⟩:=z0s tv
  refine⟨_,rfl,_,rfl,_,rfl,_,_,rfl,rfl,?_⟩
  have go:∀(z:Tell H' (nmsD (ss.getD (m-1).toNat [])) (.ref b)),y6j K [.ref b] H' fun x H3=>[V.int m,x].length≤sizeLine/\∀q,H3 q=none->A4 H2 (upd H3 q (.tup [.int m,x]))/\z0c (upd H3 q (.tup [.int m,x])) (((tsN ss.length r.toNat).take (i+1)).map (tsP ss)) (ys++[.ref q]):=fun z=>
   ⟨b,us,rfl,.inr ⟨SqT.of eb,by show 2≤sizeLine;decide,fun q hq=>⟨g.trans (z02 hq _),by
    rw[dZ,hm,bG]
    exact z0c.snoc (z0c.keep (z02 hq _) _ _ t) (z0w z04 (by show 2≤1000000;decide) (.cons (z0J _) (.cons (Tell.keep (z02 hq _) _ _ z) .nil)))⟩⟩⟩
  rcases hS with hS|hS
  ·exact .inl ⟨p,xs,_,.ref b,rfl,rfl,(s2.trans g).seq hS,av,go tv⟩
  ·exact .inr (.inl ⟨p,xs,_,.ref b,rfl,rfl,z7C (s2.trans g) hS,av,go tv⟩)
 ·obtain⟨g,t⟩:=hp
  rw[lr,bX] at t
  intro D hD
  refine⟨D,ys,rfl,.inl ⟨SqL.of z04,fun q hq=>k _ _ (s2.trans (g.trans ((z02 hD _).trans (z02 hq _)))) (z0w z04 ?_ (z0c.keep ((z02 hD _).trans (z02 hq _)) _ _ t))⟩⟩
  rw[b9]
  omega
noncomputable def kvR(p:Str×Int):Key×V:=(Sum.inr p.1,.int p.2)
noncomputable def y1f(K:PySem.W.Frag):Sp:=fun vs H Q _=>∃(p:Addr) (zs:List Str) (z:Str),vs=[.ref p,.str z]/\SqN K H p zs/\z∈zs/\Q .non H
theorem z6q(x:Str)(ns:List Str):inV (.str x) (ns.map V.str)=decide (x∈ns):=by
 unfold inV
 rw[dC,gE,gU,decide_eq_true_eq]
 constructor
 ·rintro⟨y,hy,e⟩
  have:y=x:=by simpa [eqV] using e
  exact this ▸ hy
 ·intro h
  exact⟨x,h,by simp[eqV]⟩
theorem y6q(M:Bl mg)(F:Fun K "refuse_unknown_name" "refuse_unknown_name" z1o f fd):A8 P w K mg base CX0 1 f fd z0H (y1f K):=by
 have nd:=z1h.nd
 refine F.ok z1h (fun vs H Q E h=>?_) (fun cdv A outer s H vs Q E hr h=>?_)
 ·obtain⟨p,zs,z,rfl,_⟩:=h
  rfl
 obtain⟨p,zs,z,rfl,hp,hz,k⟩:=h
 refine⟨_,(z05 (z0G (z08 z2f (pv 1) (pv 0) (by with_unfolding_all rfl)) (z05 z1F) z0g)),?_⟩
 refine⟨_,rfl,_,rfl,p,_,rfl,hp,rfl,z3J zs,_,rfl,?_⟩
 rw[if_pos rfl,z6q,decide_eq_true hz]
 exact B4 (fun c=>absurd c (by decide)) fun _=>k
noncomputable def z5Y:Sp:=fun vs H Q _=>∃v:Int,vs=[.int v]/\0≤v/\v≤1000000/\Q .non H
theorem y0a(M:Bl mg)(F:Fun K "refuse_bad_value" "refuse_bad_value" z1R f fd):A8 P w K mg base CX0 1 f fd z18 z5Y:=by
 have nd:=z1H.nd
 refine F.ok z1H (fun vs H Q E h=>?_) (fun cdv A outer s H vs Q E hr h=>?_)
 ·obtain⟨r,rfl,_⟩:=h
  rfl
 obtain⟨r,rfl,r0,r1,k⟩:=h
 refine⟨_,(z05 (z0G (PW.pt (z3Q (z08 z6d (pv 0) z06 (z0i _)) (z2q (z08 z2c (pv 0) (z1f rfl M.MOST_VALUE) (z0i _))))) (z05 z1F) z0g)),?_⟩
 refine⟨_,rfl,_,_,rfl,rfl,_,rfl,B4 (fun q=>absurd (z0C q) (by omega)) fun _=>?_⟩
 exact⟨_,rfl,_,_,rfl,rfl,_,rfl,B4 (fun q=>absurd (z0C q) (by omega)) fun _=>k⟩
noncomputable def z21(K:PySem.W.Frag)(H:Hp)(u:V)(p:Str×Int):Prop:=∃a,u=.ref a/\(SqL K H a [.str p.1,.int p.2]\/SqT K H a [.str p.1,.int p.2])
theorem z21.keep{K:PySem.W.Frag}{H H':Hp}(s:A4 H H'):∀{us:List V}{pr:Row},Paired (z21 K H) us pr->Paired (z21 K H') us pr
 | _,_,.nil=>.nil
 | _,_,.cons ⟨a,e,h⟩ t=>.cons ⟨a,e,h.imp (fun q=>s.seq q) fun q=>z7C s q⟩ (z21.keep s t)
theorem z21.at{K:PySem.W.Frag}{H:Hp}:∀{us:List V}{pr:Row},Paired (z21 K H) us pr->∀(i:Nat) (x:V),us[i]? = some x->∃p,pr[i]? = some p/\z21 K H x p
 | _,_,.nil,i,x,e=>by simp at e
 | _,_,.cons r t,0,x,e=>by
  simp at e
  subst e
  exact⟨_,rfl,r⟩
 | _,_,.cons r t,i+1,x,e=>by
  obtain⟨y,h1,h2⟩:=z21.at t i x (by simpa using e)
  exact⟨y,by simpa using h1,h2⟩
theorem z21.pairs{K:PySem.W.Frag}{H:Hp}:∀{us:List V}{pr:Row},Paired (z21 K H) us pr->Paired (y4X K H) us (pr.map kvR)
 | _,_,.nil=>.nil
 | _,_,.cons ⟨a,e,h⟩ t=>.cons ⟨a,e,h⟩ (z21.pairs t)
theorem z21.of{K:PySem.W.Frag}{H:Hp}{fp:List Addr}:∀{us:List V}{pr:Row},Paired (z9Q K H fp) us pr->Paired (z21 K H) us pr
 | _,_,.nil=>.nil
 | _,_,.cons ⟨a,e,h,_⟩ t=>.cons ⟨a,e,h⟩ (z21.of t)
theorem SqP.or{K:PySem.W.Frag}{H:Hp}{a:Addr}{us:List V}(h:SqP K H a us):SqL K H a us\/SqT K H a us:=h.imp id SqT.of
theorem SqP.keep{K:PySem.W.Frag}{H H':Hp}{a:Addr}{us:List V}(s:A4 H H')(h:SqP K H a us):SqP K H' a us:=h.imp (fun q=>s.seq q) fun q=>s _ _ q
noncomputable def z4v(K:PySem.W.Frag):Sp:=fun vs H Q _=>∃(pn a:Addr) (zs:List Str) (us:List V) (pr:Row),vs=[.ref pn,.ref a]/\SqN K H pn zs/\SqP K H a us/\Paired (z21 K H) us pr/\GoodR zs pr/\pr.length≤12/\∀H',A4 H H'->Q .non H'
theorem z8O(M:Bl mg)(F:Fun K "refuse_bad_rows" "refuse_bad_rows" z29 f fd)(B3:Cal P w K mg base 1 "refuse_unknown_name" z0H (y1f K))
  (D1:Cal P w K mg base 1 "refuse_bad_value" z18 z5Y):A8 P w K mg base CX0 2 f fd z1e (z4v K):=by
 have nd:=z1U.nd
 refine F.ok z1U (fun vs H Q E h=>?_) (fun cdv A outer s H vs Q E hr h=>?_)
 ·obtain⟨pn,a,zs,us,pr,rfl,_⟩:=h
  rfl
 obtain⟨pn,a,zs,us,pr,rfl,hn,ha,hp,g,l12,k⟩:=h
 refine⟨_,(z03 (z5n (i:=2) ["name","value"] [] [] rfl nd rfl (Or.inl rfl) (z0z rfl (by decide +kernel) rfl (by decide +kernel) rfl rfl) (y0D (pv 1)) (fun _ _ _ _ _=>(z9y (K:=K) (n:=2) rfl rfl (z0O (z0h (i:=0) (show((["name","value"]:List PySem.Str)++([]:List PySem.Str)).Nodup from by decide +kernel) rfl (Or.inl rfl)) (z0O (z0h (i:=1) (show((["name","value"]:List PySem.Str)++([]:List PySem.Str)).Nodup from by decide +kernel) rfl (Or.inl rfl)) z3y)))) (y4J (z1p (z0A (by decide)) z0a (z1p (z0A (by decide)) z0a z5L z0R) (z0E z0a z0R))) (y2j (z0E z0a (z0E z0a z0R))) (fun _ _ _ _ _=>z1Z) (fun _ _ _ _ _=>(pv 0))) (z03 (z1s cD rfl (z1v (pv 2)) (z0h (i:=3) nd rfl (Or.inl rfl)) (z05 (z0y (z0k B3 (rm hr) rfl (z00 (pv 0) (z00 (pv 3) z01)))))) (z03 (z0G (z08 z9j (z0b z44 rfl M.len bH (z00 (z0q (z3B rfl) rfl M.set gY (z00 (pv 2) z01)) z01)) (z0b z09 rfl M.len bH (z00 (pv 2) z01)) (z0i _)) (z05 z1F) z0g) (z05 (z1s cD rfl (y0D (pv 1)) (z9y (K:=K) (n:=2) rfl rfl (z0O (z0h (i:=3) nd rfl (Or.inl rfl)) (z0O (z0h (i:=4) nd rfl (Or.inl rfl)) z3y))) (z05 (z0y (z0k D1 (rm hr) rfl (z00 (pv 4) z01))))))))),?_⟩
 obtain⟨t,ht⟩:=SqS.of (SqP.or ha)
 have lu:us.length=pr.length:=hp.length
 refine⟨_,rfl,a,t,rfl,⟨_,ht⟩,?_⟩
 refine z9Z (xs:=us) (fun i ys H'=>H'=H/\ys=((pr.take i).map Prod.fst).map V.str) ⟨rfl,rfl⟩ (fun i ys H' hi hq=>?_) (fun i x ys H' hx hq=>?_) (fun ys H' hq=>?_)
 ·obtain⟨rfl,rfl⟩:=hq
  refine⟨ht,z0n ?_⟩
  rw[b9,b9,bO]
  omega
 ·obtain⟨rfl,rfl⟩:=hq
  obtain⟨p,ep,b,rfl,hb⟩:=z21.at hp i x hx
  refine⟨b,_,rfl,hb,rfl,_,_,rfl,_,_,rfl,rfl,?_⟩
  refine⟨_,rfl,rfl,?_⟩
  rw[z0x ep,bG,bG]
  rfl
 obtain⟨rfl,rfl⟩:=hq
 rw[lu,bX]
 intro D hD
 have s1:=z02 hD (.lst ((pr.map Prod.fst).map V.str))
 have e1:upd H' D (.lst ((pr.map Prod.fst).map V.str)) D=some (.lst ((pr.map Prod.fst).map V.str)):=z04
 generalize upd H' D (.lst ((pr.map Prod.fst).map V.str))=H1 at s1 e1
 have hn1:=SqN.keep s1 hn
 have ht1:=SqS.keep s1 ht
 have hp1:=z21.keep s1 hp
 refine⟨_,rfl,D,rfl,⟨_,SqL.of e1⟩,z2a (K:=K) (a:=D) (xs:=(pr.map Prod.fst).map V.str) (fun i σ H2=>∃o:Option V,H2=H1/\σ=[some (.ref pn),some (.ref a),some (.ref D),o,none]) ⟨none,rfl,rfl⟩ (fun i σ H2 _ ⟨_,e,_⟩=>e ▸ SqL.of e1) (fun i x σ H2 hx hq=>?_) (fun σ H2 hq=>?_)⟩
 ·obtain⟨o,rfl,rfl⟩:=hq
  rw[bK] at hx
  obtain⟨z,ez,rfl⟩:=cP.mp hx
  have hz:z∈zs:=by
   obtain⟨p,hpm,rfl⟩:=cG.mp (bQ ez)
   exact g.sub p hpm
  exact⟨_,rfl,_,rfl,pn,zs,z,rfl,hn1,hz,_,rfl,rfl⟩
 obtain⟨o,rfl,rfl⟩:=hq
 have lf:(pr.map Prod.fst).length=pr.length:=b9 _
 refine⟨_,rfl,D,pr.map Prod.fst,rfl,.inl (SqL.of e1),by omega,fun l hl=>⟨l,pr.map Prod.fst,rfl,z04,by omega,_,rfl,D,_,rfl,.inl (SqL.of (z02 hl _ _ _ e1)),rfl,_,rfl,?_⟩⟩
 refine y6M (by rw[y1u g.nd,b9 (f:=V.str)]) ?_
 have s2:=s1.trans (z02 hl (Q2 P w l (pr.map Prod.fst)))
 have ht2:=SqS.keep (z02 hl (Q2 P w l (pr.map Prod.fst))) ht1
 have hp2:=z21.keep (z02 hl (Q2 P w l (pr.map Prod.fst))) hp1
 refine⟨_,rfl,a,t,rfl,⟨_,ht2⟩,?_⟩
 refine y4b (xs:=us) (fun i σ H3=>∃o1 o2:Option V,H3=upd H2 l (Q2 P w l (pr.map Prod.fst))/\σ=[some (.ref pn),some (.ref a),some (.ref D),o1,o2]) ⟨_,_,rfl,rfl⟩ (fun i σ H3 _ ⟨_,_,e,_⟩=>e ▸ ht2) (fun i x σ H3 hx hq=>?_) (fun σ H3 hq=>?_)
 ·obtain⟨o1,o2,rfl,rfl⟩:=hq
  obtain⟨p,ep,b,rfl,hb⟩:=z21.at hp2 i x hx
  have hv:=g.val p (bQ ep)
  refine⟨b,_,rfl,hb,rfl,_,_,rfl,_,_,rfl,rfl,?_⟩
  exact⟨_,rfl,p.2,rfl,hv.1,hv.2,_,_,rfl,rfl⟩
 ·obtain⟨o1,o2,rfl,rfl⟩:=hq
  exact k _ s2
noncomputable def z8f(K:PySem.W.Frag):Sp:=fun vs H Q _=>∃(pn a:Addr) (zs:List Str) (us:List V) (pr:Row),vs=[.ref pn,.ref a]/\SqN K H pn zs/\zs.length≤12/\SqP K H a us/\Paired (z21 K H) us pr/\(pr.map Prod.fst).Nodup/\pr.length≤12/\∀(v:V) (H':Hp),A4 H H'->Tell H' (rowD (z1W zs pr)) v->Q v H'
theorem z9i{z:Str}:∀{pr:Row},K9 (pr.map kvR) (Sum.inr z:Key)=(pr.find? fun p=>decide (p.1=z)).map fun p=>V.int p.2
 | []=>rfl
 | p::w=>by
  rw[cQ,dL]
  by_cases e:p.1=z
  ·rw[z6r (show(kvR p).1=Sum.inr z by unfold kvR;rw[e]),decide_eq_true e]
   rfl
  ·rw[z6j (show ¬(kvR p).1=Sum.inr z from fun q=>e (Sum.inr.inj q)),decide_eq_false e]
   exact z9i
theorem y06(zs:List Str)(z:Str)(pr:Row):z1W (zs++[z]) pr=z1W zs pr++(match pr.find? fun p=>decide (p.1=z) with|some p=>[p]|none=>[]):=by
 unfold z1W
 rw[List.filterMap_append,dS]
 cases pr.find? fun p=>decide (p.1=z)<;>rfl
theorem z5t(zs:List Str)(pr:Row):(z1W zs pr).length≤zs.length:=List.length_filterMap_le _ _
theorem y2G(M:Bl mg)(F:Fun K "rows_in_order" "rows_in_order" z3t f fd):A8 P w K mg base CX0 1 f fd z2C (z8f K):=by
 have nd:=z4z.nd
 refine F.ok z4z (fun vs H Q E h=>?_) (fun cdv A outer s H vs Q E hr h=>?_)
 ·obtain⟨pn,a,zs,us,pr,rfl,_⟩:=h
  rfl
 obtain⟨pn,a,zs,us,pr,rfl,hn,z12,ha,hp,ndr,l12,k⟩:=h
 have hu:=z8G hr
 refine⟨_,(z03 (z0f (i:=2) nd rfl (Or.inr rfl) (z0q (z3j (K:=K) rfl rfl) rfl M.dict fI (z00 (pv 1) z01))) (z05 (z0d (z0q z0l rfl M.tuple bI (z00 (z1n ["name"] ["values"] [2] rfl (z0z rfl (by decide +kernel) rfl (by decide +kernel) rfl rfl) (y0D (pv 0)) (fun _ _ _ _ _=>(z0h (i:=0) (show((["name"]:List PySem.Str)++(["values"]:List PySem.Str)).Nodup from by decide +kernel) rfl (Or.inl rfl))) (z0A (by decide)) z0a (fun _ _ _ _ _=>(z2A (z7d (y2o hu (pv 0) (pv 1))))) (fun _ _ _ _ _=>(z0I (z00 (pv 0) (z00 (z5q hu (pv 1) (pv 0) (fun _ _=>rfl)) z01))))) z01))))),?_⟩
 have lu:us.length=pr.length:=hp.length
 refine⟨_,rfl,a,us,pr.map kvR,rfl,ha,z21.pairs hp,by omega,?_,fun d hd=>?_⟩
 ·have e:(pr.map kvR).map (·.1)=(pr.map Prod.fst).map Sum.inr:=by rw[dH,dH];rfl
  rw[e,d5,dR]
  exact(d5.mp ndr).imp fun h e=>h (Sum.inr.inj e)
 have s1:=z02 hd (.dK (pr.map kvR))
 have e1:upd H d (.dK (pr.map kvR)) d=some (.dK (pr.map kvR)):=z04
 generalize upd H d (.dK (pr.map kvR))=H1 at s1 e1
 obtain⟨t,ht⟩:=SqS.of (SqN.keep s1 hn)
 refine⟨_,rfl,pn,t,rfl,⟨_,ht⟩,?_⟩
 refine z9Z (xs:=zs.map V.str) (fun i ys H'=>A4 H1 H'/\z0c H' ((z1W (zs.take i) pr).map z9p) ys) ⟨A4.refl _,by rw[cV];exact .nil⟩ (fun i ys H' hi hq=>?_) (fun i x ys H' hx hq=>?_) (fun ys H' hq=>?_)
 ·obtain⟨g,t'⟩:=hq
  refine⟨SqS.keep g ht,z0n ?_⟩
  have:=z5t (zs.take i) pr
  rw[bO] at this
  rw[t'.length,b9]
  omega
 ·obtain⟨g,t'⟩:=hq
  rw[bK] at hx
  obtain⟨z,ez,rfl⟩:=cP.mp hx
  refine⟨_,rfl,_,rfl,d,_,rfl,N8.k (k:=Sum.inr z) (g _ _ e1),_,rfl,?_⟩
  rw[z9i,z0x ez,y06]
  cases ev:pr.find? fun p=>decide (p.1=z) with
  | none=>
   refine E7 ⟨g,?_⟩
   rw[cU]
   exact t'
  | some p=>
   have ep:p.1=z:=by
    have:=List.find?_some ev
    exact of_decide_eq_true this
   refine L8 ⟨_,rfl,_,rfl,_,rfl,d,_,rfl,(show N8 _ d (kV (Sum.inr z)) (some (V.int p.2)) by rw[<- show K9 (pr.map kvR) (Sum.inr z:Key)=some (V.int p.2) by rw[z9i,ev];rfl];exact N8.k (g _ _ e1)),(by show 2≤sizeLine;decide),fun q hq=>⟨g.trans (z02 hq _),?_⟩⟩
   rw[bG]
   refine z0c.snoc (z0c.keep (z02 hq _) _ _ t') ?_
   rw[<- ep]
   exact z0w z04 (by show 2≤1000000;decide) (.cons (z14 _) (.cons (z0J _) .nil))
 ·obtain⟨g,t'⟩:=hq
  rw[b9,bX] at t'
  intro D hD
  refine⟨D,ys,rfl,.inl ⟨SqL.of z04,fun q hq=>k _ _ (s1.trans (g.trans ((z02 hD _).trans (z02 hq _)))) (z0w z04 ?_ (z0c.keep ((z02 hD _).trans (z02 hq _)) _ _ t'))⟩⟩
  have:=z5t zs pr
  rw[b9]
  omega
noncomputable def z9s:Sp:=fun vs H Q _=>∃(a:Addr) (xs:List V) (w:Row),vs=[.ref a]/\H a=some (.tup xs)/\z0c H (w.map z9p) xs/\w.length≤12/\∀(l:Addr) (H':Hp),A4 H H'->H' l=some (.tup ((z1T w).map V.str))->Q (.ref l) H'
theorem y5r(M:Bl mg)(F:Fun K "names_of_rows" "names_of_rows" z3p f fd):A8 P w K mg base CX0 1 f fd z26 z9s:=by
 have nd:=z4C.nd
 refine F.ok z4C (fun vs H Q E h=>?_) (fun cdv A outer s H vs Q E hr h=>?_)
 ·obtain⟨a,xs,w,rfl,_⟩:=h
  rfl
 obtain⟨a,xs,w,rfl,ha,tw,l12,k⟩:=h
 refine⟨_,(z05 (z0d (z0q z0l rfl M.tuple bI (z00 (z1n ["name","value"] [] [] rfl (z0z rfl (by decide +kernel) rfl (by decide +kernel) rfl rfl) (z2N (pv 0)) (fun _ _ _ _ _=>(z7K (K:=K) (n:=2) rfl rfl (z0O (z0h (i:=0) (show((["name","value"]:List PySem.Str)++([]:List PySem.Str)).Nodup from by decide +kernel) rfl (Or.inl rfl)) (z0O (z0h (i:=1) (show((["name","value"]:List PySem.Str)++([]:List PySem.Str)).Nodup from by decide +kernel) rfl (Or.inl rfl)) z3y)))) (z84 (z1p (z0A (by decide)) z0a (z1p (z0A (by decide)) z0a z5L z0R) (z0E z0a z0R))) (z5S (z0E z0a (z0E z0a z0R))) (fun _ _ _ _ _=>z1Z) (fun _ _ _ _ _=>(pv 0))) z01)))),?_⟩
 have lx:xs.length=w.length:=by rw[tw.length,b9]
 refine⟨_,rfl,a,rfl,⟨_,SqT.of ha⟩,?_⟩
 refine z2r (xs:=xs) (fun i ys H'=>H'=H/\ys=(z1T (w.take i)).map V.str) ⟨rfl,rfl⟩ (fun i ys H' hi hq=>?_) (fun i x ys H' hx hq=>?_) (fun ys H' hq=>?_)
 ·obtain⟨rfl,rfl⟩:=hq
  refine⟨SqT.of ha,z0n ?_⟩
  unfold z1T
  rw[b9,b9,bO]
  omega
 ·obtain⟨rfl,rfl⟩:=hq
  obtain⟨p,b,ep,rfl,hb⟩:=z46 tw i x hx
  refine⟨b,_,rfl,SqT.of hb,rfl,_,_,rfl,_,_,rfl,rfl,?_⟩
  refine⟨_,rfl,rfl,?_⟩
  unfold z1T
  rw[z0x ep,bG,bG]
  rfl
 ·obtain⟨rfl,rfl⟩:=hq
  rw[lx,bX]
  intro D hD
  exact⟨D,_,rfl,.inl ⟨SqL.of z04,fun q hq=>k q _ ((z02 hD _).trans (z02 hq _)) z04⟩⟩
noncomputable def OfD(K:PySem.W.Frag)(C:Addr):OfP:=fun H p fp zs r rows=>∃(dx pn pl:Addr) (fs:List (Str×V)) (xs:List V),fp=[p,dx,pl]/\H p=some (.ins C dx fs)/\H dx=some (.own p)/\H pn=some (.tup (zs.map V.str))/\H pl=some (.lst xs)/\
 fs.lookup ("names":Str)=some (V.ref pn)/\fs.lookup ("reach":Str)=some (V.int r)/\fs.lookup ("written":Str)=some (V.ref pl)/\(∀m∈(["refuse_writing","write","latest","issue"]:List Str),fs.lookup m=none)/\
 z0c H ((upI 1 rows.length).map fun n=>z11 rows n r) xs/\rows.length≤60/\(∀w∈rows,w.length≤12)/\GoodN zs/\0≤r/\r≤10
theorem ofOk{K:PySem.W.Frag}{C:Addr}:OfOk C ["write","latest","issue"] (OfD K C):=by
 refine⟨fun h=>?_,fun h b hb=>?_,fun h s out nt=>?_⟩
 ·obtain⟨dx,pn,pl,fs,xs,e,h1,h2,h3,h4,l1,l2,l3,lm,_⟩:=h
  refine⟨dx,fs,h1,fun m hm=>lm m ?_⟩
  simp only[bD,dI,or_false] at hm ⊢
  rcases hm with h|h|h<;>simp[h]
 ·obtain⟨dx,pn,pl,fs,xs,rfl,h1,h2,h3,h4,_⟩:=h
  rcases bD.mp hb with rfl|hb
  ·exact⟨_,h1,fun xs z=>by cases z⟩
  rcases bD.mp hb with rfl|hb
  ·exact⟨_,h2,fun xs z=>by cases z⟩
  rw[bB.mp hb]
  exact⟨_,h4,fun xs z=>by cases z⟩
 ·obtain⟨dx,pn,pl,fs,xs,rfl,h1,h2,h3,h4,l1,l2,l3,lm,tl,g⟩:=h
  exact⟨dx,pn,pl,fs,xs,rfl,s _ _ h1 (fun m=>out _ m (by simp)),s _ _ h2 (fun m=>out _ m (by simp)),s _ _ h3 (fun m=>nt _ m _ h3),s _ _ h4 (fun m=>out _ m (by simp)),l1,l2,l3,lm,z0c.but s nt _ _ tl,g⟩
theorem y3S{A0:Addr}(M:Bl mg)(T:TxOffice K mg A0)(F:Fun K "__init__" "Office.__init__" z2R f fd)(D8:Cal P w K mg base 2 "bulletin_names" z2k (z6H K)) :
  A8 P w K mg base CX0 3 f fd z2S (y1S K A0 (OfD K A0)):=by
 have nd:=z3M.nd
 refine F.ok z3M (fun vs H Q E h=>?_) (fun cdv A outer s H vs Q E hr h=>?_)
 ·obtain⟨x,dx,pn,zs,r,rfl,_⟩:=h
  rfl
 obtain⟨x,dx,pn,zs,r,rfl,hx,ne,hdx,hn,g,r0,r1,k⟩:=h
 refine⟨_,(z03 (z6b (pv 0) (z0k D8 (rm hr) rfl (z00 (pv 1) (z00 (pv 2) z01))) rfl) (z03 (z6b (pv 0) (pv 2) rfl) (z05 (z6b (pv 0) (z1w z01) rfl)))),?_⟩
 refine⟨_,rfl,_,rfl,pn,zs,r,rfl,hn,g,r0,r1,fun l H1 s1 e1=>?_⟩
 refine⟨_,rfl,x,A0,dx,[],rfl,s1 _ _ hx,T.cl,T.n_names,by decide,?_⟩
 have z1:=z1Q "names" (.ref l) []
 have z2:=z1Q "reach" (.int r) (K5 "names" (.ref l) [])
 have z0:([]:List (Str×V)).length=0:=rfl
 refine⟨_,rfl,_,rfl,x,A0,dx,_,rfl,z04,T.cl,T.n_reach,(by omega),?_⟩
 rw[z5A]
 refine⟨(by show 0≤sizeLine;decide),fun pd hd=>?_⟩
 have nx:x≠pd:=z0o z04 hd
 have ndd:dx≠pd:=z0o (show upd H1 x _ dx=some _ by rw[z0e ne];exact s1 _ _ hdx) hd
 have nl:l≠x:=z50 e1 (s1 _ _ hx) (fun z=>by cases z)
 have nlp:l≠pd:=z0o (show upd H1 x _ l=some _ by rw[z0e nl];exact e1) hd
 have dfr:H1 pd=none:=by rw[z0e (cS nx)] at hd;exact hd
 refine⟨_,rfl,x,A0,dx,_,rfl,(by rw[z0e nx,z04]),T.cl,T.n_written,(by omega),?_⟩
 refine k [x,dx,pd] _ (fun b hb=>?_) (fun b o e nb=>?_) ⟨dx,l,pd,_,[],rfl,z04,?_,?_,?_,?_,?_,?_,?_,.nil,by decide,fun _ q=>(nomatch q),g,r0,r1⟩
 ·simp only[bD,dI,or_false] at hb
  rcases hb with rfl|rfl|rfl
  ·exact .inl rfl
  ·exact .inr (.inl rfl)
  ·exact .inr (.inr (s1.free dfr))
 ·rw[bB] at nb
  rw[z0e nb,z0e (z0o e (s1.free dfr)),z0e nb]
  exact s1 _ _ e
 ·rw[z0e ne,z0e ndd,z0e ne]
  exact s1 _ _ hdx
 ·rw[z0e nl,z0e nlp,z0e nl]
  exact e1
 ·rw[z0e (cS nx),z04]
 ·rw[z0r,if_neg (by decide +kernel),z0r,if_neg (by decide +kernel),z0r,if_pos rfl]
 ·rw[z0r,if_neg (by decide +kernel),z0r,if_pos rfl]
 ·rw[z0r,if_pos rfl]
 ·intro m hm
  simp only[bD,dI,or_false] at hm
  rcases hm with rfl|rfl|rfl|rfl<;>rw[z0r,if_neg (by decide +kernel),z0r,if_neg (by decide +kernel),z0r,if_neg (by decide +kernel)]<;>rfl
theorem y11{A0:Addr}(M:Bl mg)(T:TxOffice K mg A0)(F:Fun K "latest" "Office.latest" z3z f fd):A8 P w K mg base CX0 1 f fd z3s (z9f (OfD K A0)):=by
 have nd:=z4D.nd
 refine F.ok z4D (fun vs H Q E h=>?_) (fun cdv A outer s H vs Q E hr h=>?_)
 ·obtain⟨p,fp,zs,r,rows,rfl,_⟩:=h
  rfl
 obtain⟨p,fp,zs,r,rows,rfl,of,k⟩:=h
 refine⟨_,(z05 (z0d (z0b z09 rfl M.len bH (z00 (z0u (pv 0) rfl) z01)))),?_⟩
 obtain⟨dx,pn,pl,fs,xs,rfl,h1,h2,h3,h4,l1,l2,l3,lm,tl,r60,w12,g,r0,r1⟩:=of
 have lx:xs.length=rows.length:=by rw[tl.length,b9,z0T]
 refine⟨_,rfl,p,A0,dx,fs,_,rfl,h1,T.cl,T.n_written,l3,pl,xs,rfl,.inl (SqL.of h4),?_⟩
 rw[lx]
 exact k H (A4.refl _)
theorem z8Q{A0:Addr}(M:Bl mg)(T:TxOffice K mg A0)(F:Fun K "issue" "Office.issue" z2W f fd):A8 P w K mg base CX0 1 f fd z0P (z24 (OfD K A0)):=by
 have nd:=z2F.nd
 refine F.ok z2F (fun vs H Q E h=>?_) (fun cdv A outer s H vs Q E hr h=>?_)
 ·obtain⟨p,fp,zs,r,rows,n,rfl,_⟩:=h
  rfl
 obtain⟨p,fp,zs,r,rows,n,rfl,of,n1,n2,k⟩:=h
 refine⟨_,(z03 (z0G (PW.pt (z3Q (z08 z6d (pv 1) z06 (z0i _)) (z2q (z08 z2c (pv 1) (z0b z09 rfl M.len bH (z00 (z0u (pv 0) rfl) z01)) (z0i _))))) (z05 z1F) z0g) (z05 (z0d (z0M z0N (z0u (pv 0) rfl) (z0t z2Q (pv 1) z06) (fun _ _=>rfl))))),?_⟩
 obtain⟨dx,pn,pl,fs,xs,rfl,h1,h2,h3,h4,l1,l2,l3,lm,tl,r60,w12,g,r0,r1⟩:=of
 have lx:xs.length=rows.length:=by rw[tl.length,b9,z0T]
 refine⟨_,rfl,_,_,rfl,rfl,_,rfl,B4 (fun q=>absurd (z0C q) (by omega)) fun _=>?_⟩
 refine⟨_,rfl,_,rfl,p,A0,dx,fs,_,rfl,h1,T.cl,T.n_written,l3,pl,xs,rfl,.inl (SqL.of h4),_,_,rfl,rfl,_,rfl,B4 (fun q=>absurd (z0C q) (by omega)) fun _=>?_⟩
 have hk:(n-1).toNat<rows.length:=by omega
 obtain⟨v,ev,tv⟩:=tl.get (n-1).toNat (z11 rows n r) (by
  unfold upI
  rw[bK,bK,List.getElem?_range hk]
  show some (z11 rows (1+((n-1).toNat:Int)) r)=_
  rw[show(1:Int)+((n-1).toNat:Int)=n by omega])
 have av:atI xs (n-1)=some v:=by
  rw[show n-1=(((n-1).toNat:Nat):Int) by omega]
  exact z1O ev
 exact⟨_,rfl,p,A0,dx,fs,_,rfl,h1,T.cl,T.n_written,l3,_,rfl,_,_,rfl,rfl,pl,xs,_,v,rfl,rfl,SqL.of h4,av,k v H (A4.refl _) tv⟩
noncomputable def z2K(K:PySem.W.Frag)(Of:OfP):Sp:=fun vs H Q _=>∃(p a:Addr) (fp:List Addr) (zs:List Str) (r:Int) (rows:List Row) (us:List V) (pr:Row),vs=[.ref p,.ref a]/\Of H p fp zs r rows/\SqP K H a us/\Paired (z21 K H) us pr/\GoodR zs pr/\pr.length≤12/\rows.length<60/\∀H',A4 H H'->Q .non H'
theorem z8K{A0:Addr}(M:Bl mg)(T:TxOffice K mg A0)(F:Fun K "refuse_writing" "Office.refuse_writing" z19 f fd)(D4:Cal P w K mg base 2 "refuse_bad_rows" z1e (z4v K)) :
  A8 P w K mg base CX0 3 f fd z0B (z2K K (OfD K A0)):=by
 have nd:=z13.nd
 refine F.ok z13 (fun vs H Q E h=>?_) (fun cdv A outer s H vs Q E hr h=>?_)
 ·obtain⟨p,a,fp,zs,r,rows,us,pr,rfl,_⟩:=h
  rfl
 obtain⟨p,a,fp,zs,r,rows,us,pr,rfl,of,ha,hp,g',l12,l60,k⟩:=h
 refine⟨_,(z03 (z0G (z08 y41 (z0b z09 rfl M.len bH (z00 (z0u (pv 0) rfl) z01)) (z1f rfl M.MOST_NUMBERS) (z0i _)) (z05 z1F) z0g) (z05 (z0y (z0k D4 (rm hr) rfl (z00 (z0u (pv 0) rfl) (z00 (pv 1) z01)))))),?_⟩
 obtain⟨dx,pn,pl,fs,xs,rfl,h1,h2,h3,h4,l1,l2,l3,lm,tl,r60,w12,g,r0,r1⟩:=of
 have lx:xs.length=rows.length:=by rw[tl.length,b9,z0T]
 refine⟨_,rfl,p,A0,dx,fs,_,rfl,h1,T.cl,T.n_written,l3,pl,xs,rfl,.inl (SqL.of h4),_,_,rfl,rfl,_,rfl,B4 (fun q=>absurd (z0C q) (by omega)) fun _=>?_⟩
 exact⟨_,rfl,p,A0,dx,fs,_,rfl,h1,T.cl,T.n_names,l1,_,rfl,pn,a,zs,us,pr,rfl,.inr (SqT.of h3),ha,hp,g',l12,fun H' s=>k H' s⟩
theorem y1m(rows:List Row)(x:Row){n r:Int}(n1:1≤n)(n2:n≤rows.length):z11 (rows++[x]) n r=z11 rows n r:=by
 have e:=y1o (rows:=rows++[x]) (j:=rows.length) (r:=r) n1 n2
 rw[List.take_left] at e
 exact e.symm
theorem y35(m:Nat)(r:Int)(r0:0≤r):z6N ((m:Int)+1) r=tsN m r.toNat:=by
 have w15:∀{l1 l2:List Int},l1.Pairwise (· > ·)->l2.Pairwise (· > ·)->(∀x,x∈l1↔x∈l2)->l1=l2:=fun {l1 l2} p1 p2 h=>by
  have e:=z2m (l1:=l1.reverse) (l2:=l2.reverse) (fO.mpr p1) (fO.mpr p2) fun x=>by rw[fS,fS];exact h x
  have e2:=congrArg List.reverse e
  rw[fT,fT] at e2
  exact e2
 refine w15 ((z7V _ _).filter _) ((z7V _ _).filter _) fun x=>?_
 rw[z86]
 unfold z6N
 rw[cK,z9I,decide_eq_true_eq]
 omega
theorem y3b(rows:List Row)(x:Row)(r:Int)(r0:0≤r):y5Q (rows++[x]) ((rows.length:Int)+1) r=tsD (rows.map z1T) r:=by
 unfold y5Q tsD
 rw[y35 _ _ r0,b9]
 congr 1
 refine j6 fun k hk=>?_
 have hk:=z86.mp hk
 unfold y1a tsP z15
 have h1:(k-1).toNat<rows.length:=by omega
 rw[bY,bY,dO h1,bK,bU h1]
 rfl
theorem z8W{A0:Addr}(M:Bl mg)(T:TxOffice K mg A0)(F:Fun K "write" "Office.write" z30 f fd)(A9:C5 P w K mg base 3 A0 "refuse_writing" z0B (z2K K (OfD K A0)))
  (C2:Cal P w K mg base 1 "names_of_rows" z26 z9s) (D5:Cal P w K mg base 1 "rows_in_order" z2C (z8f K)) (J0:Cal P w K mg base 2 "tail_for" z65 (y43 K)) :
  A8 P w K mg base CX0 4 f fd z2o (z60 K (OfD K A0)):=by
 have nd:=z2D.nd
 refine F.ok z2D (fun vs H Q E h=>?_) (fun cdv A outer s H vs Q E hr h=>?_)
 ·obtain⟨p,v,fp,zs,r,rows,pr,rfl,_⟩:=h
  rfl
 obtain⟨p,v,fp,zs,r,rows,pr,rfl,of,⟨a,us,rfl,ha,na,hp⟩,gr,l12,l60,k⟩:=h
 refine⟨_,(z03 (z0y (z1z A9 (rm hr) (pv 0) (z00 (pv 1) z01))) (z03 (z0f (i:=2) nd rfl (Or.inl rfl) (z0t z1G (z0b z09 rfl M.len bH (z00 (z0u (pv 0) rfl) z01)) z06)) (z03 (z5n (i:=3) ["issue"] [] [] rfl nd rfl (Or.inl rfl) (z0z rfl (by decide +kernel) rfl (by decide +kernel) rfl rfl) (z1v (z0u (pv 0) rfl)) (fun _ _ _ _ _=>(z0h (i:=0) (show((["issue"]:List PySem.Str)++([]:List PySem.Str)).Nodup from by decide +kernel) rfl (Or.inl rfl))) (z0A (by decide)) z0a (fun _ _ _ _ _=>z1Z) (fun _ _ _ _ _=>(z0k C2 (rm hr) rfl (z00 (z0M (r:=R6 K) z1b (pv 0) z06 (fun _ _=>rfl)) z01)))) (z03 (z0y (z2Z bV bT bZ z0K (z0u (pv 0) rfl) (z00 (z0I (z00 (pv 2) (z00 (z0k D5 (rm hr) rfl (z00 (z0u (pv 0) rfl) (z00 (pv 1) z01))) (z00 (z0k J0 (rm hr) rfl (z00 (pv 3) (z00 (z0u (pv 0) rfl) z01))) z01)))) z01))) (z05 (z0d (pv 2))))))),?_⟩
 have hp':=z21.of hp
 obtain⟨dx,pn,pl,fs,xs,rfl,h1,h2,h3,h4,l1,l2,l3,lm,tl,r60,w12,g,r0,r1⟩:=id of
 have lx:xs.length=rows.length:=by rw[tl.length,b9,z0T]
 refine⟨_,rfl,p,dx,fs,rfl,h1,lm _ (by simp),_,rfl,p,a,_,zs,r,rows,us,pr,rfl,of,ha,hp',gr,l12,l60,fun H1 s1=>?_⟩
 refine⟨_,rfl,p,A0,dx,fs,_,rfl,s1 _ _ h1,T.cl,T.n_written,l3,pl,xs,rfl,.inl (SqL.of (s1 _ _ h4)),_,_,rfl,rfl,?_⟩
 refine⟨_,rfl,p,A0,dx,fs,_,rfl,s1 _ _ h1,T.cl,T.n_written,l3,pl,rfl,⟨_,SqL.of (s1 _ _ h4)⟩,?_⟩
 refine z38 (xs:=xs) (fun i ys H'=>A4 H1 H'/\z0c H' (((rows.take i).map z1T).map nmsD) ys) ⟨A4.refl _,by rw[cV];exact .nil⟩ (fun i ys H' hi hq=>?_) (fun i x ys H' hx hq=>?_) (fun ys H' hq=>?_)
 ·obtain⟨gg,t⟩:=hq
  refine⟨SqL.of (gg _ _ (s1 _ _ h4)),z0n ?_⟩
  rw[t.length,b9,b9,bO]
  omega
 ·obtain⟨gg,t⟩:=hq
  have hi:i<rows.length:=by
   have:=(cJ.mp hx).1
   omega
  obtain⟨d,ed,td⟩:=tl.at i x hx
  unfold upI at ed
  rw[bK,bK,List.getElem?_range hi] at ed
  have ed':z11 rows (1+(i:Int)) r=d:=Option.some.inj ed
  subst ed'
  have ew:z15 rows (1+(i:Int))=rows[i]:=by
   unfold z15
   rw[show(1+(i:Int)-1).toNat=i by omega,bY,bU hi]
   rfl
  obtain⟨b,bs,rfl,eb,_,tb⟩:=z0s td
  obtain⟨x0,ur,rfl,t0,tb⟩:=z0j tb
  obtain⟨x1,ur,rfl,t1,tb⟩:=z0j tb
  rw[ew] at t1
  obtain⟨c,cs,rfl,ec,_,tc⟩:=z0s t1
  refine⟨_,rfl,b,_,_,_,rfl,rfl,SqT.of (gg _ _ (s1 _ _ eb)),z1O rfl,c,cs,rows[i],rfl,gg _ _ (s1 _ _ ec),z0c.keep (s1.trans gg) _ _ tc,w12 _ (gT hi),fun l H2 s2 e2=>⟨gg.trans s2,?_⟩⟩
  rw[z0x (bU hi),bG,bG]
  refine z0c.snoc (z0c.keep s2 _ _ t) (z0w e2 ?_ (z36 _))
  have:=w12 _ (gT hi)
  unfold z1T
  rw[b9,b9]
  omega
 obtain⟨gg,t⟩:=hq
 rw[lx,bX] at t
 intro D hD
 have s2:=s1.trans (gg.trans (z02 hD (.lst ys)))
 have eD:upd H' D (.lst ys) D=some (.lst ys):=z04
 have t2:=z0c.keep (z02 hD (.lst ys)) _ _ t
 generalize upd H' D (.lst ys)=H2 at s2 eD t2
 have l60':((rows.map z1T)).length≤59:=by rw[b9];omega
 refine⟨_,rfl,p,A0,dx,fs,_,rfl,s2 _ _ h1,T.cl,T.n_written,l3,.inl ⟨rfl,_,SqL.of (s2 _ _ h4)⟩,?_⟩
 refine⟨_,rfl,_,rfl,p,A0,dx,fs,_,rfl,s2 _ _ h1,T.cl,T.n_names,l1,_,rfl,pn,a,zs,us,pr,rfl,.inr (SqT.of (s2 _ _ h3)),g.hi,SqP.keep s2 ha,z21.keep s2 hp',gr.nd,l12,fun v1 H3 s3 tv1=>?_⟩
 have s23:=s2.trans s3
 refine⟨_,rfl,_,rfl,p,A0,dx,fs,_,rfl,s23 _ _ h1,T.cl,T.n_reach,l2,D,ys,rows.map z1T,r,rfl,.inl (SqL.of (s3 _ _ eD)),z0c.keep s3 _ _ t2,l60',?_,r0,r1,fun v2 H4 s4 tv2=>?_⟩
 ·intro w' hw'
  obtain⟨w0,hw0,rfl⟩:=cG.mp hw'
  have:=w12 w0 hw0
  unfold z1T
  rw[b9]
  exact this
 refine⟨(by show 3≤sizeLine;decide),fun q hq=>?_⟩
 have s24:=s23.trans (s4.trans (z02 hq (.tup [V.int ((xs.length:Int)+1),v1,v2])))
 have eq':upd H4 q (.tup [V.int ((xs.length:Int)+1),v1,v2]) q=some (.tup [V.int ((xs.length:Int)+1),v1,v2]):=z04
 have tv1':=Tell.keep (s4.trans (z02 hq (.tup [V.int ((xs.length:Int)+1),v1,v2]))) _ _ tv1
 have tv2':=Tell.keep (z02 hq (.tup [V.int ((xs.length:Int)+1),v1,v2])) _ _ tv2
 generalize upd H4 q (.tup [V.int ((xs.length:Int)+1),v1,v2])=H5 at s24 eq' tv1' tv2'
 refine⟨pl,xs,.ref q,rfl,rfl,s24 _ _ h4,z0n (by omega),?_⟩
 refine⟨_,rfl,?_⟩
 have np:p≠pl:=z50 h1 h4 (fun z=>by cases z)
 have nx:dx≠pl:=z50 h2 h4 (fun z=>by cases z)
 have nn:pn≠pl:=z50 h3 h4 (fun z=>by cases z)
 have h5:=s24 _ _ h4
 have e:=k [p,dx,pl] (upd H5 pl (.lst (xs++[.ref q]))) (fun b hb=>.inl hb) (fun b o e nb=>by rw[z0e (fun z=>nb (by rw[z];simp))];exact s24 _ _ e)
  ⟨dx,pn,pl,fs,_,rfl,by rw[z0e np];exact s24 _ _ h1,by rw[z0e nx];exact s24 _ _ h2,by rw[z0e nn];exact s24 _ _ h3,z04,l1,l2,l3,lm,?_,?_,?_,g,r0,r1⟩
 ·rw[<- lx] at e
  exact e
 ·refine z0c.over h5 (fun _ z=>by cases z) _ _ ?_
  rw[bN,dA,z7A,bG]
  have e1:(upI 1 rows.length).map (fun n=>z11 (rows++[z1W zs pr]) n r)=(upI 1 rows.length).map fun n=>z11 rows n r:=j6 fun n hn=>by
   have:=z1r.mp hn
   exact y1m rows _ (by omega) (by omega)
  rw[e1]
  refine z0c.snoc (z0c.keep s24 _ _ tl) ?_
  have en:(1:Int)+(rows.length:Int)=(rows.length:Int)+1:=by omega
  have er:z15 (rows++[z1W zs pr]) ((rows.length:Int)+1)=z1W zs pr:=by
   unfold z15
   rw[show((rows.length:Int)+1-1).toNat=rows.length by omega,bY,List.getElem?_concat_length]
   rfl
  show Tell H5 (z11 (rows++[z1W zs pr]) (1+(rows.length:Int)) r) (.ref q)
  unfold z11
  rw[en,er,y3b rows _ r r0]
  rw[lx] at eq'
  exact z0w eq' (by show 3≤1000000;decide) (.cons (z0J _) (.cons tv1' (.cons tv2' .nil)))
 ·rw[bN,dA]
  omega
 ·intro w' hw'
  rcases bS.mp hw' with hw'|hw'
  ·exact w12 w' hw'
  ·rw[bB] at hw'
   rw[hw']
   exact cL (z5t zs pr) g.hi
abbrev Deed:=Option Int×Int
noncomputable def z3w:Deed->List V
 | (none,n)=>[.str "write",.int n]
 | (some r,n)=>[.str "deliver",.int r,.int n]
noncomputable def z54(H:Hp)(u:V)(d:Deed):Prop:=∃b,u=.ref b/\H b=some (.tup (z3w d))
theorem z2j{H:Hp}{us:List V}{log:List Deed}(h:Paired (z54 H) us log):us.length=log.length:=by
 induction h with
 | nil=>rfl
 | cons _ _ ih=>rw[c9,c9,ih]
noncomputable def gotL(log:List Deed)(rd:Int):List Int:=log.foldl (fun acc d=>if d.1=some rd then addN acc d.2 else acc) []
theorem y4A(log:List Deed)(d:Deed)(rd:Int):gotL (log++[d]) rd=if d.1=some rd then addN (gotL log rd) d.2 else gotL log rd:=by
 unfold gotL
 rw[gK]
 rfl
abbrev BkP:=Hp->Addr->List Addr->List Str->Int->Int->List Row->List Deed->Prop
structure BkOk(C:Addr)(ms:List Str)(Bk:BkP):Prop where
 ins:∀{H p fp zs r k rows log},Bk H p fp zs r k rows log->∃dx fs,H p=some (.ins C dx fs)/\∀m∈ms,fs.lookup m=none
 own:∀{H p fp zs r k rows log},Bk H p fp zs r k rows log->∀b∈fp,∃o,H b=some o/\∀xs,o≠.tup xs
 keep:∀{H H' p fp gp zs r k rows log},Bk H p fp zs r k rows log->z0D gp H H'->(∀b∈gp,b∉fp)->z6c H gp->Bk H' p fp zs r k rows log
theorem BkOk.same{C:Addr}{ms:List Str}{Bk:BkP}(O:BkOk C ms Bk){H H':Hp}{p:Addr}{fp:List Addr}{zs:List Str}{r k:Int}{rows:List Row}{log:List Deed}(h:Bk H p fp zs r k rows log)(s:A4 H H'):Bk H' p fp zs r k rows log:=
 O.keep (gp:=[]) h (.of s) (fun _ q=>by cases q) fun _ q=>by cases q
theorem BkOk.noTup{C:Addr}{ms:List Str}{Bk:BkP}(O:BkOk C ms Bk){H:Hp}{p:Addr}{fp:List Addr}{zs:List Str}{r k:Int}{rows:List Row}{log:List Deed}(h:Bk H p fp zs r k rows log):z6c H fp:=fun b m xs e=>by
 obtain⟨o,e1,n⟩:=O.own h b m
 rw[e1] at e
 exact n xs (Option.some.inj e)
noncomputable def y2m(K:PySem.W.Frag)(C:Addr)(Bk:BkP):Sp:=fun vs H Q _=>∃(x dx pn:Addr) (zs:List Str) (r k:Int),vs=[.ref x,.ref pn,.int r,.int k]/\H x=some (.ins C dx [])/\dx≠x/\H dx=some (.own x)/\HdN K H pn zs/\GoodN zs/\0≤r/\r≤10/\1≤k/\k≤10/\
 ∀(fp:List Addr) (H':Hp),(∀b∈fp,b=x\/b=dx\/H b=none)->z0D [x] H H'->Bk H' x fp zs r k [] []->Q .non H'
noncomputable def z8r(K:PySem.W.Frag)(Bk:BkP):Sp:=fun vs H Q _=>∃(p:Addr) (v:V) (fp:List Addr) (zs:List Str) (r k:Int) (rows:List Row) (log:List Deed) (pr:Row),vs=[.ref p,v]/\Bk H p fp zs r k rows log/\y3x K H fp v pr/\GoodR zs pr/\pr.length≤12/\rows.length<60/\log.length<400/\
 ∀(fp':List Addr) (H':Hp),(∀b∈fp',b∈fp\/H b=none)->z0D fp H H'->Bk H' p fp' zs r k (rows++[z1W zs pr]) (log++[(none,(rows.length:Int)+1)])->Q (.int (rows.length+1)) H'
noncomputable def z5I(Bk:BkP):Sp:=fun vs H Q _=>∃(p:Addr) (fp:List Addr) (zs:List Str) (r k:Int) (rows:List Row) (log:List Deed) (rd n:Int),vs=[.ref p,.int rd,.int n]/\Bk H p fp zs r k rows log/\1≤rd/\rd≤k/\1≤n/\n≤rows.length/\log.length<400/\
 ∀(H':Hp),z0D fp H H'->Bk H' p fp zs r k rows (log++[(some rd,n)])->Q (.bl (decide (((some rd,n):Deed)∉log))) H'
noncomputable def y0d(Bk:BkP):Sp:=fun vs H Q _=>∃(p:Addr) (fp:List Addr) (zs:List Str) (r k:Int) (rows:List Row) (log:List Deed),vs=[.ref p]/\Bk H p fp zs r k rows log/\Q (.int log.length) H
noncomputable def dedV:Option Nat->V
 | none=>.non
 | some d=>.int d
noncomputable def z3I(Bk:BkP)(Sh:ShP):Sp:=fun vs H Q _=>∃(p:Addr) (fp:List Addr) (zs:List Str) (r k:Int) (rows:List Row) (log:List Deed) (rd:Int) (o:Option Nat),vs=[.ref p,.int rd,dedV o]/\Bk H p fp zs r k rows log/\1≤rd/\rd≤k/\(∀d,o=some d->d≤log.length)/\
 ∀(x:Addr) (fq:List Addr) (H':Hp),(∀b∈fq,H b=none)->A4 H H'->Sh H' x fq zs r (fun n=>z11 rows n r) (gotL (log.take (o.getD log.length)) rd)->Q (.ref x) H'
theorem DeedsAt.but{fp:List Addr}{H H':Hp}{us:List V}{log:List Deed}(s:z0D fp H H')(n:z6c H fp)(h:Paired (z54 H) us log):Paired (z54 H') us log:=
 L2.Paired.X9 h fun u d ⟨b,e,q⟩=>⟨b,e,s _ _ q fun m=>n b m _ q⟩
structure BkIn(K:PySem.W.Frag)(CB CO:Addr)(H:Hp)(p dx po pd:Addr)(fs:List (Str×V))(fo:List Addr)(us:List V)(zs:List Str)(r k:Int)(rows:List Row)(log:List Deed):Prop where
 hp:H p=some (.ins CB dx fs)
 hdx:H dx=some (.own p)
 of:OfD K CO H po fo zs r rows
 hd:H pd=some (.lst us)
 ds:Paired (z54 H) us log
 npo:p∉fo
 ndo:dx∉fo
 ndn:pd∉fo
 lo:fs.lookup ("office":Str)=some (V.ref po)
 lr:fs.lookup ("readers":Str)=some (V.int k)
 ld:fs.lookup ("done":Str)=some (V.ref pd)
 lm:∀m∈(["refuse_unknown_reader","refuse_further_deed","write","deliver","latest","issue","deeds","deed","shelf"]:List Str),fs.lookup m=none
 l4:log.length≤400
 in1:∀d∈log,1≤d.2/\d.2≤rows.length
 k1:1≤k
 k10:k≤10
noncomputable def BkD(K:PySem.W.Frag)(CB CO:Addr):BkP:=fun H p fp zs r k rows log=>∃(dx po pd:Addr) (fs:List (Str×V)) (fo:List Addr) (us:List V),fp=p::dx::pd::fo/\BkIn K CB CO H p dx po pd fs fo us zs r k rows log
theorem bkOk{K:PySem.W.Frag}{CB CO:Addr}:BkOk CB ["write","deliver","latest","issue","deeds","deed","shelf"] (BkD K CB CO):=by
 refine⟨fun h=>?_,fun h b hb=>?_,fun h s out nt=>?_⟩
 ·obtain⟨dx,po,pd,fs,fo,us,rfl,B⟩:=h
  refine⟨dx,fs,B.hp,fun m hm=>B.lm m ?_⟩
  exact bP _ (bP _ hm)
 ·obtain⟨dx,po,pd,fs,fo,us,rfl,B⟩:=h
  rcases bD.mp hb with rfl|hb
  ·exact⟨_,B.hp,fun xs z=>by cases z⟩
  rcases bD.mp hb with rfl|hb
  ·exact⟨_,B.hdx,fun xs z=>by cases z⟩
  rcases bD.mp hb with rfl|hb
  ·exact⟨_,B.hd,fun xs z=>by cases z⟩
  exact ofOk.own B.of b hb
 ·obtain⟨dx,po,pd,fs,fo,us,rfl,B⟩:=h
  exact⟨dx,po,pd,fs,fo,us,rfl,{ B with
   hp:=s _ _ B.hp fun m=>out _ m (by simp)
   hdx:=s _ _ B.hdx fun m=>out _ m (by simp)
   of:=ofOk.keep B.of s (fun b m z=>out b m (by simp[z])) nt
   hd:=s _ _ B.hd fun m=>out _ m (by simp)
   ds:=DeedsAt.but s nt B.ds }⟩
noncomputable def z72:Sp:=fun vs H Q _=>∃k:Int,vs=[.int k]/\1≤k/\k≤10/\Q .non H
theorem z9N(M:Bl mg)(F:Fun K "refuse_bad_readers" "refuse_bad_readers" z2e f fd):A8 P w K mg base CX0 1 f fd z2b z72:=by
 have nd:=z2V.nd
 refine F.ok z2V (fun vs H Q E h=>?_) (fun cdv A outer s H vs Q E hr h=>?_)
 ·obtain⟨r,rfl,_⟩:=h
  rfl
 ·obtain⟨r,rfl,r0,r1,k⟩:=h
  refine⟨_,(z05 (z0G (PW.pt (z3Q (z08 z6d (pv 0) z06 (z0i _)) (z2q (z08 z2c (pv 0) (z1f rfl M.MOST_READERS) (z0i _))))) (z05 z1F) z0g)),?_⟩
  refine⟨_,rfl,_,_,rfl,rfl,_,rfl,B4 (fun q=>absurd (z0C q) (by omega)) fun _=>?_⟩
  exact⟨_,rfl,_,_,rfl,rfl,_,rfl,B4 (fun q=>absurd (z0C q) (by omega)) fun _=>k⟩
noncomputable def z1N(Bk:BkP):Sp:=fun vs H Q _=>∃(p:Addr) (fp:List Addr) (zs:List Str) (r k:Int) (rows:List Row) (log:List Deed) (rd:Int),vs=[.ref p,.int rd]/\Bk H p fp zs r k rows log/\1≤rd/\rd≤k/\Q .non H
theorem z6Z{A2 A0:Addr}(M:Bl mg)(T:TxBook K mg A2)(F:Fun K "refuse_unknown_reader" "Book.refuse_unknown_reader" z0Q f fd):A8 P w K mg base CX0 1 f fd z0p (z1N (BkD K A2 A0)):=by
 have nd:=z0L.nd
 refine F.ok z0L (fun vs H Q E h=>?_) (fun cdv A outer s H vs Q E hr h=>?_)
 ·obtain⟨p,fp,zs,r,k,rows,log,rd,rfl,_⟩:=h
  rfl
 obtain⟨p,fp,zs,r,k,rows,log,rd,rfl,⟨dx,po,pd,fs,fo,us,rfl,B⟩,r1,r2,q⟩:=h
 refine⟨_,(z05 (z0G (PW.pt (z3Q (z08 z6d (pv 1) z06 (z0i _)) (z2q (z08 z2c (pv 1) (z0u (pv 0) rfl) (z0i _))))) (z05 z1F) z0g)),?_⟩
 refine⟨_,rfl,_,_,rfl,rfl,_,rfl,B4 (fun q=>absurd (z0C q) (by omega)) fun _=>?_⟩
 exact⟨_,rfl,_,rfl,p,A2,dx,fs,_,rfl,B.hp,T.cl,T.n_readers,B.lr,_,_,rfl,rfl,_,rfl,B4 (fun q=>absurd (z0C q) (by omega)) fun _=>q⟩
noncomputable def z2P(Bk:BkP):Sp:=fun vs H Q _=>∃(p:Addr) (fp:List Addr) (zs:List Str) (r k:Int) (rows:List Row) (log:List Deed),vs=[.ref p]/\Bk H p fp zs r k rows log/\log.length<400/\Q .non H
theorem z8M{A2 A0:Addr}(M:Bl mg)(T:TxBook K mg A2)(F:Fun K "refuse_further_deed" "Book.refuse_further_deed" z0Y f fd):A8 P w K mg base CX0 1 f fd z0v (z2P (BkD K A2 A0)):=by
 have nd:=z0U.nd
 refine F.ok z0U (fun vs H Q E h=>?_) (fun cdv A outer s H vs Q E hr h=>?_)
 ·obtain⟨p,fp,zs,r,k,rows,log,rfl,_⟩:=h
  rfl
 obtain⟨p,fp,zs,r,k,rows,log,rfl,⟨dx,po,pd,fs,fo,us,rfl,B⟩,l4,q⟩:=h
 refine⟨_,(z05 (z0G (z08 y41 (z0b z09 rfl M.len bH (z00 (z0u (pv 0) rfl) z01)) (z1f rfl M.MOST_DEEDS) (z0i _)) (z05 z1F) z0g)),?_⟩
 have lu:=z2j B.ds
 exact⟨_,rfl,p,A2,dx,fs,_,rfl,B.hp,T.cl,T.n_done,B.ld,pd,us,rfl,.inl (SqL.of B.hd),_,_,rfl,rfl,_,rfl,B4 (fun q=>absurd (z0C q) (by omega)) fun _=>q⟩
theorem y2t{A2 A0:Addr}(M:Bl mg)(T:TxBook K mg A2)(F:Fun K "deeds" "Book.deeds" z5s f fd):A8 P w K mg base CX0 1 f fd z5i (y0d (BkD K A2 A0)):=by
 have nd:=z7g.nd
 refine F.ok z7g (fun vs H Q E h=>?_) (fun cdv A outer s H vs Q E hr h=>?_)
 ·obtain⟨p,fp,zs,r,k,rows,log,rfl,_⟩:=h
  rfl
 obtain⟨p,fp,zs,r,k,rows,log,rfl,⟨dx,po,pd,fs,fo,us,rfl,B⟩,q⟩:=h
 refine⟨_,(z05 (z0d (z0b z09 rfl M.len bH (z00 (z0u (pv 0) rfl) z01)))),?_⟩
 have lu:=z2j B.ds
 refine⟨_,rfl,p,A2,dx,fs,_,rfl,B.hp,T.cl,T.n_done,B.ld,pd,us,rfl,.inl (SqL.of B.hd),?_⟩
 rw[lu]
 exact q
theorem y3W{A2 A0:Addr}(M:Bl mg)(T:TxBook K mg A2)(F:Fun K "__init__" "Book.__init__" z3r f fd)(U8:Mkr P w K mg base 3 A0 "Office" z2S (y1S K A0 (OfD K A0)))
  (F2:Cal P w K mg base 1 "refuse_bad_readers" z2b z72):A8 P w K mg base CX0 6 f fd z3F (y2m K A2 (BkD K A2 A0)):=by
 have nd:=z4n.nd
 refine F.ok z4n (fun vs H Q E h=>?_) (fun cdv A outer s H vs Q E hr h=>?_)
 ·obtain⟨x,dx,pn,zs,r,k,rfl,_⟩:=h
  rfl
 obtain⟨x,dx,pn,zs,r,k,rfl,hx,ne,hdx,hn,g,r0,r1,k1,k10,q⟩:=h
 refine⟨_,(z03 (z6b (pv 0) (y01 U8 (rm hr) rfl (z00 (pv 1) (z00 (pv 2) z01))) rfl) (z03 (z0y (z0k F2 (rm hr) rfl (z00 (pv 3) z01))) (z03 (z6b (pv 0) (pv 3) rfl) (z05 (z6b (pv 0) (z1w z01) rfl))))),?_⟩
 refine⟨_,rfl,_,rfl,fun po dxo nx ndx neo=>?_⟩
 have m1:=z6p (C:=A0) (A4.refl H) nx ndx
 refine⟨po,dxo,pn,zs,r,rfl,z04,neo,by rw[z0e neo,z04],HdN.keep m1 hn,g,r0,r1,fun fo H1 ff sb of=>⟨rfl,?_⟩⟩
 have s1:A4 H H1:=z6m sb m1 nx
 have f1:∀b∈fo,H b=none:=fun b hb=>z4T m1 nx ndx (ff b hb)
 refine⟨_,rfl,x,A2,dx,[],rfl,s1 _ _ hx,T.cl,T.n_office,by decide,?_⟩
 have z1:=z1Q "office" (.ref po) []
 have z2:=z1Q "readers" (.int k) (K5 "office" (.ref po) [])
 have z0:([]:List (Str×V)).length=0:=rfl
 refine⟨_,rfl,k,rfl,k1,k10,?_⟩
 refine⟨_,rfl,_,rfl,x,A2,dx,_,rfl,z04,T.cl,T.n_readers,(by omega),?_⟩
 rw[z5A]
 refine⟨(by show 0≤sizeLine;decide),fun pd hd=>?_⟩
 have nxp:x≠pd:=z0o z04 hd
 have dfr:H1 pd=none:=by rw[z0e (cS nxp)] at hd;exact hd
 have ndd:dx≠pd:=z0o (s1 _ _ hdx) dfr
 have out:∀{b:Addr}{o:HO},H b=some o->b∉fo:=fun e m=>by rw[f1 _ m] at e;cases e
 refine⟨_,rfl,x,A2,dx,_,rfl,(by rw[z0e nxp,z04]),T.cl,T.n_done,(by omega),?_⟩
 have sx:z0D [x] H1 (upd (upd (upd H1 x (.ins A2 dx (K5 "readers" (.int k) (K5 "office" (.ref po) [])))) pd (.lst [])) x (.ins A2 dx (K5 "done" (.ref pd) (K5 "readers" (.int k) (K5 "office" (.ref po) []))))):=fun b o e nb=>by
  rw[bB] at nb
  rw[z0e nb,z0e (z0o e dfr),z0e nb]
  exact e
 refine q (x::dx::pd::fo) _ (fun b hb=>?_) (fun b o e nb=>sx b o (s1 _ _ e) nb) ⟨dx,po,pd,_,fo,[],rfl,⟨z04,?_,?_,?_,.nil,out hx,out hdx,?_,?_,?_,?_,?_,by decide,fun _ q=>(nomatch q),k1,k10⟩⟩
 ·rcases bD.mp hb with rfl|hb
  ·exact .inl rfl
  rcases bD.mp hb with rfl|hb
  ·exact .inr (.inl rfl)
  rcases bD.mp hb with rfl|hb
  ·exact .inr (.inr (s1.free dfr))
  ·exact .inr (.inr (f1 b hb))
 ·exact sx _ _ (s1 _ _ hdx) (by rw[bB];exact ne)
 ·refine ofOk.keep of sx (fun b m=>?_) fun b m xs e=>?_
  ·rw[bB.mp m]
   exact out hx
  ·rw[bB.mp m,s1 _ _ hx] at e
   cases e
 ·rw[z0e (cS nxp),z04]
 ·intro m
  obtain⟨o,e,_⟩:=ofOk.own of pd m
  rw[dfr] at e
  cases e
 ·rw[z0r,if_neg (by decide +kernel),z0r,if_neg (by decide +kernel),z0r,if_pos rfl]
 ·rw[z0r,if_neg (by decide +kernel),z0r,if_pos rfl]
 ·rw[z0r,if_pos rfl]
 ·intro m hm
  simp only[bD,dI,or_false] at hm
  rcases hm with rfl|rfl|rfl|rfl|rfl|rfl|rfl|rfl|rfl<;>rw[z0r,if_neg (by decide +kernel),z0r,if_neg (by decide +kernel),z0r,if_neg (by decide +kernel)]<;>rfl
theorem y6o{K:PySem.W.Frag}{CB CO:Addr}{H H1:Hp}{p dx po pd t:Addr}{fs:List (Str×V)}{fo fo':List Addr}{us:List V}{zs:List Str}{r k:Int}{rows X5:List Row}{log:List Deed}{d:Deed}(B:BkIn K CB CO H p dx po pd fs fo us zs r k rows log)
  (sb:z0D fo H H1) (of:OfD K CO H1 po fo' zs r X5) (ff:∀b∈fo',b∈fo\/H b=none) (ht:H1 t=some (.tup (z3w d))) (hl:rows.length≤X5.length) (hd1:1≤d.2/\d.2≤X5.length) (l4:log.length<400) :
  z0D (p::dx::pd::fo) H (upd H1 pd (.lst (us++[.ref t])))/\BkD K CB CO (upd H1 pd (.lst (us++[.ref t]))) p (p::dx::pd::fo') zs r k X5 (log++[d]):=by
 have ntf:z6c H fo:=ofOk.noTup B.of
 have hd':=sb _ _ B.hd B.ndn
 have out:∀{b:Addr}{o:HO},H b=some o->b∉fo->b∉fo':=fun e n m=>(ff _ m).elim n fun z=>by rw[z] at e;cases e
 have s2:z0D [pd] H1 (upd H1 pd (.lst (us++[.ref t]))):=fun b o e nb=>by
  rw[bB] at nb
  rw[z0e nb]
  exact e
 have nt2:z6c H1 [pd]:=fun b m xs e=>by
  rw[bB.mp m,hd'] at e
  cases e
 have npd:p≠pd:=z50 B.hp B.hd (fun z=>by cases z)
 have ndd:dx≠pd:=z50 B.hdx B.hd (fun z=>by cases z)
 refine⟨fun b o e nb=>?_,dx,po,pd,fs,fo',us++[.ref t],rfl,{ B with
  hp:=by rw[z0e npd];exact sb _ _ B.hp B.npo
  hdx:=by rw[z0e ndd];exact sb _ _ B.hdx B.ndo
  of:=ofOk.keep of s2 (fun b m=>by rw[bB.mp m];exact out B.hd B.ndn) nt2
  hd:=z04
  ds:=?_
  npo:=out B.hp B.npo
  ndo:=out B.hdx B.ndo
  ndn:=out B.hd B.ndn
  l4:=by rw[bN];exact l4
  in1:=fun x hx=>?_ }⟩
 ·rw[bD,bD,bD,not_or,not_or,not_or] at nb
  rw[z0e nb.2.2.1]
  exact sb _ _ e nb.2.2.2
 ·exact gQ (DeedsAt.but s2 nt2 (DeedsAt.but sb ntf B.ds)) ⟨t,rfl,s2 _ _ ht fun m=>nt2 t m _ ht⟩
 ·rcases bS.mp hx with hx|hx
  ·have:=B.in1 x hx
   omega
  ·rw[bB.mp hx]
   exact hd1
theorem z8L{A2 A0:Addr}(M:Bl mg)(T:TxBook K mg A2)(F:Fun K "write" "Book.write" z4f f fd)(A9:C5 P w K mg base 3 A0 "refuse_writing" z0B (z2K K (OfD K A0)))
  (E2:C5 P w K mg base 4 A0 "write" z2o (z60 K (OfD K A0))) (A6:C5 P w K mg base 1 A2 "refuse_further_deed" z0v (z2P (BkD K A2 A0))) :
  A8 P w K mg base CX0 5 f fd z4c (z8r K (BkD K A2 A0)):=by
 have nd:=z3f.nd
 refine F.ok z3f (fun vs H Q E h=>?_) (fun cdv A outer s H vs Q E hr h=>?_)
 ·obtain⟨p,v,fp,zs,r,k,rows,log,pr,rfl,_⟩:=h
  rfl
 obtain⟨p,v,fp,zs,r,k,rows,log,pr,rfl,bk,⟨a,vs,rfl,ha,na,hpr⟩,gr,l12,l60,l4,q⟩:=h
 refine⟨_,(z03 (z0y (z1z A9 (rm hr) (z0u (pv 0) rfl) (z00 (pv 1) z01))) (z03 (z0y (z1q A6 (rm hr) (pv 0))) (z03 (z0f (i:=2) nd rfl (Or.inl rfl) (z1z E2 (rm hr) (z0u (pv 0) rfl) (z00 (pv 1) z01))) (z03 (z0y (z2Z bV bT bZ z0K (z0u (pv 0) rfl) (z00 (z0I (z00 (z0V rfl M.WRITE) (z00 (pv 2) z01))) z01))) (z05 (z0d (pv 2))))))),?_⟩
 obtain⟨dx,po,pd,fs,fo,us,rfl,B⟩:=id bk
 have no:∀{b:Addr},b∉p::dx::pd::fo->b∉fo:=fun n m=>n (by simp[m])
 have hand:Paired (z9Q K H fo) vs pr:=L2.Paired.X9 hpr fun u x ⟨b,e,q,n⟩=>⟨b,e,q,no n⟩
 obtain⟨dxo,pno,plo,fso,xso,efo,h1,h2,h3,h4,l1,l2,l3,lmo,_⟩:=id B.of
 refine⟨_,rfl,p,A2,dx,fs,_,rfl,B.hp,T.cl,T.n_office,B.lo,po,dxo,fso,rfl,h1,lmo _ (by simp),_,rfl,po,a,fo,zs,r,rows,vs,pr,rfl,B.of,ha,z21.of hand,gr,l12,l60,fun H1 s1=>?_⟩
 refine⟨_,rfl,p,dx,fs,rfl,s1 _ _ B.hp,B.lm _ (by simp),p,_,zs,r,k,rows,log,rfl,bkOk.same bk s1,l4,?_⟩
 have ha1:y3x K H1 fo (.ref a) pr:=⟨a,vs,rfl,SqP.keep s1 ha,no na,L2.Paired.X9 hand fun u x ⟨b,e,q,n⟩=>⟨b,e,q.imp (fun z=>s1.seq z) fun z=>z7C s1 z,n⟩⟩
 refine⟨_,rfl,p,A2,dx,fs,_,rfl,s1 _ _ B.hp,T.cl,T.n_office,B.lo,po,dxo,fso,rfl,s1 _ _ h1,lmo _ (by simp),_,rfl,po,.ref a,fo,zs,r,rows,pr,rfl,ofOk.same B.of s1,ha1,gr,l12,l60,fun fo' H2 ff sb of2=>?_⟩
 have sb2:z0D fo H H2:=fun b o e n=>sb _ _ (s1 _ _ e) n
 have lu:=z2j B.ds
 refine⟨_,rfl,p,A2,dx,fs,_,rfl,sb2 _ _ B.hp B.npo,T.cl,T.n_done,B.ld,.inl ⟨rfl,_,SqL.of (sb2 _ _ B.hd B.ndn)⟩,?_⟩
 refine⟨_,rfl,(by show 2≤sizeLine;decide),fun t ht=>⟨pd,us,_,rfl,rfl,z02 ht _ _ _ (sb2 _ _ B.hd B.ndn),z0n (by omega),?_⟩⟩
 have s3:=z02 ht (.tup [V.str "write",V.int ((rows.length:Int)+1)])
 have et:upd H2 t (.tup [V.str "write",V.int ((rows.length:Int)+1)]) t=some (.tup (z3w (none,(rows.length:Int)+1))):=z04
 have sb3:z0D fo H (upd H2 t (.tup [V.str "write",V.int ((rows.length:Int)+1)])):=fun b o e n=>s3 _ _ (sb2 _ _ e n)
 have of3:=ofOk.same of2 s3
 obtain⟨g1,g2⟩:=y6o B sb3 of3 (fun b m=>(ff b m).imp id fun z=>s1.free z) et (by rw[bN];omega) ⟨by show(1:Int)≤rows.length+1;omega,by show((rows.length:Int)+1)≤_;rw[bN];exact dP _⟩ l4
 refine⟨_,rfl,q (p::dx::pd::fo') _ (fun b hb=>?_) g1 g2⟩
 rcases bD.mp hb with rfl|hb
 ·exact .inl (by simp)
 rcases bD.mp hb with rfl|hb
 ·exact .inl (by simp)
 rcases bD.mp hb with rfl|hb
 ·exact .inl (by simp)
 exact(ff b hb).imp (fun z=>by simp[z]) fun z=>s1.free z
theorem y3h(d:Deed)(rd n:Int):z3q (z3w d) (z3w (some rd,n))=decide (d=(some rd,n)):=by
 obtain⟨a,m⟩:=d
 cases a with
 | none=>
  rw[decide_eq_false (fun e=>by cases e)]
  rfl
 | some r=>
  show(eqV (.str "deliver") (.str "deliver") && (eqV (.int r) (.int rd) && (eqV (.int m) (.int n) && true)))=_
  rw[z9n rfl,fW,Bool.and_true,dC,bW,decide_eq_true_eq]
  show(r == rd)=true/\(m == n)=true↔_
  rw[beq_iff_eq,beq_iff_eq]
  exact⟨fun h=>by rw[h.1,h.2],fun h=>by cases h;exact⟨rfl,rfl⟩⟩
theorem y5q(log:List Deed)(rd n:Int):(!(log.map z3w).any fun ys=>z3q ys (z3w (some rd,n)))=decide (((some rd,n):Deed)∉log):=by
 rw[gE,dC,gN,decide_eq_true_eq,jA]
 refine⟨fun h m=>h _ m ?_,fun h d hd e=>h ?_⟩
 ·show z3q _ _=true
  rw[y3h]
  exact decide_eq_true rfl
 ·have e':z3q (z3w d) (z3w (some rd,n))=true:=e
  rw[y3h] at e'
  rw[<- of_decide_eq_true e']
  exact hd
theorem y0A(d:Deed):(z3w d).all z22=true:=by
 obtain⟨a,m⟩:=d
 cases a<;>rfl
theorem z73{A2 A0:Addr}(M:Bl mg)(T:TxBook K mg A2)(F:Fun K "deliver" "Book.deliver" z2X f fd)(B1:C5 P w K mg base 1 A0 "issue" z0P (z24 (OfD K A0)))
  (A5:C5 P w K mg base 1 A2 "refuse_unknown_reader" z0p (z1N (BkD K A2 A0))) (A6:C5 P w K mg base 1 A2 "refuse_further_deed" z0v (z2P (BkD K A2 A0))) :
  A8 P w K mg base CX0 5 f fd z2Y (z5I (BkD K A2 A0)):=by
 have nd:=z2G.nd
 refine F.ok z2G (fun vs H Q E h=>?_) (fun cdv A outer s H vs Q E hr h=>?_)
 ·obtain⟨p,fp,zs,r,k,rows,log,rd,n,rfl,_⟩:=h
  rfl
 obtain⟨p,fp,zs,r,k,rows,log,rd,n,rfl,bk,r1,r2,n1,n2,l4,q⟩:=h
 have hu:=z8G hr
 refine⟨_,(z03 (z0y (z1z B1 (rm hr) (z0u (pv 0) rfl) (z00 (pv 2) z01))) (z03 (z0y (z1z A5 (rm hr) (pv 0) (z00 (pv 1) z01))) (z03 (z0y (z1q A6 (rm hr) (pv 0))) (z03 (z0f (i:=3) nd rfl (Or.inl rfl) (z0I (z00 (z0V rfl M.DELIVER) (z00 (pv 1) (z00 (pv 2) z01))))) (z03 (z0f (i:=4) nd rfl (Or.inl rfl) (y1x (y0n hu) (pv 3) (z0u (pv 0) rfl) (by with_unfolding_all rfl))) (z03 (z0y (z2Z bV bT bZ z0K (z0u (pv 0) rfl) (z00 (pv 3) z01))) (z05 (z0d (pv 4))))))))),?_⟩
 obtain⟨dx,po,pd,fs,fo,us,rfl,B⟩:=id bk
 obtain⟨dxo,pno,plo,fso,xso,efo,h1,h2,h3,h4,l1,l2,l3,lmo,_⟩:=id B.of
 refine⟨_,rfl,p,A2,dx,fs,_,rfl,B.hp,T.cl,T.n_office,B.lo,po,dxo,fso,rfl,h1,lmo _ (by simp),_,rfl,po,fo,zs,r,rows,n,rfl,B.of,n1,n2,fun v H1 s1 _=>?_⟩
 have bk1:=bkOk.same bk s1
 refine⟨_,rfl,p,dx,fs,rfl,s1 _ _ B.hp,B.lm _ (by simp),_,rfl,p,_,zs,r,k,rows,log,rd,rfl,bk1,r1,r2,?_⟩
 refine⟨_,rfl,p,dx,fs,rfl,s1 _ _ B.hp,B.lm _ (by simp),p,_,zs,r,k,rows,log,rfl,bk1,l4,?_⟩
 refine⟨_,rfl,_,rfl,(by show 3≤sizeLine;decide),fun t ht=>?_⟩
 have s2:=s1.trans (z02 ht (.tup [V.str "deliver",V.int rd,V.int n]))
 have et:upd H1 t (.tup [V.str "deliver",V.int rd,V.int n]) t=some (.tup (z3w (some rd,n))):=z04
 generalize upd H1 t (.tup [V.str "deliver",V.int rd,V.int n])=H2 at s2 et
 have lu:=z2j B.ds
 have prs:Paired (fun u ys=>∃b,u=.ref b/\SqT K H2 b ys/\ys.all z22=true) us (log.map z3w):=by
  have go:∀{us:List V}{log:List Deed},Paired (z54 H) us log->Paired (fun u ys=>∃b,u=.ref b/\SqT K H2 b ys/\ys.all z22=true) us (log.map z3w):=by
   intro us log h
   induction h with
   | nil=>exact .nil
   | cons h t ih=>
    obtain⟨b,e,q⟩:=h
    exact .cons ⟨b,e,SqT.of (s2 _ _ q),y0A _⟩ ih
  exact go B.ds
 refine⟨_,rfl,_,rfl,p,A2,dx,fs,_,rfl,s2 _ _ B.hp,T.cl,T.n_done,B.ld,t,pd,_,us,_,rfl,rfl,SqT.of et,y0A _,SqL.of (s2 _ _ B.hd),prs,?_⟩
 rw[y5q]
 refine⟨_,rfl,p,A2,dx,fs,_,rfl,s2 _ _ B.hp,T.cl,T.n_done,B.ld,.inl ⟨rfl,_,SqL.of (s2 _ _ B.hd)⟩,_,rfl,pd,us,_,rfl,rfl,s2 _ _ B.hd,z0n (by omega),?_⟩
 obtain⟨g1,g2⟩:=y6o B (.of s2) (ofOk.same B.of s2) (fun b m=>.inl m) et (bE _) ⟨n1,n2⟩ l4
 exact⟨_,rfl,q _ g1 g2⟩
noncomputable def y7F:Deed->DV
 | (none,n)=>.tup [.str "write",.int n]
 | (some r,n)=>.tup [.str "deliver",.int r,.int n]
theorem y4h{H:Hp}{u:V}{d:Deed}(h:z54 H u d):Tell H (y7F d) u:=by
 obtain⟨b,rfl,e⟩:=h
 obtain⟨a,n⟩:=d
 cases a with
 | none=>exact z0w e (by show 2≤1000000;decide) (.cons (z14 _) (.cons (z0J _) .nil))
 | some r=>exact z0w e (by show 3≤1000000;decide) (.cons (z14 _) (.cons (z0J _) (.cons (z0J _) .nil)))
theorem y46{H:Hp}:∀{us:List V}{log:List Deed},Paired (z54 H) us log->∀(i:Nat) (d:Deed),log[i]? = some d->∃u,us[i]? = some u/\z54 H u d:=by
 intro us log h
 induction h with
 | nil=>intro i d e;simp at e
 | cons h t ih=>
  intro i d e
  cases i with
  | zero=>
   simp at e
   subst e
   exact⟨_,rfl,h⟩
  | succ i=>
   obtain⟨u,q1,q2⟩:=ih i d (by simpa using e)
   exact⟨u,by simpa using q1,q2⟩
noncomputable def y2T(Bk:BkP):Sp:=fun vs H Q _=>∃(p:Addr) (fp:List Addr) (zs:List Str) (r k:Int) (rows:List Row) (log:List Deed),vs=[.ref p]/\Bk H p fp zs r k rows log/\∀H',A4 H H'->Q (.int rows.length) H'
noncomputable def y0R(Bk:BkP):Sp:=fun vs H Q _=>∃(p:Addr) (fp:List Addr) (zs:List Str) (r k:Int) (rows:List Row) (log:List Deed) (n:Int),vs=[.ref p,.int n]/\Bk H p fp zs r k rows log/\1≤n/\n≤rows.length/\
 ∀(v:V) (H':Hp),A4 H H'->Tell H' (z11 rows n r) v->Q v H'
noncomputable def y22(Bk:BkP):Sp:=fun vs H Q _=>∃(p:Addr) (fp:List Addr) (zs:List Str) (r k:Int) (rows:List Row) (log:List Deed) (i:Nat) (d:Deed),vs=[.ref p,.int ((i:Int)+1)]/\Bk H p fp zs r k rows log/\log[i]? = some d/\
 ∀v,Tell H (y7F d) v->Q v H
theorem y1j{A2 A0:Addr}(M:Bl mg)(T:TxBook K mg A2)(F:Fun K "latest" "Book.latest" z4M f fd)(K8:C5 P w K mg base 1 A0 "latest" z3s (z9f (OfD K A0))):A8 P w K mg base CX0 2 f fd z70 (y2T (BkD K A2 A0)):=by
 have nd:=z5U.nd
 refine F.ok z5U (fun vs H Q E h=>?_) (fun cdv A outer s H vs Q E hr h=>?_)
 ·obtain⟨p,fp,zs,r,k,rows,log,rfl,_⟩:=h
  rfl
 obtain⟨p,fp,zs,r,k,rows,log,rfl,⟨dx,po,pd,fs,fo,us,rfl,B⟩,q⟩:=h
 refine⟨_,(z05 (z0d (z1q K8 (rm hr) (z0u (pv 0) rfl)))),?_⟩
 obtain⟨dxo,pno,plo,fso,xso,efo,h1,h2,h3,h4,l1,l2,l3,lmo,_⟩:=id B.of
 exact⟨_,rfl,p,A2,dx,fs,_,rfl,B.hp,T.cl,T.n_office,B.lo,po,dxo,fso,rfl,h1,lmo _ (by simp),po,fo,zs,r,rows,rfl,B.of,q⟩
theorem z8P{A2 A0:Addr}(M:Bl mg)(T:TxBook K mg A2)(F:Fun K "issue" "Book.issue" z4a f fd)(B1:C5 P w K mg base 1 A0 "issue" z0P (z24 (OfD K A0))):A8 P w K mg base CX0 2 f fd z5j (y0R (BkD K A2 A0)):=by
 have nd:=z3k.nd
 refine F.ok z3k (fun vs H Q E h=>?_) (fun cdv A outer s H vs Q E hr h=>?_)
 ·obtain⟨p,fp,zs,r,k,rows,log,n,rfl,_⟩:=h
  rfl
 obtain⟨p,fp,zs,r,k,rows,log,n,rfl,⟨dx,po,pd,fs,fo,us,rfl,B⟩,n1,n2,q⟩:=h
 refine⟨_,(z05 (z0d (z1z B1 (rm hr) (z0u (pv 0) rfl) (z00 (pv 1) z01)))),?_⟩
 obtain⟨dxo,pno,plo,fso,xso,efo,h1,h2,h3,h4,l1,l2,l3,lmo,_⟩:=id B.of
 exact⟨_,rfl,p,A2,dx,fs,_,rfl,B.hp,T.cl,T.n_office,B.lo,po,dxo,fso,rfl,h1,lmo _ (by simp),_,rfl,po,fo,zs,r,rows,n,rfl,B.of,n1,n2,q⟩
theorem y07{A2 A0:Addr}(M:Bl mg)(T:TxBook K mg A2)(F:Fun K "deed" "Book.deed" z4R f fd):A8 P w K mg base CX0 1 f fd z6S (y22 (BkD K A2 A0)):=by
 have nd:=z3Y.nd
 refine F.ok z3Y (fun vs H Q E h=>?_) (fun cdv A outer s H vs Q E hr h=>?_)
 ·obtain⟨p,fp,zs,r,k,rows,log,i,d,rfl,_⟩:=h
  rfl
 obtain⟨p,fp,zs,r,k,rows,log,i,d,rfl,⟨dx,po,pd,fs,fo,us,rfl,B⟩,ed,q⟩:=h
 refine⟨_,(z03 (z0G (PW.pt (z3Q (z08 z6d (pv 1) z06 (z0i _)) (z2q (z08 z2c (pv 1) (z0b z09 rfl M.len bH (z00 (z0u (pv 0) rfl) z01)) (z0i _))))) (z05 z1F) z0g) (z05 (z0d (z0M z0N (z0u (pv 0) rfl) (z0t z2Q (pv 1) z06) (fun _ _=>rfl))))),?_⟩
 have lu:=z2j B.ds
 have hi:=(cJ.mp ed).1
 obtain⟨u,eu,du⟩:=y46 B.ds i d ed
 have av:atI us ((i:Int)+1-1)=some u:=by
  rw[Int.add_sub_cancel]
  exact z1O eu
 refine⟨_,rfl,_,_,rfl,rfl,_,rfl,B4 (fun q=>absurd (z0C q) (by omega)) fun _=>?_⟩
 refine⟨_,rfl,_,rfl,p,A2,dx,fs,_,rfl,B.hp,T.cl,T.n_done,B.ld,pd,us,rfl,.inl (SqL.of B.hd),_,_,rfl,rfl,_,rfl,B4 (fun q=>absurd (z0C q) (by omega)) fun _=>?_⟩
 exact⟨_,rfl,p,A2,dx,fs,_,rfl,B.hp,T.cl,T.n_done,B.ld,_,rfl,_,_,rfl,rfl,pd,us,_,u,rfl,rfl,SqL.of B.hd,av,q u (y4h du)⟩
theorem y6A{xs:List V}{k:Nat}(h:k≤xs.length):R9 xs none (some (k:Int))=xs.take k:=by
 unfold R9
 have e1:HT.sIx xs.length 0 none=0:=rfl
 have e2:HT.sIx xs.length xs.length (some (k:Int))=k:=by
  rw[HT.y47,Nat.min_eq_left h]
 rw[e1,e2,fN,hU]
theorem y5B{H:Hp}:∀{us:List V}{log:List Deed},Paired (z54 H) us log->∀(c i:Nat) (u:V),(us.take c)[i]? = some u->∃d,(log.take c)[i]? = some d/\z54 H u d:=by
 intro us log h
 induction h with
 | nil=>intro c i u e;rw[List.take_nil] at e;simp at e
 | cons h t ih=>
  intro c i u e
  cases c with
  | zero=>simp at e
  | succ c=>
   rw[List.take_succ_cons] at e ⊢
   cases i with
   | zero=>
    simp at e
    subst e
    exact⟨_,rfl,h⟩
   | succ i=>
    obtain⟨d,q1,q2⟩:=ih c i u (by simpa using e)
    exact⟨d,by simpa using q1,q2⟩
theorem y5V(d:Deed)(rd:Int):z3q ((z3w d).take 2) [.str "deliver",.int rd]=decide (d.1=some rd):=by
 obtain⟨a,m⟩:=d
 cases a with
 | none=>
  rw[decide_eq_false (fun e=>by cases e)]
  rfl
 | some r=>
  show(eqV (.str "deliver") (.str "deliver") && (eqV (.int r) (.int rd) && true))=_
  rw[z9n rfl,fW,Bool.and_true,dC,decide_eq_true_eq]
  show(r == rd)=true↔_
  rw[beq_iff_eq]
  exact⟨fun h=>by rw[h],fun h=>Option.some.inj h⟩
theorem z6O{A2 A0 A1 T0:Addr}{items:Array Value}(M:Bl mg)(T:TxBook K mg A2)(TO:TxOffice K mg A0)(F:FunD K "shelf" "Book.shelf" z47 f fd T0 items)(B1:C5 P w K mg base 1 A0 "issue" z0P (z24 (OfD K A0)))
  (A5:C5 P w K mg base 1 A2 "refuse_unknown_reader" z0p (z1N (BkD K A2 A0))) (L4:Mkr P w K mg base 3 A1 "Shelf" z1L (z7u K A1 (ShD K A1)))
  (D7:C5 P w K mg base 1 A1 "put" z3H (y63 (ShD K A1))):A8 P w K mg base CX0 6 f fd z2d (z3I (BkD K A2 A0) (ShD K A1)):=by
 have nd:=z3i.nd
 refine F.ok z3i (fun vs H Q E h=>?_) (fun cdv A outer s H vs Q E hr h=>?_)
 ·obtain⟨p,fp,zs,r,k,rows,log,rd,o,rfl,_⟩:=h
  rfl
 obtain⟨p,fp,zs,r,k,rows,log,rd,o,rfl,bk,r1,r2,od,q⟩:=h
 refine⟨_,(z03 (z0f (i:=3) nd rfl (Or.inl rfl) (z43 (z7d (z94 (pv 2))) (z0b z09 rfl M.len bH (z00 (z0u (pv 0) rfl) z01)) (pv 2))) (z03 (z0G (PW.pt (z3Q (z08 z6d (pv 3) z06 (z0i _)) (z2q (z08 z2c (pv 3) (z0b z09 rfl M.len bH (z00 (z0u (pv 0) rfl) z01)) (z0i _))))) (z05 z1F) z0g) (z03 (z0y (z1z A5 (rm hr) (pv 0) (z00 (pv 1) z01))) (z03 (z0f (i:=4) nd rfl (Or.inl rfl) (y01 L4 (rm hr) rfl (z00 (z0u (z0u (pv 0) rfl) rfl) (z00 (z0u (z0u (pv 0) rfl) rfl) z01)))) (z03 (z1s cD rfl (z1v (z2p y4U (z0u (pv 0) rfl) z3e (z3c (pv 3)))) (z0h (i:=5) nd rfl (Or.inl rfl)) (z05 (z0G (z08 (y6z hr.T7) (z2p y1y (pv 5) z3e (z3c z06)) (z0I (z00 (z0V rfl M.DELIVER) (z00 (pv 1) z01))) (z0i _)) (z05 (z0y (z1z D7 (rm hr) (pv 4) (z00 (z1z B1 (rm hr) (z0u (pv 0) rfl) (z00 (z0M z1b (pv 5) z06 (fun _ _=>rfl)) z01)) z01)))) z0g))) (z05 (z0d (pv 4)))))))),?_⟩
 obtain⟨dx,po,pd,fs,fo,us,rfl,B⟩:=id bk
 obtain⟨dxo,pno,plo,fso,xso,efo,h1,h2,h3,h4,l1,l2,l3,lmo,_,_,_,g,r0,r10⟩:=id B.of
 have lu:=z2j B.ds
 have cle:o.getD log.length≤log.length:=by
  cases o with
  | none=>exact bE _
  | some d=>exact od d rfl
 have beh:∀(Qk:VK),Qk (.int (o.getD log.length:Nat)) H->tIf (tB (tIsN (Y4 2))) (tCB (fun xs H_1 Q=>∃p ys,xs=[V.ref p]/\(SqL K H_1 p ys\/SqT K H_1 p ys)/\Q (V.int ys.length) H_1) (y6O (tFld K (Y4 0) "done") X7)) (Y4 2) (z5h ["self","reader","deed","behind","told","past"] [.ref p,.int rd,dedV o]) H Qk:=fun Qk hq=>by
  cases o with
  | none=>
   refine⟨_,rfl,_,rfl,L8 ⟨_,rfl,p,A2,dx,fs,_,rfl,B.hp,T.cl,T.n_done,B.ld,pd,us,rfl,.inl (SqL.of B.hd),?_⟩⟩
   rw[lu]
   exact hq
  | some d=>exact⟨_,rfl,_,rfl,E7 ⟨_,rfl,hq⟩⟩
 refine beh _ ?_
 generalize o.getD log.length=c at cle q
 clear beh
 refine⟨_,rfl,_,_,rfl,rfl,_,rfl,B4 (fun q=>absurd (z0C q) (by omega)) fun _=>⟨_,rfl,_,rfl,p,A2,dx,fs,_,rfl,B.hp,T.cl,T.n_done,B.ld,pd,us,rfl,.inl (SqL.of B.hd),_,_,rfl,rfl,_,rfl,B4 (fun q=>absurd (z0C q) (by omega)) fun _=>?_⟩⟩
 refine⟨_,rfl,p,dx,fs,rfl,B.hp,B.lm _ (by simp),_,rfl,p,_,zs,r,k,rows,log,rd,rfl,bk,r1,r2,?_⟩
 refine⟨_,rfl,p,A2,dx,fs,_,rfl,B.hp,T.cl,T.n_office,B.lo,po,A0,dxo,fso,_,rfl,h1,TO.cl,TO.n_names,l1,_,rfl,p,A2,dx,fs,_,rfl,B.hp,T.cl,T.n_office,B.lo,po,A0,dxo,fso,_,rfl,h1,TO.cl,TO.n_reach,l2,fun x dxs nx ndx ne=>?_⟩
 have m1:=z6p (C:=A1) (A4.refl H) nx ndx
 refine⟨x,dxs,pno,zs,r,rfl,z04,ne,by rw[z0e ne,z04],.inr (m1 _ _ h3),g,r0,r10,fun fq H1 ff sb sh=>⟨rfl,?_⟩⟩
 have s1:A4 H H1:=z6m sb m1 nx
 have f1:∀b∈fq,H b=none:=fun b hb=>z4T m1 nx ndx (ff b hb)
 have sh1:ShD K A1 H1 x fq zs r (fun n=>z11 rows n r) []:=sh _
 refine⟨_,rfl,p,A2,dx,fs,_,rfl,s1 _ _ B.hp,T.cl,T.n_done,B.ld,_,rfl,_,rfl,pd,_,rfl,SqL.of (s1 _ _ B.hd),fun lq hlq=>?_⟩
 rw[y6A (by omega)]
 have s2:=s1.trans (z02 hlq (.lst (us.take c)))
 have e2:upd H1 lq (.lst (us.take c)) lq=some (.lst (us.take c)):=z04
 have sh2:=shOk.same sh1 (z02 hlq (.lst (us.take c)))
 have f2:lq∉fq:=fun m=>by
  obtain⟨o,e,_⟩:=shOk.own sh1 lq m
  rw[hlq] at e
  cases e
 generalize upd H1 lq (.lst (us.take c))=H2 at s2 e2 sh2
 have nt2:z6c H2 fq:=shOk.noTup sh2
 have out:∀{b:Addr}{o:HO},H b=some o->b∉fq:=fun e m=>by rw[f1 _ m] at e;cases e
 have lt:(us.take c).length=c:=by rw[bO];omega
 refine⟨lq,rfl,⟨_,SqL.of e2⟩,z2a (K:=K) (a:=lq) (xs:=us.take c) (fun i σ H'=>∃(fq':List Addr) (o5:Option V),z0D fq H2 H'/\ShD K A1 H' x fq' zs r (fun n=>z11 rows n r) (gotL ((log.take c).take i) rd)/\(∀b∈fq',b∈fq\/H2 b=none)/\
   σ=[some (.ref p),some (.int rd),some (dedV o),some (.int c),some (.ref x),o5]) ⟨fq,none,.of (A4.refl _),sh2,fun b m=>.inl m,rfl⟩ (fun i σ H' _ ⟨_,_,bt,_⟩=>SqL.of (bt _ _ e2 f2)) ?_ ?_⟩
 ·rintro i u σ H' hi ⟨fq',o5,bt,shx,ffx,rfl⟩
  obtain⟨d,ed,b,rfl,hb⟩:=y5B B.ds c i u hi
  have sk:∀{b:Addr}{o:HO},H b=some o->H' b=some o:=fun e=>bt _ _ (s2 _ _ e) (out e)
  have hin:=B.in1 d (fR (bQ ed))
  have l2d:2≤(z3w d).length:=by
   obtain⟨a,m⟩:=d
   cases a
   ·show 2≤2;decide
   ·show 2≤3;decide
  have cut:∀(Qk:VK),(∀(t1:Addr) (G:Hp),A4 H' G->G t1=some (.tup ((z3w d).take 2))->Qk (.ref t1) G)->rSlA K (.ref b) none (some 2) H' Qk:=fun Qk hq=>by
   refine⟨b,_,rfl,SqT.of (sk hb),fun hw=>hq b H' (A4.refl _) ?_,fun _ t1 ht1=>hq t1 _ (z02 ht1 _) ?_⟩
   ·rw[sk hb,d9]
    have:=hw.2
    have e:HT.sIx (z3w d).length (z3w d).length (some (2:Int))=min 2 (z3w d).length:=HT.y47 _ _ 2
    omega
   ·rw[z04]
    exact congrArg (fun z=>some (HO.tup z)) (y6A (k:=2) l2d)
  refine⟨_,rfl,_,rfl,cut _ fun t1 G sG e1'=>⟨_,rfl,(by show 2≤sizeLine;decide),fun t2 ht2=>?_⟩⟩
  have s3:=sG.trans (z02 ht2 (.tup [V.str "deliver",V.int rd]))
  have e3:upd G t2 (.tup [V.str "deliver",V.int rd]) t1=some (.tup ((z3w d).take 2)):=z02 ht2 _ _ _ e1'
  have e4:upd G t2 (.tup [V.str "deliver",V.int rd]) t2=some (.tup [V.str "deliver",V.int rd]):=z04
  generalize upd G t2 (.tup [V.str "deliver",V.int rd])=H3 at s3 e3 e4
  have fl:((z3w d).take 2).all z22=true:=by
   obtain⟨a,m⟩:=d
   cases a<;>rfl
  refine⟨t1,t2,_,_,rfl,rfl,SqT.of e3,SqT.of e4,fl,rfl,_,rfl,?_⟩
  rw[y5V,z0x ed,y4A]
  have sh3:=shOk.same shx s3
  refine B4 (fun cc=>?_) (fun cc=>?_)
  ·have c':=z0C cc
   rw[if_pos c']
   obtain⟨a,n⟩:=d
   have ea:a=some rd:=c'
   subst ea
   obtain⟨d1,g1,z1,w1⟩:=shOk.ins sh3
   refine⟨_,rfl,x,d1,g1,rfl,z1,w1 _ (by simp),_,rfl,p,A2,dx,fs,_,rfl,s3 _ _ (sk B.hp),T.cl,T.n_office,B.lo,po,dxo,fso,rfl,s3 _ _ (sk h1),lmo _ (by simp),_,rfl,b,_,2,_,rfl,rfl,SqT.of (s3 _ _ (sk hb)),rfl,po,fo,zs,r,rows,n,rfl,?_,hin.1,hin.2,fun v H4 s4 tv=>?_⟩
   ·exact ofOk.same (ofOk.keep (ofOk.same B.of s2) bt (fun b m z=>by
     obtain⟨o,e,_⟩:=ofOk.own B.of b z
     exact out e m) nt2) s3
   have n60:rows.length≤60:=by
    obtain⟨_,_,_,_,_,_,_,_,_,_,_,_,_,_,_,n60,_⟩:=B.of
    exact n60
   refine⟨x,v,fq',zs,r,_,_,n,_,rfl,shOk.same sh3 s4,tv,rfl,hin.1,by have:=hin.2;have:n≤rows.length:=this;omega,fun fq2 H5 ff5 sb5 sh5=>?_⟩
   have g4:=s3.trans s4
   exact⟨fq2,_,(fun b o e nb=>sb5 b o (g4 _ _ (bt b o e nb)) fun m=>(ffx b m).elim nb fun z=>by rw[e] at z;cases z),sh5,y40 bt ffx g4 ff5,rfl⟩
  ·have c':=z4I cc
   rw[if_neg c']
   exact⟨fq',_,fun b o e nb=>s3 _ _ (bt b o e nb),sh3,ffx,rfl⟩
 ·rintro σ H' ⟨fq',o5,bt,shx,ffx,rfl⟩
  rw[lt,List.take_take,Nat.min_self] at shx
  exact⟨_,rfl,q x fq' H' (fun b m=>(ffx b m).elim (f1 b) fun z=>s2.free z) (fun b o e=>bt _ _ (s2 _ _ e) (out e)) shx⟩
noncomputable def HT(H:Hp)(u:V)(p:Str×Int):Prop:=∃b,u=.ref b/\H b=some (.tup [.str p.1,.int p.2])
theorem HT.keep{H H':Hp}(g:A4 H H'):∀{us:List V}{pr:Row},Paired (HT H) us pr->Paired (HT H') us pr
 | _,_,.nil=>.nil
 | _,_,.cons ⟨b,e,h⟩ t=>.cons ⟨b,e,g _ _ h⟩ (HT.keep g t)
theorem HT.hand{K:PySem.W.Frag}{H:Hp}{fp:List Addr}(no:z6c H fp):∀{us:List V}{pr:Row},Paired (HT H) us pr->Paired (z9Q K H fp) us pr
 | _,_,.nil=>.nil
 | _,_,.cons ⟨b,e,h⟩ t=>.cons ⟨b,e,.inr (SqT.of h),fun m=>no b m _ h⟩ (HT.hand no t)
theorem y54{H:Hp}:∀{w:Row}{xs:List V},z0c H (w.map z9p) xs->Paired (HT H) xs w
 | [],xs,h=>by
  rw[z0X h]
  exact .nil
 | p::w,xs,h=>by
  obtain⟨x,r,rfl,t,h'⟩:=z0j h
  obtain⟨a,us,rfl,ea,_,tu⟩:=z0s (show Tell H (.tup [.str p.1,.int p.2]) x from t)
  obtain⟨y1,r1,rfl,t1,h3⟩:=z0j tu
  obtain⟨y2,r2,rfl,t2,h4⟩:=z0j h3
  have:=z0X h4
  subst this
  rw[z4L t1,z1k t2] at ea
  exact .cons ⟨a,rfl,ea⟩ (y54 h')
theorem y2E{ns:List Int}{n r:Int}(C7:∀x∈ns,1≤x/\x≤60)(h:z0W ns n r=0):∀y∈ns,n<y->¬y-r≤n:=fun y hy h1 h2=>by
 unfold z0W at h
 cases e:(upI 1 60).find? (y1t ns n r) with
 | none=>exact List.find?_eq_none.mp e y (z1r.mpr (by have:=C7 y hy;omega)) (z4x.mpr ⟨h1,h2,hy⟩)
 | some t=>
  rw[e] at h
  have:=z1r.mp (fZ e)
  have h':t=0:=h
  omega
noncomputable def y6i(Sh:ShP):Sp:=fun vs H Q _=>∃(x:Addr) (fp:List Addr) (nm:List Str) (r:Int) (rows:List Row) (had:List Int),vs=[.ref x]/\Sh H x fp nm r (fun n=>z11 rows n r) had/\GoodN nm/\Rws nm rows/\rows.length≤60/\(∀n∈had,1≤n/\n≤rows.length)/\0≤r/\r≤10/\
 ∀(v:V) (H':Hp),A4 H H'->Tell H' (y4e nm (z0m had) rows r) v->Q v H'
theorem y32(nm:List Str)(ns:List Int)(rows:List Row)(r:Int):(y4e nm ns rows r).deep≤2:=z7y fun d hd=>by
 obtain⟨z,_,rfl⟩:=cG.mp hd
 unfold tabD
 refine z7y fun d hd=>?_
 rcases bD.mp hd with rfl|hd
 ·exact z7E _ _
 rcases bD.mp hd with rfl|hd
 ·exact z7E _ _
 rcases bD.mp hd with rfl|hd
 ·exact z9U _ _
 rw[bB.mp hd]
 cases z2v (z0m ns) rows z with
 | none=>unfold y5l DV.deep;exact cR _
 | some p=>exact z9U _ _
noncomputable def z7x(Sh:ShP):Sp:=fun vs H Q _=>∃(x:Addr) (fp:List Addr) (nm:List Str) (r:Int) (rows:List Row) (had:List Int),vs=[.ref x]/\Sh H x fp nm r (fun n=>z11 rows n r) had/\GoodN nm/\Rws nm rows/\rows.length≤60/\(∀n∈had,1≤n/\n≤rows.length)/\0≤r/\r≤10/\
 ∀(v:V) (H':Hp),A4 H H'->Tell H' (.tup (z7r (z0m had) rows r)) v->Q v H'
noncomputable def y6y(K:PySem.W.Frag):Sp:=fun vs H Q _=>∃(p:Addr) (ns:List Int),vs=[.ref p]/\SqI K H p ns/\(∀x∈ns,1≤x/\x≤60)/\
 ∀(l:Addr) (H':Hp),H l=none->A4 H H'->H' l=some (.tup ((z1d ns).map V.int))->Q (.ref l) H'
theorem y78(M:Bl mg)(F:Fun K "lacking_numbers" "lacking_numbers" z2T f fd):A8 P w K mg base CX0 1 f fd z2U (y6y K):=by
 have nd:=z3O.nd
 refine F.ok z3O (fun vs H Q E h=>?_) (fun cdv A outer s H vs Q E hr h=>?_)
 ·obtain⟨p,ns,rfl,_⟩:=h
  rfl
 obtain⟨p,ns,rfl,hS,C7,q⟩:=h
 refine⟨_,(z03 (z0f (i:=1) nd rfl (Or.inl rfl) (y3l rfl rfl M.max (z00 (pv 0) z01) (z9A z06 y27))) (z05 (z0d (z0q z0l rfl M.tuple bI (z00 (z1n ["number"] ["had"] [0] rfl (z0z rfl (by decide +kernel) rfl (by decide +kernel) rfl rfl) (z8v rfl M.range (z00 z06 (z00 (z0t z1G (pv 1) z06) z01))) (fun _ _ _ _ _=>(z0h (i:=0) (show((["number"]:List PySem.Str)++(["had"]:List PySem.Str)).Nodup from by decide +kernel) rfl (Or.inl rfl))) (z0A (by decide)) z0a (fun _ _ _ _ _=>(z2A (z08 (r:=rIn K true) z2f (pv 0) (pv 1) (by with_unfolding_all rfl)))) (fun _ _ _ _ _=>(pv 0))) z01))))),?_⟩
 refine⟨_,rfl,p,ns,.int 0,rfl,rfl,hS,fun hnil=>?_,fun m hm top=>?_⟩
 ·subst hnil
  refine⟨_,rfl,_,_,rfl,rfl,_,_,rfl,⟨by decide,by decide,by decide,by decide⟩,?_⟩
  refine z83 (lo:=1) (n:=0) (fun _=>true) (fun k=>.int k) (by decide) (fun k ys N k0 k1 hN=>by omega) ?_
  intro D hD
  refine⟨D,_,rfl,.inl ⟨SqL.of z04,fun l hl=>?_⟩⟩
  have h1:H l=none:=(z02 hD _).free hl
  refine q l _ h1 ((z02 hD _).trans (z02 hl _)) ?_
  rw[z04,y0x]
  rfl
 ·have hm':=C7 m hm
  refine⟨_,rfl,_,_,rfl,rfl,_,_,rfl,⟨by decide,by decide,by omega,by omega⟩,?_⟩
  refine z83 (lo:=1) (n:=(m+1-1).toNat) (fun k=>!decide (k∈ns)) (fun k=>.int k) (by omega) (fun k ys N k0 k1 hN=>?_) ?_
  ·refine⟨_,rfl,_,rfl,p,_,rfl,hS,rfl,z3N ns,_,rfl,?_⟩
   rw[if_pos rfl,z4V]
   refine B4 (fun c=>?_) (fun c=>?_)
   ·rw[if_pos c] at hN
    exact⟨_,rfl,hN⟩
   ·rw[if_neg c] at hN
    exact hN
  ·intro D hD
   refine⟨D,_,rfl,.inl ⟨SqL.of z04,fun l hl=>?_⟩⟩
   have h1:H l=none:=(z02 hD _).free hl
   refine q l _ h1 ((z02 hD _).trans (z02 hl _)) ?_
   rw[z04]
   have e:z2L (fun k=>!decide (k∈ns)) (fun k=>V.int k) (upI 1 (m+1-1).toNat)=(z1d ns).map V.int:=by
    unfold z2L
    rw[y3B hm C7 top]
   rw[e]
noncomputable def y1P(K:PySem.W.Frag):Sp:=fun vs H Q _=>∃(p:Addr) (ns:List Int) (n r:Int),vs=[.ref p,.int n,.int r]/\SqI K H p ns/\(∀x∈ns,1≤x/\x≤60)/\ns.length≤900/\
 ∀H',A4 H H'->Q (.int (z0W ns n r)) H'
theorem y4u(M:Bl mg)(F:Fun K "teller_of" "teller_of" z6V f fd):A8 P w K mg base CX0 1 f fd z6M (y1P K):=by
 have nd:=z7S.nd
 refine F.ok z7S (fun vs H Q E h=>?_) (fun cdv A outer s H vs Q E hr h=>?_)
 ·obtain⟨p,ns,n,r,rfl,_⟩:=h
  rfl
 obtain⟨p,ns,n,r,rfl,hS,C7,hlen,q⟩:=h
 have fin:∀D,H D=none->(z2L (fun y=>decide (n<y) && decide (y-r≤n)) (fun y=>V.int y) ns=(ns.filter fun y=>decide (n<y) && decide (y-r≤n)).map V.int):=fun _ _=>rfl
 have w0i:(ns.filter fun y=>decide (n<y) && decide (y-r≤n))=[]->z0W ns n r=0:=fun e=>z6F fun y hy h1 h2=>by
  have:y∈ns.filter fun y=>decide (n<y) && decide (y-r≤n):=cK.mpr ⟨hy,by rw[decide_eq_true h1,decide_eq_true h2];rfl⟩
  rw[e] at this
  cases this
 have w0k:∀m,m∈(ns.filter fun y=>decide (n<y) && decide (y-r≤n))->(∀y∈(ns.filter fun y=>decide (n<y) && decide (y-r≤n)),m≤y)->z0W ns n r=m:=fun m hm hl=>by
  rw[cK,bW,decide_eq_true_eq,decide_eq_true_eq] at hm
  exact y2f C7 hm.1 hm.2.1 hm.2.2 fun y hy h1 h2=>hl y (cK.mpr ⟨hy,by rw[decide_eq_true h1,decide_eq_true h2];rfl⟩)
 rcases hS with hS|hS
 ·refine⟨_,(z03 (z5n (i:=3) ["above"] ["number","reach"] [1,2] rfl nd rfl (Or.inl rfl) (z0z rfl (by decide +kernel) rfl (by decide +kernel) rfl rfl) (z1v (pv 0)) (fun _ _ _ _ _=>(z0h (i:=0) (show((["above"]:List PySem.Str)++(["number","reach"]:List PySem.Str)).Nodup from by decide +kernel) rfl (Or.inl rfl))) (z0A (by decide)) z0a (fun _ _ _ _ _=>(z2A (PW.pt (z6l (z08 z2c (pv 0) (pv 1) (z0i _)) (z40 (z08 y5X (z0t z2Q (pv 0) (pv 2)) (pv 1) (z0i _))))))) (fun _ _ _ _ _=>(pv 0))) (z05 (z0d (y4v rfl rfl M.min (z00 (pv 3) z01) (z9A z06 y27))))),?_⟩
  refine⟨_,rfl,p,rfl,⟨_,hS⟩,?_⟩
  refine y0T (ns:=ns) (fun y=>decide (n<y) && decide (y-r≤n)) (fun y=>.int y) hS (by omega) (fun y ys N hy hN=>?_) (fun D hD=>?_)
  ·refine⟨_,rfl,_,rfl,_,_,rfl,rfl,_,rfl,?_⟩
   refine B4 (fun c=>?_) (fun c=>?_)
   ·refine⟨_,rfl,_,rfl,_,_,rfl,rfl,_,rfl,_,_,rfl,rfl,_,rfl,?_⟩
    rw[c,fW] at hN
    refine B4 (fun c2=>?_) (fun c2=>?_)
    ·rw[if_pos c2] at hN
     exact⟨_,rfl,hN⟩
    ·rw[if_neg c2] at hN
     exact hN
   ·rw[fJ.mpr c,gG] at hN
    exact E7 hN
  ·refine⟨_,rfl,D,_,.int 0,rfl,rfl,.inl (SqL.of z04),fun e=>?_,fun m hm hl=>?_⟩
   ·have:=q _ (z02 hD (.lst (z2L (fun y=>decide (n<y) && decide (y-r≤n)) (fun y=>V.int y) ns)))
    rw[w0i e] at this
    exact this
   ·have:=q _ (z02 hD (.lst (z2L (fun y=>decide (n<y) && decide (y-r≤n)) (fun y=>V.int y) ns)))
    rw[w0k m hm hl] at this
    exact this
 ·refine⟨_,(z03 (z5n (i:=3) ["above"] ["number","reach"] [1,2] rfl nd rfl (Or.inl rfl) (z0z rfl (by decide +kernel) rfl (by decide +kernel) rfl rfl) (z2N (pv 0)) (fun _ _ _ _ _=>(z0h (i:=0) (show((["above"]:List PySem.Str)++(["number","reach"]:List PySem.Str)).Nodup from by decide +kernel) rfl (Or.inl rfl))) (z0A (by decide)) z0a (fun _ _ _ _ _=>(z2A (PW.pt (z6l (z08 z2c (pv 0) (pv 1) (z0i _)) (z40 (z08 y5X (z0t z2Q (pv 0) (pv 2)) (pv 1) (z0i _))))))) (fun _ _ _ _ _=>(pv 0))) (z05 (z0d (y4v rfl rfl M.min (z00 (pv 3) z01) (z9A z06 y27))))),?_⟩
  refine⟨_,rfl,p,rfl,⟨_,hS⟩,?_⟩
  refine z8S (ns:=ns) (fun y=>decide (n<y) && decide (y-r≤n)) (fun y=>.int y) hS (by omega) (fun y ys N hy hN=>?_) (fun D hD=>?_)
  ·refine⟨_,rfl,_,rfl,_,_,rfl,rfl,_,rfl,?_⟩
   refine B4 (fun c=>?_) (fun c=>?_)
   ·refine⟨_,rfl,_,rfl,_,_,rfl,rfl,_,rfl,_,_,rfl,rfl,_,rfl,?_⟩
    rw[c,fW] at hN
    refine B4 (fun c2=>?_) (fun c2=>?_)
    ·rw[if_pos c2] at hN
     exact⟨_,rfl,hN⟩
    ·rw[if_neg c2] at hN
     exact hN
   ·rw[fJ.mpr c,gG] at hN
    exact E7 hN
  ·refine⟨_,rfl,D,_,.int 0,rfl,rfl,.inl (SqL.of z04),fun e=>?_,fun m hm hl=>?_⟩
   ·have:=q _ (z02 hD (.lst (z2L (fun y=>decide (n<y) && decide (y-r≤n)) (fun y=>V.int y) ns)))
    rw[w0i e] at this
    exact this
   ·have:=q _ (z02 hD (.lst (z2L (fun y=>decide (n<y) && decide (y-r≤n)) (fun y=>V.int y) ns)))
    rw[w0k m hm hl] at this
    exact this
def Pr(H:Hp)(u:V)(p:Int×Int):Prop:=∃a,u=.ref a/\H a=some (.tup [.int p.1,.int p.2])
theorem Pr.keep{H H':Hp}(s:A4 H H'){u:V}{p:Int×Int}(h:Pr H u p):Pr H' u p:=let ⟨a,e,q⟩:=h;⟨a,e,s _ _ q⟩
abbrev Prs(H:Hp):List V->List (Int×Int)->Prop:=Paired (Pr H)
theorem Prs.keep{H H':Hp}(s:A4 H H'):∀{xs:List V}{ps:List (Int×Int)},Prs H xs ps->Prs H' xs ps
 | _,_,.nil=>.nil
 | _,_,.cons r t=>.cons (r.keep s) (Prs.keep s t)
theorem Prs.get{H:Hp}:∀{xs:List V}{ps:List (Int×Int)},Prs H xs ps->∀(i:Nat) (u:V),xs[i]? = some u->∃p,ps[i]? = some p/\Pr H u p
 | _,_,.nil,i,u,e=>by simp at e
 | _,_,.cons r t,0,u,e=>by
  simp at e
  subst e
  exact⟨_,rfl,r⟩
 | _,_,.cons r t,i+1,u,e=>by
  obtain⟨p,h1,h2⟩:=Prs.get t i u (by simpa using e)
  exact⟨p,by simpa using h1,h2⟩
theorem Prs.snoc{H:Hp}{xs:List V}{ps:List (Int×Int)}{u:V}{p:Int×Int}(h:Prs H xs ps)(q:Pr H u p):Prs H (xs++[u]) (ps++[p]):=gQ h q
theorem Prs.len{H:Hp}:∀{xs:List V}{ps:List (Int×Int)},Prs H xs ps->xs.length=ps.length
 | _,_,.nil=>rfl
 | _,_,.cons _ t=>by rw[c9,c9,Prs.len t]
noncomputable def lwtL(ns:List Int)(r:Int):List (Int×Int):=(z1d ns).map fun n=>(n,z0W ns n r)
noncomputable def z4m(ns:List Int)(r:Int):List Int:=((lwtL ns r).filter fun q=>decide (q.2=0)).map Prod.fst
noncomputable def y7t(K:PySem.W.Frag):Sp:=fun vs H Q _=>∃(p:Addr) (ns:List Int) (r:Int),vs=[.ref p,.int r]/\SqI K H p ns/\(∀x∈ns,1≤x/\x≤60)/\ns.length≤900/\
 ∀(l:Addr) (xs:List V) (H':Hp),A4 H H'->H' l=some (.tup xs)->Prs H' xs (lwtL ns r)->Q (.ref l) H'
theorem y7I(M:Bl mg)(F:Fun K "lacking_with_tellers" "lacking_with_tellers" z1K f fd)(J1:Cal P w K mg base 1 "lacking_numbers" z2U (y6y K))
  (Q7:Cal P w K mg base 1 "teller_of" z6M (y1P K)):A8 P w K mg base CX0 2 f fd z1g (y7t K):=by
 have nd:=z2s.nd
 refine F.ok z2s (fun vs H Q E h=>?_) (fun cdv A outer s H vs Q E hr h=>?_)
 ·obtain⟨p,ns,r,rfl,_⟩:=h
  rfl
 obtain⟨p,ns,r,rfl,hS,C7,hlen,q⟩:=h
 refine⟨_,(z05 (z0d (z0q z0l rfl M.tuple bI (z00 (z1n ["number"] ["had","reach"] [0,1] rfl (z0z rfl (by decide +kernel) rfl (by decide +kernel) rfl rfl) (z2N (z0k J1 (rm hr) rfl (z00 (pv 0) z01))) (fun _ _ _ _ _=>(z0h (i:=0) (show((["number"]:List PySem.Str)++(["had","reach"]:List PySem.Str)).Nodup from by decide +kernel) rfl (Or.inl rfl))) (z0A (by decide)) z0a (fun _ _ _ _ _=>z1Z) (fun _ _ _ _ _=>(z0I (z00 (pv 0) (z00 (z0k Q7 (rm hr) rfl (z00 (pv 1) (z00 (pv 0) (z00 (pv 2) z01)))) z01))))) z01)))),?_⟩
 refine⟨_,rfl,p,ns,rfl,hS,C7,fun lt H1 nlt s1 e1=>⟨lt,rfl,⟨_,SqT.of e1⟩,?_⟩⟩
 have ll:=z2O ns
 refine z2r (xs:=(z1d ns).map V.int) (fun i ys H'=>A4 H1 H'/\Prs H' ys (((z1d ns).take i).map fun n=>(n,z0W ns n r))) ⟨A4.refl _,.nil⟩ (fun i ys H' hi hp=>?_) (fun i x ys H' hx hp=>?_) (fun ys H' hp=>?_)
 ·obtain⟨g,pr⟩:=hp
  refine⟨SqT.of (g _ _ e1),z0n ?_⟩
  rw[pr.len,b9,bO]
  omega
 ·obtain⟨g,pr⟩:=hp
  rw[bK] at hx
  cases e:(z1d ns)[i]? with
  | none=>rw[e] at hx;cases hx
  | some n=>
   rw[e] at hx
   cases hx
   refine⟨_,rfl,_,rfl,_,rfl,_,rfl,p,ns,n,r,rfl,SqI.keep (s1.trans g) hS,C7,hlen,fun H2 g2=>⟨(by show 2≤sizeLine;decide),fun t ht=>?_⟩⟩
   refine⟨g.trans (g2.trans (z02 ht _)),?_⟩
   rw[z0x e,bG]
   exact Prs.snoc (pr.keep (g2.trans (z02 ht _))) ⟨t,rfl,z04⟩
 ·obtain⟨g,pr⟩:=hp
  rw[b9,bX] at pr
  intro D hD
  refine⟨D,_,rfl,.inl ⟨SqL.of z04,fun l hl=>?_⟩⟩
  exact q l ys _ (s1.trans (g.trans ((z02 hD _).trans (z02 hl _)))) z04 (pr.keep ((z02 hD _).trans (z02 hl _)))
noncomputable def y1O(K:PySem.W.Frag):Sp:=fun vs H Q _=>∃(p:Addr) (ns:List Int) (r:Int),vs=[.ref p,.int r]/\SqI K H p ns/\(∀x∈ns,1≤x/\x≤60)/\ns.length≤900/\
 ∀(l:Addr) (H':Hp),A4 H H'->H' l=some (.tup ((z4m ns r).map V.int))->Q (.ref l) H'
theorem y4B(ns:List Int)(r:Int):(lwtL ns r).length≤60:=by
 unfold lwtL
 rw[b9]
 exact z2O ns
theorem y7o(M:Bl mg)(F:Fun K "dark_numbers" "dark_numbers" z48 f fd)(B9:Cal P w K mg base 2 "lacking_with_tellers" z1g (y7t K)):A8 P w K mg base CX0 3 f fd z2i (y1O K):=by
 have nd:=z5d.nd
 refine F.ok z5d (fun vs H Q E h=>?_) (fun cdv A outer s H vs Q E hr h=>?_)
 ·obtain⟨p,ns,r,rfl,_⟩:=h
  rfl
 obtain⟨p,ns,r,rfl,hS,C7,hlen,q⟩:=h
 refine⟨_,(z05 (z0d (z0q z0l rfl M.tuple bI (z00 (z1n ["number","teller"] [] [] rfl (z0z rfl (by decide +kernel) rfl (by decide +kernel) rfl rfl) (z2N (z0k B9 (rm hr) rfl (z00 (pv 0) (z00 (pv 1) z01)))) (fun _ _ _ _ _=>(z7K (K:=K) (n:=2) rfl rfl (z0O (z0h (i:=0) (show((["number","teller"]:List PySem.Str)++([]:List PySem.Str)).Nodup from by decide +kernel) rfl (Or.inl rfl)) (z0O (z0h (i:=1) (show((["number","teller"]:List PySem.Str)++([]:List PySem.Str)).Nodup from by decide +kernel) rfl (Or.inl rfl)) z3y)))) (z84 (z1p (z0A (by decide)) z0a (z1p (z0A (by decide)) z0a z5L z0R) (z0E z0a z0R))) (z5S (z0E z0a (z0E z0a z0R))) (fun _ _ _ _ _=>(z2A (z08 z23 (pv 1) z06 (z0i _)))) (fun _ _ _ _ _=>(pv 0))) z01)))),?_⟩
 refine⟨_,rfl,_,rfl,p,ns,r,rfl,hS,C7,hlen,fun lt xs H1 s1 e1 pr1=>⟨lt,rfl,⟨_,SqT.of e1⟩,?_⟩⟩
 have ll:=y4B ns r
 have lx:=pr1.len
 refine z2r (xs:=xs) (fun i ys H'=>H'=H1/\ys=(((lwtL ns r).take i).filter fun q=>decide (q.2=0)).map fun q=>V.int q.1) ⟨rfl,rfl⟩ (fun i ys H' hi hp=>?_) (fun i x ys H' hx hp=>?_) (fun ys H' hp=>?_)
 ·obtain⟨rfl,rfl⟩:=hp
  refine⟨SqT.of e1,z0n ?_⟩
  have h1:=cI (fun q:Int×Int=>decide (q.2=0)) ((lwtL ns r).take i)
  rw[b9]
  rw[bO] at h1
  omega
 ·obtain⟨rfl,rfl⟩:=hp
  obtain⟨⟨n,t⟩,e,a,rfl,ha⟩:=pr1.get i x hx
  refine⟨a,_,rfl,SqT.of ha,rfl,_,_,rfl,_,_,rfl,rfl,?_⟩
  refine⟨_,rfl,rfl,_,rfl,?_⟩
  rw[z0x e,dN,eQ,bG]
  refine B4 (fun c=>?_) (fun c=>?_)
  ·have c':decide (t=0)=true:=decide_eq_true (V.int.inj (z0C c))
   refine⟨_,rfl,rfl,?_⟩
   rw[if_pos c']
   rfl
  ·have c':¬decide (t=0)=true:=fun z=>c (decide_eq_true (congrArg V.int (z0C z)))
   refine⟨rfl,?_⟩
   rw[if_neg c']
   simp
 ·obtain⟨rfl,rfl⟩:=hp
  rw[lx,bX]
  intro D hD
  refine⟨D,_,rfl,.inl ⟨SqL.of z04,fun l hl=>?_⟩⟩
  refine q l _ (s1.trans ((z02 hD _).trans (z02 hl _))) ?_
  rw[z04]
  unfold z4m
  rw[dH]
  rfl
theorem z7O(ns:List Int)(r:Int):(z4m ns r).length≤60:=by
 have h:=cI (fun q:Int×Int=>decide (q.2=0)) (lwtL ns r)
 have:=y4B ns r
 unfold z4m
 rw[b9]
 omega
noncomputable def z1Y(ns:List Int)(r b:Int):List Int:=(z4m ns r).filter fun y=>decide (b<y)
noncomputable def z61(K:PySem.W.Frag):Sp:=fun vs H Q _=>∃(p:Addr) (ns:List Int) (r b:Int),vs=[.ref p,.int r,.int b]/\SqI K H p ns/\(∀x∈ns,1≤x/\x≤60)/\ns.length≤900/\
 ∀(l:Addr) (H':Hp),A4 H H'->H' l=some (.tup ((z1Y ns r b).map V.int))->Q (.ref l) H'
theorem y3O(M:Bl mg)(F:Fun K "dark_numbers_behind" "dark_numbers_behind" z1X f fd)(C8:Cal P w K mg base 3 "dark_numbers" z2i (y1O K)):A8 P w K mg base CX0 4 f fd z0S (z61 K):=by
 have nd:=z2J.nd
 refine F.ok z2J (fun vs H Q E h=>?_) (fun cdv A outer s H vs Q E hr h=>?_)
 ·obtain⟨p,ns,r,b,rfl,_⟩:=h
  rfl
 obtain⟨p,ns,r,b,rfl,hS,C7,hlen,q⟩:=h
 refine⟨_,(z05 (z0d (z0q z0l rfl M.tuple bI (z00 (z1n ["number"] ["behind"] [2] rfl (z0z rfl (by decide +kernel) rfl (by decide +kernel) rfl rfl) (z2N (z0k C8 (rm hr) rfl (z00 (pv 0) (z00 (pv 1) z01)))) (fun _ _ _ _ _=>(z0h (i:=0) (show((["number"]:List PySem.Str)++(["behind"]:List PySem.Str)).Nodup from by decide +kernel) rfl (Or.inl rfl))) (z0A (by decide)) z0a (fun _ _ _ _ _=>(z2A (z08 z2c (pv 0) (pv 1) (z0i _)))) (fun _ _ _ _ _=>(pv 0))) z01)))),?_⟩
 refine⟨_,rfl,_,rfl,p,ns,r,rfl,hS,C7,hlen,fun lt H1 s1 e1=>⟨lt,rfl,⟨_,SqT.of e1⟩,?_⟩⟩
 have ll:=z7O ns r
 refine z8S (ns:=z4m ns r) (fun y=>decide (b<y)) (fun y=>.int y) (SqT.of e1) (by omega) (fun y ys N hy hN=>?_) (fun D hD=>?_)
 ·refine⟨_,rfl,_,rfl,_,_,rfl,rfl,_,rfl,?_⟩
  refine B4 (fun c=>?_) (fun c=>?_)
  ·rw[if_pos c] at hN
   exact⟨_,rfl,hN⟩
  ·rw[if_neg c] at hN
   exact hN
 ·exact⟨D,_,rfl,.inl ⟨SqL.of z04,fun l hl=>q l _ (s1.trans ((z02 hD _).trans (z02 hl _))) z04⟩⟩
noncomputable def y1W(Sh:ShP):Sp:=fun vs H Q _=>∃(p:Addr) (fp:List Addr) (zs:List Str) (r:Int) (iss:Int->DV) (had:List Int) (n:Int) (d0 d1 d2:DV),vs=[.ref p,.int n]/\Sh H p fp zs r iss had/\n∈had/\iss n=.tup [d0,d1,d2]/\∀v,Tell H d2 v->Q v H
theorem z7D{kvs:List (Key×V)}{had:List Int}(kk:kvs.map (·.1)=had.map Sum.inl){n:Int}(h:n∈had):∃v,K9 kvs (Sum.inl n:Key)=some v/\((Sum.inl n:Key),v)∈kvs:=by
 have e:=z9h kk n
 rw[decide_eq_true h] at e
 cases ev:K9 kvs (Sum.inl n:Key) with
 | none=>rw[ev] at e;cases e
 | some v=>
  refine⟨v,rfl,?_⟩
  unfold K9 at ev
  obtain⟨⟨k,u⟩,hf,rfl⟩:=cP.mp ev
  have h1:=fZ hf
  have h2:=List.find?_some hf
  simp only[decide_eq_true_eq] at h2
  rw[h2] at h1
  exact h1
theorem y4F{A1:Addr}(M:Bl mg)(T:TxShelf K mg A1)(F:Fun K "tail_of" "Shelf.tail_of" z3E f fd):A8 P w K mg base CX0 1 f fd z3v (y1W (ShD K A1)):=by
 have nd:=z4r.nd
 refine F.ok z4r (fun vs H Q E h=>?_) (fun cdv A outer s H vs Q E hr h=>?_)
 ·obtain⟨p,fp,zs,r,iss,had,n,d0,d1,d2,rfl,_⟩:=h
  rfl
 obtain⟨p,fp,zs,r,iss,had,n,d0,d1,d2,rfl,sh,hn,en,k⟩:=h
 have hu:=z8G hr
 refine⟨_,(z05 (z0d (z0M z1b (z5q hu (z0u (pv 0) rfl) (pv 1) (fun _ _=>rfl)) z06 (fun _ _=>rfl)))),?_⟩
 obtain⟨dx,pn,pd,fs,kvs,rfl,h1,h2,h3,h4,l1,l2,l3,lm,kk,ndh,all,tl,g,r0,r1⟩:=sh
 obtain⟨v,ev,mv⟩:=z7D kk hn
 have tv:=tl n v mv
 rw[en] at tv
 obtain⟨a,us,rfl,ea,_,tu⟩:=z0s tv
 obtain⟨x0,ur,rfl,t0,tu⟩:=z0j tu
 obtain⟨x1,ur,rfl,t1,tu⟩:=z0j tu
 obtain⟨x2,ur,rfl,t2,tu⟩:=z0j tu
 refine⟨_,rfl,p,A1,dx,fs,_,rfl,h1,T.cl,T.n_issues,l3,_,rfl,pd,_,rfl,(by rw[<- ev];exact N8.k (k:=Sum.inl n) h4),?_⟩
 exact⟨a,_,_,x2,rfl,rfl,SqT.of ea,z1O rfl,k x2 t2⟩
theorem y5D(n r:Int):(z6N n r).Nodup:=by
 have h:(dnI (n-1) (n-1).toNat).Nodup:=by
  unfold dnI
  rw[d5,dR]
  exact List.pairwise_lt_range.imp fun h=>by omega
 exact h.filter _
theorem y3o{n r k:Int}:k∈z6N n r↔1≤k/\k<n/\n-k≤r:=by
 unfold z6N
 rw[cK,z9I,decide_eq_true_eq]
 omega
theorem z92{K:PySem.W.Frag}{H:Hp}{rows:List Row}:∀{ks:List Int}{xs:List V},z0c H (ks.map (y1a rows)) xs->∃kvs:List (Key×V),Paired (y4X K H) xs kvs/\kvs.map (·.1)=ks.map Sum.inl/\∀k v,((Sum.inl k:Key),v)∈kvs->Tell H (nmsD (z1T (z15 rows k))) v
 | [],xs,h=>by
  rw[z0X h]
  exact⟨[],.nil,rfl,fun _ _ q=>(nomatch q)⟩
 | k::ks,xs,h=>by
  obtain⟨x,r,rfl,t,h⟩:=z0j h
  obtain⟨kvs,p1,p2,p3⟩:=z92 h
  obtain⟨a,us,rfl,ea,_,tu⟩:=z0s t
  obtain⟨x0,ur,rfl,t0,tu⟩:=z0j tu
  obtain⟨x1,ur,rfl,t1,tu⟩:=z0j tu
  have:=z0X tu
  subst this
  cases z1k t0
  refine⟨(Sum.inl k,x1)::kvs,.cons ⟨a,rfl,.inr (SqT.of ea)⟩ p1,by rw[cQ,cQ,p2],fun m v hv=>?_⟩
  rcases bD.mp hv with e|hv
  ·cases e
   exact t1
  ·exact p3 m v hv
noncomputable def y7m(rows:List Row)(n t:Int):DV:=if t=0 then .tup [] else nmsD (z1T (z15 rows n))
noncomputable def y6f(Sh:ShP):Sp:=fun vs H Q _=>∃(x:Addr) (n t:Int) (fp:List Addr) (nm:List Str) (r:Int) (rows:List Row) (had:List Int),vs=[.ref x,.int n,.int t]/\Sh H x fp nm r (fun n=>z11 rows n r) had/\(t≠0->t∈had/\t≤60/\n∈z6N t r)/\
 ∀(v:V) (H':Hp),A4 H H'->Tell H' (y7m rows n t) v->Q v H'
theorem y6Z{A1:Addr}(M:Bl mg)(T:TxShelf K mg A1)(F:Fun K "names_told_of" "names_told_of" z3D f fd)(K7:C5 P w K mg base 1 A1 "tail_of" z3v (y1W (ShD K A1))) :
  A8 P w K mg base CX0 2 f fd z3u (y6f (ShD K A1)):=by
 have nd:=z4u.nd
 refine F.ok z4u (fun vs H Q E h=>?_) (fun cdv A outer s H vs Q E hr h=>?_)
 ·obtain⟨x,n,t,fp,nm,r,rows,had,rfl,_⟩:=h
  rfl
 obtain⟨x,n,t,fp,nm,r,rows,had,rfl,sh,ht,k⟩:=h
 have hu:=z8G hr
 refine⟨_,(z03 (z0G (z08 z23 (pv 2) z06 (z0i _)) (z05 (z0d (z0I z01))) z0g) (z05 (z0d (z5q hu (z0q (z3j (K:=K) rfl rfl) rfl M.dict fI (z00 (z1z K7 (rm hr) (pv 0) (z00 (pv 2) z01)) z01)) (pv 1) (fun _ _=>rfl))))),?_⟩
 refine⟨_,rfl,rfl,_,rfl,B4 (fun c=>?_) (fun c=>?_)⟩
 ·have c':t=0:=V.int.inj (z0C c)
  refine⟨(by show 0≤sizeLine;decide),fun l hl=>k _ _ (z02 hl _) ?_⟩
  unfold y7m
  rw[if_pos c']
  exact z0w z04 (by show 0≤1000000;decide) .nil
 ·have c':t≠0:=fun z=>c (decide_eq_true (congrArg V.int z))
  obtain⟨th,t60,tn⟩:=ht c'
  obtain⟨dx,fs,h1,lm⟩:∃dx fs,H x=some (.ins A1 dx fs)/\fs.lookup ("tail_of":Str)=none:=by
   obtain⟨dx,pn,pd,fs,kvs,_,h1,_,_,_,_,_,_,lm,_⟩:=sh
   exact⟨dx,fs,h1,lm _ (by simp)⟩
  refine⟨_,rfl,x,dx,fs,rfl,h1,lm,_,rfl,x,fp,nm,r,_,had,t,_,_,_,rfl,sh,th,rfl,fun v tv=>?_⟩
  obtain⟨a,us,rfl,ea,_,tu⟩:=z0s tv
  obtain⟨kvs,p1,p2,p3⟩:=z92 (K:=K) tu
  have lu:us.length≤1000:=by
   rw[tu.length,b9]
   unfold z6N
   have:=cI (fun k=>decide (t-k≤r)) (dnI (t-1) (t-1).toNat)
   rw[z9m] at this
   omega
  refine⟨a,us,kvs,rfl,.inr ea,p1,lu,?_,fun l hl=>?_⟩
  ·rw[p2]
   rw[d5,dR]
   exact(d5.mp (y5D t r)).imp fun h e=>h (Sum.inl.inj e)
  ·obtain⟨v,ev,mv⟩:=z7D p2 tn
   refine⟨_,rfl,l,_,rfl,(by rw[<- ev];exact N8.k (k:=Sum.inl n) z04),?_⟩
   refine k v _ (z02 hl _) ?_
   unfold y7m
   rw[if_neg c']
   exact Tell.keep (z02 hl _) _ _ (p3 n v mv)
theorem y5N{had:List Int}{r n:Int}(h60:∀n∈had,1≤n/\n≤60)(hn:n∈z1d (z0m had))(h:z0W (z0m had) n r≠0):z0W (z0m had) n r∈had/\z0W (z0m had) n r≤60/\n∈z6N (z0W (z0m had) n r) r:=by
 unfold z0W at h ⊢
 cases e:(upI 1 60).find? (y1t (z0m had) n r) with
 | none=>rw[e] at h;exact absurd rfl h
 | some y=>
  obtain⟨_,hc,_⟩:=y4k (z1S 1 60) e
  obtain⟨a,b,c⟩:=z4x.mp hc
  have hy:=(z1j.mp c).2
  have:=h60 y hy
  have:=(z25.mp hn).1
  show y∈had/\y≤60/\n∈z6N y r
  exact⟨hy,by omega,y3o.mpr (by omega)⟩
theorem y3J{A1:Addr}(M:Bl mg)(T:TxShelf K mg A1)(F:Fun K "gaps_of" "gaps_of" z9E f fd)(A7:C5 P w K mg base 1 A1 "had" z0Z (z2u (ShD K A1)))
  (B9:Cal P w K mg base 2 "lacking_with_tellers" z1g (y7t K)) (L7:Cal P w K mg base 2 "names_told_of" z3u (y6f (ShD K A1))) :
  A8 P w K mg base CX0 3 f fd z64 (z7x (ShD K A1)):=by
 have nd:=y0P.nd
 refine F.ok y0P (fun vs H Q E h=>?_) (fun cdv A outer s H vs Q E hr h=>?_)
 ·obtain⟨x,fp,nm,r,rows,had,rfl,_⟩:=h
  rfl
 obtain⟨x,fp,nm,r,rows,had,rfl,sh,gn,rw',l60,hh,r0,r1,k⟩:=h
 refine⟨_,(z03 (z0f (i:=1) nd rfl (Or.inl rfl) (z0k B9 (rm hr) rfl (z00 (z1q A7 (rm hr) (pv 0)) (z00 (z0u (pv 0) rfl) z01)))) (z05 (z0d (z0q z0l rfl M.tuple bI (z00 (z1n ["number","teller"] ["shelf"] [0] rfl (z0z rfl (by decide +kernel) rfl (by decide +kernel) rfl rfl) (z2N (pv 1)) (fun _ _ _ _ _=>(z7K (K:=K) (n:=2) rfl rfl (z0O (z0h (i:=0) (show((["number","teller"]:List PySem.Str)++(["shelf"]:List PySem.Str)).Nodup from by decide +kernel) rfl (Or.inl rfl)) (z0O (z0h (i:=1) (show((["number","teller"]:List PySem.Str)++(["shelf"]:List PySem.Str)).Nodup from by decide +kernel) rfl (Or.inl rfl)) z3y)))) (z84 (z1p (z0A (by decide)) z0a (z1p (z0A (by decide)) z0a z5L z0R) (z0E z0a z0R))) (z5S (z0E z0a (z0E z0a z0R))) (fun _ _ _ _ _=>z1Z) (fun _ _ _ _ _=>(z0I (z00 (pv 0) (z00 (pv 1) (z00 (z0k L7 (rm hr) rfl (z00 (pv 2) (z00 (pv 0) (z00 (pv 1) z01)))) z01)))))) z01))))),?_⟩
 have h60:∀n∈had,1≤n/\n≤60:=fun n hn=>by have:=hh n hn;omega
 obtain⟨dx,fs,h1,lm,lr⟩:∃dx fs,H x=some (.ins A1 dx fs)/\fs.lookup ("had":Str)=none/\fs.lookup ("reach":Str)=some (V.int r):=by
  obtain⟨dx,pn,pd,fs,kvs,_,h1,_,_,_,_,lr,_,lm,_⟩:=sh
  exact⟨dx,fs,h1,lm _ (by simp),lr⟩
 refine⟨_,rfl,x,dx,fs,rfl,h1,lm,x,fp,nm,r,_,had,rfl,sh,fun l H1 s1 e1=>?_⟩
 refine⟨_,rfl,x,A1,dx,fs,_,rfl,s1 _ _ h1,T.cl,T.n_reach,lr,l,z0m had,r,rfl,.inr (SqT.of e1),fun n hn=>h60 n (z1j.mp hn).2,cL (z67 had) (by decide),fun lt xs H2 s2 e2 pr2=>?_⟩
 have sh2:ShD K A1 H2 x fp nm r (fun n=>z11 rows n r) had:=shOk.same sh (s1.trans s2)
 have lx:xs.length=(z1d (z0m had)).length:=by rw[pr2.len];unfold lwtL;rw[b9]
 have ll:=z2O (z0m had)
 refine⟨_,rfl,lt,rfl,⟨_,SqT.of e2⟩,?_⟩
 refine z2r (xs:=xs) (fun i ys H'=>A4 H2 H'/\z0c H' (((z1d (z0m had)).take i).map (gapD (z0m had) rows r)) ys) ⟨A4.refl _,by rw[cV];exact .nil⟩ (fun i ys H' hi hp=>?_) (fun i y ys H' hy hp=>?_) (fun ys H' hp=>?_)
 ·obtain⟨g,t⟩:=hp
  refine⟨SqT.of (g _ _ e2),z0n ?_⟩
  rw[t.length,b9,bO]
  omega
 ·obtain⟨g,t⟩:=hp
  obtain⟨⟨n,tl⟩,e,a,rfl,ha⟩:=pr2.get i y hy
  unfold lwtL at e
  rw[bK] at e
  obtain⟨m,em,e3⟩:=cP.mp e
  cases e3
  refine⟨a,_,rfl,SqT.of (g _ _ ha),rfl,_,_,rfl,_,_,rfl,rfl,?_⟩
  refine⟨_,rfl,_,rfl,_,rfl,_,rfl,_,rfl,x,n,_,fp,nm,r,rows,had,rfl,shOk.same sh2 g,y5N h60 (bQ em),fun v H3 s3 tv=>?_⟩
  refine⟨(by show 3≤sizeLine;decide),fun q hq=>⟨g.trans (s3.trans (z02 hq _)),?_⟩⟩
  rw[dZ,em,bG]
  exact z0c.snoc (z0c.keep (s3.trans (z02 hq _)) _ _ t) (z0w z04 (by show 3≤1000000;decide) (.cons (z0J _) (.cons (z0J _) (.cons (Tell.keep (z02 hq _) _ _ tv) .nil))))
 ·obtain⟨g,t⟩:=hp
  rw[lx,bX] at t
  intro D hD
  refine⟨D,ys,rfl,.inl ⟨SqL.of z04,fun q hq=>k _ _ (s1.trans (s2.trans (g.trans ((z02 hD _).trans (z02 hq _))))) (z0w z04 ?_ (z0c.keep ((z02 hD _).trans (z02 hq _)) _ _ t))⟩⟩
  unfold z7r
  rw[b9]
  omega
noncomputable def z7t(Sh:ShP):Sp:=fun vs H Q _=>∃(p:Addr) (fp:List Addr) (zs:List Str) (r:Int) (iss:Int->DV) (had:List Int) (n:Int) (d0 d1 d2:DV),vs=[.ref p,.int n]/\Sh H p fp zs r iss had/\n∈had/\iss n=.tup [d0,d1,d2]/\∀v,Tell H d1 v->Q v H
theorem y4G{A1:Addr}(M:Bl mg)(T:TxShelf K mg A1)(F:Fun K "rows_of" "Shelf.rows_of" z3A f fd):A8 P w K mg base CX0 1 f fd z27 (z7t (ShD K A1)):=by
 have nd:=z4F.nd
 refine F.ok z4F (fun vs H Q E h=>?_) (fun cdv A outer s H vs Q E hr h=>?_)
 ·obtain⟨p,fp,zs,r,iss,had,n,d0,d1,d2,rfl,_⟩:=h
  rfl
 obtain⟨p,fp,zs,r,iss,had,n,d0,d1,d2,rfl,sh,hn,en,k⟩:=h
 have hu:=z8G hr
 refine⟨_,(z05 (z0d (z0M z1b (z5q hu (z0u (pv 0) rfl) (pv 1) (fun _ _=>rfl)) z06 (fun _ _=>rfl)))),?_⟩
 obtain⟨dx,pn,pd,fs,kvs,rfl,h1,h2,h3,h4,l1,l2,l3,lm,kk,ndh,all,tl,g,r0,r1⟩:=sh
 obtain⟨v,ev,mv⟩:=z7D kk hn
 have tv:=tl n v mv
 rw[en] at tv
 obtain⟨a,us,rfl,ea,_,tu⟩:=z0s tv
 obtain⟨x0,ur,rfl,t0,tu⟩:=z0j tu
 obtain⟨x1,ur,rfl,t1,tu⟩:=z0j tu
 refine⟨_,rfl,p,A1,dx,fs,_,rfl,h1,T.cl,T.n_issues,l3,_,rfl,pd,_,rfl,(by rw[<- ev];exact N8.k (k:=Sum.inl n) h4),?_⟩
 exact⟨a,_,_,x1,rfl,rfl,SqT.of ea,z1O rfl,k x1 t1⟩
theorem y0b{K:PySem.W.Frag}{H:Hp}:∀{w:Row}{xs:List V},z0c H (w.map z9p) xs->Paired (y4X K H) xs (w.map kvR)
 | [],xs,h=>by
  rw[z0X h]
  exact .nil
 | p::w,xs,h=>by
  obtain⟨x,r,rfl,t,h'⟩:=z0j h
  obtain⟨a,us,rfl,ea,_,tu⟩:=z0s t
  obtain⟨x0,ur,rfl,t0,tu⟩:=z0j tu
  obtain⟨x1,ur,rfl,t1,tu⟩:=z0j tu
  have:=z0X tu
  subst this
  rw[z4L t0,z1k t1] at ea
  exact .cons ⟨a,rfl,.inr (SqT.of ea)⟩ (y0b h')
theorem foldV(w:Row)(z:Str):∀acc:Option Int,w.foldl (fun acc p=>if p.1=z then some p.2 else acc) acc=match valL w z with|some v=>some v|none=>acc:=by
 unfold valL
 induction w with
 | nil=>intro acc;rfl
 | cons p w ih=>
  intro acc
  rw[dY,dY,ih,ih (if p.1=z then some p.2 else none)]
  cases w.foldl (fun acc p=>if p.1=z then some p.2 else acc) none with
  | some v=>rfl
  | none=>
   by_cases h:p.1=z
   ·rw[if_pos h,if_pos h]
   ·rw[if_neg h,if_neg h]
theorem y0O(p:Str×Int)(w:Row)(z:Str):valL (p::w) z=match valL w z with|some v=>some v|none=>if p.1=z then some p.2 else none:=by
 conv=>lhs;unfold valL
 rw[dY,foldV]
theorem y4c{w:Row}{z:Str}(h:z∉w.map Prod.fst):valL w z=none:=by
 induction w with
 | nil=>rfl
 | cons p w ih=>
  rw[cQ,bD,not_or] at h
  rw[y0O,ih h.2,if_neg (fun e=>h.1 e.symm)]
theorem y1g{z:Str}:∀{w:Row},(w.map Prod.fst).Nodup->K9 (w.map kvR) (Sum.inr z:Key)=(valL w z).map V.int
 | [],_=>rfl
 | p::w,h=>by
  rw[cQ,dE] at h
  rw[cQ,y0O]
  by_cases e:p.1=z
  ·rw[z6r (show(kvR p).1=Sum.inr z by unfold kvR;rw[e]),y4c (e ▸ h.1),if_pos e]
   rfl
  ·rw[z6j (show ¬(kvR p).1=Sum.inr z from fun q=>e (Sum.inr.inj q)),y1g h.2,if_neg e]
   cases valL w z<;>rfl
theorem y7P{nm:List Str}{rows:List Row}(g:GoodN nm)(R:Rws nm rows)(n:Int):((z15 rows n).map Prod.fst).Nodup:=by
 unfold z15
 rw[bY]
 cases e:rows[(n-1).toNat]? with
 | none=>exact .nil
 | some w=>exact(R.sub w (bQ e)).nodup g.nd
theorem y1J{nm:List Str}{rows:List Row}(g:GoodN nm)(R:Rws nm rows)(n:Int):(z15 rows n).length≤12:=by
 unfold z15
 rw[bY]
 cases e:rows[(n-1).toNat]? with
 | none=>exact cR _
 | some w=>
  have h:=(R.sub w (bQ e)).length_le
  rw[b9] at h
  exact cL h g.hi
noncomputable def z2I(Sh:ShP):Sp:=fun vs H Q _=>∃(x:Addr) (z:Str) (fp:List Addr) (nm:List Str) (r:Int) (rows:List Row) (had:List Int),vs=[.ref x,.str z]/\Sh H x fp nm r (fun n=>z11 rows n r) had/\z∈nm/\GoodN nm/\Rws nm rows/\
 ∀(v:V) (H':Hp),A4 H H'->Tell H' (y3i (z2v (z0m had) rows z)) v->Q v H'
theorem y2D{A1:Addr}(M:Bl mg)(T:TxShelf K mg A1)(F:Fun K "held_for" "held_for" z6a f fd)(B3:Cal P w K mg base 1 "refuse_unknown_name" z0H (y1f K))
  (A7:C5 P w K mg base 1 A1 "had" z0Z (z2u (ShD K A1))) (C4:C5 P w K mg base 1 A1 "rows_of" z27 (z7t (ShD K A1))) :
  A8 P w K mg base CX0 2 f fd z1A (z2I (ShD K A1)):=by
 have nd:=z4Z.nd
 refine F.ok z4Z (fun vs H Q E h=>?_) (fun cdv A outer s H vs Q E hr h=>?_)
 ·obtain⟨x,z,fp,nm,r,rows,had,rfl,_⟩:=h
  rfl
 obtain⟨x,z,fp,nm,r,rows,had,rfl,sh,hz,gn,R,k⟩:=h
 have hu:=z8G hr
 refine⟨_,(z03 (z0y (z0k B3 (rm hr) rfl (z00 (z0u (pv 0) rfl) (z00 (pv 1) z01)))) (z03 (z1s cD rfl (y3F rfl M.reversed (z00 (z1q A7 (rm hr) (pv 0)) z01)) (z0h (i:=2) nd rfl (Or.inl rfl)) (z03 (z0f (i:=3) nd rfl (Or.inl rfl) (z0q (z3j (K:=K) rfl rfl) rfl M.dict fI (z00 (z1z C4 (rm hr) (pv 0) (z00 (pv 2) z01)) z01))) (z05 (z0G (z7d (y2o hu (pv 1) (pv 3))) (z05 (z0d (z0I (z00 (pv 2) (z00 (z5q hu (pv 3) (pv 1) (fun _ _=>rfl)) z01))))) z0g)))) (z05 (z0d (z0I (z00 z06 (z00 z9a z01))))))),?_⟩
 obtain⟨dx,pn,fs,h1,h3,ln,lh,lo⟩:∃dx pn fs,H x=some (.ins A1 dx fs)/\H pn=some (.tup (nm.map V.str))/\fs.lookup ("names":Str)=some (V.ref pn)/\fs.lookup ("had":Str)=none/\fs.lookup ("rows_of":Str)=none:=by
  obtain⟨dx,pn,pd,fs,kvs,_,h1,_,h3,_,l1,_,_,lm,_⟩:=sh
  exact⟨dx,pn,fs,h1,h3,l1,lm _ (by simp),lm _ (by simp)⟩
 refine⟨_,rfl,x,A1,dx,fs,_,rfl,h1,T.cl,T.n_names,ln,_,rfl,pn,nm,z,rfl,.inr (SqT.of h3),hz,?_⟩
 refine⟨_,rfl,x,dx,fs,rfl,h1,lh,x,fp,nm,r,_,had,rfl,sh,fun l H1 s1 e1=>?_⟩
 refine⟨l,_,rfl,SqT.of e1,?_⟩
 have sh1:ShD K A1 H1 x fp nm r (fun n=>z11 rows n r) had:=shOk.same sh s1
 have L1:((z0m had).map V.int).length=(z0m had).length:=b9 _
 refine y7j (fun i σ H'=>∃(o1 o2:Option V),A4 H1 H'/\z2v (z0m had) rows z=z2v ((z0m had).take ((z0m had).length-i)) rows z/\σ=[some (.ref x),some (.str z),o1,o2])
  ⟨none,none,A4.refl _,by rw[hU,bX],rfl⟩ (fun i σ H' _ ⟨_,_,g,_⟩=>SqT.of (g _ _ e1)) (fun i y σ H' hy hp=>?_) (fun σ H' hp=>?_)
 ·obtain⟨o1,o2,g,eh,rfl⟩:=hp
  rw[<- List.map_reverse,bK] at hy
  obtain⟨n,hn,rfl⟩:=cP.mp hy
  have hi:i<(z0m had).length:=by
   have:=(cJ.mp hn).1
   rw[eV] at this
   exact this
  rw[List.getElem?_reverse hi] at hn
  have et:(z0m had).take ((z0m had).length-i)=(z0m had).take ((z0m had).length-(i+1))++[n]:=by
   have e:(z0m had).length-i=((z0m had).length-(i+1))+1:=by omega
   rw[e]
   refine z0x ?_
   rw[show(z0m had).length-(i+1)=(z0m had).length-1-i by omega]
   exact hn
  have nh:n∈had:=(z1j.mp (bQ hn)).2
  refine⟨_,rfl,x,dx,fs,rfl,g _ _ (s1 _ _ h1),lo,_,rfl,x,fp,nm,r,_,had,n,_,_,_,rfl,shOk.same sh1 g,nh,rfl,fun v tv=>?_⟩
  obtain⟨a,us,rfl,ea,_,tu⟩:=z0s tv
  have ndw:=y7P gn R n
  refine⟨a,us,(z15 rows n).map kvR,rfl,.inr ea,y0b tu,?_,?_,fun d hd=>?_⟩
  ·rw[tu.length,b9]
   have:=y1J gn R n
   omega
  ·have e:((z15 rows n).map kvR).map (·.1)=((z15 rows n).map Prod.fst).map Sum.inr:=by rw[dH,dH];rfl
   rw[e,d5,dR]
   exact(d5.mp ndw).imp fun h e=>h (Sum.inr.inj e)
  refine⟨_,rfl,_,rfl,d,_,rfl,N8.k (k:=Sum.inr z) z04,_,rfl,?_⟩
  rw[y1g ndw]
  rw[et,z93] at eh
  cases ev:valL (z15 rows n) z with
  | none=>
   rw[ev] at eh
   exact E7 ⟨_,_,g.trans (z02 hd _),eh,rfl⟩
  | some v=>
   rw[ev] at eh
   refine L8 ⟨_,rfl,_,rfl,_,rfl,d,_,rfl,(show N8 _ d (kV (Sum.inr z)) (some (V.int v)) by rw[<- show K9 ((z15 rows n).map kvR) (Sum.inr z:Key)=some (V.int v) by rw[y1g ndw,ev];rfl];exact N8.k z04),(by show 2≤sizeLine;decide),fun q hq=>k _ _ (s1.trans (g.trans ((z02 hd _).trans (z02 hq _)))) ?_⟩
   rw[eh]
   exact z0w z04 (by show 2≤1000000;decide) (.cons (z0J _) (.cons (z0J _) .nil))
 ·obtain⟨o1,o2,g,eh,rfl⟩:=hp
  rw[L1,Nat.sub_self,cV] at eh
  refine⟨(by show 2≤sizeLine;decide),fun q hq=>k _ _ (s1.trans (g.trans (z02 hq _))) ?_⟩
  rw[eh]
  exact z0w z04 (by show 2≤1000000;decide) (.cons (z0J _) (.cons z9J .nil))
noncomputable def z8R(Sh:ShP):Sp:=fun vs H Q _=>∃(x:Addr) (z:Str) (fp:List Addr) (nm:List Str) (r:Int) (rows:List Row) (had:List Int),vs=[.ref x,.str z]/\Sh H x fp nm r (fun n=>z11 rows n r) had/\z∈nm/\GoodN nm/\Rws nm rows/\rows.length≤60/\(∀n∈had,1≤n/\n≤rows.length)/\0≤r/\r≤10/\
 ∀(v:V) (H':Hp),A4 H H'->Tell H' (y6u (z0m had) rows r (z52 (z2v (z0m had) rows z)) z) v->Q v H'
theorem y1F{A1:Addr}(M:Bl mg)(T:TxShelf K mg A1)(F:Fun K "set_again" "set_again" z4S f fd)(B6:Cal P w K mg base 2 "held_for" z1A (z2I (ShD K A1)))
  (G8:Cal P w K mg base 3 "gaps_of" z64 (z7x (ShD K A1))):A8 P w K mg base CX0 4 f fd z35 (z8R (ShD K A1)):=by
 have nd:=z4e.nd
 refine F.ok z4e (fun vs H Q E h=>?_) (fun cdv A outer s H vs Q E hr h=>?_)
 ·obtain⟨x,z,fp,nm,r,rows,had,rfl,_⟩:=h
  rfl
 obtain⟨x,z,fp,nm,r,rows,had,rfl,sh,hz,gn,R,l60,hh,r0,r1,k⟩:=h
 refine⟨_,(z03 (z0f (i:=2) nd rfl (Or.inr rfl) (z0M z1b (z0k B6 (rm hr) rfl (z00 (pv 0) (z00 (pv 1) z01))) z06 (fun _ _=>rfl))) (z05 (z0d (z0q z0l rfl M.tuple bI (z00 (z1n ["number","teller","names"] ["held_from","name"] [2,1] rfl (z0z rfl (by decide +kernel) rfl (by decide +kernel) rfl rfl) (z2N (z0k G8 (rm hr) rfl (z00 (pv 0) z01))) (fun _ _ _ _ _=>(z7K (K:=K) (n:=3) rfl rfl (z0O (z0h (i:=0) (show((["number","teller","names"]:List PySem.Str)++(["held_from","name"]:List PySem.Str)).Nodup from by decide +kernel) rfl (Or.inl rfl)) (z0O (z0h (i:=1) (show((["number","teller","names"]:List PySem.Str)++(["held_from","name"]:List PySem.Str)).Nodup from by decide +kernel) rfl (Or.inl rfl)) (z0O (z0h (i:=2) (show((["number","teller","names"]:List PySem.Str)++(["held_from","name"]:List PySem.Str)).Nodup from by decide +kernel) rfl (Or.inl rfl)) z3y))))) (z84 (z1p (z0A (by decide)) z0a (z1p (z0A (by decide)) z0a (z1p (z0A (by decide)) z0a z5L z0R) (z0E z0a z0R)) (z0E z0a (z0E z0a z0R)))) (z5S (z0E z0a (z0E z0a (z0E z0a z0R)))) (fun _ _ _ _ _=>(z2A (PW.pt (z6l (z08 z2c (pv 0) (pv 3) (z0i _)) (z40 (z08 (r:=rIn K false) z66 (pv 4) (pv 2) (by with_unfolding_all rfl))))))) (fun _ _ _ _ _=>(z0I (z00 (pv 0) (z00 (pv 1) z01))))) z01))))),?_⟩
 refine⟨_,rfl,_,rfl,x,z,fp,nm,r,rows,had,rfl,sh,hz,gn,R,fun v H1 s1 tv=>?_⟩
 obtain⟨a,y,rfl,ea,_⟩:=z7G tv
 refine⟨a,_,_,_,rfl,rfl,SqT.of ea,z1O rfl,?_⟩
 have sh1:=shOk.same sh s1
 refine⟨_,rfl,x,fp,nm,r,rows,had,rfl,sh1,gn,R,l60,hh,r0,r1,fun u H2 s2 tu=>?_⟩
 obtain⟨b,xs,rfl,eb,_,tb⟩:=z0s tu
 have lx:=z8t tb
 have ll:=z2O (z0m had)
 generalize z52 (z2v (z0m had) rows z)=num at *
 refine⟨b,rfl,⟨_,SqT.of eb⟩,?_⟩
 refine z2r (xs:=xs) (fun i ys H'=>A4 H2 H'/\z0c H' ((((z1d (z0m had)).take i).filter fun n=>decide (num<n) && decide (z∈z3h (z0m had) rows r n)).map fun n=>.tup [.int n,.int (z0W (z0m had) n r)]) ys) ⟨A4.refl _,.nil⟩ (fun i ys H' hi hp=>?_) (fun i y ys H' hy hp=>?_) (fun ys H' hp=>?_)
 ·obtain⟨g,t⟩:=hp
  refine⟨SqT.of (g _ _ eb),z0n ?_⟩
  rw[t.length,b9]
  have:=cI (fun n=>decide (num<n) && decide (z∈z3h (z0m had) rows r n)) ((z1d (z0m had)).take i)
  rw[bO] at this
  omega
 ·obtain⟨g,t⟩:=hp
  obtain⟨n,c,d,en,rfl,ec,ed⟩:=z6k tb hy
  refine⟨c,_,rfl,SqT.of (g _ _ ec),rfl,_,_,rfl,_,_,rfl,_,_,rfl,rfl,?_⟩
  rw[z0x en,dN,eQ]
  refine⟨_,rfl,_,rfl,_,_,rfl,rfl,_,rfl,?_⟩
  have skip:¬(decide (num<n) && decide (z∈z3h (z0m had) rows r n))=true->A4 H2 H'/\z0c H' (((((z1d (z0m had)).take i).filter fun n=>decide (num<n) && decide (z∈z3h (z0m had) rows r n))++(if (decide (num<n) && decide (z∈z3h (z0m had) rows r n))=true then n::List.filter (fun n=>decide (num<n) && decide (z∈z3h (z0m had) rows r n)) [] else List.filter (fun n=>decide (num<n) && decide (z∈z3h (z0m had) rows r n)) [])).map fun n=>.tup [.int n,.int (z0W (z0m had) n r)]) ys:=fun c=>by
   rw[if_neg c,fF,cU]
   exact⟨g,t⟩
  refine B4 (fun c=>?_) (fun c=>?_)
  ·refine⟨_,rfl,_,rfl,d,_,rfl,.inr (SqT.of (g _ _ ed)),rfl,z3J _,_,rfl,?_⟩
   rw[if_neg bM,z6q]
   refine B4 (fun c2=>?_) (fun c2=>?_)
   ·refine⟨_,rfl,_,rfl,(by show 2≤sizeLine;decide),fun q hq=>⟨g.trans (z02 hq _),?_⟩⟩
    rw[if_pos (by rw[bW];exact⟨c,c2⟩),fF,bG]
    exact z0c.snoc (z0c.keep (z02 hq _) _ _ t) (z0w z04 (by show 2≤1000000;decide) (.cons (z0J _) (.cons (z0J _) .nil)))
   ·exact skip (by rw[bW];exact fun z=>c2 z.2)
  ·exact skip (by rw[bW];exact fun z=>c z.1)
 ·obtain⟨g,t⟩:=hp
  rw[lx,bX] at t
  intro D hD
  refine⟨D,ys,rfl,.inl ⟨SqL.of z04,fun q hq=>k _ _ (s1.trans (s2.trans (g.trans ((z02 hD _).trans (z02 hq _))))) (z0w z04 ?_ (z0c.keep ((z02 hD _).trans (z02 hq _)) _ _ t))⟩⟩
  rw[b9]
  exact cL (z8J (z0m had) rows r num z) (by decide)
theorem y0k{ns:List Int}{r n:Int}:n∈z4m ns r↔n∈z1d ns/\z0W ns n r=0:=by
 unfold z4m lwtL
 rw[cG]
 constructor
 ·rintro⟨⟨a,b⟩,h,rfl⟩
  rw[cK,cG,decide_eq_true_eq] at h
  obtain⟨⟨m,hm,e⟩,h2⟩:=h
  cases e
  exact⟨hm,h2⟩
 ·rintro⟨h1,h2⟩
  refine⟨(n,z0W ns n r),?_,rfl⟩
  rw[cK,cG,decide_eq_true_eq]
  exact⟨⟨n,h1,rfl⟩,h2⟩
theorem y0h{ns:List Int}{r num:Int}:z49 ns r num=[]↔∀n∈z4m ns r,n≤num:=by
 unfold z49
 rw[List.filter_eq_nil_iff]
 constructor
 ·intro h n hn
  obtain⟨h1,h2⟩:=y0k.mp hn
  have:=h n h1
  rw[bW,decide_eq_true_eq,decide_eq_true_eq] at this
  rcases Int.lt_or_le num n with q|q
  ·exact absurd ⟨q,h2⟩ this
  ·exact q
 ·intro h n hn
  rw[bW,decide_eq_true_eq,decide_eq_true_eq]
  rintro⟨h1,h2⟩
  have:=h n (y0k.mpr ⟨hn,h2⟩)
  omega
theorem z8l{ns:List Int}{r num:Int}:z1Y ns r num=[]↔z49 ns r num=[]:=by
 rw[y0h]
 unfold z1Y
 rw[List.filter_eq_nil_iff]
 exact⟨fun h n hn=>Int.not_lt.mp fun z=>h n hn (decide_eq_true z),fun h n hn z=>by have:=h n hn;have:=of_decide_eq_true z;omega⟩
noncomputable def y0E(Sh:ShP):Sp:=fun vs H Q _=>∃(x:Addr) (z:Str) (fp:List Addr) (nm:List Str) (r:Int) (rows:List Row) (had:List Int),vs=[.ref x,.str z]/\Sh H x fp nm r (fun n=>z11 rows n r) had/\z∈nm/\GoodN nm/\Rws nm rows/\rows.length≤60/\(∀n∈had,1≤n/\n≤rows.length)/\0≤r/\r≤10/\
 ∀(H':Hp),A4 H H'->Q (.str (z2M (z0m had) rows r (z52 (z2v (z0m had) rows z)) z)) H'
theorem y2s{A1:Addr}(M:Bl mg)(T:TxShelf K mg A1)(F:Fun K "state_of" "state_of" z6s f fd)(B6:Cal P w K mg base 2 "held_for" z1A (z2I (ShD K A1)))
  (Q4:Cal P w K mg base 4 "set_again" z35 (z8R (ShD K A1))) (A7:C5 P w K mg base 1 A1 "had" z0Z (z2u (ShD K A1)))
  (B0:Cal P w K mg base 4 "dark_numbers_behind" z0S (z61 K)):A8 P w K mg base CX0 5 f fd z2l (y0E (ShD K A1)):=by
 have nd:=z4U.nd
 refine F.ok z4U (fun vs H Q E h=>?_) (fun cdv A outer s H vs Q E hr h=>?_)
 ·obtain⟨x,z,fp,nm,r,rows,had,rfl,_⟩:=h
  rfl
 obtain⟨x,z,fp,nm,r,rows,had,rfl,sh,hz,gn,R,l60,hh,r0,r1,k⟩:=h
 refine⟨_,(z03 (z0G (z08 z2c (z0b z09 rfl M.len bH (z00 (z0k Q4 (rm hr) rfl (z00 (pv 0) (z00 (pv 1) z01))) z01)) z06 (z0i _)) (z05 (z0d (z0V rfl M.STALE))) z0g) (z03 (z0f (i:=2) nd rfl (Or.inl rfl) (z0M z1b (z0k B6 (rm hr) rfl (z00 (pv 0) (z00 (pv 1) z01))) z06 (fun _ _=>rfl))) (z03 (z0f (i:=3) nd rfl (Or.inl rfl) (z0k B0 (rm hr) rfl (z00 (z1q A7 (rm hr) (pv 0)) (z00 (z0u (pv 0) rfl) (z00 (pv 2) z01))))) (z05 (z0d (z43 (z08 z2c (z0b z09 rfl M.len bH (z00 (pv 3) z01)) z06 (z0i _)) (z0V rfl M.OPEN) (z0V rfl M.SURE))))))),?_⟩
 refine⟨_,rfl,_,rfl,x,z,fp,nm,r,rows,had,rfl,sh,hz,gn,R,l60,hh,r0,r1,fun v H1 s1 tv=>?_⟩
 obtain⟨a,xs,rfl,ea,_,ta⟩:=z0s tv
 have lx:=ta.length
 rw[b9] at lx
 refine⟨a,xs,rfl,.inr (SqT.of ea),_,_,rfl,rfl,_,rfl,B4 (fun c=>?_) (fun c=>?_)⟩
 ·have c':=z0C c
  have e:=k H1 s1
  unfold z2M at e
  rw[if_pos (by omega)] at e
  exact e
 ·have c':=z4I c
  have sh1:=shOk.same sh s1
  refine⟨_,rfl,_,rfl,x,z,fp,nm,r,rows,had,rfl,sh1,hz,gn,R,fun v H2 s2 tv=>?_⟩
  obtain⟨b,y,rfl,eb,_⟩:=z7G tv
  refine⟨b,_,_,_,rfl,rfl,SqT.of eb,z1O rfl,?_⟩
  have sh2:=shOk.same sh1 s2
  obtain⟨dx,fs,h1,lm,lr⟩:∃dx fs,H2 x=some (.ins A1 dx fs)/\fs.lookup ("had":Str)=none/\fs.lookup ("reach":Str)=some (V.int r):=by
   obtain⟨dx,pn,pd,fs,kvs,_,h1,_,_,_,_,lr,_,lm,_⟩:=sh2
   exact⟨dx,fs,h1,lm _ (by simp),lr⟩
  have h60:∀n∈z0m had,1≤n/\n≤60:=fun n hn=>by have:=hh n (z1j.mp hn).2;omega
  refine⟨_,rfl,x,dx,fs,rfl,h1,lm,x,fp,nm,r,_,had,rfl,sh2,fun l H3 s3 e3=>?_⟩
  refine⟨_,rfl,x,A1,dx,fs,_,rfl,s3 _ _ h1,T.cl,T.n_reach,lr,_,rfl,l,z0m had,r,_,rfl,.inr (SqT.of e3),h60,cL (z67 had) (by decide),fun d H4 s4 e4=>?_⟩
  have e:=k H4 (s1.trans (s2.trans (s3.trans s4)))
  unfold z2M at e
  rw[if_neg (by omega)] at e
  refine⟨_,rfl,d,_,rfl,.inr (SqT.of e4),_,_,rfl,rfl,_,rfl,?_⟩
  rw[b9]
  refine B4 (fun c=>?_) (fun c=>?_)
  ·have c2:=z0C c
   rw[if_neg (fun z=>by rw[z8l.mpr z] at c2;exact absurd c2 (by decide))] at e
   exact e
  ·have c2:=z4I c
   rw[if_pos (z8l.mp (List.length_eq_zero_iff.mp (by omega)))] at e
   exact e
theorem y2V(had:List Int):z0m (z0m had)=z0m had:=z2m (z2g _) (z2g _) fun x=>by
 rw[z1j,z1j]
 exact⟨fun h=>h.2,fun h=>⟨h.1,h⟩⟩
noncomputable def z5x(Sh:ShP):Sp:=fun vs H Q _=>∃(x:Addr) (z:Str) (fp:List Addr) (nm:List Str) (r:Int) (rows:List Row) (had:List Int),vs=[.ref x,.str z]/\Sh H x fp nm r (fun n=>z11 rows n r) had/\z∈nm/\GoodN nm/\Rws nm rows/\rows.length≤60/\(∀n∈had,1≤n/\n≤rows.length)/\0≤r/\r≤10/\
 ∀(q:Addr) (y:V) (H':Hp),A4 H H'->H' q=some (.tup [.str (z2M (z0m had) rows r (z52 (z2v (z0m had) rows z)) z),.int (z52 (z2v (z0m had) rows z)),y])->Tell H' (y5l (z2v (z0m had) rows z)) y->Q (.ref q) H'
theorem y0i{A1:Addr}(M:Bl mg)(F:Fun K "state_and_held" "state_and_held" z2n f fd)(B6:Cal P w K mg base 2 "held_for" z1A (z2I (ShD K A1)))
  (S0:Cal P w K mg base 5 "state_of" z2l (y0E (ShD K A1))):A8 P w K mg base CX0 6 f fd z1u (z5x (ShD K A1)):=by
 have nd:=z28.nd
 refine F.ok z28 (fun vs H Q E h=>?_) (fun cdv A outer s H vs Q E hr h=>?_)
 ·obtain⟨x,z,fp,nm,r,rows,had,rfl,_⟩:=h
  rfl
 obtain⟨x,z,fp,nm,r,rows,had,rfl,sh,hz,gn,R,l60,hh,r0,r1,k⟩:=h
 refine⟨_,(z05 (z0d (z0t (z5P (K:=K) rfl) (z0I (z00 (z0k S0 (rm hr) rfl (z00 (pv 0) (z00 (pv 1) z01))) z01)) (z0k B6 (rm hr) rfl (z00 (pv 0) (z00 (pv 1) z01)))))),?_⟩
 refine⟨_,rfl,_,rfl,x,z,fp,nm,r,rows,had,rfl,sh,hz,gn,R,l60,hh,r0,r1,fun H1 s1=>?_⟩
 refine⟨(by show 1≤sizeLine;decide),fun a ha=>?_⟩
 have g2:=s1.trans (z02 ha (.tup [.str (z2M (z0m had) rows r (z52 (z2v (z0m had) rows z)) z)]))
 have e2:upd H1 a (.tup [.str (z2M (z0m had) rows r (z52 (z2v (z0m had) rows z)) z)]) a=some (.tup [.str (z2M (z0m had) rows r (z52 (z2v (z0m had) rows z)) z)]):=z04
 generalize upd H1 a (.tup [.str (z2M (z0m had) rows r (z52 (z2v (z0m had) rows z)) z)])=H2 at g2 e2
 refine⟨_,rfl,_,rfl,x,z,fp,nm,r,rows,had,rfl,shOk.same sh g2,hz,gn,R,fun v H3 s3 tv=>?_⟩
 obtain⟨b,y,rfl,eb,tb⟩:=z7G tv
 exact⟨a,b,_,_,rfl,rfl,SqT.of (s3 _ _ e2),SqT.of eb,by simp,(by show 3≤sizeLine;decide),fun z=>(nomatch z),fun _ q hq=>k q y _ (g2.trans (s3.trans (z02 hq _))) z04 (Tell.keep (z02 hq _) _ _ tb)⟩
theorem y0V{A1:Addr}(M:Bl mg)(T:TxShelf K mg A1)(F:Fun K "knowledge" "knowledge" z6G f fd)(E8:Cal P w K mg base 6 "state_and_held" z1u (z5x (ShD K A1))):A8 P w K mg base CX0 7 f fd z6C (y6i (ShD K A1)):=by
 have nd:=z8p.nd
 refine F.ok z8p (fun vs H Q E h=>?_) (fun cdv A outer s H vs Q E hr h=>?_)
 ·obtain⟨x,fp,nm,r,rows,had,rfl,_⟩:=h
  rfl
 obtain⟨x,fp,nm,r,rows,had,rfl,sh,gn,R,l60,hh,r0,r1,k⟩:=h
 refine⟨_,(z05 (z0d (z0q z0l rfl M.tuple bI (z00 (z1n ["name"] ["shelf"] [0] rfl (z0z rfl (by decide +kernel) rfl (by decide +kernel) rfl rfl) (z2N (z0u (pv 0) rfl)) (fun _ _ _ _ _=>(z0h (i:=0) (show((["name"]:List PySem.Str)++(["shelf"]:List PySem.Str)).Nodup from by decide +kernel) rfl (Or.inl rfl))) (z0A (by decide)) z0a (fun _ _ _ _ _=>z1Z) (fun _ _ _ _ _=>(z0t (z5P (K:=K) rfl) (z0I (z00 (pv 0) z01)) (z0k E8 (rm hr) rfl (z00 (pv 1) (z00 (pv 0) z01)))))) z01)))),?_⟩
 obtain⟨dx,pn,fs,h1,h3,ln⟩:∃dx pn fs,H x=some (.ins A1 dx fs)/\H pn=some (.tup (nm.map V.str))/\fs.lookup ("names":Str)=some (V.ref pn):=by
  obtain⟨dx,pn,pd,fs,kvs,_,h1,_,h3,_,l1,_⟩:=sh
  exact⟨dx,pn,fs,h1,h3,l1⟩
 have n12:=gn.hi
 refine⟨_,rfl,x,A1,dx,fs,_,rfl,h1,T.cl,T.n_names,ln,pn,rfl,⟨_,SqT.of h3⟩,?_⟩
 refine z2r (xs:=nm.map V.str) (fun i ys H'=>A4 H H'/\z0c H' ((nm.take i).map (tabD (z0m had) rows r)) ys) ⟨A4.refl _,by rw[cV];exact .nil⟩ (fun i ys H' hi hp=>?_) (fun i y ys H' hy hp=>?_) (fun ys H' hp=>?_)
 ·obtain⟨g,t⟩:=hp
  refine⟨SqT.of (g _ _ h3),z0n ?_⟩
  rw[t.length,b9,bO]
  omega
 ·obtain⟨g,t⟩:=hp
  rw[bK] at hy
  obtain⟨z,ez,rfl⟩:=cP.mp hy
  have hz:=bQ ez
  have sh1:=shOk.same sh g
  refine⟨_,rfl,(by show 1≤sizeLine;decide),fun a ha=>?_⟩
  have g2:=z02 ha (.tup [.str z])
  have e2:upd H' a (.tup [.str z]) a=some (.tup [.str z]):=z04
  generalize upd H' a (.tup [.str z])=H2 at g2 e2
  refine⟨_,rfl,_,rfl,x,z,fp,nm,r,rows,had,rfl,shOk.same sh1 g2,hz,gn,R,l60,hh,r0,r1,fun b y H3 s3 eb tb=>?_⟩
  refine⟨a,b,_,_,rfl,rfl,SqT.of (s3 _ _ e2),SqT.of eb,by simp,(by show 4≤sizeLine;decide),fun z=>(nomatch z),fun _ q hq=>⟨g.trans (g2.trans (s3.trans (z02 hq _))),?_⟩⟩
  rw[dZ,ez,bG]
  refine z0c.snoc (z0c.keep (g2.trans (s3.trans (z02 hq _))) _ _ t) ?_
  unfold tabD
  rw[y2V]
  exact z0w z04 (by show 4≤1000000;decide) (.cons (z14 _) (.cons (z14 _) (.cons (z0J _) (.cons (Tell.keep (z02 hq _) _ _ tb) .nil))))
 ·obtain⟨g,t⟩:=hp
  rw[b9,bX] at t
  intro D hD
  refine⟨D,ys,rfl,.inl ⟨SqL.of z04,fun q hq=>k _ _ (g.trans ((z02 hD _).trans (z02 hq _))) (z0w z04 ?_ (z0c.keep ((z02 hD _).trans (z02 hq _)) _ _ t))⟩⟩
  rw[b9]
  omega
theorem z5Z(a b:Str):(a++b).length=a.length+b.length:=by
 rw[<- z10,z6J,bN,z10,z10]
noncomputable def y4V(K:PySem.W.Frag)(C:Addr):Sp:=fun vs H _ E=>∃(p:Addr) (zs:List Str) (z:Str),vs=[.ref p,.str z]/\SqN K H p zs/\z∉zs/\z.length≤1000/\Low z/\E (.ref C) none H
theorem y7b{CUnknownName:Addr}(M:Bl mg)(F:Fun K "refuse_unknown_name" "refuse_unknown_name" z1o f fd)(F0:Err K mg "UnknownName" CUnknownName):A8 P w K mg base (CX1 P w) 1 f fd z0H (I0 (y1f K) (y4V K CUnknownName)):=by
 have nd:=z1h.nd
 refine(y6q M F).toX.or (F.okX z1h (fun vs H Q E h=>?_) (fun cdv A outer s H vs Q E hr h=>?_))
 ·obtain⟨p,zs,z,rfl,_⟩:=h
  rfl
 obtain⟨p,zs,z,rfl,hp,hz,h1000,low,k⟩:=h
 refine⟨_,(z05 (z0G (z08 z2f (pv 1) (pv 0) (by with_unfolding_all rfl)) (z05 (z31 F0 rfl (z00 (z9u (z3C (y7A (pv 1)) (z3C z16 y2l))) z01))) z0g)),?_⟩
 refine⟨_,rfl,_,rfl,p,_,rfl,hp,rfl,z3J zs,_,rfl,?_⟩
 rw[if_pos rfl,z6q,decide_eq_false hz]
 have hl:=y2g low
 have line:=sizeLine_eq
 have l0:Str.empty.length=0:=rfl
 have l1:(" is no name of this bulletin":Str).length=28:=by decide +kernel
 exact L8 ⟨_,rfl,z,rfl,h1000,low,_,rfl,(by rw[z5Z];omega),_,rfl,(by rw[z5Z,z5Z];omega),(by rw[z5Z,z5Z];omega),(by show 1≤sizeLine;decide),k⟩
noncomputable def y0w(C:Addr):Sp:=fun vs H _ E=>∃v:Int,vs=[.int v]/\(v<0\/1000000<v)/\E (.ref C) none H
theorem y2z{CBadValue:Addr}(M:Bl mg)(F:Fun K "refuse_bad_value" "refuse_bad_value" z1R f fd)(N1:Err K mg "BadValue" CBadValue):A8 P w K mg base (CX1 P w) 1 f fd z18 (I0 z5Y (y0w CBadValue)):=by
 have nd:=z1H.nd
 refine(y0a M F).toX.or (F.okX z1H (fun vs H Q E h=>?_) (fun cdv A outer s H vs Q E hr h=>?_))
 ·obtain⟨r,rfl,_⟩:=h
  rfl
 obtain⟨r,rfl,hr2,k⟩:=h
 refine⟨_,(z05 (z0G (PW.pt (z3Q (z08 z6d (pv 0) z06 (z0i _)) (z2q (z08 z2c (pv 0) (z1f rfl M.MOST_VALUE) (z0i _))))) (z05 (z31 N1 rfl (z00 (z9u (z3C z16 (z3C (y1K (z1f rfl M.MOST_VALUE)) y2l))) z01))) z0g)),?_⟩
 refine⟨_,rfl,_,_,rfl,rfl,_,rfl,B4 (fun q=>?_) fun n1=>?_⟩
 ·exact⟨_,rfl,(by decide +kernel),_,rfl,by decide,_,rfl,(by decide +kernel),(by decide +kernel),(by show 1≤sizeLine;decide),k⟩
 refine⟨_,rfl,_,_,rfl,rfl,_,rfl,B4 (fun q=>?_) fun n2=>?_⟩
 ·exact⟨_,rfl,(by decide +kernel),_,rfl,by decide,_,rfl,(by decide +kernel),(by decide +kernel),(by show 1≤sizeLine;decide),k⟩
 ·exfalso
  have e1:¬r<0:=fun z=>n1 (decide_eq_true z)
  have e2:¬(1000000:Int)<r:=fun z=>n2 (decide_eq_true z)
  omega
theorem y29:∀r:List Str,(K6 r.reverse).length≤r.length/\((K6 r.reverse).length=r.length->r.Nodup)
 | []=>⟨bE _,fun _=>List.nodup_nil⟩
 | k::r=>by
  obtain⟨h1,h2⟩:=y29 r
  rw[List.reverse_cons,y0j]
  split
  ·refine⟨by rw[c9];omega,fun e=>?_⟩
   rw[c9] at e
   omega
  ·rename_i nm
   rw[bN,c9]
   refine⟨jH h1,fun e=>dE.mpr ⟨fun hk=>nm (z9z.mpr (fS.mpr hk)),h2 (Nat.succ.inj e)⟩⟩
theorem y7z{zs:List Str}(h:(K6 zs).length=zs.length):zs.Nodup:=by
 have:=(y29 zs.reverse).2
 rw[fT,eV] at this
 exact(fO.mp (this h)).imp cS
noncomputable def y6r(CU CT CV:Addr)(zs:List Str)(pr:Row)(C:Addr):Prop:=((∃p∈pr,p.1∉zs)/\C=CU)\/((∀p∈pr,p.1∈zs)/\¬(pr.map Prod.fst).Nodup/\C=CT)\/((∀p∈pr,p.1∈zs)/\(pr.map Prod.fst).Nodup/\(∃p∈pr,p.2<0\/1000000<p.2)/\C=CV)
noncomputable def z9g(K:PySem.W.Frag)(CU CT CV:Addr):Sp:=fun vs H _ E=>∃(pn a:Addr) (zs:List Str) (us:List V) (pr:Row) (C:Addr),vs=[.ref pn,.ref a]/\SqN K H pn zs/\SqP K H a us/\Paired (z21 K H) us pr/\pr.length≤100/\(∀p∈pr,p.1.length≤1000/\Low p.1)/\y6r CU CT CV zs pr C/\∀H',A4 H H'->E (.ref C) none H'
theorem y1h{CUnknownName CNameTwice CBadValue:Addr}(M:Bl mg)(F:Fun K "refuse_bad_rows" "refuse_bad_rows" z29 f fd)(L6:Err K mg "NameTwice" CNameTwice)(B3:Cal P w K mg base 1 "refuse_unknown_name" z0H (y1f K))(D1:Cal P w K mg base 1 "refuse_bad_value" z18 z5Y)
  (C1:K4 P w K mg base 1 "refuse_unknown_name" z0H (I0 (y1f K) (y4V K CUnknownName))) (F3:K4 P w K mg base 1 "refuse_bad_value" z18 (I0 z5Y (y0w CBadValue))):A8 P w K mg base (CX1 P w) 2 f fd z1e (I0 (z4v K) (z9g K CUnknownName CNameTwice CBadValue)):=by
 have nd:=z1U.nd
 refine(z8O M F B3 D1).toX.or (F.okX z1U (fun vs H Q E h=>?_) (fun cdv A outer s H vs Q E hr h=>?_))
 ·obtain⟨pn,a,zs,us,pr,C,rfl,_⟩:=h
  rfl
 obtain⟨pn,a,zs,us,pr,C,rfl,hn,ha,hp,l100,hlow,rf,k⟩:=h
 refine⟨_,(z03 (z5n (i:=2) ["name","value"] [] [] rfl nd rfl (Or.inl rfl) (z0z rfl (by decide +kernel) rfl (by decide +kernel) rfl rfl) (y0D (pv 1)) (fun _ _ _ _ _=>(z9y (K:=K) (n:=2) rfl rfl (z0O (z0h (i:=0) (show((["name","value"]:List PySem.Str)++([]:List PySem.Str)).Nodup from by decide +kernel) rfl (Or.inl rfl)) (z0O (z0h (i:=1) (show((["name","value"]:List PySem.Str)++([]:List PySem.Str)).Nodup from by decide +kernel) rfl (Or.inl rfl)) z3y)))) (y4J (z1p (z0A (by decide)) z0a (z1p (z0A (by decide)) z0a z5L z0R) (z0E z0a z0R))) (y2j (z0E z0a (z0E z0a z0R))) (fun _ _ _ _ _=>z1Z) (fun _ _ _ _ _=>(pv 0))) (z03 (z87 (z1v (pv 2)) (z0h (i:=3) nd rfl (Or.inl rfl)) (z05 (z0y (z1x z7v C1 (rm hr) rfl (z00 (pv 0) (z00 (pv 3) z01)))))) (z03 (z0G (z08 z9j (z0b z44 rfl M.len bH (z00 (z0q (z3B rfl) rfl M.set gY (z00 (pv 2) z01)) z01)) (z0b z09 rfl M.len bH (z00 (pv 2) z01)) (z0i _)) (z05 (z31 L6 rfl (z00 z16 z01))) z0g) (z05 (z87 (y0D (pv 1)) (z9y (K:=K) (n:=2) rfl rfl (z0O (z0h (i:=3) nd rfl (Or.inl rfl)) (z0O (z0h (i:=4) nd rfl (Or.inl rfl)) z3y))) (z05 (z0y (z1x z7v F3 (rm hr) rfl (z00 (pv 4) z01))))))))),?_⟩
 obtain⟨t,ht⟩:=SqS.of (SqP.or ha)
 have lu:us.length=pr.length:=hp.length
 refine⟨_,rfl,a,t,rfl,⟨_,ht⟩,?_⟩
 refine z9Z (xs:=us) (fun i ys H'=>H'=H/\ys=((pr.take i).map Prod.fst).map V.str) ⟨rfl,rfl⟩ (fun i ys H' hi hq=>?_) (fun i x ys H' hx hq=>?_) (fun ys H' hq=>?_)
 ·obtain⟨rfl,rfl⟩:=hq
  refine⟨ht,z0n ?_⟩
  rw[b9,b9,bO]
  omega
 ·obtain⟨rfl,rfl⟩:=hq
  obtain⟨p,ep,b,rfl,hb⟩:=z21.at hp i x hx
  refine⟨b,_,rfl,hb,rfl,_,_,rfl,_,_,rfl,rfl,?_⟩
  refine⟨_,rfl,rfl,?_⟩
  rw[z0x ep,bG,bG]
  rfl
 obtain⟨rfl,rfl⟩:=hq
 rw[lu,bX]
 intro D hD
 have s1:=z02 hD (.lst ((pr.map Prod.fst).map V.str))
 have e1:upd H' D (.lst ((pr.map Prod.fst).map V.str)) D=some (.lst ((pr.map Prod.fst).map V.str)):=z04
 generalize upd H' D (.lst ((pr.map Prod.fst).map V.str))=H1 at s1 e1
 have hn1:=SqN.keep s1 hn
 have ht1:=SqS.keep s1 ht
 have hp1:=z21.keep s1 hp
 refine⟨_,rfl,D,rfl,⟨_,SqL.of e1⟩,z2a (K:=K) (a:=D) (xs:=(pr.map Prod.fst).map V.str) (fun i σ H2=>∃o:Option V,H2=H1/\(∀z∈(pr.map Prod.fst).take i,z∈zs)/\σ=[some (.ref pn),some (.ref a),some (.ref D),o,none]) ⟨none,rfl,(fun z hz=>by rw[cV] at hz;cases hz),rfl⟩ (fun i σ H2 _ ⟨_,e,_⟩=>e ▸ SqL.of e1) (fun i x σ H2 hx hq=>?_) (fun σ H2 hq=>?_)⟩
 ·obtain⟨o,rfl,hin,rfl⟩:=hq
  rw[bK] at hx
  obtain⟨z,ez,rfl⟩:=cP.mp hx
  obtain⟨p,hpm,rfl⟩:=cG.mp (bQ ez)
  by_cases hz:p.1∈zs
  ·refine⟨_,rfl,_,rfl,.inl ⟨pn,zs,p.1,rfl,hn1,hz,_,rfl,fun y hy=>?_,rfl⟩⟩
   rw[z0x ez] at hy
   rcases bS.mp hy with hy|hy
   ·exact hin y hy
   ·rw[bB.mp hy]
    exact hz
  ·refine⟨_,rfl,_,rfl,.inr ⟨pn,zs,p.1,rfl,hn1,hz,(hlow p hpm).1,(hlow p hpm).2,?_⟩⟩
   rcases rf with ⟨_,rfl⟩|⟨h,_⟩|⟨h,_⟩
   ·exact k _ s1
   ·exact absurd (h p hpm) hz
   ·exact absurd (h p hpm) hz
 obtain⟨o,rfl,hin,rfl⟩:=hq
 rw[b9,bX] at hin
 have lf:(pr.map Prod.fst).length=pr.length:=b9 _
 have rf2:((¬(pr.map Prod.fst).Nodup/\C=CNameTwice)\/((pr.map Prod.fst).Nodup/\(∃p∈pr,p.2<0\/1000000<p.2)/\C=CBadValue)):=by
  rcases rf with ⟨⟨p,hp,hz⟩,_⟩|⟨_,h,e⟩|⟨_,h,h2,e⟩
  ·exact absurd (hin p.1 (cG.mpr ⟨p,hp,rfl⟩)) hz
  ·exact .inl ⟨h,e⟩
  ·exact .inr ⟨h,h2,e⟩
 refine⟨_,rfl,D,pr.map Prod.fst,rfl,.inl (SqL.of e1),by omega,fun l hl=>⟨l,pr.map Prod.fst,rfl,z04,by omega,_,rfl,D,_,rfl,.inl (SqL.of (z02 hl _ _ _ e1)),rfl,_,rfl,?_⟩⟩
 have s2:=s1.trans (z02 hl (Q2 P w l (pr.map Prod.fst)))
 rcases rf2 with ⟨hnn,rfl⟩|⟨hnd,hbv,rfl⟩
 ·rw[decide_eq_false (fun e=>hnn (y7z (by injection e with e;rw[b9 (f:=V.str)] at e;omega)))]
  exact L8 ⟨(by show 1≤sizeLine;decide),k _ s2⟩
 refine y6M (by rw[y1u hnd,b9 (f:=V.str)]) ?_
 have ht2:=SqS.keep (z02 hl (Q2 P w l (pr.map Prod.fst))) ht1
 have hp2:=z21.keep (z02 hl (Q2 P w l (pr.map Prod.fst))) hp1
 refine⟨_,rfl,a,t,rfl,⟨_,ht2⟩,?_⟩
 refine y4b (xs:=us) (fun i σ H3=>∃o1 o2:Option V,H3=upd H2 l (Q2 P w l (pr.map Prod.fst))/\(∀p∈pr.take i,0≤p.2/\p.2≤1000000)/\σ=[some (.ref pn),some (.ref a),some (.ref D),o1,o2]) ⟨_,_,rfl,(fun p hp=>by rw[cV] at hp;cases hp),rfl⟩ (fun i σ H3 _ ⟨_,_,e,_⟩=>e ▸ ht2) (fun i x σ H3 hx hq=>?_) (fun σ H3 hq=>?_)
 ·obtain⟨o1,o2,rfl,hok,rfl⟩:=hq
  obtain⟨p,ep,b,rfl,hb⟩:=z21.at hp2 i x hx
  refine⟨b,_,rfl,hb,rfl,_,_,rfl,_,_,rfl,rfl,?_⟩
  by_cases hv:0≤p.2/\p.2≤1000000
  ·refine⟨_,rfl,.inl ⟨p.2,rfl,hv.1,hv.2,_,_,rfl,fun y hy=>?_,rfl⟩⟩
   rw[z0x ep] at hy
   rcases bS.mp hy with hy|hy
   ·exact hok y hy
   ·rw[bB.mp hy]
    exact hv
  ·exact⟨_,rfl,.inr ⟨p.2,rfl,by omega,k _ s2⟩⟩
 ·obtain⟨o1,o2,rfl,hok,rfl⟩:=hq
  rw[lu,bX] at hok
  obtain⟨p,hp,hb⟩:=hbv
  have:=hok p hp
  omega
noncomputable def z1V(Sh:ShP)(C:Addr):Sp:=fun vs H _ E=>∃(x:Addr) (fp:List Addr) (nm:List Str) (r:Int) (iss:Int->DV) (had:List Int) (z:Str),vs=[.ref x,.str z]/\Sh H x fp nm r iss had/\z∉nm/\z.length≤1000/\Low z/\∀H',A4 H H'->E (.ref C) none H'
theorem y0Y{A1 CUnknownName:Addr}(M:Bl mg)(T:TxShelf K mg A1)(F:Fun K "held_for" "held_for" z6a f fd)(C1:K4 P w K mg base 1 "refuse_unknown_name" z0H (I0 (y1f K) (y4V K CUnknownName)))
  (A7:C5 P w K mg base 1 A1 "had" z0Z (z2u (ShD K A1))) (C4:C5 P w K mg base 1 A1 "rows_of" z27 (z7t (ShD K A1))) :
  A8 P w K mg base (CX1 P w) 2 f fd z1A (z1V (ShD K A1) CUnknownName):=by
 have nd:=z4Z.nd
 refine F.okX z4Z (fun vs H Q E h=>?_) (fun cdv A outer s H vs Q E hr h=>?_)
 ·obtain⟨x,fp,nm,r,iss,had,z,rfl,_⟩:=h
  rfl
 obtain⟨x,fp,nm,r,iss,had,z,rfl,sh,hz,h1000,low,k⟩:=h
 have hu:=z8G hr
 refine⟨_,(z03 (z0y (z1x z1i C1 (rm hr) rfl (z00 (z0u (pv 0) rfl) (z00 (pv 1) z01)))) (z03 (z87 (y3F rfl M.reversed (z00 (z1q A7 (rm hr) (pv 0)) z01)) (z0h (i:=2) nd rfl (Or.inl rfl)) (z03 (z0f (i:=3) nd rfl (Or.inl rfl) (z0q (z3j (K:=K) rfl rfl) rfl M.dict fI (z00 (z1z C4 (rm hr) (pv 0) (z00 (pv 2) z01)) z01))) (z05 (z0G (z7d (y2o hu (pv 1) (pv 3))) (z05 (z0d (z0I (z00 (pv 2) (z00 (z5q hu (pv 3) (pv 1) (fun _ _=>rfl)) z01))))) z0g)))) (z05 (z0d (z0I (z00 z06 (z00 z9a z01))))))),?_⟩
 obtain⟨dx,pn,fs,h1,h3,ln⟩:∃dx pn fs,H x=some (.ins A1 dx fs)/\H pn=some (.tup (nm.map V.str))/\fs.lookup ("names":Str)=some (V.ref pn):=by
  obtain⟨dx,pn,pd,fs,kvs,_,h1,_,h3,_,l1,_,_,lm,_⟩:=sh
  exact⟨dx,pn,fs,h1,h3,l1⟩
 exact⟨_,rfl,x,A1,dx,fs,_,rfl,h1,T.cl,T.n_names,ln,_,rfl,.inr ⟨pn,nm,z,rfl,.inr (SqT.of h3),hz,h1000,low,k H (A4.refl _)⟩⟩
theorem y0G{A1 CUnknownName:Addr}(M:Bl mg)(T:TxShelf K mg A1)(F:Fun K "set_again" "set_again" z4S f fd)(J3:K4 P w K mg base 2 "held_for" z1A (z1V (ShD K A1) CUnknownName))
  (G8:Cal P w K mg base 3 "gaps_of" z64 (z7x (ShD K A1))):A8 P w K mg base (CX1 P w) 4 f fd z35 (z1V (ShD K A1) CUnknownName):=by
 have nd:=z4e.nd
 refine F.okX z4e (fun vs H Q E h=>?_) (fun cdv A outer s H vs Q E hr h=>?_)
 ·obtain⟨x,fp,nm,r,iss,had,z,rfl,_⟩:=h
  rfl
 obtain⟨x,fp,nm,r,iss,had,z,rfl,sh,hz,h1000,low,k⟩:=h
 refine⟨_,(z03 (z0f (i:=2) nd rfl (Or.inr rfl) (z0M z1b (z1x z1i J3 (rm hr) rfl (z00 (pv 0) (z00 (pv 1) z01))) z06 (fun _ _=>rfl))) (z05 (z0d (z0q z0l rfl M.tuple bI (z00 (z1n ["number","teller","names"] ["held_from","name"] [2,1] rfl (z0z rfl (by decide +kernel) rfl (by decide +kernel) rfl rfl) (z2N (z0k G8 (rm hr) rfl (z00 (pv 0) z01))) (fun _ _ _ _ _=>(z7K (K:=K) (n:=3) rfl rfl (z0O (z0h (i:=0) (show((["number","teller","names"]:List PySem.Str)++(["held_from","name"]:List PySem.Str)).Nodup from by decide +kernel) rfl (Or.inl rfl)) (z0O (z0h (i:=1) (show((["number","teller","names"]:List PySem.Str)++(["held_from","name"]:List PySem.Str)).Nodup from by decide +kernel) rfl (Or.inl rfl)) (z0O (z0h (i:=2) (show((["number","teller","names"]:List PySem.Str)++(["held_from","name"]:List PySem.Str)).Nodup from by decide +kernel) rfl (Or.inl rfl)) z3y))))) (z84 (z1p (z0A (by decide)) z0a (z1p (z0A (by decide)) z0a (z1p (z0A (by decide)) z0a z5L z0R) (z0E z0a z0R)) (z0E z0a (z0E z0a z0R)))) (z5S (z0E z0a (z0E z0a (z0E z0a z0R)))) (fun _ _ _ _ _=>(z2A (PW.pt (z6l (z08 z2c (pv 0) (pv 3) (z0i _)) (z40 (z08 (r:=rIn K false) z66 (pv 4) (pv 2) (by with_unfolding_all rfl))))))) (fun _ _ _ _ _=>(z0I (z00 (pv 0) (z00 (pv 1) z01))))) z01))))),?_⟩
 exact⟨_,rfl,_,rfl,x,fp,nm,r,iss,had,z,rfl,sh,hz,h1000,low,k⟩
theorem y1c{A1 CUnknownName:Addr}(M:Bl mg)(T:TxShelf K mg A1)(F:Fun K "state_of" "state_of" z6s f fd)(B6:Cal P w K mg base 2 "held_for" z1A (z2I (ShD K A1)))
  (F6:K4 P w K mg base 4 "set_again" z35 (z1V (ShD K A1) CUnknownName)) (A7:C5 P w K mg base 1 A1 "had" z0Z (z2u (ShD K A1)))
  (B0:Cal P w K mg base 4 "dark_numbers_behind" z0S (z61 K)):A8 P w K mg base (CX1 P w) 5 f fd z2l (z1V (ShD K A1) CUnknownName):=by
 have nd:=z4U.nd
 refine F.okX z4U (fun vs H Q E h=>?_) (fun cdv A outer s H vs Q E hr h=>?_)
 ·obtain⟨x,fp,nm,r,iss,had,z,rfl,_⟩:=h
  rfl
 obtain⟨x,fp,nm,r,iss,had,z,rfl,sh,hz,h1000,low,k⟩:=h
 refine⟨_,(z03 (z0G (z08 z2c (z0b z09 rfl M.len bH (z00 (z1x z1i F6 (rm hr) rfl (z00 (pv 0) (z00 (pv 1) z01))) z01)) z06 (z0i _)) (z05 (z0d (z0V rfl M.STALE))) z0g) (z03 (z0f (i:=2) nd rfl (Or.inl rfl) (z0M z1b (z0k B6 (rm hr) rfl (z00 (pv 0) (z00 (pv 1) z01))) z06 (fun _ _=>rfl))) (z03 (z0f (i:=3) nd rfl (Or.inl rfl) (z0k B0 (rm hr) rfl (z00 (z1q A7 (rm hr) (pv 0)) (z00 (z0u (pv 0) rfl) (z00 (pv 2) z01))))) (z05 (z0d (z43 (z08 z2c (z0b z09 rfl M.len bH (z00 (pv 3) z01)) z06 (z0i _)) (z0V rfl M.OPEN) (z0V rfl M.SURE))))))),?_⟩
 exact⟨_,rfl,_,rfl,x,fp,nm,r,iss,had,z,rfl,sh,hz,h1000,low,k⟩
theorem z9q{A1 CUnknownName:Addr}(M:Bl mg)(F:Fun K "state_and_held" "state_and_held" z2n f fd)(B6:Cal P w K mg base 2 "held_for" z1A (z2I (ShD K A1)))
  (C3:K4 P w K mg base 5 "state_of" z2l (z1V (ShD K A1) CUnknownName)):A8 P w K mg base (CX1 P w) 6 f fd z1u (z1V (ShD K A1) CUnknownName):=by
 have nd:=z28.nd
 refine F.okX z28 (fun vs H Q E h=>?_) (fun cdv A outer s H vs Q E hr h=>?_)
 ·obtain⟨x,fp,nm,r,iss,had,z,rfl,_⟩:=h
  rfl
 obtain⟨x,fp,nm,r,iss,had,z,rfl,sh,hz,h1000,low,k⟩:=h
 refine⟨_,(z05 (z0d (z0t (z5P (K:=K) rfl) (z0I (z00 (z1x z1i C3 (rm hr) rfl (z00 (pv 0) (z00 (pv 1) z01))) z01)) (z0k B6 (rm hr) rfl (z00 (pv 0) (z00 (pv 1) z01)))))),?_⟩
 exact⟨_,rfl,_,rfl,x,fp,nm,r,iss,had,z,rfl,sh,hz,h1000,low,k⟩
noncomputable def RefW(CF CU CT CV:Addr)(zs:List Str)(rows:List Row)(pr:Row)(C:Addr):Prop:=(60≤rows.length/\C=CF)\/(rows.length<60/\y6r CU CT CV zs pr C)
noncomputable def z7w(K:PySem.W.Frag)(Of:OfP)(CF CU CT CV:Addr):Sp:=fun vs H _ E=>∃(p a:Addr) (fp:List Addr) (zs:List Str) (r:Int) (rows:List Row) (us:List V) (pr:Row) (C:Addr),vs=[.ref p,.ref a]/\Of H p fp zs r rows/\SqP K H a us/\Paired (z21 K H) us pr/\pr.length≤100/\(∀p∈pr,p.1.length≤1000/\Low p.1)/\RefW CF CU CT CV zs rows pr C/\∀H',A4 H H'->E (.ref C) none H'
theorem y1M{A0 COfficeFull CUnknownName CNameTwice CBadValue:Addr}(M:Bl mg)(T:TxOffice K mg A0)(F:Fun K "refuse_writing" "Office.refuse_writing" z19 f fd)(J4:Err K mg "OfficeFull" COfficeFull)(D4:Cal P w K mg base 2 "refuse_bad_rows" z1e (z4v K))
  (F8:K4 P w K mg base 2 "refuse_bad_rows" z1e (I0 (z4v K) (z9g K CUnknownName CNameTwice CBadValue))):A8 P w K mg base (CX1 P w) 3 f fd z0B (I0 (z2K K (OfD K A0)) (z7w K (OfD K A0) COfficeFull CUnknownName CNameTwice CBadValue)):=by
 have nd:=z13.nd
 refine(z8K M T F D4).toX.or (F.okX z13 (fun vs H Q E h=>?_) (fun cdv A outer s H vs Q E hr h=>?_))
 ·obtain⟨p,a,fp,zs,r,rows,us,pr,C,rfl,_⟩:=h
  rfl
 obtain⟨p,a,fp,zs,r,rows,us,pr,C,rfl,of,ha,hp,l100,hlow,rf,k⟩:=h
 refine⟨_,(z03 (z0G (z08 y41 (z0b z09 rfl M.len bH (z00 (z0u (pv 0) rfl) z01)) (z1f rfl M.MOST_NUMBERS) (z0i _)) (z05 (z31 J4 rfl (z00 (z9u (z3C z16 (z3C (y1K (z1f rfl M.MOST_NUMBERS)) (z3C z16 y2l)))) z01))) z0g) (z05 (z0y (z1x z1i F8 (rm hr) rfl (z00 (z0u (pv 0) rfl) (z00 (pv 1) z01)))))),?_⟩
 obtain⟨dx,pn,pl,fs,xs,rfl,h1,h2,h3,h4,l1,l2,l3,lm,tl,r60,w12,g,r0,r1⟩:=of
 have lx:xs.length=rows.length:=by rw[tl.length,b9,z0T]
 refine⟨_,rfl,p,A0,dx,fs,_,rfl,h1,T.cl,T.n_written,l3,pl,xs,rfl,.inl (SqL.of h4),_,_,rfl,rfl,_,rfl,?_⟩
 rcases rf with ⟨h60,rfl⟩|⟨h60,rf⟩
 ·rw[decide_eq_true (by omega)]
  exact L8 ⟨_,rfl,(by decide +kernel),_,rfl,by decide,_,rfl,(by decide +kernel),_,rfl,(by decide +kernel),(by decide +kernel),(by show 1≤sizeLine;decide),k H (A4.refl _)⟩
 ·rw[decide_eq_false (by omega)]
  exact E7 ⟨_,rfl,p,A0,dx,fs,_,rfl,h1,T.cl,T.n_names,l1,_,rfl,.inr ⟨pn,a,zs,us,pr,C,rfl,.inr (SqT.of h3),ha,hp,l100,hlow,rf,k⟩⟩
theorem y18{A0 COfficeFull CUnknownName CNameTwice CBadValue:Addr}(M:Bl mg)(T:TxOffice K mg A0)(F:Fun K "write" "Office.write" z30 f fd)(A9:C5 P w K mg base 3 A0 "refuse_writing" z0B (z2K K (OfD K A0)))
  (C2:Cal P w K mg base 1 "names_of_rows" z26 z9s) (D5:Cal P w K mg base 1 "rows_in_order" z2C (z8f K)) (J0:Cal P w K mg base 2 "tail_for" z65 (y43 K))
  (B7:K2 P w K mg base 3 A0 "refuse_writing" z0B (I0 (z2K K (OfD K A0)) (z7w K (OfD K A0) COfficeFull CUnknownName CNameTwice CBadValue))) :
  A8 P w K mg base (CX1 P w) 4 f fd z2o (I0 (z60 K (OfD K A0)) (z7w K (OfD K A0) COfficeFull CUnknownName CNameTwice CBadValue)):=by
 have nd:=z2D.nd
 refine(z8W M T F A9 C2 D5 J0).toX.or (F.okX z2D (fun vs H Q E h=>?_) (fun cdv A outer s H vs Q E hr h=>?_))
 ·obtain⟨p,a,fp,zs,r,rows,us,pr,C,rfl,_⟩:=h
  rfl
 obtain⟨p,a,fp,zs,r,rows,us,pr,C,rfl,of,ha,hp,l100,hlow,rf,k⟩:=h
 refine⟨_,(z03 (z0y (z3g z1i B7 (rm hr) (pv 0) (z00 (pv 1) z01))) (z03 (z0f (i:=2) nd rfl (Or.inl rfl) (z0t z1G (z0b z09 rfl M.len bH (z00 (z0u (pv 0) rfl) z01)) z06)) (z03 (z5n (i:=3) ["issue"] [] [] rfl nd rfl (Or.inl rfl) (z0z rfl (by decide +kernel) rfl (by decide +kernel) rfl rfl) (z1v (z0u (pv 0) rfl)) (fun _ _ _ _ _=>(z0h (i:=0) (show((["issue"]:List PySem.Str)++([]:List PySem.Str)).Nodup from by decide +kernel) rfl (Or.inl rfl))) (z0A (by decide)) z0a (fun _ _ _ _ _=>z1Z) (fun _ _ _ _ _=>(z0k C2 (rm hr) rfl (z00 (z0M (r:=R6 K) z1b (pv 0) z06 (fun _ _=>rfl)) z01)))) (z03 (z0y (z2Z bV bT bZ z0K (z0u (pv 0) rfl) (z00 (z0I (z00 (pv 2) (z00 (z0k D5 (rm hr) rfl (z00 (z0u (pv 0) rfl) (z00 (pv 1) z01))) (z00 (z0k J0 (rm hr) rfl (z00 (pv 3) (z00 (z0u (pv 0) rfl) z01))) z01)))) z01))) (z05 (z0d (pv 2))))))),?_⟩
 obtain⟨dx,pn,pl,fs,xs,rfl,h1,h2,h3,h4,l1,l2,l3,lm,_⟩:=id of
 exact⟨_,rfl,p,dx,fs,rfl,h1,lm _ (by simp),_,rfl,.inr ⟨p,a,_,zs,r,rows,us,pr,C,rfl,of,ha,hp,l100,hlow,rf,k⟩⟩
noncomputable def z9S(Of:OfP)(CN:Addr):Sp:=fun vs H _ E=>∃(p:Addr) (fp:List Addr) (zs:List Str) (r:Int) (rows:List Row) (n:Int),vs=[.ref p,.int n]/\Of H p fp zs r rows/\(n<1\/(rows.length:Int)<n)/\E (.ref CN) none H
theorem y1e{A0 CNotWritten:Addr}(M:Bl mg)(T:TxOffice K mg A0)(F:Fun K "issue" "Office.issue" z2W f fd)(F7:Err K mg "NotWritten" CNotWritten):A8 P w K mg base (CX1 P w) 1 f fd z0P (I0 (z24 (OfD K A0)) (z9S (OfD K A0) CNotWritten)):=by
 have nd:=z2F.nd
 refine(z8Q M T F).toX.or (F.okX z2F (fun vs H Q E h=>?_) (fun cdv A outer s H vs Q E hr h=>?_))
 ·obtain⟨p,fp,zs,r,rows,n,rfl,_⟩:=h
  rfl
 obtain⟨p,fp,zs,r,rows,n,rfl,of,hn,k⟩:=h
 refine⟨_,(z03 (z0G (PW.pt (z3Q (z08 z6d (pv 1) z06 (z0i _)) (z2q (z08 z2c (pv 1) (z0b z09 rfl M.len bH (z00 (z0u (pv 0) rfl) z01)) (z0i _))))) (z05 (z31 F7 rfl (z00 z16 z01))) z0g) (z05 (z0d (z0M z0N (z0u (pv 0) rfl) (z0t z2Q (pv 1) z06) (fun _ _=>rfl))))),?_⟩
 obtain⟨dx,pn,pl,fs,xs,rfl,h1,h2,h3,h4,l1,l2,l3,lm,tl,r60,w12,g,r0,r1⟩:=of
 have lx:xs.length=rows.length:=by rw[tl.length,b9,z0T]
 refine⟨_,rfl,_,_,rfl,rfl,_,rfl,B4 (fun q=>?_) fun n1=>?_⟩
 ·exact⟨(by show 1≤sizeLine;decide),k⟩
 refine⟨_,rfl,_,rfl,p,A0,dx,fs,_,rfl,h1,T.cl,T.n_written,l3,pl,xs,rfl,.inl (SqL.of h4),_,_,rfl,rfl,_,rfl,B4 (fun q=>?_) fun n2=>?_⟩
 ·exact⟨(by show 1≤sizeLine;decide),k⟩
 ·exfalso
  have e1:¬n<1:=fun z=>n1 (decide_eq_true z)
  have e2:¬(xs.length:Int)<n:=fun z=>n2 (decide_eq_true z)
  omega
noncomputable def z4N(Bk:BkP)(CR:Addr):Sp:=fun vs H _ E=>∃(p:Addr) (fp:List Addr) (zs:List Str) (r k:Int) (rows:List Row) (log:List Deed) (rd:Int),vs=[.ref p,.int rd]/\Bk H p fp zs r k rows log/\(rd<1\/k<rd)/\E (.ref CR) none H
theorem z9D{A2 A0 CUnknownReader:Addr}(M:Bl mg)(T:TxBook K mg A2)(F:Fun K "refuse_unknown_reader" "Book.refuse_unknown_reader" z0Q f fd)(E3:Err K mg "UnknownReader" CUnknownReader) :
  A8 P w K mg base (CX1 P w) 1 f fd z0p (I0 (z1N (BkD K A2 A0)) (z4N (BkD K A2 A0) CUnknownReader)):=by
 have nd:=z0L.nd
 refine(z6Z M T F).toX.or (F.okX z0L (fun vs H Q E h=>?_) (fun cdv A outer s H vs Q E hr h=>?_))
 ·obtain⟨p,fp,zs,r,k,rows,log,rd,rfl,_⟩:=h
  rfl
 obtain⟨p,fp,zs,r,k,rows,log,rd,rfl,⟨dx,po,pd,fs,fo,us,rfl,B⟩,hn,kk⟩:=h
 refine⟨_,(z05 (z0G (PW.pt (z3Q (z08 z6d (pv 1) z06 (z0i _)) (z2q (z08 z2c (pv 1) (z0u (pv 0) rfl) (z0i _))))) (z05 (z31 E3 rfl (z00 z16 z01))) z0g)),?_⟩
 refine⟨_,rfl,_,_,rfl,rfl,_,rfl,B4 (fun q=>⟨(by show 1≤sizeLine;decide),kk⟩) fun n1=>?_⟩
 refine⟨_,rfl,_,rfl,p,A2,dx,fs,_,rfl,B.hp,T.cl,T.n_readers,B.lr,_,_,rfl,rfl,_,rfl,B4 (fun q=>⟨(by show 1≤sizeLine;decide),kk⟩) fun n2=>?_⟩
 exfalso
 have e1:¬rd<1:=fun z=>n1 (decide_eq_true z)
 have e2:¬k<rd:=fun z=>n2 (decide_eq_true z)
 omega
noncomputable def z6v(Bk:BkP)(CB:Addr):Sp:=fun vs H _ E=>∃(p:Addr) (fp:List Addr) (zs:List Str) (r k:Int) (rows:List Row) (log:List Deed),vs=[.ref p]/\Bk H p fp zs r k rows log/\400≤log.length/\E (.ref CB) none H
theorem y1C{A2 A0 CBookFull:Addr}(M:Bl mg)(T:TxBook K mg A2)(F:Fun K "refuse_further_deed" "Book.refuse_further_deed" z0Y f fd)(N2:Err K mg "BookFull" CBookFull) :
  A8 P w K mg base (CX1 P w) 1 f fd z0v (I0 (z2P (BkD K A2 A0)) (z6v (BkD K A2 A0) CBookFull)):=by
 have nd:=z0U.nd
 refine(z8M M T F).toX.or (F.okX z0U (fun vs H Q E h=>?_) (fun cdv A outer s H vs Q E hr h=>?_))
 ·obtain⟨p,fp,zs,r,k,rows,log,rfl,_⟩:=h
  rfl
 obtain⟨p,fp,zs,r,k,rows,log,rfl,⟨dx,po,pd,fs,fo,us,rfl,B⟩,l4,kk⟩:=h
 refine⟨_,(z05 (z0G (z08 y41 (z0b z09 rfl M.len bH (z00 (z0u (pv 0) rfl) z01)) (z1f rfl M.MOST_DEEDS) (z0i _)) (z05 (z31 N2 rfl (z00 (z9u (z3C z16 (z3C (y1K (z1f rfl M.MOST_DEEDS)) (z3C z16 y2l)))) z01))) z0g)),?_⟩
 have lu:=z2j B.ds
 refine⟨_,rfl,p,A2,dx,fs,_,rfl,B.hp,T.cl,T.n_done,B.ld,pd,us,rfl,.inl (SqL.of B.hd),_,_,rfl,rfl,_,rfl,?_⟩
 rw[decide_eq_true (by omega)]
 exact L8 ⟨_,rfl,(by decide +kernel),_,rfl,by decide,_,rfl,(by decide +kernel),_,rfl,(by decide +kernel),(by decide +kernel),(by show 1≤sizeLine;decide),kk⟩
noncomputable def y2y(K:PySem.W.Frag)(Bk:BkP)(CF CU CT CV CB:Addr):Sp:=fun vs H _ E=>∃(p a:Addr) (fp:List Addr) (zs:List Str) (r k:Int) (rows:List Row) (log:List Deed) (us:List V) (pr:Row) (C:Addr),vs=[.ref p,.ref a]/\Bk H p fp zs r k rows log/\SqP K H a us/\Paired (z21 K H) us pr/\pr.length≤100/\(∀p∈pr,p.1.length≤1000/\Low p.1)/\
 (RefW CF CU CT CV zs rows pr C\/(rows.length<60/\GoodR zs pr/\pr.length≤12/\400≤log.length/\C=CB))/\∀H',A4 H H'->E (.ref C) none H'
theorem y17{A2 A0 COfficeFull CUnknownName CNameTwice CBadValue CBookFull:Addr}(M:Bl mg)(T:TxBook K mg A2)(F:Fun K "write" "Book.write" z4f f fd)(A9:C5 P w K mg base 3 A0 "refuse_writing" z0B (z2K K (OfD K A0)))
  (E2:C5 P w K mg base 4 A0 "write" z2o (z60 K (OfD K A0))) (A6:C5 P w K mg base 1 A2 "refuse_further_deed" z0v (z2P (BkD K A2 A0)))
  (B7:K2 P w K mg base 3 A0 "refuse_writing" z0B (I0 (z2K K (OfD K A0)) (z7w K (OfD K A0) COfficeFull CUnknownName CNameTwice CBadValue)))
  (B5:K2 P w K mg base 1 A2 "refuse_further_deed" z0v (I0 (z2P (BkD K A2 A0)) (z6v (BkD K A2 A0) CBookFull))) :
  A8 P w K mg base (CX1 P w) 5 f fd z4c (I0 (z8r K (BkD K A2 A0)) (y2y K (BkD K A2 A0) COfficeFull CUnknownName CNameTwice CBadValue CBookFull)):=by
 have nd:=z3f.nd
 refine(z8L M T F A9 E2 A6).toX.or (F.okX z3f (fun vs H Q E h=>?_) (fun cdv A outer s H vs Q E hr h=>?_))
 ·obtain⟨p,a,fp,zs,r,k,rows,log,us,pr,C,rfl,_⟩:=h
  rfl
 obtain⟨p,a,fp,zs,r,k,rows,log,us,pr,C,rfl,bk,ha,hp,l100,hlow,rf,kk⟩:=h
 refine⟨_,(z03 (z0y (z3g z1i B7 (rm hr) (z0u (pv 0) rfl) (z00 (pv 1) z01))) (z03 (z0y (y09 z1i B5 (rm hr) (pv 0))) (z03 (z0f (i:=2) nd rfl (Or.inl rfl) (z1z E2 (rm hr) (z0u (pv 0) rfl) (z00 (pv 1) z01))) (z03 (z0y (z2Z bV bT bZ z0K (z0u (pv 0) rfl) (z00 (z0I (z00 (z0V rfl M.WRITE) (z00 (pv 2) z01))) z01))) (z05 (z0d (pv 2))))))),?_⟩
 obtain⟨dx,po,pd,fs,fo,vs,rfl,B⟩:=id bk
 obtain⟨dxo,pno,plo,fso,xso,efo,h1,h2,h3,h4,l1,l2,l3,lmo,_⟩:=id B.of
 rcases rf with rf|⟨l60,gr,l12,l4,rfl⟩
 ·exact⟨_,rfl,p,A2,dx,fs,_,rfl,B.hp,T.cl,T.n_office,B.lo,po,dxo,fso,rfl,h1,lmo _ (by simp),_,rfl,.inr ⟨po,a,fo,zs,r,rows,us,pr,C,rfl,B.of,ha,hp,l100,hlow,rf,kk⟩⟩
 ·exact⟨_,rfl,p,A2,dx,fs,_,rfl,B.hp,T.cl,T.n_office,B.lo,po,dxo,fso,rfl,h1,lmo _ (by simp),_,rfl,.inl ⟨po,a,fo,zs,r,rows,us,pr,rfl,B.of,ha,hp,gr,l12,l60,fun H1 s1=>⟨_,rfl,p,dx,fs,rfl,s1 _ _ B.hp,B.lm _ (by simp),.inr ⟨p,_,zs,r,k,rows,log,rfl,bkOk.same bk s1,l4,kk H1 s1⟩⟩⟩⟩
noncomputable def RefD(CN CR CB:Addr)(rows:List Row)(log:List Deed)(k rd n:Int)(C:Addr):Prop:=((n<1\/(rows.length:Int)<n)/\C=CN)\/(1≤n/\n≤rows.length/\(((rd<1\/k<rd)/\C=CR)\/(1≤rd/\rd≤k/\400≤log.length/\C=CB)))
noncomputable def y0r(Bk:BkP)(CN CR CB:Addr):Sp:=fun vs H _ E=>∃(p:Addr) (fp:List Addr) (zs:List Str) (r k:Int) (rows:List Row) (log:List Deed) (rd n:Int) (C:Addr),vs=[.ref p,.int rd,.int n]/\Bk H p fp zs r k rows log/\RefD CN CR CB rows log k rd n C/\∀H',A4 H H'->E (.ref C) none H'
theorem z9O{A2 A0 CNotWritten CUnknownReader CBookFull:Addr}(M:Bl mg)(T:TxBook K mg A2)(F:Fun K "deliver" "Book.deliver" z2X f fd)(B1:C5 P w K mg base 1 A0 "issue" z0P (z24 (OfD K A0)))
  (A5:C5 P w K mg base 1 A2 "refuse_unknown_reader" z0p (z1N (BkD K A2 A0))) (A6:C5 P w K mg base 1 A2 "refuse_further_deed" z0v (z2P (BkD K A2 A0)))
  (E4:K2 P w K mg base 1 A0 "issue" z0P (I0 (z24 (OfD K A0)) (z9S (OfD K A0) CNotWritten))) (B2:K2 P w K mg base 1 A2 "refuse_unknown_reader" z0p (I0 (z1N (BkD K A2 A0)) (z4N (BkD K A2 A0) CUnknownReader)))
  (B5:K2 P w K mg base 1 A2 "refuse_further_deed" z0v (I0 (z2P (BkD K A2 A0)) (z6v (BkD K A2 A0) CBookFull))) :
  A8 P w K mg base (CX1 P w) 5 f fd z2Y (I0 (z5I (BkD K A2 A0)) (y0r (BkD K A2 A0) CNotWritten CUnknownReader CBookFull)):=by
 have nd:=z2G.nd
 refine(z73 M T F B1 A5 A6).toX.or (F.okX z2G (fun vs H Q E h=>?_) (fun cdv A outer s H vs Q E hr h=>?_))
 ·obtain⟨p,fp,zs,r,k,rows,log,rd,n,C,rfl,_⟩:=h
  rfl
 obtain⟨p,fp,zs,r,k,rows,log,rd,n,C,rfl,bk,rf,kk⟩:=h
 have hu:=z8G hr
 refine⟨_,(z03 (z0y (z3g z1i E4 (rm hr) (z0u (pv 0) rfl) (z00 (pv 2) z01))) (z03 (z0y (z3g z1i B2 (rm hr) (pv 0) (z00 (pv 1) z01))) (z03 (z0y (y09 z1i B5 (rm hr) (pv 0))) (z03 (z0f (i:=3) nd rfl (Or.inl rfl) (z0I (z00 (z0V rfl M.DELIVER) (z00 (pv 1) (z00 (pv 2) z01))))) (z03 (z0f (i:=4) nd rfl (Or.inl rfl) (y1x (y0n hu) (pv 3) (z0u (pv 0) rfl) (by with_unfolding_all rfl))) (z03 (z0y (z2Z bV bT bZ z0K (z0u (pv 0) rfl) (z00 (pv 3) z01))) (z05 (z0d (pv 4))))))))),?_⟩
 obtain⟨dx,po,pd,fs,fo,vs,rfl,B⟩:=id bk
 obtain⟨dxo,pno,plo,fso,xso,efo,h1,h2,h3,h4,l1,l2,l3,lmo,_⟩:=id B.of
 rcases rf with ⟨hn,rfl⟩|⟨n1,n2,⟨hr2,rfl⟩|⟨r1,r2,l4,rfl⟩⟩
 ·exact⟨_,rfl,p,A2,dx,fs,_,rfl,B.hp,T.cl,T.n_office,B.lo,po,dxo,fso,rfl,h1,lmo _ (by simp),_,rfl,.inr ⟨po,fo,zs,r,rows,n,rfl,B.of,hn,kk H (A4.refl _)⟩⟩
 ·exact⟨_,rfl,p,A2,dx,fs,_,rfl,B.hp,T.cl,T.n_office,B.lo,po,dxo,fso,rfl,h1,lmo _ (by simp),_,rfl,.inl ⟨po,fo,zs,r,rows,n,rfl,B.of,n1,n2,fun v H1 s1 _=>⟨_,rfl,p,dx,fs,rfl,s1 _ _ B.hp,B.lm _ (by simp),_,rfl,.inr ⟨p,_,zs,r,k,rows,log,rd,rfl,bkOk.same bk s1,hr2,kk H1 s1⟩⟩⟩⟩
 ·exact⟨_,rfl,p,A2,dx,fs,_,rfl,B.hp,T.cl,T.n_office,B.lo,po,dxo,fso,rfl,h1,lmo _ (by simp),_,rfl,.inl ⟨po,fo,zs,r,rows,n,rfl,B.of,n1,n2,fun v H1 s1 _=>⟨_,rfl,p,dx,fs,rfl,s1 _ _ B.hp,B.lm _ (by simp),_,rfl,.inl ⟨p,_,zs,r,k,rows,log,rd,rfl,bkOk.same bk s1,r1,r2,⟨_,rfl,p,dx,fs,rfl,s1 _ _ B.hp,B.lm _ (by simp),.inr ⟨p,_,zs,r,k,rows,log,rfl,bkOk.same bk s1,l4,kk H1 s1⟩⟩⟩⟩⟩⟩
noncomputable def y2L(Bk:BkP)(CN:Addr):Sp:=fun vs H _ E=>∃(p:Addr) (fp:List Addr) (zs:List Str) (r k:Int) (rows:List Row) (log:List Deed) (n:Int),vs=[.ref p,.int n]/\Bk H p fp zs r k rows log/\(n<1\/(rows.length:Int)<n)/\E (.ref CN) none H
theorem y14{A2 A0 CNotWritten:Addr}(M:Bl mg)(T:TxBook K mg A2)(F:Fun K "issue" "Book.issue" z4a f fd)(B1:C5 P w K mg base 1 A0 "issue" z0P (z24 (OfD K A0)))
  (E4:K2 P w K mg base 1 A0 "issue" z0P (I0 (z24 (OfD K A0)) (z9S (OfD K A0) CNotWritten))):A8 P w K mg base (CX1 P w) 2 f fd z5j (I0 (y0R (BkD K A2 A0)) (y2L (BkD K A2 A0) CNotWritten)):=by
 have nd:=z3k.nd
 refine(z8P M T F B1).toX.or (F.okX z3k (fun vs H Q E h=>?_) (fun cdv A outer s H vs Q E hr h=>?_))
 ·obtain⟨p,fp,zs,r,k,rows,log,n,rfl,_⟩:=h
  rfl
 obtain⟨p,fp,zs,r,k,rows,log,n,rfl,⟨dx,po,pd,fs,fo,us,rfl,B⟩,hn,kk⟩:=h
 refine⟨_,(z05 (z0d (z3g z1i E4 (rm hr) (z0u (pv 0) rfl) (z00 (pv 1) z01)))),?_⟩
 obtain⟨dxo,pno,plo,fso,xso,efo,h1,h2,h3,h4,l1,l2,l3,lmo,_⟩:=id B.of
 exact⟨_,rfl,p,A2,dx,fs,_,rfl,B.hp,T.cl,T.n_office,B.lo,po,dxo,fso,rfl,h1,lmo _ (by simp),_,rfl,.inr ⟨po,fo,zs,r,rows,n,rfl,B.of,hn,kk⟩⟩
noncomputable def y4i(Bk:BkP)(CD:Addr):Sp:=fun vs H _ E=>∃(p:Addr) (fp:List Addr) (zs:List Str) (r k:Int) (rows:List Row) (log:List Deed) (n:Int),vs=[.ref p,.int n]/\Bk H p fp zs r k rows log/\(n<1\/(log.length:Int)<n)/\E (.ref CD) none H
theorem y2F{A2 A0 CNoSuchDeed:Addr}(M:Bl mg)(T:TxBook K mg A2)(F:Fun K "deed" "Book.deed" z4R f fd)(D9:Err K mg "NoSuchDeed" CNoSuchDeed):A8 P w K mg base (CX1 P w) 1 f fd z6S (I0 (y22 (BkD K A2 A0)) (y4i (BkD K A2 A0) CNoSuchDeed)):=by
 have nd:=z3Y.nd
 refine(y07 M T F).toX.or (F.okX z3Y (fun vs H Q E h=>?_) (fun cdv A outer s H vs Q E hr h=>?_))
 ·obtain⟨p,fp,zs,r,k,rows,log,n,rfl,_⟩:=h
  rfl
 obtain⟨p,fp,zs,r,k,rows,log,n,rfl,⟨dx,po,pd,fs,fo,us,rfl,B⟩,hn,kk⟩:=h
 refine⟨_,(z03 (z0G (PW.pt (z3Q (z08 z6d (pv 1) z06 (z0i _)) (z2q (z08 z2c (pv 1) (z0b z09 rfl M.len bH (z00 (z0u (pv 0) rfl) z01)) (z0i _))))) (z05 (z31 D9 rfl (z00 z16 z01))) z0g) (z05 (z0d (z0M z0N (z0u (pv 0) rfl) (z0t z2Q (pv 1) z06) (fun _ _=>rfl))))),?_⟩
 have lu:=z2j B.ds
 refine⟨_,rfl,_,_,rfl,rfl,_,rfl,B4 (fun q=>⟨(by show 1≤sizeLine;decide),kk⟩) fun n1=>?_⟩
 refine⟨_,rfl,_,rfl,p,A2,dx,fs,_,rfl,B.hp,T.cl,T.n_done,B.ld,pd,us,rfl,.inl (SqL.of B.hd),_,_,rfl,rfl,_,rfl,B4 (fun q=>⟨(by show 1≤sizeLine;decide),kk⟩) fun n2=>?_⟩
 exfalso
 have e1:¬n<1:=fun z=>n1 (decide_eq_true z)
 have e2:¬(us.length:Int)<n:=fun z=>n2 (decide_eq_true z)
 omega
theorem FunD.okX{x qual:Str}{st:Stmt}{f T:Addr}{items:Array Value}{fd:FuncData}{N ps:List Str}{k:Nat}{sp:Sp}(F:FunD K x qual st f fd T items)(S:A3 N ps (z07 st))(len:∀vs H Q E,sp vs H Q E->vs.length=ps.length)
  (R1:∀(cdv:Value) (A:Around) (outer:List Env) (s:Shared) (H:Hp) (vs:List V) (Q:VK) (E:XK),E5 k (A.deeper (PyProof.Rows.envOfC qual (z07 st) s.heap.objs.size f cdv))->sp vs H Q E->
   ∃t,PSs (B8 (CX1 P w) P w K mg base N qual (z07 st) f cdv A outer s H E) (z1c st) t/\t { nx:=fun _ H'=>Q .non H',rt:=Q } (z5h N vs) H):A8 P w K mg base (CX1 P w) (k+1) f fd ps sp:=by
 obtain⟨oc,od,kV,doc,pm,an,cdv,ct,osl,rfl,lk,hcd⟩:=F.ex
 exact y58 lk hcd S len fun A outer s H vs Q E hr hsp=>R1 cdv A outer s H vs Q E hr hsp
noncomputable def RefS(CD CR:Addr)(log:List Deed)(k rd:Int)(dv:V)(C:Addr):Prop:=(∃d:Int,dv=.int d/\(d<0\/(log.length:Int)<d)/\C=CD)\/((dv=.non\/∃d:Int,dv=.int d/\0≤d/\d≤log.length)/\(rd<1\/k<rd)/\C=CR)
noncomputable def z6B(Bk:BkP)(CD CR:Addr):Sp:=fun vs H _ E=>∃(p:Addr) (fp:List Addr) (zs:List Str) (r k:Int) (rows:List Row) (log:List Deed) (rd:Int) (dv:V) (C:Addr),vs=[.ref p,.int rd,dv]/\Bk H p fp zs r k rows log/\RefS CD CR log k rd dv C/\E (.ref C) none H
theorem y1k{A2 A0 A1 CNoSuchDeed CUnknownReader T0:Addr}{items:Array Value}(M:Bl mg)(T:TxBook K mg A2)(TO:TxOffice K mg A0)(F:FunD K "shelf" "Book.shelf" z47 f fd T0 items)(D9:Err K mg "NoSuchDeed" CNoSuchDeed)(B1:C5 P w K mg base 1 A0 "issue" z0P (z24 (OfD K A0)))
  (A5:C5 P w K mg base 1 A2 "refuse_unknown_reader" z0p (z1N (BkD K A2 A0))) (L4:Mkr P w K mg base 3 A1 "Shelf" z1L (z7u K A1 (ShD K A1)))
  (D7:C5 P w K mg base 1 A1 "put" z3H (y63 (ShD K A1))) (B2:K2 P w K mg base 1 A2 "refuse_unknown_reader" z0p (I0 (z1N (BkD K A2 A0)) (z4N (BkD K A2 A0) CUnknownReader))) :
  A8 P w K mg base (CX1 P w) 6 f fd z2d (I0 (z3I (BkD K A2 A0) (ShD K A1)) (z6B (BkD K A2 A0) CNoSuchDeed CUnknownReader)):=by
 have nd:=z3i.nd
 refine(z6O M T TO F B1 A5 L4 D7).toX.or (FunD.okX F z3i (fun vs H Q E h=>?_) (fun cdv A outer s H vs Q E hr h=>?_))
 ·obtain⟨p,fp,zs,r,k,rows,log,rd,dv,C,rfl,_⟩:=h
  rfl
 obtain⟨p,fp,zs,r,k,rows,log,rd,dv,C,rfl,bk,rf,kk⟩:=h
 refine⟨_,(z03 (z0f (i:=3) nd rfl (Or.inl rfl) (z43 (z7d (z94 (pv 2))) (z0b z09 rfl M.len bH (z00 (z0u (pv 0) rfl) z01)) (pv 2))) (z03 (z0G (PW.pt (z3Q (z08 z6d (pv 3) z06 (z0i _)) (z2q (z08 z2c (pv 3) (z0b z09 rfl M.len bH (z00 (z0u (pv 0) rfl) z01)) (z0i _))))) (z05 (z31 D9 rfl (z00 z16 z01))) z0g) (z03 (z0y (z3g z1i B2 (rm hr) (pv 0) (z00 (pv 1) z01))) (z03 (z0f (i:=4) nd rfl (Or.inl rfl) (y01 L4 (rm hr) rfl (z00 (z0u (z0u (pv 0) rfl) rfl) (z00 (z0u (z0u (pv 0) rfl) rfl) z01)))) (z03 (z87 (z1v (z2p y4U (z0u (pv 0) rfl) z3e (z3c (pv 3)))) (z0h (i:=5) nd rfl (Or.inl rfl)) (z05 (z0G (z08 (y6z hr.T7) (z2p y1y (pv 5) z3e (z3c z06)) (z0I (z00 (z0V rfl M.DELIVER) (z00 (pv 1) z01))) (z0i _)) (z05 (z0y (z1z D7 (rm hr) (pv 4) (z00 (z1z B1 (rm hr) (z0u (pv 0) rfl) (z00 (z0M z1b (pv 5) z06 (fun _ _=>rfl)) z01)) z01)))) z0g))) (z05 (z0d (pv 4)))))))),?_⟩
 obtain⟨dx,po,pd,fs,fo,us,rfl,B⟩:=id bk
 have lu:=z2j B.ds
 rcases rf with ⟨d,rfl,hd,rfl⟩|⟨rfl|⟨d,rfl,d0,d1⟩,hr2,rfl⟩
 ·refine⟨_,rfl,_,rfl,E7 ⟨_,rfl,?_⟩⟩
  refine⟨_,rfl,_,_,rfl,rfl,_,rfl,B4 (fun q=>⟨(by show 1≤sizeLine;decide),kk⟩) fun n1=>?_⟩
  refine⟨_,rfl,_,rfl,p,A2,dx,fs,_,rfl,B.hp,T.cl,T.n_done,B.ld,pd,us,rfl,.inl (SqL.of B.hd),_,_,rfl,rfl,_,rfl,B4 (fun q=>⟨(by show 1≤sizeLine;decide),kk⟩) fun n2=>?_⟩
  exfalso
  have e1:¬d<0:=fun z=>n1 (decide_eq_true z)
  have e2:¬(us.length:Int)<d:=fun z=>n2 (decide_eq_true z)
  omega
 ·refine⟨_,rfl,_,rfl,L8 ⟨_,rfl,p,A2,dx,fs,_,rfl,B.hp,T.cl,T.n_done,B.ld,pd,us,rfl,.inl (SqL.of B.hd),?_⟩⟩
  refine⟨_,rfl,_,_,rfl,rfl,_,rfl,B4 (fun q=>absurd (z0C q) (by omega)) fun n1=>?_⟩
  refine⟨_,rfl,_,rfl,p,A2,dx,fs,_,rfl,B.hp,T.cl,T.n_done,B.ld,pd,us,rfl,.inl (SqL.of B.hd),_,_,rfl,rfl,_,rfl,B4 (fun q=>absurd (z0C q) (by omega)) fun n2=>?_⟩
  exact⟨_,rfl,p,dx,fs,rfl,B.hp,B.lm _ (by simp),_,rfl,.inr ⟨p,_,zs,r,k,rows,log,rd,rfl,bk,hr2,kk⟩⟩
 ·refine⟨_,rfl,_,rfl,E7 ⟨_,rfl,?_⟩⟩
  refine⟨_,rfl,_,_,rfl,rfl,_,rfl,B4 (fun q=>absurd (z0C q) (by omega)) fun n1=>?_⟩
  refine⟨_,rfl,_,rfl,p,A2,dx,fs,_,rfl,B.hp,T.cl,T.n_done,B.ld,pd,us,rfl,.inl (SqL.of B.hd),_,_,rfl,rfl,_,rfl,B4 (fun q=>absurd (z0C q) (by omega)) fun n2=>?_⟩
  exact⟨_,rfl,p,dx,fs,rfl,B.hp,B.lm _ (by simp),_,rfl,.inr ⟨p,_,zs,r,k,rows,log,rd,rfl,bk,hr2,kk⟩⟩
noncomputable def optD:Option (List Str)->DV
 | none=>.non
 | some zs=>nmsD zs
noncomputable def z7n(hs:List Int)(rows:List Row)(r n:Int):Option (List Str):=if n∈hs\/z0W hs n r≠0 then some (z1T (z15 rows n)) else none
noncomputable def y1Z(m:Nat)(hs:List Int)(rows:List Row)(r:Int):List (Option (List Str)):=(upI 1 m).map (z7n hs rows r)
noncomputable def y5t(had:List Int)(m:Nat):Prop:=((m:Int)∈had\/(had=[]/\m=0))/\∀y∈had,y≤(m:Int)
theorem y2S(m:Nat)(hs:List Int)(rows:List Row)(r:Int):(y1Z m hs rows r).length=m:=by
 unfold y1Z
 rw[b9,z0T]
theorem y5t.le{a:List Int}{m:Nat}{k:Int}(h:y5t a m)(hk:0≤k)(ha:∀x∈a,x≤k):(m:Int)≤k:=by
 rcases h.1 with q|⟨_,q⟩
 ·exact ha _ q
 ·omega
theorem y85{nm:List Str}{rows:List Row}(R:Rws nm rows)(gn:GoodN nm)(n:Int):(z1T (z15 rows n)).length≤12:=by
 have:=y1J gn R n
 unfold z1T
 rw[b9]
 exact this
noncomputable def y50(Sh:ShP):Sp:=fun vs H Q _=>∃(x:Addr) (fp:List Addr) (nm:List Str) (r:Int) (iss:Int->DV) (had:List Int),vs=[.ref x]/\Sh H x fp nm r iss had/\(∀n∈had,1≤n/\n≤60)/\
 ∀(H':Hp),A4 H H'->Q (.int (2^((z4m (z0m had) r).length*nm.length))) H'
theorem y88(M:Bl mg)(F:Fun K "two_to_the" "two_to_the" z5F f fd):A8 P w K mg base CX0 1 f fd z42 z4A:=by
 have nd:=z7l.nd
 refine F.ok z7l (fun vs H Q E h=>?_) (fun cdv A outer s H vs Q E hr h=>?_)
 ·obtain⟨t,rfl,_⟩:=h
  rfl
 obtain⟨t,rfl,t0,t1,q⟩:=h
 refine⟨_,(z03 (z0f (i:=1) nd rfl (Or.inl rfl) z06) (z03 (z1s cD rfl (z1M rfl M.range (z00 (pv 0) z01)) (z0h (i:=2) nd rfl (Or.inl rfl)) (z05 (z0f (i:=1) nd rfl (Or.inl rfl) (z0t z57 (pv 1) z06)))) (z05 (z0d (pv 1))))),?_⟩
 refine⟨_,rfl,_,rfl,by omega,by omega,?_⟩
 refine z2h (lo:=0) (n:=t.toNat) (fun i σ H'=>H'=H/\∃o,σ=[some (.int t),some (.int (2^i)),o]) ⟨rfl,_,rfl⟩ (fun i σ H' hi hp=>?_) (fun σ H' hp=>?_)
 ·obtain⟨rfl,o,rfl⟩:=hp
  refine⟨_,rfl,_,_,rfl,rfl,.inr ⟨by decide,by decide⟩,rfl,some (.int (0+(i:Int))),?_⟩
  rw[Int.pow_succ]
  rfl
 ·obtain⟨rfl,o,rfl⟩:=hp
  exact⟨_,rfl,q⟩
theorem y5v{A1:Addr}(M:Bl mg)(T:TxShelf K mg A1)(F:Fun K "course_count" "course_count" z3S f fd)(A7:C5 P w K mg base 1 A1 "had" z0Z (z2u (ShD K A1)))
  (C8:Cal P w K mg base 3 "dark_numbers" z2i (y1O K)) (F5:Cal P w K mg base 1 "two_to_the" z42 z4A):A8 P w K mg base CX0 4 f fd z41 (y50 (ShD K A1)):=by
 have nd:=z5e.nd
 refine F.ok z5e (fun vs H Q E h=>?_) (fun cdv A outer s H vs Q E hr h=>?_)
 ·obtain⟨x,fp,nm,r,iss,had,rfl,_⟩:=h
  rfl
 obtain⟨x,fp,nm,r,iss,had,rfl,sh,hh,k⟩:=h
 refine⟨_,(z03 (z0f (i:=1) nd rfl (Or.inl rfl) (z0k C8 (rm hr) rfl (z00 (z1q A7 (rm hr) (pv 0)) (z00 (z0u (pv 0) rfl) z01)))) (z05 (z0d (z0k F5 (rm hr) rfl (z00 (z0t z57 (z0b z09 rfl M.len bH (z00 (pv 1) z01)) (z0b z09 rfl M.len bH (z00 (z0u (pv 0) rfl) z01))) z01))))),?_⟩
 obtain⟨dx,pn,fs,h1,h3,ln,lr,lm,gn⟩:∃dx pn fs,H x=some (.ins A1 dx fs)/\H pn=some (.tup (nm.map V.str))/\fs.lookup ("names":Str)=some (V.ref pn)/\fs.lookup ("reach":Str)=some (V.int r)/\fs.lookup ("had":Str)=none/\GoodN nm:=by
  obtain⟨dx,pn,pd,fs,kvs,_,h1,_,h3,_,l1,l2,_,lm,_,_,_,_,gn,_⟩:=sh
  exact⟨dx,pn,fs,h1,h3,l1,l2,lm _ (by simp),gn⟩
 have h60:∀n∈z0m had,1≤n/\n≤60:=fun n hn=>hh n (z1j.mp hn).2
 refine⟨_,rfl,x,dx,fs,rfl,h1,lm,x,fp,nm,r,_,had,rfl,sh,fun l H1 s1 e1=>?_⟩
 refine⟨_,rfl,x,A1,dx,fs,_,rfl,s1 _ _ h1,T.cl,T.n_reach,lr,l,z0m had,r,rfl,.inr (SqT.of e1),h60,cL (z67 had) (by decide),fun d H2 s2 e2=>?_⟩
 have s12:=s1.trans s2
 have ld:((z4m (z0m had) r).map V.int).length=(z4m (z0m had) r).length:=b9 _
 have lm':(nm.map V.str).length=nm.length:=b9 _
 have l60:=z7O (z0m had) r
 have n12:=gn.hi
 have lt:(z4m (z0m had) r).length*nm.length≤60*12:=Nat.mul_le_mul l60 n12
 refine⟨_,rfl,d,_,rfl,.inr (SqT.of e2),_,rfl,x,A1,dx,fs,_,rfl,s12 _ _ h1,T.cl,T.n_names,ln,pn,_,rfl,.inr (SqT.of (s12 _ _ h3)),_,_,rfl,rfl,?_,_,rfl,?_,?_,?_⟩
 ·rw[ld]
  exact .inl ⟨by omega,by omega⟩
 ·exact Int.mul_nonneg (Int.natCast_nonneg _) (Int.natCast_nonneg _)
 ·rw[ld,lm',<- Int.natCast_mul]
  omega
 ·rw[ld,lm',<- Int.natCast_mul,Int.toNat_natCast]
  exact k H2 s12
theorem y2i(ns:List Int)(r:Int):z4m ns r=(z1d ns).filter fun n=>decide (z0W ns n r=0):=by
 unfold z4m lwtL
 rw[List.filter_map,dH]
 exact List.map_id _
structure PlanOk(ns:List Int)(r b:Int)(fs as:List Int):Prop where
 len:fs.length=as.length
 fr:fs.Pairwise (· < ·)
 ar:as.Pairwise fun x y=>x+r<y
 lack:∀x∈fs,x∈z1d ns
 cov:∀d∈z1Y ns r b,∃x∈fs,d≤x/\x≤d+r
 mem:∀a∈as,a∈z1Y ns r b
noncomputable def y7G(H:Hp)(v:V)(ns:List Int)(r b:Int):Prop:=∃(l lf la:Addr) (fs as:List Int),v=.ref l/\H l=some (.tup [.ref lf,.ref la])/\H lf=some (.tup (fs.map V.int))/\H la=some (.tup (as.map V.int))/\PlanOk ns r b fs as
noncomputable def y2b(K:PySem.W.Frag):Sp:=fun vs H Q _=>∃(p:Addr) (ns:List Int) (r b:Int),vs=[.ref p,.int r,.int b]/\SqI K H p ns/\(∀x∈ns,1≤x/\x≤60)/\ns.length≤900/\0≤r/\
 ∀(v:V) (H':Hp),A4 H H'->y7G H' v ns r b->Q v H'
theorem y2Q{ns:List Int}{r n:Int}:n∈z4m ns r↔n∈z1d ns/\z0W ns n r=0:=by
 rw[y2i,cK,decide_eq_true_eq]
theorem y53{ns:List Int}{r n:Int}(C7:∀x∈ns,1≤x/\x≤60)(r0:0≤r)(h:n∈z4m ns r):n+r∈z1d ns:=by
 obtain⟨h1,h2⟩:=y2Q.mp h
 have z:=y2E C7 h2
 obtain⟨a,b,y,hy,c⟩:=z25.mp h1
 have:=C7 y hy
 have:=z y hy c
 refine z25.mpr ⟨by omega,fun hn=>?_,y,hy,by omega⟩
 rcases Int.lt_or_le n (n+r) with q|q
 ·exact z _ hn q (by omega)
 ·have e:n+r=n:=by omega
  rw[e] at hn
  exact b hn
structure Gr(ds:List Int)(r:Int)(as:List Int):Prop where
 ar:as.Pairwise fun x y=>x+r<y
 mem:∀a∈as,a∈ds
 cov:∀d∈ds,∃a∈as,a≤d/\d≤a+r
theorem Gr.add{ds:List Int}{r d:Int}{as:List Int}(g:Gr ds r as)(h:∀a∈as,a+r<d)(r0:0≤r):Gr (ds++[d]) r (as++[d]) where
 ar:=cX.mpr ⟨g.ar,eZ _ _,fun x hx y hy=>by rw[bB.mp hy];exact h x hx⟩
 mem a ha:=by
  rcases bS.mp ha with ha|ha
  ·exact d6 _ (g.mem a ha)
  ·exact bR _ ha
 cov x hx:=by
  rcases bS.mp hx with hx|hx
  ·obtain⟨a,ha,q⟩:=g.cov x hx
   exact⟨a,d6 _ ha,q⟩
  ·rw[bB.mp hx]
   exact⟨d,bR _ (bB.mpr rfl),dP _,by omega⟩
theorem Gr.skip{ds:List Int}{r d a:Int}{as:List Int}(g:Gr ds r as)(ha:a∈as)(h1:a≤d)(h2:d≤a+r):Gr (ds++[d]) r as where
 ar:=g.ar
 mem a ha:=d6 _ (g.mem a ha)
 cov x hx:=by
  rcases bS.mp hx with hx|hx
  ·exact g.cov x hx
  ·rw[bB.mp hx]
   exact⟨a,ha,h1,h2⟩
theorem Gr.plan{ns:List Int}{r b:Int}{as:List Int}(g:Gr (z1Y ns r b) r as)(C7:∀x∈ns,1≤x/\x≤60)(r0:0≤r):PlanOk ns r b (as.map (·+r)) as where
 len:=b9 _
 fr:=by
  rw[dR]
  exact g.ar.imp fun h=>by omega
 ar:=g.ar
 lack x hx:=by
  obtain⟨a,ha,rfl⟩:=cG.mp hx
  exact y53 C7 r0 (cK.mp (g.mem a ha)).1
 cov d hd:=by
  obtain⟨a,ha,h1,h2⟩:=g.cov d hd
  exact⟨a+r,cG.mpr ⟨a,ha,rfl⟩,h2,by omega⟩
 mem:=g.mem
theorem y2C{as:List Int}(h:as≠[]):∃(init:List Int) (z:Int),as=init++[z]:=⟨as.dropLast,as.getLast h,(List.dropLast_concat_getLast h).symm⟩
theorem y4s(M:Bl mg)(F:Fun K "fewest_numbers" "fewest_numbers" z3d f fd)(B0:Cal P w K mg base 4 "dark_numbers_behind" z0S (z61 K)):A8 P w K mg base CX0 5 f fd z3b (y2b K):=by
 have nd:=z4k.nd
 refine F.ok z4k (fun vs H Q E h=>?_) (fun cdv A outer s H vs Q E hr h=>?_)
 ·obtain⟨p,ns,r,b,rfl,_⟩:=h
  rfl
 obtain⟨p,ns,r,b,rfl,hS,C7,hlen,r0,q⟩:=h
 refine⟨_,(z03 (z0f (i:=3) nd rfl (Or.inl rfl) (z1w z01)) (z03 (z0f (i:=4) nd rfl (Or.inl rfl) (z1w z01)) (z03 (z1s cD rfl (z2N (z0k B0 (rm hr) rfl (z00 (pv 0) (z00 (pv 1) (z00 (pv 2) z01))))) (z0h (i:=5) nd rfl (Or.inl rfl)) (z05 (z0G (PW.pt (z3Q (z08 z23 (z0b z09 rfl M.len bH (z00 (pv 3) z01)) z06 (z0i _)) (z2q (z08 z2c (pv 5) (z0M z0N (pv 3) (y3n y0Q z06) (fun _ _=>rfl)) (z0i _))))) (z03 (z0y (z2Z bV bT bZ z0K (pv 3) (z00 (z0t z1G (pv 5) (pv 1)) z01))) (z05 (z0y (z2Z bV bT bZ z0K (pv 4) (z00 (pv 5) z01))))) z0g))) (z05 (z0d (z0I (z00 (z0q z0l rfl M.tuple bI (z00 (pv 3) z01)) (z00 (z0q z0l rfl M.tuple bI (z00 (pv 4) z01)) z01)))))))),?_⟩
 refine⟨(by show 0≤sizeLine;decide),fun lf hlf=>⟨(by show 0≤sizeLine;decide),fun la hla=>?_⟩⟩
 have s1:=(z02 hlf (.lst [])).trans (z02 hla (.lst []))
 have ef:upd (upd H lf (.lst [])) la (.lst []) lf=some (.lst []):=z02 hla _ _ _ z04
 have ea:upd (upd H lf (.lst [])) la (.lst []) la=some (.lst []):=z04
 have nfa:lf≠la:=z0o z04 hla
 have hla':H la=none:=(z02 hlf _).free hla
 generalize upd (upd H lf (.lst [])) la (.lst [])=H1 at s1 ef ea
 refine⟨_,rfl,_,rfl,_,rfl,p,ns,r,b,rfl,SqI.keep s1 hS,C7,hlen,fun lt H2 s2 e2=>?_⟩
 have ld:(z1Y ns r b).length≤60:=cL (cI _ _) (z7O ns r)
 have rise:(z1Y ns r b).Pairwise (· < ·):=by
  unfold z1Y
  rw[y2i]
  exact((z33 ns).filter _).filter _
 refine⟨lt,rfl,⟨_,SqT.of e2⟩,z7T (K:=K) (a:=lt) (xs:=(z1Y ns r b).map V.int) (fun i σ H'=>∃(as:List Int) (o:Option V),A4 H H'/\H' lt=some (.tup ((z1Y ns r b).map V.int))/\H' lf=some (.lst ((as.map (·+r)).map V.int))/\H' la=some (.lst (as.map V.int))/\as.length≤i/\Gr ((z1Y ns r b).take i) r as/\
  σ=[some (.ref p),some (.int r),some (.int b),some (.ref lf),some (.ref la),o]) ⟨[],none,s1.trans s2,e2,s2 _ _ ef,s2 _ _ ea,bE 0,⟨.nil,fun _ h=>(nomatch h),fun _ h=>(nomatch h)⟩,rfl⟩ (fun i σ H' _ hp=>?_) (fun i x σ H' hx hp=>?_) (fun σ H' hp=>?_)⟩
 ·obtain⟨as,o,g,e,_⟩:=hp
  exact SqT.of e
 ·obtain⟨as,o,g,e,e3,e4,li,G,rfl⟩:=hp
  rw[bK] at hx
  obtain⟨d,ed,rfl⟩:=cP.mp hx
  have hi:i<(z1Y ns r b).length:=(cJ.mp ed).1
  have lm1:((as.map (·+r)).map V.int).length=as.length:=by rw[b9,b9]
  have lm2:(as.map V.int).length=as.length:=b9 _
  have up:(∀a∈as,a+r<d)->∃(as':List Int) (o:Option V),A4 H (upd (upd H' lf (.lst ((as.map (·+r)).map V.int++[V.int (d+r)]))) la (.lst (as.map V.int++[V.int d])))/\upd (upd H' lf (.lst ((as.map (·+r)).map V.int++[V.int (d+r)]))) la (.lst (as.map V.int++[V.int d])) lt=some (.tup ((z1Y ns r b).map V.int))/\
    upd (upd H' lf (.lst ((as.map (·+r)).map V.int++[V.int (d+r)]))) la (.lst (as.map V.int++[V.int d])) lf=some (.lst ((as'.map (·+r)).map V.int))/\upd (upd H' lf (.lst ((as.map (·+r)).map V.int++[V.int (d+r)]))) la (.lst (as.map V.int++[V.int d])) la=some (.lst (as'.map V.int))/\as'.length≤i+1/\Gr ((z1Y ns r b).take (i+1)) r as'/\
    [some (V.ref p),some (V.int r),some (V.int b),some (V.ref lf),some (V.ref la),some (V.int d)]=[some (V.ref p),some (V.int r),some (V.int b),some (V.ref lf),some (V.ref la),o]:=fun h=>by
   refine⟨as++[d],_,z2E (z2E g hlf) hla',?_,?_,?_,?_,?_,rfl⟩
   ·rw[z0e (z50 e e4 (by intro z;cases z)),z0e (z50 e e3 (by intro z;cases z))]
    exact e
   ·rw[z0e nfa,z04,bG,bG]
    rfl
   ·rw[z04,bG]
    rfl
   ·rw[bN]
    exact jH li
   ·rw[z0x ed]
    exact G.add h r0
  refine⟨_,rfl,lf,_,rfl,.inl (SqL.of e3),rfl,_,rfl,?_⟩
  rw[lm1]
  refine B4 (fun c=>?_) (fun c=>?_)
  ·have c0:as=[]:=List.length_eq_zero_iff.mp (by have:=z0C c;injection this with this;omega)
   refine⟨_,rfl,.inl ⟨rfl,_,SqL.of e3⟩,_,rfl,_,rfl,_,_,rfl,rfl,lf,_,_,rfl,rfl,e3,z0n (by omega),?_⟩
   refine⟨_,rfl,.inl ⟨rfl,_,SqL.of (by rw[z0e (cS nfa)];exact e4)⟩,_,rfl,la,_,_,rfl,rfl,(by rw[z0e (cS nfa)];exact e4),z0n (by omega),?_⟩
   exact up fun a ha=>by rw[c0] at ha;cases ha
  ·have c0:as≠[]:=fun z=>c (by rw[z];rfl)
   obtain⟨init,z,ez⟩:=y2C c0
   refine⟨_,rfl,_,rfl,_,rfl,lf,_,_,V.int (z+r),rfl,rfl,SqL.of e3,(by rw[ez,bG,bG];exact y56 _ _),_,_,rfl,rfl,_,rfl,?_⟩
   have hz:z∈as:=by rw[ez];exact bR _ (bB.mpr rfl)
   refine B4 (fun c=>?_) (fun c=>?_)
   ·have c1:=z0C c
    refine⟨_,rfl,.inl ⟨rfl,_,SqL.of e3⟩,_,rfl,_,rfl,_,_,rfl,rfl,lf,_,_,rfl,rfl,e3,z0n (by omega),?_⟩
    refine⟨_,rfl,.inl ⟨rfl,_,SqL.of (by rw[z0e (cS nfa)];exact e4)⟩,_,rfl,la,_,_,rfl,rfl,(by rw[z0e (cS nfa)];exact e4),z0n (by omega),?_⟩
    refine up fun a ha=>?_
    have hp:=G.ar
    rw[ez] at ha hp
    rcases bS.mp ha with h|h
    ·have:=(cX.mp hp).2.2 a h z (bB.mpr rfl)
     omega
    ·rw[bB.mp h]
     exact c1
   ·have c1:=z4I c
    refine⟨as,_,g,e,e3,e4,by omega,?_,rfl⟩
    rw[z0x ed]
    refine G.skip hz ?_ (by omega)
    have h1:=G.mem z hz
    have h2:((z1Y ns r b).take i++[d]).Pairwise (· < ·):=by
     rw[<- z0x ed]
     exact rise.sublist (List.take_sublist _ _)
    exact Int.le_of_lt ((cX.mp h2).2.2 z h1 d (bB.mpr rfl))
 ·obtain⟨as,o,g,e,e3,e4,li,G,rfl⟩:=hp
  rw[b9,bX] at G
  refine⟨_,rfl,lf,_,rfl,.inl ⟨SqL.of e3,fun t1 ht1=>⟨_,rfl,la,_,rfl,.inl ⟨SqL.of (z02 ht1 _ _ _ e4),fun t2 ht2=>⟨(by show 2≤sizeLine;decide),fun t ht=>?_⟩⟩⟩⟩⟩
  exact q _ _ (g.trans ((z02 ht1 _).trans ((z02 ht2 _).trans (z02 ht _)))) ⟨t,t1,t2,_,_,rfl,z04,z02 ht _ _ _ (z02 ht2 _ _ _ z04),z02 ht _ _ _ z04,G.plan C7 r0⟩
noncomputable def y4t(Sh:ShP):Sp:=fun vs H Q _=>∃(x:Addr) (fp:List Addr) (nm:List Str) (r:Int) (rows:List Row) (had:List Int) (m:Nat),vs=[.ref x]/\Sh H x fp nm r (fun n=>z11 rows n r) had/\GoodN nm/\Rws nm rows/\rows.length≤60/\(∀n∈had,1≤n/\n≤rows.length)/\0≤r/\r≤10/\y5t had m/\
 ∀(v:V) (H':Hp),A4 H H'->Tell H' (.tup ((y1Z m (z0m had) rows r).map optD)) v->Q v H'
theorem y23{had:List Int}{m:Nat}(h60:∀n∈had,1≤n/\n≤60)(t:y5t had m):z0m (z0m had++z1d (z0m had))=upI 1 m:=z2m (z2g _) (z1S _ _) fun x=>by
 have inr:∀y,y∈z0m had↔y∈had:=fun y=>by
  rw[z1j]
  exact⟨fun h=>h.2,fun h=>⟨by have:=h60 y h;omega,h⟩⟩
 rw[z1j,bS,z1r,z25]
 constructor
 ·rintro⟨h1,h|⟨_,_,y,hy,h⟩⟩
  ·have:=t.2 x ((inr x).mp h)
   omega
  ·have:=t.2 y ((inr y).mp hy)
   omega
 ·rintro⟨h1,h2⟩
  rcases t.1 with q|⟨_,q⟩
  ·have:=h60 _ q
   refine⟨by omega,?_⟩
   by_cases c:x∈z0m had
   ·exact .inl c
   ·refine .inr ⟨by omega,c,m,(inr _).mpr q,?_⟩
    have:x≠(m:Int):=fun e=>c (by rw[e];exact(inr _).mpr q)
    omega
  ·omega
theorem y1U{kvs:List (Key×V)}{ks:List Int}(kk:kvs.map (·.1)=ks.map Sum.inl){n:Int}(hn:n∉ks)(v:V):putK kvs (Sum.inl n) v=kvs++[(Sum.inl n,v)]:=by
 refine y28 _ ?_
 have:=z9h kk n
 rw[decide_eq_false hn] at this
 cases e:K9 kvs (Sum.inl n:Key) with
 | none=>rfl
 | some v=>rw[e] at this;cases this
theorem y5A{A1:Addr}(M:Bl mg)(F:Fun K "known_sets" "known_sets" z5v f fd)(A7:C5 P w K mg base 1 A1 "had" z0Z (z2u (ShD K A1)))(C4:C5 P w K mg base 1 A1 "rows_of" z27 (z7t (ShD K A1)))
  (C2:Cal P w K mg base 1 "names_of_rows" z26 z9s) (G8:Cal P w K mg base 3 "gaps_of" z64 (z7x (ShD K A1))):A8 P w K mg base CX0 4 f fd z5p (y4t (ShD K A1)):=by
 have nd:=z7j.nd
 refine F.ok z7j (fun vs H Q E h=>?_) (fun cdv A outer s H vs Q E hr h=>?_)
 ·obtain⟨x,fp,nm,r,rows,had,m,rfl,_⟩:=h
  rfl
 obtain⟨x,fp,nm,r,rows,had,m,rfl,sh,gn,R,l60,hh,r0,r10,it,k⟩:=h
 have hu:=z8G hr
 refine⟨_,(z03 (z0f (i:=1) nd rfl (Or.inr rfl) y21) (z03 (z1s cD rfl (z2N (z1q A7 (rm hr) (pv 0))) (z0h (i:=2) nd rfl (Or.inl rfl)) (z05 (y1D hu (pv 1) (pv 2) (z0k C2 (rm hr) rfl (z00 (z1z C4 (rm hr) (pv 0) (z00 (pv 2) z01)) z01)) rfl))) (z03 (z1s cD rfl (z2N (z0k G8 (rm hr) rfl (z00 (pv 0) z01))) (y6g rfl (z0O (z0h (i:=2) nd rfl (Or.inl rfl)) (z0O (z0h (i:=3) nd rfl (Or.inl rfl)) (z0O (z0h (i:=4) nd rfl (Or.inl rfl)) z3y)))) (z05 (y1D hu (pv 1) (pv 2) (z43 (z08 z23 (pv 3) z06 (z0i _)) z9a (pv 4)) rfl))) (z05 (z0d (z0q z0l rfl M.tuple bI (z00 (z1n ["number"] ["sets"] [1] rfl (z0z rfl (by decide +kernel) rfl (by decide +kernel) rfl rfl) (z1v (z0b (z4l rfl) rfl M.sorted eO (z00 (pv 1) z01))) (fun _ _ _ _ _=>(z0h (i:=0) (show((["number"]:List PySem.Str)++(["sets"]:List PySem.Str)).Nodup from by decide +kernel) rfl (Or.inl rfl))) (z0A (by decide)) z0a (fun _ _ _ _ _=>z1Z) (fun _ _ _ _ _=>(z5q hu (pv 1) (pv 0) (fun _ _=>rfl)))) z01))))))),?_⟩
 have h60:∀n∈had,1≤n/\n≤60:=fun n hn=>by have:=hh n hn;omega
 have rl:=z67 had
 have ll:=z2O (z0m had)
 obtain⟨dx,fs,h1,lm,lo⟩:∃dx fs,H x=some (.ins A1 dx fs)/\fs.lookup ("had":Str)=none/\fs.lookup ("rows_of":Str)=none:=by
  obtain⟨dx,pn,pd,fs,kvs,_,h1,_,_,_,_,lr,_,lm,_⟩:=sh
  exact⟨dx,fs,h1,lm _ (by simp),lm _ (by simp)⟩
 intro d hd
 have s0:=z02 hd (.dK [])
 have e0:upd H d (.dK []) d=some (.dK []):=z04
 generalize upd H d (.dK [])=H0 at s0 e0
 refine⟨_,rfl,x,dx,fs,rfl,s0 _ _ h1,lm,x,fp,nm,r,_,had,rfl,shOk.same sh s0,fun l H1 s1 e1=>?_⟩
 have s01:=s0.trans s1
 refine⟨l,rfl,⟨_,SqT.of e1⟩,z7T (K:=K) (a:=l) (xs:=(z0m had).map V.int) (fun i σ G=>∃(kvs:List (Key×V)) (o2:Option V),A4 H G/\G l=some (.tup ((z0m had).map V.int))/\G d=some (.dK kvs)/\kvs.map (·.1)=((z0m had).take i).map Sum.inl/\(∀n v,(Sum.inl n,v)∈kvs->Tell G (nmsD (z1T (z15 rows n))) v)/\
   σ=[some (.ref x),some (.ref d),o2,none,none]) ⟨[],none,s01,e1,s1 _ _ e0,by rw[cV];rfl,fun _ _ q=>(nomatch q),rfl⟩ (fun i σ G _ ⟨_,_,_,e,_⟩=>SqT.of e) ?_ ?_⟩
 ·rintro i y σ G hy ⟨kvs,o2,sG,elG,edG,kk,tk,rfl⟩
  rw[bK] at hy
  obtain⟨n,en,rfl⟩:=cP.mp hy
  have nh:n∈had:=(z1j.mp (bQ en)).2
  have lk:kvs.length≤60:=by
   have:=congrArg List.length kk
   rw[b9,b9,bO] at this
   omega
  refine⟨_,rfl,x,dx,fs,rfl,sG _ _ h1,lo,_,rfl,x,fp,nm,r,_,had,n,_,_,_,rfl,shOk.same sh sG,nh,rfl,fun v tv=>?_⟩
  obtain⟨a,us,rfl,ea,_,tu⟩:=z0s tv
  refine⟨a,us,z15 rows n,rfl,ea,tu,y1J gn R n,fun q G1 s1' eq=>?_⟩
  refine⟨_,rfl,_,rfl,d,_,rfl,V4.k (k:=Sum.inl n) (s1' _ _ edG) (z0n (by omega)),?_⟩
  have nin:n∉(z0m had).take i:=fun h=>by
   have:=(z2g had)
   rw[<- gZ (i+1) (z0m had),z0x en] at this
   have:=(cX.mp (cX.mp this).1).2.2 n h n (bB.mpr rfl)
   omega
  rw[y1U kk nin]
  have nl:l≠d:=z50 elG edG (by intro z;cases z)
  refine⟨_,_,z2E (sG.trans s1') hd,by rw[z0e nl];exact s1' _ _ elG,z04,?_,fun n' v' hv=>?_,rfl⟩
  ·rw[bG,kk,z0x en,bG]
   rfl
  ·refine Tell.over (s1' _ _ edG) (fun _ z=>by cases z) _ _ ?_
   rcases bS.mp hv with h|h
   ·exact Tell.keep s1' _ _ (tk n' v' h)
   ·rw[bB] at h
    cases h
    exact z0w eq (by rw[b9];have:=y85 R gn n;omega) (z36 _)
 rintro σ H2 ⟨kvs,o2,s2,_,ed2,kk2,tk2,rfl⟩
 rw[b9,bX] at kk2
 have sh2:=shOk.same sh s2
 refine⟨_,rfl,x,fp,nm,r,rows,had,rfl,sh2,gn,R,l60,hh,r0,r10,fun gv H3 s3 tg=>?_⟩
 obtain⟨ag,gz,rfl,eag,_,tgz⟩:=z0s tg
 have lgz:gz.length=(z1d (z0m had)).length:=by
  rw[tgz.length]
  unfold z7r
  rw[b9]
 have s23:=s2.trans s3
 refine⟨ag,rfl,⟨_,SqT.of eag⟩,z7T (K:=K) (a:=ag) (xs:=gz) (fun i σ G=>∃(kvs:List (Key×V)) (o2 o3 o4:Option V),A4 H G/\G ag=some (.tup gz)/\z0c G (z7r (z0m had) rows r) gz/\G d=some (.dK kvs)/\kvs.map (·.1)=(z0m had++(z1d (z0m had)).take i).map Sum.inl/\(∀n v,(Sum.inl n,v)∈kvs->Tell G (optD (z7n (z0m had) rows r n)) v)/\
   σ=[some (.ref x),some (.ref d),o2,o3,o4]) ⟨kvs,_,_,_,s23,eag,tgz,s3 _ _ ed2,by rw[cV,cU];exact kk2,fun n v hv=>?_,rfl⟩ (fun i σ G _ ⟨_,_,_,_,_,e,_⟩=>SqT.of e) ?_ ?_⟩
 ·have hm:n∈z0m had:=by
   have:(Sum.inl n:Key)∈kvs.map (·.1):=cG.mpr ⟨_,hv,rfl⟩
   rw[kk2] at this
   obtain⟨n',h,e⟩:=cG.mp this
   cases e
   exact h
  unfold z7n
  rw[if_pos (.inl hm)]
  exact Tell.keep s3 _ _ (tk2 n v hv)
 ·rintro i y σ G hy ⟨kvs,o2,o3,o4,sG,eaG,tG,edG,kk,tk,rfl⟩
  obtain⟨n,a,b,en,rfl,ha,hb⟩:=z6k tG hy
  have hlk:=bQ en
  have hin:n∉z0m had:=(z25.mp hlk).2.1
  have lk:kvs.length≤120:=by
   have:=congrArg List.length kk
   rw[b9,b9,bN,bO] at this
   omega
  have nin:n∉z0m had++(z1d (z0m had)).take i:=fun h=>by
   rcases bS.mp h with h|h
   ·exact hin h
   ·have:=z33 (z0m had)
    rw[<- gZ (i+1) (z1d (z0m had)),z0x en] at this
    have:=(cX.mp (cX.mp this).1).2.2 n h n (bB.mpr rfl)
    omega
  have nag:ag≠d:=z50 eaG edG (by intro z;cases z)
  refine⟨a,_,rfl,SqT.of ha,rfl,_,_,rfl,_,_,rfl,_,_,rfl,rfl,?_⟩
  have fin:∀v,Tell G (optD (z7n (z0m had) rows r n)) v->∃(w0C:List (Key×V)) (o2 o3 o4:Option V),A4 H (upd G d (.dK (putK kvs (Sum.inl n) v)))/\upd G d (.dK (putK kvs (Sum.inl n) v)) ag=some (.tup gz)/\z0c (upd G d (.dK (putK kvs (Sum.inl n) v))) (z7r (z0m had) rows r) gz/\upd G d (.dK (putK kvs (Sum.inl n) v)) d=some (.dK w0C)/\w0C.map (·.1)=(z0m had++(z1d (z0m had)).take (i+1)).map Sum.inl/\(∀n' v',(Sum.inl n',v')∈w0C->Tell (upd G d (.dK (putK kvs (Sum.inl n) v))) (optD (z7n (z0m had) rows r n')) v')/\
    [some (V.ref x),some (.ref d),some (.int n),some (.int (z0W (z0m had) n r)),some (.ref b)]=[some (V.ref x),some (.ref d),o2,o3,o4]:=fun v tv=>by
   rw[y1U kk nin]
   refine⟨_,_,_,_,z2E sG hd,by rw[z0e nag];exact eaG,z0c.over edG (fun _ z=>by cases z) _ _ tG,z04,?_,fun n' v' hv=>?_,rfl⟩
   ·rw[bG,kk,z0x en,<- gM,bG (l₁:=z0m had++_)]
    rfl
   ·refine Tell.over edG (fun _ z=>by cases z) _ _ ?_
    rcases bS.mp hv with h|h
    ·exact tk n' v' h
    ·rw[bB] at h
     cases h
     exact tv
  refine⟨_,rfl,rfl,_,rfl,?_⟩
  by_cases c:z0W (z0m had) n r=0
  ·rw[decide_eq_true (congrArg V.int c)]
   refine L8 ⟨_,rfl,_,rfl,d,_,rfl,V4.k (k:=Sum.inl n) edG (z0n (by omega)),fin .non ?_⟩
   unfold z7n
   rw[if_neg (fun h=>h.elim hin fun h=>h c)]
   exact z9J
  ·rw[decide_eq_false (fun e=>c (V.int.inj e))]
   refine E7 ⟨_,rfl,_,rfl,_,rfl,d,_,rfl,V4.k (k:=Sum.inl n) edG (z0n (by omega)),fin (.ref b) ?_⟩
   unfold z7n
   rw[if_pos (.inr c)]
   unfold z3h at hb
   rw[if_neg c] at hb
   exact z0w hb (by rw[b9];have:=y85 R gn n;omega) (z36 _)
 rintro σ H4 ⟨kvs,p2,p3,p4,s4,_,_,ed4,kk4,tk4,rfl⟩
 rw[lgz,bX] at kk4
 have hm60:m≤60:=by have:=it.le (k:=60) (by decide) fun x hx=>(h60 x hx).2;omega
 have knd:(z0m had++z1d (z0m had)).Nodup:=gL.mpr ⟨(z2g had).imp fun h=>Int.ne_of_lt h,(z33 _).imp fun h=>Int.ne_of_lt h,fun a ha b hb e=>(z25.mp hb).2.1 (e ▸ ha)⟩
 have kall:∀n∈z0m had++z1d (z0m had),1≤n/\n≤60:=fun n hn=>by
  rcases bS.mp hn with h|h
  ·exact h60 n (z1j.mp h).2
  ·have:=(z25.mp h).1
   omega
 refine⟨_,rfl,d,kvs,z0m had++z1d (z0m had),rfl,ed4,kk4,dU (y1r knd kall) (by decide),fun ls ms hls hp hs=>?_⟩
 have ems:ms=upI 1 m:=by
  rw[y12 knd kall hp hs]
  exact y23 h60 it
 subst ems
 have s5:=z02 hls (.lst ((upI 1 m).map V.int))
 have e5:upd H4 ls (.lst ((upI 1 m).map V.int)) ls=some (.lst ((upI 1 m).map V.int)):=z04
 have ed5:=s5 _ _ ed4
 generalize upd H4 ls (.lst ((upI 1 m).map V.int))=H5 at s5 e5 ed5
 refine⟨ls,rfl,⟨_,SqL.of e5⟩,?_⟩
 refine z38 (xs:=(upI 1 m).map V.int) (fun i ys G=>G=H5/\z0c H5 (((upI 1 m).take i).map fun n=>optD (z7n (z0m had) rows r n)) ys) ⟨rfl,by rw[cV];exact .nil⟩ (fun i ys G hi hp=>?_) (fun i y ys G hy hp=>?_) (fun ys G hp=>?_)
 ·obtain⟨rfl,t⟩:=hp
  refine⟨SqL.of e5,z0n ?_⟩
  rw[t.length,b9,bO,z0T]
  omega
 ·obtain⟨rfl,t⟩:=hp
  rw[bK] at hy
  obtain⟨n,en,rfl⟩:=cP.mp hy
  have hn:n∈z0m had++z1d (z0m had):=by
   have:=bQ en
   rw[<- y23 h60 it] at this
   exact(z1j.mp this).2
  obtain⟨v,ev,mv⟩:=z7D kk4 hn
  refine⟨_,rfl,_,rfl,d,v,rfl,(by rw[<- ev];exact N8.k (k:=Sum.inl n) ed5),rfl,?_⟩
  rw[z0x en,bG]
  exact z0c.snoc t (Tell.keep s5 _ _ (tk4 n v mv))
 ·obtain⟨rfl,t⟩:=hp
  rw[b9,bX] at t
  intro D hD
  refine⟨D,ys,rfl,.inl ⟨SqL.of z04,fun q hq=>k _ _ (s4.trans (s5.trans ((z02 hD _).trans (z02 hq _)))) (z0w z04 ?_ (z0c.keep ((z02 hD _).trans (z02 hq _)) _ _ ?_))⟩⟩
  ·rw[b9,y2S]
   omega
  ·unfold y1Z
   rw[dH]
   exact t
theorem y2I{A1 CUnknownName:Addr}(M:Bl mg)(T:TxShelf K mg A1)(F:Fun K "again_count" "again_count" z4H f fd)(B6:Cal P w K mg base 2 "held_for" z1A (z2I (ShD K A1)))
  (C3:K4 P w K mg base 5 "state_of" z2l (z1V (ShD K A1) CUnknownName)) (A7:C5 P w K mg base 1 A1 "had" z0Z (z2u (ShD K A1)))
  (M6:Cal P w K mg base 4 "course_count" z41 (y50 (ShD K A1))) (F5:Cal P w K mg base 1 "two_to_the" z42 z4A)
  (B0:Cal P w K mg base 4 "dark_numbers_behind" z0S (z61 K)):A8 P w K mg base (CX1 P w) 6 f fd z4J (z1V (ShD K A1) CUnknownName):=by
 have nd:=z6g.nd
 refine F.okX z6g (fun vs H Q E h=>?_) (fun cdv A outer s H vs Q E hr h=>?_)
 ·obtain⟨x,fp,nm,r,iss,had,z,rfl,_⟩:=h
  rfl
 obtain⟨x,fp,nm,r,iss,had,z,rfl,sh,hz,h1000,low,k⟩:=h
 refine⟨_,(z03 (z0f (i:=2) nd rfl (Or.inl rfl) (z1x z1i C3 (rm hr) rfl (z00 (pv 0) (z00 (pv 1) z01)))) (z03 (z0f (i:=3) nd rfl (Or.inl rfl) (z0k M6 (rm hr) rfl (z00 (pv 0) z01))) (z03 (z0G (z08 z23 (pv 2) (z0V rfl M.STALE) (z0i _)) (z05 (z0d (pv 3))) z0g) (z03 (z0f (i:=4) nd rfl (Or.inl rfl) (z0M z1b (z0k B6 (rm hr) rfl (z00 (pv 0) (z00 (pv 1) z01))) z06 (fun _ _=>rfl))) (z03 (z0f (i:=5) nd rfl (Or.inl rfl) (z0k B0 (rm hr) rfl (z00 (z1q A7 (rm hr) (pv 0)) (z00 (z0u (pv 0) rfl) (z00 (pv 4) z01))))) (z03 (z0f (i:=6) nd rfl (Or.inl rfl) (z0t y55 (pv 3) (z0k F5 (rm hr) rfl (z00 (z0b z09 rfl M.len bH (z00 (pv 5) z01)) z01)))) (z05 (z0d (z0t z2Q (pv 3) (pv 6)))))))))),?_⟩
 exact⟨_,rfl,_,rfl,x,fp,nm,r,iss,had,z,rfl,sh,hz,h1000,low,k⟩
theorem z8w{A1 CUnknownName:Addr}(M:Bl mg)(T:TxShelf K mg A1)(F:Fun K "two_courses" "two_courses" z4q f fd)(C3:K4 P w K mg base 5 "state_of" z2l (z1V (ShD K A1) CUnknownName))(O2:Cal P w K mg base 4 "known_sets" z5p (y4t (ShD K A1)))
  (A7:C5 P w K mg base 1 A1 "had" z0Z (z2u (ShD K A1))) (C8:Cal P w K mg base 3 "dark_numbers" z2i (y1O K)):A8 P w K mg base (CX1 P w) 6 f fd z4P (z1V (ShD K A1) CUnknownName):=by
 have nd:=z68.nd
 refine F.okX z68 (fun vs H Q E h=>?_) (fun cdv A outer s H vs Q E hr h=>?_)
 ·obtain⟨x,fp,nm,r,iss,had,z,rfl,_⟩:=h
  rfl
 obtain⟨x,fp,nm,r,iss,had,z,rfl,sh,hz,h1000,low,k⟩:=h
 refine⟨_,(z03 (z0G (z08 z9j (z1x z1i C3 (rm hr) rfl (z00 (pv 0) (z00 (pv 1) z01))) (z0V rfl M.OPEN) (z0i _)) (z05 (z0d z9a)) z0g) (z03 (z0f (i:=2) nd rfl (Or.inl rfl) (z0q z0l rfl M.tuple bI (z00 (z1n ["known"] [] [] rfl (z0z rfl (by decide +kernel) rfl (by decide +kernel) rfl rfl) (z2N (z0k O2 (rm hr) rfl (z00 (pv 0) z01))) (fun _ _ _ _ _=>(z0h (i:=0) (show((["known"]:List PySem.Str)++([]:List PySem.Str)).Nodup from by decide +kernel) rfl (Or.inl rfl))) (z0A (by decide)) z0a (fun _ _ _ _ _=>z1Z) (fun _ _ _ _ _=>(z43 (z7d (z94 (pv 0))) (z0I z01) (pv 0)))) z01))) (z03 (z0f (i:=3) nd rfl (Or.inl rfl) (z0b (y04 rfl) rfl M.max fL (z00 (z0k C8 (rm hr) rfl (z00 (z1q A7 (rm hr) (pv 0)) (z00 (z0u (pv 0) rfl) z01))) z01))) (z03 (z0f (i:=4) nd rfl (Or.inl rfl) (z0t y4R (z0t y4R (z2p y3U (pv 2) z3e (z3c (z0t z2Q (pv 3) z06))) (z0I (z00 (z0I (z00 (pv 1) z01)) z01))) (z2p y3U (pv 2) (z3c (pv 3)) z3e))) (z05 (z0d (z0I (z00 (pv 2) (z00 (pv 4) z01))))))))),?_⟩
 exact⟨_,rfl,_,rfl,x,fp,nm,r,iss,had,z,rfl,sh,hz,h1000,low,k⟩
theorem y1l{A1 CUnknownName T0:Addr}{items:Array Value}(M:Bl mg)(T:TxShelf K mg A1)(F:FunD K "send_for" "send_for" z8a f fd T0 items)(B6:Cal P w K mg base 2 "held_for" z1A (z2I (ShD K A1)))
  (C3:K4 P w K mg base 5 "state_of" z2l (z1V (ShD K A1) CUnknownName)) (A7:C5 P w K mg base 1 A1 "had" z0Z (z2u (ShD K A1)))
  (K1:Cal P w K mg base 5 "fewest_numbers" z3b (y2b K)):A8 P w K mg base (CX1 P w) 6 f fd z5W (z1V (ShD K A1) CUnknownName):=by
 have nd:=z8U.nd
 refine FunD.okX F z8U (fun vs H Q E h=>?_) (fun cdv A outer s H vs Q E hr h=>?_)
 ·obtain⟨x,fp,nm,r,iss,had,z,rfl,_⟩:=h
  rfl
 obtain⟨x,fp,nm,r,iss,had,z,rfl,sh,hz,h1000,low,k⟩:=h
 refine⟨_,(z03 (z0f (i:=2) nd rfl (Or.inl rfl) (z43 (z7d (z94 (pv 1))) (z0u (pv 0) rfl) (z0I (z00 (pv 1) z01)))) (z03 (y5K (i:=3) ["one"] ["shelf"] [0] rfl nd rfl (Or.inl rfl) (z0z rfl (by decide +kernel) rfl (by decide +kernel) rfl rfl) (z2N (pv 2)) (fun _ _ _ _ _=>(z0h (i:=0) (show((["one"]:List PySem.Str)++(["shelf"]:List PySem.Str)).Nodup from by decide +kernel) rfl (Or.inl rfl))) (z0A (by decide)) z0a (fun _ _ _ _ _=>(z2A (z08 z23 (z1x z4K C3 (rm hr) rfl (z00 (pv 1) (z00 (pv 0) z01))) (z0V rfl M.OPEN) (z0i _)))) (fun _ _ _ _ _=>(z0M (r:=R6 K) z1b (z0k B6 (rm hr) rfl (z00 (pv 1) (z00 (pv 0) z01))) z06 (fun _ _=>rfl)))) (z03 (z0G (z08 z23 (z0b z09 rfl M.len bH (z00 (pv 3) z01)) z06 (z0i _)) (z05 (z0d (z0I (z00 (z0I z01) (z00 (z0I z01) z01))))) z0g) (z05 (z0d (z0k K1 (rm hr) rfl (z00 (z1q A7 (rm hr) (pv 0)) (z00 (z0u (pv 0) rfl) (z00 (z0b (z7U rfl) rfl M.min fM (z00 (pv 3) z01)) z01))))))))),?_⟩
 refine⟨_,rfl,_,rfl,E7 ⟨_,rfl,(by show 1≤sizeLine;decide),fun ta hta=>?_⟩⟩
 have s1:=z02 hta (.tup [V.str z])
 have e1:upd H ta (.tup [V.str z]) ta=some (.tup [V.str z]):=z04
 have sh1:=shOk.same sh s1
 generalize upd H ta (.tup [V.str z])=H1 at s1 e1 sh1 ⊢
 refine⟨_,rfl,ta,rfl,⟨_,SqT.of e1⟩,?_⟩
 refine z2r (xs:=[V.str z]) (fun i ys H'=>i=0/\ys=[]/\H'=H1) ⟨rfl,rfl,rfl⟩ (fun i ys H' hi hp=>?_) (fun i y ys H' hy hp=>?_) (fun ys H' hp=>?_)
 ·obtain⟨rfl,rfl,rfl⟩:=hp
  exact⟨SqT.of e1,by show 0<sizeLine;decide⟩
 ·obtain⟨rfl,rfl,rfl⟩:=hp
  cases hy
  exact⟨_,rfl,_,rfl,x,fp,nm,r,iss,had,z,rfl,sh1,hz,h1000,low,fun H' s'=>k H' (s1.trans s')⟩
 ·exact absurd hp.1 (by simp)
noncomputable def y3Q(Bk:BkP)(CN CR:Addr):Sp:=fun vs H _ E=>∃(x:Addr) (fp:List Addr) (nm:List Str) (r k:Int) (rows:List Row) (log:List Deed) (rd:Int) (z:Str) (C:Addr),vs=[.ref x,.int rd,.str z]/\Bk H x fp nm r k rows log/\
 (((rd<1\/k<rd)/\C=CR)\/(1≤rd/\rd≤k/\z∉nm/\z.length≤1000/\Low z/\C=CN))/\∀H',A4 H H'->E (.ref C) none H'
theorem y1v{A2 A0 A1 CUnknownName CUnknownReader CNoSuchDeed:Addr}(M:Bl mg)(F:Fun K "history" "history" z9l f fd)(E8:Cal P w K mg base 6 "state_and_held" z1u (z5x (ShD K A1)))(E9:K4 P w K mg base 6 "state_and_held" z1u (z1V (ShD K A1) CUnknownName))
  (K3:K2 P w K mg base 7 A2 "shelf" z2d (I0 (z3I (BkD K A2 A0) (ShD K A1)) (z6B (BkD K A2 A0) CNoSuchDeed CUnknownReader))) (P2:C5 P w K mg base 7 A2 "deeds" z5i (y0d (BkD K A2 A0))):A8 P w K mg base (CX1 P w) 8 f fd z9v (y3Q (BkD K A2 A0) CUnknownName CUnknownReader):=by
 have nd:=y0f.nd
 refine F.okX y0f (fun vs H Q E h=>?_) (fun cdv A outer s H vs Q E hr h=>?_)
 ·obtain⟨x,fp,nm,r,k,rows,log,rd,z,C,rfl,_⟩:=h
  rfl
 obtain⟨x,fp,nm,r,k,rows,log,rd,z,C,rfl,bk,why,q⟩:=h
 refine⟨_,(z03 (z0f (i:=3) nd rfl (Or.inl rfl) (z1w (z00 (z0t (z5P (K:=K) rfl) (z0I (z00 z06 z01)) (z1x z1i E9 (rm hr) rfl (z00 (z3g z1i K3 (rm hr) (pv 0) (z00 (pv 1) (z00 z06 z01))) (z00 (pv 2) z01)))) z01))) (z03 (z87 (z8v rfl M.range (z00 z06 (z00 (z0t z1G (z1q P2 (rm hr) (pv 0)) z06) z01))) (z0h (i:=4) nd rfl (Or.inl rfl)) (z03 (z0f (i:=5) nd rfl (Or.inl rfl) (z1x z7v E9 (rm hr) rfl (z00 (z3g z7v K3 (rm hr) (pv 0) (z00 (pv 1) (z00 (pv 4) z01))) (z00 (pv 2) z01)))) (z05 (z0G (z08 (y7T hr.T7) (pv 5) (z2p y49 (z0M z0N (pv 3) (y3n y0Q z06) (fun _ _=>rfl)) (z3c z06) z3e) (z0i _)) (z05 (z0y (z2Z bV bT bZ z0K (pv 3) (z00 (z0t (z5P (K:=K) rfl) (z0I (z00 (pv 4) z01)) (pv 5)) z01)))) z0g)))) (z05 (z0d (z0q z0l rfl M.tuple bI (z00 (pv 3) z01)))))),?_⟩
 refine⟨(by show 1≤sizeLine;decide),fun t0 ht0=>?_⟩
 have s0:=z02 ht0 (.tup [V.int 0])
 generalize upd H t0 (.tup [V.int 0])=H0 at s0 ⊢
 have bk0:=bkOk.same bk s0
 obtain⟨dx,g,zz,ww⟩:=bkOk.ins bk0
 rcases why with ⟨hr,rfl⟩|⟨r1,r2,hz,h1000,low,rfl⟩
 ·exact⟨_,rfl,x,dx,g,rfl,zz,ww _ (by simp),_,rfl,.inr ⟨x,fp,nm,r,k,rows,log,rd,.int 0,_,rfl,bk0,.inr ⟨.inr ⟨0,rfl,by decide,by omega⟩,hr,rfl⟩,q _ s0⟩⟩
 ·exact⟨_,rfl,x,dx,g,rfl,zz,ww _ (by simp),_,rfl,.inl ⟨x,fp,nm,r,k,rows,log,rd,some 0,rfl,bk0,r1,r2,(fun d h=>by cases h;exact cR _),fun x1 f1 H1 fn1 s1 sh1=>⟨_,rfl,x1,f1,nm,r,_,_,z,rfl,sh1,hz,h1000,low,fun H' s'=>q H' (s0.trans (s1.trans s'))⟩⟩⟩
noncomputable def refD(z:Str):DV:=.tup [.str "refused",.str z]
noncomputable def y1G(Sh:ShP)(Bk:BkP):Sp:=fun vs H Q _=>∃(wh:Int) (xs xb:Addr) (fs:List Addr) (ns:List Str) (rs:Int) (iss:Int->DV) (had:List Int) (fp:List Addr) (nm:List Str) (r k:Int) (rows:List Row) (log:List Deed) (rd:Int) (z:Str) (i:Nat),
 vs=[.int wh,.ref xs,.ref xb,.int rd,.str z]/\Sh H xs fs ns rs iss had/\Bk H xb fp nm r k rows log/\z.length≤1000/\Low z/\((0≤wh/\wh≤5/\z∉ns/\i=0)\/(wh=6/\1≤rd/\rd≤k/\z∉nm/\i=0)\/(wh=6/\(rd<1\/k<rd)/\i=1))/\
 ∀(u:V) (H':Hp),A4 H H'->Tell H' (refD (["UnknownName","UnknownReader"].getD i "")) u->Q u H'
theorem y2v{A0 A2 A1 CBadNames CBadReach CBadReaders COfficeFull CUnknownName CNameTwice CBadValue CNotWritten CUnknownReader CBookFull CNoSuchDeed CTooManyCourses CBackError:Addr}(M:Bl mg)(F:Fun K "_law_asked" "_law_asked" z5r f fd)
  (Q9:Err K mg "BackError" CBackError) (S1:Err K mg "BadNames" CBadNames) (U5:Err K mg "BadReach" CBadReach) (O7:Err K mg "BadReaders" CBadReaders) (J4:Err K mg "OfficeFull" COfficeFull) (F0:Err K mg "UnknownName" CUnknownName) (L6:Err K mg "NameTwice" CNameTwice) (N1:Err K mg "BadValue" CBadValue) (F7:Err K mg "NotWritten" CNotWritten) (E3:Err K mg "UnknownReader" CUnknownReader) (N2:Err K mg "BookFull" CBookFull) (D9:Err K mg "NoSuchDeed" CNoSuchDeed) (K0:Err K mg "TooManyCourses" CTooManyCourses)
  (ers:V5 K CBackError [CBadNames,CBadReach,CBadReaders,COfficeFull,CUnknownName,CNameTwice,CBadValue,CNotWritten,CUnknownReader,CBookFull,CNoSuchDeed,CTooManyCourses])
  (J3:K4 P w K mg base 7 "held_for" z1A (z1V (ShD K A1) CUnknownName)) (F6:K4 P w K mg base 7 "set_again" z35 (z1V (ShD K A1) CUnknownName)) (C3:K4 P w K mg base 7 "state_of" z2l (z1V (ShD K A1) CUnknownName))
  (M7:K4 P w K mg base 7 "again_count" z4J (z1V (ShD K A1) CUnknownName)) (M3:K4 P w K mg base 7 "two_courses" z4P (z1V (ShD K A1) CUnknownName)) (Q1:K4 P w K mg base 7 "send_for" z5W (z1V (ShD K A1) CUnknownName))
  (S3:K4 P w K mg base 9 "history" z9v (y3Q (BkD K A2 A0) CUnknownName CUnknownReader)):A8 P w K mg base CX0 10 f fd z5G (y1G (ShD K A1) (BkD K A2 A0)):=by
 have nd:=z7o.nd
 refine F.ok z7o (fun vs H Q E h=>?_) (fun cdv A outer s H vs Q E hr h=>?_)
 ·obtain⟨wh,xs,xb,fs,ns,rs,iss,had,fp,nm,r,k,rows,log,rd,z,i,rfl,_⟩:=h
  rfl
 obtain⟨wh,xs,xb,fs,ns,rs,iss,had,fp,nm,r,k,rows,log,rd,z,i,rfl,sh,bk,h1000,low,why,q⟩:=h
 refine⟨_,(z03 (z0f (i:=5) nd rfl (Or.inl rfl) (z1w (z00 z5D (z00 z5D z01)))) (z03 (z0f (i:=6) nd rfl (Or.inl rfl) z5D) (y4W (y8k (i:=7) Q9 rfl nd rfl rfl rfl rfl (fun _ _=>(z03 (z0G (z08 z23 (pv 0) z06 (z0i _)) (z05 (z0d (z1x z4K J3 (rm hr) rfl (z00 (pv 1) (z00 (pv 4) z01))))) z0g) (z03 (z0G (z08 z23 (pv 0) z06 (z0i _)) (z05 (z0d (z1x z4K F6 (rm hr) rfl (z00 (pv 1) (z00 (pv 4) z01))))) z0g) (z03 (z0G (z08 z23 (pv 0) z06 (z0i _)) (z05 (z0d (z1x z4K C3 (rm hr) rfl (z00 (pv 1) (z00 (pv 4) z01))))) z0g) (z03 (z0G (z08 z23 (pv 0) z06 (z0i _)) (z05 (z0d (z1x z4K M7 (rm hr) rfl (z00 (pv 1) (z00 (pv 4) z01))))) z0g) (z03 (z0G (z08 z23 (pv 0) z06 (z0i _)) (z05 (z0d (z1x z4K M3 (rm hr) rfl (z00 (pv 1) (z00 (pv 4) z01))))) z0g) (z03 (z0G (z08 z23 (pv 0) z06 (z0i _)) (z05 (z0d (z1x z4K Q1 (rm hr) rfl (z00 (pv 1) (z00 (pv 4) z01))))) z0g) (z05 (z0d (z1x z4K S3 (rm hr) rfl (z00 (pv 2) (z00 (pv 3) (z00 (pv 4) z01))))))))))))) (fun _ _=>(z03 (z0f (i:=6) nd rfl (Or.inl rfl) (y0p (z0b (y4I (K:=K) rfl) rfl M.isinstance cA (z00 (pv 7) (z00 (z3V (v:=.ty "ValueError") rfl M.ValueError y6N rfl) z01))) (y3w (y0l (z0b (z3W (K:=K) rfl) rfl M.isinstance cA (z00 (pv 7) (z00 (z7L rfl D9.mgC) z01))))))) (z03 (z0f (i:=5) nd rfl (Or.inl rfl) (z1w (z00 (z0b (z3W (K:=K) rfl) rfl M.isinstance cA (z00 (pv 7) (z00 (z7L rfl F0.mgC) z01))) (z00 (z0b (z3W (K:=K) rfl) rfl M.isinstance cA (z00 (pv 7) (z00 (z7L rfl E3.mgC) z01))) z01)))) (z03 (z0f (i:=6) nd rfl (Or.inl rfl) (y0p (pv 6) (y0p (y0l (z0b (z3W (K:=K) rfl) rfl M.isinstance cA (z00 (pv 7) (z00 (z7L rfl S1.mgC) z01)))) (y3w (y0l (z0b (z3W (K:=K) rfl) rfl M.isinstance cA (z00 (pv 7) (z00 (z7L rfl K0.mgC) z01)))))))) (z05 (z0f (i:=6) nd rfl (Or.inl rfl) (y0p (pv 6) (y0p (y0l (z0b (z3W (K:=K) rfl) rfl M.isinstance cA (z00 (pv 7) (z00 (z7L rfl F7.mgC) z01)))) (y3w (y0l (z0b (z3W (K:=K) rfl) rfl M.isinstance cA (z00 (pv 7) (z00 (z7L rfl O7.mgC) z01)))))))))))))) (z03 (z0G (PW.pt (z3Q (z8j (z77 (pv 6))) (z2q (z08 z23 (z0M z0N (pv 5) z06 (fun _ _=>rfl)) (z0M z0N (pv 5) z06 (fun _ _=>rfl)) (z0i _))))) (z05 (z0d z9a)) z0g) (z05 (z0d (z0I (z00 z16 (z00 (z0M z0N (z1w (z00 z16 (z00 z16 z01))) (z2Z bV PySem.F.slot_list_index PySem.F.type_list_index y4y (pv 5) (z00 z5D z01)) (fun _ _=>rfl)) z01))))))))),?_⟩
 have i2:i<2:=by rcases why with ⟨_,_,_,rfl⟩|⟨_,_,_,_,rfl⟩|⟨_,_,rfl⟩<;>decide
 refine⟨(by show 2≤sizeLine;decide),fun lf hlf=>?_⟩
 have s0:=z02 hlf (.lst [V.bl false,V.bl false])
 have sh0:=shOk.same sh s0
 have bk0:=bkOk.same bk s0
 generalize upd H lf (.lst [V.bl false,V.bl false])=H0 at s0 sh0 bk0 ⊢
 refine⟨fun σ G=>∃(la:Addr),A4 H G/\G la=some (.lst [V.bl (i == 0),V.bl (i == 1)])/\σ=[some (.int wh),some (.ref xs),some (.ref xb),some (.int rd),some (.str z),some (.ref la),some (.bl true),none],?_,?_⟩
 rotate_left
 ·rintro σ G ⟨la,g,ea,rfl⟩
  have hi:i=0\/i=1:=by omega
  rcases hi with rfl|rfl
  ·refine⟨_,rfl,_,rfl,E7 ?_⟩
   refine⟨_,rfl,la,_,_,_,rfl,rfl,SqL.of ea,rfl,_,rfl,la,_,_,_,rfl,rfl,SqL.of ea,rfl,rfl,_,rfl,E7 ?_⟩
   refine⟨(by show 2≤sizeLine;decide),fun l1 hl1=>?_⟩
   have s3:=z02 hl1 (.lst [V.str "UnknownName",V.str "UnknownReader"])
   refine⟨_,rfl,.inl ⟨rfl,_,SqL.of (s3 _ _ ea)⟩,la,_,_,0,rfl,rfl,SqL.of (s3 _ _ ea),rfl,rfl,(by decide),rfl,(by decide),l1,_,_,_,rfl,rfl,SqL.of z04,rfl,(by show 2≤sizeLine;decide),fun t ht=>q _ _ (g.trans (s3.trans (z02 ht _))) (z0w z04 (by show 2≤1000000;decide) (.cons (z14 _) (.cons (z14 _) .nil)))⟩
  ·refine⟨_,rfl,_,rfl,E7 ?_⟩
   refine⟨_,rfl,la,_,_,_,rfl,rfl,SqL.of ea,rfl,_,rfl,la,_,_,_,rfl,rfl,SqL.of ea,rfl,rfl,_,rfl,E7 ?_⟩
   refine⟨(by show 2≤sizeLine;decide),fun l1 hl1=>?_⟩
   have s3:=z02 hl1 (.lst [V.str "UnknownName",V.str "UnknownReader"])
   refine⟨_,rfl,.inl ⟨rfl,_,SqL.of (s3 _ _ ea)⟩,la,_,_,1,rfl,rfl,SqL.of (s3 _ _ ea),rfl,rfl,(by decide),rfl,(by decide),l1,_,_,_,rfl,rfl,SqL.of z04,rfl,(by show 2≤sizeLine;decide),fun t ht=>q _ _ (g.trans (s3.trans (z02 ht _))) (z0w z04 (by show 2≤1000000;decide) (.cons (z14 _) (.cons (z14 _) .nil)))⟩
 refine⟨fun σ' C H'=>∃(C0:Addr),C0=[CUnknownName,CUnknownReader].getD i 0/\C=.ref C0/\A4 H H'/\σ'=[some (.int wh),some (.ref xs),some (.ref xb),some (.int rd),some (.str z),some (.ref lf),some (.bl true),none],?_,?_⟩
 rotate_left
 ·rintro σ' C H' ⟨C0,hc,rfl,g,rfl⟩
  have mem:C0∈[CBadNames,CBadReach,CBadReaders,COfficeFull,CUnknownName,CNameTwice,CBadValue,CNotWritten,CUnknownReader,CBookFull,CNoSuchDeed,CTooManyCourses]:=by
   have hi:i=0\/i=1:=by omega
   rcases hi with rfl|rfl<;>(subst hc;simp)
  obtain⟨un,xc⟩:=ers.one mem
  refine⟨⟨C0,rfl,un⟩,fun a ha=>?_⟩
  have s1:=g.trans (z02 ha (R7 a (.ref C0)))
  have ea:upd H' a (R7 a (.ref C0)) a=some (R7 a (.ref C0)):=z04
  generalize upd H' a (R7 a (.ref C0))=G0 at s1 ea
  have ne:∀(i j:Nat) (hi:i<12) (hj:j<12),i≠j->(([CBadNames,CBadReach,CBadReaders,COfficeFull,CUnknownName,CNameTwice,CBadValue,CNotWritten,CUnknownReader,CBookFull,CNoSuchDeed,CTooManyCourses]:List Addr)[i]'hi == ([CBadNames,CBadReach,CBadReaders,COfficeFull,CUnknownName,CNameTwice,CBadValue,CNotWritten,CUnknownReader,CBookFull,CNoSuchDeed,CTooManyCourses]:List Addr)[j]'hj)=false:=fun i j hi hj h=>beq_false_of_ne ((Nat.lt_or_gt_of_ne h).elim (fun l=>List.pairwise_iff_getElem.mp ers.nd i j hi hj l) fun l=>(List.pairwise_iff_getElem.mp ers.nd j i hj hi l).symm)
  have hi:i=0\/i=1:=by omega
  have no:∀(j:Nat) (hj:j<12),j≠4->j≠8->(C0 == ([CBadNames,CBadReach,CBadReaders,COfficeFull,CUnknownName,CNameTwice,CBadValue,CNotWritten,CUnknownReader,CBookFull,CNoSuchDeed,CTooManyCourses]:List Addr)[j]'hj)=false:=fun j hj h4 h8=>by
   rcases hi with rfl|rfl
   ·rw[show C0=CUnknownName from hc];exact ne 4 j (by decide) hj (cS h4)
   ·rw[show C0=CUnknownReader from hc];exact ne 8 j (by decide) hj (cS h8)
  have n10:(C0 == CNoSuchDeed)=false:=no 10 (by decide) (by decide) (by decide)
  have n0:(C0 == CBadNames)=false:=no 0 (by decide) (by decide) (by decide)
  have n11:(C0 == CTooManyCourses)=false:=no 11 (by decide) (by decide) (by decide)
  have n7:(C0 == CNotWritten)=false:=no 7 (by decide) (by decide) (by decide)
  have n2:(C0 == CBadReaders)=false:=no 2 (by decide) (by decide) (by decide)
  have u1:(C0 == CUnknownName)=(i == 0):=by
   rcases hi with rfl|rfl
   ·rw[show C0=CUnknownName from hc];exact beq_self_eq_true _
   ·rw[show C0=CUnknownReader from hc];exact ne 8 4 (by decide) (by decide) (by decide)
  have u2:(C0 == CUnknownReader)=(i == 1):=by
   rcases hi with rfl|rfl
   ·rw[show C0=CUnknownName from hc];exact ne 4 8 (by decide) (by decide) (by decide)
   ·rw[show C0=CUnknownReader from hc];exact beq_self_eq_true _
  have two:∀{d:Addr},d∈([CBadNames,CBadReach,CBadReaders,COfficeFull,CUnknownName,CNameTwice,CBadValue,CNotWritten,CUnknownReader,CBookFull,CNoSuchDeed,CTooManyCourses]:List Addr)->(C0 == d)=false->PySem.W.kitOne K (.ref C0) (.ref d)=some false:=fun h e=>by rw[<- e];exact ers.two mem h
  refine⟨_,rfl,a,C0,"ValueError",true,rfl,ea,xc,xc.hv,?_⟩
  refine⟨true,rfl,L8 ⟨_,rfl,a,C0,CNoSuchDeed,false,rfl,ea,xc,two (by simp) n10,_,rfl,?_⟩⟩
  refine⟨_,rfl,a,C0,CUnknownName,_,rfl,ea,xc,ers.two mem (by simp),_,rfl,a,C0,CUnknownReader,_,rfl,ea,xc,ers.two mem (by simp),(by show 2≤sizeLine;decide),fun l0 hl0=>?_⟩
  rw[u1,u2]
  have t1:=z02 hl0 (.lst [V.bl (i == 0),V.bl (i == 1)])
  have e1:upd G0 l0 (.lst [V.bl (i == 0),V.bl (i == 1)]) l0=some (.lst [V.bl (i == 0),V.bl (i == 1)]):=z04
  replace ea:=t1 _ _ ea
  replace s1:=s1.trans t1
  generalize upd G0 l0 (.lst [V.bl (i == 0),V.bl (i == 1)])=G1 at s1 e1 ea ⊢
  refine⟨_,rfl,true,rfl,L8 ⟨_,rfl,a,C0,CBadNames,false,rfl,ea,xc,two (by simp) n0,_,rfl,?_⟩⟩
  refine⟨true,rfl,L8 ⟨_,rfl,a,C0,CTooManyCourses,false,rfl,ea,xc,two (by simp) n11,_,rfl,?_⟩⟩
  refine⟨_,rfl,true,rfl,L8 ⟨_,rfl,a,C0,CNotWritten,false,rfl,ea,xc,two (by simp) n7,_,rfl,?_⟩⟩
  refine⟨true,rfl,L8 ⟨_,rfl,a,C0,CBadReaders,false,rfl,ea,xc,two (by simp) n2,_,rfl,?_⟩⟩
  exact⟨l0,s1,e1,rfl⟩
 have thr:z∉ns->i=0->z1V (ShD K A1) CUnknownName [.ref xs,.str z] H0 Q fun C _ H'=>∃(C0:Addr),C0=[CUnknownName,CUnknownReader].getD i 0/\C=.ref C0/\A4 H H'/\([some (.int wh),some (.ref xs),some (.ref xb),some (.int rd),some (.str z),some (.ref lf),some (.bl true),none]:St)=[some (.int wh),some (.ref xs),some (.ref xb),some (.int rd),some (.str z),some (.ref lf),some (.bl true),none]:=fun hz hi=>⟨xs,fs,ns,rs,iss,had,z,rfl,sh0,hz,h1000,low,fun H' s'=>⟨_,by rw[hi];rfl,rfl,s0.trans s',rfl⟩⟩
 have S9:∀j:Int,wh=j->j≤5->z∉ns/\i=0:=fun j h1 h2=>by
  rcases why with ⟨_,_,h,h'⟩|⟨h,_⟩|⟨h,_⟩
  ·exact⟨h,h'⟩
  ·omega
  ·omega
 refine⟨_,rfl,rfl,_,rfl,B4 (fun c=>⟨_,rfl,_,rfl,thr (S9 0 (V.int.inj (z0C c)) (by decide)).1 (S9 0 (V.int.inj (z0C c)) (by decide)).2⟩) (fun c0=>?_)⟩
 refine⟨_,rfl,rfl,_,rfl,B4 (fun c=>⟨_,rfl,_,rfl,thr (S9 1 (V.int.inj (z0C c)) (by decide)).1 (S9 1 (V.int.inj (z0C c)) (by decide)).2⟩) (fun c1=>?_)⟩
 refine⟨_,rfl,rfl,_,rfl,B4 (fun c=>⟨_,rfl,_,rfl,thr (S9 2 (V.int.inj (z0C c)) (by decide)).1 (S9 2 (V.int.inj (z0C c)) (by decide)).2⟩) (fun c2=>?_)⟩
 refine⟨_,rfl,rfl,_,rfl,B4 (fun c=>⟨_,rfl,_,rfl,thr (S9 3 (V.int.inj (z0C c)) (by decide)).1 (S9 3 (V.int.inj (z0C c)) (by decide)).2⟩) (fun c3=>?_)⟩
 refine⟨_,rfl,rfl,_,rfl,B4 (fun c=>⟨_,rfl,_,rfl,thr (S9 4 (V.int.inj (z0C c)) (by decide)).1 (S9 4 (V.int.inj (z0C c)) (by decide)).2⟩) (fun c4=>?_)⟩
 refine⟨_,rfl,rfl,_,rfl,B4 (fun c=>⟨_,rfl,_,rfl,thr (S9 5 (V.int.inj (z0C c)) (by decide)).1 (S9 5 (V.int.inj (z0C c)) (by decide)).2⟩) (fun c5=>?_)⟩
 refine⟨_,rfl,_,rfl,_,rfl,xb,fp,nm,r,k,rows,log,rd,z,[CUnknownName,CUnknownReader].getD i 0,rfl,bk0,?_,fun H' s'=>⟨_,rfl,rfl,s0.trans s',rfl⟩⟩
 rcases why with ⟨h1,h2,_,_⟩|⟨_,r1,r2,hz,rfl⟩|⟨_,hr,rfl⟩
 ·exfalso
  have n0:wh≠0:=fun e=>c0 (decide_eq_true (congrArg V.int e))
  have n1:wh≠1:=fun e=>c1 (decide_eq_true (congrArg V.int e))
  have n2:wh≠2:=fun e=>c2 (decide_eq_true (congrArg V.int e))
  have n3:wh≠3:=fun e=>c3 (decide_eq_true (congrArg V.int e))
  have n4:wh≠4:=fun e=>c4 (decide_eq_true (congrArg V.int e))
  have n5:wh≠5:=fun e=>c5 (decide_eq_true (congrArg V.int e))
  omega
 ·exact .inr ⟨r1,r2,hz,h1000,low,rfl⟩
 ·exact .inl ⟨hr,rfl⟩
theorem y8a:∀p∈UnicodeData.severalUpper,∀d∈p.2,d<16^8:=by decide +kernel
theorem y7V:∀p∈UnicodeData.severalLower,∀d∈p.2,d<16^8:=by decide +kernel
theorem y7N:∀p∈UnicodeData.oneUpper,p.2.2+(p.2.1-p.1)<16^8:=by decide +kernel
theorem y7C:∀p∈UnicodeData.oneLower,p.2.2+(p.2.1-p.1)<16^8:=by decide +kernel
theorem y5a{l:List (Nat×List Nat)}(h:∀p∈l,∀d∈p.2,d<16^8){c:Nat}{cs:List Nat}(e:l.lookup c=some cs):∀d∈cs,d<16^8:=by
 induction l with
 | nil=>cases e
 | cons p l ih=>
  obtain⟨a,b⟩:=p
  rw[eF] at e
  split at e
  ·cases e
   exact h (a,cs) cB
  ·exact ih (fun q hq=>h q (bP _ hq)) e
theorem y36{l:List (Nat×Nat×Nat)}(h:∀p∈l,p.2.2+(p.2.1-p.1)<16^8){c d:Nat}(e:Unicode.shifted l c=some d):d<16^8:=by
 induction l with
 | nil=>cases e
 | cons p l ih=>
  obtain⟨a,b,t⟩:=p
  unfold Unicode.shifted at e
  split at e
  ·cases e
  ·split at e
   ·cases e
    have:=h (a,b,t) cB
    dsimp only at this
    omega
   ·exact ih (fun q hq=>h q (bP _ hq)) e
theorem y0q{o:List (Nat×Nat×Nat)}{l:List (Nat×List Nat)}(h1:∀p∈o,p.2.2+(p.2.1-p.1)<16^8)(h2:∀p∈l,∀d∈p.2,d<16^8){c:Nat}(hc:c<16^8):∀d∈Unicode.image o l c,d<16^8:=by
 unfold Unicode.image
 split
 ·rename_i cs e
  exact y5a h2 e
 ·intro d hd
  rw[bB.mp hd]
  cases e:Unicode.shifted o c with
  | none=>exact hc
  | some x=>exact y36 h1 e
theorem z8Y{x:Str}{f:Nat->Nat->List Nat}(h:∀i c,x.cps[i]? = some c->∀d∈f i c,d<16^8):∀d∈(PySem.placed x f).toList,d<16^8:=fun d hd=>by
 unfold PySem.placed at hd
 have hd':=j9.mpr hd
 obtain⟨a,ha,hm⟩:=Array.mem_flatten.mp hd'
 obtain⟨i,hi,rfl⟩:=Array.mem_mapIdx.mp ha
 exact h i _ (Array.getElem?_eq_getElem hi) d (by simpa using hm)
theorem y52{x:Str}(h:Low x):Low (Txt.upper x):=z8Y fun i c e d hd=>y0q y7N y8a (h c (j9.mp (Array.mem_of_getElem? e))) d hd
theorem y3g{x:Str}(h:Low x):Low (Txt.lower x):=z8Y fun i c e d hd=>by
 unfold Unicode.lowerAt at hd
 rw[e] at hd
 dsimp only at hd
 split at hd
 ·rw[bB.mp hd]
  decide
 ·exact y0q y7C y7V (h c (j9.mp (Array.mem_of_getElem? e))) d hd
theorem y4S{a b:Str}(ha:Low a)(hb:Low b):Low (a++b):=fun c hc=>by
 rw[z6J] at hc
 exact(bS.mp hc).elim (ha c) (hb c)
theorem y71{z:Str}(h:Low z)(lo hi:Option Int):Low (N7 z lo hi):=fun c hc=>by
 have hc':c∈(z.cps.toList.drop _).take _:=hc
 exact h c (hV (fR hc'))
noncomputable def y00(K:PySem.W.Frag):Sp:=fun vs H Q _=>∃(ln:Addr) (nm:List Str) (c:Int),vs=[.ref ln,.int c]/\SqL K H ln (nm.map V.str)/\1≤nm.length/\nm.length≤12/\Nms nm/\∀(z:Str) (H':Hp),A4 H H'->z.length≤100->Low z->z∉nm->Q (.str z) H'
theorem y4x(a b:Str):(a++b).length=a.length+b.length:=by
 rw[<- z10,z6J,bN,z10,z10]
theorem y61(z:Str)(lo hi:Option Int):(N7 z lo hi).length≤z.length:=by
 rw[<- z10,<- z10]
 show((z.cps.toList.drop _).take _).length≤_
 rw[bO,dF]
 omega
theorem z6o{n:Nat}(h:n≤1000):n≤sizeLine:=fK (z0n h)
theorem y6l{n:Nat}(h:n≤1000):Builtin.Str.tooLong n=false:=by
 have:=z6o h
 unfold Builtin.Str.tooLong
 exact decide_eq_false (by omega)
theorem y2R(M:Bl mg)(F:Fun K "_law_strange" "_law_strange" z4b f fd):A8 P w K mg base CX0 1 f fd z3X (y00 K):=by
 have nd:=z5c.nd
 refine F.ok z5c (fun vs H Q E h=>?_) (fun cdv A outer s H vs Q E hr h=>?_)
 ·obtain⟨ln,nm,c,rfl,_⟩:=h
  rfl
 obtain⟨ln,nm,c,rfl,hN,n1,n12,Nn,q⟩:=h
 have n20:=Nn.hi
 refine⟨_,(z03 (z0f (i:=2) nd rfl (Or.inl rfl) (z0M z0N (pv 0) (z0t z17 (z0t z1y (pv 1) z06) (z0b z09 rfl M.len bH (z00 (pv 0) z01))) (fun _ _=>rfl))) (z03 (z0f (i:=3) nd rfl (Or.inl rfl) z16) (z03 (z0f (i:=4) nd rfl (Or.inl rfl) (z0M z0N (z1w (z00 (pv 3) (z00 (z0t z4Y (pv 2) z16) (z00 (y6h PySem.F.plainAttrs_str PySem.F.slot_str_upper PySem.F.type_str_upper y64 (pv 2)) (z00 (y6h PySem.F.plainAttrs_str PySem.F.slot_str_lower PySem.F.type_str_lower y62 (pv 2)) (z00 (z0t z4Y (pv 2) z16) (z00 (z2p y3C (pv 2) (z3c z06) z3e) z01))))))) (z0t z17 (pv 1) z06) (fun _ _=>rfl))) (z03 (z0G (PW.pt (z3Q (z08 z66 (pv 4) (pv 0) (by with_unfolding_all rfl)) (z3Q (z08 z23 (pv 4) z16 (z0i _)) (z2q (z08 z2c (z0b z6X rfl M.len bH (z00 (pv 4) z01)) z06 (z0i _)))))) (z05 (z0d (pv 3))) z0g) (z05 (z0d (pv 4))))))),?_⟩
 have i0:0≤c / 6%(nm.length:Int):=cT _ (by omega)
 have i1:c / 6%(nm.length:Int)<(nm.length:Int):=cM _ (by omega)
 obtain⟨z,ez,az⟩:=y1H i0 i1
 have hz:=n20 z (bQ ez)
 have lz:Low z:=Nn.low z (bQ ez)
 refine⟨_,rfl,_,rfl,_,_,rfl,rfl,⟨by decide,by decide⟩,_,rfl,ln,_,rfl,.inl hN,_,_,rfl,rfl,(by rw[b9];omega),ln,_,_,_,rfl,rfl,hN,(by rw[b9];exact az),?_⟩
 have w09:Low "a stranger of twenty":=show ∀c∈("a stranger of twenty":Str).cps.toList,c<16^8 from by decide +kernel
 have lx:("x":Str).length=1:=by decide +kernel
 have lb:(" ":Str).length=1:=by decide +kernel
 have lf:("a stranger of twenty":Str).length=20:=by decide +kernel
 have hu:=y3P z
 have hl:=y3e z
 have hc:=y61 z (some 1) none
 refine⟨_,rfl,_,rfl,_,_,rfl,rfl,z6o (by omega),?_⟩
 refine⟨_,rfl,rfl,z,rfl,rfl,y6l (by omega),?_⟩
 refine⟨_,rfl,rfl,z,rfl,rfl,y6l (by omega),?_⟩
 refine⟨_,rfl,_,_,rfl,rfl,z6o (by omega),?_⟩
 refine⟨_,rfl,_,rfl,z,rfl,z6o (by omega),?_⟩
 refine⟨(by show 6≤sizeLine;decide),fun p hp=>?_⟩
 obtain⟨y,hat,hy,ly⟩:∃y:Str,atI [V.str "a stranger of twenty",V.str (z++"x"),V.str (Txt.upper z),V.str (Txt.lower z),V.str (z++" "),V.str (N7 z (some 1) none)] (c%6)=some (.str y)/\y.length≤100/\Low y:=by
  have h1:=cT c (show(6:Int)≠0 by decide)
  have h2:=cM c (show(0:Int)<6 by decide)
  have c6:c%6=0\/c%6=1\/c%6=2\/c%6=3\/c%6=4\/c%6=5:=by omega
  rcases c6 with e|e|e|e|e|e<;>rw[e]
  ·exact⟨_,rfl,by omega,w09⟩
  ·exact⟨_,rfl,by rw[y4x];omega,y4S lz (show ∀c∈("x":Str).cps.toList,c<16^8 from by decide +kernel)⟩
  ·exact⟨_,rfl,by omega,y52 lz⟩
  ·exact⟨_,rfl,by omega,y3g lz⟩
  ·exact⟨_,rfl,by rw[y4x];omega,y4S lz (show ∀c∈(" ":Str).cps.toList,c<16^8 from by decide +kernel)⟩
  ·exact⟨_,rfl,by omega,y71 lz _ _⟩
 refine⟨_,rfl,_,_,rfl,rfl,(by show(0:Int)<6;decide),p,_,_,_,rfl,rfl,SqL.of z04,hat,?_⟩
 have s1:=z02 hp (.lst [V.str "a stranger of twenty",V.str (z++"x"),V.str (Txt.upper z),V.str (Txt.lower z),V.str (z++" "),V.str (N7 z (some 1) none)])
 refine⟨_,rfl,_,rfl,ln,_,rfl,.inl (s1.seq hN),rfl,z3J nm,_,rfl,?_⟩
 rw[if_neg bM,z6q]
 by_cases c1:y∈nm
 ·rw[decide_eq_true c1]
  exact L8 ⟨_,rfl,q _ _ s1 (by omega) w09 Nn.far⟩
 rw[decide_eq_false c1]
 refine E7 ⟨_,rfl,rfl,_,rfl,?_⟩
 refine B4 (fun _=>?_) (fun _=>?_)
 ·exact⟨_,rfl,q _ _ s1 (by omega) w09 Nn.far⟩
 refine⟨_,rfl,y,rfl,z6o (by omega),_,_,rfl,rfl,_,rfl,?_⟩
 refine B4 (fun _=>?_) (fun _=>?_)
 ·exact⟨_,rfl,q _ _ s1 (by omega) w09 Nn.far⟩
 ·exact⟨_,rfl,q _ _ s1 hy ly c1⟩
noncomputable def y0s(K:PySem.W.Frag):Sp:=fun vs H Q _=>∃(a ln:Addr) (ns:List Int) (nm:List Str),vs=[.ref a,.ref ln]/\SqL K H a (ns.map V.int)/\SqL K H ln (nm.map V.str)/\1≤nm.length/\nm.length≤12/\
 ∀(lr:Addr) (us:List V) (rows:List Row) (H':Hp),H lr=none->A4 H H'->H' lr=some (.lst us)->z0c H' (rows.map rowD) us->rows.length≤60->Rws nm rows->Q (.ref lr) H'
theorem y34(F:Fun K "_law_numbers" "_law_numbers" z3R f fd)(C9:Cal P w K mg base 1 "_law_at" z5X (spAt K))(E6:Cal P w K mg base 1 "_law_pick" z3G y24)
  (R0:Cal P w K mg base 2 "_law_sets" z6E (y6v K)) (N4:Cal P w K mg base 2 "_law_valued" z4E y2p):A8 P w K mg base CX0 3 f fd z45 (y0s K):=by
 have nd:=z58.nd
 refine F.ok z58 (fun vs H Q E h=>?_) (fun cdv A outer s H vs Q E hr h=>?_)
 ·obtain⟨a,ln,ns,nm,rfl,_⟩:=h
  rfl
 obtain⟨a,ln,ns,nm,rfl,hS,hN,n1,n2,q⟩:=h
 refine⟨_,(z03 (z0f (i:=2) nd rfl (Or.inl rfl) (z0k E6 (rm hr) rfl (z00 (z0k C9 (rm hr) rfl (z00 (pv 0) (z00 z06 z01))) (z00 z06 z01)))) (z03 (z0f (i:=3) nd rfl (Or.inl rfl) (z0k R0 (rm hr) rfl (z00 (pv 1) (z00 (z0k C9 (rm hr) rfl (z00 (pv 0) (z00 z06 z01))) (z00 (pv 2) z01))))) (z05 (z0d (z0k N4 (rm hr) rfl (z00 (pv 3) (z00 (z0k C9 (rm hr) rfl (z00 (pv 0) (z00 z06 z01))) z01))))))),?_⟩
 refine⟨_,rfl,a,ns,1,rfl,hS,by decide,_,_,rfl,(by decide),fun r h0 h1=>?_⟩
 refine⟨_,rfl,_,rfl,a,ns,2,rfl,hS,by decide,_,rfl,ln,nm,_,r,rfl,hN,n1,n2,h0,by omega,fun l xs ss H1 nl g1 e1 st len sub=>?_⟩
 refine⟨_,rfl,_,rfl,a,ns,3,rfl,g1.seq hS,by decide,l,xs,ss,_,rfl,e1,st,by omega,fun s hs=>cL (sub s hs).length_le n2,fun lr us rows H2 nlr g2 e2 tl hm hv=>?_⟩
 refine q lr us rows H2 (g1.free nlr) (g1.trans g2) e2 tl ?_ ⟨fun r hr'=>?_,hv⟩
 ·have:=congrArg List.length hm
  rw[b9] at this
  omega
 ·have:r.map Prod.fst∈ss:=by rw[<- hm];exact List.mem_map_of_mem hr'
  exact sub _ this
noncomputable def y6x(K:PySem.W.Frag):Sp:=fun vs H Q _=>∃(r:Addr) (ns:List Int) (c:Int),vs=[.ref r,.int c]/\SqL K H r (ns.map V.int)/\ns.length≤60/\
 ∀(l:Addr) (ts:List Int) (H':Hp),H l=none->A4 H H'->H' l=some (.lst (ts.map V.int))->(∀x,x∈ts↔x∈ns)->ts.length≤120->Q (.ref l) H'
theorem y3f(ts:List Int)(i:Nat)(x:Int):(ts.map V.int).take i++V.int x::(ts.map V.int).drop i=(ts.take i++x::ts.drop i).map V.int:=by
 rw[bG,cQ,List.map_take,List.map_drop]
theorem y1A{ts:List Int}{i:Nat}{x y:Int}:y∈ts.take i++x::ts.drop i↔y=x\/y∈ts:=by
 rw[bS,bD]
 constructor
 ·rintro(h|h|h)
  ·exact .inr (fR h)
  ·exact .inl h
  ·exact .inr (hV h)
 ·rintro(h|h)
  ·exact .inr (.inl h)
  ·rw[<- gZ i ts,bS] at h
   rcases h with h|h
   ·exact .inl h
   ·exact .inr (.inr h)
theorem y3m{ts:List Int}{i:Nat}{x:Int}(h:i≤ts.length):(ts.take i++x::ts.drop i).length=ts.length+1:=by
 rw[bN,c9,bO,dF]
 omega
theorem y6T(M:Bl mg)(F:Fun K "_law_shuffled" "_law_shuffled" z3o f fd)(D0:Cal P w K mg base 1 "_law_row" z3K y42):A8 P w K mg base CX0 2 f fd z3x (y6x K):=by
 have nd:=z4Q.nd
 refine F.ok z4Q (fun vs H Q E h=>?_) (fun cdv A outer s H vs Q E hr h=>?_)
 ·obtain⟨r,ns,c,rfl,_⟩:=h
  rfl
 obtain⟨r,ns,c,rfl,hS,hn,q⟩:=h
 refine⟨_,(z03 (z0f (i:=2) nd rfl (Or.inl rfl) (z0k D0 (rm hr) rfl (z00 (pv 1) (z00 (z0b z09 rfl M.len bH (z00 (pv 0) z01)) (z00 z06 z01))))) (z03 (z0f (i:=3) nd rfl (Or.inl rfl) (z1w z01)) (z03 (z1s cD rfl (z1M rfl M.range (z00 (z0b z09 rfl M.len bH (z00 (pv 0) z01)) z01)) (z0h (i:=4) nd rfl (Or.inl rfl)) (z03 (z0y (z2Z bV gB PySem.F.type_list_insert y0g (pv 3) (z00 (z0t z17 (z0M z0N (pv 2) (pv 4) (fun _ _=>rfl)) (z0t z1G (pv 4) z06)) (z00 (z0M z0N (pv 0) (pv 4) (fun _ _=>rfl)) z01)))) (z05 (z0G (z08 y41 (z0M z0N (pv 2) (pv 4) (fun _ _=>rfl)) z06 (z0i _)) (z05 (z0y (z2Z bV gB PySem.F.type_list_insert y0g (pv 3) (z00 (z0t z17 (z0M z0N (pv 2) (pv 4) (fun _ _=>rfl)) (z0t z1G (pv 4) z06)) (z00 (z0M z0N (pv 0) (pv 4) (fun _ _=>rfl)) z01))))) z0g)))) (z05 (z0d (pv 3)))))),?_⟩
 have hl0:(ns.map V.int).length=ns.length:=b9 _
 refine⟨_,rfl,_,rfl,r,_,rfl,.inl hS,_,_,_,rfl,by omega,by omega,by decide,by decide,fun lf fs H1 nlf s1 e1 T1 all1=>?_⟩
 have w1d:fs.length=ns.length:=by rw[T1,hl0];rfl
 refine⟨(by show 0≤sizeLine;decide),fun l hl=>?_⟩
 have nl:lf≠l:=z0o e1 hl
 refine⟨_,rfl,r,_,rfl,.inl ((s1.trans (z02 hl _)).seq hS),_,rfl,by omega,by omega,?_⟩
 refine z2h (lo:=0) (n:=(((ns.map V.int).length:Nat):Int).toNat) (fun i σ H'=>∃(ts:List Int) (o:Option V),(∀x,x∈ts↔x∈ns.take i)/\i≤ts.length/\ts.length≤2*i/\H'=upd H1 l (.lst (ts.map V.int))/\
  σ=[some (.ref r),some (.int c),some (.ref lf),some (.ref l),o]) ⟨[],_,fun x=>Iff.rfl,bE 0,bE 0,rfl,rfl⟩ (fun i σ H' hi hp=>?_) (fun σ H' hp=>?_)
 ·obtain⟨ts,o,hm,hlo,hhi,rfl,rfl⟩:=hp
  have hi':i<ns.length:=by
   have:(((ns.map V.int).length:Nat):Int).toNat=ns.length:=by rw[hl0];rfl
   omega
  have ei:(0:Int)+(i:Int)=(i:Int):=jG _
  have hif:(i:Int)<(fs.length:Int):=by omega
  have gs:∀o:HO,A4 H1 (upd H1 l o):=fun o=>z02 hl o
  have w0t:∀{o:HO},SqL K (upd H1 l o) lf (fs.map V.int):=fun {o}=>SqL.of (gs o _ _ e1)
  have rget:∀{o:HO},SqL K (upd H1 l o) r (ns.map V.int):=fun {o}=>(s1.trans (gs o)).seq hS
  have atf:atI (fs.map V.int) ((0:Int)+(i:Int))=some (.int (fs.getD i 0)):=by
   rw[ei]
   exact z8x (ns:=fs) (k:=(i:Int)) (by omega) hif
  have atn:atI (ns.map V.int) ((0:Int)+(i:Int))=some (.int (ns.getD i 0)):=by
   rw[ei]
   exact z8x (ns:=ns) (k:=(i:Int)) (by omega) (by omega)
  have hget:ns[i]? = some (ns.getD i 0):=by
   rw[bY,bU hi']
   rfl
  have hmem:∀x,x∈ns.take (i+1)↔x=ns.getD i 0\/x∈ns.take i:=fun x=>by
   rw[z0x hget,bS,bB]
   exact Or.comm
  have b1:0≤fs.getD i 0%((0:Int)+(i:Int)+1)/\fs.getD i 0%((0:Int)+(i:Int)+1)≤(i:Int):=by
   have:=cT (fs.getD i 0) (show(0:Int)+(i:Int)+1≠0 by omega)
   have:=cM (fs.getD i 0) (show(0:Int)<(0:Int)+(i:Int)+1 by omega)
   omega
  have b2:0≤fs.getD i 0%((0:Int)+(i:Int)+2)/\fs.getD i 0%((0:Int)+(i:Int)+2)≤(i:Int)+1:=by
   have:=cT (fs.getD i 0) (show(0:Int)+(i:Int)+2≠0 by omega)
   have:=cM (fs.getD i 0) (show(0:Int)<(0:Int)+(i:Int)+2 by omega)
   omega
  have hlen:(ts.map V.int).length=ts.length:=b9 _
  refine⟨_,rfl,.inl ⟨rfl,_,SqL.of z04⟩,_,rfl,_,rfl,lf,_,_,_,rfl,rfl,w0t,atf,_,rfl,_,_,rfl,rfl,_,_,rfl,rfl,(by omega),_,rfl,_,rfl,r,_,_,_,rfl,rfl,rget,atn,l,_,_,_,rfl,rfl,z04,b1.1,by omega,z0n (by omega),?_⟩
  rw[z5A,y3f]
  have T8:=y3m (ts:=ts) (i:=(fs.getD i 0%((0:Int)+(i:Int)+1)).toNat) (x:=ns.getD i 0) (by omega)
  refine⟨_,rfl,_,rfl,lf,_,_,_,rfl,rfl,w0t,atf,_,_,rfl,rfl,_,rfl,?_⟩
  refine B4 (fun _=>?_) (fun _=>?_)
  ·refine⟨_,rfl,.inl ⟨rfl,_,SqL.of z04⟩,_,rfl,_,rfl,lf,_,_,_,rfl,rfl,w0t,atf,_,rfl,_,_,rfl,rfl,_,_,rfl,rfl,(by omega),_,rfl,_,rfl,r,_,_,_,rfl,rfl,rget,atn,l,_,_,_,rfl,rfl,z04,b2.1,?_,?_,?_⟩
   ·rw[b9,T8]
    omega
   ·rw[b9,T8]
    exact z0n (by omega)
   ·rw[z5A,y3f]
    have w0j:=y3m (ts:=ts.take (fs.getD i 0%((0:Int)+(i:Int)+1)).toNat++ns.getD i 0::ts.drop (fs.getD i 0%((0:Int)+(i:Int)+1)).toNat) (i:=(fs.getD i 0%((0:Int)+(i:Int)+2)).toNat) (x:=ns.getD i 0) (by rw[T8];omega)
    refine⟨_,_,fun x=>?_,?_,?_,rfl,rfl⟩
    ·rw[y1A,y1A,hmem,hm]
     constructor
     ·rintro(h|h|h)
      ·exact .inl h
      ·exact .inl h
      ·exact .inr h
     ·rintro(h|h)
      ·exact .inl h
      ·exact .inr (.inr h)
    ·rw[w0j,T8]
     omega
    ·rw[w0j,T8]
     omega
  ·refine⟨_,_,fun x=>?_,?_,?_,rfl,rfl⟩
   ·rw[y1A,hmem,hm]
   ·rw[T8]
    omega
   ·rw[T8]
    omega
 ·obtain⟨ts,o,hm,hlo,hhi,rfl,rfl⟩:=hp
  have e:(((ns.map V.int).length:Nat):Int).toNat=ns.length:=by rw[hl0];rfl
  rw[e] at hm hhi
  rw[bX] at hm
  exact⟨_,rfl,q l ts _ (s1.free hl) (s1.trans (z02 hl _)) z04 hm (by omega)⟩
noncomputable def y1Q(K:PySem.W.Frag)(Sh:ShP):Sp:=fun vs H Q _=>∃(ln lr lo:Addr) (nm:List Str) (r:Int) (us:List V) (rows:List Row) (ts:List Int),vs=[.ref ln,.int r,.ref lr,.ref lo]/\SqL K H ln (nm.map V.str)/\GoodN nm/\0≤r/\r≤10/\SqL K H lr us/\z0c H (rows.map rowD) us/\rows.length≤60/\Rws nm rows/\
 SqL K H lo (ts.map V.int)/\(∀n∈ts,1≤n/\n≤rows.length)/\(∃o,H lo=some o)/\(∃o,H lr=some o)/\
 ∀(x:Addr) (fp:List Addr) (had:List Int) (H':Hp),(∀b∈fp,H b=none)->A4 H H'->Sh H' x fp nm r (fun n=>z11 rows n r) had->(∀n,n∈had↔n∈ts)->Q (.ref x) H'
theorem y6E{nm:List Str}{rows:List Row}(R:Rws nm rows)(h:nm.length≤12):∀w∈rows,w.length≤12:=fun w hw=>by
 have:=(R.sub w hw).length_le
 rw[b9] at this
 omega
theorem y48(M:Bl mg)(F:Fun K "_law_filled" "_law_filled" z4w f fd){A1:Addr}{Sh:ShP}(OS:ShOk A1 ["put","had","latest"] Sh)(O3:Cal P w K mg base 1 "_law_issue" z5o (y3T K))
  (L4:Mkr P w K mg base 7 A1 "Shelf" z1L (z7u K A1 Sh)) (D7:C5 P w K mg base 7 A1 "put" z3H (y63 Sh)):A8 P w K mg base CX0 10 f fd z4G (y1Q K Sh):=by
 have nd:=z62.nd
 refine F.ok z62 (fun vs H Q E h=>?_) (fun cdv A outer s H vs Q E hr h=>?_)
 ·obtain⟨ln,lr,lo,nm,r,us,rows,ts,rfl,_⟩:=h
  rfl
 obtain⟨ln,lr,lo,nm,r,us,rows,ts,rfl,hN,gn,r0,r10,hR,tl,r60,R,hO,w03,⟨oo,eo⟩,⟨ro,er⟩,q⟩:=h
 refine⟨_,(z03 (z0f (i:=4) nd rfl (Or.inl rfl) (y01 L4 (rm hr) rfl (z00 (z0q z4t rfl M.list gR (z00 (pv 0) z01)) (z00 (pv 1) z01)))) (z03 (z1s cD rfl (z1v (pv 3)) (z0h (i:=5) nd rfl (Or.inl rfl)) (z05 (z0y (z1z D7 (rm hr) (pv 4) (z00 (z0k O3 (rm hr) rfl (z00 (pv 2) (z00 (pv 5) (z00 (pv 1) z01)))) z01))))) (z05 (z0d (pv 4))))),?_⟩
 refine⟨_,rfl,ln,nm.map V.str,rfl,.inl hN,fun l1 hl1=>⟨_,rfl,fun x dx nx ndx ne=>?_⟩⟩
 have m1:=z6p (C:=A1) (z02 hl1 (.lst (nm.map V.str))) nx ndx
 refine⟨x,dx,l1,nm,r,rfl,z04,ne,by rw[z0e ne,z04],.inl (SqL.of (z8A nx ndx z04)),gn,r0,r10,fun fp H5 hfp b5 sh5=>⟨rfl,?_⟩⟩
 have s5:A4 H H5:=z6m b5 m1 ((z02 hl1 _).free nx)
 have f5:∀b∈fp,H b=none:=fun b hb=>z4T m1 ((z02 hl1 _).free nx) ((z02 hl1 _).free ndx) (hfp b hb)
 have shx:Sh H5 x fp nm r (fun n=>z11 rows n r) []:=sh5 _
 have ntp:z6c H5 fp:=OS.noTup shx
 have outo:lo∉fp:=fun m=>by rw[f5 _ m] at eo;cases eo
 have outr:lr∉fp:=fun m=>by rw[f5 _ m] at er;cases er
 refine⟨_,rfl,lo,rfl,⟨_,s5.seq hO⟩,z2a (K:=K) (a:=lo) (xs:=ts.map V.int)
  (fun j σ G=>∃(fq:List Addr) (gd:List Int) (o3:Option V),z0D fp H5 G/\Sh G x fq nm r (fun n=>z11 rows n r) gd/\(∀b∈fq,b∈fp\/H5 b=none)/\(∀n,n∈gd↔n∈ts.take j)/\σ=[some (.ref ln),some (.int r),some (.ref lr),some (.ref lo),some (.ref x),o3])
  ⟨fp,[],none,.of (A4.refl _),shx,fun b m=>.inl m,fun n=>by rw[cV],rfl⟩ (fun j σ G _ ⟨_,_,_,bt2,_⟩=>SqL.but bt2 outo (s5.seq hO)) ?_ ?_⟩
 ·rintro j v σ G hj ⟨fq,gd,o3,bt2,sh2,ff2,mem2,rfl⟩
  obtain⟨n,hn,rfl⟩:∃n,ts[j]? = some n/\v=V.int n:=by
   rw[bK] at hj
   cases e:ts[j]? with
   | none=>rw[e] at hj;cases hj
   | some n=>rw[e] at hj;exact⟨n,rfl,(Option.some.inj hj).symm⟩
  have hnt:=w03 n (bQ hn)
  obtain⟨d1,g1,z1,w1⟩:=OS.ins sh2
  refine⟨_,rfl,x,d1,g1,rfl,z1,w1 _ (by simp),_,rfl,_,rfl,_,rfl,lr,us,rows,n,r,rfl,SqL.but bt2 outr (s5.seq hR),z0c.but bt2 ntp _ _ (z0c.keep s5 _ _ tl),by omega,y6E R gn.hi,hnt.1,hnt.2,fun v1 H11 s11 t11=>?_⟩
  refine⟨x,v1,fq,nm,r,_,gd,n,_,rfl,OS.same sh2 s11,t11,rfl,hnt.1,by omega,fun fp3 H12 hf3 b12 sh12=>?_⟩
  refine⟨fp3,_,_,(fun b o e nb=>b12 b o (s11 _ _ (bt2 b o e nb)) fun m=>(ff2 b m).elim nb fun z=>by rw[e] at z;cases z),sh12,y40 bt2 ff2 s11 hf3,fun m=>?_,rfl⟩
  rw[y1V,mem2,z0x hn,bS,bB]
 ·rintro σ G ⟨fq,gd,o3,bt2,sh2,ff2,mem2,rfl⟩
  rw[b9,bX] at mem2
  refine⟨_,rfl,q x fq gd G (fun b hb=>(ff2 b hb).elim (f5 b) fun z=>s5.free z) (fun b o e=>bt2 b o (s5 _ _ e) fun m=>by rw[f5 _ m] at e;cases e) sh2 mem2⟩
noncomputable def y5J(K:PySem.W.Frag):Sp:=fun vs H Q _=>∃(a:Addr) (ns:List Int),vs=[.ref a]/\SqL K H a (ns.map V.int)/\ns.length≤63/\∀H',Q (.bl true) H'
theorem z8z(z:Str):(refD z).deep≤1:=z7y fun d hd=>by
 rcases bD.mp hd with rfl|hd
 ·exact z7E _ _
 ·rw[bB.mp hd]
  exact z7E _ _
theorem y4C{nm:List Str}(h:nm.Nodup):GoodR nm (nm.map fun z=>(z,(5:Int))):=by
 refine⟨?_,fun p hp=>?_,fun p hp=>?_⟩
 ·rw[dH]
  have e:(Prod.fst ∘ fun z:Str=>(z,(5:Int)))=id:=rfl
  rw[e,List.map_id]
  exact h
 ·obtain⟨z,hz,rfl⟩:=cG.mp hp
  exact hz
 ·obtain⟨z,hz,rfl⟩:=cG.mp hp
  exact⟨by show(0:Int)≤5;decide,by show(5:Int)≤1000000;decide⟩
theorem y7S(M:Bl mg)(F:Fun K "law" "law" slaw f fd){A2 A1:Addr}{Bk:BkP}{Sh:ShP}(O:BkOk A2 ["write","deliver","latest","issue","deeds","deed","shelf"] Bk)(OS:ShOk A1 ["put","had","latest"] Sh)
  (C9:Cal P w K mg base 1 "_law_at" z5X (spAt K)) (E6:Cal P w K mg base 1 "_law_pick" z3G y24)
  (P5:Cal P w K mg base 2 "_law_names" z5m (y4p K)) (M9:Cal P w K mg base 3 "_law_numbers" z45 (y0s K))
  (S2:Cal P w K mg base 2 "_law_had" z7I y7M) (L5:Cal P w K mg base 2 "_law_shuffled" z3x (y6x K))
  (F4:Cal P w K mg base 4 "_law_same" z2w (y0K 4)) (M4:Cal P w K mg base 1 "_law_strange" z3X (y00 K))
  (O4:Cal P w K mg base 3 "_law_table" z5w (y3A K)) (N5:Cal P w K mg base 10 "_law_filled" z4G (y1Q K Sh)) (Q5:Cal P w K mg base 8 "knowledge" z6C (y6i Sh))
  (J8:Cal P w K mg base 10 "_law_asked" z5G (y1G Sh Bk)) (A7:C5 P w K mg base 7 A1 "had" z0Z (z2u Sh))
  (Y7:Mkr P w K mg base 8 A2 "Book" z3F (y2m K A2 Bk)) (N9:C5 P w K mg base 8 A2 "write" z4c (z8r K Bk)) (M1:C5 P w K mg base 8 A2 "deliver" z2Y (z5I Bk)):A8 P w K mg base CX0 14 f fd plaw (y5J K):=by
 have nd:=y8d.nd
 refine F.ok y8d (fun vs H Q E h=>?_) (fun cdv A outer s H vs Q E hr h=>?_)
 ·obtain⟨a,ns,rfl,_⟩:=h
  rfl
 obtain⟨a,ns,rfl,hS,h63,q⟩:=h
 refine⟨_,(z03 (z0f (i:=1) nd rfl (Or.inl rfl) (z0k P5 (rm hr) rfl (z00 (pv 0) z01))) (z03 (z0f (i:=2) nd rfl (Or.inl rfl) (z0k M9 (rm hr) rfl (z00 (pv 0) (z00 (pv 1) z01)))) (z03 (z0f (i:=3) nd rfl (Or.inl rfl) (z0k E6 (rm hr) rfl (z00 (z0k C9 (rm hr) rfl (z00 (pv 0) (z00 z06 z01))) (z00 z06 z01)))) (z03 (z0f (i:=4) nd rfl (Or.inl rfl) (z0k S2 (rm hr) rfl (z00 (z0k C9 (rm hr) rfl (z00 (pv 0) (z00 z06 z01))) (z00 (z0b z09 rfl M.len bH (z00 (pv 2) z01)) z01)))) (z03 (z0f (i:=5) nd rfl (Or.inl rfl) (z0k L5 (rm hr) rfl (z00 (pv 4) (z00 (z0k C9 (rm hr) rfl (z00 (pv 0) (z00 z06 z01))) z01)))) (z03 (z0f (i:=6) nd rfl (Or.inl rfl) (z0k N5 (rm hr) rfl (z00 (pv 1) (z00 (pv 3) (z00 (pv 2) (z00 (pv 5) z01)))))) (z03 (z0f (i:=7) nd rfl (Or.inl rfl) (y01 Y7 (rm hr) rfl (z00 (z0q z4t rfl M.list gR (z00 (pv 1) z01)) (z00 (pv 3) (z00 z06 z01))))) (y4W (z0G (z08 z23 (z0t z17 (z0k C9 (rm hr) rfl (z00 (pv 0) (z00 z06 z01))) z06) z06 (z0i _)) (z03 (z0y (z1z N9 (rm hr) (pv 7) (z00 (z1n ["_law_name"] [] [] rfl (z0z rfl (by decide +kernel) rfl (by decide +kernel) rfl rfl) (z1v (pv 1)) (fun _ _ _ _ _=>(z0h (i:=0) (show((["_law_name"]:List PySem.Str)++([]:List PySem.Str)).Nodup from by decide +kernel) rfl (Or.inl rfl))) (z0A (by decide)) z0a (fun _ _ _ _ _=>z1Z) (fun _ _ _ _ _=>(z0I (z00 (pv 0) (z00 z06 z01))))) z01))) (z05 (z0y (z1z M1 (rm hr) (pv 7) (z00 z06 (z00 z06 z01)))))) z0g) (z03 (z0f (i:=8) nd rfl (Or.inl rfl) (z0M z0N (pv 1) (z0t z17 (z0k C9 (rm hr) rfl (z00 (pv 0) (z00 z06 z01))) (z0b z09 rfl M.len bH (z00 (pv 1) z01))) (fun _ _=>rfl))) (z03 (z0f (i:=9) nd rfl (Or.inl rfl) (z0k M4 (rm hr) rfl (z00 (pv 1) (z00 (z0k C9 (rm hr) rfl (z00 (pv 0) (z00 z06 z01))) z01)))) (z03 (z1s cD rfl (z1M rfl M.range (z00 z06 z01)) (z0h (i:=10) nd rfl (Or.inl rfl)) (z05 (z0G (z8j (z77 (z0k F4 (rm hr) rfl (z00 (z0k J8 (rm hr) rfl (z00 (pv 10) (z00 (pv 6) (z00 (pv 7) (z00 z06 (z00 (pv 9) z01)))))) (z00 (z0I (z00 z16 (z00 z16 z01))) z01))))) (z05 (z0d z5D)) z0g))) (z03 (z1s cD rfl (z1v (z1w (z00 z06 (z00 z06 (z00 (y3n y0Q z06) z01))))) (z0h (i:=11) nd rfl (Or.inl rfl)) (z03 (z0G (z8j (z77 (z0k F4 (rm hr) rfl (z00 (z0k J8 (rm hr) rfl (z00 z06 (z00 (pv 6) (z00 (pv 7) (z00 (pv 11) (z00 (pv 9) z01)))))) (z00 (z0I (z00 z16 (z00 z16 z01))) z01))))) (z05 (z0d z5D)) z0g) (z05 (z0G (z8j (z77 (z0k F4 (rm hr) rfl (z00 (z0k J8 (rm hr) rfl (z00 z06 (z00 (pv 6) (z00 (pv 7) (z00 (pv 11) (z00 (pv 8) z01)))))) (z00 (z0I (z00 z16 (z00 z16 z01))) z01))))) (z05 (z0d z5D)) z0g)))) (z03 (z0G (z8j (z77 (z0k F4 (rm hr) rfl (z00 (z1q A7 (rm hr) (pv 6)) (z00 (z0q z0l rfl M.tuple bI (z00 (pv 4) z01)) z01))))) (z05 (z0d z5D)) z0g) (z05 (z0d (z0k F4 (rm hr) rfl (z00 (z0k Q5 (rm hr) rfl (z00 (pv 6) z01)) (z00 (z0k O4 (rm hr) rfl (z00 (pv 1) (z00 (pv 4) (z00 (pv 2) (z00 (pv 3) z01))))) z01)))))))))))))))))),?_⟩
 refine⟨_,rfl,a,ns,rfl,hS,fun ln nm H1 nln s1 eN n1 n12 N=>?_⟩
 refine⟨_,rfl,_,rfl,a,ln,ns,nm,rfl,s1.seq hS,SqL.of eN,n1,n12,fun lr us rows H2 nlr s2 eR tl r60 R=>?_⟩
 refine⟨_,rfl,a,ns,4,rfl,(s1.trans s2).seq hS,by decide,_,_,rfl,(by decide),fun r r0 r1=>?_⟩
 have s12:=s1.trans s2
 have lus:us.length=rows.length:=by rw[tl.length,b9]
 refine⟨_,rfl,a,ns,5,rfl,s12.seq hS,by decide,_,rfl,lr,us,rfl,.inl (SqL.of eR),_,_,rfl,by omega,by omega,fun lh hs H3 nlh s3 e3 rise3 all3 Y8=>?_⟩
 refine⟨_,rfl,_,rfl,a,ns,6,rfl,(s12.trans s3).seq hS,by decide,lh,hs,_,rfl,SqL.of e3,Y8,fun lo ts H4 nlo s4 e4 mem4 w0v=>?_⟩
 have w03:∀x∈ts,1≤x/\x≤(rows.length:Int):=fun x hx=>by
  have:=all3 x ((mem4 x).mp hx)
  omega
 have s14:=s12.trans (s3.trans s4)
 have eN4:H4 ln=some (.lst (nm.map V.str)):=s4 _ _ (s3 _ _ (s2 _ _ eN))
 have eR4:H4 lr=some (.lst us):=s4 _ _ (s3 _ _ eR)
 have eH4:H4 lh=some (.lst (hs.map V.int)):=s4 _ _ e3
 have tl4:z0c H4 (rows.map rowD) us:=z0c.keep (s3.trans s4) _ _ tl
 have hS4:=s14.seq hS
 have gn:GoodN nm:=⟨n1,n12,N.nd⟩
 refine⟨_,rfl,_,rfl,_,rfl,_,rfl,ln,lr,lo,nm,r,us,rows,ts,rfl,SqL.of eN4,gn,r0,by omega,SqL.of eR4,tl4,r60,R,SqL.of e4,w03,⟨_,e4⟩,⟨_,eR4⟩,fun x fs had H5 f5 s5 sh5 memh=>?_⟩
 have eN5:=s5 _ _ eN4
 refine⟨_,rfl,ln,nm.map V.str,rfl,.inl (SqL.of eN5),fun l1 hl1=>⟨_,rfl,fun y dx nx ndx ne=>?_⟩⟩
 have m1:=z6p (C:=A2) (z02 hl1 (.lst (nm.map V.str))) nx ndx
 refine⟨y,dx,l1,nm,r,2,rfl,z04,ne,by rw[z0e ne,z04],.inl (SqL.of (z8A nx ndx z04)),gn,r0,by omega,by decide,by decide,fun fp H6 hfp b6 bk6=>⟨rfl,?_⟩⟩
 have s6:A4 H5 H6:=z6m b6 m1 ((z02 hl1 _).free nx)
 have f6:∀b∈fp,H5 b=none:=fun b hb=>z4T m1 ((z02 hl1 _).free nx) ((z02 hl1 _).free ndx) (hfp b hb)
 have sh6:=OS.same sh5 s6
 have s46:=s5.trans s6
 clear m1 b6 hfp hl1 nx ndx ne
 refine⟨fun σ G=>∃(fq:List Addr) (rws:List Row) (log:List Deed),A4 H4 G/\Sh G x fs nm r (fun n=>z11 rows n r) had/\Bk G y fq nm r 2 rws log/\
  σ=[some (.ref a),some (.ref ln),some (.ref lr),some (.int r),some (.ref lh),some (.ref lo),some (.ref x),some (.ref y),none,none,none,none],?_,?_⟩
 ·refine⟨_,rfl,a,ns,7,rfl,s46.seq hS4,by decide,?_⟩
  generalize ns.getD (7:Int).toNat 0=c7
  refine⟨_,_,rfl,rfl,(by show(0:Int)<2;decide),?_⟩
  refine⟨rfl,_,rfl,B4 (fun _=>?_) (fun _=>?_)⟩
  rotate_left
  ·exact⟨fp,[],[],s46,sh6,bk6,rfl⟩
  obtain⟨d2,g2,z2,w2⟩:=O.ins bk6
  refine⟨_,rfl,y,d2,g2,rfl,z2,w2 _ (by simp),_,rfl,ln,rfl,⟨_,SqL.of (s46 _ _ eN4)⟩,?_⟩
  refine z38 (xs:=nm.map V.str) (fun j ys G2=>A4 H6 G2/\Paired (HT G2) ys ((nm.take j).map fun z=>(z,(5:Int)))) ⟨A4.refl _,.nil⟩ (fun j ys G2 hj hp=>?_) (fun j u ys G2 hu hp=>?_) (fun ys G2 hp=>?_)
  ·obtain⟨g2',th⟩:=hp
   have:=th.length
   rw[b9,bO] at this
   exact⟨SqL.of (g2' _ _ (s46 _ _ eN4)),z0n (by omega)⟩
  ·obtain⟨g2',th⟩:=hp
   rw[bK] at hu
   obtain⟨z,ez,rfl⟩:=cP.mp hu
   refine⟨_,rfl,le2,fun t ht=>?_⟩
   have st:=z02 ht (.tup [V.str z,V.int 5])
   refine⟨g2'.trans st,?_⟩
   rw[z0x ez,bG]
   exact gQ (HT.keep st th) ⟨t,rfl,z04⟩
  obtain⟨g2',th⟩:=hp
  rw[b9,bX] at th
  intro l hl
  have sl:=z02 hl (.lst ys)
  have el:upd G2 l (.lst ys) l=some (.lst ys):=z04
  have bk2:=O.same bk6 g2'
  have nl:l∉fp:=fun mm=>by
   obtain⟨o,e,_⟩:=O.own bk2 l mm
   rw[hl] at e
   cases e
  have bk':=O.same bk2 sl
  have hts:=HT.keep sl th
  have sh':=OS.same sh6 (g2'.trans sl)
  generalize upd G2 l (.lst ys)=G1 at sl el bk' hts sh'
  have gl:=g2'.trans sl
  have outs:∀b∈fs,b∉fp:=fun b mm mm2=>by
   obtain⟨o,e,_⟩:=OS.own sh5 b mm
   rw[f6 _ mm2] at e
   cases e
  refine⟨y,.ref l,fp,nm,r,2,_,[],_,rfl,bk',⟨l,ys,rfl,.inl (SqL.of el),nl,HT.hand (O.noTup bk') hts⟩,y4C gn.nd,by rw[b9];exact n12,by decide,by decide,fun fp2 H7 hf2 b7 bk7=>?_⟩
  have g7:A4 H4 H7:=fun b o e=>b7 b o (gl _ _ (s46 _ _ e)) fun mm=>by
   have e5:=s5 _ _ e
   rw[f6 b mm] at e5
   cases e5
  have sh7:=OS.keep sh' b7 (fun b mm mm2=>outs b mm2 mm) (O.noTup bk')
  obtain⟨d3,g3,z3,w3⟩:=O.ins bk7
  refine⟨_,rfl,y,d3,g3,rfl,z3,w3 _ (by simp),y,fp2,nm,r,2,_,_,1,1,rfl,bk7,by decide,by decide,by decide,(by rw[List.nil_append,dA];decide),by decide,fun H8 b8 bk8=>?_⟩
  have out2:∀b∈fp2,b∉fs:=fun b mm mm2=>by
   rcases hf2 b mm with h|h
   ·exact outs b mm2 h
   ·obtain⟨o,e,_⟩:=OS.own sh' b mm2
    rw[h] at e
    cases e
  refine⟨fp2,_,_,fun b o e=>b8 b o (g7 _ _ e) fun mm=>?_,OS.keep sh7 b8 out2 (O.noTup bk7),bk8,rfl⟩
  rcases hf2 b mm with h|h
  ·have e5:=s5 _ _ e
   rw[f6 b h] at e5
   cases e5
  ·have e6:=gl _ _ (s46 _ _ e)
   rw[h] at e6
   cases e6
 rintro σ G ⟨fq,rws,log,g,sh,bk,rfl⟩
 clear f6 bk6 sh6 s6 s46 eN5 f5 s5 sh5 H5 H6
 have hS5:=g.seq hS4
 have eN5:=g _ _ eN4
 refine⟨_,rfl,_,rfl,a,ns,8,rfl,hS5,by decide,?_⟩
 generalize ns.getD (8:Int).toNat 0=c8
 have i0:0≤c8%(nm.length:Int):=cT _ (by omega)
 have i1:c8%(nm.length:Int)<(nm.length:Int):=cM _ (by omega)
 obtain⟨z,ez,az⟩:=y1H i0 i1
 have hz:=N.hi z (bQ ez)
 have lz:Low z:=N.low z (bQ ez)
 refine⟨_,rfl,ln,_,rfl,.inl (SqL.of eN5),_,_,rfl,rfl,(by rw[b9];omega),ln,_,_,_,rfl,rfl,SqL.of eN5,(by rw[b9];exact az),?_⟩
 refine⟨_,rfl,_,rfl,a,ns,8,rfl,hS5,by decide,ln,nm,_,rfl,SqL.of eN5,n1,n12,N,fun s G1 g1 ls lows ns'=>?_⟩
 have gg:=g.trans g1
 have sh1:=OS.same sh g1
 have bk1:=O.same bk g1
 clear g g1 sh bk
 have eN6:=gg _ _ eN4
 have eR6:=gg _ _ eR4
 have eH6:=gg _ _ eH4
 have tl6:=z0c.keep gg _ _ tl4
 refine⟨7,rfl,by decide,by decide,?_⟩
 refine z2h (lo:=0) (n:=(7:Int).toNat) (fun i σ G=>∃(o10:Option V),A4 G1 G/\σ=[some (.ref a),some (.ref ln),some (.ref lr),some (.int r),some (.ref lh),some (.ref lo),some (.ref x),some (.ref y),some (.str z),some (.str s),o10,none]) ⟨_,A4.refl _,rfl⟩ (fun i σ G hi hp=>?_) (fun σ G hp=>?_)
 ·obtain⟨o10,g,rfl⟩:=hp
  have hw:0+(i:Int)≤5\/0+(i:Int)=6:=by omega
  have h0:0≤0+(i:Int):=by omega
  generalize 0+(i:Int)=wh at hw h0 ⊢
  refine⟨_,rfl,_,rfl,_,rfl,_,rfl,wh,x,y,fs,nm,r,_,had,fq,nm,r,2,rws,log,1,s,0,rfl,OS.same sh1 g,O.same bk1 g,by omega,lows,hw.elim (fun h=>.inl ⟨h0,h,ns',rfl⟩) (fun h=>.inr (.inl ⟨h,by decide,by decide,ns',rfl⟩)),fun u G2 t2 tu=>⟨(by show 2≤sizeLine;decide),fun tt htt=>?_⟩⟩
  refine⟨u,.ref tt,rfl,(z32 _ _ _ (Tell.keep (z02 htt _) _ _ tu) (z0w (ds:=[.str "refused",.str "UnknownName"]) z04 (by show 2≤1000000;decide) (.cons (z14 _) (.cons (z14 _) .nil)))).mono (cL (z8z _) (by decide)),fun G4 t4=>⟨_,rfl,E7 ?_⟩⟩
  exact⟨_,g.trans (t2.trans ((z02 htt _).trans t4)),rfl⟩
 obtain⟨o10,g,rfl⟩:=hp
 have sh2:=OS.same sh1 g
 have bk2:=O.same bk1 g
 have eN7:=g _ _ eN6
 have eR7:=g _ _ eR6
 have eH7:=g _ _ eH6
 have tl7:=z0c.keep g _ _ tl6
 clear sh1 bk1 eN6 eR6 eH6 tl6
 refine⟨_,rfl,(by show 3≤sizeLine;decide),fun l9 hl9=>?_⟩
 have t9:=z02 hl9 (.lst [V.int 0,V.int 3,V.int (-1)])
 have e9:upd G l9 (.lst [V.int 0,V.int 3,V.int (-1)]) l9=some (.lst ([(0:Int),3,-1].map V.int)):=z04
 generalize upd G l9 (.lst [V.int 0,V.int 3,V.int (-1)])=G2 at t9 e9 ⊢
 have g2:=g.trans t9
 have n16:s.length≤1000:=by omega
 have h20:=N.hi z (bQ ez)
 refine⟨l9,rfl,⟨_,SqL.of e9⟩,z2a (K:=K) (a:=l9) (xs:=[(0:Int),3,-1].map V.int)
  (fun i σ G=>∃(o11:Option V),A4 G2 G/\σ=[some (.ref a),some (.ref ln),some (.ref lr),some (.int r),some (.ref lh),some (.ref lo),some (.ref x),some (.ref y),some (.str z),some (.str s),o10,o11])
  ⟨_,A4.refl _,rfl⟩ (fun i σ G _ ⟨_,gg,_⟩=>SqL.of (gg _ _ e9)) ?_ ?_⟩
 ·rintro i v σ G' hi ⟨o11,g3,rfl⟩
  obtain⟨rd,hrd,rfl⟩:∃rd:Int,(rd<1\/2<rd)/\v=.int rd:=by
   match i with
   | 0=>exact⟨0,.inl (by decide),(Option.some.inj hi).symm⟩
   | 1=>exact⟨3,.inr (by decide),(Option.some.inj hi).symm⟩
   | 2=>exact⟨-1,.inl (by decide),(Option.some.inj hi).symm⟩
   | n+3=>exact absurd (show(none:Option V)=some v from hi) (fun h=>nomatch h)
  have ask:∀{X:Hp}{q:Str},A4 G2 X->q.length≤1000->Low q->∀{F:VK},(∀(u:V) (H':Hp),A4 X H'->Tell H' (refD "UnknownReader") u->F u H')->y1G Sh Bk [.int 6,.ref x,.ref y,.int rd,.str q] X F (fun _ _ _=>False):=fun {X q} gx lq lw {F} f=>⟨6,x,y,fs,nm,r,_,had,fq,nm,r,2,rws,log,rd,q,1,rfl,OS.same sh2 (t9.trans gx),O.same bk2 (t9.trans gx),lq,lw,.inr (.inr ⟨rfl,hrd,rfl⟩),f⟩
  refine⟨_,rfl,_,rfl,_,rfl,_,rfl,ask g3 n16 lows fun u G4 t4 tu=>⟨(by show 2≤sizeLine;decide),fun tt htt=>?_⟩⟩
  refine⟨u,.ref tt,rfl,(z32 _ _ _ (Tell.keep (z02 htt _) _ _ tu) (z0w (ds:=[.str "refused",.str "UnknownReader"]) z04 (by show 2≤1000000;decide) (.cons (z14 _) (.cons (z14 _) .nil)))).mono (cL (z8z _) (by decide)),fun G5 t5=>⟨_,rfl,E7 ?_⟩⟩
  have g5:=g3.trans (t4.trans ((z02 htt (.tup [V.str "refused",V.str "UnknownReader"])).trans t5))
  refine⟨_,rfl,_,rfl,_,rfl,_,rfl,ask g5 (by omega) lz fun u2 G6 t6 tu6=>⟨(by show 2≤sizeLine;decide),fun t2 ht2=>?_⟩⟩
  refine⟨u2,.ref t2,rfl,(z32 _ _ _ (Tell.keep (z02 ht2 _) _ _ tu6) (z0w (ds:=[.str "refused",.str "UnknownReader"]) z04 (by show 2≤1000000;decide) (.cons (z14 _) (.cons (z14 _) .nil)))).mono (cL (z8z _) (by decide)),fun G7 t7=>⟨_,rfl,E7 ?_⟩⟩
  exact⟨_,g5.trans (t6.trans ((z02 ht2 _).trans t7)),rfl⟩
 rintro σ G' ⟨o11,g3,rfl⟩
 have gA:=t9.trans g3
 have sh3:=OS.same sh2 gA
 have eN8:=gA _ _ eN7
 have eR8:=gA _ _ eR7
 have eH8:=gA _ _ eH7
 have tl8:=z0c.keep gA _ _ tl7
 clear sh2 bk2 eN7 eR7 eH7 tl7
 have eh:z0m had=hs:=z2m (z2g _) rise3 fun n=>by
  rw[z1j,memh,mem4]
  refine⟨fun h=>h.2,fun h=>⟨?_,h⟩⟩
  have:=all3 n h
  omega
 obtain⟨d4,g4,z4,w4⟩:=OS.ins sh3
 refine⟨_,rfl,x,d4,g4,rfl,z4,w4 _ (by simp),x,fs,nm,r,_,had,rfl,sh3,fun t1 H8 s8 e8=>?_⟩
 rw[eh] at e8
 refine⟨_,rfl,lh,_,rfl,.inl ⟨SqL.of (s8 _ _ eH8),fun t2 ht2=>?_⟩⟩
 have lh1:(hs.map DV.int).length≤1000000:=by rw[b9];omega
 refine⟨.ref t1,.ref t2,rfl,(z32 (.tup (hs.map DV.int)) _ _ (z0w (z02 ht2 _ _ _ e8) lh1 (z6I hs)) (z0w z04 lh1 (z6I hs))).mono (cL (z7y (n:=0) fun d hd=>?_) (by decide)),fun H9 s9=>⟨_,rfl,E7 ?_⟩⟩
 ·obtain⟨i,_,rfl⟩:=cG.mp hd
  exact z9U _ _
 have s89:=s8.trans ((z02 ht2 (.tup (hs.map V.int))).trans s9)
 refine⟨_,rfl,x,fs,nm,r,rows,had,rfl,OS.same sh3 s89,gn,R,r60,fun n hn=>w03 n ((memh n).mp hn),r0,by omega,fun v1 G1 s1' t1'=>?_⟩
 rw[eh] at t1'
 have sE:=s89.trans s1'
 refine⟨_,rfl,_,rfl,_,rfl,_,rfl,ln,lh,lr,nm,hs,us,rows,r,rfl,SqL.of (sE _ _ eN8),n12,sE _ _ eH8,by omega,rise3.imp (fun h=>by omega),fun n hn=>⟨(all3 n hn).1,by have:=all3 n hn;omega⟩,fun n hn=>by have:=all3 n hn;omega,SqL.of (sE _ _ eR8),z0c.keep sE _ _ tl8,y6E R n12,r0,fun v2 G2 s2' t2'=>?_⟩
 exact⟨v1,v2,rfl,(z32 _ _ _ (Tell.keep s2' _ _ t1') t2').mono (cL (y32 _ _ _ _) (by decide)),fun H' _=>q H'⟩
end
theorem y7J{l:PySem.W.OpenLaw}{w:World}{K:PySem.W.Frag}{h:Heap}{mg:Str->Option Value}{fa:Addr}(X:K.In h)(G:h.Ns mainGlobals mg)(hfa:mg "law"=some (.ref fa))
  {f0 f1 f2 f3 f4 f5 f6 f7 f8 f9 f10 f11 f12 f13 f14 f15 f16 f17 f18 f19 f20 f21 f22 f23 f24 f25 f26 f27 f28 f29 f30 f31 f32 f33 f34 f35 f36 f37 f38 f39 f40 f41 f42 f43 f44 f45 f46 f47 f48 f49 f50 f51 f52 f53 f54 f55 f56 f57 f58 f59 f60 f61 f62 f63 f64 f65 f66 f67 f68 f69 f70 f71 f72 f73 f74 f75 A0 A1 A2 CBackError CBadNames CBadReach CBadReaders COfficeFull CUnknownName CNameTwice CBadValue CNotWritten CUnknownReader CBookFull CNoSuchDeed CTooManyCourses T48 T51:Addr}{W7 V6 U1 W5 U2 V8 w17 w0z w1g w0D Y9:Tok}
  (cOffice:DfC K "Office" A0)
  (cShelf:DfC K "Shelf" A1)
  (cBook:DfC K "Book" A2)
  (nOffice_names:PySem.W.findIn K (.ref A0) "names"=some none)
  (nOffice_reach:PySem.W.findIn K (.ref A0) "reach"=some none)
  (nOffice_written:PySem.W.findIn K (.ref A0) "written"=some none)
  (nShelf_names:PySem.W.findIn K (.ref A1) "names"=some none)
  (nShelf_reach:PySem.W.findIn K (.ref A1) "reach"=some none)
  (nShelf_issues:PySem.W.findIn K (.ref A1) "issues"=some none)
  (nBook_office:PySem.W.findIn K (.ref A2) "office"=some none)
  (nBook_readers:PySem.W.findIn K (.ref A2) "readers"=some none)
  (nBook_done:PySem.W.findIn K (.ref A2) "done"=some none)
  (a0:DfT K "lacking_numbers" z2T .none f0)
  (a1:DfT K "reached_by" z5M .none f1)
  (a2:DfT K "teller_of" z6V .none f2)
  (a3:DfT K "lacking_with_tellers" z1K .none f3)
  (a4:DfT K "dark_numbers" z48 .none f4)
  (a5:DfT K "dark_numbers_behind" z1X .none f5)
  (a6:DfT K "refuse_bad_names" z2x .none f6)
  (a7:DfT K "refuse_bad_reach" z2B .none f7)
  (a8:DfT K "bulletin_names" z37 .none f8)
  (a9:DfT K "refuse_unknown_name" z1o .none f9)
  (a10:DfT K "held_for" z6a .none f10)
  (a11:DfT K "names_told_of" z3D .none f11)
  (a12:DfT K "gaps_of" z9E .none f12)
  (a13:DfT K "set_again" z4S .none f13)
  (a14:DfT K "state_of" z6s .none f14)
  (a15:DfT K "state_and_held" z2n .none f15)
  (a16:DfT K "knowledge" z6G .none f16)
  (a17:DfT K "tail_for" z8h .none f17)
  (a18:DfT K "refuse_bad_value" z1R .none f18)
  (a19:DfT K "refuse_bad_rows" z29 .none f19)
  (a20:DfT K "rows_in_order" z3t .none f20)
  (a21:DfT K "names_of_rows" z3p .none f21)
  (a22:DfM K A0 "__init__" "Office.__init__" z2R .none f22)
  (a23:DfM K A0 "refuse_writing" "Office.refuse_writing" z19 .none f23)
  (a24:DfM K A0 "write" "Office.write" z30 .none f24)
  (a25:DfM K A0 "latest" "Office.latest" z3z .none f25)
  (a26:DfM K A0 "issue" "Office.issue" z2W .none f26)
  (a27:DfT K "known_sets" z5v .none f27)
  (a28:DfT K "two_to_the" z5F .none f28)
  (a29:DfT K "course_count" z3S .none f29)
  (a30:DfT K "again_count" z4H .none f30)
  (a31:DfT K "two_courses" z4q .none f31)
  (a32:DfM K A1 "__init__" "Shelf.__init__" z39 .none f32)
  (a33:DfM K A1 "put" "Shelf.put" z6A .none f33)
  (a34:DfM K A1 "had" "Shelf.had" z6Q .none f34)
  (a35:DfM K A1 "latest" "Shelf.latest" z4d .none f35)
  (a36:DfM K A1 "rows_of" "Shelf.rows_of" z3A .none f36)
  (a37:DfM K A1 "tail_of" "Shelf.tail_of" z3E .none f37)
  (a38:DfT K "refuse_bad_readers" z2e .none f38)
  (a39:DfM K A2 "__init__" "Book.__init__" z3r .none f39)
  (a40:DfM K A2 "refuse_unknown_reader" "Book.refuse_unknown_reader" z0Q .none f40)
  (a41:DfM K A2 "refuse_further_deed" "Book.refuse_further_deed" z0Y .none f41)
  (a42:DfM K A2 "write" "Book.write" z4f .none f42)
  (a43:DfM K A2 "deliver" "Book.deliver" z2X .none f43)
  (a44:DfM K A2 "latest" "Book.latest" z4M .none f44)
  (a45:DfM K A2 "issue" "Book.issue" z4a .none f45)
  (a46:DfM K A2 "deeds" "Book.deeds" z5s .none f46)
  (a47:DfM K A2 "deed" "Book.deed" z4R .none f47)
  (a48:DfM K A2 "shelf" "Book.shelf" z47 (.ref T48) f48)
  (a49:DfT K "history" z9l .none f49)
  (a50:DfT K "fewest_numbers" z3d .none f50)
  (a51:DfT K "send_for" z8a (.ref T51) f51)
  (a52:DfT K "_law_at" z9t .none f52)
  (a53:DfT K "_law_pick" z6y .none f53)
  (a54:DfT K "_law_row" z7Z .none f54)
  (a55:DfT K "_law_same" z4W .none f55)
  (a56:DfT K "_law_named" z5y .none f56)
  (a57:DfT K "_law_strange" z4b .none f57)
  (a58:DfT K "_law_doubled" z3U .none f58)
  (a59:DfT K "_law_sets" z6L .none f59)
  (a60:DfT K "_law_value" z5k .none f60)
  (a61:DfT K "_law_valued" z4p .none f61)
  (a62:DfT K "_law_had" z8m .none f62)
  (a63:DfT K "_law_shuffled" z3o .none f63)
  (a64:DfT K "_law_issue" z5N .none f64)
  (a65:DfT K "_law_teller" z4B .none f65)
  (a66:DfT K "_law_gaps" z6U .none f66)
  (a67:DfT K "_law_held" z6w .none f67)
  (a68:DfT K "_law_again" z5l .none f68)
  (a69:DfT K "_law_state" z5B .none f69)
  (a70:DfT K "_law_table" z5H .none f70)
  (a71:DfT K "_law_numbers" z3R .none f71)
  (a72:DfT K "_law_names" z5z .none f72)
  (a73:DfT K "_law_filled" z4w .none f73)
  (a74:DfT K "_law_asked" z5r .none f74)
  (a75:DfT K "law" slaw .none f75)
  (d48:DfD K T48 #[Value.none])
  (d51:DfD K T51 #[Value.none])
  (xBackError:PySem.W.nsIn K mainGlobals "BackError"=some (some (.ref CBackError)))
  (xBadNames:PySem.W.nsIn K mainGlobals "BadNames"=some (some (.ref CBadNames)))
  (xBadReach:PySem.W.nsIn K mainGlobals "BadReach"=some (some (.ref CBadReach)))
  (xBadReaders:PySem.W.nsIn K mainGlobals "BadReaders"=some (some (.ref CBadReaders)))
  (xOfficeFull:PySem.W.nsIn K mainGlobals "OfficeFull"=some (some (.ref COfficeFull)))
  (xUnknownName:PySem.W.nsIn K mainGlobals "UnknownName"=some (some (.ref CUnknownName)))
  (xNameTwice:PySem.W.nsIn K mainGlobals "NameTwice"=some (some (.ref CNameTwice)))
  (xBadValue:PySem.W.nsIn K mainGlobals "BadValue"=some (some (.ref CBadValue)))
  (xNotWritten:PySem.W.nsIn K mainGlobals "NotWritten"=some (some (.ref CNotWritten)))
  (xUnknownReader:PySem.W.nsIn K mainGlobals "UnknownReader"=some (some (.ref CUnknownReader)))
  (xBookFull:PySem.W.nsIn K mainGlobals "BookFull"=some (some (.ref CBookFull)))
  (xNoSuchDeed:PySem.W.nsIn K mainGlobals "NoSuchDeed"=some (some (.ref CNoSuchDeed)))
  (xTooManyCourses:PySem.W.nsIn K mainGlobals "TooManyCourses"=some (some (.ref CTooManyCourses)))
  (xb:PySem.W.excIn K CBackError veL "ValueError.__new__"=true) (xc:y0H K CBackError [CBadNames,CBadReach,CBadReaders,COfficeFull,CUnknownName,CNameTwice,CBadValue,CNotWritten,CUnknownReader,CBookFull,CNoSuchDeed,CTooManyCourses]=true)
  (zlen:PySem.W.nsIn K mainGlobals "len"=some none) (zrange:PySem.W.nsIn K mainGlobals "range"=some none) (ztuple:PySem.W.nsIn K mainGlobals "tuple"=some none) (zlist:PySem.W.nsIn K mainGlobals "list"=some none) (zmax:PySem.W.nsIn K mainGlobals "max"=some none) (zmin:PySem.W.nsIn K mainGlobals "min"=some none) (zsorted:PySem.W.nsIn K mainGlobals "sorted"=some none) (zisinstance:PySem.W.nsIn K mainGlobals "isinstance"=some none) (zbool:PySem.W.nsIn K mainGlobals "bool"=some none) (zint:PySem.W.nsIn K mainGlobals "int"=some none) (zstr:PySem.W.nsIn K mainGlobals "str"=some none) (zset:PySem.W.nsIn K mainGlobals "set"=some none) (zreversed:PySem.W.nsIn K mainGlobals "reversed"=some none) (zdict:PySem.W.nsIn K mainGlobals "dict"=some none) (zzip:PySem.W.nsIn K mainGlobals "zip"=some none) (zall:PySem.W.nsIn K mainGlobals "all"=some none) (zValueError:PySem.W.nsIn K mainGlobals "ValueError"=some none) (vMOST_NAMES:PySem.W.nsIn K mainGlobals "MOST_NAMES"=some (some (.int 12 W7))) (vMOST_REACH:PySem.W.nsIn K mainGlobals "MOST_REACH"=some (some (.int 10 V6))) (vMOST_NUMBERS:PySem.W.nsIn K mainGlobals "MOST_NUMBERS"=some (some (.int 60 U1))) (vMOST_VALUE:PySem.W.nsIn K mainGlobals "MOST_VALUE"=some (some (.int 1000000 W5))) (vMOST_READERS:PySem.W.nsIn K mainGlobals "MOST_READERS"=some (some (.int 10 U2))) (vMOST_DEEDS:PySem.W.nsIn K mainGlobals "MOST_DEEDS"=some (some (.int 400 V8))) (vSURE:PySem.W.nsIn K mainGlobals "SURE"=some (some (.str "sure" w17))) (vSTALE:PySem.W.nsIn K mainGlobals "STALE"=some (some (.str "stale" w0z))) (vOPEN:PySem.W.nsIn K mainGlobals "OPEN"=some (some (.str "open" w1g))) (vWRITE:PySem.W.nsIn K mainGlobals "WRITE"=some (some (.str "write" w0D))) (vDELIVER:PySem.W.nsIn K mainGlobals "DELIVER"=some (some (.str "deliver" Y9))) :
  ∃fd:FuncData,(∀(s:Shared) (v:Value),BindsTo s fd ⟨[v],[]⟩ [("_law_script",v)])/\∀base:Heap,K.In base->base.Ns mainGlobals mg->A8 l.prog w K mg base CX0 14 fa fd ["_law_script"] (y5J K):=by
 have M:Bl mg:=⟨cN X G zlen,cN X G zrange,cN X G ztuple,cN X G zlist,cN X G zmax,cN X G zmin,cN X G zsorted,cN X G zisinstance,cN X G zbool,cN X G zint,cN X G zstr,cN X G zset,cN X G zreversed,cN X G zdict,cN X G zzip,cN X G zall,cN X G zValueError,⟨_,cF X G vMOST_NAMES⟩,⟨_,cF X G vMOST_REACH⟩,⟨_,cF X G vMOST_NUMBERS⟩,⟨_,cF X G vMOST_VALUE⟩,⟨_,cF X G vMOST_READERS⟩,⟨_,cF X G vMOST_DEEDS⟩,⟨_,cF X G vSURE⟩,⟨_,cF X G vSTALE⟩,⟨_,cF X G vOPEN⟩,⟨_,cF X G vWRITE⟩,⟨_,cF X G vDELIVER⟩⟩
 have D3:TxOffice K mg A0:=⟨cOffice.cls,cOffice.nm X G,nOffice_names,nOffice_reach,nOffice_written⟩
 have D2:TxShelf K mg A1:=⟨cShelf.cls,cShelf.nm X G,nShelf_names,nShelf_reach,nShelf_issues⟩
 have C6:TxBook K mg A2:=⟨cBook.cls,cBook.nm X G,nBook_office,nBook_readers,nBook_done⟩
 obtain⟨_,Flacking_numbers⟩:=z0F X G a0
 obtain⟨_,Freached_by⟩:=z0F X G a1
 obtain⟨_,Fteller_of⟩:=z0F X G a2
 obtain⟨_,Flacking_with_tellers⟩:=z0F X G a3
 obtain⟨_,Fdark_numbers⟩:=z0F X G a4
 obtain⟨_,Fdark_numbers_behind⟩:=z0F X G a5
 obtain⟨_,Frefuse_bad_names⟩:=z0F X G a6
 obtain⟨_,Frefuse_bad_reach⟩:=z0F X G a7
 obtain⟨_,Fbulletin_names⟩:=z0F X G a8
 obtain⟨_,Frefuse_unknown_name⟩:=z0F X G a9
 obtain⟨_,Fheld_for⟩:=z0F X G a10
 obtain⟨_,Fnames_told_of⟩:=z0F X G a11
 obtain⟨_,Fgaps_of⟩:=z0F X G a12
 obtain⟨_,Fset_again⟩:=z0F X G a13
 obtain⟨_,Fstate_of⟩:=z0F X G a14
 obtain⟨_,Fstate_and_held⟩:=z0F X G a15
 obtain⟨_,Fknowledge⟩:=z0F X G a16
 obtain⟨_,Ftail_for⟩:=z0F X G a17
 obtain⟨_,Frefuse_bad_value⟩:=z0F X G a18
 obtain⟨_,Frefuse_bad_rows⟩:=z0F X G a19
 obtain⟨_,Frows_in_order⟩:=z0F X G a20
 obtain⟨_,Fnames_of_rows⟩:=z0F X G a21
 obtain⟨_,FOffice___init__⟩:=y1s cOffice a22
 obtain⟨_,FOffice_refuse_writing⟩:=z1J a23
 obtain⟨_,FOffice_write⟩:=z1J a24
 obtain⟨_,FOffice_latest⟩:=z1J a25
 obtain⟨_,FOffice_issue⟩:=z1J a26
 obtain⟨_,Fknown_sets⟩:=z0F X G a27
 obtain⟨_,Ftwo_to_the⟩:=z0F X G a28
 obtain⟨_,Fcourse_count⟩:=z0F X G a29
 obtain⟨_,Fagain_count⟩:=z0F X G a30
 obtain⟨_,Ftwo_courses⟩:=z0F X G a31
 obtain⟨_,FShelf___init__⟩:=y1s cShelf a32
 obtain⟨_,FShelf_put⟩:=z1J a33
 obtain⟨_,FShelf_had⟩:=z1J a34
 obtain⟨_,FShelf_latest⟩:=z1J a35
 obtain⟨_,FShelf_rows_of⟩:=z1J a36
 obtain⟨_,FShelf_tail_of⟩:=z1J a37
 obtain⟨_,Frefuse_bad_readers⟩:=z0F X G a38
 obtain⟨_,FBook___init__⟩:=y1s cBook a39
 obtain⟨_,FBook_refuse_unknown_reader⟩:=z1J a40
 obtain⟨_,FBook_refuse_further_deed⟩:=z1J a41
 obtain⟨_,FBook_write⟩:=z1J a42
 obtain⟨_,FBook_deliver⟩:=z1J a43
 obtain⟨_,FBook_latest⟩:=z1J a44
 obtain⟨_,FBook_issue⟩:=z1J a45
 obtain⟨_,FBook_deeds⟩:=z1J a46
 obtain⟨_,FBook_deed⟩:=z1J a47
 obtain⟨_,FBook_shelf⟩:=y5c a48 d48
 have S7:=FBook_shelf.1.binds (ps:=["self","reader","deed"]) (ds:=[]) fun _ _ _ _ _ _ us hl=>Y8 (p:=fun us=>∃k,bindArgs _ ⟨us,[]⟩=seqItems? _ >>= k/\k (some _)=pure (List.zip _ (us++[]))) hl fun _ _ _=>⟨_,rfl,rfl⟩
 have U7:=FBook_shelf.1.binds (ps:=["self","reader","deed"]) (ds:=[Value.none]) fun _ _ _ _ _ _ us hl=>w0b (p:=fun us=>∃k,bindArgs _ ⟨us,[]⟩=seqItems? _ >>= k/\k (some _)=pure (List.zip _ (us++[Value.none]))) (Nat.succ.inj (hl)) fun _ _=>⟨_,rfl,rfl⟩
 obtain⟨_,Fhistory⟩:=z0F X G a49
 obtain⟨_,Ffewest_numbers⟩:=z0F X G a50
 obtain⟨_,Fsend_for⟩:=y70 X G a51 d51
 have Y0:=Fsend_for.1.binds (ps:=["shelf","name"]) (ds:=[]) fun _ _ _ _ _ _ us hl=>w0b (p:=fun us=>∃k,bindArgs _ ⟨us,[]⟩=seqItems? _ >>= k/\k (some _)=pure (List.zip _ (us++[]))) hl fun _ _=>⟨_,rfl,rfl⟩
 have w0y:=Fsend_for.1.binds (ps:=["shelf","name"]) (ds:=[Value.none]) fun _ _ _ _ _ _ us hl=>T1 (p:=fun us=>∃k,bindArgs _ ⟨us,[]⟩=seqItems? _ >>= k/\k (some _)=pure (List.zip _ (us++[Value.none]))) (Nat.succ.inj (hl)) fun _=>⟨_,rfl,rfl⟩
 obtain⟨_,F_law_at⟩:=z0F X G a52
 obtain⟨_,F_law_pick⟩:=z0F X G a53
 obtain⟨_,F_law_row⟩:=z0F X G a54
 obtain⟨_,F_law_same⟩:=z0F X G a55
 obtain⟨_,F_law_named⟩:=z0F X G a56
 obtain⟨_,F_law_strange⟩:=z0F X G a57
 obtain⟨_,F_law_doubled⟩:=z0F X G a58
 obtain⟨_,F_law_sets⟩:=z0F X G a59
 obtain⟨_,F_law_value⟩:=z0F X G a60
 obtain⟨_,F_law_valued⟩:=z0F X G a61
 obtain⟨_,F_law_had⟩:=z0F X G a62
 obtain⟨_,F_law_shuffled⟩:=z0F X G a63
 obtain⟨_,F_law_issue⟩:=z0F X G a64
 obtain⟨_,F_law_teller⟩:=z0F X G a65
 obtain⟨_,F_law_gaps⟩:=z0F X G a66
 obtain⟨_,F_law_held⟩:=z0F X G a67
 obtain⟨_,F_law_again⟩:=z0F X G a68
 obtain⟨_,F_law_state⟩:=z0F X G a69
 obtain⟨_,F_law_table⟩:=z0F X G a70
 obtain⟨_,F_law_numbers⟩:=z0F X G a71
 obtain⟨_,F_law_names⟩:=z0F X G a72
 obtain⟨_,F_law_filled⟩:=z0F X G a73
 obtain⟨_,F_law_asked⟩:=z0F X G a74
 obtain⟨_,Flaw⟩:=z0F X G a75
 have ers:V5 K CBackError [CBadNames,CBadReach,CBadReaders,COfficeFull,CUnknownName,CNameTwice,CBadValue,CNotWritten,CUnknownReader,CBookFull,CNoSuchDeed,CTooManyCourses]:=⟨xc⟩
 have Q9:Err K mg "BackError" CBackError:=⟨cF X G xBackError,xb⟩
 have S1:Err K mg "BadNames" CBadNames:=⟨cF X G xBadNames,(ers.one (by simp)).1.ex⟩
 have U5:Err K mg "BadReach" CBadReach:=⟨cF X G xBadReach,(ers.one (by simp)).1.ex⟩
 have O7:Err K mg "BadReaders" CBadReaders:=⟨cF X G xBadReaders,(ers.one (by simp)).1.ex⟩
 have J4:Err K mg "OfficeFull" COfficeFull:=⟨cF X G xOfficeFull,(ers.one (by simp)).1.ex⟩
 have F0:Err K mg "UnknownName" CUnknownName:=⟨cF X G xUnknownName,(ers.one (by simp)).1.ex⟩
 have L6:Err K mg "NameTwice" CNameTwice:=⟨cF X G xNameTwice,(ers.one (by simp)).1.ex⟩
 have N1:Err K mg "BadValue" CBadValue:=⟨cF X G xBadValue,(ers.one (by simp)).1.ex⟩
 have F7:Err K mg "NotWritten" CNotWritten:=⟨cF X G xNotWritten,(ers.one (by simp)).1.ex⟩
 have E3:Err K mg "UnknownReader" CUnknownReader:=⟨cF X G xUnknownReader,(ers.one (by simp)).1.ex⟩
 have N2:Err K mg "BookFull" CBookFull:=⟨cF X G xBookFull,(ers.one (by simp)).1.ex⟩
 have D9:Err K mg "NoSuchDeed" CNoSuchDeed:=⟨cF X G xNoSuchDeed,(ers.one (by simp)).1.ex⟩
 have K0:Err K mg "TooManyCourses" CTooManyCourses:=⟨cF X G xTooManyCourses,(ers.one (by simp)).1.ex⟩
 have e:=hfa.symm.trans Flaw.2
 cases e
 refine⟨_,y37 Flaw.1,fun base _ _=>?_⟩
 have w0u:=y1T (P:=l.prog) (w:=w) (base:=base) M F_law_same.1 (b2 F_law_same.1) F_law_same.2
 have cal:=@calF l.prog w K mg base
 have mcl:=@mclF l.prog w K mg base
 have mkr:=@mkrF l.prog w K mg base
 have U3:=@w0W l.prog w K mg base
 have V0:=@w11 l.prog w K mg base
 have mkrX:=@w0S l.prog w K mg base
 have C9:=cal F_law_at (ok_at M F_law_at.1) (b2 F_law_at.1)
 have E6:=cal F_law_pick (y6J F_law_pick.1) (b2 F_law_pick.1)
 have D0:=cal F_law_row (y81 M F_law_row.1) (b3 F_law_row.1)
 have N3:=cal F_law_teller (y2U M F_law_teller.1) (b3 F_law_teller.1)
 have O8:=cal F_law_named (y5d M F_law_named.1) (b2 F_law_named.1)
 have M8:=cal F_law_doubled (y2r M F_law_doubled.1) (b1 F_law_doubled.1)
 have P1:=cal F_law_value (y5S F_law_value.1) (b2 F_law_value.1)
 have O3:=cal F_law_issue (y68 M F_law_issue.1) (b3 F_law_issue.1)
 have G3:=cal Frefuse_bad_names (y1I M Frefuse_bad_names.1) (b1 Frefuse_bad_names.1)
 have G9:=cal Frefuse_bad_reach (y1i M Frefuse_bad_reach.1) (b1 Frefuse_bad_reach.1)
 have D7:=mcl D2.cl FShelf_put (y7Q (A1:=A1) M D2 FShelf_put.1) (b2 FShelf_put.1)
 have A7:=mcl D2.cl FShelf_had (y5W (A1:=A1) M D2 FShelf_had.1) (b1 FShelf_had.1)
 have Q3:=cal F_law_held (y57 M F_law_held.1) (b3 F_law_held.1)
 have O6:=cal F_law_again (y5p M F_law_again.1) (b3 F_law_again.1)
 have O5:=cal Freached_by (y2x M Freached_by.1) (b2 Freached_by.1)
 have B3:=cal Frefuse_unknown_name (y6q M Frefuse_unknown_name.1) (b2 Frefuse_unknown_name.1)
 have D1:=cal Frefuse_bad_value (y0a M Frefuse_bad_value.1) (b1 Frefuse_bad_value.1)
 have D5:=cal Frows_in_order (y2G M Frows_in_order.1) (b2 Frows_in_order.1)
 have C2:=cal Fnames_of_rows (y5r M Fnames_of_rows.1) (b1 Fnames_of_rows.1)
 have K8:=mcl D3.cl FOffice_latest (y11 (A0:=A0) M D3 FOffice_latest.1) (b1 FOffice_latest.1)
 have B1:=mcl D3.cl FOffice_issue (z8Q (A0:=A0) M D3 FOffice_issue.1) (b2 FOffice_issue.1)
 have F2:=cal Frefuse_bad_readers (z9N M Frefuse_bad_readers.1) (b1 Frefuse_bad_readers.1)
 have A5:=mcl C6.cl FBook_refuse_unknown_reader (z6Z (A2:=A2) (A0:=A0) M C6 FBook_refuse_unknown_reader.1) (b2 FBook_refuse_unknown_reader.1)
 have A6:=mcl C6.cl FBook_refuse_further_deed (z8M (A2:=A2) (A0:=A0) M C6 FBook_refuse_further_deed.1) (b1 FBook_refuse_further_deed.1)
 have P2:=mcl C6.cl FBook_deeds (y2t (A2:=A2) (A0:=A0) M C6 FBook_deeds.1) (b1 FBook_deeds.1)
 have w0r:=mcl C6.cl FBook_deed (y07 (A2:=A2) (A0:=A0) M C6 FBook_deed.1) (b2 FBook_deed.1)
 have J1:=cal Flacking_numbers (y78 M Flacking_numbers.1) (b1 Flacking_numbers.1)
 have Q7:=cal Fteller_of (y4u M Fteller_of.1) (b3 Fteller_of.1)
 have K7:=mcl D2.cl FShelf_tail_of (y4F (A1:=A1) M D2 FShelf_tail_of.1) (b2 FShelf_tail_of.1)
 have C4:=mcl D2.cl FShelf_rows_of (y4G (A1:=A1) M D2 FShelf_rows_of.1) (b2 FShelf_rows_of.1)
 have C1:=U3 Frefuse_unknown_name (y7b (CUnknownName:=CUnknownName) M Frefuse_unknown_name.1 F0) (b2 Frefuse_unknown_name.1)
 have F3:=U3 Frefuse_bad_value (y2z (CBadValue:=CBadValue) M Frefuse_bad_value.1 N1) (b1 Frefuse_bad_value.1)
 have E4:=V0 D3.cl FOffice_issue (y1e (A0:=A0) (CNotWritten:=CNotWritten) M D3 FOffice_issue.1 F7) (b2 FOffice_issue.1)
 have B2:=V0 C6.cl FBook_refuse_unknown_reader (z9D (A2:=A2) (A0:=A0) (CUnknownReader:=CUnknownReader) M C6 FBook_refuse_unknown_reader.1 E3) (b2 FBook_refuse_unknown_reader.1)
 have B5:=V0 C6.cl FBook_refuse_further_deed (y1C (A2:=A2) (A0:=A0) (CBookFull:=CBookFull) M C6 FBook_refuse_further_deed.1 N2) (b1 FBook_refuse_further_deed.1)
 have w0l:=V0 C6.cl FBook_deed (y2F (A2:=A2) (A0:=A0) (CNoSuchDeed:=CNoSuchDeed) M C6 FBook_deed.1 D9) (b2 FBook_deed.1)
 have F5:=cal Ftwo_to_the (y88 M Ftwo_to_the.1) (b1 Ftwo_to_the.1)
 have M4:=cal F_law_strange (y2R M F_law_strange.1) (b2 F_law_strange.1)
 have S2:=cal F_law_had (y8g M F_law_had.1 D0.up) (b2 F_law_had.1)
 have R0:=cal F_law_sets (y7e M F_law_sets.1 D0.up M8.up) (b3 F_law_sets.1)
 have N4:=cal F_law_valued (y3y M F_law_valued.1 D0.up P1.up) (b2 F_law_valued.1)
 have P5:=cal F_law_names (y5R F_law_names.1 C9.up E6.up O8.up) (b1 F_law_names.1)
 have D8:=cal Fbulletin_names (y1p M Fbulletin_names.1 G3.up G9.up) (b2 Fbulletin_names.1)
 have Z9:=mcl D2.cl FShelf_latest (y4w (A1:=A1) M D2 FShelf_latest.1 A7.up) (b1 FShelf_latest.1)
 have Q6:=cal F_law_gaps (y7d M F_law_gaps.1 N3.up) (b3 F_law_gaps.1)
 have O0:=cal F_law_state (y3s M F_law_state.1 O6.up) (b3 F_law_state.1)
 have J0:=cal Ftail_for (y7a M Ftail_for.1 O5.up) (b2 Ftail_for.1)
 have D4:=cal Frefuse_bad_rows (z8O M Frefuse_bad_rows.1 B3.up D1.up) (b2 Frefuse_bad_rows.1)
 have M1:=mcl C6.cl FBook_deliver (z73 (A2:=A2) (A0:=A0) M C6 FBook_deliver.1 B1.up A5.up A6.up) (b3 FBook_deliver.1)
 have w00:=mcl C6.cl FBook_latest (y1j (A2:=A2) (A0:=A0) M C6 FBook_latest.1 K8.up) (b1 FBook_latest.1)
 have w0m:=mcl C6.cl FBook_issue (z8P (A2:=A2) (A0:=A0) M C6 FBook_issue.1 B1.up) (b2 FBook_issue.1)
 have B9:=cal Flacking_with_tellers (y7I M Flacking_with_tellers.1 J1.up Q7.up) (b2 Flacking_with_tellers.1)
 have L7:=cal Fnames_told_of (y6Z (A1:=A1) M D2 Fnames_told_of.1 K7.up) (b3 Fnames_told_of.1)
 have B6:=cal Fheld_for (y2D (A1:=A1) M D2 Fheld_for.1 B3.up A7.up C4.up) (b2 Fheld_for.1)
 have F8:=U3 Frefuse_bad_rows (y1h (CUnknownName:=CUnknownName) (CNameTwice:=CNameTwice) (CBadValue:=CBadValue) M Frefuse_bad_rows.1 L6 B3.up D1.up C1.up F3.up) (b2 Frefuse_bad_rows.1)
 have J3:=U3 Fheld_for (y0Y (A1:=A1) (CUnknownName:=CUnknownName) M D2 Fheld_for.1 C1.up A7.up C4.up) (b2 Fheld_for.1)
 have Y6:=V0 C6.cl FBook_deliver (z9O (A2:=A2) (A0:=A0) (CNotWritten:=CNotWritten) (CUnknownReader:=CUnknownReader) (CBookFull:=CBookFull) M C6 FBook_deliver.1 B1.up A5.up A6.up E4.up B2.up B5.up) (b3 FBook_deliver.1)
 have w08:=V0 C6.cl FBook_issue (y14 (A2:=A2) (A0:=A0) (CNotWritten:=CNotWritten) M C6 FBook_issue.1 B1.up E4.up) (b2 FBook_issue.1)
 have L5:=cal F_law_shuffled (y6T M F_law_shuffled.1 D0.up) (b2 F_law_shuffled.1)
 have L4:=mkr D2.mgC FShelf___init__ (y4M (A1:=A1) M D2 FShelf___init__.1 D8.up) (b3 FShelf___init__.1)
 have O4:=cal F_law_table (y5j M F_law_table.1 Q6.up Q3.up O0.up) (b4 F_law_table.1)
 have U8:=mkr D3.mgC FOffice___init__ (y3S (A0:=A0) M D3 FOffice___init__.1 D8.up) (b3 FOffice___init__.1)
 have A9:=mcl D3.cl FOffice_refuse_writing (z8K (A0:=A0) M D3 FOffice_refuse_writing.1 D4.up) (b2 FOffice_refuse_writing.1)
 have C8:=cal Fdark_numbers (y7o M Fdark_numbers.1 B9.up) (b2 Fdark_numbers.1)
 have G8:=cal Fgaps_of (y3J (A1:=A1) M D2 Fgaps_of.1 A7.up B9.up L7.up) (b1 Fgaps_of.1)
 have B7:=V0 D3.cl FOffice_refuse_writing (y1M (A0:=A0) (COfficeFull:=COfficeFull) (CUnknownName:=CUnknownName) (CNameTwice:=CNameTwice) (CBadValue:=CBadValue) M D3 FOffice_refuse_writing.1 J4 D4.up F8.up) (b2 FOffice_refuse_writing.1)
 have M9:=cal F_law_numbers (y34 F_law_numbers.1 C9.up E6.up R0.up N4.up) (b2 F_law_numbers.1)
 have E2:=mcl D3.cl FOffice_write (z8W (A0:=A0) M D3 FOffice_write.1 A9.up C2.up D5.up J0.up) (b2 FOffice_write.1)
 have Y7:=mkr C6.mgC FBook___init__ (y3W (A2:=A2) (A0:=A0) M C6 FBook___init__.1 U8.up F2.up) (b4 FBook___init__.1)
 have w0g:C5 l.prog w K mg base 6 A2 "shelf" z2d (z3I (BkD K A2 A0) (ShD K A1)):=.mk' C6.cl (z6O (A2:=A2) (A0:=A0) (A1:=A1) M C6 D3 FBook_shelf.1 B1.up A5.up L4.up D7.up) S7 FBook_shelf.2
 have w01:Z6 l.prog w K mg base 6 A2 "shelf" z2d (z3I (BkD K A2 A0) (ShD K A1)) [V.non]:=.mk' (.cons rfl .nil) C6.cl (z6O (A2:=A2) (A0:=A0) (A1:=A1) M C6 D3 FBook_shelf.1 B1.up A5.up L4.up D7.up) U7 FBook_shelf.2
 have B0:=cal Fdark_numbers_behind (y3O M Fdark_numbers_behind.1 C8.up) (b3 Fdark_numbers_behind.1)
 have Q4:=cal Fset_again (y1F (A1:=A1) M D2 Fset_again.1 B6.up G8.up) (b2 Fset_again.1)
 have F6:=U3 Fset_again (y0G (A1:=A1) (CUnknownName:=CUnknownName) M D2 Fset_again.1 J3.up G8.up) (b2 Fset_again.1)
 have Z8:=V0 D3.cl FOffice_write (y18 (A0:=A0) (COfficeFull:=COfficeFull) (CUnknownName:=CUnknownName) (CNameTwice:=CNameTwice) (CBadValue:=CBadValue) M D3 FOffice_write.1 A9.up C2.up D5.up J0.up B7.up) (b2 FOffice_write.1)
 have K3:K2 l.prog w K mg base 6 A2 "shelf" z2d (I0 (z3I (BkD K A2 A0) (ShD K A1)) (z6B (BkD K A2 A0) CNoSuchDeed CUnknownReader)):=⟨C6.cl,_,_,(y1k (A2:=A2) (A0:=A0) (A1:=A1) (CNoSuchDeed:=CNoSuchDeed) (CUnknownReader:=CUnknownReader) M C6 D3 FBook_shelf.1 D9 B1.up A5.up L4.up D7.up B2.up),S7,FBook_shelf.2⟩
 have M6:=cal Fcourse_count (y5v (A1:=A1) M D2 Fcourse_count.1 A7.up C8.up F5.up) (b1 Fcourse_count.1)
 have O2:=cal Fknown_sets (y5A (A1:=A1) M Fknown_sets.1 A7.up C4.up C2.up G8.up) (b1 Fknown_sets.1)
 have N5:=cal F_law_filled (y48 (A1:=A1) (Sh:=(ShD K A1)) M F_law_filled.1 shOk O3.up L4.up D7.up) (b4 F_law_filled.1)
 have N9:=mcl C6.cl FBook_write (z8L (A2:=A2) (A0:=A0) M C6 FBook_write.1 A9.up E2.up A6.up) (b2 FBook_write.1)
 have S0:=cal Fstate_of (y2s (A1:=A1) M D2 Fstate_of.1 B6.up Q4.up A7.up B0.up) (b2 Fstate_of.1)
 have C3:=U3 Fstate_of (y1c (A1:=A1) (CUnknownName:=CUnknownName) M D2 Fstate_of.1 B6.up F6.up A7.up B0.up) (b2 Fstate_of.1)
 have w06:=V0 C6.cl FBook_write (y17 (A2:=A2) (A0:=A0) (COfficeFull:=COfficeFull) (CUnknownName:=CUnknownName) (CNameTwice:=CNameTwice) (CBadValue:=CBadValue) (CBookFull:=CBookFull) M C6 FBook_write.1 A9.up E2.up A6.up B7.up B5.up) (b2 FBook_write.1)
 have K1:=cal Ffewest_numbers (y4s M Ffewest_numbers.1 B0.up) (b3 Ffewest_numbers.1)
 have E8:=cal Fstate_and_held (y0i (A1:=A1) M Fstate_and_held.1 B6.up S0.up) (b2 Fstate_and_held.1)
 have E9:=U3 Fstate_and_held (z9q (A1:=A1) (CUnknownName:=CUnknownName) M Fstate_and_held.1 B6.up C3.up) (b2 Fstate_and_held.1)
 have M7:=U3 Fagain_count (y2I (A1:=A1) (CUnknownName:=CUnknownName) M D2 Fagain_count.1 B6.up C3.up A7.up M6.up F5.up B0.up) (b2 Fagain_count.1)
 have M3:=U3 Ftwo_courses (z8w (A1:=A1) (CUnknownName:=CUnknownName) M D2 Ftwo_courses.1 C3.up O2.up A7.up C8.up) (b2 Ftwo_courses.1)
 have Q1:K4 l.prog w K mg base 6 "send_for" z5W (z1V (ShD K A1) CUnknownName):=⟨_,_,(y1l (A1:=A1) (CUnknownName:=CUnknownName) M D2 Fsend_for.1 B6.up C3.up A7.up K1.up),Y0,Fsend_for.1.kp,Fsend_for.2⟩
 have Q5:=cal Fknowledge (y0V (A1:=A1) M D2 Fknowledge.1 E8.up) (b1 Fknowledge.1)
 have S3:=U3 Fhistory (y1v (A2:=A2) (A0:=A0) (A1:=A1) (CUnknownName:=CUnknownName) (CUnknownReader:=CUnknownReader) (CNoSuchDeed:=CNoSuchDeed) M Fhistory.1 E8.up E9.up K3.up P2.up) (b3 Fhistory.1)
 have J8:=cal F_law_asked (y2v (A0:=A0) (A2:=A2) (A1:=A1) (CBadNames:=CBadNames) (CBadReach:=CBadReach) (CBadReaders:=CBadReaders) (COfficeFull:=COfficeFull) (CUnknownName:=CUnknownName) (CNameTwice:=CNameTwice) (CBadValue:=CBadValue) (CNotWritten:=CNotWritten) (CUnknownReader:=CUnknownReader) (CBookFull:=CBookFull) (CNoSuchDeed:=CNoSuchDeed) (CTooManyCourses:=CTooManyCourses) (CBackError:=CBackError) M F_law_asked.1 Q9 S1 U5 O7 J4 F0 L6 N1 F7 E3 N2 D9 K0 ers J3.up F6.up C3.up M7.up M3.up Q1.up S3.up) (b5 F_law_asked.1)
 exact y7S M Flaw.1 bkOk shOk C9.up E6.up P5.up M9.up S2.up L5.up (w0u 4) M4.up O4.up N5.up Q5.up J8.up A7.up Y7.up N9.up M1.up
theorem walk{l:PySem.W.OpenLaw}{q:Program}{loose:List Str}{XP:(Str->Option Value)->Heap->Prop}{YP:World->Heap->Prop}{d:DefRec}{K:Params->PySem.W.Frag}(hn:l.most=some 63)(hdf:d.params.defaults=[])
  (hY:∀(w:World) (h:Heap),YP w h->(K w.params).In h)
  (F:∀(w:World) (mg:Str->Option Value) (fa:Addr) (h:Heap),(K w.params).In h->h.Ns mainGlobals mg->mg d.name=some (.ref fa)->
   ∃fd:FuncData,(∀(s:Shared) (u:Value),BindsTo s fd ⟨[u],[]⟩ [("_law_script",u)])/\∀base:Heap,(K w.params).In base->base.Ns mainGlobals mg->A8 l.prog w (K w.params) mg base CX0 14 fa fd ["_law_script"] (y5J (K w.params))) :
  PySem.W.WalkO q loose XP YP l.row.toRowW d [] (fun f vs=>PySem.call f vs):=
 L2.y7g (n:=63) (k:=14) (x:="_law_script") (CX:=fun _=>CX0) (sp:=fun w=>y5J (K w.params)) hn (by decide) hdf ⟨rfl,by decide,by decide⟩ hY F (fun _ _ a ns hl _ hS=>⟨a,ns,rfl,hS,hl,fun _=>rfl⟩) fun _ _ _ _ _ z=>z
theorem w0X{q:Program}{loose:List Str}{XP:(Str->Option Value)->Heap->Prop}{r:PySem.W.RowW}{d:DefRec}{kwd:List (Str×Expr)}{run:Value->List Value->Sem Value}{K:Params->PySem.W.Frag}{ks:List Addr}{n t:Nat}(e:∀P,ks=(K P).map (·.1))
  (W:PySem.W.WalkO q loose XP (fun w h=>(K w.params).In h) r d kwd run):PySem.W.WalkX q loose XP (PySem.W.X.obsZ ks) (PySem.W.X.valZ K n t) r d kwd run:=
 fun w s₀ s₁ mg mb G y a o pm cd doc dV kV h1 h2 h3 h4 h5 h6 args vals as L g1 g2 g3 g4 g5=>W w s₀ s₁ mg mb G (PySem.W.InK.keeps w s₀.heap s₁.heap (PySem.W.X.z_facts e y).2.1 L.keeps) a o pm cd doc dV kV h1 h2 h3 h4 h5 h6 args vals as g1 g2 g3 g4 g5
end My
namespace PySem.W.Fast
def tw10038327909769392867:=()
def tw10042515544138940382:=()
def tw10074624953142901202:=()
def tw10077605259879258614:=()
def tw10170075878194241797:=()
def tw10283492128252924443:=()
def tw10293457622042200424:=()
def tw10298771495643188242:=()
def tw10474078380529023902:=()
def tw10474412823290903072:=()
def tw10478274133465309691:=()
def tw1052555539156134984:=()
def tw10543780577394259:=()
def tw10548164807913092427:=()
def tw10561589067159069802:=()
def tw10618785489919873156:=()
def tw10684825772256756348:=()
def tw10727199910271557728:=()
def tw10920450469143237084:=()
def tw10998139235708793008:=()
def tw11027613108294913456:=()
def tw11033644735369901222:=()
def tw11038472242463753523:=()
def tw11107902043850223397:=()
def tw11124800258313355230:=()
def tw11129968860388764285:=()
def tw11146192034884484676:=()
def tw11174446643749454046:=()
def tw11225853071308338137:=()
def tw11240709920337529578:=()
def tw11244528729269240172:=()
def tw11255907279130389488:=()
def tw11308671067150178512:=()
def tw1138715663186581106:=()
def tw11387783204370559579:=()
def tw11390994674494854716:=()
def tw11401363478232509815:=()
def tw11404938188622360212:=()
def tw11417233856499027612:=()
def tw11486776288253280889:=()
def tw11535736273940332204:=()
def tw11538415532011397129:=()
def tw11556594573894465162:=()
def tw11581243839397502154:=()
def tw11591520446023090854:=()
def tw11604527149640711214:=()
def tw1162336107007327788:=()
def tw11658778208401963184:=()
def tw11665185959236823471:=()
def tw11696655913155978555:=()
def tw11698376651687075811:=()
def tw11747403814771243306:=()
def tw11759670276930138186:=()
def tw11792995849168550195:=()
def tw1180389989063493496:=()
def tw11822719991803755884:=()
def tw11834393171330498517:=()
def tw1185105594293321541:=()
def tw11864603025602417911:=()
def tw11874091496320675458:=()
def tw11916038360185642120:=()
def tw11924940362650861058:=()
def tw12032987368648500097:=()
def tw12043813257908412875:=()
def tw12092722733062421200:=()
def tw12216333702671580635:=()
def tw12236177881781915776:=()
def tw12244055561750401016:=()
def tw12301951434268997417:=()
def tw12357070751878201308:=()
def tw12408615043275578942:=()
def tw1241405280779031393:=()
def tw12441472907565882500:=()
def tw12445794166808935782:=()
def tw12449077797010521496:=()
def tw12457838659774531292:=()
def tw12528548385952474781:=()
def tw12538316344997345999:=()
def tw12550490902020351278:=()
def tw1268119929657103890:=()
def tw12720117041433736472:=()
def tw12787505026444571757:=()
def tw12832335896769405771:=()
def tw1285269650986925873:=()
def tw12915473445530152271:=()
def tw12943949518511472270:=()
def tw12998814560676564251:=()
def tw13017852602558660156:=()
def tw13053122887997225967:=()
def tw13119760008273141159:=()
def tw13135601774527546906:=()
def tw13153204001368231376:=()
def tw13154909931166419882:=()
def tw13177151792051101579:=()
def tw13205046266062515577:=()
def tw13231242292683971732:=()
def tw13307537271260408105:=()
def tw13314838637225585401:=()
def tw13330673829447121927:=()
def tw13477547992591679322:=()
def tw13505315786757288897:=()
def tw13510399497144415860:=()
def tw13518374745489897146:=()
def tw13575178440683447377:=()
def tw13665840941679531964:=()
def tw1367207068047463812:=()
def tw13674332377982247695:=()
def tw13774325773231930084:=()
def tw13800330214640379950:=()
def tw13870213832077215401:=()
def tw13913713945328883154:=()
def tw1391932796143800481:=()
def tw13935250452698719449:=()
def tw13946082137453017040:=()
def tw13985204283392263055:=()
def tw13994367771497462991:=()
def tw13998718937727080028:=()
def tw14043317511776657531:=()
def tw1404480879818657300:=()
def tw14134728429180430524:=()
def tw14150919208539760638:=()
def tw14206499225975747414:=()
def tw14219974953804219580:=()
def tw14228915520701550233:=()
def tw14235710429619491364:=()
def tw14376668907911237545:=()
def tw14395213748601713482:=()
def tw14396024017564375434:=()
def tw14416362570648654855:=()
def tw1442107429538909244:=()
def tw14446915528958568464:=()
def tw1444712408034239330:=()
def tw14469773417597997685:=()
def tw14488796820808987800:=()
def tw14492024285406473630:=()
def tw14507523965305446511:=()
def tw14539757918785597357:=()
def tw14628069767679539042:=()
def tw14639569742793500364:=()
def tw14690938644642157419:=()
def tw14723512658037335749:=()
def tw14746161307199595183:=()
def tw14780095118554971840:=()
def tw14809024065871417193:=()
def tw14828774060505387264:=()
def tw14873891637030367546:=()
def tw14878442939243003678:=()
def tw14887755514648726683:=()
def tw14928629944579188136:=()
def tw14940745242879721413:=()
def tw14970558317679214826:=()
def tw14971646020173768073:=()
def tw14985084999577682524:=()
def tw15007721967792022753:=()
def tw15016053199037466425:=()
def tw15071847192188927570:=()
def tw1509107587192476886:=()
def tw15183298840770104914:=()
def tw15276574533157671199:=()
def tw15300786646652699509:=()
def tw15300805645197555737:=()
def tw15356241236544786283:=()
def tw15369315264446416725:=()
def tw15385370949230536061:=()
def tw15390432460124846128:=()
def tw15464750643484333843:=()
def tw15551990852338418396:=()
def tw15588467621995020873:=()
def tw15613206141335210320:=()
def tw15616824416234694474:=()
def tw15639555997291519348:=()
def tw15641089984623488821:=()
def tw15668342353640251786:=()
def tw15696493563661499645:=()
def tw15703828357224650958:=()
def tw15756653706593084963:=()
def tw15757245133692770177:=()
def tw15810112744828641875:=()
def tw15824629887836605694:=()
def tw15828975007181753614:=()
def tw15879584592117731426:=()
def tw15883644000949990297:=()
def tw15884609980577598638:=()
def tw15919386722208362182:=()
def tw16008340031078437658:=()
def tw16107592280301769448:=()
def tw16125861256491244876:=()
def tw16141848930326500837:=()
def tw16200818814373737837:=()
def tw16254788255690077749:=()
def tw16256067963452339051:=()
def tw16308782822282934948:=()
def tw16316251209589893683:=()
def tw16377731515277645391:=()
def tw16388565705822354585:=()
def tw16390857923691353903:=()
def tw16392029943672707984:=()
def tw16507589159969713544:=()
def tw16533502935830089867:=()
def tw16559967551744475350:=()
def tw16570458305040713936:=()
def tw16588705098940198281:=()
def tw16608861381906088852:=()
def tw16703004438578437253:=()
def tw16719857858285675150:=()
def tw16730401027709596028:=()
def tw1679708545130588224:=()
def tw1687170685329202124:=()
def tw16875331997277923172:=()
def tw16892882238875982800:=()
def tw169501617678324113:=()
def tw17020415479625021539:=()
def tw17065819849543810208:=()
def tw17068372796670465583:=()
def tw1710579686664283895:=()
def tw17137669790832799076:=()
def tw17138859512222839856:=()
def tw17159296351900298136:=()
def tw17175604769751587158:=()
def tw17180812408423910712:=()
def tw17204348807005953733:=()
def tw17207256900830496091:=()
def tw17317666479543719094:=()
def tw17324549634118107412:=()
def tw17349266071162503673:=()
def tw17410531998329278563:=()
def tw17417367226987865956:=()
def tw17424053458102502124:=()
def tw17449448193986702540:=()
def tw17461591098782680520:=()
def tw17472667958494803771:=()
def tw17491491287332850808:=()
def tw17505946463620907935:=()
def tw1771176712294591501:=()
def tw17762369654798849856:=()
def tw17763652995782581238:=()
def tw17774611894438004180:=()
def tw17850598992432478800:=()
def tw17908809994688847381:=()
def tw17942046754603644518:=()
def tw18003422979231075723:=()
def tw18033270342642927991:=()
def tw18034432470719399636:=()
def tw18091085683157434754:=()
def tw18130229982623563990:=()
def tw1815203010424017512:=()
def tw18174508654227775160:=()
def tw18264305560710932119:=()
def tw18293005857351652677:=()
def tw1895179070489673237:=()
def tw1936233055671327406:=()
def tw1953697486571918784:=()
def tw1958024478570355968:=()
def tw2009013759377541811:=()
def tw2009353151812205674:=()
def tw2039582357928015101:=()
def tw2095139022521490745:=()
def tw2199574881202397777:=()
def tw2201780865323448274:=()
def tw2223393678134086496:=()
def tw2279933621742401053:=()
def tw2286628190102998233:=()
def tw2354071806326154444:=()
def tw2519018016469080150:=()
def tw2522491452500021156:=()
def tw257740918655100057:=()
def tw2580572378082783604:=()
def tw2627370158879355757:=()
def tw2640542419846245632:=()
def tw2750868773903098047:=()
def tw2757236623329412831:=()
def tw2769086381617980562:=()
def tw2786701686522609334:=()
def tw2818734191418844791:=()
def tw2829711538698261542:=()
def tw2862456640762927937:=()
def tw2890062864538189602:=()
def tw2916936986123699346:=()
def tw2945113244368061480:=()
def tw2980577652744897519:=()
def tw2986039340041681576:=()
def tw3035791945122950659:=()
def tw30396909323825883:=()
def tw3074550901265847059:=()
def tw312059717437897708:=()
def tw3151768517427038988:=()
def tw3162580927056027064:=()
def tw3213145615142852482:=()
def tw3249112136021570049:=()
def tw3392688312858147374:=()
def tw3417106516882761286:=()
def tw3424051684516333777:=()
def tw3432219726717311899:=()
def tw348040255941721203:=()
def tw3494446327559304988:=()
def tw350210115395706105:=()
def tw3527860265705460819:=()
def tw3535598788594499076:=()
def tw3566664702711635885:=()
def tw3570979611581644335:=()
def tw3698625902519598913:=()
def tw3700707242107815972:=()
def tw3802221591830053124:=()
def tw3819145241296132761:=()
def tw3833489991935132060:=()
def tw3861806068404498532:=()
def tw3862234034447595530:=()
def tw3950375132381916667:=()
def tw3965856685390339076:=()
def tw4002759689875124782:=()
def tw4015869192745348247:=()
def tw4061477071567758764:=()
def tw4119224278611075566:=()
def tw417548370889659335:=()
def tw421507640254070140:=()
def tw4228929956950415082:=()
def tw4277651051080043912:=()
def tw4281186256751314955:=()
def tw4305120086247110102:=()
def tw4372965088460497292:=()
def tw438533538600898752:=()
def tw4498548469491442223:=()
def tw4543711642911192690:=()
def tw4628374833589414060:=()
def tw4646197652039647601:=()
def tw4654000254947963333:=()
def tw4654034346977595472:=()
def tw4679133356608518215:=()
def tw470097967302238906:=()
def tw475046354710668213:=()
def tw4764593726885352741:=()
def tw4769063720289176639:=()
def tw4798659464063047669:=()
def tw4835727229061204186:=()
def tw4860595036631948815:=()
def tw4905845794270237197:=()
def tw5014420265326657753:=()
def tw5016189816276454471:=()
def tw5065238112632970735:=()
def tw5086420768821532712:=()
def tw5116741276654079198:=()
def tw5126571543454734781:=()
def tw5136098336819961459:=()
def tw5155043177692718059:=()
def tw5225785372419597559:=()
def tw5251611052130494473:=()
def tw5266729872250912525:=()
def tw5270323501791952620:=()
def tw530004625240153057:=()
def tw5461038093023016635:=()
def tw5465452588003451960:=()
def tw5493734449078009230:=()
def tw5497009783503864115:=()
def tw5564290814029897052:=()
def tw5592808279954441021:=()
def tw5601500550291343754:=()
def tw563907946416247746:=()
def tw5697843506870101388:=()
def tw5710861990085084831:=()
def tw5718217584101809277:=()
def tw5806332372053498262:=()
def tw5823923061353583644:=()
def tw5827774335026772694:=()
def tw5847808471050102243:=()
def tw5857375943723811301:=()
def tw5872280807102706946:=()
def tw592048201341365887:=()
def tw5950779320770865028:=()
def tw598600062212973758:=()
def tw6000441438939903567:=()
def tw6000808649848380203:=()
def tw6137074240416705680:=()
def tw6187212866799086549:=()
def tw6252812967454725431:=()
def tw6275133714779546274:=()
def tw627947688189832420:=()
def tw6294640689814712658:=()
def tw6303915894121582546:=()
def tw6370492599077087275:=()
def tw6381342746377305822:=()
def tw6412967139209845450:=()
def tw6458746446525080061:=()
def tw652694667952155399:=()
def tw6579351224149958000:=()
def tw6619914909440958906:=()
def tw6620211422037711949:=()
def tw6631065703278945833:=()
def tw6688104484272133987:=()
def tw6810905973829672867:=()
def tw6859761684959465105:=()
def tw6861536262653530750:=()
def tw6975520525697723264:=()
def tw6976904305835440275:=()
def tw6992149481252998996:=()
def tw7009897670090962830:=()
def tw704131360442645529:=()
def tw7063339569226786667:=()
def tw7086362079514673669:=()
def tw71223101676133431:=()
def tw7137188936962238582:=()
def tw7181800102355534757:=()
def tw7339888781085907576:=()
def tw7369967063808805470:=()
def tw7487174252721024757:=()
def tw7493281460555531873:=()
def tw7618146980210855842:=()
def tw7633583041070434316:=()
def tw7658346558842966618:=()
def tw7670689548194498374:=()
def tw7679733548732354976:=()
def tw7723125211521209318:=()
def tw7727626658945074810:=()
def tw773351576287457411:=()
def tw7733548917609116823:=()
def tw7779682820024817407:=()
def tw7782650413467762136:=()
def tw7818787724153675284:=()
def tw7841770028083218346:=()
def tw7952618627963327024:=()
def tw7997554713826608432:=()
def tw8028789117670415546:=()
def tw803316735067342005:=()
def tw8035312316216326102:=()
def tw8040954796827110040:=()
def tw8047171521395547299:=()
def tw804746782696779883:=()
def tw8060919644906376188:=()
def tw806783090147802112:=()
def tw8186058325211150834:=()
def tw8207714348799842815:=()
def tw8311091492267021939:=()
def tw8335465352914625509:=()
def tw83602082683420556:=()
def tw8374975639269448301:=()
def tw8393754857417512552:=()
def tw8424778752707205418:=()
def tw8436666947112682723:=()
def tw8446259525611968313:=()
def tw8456031291459645351:=()
def tw8534215326592587972:=()
def tw854960273391603017:=()
def tw8567742353455768244:=()
def tw8602104014366525364:=()
def tw8643413064066973038:=()
def tw8681749568661309286:=()
def tw868868401008140540:=()
def tw87691972260824271:=()
def tw8771776386821165067:=()
def tw8875483572207109444:=()
def tw8907758916710849162:=()
def tw891481292752720175:=()
def tw8915171834545231123:=()
def tw894689321901086675:=()
def tw8973047955245170248:=()
def tw9018792756643157275:=()
def tw9041060123924509258:=()
def tw9044437553922966621:=()
def tw9060750705393778147:=()
def tw9093719897504417013:=()
def tw915764069843812105:=()
def tw9173334925866232474:=()
def tw9204153273498243467:=()
def tw9292766593567681091:=()
def tw9329270015005608023:=()
def tw9367822082115453566:=()
def tw942314889598122657:=()
def tw9501058279068415256:=()
def tw9573103910706185638:=()
def tw9599033480725047705:=()
def tw9613980219570741914:=()
def tw9621990410379164461:=()
def tw9671604921172245138:=()
def tw9731111420759363628:=()
def tw9771645047913825583:=()
def tw9819051970959851920:=()
def tw9867853526379687915:=()
end PySem.W.Fast
open PySem PySem.W PyProof.Rows
set_option maxRecDepth 100000 in
set_option maxHeartbeats 0 in
theorem PySem.Challenge.cw_backissues_k17_unknown_name_holds : PySem.Challenge.rw_backissues_k17_unknown_name.Holds := by
 w_on; o_law; z_head; (case hw => w_witness2)
 k_fill
 refine My.w0X (fun _ => by kernel_rfl) ?_
 refine My.walk (l := PySem.Challenge.rw_backissues_k17_unknown_name) rfl rfl (fun w h Y => Y) ?F
 case F =>
  intro w mg fa h KX G hmg
  refine' My.y7J KX G hmg ?cOffice ?cShelf ?cBook ?nOffice_names ?nOffice_reach ?nOffice_written ?nShelf_names ?nShelf_reach ?nShelf_issues ?nBook_office ?nBook_readers ?nBook_done ?a0 ?a1 ?a2 ?a3 ?a4 ?a5 ?a6 ?a7 ?a8 ?a9 ?a10 ?a11 ?a12 ?a13 ?a14 ?a15 ?a16 ?a17 ?a18 ?a19 ?a20 ?a21 ?a22 ?a23 ?a24 ?a25 ?a26 ?a27 ?a28 ?a29 ?a30 ?a31 ?a32 ?a33 ?a34 ?a35 ?a36 ?a37 ?a38 ?a39 ?a40 ?a41 ?a42 ?a43 ?a44 ?a45 ?a46 ?a47 ?a48 ?a49 ?a50 ?a51 ?a52 ?a53 ?a54 ?a55 ?a56 ?a57 ?a58 ?a59 ?a60 ?a61 ?a62 ?a63 ?a64 ?a65 ?a66 ?a67 ?a68 ?a69 ?a70 ?a71 ?a72 ?a73 ?a74 ?a75 ?d48 ?d51 ?xBackError ?xBadNames ?xBadReach ?xBadReaders ?xOfficeFull ?xUnknownName ?xNameTwice ?xBadValue ?xNotWritten ?xUnknownReader ?xBookFull ?xNoSuchDeed ?xTooManyCourses ?xb ?xc ?zlen ?zrange ?ztuple ?zlist ?zmax ?zmin ?zsorted ?zisinstance ?zbool ?zint ?zstr ?zset ?zreversed ?zdict ?zzip ?zall ?zValueError ?vMOST_NAMES ?vMOST_REACH ?vMOST_NUMBERS ?vMOST_VALUE ?vMOST_READERS ?vMOST_DEEDS ?vSURE ?vSTALE ?vOPEN ?vWRITE ?vDELIVER
  case' cOffice | cShelf | cBook => exact ⟨by k_is, by k_is, by k_is, by k_is, by k_is, by k_is, by k_is⟩
  case' nOffice_names | nOffice_reach | nOffice_written | nShelf_names | nShelf_reach | nShelf_issues | nBook_office | nBook_readers | nBook_done => k_is
  case' a0 | a1 | a2 | a3 | a4 | a5 | a6 | a7 | a8 | a9 | a10 | a11 | a12 | a13 | a14 | a15 | a16 | a17 | a18 | a19 | a20 | a21 | a27 | a28 | a29 | a30 | a31 | a38 | a49 | a50 | a51 | a52 | a53 | a54 | a55 | a56 | a57 | a58 | a59 | a60 | a61 | a62 | a63 | a64 | a65 | a66 | a67 | a68 | a69 | a70 | a71 | a72 | a73 | a74 | a75 => exact ⟨by k_is, _, _, _, _, _, _, _, _, _, by k_is, by k_is, by k_is⟩
  case' a22 | a23 | a24 | a25 | a26 | a32 | a33 | a34 | a35 | a36 | a37 | a39 | a40 | a41 | a42 | a43 | a44 | a45 | a46 | a47 | a48 => exact ⟨by k_is, by k_is, _, _, _, _, _, _, _, _, _, by k_is, by k_is, by k_is⟩
  case' d48 | d51 => exact ⟨_, _, _, _, by k_is⟩
  case' xBackError | xBadNames | xBadReach | xBadReaders | xOfficeFull | xUnknownName | xNameTwice | xBadValue | xNotWritten | xUnknownReader | xBookFull | xNoSuchDeed | xTooManyCourses => k_is
  case' xb => k_exc
  case' xc => kernel_rfl
  case' zlen | zrange | ztuple | zlist | zmax | zmin | zsorted | zisinstance | zbool | zint | zstr | zset | zreversed | zdict | zzip | zall | zValueError | vMOST_NAMES | vMOST_REACH | vMOST_NUMBERS | vMOST_VALUE | vMOST_READERS | vMOST_DEEDS | vSURE | vSTALE | vOPEN | vWRITE | vDELIVER => k_is