import PyProof.Rows.All
import Wide.All
import OpenK.AllK
import Wide.FinOn
import Lean
import PyProof.EqAt
import PyProof.EqKinds
import PyProof.TupleCall
import PyProof.WalksMore
import PyProof.ListRange
import PyProof.NeKinds
import PyProof.SliceStr2
import PyProof.StrOps2
import PyProof.Rows.SetFrom
import PyProof.MinMaxWalk
import KE.KRevIter
import KE.KDictList
import PyProof.AttrMiss
import PyProof.IsiH_list
import PyProof.IsiH_tuple
import KE.KDictOf
import PyProof.ZipIter
import PyProof.TupleIter
import PySem.Challenge.RW_backissues_k33_whole_two_bulletins
set_option Elab.async false
set_option linter.all false
set_option maxHeartbeats 4000000
set_option maxRecDepth 100000
abbrev bA:=@List.length_map
abbrev bB:=@PySem.Heap.get?_push_of_some
abbrev bC:=@List.mem_singleton
abbrev bD:=@List.getElem?_eq_getElem
abbrev bE:=@List.getElem?_map
abbrev bF:=@List.mem_cons
abbrev bG:=@List.map_append
abbrev bH:=@Nat.le_refl
abbrev bI:=@List.length_take
abbrev bJ:=@List.length_append
abbrev bK:=@List.size_toArray
abbrev bL:=@PyProof.Rows.boot_tuple
abbrev bM:=@List.getD_eq_getElem?_getD
abbrev bN:=@PySem.Heap.get?_push_size
abbrev bO:=@Bool.false_ne_true
abbrev bP:=@List.take_length
abbrev bQ:=@PySem.Heap.lt_size
abbrev bR:=@PySem.boot_len
abbrev bS:=@List.mem_append
abbrev bT:=@PySem.F.slot_list_append
abbrev bU:=@PySem.F.plainAttrs_list
abbrev bV:=@List.mem_of_getElem?
abbrev bW:=@Bool.and_eq_true
abbrev bX:=@PySem.F.type_list_append
abbrev bY:=@PySem.PassesOwn.never
abbrev bZ:=@List.mem_cons_of_mem
abbrev c9:=@PyProof.Rows.boot_isinstance
abbrev cA:=@Nat.ne_of_lt
abbrev cB:=@List.length_cons
abbrev cC:=@List.getElem?_eq_some_iff
abbrev cD:=@List.mem_cons_self
abbrev cE:=@Int.emod_lt_of_pos
abbrev cF:=@List.mem_append_right
abbrev cG:=@Option.map_eq_some_iff
abbrev cH:=@PySem.Around.under_plainId
abbrev cI:=@List.length_filter_le
abbrev cJ:=@List.mem_filter
abbrev cK:=@List.mem_map
abbrev cL:=@List.map_cons
abbrev cM:=@Nat.le_trans
abbrev cN:=@PySem.W.mg_none_of
abbrev cO:=@List.take_of_length_le
abbrev cP:=@Int.emod_nonneg
abbrev cQ:=@List.take_zero
abbrev cR:=@Nat.lt_of_lt_of_le
abbrev cS:=@PySem.Heap.get?_update_other
abbrev cT:=@Nat.zero_le
abbrev cU:=@List.exists_cons_of_length_eq_add_one
abbrev cV:=@List.getElem?_append_left
abbrev cW:=@List.pairwise_append
abbrev cX:=@Bool.eq_iff_iff
abbrev cY:=@List.append_nil
abbrev cZ:=@PyProof.Rows.slot_tuple_getitem
abbrev d5:=@List.nodup_iff_pairwise_ne
abbrev d6:=@List.foldl_cons
abbrev d7:=@PySem.F.plain_max_loop
abbrev d8:=@PySem.F.plain_min_loop
abbrev d9:=@PySem.W.mg_of
abbrev dA:=@PySem.W.kia_one
abbrev dB:=@List.find?_cons
abbrev dC:=@PyProof.Rows.callWith_type1
abbrev dD:=@List.length_drop
abbrev dE:=@Nat.lt_irrefl
abbrev dF:=@List.getElem?_append_right
abbrev dG:=@Ne.symm
abbrev dH:=@List.length_singleton
abbrev dI:=@List.eq_nil_of_length_eq_zero
abbrev dJ:=@List.filter_append
abbrev dL:=@List.map_map
abbrev dM:=@List.pairwise_map
abbrev dN:=@List.nodup_cons
abbrev dO:=@List.not_mem_nil
abbrev dP:=@PySem.Heap.get?_update_self
abbrev dQ:=@PyProof.Rows.boot_max
abbrev dR:=@Nat.le_of_lt
abbrev dS:=@List.mem_append_left
abbrev dU:=@List.mem_of_mem_take
abbrev dW:=@List.take_add_one
abbrev dX:=@List.map_congr_left
abbrev dY:=@List.getElem?_range
abbrev dZ:=@List.getElem_mem
abbrev eB:=@List.filter_cons
abbrev eF:=@Int.le_refl
abbrev eI:=@PyProof.Rows.boot_list
abbrev eJ:=@Nat.lt_of_le_of_lt
abbrev eM:=@Bool.false_eq_true
abbrev eO:=@Nat.lt_succ_of_lt
abbrev eQ:=@PySem.F.slot_tuple_getattribute
abbrev eS:=@Classical.byContradiction
abbrev eU:=@List.drop_zero
abbrev eV:=@PySem.F.called_set
abbrev eX:=@PySem.F.slot_list_getattribute
abbrev eY:=@PyProof.Rows.boot_sorted
abbrev eZ:=@List.filterMap_cons
abbrev fA:=@PySem.mem_of_lookup
abbrev fB:=@PySem.F.plain_list_iadd
abbrev fE:=@List.pairwise_singleton
abbrev fG:=@List.all_cons
abbrev fH:=@List.any_cons
abbrev fI:=@List.filter_nil
abbrev fJ:=@PySem.F.entry_max_loop
abbrev fK:=@PySem.F.entry_min_loop
abbrev fL:=@PySem.Paired.snoc
abbrev fM:=@List.length_range
abbrev fN:=@List.append_assoc
abbrev fO:=@List.mem_range
abbrev fP:=@PySem.Heap.size_push
abbrev fQ:=@PyProof.Rows.boot_min
abbrev fR:=@List.idxOf_lt_length_of_mem
abbrev fT:=@Nat.lt_succ_self
abbrev fU:=@List.reverse_reverse
abbrev fV:=@Bool.true_and
abbrev fW:=@Nat.le_succ
abbrev fX:=@Array.length_toList
abbrev fZ:=@List.mem_map_of_mem
abbrev g0:=@List.length_reverse
abbrev gC:=@Bool.or_eq_true
abbrev gD:=@Nat.not_lt_zero
abbrev gE:=@List.mem_of_find?_eq_some
abbrev gF:=@List.pairwise_iff_getElem
abbrev gG:=@Nat.ne_of_gt
abbrev gH:=@PySem.F.args_tuple_add_2
abbrev gI:=@Nat.pos_of_ne_zero
abbrev gJ:=@Nat.sub_zero
abbrev gK:=@Int.zero_add
abbrev gL:=@List.any_map
abbrev gM:=@Bool.false_and
abbrev gN:=@List.getElem?_replicate
abbrev gO:=@PySem.F.entry_tuple_add
abbrev gP:=@PyProof.Rows.F.plain_set_update_loop
abbrev gQ:=@List.foldl_append
abbrev gR:=@List.nodup_append
abbrev gS:=@Bool.eq_false_iff
abbrev gT:=@PyProof.noPylong_small
abbrev gU:=@PySem.F.slot_tuple_add
abbrev gX:=@PyProof.Rows.boot_bool
abbrev gY:=@PyProof.Rows.boot_dict
abbrev gZ:=@List.lookup_cons
abbrev h8:=@List.any_eq_true
abbrev h9:=@List.mem_reverse
abbrev hE:=@PySem.W.methodCall_KW
abbrev hJ:=@List.length_replicate
abbrev hU:=@PyProof.Rows.boot_int
abbrev hV:=@PyProof.Rows.boot_str
abbrev hW:=@List.pairwise_reverse
abbrev hZ:=@List.getElem?_set_ne
abbrev j0:=@Nat.min_eq_left
abbrev j3:=@PySem.W.plainGet_of
abbrev j4:=@List.length_pos_iff
abbrev j5:=@PySem.Heap.SameBut.update
abbrev j6:=@List.getElem_attach
abbrev j7:=@PySem.W.callWith_K
abbrev j8:=@List.pairwise_cons
abbrev j9:=@List.find?_eq_none
abbrev jA:=@List.getElem_idxOf
abbrev jB:=@List.any_eq_false
abbrev jC:=@Bool.not_eq_true'
abbrev jD:=@List.Sublist.refl
abbrev jE:=@Iff.rfl
abbrev jF:=@Nat.le_of_not_lt
abbrev jG:=@Nat.zero_add
abbrev jH:=@List.all_map
abbrev jI:=@List.all_eq_true
abbrev jJ:=@List.nil_sublist
abbrev jK:=@Int.ne_of_lt
namespace L2
open PySem PySem.Spec PyProof.Rows
abbrev Key:=Sum Int Str
def y0w:Key->Value->Bool
 | .inl k,v=>Value.isInt k v
 | .inr x,v=>Value.isStrOf x v
def keyH(w:World):Key->Int
 | .inl k=>hashInt k
 | .inr x=>hashStr w x
theorem z1e:∀{k:Key}{v:Value},y0w k v=true->(∃i t,k=Sum.inl i/\v=Value.int i t)\/(∃x t,k=Sum.inr x/\v=Value.str x t)
 | .inl i,v,h=>by
  obtain⟨t,e⟩:=Value.isInt_shape (k:=i) (v:=v) h
  exact .inl ⟨i,t,rfl,e⟩
 | .inr x,v,h=>by
  obtain⟨t,e⟩:=Value.isStrOf_shape (x:=x) (v:=v) h
  exact .inr ⟨x,t,rfl,e⟩
theorem y3K(i:Int)(t:Tok):y0w (.inl i) (.int i t)=true:=by simp[y0w,Value.isInt]
theorem y3O(x:Str)(t:Tok):y0w (.inr x) (.str x t)=true:=by simp[y0w,Value.isStrOf]
theorem y6J(a b:Int):decide ((Sum.inl a:Key)=Sum.inl b)=(a == b):=by
 by_cases e:a=b
 ·subst e;simp
 ·have h:¬(Sum.inl a:Key)=Sum.inl b:=fun q=>e (Sum.inl.inj q)
  rw[decide_eq_false h]
  exact(beq_eq_false_iff_ne.mpr e).symm
theorem y6R(a b:Str):decide ((Sum.inr a:Key)=Sum.inr b)=decide (a=b):=by
 by_cases e:a=b
 ·subst e;simp
 ·have h:¬(Sum.inr a:Key)=Sum.inr b:=fun q=>e (Sum.inr.inj q)
  rw[decide_eq_false h,decide_eq_false e]
theorem y6x(a:Int)(b:Str):decide ((Sum.inl a:Key)=Sum.inr b)=false:=decide_eq_false (fun q=>nomatch q)
theorem y6P(a:Str)(b:Int):decide ((Sum.inr a:Key)=Sum.inl b)=false:=decide_eq_false (fun q=>nomatch q)
def z1s(prog:Program)(w:World):PySem.KeyKind prog w Key where
 is:=y0w
 hash:=keyH w
 inj:=fun v a b ha hb=>by
  rcases z1e ha with ⟨i,t,rfl,rfl⟩|⟨x,t,rfl,rfl⟩
  ·rcases z1e hb with ⟨j,u,rfl,e⟩|⟨y,u,rfl,e⟩
   ·injection e with e1 _;rw[e1]
   ·exact nomatch e
  ·rcases z1e hb with ⟨j,u,rfl,e⟩|⟨y,u,rfl,e⟩
   ·exact nomatch e
   ·injection e with e1 _;rw[e1]
 byValue:=fun k v h=>by
  rcases z1e h with ⟨i,t,rfl,rfl⟩|⟨x,t,rfl,rfl⟩<;>rfl
 pyHash:=fun hv h=>by
  rcases z1e hv with ⟨i,t,rfl,rfl⟩|⟨x,t,rfl,rfl⟩
  ·exact wpAny_pyHash_int h
  ·exact wpAny_pyHash_str h
 eqBool:=fun hu hv h=>by
  rcases z1e hu with ⟨i,t,rfl,rfl⟩|⟨x,t,rfl,rfl⟩
  ·rcases z1e hv with ⟨j,u,rfl,rfl⟩|⟨y,u,rfl,rfl⟩
   ·rw[y6J] at h;exact wpAny_eqBool_int h
   ·rw[y6x] at h;exact SeqAt.EqAt.int_str i t y u _ _ _ _ h
  ·rcases z1e hv with ⟨j,u,rfl,rfl⟩|⟨y,u,rfl,rfl⟩
   ·rw[y6P] at h;exact SeqAt.EqAt.str_int x t j u _ _ _ _ h
   ·rw[y6R] at h;exact wpAny_eqBool_str h
 «strs»:=fun k x t v h=>by
  rcases z1e h with ⟨i,u,rfl,e⟩|⟨y,u,rfl,e⟩
  ·exact nomatch e
  ·injection e with e1 _
   subst e1
   cases v<;>rfl
theorem y0E(prog:Program)(w:World)(i:Int)(t:Tok):(z1s prog w).is (.inl i) (.int i t)=true:=y3K i t
theorem y0C(prog:Program)(w:World)(x:Str)(t:Tok):(z1s prog w).is (.inr x) (.str x t)=true:=y3O x t
inductive V where
 | non|bl (b:Bool)|int (i:Int)|str (x:Str)|byt (b:Array UInt8)|flt (b:UInt64)|ref (a:Addr)|ty (n:String)
 deriving DecidableEq
def RelV:V->Value->Prop
 | .non,u=>u=Value.none
 | .bl b,u=>u=Value.bool b
 | .int i,u=>∃t,u=Value.int i t
 | .str x,u=>∃t,u=Value.str x t
 | .byt b,u=>∃t,u=Value.bytes b t
 | .flt b,u=>∃t,u=Value.float b t
 | .ref a,u=>u=Value.ref a
 | .ty n,u=>u=Value.type n
abbrev Vals:List V->List Value->Prop:=Paired RelV
theorem Vals.length{xs:List V}{us:List Value}(r:Vals xs us):xs.length=us.length:=Paired.length r
theorem Vals.get:∀{xs:List V}{us:List Value}{i:Nat}{x:V},Vals xs us->xs[i]? = some x->∃u,us[i]? = some u/\RelV x u
 | _,_,_,_,.nil,e=>by simp at e
 | _,_,0,_,.cons r _,e=>by simp at e;subst e;exact⟨_,rfl,r⟩
 | _,_,i+1,x,.cons _ t,e=>by
  obtain⟨u,h1,h2⟩:=Vals.get (i:=i) (x:=x) t (by simpa using e)
  exact⟨u,by simpa using h1,h2⟩
theorem Vals.append:∀{xs ys:List V}{us ws:List Value},Vals xs us->Vals ys ws->Vals (xs++ys) (us++ws)
 | _,_,_,_,.nil,s=>s
 | _,_,_,_,.cons r t,s=>.cons r (Vals.append t s)
theorem Vals.take:∀{xs:List V}{us:List Value} (n:Nat),Vals xs us->Vals (xs.take n) (us.take n)
 | _,_,0,_=>.nil
 | _,_,_+1,.nil=>.nil
 | _,_,n+1,.cons r t=>.cons r (Vals.take n t)
theorem Vals.drop:∀{xs:List V}{us:List Value} (n:Nat),Vals xs us->Vals (xs.drop n) (us.drop n)
 | _,_,0,r=>r
 | _,_,_+1,.nil=>.nil
 | _,_,n+1,.cons _ t=>Vals.drop n t
def N1:Option V->Option Value->Prop
 | some v,some u=>RelV v u
 | none,none=>True
 | _,_=>False
def KV{κ:Type}:List (κ×V)->List (κ×Value)->Prop:=Paired fun(p:κ×V) (q:κ×Value)=>p.1=q.1/\RelV p.2 q.2
def kV:Key->V
 | .inl i=>.int i
 | .inr x=>.str x
inductive HO where
 /-- a list -/
 | lst (xs:List V)
 /-- a tuple (never changes) -/
 | tup (xs:List V)
 /-- a dict whose keys are ints and texts;one whose keys are tuples of ints and texts (the empty one is both) -/
 | dK (kvs:List (Key×V))|dT (kvs:List (List Key×V))
 /-- a set of ints: its members,its size -/
 | set (S:Int->Bool) (n:Nat)
 /-- an instance of the class at C,its dict at dx,its attributes -/
 | ins (C dx:Addr) (fs:List (Str×V))
 /-- the dict of the instance at x -/
 | own (x:Addr)
 /-- the dict of an exception -/
 | xd (fs:List (Str×V))
 /-- a bound method,f of x -/
 | met (f x:Addr)
 /-- a range object lo,lo+1,.. below hi -/
 | rng (lo hi:Int)
 /-- a thing that is known to the object (the script;a dict while a loop walks it): read,never written while it is so -/
 | frz (o:Obj) (u:HO)
 /-- a code object's table -/
 | tbl (ps:Array Value)
 /-- any other thing,by what is true of its one object (a def of one's own: SetO a S n:=HO.ext fun h=>..) -/
 | ext (φ:Heap->Prop)
abbrev Hp:=Addr->Option HO
def upd(H:Hp)(a:Addr)(o:HO):Hp:=fun b=>if b=a then some o else H b
def PlT(h:Heap)(a:Addr)(items:Array Value):Prop:=∃o,h.get? a=some o/\o.cls=.type "tuple"/\(∃n,o.data=.seq items n)/\o.dict=none
theorem PlT.tup{h:Heap}{a:Addr}{items:Array Value}(p:PlT h a items):IsTup h a items:=let ⟨o,e,c,d,_⟩:=p;⟨o,e,c,d⟩
theorem PlT.new(h:Heap)(items:Array Value):PlT (h.push { cls:=.type "tuple",data:=.seq items }) h.objs.size items:=⟨_,bN _ rfl,rfl,⟨_,rfl⟩,rfl⟩
theorem z03{H:Hp}{a:Addr}{o:HO}:upd H a o a=some o:=by unfold upd;rw[if_pos rfl]
theorem z0h{H:Hp}{a b:Addr}{o:HO}(h:b≠a):upd H a o b=H b:=by unfold upd;rw[if_neg h]
theorem z7w{H:Hp}{a:Addr}{o u:HO}:upd (upd H a o) a u=upd H a u:=by
 funext b;unfold upd;split<;>rfl
theorem z5k{H:Hp}{a b:Addr}{o u:HO}(h:H a=some o)(h':H b=some u)(d:o≠u):a≠b:=by
 intro e;subst e;rw[h] at h';exact d (Option.some.inj h')
theorem z0r{H:Hp}{a b:Addr}{o:HO}(h:H a=some o)(h':H b=none):a≠b:=by
 intro e;subst e;rw[h] at h';cases h'
section
variable(P:Program)(w:World)
def z1y(H:Hp)(h:Heap)(a:Addr):HO->Prop
 | .lst xs=>xs.length≤sizeLine/\∃(its:List Value) (n:Nat),Vals xs its/\h.get? a=some { cls:=.type "list",data:=.seq its.toArray n }
 | .tup xs=>xs.length≤sizeLine/\∃its:List Value,Vals xs its/\PlT h a its.toArray
 | .dK kvs=>kvs.length≤sizeLine/\(a == sysModules)=false/\∃vs,KV kvs vs/\h.DictOf (z1s P w) a vs
 | .dT kvs=>kvs.length≤sizeLine/\(a == sysModules)=false/\∃xs:List (List Key×Addr×Value),
   Paired (fun(p:List Key×V) (q:List Key×Addr×Value)=>p.1=q.1/\H q.2.1=some (.tup (p.1.map kV))/\RelV p.2 q.2.2) kvs xs/\
   ∃o es ep,h.get? a=some o/\o.ExactDict/\o.data=.dict es ep/\es.toList=xs.map (entryOfKey (tupleKind (z1s P w)))/\(xs.map (·.1)).Nodup
 | .set S n=>h.SetOf (intKind P w) a S n
 | .ins C dx fs=>H dx=some (.own a)/\fs.length≤1000/\dx≠a/\h.get? a=some (PySem.W.instObj C dx)/\
   ∃mA,h.Ns1 dx mA/\(∀f,N1 (fs.lookup f) (mA f))/\PySem.Within mA (fs.map (·.1))
 | .own _=>∃o,h.get? a=some o
 | .xd fs=>∃mA,h.Ns1 a mA/\∀f,N1 (fs.lookup f) (mA f)
 | .rng lo hi=>∃t u v,h.get? a=some { cls:=.type "range",data:=.fields #[.int lo t,.int hi u,.int 1 v] }
 | .frz o u=>h.get? a=some o/\z1y H h a u
 | .tbl ps=>h.get? a=some { cls:=.none,data:=.fields ps }
 | .met f x=>h.get? a=some (PySem.W.methodObj (.ref f) (.ref x))
 | .ext φ=>φ h/\(∃o,h.get? a=some o)/\∀h1 h2:Heap,φ h1->(∀o,h1.get? a=some o->h2.get? a=some o)->φ h2
def HOk(H:Hp)(h:Heap):Prop:=∀a o,H a=some o->z1y P w H h a o
end
section
variable{P:Program}{w:World}{H H':Hp}{h h':Heap}{a:Addr}{o:HO}
theorem z1y.lt(x:z1y P w H h a o):a<h.objs.size:=by
 cases o with
 | lst xs=>obtain⟨_,_,_,_,e⟩:=x;exact bQ e
 | tup xs=>obtain⟨_,_,_,o,e,_⟩:=x;exact bQ e
 | dK kvs=>obtain⟨_,_,_,_,o,_,_,e,_⟩:=x;exact bQ e
 | dT kvs=>obtain⟨_,_,_,_,o,_,_,e,_⟩:=x;exact bQ e
 | set S n=>obtain⟨o,_,_,_,e,_⟩:=x;exact bQ e
 | ins C dx fs=>obtain⟨_,_,_,e,_⟩:=x;exact bQ e
 | own y=>obtain⟨_,e⟩:=x;exact bQ e
 | xd fs=>obtain⟨_,⟨_,_,_,e,_⟩,_⟩:=x;exact bQ e
 | rng lo hi=>obtain⟨_,_,_,e⟩:=x;exact bQ e
 | frz ob u=>obtain⟨e,_⟩:=x;exact bQ e
 | tbl ps=>exact bQ (show h.get? a=some _ from x)
 | met f y=>exact bQ (show h.get? a=some _ from x)
 | ext φ=>obtain⟨_,⟨_,e⟩,_⟩:=x;exact bQ e
theorem Paired.S0{α β:Type}{F G:α->β->Prop}:∀{l₁:List α}{l₂:List β},Paired F l₁ l₂->(∀a b,F a b->G a b)->Paired G l₁ l₂
 | _,_,.nil,_=>.nil
 | _,_,.cons r t,f=>.cons (f _ _ r) (Paired.S0 t f)
theorem z1y.U4(x:z1y P w H h a o)(k:∀b u,(b=a\/H b=some (.own a))->h.get? b=some u->h'.get? b=some u)
  (ho:∀b,H b=some (.own a)->H' b=some (.own a)) (ht:∀b xs,H b=some (.tup xs)->H' b=some (.tup xs)):z1y P w H' h' a o:=by
 induction o with
 | lst xs=>obtain⟨z,its,n,r,e⟩:=x;exact⟨z,its,n,r,k _ _ (.inl rfl) e⟩
 | tup xs=>obtain⟨z,its,r,ob,e,c⟩:=x;exact⟨z,its,r,ob,k _ _ (.inl rfl) e,c⟩
 | dK kvs=>obtain⟨z,y,vs,r,ob,es,ep,e,c⟩:=x;exact⟨z,y,vs,r,ob,es,ep,k _ _ (.inl rfl) e,c⟩
 | dT kvs=>
  obtain⟨z,y,xs,r,ob,es,ep,e,c⟩:=x
  exact⟨z,y,xs,Paired.S0 r fun p q z=>⟨z.1,ht _ _ z.2.1,z.2.2⟩,ob,es,ep,k _ _ (.inl rfl) e,c⟩
 | set S n=>obtain⟨ob,es,ep,t,e,c⟩:=x;exact⟨ob,es,ep,t,k _ _ (.inl rfl) e,c⟩
 | ins C dx fs=>
  obtain⟨d,z,ne,e,mA,⟨od,es,ep,e2,c⟩,r⟩:=x
  exact⟨ho _ d,z,ne,k _ _ (.inl rfl) e,mA,⟨od,es,ep,k _ _ (.inr d) e2,c⟩,r⟩
 | own y=>obtain⟨ob,e⟩:=x;exact⟨ob,k _ _ (.inl rfl) e⟩
 | xd fs=>obtain⟨mA,⟨od,es,ep,e,c⟩,r⟩:=x;exact⟨mA,⟨od,es,ep,k _ _ (.inl rfl) e,c⟩,r⟩
 | rng lo hi=>obtain⟨t,u,v,e⟩:=x;exact⟨t,u,v,k _ _ (.inl rfl) e⟩
 | frz ob u ih=>obtain⟨e,q⟩:=x;exact⟨k _ _ (.inl rfl) e,ih q⟩
 | tbl ps=>
  have e:h.get? a=some { cls:=.none,data:=.fields ps }:=x
  show h'.get? a=some { cls:=.none,data:=.fields ps }
  exact k a _ (.inl rfl) e
 | met f y=>
  have e:h.get? a=some (PySem.W.methodObj (.ref f) (.ref y)):=x
  show h'.get? a=some (PySem.W.methodObj (.ref f) (.ref y))
  exact k a _ (.inl rfl) e
 | ext φ=>obtain⟨p,⟨o,e⟩,st⟩:=x;exact⟨st _ _ p fun o q=>k _ _ (.inl rfl) q,⟨o,k _ _ (.inl rfl) e⟩,st⟩
theorem HOk.lt(x:HOk P w H h)(e:H a=some o):a<h.objs.size:=(x a o e).lt
theorem HOk.fresh(x:HOk P w H h)(e:h.objs.size≤a):H a=none:=by
 cases q:H a with
 | none=>rfl
 | some u=>exact absurd (cR (x.lt q) e) (dE _)
theorem HOk.kept(x:HOk P w H h)(k:∀b u,h.get? b=some u->h'.get? b=some u):HOk P w H h':=fun a o e=>
 (x a o e).U4 (fun b u _ q=>k b u q) (fun _ q=>q) fun _ _ q=>q
theorem HOk.laid(x:HOk P w H h)(k:∀b u,h.get? b=some u->h'.get? b=some u)(hp:h.objs.size≤a)(new:z1y P w (upd H a o) h' a o):HOk P w (upd H a o) h':=fun b u e=>by
 have hn:=x.fresh hp
 by_cases hb:b=a
 ·subst hb;rw[z03] at e;cases e;exact new
 ·rw[z0h hb] at e
  exact(x b u e).U4 (fun c v _ q=>k c v q) (fun c q=>by rw[z0h (z0r q hn)];exact q) fun c xs q=>by rw[z0h (z0r q hn)];exact q
end
def Rd(H:Hp)(a:Addr)(u:HO):Prop:=H a=some u\/∃o,H a=some (.frz o u)
theorem Rd.ok{P:Program}{w:World}{H:Hp}{h:Heap}{a:Addr}{u:HO}(r:Rd H a u)(x:HOk P w H h):z1y P w H h a u:=by
 rcases r with r|⟨o,r⟩
 ·exact x a u r
 ·obtain⟨_,q⟩:=x a _ r
  exact q
def Mut:Option HO->Prop
 | some (.lst _)=>True
 | some (.dK _)=>True
 | some (.dT _)=>True
 | some (.set _ _)=>True
 | some (.ins _ _ _)=>True
 | some (.ext _)=>True
 | _=>False
section
variable{P:Program}{w:World}{H:Hp}{h h':Heap}{x e:Addr}{o':HO}
theorem HOk.write(ok:HOk P w H h)(mu:Mut (H x))(he:e=x\/H e=some (.own x))(k:∀b u,b≠e->h.get? b=some u->h'.get? b=some u)(heo:∃u,h'.get? e=some u)
  (new:z1y P w (upd H x o') h' x o'):HOk P w (upd H x o') h':=fun b u q=>by
 have nown:∀c y,H c=some (.own y)->c≠x:=fun c y r z=>by subst z;rw[r] at mu;exact mu
 have ntup:∀c xs,H c=some (.tup xs)->c≠x:=fun c xs r z=>by subst z;rw[r] at mu;exact mu
 by_cases hb:b=x
 ·subst hb;rw[z03] at q;cases q;exact new
 ·rw[z0h hb] at q
  by_cases hbe:b=e
  ·have q':H b=some (.own x):=by
    rcases he with z|z
    ·exact absurd (hbe.trans z) hb
    ·rw[hbe];exact z
   rw[q] at q';cases q'
   obtain⟨v,hv⟩:=heo
   exact⟨v,by rw[hbe];exact hv⟩
  ·refine(ok b u q).U4 (fun c v hc r=>k c v ?_ r) (fun c r=>by rw[z0h (nown c b r)];exact r) fun c xs r=>by rw[z0h (ntup c xs r)];exact r
   rcases hc with rfl|hc
   ·exact hbe
   ·rintro rfl
    rcases he with z|z
    ·exact nown c b hc z
    ·rw[hc] at z;cases z;exact hb rfl
end
structure Un(fs ex:List Addr)(H H':Hp)(h h':Heap):Prop where
 keep:∀b o,h.get? b=some o->H b=none->b∉fs->b∉ex->h'.get? b=some o
 slot:∀b o,h.get? b=some o->H b=none->b∈fs->b∉ex->∃sl,h'.get? b=some { o with slots:=sl }
 free:∀b o,h.get? b=some o->H b=none->b∉ex->H' b=none
 there:∀b o,h.get? b=some o->b∉ex->∃o',h'.get? b=some o'
 R6:∀b xs,H b=some (.tup xs)->H' b=some (.tup xs)
 Q6:∀b o u,H b=some (.frz o u)->H' b=some (.frz o u)
 R7:∀b ps,H b=some (.tbl ps)->∃more,H' b=some (.tbl (ps++more))
section
variable{fs fs' ex ex':List Addr}{H H1 H2:Hp}{h h1 h2 h':Heap}{a x e:Addr}{o:HO}
theorem Un.any(u:Un fs ex H H1 h h1){b:Addr}{ob:Obj}(q:h.get? b=some ob)(n:H b=none)(hx:b∉ex):∃sl,h1.get? b=some { ob with slots:=sl }:=by
 by_cases hb:b∈fs
 ·exact u.slot b ob q n hb hx
 ·exact⟨ob.slots,u.keep b ob q n hb hx⟩
theorem Un.kept(k:∀b u,h.get? b=some u->h'.get? b=some u):Un fs ex H H h h':=
 ⟨fun b ob q _ _ _=>k b ob q,fun b ob q _ _ _=>⟨ob.slots,k b ob q⟩,fun _ _ _ n _=>n,fun b ob q _=>⟨ob,k b ob q⟩,fun _ _ q=>q,fun _ _ _ q=>q,fun _ ps q=>⟨#[],by rw[q];simp⟩⟩
theorem Un.refl:Un fs ex H H h h:=Un.kept fun _ _ q=>q
theorem Un.laid(k:∀b u,h.get? b=some u->h'.get? b=some u)(hp:h.objs.size≤a)(hn:H a=none):Un fs ex H (upd H a o) h h' where
 keep:=fun b u q _ _ _=>k b u q
 slot:=fun b u q _ _ _=>⟨u.slots,k b u q⟩
 free:=fun b u q n _=>by rw[z0h (cA (cR (bQ q) hp))];exact n
 there:=fun b u q _=>⟨u,k b u q⟩
 R6:=fun b xs q=>by rw[z0h (z0r q hn)];exact q
 Q6:=fun b u xs q=>by rw[z0h (z0r q hn)];exact q
 R7:=fun b ps q=>⟨#[],by rw[z0h (z0r q hn),q];simp⟩
theorem Un.write(mu:Mut (H x))(he:e=x\/H e=some (.own x))(k:∀b u,b≠e->h.get? b=some u->h'.get? b=some u)(heo:∃u,h'.get? e=some u):Un fs ex H (upd H x o) h h':=by
 have hx:∀b,H b=none->b≠x:=fun b n z=>by subst z;rw[n] at mu;exact mu
 have hb:∀b,H b=none->b≠e:=fun b n z=>by
  subst z
  rcases he with r|r
  ·exact hx b n r
  ·rw[n] at r;cases r
 have hm:∀b u,H b=some u->¬Mut (some u)->b≠x:=fun b u q nm z=>by subst z;rw[q] at mu;exact nm mu
 refine⟨fun b u q n _ _=>k b u (hb b n) q,fun b u q n _ _=>⟨u.slots,k b u (hb b n) q⟩,fun b u q n _=>by rw[z0h (hx b n)];exact n,fun b u q _=>?_,
  fun b xs q=>by rw[z0h (hm b _ q fun z=>z)];exact q,fun b u xs q=>by rw[z0h (hm b _ q fun z=>z)];exact q,fun b ps q=>⟨#[],by rw[z0h (hm b _ q fun z=>z),q];simp⟩⟩
 by_cases hbe:b=e
 ·subst hbe;exact heo
 ·exact⟨u,k b u hbe q⟩
end
def trk(h:Heap)(H:Hp):List Addr:=(List.range h.objs.size).filter fun a=>(H a).isSome
def Q9(h:Heap)(H:Hp):Heap:=PySem.W.hideAll h (trk h H)
theorem y2J(h:Heap)(H:Hp):(Q9 h H).objs.size=h.objs.size:=PySem.W.hideAll_size _ _
theorem y4w{h:Heap}{H:Hp}{b:Addr}{o:Obj}(e:h.get? b=some o)(n:H b=none):(Q9 h H).get? b=some o:=
 PySem.W.hideAll_get _ e fun hm=>by
  have q:(H b).isSome=true:=(cJ.mp hm).2
  rw[n] at q;simp at q
theorem y5V{h:Heap}{H:Hp}{b:Addr}{o:Obj}(e:(Q9 h H).get? b=some o):h.get? b=some o/\H b=none:=by
 have e':h.get? b=some o:=PySem.W.of_hideAll (trk h H) e
 refine⟨e',?_⟩
 cases q:H b with
 | none=>rfl
 | some x=>
  have hm:b∈trk h H:=cJ.mpr ⟨fO.mpr (bQ e'),by simp[q]⟩
  have z:(Q9 h H).get? b=none:=PySem.W.hideAll_none (trk h H) hm
  rw[z] at e;cases e
def y6i(g h:Heap)(L:Addr):List (Addr×Obj):=(List.range h.objs.size).filterMap fun a=>if a=L\/(g.get? a).isSome=true then none else (h.get? a).map fun o=>(a,o)
def rest(g h:Heap)(L d:Addr):List (Addr×Obj):=(y6i g h L).filter fun p=>decide (p.1≠d)
structure Mod(K:PySem.W.Frag)(mg:Str->Option Value)(base:Heap):Prop where
 kin:K.In base
 glob:base.Ns mainGlobals mg
 blt:∃mb,base.Ns builtinsNs mb/\∀x:Str,x≠"__name__"->mb x=bootBuiltins x
 nolimit:base.NoLimit
structure Cx where
 prog:Program
 w:World
 K:PySem.W.Frag
 mg:Str->Option Value
 base:Heap
 A:Around
 N:List Str
 s₀:Shared
 H₀:Hp
 env:Env
 outer:List Env
 stack:List Env
 ex:List Addr
 fn:Str->Bool
 calm:Bool
 pn:List (Addr×Obj)
 xe:Value->Shared->Prop
def frs(l:List Env):List Addr:=l.filterMap (·.frame)
abbrev Cx.fs(X:Cx):List Addr:=frs X.outer
def Vis(sc:Scope)(x:Str):Prop:=sc.names.lookup x=some .local\/sc.names.lookup x=some .cell\/sc.names.lookup x=some .free
def Loc(sc:Scope)(x:Str):Prop:=sc.names.lookup x=some .local\/sc.names.lookup x=some .cell
def Look(env:Env)(h:Heap)(m:Str->Option Value)(x:Str)(u:Value):Prop:=
 (env.kindOf x=some .local/\m x=some u)\/((env.kindOf x=some .cell\/env.kindOf x=some .free)/\∃c,env.cells.lookup x=some c/\h.IsCell c (some u))
structure Cx.Ok(X:Cx):Prop where
 mod:Mod X.K X.mg X.base
 kind:X.env.scope.kind=.function
 glob:X.env.globals=mainGlobals
 blt:X.env.builtins=builtinsNs
 above:X.s₀.heap.objs.size≤X.env.locals
 inj:∀x y c,X.env.cells.lookup x=some c->X.env.cells.lookup y=some c->x=y
 has:∀x,(X.env.kindOf x=some .cell\/X.env.kindOf x=some .free)->∃c,X.env.cells.lookup x=some c
 cab:∀x c,X.fn x=true->X.env.cells.lookup x=some c->X.s₀.heap.objs.size≤c
 hd:X.calm=true->X.A.handled=none
 frames:X.A.frames=some X.stack
 stk:X.stack=X.outer\/(X.stack=X.env::X.outer/\X.env.frame=some X.env.locals)
 exf:∀b∈X.ex,b≠X.env.locals/\∀x c,X.env.cells.lookup x=some c->c≠b
 bs:∀b o,X.base.get? b=some o->X.s₀.heap.get? b=some o/\X.H₀ b=none
 bsz:X.base.objs.size≤X.s₀.heap.objs.size
 noex:∀b o,X.base.get? b=some o->b∉X.ex
 exfs:∀b∈X.ex,b∉X.fs
 P1:X.s₀.heap.FunFrames X.base X.outer
 frf:∀b∈X.fs,X.H₀ b=none
structure Inv(X:Cx)(pins:List (Addr×Obj))(σ:List (Option V))(H:Hp)(s:Shared):Prop where
 ok:X.Ok
 os:s.os=X.s₀.os
 bare:AllBare s.gens
 base:Un X.fs X.ex X.H₀ H X.s₀.heap s.heap
 loc:∃m,s.heap.Ns X.env.locals m/\∀(i:Nat) (x:Str) (v:V),X.N[i]? = some x->σ[i]? = some (some v)->Vis X.env.scope x->∃u,RelV v u/\Look X.env s.heap m x u
 cell:∀x c,X.env.cells.lookup x=some c->∃v,s.heap.IsCell c v
 free:H X.env.locals=none
 freeC:∀x c,X.env.cells.lookup x=some c->H c=none
 pin:∀p∈X.pn++pins,s.heap.get? p.1=some p.2/\H p.1=none/\p.1≠X.env.locals/\p.1∉X.fs/\∀v,p.2.data≠.cell v
 hok:HOk X.prog X.w H s.heap
 len:σ.length=X.N.length
section
variable{X:Cx}{pins:List (Addr×Obj)}{σ:List (Option V)}{H H':Hp}{s:Shared}{h':Heap}
theorem Cx.Ok.nofr(ok:X.Ok){b:Addr}{o:Obj}(e:X.base.get? b=some o):b∉X.fs:=fun hb=>by
 have:=(ok.P1.mem hb).1
 rw[e] at this;cases this
theorem Inv.bs(I:Inv X pins σ H s):∀b o,X.base.get? b=some o->s.heap.get? b=some o/\H b=none:=fun b o e=>
 ⟨I.base.keep b o (I.ok.bs b o e).1 (I.ok.bs b o e).2 (I.ok.nofr e) (I.ok.noex b o e),I.base.free b o (I.ok.bs b o e).1 (I.ok.bs b o e).2 (I.ok.noex b o e)⟩
theorem Inv.bk(I:Inv X pins σ H s):∀b o,X.base.get? b=some o->s.heap.get? b=some o:=fun b o e=>(I.bs b o e).1
theorem Inv.mod(I:Inv X pins σ H s):Mod X.K X.mg X.base:=I.ok.mod
theorem Inv.kIn(I:Inv X pins σ H s):X.K.In s.heap:=I.ok.mod.kin.keeps I.bk
theorem Inv.fr(I:Inv X pins σ H s):∃m,Fr X.base X.env.locals s.heap m:=
 let ⟨m,hn,_⟩:=I.loc
 ⟨m,hn,I.bk,cM I.ok.bsz I.ok.above⟩
theorem Inv.lt(I:Inv X pins σ H s):X.env.locals<s.heap.objs.size:=let ⟨_,hn,_⟩:=I.loc;hn.lt
theorem Inv.sz(I:Inv X pins σ H s):X.s₀.heap.objs.size≤s.heap.objs.size:=cM I.ok.above (dR I.lt)
theorem Inv.nofs(I:Inv X pins σ H s){a:Addr}(h:s.heap.objs.size≤a):a∉X.fs:=fun hb=>by
 obtain⟨_,o,ho,_⟩:=I.ok.P1.mem hb
 exact absurd (cR (bQ ho) (cM I.sz h)) (dE _)
theorem Inv.cne(I:Inv X pins σ H s):∀x c,X.env.cells.lookup x=some c->c≠X.env.locals:=fun x c e z=>by
 obtain⟨v,o,ho,hd⟩:=I.cell x c e
 obtain⟨m,⟨o',es,ep,ho',hd',_⟩,_⟩:=I.loc
 rw[z,ho'] at ho;cases ho;rw[hd'] at hd;cases hd
theorem Inv.P1(I:Inv X pins σ H s):s.heap.FunFrames X.base X.outer:=by
 have all:∀(l:List Env),(∀b∈frs l,b∈X.fs)->X.s₀.heap.FunFrames X.base l->s.heap.FunFrames X.base l:=by
  intro l
  induction l with
  | nil=>intro _ _;trivial
  | cons env r ih=>
   intro hs hl
   obtain⟨hk,⟨L,o,hf,hn,ho,hd⟩,hr⟩:=hl
   have hL:L∈X.fs:=hs L (by unfold frs;rw[eZ,hf];exact cD)
   obtain⟨sl,e⟩:=I.base.slot L o ho (I.ok.frf L hL) hL fun z=>I.ok.exfs L z hL
   exact⟨hk,⟨L,_,hf,hn,e,hd⟩,ih (fun b hb=>hs b (by unfold frs;rw[eZ,hf];exact bZ _ hb)) hr⟩
 exact all X.outer (fun _ hb=>hb) I.ok.P1
theorem Inv.stack(I:Inv X pins σ H s):s.heap.FunFrames X.base X.stack:=by
 rcases I.ok.stk with e|⟨e,hf⟩
 ·rw[e];exact I.P1
 ·rw[e]
  obtain⟨m,hn,_⟩:=I.loc
  refine .cons (by rw[I.ok.kind];decide) hf hn ?_ I.P1
  exact Heap.get?_none_of_le (cM I.ok.bsz I.ok.above)
theorem Inv.P8(I:Inv X pins σ H s):∀b∈frs X.stack,b∈X.env.locals::X.fs:=fun b hb=>by
 rcases I.ok.stk with e|⟨e,hf⟩
 ·rw[e] at hb;exact bZ _ hb
 ·rw[e] at hb
  unfold frs at hb
  rw[eZ,hf] at hb
  exact hb
theorem Inv.T9(I:Inv X pins σ H s):∀b∈frs X.stack,H b=none:=fun b hb=>by
 rcases bF.mp (I.P8 b hb) with e|hb
 ·rw[e];exact I.free
 ·obtain⟨_,o,ho,_⟩:=I.ok.P1.mem hb
  exact I.base.free b o ho (I.ok.frf b hb) fun z=>I.ok.exfs b z hb
theorem Inv.step{g':Array GenState}{t':Nat}{d':Drawn}{ch:List Addr}(I:Inv X pins σ H s)
  (hch:∀b∈ch,(b∈X.ex\/X.s₀.heap.objs.size≤b)/\b≠X.env.locals/\(∀x c,X.env.cells.lookup x=some c->c≠b)/\∀p∈X.pn++pins,p.1≠b)
  (keep:∀b o,b≠X.env.locals->b∉X.fs->b∉ch->s.heap.get? b=some o->H b=none->h'.get? b=some o)
  (slot:∀b o,b≠X.env.locals->b∈X.fs->b∉ch->s.heap.get? b=some o->H b=none->∃sl,h'.get? b=some { o with slots:=sl }) (free:∀b o,b∉ch->s.heap.get? b=some o->H b=none->H' b=none)
  (there:∀b o,b∉ch->s.heap.get? b=some o->∃o',h'.get? b=some o')
  (R6:∀b xs,H b=some (.tup xs)->H' b=some (.tup xs)) (Q6:∀b o u,H b=some (.frz o u)->H' b=some (.frz o u)) (R7:∀b ps,H b=some (.tbl ps)->∃more,H' b=some (.tbl (ps++more)))
  (ns:∀m,s.heap.Ns X.env.locals m->h'.Ns X.env.locals m) (hok:HOk X.prog X.w H' h') (hg:AllBare g') :
  Inv X pins σ H' { s with heap:=h',gens:=g',drawn:=d',toks:=t' }:=by
 have neL:∀b o,X.s₀.heap.get? b=some o->b≠X.env.locals:=fun b o e=>cA (cR (bQ e) I.ok.above)
 have neC:∀b o,X.s₀.heap.get? b=some o->b∉X.ex->b∉ch:=fun b o e hx hb=>by
  rcases(hch b hb).1 with z|z
  ·exact hx z
  ·exact absurd (cR (bQ e) z) (dE _)
 have cellK:∀x c,X.env.cells.lookup x=some c->∀v,s.heap.IsCell c v->h'.IsCell c v:=fun x c e v ⟨o,ho,hd⟩=>by
  have nch:c∉ch:=fun z=>(hch c z).2.2.1 x c e rfl
  by_cases hc:c∈X.fs
  ·obtain⟨sl,q⟩:=slot c o (I.cne x c e) hc nch ho (I.freeC x c e)
   exact⟨_,q,hd⟩
  ·exact⟨o,keep c o (I.cne x c e) hc nch ho (I.freeC x c e),hd⟩
 refine⟨I.ok,I.os,hg,⟨fun b o e n hb hx=>?_,fun b o e n hb hx=>?_,fun b o e n hx=>?_,fun b o e hx=>?_,fun b xs e=>R6 b xs (I.base.R6 b xs e),fun b o xs e=>Q6 b o xs (I.base.Q6 b o xs e),fun b ps e=>?_⟩,?_,fun x c e=>?_,?_,fun x c e=>?_,fun p hp=>?_,hok,I.len⟩
 ·exact keep b o (neL b o e) hb (neC b o e hx) (I.base.keep b o e n hb hx) (I.base.free b o e n hx)
 ·obtain⟨sl,e1⟩:=I.base.slot b o e n hb hx
  obtain⟨sl',e2⟩:=slot b _ (neL b o e) hb (neC b o e hx) e1 (I.base.free b o e n hx)
  exact⟨sl',e2⟩
 ·obtain⟨o',e1⟩:=I.base.there b o e hx
  exact free b o' (neC b o e hx) e1 (I.base.free b o e n hx)
 ·obtain⟨o',e1⟩:=I.base.there b o e hx
  exact there b o' (neC b o e hx) e1
 ·obtain⟨m1,e1⟩:=I.base.R7 b ps e
  obtain⟨m2,e2⟩:=R7 b _ e1
  exact⟨m1++m2,by rw[e2,Array.append_assoc]⟩
 ·obtain⟨m,hn,hl⟩:=I.loc
  refine⟨m,ns m hn,fun i x v e1 e2 e3=>?_⟩
  obtain⟨u,r,l⟩:=hl i x v e1 e2 e3
  refine⟨u,r,?_⟩
  rcases l with l|⟨k,c,e,z⟩
  ·exact .inl l
  ·exact .inr ⟨k,c,e,cellK x c e _ z⟩
 ·obtain⟨v,z⟩:=I.cell x c e
  exact⟨v,cellK x c e v z⟩
 ·obtain⟨m,⟨o,_,_,ho,_⟩,_⟩:=I.loc
  exact free _ o (fun z=>(hch _ z).2.1 rfl) ho I.free
 ·obtain⟨v,o,ho,hd⟩:=I.cell x c e
  exact free c o (fun z=>(hch c z).2.2.1 x c e rfl) ho (I.freeC x c e)
 ·obtain⟨e,n,ne,nf,d⟩:=I.pin p hp
  have nch:p.1∉ch:=fun z=>(hch p.1 z).2.2.2 p hp rfl
  exact⟨keep p.1 p.2 ne nf nch e n,free p.1 p.2 nch e n,ne,nf,d⟩
theorem Inv.un{t':Nat}(I:Inv X pins σ H s)(u:Un X.fs [] H H' s.heap h')(hok:HOk X.prog X.w H' h'):Inv X pins σ H' { s with heap:=h',toks:=t' }:=by
 obtain⟨m,⟨o,es,ep,ho,r⟩,_⟩:=id I.loc
 obtain⟨sl,hL⟩:=u.any ho I.free (by simp)
 exact I.step (g':=s.gens) (d':=s.drawn) (ch:=[]) (fun _ z=>nomatch z) (fun b o _ hb _ e n=>u.keep b o e n hb (by simp)) (fun b o _ hb _ e n=>u.slot b o e n hb (by simp)) (fun b o _ e n=>u.free b o e n (by simp)) (fun b o _ e=>u.there b o e (by simp)) u.R6 u.Q6 u.R7 (fun m' hm=>by
  obtain⟨o',es',ep',ho',r'⟩:=hm
  rw[ho] at ho';cases ho'
  exact⟨_,es',ep',hL,r'⟩) hok I.bare
theorem Inv.call{g':Array GenState}{t':Nat}{d':Drawn}{ch:List Addr}(I:Inv X pins σ H s)(u:Un (frs X.stack) ch H H' s.heap h')(hok:HOk X.prog X.w H' h')(hg:AllBare g')
  (hch:∀b∈ch,(b∈X.ex\/X.s₀.heap.objs.size≤b)/\b≠X.env.locals/\(∀x c,X.env.cells.lookup x=some c->c≠b)/\∀p∈X.pn++pins,p.1≠b) :
  Inv X pins σ H' { s with heap:=h',gens:=g',drawn:=d',toks:=t' }:=by
 obtain⟨m,⟨o,es,ep,ho,r⟩,_⟩:=id I.loc
 obtain⟨sl,hL⟩:=u.any ho I.free fun z=>(hch _ z).2.1 rfl
 exact I.step (ch:=ch) hch (fun b o hL hb hc e n=>u.keep b o e n (fun z=>(bF.mp (I.P8 b z)).elim hL hb) hc) (fun b o _ _ hc e n=>u.any e n hc) (fun b o hc e n=>u.free b o e n hc) (fun b o hc e=>u.there b o e hc) u.R6 u.Q6 u.R7 (fun m' hm=>by
  obtain⟨o',es',ep',ho',r'⟩:=hm
  rw[ho] at ho';cases ho'
  exact⟨_,es',ep',hL,r'⟩) hok hg
theorem Inv.turned{t':Nat}{it:Addr}(I:Inv X pins σ H s)(k:∀b o,b≠it->s.heap.get? b=some o->h'.get? b=some o)(hn:H it=none)(hL:it≠X.env.locals)
  (h1:it∈X.ex\/X.s₀.heap.objs.size≤it) (h2:∀x c,X.env.cells.lookup x=some c->c≠it) (h3:∀p∈X.pn++pins,p.1≠it):Inv X pins σ H { s with heap:=h',toks:=t' }:=by
 have nit:∀b u,H b=some u->b≠it:=fun b u e z=>by rw[z,hn] at e;cases e
 refine I.step (g':=s.gens) (d':=s.drawn) (ch:=[it]) (fun b hb=>?_) (fun b o _ _ hc e _=>k b o (fun z=>hc (by simp[z])) e) (fun b o _ _ hc e _=>⟨o.slots,k b o (fun z=>hc (by simp[z])) e⟩) (fun _ _ _ _ n=>n)
  (fun b o hc e=>⟨o,k b o (fun z=>hc (by simp[z])) e⟩) (fun _ _ e=>e) (fun _ _ _ e=>e) (fun b ps e=>⟨#[],by rw[e];simp⟩) (fun m hm=>?_) (fun b u e=>?_) I.bare
 ·have e:b=it:=by simpa using hb
  subst e
  exact⟨h1,hL,h2,h3⟩
 ·obtain⟨o,es,ep,ho,r⟩:=hm
  exact⟨o,es,ep,k _ o (dG hL) ho,r⟩
 ·refine(I.hok b u e).U4 (fun c v hc q=>k c v ?_ q) (fun _ q=>q) fun _ _ q=>q
  rcases hc with z|z
  ·rw[z];exact nit b u e
  ·exact nit c _ z
theorem Inv.tok(I:Inv X pins σ H s)(t:Nat):Inv X pins σ H { s with toks:=t }:=I.un (h':=s.heap) (t':=t) Un.refl I.hok
theorem Inv.kept{t':Nat}(I:Inv X pins σ H s)(k:∀b u,s.heap.get? b=some u->h'.get? b=some u):Inv X pins σ H { s with heap:=h',toks:=t' }:=I.un (Un.kept k) (I.hok.kept k)
theorem Inv.laid{a:Addr}{o:HO}{t':Nat}(I:Inv X pins σ H s)(k:∀b u,s.heap.get? b=some u->h'.get? b=some u)(hp:s.heap.objs.size≤a)(new:z1y X.prog X.w (upd H a o) h' a o) :
  Inv X pins σ (upd H a o) { s with heap:=h',toks:=t' }:=I.un (Un.laid k hp (I.hok.fresh hp)) (I.hok.laid k hp new)
theorem Inv.write{x e:Addr}{o:HO}{t':Nat}(I:Inv X pins σ H s)(mu:Mut (H x))(he:e=x\/H e=some (.own x))(k:∀b u,b≠e->s.heap.get? b=some u->h'.get? b=some u)(heo:∃u,h'.get? e=some u)
  (new:z1y X.prog X.w (upd H x o) h' x o):Inv X pins σ (upd H x o) { s with heap:=h',toks:=t' }:=I.un (Un.write mu he k heo) (I.hok.write mu he k heo new)
theorem Inv.weak{σ':List (Option V)}(I:Inv X pins σ H s)(hl:σ'.length=σ.length)(w:∀(i:Nat) v,σ'[i]? = some (some v)->σ[i]? = some (some v)):Inv X pins σ' H s:=
 ⟨I.ok,I.os,I.bare,I.base,let ⟨m,hn,hl'⟩:=I.loc;⟨m,hn,fun i x v e1 e2 e3=>hl' i x v e1 (w i v e2) e3⟩,I.cell,I.free,I.freeC,I.pin,I.hok,hl.trans I.len⟩
theorem Inv.O1{pins':List (Addr×Obj)}(I:Inv X pins σ H s)(h:∀p∈pins',s.heap.get? p.1=some p.2/\H p.1=none/\p.1≠X.env.locals/\p.1∉X.fs/\∀v,p.2.data≠.cell v):Inv X pins' σ H s:=
 ⟨I.ok,I.os,I.bare,I.base,I.loc,I.cell,I.free,I.freeC,fun p hp=>(bS.mp hp).elim (fun z=>I.pin p (dS _ z)) (h p),I.hok,I.len⟩
theorem y1j{N:List Str}(hN:N.Nodup){i j:Nat}{x:Str}(a:N[i]? = some x)(b:N[j]? = some x):i=j:=by
 obtain⟨h1,e1⟩:=cC.mp a
 obtain⟨h2,e2⟩:=cC.mp b
 exact(List.getElem_inj hN).mp (e1.trans e2.symm)
theorem y36{M:Model}{A:Around}{E:Value->Shared->Prop}{i:Nat}{x:Str}{v:V}{u:Value}{Q:Unit->Shared->Prop}(I:Inv X pins σ H s)(hN:X.N.Nodup)(hi:X.N[i]? = some x)(hx:Loc X.env.scope x)(r:RelV v u)
  (h:∀s',Inv X pins (σ.set i (some v)) H s'->(∃a,Heap.SameBut a s.heap s'.heap/\(a=X.env.locals\/X.env.cells.lookup x=some a))->Q () s') (hf:X.fn x=true\/X.env.scope.names.lookup x=some .local:=by first|exact .inl rfl|exact .inr rfl|assumption):wpAny M A (storeName X.env x u) Q E s:=by
 obtain⟨m,hn,hl⟩:=id I.loc
 have hcls:(X.env.scope.kind == .class || (X.env.scope.kind == .module && X.env.locals != X.env.globals))=false:=by rw[I.ok.kind];rfl
 have hiσ:i<σ.length:=by rw[I.len];exact(cC.mp hi).1
 have cne:=I.cne
 have tracked:∀{a:Addr}{h':Heap},(∃o,s.heap.get? a=some o/\H a=none)->Heap.SameBut a s.heap h'->HOk X.prog X.w H h':=fun {a h'} ha hs b ob e=>by
  obtain⟨_,_,hfree⟩:=ha
  refine(I.hok b ob e).U4 (fun c w' hc q=>(hs.2 c ?_).trans q) (fun _ q=>q) fun _ _ q=>q
  rintro rfl
  rcases hc with rfl|hc
  ·rw[hfree] at e;cases e
  ·rw[hfree] at hc;cases hc
 rcases hx with hk|hk
 ·refine wpAny_storeName_local hk hn (fun h' hn' hs=>?_) hcls
  obtain⟨oL,_,_,hoL,_⟩:=id hn
  refine h _ ⟨I.ok,I.os,I.bare,⟨fun b o e n hb hx=>?_,fun b o e n hb hx=>?_,I.base.free,fun b o e hx=>?_,I.base.R6,I.base.Q6,I.base.R7⟩,⟨_,hn',fun j y v' e1 e2 e3=>?_⟩,fun y c e=>?_,I.free,I.freeC,fun p hp=>?_,tracked ⟨oL,hoL,I.free⟩ hs,by simpa using I.len⟩ ⟨_,hs,.inl rfl⟩
  ·exact(hs.2 b (cA (cR (bQ e) I.ok.above))).trans (I.base.keep b o e n hb hx)
  ·obtain⟨sl,e1⟩:=I.base.slot b o e n hb hx
   exact⟨sl,(hs.2 b (cA (cR (bQ e) I.ok.above))).trans e1⟩
  ·obtain⟨o',e1⟩:=I.base.there b o e hx
   exact⟨o',(hs.2 b (cA (cR (bQ e) I.ok.above))).trans e1⟩
  ·by_cases hj:j=i
   ·subst hj
    rw[hi] at e1;cases e1
    rw[List.getElem?_set_self hiσ] at e2
    cases e2
    exact⟨u,r,.inl ⟨hk,by simp⟩⟩
   ·rw[hZ (dG hj)] at e2
    obtain⟨u',r',q⟩:=hl j y v' e1 e2 e3
    refine⟨u',r',?_⟩
    rcases q with ⟨k,e⟩|⟨k,c,e,z⟩
    ·refine .inl ⟨k,?_⟩
     have:y≠x:=fun e=>hj (y1j hN e1 (e ▸ hi))
     simp[this,e]
    ·exact .inr ⟨k,c,e,z.sameBut hs (cne y c e)⟩
  ·obtain⟨w',z⟩:=I.cell y c e
   exact⟨w',z.sameBut hs (cne y c e)⟩
  ·obtain⟨e,n,ne,nf,d⟩:=I.pin p hp
   exact⟨(hs.2 p.1 ne).trans e,n,ne,nf,d⟩
 ·have hfn:X.fn x=true:=by
   rcases hf with z|z
   ·exact z
   ·rw[z] at hk;cases hk
  obtain⟨c,hc⟩:=I.ok.has x (.inl hk)
  obtain⟨w',z⟩:=I.cell x c hc
  refine wpAny_storeName_cell I.ok.kind hk hc z (fun h' hc' hs=>?_)
  obtain⟨oc,hoc,hocd⟩:=id z
  refine h { s with heap:=h' } ⟨I.ok,I.os,I.bare,⟨fun b o e n hb hx=>?_,fun b o e n hb hx=>?_,I.base.free,fun b o e hx=>?_,I.base.R6,I.base.Q6,I.base.R7⟩,⟨m,hn.sameBut hs (dG (cne x c hc)),fun j y v' e1 e2 e3=>?_⟩,fun y c' e=>?_,I.free,I.freeC,fun p hp=>?_,tracked ⟨oc,hoc,I.freeC x c hc⟩ hs,by simpa using I.len⟩ ⟨c,hs,.inr hc⟩
  ·exact(hs.2 b (cA (cR (bQ e) (I.ok.cab x c hfn hc)))).trans (I.base.keep b o e n hb hx)
  ·obtain⟨sl,e1⟩:=I.base.slot b o e n hb hx
   exact⟨sl,(hs.2 b (cA (cR (bQ e) (I.ok.cab x c hfn hc)))).trans e1⟩
  ·obtain⟨o',e1⟩:=I.base.there b o e hx
   exact⟨o',(hs.2 b (cA (cR (bQ e) (I.ok.cab x c hfn hc)))).trans e1⟩
  ·by_cases hj:j=i
   ·subst hj
    rw[hi] at e1;cases e1
    rw[List.getElem?_set_self hiσ] at e2
    cases e2
    exact⟨u,r,.inr ⟨.inl hk,c,hc,hc'⟩⟩
   ·rw[hZ (dG hj)] at e2
    obtain⟨u',r',q⟩:=hl j y v' e1 e2 e3
    refine⟨u',r',?_⟩
    rcases q with q|⟨k,c',e,z'⟩
    ·exact .inl q
    ·refine .inr ⟨k,c',e,z'.sameBut hs ?_⟩
     rintro rfl
     exact hj (y1j hN e1 (I.ok.inj _ _ _ e hc ▸ hi))
  ·by_cases hcc:c'=c
   ·subst hcc;exact⟨_,hc'⟩
   ·obtain⟨w2,z2⟩:=I.cell y c' e
    exact⟨w2,z2.sameBut hs hcc⟩
  ·obtain⟨e,n,ne,nf,d⟩:=I.pin p hp
   refine⟨(hs.2 p.1 ?_).trans e,n,ne,nf,d⟩
   intro q
   rw[q,hoc] at e
   have q':oc=p.2:=Option.some.inj e
   exact d w' (by rw[<- q'];exact hocd)
theorem y0U{M:Model}{A:Around}{E:Value->Shared->Prop}{i:Nat}{x:Str}{v:V}{u:Value}{Q:Unit->Shared->Prop}(I:Inv X pins σ H s)(hN:X.N.Nodup)(hi:X.N[i]? = some x)(hx:Loc X.env.scope x)(r:RelV v u)
  (h:∀s',Inv X pins (σ.set i (some v)) H s'->Q () s') (hf:X.fn x=true\/X.env.scope.names.lookup x=some .local:=by first|exact .inl rfl|exact .inr rfl|assumption):wpAny M A (storeName X.env x u) Q E s:=
 y36 I hN hi hx r (fun s' I' _=>h s' I') hf
theorem Inv.w11{s':Shared}{ch:List Addr}(I:Inv X pins σ H s)(ho:s'.os=s.os)(u:Un (frs X.stack) ch H H' s.heap s'.heap)(hok:HOk X.prog X.w H' s'.heap)(hg:AllBare s'.gens)
  (hch:∀b∈ch,(b∈X.ex\/X.s₀.heap.objs.size≤b)/\b≠X.env.locals/\(∀x c,X.env.cells.lookup x=some c->c≠b)/\∀p∈X.pn++pins,p.1≠b):Inv X pins σ H' s':=by
 obtain⟨h',g',d',t',o'⟩:=s'
 have e:o'=s.os:=ho
 subst e
 exact I.call (g':=g') (t':=t') (d':=d') u hok hg hch
end
abbrev XK:=Value->Option Addr->Hp->Prop
abbrev St:=List (Option V)
abbrev VK:=V->Hp->Prop
abbrev TE:=St->Hp->VK->Prop
abbrev TT:=St->Hp->(Bool->Hp->Prop)->Prop
abbrev TA:=St->Hp->(List V->Hp->Prop)->Prop
structure Ends where
 nx:St->Hp->Prop
 rt:VK
 bk:St->Hp->Prop:=fun _ _=>False
 ct:St->Hp->Prop:=fun _ _=>False
abbrev TS:=Ends->St->Hp->Prop
def EP(X:Cx)(pins:List (Addr×Obj))(σ:St)(Q:VK)(u:Value)(s':Shared):Prop:=∃v H',Inv X pins σ H' s'/\RelV v u/\Q v H'
def TP(X:Cx)(pins:List (Addr×Obj))(σ:St)(Q:Bool->Hp->Prop)(b:Bool)(s':Shared):Prop:=∃H',Inv X pins σ H' s'/\Q b H'
def AP(X:Cx)(pins:List (Addr×Obj))(σ:St)(Q:List V->Hp->Prop)(us:List Value)(s':Shared):Prop:=∃vs H',Inv X pins σ H' s'/\Vals vs us/\Q vs H'
def SP(X:Cx)(pins:List (Addr×Obj))(D:Ends)(f:Flow)(s':Shared):Prop:=
 match f with
 | .next=>∃σ' H',Inv X pins σ' H' s'/\D.nx σ' H'
 | .brk=>∃σ' H',Inv X pins σ' H' s'/\D.bk σ' H'
 | .cont=>∃σ' H',Inv X pins σ' H' s'/\D.ct σ' H'
 | .ret u=>∃v σ' H',Inv X pins σ' H' s'/\RelV v u/\D.rt v H'
def PE(X:Cx)(e:Expr)(t:TE):Prop:=
 ∀(pins:List (Addr×Obj)) (s:Shared) (σ:St) (H:Hp) (Q:VK),Inv X pins σ H s->t σ H Q->wpAny (model X.prog X.w) X.A (eval e X.env) (EP X pins σ Q) X.xe s
def PT(X:Cx)(e:Expr)(t:TT):Prop:=
 ∀(pins:List (Addr×Obj)) (s:Shared) (σ:St) (H:Hp) (Q:Bool->Hp->Prop),Inv X pins σ H s->t σ H Q->wpAny (model X.prog X.w) X.A (isTrue e X.env (eval e X.env)) (TP X pins σ Q) X.xe s
def PW(X:Cx)(e:Expr)(t:TT):Prop:=
 ∀(whole:Sem Value) (pins:List (Addr×Obj)) (s:Shared) (σ:St) (H:Hp) (Q:Bool->Hp->Prop),Inv X pins σ H s->t σ H Q->wpAny (model X.prog X.w) X.A (isTrue e X.env whole) (TP X pins σ Q) X.xe s
theorem PW.pt{X:Cx}{e:Expr}{t:TT}(h:PW X e t):PT X e t:=h _
def PA(X:Cx)(es:List Expr)(t:TA):Prop:=
 ∀(pos:Pos) (pins:List (Addr×Obj)) (s:Shared) (σ:St) (H:Hp) (Q:List V->Hp->Prop),Inv X pins σ H s->t σ H Q->wpAny (model X.prog X.w) X.A (spliced (backTo pos (starEach es X.env))) (AP X pins σ Q) X.xe s
def PS(X:Cx)(st:Stmt)(t:TS):Prop:=
 ∀(pins:List (Addr×Obj)) (s:Shared) (σ:St) (H:Hp) (D:Ends),Inv X pins σ H s->t D σ H->wpAny (model X.prog X.w) X.A (exec st X.env) (SP X pins D) X.xe s
def PSs(X:Cx)(st:List Stmt)(t:TS):Prop:=
 ∀(pins:List (Addr×Obj)) (s:Shared) (σ:St) (H:Hp) (D:Ends),Inv X pins σ H s->t D σ H->wpAny (model X.prog X.w) X.A (execs st X.env) (SP X pins D) X.xe s
theorem thn{α:Type}{t:Sem α}{Q Q':α->Shared->Prop}{M:Model}{A:Around}{E:Value->Shared->Prop}{s:Shared}(h:wpAny M A t Q E s)(hQ:∀a s,Q a s->Q' a s):wpAny M A t Q' E s:=wpAny_mono h hQ fun _ _ x=>x
section
variable{X:Cx}
def V0(i:Nat):TE:=fun σ H Q=>∃v,σ[i]? = some (some v)/\Q v H
def tC(v:V):TE:=fun _ H Q=>Q v H
theorem y6Z{i:Nat}{x:Str}{pos:Pos}(hN:X.N[i]? = some x)(hv:Vis X.env.scope x)(hd:(x == ("__debug__":Str))=false:=by decide)(hcd:(x == ("__classdict__":Str))=false:=by decide):PE X (.Name x pos) (V0 i):=by
 intro pins s σ H Q I h
 obtain⟨v,e,h⟩:=h
 obtain⟨m,hn,hl⟩:=I.loc
 obtain⟨u,r,l⟩:=hl i x v hN e hv
 have fin:EP X pins σ Q u s:=⟨v,H,I,r,h⟩
 rcases l with ⟨hk,hm⟩|⟨hk,c,hc,U1⟩
 ·exact wpAny_Name (wpAny_loadName_local I.ok.kind hk hn hm fin) hd
 ·rcases hk with hk|hk
  ·exact wpAny_Name (wpAny_loadName_cell I.ok.kind hk hc U1 fin) hd
  ·exact wpAny_Name (wpAny_loadName_free I.ok.kind hk hc U1 fin hcd) hd
theorem z06{i j pos}:PE X (.Constant (.int i) j pos) (tC (.int i)):=fun _ _ _ H _ I h=>wpAny_Constant_int ⟨.int i,H,I.tok _,⟨_,rfl⟩,h⟩
theorem z3p{b j pos}:PE X (.Constant (.bool b) j pos) (tC (.bl b)):=fun _ _ _ H _ I h=>Constant_bool ⟨.bl b,H,I,rfl,h⟩
theorem z7F{j pos}:PE X (.Constant .none j pos) (tC .non):=fun _ _ _ H _ I h=>Constant_none ⟨.non,H,I,rfl,h⟩
theorem z2E{x j pos}:PE X (.Constant (.str x) j pos) (tC (.str x)):=fun _ _ _ H _ I h=>Calls.Constant_str ⟨.str x,H,I.tok _,⟨_,rfl⟩,h⟩
def Gl(X:Cx)(x:Str):Prop:=X.env.kindOf x=some .globalImplicit
theorem y0f{E:Value->Shared->Prop}{pins:List (Addr×Obj)}{s:Shared}{σ:St}{H:Hp}{x:Str}{u:Value}{pos:Pos}{Q:Value->Shared->Prop}(I:Inv X pins σ H s)(hg:Gl X x)(hm:X.mg x=some u)(h:Q u s)
  (hd:(x == ("__debug__":Str))=false:=by decide):wpAny (model X.prog X.w) X.A (eval (.Name x pos) X.env) Q E s:=
 Calls.Name_function_global I.ok.kind hg (Calls.loadGlobal_global (by rw[I.ok.glob];exact I.mod.glob.keeps I.bk) hm h) hd
theorem z4L{E:Value->Shared->Prop}{pins:List (Addr×Obj)}{s:Shared}{σ:St}{H:Hp}{x:Str}{u:Value}{pos:Pos}{Q:Value->Shared->Prop}(I:Inv X pins σ H s)(hg:Gl X x)(hm:X.mg x=none)(hv:bootBuiltins x=some u)(h:Q u s)
  (hn:x≠"__name__":=by decide) (hd:(x == ("__debug__":Str))=false:=by decide):wpAny (model X.prog X.w) X.A (eval (.Name x pos) X.env) Q E s:=by
 obtain⟨mb,h1,h2⟩:=I.mod.blt
 exact Calls.Name_function_global I.ok.kind hg (Calls.loadGlobal_builtin (by rw[I.ok.glob];exact I.mod.glob.keeps I.bk) hm (by rw[I.ok.blt];exact h1.keeps I.bk) ((h2 x hn).trans hv) h) hd
theorem y3b{x:Str}{v:V}{u:Value}{pos:Pos}(hg:Gl X x)(hm:X.mg x=some u)(r:RelV v u)(hd:(x == ("__debug__":Str))=false:=by decide):PE X (.Name x pos) (tC v):=
 fun _ _ _ H _ I h=>y0f I hg hm ⟨v,H,I,r,h⟩ hd
theorem z1P{x:Str}{v:V}{u:Value}{pos:Pos}(hg:Gl X x)(hm:X.mg x=none)(hv:bootBuiltins x=some u)(r:RelV v u)(hn:x≠"__name__":=by decide)(hd:(x == ("__debug__":Str))=false:=by decide):PE X (.Name x pos) (tC v):=
 fun _ _ _ H _ I h=>z4L I hg hm hv ⟨v,H,I,r,h⟩ hn hd
variable{a b:Expr}{ta tb:TE}{pos:Pos}
def PC(X:Cx)(op:CmpOp)(a b:Expr)(t:TE):Prop:=
 ∀(pins:List (Addr×Obj)) (s:Shared) (σ:St) (H:Hp) (Q:VK),Inv X pins σ H s->t σ H Q->
  wpAny (model X.prog X.w) X.A (eval a X.env) (fun v s₁=>wpAny (model X.prog X.w) X.A (eval b X.env) (fun u s₂=>wpAny (model X.prog X.w) X.A (compareOp op v u) (EP X pins σ Q) X.xe s₂) X.xe s₁) X.xe s
theorem y1u(b:Expr){op:CmpOp}(h:op≠.In)(h2:op≠.NotIn):behindInMarks op b=false:=by
 have e1:(op == CmpOp.In)=false:=by cases op<;>first|rfl|exact absurd rfl h
 have e2:(op == CmpOp.NotIn)=false:=by cases op<;>first|rfl|exact absurd rfl h2
 cases b<;>simp[behindInMarks,e1,e2]
def tIsN(ta:TE):TE:=fun σ H Q=>ta σ H fun x H1=>Q (.bl (decide (x=.non))) H1
def w0O(ta:TE):TE:=fun σ H Q=>ta σ H fun x H1=>Q (.bl (!decide (x=.non))) H1
theorem RelV.S6{x:V}{v:Value}(r:RelV x v):(v == Value.none)=decide (x=.non):=by
 cases x with
 | non=>cases r;rfl
 | bl _=>cases r;rfl
 | int _=>obtain⟨t,rfl⟩:=r;rfl
 | str _=>obtain⟨t,rfl⟩:=r;rfl
 | byt _=>obtain⟨t,rfl⟩:=r;rfl
 | flt _=>obtain⟨t,rfl⟩:=r;rfl
 | ref _=>cases r;rfl
 | ty _=>cases r;rfl
theorem z8K{j pos'}(ha:PE X a ta):PC X .Is a (.Constant .none j pos') (tIsN ta):=by
 intro pins s σ H Q I h
 refine thn (ha pins s σ H _ I h) fun v s1 hz=>?_
 obtain⟨x,H1,I1,r1,q1⟩:=hz
 exact Constant_none (is_none_gen ⟨.bl _,H1,I1,by rw[r1.S6];rfl,q1⟩)
theorem y3C{j pos'}(ha:PE X a ta):PC X .IsNot a (.Constant .none j pos') (w0O ta):=by
 intro pins s σ H Q I h
 refine thn (ha pins s σ H _ I h) fun v s1 hz=>?_
 obtain⟨x,H1,I1,r1,q1⟩:=hz
 exact Constant_none (isnot_none_gen ⟨.bl _,H1,I1,by rw[r1.S6];rfl,q1⟩)
def tB(t:TE):TT:=fun σ H Q=>t σ H fun x H1=>∃c,x=.bl c/\Q c H1
theorem y5h{op:CmpOp}{t:TE}(h:PC X op a b t)(h1:behindInMarks op b=false:=by first|exact y1u _ (by decide) (by decide)|rfl):PE X (.Compare a [op] [b] pos) t:=fun pins s σ H Q I hw=>wpAny_Compare1 (h pins s σ H Q I hw) h1
theorem z5J{op:CmpOp}{t:TE}(h:PC X op a b t)(h1:behindInMarks op b=false:=by first|exact y1u _ (by decide) (by decide)|rfl):PT X (.Compare a [op] [b] pos) (tB t):=by
 intro pins s σ H Q I hw
 refine wpAny_isTrue_Compare1 (thn (h pins s σ H _ I hw) fun v s1 h1=>thn h1 fun u s2 h2=>thn h2 fun c s3 hz=>?_) h1
 obtain⟨x,H1,I1,r1,q1⟩:=hz
 obtain⟨d,rfl,q⟩:=q1
 cases r1
 exact wpAny_truthy_bool ⟨H1,I1,q⟩
theorem z2V{e:Expr}{t:TE}(h:PE X e t)(he:∀whole,isTrue e X.env whole=(do let v <- whole;standAt e.pos;holding [v] (truthy v)):=by intro _;rfl):PT X e (tB t):=by
 intro pins s σ H Q I hw
 refine isTrue_plain (thn (h pins s σ H _ I hw) fun v s1 hz=>?_) (he _)
 obtain⟨x,H1,I1,r1,q1⟩:=hz
 obtain⟨d,rfl,q⟩:=q1
 cases r1
 exact wpAny_truthy_bool ⟨H1,I1,q⟩
variable{tA tB':TT}{rest:List Expr}
def tAnd(t u:TT):TT:=fun σ H Q=>t σ H fun c H1=>if c=true then u σ H1 Q else Q false H1
def tOr(t u:TT):TT:=fun σ H Q=>t σ H fun c H1=>if c=true then Q true H1 else u σ H1 Q
def tNot(t:TT):TT:=fun σ H Q=>t σ H fun c H1=>Q (!c) H1
theorem z3j(ha:PT X a tA):PW X (.BoolOp .And [a] pos) tA:=by
 intro wh pins s σ H Q I h
 refine isTrue_and (thn (ha pins s σ H Q I h) fun c s1 e=>?_)
 cases c with
 | true=>exact isTrue_and_nil e
 | false=>exact e
theorem z25(ha:PT X a tA):PW X (.BoolOp .Or [a] pos) tA:=by
 intro wh pins s σ H Q I h
 refine isTrue_or (thn (ha pins s σ H Q I h) fun c s1 e=>?_)
 cases c with
 | false=>exact isTrue_or_nil e
 | true=>exact e
theorem z4i(ha:PT X a tA)(hb:PW X (.BoolOp .And (b::rest) pos) tB'):PW X (.BoolOp .And (a::b::rest) pos) (tAnd tA tB'):=by
 intro wh pins s σ H Q I h
 refine isTrue_and (thn (ha pins s σ H _ I h) fun c s1 hz=>?_)
 obtain⟨H1,I1,q1⟩:=hz
 cases c with
 | true=>exact hb wh pins s1 σ H1 Q I1 q1
 | false=>exact⟨H1,I1,q1⟩
theorem z3l(ha:PT X a tA)(hb:PW X (.BoolOp .Or (b::rest) pos) tB'):PW X (.BoolOp .Or (a::b::rest) pos) (tOr tA tB'):=by
 intro wh pins s σ H Q I h
 refine isTrue_or (thn (ha pins s σ H _ I h) fun c s1 hz=>?_)
 obtain⟨H1,I1,q1⟩:=hz
 cases c with
 | true=>exact⟨H1,I1,q1⟩
 | false=>exact hb wh pins s1 σ H1 Q I1 q1
theorem z37(ha:PT X a tA):PT X (.UnaryOp .Not a pos) (tNot tA):=by
 intro pins s σ H Q I h
 exact isTrue_not (ha pins s σ H (fun c H1=>Q (!c) H1) I h)
def w0S(ta tb:TE):TE:=fun σ H Q=>ta σ H fun x H1=>∃c,x=.bl c/\if c=true then tb σ H1 Q else Q (.bl false) H1
def w00(ta:TE):TE:=fun σ H Q=>ta σ H fun x H1=>∃c,x=.bl c/\Q (.bl (!c)) H1
theorem y6t{op}{t:TE}(h:PE X a t):PE X (.BoolOp op [a] pos) t:=fun pins s σ H Q I hw=>BoolOp_one (h pins s σ H Q I hw)
theorem y6z(ha:PE X a ta)(hb:PE X (.BoolOp .And (b::rest) pos) tb):PE X (.BoolOp .And (a::b::rest) pos) (w0S ta tb):=by
 intro pins s σ H Q I h
 refine BoolOp_and (thn (ha pins s σ H _ I h) fun v s1 hz=>?_)
 obtain⟨x,H1,I1,r1,q1⟩:=hz
 obtain⟨c,rfl,q1⟩:=q1
 cases r1
 refine wpAny_truthy_bool ?_
 cases c with
 | true=>exact hb pins s1 σ H1 Q I1 q1
 | false=>exact⟨.bl false,H1,I1,rfl,q1⟩
theorem y6p(ha:PE X a ta):PE X (.UnaryOp .Not a pos) (w00 ta):=by
 intro pins s σ H Q I h
 refine UnaryOp_ (thn (ha pins s σ H _ I h) fun v s1 hz=>?_)
 obtain⟨x,H1,I1,r1,q1⟩:=hz
 obtain⟨c,rfl,q1⟩:=q1
 cases r1
 exact not_of (wpAny_truthy_bool ⟨.bl (!c),H1,I1,rfl,q1⟩)
def tIf(t:TT)(ta tb:TE):TE:=fun σ H Q=>t σ H fun c H1=>if c=true then ta σ H1 Q else tb σ H1 Q
theorem z76{c:Expr}(hc:PT X c tA)(ha:PE X a ta)(hb:PE X b tb):PE X (.IfExp c a b pos) (tIf tA ta tb):=by
 intro pins s σ H Q I h
 refine wpAny_IfExp (thn (hc pins s σ H _ I h) fun d s1 hz=>?_)
 obtain⟨H1,I1,q1⟩:=hz
 cases d with
 | true=>exact ha pins s1 σ H1 Q I1 q1
 | false=>exact hb pins s1 σ H1 Q I1 q1
end
def SqL(K:PySem.W.Frag)(H:Hp)(a:Addr)(xs:List V):Prop:=
 Rd H a (.lst xs)\/
  ∃(o:Obj) (its:Array Value) (n:Nat),K.lookup a=some o/\o.cls=.type "list"/\o.dict=none/\o.data=.seq its n/\its.size≤sizeLine/\Vals xs its.toList
def SqT(K:PySem.W.Frag)(H:Hp)(a:Addr)(xs:List V):Prop:=
 Rd H a (.tup xs)\/
  ∃(o:Obj) (its:Array Value) (n:Nat),K.lookup a=some o/\o.cls=.type "tuple"/\o.data=.seq its n/\its.size≤sizeLine/\Vals xs its.toList
def absV:Value->Option V
 | .none=>some .non
 | .bool b=>some (.bl b)
 | .int i _=>some (.int i)
 | .str x _=>some (.str x)
 | .bytes b _=>some (.byt b)
 | .float b _=>some (.flt b)
 | .ref a=>some (.ref a)
 | .type n=>some (.ty n)
 | _=>none
theorem RelV.abs{x:V}{u:Value}(r:RelV x u):absV u=some x:=by
 cases x with
 | non=>cases r;rfl
 | bl _=>cases r;rfl
 | int _=>obtain⟨t,rfl⟩:=r;rfl
 | str _=>obtain⟨t,rfl⟩:=r;rfl
 | byt _=>obtain⟨t,rfl⟩:=r;rfl
 | flt _=>obtain⟨t,rfl⟩:=r;rfl
 | ref _=>cases r;rfl
 | ty _=>cases r;rfl
theorem RelV.inj{x y:V}{u:Value}(r:RelV x u)(q:RelV y u):x=y:=Option.some.inj (r.abs.symm.trans q.abs)
theorem Vals.inj:∀{xs ys:List V}{us:List Value},Vals xs us->Vals ys us->xs=ys
 | _,_,_,.nil,.nil=>rfl
 | _,_,_,.cons r t,.cons r' t'=>by rw[r.inj r',Vals.inj t t']
section
variable{X:Cx}{pins:List (Addr×Obj)}{σ:St}{H:Hp}{s:Shared}{a:Addr}{xs ys:List V}
theorem SqL.of{K:PySem.W.Frag}(h:H a=some (.lst xs)):SqL K H a xs:=.inl (.inl h)
theorem SqT.of{K:PySem.W.Frag}(h:H a=some (.tup xs)):SqT K H a xs:=.inl (.inl h)
theorem Inv.list(I:Inv X pins σ H s)(h:SqL X.K H a xs):∃its:List Value,Vals xs its/\PlainL s.heap a its.toArray/\xs.length≤sizeLine:=by
 rcases h with h|⟨o,its,n,hk,hc,hd,hs,hz,r⟩
 ·obtain⟨z,its,n,r,e⟩:=h.ok I.hok
  exact⟨its,r,⟨_,n,e,rfl,rfl,rfl⟩,z⟩
 ·refine⟨its.toList,r,⟨o,n,I.kIn a o hk,hc,hd,by simpa using hs⟩,?_⟩
  have e:=r.length
  simp only[fX] at e
  omega
theorem Inv.tuple(I:Inv X pins σ H s)(h:SqT X.K H a xs):∃its:List Value,Vals xs its/\IsTup s.heap a its.toArray/\xs.length≤sizeLine:=by
 rcases h with h|⟨o,its,n,hk,hc,hs,hz,r⟩
 ·obtain⟨z,its,r,p⟩:=h.ok I.hok
  exact⟨its,r,PlT.tup p,z⟩
 ·refine⟨its.toList,r,⟨o,I.kIn a o hk,hc,n,by simpa using hs⟩,?_⟩
  have e:=r.length
  simp only[fX] at e
  omega
theorem Inv.V5(I:Inv X pins σ H s)(h:SqL X.K H a xs)(h':SqL X.K H a ys):xs=ys:=by
 obtain⟨its,r,⟨o,n,e,_,_,d⟩,_⟩:=I.list h
 obtain⟨its',r',⟨o',n',e',_,_,d'⟩,_⟩:=I.list h'
 rw[e] at e';cases e'
 rw[d] at d'
 injection d' with d1 _
 have:its=its':=by simpa using congrArg Array.toList d1
 subst this
 exact r.inj r'
theorem Inv.Q5(I:Inv X pins σ H s)(h:SqT X.K H a xs)(h':SqT X.K H a ys):xs=ys:=by
 obtain⟨its,r,⟨o,e,_,n,d⟩,_⟩:=I.tuple h
 obtain⟨its',r',⟨o',e',_,n',d'⟩,_⟩:=I.tuple h'
 rw[e] at e';cases e'
 rw[d] at d'
 injection d' with d1 _
 have:its=its':=by simpa using congrArg Array.toList d1
 subst this
 exact r.inj r'
end
abbrev Cx.Q0(X:Cx)(E:Value->Shared->Prop):Cx:={ X with xe:=E }
abbrev Cx.nox(X:Cx):Cx:=X.Q0 fun _ _=>False
theorem Cx.Ok.Q0{X:Cx}(ok:X.Ok)(E:Value->Shared->Prop):(X.Q0 E).Ok:=
 ⟨ok.mod,ok.kind,ok.glob,ok.blt,ok.above,ok.inj,ok.has,ok.cab,ok.hd,ok.frames,ok.stk,ok.exf,ok.bs,ok.bsz,ok.noex,ok.exfs,ok.P1,ok.frf⟩
theorem Cx.Ok.M1{X:Cx}{E:Value->Shared->Prop}(ok:(X.Q0 E).Ok):X.Ok:=
 ⟨ok.mod,ok.kind,ok.glob,ok.blt,ok.above,ok.inj,ok.has,ok.cab,ok.hd,ok.frames,ok.stk,ok.exf,ok.bs,ok.bsz,ok.noex,ok.exfs,ok.P1,ok.frf⟩
section
variable{X:Cx}{pins:List (Addr×Obj)}{σ:St}{H:Hp}{s:Shared}{E:Value->Shared->Prop}
theorem Inv.Q0(I:Inv X pins σ H s)(E:Value->Shared->Prop):Inv (X.Q0 E) pins σ H s:=⟨I.ok.Q0 E,I.os,I.bare,I.base,I.loc,I.cell,I.free,I.freeC,I.pin,I.hok,I.len⟩
theorem Inv.M1(I:Inv (X.Q0 E) pins σ H s):Inv X pins σ H s:=⟨I.ok.M1,I.os,I.bare,I.base,I.loc,I.cell,I.free,I.freeC,I.pin,I.hok,I.len⟩
theorem SP.M1{D:Ends}{f:Flow}{s':Shared}(h:SP (X.Q0 E) pins D f s'):SP X pins D f s':=by
 cases f with
 | next=>obtain⟨σ',H',I,q⟩:=h;exact⟨σ',H',I.M1,q⟩
 | brk=>obtain⟨σ',H',I,q⟩:=h;exact⟨σ',H',I.M1,q⟩
 | cont=>obtain⟨σ',H',I,q⟩:=h;exact⟨σ',H',I.M1,q⟩
 | ret u=>obtain⟨v,σ',H',I,r,q⟩:=h;exact⟨v,σ',H',I.M1,r,q⟩
theorem PSs.nox{st:List Stmt}{t:TS}(h:PSs X.nox st t):PSs X st t:=fun pins s σ H D I hw=>
 wpAny_mono (h pins s σ H D (I.Q0 _) hw) (fun _ _ q=>q.M1) fun _ _ z=>False.elim z
end
section
variable{X:Cx}{st:Stmt}{rest:List Stmt}{t u:TS}{e:Expr}{te:TE}{pos:Pos}
def w0X:TS:=fun D σ H=>D.nx σ H
def tSeq(t u:TS):TS:=fun D σ H=>t { D with nx:=u D } σ H
theorem z0n:PSs X [] w0X:=fun _ _ σ H _ I h=>wpAny_execs_nil ⟨σ,H,I,h⟩
theorem z04(h1:PS X st t)(h2:PSs X rest u):PSs X (st::rest) (tSeq t u):=by
 intro pins s σ H D I h
 refine wpAny_execs_cons (thn (h1 pins s σ H { D with nx:=u D } I h) fun f s1 q=>?_)
 cases f with
 | next=>
  obtain⟨σ',H',I',q⟩:=q
  exact h2 pins s1 σ' H' D I' q
 | ret v=>exact q
 | brk=>exact q
 | cont=>exact q
theorem z05(h1:PS X st t):PSs X [st] t:=by
 intro pins s σ H D I h
 refine wpAny_execs_cons (thn (h1 pins s σ H D I h) fun f s1 q=>?_)
 cases f with
 | next=>exact wpAny_execs_nil q
 | ret v=>exact q
 | brk=>exact q
 | cont=>exact q
def y6U:TS:=fun D σ H=>D.bk σ H
def w08:TS:=fun D σ H=>D.ct σ H
theorem y4T:PS X (.Break pos) y6U:=fun _ _ σ H _ I h=>wpAny_Break ⟨σ,H,I,h⟩
theorem y0O:PS X (.Continue pos) w08:=fun _ _ σ H _ I h=>wpAny_Continue ⟨σ,H,I,h⟩
theorem Inv.quiet{pins:List (Addr×Obj)}{σ:St}{H:Hp}{s:Shared}(I:Inv X pins σ H s):interactive X.env=false:=by simp[interactive,I.ok.kind]
def Z8(te:TE):TS:=fun D σ H=>te σ H fun _ H1=>D.nx σ H1
theorem z0y(he:PE X e te)(hs:swapsWith e none pos.line X.env=pure false:=by rfl):PS X (.Expr e pos) (Z8 te):=by
 intro pins s σ H D I h
 exact wpAny_Expr_any (thn (he pins s σ H _ I h) fun v s1 ⟨x,H1,I1,r1,q1⟩=>⟨σ,H1,I1,q1⟩) I.quiet hs
def tRet(te:TE):TS:=fun D σ H=>te σ H D.rt
theorem z0i(he:PE X e te):PS X (.Return (some e) pos) (tRet te):=by
 intro pins s σ H D I h
 exact wpAny_Return_some (thn (he pins s σ H _ I h) fun v s1 ⟨x,H1,I1,r1,q1⟩=>⟨x,σ,H1,I1,r1,q1⟩)
def tIfS(c:TT)(t u:TS):TS:=fun D σ H=>c σ H fun b H1=>if b=true then t D σ H1 else u D σ H1
theorem z0G{c:Expr}{a b:List Stmt}{tc:TT}(hc:PT X c tc)(ha:PSs X a t)(hb:PSs X b u):PS X (.If c a b pos) (tIfS tc t u):=by
 intro pins s σ H D I h
 refine wpAny_If (thn (hc pins s σ H _ I h) fun d s1 hz=>?_)
 obtain⟨H1,I1,q1⟩:=hz
 cases d with
 | true=>exact ha pins s1 σ H1 D I1 q1
 | false=>exact hb pins s1 σ H1 D I1 q1
def y6s:TS:=fun _ _ _=>False
theorem z1x:PS X st y6s:=fun _ _ _ _ _ _ h=>h.elim
end
abbrev TG:=V->St->Hp->(St->Hp->Prop)->Prop
abbrev TGs:=List V->St->Hp->(St->Hp->Prop)->Prop
def PG(X:Cx)(target:Expr)(t:TG):Prop:=
 ∀(pins:List (Addr×Obj)) (s:Shared) (σ:St) (H:Hp) (v:V) (u:Value) (Q:St->Hp->Prop),Inv X pins σ H s->RelV v u->t v σ H Q->
  wpAny (model X.prog X.w) X.A (assign target X.env u) (fun _ s'=>∃σ' H',Inv X pins σ' H' s'/\Q σ' H') X.xe s
def PGs(X:Cx)(ts:List Expr)(t:TGs):Prop:=
 ∀(pins:List (Addr×Obj)) (s:Shared) (σ:St) (H:Hp) (vs:List V) (us:List Value) (Q:St->Hp->Prop),Inv X pins σ H s->Vals vs us->t vs σ H Q->
  wpAny (model X.prog X.w) X.A (assignInOrder ((assignEach ts X.env).map (·.2)) us) (fun _ s'=>∃σ' H',Inv X pins σ' H' s'/\Q σ' H') X.xe s
section
variable{X:Cx}{pos:Pos}
def y2w(i:Nat):TG:=fun v σ H Q=>Q (σ.set i (some v)) H
theorem z0k{i:Nat}{x:Str}(hN:X.N.Nodup)(hi:X.N[i]? = some x)(hx:Loc X.env.scope x)(hf:X.fn x=true\/X.env.scope.names.lookup x=some .local:=by first|exact .inl rfl|exact .inr rfl|assumption):PG X (.Name x pos) (y2w i):=by
 intro pins s σ H v u Q I r h
 exact wpAny_assign_Name (y0U I hN hi hx r (fun s' I'=>⟨_,H,I',h⟩) hf)
def Y5:TGs:=fun vs σ H Q=>vs=[]/\Q σ H
def y66(t:TG)(u:TGs):TGs:=fun vs σ H Q=>∃v r,vs=v::r/\t v σ H fun σ' H'=>u r σ' H' Q
theorem z5c:PGs X [] Y5:=by
 intro pins s σ H vs us Q I r h
 obtain⟨e,h⟩:=h
 subst e
 cases r
 exact assignInOrder_nil ⟨σ,H,I,h⟩
theorem z1g{e:Expr}{es:List Expr}{t:TG}{u:TGs}(h1:PG X e t)(h2:PGs X es u)
  (hs:(assignEach (e::es) X.env).map (·.2)=assign e X.env::(assignEach es X.env).map (·.2):=by rfl):PGs X (e::es) (y66 t u):=by
 intro pins s σ H vs us Q I r h
 obtain⟨v,vr,e1,h⟩:=h
 subst e1
 cases r with
 | cons r rr=>
  rw[hs]
  refine assignInOrder_cons (thn (h1 pins s σ H _ _ _ I r h) fun _ s1 hz=>?_)
  obtain⟨σ1,H1,I1,q1⟩:=hz
  exact h2 pins s1 σ1 H1 _ _ Q I1 rr q1
def W6(K:PySem.W.Frag)(n:Nat)(t:TGs):TG:=fun v σ H Q=>∃a xs,v=.ref a/\SqT K H a xs/\xs.length=n/\t xs σ H Q
theorem y5w{es:List Expr}{k:Nat}{t:TGs}{n:Nat}(hc:X.calm=true)(h:PGs X es t)
  (hn:(assignEach es X.env).length=n:=by rfl) (hst:(assignEach es X.env).findIdx? (·.1)=none:=by rfl):PG X (.Tuple es k pos) (W6 X.K n t):=by
 intro pins s σ H v u Q I r hw
 obtain⟨a,xs,e1,hq,hl,hw⟩:=hw
 subst e1
 cases r
 obtain⟨its,rv,ht,hz⟩:=I.tuple hq
 refine assign_Tuple_tuple (I.ok.hd hc) ht (by simp[hn,<- hl,rv.length]) hst fun h' hx=>?_
 have I1:Inv X pins σ H { s with heap:=h' }:=I.kept (t':=s.toks) fun b o e=>hx b o (cA (bQ e)) e
 exact h pins _ σ H xs _ Q I1 (by simpa using rv) hw
def tAsg(te:TE)(g:TG):TS:=fun D σ H=>te σ H fun x H1=>g x σ H1 D.nx
theorem z0s{i:Nat}{x:Str}{e:Expr}{te:TE}{pos':Pos}(hN:X.N.Nodup)(hi:X.N[i]? = some x)(hx:Loc X.env.scope x)(he:PE X e te)(hs:swapsWith e (some (.Name x pos')) pos.line X.env=pure false:=by rfl)(hf:X.fn x=true\/X.env.scope.names.lookup x=some .local:=by first|exact .inl rfl|exact .inr rfl|assumption) :
  PS X (.Assign [.Name x pos'] e pos) (tAsg te (y2w i)):=by
 intro pins s σ H D I h
 refine wpAny_Assign_Name (thn (he pins s σ H _ I h) fun v s1 hz=>?_) hs
 obtain⟨y,H1,I1,r1,q1⟩:=hz
 exact y0U I1 hN hi hx r1 (fun s2 I2=>⟨_,H1,I2,q1⟩) hf
end
section
variable{X:Cx}{pos:Pos}
end
structure It where
 go:Nat->Hp->Prop
 yld:Nat->Hp->V->Hp->Prop
 stop:Nat->Hp->Prop
def P0(X:Cx)(pins:List (Addr×Obj))(H:Hp)(b:Addr):Prop:=
 H b=none/\b≠X.env.locals/\b∉X.fs/\(b∈X.ex\/X.s₀.heap.objs.size≤b)/\(∀x c,X.env.cells.lookup x=some c->c≠b)/\∀p∈X.pn++pins,p.1≠b
theorem Inv.Q2{X:Cx}{pins:List (Addr×Obj)}{σ:St}{H H':Hp}{s:Shared}{b:Addr}(I:Inv X pins σ H s)(hb:s.heap.objs.size≤b)(hn:H' b=none):P0 X pins H' b:=by
 refine⟨hn,gG (cR I.lt hb),I.nofs hb,.inr (cM I.sz hb),fun x c e z=>?_,fun p hp z=>?_⟩
 ·obtain⟨v,q⟩:=I.cell x c e
  exact absurd (cR q.lt (by rw[z];exact hb)) (dE _)
 ·exact absurd (cR (bQ (I.pin p hp).1) (by rw[z];exact hb)) (dE _)
structure Turn(P:Program)(w:World)(K:PySem.W.Frag)(tg:Expr)(J:It)(fp:List Addr)(it:Addr)(tn:Nat->Heap->Prop):Prop where
 mem:it∈fp
 obj:∀i h,tn i h->∀b∈fp,∃o,h.get? b=some o/\∀v,o.data≠.cell v
 keep:∀i h h',tn i h->(∀b∈fp,∀o,h.get? b=some o->h'.get? b=some o)->tn i h'
 item:∀(X:Cx),X.prog=P->X.w=w->X.K=K->X.calm=true->∀(i:Nat) (pins:List (Addr×Obj)) (s:Shared) (σ:St) (H:Hp) (E:Value->Shared->Prop),Inv X pins σ H s->(∀b∈fp,P0 X pins H b)->tn i s.heap->J.go i H->
  wpAny (model P w) X.A (pyNext (.ref it)) (fun r s1=>∃u,r=some u/\
   wpAny (model P w) X.A (letOwnedTupleGo tg (.ref it) u) (fun _ s2=>∃x H',Inv X pins σ H' s2/\RelV x u/\J.yld i H x H'/\tn (i+1) s2.heap/\∀b∈fp,H' b=none) E s1) E s
 done:∀(X:Cx),X.prog=P->X.w=w->X.K=K->X.calm=true->∀(i:Nat) (pins:List (Addr×Obj)) (s:Shared) (σ:St) (H:Hp) (E:Value->Shared->Prop),Inv X pins σ H s->(∀b∈fp,P0 X pins H b)->tn i s.heap->J.stop i H->
  wpAny (model P w) X.A (pyNext (.ref it)) (fun r s1=>r=none/\Inv X pins σ H s1) E s
 self:∀(A:Around) (i:Nat) (s:Shared) (Q:Value->Shared->Prop) (E:Value->Shared->Prop),tn i s.heap->Q (.ref it) s->wpAny (model P w) A (pyIter (.ref it)) Q E s
abbrev TI:=St->Hp->(It->Hp->Prop)->Prop
def PIE(X:Cx)(pins:List (Addr×Obj))(σ:St)(tg:Expr)(R:It->Hp->Prop)(itv:Value)(s2:Shared):Prop:=
 ∃(it:Addr) (fp:List Addr) (tn:Nat->Heap->Prop) (J:It) (H':Hp),itv=.ref it/\Inv X pins σ H' s2/\Turn X.prog X.w X.K tg J fp it tn/\tn 0 s2.heap/\(∀b∈fp,P0 X pins H' b)/\R J H'
def PI(X:Cx)(tg iter:Expr)(wi:TI):Prop:=
 ∀(pins:List (Addr×Obj)) (s:Shared) (σ:St) (H:Hp) (R:It->Hp->Prop),Inv X pins σ H s->wi σ H R->
  wpAny (model X.prog X.w) X.A (eval iter X.env) (fun v s1=>wpAny (model X.prog X.w) X.A (pyIter v) (PIE X pins σ tg R) X.xe s1) X.xe s
theorem y1C {M : Model} {A : Around} {E : Value -> Shared -> Prop} {s : Shared} {tg : Expr} {it : Addr} {u : Value} {o : Obj} {n : String} {vs : Array Value} {Q : Unit -> Shared -> Prop} (ho : s.heap.get? it = some o) (hc : o.cls = .type n) (hd : o.data = .fields vs)
    (hn : ["enumerate", "zip", "dict_itemiterator", "dict_reverseitemiterator", "odict_iterator", "itertools.zip_longest", "itertools.pairwise"].contains n = false) (hQ : Q () s) : wpAny M A (letOwnedTupleGo tg (.ref it) u) Q E s := by
  unfold letOwnedTupleGo
  cases tg <;> first
    | exact wpAny_pure hQ
    | (cases u <;> first
        | exact wpAny_pure hQ
        | (refine wpAny_bind (wpAny_load ho ?_)
           rw [hc, hd]
           show wpAny M A (if (["enumerate", "zip", "dict_itemiterator", "dict_reverseitemiterator", "odict_iterator", "itertools.zip_longest", "itertools.pairwise"].contains n && vs[0]? == some (rawInt _)) = true then _ else _) Q E s
           rw [if_neg (by intro h; rw [hn, gM] at h; cases h)]
           exact wpAny_pure hQ))
def Itl(K:PySem.W.Frag)(a:Addr):It:=
 ⟨fun i H=>∃xs x,SqL K H a xs/\xs[i]? = some x,fun i H x H'=>H'=H/\∀xs,SqL K H a xs->xs[i]? = some x,fun i H=>∃xs,SqL K H a xs/\xs.length≤i⟩
def Itt(K:PySem.W.Frag)(a:Addr):It:=
 ⟨fun i H=>∃xs x,SqT K H a xs/\xs[i]? = some x,fun i H x H'=>H'=H/\∀xs,SqT K H a xs->xs[i]? = some x,fun i H=>∃xs,SqT K H a xs/\xs.length≤i⟩
def Itr(lo:Int)(n:Nat):It:=⟨fun i _=>i<n,fun i H x H'=>H'=H/\x=.int (lo+i),fun i _=>n≤i⟩
theorem z9T{P:Program}{w:World}{K:PySem.W.Frag}{tg:Expr}(a it:Addr):Turn P w K tg (Itl K a) [it] it (fun i h=>h.IsListIter it a i) where
 mem:=by simp
 obj:=fun i h st b hb=>by
  have e:b=it:=by simpa using hb
  subst e
  obtain⟨o,e,c,d⟩:=st
  exact⟨o,e,fun v z=>by rw[d] at z;cases z⟩
 keep:=fun i h h' st k=>st.at fun o e=>k it (by simp) o e
 item:=by
  intro X hP hw hK hc i pins s σ H E I hf st hg
  subst hP hw hK
  obtain⟨xs,x,hq,hx⟩:=hg
  obtain⟨its,rv,p,hz⟩:=I.list hq
  obtain⟨u,hu,ru⟩:=rv.get hx
  obtain⟨f0,f1,f2,f3,f4,f5⟩:=hf it (by simp)
  refine wpAny_pyNext_list_item st p.isList (x:=u) (by simpa using hu) fun h' st' sb=>?_
  have I1:Inv X pins σ H { s with heap:=h' }:=I.turned (t':=s.toks) (fun b o hb e=>(sb.2 b hb).trans e) f0 f1 f3 f4 f5
  obtain⟨o,e,c,d⟩:=id st'
  exact⟨u,rfl,y1C (s:={ s with heap:=h' }) e c d (by decide) ⟨x,H,I1,ru,⟨rfl,fun ys hy=>by rw[I.V5 hy hq];exact hx⟩,st',fun b hb=>(hf b hb).1⟩⟩
 done:=by
  intro X hP hw hK hc i pins s σ H E I hf st hg
  subst hP hw hK
  obtain⟨xs,hq,hx⟩:=hg
  obtain⟨its,rv,p,hz⟩:=I.list hq
  obtain⟨f0,f1,f2,f3,f4,f5⟩:=hf it (by simp)
  have hl:=rv.length
  exact wpAny_pyNext_list_end (I.ok.hd hc) st p.isList (by simp;omega) fun h' eb=>⟨rfl,I.turned (t':=s.toks) (fun b o hb e=>eb b o hb e) f0 f1 f3 f4 f5⟩
 self:=fun _ _ _ _ _ st h=>wpAny_pyIter_listiter st h
theorem z8s{P:Program}{w:World}{K:PySem.W.Frag}{tg:Expr}(a it:Addr):Turn P w K tg (Itt K a) [it] it (fun i h=>h.IsTupleIter it a i) where
 mem:=by simp
 obj:=fun i h st b hb=>by
  have e:b=it:=by simpa using hb
  subst e
  obtain⟨o,e,c,d⟩:=st
  exact⟨o,e,fun v z=>by rw[d] at z;cases z⟩
 keep:=fun i h h' st k=>st.at fun o e=>k it (by simp) o e
 item:=by
  intro X hP hw hK hc i pins s σ H E I hf st hg
  subst hP hw hK
  obtain⟨xs,x,hq,hx⟩:=hg
  obtain⟨its,rv,p,hz⟩:=I.tuple hq
  obtain⟨u,hu,ru⟩:=rv.get hx
  obtain⟨f0,f1,f2,f3,f4,f5⟩:=hf it (by simp)
  refine wpAny_pyNext_tuple_item st (show s.heap.IsTuple a its.toArray from p) (x:=u) (by simpa using hu) fun h' st' sb=>?_
  have I1:Inv X pins σ H { s with heap:=h' }:=I.turned (t':=s.toks) (fun b o hb e=>(sb.2 b hb).trans e) f0 f1 f3 f4 f5
  obtain⟨o,e,c,d⟩:=id st'
  exact⟨u,rfl,y1C (s:={ s with heap:=h' }) e c d (by decide) ⟨x,H,I1,ru,⟨rfl,fun ys hy=>by rw[I.Q5 hy hq];exact hx⟩,st',fun b hb=>(hf b hb).1⟩⟩
 done:=by
  intro X hP hw hK hc i pins s σ H E I hf st hg
  subst hP hw hK
  obtain⟨xs,hq,hx⟩:=hg
  obtain⟨its,rv,p,hz⟩:=I.tuple hq
  obtain⟨f0,f1,f2,f3,f4,f5⟩:=hf it (by simp)
  have hl:=rv.length
  exact wpAny_pyNext_tuple_end (I.ok.hd hc) st (show s.heap.IsTuple a its.toArray from p) (by simp;omega) fun h' eb=>⟨rfl,I.turned (t':=s.toks) (fun b o hb e=>eb b o hb e) f0 f1 f3 f4 f5⟩
 self:=fun _ _ _ _ _ st h=>wpAny_pyIter_tupleiter st h
theorem y1F{P:Program}{w:World}{K:PySem.W.Frag}{tg:Expr}(it:Addr)(lo:Int)(n:Nat):Turn P w K tg (Itr lo n) [it] it (fun i h=>IsRangeIter h it (lo+(i:Nat)*1) ((n:Int)-(i:Nat)) 1) where
 mem:=by simp
 obj:=fun i h st b hb=>by
  have e:b=it:=by simpa using hb
  subst e
  exact⟨_,st,fun v z=>by
   have z':Data.fields _=Data.cell v:=z
   cases z'⟩
 keep:=fun i h h' st k=>k it (by simp) _ st
 item:=by
  intro X hP hw hK hc i pins s σ H E I hf st hg
  subst hP hw hK
  obtain⟨f0,f1,f2,f3,f4,f5⟩:=hf it (by simp)
  have W:=Walks.range (prog:=X.prog) (w:=X.w) (I.ok.hd hc) it lo 1 n
  refine W.item i s _ _ hg st fun v h' tk hv st' kk=>?_
  obtain⟨t,rfl⟩:=hv
  have I1:Inv X pins σ H { s with heap:=h',toks:=tk }:=I.turned (fun b o hb e=>kk b o (by simpa using hb) e) f0 f1 f3 f4 f5
  refine⟨_,rfl,y1C (s:={ s with heap:=h',toks:=tk }) (n:="range_iterator") st' rfl rfl (by decide) ⟨.int (lo+i),H,I1,⟨t,?_⟩,⟨rfl,rfl⟩,st',fun b hb=>(hf b hb).1⟩⟩
  rw[Int.mul_one]
 done:=by
  intro X hP hw hK hc i pins s σ H E I hf st hg
  subst hP hw hK
  obtain⟨f0,f1,f2,f3,f4,f5⟩:=hf it (by simp)
  exact wpAny_pyNext_range_end (I.ok.hd hc) st (by have:n≤i:=hg;omega) fun h' eb=>⟨rfl,I.turned (t':=s.toks) (fun b o hb e=>eb b o hb e) f0 f1 f3 f4 f5⟩
 self:=fun _ _ _ _ _ st h=>wpAny_pyIter_rangeiter st h
section
variable{X:Cx}{tg:Expr}
def w0a(K:PySem.W.Frag)(tl:TE):TI:=fun σ H R=>tl σ H fun x H1=>∃a,x=.ref a/\(∃xs,SqL K H1 a xs)/\R (Itl K a) H1
def iTup(K:PySem.W.Frag)(tl:TE):TI:=fun σ H R=>tl σ H fun x H1=>∃a,x=.ref a/\(∃xs,SqT K H1 a xs)/\R (Itt K a) H1
theorem z1I{l:Expr}{tl:TE}(hl:PE X l tl):PI X tg l (w0a X.K tl):=by
 intro pins s σ H R I h
 refine thn (hl pins s σ H _ I h) fun v s1 hz=>?_
 obtain⟨x,H1,I1,r1,q1⟩:=hz
 obtain⟨a,e,⟨xs,hq⟩,q⟩:=q1
 subst e
 cases r1
 obtain⟨its,rv,p,hz⟩:=I1.list hq
 refine wpAny_pyIter_list p.isList ?_
 refine⟨s1.heap.objs.size,[s1.heap.objs.size],_,_,H1,rfl,I1.kept (t':=s1.toks) fun b o e=>bB _ e,z9T a _,⟨_,bN _ rfl,rfl,rfl⟩,fun b hb=>?_,q⟩
 have e:b=s1.heap.objs.size:=by simpa using hb
 subst e
 exact I1.Q2 (bH _) (I1.hok.fresh (bH _))
theorem z2r{l:Expr}{tl:TE}(hl:PE X l tl):PI X tg l (iTup X.K tl):=by
 intro pins s σ H R I h
 refine thn (hl pins s σ H _ I h) fun v s1 hz=>?_
 obtain⟨x,H1,I1,r1,q1⟩:=hz
 obtain⟨a,e,⟨xs,hq⟩,q⟩:=q1
 subst e
 cases r1
 obtain⟨its,rv,p,hz⟩:=I1.tuple hq
 refine wpAny_pyIter_tuple (show s1.heap.IsTuple a its.toArray from p) ?_
 refine⟨s1.heap.objs.size,[s1.heap.objs.size],_,_,H1,rfl,I1.kept (t':=s1.toks) fun b o e=>bB _ e,z8s a _,⟨_,bN _ rfl,rfl,rfl⟩,fun b hb=>?_,q⟩
 have e:b=s1.heap.objs.size:=by simpa using hb
 subst e
 exact I1.Q2 (bH _) (I1.hok.fresh (bH _))
theorem y0R{pins:List (Addr×Obj)}{σ:St}{H:Hp}{s:Shared}{R:It->Hp->Prop}{E:Value->Shared->Prop}{lo hi:Int}{t u v:Tok}{tk:Nat}(I:Inv X pins σ H s)(h1:-(2^62)≤lo)(h2:lo<2^62)(h3:-(2^62)≤hi)(h4:hi<2^62)
  (q:R (Itr lo (hi-lo).toNat) H):wpAny (model X.prog X.w) X.A (pyIter (.ref s.heap.objs.size)) (PIE X pins σ tg R) E { s with heap:=s.heap.push { cls:=.type "range",data:=.fields #[.int lo t,.int hi u,.int 1 v] },toks:=tk }:=by
 refine wpAny_pyIter_range (IsRange.new ..) (small_one h1 h2 h3 h4) ?_
 have I1:Inv X pins σ H { s with heap:=s.heap.push { cls:=.type "range",data:=.fields #[.int lo t,.int hi u,.int 1 v] },toks:=tk }:=I.kept fun b o e=>bB _ e
 refine⟨(s.heap.push { cls:=.type "range",data:=.fields #[.int lo t,.int hi u,.int 1 v] }).objs.size,[(s.heap.push { cls:=.type "range",data:=.fields #[.int lo t,.int hi u,.int 1 v] }).objs.size],_,_,H,rfl,
  I1.kept (t':=tk) fun b o e=>bB _ e,y1F _ lo (hi-lo).toNat,?_,fun b hb=>?_,q⟩
 ·have e1:lo+((0:Nat):Int)*1=lo:=by simp
  have e2:(((hi-lo).toNat:Nat):Int)-((0:Nat):Int)=Builtin.Range.rangeSize lo hi 1:=by rw[rangeSize_one];split<;>omega
  show IsRangeIter _ _ (lo+((0:Nat):Int)*1) ((((hi-lo).toNat:Nat):Int)-((0:Nat):Int)) 1
  rw[e1,e2]
  exact bN _ rfl
 ·have e:b=(s.heap.push { cls:=.type "range",data:=.fields #[.int lo t,.int hi u,.int 1 v] }).objs.size:=by simpa using hb
  subst e
  exact I1.Q2 (bH _) (I1.hok.fresh (bH _))
def w0c(ta:TA):TI:=fun σ H R=>ta σ H fun vs H1=>∃j:Int,vs=[.int j]/\-(2^62)≤j/\j<2^62/\R (Itr 0 j.toNat) H1
def w0z(ta:TA):TI:=fun σ H R=>ta σ H fun vs H1=>∃i j:Int,vs=[.int i,.int j]/\(-(2^62)≤i/\i<2^62/\-(2^62)≤j/\j<2^62)/\R (Itr i (j-i).toNat) H1
theorem z1q{a:Expr}{ta:TA}{p pos:Pos}(hg:Gl X "range")(hm:X.mg "range"=none)(ha:PA X [a] ta)(hs:starEach [a] X.env=[(false,eval a X.env)]:=by rfl):PI X tg (.Call (.Name "range" p) [a] [] pos) (w0c ta):=by
 intro pins s σ H R I h
 refine Call_ (z4L I hg hm boot_range (dC (thn (ha pos pins s σ H _ I h) fun us s1 hz=>?_) hs rfl))
 obtain⟨vs,H1,I1,r1,q1⟩:=hz
 obtain⟨j,e,q1,q2,q⟩:=q1
 subst e
 cases r1 with
 | cons r rr=>
  cases rr
  obtain⟨t,rfl⟩:=r
  exact call_range_1 (y0R I1 (by omega) (by omega) q1 q2 (by simpa using q))
theorem z5v{a b:Expr}{ta:TA}{p pos:Pos}(hg:Gl X "range")(hm:X.mg "range"=none)(ha:PA X [a,b] ta)(hs:starEach [a,b] X.env=[(false,eval a X.env),(false,eval b X.env)]:=by rfl)(hs2:starEach [b] X.env=[(false,eval b X.env)]:=by rfl) :
  PI X tg (.Call (.Name "range" p) [a,b] [] pos) (w0z ta):=by
 intro pins s σ H R I h
 refine Call_ (z4L I hg hm boot_range (dC (thn (ha pos pins s σ H _ I h) fun us s1 ⟨vs,H1,I1,r1,q1⟩=>?_) (by rw[hs,hs2]) (by rw[hs2];rfl)))
 obtain⟨i,j,e,⟨q1,q2,q3,q4⟩,q⟩:=q1
 subst e
 cases r1 with
 | cons r rr=>
  cases rr with
  | cons r' rr=>
   cases rr
   obtain⟨t,rfl⟩:=r
   obtain⟨t',rfl⟩:=r'
   exact call_range_2 (y0R I1 q1 q2 q3 q4 q)
def tFor(wi:TI)(g:TG)(tb:TS):TS:=fun D σ H=>wi σ H fun J H1=>∃W:Nat->Nat->St->Hp->Prop,(∃m,W 0 m σ H1)/\∀i m σ H,W i m σ H->
 (J.stop i H/\D.nx σ H)\/(J.go i H/\∃N:St->Hp->Prop,(∀σ' H',N σ' H'->∃m',m'<m/\W (i+1) m' σ' H')/\∀x H',J.yld i H x H'->g x σ H' fun σ2 H2=>tb { D with nx:=N,ct:=N,bk:=D.nx } σ2 H2)
def y01(fp:List Addr)(h:Heap):List (Addr×Obj):=fp.filterMap fun b=>(h.get? b).map fun o=>(b,o)
theorem z4w{fp:List Addr}{h:Heap}{b:Addr}{o:Obj}(hb:b∈fp)(e:h.get? b=some o):(b,o)∈y01 fp h:=List.mem_filterMap.mpr ⟨b,hb,by rw[e];rfl⟩
theorem y2s{fp:List Addr}{h:Heap}{p:Addr×Obj}(hp:p∈y01 fp h):p.1∈fp/\h.get? p.1=some p.2:=by
 obtain⟨b,hb,e⟩:=List.mem_filterMap.mp hp
 cases q:h.get? b with
 | none=>rw[q] at e;cases e
 | some o=>
  rw[q] at e
  have e':(b,o)=p:=Option.some.inj e
  subst e'
  exact⟨hb,q⟩
theorem Inv.pinned{pins:List (Addr×Obj)}{σ:St}{H:Hp}{s:Shared}{fp:List Addr}(I:Inv X pins σ H s)(hf:∀b∈fp,P0 X pins H b)(ho:∀b∈fp,∃o,s.heap.get? b=some o/\∀v,o.data≠.cell v):Inv X (pins++y01 fp s.heap) σ H s:=
 I.O1 fun p hp=>(bS.mp hp).elim (fun z=>I.pin p (cF _ z)) fun z=>by
  obtain⟨hb,e⟩:=y2s z
  obtain⟨f0,f1,f2,_⟩:=hf p.1 hb
  obtain⟨o,e',d⟩:=ho p.1 hb
  rw[e] at e';cases e'
  exact⟨e,f0,f1,f2,d⟩
theorem Inv.O2{pins pl:List (Addr×Obj)}{σ:St}{H:Hp}{s:Shared}(I:Inv X (pins++pl) σ H s):Inv X pins σ H s:=I.O1 fun p hp=>I.pin p (cF _ (dS _ hp))
theorem z15{iter:Expr}{body:List Stmt}{wi:TI}{g:TG}{tb:TS}{pos:Pos}(hp:PassesOwn (model X.prog X.w) X.A X.env X.xe)(hc:X.calm=true)(hi:PI X tg iter wi)(hg:PG X tg g)(hb:PSs X body tb)
  (hs:∀x,foldedSetIterable iter X.env x=pure x:=by intro _;rfl):PS X (.For tg iter body [] pos) (tFor wi g tb):=by
 intro pins s σ H D I h
 refine wpAny_For (thn (hi pins s σ H _ I h) fun v s1 h1=>thn h1 fun itv s2 h2=>?_) hs
 obtain⟨it,fp,tn,J,H2,e,I2,T,st2,f2,W,⟨m0,w0⟩,turn⟩:=h2
 subst e
 have Y6:∀{H':Hp},(∀b∈fp,H' b=none)->∀b∈fp,P0 X pins H' b:=fun hn b hb=>⟨hn b hb,(f2 b hb).2⟩
 refine codeAny_forLoop_any (fun n s'=>∃i σ' H',Inv X pins σ' H' s'/\tn i s'.heap/\(∀b∈fp,H' b=none)/\W i n σ' H') ?_ m0 ⟨0,σ,H2,I2,st2,fun b hb=>(f2 b hb).1,w0⟩
 rintro n s3 ⟨i,σ3,H3,I3,st3,fr3,w3⟩
 rcases turn i n σ3 H3 w3 with ⟨stop,qn⟩|⟨go,N,hN,step⟩
 ·refine wpAny_passesOwn hp (thn (T.done X rfl rfl rfl hc i pins s3 σ3 H3 X.xe I3 (Y6 fr3) st3 stop) fun r s4 hz=>?_)
  obtain⟨hr,I4⟩:=hz
  subst hr
  exact wpAny_execs_nil ⟨σ3,H3,I4,qn⟩
 ·refine wpAny_passesOwn hp (thn (T.item X rfl rfl rfl hc i pins s3 σ3 H3 X.xe I3 (Y6 fr3) st3 go) fun r s4 hz=>?_)
  obtain⟨u,hr,h4⟩:=hz
  subst hr
  refine wpAny_passesOwn hp (thn h4 fun _ s5 hz=>?_)
  obtain⟨x,H5,I5,r5,y5,st5,fr5⟩:=hz
  have I5':=I5.pinned (Y6 fr5) (T.obj _ _ st5)
  refine wpAny_passesOwn hp (thn (hg _ s5 σ3 H5 x u _ I5' r5 (step x H5 y5)) fun _ s6 hz=>?_)
  obtain⟨σ6,H6,I6,q6⟩:=hz
  refine wpAny_passesOwn hp (thn (hb _ s6 σ6 H6 _ I6 q6) fun f s7 q7=>?_)
  have again:∀{σ7:St}{H7:Hp},Inv X (pins++y01 fp s5.heap) σ7 H7 s7->N σ7 H7->∃m,m<n/\∃i σ' H',Inv X pins σ' H' s7/\tn i s7.heap/\(∀b∈fp,H' b=none)/\W i m σ' H':=fun {σ7 H7} I7 n7=>by
   obtain⟨m',hm,w7⟩:=hN σ7 H7 n7
   refine⟨m',hm,i+1,σ7,H7,I7.O2,T.keep _ _ _ st5 fun b hb o e=>(I7.pin (b,o) (cF _ (cF _ (z4w hb e)))).1,fun b hb=>?_,w7⟩
   obtain⟨o,e,d⟩:=T.obj _ _ st5 b hb
   exact(I7.pin (b,o) (cF _ (cF _ (z4w hb e)))).2.1
  cases f with
  | next=>obtain⟨σ7,H7,I7,n7⟩:=q7;exact again I7 n7
  | cont=>obtain⟨σ7,H7,I7,n7⟩:=q7;exact again I7 n7
  | brk=>obtain⟨σ7,H7,I7,q7⟩:=q7;exact⟨σ7,H7,I7.O2,q7⟩
  | ret v=>obtain⟨x7,σ7,H7,I7,r7,q7⟩:=q7;exact⟨x7,σ7,H7,I7.O2,r7,q7⟩
end
theorem z22{K:PySem.W.Frag}{a:Addr}{xs:List V}{g:TG}{tb:TS}{D:Ends}{σ:St}{H:Hp}(Pv:Nat->St->Hp->Prop)(h0:Pv 0 σ H)(hl:∀i σ H,i≤xs.length->Pv i σ H->SqL K H a xs)
  (hs:∀i x σ H,xs[i]? = some x->Pv i σ H->g x σ H fun σ2 H2=>tb { D with nx:=Pv (i+1),ct:=Pv (i+1),bk:=D.nx } σ2 H2) (hd:∀σ H,Pv xs.length σ H->D.nx σ H) :
  ∃W:Nat->Nat->St->Hp->Prop,(∃m,W 0 m σ H)/\∀i m σ H,W i m σ H->
   ((Itl K a).stop i H/\D.nx σ H)\/((Itl K a).go i H/\∃N:St->Hp->Prop,(∀σ' H',N σ' H'->∃m',m'<m/\W (i+1) m' σ' H')/\∀x H',(Itl K a).yld i H x H'->g x σ H' fun σ2 H2=>tb { D with nx:=N,ct:=N,bk:=D.nx } σ2 H2):=by
 refine⟨fun i m σ H=>m=xs.length-i/\i≤xs.length/\Pv i σ H,⟨xs.length,by simp,cT _,h0⟩,?_⟩
 rintro i m σ H ⟨rfl,hi,p⟩
 have q:=hl i σ H hi p
 by_cases hlt:i<xs.length
 ·refine .inr ⟨⟨xs,xs[i],q,by simp[hlt]⟩,Pv (i+1),fun σ' H' p'=>⟨xs.length-(i+1),by omega,rfl,hlt,p'⟩,fun x H' y=>?_⟩
  obtain⟨e,y⟩:=y
  subst e
  exact hs i x σ _ (y xs q) p
 ·have e:i=xs.length:=by omega
  subst e
  exact .inl ⟨⟨xs,q,bH _⟩,hd σ H p⟩
theorem z7W{K:PySem.W.Frag}{a:Addr}{xs:List V}{g:TG}{tb:TS}{D:Ends}{σ:St}{H:Hp}(Pv:Nat->St->Hp->Prop)(h0:Pv 0 σ H)(hl:∀i σ H,i≤xs.length->Pv i σ H->SqT K H a xs)
  (hs:∀i x σ H,xs[i]? = some x->Pv i σ H->g x σ H fun σ2 H2=>tb { D with nx:=Pv (i+1),ct:=Pv (i+1),bk:=D.nx } σ2 H2) (hd:∀σ H,Pv xs.length σ H->D.nx σ H) :
  ∃W:Nat->Nat->St->Hp->Prop,(∃m,W 0 m σ H)/\∀i m σ H,W i m σ H->
   ((Itt K a).stop i H/\D.nx σ H)\/((Itt K a).go i H/\∃N:St->Hp->Prop,(∀σ' H',N σ' H'->∃m',m'<m/\W (i+1) m' σ' H')/\∀x H',(Itt K a).yld i H x H'->g x σ H' fun σ2 H2=>tb { D with nx:=N,ct:=N,bk:=D.nx } σ2 H2):=by
 refine⟨fun i m σ H=>m=xs.length-i/\i≤xs.length/\Pv i σ H,⟨xs.length,by simp,cT _,h0⟩,?_⟩
 rintro i m σ H ⟨rfl,hi,p⟩
 have q:=hl i σ H hi p
 by_cases hlt:i<xs.length
 ·refine .inr ⟨⟨xs,xs[i],q,by simp[hlt]⟩,Pv (i+1),fun σ' H' p'=>⟨xs.length-(i+1),by omega,rfl,hlt,p'⟩,fun x H' y=>?_⟩
  obtain⟨e,y⟩:=y
  subst e
  exact hs i x σ _ (y xs q) p
 ·have e:i=xs.length:=by omega
  subst e
  exact .inl ⟨⟨xs,q,bH _⟩,hd σ H p⟩
theorem z1p{lo:Int}{n:Nat}{g:TG}{tb:TS}{D:Ends}{σ:St}{H:Hp}(Pv:Nat->St->Hp->Prop)(h0:Pv 0 σ H)
  (hs:∀i σ H,i<n->Pv i σ H->g (.int (lo+i)) σ H fun σ2 H2=>tb { D with nx:=Pv (i+1),ct:=Pv (i+1),bk:=D.nx } σ2 H2) (hd:∀σ H,Pv n σ H->D.nx σ H) :
  ∃W:Nat->Nat->St->Hp->Prop,(∃m,W 0 m σ H)/\∀i m σ H,W i m σ H->
   ((Itr lo n).stop i H/\D.nx σ H)\/((Itr lo n).go i H/\∃N:St->Hp->Prop,(∀σ' H',N σ' H'->∃m',m'<m/\W (i+1) m' σ' H')/\∀x H',(Itr lo n).yld i H x H'->g x σ H' fun σ2 H2=>tb { D with nx:=N,ct:=N,bk:=D.nx } σ2 H2):=by
 refine⟨fun i m σ H=>m=n-i/\i≤n/\Pv i σ H,⟨n,by simp,cT _,h0⟩,?_⟩
 rintro i m σ H ⟨rfl,hi,p⟩
 by_cases hlt:i<n
 ·refine .inr ⟨hlt,Pv (i+1),fun σ' H' p'=>⟨n-(i+1),by omega,rfl,hlt,p'⟩,fun x H' y=>?_⟩
  obtain⟨e,y⟩:=y
  subst e y
  exact hs i σ _ hlt p
 ·have e:i=n:=by omega
  subst e
  exact .inl ⟨bH _,hd σ H p⟩
abbrev R2:=V->V->Hp->VK->Prop
def OpR(X:Cx)(f:Value->Value->Sem Value)(r:R2):Prop:=
 ∀(pins:List (Addr×Obj)) (s:Shared) (σ:St) (H:Hp) (x y:V) (v u:Value) (Q:VK),Inv X pins σ H s->RelV x v->RelV y u->r x y H Q->
  wpAny (model X.prog X.w) X.A (f v u) (EP X pins σ Q) X.xe s
def UnR(X:Cx)(f:Value->Sem Value)(r:V->Hp->VK->Prop):Prop:=
 ∀(pins:List (Addr×Obj)) (s:Shared) (σ:St) (H:Hp) (x:V) (v:Value) (Q:VK),Inv X pins σ H s->RelV x v->r x H Q->
  wpAny (model X.prog X.w) X.A (f v) (EP X pins σ Q) X.xe s
def z3F(X:Cx)(f:Value)(r:List V->Hp->VK->Prop):Prop:=
 ∀(pins:List (Addr×Obj)) (s:Shared) (σ:St) (H:Hp) (xs:List V) (us:List Value) (Q:VK),Inv X pins σ H s->Vals xs us->r xs H Q->
  wpAny (model X.prog X.w) X.A (call f us) (EP X pins σ Q) X.xe s
def tOp(r:R2)(ta tb:TE):TE:=fun σ H Q=>ta σ H fun x H1=>tb σ H1 fun y H2=>r x y H2 Q
def tUn(r:V->Hp->VK->Prop)(ta:TE):TE:=fun σ H Q=>ta σ H fun x H1=>r x H1 Q
def rI(C:Int->Int->Prop)(g:Int->Int->V):R2:=fun x y H Q=>∃i j,x=.int i/\y=.int j/\C i j/\Q (g i j) H
def rI0(g:Int->Int->V):R2:=fun x y H Q=>∃i j,x=.int i/\y=.int j/\Q (g i j) H
def rU(g:Int->V):V->Hp->VK->Prop:=fun x H Q=>∃i,x=.int i/\Q (g i) H
section
variable{X:Cx}{a b c:Expr}{ta tb tc:TE}{pos:Pos}
theorem X8(ha:PE X a ta)(hb:PE X b tb){pins:List (Addr×Obj)}{s:Shared}{σ:St}{H:Hp}{R:V->V->Hp->Prop}(I:Inv X pins σ H s)
  (h:ta σ H fun x H1=>tb σ H1 fun y H2=>R x y H2) {Q:Value->Shared->Prop}{f:Value->Value->Sem Value}
  (hf:∀v u s2 x y H2,Inv X pins σ H2 s2->RelV x v->RelV y u->R x y H2->wpAny (model X.prog X.w) X.A (f v u) Q X.xe s2) :
  wpAny (model X.prog X.w) X.A (eval a X.env) (fun v s₁=>wpAny (model X.prog X.w) X.A (eval b X.env) (fun u s₂=>wpAny (model X.prog X.w) X.A (f v u) Q X.xe s₂) X.xe s₁) X.xe s:=by
 refine thn (ha pins s σ H _ I h) fun v s1 hz=>?_
 obtain⟨x,H1,I1,r1,q1⟩:=hz
 refine thn (hb pins s1 σ H1 _ I1 q1) fun u s2 hz=>?_
 obtain⟨y,H2,I2,r2,q2⟩:=hz
 exact hf v u s2 x y H2 I2 r1 r2 q2
theorem z0q{op:Operator}{r:R2}(ho:OpR X (binaryOp op) r)(ha:PE X a ta)(hb:PE X b tb):PE X (.BinOp a op b pos) (tOp r ta tb):=by
 intro pins s σ H Q I h
 exact wpAny_BinOp (X8 ha hb I h fun v u s2 x y H2 I2 rx ry q=>ho pins s2 σ H2 x y v u Q I2 rx ry q)
theorem y6T{op:UnaryOp}{r:V->Hp->VK->Prop}(ho:UnR X (unaryOp op) r)(ha:PE X a ta):PE X (.UnaryOp op a pos) (tUn r ta):=by
 intro pins s σ H Q I h
 exact UnaryOp_ (thn (ha pins s σ H _ I h) fun v s1 ⟨x,H1,I1,r1,q1⟩=>ho pins s1 σ H1 x v Q I1 r1 q1)
theorem opI{f:Value->Value->Sem Value}{C:Int->Int->Prop}{g:Int->Int->Int}
  (rule:∀(i j:Int) (t u:Tok) (s:Shared) (Q:Value->Shared->Prop) (E:Value->Shared->Prop),C i j->Q (.int (g i j) s.toks) { s with toks:=s.toks+1 }->wpAny (model X.prog X.w) X.A (f (.int i t) (.int j u)) Q E s) :
  OpR X f (rI C fun i j=>.int (g i j)):=by
 intro pins s σ H x y v u Q I rx ry h
 obtain⟨i,j,rfl,rfl,hc,q⟩:=h
 obtain⟨t,rfl⟩:=rx
 obtain⟨t',rfl⟩:=ry
 exact rule i j t t' s _ _ hc ⟨.int (g i j),H,I.tok _,⟨_,rfl⟩,q⟩
theorem opI0{f:Value->Value->Sem Value}{g:Int->Int->Int}
  (rule:∀(i j:Int) (t u:Tok) (s:Shared) (Q:Value->Shared->Prop) (E:Value->Shared->Prop),Q (.int (g i j) s.toks) { s with toks:=s.toks+1 }->wpAny (model X.prog X.w) X.A (f (.int i t) (.int j u)) Q E s) :
  OpR X f (rI0 fun i j=>.int (g i j)):=by
 intro pins s σ H x y v u Q I rx ry h
 obtain⟨i,j,rfl,rfl,q⟩:=h
 obtain⟨t,rfl⟩:=rx
 obtain⟨t',rfl⟩:=ry
 exact rule i j t t' s _ _ ⟨.int (g i j),H,I.tok _,⟨_,rfl⟩,q⟩
theorem W2{f:Value->Value->Sem Value}{g:Int->Int->Bool}
  (rule:∀(i j:Int) (t u:Tok) (s:Shared) (Q:Value->Shared->Prop) (E:Value->Shared->Prop),Q (.bool (g i j)) s->wpAny (model X.prog X.w) X.A (f (.int i t) (.int j u)) Q E s) :
  OpR X f (rI0 fun i j=>.bl (g i j)):=by
 intro pins s σ H x y v u Q I rx ry h
 obtain⟨i,j,rfl,rfl,q⟩:=h
 obtain⟨t,rfl⟩:=rx
 obtain⟨t',rfl⟩:=ry
 exact rule i j t t' s _ _ ⟨.bl (g i j),H,I,rfl,q⟩
def CDiv(i j:Int):Prop:=0<j/\j<1073741824
def CPow(i j:Int):Prop:=0≤j/\j≤1000000/\i.natAbs<2^64
def Z1(i j:Int):Prop:=(-(2^64)<i/\i<2^64)\/(-(2^64)<j/\j<2^64)
theorem Z1.ok{i j:Int}(h:Z1 i j):IntMulOk i j:=by
 rcases h with ⟨h1,h2⟩|⟨h1,h2⟩
 ·exact .of_left (intBits_le_64 h1 h2)
 ·exact .of_right (intBits_le_64 h1 h2)
theorem z1m:OpR X (binaryOp .Add) (rI0 fun i j=>.int (i+j)):=opI0 fun _ _ _ _ _ _ _ q=>add_int q
theorem z1M:OpR X (binaryOp .Sub) (rI0 fun i j=>.int (i-j)):=opI0 fun _ _ _ _ _ _ _ q=>sub_int q
theorem z5T:OpR X (binaryOp .Mult) (rI Z1 fun i j=>.int (i*j)):=opI fun _ _ _ _ _ _ _ hc q=>mul_int q hc.ok
theorem z1n:OpR X (binaryOp .FloorDiv) (rI CDiv fun i j=>.int (i / j)):=opI fun i j _ _ _ _ _ hc q=>by
 have h1:(0:Int)<j:=hc.1
 have h2:j<1073741824:=hc.2
 exact floordiv_int (by omega) (by rw[Int.fdiv_eq_ediv_of_nonneg i (by omega)];exact q) (.inl (gT (by omega)))
theorem z0T:OpR X (binaryOp .Mod) (rI (fun _ j=>0<j) fun i j=>.int (i%j)):=opI fun i j _ _ _ _ _ hc q=>by
 have h1:(0:Int)<j:=hc
 exact mod_int' (by omega) (by rw[Int.fmod_eq_emod_of_nonneg i (by omega)];exact q)
theorem y6N:OpR X (binaryOp .Pow) (rI CPow fun i j=>.int (i^j.toNat)):=opI fun _ _ _ _ _ _ _ hc q=>pow_int_small hc.1 hc.2.1 hc.2.2 q
theorem unI{f:Value->Sem Value}{g:Int->Int}
  (rule:∀(i:Int) (t:Tok) (s:Shared) (Q:Value->Shared->Prop) (E:Value->Shared->Prop),Q (.int (g i) s.toks) { s with toks:=s.toks+1 }->wpAny (model X.prog X.w) X.A (f (.int i t)) Q E s) :
  UnR X f (rU fun i=>.int (g i)):=by
 intro pins s σ H x v Q I rx h
 obtain⟨i,rfl,q⟩:=h
 obtain⟨t,rfl⟩:=rx
 exact rule i t s _ _ ⟨.int (g i),H,I.tok _,⟨_,rfl⟩,q⟩
theorem y5d:UnR X (unaryOp .USub) (rU fun i=>.int (-i)):=unI fun _ _ _ _ _ q=>neg_int q
end
def Y7:V->V->Bool
 | .non,.non=>true|.non,.int _=>true|.int _,.non=>true|.non,.bl _=>true|.bl _,.non=>true|.non,.str _=>true|.str _,.non=>true
 | .int _,.int _=>true|.bl _,.bl _=>true|.str _,.str _=>true|.byt _,.byt _=>true
 | .int _,.str _=>true|.str _,.int _=>true|.bl _,.str _=>true|.str _,.bl _=>true
 | _,_=>false
def rEq:R2:=fun x y H Q=>Y7 x y=true/\Q (.bl (decide (x=y))) H
def rNe:R2:=fun x y H Q=>Y7 x y=true/\Q (.bl (!decide (x=y))) H
theorem y3P{i j:Int}:decide (V.int i=V.int j)=(i == j):=by
 rw[cX]
 simp
theorem y5p{i j:Bool}:decide (V.bl i=V.bl j)=(i == j):=by
 rw[cX]
 simp
theorem y2O{i j:Str}:decide (V.str i=V.str j)=(i == j):=by
 rw[cX]
 simp
theorem y3Q{i j:Array UInt8}:decide (V.byt i=V.byt j)=(i.toList == j.toList):=by
 rw[cX]
 cases i
 cases j
 simp
section
variable{X:Cx}{a b c:Expr}{ta tb tc:TE}{pos:Pos}
theorem z14{pins:List (Addr×Obj)}{σ:St}{H:Hp}{s:Shared}{Q:VK}{k k':Bool}(I:Inv X pins σ H s)(q:Q (.bl k) H)(e:k=k'):EP X pins σ Q (.bool k') s:=by
 subst e
 exact⟨.bl k,H,I,rfl,q⟩
theorem z2L:OpR X (compareOp .Eq) rEq:=by
 intro pins s σ H x y v u Q I rx ry h
 obtain⟨hs,q⟩:=h
 cases x with
 | non=>
  cases rx
  cases y with
  | non=>cases ry;exact PySem.EqNone.eq_none_none (z14 I q (by simp))
  | bl j=>cases ry;exact PySem.EqNone.eq_none_bool (z14 I q (by simp))
  | int j=>obtain⟨t',rfl⟩:=ry;exact PySem.EqNone.eq_none_int (z14 I q (by simp))
  | str j=>obtain⟨t',rfl⟩:=ry;exact PySem.EqNone.eq_none_str (z14 I q (by simp))
  | _=>exact absurd (show false=true from hs) bO
 | bl i=>
  cases rx
  cases y with
  | non=>cases ry;exact PySem.EqNone.eq_bool_none (z14 I q (by simp))
  | bl j=>cases ry;exact eq_bool (z14 I q y5p)
  | str j=>obtain⟨t',rfl⟩:=ry;exact PySem.EqMixed.eq_bool_str (z14 I q (by simp))
  | _=>exact absurd (show false=true from hs) bO
 | int i=>
  obtain⟨t,rfl⟩:=rx
  cases y with
  | non=>cases ry;exact PySem.EqNone.eq_int_none (z14 I q (by simp))
  | int j=>obtain⟨t',rfl⟩:=ry;exact eq_int (z14 I q y3P)
  | str j=>obtain⟨t',rfl⟩:=ry;exact PySem.EqMixed.eq_int_str (z14 I q (by simp))
  | _=>exact absurd (show false=true from hs) bO
 | str i=>
  obtain⟨t,rfl⟩:=rx
  cases y with
  | non=>cases ry;exact PySem.EqNone.eq_str_none (z14 I q (by simp))
  | bl j=>cases ry;exact PySem.EqMixed.eq_str_bool (z14 I q (by simp))
  | int j=>obtain⟨t',rfl⟩:=ry;exact PySem.EqMixed.eq_str_int (z14 I q (by simp))
  | str j=>obtain⟨t',rfl⟩:=ry;exact eq_str (z14 I q y2O)
  | _=>exact absurd (show false=true from hs) bO
 | byt i=>
  obtain⟨t,rfl⟩:=rx
  cases y with
  | byt j=>obtain⟨t',rfl⟩:=ry;exact PySem.W.eq_bytes (z14 I q y3Q)
  | _=>exact absurd (show false=true from hs) bO
 | _=>cases y<;>exact absurd (show false=true from hs) bO
theorem z6Y:OpR X (compareOp .NotEq) rNe:=by
 intro pins s σ H x y v u Q I rx ry h
 obtain⟨hs,q⟩:=h
 cases x with
 | non=>
  cases rx
  cases y with
  | non=>cases ry;exact PySem.EqNone.ne_none_none (z14 I q (by simp))
  | bl j=>cases ry;exact PySem.EqNone.ne_none_bool (z14 I q (by simp))
  | int j=>obtain⟨t',rfl⟩:=ry;exact PySem.EqNone.ne_none_int (z14 I q (by simp))
  | str j=>obtain⟨t',rfl⟩:=ry;exact PySem.EqNone.ne_none_str (z14 I q (by simp))
  | _=>exact absurd (show false=true from hs) bO
 | bl i=>
  cases rx
  cases y with
  | non=>cases ry;exact PySem.EqNone.ne_bool_none (z14 I q (by simp))
  | bl j=>cases ry;exact ne_bool (z14 I q (congrArg not y5p))
  | str j=>obtain⟨t',rfl⟩:=ry;exact PySem.EqMixed.ne_bool_str (z14 I q (by simp))
  | _=>exact absurd (show false=true from hs) bO
 | int i=>
  obtain⟨t,rfl⟩:=rx
  cases y with
  | non=>cases ry;exact PySem.EqNone.ne_int_none (z14 I q (by simp))
  | int j=>obtain⟨t',rfl⟩:=ry;exact ne_int (z14 I q (congrArg not y3P))
  | str j=>obtain⟨t',rfl⟩:=ry;exact PySem.EqMixed.ne_int_str (z14 I q (by simp))
  | _=>exact absurd (show false=true from hs) bO
 | str i=>
  obtain⟨t,rfl⟩:=rx
  cases y with
  | non=>cases ry;exact PySem.EqNone.ne_str_none (z14 I q (by simp))
  | bl j=>cases ry;exact PySem.EqMixed.ne_str_bool (z14 I q (by simp))
  | int j=>obtain⟨t',rfl⟩:=ry;exact PySem.EqMixed.ne_str_int (z14 I q (by simp))
  | str j=>obtain⟨t',rfl⟩:=ry;exact ne_str (z14 I q (congrArg not y2O))
  | _=>exact absurd (show false=true from hs) bO
 | byt i=>
  obtain⟨t,rfl⟩:=rx
  cases y with
  | byt j=>obtain⟨t',rfl⟩:=ry;exact PySem.W.ne_bytes (z14 I q (congrArg not y3Q))
  | _=>exact absurd (show false=true from hs) bO
 | _=>cases y<;>exact absurd (show false=true from hs) bO
theorem z8l:OpR X (compareOp .Lt) (rI0 fun i j=>.bl (decide (i<j))):=W2 fun _ _ _ _ _ _ _ q=>lt_int q
theorem y4G:OpR X (compareOp .LtE) (rI0 fun i j=>.bl (decide (i≤j))):=W2 fun _ _ _ _ _ _ _ q=>le_int q
theorem z2P:OpR X (compareOp .Gt) (rI0 fun i j=>.bl (decide (j<i))):=W2 fun _ _ _ _ _ _ _ q=>gt_int q
theorem y5I:OpR X (compareOp .GtE) (rI0 fun i j=>.bl (decide (j≤i))):=W2 fun _ _ _ _ _ _ _ q=>ge_int q
theorem z0o(b:Expr){op:CmpOp}(h:op≠.In:=by decide)(h2:op≠.NotIn:=by decide):behindInMarks op b=false:=by
 have e1:(op == CmpOp.In)=false:=by cases op<;>first|rfl|exact absurd rfl h
 have e2:(op == CmpOp.NotIn)=false:=by cases op<;>first|rfl|exact absurd rfl h2
 cases b<;>simp[behindInMarks,e1,e2]
theorem y2A{op:CmpOp}{r:R2}(ho:OpR X (compareOp op) r)(ha:PE X a ta)(hb:PE X b tb)(hm:behindInMarks op b=false):PE X (.Compare a [op] [b] pos) (tOp r ta tb):=by
 intro pins s σ H Q I h
 exact wpAny_Compare1 (X8 ha hb I h fun v u s2 x y H2 I2 rx ry q=>ho pins s2 σ H2 x y v u Q I2 rx ry q) hm
def w0Z(t:TE):TT:=fun σ H Q=>t σ H fun x H'=>∃k,x=.bl k/\Q k H'
theorem z09{op:CmpOp}{r:R2}(ho:OpR X (compareOp op) r)(ha:PE X a ta)(hb:PE X b tb)(hm:behindInMarks op b=false):PT X (.Compare a [op] [b] pos) (w0Z (tOp r ta tb)):=by
 intro pins s σ H Q I h
 refine wpAny_isTrue_Compare1 (thn (ha pins s σ H _ I h) fun v s1 ⟨x,H1,I1,r1,q1⟩=>thn (hb pins s1 σ H1 _ I1 q1) fun u s2 ⟨y,H2,I2,r2,q2⟩=>
  thn (ho pins s2 σ H2 x y v u _ I2 r1 r2 q2) fun c s3 ⟨z,H3,I3,r3,k,e,q3⟩=>?_) hm
 subst e
 cases r3
 exact wpAny_truthy_bool ⟨H3,I3,q3⟩
theorem z7U:(sizeLine:Nat)<2^63:=by rw[sizeLine_eq];decide
theorem z8w:OpR X (binaryOp .Add) (fun x y H Q=>∃i j,x=.str i/\y=.str j/\i.length+j.length≤sizeLine/\Q (.str (i++j)) H):=by
 intro pins s σ H x y v u Q I rx ry h
 obtain⟨i,j,rfl,rfl,hz,q⟩:=h
 obtain⟨t,rfl⟩:=rx
 obtain⟨t',rfl⟩:=ry
 exact add_str (fun t' tk=>⟨.str (i++j),H,I.tok _,⟨_,rfl⟩,q⟩) hz
theorem z4F{x:V}{us:List Value}(r:Vals [x] us):∃u,us=[u]/\RelV x u:=by
 cases r with
 | cons r1 r2=>cases r2;exact⟨_,rfl,r1⟩
theorem y2r{x y:V}{us:List Value}(r:Vals [x,y] us):∃u w',us=[u,w']/\RelV x u/\RelV y w':=by
 cases r with
 | cons r1 r2=>
  cases r2 with
  | cons r3 r4=>cases r4;exact⟨_,_,rfl,r1,r3⟩
theorem z9y(hc:X.calm=true):z3F X (.builtin "max") (fun xs H Q=>∃i j,xs=[.int i,.int j]/\Q (.int (if j > i then j else i)) H):=by
 intro pins s σ H xs us Q I r h
 obtain⟨i,j,rfl,q⟩:=h
 obtain⟨u,w',rfl,⟨t,rfl⟩,⟨t',rfl⟩⟩:=y2r r
 refine max_two_ints (I.ok.hd hc) fun h' tk k=>⟨_,H,I.kept k,?_,q⟩
 by_cases hj:j > i
 ·rw[if_pos hj,if_pos hj];exact⟨_,rfl⟩
 ·rw[if_neg hj,if_neg hj];exact⟨_,rfl⟩
theorem y2o(hc:X.calm=true):z3F X (.builtin "min") (fun xs H Q=>∃i j,xs=[.int i,.int j]/\Q (.int (if j<i then j else i)) H):=by
 intro pins s σ H xs us Q I r h
 obtain⟨i,j,rfl,q⟩:=h
 obtain⟨u,w',rfl,⟨t,rfl⟩,⟨t',rfl⟩⟩:=y2r r
 refine min_two_ints (I.ok.hd hc) fun h' tk k=>⟨_,H,I.kept k,?_,q⟩
 by_cases hj:j<i
 ·rw[if_pos hj,if_pos hj];exact⟨_,rfl⟩
 ·rw[if_neg hj,if_neg hj];exact⟨_,rfl⟩
end
structure S8(h:Heap)(x dx C:Addr)(mA:Str->Option Value):Prop where
 obj:h.get? x=some (PySem.W.instObj C dx)
 ns:h.Ns1 dx mA
 ne:dx≠x
theorem y3p{h:Heap}{dx:Addr}{mA:Str->Option Value}(n:h.Ns1 dx mA):∃od,h.get? dx=some od/\∀name,PySem.W.lookIn name od=some (mA name):=by
 obtain⟨o,es,ep,ho,hd,hk,_,hm⟩:=n
 refine⟨o,ho,fun name=>?_⟩
 have e:=hm name
 unfold nsFind findBy at e
 rw[<- Array.find?_toList] at e
 unfold PySem.W.lookIn
 rw[hd]
 dsimp only
 split
 ·rename_i y q
  rw[q] at e
  exact congrArg some e
 ·rename_i q
  rw[q] at e
  have a:es.toList.any (·.refKey)=false:=by
   rw[jB]
   intro y hy
   obtain⟨z,t,hkey⟩:=hk y (Array.mem_toList_iff.mp hy)
   simp[DictEntry.refKey,hkey]
  have a':¬es.toList.any (·.refKey)=true:=by rw[a];exact bO
  rw[if_neg a']
  exact congrArg some e
theorem S8.look{h:Heap}{x dx C:Addr}{mA:Str->Option Value}(I:S8 h x dx C mA):∃od,PySem.W.InstAt h x (PySem.W.instObj C dx) C (some od)/\∀name,PySem.W.lookIn name od=some (mA name):=
 let ⟨od,ho,hl⟩:=y3p I.ns
 ⟨od,⟨I.obj,rfl,rfl,ho⟩,hl⟩
section
variable{prog:Program}{w:World}{A:Around}{E:Value->Shared->Prop}{s:Shared}{K:PySem.W.Frag}{x dx C f:Addr}{mA:Str->Option Value}{name:Str}{v:Value}
theorem y5J{expr:Bool}{Q:Value->Shared->Prop}(X:K.In s.heap)(I:S8 s.heap x dx C mA)(hg:PySem.W.plainGet K C name=true)(hh:PySem.W.hasDictIn K C=true)
  (ha:PySem.W.findIn K (.ref C) name=some none) (hv:mA name=some v) (hv':PySem.W.handedIn v=true) (h:Q v { s with toks:=s.toks+1 }) :
  wpAny (model prog w) A (getAttr (.ref x) name expr) Q E s:=by
 obtain⟨od,J,hl⟩:=I.look
 exact PySem.W.get_value X J (j3 hg).1 (PySem.W.findObj_own hh ha rfl (by rw[hl,hv])) hv' h
theorem y48{pl:Sem Bool}{Q:Value×List Value->Shared->Prop}(X:K.In s.heap)(I:S8 s.heap x dx C mA)(hg:PySem.W.plainGet K C name=true)
  (hf:PySem.W.findIn K (.ref C) name=some (some (.ref f))) (ht:PySem.W.isFn K (.ref f)=true) (hv:mA name=none) (h:Q (.ref f,[.ref x]) s) :
  wpAny (model prog w) A (getMethod (.ref x) name pl) Q E s:=by
 obtain⟨od,J,hl⟩:=I.look
 exact PySem.W.method_fn X J (j3 hg).1 (j3 hg).2 hf (beq_iff_eq.mp ht) (by show(PySem.W.lookIn name od).map (·.isSome)=some false;rw[hl,hv];rfl) h
theorem y6f{ns:List Str}{Q:Unit->Shared->Prop}(X:K.In s.heap)(I:S8 s.heap x dx C mA)
  (hs:PySem.W.findIn K (.ref C) "__setattr__"=some (some (.builtin "object.__setattr__"))) (hp:PySem.W.plainOver K C=true) (ht:PySem.W.takerIn K C name=some none) (hh:PySem.W.hasDictIn K C=true)
  (hw:PySem.Within mA ns) (hsz:ns.length≤sizeLine)
  (h:∀h',S8 h' x dx C (fun y=>if y=name then some v else mA y)->Heap.SameBut dx s.heap h'->Q () { s with heap:=h',toks:=s.toks+2 }) :
  wpAny (model prog w) A (setAttr (.ref x) name v) Q E s:=by
 obtain⟨od,J,hl⟩:=I.look
 refine PySem.W.set_plain X J hs (PySem.W.osa_open (s:={ s with toks:=s.toks+1 }) (r:=none) X J hp ht fun b=>?_)
 obtain⟨cd,hc,hd'⟩:=PySem.W.any_some hh
 have hx:s.heap.get? x=some ⟨.ref C,some dx,.plain,#[]⟩:=I.obj
 refine wpAny_bind (wpAny_pure (wpAny_bind (wpAny_bind (wpAny_loadPart hx (wpAny_bind (PySem.W.Looks.here (s:={ s with toks:=s.toks+1 }) (PySem.W.looks_clsIn X hc) ?_))))))
 rw[hd']
 refine wpAny_pure (a:=some dx) (wpAny_bind (wpAny_pure (wpAny_bind ?_)))
 refine wpAny_nsSet1 (s:={ s with toks:=s.toks+1 }) I.ns fun h' hn2 hs2=>?_
 obtain⟨oD,esD,epD,hoD,hdD,hcD⟩:=hn2.count (PySem.Within.cons name v hw)
 refine wpAny_bind (wpAny_lookBehind hoD (by rw[hdD];exact pastItsLine_dict (cM hcD (by rw[cB];omega))) ?_)
 exact wpAny_pure (h _ ⟨(hs2.2 _ (dG I.ne)).trans I.obj,hn2,I.ne⟩ hs2)
theorem y4r{R:Result->Shared->Prop}{vs:List Value}{kw:List (Str×Value)}(X:K.In s.heap)(hm:PySem.W.makesIn K C=true)
  (hi:PySem.W.findIn K (.ref C) "__init__"=some (some (.ref f))) (hf:PySem.W.typeIn K (.ref f)=some (.type "function"))
  (h:codeAny (model prog w) (A.under (.builtin "type.__call__" ⟨.ref C::vs,kw⟩)) (.call (.ref f) ⟨.ref (s.heap.objs.size+1)::vs,kw⟩) (PySem.W.InitBack (s.heap.objs.size+1) R)
   { s with heap:=(s.heap.push PySem.W.emptyDict).push (PySem.W.instObj C s.heap.objs.size) }) :
  codeAny (model prog w) A (.call (.ref C) ⟨vs,kw⟩) R s:=by
 obtain⟨hh,g,d,t,os⟩:=s
 exact PySem.W.make_core (PySem.W.makes_of X hm) (PySem.W.looks_findIn X hi) (fun self=>PySem.W.bind_fn X self hf) (.inl rfl) h
end
def F9(f:Str)(v:V):List (Str×V)->List (Str×V)
 | []=>[(f,v)]
 | (g,x)::r=>if g=f then (g,v)::r else (g,x)::F9 f v r
theorem z0p(f g:Str)(v:V):∀fs:List (Str×V),(F9 f v fs).lookup g=if g=f then some v else fs.lookup g
 | []=>by
  show List.lookup g [(f,v)]=_
  by_cases h:g=f
  ·have hb:(g == f)=true:=beq_iff_eq.mpr h
   simp only[List.lookup,hb,if_pos h]
  ·have hb:(g == f)=false:=beq_eq_false_iff_ne.mpr h
   simp only[List.lookup,hb,if_neg h]
 | (k,x)::r=>by
  have ih:=z0p f g v r
  rw[show F9 f v ((k,x)::r)=(if k=f then (k,v)::r else (k,x)::F9 f v r) from rfl]
  by_cases hk:k=f
  ·rw[if_pos hk]
   by_cases h:g=k
   ·have hb:(g == k)=true:=beq_iff_eq.mpr h
    simp only[List.lookup,hb,if_pos (h.trans hk)]
   ·have hb:(g == k)=false:=beq_eq_false_iff_ne.mpr h
    simp only[List.lookup,hb,if_neg (fun e:g=f=>h (e.trans hk.symm))]
  ·rw[if_neg hk]
   by_cases h:g=k
   ·have hb:(g == k)=true:=beq_iff_eq.mpr h
    simp only[List.lookup,hb,if_neg (fun e:g=f=>hk (h.symm.trans e))]
   ·have hb:(g == k)=false:=beq_eq_false_iff_ne.mpr h
    simp only[List.lookup,hb]
    exact ih
theorem z7u(f:Str)(v:V):∀fs:List (Str×V),f∈(F9 f v fs).map (·.1)/\∀g,g∈fs.map (·.1)->g∈(F9 f v fs).map (·.1)
 | []=>⟨by simp[F9],fun g h=>by simp at h⟩
 | (k,x)::r=>by
  obtain⟨i1,i2⟩:=z7u f v r
  rw[show F9 f v ((k,x)::r)=(if k=f then (k,v)::r else (k,x)::F9 f v r) from rfl]
  by_cases hk:k=f
  ·rw[if_pos hk]
   subst hk
   exact⟨by simp,fun g h=>by simpa using h⟩
  ·rw[if_neg hk]
   refine⟨?_,fun g h=>?_⟩
   ·rw[cL]
    exact bZ _ i1
   ·rw[cL] at h ⊢
    rcases bF.mp h with e|e
    ·exact bF.mpr (.inl e)
    ·exact bZ _ (i2 g e)
theorem z1C(f:Str)(v:V):∀fs:List (Str×V),(F9 f v fs).length≤fs.length+1
 | []=>by simp[F9]
 | (k,x)::r=>by
  have ih:=z1C f v r
  rw[show F9 f v ((k,x)::r)=(if k=f then (k,v)::r else (k,x)::F9 f v r) from rfl]
  by_cases hk:k=f
  ·rw[if_pos hk,cB,cB];omega
  ·rw[if_neg hk,cB,cB];omega
theorem N1.some_of{v:V}{o:Option Value}(r:N1 (some v) o):∃u,o=some u/\RelV v u:=by
 cases o with
 | none=>exact(show False from r).elim
 | some u=>exact⟨u,rfl,r⟩
theorem N1.none_of{o:Option Value}(r:N1 none o):o=none:=by
 cases o with
 | none=>rfl
 | some u=>exact(show False from r).elim
theorem y3w{v:V}{u:Value}(r:RelV v u):PySem.W.handedIn u=true:=by
 cases v with
 | non=>cases (show u=Value.none from r);rfl
 | bl b=>cases (show u=Value.bool b from r);rfl
 | int i=>obtain⟨t,e⟩:=(show ∃t,u=Value.int i t from r);cases e;rfl
 | str x=>obtain⟨t,e⟩:=(show ∃t,u=Value.str x t from r);cases e;rfl
 | byt b=>obtain⟨t,e⟩:=(show ∃t,u=Value.bytes b t from r);cases e;rfl
 | flt b=>obtain⟨t,e⟩:=(show ∃t,u=Value.float b t from r);cases e;rfl
 | ref a=>cases (show u=Value.ref a from r);rfl
 | ty n=>cases (show u=Value.type n from r);rfl
section
variable{P:Program}{w:World}{H H':Hp}{h h':Heap}{a C dx:Addr}{fs fs':List (Str×V)}
theorem z9d(hok:HOk P w H h)(e:H a=some (.ins C dx fs)):∃mA,S8 h a dx C mA/\(∀f,N1 (fs.lookup f) (mA f))/\PySem.Within mA (fs.map (·.1))/\fs.length≤1000/\H dx=some (.own a):=by
 obtain⟨d,z,ne,ob,mA,n,r,q⟩:=(show z1y P w H h a (.ins C dx fs) from hok a _ e)
 exact⟨mA,⟨ob,n,ne⟩,r,q,z,d⟩
end
structure Cls(K:PySem.W.Frag)(C:Addr):Prop where
 pg:PySem.W.plainGet K C Str.empty=true
 hd:PySem.W.hasDictIn K C=true
 po:PySem.W.plainOver K C=true
 sa:PySem.W.findIn K (.ref C) "__setattr__"=some (some (.builtin "object.__setattr__"))
theorem Cls.get{K:PySem.W.Frag}{C:Addr}(c:Cls K C)(f:Str):PySem.W.plainGet K C f=true:=c.pg
def z2X(K:PySem.W.Frag)(C:Addr)(f:Str):Prop:=PySem.W.findIn K (.ref C) f=some none
theorem z2X.w0p{K:PySem.W.Frag}{C:Addr}{f:Str}(n:z2X K C f):PySem.W.takerIn K C f=some none:=by
 unfold PySem.W.takerIn
 rw[show PySem.W.findIn K (.ref C) f=some none from n]
 rfl
structure Meth(K:PySem.W.Frag)(C:Addr)(m:Str)(f:Addr):Prop where
 at_:PySem.W.findIn K (.ref C) m=some (some (.ref f))
 fn:PySem.W.isFn K (.ref f)=true
 kp:PySem.W.keepIn K (.ref f)=true
section
variable{X:Cx}{pins:List (Addr×Obj)}{σ:St}{H:Hp}{s:Shared}{a C dx:Addr}{fs:List (Str×V)}{f:Str}{v:V}{A:Around}{E:Value->Shared->Prop}
theorem y1V{b:Bool}{Q:Value->Shared->Prop}(I:Inv X pins σ H s)(e:H a=some (.ins C dx fs))(c:Cls X.K C)(n:z2X X.K C f)(l:fs.lookup f=some v)
  (h:∀u s',Inv X pins σ H s'->RelV v u->Q u s'):wpAny (model X.prog X.w) A (getAttr (.ref a) f b) Q E s:=by
 obtain⟨mA,O,r,_,_,_⟩:=z9d I.hok e
 obtain⟨u,hu,ru⟩:=N1.some_of (v:=v) (o:=mA f) (by rw[<- l];exact r f)
 exact y5J I.kIn O (c.get f) c.hd n hu (y3w ru) (h u _ (I.tok _) ru)
theorem z68{m:Str}{g:Addr}{pl:Sem Bool}{Q:Value×List Value->Shared->Prop}(I:Inv X pins σ H s)(e:H a=some (.ins C dx fs))(c:Cls X.K C)(k:Meth X.K C m g)(l:fs.lookup m=none)
  (h:Q (.ref g,[.ref a]) s):wpAny (model X.prog X.w) A (getMethod (.ref a) m pl) Q E s:=by
 obtain⟨mA,O,r,_,_,_⟩:=z9d I.hok e
 have hn:mA m=none:=N1.none_of (by rw[<- l];exact r m)
 exact y48 I.kIn O (c.get m) k.at_ k.fn hn h
theorem y1Y{y:V}{u:Value}{Q:Unit->Shared->Prop}(I:Inv X pins σ H s)(e:H a=some (.ins C dx fs))(c:Cls X.K C)(n:z2X X.K C f)(hl:fs.length<1000)(ry:RelV y u)
  (h:∀s',Inv X pins σ (upd H a (.ins C dx (F9 f y fs))) s'->Q () s'):wpAny (model X.prog X.w) A (setAttr (.ref a) f u) Q E s:=by
 obtain⟨mA,O,r,wi,_,ho⟩:=z9d I.hok e
 have hz:(fs.map (·.1)).length≤sizeLine:=by rw[bA,sizeLine_eq];omega
 refine y6f I.kIn O c.sa c.po n.w0p c.hd wi hz fun h' O' sb=>h _ ?_
 have hd:∃o,h'.get? dx=some o:=let ⟨o,_,_,e',_⟩:=O'.ns;⟨o,e'⟩
 refine I.write (x:=a) (e:=dx) (by rw[e];exact True.intro) (.inr ho) (fun b q hb z=>(sb.2 b hb).trans z) hd ?_
 refine⟨by rw[z0h O.ne];exact ho,?_,O.ne,O'.obj,_,O'.ns,fun g=>?_,fun g hg=>?_⟩
 ·have:=z1C f y fs;omega
 ·show N1 ((F9 f y fs).lookup g) (if g=f then some u else mA g)
  rw[z0p]
  by_cases q:g=f
  ·rw[if_pos q,if_pos q];exact ry
  ·rw[if_neg q,if_neg q];exact r g
 ·by_cases q:g=f
  ·rw[q];exact(z7u f y fs).1
  ·refine(z7u f y fs).2 g (wi g fun z=>hg ?_)
   show(if g=f then some u else mA g)=none
   rw[if_neg q];exact z
theorem Inv.made(I:Inv X pins σ H s):Inv X pins σ (upd (upd H s.heap.objs.size (.own (s.heap.objs.size+1))) (s.heap.objs.size+1) (.ins C s.heap.objs.size []))
  { s with heap:=(s.heap.push PySem.W.emptyDict).push (PySem.W.instObj C s.heap.objs.size) }:=by
 have e1:(s.heap.push PySem.W.emptyDict).get? s.heap.objs.size=some PySem.W.emptyDict:=bN s.heap rfl
 have e2:((s.heap.push PySem.W.emptyDict).push (PySem.W.instObj C s.heap.objs.size)).get? (s.heap.objs.size+1)=some (PySem.W.instObj C s.heap.objs.size):=by
  have:=bN (s.heap.push PySem.W.emptyDict) (o:=PySem.W.instObj C s.heap.objs.size) rfl
  rwa [fP] at this
 have e3:(s.heap.push PySem.W.emptyDict).Ns s.heap.objs.size (fun _=>none):=⟨PySem.W.emptyDict,#[],_,e1,rfl,(fun e he=>absurd he (by simp)),fun _=>rfl⟩
 have I1:=I.laid (a:=s.heap.objs.size) (o:=.own (s.heap.objs.size+1)) (h':=s.heap.push PySem.W.emptyDict) (t':=s.toks) (fun b u q=>bB _ q) (bH _) ⟨_,e1⟩
 refine I1.laid (a:=s.heap.objs.size+1) (o:=.ins C s.heap.objs.size []) (t':=s.toks) (fun b u q=>bB _ q) (Nat.le_of_eq (fP _ _)) ?_
 have ne:s.heap.objs.size≠s.heap.objs.size+1:=cA (fT _)
 refine⟨by rw[z0h ne,z03],cT _,ne,e2,fun _=>none,(Heap.Ns1.of_empty e3).at fun o q=>bB _ q,fun _=>True.intro,fun y hy=>absurd rfl hy⟩
theorem y5z{prog:Program}{w:World}{env:Env}{e:Expr}{f:Str}{pos:Pos}{s:Shared}{Q:Value->Shared->Prop}(hb:attributeBase e f env (eval e env)=eval e env)
  (h:wpAny (model prog w) A (eval e env) (fun o s₁=>wpAny (model prog w) A (getAttr o f true) Q E s₁) E s):wpAny (model prog w) A (eval (.Attribute e f pos) env) Q E s:=
 Attribute_any_ h (by rw[arm_eval_Attribute,hb])
end
def tFld(K:PySem.W.Frag)(ta:TE)(f:Str):TE:=fun σ H Q=>ta σ H fun x H1=>∃a C dx fs v,x=.ref a/\H1 a=some (.ins C dx fs)/\Cls K C/\z2X K C f/\fs.lookup f=some v/\Q v H1
def sFld(K:PySem.W.Frag)(ta tv:TE)(f:Str):TS:=fun D σ H=>tv σ H fun y H1=>ta σ H1 fun x H2=>∃a C dx fs,x=.ref a/\H2 a=some (.ins C dx fs)/\Cls K C/\z2X K C f/\fs.length<1000/\
 D.nx σ (upd H2 a (.ins C dx (F9 f y fs)))
section
variable{X:Cx}{o e value:Expr}{f:Str}{pos pos' tpos:Pos}{ta tv:TE}
theorem z0I(he:PE X e ta)(hb:attributeBase e f X.env (eval e X.env)=eval e X.env):PE X (.Attribute e f pos) (tFld X.K ta f):=by
 intro pins s σ H Q I h
 refine y5z hb (thn (he pins s σ H _ I h) fun u s1 hz=>?_)
 obtain⟨x,H1,I1,rx,a,C,dx,fs,v,ex,ea,c,n,l,q⟩:=hz
 subst ex
 obtain rfl:u=Value.ref a:=rx
 exact y1V I1 ea c n l fun u' s2 I2 ru=>⟨v,H1,I2,ru,q⟩
theorem z5y(ha:PE X o ta)(hv:PE X value tv)(hs:swapsWith value (some (.Attribute o f pos')) pos.line X.env=pure false):PS X (.Assign [.Attribute o f pos'] value pos) (sFld X.K ta tv f):=by
 intro pins s σ H D I h
 refine plainObj_wpAny_Assign_Attribute (thn (hv pins s σ H _ I h) fun u s1 ⟨y,H1,I1,ry,q⟩=>thn (ha pins s1 σ H1 _ I1 q) fun ov s2 hz=>?_) hs
 obtain⟨x,H2,I2,rx,a,C,dx,fs,ex,ea,c,n,l,q2⟩:=hz
 subst ex
 obtain rfl:ov=Value.ref a:=rx
 exact y1Y I2 ea c n l ry fun s3 I3=>⟨σ,_,I3,q2⟩
theorem y65{pl:Sem Bool}{m:Str}{apos:Pos}{args:List Expr}{pins:List (Addr×Obj)}{s:Shared}{σ:St}{H:Hp}{Q:Value->Shared->Prop}{te:TE}(he:PE X e te)(I:Inv X pins σ H s)
  (h:te σ H fun x H1=>∃a C dx fs g,x=.ref a/\H1 a=some (.ins C dx fs)/\Cls X.K C/\Meth X.K C m g/\fs.lookup m=none/\
   ∀s1,Inv X pins σ H1 s1->wpAny (model X.prog X.w) X.A (callWith pos (.ref g) [.ref a] (backTo pos (starEach args X.env)) (backToKw pos (keywordEach [] X.env))) Q X.xe s1)
  (ht:eval (.Call (.Attribute e m apos) args [] pos) X.env=(do
   let ov <- eval e X.env
   standAt apos.atName
   let (f,first) <- holding [ov] (getMethod ov m pl)
   callWith pos f first (backTo pos (starEach args X.env)) (backToKw pos (keywordEach [] X.env)))) :
  wpAny (model X.prog X.w) X.A (eval (.Call (.Attribute e m apos) args [] pos) X.env) Q X.xe s:=by
 refine hE (pl:=pl) (thn (he pins s σ H _ I h) fun u s1 hz=>?_) ht
 obtain⟨x,H1,I1,rx,a,C,dx,fs,g,ex,ea,c,k,l,q⟩:=hz
 subst ex
 obtain rfl:u=Value.ref a:=rx
 exact z68 I1 ea c k l (q s1 I1)
end
section
variable{X:Cx}{pins:List (Addr×Obj)}{σ:St}{H:Hp}{s:Shared}{A:Around}{E:Value->Shared->Prop}{Q:Value->Shared->Prop}{c:Value}{b:Bool}
inductive O0(K:PySem.W.Frag)(H:Hp):V->Value->Prop where
 | non:O0 K H .non (.type "NoneType")
 | bl (x:Bool):O0 K H (.bl x) (.type "bool")
 | int (i:Int):O0 K H (.int i) (.type "int")
 | str (x:Str):O0 K H (.str x) (.type "str")
 | flt (x:UInt64):O0 K H (.flt x) (.type "float")
 | lst {a:Addr}{xs:List V} (e:H a=some (.lst xs)):O0 K H (.ref a) (.type "list")
 | frz {a:Addr}{o:Obj}{xs:List V} (e:H a=some (.frz o (.lst xs))):O0 K H (.ref a) (.type "list")
 | tup {a:Addr}{xs:List V} (e:H a=some (.tup xs)):O0 K H (.ref a) (.type "tuple")
 | dK {a:Addr}{kvs:List (Key×V)} (e:H a=some (.dK kvs)):O0 K H (.ref a) (.type "dict")
 | dT {a:Addr}{kvs:List (List Key×V)} (e:H a=some (.dT kvs)):O0 K H (.ref a) (.type "dict")
 | ins {a C dx:Addr}{fs:List (Str×V)} (e:H a=some (.ins C dx fs)) (cl:Cls K C) (ha:PySem.W.findIn K (.ref C) "__class__"=some (some (.builtin "object.__class__")))
   (hn:PySem.W.specialIn K (.builtin "object.__class__") "__get__"=some (some (.builtin "getset_descriptor.__get__"))) (htk:PySem.W.takesIn K (.builtin "object.__class__")=some true)
   (hm:PySem.W.mroIn K C (.type "object")=some true):O0 K H (.ref a) (.ref C)
theorem y3X{x:V}{u t:Value}(I:Inv X pins σ H s)(rx:RelV x u)(ty:O0 X.K H x t)(e:PySem.W.kitOne X.K t c=some b)(h:∀tk,Q (.bool b) { s with toks:=tk }) :
  wpAny (model X.prog X.w) A (call (.builtin "isinstance") [u,c]) Q E s:=by
 cases ty with
 | non=>cases (show u=Value.none from rx);exact dA PySem.W.kitx_none I.kIn True.intro e (fun z=>nomatch z) h
 | bl y=>cases (show u=Value.bool y from rx);exact dA PySem.W.kitx_bool I.kIn True.intro e (fun z=>nomatch z) h
 | int i=>obtain⟨t,q⟩:=(show ∃t,u=Value.int i t from rx);cases q;exact dA PySem.W.kitx_int I.kIn True.intro e (fun z=>nomatch z) h
 | str y=>obtain⟨t,q⟩:=(show ∃t,u=Value.str y t from rx);cases q;exact dA PySem.W.kitx_str I.kIn True.intro e (fun z=>nomatch z) h
 | flt y=>obtain⟨t,q⟩:=(show ∃t,u=Value.float y t from rx);cases q;exact dA PySem.W.kitx_float I.kIn True.intro e (fun z=>nomatch z) h
 | @lst a xs ea=>
  cases (show u=Value.ref a from rx)
  obtain⟨_,_,n,_,h1⟩:=(show z1y X.prog X.w H s.heap a (.lst xs) from I.hok a _ ea)
  exact dA PySem.W.kitx_list I.kIn ⟨_,h1,rfl⟩ e (fun z=>nomatch z) h
 | @frz a ob xs ea=>
  cases (show u=Value.ref a from rx)
  obtain⟨_,_,_,n,_,h1⟩:=(show z1y X.prog X.w H s.heap a (.frz ob (.lst xs)) from I.hok a _ ea)
  exact dA PySem.W.kitx_list I.kIn ⟨_,h1,rfl⟩ e (fun z=>nomatch z) h
 | @tup a xs ea=>
  cases (show u=Value.ref a from rx)
  obtain⟨_,_,_,p⟩:=(show z1y X.prog X.w H s.heap a (.tup xs) from I.hok a _ ea)
  obtain⟨o,h1,h2,_⟩:=p
  exact dA PySem.W.kitx_tuple I.kIn ⟨o,h1,h2⟩ e (fun z=>nomatch z) h
 | @dK a kvs ea=>
  cases (show u=Value.ref a from rx)
  obtain⟨_,_,vs,_,p⟩:=(show z1y X.prog X.w H s.heap a (.dK kvs) from I.hok a _ ea)
  obtain⟨o,es,ep,h1,h2,_⟩:=p
  exact dA PySem.W.kitx_dict I.kIn ⟨o,h1,h2.1⟩ e (fun z=>nomatch z) h
 | @dT a kvs ea=>
  cases (show u=Value.ref a from rx)
  obtain⟨_,_,xs,_,o,es,ep,h1,h2,_⟩:=(show z1y X.prog X.w H s.heap a (.dT kvs) from I.hok a _ ea)
  exact dA PySem.W.kitx_dict I.kIn ⟨o,h1,h2.1⟩ e (fun z=>nomatch z) h
 | @ins a C dx fs ea cl ha hn htk hm=>
  cases (show u=Value.ref a from rx)
  obtain⟨mA,O,_⟩:=z9d I.hok ea
  obtain⟨od,J,_⟩:=O.look
  exact dA (PySem.W.kitx_own (cl.get _) cl.hd ha hn htk hm) I.kIn J e (fun z=>nomatch z) h
end
structure D3(k:Nat)(A:Around):Prop where
 hd:A.handled=none
 dp:A.depth+3*k+5<recursionLimit
 un:A.units+16*k+200<cLine
theorem D3.mono{j k:Nat}{A:Around}(r:D3 k A)(h:j≤k):D3 j A:=⟨r.hd,by have:=r.dp;omega,by have:=r.un;omega⟩
theorem D3.deeper{k:Nat}{A:Around}(r:D3 (k+1) A)(env:Env):D3 k (A.deeper env):=
 ⟨r.hd,by have:=r.dp;show A.depth+1+3*k+5<_;omega,by have:=r.un;show A.units+3+16*k+200<_;omega⟩
theorem y26{A:Around}{C:Addr}{us:List Value}{kw:List (Str×Value)}:(A.under (.builtin "type.__call__" ⟨.ref C::us,kw⟩)).depth=A.depth+1:=by
 first|rfl|simp[Around.under,Code.weight,Code.isCreation,Code.isGuard,Code.isCaller,Code.frames,Code.isFrame,guardIds]
theorem y1P{A:Around}{C:Addr}{us:List Value}{kw:List (Str×Value)}:(A.under (.builtin "type.__call__" ⟨.ref C::us,kw⟩)).units=A.units+1:=by
 first|rfl|simp[Around.under,Code.cUnits,Code.frames,Code.isFrame]
theorem D3.make{k:Nat}{A:Around}(r:D3 (k+1) A)(C:Addr)(us:List Value)(kw:List (Str×Value)):D3 k (A.under (.builtin "type.__call__" ⟨.ref C::us,kw⟩)):=
 ⟨r.hd,by have:=r.dp;rw[y26];omega,by have:=r.un;rw[y1P];omega⟩
theorem D3.depth{k:Nat}{A:Around}(r:D3 k A):A.depth<recursionLimit:=by have:=r.dp;omega
theorem D3.units{k:Nat}{A:Around}(r:D3 k A):A.units+64<cLine:=by have:=r.un;omega
theorem D3.Q8{k:Nat}{A:Around}(r:D3 k A):A.units<cLine:=by have:=r.un;omega
def V1:TA:=fun _ H Q=>Q [] H
def y69(ta:TE)(tr:TA):TA:=fun σ H Q=>ta σ H fun x H1=>tr σ H1 fun xs H2=>Q (x::xs) H2
section
variable{X:Cx}{e:Expr}{es:List Expr}{te:TE}{t:TA}{pos:Pos}
theorem z02:PA X [] V1:=fun _ _ _ _ H Q I h=>Calls.spliced_nil ⟨[],H,I,.nil,h⟩
theorem z00(ha:PE X e te)(hr:PA X es t)(hs:starEach (e::es) X.env=(false,eval e X.env)::starEach es X.env:=by rfl):PA X (e::es) (y69 te t):=by
 intro pos pins s σ H Q I h
 rw[hs]
 show wpAny _ _ (spliced ((false,eval e X.env)::backTo pos (starEach es X.env))) _ _ s
 refine Calls.spliced_cons (thn (ha pins s σ H _ I h) fun u s1 hz=>?_)
 obtain⟨x,H1,I1,r1,q1⟩:=hz
 exact thn (hr pos pins s1 σ H1 _ I1 q1) fun us s2 ⟨xs,H2,I2,r2,q2⟩=>⟨x::xs,H2,I2,.cons r1 r2,q2⟩
def tTup(t:TA):TE:=fun σ H Q=>t σ H fun xs H1=>xs.length≤sizeLine/\∀p,H1 p=none->Q (.ref p) (upd H1 p (.tup xs))
def tLst(t:TA):TE:=fun σ H Q=>t σ H fun xs H1=>xs.length≤sizeLine/\∀p,H1 p=none->Q (.ref p) (upd H1 p (.lst xs))
theorem z0V{x1}(h:PA X es t):PE X (.Tuple es x1 pos) (tTup t):=by
 intro pins s σ H Q I hq
 refine wpAny_Tuple_spliced (thn (h pos pins s σ H _ I hq) fun us s1 ⟨xs,H1,I1,r,z,q⟩=>⟨by rw[<- r.length];exact z,?_⟩)
 have hf:H1 s1.heap.objs.size=none:=I1.hok.fresh (bH _)
 refine⟨.ref s1.heap.objs.size,upd H1 s1.heap.objs.size (.tup xs),I1.laid (t':=s1.toks) (fun b u e=>bB _ e) (bH _) ?_,rfl,q _ hf⟩
 exact⟨z,us,r,⟨_,bN _ rfl,rfl,⟨_,rfl⟩,rfl⟩⟩
theorem z1W(h:PA X es t):PE X (.List es pos) (tLst t):=by
 intro pins s σ H Q I hq
 refine wpAny_List_spliced (thn (h pos pins s σ H _ I hq) fun us s1 ⟨xs,H1,I1,r,z,q⟩=>⟨by rw[<- r.length];exact z,?_⟩)
 have hf:H1 s1.heap.objs.size=none:=I1.hok.fresh (bH _)
 refine⟨.ref s1.heap.objs.size,upd H1 s1.heap.objs.size (.lst xs),I1.laid (t':=s1.toks) (fun b u e=>bB _ e) (bH _) ?_,rfl,q _ hf⟩
 exact⟨z,us,0,r,bN _ rfl⟩
end
abbrev Sp:=List V->Hp->VK->XK->Prop
abbrev CXT:=List Env->Hp->Shared->XK->Value->Shared->Prop
structure T3(P:Program)(w:World)(K:PySem.W.Frag)(mg:Str->Option Value)(base:Heap)(A:Around)(outer:List Env)(s:Shared)(H:Hp):Prop where
 frames:A.frames=some outer
 mod:Mod K mg base
 bs:∀b o,base.get? b=some o->s.heap.get? b=some o/\H b=none
 bsz:base.objs.size≤s.heap.objs.size
 P1:s.heap.FunFrames base outer
 frf:∀b∈frs outer,H b=none
 hok:HOk P w H s.heap
 bare:AllBare s.gens
def CE(outer:List Env)(P:Program)(w:World)(H:Hp)(s:Shared)(Q:VK)(u:Value)(s':Shared):Prop:=
 ∃v H',s'.os=s.os/\AllBare s'.gens/\Un (frs outer) [] H H' s.heap s'.heap/\HOk P w H' s'.heap/\RelV v u/\Q v H'
def CR(CX:CXT)(outer:List Env)(P:Program)(w:World)(H:Hp)(s:Shared)(Q:VK)(E:XK)(r:Result)(s':Shared):Prop:=
 match r with
 | .ok (.ret u)=>CE outer P w H s Q u s'
 | .ok _=>False
 | .error e=>CX outer H s E e s'
structure A7(P:Program)(w:World)(K:PySem.W.Frag)(mg:Str->Option Value)(base:Heap)(CX:CXT)(k:Nat)(f:Addr)(fd:FuncData)(ps:List Str)(sp:Sp):Prop where
 len:∀vs H Q E,sp vs H Q E->vs.length=ps.length
 run:∀(A:Around) (outer:List Env) (s:Shared) (H:Hp) (args:Args) (us:List Value) (vs:List V) (Q:VK) (E:XK),D3 k A->T3 P w K mg base A outer s H->BindsTo s fd args (ps.zip us)->Vals vs us->sp vs H Q E->
  codeAny (model P w) A (.call (.ref f) args) (CR CX outer P w H s Q E) s
theorem A7.mono{P:Program}{w:World}{K:PySem.W.Frag}{mg:Str->Option Value}{base:Heap}{CX:CXT}{j k:Nat}{f:Addr}{fd:FuncData}{ps:List Str}{sp:Sp}(F:A7 P w K mg base CX j f fd ps sp)(h:j≤k) :
  A7 P w K mg base CX k f fd ps sp:=⟨F.len,fun A outer s H args us vs Q E hr=>F.run A outer s H args us vs Q E (hr.mono h)⟩
theorem T3.make{P:Program}{w:World}{K:PySem.W.Frag}{mg:Str->Option Value}{base:Heap}{A:Around}{outer:List Env}{s:Shared}{H:Hp}(e:T3 P w K mg base A outer s H)(C:Addr)(us:List Value)(kw:List (Str×Value)) :
  T3 P w K mg base (A.under (.builtin "type.__call__" ⟨.ref C::us,kw⟩)) outer s H:=⟨by first|exact e.frames|(simpa [Around.under,Code.envs,Code.isFrame,pushEnvs] using e.frames),e.mod,e.bs,e.bsz,e.P1,e.frf,e.hok,e.bare⟩
section
variable{X:Cx}{pins:List (Addr×Obj)}{σ:St}{H:Hp}{s s':Shared}
theorem Inv.Z7(I:Inv X pins σ H s):T3 X.prog X.w X.K X.mg X.base X.A X.stack s H:=
 ⟨I.ok.frames,I.ok.mod,I.bs,cM I.ok.bsz I.sz,I.stack,I.T9,I.hok,I.bare⟩
theorem Inv.after{Q:VK}{u:Value}(I:Inv X pins σ H s)(h:CE X.stack X.prog X.w H s Q u s'):EP X pins σ Q u s':=by
 obtain⟨v,H',os,bare,un,hok,r,q⟩:=h
 obtain⟨hh,g,d,t,os'⟩:=s'
 obtain rfl:os'=s.os:=os
 exact⟨v,H',I.call (h':=hh) (g':=g) (d':=d) (t':=t) (ch:=[]) un hok bare (fun b z=>absurd z (by simp)),r,q⟩
end
def y6O(sp:Sp)(dvs:List V)(E:XK)(t:TA):TE:=fun σ H Q=>t σ H fun vs H1=>sp (vs++dvs) H1 Q E
def y2N(C:Addr)(m:Str)(sp:Sp)(dvs:List V)(E:XK)(ta:TE)(t:TA):TE:=fun σ H Q=>ta σ H fun x H1=>∃a dx fs,x=.ref a/\H1 a=some (.ins C dx fs)/\fs.lookup m=none/\
 t σ H1 fun vs H2=>sp (x::(vs++dvs)) H2 Q E
def y75(C:Addr)(sp:Sp)(dvs:List V)(E:XK)(t:TA):TE:=fun σ H Q=>t σ H fun vs H1=>∀x dx,H1 x=none->H1 dx=none->dx≠x->
 sp (.ref x::(vs++dvs)) (upd (upd H1 dx (.own x)) x (.ins C dx [])) (fun v H2=>v=.non/\Q (.ref x) H2) E
def z1X(K:PySem.W.Frag)(fd:FuncData)(ps:List Str)(ds:List Value):Prop:=
 ∀(s:Shared) (us:List Value),K.In s.heap->(us++ds).length=ps.length->BindsTo s fd ⟨us,[]⟩ (ps.zip (us++ds))
theorem z1X.all{K:PySem.W.Frag}{fd:FuncData}{ps:List Str}(h:∀us:List Value,us.length=ps.length->bindArgs fd ⟨us,[]⟩=pure (ps.zip us)):z1X K fd ps []:=fun s us _ hl=>by
 rw[cY] at hl ⊢
 exact .of_eq (h us hl)
def z7t(CX:CXT)(X:Cx)(E:XK):Prop:=∀(pins:List (Addr×Obj)) (σ:St) (H:Hp) (s:Shared) (e:Value) (s':Shared),Inv X pins σ H s->CX X.stack H s E e s'->X.xe e s'
section
variable{X:Cx}{CX:CXT}{k:Nat}{f C:Addr}{fd:FuncData}{ps:List Str}{sp:Sp}{dvs:List V}{ds:List Value}{E:XK}{x m:Str}{p pos apos:Pos}{e o:Expr}{es:List Expr}{ta:TE}{t:TA}
theorem y42{pins:List (Addr×Obj)}{σ:St}{H:Hp}{s:Shared}{Q:VK}{us:List Value}{vs:List V}(F:A7 X.prog X.w X.K X.mg X.base CX k f fd ps sp)(hr:D3 k X.A)(hb:z1X X.K fd ps ds)(hd:Vals dvs ds)(hx:z7t CX X E)
  (I:Inv X pins σ H s) (r:Vals vs us) (h:sp (vs++dvs) H Q E):wpAny (model X.prog X.w) X.A (call (.ref f) us) (EP X pins σ Q) X.xe s:=by
 have r2:Vals (vs++dvs) (us++ds):=r.append hd
 have hl:(us++ds).length=ps.length:=by rw[<- r2.length];exact F.len _ _ _ _ h
 refine wpAny_call (codeAny_mono (F.run X.A X.stack s H ⟨us,[]⟩ (us++ds) (vs++dvs) Q E hr I.Z7 (hb s us I.kIn hl) r2 h) fun r s' hq=>?_)
 cases r with
 | error e=>exact hx pins σ H s e s' I hq
 | ok fl=>
  cases fl with
  | ret u=>exact I.after hq
  | next=>exact False.elim hq
  | brk=>exact False.elim hq
  | cont=>exact False.elim hq
theorem y6k(F:A7 X.prog X.w X.K X.mg X.base CX k f fd ps sp)(hr:D3 k X.A)(hg:Gl X x)(hm:X.mg x=some (.ref f))(hk:PySem.W.keepIn X.K (.ref f)=true)(hb:z1X X.K fd ps ds)(hd:Vals dvs ds)(hx:z7t CX X E)
  (ha:PA X (e::es) t) (hdb:(x == ("__debug__":Str))=false:=by decide) (he:starEach (e::es) X.env=(false,eval e X.env)::starEach es X.env:=by rfl) (hpl:(backTo pos (starEach es X.env)).any (·.1)=false:=by rfl) :
  PE X (.Call (.Name x p) (e::es) [] pos) (y6O sp dvs E t):=by
 intro pins s σ H Q I h
 refine wpAny_Call_Name_kw (y0f I hg hm ?_ hdb)
 refine j7 (h₀:=X.base) I.ok.mod.kin hk (thn (ha pos pins s σ H _ I h) fun us s1 ⟨vs,H1,I1,r,q⟩=>⟨I1.kIn,?_⟩) he hpl
 exact y42 F hr hb hd hx I1 r q
theorem y3o{pl:Sem Bool}(he:PE X o ta)(c:Cls X.K C)(hm:Meth X.K C m f)(F:A7 X.prog X.w X.K X.mg X.base CX k f fd ps sp)(hr:D3 k X.A)(hb:z1X X.K fd ps ds)(hd:Vals dvs ds)(hx:z7t CX X E)(ha:PA X (e::es) t)
  (hst:starEach (e::es) X.env=(false,eval e X.env)::starEach es X.env:=by rfl) (hpl:(backTo pos (starEach es X.env)).any (·.1)=false:=by rfl)
  (ht:eval (.Call (.Attribute o m apos) (e::es) [] pos) X.env=(do
   let ov <- eval o X.env
   standAt apos.atName
   let (f,first) <- holding [ov] (getMethod ov m pl)
   callWith pos f first (backTo pos (starEach (e::es) X.env)) (backToKw pos (keywordEach [] X.env))):=by rfl) :
  PE X (.Call (.Attribute o m apos) (e::es) [] pos) (y2N C m sp dvs E ta t):=by
 intro pins s σ H Q I h
 refine hE (pl:=pl) (thn (he pins s σ H _ I h) fun u s1 hz=>?_) ht
 obtain⟨x,H1,I1,rx,a,dx,fs,ex,ea,l,q⟩:=hz
 subst ex
 obtain rfl:u=Value.ref a:=rx
 refine z68 I1 ea c hm l ?_
 refine j7 (first:=[.ref a]) (h₀:=X.base) I.ok.mod.kin hm.kp (thn (ha pos pins s1 σ H1 _ I1 q) fun us s2 ⟨vs,H2,I2,r,q2⟩=>⟨I2.kIn,?_⟩) hst hpl
 exact y42 (us:=.ref a::us) (vs:=.ref a::vs) F hr hb hd hx I2 (.cons rfl r) q2
theorem y53{pl:Sem Bool}(he:PE X o ta)(c:Cls X.K C)(hm:Meth X.K C m f)(F:A7 X.prog X.w X.K X.mg X.base CX k f fd ps sp)(hr:D3 k X.A)(hb:z1X X.K fd ps ds)(hd:Vals dvs ds)(hx:z7t CX X E)
  (ht:eval (.Call (.Attribute o m apos) [] [] pos) X.env=(do
   let ov <- eval o X.env
   standAt apos.atName
   let (f,first) <- holding [ov] (getMethod ov m pl)
   callWith pos f first (backTo pos (starEach [] X.env)) (backToKw pos (keywordEach [] X.env))):=by rfl) :
  PE X (.Call (.Attribute o m apos) [] [] pos) (y2N C m sp dvs E ta V1):=by
 intro pins s σ H Q I h
 refine hE (pl:=pl) (thn (he pins s σ H _ I h) fun u s1 hz=>?_) ht
 obtain⟨x,H1,I1,rx,a,dx,fs,ex,ea,l,q⟩:=hz
 subst ex
 obtain rfl:u=Value.ref a:=rx
 refine z68 I1 ea c hm l ?_
 exact PySem.W.callWith_K0 (first:=[.ref a]) I1.kIn hm.kp (y42 (us:=[.ref a]) (vs:=[.ref a]) F hr hb hd hx I1 (.cons rfl .nil) q)
structure Mk(K:PySem.W.Frag)(C f:Addr):Prop where
 makes:PySem.W.makesIn K C=true
 init:PySem.W.findIn K (.ref C) "__init__"=some (some (.ref f))
 fn:PySem.W.isFn K (.ref f)=true
 kp:PySem.W.keepIn K (.ref C)=true
theorem y4O{pins:List (Addr×Obj)}{σ:St}{H:Hp}{s:Shared}{Q:VK}{us:List Value}{vs:List V}(M:Mk X.K C f)(F:A7 X.prog X.w X.K X.mg X.base CX k f fd ps sp)(hr:D3 (k+1) X.A)(hb:z1X X.K fd ps ds)(hd:Vals dvs ds)
  (hx:z7t CX X E) (I:Inv X pins σ H s) (r:Vals vs us)
  (h:∀x dx,H x=none->H dx=none->dx≠x->sp (.ref x::(vs++dvs)) (upd (upd H dx (.own x)) x (.ins C dx [])) (fun v H2=>v=.non/\Q (.ref x) H2) E) :
  wpAny (model X.prog X.w) X.A (call (.ref C) us) (EP X pins σ Q) X.xe s:=by
 have hq:=h (s.heap.objs.size+1) s.heap.objs.size (I.hok.fresh (fW _)) (I.hok.fresh (bH _)) (cA (fT _))
 have I2:=Inv.made (C:=C) I
 have r2:Vals (V.ref (s.heap.objs.size+1)::(vs++dvs)) (Value.ref (s.heap.objs.size+1)::(us++ds)):=.cons rfl (r.append hd)
 have hl:(Value.ref (s.heap.objs.size+1)::us++ds).length=ps.length:=by
  have e:=r2.length
  rw[F.len _ _ _ _ hq] at e
  exact e.symm
 refine wpAny_call (y4r (f:=f) I.kIn M.makes M.init (beq_iff_eq.mp M.fn) (codeAny_mono (F.run _ X.stack _ _ ⟨Value.ref (s.heap.objs.size+1)::us,[]⟩ (Value.ref (s.heap.objs.size+1)::(us++ds)) _ _ E (hr.make C us [])
  (I2.Z7.make C us []) (hb _ (Value.ref (s.heap.objs.size+1)::us) I2.kIn hl) r2 hq) fun r s' hq'=>?_))
 cases r with
 | error e=>exact hx pins σ _ _ e s' I2 hq'
 | ok fl=>
  cases fl with
  | ret u=>
   obtain⟨v,H',I3,rv,ev,q3⟩:=I2.after hq'
   subst ev
   exact⟨rv,⟨V.ref (s.heap.objs.size+1),H',I3,rfl,q3⟩⟩
  | next=>exact False.elim hq'
  | brk=>exact False.elim hq'
  | cont=>exact False.elim hq'
theorem y60(M:Mk X.K C f)(F:A7 X.prog X.w X.K X.mg X.base CX k f fd ps sp)(hr:D3 (k+1) X.A)(hg:Gl X x)(hm:X.mg x=some (.ref C))(hb:z1X X.K fd ps ds)(hd:Vals dvs ds)(hx:z7t CX X E)
  (ha:PA X (e::es) t) (hdb:(x == ("__debug__":Str))=false:=by decide) (he:starEach (e::es) X.env=(false,eval e X.env)::starEach es X.env:=by rfl) (hpl:(backTo pos (starEach es X.env)).any (·.1)=false:=by rfl) :
  PE X (.Call (.Name x p) (e::es) [] pos) (y75 C sp dvs E t):=by
 intro pins s σ H Q I h
 refine wpAny_Call_Name_kw (y0f I hg hm ?_ hdb)
 refine j7 (h₀:=X.base) I.ok.mod.kin M.kp (thn (ha pos pins s σ H _ I h) fun us s1 ⟨vs,H1,I1,r,q⟩=>⟨I1.kIn,?_⟩) he hpl
 exact y4O M F hr hb hd hx I1 r q
end
def PK(X:Cx)(kws:List Keyword)(t:TA):Prop:=
 ∀(pos:Pos) (pins:List (Addr×Obj)) (s:Shared) (σ:St) (H:Hp) (Q:List V->Hp->Prop),Inv X pins σ H s->t σ H Q->wpAny (model X.prog X.w) X.A (evalAll ((backToKw pos (keywordEach kws X.env)).map (·.2))) (AP X pins σ Q) X.xe s
section
variable{X:Cx}{CX:CXT}{k:Nat}{f C:Addr}{fd:FuncData}{ps ks:List Str}{sp:Sp}{E:XK}{x m:Str}{p pos apos kpos:Pos}{e o:Expr}{es:List Expr}{kws:List Keyword}{te ta:TE}{t tk:TA}{nm:Option Str}
theorem y0X:PK X [] V1:=fun _ _ _ _ H Q I h=>wpAny_evalAll_nil ⟨[],H,I,.nil,h⟩
theorem z91(ha:PE X e te)(hr:PK X kws t):PK X (⟨nm,e,kpos⟩::kws) (y69 te t):=by
 intro pos pins s σ H Q I h
 show wpAny _ _ (evalAll ((do let v <- eval e X.env;standAt pos;pure v)::(backToKw pos (keywordEach kws X.env)).map (·.2))) _ _ s
 refine wpAny_evalAll_cons (wpAny_bind (thn (ha pins s σ H _ I h) fun u s1 ⟨x,H1,I1,r1,q1⟩=>wpAny_bind (wpAny_standAt (wpAny_pure ?_))))
 exact thn (hr pos pins s1 σ H1 _ I1 q1) fun us s2 ⟨xs,H2,I2,r2,q2⟩=>⟨x::xs,H2,I2,.cons r1 r2,q2⟩
variable{g:List Value->List Value->List Value}{gV:List V->List V->List V}
end
structure A3(N P:List Str)(sc:Scope):Prop where
 kind:sc.kind=.function
 co:sc.isCoroutine=false
 gen:sc.isGenerator=false
 nd:N.Nodup
 pre:N.take P.length=P
 par:∀x∈P,sc.names.lookup x=some .local\/sc.names.lookup x=some .cell
 nofree:∀y∈sc.names,y.2≠.free
theorem z9G{kindOf:Str->Option NameKind}{x:Str}:∀{binds:List (Str×Value)}{m:Str->Option Value},(∀v,(x,v)∉binds)->bindL kindOf binds m x=m x
 | [],_,_=>rfl
 | (n,v)::r,m,h=>by
  unfold bindL
  rw[z9G fun w hw=>h w (bZ _ hw)]
  split
  ·have:x≠n:=by rintro rfl;exact h v cD
   simp[this]
  ·rfl
theorem z9N{kindOf:Str->Option NameKind}{x:Str}:∀{binds:List (Str×Value)}{m:Str->Option Value},(∀v,(x,v)∉binds)->bindC kindOf binds m x=m x
 | [],_,_=>rfl
 | (n,v)::r,m,h=>by
  unfold bindC
  rw[z9N fun w hw=>h w (bZ _ hw)]
  split
  ·rfl
  ·have:x≠n:=by rintro rfl;exact h v cD
   simp[this]
theorem z9W{kindOf:Str->Option NameKind}{x:Str}{v:Value}:∀{P:List Str}{vs:List Value}{i:Nat}{m:Str->Option Value},P.Nodup->P[i]? = some x->vs[i]? = some v->kindOf x=some .local->
  bindL kindOf (P.zip vs) m x=some v
 | [],_,_,_,_,h,_,_=>by simp at h
 | _::_,[],_,_,_,_,h,_=>by simp at h
 | p::P,w::vs,0,m,nd,h1,h2,hk=>by
  simp at h1 h2;subst h1;subst h2
  show bindL kindOf ((p,w)::P.zip vs) m p=_
  unfold bindL
  rw[z9G fun v hv=>(dN.mp nd).1 (List.of_mem_zip hv).1,if_pos hk]
  simp
 | p::P,w::vs,i+1,m,nd,h1,h2,hk=>by
  show bindL kindOf ((p,w)::P.zip vs) m x=_
  unfold bindL
  exact z9W (i:=i) (dN.mp nd).2 (by simpa using h1) (by simpa using h2) hk
theorem y0b{kindOf:Str->Option NameKind}{x:Str}{v:Value}:∀{P:List Str}{vs:List Value}{i:Nat}{m:Str->Option Value},P.Nodup->P[i]? = some x->vs[i]? = some v->kindOf x≠some .local->
  bindC kindOf (P.zip vs) m x=some v
 | [],_,_,_,_,h,_,_=>by simp at h
 | _::_,[],_,_,_,_,h,_=>by simp at h
 | p::P,w::vs,0,m,nd,h1,h2,hk=>by
  simp at h1 h2;subst h1;subst h2
  show bindC kindOf ((p,w)::P.zip vs) m p=_
  unfold bindC
  rw[z9N fun v hv=>(dN.mp nd).1 (List.of_mem_zip hv).1,if_neg hk]
  simp
 | p::P,w::vs,i+1,m,nd,h1,h2,hk=>by
  show bindC kindOf ((p,w)::P.zip vs) m x=_
  unfold bindC
  exact y0b (i:=i) (dN.mp nd).2 (by simpa using h1) (by simpa using h2) hk
def z6b(N:List Str)(vs:List V):St:=vs.map some++List.replicate (N.length-vs.length) none
def T4(CX:CXT)(P:Program)(w:World)(K:PySem.W.Frag)(mg:Str->Option Value)(base:Heap)(N:List Str)(qual:Str)(scope:Scope)(f:Addr)(cd:Value)(A:Around)(outer:List Env)(s:Shared)(H:Hp)(E:XK):Cx where
 prog:=P
 w:=w
 K:=K
 mg:=mg
 base:=base
 A:=A.deeper (envOfC qual scope s.heap.objs.size f cd)
 N:=N
 s₀:=s
 H₀:=H
 env:=envOfC qual scope s.heap.objs.size f cd
 outer:=outer
 stack:=envOfC qual scope s.heap.objs.size f cd::outer
 ex:=[]
 calm:=true
 fn:=fun _=>true
 pn:=[]
 xe:=fun e s'=>wpAny (model P w) (A.deeper (envOfC qual scope s.heap.objs.size f cd)) (leaving (envOfC qual scope s.heap.objs.size f cd) e) (fun _ s''=>CX outer H s E e s'') (fun e' s''=>CX outer H s E e' s'') s'
theorem y1w{sc:Scope}{n:Nat}{x:Str}(h:sc.names.lookup x=some .cell):∃c,(cellsFrom n sc.names []).lookup x=some c:=by
 have q:=PySem.W.cellsFrom_some sc.names n [] (.inl h)
 exact Option.isSome_iff_exists.mp q
theorem y3R{CX:CXT}{P:Program}{w:World}{K:PySem.W.Frag}{mg:Str->Option Value}{base:Heap}{N ps:List Str}{qual:Str}{scope:Scope}{f:Addr}{cd:Value}{A:Around}{outer:List Env}{s s1:Shared}{H:Hp}{E:XK}{us:List Value}{vs:List V}
  (S:A3 N ps scope) (hd:A.handled=none) (e0:T3 P w K mg base A outer s H) (hl:vs.length=ps.length) (r:Vals vs us)
  (x:InCallC s s.heap.objs.size (bindL (envOfC qual scope s.heap.objs.size f cd).kindOf (ps.zip us) fun _=>none) (cellsFrom (s.heap.objs.size+1) scope.names []) (bindC (envOfC qual scope s.heap.objs.size f cd).kindOf (ps.zip us) fun _=>none) s1) :
  Inv (T4 CX P w K mg base N qual scope f cd A outer s H E) [] (z6b N vs) H s1:=by
 have hpl:ps.length≤N.length:=by have:=congrArg List.length S.pre;rw[bI] at this;omega
 obtain⟨h1,tk,rfl,hk⟩:=x.done
 have noA:∀b:Addr,b∉(T4 CX P w K mg base N qual scope f cd A outer s H E).ex:=fun b z=>absurd (show b∈([]:List Addr) from z) (by simp)
 refine⟨⟨e0.mod,S.kind,rfl,rfl,bH _,fun y z c h1 h2=>?_,fun y hy=>?_,fun y c _ h=>?_,fun _=>hd,Around.frames_deeper e0.frames,.inr ⟨rfl,rfl⟩,fun b z=>absurd z (noA b),e0.bs,e0.bsz,fun b _ _=>noA b,fun b z=>absurd z (noA b),e0.P1,e0.frf⟩,
  rfl,e0.bare,Un.kept hk,⟨_,x.toInCall.ns,fun i y v h1 h2 h3=>?_⟩,fun y c h=>⟨_,x.cell y c h⟩,e0.hok.fresh (bH _),fun y c h=>?_,fun p hp=>absurd (show p∈([]:List (Addr×Obj)) from hp) (by simp),e0.hok.kept hk,?_⟩
 ·exact name_of_addr x.apart (fA h1) (fA h2)
 ·have hy:scope.names.lookup y=some .cell\/scope.names.lookup y=some .free:=hy
  rcases hy with hy|hy
  ·exact y1w hy
  ·exact absurd rfl (S.nofree _ (fA hy))
 ·exact dR (x.above y c (fA h))
 ·have hi:i<vs.length:=by
   unfold z6b at h2
   by_cases hi:i<vs.length
   ·exact hi
   ·rw[dF (by simpa using hi)] at h2
    rw[gN] at h2
    split at h2<;>cases h2
  have ha:vs[i]? = some v:=by
   unfold z6b at h2
   rw[cV (by simpa using hi),bE] at h2
   cases e:vs[i]? with
   | none=>rw[e] at h2;cases h2
   | some a=>rw[e] at h2;cases h2;rfl
  obtain⟨u,hu,rv⟩:=r.get ha
  have hp:ps[i]? = some y:=by
   rw[<- S.pre,List.getElem?_take_of_lt (by omega)];exact h1
  have ndP:ps.Nodup:=by rw[<- S.pre];exact S.nd.sublist (List.take_sublist _ _)
  refine⟨u,rv,?_⟩
  rcases S.par y (bV hp) with k|k
  ·exact .inl ⟨k,z9W ndP hp hu k⟩
  ·obtain⟨c,e⟩:=y1w (n:=s.heap.objs.size+1) k
   refine .inr ⟨.inl k,c,e,?_⟩
   have q:=x.cell y c e
   rw[y0b ndP hp hu (by show scope.names.lookup y≠_;rw[k];decide)] at q
   exact q
 ·exact e0.hok.fresh (dR (x.above y c (fA h)))
 ·unfold z6b
  show _=N.length
  rw[bJ,bA,hJ]
  omega
theorem y6Y{CX:CXT}{P:Program}{w:World}{K:PySem.W.Frag}{mg:Str->Option Value}{base:Heap}{k:Nat}{f:Addr}{name qual:Str}{params:Arguments}{body:List Stmt}{scope:Scope}{dV kV doc pm cdv ct oc:Value}{an od:Option Addr}
  {osl:Array (Option Value)}{N ps:List Str}{sp:Sp} (lk:K.lookup f=some ⟨oc,od,.func (PySem.W.fnOf name qual params body scope dV kV doc pm an cdv ct),osl⟩) (hcd:PySem.W.codeIn K cdv qual=true) (S:A3 N ps scope)
  (len:∀vs H Q E,sp vs H Q E->vs.length=ps.length)
  (S4:∀(A:Around) (outer:List Env) (s:Shared) (H:Hp) (vs:List V) (Q:VK) (E:XK),D3 k (A.deeper (envOfC qual scope s.heap.objs.size f cdv))->sp vs H Q E->
   ∃t,PSs (T4 CX P w K mg base N qual scope f cdv A outer s H E) body t/\t { nx:=fun _ H'=>Q .non H',rt:=Q } (z6b N vs) H) :
  A7 P w K mg base CX (k+1) f (PySem.W.fnOf name qual params body scope dV kV doc pm an cdv ct) ps sp:=by
 refine⟨len,fun A outer s H args us vs Q E hr e0 hb r hsp=>?_⟩
 have hl:=len _ _ _ _ hsp
 have KX:K.In s.heap:=e0.mod.kin.keeps fun b o e=>(e0.bs b o e).1
 have lim:s.heap.NoLimit:=e0.mod.nolimit.keeps fun b o e=>(e0.bs b o e).1
 have w0k:∀y∈ps.zip us,scope.names.lookup y.1=some .local\/(scope.names.lookup y.1=some .cell/\((cellsFrom (s.heap.objs.size+1) scope.names []).lookup y.1).isSome=true):=fun⟨n,v⟩ hy=>by
  rcases S.par n (List.of_mem_zip hy).1 with q|q
  ·exact .inl q
  ·exact .inr ⟨q,PySem.W.cellsFrom_some _ _ _ (.inl q)⟩
 refine codeAny_call_function hr.depth (KX _ _ lk) rfl S.co S.gen rfl (PySem.W.codeRec_of KX hcd) (hb _ _ _ _ ?_)
 refine wpAny_newFunctionEnv_cells S.kind w0k fun env he s1 x=>?_
 subst he
 refine⟨lim.keeps x.toInCall.keep,codeAny_func ?_⟩
 obtain⟨t,ht,hq⟩:=S4 A outer s H vs Q E (hr.deeper _) hsp
 have I:Inv (T4 CX P w K mg base N qual scope f cdv A outer s H E) [] (z6b N vs) H s1:=y3R S hr.hd e0 hl r x
 refine wpAny_mono (ht [] s1 (z6b N vs) H _ I hq) (fun fl s' hs=>?_) fun e s' hs=>hs
 have fin:∀{σ':St}{H':Hp}{v:V}{u:Value},Inv (T4 CX P w K mg base N qual scope f cdv A outer s H E) [] σ' H' s'->RelV v u->Q v H'->CE outer P w H s Q u s':=
  fun {σ' H' v u} J rv q=>⟨v,H',J.os,J.bare,J.base,J.hok,rv,q⟩
 cases fl with
 | ret u=>
  obtain⟨v,σ',H',J,rv,q⟩:=hs
  exact fin J rv q
 | next=>
  obtain⟨σ',H',J,q⟩:=hs
  exact fin (v:=V.non) (u:=Value.none) J rfl q
 | brk=>
  obtain⟨_,_,_,q⟩:=hs
  exact False.elim q
 | cont=>
  obtain⟨_,_,_,q⟩:=hs
  exact False.elim q
section
variable{X:Cx}{x:Str}{p pos:Pos}{e:Expr}{es:List Expr}{t:TA}{id T:String}{r:List V->Hp->VK->Prop}
def tCB(r:List V->Hp->VK->Prop)(t:TA):TE:=fun σ H Q=>t σ H fun vs H1=>r vs H1 Q
theorem z0d(hc:z3F X (.builtin id) r)(hg:Gl X x)(hm:X.mg x=none)(hv:bootBuiltins x=some (.builtin id))(ha:PA X (e::es) t)(hn:x≠"__name__":=by decide)(hdb:(x == ("__debug__":Str))=false:=by decide)
  (he:starEach (e::es) X.env=(false,eval e X.env)::starEach es X.env:=by rfl) (hpl:(backTo pos (starEach es X.env)).any (·.1)=false:=by rfl):PE X (.Call (.Name x p) (e::es) [] pos) (tCB r t):=by
 intro pins s σ H Q I h
 refine wpAny_Call_Name_kw (z4L I hg hm hv ?_ hn hdb)
 exact PyProof.Rows.callWith_builtin1 (thn (ha pos pins s σ H _ I h) fun us s1 ⟨vs,H1,I1,r1,q1⟩=>hc pins s1 σ H1 vs us Q I1 r1 q1) he hpl
theorem z0t(hc:z3F X (.type T) r)(hg:Gl X x)(hm:X.mg x=none)(hv:bootBuiltins x=some (.type T))(ha:PA X (e::es) t)(hn:x≠"__name__":=by decide)(hdb:(x == ("__debug__":Str))=false:=by decide)
  (he:starEach (e::es) X.env=(false,eval e X.env)::starEach es X.env:=by rfl) (hpl:(backTo pos (starEach es X.env)).any (·.1)=false:=by rfl):PE X (.Call (.Name x p) (e::es) [] pos) (tCB r t):=by
 intro pins s σ H Q I h
 refine wpAny_Call_Name_kw (z4L I hg hm hv ?_ hn hdb)
 exact dC (thn (ha pos pins s σ H _ I h) fun us s1 ⟨vs,H1,I1,r1,q1⟩=>hc pins s1 σ H1 vs us Q I1 r1 q1) he hpl
end
end L2
namespace HT
open PySem PyProof.Rows
section
open PySem.SeqAt
open PySem.AutoSeq1 (wpAny_loadPart')
open PySem.MeetsSeq PySem.MeetsSeq2 PySem.MeetsSeq3
end
section
variable{prog:Program}{w:World}{A:Around}{E:Value->Shared->Prop}{s:Shared}
theorem y2L{t b:Addr}{vs ws:List Value}{Q:Value->Shared->Prop}(ht:IsTup s.heap t vs.toArray)(hb:IsTup s.heap b ws.toArray)(hv:vs≠[])
  (h1:ws=[]->Q (.ref t) s) (h2:ws≠[]->Q (.ref s.heap.objs.size) { s with heap:=s.heap.push { cls:=.type "tuple",data:=.seq (vs++ws).toArray } })
  (hsz:vs.length+ws.length≤sizeLine):wpAny (model prog w) A (binaryOp .Add (.ref t) (.ref b)) Q E s:=by
 obtain⟨⟨cls,dd,data,sl⟩,ho,hc,n,hd⟩:=id ht
 obtain⟨⟨cls2,dd2,data2,sl2⟩,ho2,hc2,n2,hd2⟩:=id hb
 simp only at hc hd hc2 hd2
 subst hc hd hc2 hd2
 have e:vs.toArray++ws.toArray=(vs++ws).toArray:=by simp
 by_cases hw:ws=[]
 ·exact concat_meets ⟨_,ho,rfl⟩ ⟨_,ho2,rfl⟩ noFill_tuple_add seq_tuple_add gU gO (gH _ _)
   (tuple_addW1 t b vs.toArray ws.toArray n n2 dd dd2 sl sl2 (by simpa using hv) (by simp[hw])) ⟨ho,ho2,h1 hw⟩
 ·refine concat_meets ⟨_,ho,rfl⟩ ⟨_,ho2,rfl⟩ noFill_tuple_add seq_tuple_add gU gO (gH _ _)
   (tuple_addW2 t b vs.toArray ws.toArray n n2 dd dd2 sl sl2 (by simpa using hv) (by simpa using hw) (by rw[bK,bK];exact hsz)) ⟨ho,ho2,?_⟩
  rw[e]
  exact h2 hw
def sIx(n d:Nat):Option Int->Nat
 | none=>d
 | some v=>if v<0 then (v+(n:Int)).toNat else min v.toNat n
theorem z97(n d k:Nat):sIx n d (some (k:Int))=min k n:=by
 show(if (k:Int)<0 then ((k:Int)+(n:Int)).toNat else min (k:Int).toNat n)=min k n
 rw[if_neg (by omega),Int.toNat_natCast]
theorem y5i(n d:Nat)(hd:d≤n)(o:Option Int):sIx n d o≤n:=by
 cases o with
 | none=>exact hd
 | some v=>
  show(if v<0 then (v+(n:Int)).toNat else min v.toNat n)≤n
  by_cases hv:v<0
  ·rw[if_pos hv];omega
  ·rw[if_neg hv];exact Nat.min_le_right _ _
theorem y2K(v:Int)(n d:Nat):(if v<0 then max (v+(n:Int)) 0 else min v (n:Int))=((sIx n d (some v):Nat):Int):=by
 show(if v<0 then max (v+(n:Int)) 0 else min v (n:Int))=(((if v<0 then (v+(n:Int)).toNat else min v.toNat n):Nat):Int)
 by_cases hv:v<0
 ·simp only[if_pos hv];omega
 ·simp only[if_neg hv];omega
theorem y22(lo hi:Option Int)(n:Nat):Builtin.Slice.sliceAdjust lo hi 1 (n:Int)=(((sIx n 0 lo:Nat):Int),((sIx n n hi:Nat):Int)):=by
 have h1:¬((1:Int)<0):=by omega
 unfold Builtin.Slice.sliceAdjust
 simp only[h1,if_false]
 refine Prod.ext ?_ ?_
 ·cases lo with
  | none=>rfl
  | some v=>exact y2K v n 0
 ·cases hi with
  | none=>rfl
  | some v=>exact y2K v n n
theorem y2b(i j:Nat):Builtin.Slice.slicePlaces (i:Int) (j:Int) 1=j-i:=by
 unfold Builtin.Slice.slicePlaces
 have h1:(1:Int) > 0:=by omega
 simp only[h1,if_true,Int.ediv_one]
 split<;>omega
theorem z8N{v:Value}{o:Option Int}{Q:Option Int->Shared->Prop}(p:IsPart v o)(h:Q o s):wpAny (model prog w) A (Builtin.Slice.slicePartIndex v) Q E s:=by
 cases p with
 | none=>exact slicePart_none h
 | int i t=>exact slicePart_int h
theorem z3S{sl:Addr}{vl vu:Value}{lo hi:Option Int}{n:Nat}{Q:Int×Int×Nat->Shared->Prop}(hs:s.heap.IsSliceOf sl vl vu .none)(pl:IsPart vl lo)(pu:IsPart vu hi)
  (h:Q (((sIx n 0 lo:Nat):Int),1,sIx n n hi-sIx n 0 lo) s):wpAny (model prog w) A (Builtin.Slice.sliceApplied (.ref sl) (pure (n:Int))) Q E s:=by
 obtain⟨os,hos,hcs,hds⟩:=id hs
 unfold Builtin.Slice.sliceApplied Builtin.Slice.sliceFields
 refine wpAny_bind (wpAny_bind (wpAny_field hos hds (x:=vl) rfl (wpAny_bind (wpAny_field hos hds (x:=vu) rfl (wpAny_bind (wpAny_field hos hds (x:=.none) rfl (wpAny_pure ?_)))))))
 refine wpAny_bind (slicePart_none ?_)
 show wpAny _ _ (if ((1:Int) == 0)=true then _ else _) _ _ s
 rw[if_neg (by decide)]
 refine wpAny_bind (z8N pl (wpAny_bind (z8N pu (wpAny_bind (wpAny_pure ?_)))))
 show wpAny _ _ (match Builtin.Slice.sliceAdjust lo hi 1 (n:Int) with|(lo,hi)=>pure (lo,(1:Int),Builtin.Slice.slicePlaces lo hi 1)) _ _ s
 rw[y22 lo hi n]
 show wpAny _ _ (pure (((sIx n 0 lo:Nat):Int),(1:Int),Builtin.Slice.slicePlaces ((sIx n 0 lo:Nat):Int) ((sIx n n hi:Nat):Int) 1)) _ _ s
 rw[y2b]
 exact wpAny_pure h
theorem y54(xs:Array Value)(i k:Nat):((List.range k).filterMap fun(m:Nat)=>xs[((i:Int)+(m:Int)*1).toNat]?).toArray=((xs.toList.drop i).take k).toArray:=by
 have e:(fun(m:Nat)=>xs[((i:Int)+(m:Int)*1).toNat]?)=fun m=>xs[i+m]? := by
  funext m
  have:((i:Int)+(m:Int)*1).toNat=i+m:=by omega
  rw[this]
 rw[e]
 have:=pick_run xs i k
 rw[List.filterMap_map] at this
 have e2:((fun x=>xs[x]?) ∘ fun x=>i+x)=fun m=>xs[i+m]? := rfl
 rw[e2] at this
 rw[this]
theorem z5Z{t sl:Addr}{items:Array Value}{vl vu:Value}{lo hi:Option Int}{Q:Value->Shared->Prop}(ht:IsTup s.heap t items)(hs:s.heap.IsSliceOf sl vl vu .none)(pl:IsPart vl lo)(pu:IsPart vu hi)
  (hw:¬(sIx items.size 0 lo=0/\sIx items.size items.size hi=items.size))
  (h:Q (.ref s.heap.objs.size) { s with heap:=s.heap.push { cls:=.type "tuple",data:=.seq ((items.toList.drop (sIx items.size 0 lo)).take (sIx items.size items.size hi-sIx items.size 0 lo)).toArray } })
  (hsz:items.size≤sizeLine):wpAny (model prog w) A (getItem (.ref t) (.ref sl)) Q E s:=by
 have T6:sizeOk (.seq ((items.toList.drop (sIx items.size 0 lo)).take (sIx items.size items.size hi-sIx items.size 0 lo)).toArray):=by
  show((items.toList.drop (sIx items.size 0 lo)).take (sIx items.size items.size hi-sIx items.size 0 lo)).toArray.size≤sizeLine
  rw[bK,bI,dD,fX]
  omega
 have hj:sIx items.size items.size hi≤items.size:=y5i _ _ (bH _) hi
 obtain⟨os,hos,hcs,hds⟩:=id hs
 have hTs:s.TypeIs (.ref sl) "slice":=⟨os,hos,hcs⟩
 unfold getItem
 try with_reducible refine wpAny_holding ?_
 first|refine wpAny_bind (wpAny_pure ?_)|skip
 refine wpAny_bind (wpAny_sequenceKey ht.typeIs (by decide) ?_)
 refine wpAny_bind (wpAny_callSpecial?_slot (name:=Str.ofString "__getitem__") ht.typeIs cZ
  (wpAny_call_entry cZ ht.typeIs entry_tuple_getitem ?_ (args_tuple_getitem _ _)))
 show wpAny _ _ (Builtin.Tuple.tupleItemsOf (.ref t) >>= _) _ _ s
 refine wpAny_bind (tupleItemsOf_ ht ?_)
 refine wpAny_bind (wpAny_typeOf hTs ?_)
 rw[if_pos (by decide)]
 refine wpAny_bind (z3S hs pl pu ?_)
 have hno:¬((((sIx items.size 0 lo:Nat):Int) == 0 && (1:Int) == 1 && (sIx items.size items.size hi-sIx items.size 0 lo) == items.size)=true):=by
  intro q
  rw[bW,bW] at q
  have q1:((sIx items.size 0 lo:Nat):Int)=0:=eq_of_beq q.1.1
  have q2:sIx items.size items.size hi-sIx items.size 0 lo=items.size:=eq_of_beq q.2
  exact hw ⟨by omega,by omega⟩
 show wpAny _ _ (if (((sIx items.size 0 lo:Nat):Int) == 0 && (1:Int) == 1 && (sIx items.size items.size hi-sIx items.size 0 lo) == items.size)=true then _ else _) _ _ s
 rw[if_neg hno,y54]
 first
  | exact wpAny_bind (m:=Builtin.Tuple.tupleExact _) (wpAny_newObj_type (wpAny_pure ⟨_,rfl,wpAny_pure h⟩) T6)
  | exact wpAny_bind (m:=Builtin.Tuple.tupleExact _) (wpAny_newObj_type (wpAny_bind (wpAny_pure (wpAny_pure ⟨_,rfl,wpAny_pure h⟩))) T6)
  | exact wpAny_bind (wpAny_bind (m:=Builtin.Tuple.tupleExact _) (wpAny_newObj_type (wpAny_pure (wpAny_pure ⟨_,rfl,wpAny_pure h⟩)) T6))
  | exact wpAny_bind (wpAny_bind (m:=Builtin.Tuple.tupleExact _) (wpAny_newObj_type (wpAny_pure ⟨_,rfl,wpAny_pure h⟩) T6))
end
end HT
namespace L2
open PySem PySem.Spec PyProof.Rows
abbrev TO:=St->Hp->(Option Int->Hp->Prop)->Prop
def PO(X:Cx)(e:Option Expr)(t:TO):Prop:=
 ∀(pins:List (Addr×Obj)) (s:Shared) (σ:St) (H:Hp) (Q:Option Int->Hp->Prop),Inv X pins σ H s->t σ H Q->
  wpAny (model X.prog X.w) X.A (evalPart e X.env) (fun u s'=>∃o H',Inv X pins σ H' s'/\IsPart u o/\Q o H') X.xe s
def y68:TO:=fun _ H Q=>Q none H
def w04(t:TE):TO:=fun σ H Q=>t σ H fun x H1=>∃i,x=.int i/\Q (some i) H1
theorem y1Z{ns:List Int}:∀{us:List Value},Vals (ns.map V.int) us->IntsAre us ns:=by
 induction ns with
 | nil=>intro us r;rw[List.map_nil] at r;cases r;exact .nil
 | cons n ns ih=>
  intro us r
  rw[cL] at r
  cases r with
  | cons r1 r2=>
   obtain⟨t,e⟩:=r1
   subst e
   exact .cons n t (ih r2)
section
variable{X:Cx}{e:Expr}{te:TE}{lo hi:Option Expr}{tl th:TO}{pos p2:Pos}
theorem z3E:PO X none y68:=by
 intro pins s σ H Q I h
 rw[evalPart_none]
 exact wpAny_pure ⟨none,H,I,.none,h⟩
theorem z3I(h:PE X e te):PO X (some e) (w04 te):=by
 intro pins s σ H Q I hw
 rw[evalPart_some]
 refine thn (h pins s σ H _ I hw) fun u s1 hz=>?_
 obtain⟨x,H1,I1,r1,q1⟩:=hz
 obtain⟨i,rfl,q⟩:=q1
 obtain⟨t,rfl⟩:=r1
 exact⟨some i,H1,I1,.int i t,q⟩
def SlR(X:Cx)(r:V->Option Int->Option Int->Hp->VK->Prop):Prop:=
 ∀(pins:List (Addr×Obj)) (s:Shared) (σ:St) (H:Hp) (x:V) (v vl vu:Value) (lo hi:Option Int) (sl:Addr) (Q:VK),Inv X pins σ H s->RelV x v->s.heap.IsSliceOf sl vl vu .none->IsPart vl lo->IsPart vu hi->r x lo hi H Q->
  ∃T id,typeLookup (.type T) "__getitem__"=pure (some (.builtin id))/\s.TypeIs v T/\wpAny (model X.prog X.w) X.A (getItem v (.ref sl)) (EP X pins σ Q) X.xe s
def tSl(r:V->Option Int->Option Int->Hp->VK->Prop)(te:TE)(tl th:TO):TE:=fun σ H Q=>te σ H fun x H1=>tl σ H1 fun l H2=>th σ H2 fun u H3=>r x l u H3 Q
theorem z2I{r:V->Option Int->Option Int->Hp->VK->Prop}(hr:SlR X r)(he:PE X e te)(hl:PO X lo tl)(hu:PO X hi th):PE X (.Subscript e (.Slice lo hi none p2) pos) (tSl r te tl th):=by
 intro pins s σ H Q I h
 refine Subscript_ (thn (he pins s σ H _ I h) fun v s1 hz=>?_)
 obtain⟨x,H1,I1,r1,q1⟩:=hz
 refine wpAny_Slice (thn (hl pins s1 σ H1 _ I1 q1) fun vl s2 ⟨l,H2,I2,pl,q2⟩=>thn (hu pins s2 σ H2 _ I2 q2) fun vu s3 hz=>?_)
 obtain⟨u,H3,I3,pu,q3⟩:=hz
 rw[evalPart_none]
 refine wpAny_pure ?_
 have I4:Inv X pins σ H3 { s3 with heap:=s3.heap.push { cls:=.type "slice",data:=.fields #[vl,vu,.none] } }:=I3.kept (t':=s3.toks) fun b ob q=>bB _ q
 obtain⟨T,id,hT,ht,hg⟩:=hr pins { s3 with heap:=s3.heap.push { cls:=.type "slice",data:=.fields #[vl,vu,.none] } } σ H3 x v vl vu l u s3.heap.objs.size Q I4 r1 (Heap.IsSliceOf.new ..) pl pu q3
 show wpAny (model X.prog X.w) X.A (subscriptTail e (.Slice lo hi none p2) v (.ref s3.heap.objs.size)) (EP X pins σ Q) X.xe { s3 with heap:=s3.heap.push { cls:=.type "slice",data:=.fields #[vl,vu,.none] } }
 exact tail_any (ops:=[.ref s3.heap.objs.size,v]) ht hT hg (by with_unfolding_all rfl)
def K5(xs:List V)(lo hi:Option Int):List V:=(xs.drop (HT.sIx xs.length 0 lo)).take (HT.sIx xs.length xs.length hi-HT.sIx xs.length 0 lo)
theorem z7l(xs:List V)(lo hi:Option Int):(K5 xs lo hi).length≤xs.length:=by
 unfold K5
 rw[bI,dD]
 omega
def rSlT(K:PySem.W.Frag):V->Option Int->Option Int->Hp->VK->Prop:=fun x lo hi H Q=>∃a xs,x=.ref a/\SqT K H a xs/\
 ¬(HT.sIx xs.length 0 lo=0/\HT.sIx xs.length xs.length hi=xs.length)/\∀p,H p=none->Q (.ref p) (upd H p (.tup (K5 xs lo hi)))
theorem y57:SlR X (rSlT X.K):=by
 intro pins s σ H x v vl vu lo hi sl Q I rx hs pl pu h
 obtain⟨a,xs,rfl,hx,hw,q⟩:=h
 cases rx
 obtain⟨its,r,ht,hz⟩:=I.tuple hx
 have hlen:its.toArray.size=xs.length:=by rw[bK];exact r.length.symm
 refine⟨"tuple",_,cZ.lookup,ht.typeIs,?_⟩
 refine HT.z5Z ht hs pl pu (by rw[hlen];exact hw) ?_ (by rw[hlen];exact hz)
 rw[hlen]
 refine⟨.ref s.heap.objs.size,_,I.laid (t':=s.toks) (o:=.tup (K5 xs lo hi)) (fun b ob q=>bB _ q) (bH _) ?_,rfl,q _ (I.hok.fresh (bH _))⟩
 exact⟨cM (z7l xs lo hi) hz,_,(r.drop (HT.sIx xs.length 0 lo)).take (HT.sIx xs.length xs.length hi-HT.sIx xs.length 0 lo),PlT.new _ _⟩
def y6C(K:PySem.W.Frag):R2:=fun x y H Q=>∃a b xs ys,x=.ref a/\y=.ref b/\SqT K H a xs/\SqT K H b ys/\xs≠[]/\xs.length+ys.length≤sizeLine/\
 (ys=[]->Q (.ref a) H)/\(ys≠[]->∀p,H p=none->Q (.ref p) (upd H p (.tup (xs++ys))))
theorem Vals.N9{xs:List V}{us:List Value}(r:Vals xs us):us=[]↔xs=[]:=by
 cases r with
 | nil=>simp
 | cons _ _=>simp
theorem y5E:OpR X (binaryOp .Add) (y6C X.K):=by
 intro pins s σ H x y v u Q I rx ry h
 obtain⟨a,b,xs,ys,rfl,rfl,ha,hb,hx,hz,q1,q2⟩:=h
 cases rx
 cases ry
 obtain⟨its,r1,p1,_⟩:=I.tuple ha
 obtain⟨K8,r2,p2,_⟩:=I.tuple hb
 refine HT.y2L p1 p2 (fun z=>hx (r1.N9.mp z)) (fun z=>⟨.ref a,H,I,rfl,q1 (r2.N9.mp z)⟩) (fun z=>?_) (by rw[<- r1.length,<- r2.length];exact hz)
 refine⟨.ref s.heap.objs.size,_,I.laid (t':=s.toks) (o:=.tup (xs++ys)) (fun b ob q=>bB _ q) (bH _) ?_,rfl,q2 (fun w=>z (r2.N9.mpr w)) _ (I.hok.fresh (bH _))⟩
 exact⟨by rw[bJ];exact hz,_,r1.append r2,PlT.new _ _⟩
end
def ixN(n:Nat)(i:Int):Option Nat:=if 0≤i then (if i<n then some i.toNat else none) else if -(n:Int)≤i then some (i+n).toNat else none
def atI{α:Type}(xs:List α)(i:Int):Option α:=(ixN xs.length i).bind fun j=>xs[j]?
theorem y6b{n:Nat}{i:Int}{j:Nat}(h:ixN n i=some j):seqIndex? i n=some j/\j<n/\-(n:Int)≤i/\i<n:=by
 unfold ixN at h
 by_cases h0:0≤i
 ·rw[if_pos h0] at h
  by_cases h1:i<n
  ·rw[if_pos h1] at h
   have e:i.toNat=j:=Option.some.inj h
   exact⟨by rw[seqIndex_of h0 h1,e],by omega,by omega,h1⟩
  ·rw[if_neg h1] at h;cases h
 ·rw[if_neg h0] at h
  by_cases h1:-(n:Int)≤i
  ·rw[if_pos h1] at h
   have e:(i+n).toNat=j:=Option.some.inj h
   exact⟨by rw[seqIndex_neg (by omega) h1,e],by omega,h1,by omega⟩
  ·rw[if_neg h1] at h;cases h
theorem y0u{α:Type}{xs:List α}{i:Int}{v:α}(h:atI xs i=some v):∃j,seqIndex? i xs.length=some j/\xs[j]? = some v/\j<xs.length/\-(xs.length:Int)≤i/\i<xs.length:=by
 unfold atI at h
 cases e:ixN xs.length i with
 | none=>rw[e] at h;cases h
 | some j=>
  rw[e] at h
  obtain⟨h1,h2,h3,h4⟩:=y6b e
  exact⟨j,h1,h,h2,h3,h4⟩
theorem z0X{α:Type}{xs:List α}{j:Nat}{v:α}(h:xs[j]? = some v):atI xs (j:Int)=some v:=by
 have hj:j<xs.length:=(cC.mp h).1
 have e:ixN xs.length (j:Int)=some j:=by
  unfold ixN
  rw[if_pos (by omega),if_pos (by omega)];simp
 unfold atI;rw[e];exact h
def y6d(b:Expr):Prop:=∀o i,subscripted b false o i=operate [o,i] (getItem o i)
def IxR(X:Cx)(r:R2):Prop:=
 ∀(value slice:Expr) (pins:List (Addr×Obj)) (s:Shared) (σ:St) (H:Hp) (x y:V) (v u:Value) (Q:VK),Inv X pins σ H s->RelV x v->RelV y u->r x y H Q->
  subscripted slice false v u=operate [v,u] (getItem v u)->wpAny (model X.prog X.w) X.A (subscriptTail value slice v u) (EP X pins σ Q) X.xe s
def MtR(X:Cx)(id:String)(r:V->List V->Hp->VK->Prop):Prop:=
 ∀(pins:List (Addr×Obj)) (s:Shared) (σ:St) (H:Hp) (x:V) (xs:List V) (v:Value) (us:List Value) (Q:VK),Inv X pins σ H s->RelV x v->Vals xs us->r x xs H Q->
  wpAny (model X.prog X.w) X.A (call (.builtin id) (v::us)) (EP X pins σ Q) X.xe s
section
variable{X:Cx}{a b:Expr}{ta tb:TE}{pos:Pos}
theorem IxR.or{r r':R2}(h:IxR X r)(h':IxR X r'):IxR X (fun x y H Q=>r x y H Q\/r' x y H Q):=by
 intro value slice pins s σ H x y v u Q I rx ry q hs
 rcases q with q|q
 ·exact h value slice pins s σ H x y v u Q I rx ry q hs
 ·exact h' value slice pins s σ H x y v u Q I rx ry q hs
theorem z0D{r:R2}(hr:IxR X r)(ha:PE X a ta)(hb:PE X b tb)(hs:y6d b):PE X (.Subscript a b pos) (tOp r ta tb):=by
 intro pins s σ H Q I h
 exact Subscript_ (X8 ha hb I h fun v u s2 x y H2 I2 rx ry q=>hr a b pins s2 σ H2 x y v u Q I2 rx ry q (hs _ _))
def rIxL(K:PySem.W.Frag):R2:=fun x y H Q=>∃p xs i v,x=.ref p/\y=.int i/\SqL K H p xs/\atI xs i=some v/\Q v H
def O8(K:PySem.W.Frag):R2:=fun x y H Q=>∃p xs i v,x=.ref p/\y=.int i/\SqT K H p xs/\atI xs i=some v/\Q v H
def rIxS:R2:=fun x y H Q=>∃z i c,x=.str z/\y=.int i/\z.length≤sizeLine/\atI z.cps.toList i=some c/\Q (.str ⟨#[c]⟩) H
theorem z0Z:IxR X (rIxL X.K):=by
 intro value slice pins s σ H x y v u Q I rx ry h hs
 obtain⟨p,xs,i,z,rfl,rfl,hq,he,q⟩:=h
 cases rx
 obtain⟨t,rfl⟩:=ry
 obtain⟨its,r,pl,hz⟩:=I.list hq
 obtain⟨j,h1,h2,h3,h4,h5⟩:=y0u he
 obtain⟨w,ew,rw'⟩:=r.get h2
 have hl:=r.length
 have hn:=z7U
 have fin:EP X pins σ Q w s:=⟨z,H,I,rw',q⟩
 by_cases h0:0≤i
 ·have hj:i.toNat=j:=by
   rw[seqIndex_of h0 h5] at h1
   exact Option.some.inj h1
  exact item_listR pl.isList h0 (by omega) (by rw[hj];simpa using ew) fin hs
 ·have hj:(i+(its.toArray.size:Int)).toNat=j:=by
   rw[seqIndex_neg (by omega) h4] at h1
   rw[bK,<- hl]
   exact Option.some.inj h1
  exact subscriptTail_builtinR (x:=w) pl.isList.typeIs slot_list_getitem.lookup
   (wpAny_getItem_list_neg (Q:=fun r s'=>r=w/\EP X pins σ Q r s') pl.isList (by omega) (by rw[bK]<;>omega) (by omega) (by rw[hj];simpa using ew) ⟨rfl,fin⟩) hs
theorem z0C:IxR X (O8 X.K):=by
 intro value slice pins s σ H x y v u Q I rx ry h hs
 obtain⟨p,xs,i,z,rfl,rfl,hq,he,q⟩:=h
 cases rx
 obtain⟨t,rfl⟩:=ry
 obtain⟨its,r,pl,hz⟩:=I.tuple hq
 obtain⟨j,h1,h2,h3,h4,h5⟩:=y0u he
 obtain⟨w,ew,rw'⟩:=r.get h2
 have hl:=r.length
 have hn:=z7U
 have fin:EP X pins σ Q w s:=⟨z,H,I,rw',q⟩
 exact subscriptTail_builtinR (x:=w) pl.typeIs slot_tuple_getitem.lookup
  (getItem_tuple (j:=j) (Q:=fun r s'=>r=w/\EP X pins σ Q r s') pl (by omega) (by omega) (by rw[bK,<- hl];exact h1) (by simpa using ew) ⟨rfl,fin⟩) hs
theorem y2R:IxR X rIxS:=by
 intro value slice pins s σ H x y v u Q I rx ry h hs
 obtain⟨z,i,c,rfl,rfl,hz,he,q⟩:=h
 obtain⟨t,rfl⟩:=rx
 obtain⟨t',rfl⟩:=ry
 obtain⟨j,h1,h2,h3,h4,h5⟩:=y0u he
 have hl:z.cps.toList.length=z.length:=by simp[Str.length]
 rw[hl] at h1 h4 h5
 have hn:=z7U
 exact tail_any (typeIs_str s z t) slot_str_getitem.lookup (getItem_str (c:=c) (by
  have e1:decide (i < -(2^63:Int))=false:=decide_eq_false (by omega)
  have e2:decide (i≥2^63)=false:=decide_eq_false (by omega)
  rw[e1,e2,Bool.or_false]) (by rw[h1];simpa using h2) ⟨.str ⟨#[c]⟩,H,I.tok _,⟨_,rfl⟩,q⟩) hs
def rIx(K:PySem.W.Frag):R2:=fun x y H Q=>rIxL K x y H Q\/O8 K x y H Q\/rIxS x y H Q
theorem y6D:IxR X (rIx X.K):=z0Z.or (z0C.or y2R)
theorem z6D(lo hi:Option Int)(n:Nat):(sliceBounds lo hi none n).1=((HT.sIx n 0 lo:Nat):Int)/\(sliceBounds lo hi none n).2.1=((HT.sIx n n hi:Nat):Int)/\(sliceBounds lo hi none n).2.2=1:=by
 refine⟨?_,?_,rfl⟩
 ·cases lo with
  | none=>simp[sliceBounds,HT.sIx]
  | some i=>
   simp only[sliceBounds,HT.sIx,Option.getD_none,show(1:Int) > 0 by decide,if_true]
   by_cases h:i<0
   ·simp only[h,if_true]<;>omega
   ·simp only[h,if_false]<;>omega
 ·cases hi with
  | none=>simp[sliceBounds,HT.sIx]
  | some i=>
   simp only[sliceBounds,HT.sIx,Option.getD_none,show(1:Int) > 0 by decide,if_true]
   by_cases h:i<0
   ·simp only[h,if_true]<;>omega
   ·simp only[h,if_false]<;>omega
theorem z8Y(its:List Value)(lo hi:Option Int):slicePick its.toArray lo hi none=((its.drop (HT.sIx its.length 0 lo)).take (HT.sIx its.length its.length hi-HT.sIx its.length 0 lo)).toArray:=by
 obtain⟨h1,h2,h3⟩:=z6D lo hi its.toArray.size
 unfold slicePick
 rw[h1,h2,h3]
 simp only[sliceRange_one,pick_run,bK]<;>rfl
def rSlL(K:PySem.W.Frag):V->Option Int->Option Int->Hp->VK->Prop:=fun x lo hi H Q=>∃a xs,x=.ref a/\SqL K H a xs/\∀p,H p=none->Q (.ref p) (upd H p (.lst (K5 xs lo hi)))
theorem y0z:SlR X (rSlL X.K):=by
 intro pins s σ H x v vl vu lo hi sl Q I rx hs pl pu h
 obtain⟨a,xs,rfl,hx,q⟩:=h
 cases rx
 obtain⟨its,r,ht,hz⟩:=I.list hx
 have hlen:=r.length
 refine⟨"list",_,slot_list_getitem.lookup,ht.isList.typeIs,?_⟩
 refine wpAny_getItem_list_slice ht.isList hs pl pu .none (by simp) ?_ (by rw[bK]<;>omega)
 rw[z8Y,<- hlen]
 refine⟨.ref s.heap.objs.size,_,I.laid (t':=s.toks) (o:=.lst (K5 xs lo hi)) (fun b ob q=>bB _ q) (bH _) ?_,rfl,q _ (I.hok.fresh (bH _))⟩
 exact⟨cM (z7l xs lo hi) hz,_,0,(r.drop (HT.sIx xs.length 0 lo)).take (HT.sIx xs.length xs.length hi-HT.sIx xs.length 0 lo),bN _ rfl⟩
def z1Y:V->Bool
 | .non=>true
 | .bl _=>true
 | .int _=>true
 | .str _=>true
 | _=>false
def eqV:V->V->Bool
 | .non,.non=>true
 | .bl a,.bl b=>a == b
 | .bl a,.int b=>(if a then 1 else 0) == b
 | .int a,.bl b=>a == (if b then 1 else 0)
 | .int a,.int b=>a == b
 | .str a,.str b=>a == b
 | _,_=>false
theorem y33{A:Around}{s:Shared}{y x:V}{u v:Value}(ry:RelV y u)(rx:RelV x v)(fy:z1Y y=true)(fx:z1Y x=true):SeqAt.EqAt A s u v (eqV y x):=by
 cases y with
 | non=>
  cases ry
  cases x with
  | non=>cases rx;exact SeqAt.EqAt.same _
  | bl b=>cases rx;exact SeqAt.EqAt.none_bool b
  | int b=>obtain⟨t,rfl⟩:=rx;exact SeqAt.EqAt.none_int b t
  | str b=>obtain⟨t,rfl⟩:=rx;exact SeqAt.EqAt.none_str b t
  | _=>exact absurd (show false=true from fx) bO
 | bl a=>
  cases ry
  cases x with
  | non=>cases rx;exact SeqAt.EqAt.bool_none a
  | bl b=>cases rx;exact SeqAt.EqAt.bool_bool a b
  | int b=>obtain⟨t,rfl⟩:=rx;exact SeqAt.EqAt.bool_int a b t
  | str b=>obtain⟨t,rfl⟩:=rx;exact SeqAt.EqAt.bool_str a b t
  | _=>exact absurd (show false=true from fx) bO
 | int a=>
  obtain⟨t',rfl⟩:=ry
  cases x with
  | non=>cases rx;exact SeqAt.EqAt.int_none a t'
  | bl b=>cases rx;exact SeqAt.EqAt.int_bool a t' b
  | int b=>obtain⟨t,rfl⟩:=rx;exact SeqAt.EqAt.int_int a t' b t
  | str b=>obtain⟨t,rfl⟩:=rx;exact SeqAt.EqAt.int_str a t' b t
  | _=>exact absurd (show false=true from fx) bO
 | str a=>
  obtain⟨t',rfl⟩:=ry
  cases x with
  | non=>cases rx;exact SeqAt.EqAt.str_none a t'
  | bl b=>cases rx;exact SeqAt.EqAt.str_bool a t' b
  | int b=>obtain⟨t,rfl⟩:=rx;exact SeqAt.EqAt.str_int a t' b t
  | str b=>obtain⟨t,rfl⟩:=rx;exact SeqAt.EqAt.str_str a t' b t
  | _=>exact absurd (show false=true from fx) bO
 | _=>exact absurd (show false=true from fy) bO
def eqU(x:V)(u:Value):Bool:=match u with
 | .none=>eqV .non x
 | .bool b=>eqV (.bl b) x
 | .int i _=>eqV (.int i) x
 | .str z _=>eqV (.str z) x
 | _=>false
theorem y18{x y:V}{u:Value}(r:RelV y u)(f:z1Y y=true):eqU x u=eqV y x:=by
 cases y with
 | non=>cases r;rfl
 | bl b=>cases r;rfl
 | int i=>obtain⟨t,rfl⟩:=r;rfl
 | str z=>obtain⟨t,rfl⟩:=r;rfl
 | _=>exact absurd (show false=true from f) bO
theorem z8a{x:V}:∀{xs:List V}{us:List Value},Vals xs us->xs.all z1Y=true->us.any (eqU x)=xs.any fun y=>eqV y x
 | _,_,.nil,_=>rfl
 | y::xs,u::us,.cons r t,f=>by
  rw[fG,bW] at f
  rw[fH,fH,y18 r f.1,z8a t f.2]
theorem z4B{A:Around}{s:Shared}{x:V}{v:Value}(rx:RelV x v)(fx:z1Y x=true):∀{xs:List V}{us:List Value},Vals xs us->xs.all z1Y=true->∀u∈us,SeqAt.EqAt A s u v (eqU x u)
 | _,_,.nil,_=>fun u hu=>by cases hu
 | y::xs,u::us,.cons r t,f=>fun u' hu=>by
  rw[fG,bW] at f
  rcases bF.mp hu with rfl|hu
  ·rw[y18 r f.1];exact y33 r rx f.1 fx
  ·exact z4B rx fx t f.2 u' hu
def inV(x:V)(xs:List V):Bool:=xs.any fun y=>eqV y x
def rIn(K:PySem.W.Frag)(neg:Bool):R2:=fun x y H Q=>∃p xs,y=.ref p/\(SqL K H p xs\/SqT K H p xs)/\z1Y x=true/\xs.all z1Y=true/\Q (.bl (if neg then !inV x xs else inV x xs)) H
theorem z5Y:OpR X (compareOp .In) (rIn X.K false):=by
 intro pins s σ H x y v u Q I rx ry h
 obtain⟨p,xs,rfl,hq,fx,fs,q⟩:=h
 cases ry
 rcases hq with hq|hq
 ·obtain⟨its,r,pl,hz⟩:=I.list hq
  refine SeqAt.in_listAt (eqU x) pl.isList (fun w hw=>z4B rx fx r fs w (by simpa using hw)) ⟨.bl _,H,I,rfl,?_⟩
  rw[show its.toArray.any (eqU x)=its.any (eqU x) by simp,z8a r fs]
  exact q
 ·obtain⟨its,r,pl,hz⟩:=I.tuple hq
  refine SeqAt.in_tupleAt (eqU x) pl (fun w hw=>z4B rx fx r fs w (by simpa using hw)) ⟨.bl _,H,I,rfl,?_⟩
  rw[show its.toArray.any (eqU x)=its.any (eqU x) by simp,z8a r fs]
  exact q
theorem z1T:OpR X (compareOp .NotIn) (rIn X.K true):=by
 intro pins s σ H x y v u Q I rx ry h
 obtain⟨p,xs,rfl,hq,fx,fs,q⟩:=h
 cases ry
 rcases hq with hq|hq
 ·obtain⟨its,r,pl,hz⟩:=I.list hq
  refine SeqAt.notIn_listAt (eqU x) pl.isList (fun w hw=>z4B rx fx r fs w (by simpa using hw)) ⟨.bl _,H,I,rfl,?_⟩
  rw[show its.toArray.any (eqU x)=its.any (eqU x) by simp,z8a r fs]
  exact q
 ·obtain⟨its,r,pl,hz⟩:=I.tuple hq
  refine SeqAt.notIn_tupleAt (eqU x) pl (fun w hw=>z4B rx fx r fs w (by simpa using hw)) ⟨.bl _,H,I,rfl,?_⟩
  rw[show its.toArray.any (eqU x)=its.any (eqU x) by simp,z8a r fs]
  exact q
theorem z0a:z3F X (.builtin "len") (fun xs H Q=>∃p ys,xs=[.ref p]/\(SqL X.K H p ys\/SqT X.K H p ys)/\Q (.int ys.length) H):=by
 intro pins s σ H xs us Q I r h
 obtain⟨p,ys,rfl,hq,q⟩:=h
 obtain⟨u,rfl,rx⟩:=z4F r
 cases rx
 have hn:=z7U
 rcases hq with hq|hq
 ·obtain⟨its,r',pl,hz⟩:=I.list hq
  have hlen:=r'.length
  exact Calls.call_len_list pl.isList (by simp only[bK]<;>omega) ⟨.int ys.length,H,I.tok _,⟨s.toks+1,by rw[bK,hlen]⟩,q⟩
 ·obtain⟨its,r',pl,hz⟩:=I.tuple hq
  have hlen:=r'.length
  exact len_tuple pl (by simp only[bK]<;>omega) ⟨.int ys.length,H,I.tok _,⟨s.toks+1,by rw[bK,hlen]⟩,q⟩
theorem y0d:z3F X (.builtin "len") (fun xs H Q=>∃z,xs=[.str z]/\z.length≤sizeLine/\Q (.int z.length) H):=by
 intro pins s σ H xs us Q I r h
 obtain⟨z,rfl,hz,q⟩:=h
 obtain⟨u,rfl,t,rfl⟩:=z4F r
 have hn:=z7U
 exact len_str (by omega) ⟨.int z.length,H,I.tok _,⟨_,rfl⟩,q⟩
theorem z2v:z3F X (.type "list") (fun xs H Q=>∃p ys,xs=[.ref p]/\(SqL X.K H p ys\/SqT X.K H p ys)/\∀l,H l=none->Q (.ref l) (upd H l (.lst ys))):=by
 intro pins s σ H xs us Q I r h
 obtain⟨p,ys,rfl,hq,q⟩:=h
 obtain⟨u,rfl,rx⟩:=z4F r
 cases rx
 have fin:∀(its:List Value),Vals ys its->ys.length≤sizeLine->∀(h':Heap) (c':Nat),(∀b o',s.heap.get? b=some o'->h'.get? b=some o')->
   h'.get? s.heap.objs.size=some { cls:=.type "list",dict:=none,data:=.seq its.toArray c',slots:=#[] }->EP X pins σ Q (.ref s.heap.objs.size) { s with heap:=h' }:=fun its r' hz h' c' kp e=>
  ⟨.ref s.heap.objs.size,_,I.laid (t':=s.toks) kp (bH _) (show z1y X.prog X.w _ h' _ (.lst ys) from⟨hz,its,c',r',e⟩),rfl,q _ (I.hok.fresh (bH _))⟩
 rcases hq with hq|hq
 ·obtain⟨its,r',pl,hz⟩:=I.list hq
  have hlen:=r'.length
  obtain⟨o,ho,hc,n,hd⟩:=pl.isList
  exact call_list_seq p (.inl rfl) ho hc hd (fun h' c' kp e=>fin its r' hz h' c' kp e) (by simp only[bK]<;>omega)
 ·obtain⟨its,r',pl,hz⟩:=I.tuple hq
  have hlen:=r'.length
  obtain⟨o,ho,hc,n,hd⟩:=pl
  exact call_list_seq p (.inr rfl) ho hc hd (fun h' c' kp e=>fin its r' hz h' c' kp e) (by simp only[bK]<;>omega)
theorem z0m:z3F X (.type "tuple") (fun xs H Q=>∃p ys,xs=[.ref p]/\((SqL X.K H p ys/\∀l,H l=none->Q (.ref l) (upd H l (.tup ys)))\/(SqT X.K H p ys/\Q (.ref p) H))):=by
 intro pins s σ H xs us Q I r h
 obtain⟨p,ys,rfl,h⟩:=h
 obtain⟨u,rfl,rx⟩:=z4F r
 cases rx
 rcases h with ⟨hq,q⟩|⟨hq,q⟩
 ·obtain⟨its,r',pl,hz⟩:=I.list hq
  have hlen:=r'.length
  refine call_tuple_list pl.isList (fun h' kp=>?_) (by simp only[bK]<;>omega)
  have I1:Inv X pins σ H { s with heap:=h' }:=I.kept (t':=s.toks) kp
  have I2:Inv X pins σ (upd H h'.objs.size (.tup ys)) { s with heap:=h'.push { cls:=.type "tuple",data:=.seq its.toArray } }:=
   I1.laid (t':=s.toks) (fun b o e=>bB _ e) (bH _) (show z1y X.prog X.w _ _ _ (.tup ys) from⟨hz,its,r',PlT.new _ _⟩)
  exact⟨.ref h'.objs.size,_,I2,rfl,q _ (I1.hok.fresh (bH _))⟩
 ·obtain⟨its,r',pl,hz⟩:=I.tuple hq
  exact call_tuple_same pl ⟨.ref p,H,I,rfl,q⟩
def tyV(K:PySem.W.Frag)(T:String)(x:V)(H:Hp):Prop:=match x with
 | .str _=>T="str"
 | .int _=>T="int"
 | .ref p=>(T="list"/\∃xs,SqL K H p xs)\/(T="tuple"/\∃o,K.lookup p=some o/\o.cls=.type "tuple"/\o.dict=none)\/
   (T="dict"/\((∃kvs,H p=some (.dK kvs))\/∃kvs,H p=some (.dT kvs)))\/(T="set"/\∃S n,H p=some (.set S n))
 | _=>False
theorem y6A{pins:List (Addr×Obj)}{σ:St}{H:Hp}{s:Shared}{T:String}{x:V}{v:Value}(I:Inv X pins σ H s)(r:RelV x v)(ty:tyV X.K T x H) :
  s.TypeIs v T/\∀a,v=.ref a->∃ob,s.heap.get? a=some ob/\ob.dict=none:=by
 cases x with
 | str z=>
  obtain⟨t,rfl⟩:=r
  cases (show T="str" from ty)
  exact⟨typeIs_str s z t,fun _ e=>nomatch e⟩
 | int i=>
  obtain⟨t,rfl⟩:=r
  cases (show T="int" from ty)
  exact⟨typeIs_int s i t,fun _ e=>nomatch e⟩
 | ref p=>
  cases r
  rcases ty with ⟨rfl,xs,hq⟩|⟨rfl,o,hk,hc,hd⟩|⟨rfl,hk⟩|⟨rfl,S,n,hk⟩
  ·obtain⟨its,_,pl,_⟩:=I.list hq
   refine⟨pl.isList.typeIs,fun a e=>?_⟩
   cases e
   obtain⟨o,n,e,c,hd,_⟩:=pl
   exact⟨o,e,hd⟩
  ·refine⟨⟨o,I.kIn p o hk,hc⟩,fun a e=>?_⟩
   cases e
   exact⟨o,I.kIn _ o hk,hd⟩
  ·have z:∃o,s.heap.get? p=some o/\o.ExactDict:=by
    rcases hk with ⟨kvs,hk⟩|⟨kvs,hk⟩
    ·obtain⟨_,_,_,_,o,_,_,e,ex,_⟩:=I.hok p _ hk
     exact⟨o,e,ex⟩
    ·obtain⟨_,_,_,_,o,_,_,e,ex,_⟩:=I.hok p _ hk
     exact⟨o,e,ex⟩
   obtain⟨o,e,ex⟩:=z
   refine⟨⟨o,e,ex.1⟩,fun a e2=>?_⟩
   cases e2
   exact⟨o,e,ex.2.1⟩
  ·obtain⟨o,_,_,_,e,ex,_⟩:=I.hok p _ hk
   refine⟨⟨o,e,ex.1⟩,fun a e2=>?_⟩
   cases e2
   exact⟨o,e,ex.2.1⟩
 | _=>exact False.elim ty
def tBM(K:PySem.W.Frag)(T:String)(r:V->List V->Hp->VK->Prop)(to:TE)(t:TA):TE:=fun σ H Q=>to σ H fun x H1=>tyV K T x H1/\t σ H1 fun xs H2=>r x xs H2 Q
variable{o e:Expr}{es:List Expr}{to:TE}{t:TA}{name:Str}{apos R4:Pos}{T id:String}{r:V->List V->Hp->VK->Prop}
theorem z3g(pa:PlainAttrs T)(slot:Slot T name id)(hty:typeOf (.builtin id)=pure (.type "method_descriptor"))(hm:MtR X id r)(ho:PE X o to)(ha:PA X (e::es) t)
  (Z9:attributeBase o name X.env (eval o X.env)=eval o X.env:=by rfl)
  (hfew:((backTo R4 (starEach (e::es) X.env)).all (fun x=>!x.1) && (backToKw R4 (keywordEach [] X.env)).all (fun x=>x.1.isSome)
   && decide ((e::es).length+([]:List Keyword).length+(if ([]:List Keyword).isEmpty then 0 else 1)<30))=true:=by rfl)
  (w13:(apos.endLine == R4.line)=true:=by rfl) (hs:starEach (e::es) X.env=(false,eval e X.env)::starEach es X.env:=by rfl) (P7:(backTo R4 (starEach es X.env)).any (·.1)=false:=by rfl) :
  PE X (.Call (.Attribute o name apos) (e::es) [] R4) (tBM X.K T r to t):=by
 intro pins s σ H Q I h
 refine wpAny_Call_method_late Z9 hfew w13 rfl (thn (ho pins s σ H _ I h) fun v s1 hz=>?_)
 obtain⟨x,H1,I1,r1,ty,q1⟩:=hz
 obtain⟨h1,h2⟩:=y6A I1 r1 ty
 refine⟨T,id,pa,slot,hty,h1,h2,?_⟩
 have hA:=ha R4 pins s1 σ H1 _ I1 q1
 rw[hs] at hA ⊢
 refine Calls.callWith_builtin (by show(false || (backTo R4 (starEach es X.env)).any (·.1))=false;rw[P7]<;>rfl) (Calls.evalArgs_plain ?_)
 exact thn hA fun us s2 ⟨vs,H2,I2,r2,q2⟩=>hm pins s2 σ H2 x vs v us Q I2 r1 r2 q2
end
def MtM(X:Cx)(id:String)(r:V->List V->Hp->VK->Prop):Prop:=
 ∀(pins:List (Addr×Obj)) (s:Shared) (σ:St) (H:Hp) (x:V) (xs:List V) (v:Value) (us:List Value) (Q:VK),Inv X pins σ H s->RelV x v->Vals xs us->r x xs H Q->
  wpAny (model X.prog X.w) X.A (call (.builtin id) (v::us)) (EP X pins σ Q) X.xe s
theorem Vals.one:∀{x:V}{us:List Value},Vals [x] us->∃u,us=[u]/\RelV x u
 | _,_,.cons r .nil=>⟨_,rfl,r⟩
section
variable{X:Cx}{pins:List (Addr×Obj)}{σ:St}{H:Hp}{s:Shared}{l b:Addr}{xs ys zs:List V}
theorem Inv.lset{its its':List Value}{n:Nat}{f:Array Value->Array Value}{t':Nat}(I:Inv X pins σ H s)(hH:H l=some (.lst xs))
  (e:s.heap.get? l=some { cls:=.type "list",data:=.seq its.toArray n }) (hf:f its.toArray=its'.toArray) (hv:Vals ys its') (hz:ys.length≤sizeLine) :
  Inv X pins σ (upd H l (.lst ys)) { s with heap:=s.heap.update l (Obj.mapSeq f),toks:=t' }:=by
 have q:=PySem.IsL.update e f
 rw[hf] at q
 refine I.write (x:=l) (e:=l) (by rw[hH];exact trivial) (.inl rfl) (fun b' u hb hu=>(cS s.heap (Obj.mapSeq f) (dG hb)).trans hu) ⟨_,q⟩ ?_
 exact⟨hz,its',_,hv,q⟩
theorem Inv.lnew{its:List Value}{t':Nat}(I:Inv X pins σ H s)(hv:Vals ys its)(hz:ys.length≤sizeLine) :
  Inv X pins σ (upd H s.heap.objs.size (.lst ys)) { s with heap:=s.heap.push { cls:=.type "list",data:=.seq its.toArray },toks:=t' }:=
 I.laid (fun _ _ q=>bB _ q) (bH _) ⟨hz,its,0,hv,bN _ rfl⟩
theorem Inv.fresh(I:Inv X pins σ H s):H s.heap.objs.size=none:=I.hok.fresh (bH _)
theorem Inv.U7(I:Inv X pins σ H s)(hH:H l=some (.lst xs)):xs.length≤sizeLine/\∃(its:List Value) (n:Nat),Vals xs its/\xs.length=its.length/\s.heap.get? l=some { cls:=.type "list",data:=.seq its.toArray n }:=by
 obtain⟨z,its,n,r,e⟩:=I.hok l _ hH
 exact⟨z,its,n,r,r.length,e⟩
theorem y4q{n:Nat}(h:n≤sizeLine):Builtin.List.listTooLong n=false:=by
 unfold Builtin.List.listTooLong
 exact decide_eq_false (by omega)
end
section
variable{X:Cx}
def y62:V->List V->Hp->VK->Prop:=fun x vs H Q=>∃l xs y,x=.ref l/\vs=[y]/\H l=some (.lst xs)/\xs.length<sizeLine/\Q .non (upd H l (.lst (xs++[y])))
theorem z0J:MtM X "list.append" y62:=by
 intro pins s σ H x vs v us Q I rx rv h
 obtain⟨l,xs,y,rfl,rfl,hH,hz,q⟩:=h
 cases rx
 obtain⟨u,rfl,ru⟩:=rv.one
 obtain⟨z,its,n,r,hl,e⟩:=I.U7 hH
 refine call_meets F.slot_list_append ⟨_,e,rfl⟩ F.entry_list_append (F.args_list_append_2 _ _) (PySem.list_append l its.toArray n u (by rw[bK];omega)) ⟨e,?_⟩
 refine⟨.non,_,I.lset (its':=its++[u]) hH e (by simp) (r.append (.cons ru .nil)) ?_,rfl,q⟩
 rw[bJ,dH]
 omega
def y5B:V->List V->Hp->VK->Prop:=fun x vs H Q=>∃l b xs zs,x=.ref l/\vs=[.ref b]/\H l=some (.lst xs)/\H b=some (.lst zs)/\xs.length+zs.length≤sizeLine/\Q .non (upd H l (.lst (xs++zs)))
theorem y6y:MtM X "list.extend" y5B:=by
 intro pins s σ H x vs v us Q I rx rv h
 obtain⟨l,b,xs,zs,rfl,rfl,hH,hB,hz,q⟩:=h
 cases rx
 obtain⟨u,rfl,ru⟩:=rv.one
 cases ru
 obtain⟨z,its,n,r,hl,e⟩:=I.U7 hH
 obtain⟨z2,K8,n2,r2,hl2,e2⟩:=I.U7 hB
 have hsz:its.toArray.size+K8.toArray.size≤sizeLine:=by rw[bK,bK];omega
 have w01:¬(!its.toArray.isEmpty && Builtin.List.listTooLong (its.toArray.size+K8.toArray.size))=true:=by
  rw[y4q hsz,Bool.and_false]
  exact bO
 refine call_meets F.slot_list_extend ⟨_,e,rfl⟩ F.entry_list_extend (F.args_list_extend_2 _ _)
  (AutoSeq1.list_extend_list_list_0 l its.toArray n b K8.toArray n2 w01 (by rw[bK];omega) (by omega)) ⟨e,e2,?_⟩
 refine⟨.non,_,I.lset (its':=its++K8) hH e (by simp) (r.append r2) ?_,rfl,q⟩
 rw[bJ]
 omega
def rCat:R2:=fun x y H Q=>∃l b xs zs,x=.ref l/\y=.ref b/\H l=some (.lst xs)/\H b=some (.lst zs)/\xs.length+zs.length≤sizeLine/\∀p,H p=none->Q (.ref p) (upd H p (.lst (xs++zs)))
theorem y5q:OpR X (binaryOp .Add) rCat:=by
 intro pins s σ H x y v u Q I rx ry h
 obtain⟨l,b,xs,zs,rfl,rfl,hH,hB,hz,q⟩:=h
 cases rx
 cases ry
 obtain⟨z,its,n,r,hl,e⟩:=I.U7 hH
 obtain⟨z2,K8,n2,r2,hl2,e2⟩:=I.U7 hB
 refine PySem.P.add_list e e2 ?_ (by rw[bK,bK];omega)
 have ea:its.toArray++K8.toArray=(its++K8).toArray:=by simp
 rw[ea]
 exact⟨.ref _,_,I.lnew (t':=s.toks) (r.append r2) (by rw[bJ];omega),rfl,q _ I.fresh⟩
end
section
variable{prog:Program}{w:World}{A:Around}{E:Value->Shared->Prop}{s:Shared}
end
section
variable{X:Cx}
end
end L2
namespace Att
open PySem PySem.W PySem.Calls PyProof.Rows
theorem z7R{P:Params}{h:Heap}:∀(ns:List Int) (vs:List Value),WellAll P h vs (ns.map WData.int)->IntsAre vs ns:=by
 intro ns
 induction ns with
 | nil=>
  intro vs w
  rw[List.map_nil] at w
  cases w
  exact .nil
 | cons n ns ih=>
  intro vs w
  rw[cL] at w
  cases w with
  | cons a b=>
   cases a
   exact .cons _ _ (ih _ b)
theorem y3v{l:OpenLaw}{n:Nat}(hn:l.most=some n){P:Params}{h:Heap}{args:List WData}{vals:List Value}
  (W3:l.row.toRowW.claim.pre args=true) (hwl:WellAll P h vals args) :
  ∃a vs ns,vals=[Value.ref a]/\args=[WData.list (ns.map WData.int)]/\h.get? a=some { cls:=.type "list",data:=.seq vs.toArray }/\IntsAre vs ns/\ns.length≤n:=by
 have hsh:WShape.hasAll [] args [.list .int]=true:=(pre_splitW W3).1
 have hc:l.pre.holds [] { args:=args }=true:=(pre_splitW W3).2
 obtain⟨d,r,rfl,h1,h2⟩:=hasAllW_cons hsh
 obtain rfl:=hasAllW_nil h2
 obtain⟨xs,rfl,h3⟩:=hasW_list h1
 obtain⟨ns,rfl⟩:=items_int h3
 have hlen:ns.length≤n:=by
  unfold OpenLaw.pre at hc
  have h4:(WTm.not (.lt (.lit (.int (n:Int))) (.len (.arg 0)))).holds [] { args:=[.list (ns.map .int)] }=true:=by
   have h4:=(holds_andW hc).1
   rw[hn] at h4
   exact h4
  have h5:=condW_of h4 (w_not (w_lt w_lit (w_len_list (w_arg rfl))))
  rw[bA] at h5
  refine jF fun q=>?_
  have q':(n:Int)<((ns.length:Nat):Int):=by omega
  first
   | (rw[decide_eq_true q'] at h5;exact absurd h5 (by decide))
   | (simp at h5;omega)
 cases hwl with
 | cons w1 w2=>
  cases w2
  cases w1 with
  | list ho B7=>exact⟨_,_,ns,rfl,rfl,ho,z7R ns _ B7,hlen⟩
theorem y3u(l:OpenLaw)(args:List WData):l.row.toRowW.claim.post args (.bool true) args=true:=
 postW_of (r:=l.row.toRowW) (X:=(true == true))
  (show WShape.has [] (.bool true) .bool=true by first|rfl|decide|simp[WShape.has,WShape.arms,WShape.armsAll])
  (show(WTm.eq .res (.lit (.bool true))).value [] { args:=args,res:=some (.bool true),after:=args }=some (.bool (true == true)) from w_eq_bool (w_res rfl) w_lit) rfl
theorem y0l{l:OpenLaw}{n:Nat}{q:Program}{loose:List Str}{XP:(Str->Option Value)->Heap->Prop}{YP:World->Heap->Prop}{d:DefRec}
  (hn:l.most=some n) (hdf:d.params.defaults=[])
  (call:∀(w:World) (s₀ s₁:Shared) (mg mb:Str->Option Value) (fa:Addr) (o:Obj) (pm cd doc:Value) (a:Addr) (vs:List Value) (ns:List Int),
   Ground q loose [] XP w s₀ mg mb s₁.heap->YP w s₁.heap->
   s₁.heap.get? fa=some o->o.data=.func (docDef d.name d.params d.body d.scope pm cd doc)->s₁.heap.CodeRec cd d.name->mg d.name=some (.ref fa)->
   s₁.heap.get? a=some { cls:=.type "list",data:=.seq vs.toArray }->IntsAre vs ns->ns.length≤n->s₁.gens=#[]->
   codeAny (model l.prog w) callerA (.call (.ref fa) ⟨[.ref a],[]⟩) (fun r s'=>r=.ok (.ret (.bool true))/\OldK s₁.heap s'.heap/\s'.os=s₁.os/\AllBare s'.gens) s₁) :
  WalkO q loose XP YP l.row.toRowW d [] (fun f vs=>PySem.call f vs):=by
 intro w s₀ s₁ mg mb G Y fa o pm cd doc dV kV ho hd hcd hD hmg hg args vals as W3 hlay hrd hwl hlo
 obtain rfl:dV=.none:=Dflts.none hD hdf
 obtain rfl:kV=.none:=Dflts.noKw hD
 obtain⟨a,vs,ns,rfl,rfl,hobj,hints,hlen⟩:=y3v hn W3 hwl
 refine enter_call (codeAny_mono (call w s₀ s₁ mg mb fa o pm cd doc a vs ns G Y ho (fd_plain hd) hcd hmg hobj hints hlen hg) fun r s' hq=>?_)
 obtain⟨rfl,h2,h3,h4⟩:=hq
 exact⟨.inl ⟨.bool true,.bool true,[],rfl,fun _=>rfl,.bool true,y3u l _,fun _=>⟨List.Pairwise.nil,fun _ hm=>(nomatch hm)⟩⟩,h2,h3,h4⟩
section
variable{prog:Program}{w:World}{A:Around}{E:Value->Shared->Prop}{s:Shared}{K:Frag}
end
end Att
namespace L2
open PySem PySem.Spec PyProof.Rows
theorem z5K:∀{vs:List Value}{ns:List Int},IntsAre vs ns->Vals (ns.map V.int) vs
 | _,_,.nil=>.nil
 | _,_,.cons n t h=>.cons ⟨t,rfl⟩ (z5K h)
def Y8(H:Hp):Prop:=∀b,H b=none\/∃o xs,H b=some (.frz o (.lst xs))
theorem y4v{P:Program}{w:World}{K:PySem.W.Frag}{mg mb:Str->Option Value}{CX:CXT}{k:Nat}{fa a:Addr}{fd:FuncData}{x:Str}{sp:Sp}{s₁:Shared}{vs:List Value}{ns:List Int}
  (KX:K.In s₁.heap) (hns:s₁.heap.Ns mainGlobals mg) (hb:s₁.heap.Ns builtinsNs mb) (hbb:∀x:Str,x≠"__name__"->mb x=bootBuiltins x) (hlim:s₁.heap.NoLimit) (hg:s₁.gens=#[])
  (ha:s₁.heap.get? a=some { cls:=.type "list",data:=.seq vs.toArray }) (hi:IntsAre vs ns) (hl:ns.length≤sizeLine) (hr:D3 k callerA)
  (F:∀base:Heap,K.In base->base.Ns mainGlobals mg->A7 P w K mg base CX k fa fd [x] sp) (w0n:∀(s:Shared) (u:Value),BindsTo s fd ⟨[u],[]⟩ [(x,u)])
  (hsp:∀H:Hp,Y8 H->SqL K H a (ns.map V.int)->sp [.ref a] H (fun v _=>v=.bl true) fun _ _ _=>False)
  (hCX:∀H e s',CX [] H s₁ (fun _ _ _=>False) e s'->False) :
  codeAny (model P w) callerA (.call (.ref fa) ⟨[.ref a],[]⟩) (fun r s'=>r=.ok (.ret (.bool true))/\OldK s₁.heap s'.heap/\s'.os=s₁.os/\AllBare s'.gens) s₁:=by
 have rv:=z5K hi
 have lenV:=hi.length
 have core:∀H:Hp,Y8 H->SqL K H a (ns.map V.int)->HOk P w H s₁.heap->(∀b,H b≠none->b=a)->(H a≠none->K.lookup a=none)->
   codeAny (model P w) callerA (.call (.ref fa) ⟨[.ref a],[]⟩) (fun r s'=>r=.ok (.ret (.bool true))/\OldK s₁.heap s'.heap/\s'.os=s₁.os/\AllBare s'.gens) s₁:=by
  intro H hO hS hok hA hK
  have T8:∀{b:Addr}{o:Obj},s₁.heap.get? b=some o->H b=none->(Q9 s₁.heap H).get? b=some o:=fun e n=>y4w e n
  have noA:∀{b:Addr}{o:Obj}{es:Array DictEntry}{ep:Nat},s₁.heap.get? b=some o->o.data=.dict es ep->H b=none:=fun {b o es ep} e d=>by
   cases q:H b with
   | none=>rfl
   | some u=>
    have e':b=a:=hA b (by rw[q];simp)
    subst e'
    rw[ha] at e;cases e
    have d':Data.seq vs.toArray _=Data.dict es ep:=d
    cases d'
  have nsK:∀{b:Addr}{m:Str->Option Value},s₁.heap.Ns b m->(Q9 s₁.heap H).Ns b m:=fun {b m} ⟨o,es,ep,e,d,r⟩=>⟨o,es,ep,T8 e (noA e d),d,r⟩
  have hKb:K.In (Q9 s₁.heap H):=fun b o e=>T8 (KX b o e) (by
   cases q:H b with
   | none=>rfl
   | some u=>
    have e':b=a:=hA b (by rw[q];simp)
    subst e'
    rw[hK (by rw[q];simp)] at e;cases e)
  have hM:Mod K mg (Q9 s₁.heap H):=⟨hKb,nsK hns,⟨mb,nsK hb,hbb⟩,let ⟨mc,h1,h2⟩:=hlim;⟨mc,nsK h1,h2⟩⟩
  have e0:T3 P w K mg (Q9 s₁.heap H) callerA [] s₁ H:=⟨rfl,hM,fun b o e=>y5V e,Nat.le_of_eq (y2J _ _),trivial,fun b hb=>absurd (show b∈([]:List Addr) from hb) (by simp),hok,.of_eq hg⟩
  refine codeAny_mono ((F _ hKb (nsK hns)).run callerA [] s₁ H ⟨[.ref a],[]⟩ [.ref a] [.ref a] _ _ hr e0 (w0n s₁ (.ref a)) (.cons rfl .nil) (hsp H hO hS)) fun r s' h=>?_
  cases r with
  | error e=>exact(hCX H e s' h).elim
  | ok fl=>
   cases fl with
   | next=>exact False.elim h
   | brk=>exact False.elim h
   | cont=>exact False.elim h
   | ret u=>
    obtain⟨v,H',os,bare,un,hok',r',q⟩:=h
    have q':v=.bl true:=q
    subst q'
    obtain rfl:u=Value.bool true:=r'
    refine⟨rfl,OldK.of_keep fun b o e=>?_,os,bare⟩
    cases q:H b with
    | none=>exact un.keep b o e q (by intro z;exact absurd (show b∈([]:List Addr) from z) (by simp)) (by simp)
    | some u=>
     rcases hO b with z|⟨ob,xs,z⟩
     ·rw[q] at z;cases z
     ·have z2:=un.Q6 b ob _ z
      obtain⟨e1,_⟩:=hok b _ z
      obtain⟨e2,_⟩:=hok' b _ z2
      rw[e] at e1;cases e1
      exact e2
 cases hk:K.lookup a with
 | some o=>
  have e:=KX a o hk
  rw[ha] at e
  cases e
  refine core (fun _=>none) (fun _=>.inl rfl) (.inr ⟨_,vs.toArray,_,hk,rfl,rfl,rfl,by rw[bK,lenV];exact hl,by simpa using rv⟩) (fun b u z=>by have z':(none:Option HO)=some u:=z;cases z') (fun b z=>absurd rfl z) fun z=>absurd rfl z
 | none=>
  refine core (fun b=>if b=a then some (.frz { cls:=.type "list",data:=.seq vs.toArray } (.lst (ns.map V.int))) else none) (fun b=>?_) (.inl (.inr ⟨{ cls:=.type "list",data:=.seq vs.toArray },if_pos rfl⟩)) (fun b u z=>?_) (fun b z=>?_) fun _=>hk
  ·by_cases hb:b=a
   ·exact .inr ⟨_,_,if_pos hb⟩
   ·exact .inl (if_neg hb)
  ·by_cases hb:b=a
   ·have z':=(if_pos hb).symm.trans z
    cases z'
    subst hb
    exact⟨ha,by rw[bA];exact hl,vs,_,rv,ha⟩
   ·have z':=(if_neg hb).symm.trans z
    cases z'
  ·by_cases hb:b=a
   ·exact hb
   ·exact absurd (if_neg hb) z
theorem y5W{l:PySem.W.OpenLaw}{n k:Nat}{q:Program}{loose:List Str}{XP:(Str->Option Value)->Heap->Prop}{YP:World->Heap->Prop}{d:DefRec}{K:Params->PySem.W.Frag}{CX:World->CXT}{sp:World->Sp}{x:Str}
  (hn:l.most=some n) (hn2:n≤sizeLine) (hdf:d.params.defaults=[]) (hr:D3 k callerA)
  (hY:∀(w:World) (h:Heap),YP w h->(K w.params).In h)
  (F:∀(w:World) (mg:Str->Option Value) (fa:Addr) (h:Heap),(K w.params).In h->h.Ns mainGlobals mg->mg d.name=some (.ref fa)->
   ∃fd:FuncData,(∀(s:Shared) (u:Value),BindsTo s fd ⟨[u],[]⟩ [(x,u)])/\
    ∀base:Heap,(K w.params).In base->base.Ns mainGlobals mg->A7 l.prog w (K w.params) mg base (CX w) k fa fd [x] (sp w))
  (hsp:∀(w:World) (H:Hp) (a:Addr) (ns:List Int),ns.length≤n->Y8 H->SqL (K w.params) H a (ns.map V.int)->sp w [.ref a] H (fun v _=>v=.bl true) fun _ _ _=>False)
  (hCX:∀(w:World) (H:Hp) (s:Shared) (e:Value) (s':Shared),CX w [] H s (fun _ _ _=>False) e s'->False) :
  PySem.W.WalkO q loose XP YP l.row.toRowW d [] (fun f vs=>PySem.call f vs):=by
 refine Att.y0l hn hdf fun w s₀ s₁ mg mb fa o pm cd doc a vs ns G Y ho hd hcd hmg hobj hints hlen hg=>?_
 have KX:=hY w _ Y
 obtain⟨fd,hb,hF⟩:=F w mg fa _ KX G.T.g hmg
 exact y4v KX G.T.g G.T.b G.T.builtins G.T.nolimit hg hobj hints (cM hlen hn2) hr hF hb (fun H hO hS=>hsp w H a ns hlen hO hS) fun H e s'=>hCX w H s₁ e s'
def z1b(s:Stmt)(j:Nat):Stmt:=match s with
 | .ClassDef _ _ _ body _ _ _ _ _ _ _=>body.getD j (.Pass ⟨0,0,0,0⟩)
 | _=>.Pass ⟨0,0,0,0⟩
def z1t(s:Stmt):Arguments:=match s with
 | .FunctionDef _ a _ _ _ _ _ _ _ _=>a
 | _=>{ posonlyargs:=[],args:=[],vararg:=none,kwonlyargs:=[],kw_defaults:=[],kwarg:=none,defaults:=[] }
def z1k(s:Stmt):List Stmt:=match s with
 | .FunctionDef _ _ b _ _ _ _ _ _ _=>b
 | _=>[]
def z07(s:Stmt):Scope:=match s with
 | .FunctionDef _ _ _ _ _ _ sc _ _ _=>sc
 | _=>{ kind:=.function,names:=[],isGenerator:=false,isCoroutine:=false }
abbrev CX0:CXT:=fun _ _ _ _ _ _=>False
abbrev E0:XK:=fun _ _ _=>False
theorem y3a{X:Cx}:z7t CX0 X E0:=fun _ _ _ _ _ _ _ h=>h.elim
structure Fun(K:PySem.W.Frag)(x qual:Str)(st:Stmt)(f:Addr)(fd:FuncData):Prop where
 ex:∃(oc:Value) (od:Option Addr) (kV doc pm:Value) (an:Option Addr) (cdv ct:Value) (osl:Array (Option Value)),
  fd=PySem.W.fnOf x qual (z1t st) (z1k st) (z07 st) .none kV doc pm an cdv ct/\K.lookup f=some ⟨oc,od,.func fd,osl⟩/\PySem.W.codeIn K cdv qual=true
 kp:PySem.W.keepIn K (.ref f)=true
section
variable{P:Program}{w:World}{K:PySem.W.Frag}{mg:Str->Option Value}{base:Heap}
theorem Fun.ok{x qual:Str}{st:Stmt}{f:Addr}{fd:FuncData}{N ps:List Str}{k:Nat}{sp:Sp}(F:Fun K x qual st f fd)(S:A3 N ps (z07 st))(len:∀vs H Q E,sp vs H Q E->vs.length=ps.length)
  (S4:∀(cdv:Value) (A:Around) (outer:List Env) (s:Shared) (H:Hp) (vs:List V) (Q:VK) (E:XK),D3 k (A.deeper (envOfC qual (z07 st) s.heap.objs.size f cdv))->sp vs H Q E->
   ∃t,PSs (T4 CX0 P w K mg base N qual (z07 st) f cdv A outer s H E).nox (z1k st) t/\t { nx:=fun _ H'=>Q .non H',rt:=Q } (z6b N vs) H):A7 P w K mg base CX0 (k+1) f fd ps sp:=by
 obtain⟨oc,od,kV,doc,pm,an,cdv,ct,osl,rfl,lk,hcd⟩:=F.ex
 refine y6Y lk hcd S len fun A outer s H vs Q E hr hsp=>?_
 obtain⟨t,h,q⟩:=S4 cdv A outer s H vs Q E hr hsp
 exact⟨t,h.nox,q⟩
theorem Fun.binds{x qual:Str}{st:Stmt}{f:Addr}{fd:FuncData}{ps:List Str}(F:Fun K x qual st f fd)
  (h:∀(kV doc pm:Value) (an:Option Addr) (cdv ct:Value) (us:List Value),us.length=ps.length->bindArgs (PySem.W.fnOf x qual (z1t st) (z1k st) (z07 st) .none kV doc pm an cdv ct) ⟨us,[]⟩=pure (ps.zip us)):z1X K fd ps []:=by
 obtain⟨oc,od,kV,doc,pm,an,cdv,ct,osl,rfl,lk,hcd⟩:=F.ex
 exact .all (h kV doc pm an cdv ct)
theorem y6r{x qual:Str}{st:Stmt}{f:Addr}{oc:Value}{od an:Option Addr}{osl:Array (Option Value)}{kV doc pm cdv ct:Value}(l:K.lookup f=some ⟨oc,od,.func (PySem.W.fnOf x qual (z1t st) (z1k st) (z07 st) .none kV doc pm an cdv ct),osl⟩)
  (c:PySem.W.codeIn K cdv qual=true) (k:PySem.W.keepIn K (.ref f)=true):Fun K x qual st f (PySem.W.fnOf x qual (z1t st) (z1k st) (z07 st) .none kV doc pm an cdv ct):=⟨⟨oc,od,kV,doc,pm,an,cdv,ct,osl,rfl,l,c⟩,k⟩
end
theorem y06{A:Around}{k:Nat}(hr:D3 k A):A.units+1<cLine:=eJ (Nat.add_le_add_left (by decide:1≤64) _) hr.units
theorem z0f{n:Nat}(h:n≤1000):n<sizeLine:=eJ h (by decide)
section
variable{X:Cx}
theorem pv(i:Nat){x:Str}{pos:Pos}(hN:X.N[i]? = some x:=by rfl)(hv:Vis X.env.scope x:=by first|exact Or.inl rfl|exact Or.inr (Or.inl rfl)|exact Or.inr (Or.inr rfl))(hd:(x == ("__debug__":Str))=false:=by decide)
  (hcd:(x == ("__classdict__":Str))=false:=by decide):PE X (.Name x pos) (V0 i):=y6Z hN hv hd hcd
end
theorem B5{A B:Prop}(h:B):if false=true then A else B:=by
 rw[if_neg bO]
 exact h
theorem E9{A B:Prop}(h:A):if true=true then A else B:=by
 rw[if_pos rfl]
 exact h
theorem B3{c A B:Prop}[Decidable c](h1:c->A)(h2:¬c->B):if c then A else B:=by
 by_cases h:c
 ·rw[if_pos h]
  exact h1 h
 ·rw[if_neg h]
  exact h2 h
theorem y74{c A B:Prop}[Decidable c](hc:c)(h:B):if (!decide c)=true then A else B:=by
 rw[decide_eq_true hc]
 exact B5 h
def A4(H H':Hp):Prop:=∀b o,H b=some o->H' b=some o
theorem A4.refl(H:Hp):A4 H H:=fun _ _ h=>h
theorem A4.trans{H H1 H2:Hp}(a:A4 H H1)(b:A4 H1 H2):A4 H H2:=fun c o h=>b c o (a c o h)
theorem A4.free{H H':Hp}(e:A4 H H'){l:Addr}(h:H' l=Option.none):H l=Option.none:=by
 cases q:H l with
 | none=>rfl
 | some o=>
  rw[e l o q] at h
  cases h
theorem A4.seq{K:PySem.W.Frag}{H H':Hp}{a:Addr}{xs:List V}(e:A4 H H')(h:SqL K H a xs):SqL K H' a xs:=by
 rcases h with (h|⟨o,h⟩)|h
 ·exact .inl (.inl (e _ _ h))
 ·exact .inl (.inr ⟨o,e _ _ h⟩)
 ·exact .inr h
abbrev noE:Value->Shared->Prop:=fun _ _=>False
theorem y0r{prog:Program}{w:World}{A:Around}{R:Result->Shared->Prop}{s:Shared}{elt target iter:Expr}{ifs:List Expr}{scope:Scope}{pos:Pos}{it acc:Value}{env:Env}(I:Nat->Shared->Prop)
  (turn:∀n s,I n s->wpAny (model prog w) A (pyNext it) (fun r s1=>match r with
   | none=>R (.ok .next) s1
   | some v=>wpAny (model prog w) A (letOwnedTupleGo target it v) (fun _ s0=>wpAny (model prog w) A (assign target env v) (fun _ s2=>
     wpAny (model prog w) A (forIn ifs true fun c r=>if r=true then do let ok <- isTrue c env (eval c env);pure (ForInStep.yield ok) else pure (ForInStep.yield r)) (fun ok s3=>
      if ok=true then wpAny (model prog w) A (eval elt env) (fun x s4=>
       wpAny (model prog w) A (call (.builtin "list.append") [acc,x]) (fun _ s5=>∃m,m<n/\I m s5) noE s4) noE s3
      else ∃m,m<n/\I m s3) noE s2) noE s0) noE s1) noE s)
  (n:Nat) (h:I n s):codeAny (model prog w) A (.compLoop (.ListComp elt [⟨target,iter,ifs,0⟩] scope pos) 0 it acc env) R s:=by
 refine codeAny_loop rfl I (fun n s hI=>?_) n h
 show wpAny _ A ((compTurn (.ListComp elt [⟨target,iter,ifs,0⟩] scope pos) 0 it acc env).onRaise (fun x=>do noteFrame x env;theTreesLotGoes x)) _ _ s
 refine wpAny_noted ?_
 rw[compTurn_list]
 refine wpAny_bind (wpAny_standAt (wpAny_bind (wpAny_mono (turn n s hI) (fun r s1 h1=>?_) fun _ _ z=>False.elim z)))
 cases r with
 | none=>exact wpAny_pure h1
 | some v=>
  refine wpAny_bind (wpAny_mono h1 (fun _ s0 h0=>?_) fun _ _ z=>False.elim z)
  refine wpAny_bind (wpAny_mono h0 (fun _ s2 h2=>wpAny_bind (wpAny_mono h2 (fun ok s3 h3=>?_) fun _ _ z=>False.elim z)) fun _ _ z=>False.elim z)
  cases ok with
  | false=>exact wpAny_pure ⟨rfl,h3⟩
  | true=>
   exact wpAny_bind (wpAny_bind (wpAny_mono h3 (fun x s4 h4=>wpAny_bind (wpAny_mono h4 (fun _ s5 h5=>wpAny_pure (wpAny_pure ⟨rfl,h5⟩)) fun _ _ z=>False.elim z)) fun _ _ z=>False.elim z))
def z84(cells:List (Str×Addr)):List (Str×NameKind)->List (Str×Addr)->Option (List (Str×Addr))
 | [],acc=>some acc
 | (n,k)::r,acc=>if k == .free then (match cells.lookup n with
   | some a=>z84 cells r ((n,a)::acc)
   | none=>none) else z84 cells r acc
theorem z6c{env:Env}:∀(names:List (Str×NameKind)) (acc cl:List (Str×Addr)),z84 env.cells names acc=some cl->
  (forIn names acc fun(x:Str×NameKind) (cs:List (Str×Addr))=>match x with
   | (name,kind)=>if (kind == NameKind.free)=true then do let c <- cellOf env name;pure (ForInStep.yield ((name,c)::cs)) else pure (ForInStep.yield cs):Sem (List (Str×Addr)))=pure cl
 | [],acc,cl,h=>by
  have h':acc=cl:=Option.some.inj h
  subst h'
  rfl
 | (n,k)::r,acc,cl,h=>by
  rw[List.forIn_cons]
  unfold z84 at h
  by_cases hk:(k == NameKind.free)=true
  ·rw[if_pos hk] at h
   cases e:env.cells.lookup n with
   | none=>rw[e] at h;cases h
   | some a=>
    rw[e] at h
    have ih:=z6c r ((n,a)::acc) cl h
    have hc:cellOf env n=pure a:=by unfold cellOf;rw[e]
    dsimp only
    rw[if_pos hk,hc]
    simpa using ih
  ·rw[if_neg hk] at h
   have ih:=z6c r acc cl h
   dsimp only
   rw[if_neg hk]
   simpa using ih
theorem z6V{scope:Scope}{env:Env}{cl:List (Str×Addr)}(h:z84 env.cells scope.names []=some cl):closureFor scope env=pure cl:=by
 have q:=z6c (env:=env) scope.names [] cl h
 unfold closureFor
 simpa using q
theorem z7r{cells:List (Str×Addr)}:∀{names:List (Str×NameKind)}{acc cl:List (Str×Addr)},z84 cells names acc=some cl->
  (∀x c,acc.lookup x=some c->cells.lookup x=some c)->∀x c,cl.lookup x=some c->cells.lookup x=some c
 | [],acc,cl,h,ha,x,c,e=>by
  have h':acc=cl:=Option.some.inj h
  subst h'
  exact ha x c e
 | (n,k)::r,acc,cl,h,ha,x,c,e=>by
  unfold z84 at h
  by_cases hk:(k == NameKind.free)=true
  ·rw[if_pos hk] at h
   cases q:cells.lookup n with
   | none=>rw[q] at h;cases h
   | some a=>
    rw[q] at h
    refine z7r (names:=r) (acc:=(n,a)::acc) h (fun y d z=>?_) x c e
    rw[gZ] at z
    cases hy:y == n with
    | true=>
     rw[hy] at z
     have z':a=d:=Option.some.inj z
     rw[<- z',beq_iff_eq.mp hy]
     exact q
    | false=>
     rw[hy] at z
     exact ha y d z
  ·rw[if_neg hk] at h
   exact z7r (names:=r) (acc:=acc) h ha x c e
theorem z5L{cells:List (Str×Addr)}:∀{names:List (Str×NameKind)}{acc cl:List (Str×Addr)},z84 cells names acc=some cl->
  ∀x,((∃c,acc.lookup x=some c)\/(x,NameKind.free)∈names)->∃c,cl.lookup x=some c
 | [],acc,cl,h,x,hx=>by
  have h':acc=cl:=Option.some.inj h
  subst h'
  rcases hx with hx|hx
  ·exact hx
  ·cases hx
 | (n,k)::r,acc,cl,h,x,hx=>by
  unfold z84 at h
  by_cases hk:(k == NameKind.free)=true
  ·rw[if_pos hk] at h
   cases q:cells.lookup n with
   | none=>rw[q] at h;cases h
   | some a=>
    rw[q] at h
    refine z5L (names:=r) (acc:=(n,a)::acc) h x ?_
    rcases hx with ⟨c,hx⟩|hx
    ·left
     rw[gZ]
     cases hy:x == n with
     | true=>exact⟨a,rfl⟩
     | false=>exact⟨c,hx⟩
    ·rcases bF.mp hx with e|e
     ·left
      have e1:x=n:=congrArg Prod.fst e
      rw[gZ,e1,beq_self_eq_true]
      exact⟨a,rfl⟩
     ·exact .inr e
  ·rw[if_neg hk] at h
   refine z5L (names:=r) (acc:=acc) h x ?_
   rcases hx with hx|hx
   ·exact .inl hx
   ·rcases bF.mp hx with e|e
    ·have e2:NameKind.free=k:=congrArg Prod.snd e
     exact absurd (by rw[<- e2];rfl) hk
    ·exact .inr e
theorem z7d{α β:Type}[BEq α][LawfulBEq α]:∀{l:List (α×β)}{x:α}{b:β},l.lookup x=some b->(x,b)∈l
 | [],x,b,h=>by cases h
 | (a,c)::r,x,b,h=>by
  rw[gZ] at h
  cases hx:x == a with
  | true=>
   rw[hx] at h
   have h':c=b:=Option.some.inj h
   rw[beq_iff_eq.mp hx,h']
   exact cD
  | false=>
   rw[hx] at h
   exact bZ _ (z7d h)
theorem z6U{scope:Scope}{env:Env}(U1:∀y∈scope.names,y.2≠.cell){x:Str}(h:(relabel scope env).names.lookup x=some .cell\/(relabel scope env).names.lookup x=some .free):(x,NameKind.free)∈scope.names:=by
 have go:∀k,(relabel scope env).names.lookup x=some k->(k=.cell\/k=.free)->(x,NameKind.free)∈scope.names:=fun k h hk=>by
  have m:=z7d h
  obtain⟨⟨n,k'⟩,hm,e⟩:=cK.mp m
  dsimp only at e
  by_cases c:(k' == NameKind.free && env.scope.kind == .function && env.kindOf n == some .cell)=true
  ·rw[if_pos c] at e
   have e1:n=x:=congrArg Prod.fst e
   have c1:(k' == NameKind.free)=true:=by
    rw[bW,bW] at c
    exact c.1.1
   have c2:k'=.free:=eq_of_beq c1
   rw[<- e1,<- c2]
   exact hm
  ·rw[if_neg c] at e
   have e1:n=x:=congrArg Prod.fst e
   have e2:k'=k:=congrArg Prod.snd e
   rcases hk with z|z
   ·exact absurd (e2.trans z) (U1 _ hm)
   ·rw[<- e1,<- z,<- e2]
    exact hm
 rcases h with h|h
 ·exact go _ h (.inl rfl)
 ·exact go _ h (.inr rfl)
def z3X(X:Cx)(scope:Scope)(cl:List (Str×Addr))(N:List Str)(C:Addr)(s3:Shared)(H1:Hp)(ex:List Addr)(pins:List (Addr×Obj)):Cx:=
 { X with N:=N,s₀:=s3,H₀:=H1,env:=compEnvC scope cl C X.env,outer:=X.stack,ex:=ex,fn:=fun _=>false,pn:=X.pn++pins,xe:=noE }
def z7A(own:Nat)(ix:List Nat)(σ:St):St:=List.replicate own none++ix.map fun i=>(σ[i]?).join
structure E8(X:Cx)(scope:Scope)(cl:List (Str×Addr))(own E3:List Str)(ix:List Nat):Prop where
 T5:z84 X.env.cells scope.names []=some cl
 cell:∀y∈scope.names,y.2≠.cell
 kind:scope.kind=.function
 names:∀y∈scope.names,y.2=.local->scope.names.lookup y.1=some .local
 capn:E3.length=ix.length
 cap:∀(j i:Nat) (x:Str),E3[j]? = some x->ix[j]? = some i->X.N[i]? = some x/\X.env.kindOf x≠some .local/\Vis X.env.scope x/\((relabel scope X.env).names.lookup x=some .cell\/(relabel scope X.env).names.lookup x=some .free)
theorem Inv.w0D{X:Cx}{pins:List (Addr×Obj)}{σ:St}{H:Hp}{s:Shared}{D:Addr}{o:HO}(I:Inv X pins σ H s)(f:P0 X pins H D)(new:z1y X.prog X.w (upd H D o) s.heap D o):Inv X pins σ (upd H D o) s:=by
 obtain⟨f0,f1,f2,f3,f4,f5⟩:=f
 have q:=I.step (H':=upd H D o) (h':=s.heap) (g':=s.gens) (t':=s.toks) (d':=s.drawn) (ch:=[D]) (fun b hb=>by
   have e:b=D:=by simpa using hb
   subst e
   exact⟨f3,f1,f4,f5⟩)
  (fun _ _ _ _ _ e _=>e) (fun b ob _ _ _ e _=>⟨ob.slots,e⟩) (fun b ob hb _ n=>by
   have e:b≠D:=fun z=>hb (by simp[z])
   rw[z0h e];exact n)
  (fun b ob _ e=>⟨ob,e⟩) (fun b xs e=>by rw[z0h (z0r e f0)];exact e) (fun b ob u e=>by rw[z0h (z0r e f0)];exact e)
  (fun b ps e=>⟨#[],by rw[z0h (z0r e f0),e];simp⟩) (fun _ hm=>hm) (fun b u e=>by
   by_cases hb:b=D
   ·subst hb
    rw[z03] at e
    cases e
    exact new
   ·rw[z0h hb] at e
    exact(I.hok b u e).U4 (fun _ _ _ q=>q) (fun c q=>by rw[z0h (z0r q f0)];exact q) fun c xs q=>by rw[z0h (z0r q f0)];exact q) I.bare
 exact q
section
variable{X:Cx}{scope:Scope}{cl:List (Str×Addr)}{own E3:List Str}{ix:List Nat}
theorem E8.look(S:E8 X scope cl own E3 ix):∀x c,cl.lookup x=some c->X.env.cells.lookup x=some c:=
 z7r S.T5 fun x c e=>by cases e
theorem y4y{pins:List (Addr×Obj)}{σ:St}{H1:Hp}{s3:Shared}{h1:Heap}{ex:List Addr}{m:Str->Option Value}{tk:Nat}(S:E8 X scope cl own E3 ix)(I:Inv X pins σ H1 s3)
  (hex:∀b∈ex,b<s3.heap.objs.size/\b≠X.env.locals/\b∉X.fs/\(b∈X.ex\/X.s₀.heap.objs.size≤b)/\∀x c,X.env.cells.lookup x=some c->c≠b)
  (hn:h1.Ns s3.heap.objs.size m) (hk:∀b o,s3.heap.get? b=some o->h1.get? b=some o) :
  Inv (z3X X scope cl (own++E3) s3.heap.objs.size s3 H1 ex pins) [] (z7A own.length ix σ) H1 { s3 with heap:=h1,toks:=tk }:=by
 have stkN:∀b∈frs X.stack,b<s3.heap.objs.size:=fun b hb=>by
  obtain⟨_,o,ho,_⟩:=I.stack.mem hb
  exact bQ ho
 have lt0:∀b o,X.base.get? b=some o->b<X.s₀.heap.objs.size:=fun b o e=>bQ (I.ok.bs b o e).1
 refine⟨⟨I.ok.mod,S.kind,I.ok.glob,I.ok.blt,bH _,?_,?_,?_,I.ok.hd,I.ok.frames,.inl rfl,?_,I.bs,cM I.ok.bsz I.sz,?_,?_,I.stack,I.T9⟩,rfl,I.bare,?_,?_,?_,?_,?_,?_,?_,?_⟩
 ·intro x y c e1 e2
  exact I.ok.inj x y c (S.look x c e1) (S.look y c e2)
 ·intro x hx
  exact z5L S.T5 x (.inr (z6U S.cell hx))
 ·intro x c hf
  exact absurd hf bO
 ·intro b hb
  obtain⟨l,a1,a2,a3,a4⟩:=hex b hb
  exact⟨cA l,fun x c e=>a4 x c (S.look x c e)⟩
 ·intro b o e hb
  obtain⟨l,a1,a2,a3,a4⟩:=hex b hb
  rcases a3 with z|z
  ·exact I.ok.noex b o e z
  ·exact absurd (cR (lt0 b o e) z) (dE _)
 ·intro b hb hf
  obtain⟨l,a1,a2,a3,a4⟩:=hex b hb
  rcases bF.mp (I.P8 b hf) with z|z
  ·exact a1 z
  ·exact a2 z
 ·exact Un.kept hk
 ·refine⟨m,hn,fun i x v e1 e2 e3=>?_⟩
  have e2':(List.replicate own.length none++ix.map fun i=>(σ[i]?).join:St)[i]? = some (some v):=e2
  have e1':(own++E3)[i]? = some x:=e1
  by_cases hi:i<own.length
  ·rw[cV (by simpa using hi),gN,if_pos hi] at e2'
   cases e2'
  ·have hi':own.length≤i:=jF hi
   rw[dF (by simpa using hi'),hJ,bE] at e2'
   rw[dF hi'] at e1'
   cases q:ix[i-own.length]? with
   | none=>rw[q] at e2';cases e2'
   | some k=>
    rw[q] at e2'
    have W4:(σ[k]?).join=some v:=Option.some.inj e2'
    have e4:σ[k]? = some (some v):=by
     cases z:σ[k]? with
     | none=>rw[z] at W4;cases W4
     | some u=>rw[z] at W4;rw[show u=some v from W4]
    obtain⟨n1,n2,n3,n4⟩:=S.cap (i-own.length) k x e1' q
    obtain⟨mX,_,hl⟩:=I.loc
    obtain⟨u,r,l⟩:=hl k x v n1 e4 n3
    refine⟨u,r,?_⟩
    rcases l with ⟨kl,_⟩|⟨_,c,ec,ic⟩
    ·exact absurd kl n2
    ·obtain⟨c',ec'⟩:=z5L S.T5 x (.inr (z6U S.cell n4))
     have e5:=S.look x c' ec'
     rw[ec] at e5
     cases e5
     exact .inr ⟨n4,c,ec',ic.keeps hk⟩
 ·intro x c e
  obtain⟨v,q⟩:=I.cell x c (S.look x c e)
  exact⟨v,q.keeps hk⟩
 ·exact I.hok.fresh (bH _)
 ·intro x c e
  exact I.freeC x c (S.look x c e)
 ·intro p hp
  have hp':p∈X.pn++pins:=by
   have:p∈(X.pn++pins)++[]:=hp
   rwa [cY] at this
  obtain⟨e,n,ne,nf,d⟩:=I.pin p hp'
  refine⟨hk _ _ e,n,cA (bQ e),fun z=>?_,d⟩
  rcases bF.mp (I.P8 p.1 z) with z|z
  ·exact ne z
  ·exact nf z
 ·exact I.hok.kept hk
 ·show(List.replicate own.length none++ix.map fun i=>(σ[i]?).join:St).length=(own++E3).length
  rw[bJ,hJ,bA,bJ,S.capn]
def PTs(X:Cx)(ifs:List Expr)(t:TT):Prop:=
 ∀(pins:List (Addr×Obj)) (s:Shared) (σ:St) (H:Hp) (Q:Bool->Hp->Prop),Inv X pins σ H s->t σ H Q->
  wpAny (model X.prog X.w) X.A (forIn ifs true fun c r=>if r=true then do let ok <- isTrue c X.env (eval c X.env);pure (ForInStep.yield ok) else pure (ForInStep.yield r)) (TP X pins σ Q) X.xe s
def tYes:TT:=fun _ H Q=>Q true H
theorem z1K:PTs X [] tYes:=fun _ _ _ H _ I h=>wpAny_tests_nil ⟨H,I,h⟩
theorem z3c{c:Expr}{t:TT}(hc:PT X c t):PTs X [c] t:=fun pins s σ H Q I h=>wpAny_tests_one (hc pins s σ H Q I h)
def z5M(n:Nat)(σ σ':St):Prop:=σ'.length=σ.length/\∀i,n≤i->σ'[i]? = σ[i]?
def T2(n:Nat)(g:TG):Prop:=∀v σ H Q,g v σ H Q->g v σ H fun σ' H'=>Q σ' H'/\z5M n σ σ'
def y3Z(n:Nat)(g:TGs):Prop:=∀vs σ H Q,g vs σ H Q->g vs σ H fun σ' H'=>Q σ' H'/\z5M n σ σ'
theorem z5M.refl(n:Nat)(σ:St):z5M n σ σ:=⟨rfl,fun _ _=>rfl⟩
theorem z5M.trans{n:Nat}{a b c:St}(x:z5M n a b)(y:z5M n b c):z5M n a c:=⟨y.1.trans x.1,fun i h=>(y.2 i h).trans (x.2 i h)⟩
theorem z0z{n i:Nat}(h:i<n):T2 n (y2w i):=fun v σ H Q q=>⟨q,by simp,fun j hj=>hZ (by omega)⟩
theorem z7y{n:Nat}:y3Z n Y5:=fun vs σ H Q q=>⟨q.1,q.2,z5M.refl n σ⟩
def z9Y(g:TG):Prop:=∀v σ H (Q Q':St->Hp->Prop),(∀σ' H',Q σ' H'->Q' σ' H')->g v σ H Q->g v σ H Q'
def z8O(g:TGs):Prop:=∀vs σ H (Q Q':St->Hp->Prop),(∀σ' H',Q σ' H'->Q' σ' H')->g vs σ H Q->g vs σ H Q'
theorem z0g{i:Nat}:z9Y (y2w i):=fun _ _ _ _ _ f q=>f _ _ q
theorem z1h:z8O Y5:=fun _ _ _ _ _ f q=>⟨q.1,f _ _ q.2⟩
theorem z0O{t:TG}{u:TGs}(a:z9Y t)(b:z8O u):z8O (y66 t u):=fun vs σ H Q Q' f q=>by
 obtain⟨v,r,e,q⟩:=q
 exact⟨v,r,e,a _ _ _ _ _ (fun σ' H' z=>b _ _ _ _ _ f z) q⟩
theorem z78{K:PySem.W.Frag}{n:Nat}{t:TGs}(a:z8O t):z9Y (W6 K n t):=fun v σ H Q Q' f q=>by
 obtain⟨p,xs,e,h1,h2,q⟩:=q
 exact⟨p,xs,e,h1,h2,a _ _ _ _ _ f q⟩
theorem z26{n:Nat}{t:TG}{u:TGs}(a:T2 n t)(m:z9Y t)(b:y3Z n u)(m':z8O u):y3Z n (y66 t u):=fun vs σ H Q q=>by
 obtain⟨v,r,e,q⟩:=q
 refine⟨v,r,e,m _ _ _ _ _ (fun σ' H' z=>?_) (a _ _ _ _ q)⟩
 exact m' _ _ _ _ _ (fun σ2 H2 y=>⟨y.1,z.2.trans y.2⟩) (b _ _ _ _ z.1)
theorem z9h{K:PySem.W.Frag}{n k:Nat}{t:TGs}(a:y3Z n t):T2 n (W6 K k t):=fun v σ H Q q=>by
 obtain⟨p,xs,e,h1,h2,q⟩:=q
 exact⟨p,xs,e,h1,h2,a _ _ _ _ q⟩
def z1E(g:TG)(tc:TT)(te:TE)(σ0:St)(x:V)(H:Hp)(ys:List V)(N:List V->Hp->Prop):Prop:=
 g x σ0 H fun σ2 H2=>tc σ2 H2 fun b H3=>if b=true then te σ2 H3 fun y H4=>N (ys++[y]) H4 else N ys H3
def y6V(own:Nat)(ix:List Nat)(wi:TI)(g:TG)(tc:TT)(te:TE)(σ:St)(H:Hp)(F:List V->Hp->Prop):Prop:=
 wi σ H fun J H1=>∃W:Nat->Nat->List V->Hp->Prop,(∃m,W 0 m [] H1)/\∀i m ys H,W i m ys H->
  (J.stop i H/\F ys H)\/(J.go i H/\ys.length<sizeLine/\∃N:List V->Hp->Prop,(∀zs H',N zs H'->∃m',m'<m/\W (i+1) m' zs H')/\
   ∀x H',J.yld i H x H'->z1E g tc te (z7A own ix σ) x H' ys N)
theorem z8x{elt iter tg:Expr}{ifs:List Expr}{pos:Pos}{pins:List (Addr×Obj)}{σ:St}{s2:Shared}{itv:Value}{g:TG}{tc:TT}{te:TE}{F:List V->Hp->Prop}{RR:Value->Addr->Result->Shared->Prop}{E:Value->Shared->Prop}
  (S:E8 X scope cl own E3 ix) (hc:X.calm=true)
  (hg:∀C s3 H1 ex pn,PG (z3X X scope cl (own++E3) C s3 H1 ex pn) tg g) (og:T2 own.length g) (mg:z9Y g)
  (ht:∀C s3 H1 ex pn,PTs (z3X X scope cl (own++E3) C s3 H1 ex pn) ifs tc)
  (he:∀C s3 H1 ex pn,PE (z3X X scope cl (own++E3) C s3 H1 ex pn) elt te)
  (h:PIE X pins σ tg (fun J H1=>∃W:Nat->Nat->List V->Hp->Prop,(∃m,W 0 m [] H1)/\∀i m ys H,W i m ys H->
   (J.stop i H/\F ys H)\/(J.go i H/\ys.length<sizeLine/\∃N:List V->Hp->Prop,(∀zs H',N zs H'->∃m',m'<m/\W (i+1) m' zs H')/\
    ∀x H',J.yld i H x H'->z1E g tc te (z7A own.length ix σ) x H' ys N)) itv s2)
  (hRR:∀D C m H' ys s',Inv X pins σ (upd H' D (.lst ys)) s'->P0 X pins (upd H' D (.lst ys)) C->s'.heap.Ns C m->H' D=none->F ys H'->RR (.ref D) C (.ok .next) s') :
  wpAny (model X.prog X.w) X.A (newList []) (fun acc s3=>wpAny (model X.prog X.w) X.A (newFunctionEnv scope X.env.globals cl [] X.env.qual none .none (some X.env)) (fun cenv s4=>
   codeAny (model X.prog X.w) X.A (.compStart (.ListComp elt [⟨tg,iter,ifs,0⟩] scope pos) 0 itv acc { cenv with scope:=relabel scope X.env }) (RR acc cenv.locals) s4) E s3) E s2:=by
 obtain⟨it,fp,tn,J,H1,e,I2,T,st2,f2,W,⟨m0,w0⟩,turn⟩:=h
 subst e
 refine wpAny_newObj_type (wpAny_newFunctionEnv S.cell (by intro y hy;simp at hy) (fun h1 hns1 hsb1=>?_) S.kind)
 dsimp only at hns1 hsb1 ⊢
 generalize hH2:s2.heap.push { cls:=.type "list",dict:=none,data:=.seq ([]:List Value).toArray }=h2 at hns1 hsb1 ⊢
 have V9:∀b o,s2.heap.get? b=some o->h2.get? b=some o:=fun b o e=>hH2 ▸ bB _ e
 have sz2:h2.objs.size=s2.heap.objs.size+1:=by rw[<- hH2,fP]
 have hDC:s2.heap.objs.size≠h2.objs.size:=by omega
 have U0:∀b o,h2.get? b=some o->h1.get? b=some o:=fun b o e=>hsb1.extBut b o (cA (bQ e)) (bB _ e)
 have w0o:h2.get? s2.heap.objs.size=some { cls:=.type "list",dict:=none,data:=.seq ([]:List Value).toArray }:=hH2 ▸ bN _ rfl
 have I3:Inv X pins σ H1 { s2 with heap:=h2,toks:=s2.toks }:=I2.kept V9
 have fD:P0 X pins H1 s2.heap.objs.size:=I2.Q2 (bH _) I2.fresh
 have fDs:∀{H':Hp},H' s2.heap.objs.size=none->P0 X pins H' s2.heap.objs.size:=fun hn=>⟨hn,fD.2⟩
 have fpLt:∀b∈fp,b<s2.heap.objs.size:=fun b hb=>by
  obtain⟨o,e,_⟩:=T.obj _ _ st2 b hb
  exact bQ e
 have hDfp:s2.heap.objs.size∉fp:=fun z=>dE _ (fpLt _ z)
 have Y9:∀b∈s2.heap.objs.size::fp,b<h2.objs.size/\b≠X.env.locals/\b∉X.fs/\(b∈X.ex\/X.s₀.heap.objs.size≤b)/\∀x c,X.env.cells.lookup x=some c->c≠b:=fun b hb=>by
  rcases bF.mp hb with rfl|hb
  ·exact⟨by omega,fD.2.1,fD.2.2.1,fD.2.2.2.1,fD.2.2.2.2.1⟩
  ·have:=fpLt b hb
   obtain⟨_,a1,a2,a3,a4,_⟩:=f2 b hb
   exact⟨by rw[sz2];exact eO this,a1,a2,a3,a4⟩
 have I4:Inv (z3X X scope cl (own++E3) h2.objs.size { s2 with heap:=h2,toks:=s2.toks } H1 (s2.heap.objs.size::fp) pins) [] (z7A own.length ix σ) H1 { s2 with heap:=h1,toks:=s2.toks+([]:List (Str×Value)).length }:=
  y4y S I3 Y9 hns1 U0
 generalize hX:z3X X scope cl (own++E3) h2.objs.size { s2 with heap:=h2,toks:=s2.toks } H1 (s2.heap.objs.size::fp) pins=Y at I4
 have HG:PG Y tg g:=by rw[<- hX];exact hg _ _ _ _ _
 have HT:PTs Y ifs tc:=by rw[<- hX];exact ht _ _ _ _ _
 have HE:PE Y elt te:=by rw[<- hX];exact he _ _ _ _ _
 have eP:Y.prog=X.prog:=by rw[<- hX];rfl
 have eW:Y.w=X.w:=by rw[<- hX];rfl
 have eK:Y.K=X.K:=by rw[<- hX];rfl
 have eA:Y.A=X.A:=by rw[<- hX];rfl
 have eC:Y.calm=true:=by rw[<- hX];exact hc
 have eE:Y.xe=noE:=by rw[<- hX];rfl
 have U8:Y.env=compEnvC scope cl h2.objs.size X.env:=by rw[<- hX];rfl
 have eEx:Y.ex=s2.heap.objs.size::fp:=by rw[<- hX];rfl
 have ePn:Y.pn=X.pn++pins:=by rw[<- hX];rfl
 have eFs:Y.fs=frs X.stack:=by rw[<- hX];rfl
 have X3:∀x c,Y.env.cells.lookup x=some c->X.env.cells.lookup x=some c:=fun x c e=>by
  rw[U8] at e
  exact S.look x c e
 have X6:Y.env.locals=h2.objs.size:=by rw[U8];rfl
 have fY:∀{pl:List (Addr×Obj)}{H':Hp}{b:Addr},b∈s2.heap.objs.size::fp->H' b=none->(∀p∈pl,p.1≠b)->P0 Y pl H' b:=fun {pl H' b} hb hn hpl=>by
  obtain⟨l,a1,a2,a3,a4⟩:=Y9 b hb
  refine⟨hn,by rw[X6];exact cA l,fun z=>?_,.inl (by rw[eEx];exact hb),fun x c e=>a4 x c (X3 x c e),fun p hp=>?_⟩
  ·rw[eFs] at z
   rcases bF.mp (I3.P8 b z) with z|z
   ·exact a1 z
   ·exact a2 z
  ·rcases bS.mp hp with z|z
   ·rw[ePn] at z
    rcases bF.mp hb with rfl|hb
    ·exact fD.2.2.2.2.2 p z
    ·exact(f2 b hb).2.2.2.2.2 p z
   ·exact hpl p z
 let IV:Nat->Shared->Prop:=fun n s'=>∃i ys its c H',Inv Y [] (z7A own.length ix σ) H' s'/\tn i s'.heap/\(∀b∈fp,H' b=none)/\H' s2.heap.objs.size=none/\Vals ys its/\
  s'.heap.get? s2.heap.objs.size=some { cls:=.type "list",data:=.seq its.toArray c }/\ys.length≤sizeLine/\W i n ys H'
 have loop:∀s3:Shared,s3={ s2 with heap:=h1,toks:=s2.toks+([]:List (Str×Value)).length }->
   codeAny (model X.prog X.w) X.A (.compLoop (.ListComp elt [⟨tg,iter,ifs,0⟩] scope pos) 0 (.ref it) (.ref s2.heap.objs.size) (compEnvC scope cl h2.objs.size X.env)) (RR (.ref s2.heap.objs.size) h2.objs.size) s3:=by
  rintro s3 rfl
  refine y0r IV ?_ m0 ⟨0,[],[],_,H1,I4,T.keep _ _ _ st2 fun b _ o e=>U0 b o (V9 b o e),fun b hb=>(f2 b hb).1,I2.fresh,.nil,U0 _ _ w0o,cT _,w0⟩
  rintro n s5 ⟨i,ys,its,c,H5,I5,st5,fr5,nD5,v5,gD5,z5,w5⟩
  have I5p:Inv Y [(s2.heap.objs.size,{ cls:=.type "list",data:=.seq its.toArray c })] (z7A own.length ix σ) H5 s5:=I5.O1 fun p hp=>by
   have e:p=(s2.heap.objs.size,{ cls:=.type "list",data:=.seq its.toArray c }):=by simpa using hp
   subst e
   obtain⟨_,b1,b2,_⟩:=fY (pl:=[]) (H':=H5) (b:=s2.heap.objs.size) cD nD5 (fun p hp=>nomatch hp)
   exact⟨gD5,nD5,b1,b2,fun v z=>by cases z⟩
  have fps:∀{H':Hp},(∀b∈fp,H' b=none)->∀b∈fp,P0 Y [(s2.heap.objs.size,{ cls:=.type "list",data:=.seq its.toArray c })] H' b:=fun hn b hb=>
   fY (bZ _ hb) (hn b hb) fun p hp=>by
    have e:p=(s2.heap.objs.size,{ cls:=.type "list",data:=.seq its.toArray c }):=by simpa using hp
    subst e
    exact fun z=>hDfp (by have z':s2.heap.objs.size=b:=z;rw[z'];exact hb)
  rcases turn i n ys H5 w5 with ⟨stop,fin⟩|⟨go,hlen,N,hN,step⟩
  ·have q:=T.done Y eP eW eK eC i _ s5 _ H5 noE I5p (fps fr5) st5 stop
   rw[eA] at q
   refine thn q fun r s6 ⟨hr,I6⟩=>?_
   subst hr
   have gD6:=(I6.pin (s2.heap.objs.size,{ cls:=.type "list",data:=.seq its.toArray c }) (cF _ (by simp))).1
   have u6:Un (frs X.stack) (s2.heap.objs.size::fp) H1 H5 h2 s6.heap:=by
    have:=I6.base
    rw[eFs,eEx] at this
    rw[<- hX] at this
    exact this
   have os6:s6.os=s2.os:=by
    have:=I6.os
    rw[<- hX] at this
    exact this
   have hok6:HOk X.prog X.w H5 s6.heap:=by
    have:=I6.hok
    rw[eP,eW] at this
    exact this
   have J6:Inv X pins σ H5 s6:=I3.w11 (s':=s6) os6 u6 hok6 I6.bare fun b hb=>by
    obtain⟨l,a1,a2,a3,a4⟩:=Y9 b hb
    refine⟨a3,a1,a4,?_⟩
    rcases bF.mp hb with rfl|hb
    ·exact fD.2.2.2.2.2
    ·exact(f2 b hb).2.2.2.2.2
   have J7:Inv X pins σ (upd H5 s2.heap.objs.size (.lst ys)) s6:=J6.w0D (fDs nD5) ⟨z5,its,c,v5,gD6⟩
   obtain⟨mC,hC,_⟩:=I6.loc
   rw[X6] at hC
   have nC:H5 h2.objs.size=none:=by
    have:=I6.free
    rw[X6] at this
    exact this
   refine hRR _ _ mC H5 ys s6 J7 (I3.Q2 (bH _) ?_) hC nD5 fin
   show upd H5 s2.heap.objs.size (.lst ys) h2.objs.size=none
   rw[z0h (dG hDC)]
   exact nC
  ·have q:=T.item Y eP eW eK eC i _ s5 _ H5 noE I5p (fps fr5) st5 go
   rw[eA] at q
   refine thn q fun r s6 ⟨u,hr,h6⟩=>?_
   subst hr
   refine thn h6 fun _ s7 ⟨x,H7,I7,r7,y7,st7,fr7⟩=>?_
   have I7p:=I7.pinned (fps fr7) (T.obj _ _ st7)
   have st:=og _ _ _ _ (step x H7 y7)
   have q2:=HG _ s7 _ H7 x u _ I7p r7 st
   rw[eE,eP,eW,eA,U8] at q2
   refine thn q2 fun _ s8 ⟨σ8,H8,I8,q8,fr8⟩=>?_
   have q3:=HT _ s8 σ8 H8 _ I8 q8
   rw[eE,eP,eW,eA,U8] at q3
   refine thn q3 fun ok s9 ⟨H9,I9,q9⟩=>?_
   have back:∀{H':Hp}{s':Shared},Inv Y ([(s2.heap.objs.size,({ cls:=.type "list",data:=.seq its.toArray c }:Obj))]++y01 fp s7.heap) σ8 H' s'->
     Inv Y [] (z7A own.length ix σ) H' s'/\tn (i+1) s'.heap/\(∀b∈fp,H' b=none)/\H' s2.heap.objs.size=none/\s'.heap.get? s2.heap.objs.size=some { cls:=.type "list",data:=.seq its.toArray c }:=fun {H' s'} I'=>by
    have pD:=I'.pin (s2.heap.objs.size,{ cls:=.type "list",data:=.seq its.toArray c }) (cF _ (dS _ (by simp)))
    refine⟨(I'.O1 (pins':=[]) fun p hp=>nomatch hp).weak fr8.1.symm fun j v e=>?_,T.keep _ _ _ st7 fun b hb o e=>(I'.pin (b,o) (cF _ (cF _ (z4w hb e)))).1,fun b hb=>?_,pD.2.1,pD.1⟩
    ·by_cases hj:j<own.length
     ·have e':(List.replicate own.length none++ix.map fun i=>(σ[i]?).join:St)[j]? = some (some v):=e
      rw[cV (by simpa using hj),gN,if_pos hj] at e'
      cases e'
     ·rw[fr8.2 j (jF hj)]
      exact e
    ·obtain⟨o,e,d⟩:=T.obj _ _ st7 b hb
     exact(I'.pin (b,o) (cF _ (cF _ (z4w hb e)))).2.1
   cases ok with
   | false=>
    obtain⟨m',hm,w9⟩:=hN _ _ (show N ys H9 from q9)
    obtain⟨b1,b2,b3,b4,b5⟩:=back I9
    exact⟨m',hm,i+1,ys,its,c,H9,b1,b2,b3,b4,v5,b5,z5,w9⟩
   | true=>
    have q9':te σ8 H9 fun y H4=>N (ys++[y]) H4:=q9
    have q4:=HE _ s9 σ8 H9 _ I9 q9'
    rw[eE,eP,eW,eA,U8] at q4
    refine thn q4 fun yv s10 ⟨y,H10,I10,r10,n10⟩=>?_
    obtain⟨b1,b2,b3,b4,b5⟩:=back I10
    obtain⟨m',hm,w10⟩:=hN _ _ n10
    have hl:=v5.length
    refine call_meets bT ⟨_,b5,rfl⟩ PySem.F.entry_list_append (PySem.F.args_list_append_2 _ _) (PySem.list_append s2.heap.objs.size its.toArray c yv (by rw[bK];omega)) ⟨b5,?_⟩
    have q5:=PySem.IsL.update b5 (fun a=>a.push yv)
    have e5:its.toArray.push yv=(its++[yv]).toArray:=by simp
    rw[e5] at q5
    have k5:∀b o,b≠s2.heap.objs.size->s10.heap.get? b=some o->(s10.heap.update s2.heap.objs.size (Obj.mapSeq fun a=>a.push yv)).get? b=some o:=fun b o hb e=>
     (cS s10.heap (Obj.mapSeq fun a=>a.push yv) (dG hb)).trans e
    obtain⟨f0,f1,f2',f3,f4,f5⟩:=fY (pl:=[]) (H':=H10) (b:=s2.heap.objs.size) cD b4 (fun p hp=>nomatch hp)
    have b1':=b1.turned (t':=s10.toks) k5 f0 f1 f3 f4 f5
    refine⟨m',hm,i+1,ys++[y],its++[yv],_,H10,b1',T.keep _ _ _ b2 fun b hb o e=>k5 b o (fun z=>hDfp (by rw[<- z];exact hb)) e,b3,b4,v5.append (.cons r10 .nil),q5,?_,w10⟩
    ·rw[bJ,dH]
     omega
 exact codeAny_compStart_list (loop _ rfl) (T.self _ 0 _ _ _ (T.keep _ _ _ st2 fun b _ o e=>U0 b o (V9 b o e)) (loop _ rfl))
def y6X(own:Nat)(ix:List Nat)(wi:TI)(g:TG)(tc:TT)(te:TE):TE:=fun σ H Q=>y6V own ix wi g tc te σ H fun ys H'=>∀D,H' D=none->Q (.ref D) (upd H' D (.lst ys))
theorem z1i{elt iter tg:Expr}{ifs:List Expr}{pos:Pos}{wi:TI}{g:TG}{tc:TT}{te:TE}(own E3:List Str)(ix:List Nat)
  (hc:X.calm=true) (S:E8 X scope cl own E3 ix) (hi:PI X tg iter wi)
  (hg:∀C s3 H1 ex pn,PG (z3X X scope cl (own++E3) C s3 H1 ex pn) tg g) (og:T2 own.length g) (mg:z9Y g)
  (ht:∀C s3 H1 ex pn,PTs (z3X X scope cl (own++E3) C s3 H1 ex pn) ifs tc)
  (he:∀C s3 H1 ex pn,PE (z3X X scope cl (own++E3) C s3 H1 ex pn) elt te)
  (hs:∀x,foldedSetIterable iter X.env x=pure x:=by intro _;rfl) :
  PE X (.ListComp elt [⟨tg,iter,ifs,0⟩] scope pos) (y6X own.length ix wi g tc te):=by
 intro pins s σ H Q I h
 rw[eval_ListComp]
 refine wpAny_comprehension_free (use:=none) rfl hs (z6V S.T5) S.kind S.names (thn (hi pins s σ H _ I h) fun v s1 h1=>thn h1 fun itv s2 h2=>?_)
 refine z8x (RR:=fun acc C=>compPost (model X.prog X.w) X.A X.xe none (EP X pins σ Q) acc C) S hc hg og mg ht he h2 ?_
 intro D C m H' ys s' I' fC hn hD fin
 refine⟨m,hn,fun h' sb=>?_⟩
 obtain⟨f0,f1,f2,f3,f4,f5⟩:=fC
 have I2:=I'.turned (t':=s'.toks) (h':=h') (it:=C) (fun b o hb e=>(sb.2 b hb).trans e) f0 f1 f3 f4 f5
 exact⟨.ref D,_,I2,rfl,fin D hD⟩
theorem z6j{elt iter tg:Expr}{ifs:List Expr}{pos pos' spos:Pos}{x:Str}{i:Nat}{wi:TI}{g:TG}{tc:TT}{te:TE}(own E3:List Str)(ix:List Nat)
  (hc:X.calm=true) (hN:X.N.Nodup) (hx:X.N[i]? = some x) (hl:Loc X.env.scope x) (S:E8 X scope cl own E3 ix) (hi:PI X tg iter wi)
  (hg:∀C s3 H1 ex pn,PG (z3X X scope cl (own++E3) C s3 H1 ex pn) tg g) (og:T2 own.length g) (mg:z9Y g)
  (ht:∀C s3 H1 ex pn,PTs (z3X X scope cl (own++E3) C s3 H1 ex pn) ifs tc)
  (he:∀C s3 H1 ex pn,PE (z3X X scope cl (own++E3) C s3 H1 ex pn) elt te)
  (hsw:swapsWith (.ListComp elt [⟨tg,iter,ifs,0⟩] scope pos) (some (.Name x pos')) spos.line X.env=pure true:=by rfl)
  (hf:X.fn x=true\/X.env.scope.names.lookup x=some .local:=by first|exact .inl rfl|exact .inr rfl|assumption)
  (hs:∀x,foldedSetIterable iter X.env x=pure x:=by intro _;rfl) :
  PS X (.Assign [.Name x pos'] (.ListComp elt [⟨tg,iter,ifs,0⟩] scope pos) spos) (tAsg (y6X own.length ix wi g tc te) (y2w i)):=by
 intro pins s σ H D I h
 rw[exec_Assign_Name_used _ _ _ _ hsw]
 refine wpAny_bind (wpAny_standAt (wpAny_bind ?_))
 show wpAny _ X.A (do let _ <- comprehension (.ListComp elt [⟨tg,iter,ifs,0⟩] scope pos) scope X.env _ (newList []) false (eval iter X.env) (some (assign (.Name x pos') X.env))) _ _ s
 refine wpAny_bind (wpAny_mono (wpAny_comprehension_free (use:=some (assign (.Name x pos') X.env)) (Q:=fun _ s'=>SP X pins D .next s') rfl hs (z6V S.T5) S.kind S.names
  (thn (hi pins s σ H _ I h) fun v s1 h1=>thn h1 fun itv s2 h2=>?_)) (fun _ s' hq=>wpAny_pure (wpAny_pure hq)) fun _ _ e=>e)
 refine z8x (RR:=fun acc C=>compPost (model X.prog X.w) X.A X.xe (some (assign (.Name x pos') X.env)) (fun _ s'=>SP X pins D .next s') acc C) S hc hg og mg ht he h2 ?_
 intro D' C m H' ys s' I' fC hn hD fin
 obtain⟨f0,f1,f2,f3,f4,f5⟩:=fC
 obtain⟨oC,es,ep,hoC,hdC,hr⟩:=id hn
 show wpAny _ X.A (assign (.Name x pos') X.env (.ref D')) _ _ _
 have Ip:Inv X (pins++[(C,oC)]) σ (upd H' D' (.lst ys)) s':=I'.O1 fun p hp=>(bS.mp hp).elim (fun z=>I'.pin p (cF _ z)) fun z=>by
  have e:p=(C,oC):=by simpa using z
  subst e
  exact⟨hoC,f0,f1,f2,fun v z=>by rw[hdC] at z;cases z⟩
 refine thn (z0k hN hx hl hf (pins++[(C,oC)]) s' σ _ (.ref D') (.ref D') _ Ip rfl (fin D' hD)) fun _ s3 ⟨σ3,H3,I3,q3⟩=>?_
 have pC:=I3.pin (C,oC) (cF _ (cF _ (by simp)))
 refine⟨m,⟨oC,es,ep,pC.1,hdC,hr⟩,fun h' sb=>?_⟩
 have I4:Inv X pins σ3 H3 s3:=I3.O2
 exact⟨σ3,H3,I4.turned (t':=s3.toks) (h':=h') (it:=C) (fun b o hb e=>(sb.2 b hb).trans e) pC.2.1 f1 f3 f4 f5,q3⟩
end
section
variable{prog:Program}{w:World}{A:Around}{R:Result->Shared->Prop}{I:Addr}{fp wr:List Addr}{n:Nat}{P:Nat->Value->Prop}{St:Nat->Heap->Prop}
theorem y51(W:Walks prog w A.in1 I fp wr n P St)(bt:Nat->Nat->Bool)(P2:CmpOf prog w A.in1 .Gt P bt)(S:Addr)(hSf:S∉fp)(kw:List (Str×Value)) :
  ∀(k j:Nat) (s:Shared) (vb:Value) (c:Nat),n-(j+1)=k->j+1≤n->St (j+1) s.heap->P (argBest bt j) vb->
  s.heap.get? S=some { cls:=.type "list",dict:=none,data:=.seq #[vb,vb] c,slots:=#[] }->
  (∀v h' tk,P (argBest bt (n-1)) v->(∀b o,b∉wr->b≠S->s.heap.get? b=some o->h'.get? b=some o)->R (.ok (.ret v)) { s with heap:=h',toks:=tk })->
  codeAny (model prog w) A (.builtin "max.loop" ⟨[.ref I,.none,.ref S],kw⟩) R s:=by
 have hSw:S∉wr:=fun h=>hSf (W.sub _ h)
 have K7:(toString "max"++toString ".loop":String)="max.loop":=by decide
 intro k
 induction k with
 | zero=>
  intro j s vb c hk hj hst hPb hS hR
  have hin:j+1=n:=by omega
  refine codeAny_builtin fJ ?_
  rw[cH d7 _]
  show wpAny _ A.in1 (seqItems? (.ref S) >>= _) _ _ s
  refine wpAny_bind (wpAny_seqItems hS rfl ?_)
  show wpAny _ A.in1 (tryCatch (pyNext (.ref I)) _ >>= _) _ _ s
  refine wpAny_bind (wpAny_tryCatch (W.done s _ _ (hin ▸ hst) fun h' tk hk'=>?_))
  have hS':=hk' S _ hSw hS
  show wpAny _ A.in1 (updateSeq S (fun _=>#[]) >>= _) _ _ _
  refine wpAny_bind ?_
  refine wpAny_updateSeq hS' rfl (wpAny_bind (wpAny_letGo (wpAny_pure ?_)))
  refine hR vb _ tk (by rw[<- hin];exact hPb) fun b o hbw hbS e=>(cS _ _ (dG hbS)).trans (hk' b o hbw e)
 | succ k ih=>
  intro j s vb c hk hj hst hPb hS hR
  have hlt:j+1<n:=by omega
  refine codeAny_builtin fJ ?_
  rw[cH d7 _]
  show wpAny _ A.in1 (seqItems? (.ref S) >>= _) _ _ s
  refine wpAny_bind (wpAny_seqItems hS rfl ?_)
  show wpAny _ A.in1 (tryCatch (pyNext (.ref I)) _ >>= _) _ _ s
  refine wpAny_bind (wpAny_tryCatch (W.item (j+1) s _ _ hlt hst fun v h' tk hP hst' hk'=>?_))
  have hS':=hk' S _ hSw hS
  show wpAny _ A.in1 (tryCatch (holding [v,v] (richCompare .Gt v vb >>= _)) _ >>= _) _ _ _
  refine wpAny_bind (wpAny_tryCatch (wpAny_holding (wpAny_bind (P2 (j+1) (argBest bt j) v vb _ _ _ hP hPb ?_))))
  refine wpAny_bind (wpAny_holding (wpAny_truthy_bool ?_))
  refine wpAny_bind (wpAny_letGo (wpAny_pure ?_))
  cases hb:bt (j+1) (argBest bt j) with
  | true=>
   simp only[if_true]
   refine wpAny_bind ?_
   refine wpAny_updateSeq hS' rfl (wpAny_bind (wpAny_letGo ?_))
   rw[K7]
   refine wpAny_pure ⟨plainId_quiet d7 _,ih (j+1) _ v _ (by omega) hlt (W.frame _ _ _ hst' fun b hbf o e=>?_) (by simp only[argBest,hb,if_true];exact hP) (dP _ hS' rfl)
    fun v' h'' tk'' hP' hk''=>?_⟩
   ·exact(cS _ _ (fun h:S=b=>hSf (by rw[h];exact hbf))).trans e
   ·exact hR v' h'' tk'' hP' fun b o hbw hbS e=>hk'' b o hbw hbS ((cS _ _ (dG hbS)).trans (hk' b o hbw e))
  | false=>
   simp only[eM,if_false]
   refine wpAny_bind (wpAny_letGo ?_)
   rw[K7]
   refine wpAny_pure ⟨plainId_quiet d7 _,ih (j+1) _ vb c (by omega) hlt hst' (by simp only[argBest,hb,eM,if_false];exact hPb) hS' fun v' h'' tk'' hP' hk''=>?_⟩
   exact hR v' h'' tk'' hP' fun b o hbw hbS e=>hk'' b o hbw hbS (hk' b o hbw e)
theorem y2M(W:Walks prog w A.in1 I fp wr n P St)(bt:Nat->Nat->Bool)(P2:CmpOf prog w A.in1 .Gt P bt)(S:Addr)(hSf:S∉fp)(kw:List (Str×Value))(hn:0<n){s:Shared}{c:Nat}(hst:St 0 s.heap)
  (hS:s.heap.get? S=some { cls:=.type "list",dict:=none,data:=.seq #[] c,slots:=#[] })
  (hR:∀v h' tk,P (argBest bt (n-1)) v->(∀b o,b∉wr->b≠S->s.heap.get? b=some o->h'.get? b=some o)->R (.ok (.ret v)) { s with heap:=h',toks:=tk }) :
  codeAny (model prog w) A (.builtin "max.loop" ⟨[.ref I,.none,.ref S],kw⟩) R s:=by
 have hSw:S∉wr:=fun h=>hSf (W.sub _ h)
 have K7:(toString "max"++toString ".loop":String)="max.loop":=by decide
 refine codeAny_builtin fJ ?_
 rw[cH d7 _]
 show wpAny _ A.in1 (seqItems? (.ref S) >>= _) _ _ s
 refine wpAny_bind (wpAny_seqItems hS rfl ?_)
 show wpAny _ A.in1 (tryCatch (pyNext (.ref I)) _ >>= _) _ _ s
 refine wpAny_bind (wpAny_tryCatch (W.item 0 s _ _ hn hst fun v h' tk hP hst' hk'=>?_))
 have hS':=hk' S _ hSw hS
 show wpAny _ A.in1 (updateSeq S (fun _=>#[v,v]) >>= _) _ _ _
 refine wpAny_bind ?_
 refine wpAny_updateSeq hS' rfl ?_
 rw[K7]
 refine wpAny_pure ⟨plainId_quiet d7 _,y51 W bt P2 S hSf kw _ 0 _ v _ rfl hn (W.frame _ _ _ hst' fun b hbf o e=>?_) hP (dP _ hS' rfl) fun v' h'' tk'' hP' hk''=>?_⟩
 ·exact(cS _ _ (fun h:S=b=>hSf (by rw[h];exact hbf))).trans e
 ·exact hR v' h'' tk'' hP' fun b o hbw hbS e=>hk'' b o hbw hbS ((cS _ _ (dG hbS)).trans (hk' b o hbw e))
theorem y4J(W:Walks prog w A.in1 I fp wr n P St)(S:Addr)(hSf:S∉fp)(kn:Str)(d:Value)(hn:n=0){s:Shared}{c:Nat}(hst:St 0 s.heap)
  (hS:s.heap.get? S=some { cls:=.type "list",dict:=none,data:=.seq #[] c,slots:=#[] })
  (hR:∀h' tk,(∀b o,b∉wr->s.heap.get? b=some o->h'.get? b=some o)->R (.ok (.ret d)) { s with heap:=h',toks:=tk }) :
  codeAny (model prog w) A (.builtin "max.loop" ⟨[.ref I,.none,.ref S],[(kn,d)]⟩) R s:=by
 refine codeAny_builtin fJ ?_
 rw[cH d7 _]
 show wpAny _ A.in1 (seqItems? (.ref S) >>= _) _ _ s
 refine wpAny_bind (wpAny_seqItems hS rfl ?_)
 show wpAny _ A.in1 (tryCatch (pyNext (.ref I)) _ >>= _) _ _ s
 refine wpAny_bind (wpAny_tryCatch (W.done s _ _ (hn ▸ hst) fun h' tk hk'=>?_))
 exact wpAny_bind (wpAny_rule (wpAny_pure (hR h' tk hk')))
theorem z70(a v:Value):argsOk "max" ⟨[a],[(Str.ofString "default",v)]⟩:=by unfold argsOk;kernel_rfl
theorem y4b{x d:Value}{s:Shared}{E:Value->Shared->Prop}{Q:Value->Shared->Prop}
  (h:wpAny (model prog w) A.in1 (pyIter x) (fun it s2=>∃I fp wr n P St bt,it=.ref I/\Walks prog w A.in1 I fp wr n P St/\St 0 s2.heap/\(∀b∈fp,b<s2.heap.objs.size)/\CmpOf prog w A.in1 .Gt P bt/\
   (n=0->∀h' tk,(∀b o,b∉wr->s2.heap.get? b=some o->h'.get? b=some o)->Q d { s2 with heap:=h',toks:=tk })/\
   (0<n->∀v h' tk,P (argBest bt (n-1)) v->(∀b o,b∉wr->s2.heap.get? b=some o->h'.get? b=some o)->Q v { s2 with heap:=h',toks:=tk })) E s) :
  wpAny (model prog w) A (call (.builtin "max") [x] [(Str.ofString "default",d)]) Q E s:=by
 have K7:(toString "max"++toString ".loop":String)="max.loop":=by decide
 refine kmk_tree PySem.F.kind_max PySem.F.plain_max PySem.F.entry_max (z70 _ _) ?_
 show wpAny _ A.in1 (Builtin.Builtins.bindParams "max" ["key","default"] 0 ⟨[],[(Str.ofString "default",d)]⟩ >>= _) _ _ s
 refine wpAny_bind (wpAny_of_eq (show Builtin.Builtins.bindParams "max" ["key","default"] 0 ⟨[],[(Str.ofString "default",d)]⟩=pure [none,some d] from by kernel_rfl) ?_)
 refine wpAny_bind (wpAny_pure ?_)
 refine wpAny_bind (wpAny_mono h (fun it s2 h2=>?_) fun _ _ e=>e)
 obtain⟨I,fp,wr,n,P,St,bt,rfl,W,hst,hfp,P2,hQ0,hQ⟩:=h2
 refine wpAny_bind (wpAny_newObj_type ?_)
 have hSf:s2.heap.objs.size∉fp:=fun hm=>dE _ (hfp _ hm)
 rw[K7]
 refine wpAny_pure ⟨plainId_quiet d7 _,?_⟩
 by_cases hn:n=0
 ·exact y4J W s2.heap.objs.size hSf _ d hn (W.frame _ _ _ hst fun b _ o e=>bB _ e) (bN _ rfl) fun h' tk hk=>hQ0 hn h' tk fun b o hbw e=>hk b o hbw (bB _ e)
 ·exact y2M W bt P2 s2.heap.objs.size hSf _ (gI hn) (W.frame _ _ _ hst fun b _ o e=>bB _ e) (bN _ rfl) fun v h' tk hP hk=>
   hQ (gI hn) v h' tk hP fun b o hbw e=>hk b o hbw (cA (bQ e)) (bB _ e)
theorem y49(W:Walks prog w A.in1 I fp wr n P St)(bt:Nat->Nat->Bool)(P2:CmpOf prog w A.in1 .Lt P bt)(S:Addr)(hSf:S∉fp)(kw:List (Str×Value)) :
  ∀(k j:Nat) (s:Shared) (vb:Value) (c:Nat),n-(j+1)=k->j+1≤n->St (j+1) s.heap->P (argBest bt j) vb->
  s.heap.get? S=some { cls:=.type "list",dict:=none,data:=.seq #[vb,vb] c,slots:=#[] }->
  (∀v h' tk,P (argBest bt (n-1)) v->(∀b o,b∉wr->b≠S->s.heap.get? b=some o->h'.get? b=some o)->R (.ok (.ret v)) { s with heap:=h',toks:=tk })->
  codeAny (model prog w) A (.builtin "min.loop" ⟨[.ref I,.none,.ref S],kw⟩) R s:=by
 have hSw:S∉wr:=fun h=>hSf (W.sub _ h)
 have K7:(toString "min"++toString ".loop":String)="min.loop":=by decide
 intro k
 induction k with
 | zero=>
  intro j s vb c hk hj hst hPb hS hR
  have hin:j+1=n:=by omega
  refine codeAny_builtin fK ?_
  rw[cH d8 _]
  show wpAny _ A.in1 (seqItems? (.ref S) >>= _) _ _ s
  refine wpAny_bind (wpAny_seqItems hS rfl ?_)
  show wpAny _ A.in1 (tryCatch (pyNext (.ref I)) _ >>= _) _ _ s
  refine wpAny_bind (wpAny_tryCatch (W.done s _ _ (hin ▸ hst) fun h' tk hk'=>?_))
  have hS':=hk' S _ hSw hS
  show wpAny _ A.in1 (updateSeq S (fun _=>#[]) >>= _) _ _ _
  refine wpAny_bind ?_
  refine wpAny_updateSeq hS' rfl (wpAny_bind (wpAny_letGo (wpAny_pure ?_)))
  refine hR vb _ tk (by rw[<- hin];exact hPb) fun b o hbw hbS e=>(cS _ _ (dG hbS)).trans (hk' b o hbw e)
 | succ k ih=>
  intro j s vb c hk hj hst hPb hS hR
  have hlt:j+1<n:=by omega
  refine codeAny_builtin fK ?_
  rw[cH d8 _]
  show wpAny _ A.in1 (seqItems? (.ref S) >>= _) _ _ s
  refine wpAny_bind (wpAny_seqItems hS rfl ?_)
  show wpAny _ A.in1 (tryCatch (pyNext (.ref I)) _ >>= _) _ _ s
  refine wpAny_bind (wpAny_tryCatch (W.item (j+1) s _ _ hlt hst fun v h' tk hP hst' hk'=>?_))
  have hS':=hk' S _ hSw hS
  show wpAny _ A.in1 (tryCatch (holding [v,v] (richCompare .Lt v vb >>= _)) _ >>= _) _ _ _
  refine wpAny_bind (wpAny_tryCatch (wpAny_holding (wpAny_bind (P2 (j+1) (argBest bt j) v vb _ _ _ hP hPb ?_))))
  refine wpAny_bind (wpAny_holding (wpAny_truthy_bool ?_))
  refine wpAny_bind (wpAny_letGo (wpAny_pure ?_))
  cases hb:bt (j+1) (argBest bt j) with
  | true=>
   simp only[if_true]
   refine wpAny_bind ?_
   refine wpAny_updateSeq hS' rfl (wpAny_bind (wpAny_letGo ?_))
   rw[K7]
   refine wpAny_pure ⟨plainId_quiet d8 _,ih (j+1) _ v _ (by omega) hlt (W.frame _ _ _ hst' fun b hbf o e=>?_) (by simp only[argBest,hb,if_true];exact hP) (dP _ hS' rfl)
    fun v' h'' tk'' hP' hk''=>?_⟩
   ·exact(cS _ _ (fun h:S=b=>hSf (by rw[h];exact hbf))).trans e
   ·exact hR v' h'' tk'' hP' fun b o hbw hbS e=>hk'' b o hbw hbS ((cS _ _ (dG hbS)).trans (hk' b o hbw e))
  | false=>
   simp only[eM,if_false]
   refine wpAny_bind (wpAny_letGo ?_)
   rw[K7]
   refine wpAny_pure ⟨plainId_quiet d8 _,ih (j+1) _ vb c (by omega) hlt hst' (by simp only[argBest,hb,eM,if_false];exact hPb) hS' fun v' h'' tk'' hP' hk''=>?_⟩
   exact hR v' h'' tk'' hP' fun b o hbw hbS e=>hk'' b o hbw hbS (hk' b o hbw e)
theorem y38(W:Walks prog w A.in1 I fp wr n P St)(bt:Nat->Nat->Bool)(P2:CmpOf prog w A.in1 .Lt P bt)(S:Addr)(hSf:S∉fp)(kw:List (Str×Value))(hn:0<n){s:Shared}{c:Nat}(hst:St 0 s.heap)
  (hS:s.heap.get? S=some { cls:=.type "list",dict:=none,data:=.seq #[] c,slots:=#[] })
  (hR:∀v h' tk,P (argBest bt (n-1)) v->(∀b o,b∉wr->b≠S->s.heap.get? b=some o->h'.get? b=some o)->R (.ok (.ret v)) { s with heap:=h',toks:=tk }) :
  codeAny (model prog w) A (.builtin "min.loop" ⟨[.ref I,.none,.ref S],kw⟩) R s:=by
 have hSw:S∉wr:=fun h=>hSf (W.sub _ h)
 have K7:(toString "min"++toString ".loop":String)="min.loop":=by decide
 refine codeAny_builtin fK ?_
 rw[cH d8 _]
 show wpAny _ A.in1 (seqItems? (.ref S) >>= _) _ _ s
 refine wpAny_bind (wpAny_seqItems hS rfl ?_)
 show wpAny _ A.in1 (tryCatch (pyNext (.ref I)) _ >>= _) _ _ s
 refine wpAny_bind (wpAny_tryCatch (W.item 0 s _ _ hn hst fun v h' tk hP hst' hk'=>?_))
 have hS':=hk' S _ hSw hS
 show wpAny _ A.in1 (updateSeq S (fun _=>#[v,v]) >>= _) _ _ _
 refine wpAny_bind ?_
 refine wpAny_updateSeq hS' rfl ?_
 rw[K7]
 refine wpAny_pure ⟨plainId_quiet d8 _,y49 W bt P2 S hSf kw _ 0 _ v _ rfl hn (W.frame _ _ _ hst' fun b hbf o e=>?_) hP (dP _ hS' rfl) fun v' h'' tk'' hP' hk''=>?_⟩
 ·exact(cS _ _ (fun h:S=b=>hSf (by rw[h];exact hbf))).trans e
 ·exact hR v' h'' tk'' hP' fun b o hbw hbS e=>hk'' b o hbw hbS ((cS _ _ (dG hbS)).trans (hk' b o hbw e))
theorem y4V(W:Walks prog w A.in1 I fp wr n P St)(S:Addr)(hSf:S∉fp)(kn:Str)(d:Value)(hn:n=0){s:Shared}{c:Nat}(hst:St 0 s.heap)
  (hS:s.heap.get? S=some { cls:=.type "list",dict:=none,data:=.seq #[] c,slots:=#[] })
  (hR:∀h' tk,(∀b o,b∉wr->s.heap.get? b=some o->h'.get? b=some o)->R (.ok (.ret d)) { s with heap:=h',toks:=tk }) :
  codeAny (model prog w) A (.builtin "min.loop" ⟨[.ref I,.none,.ref S],[(kn,d)]⟩) R s:=by
 refine codeAny_builtin fK ?_
 rw[cH d8 _]
 show wpAny _ A.in1 (seqItems? (.ref S) >>= _) _ _ s
 refine wpAny_bind (wpAny_seqItems hS rfl ?_)
 show wpAny _ A.in1 (tryCatch (pyNext (.ref I)) _ >>= _) _ _ s
 refine wpAny_bind (wpAny_tryCatch (W.done s _ _ (hn ▸ hst) fun h' tk hk'=>?_))
 exact wpAny_bind (wpAny_rule (wpAny_pure (hR h' tk hk')))
theorem z6Z(a v:Value):argsOk "min" ⟨[a],[(Str.ofString "default",v)]⟩:=by unfold argsOk;kernel_rfl
theorem y4B{x d:Value}{s:Shared}{E:Value->Shared->Prop}{Q:Value->Shared->Prop}
  (h:wpAny (model prog w) A.in1 (pyIter x) (fun it s2=>∃I fp wr n P St bt,it=.ref I/\Walks prog w A.in1 I fp wr n P St/\St 0 s2.heap/\(∀b∈fp,b<s2.heap.objs.size)/\CmpOf prog w A.in1 .Lt P bt/\
   (n=0->∀h' tk,(∀b o,b∉wr->s2.heap.get? b=some o->h'.get? b=some o)->Q d { s2 with heap:=h',toks:=tk })/\
   (0<n->∀v h' tk,P (argBest bt (n-1)) v->(∀b o,b∉wr->s2.heap.get? b=some o->h'.get? b=some o)->Q v { s2 with heap:=h',toks:=tk })) E s) :
  wpAny (model prog w) A (call (.builtin "min") [x] [(Str.ofString "default",d)]) Q E s:=by
 have K7:(toString "min"++toString ".loop":String)="min.loop":=by decide
 refine kmk_tree PySem.F.kind_min PySem.F.plain_min PySem.F.entry_min (z6Z _ _) ?_
 show wpAny _ A.in1 (Builtin.Builtins.bindParams "min" ["key","default"] 0 ⟨[],[(Str.ofString "default",d)]⟩ >>= _) _ _ s
 refine wpAny_bind (wpAny_of_eq (show Builtin.Builtins.bindParams "min" ["key","default"] 0 ⟨[],[(Str.ofString "default",d)]⟩=pure [none,some d] from by kernel_rfl) ?_)
 refine wpAny_bind (wpAny_pure ?_)
 refine wpAny_bind (wpAny_mono h (fun it s2 h2=>?_) fun _ _ e=>e)
 obtain⟨I,fp,wr,n,P,St,bt,rfl,W,hst,hfp,P2,hQ0,hQ⟩:=h2
 refine wpAny_bind (wpAny_newObj_type ?_)
 have hSf:s2.heap.objs.size∉fp:=fun hm=>dE _ (hfp _ hm)
 rw[K7]
 refine wpAny_pure ⟨plainId_quiet d8 _,?_⟩
 by_cases hn:n=0
 ·exact y4V W s2.heap.objs.size hSf _ d hn (W.frame _ _ _ hst fun b _ o e=>bB _ e) (bN _ rfl) fun h' tk hk=>hQ0 hn h' tk fun b o hbw e=>hk b o hbw (bB _ e)
 ·exact y38 W bt P2 s2.heap.objs.size hSf _ (gI hn) (W.frame _ _ _ hst fun b _ o e=>bB _ e) (bN _ rfl) fun v h' tk hP hk=>
   hQ (gI hn) v h' tk hP fun b o hbw e=>hk b o hbw (cA (bQ e)) (bB _ e)
end
theorem z8T(f:Nat->Int):∀k,argBest (fun i j=>decide (f i > f j)) k≤k/\∀i,i≤k->f i≤f (argBest (fun i j=>decide (f i > f j)) k)
 | 0=>⟨bH _,fun i hi=>by rw[Nat.le_zero.mp hi];exact eF _⟩
 | k+1=>by
  obtain⟨h1,h2⟩:=z8T f k
  unfold argBest
  by_cases c:f (k+1) > f (argBest (fun i j=>decide (f i > f j)) k)
  ·rw[if_pos (decide_eq_true c)]
   refine⟨bH _,fun i hi=>?_⟩
   by_cases e:i=k+1
   ·rw[e];exact eF _
   ·have:=h2 i (by omega)
    omega
  ·rw[if_neg (by rw[decide_eq_false c];exact bO)]
   refine⟨by omega,fun i hi=>?_⟩
   by_cases e:i=k+1
   ·rw[e];omega
   ·exact h2 i (by omega)
theorem z8X(f:Nat->Int):∀k,argBest (fun i j=>decide (f i<f j)) k≤k/\∀i,i≤k->f (argBest (fun i j=>decide (f i<f j)) k)≤f i
 | 0=>⟨bH _,fun i hi=>by rw[Nat.le_zero.mp hi];exact eF _⟩
 | k+1=>by
  obtain⟨h1,h2⟩:=z8X f k
  unfold argBest
  by_cases c:f (k+1)<f (argBest (fun i j=>decide (f i<f j)) k)
  ·rw[if_pos (decide_eq_true c)]
   refine⟨bH _,fun i hi=>?_⟩
   by_cases e:i=k+1
   ·rw[e];exact eF _
   ·have:=h2 i (by omega)
    omega
  ·rw[if_neg (by rw[decide_eq_false c];exact bO)]
   refine⟨by omega,fun i hi=>?_⟩
   by_cases e:i=k+1
   ·rw[e];omega
   ·exact h2 i (by omega)
section
variable{X:Cx}
def SqI(K:PySem.W.Frag)(H:Hp)(p:Addr)(ns:List Int):Prop:=SqL K H p (ns.map V.int)\/SqT K H p (ns.map V.int)
theorem z34{ns:List Int}{its:List Value}(r:Vals (ns.map V.int) its):∀(i:Nat) (v:Value),its.toArray[i]? = some v->∃t,v=.int (ns.getD i 0) t:=by
 intro i v e
 have e':its[i]? = some v:=by simpa using e
 have hi:i<its.length:=(cC.mp e').1
 have hl:=r.length
 rw[bA] at hl
 obtain⟨u,hu,ru⟩:=r.get (i:=i) (x:=.int (ns.getD i 0)) (by
  rw[bE,bM]
  have:ns[i]? = some ns[i]:=bD (by omega)
  rw[this];rfl)
 rw[e'] at hu
 cases hu
 exact ru
theorem z5N{pins:List (Addr×Obj)}{σ:St}{H:Hp}{s:Shared}{p:Addr}{ns:List Int}{A:Around}{E:Value->Shared->Prop}{Q:Value->Shared->Prop}(I:Inv X pins σ H s)(hh:A.handled=none)(hq:SqI X.K H p ns)
  (h:∀(it:Addr) (fp:List Addr) (St:Nat->Heap->Prop) (its:List Value) (s2:Shared),Vals (ns.map V.int) its->Walks X.prog X.w A it fp [it] its.toArray.size (fun i v=>its.toArray[i]? = some v) St->St 0 s2.heap->(∀b∈fp,b<s2.heap.objs.size)->
   (∀h' tk,(∀b o,b∉[it]->s2.heap.get? b=some o->h'.get? b=some o)->Inv X pins σ H { s2 with heap:=h',toks:=tk })->Q (.ref it) s2) :
  wpAny (model X.prog X.w) A (pyIter (.ref p)) Q E s:=by
 have back:∀(o:Obj) (h':Heap) (tk:Nat),(∀b ob,b∉[s.heap.objs.size]->(s.heap.push o).get? b=some ob->h'.get? b=some ob)->Inv X pins σ H { s with heap:=h',toks:=tk }:=fun o h' tk k=>
  I.kept fun b ob e=>k b ob (fun z=>absurd (bQ e) (by rw[bC.mp z];exact dE _)) (bB _ e)
 rcases hq with hq|hq
 ·obtain⟨its,r,pl,hz⟩:=I.list hq
  have hlt:p<s.heap.objs.size:=by obtain⟨_,e,_⟩:=pl.isList;exact bQ e
  refine wpAny_pyIter_list pl.isList ?_
  refine h s.heap.objs.size [s.heap.objs.size,p] _ its _ r (Walks.list hh s.heap.objs.size p (cA hlt) its.toArray) ⟨⟨_,bN _ rfl,rfl,rfl⟩,pl.isList.push _⟩ (fun b hb=>?_) fun h' tk k=>back _ h' tk k
  show b<(s.heap.push _).objs.size
  rw[fP]
  rcases bF.mp hb with rfl|hb
  ·exact fT _
  ·rw[bC.mp hb];exact eO hlt
 ·obtain⟨its,r,pl,hz⟩:=I.tuple hq
  have hlt:p<s.heap.objs.size:=by obtain⟨_,e,_⟩:=pl;exact bQ e
  refine wpAny_pyIter_tuple (show s.heap.IsTuple p its.toArray from pl) ?_
  refine h s.heap.objs.size [s.heap.objs.size,p] _ its _ r (Walks.tuple hh s.heap.objs.size p (cA hlt) its.toArray) ⟨⟨_,bN _ rfl,rfl,rfl⟩,?_⟩ (fun b hb=>?_) fun h' tk k=>back _ h' tk k
  ·obtain⟨o,e,c⟩:=(show s.heap.IsTuple p its.toArray from pl)
   exact⟨o,bB _ e,c⟩
  ·show b<(s.heap.push _).objs.size
   rw[fP]
   rcases bF.mp hb with rfl|hb
   ·exact fT _
   ·rw[bC.mp hb];exact eO hlt
def y5t(K:PySem.W.Frag)(le:Int->Int->Prop)(ta td:TA):TE:=fun σ H Q=>ta σ H fun xs H1=>td σ H1 fun ds H2=>∃p ns d,xs=[.ref p]/\ds=[d]/\SqI K H2 p ns/\(ns=[]->Q d H2)/\∀m,m∈ns->(∀y∈ns,le y m)->Q (.int m) H2
theorem z73{ns:List Int}{i:Nat}(h:i<ns.length):ns.getD i 0∈ns:=by
 rw[bM,bD h]
 exact dZ h
theorem z72{ns:List Int}{y:Int}(h:y∈ns):∃i,i<ns.length/\ns.getD i 0=y:=by
 obtain⟨i,hi,e⟩:=List.mem_iff_getElem.mp h
 refine⟨i,hi,?_⟩
 rw[bM,bD hi]
 exact e
theorem y3g{e:Expr}{p pos kp:Pos}{dx:Expr}{ta td:TA}(hc:X.calm=true)(hg:Gl X "max")(hm:X.mg "max"=none)(ha:PA X [e] ta)(hd:PK X [⟨some (Str.ofString "default"),dx,kp⟩] td)
  (he:backTo pos (starEach [e] X.env)=(false,eval e X.env)::backTo pos (starEach [] X.env):=by rfl)
  (P7:(backTo pos (starEach [e] X.env)).any (·.1)=false:=by rfl)
  (B7:(backToKw pos (keywordEach [⟨some (Str.ofString "default"),dx,kp⟩] X.env)).all (·.1.isSome)=true:=by rfl)
  (hkw:(backToKw pos (keywordEach [⟨some (Str.ofString "default"),dx,kp⟩] X.env)).any (·.1.isNone)=false:=by rfl) :
  PE X (.Call (.Name "max" p) [e] [⟨some (Str.ofString "default"),dx,kp⟩] pos) (y5t X.K (fun y m=>y≤m) ta td):=by
 intro pins s σ H Q I h
 refine wpAny_Call_Name_kw (z4L I hg hm dQ ?_)
 refine PyProof.Rows.callWith_kw (thn (ha pos pins s σ H _ I h) fun us s1 ⟨vs,H1,I1,r,q⟩=>?_) he P7 B7 hkw
 refine thn (hd pos pins s1 σ H1 _ I1 q) fun ws s2 ⟨zs,H2,I2,rz,q2⟩=>?_
 obtain⟨a,ns,d,e1,e2,hq,q0,q1⟩:=q2
 subst e1 e2
 obtain⟨u,rfl,ru⟩:=z4F r
 cases ru
 obtain⟨dv,rfl,rd⟩:=z4F rz
 show wpAny _ X.A (call (.builtin "max") [.ref a] [(Str.ofString "default",dv)]) _ _ _
 refine y4b (z5N (A:=X.A.in1) I2 (I2.ok.hd hc) hq fun it fp St its s3 rv W st hfp back=>?_)
 have hl:=rv.length
 rw[bA] at hl
 refine⟨it,fp,[it],_,_,St,_,rfl,W,st,hfp,CmpOf.ints_gt (fun i=>ns.getD i 0) (z34 rv),fun hn h' tk k=>?_,fun hn v h' tk hv k=>?_⟩
 ·rw[bK] at hn
  exact⟨d,H2,back h' tk k,rd,q0 (dI (by omega))⟩
 ·rw[bK] at hn hv
  obtain⟨t,rfl⟩:=z34 rv _ _ hv
  obtain⟨b1,b2⟩:=z8T (fun i=>ns.getD i 0) (its.length-1)
  refine⟨.int _,H2,back h' tk k,⟨t,rfl⟩,q1 _ (z73 (by omega)) fun y hy=>?_⟩
  obtain⟨i,hi,rfl⟩:=z72 hy
  exact b2 i (by omega)
theorem y3U{e:Expr}{p pos kp:Pos}{dx:Expr}{ta td:TA}(hc:X.calm=true)(hg:Gl X "min")(hm:X.mg "min"=none)(ha:PA X [e] ta)(hd:PK X [⟨some (Str.ofString "default"),dx,kp⟩] td)
  (he:backTo pos (starEach [e] X.env)=(false,eval e X.env)::backTo pos (starEach [] X.env):=by rfl)
  (P7:(backTo pos (starEach [e] X.env)).any (·.1)=false:=by rfl)
  (B7:(backToKw pos (keywordEach [⟨some (Str.ofString "default"),dx,kp⟩] X.env)).all (·.1.isSome)=true:=by rfl)
  (hkw:(backToKw pos (keywordEach [⟨some (Str.ofString "default"),dx,kp⟩] X.env)).any (·.1.isNone)=false:=by rfl) :
  PE X (.Call (.Name "min" p) [e] [⟨some (Str.ofString "default"),dx,kp⟩] pos) (y5t X.K (fun y m=>m≤y) ta td):=by
 intro pins s σ H Q I h
 refine wpAny_Call_Name_kw (z4L I hg hm fQ ?_)
 refine PyProof.Rows.callWith_kw (thn (ha pos pins s σ H _ I h) fun us s1 ⟨vs,H1,I1,r,q⟩=>?_) he P7 B7 hkw
 refine thn (hd pos pins s1 σ H1 _ I1 q) fun ws s2 ⟨zs,H2,I2,rz,q2⟩=>?_
 obtain⟨a,ns,d,e1,e2,hq,q0,q1⟩:=q2
 subst e1 e2
 obtain⟨u,rfl,ru⟩:=z4F r
 cases ru
 obtain⟨dv,rfl,rd⟩:=z4F rz
 show wpAny _ X.A (call (.builtin "min") [.ref a] [(Str.ofString "default",dv)]) _ _ _
 refine y4B (z5N (A:=X.A.in1) I2 (I2.ok.hd hc) hq fun it fp St its s3 rv W st hfp back=>?_)
 have hl:=rv.length
 rw[bA] at hl
 refine⟨it,fp,[it],_,_,St,_,rfl,W,st,hfp,CmpOf.ints_lt (fun i=>ns.getD i 0) (z34 rv),fun hn h' tk k=>?_,fun hn v h' tk hv k=>?_⟩
 ·rw[bK] at hn
  exact⟨d,H2,back h' tk k,rd,q0 (dI (by omega))⟩
 ·rw[bK] at hn hv
  obtain⟨t,rfl⟩:=z34 rv _ _ hv
  obtain⟨b1,b2⟩:=z8X (fun i=>ns.getD i 0) (its.length-1)
  refine⟨.int _,H2,back h' tk k,⟨t,rfl⟩,q1 _ (z73 (by omega)) fun y hy=>?_⟩
  obtain⟨i,hi,rfl⟩:=z72 hy
  exact b2 i (by omega)
def R0(i:Int)(n:Nat):List V:=(List.range n).map fun(k:Nat)=>V.int (i+(k:Int))
theorem y3c:z3F X (.type "range") (fun xs H Q=>∃i j,xs=[.int i,.int j]/\∀p,H p=none->Q (.ref p) (upd H p (.rng i j))):=by
 intro pins s σ H xs us Q I r h
 obtain⟨i,j,rfl,q⟩:=h
 obtain⟨u,w',rfl,⟨t,rfl⟩,⟨t',rfl⟩⟩:=y2r r
 refine call_range_2 ?_
 refine⟨.ref s.heap.objs.size,_,I.laid (fun b o e=>bB _ e) (bH _) (show z1y X.prog X.w _ _ _ (.rng i j) from⟨t,t',s.toks,bN _ rfl⟩),rfl,q _ (I.hok.fresh (bH _))⟩
theorem z98{prog:Program}{w:World}{A:Around}{E:Value->Shared->Prop}{s:Shared}{Q:List Value->Shared->Prop}{r:Addr}{a b c:Int}{t u v:Tok}{n:Nat}(hh:A.handled=none)(hr:IsRange s.heap r a b c t u v)(S9:Builtin.Range.small a b c=true)
  (hn:Builtin.Range.rangeSize a b c=n) (hlen:n≤2^24)
  (hQ:∀h' tk acc,(∀b o,s.heap.get? b=some o->h'.get? b=some o)->ItemsOf (fun i v=>∃t,v=.int (a+i*c) t) acc n->Q acc.toList { s with heap:=h',toks:=tk }) :
  wpAny (model prog w) A (collect (.ref r)) Q E s:=by
 unfold collect
 refine wpAny_bind (wpAny_runValue (codeAny_builtin PySem.F.entry_proto_collect ?_))
 rw[cH PySem.F.plain_proto_collect _]
 show wpAny _ A.in1 (newList [] >>= fun l=>again (.builtin "list.__iadd__" ⟨[l,.ref r],[]⟩)) _ _ s
 refine wpAny_bind (wpAny_newObj_type ?_)
 refine wpAny_pure ⟨plainId_quiet fB _,codeAny_builtin PySem.F.entry_list_iadd ?_⟩
 rw[cH fB _]
 show wpAny _ A.in1 (Builtin.List.listExtendWith (.ref s.heap.objs.size) (.ref r) (.ref s.heap.objs.size)) _ _ _
 have hS:(s.heap.push { cls:=.type "list",data:=.seq ([]:List Value).toArray }).get? s.heap.objs.size=some { cls:=.type "list",data:=.seq #[] 0 }:=bN _ rfl
 have fin:∀(r':Result) (s':Shared),(∃h' tk acc c',r'=.ok (.ret (.ref s.heap.objs.size))/\s'={ s with heap:=h',toks:=tk }/\(∀b o,s.heap.get? b=some o->h'.get? b=some o)/\
   h'.get? s.heap.objs.size=some { cls:=.type "list",dict:=none,data:=.seq acc c',slots:=#[] }/\ItemsOf (fun i v=>∃t,v=.int (a+i*c) t) acc n)->
   match r' with
   | Except.ok (Flow.ret v)=>wpAny (model prog w) A (match v with
     | Value.ref a=>do
      match (<- load a).data with
       | Data.seq xs _=>pure xs.toList
       | _=>unsupported "internal:collect"
     | _=>unsupported "internal:collect") Q E s'
   | Except.ok _=>False
   | Except.error e=>E e s':=by
  rintro r' s' ⟨h',tk,acc,c',rfl,rfl,hk,hS',hacc⟩
  show wpAny _ A (load s.heap.objs.size >>= _) _ _ _
  refine wpAny_bind (wpAny_load hS' ?_)
  exact wpAny_pure (hQ h' tk acc hk hacc)
 refine wpAny_mono (wpAny_extend_range (A:=A) (R:=fun r' s'=>∃h' tk acc c',r'=.ok (.ret (.ref s.heap.objs.size))/\s'={ s with heap:=h',toks:=tk }/\(∀b o,s.heap.get? b=some o->h'.get? b=some o)/\
   h'.get? s.heap.objs.size=some { cls:=.type "list",dict:=none,data:=.seq acc c',slots:=#[] }/\ItemsOf (fun i v=>∃t,v=.int (a+i*c) t) acc n)
  (s:={ s with heap:=s.heap.push { cls:=.type "list",data:=.seq ([]:List Value).toArray } }) hh (bB _ hr) S9 hn hlen s.heap.objs.size _ 0 hS
  fun h' tk acc c' hk hS' hacc=>⟨h',tk,acc,c',rfl,rfl,fun b o e=>hk b o (cA (bQ e)) (bB _ e),hS',hacc⟩) (fun f s' h=>?_) (fun e s' h=>?_)
 ·cases f with
  | done f=>exact fin _ _ h
  | again c'=>exact⟨h.1,codeAny_mono h.2 fun r' s'' hr'=>fin _ _ hr'⟩
 ·obtain⟨_,_,_,_,e,_⟩:=h
  cases e
theorem z7I(r:Addr)(a b:Int)(t u v:Tok)(n:Nat)(S9:Builtin.Range.small a b 1=true)(hn:Builtin.Range.rangeSize a b 1=n)(hlen:n≤2^24) :
  Meets (Builtin.«tuple.__new__» ⟨[.type "tuple",.ref r],[]⟩)
   (fun A R s=>A.handled=none/\IsRange s.heap r a b 1 t u v/\∀(h':Heap) (tk:Nat) (acc:Array Value),(∀b o,s.heap.get? b=some o->h'.get? b=some o)->ItemsOf (fun i v=>∃t,v=.int (a+i*1) t) acc n->
    R (.ok (.ret (.ref h'.objs.size))) { s with heap:=h'.push { cls:=.type "tuple",data:=.seq acc },toks:=tk }):=
 .of_wp fun prog w A R s h=>by
  obtain⟨hp,g,d,tk0,os⟩:=s
  obtain⟨hh,hr,h⟩:=h
  have hsub:=sub_tuple_self
  have hinit:=init_tuple_lookup
  have hmh:=madeHere_tuple
  have hT:Shared.TypeIs ⟨hp,g,d,tk0,os⟩ (.ref r) "range":=⟨_,hr,rfl⟩
  have hh1:A.in1.handled=none:=hh
  wp_walk using wpAny_typeOf hT,z98 hh1 hr S9 hn hlen
  intro h' tk acc hk hacc
  show wpAny _ _ (Builtin.Tuple.tupleExact acc.toList.toArray >>= fun v=>ret v) _ _ _
  unfold Builtin.Tuple.tupleExact
  refine wpAny_bind (wpAny_newObj_type ?_ (show acc.toList.toArray.size≤sizeLine by simp only[Array.toArray_toList];rw[hacc.1,sizeLine_eq];omega))
  refine wpAny_pure ⟨_,rfl,?_⟩
  have e:acc.toList.toArray=acc:=by simp
  rw[e]
  exact h h' tk acc hk hacc
theorem y4n{a:Int}{acc:Array Value}{n:Nat}(h:ItemsOf (fun i v=>∃t,v=Value.int (a+(i:Int)*1) t) acc n):Vals (R0 a n) acc.toList:=by
 have go:∀(l:List Value) (k:Nat),(∀(j:Nat) (v:Value),l[j]? = some v->∃t,v=Value.int (a+((k+j:Nat):Int)) t)->Vals ((List.range' k l.length).map fun(j:Nat)=>V.int (a+(j:Int))) l:=by
  intro l
  induction l with
  | nil=>intro k _;exact .nil
  | cons x r ih=>
   intro k hx
   rw[cB,List.range'_succ,cL]
   refine .cons ?_ (ih (k+1) fun j v e=>?_)
   ·obtain⟨t,e⟩:=hx 0 x rfl
    exact⟨t,e⟩
   ·obtain⟨t,e'⟩:=hx (j+1) v (by simpa using e)
    refine⟨t,e'.trans ?_⟩
    congr 1
    omega
 have q:=go acc.toList 0 fun j v e=>by
  obtain⟨t,e'⟩:=h.2 j v (by simpa using e)
  exact⟨t,by rw[e'];congr 1;first|done|omega⟩
 unfold R0
 rw[List.range_eq_range']
 have hn:acc.toList.length=n:=by simpa using h.1
 rw[hn] at q
 exact q
theorem z8h(hc:X.calm=true):z3F X (.type "tuple") (fun xs H Q=>∃p i j,xs=[.ref p]/\H p=some (.rng i j)/\(-(2^62)≤i/\i<2^62/\-(2^62)≤j/\j<2^62)/\(j-i).toNat≤2^24/\
  ∀l,H l=none->Q (.ref l) (upd H l (.tup (R0 i (j-i).toNat)))):=by
 intro pins s σ H xs us Q I r h
 obtain⟨p,i,j,rfl,hp,⟨h1,h2,h3,h4⟩,hlen,q⟩:=h
 obtain⟨u,rfl,rx⟩:=z4F r
 cases rx
 obtain⟨t,u',v,e⟩:=(show z1y X.prog X.w H s.heap p (.rng i j) from I.hok p _ hp)
 have hn:Builtin.Range.rangeSize i j 1=(((j-i).toNat:Nat):Int):=by rw[rangeSize_one];split<;>omega
 refine callType_new PySem.F.called_tuple (by decide) (PySem.F.typeCall_tuple_1 _) (PySem.F.newCall_tuple_1 _) (fun obj=>PySem.F.args_object_init_2 obj _) PySem.F.entry_tuple_new
  (z7I p i j t u' v _ (small_one h1 h2 h3 h4) hn hlen) ⟨I.ok.hd hc,e,fun h' tk acc hk hacc=>⟨⟨_,bN _ rfl,rfl⟩,?_⟩⟩
 have I1:Inv X pins σ H { s with heap:=h',toks:=tk }:=I.kept hk
 have z:(R0 i (j-i).toNat).length≤sizeLine:=by unfold R0;rw[bA,fM,sizeLine_eq];omega
 have I2:Inv X pins σ (upd H h'.objs.size (.tup (R0 i (j-i).toNat))) { s with heap:=h'.push { cls:=.type "tuple",data:=.seq acc },toks:=tk }:=
  I1.laid (t':=tk) (fun b o e=>bB _ e) (bH _) (show z1y X.prog X.w _ _ _ (.tup _) from⟨z,acc.toList,y4n hacc,by simpa using PlT.new h' acc⟩)
 exact⟨.ref h'.objs.size,_,I2,rfl,q _ (I1.hok.fresh (bH _))⟩
theorem z7E:z3F X (.builtin "sorted") (fun xs H Q=>∃(p:Addr) (ns:List Int),xs=[.ref p]/\SqL X.K H p (ns.map V.int)/\ns.length<64/\
  ∀(l:Addr) (ns':List Int),H l=none->ns'.Perm ns->ns'.Pairwise (·≤·)->Q (.ref l) (upd H l (.lst (ns'.map V.int)))):=by
 intro pins s σ H xs us Q I r h
 obtain⟨p,ns,rfl,hq,h64,q⟩:=h
 obtain⟨u,rfl,rx⟩:=z4F r
 cases rx
 obtain⟨its,rv,pl,hz⟩:=I.list hq
 have hl:=rv.length
 rw[bA] at hl hz
 refine sorted_ints pl.isList (y1Z rv) (by omega) fun out ns' a1 a2 a3=>?_
 obtain⟨e,he⟩:=sortedAll_at s.heap its out
 have hlen:=a2.length_eq
 refine⟨.ref (s.heap.objs.size+1),_,I.laid (t':=s.toks) (fun b o e=>sortedAll_old e) (fW _) (show z1y X.prog X.w _ _ _ (.lst (ns'.map V.int)) from⟨?_,out.toList,e,z5K a1,?_⟩),rfl,q _ ns' (I.hok.fresh (fW _)) a2 a3⟩
 ·rw[bA,hlen];exact hz
 ·simpa using he
def Itd(hi:Int)(n:Nat):It:=⟨fun i _=>i<n,fun i H x H'=>H'=H/\x=.int (hi-i),fun i _=>n≤i⟩
theorem y3j{P:Program}{w:World}{K:PySem.W.Frag}{tg:Expr}(it:Addr)(hi:Int)(n:Nat):Turn P w K tg (Itd hi n) [it] it (fun i h=>IsRangeIter h it (hi+(i:Nat)*(-1)) ((n:Int)-(i:Nat)) (-1)) where
 mem:=by simp
 obj:=fun i h st b hb=>by
  have e:b=it:=by simpa using hb
  subst e
  exact⟨_,st,fun v z=>by
   have z':Data.fields _=Data.cell v:=z
   cases z'⟩
 keep:=fun i h h' st k=>k it (by simp) _ st
 item:=by
  intro X hP hw hK hc i pins s σ H E I hf st hg
  subst hP hw hK
  obtain⟨f0,f1,f2,f3,f4,f5⟩:=hf it (by simp)
  have W:=Walks.range (prog:=X.prog) (w:=X.w) (I.ok.hd hc) it hi (-1) n
  refine W.item i s _ _ hg st fun v h' tk hv st' kk=>?_
  obtain⟨t,rfl⟩:=hv
  have I1:Inv X pins σ H { s with heap:=h',toks:=tk }:=I.turned (fun b o hb e=>kk b o (by simpa using hb) e) f0 f1 f3 f4 f5
  refine⟨_,rfl,y1C (s:={ s with heap:=h',toks:=tk }) (n:="range_iterator") st' rfl rfl (by decide) ⟨.int (hi-i),H,I1,⟨t,?_⟩,⟨rfl,rfl⟩,st',fun b hb=>(hf b hb).1⟩⟩
  congr 1
  omega
 done:=by
  intro X hP hw hK hc i pins s σ H E I hf st hg
  subst hP hw hK
  obtain⟨f0,f1,f2,f3,f4,f5⟩:=hf it (by simp)
  exact wpAny_pyNext_range_end (I.ok.hd hc) st (by have:n≤i:=hg;omega) fun h' eb=>⟨rfl,I.turned (t':=s.toks) (fun b o hb e=>eb b o hb e) f0 f1 f3 f4 f5⟩
 self:=fun _ _ _ _ _ st h=>wpAny_pyIter_rangeiter st h
theorem z4H(a b:Int):Builtin.Range.rangeSize a b (-1)=(((a-b).toNat:Nat):Int):=by
 unfold Builtin.Range.rangeSize
 rw[if_neg (by decide)]
 by_cases h:a > b
 ·rw[if_pos h]
  have e:(a-b-1) / (- -1)=a-b-1:=by
   show(a-b-1) / 1=_
   exact Int.ediv_one _
  rw[e]
  omega
 ·rw[if_neg h]
  omega
theorem y1H{a b:Int}(ha:-(2^62)≤a)(ha':a<2^62)(hb:-(2^62)≤b)(hb':b<2^62):Builtin.Range.small a b (-1)=true:=by
 unfold Builtin.Range.small
 rw[z4H]
 simp only[Builtin.Range.rangeFitsLong,bW,gC,decide_eq_true_eq,beq_iff_eq]
 refine⟨?_,?_⟩<;>first|omega|(split<;>omega)|(simp<;>omega)
end
section
variable{X:Cx}{tg:Expr}
def w0x(ta:TA):TI:=fun σ H R=>ta σ H fun vs H1=>∃i j:Int,vs=[.int i,.int j,.int (-1)]/\(-(2^62)≤i/\i<2^62/\-(2^62)≤j/\j<2^62)/\R (Itd i (i-j).toNat) H1
theorem y2z{a b c:Expr}{ta:TA}{p pos:Pos}(hg:Gl X "range")(hm:X.mg "range"=none)(ha:PA X [a,b,c] ta)
  (hs:starEach [a,b,c] X.env=[(false,eval a X.env),(false,eval b X.env),(false,eval c X.env)]:=by rfl) (hs2:starEach [b,c] X.env=[(false,eval b X.env),(false,eval c X.env)]:=by rfl) :
  PI X tg (.Call (.Name "range" p) [a,b,c] [] pos) (w0x ta):=by
 intro pins s σ H R I h
 refine Call_ (z4L I hg hm boot_range (dC (thn (ha pos pins s σ H _ I h) fun us s1 ⟨vs,H1,I1,r1,q1⟩=>?_) (by rw[hs,hs2]) (by rw[hs2];rfl)))
 obtain⟨i,j,e,⟨q1,q2,q3,q4⟩,q⟩:=q1
 subst e
 cases r1 with
 | cons r rr=>
  cases rr with
  | cons r' rr=>
   cases rr with
   | cons r'' rr=>
    cases rr
    obtain⟨t,rfl⟩:=r
    obtain⟨t',rfl⟩:=r'
    obtain⟨t'',rfl⟩:=r''
    refine call_range_3 (by decide) ?_ (.inl (gT (by decide)))
    refine wpAny_pyIter_range (IsRange.new ..) (y1H q1 q2 q3 q4) ?_
    have I2:Inv X pins σ H1 { s1 with heap:=s1.heap.push { cls:=.type "range",data:=.fields #[.int i t,.int j t',.int (-1) t''] },toks:=s1.toks }:=I1.kept fun b o e=>bB _ e
    refine⟨(s1.heap.push { cls:=.type "range",data:=.fields #[.int i t,.int j t',.int (-1) t''] }).objs.size,[(s1.heap.push { cls:=.type "range",data:=.fields #[.int i t,.int j t',.int (-1) t''] }).objs.size],_,_,H1,rfl,
     I2.kept (t':=s1.toks) fun b o e=>bB _ e,y3j _ i (i-j).toNat,?_,fun b hb=>?_,q⟩
    ·have e1:i+((0:Nat):Int)*(-1)=i:=by simp
     have e2:(((i-j).toNat:Nat):Int)-((0:Nat):Int)=Builtin.Range.rangeSize i j (-1):=by rw[z4H];omega
     show IsRangeIter _ _ (i+((0:Nat):Int)*(-1)) ((((i-j).toNat:Nat):Int)-((0:Nat):Int)) (-1)
     rw[e1,e2]
     exact bN _ rfl
    ·have e:b=(s1.heap.push { cls:=.type "range",data:=.fields #[.int i t,.int j t',.int (-1) t''] }).objs.size:=by simpa using hb
     subst e
     exact I2.Q2 (bH _) (I2.hok.fresh (bH _))
end
theorem y4h{hi:Int}{n:Nat}{g:TG}{tb:TS}{D:Ends}{σ:St}{H:Hp}(Pv:Nat->St->Hp->Prop)(h0:Pv 0 σ H)
  (hs:∀i σ H,i<n->Pv i σ H->g (.int (hi-i)) σ H fun σ2 H2=>tb { D with nx:=Pv (i+1),ct:=Pv (i+1),bk:=D.nx } σ2 H2) (hd:∀σ H,Pv n σ H->D.nx σ H) :
  ∃W:Nat->Nat->St->Hp->Prop,(∃m,W 0 m σ H)/\∀i m σ H,W i m σ H->
   ((Itd hi n).stop i H/\D.nx σ H)\/((Itd hi n).go i H/\∃N:St->Hp->Prop,(∀σ' H',N σ' H'->∃m',m'<m/\W (i+1) m' σ' H')/\∀x H',(Itd hi n).yld i H x H'->g x σ H' fun σ2 H2=>tb { D with nx:=N,ct:=N,bk:=D.nx } σ2 H2):=by
 refine⟨fun i m σ H=>m=n-i/\i≤n/\Pv i σ H,⟨n,by simp,cT _,h0⟩,?_⟩
 rintro i m σ H ⟨rfl,hi',p⟩
 by_cases hlt:i<n
 ·refine .inr ⟨hlt,Pv (i+1),fun σ' H' p'=>⟨n-(i+1),by omega,rfl,hlt,p'⟩,fun x H' y=>?_⟩
  obtain⟨e,y⟩:=y
  subst e y
  exact hs i σ _ hlt p
 ·have e:i=n:=by omega
  subst e
  exact .inl ⟨bH _,hd σ H p⟩
abbrev z9x(J:It)(g:TG)(tc:TT)(te:TE)(σ0:St)(H1:Hp)(F:List V->Hp->Prop):Prop:=
 ∃W:Nat->Nat->List V->Hp->Prop,(∃m,W 0 m [] H1)/\∀i m ys H,W i m ys H->
  (J.stop i H/\F ys H)\/(J.go i H/\ys.length<sizeLine/\∃N:List V->Hp->Prop,(∀zs H',N zs H'->∃m',m'<m/\W (i+1) m' zs H')/\
   ∀x H',J.yld i H x H'->z1E g tc te σ0 x H' ys N)
theorem z3w{K:PySem.W.Frag}{a:Addr}{xs:List V}{g:TG}{tc:TT}{te:TE}{σ0:St}{H1:Hp}{F:List V->Hp->Prop}(Pv:Nat->List V->Hp->Prop)(h0:Pv 0 [] H1)
  (hl:∀i ys H,i≤xs.length->Pv i ys H->SqL K H a xs/\ys.length<sizeLine)
  (hs:∀i x ys H,xs[i]? = some x->Pv i ys H->z1E g tc te σ0 x H ys (Pv (i+1))) (hd:∀ys H,Pv xs.length ys H->F ys H):z9x (Itl K a) g tc te σ0 H1 F:=by
 refine⟨fun i m ys H=>m=xs.length-i/\i≤xs.length/\Pv i ys H,⟨xs.length,by simp,cT _,h0⟩,?_⟩
 rintro i m ys H ⟨rfl,hi,p⟩
 obtain⟨q,z⟩:=hl i ys H hi p
 by_cases hlt:i<xs.length
 ·refine .inr ⟨⟨xs,xs[i],q,by simp[hlt]⟩,z,Pv (i+1),fun zs H' p'=>⟨xs.length-(i+1),by omega,rfl,hlt,p'⟩,fun x H' y=>?_⟩
  obtain⟨e,y⟩:=y
  subst e
  exact hs i x ys _ (y xs q) p
 ·have e:i=xs.length:=by omega
  subst e
  exact .inl ⟨⟨xs,q,bH _⟩,hd ys H p⟩
theorem z1u{K:PySem.W.Frag}{a:Addr}{xs:List V}{g:TG}{tc:TT}{te:TE}{σ0:St}{H1:Hp}{F:List V->Hp->Prop}(Pv:Nat->List V->Hp->Prop)(h0:Pv 0 [] H1)
  (hl:∀i ys H,i≤xs.length->Pv i ys H->SqT K H a xs/\ys.length<sizeLine)
  (hs:∀i x ys H,xs[i]? = some x->Pv i ys H->z1E g tc te σ0 x H ys (Pv (i+1))) (hd:∀ys H,Pv xs.length ys H->F ys H):z9x (Itt K a) g tc te σ0 H1 F:=by
 refine⟨fun i m ys H=>m=xs.length-i/\i≤xs.length/\Pv i ys H,⟨xs.length,by simp,cT _,h0⟩,?_⟩
 rintro i m ys H ⟨rfl,hi,p⟩
 obtain⟨q,z⟩:=hl i ys H hi p
 by_cases hlt:i<xs.length
 ·refine .inr ⟨⟨xs,xs[i],q,by simp[hlt]⟩,z,Pv (i+1),fun zs H' p'=>⟨xs.length-(i+1),by omega,rfl,hlt,p'⟩,fun x H' y=>?_⟩
  obtain⟨e,y⟩:=y
  subst e
  exact hs i x ys _ (y xs q) p
 ·have e:i=xs.length:=by omega
  subst e
  exact .inl ⟨⟨xs,q,bH _⟩,hd ys H p⟩
theorem z8A{lo:Int}{n:Nat}{g:TG}{tc:TT}{te:TE}{σ0:St}{H1:Hp}{F:List V->Hp->Prop}(Pv:Nat->List V->Hp->Prop)(h0:Pv 0 [] H1)
  (hl:∀i ys H,i≤n->Pv i ys H->ys.length<sizeLine)
  (hs:∀i ys H,i<n->Pv i ys H->z1E g tc te σ0 (.int (lo+i)) H ys (Pv (i+1))) (hd:∀ys H,Pv n ys H->F ys H):z9x (Itr lo n) g tc te σ0 H1 F:=by
 refine⟨fun i m ys H=>m=n-i/\i≤n/\Pv i ys H,⟨n,by simp,cT _,h0⟩,?_⟩
 rintro i m ys H ⟨rfl,hi,p⟩
 have z:=hl i ys H hi p
 by_cases hlt:i<n
 ·refine .inr ⟨hlt,z,Pv (i+1),fun zs H' p'=>⟨n-(i+1),by omega,rfl,hlt,p'⟩,fun x H' y=>?_⟩
  obtain⟨e,y⟩:=y
  subst e y
  exact hs i ys _ hlt p
 ·have e:i=n:=by omega
  subst e
  exact .inl ⟨bH _,hd ys H p⟩
def z2H{α:Type}(p:α->Bool)(f:α->V)(zs:List α):List V:=(zs.filter p).map f
theorem z67{α:Type}(p:α->Bool)(f:α->V)(zs:List α)(z:α):z2H p f (zs++[z])=if p z=true then z2H p f zs++[f z] else z2H p f zs:=by
 unfold z2H
 rw[dJ,bG]
 cases h:p z<;>simp[h]
theorem z9j{α:Type}(p:α->Bool)(f:α->V)(zs:List α):(z2H p f zs).length≤zs.length:=by
 unfold z2H
 rw[bA]
 exact cI _ _
theorem z0j{α:Type}{zs:List α}{i:Nat}{z:α}(h:zs[i]? = some z):zs.take (i+1)=zs.take i++[z]:=by
 rw[dW,h]
 rfl
theorem y0a{K:PySem.W.Frag}{a:Addr}{ns:List Int}{g:TG}{tc:TT}{te:TE}{σ0:St}{H1:Hp}{F:List V->Hp->Prop}(p:Int->Bool)(f:Int->V)(hq:SqL K H1 a (ns.map V.int))(hz:ns.length≤1000)
  (hs:∀n ys N,n∈ns->N (if p n=true then ys++[f n] else ys) H1->z1E g tc te σ0 (.int n) H1 ys N) (hd:F (z2H p f ns) H1):z9x (Itl K a) g tc te σ0 H1 F:=by
 refine z3w (xs:=ns.map V.int) (fun i ys H=>H=H1/\ys=z2H p f (ns.take i)) ⟨rfl,rfl⟩ (fun i ys H hi hp=>?_) (fun i x ys H hx hp=>?_) (fun ys H hp=>?_)
 ·obtain⟨rfl,rfl⟩:=hp
  refine⟨hq,z0f ?_⟩
  have h1:=z9j p f (ns.take i)
  have h2:=List.length_take_le i ns
  have h3:(ns.take i).length≤ns.length:=by rw[bI];omega
  omega
 ·obtain⟨rfl,rfl⟩:=hp
  rw[bE] at hx
  cases e:ns[i]? with
  | none=>rw[e] at hx;cases hx
  | some n=>
   rw[e] at hx
   cases hx
   refine hs n _ _ (bV e) ⟨rfl,?_⟩
   rw[z0j e,z67]
 ·obtain⟨rfl,rfl⟩:=hp
  rw[bA,bP]
  exact hd
theorem z8G{K:PySem.W.Frag}{a:Addr}{ns:List Int}{g:TG}{tc:TT}{te:TE}{σ0:St}{H1:Hp}{F:List V->Hp->Prop}(p:Int->Bool)(f:Int->V)(hq:SqT K H1 a (ns.map V.int))(hz:ns.length≤1000)
  (hs:∀n ys N,n∈ns->N (if p n=true then ys++[f n] else ys) H1->z1E g tc te σ0 (.int n) H1 ys N) (hd:F (z2H p f ns) H1):z9x (Itt K a) g tc te σ0 H1 F:=by
 refine z1u (xs:=ns.map V.int) (fun i ys H=>H=H1/\ys=z2H p f (ns.take i)) ⟨rfl,rfl⟩ (fun i ys H hi hp=>?_) (fun i x ys H hx hp=>?_) (fun ys H hp=>?_)
 ·obtain⟨rfl,rfl⟩:=hp
  refine⟨hq,z0f ?_⟩
  have h1:=z9j p f (ns.take i)
  have h3:(ns.take i).length≤ns.length:=by rw[bI];omega
  omega
 ·obtain⟨rfl,rfl⟩:=hp
  rw[bE] at hx
  cases e:ns[i]? with
  | none=>rw[e] at hx;cases hx
  | some n=>
   rw[e] at hx
   cases hx
   refine hs n _ _ (bV e) ⟨rfl,?_⟩
   rw[z0j e,z67]
 ·obtain⟨rfl,rfl⟩:=hp
  rw[bA,bP]
  exact hd
def upI(lo:Int)(n:Nat):List Int:=(List.range n).map fun(k:Nat)=>lo+(k:Int)
theorem z4t(lo:Int)(n:Nat):upI lo (n+1)=upI lo n++[lo+(n:Int)]:=by
 unfold upI
 rw[List.range_succ,bG]
 rfl
theorem z0Q(lo:Int)(n:Nat):(upI lo n).length=n:=by unfold upI;rw[bA,fM]
theorem z0U{lo:Int}{n:Nat}{x:Int}:x∈upI lo n↔lo≤x/\x<lo+n:=by
 unfold upI
 rw[cK]
 constructor
 ·rintro⟨k,hk,rfl⟩
  have:=fO.mp hk
  omega
 ·rintro⟨h1,h2⟩
  exact⟨(x-lo).toNat,fO.mpr (by omega),by omega⟩
theorem z9t{lo:Int}{n:Nat}{g:TG}{tc:TT}{te:TE}{σ0:St}{H1:Hp}{F:List V->Hp->Prop}(p:Int->Bool)(f:Int->V)(hz:n≤1000)
  (hs:∀k ys N,lo≤k->k<lo+n->N (if p k=true then ys++[f k] else ys) H1->z1E g tc te σ0 (.int k) H1 ys N) (hd:F (z2H p f (upI lo n)) H1):z9x (Itr lo n) g tc te σ0 H1 F:=by
 refine z8A (fun i ys H=>H=H1/\ys=z2H p f (upI lo i)) ⟨rfl,rfl⟩ (fun i ys H hi hp=>?_) (fun i ys H hx hp=>?_) (fun ys H hp=>?_)
 ·obtain⟨rfl,rfl⟩:=hp
  have h1:=z9j p f (upI lo i)
  rw[z0Q] at h1
  exact z0f (by omega)
 ·obtain⟨rfl,rfl⟩:=hp
  refine hs _ _ _ (by omega) (by omega) ⟨rfl,?_⟩
  rw[z4t,z67]
 ·obtain⟨rfl,rfl⟩:=hp
  exact hd
section
variable{X:Cx}
theorem z0H:z3F X (.builtin "isinstance") (fun xs H Q=>∃x T t b,xs=[x,.ty T]/\O0 X.K H x t/\PySem.W.kitOne X.K t (.type T)=some b/\Q (.bl b) H):=by
 intro pins s σ H xs us Q I r h
 obtain⟨x,T,t,b,rfl,ty,e,q⟩:=h
 obtain⟨u,w',rfl,rx,ry⟩:=y2r r
 cases (show w'=Value.type T from ry)
 exact y3X I rx ty e fun tk=>⟨.bl b,H,I.tok _,rfl,q⟩
theorem y6u(hu:X.A.units<cLine):OpR X (compareOp .NotEq) (fun x y H Q=>∃a b xs,x=.ref a/\y=.ref b/\SqL X.K H a xs/\SqL X.K H b []/\Q (.bl (!xs.isEmpty)) H):=by
 intro pins s σ H x y v u Q I rx ry h
 obtain⟨a,b,xs,rfl,rfl,ha,hb,q⟩:=h
 cases rx
 cases ry
 obtain⟨its,r,pl,hz⟩:=I.list ha
 obtain⟨K8,r2,pl2,hz2⟩:=I.list hb
 cases r2
 have hl:=r.length
 cases xs with
 | nil=>
  cases r
  exact SeqAt.RcNeAt.lists (e:=fun _=>true) pl.isList pl2.isList rfl hu (fun j h1 _=>absurd h1 (gD _)) X.prog X.w X.xe _ ⟨.bl false,H,I,rfl,q⟩
 | cons x0 xr=>
  refine SeqAt.RcNeAt.lists_lengths pl.isList pl2.isList ?_ hu X.prog X.w X.xe _ ⟨.bl true,H,I,rfl,q⟩
  rw[bK,<- hl]
  rfl
end
def y1a(N:List Str)(kind:Str->Option NameKind)(rl:List (Str×NameKind)):List Str->List Nat->Bool
 | x::xs,i::is=>decide (N[i]? = some x) && (decide (kind x=some .cell) || decide (kind x=some .free)) && (decide (rl.lookup x=some .cell) || decide (rl.lookup x=some .free)) && y1a N kind rl xs is
 | _,_=>true
theorem y5r{N:List Str}{kind:Str->Option NameKind}{rl:List (Str×NameKind)}:∀{E3:List Str}{ix:List Nat},y1a N kind rl E3 ix=true->∀(j i:Nat) (x:Str),E3[j]? = some x->ix[j]? = some i->
  N[i]? = some x/\(kind x=some .cell\/kind x=some .free)/\(rl.lookup x=some .cell\/rl.lookup x=some .free)
 | [],_,_,j,i,x,e,_=>by simp at e
 | _::_,[],_,j,i,x,_,e=>by simp at e
 | y::ys,k::ks,h,j,i,x,e1,e2=>by
  unfold y1a at h
  rw[bW,bW,bW,gC,gC] at h
  obtain⟨⟨⟨h1,h2⟩,h3⟩,h4⟩:=h
  cases j with
  | zero=>
   simp at e1 e2
   subst e1 e2
   exact⟨of_decide_eq_true h1,h2.imp of_decide_eq_true of_decide_eq_true,h3.imp of_decide_eq_true of_decide_eq_true⟩
  | succ j=>exact y5r h4 j i x (by simpa using e1) (by simpa using e2)
theorem z0w{X:Cx}{scope:Scope}{cl:List (Str×Addr)}{own E3:List Str}{ix:List Nat}(T5:z84 X.env.cells scope.names []=some cl)(cell:∀y∈scope.names,y.2≠.cell)(kind:scope.kind=.function)
  (names:∀y∈scope.names,y.2=.local->scope.names.lookup y.1=some .local) (n:E3.length=ix.length) (cap:y1a X.N X.env.kindOf (relabel scope X.env).names E3 ix=true):E8 X scope cl own E3 ix:=
 ⟨T5,cell,kind,names,n,fun j i x e1 e2=>by
  obtain⟨a,b,c⟩:=y5r cap j i x e1 e2
  refine⟨a,fun z=>?_,b.elim (fun q=>.inr (.inl q)) (fun q=>.inr (.inr q)),c⟩
  rcases b with b|b<;>(rw[b] at z;cases z)⟩
theorem z9i{X:Cx}{K:PySem.W.Frag}{es:List Expr}{k:Nat}{t:TGs}{n:Nat}{pos:Pos}(hK:X.K=K)(hc:X.calm=true)(h:PGs X es t)
  (hn:(assignEach es X.env).length=n:=by rfl) (hst:(assignEach es X.env).findIdx? (·.1)=none:=by rfl):PG X (.Tuple es k pos) (W6 K n t):=by
 subst hK
 exact y5w hc h hn hst
structure Cal(P:Program)(w:World)(K:PySem.W.Frag)(mg:Str->Option Value)(base:Heap)(k:Nat)(x:Str)(ps:List Str)(sp:Sp):Prop where
 ex:∃(f:Addr) (fd:FuncData),A7 P w K mg base CX0 k f fd ps sp/\z1X K fd ps []/\PySem.W.keepIn K (.ref f)=true/\mg x=some (.ref f)
theorem Cal.mk'{P:Program}{w:World}{K:PySem.W.Frag}{mg:Str->Option Value}{base:Heap}{k:Nat}{x:Str}{ps:List Str}{sp:Sp}{f:Addr}{fd:FuncData}(a:A7 P w K mg base CX0 k f fd ps sp)(b:z1X K fd ps [])(c:PySem.W.keepIn K (.ref f)=true)(d:mg x=some (.ref f)) :
  Cal P w K mg base k x ps sp:=⟨⟨f,fd,a,b,c,d⟩⟩
theorem z0l{X:Cx}{k:Nat}{x:Str}{ps:List Str}{sp:Sp}{e:Expr}{es:List Expr}{t:TA}{p pos:Pos}(G:Cal X.prog X.w X.K X.mg X.base k x ps sp)(hr:D3 k X.A)(hg:Gl X x)(ha:PA X (e::es) t)
  (hdb:(x == ("__debug__":Str))=false:=by decide) (he:starEach (e::es) X.env=(false,eval e X.env)::starEach es X.env:=by rfl) (hpl:(backTo pos (starEach es X.env)).any (·.1)=false:=by rfl) :
  PE X (.Call (.Name x p) (e::es) [] pos) (y6O sp [] E0 t):=by
 obtain⟨f,fd,a,b,c,d⟩:=G.ex
 exact y6k a hr hg d c b .nil y3a ha hdb he hpl
def N8(z:Str)(lo hi:Option Int):Str:=⟨((z.cps.toList.drop (HT.sIx z.length 0 lo)).take (HT.sIx z.length z.length hi-HT.sIx z.length 0 lo)).toArray⟩
theorem z96{x y:Str}(h:x.cps.toList=y.cps.toList):x=y:=by
 obtain⟨a⟩:=x
 obtain⟨b⟩:=y
 exact congrArg Str.mk (Array.toList_inj.mp h)
theorem z1A(z:Str):z.cps.toList.length=z.length:=by simp[Str.length]
theorem y0A(lo hi:Option Int)(n:Nat):Builtin.Str.strSliceIndices lo hi 1 n=(List.range (HT.sIx n n hi-HT.sIx n 0 lo)).map (fun k=>HT.sIx n 0 lo+k):=by
 obtain⟨h1,h2,h3⟩:=z6D lo hi n
 have e:Builtin.Str.strSliceIndices lo hi 1 n=sliceRange (sliceBounds lo hi none n).1 (sliceBounds lo hi none n).2.1 1:=by
  unfold Builtin.Str.strSliceIndices sliceBounds
  cases lo<;>cases hi<;>rfl
 rw[e,h1,h2,sliceRange_one]
theorem y4U{z:Str}{t:Tok}{l u:Option (Int×Tok)}{Q:Value->Shared->Prop}{s:Shared}(hz:z.length≤sizeLine)(h:∀t' tk,Q (.str (N8 z (l.map (·.1)) (u.map (·.1))) t') { s with toks:=tk }):(sliceMade z t l u none).post Q s:=by
 have picked:slicePicked z l u none=(List.range (HT.sIx z.length z.length (u.map (·.1))-HT.sIx z.length 0 (l.map (·.1)))).map (fun k=>HT.sIx z.length 0 (l.map (·.1))+k):=y0A _ _ _
 have items:(slicePicked z l u none).filterMap (z.cps[·]?)=(N8 z (l.map (·.1)) (u.map (·.1))).cps.toList:=by
  rw[picked,pick_run]
  rfl
 have lh:=HT.y5i z.length z.length (bH _) (u.map (·.1))
 unfold sliceMade
 by_cases c:(((none:Option (Int×Tok)).map (·.1)).getD 1 == 1 && (slicePicked z l u none).length == z.length)=true
 ·rw[if_pos c]
  rw[bW] at c
  have c2:(slicePicked z l u none).length=z.length:=eq_of_beq c.2
  rw[picked,bA,fM] at c2
  have e:N8 z (l.map (·.1)) (u.map (·.1))=z:=by
   apply z96
   show(z.cps.toList.drop _).take _=_
   by_cases hz0:z.length=0
   ·have:z.cps.toList=[]:=dI (by rw[z1A];exact hz0)
    rw[this]
    simp
   ·have e1:HT.sIx z.length 0 (l.map (·.1))=0:=by omega
    rw[e1,eU,cO]
    rw[z1A]
    omega
  have:=h t s.toks
  rw[e] at this
  exact this
 ·rw[if_neg c,items]
  refine⟨?_,?_⟩
  ·show(((N8 z (l.map (·.1)) (u.map (·.1))).cps.toList.toArray).size)≤sizeLine
   rw[bK]
   show((z.cps.toList.drop _).take _).length≤_
   rw[bI,dD,z1A]
   omega
  ·have:=h s.toks (s.toks+1)
   have e:(⟨(N8 z (l.map (·.1)) (u.map (·.1))).cps.toList.toArray⟩:Str)=N8 z (l.map (·.1)) (u.map (·.1)):=z96 (by simp)
   rw[e]
   exact this
section
variable{X:Cx}
theorem z6w{v:Value}{o:Option Int}(h:IsPart v o):∃p:Option (Int×Tok),v=partValue p/\p.map (·.1)=o:=by
 cases h with
 | none=>exact⟨none,rfl,rfl⟩
 | int i t=>exact⟨some (i,t),rfl,rfl⟩
def rSlS:V->Option Int->Option Int->Hp->VK->Prop:=fun x lo hi H Q=>∃z,x=.str z/\z.length≤sizeLine/\Q (.str (N8 z lo hi)) H
theorem y5u:SlR X rSlS:=by
 intro pins s σ H x v vl vu lo hi sl Q I rx hs pl pu h
 obtain⟨z,rfl,hz,q⟩:=h
 obtain⟨t,rfl⟩:=rx
 obtain⟨l,rfl,rfl⟩:=z6w pl
 obtain⟨u,rfl,rfl⟩:=z6w pu
 refine⟨"str",_,slot_str_getitem.lookup,typeIs_str s z t,?_⟩
 obtain⟨o,ho,hc,hd⟩:=hs
 refine wpAny_getItem_str_slice (l:=l) (u:=u) (st:=none) ⟨o,ho,hc,hd⟩ rfl (y4U hz fun t' tk=>?_)
 exact⟨.str _,H,I.tok _,⟨_,rfl⟩,q⟩
def V8(z:Str)(n:Nat):Str:=⟨(List.replicate n z.cps.toList).flatten.toArray⟩
theorem y1c(z:Array Nat):∀(n:Nat) (acc:Array Nat),(List.foldl (fun a b=>a++b) acc (List.replicate n z)).toList=acc.toList++(List.replicate n z.toList).flatten
 | 0,acc=>by simp
 | n+1,acc=>by
  rw[List.replicate_succ,d6,y1c z n]
  simp[List.replicate_succ]
theorem y21:OpR X (binaryOp .Mult) (fun x y H Q=>∃z n,x=.str z/\y=.int n/\1≤n/\n≤1000/\z.length≤1000/\Q (.str (V8 z n.toNat)) H):=by
 intro pins s σ H x y v u Q I rx ry h
 obtain⟨z,n,rfl,rfl,h1,h2,hz,q⟩:=h
 obtain⟨t,rfl⟩:=rx
 obtain⟨t',rfl⟩:=ry
 have hs:sizeLine=16777216:=sizeLine_eq
 have hm:z.length*n.toNat≤1000*1000:=Nat.mul_le_mul hz (by omega)
 have fin:∀t' tk,EP X pins σ Q (.str (V8 z n.toNat) t') { s with toks:=tk }:=fun t' tk=>⟨.str _,H,I.tok _,⟨_,rfl⟩,q⟩
 refine PySem.P.mul_str ?_ (fun _ _=>?_) (fun _ _=>?_) ?_
 ·rw[decide_eq_false (show ¬n < -(2^63:Int) by omega),decide_eq_false (show ¬n≥2^63 by omega)]
  rfl
 ·have:(1000:Int)≤(2^63-1) / n:=by
   apply Int.le_ediv_of_mul_le (by omega)
   have:1000*n≤1000*1000:=Int.mul_le_mul_of_nonneg_left h2 (by decide)
   omega
  omega
 ·unfold Builtin.Str.tooLong
  exact decide_eq_false (by omega)
 ·rw[if_neg (by omega)]
  by_cases c:(n == 1 || z.length == 0)=true
  ·rw[if_pos c]
   have e:V8 z n.toNat=z:=by
    apply z96
    show((List.replicate n.toNat z.cps.toList).flatten.toArray).toList=_
    rw[gC] at c
    rcases c with c|c
    ·have:n=1:=eq_of_beq c
     subst this
     simp
    ·have:z.length=0:=eq_of_beq c
     have:z.cps.toList=[]:=dI (by rw[z1A];exact this)
     rw[this]
     simp
   have:=fin t s.toks
   rw[e] at this
   exact this
  ·rw[if_neg c]
   have e:(⟨(List.replicate n.toNat z.cps).foldl (·++·) #[]⟩:Str)=V8 z n.toNat:=by
    apply z96
    show(List.foldl (fun a b=>a++b) #[] (List.replicate n.toNat z.cps)).toList=((List.replicate n.toNat z.cps.toList).flatten.toArray).toList
    rw[y1c]
    simp
   refine⟨?_,?_⟩
   ·rw[e,<- z1A]
    show((List.replicate n.toNat z.cps.toList).flatten.toArray).toList.length≤sizeLine
    have:((List.replicate n.toNat z.cps.toList).flatten.toArray).toList.length=n.toNat*z.length:=by
     simp[List.length_flatten,List.map_replicate,z1A]
     rfl
    rw[this,Nat.mul_comm]
    omega
   ·rw[e]
    exact fin _ _
end
end L2
namespace L2
open PySem
inductive DV where
 | non|bl (b:Bool)|int (i:Int)|str (x:Str)|tup (l:List DV)
mutual
def A5(H:Hp):DV->V->Prop
 | .non,x=>x=.non
 | .bl b,x=>x=.bl b
 | .int i,x=>x=.int i
 | .str s,x=>x=.str s
 | .tup ds,x=>∃a xs,x=.ref a/\H a=some (.tup xs)/\xs.length≤1000000/\z08 H ds xs
def z08(H:Hp):List DV->List V->Prop
 | [],xs=>xs=[]
 | d::ds,xs=>∃x r,xs=x::r/\A5 H d x/\z08 H ds r
end
mutual
theorem A5.keep{H H':Hp}(s:A4 H H'):∀(d:DV) (x:V),A5 H d x->A5 H' d x
 | .non,_,h=>h
 | .bl _,_,h=>h
 | .int _,_,h=>h
 | .str _,_,h=>h
 | .tup ds,_,h=>by
  unfold A5 at h ⊢
  obtain⟨a,xs,e,h1,h2,h3⟩:=h
  exact⟨a,xs,e,s _ _ h1,h2,z08.keep s ds xs h3⟩
theorem z08.keep{H H':Hp}(s:A4 H H'):∀(ds:List DV) (xs:List V),z08 H ds xs->z08 H' ds xs
 | [],_,h=>h
 | d::ds,_,h=>by
  unfold z08 at h ⊢
  obtain⟨x,r,e,h1,h2⟩:=h
  exact⟨x,r,e,A5.keep s d x h1,z08.keep s ds r h2⟩
end
mutual
theorem A5.over{H:Hp}{l:Addr}{o o':HO}(hl:H l=some o)(hn:∀xs,o≠.tup xs):∀(d:DV) (x:V),A5 H d x->A5 (upd H l o') d x
 | .non,_,h=>h
 | .bl _,_,h=>h
 | .int _,_,h=>h
 | .str _,_,h=>h
 | .tup ds,_,h=>by
  unfold A5 at h ⊢
  obtain⟨a,xs,e,h1,h2,h3⟩:=h
  exact⟨a,xs,e,by rw[z0h (z5k h1 hl (fun z=>hn xs z.symm))];exact h1,h2,z08.over hl hn ds xs h3⟩
theorem z08.over{H:Hp}{l:Addr}{o o':HO}(hl:H l=some o)(hn:∀xs,o≠.tup xs):∀(ds:List DV) (xs:List V),z08 H ds xs->z08 (upd H l o') ds xs
 | [],_,h=>h
 | d::ds,_,h=>by
  unfold z08 at h ⊢
  obtain⟨x,r,e,h1,h2⟩:=h
  exact⟨x,r,e,A5.over hl hn d x h1,z08.over hl hn ds r h2⟩
end
theorem z08.length{H:Hp}:∀{ds:List DV}{xs:List V},z08 H ds xs->xs.length=ds.length
 | [],_,h=>by unfold z08 at h;rw[h];rfl
 | d::ds,_,h=>by
  unfold z08 at h
  obtain⟨x,r,rfl,_,h2⟩:=h
  rw[cB,cB,z08.length h2]
theorem z08.get{H:Hp}:∀{ds:List DV}{xs:List V},z08 H ds xs->∀(i:Nat) (d:DV),ds[i]? = some d->∃x,xs[i]? = some x/\A5 H d x
 | [],_,_,i,d,e=>by simp at e
 | d0::ds,_,h,0,d,e=>by
  unfold z08 at h
  obtain⟨x,r,rfl,h1,_⟩:=h
  simp at e
  subst e
  exact⟨x,rfl,h1⟩
 | d0::ds,_,h,i+1,d,e=>by
  unfold z08 at h
  obtain⟨x,r,rfl,_,h2⟩:=h
  obtain⟨y,e1,e2⟩:=z08.get h2 i d (by simpa using e)
  exact⟨y,by simpa using e1,e2⟩
theorem z08.at{H:Hp}:∀{ds:List DV}{xs:List V},z08 H ds xs->∀(i:Nat) (x:V),xs[i]? = some x->∃d,ds[i]? = some d/\A5 H d x
 | [],_,h,i,x,e=>by
  unfold z08 at h
  subst h
  simp at e
 | d0::ds,_,h,0,x,e=>by
  unfold z08 at h
  obtain⟨x0,r,rfl,h1,_⟩:=h
  simp at e
  subst e
  exact⟨d0,rfl,h1⟩
 | d0::ds,_,h,i+1,x,e=>by
  unfold z08 at h
  obtain⟨x0,r,rfl,_,h2⟩:=h
  obtain⟨y,e1,e2⟩:=z08.at h2 i x (by simpa using e)
  exact⟨y,by simpa using e1,e2⟩
theorem z08.nil{H:Hp}:z08 H [] []:=by unfold z08;rfl
theorem z08.cons{H:Hp}{d:DV}{ds:List DV}{x:V}{xs:List V}(h:A5 H d x)(t:z08 H ds xs):z08 H (d::ds) (x::xs):=by unfold z08;exact⟨x,xs,rfl,h,t⟩
theorem z08.snoc{H:Hp}:∀{ds:List DV}{xs:List V}{d:DV}{x:V},z08 H ds xs->A5 H d x->z08 H (ds++[d]) (xs++[x])
 | [],_,_,_,h,q=>by
  unfold z08 at h
  subst h
  exact z08.cons q .nil
 | d0::ds,_,_,_,h,q=>by
  unfold z08 at h
  obtain⟨x0,r,rfl,h1,h2⟩:=h
  exact z08.cons h1 (z08.snoc h2 q)
theorem z08.append{H:Hp}:∀{ds es:List DV}{xs ys:List V},z08 H ds xs->z08 H es ys->z08 H (ds++es) (xs++ys)
 | [],_,_,_,h,q=>by
  unfold z08 at h
  subst h
  exact q
 | d0::ds,_,_,_,h,q=>by
  unfold z08 at h
  obtain⟨x0,r,rfl,h1,h2⟩:=h
  exact z08.cons h1 (z08.append h2 q)
theorem z08.take{H:Hp}:∀{ds:List DV}{xs:List V} (n:Nat),z08 H ds xs->z08 H (ds.take n) (xs.take n)
 | _,_,0,_=>by rw[cQ,cQ];exact .nil
 | [],_,n+1,h=>by
  unfold z08 at h
  subst h
  exact .nil
 | d0::ds,_,n+1,h=>by
  unfold z08 at h
  obtain⟨x0,r,rfl,h1,h2⟩:=h
  exact z08.cons h1 (z08.take n h2)
theorem z0E{H:Hp}(i:Int):A5 H (.int i) (.int i):=by unfold A5;rfl
theorem z2p{H:Hp}(x:Str):A5 H (.str x) (.str x):=by unfold A5;rfl
theorem z71{H:Hp}:A5 H .non .non:=by unfold A5;rfl
theorem z0u{H:Hp}{a:Addr}{xs:List V}{ds:List DV}(h:H a=some (.tup xs))(hl:ds.length≤1000000)(t:z08 H ds xs):A5 H (.tup ds) (.ref a):=by
 unfold A5
 exact⟨a,xs,rfl,h,by rw[t.length];exact hl,t⟩
theorem z1V{H:Hp}:∀(l:List Str),z08 H (l.map DV.str) (l.map V.str)
 | []=>.nil
 | i::r=>.cons (z2p i) (z1V r)
theorem z1c{H:Hp}:∀{l:List Str}{xs:List V},z08 H (l.map DV.str) xs->xs=l.map V.str
 | [],_,h=>by unfold z08 at h;exact h
 | i::r,_,h=>by
  rw[cL] at h
  unfold z08 at h
  obtain⟨x,t,rfl,h1,h2⟩:=h
  unfold A5 at h1
  rw[h1,z1c h2]
  rfl
theorem z0b{H:Hp}{ds:List DV}{x:V}(h:A5 H (.tup ds) x):∃a xs,x=.ref a/\H a=some (.tup xs)/\xs.length≤1000000/\z08 H ds xs:=by
 unfold A5 at h
 exact h
theorem z0Y{H:Hp}{i:Int}{x:V}(h:A5 H (.int i) x):x=.int i:=by unfold A5 at h;exact h
theorem z35{H:Hp}{i:Str}{x:V}(h:A5 H (.str i) x):x=.str i:=by unfold A5 at h;exact h
theorem z0c{H:Hp}{d:DV}{ds:List DV}{xs:List V}(h:z08 H (d::ds) xs):∃x r,xs=x::r/\A5 H d x/\z08 H ds r:=by
 unfold z08 at h
 exact h
theorem z0F{H:Hp}{xs:List V}(h:z08 H [] xs):xs=[]:=by unfold z08 at h;exact h
mutual
def DV.deep:DV->Nat
 | .tup ds=>DV.O9 ds+1
 | _=>0
def DV.O9:List DV->Nat
 | []=>0
 | d::ds=>max d.deep (DV.O9 ds)
end
def y23:V->Bool
 | .non=>true
 | .bl _=>true
 | .int _=>true
 | .str _=>true
 | _=>false
def z4D(H:Hp):Nat->V->V->Prop
 | 0,x,y=>x=y/\y23 x=true
 | n+1,x,y=>(x=y/\y23 x=true)\/∃(a b:Addr) (xs ys:List V),x=.ref a/\y=.ref b/\H a=some (.tup xs)/\H b=some (.tup ys)/\xs.length=ys.length/\ys.length≤1000000/\
   ∀(i:Nat) (u v:V),xs[i]? = some u->ys[i]? = some v->z4D H n u v
theorem z4D.keep{H H':Hp}(s:A4 H H'):∀{n:Nat}{x y:V},z4D H n x y->z4D H' n x y
 | 0,_,_,h=>h
 | n+1,x,y,h=>by
  rcases h with h|⟨a,b,xs,ys,e1,e2,h1,h2,hl,hm,h⟩
  ·exact .inl h
  ·exact .inr ⟨a,b,xs,ys,e1,e2,s _ _ h1,s _ _ h2,hl,hm,fun i u v hu hv=>z4D.keep s (h i u v hu hv)⟩
theorem z4D.up{H:Hp}:∀{n:Nat}{x y:V},z4D H n x y->z4D H (n+1) x y
 | 0,_,_,h=>.inl h
 | n+1,x,y,h=>by
  rcases h with h|⟨a,b,xs,ys,e1,e2,h1,h2,hl,hm,h⟩
  ·exact .inl h
  ·exact .inr ⟨a,b,xs,ys,e1,e2,h1,h2,hl,hm,fun i u v hu hv=>z4D.up (h i u v hu hv)⟩
theorem z4D.mono{H:Hp}{x y:V}{n m:Nat}(h:z4D H n x y)(hm:n≤m):z4D H m x y:=by
 induction hm with
 | refl=>exact h
 | step _ ih=>exact ih.up
mutual
theorem z4v{H:Hp}:∀(d:DV) (x y:V),A5 H d x->A5 H d y->z4D H d.deep x y
 | .non,x,y,h1,h2=>by
  unfold A5 at h1 h2
  subst h1 h2
  exact⟨rfl,rfl⟩
 | .bl _,x,y,h1,h2=>by
  unfold A5 at h1 h2
  subst h1 h2
  exact⟨rfl,rfl⟩
 | .int _,x,y,h1,h2=>by
  unfold A5 at h1 h2
  subst h1 h2
  exact⟨rfl,rfl⟩
 | .str _,x,y,h1,h2=>by
  unfold A5 at h1 h2
  subst h1 h2
  exact⟨rfl,rfl⟩
 | .tup ds,x,y,h1,h2=>by
  unfold A5 at h1 h2
  obtain⟨a,xs,rfl,a1,a2,a3⟩:=h1
  obtain⟨b,ys,rfl,b1,b2,b3⟩:=h2
  unfold DV.deep
  exact .inr ⟨a,b,xs,ys,rfl,rfl,a1,b1,by rw[a3.length,b3.length],b2,z7h ds xs ys a3 b3⟩
theorem z7h{H:Hp}:∀(ds:List DV) (xs ys:List V),z08 H ds xs->z08 H ds ys->∀(i:Nat) (u v:V),xs[i]? = some u->ys[i]? = some v->z4D H (DV.O9 ds) u v
 | [],xs,ys,h1,h2,i,u,v,e1,e2=>by
  unfold z08 at h1
  subst h1
  simp at e1
 | d::ds,xs,ys,h1,h2,0,u,v,e1,e2=>by
  unfold z08 at h1 h2
  obtain⟨x,r,rfl,a1,a2⟩:=h1
  obtain⟨y,t,rfl,b1,b2⟩:=h2
  simp at e1 e2
  subst e1 e2
  unfold DV.O9
  exact(z4v d x y a1 b1).mono (Nat.le_max_left _ _)
 | d::ds,xs,ys,h1,h2,i+1,u,v,e1,e2=>by
  unfold z08 at h1 h2
  obtain⟨x,r,rfl,a1,a2⟩:=h1
  obtain⟨y,t,rfl,b1,b2⟩:=h2
  unfold DV.O9
  exact(z7h ds r t a2 b2 i u v (by simpa using e1) (by simpa using e2)).mono (Nat.le_max_right _ _)
end
end L2
namespace L2
open PySem PySem.Spec PyProof.Rows
section
variable{κ:Type}[DecidableEq κ]
def K4(ks:List κ):List κ:=ks.foldl (fun acc k=>if k∈acc then acc else acc++[k]) []
theorem y3x(ks:List κ)(k:κ):K4 (ks++[k])=if k∈K4 ks then K4 ks else K4 ks++[k]:=by
 unfold K4
 rw[gQ]
 rfl
theorem y32{ks:List κ}{i:Nat}{k:κ}(h:ks[i]? = some k):K4 (ks.take (i+1))=if k∈K4 (ks.take i) then K4 (ks.take i) else K4 (ks.take i)++[k]:=by
 have e:ks.take (i+1)=ks.take i++[k]:=by rw[dW,h]<;>rfl
 rw[e,y3x]
theorem z7v(k:κ):∀(ks acc:List κ),k∈ks.foldl (fun acc k=>if k∈acc then acc else acc++[k]) acc↔k∈acc\/k∈ks
 | [],acc=>by simp
 | x::r,acc=>by
  rw[d6,z7v k r]
  by_cases h:x∈acc
  ·rw[if_pos h,bF]
   constructor
   ·rintro(a|a)
    ·exact .inl a
    ·exact .inr (.inr a)
   ·rintro(a|rfl|a)
    ·exact .inl a
    ·exact .inl h
    ·exact .inr a
  ·rw[if_neg h,bS,bC,bF,or_assoc]
theorem y1f{k:κ}{ks:List κ}:k∈K4 ks↔k∈ks:=by unfold K4;rw[z7v];simp
theorem z7q:∀(ks acc:List κ),(ks.foldl (fun acc k=>if k∈acc then acc else acc++[k]) acc).length≤acc.length+ks.length
 | [],acc=>by simp
 | x::r,acc=>by
  rw[d6]
  refine cM (z7q r _) ?_
  by_cases h:x∈acc
  ·rw[if_pos h,cB];omega
  ·rw[if_neg h,bJ,cB,cB,List.length_nil];omega
theorem y1i(ks:List κ):(K4 ks).length≤ks.length:=by
 have:=z7q ks []
 simpa [K4] using this
theorem z8C:∀(ks acc:List κ),(acc++ks).Nodup->ks.foldl (fun acc k=>if k∈acc then acc else acc++[k]) acc=acc++ks
 | [],acc,_=>by simp
 | x::r,acc,h=>by
  have hx:x∉acc:=fun hx=>by
   rw[gR] at h
   exact h.2.2 x hx x (cD) rfl
  rw[d6,if_neg hx,z8C r (acc++[x]) (by rw[fN];exact h),fN]
  rfl
theorem y2e{ks:List κ}(h:ks.Nodup):K4 ks=ks:=by
 have:=z8C ks [] (by simpa using h)
 simpa [K4] using this
end
section
variable{prog:Program}{w:World}{A:Around}{κ:Type}[DecidableEq κ]{kd:KeyKind prog w κ}{I:Addr}{fp wr:List Addr}{G:Array GenState->Array GenState->Prop}{n:Nat}{P:Nat->Value->Prop}{St:Nat->Shared->Prop}
abbrev z5V(kd:KeyKind prog w κ)(h:Heap)(a:Addr)(ks:List κ):Prop:=h.SetOf kd a (fun k=>decide (k∈ks)) (K4 ks).length
theorem z5V.at{h h':Heap}{a:Addr}{ks:List κ}(x:z5V kd h a ks)(e:∀o,h.get? a=some o->h'.get? a=some o):z5V kd h' a ks:=by
 obtain⟨o,es,ep,t,ho,r⟩:=x
 exact⟨o,es,ep,t,e o ho,r⟩
theorem z95{R:Result->Shared->Prop}(W:WalksS prog w A.in1 I fp wr G n P St){a:Addr}(out:a∉fp){ks:List κ}(lk:ks.length=n)
  (vals:∀i v,P i v->∃k,ks[i]? = some k/\kd.is k v=true/\v.scannable=true) (few:n+1<scanBound) :
  ∀(todo i:Nat) (s:Shared),i+todo=n->St i s->z5V kd s.heap a (ks.take i)->
   (∀s',Moved (a::wr) G s s'->z5V kd s'.heap a ks->R (.ok (.ret .none)) s')->codeAny (model prog w) A (.builtin "set.update.loop" ⟨[.ref a,.ref I],[]⟩) R s
 | 0,i,s,ei,st,sx,fin=>by
  have e:ks.take i=ks:=cO (by omega)
  rw[e] at sx
  have ei':i=n:=by omega
  subst ei'
  refine codeAny_builtin F.entry_set_update_loop ?_
  rw[cH gP _]
  refine wpAny_bind (W.done s _ _ st fun s' mv=>wpAny_pure (fin s' (mv.mono fun b hb=>.tail _ hb) (sx.at fun o=>mv.heap a o fun q=>out (W.sub _ q))))
 | todo+1,i,s,ei,st,sx,fin=>by
  refine codeAny_builtin F.entry_set_update_loop ?_
  rw[cH gP _]
  refine wpAny_bind (W.item i s _ _ (by omega) st fun v s1 hv st1 mv=>?_)
  obtain⟨k,ek,iv,sc⟩:=vals i v hv
  have sx1:=sx.at (h':=s1.heap) fun o=>mv.heap a o fun q=>out (W.sub _ q)
  refine wpAny_bind (wpAny_holding (m:=setAdd a v) ?_)
  unfold setAdd
  refine wpAny_holding (wpAny_bind (kd.pyHash iv ?_))
  have lm:=y1i (ks.take i)
  rw[bI] at lm
  refine wpAny_setAddHashed_of (s:={ s1 with toks:=s1.toks+1 }) iv sc sx1 (by omega) fun h2 sb sx2=>?_
  have sx3:z5V kd h2 a (ks.take (i+1)):=by
   have e1:(fun k'=>decide (k'∈ks.take i) || decide (k'=k))=fun k'=>decide (k'∈ks.take (i+1)):=by
    funext k'
    rw[dW,ek]
    simp[Bool.decide_or]
   have e2:(if decide (k∈ks.take i)=true then (K4 (ks.take i)).length else (K4 (ks.take i)).length+1)=(K4 (ks.take (i+1))).length:=by
    rw[y32 ek]
    by_cases hk:k∈ks.take i
    ·rw[if_pos (decide_eq_true hk),if_pos (y1f.mpr hk)]
    ·rw[if_neg (by simpa using hk),if_neg (fun q=>hk (y1f.mp q)),bJ]
     rfl
   rw[e1,e2] at sx2
   exact sx2
  have far:∀b,b≠a->h2.get? b=s1.heap.get? b:=fun b hb=>sb.2 b hb
  refine wpAny_pure ⟨plainId_quiet gP _,z95 W out lk vals few todo (i+1) _ (by omega) (W.frame _ s1 _ _ st1 (fW _) fun b hb o q=>?_) sx3 fun s3 mv3 sx4=>?_⟩
  ·rw[far b fun z=>out (z ▸ hb)];exact q
  ·refine fin s3 (.trans W.gtrans ((mv.mono fun b hb=>.tail _ hb).then_heap (fW _) fun b o hb q=>?_) mv3) sx4
   rw[far b fun z=>hb (z ▸ .head _)];exact q
end
namespace Ty
theorem y2Q:isSubtype (.type "tuple") (.type "set")=pure false:=by rw[isSubtype_type];kernel_rfl
theorem z7J:isSubtype (.type "tuple") (.type "frozenset")=pure false:=by rw[isSubtype_type];kernel_rfl
end Ty
abbrev O3(led:Bool):Obj:={ cls:=.type "set",dict:=none,data:=.set #[] 0 (.fresh 0 0 led) }
section
variable{prog:Program}{w:World}{A:Around}{E:Value->Shared->Prop}{s:Shared}{κ:Type}[DecidableEq κ]{kd:KeyKind prog w κ}
theorem y47{T:String}{p:Addr}{o:Obj}{its:Array Value}{c0:Nat}{ks:List κ}{Q:Value->Shared->Prop}(hh:A.handled=none)(hp:s.heap.get? p=some o)(hc:o.cls=.type T)(hd:o.data=.seq its c0)(hT:T="list"\/T="tuple")
  (lk:ks.length=its.size) (vals:∀(i:Nat) v,its[i]? = some v->∃k,ks[i]? = some k/\kd.is k v=true/\v.scannable=true) (few:its.size+1<scanBound)
  (fin:∀(h':Heap) (t:Nat),z5V kd h' s.heap.objs.size ks->(∀b u,b<s.heap.objs.size->s.heap.get? b=some u->h'.get? b=some u)->Q (.ref s.heap.objs.size) { s with heap:=h',toks:=t }) :
  wpAny (model prog w) A (call (.type "set") [.ref p]) Q E s:=by
 obtain⟨c,tl,hmro⟩:=eV.mro
 have g1:=eV.made
 have g2:=eV.sub
 refine wpAny_call (codeAny_of_tree (wpAny_pure ⟨Code.quiet_builtin _ (by decide +kernel),codeAny_builtin F.entry_type_call ?_⟩))
 rw[Around.under_plain (weight_type_call_type "set" [.ref p] []) rfl]
 have g3:=eV.notType
 have g4:=eV.canCreate
 have g5:=F.typeCall_set_1 (.ref p)
 repeat (any_goals (first|assumption|wp_step))
 refine codeAny_mono (code_set_new_1 (.ref p) (E:=E) (Q₁:=fun u s1=>∃led,u=.ref s.heap.objs.size/\s1={ s with heap:=s.heap.push (O3 led) }) fun led=>⟨led,rfl,rfl⟩) fun r s1 q1=>?_
 rcases r with e|(_|_|_|u)
 all_goals try exact q1.elim
 all_goals try exact q1
 obtain⟨led,rfl,rfl⟩:=q1
 have at1:(s.heap.push (O3 led)).get? s.heap.objs.size=some (O3 led):=bN _ rfl
 have ty1:Shared.TypeIs { s with heap:=s.heap.push (O3 led) } (.ref s.heap.objs.size) "set":=⟨_,at1,rfl⟩
 have g6:=eV.init.lookup
 have g7:=eV.init.bind (.ref s.heap.objs.size)
 repeat (any_goals (first|assumption|wp_step))
 refine codeAny_mono (codeAny_call_builtin (R:=wants (fun r s2=>r=.none/\∃h' t,s2={ s with heap:=h',toks:=t }/\z5V kd h' s.heap.objs.size ks/\∀b u,b<s.heap.objs.size->s.heap.get? b=some u->h'.get? b=some u) E)
  eV.init.plain F.entry_set_init (check_set_init_1 ty1 ?_)) fun r s2 q2=>?_
 case _=>
  have hpS:p<s.heap.objs.size:=bQ hp
  obtain⟨oc,od,oa,os⟩:=o
  simp only at hc hd
  subst hc;subst hd
  have hp1:(s.heap.push (O3 led)).get? p=some { cls:=.type T,dict:=od,data:=.seq its c0,slots:=os }:=bB _ hp
  have f1:isSubtype (.type T) (.type "set")=pure false:=by rcases hT with rfl|rfl<;>first|exact F.sub_list_set|exact Ty.y2Q
  have f2:isSubtype (.type T) (.type "frozenset")=pure false:=by rcases hT with rfl|rfl<;>first|exact F.sub_list_frozenset|exact Ty.z7J
  have f3:(Value.type T == Value.type "dict")=false:=by rcases hT with rfl|rfl<;>decide
  have hh3:A.in1.in1.in1.handled=none:=by simp[hh]
  have sz:(s.heap.push (O3 led)).objs.size=s.heap.objs.size+1:=fP _ _
  have apart:p≠(s.heap.push (O3 led)).objs.size:=by rw[sz];exact cA (eO hpS)
  have out:s.heap.objs.size∉[(s.heap.push (O3 led)).objs.size,p]:=by rw[sz,bF,bC];exact fun z=>z.elim (cA (fT _)) (gG hpS)
  have z6b:∀x:Obj,z5V kd ((s.heap.push (O3 led)).push x) s.heap.objs.size (ks.take 0):=fun x=>by
   have z:=(setObjOf_fresh (knd:=kd) led).setOf (bB x at1) (by unfold scanBound;omega)
   have e:(fun k:κ=>decide (k∈ks.take 0))=fun _=>false:=by funext k;simp
   show Heap.SetOf kd _ _ (fun k=>decide (k∈ks.take 0)) _
   rw[e]
   exact z
  have ends:∀(x:Obj) (s':Shared),Moved [s.heap.objs.size,(s.heap.push (O3 led)).objs.size] (fun a b=>b=a) { s with heap:=(s.heap.push (O3 led)).push x } s'->z5V kd s'.heap s.heap.objs.size ks->
    ∃h' t,s'={ s with heap:=h',toks:=t }/\z5V kd h' s.heap.objs.size ks/\∀b u,b<s.heap.objs.size->s.heap.get? b=some u->h'.get? b=some u:=fun x s' mv sx=>by
   obtain⟨h',g',d',t',o'⟩:=s'
   obtain rfl:g'=s.gens:=mv.gens
   obtain rfl:d'=s.drawn:=mv.drawn
   obtain rfl:o'=s.os:=mv.os
   exact⟨h',t',rfl,sx,fun b u hb q=>mv.heap b u (by rw[sz,bF,bC];exact fun z=>z.elim (cA hb) (cA (eO hb))) (bB _ (bB _ q))⟩
  unfold Builtin.«set.__init__» noKeywords Builtin.Frozenset.updateFrom
  generalize hPI:pyIter=PI
  wp_walk
  subst hPI
  rcases hT with rfl|rfl
  ·have hl:(s.heap.push (O3 led)).IsList p its:=⟨_,hp1,rfl,c0,rfl⟩
   refine wpAny_pyIter_list hl (wpAny_bind (wpAny_runValue ?_))
   refine z95 (kd:=kd) ((Walks.list hh3 _ p apart its).toS) out lk vals few its.size 0 _ (jG _) ⟨⟨_,bN _ rfl,rfl,rfl⟩,hl.push _⟩ (z6b _) fun s' mv sx=>?_
   exact wpAny_pure (wpAny_pure ⟨rfl,ends _ s' mv sx⟩)
  ·have hl:(s.heap.push (O3 led)).IsTuple p its:=⟨_,hp1,rfl,c0,rfl⟩
   refine wpAny_pyIter_tuple hl (wpAny_bind (wpAny_runValue ?_))
   refine z95 (kd:=kd) ((Walks.tuple hh3 _ p apart its).toS) out lk vals few its.size 0 _ (jG _) ⟨⟨_,bN _ rfl,rfl,rfl⟩,hl.push _⟩ (z6b _) fun s' mv sx=>?_
   exact wpAny_pure (wpAny_pure ⟨rfl,ends _ s' mv sx⟩)
 ·rcases r with e|(_|_|_|u)
  all_goals try exact q2.elim
  all_goals try exact q2
  obtain⟨rfl,h',t,rfl,sx,kp⟩:=q2
  repeat (any_goals (first|assumption|wp_step))
  exact fin _ _ sx kp
end
section
variable{X:Cx}
def P5(P:Program)(w:World)(a:Addr)(zs:List Str):HO:=.ext fun h=>z5V (strKind P w) h a zs
theorem P5.new{P:Program}{w:World}{H:Hp}{h:Heap}{a:Addr}{zs:List Str}(x:z5V (strKind P w) h a zs):z1y P w H h a (P5 P w a zs):=by
 refine⟨x,?_,fun h1 h2 y e=>z5V.at y e⟩
 obtain⟨o,_,_,_,e,_⟩:=x
 exact⟨o,e⟩
theorem y19:∀{zs:List Str}{us:List Value},Vals (zs.map V.str) us->∀(i:Nat) (v:Value),us[i]? = some v->∃(k:Str) (t:Tok),zs[i]? = some k/\v=.str k t
 | [],_,.nil,i,v,h=>by simp at h
 | z::zs,u::us,.cons r rs,0,v,h=>by
  simp at h
  subst h
  obtain⟨t,rfl⟩:=r
  exact⟨z,t,rfl,rfl⟩
 | z::zs,u::us,.cons r rs,i+1,v,h=>by
  simp at h
  obtain⟨k,t,a,b⟩:=y19 rs i v h
  exact⟨k,t,by simpa using a,b⟩
theorem z4I(hc:X.calm=true):z3F X (.type "set") (fun xs H Q=>∃p zs,xs=[.ref p]/\(SqL X.K H p (zs.map V.str)\/SqT X.K H p (zs.map V.str))/\zs.length≤1000/\∀l,H l=none->Q (.ref l) (upd H l (P5 X.prog X.w l zs))):=by
 intro pins s σ H xs us Q I r h
 obtain⟨p,zs,rfl,hq,hl,q⟩:=h
 obtain⟨u,rfl,rx⟩:=z4F r
 cases rx
 have go:∀(T:String) (o:Obj) (its:List Value) (c0:Nat),s.heap.get? p=some o->o.cls=.type T->o.data=.seq its.toArray c0->(T="list"\/T="tuple")->Vals (zs.map V.str) its->wpAny (model X.prog X.w) X.A (call (.type "set") [.ref p]) (EP X pins σ Q) X.xe s:=
  fun T o its c0 ho hcl hda hT rv=>by
   have ln:zs.length=its.length:=by have:=rv.length;rwa [bA] at this
   refine y47 (kd:=strKind X.prog X.w) (ks:=zs) (I.ok.hd hc) ho hcl hda hT (by simpa using ln) (fun i v hv=>?_) (by simp[scanBound];omega) fun h' t sx kp=>?_
   ·obtain⟨k,t,a,rfl⟩:=y19 rv i v (by simpa using hv)
    exact⟨k,a,strKind_is _ _ _ _,rfl⟩
   ·refine⟨.ref s.heap.objs.size,_,I.laid (a:=s.heap.objs.size) (o:=P5 X.prog X.w s.heap.objs.size zs) (h':=h') (t':=t) (fun b u q1=>kp b u (bQ q1) q1) (bH _) (P5.new sx),rfl,q _ (I.hok.fresh (bH _))⟩
 rcases hq with hq|hq
 ·obtain⟨its,rv,pl,_⟩:=I.list hq
  obtain⟨o,ho,hcl,n,hda⟩:=pl.isList
  exact go "list" o its n ho hcl hda (.inl rfl) rv
 ·obtain⟨its,rv,pl,_⟩:=I.tuple hq
  obtain⟨o,ho,hcl,n,hda⟩:=pl
  exact go "tuple" o its n ho hcl hda (.inr rfl) rv
theorem z5B:z3F X (.builtin "len") (fun xs H Q=>∃p zs,xs=[.ref p]/\H p=some (P5 X.prog X.w p zs)/\zs.length≤1000/\Q (.int (K4 zs).length) H):=by
 intro pins s σ H xs us Q I r h
 obtain⟨p,zs,rfl,hp,hl,q⟩:=h
 obtain⟨u,rfl,rx⟩:=z4F r
 cases rx
 obtain⟨⟨o,es,ep,t,e1,e2,e3,_,_,_,e4,e5⟩,_⟩:=(show z1y X.prog X.w H s.heap p (P5 X.prog X.w p zs) from I.hok p _ hp)
 have:=y1i zs
 exact PySem.call_len_set e1 e2 e3 e4 (by omega) ⟨.int (K4 zs).length,H,I.tok _,⟨s.toks+1,by rw[e5]⟩,q⟩
end
section
variable{κ:Type}[DecidableEq κ]
def J1(kvs:List (κ×V))(k:κ):Option V:=(kvs.find? fun kv=>decide (kv.1=k)).map (·.2)
def putK(kvs:List (κ×V))(k:κ)(v:V):List (κ×V):=
 if (kvs.any fun kv=>decide (kv.1=k))=true then kvs.map (fun kv=>if kv.1=k then (kv.1,v) else kv) else kvs++[(k,v)]
theorem z5U{p:κ×V}{r:List (κ×V)}{k:κ}(e:p.1=k):J1 (p::r) k=some p.2:=by simp[J1,dB,e]
theorem z5t{p:κ×V}{r:List (κ×V)}{k:κ}(e:¬p.1=k):J1 (p::r) k=J1 r k:=by simp[J1,dB,e]
theorem z7b(k:κ):∀kvs:List (κ×V),(kvs.any fun kv=>decide (kv.1=k))=(J1 kvs k).isSome
 | []=>rfl
 | p::r=>by
  rw[fH]
  by_cases e:p.1=k
  ·simp only[z5U e,decide_eq_true e,Bool.true_or,Option.isSome_some]
  ·rw[z5t e,decide_eq_false e,Bool.false_or];exact z7b k r
theorem z7S(kvs:List (κ×V))(k:κ)(v:V):(putK kvs k v).length≤kvs.length+1:=by
 unfold putK
 split
 ·rw[bA];omega
 ·rw[bJ,cB,List.length_nil];omega
theorem y17{kvs:List (κ×V)}{k:κ}(v:V)(h:J1 kvs k=none):putK kvs k v=kvs++[(k,v)]:=by
 unfold putK
 rw[z7b,h]
 exact if_neg (by decide)
theorem N1.O5{o:Option V}{u:Option Value}(r:N1 o u):o.isSome=u.isSome:=by
 cases o with
 | none=>cases u with
  | none=>rfl
  | some _=>exact(show False from r).elim
 | some _=>cases u with
  | none=>exact(show False from r).elim
  | some _=>rfl
theorem KV.val{kvs:List (κ×V)}{vs:List (κ×Value)}(r:KV kvs vs)(k:κ):N1 (J1 kvs k) (valueAt vs k):=by
 unfold KV at r
 induction r with
 | nil=>exact True.intro
 | @cons p q ps qs h t ih=>
  obtain⟨h1,h2⟩:=h
  by_cases e:p.1=k
  ·have e':q.1=k:=h1.symm.trans e
   have b:valueAt (q::qs) k=some q.2:=by simp[valueAt,dB,e']
   rw[z5U e,b];exact h2
  ·have e':¬q.1=k:=fun z=>e (h1.trans z)
   have b:valueAt (q::qs) k=valueAt qs k:=by simp[valueAt,dB,e']
   rw[z5t e,b];exact ih
theorem KV.any{kvs:List (κ×V)}{vs:List (κ×Value)}(r:KV kvs vs)(k:κ):(kvs.any fun kv=>decide (kv.1=k))=vs.any fun kv=>decide (kv.1=k):=by
 unfold KV at r
 induction r with
 | nil=>rfl
 | cons h t ih=>rw[fH,fH,ih,h.1]
theorem KV.Z6{kvs:List (κ×V)}{vs:List (κ×Value)}(r:KV kvs vs)(k:κ){y:V}{u:Value}(ry:RelV y u) :
  KV (kvs.map fun kv=>if kv.1=k then (kv.1,y) else kv) (vs.map fun kv=>if kv.1=k then (kv.1,u) else kv):=by
 unfold KV at r ⊢
 induction r with
 | nil=>exact .nil
 | @cons p q ps qs h t ih=>
  rw[cL,cL]
  refine .cons ?_ ih
  obtain⟨h1,h2⟩:=h
  by_cases e:p.1=k
  ·rw[if_pos e,if_pos (h1.symm.trans e)];exact⟨h1,ry⟩
  ·rw[if_neg e,if_neg (fun z=>e (h1.trans z))];exact⟨h1,h2⟩
theorem KV.put{kvs:List (κ×V)}{vs:List (κ×Value)}(r:KV kvs vs)(k:κ){y:V}{u:Value}(ry:RelV y u):KV (putK kvs k y) (stored vs k u):=by
 unfold putK stored
 rw[r.any k]
 by_cases e:(vs.any fun kv=>decide (kv.1=k))=true
 ·rw[if_pos e,if_pos e];exact r.Z6 k ry
 ·rw[if_neg e,if_neg e];exact fL r ⟨rfl,ry⟩
theorem KV.keys{kvs:List (κ×V)}{vs:List (κ×Value)}(r:KV kvs vs):kvs.map (·.1)=vs.map (·.1):=by
 unfold KV at r
 induction r with
 | nil=>rfl
 | cons h t ih=>rw[cL,cL,ih,h.1]
theorem KV.length{kvs:List (κ×V)}{vs:List (κ×Value)}(r:KV kvs vs):kvs.length=vs.length:=Paired.length r
end
theorem y2H{P:Program}{w:World}{k:Key}{u:Value}(r:RelV (kV k) u):(z1s P w).is k u=true:=by
 cases k with
 | inl i=>obtain⟨t,e⟩:=(show ∃t,u=Value.int i t from r);subst e;exact y0E P w i t
 | inr x=>obtain⟨t,e⟩:=(show ∃t,u=Value.str x t from r);subst e;exact y0C P w x t
theorem z9v{P:Program}{w:World}:∀{ks:List Key}{us:List Value},Vals (ks.map kV) us->ItemsAre (z1s P w) ks us
 | [],_,r=>by rw[List.map_nil] at r;cases r;exact .nil
 | k::ks,_,r=>by
  rw[cL] at r
  cases r with
  | cons h t=>exact .cons (y2H h) (z9v t)
abbrev KT(H:Hp):List (List Key×V)->List (List Key×Addr×Value)->Prop:=Paired fun p q=>p.1=q.1/\H q.2.1=some (.tup (p.1.map kV))/\RelV p.2 q.2.2
theorem KT.val{H:Hp}{kvs:List (List Key×V)}{xs:List (List Key×Addr×Value)}(r:KT H kvs xs)(k:List Key):N1 (J1 kvs k) ((atKey xs k).map (·.2)):=by
 induction r with
 | nil=>exact True.intro
 | @cons p q ps qs h t ih=>
  obtain⟨h1,_,h2⟩:=h
  by_cases e:p.1=k
  ·have e':q.1=k:=h1.symm.trans e
   have b:atKey (q::qs) k=some q.2:=by simp[atKey,dB,e']
   rw[z5U e,b];exact h2
  ·have e':¬q.1=k:=fun z=>e (h1.trans z)
   have b:atKey (q::qs) k=atKey qs k:=by simp[atKey,dB,e']
   rw[z5t e,b];exact ih
theorem KT.Z6{H:Hp}{kvs:List (List Key×V)}{xs:List (List Key×Addr×Value)}(r:KT H kvs xs)(k:List Key){y:V}{u:Value}(ry:RelV y u) :
  KT H (kvs.map fun kv=>if kv.1=k then (kv.1,y) else kv) (xs.map (putAt k u)):=by
 induction r with
 | nil=>exact .nil
 | @cons p q ps qs h t ih=>
  rw[cL,cL]
  refine .cons ?_ ih
  obtain⟨h1,h2,h3⟩:=h
  unfold putAt
  by_cases e:p.1=k
  ·rw[if_pos e,if_pos (h1.symm.trans e)];exact⟨h1,h2,ry⟩
  ·rw[if_neg e,if_neg (fun z=>e (h1.trans z))];exact⟨h1,h2,h3⟩
theorem KT.put{H:Hp}{kvs:List (List Key×V)}{xs:List (List Key×Addr×Value)}(r:KT H kvs xs)(k:List Key){b:Addr}{y:V}{u:Value}(hb:H b=some (.tup (k.map kV)))(ry:RelV y u) :
  KT H (putK kvs k y) (storedH xs k b u):=by
 have e:(kvs.any fun kv=>decide (kv.1=k))=(atKey xs k).isSome:=by
  rw[z7b,(r.val k).O5,Option.isSome_map]
 unfold putK storedH
 rw[e]
 by_cases q:(atKey xs k).isSome=true
 ·rw[if_pos q,if_pos q];exact r.Z6 k ry
 ·rw[if_neg q,if_neg q];exact fL r ⟨rfl,hb,ry⟩
theorem KT.keeps{H H':Hp}{kvs:List (List Key×V)}{xs:List (List Key×Addr×Value)}(r:KT H kvs xs)(ht:∀b ys,H b=some (.tup ys)->H' b=some (.tup ys)):KT H' kvs xs:=
 Paired.S0 r fun _ _ z=>⟨z.1,ht _ _ z.2.1,z.2.2⟩
section
variable{P:Program}{w:World}{H:Hp}{h:Heap}{a:Addr}
theorem y6L{u:HO}(ok:HOk P w H h)(e:Rd H a u):z1y P w H h a u:=e.ok ok
theorem y4d{kvs:List (Key×V)}(ok:HOk P w H h)(e:Rd H a (.dK kvs)):kvs.length≤sizeLine/\(a == sysModules)=false/\∃vs,KV kvs vs/\h.DictOf (z1s P w) a vs:=
 show z1y P w H h a (.dK kvs) from y6L ok e
theorem y72{kvs:List (Key×V)}(ok:HOk P w H h)(e:H a=some (.dK kvs)):kvs.length≤sizeLine/\(a == sysModules)=false/\∃vs,KV kvs vs/\h.DictOf (z1s P w) a vs:=y4d ok (.inl e)
theorem y0W{ks:List Key}(ok:HOk P w H h)(e:H a=some (.tup (ks.map kV))):(tupleKind (z1s P w)).is h ks a:=by
 obtain⟨_,its,r,o,h1,h2,⟨n,h3⟩,_⟩:=(show z1y P w H h a (.tup (ks.map kV)) from ok a _ e)
 exact⟨o,its.toArray,n,h1,h2,h3,by simpa using z9v r⟩
theorem y4M{kvs:List (List Key×V)}(ok:HOk P w H h)(e:Rd H a (.dT kvs)):kvs.length≤sizeLine/\(a == sysModules)=false/\
  ∃xs,KT H kvs xs/\h.DictOfH (tupleKind (z1s P w)) a xs:=by
 obtain⟨z,y,xs,r,o,es,ep,h1,h2,h3,h4,h5⟩:=(show z1y P w H h a (.dT kvs) from y6L ok e)
 refine⟨z,y,xs,r,o,es,ep,h1,h2,h3,h4,fun x hx=>?_,h5⟩
 have all:∀{l:List (List Key×V)}{m:List (List Key×Addr×Value)},KT H l m->∀x∈m,(tupleKind (z1s P w)).is h x.1 x.2.1:=by
  intro l m q
  induction q with
  | nil=>intro x hx;exact nomatch hx
  | @cons p q ps qs hq t ih=>
   intro x hx
   rcases bF.mp hx with e|hx
   ·subst e
    exact y0W ok (by rw[<- hq.1];exact hq.2.1)
   ·exact ih x hx
 exact all r x hx
theorem w03{kvs:List (List Key×V)}(ok:HOk P w H h)(e:H a=some (.dT kvs)):kvs.length≤sizeLine/\(a == sysModules)=false/\
  ∃xs,KT H kvs xs/\h.DictOfH (tupleKind (z1s P w)) a xs:=y4M ok (.inl e)
end
def L6(H:Hp)(a:Addr)(y:V)(r:Option V):Prop:=
 (∃kvs k,Rd H a (.dK kvs)/\y=kV k/\r=J1 kvs k)\/∃kvs k b,Rd H a (.dT kvs)/\y=.ref b/\H b=some (.tup (k.map kV))/\r=J1 kvs k
def S2(H:Hp)(a:Addr)(y v:V)(H':Hp):Prop:=
 (∃kvs k,H a=some (.dK kvs)/\y=kV k/\kvs.length<sizeLine/\H'=upd H a (.dK (putK kvs k v)))\/
 ∃kvs k b,H a=some (.dT kvs)/\y=.ref b/\H b=some (.tup (k.map kV))/\kvs.length<sizeLine/\H'=upd H a (.dT (putK kvs k v))
theorem L6.k{H:Hp}{a:Addr}{kvs:List (Key×V)}{k:Key}(e:H a=some (.dK kvs)):L6 H a (kV k) (J1 kvs k):=.inl ⟨kvs,k,.inl e,rfl,rfl⟩
theorem S2.k{H:Hp}{a:Addr}{kvs:List (Key×V)}{k:Key}{v:V}(e:H a=some (.dK kvs))(hl:kvs.length<sizeLine):S2 H a (kV k) v (upd H a (.dK (putK kvs k v))):=.inl ⟨kvs,k,e,rfl,hl,rfl⟩
section
variable{X:Cx}{pins:List (Addr×Obj)}{σ:St}{H:Hp}{s:Shared}{a:Addr}{y v:V}{u r:Value}{o:Option V}{A:Around}{E:Value->Shared->Prop}
theorem Inv.big(I:Inv X pins σ H s):sysModules<s.heap.objs.size:=by
 have h:mainGlobals<s.heap.objs.size:=(I.mod.glob.keeps I.bk).lt
 exact Nat.lt_trans (by decide) h
theorem y2C{Q:Value->Shared->Prop}(hu:A.units+1<cLine)(I:Inv X pins σ H s)(g:L6 H a y (some v))(ry:RelV y u)(h:∀w' s',Inv X pins σ H s'->RelV v w'->Q w' s') :
  wpAny (model X.prog X.w) A (getItem (.ref a) u) Q E s:=by
 rcases g with ⟨kvs,k,e,ey,l⟩|⟨kvs,k,b,e,ey,eb,l⟩
 ·subst ey
  obtain⟨z,hd,vs,rel,dd⟩:=y4d I.hok e
  obtain⟨w',hw,rw'⟩:=N1.some_of (v:=v) (o:=valueAt vs k) (by rw[l];exact rel.val k)
  exact wpAny_getItem_of (y2H ry) dd.mapOf hw (h w' _ (I.tok _) rw')
 ·subst ey
  cases (show u=Value.ref b from ry)
  obtain⟨z,hd,xs,rel,dd⟩:=y4M I.hok e
  obtain⟨w',hw,rw'⟩:=N1.some_of (v:=v) (o:=(atKey xs k).map (·.2)) (by rw[l];exact rel.val k)
  obtain⟨p,hp,hp2⟩:=cG.mp hw
  refine wpAny_getItem_heap (tupleKind_room_in1 hu) (y0W I.hok eb) dd hp ?_
  rw[hp2]
  exact h w' _ (I.tok _) rw'
theorem d_in{Q:Value->Shared->Prop}(hu:A.units+1<cLine)(I:Inv X pins σ H s)(g:L6 H a y o)(ry:RelV y u)(h:∀s',Inv X pins σ H s'->Q (.bool o.isSome) s') :
  wpAny (model X.prog X.w) A (compareOp .In u (.ref a)) Q E s:=by
 rcases g with ⟨kvs,k,e,ey,l⟩|⟨kvs,k,b,e,ey,eb,l⟩
 ·subst ey
  obtain⟨z,hd,vs,rel,dd⟩:=y4d I.hok e
  refine wpAny_in_of (y2H ry) hd dd.mapOf ?_
  rw[<- (rel.val k).O5,<- l]
  exact h _ (I.tok _)
 ·subst ey
  cases (show u=Value.ref b from ry)
  obtain⟨z,hd,xs,rel,dd⟩:=y4M I.hok e
  refine wpAny_in_heap (tupleKind_room_in1 hu) (y0W I.hok eb) hd dd ?_
  have q:=(rel.val k).O5
  rw[Option.isSome_map] at q
  rw[<- q,<- l]
  exact h _ (I.tok _)
theorem y2x{h':Heap}{t':Nat}{ob:HO}(I:Inv X pins σ H s)(mu:Mut (H a))(hs:Heap.SameBut a s.heap h')(he:∃q,h'.get? a=some q)(new:z1y X.prog X.w (upd H a ob) h' a ob) :
  Inv X pins σ (upd H a ob) { s with heap:=h',toks:=t' }:=
 I.write (x:=a) (e:=a) mu (.inl rfl) (fun b q hb z=>(hs.2 b hb).trans z) he new
theorem y5j{P:Program}{w:World}{H':Hp}{h':Heap}{kvs:List (Key×V)}{vs:List (Key×Value)}(z:kvs.length≤sizeLine)(hd:(a == sysModules)=false)(rel:KV kvs vs)(dd:h'.DictOf (z1s P w) a vs) :
  z1y P w H' h' a (.dK kvs):=⟨z,hd,vs,rel,dd⟩
theorem y2X{H':Hp}{Q:Unit->Shared->Prop}(hu:A.units+1<cLine)(I:Inv X pins σ H s)(g:S2 H a y v H')(ry:RelV y u)(rv:RelV v r)(h:∀s',Inv X pins σ H' s'->Q () s') :
  wpAny (model X.prog X.w) A (setItem (.ref a) u r) Q E s:=by
 rcases g with ⟨kvs,k,e,ey,l,eH⟩|⟨kvs,k,b,e,ey,eb,l,eH⟩
 ·subst ey eH
  obtain⟨z,hd,vs,rel,dd⟩:=y72 I.hok e
  have hz:vs.length≤sizeLine:=by rw[<- rel.length];exact z
  have hl:(putK kvs k v).length≤sizeLine:=by have:=z7S kvs k v;omega
  refine wpAny_setItem_pairs (hsz:=hz) (y2H ry) dd fun h' dd' hs=>h _ ?_
  have he:∃q,h'.get? a=some q:=let ⟨q,_,_,hq,_⟩:=dd';⟨q,hq⟩
  exact y2x I (by rw[e];exact True.intro) hs he (y5j hl hd (rel.put k rv) dd')
 ·subst ey eH
  cases (show u=Value.ref b from ry)
  obtain⟨z,hd,xs,rel,dd⟩:=w03 I.hok e
  have hz:xs.length≤sizeLine:=by rw[<- Paired.length rel];exact z
  have hl:(putK kvs k v).length≤sizeLine:=by have:=z7S kvs k v;omega
  refine wpAny_setItem_heap (hsz:=hz) (tupleKind_room_in1 hu) (y0W I.hok eb) dd fun h' dd' hs=>h _ ?_
  obtain⟨q,es,ep,hq,h2,h3,h4,_,h5⟩:=dd'
  refine y2x I (by rw[e];exact True.intro) hs ⟨q,hq⟩ ⟨hl,hd,_,(rel.put k eb rv).keeps fun c ys ec=>?_,q,es,ep,hq,h2,h3,h4,h5⟩
  rw[z0h (z5k ec e (fun z=>nomatch z))]
  exact ec
end
section
variable{X:Cx}{pins:List (Addr×Obj)}{σ:St}{H:Hp}{s:Shared}{a:Addr}{kvs:List (Key×V)}{k:Key}{u:Value}{A:Around}{E:Value->Shared->Prop}
end
def NoSl(i:Expr):Prop:=∀ov iv,subscripted i false ov iv=operate [ov,iv] (getItem ov iv)
theorem y5H{prog:Program}{w:World}{A:Around}{E:Value->Shared->Prop}{s:Shared}{env:Env}{value slice:Expr}{pos:Pos}{T id:String}{Q:Value->Shared->Prop}
  (hl:typeLookup (.type T) "__getitem__"=pure (some (.builtin id))) (hs:NoSl slice)
  (h:wpAny (model prog w) A (eval value env) (fun o s₁=>wpAny (model prog w) A (eval slice env) (fun i s₂=>s₂.TypeIs o T/\wpAny (model prog w) A (getItem o i) Q E s₂) E s₁) E s) :
  wpAny (model prog w) A (eval (.Subscript value slice pos) env) Q E s:=by
 refine Subscript_ (wpAny_mono h (fun o s₁ h₁=>wpAny_mono h₁ (fun i s₂ h₂=>?_) fun _ _ x=>x) fun _ _ x=>x)
 obtain⟨hT,h₂⟩:=h₂
 unfold subscriptTail
 refine wpAny_bind ?_
 rw[getitemInPython_of_ne hT.not_modules]
 refine wpAny_bind (wpAny_specialOf hT hl ?_)
 have fin:wpAny (model prog w) A (subscripted slice false o i) (fun r s₃=>wpAny (model prog w) A (letTemporaryGo value o r >>= fun _=>pure r) Q E s₃) E s₂:=by
  rw[hs o i]
  exact wpAny_operating (wpAny_mono h₂ (fun r s₃ h₃=>wpAny_bind (wpAny_letTemporaryGo (wpAny_pure h₃))) fun _ _ x=>x)
 first
  | exact wpAny_pure (wpAny_bind fin)
  | exact wpAny_bind (wpAny_pure (wpAny_bind fin))
  | exact wpAny_bind fin
theorem y0p{X:Cx}{pins:List (Addr×Obj)}{σ:St}{H:Hp}{s:Shared}{a:Addr}{y:V}{o:Option V}(I:Inv X pins σ H s)(g:L6 H a y o):s.TypeIs (.ref a) "dict":=by
 rcases g with ⟨kvs,k,e,_,_⟩|⟨kvs,k,b,e,_,_,_⟩
 ·obtain⟨_,_,vs,_,dd⟩:=y4d I.hok e
  exact dd.typeIs
 ·obtain⟨_,_,xs,_,dd⟩:=y4M I.hok e
  exact dd.typeIs
def w0A(td ty:TE):TE:=fun σ H Q=>td σ H fun x H1=>ty σ H1 fun y H2=>∃a v,x=.ref a/\L6 H2 a y (some v)/\Q v H2
def tDIn(ty td:TE):TE:=fun σ H Q=>ty σ H fun y H1=>td σ H1 fun x H2=>∃a o,x=.ref a/\L6 H2 a y o/\Q (.bl o.isSome) H2
def w0G(td ty tv:TE):TS:=fun D σ H=>tv σ H fun v H1=>td σ H1 fun x H2=>ty σ H2 fun y H3=>∃a H4,x=.ref a/\S2 H3 a y v H4/\D.nx σ H4
section
variable{X:Cx}{o i e value:Expr}{pos pos' tpos:Pos}{td ty tv:TE}
theorem z6m(hu:X.A.units+1<cLine)(ho:PE X o td)(hi:PE X i ty)(hs:NoSl i):PE X (.Subscript o i pos) (w0A td ty):=by
 intro pins s σ H Q I h
 refine y5H PySem.F.slot_dict_getitem.lookup hs (thn (ho pins s σ H _ I h) fun u s1 ⟨x,H1,I1,rx,q1⟩=>thn (hi pins s1 σ H1 _ I1 q1) fun iv s2 hz=>?_)
 obtain⟨y,H2,I2,ry,a,v,ex,g,q2⟩:=hz
 subst ex
 obtain rfl:u=Value.ref a:=rx
 exact⟨y0p I2 g,y2C hu I2 g ry fun w' s3 I3 rw'=>⟨v,H2,I3,rw',q2⟩⟩
theorem y2y(hu:X.A.units+1<cLine)(hi:PE X i ty)(ho:PE X o td):PC X .In i o (tDIn ty td):=by
 intro pins s σ H Q I h
 refine thn (hi pins s σ H _ I h) fun iv s1 ⟨y,H1,I1,ry,q1⟩=>thn (ho pins s1 σ H1 _ I1 q1) fun u s2 hz=>?_
 obtain⟨x,H2,I2,rx,a,ov,ex,g,q2⟩:=hz
 subst ex
 obtain rfl:u=Value.ref a:=rx
 exact d_in hu I2 g ry fun s3 I3=>⟨.bl ov.isSome,H2,I3,rfl,q2⟩
theorem y0v(hu:X.A.units+1<cLine)(ho:PE X o td)(hi:PE X i ty)(hv:PE X value tv)(hs:swapsWith value (some (.Subscript o i pos')) pos.line X.env=pure false) :
  PS X (.Assign [.Subscript o i pos'] value pos) (w0G td ty tv):=by
 intro pins s σ H D I h
 refine wpAny_Assign_Subscript (thn (hv pins s σ H _ I h) fun r s1 ⟨v,H1,I1,rv,q1⟩=>thn (ho pins s1 σ H1 _ I1 q1) fun u s2 ⟨x,H2,I2,rx,q2⟩=>thn (hi pins s2 σ H2 _ I2 q2) fun iv s3 hz=>?_) hs
 obtain⟨y,H3,I3,ry,a,H4,ex,g,q3⟩:=hz
 subst ex
 obtain rfl:u=Value.ref a:=rx
 exact y2X hu I3 g ry rv fun s4 I4=>⟨σ,H4,I4,q3⟩
end
theorem y4u{P:Program}{w:World}{H:Hp}(h:Heap)(hb:sysModules<h.objs.size):z1y P w H (h.push { cls:=.type "dict",data:=.dict #[] }) h.objs.size (.dK []):=
 ⟨cT _,beq_eq_false_iff_ne.mpr (dG (cA hb)),[],.nil,Heap.DictOf.new h⟩
def y6F:TE:=fun _ H Q=>∀p,H p=none->Q (.ref p) (upd H p (.dK []))
section
variable{X:Cx}{pos:Pos}
theorem y15:PE X (.Dict [] [] pos) y6F:=fun pins s σ H Q I h=>
 wpAny_Dict_empty ⟨.ref s.heap.objs.size,_,I.laid (a:=s.heap.objs.size) (o:=.dK []) (t':=s.toks) (fun _ _ q=>bB _ q) (bH _) (y4u s.heap I.big),rfl,h _ (I.hok.fresh (bH _))⟩
end
section
variable{X:Cx}{pins:List (Addr×Obj)}{σ:St}{H:Hp}{s:Shared}{a:Addr}{y d:V}{u r:Value}{o:Option V}{A:Around}{E:Value->Shared->Prop}
end
section
variable{X:Cx}{o e f:Expr}{apos R4:Pos}{td ty tx:TE}
end
section
variable{X:Cx}{pins:List (Addr×Obj)}{σ:St}{H:Hp}{s:Shared}{a:Addr}{kvs:List (Key×V)}{A:Around}{E:Value->Shared->Prop}
end
section
variable{X:Cx}{pins:List (Addr×Obj)}{σ:St}{H:Hp}{s:Shared}{a:Addr}{y:V}{u:Value}{A:Around}{E:Value->Shared->Prop}
end
structure C8(P:Program)(w:World)(K:PySem.W.Frag)(mg:Str->Option Value)(base:Heap)(k:Nat)(C:Addr)(m:Str)(ps:List Str)(sp:Sp):Prop where
 cl:Cls K C
 ex:∃(f:Addr) (fd:FuncData),A7 P w K mg base CX0 k f fd ps sp/\z1X K fd ps []/\Meth K C m f
theorem C8.mk'{P:Program}{w:World}{K:PySem.W.Frag}{mg:Str->Option Value}{base:Heap}{k:Nat}{C:Addr}{m:Str}{ps:List Str}{sp:Sp}{f:Addr}{fd:FuncData}(c:Cls K C)(a:A7 P w K mg base CX0 k f fd ps sp)(b:z1X K fd ps [])(d:Meth K C m f) :
  C8 P w K mg base k C m ps sp:=⟨c,f,fd,a,b,d⟩
section
variable{X:Cx}{k:Nat}{C:Addr}{m x:Str}{ps:List Str}{sp:Sp}{o e:Expr}{es:List Expr}{ta:TE}{t:TA}{p pos apos:Pos}{pl:Sem Bool}
theorem z1l(G:C8 X.prog X.w X.K X.mg X.base k C m ps sp)(hr:D3 k X.A)(he:PE X o ta)(ha:PA X (e::es) t)
  (hst:starEach (e::es) X.env=(false,eval e X.env)::starEach es X.env:=by rfl) (hpl:(backTo pos (starEach es X.env)).any (·.1)=false:=by rfl)
  (ht:eval (.Call (.Attribute o m apos) (e::es) [] pos) X.env=(do
   let ov <- eval o X.env
   standAt apos.atName
   let (f,first) <- holding [ov] (getMethod ov m pl)
   callWith pos f first (backTo pos (starEach (e::es) X.env)) (backToKw pos (keywordEach [] X.env))):=by rfl) :
  PE X (.Call (.Attribute o m apos) (e::es) [] pos) (y2N C m sp [] E0 ta t):=by
 obtain⟨f,fd,a,b,d⟩:=G.ex
 exact y3o he G.cl d a hr b .nil y3a ha hst hpl ht
theorem z2M(G:C8 X.prog X.w X.K X.mg X.base k C m ps sp)(hr:D3 k X.A)(he:PE X o ta)
  (ht:eval (.Call (.Attribute o m apos) [] [] pos) X.env=(do
   let ov <- eval o X.env
   standAt apos.atName
   let (f,first) <- holding [ov] (getMethod ov m pl)
   callWith pos f first (backTo pos (starEach [] X.env)) (backToKw pos (keywordEach [] X.env))):=by rfl) :
  PE X (.Call (.Attribute o m apos) [] [] pos) (y2N C m sp [] E0 ta V1):=by
 obtain⟨f,fd,a,b,d⟩:=G.ex
 exact y53 he G.cl d a hr b .nil y3a ht
end
structure Mkr(P:Program)(w:World)(K:PySem.W.Frag)(mg:Str->Option Value)(base:Heap)(k:Nat)(C:Addr)(x:Str)(ps:List Str)(sp:Sp):Prop where
 ex:∃(f:Addr) (fd:FuncData),A7 P w K mg base CX0 k f fd ps sp/\z1X K fd ps []/\Mk K C f/\mg x=some (.ref C)
theorem Mkr.mk'{P:Program}{w:World}{K:PySem.W.Frag}{mg:Str->Option Value}{base:Heap}{k:Nat}{C:Addr}{x:Str}{ps:List Str}{sp:Sp}{f:Addr}{fd:FuncData}(a:A7 P w K mg base CX0 k f fd ps sp)(b:z1X K fd ps [])(c:Mk K C f)(d:mg x=some (.ref C)) :
  Mkr P w K mg base k C x ps sp:=⟨f,fd,a,b,c,d⟩
section
variable{X:Cx}{k:Nat}{C:Addr}{m x:Str}{ps:List Str}{sp:Sp}{o e:Expr}{es:List Expr}{ta:TE}{t:TA}{p pos apos:Pos}
theorem y14(G:Mkr X.prog X.w X.K X.mg X.base k C x ps sp)(hr:D3 (k+1) X.A)(hg:Gl X x)(ha:PA X (e::es) t)
  (hdb:(x == ("__debug__":Str))=false:=by decide) (he:starEach (e::es) X.env=(false,eval e X.env)::starEach es X.env:=by rfl) (hpl:(backTo pos (starEach es X.env)).any (·.1)=false:=by rfl) :
  PE X (.Call (.Name x p) (e::es) [] pos) (y75 C sp [] E0 t):=by
 obtain⟨f,fd,a,b,c,d⟩:=G.ex
 exact y60 c a hr hg d b .nil y3a ha hdb he hpl
theorem z2N{n:Int}(hg:Gl X x)(hm:∃t,X.mg x=some (.int n t))(hd:(x == ("__debug__":Str))=false:=by decide):PE X (.Name x pos) (tC (.int n)):=by
 obtain⟨t,e⟩:=hm
 exact y3b hg e ⟨t,rfl⟩ hd
end
def y5v(K:PySem.W.Frag):List V->Hp->VK->Prop:=fun xs H Q=>∃p ys,xs=[.ref p]/\((SqL K H p ys/\∀l,H l=none->Q (.ref l) (upd H l (.tup ys)))\/(SqT K H p ys/\Q (.ref p) H))
section
variable{X:Cx}{K:PySem.W.Frag}
theorem z8i(h:X.K=K):z3F X (.type "tuple") (y5v K):=by
 subst h
 exact z0m
end
section
variable{X:Cx}
def y6I(K:PySem.W.Frag)(le:Int->Int->Prop):List V->Hp->VK->Prop:=fun xs H Q=>∃p ns,xs=[.ref p]/\SqI K H p ns/\ns≠[]/\∀m,m∈ns->(∀y∈ns,le y m)->Q (.int m) H
theorem z7s(hc:X.calm=true):z3F X (.builtin "max") (y6I X.K fun y m=>y≤m):=by
 intro pins s σ H xs us Q I r h
 obtain⟨a,ns,rfl,hq,hn,q⟩:=h
 obtain⟨u,rfl,ru⟩:=z4F r
 cases ru
 refine call_max_walk (z5N (A:=X.A.in1) I (I.ok.hd hc) hq fun it fp St its s3 rv W st hfp back=>?_)
 have hl:=rv.length
 rw[bA] at hl
 have h0:0<its.length:=by
  rw[<- hl]
  exact j4.mpr hn
 refine⟨it,fp,[it],_,_,St,_,rfl,W,st,hfp,by rw[bK];exact h0,CmpOf.ints_gt (fun i=>ns.getD i 0) (z34 rv),fun v h' tk hv k=>?_⟩
 rw[bK] at hv
 obtain⟨t,rfl⟩:=z34 rv _ _ hv
 obtain⟨b1,b2⟩:=z8T (fun i=>ns.getD i 0) (its.length-1)
 refine⟨.int _,H,back h' tk k,⟨t,rfl⟩,q _ (z73 (by omega)) fun y hy=>?_⟩
 obtain⟨i,hi,rfl⟩:=z72 hy
 exact b2 i (by omega)
theorem y0c(hc:X.calm=true):z3F X (.builtin "min") (y6I X.K fun y m=>m≤y):=by
 intro pins s σ H xs us Q I r h
 obtain⟨a,ns,rfl,hq,hn,q⟩:=h
 obtain⟨u,rfl,ru⟩:=z4F r
 cases ru
 refine call_min_walk (z5N (A:=X.A.in1) I (I.ok.hd hc) hq fun it fp St its s3 rv W st hfp back=>?_)
 have hl:=rv.length
 rw[bA] at hl
 have h0:0<its.length:=by
  rw[<- hl]
  exact j4.mpr hn
 refine⟨it,fp,[it],_,_,St,_,rfl,W,st,hfp,by rw[bK];exact h0,CmpOf.ints_lt (fun i=>ns.getD i 0) (z34 rv),fun v h' tk hv k=>?_⟩
 rw[bK] at hv
 obtain⟨t,rfl⟩:=z34 rv _ _ hv
 obtain⟨b1,b2⟩:=z8X (fun i=>ns.getD i 0) (its.length-1)
 refine⟨.int _,H,back h' tk k,⟨t,rfl⟩,q _ (z73 (by omega)) fun y hy=>?_⟩
 obtain⟨i,hi,rfl⟩:=z72 hy
 exact b2 i (by omega)
theorem y6Q(hu:X.A.units<cLine):OpR X (compareOp .Eq) (fun x y H Q=>∃a b xs,x=.ref a/\y=.ref b/\SqL X.K H a xs/\SqL X.K H b []/\Q (.bl xs.isEmpty) H):=by
 intro pins s σ H x y v u Q I rx ry h
 obtain⟨a,b,xs,rfl,rfl,ha,hb,q⟩:=h
 cases rx
 cases ry
 obtain⟨its,r,pl,hz⟩:=I.list ha
 obtain⟨K8,r2,pl2,hz2⟩:=I.list hb
 cases r2
 have hl:=r.length
 cases xs with
 | nil=>
  cases r
  exact SeqAt.RcAt.lists (e:=fun _=>true) pl.isList pl2.isList rfl hu (fun j h1 _=>absurd h1 (gD _)) X.prog X.w X.xe _ ⟨.bl true,H,I,rfl,q⟩
 | cons x0 xr=>
  refine SeqAt.RcAt.lists_lengths pl.isList pl2.isList ?_ hu X.prog X.w X.xe _ ⟨.bl false,H,I,rfl,q⟩
  rw[bK,<- hl]
  rfl
end
end L2
namespace L2
open PySem
section
variable{prog:Program}{w:World}{A:Around}{E:Value->Shared->Prop}{s:Shared}{κ:Type}[DecidableEq κ]{kd:KeyKind prog w κ}{led:Bool}
end
end L2
namespace L2
open PySem PySem.Spec PyProof.Rows
namespace Ty
end Ty
section
variable{prog:Program}{w:World}{A:Around}{E:Value->Shared->Prop}{s:Shared}
end
namespace Ty
end Ty
section
variable{prog:Program}{w:World}{A:Around}{E:Value->Shared->Prop}{s:Shared}{κ:Type}[DecidableEq κ]{kd:KeyKind prog w κ}
end
section
variable{X:Cx}
end
theorem z2u:Slot "reversed" "__next__" "reversed.__next__":=
 .of (owner:="reversed") (n:="__next__") (by rw[typeLookup_type,builtinLookup_eq_fast];kernel_rfl) (by decide +kernel) (by decide +kernel) (by decide +kernel) (by first|exact .inl (by decide +kernel)|exact .inr (by decide +kernel)) (by rw[isSubtype_type];kernel_rfl)
theorem z6z:Slot "reversed" "__iter__" "reversed.__iter__":=
 .of (owner:="reversed") (n:="__iter__") (by rw[typeLookup_type,builtinLookup_eq_fast];kernel_rfl) (by decide +kernel) (by decide +kernel) (by decide +kernel) (by first|exact .inl (by decide +kernel)|exact .inr (by decide +kernel)) (by rw[isSubtype_type];kernel_rfl)
theorem z9Q:Slot "reversed" "__init__" "object.__init__":=
 .of (owner:="object") (n:="__init__") (by rw[typeLookup_type,builtinLookup_eq_fast];kernel_rfl) (by decide +kernel) (by decide +kernel) (by decide +kernel) (by first|exact .inl (by decide +kernel)|exact .inr (by decide +kernel)) (by rw[isSubtype_type];kernel_rfl)
theorem z5s:entryFor table "reversed.__next__"=some Builtin.«reversed.__next__»:=entryFor_of_tree (by kernel_rfl)
theorem z8R:entryFor table "reversed.__iter__"=some Builtin.«dict_keyiterator.__iter__»:=entryFor_alias (id':="dict_keyiterator.__iter__") (by kernel_rfl) (by first|rfl|decide +kernel|(unfold String.splitOn;simp +decide [String.splitOnAux])) (by decide +kernel) (by kernel_rfl)
theorem z6E(a:Value):argsOk "reversed.__next__" ⟨[a],[]⟩:=by unfold argsOk;kernel_rfl
theorem y00(a:Value):argsOk "reversed.__iter__" ⟨[a],[]⟩:=by unfold argsOk;kernel_rfl
theorem z7T:TypeCalled "reversed" "reversed.__new__" "object.__init__":=
 ⟨by decide +kernel,by decide +kernel,⟨_,_,PySem.F.mro_reversed⟩,PySem.F.made_reversed,by decide +kernel,PySem.F.sub_reversed_self,z9Q⟩
theorem z9b:typeLookup (.type "tuple") "__reversed__"=pure none:=by rw[typeLookup_type,builtinLookup_eq_fast];kernel_rfl
theorem y25:isSubtype (.type "tuple") (.type "dict")=pure false:=by rw[isSubtype_type];kernel_rfl
abbrev z8S(t:Addr)(i:Int):Obj:={ cls:=.type "reversed",dict:=none,data:=.fields #[.ref t,rawInt i],slots:=#[] }
section
variable{prog:Program}{w:World}{A:Around}{E:Value->Shared->Prop}{s:Shared}
theorem y0j{t:Addr}{items:Array Value}{Q:Value->Shared->Prop}(ht:IsTup s.heap t items)(hf:(items.size:Int)<2^63)(h:∀tk,Q (.ref s.heap.objs.size) { s with heap:=s.heap.push (z8S t ((items.size:Int)-1)),toks:=tk }) :
  codeAny (model prog w) A (.call (.builtin "reversed.__new__") ⟨[.type "reversed",.ref t],[]⟩) (wants Q E) s:=by
 refine codeAny_of_tree ?_
 show wpAny _ A.in1 (do checkBuiltinCall "reversed.__new__" ⟨[.type "reversed",.ref t],[]⟩;again (.builtin "reversed.__new__" ⟨[.type "reversed",.ref t],[]⟩)) _ _ s
 refine wpAny_bind (wpAny_of_eq (PySem.F.newCall_reversed_1 _) (wpAny_pure ⟨plainId_quiet PySem.F.plain_reversed_new _,codeAny_builtin PySem.F.entry_reversed_new ?_⟩))
 rw[cH PySem.F.plain_reversed_new _]
 unfold Builtin.«reversed.__new__»
 refine wpAny_bind (wpAny_of_eq (newClass_reversed _) ?_)
 try dsimp only
 refine wpAny_bind (wpAny_of_eq (a:=()) (by first|rfl|kernel_rfl) ?_)
 refine wpAny_bind (wpAny_of_eq (a:=()) (by first|rfl|kernel_rfl) ?_)
 try dsimp only
 refine wpAny_bind (wpAny_specialOf ht.typeIs z9b ?_)
 try dsimp only
 refine wpAny_bind ?_
 show wpAny _ _ (isInstance (.ref t) (.type "dict") >>= fun b=>_) _ _ _
 refine wpAny_bind (wpAny_isInstance (T:="tuple") ht.typeIs y25 ?_)
 rw[if_neg (by decide)]
 refine wpAny_bind (wpAny_specialOf ht.typeIs slot_tuple_getitem.lookup ?_)
 dsimp only
 rw[if_pos (by decide +kernel)]
 refine wpAny_pure ?_
 rw[if_neg (by decide)]
 refine wpAny_bind (len_tuple ht hf ?_)
 refine wpAny_bind (wpAny_of_eq (a:=some (items.size:Int)) rfl ?_)
 dsimp only
 refine wpAny_bind ?_
 show wpAny _ _ (newObj (.type "reversed") (.fields #[.ref t,rawInt ((items.size:Int)-1)])) _ _ _
 exact wpAny_newObj_type (wpAny_pure (h _)) (by size_fits)
theorem y6j{t:Addr}{items:Array Value}{Q:Value->Shared->Prop}(ht:IsTup s.heap t items)(hf:(items.size:Int)<2^63)(h:∀tk,Q (.ref s.heap.objs.size) { s with heap:=s.heap.push (z8S t ((items.size:Int)-1)),toks:=tk }) :
  wpAny (model prog w) A (call (.type "reversed") [.ref t]) Q E s:=by
 refine callType_codes (Q₁:=fun obj s₁=>obj=.ref s.heap.objs.size/\∃tk,s₁={ s with heap:=s.heap.push (z8S t ((items.size:Int)-1)),toks:=tk }) z7T (PySem.F.typeCall_reversed_1 _) F.entry_object_init (y0j ht hf fun tk=>⟨rfl,tk,rfl⟩) ?_
 rintro obj s₁ ⟨rfl,tk,rfl⟩
 have ty:Shared.TypeIs { s with heap:=s.heap.push (z8S t ((items.size:Int)-1)),toks:=tk } (.ref s.heap.objs.size) "reversed":=⟨_,bN _ rfl,rfl⟩
 exact⟨ty,F.args_object_init_2 _ _,object_init_meets z7T.init.lookup z7T.made (by decide) _ _ _ _ _ ⟨ty,rfl,h tk⟩⟩
theorem y5C{I t:Addr}{i:Nat}{items:Array Value}{x:Value}{Q:Option Value->Shared->Prop}(hI:s.heap.get? I=some (z8S t (i:Int)))(ht:IsTup s.heap t items)(hx:items[i]? = some x)(hz:(items.size:Int)<2^63)
  (hQ:∀h' tk,h'.get? I=some (z8S t ((i:Int)-1))->Heap.SameBut I s.heap h'->Q (some x) { s with heap:=h',toks:=tk }):wpAny (model prog w) A (pyNext (.ref I)) Q E s:=by
 have ty:s.TypeIs (.ref I) "reversed":=⟨_,hI,rfl⟩
 have hi:i<items.size:=(Array.getElem?_eq_some_iff.mp hx).1
 unfold pyNext
 refine wpAny_bind (wpAny_attempt (wpAny_callSpecial?_slot (name:=Str.ofString "__next__") ty z2u
  (wpAny_call_entry z2u ty z5s ?_ (z6E _))))
 unfold Builtin.«reversed.__next__»
 refine wpAny_bind (wpAny_of_eq (a:=(Value.ref I,[])) rfl ?_)
 try dsimp only
 refine wpAny_bind (wpAny_field hI rfl (x:=.ref t) rfl ?_)
 refine wpAny_bind (wpAny_field hI rfl (x:=rawInt (i:Int)) rfl ?_)
 show wpAny _ _ (if (i:Int)<0 then _ else _) _ _ s
 rw[if_neg (by omega)]
 refine wpAny_bind (wpAny_specialOf ht.typeIs slot_tuple_getitem.lookup ?_)
 rw[if_neg (by decide)]
 refine wpAny_bind (wpAny_mkInt ?_)
 refine wpAny_bind (wpAny_attempt (getItem_tuple (j:=i) (x:=x) ht (by omega) (by omega) ?_ hx ?_))
 ·exact seqIndex_of (by omega) (by omega)
 dsimp only
 refine wpAny_bind (wpAny_field hI rfl (x:=rawInt (i:Int)) rfl ?_)
 show wpAny _ _ (setField (.ref I) 1 (rawInt ((i:Int)-1)) >>= _) _ _ _
 refine wpAny_bind (wpAny_setField hI rfl (by simp) ?_)
 refine wpAny_pure ⟨x,rfl,wpAny_pure (hQ _ _ ?_ (j5 ..))⟩
 exact dP _ hI rfl
theorem y70{I t:Addr}{Q:Option Value->Shared->Prop}(hh:A.handled=none)(hI:s.heap.get? I=some (z8S t (-1)))
  (hQ:∀h',Heap.ExtBut I s.heap h'->Q none { s with heap:=h' }):wpAny (model prog w) A (pyNext (.ref I)) Q E s:=by
 have ty:s.TypeIs (.ref I) "reversed":=⟨_,hI,rfl⟩
 unfold pyNext
 refine wpAny_bind (wpAny_attempt (wpAny_callSpecial?_slot (name:=Str.ofString "__next__") ty z2u
  (wpAny_call_entry z2u ty z5s ?_ (z6E _))))
 unfold Builtin.«reversed.__next__»
 refine wpAny_bind (wpAny_of_eq (a:=(Value.ref I,[])) rfl ?_)
 try dsimp only
 refine wpAny_bind (wpAny_field hI rfl (x:=.ref t) rfl ?_)
 refine wpAny_bind (wpAny_field hI rfl (x:=rawInt (-1)) rfl ?_)
 show wpAny _ _ (if (-1:Int)<0 then _ else _) _ _ s
 rw[if_pos (by decide)]
 refine wpAny_bind (wpAny_rule ?_)
 refine wpAny_bind ?_
 show wpAny _ _ (setField (.ref I) 1 (rawInt (-1)) >>= fun _=>setField (.ref I) 0 .none) _ _ _
 refine wpAny_bind (wpAny_setField hI rfl (by simp) ?_)
 have g1:=dP (Obj.mapFields (·.setIfInBounds 1 (rawInt (-1)))) hI rfl
 have b1:Heap.SameBut I s.heap (s.heap.update I (Obj.mapFields (·.setIfInBounds 1 (rawInt (-1))))):=j5 ..
 refine wpAny_setField (vs:=#[.ref t,rawInt (-1)]) g1 rfl (by simp) ?_
 have b2:Heap.SameBut I (s.heap.update I (Obj.mapFields (·.setIfInBounds 1 (rawInt (-1))))) ((s.heap.update I (Obj.mapFields (·.setIfInBounds 1 (rawInt (-1))))).update I (Obj.mapFields (·.setIfInBounds 0 .none))):=j5 ..
 refine wpAny_bind ?_
 unfold Builtin.SmallTypes.stopIteration
 refine wpAny_bind ?_
 simp only[newExc,newTuple]
 refine wpAny_bind (wpAny_newObj_type ?_ (by size_fits))
 refine wpAny_bind (m:=firstArgMember _ _) (wpAny_of_eq (a:=Value.none) (by first|rfl|(simp only[firstArgMember];rfl)) (wpAny_newObj_type ?_ (by size_fits)))
 simp only[raiseNew]
 refine wpAny_bind (wpAny_handled ?_)
 rw[show A.in1.handled=none from hh]
 refine wpAny_bind (wpAny_pure (wpAny_throw ?_))
 refine wpAny_bind (wpAny_isInstance (T:="StopIteration") (b:=true) ⟨_,bN _ rfl,rfl⟩ isSubtype_stop ?_)
 exact wpAny_pure (hQ _ fun b o hb e=>bB _ (bB _ ((b2.2 b hb).trans ((b1.2 b hb).trans e))))
theorem y41{I t:Addr}{i:Int}{Q:Value->Shared->Prop}(hI:s.heap.get? I=some (z8S t i))(h:Q (.ref I) s):wpAny (model prog w) A (pyIter (.ref I)) Q E s:=by
 have ty:s.TypeIs (.ref I) "reversed":=⟨_,hI,rfl⟩
 refine wpAny_pyIter_slot ty z6z (wpAny_call_entry z6z ty z8R ?_ (y00 _))
 show wpAny _ _ (ret (.ref I)) _ _ s
 exact wpAny_pure ⟨_,rfl,"reversed",_,ty,z2u.lookup,h⟩
end
def Itv(K:PySem.W.Frag)(a:Addr)(n:Nat):It:=
 ⟨fun i H=>i<n/\∃xs,SqT K H a xs/\xs.length=n,fun i H x H'=>H'=H/\∀xs,SqT K H a xs->xs.reverse[i]? = some x,fun i H=>n≤i⟩
theorem y4x{P:Program}{w:World}{K:PySem.W.Frag}{tg:Expr}(a it:Addr)(n:Nat):Turn P w K tg (Itv K a n) [it] it (fun i h=>i≤n/\h.get? it=some (z8S a ((n:Int)-1-(i:Int)))) where
 mem:=by simp
 obj:=fun i h st b hb=>by
  have e:b=it:=by simpa using hb
  subst e
  exact⟨_,st.2,fun v z=>by
   have z':Data.fields _=Data.cell v:=z
   cases z'⟩
 keep:=fun i h h' st k=>⟨st.1,k it (by simp) _ st.2⟩
 item:=by
  intro X hP hw hK hc i pins s σ H E I hf st hg
  subst hP hw hK
  obtain⟨hi,xs,hq,hn⟩:=hg
  obtain⟨its,rv,p,hz⟩:=I.tuple hq
  have ln:xs.length=its.length:=rv.length
  have hk:n-1-i<xs.length:=by omega
  obtain⟨u,hu,ru⟩:=rv.get (bD hk)
  obtain⟨f0,f1,f2,f3,f4,f5⟩:=hf it (by simp)
  have e1:(n:Int)-1-(i:Int)=((n-1-i:Nat):Int):=by omega
  have st1:=st.2
  rw[e1] at st1
  refine y5C st1 (show IsTup s.heap a its.toArray from p) (x:=u) (by simpa using hu) ?_ fun h' tk st' sb=>?_
  ·have:its.toArray.size=xs.length:=by simp[ln]
   rw[this]
   have:=eJ hz z7U
   omega
  have I1:Inv X pins σ H { s with heap:=h',toks:=tk }:=I.turned (t':=tk) (fun b o hb e=>(sb.2 b hb).trans e) f0 f1 f3 f4 f5
  refine⟨u,rfl,y1C (s:={ s with heap:=h',toks:=tk }) st' rfl rfl (by decide) ⟨xs[n-1-i],H,I1,ru,⟨rfl,fun ys hy=>?_⟩,⟨hi,?_⟩,fun b hb=>(hf b hb).1⟩⟩
  ·rw[I.Q5 hy hq,List.getElem?_reverse (by omega),bD (by omega)]
   congr 2
   omega
  ·have e2:(n:Int)-1-((i+1:Nat):Int)=((n-1-i:Nat):Int)-1:=by omega
   rw[e2]
   exact st'
 done:=by
  intro X hP hw hK hc i pins s σ H E I hf st hg
  subst hP hw hK
  obtain⟨f0,f1,f2,f3,f4,f5⟩:=hf it (by simp)
  have hg':n≤i:=hg
  have st1:=st.2
  rw[show(n:Int)-1-(i:Int)=-1 by have:=st.1;omega] at st1
  exact y70 (I.ok.hd hc) st1 fun h' eb=>⟨rfl,I.turned (t':=s.toks) (fun b o hb e=>eb b o hb e) f0 f1 f3 f4 f5⟩
 self:=fun _ _ _ _ _ st h=>y41 st.2 h
section
variable{X:Cx}{tg:Expr}
def iRev(K:PySem.W.Frag)(ta:TA):TI:=fun σ H R=>ta σ H fun vs H1=>∃a xs,vs=[.ref a]/\SqT K H1 a xs/\R (Itv K a xs.length) H1
theorem y5l{e:Expr}{ta:TA}{p pos:Pos}(hg:Gl X "reversed")(hm:X.mg "reversed"=none)(ha:PA X [e] ta)(hs:starEach [e] X.env=[(false,eval e X.env)]:=by rfl):PI X tg (.Call (.Name "reversed" p) [e] [] pos) (iRev X.K ta):=by
 intro pins s σ H R I h
 refine Call_ (z4L I hg hm boot_reversed (dC (thn (ha pos pins s σ H _ I h) fun us s1 ⟨vs,H1,I1,r1,q1⟩=>?_) hs rfl))
 obtain⟨a,xs,e,hq,q⟩:=q1
 subst e
 cases r1 with
 | cons r rr=>
  cases rr
  cases r
  obtain⟨its,rv,p,hz⟩:=I1.tuple hq
  have ln:(its.toArray.size:Int)=xs.length:=by simp[rv.length]
  refine y6j (show IsTup s1.heap a its.toArray from p) ?_ fun tk=>?_
  ·rw[ln]
   have:=eJ hz z7U
   omega
  refine y41 (bN _ rfl) ?_
  refine⟨s1.heap.objs.size,[s1.heap.objs.size],_,_,H1,rfl,I1.kept (t':=tk) fun b o e=>bB _ e,y4x a _ xs.length,⟨cT _,?_⟩,fun b hb=>?_,q⟩
  ·rw[show(xs.length:Int)-1-((0:Nat):Int)=(its.toArray.size:Int)-1 by rw[ln];simp]
   exact bN _ rfl
  ·have e:b=s1.heap.objs.size:=by simpa using hb
   subst e
   exact I1.Q2 (bH _) (I1.hok.fresh (bH _))
end
theorem y4P{K:PySem.W.Frag}{a:Addr}{xs:List V}{g:TG}{tc:TT}{te:TE}{σ0:St}{H1:Hp}{F:List V->Hp->Prop}(Pv:Nat->List V->Hp->Prop)(h0:Pv 0 [] H1)
  (hl:∀i ys H,i≤xs.length->Pv i ys H->SqT K H a xs/\ys.length<sizeLine)
  (hs:∀i x ys H,xs.reverse[i]? = some x->Pv i ys H->z1E g tc te σ0 x H ys (Pv (i+1))) (hd:∀ys H,Pv xs.length ys H->F ys H):z9x (Itv K a xs.length) g tc te σ0 H1 F:=by
 refine⟨fun i m ys H=>m=xs.length-i/\i≤xs.length/\Pv i ys H,⟨xs.length,by simp,cT _,h0⟩,?_⟩
 rintro i m ys H ⟨rfl,hi,p⟩
 obtain⟨q,z⟩:=hl i ys H hi p
 by_cases hlt:i<xs.length
 ·refine .inr ⟨⟨hlt,xs,q,rfl⟩,z,Pv (i+1),fun zs H' p'=>⟨xs.length-(i+1),by omega,rfl,hlt,p'⟩,fun x H' y=>?_⟩
  obtain⟨e,y⟩:=y
  subst e
  exact hs i x ys _ (y xs q) p
 ·have e:i=xs.length:=by omega
  subst e
  exact .inl ⟨bH _,hd ys H p⟩
theorem y5Z{K:PySem.W.Frag}{a:Addr}{xs:List V}{g:TG}{tb:TS}{D:Ends}{σ:St}{H:Hp}(Pv:Nat->St->Hp->Prop)(h0:Pv 0 σ H)(hl:∀i σ H,i≤xs.length->Pv i σ H->SqT K H a xs)
  (hs:∀i x σ H,xs.reverse[i]? = some x->Pv i σ H->g x σ H fun σ2 H2=>tb { D with nx:=Pv (i+1),ct:=Pv (i+1),bk:=D.nx } σ2 H2) (hd:∀σ H,Pv xs.length σ H->D.nx σ H) :
  ∃W:Nat->Nat->St->Hp->Prop,(∃m,W 0 m σ H)/\∀i m σ H,W i m σ H->
   ((Itv K a xs.length).stop i H/\D.nx σ H)\/((Itv K a xs.length).go i H/\∃N:St->Hp->Prop,(∀σ' H',N σ' H'->∃m',m'<m/\W (i+1) m' σ' H')/\∀x H',(Itv K a xs.length).yld i H x H'->g x σ H' fun σ2 H2=>tb { D with nx:=N,ct:=N,bk:=D.nx } σ2 H2):=by
 refine⟨fun i m σ H=>m=xs.length-i/\i≤xs.length/\Pv i σ H,⟨xs.length,by simp,cT _,h0⟩,?_⟩
 rintro i m σ H ⟨rfl,hi',p⟩
 have q:=hl i σ H hi' p
 by_cases hlt:i<xs.length
 ·refine .inr ⟨⟨hlt,xs,q,rfl⟩,Pv (i+1),fun σ' H' p'=>⟨xs.length-(i+1),by omega,rfl,hlt,p'⟩,fun x H' y=>?_⟩
  obtain⟨e,y⟩:=y
  subst e
  exact hs i x σ _ (y xs q) p
 ·have e:i=xs.length:=by omega
  subst e
  exact .inl ⟨bH _,hd σ H p⟩
theorem len0{us:List Value}{p:List Value->Prop}(h:us.length=0)(k:p []):p us:=by rw[dI h];exact k
theorem U2{us:List Value}{p:List Value->Prop}(h:us.length=1)(k:∀a,p [a]):p us:=by
 obtain⟨a,r,rfl⟩:=cU h
 exact len0 (p:=fun r=>p (a::r)) (Nat.succ.inj h) (k a)
theorem X7{us:List Value}{p:List Value->Prop}(h:us.length=2)(k:∀a b,p [a,b]):p us:=by
 obtain⟨a,r,rfl⟩:=cU h
 exact U2 (p:=fun r=>p (a::r)) (Nat.succ.inj h) (k a)
theorem X4{us:List Value}{p:List Value->Prop}(h:us.length=3)(k:∀a b c,p [a,b,c]):p us:=by
 obtain⟨a,r,rfl⟩:=cU h
 exact X7 (p:=fun r=>p (a::r)) (Nat.succ.inj h) (k a)
theorem len4{us:List Value}{p:List Value->Prop}(h:us.length=4)(k:∀a b c d,p [a,b,c,d]):p us:=by
 obtain⟨a,r,rfl⟩:=cU h
 exact X4 (p:=fun r=>p (a::r)) (Nat.succ.inj h) (k a)
theorem len5{us:List Value}{p:List Value->Prop}(h:us.length=5)(k:∀a b c d e,p [a,b,c,d,e]):p us:=by
 obtain⟨a,r,rfl⟩:=cU h
 exact len4 (p:=fun r=>p (a::r)) (Nat.succ.inj h) (k a)
theorem len6{us:List Value}{p:List Value->Prop}(h:us.length=6)(k:∀a b c d e f,p [a,b,c,d,e,f]):p us:=by
 obtain⟨a,r,rfl⟩:=cU h
 exact len5 (p:=fun r=>p (a::r)) (Nat.succ.inj h) (k a)
theorem Cal.mono{P:Program}{w:World}{K:PySem.W.Frag}{mg:Str->Option Value}{base:Heap}{j k:Nat}{x:Str}{ps:List Str}{sp:Sp}(G:Cal P w K mg base j x ps sp)(h:j≤k):Cal P w K mg base k x ps sp:=by
 obtain⟨f,fd,a,b,c,d⟩:=G.ex
 exact⟨f,fd,a.mono h,b,c,d⟩
theorem C8.mono{P:Program}{w:World}{K:PySem.W.Frag}{mg:Str->Option Value}{base:Heap}{j k:Nat}{C:Addr}{m:Str}{ps:List Str}{sp:Sp}(G:C8 P w K mg base j C m ps sp)(h:j≤k):C8 P w K mg base k C m ps sp:=by
 obtain⟨f,fd,a,b,c⟩:=G.ex
 exact⟨G.cl,f,fd,a.mono h,b,c⟩
theorem Mkr.mono{P:Program}{w:World}{K:PySem.W.Frag}{mg:Str->Option Value}{base:Heap}{j k:Nat}{C:Addr}{x:Str}{ps:List Str}{sp:Sp}(G:Mkr P w K mg base j C x ps sp)(h:j≤k):Mkr P w K mg base k C x ps sp:=by
 obtain⟨f,fd,a,b,c,d⟩:=G.ex
 exact⟨f,fd,a.mono h,b,c,d⟩
theorem z2h{X:Cx}{x z:Str}{pos:Pos}(hg:Gl X x)(hm:∃t,X.mg x=some (.str z t))(hd:(x == ("__debug__":Str))=false:=by decide):PE X (.Name x pos) (tC (.str z)):=by
 obtain⟨t,e⟩:=hm
 exact y3b hg e ⟨t,rfl⟩ hd
section
variable{X:Cx}
theorem z6x{P:Program}{w:World}:∀{ns:List Int}{vs:List Value},vs.length=ns.length->(∀(j:Nat) (v:Value),vs[j]? = some v->∃k:Key,(ns.map Sum.inl)[j]? = some k/\(z1s P w).is k v=true)->IntsAre vs ns
 | [],[],_,_=>.nil
 | [],_::_,h,_=>by cases h
 | _::_,[],h,_=>by cases h
 | n::ns,v::vs,h,q=>by
  obtain⟨k,e,hk⟩:=q 0 v rfl
  cases e
  rcases z1e (show y0w (Sum.inl n) v=true from hk) with ⟨i,t,e1,rfl⟩|⟨x,t,e1,_⟩
  ·cases e1
   exact .cons n t (z6x (Nat.succ.inj h) fun j u hu=>q (j+1) u hu)
  ·cases e1
theorem z9I{prog:Program}{w:World}{A:Around}{E:Value->Shared->Prop}{s:Shared}{R:List Value->Shared->Prop}{T:String}{r d:Addr}{n:Nat}{P:Nat->Value->Prop}{OK:Heap->Prop}(K:PySem.W.KdlSrc prog w T r d n P OK)(hh:A.handled=none)(hok:OK s.heap)(hn:n≤sizeLine)
  (fin:∀(h':Heap) (tk:Nat) (acc:Array Value),(∀b o,s.heap.get? b=some o->h'.get? b=some o)->s.heap.objs.size<h'.objs.size->ItemsOf P acc n->R acc.toList { s with heap:=h',toks:=tk }):wpAny (model prog w) A (collect (.ref r)) R E s:=by
 have hlt:=K.there _ hok
 unfold collect
 refine wpAny_bind (wpAny_runValue (codeAny_builtin entry_proto_collect' ?_))
 rw[cH PySem.F.plain_proto_collect _]
 refine(show wpAny _ A.in1 (newList [] >>= fun l=>again (.builtin "list.__iadd__" ⟨[l,.ref r],[]⟩)) _ _ s from wpAny_bind (wpAny_newObj_type (wpAny_pure ⟨plainId_quiet fB _,codeAny_builtin entry_list_iadd' ?_⟩)))
 rw[cH fB _]
 have g1:(s.heap.push { cls:=.type "list",data:=.seq ([]:List Value).toArray }).get? s.heap.objs.size=some { cls:=.type "list",data:=.seq #[] }:=bN _ rfl
 have ext:=PySem.W.kdl_extend (A:=A) (s:={ s with heap:=s.heap.push { cls:=.type "list",data:=.seq ([]:List Value).toArray } })
  (R:=fun(q:Result) (s':Shared)=>∃(h':Heap) (tk:Nat) (acc:Array Value) (c':Nat),q=.ok (.ret (.ref s.heap.objs.size))/\s'={ s with heap:=h',toks:=tk }/\(∀b o,s.heap.get? b=some o->h'.get? b=some o)/\
   h'.get? s.heap.objs.size=some { cls:=.type "list",dict:=none,data:=.seq acc c',slots:=#[] }/\ItemsOf P acc n)
  K hh (K.keep _ _ hok fun b _ o e=>bB _ e) s.heap.objs.size (gG hlt.1) (gG hlt.2) (.ref s.heap.objs.size) 0 g1
  (fun h' tk acc c' k hS' so=>⟨h',tk,acc,c',rfl,rfl,fun b o e=>k b o (cA (bQ e)) (bB _ e),hS',so⟩) hn
 refine(show wpAny _ A.in1 (Builtin.List.listExtendWith (.ref s.heap.objs.size) (.ref r) (.ref s.heap.objs.size)) _ _ _ from wpAny_mono ext (fun f s' x=>?_) fun e s' x=>?_)
 ·cases f with
  | done f=>
   obtain⟨h',tk,acc,c',e,rfl,k,hS',so⟩:=x
   cases e
   exact(show wpAny _ A (load s.heap.objs.size >>= _) _ _ _ from wpAny_bind (wpAny_load hS' (wpAny_pure (fin h' tk _ k (bQ hS') so))))
  | again c1=>
   refine⟨x.1,codeAny_mono x.2 fun q s2 y=>?_⟩
   obtain⟨h',tk,acc,c',rfl,rfl,k,hS',so⟩:=y
   exact(show wpAny _ A (load s.heap.objs.size >>= _) _ _ _ from wpAny_bind (wpAny_load hS' (wpAny_pure (fin h' tk _ k (bQ hS') so))))
 ·obtain⟨_,_,_,_,e',_⟩:=x
  cases e'
theorem z3V(hc:X.calm=true):z3F X (.builtin "sorted") (fun xs H Q=>∃(p:Addr) (kvs:List (Key×V)) (ns:List Int),xs=[.ref p]/\H p=some (.dK kvs)/\kvs.map (·.1)=ns.map Sum.inl/\ns.length<64/\
  ∀(l:Addr) (ms:List Int),H l=none->ms.Perm ns->ms.Pairwise (·≤·)->Q (.ref l) (upd H l (.lst (ms.map V.int)))):=by
 intro pins s σ H xs us Q I r h
 obtain⟨p,kvs,ns,rfl,hp,hk,h64,q⟩:=h
 obtain⟨u,rfl,rx⟩:=z4F r
 cases rx
 obtain⟨_,lo,kv,rk,dd⟩:=y72 I.hok hp
 obtain⟨ep,hat⟩:=dd.dictAt
 have lk:kv.length=ns.length:=by
  have e1:=rk.length
  have e2:=congrArg List.length hk
  rw[bA,bA] at e2
  omega
 refine Calls.call_function_entry kind_sorted plain_sorted entry_sorted (args_sorted1 _) ?_
 unfold Builtin.«sorted»
 refine wpAny_bind (m:=checkCount "sorted" 1 1 _) (wpAny_pure ?_)
 refine wpAny_bind (z9I (A:=X.A.in1) (PySem.W.kdl_dict (knd:=z1s X.prog X.w) (kvs:=kv) (ep:=ep) lo) (I.ok.hd hc) hat (by rw[sizeLine_eq];omega) fun h' tk acc kp slt items=>?_)
 have hi:IntsAre acc.toList ns:=z6x (P:=X.prog) (w:=X.w) (by rw[fX,items.1,lk]) fun j v hv=>by
  obtain⟨k,x,e,ik⟩:=items.2 j v (by rw[<- Array.getElem?_toList];exact hv)
  refine⟨k,?_,ik⟩
  rw[<- hk,rk.keys,bE,e]
  rfl
 have lv:acc.toList.length<64:=by rw[IntsAre.length hi];exact h64
 refine wpAny_bind (wpAny_newList ?_ (by rw[sizeLine_eq];omega))
 have g1:(h'.push (seqObj "list" acc.toList.toArray 0)).get? h'.objs.size=some (seqObj "list" acc.toList.toArray 0):=bN _ rfl
 refine wpAny_bind (wpAny_holding (wpAny_call_entry slot_list_sort ⟨_,g1,rfl⟩ entry_list_sort (list_sort_tree g1 hi lv fun out ns' a1 a2 a3=>⟨_,rfl,?_⟩) (args_list_sort _)))
 refine wpAny_pure ⟨_,rfl,?_⟩
 obtain⟨e,he⟩:=sortedHeap_at (out:=out) g1
 have sle:s.heap.objs.size≤h'.objs.size:=dR slt
 have old:∀b o,s.heap.get? b=some o->(sortedHeap (h'.push (seqObj "list" acc.toList.toArray 0)) h'.objs.size acc.toList out).get? b=some o:=fun b o e=>by
  have hb:=bQ (kp b o e)
  rw[sortedHeap_old (cA hb) (by rw[size_push'];exact eO hb)]
  exact bB _ (kp b o e)
 refine⟨.ref h'.objs.size,_,I.laid (a:=h'.objs.size) (o:=.lst (ns'.map V.int)) (t':=tk) old sle (show z1y X.prog X.w _ _ _ (.lst (ns'.map V.int)) from⟨?_,out.toList,e,z5K a1,?_⟩),rfl,q _ ns' (I.hok.fresh sle) a2 a3⟩
 ·rw[bA,a2.length_eq,sizeLine_eq]
  omega
 ·simpa using he
end
theorem z8f:typeLookup (.type "list") "keys"=pure none:=am_miss_of_fast (by kernel_rfl)
theorem z83:typeLookup (.type "tuple") "keys"=pure none:=am_miss_of_fast (by kernel_rfl)
theorem y03:typeLookup (.type "list") "__getattr__"=pure none:=by rw[typeLookup_type,builtinLookup_eq_fast];kernel_rfl
theorem z8U:typeLookup (.type "tuple") "__getattr__"=pure none:=by rw[typeLookup_type,builtinLookup_eq_fast];kernel_rfl
section
variable{prog:Program}{w:World}{A:Around}{E:Value->Shared->Prop}{s:Shared}
theorem z9B{a:Addr}{items:Array Value}{n:Nat}{sl:Array (Option Value)}{u:Tok}{R:Result->Shared->Prop}(hA:A.handled=none)(ho:s.heap.get? a=some ⟨.type "list",none,.seq items n,sl⟩)(h:∀h' tk e,Heap.NewAttrErr s.heap h' e (.ref a) "keys"->R (.error (.ref e)) { s with heap:=h',toks:=tk }) :
  wpAny (model prog w) A.in1 (Builtin.«object.__getattribute__» ⟨[.ref a,.str "keys" u],[]⟩) (fun fin s'=>match fin with|.done f=>R (.ok f) s'|.again c'=>c'.quiet=true/\codeAny (model prog w) A c' R s') (fun e s'=>R (.error e) s') s:=by
 obtain⟨hp,g,d,tk,os⟩:=s
 have hT:(⟨hp,g,d,tk,os⟩:Shared).TypeIs (.ref a) "list":=⟨_,ho,rfl⟩
 have f1:=z8f
 unfold Builtin.«object.__getattribute__»
 repeat (any_goals (first|assumption|wp_step))
 exact wpAny_raiseAttrError hA h (attrMsg_fits (by decide +kernel) (by decide +kernel))
theorem z9n{a:Addr}{items:Array Value}{n:Nat}{sl:Array (Option Value)}{u:Tok}{R:Result->Shared->Prop}(hA:A.handled=none)(ho:s.heap.get? a=some ⟨.type "tuple",none,.seq items n,sl⟩)(h:∀h' tk e,Heap.NewAttrErr s.heap h' e (.ref a) "keys"->R (.error (.ref e)) { s with heap:=h',toks:=tk }) :
  wpAny (model prog w) A.in1 (Builtin.«object.__getattribute__» ⟨[.ref a,.str "keys" u],[]⟩) (fun fin s'=>match fin with|.done f=>R (.ok f) s'|.again c'=>c'.quiet=true/\codeAny (model prog w) A c' R s') (fun e s'=>R (.error e) s') s:=by
 obtain⟨hp,g,d,tk,os⟩:=s
 have hT:(⟨hp,g,d,tk,os⟩:Shared).TypeIs (.ref a) "tuple":=⟨_,ho,rfl⟩
 have f1:=z83
 unfold Builtin.«object.__getattribute__»
 repeat (any_goals (first|assumption|wp_step))
 exact wpAny_raiseAttrError hA h (attrMsg_fits (by decide +kernel) (by decide +kernel))
theorem z8g{a:Addr}{items:Array Value}{n:Nat}{sl:Array (Option Value)}{u:Tok}{R:Result->Shared->Prop}(hA:A.handled=none)(ho:s.heap.get? a=some ⟨.type "list",none,.seq items n,sl⟩)(h:∀h' tk e,Heap.NewAttrErr s.heap h' e (.ref a) "keys"->R (.error (.ref e)) { s with heap:=h',toks:=tk }) :
  codeAny (model prog w) A (.call (.builtin "list.__getattribute__") ⟨[.ref a,.str "keys" u],[]⟩) R s:=
 codeAny_call_builtin eX.plain F.entry_list_ga (eX.check _ _ _ _ _ _ _ _ (show s.TypeIs (.ref a) "list" from⟨_,ho,rfl⟩) (F.args_list_getattribute_2 _ _) (z9B (R:=R) hA ho h))
theorem z8k{a:Addr}{items:Array Value}{n:Nat}{sl:Array (Option Value)}{Q:Option Value->Shared->Prop}(hA:A.handled=none)(ho:s.heap.get? a=some ⟨.type "list",none,.seq items n,sl⟩)(h:∀h' tk,(∀b o,s.heap.get? b=some o->h'.get? b=some o)->Q none { s with heap:=h',toks:=tk }) :
  wpAny (model prog w) A (getAttr? (.ref a) "keys") Q E s:=by
 obtain⟨hp,g,d,tk,os⟩:=s
 have hT:∀tk',(⟨hp,g,d,tk',os⟩:Shared).TypeIs (.ref a) "list":=fun _=>⟨_,ho,rfl⟩
 have f1:=sub_AttributeError
 have f3:=eX.lookup
 have f4:=eX.bind (.ref a)
 have f5:=y03
 unfold getAttr? getAttrBy? getAttrBy
 repeat (any_goals (first|assumption|exact hT _|wp_step))
 refine z8g (s:=⟨hp,g,d,tk+1,os⟩) hA ho fun h' tk' e hx=>?_
 obtain⟨t',u',he⟩:=hx.there
 show wpAny _ _ (getattributeRaised _ _ _ _ _ _ _) _ _ _
 unfold getattributeRaised
 repeat (any_goals (first|assumption|wp_step))
 exact h _ _ hx.keeps
theorem z7K{a:Addr}{items:Array Value}{n:Nat}{sl:Array (Option Value)}{u:Tok}{R:Result->Shared->Prop}(hA:A.handled=none)(ho:s.heap.get? a=some ⟨.type "tuple",none,.seq items n,sl⟩)(h:∀h' tk e,Heap.NewAttrErr s.heap h' e (.ref a) "keys"->R (.error (.ref e)) { s with heap:=h',toks:=tk }) :
  codeAny (model prog w) A (.call (.builtin "tuple.__getattribute__") ⟨[.ref a,.str "keys" u],[]⟩) R s:=
 codeAny_call_builtin eQ.plain F.entry_tuple_ga (eQ.check _ _ _ _ _ _ _ _ (show s.TypeIs (.ref a) "tuple" from⟨_,ho,rfl⟩) (F.args_tuple_getattribute_2 _ _) (z9n (R:=R) hA ho h))
theorem z7k{a:Addr}{items:Array Value}{n:Nat}{sl:Array (Option Value)}{Q:Option Value->Shared->Prop}(hA:A.handled=none)(ho:s.heap.get? a=some ⟨.type "tuple",none,.seq items n,sl⟩)(h:∀h' tk,(∀b o,s.heap.get? b=some o->h'.get? b=some o)->Q none { s with heap:=h',toks:=tk }) :
  wpAny (model prog w) A (getAttr? (.ref a) "keys") Q E s:=by
 obtain⟨hp,g,d,tk,os⟩:=s
 have hT:∀tk',(⟨hp,g,d,tk',os⟩:Shared).TypeIs (.ref a) "tuple":=fun _=>⟨_,ho,rfl⟩
 have f1:=sub_AttributeError
 have f3:=eQ.lookup
 have f4:=eQ.bind (.ref a)
 have f5:=z8U
 unfold getAttr? getAttrBy? getAttrBy
 repeat (any_goals (first|assumption|exact hT _|wp_step))
 refine z7K (s:=⟨hp,g,d,tk+1,os⟩) hA ho fun h' tk' e hx=>?_
 obtain⟨t',u',he⟩:=hx.there
 show wpAny _ _ (getattributeRaised _ _ _ _ _ _ _) _ _ _
 unfold getattributeRaised
 repeat (any_goals (first|assumption|wp_step))
 exact h _ _ hx.keeps
end
theorem z4O:entryFor table "dict.update.loop"=some Builtin.«dict.update.loop»:=entryFor_of_tree (by kernel_rfl)
theorem z1N:plainId "dict.update.loop"=true:=by decide +kernel
section
variable{prog:Program}{w:World}{A:Around}{κ:Type}[DecidableEq κ]{kd:KeyKind prog w κ}{I:Addr}{fp wr:List Addr}{G:Array GenState->Array GenState->Prop}{n:Nat}{P:Nat->Value->Prop}{St:Nat->Shared->Prop}
def z9F(kd:KeyKind prog w κ)(h:Heap)(v:Value)(kv:κ×Value)(out:List Addr):Prop:=∃(a:Addr) (o:Obj) (T:String) (k:Value) (c:Nat),v=.ref a/\h.get? a=some o/\o.cls=.type T/\(T="list"\/T="tuple")/\o.data=.seq #[k,kv.2] c/\kd.is kv.1 k=true/\a∉out
theorem z7e{R:Result->Shared->Prop}(W:WalksS prog w A.in1 I fp wr G n P St){d:Addr}(out:d∉fp){h0:Heap}{vs:List (κ×Value)}(lk:vs.length=n)
  (vals:∀i v,P i v->∃kv,vs[i]? = some kv/\z9F kd h0 v kv (d::wr)) (few:n≤1000) :
  ∀(todo i:Nat) (s:Shared),i+todo=n->St i s->s.heap.DictOf kd d (merged [] (vs.take i))->(∀b o,b∉d::wr->h0.get? b=some o->s.heap.get? b=some o)->
   (∀s',Moved (d::wr) G s s'->s'.heap.DictOf kd d (merged [] vs)->R (.ok (.ret .none)) s')->codeAny (model prog w) A (.builtin "dict.update.loop" ⟨[.ref d,.ref I,rawInt i,.none],[]⟩) R s
 | 0,i,s,ei,st,sx,kp,fin=>by
  have e:vs.take i=vs:=cO (by omega)
  rw[e] at sx
  have ei':i=n:=by omega
  subst ei'
  refine codeAny_builtin z4O ?_
  rw[cH z1N _]
  refine wpAny_bind (W.done s _ _ st fun s' mv=>wpAny_bind (wpAny_pure (wpAny_pure (fin s' (mv.mono fun b hb=>.tail _ hb) (sx.at fun o=>mv.heap d o fun q=>out (W.sub _ q))))))
 | todo+1,i,s,ei,st,sx,kp,fin=>by
  refine codeAny_builtin z4O ?_
  rw[cH z1N _]
  refine wpAny_bind (W.item i s _ _ (by omega) st fun v s1 hv st1 mv=>?_)
  obtain⟨⟨key,y⟩,ek,a,o,T,k,c,rfl,ho,hc,hT,hd,ik,na⟩:=vals i v hv
  have sx1:=sx.at (h':=s1.heap) fun o=>mv.heap d o fun q=>out (W.sub _ q)
  have ho1:s1.heap.get? a=some o:=mv.heap a o (fun q=>na (.tail _ q)) (kp a o na ho)
  have ty:s1.TypeIs (.ref a) T:=⟨o,ho1,hc⟩
  refine wpAny_bind (wpAny_holding (m:=(Builtin.Dict.pairItems (.ref a)).tryCatch _ >>= _) (wpAny_bind (wpAny_tryCatch ?_)))
  unfold Builtin.Dict.pairItems
  refine wpAny_bind (wpAny_typeOf ty ?_)
  rw[if_pos (by rcases hT with rfl|rfl<;>decide)]
  refine wpAny_bind (wpAny_seqItems ho1 hd (wpAny_pure ?_))
  show wpAny _ _ (holding [k,y] (dictSet d k y)) _ _ _
  have lm:=merged_length_le [] (vs.take i)
  rw[bI,List.length_nil] at lm
  refine wpAny_holding (wpAny_dictSet_pairs (hsz:=by rw[sizeLine_eq];omega) ik sx1 fun h2 sx2 sb=>?_)
  rw[<- merged_take_succ [] vs i (key,y) ek] at sx2
  have far:∀b,b≠d->h2.get? b=s1.heap.get? b:=fun b hb=>sb.2 b hb
  refine wpAny_pure ⟨plainId_quiet z1N _,z7e W out lk vals few todo (i+1) _ (by omega) (W.frame _ s1 _ _ st1 (fW _) fun b hb o q=>?_) sx2 (fun b o nb q=>?_) fun s3 mv3 sx4=>?_⟩
  ·rw[far b fun z=>out (z ▸ hb)];exact q
  ·rw[far b fun z=>nb (z ▸ .head _)]
   exact mv.heap b o (fun q=>nb (.tail _ q)) (kp b o nb q)
  ·refine fin s3 (.trans W.gtrans ((mv.mono fun b hb=>.tail _ hb).then_heap (fW _) fun b o hb q=>?_) mv3) sx4
   rw[far b fun z=>hb (z ▸ .head _)];exact q
end
section
variable{prog:Program}{w:World}{A:Around}{E:Value->Shared->Prop}{s:Shared}{κ:Type}[DecidableEq κ]{kd:KeyKind prog w κ}
theorem y5U{T:String}{p:Addr}{its:Array Value}{c0:Nat}{sl:Array (Option Value)}{vs:List (κ×Value)}{Q:Value->Shared->Prop}(hh:A.handled=none)(hp:s.heap.get? p=some ⟨.type T,none,.seq its c0,sl⟩)(hT:T="list"\/T="tuple")
  (lk:vs.length=its.size) (vals:∀(i:Nat) v,its[i]? = some v->∃kv,vs[i]? = some kv/\z9F kd s.heap v kv []) (few:its.size≤1000) (nd:(vs.map (·.1)).Nodup)
  (fin:∀(h':Heap) (t:Nat),h'.DictOf kd s.heap.objs.size vs->(∀b u,s.heap.get? b=some u->h'.get? b=some u)->Q (.ref s.heap.objs.size) { s with heap:=h',toks:=t }) :
  wpAny (model prog w) A (call (.type "dict") [.ref p]) Q E s:=by
 refine callType_codes (Q₁:=fun obj s₁=>obj=.ref s.heap.objs.size/\s₁={ s with heap:=s.heap.push { cls:=.type "dict",data:=.dict #[] } }) PySem.F.kt_called_dict (PySem.F.kt_typeCall_dict_1 _) F.entry_dict_init (kt_code_dict_new _ ⟨rfl,rfl⟩) ?_
 rintro obj s₁ ⟨rfl,rfl⟩
 have Z3:(s.heap.push { cls:=.type "dict",data:=.dict #[] }).DictOf kd s.heap.objs.size []:=Heap.DictOf.new s.heap
 have hp1:(s.heap.push { cls:=.type "dict",data:=.dict #[] }).get? p=some ⟨.type T,none,.seq its c0,sl⟩:=bB _ hp
 have hpl:p<s.heap.objs.size:=bQ hp
 refine⟨Z3.typeIs,F.args_dict_init_2 _ _,?_⟩
 unfold Builtin.«dict.__init__»
 refine wpAny_bind ?_
 unfold Builtin.Dict.selfAndRest
 refine wpAny_bind (wpAny_notOrdered_dict Z3.typeIs ?_)
 show wpAny _ _ (pure (s.heap.objs.size,[Value.ref p])) _ _ _
 refine wpAny_pure ?_
 show wpAny _ _ (Builtin.Dict.updateFrom "dict.__init__" s.heap.objs.size (.ref p) [] .none) _ _ _
 unfold Builtin.Dict.updateFrom
 refine wpAny_bind (wpAny_typeOf (T:=T) ⟨_,hp1,rfl⟩ ?_)
 rw[if_pos (by rcases hT with rfl|rfl<;>decide)]
 have main:∀(h1:Heap) (tk:Nat),(∀b o,(s.heap.push { cls:=.type "dict",data:=.dict #[] }).get? b=some o->h1.get? b=some o)->
   wpAny (model prog w) A.in1.in1 (do
    rule (toString "dict.__init__"++toString ".from-pairs")
    return <- again (.builtin "dict.update.loop" ⟨[.ref s.heap.objs.size,<- pyIter (.ref p),rawInt 0,.none],[]⟩))
    (fun fin s'=>match fin with|.done f=>wants (fun r s₂=>r=.none/\Q (.ref s.heap.objs.size) s₂) E (.ok f) s'|.again c'=>c'.quiet=true/\codeAny (model prog w) A.in1 c' (wants (fun r s₂=>r=.none/\Q (.ref s.heap.objs.size) s₂) E) s')
    (fun e s'=>wants (fun r s₂=>r=.none/\Q (.ref s.heap.objs.size) s₂) E (.error e) s') { s with heap:=h1,toks:=tk }:=by
  intro h1 tk k1
  have hd1:=Z3.keep k1
  have dlt:s.heap.objs.size<h1.objs.size:=by
   obtain⟨_,_,_,e,_⟩:=hd1
   exact bQ e
  have hp2:=k1 _ _ hp1
  have apart:p≠h1.objs.size:=cA (bQ hp2)
  have out:s.heap.objs.size∉[h1.objs.size,p]:=by rw[bF,bC];exact fun z=>z.elim (cA dlt) (gG hpl)
  have hh2:A.in1.in1.handled=none:=by simp[hh]
  have nin:∀{b:Addr}{o:Obj},s.heap.get? b=some o->b∉[s.heap.objs.size,h1.objs.size]:=fun e m=>by
   have hb:=bQ e
   rcases bF.mp m with z|z
   ·exact absurd hb (by rw[z];exact dE _)
   ·rw[bC] at z
    exact absurd (Nat.lt_trans hb dlt) (by rw[z];exact dE _)
  have W8:∀(i:Nat) v,its[i]? = some v->∃kv,vs[i]? = some kv/\z9F kd s.heap v kv [s.heap.objs.size,h1.objs.size]:=fun i v hv=>by
   obtain⟨kv,e,a,o,T,k,c,e1,e2,e3,e4,e5,e6,_⟩:=vals i v hv
   exact⟨kv,e,a,o,T,k,c,e1,e2,e3,e4,e5,e6,nin e2⟩
  have ends:∀(x:Obj) (s':Shared),Moved [s.heap.objs.size,h1.objs.size] (fun a b=>b=a) { s with heap:=h1.push x,toks:=tk } s'->s'.heap.DictOf kd s.heap.objs.size (merged [] vs)->Q (.ref s.heap.objs.size) s':=fun x s' mv sx=>by
   obtain⟨h',g',d',t',o'⟩:=s'
   obtain rfl:g'=s.gens:=mv.gens
   obtain rfl:d'=s.drawn:=mv.drawn
   obtain rfl:o'=s.os:=mv.os
   rw[merged_nil_of_nodup vs nd] at sx
   exact fin h' t' sx fun b u q=>mv.heap b u (nin q) (bB _ (k1 _ _ (bB _ q)))
  refine wpAny_bind (wpAny_rule ?_)
  rcases hT with rfl|rfl
  ·have hl:h1.IsList p its:=⟨_,hp2,rfl,c0,rfl⟩
   refine wpAny_bind (wpAny_pyIter_list hl (wpAny_pure ⟨plainId_quiet z1N _,?_⟩))
   exact z7e (kd:=kd) ((Walks.list hh2 _ p apart its).toS) out (h0:=s.heap) lk W8 few its.size 0 _ (jG _) ⟨⟨_,bN _ rfl,rfl,rfl⟩,hl.push _⟩ (by rw[cQ];exact hd1.push _) (fun b o _ q=>bB _ (k1 _ _ (bB _ q))) fun s' mv sx=>⟨rfl,ends _ s' mv sx⟩
  ·have hl:h1.IsTuple p its:=⟨_,hp2,rfl,c0,rfl⟩
   refine wpAny_bind (wpAny_pyIter_tuple hl (wpAny_pure ⟨plainId_quiet z1N _,?_⟩))
   exact z7e (kd:=kd) ((Walks.tuple hh2 _ p apart its).toS) out (h0:=s.heap) lk W8 few its.size 0 _ (jG _) ⟨⟨_,bN _ rfl,rfl,rfl⟩,hl.push _⟩ (by rw[cQ];exact hd1.push _) (fun b o _ q=>bB _ (k1 _ _ (bB _ q))) fun s' mv sx=>⟨rfl,ends _ s' mv sx⟩
 have hh2:A.in1.in1.handled=none:=by simp[hh]
 rcases hT with rfl|rfl
 ·refine wpAny_bind (z8k hh2 hp1 fun h1 tk k1=>?_)
  exact main h1 tk k1
 ·refine wpAny_bind (z7k hh2 hp1 fun h1 tk k1=>?_)
  exact main h1 tk k1
end
section
variable{X:Cx}
def y3S(K:PySem.W.Frag)(H:Hp)(u:V)(kv:Key×V):Prop:=∃a,u=.ref a/\(SqL K H a [kV kv.1,kv.2]\/SqT K H a [kV kv.1,kv.2])
def SqP(K:PySem.W.Frag)(H:Hp)(p:Addr)(ys:List V):Prop:=SqL K H p ys\/H p=some (.tup ys)
def y5X(K:PySem.W.Frag):List V->Hp->VK->Prop:=fun xs H Q=>∃p ys kvs,xs=[.ref p]/\SqP K H p ys/\Paired (y3S K H) ys kvs/\ys.length≤1000/\(kvs.map (·.1)).Nodup/\∀l,H l=none->Q (.ref l) (upd H l (.dK kvs))
theorem z8p{pins:List (Addr×Obj)}{σ:St}{H:Hp}{s:Shared}(I:Inv X pins σ H s):∀{ys:List V}{kvs:List (Key×V)}{its:List Value},Paired (y3S X.K H) ys kvs->Vals ys its->
  ∃vs,KV kvs vs/\vs.length=its.length/\∀(i:Nat) v,its[i]? = some v->∃kv,vs[i]? = some kv/\z9F (z1s X.prog X.w) s.heap v kv []
 | _,_,_,.nil,.nil=>⟨[],.nil,rfl,fun i v h=>by simp at h⟩
 | _::ys,kv::kvs,_::its,.cons ⟨a,e,hq⟩ t,.cons r rr=>by
  obtain⟨vs,k1,l1,p1⟩:=z8p I t rr
  subst e
  cases r
  have go:∀(T:String) (o:Obj) (us:List Value) (c:Nat),s.heap.get? a=some o->o.cls=.type T->(T="list"\/T="tuple")->o.data=.seq us.toArray c->Vals [kV kv.1,kv.2] us->
    ∃vs',KV (kv::kvs) vs'/\vs'.length=(Value.ref a::its).length/\∀(i:Nat) v,(Value.ref a::its)[i]? = some v->∃kv,vs'[i]? = some kv/\z9F (z1s X.prog X.w) s.heap v kv []:=fun T o us c h1 h2 h3 h4 h5=>by
   obtain⟨u1,u2,rfl,r1,r2⟩:=y2r h5
   refine⟨(kv.1,u2)::vs,.cons ⟨rfl,r2⟩ k1,by rw[cB,cB,l1],fun i v hv=>?_⟩
   cases i with
   | zero=>
    simp at hv
    subst hv
    exact⟨_,rfl,a,o,T,u1,c,rfl,h1,h2,h3,by simpa using h4,y2H r1,by simp⟩
   | succ i=>exact p1 i v (by simpa using hv)
  rcases hq with hq|hq
  ·obtain⟨us,rv,pl,_⟩:=I.list hq
   obtain⟨o,ho,hcl,n,hda⟩:=pl.isList
   exact go "list" o us n ho hcl (.inl rfl) hda rv
  ·obtain⟨us,rv,pl,_⟩:=I.tuple hq
   obtain⟨o,ho,hcl,n,hda⟩:=pl
   exact go "tuple" o us n ho hcl (.inr rfl) hda rv
theorem z4n{K:PySem.W.Frag}(hK:X.K=K)(hc:X.calm=true):z3F X (.type "dict") (y5X K):=by
 subst hK
 intro pins s σ H xs us Q I r h
 obtain⟨p,ys,kvs,rfl,hq,pr,hl,nd,q⟩:=h
 obtain⟨u,rfl,rx⟩:=z4F r
 cases rx
 have go:∀(T:String) (its:List Value) (c0:Nat) (sl:Array (Option Value)),s.heap.get? p=some ⟨.type T,none,.seq its.toArray c0,sl⟩->(T="list"\/T="tuple")->Vals ys its->wpAny (model X.prog X.w) X.A (call (.type "dict") [.ref p]) (EP X pins σ Q) X.xe s:=
  fun T its c0 sl ho hT rv=>by
   obtain⟨vs,k1,l1,p1⟩:=z8p I pr rv
   have ln:ys.length=its.length:=rv.length
   refine y5U (kd:=z1s X.prog X.w) (vs:=vs) (I.ok.hd hc) ho hT (by simpa using l1) (fun i v hv=>p1 i v (by simpa using hv)) (by simp;omega) (by rw[<- k1.keys];exact nd) fun h' t dd kp=>?_
   have big:=I.big
   refine⟨.ref s.heap.objs.size,_,I.laid (a:=s.heap.objs.size) (o:=.dK kvs) (h':=h') (t':=t) kp (bH _) (y5j ?_ ?_ k1 dd),rfl,q _ (I.hok.fresh (bH _))⟩
   ·have:=k1.length
    rw[sizeLine_eq]
    omega
   ·exact beq_false_of_ne (gG big)
 rcases hq with hq|hq
 ·obtain⟨its,rv,pl,_⟩:=I.list hq
  obtain⟨o,n,ho,hcl,hdi,hda⟩:=pl
  obtain⟨oc,od,oa,os⟩:=o
  simp only at hcl hdi hda
  subst hcl hdi hda
  exact go "list" its n os ho (.inl rfl) rv
 ·obtain⟨_,its,rv,o,ho,hcl,⟨n,hda⟩,hdi⟩:=(show z1y X.prog X.w H s.heap p (.tup ys) from I.hok p _ hq)
  obtain⟨oc,od,oa,os⟩:=o
  simp only at hcl hdi hda
  subst hcl hdi hda
  exact go "tuple" its n os ho (.inr rfl) rv
end
def SqS(K:PySem.W.Frag)(t:Bool)(H:Hp)(a:Addr)(xs:List V):Prop:=if t then SqL K H a xs else SqT K H a xs
theorem SqS.of{K:PySem.W.Frag}{H:Hp}{a:Addr}{xs:List V}(h:SqL K H a xs\/SqT K H a xs):∃t,SqS K t H a xs:=h.elim (fun q=>⟨true,q⟩) fun q=>⟨false,q⟩
theorem SqS.keep{K:PySem.W.Frag}{t:Bool}{H H':Hp}{a:Addr}{xs:List V}(s:A4 H H')(h:SqS K t H a xs):SqS K t H' a xs:=by
 cases t
 ·rcases(show SqT K H a xs from h) with (h|⟨o,h⟩)|h
  ·exact .inl (.inl (s _ _ h))
  ·exact .inl (.inr ⟨o,s _ _ h⟩)
  ·exact .inr h
 ·exact s.seq (show SqL K H a xs from h)
def Its(K:PySem.W.Frag)(t:Bool)(a:Addr):It:=if t then Itl K a else Itt K a
section
variable{X:Cx}{tg:Expr}
def iSeq(K:PySem.W.Frag)(tl:TE):TI:=fun σ H R=>tl σ H fun x H1=>∃a t,x=.ref a/\(∃xs,SqS K t H1 a xs)/\R (Its K t a) H1
theorem y2W{l:Expr}{tl:TE}(hl:PE X l tl):PI X tg l (iSeq X.K tl):=by
 intro pins s σ H R I h
 refine thn (hl pins s σ H _ I h) fun v s1 ⟨x,H1,I1,r1,q1⟩=>?_
 obtain⟨a,t,e,⟨xs,hq⟩,q⟩:=q1
 subst e
 cases r1
 cases t
 ·obtain⟨its,rv,p,hz⟩:=I1.tuple hq
  refine wpAny_pyIter_tuple (show s1.heap.IsTuple a its.toArray from p) ?_
  refine⟨s1.heap.objs.size,[s1.heap.objs.size],_,_,H1,rfl,I1.kept (t':=s1.toks) fun b o e=>bB _ e,z8s a _,⟨_,bN _ rfl,rfl,rfl⟩,fun b hb=>?_,q⟩
  have e:b=s1.heap.objs.size:=by simpa using hb
  subst e
  exact I1.Q2 (bH _) (I1.hok.fresh (bH _))
 ·obtain⟨its,rv,p,hz⟩:=I1.list hq
  refine wpAny_pyIter_list p.isList ?_
  refine⟨s1.heap.objs.size,[s1.heap.objs.size],_,_,H1,rfl,I1.kept (t':=s1.toks) fun b o e=>bB _ e,z9T a _,⟨_,bN _ rfl,rfl,rfl⟩,fun b hb=>?_,q⟩
  have e:b=s1.heap.objs.size:=by simpa using hb
  subst e
  exact I1.Q2 (bH _) (I1.hok.fresh (bH _))
end
theorem y1p{K:PySem.W.Frag}{t:Bool}{a:Addr}{xs:List V}{g:TG}{tc:TT}{te:TE}{σ0:St}{H1:Hp}{F:List V->Hp->Prop}(Pv:Nat->List V->Hp->Prop)(h0:Pv 0 [] H1)
  (hl:∀i ys H,i≤xs.length->Pv i ys H->SqS K t H a xs/\ys.length<sizeLine)
  (hs:∀i x ys H,xs[i]? = some x->Pv i ys H->z1E g tc te σ0 x H ys (Pv (i+1))) (hd:∀ys H,Pv xs.length ys H->F ys H):z9x (Its K t a) g tc te σ0 H1 F:=by
 cases t
 ·exact z1u Pv h0 hl hs hd
 ·exact z3w Pv h0 hl hs hd
theorem y5K{K:PySem.W.Frag}{t:Bool}{a:Addr}{xs:List V}{g:TG}{tb:TS}{D:Ends}{σ:St}{H:Hp}(Pv:Nat->St->Hp->Prop)(h0:Pv 0 σ H)(hl:∀i σ H,i≤xs.length->Pv i σ H->SqS K t H a xs)
  (hs:∀i x σ H,xs[i]? = some x->Pv i σ H->g x σ H fun σ2 H2=>tb { D with nx:=Pv (i+1),ct:=Pv (i+1),bk:=D.nx } σ2 H2) (hd:∀σ H,Pv xs.length σ H->D.nx σ H) :
  ∃W:Nat->Nat->St->Hp->Prop,(∃m,W 0 m σ H)/\∀i m σ H,W i m σ H->
   ((Its K t a).stop i H/\D.nx σ H)\/((Its K t a).go i H/\∃N:St->Hp->Prop,(∀σ' H',N σ' H'->∃m',m'<m/\W (i+1) m' σ' H')/\∀x H',(Its K t a).yld i H x H'->g x σ H' fun σ2 H2=>tb { D with nx:=N,ct:=N,bk:=D.nx } σ2 H2):=by
 cases t
 ·exact z7W Pv h0 hl hs hd
 ·exact z22 Pv h0 hl hs hd
section
variable{prog:Program}{w:World}{A:Around}{E:Value->Shared->Prop}
theorem y02{it t:Addr}{items:Array Value}(hne:t≠it):∀(n i:Nat) (s:Shared) (Q:List Value->Shared->Prop),s.heap.IsListIter it t i->s.heap.IsList t items->i+n≤items.size->
  (∀h',h'.IsListIter it t (i+n)->Heap.SameBut it s.heap h'->Q ((items.toList.drop i).take n) { s with heap:=h' })->wpAny (model prog w) A (draw (.ref it) n) Q E s
 | 0,i,s,Q,hit,_,_,hQ=>by
  show wpAny _ _ (pure []) Q E s
  exact wpAny_pure (by simpa using hQ s.heap hit (Heap.SameBut.refl ..))
 | n+1,i,s,Q,hit,ht,hle,hQ=>by
  have hlt:i<items.size:=by omega
  show wpAny _ _ (pyNext (.ref it) >>= _) Q E s
  refine wpAny_bind (wpAny_pyNext_list_item hit ht (x:=items[i]) (by simp[hlt]) fun h₁ hit₁ hs₁=>?_)
  refine wpAny_bind (wpAny_holding (y02 hne n (i+1) _ _ hit₁ (ht.at fun o e=>(hs₁.2 t hne).trans e) (by omega) fun h₂ hit₂ hs₂=>wpAny_pure ?_))
  have hd:items.toList.drop i=items[i]::items.toList.drop (i+1):=by simp[List.drop_eq_getElem_cons,hlt]
  have:=hQ h₂ (by rw[show i+(n+1)=i+1+n by omega];exact hit₂) (hs₁.trans hs₂)
  rw[hd,List.take_succ_cons] at this
  exact this
theorem y0g{s:Shared}{t:Addr}{items:Array Value}{Q:List Value->Shared->Prop}(hh:A.handled=none)(ht:s.heap.IsList t items)
  (hQ:∀h',Heap.ExtBut s.heap.objs.size s.heap h'->Q items.toList { s with heap:=h' }):wpAny (model prog w) A (unpackItems (.ref t) items.size none) Q E s:=by
 have hlt:t≠s.heap.objs.size:=by obtain⟨o,ho,_⟩:=ht;exact cA (bQ ho)
 unfold unpackItems
 refine wpAny_bind ?_
 unfold notIterableAtAll
 refine wpAny_bind (wpAny_specialOf ht.typeIs PySem.F.slot_list_iter.lookup ?_)
 refine wpAny_pure ?_
 simp only[eM,if_false]
 refine wpAny_bind (wpAny_holding (wpAny_pyIter_list ht ?_))
 refine wpAny_bind (wpAny_holding (y02 hlt items.size 0 _ _ ⟨_,bN _ rfl,rfl,rfl⟩ (ht.push _) (by omega) fun h₁ hit₁ hs₁=>?_))
 have B7:List.take items.size (List.drop 0 items.toList)=items.toList:=by
  rw[eU];exact cO (by simp)
 rw[B7]
 rw[if_neg (by simp)]
 have ht₁:h₁.IsList t items:=(ht.push _).at fun o e=>(hs₁.2 t hlt).trans e
 refine wpAny_bind (wpAny_holding (wpAny_pyNext_list_end hh hit₁ ht₁ (by simp) fun h₂ he₂=>?_))
 simp only[Option.isSome_none,eM,if_false]
 exact wpAny_pure (hQ h₂ fun b o hb e=>he₂ b o hb (hs₁.extBut b o hb (bB _ e)))
theorem z6s{s:Shared}{env:Env}{elts:List Expr}{x1}{pos:Pos}{t:Addr}{items:Array Value}{Q:Unit->Shared->Prop}(hh:A.handled=none)(ht:s.heap.IsList t items)
  (hn:(assignEach elts env).length=items.size) (w0P:(assignEach elts env).findIdx? (·.1)=none)
  (h:∀h',Heap.ExtBut s.heap.objs.size s.heap h'->wpAny (model prog w) A (assignInOrder ((assignEach elts env).map (·.2)) items.toList) Q E { s with heap:=h' }) :
  wpAny (model prog w) A (assign (.Tuple elts x1 pos) env (.ref t)) Q E s:=by
 rw[assign_Tuple]
 refine wpAny_bind (wpAny_standAt ?_)
 unfold unpack
 rw[hn,w0P]
 exact wpAny_bind (wpAny_holding (y0g hh ht h))
end
def Y4(K:PySem.W.Frag)(n:Nat)(t:TGs):TG:=fun v σ H Q=>∃a xs,v=.ref a/\(SqL K H a xs\/SqT K H a xs)/\xs.length=n/\t xs σ H Q
theorem y34{X:Cx}{K:PySem.W.Frag}{es:List Expr}{k:Nat}{t:TGs}{n:Nat}{pos:Pos}(hK:X.K=K)(hc:X.calm=true)(h:PGs X es t)
  (hn:(assignEach es X.env).length=n:=by rfl) (hst:(assignEach es X.env).findIdx? (·.1)=none:=by rfl):PG X (.Tuple es k pos) (Y4 K n t):=by
 subst hK
 intro pins s σ H v u Q I r hw
 obtain⟨a,xs,e1,hq,hl,hw⟩:=hw
 subst e1
 cases r
 rcases hq with hq|hq
 ·obtain⟨its,rv,ht,hz⟩:=I.list hq
  refine z6s (I.ok.hd hc) ht.isList (by simp[hn,<- hl,rv.length]) hst fun h' hx=>?_
  have I1:Inv X pins σ H { s with heap:=h' }:=I.kept (t':=s.toks) fun b o e=>hx b o (cA (bQ e)) e
  exact h pins _ σ H xs _ Q I1 (by simpa using rv) hw
 ·obtain⟨its,rv,ht,hz⟩:=I.tuple hq
  refine assign_Tuple_tuple (I.ok.hd hc) ht (by simp[hn,<- hl,rv.length]) hst fun h' hx=>?_
  have I1:Inv X pins σ H { s with heap:=h' }:=I.kept (t':=s.toks) fun b o e=>hx b o (cA (bQ e)) e
  exact h pins _ σ H xs _ Q I1 (by simpa using rv) hw
theorem y52{K:PySem.W.Frag}{n:Nat}{t:TGs}(a:z8O t):z9Y (Y4 K n t):=fun v σ H Q Q' f q=>by
 obtain⟨p,xs,e,h1,h2,q⟩:=q
 exact⟨p,xs,e,h1,h2,a _ _ _ _ _ f q⟩
theorem y5S{K:PySem.W.Frag}{n k:Nat}{t:TGs}(a:y3Z n t):T2 n (Y4 K k t):=fun v σ H Q q=>by
 obtain⟨p,xs,e,h1,h2,q⟩:=q
 exact⟨p,xs,e,h1,h2,a _ _ _ _ q⟩
theorem y0T{X:Cx}{K:PySem.W.Frag}(hK:X.K=K):OpR X (binaryOp .Add) (y6C K):=by
 subst hK
 exact y5E
section
variable{X:Cx}
end
structure R5(K:PySem.W.Frag)(x qual:Str)(st:Stmt)(f:Addr)(fd:FuncData)(T:Addr)(items:Array Value):Prop where
 ex:∃(oc:Value) (od:Option Addr) (kV doc pm:Value) (an:Option Addr) (cdv ct:Value) (osl:Array (Option Value)),
  fd=PySem.W.fnOf x qual (z1t st) (z1k st) (z07 st) (.ref T) kV doc pm an cdv ct/\K.lookup f=some ⟨oc,od,.func fd,osl⟩/\PySem.W.codeIn K cdv qual=true
 kp:PySem.W.keepIn K (.ref f)=true
 dt:∃(o:Obj) (n:Nat),K.lookup T=some o/\o.data=.seq items n
section
variable{P:Program}{w:World}{K:PySem.W.Frag}{mg:Str->Option Value}{base:Heap}
theorem R5.ok{x qual:Str}{st:Stmt}{f T:Addr}{items:Array Value}{fd:FuncData}{N ps:List Str}{k:Nat}{sp:Sp}(F:R5 K x qual st f fd T items)(S:A3 N ps (z07 st))(len:∀vs H Q E,sp vs H Q E->vs.length=ps.length)
  (S4:∀(cdv:Value) (A:Around) (outer:List Env) (s:Shared) (H:Hp) (vs:List V) (Q:VK) (E:XK),D3 k (A.deeper (envOfC qual (z07 st) s.heap.objs.size f cdv))->sp vs H Q E->
   ∃t,PSs (T4 CX0 P w K mg base N qual (z07 st) f cdv A outer s H E).nox (z1k st) t/\t { nx:=fun _ H'=>Q .non H',rt:=Q } (z6b N vs) H):A7 P w K mg base CX0 (k+1) f fd ps sp:=by
 obtain⟨oc,od,kV,doc,pm,an,cdv,ct,osl,rfl,lk,hcd⟩:=F.ex
 refine y6Y lk hcd S len fun A outer s H vs Q E hr hsp=>?_
 obtain⟨t,h,q⟩:=S4 cdv A outer s H vs Q E hr hsp
 exact⟨t,h.nox,q⟩
theorem R5.binds{x qual:Str}{st:Stmt}{f T:Addr}{items:Array Value}{fd:FuncData}{ps:List Str}{ds:List Value}(F:R5 K x qual st f fd T items)
  (h:∀(kV doc pm:Value) (an:Option Addr) (cdv ct:Value) (us:List Value),us.length+ds.length=ps.length->∃k,bindArgs (PySem.W.fnOf x qual (z1t st) (z1k st) (z07 st) (.ref T) kV doc pm an cdv ct) ⟨us,[]⟩=seqItems? (.ref T) >>= k/\k (some items)=pure (ps.zip (us++ds))):z1X K fd ps ds:=by
 obtain⟨oc,od,kV,doc,pm,an,cdv,ct,osl,rfl,lk,hcd⟩:=F.ex
 obtain⟨o,n,lt,hs⟩:=F.dt
 intro s us KX hl
 rw[bJ] at hl
 obtain⟨k,h1,h2⟩:=h kV doc pm an cdv ct us hl
 exact .of_defaults rfl (KX _ _ lt) hs h1 h2
theorem y6e{x qual:Str}{st:Stmt}{f T:Addr}{oc oct:Value}{od odt an:Option Addr}{osl oslt:Array (Option Value)}{items:Array Value}{n:Nat}{kV doc pm cdv ct:Value}(l:K.lookup f=some ⟨oc,od,.func (PySem.W.fnOf x qual (z1t st) (z1k st) (z07 st) (.ref T) kV doc pm an cdv ct),osl⟩)
  (lt:K.lookup T=some ⟨oct,odt,.seq items n,oslt⟩) (c:PySem.W.codeIn K cdv qual=true) (k:PySem.W.keepIn K (.ref f)=true):R5 K x qual st f (PySem.W.fnOf x qual (z1t st) (z1k st) (z07 st) (.ref T) kV doc pm an cdv ct) T items:=⟨⟨oc,od,kV,doc,pm,an,cdv,ct,osl,rfl,l,c⟩,k,_,n,lt,rfl⟩
end
structure L5(P:Program)(w:World)(K:PySem.W.Frag)(mg:Str->Option Value)(base:Heap)(k:Nat)(C:Addr)(m:Str)(ps:List Str)(sp:Sp)(dvs:List V):Prop where
 cl:Cls K C
 ex:∃(f:Addr) (fd:FuncData) (ds:List Value),A7 P w K mg base CX0 k f fd ps sp/\z1X K fd ps ds/\Vals dvs ds/\Meth K C m f
theorem L5.mk'{P:Program}{w:World}{K:PySem.W.Frag}{mg:Str->Option Value}{base:Heap}{k:Nat}{C:Addr}{m:Str}{ps:List Str}{sp:Sp}{dvs:List V}{ds:List Value}{f:Addr}{fd:FuncData}(v:Vals dvs ds)(c:Cls K C)(a:A7 P w K mg base CX0 k f fd ps sp)(b:z1X K fd ps ds)(d:Meth K C m f) :
  L5 P w K mg base k C m ps sp dvs:=⟨c,f,fd,ds,a,b,v,d⟩
theorem L5.mono{P:Program}{w:World}{K:PySem.W.Frag}{mg:Str->Option Value}{base:Heap}{j k:Nat}{C:Addr}{m:Str}{ps:List Str}{sp:Sp}{dvs:List V}(G:L5 P w K mg base j C m ps sp dvs)(h:j≤k):L5 P w K mg base k C m ps sp dvs:=by
 obtain⟨f,fd,ds,a,b,v,c⟩:=G.ex
 exact⟨G.cl,f,fd,ds,a.mono h,b,v,c⟩
theorem z9c{X:Cx}{k:Nat}{C:Addr}{m:Str}{ps:List Str}{sp:Sp}{dvs:List V}{o e:Expr}{es:List Expr}{ta:TE}{t:TA}{pos apos:Pos}{pl:Sem Bool}(G:L5 X.prog X.w X.K X.mg X.base k C m ps sp dvs)(hr:D3 k X.A)(he:PE X o ta)(ha:PA X (e::es) t)
  (hst:starEach (e::es) X.env=(false,eval e X.env)::starEach es X.env:=by rfl) (hpl:(backTo pos (starEach es X.env)).any (·.1)=false:=by rfl)
  (ht:eval (.Call (.Attribute o m apos) (e::es) [] pos) X.env=(do
   let ov <- eval o X.env
   standAt apos.atName
   let (f,first) <- holding [ov] (getMethod ov m pl)
   callWith pos f first (backTo pos (starEach (e::es) X.env)) (backToKw pos (keywordEach [] X.env))):=by rfl) :
  PE X (.Call (.Attribute o m apos) (e::es) [] pos) (y2N C m sp dvs E0 ta t):=by
 obtain⟨f,fd,ds,a,b,v,d⟩:=G.ex
 exact y3o he G.cl d a hr b v y3a ha hst hpl ht
end L2
namespace HT
open PySem PySem.Spec PyProof.Rows L2
section
variable{prog:Program}{w:World}{A:Around}{E:Value->Shared->Prop}{s:Shared}
theorem z63{t sl:Addr}{items:Array Value}{vl vu:Value}{lo hi:Option Int}{Q:Value->Shared->Prop}(ht:IsTup s.heap t items)(hs:s.heap.IsSliceOf sl vl vu .none)(pl:IsPart vl lo)(pu:IsPart vu hi)
  (hw:sIx items.size 0 lo=0/\sIx items.size items.size hi=items.size) (h:Q (.ref t) s):wpAny (model prog w) A (getItem (.ref t) (.ref sl)) Q E s:=by
 obtain⟨os,hos,hcs,hds⟩:=id hs
 have hTs:s.TypeIs (.ref sl) "slice":=⟨os,hos,hcs⟩
 unfold getItem
 try with_reducible refine wpAny_holding ?_
 first|refine wpAny_bind (wpAny_pure ?_)|skip
 refine wpAny_bind (wpAny_sequenceKey ht.typeIs (by decide) ?_)
 refine wpAny_bind (wpAny_callSpecial?_slot (name:=Str.ofString "__getitem__") ht.typeIs cZ
  (wpAny_call_entry cZ ht.typeIs entry_tuple_getitem ?_ (args_tuple_getitem _ _)))
 show wpAny _ _ (Builtin.Tuple.tupleItemsOf (.ref t) >>= _) _ _ s
 refine wpAny_bind (tupleItemsOf_ ht ?_)
 refine wpAny_bind (wpAny_typeOf hTs ?_)
 rw[if_pos (by decide)]
 refine wpAny_bind (z3S hs pl pu ?_)
 have hyes:(((sIx items.size 0 lo:Nat):Int) == 0 && (1:Int) == 1 && (sIx items.size items.size hi-sIx items.size 0 lo) == items.size)=true:=by
  rw[hw.1,hw.2]
  simp
 show wpAny _ _ (if (((sIx items.size 0 lo:Nat):Int) == 0 && (1:Int) == 1 && (sIx items.size items.size hi-sIx items.size 0 lo) == items.size)=true then _ else _) _ _ s
 rw[if_pos hyes]
 refine wpAny_bind (m:=Builtin.Tuple.tupleIsExact _) (wpAny_bind (wpAny_typeOf ht.typeIs (wpAny_pure ?_)))
 rw[if_pos (by decide)]
 refine wpAny_bind (wpAny_rule ?_)
 exact wpAny_pure ⟨_,rfl,wpAny_pure h⟩
end
end HT
namespace L2
open PySem PySem.Spec PyProof.Rows
def z2W:List V->List V->Bool
 | [],[]=>true
 | x::xs,y::ys=>eqV x y && z2W xs ys
 | _,_=>false
theorem z9a:∀xs ys:List V,((List.range (min xs.length ys.length)).all (fun j=>eqV (xs.getD j .non) (ys.getD j .non)) && xs.length == ys.length)=z2W xs ys
 | [],[]=>rfl
 | [],_::_=>rfl
 | _::_,[]=>rfl
 | x::xs,y::ys=>by
  have ih:=z9a xs ys
  unfold z2W
  rw[<- ih,cB,cB,Nat.succ_min_succ,List.range_succ_eq_map,fG,jH,Bool.and_assoc]
  congr 1
  congr 1
  rw[cX]
  simp
theorem z9l:∀{x:V},z1Y x=true->eqV x x=true:=fun {x} h=>by
 cases x with
 | non=>rfl
 | bl b=>exact beq_self_eq_true b
 | int i=>exact beq_self_eq_true i
 | str z=>exact beq_self_eq_true z
 | _=>exact absurd (show false=true from h) bO
theorem z6p:∀{xs:List V},xs.all z1Y=true->z2W xs xs=true
 | [],_=>rfl
 | x::xs,h=>by
  rw[fG,bW] at h
  unfold z2W
  rw[z9l h.1,z6p h.2]
  rfl
theorem z6k:∀{xs:List V}{us:List Value},Vals xs us->xs.all z1Y=true->∀(j:Nat) (h:j<us.length),RelV (xs.getD j .non) us[j]/\z1Y (xs.getD j .non)=true
 | _,_,.nil,_,j,h=>absurd h (gD _)
 | x::xs,u::us,.cons r t,f,0,h=>by
  rw[fG,bW] at f
  exact⟨r,f.1⟩
 | x::xs,u::us,.cons r t,f,j+1,h=>by
  rw[fG,bW] at f
  exact z6k t f.2 j (Nat.lt_of_succ_lt_succ h)
def eqI:List Value->List V->Bool
 | [],[]=>true
 | u::us,x::xs=>eqU x u && eqI us xs
 | _,_=>false
theorem y3D:∀{ys:List V}{us:List Value} (xs:List V),Vals ys us->ys.all z1Y=true->eqI us xs=z2W ys xs
 | _,_,[],.nil,_=>rfl
 | _,_,_::_,.nil,_=>rfl
 | y::ys,u::us,[],.cons r t,f=>rfl
 | y::ys,u::us,x::xs,.cons r t,f=>by
  rw[fG,bW] at f
  unfold eqI z2W
  rw[y18 r f.1,y3D xs t f.2]
section
variable{X:Cx}
theorem y3V{A:Around}{s:Shared}{a b:Addr}{its K8:List Value}{xs ys:List V}(pl:s.heap.IsTuple a its.toArray)(pl2:s.heap.IsTuple b K8.toArray)(r:Vals xs its)(r2:Vals ys K8)(f:xs.all z1Y=true)(f2:ys.all z1Y=true)(hu:A.units<cLine) :
  SeqAt.RcAt A s (.ref a) (.ref b) (z2W xs ys):=by
 have h:=SeqAt.RcAt.tuples (e:=fun j=>eqV (xs.getD j .non) (ys.getD j .non)) pl pl2 hu fun j h1 h2=>by
  rw[bK] at h1 h2
  obtain⟨q1,q2⟩:=z6k r f j h1
  obtain⟨q3,q4⟩:=z6k r2 f2 j h2
  exact y33 q1 q3 q2 q4
 rw[bK,bK,<- r.length,<- r2.length,z9a] at h
 exact h
def rEqT(K:PySem.W.Frag):R2:=fun x y H Q=>∃a b xs ys,x=.ref a/\y=.ref b/\SqT K H a xs/\SqT K H b ys/\xs.all z1Y=true/\ys.all z1Y=true/\Q (.bl (z2W xs ys)) H
theorem y6v(hu:X.A.units<cLine):OpR X (compareOp .Eq) (rEqT X.K):=by
 intro pins s σ H x y v u Q I rx ry h
 obtain⟨a,b,xs,ys,rfl,rfl,ha,hb,f1,f2,q⟩:=h
 cases rx
 cases ry
 obtain⟨its,r,pl,hz⟩:=I.tuple ha
 obtain⟨K8,r2,pl2,hz2⟩:=I.tuple hb
 exact y3V pl pl2 r r2 f1 f2 hu X.prog X.w X.xe _ ⟨.bl _,H,I,rfl,q⟩
def z3z(s:Shared)(xs:List V):Value->Bool
 | .ref b=>match s.heap.get? b with
  | some o=>match o.data with
   | .seq its _=>eqI its.toList xs
   | _=>false
  | none=>false
 | _=>false
def y5T(K:PySem.W.Frag):R2:=fun x y H Q=>∃a p xs us yss,x=.ref a/\y=.ref p/\SqT K H a xs/\xs.all z1Y=true/\SqL K H p us/\Paired (fun u ys=>∃b,u=.ref b/\SqT K H b ys/\ys.all z1Y=true) us yss/\Q (.bl (!yss.any fun ys=>z2W ys xs)) H
theorem y2p(hu:X.A.units+1<cLine):OpR X (compareOp .NotIn) (y5T X.K):=by
 intro pins s σ H x y v u Q I rx ry h
 obtain⟨a,p,xs,us,yss,rfl,rfl,ha,f1,hp,pr,q⟩:=h
 cases rx
 cases ry
 obtain⟨its,r,pl,hz⟩:=I.tuple ha
 obtain⟨K8,r2,pl2,hz2⟩:=I.list hp
 have item:∀(b:Addr) (ys:List V),SqT X.K H b ys->ys.all z1Y=true->z3z s xs (.ref b)=z2W ys xs/\SeqAt.EqAt X.A.in1 s (.ref b) (.ref a) (z2W ys xs):=fun b ys hb fb=>by
  obtain⟨its3,r3,pl3,hz3⟩:=I.tuple hb
  have e1:z3z s xs (.ref b)=z2W ys xs:=by
   obtain⟨o,ho,hc,n,hd⟩:=pl3
   unfold z3z
   simp only[ho,hd]
   exact y3D xs r3 fb
  refine⟨e1,?_⟩
  by_cases hne:b=a
  ·subst hne
   have e2:z2W ys xs=true:=by
    rw[<- e1]
    obtain⟨o,ho,hc,n,hd⟩:=pl
    unfold z3z
    simp only[ho,hd]
    rw[y3D xs r f1]
    exact z6p f1
   rw[e2]
   exact SeqAt.EqAt.same _
  ·exact SeqAt.EqAt.of_refs hne (y3V pl3 pl r3 r fb f1 hu)
 have all:∀{us:List V}{yss:List (List V)}{vs:List Value},Paired (fun u ys=>∃b,u=.ref b/\SqT X.K H b ys/\ys.all z1Y=true) us yss->Vals us vs->vs.any (z3z s xs)=yss.any (fun ys=>z2W ys xs)/\∀v∈vs,SeqAt.EqAt X.A.in1 s v (.ref a) (z3z s xs v):=by
  intro us yss vs pr
  induction pr generalizing vs with
  | nil=>
   intro r
   cases r
   exact⟨rfl,fun v hv=>(nomatch hv)⟩
  | cons h t ih=>
   intro r
   cases r with
   | cons r1 rt=>
    obtain⟨b,rfl,hb,fb⟩:=h
    cases r1
    obtain⟨i1,i2⟩:=ih rt
    obtain⟨j1,j2⟩:=item b _ hb fb
    refine⟨by rw[fH,fH,i1,j1],fun v hv=>?_⟩
    rcases bF.mp hv with rfl|hv
    ·rw[j1];exact j2
    ·exact i2 v hv
 obtain⟨a1,a2⟩:=all pr r2
 refine SeqAt.notIn_listAt (z3z s xs) pl2.isList (fun w hw=>a2 w (by simpa using hw)) ⟨.bl _,H,I,rfl,?_⟩
 rw[show K8.toArray.any (z3z s xs)=K8.any (z3z s xs) by simp,a1]
 exact q
end
def rSlA(K:PySem.W.Frag):V->Option Int->Option Int->Hp->VK->Prop:=fun x lo hi H Q=>∃a xs,x=.ref a/\SqT K H a xs/\((HT.sIx xs.length 0 lo=0/\HT.sIx xs.length xs.length hi=xs.length)->Q (.ref a) H)/\
 (¬(HT.sIx xs.length 0 lo=0/\HT.sIx xs.length xs.length hi=xs.length)->∀p,H p=none->Q (.ref p) (upd H p (.tup (K5 xs lo hi))))
theorem y2Y{X:Cx}:SlR X (rSlA X.K):=by
 intro pins s σ H x v vl vu lo hi sl Q I rx hs pl pu h
 obtain⟨a,xs,rfl,hx,q1,q2⟩:=h
 by_cases hw:HT.sIx xs.length 0 lo=0/\HT.sIx xs.length xs.length hi=xs.length
 ·cases rx
  obtain⟨its,r,ht,hz⟩:=I.tuple hx
  have hlen:its.toArray.size=xs.length:=by rw[bK];exact r.length.symm
  exact⟨"tuple",_,cZ.lookup,ht.typeIs,HT.z63 ht hs pl pu (by rw[hlen];exact hw) ⟨.ref a,H,I,rfl,q1 hw⟩⟩
 ·exact y57 pins s σ H (.ref a) v vl vu lo hi sl Q I rx hs pl pu ⟨a,xs,rfl,hx,hw,q2 hw⟩
def rNeT(K:PySem.W.Frag):R2:=fun x y H Q=>∃a b xs ys,x=.ref a/\y=.ref b/\SqT K H a xs/\SqT K H b ys/\xs.all z1Y=true/\ys.all z1Y=true/\Q (.bl (!z2W xs ys)) H
theorem y6S{X:Cx}(hu:X.A.units<cLine):OpR X (compareOp .NotEq) (rNeT X.K):=by
 intro pins s σ H x y v u Q I rx ry h
 obtain⟨a,b,xs,ys,rfl,rfl,ha,hb,f1,f2,q⟩:=h
 cases rx
 cases ry
 obtain⟨its,r,pl,hz⟩:=I.tuple ha
 obtain⟨K8,r2,pl2,hz2⟩:=I.tuple hb
 have h:=SeqAt.RcNeAt.tuples (A:=X.A) (e:=fun j=>eqV (xs.getD j .non) (ys.getD j .non)) pl pl2 hu fun j h1 h2=>by
  rw[bK] at h1 h2
  obtain⟨q1,q2⟩:=z6k r f1 j h1
  obtain⟨q3,q4⟩:=z6k r2 f2 j h2
  exact y33 q1 q3 q2 q4
 rw[bK,bK,<- r.length,<- r2.length,z9a] at h
 exact h X.prog X.w X.xe _ ⟨.bl _,H,I,rfl,q⟩
def F5(a b c:Int):Nat:=(Builtin.Range.rangeSize a b c).toNat
theorem y13{a b c:Int}(hc:c<0):F5 a b c=if a > b then ((a-b-1) / (-c)+1).toNat else 0:=by
 unfold F5 Builtin.Range.rangeSize
 rw[if_neg (by omega)]
 split<;>rfl
theorem y0n{a b c:Int}{i:Nat}(hc:c<0)(h:i<F5 a b c):b<a+i*c/\a+i*c≤a:=by
 rw[y13 hc] at h
 split at h
 ·have h0:0≤(a-b-1) / (-c):=Int.ediv_nonneg (by omega) (by omega)
  have h1:(i:Int)≤(a-b-1) / (-c):=by omega
  have h2:(a-b-1) / (-c)*(-c)≤a-b-1:=Int.ediv_mul_le _ (by omega)
  have h3:(i:Int)*(-c)≤(a-b-1) / (-c)*(-c):=Int.mul_le_mul_of_nonneg_right h1 (by omega)
  have h4:(i:Int)*(-c)=-((i:Int)*c):=Int.mul_neg _ _
  have h5:(0:Int)≤(i:Int)*(-c):=Int.mul_nonneg (by omega) (by omega)
  omega
 ·exact absurd h (gD _)
theorem y4s{a b c:Int}(hc:c<0):(F5 a b c:Int)≤(a-b).toNat:=by
 rw[y13 hc]
 split
 ·have h0:0≤(a-b-1) / (-c):=Int.ediv_nonneg (by omega) (by omega)
  have h1:(a-b-1) / (-c)≤a-b-1:=Int.ediv_le_self _ (by omega)
  omega
 ·omega
def Itk(hi c:Int)(n:Nat):It:=⟨fun i _=>i<n,fun i H x H'=>H'=H/\x=.int (hi+i*c),fun i _=>n≤i⟩
theorem y44{P:Program}{w:World}{K:PySem.W.Frag}{tg:Expr}(it:Addr)(hi c:Int)(n:Nat):Turn P w K tg (Itk hi c n) [it] it (fun i h=>IsRangeIter h it (hi+(i:Nat)*c) ((n:Int)-(i:Nat)) c) where
 mem:=by simp
 obj:=fun i h st b hb=>by
  have e:b=it:=by simpa using hb
  subst e
  exact⟨_,st,fun v z=>by
   have z':Data.fields _=Data.cell v:=z
   cases z'⟩
 keep:=fun i h h' st k=>k it (by simp) _ st
 item:=by
  intro X hP hw hK hc i pins s σ H E I hf st hg
  subst hP hw hK
  obtain⟨f0,f1,f2,f3,f4,f5⟩:=hf it (by simp)
  have W:=Walks.range (prog:=X.prog) (w:=X.w) (I.ok.hd hc) it hi c n
  refine W.item i s _ _ hg st fun v h' tk hv st' kk=>?_
  obtain⟨t,rfl⟩:=hv
  have I1:Inv X pins σ H { s with heap:=h',toks:=tk }:=I.turned (fun b o hb e=>kk b o (by simpa using hb) e) f0 f1 f3 f4 f5
  exact⟨_,rfl,y1C (s:={ s with heap:=h',toks:=tk }) (n:="range_iterator") st' rfl rfl (by decide) ⟨.int (hi+i*c),H,I1,⟨t,rfl⟩,⟨rfl,rfl⟩,st',fun b hb=>(hf b hb).1⟩⟩
 done:=by
  intro X hP hw hK hc i pins s σ H E I hf st hg
  subst hP hw hK
  obtain⟨f0,f1,f2,f3,f4,f5⟩:=hf it (by simp)
  exact wpAny_pyNext_range_end (I.ok.hd hc) st (by have:n≤i:=hg;omega) fun h' eb=>⟨rfl,I.turned (t':=s.toks) (fun b o hb e=>eb b o hb e) f0 f1 f3 f4 f5⟩
 self:=fun _ _ _ _ _ st h=>wpAny_pyIter_rangeiter st h
theorem y1I{a b c:Int}(ha:-1000≤a)(ha':a≤1000)(hb:-1000≤b)(hb':b≤1000)(hc:c<0)(hc':-1000≤c):Builtin.Range.small a b c=true:=by
 have h:=y4s (a:=a) (b:=b) hc
 have e:Builtin.Range.rangeSize a b c=(F5 a b c:Int):=by
  unfold F5
  exact rangeSize_toNat a b c
 unfold Builtin.Range.small
 rw[e]
 have h0:(0:Int)≤(F5 a b c:Int):=Int.natCast_nonneg _
 have h':(F5 a b c:Int)≤2000:=by omega
 clear h
 generalize (F5 a b c:Int)=m at h' h0
 rw[if_neg (show ¬c > 0 by omega)]
 simp only[Builtin.Range.rangeFitsLong,bW,gC,decide_eq_true_eq,beq_iff_eq]
 exact⟨by omega,.inr (by omega)⟩
section
variable{X:Cx}{tg:Expr}
def w0w(ta:TA):TI:=fun σ H R=>ta σ H fun vs H1=>∃i j c:Int,vs=[.int i,.int j,.int c]/\(-1000≤i/\i≤1000/\-1000≤j/\j≤1000/\c<0/\-1000≤c)/\R (Itk i c (F5 i j c)) H1
theorem y3k{a b c:Expr}{ta:TA}{p pos:Pos}(hg:Gl X "range")(hm:X.mg "range"=none)(ha:PA X [a,b,c] ta)
  (hs:starEach [a,b,c] X.env=[(false,eval a X.env),(false,eval b X.env),(false,eval c X.env)]:=by rfl) (hs2:starEach [b,c] X.env=[(false,eval b X.env),(false,eval c X.env)]:=by rfl) :
  PI X tg (.Call (.Name "range" p) [a,b,c] [] pos) (w0w ta):=by
 intro pins s σ H R I h
 refine Call_ (z4L I hg hm boot_range (dC (thn (ha pos pins s σ H _ I h) fun us s1 ⟨vs,H1,I1,r1,q1⟩=>?_) (by rw[hs,hs2]) (by rw[hs2];rfl)))
 obtain⟨i,j,k,e,⟨q1,q2,q3,q4,q5,q6⟩,q⟩:=q1
 subst e
 cases r1 with
 | cons r rr=>
  cases rr with
  | cons r' rr=>
   cases rr with
   | cons r'' rr=>
    cases rr
    obtain⟨t,rfl⟩:=r
    obtain⟨t',rfl⟩:=r'
    obtain⟨t'',rfl⟩:=r''
    refine call_range_3 (by omega) ?_ (.inl (gT (by omega)))
    refine wpAny_pyIter_range (IsRange.new ..) (y1I q1 q2 q3 q4 q5 q6) ?_
    have I2:Inv X pins σ H1 { s1 with heap:=s1.heap.push { cls:=.type "range",data:=.fields #[.int i t,.int j t',.int k t''] },toks:=s1.toks }:=I1.kept fun b o e=>bB _ e
    refine⟨(s1.heap.push { cls:=.type "range",data:=.fields #[.int i t,.int j t',.int k t''] }).objs.size,[(s1.heap.push { cls:=.type "range",data:=.fields #[.int i t,.int j t',.int k t''] }).objs.size],_,_,H1,rfl,
     I2.kept (t':=s1.toks) fun b o e=>bB _ e,y44 _ i k (F5 i j k),?_,fun b hb=>?_,q⟩
    ·have e1:i+((0:Nat):Int)*k=i:=by simp
     have e2:((F5 i j k:Nat):Int)-((0:Nat):Int)=Builtin.Range.rangeSize i j k:=by
      unfold F5
      rw[<- rangeSize_toNat i j k]
      simp
     show IsRangeIter _ _ (i+((0:Nat):Int)*k) (((F5 i j k:Nat):Int)-((0:Nat):Int)) k
     rw[e1,e2]
     exact bN _ rfl
    ·have e:b=(s1.heap.push { cls:=.type "range",data:=.fields #[.int i t,.int j t',.int k t''] }).objs.size:=by simpa using hb
     subst e
     exact I2.Q2 (bH _) (I2.hok.fresh (bH _))
end
theorem y1n{hi c:Int}{n:Nat}{g:TG}{tb:TS}{D:Ends}{σ:St}{H:Hp}(Pv:Nat->St->Hp->Prop)(h0:Pv 0 σ H)
  (hs:∀i σ H,i<n->Pv i σ H->g (.int (hi+i*c)) σ H fun σ2 H2=>tb { D with nx:=Pv (i+1),ct:=Pv (i+1),bk:=D.nx } σ2 H2) (hd:∀σ H,Pv n σ H->D.nx σ H) :
  ∃W:Nat->Nat->St->Hp->Prop,(∃m,W 0 m σ H)/\∀i m σ H,W i m σ H->
   ((Itk hi c n).stop i H/\D.nx σ H)\/((Itk hi c n).go i H/\∃N:St->Hp->Prop,(∀σ' H',N σ' H'->∃m',m'<m/\W (i+1) m' σ' H')/\∀x H',(Itk hi c n).yld i H x H'->g x σ H' fun σ2 H2=>tb { D with nx:=N,ct:=N,bk:=D.nx } σ2 H2):=by
 refine⟨fun i m σ H=>m=n-i/\i≤n/\Pv i σ H,⟨n,by simp,cT _,h0⟩,?_⟩
 rintro i m σ H ⟨rfl,hi',p⟩
 by_cases hlt:i<n
 ·refine .inr ⟨hlt,Pv (i+1),fun σ' H' p'=>⟨n-(i+1),by omega,rfl,hlt,p'⟩,fun x H' y=>?_⟩
  obtain⟨e,y⟩:=y
  subst e y
  exact hs i σ _ hlt p
 ·have e:i=n:=by omega
  subst e
  exact .inl ⟨bH _,hd σ H p⟩
theorem len7{us:List Value}{p:List Value->Prop}(h:us.length=7)(k:∀a b c d e f g,p [a,b,c,d,e,f,g]):p us:=by
 match us,h with
 | [a,b,c,d,e,f,g],_=>exact k a b c d e f g
end L2
namespace HT
open PySem PySem.Spec PyProof.Rows L2
section
variable{prog:Program}{w:World}{A:Around}{E:Value->Shared->Prop}{s:Shared}
theorem y4H{t b:Addr}{vs ws:List Value}{Q:Value->Shared->Prop}(ht:IsTup s.heap t vs.toArray)(hb:IsTup s.heap b ws.toArray)(h0:vs=[]->Q (.ref b) s)
  (h1:vs≠[]->ws=[]->Q (.ref t) s) (h2:vs≠[]->ws≠[]->Q (.ref s.heap.objs.size) { s with heap:=s.heap.push { cls:=.type "tuple",data:=.seq (vs++ws).toArray } })
  (hsz:vs.length+ws.length≤sizeLine):wpAny (model prog w) A (binaryOp .Add (.ref t) (.ref b)) Q E s:=by
 by_cases hv:vs=[]
 ·obtain⟨⟨cls,dd,data,sl⟩,ho,hc,n,hd⟩:=id ht
  obtain⟨⟨cls2,dd2,data2,sl2⟩,ho2,hc2,n2,hd2⟩:=id hb
  simp only at hc hd hc2 hd2
  subst hc hd hc2 hd2
  exact concat_meets ⟨_,ho,rfl⟩ ⟨_,ho2,rfl⟩ noFill_tuple_add seq_tuple_add gU gO (gH _ _)
   (tuple_addW0 t b vs.toArray ws.toArray n n2 dd dd2 sl sl2 (by simp[hv])) ⟨ho,ho2,h0 hv⟩
 ·exact y2L ht hb hv (h1 hv) (h2 hv) hsz
end
end HT
namespace L2
open PySem PySem.Spec PyProof.Rows
section
variable{X:Cx}
def w07:R2:=fun x y H Q=>∃a b xs ys,x=.ref a/\y=.ref b/\H a=some (.tup xs)/\H b=some (.tup ys)/\xs.length+ys.length≤sizeLine/\∀p H',A4 H H'->H' p=some (.tup (xs++ys))->Q (.ref p) H'
theorem y2P:OpR X (binaryOp .Add) w07:=by
 intro pins s σ H x y v u Q I rx ry h
 obtain⟨a,b,xs,ys,rfl,rfl,ha,hb,hz,q⟩:=h
 cases rx
 cases ry
 obtain⟨its,r1,p1,_⟩:=I.tuple (SqT.of ha)
 obtain⟨K8,r2,p2,_⟩:=I.tuple (SqT.of hb)
 refine HT.y4H p1 p2 (fun z=>?_) (fun z0 z=>?_) (fun z0 z=>?_) (by rw[<- r1.length,<- r2.length];exact hz)
 ·refine⟨.ref b,H,I,rfl,q b H (A4.refl _) ?_⟩
  rw[r1.N9.mp z]
  exact hb
 ·refine⟨.ref a,H,I,rfl,q a H (A4.refl _) ?_⟩
  rw[r2.N9.mp z,cY]
  exact ha
 ·refine⟨.ref s.heap.objs.size,_,I.laid (t':=s.toks) (o:=.tup (xs++ys)) (fun b ob q=>bB _ q) (bH _) ?_,rfl,q _ _ (fun c o e=>?_) z03⟩
  ·exact⟨by rw[bJ];exact hz,_,r1.append r2,PlT.new _ _⟩
  ·rw[z0h (z0r e (I.hok.fresh (bH _)))]
   exact e
def rSlB:V->Option Int->Option Int->Hp->VK->Prop:=fun x lo hi H Q=>∃a xs,x=.ref a/\H a=some (.tup xs)/\∀p H',A4 H H'->H' p=some (.tup (K5 xs lo hi))->Q (.ref p) H'
theorem y2U:SlR X rSlB:=by
 intro pins s σ H x v vl vu lo hi sl Q I rx hs pl pu h
 obtain⟨a,xs,rfl,ha,q⟩:=h
 refine y2Y pins s σ H (.ref a) v vl vu lo hi sl Q I rx hs pl pu ⟨a,xs,rfl,SqT.of ha,fun hw=>q a H (A4.refl _) ?_,fun _ p hp=>q p _ (fun c o e=>by rw[z0h (z0r e hp)];exact e) z03⟩
 have e:K5 xs lo hi=xs:=by
  unfold K5
  rw[hw.1,hw.2,eU,gJ,bP]
 rw[e]
 exact ha
def y5L(K:PySem.W.Frag):V->List V->Hp->VK->Prop:=fun x vs H Q=>∃(l:Addr) (zs:List Str) (z:Str) (j:Nat),x=.ref l/\vs=[.str z]/\SqL K H l (zs.map V.str)/\zs[j]? = some z/\(∀m,m<j->zs[m]? ≠ some z)/\Q (.int (j:Nat)) H
theorem z1O(zs:List Str):(zs.map V.str).all z1Y=true:=by
 rw[jH,jI]
 intro z _
 rfl
theorem y3T:MtM X "list.index" (y5L X.K):=by
 intro pins s σ H x vs v us Q I rx rv h
 obtain⟨l,zs,z,j,rfl,rfl,hL,ej,hno,q⟩:=h
 cases rx
 obtain⟨u,rfl,ru⟩:=rv.one
 have ru0:=ru
 obtain⟨t,rfl⟩:=ru
 obtain⟨its,r,pl,hz⟩:=I.list hL
 have lr:=r.length
 rw[bA] at lr hz
 have hj:=(cC.mp ej).1
 have line:=sizeLine_eq
 have at_:∀(m:Nat) (hm:m<its.toArray.size),eqU (.str z) its.toArray[m]=decide (zs[m]? = some z):=fun m hm=>by
  have hm':m<its.length:=by rw[bK] at hm;exact hm
  obtain⟨q1,q2⟩:=z6k r (z1O zs) m hm'
  have eu:=y18 (x:=.str z) q1 q2
  have eg:(zs.map V.str).getD m .non=.str (zs[m]'(by omega)):=by
   rw[bM,bE,bD (show m<zs.length by omega)]
   rfl
  rw[eg] at eu
  rw[List.getElem_toArray,eu,bD (show m<zs.length by omega)]
  show(zs[m] == z)=decide (some zs[m]=some z)
  rw[cX,decide_eq_true_eq,beq_iff_eq,Option.some.injEq]
 obtain⟨⟨cls,dd,data,sl⟩,ho,hc,n,hd⟩:=id pl.isList
 simp only at hc hd
 subst hc hd
 have hjs:j<its.toArray.size:=by rw[bK];omega
 refine call_meets F.slot_list_index ⟨_,ho,rfl⟩ F.entry_list_index (F.args_list_index_2 _ _)
  (SeqAt.list_indexAt l its.toArray n dd sl (.str z t) (eqU (.str z)) j hjs (by omega) (by rw[at_ j hjs];exact decide_eq_true ej) (fun m hm hlt=>by rw[at_ m hm];exact decide_eq_false (hno m hlt)))
  ⟨ho,fun w hw=>z4B ru0 rfl r (z1O zs) w (by simpa using hw),?_⟩
 exact⟨.int j,H,I.tok _,⟨_,rfl⟩,q⟩
end
def DfK(K:PySem.W.Frag)(x q:Str)(st:Stmt)(dV:Value)(f:Addr):Prop:=∃(oc:Value) (od:Option Addr) (kV doc pm:Value) (an:Option Addr) (cdv ct:Value) (osl:Array (Option Value)),
 K.lookup f=some ⟨oc,od,.func (PySem.W.fnOf x q (z1t st) (z1k st) (z07 st) dV kV doc pm an cdv ct),osl⟩/\PySem.W.codeIn K cdv q=true/\PySem.W.keepIn K (.ref f)=true
def DfT(K:PySem.W.Frag)(x:Str)(st:Stmt)(dV:Value)(f:Addr):Prop:=PySem.W.nsIn K mainGlobals x=some (some (.ref f))/\DfK K x x st dV f
def DfM(K:PySem.W.Frag)(C:Addr)(x q:Str)(st:Stmt)(dV:Value)(f:Addr):Prop:=PySem.W.findIn K (.ref C) x=some (some (.ref f))/\PySem.W.isFn K (.ref f)=true/\DfK K x q st dV f
def DfD(K:PySem.W.Frag)(T:Addr)(its:Array Value):Prop:=∃oct odt nt slt,K.lookup T=some ⟨oct,odt,.seq its nt,slt⟩
def DfC(K:PySem.W.Frag)(x:Str)(C:Addr):Prop:=PySem.W.nsIn K mainGlobals x=some (some (.ref C))/\PySem.W.plainGet K C Str.empty=true/\PySem.W.hasDictIn K C=true/\PySem.W.plainOver K C=true/\PySem.W.findIn K (.ref C) "__setattr__"=some (some (.builtin "object.__setattr__"))/\PySem.W.makesIn K C=true/\PySem.W.keepIn K (.ref C)=true
section
variable{K:PySem.W.Frag}{mg:Str->Option Value}{x q:Str}{st:Stmt}{f C T:Addr}{fd:FuncData}{its:Array Value}
theorem DfK.fn(h:DfK K x q st .none f):∃fd,Fun K x q st f fd:=by
 obtain⟨oc,od,kV,doc,pm,an,cdv,ct,osl,l,c,k⟩:=h
 exact⟨_,y6r l c k⟩
theorem DfK.fnD(h:DfK K x q st (.ref T) f)(d:DfD K T its):∃fd,R5 K x q st f fd T its:=by
 obtain⟨oc,od,kV,doc,pm,an,cdv,ct,osl,l,c,k⟩:=h
 obtain⟨_,_,_,_,d⟩:=d
 exact⟨_,y6e l d c k⟩
theorem z0B{h:Heap}(X:K.In h)(G:h.Ns mainGlobals mg)(a:DfT K x st .none f):∃fd,Fun K x x st f fd/\mg x=some (.ref f):=by
 obtain⟨fd,F⟩:=a.2.fn
 exact⟨fd,F,d9 X G a.1⟩
theorem z1D(a:DfM K C x q st .none f):∃fd,Fun K x q st f fd/\Meth K C x f:=by
 obtain⟨fd,F⟩:=a.2.2.fn
 exact⟨fd,F,a.1,a.2.1,F.kp⟩
theorem y4t(a:DfM K C x q st (.ref T) f)(d:DfD K T its):∃fd,R5 K x q st f fd T its/\Meth K C x f:=by
 obtain⟨fd,F⟩:=a.2.2.fnD d
 exact⟨fd,F,a.1,a.2.1,F.kp⟩
theorem y0J{y:Str}(c:DfC K y C)(a:DfM K C "__init__" q st .none f):∃fd,Fun K "__init__" q st f fd/\Mk K C f:=by
 obtain⟨fd,F⟩:=a.2.2.fn
 exact⟨fd,F,c.2.2.2.2.2.1,a.1,a.2.1,c.2.2.2.2.2.2⟩
theorem DfC.cls{y:Str}(c:DfC K y C):Cls K C:=⟨c.2.1,c.2.2.1,c.2.2.2.1,c.2.2.2.2.1⟩
theorem DfC.nm{h:Heap}(X:K.In h)(G:h.Ns mainGlobals mg){y:Str}(c:DfC K y C):mg y=some (.ref C):=d9 X G c.1
theorem y35{p:Str}(F:Fun K x q st f fd)(h:∀kV doc pm an cdv ct v,bindArgs (PySem.W.fnOf x q (z1t st) (z1k st) (z07 st) .none kV doc pm an cdv ct) ⟨[v],[]⟩=pure [(p,v)]:=by intros;rfl):∀(s:Shared) (v:Value),BindsTo s fd ⟨[v],[]⟩ [(p,v)]:=by
 obtain⟨oc,od,kV,doc,pm,an,cdv,ct,osl,rfl,l,c⟩:=F.ex
 exact fun s v=>.of_eq (h _ _ _ _ _ _ _)
theorem b0(F:Fun K x q st f fd)(h:∀kV doc pm an cdv ct,bindArgs (PySem.W.fnOf x q (z1t st) (z1k st) (z07 st) .none kV doc pm an cdv ct) ⟨[],[]⟩=pure (List.zip [] []):=by intros;rfl):z1X K fd [] []:=
 F.binds fun kV doc pm an cdv ct us hl=>len0 (p:=fun us=>bindArgs _ ⟨us,[]⟩=pure (List.zip _ us)) hl (h kV doc pm an cdv ct)
theorem b1{p1:Str}(F:Fun K x q st f fd)(h:∀kV doc pm an cdv ct a,bindArgs (PySem.W.fnOf x q (z1t st) (z1k st) (z07 st) .none kV doc pm an cdv ct) ⟨[a],[]⟩=pure (List.zip [p1] [a]):=by intros;rfl):z1X K fd [p1] []:=
 F.binds fun kV doc pm an cdv ct us hl=>U2 (p:=fun us=>bindArgs _ ⟨us,[]⟩=pure (List.zip _ us)) hl (h kV doc pm an cdv ct)
theorem b2{p1 p2:Str}(F:Fun K x q st f fd)(h:∀kV doc pm an cdv ct a b,bindArgs (PySem.W.fnOf x q (z1t st) (z1k st) (z07 st) .none kV doc pm an cdv ct) ⟨[a,b],[]⟩=pure (List.zip [p1,p2] [a,b]):=by intros;rfl):z1X K fd [p1,p2] []:=
 F.binds fun kV doc pm an cdv ct us hl=>X7 (p:=fun us=>bindArgs _ ⟨us,[]⟩=pure (List.zip _ us)) hl (h kV doc pm an cdv ct)
theorem b3{p1 p2 p3:Str}(F:Fun K x q st f fd)(h:∀kV doc pm an cdv ct a b c,bindArgs (PySem.W.fnOf x q (z1t st) (z1k st) (z07 st) .none kV doc pm an cdv ct) ⟨[a,b,c],[]⟩=pure (List.zip [p1,p2,p3] [a,b,c]):=by intros;rfl):z1X K fd [p1,p2,p3] []:=
 F.binds fun kV doc pm an cdv ct us hl=>X4 (p:=fun us=>bindArgs _ ⟨us,[]⟩=pure (List.zip _ us)) hl (h kV doc pm an cdv ct)
theorem b4{p1 p2 p3 p4:Str}(F:Fun K x q st f fd)(h:∀kV doc pm an cdv ct a b c d,bindArgs (PySem.W.fnOf x q (z1t st) (z1k st) (z07 st) .none kV doc pm an cdv ct) ⟨[a,b,c,d],[]⟩=pure (List.zip [p1,p2,p3,p4] [a,b,c,d]):=by intros;rfl):z1X K fd [p1,p2,p3,p4] []:=
 F.binds fun kV doc pm an cdv ct us hl=>len4 (p:=fun us=>bindArgs _ ⟨us,[]⟩=pure (List.zip _ us)) hl (h kV doc pm an cdv ct)
theorem b5{p1 p2 p3 p4 p5:Str}(F:Fun K x q st f fd)(h:∀kV doc pm an cdv ct a b c d e,bindArgs (PySem.W.fnOf x q (z1t st) (z1k st) (z07 st) .none kV doc pm an cdv ct) ⟨[a,b,c,d,e],[]⟩=pure (List.zip [p1,p2,p3,p4,p5] [a,b,c,d,e]):=by intros;rfl):z1X K fd [p1,p2,p3,p4,p5] []:=
 F.binds fun kV doc pm an cdv ct us hl=>len5 (p:=fun us=>bindArgs _ ⟨us,[]⟩=pure (List.zip _ us)) hl (h kV doc pm an cdv ct)
theorem b6{p1 p2 p3 p4 p5 p6:Str}(F:Fun K x q st f fd)(h:∀kV doc pm an cdv ct a b c d e g,bindArgs (PySem.W.fnOf x q (z1t st) (z1k st) (z07 st) .none kV doc pm an cdv ct) ⟨[a,b,c,d,e,g],[]⟩=pure (List.zip [p1,p2,p3,p4,p5,p6] [a,b,c,d,e,g]):=by intros;rfl):z1X K fd [p1,p2,p3,p4,p5,p6] []:=
 F.binds fun kV doc pm an cdv ct us hl=>len6 (p:=fun us=>bindArgs _ ⟨us,[]⟩=pure (List.zip _ us)) hl (h kV doc pm an cdv ct)
theorem b7{p1 p2 p3 p4 p5 p6 p7:Str}(F:Fun K x q st f fd)(h:∀kV doc pm an cdv ct a b c d e g i,bindArgs (PySem.W.fnOf x q (z1t st) (z1k st) (z07 st) .none kV doc pm an cdv ct) ⟨[a,b,c,d,e,g,i],[]⟩=pure (List.zip [p1,p2,p3,p4,p5,p6,p7] [a,b,c,d,e,g,i]):=by intros;rfl):z1X K fd [p1,p2,p3,p4,p5,p6,p7] []:=
 F.binds fun kV doc pm an cdv ct us hl=>len7 (p:=fun us=>bindArgs _ ⟨us,[]⟩=pure (List.zip _ us)) hl (h kV doc pm an cdv ct)
end
theorem calF(P:Program)(w:World)(K:PySem.W.Frag)(mg:Str->Option Value)(base:Heap){k:Nat}{x:Str}{ps:List Str}{sp:Sp}{st:Stmt}{f:Addr}{fd:FuncData}(F:Fun K x x st f fd/\mg x=some (.ref f))(a:A7 P w K mg base CX0 k f fd ps sp)(b:z1X K fd ps []):Cal P w K mg base k x ps sp:=.mk' a b F.1.kp F.2
theorem mclF(P:Program)(w:World)(K:PySem.W.Frag)(mg:Str->Option Value)(base:Heap){k:Nat}{C:Addr}{x q:Str}{ps:List Str}{sp:Sp}{st:Stmt}{f:Addr}{fd:FuncData}(c:Cls K C)(F:Fun K x q st f fd/\Meth K C x f)(a:A7 P w K mg base CX0 k f fd ps sp)(b:z1X K fd ps []):C8 P w K mg base k C x ps sp:=.mk' c a b F.2
theorem mkrF(P:Program)(w:World)(K:PySem.W.Frag)(mg:Str->Option Value)(base:Heap){k:Nat}{C:Addr}{x y q:Str}{ps:List Str}{sp:Sp}{st:Stmt}{f:Addr}{fd:FuncData}(c:mg x=some (.ref C))(F:Fun K y q st f fd/\Mk K C f)(a:A7 P w K mg base CX0 k f fd ps sp)(b:z1X K fd ps []):Mkr P w K mg base k C x ps sp:=.mk' a b F.2 c
theorem scp{N P:List Str}{sc:Scope}(h1:sc.kind=.function:=by rfl)(h2:sc.isCoroutine=false:=by rfl)(h3:sc.isGenerator=false:=by rfl)(h4:N.Nodup:=by decide +kernel)(h5:N.take P.length=P:=by rfl)
  (h6:∀x∈P,sc.names.lookup x=some .local\/sc.names.lookup x=some .cell:=by decide +kernel) (h7:∀y∈sc.names,y.2≠.free:=by decide +kernel):A3 N P sc:=⟨h1,h2,h3,h4,h5,h6,h7⟩
theorem rm{j k:Nat}{A:Around}(r:D3 k A)(h:j≤k:=by omega):D3 j A:=r.mono h
theorem Cal.up{P:Program}{w:World}{K:PySem.W.Frag}{mg:Str->Option Value}{base:Heap}{j k:Nat}{x:Str}{ps:List Str}{sp:Sp}(G:Cal P w K mg base j x ps sp)(h:j≤k:=by decide):Cal P w K mg base k x ps sp:=G.mono h
theorem C8.up{P:Program}{w:World}{K:PySem.W.Frag}{mg:Str->Option Value}{base:Heap}{j k:Nat}{C:Addr}{x:Str}{ps:List Str}{sp:Sp}(G:C8 P w K mg base j C x ps sp)(h:j≤k:=by decide):C8 P w K mg base k C x ps sp:=G.mono h
theorem L5.up{P:Program}{w:World}{K:PySem.W.Frag}{mg:Str->Option Value}{base:Heap}{j k:Nat}{C:Addr}{x:Str}{ps:List Str}{sp:Sp}{d:List V}(G:L5 P w K mg base j C x ps sp d)(h:j≤k:=by decide):L5 P w K mg base k C x ps sp d:=G.mono h
theorem Mkr.up{P:Program}{w:World}{K:PySem.W.Frag}{mg:Str->Option Value}{base:Heap}{j k:Nat}{C:Addr}{x:Str}{ps:List Str}{sp:Sp}(G:Mkr P w K mg base j C x ps sp)(h:j≤k:=by decide):Mkr P w K mg base k C x ps sp:=G.mono h
section
variable{X:Cx}{mg:Str->Option Value}
theorem le2:2≤sizeLine:=by decide
end
end L2
namespace HT
open PySem PySem.Spec PyProof.Rows L2
section
variable{prog:Program}{w:World}{A:Around}{E:Value->Shared->Prop}{s:Shared}
end
end HT
namespace L2
open PySem PySem.Spec PyProof.Rows
section
variable{X:Cx}{es:List Expr}{ec:Nat}{tp:Pos}
end
section
variable{X:Cx}
end
end L2
namespace My
open PySem L2
def top(i:Nat):Stmt:=PySem.Challenge.pw_backissues_k33_whole_two_bulletins.main.body.getD i (.Pass ⟨0,0,0,0⟩)
abbrev z2B:Stmt:=top 14
abbrev z5n:Stmt:=top 15
abbrev z6q:Stmt:=top 16
abbrev z1B:Stmt:=top 17
abbrev z3N:Stmt:=top 18
abbrev z1J:Stmt:=top 19
abbrev z2f:Stmt:=top 27
abbrev z2e:Stmt:=top 28
abbrev z2Q:Stmt:=top 29
abbrev z1H:Stmt:=top 30
abbrev z85:Stmt:=top 35
abbrev z3b:Stmt:=top 36
abbrev z9o:Stmt:=top 37
abbrev z62:Stmt:=top 38
abbrev z7p:Stmt:=top 39
abbrev z2R:Stmt:=top 40
abbrev z6f:Stmt:=top 41
abbrev z7Z:Stmt:=top 43
abbrev z2i:Stmt:=top 45
abbrev z2D:Stmt:=top 46
abbrev z3d:Stmt:=top 47
abbrev z3n:Stmt:=top 48
abbrev z2A:Stmt:=z1b (top 49) 0
abbrev z1r:Stmt:=z1b (top 49) 1
abbrev z3G:Stmt:=z1b (top 49) 2
abbrev z3m:Stmt:=z1b (top 49) 3
abbrev z3O:Stmt:=z1b (top 49) 4
abbrev z5h:Stmt:=top 51
abbrev z4a:Stmt:=top 52
abbrev z2U:Stmt:=z1b (top 54) 0
abbrev z6l:Stmt:=z1b (top 54) 1
abbrev z6n:Stmt:=z1b (top 54) 2
abbrev z3D:Stmt:=z1b (top 54) 3
abbrev z3a:Stmt:=z1b (top 54) 4
abbrev z3i:Stmt:=z1b (top 54) 5
abbrev z1R:Stmt:=top 58
abbrev z3e:Stmt:=z1b (top 59) 0
abbrev z10:Stmt:=z1b (top 59) 1
abbrev z1d:Stmt:=z1b (top 59) 2
abbrev z5e:Stmt:=z1b (top 59) 3
abbrev z3A:Stmt:=z1b (top 59) 4
abbrev z4k:Stmt:=z1b (top 59) 5
abbrev z5l:Stmt:=z1b (top 59) 6
abbrev z5a:Stmt:=z1b (top 59) 7
abbrev z65:Stmt:=z1b (top 59) 8
abbrev z4X:Stmt:=z1b (top 59) 9
abbrev z90:Stmt:=top 61
abbrev z69:Stmt:=top 62
abbrev z8b:Stmt:=top 63
abbrev z4V:Stmt:=top 64
abbrev z4C:Stmt:=top 65
abbrev z5d:Stmt:=top 66
abbrev z3Q:Stmt:=top 67
abbrev z6r:Stmt:=top 68
abbrev z53:Stmt:=top 69
abbrev z4f:Stmt:=top 70
abbrev z52:Stmt:=top 71
abbrev z4b:Stmt:=top 72
abbrev z64:Stmt:=top 73
abbrev z6t:Stmt:=top 74
abbrev z4U:Stmt:=top 75
abbrev z4Y:Stmt:=top 76
abbrev z4W:Stmt:=top 77
abbrev z59:Stmt:=top 78
abbrev z49:Stmt:=top 79
abbrev z5q:Stmt:=top 80
abbrev z4o:Stmt:=top 81
abbrev z6d:Stmt:=top 82
abbrev z2T:Stmt:=top 83
abbrev Y3:Stmt:=top 84
abbrev z2z:List Str:=["had"]
abbrev z56:List Str:=["number","reach"]
abbrev z6o:List Str:=["had","number","reach"]
abbrev z17:List Str:=["had","reach"]
abbrev z2G:List Str:=["had","reach"]
abbrev z1L:List Str:=["had","reach","behind"]
abbrev z2c:List Str:=["names"]
abbrev z2d:List Str:=["reach"]
abbrev z21:List Str:=["names","reach"]
abbrev z1f:List Str:=["names","name"]
abbrev z3r:List Str:=["shelf","name"]
abbrev z3f:List Str:=["shelf","number","teller"]
abbrev z75:List Str:=["shelf"]
abbrev z6g:List Str:=["shelf","name"]
abbrev z5F:List Str:=["shelf","name"]
abbrev z2Y:List Str:=["shelf","name"]
abbrev z60:List Str:=["shelf"]
abbrev z87:List Str:=["sets","reach"]
abbrev z2g:List Str:=["value"]
abbrev z2x:List Str:=["names","rows"]
abbrev z3h:List Str:=["names","rows"]
abbrev z2m:List Str:=["rows"]
abbrev z2y:List Str:=["self","names","reach"]
abbrev z13:List Str:=["self","rows"]
abbrev z3M:List Str:=["self","rows"]
abbrev z3k:List Str:=["self"]
abbrev z20:List Str:=["self","number"]
abbrev z58:List Str:=["shelf"]
abbrev z48:List Str:=["shelf","name"]
abbrev z2S:List Str:=["self","names","reach"]
abbrev z6a:List Str:=["self","issue"]
abbrev z1S:List Str:=["self"]
abbrev z5E:List Str:=["self"]
abbrev z2n:List Str:=["self","number"]
abbrev z39:List Str:=["self","number"]
abbrev z1Q:List Str:=["readers"]
abbrev z2o:List Str:=["self","names","reach","readers"]
abbrev z0N:List Str:=["self","reader"]
abbrev z0R:List Str:=["self"]
abbrev z3B:List Str:=["self","rows"]
abbrev z2K:List Str:=["self","reader","number"]
abbrev z6K:List Str:=["self"]
abbrev z4R:List Str:=["self","number"]
abbrev z7Q:List Str:=["self"]
abbrev z8E:List Str:=["self","which"]
abbrev z2b:List Str:=["self","reader","deed"]
abbrev z9e:List Str:=["_law_script","_law_k"]
abbrev z4r:List Str:=["_law_cell","_law_size"]
abbrev z5x:List Str:=["_law_cell","_law_many","_law_size"]
abbrev z5i:List Str:=["_law_found"]
abbrev z1U:List Str:=["_law_found","_law_due"]
abbrev z5g:List Str:=["_law_cell","_law_many"]
abbrev z3L:List Str:=["_law_times"]
abbrev z66:List Str:=["_law_names","_law_cell","_law_many"]
abbrev z5b:List Str:=["_law_figure","_law_place"]
abbrev z4e:List Str:=["_law_sets_here","_law_cell"]
abbrev z55:List Str:=["_law_rows","_law_number","_law_reach"]
abbrev z2Z:List Str:=["_law_had","_law_number","_law_reach"]
abbrev z4q:List Str:=["_law_had","_law_rows","_law_reach"]
abbrev z4z:List Str:=["_law_had","_law_rows","_law_name"]
abbrev z51:List Str:=["_law_gaps_here","_law_number","_law_name"]
abbrev z3P:List Str:=["_law_gaps_here","_law_number","_law_name"]
abbrev z4S:List Str:=["_law_names","_law_had","_law_rows","_law_reach"]
abbrev z4T:List Str:=["_law_had","_law_rows","_law_reach"]
abbrev z40:List Str:=["_law_found","_law_names","_law_known_here"]
abbrev z5j:List Str:=["_law_cells","_law_many","_law_first","_law_readers"]
abbrev z46:List Str:=["_law_log","_law_reader","_law_done"]
abbrev z61:List Str:=["_law_book","_law_log","_law_rows"]
abbrev z2O:List Str:=["_law_course_here","_law_names","_law_rows","_law_had","_law_reach","_law_figure"]
abbrev plaw:List Str:=["_law_script"]
theorem z3v:A3 ["had","latest"] z2z (z07 z2B):=scp
theorem z6B:A3 ["number","reach"] z56 (z07 z5n):=scp
theorem z7P:A3 ["had","number","reach","tellers"] z6o (z07 z6q):=scp
theorem z2a:A3 ["had","reach"] z17 (z07 z1B):=scp
theorem z4M:A3 ["had","reach"] z2G (z07 z3N):=scp
theorem z2w:A3 ["had","reach","behind"] z1L (z07 z1J):=scp
theorem z32:A3 ["names"] z2c (z07 z2f):=scp
theorem z31:A3 ["reach"] z2d (z07 z2e):=scp
theorem z3W:A3 ["names","reach"] z21 (z07 z2Q):=scp
theorem z2q:A3 ["names","name"] z1f (z07 z1H):=scp
theorem z8r:A3 ["shelf","name","number","values"] z3r (z07 z85):=scp
theorem z43:A3 ["shelf","number","teller"] z3f (z07 z3b):=scp
theorem z9E:A3 ["shelf","lacking"] z75 (z07 z9o):=scp
theorem z7B:A3 ["shelf","name","held_from"] z6g (z07 z62):=scp
theorem z8J:A3 ["shelf","name","held_from","dark_behind"] z5F (z07 z7p):=scp
theorem z3T:A3 ["shelf","name"] z2Y (z07 z2R):=scp
theorem z7i:A3 ["shelf"] z60 (z07 z6f):=scp
theorem z8D:A3 ["sets","reach","number","ahead"] z87 (z07 z7Z):=scp
theorem z33:A3 ["value"] z2g (z07 z2i):=scp
theorem z3u:A3 ["names","rows","set_names","name","value"] z2x (z07 z2D):=scp
theorem z4p:A3 ["names","rows","values"] z3h (z07 z3d):=scp
theorem z4d:A3 ["rows"] z2m (z07 z3n):=scp
theorem z3t:A3 ["self","names","reach"] z2y (z07 z2A):=scp
theorem z1Z:A3 ["self","rows"] z13 (z07 z1r):=scp
theorem z4Q:A3 ["self","rows","number","sets"] z3M (z07 z3G):=scp
theorem z44:A3 ["self"] z3k (z07 z3m):=scp
theorem z4J:A3 ["self","number"] z20 (z07 z3O):=scp
theorem z6L:A3 ["shelf","sets","number","teller","names"] z58 (z07 z5h):=scp
theorem z5R:A3 ["shelf","name","not_again","latest_dark","again"] z48 (z07 z4a):=scp
theorem z3R:A3 ["self","names","reach"] z2S (z07 z2U):=scp
theorem z7N:A3 ["self","issue","number"] z6a (z07 z6l):=scp
theorem z7V:A3 ["self"] z1S (z07 z6n):=scp
theorem z4N:A3 ["self"] z5E (z07 z3D):=scp
theorem z42:A3 ["self","number"] z2n (z07 z3a):=scp
theorem z4j:A3 ["self","number"] z39 (z07 z3i):=scp
theorem z2F:A3 ["readers"] z1Q (z07 z1R):=scp
theorem z4g:A3 ["self","names","reach","readers"] z2o (z07 z3e):=scp
theorem z1w:A3 ["self","reader"] z0N (z07 z10):=scp
theorem z1G:A3 ["self"] z0R (z07 z1d):=scp
theorem z6A:A3 ["self","rows","number"] z3B (z07 z5e):=scp
theorem z4P:A3 ["self","reader","number","getting","lacked"] z2K (z07 z3A):=scp
theorem z5z:A3 ["self"] z6K (z07 z4k):=scp
theorem z6M:A3 ["self","number"] z4R (z07 z5l):=scp
theorem z6y:A3 ["self"] z7Q (z07 z5a):=scp
theorem z7M:A3 ["self","which"] z8E (z07 z65):=scp
theorem z6F:A3 ["self","reader","deed","behind","told","past"] z2b (z07 z4X):=scp
theorem z9U:A3 ["_law_script","_law_k"] z9e (z07 z90):=scp
theorem z7m:A3 ["_law_cell","_law_size","_law_once"] z4r (z07 z69):=scp
theorem z8u:A3 ["_law_cell","_law_many","_law_size","_law_rest","_law_mixed","_law_figures","_law_k"] z5x (z07 z8b):=scp
theorem z6O:A3 ["_law_found"] z5i (z07 z4V):=scp
theorem z7O:A3 ["_law_found","_law_due","_law_k"] z1U (z07 z4C):=scp
theorem z6v:A3 ["_law_cell","_law_many","_law_signs","_law_turn","_law_stem","_law_spot"] z5g (z07 z5d):=scp
theorem z4K:A3 ["_law_times","_law_many","_law_turn"] z3L (z07 z3Q):=scp
theorem z7x:A3 ["_law_names","_law_cell","_law_many","_law_size","_law_sets_here","_law_figure","_law_mask","_law_chosen","_law_name"] z66 (z07 z6r):=scp
theorem z6H:A3 ["_law_figure","_law_place"] z5b (z07 z53):=scp
theorem z5O:A3 ["_law_sets_here","_law_cell","_law_figures","_law_rows","_law_k","_law_one","_law_place"] z4e (z07 z4f):=scp
theorem z6T:A3 ["_law_rows","_law_number","_law_reach","_law_tail","_law_other"] z55 (z07 z52):=scp
theorem z5S:A3 ["_law_had","_law_number","_law_reach","_law_above"] z2Z (z07 z4b):=scp
theorem z81:A3 ["_law_had","_law_rows","_law_reach","_law_gaps_here","_law_number","_law_teller_here"] z4q (z07 z64):=scp
theorem z7f:A3 ["_law_had","_law_rows","_law_name","_law_held_here","_law_number","_law_row_here"] z4z (z07 z6t):=scp
theorem z6R:A3 ["_law_gaps_here","_law_number","_law_name"] z51 (z07 z4U):=scp
theorem z6P:A3 ["_law_gaps_here","_law_number","_law_name"] z3P (z07 z4Y):=scp
theorem z6G:A3 ["_law_names","_law_had","_law_rows","_law_reach","_law_gaps_here","_law_table_here","_law_name","_law_held_here"] z4S (z07 z4W):=scp
theorem z6N:A3 ["_law_had","_law_rows","_law_reach","_law_known_here","_law_number"] z4T (z07 z59):=scp
theorem z5Q:A3 ["_law_found","_law_names","_law_known_here","_law_k","_law_places","_law_name","_law_j"] z40 (z07 z49):=scp
theorem z6J:A3 ["_law_cells","_law_many","_law_first","_law_readers","_law_log","_law_written","_law_cell","_law_rest","_law_k","_law_reader","_law_number","_law_jump","_law_other"] z5j (z07 z5q):=scp
theorem z5D:A3 ["_law_log","_law_reader","_law_done","_law_had","_law_deed"] z46 (z07 z4o):=scp
theorem z82:A3 ["_law_book","_law_log","_law_rows","_law_deed"] z61 (z07 z6d):=scp
theorem z3U:A3 ["_law_course_here","_law_names","_law_rows","_law_had","_law_reach","_law_figure","_law_anew","_law_k","_law_number"] z2O (z07 z2T):=scp
theorem y73:A3 ["_law_script","_law_names","_law_rows","_law_reach","_law_log","_law_had","_law_known_here","_law_shelf","_law_k","_law_name","_law_held_here","_law_pair","_law_first","_law_second","_law_later"] plaw (z07 Y3):=scp
structure J3(K:PySem.W.Frag)(mg:Str->Option Value)(C:Addr):Prop where
 cl:Cls K C
 mgC:mg "Office"=some (.ref C)
 n_names:z2X K C "names"
 n_reach:z2X K C "reach"
 n_written:z2X K C "written"
structure D0(K:PySem.W.Frag)(mg:Str->Option Value)(C:Addr):Prop where
 cl:Cls K C
 mgC:mg "Shelf"=some (.ref C)
 n_names:z2X K C "names"
 n_reach:z2X K C "reach"
 n_issues:z2X K C "issues"
structure J8(K:PySem.W.Frag)(mg:Str->Option Value)(C:Addr):Prop where
 cl:Cls K C
 mgC:mg "Book"=some (.ref C)
 n_office:z2X K C "office"
 n_readers:z2X K C "readers"
 n_done:z2X K C "done"
structure Bl(mg:Str->Option Value):Prop where
 len:mg "len"=none
 range:mg "range"=none
 tuple:mg "tuple"=none
 list:mg "list"=none
 max:mg "max"=none
 min:mg "min"=none
 sorted:mg "sorted"=none
 isinstance:mg "isinstance"=none
 bool:mg "bool"=none
 int:mg "int"=none
 str:mg "str"=none
 set:mg "set"=none
 reversed:mg "reversed"=none
 dict:mg "dict"=none
 zip:mg "zip"=none
 all:mg "all"=none
 MOST_NAMES:∃t,mg "MOST_NAMES"=some (.int 12 t)
 MOST_REACH:∃t,mg "MOST_REACH"=some (.int 10 t)
 MOST_NUMBERS:∃t,mg "MOST_NUMBERS"=some (.int 60 t)
 MOST_VALUE:∃t,mg "MOST_VALUE"=some (.int 1000000 t)
 MOST_READERS:∃t,mg "MOST_READERS"=some (.int 10 t)
 MOST_DEEDS:∃t,mg "MOST_DEEDS"=some (.int 400 t)
 SURE:∃t,mg "SURE"=some (.str "sure" t)
 STALE:∃t,mg "STALE"=some (.str "stale" t)
 OPEN:∃t,mg "OPEN"=some (.str "open" t)
 WRITE:∃t,mg "WRITE"=some (.str "write" t)
 DELIVER:∃t,mg "DELIVER"=some (.str "deliver" t)
theorem z01{H:Hp}{p:Addr}(h:H p=none)(o:HO):A4 H (upd H p o):=fun b u q=>by rw[z0h (z0r q h)];exact q
theorem z2J{H H':Hp}{l:Addr}{o:HO}(hs:A4 H H')(hl:H l=none):A4 H (upd H' l o):=fun b u e=>by rw[z0h (z0r e hl)];exact hs b u e
theorem z80{n:Nat}(h:n≤1000):n≤sizeLine:=dR (z0f h)
theorem y2F{ns:List Int}{k:Int}(h0:0≤k)(h:k<(ns.length:Int)):atI (ns.map V.int) k=some (.int (ns.getD k.toNat 0)):=by
 have hk:k.toNat<ns.length:=by omega
 have ek:k=((k.toNat:Nat):Int):=by omega
 have q:atI (ns.map V.int) ((k.toNat:Nat):Int)=some (.int (ns.getD k.toNat 0)):=z0X (by
  rw[bE,bD hk,bM,bD hk]<;>rfl)
 rw[<- ek] at q
 exact q
theorem z7a{K:PySem.W.Frag}{H H':Hp}{a:Addr}{xs:List V}(e:A4 H H')(h:SqT K H a xs):SqT K H' a xs:=by
 rcases h with (h|⟨o,h⟩)|h
 ·exact .inl (.inl (e _ _ h))
 ·exact .inl (.inr ⟨o,e _ _ h⟩)
 ·exact .inr h
theorem z0M{p:Prop}[Decidable p](h:decide p=true):p:=of_decide_eq_true h
theorem z4h{p:Prop}[Decidable p](h:¬decide p=true):¬p:=fun q=>h (decide_eq_true q)
section
variable{P:Program}{w:World}{K:PySem.W.Frag}{mg:Str->Option Value}{base:Heap}{f:Addr}{fd:FuncData}
theorem z24:∀{l1 l2:List Int},l1.Pairwise (· < ·)->l2.Pairwise (· < ·)->(∀x,x∈l1↔x∈l2)->l1=l2
 | [],[],_,_,_=>rfl
 | [],y::_,_,_,h=>by have:=(h y).mpr cD;cases this
 | x::_,[],_,_,h=>by have:=(h x).mp cD;cases this
 | x::r,y::t,p1,p2,h=>by
  rw[j8] at p1 p2
  have e:x=y:=by
   rcases bF.mp ((h x).mp cD) with e|hx
   ·exact e
   ·rcases bF.mp ((h y).mpr cD) with e|hy
    ·exact e.symm
    ·have:=p1.1 y hy
     have:=p2.1 x hx
     omega
  subst e
  refine congrArg (x::·) (z24 p1.2 p2.2 fun z=>⟨fun hz=>?_,fun hz=>?_⟩)
  ·rcases bF.mp ((h z).mp (bZ _ hz)) with e|q
   ·have:=p1.1 z hz
    omega
   ·exact q
  ·rcases bF.mp ((h z).mpr (bZ _ hz)) with e|q
   ·have:=p2.1 z hz
    omega
   ·exact q
theorem z18(lo:Int):∀n,(upI lo n).Pairwise (· < ·)
 | 0=>List.Pairwise.nil
 | n+1=>by
  rw[z4t]
  refine cW.mpr ⟨z18 lo n,fE _ _,fun x hx y hy=>?_⟩
  have h1:=z0U.mp hx
  rw[bC.mp hy]
  omega
theorem y5O(lo:Int)(n:Nat):R0 lo n=(upI lo n).map V.int:=by
 unfold R0 upI
 rw[dL]
 rfl
def spAt(K:PySem.W.Frag):Sp:=fun vs H Q _=>∃(a:Addr) (ns:List Int) (k:Int),vs=[.ref a,.int k]/\SqL K H a (ns.map V.int)/\0≤k/\Q (.int (ns.getD k.toNat 0)) H
theorem w0Q(M:Bl mg)(F:Fun K "_law_at" "_law_at" z90 f fd):A7 P w K mg base CX0 1 f fd z9e (spAt K):=by
 have nd:=z9U.nd
 refine F.ok z9U (fun vs H Q E h=>?_) (fun cdv A outer s H vs Q E hr h=>?_)
 ·obtain⟨a,ns,k,rfl,_⟩:=h
  rfl
 obtain⟨a,ns,k,rfl,hS,h0,q⟩:=h
 refine⟨_,(z04 (z0G (z09 z8l (pv 1) (z0d z0a rfl M.len bR (z00 (pv 0) z02)) (z0o _)) (z05 (z0i (z0D z0Z (pv 0) (pv 1) (fun _ _=>rfl)))) z0n) (z05 (z0i z06))),?_⟩
 have hl:(ns.map V.int).length=ns.length:=bA _
 refine⟨_,rfl,_,rfl,a,_,rfl,.inl hS,_,_,rfl,rfl,_,rfl,?_⟩
 refine B3 (fun c=>?_) (fun c=>?_)
 ·have c':=z0M c
  rw[hl] at c'
  exact⟨_,rfl,_,rfl,a,_,_,_,rfl,rfl,hS,y2F h0 c',q⟩
 ·have c':=z4h c
  rw[hl] at c'
  have e:ns.getD k.toNat 0=0:=by rw[bM,List.getElem?_eq_none (by omega)];rfl
  rw[e] at q
  exact q
def y40:Sp:=fun vs H Q _=>∃c n:Int,vs=[.int c,.int n]/\0<n/\∀r,0≤r->r<n->Q (.int r) H
theorem y5F(F:Fun K "_law_pick" "_law_pick" z69 f fd):A7 P w K mg base CX0 1 f fd z4r y40:=by
 have nd:=z7m.nd
 refine F.ok z7m (fun vs H Q E h=>?_) (fun cdv A outer s H vs Q E hr h=>?_)
 ·obtain⟨c,n,rfl,_⟩:=h
  rfl
 obtain⟨c,n,rfl,hn,q⟩:=h
 refine⟨_,(z04 (z0G (z09 z2L (z0q z0T (pv 0) z06) z06 (z0o _)) (z05 (z0i (z0q z0T (z0q z1n (pv 0) z06) (pv 1)))) z0n) (z04 (z0s (i:=2) nd rfl (Or.inl rfl) (z0q z0T (z0q z5T (z0q z1n (pv 0) z06) z06) z06)) (z05 (z0i (z0q z0T (z0q z0T (z0q z5T (z0q z1m (pv 2) z06) z06) z06) (pv 1)))))),?_⟩
 refine⟨_,rfl,_,_,rfl,rfl,(by show(0:Int)<2;decide),rfl,_,rfl,?_⟩
 refine B3 (fun _=>?_) (fun _=>?_)
 ·exact⟨_,rfl,_,_,rfl,rfl,⟨by decide,by decide⟩,_,rfl,_,_,rfl,rfl,hn,q _ (cP _ (by omega)) (cE _ hn)⟩
 ·refine⟨_,rfl,_,_,rfl,rfl,⟨by decide,by decide⟩,_,_,rfl,rfl,.inr ⟨by decide,by decide⟩,_,_,rfl,rfl,(by show(0:Int)<2147483647;decide),?_⟩
  refine⟨_,rfl,_,_,rfl,rfl,_,_,rfl,rfl,.inr ⟨by decide,by decide⟩,_,_,rfl,rfl,(by show(0:Int)<2147483647;decide),_,rfl,_,_,rfl,rfl,hn,?_⟩
  exact q _ (cP _ (by omega)) (cE _ hn)
def z8n:Nat->Sp
 | 0=>fun _ _ _ _=>False
 | n+1=>fun vs H Q _=>∃x y,vs=[x,y]/\z4D H n x y/\∀H',A4 H H'->Q (.bl true) H'
theorem y2T:A7 P w K mg base CX0 0 f fd z1U (z8n 0):=
 ⟨fun vs H Q E h=>h.elim,fun A outer s H args us vs Q E _ _ _ _ h=>h.elim⟩
def tyOf:V->String
 | .non=>"NoneType"
 | .bl _=>"bool"
 | .int _=>"int"
 | _=>"str"
theorem z47{H:Hp}{x:V}(h:y23 x=true):O0 K H x (.type (tyOf x)):=by
 cases x with
 | non=>exact .non
 | bl b=>exact .bl b
 | int i=>exact .int i
 | str z=>exact .str z
 | _=>exact absurd h bO
def kitB:V->String->Bool
 | .bl _,T=>T == "bool" || T == "int"
 | .int _,T=>T == "int"
 | .str _,T=>T == "str"
 | _,_=>false
theorem z3H(T:String)(hT:T="tuple"\/T="bool"\/T="int"\/T="str"){x:V}(h:y23 x=true):PySem.W.kitOne K (.type (tyOf x)) (.type T)=some (kitB x T):=by
 cases x with
 | non=>rcases hT with rfl|rfl|rfl|rfl<;>kernel_rfl
 | bl b=>rcases hT with rfl|rfl|rfl|rfl<;>kernel_rfl
 | int i=>rcases hT with rfl|rfl|rfl|rfl<;>kernel_rfl
 | str z=>rcases hT with rfl|rfl|rfl|rfl<;>kernel_rfl
 | _=>exact absurd h bO
theorem y1J(x:V):kitB x "tuple"=false:=by cases x<;>rfl
theorem z6u:PySem.W.kitOne K (.type "tuple") (.type "tuple")=some true:=by kernel_rfl
theorem y5f{xs:List V}{i:Nat}(h:i<xs.length):∃v,xs[i]? = some v/\atI xs (i:Int)=some v:=⟨xs[i],bD h,z0X (bD h)⟩
theorem y6a{x:V}(h:y23 x=true):Y7 x x=true:=by
 cases x<;>first|rfl|exact absurd h bO
theorem y61{n:Nat}(M:Bl mg)(F:Fun K "_law_same" "_law_same" z4C f fd)(F0:Cal P w K mg base n "_law_same" z1U (z8n n)) :
  A7 P w K mg base CX0 (n+1) f fd z1U (z8n (n+1)):=by
 have nd:=z7O.nd
 refine F.ok z7O (fun vs H Q E h=>?_) (fun cdv A outer s H vs Q E hr h=>?_)
 ·obtain⟨x,y,rfl,_⟩:=h
  rfl
 obtain⟨x,y,rfl,ha,q⟩:=h
 refine⟨_,(z04 (z0G (z2V (z0d z0H rfl M.isinstance c9 (z00 (pv 1) (z00 (z1P (v:=.ty "tuple") rfl M.tuple bL rfl) z02)))) (z04 (z0G (PW.pt (z3l (z37 (z2V (z0d z0H rfl M.isinstance c9 (z00 (pv 0) (z00 (z1P (v:=.ty "tuple") rfl M.tuple bL rfl) z02))))) (z25 (z09 z6Y (z0d z0a rfl M.len bR (z00 (pv 0) z02)) (z0d z0a rfl M.len bR (z00 (pv 1) z02)) (z0o _))))) (z05 (z0i z3p)) z0n) (z04 (z15 bY rfl (z1q rfl M.range (z00 (z0d z0a rfl M.len bR (z00 (pv 1) z02)) z02)) (z0k (i:=2) nd rfl (Or.inl rfl)) (z05 (z0G (z37 (z2V (z0l F0 (rm hr) rfl (z00 (z0D z0C (pv 0) (pv 2) (fun _ _=>rfl)) (z00 (z0D z0C (pv 1) (pv 2) (fun _ _=>rfl)) z02))))) (z05 (z0i z3p)) z0n))) (z05 (z0i z3p)))) z0n) (z04 (z0G (PW.pt (z3l (z09 z6Y (z0d z0H rfl M.isinstance c9 (z00 (pv 0) (z00 (z1P (v:=.ty "bool") rfl M.bool gX rfl) z02))) (z0d z0H rfl M.isinstance c9 (z00 (pv 1) (z00 (z1P (v:=.ty "bool") rfl M.bool gX rfl) z02))) (z0o _)) (z25 (z09 z6Y (z0d z0H rfl M.isinstance c9 (z00 (pv 0) (z00 (z1P (v:=.ty "int") rfl M.int hU rfl) z02))) (z0d z0H rfl M.isinstance c9 (z00 (pv 1) (z00 (z1P (v:=.ty "int") rfl M.int hU rfl) z02))) (z0o _))))) (z05 (z0i z3p)) z0n) (z04 (z0G (PW.pt (z3l (z09 z6Y (z0d z0H rfl M.isinstance c9 (z00 (pv 0) (z00 (z1P (v:=.ty "str") rfl M.str hV rfl) z02))) (z0d z0H rfl M.isinstance c9 (z00 (pv 1) (z00 (z1P (v:=.ty "str") rfl M.str hV rfl) z02))) (z0o _)) (z25 (z09 z6Y (y5h (z8K (pv 0))) (y5h (z8K (pv 1))) (z0o _))))) (z05 (z0i z3p)) z0n) (z05 (z0i (y2A z2L (pv 0) (pv 1) (z0o _))))))),?_⟩
 have ha':(x=y/\y23 x=true)\/∃(m:Nat) (a b:Addr) (xs ys:List V),n=m+1/\x=.ref a/\y=.ref b/\H a=some (.tup xs)/\H b=some (.tup ys)/\xs.length=ys.length/\ys.length≤1000000/\
   ∀(i:Nat) (u v:V),xs[i]? = some u->ys[i]? = some v->z4D H m u v:=by
  cases n with
  | zero=>exact .inl ha
  | succ n=>
   rcases ha with ha|⟨a,b,xs,ys,e1,e2,h1,h2,hl,hm,hi⟩
   ·exact .inl ha
   ·exact .inr ⟨n,a,b,xs,ys,rfl,e1,e2,h1,h2,hl,hm,hi⟩
 rcases ha' with ⟨rfl,hs⟩|⟨m,a,b,xs,ys,rfl,rfl,rfl,h1,h2,hl,hm,hi⟩
 ·have k1:=z3H (K:=K) "tuple" (.inl rfl) hs
  have k2:=z3H (K:=K) "bool" (.inr (.inl rfl)) hs
  have k3:=z3H (K:=K) "int" (.inr (.inr (.inl rfl))) hs
  have k4:=z3H (K:=K) "str" (.inr (.inr (.inr rfl))) hs
  rw[y1J] at k1
  refine⟨_,rfl,_,_,_,_,rfl,z47 hs,k1,_,rfl,B5 ?_⟩
  refine⟨_,rfl,_,_,_,_,rfl,z47 hs,k2,_,rfl,_,_,_,_,rfl,z47 hs,k2,rfl,_,rfl,?_⟩
  rw[decide_eq_true rfl]
  refine B5 ⟨_,rfl,_,_,_,_,rfl,z47 hs,k3,_,rfl,_,_,_,_,rfl,z47 hs,k3,rfl,_,rfl,?_⟩
  rw[decide_eq_true rfl]
  refine B5 ?_
  refine⟨_,rfl,_,_,_,_,rfl,z47 hs,k4,_,rfl,_,_,_,_,rfl,z47 hs,k4,rfl,_,rfl,?_⟩
  rw[decide_eq_true rfl]
  refine B5 ⟨_,rfl,_,rfl,rfl,_,rfl,?_⟩
  rw[decide_eq_true rfl]
  refine B5 ?_
  refine⟨_,rfl,_,rfl,y6a hs,?_⟩
  rw[decide_eq_true rfl]
  exact q H (A4.refl H)
 ·refine⟨_,rfl,_,_,_,_,rfl,.tup h2,z6u,_,rfl,E9 ?_⟩
  refine⟨_,rfl,_,_,_,_,rfl,.tup h1,z6u,_,rfl,B5 ?_⟩
  refine⟨_,rfl,a,xs,rfl,.inr (SqT.of h1),_,rfl,b,ys,rfl,.inr (SqT.of h2),rfl,_,rfl,?_⟩
  rw[hl,decide_eq_true rfl]
  refine B5 ?_
  refine⟨_,rfl,b,ys,rfl,.inr (SqT.of h2),_,rfl,by omega,by omega,?_⟩
  refine z1p (lo:=0) (n:=ys.length) (fun _ σ H'=>A4 H H'/\∃o,σ=[some (.ref a),some (.ref b),o]) ⟨A4.refl H,_,rfl⟩ (fun i σ H' hi' hp=>?_) (fun σ H' hp=>?_)
  ·obtain⟨hS,o,rfl⟩:=hp
   obtain⟨u,hu,au⟩:=y5f (xs:=xs) (i:=i) (by omega)
   obtain⟨v,hv,av⟩:=y5f (xs:=ys) (i:=i) hi'
   have ei:(0:Int)+(i:Int)=(i:Int):=gK _
   refine⟨_,rfl,_,rfl,a,_,_,_,rfl,rfl,SqT.of (hS _ _ h1),(by rw[ei];exact au),_,rfl,_,rfl,b,_,_,_,rfl,rfl,SqT.of (hS _ _ h2),(by rw[ei];exact av),?_⟩
   refine⟨u,v,rfl,(hi i u v hu hv).keep hS,fun H2 hS2=>⟨_,rfl,?_⟩⟩
   exact B5 ⟨hS.trans hS2,_,rfl⟩
  ·obtain⟨hS,o,rfl⟩:=hp
   exact q H' hS
theorem y0S(M:Bl mg)(F:Fun K "_law_same" "_law_same" z4C f fd)(B:z1X K fd z1U [])(N:mg "_law_same"=some (.ref f)) :
  ∀n,Cal P w K mg base n "_law_same" z1U (z8n n)
 | 0=>.mk' y2T B F.kp N
 | n+1=>.mk' (y61 M F (y0S M F B N n)) B F.kp N
theorem y3t{ns:List Int}{n:Nat}(h:ns.length≤n)(hn:n≤1000):(ns.map V.int).length<sizeLine:=z0f (by rw[bA];omega)
def y64:Sp:=fun vs H Q _=>∃c m z:Int,vs=[.int c,.int m,.int z]/\0≤m/\m≤900/\0<z/\z<1073741824/\
 ∀(l:Addr) (ns:List Int) (H':Hp),H l=none->A4 H H'->H' l=some (.lst (ns.map V.int))->ns.length=m.toNat->(∀x∈ns,0≤x/\x<z)->Q (.ref l) H'
theorem y6H(M:Bl mg)(F:Fun K "_law_row" "_law_row" z8b f fd):A7 P w K mg base CX0 1 f fd z5x y64:=by
 have nd:=z8u.nd
 refine F.ok z8u (fun vs H Q E h=>?_) (fun cdv A outer s H vs Q E hr h=>?_)
 ·obtain⟨c,m,z,rfl,_⟩:=h
  rfl
 obtain⟨c,m,z,rfl,m0,m1,z0,z1,q⟩:=h
 refine⟨_,(z04 (z0s (i:=3) nd rfl (Or.inl rfl) (z0q z1n (pv 0) z06)) (z04 (z0s (i:=4) nd rfl (Or.inl rfl) (z0q z0T (z0q z5T (pv 3) z06) z06)) (z04 (z0s (i:=5) nd rfl (Or.inl rfl) (z1W z02)) (z04 (z15 bY rfl (z1q rfl M.range (z00 (pv 1) z02)) (z0k (i:=6) nd rfl (Or.inl rfl)) (z04 (z0s (i:=4) nd rfl (Or.inl rfl) (z0q z0T (z0q z1m (z0q z1m (z0q z5T (pv 4) z06) (pv 6)) z06) z06)) (z05 (z0G (z09 z2L (z0q z0T (pv 0) z06) z06 (z0o _)) (z04 (z0y (z3g bU bT bX z0J (pv 5) (z00 (z0q z0T (pv 3) (pv 2)) z02))) (z05 (z0s (i:=3) nd rfl (Or.inl rfl) (z0q z1n (pv 3) (pv 2))))) (z05 (z0y (z3g bU bT bX z0J (pv 5) (z00 (z0q z0T (z0q z1n (pv 4) z06) (pv 2)) z02)))))))) (z05 (z0i (pv 5))))))),?_⟩
 refine⟨_,rfl,_,_,rfl,rfl,⟨by decide,by decide⟩,?_⟩
 refine⟨_,rfl,_,_,rfl,rfl,.inr ⟨by decide,by decide⟩,_,_,rfl,rfl,(by show(0:Int)<2147483647;decide),?_⟩
 refine⟨(by show 0≤sizeLine;decide),fun l hl=>?_⟩
 refine⟨_,rfl,_,rfl,by omega,by omega,?_⟩
 refine z1p (lo:=0) (n:=m.toNat) (fun i σ H'=>∃(ns:List Int) (r mx:Int) (o:Option V),ns.length=i/\(∀x∈ns,0≤x/\x<z)/\H'=upd H l (.lst (ns.map V.int))/\
  σ=[some (.int c),some (.int m),some (.int z),some (.int r),some (.int mx),some (.ref l),o]) ⟨[],_,_,_,rfl,(fun _ h=>nomatch h),rfl,rfl⟩ (fun i σ H' hi hp=>?_) (fun σ H' hp=>?_)
 ·obtain⟨ns,r,mx,o,hlen,B7,rfl,rfl⟩:=hp
  refine⟨_,rfl,_,_,rfl,rfl,.inr ⟨by decide,by decide⟩,_,rfl,_,_,rfl,rfl,_,_,rfl,rfl,_,_,rfl,rfl,(by show(0:Int)<2147483647;decide),?_⟩
  refine⟨_,rfl,_,_,rfl,rfl,(by show(0:Int)<2;decide),rfl,_,rfl,?_⟩
  have grow:∀y:Int,(∀x∈ns++[y%z],0≤x/\x<z):=fun y x hx=>by
   rcases bS.mp hx with h|h
   ·exact B7 x h
   ·rw[bC.mp h]
    exact⟨cP _ (by omega),cE _ z0⟩
  have put:∀y:Int,upd (upd H l (.lst (ns.map V.int))) l (.lst (ns.map V.int++[.int (y%z)]))=upd H l (.lst ((ns++[y%z]).map V.int)):=fun y=>by
   rw[z7w,bG]
   rfl
  refine B3 (fun _=>?_) (fun _=>?_)
  ·refine⟨_,rfl,.inl ⟨rfl,_,SqL.of z03⟩,_,rfl,_,rfl,_,_,rfl,rfl,z0,l,_,_,rfl,rfl,z03,y3t (n:=i) (by omega) (by omega),?_⟩
   refine⟨_,rfl,_,rfl,_,_,rfl,rfl,⟨z0,z1⟩,?_⟩
   exact⟨ns++[r%z],_,_,_,by rw[bJ,hlen];rfl,grow r,put r,rfl⟩
  ·refine⟨_,rfl,.inl ⟨rfl,_,SqL.of z03⟩,_,rfl,_,_,rfl,rfl,⟨by decide,by decide⟩,_,rfl,_,_,rfl,rfl,z0,l,_,_,rfl,rfl,z03,y3t (n:=i) (by omega) (by omega),?_⟩
   exact⟨ns++[_%z],_,_,_,by rw[bJ,hlen];rfl,grow _,put _,rfl⟩
 ·obtain⟨ns,r,mx,o,hlen,B7,rfl,rfl⟩:=hp
  exact⟨_,rfl,q l ns _ hl (z01 hl _) z03 hlen B7⟩
theorem z36(x:Int)(ns:List Int):inV (.int x) (ns.map V.int)=decide (x∈ns):=by
 unfold inV
 rw[cX,gL,h8,decide_eq_true_eq]
 constructor
 ·rintro⟨y,hy,e⟩
  have e':(y == x)=true:=e
  rw[<- eq_of_beq e']
  exact hy
 ·intro h
  exact⟨x,h,show(x == x)=true from beq_self_eq_true x⟩
theorem z2t(ns:List Int):(ns.map V.int).all z1Y=true:=by
 rw[jH,jI]
 intro x _
 rfl
def z1j(ns:List Int):List Int:=(upI 1 60).filter fun x=>decide (x∉ns) && decide (∃y∈ns,x<y)
theorem z1o{ns:List Int}{x:Int}:x∈z1j ns↔(1≤x/\x<1+60)/\x∉ns/\∃y∈ns,x<y:=by
 unfold z1j
 rw[cJ,z0U,bW,decide_eq_true_eq,decide_eq_true_eq]
 rfl
theorem z3q(ns:List Int):(z1j ns).Pairwise (· < ·):=(z18 1 60).filter _
theorem z2s(ns:List Int):(z1j ns).length≤60:=by
 have h:=cI (fun x=>decide (x∉ns) && decide (∃y∈ns,x<y)) (upI 1 60)
 rw[z0Q] at h
 exact h
theorem y3G{ns:List Int}{m:Int}(hm:m∈ns)(B7:∀x∈ns,1≤x/\x≤60)(top:∀y∈ns,y≤m):(upI 1 (m+1-1).toNat).filter (fun x=>!decide (x∈ns))=z1j ns:=
 z24 ((z18 _ _).filter _) (z3q _) fun x=>by
  have hm':=B7 m hm
  rw[cJ,z0U,z1o,jC,decide_eq_false_iff_not]
  constructor
  ·rintro⟨⟨a,b⟩,c⟩
   refine⟨by omega,c,m,hm,?_⟩
   have:x≠m:=fun e=>c (e ▸ hm)
   omega
  ·rintro⟨a,b,y,hy,c⟩
   have:=top y hy
   exact⟨by omega,b⟩
theorem z9L:z1j []=[]:=by
 refine z24 (z3q _) .nil fun x=>?_
 rw[z1o]
 constructor
 ·rintro⟨_,_,y,hy,_⟩
  cases hy
 ·intro h
  cases h
theorem SqI.keep{K:PySem.W.Frag}{H H':Hp}{a:Addr}{ns:List Int}(e:A4 H H')(h:SqI K H a ns):SqI K H' a ns:=by
 rcases h with h|h
 ·exact .inl (e.seq h)
 ·rcases h with (h|⟨o,h⟩)|h
  ·exact .inr (.inl (.inl (e _ _ h)))
  ·exact .inr (.inl (.inr ⟨o,e _ _ h⟩))
  ·exact .inr (.inr h)
theorem z8v{c:Int->Bool}{t:Int}:∀{l:List Int},l.Pairwise (· < ·)->t∈l->c t=true->(∀y∈l,c y=true->t≤y)->l.find? c=some t
 | [],_,h,_,_=>by cases h
 | x::r,p,h,hc,hm=>by
  rw[j8] at p
  rw[dB]
  rcases bF.mp h with rfl|h
  ·rw[hc]
  ·cases e:c x with
   | true=>
    have h1:=p.1 t h
    have h2:=hm x cD e
    omega
   | false=>exact z8v p.2 h hc fun y hy=>hm y (bZ _ hy)
theorem y3L{c:Int->Bool}{t:Int}:∀{l:List Int},l.Pairwise (· < ·)->l.find? c=some t->t∈l/\c t=true/\∀y∈l,c y=true->t≤y
 | [],_,h=>by cases h
 | x::r,p,h=>by
  rw[j8] at p
  rw[dB] at h
  cases e:c x with
  | true=>
   rw[e] at h
   have h':x=t:=Option.some.inj h
   subst h'
   refine⟨cD,e,fun y hy _=>?_⟩
   rcases bF.mp hy with rfl|hy
   ·exact eF _
   ·have:=p.1 y hy
    omega
  | false=>
   rw[e] at h
   obtain⟨h1,h2,h3⟩:=y3L p.2 h
   refine⟨bZ _ h1,h2,fun y hy hc=>?_⟩
   rcases bF.mp hy with rfl|hy
   ·rw[e] at hc
    cases hc
   ·exact h3 y hy hc
def y0G(ns:List Int)(n r:Int)(y:Int):Bool:=decide (n<y) && decide (y-r≤n) && decide (y∈ns)
def z0L(ns:List Int)(n r:Int):Int:=((upI 1 60).find? (y0G ns n r)).getD 0
theorem z3Z{ns:List Int}{n r y:Int}:y0G ns n r y=true↔n<y/\y-r≤n/\y∈ns:=by
 unfold y0G
 rw[bW,bW,decide_eq_true_eq,decide_eq_true_eq,decide_eq_true_eq,and_assoc]
theorem y1v{ns:List Int}{n r t:Int}(B7:∀x∈ns,1≤x/\x≤60)(ht:t∈ns)(h1:n<t)(h2:t-r≤n)(hm:∀y∈ns,n<y->y-r≤n->t≤y):z0L ns n r=t:=by
 unfold z0L
 rw[z8v (z18 1 60) (t:=t) (z0U.mpr (by have:=B7 t ht;omega)) (z3Z.mpr ⟨h1,h2,ht⟩) fun y _ hy=>by
  obtain⟨a,b,c⟩:=z3Z.mp hy
  exact hm y c a b]
 rfl
theorem z4x{ns:List Int}{n r:Int}(h:∀y∈ns,n<y->¬y-r≤n):z0L ns n r=0:=by
 unfold z0L
 have e:(upI 1 60).find? (y0G ns n r)=none:=j9.mpr fun y _ hy=>by
  obtain⟨a,b,c⟩:=z3Z.mp hy
  exact h y c a b
 rw[e]
 rfl
def z7C(K:PySem.W.Frag):Sp:=fun vs H Q _=>∃(p:Addr) (ns:List Int) (n r:Int),vs=[.ref p,.int n,.int r]/\SqL K H p (ns.map V.int)/\(∀x∈ns,1≤x/\x≤60)/\ns.length≤900/\0≤r/\
 ∀H',A4 H H'->Q (.int (z0L ns n r)) H'
theorem y1L(M:Bl mg)(F:Fun K "_law_teller" "_law_teller" z4b f fd):A7 P w K mg base CX0 1 f fd z2Z (z7C K):=by
 have nd:=z5S.nd
 refine F.ok z5S (fun vs H Q E h=>?_) (fun cdv A outer s H vs Q E hr h=>?_)
 ·obtain⟨p,ns,n,r,rfl,_⟩:=h
  rfl
 obtain⟨p,ns,n,r,rfl,hS,B7,hlen,r0,q⟩:=h
 refine⟨_,(z04 (z6j (i:=3) ["_law_other"] ["_law_number"] [1] rfl nd rfl (Or.inl rfl) (z0w rfl (by decide +kernel) rfl (by decide +kernel) rfl rfl) (z1I (pv 0)) (fun _ _ _ _ _=>(z0k (i:=0) (show((["_law_other"]:List PySem.Str)++(["_law_number"]:List PySem.Str)).Nodup from by decide +kernel) rfl (Or.inl rfl))) (z0z (by decide)) z0g (fun _ _ _ _ _=>(z3c (z09 z2P (pv 0) (pv 1) (z0o _)))) (fun _ _ _ _ _=>(pv 0))) (z04 (z0G (PW.pt (z3l (z09 (y6Q hr.Q8) (pv 3) (z1W z02) (z0o _)) (z25 (z09 z2P (z0q z1M (z0d (y0c rfl) rfl M.min fQ (z00 (pv 3) z02)) (pv 1)) (pv 2) (z0o _))))) (z05 (z0i z06)) z0n) (z05 (z0i (z0d (y0c rfl) rfl M.min fQ (z00 (pv 3) z02)))))),?_⟩
 refine⟨_,rfl,p,rfl,⟨_,hS⟩,?_⟩
 refine y0a (ns:=ns) (fun y=>decide (n<y)) (fun y=>.int y) hS (by omega) (fun y ys N hy hN=>?_) (fun D hD=>?_)
 ·refine⟨_,rfl,_,rfl,_,_,rfl,rfl,_,rfl,?_⟩
  refine B3 (fun c=>?_) (fun c=>?_)
  ·rw[if_pos c] at hN
   exact⟨_,rfl,hN⟩
  ·rw[if_neg c] at hN
   exact hN
 have eD:upd H D (.lst (z2H (fun y=>decide (n<y)) (fun y=>V.int y) ns)) D=some (.lst ((ns.filter fun y=>decide (n<y)).map V.int)):=z03
 have sD:=z01 hD (.lst (z2H (fun y=>decide (n<y)) (fun y=>V.int y) ns))
 generalize upd H D (.lst (z2H (fun y=>decide (n<y)) (fun y=>V.int y) ns))=H1 at eD sD
 have mem:∀y,y∈ns.filter (fun y=>decide (n<y))↔y∈ns/\n<y:=fun y=>by rw[cJ,decide_eq_true_eq]
 generalize ns.filter (fun y=>decide (n<y))=ab at eD mem
 refine⟨_,rfl,(by show 0≤sizeLine;decide),fun e0 he0=>⟨D,e0,_,rfl,rfl,SqL.of (z01 he0 _ _ _ eD),SqL.of z03,_,rfl,?_⟩⟩
 have s2:=sD.trans (z01 he0 (.lst []))
 cases ab with
 | nil=>
  refine E9 ?_
  have e:z0L ns n r=0:=z4x fun y hy h1 _=>by
   have:=(mem y).mpr ⟨hy,h1⟩
   cases this
  exact(by rw[<- e];exact q _ s2)
 | cons y0 yr=>
  refine B5 ?_
  have eL:=z01 he0 (.lst []) _ _ eD
  generalize upd H1 e0 (.lst [])=H2 at s2 eL
  refine⟨_,rfl,D,_,rfl,.inl (SqL.of eL),by simp,fun m hm hl=>⟨_,rfl,_,_,rfl,rfl,_,rfl,_,_,rfl,rfl,_,rfl,?_⟩⟩
  have hm':=(mem m).mp hm
  refine B3 (fun c=>?_) (fun c=>?_)
  ·have c':r<m-n:=z0M c
   have e:z0L ns n r=0:=z4x fun y hy h1 h2=>by
    have:=hl y ((mem y).mpr ⟨hy,h1⟩)
    omega
   exact(by rw[<- e];exact q _ s2)
  ·have c':¬r<m-n:=z4h c
   refine⟨_,rfl,D,_,rfl,.inl (SqL.of eL),by simp,fun m2 hm2 hl2=>?_⟩
   have h2:=(mem m2).mp hm2
   have e:z0L ns n r=m2:=y1v B7 h2.1 h2.2 (by have:=hl2 m hm;omega) fun y hy h1 _=>hl2 y ((mem y).mpr ⟨hy,h1⟩)
   exact(by rw[<- e];exact q _ s2)
def y43:Sp:=fun vs H Q _=>∃i:Int,vs=[.int i]/\Q (.bl true) H
theorem y4A(M:Bl mg)(F:Fun K "_law_whole" "_law_whole" z4V f fd):A7 P w K mg base CX0 1 f fd z5i y43:=by
 have nd:=z6O.nd
 refine F.ok z6O (fun vs H Q E h=>?_) (fun cdv A outer s H vs Q E hr h=>?_)
 ·obtain⟨i,rfl,_⟩:=h
  rfl
 obtain⟨i,rfl,q⟩:=h
 refine⟨_,(z05 (z0i (y6z (z0d z0H rfl M.isinstance c9 (z00 (pv 0) (z00 (z1P (v:=.ty "int") rfl M.int hU rfl) z02))) (y6t (y6p (z0d z0H rfl M.isinstance c9 (z00 (pv 0) (z00 (z1P (v:=.ty "bool") rfl M.bool gX rfl) z02)))))))),?_⟩
 have k2:=z3H (K:=K) "bool" (.inr (.inl rfl)) (x:=.int i) rfl
 have k3:=z3H (K:=K) "int" (.inr (.inr (.inl rfl))) (x:=.int i) rfl
 refine⟨_,rfl,_,_,_,_,rfl,.int i,k3,_,rfl,?_⟩
 refine E9 ⟨_,rfl,_,_,_,_,rfl,.int i,k2,?_⟩
 exact⟨_,rfl,q⟩
def sgL:List Nat:=(("mM ~aA0.xX_9":Str).cps.toList)
theorem y0s:sgL.length=12:=by decide +kernel
theorem y3B:sgL.Nodup:=by decide +kernel
abbrev U9:Str:="a stranger of twenty"
abbrev z9k:Str:="a long stem of them"
structure Nms(nm:List Str):Prop where
 nd:nm.Nodup
 lo:∀x∈nm,1≤x.length
 hi:∀x∈nm,x.length≤20
 far:U9∉nm
theorem y0B(a b:Str):(a++b).cps.toList=a.cps.toList++b.cps.toList:=by
 show(a.cps++b.cps).toList=_
 simp
theorem y5M(c:Nat):(⟨#[c]⟩:Str).cps.toList=[c]:=rfl
theorem z45{α β:Type}{g:α->β}:∀{l:List α},l.Nodup->(∀x∈l,∀y∈l,g x=g y->x=y)->(l.map g).Nodup
 | [],_,_=>List.nodup_nil
 | x::r,n,h=>by
  rw[dN] at n
  rw[cL,dN]
  refine⟨fun hm=>?_,z45 n.2 fun a ha b hb=>h a (bZ _ ha) b (bZ _ hb)⟩
  obtain⟨y,hy,e⟩:=cK.mp hm
  have:=h x cD y (bZ _ hy) e.symm
  exact n.1 (this ▸ hy)
theorem z9X(lo:Int)(n:Nat):(upI lo n).Nodup:=(z18 lo n).imp fun {a b} h=>by omega
theorem y10{t a b:Int}(ht:0≤t)(ht2:t<12)(a0:0≤a)(a1:a<12)(b0:0≤b)(b1:b<12)(h:(t+a)%12=(t+b)%12):a=b:=by omega
def V7(c:Nat)(t k:Int):Str:=V8 ⟨#[c]⟩ (1+(t+k)%12).toNat
theorem z5P(c:Nat)(t k:Int):(V7 c t k).length=(1+(t+k)%12).toNat:=by
 unfold V7
 rw[<- z1A]
 show((List.replicate _ [c]).flatten.toArray).toList.length=_
 simp
theorem y6c(c:Nat){t:Int}(h0:0≤t)(h1:t<12){m:Nat}(hm:m≤12):Nms ((upI 0 m).map (V7 c t)) where
 nd:=z45 (z9X _ _) fun a ha b hb e=>by
  have ha':=z0U.mp ha
  have hb':=z0U.mp hb
  have e2:=congrArg Str.length e
  rw[z5P,z5P] at e2
  exact y10 h0 h1 (by omega) (by omega) (by omega) (by omega) (by omega)
 lo:=fun x hx=>by
  obtain⟨k,hk,rfl⟩:=cK.mp hx
  rw[z5P]
  omega
 hi:=fun x hx=>by
  obtain⟨k,hk,rfl⟩:=cK.mp hx
  rw[z5P]
  omega
 far:=fun hx=>by
  obtain⟨k,hk,e⟩:=cK.mp hx
  have e2:=congrArg Str.length e
  rw[z5P] at e2
  have e3:U9.length=20:=by decide +kernel
  omega
def z93(st:Str)(sp:Int)(t k:Int):Str:=N8 st none (some sp)++⟨#[sgL.getD ((t+k)%12).toNat 0]⟩++N8 st (some sp) none
theorem y1t{n d:Nat}{v:Int}(h0:0≤v)(h1:v≤n):HT.sIx n d (some v)=v.toNat:=by
 show(if v<0 then (v+(n:Int)).toNat else min v.toNat n)=_
 rw[if_neg (by omega),j0 (by omega)]
theorem y5x(st:Str){sp:Int}(h0:0≤sp)(h1:sp≤st.length):(N8 st none (some sp)).cps.toList=st.cps.toList.take sp.toNat:=by
 show((st.cps.toList.drop 0).take (HT.sIx st.length st.length (some sp)-0))=_
 rw[y1t h0 h1,eU,gJ]
theorem y5n(st:Str){sp:Int}(h0:0≤sp)(h1:sp≤st.length):(N8 st (some sp) none).cps.toList=st.cps.toList.drop sp.toNat:=by
 show((st.cps.toList.drop (HT.sIx st.length 0 (some sp))).take (st.length-HT.sIx st.length 0 (some sp)))=_
 rw[y1t h0 h1,cO]
 rw[dD,z1A]
 exact bH _
theorem z5A(st:Str){sp:Int}(h0:0≤sp)(h1:sp≤st.length)(t k:Int):(z93 st sp t k).cps.toList=st.cps.toList.take sp.toNat++sgL.getD ((t+k)%12).toNat 0::st.cps.toList.drop sp.toNat:=by
 unfold z93
 rw[y0B,y0B,y5x st h0 h1,y5n st h0 h1,y5M,fN]
 rfl
theorem z7g(st:Str){sp:Int}(h0:0≤sp)(h1:sp≤st.length)(t k:Int):(z93 st sp t k).length=st.length+1:=by
 rw[<- z1A,z5A st h0 h1,bJ,cB,bI,dD,z1A]
 omega
theorem y4Z:∀s<20,∀i<12,z9k.cps.toList.take s++sgL.getD i 0::z9k.cps.toList.drop s≠U9.cps.toList:=by decide +kernel
theorem y4N{st:Str}(hst:st=""\/st="row"\/st=z9k){sp:Int}(h0:0≤sp)(h1:sp≤st.length){t:Int}(t0:0≤t)(t1:t<12){m:Nat}(hm:m≤12):Nms ((upI 0 m).map (z93 st sp t)) where
 nd:=z45 (z9X _ _) fun a ha b hb e=>by
  have ha':=z0U.mp ha
  have hb':=z0U.mp hb
  have e2:(z93 st sp t a).cps.toList=(z93 st sp t b).cps.toList:=congrArg (fun z:Str=>z.cps.toList) e
  rw[z5A st h0 h1,z5A st h0 h1] at e2
  have e3:=List.append_cancel_left e2
  have e4:sgL.getD ((t+a)%12).toNat 0=sgL.getD ((t+b)%12).toNat 0:=(List.cons.inj e3).1
  have l1:((t+a)%12).toNat<sgL.length:=by rw[y0s];omega
  have l2:((t+b)%12).toNat<sgL.length:=by rw[y0s];omega
  rw[bM,bD l1,bM,bD l2] at e4
  have e5:=(List.getElem_inj y3B).mp e4
  exact y10 t0 t1 (by omega) (by omega) (by omega) (by omega) (by omega)
 lo:=fun x hx=>by
  obtain⟨k,hk,rfl⟩:=cK.mp hx
  rw[z7g st h0 h1]
  omega
 hi:=fun x hx=>by
  obtain⟨k,hk,rfl⟩:=cK.mp hx
  rw[z7g st h0 h1]
  have l1:("":Str).length=0:=by decide +kernel
  have l2:("row":Str).length=3:=by decide +kernel
  have l3:z9k.length=19:=by decide +kernel
  rcases hst with rfl|rfl|rfl<;>omega
 far:=fun hx=>by
  obtain⟨k,hk,e⟩:=cK.mp hx
  have l1:("":Str).length=0:=by decide +kernel
  have l2:("row":Str).length=3:=by decide +kernel
  have l3:z9k.length=19:=by decide +kernel
  have l4:U9.length=20:=by decide +kernel
  have e2:=congrArg Str.length e
  rw[z7g st h0 h1] at e2
  rcases hst with rfl|rfl|rfl
  ·omega
  ·omega
  ·have e3:(z93 z9k sp t k).cps.toList=U9.cps.toList:=congrArg (fun z:Str=>z.cps.toList) e
   rw[z5A z9k h0 h1] at e3
   exact y4Z sp.toNat (by omega) ((t+k)%12).toNat (by omega) e3
def y2S:Sp:=fun vs H Q _=>∃c m:Int,vs=[.int c,.int m]/\0≤m/\m≤12/\
 ∀(l:Addr) (nm:List Str) (H':Hp),H l=none->A4 H H'->H' l=some (.lst (nm.map V.str))->nm.length=m.toNat->Nms nm->Q (.ref l) H'
theorem y1m{f:Int->V}(l:List Int):z2H (fun _=>true) f l=l.map f:=by
 unfold z2H
 rw[List.filter_eq_self.mpr fun _ _=>rfl]
theorem y4F(M:Bl mg)(F:Fun K "_law_named" "_law_named" z5d f fd):A7 P w K mg base CX0 1 f fd z5g y2S:=by
 have nd:=z6v.nd
 refine F.ok z6v (fun vs H Q E h=>?_) (fun cdv A outer s H vs Q E hr h=>?_)
 ·obtain⟨c,m,rfl,_⟩:=h
  rfl
 obtain⟨c,m,rfl,m0,m1,q⟩:=h
 refine⟨_,(z04 (z0s (i:=2) nd rfl (Or.inr rfl) z2E) (z04 (z0s (i:=3) nd rfl (Or.inr rfl) (z0q z0T (z0q z1n (pv 0) z06) z06)) (z04 (z0G (z09 z2L (z0q z0T (pv 0) z06) z06 (z0o _)) (z05 (z0i (z1i ["_law_k"] ["_law_cell","_law_turn"] [0,3] rfl (z0w rfl (by decide +kernel) rfl (by decide +kernel) rfl rfl) (z1q rfl M.range (z00 (pv 1) z02)) (fun _ _ _ _ _=>(z0k (i:=0) (show((["_law_k"]:List PySem.Str)++(["_law_cell","_law_turn"]:List PySem.Str)).Nodup from by decide +kernel) rfl (Or.inl rfl))) (z0z (by decide)) z0g (fun _ _ _ _ _=>z1K) (fun _ _ _ _ _=>(z0q y21 (z0D y2R z2E (z0q z0T (z0q z1n (pv 1) z06) z06) (fun _ _=>rfl)) (z0q z1m z06 (z0q z0T (z0q z1m (pv 2) (pv 0)) z06))))))) z0n) (z04 (z0s (i:=4) nd rfl (Or.inr rfl) (z0D z0Z (z1W (z00 z2E (z00 z2E (z00 z2E z02)))) (z0q z0T (pv 0) z06) (fun _ _=>rfl))) (z04 (z0s (i:=5) nd rfl (Or.inr rfl) (z0q z0T (z0q z1n (pv 0) z06) (z0q z1m (z0d y0d rfl M.len bR (z00 (pv 4) z02)) z06))) (z05 (z0i (z1i ["_law_k"] ["_law_stem","_law_signs","_law_spot","_law_turn"] [4,2,5,3] rfl (z0w rfl (by decide +kernel) rfl (by decide +kernel) rfl rfl) (z1q rfl M.range (z00 (pv 1) z02)) (fun _ _ _ _ _=>(z0k (i:=0) (show((["_law_k"]:List PySem.Str)++(["_law_stem","_law_signs","_law_spot","_law_turn"]:List PySem.Str)).Nodup from by decide +kernel) rfl (Or.inl rfl))) (z0z (by decide)) z0g (fun _ _ _ _ _=>z1K) (fun _ _ _ _ _=>(z0q z8w (z0q z8w (z2I y5u (pv 1) z3E (z3I (pv 3))) (z0D y2R (pv 2) (z0q z0T (z0q z1m (pv 4) (pv 0)) z06) (fun _ _=>rfl))) (z2I y5u (pv 1) (z3I (pv 3)) z3E))))))))))),?_⟩
 have t0:0≤c / 4%12:=cP _ (by decide)
 have t1:c / 4%12<12:=cE _ (by decide)
 refine⟨_,rfl,_,_,rfl,rfl,⟨by decide,by decide⟩,_,_,rfl,rfl,(by show(0:Int)<12;decide),?_⟩
 refine⟨_,rfl,_,_,rfl,rfl,(by show(0:Int)<4;decide),rfl,_,rfl,?_⟩
 refine B3 (fun _=>?_) (fun cn=>?_)
 ·obtain⟨sg,hsg⟩:∃sg,atI (("a ~":Str).cps.toList) (c / 48%3)=some sg:=by
   have h0:0≤c / 48%3:=cP _ (by decide)
   have h1:c / 48%3<3:=cE _ (by decide)
   have ek:c / 48%3=(((c / 48%3).toNat:Nat):Int):=by omega
   have hl:(("a ~":Str).cps.toList).length=3:=by decide +kernel
   rw[ek]
   exact⟨_,z0X (bD (by rw[hl];omega))⟩
  refine⟨_,rfl,_,rfl,by omega,by omega,?_⟩
  refine z9t (lo:=0) (n:=m.toNat) (fun _=>true) (fun k=>.str (V7 sg (c / 4%12) k)) (by omega) (fun k ys N k0 k1 hN=>?_) ?_
  ·refine⟨_,rfl,_,_,rfl,rfl,⟨by decide,by decide⟩,_,_,rfl,rfl,(by show(0:Int)<3;decide),_,_,sg,rfl,rfl,(by decide +kernel),hsg,?_⟩
   refine⟨_,rfl,_,rfl,_,_,rfl,rfl,_,_,rfl,rfl,(by show(0:Int)<12;decide),_,_,rfl,rfl,_,_,rfl,rfl,?_,?_,?_,?_⟩
   ·have:=cP (c / 4%12+k) (show(12:Int)≠0 by decide)
    omega
   ·have:=cE (c / 4%12+k) (show(0:Int)<12 by decide)
    omega
   ·show 1≤1000
    decide
   ·exact hN
  ·intro D hD
   rw[y1m]
   refine q D ((upI 0 m.toNat).map (V7 sg (c / 4%12))) _ hD (z01 hD _) ?_ (by rw[bA,z0Q]) (y6c sg t0 t1 (by omega))
   rw[z03,dL]
   rfl
 ·have c4:c%4=0\/c%4=1\/c%4=2:=by
   have h1:=cP c (show(4:Int)≠0 by decide)
   have h2:=cE c (show(0:Int)<4 by decide)
   have h3:c%4≠3:=fun e=>cn (decide_eq_true (congrArg V.int e))
   omega
  obtain⟨st,hat,hst⟩:∃st:Str,atI [V.str "",V.str "row",V.str "a long stem of them"] (c%4)=some (.str st)/\(st=""\/st="row"\/st=z9k):=by
   rcases c4 with e|e|e<;>rw[e]
   ·exact⟨_,rfl,.inl rfl⟩
   ·exact⟨_,rfl,.inr (.inl rfl)⟩
   ·exact⟨_,rfl,.inr (.inr rfl)⟩
  have stl:st.length≤19:=by
   have l1:("":Str).length=0:=by decide +kernel
   have l2:("row":Str).length=3:=by decide +kernel
   have l3:z9k.length=19:=by decide +kernel
   rcases hst with rfl|rfl|rfl<;>omega
  refine⟨(by show 3≤sizeLine;decide),fun p hp=>⟨_,rfl,_,_,rfl,rfl,(by show(0:Int)<4;decide),p,_,_,_,rfl,rfl,SqL.of z03,hat,?_⟩⟩
  refine⟨_,rfl,_,_,rfl,rfl,⟨by decide,by decide⟩,_,rfl,st,rfl,z80 (by omega),_,_,rfl,rfl,_,_,rfl,rfl,by omega,?_⟩
  have s0:0≤c / 48%((st.length:Int)+1):=cP _ (by omega)
  have s1:c / 48%((st.length:Int)+1)≤(st.length:Int):=by
   have:=cE (c / 48) (show(0:Int)<(st.length:Int)+1 by omega)
   omega
  refine⟨_,rfl,_,rfl,by omega,by omega,?_⟩
  refine z9t (lo:=0) (n:=m.toNat) (fun _=>true) (fun k=>.str (z93 st (c / 48%((st.length:Int)+1)) (c / 4%12) k)) (by omega) (fun k ys N k0 k1 hN=>?_) ?_
  ·have i0:=cP (c / 4%12+k) (show(12:Int)≠0 by decide)
   have i1:=cE (c / 4%12+k) (show(0:Int)<12 by decide)
   have hsg:atI (("mM ~aA0.xX_9":Str).cps.toList) ((c / 4%12+k)%12)=some (sgL.getD ((c / 4%12+k)%12).toNat 0):=by
    have ek:(c / 4%12+k)%12=((((c / 4%12+k)%12).toNat:Nat):Int):=by omega
    have l1:((c / 4%12+k)%12).toNat<sgL.length:=by rw[y0s];omega
    have q1:atI sgL ((((c / 4%12+k)%12).toNat:Nat):Int)=some (sgL.getD ((c / 4%12+k)%12).toNat 0):=z0X (by
     rw[bM,bD l1]
     rfl)
    rw[<- ek] at q1
    exact q1
   have la:(N8 st none (some (c / 48%((st.length:Int)+1)))).length≤19:=by
    rw[<- z1A,y5x st s0 s1,bI,z1A]
    omega
   have lb:(N8 st (some (c / 48%((st.length:Int)+1))) none).length≤19:=by
    rw[<- z1A,y5n st s0 s1,dD,z1A]
    omega
   have lc:∀(x:Nat),(⟨#[x]⟩:Str).length=1:=fun _=>rfl
   have lab:∀(x:Nat),(N8 st none (some (c / 48%((st.length:Int)+1)))++(⟨#[x]⟩:Str)).length≤20:=fun x=>by
    rw[<- z1A,y0B,bJ,z1A,z1A,lc]
    omega
   refine⟨_,rfl,_,rfl,_,rfl,st,rfl,z80 (by omega),?_⟩
   refine⟨_,rfl,_,rfl,_,rfl,_,_,rfl,rfl,_,_,rfl,rfl,(by show(0:Int)<12;decide),_,_,_,rfl,rfl,(by decide +kernel),hsg,?_⟩
   refine⟨_,_,rfl,rfl,z80 (by rw[lc];omega),?_⟩
   refine⟨_,rfl,_,rfl,_,rfl,st,rfl,z80 (by omega),_,_,rfl,rfl,z80 (by have:=lab (sgL.getD ((c / 4%12+k)%12).toNat 0);omega),?_⟩
   exact hN
  ·intro D hD
   rw[y1m]
   refine q D ((upI 0 m.toNat).map (z93 st (c / 48%((st.length:Int)+1)) (c / 4%12))) _ ((z01 hp _).free hD) ((z01 hp _).trans (z01 hD _)) ?_ (by rw[bA,z0Q]) (y4N hst s0 s1 t0 t1 (by omega))
   rw[z03,dL]
   rfl
def y08:Sp:=fun vs H Q _=>∃t:Int,vs=[.int t]/\0≤t/\t<1000000/\Q (.int (2^t.toNat)) H
theorem y1W(M:Bl mg)(F:Fun K "_law_doubled" "_law_doubled" z3Q f fd):A7 P w K mg base CX0 1 f fd z3L y08:=by
 have nd:=z4K.nd
 refine F.ok z4K (fun vs H Q E h=>?_) (fun cdv A outer s H vs Q E hr h=>?_)
 ·obtain⟨t,rfl,_⟩:=h
  rfl
 obtain⟨t,rfl,t0,t1,q⟩:=h
 refine⟨_,(z04 (z0s (i:=1) nd rfl (Or.inl rfl) z06) (z04 (z15 bY rfl (z1q rfl M.range (z00 (pv 0) z02)) (z0k (i:=2) nd rfl (Or.inl rfl)) (z05 (z0s (i:=1) nd rfl (Or.inl rfl) (z0q z5T (pv 1) z06)))) (z05 (z0i (pv 1))))),?_⟩
 refine⟨_,rfl,_,rfl,by omega,by omega,?_⟩
 refine z1p (lo:=0) (n:=t.toNat) (fun i σ H'=>H'=H/\∃o,σ=[some (.int t),some (.int (2^i)),o]) ⟨rfl,_,rfl⟩ (fun i σ H' hi hp=>?_) (fun σ H' hp=>?_)
 ·obtain⟨rfl,o,rfl⟩:=hp
  refine⟨_,rfl,_,_,rfl,rfl,.inr ⟨by decide,by decide⟩,rfl,some (.int (0+(i:Int))),?_⟩
  rw[Int.pow_succ]
  rfl
 ·obtain⟨rfl,o,rfl⟩:=hp
  exact⟨_,rfl,q⟩
def z9H(H:Hp)(l:Addr)(v:V)(s:List Str):Prop:=∃a,v=.ref a/\a≠l/\H a=some (.lst (s.map V.str))
theorem z9H.keep{H H':Hp}(g:A4 H H'){l:Addr}{v:V}{s:List Str}(h:z9H H l v s):z9H H' l v s:=let ⟨a,e,n,q⟩:=h;⟨a,e,n,g _ _ q⟩
theorem z9H.over{H:Hp}{l:Addr}{o:HO}{v:V}{s:List Str}(h:z9H H l v s):z9H (upd H l o) l v s:=let ⟨a,e,n,q⟩:=h;⟨a,e,n,by rw[z0h n];exact q⟩
abbrev z28(H:Hp)(l:Addr):List V->List (List Str)->Prop:=Paired (z9H H l)
theorem z28.keep{H H':Hp}(g:A4 H H'){l:Addr}:∀{xs:List V}{ss:List (List Str)},z28 H l xs ss->z28 H' l xs ss
 | _,_,.nil=>.nil
 | _,_,.cons r t=>.cons (r.keep g) (z28.keep g t)
theorem z28.over{H:Hp}{l:Addr}{o:HO}:∀{xs:List V}{ss:List (List Str)},z28 H l xs ss->z28 (upd H l o) l xs ss
 | _,_,.nil=>.nil
 | _,_,.cons r t=>.cons r.over (z28.over t)
theorem z28.len{H:Hp}{l:Addr}:∀{xs:List V}{ss:List (List Str)},z28 H l xs ss->xs.length=ss.length
 | _,_,.nil=>rfl
 | _,_,.cons _ t=>by rw[cB,cB,z28.len t]
theorem z28.get{H:Hp}{l:Addr}:∀{xs:List V}{ss:List (List Str)},z28 H l xs ss->∀(i:Nat) (s:List Str),ss[i]? = some s->∃v,xs[i]? = some v/\z9H H l v s
 | _,_,.nil,i,s,e=>by simp at e
 | _,_,.cons r t,0,s,e=>by
  simp at e
  subst e
  exact⟨_,rfl,r⟩
 | _,_,.cons r t,i+1,s,e=>by
  obtain⟨v,h1,h2⟩:=z28.get t i s (by simpa using e)
  exact⟨v,by simpa using h1,h2⟩
theorem z1O(ns:List Str):(ns.map V.str).all z1Y=true:=by
 rw[jH,jI]
 intro x _
 rfl
theorem y6g{ns:List Str}{k:Int}(h0:0≤k)(h:k<(ns.length:Int)):∃x,ns[k.toNat]? = some x/\atI (ns.map V.str) k=some (.str x):=by
 have hk:k.toNat<ns.length:=by omega
 have ek:k=((k.toNat:Nat):Int):=by omega
 have q:atI (ns.map V.str) ((k.toNat:Nat):Int)=some (.str ns[k.toNat]):=z0X (by rw[bE,bD hk];rfl)
 rw[<- ek] at q
 exact⟨_,bD hk,q⟩
def y5m(K:PySem.W.Frag):Sp:=fun vs H Q _=>∃(ln:Addr) (nm:List Str) (c m:Int),vs=[.ref ln,.int c,.int m]/\SqL K H ln (nm.map V.str)/\1≤nm.length/\nm.length≤12/\0≤m/\m≤900/\
 ∀(l:Addr) (xs:List V) (ss:List (List Str)) (H':Hp),H l=none->A4 H H'->H' l=some (.lst xs)->z28 H' l xs ss->ss.length=m.toNat->(∀s∈ss,s.Sublist nm)->Q (.ref l) H'
theorem two_pow_le{n:Nat}(h:n≤12):(1:Int)≤2^n/\(2:Int)^n≤4096:=by
 have:∀k≤12,(1:Int)≤2^k/\(2:Int)^k≤4096:=by decide
 exact this n h
theorem y6o(M:Bl mg)(F:Fun K "_law_sets" "_law_sets" z6r f fd)(I0:Cal P w K mg base 1 "_law_row" z5x y64)(K3:Cal P w K mg base 1 "_law_doubled" z3L y08) :
  A7 P w K mg base CX0 2 f fd z66 (y5m K):=by
 have nd:=z7x.nd
 refine F.ok z7x (fun vs H Q E h=>?_) (fun cdv A outer s H vs Q E hr h=>?_)
 ·obtain⟨ln,nm,c,m,rfl,_⟩:=h
  rfl
 obtain⟨ln,nm,c,m,rfl,hS,n1,n2,m0,m1,q⟩:=h
 refine⟨_,(z04 (z0s (i:=3) nd rfl (Or.inl rfl) (z0l K3 (rm hr) rfl (z00 (z0d z0a rfl M.len bR (z00 (pv 0) z02)) z02))) (z04 (z0s (i:=4) nd rfl (Or.inl rfl) (z1W z02)) (z04 (z15 bY rfl (z1I (z0l I0 (rm hr) rfl (z00 (pv 1) (z00 (pv 2) (z00 (z0q z5T z06 (pv 3)) z02))))) (z0k (i:=5) nd rfl (Or.inl rfl)) (z04 (z0s (i:=6) nd rfl (Or.inl rfl) (z0q z0T (pv 5) (pv 3))) (z04 (z0s (i:=7) nd rfl (Or.inl rfl) (z1W z02)) (z04 (z15 bY rfl (z1I (pv 0)) (z0k (i:=8) nd rfl (Or.inl rfl)) (z04 (z0G (z09 z2L (z0q z0T (pv 6) z06) z06 (z0o _)) (z05 (z0y (z3g bU bT bX z0J (pv 7) (z00 (pv 8) z02)))) z0n) (z05 (z0s (i:=6) nd rfl (Or.inl rfl) (z0q z1n (pv 6) z06))))) (z04 (z0G (z09 z2L (z0q z1n (pv 5) (pv 3)) z06 (z0o _)) (z05 (z0s (i:=7) nd rfl (Or.inl rfl) (z1W (z00 (z0D z0Z (pv 0) (z0q z0T (pv 5) (z0d z0a rfl M.len bR (z00 (pv 0) z02))) (fun _ _=>rfl)) z02)))) z0n) (z04 (z0G (z09 z2L (z0q z1n (pv 5) (pv 3)) z06 (z0o _)) (z05 (z0s (i:=7) nd rfl (Or.inl rfl) (z1W z02))) z0n) (z04 (z0G (z09 z2L (z0q z1n (pv 5) (pv 3)) z06 (z0o _)) (z05 (z0s (i:=7) nd rfl (Or.inl rfl) (z0t z2v rfl M.list eI (z00 (pv 0) z02)))) z0n) (z05 (z0y (z3g bU bT bX z0J (pv 4) (z00 (pv 7) z02))))))))))) (z05 (z0i (pv 4)))))),?_⟩
 have hl0:(nm.map V.str).length=nm.length:=bA _
 refine⟨_,rfl,ln,_,rfl,.inl hS,_,rfl,by omega,by omega,?_⟩
 have pw:=two_pow_le n2
 rw[hl0]
 have ez:(2:Int)^(((nm.length:Nat):Int).toNat)=2^nm.length:=rfl
 rw[ez]
 generalize hz:(2:Int)^nm.length=z at pw ⊢
 refine⟨(by show 0≤sizeLine;decide),fun l hl=>?_⟩
 refine⟨_,rfl,_,rfl,_,rfl,_,_,rfl,rfl,.inl ⟨by decide,by decide⟩,c,m,4*z,rfl,m0,m1,by omega,by omega,fun lf fs H1 nlf s1 e1 U2 all1=>?_⟩
 have sl:=z01 (H:=H) hl (.lst [])
 have nl:lf≠l:=fun e=>by rw[e,z03] at nlf;cases nlf
 have el1:H1 l=some (.lst []):=s1 _ _ z03
 refine⟨lf,rfl,⟨_,SqL.of e1⟩,?_⟩
 refine z22 (xs:=fs.map V.int) (fun i σ H'=>∃(xs:List V) (ss:List (List Str)) (o1 o2 o3 o4:Option V),H' l=some (.lst xs)/\z28 H' l xs ss/\ss.length=i/\(∀s∈ss,s.Sublist nm)/\H' lf=some (.lst (fs.map V.int))/\A4 H H'/\
  σ=[some (.ref ln),some (.int c),some (.int m),some (.int z),some (.ref l),o1,o2,o3,o4]) ⟨[],[],_,_,_,_,el1,.nil,rfl,(fun _ h=>nomatch h),e1,sl.trans s1,rfl⟩ (fun i σ H' hi hp=>?_) (fun i x σ H' hx hp=>?_) (fun σ H' hp=>?_)
 ·obtain⟨xs,ss,o1,o2,o3,o4,_,_,_,_,h2,_⟩:=hp
  exact SqL.of h2
 ·obtain⟨xs,ss,o1,o2,o3,o4,p1,p2,p3,p4,p5,p6,rfl⟩:=hp
  rw[bE] at hx
  cases ef:fs[i]? with
  | none=>rw[ef] at hx;cases hx
  | some g=>
   rw[ef] at hx
   cases hx
   have hg:=all1 g (bV ef)
   have hi:i<fs.length:=(cC.mp ef).1
   have lx:=p2.len
   have cd:CDiv g z:=⟨by omega,by omega⟩
   refine⟨_,rfl,_,rfl,_,_,rfl,rfl,(by omega),?_⟩
   refine⟨(by show 0≤sizeLine;decide),fun a ha=>?_⟩
   have nal:a≠l:=fun e=>by rw[e,p1] at ha;cases ha
   have naf:a≠lf:=fun e=>by rw[e,p5] at ha;cases ha
   refine⟨_,rfl,ln,rfl,⟨_,(p6.trans (z01 ha _)).seq hS⟩,?_⟩
   refine z22 (xs:=nm.map V.str) (fun k σ H2=>∃(ch:List Str) (mk:Int) (o4:Option V),ch.Sublist (nm.take k)/\H2=upd H' a (.lst (ch.map V.str))/\
    σ=[some (.ref ln),some (.int c),some (.int m),some (.int z),some (.ref l),some (.int g),some (.int mk),some (.ref a),o4]) ⟨[],_,_,jD _,rfl,rfl⟩ (fun k σ H2 hk hp=>?_) (fun k y σ H2 hy hp=>?_) (fun σ H2 hp=>?_)
   ·obtain⟨ch,mk,o4,_,rfl,_⟩:=hp
    exact(p6.trans (z01 ha _)).seq hS
   ·obtain⟨ch,mk,o4,hch,rfl,rfl⟩:=hp
    rw[bE] at hy
    cases en:nm[k]? with
    | none=>rw[en] at hy;cases hy
    | some nk=>
     rw[en] at hy
     cases hy
     have tk:=z0j en
     have hcl:ch.length≤12:=by
      have:=hch.length_le
      rw[bI] at this
      omega
     refine⟨_,rfl,_,_,rfl,rfl,(by show(0:Int)<2;decide),rfl,_,rfl,?_⟩
     refine B3 (fun _=>?_) (fun _=>?_)
     ·refine⟨_,rfl,.inl ⟨rfl,_,SqL.of z03⟩,_,rfl,a,_,_,rfl,rfl,z03,z0f (by rw[bA];omega),?_⟩
      refine⟨_,rfl,_,_,rfl,rfl,⟨by decide,by decide⟩,ch++[nk],_,some (.str nk),?_,?_,rfl⟩
      ·rw[tk]
       exact hch.append (jD _)
      ·rw[z7w,bG]
       rfl
     ·refine⟨_,rfl,_,_,rfl,rfl,⟨by decide,by decide⟩,ch,_,some (.str nk),?_,rfl,rfl⟩
      rw[tk]
      exact hch.trans (List.sublist_append_left _ _)
   ·obtain⟨ch,mk,o4,hch,rfl,rfl⟩:=hp
    rw[bA,bP] at hch
    have fin:∀(b:Addr) (cs:List Str) (H3:Hp) (o2 o4:Option V),cs.Sublist nm->b≠l->H3 b=some (.lst (cs.map V.str))->A4 (upd H' a (.lst (ch.map V.str))) H3->
      ∃(xs':List V) (ss':List (List Str)) (o1' o2' o3' o4':Option V),upd H3 l (.lst (xs++[.ref b])) l=some (.lst xs')/\z28 (upd H3 l (.lst (xs++[.ref b]))) l xs' ss'/\ss'.length=i+1/\(∀s∈ss',s.Sublist nm)/\
       upd H3 l (.lst (xs++[.ref b])) lf=some (.lst (fs.map V.int))/\A4 H (upd H3 l (.lst (xs++[.ref b])))/\
       ([some (.ref ln),some (.int c),some (.int m),some (.int z),some (.ref l),some (.int g),o2,some (.ref b),o4]:St)=[some (.ref ln),some (.int c),some (.int m),some (.int z),some (.ref l),o1',o2',o3',o4']:=by
     intro b cs H3 o2 o4 hcs hb hb3 g3
     have g4:A4 H' H3:=(z01 ha _).trans g3
     refine⟨_,ss++[cs],_,_,_,_,z03,?_,by rw[bJ,p3];rfl,fun s' hs'=>?_,?_,z2J (p6.trans g4) hl,rfl⟩
     ·exact fL (p2.keep g4).over ⟨b,rfl,hb,by rw[z0h hb];exact hb3⟩
     ·rcases bS.mp hs' with h|h
      ·exact p4 s' h
      ·rw[bC.mp h]
       exact hcs
     ·rw[z0h nl]
      exact g4 _ _ p5
    have el:∀{H3:Hp},A4 (upd H' a (.lst (ch.map V.str))) H3->H3 l=some (.lst xs):=fun {H3} g3=>g3 _ _ ((z01 ha _) _ _ p1)
    have app:∀{H3:Hp},A4 (upd H' a (.lst (ch.map V.str))) H3->xs.length<sizeLine:=fun _=>z0f (by omega)
    refine⟨_,rfl,_,rfl,_,_,rfl,rfl,cd,rfl,_,rfl,?_⟩
    refine B3 (fun d1=>?_) (fun d1=>?_)
    ·obtain⟨x1,hx1,ax1⟩:=y6g (ns:=nm) (k:=g%(((nm.map V.str).length:Nat):Int)) (cP _ (by omega)) (by rw[hl0];exact cE _ (by omega))
     have q1:g / z=1:=V.int.inj (z0M d1)
     refine⟨_,rfl,_,rfl,_,rfl,ln,_,rfl,.inl ((p6.trans (z01 ha _)).seq hS),_,_,rfl,rfl,(by rw[hl0];omega),ln,_,_,_,rfl,rfl,(p6.trans (z01 ha _)).seq hS,ax1,(by show 1≤sizeLine;decide),fun b1 hb1=>?_⟩
     have g1:=z01 hb1 (.lst [.str x1])
     have sub1:[x1].Sublist nm:=List.singleton_sublist.mpr (bV hx1)
     refine⟨_,rfl,_,rfl,_,_,rfl,rfl,cd,rfl,_,rfl,?_⟩
     refine B3 (fun d=>absurd (show g / z=2 from V.int.inj (z0M d)) (by omega)) (fun _=>⟨_,rfl,_,rfl,_,_,rfl,rfl,cd,rfl,_,rfl,?_⟩)
     refine B3 (fun d=>absurd (show g / z=3 from V.int.inj (z0M d)) (by omega)) (fun _=>?_)
     refine⟨_,rfl,.inl ⟨rfl,_,SqL.of (el g1)⟩,_,rfl,l,_,_,rfl,rfl,el g1,app g1,?_⟩
     exact fin b1 [x1] _ _ _ sub1 (fun e=>by rw[e,(z01 ha (.lst (ch.map V.str))) _ _ p1] at hb1;cases hb1) z03 g1
    ·refine⟨_,rfl,_,rfl,_,_,rfl,rfl,cd,rfl,_,rfl,?_⟩
     refine B3 (fun d2=>?_) (fun d2=>?_)
     ·have q2:g / z=2:=V.int.inj (z0M d2)
      refine⟨(by show 0≤sizeLine;decide),fun b1 hb1=>?_⟩
      have g1:=z01 hb1 (.lst [])
      refine⟨_,rfl,_,rfl,_,_,rfl,rfl,cd,rfl,_,rfl,?_⟩
      refine B3 (fun d=>absurd (show g / z=3 from V.int.inj (z0M d)) (by omega)) (fun _=>?_)
      refine⟨_,rfl,.inl ⟨rfl,_,SqL.of (el g1)⟩,_,rfl,l,_,_,rfl,rfl,el g1,app g1,?_⟩
      exact fin b1 [] _ _ _ (jJ _) (fun e=>by rw[e,(z01 ha (.lst (ch.map V.str))) _ _ p1] at hb1;cases hb1) z03 g1
     ·refine⟨_,rfl,_,rfl,_,_,rfl,rfl,cd,rfl,_,rfl,?_⟩
      refine B3 (fun d3=>?_) (fun d3=>?_)
      ·refine⟨_,rfl,ln,_,rfl,.inl ((p6.trans (z01 ha _)).seq hS),fun b1 hb1=>?_⟩
       have g1:=z01 hb1 (.lst (nm.map V.str))
       refine⟨_,rfl,.inl ⟨rfl,_,SqL.of (el g1)⟩,_,rfl,l,_,_,rfl,rfl,el g1,app g1,?_⟩
       exact fin b1 nm _ _ _ (jD _) (fun e=>by rw[e,(z01 ha (.lst (ch.map V.str))) _ _ p1] at hb1;cases hb1) z03 g1
      ·refine⟨_,rfl,.inl ⟨rfl,_,SqL.of (el (A4.refl _))⟩,_,rfl,l,_,_,rfl,rfl,el (A4.refl _),app (A4.refl _),?_⟩
       exact fin a ch _ _ _ hch nal z03 (A4.refl _)
 ·obtain⟨xs,ss,o1,o2,o3,o4,p1,p2,p3,p4,p5,p6,rfl⟩:=hp
  rw[bA] at p3
  exact⟨_,rfl,q l xs ss _ hl p6 p1 p2 (by rw[p3,U2]) p4⟩
abbrev Row:=List (Str×Int)
def z9m(p:Str×Int):DV:=.tup [.str p.1,.int p.2]
def L9(r:Row):DV:=.tup (r.map z9m)
theorem y3d{H:Hp}{a:Addr}{x:Str}{z:Int}(h:H a=some (.tup [.str x,.int z])):A5 H (z9m (x,z)) (.ref a):=z0u h (by show 2≤1000000;decide) (.cons (z2p x) (.cons (z0E z) .nil))
theorem y11{xs:List V}:∀ys,HO.lst xs≠.tup ys:=fun _ e=>by cases e
def y3f:Sp:=fun vs H Q _=>∃g p:Int,vs=[.int g,.int p]/\∀r,0≤r->r≤1000000->Q (.int r) H
theorem y4I(F:Fun K "_law_value" "_law_value" z53 f fd):A7 P w K mg base CX0 1 f fd z5b y3f:=by
 have nd:=z6H.nd
 refine F.ok z6H (fun vs H Q E h=>?_) (fun cdv A outer s H vs Q E hr h=>?_)
 ·obtain⟨g,p,rfl,_⟩:=h
  rfl
 obtain⟨g,p,rfl,q⟩:=h
 refine⟨_,(z04 (z0G (z09 z2L (z0q z1n (pv 0) z06) z06 (z0o _)) (z05 (z0i (z0q z0T (z0q z1m (pv 0) (z0q z5T z06 (pv 1))) z06))) z0n) (z04 (z0G (z09 z2L (z0q z1n (pv 0) z06) z06 (z0o _)) (z05 (z0i (z0q z5T z06 (z0q z0T (z0q z1m (pv 0) (pv 1)) z06)))) z0n) (z05 (z0i (z0q z0T (z0q z1m (pv 0) (pv 1)) z06))))),?_⟩
 refine⟨_,rfl,_,_,rfl,rfl,⟨by decide,by decide⟩,rfl,_,rfl,?_⟩
 refine B3 (fun _=>?_) (fun _=>?_)
 ·refine⟨_,rfl,_,rfl,_,_,rfl,rfl,.inl ⟨by decide,by decide⟩,_,_,rfl,rfl,_,_,rfl,rfl,(by show(0:Int)<1000001;decide),?_⟩
  have h1:=cP (g+7*p) (show(1000001:Int)≠0 by decide)
  have h2:=cE (g+7*p) (show(0:Int)<1000001 by decide)
  exact q _ h1 (by omega)
 ·refine⟨_,rfl,_,_,rfl,rfl,⟨by decide,by decide⟩,rfl,_,rfl,?_⟩
  have h1:=cP (g+p) (show(2:Int)≠0 by decide)
  have h2:=cE (g+p) (show(0:Int)<2 by decide)
  refine B3 (fun _=>?_) (fun _=>?_)
  ·refine⟨_,rfl,_,rfl,_,_,rfl,rfl,_,_,rfl,rfl,(by show(0:Int)<2;decide),_,_,rfl,rfl,.inl ⟨by decide,by decide⟩,?_⟩
   exact q _ (by omega) (by omega)
  ·refine⟨_,rfl,_,rfl,_,_,rfl,rfl,_,_,rfl,rfl,(by show(0:Int)<2;decide),?_⟩
   exact q _ h1 (by omega)
structure Rws(nm:List Str)(rows:List Row):Prop where
 sub:∀r∈rows,(r.map Prod.fst).Sublist nm
 val:∀r∈rows,∀p∈r,0≤p.2/\p.2≤1000000
def y1r:Sp:=fun vs H Q _=>∃(l:Addr) (xs:List V) (ss:List (List Str)) (c:Int),vs=[.ref l,.int c]/\H l=some (.lst xs)/\z28 H l xs ss/\ss.length≤900/\(∀s∈ss,s.length≤12)/\
 ∀(lr:Addr) (us:List V) (rows:List Row) (H':Hp),H lr=none->A4 H H'->H' lr=some (.lst us)->z08 H' (rows.map L9) us->rows.map (fun r=>r.map Prod.fst)=ss->(∀r∈rows,∀p∈r,0≤p.2/\p.2≤1000000)->Q (.ref lr) H'
theorem y2t(M:Bl mg)(F:Fun K "_law_valued" "_law_valued" z4f f fd)(I0:Cal P w K mg base 1 "_law_row" z5x y64)(M4:Cal P w K mg base 1 "_law_value" z5b y3f) :
  A7 P w K mg base CX0 2 f fd z4e y1r:=by
 have nd:=z5O.nd
 refine F.ok z5O (fun vs H Q E h=>?_) (fun cdv A outer s H vs Q E hr h=>?_)
 ·obtain⟨l,xs,ss,c,rfl,_⟩:=h
  rfl
 obtain⟨l,xs,ss,c,rfl,hL,hSs,n0,n1,q⟩:=h
 refine⟨_,(z04 (z0s (i:=2) nd rfl (Or.inl rfl) (z0l I0 (rm hr) rfl (z00 (pv 1) (z00 (z0d z0a rfl M.len bR (z00 (pv 0) z02)) (z00 z06 z02))))) (z04 (z0s (i:=3) nd rfl (Or.inl rfl) (z1W z02)) (z04 (z15 bY rfl (z1q rfl M.range (z00 (z0d z0a rfl M.len bR (z00 (pv 0) z02)) z02)) (z0k (i:=4) nd rfl (Or.inl rfl)) (z04 (z0s (i:=5) nd rfl (Or.inl rfl) (z1W z02)) (z04 (z15 bY rfl (z1q rfl M.range (z00 (z0d z0a rfl M.len bR (z00 (z0D z0Z (pv 0) (pv 4) (fun _ _=>rfl)) z02)) z02)) (z0k (i:=6) nd rfl (Or.inl rfl)) (z05 (z0y (z3g bU bT bX z0J (pv 5) (z00 (z0V (z00 (z0D z0Z (z0D z0Z (pv 0) (pv 4) (fun _ _=>rfl)) (pv 6) (fun _ _=>rfl)) (z00 (z0l M4 (rm hr) rfl (z00 (z0D z0Z (pv 2) (pv 4) (fun _ _=>rfl)) (z00 (pv 6) z02))) z02))) z02))))) (z05 (z0y (z3g bU bT bX z0J (pv 3) (z00 (z0t z0m rfl M.tuple bL (z00 (pv 5) z02)) z02))))))) (z05 (z0i (pv 3)))))),?_⟩
 have hl0:=hSs.len
 refine⟨_,rfl,_,rfl,l,_,rfl,.inl (SqL.of hL),_,_,_,rfl,by omega,by omega,by decide,by decide,fun lf fs H1 nlf s1 e1 U2 all1=>?_⟩
 have len1':fs.length=ss.length:=by rw[U2,hl0];rfl
 refine⟨(by show 0≤sizeLine;decide),fun lr hlr=>?_⟩
 have nr:lf≠lr:=z0r e1 hlr
 have nlr0:H lr=none:=s1.free hlr
 refine⟨_,rfl,l,_,rfl,.inl (SqL.of ((s1.trans (z01 hlr _)) _ _ hL)),_,rfl,by omega,by omega,?_⟩
 refine z1p (lo:=0) (n:=((xs.length:Nat):Int).toNat) (fun i σ H'=>∃(us:List V) (rows:List Row) (o1 o2 o3:Option V),H' lr=some (.lst us)/\z08 H' (rows.map L9) us/\rows.map (fun r=>r.map Prod.fst)=ss.take i/\(∀r∈rows,∀p∈r,0≤p.2/\p.2≤1000000)/\A4 H1 H'/\
  σ=[some (.ref l),some (.int c),some (.ref lf),some (.ref lr),o1,o2,o3]) ⟨[],[],_,_,_,z03,.nil,rfl,(fun _ h=>nomatch h),z01 hlr _,rfl⟩ (fun i σ H' hi hp=>?_) (fun σ H' hp=>?_)
 ·obtain⟨us,rows,o1,o2,o3,p1,p2,p3,p4,p5,rfl⟩:=hp
  have hi':i<ss.length:=by
   have:((xs.length:Nat):Int).toNat=xs.length:=rfl
   omega
  have ei:(0:Int)+(i:Int)=(i:Int):=gK _
  have es:ss[i]? = some ss[i]:=bD hi'
  generalize ss[i]=sI at es
  have hsI:=n1 sI (bV es)
  obtain⟨v,hv,a,rfl,na,ha⟩:=hSs.get i sI es
  have lus:=p2.length
  rw[bA] at lus
  have lrows:rows.length=i:=by
   have:=congrArg List.length p3
   rw[bA,bI] at this
   omega
  have atv:atI xs ((0:Int)+(i:Int))=some (.ref a):=by rw[ei];exact z0X hv
  have gl:∀{H2:Hp},A4 H' H2->H2 l=some (.lst xs)/\H2 a=some (.lst (sI.map V.str))/\H2 lf=some (.lst (fs.map V.int)):=fun {H2} g=>⟨(s1.trans (p5.trans g)) _ _ hL,(s1.trans (p5.trans g)) _ _ ha,(p5.trans g) _ _ e1⟩
  refine⟨(by show 0≤sizeLine;decide),fun lo hlo=>?_⟩
  have go:=z01 (H:=H') hlo (.lst [])
  refine⟨_,rfl,_,rfl,l,_,_,_,rfl,rfl,SqL.of (gl go).1,atv,a,_,rfl,.inl (SqL.of (gl go).2.1),_,rfl,by omega,by rw[bA];omega,?_⟩
  have hls:(sI.map V.str).length=sI.length:=bA _
  refine z1p (lo:=0) (n:=(((sI.map V.str).length:Nat):Int).toNat) (fun j σ H2=>∃(zs:List V) (row:Row) (o3:Option V),H2 lo=some (.lst zs)/\z08 H2 (row.map z9m) zs/\row.map Prod.fst=sI.take j/\(∀p∈row,0≤p.2/\p.2≤1000000)/\A4 H' H2/\
   σ=[some (.ref l),some (.int c),some (.ref lf),some (.ref lr),some (.int (0+(i:Int))),some (.ref lo),o3]) ⟨[],[],_,z03,.nil,rfl,(fun _ h=>nomatch h),go,rfl⟩ (fun j σ H2 hj hp=>?_) (fun σ H2 hp=>?_)
  ·obtain⟨zs,row,o3,r1,r2,r3,r4,r5,rfl⟩:=hp
   have hj':j<sI.length:=by
    have:(((sI.map V.str).length:Nat):Int).toNat=sI.length:=by rw[hls];rfl
    omega
   have ej:(0:Int)+(j:Int)=(j:Int):=gK _
   have ex:sI[j]? = some sI[j]:=bD hj'
   generalize sI[j]=x at ex
   have atx:atI (sI.map V.str) ((0:Int)+(j:Int))=some (.str x):=by
    rw[ej]
    exact z0X (by rw[bE,ex];rfl)
   have atf:atI (fs.map V.int) ((0:Int)+(i:Int))=some (.int (fs.getD i 0)):=by
    rw[ei]
    exact y2F (ns:=fs) (k:=(i:Int)) (by omega) (by omega)
   have lrow:row.length=j:=by
    have:=congrArg List.length r3
    rw[bA,bI] at this
    omega
   have lz:=r2.length
   rw[bA] at lz
   refine⟨_,rfl,.inl ⟨rfl,_,SqL.of r1⟩,_,rfl,_,rfl,l,_,_,_,rfl,rfl,SqL.of (gl r5).1,atv,_,rfl,a,_,_,_,rfl,rfl,SqL.of (gl r5).2.1,atx,?_⟩
   refine⟨_,rfl,_,rfl,lf,_,_,_,rfl,rfl,SqL.of (gl r5).2.2,atf,_,rfl,_,_,rfl,fun z z0 z1=>⟨(by show 2≤sizeLine;decide),fun t ht=>?_⟩⟩
   have gt:=z01 (H:=H2) ht (.tup [.str x,.int z])
   refine⟨lo,zs,_,rfl,rfl,gt _ _ r1,z0f (by omega),?_⟩
   refine⟨_,row++[(x,z)],some (.int (0+(j:Int))),z03,?_,?_,fun p hp=>?_,z2J (r5.trans gt) hlo,rfl⟩
   ·rw[bG]
    exact z08.over (gt _ _ r1) y11 _ _ (z08.snoc (z08.keep gt _ _ r2) (y3d z03))
   ·rw[bG,r3,z0j ex]
    rfl
   ·rcases bS.mp hp with h|h
    ·exact r4 p h
    ·rw[bC.mp h]
     exact⟨z0,z1⟩
  ·obtain⟨zs,row,o3,r1,r2,r3,r4,r5,rfl⟩:=hp
   have er:(((sI.map V.str).length:Nat):Int).toNat=sI.length:=by rw[hls];rfl
   rw[er,bP] at r3
   have lrow:row.length≤12:=by
    have:=congrArg List.length r3
    rw[bA] at this
    omega
   refine⟨_,rfl,.inl ⟨rfl,_,SqL.of (r5 _ _ p1)⟩,_,rfl,lo,_,rfl,.inl ⟨SqL.of r1,fun t ht=>?_⟩⟩
   have gt:=z01 (H:=H2) ht (.tup zs)
   have el:=(r5.trans gt) _ _ p1
   refine⟨lr,us,_,rfl,rfl,el,z0f (by omega),?_⟩
   refine⟨_,rows++[row],_,_,_,z03,?_,?_,fun r hr'=>?_,z2J (p5.trans (r5.trans gt)) hlr,rfl⟩
   ·rw[bG]
    refine z08.over el y11 _ _ (z08.snoc (z08.keep (r5.trans gt) _ _ p2) (z0u z03 ?_ (z08.keep gt _ _ r2)))
    rw[bA]
    omega
   ·rw[bG,p3,z0j es]
    exact congrArg (ss.take i++·) (congrArg (fun z=>[z]) r3)
   ·rcases bS.mp hr' with h|h
    ·exact p4 r h
    ·rw[bC.mp h]
     exact r4
 ·obtain⟨us,rows,o1,o2,o3,p1,p2,p3,p4,p5,rfl⟩:=hp
  have er:((xs.length:Nat):Int).toNat=ss.length:=by rw[hl0];rfl
  rw[er,bP] at p3
  exact⟨_,rfl,q lr us rows _ nlr0 (s1.trans p5) p1 p2 p3 p4⟩
def K2(s:List Str):DV:=.tup (s.map DV.str)
def dnI(hi:Int)(j:Nat):List Int:=(List.range j).map fun(k:Nat)=>hi-(k:Int)
theorem y4k(hi:Int)(j:Nat):dnI hi (j+1)=dnI hi j++[hi-(j:Int)]:=by
 unfold dnI
 rw[List.range_succ,bG]
 rfl
theorem z94(hi:Int)(j:Nat):(dnI hi j).length=j:=by unfold dnI;rw[bA,fM]
theorem z7j{hi:Int}{j:Nat}{x:Int}:x∈dnI hi j↔hi-j<x/\x≤hi:=by
 unfold dnI
 rw[cK]
 constructor
 ·rintro⟨k,hk,rfl⟩
  have:=fO.mp hk
  omega
 ·rintro⟨h1,h2⟩
  exact⟨(hi-x).toNat,fO.mpr (by omega),by omega⟩
def z0A(r:Row):List Str:=r.map Prod.fst
def z0v(rows:List Row)(n:Int):Row:=rows.getD (n-1).toNat []
def z8m(rows:List Row)(k:Int):DV:=.tup [.int k,K2 (z0A (z0v rows k))]
def z4G(n r:Int):List Int:=(dnI (n-1) (n-1).toNat).filter fun k=>decide (n-k≤r)
def y3A(rows:List Row)(n r:Int):DV:=.tup ((z4G n r).map (z8m rows))
def z0S(rows:List Row)(n r:Int):DV:=.tup [.int n,L9 (z0v rows n),y3A rows n r]
theorem z3o{H:Hp}{rows:List Row}{us:List V}(h:z08 H (rows.map L9) us){k:Int}(k0:1≤k)(k1:k≤rows.length):∃v,us[(k-1).toNat]? = some v/\atI us (k-1)=some v/\A5 H (L9 (z0v rows k)) v:=by
 have hk:(k-1).toNat<rows.length:=by omega
 obtain⟨v,e,t⟩:=h.get (k-1).toNat (L9 (z0v rows k)) (by
  unfold z0v
  rw[bE,bM,bD hk]
  rfl)
 have ek:k-1=(((k-1).toNat:Nat):Int):=by omega
 exact⟨v,e,by rw[ek];exact z0X e,t⟩
theorem z2j{H:Hp}:∀{r:Row}{xs:List V},z08 H (r.map z9m) xs->∀(i:Nat) (x:V),xs[i]? = some x->∃(p:Str×Int) (a:Addr),r[i]? = some p/\x=.ref a/\H a=some (.tup [.str p.1,.int p.2]):=by
 intro r xs h i x e
 obtain⟨d,e1,t⟩:=h.at i x e
 rw[bE] at e1
 cases er:r[i]? with
 | none=>rw[er] at e1;cases e1
 | some p=>
  rw[er] at e1
  have e2:z9m p=d:=Option.some.inj e1
  subst e2
  obtain⟨a,ys,rfl,h1,_,h2⟩:=z0b t
  obtain⟨y1,r1,rfl,t1,h3⟩:=z0c h2
  obtain⟨y2,r2,rfl,t2,h4⟩:=z0c h3
  have:=z0F h4
  subst this
  rw[z35 t1,z0Y t2] at h1
  exact⟨p,a,rfl,rfl,h1⟩
def y3Y(K:PySem.W.Frag):Sp:=fun vs H Q _=>∃(lr:Addr) (us:List V) (rows:List Row) (n r:Int),vs=[.ref lr,.int n,.int r]/\SqL K H lr us/\z08 H (rows.map L9) us/\rows.length≤900/\(∀w∈rows,w.length≤12)/\1≤n/\n≤rows.length/\
 ∀(v:V) (H':Hp),A4 H H'->A5 H' (z0S rows n r) v->Q v H'
theorem z5W{rows:List Row}(h:∀w∈rows,w.length≤12)(k:Int):(z0v rows k).length≤12:=by
 unfold z0v
 rw[bM]
 cases e:rows[(k-1).toNat]? with
 | none=>exact cT _
 | some w=>exact h w (bV e)
theorem y4l(M:Bl mg)(F:Fun K "_law_issue" "_law_issue" z52 f fd):A7 P w K mg base CX0 1 f fd z55 (y3Y K):=by
 have nd:=z6T.nd
 refine F.ok z6T (fun vs H Q E h=>?_) (fun cdv A outer s H vs Q E hr h=>?_)
 ·obtain⟨lr,us,rows,n,r,rfl,_⟩:=h
  rfl
 obtain⟨lr,us,rows,n,r,rfl,hS,hT,n0,n12,n1,n2,q⟩:=h
 refine⟨_,(z04 (z0s (i:=3) nd rfl (Or.inl rfl) (z1W z02)) (z04 (z15 bY rfl (y2z rfl M.range (z00 (z0q z1M (pv 1) z06) (z00 z06 (z00 (y6T y5d z06) z02)))) (z0k (i:=4) nd rfl (Or.inl rfl)) (z05 (z0G (z09 y4G (z0q z1M (pv 1) (pv 4)) (pv 2) (z0o _)) (z05 (z0y (z3g bU bT bX z0J (pv 3) (z00 (z0V (z00 (pv 4) (z00 (z0t z0m rfl M.tuple bL (z00 (z1i ["_law_row_here"] [] [] rfl (z0w rfl (by decide +kernel) rfl (by decide +kernel) rfl rfl) (z2r (z0D z0Z (pv 0) (z0q z1M (pv 4) z06) (fun _ _=>rfl))) (fun _ _ _ _ _=>(z0k (i:=0) (show((["_law_row_here"]:List PySem.Str)++([]:List PySem.Str)).Nodup from by decide +kernel) rfl (Or.inl rfl))) (z0z (by decide)) z0g (fun _ _ _ _ _=>z1K) (fun _ _ _ _ _=>(z0D (r:=O8 K) z0C (pv 0) z06 (fun _ _=>rfl)))) z02)) z02))) z02)))) z0n))) (z05 (z0i (z0V (z00 (pv 1) (z00 (z0t z0m rfl M.tuple bL (z00 (z0D z0Z (pv 0) (z0q z1M (pv 1) z06) (fun _ _=>rfl)) z02)) (z00 (z0t z0m rfl M.tuple bL (z00 (pv 3) z02)) z02)))))))),?_⟩
 refine⟨(by show 0≤sizeLine;decide),fun lt hlt=>?_⟩
 refine⟨_,rfl,_,_,rfl,rfl,_,rfl,n-1,0,rfl,⟨by omega,by omega,by decide,by decide⟩,?_⟩
 have e0:(n-1-0).toNat=(n-1).toNat:=by rw[Int.sub_zero]
 rw[e0]
 refine y4h (hi:=n-1) (n:=(n-1).toNat) (fun j σ H'=>∃(zs:List V) (o:Option V),H' lt=some (.lst zs)/\z08 H' (((dnI (n-1) j).filter fun k=>decide (n-k≤r)).map (z8m rows)) zs/\A4 H H'/\
  σ=[some (.ref lr),some (.int n),some (.int r),some (.ref lt),o]) ⟨[],_,z03,.nil,z01 hlt _,rfl⟩ (fun j σ H' hj hp=>?_) (fun σ H' hp=>?_)
 ·obtain⟨zs,o,p1,p2,p3,rfl⟩:=hp
  have lz:=p2.length
  rw[bA] at lz
  have lf:=cI (fun k=>decide (n-k≤r)) (dnI (n-1) j)
  rw[z94] at lf
  have st:((dnI (n-1) (j+1)).filter fun k=>decide (n-k≤r))=((dnI (n-1) j).filter fun k=>decide (n-k≤r))++(if decide (n-(n-1-(j:Int))≤r)=true then [n-1-(j:Int)] else []):=by
   rw[y4k,dJ,eB]
   rfl
  refine⟨_,rfl,_,rfl,_,_,rfl,rfl,_,rfl,_,_,rfl,rfl,_,rfl,?_⟩
  refine B3 (fun c=>?_) (fun c=>?_)
  ·rw[if_pos c] at st
   have hTk:=z08.keep p3 _ _ hT
   obtain⟨v,ev,av,tv⟩:=z3o hTk (k:=n-1-(j:Int)) (by omega) (by omega)
   obtain⟨ra,xs,rfl,hra,lxs,txs⟩:=z0b tv
   have lrow:=z5W n12 (n-1-(j:Int))
   have lx:=txs.length
   rw[bA] at lx
   refine⟨_,rfl,.inl ⟨rfl,_,SqL.of p1⟩,_,rfl,_,rfl,_,rfl,_,_,rfl,rfl,lr,_,_,_,rfl,rfl,p3.seq hS,av,ra,rfl,⟨_,SqT.of hra⟩,?_⟩
   refine z1u (xs:=xs) (fun i ys H2=>H2=H'/\ys=((z0A (z0v rows (n-1-(j:Int)))).take i).map V.str) ⟨rfl,rfl⟩ (fun i ys H2 hi hp=>?_) (fun i x ys H2 hx hp=>?_) (fun ys H2 hp=>?_)
   ·obtain⟨rfl,rfl⟩:=hp
    refine⟨SqT.of hra,z0f ?_⟩
    rw[bA,bI]
    omega
   ·obtain⟨rfl,rfl⟩:=hp
    obtain⟨p,a,er,rfl,ha⟩:=z2j txs i x hx
    refine⟨_,rfl,a,_,_,_,rfl,rfl,SqT.of ha,rfl,rfl,?_⟩
    have en:(z0A (z0v rows (n-1-(j:Int))))[i]? = some p.1:=by unfold z0A;rw[bE,er];rfl
    rw[z0j en,bG]
    rfl
   ·obtain⟨rfl,rfl⟩:=hp
    have ll:(z0A (z0v rows (n-1-(j:Int)))).length=xs.length:=by unfold z0A;rw[bA];exact lx.symm
    rw[<- ll,bP]
    intro D hD
    refine⟨D,_,rfl,.inl ⟨SqL.of z03,fun t ht=>⟨(by show 2≤sizeLine;decide),fun t2 ht2=>?_⟩⟩⟩
    have g1:=(z01 (H:=H2) hD (.lst ((z0A (z0v rows (n-1-(j:Int)))).map V.str))).trans ((z01 ht (.tup ((z0A (z0v rows (n-1-(j:Int)))).map V.str))).trans (z01 ht2 (.tup [.int (n-1-(j:Int)),.ref t])))
    refine⟨lt,zs,_,rfl,rfl,g1 _ _ p1,z0f (by omega),?_⟩
    refine⟨_,some (.int (n-1-(j:Int))),z03,?_,z2J (p3.trans g1) hlt,rfl⟩
    rw[st,bG]
    refine z08.over (g1 _ _ p1) y11 _ _ (z08.snoc (z08.keep g1 _ _ p2) (z0u z03 (by show 2≤1000000;decide) (.cons (z0E _) (.cons ?_ .nil))))
    refine z0u (z01 ht2 _ _ _ z03) ?_ (z1V _)
    rw[bA,ll]
    omega
  ·rw[if_neg c,cY] at st
   refine⟨zs,some (.int (n-1-(j:Int))),p1,?_,p3,rfl⟩
   rw[st]
   exact p2
 ·obtain⟨zs,o,p1,p2,p3,rfl⟩:=hp
  have lz:=p2.length
  rw[bA] at lz
  have lf:=cI (fun k=>decide (n-k≤r)) (dnI (n-1) (n-1).toNat)
  rw[z94] at lf
  have hTk:=z08.keep p3 _ _ hT
  obtain⟨v,ev,av,tv⟩:=z3o hTk n1 n2
  obtain⟨ra,xs,rfl,hra,lxs,txs⟩:=z0b tv
  refine⟨_,rfl,_,rfl,_,rfl,_,_,rfl,rfl,lr,_,_,_,rfl,rfl,p3.seq hS,av,ra,xs,rfl,.inr ⟨SqT.of hra,?_⟩⟩
  refine⟨_,rfl,lt,_,rfl,.inl ⟨SqL.of p1,fun t ht=>⟨(by show 3≤sizeLine;decide),fun t2 ht2=>?_⟩⟩⟩
  have g1:=(z01 (H:=H') ht (.tup zs)).trans (z01 ht2 (.tup [.int n,.ref ra,.ref t]))
  refine q _ _ (p3.trans g1) ?_
  refine z0u z03 (by show 3≤1000000;decide) (.cons (z0E _) (.cons (A5.keep g1 _ _ tv) (.cons ?_ .nil)))
  refine z0u (z01 ht2 _ _ _ z03) ?_ (z08.keep g1 _ _ p2)
  rw[bA]
  show((dnI (n-1) (n-1).toNat).filter fun k=>decide (n-k≤r)).length≤1000000
  omega
structure D9(zs:List Str):Prop where
 lo:1≤zs.length
 hi:zs.length≤12
 nd:zs.Nodup
def SqN(K:PySem.W.Frag)(H:Hp)(p:Addr)(zs:List Str):Prop:=SqL K H p (zs.map V.str)\/SqT K H p (zs.map V.str)
theorem SqN.keep{K:PySem.W.Frag}{H H':Hp}{p:Addr}{zs:List Str}(h:A4 H H')(x:SqN K H p zs):SqN K H' p zs:=x.imp (fun q=>h.seq q) fun q=>z7a h q
def z8M(K:PySem.W.Frag):Sp:=fun vs H Q _=>∃(p:Addr) (zs:List Str),vs=[.ref p]/\SqN K H p zs/\D9 zs/\∀H',A4 H H'->Q .non H'
theorem y0i(M:Bl mg)(F:Fun K "refuse_bad_names" "refuse_bad_names" z2f f fd):A7 P w K mg base CX0 1 f fd z2c (z8M K):=by
 have nd:=z32.nd
 refine F.ok z32 (fun vs H Q E h=>?_) (fun cdv A outer s H vs Q E hr h=>?_)
 ·obtain⟨p,zs,rfl,_⟩:=h
  rfl
 ·obtain⟨p,zs,rfl,hp,g,k⟩:=h
  refine⟨_,(z04 (z0G (z09 z8l (z0d z0a rfl M.len bR (z00 (pv 0) z02)) z06 (z0o _)) (z05 z1x) z0n) (z04 (z0G (z09 z2P (z0d z0a rfl M.len bR (z00 (pv 0) z02)) (z2N rfl M.MOST_NAMES) (z0o _)) (z05 z1x) z0n) (z05 (z0G (z09 z6Y (z0d z5B rfl M.len bR (z00 (z0t (z4I rfl) rfl M.set PyProof.Rows.boot_set (z00 (pv 0) z02)) z02)) (z0d z0a rfl M.len bR (z00 (pv 0) z02)) (z0o _)) (z05 z1x) z0n)))),?_⟩
  have:=g.lo
  have:=g.hi
  have el:(zs.map V.str).length=zs.length:=bA _
  refine⟨_,rfl,p,_,rfl,hp,_,_,rfl,rfl,_,rfl,B3 (fun q=>absurd (z0M q) (by omega)) fun _=>?_⟩
  refine⟨_,rfl,p,_,rfl,hp,_,_,rfl,rfl,_,rfl,B3 (fun q=>absurd (z0M q) (by omega)) fun _=>?_⟩
  refine⟨_,rfl,p,zs,rfl,hp,by omega,fun l hl=>⟨l,zs,rfl,z03,by omega,_,rfl,p,zs.map V.str,rfl,SqN.keep (z01 hl _) hp,rfl,_,rfl,?_⟩⟩
  refine y74 ?_ (k _ (z01 hl _))
  rw[y2e g.nd,el]
def z8I:Sp:=fun vs H Q _=>∃r:Int,vs=[.int r]/\0≤r/\r≤10/\Q .non H
theorem y0K(M:Bl mg)(F:Fun K "refuse_bad_reach" "refuse_bad_reach" z2e f fd):A7 P w K mg base CX0 1 f fd z2d z8I:=by
 have nd:=z31.nd
 refine F.ok z31 (fun vs H Q E h=>?_) (fun cdv A outer s H vs Q E hr h=>?_)
 ·obtain⟨r,rfl,_⟩:=h
  rfl
 ·obtain⟨r,rfl,r0,r1,k⟩:=h
  refine⟨_,(z05 (z0G (PW.pt (z3l (z09 z8l (pv 0) z06 (z0o _)) (z25 (z09 z2P (pv 0) (z2N rfl M.MOST_REACH) (z0o _))))) (z05 z1x) z0n)),?_⟩
  refine⟨_,rfl,_,_,rfl,rfl,_,rfl,B3 (fun q=>absurd (z0M q) (by omega)) fun _=>?_⟩
  exact⟨_,rfl,_,_,rfl,rfl,_,rfl,B3 (fun q=>absurd (z0M q) (by omega)) fun _=>k⟩
def HdN(K:PySem.W.Frag)(H:Hp)(p:Addr)(zs:List Str):Prop:=SqL K H p (zs.map V.str)\/H p=some (.tup (zs.map V.str))
theorem HdN.sq{K:PySem.W.Frag}{H:Hp}{p:Addr}{zs:List Str}(h:HdN K H p zs):SqN K H p zs:=h.imp id SqT.of
theorem HdN.keep{K:PySem.W.Frag}{H H':Hp}{p:Addr}{zs:List Str}(s:A4 H H')(h:HdN K H p zs):HdN K H' p zs:=h.imp (fun q=>s.seq q) fun q=>s _ _ q
def z6i(K:PySem.W.Frag):Sp:=fun vs H Q _=>∃(p:Addr) (zs:List Str) (r:Int),vs=[.ref p,.int r]/\HdN K H p zs/\D9 zs/\0≤r/\r≤10/\∀(l:Addr) (H':Hp),A4 H H'->H' l=some (.tup (zs.map V.str))->Q (.ref l) H'
theorem y0x(M:Bl mg)(F:Fun K "bulletin_names" "bulletin_names" z2Q f fd)(E6:Cal P w K mg base 1 "refuse_bad_names" z2c (z8M K))(E5:Cal P w K mg base 1 "refuse_bad_reach" z2d z8I) :
  A7 P w K mg base CX0 2 f fd z21 (z6i K):=by
 have nd:=z3W.nd
 refine F.ok z3W (fun vs H Q E h=>?_) (fun cdv A outer s H vs Q E hr h=>?_)
 ·obtain⟨p,zs,r,rfl,_⟩:=h
  rfl
 ·obtain⟨p,zs,r,rfl,hp,g,r0,r1,k⟩:=h
  refine⟨_,(z04 (z0y (z0l E6 (rm hr) rfl (z00 (pv 0) z02))) (z04 (z0y (z0l E5 (rm hr) rfl (z00 (pv 1) z02))) (z05 (z0i (z0t z0m rfl M.tuple bL (z00 (pv 0) z02)))))),?_⟩
  refine⟨_,rfl,p,zs,rfl,hp.sq,g,fun H1 s1=>⟨_,rfl,r,rfl,r0,r1,_,rfl,p,zs.map V.str,rfl,?_⟩⟩
  rcases hp.keep s1 with hq|hq
  ·exact .inl ⟨hq,fun l hl=>k l _ (s1.trans (z01 hl _)) z03⟩
  ·exact .inr ⟨SqT.of hq,k p _ s1 hq⟩
def z0x(fp:List Addr)(H H':Hp):Prop:=∀b o,H b=some o->b∉fp->H' b=some o
theorem z0x.of{fp:List Addr}{H H':Hp}(h:A4 H H'):z0x fp H H':=fun b o e _=>h b o e
def z54(H:Hp)(fp:List Addr):Prop:=∀b∈fp,∀xs,H b≠some (.tup xs)
mutual
theorem A5.but{fp:List Addr}{H H':Hp}(s:z0x fp H H')(n:z54 H fp):∀(d:DV) (x:V),A5 H d x->A5 H' d x
 | .non,_,h=>by unfold A5 at h ⊢;exact h
 | .bl _,_,h=>by unfold A5 at h ⊢;exact h
 | .int _,_,h=>by unfold A5 at h ⊢;exact h
 | .str _,_,h=>by unfold A5 at h ⊢;exact h
 | .tup ds,_,h=>by
  unfold A5 at h ⊢
  obtain⟨a,xs,e,h1,h2,h3⟩:=h
  exact⟨a,xs,e,s _ _ h1 (fun m=>n a m xs h1),h2,z08.but s n ds xs h3⟩
theorem z08.but{fp:List Addr}{H H':Hp}(s:z0x fp H H')(n:z54 H fp):∀(ds:List DV) (xs:List V),z08 H ds xs->z08 H' ds xs
 | [],_,h=>by unfold z08 at h ⊢;exact h
 | d::ds,_,h=>by
  unfold z08 at h ⊢
  obtain⟨x,r,e,h1,h2⟩:=h
  exact⟨x,r,e,A5.but s n d x h1,z08.but s n ds r h2⟩
end
theorem z7z{H:Hp}{x dx b:Addr}{o u v:HO}(nx:H x=none)(ndx:H dx=none)(h:H b=some o):upd (upd H dx u) x v b=some o:=by
 rw[z0h (z0r h nx),z0h (z0r h ndx)]
 exact h
theorem z5X{H H1:Hp}{C x dx:Addr}(s:A4 H H1)(nx:H1 x=none)(ndx:H1 dx=none):A4 H (upd (upd H1 dx (.own x)) x (.ins C dx [])):=fun _ _ e=>z7z nx ndx (s _ _ e)
theorem z5w{H H1 H2:Hp}{x:Addr}(b:z0x [x] H1 H2)(m:A4 H H1)(nx:H x=none):A4 H H2:=fun c o e=>b c o (m c o e) (by
 rw[bC]
 exact z0r e nx)
theorem z4s{H H1:Hp}{x dx b:Addr}(m:A4 H H1)(nx:H x=none)(ndx:H dx=none)(h:b=x\/b=dx\/H1 b=none):H b=none:=by
 rcases h with rfl|rfl|h
 ·exact nx
 ·exact ndx
 ·exact m.free h
theorem y2g{fp fp' fp2:List Addr}{H7 H' GW:Hp}(bt:z0x fp H7 H')(ff:∀b∈fp',b∈fp\/H7 b=none)(gW:A4 H' GW)(hf2:∀b∈fp2,b∈fp'\/GW b=none):∀b∈fp2,b∈fp\/H7 b=none:=fun b m=>(hf2 b m).elim (ff b) fun z=>by
 cases e:H7 b with
 | none=>exact .inr rfl
 | some o=>
  by_cases nb:b∈fp
  ·exact .inl nb
  ·rw[gW _ _ (bt b o e nb)] at z
   cases z
def z0e(had:List Int):List Int:=(upI 1 60).filter fun x=>decide (x∈had)
def V6(had:List Int):Int:=(z0e had).getLastD 0
def N4(had:List Int)(n:Int):List Int:=if n∈had then had else had++[n]
theorem y12{had:List Int}{n x:Int}:x∈N4 had n↔x∈had\/x=n:=by
 unfold N4
 by_cases h:n∈had
 ·rw[if_pos h]
  exact⟨.inl,fun q=>q.elim id fun e=>e ▸ h⟩
 ·rw[if_neg h,bS,bC]
theorem z11{had:List Int}{x:Int}:x∈z0e had↔(1≤x/\x<1+60)/\x∈had:=by
 unfold z0e
 rw[cJ,z0U,decide_eq_true_eq]
 rfl
theorem z1F(had:List Int):(z0e had).Pairwise (· < ·):=(z18 1 60).filter _
theorem z3y(had:List Int):(z0e had).length≤60:=by
 have h:=cI (fun x=>decide (x∈had)) (upI 1 60)
 rw[z0Q] at h
 exact h
theorem z9q{ns ms:List Int}(nd:ns.Nodup)(B7:∀x∈ns,1≤x/\x≤60)(hp:ms.Perm ns)(hs:ms.Pairwise (·≤·)):ms=z0e ns:=by
 have n2:ms.Nodup:=hp.nodup_iff.mpr nd
 have lt:ms.Pairwise (· < ·):=by
  have:=List.pairwise_and_iff.mpr ⟨hs,n2⟩
  exact this.imp fun h=>by
   have:=h.1
   have:=h.2
   omega
 refine z24 lt (z1F _) fun x=>?_
 rw[z11,hp.mem_iff]
 exact⟨fun h=>⟨by have:=B7 x h;omega,h⟩,fun h=>h.2⟩
abbrev ShP:=Hp->Addr->List Addr->List Str->Int->(Int->DV)->List Int->Prop
structure T1(C:Addr)(ms:List Str)(Sh:ShP):Prop where
 ins:∀{H p fp zs r iss had},Sh H p fp zs r iss had->∃dx fs,H p=some (.ins C dx fs)/\∀m∈ms,fs.lookup m=none
 own:∀{H p fp zs r iss had},Sh H p fp zs r iss had->∀b∈fp,∃o,H b=some o/\∀xs,o≠.tup xs
 keep:∀{H H' p fp gp zs r iss had},Sh H p fp zs r iss had->z0x gp H H'->(∀b∈gp,b∉fp)->z54 H gp->Sh H' p fp zs r iss had
theorem T1.same{C:Addr}{ms:List Str}{Sh:ShP}(O:T1 C ms Sh){H H':Hp}{p:Addr}{fp:List Addr}{zs:List Str}{r:Int}{iss:Int->DV}{had:List Int}(h:Sh H p fp zs r iss had)(s:A4 H H'):Sh H' p fp zs r iss had:=
 O.keep (gp:=[]) h (.of s) (fun _ q=>by cases q) fun _ q=>by cases q
theorem T1.L8{C:Addr}{ms:List Str}{Sh:ShP}(O:T1 C ms Sh){H:Hp}{p:Addr}{fp:List Addr}{zs:List Str}{r:Int}{iss:Int->DV}{had:List Int}(h:Sh H p fp zs r iss had):z54 H fp:=fun b m xs e=>by
 obtain⟨o,e1,n⟩:=O.own h b m
 rw[e1] at e
 exact n xs (Option.some.inj e)
def y1b(K:PySem.W.Frag)(C:Addr)(Sh:ShP):Sp:=fun vs H Q _=>∃(x dx pn:Addr) (zs:List Str) (r:Int),vs=[.ref x,.ref pn,.int r]/\H x=some (.ins C dx [])/\dx≠x/\H dx=some (.own x)/\HdN K H pn zs/\D9 zs/\0≤r/\r≤10/\
 ∀(fp:List Addr) (H':Hp),(∀b∈fp,b=x\/b=dx\/H b=none)->z0x [x] H H'->(∀iss,Sh H' x fp zs r iss [])->Q .non H'
def y6G(Sh:ShP):Sp:=fun vs H Q _=>∃(p:Addr) (v:V) (fp:List Addr) (zs:List Str) (r:Int) (iss:Int->DV) (had:List Int) (n:Int) (ds:List DV),vs=[.ref p,v]/\Sh H p fp zs r iss had/\A5 H (iss n) v/\iss n=.tup (.int n::ds)/\1≤n/\n≤60/\
 ∀(fp':List Addr) (H':Hp),(∀b∈fp',b∈fp\/H b=none)->z0x fp H H'->Sh H' p fp' zs r iss (N4 had n)->Q (.bl (decide (n∉had))) H'
def z5m(Sh:ShP):Sp:=fun vs H Q _=>∃(p:Addr) (fp:List Addr) (zs:List Str) (r:Int) (iss:Int->DV) (had:List Int),vs=[.ref p]/\Sh H p fp zs r iss had/\
 ∀(l:Addr) (H':Hp),A4 H H'->H' l=some (.tup ((z0e had).map V.int))->Q (.ref l) H'
def y27(Sh:ShP):Sp:=fun vs H Q _=>∃(p:Addr) (fp:List Addr) (zs:List Str) (r:Int) (iss:Int->DV) (had:List Int),vs=[.ref p]/\Sh H p fp zs r iss had/\∀H',A4 H H'->Q (.int (V6 had)) H'
def ShD(K:PySem.W.Frag)(C:Addr):ShP:=fun H p fp zs r iss had=>∃(dx pn pd:Addr) (fs:List (Str×V)) (kvs:List (Key×V)),fp=[p,dx,pd]/\H p=some (.ins C dx fs)/\H dx=some (.own p)/\H pn=some (.tup (zs.map V.str))/\H pd=some (.dK kvs)/\
 fs.lookup ("names":Str)=some (V.ref pn)/\fs.lookup ("reach":Str)=some (V.int r)/\fs.lookup ("issues":Str)=some (V.ref pd)/\(∀m∈(["put","had","latest","rows_of","tail_of"]:List Str),fs.lookup m=none)/\
 kvs.map (·.1)=had.map Sum.inl/\had.Nodup/\(∀n∈had,1≤n/\n≤60)/\(∀n v,(Sum.inl n,v)∈kvs->A5 H (iss n) v)/\D9 zs/\0≤r/\r≤10
theorem ShD.ins{K:PySem.W.Frag}{C:Addr}{H:Hp}{p:Addr}{fp:List Addr}{zs:List Str}{r:Int}{iss:Int->DV}{had:List Int}(h:ShD K C H p fp zs r iss had):∃dx fs,H p=some (.ins C dx fs)/\∀m∈(["put","had","latest","rows_of","tail_of"]:List Str),fs.lookup m=none:=by
 obtain⟨dx,pn,pd,fs,kvs,e,h1,h2,h3,h4,l1,l2,l3,lm,_⟩:=h
 exact⟨dx,fs,h1,lm⟩
theorem F8{K:PySem.W.Frag}{C:Addr}:T1 C ["put","had","latest"] (ShD K C):=by
 refine⟨fun h=>?_,fun h b hb=>?_,fun h s out nt=>?_⟩
 ·obtain⟨dx,fs,h1,lm⟩:=ShD.ins h
  refine⟨dx,fs,h1,fun m hm=>lm m ?_⟩
  simp only[bF,dO,or_false] at hm ⊢
  rcases hm with h|h|h<;>simp[h]
 ·obtain⟨dx,pn,pd,fs,kvs,rfl,h1,h2,h3,h4,_⟩:=h
  rcases bF.mp hb with rfl|hb
  ·exact⟨_,h1,fun xs z=>by cases z⟩
  rcases bF.mp hb with rfl|hb
  ·exact⟨_,h2,fun xs z=>by cases z⟩
  rw[bC.mp hb]
  exact⟨_,h4,fun xs z=>by cases z⟩
 ·obtain⟨dx,pn,pd,fs,kvs,rfl,h1,h2,h3,h4,l1,l2,l3,lm,kk,nd,all,tl,g⟩:=h
  exact⟨dx,pn,pd,fs,kvs,rfl,s _ _ h1 (fun m=>out _ m (by simp)),s _ _ h2 (fun m=>out _ m (by simp)),s _ _ h3 (fun m=>nt _ m _ h3),s _ _ h4 (fun m=>out _ m (by simp)),l1,l2,l3,lm,kk,nd,all,fun n v hv=>A5.but s nt _ _ (tl n v hv),g⟩
theorem y2Z{A0:Addr}(M:Bl mg)(T:D0 K mg A0)(F:Fun K "__init__" "Shelf.__init__" z2U f fd)(B9:Cal P w K mg base 2 "bulletin_names" z21 (z6i K)) :
  A7 P w K mg base CX0 3 f fd z2S (y1b K A0 (ShD K A0)):=by
 have nd:=z3R.nd
 refine F.ok z3R (fun vs H Q E h=>?_) (fun cdv A outer s H vs Q E hr h=>?_)
 ·obtain⟨x,dx,pn,zs,r,rfl,_⟩:=h
  rfl
 obtain⟨x,dx,pn,zs,r,rfl,hx,ne,hdx,hn,g,r0,r1,k⟩:=h
 refine⟨_,(z04 (z5y (pv 0) (z0l B9 (rm hr) rfl (z00 (pv 1) (z00 (pv 2) z02))) rfl) (z04 (z5y (pv 0) (pv 2) rfl) (z05 (z5y (pv 0) y15 rfl)))),?_⟩
 refine⟨_,rfl,_,rfl,pn,zs,r,rfl,hn,g,r0,r1,fun l H1 s1 e1=>?_⟩
 refine⟨_,rfl,x,A0,dx,[],rfl,s1 _ _ hx,T.cl,T.n_names,by decide,?_⟩
 have z1:=z1C "names" (.ref l) []
 have z2:=z1C "reach" (.int r) (F9 "names" (.ref l) [])
 have z0:([]:List (Str×V)).length=0:=rfl
 refine⟨_,rfl,_,rfl,x,A0,dx,_,rfl,z03,T.cl,T.n_reach,(by omega),?_⟩
 rw[z7w]
 intro pd hd
 have nx:x≠pd:=z0r z03 hd
 have ndd:dx≠pd:=z0r (show upd H1 x _ dx=some _ by rw[z0h ne];exact s1 _ _ hdx) hd
 have nl:l≠x:=z5k e1 (s1 _ _ hx) (fun z=>by cases z)
 have nlp:l≠pd:=z0r (show upd H1 x _ l=some _ by rw[z0h nl];exact e1) hd
 have dfr:H1 pd=none:=by rw[z0h (dG nx)] at hd;exact hd
 refine⟨_,rfl,x,A0,dx,_,rfl,(by rw[z0h nx,z03]),T.cl,T.n_issues,(by omega),?_⟩
 refine k [x,dx,pd] _ (fun b hb=>?_) (fun b o e nb=>?_) (fun iss=>⟨dx,l,pd,_,[],rfl,z03,?_,?_,?_,?_,?_,?_,?_,rfl,.nil,fun _ q=>(nomatch q),fun _ _ q=>(nomatch q),g,r0,r1⟩)
 ·simp only[bF,dO,or_false] at hb
  rcases hb with rfl|rfl|rfl
  ·exact .inl rfl
  ·exact .inr (.inl rfl)
  ·exact .inr (.inr (s1.free dfr))
 ·rw[bC] at nb
  rw[z0h nb,z0h (z0r e (s1.free dfr)),z0h nb]
  exact s1 _ _ e
 ·rw[z0h ne,z0h ndd,z0h ne]
  exact s1 _ _ hdx
 ·rw[z0h nl,z0h nlp,z0h nl]
  exact e1
 ·rw[z0h (dG nx),z03]
 ·rw[z0p,if_neg (by decide +kernel),z0p,if_neg (by decide +kernel),z0p,if_pos rfl]
 ·rw[z0p,if_neg (by decide +kernel),z0p,if_pos rfl]
 ·rw[z0p,if_pos rfl]
 ·intro m hm
  simp only[bF,dO,or_false] at hm
  rcases hm with rfl|rfl|rfl|rfl|rfl<;>rw[z0p,if_neg (by decide +kernel),z0p,if_neg (by decide +kernel),z0p,if_neg (by decide +kernel)]<;>rfl
theorem y78{α:Type}[DecidableEq α]:∀{l1 l2:List α},l1.Nodup->(∀x∈l1,x∈l2)->l1.length≤l2.length
 | [],_,_,_=>cT _
 | x::r,l2,nd,sub=>by
  rw[dN] at nd
  have hx:=sub x cD
  have:=y78 (l1:=r) (l2:=l2.erase x) nd.2 fun y hy=>(List.mem_erase_of_ne (fun(e:y=x)=>nd.1 (e ▸ hy))).mpr (sub y (bZ _ hy))
  rw[List.length_erase_of_mem hx] at this
  have h0:=List.length_pos_of_mem hx
  rw[cB]
  omega
theorem z7D{had:List Int}(nd:had.Nodup)(all:∀n∈had,1≤n/\n≤60):had.length≤60:=by
 have h:=y78 (l2:=upI 1 60) nd fun n hn=>z0U.mpr (by have:=all n hn;omega)
 rw[z0Q] at h
 exact h
theorem z8Q{kvs:List (Key×V)}{had:List Int}(kk:kvs.map (·.1)=had.map Sum.inl)(n:Int):(J1 kvs (Sum.inl n)).isSome=decide (n∈had):=by
 rw[<- z7b]
 have e:(kvs.any fun kv=>decide (kv.1=Sum.inl n))=(kvs.map (·.1)).any fun k=>decide (k=Sum.inl n):=by rw[gL];rfl
 rw[e,kk,gL]
 by_cases h:n∈had
 ·rw[decide_eq_true h,h8]
  exact⟨n,h,decide_eq_true rfl⟩
 ·rw[decide_eq_false h,jB]
  intro m hm z
  have e:=of_decide_eq_true z
  cases e
  exact h hm
theorem y6M{A0:Addr}(M:Bl mg)(T:D0 K mg A0)(F:Fun K "put" "Shelf.put" z6l f fd):A7 P w K mg base CX0 1 f fd z6a (y6G (ShD K A0)):=by
 have nd:=z7N.nd
 refine F.ok z7N (fun vs H Q E h=>?_) (fun cdv A outer s H vs Q E hr h=>?_)
 ·obtain⟨p,v,fp,zs,r,iss,had,n,ds,rfl,_⟩:=h
  rfl
 obtain⟨p,v,fp,zs,r,iss,had,n,ds,rfl,sh,tv,en,n1,n2,k⟩:=h
 have hu:=y06 hr
 refine⟨_,(z04 (z0s (i:=2) nd rfl (Or.inl rfl) (z0D z0C (pv 1) z06 (fun _ _=>rfl))) (z04 (z0G (z5J (y2y hu (pv 2) (z0I (pv 0) rfl))) (z05 (z0i z3p)) z0n) (z04 (y0v hu (z0I (pv 0) rfl) (pv 2) (pv 1) rfl) (z05 (z0i z3p))))),?_⟩
 obtain⟨dx,pn,pd,fs,kvs,rfl,h1,h2,h3,h4,l1,l2,l3,lm,kk,ndh,all,tl,g,r0,r1⟩:=sh
 rw[en] at tv
 obtain⟨a,us,rfl,ea,_,tu⟩:=z0b tv
 obtain⟨x0,ur,rfl,t0,_⟩:=z0c tu
 cases z0Y t0
 refine⟨_,rfl,a,_,_,_,rfl,rfl,SqT.of ea,z0X rfl,?_⟩
 refine⟨_,rfl,_,rfl,p,A0,dx,fs,_,rfl,h1,T.cl,T.n_issues,l3,pd,_,rfl,L6.k (k:=Sum.inl n) h4,?_⟩
 refine⟨_,rfl,?_⟩
 rw[z8Q kk]
 have fr:∀b∈[p,dx,pd],∃o,H b=some o:=fun b hb=>by
  simp only[bF,dO,or_false] at hb
  rcases hb with rfl|rfl|rfl
  ·exact⟨_,h1⟩
  ·exact⟨_,h2⟩
  ·exact⟨_,h4⟩
 refine B3 (fun c=>?_) (fun c=>?_)
 ·have c':=z0M c
  have e:=k [p,dx,pd] H (fun b hb=>.inl hb) (fun b o e _=>e) ⟨dx,pn,pd,fs,kvs,rfl,h1,h2,h3,h4,l1,l2,l3,lm,by unfold N4;rw[if_pos c'];exact kk,by unfold N4;rw[if_pos c'];exact ndh,fun m hm=>?_,tl,g,r0,r1⟩
  ·rw[decide_eq_false (fun z=>z c')] at e
   exact e
  ·unfold N4 at hm
   rw[if_pos c'] at hm
   exact all m hm
 ·have c':=z4h c
  have lk:kvs.length≤60:=by
   have e2:=congrArg List.length kk
   rw[bA,bA] at e2
   have:=z7D ndh all
   omega
  have en':J1 kvs (Sum.inl n:Key)=none:=by
   have:=z8Q kk n
   rw[decide_eq_false c'] at this
   cases e:J1 kvs (Sum.inl n:Key) with
   | none=>rfl
   | some v=>rw[e] at this;cases this
  refine⟨_,rfl,_,rfl,p,A0,dx,fs,_,rfl,h1,T.cl,T.n_issues,l3,_,rfl,pd,_,rfl,S2.k (k:=Sum.inl n) h4 (z0f (by omega)),?_⟩
  rw[y17 _ en']
  have np:p≠pd:=z5k h1 h4 (fun z=>by cases z)
  have nx:dx≠pd:=z5k h2 h4 (fun z=>by cases z)
  have nn:pn≠pd:=z5k h3 h4 (fun z=>by cases z)
  have e:=k [p,dx,pd] (upd H pd (.dK (kvs++[(Sum.inl n,.ref a)]))) (fun b hb=>.inl hb) (fun b o e nb=>by rw[z0h (fun z=>nb (by rw[z];simp))];exact e)
   ⟨dx,pn,pd,fs,_,rfl,by rw[z0h np];exact h1,by rw[z0h nx];exact h2,by rw[z0h nn];exact h3,z03,l1,l2,l3,lm,?_,?_,fun m hm=>?_,fun m v hv=>?_,g,r0,r1⟩
  ·rw[decide_eq_true c'] at e
   exact e
  ·unfold N4
   rw[if_neg c',bG,bG,kk]
   rfl
  ·unfold N4
   rw[if_neg c',gR]
   exact⟨ndh,by simp,fun x hx y hy z=>by rw[bC] at hy;subst hy;subst z;exact c' hx⟩
  ·rcases y12.mp hm with h|rfl
   ·exact all m h
   ·omega
  ·refine A5.over h4 (fun _ z=>by cases z) _ _ ?_
   rcases bS.mp hv with h|h
   ·exact tl m v h
   ·rw[bC] at h
    cases h
    rw[en]
    exact tv
theorem y4z{A0:Addr}(M:Bl mg)(T:D0 K mg A0)(F:Fun K "had" "Shelf.had" z6n f fd):A7 P w K mg base CX0 1 f fd z1S (z5m (ShD K A0)):=by
 have nd:=z7V.nd
 refine F.ok z7V (fun vs H Q E h=>?_) (fun cdv A outer s H vs Q E hr h=>?_)
 ·obtain⟨p,fp,zs,r,iss,had,rfl,_⟩:=h
  rfl
 obtain⟨p,fp,zs,r,iss,had,rfl,sh,k⟩:=h
 refine⟨_,(z05 (z0i (z0t z0m rfl M.tuple bL (z00 (z0d (z3V rfl) rfl M.sorted eY (z00 (z0I (pv 0) rfl) z02)) z02)))),?_⟩
 obtain⟨dx,pn,pd,fs,kvs,rfl,h1,h2,h3,h4,l1,l2,l3,lm,kk,ndh,all,tl,g,r0,r1⟩:=sh
 refine⟨_,rfl,p,A0,dx,fs,_,rfl,h1,T.cl,T.n_issues,l3,pd,kvs,had,rfl,h4,kk,eJ (z7D ndh all) (by decide),fun l ms hl hp hs=>?_⟩
 rw[z9q ndh all hp hs]
 exact⟨l,_,rfl,.inl ⟨SqL.of z03,fun t ht=>k t _ ((z01 hl _).trans (z01 ht _)) z03⟩⟩
theorem y4X{had:List Int}{m:Int}(hm:m∈z0e had)(hb:∀y∈z0e had,y≤m):m=V6 had:=by
 unfold V6
 have ne:z0e had≠[]:=fun z=>by rw[z] at hm;cases hm
 have e:(z0e had).getLastD 0=(z0e had).getLast ne:=by rw[List.getLastD_eq_getLast?,List.getLast?_eq_some_getLast ne]<;>rfl
 rw[e]
 have h1:=hb _ (List.getLast_mem ne)
 have d:z0e had=(z0e had).dropLast++[(z0e had).getLast ne]:=(List.dropLast_concat_getLast ne).symm
 have rs:=z1F had
 rw[d] at hm rs
 rcases bS.mp hm with h|h
 ·have:=(cW.mp rs).2.2 m h _ (bC.mpr rfl)
  omega
 ·exact bC.mp h
theorem y3W{A0:Addr}(M:Bl mg)(T:D0 K mg A0)(F:Fun K "latest" "Shelf.latest" z3D f fd)(B0:C8 P w K mg base 1 A0 "had" z1S (z5m (ShD K A0))):A7 P w K mg base CX0 2 f fd z5E (y27 (ShD K A0)):=by
 have nd:=z4N.nd
 refine F.ok z4N (fun vs H Q E h=>?_) (fun cdv A outer s H vs Q E hr h=>?_)
 ·obtain⟨p,fp,zs,r,iss,had,rfl,_⟩:=h
  rfl
 obtain⟨p,fp,zs,r,iss,had,rfl,sh,k⟩:=h
 refine⟨_,(z05 (z0i (y3g rfl rfl M.max (z00 (z2M B0 (rm hr) (pv 0)) z02) (z91 z06 y0X)))),?_⟩
 obtain⟨dx,fs,h1,lm⟩:=F8.ins sh
 refine⟨_,rfl,p,dx,fs,rfl,h1,lm _ (by simp),p,fp,zs,r,iss,had,rfl,sh,fun l H1 s1 e1=>?_⟩
 refine⟨l,z0e had,_,rfl,rfl,.inr (SqT.of e1),fun z=>?_,fun m hm hb=>?_⟩
 ·have e:V6 had=0:=by unfold V6;rw[z];rfl
  have:=k H1 s1
  rw[e] at this
  exact this
 ·rw[y4X hm hb]
  exact k H1 s1
def P6(ns:List Int)(rows:List Row)(r n:Int):DV:=.tup [.int n,.int (z0L ns n r),if z0L ns n r=0 then .tup [] else K2 (z0A (z0v rows n))]
def z6X(ns:List Int)(rows:List Row)(r:Int):List DV:=(z1j ns).map (P6 ns rows r)
theorem z6I{ns:List Int}{n r:Int}:0≤z0L ns n r:=by
 unfold z0L
 cases e:(upI 1 60).find? (y0G ns n r) with
 | none=>exact eF _
 | some y=>
  have:=z0U.mp (gE e)
  show 0≤y
  omega
theorem y2k{ns:List Int}{m:Int}(hm:m∈ns\/(ns=[]/\m=0))(B7:∀x∈ns,1≤x/\x≤60)(top:∀y∈ns,y≤m):(upI 1 (m-1).toNat).filter (fun x=>!decide (x∈ns))=z1j ns:=by
 rcases hm with hm|⟨rfl,rfl⟩
 ·refine z24 ((z18 _ _).filter _) (z3q _) fun x=>?_
  have hm':=B7 m hm
  rw[cJ,z0U,z1o,jC,decide_eq_false_iff_not]
  constructor
  ·rintro⟨⟨a,b⟩,c⟩
   exact⟨by omega,c,m,hm,by omega⟩
  ·rintro⟨a,b,y,hy,c⟩
   have:=top y hy
   exact⟨by omega,b⟩
 ·rw[z9L]
  rfl
theorem z7o{ns:List Int}(i:Nat):(upI 1 (i+1)).filter (fun x=>!decide (x∈ns))=(upI 1 i).filter (fun x=>!decide (x∈ns))++(if (1:Int)+(i:Int)∈ns then [] else [1+(i:Int)]):=by
 rw[z4t,dJ,eB]
 by_cases h:(1:Int)+(i:Int)∈ns
 ·rw[if_pos h,decide_eq_true h]
  rfl
 ·rw[if_neg h,decide_eq_false h]
  rfl
def D7(w:Row)(z:Str):Option Int:=w.foldl (fun acc p=>if p.1=z then some p.2 else acc) none
theorem z9K(w:Row)(p:Str×Int)(z:Str):D7 (w++[p]) z=if p.1=z then some p.2 else D7 w z:=by
 unfold D7
 rw[gQ]
 rfl
def z0W(ms:List Int)(rows:List Row)(z:Str):Option (Int×Int):=ms.foldl (fun acc n=>match D7 (z0v rows n) z with|some v=>some (n,v)|none=>acc) none
theorem z6h(ms:List Int)(n:Int)(rows:List Row)(z:Str):z0W (ms++[n]) rows z=match D7 (z0v rows n) z with|some v=>some (n,v)|none=>z0W ms rows z:=by
 unfold z0W
 rw[gQ]
 rfl
def y1S:Option (Int×Int)->DV
 | some (n,v)=>.tup [.int n,.int v]
 | none=>.tup [.int 0,.non]
def z27(o:Option (Int×Int)):Int:=(o.map Prod.fst).getD 0
def y4C:Option (Int×Int)->DV
 | some (_,v)=>.int v
 | none=>.non
theorem z4y{H:Hp}{o:Option (Int×Int)}{v:V}(h:A5 H (y1S o) v):∃(a:Addr) (y:V),v=.ref a/\H a=some (.tup [.int (z27 o),y])/\A5 H (y4C o) y:=by
 cases o with
 | none=>
  obtain⟨a,xs,rfl,ha,_,ta⟩:=z0b (show A5 H (.tup [.int 0,.non]) v from h)
  obtain⟨y1,r1,rfl,t1,h3⟩:=z0c ta
  obtain⟨y2,r2,rfl,t2,h4⟩:=z0c h3
  have:=z0F h4
  subst this
  rw[z0Y t1] at ha
  exact⟨a,y2,rfl,ha,t2⟩
 | some p=>
  obtain⟨n,x⟩:=p
  obtain⟨a,xs,rfl,ha,_,ta⟩:=z0b (show A5 H (.tup [.int n,.int x]) v from h)
  obtain⟨y1,r1,rfl,t1,h3⟩:=z0c ta
  obtain⟨y2,r2,rfl,t2,h4⟩:=z0c h3
  have:=z0F h4
  subst this
  rw[z0Y t1] at ha
  exact⟨a,y2,rfl,ha,t2⟩
def y0o(K:PySem.W.Frag):Sp:=fun vs H Q _=>∃(p lr:Addr) (ns:List Int) (us:List V) (rows:List Row) (z:Str),vs=[.ref p,.ref lr,.str z]/\SqL K H p (ns.map V.int)/\ns.length<64/\ns.Nodup/\(∀x∈ns,1≤x/\x≤60)/\(∀x∈ns,x≤rows.length)/\
 SqL K H lr us/\z08 H (rows.map L9) us/\∀(v:V) (H':Hp),A4 H H'->A5 H' (y1S (z0W (z0e ns) rows z)) v->Q v H'
theorem y4W(M:Bl mg)(F:Fun K "_law_held" "_law_held" z6t f fd):A7 P w K mg base CX0 1 f fd z4z (y0o K):=by
 have nd:=z7f.nd
 refine F.ok z7f (fun vs H Q E h=>?_) (fun cdv A outer s H vs Q E hr h=>?_)
 ·obtain⟨p,lr,ns,us,rows,z,rfl,_⟩:=h
  rfl
 obtain⟨p,lr,ns,us,rows,z,rfl,hP,h64,nds,B7,hup,hR,tl,q⟩:=h
 refine⟨_,(z04 (z0s (i:=3) nd rfl (Or.inl rfl) (z0V (z00 z06 (z00 z7F z02)))) (z04 (z15 bY rfl (z1I (z0d z7E rfl M.sorted eY (z00 (pv 0) z02))) (z0k (i:=4) nd rfl (Or.inl rfl)) (z05 (z15 bY rfl (z2r (z0D z0Z (pv 1) (z0q z1M (pv 4) z06) (fun _ _=>rfl))) (z0k (i:=5) nd rfl (Or.inl rfl)) (z05 (z0G (z09 z2L (z0D z0C (pv 5) z06 (fun _ _=>rfl)) (pv 2) (z0o _)) (z05 (z0s (i:=3) nd rfl (Or.inl rfl) (z0V (z00 (pv 4) (z00 (z0D z0C (pv 5) z06 (fun _ _=>rfl)) z02))))) z0n))))) (z05 (z0i (pv 3))))),?_⟩
 refine⟨(by show 2≤sizeLine;decide),fun t0 ht0=>?_⟩
 have s1:=z01 ht0 (.tup [V.int 0,V.non])
 have e1:upd H t0 (.tup [V.int 0,V.non]) t0=some (.tup [V.int 0,V.non]):=z03
 generalize upd H t0 (.tup [V.int 0,V.non])=H1 at s1 e1
 refine⟨_,rfl,p,ns,rfl,s1.seq hP,h64,fun ls ms nls hp hs=>?_⟩
 have er:=z9q nds B7 hp hs
 have s2:=s1.trans (z01 nls (.lst (ms.map V.int)))
 have e2:=z01 nls (.lst (ms.map V.int)) _ _ e1
 have els:upd H1 ls (.lst (ms.map V.int)) ls=some (.lst (ms.map V.int)):=z03
 generalize upd H1 ls (.lst (ms.map V.int))=H2 at s2 e2 els
 refine⟨ls,rfl,⟨_,SqL.of els⟩,z22 (K:=K) (a:=ls) (xs:=ms.map V.int) (fun i σ H'=>∃(hv:V) (o1 o2:Option V),A4 H2 H'/\A5 H' (y1S (z0W (ms.take i) rows z)) hv/\σ=[some (.ref p),some (.ref lr),some (.str z),some hv,o1,o2])
  ⟨.ref t0,none,none,A4.refl _,z0u e2 (by show 2≤1000000;decide) (.cons (z0E 0) (.cons z71 .nil)),rfl⟩ (fun i σ H' _ ⟨_,_,_,g,_⟩=>SqL.of (g _ _ els)) ?_ ?_⟩
 ·rintro i x σ H' hi ⟨hv,o1,o2,g,th,rfl⟩
  obtain⟨n,hn,rfl⟩:∃n,ms[i]? = some n/\x=V.int n:=by
   rw[bE] at hi
   cases e:ms[i]? with
   | none=>rw[e] at hi;cases hi
   | some n=>rw[e] at hi;exact⟨n,rfl,(Option.some.inj hi).symm⟩
  have nin:n∈ns:=hp.mem_iff.mp (bV hn)
  have hn1:=B7 n nin
  have hn2:=hup n nin
  obtain⟨v,_,av,tv⟩:=z3o (z08.keep (s2.trans g) _ _ tl) (k:=n) hn1.1 hn2
  obtain⟨ar,xs,rfl,er',_,tp⟩:=z0b tv
  have lw:xs.length=(z0v rows n).length:=by rw[tp.length,bA]
  refine⟨_,rfl,_,rfl,_,_,rfl,rfl,lr,us,_,_,rfl,rfl,(s2.trans g).seq hR,av,ar,rfl,⟨_,SqT.of er'⟩,?_⟩
  refine z7W (K:=K) (a:=ar) (xs:=xs) (fun j σ H2'=>∃(hv:V) (o2:Option V),A4 H' H2'/\A5 H2' (y1S (match D7 ((z0v rows n).take j) z with|some v=>some (n,v)|none=>z0W (ms.take i) rows z)) hv/\
    σ=[some (.ref p),some (.ref lr),some (.str z),some hv,some (.int n),o2]) ⟨hv,o2,A4.refl _,th,rfl⟩ (fun j σ H2' _ ⟨_,_,g2,_⟩=>SqT.of (g2 _ _ er')) ?_ ?_
  ·rintro j y σ H2' hy ⟨hv2,o3,g2,th2,rfl⟩
   obtain⟨pq,b,e1',rfl,e2'⟩:=z2j tp j y hy
   have sb:SqT K H2' b [V.str pq.1,V.int pq.2]:=SqT.of (g2 _ _ e2')
   refine⟨_,rfl,b,_,0,_,rfl,rfl,sb,rfl,_,rfl,rfl,_,rfl,?_⟩
   have tk:(z0v rows n).take (j+1)=(z0v rows n).take j++[pq]:=z0j e1'
   refine B3 (fun c=>?_) (fun c=>?_)
   ·have c':pq.1=z:=by
     have:=z0M c
     injection this
    refine⟨_,rfl,_,rfl,b,_,1,_,rfl,rfl,sb,rfl,(by show 2≤sizeLine;decide),fun t ht=>?_⟩
    refine⟨.ref t,_,g2.trans (z01 ht _),?_,rfl⟩
    rw[tk,z9K,if_pos c']
    exact z0u z03 (by show 2≤1000000;decide) (.cons (z0E _) (.cons (z0E _) .nil))
   ·have c':¬pq.1=z:=fun e=>z4h c (by rw[e])
    refine⟨hv2,_,g2,?_,rfl⟩
    rw[tk,z9K,if_neg c']
    exact th2
  ·rintro σ H2' ⟨hv2,o3,g2,th2,rfl⟩
   rw[lw,bP] at th2
   refine⟨hv2,_,_,g.trans g2,?_,rfl⟩
   rw[z0j hn,z6h]
   exact th2
 ·rintro σ H' ⟨hv,o1,o2,g,th,rfl⟩
  rw[bA,bP,er] at th
  exact⟨_,rfl,q hv H' (s2.trans g) th⟩
def y2i(K:PySem.W.Frag):Sp:=fun vs H Q _=>∃(p lr:Addr) (ns:List Int) (us:List V) (rows:List Row) (r:Int),vs=[.ref p,.ref lr,.int r]/\H p=some (.lst (ns.map V.int))/\(∀x∈ns,1≤x/\x≤60)/\ns.length≤900/\(∀x∈ns,x≤rows.length)/\
 SqL K H lr us/\z08 H (rows.map L9) us/\(∀w∈rows,w.length≤12)/\0≤r/\∀(l:Addr) (zs:List V) (H':Hp),H l=none->A4 H H'->H' l=some (.lst zs)->z08 H' (z6X ns rows r) zs->Q (.ref l) H'
theorem y5N(M:Bl mg)(F:Fun K "_law_gaps" "_law_gaps" z64 f fd)(D5:Cal P w K mg base 1 "_law_teller" z2Z (z7C K)):A7 P w K mg base CX0 2 f fd z4q (y2i K):=by
 have nd:=z81.nd
 refine F.ok z81 (fun vs H Q E h=>?_) (fun cdv A outer s H vs Q E hr h=>?_)
 ·obtain⟨p,lr,ns,us,rows,r,rfl,_⟩:=h
  rfl
 obtain⟨p,lr,ns,us,rows,r,rfl,hP,B7,hlen,hup,hR,tl,h12,r0,q⟩:=h
 refine⟨_,(z04 (z0s (i:=3) nd rfl (Or.inl rfl) (z1W z02)) (z04 (z15 bY rfl (z5v rfl M.range (z00 z06 (z00 (z0d (z7s rfl) rfl M.max dQ (z00 (z0q y5q (pv 0) (z1W (z00 z06 z02))) z02)) z02))) (z0k (i:=4) nd rfl (Or.inl rfl)) (z04 (z0s (i:=5) nd rfl (Or.inl rfl) (z0l D5 (rm hr) rfl (z00 (pv 0) (z00 (pv 4) (z00 (pv 2) z02))))) (z04 (z0G (PW.pt (z4i (z09 z1T (pv 4) (pv 0) (by with_unfolding_all rfl)) (z3j (z09 z2L (pv 5) z06 (z0o _))))) (z05 (z0y (z3g bU bT bX z0J (pv 3) (z00 (z0V (z00 (pv 4) (z00 z06 (z00 (z0V z02) z02)))) z02)))) z0n) (z05 (z0G (PW.pt (z4i (z09 z1T (pv 4) (pv 0) (by with_unfolding_all rfl)) (z3j (z09 z2P (pv 5) z06 (z0o _))))) (z05 (z0y (z3g bU bT bX z0J (pv 3) (z00 (z0V (z00 (pv 4) (z00 (pv 5) (z00 (z0t z0m rfl M.tuple bL (z00 (z1i ["_law_row_here"] [] [] rfl (z0w rfl (by decide +kernel) rfl (by decide +kernel) rfl rfl) (z2r (z0D z0Z (pv 1) (z0q z1M (pv 4) z06) (fun _ _=>rfl))) (fun _ _ _ _ _=>(z0k (i:=0) (show((["_law_row_here"]:List PySem.Str)++([]:List PySem.Str)).Nodup from by decide +kernel) rfl (Or.inl rfl))) (z0z (by decide)) z0g (fun _ _ _ _ _=>z1K) (fun _ _ _ _ _=>(z0D (r:=O8 K) z0C (pv 0) z06 (fun _ _=>rfl)))) z02)) z02)))) z02)))) z0n))))) (z05 (z0i (pv 3))))),?_⟩
 refine⟨(by show 0≤sizeLine;decide),fun lg hlg=>?_⟩
 have s1:=z01 hlg (.lst [])
 refine⟨_,rfl,(by show 1≤sizeLine;decide),fun l0 hl0=>⟨p,l0,_,_,rfl,rfl,z01 hl0 _ _ _ (s1 _ _ hP),z03,?_,fun lc hlc=>?_⟩⟩
 ·rw[bA]
  exact dR (z0f (by show ns.length+1≤1000;omega))
 have s2:=s1.trans ((z01 hl0 (.lst [V.int 0])).trans (z01 hlc (.lst (ns.map V.int++[V.int 0]))))
 have eg:upd (upd (upd H lg (.lst [])) l0 (.lst [V.int 0])) lc (.lst (ns.map V.int++[V.int 0])) lg=some (.lst []):=(z01 hl0 _).trans (z01 hlc _) _ _ z03
 have ec:upd (upd (upd H lg (.lst [])) l0 (.lst [V.int 0])) lc (.lst (ns.map V.int++[V.int 0])) lc=some (.lst ((ns++[0]).map V.int)):=by
  rw[z03,bG]
  rfl
 generalize upd (upd (upd H lg (.lst [])) l0 (.lst [V.int 0])) lc (.lst (ns.map V.int++[V.int 0]))=H2 at s2 eg ec
 refine⟨lc,ns++[0],rfl,.inl (SqL.of ec),by simp,fun m hm top=>?_⟩
 have hm':m∈ns\/(ns=[]/\m=0):=by
  rcases bS.mp hm with h|h
  ·exact .inl h
  ·rw[bC] at h
   subst h
   cases ns with
   | nil=>exact .inr ⟨rfl,rfl⟩
   | cons x xs=>
    have h1:=top x (by simp)
    have h2:=B7 x cD
    omega
 have m60:0≤m/\m≤60:=by
  rcases hm' with h|⟨_,h⟩
  ·have:=B7 m h
   omega
  ·omega
 have topn:∀y∈ns,y≤m:=fun y hy=>top y (dS _ hy)
 refine⟨1,m,rfl,⟨by decide,by decide,by omega,by omega⟩,?_⟩
 refine z1p (lo:=1) (n:=(m-1).toNat) (fun i σ H'=>∃(zs:List V) (o1 o2:Option V),(∀b u,H b=some u->H' b=some u)/\H' lg=some (.lst zs)/\z08 H' (((upI 1 i).filter fun x=>!decide (x∈ns)).map (P6 ns rows r)) zs/\
   σ=[some (.ref p),some (.ref lr),some (.int r),some (.ref lg),o1,o2]) ⟨[],none,none,s2,eg,.nil,rfl⟩ (fun i σ H' hi hp=>?_) (fun σ H' hp=>?_)
 ·obtain⟨zs,o1,o2,g,eG,tG,rfl⟩:=hp
  have g':A4 H H':=g
  have hn:(1:Int)+(i:Int)≤rows.length:=by
   rcases hm' with h|⟨_,h⟩
   ·have:=hup m h
    omega
   ·omega
  have lz:zs.length≤i:=by
   rw[tG.length,bA]
   have:=cI (fun x=>!decide (x∈ns)) (upI 1 i)
   rw[z0Q] at this
   exact this
  refine⟨_,rfl,_,rfl,_,rfl,p,ns,1+(i:Int),r,rfl,SqL.of (g _ _ hP),B7,hlen,r0,fun H3 s3=>?_⟩
  have t0:=z6I (ns:=ns) (n:=1+(i:Int)) (r:=r)
  have g3:A4 H H3:=g'.trans s3
  have eG3:=s3 _ _ eG
  have tG3:=z08.keep s3 _ _ tG
  refine⟨_,rfl,_,rfl,p,_,rfl,.inl (SqL.of (g3 _ _ hP)),rfl,z2t ns,_,rfl,?_⟩
  rw[if_pos rfl,z36]
  by_cases hin:(1:Int)+(i:Int)∈ns
  ·rw[decide_eq_true hin]
   refine B5 (B5 ?_)
   refine⟨_,rfl,_,rfl,p,_,rfl,.inl (SqL.of (g3 _ _ hP)),rfl,z2t ns,_,rfl,?_⟩
   rw[if_pos rfl,z36,decide_eq_true hin]
   refine B5 (B5 ⟨zs,_,_,g3,eG3,?_,rfl⟩)
   rw[z7o,if_pos hin,cY]
   exact tG3
  ·rw[decide_eq_false hin]
   refine E9 ⟨_,rfl,rfl,_,rfl,?_⟩
   refine B3 (fun c=>?_) (fun c=>?_)
   ·have c0:z0L ns (1+(i:Int)) r=0:=by
     have:=z0M c
     injection this
    refine⟨_,rfl,.inl ⟨rfl,_,SqL.of eG3⟩,_,rfl,(by show 0≤sizeLine;decide),fun t0 ht0=>⟨(by show 3≤sizeLine;decide),fun t ht=>?_⟩⟩
    have s4:=(z01 ht0 (.tup [])).trans (z01 ht (.tup [V.int (1+(i:Int)),V.int 0,V.ref t0]))
    have et:upd (upd H3 t0 (.tup [])) t (.tup [V.int (1+(i:Int)),V.int 0,V.ref t0]) t=some (.tup [V.int (1+(i:Int)),V.int 0,V.ref t0]):=z03
    have et0:upd (upd H3 t0 (.tup [])) t (.tup [V.int (1+(i:Int)),V.int 0,V.ref t0]) t0=some (.tup []):=z01 ht _ _ _ z03
    generalize upd (upd H3 t0 (.tup [])) t (.tup [V.int (1+(i:Int)),V.int 0,V.ref t0])=H4 at s4 et et0
    refine⟨lg,_,_,rfl,rfl,s4 _ _ eG3,z0f (by omega),?_⟩
    have g5:∀b u,H b=some u->upd H4 lg (.lst (zs++[V.ref t])) b=some u:=fun b u e=>by
     rw[z0h (z0r e hlg)]
     exact s4 _ _ (g3 _ _ e)
    have tg:A5 H4 (P6 ns rows r (1+(i:Int))) (.ref t):=by
     unfold P6
     rw[if_pos c0,c0]
     exact z0u et (by show 3≤1000000;decide) (.cons (z0E _) (.cons (z0E _) (.cons (z0u et0 (by show 0≤1000000;decide) .nil) .nil)))
    have t5:z08 (upd H4 lg (.lst (zs++[V.ref t]))) (((upI 1 (i+1)).filter fun x=>!decide (x∈ns)).map (P6 ns rows r)) (zs++[V.ref t]):=by
     rw[z7o,if_neg hin,bG]
     exact z08.over (s4 _ _ eG3) (fun _ e=>by cases e) _ _ (z08.snoc (z08.keep s4 _ _ tG3) tg)
    refine⟨_,rfl,_,rfl,p,_,rfl,.inl (SqL.of (g5 _ _ hP)),rfl,z2t ns,_,rfl,?_⟩
    rw[if_pos rfl,z36,decide_eq_false hin]
    refine E9 ⟨_,rfl,_,_,rfl,rfl,_,rfl,?_⟩
    rw[c0]
    exact B5 ⟨_,_,_,g5,z03,t5,rfl⟩
   ·have c0:z0L ns (1+(i:Int)) r≠0:=fun e=>z4h c (by rw[e])
    refine⟨_,rfl,_,rfl,p,_,rfl,.inl (SqL.of (g3 _ _ hP)),rfl,z2t ns,_,rfl,?_⟩
    rw[if_pos rfl,z36,decide_eq_false hin]
    refine E9 ⟨_,rfl,_,_,rfl,rfl,_,rfl,?_⟩
    rw[decide_eq_true (show(0:Int)<z0L ns (1+(i:Int)) r by omega)]
    refine E9 ?_
    obtain⟨v,_,av,tv⟩:=z3o (z08.keep g3 _ _ tl) (k:=1+(i:Int)) (by omega) hn
    obtain⟨ar,xs,rfl,er,_,tp⟩:=z0b tv
    have lw:xs.length=(z0v rows (1+(i:Int))).length:=by rw[tp.length,bA]
    have w12:=z5W h12 (1+(i:Int))
    refine⟨_,rfl,.inl ⟨rfl,_,SqL.of eG3⟩,_,rfl,_,rfl,_,rfl,_,rfl,_,_,rfl,rfl,lr,us,_,_,rfl,rfl,g3.seq hR,av,ar,rfl,⟨_,SqT.of er⟩,?_⟩
    refine z1u (xs:=xs) (fun j ys H2=>H2=H3/\ys=((z0A (z0v rows (1+(i:Int)))).take j).map V.str) ⟨rfl,rfl⟩ (fun j ys H2 hj hp=>?_) (fun j y ys H2 hy hp=>?_) (fun ys H2 hp=>?_)
    ·obtain⟨rfl,rfl⟩:=hp
     refine⟨SqT.of er,z0f ?_⟩
     rw[bA,bI]
     omega
    ·obtain⟨rfl,rfl⟩:=hp
     obtain⟨pq,b,e1,rfl,e2⟩:=z2j tp j y hy
     refine⟨_,rfl,b,_,0,_,rfl,rfl,SqT.of e2,rfl,rfl,?_⟩
     have e3:(z0A (z0v rows (1+(i:Int))))[j]? = some pq.1:=by
      unfold z0A
      rw[bE,e1]
      rfl
     rw[z0j e3,bG]
     rfl
    obtain⟨rfl,rfl⟩:=hp
    have ll:(z0A (z0v rows (1+(i:Int)))).take xs.length=z0A (z0v rows (1+(i:Int))):=cO (by unfold z0A;rw[bA];omega)
    rw[ll]
    intro D hD
    refine⟨D,_,rfl,.inl ⟨SqL.of z03,fun t0 ht0=>⟨(by show 3≤sizeLine;decide),fun t ht=>?_⟩⟩⟩
    generalize hN:(z0A (z0v rows (1+(i:Int)))).map V.str=nv at hD ht0 ht
    have s4:=(z01 hD (.lst nv)).trans ((z01 ht0 (.tup nv)).trans (z01 ht (.tup [V.int (1+(i:Int)),V.int (z0L ns (1+(i:Int)) r),V.ref t0])))
    have et:upd (upd (upd H2 D (.lst nv)) t0 (.tup nv)) t (.tup [V.int (1+(i:Int)),V.int (z0L ns (1+(i:Int)) r),V.ref t0]) t=some (.tup [V.int (1+(i:Int)),V.int (z0L ns (1+(i:Int)) r),V.ref t0]):=z03
    have et0:upd (upd (upd H2 D (.lst nv)) t0 (.tup nv)) t (.tup [V.int (1+(i:Int)),V.int (z0L ns (1+(i:Int)) r),V.ref t0]) t0=some (.tup nv):=z01 ht _ _ _ z03
    generalize upd (upd (upd H2 D (.lst nv)) t0 (.tup nv)) t (.tup [V.int (1+(i:Int)),V.int (z0L ns (1+(i:Int)) r),V.ref t0])=H4 at s4 et et0
    refine⟨lg,_,_,rfl,rfl,s4 _ _ eG3,z0f (by omega),?_⟩
    have g5:∀b u,H b=some u->upd H4 lg (.lst (zs++[V.ref t])) b=some u:=fun b u e=>by
     rw[z0h (z0r e hlg)]
     exact s4 _ _ (g3 _ _ e)
    have tg:A5 H4 (P6 ns rows r (1+(i:Int))) (.ref t):=by
     unfold P6
     rw[if_neg c0]
     refine z0u et (by show 3≤1000000;decide) (.cons (z0E _) (.cons (z0E _) (.cons (z0u et0 ?_ ?_) .nil)))
     ·rw[bA]
      unfold z0A
      rw[bA]
      omega
     ·rw[<- hN]
      exact z1V _
    refine⟨_,_,_,g5,z03,?_,rfl⟩
    rw[z7o,if_neg hin,bG]
    exact z08.over (s4 _ _ eG3) (fun _ e=>by cases e) _ _ (z08.snoc (z08.keep s4 _ _ tG3) tg)
 ·obtain⟨zs,o1,o2,g,eG,tG,rfl⟩:=hp
  rw[y2k hm' B7 topn] at tG
  exact⟨_,rfl,q lg zs H' hlg g eG tG⟩
theorem y0Z(x:Str)(ns:List Str):inV (.str x) (ns.map V.str)=decide (x∈ns):=by
 unfold inV
 rw[cX,gL,h8,decide_eq_true_eq]
 constructor
 ·rintro⟨y,hy,e⟩
  have:y=x:=by simpa [eqV] using e
  exact this ▸ hy
 ·intro h
  exact⟨x,h,by simp[eqV]⟩
def z29(ns:List Int)(rows:List Row)(r n:Int):List Str:=if z0L ns n r=0 then [] else z0A (z0v rows n)
theorem y63(ns:List Int)(rows:List Row)(r n:Int):P6 ns rows r n=.tup [.int n,.int (z0L ns n r),K2 (z29 ns rows r n)]:=by
 unfold P6 z29
 by_cases h:z0L ns n r=0
 ·rw[if_pos h,if_pos h]
  rfl
 ·rw[if_neg h,if_neg h]
def z3Y(ns:List Int)(rows:List Row)(r num:Int)(z:Str):List Int:=(z1j ns).filter fun n=>decide (num<n) && decide (z∈z29 ns rows r n)
def y58(ns:List Int)(rows:List Row)(r num:Int)(z:Str):DV:=.tup ((z3Y ns rows r num z).map fun n=>.tup [.int n,.int (z0L ns n r)])
theorem z8L(ns:List Int)(rows:List Row)(r num:Int)(z:Str):(z3Y ns rows r num z).length≤60:=cM (cI _ _) (z2s ns)
theorem z5G{H:Hp}{ns:List Int}{rows:List Row}{r:Int}{zs:List V}(h:z08 H (z6X ns rows r) zs){i:Nat}{x:V}(e:zs[i]? = some x) :
  ∃(n:Int) (a b:Addr),(z1j ns)[i]? = some n/\x=.ref a/\H a=some (.tup [.int n,.int (z0L ns n r),.ref b])/\H b=some (.tup ((z29 ns rows r n).map V.str)):=by
 obtain⟨d,e1,t⟩:=h.at i x e
 unfold z6X at e1
 rw[bE] at e1
 cases er:(z1j ns)[i]? with
 | none=>rw[er] at e1;cases e1
 | some n=>
  rw[er] at e1
  have e2:P6 ns rows r n=d:=Option.some.inj e1
  rw[y63] at e2
  subst e2
  obtain⟨a,ys,rfl,h1,_,h2⟩:=z0b t
  obtain⟨y1,r1,rfl,t1,h3⟩:=z0c h2
  obtain⟨y2,r2,rfl,t2,h4⟩:=z0c h3
  obtain⟨y3,r3,rfl,t3,h5⟩:=z0c h4
  have:=z0F h5
  subst this
  obtain⟨b,ws,rfl,hb,_,tb⟩:=z0b t3
  rw[z0Y t1,z0Y t2] at h1
  rw[z1c tb] at hb
  exact⟨n,a,b,rfl,rfl,h1,hb⟩
theorem z8e{H:Hp}{ns:List Int}{rows:List Row}{r:Int}{zs:List V}(h:z08 H (z6X ns rows r) zs):zs.length=(z1j ns).length:=by
 rw[h.length]
 unfold z6X
 rw[bA]
def y3N(K:PySem.W.Frag):Sp:=fun vs H Q _=>∃(lg:Addr) (zs:List V) (ns:List Int) (rows:List Row) (r num:Int) (z:Str),vs=[.ref lg,.int num,.str z]/\SqL K H lg zs/\z08 H (z6X ns rows r) zs/\
 ∀(v:V) (H':Hp),A4 H H'->A5 H' (y58 ns rows r num z) v->Q v H'
theorem y4e(M:Bl mg)(F:Fun K "_law_again" "_law_again" z4U f fd):A7 P w K mg base CX0 1 f fd z51 (y3N K):=by
 have nd:=z6R.nd
 refine F.ok z6R (fun vs H Q E h=>?_) (fun cdv A outer s H vs Q E hr h=>?_)
 ·obtain⟨lg,zs,ns,rows,r,num,z,rfl,_⟩:=h
  rfl
 obtain⟨lg,zs,ns,rows,r,num,z,rfl,hG,tG,q⟩:=h
 refine⟨_,(z05 (z0i (z0t z0m rfl M.tuple bL (z00 (z1i ["_law_gap"] ["_law_number","_law_name"] [1,2] rfl (z0w rfl (by decide +kernel) rfl (by decide +kernel) rfl rfl) (z1I (pv 0)) (fun _ _ _ _ _=>(z0k (i:=0) (show((["_law_gap"]:List PySem.Str)++(["_law_number","_law_name"]:List PySem.Str)).Nodup from by decide +kernel) rfl (Or.inl rfl))) (z0z (by decide)) z0g (fun _ _ _ _ _=>(z3c (PW.pt (z4i (z09 z2P (z0D (r:=O8 K) z0C (pv 0) z06 (fun _ _=>rfl)) (pv 1) (z0o _)) (z3j (z09 (r:=rIn K false) z5Y (pv 2) (z0D (r:=O8 K) z0C (pv 0) z06 (fun _ _=>rfl)) (by with_unfolding_all rfl))))))) (fun _ _ _ _ _=>(z0V (z00 (z0D (r:=O8 K) z0C (pv 0) z06 (fun _ _=>rfl)) (z00 (z0D (r:=O8 K) z0C (pv 0) z06 (fun _ _=>rfl)) z02))))) z02)))),?_⟩
 have lz:=z8e tG
 have l60:=z2s ns
 refine⟨_,rfl,lg,rfl,⟨_,hG⟩,?_⟩
 refine z3w (xs:=zs) (fun i ys H'=>A4 H H'/\z08 H' ((((z1j ns).take i).filter fun n=>decide (num<n) && decide (z∈z29 ns rows r n)).map fun n=>.tup [.int n,.int (z0L ns n r)]) ys) ⟨A4.refl _,by rw[cQ];exact .nil⟩
  (fun i ys H' hi hp=>?_) (fun i x ys H' hx hp=>?_) (fun ys H' hp=>?_)
 ·obtain⟨g,t⟩:=hp
  refine⟨g.seq hG,z0f ?_⟩
  have:=cI (fun n=>decide (num<n) && decide (z∈z29 ns rows r n)) ((z1j ns).take i)
  rw[bI] at this
  rw[t.length,bA]
  omega
 ·obtain⟨g,t⟩:=hp
  obtain⟨n,a,b,en,rfl,ha,hb⟩:=z5G tG hx
  have sa:SqT K H' a [V.int n,V.int (z0L ns n r),V.ref b]:=SqT.of (g _ _ ha)
  have tks:=z0j en
  refine⟨_,rfl,a,_,0,_,rfl,rfl,sa,rfl,_,rfl,_,_,rfl,rfl,_,rfl,?_⟩
  rw[tks,dJ,eB]
  refine B3 (fun c=>?_) (fun c=>?_)
  ·refine⟨_,rfl,_,rfl,a,_,2,_,rfl,rfl,sa,rfl,b,_,rfl,.inr (SqT.of (g _ _ hb)),rfl,z1O _,_,rfl,?_⟩
   rw[if_neg bO,y0Z,c,fV]
   refine B3 (fun c2=>?_) (fun c2=>?_)
   ·rw[if_pos c2,bG]
    refine⟨_,rfl,a,_,0,_,rfl,rfl,sa,rfl,_,rfl,a,_,1,_,rfl,rfl,sa,rfl,(by show 2≤sizeLine;decide),fun u hu=>⟨g.trans (z01 hu _),?_⟩⟩
    exact z08.snoc (z08.keep (z01 hu _) _ _ t) (z0u z03 (by show 2≤1000000;decide) (.cons (z0E _) (.cons (z0E _) .nil)))
   ·rw[if_neg c2,fI,cY]
    exact⟨g,t⟩
  ·rw[gS.mpr c,gM]
   refine B5 ?_
   rw[if_neg bO,fI,cY]
   exact⟨g,t⟩
 ·obtain⟨g,t⟩:=hp
  rw[lz,bP] at t
  intro D hD
  refine⟨D,_,rfl,.inl ⟨SqL.of z03,fun l hl=>?_⟩⟩
  have s2:=(z01 hD (.lst ys)).trans (z01 hl (.tup ys))
  refine q _ _ (g.trans s2) (z0u z03 ?_ (z08.keep s2 _ _ t))
  have:=z8L ns rows r num z
  rw[bA]
  omega
def z3C(ns:List Int)(r num:Int):List Int:=(z1j ns).filter fun n=>decide (num<n) && decide (z0L ns n r=0)
def z19(ns:List Int)(rows:List Row)(r num:Int)(z:Str):Str:=if 0<(z3Y ns rows r num z).length then "stale" else if z3C ns r num=[] then "sure" else "open"
def y0k(K:PySem.W.Frag):Sp:=fun vs H Q _=>∃(lg:Addr) (zs:List V) (ns:List Int) (rows:List Row) (r num:Int) (z:Str),vs=[.ref lg,.int num,.str z]/\SqL K H lg zs/\z08 H (z6X ns rows r) zs/\
 ∀H',A4 H H'->Q (.str (z19 ns rows r num z)) H'
theorem y2n(M:Bl mg)(F:Fun K "_law_state" "_law_state" z4Y f fd)(M0:Cal P w K mg base 1 "_law_again" z51 (y3N K)):A7 P w K mg base CX0 2 f fd z3P (y0k K):=by
 have nd:=z6P.nd
 refine F.ok z6P (fun vs H Q E h=>?_) (fun cdv A outer s H vs Q E hr h=>?_)
 ·obtain⟨lg,zs,ns,rows,r,num,z,rfl,_⟩:=h
  rfl
 obtain⟨lg,zs,ns,rows,r,num,z,rfl,hG,tG,q⟩:=h
 refine⟨_,(z04 (z0G (z09 z2P (z0d z0a rfl M.len bR (z00 (z0l M0 (rm hr) rfl (z00 (pv 0) (z00 (pv 1) (z00 (pv 2) z02)))) z02)) z06 (z0o _)) (z05 (z0i z2E)) z0n) (z04 (z0G (z09 (y6u hr.Q8) (z1i ["_law_gap"] ["_law_number"] [1] rfl (z0w rfl (by decide +kernel) rfl (by decide +kernel) rfl rfl) (z1I (pv 0)) (fun _ _ _ _ _=>(z0k (i:=0) (show((["_law_gap"]:List PySem.Str)++(["_law_number"]:List PySem.Str)).Nodup from by decide +kernel) rfl (Or.inl rfl))) (z0z (by decide)) z0g (fun _ _ _ _ _=>(z3c (PW.pt (z4i (z09 z2P (z0D (r:=O8 K) z0C (pv 0) z06 (fun _ _=>rfl)) (pv 1) (z0o _)) (z3j (z09 z2L (z0D (r:=O8 K) z0C (pv 0) z06 (fun _ _=>rfl)) z06 (z0o _))))))) (fun _ _ _ _ _=>(z0D (r:=O8 K) z0C (pv 0) z06 (fun _ _=>rfl)))) (z1W z02) (z0o _)) (z05 (z0i z2E)) z0n) (z05 (z0i z2E)))),?_⟩
 have lz:=z8e tG
 have l60:=z2s ns
 refine⟨_,rfl,_,rfl,_,rfl,lg,zs,ns,rows,r,num,z,rfl,hG,tG,fun v H1 s1 t1=>?_⟩
 obtain⟨a,xs,rfl,ha,_,ta⟩:=z0b t1
 have lx:xs.length=(z3Y ns rows r num z).length:=by rw[ta.length,bA]
 refine⟨a,xs,rfl,.inr (SqT.of ha),_,_,rfl,rfl,_,rfl,?_⟩
 rw[lx]
 refine B3 (fun c=>?_) (fun c=>?_)
 ·have c':(0:Int)<((z3Y ns rows r num z).length:Int):=z0M c
  have e:z19 ns rows r num z="stale":=by
   unfold z19
   rw[if_pos (by omega)]
  exact(by rw[<- e];exact q _ s1)
 have c':¬(0:Int)<((z3Y ns rows r num z).length:Int):=z4h c
 have nx:¬0<(z3Y ns rows r num z).length:=by omega
 refine⟨_,rfl,lg,rfl,⟨_,s1.seq hG⟩,?_⟩
 refine z3w (xs:=zs) (fun i ys H'=>H'=H1/\ys=(((z1j ns).take i).filter fun n=>decide (num<n) && decide (z0L ns n r=0)).map V.int) ⟨rfl,rfl⟩ (fun i ys H' hi hp=>?_) (fun i x ys H' hx hp=>?_) (fun ys H' hp=>?_)
 ·obtain⟨rfl,rfl⟩:=hp
  refine⟨s1.seq hG,z0f ?_⟩
  have:=cI (fun n=>decide (num<n) && decide (z0L ns n r=0)) ((z1j ns).take i)
  rw[bI] at this
  rw[bA]
  omega
 ·obtain⟨rfl,rfl⟩:=hp
  obtain⟨n,a2,b2,en,rfl,ha2,hb2⟩:=z5G (z08.keep s1 _ _ tG) hx
  have sa:SqT K H' a2 [V.int n,V.int (z0L ns n r),V.ref b2]:=SqT.of ha2
  have tks:=z0j en
  refine⟨_,rfl,a2,_,0,_,rfl,rfl,sa,rfl,_,rfl,_,_,rfl,rfl,_,rfl,?_⟩
  rw[tks,dJ,eB]
  refine B3 (fun c=>?_) (fun c=>?_)
  ·refine⟨_,rfl,a2,_,1,_,rfl,rfl,sa,rfl,rfl,_,rfl,?_⟩
   rw[c,fV]
   refine B3 (fun c2=>?_) (fun c2=>?_)
   ·have c3:z0L ns n r=0:=by
     have:=z0M c2
     injection this
    rw[decide_eq_true c3,if_pos rfl,bG]
    exact⟨_,rfl,a2,_,0,_,rfl,rfl,sa,rfl,rfl,rfl⟩
   ·have c3:¬z0L ns n r=0:=fun e=>z4h c2 (by rw[e])
    rw[decide_eq_false c3,if_neg bO,fI,cY]
    exact⟨rfl,rfl⟩
  ·rw[gS.mpr c,gM]
   refine B5 ?_
   rw[if_neg bO,fI,cY]
   exact⟨rfl,rfl⟩
 ·obtain⟨rfl,rfl⟩:=hp
  rw[lz,bP]
  have ed:((z1j ns).filter fun n=>decide (num<n) && decide (z0L ns n r=0))=z3C ns r num:=rfl
  rw[ed]
  intro D hD
  refine⟨(by show 0≤sizeLine;decide),fun e0 he0=>⟨D,e0,_,rfl,rfl,SqL.of (z01 he0 _ _ _ z03),SqL.of z03,_,rfl,?_⟩⟩
  have s2:=s1.trans ((z01 hD (.lst ((z3C ns r num).map V.int))).trans (z01 he0 (.lst [])))
  cases e:z3C ns r num with
  | nil=>
   rw[e] at s2
   refine B5 ?_
   have es:z19 ns rows r num z="sure":=by
    unfold z19
    rw[if_neg nx,if_pos e]
   exact(by rw[<- es];exact q _ s2)
  | cons y ys=>
   rw[e] at s2
   refine E9 ?_
   have es:z19 ns rows r num z="open":=by
    unfold z19
    rw[if_neg nx,if_neg (by rw[e];simp)]
   exact(by rw[<- es];exact q _ s2)
def U3(ns:List Int)(rows:List Row)(r:Int)(z:Str):DV:=.tup [.str z,.str (z19 ns rows r (z27 (z0W (z0e ns) rows z)) z),.int (z27 (z0W (z0e ns) rows z)),y4C (z0W (z0e ns) rows z)]
def z8P(nm:List Str)(ns:List Int)(rows:List Row)(r:Int):DV:=.tup (nm.map (U3 ns rows r))
def y37(K:PySem.W.Frag):Sp:=fun vs H Q _=>∃(ln p lr:Addr) (nm:List Str) (ns:List Int) (us:List V) (rows:List Row) (r:Int),vs=[.ref ln,.ref p,.ref lr,.int r]/\SqL K H ln (nm.map V.str)/\nm.length≤12/\H p=some (.lst (ns.map V.int))/\ns.length<64/\ns.Nodup/\(∀x∈ns,1≤x/\x≤60)/\(∀x∈ns,x≤rows.length)/\
 SqL K H lr us/\z08 H (rows.map L9) us/\(∀w∈rows,w.length≤12)/\0≤r/\∀(v:V) (H':Hp),A4 H H'->A5 H' (z8P nm ns rows r) v->Q v H'
theorem y4E(M:Bl mg)(F:Fun K "_law_table" "_law_table" z4W f fd)(F3:Cal P w K mg base 2 "_law_gaps" z4q (y2i K))(F2:Cal P w K mg base 1 "_law_held" z4z (y0o K))
  (E4:Cal P w K mg base 2 "_law_state" z3P (y0k K)):A7 P w K mg base CX0 3 f fd z4S (y37 K):=by
 have nd:=z6G.nd
 refine F.ok z6G (fun vs H Q E h=>?_) (fun cdv A outer s H vs Q E hr h=>?_)
 ·obtain⟨ln,p,lr,nm,ns,us,rows,r,rfl,_⟩:=h
  rfl
 obtain⟨ln,p,lr,nm,ns,us,rows,r,rfl,hN,n12,hP,h64,nds,B7,hup,hR,tl,h12,r0,q⟩:=h
 refine⟨_,(z04 (z0s (i:=4) nd rfl (Or.inl rfl) (z0l F3 (rm hr) rfl (z00 (pv 1) (z00 (pv 2) (z00 (pv 3) z02))))) (z04 (z0s (i:=5) nd rfl (Or.inl rfl) (z1W z02)) (z04 (z15 bY rfl (z1I (pv 0)) (z0k (i:=6) nd rfl (Or.inl rfl)) (z04 (z0s (i:=7) nd rfl (Or.inl rfl) (z0l F2 (rm hr) rfl (z00 (pv 1) (z00 (pv 2) (z00 (pv 6) z02))))) (z05 (z0y (z3g bU bT bX z0J (pv 5) (z00 (z0V (z00 (pv 6) (z00 (z0l E4 (rm hr) rfl (z00 (pv 4) (z00 (z0D z0C (pv 7) z06 (fun _ _=>rfl)) (z00 (pv 6) z02)))) (z00 (z0D z0C (pv 7) z06 (fun _ _=>rfl)) (z00 (z0D z0C (pv 7) z06 (fun _ _=>rfl)) z02))))) z02)))))) (z05 (z0i (z0t z0m rfl M.tuple bL (z00 (pv 5) z02))))))),?_⟩
 refine⟨_,rfl,_,rfl,_,rfl,p,lr,ns,us,rows,r,rfl,hP,B7,by omega,hup,hR,tl,h12,r0,fun lg gz H1 nlg s1 eG tG=>?_⟩
 refine⟨(by show 0≤sizeLine;decide),fun lt hlt=>?_⟩
 refine⟨_,rfl,ln,rfl,⟨_,(s1.trans (z01 hlt _)).seq hN⟩,z22 (K:=K) (a:=ln) (xs:=nm.map V.str) (fun i σ H'=>∃(ts:List V) (o1 o2:Option V),(∀b u,H1 b=some u->H' b=some u)/\H' lt=some (.lst ts)/\z08 H' ((nm.take i).map (U3 ns rows r)) ts/\
   σ=[some (.ref ln),some (.ref p),some (.ref lr),some (.int r),some (.ref lg),some (.ref lt),o1,o2])
  ⟨[],none,none,z01 hlt _,z03,by rw[cQ];exact .nil,rfl⟩ (fun i σ H' _ ⟨_,_,_,g,_⟩=>(s1.trans g).seq hN) ?_ ?_⟩
 ·rintro i x σ H' hi ⟨ts,o1,o2,g,eT,tT,rfl⟩
  have g':A4 H1 H':=g
  obtain⟨z,hz,rfl⟩:∃z,nm[i]? = some z/\x=V.str z:=by
   rw[bE] at hi
   cases e:nm[i]? with
   | none=>rw[e] at hi;cases hi
   | some z=>rw[e] at hi;exact⟨z,rfl,(Option.some.inj hi).symm⟩
  have lts:ts.length≤12:=by
   rw[tT.length,bA,bI]
   omega
  have sg:=s1.trans g'
  refine⟨_,rfl,_,rfl,_,rfl,p,lr,ns,us,rows,z,rfl,SqL.of (sg _ _ hP),h64,nds,B7,hup,sg.seq hR,z08.keep sg _ _ tl,fun hv H3 s3 th=>?_⟩
  obtain⟨ah,y,rfl,eh,ty⟩:=z4y th
  have sah:SqT K H3 ah [V.int (z27 (z0W (z0e ns) rows z)),y]:=SqT.of eh
  refine⟨_,rfl,.inl ⟨rfl,_,SqL.of (s3 _ _ eT)⟩,_,rfl,_,rfl,_,rfl,ah,_,0,_,rfl,rfl,sah,rfl,_,rfl,lg,gz,ns,rows,r,_,z,rfl,SqL.of (s3 _ _ (g _ _ eG)),z08.keep (g'.trans s3) _ _ tG,fun H4 s4=>?_⟩
  have sah4:SqT K H4 ah [V.int (z27 (z0W (z0e ns) rows z)),y]:=SqT.of (s4 _ _ eh)
  refine⟨_,rfl,ah,_,0,_,rfl,rfl,sah4,rfl,_,rfl,ah,_,1,_,rfl,rfl,sah4,rfl,(by show 4≤sizeLine;decide),fun t ht=>?_⟩
  have s34:=s3.trans (s4.trans (z01 ht (.tup [V.str z,V.str (z19 ns rows r (z27 (z0W (z0e ns) rows z)) z),V.int (z27 (z0W (z0e ns) rows z)),y])))
  refine⟨lt,_,_,rfl,rfl,s34 _ _ eT,z0f (by omega),?_⟩
  refine⟨_,_,_,fun b u e=>?_,z03,?_,rfl⟩
  ·rw[z0h (z0r e hlt)]
   exact s34 _ _ (g b u e)
  ·rw[z0j hz,bG]
   refine z08.over (s34 _ _ eT) (fun _ e=>by cases e) _ _ (z08.snoc (z08.keep s34 _ _ tT) (z0u z03 (by show 4≤1000000;decide) (.cons (z2p _) (.cons (z2p _) (.cons (z0E _) (.cons ?_ .nil))))))
   exact A5.keep (s4.trans (z01 ht _)) _ _ ty
 ·rintro σ H' ⟨ts,o1,o2,g,eT,tT,rfl⟩
  rw[bA,bP] at tT
  refine⟨_,rfl,lt,ts,rfl,.inl ⟨SqL.of eT,fun l hl=>?_⟩⟩
  refine q _ _ (s1.trans (A4.trans g (z01 hl _))) (z0u z03 ?_ (z08.keep (z01 hl _) _ _ tT))
  rw[bA]
  omega
theorem y4o{ds:List DV}{n:Nat}(h:∀d∈ds,d.deep≤n):DV.O9 ds≤n:=by
 induction ds with
 | nil=>unfold DV.O9;exact cT _
 | cons d r ih=>
  unfold DV.O9
  exact Nat.max_le.mpr ⟨h d cD,ih fun x hx=>h x (bZ _ hx)⟩
theorem z2l{ds:List DV}{n:Nat}(h:∀d∈ds,d.deep≤n):(DV.tup ds).deep≤n+1:=by
 unfold DV.deep
 exact Nat.succ_le_succ (y4o h)
theorem z30(i:Int)(n:Nat):(DV.int i).deep≤n:=by unfold DV.deep;exact cT _
theorem z79(i:Str)(n:Nat):(DV.str i).deep≤n:=by unfold DV.deep;exact cT _
theorem y4S(s:List Str):(K2 s).deep≤1:=z2l fun d hd=>by
 obtain⟨x,_,rfl⟩:=cK.mp hd
 exact z79 _ _
theorem z4A{rows:List Row}{j:Nat}{k:Int}(h0:1≤k)(h:k≤j):z0v (rows.take j) k=z0v rows k:=by
 unfold z0v
 have hk:(k-1).toNat<j:=by omega
 rw[bM,bM,List.getElem?_take,if_pos hk]
theorem y0q{rows:List Row}{j:Nat}{n r:Int}(h0:1≤n)(h:n≤j):z0S (rows.take j) n r=z0S rows n r:=by
 unfold z0S y3A
 rw[z4A h0 h]
 have e:(z4G n r).map (z8m (rows.take j))=(z4G n r).map (z8m rows):=dX fun k hk=>by
  unfold z4G at hk
  rw[cJ,z7j] at hk
  unfold z8m
  rw[z4A (by omega) (by omega)]
 rw[e]
abbrev OfP:=Hp->Addr->List Addr->List Str->Int->List Row->Prop
structure U6(C:Addr)(ms:List Str)(Of:OfP):Prop where
 ins:∀{H p fp zs r rows},Of H p fp zs r rows->∃dx fs,H p=some (.ins C dx fs)/\∀m∈ms,fs.lookup m=none
 own:∀{H p fp zs r rows},Of H p fp zs r rows->∀b∈fp,∃o,H b=some o/\∀xs,o≠.tup xs
 keep:∀{H H' p fp gp zs r rows},Of H p fp zs r rows->z0x gp H H'->(∀b∈gp,b∉fp)->z54 H gp->Of H' p fp zs r rows
theorem U6.same{C:Addr}{ms:List Str}{Of:OfP}(O:U6 C ms Of){H H':Hp}{p:Addr}{fp:List Addr}{zs:List Str}{r:Int}{rows:List Row}(h:Of H p fp zs r rows)(s:A4 H H'):Of H' p fp zs r rows:=
 O.keep (gp:=[]) h (.of s) (fun _ q=>by cases q) fun _ q=>by cases q
theorem U6.L8{C:Addr}{ms:List Str}{Of:OfP}(O:U6 C ms Of){H:Hp}{p:Addr}{fp:List Addr}{zs:List Str}{r:Int}{rows:List Row}(h:Of H p fp zs r rows):z54 H fp:=fun b m xs e=>by
 obtain⟨o,e1,n⟩:=O.own h b m
 rw[e1] at e
 exact n xs (Option.some.inj e)
def z92(K:PySem.W.Frag)(H:Hp)(fp:List Addr)(u:V)(p:Str×Int):Prop:=∃a,u=.ref a/\(SqL K H a [.str p.1,.int p.2]\/SqT K H a [.str p.1,.int p.2])/\a∉fp
def y3m(K:PySem.W.Frag)(H:Hp)(fp:List Addr)(v:V)(pr:Row):Prop:=∃a us,v=.ref a/\SqP K H a us/\a∉fp/\Paired (z92 K H fp) us pr
def z16(zs:List Str)(pr:Row):Row:=zs.filterMap fun z=>pr.find? fun p=>decide (p.1=z)
structure GoodR(zs:List Str)(pr:Row):Prop where
 nd:(pr.map Prod.fst).Nodup
 sub:∀p∈pr,p.1∈zs
 val:∀p∈pr,0≤p.2/\p.2≤1000000
def y1d(K:PySem.W.Frag)(C:Addr)(Of:OfP):Sp:=fun vs H Q _=>∃(x dx pn:Addr) (zs:List Str) (r:Int),vs=[.ref x,.ref pn,.int r]/\H x=some (.ins C dx [])/\dx≠x/\H dx=some (.own x)/\HdN K H pn zs/\D9 zs/\0≤r/\r≤10/\
 ∀(fp:List Addr) (H':Hp),(∀b∈fp,b=x\/b=dx\/H b=none)->z0x [x] H H'->Of H' x fp zs r []->Q .non H'
def z9u(K:PySem.W.Frag)(Of:OfP):Sp:=fun vs H Q _=>∃(p:Addr) (v:V) (fp:List Addr) (zs:List Str) (r:Int) (rows:List Row) (pr:Row),vs=[.ref p,v]/\Of H p fp zs r rows/\y3m K H fp v pr/\GoodR zs pr/\pr.length≤12/\rows.length<60/\
 ∀(fp':List Addr) (H':Hp),(∀b∈fp',b∈fp\/H b=none)->z0x fp H H'->Of H' p fp' zs r (rows++[z16 zs pr])->Q (.int (rows.length+1)) H'
def z8t(Of:OfP):Sp:=fun vs H Q _=>∃(p:Addr) (fp:List Addr) (zs:List Str) (r:Int) (rows:List Row),vs=[.ref p]/\Of H p fp zs r rows/\∀H',A4 H H'->Q (.int rows.length) H'
def z5I(Of:OfP):Sp:=fun vs H Q _=>∃(p:Addr) (fp:List Addr) (zs:List Str) (r:Int) (rows:List Row) (n:Int),vs=[.ref p,.int n]/\Of H p fp zs r rows/\1≤n/\n≤rows.length/\
 ∀(v:V) (H':Hp),A4 H H'->A5 H' (z0S rows n r) v->Q v H'
theorem z38{z:Str}{zs:List Str}{pr:Row}:z16 (z::zs) pr=(match pr.find? fun p=>decide (p.1=z) with|some p=>p::z16 zs pr|none=>z16 zs pr):=by
 unfold z16
 rw[eZ]
 cases pr.find? fun p=>decide (p.1=z)<;>rfl
theorem z6C{p:Str×Int}{w:Row}:∀{zs:List Str},p.1∉zs->z16 zs (p::w)=z16 zs w
 | [],_=>rfl
 | y::ys,h=>by
  rw[bF,not_or] at h
  rw[z38,z38,dB,decide_eq_false h.1,z6C h.2]
theorem z3J:∀{zs:List Str}{w:Row},zs.Nodup->(w.map Prod.fst).Sublist zs->z16 zs w=w
 | [],w,_,h=>by
  have:w.map Prod.fst=[]:=List.sublist_nil.mp h
  rw[List.map_eq_nil_iff] at this
  rw[this]
  rfl
 | z::zs,w,nd,h=>by
  rw[dN] at nd
  generalize e:w.map Prod.fst=l at h
  cases h with
  | cons _ h=>
   subst e
   have no:w.find? (fun p=>decide (p.1=z))=none:=j9.mpr fun p hp=>by
    have:p.1∈zs:=h.subset (fZ hp)
    intro e
    exact nd.1 (of_decide_eq_true e ▸ this)
   rw[z38,no]
   exact z3J nd.2 h
  | cons_cons _ h=>
   cases w with
   | nil=>cases e
   | cons p w=>
    rw[cL] at e
    injection e with e1 e2
    subst e2
    rw[z38,dB,decide_eq_true e1,z6C (by rw[e1];exact nd.1),z3J nd.2 h]
def tsN(n:Int)(j:Nat):List Int:=(dnI n j).filter fun k=>decide (1≤k)
def tsP(ss:List (List Str))(k:Int):DV:=.tup [.int k,K2 (ss.getD (k-1).toNat [])]
def tsD(ss:List (List Str))(r:Int):DV:=.tup ((tsN ss.length r.toNat).map (tsP ss))
theorem y5Y(n:Int)(j:Nat):(tsN n j).length≤j:=by
 have h:=cI (fun k=>decide (1≤k)) (dnI n j)
 rw[z94] at h
 exact h
def y5g(K:PySem.W.Frag):Sp:=fun vs H Q _=>∃(p:Addr) (xs:List V) (ss:List (List Str)) (r:Int),vs=[.ref p,.int r]/\(SqL K H p xs\/SqT K H p xs)/\z08 H (ss.map K2) xs/\ss.length≤59/\(∀s∈ss,s.length≤12)/\0≤r/\r≤10/\
 ∀(v:V) (H':Hp),A4 H H'->A5 H' (tsD ss r) v->Q v H'
def z9R:Sp:=fun vs H Q _=>∃n r:Int,vs=[.int n,.int r]/\1≤n/\n≤60/\0≤r/\r≤10/\
 ∀(l:Addr) (H':Hp),A4 H H'->H' l=some (.tup (((upI 1 60).filter fun x=>decide (x≤n) && decide (n-x≤r)).map V.int))->Q (.ref l) H'
theorem y20{n r:Int}(h1:1≤n)(h2:n≤60)(h3:0≤r)(h4:r≤10) :
  R0 (if n-r > 1 then n-r else 1) (n+1-(if n-r > 1 then n-r else 1)).toNat=((upI 1 60).filter fun x=>decide (x≤n) && decide (n-x≤r)).map V.int:=by
 rw[y5O]
 refine congrArg (List.map V.int) (z24 (z18 _ _) ((z18 _ _).filter _) fun x=>?_)
 rw[cJ,z0U,z0U,bW,decide_eq_true_eq,decide_eq_true_eq]
 split<;>omega
theorem y1x(M:Bl mg)(F:Fun K "reached_by" "reached_by" z5n f fd):A7 P w K mg base CX0 1 f fd z56 z9R:=by
 have nd:=z6B.nd
 refine F.ok z6B (fun vs H Q E h=>?_) (fun cdv A outer s H vs Q E hr h=>?_)
 ·obtain⟨n,r,rfl,_⟩:=h
  rfl
 obtain⟨n,r,rfl,h1,h2,h3,h4,q⟩:=h
 refine⟨_,(z05 (z0i (z0t (z8h rfl) rfl M.tuple bL (z00 (z0t y3c rfl M.range PyProof.Rows.boot_range (z00 (z0d (z9y rfl) rfl M.max dQ (z00 z06 (z00 (z0q z1M (pv 0) (pv 1)) z02))) (z00 (z0q z1m (pv 0) z06) z02))) z02)))),?_⟩
 refine⟨_,rfl,_,rfl,_,_,rfl,rfl,_,_,rfl,_,rfl,_,_,rfl,rfl,_,_,rfl,fun p hp=>?_⟩
 refine⟨p,_,_,rfl,z03,⟨?_,?_,?_,?_⟩,?_,fun l hl=>?_⟩
 ·split<;>omega
 ·split<;>omega
 ·omega
 ·omega
 ·split<;>omega
 ·refine q l _ ((z01 hp _).trans (z01 hl _)) ?_
  rw[z03,y20 h1 h2 h3 h4]
theorem z7G(hi:Int)(j:Nat):(dnI hi j).Pairwise (· > ·):=by
 unfold dnI
 rw[dM]
 exact List.pairwise_lt_range.imp fun h=>by omega
theorem z7n{n:Int}{j:Nat}{x:Int}:x∈tsN n j↔1≤x/\n-j<x/\x≤n:=by
 unfold tsN
 rw[cJ,z7j,decide_eq_true_eq]
 omega
theorem y5Q(n:Int)(j:Nat):(tsN n j).reverse.Pairwise (· < ·):=by
 rw[hW]
 exact((z7G n j).filter _).imp fun h=>h
theorem y2v{n r:Int}(h0:0≤n)(h1:n≤59)(r0:0≤r)(r1:r≤10):((upI 1 60).filter fun x=>decide (x≤n+1) && decide (n+1-x≤r))=(tsN n r.toNat).reverse++[n+1]:=by
 refine z24 ((z18 _ _).filter _) (cW.mpr ⟨y5Q _ _,fE _ _,fun x hx y hy=>?_⟩) fun x=>?_
 ·rw[h9,z7n] at hx
  rw[bC] at hy
  omega
 ·rw[cJ,z0U,bW,decide_eq_true_eq,decide_eq_true_eq,bS,h9,z7n,bC]
  omega
theorem y6h(M:Bl mg)(F:Fun K "tail_for" "tail_for" z7Z f fd)(M9:Cal P w K mg base 1 "reached_by" z56 z9R):A7 P w K mg base CX0 2 f fd z87 (y5g K):=by
 have nd:=z8D.nd
 refine F.ok z8D (fun vs H Q E h=>?_) (fun cdv A outer s H vs Q E hr h=>?_)
 ·obtain⟨p,xs,ss,r,rfl,_⟩:=h
  rfl
 obtain⟨p,xs,ss,r,rfl,hS,tS,l60,l12,r0,r1,k⟩:=h
 refine⟨_,(z04 (z0s (i:=2) nd rfl (Or.inl rfl) (z0q z1m (z0d z0a rfl M.len bR (z00 (pv 0) z02)) z06)) (z04 (z0s (i:=3) nd rfl (Or.inl rfl) (z2I y57 (z0l M9 (rm hr) rfl (z00 (pv 2) (z00 (pv 1) z02))) z3E (z3I (y6T y5d z06)))) (z05 (z0i (z0t z0m rfl M.tuple bL (z00 (z1i ["earlier"] ["sets"] [0] rfl (z0w rfl (by decide +kernel) rfl (by decide +kernel) rfl rfl) (y5l rfl M.reversed (z00 (pv 3) z02)) (fun _ _ _ _ _=>(z0k (i:=0) (show((["earlier"]:List PySem.Str)++(["sets"]:List PySem.Str)).Nodup from by decide +kernel) rfl (Or.inl rfl))) (z0z (by decide)) z0g (fun _ _ _ _ _=>z1K) (fun _ _ _ _ _=>(z0V (z00 (pv 0) (z00 (z0t (z8i (K:=K) rfl) rfl M.tuple bL (z00 (z0D (r:=rIx K) y6D (pv 1) (z0q z1M (pv 0) z06) (fun _ _=>rfl)) z02)) z02))))) z02)))))),?_⟩
 have lx:xs.length=ss.length:=by rw[tS.length,bA]
 have lx':(xs.length:Int)=ss.length:=by omega
 refine⟨_,rfl,p,xs,rfl,hS,_,_,rfl,rfl,?_⟩
 refine⟨_,rfl,_,rfl,(xs.length:Int)+1,r,rfl,by omega,by omega,r0,r1,fun l H1 s1 e1=>?_⟩
 rw[lx',y2v (by omega) (by omega) r0 r1] at e1
 have eL:(((tsN ss.length r.toNat).reverse++[(ss.length:Int)+1]).map V.int).length=(tsN ss.length r.toNat).length+1:=by
  rw[bA,bJ,g0]
  rfl
 have sx:HT.sIx (((tsN ss.length r.toNat).reverse++[(ss.length:Int)+1]).map V.int).length (((tsN ss.length r.toNat).reverse++[(ss.length:Int)+1]).map V.int).length (some (-1))=(tsN ss.length r.toNat).length:=by
  rw[eL]
  show(if (-1:Int)<0 then (-1+(((tsN ss.length r.toNat).length+1:Nat):Int)).toNat else min (-1:Int).toNat ((tsN ss.length r.toNat).length+1))=_
  rw[if_pos (by decide)]
  omega
 have cut:K5 (((tsN ss.length r.toNat).reverse++[(ss.length:Int)+1]).map V.int) none (some (-1))=(tsN ss.length r.toNat).reverse.map V.int:=by
  unfold K5
  rw[sx]
  show List.take ((tsN ss.length r.toNat).length-0) (List.drop 0 _)=_
  rw[eU,gJ,bG,List.take_left' (by rw[bA,g0])]
 refine⟨_,rfl,-1,rfl,l,_,rfl,SqT.of e1,?_,fun a ha=>?_⟩
 ·rintro⟨_,z⟩
  rw[sx,eL] at z
  omega
 rw[cut]
 have s2:=s1.trans (z01 ha (.tup ((tsN ss.length r.toNat).reverse.map V.int)))
 have e2:upd H1 a (.tup ((tsN ss.length r.toNat).reverse.map V.int)) a=some (.tup ((tsN ss.length r.toNat).reverse.map V.int)):=z03
 generalize upd H1 a (.tup ((tsN ss.length r.toNat).reverse.map V.int))=H2 at s2 e2
 have le:=y5Y ss.length r.toNat
 have lr:((tsN ss.length r.toNat).reverse.map V.int).length=(tsN ss.length r.toNat).length:=by rw[bA,g0]
 refine⟨_,rfl,a,_,rfl,SqT.of e2,?_⟩
 refine y4P (fun i ys H'=>A4 H2 H'/\z08 H' (((tsN ss.length r.toNat).take i).map (tsP ss)) ys) ⟨A4.refl _,by rw[cQ];exact .nil⟩ (fun i ys H' hi hp=>?_) (fun i x ys H' hx hp=>?_) (fun ys H' hp=>?_)
 ·obtain⟨g,t⟩:=hp
  refine⟨SqT.of (g _ _ e2),z0f ?_⟩
  rw[t.length,bA,bI]
  omega
 ·obtain⟨g,t⟩:=hp
  rw[<- List.map_reverse,fU,bE] at hx
  obtain⟨m,hm,rfl⟩:=cG.mp hx
  have hb:=z7n.mp (bV hm)
  have hk:(m-1).toNat<ss.length:=by omega
  have t2:=z08.keep (s2.trans g) _ _ tS
  obtain⟨v,ev,tv⟩:=t2.get (m-1).toNat (K2 (ss.getD (m-1).toNat [])) (by
   rw[bE,bM,bD hk]
   rfl)
  have av:atI xs (m-1)=some v:=by
   have e:m-1=(((m-1).toNat:Nat):Int):=by omega
   rw[e]
   exact z0X ev
  obtain⟨b,us,rfl,eb,_,_⟩:=z0b tv
  refine⟨_,rfl,_,rfl,_,rfl,_,_,rfl,rfl,?_⟩
  have go:∀(z:A5 H' (K2 (ss.getD (m-1).toNat [])) (.ref b)),y5v K [.ref b] H' fun x H3=>[V.int m,x].length≤sizeLine/\∀q,H3 q=none->A4 H2 (upd H3 q (.tup [.int m,x]))/\z08 (upd H3 q (.tup [.int m,x])) (((tsN ss.length r.toNat).take (i+1)).map (tsP ss)) (ys++[.ref q]):=fun z=>
   ⟨b,us,rfl,.inr ⟨SqT.of eb,by show 2≤sizeLine;decide,fun q hq=>⟨g.trans (z01 hq _),by
    rw[dW,hm,bG]
    exact z08.snoc (z08.keep (z01 hq _) _ _ t) (z0u z03 (by show 2≤1000000;decide) (.cons (z0E _) (.cons (A5.keep (z01 hq _) _ _ z) .nil)))⟩⟩⟩
  rcases hS with hS|hS
  ·exact .inl ⟨p,xs,_,.ref b,rfl,rfl,(s2.trans g).seq hS,av,go tv⟩
  ·exact .inr (.inl ⟨p,xs,_,.ref b,rfl,rfl,z7a (s2.trans g) hS,av,go tv⟩)
 ·obtain⟨g,t⟩:=hp
  rw[lr,bP] at t
  intro D hD
  refine⟨D,ys,rfl,.inl ⟨SqL.of z03,fun q hq=>k _ _ (s2.trans (g.trans ((z01 hD _).trans (z01 hq _)))) (z0u z03 ?_ (z08.keep ((z01 hD _).trans (z01 hq _)) _ _ t))⟩⟩
  rw[bA]
  omega
def kvR(p:Str×Int):Key×V:=(Sum.inr p.1,.int p.2)
def y5D(K:PySem.W.Frag):Sp:=fun vs H Q _=>∃(p:Addr) (zs:List Str) (z:Str),vs=[.ref p,.str z]/\SqN K H p zs/\z∈zs/\Q .non H
theorem z9V(x:Str)(ns:List Str):inV (.str x) (ns.map V.str)=decide (x∈ns):=by
 unfold inV
 rw[cX,gL,h8,decide_eq_true_eq]
 constructor
 ·rintro⟨y,hy,e⟩
  have:y=x:=by simpa [eqV] using e
  exact this ▸ hy
 ·intro h
  exact⟨x,h,by simp[eqV]⟩
theorem y76(M:Bl mg)(F:Fun K "refuse_unknown_name" "refuse_unknown_name" z1H f fd):A7 P w K mg base CX0 1 f fd z1f (y5D K):=by
 have nd:=z2q.nd
 refine F.ok z2q (fun vs H Q E h=>?_) (fun cdv A outer s H vs Q E hr h=>?_)
 ·obtain⟨p,zs,z,rfl,_⟩:=h
  rfl
 obtain⟨p,zs,z,rfl,hp,hz,k⟩:=h
 refine⟨_,(z05 (z0G (z09 z1T (pv 1) (pv 0) (by with_unfolding_all rfl)) (z05 z1x) z0n)),?_⟩
 refine⟨_,rfl,_,rfl,p,_,rfl,hp,rfl,z1O zs,_,rfl,?_⟩
 rw[if_pos rfl,z9V,decide_eq_true hz]
 exact B3 (fun c=>absurd c (by decide)) fun _=>k
def y16:Sp:=fun vs H Q _=>∃v:Int,vs=[.int v]/\0≤v/\v≤1000000/\Q .non H
theorem y3I(M:Bl mg)(F:Fun K "refuse_bad_value" "refuse_bad_value" z2i f fd):A7 P w K mg base CX0 1 f fd z2g y16:=by
 have nd:=z33.nd
 refine F.ok z33 (fun vs H Q E h=>?_) (fun cdv A outer s H vs Q E hr h=>?_)
 ·obtain⟨r,rfl,_⟩:=h
  rfl
 obtain⟨r,rfl,r0,r1,k⟩:=h
 refine⟨_,(z05 (z0G (PW.pt (z3l (z09 z8l (pv 0) z06 (z0o _)) (z25 (z09 z2P (pv 0) (z2N rfl M.MOST_VALUE) (z0o _))))) (z05 z1x) z0n)),?_⟩
 refine⟨_,rfl,_,_,rfl,rfl,_,rfl,B3 (fun q=>absurd (z0M q) (by omega)) fun _=>?_⟩
 exact⟨_,rfl,_,_,rfl,rfl,_,rfl,B3 (fun q=>absurd (z0M q) (by omega)) fun _=>k⟩
def z2C(K:PySem.W.Frag)(H:Hp)(u:V)(p:Str×Int):Prop:=∃a,u=.ref a/\(SqL K H a [.str p.1,.int p.2]\/SqT K H a [.str p.1,.int p.2])
theorem z2C.keep{K:PySem.W.Frag}{H H':Hp}(s:A4 H H'):∀{us:List V}{pr:Row},Paired (z2C K H) us pr->Paired (z2C K H') us pr
 | _,_,.nil=>.nil
 | _,_,.cons ⟨a,e,h⟩ t=>.cons ⟨a,e,h.imp (fun q=>s.seq q) fun q=>z7a s q⟩ (z2C.keep s t)
theorem z2C.at{K:PySem.W.Frag}{H:Hp}:∀{us:List V}{pr:Row},Paired (z2C K H) us pr->∀(i:Nat) (x:V),us[i]? = some x->∃p,pr[i]? = some p/\z2C K H x p
 | _,_,.nil,i,x,e=>by simp at e
 | _,_,.cons r t,0,x,e=>by
  simp at e
  subst e
  exact⟨_,rfl,r⟩
 | _,_,.cons r t,i+1,x,e=>by
  obtain⟨y,h1,h2⟩:=z2C.at t i x (by simpa using e)
  exact⟨y,by simpa using h1,h2⟩
theorem z2C.pairs{K:PySem.W.Frag}{H:Hp}:∀{us:List V}{pr:Row},Paired (z2C K H) us pr->Paired (y3S K H) us (pr.map kvR)
 | _,_,.nil=>.nil
 | _,_,.cons ⟨a,e,h⟩ t=>.cons ⟨a,e,h⟩ (z2C.pairs t)
theorem z2C.of{K:PySem.W.Frag}{H:Hp}{fp:List Addr}:∀{us:List V}{pr:Row},Paired (z92 K H fp) us pr->Paired (z2C K H) us pr
 | _,_,.nil=>.nil
 | _,_,.cons ⟨a,e,h,_⟩ t=>.cons ⟨a,e,h⟩ (z2C.of t)
theorem SqP.or{K:PySem.W.Frag}{H:Hp}{a:Addr}{us:List V}(h:SqP K H a us):SqL K H a us\/SqT K H a us:=h.imp id SqT.of
theorem SqP.keep{K:PySem.W.Frag}{H H':Hp}{a:Addr}{us:List V}(s:A4 H H')(h:SqP K H a us):SqP K H' a us:=h.imp (fun q=>s.seq q) fun q=>s _ _ q
def z9O(K:PySem.W.Frag):Sp:=fun vs H Q _=>∃(pn a:Addr) (zs:List Str) (us:List V) (pr:Row),vs=[.ref pn,.ref a]/\SqN K H pn zs/\SqP K H a us/\Paired (z2C K H) us pr/\GoodR zs pr/\pr.length≤12/\∀H',A4 H H'->Q .non H'
theorem y1M(M:Bl mg)(F:Fun K "refuse_bad_rows" "refuse_bad_rows" z2D f fd)(B4:Cal P w K mg base 1 "refuse_unknown_name" z1f (y5D K))
  (E7:Cal P w K mg base 1 "refuse_bad_value" z2g y16):A7 P w K mg base CX0 2 f fd z2x (z9O K):=by
 have nd:=z3u.nd
 refine F.ok z3u (fun vs H Q E h=>?_) (fun cdv A outer s H vs Q E hr h=>?_)
 ·obtain⟨pn,a,zs,us,pr,rfl,_⟩:=h
  rfl
 obtain⟨pn,a,zs,us,pr,rfl,hn,ha,hp,g,l12,k⟩:=h
 refine⟨_,(z04 (z6j (i:=2) ["name","value"] [] [] rfl nd rfl (Or.inl rfl) (z0w rfl (by decide +kernel) rfl (by decide +kernel) rfl rfl) (y2W (pv 1)) (fun _ _ _ _ _=>(y34 (K:=K) (n:=2) rfl rfl (z1g (z0k (i:=0) (show((["name","value"]:List PySem.Str)++([]:List PySem.Str)).Nodup from by decide +kernel) rfl (Or.inl rfl)) (z1g (z0k (i:=1) (show((["name","value"]:List PySem.Str)++([]:List PySem.Str)).Nodup from by decide +kernel) rfl (Or.inl rfl)) z5c)))) (y5S (z26 (z0z (by decide)) z0g (z26 (z0z (by decide)) z0g z7y z1h) (z0O z0g z1h))) (y52 (z0O z0g (z0O z0g z1h))) (fun _ _ _ _ _=>z1K) (fun _ _ _ _ _=>(pv 0))) (z04 (z15 bY rfl (z1I (pv 2)) (z0k (i:=3) nd rfl (Or.inl rfl)) (z05 (z0y (z0l B4 (rm hr) rfl (z00 (pv 0) (z00 (pv 3) z02)))))) (z04 (z0G (z09 z6Y (z0d z5B rfl M.len bR (z00 (z0t (z4I rfl) rfl M.set PyProof.Rows.boot_set (z00 (pv 2) z02)) z02)) (z0d z0a rfl M.len bR (z00 (pv 2) z02)) (z0o _)) (z05 z1x) z0n) (z05 (z15 bY rfl (y2W (pv 1)) (y34 (K:=K) (n:=2) rfl rfl (z1g (z0k (i:=3) nd rfl (Or.inl rfl)) (z1g (z0k (i:=4) nd rfl (Or.inl rfl)) z5c))) (z05 (z0y (z0l E7 (rm hr) rfl (z00 (pv 4) z02))))))))),?_⟩
 obtain⟨t,ht⟩:=SqS.of (SqP.or ha)
 have lu:us.length=pr.length:=hp.length
 refine⟨_,rfl,a,t,rfl,⟨_,ht⟩,?_⟩
 refine y1p (xs:=us) (fun i ys H'=>H'=H/\ys=((pr.take i).map Prod.fst).map V.str) ⟨rfl,rfl⟩ (fun i ys H' hi hq=>?_) (fun i x ys H' hx hq=>?_) (fun ys H' hq=>?_)
 ·obtain⟨rfl,rfl⟩:=hq
  refine⟨ht,z0f ?_⟩
  rw[bA,bA,bI]
  omega
 ·obtain⟨rfl,rfl⟩:=hq
  obtain⟨p,ep,b,rfl,hb⟩:=z2C.at hp i x hx
  refine⟨b,_,rfl,hb,rfl,_,_,rfl,_,_,rfl,rfl,?_⟩
  refine⟨_,rfl,rfl,?_⟩
  rw[z0j ep,bG,bG]
  rfl
 obtain⟨rfl,rfl⟩:=hq
 rw[lu,bP]
 intro D hD
 have s1:=z01 hD (.lst ((pr.map Prod.fst).map V.str))
 have e1:upd H' D (.lst ((pr.map Prod.fst).map V.str)) D=some (.lst ((pr.map Prod.fst).map V.str)):=z03
 generalize upd H' D (.lst ((pr.map Prod.fst).map V.str))=H1 at s1 e1
 have hn1:=SqN.keep s1 hn
 have ht1:=SqS.keep s1 ht
 have hp1:=z2C.keep s1 hp
 refine⟨_,rfl,D,rfl,⟨_,SqL.of e1⟩,z22 (K:=K) (a:=D) (xs:=(pr.map Prod.fst).map V.str) (fun i σ H2=>∃o:Option V,H2=H1/\σ=[some (.ref pn),some (.ref a),some (.ref D),o,none]) ⟨none,rfl,rfl⟩ (fun i σ H2 _ ⟨_,e,_⟩=>e ▸ SqL.of e1) (fun i x σ H2 hx hq=>?_) (fun σ H2 hq=>?_)⟩
 ·obtain⟨o,rfl,rfl⟩:=hq
  rw[bE] at hx
  obtain⟨z,ez,rfl⟩:=cG.mp hx
  have hz:z∈zs:=by
   obtain⟨p,hpm,rfl⟩:=cK.mp (bV ez)
   exact g.sub p hpm
  exact⟨_,rfl,_,rfl,pn,zs,z,rfl,hn1,hz,_,rfl,rfl⟩
 obtain⟨o,rfl,rfl⟩:=hq
 have lf:(pr.map Prod.fst).length=pr.length:=bA _
 refine⟨_,rfl,D,pr.map Prod.fst,rfl,.inl (SqL.of e1),by omega,fun l hl=>⟨l,pr.map Prod.fst,rfl,z03,by omega,_,rfl,D,_,rfl,.inl (SqL.of (z01 hl _ _ _ e1)),rfl,_,rfl,?_⟩⟩
 refine y74 (by rw[y2e g.nd,bA (f:=V.str)]) ?_
 have s2:=s1.trans (z01 hl (P5 P w l (pr.map Prod.fst)))
 have ht2:=SqS.keep (z01 hl (P5 P w l (pr.map Prod.fst))) ht1
 have hp2:=z2C.keep (z01 hl (P5 P w l (pr.map Prod.fst))) hp1
 refine⟨_,rfl,a,t,rfl,⟨_,ht2⟩,?_⟩
 refine y5K (xs:=us) (fun i σ H3=>∃o1 o2:Option V,H3=upd H2 l (P5 P w l (pr.map Prod.fst))/\σ=[some (.ref pn),some (.ref a),some (.ref D),o1,o2]) ⟨_,_,rfl,rfl⟩ (fun i σ H3 _ ⟨_,_,e,_⟩=>e ▸ ht2) (fun i x σ H3 hx hq=>?_) (fun σ H3 hq=>?_)
 ·obtain⟨o1,o2,rfl,rfl⟩:=hq
  obtain⟨p,ep,b,rfl,hb⟩:=z2C.at hp2 i x hx
  have hv:=g.val p (bV ep)
  refine⟨b,_,rfl,hb,rfl,_,_,rfl,_,_,rfl,rfl,?_⟩
  exact⟨_,rfl,p.2,rfl,hv.1,hv.2,_,_,rfl,rfl⟩
 ·obtain⟨o1,o2,rfl,rfl⟩:=hq
  exact k _ s2
def z9Z(K:PySem.W.Frag):Sp:=fun vs H Q _=>∃(pn a:Addr) (zs:List Str) (us:List V) (pr:Row),vs=[.ref pn,.ref a]/\SqN K H pn zs/\zs.length≤12/\SqP K H a us/\Paired (z2C K H) us pr/\(pr.map Prod.fst).Nodup/\pr.length≤12/\∀(v:V) (H':Hp),A4 H H'->A5 H' (L9 (z16 zs pr)) v->Q v H'
theorem z8V{z:Str}:∀{pr:Row},J1 (pr.map kvR) (Sum.inr z:Key)=(pr.find? fun p=>decide (p.1=z)).map fun p=>V.int p.2
 | []=>rfl
 | p::w=>by
  rw[cL,dB]
  by_cases e:p.1=z
  ·rw[z5U (show(kvR p).1=Sum.inr z by unfold kvR;rw[e]),decide_eq_true e]
   rfl
  ·rw[z5t (show ¬(kvR p).1=Sum.inr z from fun q=>e (Sum.inr.inj q)),decide_eq_false e]
   exact z8V
theorem z9S(zs:List Str)(z:Str)(pr:Row):z16 (zs++[z]) pr=z16 zs pr++(match pr.find? fun p=>decide (p.1=z) with|some p=>[p]|none=>[]):=by
 unfold z16
 rw[List.filterMap_append,eZ]
 cases pr.find? fun p=>decide (p.1=z)<;>rfl
theorem z57(zs:List Str)(pr:Row):(z16 zs pr).length≤zs.length:=List.length_filterMap_le _ _
theorem y1Q(M:Bl mg)(F:Fun K "rows_in_order" "rows_in_order" z3d f fd):A7 P w K mg base CX0 1 f fd z3h (z9Z K):=by
 have nd:=z4p.nd
 refine F.ok z4p (fun vs H Q E h=>?_) (fun cdv A outer s H vs Q E hr h=>?_)
 ·obtain⟨pn,a,zs,us,pr,rfl,_⟩:=h
  rfl
 obtain⟨pn,a,zs,us,pr,rfl,hn,z12,ha,hp,ndr,l12,k⟩:=h
 have hu:=y06 hr
 refine⟨_,(z04 (z0s (i:=2) nd rfl (Or.inr rfl) (z0t (z4n (K:=K) rfl rfl) rfl M.dict gY (z00 (pv 1) z02))) (z05 (z0i (z0t z0m rfl M.tuple bL (z00 (z1i ["name"] ["values"] [2] rfl (z0w rfl (by decide +kernel) rfl (by decide +kernel) rfl rfl) (y2W (pv 0)) (fun _ _ _ _ _=>(z0k (i:=0) (show((["name"]:List PySem.Str)++(["values"]:List PySem.Str)).Nodup from by decide +kernel) rfl (Or.inl rfl))) (z0z (by decide)) z0g (fun _ _ _ _ _=>(z3c (z5J (y2y hu (pv 0) (pv 1))))) (fun _ _ _ _ _=>(z0V (z00 (pv 0) (z00 (z6m hu (pv 1) (pv 0) (fun _ _=>rfl)) z02))))) z02))))),?_⟩
 have lu:us.length=pr.length:=hp.length
 refine⟨_,rfl,a,us,pr.map kvR,rfl,ha,z2C.pairs hp,by omega,?_,fun d hd=>?_⟩
 ·have e:(pr.map kvR).map (·.1)=(pr.map Prod.fst).map Sum.inr:=by rw[dL,dL];rfl
  rw[e,d5,dM]
  exact(d5.mp ndr).imp fun h e=>h (Sum.inr.inj e)
 have s1:=z01 hd (.dK (pr.map kvR))
 have e1:upd H d (.dK (pr.map kvR)) d=some (.dK (pr.map kvR)):=z03
 generalize upd H d (.dK (pr.map kvR))=H1 at s1 e1
 obtain⟨t,ht⟩:=SqS.of (SqN.keep s1 hn)
 refine⟨_,rfl,pn,t,rfl,⟨_,ht⟩,?_⟩
 refine y1p (xs:=zs.map V.str) (fun i ys H'=>A4 H1 H'/\z08 H' ((z16 (zs.take i) pr).map z9m) ys) ⟨A4.refl _,by rw[cQ];exact .nil⟩ (fun i ys H' hi hq=>?_) (fun i x ys H' hx hq=>?_) (fun ys H' hq=>?_)
 ·obtain⟨g,t'⟩:=hq
  refine⟨SqS.keep g ht,z0f ?_⟩
  have:=z57 (zs.take i) pr
  rw[bI] at this
  rw[t'.length,bA]
  omega
 ·obtain⟨g,t'⟩:=hq
  rw[bE] at hx
  obtain⟨z,ez,rfl⟩:=cG.mp hx
  refine⟨_,rfl,_,rfl,d,_,rfl,L6.k (k:=Sum.inr z) (g _ _ e1),_,rfl,?_⟩
  rw[z8V,z0j ez,z9S]
  cases ev:pr.find? fun p=>decide (p.1=z) with
  | none=>
   refine B5 ⟨g,?_⟩
   rw[cY]
   exact t'
  | some p=>
   have ep:p.1=z:=by
    have:=List.find?_some ev
    exact of_decide_eq_true this
   refine E9 ⟨_,rfl,_,rfl,_,rfl,d,_,rfl,(show L6 _ d (kV (Sum.inr z)) (some (V.int p.2)) by rw[<- show J1 (pr.map kvR) (Sum.inr z:Key)=some (V.int p.2) by rw[z8V,ev];rfl];exact L6.k (g _ _ e1)),(by show 2≤sizeLine;decide),fun q hq=>⟨g.trans (z01 hq _),?_⟩⟩
   rw[bG]
   refine z08.snoc (z08.keep (z01 hq _) _ _ t') ?_
   rw[<- ep]
   exact z0u z03 (by show 2≤1000000;decide) (.cons (z2p _) (.cons (z0E _) .nil))
 ·obtain⟨g,t'⟩:=hq
  rw[bA,bP] at t'
  intro D hD
  refine⟨D,ys,rfl,.inl ⟨SqL.of z03,fun q hq=>k _ _ (s1.trans (g.trans ((z01 hD _).trans (z01 hq _)))) (z0u z03 ?_ (z08.keep ((z01 hD _).trans (z01 hq _)) _ _ t'))⟩⟩
  have:=z57 zs pr
  rw[bA]
  omega
def y0N:Sp:=fun vs H Q _=>∃(a:Addr) (xs:List V) (w:Row),vs=[.ref a]/\H a=some (.tup xs)/\z08 H (w.map z9m) xs/\w.length≤12/\∀(l:Addr) (H':Hp),A4 H H'->H' l=some (.tup ((z0A w).map V.str))->Q (.ref l) H'
theorem y4f(M:Bl mg)(F:Fun K "names_of_rows" "names_of_rows" z3n f fd):A7 P w K mg base CX0 1 f fd z2m y0N:=by
 have nd:=z4d.nd
 refine F.ok z4d (fun vs H Q E h=>?_) (fun cdv A outer s H vs Q E hr h=>?_)
 ·obtain⟨a,xs,w,rfl,_⟩:=h
  rfl
 obtain⟨a,xs,w,rfl,ha,tw,l12,k⟩:=h
 refine⟨_,(z05 (z0i (z0t z0m rfl M.tuple bL (z00 (z1i ["name","value"] [] [] rfl (z0w rfl (by decide +kernel) rfl (by decide +kernel) rfl rfl) (z2r (pv 0)) (fun _ _ _ _ _=>(z9i (K:=K) (n:=2) rfl rfl (z1g (z0k (i:=0) (show((["name","value"]:List PySem.Str)++([]:List PySem.Str)).Nodup from by decide +kernel) rfl (Or.inl rfl)) (z1g (z0k (i:=1) (show((["name","value"]:List PySem.Str)++([]:List PySem.Str)).Nodup from by decide +kernel) rfl (Or.inl rfl)) z5c)))) (z9h (z26 (z0z (by decide)) z0g (z26 (z0z (by decide)) z0g z7y z1h) (z0O z0g z1h))) (z78 (z0O z0g (z0O z0g z1h))) (fun _ _ _ _ _=>z1K) (fun _ _ _ _ _=>(pv 0))) z02)))),?_⟩
 have lx:xs.length=w.length:=by rw[tw.length,bA]
 refine⟨_,rfl,a,rfl,⟨_,SqT.of ha⟩,?_⟩
 refine z1u (xs:=xs) (fun i ys H'=>H'=H/\ys=(z0A (w.take i)).map V.str) ⟨rfl,rfl⟩ (fun i ys H' hi hq=>?_) (fun i x ys H' hx hq=>?_) (fun ys H' hq=>?_)
 ·obtain⟨rfl,rfl⟩:=hq
  refine⟨SqT.of ha,z0f ?_⟩
  unfold z0A
  rw[bA,bA,bI]
  omega
 ·obtain⟨rfl,rfl⟩:=hq
  obtain⟨p,b,ep,rfl,hb⟩:=z2j tw i x hx
  refine⟨b,_,rfl,SqT.of hb,rfl,_,_,rfl,_,_,rfl,rfl,?_⟩
  refine⟨_,rfl,rfl,?_⟩
  unfold z0A
  rw[z0j ep,bG,bG]
  rfl
 ·obtain⟨rfl,rfl⟩:=hq
  rw[lx,bP]
  intro D hD
  exact⟨D,_,rfl,.inl ⟨SqL.of z03,fun q hq=>k q _ ((z01 hD _).trans (z01 hq _)) z03⟩⟩
def OfD(K:PySem.W.Frag)(C:Addr):OfP:=fun H p fp zs r rows=>∃(dx pn pl:Addr) (fs:List (Str×V)) (xs:List V),fp=[p,dx,pl]/\H p=some (.ins C dx fs)/\H dx=some (.own p)/\H pn=some (.tup (zs.map V.str))/\H pl=some (.lst xs)/\
 fs.lookup ("names":Str)=some (V.ref pn)/\fs.lookup ("reach":Str)=some (V.int r)/\fs.lookup ("written":Str)=some (V.ref pl)/\(∀m∈(["refuse_writing","write","latest","issue"]:List Str),fs.lookup m=none)/\
 z08 H ((upI 1 rows.length).map fun n=>z0S rows n r) xs/\rows.length≤60/\(∀w∈rows,w.length≤12)/\D9 zs/\0≤r/\r≤10
theorem O7{K:PySem.W.Frag}{C:Addr}:U6 C ["write","latest","issue"] (OfD K C):=by
 refine⟨fun h=>?_,fun h b hb=>?_,fun h s out nt=>?_⟩
 ·obtain⟨dx,pn,pl,fs,xs,e,h1,h2,h3,h4,l1,l2,l3,lm,_⟩:=h
  refine⟨dx,fs,h1,fun m hm=>lm m ?_⟩
  simp only[bF,dO,or_false] at hm ⊢
  rcases hm with h|h|h<;>simp[h]
 ·obtain⟨dx,pn,pl,fs,xs,rfl,h1,h2,h3,h4,_⟩:=h
  rcases bF.mp hb with rfl|hb
  ·exact⟨_,h1,fun xs z=>by cases z⟩
  rcases bF.mp hb with rfl|hb
  ·exact⟨_,h2,fun xs z=>by cases z⟩
  rw[bC.mp hb]
  exact⟨_,h4,fun xs z=>by cases z⟩
 ·obtain⟨dx,pn,pl,fs,xs,rfl,h1,h2,h3,h4,l1,l2,l3,lm,tl,g⟩:=h
  exact⟨dx,pn,pl,fs,xs,rfl,s _ _ h1 (fun m=>out _ m (by simp)),s _ _ h2 (fun m=>out _ m (by simp)),s _ _ h3 (fun m=>nt _ m _ h3),s _ _ h4 (fun m=>out _ m (by simp)),l1,l2,l3,lm,z08.but s nt _ _ tl,g⟩
theorem y3E{A1:Addr}(M:Bl mg)(T:J3 K mg A1)(F:Fun K "__init__" "Office.__init__" z2A f fd)(B9:Cal P w K mg base 2 "bulletin_names" z21 (z6i K)) :
  A7 P w K mg base CX0 3 f fd z2y (y1d K A1 (OfD K A1)):=by
 have nd:=z3t.nd
 refine F.ok z3t (fun vs H Q E h=>?_) (fun cdv A outer s H vs Q E hr h=>?_)
 ·obtain⟨x,dx,pn,zs,r,rfl,_⟩:=h
  rfl
 obtain⟨x,dx,pn,zs,r,rfl,hx,ne,hdx,hn,g,r0,r1,k⟩:=h
 refine⟨_,(z04 (z5y (pv 0) (z0l B9 (rm hr) rfl (z00 (pv 1) (z00 (pv 2) z02))) rfl) (z04 (z5y (pv 0) (pv 2) rfl) (z05 (z5y (pv 0) (z1W z02) rfl)))),?_⟩
 refine⟨_,rfl,_,rfl,pn,zs,r,rfl,hn,g,r0,r1,fun l H1 s1 e1=>?_⟩
 refine⟨_,rfl,x,A1,dx,[],rfl,s1 _ _ hx,T.cl,T.n_names,by decide,?_⟩
 have z1:=z1C "names" (.ref l) []
 have z2:=z1C "reach" (.int r) (F9 "names" (.ref l) [])
 have z0:([]:List (Str×V)).length=0:=rfl
 refine⟨_,rfl,_,rfl,x,A1,dx,_,rfl,z03,T.cl,T.n_reach,(by omega),?_⟩
 rw[z7w]
 refine⟨(by show 0≤sizeLine;decide),fun pd hd=>?_⟩
 have nx:x≠pd:=z0r z03 hd
 have ndd:dx≠pd:=z0r (show upd H1 x _ dx=some _ by rw[z0h ne];exact s1 _ _ hdx) hd
 have nl:l≠x:=z5k e1 (s1 _ _ hx) (fun z=>by cases z)
 have nlp:l≠pd:=z0r (show upd H1 x _ l=some _ by rw[z0h nl];exact e1) hd
 have dfr:H1 pd=none:=by rw[z0h (dG nx)] at hd;exact hd
 refine⟨_,rfl,x,A1,dx,_,rfl,(by rw[z0h nx,z03]),T.cl,T.n_written,(by omega),?_⟩
 refine k [x,dx,pd] _ (fun b hb=>?_) (fun b o e nb=>?_) ⟨dx,l,pd,_,[],rfl,z03,?_,?_,?_,?_,?_,?_,?_,.nil,by decide,fun _ q=>(nomatch q),g,r0,r1⟩
 ·simp only[bF,dO,or_false] at hb
  rcases hb with rfl|rfl|rfl
  ·exact .inl rfl
  ·exact .inr (.inl rfl)
  ·exact .inr (.inr (s1.free dfr))
 ·rw[bC] at nb
  rw[z0h nb,z0h (z0r e (s1.free dfr)),z0h nb]
  exact s1 _ _ e
 ·rw[z0h ne,z0h ndd,z0h ne]
  exact s1 _ _ hdx
 ·rw[z0h nl,z0h nlp,z0h nl]
  exact e1
 ·rw[z0h (dG nx),z03]
 ·rw[z0p,if_neg (by decide +kernel),z0p,if_neg (by decide +kernel),z0p,if_pos rfl]
 ·rw[z0p,if_neg (by decide +kernel),z0p,if_pos rfl]
 ·rw[z0p,if_pos rfl]
 ·intro m hm
  simp only[bF,dO,or_false] at hm
  rcases hm with rfl|rfl|rfl|rfl<;>rw[z0p,if_neg (by decide +kernel),z0p,if_neg (by decide +kernel),z0p,if_neg (by decide +kernel)]<;>rfl
theorem y0I{A1:Addr}(M:Bl mg)(T:J3 K mg A1)(F:Fun K "latest" "Office.latest" z3m f fd):A7 P w K mg base CX0 1 f fd z3k (z8t (OfD K A1)):=by
 have nd:=z44.nd
 refine F.ok z44 (fun vs H Q E h=>?_) (fun cdv A outer s H vs Q E hr h=>?_)
 ·obtain⟨p,fp,zs,r,rows,rfl,_⟩:=h
  rfl
 obtain⟨p,fp,zs,r,rows,rfl,of,k⟩:=h
 refine⟨_,(z05 (z0i (z0d z0a rfl M.len bR (z00 (z0I (pv 0) rfl) z02)))),?_⟩
 obtain⟨dx,pn,pl,fs,xs,rfl,h1,h2,h3,h4,l1,l2,l3,lm,tl,r60,w12,g,r0,r1⟩:=of
 have lx:xs.length=rows.length:=by rw[tl.length,bA,z0Q]
 refine⟨_,rfl,p,A1,dx,fs,_,rfl,h1,T.cl,T.n_written,l3,pl,xs,rfl,.inl (SqL.of h4),?_⟩
 rw[lx]
 exact k H (A4.refl _)
theorem y1X{A1:Addr}(M:Bl mg)(T:J3 K mg A1)(F:Fun K "issue" "Office.issue" z3O f fd):A7 P w K mg base CX0 1 f fd z20 (z5I (OfD K A1)):=by
 have nd:=z4J.nd
 refine F.ok z4J (fun vs H Q E h=>?_) (fun cdv A outer s H vs Q E hr h=>?_)
 ·obtain⟨p,fp,zs,r,rows,n,rfl,_⟩:=h
  rfl
 obtain⟨p,fp,zs,r,rows,n,rfl,of,n1,n2,k⟩:=h
 refine⟨_,(z04 (z0G (PW.pt (z3l (z09 z8l (pv 1) z06 (z0o _)) (z25 (z09 z2P (pv 1) (z0d z0a rfl M.len bR (z00 (z0I (pv 0) rfl) z02)) (z0o _))))) (z05 z1x) z0n) (z05 (z0i (z0D z0Z (z0I (pv 0) rfl) (z0q z1M (pv 1) z06) (fun _ _=>rfl))))),?_⟩
 obtain⟨dx,pn,pl,fs,xs,rfl,h1,h2,h3,h4,l1,l2,l3,lm,tl,r60,w12,g,r0,r1⟩:=of
 have lx:xs.length=rows.length:=by rw[tl.length,bA,z0Q]
 refine⟨_,rfl,_,_,rfl,rfl,_,rfl,B3 (fun q=>absurd (z0M q) (by omega)) fun _=>?_⟩
 refine⟨_,rfl,_,rfl,p,A1,dx,fs,_,rfl,h1,T.cl,T.n_written,l3,pl,xs,rfl,.inl (SqL.of h4),_,_,rfl,rfl,_,rfl,B3 (fun q=>absurd (z0M q) (by omega)) fun _=>?_⟩
 have hk:(n-1).toNat<rows.length:=by omega
 obtain⟨v,ev,tv⟩:=tl.get (n-1).toNat (z0S rows n r) (by
  unfold upI
  rw[bE,bE,dY hk]
  show some (z0S rows (1+((n-1).toNat:Int)) r)=_
  rw[show(1:Int)+((n-1).toNat:Int)=n by omega])
 have av:atI xs (n-1)=some v:=by
  rw[show n-1=(((n-1).toNat:Nat):Int) by omega]
  exact z0X ev
 exact⟨_,rfl,p,A1,dx,fs,_,rfl,h1,T.cl,T.n_written,l3,_,rfl,_,_,rfl,rfl,pl,xs,_,v,rfl,rfl,SqL.of h4,av,k v H (A4.refl _) tv⟩
def z7Y(K:PySem.W.Frag)(Of:OfP):Sp:=fun vs H Q _=>∃(p a:Addr) (fp:List Addr) (zs:List Str) (r:Int) (rows:List Row) (us:List V) (pr:Row),vs=[.ref p,.ref a]/\Of H p fp zs r rows/\SqP K H a us/\Paired (z2C K H) us pr/\GoodR zs pr/\pr.length≤12/\rows.length<60/\∀H',A4 H H'->Q .non H'
theorem y1y{A1:Addr}(M:Bl mg)(T:J3 K mg A1)(F:Fun K "refuse_writing" "Office.refuse_writing" z1r f fd)(F4:Cal P w K mg base 2 "refuse_bad_rows" z2x (z9O K)) :
  A7 P w K mg base CX0 3 f fd z13 (z7Y K (OfD K A1)):=by
 have nd:=z1Z.nd
 refine F.ok z1Z (fun vs H Q E h=>?_) (fun cdv A outer s H vs Q E hr h=>?_)
 ·obtain⟨p,a,fp,zs,r,rows,us,pr,rfl,_⟩:=h
  rfl
 obtain⟨p,a,fp,zs,r,rows,us,pr,rfl,of,ha,hp,g',l12,l60,k⟩:=h
 refine⟨_,(z04 (z0G (z09 y5I (z0d z0a rfl M.len bR (z00 (z0I (pv 0) rfl) z02)) (z2N rfl M.MOST_NUMBERS) (z0o _)) (z05 z1x) z0n) (z05 (z0y (z0l F4 (rm hr) rfl (z00 (z0I (pv 0) rfl) (z00 (pv 1) z02)))))),?_⟩
 obtain⟨dx,pn,pl,fs,xs,rfl,h1,h2,h3,h4,l1,l2,l3,lm,tl,r60,w12,g,r0,r1⟩:=of
 have lx:xs.length=rows.length:=by rw[tl.length,bA,z0Q]
 refine⟨_,rfl,p,A1,dx,fs,_,rfl,h1,T.cl,T.n_written,l3,pl,xs,rfl,.inl (SqL.of h4),_,_,rfl,rfl,_,rfl,B3 (fun q=>absurd (z0M q) (by omega)) fun _=>?_⟩
 exact⟨_,rfl,p,A1,dx,fs,_,rfl,h1,T.cl,T.n_names,l1,_,rfl,pn,a,zs,us,pr,rfl,.inr (SqT.of h3),ha,hp,g',l12,fun H' s=>k H' s⟩
theorem y0L(rows:List Row)(x:Row){n r:Int}(n1:1≤n)(n2:n≤rows.length):z0S (rows++[x]) n r=z0S rows n r:=by
 have e:=y0q (rows:=rows++[x]) (j:=rows.length) (r:=r) n1 n2
 rw[List.take_left] at e
 exact e.symm
theorem y2m(m:Nat)(r:Int)(r0:0≤r):z4G ((m:Int)+1) r=tsN m r.toNat:=by
 have w0j:∀{l1 l2:List Int},l1.Pairwise (· > ·)->l2.Pairwise (· > ·)->(∀x,x∈l1↔x∈l2)->l1=l2:=fun {l1 l2} p1 p2 h=>by
  have e:=z24 (l1:=l1.reverse) (l2:=l2.reverse) (hW.mpr p1) (hW.mpr p2) fun x=>by rw[h9,h9];exact h x
  have e2:=congrArg List.reverse e
  rw[fU,fU] at e2
  exact e2
 refine w0j ((z7G _ _).filter _) ((z7G _ _).filter _) fun x=>?_
 rw[z7n]
 unfold z4G
 rw[cJ,z7j,decide_eq_true_eq]
 omega
theorem y2j(rows:List Row)(x:Row)(r:Int)(r0:0≤r):y3A (rows++[x]) ((rows.length:Int)+1) r=tsD (rows.map z0A) r:=by
 unfold y3A tsD
 rw[y2m _ _ r0,bA]
 congr 1
 refine dX fun k hk=>?_
 have hk:=z7n.mp hk
 unfold z8m tsP z0v
 have h1:(k-1).toNat<rows.length:=by omega
 rw[bM,bM,cV h1,bE,bD h1]
 rfl
theorem y2a{A1:Addr}(M:Bl mg)(T:J3 K mg A1)(F:Fun K "write" "Office.write" z3G f fd)(B1:C8 P w K mg base 3 A1 "refuse_writing" z13 (z7Y K (OfD K A1)))
  (C4:Cal P w K mg base 1 "names_of_rows" z2m y0N) (J5:Cal P w K mg base 1 "rows_in_order" z3h (z9Z K)) (O4:Cal P w K mg base 2 "tail_for" z87 (y5g K)) :
  A7 P w K mg base CX0 4 f fd z3M (z9u K (OfD K A1)):=by
 have nd:=z4Q.nd
 refine F.ok z4Q (fun vs H Q E h=>?_) (fun cdv A outer s H vs Q E hr h=>?_)
 ·obtain⟨p,v,fp,zs,r,rows,pr,rfl,_⟩:=h
  rfl
 obtain⟨p,v,fp,zs,r,rows,pr,rfl,of,⟨a,us,rfl,ha,na,hp⟩,gr,l12,l60,k⟩:=h
 refine⟨_,(z04 (z0y (z1l B1 (rm hr) (pv 0) (z00 (pv 1) z02))) (z04 (z0s (i:=2) nd rfl (Or.inl rfl) (z0q z1m (z0d z0a rfl M.len bR (z00 (z0I (pv 0) rfl) z02)) z06)) (z04 (z6j (i:=3) ["issue"] [] [] rfl nd rfl (Or.inl rfl) (z0w rfl (by decide +kernel) rfl (by decide +kernel) rfl rfl) (z1I (z0I (pv 0) rfl)) (fun _ _ _ _ _=>(z0k (i:=0) (show((["issue"]:List PySem.Str)++([]:List PySem.Str)).Nodup from by decide +kernel) rfl (Or.inl rfl))) (z0z (by decide)) z0g (fun _ _ _ _ _=>z1K) (fun _ _ _ _ _=>(z0l C4 (rm hr) rfl (z00 (z0D (r:=O8 K) z0C (pv 0) z06 (fun _ _=>rfl)) z02)))) (z04 (z0y (z3g bU bT bX z0J (z0I (pv 0) rfl) (z00 (z0V (z00 (pv 2) (z00 (z0l J5 (rm hr) rfl (z00 (z0I (pv 0) rfl) (z00 (pv 1) z02))) (z00 (z0l O4 (rm hr) rfl (z00 (pv 3) (z00 (z0I (pv 0) rfl) z02))) z02)))) z02))) (z05 (z0i (pv 2))))))),?_⟩
 have hp':=z2C.of hp
 obtain⟨dx,pn,pl,fs,xs,rfl,h1,h2,h3,h4,l1,l2,l3,lm,tl,r60,w12,g,r0,r1⟩:=id of
 have lx:xs.length=rows.length:=by rw[tl.length,bA,z0Q]
 refine⟨_,rfl,p,dx,fs,rfl,h1,lm _ (by simp),_,rfl,p,a,_,zs,r,rows,us,pr,rfl,of,ha,hp',gr,l12,l60,fun H1 s1=>?_⟩
 refine⟨_,rfl,p,A1,dx,fs,_,rfl,s1 _ _ h1,T.cl,T.n_written,l3,pl,xs,rfl,.inl (SqL.of (s1 _ _ h4)),_,_,rfl,rfl,?_⟩
 refine⟨_,rfl,p,A1,dx,fs,_,rfl,s1 _ _ h1,T.cl,T.n_written,l3,pl,rfl,⟨_,SqL.of (s1 _ _ h4)⟩,?_⟩
 refine z3w (xs:=xs) (fun i ys H'=>A4 H1 H'/\z08 H' (((rows.take i).map z0A).map K2) ys) ⟨A4.refl _,by rw[cQ];exact .nil⟩ (fun i ys H' hi hq=>?_) (fun i x ys H' hx hq=>?_) (fun ys H' hq=>?_)
 ·obtain⟨gg,t⟩:=hq
  refine⟨SqL.of (gg _ _ (s1 _ _ h4)),z0f ?_⟩
  rw[t.length,bA,bA,bI]
  omega
 ·obtain⟨gg,t⟩:=hq
  have hi:i<rows.length:=by
   have:=(cC.mp hx).1
   omega
  obtain⟨d,ed,td⟩:=tl.at i x hx
  unfold upI at ed
  rw[bE,bE,dY hi] at ed
  have ed':z0S rows (1+(i:Int)) r=d:=Option.some.inj ed
  subst ed'
  have ew:z0v rows (1+(i:Int))=rows[i]:=by
   unfold z0v
   rw[show(1+(i:Int)-1).toNat=i by omega,bM,bD hi]
   rfl
  obtain⟨b,bs,rfl,eb,_,tb⟩:=z0b td
  obtain⟨x0,ur,rfl,t0,tb⟩:=z0c tb
  obtain⟨x1,ur,rfl,t1,tb⟩:=z0c tb
  rw[ew] at t1
  obtain⟨c,cs,rfl,ec,_,tc⟩:=z0b t1
  refine⟨_,rfl,b,_,_,_,rfl,rfl,SqT.of (gg _ _ (s1 _ _ eb)),z0X rfl,c,cs,rows[i],rfl,gg _ _ (s1 _ _ ec),z08.keep (s1.trans gg) _ _ tc,w12 _ (dZ hi),fun l H2 s2 e2=>⟨gg.trans s2,?_⟩⟩
  rw[z0j (bD hi),bG,bG]
  refine z08.snoc (z08.keep s2 _ _ t) (z0u e2 ?_ (z1V _))
  have:=w12 _ (dZ hi)
  unfold z0A
  rw[bA,bA]
  omega
 obtain⟨gg,t⟩:=hq
 rw[lx,bP] at t
 intro D hD
 have s2:=s1.trans (gg.trans (z01 hD (.lst ys)))
 have eD:upd H' D (.lst ys) D=some (.lst ys):=z03
 have t2:=z08.keep (z01 hD (.lst ys)) _ _ t
 generalize upd H' D (.lst ys)=H2 at s2 eD t2
 have l60':((rows.map z0A)).length≤59:=by rw[bA];omega
 refine⟨_,rfl,p,A1,dx,fs,_,rfl,s2 _ _ h1,T.cl,T.n_written,l3,.inl ⟨rfl,_,SqL.of (s2 _ _ h4)⟩,?_⟩
 refine⟨_,rfl,_,rfl,p,A1,dx,fs,_,rfl,s2 _ _ h1,T.cl,T.n_names,l1,_,rfl,pn,a,zs,us,pr,rfl,.inr (SqT.of (s2 _ _ h3)),g.hi,SqP.keep s2 ha,z2C.keep s2 hp',gr.nd,l12,fun v1 H3 s3 tv1=>?_⟩
 have s23:=s2.trans s3
 refine⟨_,rfl,_,rfl,p,A1,dx,fs,_,rfl,s23 _ _ h1,T.cl,T.n_reach,l2,D,ys,rows.map z0A,r,rfl,.inl (SqL.of (s3 _ _ eD)),z08.keep s3 _ _ t2,l60',?_,r0,r1,fun v2 H4 s4 tv2=>?_⟩
 ·intro w' hw'
  obtain⟨w0,hw0,rfl⟩:=cK.mp hw'
  have:=w12 w0 hw0
  unfold z0A
  rw[bA]
  exact this
 refine⟨(by show 3≤sizeLine;decide),fun q hq=>?_⟩
 have s24:=s23.trans (s4.trans (z01 hq (.tup [V.int ((xs.length:Int)+1),v1,v2])))
 have eq':upd H4 q (.tup [V.int ((xs.length:Int)+1),v1,v2]) q=some (.tup [V.int ((xs.length:Int)+1),v1,v2]):=z03
 have tv1':=A5.keep (s4.trans (z01 hq (.tup [V.int ((xs.length:Int)+1),v1,v2]))) _ _ tv1
 have tv2':=A5.keep (z01 hq (.tup [V.int ((xs.length:Int)+1),v1,v2])) _ _ tv2
 generalize upd H4 q (.tup [V.int ((xs.length:Int)+1),v1,v2])=H5 at s24 eq' tv1' tv2'
 refine⟨pl,xs,.ref q,rfl,rfl,s24 _ _ h4,z0f (by omega),?_⟩
 refine⟨_,rfl,?_⟩
 have np:p≠pl:=z5k h1 h4 (fun z=>by cases z)
 have nx:dx≠pl:=z5k h2 h4 (fun z=>by cases z)
 have nn:pn≠pl:=z5k h3 h4 (fun z=>by cases z)
 have h5:=s24 _ _ h4
 have e:=k [p,dx,pl] (upd H5 pl (.lst (xs++[.ref q]))) (fun b hb=>.inl hb) (fun b o e nb=>by rw[z0h (fun z=>nb (by rw[z];simp))];exact s24 _ _ e)
  ⟨dx,pn,pl,fs,_,rfl,by rw[z0h np];exact s24 _ _ h1,by rw[z0h nx];exact s24 _ _ h2,by rw[z0h nn];exact s24 _ _ h3,z03,l1,l2,l3,lm,?_,?_,?_,g,r0,r1⟩
 ·rw[<- lx] at e
  exact e
 ·refine z08.over h5 (fun _ z=>by cases z) _ _ ?_
  rw[bJ,dH,z4t,bG]
  have e1:(upI 1 rows.length).map (fun n=>z0S (rows++[z16 zs pr]) n r)=(upI 1 rows.length).map fun n=>z0S rows n r:=dX fun n hn=>by
   have:=z0U.mp hn
   exact y0L rows _ (by omega) (by omega)
  rw[e1]
  refine z08.snoc (z08.keep s24 _ _ tl) ?_
  have en:(1:Int)+(rows.length:Int)=(rows.length:Int)+1:=by omega
  have er:z0v (rows++[z16 zs pr]) ((rows.length:Int)+1)=z16 zs pr:=by
   unfold z0v
   rw[show((rows.length:Int)+1-1).toNat=rows.length by omega,bM,List.getElem?_concat_length]
   rfl
  show A5 H5 (z0S (rows++[z16 zs pr]) (1+(rows.length:Int)) r) (.ref q)
  unfold z0S
  rw[en,er,y2j rows _ r r0]
  rw[lx] at eq'
  exact z0u eq' (by show 3≤1000000;decide) (.cons (z0E _) (.cons tv1' (.cons tv2' .nil)))
 ·rw[bJ,dH]
  omega
 ·intro w' hw'
  rcases bS.mp hw' with hw'|hw'
  ·exact w12 w' hw'
  ·rw[bC] at hw'
   rw[hw']
   exact cM (z57 zs pr) g.hi
abbrev A9:=Option Int×Int
def z23:A9->List V
 | (none,n)=>[.str "write",.int n]
 | (some r,n)=>[.str "deliver",.int r,.int n]
def z1z(H:Hp)(u:V)(d:A9):Prop:=∃b,u=.ref b/\H b=some (.tup (z23 d))
theorem z1a{H:Hp}{us:List V}{log:List A9}(h:Paired (z1z H) us log):us.length=log.length:=by
 induction h with
 | nil=>rfl
 | cons _ _ ih=>rw[cB,cB,ih]
def D4(log:List A9)(rd:Int):List Int:=log.foldl (fun acc d=>if d.1=some rd then N4 acc d.2 else acc) []
theorem z9w(log:List A9)(d:A9)(rd:Int):D4 (log++[d]) rd=if d.1=some rd then N4 (D4 log rd) d.2 else D4 log rd:=by
 unfold D4
 rw[gQ]
 rfl
theorem z77{log:List A9}{rd n:Int}:n∈D4 log rd↔((some rd,n):A9)∈log:=by
 have go:∀(log:List A9) (acc:List Int),n∈log.foldl (fun acc d=>if d.1=some rd then N4 acc d.2 else acc) acc↔n∈acc\/((some rd,n):A9)∈log:=by
  intro log
  induction log with
  | nil=>intro acc;exact⟨.inl,fun h=>h.elim id fun q=>(nomatch q)⟩
  | cons d log ih=>
   intro acc
   rw[d6,ih,bF]
   obtain⟨a,m⟩:=d
   by_cases c:a=some rd
   ·subst c
    rw[if_pos rfl,y12,or_assoc]
    exact or_congr jE (or_congr ⟨fun e=>by rw[e],fun e=>congrArg Prod.snd e⟩ jE)
   ·rw[if_neg c]
    exact or_congr jE ⟨.inr,fun h=>h.elim (fun e=>absurd (congrArg Prod.fst e).symm c) id⟩
 unfold D4
 rw[go]
 exact⟨fun h=>h.elim (fun q=>(nomatch q)) id,.inr⟩
abbrev BkP:=Hp->Addr->List Addr->List Str->Int->Int->List Row->List A9->Prop
structure R9(C:Addr)(ms:List Str)(Bk:BkP):Prop where
 ins:∀{H p fp zs r k rows log},Bk H p fp zs r k rows log->∃dx fs,H p=some (.ins C dx fs)/\∀m∈ms,fs.lookup m=none
 own:∀{H p fp zs r k rows log},Bk H p fp zs r k rows log->∀b∈fp,∃o,H b=some o/\∀xs,o≠.tup xs
 keep:∀{H H' p fp gp zs r k rows log},Bk H p fp zs r k rows log->z0x gp H H'->(∀b∈gp,b∉fp)->z54 H gp->Bk H' p fp zs r k rows log
theorem R9.same{C:Addr}{ms:List Str}{Bk:BkP}(O:R9 C ms Bk){H H':Hp}{p:Addr}{fp:List Addr}{zs:List Str}{r k:Int}{rows:List Row}{log:List A9}(h:Bk H p fp zs r k rows log)(s:A4 H H'):Bk H' p fp zs r k rows log:=
 O.keep (gp:=[]) h (.of s) (fun _ q=>by cases q) fun _ q=>by cases q
theorem R9.L8{C:Addr}{ms:List Str}{Bk:BkP}(O:R9 C ms Bk){H:Hp}{p:Addr}{fp:List Addr}{zs:List Str}{r k:Int}{rows:List Row}{log:List A9}(h:Bk H p fp zs r k rows log):z54 H fp:=fun b m xs e=>by
 obtain⟨o,e1,n⟩:=O.own h b m
 rw[e1] at e
 exact n xs (Option.some.inj e)
def z9f(K:PySem.W.Frag)(C:Addr)(Bk:BkP):Sp:=fun vs H Q _=>∃(x dx pn:Addr) (zs:List Str) (r k:Int),vs=[.ref x,.ref pn,.int r,.int k]/\H x=some (.ins C dx [])/\dx≠x/\H dx=some (.own x)/\HdN K H pn zs/\D9 zs/\0≤r/\r≤10/\1≤k/\k≤10/\
 ∀(fp:List Addr) (H':Hp),(∀b∈fp,b=x\/b=dx\/H b=none)->z0x [x] H H'->Bk H' x fp zs r k [] []->Q .non H'
def z86(K:PySem.W.Frag)(Bk:BkP):Sp:=fun vs H Q _=>∃(p:Addr) (v:V) (fp:List Addr) (zs:List Str) (r k:Int) (rows:List Row) (log:List A9) (pr:Row),vs=[.ref p,v]/\Bk H p fp zs r k rows log/\y3m K H fp v pr/\GoodR zs pr/\pr.length≤12/\rows.length<60/\log.length<400/\
 ∀(fp':List Addr) (H':Hp),(∀b∈fp',b∈fp\/H b=none)->z0x fp H H'->Bk H' p fp' zs r k (rows++[z16 zs pr]) (log++[(none,(rows.length:Int)+1)])->Q (.int (rows.length+1)) H'
def z5f(Bk:BkP):Sp:=fun vs H Q _=>∃(p:Addr) (fp:List Addr) (zs:List Str) (r k:Int) (rows:List Row) (log:List A9) (rd n:Int),vs=[.ref p,.int rd,.int n]/\Bk H p fp zs r k rows log/\1≤rd/\rd≤k/\1≤n/\n≤rows.length/\log.length<400/\
 ∀(H':Hp),z0x fp H H'->Bk H' p fp zs r k rows (log++[(some rd,n)])->Q (.bl (decide (((some rd,n):A9)∉log))) H'
def y3r(Bk:BkP):Sp:=fun vs H Q _=>∃(p:Addr) (fp:List Addr) (zs:List Str) (r k:Int) (rows:List Row) (log:List A9),vs=[.ref p]/\Bk H p fp zs r k rows log/\Q (.int log.length) H
def Z5:Option Nat->V
 | none=>.non
 | some d=>.int d
def z4l(Bk:BkP)(Sh:ShP):Sp:=fun vs H Q _=>∃(p:Addr) (fp:List Addr) (zs:List Str) (r k:Int) (rows:List Row) (log:List A9) (rd:Int) (o:Option Nat),vs=[.ref p,.int rd,Z5 o]/\Bk H p fp zs r k rows log/\1≤rd/\rd≤k/\(∀d,o=some d->d≤log.length)/\
 ∀(x:Addr) (fq:List Addr) (H':Hp),(∀b∈fq,H b=none)->A4 H H'->Sh H' x fq zs r (fun n=>z0S rows n r) (D4 (log.take (o.getD log.length)) rd)->Q (.ref x) H'
theorem K0.but{fp:List Addr}{H H':Hp}{us:List V}{log:List A9}(s:z0x fp H H')(n:z54 H fp)(h:Paired (z1z H) us log):Paired (z1z H') us log:=
 L2.Paired.S0 h fun u d ⟨b,e,q⟩=>⟨b,e,s _ _ q fun m=>n b m _ q⟩
structure BkIn(K:PySem.W.Frag)(CB CO:Addr)(H:Hp)(p dx po pd:Addr)(fs:List (Str×V))(fo:List Addr)(us:List V)(zs:List Str)(r k:Int)(rows:List Row)(log:List A9):Prop where
 hp:H p=some (.ins CB dx fs)
 hdx:H dx=some (.own p)
 of:OfD K CO H po fo zs r rows
 hd:H pd=some (.lst us)
 ds:Paired (z1z H) us log
 npo:p∉fo
 ndo:dx∉fo
 ndn:pd∉fo
 lo:fs.lookup ("office":Str)=some (V.ref po)
 lr:fs.lookup ("readers":Str)=some (V.int k)
 ld:fs.lookup ("done":Str)=some (V.ref pd)
 lm:∀m∈(["refuse_unknown_reader","refuse_further_deed","write","deliver","latest","issue","deeds","deed","shelf"]:List Str),fs.lookup m=none
 l4:log.length≤400
 in1:∀d∈log,1≤d.2/\d.2≤rows.length
 k1:1≤k
 k10:k≤10
def BkD(K:PySem.W.Frag)(CB CO:Addr):BkP:=fun H p fp zs r k rows log=>∃(dx po pd:Addr) (fs:List (Str×V)) (fo:List Addr) (us:List V),fp=p::dx::pd::fo/\BkIn K CB CO H p dx po pd fs fo us zs r k rows log
theorem V3{K:PySem.W.Frag}{CB CO:Addr}:R9 CB ["write","deliver","latest","issue","deeds","deed","shelf"] (BkD K CB CO):=by
 refine⟨fun h=>?_,fun h b hb=>?_,fun h s out nt=>?_⟩
 ·obtain⟨dx,po,pd,fs,fo,us,rfl,B⟩:=h
  refine⟨dx,fs,B.hp,fun m hm=>B.lm m ?_⟩
  exact bZ _ (bZ _ hm)
 ·obtain⟨dx,po,pd,fs,fo,us,rfl,B⟩:=h
  rcases bF.mp hb with rfl|hb
  ·exact⟨_,B.hp,fun xs z=>by cases z⟩
  rcases bF.mp hb with rfl|hb
  ·exact⟨_,B.hdx,fun xs z=>by cases z⟩
  rcases bF.mp hb with rfl|hb
  ·exact⟨_,B.hd,fun xs z=>by cases z⟩
  exact O7.own B.of b hb
 ·obtain⟨dx,po,pd,fs,fo,us,rfl,B⟩:=h
  exact⟨dx,po,pd,fs,fo,us,rfl,{ B with
   hp:=s _ _ B.hp fun m=>out _ m (by simp)
   hdx:=s _ _ B.hdx fun m=>out _ m (by simp)
   of:=O7.keep B.of s (fun b m z=>out b m (by simp[z])) nt
   hd:=s _ _ B.hd fun m=>out _ m (by simp)
   ds:=K0.but s nt B.ds }⟩
def z6Q:Sp:=fun vs H Q _=>∃k:Int,vs=[.int k]/\1≤k/\k≤10/\Q .non H
theorem z8W(M:Bl mg)(F:Fun K "refuse_bad_readers" "refuse_bad_readers" z1R f fd):A7 P w K mg base CX0 1 f fd z1Q z6Q:=by
 have nd:=z2F.nd
 refine F.ok z2F (fun vs H Q E h=>?_) (fun cdv A outer s H vs Q E hr h=>?_)
 ·obtain⟨r,rfl,_⟩:=h
  rfl
 ·obtain⟨r,rfl,r0,r1,k⟩:=h
  refine⟨_,(z05 (z0G (PW.pt (z3l (z09 z8l (pv 0) z06 (z0o _)) (z25 (z09 z2P (pv 0) (z2N rfl M.MOST_READERS) (z0o _))))) (z05 z1x) z0n)),?_⟩
  refine⟨_,rfl,_,_,rfl,rfl,_,rfl,B3 (fun q=>absurd (z0M q) (by omega)) fun _=>?_⟩
  exact⟨_,rfl,_,_,rfl,rfl,_,rfl,B3 (fun q=>absurd (z0M q) (by omega)) fun _=>k⟩
def z50(Bk:BkP):Sp:=fun vs H Q _=>∃(p:Addr) (fp:List Addr) (zs:List Str) (r k:Int) (rows:List Row) (log:List A9) (rd:Int),vs=[.ref p,.int rd]/\Bk H p fp zs r k rows log/\1≤rd/\rd≤k/\Q .non H
theorem z9A{A2 A1:Addr}(M:Bl mg)(T:J8 K mg A2)(F:Fun K "refuse_unknown_reader" "Book.refuse_unknown_reader" z10 f fd):A7 P w K mg base CX0 1 f fd z0N (z50 (BkD K A2 A1)):=by
 have nd:=z1w.nd
 refine F.ok z1w (fun vs H Q E h=>?_) (fun cdv A outer s H vs Q E hr h=>?_)
 ·obtain⟨p,fp,zs,r,k,rows,log,rd,rfl,_⟩:=h
  rfl
 obtain⟨p,fp,zs,r,k,rows,log,rd,rfl,⟨dx,po,pd,fs,fo,us,rfl,B⟩,r1,r2,q⟩:=h
 refine⟨_,(z05 (z0G (PW.pt (z3l (z09 z8l (pv 1) z06 (z0o _)) (z25 (z09 z2P (pv 1) (z0I (pv 0) rfl) (z0o _))))) (z05 z1x) z0n)),?_⟩
 refine⟨_,rfl,_,_,rfl,rfl,_,rfl,B3 (fun q=>absurd (z0M q) (by omega)) fun _=>?_⟩
 exact⟨_,rfl,_,rfl,p,A2,dx,fs,_,rfl,B.hp,T.cl,T.n_readers,B.lr,_,_,rfl,rfl,_,rfl,B3 (fun q=>absurd (z0M q) (by omega)) fun _=>q⟩
def z88(Bk:BkP):Sp:=fun vs H Q _=>∃(p:Addr) (fp:List Addr) (zs:List Str) (r k:Int) (rows:List Row) (log:List A9),vs=[.ref p]/\Bk H p fp zs r k rows log/\log.length<400/\Q .non H
theorem y1T{A2 A1:Addr}(M:Bl mg)(T:J8 K mg A2)(F:Fun K "refuse_further_deed" "Book.refuse_further_deed" z1d f fd):A7 P w K mg base CX0 1 f fd z0R (z88 (BkD K A2 A1)):=by
 have nd:=z1G.nd
 refine F.ok z1G (fun vs H Q E h=>?_) (fun cdv A outer s H vs Q E hr h=>?_)
 ·obtain⟨p,fp,zs,r,k,rows,log,rfl,_⟩:=h
  rfl
 obtain⟨p,fp,zs,r,k,rows,log,rfl,⟨dx,po,pd,fs,fo,us,rfl,B⟩,l4,q⟩:=h
 refine⟨_,(z05 (z0G (z09 y5I (z0d z0a rfl M.len bR (z00 (z0I (pv 0) rfl) z02)) (z2N rfl M.MOST_DEEDS) (z0o _)) (z05 z1x) z0n)),?_⟩
 have lu:=z1a B.ds
 exact⟨_,rfl,p,A2,dx,fs,_,rfl,B.hp,T.cl,T.n_done,B.ld,pd,us,rfl,.inl (SqL.of B.hd),_,_,rfl,rfl,_,rfl,B3 (fun q=>absurd (z0M q) (by omega)) fun _=>q⟩
theorem y1N{A2 A1:Addr}(M:Bl mg)(T:J8 K mg A2)(F:Fun K "deeds" "Book.deeds" z5a f fd):A7 P w K mg base CX0 1 f fd z7Q (y3r (BkD K A2 A1)):=by
 have nd:=z6y.nd
 refine F.ok z6y (fun vs H Q E h=>?_) (fun cdv A outer s H vs Q E hr h=>?_)
 ·obtain⟨p,fp,zs,r,k,rows,log,rfl,_⟩:=h
  rfl
 obtain⟨p,fp,zs,r,k,rows,log,rfl,⟨dx,po,pd,fs,fo,us,rfl,B⟩,q⟩:=h
 refine⟨_,(z05 (z0i (z0d z0a rfl M.len bR (z00 (z0I (pv 0) rfl) z02)))),?_⟩
 have lu:=z1a B.ds
 refine⟨_,rfl,p,A2,dx,fs,_,rfl,B.hp,T.cl,T.n_done,B.ld,pd,us,rfl,.inl (SqL.of B.hd),?_⟩
 rw[lu]
 exact q
theorem y2l{A2 A1:Addr}(M:Bl mg)(T:J8 K mg A2)(F:Fun K "__init__" "Book.__init__" z3e f fd)(Q7:Mkr P w K mg base 3 A1 "Office" z2y (y1d K A1 (OfD K A1)))
  (D8:Cal P w K mg base 1 "refuse_bad_readers" z1Q z6Q):A7 P w K mg base CX0 6 f fd z2o (z9f K A2 (BkD K A2 A1)):=by
 have nd:=z4g.nd
 refine F.ok z4g (fun vs H Q E h=>?_) (fun cdv A outer s H vs Q E hr h=>?_)
 ·obtain⟨x,dx,pn,zs,r,k,rfl,_⟩:=h
  rfl
 obtain⟨x,dx,pn,zs,r,k,rfl,hx,ne,hdx,hn,g,r0,r1,k1,k10,q⟩:=h
 refine⟨_,(z04 (z5y (pv 0) (y14 Q7 (rm hr) rfl (z00 (pv 1) (z00 (pv 2) z02))) rfl) (z04 (z0y (z0l D8 (rm hr) rfl (z00 (pv 3) z02))) (z04 (z5y (pv 0) (pv 3) rfl) (z05 (z5y (pv 0) (z1W z02) rfl))))),?_⟩
 refine⟨_,rfl,_,rfl,fun po dxo nx ndx neo=>?_⟩
 have m1:=z5X (C:=A1) (A4.refl H) nx ndx
 refine⟨po,dxo,pn,zs,r,rfl,z03,neo,by rw[z0h neo,z03],HdN.keep m1 hn,g,r0,r1,fun fo H1 ff sb of=>⟨rfl,?_⟩⟩
 have s1:A4 H H1:=z5w sb m1 nx
 have f1:∀b∈fo,H b=none:=fun b hb=>z4s m1 nx ndx (ff b hb)
 refine⟨_,rfl,x,A2,dx,[],rfl,s1 _ _ hx,T.cl,T.n_office,by decide,?_⟩
 have z1:=z1C "office" (.ref po) []
 have z2:=z1C "readers" (.int k) (F9 "office" (.ref po) [])
 have z0:([]:List (Str×V)).length=0:=rfl
 refine⟨_,rfl,k,rfl,k1,k10,?_⟩
 refine⟨_,rfl,_,rfl,x,A2,dx,_,rfl,z03,T.cl,T.n_readers,(by omega),?_⟩
 rw[z7w]
 refine⟨(by show 0≤sizeLine;decide),fun pd hd=>?_⟩
 have nxp:x≠pd:=z0r z03 hd
 have dfr:H1 pd=none:=by rw[z0h (dG nxp)] at hd;exact hd
 have ndd:dx≠pd:=z0r (s1 _ _ hdx) dfr
 have out:∀{b:Addr}{o:HO},H b=some o->b∉fo:=fun e m=>by rw[f1 _ m] at e;cases e
 refine⟨_,rfl,x,A2,dx,_,rfl,(by rw[z0h nxp,z03]),T.cl,T.n_done,(by omega),?_⟩
 have sx:z0x [x] H1 (upd (upd (upd H1 x (.ins A2 dx (F9 "readers" (.int k) (F9 "office" (.ref po) [])))) pd (.lst [])) x (.ins A2 dx (F9 "done" (.ref pd) (F9 "readers" (.int k) (F9 "office" (.ref po) []))))):=fun b o e nb=>by
  rw[bC] at nb
  rw[z0h nb,z0h (z0r e dfr),z0h nb]
  exact e
 refine q (x::dx::pd::fo) _ (fun b hb=>?_) (fun b o e nb=>sx b o (s1 _ _ e) nb) ⟨dx,po,pd,_,fo,[],rfl,⟨z03,?_,?_,?_,.nil,out hx,out hdx,?_,?_,?_,?_,?_,by decide,fun _ q=>(nomatch q),k1,k10⟩⟩
 ·rcases bF.mp hb with rfl|hb
  ·exact .inl rfl
  rcases bF.mp hb with rfl|hb
  ·exact .inr (.inl rfl)
  rcases bF.mp hb with rfl|hb
  ·exact .inr (.inr (s1.free dfr))
  ·exact .inr (.inr (f1 b hb))
 ·exact sx _ _ (s1 _ _ hdx) (by rw[bC];exact ne)
 ·refine O7.keep of sx (fun b m=>?_) fun b m xs e=>?_
  ·rw[bC.mp m]
   exact out hx
  ·rw[bC.mp m,s1 _ _ hx] at e
   cases e
 ·rw[z0h (dG nxp),z03]
 ·intro m
  obtain⟨o,e,_⟩:=O7.own of pd m
  rw[dfr] at e
  cases e
 ·rw[z0p,if_neg (by decide +kernel),z0p,if_neg (by decide +kernel),z0p,if_pos rfl]
 ·rw[z0p,if_neg (by decide +kernel),z0p,if_pos rfl]
 ·rw[z0p,if_pos rfl]
 ·intro m hm
  simp only[bF,dO,or_false] at hm
  rcases hm with rfl|rfl|rfl|rfl|rfl|rfl|rfl|rfl|rfl<;>rw[z0p,if_neg (by decide +kernel),z0p,if_neg (by decide +kernel),z0p,if_neg (by decide +kernel)]<;>rfl
theorem y5y{K:PySem.W.Frag}{CB CO:Addr}{H H1:Hp}{p dx po pd t:Addr}{fs:List (Str×V)}{fo fo':List Addr}{us:List V}{zs:List Str}{r k:Int}{rows T7:List Row}{log:List A9}{d:A9}(B:BkIn K CB CO H p dx po pd fs fo us zs r k rows log)
  (sb:z0x fo H H1) (of:OfD K CO H1 po fo' zs r T7) (ff:∀b∈fo',b∈fo\/H b=none) (ht:H1 t=some (.tup (z23 d))) (hl:rows.length≤T7.length) (hd1:1≤d.2/\d.2≤T7.length) (l4:log.length<400) :
  z0x (p::dx::pd::fo) H (upd H1 pd (.lst (us++[.ref t])))/\BkD K CB CO (upd H1 pd (.lst (us++[.ref t]))) p (p::dx::pd::fo') zs r k T7 (log++[d]):=by
 have ntf:z54 H fo:=O7.L8 B.of
 have hd':=sb _ _ B.hd B.ndn
 have out:∀{b:Addr}{o:HO},H b=some o->b∉fo->b∉fo':=fun e n m=>(ff _ m).elim n fun z=>by rw[z] at e;cases e
 have s2:z0x [pd] H1 (upd H1 pd (.lst (us++[.ref t]))):=fun b o e nb=>by
  rw[bC] at nb
  rw[z0h nb]
  exact e
 have nt2:z54 H1 [pd]:=fun b m xs e=>by
  rw[bC.mp m,hd'] at e
  cases e
 have npd:p≠pd:=z5k B.hp B.hd (fun z=>by cases z)
 have ndd:dx≠pd:=z5k B.hdx B.hd (fun z=>by cases z)
 refine⟨fun b o e nb=>?_,dx,po,pd,fs,fo',us++[.ref t],rfl,{ B with
  hp:=by rw[z0h npd];exact sb _ _ B.hp B.npo
  hdx:=by rw[z0h ndd];exact sb _ _ B.hdx B.ndo
  of:=O7.keep of s2 (fun b m=>by rw[bC.mp m];exact out B.hd B.ndn) nt2
  hd:=z03
  ds:=?_
  npo:=out B.hp B.npo
  ndo:=out B.hdx B.ndo
  ndn:=out B.hd B.ndn
  l4:=by rw[bJ];exact l4
  in1:=fun x hx=>?_ }⟩
 ·rw[bF,bF,bF,not_or,not_or,not_or] at nb
  rw[z0h nb.2.2.1]
  exact sb _ _ e nb.2.2.2
 ·exact fL (K0.but s2 nt2 (K0.but sb ntf B.ds)) ⟨t,rfl,s2 _ _ ht fun m=>nt2 t m _ ht⟩
 ·rcases bS.mp hx with hx|hx
  ·have:=B.in1 x hx
   omega
  ·rw[bC.mp hx]
   exact hd1
theorem y24{A2 A1:Addr}(M:Bl mg)(T:J8 K mg A2)(F:Fun K "write" "Book.write" z5e f fd)(B1:C8 P w K mg base 3 A1 "refuse_writing" z13 (z7Y K (OfD K A1)))
  (K1:C8 P w K mg base 4 A1 "write" z3M (z9u K (OfD K A1))) (A8:C8 P w K mg base 1 A2 "refuse_further_deed" z0R (z88 (BkD K A2 A1))) :
  A7 P w K mg base CX0 5 f fd z3B (z86 K (BkD K A2 A1)):=by
 have nd:=z6A.nd
 refine F.ok z6A (fun vs H Q E h=>?_) (fun cdv A outer s H vs Q E hr h=>?_)
 ·obtain⟨p,v,fp,zs,r,k,rows,log,pr,rfl,_⟩:=h
  rfl
 obtain⟨p,v,fp,zs,r,k,rows,log,pr,rfl,bk,⟨a,vs,rfl,ha,na,hpr⟩,gr,l12,l60,l4,q⟩:=h
 refine⟨_,(z04 (z0y (z1l B1 (rm hr) (z0I (pv 0) rfl) (z00 (pv 1) z02))) (z04 (z0y (z2M A8 (rm hr) (pv 0))) (z04 (z0s (i:=2) nd rfl (Or.inl rfl) (z1l K1 (rm hr) (z0I (pv 0) rfl) (z00 (pv 1) z02))) (z04 (z0y (z3g bU bT bX z0J (z0I (pv 0) rfl) (z00 (z0V (z00 (z2h rfl M.WRITE) (z00 (pv 2) z02))) z02))) (z05 (z0i (pv 2))))))),?_⟩
 obtain⟨dx,po,pd,fs,fo,us,rfl,B⟩:=id bk
 have no:∀{b:Addr},b∉p::dx::pd::fo->b∉fo:=fun n m=>n (by simp[m])
 have hand:Paired (z92 K H fo) vs pr:=L2.Paired.S0 hpr fun u x ⟨b,e,q,n⟩=>⟨b,e,q,no n⟩
 obtain⟨dxo,pno,plo,fso,xso,efo,h1,h2,h3,h4,l1,l2,l3,lmo,_⟩:=id B.of
 refine⟨_,rfl,p,A2,dx,fs,_,rfl,B.hp,T.cl,T.n_office,B.lo,po,dxo,fso,rfl,h1,lmo _ (by simp),_,rfl,po,a,fo,zs,r,rows,vs,pr,rfl,B.of,ha,z2C.of hand,gr,l12,l60,fun H1 s1=>?_⟩
 refine⟨_,rfl,p,dx,fs,rfl,s1 _ _ B.hp,B.lm _ (by simp),p,_,zs,r,k,rows,log,rfl,V3.same bk s1,l4,?_⟩
 have ha1:y3m K H1 fo (.ref a) pr:=⟨a,vs,rfl,SqP.keep s1 ha,no na,L2.Paired.S0 hand fun u x ⟨b,e,q,n⟩=>⟨b,e,q.imp (fun z=>s1.seq z) fun z=>z7a s1 z,n⟩⟩
 refine⟨_,rfl,p,A2,dx,fs,_,rfl,s1 _ _ B.hp,T.cl,T.n_office,B.lo,po,dxo,fso,rfl,s1 _ _ h1,lmo _ (by simp),_,rfl,po,.ref a,fo,zs,r,rows,pr,rfl,O7.same B.of s1,ha1,gr,l12,l60,fun fo' H2 ff sb of2=>?_⟩
 have sb2:z0x fo H H2:=fun b o e n=>sb _ _ (s1 _ _ e) n
 have lu:=z1a B.ds
 refine⟨_,rfl,p,A2,dx,fs,_,rfl,sb2 _ _ B.hp B.npo,T.cl,T.n_done,B.ld,.inl ⟨rfl,_,SqL.of (sb2 _ _ B.hd B.ndn)⟩,?_⟩
 refine⟨_,rfl,(by show 2≤sizeLine;decide),fun t ht=>⟨pd,us,_,rfl,rfl,z01 ht _ _ _ (sb2 _ _ B.hd B.ndn),z0f (by omega),?_⟩⟩
 have s3:=z01 ht (.tup [V.str "write",V.int ((rows.length:Int)+1)])
 have et:upd H2 t (.tup [V.str "write",V.int ((rows.length:Int)+1)]) t=some (.tup (z23 (none,(rows.length:Int)+1))):=z03
 have sb3:z0x fo H (upd H2 t (.tup [V.str "write",V.int ((rows.length:Int)+1)])):=fun b o e n=>s3 _ _ (sb2 _ _ e n)
 have of3:=O7.same of2 s3
 obtain⟨g1,g2⟩:=y5y B sb3 of3 (fun b m=>(ff b m).imp id fun z=>s1.free z) et (by rw[bJ];omega) ⟨by show(1:Int)≤rows.length+1;omega,by show((rows.length:Int)+1)≤_;rw[bJ];exact eF _⟩ l4
 refine⟨_,rfl,q (p::dx::pd::fo') _ (fun b hb=>?_) g1 g2⟩
 rcases bF.mp hb with rfl|hb
 ·exact .inl (by simp)
 rcases bF.mp hb with rfl|hb
 ·exact .inl (by simp)
 rcases bF.mp hb with rfl|hb
 ·exact .inl (by simp)
 exact(ff b hb).imp (fun z=>by simp[z]) fun z=>s1.free z
theorem y2V(d:A9)(rd n:Int):z2W (z23 d) (z23 (some rd,n))=decide (d=(some rd,n)):=by
 obtain⟨a,m⟩:=d
 cases a with
 | none=>
  rw[decide_eq_false (fun e=>by cases e)]
  rfl
 | some r=>
  show(eqV (.str "deliver") (.str "deliver") && (eqV (.int r) (.int rd) && (eqV (.int m) (.int n) && true)))=_
  rw[z9l rfl,fV,Bool.and_true,cX,bW,decide_eq_true_eq]
  show(r == rd)=true/\(m == n)=true↔_
  rw[beq_iff_eq,beq_iff_eq]
  exact⟨fun h=>by rw[h.1,h.2],fun h=>by cases h;exact⟨rfl,rfl⟩⟩
theorem y4j(log:List A9)(rd n:Int):(!(log.map z23).any fun ys=>z2W ys (z23 (some rd,n)))=decide (((some rd,n):A9)∉log):=by
 rw[gL,cX,jC,decide_eq_true_eq,jB]
 refine⟨fun h m=>h _ m ?_,fun h d hd e=>h ?_⟩
 ·show z2W _ _=true
  rw[y2V]
  exact decide_eq_true rfl
 ·have e':z2W (z23 d) (z23 (some rd,n))=true:=e
  rw[y2V] at e'
  rw[<- of_decide_eq_true e']
  exact hd
theorem y09(d:A9):(z23 d).all z1Y=true:=by
 obtain⟨a,m⟩:=d
 cases a<;>rfl
theorem y05{A2 A1:Addr}(M:Bl mg)(T:J8 K mg A2)(F:Fun K "deliver" "Book.deliver" z3A f fd)(B6:C8 P w K mg base 1 A1 "issue" z20 (z5I (OfD K A1)))
  (A6:C8 P w K mg base 1 A2 "refuse_unknown_reader" z0N (z50 (BkD K A2 A1))) (A8:C8 P w K mg base 1 A2 "refuse_further_deed" z0R (z88 (BkD K A2 A1))) :
  A7 P w K mg base CX0 5 f fd z2K (z5f (BkD K A2 A1)):=by
 have nd:=z4P.nd
 refine F.ok z4P (fun vs H Q E h=>?_) (fun cdv A outer s H vs Q E hr h=>?_)
 ·obtain⟨p,fp,zs,r,k,rows,log,rd,n,rfl,_⟩:=h
  rfl
 obtain⟨p,fp,zs,r,k,rows,log,rd,n,rfl,bk,r1,r2,n1,n2,l4,q⟩:=h
 have hu:=y06 hr
 refine⟨_,(z04 (z0y (z1l B6 (rm hr) (z0I (pv 0) rfl) (z00 (pv 2) z02))) (z04 (z0y (z1l A6 (rm hr) (pv 0) (z00 (pv 1) z02))) (z04 (z0y (z2M A8 (rm hr) (pv 0))) (z04 (z0s (i:=3) nd rfl (Or.inl rfl) (z0V (z00 (z2h rfl M.DELIVER) (z00 (pv 1) (z00 (pv 2) z02))))) (z04 (z0s (i:=4) nd rfl (Or.inl rfl) (y2A (y2p hu) (pv 3) (z0I (pv 0) rfl) (by with_unfolding_all rfl))) (z04 (z0y (z3g bU bT bX z0J (z0I (pv 0) rfl) (z00 (pv 3) z02))) (z05 (z0i (pv 4))))))))),?_⟩
 obtain⟨dx,po,pd,fs,fo,us,rfl,B⟩:=id bk
 obtain⟨dxo,pno,plo,fso,xso,efo,h1,h2,h3,h4,l1,l2,l3,lmo,_⟩:=id B.of
 refine⟨_,rfl,p,A2,dx,fs,_,rfl,B.hp,T.cl,T.n_office,B.lo,po,dxo,fso,rfl,h1,lmo _ (by simp),_,rfl,po,fo,zs,r,rows,n,rfl,B.of,n1,n2,fun v H1 s1 _=>?_⟩
 have bk1:=V3.same bk s1
 refine⟨_,rfl,p,dx,fs,rfl,s1 _ _ B.hp,B.lm _ (by simp),_,rfl,p,_,zs,r,k,rows,log,rd,rfl,bk1,r1,r2,?_⟩
 refine⟨_,rfl,p,dx,fs,rfl,s1 _ _ B.hp,B.lm _ (by simp),p,_,zs,r,k,rows,log,rfl,bk1,l4,?_⟩
 refine⟨_,rfl,_,rfl,(by show 3≤sizeLine;decide),fun t ht=>?_⟩
 have s2:=s1.trans (z01 ht (.tup [V.str "deliver",V.int rd,V.int n]))
 have et:upd H1 t (.tup [V.str "deliver",V.int rd,V.int n]) t=some (.tup (z23 (some rd,n))):=z03
 generalize upd H1 t (.tup [V.str "deliver",V.int rd,V.int n])=H2 at s2 et
 have lu:=z1a B.ds
 have prs:Paired (fun u ys=>∃b,u=.ref b/\SqT K H2 b ys/\ys.all z1Y=true) us (log.map z23):=by
  have go:∀{us:List V}{log:List A9},Paired (z1z H) us log->Paired (fun u ys=>∃b,u=.ref b/\SqT K H2 b ys/\ys.all z1Y=true) us (log.map z23):=by
   intro us log h
   induction h with
   | nil=>exact .nil
   | cons h t ih=>
    obtain⟨b,e,q⟩:=h
    exact .cons ⟨b,e,SqT.of (s2 _ _ q),y09 _⟩ ih
  exact go B.ds
 refine⟨_,rfl,_,rfl,p,A2,dx,fs,_,rfl,s2 _ _ B.hp,T.cl,T.n_done,B.ld,t,pd,_,us,_,rfl,rfl,SqT.of et,y09 _,SqL.of (s2 _ _ B.hd),prs,?_⟩
 rw[y4j]
 refine⟨_,rfl,p,A2,dx,fs,_,rfl,s2 _ _ B.hp,T.cl,T.n_done,B.ld,.inl ⟨rfl,_,SqL.of (s2 _ _ B.hd)⟩,_,rfl,pd,us,_,rfl,rfl,s2 _ _ B.hd,z0f (by omega),?_⟩
 obtain⟨g1,g2⟩:=y5y B (.of s2) (O7.same B.of s2) (fun b m=>.inl m) et (bH _) ⟨n1,n2⟩ l4
 exact⟨_,rfl,q _ g1 g2⟩
theorem y3y{xs:List V}{k:Nat}(h:k≤xs.length):K5 xs none (some (k:Int))=xs.take k:=by
 unfold K5
 have e1:HT.sIx xs.length 0 none=0:=rfl
 have e2:HT.sIx xs.length xs.length (some (k:Int))=k:=by
  rw[HT.z97,j0 h]
 rw[e1,e2,eU,gJ]
theorem z99{H:Hp}:∀{us:List V}{log:List A9},Paired (z1z H) us log->∀(c i:Nat) (u:V),(us.take c)[i]? = some u->∃d,(log.take c)[i]? = some d/\z1z H u d:=by
 intro us log h
 induction h with
 | nil=>intro c i u e;rw[List.take_nil] at e;simp at e
 | cons h t ih=>
  intro c i u e
  cases c with
  | zero=>simp at e
  | succ c=>
   rw[List.take_succ_cons] at e ⊢
   cases i with
   | zero=>
    simp at e
    subst e
    exact⟨_,rfl,h⟩
   | succ i=>
    obtain⟨d,q1,q2⟩:=ih c i u (by simpa using e)
    exact⟨d,by simpa using q1,q2⟩
theorem y4Q(d:A9)(rd:Int):z2W ((z23 d).take 2) [.str "deliver",.int rd]=decide (d.1=some rd):=by
 obtain⟨a,m⟩:=d
 cases a with
 | none=>
  rw[decide_eq_false (fun e=>by cases e)]
  rfl
 | some r=>
  show(eqV (.str "deliver") (.str "deliver") && (eqV (.int r) (.int rd) && true))=_
  rw[z9l rfl,fV,Bool.and_true,cX,decide_eq_true_eq]
  show(r == rd)=true↔_
  rw[beq_iff_eq]
  exact⟨fun h=>by rw[h],fun h=>Option.some.inj h⟩
theorem z8F{A2 A1 A0 T0:Addr}{items:Array Value}(M:Bl mg)(T:J8 K mg A2)(TO:J3 K mg A1)(F:R5 K "shelf" "Book.shelf" z4X f fd T0 items)(B6:C8 P w K mg base 1 A1 "issue" z20 (z5I (OfD K A1)))
  (A6:C8 P w K mg base 1 A2 "refuse_unknown_reader" z0N (z50 (BkD K A2 A1))) (R1:Mkr P w K mg base 3 A0 "Shelf" z2S (y1b K A0 (ShD K A0)))
  (K9:C8 P w K mg base 1 A0 "put" z6a (y6G (ShD K A0))):A7 P w K mg base CX0 6 f fd z2b (z4l (BkD K A2 A1) (ShD K A0)):=by
 have nd:=z6F.nd
 refine F.ok z6F (fun vs H Q E h=>?_) (fun cdv A outer s H vs Q E hr h=>?_)
 ·obtain⟨p,fp,zs,r,k,rows,log,rd,o,rfl,_⟩:=h
  rfl
 obtain⟨p,fp,zs,r,k,rows,log,rd,o,rfl,bk,r1,r2,od,q⟩:=h
 refine⟨_,(z04 (z0s (i:=3) nd rfl (Or.inl rfl) (z76 (z5J (z8K (pv 2))) (z0d z0a rfl M.len bR (z00 (z0I (pv 0) rfl) z02)) (pv 2))) (z04 (z0G (PW.pt (z3l (z09 z8l (pv 3) z06 (z0o _)) (z25 (z09 z2P (pv 3) (z0d z0a rfl M.len bR (z00 (z0I (pv 0) rfl) z02)) (z0o _))))) (z05 z1x) z0n) (z04 (z0y (z1l A6 (rm hr) (pv 0) (z00 (pv 1) z02))) (z04 (z0s (i:=4) nd rfl (Or.inl rfl) (y14 R1 (rm hr) rfl (z00 (z0I (z0I (pv 0) rfl) rfl) (z00 (z0I (z0I (pv 0) rfl) rfl) z02)))) (z04 (z15 bY rfl (z1I (z2I y0z (z0I (pv 0) rfl) z3E (z3I (pv 3)))) (z0k (i:=5) nd rfl (Or.inl rfl)) (z05 (z0G (z09 (y6v hr.Q8) (z2I y2Y (pv 5) z3E (z3I z06)) (z0V (z00 (z2h rfl M.DELIVER) (z00 (pv 1) z02))) (z0o _)) (z05 (z0y (z1l K9 (rm hr) (pv 4) (z00 (z1l B6 (rm hr) (z0I (pv 0) rfl) (z00 (z0D z0C (pv 5) z06 (fun _ _=>rfl)) z02)) z02)))) z0n))) (z05 (z0i (pv 4)))))))),?_⟩
 obtain⟨dx,po,pd,fs,fo,us,rfl,B⟩:=id bk
 obtain⟨dxo,pno,plo,fso,xso,efo,h1,h2,h3,h4,l1,l2,l3,lmo,_,_,_,g,r0,r10⟩:=id B.of
 have lu:=z1a B.ds
 have cle:o.getD log.length≤log.length:=by
  cases o with
  | none=>exact bH _
  | some d=>exact od d rfl
 have beh:∀(Qk:VK),Qk (.int (o.getD log.length:Nat)) H->tIf (tB (tIsN (V0 2))) (tCB (fun xs H_1 Q=>∃p ys,xs=[V.ref p]/\(SqL K H_1 p ys\/SqT K H_1 p ys)/\Q (V.int ys.length) H_1) (y69 (tFld K (V0 0) "done") V1)) (V0 2) (z6b ["self","reader","deed","behind","told","past"] [.ref p,.int rd,Z5 o]) H Qk:=fun Qk hq=>by
  cases o with
  | none=>
   refine⟨_,rfl,_,rfl,E9 ⟨_,rfl,p,A2,dx,fs,_,rfl,B.hp,T.cl,T.n_done,B.ld,pd,us,rfl,.inl (SqL.of B.hd),?_⟩⟩
   rw[lu]
   exact hq
  | some d=>exact⟨_,rfl,_,rfl,B5 ⟨_,rfl,hq⟩⟩
 refine beh _ ?_
 generalize o.getD log.length=c at cle q
 clear beh
 refine⟨_,rfl,_,_,rfl,rfl,_,rfl,B3 (fun q=>absurd (z0M q) (by omega)) fun _=>⟨_,rfl,_,rfl,p,A2,dx,fs,_,rfl,B.hp,T.cl,T.n_done,B.ld,pd,us,rfl,.inl (SqL.of B.hd),_,_,rfl,rfl,_,rfl,B3 (fun q=>absurd (z0M q) (by omega)) fun _=>?_⟩⟩
 refine⟨_,rfl,p,dx,fs,rfl,B.hp,B.lm _ (by simp),_,rfl,p,_,zs,r,k,rows,log,rd,rfl,bk,r1,r2,?_⟩
 refine⟨_,rfl,p,A2,dx,fs,_,rfl,B.hp,T.cl,T.n_office,B.lo,po,A1,dxo,fso,_,rfl,h1,TO.cl,TO.n_names,l1,_,rfl,p,A2,dx,fs,_,rfl,B.hp,T.cl,T.n_office,B.lo,po,A1,dxo,fso,_,rfl,h1,TO.cl,TO.n_reach,l2,fun x dxs nx ndx ne=>?_⟩
 have m1:=z5X (C:=A0) (A4.refl H) nx ndx
 refine⟨x,dxs,pno,zs,r,rfl,z03,ne,by rw[z0h ne,z03],.inr (m1 _ _ h3),g,r0,r10,fun fq H1 ff sb sh=>⟨rfl,?_⟩⟩
 have s1:A4 H H1:=z5w sb m1 nx
 have f1:∀b∈fq,H b=none:=fun b hb=>z4s m1 nx ndx (ff b hb)
 have sh1:ShD K A0 H1 x fq zs r (fun n=>z0S rows n r) []:=sh _
 refine⟨_,rfl,p,A2,dx,fs,_,rfl,s1 _ _ B.hp,T.cl,T.n_done,B.ld,_,rfl,_,rfl,pd,_,rfl,SqL.of (s1 _ _ B.hd),fun lq hlq=>?_⟩
 rw[y3y (by omega)]
 have s2:=s1.trans (z01 hlq (.lst (us.take c)))
 have e2:upd H1 lq (.lst (us.take c)) lq=some (.lst (us.take c)):=z03
 have sh2:=F8.same sh1 (z01 hlq (.lst (us.take c)))
 have f2:lq∉fq:=fun m=>by
  obtain⟨o,e,_⟩:=F8.own sh1 lq m
  rw[hlq] at e
  cases e
 generalize upd H1 lq (.lst (us.take c))=H2 at s2 e2 sh2
 have nt2:z54 H2 fq:=F8.L8 sh2
 have out:∀{b:Addr}{o:HO},H b=some o->b∉fq:=fun e m=>by rw[f1 _ m] at e;cases e
 have lt:(us.take c).length=c:=by rw[bI];omega
 refine⟨lq,rfl,⟨_,SqL.of e2⟩,z22 (K:=K) (a:=lq) (xs:=us.take c) (fun i σ H'=>∃(fq':List Addr) (o5:Option V),z0x fq H2 H'/\ShD K A0 H' x fq' zs r (fun n=>z0S rows n r) (D4 ((log.take c).take i) rd)/\(∀b∈fq',b∈fq\/H2 b=none)/\
   σ=[some (.ref p),some (.int rd),some (Z5 o),some (.int c),some (.ref x),o5]) ⟨fq,none,.of (A4.refl _),sh2,fun b m=>.inl m,rfl⟩ (fun i σ H' _ ⟨_,_,bt,_⟩=>SqL.of (bt _ _ e2 f2)) ?_ ?_⟩
 ·rintro i u σ H' hi ⟨fq',o5,bt,shx,ffx,rfl⟩
  obtain⟨d,ed,b,rfl,hb⟩:=z99 B.ds c i u hi
  have sk:∀{b:Addr}{o:HO},H b=some o->H' b=some o:=fun e=>bt _ _ (s2 _ _ e) (out e)
  have hin:=B.in1 d (dU (bV ed))
  have l2d:2≤(z23 d).length:=by
   obtain⟨a,m⟩:=d
   cases a
   ·show 2≤2;decide
   ·show 2≤3;decide
  have cut:∀(Qk:VK),(∀(t1:Addr) (G:Hp),A4 H' G->G t1=some (.tup ((z23 d).take 2))->Qk (.ref t1) G)->rSlA K (.ref b) none (some 2) H' Qk:=fun Qk hq=>by
   refine⟨b,_,rfl,SqT.of (sk hb),fun hw=>hq b H' (A4.refl _) ?_,fun _ t1 ht1=>hq t1 _ (z01 ht1 _) ?_⟩
   ·rw[sk hb,cO]
    have:=hw.2
    have e:HT.sIx (z23 d).length (z23 d).length (some (2:Int))=min 2 (z23 d).length:=HT.z97 _ _ 2
    omega
   ·rw[z03]
    exact congrArg (fun z=>some (HO.tup z)) (y3y (k:=2) l2d)
  refine⟨_,rfl,_,rfl,cut _ fun t1 G sG e1'=>⟨_,rfl,(by show 2≤sizeLine;decide),fun t2 ht2=>?_⟩⟩
  have s3:=sG.trans (z01 ht2 (.tup [V.str "deliver",V.int rd]))
  have e3:upd G t2 (.tup [V.str "deliver",V.int rd]) t1=some (.tup ((z23 d).take 2)):=z01 ht2 _ _ _ e1'
  have e4:upd G t2 (.tup [V.str "deliver",V.int rd]) t2=some (.tup [V.str "deliver",V.int rd]):=z03
  generalize upd G t2 (.tup [V.str "deliver",V.int rd])=H3 at s3 e3 e4
  have fl:((z23 d).take 2).all z1Y=true:=by
   obtain⟨a,m⟩:=d
   cases a<;>rfl
  refine⟨t1,t2,_,_,rfl,rfl,SqT.of e3,SqT.of e4,fl,rfl,_,rfl,?_⟩
  rw[y4Q,z0j ed,z9w]
  have sh3:=F8.same shx s3
  refine B3 (fun cc=>?_) (fun cc=>?_)
  ·have c':=z0M cc
   rw[if_pos c']
   obtain⟨a,n⟩:=d
   have ea:a=some rd:=c'
   subst ea
   obtain⟨d1,g1,z1,w1⟩:=F8.ins sh3
   refine⟨_,rfl,x,d1,g1,rfl,z1,w1 _ (by simp),_,rfl,p,A2,dx,fs,_,rfl,s3 _ _ (sk B.hp),T.cl,T.n_office,B.lo,po,dxo,fso,rfl,s3 _ _ (sk h1),lmo _ (by simp),_,rfl,b,_,2,_,rfl,rfl,SqT.of (s3 _ _ (sk hb)),rfl,po,fo,zs,r,rows,n,rfl,?_,hin.1,hin.2,fun v H4 s4 tv=>?_⟩
   ·exact O7.same (O7.keep (O7.same B.of s2) bt (fun b m z=>by
     obtain⟨o,e,_⟩:=O7.own B.of b z
     exact out e m) nt2) s3
   have n60:rows.length≤60:=by
    obtain⟨_,_,_,_,_,_,_,_,_,_,_,_,_,_,_,n60,_⟩:=B.of
    exact n60
   refine⟨x,v,fq',zs,r,_,_,n,_,rfl,F8.same sh3 s4,tv,rfl,hin.1,by have:=hin.2;have:n≤rows.length:=this;omega,fun fq2 H5 ff5 sb5 sh5=>?_⟩
   have g4:=s3.trans s4
   exact⟨fq2,_,(fun b o e nb=>sb5 b o (g4 _ _ (bt b o e nb)) fun m=>(ffx b m).elim nb fun z=>by rw[e] at z;cases z),sh5,y2g bt ffx g4 ff5,rfl⟩
  ·have c':=z4h cc
   rw[if_neg c']
   exact⟨fq',_,fun b o e nb=>s3 _ _ (bt b o e nb),sh3,ffx,rfl⟩
 ·rintro σ H' ⟨fq',o5,bt,shx,ffx,rfl⟩
  rw[lt,List.take_take,Nat.min_self] at shx
  exact⟨_,rfl,q x fq' H' (fun b m=>(ffx b m).elim (f1 b) fun z=>s2.free z) (fun b o e=>bt _ _ (s2 _ _ e) (out e)) shx⟩
def HT(H:Hp)(u:V)(p:Str×Int):Prop:=∃b,u=.ref b/\H b=some (.tup [.str p.1,.int p.2])
theorem HT.keep{H H':Hp}(g:A4 H H'):∀{us:List V}{pr:Row},Paired (HT H) us pr->Paired (HT H') us pr
 | _,_,.nil=>.nil
 | _,_,.cons ⟨b,e,h⟩ t=>.cons ⟨b,e,g _ _ h⟩ (HT.keep g t)
theorem HT.hand{K:PySem.W.Frag}{H:Hp}{fp:List Addr}(no:z54 H fp):∀{us:List V}{pr:Row},Paired (HT H) us pr->Paired (z92 K H fp) us pr
 | _,_,.nil=>.nil
 | _,_,.cons ⟨b,e,h⟩ t=>.cons ⟨b,e,.inr (SqT.of h),fun m=>no b m _ h⟩ (HT.hand no t)
def P4(hs:List Int):List A9:=hs.map fun n=>(some 1,n)
theorem y2D(hs:List Int)(n:Int):P4 (hs++[n])=P4 hs++[(some 1,n)]:=by
 unfold P4
 rw[bG]
 rfl
theorem z9J{ns ms:List Int}(h:∀x,x∈ns↔x∈ms)(B7:∀x∈ms,1≤x/\x≤60)(x:Int):x∈z0e ns↔x∈ms:=by
 rw[z11,h]
 exact⟨fun q=>q.2,fun q=>⟨by have:=B7 x q;omega,q⟩⟩
theorem z74{H:Hp}:∀{w:Row}{xs:List V},z08 H (w.map z9m) xs->Paired (HT H) xs w
 | [],xs,h=>by
  rw[z0F h]
  exact .nil
 | p::w,xs,h=>by
  obtain⟨x,r,rfl,t,h'⟩:=z0c h
  obtain⟨a,us,rfl,ea,_,tu⟩:=z0b (show A5 H (.tup [.str p.1,.int p.2]) x from t)
  obtain⟨y1,r1,rfl,t1,h3⟩:=z0c tu
  obtain⟨y2,r2,rfl,t2,h4⟩:=z0c h3
  have:=z0F h4
  subst this
  rw[z35 t1,z0Y t2] at ea
  exact .cons ⟨a,rfl,ea⟩ (z74 h')
def y5b(Sh:ShP):Sp:=fun vs H Q _=>∃(x:Addr) (fp:List Addr) (nm:List Str) (r:Int) (rows:List Row) (had:List Int),vs=[.ref x]/\Sh H x fp nm r (fun n=>z0S rows n r) had/\D9 nm/\Rws nm rows/\rows.length≤60/\(∀n∈had,1≤n/\n≤rows.length)/\0≤r/\r≤10/\
 ∀(v:V) (H':Hp),A4 H H'->A5 H' (z8P nm (z0e had) rows r) v->Q v H'
theorem y1U(nm:List Str)(ns:List Int)(rows:List Row)(r:Int):(z8P nm ns rows r).deep≤2:=z2l fun d hd=>by
 obtain⟨z,_,rfl⟩:=cK.mp hd
 unfold U3
 refine z2l fun d hd=>?_
 rcases bF.mp hd with rfl|hd
 ·exact z79 _ _
 rcases bF.mp hd with rfl|hd
 ·exact z79 _ _
 rcases bF.mp hd with rfl|hd
 ·exact z30 _ _
 rw[bC.mp hd]
 cases z0W (z0e ns) rows z with
 | none=>unfold y4C DV.deep;exact cT _
 | some p=>exact z30 _ _
def z9s(Sh:ShP):Sp:=fun vs H Q _=>∃(x:Addr) (fp:List Addr) (nm:List Str) (r:Int) (rows:List Row) (had:List Int),vs=[.ref x]/\Sh H x fp nm r (fun n=>z0S rows n r) had/\D9 nm/\Rws nm rows/\rows.length≤60/\(∀n∈had,1≤n/\n≤rows.length)/\0≤r/\r≤10/\
 ∀(v:V) (H':Hp),A4 H H'->A5 H' (.tup (z6X (z0e had) rows r)) v->Q v H'
def y5s(K:PySem.W.Frag):Sp:=fun vs H Q _=>∃(p:Addr) (ns:List Int),vs=[.ref p]/\SqI K H p ns/\(∀x∈ns,1≤x/\x≤60)/\
 ∀(l:Addr) (H':Hp),H l=none->A4 H H'->H' l=some (.tup ((z1j ns).map V.int))->Q (.ref l) H'
theorem y6l(M:Bl mg)(F:Fun K "lacking_numbers" "lacking_numbers" z2B f fd):A7 P w K mg base CX0 1 f fd z2z (y5s K):=by
 have nd:=z3v.nd
 refine F.ok z3v (fun vs H Q E h=>?_) (fun cdv A outer s H vs Q E hr h=>?_)
 ·obtain⟨p,ns,rfl,_⟩:=h
  rfl
 obtain⟨p,ns,rfl,hS,B7,q⟩:=h
 refine⟨_,(z04 (z0s (i:=1) nd rfl (Or.inl rfl) (y3g rfl rfl M.max (z00 (pv 0) z02) (z91 z06 y0X))) (z05 (z0i (z0t z0m rfl M.tuple bL (z00 (z1i ["number"] ["had"] [0] rfl (z0w rfl (by decide +kernel) rfl (by decide +kernel) rfl rfl) (z5v rfl M.range (z00 z06 (z00 (z0q z1m (pv 1) z06) z02))) (fun _ _ _ _ _=>(z0k (i:=0) (show((["number"]:List PySem.Str)++(["had"]:List PySem.Str)).Nodup from by decide +kernel) rfl (Or.inl rfl))) (z0z (by decide)) z0g (fun _ _ _ _ _=>(z3c (z09 (r:=rIn K true) z1T (pv 0) (pv 1) (by with_unfolding_all rfl)))) (fun _ _ _ _ _=>(pv 0))) z02))))),?_⟩
 refine⟨_,rfl,p,ns,.int 0,rfl,rfl,hS,fun hnil=>?_,fun m hm top=>?_⟩
 ·subst hnil
  refine⟨_,rfl,_,_,rfl,rfl,_,_,rfl,⟨by decide,by decide,by decide,by decide⟩,?_⟩
  refine z9t (lo:=1) (n:=0) (fun _=>true) (fun k=>.int k) (by decide) (fun k ys N k0 k1 hN=>by omega) ?_
  intro D hD
  refine⟨D,_,rfl,.inl ⟨SqL.of z03,fun l hl=>?_⟩⟩
  have h1:H l=none:=(z01 hD _).free hl
  refine q l _ h1 ((z01 hD _).trans (z01 hl _)) ?_
  rw[z03,z9L]
  rfl
 ·have hm':=B7 m hm
  refine⟨_,rfl,_,_,rfl,rfl,_,_,rfl,⟨by decide,by decide,by omega,by omega⟩,?_⟩
  refine z9t (lo:=1) (n:=(m+1-1).toNat) (fun k=>!decide (k∈ns)) (fun k=>.int k) (by omega) (fun k ys N k0 k1 hN=>?_) ?_
  ·refine⟨_,rfl,_,rfl,p,_,rfl,hS,rfl,z2t ns,_,rfl,?_⟩
   rw[if_pos rfl,z36]
   refine B3 (fun c=>?_) (fun c=>?_)
   ·rw[if_pos c] at hN
    exact⟨_,rfl,hN⟩
   ·rw[if_neg c] at hN
    exact hN
  ·intro D hD
   refine⟨D,_,rfl,.inl ⟨SqL.of z03,fun l hl=>?_⟩⟩
   have h1:H l=none:=(z01 hD _).free hl
   refine q l _ h1 ((z01 hD _).trans (z01 hl _)) ?_
   rw[z03]
   have e:z2H (fun k=>!decide (k∈ns)) (fun k=>V.int k) (upI 1 (m+1-1).toNat)=(z1j ns).map V.int:=by
    unfold z2H
    rw[y3G hm B7 top]
   rw[e]
def y1h(K:PySem.W.Frag):Sp:=fun vs H Q _=>∃(p:Addr) (ns:List Int) (n r:Int),vs=[.ref p,.int n,.int r]/\SqI K H p ns/\(∀x∈ns,1≤x/\x≤60)/\ns.length≤900/\
 ∀H',A4 H H'->Q (.int (z0L ns n r)) H'
theorem y3M(M:Bl mg)(F:Fun K "teller_of" "teller_of" z6q f fd):A7 P w K mg base CX0 1 f fd z6o (y1h K):=by
 have nd:=z7P.nd
 refine F.ok z7P (fun vs H Q E h=>?_) (fun cdv A outer s H vs Q E hr h=>?_)
 ·obtain⟨p,ns,n,r,rfl,_⟩:=h
  rfl
 obtain⟨p,ns,n,r,rfl,hS,B7,hlen,q⟩:=h
 have fin:∀D,H D=none->(z2H (fun y=>decide (n<y) && decide (y-r≤n)) (fun y=>V.int y) ns=(ns.filter fun y=>decide (n<y) && decide (y-r≤n)).map V.int):=fun _ _=>rfl
 have X1:(ns.filter fun y=>decide (n<y) && decide (y-r≤n))=[]->z0L ns n r=0:=fun e=>z4x fun y hy h1 h2=>by
  have:y∈ns.filter fun y=>decide (n<y) && decide (y-r≤n):=cJ.mpr ⟨hy,by rw[decide_eq_true h1,decide_eq_true h2];rfl⟩
  rw[e] at this
  cases this
 have W9:∀m,m∈(ns.filter fun y=>decide (n<y) && decide (y-r≤n))->(∀y∈(ns.filter fun y=>decide (n<y) && decide (y-r≤n)),m≤y)->z0L ns n r=m:=fun m hm hl=>by
  rw[cJ,bW,decide_eq_true_eq,decide_eq_true_eq] at hm
  exact y1v B7 hm.1 hm.2.1 hm.2.2 fun y hy h1 h2=>hl y (cJ.mpr ⟨hy,by rw[decide_eq_true h1,decide_eq_true h2];rfl⟩)
 rcases hS with hS|hS
 ·refine⟨_,(z04 (z6j (i:=3) ["above"] ["number","reach"] [1,2] rfl nd rfl (Or.inl rfl) (z0w rfl (by decide +kernel) rfl (by decide +kernel) rfl rfl) (z1I (pv 0)) (fun _ _ _ _ _=>(z0k (i:=0) (show((["above"]:List PySem.Str)++(["number","reach"]:List PySem.Str)).Nodup from by decide +kernel) rfl (Or.inl rfl))) (z0z (by decide)) z0g (fun _ _ _ _ _=>(z3c (PW.pt (z4i (z09 z2P (pv 0) (pv 1) (z0o _)) (z3j (z09 y4G (z0q z1M (pv 0) (pv 2)) (pv 1) (z0o _))))))) (fun _ _ _ _ _=>(pv 0))) (z05 (z0i (y3U rfl rfl M.min (z00 (pv 3) z02) (z91 z06 y0X))))),?_⟩
  refine⟨_,rfl,p,rfl,⟨_,hS⟩,?_⟩
  refine y0a (ns:=ns) (fun y=>decide (n<y) && decide (y-r≤n)) (fun y=>.int y) hS (by omega) (fun y ys N hy hN=>?_) (fun D hD=>?_)
  ·refine⟨_,rfl,_,rfl,_,_,rfl,rfl,_,rfl,?_⟩
   refine B3 (fun c=>?_) (fun c=>?_)
   ·refine⟨_,rfl,_,rfl,_,_,rfl,rfl,_,rfl,_,_,rfl,rfl,_,rfl,?_⟩
    rw[c,fV] at hN
    refine B3 (fun c2=>?_) (fun c2=>?_)
    ·rw[if_pos c2] at hN
     exact⟨_,rfl,hN⟩
    ·rw[if_neg c2] at hN
     exact hN
   ·rw[gS.mpr c,gM] at hN
    exact B5 hN
  ·refine⟨_,rfl,D,_,.int 0,rfl,rfl,.inl (SqL.of z03),fun e=>?_,fun m hm hl=>?_⟩
   ·have:=q _ (z01 hD (.lst (z2H (fun y=>decide (n<y) && decide (y-r≤n)) (fun y=>V.int y) ns)))
    rw[X1 e] at this
    exact this
   ·have:=q _ (z01 hD (.lst (z2H (fun y=>decide (n<y) && decide (y-r≤n)) (fun y=>V.int y) ns)))
    rw[W9 m hm hl] at this
    exact this
 ·refine⟨_,(z04 (z6j (i:=3) ["above"] ["number","reach"] [1,2] rfl nd rfl (Or.inl rfl) (z0w rfl (by decide +kernel) rfl (by decide +kernel) rfl rfl) (z2r (pv 0)) (fun _ _ _ _ _=>(z0k (i:=0) (show((["above"]:List PySem.Str)++(["number","reach"]:List PySem.Str)).Nodup from by decide +kernel) rfl (Or.inl rfl))) (z0z (by decide)) z0g (fun _ _ _ _ _=>(z3c (PW.pt (z4i (z09 z2P (pv 0) (pv 1) (z0o _)) (z3j (z09 y4G (z0q z1M (pv 0) (pv 2)) (pv 1) (z0o _))))))) (fun _ _ _ _ _=>(pv 0))) (z05 (z0i (y3U rfl rfl M.min (z00 (pv 3) z02) (z91 z06 y0X))))),?_⟩
  refine⟨_,rfl,p,rfl,⟨_,hS⟩,?_⟩
  refine z8G (ns:=ns) (fun y=>decide (n<y) && decide (y-r≤n)) (fun y=>.int y) hS (by omega) (fun y ys N hy hN=>?_) (fun D hD=>?_)
  ·refine⟨_,rfl,_,rfl,_,_,rfl,rfl,_,rfl,?_⟩
   refine B3 (fun c=>?_) (fun c=>?_)
   ·refine⟨_,rfl,_,rfl,_,_,rfl,rfl,_,rfl,_,_,rfl,rfl,_,rfl,?_⟩
    rw[c,fV] at hN
    refine B3 (fun c2=>?_) (fun c2=>?_)
    ·rw[if_pos c2] at hN
     exact⟨_,rfl,hN⟩
    ·rw[if_neg c2] at hN
     exact hN
   ·rw[gS.mpr c,gM] at hN
    exact B5 hN
  ·refine⟨_,rfl,D,_,.int 0,rfl,rfl,.inl (SqL.of z03),fun e=>?_,fun m hm hl=>?_⟩
   ·have:=q _ (z01 hD (.lst (z2H (fun y=>decide (n<y) && decide (y-r≤n)) (fun y=>V.int y) ns)))
    rw[X1 e] at this
    exact this
   ·have:=q _ (z01 hD (.lst (z2H (fun y=>decide (n<y) && decide (y-r≤n)) (fun y=>V.int y) ns)))
    rw[W9 m hm hl] at this
    exact this
def Pr(H:Hp)(u:V)(p:Int×Int):Prop:=∃a,u=.ref a/\H a=some (.tup [.int p.1,.int p.2])
theorem Pr.keep{H H':Hp}(s:A4 H H'){u:V}{p:Int×Int}(h:Pr H u p):Pr H' u p:=let ⟨a,e,q⟩:=h;⟨a,e,s _ _ q⟩
abbrev Prs(H:Hp):List V->List (Int×Int)->Prop:=Paired (Pr H)
theorem Prs.keep{H H':Hp}(s:A4 H H'):∀{xs:List V}{ps:List (Int×Int)},Prs H xs ps->Prs H' xs ps
 | _,_,.nil=>.nil
 | _,_,.cons r t=>.cons (r.keep s) (Prs.keep s t)
theorem Prs.get{H:Hp}:∀{xs:List V}{ps:List (Int×Int)},Prs H xs ps->∀(i:Nat) (u:V),xs[i]? = some u->∃p,ps[i]? = some p/\Pr H u p
 | _,_,.nil,i,u,e=>by simp at e
 | _,_,.cons r t,0,u,e=>by
  simp at e
  subst e
  exact⟨_,rfl,r⟩
 | _,_,.cons r t,i+1,u,e=>by
  obtain⟨p,h1,h2⟩:=Prs.get t i u (by simpa using e)
  exact⟨p,by simpa using h1,h2⟩
theorem Prs.snoc{H:Hp}{xs:List V}{ps:List (Int×Int)}{u:V}{p:Int×Int}(h:Prs H xs ps)(q:Pr H u p):Prs H (xs++[u]) (ps++[p]):=fL h q
theorem Prs.len{H:Hp}:∀{xs:List V}{ps:List (Int×Int)},Prs H xs ps->xs.length=ps.length
 | _,_,.nil=>rfl
 | _,_,.cons _ t=>by rw[cB,cB,Prs.len t]
def Q1(ns:List Int)(r:Int):List (Int×Int):=(z1j ns).map fun n=>(n,z0L ns n r)
def z4Z(ns:List Int)(r:Int):List Int:=((Q1 ns r).filter fun q=>decide (q.2=0)).map Prod.fst
def y6n(K:PySem.W.Frag):Sp:=fun vs H Q _=>∃(p:Addr) (ns:List Int) (r:Int),vs=[.ref p,.int r]/\SqI K H p ns/\(∀x∈ns,1≤x/\x≤60)/\ns.length≤900/\
 ∀(l:Addr) (xs:List V) (H':Hp),A4 H H'->H' l=some (.tup xs)->Prs H' xs (Q1 ns r)->Q (.ref l) H'
theorem y6w(M:Bl mg)(F:Fun K "lacking_with_tellers" "lacking_with_tellers" z1B f fd)(F1:Cal P w K mg base 1 "lacking_numbers" z2z (y5s K))
  (N6:Cal P w K mg base 1 "teller_of" z6o (y1h K)):A7 P w K mg base CX0 2 f fd z17 (y6n K):=by
 have nd:=z2a.nd
 refine F.ok z2a (fun vs H Q E h=>?_) (fun cdv A outer s H vs Q E hr h=>?_)
 ·obtain⟨p,ns,r,rfl,_⟩:=h
  rfl
 obtain⟨p,ns,r,rfl,hS,B7,hlen,q⟩:=h
 refine⟨_,(z05 (z0i (z0t z0m rfl M.tuple bL (z00 (z1i ["number"] ["had","reach"] [0,1] rfl (z0w rfl (by decide +kernel) rfl (by decide +kernel) rfl rfl) (z2r (z0l F1 (rm hr) rfl (z00 (pv 0) z02))) (fun _ _ _ _ _=>(z0k (i:=0) (show((["number"]:List PySem.Str)++(["had","reach"]:List PySem.Str)).Nodup from by decide +kernel) rfl (Or.inl rfl))) (z0z (by decide)) z0g (fun _ _ _ _ _=>z1K) (fun _ _ _ _ _=>(z0V (z00 (pv 0) (z00 (z0l N6 (rm hr) rfl (z00 (pv 1) (z00 (pv 0) (z00 (pv 2) z02)))) z02))))) z02)))),?_⟩
 refine⟨_,rfl,p,ns,rfl,hS,B7,fun lt H1 nlt s1 e1=>⟨lt,rfl,⟨_,SqT.of e1⟩,?_⟩⟩
 have ll:=z2s ns
 refine z1u (xs:=(z1j ns).map V.int) (fun i ys H'=>A4 H1 H'/\Prs H' ys (((z1j ns).take i).map fun n=>(n,z0L ns n r))) ⟨A4.refl _,.nil⟩ (fun i ys H' hi hp=>?_) (fun i x ys H' hx hp=>?_) (fun ys H' hp=>?_)
 ·obtain⟨g,pr⟩:=hp
  refine⟨SqT.of (g _ _ e1),z0f ?_⟩
  rw[pr.len,bA,bI]
  omega
 ·obtain⟨g,pr⟩:=hp
  rw[bE] at hx
  cases e:(z1j ns)[i]? with
  | none=>rw[e] at hx;cases hx
  | some n=>
   rw[e] at hx
   cases hx
   refine⟨_,rfl,_,rfl,_,rfl,_,rfl,p,ns,n,r,rfl,SqI.keep (s1.trans g) hS,B7,hlen,fun H2 g2=>⟨(by show 2≤sizeLine;decide),fun t ht=>?_⟩⟩
   refine⟨g.trans (g2.trans (z01 ht _)),?_⟩
   rw[z0j e,bG]
   exact Prs.snoc (pr.keep (g2.trans (z01 ht _))) ⟨t,rfl,z03⟩
 ·obtain⟨g,pr⟩:=hp
  rw[bA,bP] at pr
  intro D hD
  refine⟨D,_,rfl,.inl ⟨SqL.of z03,fun l hl=>?_⟩⟩
  exact q l ys _ (s1.trans (g.trans ((z01 hD _).trans (z01 hl _)))) z03 (pr.keep ((z01 hD _).trans (z01 hl _)))
def y3s(K:PySem.W.Frag):Sp:=fun vs H Q _=>∃(p:Addr) (ns:List Int) (r:Int),vs=[.ref p,.int r]/\SqI K H p ns/\(∀x∈ns,1≤x/\x≤60)/\ns.length≤900/\
 ∀(l:Addr) (H':Hp),A4 H H'->H' l=some (.tup ((z4Z ns r).map V.int))->Q (.ref l) H'
theorem y39(ns:List Int)(r:Int):(Q1 ns r).length≤60:=by
 unfold Q1
 rw[bA]
 exact z2s ns
theorem y5G(M:Bl mg)(F:Fun K "dark_numbers" "dark_numbers" z3N f fd)(B2:Cal P w K mg base 2 "lacking_with_tellers" z17 (y6n K)):A7 P w K mg base CX0 3 f fd z2G (y3s K):=by
 have nd:=z4M.nd
 refine F.ok z4M (fun vs H Q E h=>?_) (fun cdv A outer s H vs Q E hr h=>?_)
 ·obtain⟨p,ns,r,rfl,_⟩:=h
  rfl
 obtain⟨p,ns,r,rfl,hS,B7,hlen,q⟩:=h
 refine⟨_,(z05 (z0i (z0t z0m rfl M.tuple bL (z00 (z1i ["number","teller"] [] [] rfl (z0w rfl (by decide +kernel) rfl (by decide +kernel) rfl rfl) (z2r (z0l B2 (rm hr) rfl (z00 (pv 0) (z00 (pv 1) z02)))) (fun _ _ _ _ _=>(z9i (K:=K) (n:=2) rfl rfl (z1g (z0k (i:=0) (show((["number","teller"]:List PySem.Str)++([]:List PySem.Str)).Nodup from by decide +kernel) rfl (Or.inl rfl)) (z1g (z0k (i:=1) (show((["number","teller"]:List PySem.Str)++([]:List PySem.Str)).Nodup from by decide +kernel) rfl (Or.inl rfl)) z5c)))) (z9h (z26 (z0z (by decide)) z0g (z26 (z0z (by decide)) z0g z7y z1h) (z0O z0g z1h))) (z78 (z0O z0g (z0O z0g z1h))) (fun _ _ _ _ _=>(z3c (z09 z2L (pv 1) z06 (z0o _)))) (fun _ _ _ _ _=>(pv 0))) z02)))),?_⟩
 refine⟨_,rfl,_,rfl,p,ns,r,rfl,hS,B7,hlen,fun lt xs H1 s1 e1 pr1=>⟨lt,rfl,⟨_,SqT.of e1⟩,?_⟩⟩
 have ll:=y39 ns r
 have lx:=pr1.len
 refine z1u (xs:=xs) (fun i ys H'=>H'=H1/\ys=(((Q1 ns r).take i).filter fun q=>decide (q.2=0)).map fun q=>V.int q.1) ⟨rfl,rfl⟩ (fun i ys H' hi hp=>?_) (fun i x ys H' hx hp=>?_) (fun ys H' hp=>?_)
 ·obtain⟨rfl,rfl⟩:=hp
  refine⟨SqT.of e1,z0f ?_⟩
  have h1:=cI (fun q:Int×Int=>decide (q.2=0)) ((Q1 ns r).take i)
  rw[bA]
  rw[bI] at h1
  omega
 ·obtain⟨rfl,rfl⟩:=hp
  obtain⟨⟨n,t⟩,e,a,rfl,ha⟩:=pr1.get i x hx
  refine⟨a,_,rfl,SqT.of ha,rfl,_,_,rfl,_,_,rfl,rfl,?_⟩
  refine⟨_,rfl,rfl,_,rfl,?_⟩
  rw[z0j e,dJ,eB,bG]
  refine B3 (fun c=>?_) (fun c=>?_)
  ·have c':decide (t=0)=true:=decide_eq_true (V.int.inj (z0M c))
   refine⟨_,rfl,rfl,?_⟩
   rw[if_pos c']
   rfl
  ·have c':¬decide (t=0)=true:=fun z=>c (decide_eq_true (congrArg V.int (z0M z)))
   refine⟨rfl,?_⟩
   rw[if_neg c']
   simp
 ·obtain⟨rfl,rfl⟩:=hp
  rw[lx,bP]
  intro D hD
  refine⟨D,_,rfl,.inl ⟨SqL.of z03,fun l hl=>?_⟩⟩
  refine q l _ (s1.trans ((z01 hD _).trans (z01 hl _))) ?_
  rw[z03]
  unfold z4Z
  rw[dL]
  rfl
theorem y3J(ns:List Int)(r:Int):(z4Z ns r).length≤60:=by
 have h:=cI (fun q:Int×Int=>decide (q.2=0)) (Q1 ns r)
 have:=y39 ns r
 unfold z4Z
 rw[bA]
 omega
def y0h(ns:List Int)(r b:Int):List Int:=(z4Z ns r).filter fun y=>decide (b<y)
def y1q(K:PySem.W.Frag):Sp:=fun vs H Q _=>∃(p:Addr) (ns:List Int) (r b:Int),vs=[.ref p,.int r,.int b]/\SqI K H p ns/\(∀x∈ns,1≤x/\x≤60)/\ns.length≤900/\
 ∀(l:Addr) (H':Hp),A4 H H'->H' l=some (.tup ((y0h ns r b).map V.int))->Q (.ref l) H'
theorem y2B(M:Bl mg)(F:Fun K "dark_numbers_behind" "dark_numbers_behind" z1J f fd)(C9:Cal P w K mg base 3 "dark_numbers" z2G (y3s K)):A7 P w K mg base CX0 4 f fd z1L (y1q K):=by
 have nd:=z2w.nd
 refine F.ok z2w (fun vs H Q E h=>?_) (fun cdv A outer s H vs Q E hr h=>?_)
 ·obtain⟨p,ns,r,b,rfl,_⟩:=h
  rfl
 obtain⟨p,ns,r,b,rfl,hS,B7,hlen,q⟩:=h
 refine⟨_,(z05 (z0i (z0t z0m rfl M.tuple bL (z00 (z1i ["number"] ["behind"] [2] rfl (z0w rfl (by decide +kernel) rfl (by decide +kernel) rfl rfl) (z2r (z0l C9 (rm hr) rfl (z00 (pv 0) (z00 (pv 1) z02)))) (fun _ _ _ _ _=>(z0k (i:=0) (show((["number"]:List PySem.Str)++(["behind"]:List PySem.Str)).Nodup from by decide +kernel) rfl (Or.inl rfl))) (z0z (by decide)) z0g (fun _ _ _ _ _=>(z3c (z09 z2P (pv 0) (pv 1) (z0o _)))) (fun _ _ _ _ _=>(pv 0))) z02)))),?_⟩
 refine⟨_,rfl,_,rfl,p,ns,r,rfl,hS,B7,hlen,fun lt H1 s1 e1=>⟨lt,rfl,⟨_,SqT.of e1⟩,?_⟩⟩
 have ll:=y3J ns r
 refine z8G (ns:=z4Z ns r) (fun y=>decide (b<y)) (fun y=>.int y) (SqT.of e1) (by omega) (fun y ys N hy hN=>?_) (fun D hD=>?_)
 ·refine⟨_,rfl,_,rfl,_,_,rfl,rfl,_,rfl,?_⟩
  refine B3 (fun c=>?_) (fun c=>?_)
  ·rw[if_pos c] at hN
   exact⟨_,rfl,hN⟩
  ·rw[if_neg c] at hN
   exact hN
 ·exact⟨D,_,rfl,.inl ⟨SqL.of z03,fun l hl=>q l _ (s1.trans ((z01 hD _).trans (z01 hl _))) z03⟩⟩
def y1k(Sh:ShP):Sp:=fun vs H Q _=>∃(p:Addr) (fp:List Addr) (zs:List Str) (r:Int) (iss:Int->DV) (had:List Int) (n:Int) (d0 d1 d2:DV),vs=[.ref p,.int n]/\Sh H p fp zs r iss had/\n∈had/\iss n=.tup [d0,d1,d2]/\∀v,A5 H d2 v->Q v H
theorem z7c{kvs:List (Key×V)}{had:List Int}(kk:kvs.map (·.1)=had.map Sum.inl){n:Int}(h:n∈had):∃v,J1 kvs (Sum.inl n:Key)=some v/\((Sum.inl n:Key),v)∈kvs:=by
 have e:=z8Q kk n
 rw[decide_eq_true h] at e
 cases ev:J1 kvs (Sum.inl n:Key) with
 | none=>rw[ev] at e;cases e
 | some v=>
  refine⟨v,rfl,?_⟩
  unfold J1 at ev
  obtain⟨⟨k,u⟩,hf,rfl⟩:=cG.mp ev
  have h1:=gE hf
  have h2:=List.find?_some hf
  simp only[decide_eq_true_eq] at h2
  rw[h2] at h1
  exact h1
theorem y2d{A0:Addr}(M:Bl mg)(T:D0 K mg A0)(F:Fun K "tail_of" "Shelf.tail_of" z3i f fd):A7 P w K mg base CX0 1 f fd z39 (y1k (ShD K A0)):=by
 have nd:=z4j.nd
 refine F.ok z4j (fun vs H Q E h=>?_) (fun cdv A outer s H vs Q E hr h=>?_)
 ·obtain⟨p,fp,zs,r,iss,had,n,d0,d1,d2,rfl,_⟩:=h
  rfl
 obtain⟨p,fp,zs,r,iss,had,n,d0,d1,d2,rfl,sh,hn,en,k⟩:=h
 have hu:=y06 hr
 refine⟨_,(z05 (z0i (z0D z0C (z6m hu (z0I (pv 0) rfl) (pv 1) (fun _ _=>rfl)) z06 (fun _ _=>rfl)))),?_⟩
 obtain⟨dx,pn,pd,fs,kvs,rfl,h1,h2,h3,h4,l1,l2,l3,lm,kk,ndh,all,tl,g,r0,r1⟩:=sh
 obtain⟨v,ev,mv⟩:=z7c kk hn
 have tv:=tl n v mv
 rw[en] at tv
 obtain⟨a,us,rfl,ea,_,tu⟩:=z0b tv
 obtain⟨x0,ur,rfl,t0,tu⟩:=z0c tu
 obtain⟨x1,ur,rfl,t1,tu⟩:=z0c tu
 obtain⟨x2,ur,rfl,t2,tu⟩:=z0c tu
 refine⟨_,rfl,p,A0,dx,fs,_,rfl,h1,T.cl,T.n_issues,l3,_,rfl,pd,_,rfl,(by rw[<- ev];exact L6.k (k:=Sum.inl n) h4),?_⟩
 exact⟨a,_,_,x2,rfl,rfl,SqT.of ea,z0X rfl,k x2 t2⟩
theorem y4Y(n r:Int):(z4G n r).Nodup:=by
 have h:(dnI (n-1) (n-1).toNat).Nodup:=by
  unfold dnI
  rw[d5,dM]
  exact List.pairwise_lt_range.imp fun h=>by omega
 exact h.filter _
theorem y2G{n r k:Int}:k∈z4G n r↔1≤k/\k<n/\n-k≤r:=by
 unfold z4G
 rw[cJ,z7j,decide_eq_true_eq]
 omega
theorem z8z{K:PySem.W.Frag}{H:Hp}{rows:List Row}:∀{ks:List Int}{xs:List V},z08 H (ks.map (z8m rows)) xs->∃kvs:List (Key×V),Paired (y3S K H) xs kvs/\kvs.map (·.1)=ks.map Sum.inl/\∀k v,((Sum.inl k:Key),v)∈kvs->A5 H (K2 (z0A (z0v rows k))) v
 | [],xs,h=>by
  rw[z0F h]
  exact⟨[],.nil,rfl,fun _ _ q=>(nomatch q)⟩
 | k::ks,xs,h=>by
  obtain⟨x,r,rfl,t,h⟩:=z0c h
  obtain⟨kvs,p1,p2,p3⟩:=z8z h
  obtain⟨a,us,rfl,ea,_,tu⟩:=z0b t
  obtain⟨x0,ur,rfl,t0,tu⟩:=z0c tu
  obtain⟨x1,ur,rfl,t1,tu⟩:=z0c tu
  have:=z0F tu
  subst this
  cases z0Y t0
  refine⟨(Sum.inl k,x1)::kvs,.cons ⟨a,rfl,.inr (SqT.of ea)⟩ p1,by rw[cL,cL,p2],fun m v hv=>?_⟩
  rcases bF.mp hv with e|hv
  ·cases e
   exact t1
  ·exact p3 m v hv
def y6m(rows:List Row)(n t:Int):DV:=if t=0 then .tup [] else K2 (z0A (z0v rows n))
def y5k(Sh:ShP):Sp:=fun vs H Q _=>∃(x:Addr) (n t:Int) (fp:List Addr) (nm:List Str) (r:Int) (rows:List Row) (had:List Int),vs=[.ref x,.int n,.int t]/\Sh H x fp nm r (fun n=>z0S rows n r) had/\(t≠0->t∈had/\t≤60/\n∈z4G t r)/\
 ∀(v:V) (H':Hp),A4 H H'->A5 H' (y6m rows n t) v->Q v H'
theorem y5R{A0:Addr}(M:Bl mg)(T:D0 K mg A0)(F:Fun K "names_told_of" "names_told_of" z3b f fd)(J0:C8 P w K mg base 1 A0 "tail_of" z39 (y1k (ShD K A0))) :
  A7 P w K mg base CX0 2 f fd z3f (y5k (ShD K A0)):=by
 have nd:=z43.nd
 refine F.ok z43 (fun vs H Q E h=>?_) (fun cdv A outer s H vs Q E hr h=>?_)
 ·obtain⟨x,n,t,fp,nm,r,rows,had,rfl,_⟩:=h
  rfl
 obtain⟨x,n,t,fp,nm,r,rows,had,rfl,sh,ht,k⟩:=h
 have hu:=y06 hr
 refine⟨_,(z04 (z0G (z09 z2L (pv 2) z06 (z0o _)) (z05 (z0i (z0V z02))) z0n) (z05 (z0i (z6m hu (z0t (z4n (K:=K) rfl rfl) rfl M.dict gY (z00 (z1l J0 (rm hr) (pv 0) (z00 (pv 2) z02)) z02)) (pv 1) (fun _ _=>rfl))))),?_⟩
 refine⟨_,rfl,rfl,_,rfl,B3 (fun c=>?_) (fun c=>?_)⟩
 ·have c':t=0:=V.int.inj (z0M c)
  refine⟨(by show 0≤sizeLine;decide),fun l hl=>k _ _ (z01 hl _) ?_⟩
  unfold y6m
  rw[if_pos c']
  exact z0u z03 (by show 0≤1000000;decide) .nil
 ·have c':t≠0:=fun z=>c (decide_eq_true (congrArg V.int z))
  obtain⟨th,t60,tn⟩:=ht c'
  obtain⟨dx,fs,h1,lm⟩:∃dx fs,H x=some (.ins A0 dx fs)/\fs.lookup ("tail_of":Str)=none:=by
   obtain⟨dx,pn,pd,fs,kvs,_,h1,_,_,_,_,_,_,lm,_⟩:=sh
   exact⟨dx,fs,h1,lm _ (by simp)⟩
  refine⟨_,rfl,x,dx,fs,rfl,h1,lm,_,rfl,x,fp,nm,r,_,had,t,_,_,_,rfl,sh,th,rfl,fun v tv=>?_⟩
  obtain⟨a,us,rfl,ea,_,tu⟩:=z0b tv
  obtain⟨kvs,p1,p2,p3⟩:=z8z (K:=K) tu
  have lu:us.length≤1000:=by
   rw[tu.length,bA]
   unfold z4G
   have:=cI (fun k=>decide (t-k≤r)) (dnI (t-1) (t-1).toNat)
   rw[z94] at this
   omega
  refine⟨a,us,kvs,rfl,.inr ea,p1,lu,?_,fun l hl=>?_⟩
  ·rw[p2]
   rw[d5,dM]
   exact(d5.mp (y4Y t r)).imp fun h e=>h (Sum.inl.inj e)
  ·obtain⟨v,ev,mv⟩:=z7c p2 tn
   refine⟨_,rfl,l,_,rfl,(by rw[<- ev];exact L6.k (k:=Sum.inl n) z03),?_⟩
   refine k v _ (z01 hl _) ?_
   unfold y6m
   rw[if_neg c']
   exact A5.keep (z01 hl _) _ _ (p3 n v mv)
theorem y4K{had:List Int}{r n:Int}(h60:∀n∈had,1≤n/\n≤60)(hn:n∈z1j (z0e had))(h:z0L (z0e had) n r≠0):z0L (z0e had) n r∈had/\z0L (z0e had) n r≤60/\n∈z4G (z0L (z0e had) n r) r:=by
 unfold z0L at h ⊢
 cases e:(upI 1 60).find? (y0G (z0e had) n r) with
 | none=>rw[e] at h;exact absurd rfl h
 | some y=>
  obtain⟨_,hc,_⟩:=y3L (z18 1 60) e
  obtain⟨a,b,c⟩:=z3Z.mp hc
  have hy:=(z11.mp c).2
  have:=h60 y hy
  have:=(z1o.mp hn).1
  show y∈had/\y≤60/\n∈z4G y r
  exact⟨hy,by omega,y2G.mpr (by omega)⟩
theorem y2q{A0:Addr}(M:Bl mg)(T:D0 K mg A0)(F:Fun K "gaps_of" "gaps_of" z9o f fd)(B0:C8 P w K mg base 1 A0 "had" z1S (z5m (ShD K A0)))
  (B2:Cal P w K mg base 2 "lacking_with_tellers" z17 (y6n K)) (J4:Cal P w K mg base 2 "names_told_of" z3f (y5k (ShD K A0))) :
  A7 P w K mg base CX0 3 f fd z75 (z9s (ShD K A0)):=by
 have nd:=z9E.nd
 refine F.ok z9E (fun vs H Q E h=>?_) (fun cdv A outer s H vs Q E hr h=>?_)
 ·obtain⟨x,fp,nm,r,rows,had,rfl,_⟩:=h
  rfl
 obtain⟨x,fp,nm,r,rows,had,rfl,sh,gn,rw',l60,hh,r0,r1,k⟩:=h
 refine⟨_,(z04 (z0s (i:=1) nd rfl (Or.inl rfl) (z0l B2 (rm hr) rfl (z00 (z2M B0 (rm hr) (pv 0)) (z00 (z0I (pv 0) rfl) z02)))) (z05 (z0i (z0t z0m rfl M.tuple bL (z00 (z1i ["number","teller"] ["shelf"] [0] rfl (z0w rfl (by decide +kernel) rfl (by decide +kernel) rfl rfl) (z2r (pv 1)) (fun _ _ _ _ _=>(z9i (K:=K) (n:=2) rfl rfl (z1g (z0k (i:=0) (show((["number","teller"]:List PySem.Str)++(["shelf"]:List PySem.Str)).Nodup from by decide +kernel) rfl (Or.inl rfl)) (z1g (z0k (i:=1) (show((["number","teller"]:List PySem.Str)++(["shelf"]:List PySem.Str)).Nodup from by decide +kernel) rfl (Or.inl rfl)) z5c)))) (z9h (z26 (z0z (by decide)) z0g (z26 (z0z (by decide)) z0g z7y z1h) (z0O z0g z1h))) (z78 (z0O z0g (z0O z0g z1h))) (fun _ _ _ _ _=>z1K) (fun _ _ _ _ _=>(z0V (z00 (pv 0) (z00 (pv 1) (z00 (z0l J4 (rm hr) rfl (z00 (pv 2) (z00 (pv 0) (z00 (pv 1) z02)))) z02)))))) z02))))),?_⟩
 have h60:∀n∈had,1≤n/\n≤60:=fun n hn=>by have:=hh n hn;omega
 obtain⟨dx,fs,h1,lm,lr⟩:∃dx fs,H x=some (.ins A0 dx fs)/\fs.lookup ("had":Str)=none/\fs.lookup ("reach":Str)=some (V.int r):=by
  obtain⟨dx,pn,pd,fs,kvs,_,h1,_,_,_,_,lr,_,lm,_⟩:=sh
  exact⟨dx,fs,h1,lm _ (by simp),lr⟩
 refine⟨_,rfl,x,dx,fs,rfl,h1,lm,x,fp,nm,r,_,had,rfl,sh,fun l H1 s1 e1=>?_⟩
 refine⟨_,rfl,x,A0,dx,fs,_,rfl,s1 _ _ h1,T.cl,T.n_reach,lr,l,z0e had,r,rfl,.inr (SqT.of e1),fun n hn=>h60 n (z11.mp hn).2,cM (z3y had) (by decide),fun lt xs H2 s2 e2 pr2=>?_⟩
 have sh2:ShD K A0 H2 x fp nm r (fun n=>z0S rows n r) had:=F8.same sh (s1.trans s2)
 have lx:xs.length=(z1j (z0e had)).length:=by rw[pr2.len];unfold Q1;rw[bA]
 have ll:=z2s (z0e had)
 refine⟨_,rfl,lt,rfl,⟨_,SqT.of e2⟩,?_⟩
 refine z1u (xs:=xs) (fun i ys H'=>A4 H2 H'/\z08 H' (((z1j (z0e had)).take i).map (P6 (z0e had) rows r)) ys) ⟨A4.refl _,by rw[cQ];exact .nil⟩ (fun i ys H' hi hp=>?_) (fun i y ys H' hy hp=>?_) (fun ys H' hp=>?_)
 ·obtain⟨g,t⟩:=hp
  refine⟨SqT.of (g _ _ e2),z0f ?_⟩
  rw[t.length,bA,bI]
  omega
 ·obtain⟨g,t⟩:=hp
  obtain⟨⟨n,tl⟩,e,a,rfl,ha⟩:=pr2.get i y hy
  unfold Q1 at e
  rw[bE] at e
  obtain⟨m,em,e3⟩:=cG.mp e
  cases e3
  refine⟨a,_,rfl,SqT.of (g _ _ ha),rfl,_,_,rfl,_,_,rfl,rfl,?_⟩
  refine⟨_,rfl,_,rfl,_,rfl,_,rfl,_,rfl,x,n,_,fp,nm,r,rows,had,rfl,F8.same sh2 g,y4K h60 (bV em),fun v H3 s3 tv=>?_⟩
  refine⟨(by show 3≤sizeLine;decide),fun q hq=>⟨g.trans (s3.trans (z01 hq _)),?_⟩⟩
  rw[dW,em,bG]
  exact z08.snoc (z08.keep (s3.trans (z01 hq _)) _ _ t) (z0u z03 (by show 3≤1000000;decide) (.cons (z0E _) (.cons (z0E _) (.cons (A5.keep (z01 hq _) _ _ tv) .nil))))
 ·obtain⟨g,t⟩:=hp
  rw[lx,bP] at t
  intro D hD
  refine⟨D,ys,rfl,.inl ⟨SqL.of z03,fun q hq=>k _ _ (s1.trans (s2.trans (g.trans ((z01 hD _).trans (z01 hq _))))) (z0u z03 ?_ (z08.keep ((z01 hD _).trans (z01 hq _)) _ _ t))⟩⟩
  unfold z6X
  rw[bA]
  omega
def z9g(Sh:ShP):Sp:=fun vs H Q _=>∃(p:Addr) (fp:List Addr) (zs:List Str) (r:Int) (iss:Int->DV) (had:List Int) (n:Int) (d0 d1 d2:DV),vs=[.ref p,.int n]/\Sh H p fp zs r iss had/\n∈had/\iss n=.tup [d0,d1,d2]/\∀v,A5 H d1 v->Q v H
theorem y2I{A0:Addr}(M:Bl mg)(T:D0 K mg A0)(F:Fun K "rows_of" "Shelf.rows_of" z3a f fd):A7 P w K mg base CX0 1 f fd z2n (z9g (ShD K A0)):=by
 have nd:=z42.nd
 refine F.ok z42 (fun vs H Q E h=>?_) (fun cdv A outer s H vs Q E hr h=>?_)
 ·obtain⟨p,fp,zs,r,iss,had,n,d0,d1,d2,rfl,_⟩:=h
  rfl
 obtain⟨p,fp,zs,r,iss,had,n,d0,d1,d2,rfl,sh,hn,en,k⟩:=h
 have hu:=y06 hr
 refine⟨_,(z05 (z0i (z0D z0C (z6m hu (z0I (pv 0) rfl) (pv 1) (fun _ _=>rfl)) z06 (fun _ _=>rfl)))),?_⟩
 obtain⟨dx,pn,pd,fs,kvs,rfl,h1,h2,h3,h4,l1,l2,l3,lm,kk,ndh,all,tl,g,r0,r1⟩:=sh
 obtain⟨v,ev,mv⟩:=z7c kk hn
 have tv:=tl n v mv
 rw[en] at tv
 obtain⟨a,us,rfl,ea,_,tu⟩:=z0b tv
 obtain⟨x0,ur,rfl,t0,tu⟩:=z0c tu
 obtain⟨x1,ur,rfl,t1,tu⟩:=z0c tu
 refine⟨_,rfl,p,A0,dx,fs,_,rfl,h1,T.cl,T.n_issues,l3,_,rfl,pd,_,rfl,(by rw[<- ev];exact L6.k (k:=Sum.inl n) h4),?_⟩
 exact⟨a,_,_,x1,rfl,rfl,SqT.of ea,z0X rfl,k x1 t1⟩
theorem z9P{K:PySem.W.Frag}{H:Hp}:∀{w:Row}{xs:List V},z08 H (w.map z9m) xs->Paired (y3S K H) xs (w.map kvR)
 | [],xs,h=>by
  rw[z0F h]
  exact .nil
 | p::w,xs,h=>by
  obtain⟨x,r,rfl,t,h'⟩:=z0c h
  obtain⟨a,us,rfl,ea,_,tu⟩:=z0b t
  obtain⟨x0,ur,rfl,t0,tu⟩:=z0c tu
  obtain⟨x1,ur,rfl,t1,tu⟩:=z0c tu
  have:=z0F tu
  subst this
  rw[z35 t0,z0Y t1] at ea
  exact .cons ⟨a,rfl,.inr (SqT.of ea)⟩ (z9P h')
theorem w0M(w:Row)(z:Str):∀acc:Option Int,w.foldl (fun acc p=>if p.1=z then some p.2 else acc) acc=match D7 w z with|some v=>some v|none=>acc:=by
 unfold D7
 induction w with
 | nil=>intro acc;rfl
 | cons p w ih=>
  intro acc
  rw[d6,d6,ih,ih (if p.1=z then some p.2 else none)]
  cases w.foldl (fun acc p=>if p.1=z then some p.2 else acc) none with
  | some v=>rfl
  | none=>
   by_cases h:p.1=z
   ·rw[if_pos h,if_pos h]
   ·rw[if_neg h,if_neg h]
theorem z7H(p:Str×Int)(w:Row)(z:Str):D7 (p::w) z=match D7 w z with|some v=>some v|none=>if p.1=z then some p.2 else none:=by
 conv=>lhs;unfold D7
 rw[d6,w0M]
theorem y3H{w:Row}{z:Str}(h:z∉w.map Prod.fst):D7 w z=none:=by
 induction w with
 | nil=>rfl
 | cons p w ih=>
  rw[cL,bF,not_or] at h
  rw[z7H,ih h.2,if_neg (fun e=>h.1 e.symm)]
theorem y0y{z:Str}:∀{w:Row},(w.map Prod.fst).Nodup->J1 (w.map kvR) (Sum.inr z:Key)=(D7 w z).map V.int
 | [],_=>rfl
 | p::w,h=>by
  rw[cL,dN] at h
  rw[cL,z7H]
  by_cases e:p.1=z
  ·rw[z5U (show(kvR p).1=Sum.inr z by unfold kvR;rw[e]),y3H (e ▸ h.1),if_pos e]
   rfl
  ·rw[z5t (show ¬(kvR p).1=Sum.inr z from fun q=>e (Sum.inr.inj q)),y0y h.2,if_neg e]
   cases D7 w z<;>rfl
theorem y6q{nm:List Str}{rows:List Row}(g:D9 nm)(R:Rws nm rows)(n:Int):((z0v rows n).map Prod.fst).Nodup:=by
 unfold z0v
 rw[bM]
 cases e:rows[(n-1).toNat]? with
 | none=>exact .nil
 | some w=>exact(R.sub w (bV e)).nodup g.nd
theorem y0t{nm:List Str}{rows:List Row}(g:D9 nm)(R:Rws nm rows)(n:Int):(z0v rows n).length≤12:=by
 unfold z0v
 rw[bM]
 cases e:rows[(n-1).toNat]? with
 | none=>exact cT _
 | some w=>
  have h:=(R.sub w (bV e)).length_le
  rw[bA] at h
  exact cM h g.hi
def z41(Sh:ShP):Sp:=fun vs H Q _=>∃(x:Addr) (z:Str) (fp:List Addr) (nm:List Str) (r:Int) (rows:List Row) (had:List Int),vs=[.ref x,.str z]/\Sh H x fp nm r (fun n=>z0S rows n r) had/\z∈nm/\D9 nm/\Rws nm rows/\
 ∀(v:V) (H':Hp),A4 H H'->A5 H' (y1S (z0W (z0e had) rows z)) v->Q v H'
theorem y1R{A0:Addr}(M:Bl mg)(T:D0 K mg A0)(F:Fun K "held_for" "held_for" z85 f fd)(B4:Cal P w K mg base 1 "refuse_unknown_name" z1f (y5D K))
  (B0:C8 P w K mg base 1 A0 "had" z1S (z5m (ShD K A0))) (C3:C8 P w K mg base 1 A0 "rows_of" z2n (z9g (ShD K A0))) :
  A7 P w K mg base CX0 2 f fd z3r (z41 (ShD K A0)):=by
 have nd:=z8r.nd
 refine F.ok z8r (fun vs H Q E h=>?_) (fun cdv A outer s H vs Q E hr h=>?_)
 ·obtain⟨x,z,fp,nm,r,rows,had,rfl,_⟩:=h
  rfl
 obtain⟨x,z,fp,nm,r,rows,had,rfl,sh,hz,gn,R,k⟩:=h
 have hu:=y06 hr
 refine⟨_,(z04 (z0y (z0l B4 (rm hr) rfl (z00 (z0I (pv 0) rfl) (z00 (pv 1) z02)))) (z04 (z15 bY rfl (y5l rfl M.reversed (z00 (z2M B0 (rm hr) (pv 0)) z02)) (z0k (i:=2) nd rfl (Or.inl rfl)) (z04 (z0s (i:=3) nd rfl (Or.inl rfl) (z0t (z4n (K:=K) rfl rfl) rfl M.dict gY (z00 (z1l C3 (rm hr) (pv 0) (z00 (pv 2) z02)) z02))) (z05 (z0G (z5J (y2y hu (pv 1) (pv 3))) (z05 (z0i (z0V (z00 (pv 2) (z00 (z6m hu (pv 3) (pv 1) (fun _ _=>rfl)) z02))))) z0n)))) (z05 (z0i (z0V (z00 z06 (z00 z7F z02))))))),?_⟩
 obtain⟨dx,pn,fs,h1,h3,ln,lh,lo⟩:∃dx pn fs,H x=some (.ins A0 dx fs)/\H pn=some (.tup (nm.map V.str))/\fs.lookup ("names":Str)=some (V.ref pn)/\fs.lookup ("had":Str)=none/\fs.lookup ("rows_of":Str)=none:=by
  obtain⟨dx,pn,pd,fs,kvs,_,h1,_,h3,_,l1,_,_,lm,_⟩:=sh
  exact⟨dx,pn,fs,h1,h3,l1,lm _ (by simp),lm _ (by simp)⟩
 refine⟨_,rfl,x,A0,dx,fs,_,rfl,h1,T.cl,T.n_names,ln,_,rfl,pn,nm,z,rfl,.inr (SqT.of h3),hz,?_⟩
 refine⟨_,rfl,x,dx,fs,rfl,h1,lh,x,fp,nm,r,_,had,rfl,sh,fun l H1 s1 e1=>?_⟩
 refine⟨l,_,rfl,SqT.of e1,?_⟩
 have sh1:ShD K A0 H1 x fp nm r (fun n=>z0S rows n r) had:=F8.same sh s1
 have L1:((z0e had).map V.int).length=(z0e had).length:=bA _
 refine y5Z (fun i σ H'=>∃(o1 o2:Option V),A4 H1 H'/\z0W (z0e had) rows z=z0W ((z0e had).take ((z0e had).length-i)) rows z/\σ=[some (.ref x),some (.str z),o1,o2])
  ⟨none,none,A4.refl _,by rw[gJ,bP],rfl⟩ (fun i σ H' _ ⟨_,_,g,_⟩=>SqT.of (g _ _ e1)) (fun i y σ H' hy hp=>?_) (fun σ H' hp=>?_)
 ·obtain⟨o1,o2,g,eh,rfl⟩:=hp
  rw[<- List.map_reverse,bE] at hy
  obtain⟨n,hn,rfl⟩:=cG.mp hy
  have hi:i<(z0e had).length:=by
   have:=(cC.mp hn).1
   rw[g0] at this
   exact this
  rw[List.getElem?_reverse hi] at hn
  have et:(z0e had).take ((z0e had).length-i)=(z0e had).take ((z0e had).length-(i+1))++[n]:=by
   have e:(z0e had).length-i=((z0e had).length-(i+1))+1:=by omega
   rw[e]
   refine z0j ?_
   rw[show(z0e had).length-(i+1)=(z0e had).length-1-i by omega]
   exact hn
  have nh:n∈had:=(z11.mp (bV hn)).2
  refine⟨_,rfl,x,dx,fs,rfl,g _ _ (s1 _ _ h1),lo,_,rfl,x,fp,nm,r,_,had,n,_,_,_,rfl,F8.same sh1 g,nh,rfl,fun v tv=>?_⟩
  obtain⟨a,us,rfl,ea,_,tu⟩:=z0b tv
  have ndw:=y6q gn R n
  refine⟨a,us,(z0v rows n).map kvR,rfl,.inr ea,z9P tu,?_,?_,fun d hd=>?_⟩
  ·rw[tu.length,bA]
   have:=y0t gn R n
   omega
  ·have e:((z0v rows n).map kvR).map (·.1)=((z0v rows n).map Prod.fst).map Sum.inr:=by rw[dL,dL];rfl
   rw[e,d5,dM]
   exact(d5.mp ndw).imp fun h e=>h (Sum.inr.inj e)
  refine⟨_,rfl,_,rfl,d,_,rfl,L6.k (k:=Sum.inr z) z03,_,rfl,?_⟩
  rw[y0y ndw]
  rw[et,z6h] at eh
  cases ev:D7 (z0v rows n) z with
  | none=>
   rw[ev] at eh
   exact B5 ⟨_,_,g.trans (z01 hd _),eh,rfl⟩
  | some v=>
   rw[ev] at eh
   refine E9 ⟨_,rfl,_,rfl,_,rfl,d,_,rfl,(show L6 _ d (kV (Sum.inr z)) (some (V.int v)) by rw[<- show J1 ((z0v rows n).map kvR) (Sum.inr z:Key)=some (V.int v) by rw[y0y ndw,ev];rfl];exact L6.k z03),(by show 2≤sizeLine;decide),fun q hq=>k _ _ (s1.trans (g.trans ((z01 hd _).trans (z01 hq _)))) ?_⟩
   rw[eh]
   exact z0u z03 (by show 2≤1000000;decide) (.cons (z0E _) (.cons (z0E _) .nil))
 ·obtain⟨o1,o2,g,eh,rfl⟩:=hp
  rw[L1,Nat.sub_self,cQ] at eh
  refine⟨(by show 2≤sizeLine;decide),fun q hq=>k _ _ (s1.trans (g.trans (z01 hq _))) ?_⟩
  rw[eh]
  exact z0u z03 (by show 2≤1000000;decide) (.cons (z0E _) (.cons z71 .nil))
def z8y(Sh:ShP):Sp:=fun vs H Q _=>∃(x:Addr) (z:Str) (fp:List Addr) (nm:List Str) (r:Int) (rows:List Row) (had:List Int),vs=[.ref x,.str z]/\Sh H x fp nm r (fun n=>z0S rows n r) had/\z∈nm/\D9 nm/\Rws nm rows/\rows.length≤60/\(∀n∈had,1≤n/\n≤rows.length)/\0≤r/\r≤10/\
 ∀(v:V) (H':Hp),A4 H H'->A5 H' (y58 (z0e had) rows r (z27 (z0W (z0e had) rows z)) z) v->Q v H'
theorem y0H{A0:Addr}(M:Bl mg)(T:D0 K mg A0)(F:Fun K "set_again" "set_again" z62 f fd)(B8:Cal P w K mg base 2 "held_for" z3r (z41 (ShD K A0)))
  (K6:Cal P w K mg base 3 "gaps_of" z75 (z9s (ShD K A0))):A7 P w K mg base CX0 4 f fd z6g (z8y (ShD K A0)):=by
 have nd:=z7B.nd
 refine F.ok z7B (fun vs H Q E h=>?_) (fun cdv A outer s H vs Q E hr h=>?_)
 ·obtain⟨x,z,fp,nm,r,rows,had,rfl,_⟩:=h
  rfl
 obtain⟨x,z,fp,nm,r,rows,had,rfl,sh,hz,gn,R,l60,hh,r0,r1,k⟩:=h
 refine⟨_,(z04 (z0s (i:=2) nd rfl (Or.inr rfl) (z0D z0C (z0l B8 (rm hr) rfl (z00 (pv 0) (z00 (pv 1) z02))) z06 (fun _ _=>rfl))) (z05 (z0i (z0t z0m rfl M.tuple bL (z00 (z1i ["number","teller","names"] ["held_from","name"] [2,1] rfl (z0w rfl (by decide +kernel) rfl (by decide +kernel) rfl rfl) (z2r (z0l K6 (rm hr) rfl (z00 (pv 0) z02))) (fun _ _ _ _ _=>(z9i (K:=K) (n:=3) rfl rfl (z1g (z0k (i:=0) (show((["number","teller","names"]:List PySem.Str)++(["held_from","name"]:List PySem.Str)).Nodup from by decide +kernel) rfl (Or.inl rfl)) (z1g (z0k (i:=1) (show((["number","teller","names"]:List PySem.Str)++(["held_from","name"]:List PySem.Str)).Nodup from by decide +kernel) rfl (Or.inl rfl)) (z1g (z0k (i:=2) (show((["number","teller","names"]:List PySem.Str)++(["held_from","name"]:List PySem.Str)).Nodup from by decide +kernel) rfl (Or.inl rfl)) z5c))))) (z9h (z26 (z0z (by decide)) z0g (z26 (z0z (by decide)) z0g (z26 (z0z (by decide)) z0g z7y z1h) (z0O z0g z1h)) (z0O z0g (z0O z0g z1h)))) (z78 (z0O z0g (z0O z0g (z0O z0g z1h)))) (fun _ _ _ _ _=>(z3c (PW.pt (z4i (z09 z2P (pv 0) (pv 3) (z0o _)) (z3j (z09 (r:=rIn K false) z5Y (pv 4) (pv 2) (by with_unfolding_all rfl))))))) (fun _ _ _ _ _=>(z0V (z00 (pv 0) (z00 (pv 1) z02))))) z02))))),?_⟩
 refine⟨_,rfl,_,rfl,x,z,fp,nm,r,rows,had,rfl,sh,hz,gn,R,fun v H1 s1 tv=>?_⟩
 obtain⟨a,y,rfl,ea,_⟩:=z4y tv
 refine⟨a,_,_,_,rfl,rfl,SqT.of ea,z0X rfl,?_⟩
 have sh1:=F8.same sh s1
 refine⟨_,rfl,x,fp,nm,r,rows,had,rfl,sh1,gn,R,l60,hh,r0,r1,fun u H2 s2 tu=>?_⟩
 obtain⟨b,xs,rfl,eb,_,tb⟩:=z0b tu
 have lx:=z8e tb
 have ll:=z2s (z0e had)
 generalize z27 (z0W (z0e had) rows z)=num at *
 refine⟨b,rfl,⟨_,SqT.of eb⟩,?_⟩
 refine z1u (xs:=xs) (fun i ys H'=>A4 H2 H'/\z08 H' ((((z1j (z0e had)).take i).filter fun n=>decide (num<n) && decide (z∈z29 (z0e had) rows r n)).map fun n=>.tup [.int n,.int (z0L (z0e had) n r)]) ys) ⟨A4.refl _,.nil⟩ (fun i ys H' hi hp=>?_) (fun i y ys H' hy hp=>?_) (fun ys H' hp=>?_)
 ·obtain⟨g,t⟩:=hp
  refine⟨SqT.of (g _ _ eb),z0f ?_⟩
  rw[t.length,bA]
  have:=cI (fun n=>decide (num<n) && decide (z∈z29 (z0e had) rows r n)) ((z1j (z0e had)).take i)
  rw[bI] at this
  omega
 ·obtain⟨g,t⟩:=hp
  obtain⟨n,c,d,en,rfl,ec,ed⟩:=z5G tb hy
  refine⟨c,_,rfl,SqT.of (g _ _ ec),rfl,_,_,rfl,_,_,rfl,_,_,rfl,rfl,?_⟩
  rw[z0j en,dJ,eB]
  refine⟨_,rfl,_,rfl,_,_,rfl,rfl,_,rfl,?_⟩
  have skip:¬(decide (num<n) && decide (z∈z29 (z0e had) rows r n))=true->A4 H2 H'/\z08 H' (((((z1j (z0e had)).take i).filter fun n=>decide (num<n) && decide (z∈z29 (z0e had) rows r n))++(if (decide (num<n) && decide (z∈z29 (z0e had) rows r n))=true then n::List.filter (fun n=>decide (num<n) && decide (z∈z29 (z0e had) rows r n)) [] else List.filter (fun n=>decide (num<n) && decide (z∈z29 (z0e had) rows r n)) [])).map fun n=>.tup [.int n,.int (z0L (z0e had) n r)]) ys:=fun c=>by
   rw[if_neg c,fI,cY]
   exact⟨g,t⟩
  refine B3 (fun c=>?_) (fun c=>?_)
  ·refine⟨_,rfl,_,rfl,d,_,rfl,.inr (SqT.of (g _ _ ed)),rfl,z1O _,_,rfl,?_⟩
   rw[if_neg bO,z9V]
   refine B3 (fun c2=>?_) (fun c2=>?_)
   ·refine⟨_,rfl,_,rfl,(by show 2≤sizeLine;decide),fun q hq=>⟨g.trans (z01 hq _),?_⟩⟩
    rw[if_pos (by rw[bW];exact⟨c,c2⟩),fI,bG]
    exact z08.snoc (z08.keep (z01 hq _) _ _ t) (z0u z03 (by show 2≤1000000;decide) (.cons (z0E _) (.cons (z0E _) .nil)))
   ·exact skip (by rw[bW];exact fun z=>c2 z.2)
  ·exact skip (by rw[bW];exact fun z=>c z.1)
 ·obtain⟨g,t⟩:=hp
  rw[lx,bP] at t
  intro D hD
  refine⟨D,ys,rfl,.inl ⟨SqL.of z03,fun q hq=>k _ _ (s1.trans (s2.trans (g.trans ((z01 hD _).trans (z01 hq _))))) (z0u z03 ?_ (z08.keep ((z01 hD _).trans (z01 hq _)) _ _ t))⟩⟩
  rw[bA]
  exact cM (z8L (z0e had) rows r num z) (by decide)
theorem z5u{ns:List Int}{r n:Int}:n∈z4Z ns r↔n∈z1j ns/\z0L ns n r=0:=by
 unfold z4Z Q1
 rw[cK]
 constructor
 ·rintro⟨⟨a,b⟩,h,rfl⟩
  rw[cJ,cK,decide_eq_true_eq] at h
  obtain⟨⟨m,hm,e⟩,h2⟩:=h
  cases e
  exact⟨hm,h2⟩
 ·rintro⟨h1,h2⟩
  refine⟨(n,z0L ns n r),?_,rfl⟩
  rw[cJ,cK,decide_eq_true_eq]
  exact⟨⟨n,h1,rfl⟩,h2⟩
theorem z6S{ns:List Int}{r num:Int}:z3C ns r num=[]↔∀n∈z4Z ns r,n≤num:=by
 unfold z3C
 rw[List.filter_eq_nil_iff]
 constructor
 ·intro h n hn
  obtain⟨h1,h2⟩:=z5u.mp hn
  have:=h n h1
  rw[bW,decide_eq_true_eq,decide_eq_true_eq] at this
  rcases Int.lt_or_le num n with q|q
  ·exact absurd ⟨q,h2⟩ this
  ·exact q
 ·intro h n hn
  rw[bW,decide_eq_true_eq,decide_eq_true_eq]
  rintro⟨h1,h2⟩
  have:=h n (z5u.mpr ⟨hn,h2⟩)
  omega
theorem z7L{ns:List Int}{r num:Int}:y0h ns r num=[]↔z3C ns r num=[]:=by
 rw[z6S]
 unfold y0h
 rw[List.filter_eq_nil_iff]
 exact⟨fun h n hn=>Int.not_lt.mp fun z=>h n hn (decide_eq_true z),fun h n hn z=>by have:=h n hn;have:=of_decide_eq_true z;omega⟩
def z8c(Sh:ShP):Sp:=fun vs H Q _=>∃(x:Addr) (z:Str) (fp:List Addr) (nm:List Str) (r:Int) (rows:List Row) (had:List Int),vs=[.ref x,.str z]/\Sh H x fp nm r (fun n=>z0S rows n r) had/\z∈nm/\D9 nm/\Rws nm rows/\rows.length≤60/\(∀n∈had,1≤n/\n≤rows.length)/\0≤r/\r≤10/\
 ∀(H':Hp),A4 H H'->Q (.str (z19 (z0e had) rows r (z27 (z0W (z0e had) rows z)) z)) H'
theorem y1O{A0:Addr}(M:Bl mg)(T:D0 K mg A0)(F:Fun K "state_of" "state_of" z7p f fd)(B8:Cal P w K mg base 2 "held_for" z3r (z41 (ShD K A0)))
  (N2:Cal P w K mg base 4 "set_again" z6g (z8y (ShD K A0))) (B0:C8 P w K mg base 1 A0 "had" z1S (z5m (ShD K A0)))
  (D1:Cal P w K mg base 4 "dark_numbers_behind" z1L (y1q K)):A7 P w K mg base CX0 5 f fd z5F (z8c (ShD K A0)):=by
 have nd:=z8J.nd
 refine F.ok z8J (fun vs H Q E h=>?_) (fun cdv A outer s H vs Q E hr h=>?_)
 ·obtain⟨x,z,fp,nm,r,rows,had,rfl,_⟩:=h
  rfl
 obtain⟨x,z,fp,nm,r,rows,had,rfl,sh,hz,gn,R,l60,hh,r0,r1,k⟩:=h
 refine⟨_,(z04 (z0G (z09 z2P (z0d z0a rfl M.len bR (z00 (z0l N2 (rm hr) rfl (z00 (pv 0) (z00 (pv 1) z02))) z02)) z06 (z0o _)) (z05 (z0i (z2h rfl M.STALE))) z0n) (z04 (z0s (i:=2) nd rfl (Or.inl rfl) (z0D z0C (z0l B8 (rm hr) rfl (z00 (pv 0) (z00 (pv 1) z02))) z06 (fun _ _=>rfl))) (z04 (z0s (i:=3) nd rfl (Or.inl rfl) (z0l D1 (rm hr) rfl (z00 (z2M B0 (rm hr) (pv 0)) (z00 (z0I (pv 0) rfl) (z00 (pv 2) z02))))) (z05 (z0i (z76 (z09 z2P (z0d z0a rfl M.len bR (z00 (pv 3) z02)) z06 (z0o _)) (z2h rfl M.OPEN) (z2h rfl M.SURE))))))),?_⟩
 refine⟨_,rfl,_,rfl,x,z,fp,nm,r,rows,had,rfl,sh,hz,gn,R,l60,hh,r0,r1,fun v H1 s1 tv=>?_⟩
 obtain⟨a,xs,rfl,ea,_,ta⟩:=z0b tv
 have lx:=ta.length
 rw[bA] at lx
 refine⟨a,xs,rfl,.inr (SqT.of ea),_,_,rfl,rfl,_,rfl,B3 (fun c=>?_) (fun c=>?_)⟩
 ·have c':=z0M c
  have e:=k H1 s1
  unfold z19 at e
  rw[if_pos (by omega)] at e
  exact e
 ·have c':=z4h c
  have sh1:=F8.same sh s1
  refine⟨_,rfl,_,rfl,x,z,fp,nm,r,rows,had,rfl,sh1,hz,gn,R,fun v H2 s2 tv=>?_⟩
  obtain⟨b,y,rfl,eb,_⟩:=z4y tv
  refine⟨b,_,_,_,rfl,rfl,SqT.of eb,z0X rfl,?_⟩
  have sh2:=F8.same sh1 s2
  obtain⟨dx,fs,h1,lm,lr⟩:∃dx fs,H2 x=some (.ins A0 dx fs)/\fs.lookup ("had":Str)=none/\fs.lookup ("reach":Str)=some (V.int r):=by
   obtain⟨dx,pn,pd,fs,kvs,_,h1,_,_,_,_,lr,_,lm,_⟩:=sh2
   exact⟨dx,fs,h1,lm _ (by simp),lr⟩
  have h60:∀n∈z0e had,1≤n/\n≤60:=fun n hn=>by have:=hh n (z11.mp hn).2;omega
  refine⟨_,rfl,x,dx,fs,rfl,h1,lm,x,fp,nm,r,_,had,rfl,sh2,fun l H3 s3 e3=>?_⟩
  refine⟨_,rfl,x,A0,dx,fs,_,rfl,s3 _ _ h1,T.cl,T.n_reach,lr,_,rfl,l,z0e had,r,_,rfl,.inr (SqT.of e3),h60,cM (z3y had) (by decide),fun d H4 s4 e4=>?_⟩
  have e:=k H4 (s1.trans (s2.trans (s3.trans s4)))
  unfold z19 at e
  rw[if_neg (by omega)] at e
  refine⟨_,rfl,d,_,rfl,.inr (SqT.of e4),_,_,rfl,rfl,_,rfl,?_⟩
  rw[bA]
  refine B3 (fun c=>?_) (fun c=>?_)
  ·have c2:=z0M c
   rw[if_neg (fun z=>by rw[z7L.mpr z] at c2;exact absurd c2 (by decide))] at e
   exact e
  ·have c2:=z4h c
   rw[if_pos (z7L.mp (List.length_eq_zero_iff.mp (by omega)))] at e
   exact e
theorem y1G(had:List Int):z0e (z0e had)=z0e had:=z24 (z1F _) (z1F _) fun x=>by
 rw[z11,z11]
 exact⟨fun h=>h.2,fun h=>⟨h.1,h⟩⟩
def z8d(Sh:ShP):Sp:=fun vs H Q _=>∃(x:Addr) (z:Str) (fp:List Addr) (nm:List Str) (r:Int) (rows:List Row) (had:List Int),vs=[.ref x,.str z]/\Sh H x fp nm r (fun n=>z0S rows n r) had/\z∈nm/\D9 nm/\Rws nm rows/\rows.length≤60/\(∀n∈had,1≤n/\n≤rows.length)/\0≤r/\r≤10/\
 ∀(q:Addr) (y:V) (H':Hp),A4 H H'->H' q=some (.tup [.str (z19 (z0e had) rows r (z27 (z0W (z0e had) rows z)) z),.int (z27 (z0W (z0e had) rows z)),y])->A5 H' (y4C (z0W (z0e had) rows z)) y->Q (.ref q) H'
theorem z9D{A0:Addr}(M:Bl mg)(F:Fun K "state_and_held" "state_and_held" z2R f fd)(B8:Cal P w K mg base 2 "held_for" z3r (z41 (ShD K A0)))
  (G0:Cal P w K mg base 5 "state_of" z5F (z8c (ShD K A0))):A7 P w K mg base CX0 6 f fd z2Y (z8d (ShD K A0)):=by
 have nd:=z3T.nd
 refine F.ok z3T (fun vs H Q E h=>?_) (fun cdv A outer s H vs Q E hr h=>?_)
 ·obtain⟨x,z,fp,nm,r,rows,had,rfl,_⟩:=h
  rfl
 obtain⟨x,z,fp,nm,r,rows,had,rfl,sh,hz,gn,R,l60,hh,r0,r1,k⟩:=h
 refine⟨_,(z05 (z0i (z0q (y0T (K:=K) rfl) (z0V (z00 (z0l G0 (rm hr) rfl (z00 (pv 0) (z00 (pv 1) z02))) z02)) (z0l B8 (rm hr) rfl (z00 (pv 0) (z00 (pv 1) z02)))))),?_⟩
 refine⟨_,rfl,_,rfl,x,z,fp,nm,r,rows,had,rfl,sh,hz,gn,R,l60,hh,r0,r1,fun H1 s1=>?_⟩
 refine⟨(by show 1≤sizeLine;decide),fun a ha=>?_⟩
 have g2:=s1.trans (z01 ha (.tup [.str (z19 (z0e had) rows r (z27 (z0W (z0e had) rows z)) z)]))
 have e2:upd H1 a (.tup [.str (z19 (z0e had) rows r (z27 (z0W (z0e had) rows z)) z)]) a=some (.tup [.str (z19 (z0e had) rows r (z27 (z0W (z0e had) rows z)) z)]):=z03
 generalize upd H1 a (.tup [.str (z19 (z0e had) rows r (z27 (z0W (z0e had) rows z)) z)])=H2 at g2 e2
 refine⟨_,rfl,_,rfl,x,z,fp,nm,r,rows,had,rfl,F8.same sh g2,hz,gn,R,fun v H3 s3 tv=>?_⟩
 obtain⟨b,y,rfl,eb,tb⟩:=z4y tv
 exact⟨a,b,_,_,rfl,rfl,SqT.of (s3 _ _ e2),SqT.of eb,by simp,(by show 3≤sizeLine;decide),fun z=>(nomatch z),fun _ q hq=>k q y _ (g2.trans (s3.trans (z01 hq _))) z03 (A5.keep (z01 hq _) _ _ tb)⟩
theorem z9M{A0:Addr}(M:Bl mg)(T:D0 K mg A0)(F:Fun K "knowledge" "knowledge" z6f f fd)(F6:Cal P w K mg base 6 "state_and_held" z2Y (z8d (ShD K A0))):A7 P w K mg base CX0 7 f fd z60 (y5b (ShD K A0)):=by
 have nd:=z7i.nd
 refine F.ok z7i (fun vs H Q E h=>?_) (fun cdv A outer s H vs Q E hr h=>?_)
 ·obtain⟨x,fp,nm,r,rows,had,rfl,_⟩:=h
  rfl
 obtain⟨x,fp,nm,r,rows,had,rfl,sh,gn,R,l60,hh,r0,r1,k⟩:=h
 refine⟨_,(z05 (z0i (z0t z0m rfl M.tuple bL (z00 (z1i ["name"] ["shelf"] [0] rfl (z0w rfl (by decide +kernel) rfl (by decide +kernel) rfl rfl) (z2r (z0I (pv 0) rfl)) (fun _ _ _ _ _=>(z0k (i:=0) (show((["name"]:List PySem.Str)++(["shelf"]:List PySem.Str)).Nodup from by decide +kernel) rfl (Or.inl rfl))) (z0z (by decide)) z0g (fun _ _ _ _ _=>z1K) (fun _ _ _ _ _=>(z0q (y0T (K:=K) rfl) (z0V (z00 (pv 0) z02)) (z0l F6 (rm hr) rfl (z00 (pv 1) (z00 (pv 0) z02)))))) z02)))),?_⟩
 obtain⟨dx,pn,fs,h1,h3,ln⟩:∃dx pn fs,H x=some (.ins A0 dx fs)/\H pn=some (.tup (nm.map V.str))/\fs.lookup ("names":Str)=some (V.ref pn):=by
  obtain⟨dx,pn,pd,fs,kvs,_,h1,_,h3,_,l1,_⟩:=sh
  exact⟨dx,pn,fs,h1,h3,l1⟩
 have n12:=gn.hi
 refine⟨_,rfl,x,A0,dx,fs,_,rfl,h1,T.cl,T.n_names,ln,pn,rfl,⟨_,SqT.of h3⟩,?_⟩
 refine z1u (xs:=nm.map V.str) (fun i ys H'=>A4 H H'/\z08 H' ((nm.take i).map (U3 (z0e had) rows r)) ys) ⟨A4.refl _,by rw[cQ];exact .nil⟩ (fun i ys H' hi hp=>?_) (fun i y ys H' hy hp=>?_) (fun ys H' hp=>?_)
 ·obtain⟨g,t⟩:=hp
  refine⟨SqT.of (g _ _ h3),z0f ?_⟩
  rw[t.length,bA,bI]
  omega
 ·obtain⟨g,t⟩:=hp
  rw[bE] at hy
  obtain⟨z,ez,rfl⟩:=cG.mp hy
  have hz:=bV ez
  have sh1:=F8.same sh g
  refine⟨_,rfl,(by show 1≤sizeLine;decide),fun a ha=>?_⟩
  have g2:=z01 ha (.tup [.str z])
  have e2:upd H' a (.tup [.str z]) a=some (.tup [.str z]):=z03
  generalize upd H' a (.tup [.str z])=H2 at g2 e2
  refine⟨_,rfl,_,rfl,x,z,fp,nm,r,rows,had,rfl,F8.same sh1 g2,hz,gn,R,l60,hh,r0,r1,fun b y H3 s3 eb tb=>?_⟩
  refine⟨a,b,_,_,rfl,rfl,SqT.of (s3 _ _ e2),SqT.of eb,by simp,(by show 4≤sizeLine;decide),fun z=>(nomatch z),fun _ q hq=>⟨g.trans (g2.trans (s3.trans (z01 hq _))),?_⟩⟩
  rw[dW,ez,bG]
  refine z08.snoc (z08.keep (g2.trans (s3.trans (z01 hq _))) _ _ t) ?_
  unfold U3
  rw[y1G]
  exact z0u z03 (by show 4≤1000000;decide) (.cons (z2p _) (.cons (z2p _) (.cons (z0E _) (.cons (A5.keep (z01 hq _) _ _ tb) .nil))))
 ·obtain⟨g,t⟩:=hp
  rw[bA,bP] at t
  intro D hD
  refine⟨D,ys,rfl,.inl ⟨SqL.of z03,fun q hq=>k _ _ (g.trans ((z01 hD _).trans (z01 hq _))) (z0u z03 ?_ (z08.keep ((z01 hD _).trans (z01 hq _)) _ _ t))⟩⟩
  rw[bA]
  omega
def wrN(log:List A9):Nat:=(log.filter fun d=>d.1.isNone).length
theorem z2k(log:List A9)(d:A9):wrN (log++[d])=wrN log+(if d.1.isNone then 1 else 0):=by
 unfold wrN
 rw[dJ,bJ,eB]
 split<;>rfl
theorem y5a(log:List A9):wrN log≤log.length:=cI _ _
def y5e(k:Int)(log:List A9)(d:A9):Prop:=match d with
 | (none,n)=>n=(wrN log:Int)+1/\wrN log<60
 | (some rd,n)=>1≤rd/\rd≤k/\1≤n/\n≤(wrN log:Int)
def z5o(k:Int)(log:List A9):Prop:=∀i d,log[i]? = some d->y5e k (log.take i) d
theorem z5o.nil(k:Int):z5o k []:=fun i d e=>by simp at e
theorem z5o.snoc{k:Int}{log:List A9}{d:A9}(h:z5o k log)(n:y5e k log d):z5o k (log++[d]):=fun i e he=>by
 rcases Nat.lt_or_ge i log.length with q|q
 ·rw[cV q] at he
  rw[List.take_append_of_le_length (dR q)]
  exact h i e he
 ·rw[dF q] at he
  have hi:i-log.length=0:=by
   have:=(cC.mp he).1
   rw[dH] at this
   omega
  rw[hi] at he
  cases he
  have:i=log.length:=by omega
  rw[this,List.take_left]
  exact n
theorem z5r{H H':Hp}{l t:Addr}{us:List V}{log:List A9}(d:A9)(s:A4 H H')(nl:H l=none)(el:H' l=some (.lst us))(pr:Paired (z1z H') us log)(ht:H' t=none) :
  A4 H (upd (upd H' t (.tup (z23 d))) l (.lst (us++[.ref t])))/\upd (upd H' t (.tup (z23 d))) l (.lst (us++[.ref t])) l=some (.lst (us++[.ref t]))/\Paired (z1z (upd (upd H' t (.tup (z23 d))) l (.lst (us++[.ref t])))) (us++[.ref t]) (log++[d]):=by
 have s1:=z01 ht (.tup (z23 d))
 have e1:=s1 _ _ el
 have k1:∀{b:Addr}{xs:List V},upd H' t (.tup (z23 d)) b=some (.tup xs)->upd (upd H' t (.tup (z23 d))) l (.lst (us++[.ref t])) b=some (.tup xs):=fun q=>by
  rw[z0h (z5k q e1 (fun z=>by cases z))]
  exact q
 refine⟨z2J (s.trans s1) nl,z03,fL (L2.Paired.S0 pr fun u d' ⟨b,e,q⟩=>⟨b,e,k1 (s1 _ _ q)⟩) ⟨t,rfl,k1 z03⟩⟩
theorem K0.keep{H H':Hp}{us:List V}{log:List A9}(s:A4 H H')(h:Paired (z1z H) us log):Paired (z1z H') us log:=
 L2.Paired.S0 h fun u d ⟨b,e,q⟩=>⟨b,e,s _ _ q⟩
theorem X5{k:Int}{log:List A9}(h:z5o k log):∀i,wrN (log.take i)≤60
 | 0=>cT _
 | i+1=>by
  have ih:=X5 h i
  cases e:log[i]? with
  | none=>
   rw[dW,e]
   simpa using ih
  | some d=>
   have ok:=h i d e
   rw[z0j e,z2k]
   obtain⟨a,n⟩:=d
   cases a with
   | none=>
    have:wrN (log.take i)<60:=ok.2
    show wrN (log.take i)+1≤60
    omega
   | some rd=>exact ih
def y6B:A9->DV
 | (none,n)=>.tup [.str "write",.int n]
 | (some r,n)=>.tup [.str "deliver",.int r,.int n]
theorem y30{H:Hp}{u:V}{d:A9}(h:z1z H u d):A5 H (y6B d) u:=by
 obtain⟨b,rfl,e⟩:=h
 obtain⟨a,n⟩:=d
 cases a with
 | none=>exact z0u e (by show 2≤1000000;decide) (.cons (z2p _) (.cons (z0E _) .nil))
 | some r=>exact z0u e (by show 3≤1000000;decide) (.cons (z2p _) (.cons (z0E _) (.cons (z0E _) .nil)))
theorem y3q{H:Hp}:∀{us:List V}{log:List A9},Paired (z1z H) us log->∀(i:Nat) (d:A9),log[i]? = some d->∃u,us[i]? = some u/\z1z H u d:=by
 intro us log h
 induction h with
 | nil=>intro i d e;simp at e
 | cons h t ih=>
  intro i d e
  cases i with
  | zero=>
   simp at e
   subst e
   exact⟨_,rfl,h⟩
  | succ i=>
   obtain⟨u,q1,q2⟩:=ih i d (by simpa using e)
   exact⟨u,by simpa using q1,q2⟩
def y1B(Bk:BkP):Sp:=fun vs H Q _=>∃(p:Addr) (fp:List Addr) (zs:List Str) (r k:Int) (rows:List Row) (log:List A9),vs=[.ref p]/\Bk H p fp zs r k rows log/\∀H',A4 H H'->Q (.int rows.length) H'
def y04(Bk:BkP):Sp:=fun vs H Q _=>∃(p:Addr) (fp:List Addr) (zs:List Str) (r k:Int) (rows:List Row) (log:List A9) (n:Int),vs=[.ref p,.int n]/\Bk H p fp zs r k rows log/\1≤n/\n≤rows.length/\
 ∀(v:V) (H':Hp),A4 H H'->A5 H' (z0S rows n r) v->Q v H'
def y4a(Bk:BkP):Sp:=fun vs H Q _=>∃(p:Addr) (fp:List Addr) (zs:List Str) (r k:Int) (rows:List Row) (log:List A9) (i:Nat) (d:A9),vs=[.ref p,.int ((i:Int)+1)]/\Bk H p fp zs r k rows log/\log[i]? = some d/\
 ∀v,A5 H (y6B d) v->Q v H
theorem y0m{A2 A1:Addr}(M:Bl mg)(T:J8 K mg A2)(F:Fun K "latest" "Book.latest" z4k f fd)(J2:C8 P w K mg base 1 A1 "latest" z3k (z8t (OfD K A1))):A7 P w K mg base CX0 2 f fd z6K (y1B (BkD K A2 A1)):=by
 have nd:=z5z.nd
 refine F.ok z5z (fun vs H Q E h=>?_) (fun cdv A outer s H vs Q E hr h=>?_)
 ·obtain⟨p,fp,zs,r,k,rows,log,rfl,_⟩:=h
  rfl
 obtain⟨p,fp,zs,r,k,rows,log,rfl,⟨dx,po,pd,fs,fo,us,rfl,B⟩,q⟩:=h
 refine⟨_,(z05 (z0i (z2M J2 (rm hr) (z0I (pv 0) rfl)))),?_⟩
 obtain⟨dxo,pno,plo,fso,xso,efo,h1,h2,h3,h4,l1,l2,l3,lmo,_⟩:=id B.of
 exact⟨_,rfl,p,A2,dx,fs,_,rfl,B.hp,T.cl,T.n_office,B.lo,po,dxo,fso,rfl,h1,lmo _ (by simp),po,fo,zs,r,rows,rfl,B.of,q⟩
theorem y29{A2 A1:Addr}(M:Bl mg)(T:J8 K mg A2)(F:Fun K "issue" "Book.issue" z5l f fd)(B6:C8 P w K mg base 1 A1 "issue" z20 (z5I (OfD K A1))):A7 P w K mg base CX0 2 f fd z4R (y04 (BkD K A2 A1)):=by
 have nd:=z6M.nd
 refine F.ok z6M (fun vs H Q E h=>?_) (fun cdv A outer s H vs Q E hr h=>?_)
 ·obtain⟨p,fp,zs,r,k,rows,log,n,rfl,_⟩:=h
  rfl
 obtain⟨p,fp,zs,r,k,rows,log,n,rfl,⟨dx,po,pd,fs,fo,us,rfl,B⟩,n1,n2,q⟩:=h
 refine⟨_,(z05 (z0i (z1l B6 (rm hr) (z0I (pv 0) rfl) (z00 (pv 1) z02)))),?_⟩
 obtain⟨dxo,pno,plo,fso,xso,efo,h1,h2,h3,h4,l1,l2,l3,lmo,_⟩:=id B.of
 exact⟨_,rfl,p,A2,dx,fs,_,rfl,B.hp,T.cl,T.n_office,B.lo,po,dxo,fso,rfl,h1,lmo _ (by simp),_,rfl,po,fo,zs,r,rows,n,rfl,B.of,n1,n2,q⟩
theorem y3i{A2 A1:Addr}(M:Bl mg)(T:J8 K mg A2)(F:Fun K "deed" "Book.deed" z65 f fd):A7 P w K mg base CX0 1 f fd z8E (y4a (BkD K A2 A1)):=by
 have nd:=z7M.nd
 refine F.ok z7M (fun vs H Q E h=>?_) (fun cdv A outer s H vs Q E hr h=>?_)
 ·obtain⟨p,fp,zs,r,k,rows,log,i,d,rfl,_⟩:=h
  rfl
 obtain⟨p,fp,zs,r,k,rows,log,i,d,rfl,⟨dx,po,pd,fs,fo,us,rfl,B⟩,ed,q⟩:=h
 refine⟨_,(z04 (z0G (PW.pt (z3l (z09 z8l (pv 1) z06 (z0o _)) (z25 (z09 z2P (pv 1) (z0d z0a rfl M.len bR (z00 (z0I (pv 0) rfl) z02)) (z0o _))))) (z05 z1x) z0n) (z05 (z0i (z0D z0Z (z0I (pv 0) rfl) (z0q z1M (pv 1) z06) (fun _ _=>rfl))))),?_⟩
 have lu:=z1a B.ds
 have hi:=(cC.mp ed).1
 obtain⟨u,eu,du⟩:=y3q B.ds i d ed
 have av:atI us ((i:Int)+1-1)=some u:=by
  rw[Int.add_sub_cancel]
  exact z0X eu
 refine⟨_,rfl,_,_,rfl,rfl,_,rfl,B3 (fun q=>absurd (z0M q) (by omega)) fun _=>?_⟩
 refine⟨_,rfl,_,rfl,p,A2,dx,fs,_,rfl,B.hp,T.cl,T.n_done,B.ld,pd,us,rfl,.inl (SqL.of B.hd),_,_,rfl,rfl,_,rfl,B3 (fun q=>absurd (z0M q) (by omega)) fun _=>?_⟩
 exact⟨_,rfl,p,A2,dx,fs,_,rfl,B.hp,T.cl,T.n_done,B.ld,_,rfl,_,_,rfl,rfl,pd,us,_,u,rfl,rfl,SqL.of B.hd,av,q u (y30 du)⟩
def y46(K:PySem.W.Frag):Sp:=fun vs H Q _=>∃(a:Addr) (ns:List Int),vs=[.ref a]/\SqL K H a (ns.map V.int)/\ns.length≤63/\∀H',Q (.bl true) H'
theorem y5o{nm:List Str}{rows:List Row}(R:Rws nm rows)(h:nm.length≤12):∀w∈rows,w.length≤12:=fun w hw=>by
 have:=(R.sub w hw).length_le
 rw[bA] at this
 omega
theorem y4p{xs:List V}{k:Nat}(h:k≤xs.length):K5 xs none (some (k:Int))=xs.take k:=by
 unfold K5
 have e1:HT.sIx xs.length 0 none=0:=rfl
 have e2:HT.sIx xs.length xs.length (some (k:Int))=k:=by
  rw[HT.z97,j0 h]
 rw[e1,e2,eU,gJ]
theorem y4i{xs:List V}{k:Nat}(h:k≤xs.length):K5 xs (some (k:Int)) none=xs.drop k:=by
 unfold K5
 have e1:HT.sIx xs.length xs.length none=xs.length:=rfl
 have e2:HT.sIx xs.length 0 (some (k:Int))=k:=by
  rw[HT.z97,j0 h]
 rw[e1,e2,cO]
 rw[dD]
 exact bH _
theorem z3x{rows:List Row}{z:Str}:∀(ns:List Int),ns.Pairwise (· < ·)->(z0W ns rows z=none/\∀n∈ns,D7 (z0v rows n) z=none)\/∃n v,z0W ns rows z=some (n,v)/\n∈ns/\D7 (z0v rows n) z=some v/\∀m∈ns,n<m->D7 (z0v rows m) z=none:=by
 intro ns
 have rev:∀(l:List Int),l.reverse.Pairwise (· < ·)->(z0W l.reverse rows z=none/\∀n∈l.reverse,D7 (z0v rows n) z=none)\/∃n v,z0W l.reverse rows z=some (n,v)/\n∈l.reverse/\D7 (z0v rows n) z=some v/\∀m∈l.reverse,n<m->D7 (z0v rows m) z=none:=by
  intro l
  induction l with
  | nil=>intro _;exact .inl ⟨rfl,fun _ h=>(nomatch h)⟩
  | cons x l ih=>
   intro p
   rw[List.reverse_cons] at p ⊢
   obtain⟨p1,_,p2⟩:=cW.mp p
   rw[z6h]
   cases ev:D7 (z0v rows x) z with
   | some v=>
    refine .inr ⟨x,v,rfl,cF _ (bC.mpr rfl),ev,fun m hm h=>?_⟩
    rcases bS.mp hm with hm|hm
    ·have:=p2 m hm x (bC.mpr rfl)
     omega
    ·have:=bC.mp hm
     omega
   | none=>
    rcases ih p1 with ⟨h1,h2⟩|⟨n,v,h1,h2,h3,h4⟩
    ·refine .inl ⟨h1,fun n hn=>?_⟩
     rcases bS.mp hn with hn|hn
     ·exact h2 n hn
     ·rw[bC.mp hn]
      exact ev
    ·refine .inr ⟨n,v,h1,dS _ h2,h3,fun m hm h=>?_⟩
     rcases bS.mp hm with hm|hm
     ·exact h4 m hm h
     ·rw[bC.mp hm]
      exact ev
 intro h
 have:=rev ns.reverse
 rw[fU] at this
 exact this h
theorem y4D{w:Row}{z:Str}(h:D7 w z≠none):z∈z0A w:=by
 refine eS fun hz=>h ?_
 have go:∀(w:Row),z∉z0A w->w.foldl (fun acc p=>if p.1=z then some p.2 else acc) none=none:=by
  intro w
  induction w with
  | nil=>intro _;rfl
  | cons p w ih=>
   intro hz
   unfold z0A at hz
   rw[cL,bF,not_or] at hz
   rw[d6,if_neg (fun e=>hz.1 e.symm)]
   exact ih hz.2
 exact go w hz
theorem y0P{w:Row}{z:Str}(h:z∈z0A w):∃v,D7 w z=some v:=by
 cases e:D7 w z with
 | some v=>exact⟨v,rfl⟩
 | none=>
  refine absurd h ?_
  have go:∀(w:Row),D7 w z=none->z∉z0A w:=by
   intro w
   induction w with
   | nil=>intro _ h;exact(nomatch h)
   | cons p w ih=>
    intro hz
    rw[z7H] at hz
    unfold z0A
    rw[cL,bF,not_or]
    cases e2:D7 w z with
    | some v=>rw[e2] at hz;cases hz
    | none=>
     rw[e2] at hz
     refine⟨fun e3=>?_,ih e2⟩
     have hz':(if p.1=z then some p.2 else none)=none:=hz
     rw[if_pos e3.symm] at hz'
     cases hz'
  exact go w e
def O6:Option (List Str)->DV
 | none=>.non
 | some zs=>K2 zs
def z1v(hs:List Int)(rows:List Row)(r n:Int):Option (List Str):=if n∈hs\/z0L hs n r≠0 then some (z0A (z0v rows n)) else none
def z0K(m:Nat)(hs:List Int)(rows:List Row)(r:Int):List (Option (List Str)):=(upI 1 m).map (z1v hs rows r)
def z4m(had:List Int)(m:Nat):Prop:=((m:Int)∈had\/(had=[]/\m=0))/\∀y∈had,y≤(m:Int)
theorem z0P(m:Nat)(hs:List Int)(rows:List Row)(r:Int):(z0K m hs rows r).length=m:=by
 unfold z0K
 rw[bA,z0Q]
theorem z4m.same{a b:List Int}{m:Nat}(h:z4m a m)(e:∀x,x∈b↔x∈a):z4m b m:=by
 refine⟨?_,fun y hy=>h.2 y ((e y).mp hy)⟩
 rcases h.1 with q|⟨q,q0⟩
 ·exact .inl ((e _).mpr q)
 ·refine .inr ⟨List.eq_nil_iff_forall_not_mem.mpr fun x hx=>?_,q0⟩
  have:=(e x).mp hx
  rw[q] at this
  cases this
theorem z4m.le{a:List Int}{m:Nat}{k:Int}(h:z4m a m)(hk:0≤k)(ha:∀x∈a,x≤k):(m:Int)≤k:=by
 rcases h.1 with q|⟨_,q⟩
 ·exact ha _ q
 ·omega
theorem y6W{nm:List Str}{rows:List Row}(R:Rws nm rows)(gn:D9 nm)(n:Int):(z0A (z0v rows n)).length≤12:=by
 have:=y0t gn R n
 unfold z0A
 rw[bA]
 exact this
theorem y77(hs:List Int)(h:∀x∈hs,1≤x/\x≤60):∃m:Nat,z4m hs m:=by
 induction hs with
 | nil=>exact⟨0,.inr ⟨rfl,rfl⟩,fun _ q=>(nomatch q)⟩
 | cons x xs ih=>
  obtain⟨m,t⟩:=ih fun y hy=>h y (bZ _ hy)
  have hx:=h x cD
  by_cases c:(m:Int)≤x
  ·refine⟨x.toNat,.inl ?_,fun y hy=>?_⟩
   ·rw[show((x.toNat:Nat):Int)=x by omega]
    exact cD
   ·rcases bF.mp hy with rfl|hy
    ·omega
    ·have:=t.2 y hy
     omega
  ·refine⟨m,.inl ?_,fun y hy=>?_⟩
   ·rcases t.1 with q|⟨_,q⟩
    ·exact bZ _ q
    ·omega
   ·rcases bF.mp hy with rfl|hy
    ·omega
    ·exact t.2 y hy
theorem y2c{ns:List Int}{n r:Int}(B7:∀x∈ns,1≤x/\x≤60)(h:z0L ns n r=0):∀y∈ns,n<y->¬y-r≤n:=fun y hy h1 h2=>by
 unfold z0L at h
 cases e:(upI 1 60).find? (y0G ns n r) with
 | none=>exact j9.mp e y (z0U.mpr (by have:=B7 y hy;omega)) (z3Z.mpr ⟨h1,h2,hy⟩)
 | some t=>
  rw[e] at h
  have:=z0U.mp (gE e)
  have h':t=0:=h
  omega
def y31(Sh:ShP):Sp:=fun vs H Q _=>∃(x:Addr) (fp:List Addr) (nm:List Str) (r:Int) (rows:List Row) (had:List Int) (m:Nat),vs=[.ref x]/\Sh H x fp nm r (fun n=>z0S rows n r) had/\D9 nm/\Rws nm rows/\rows.length≤60/\(∀n∈had,1≤n/\n≤rows.length)/\0≤r/\r≤10/\z4m had m/\
 ∀(v:V) (H':Hp),A4 H H'->A5 H' (.tup ((z0K m (z0e had) rows r).map O6)) v->Q v H'
theorem y1o{had:List Int}{m:Nat}(h60:∀n∈had,1≤n/\n≤60)(t:z4m had m):z0e (z0e had++z1j (z0e had))=upI 1 m:=z24 (z1F _) (z18 _ _) fun x=>by
 have inr:∀y,y∈z0e had↔y∈had:=fun y=>by
  rw[z11]
  exact⟨fun h=>h.2,fun h=>⟨by have:=h60 y h;omega,h⟩⟩
 rw[z11,bS,z0U,z1o]
 constructor
 ·rintro⟨h1,h|⟨_,_,y,hy,h⟩⟩
  ·have:=t.2 x ((inr x).mp h)
   omega
  ·have:=t.2 y ((inr y).mp hy)
   omega
 ·rintro⟨h1,h2⟩
  rcases t.1 with q|⟨_,q⟩
  ·have:=h60 _ q
   refine⟨by omega,?_⟩
   by_cases c:x∈z0e had
   ·exact .inl c
   ·refine .inr ⟨by omega,c,m,(inr _).mpr q,?_⟩
    have:x≠(m:Int):=fun e=>c (by rw[e];exact(inr _).mpr q)
    omega
  ·omega
theorem y0V{kvs:List (Key×V)}{ks:List Int}(kk:kvs.map (·.1)=ks.map Sum.inl){n:Int}(hn:n∉ks)(v:V):putK kvs (Sum.inl n) v=kvs++[(Sum.inl n,v)]:=by
 refine y17 _ ?_
 have:=z8Q kk n
 rw[decide_eq_false hn] at this
 cases e:J1 kvs (Sum.inl n:Key) with
 | none=>rfl
 | some v=>rw[e] at this;cases this
theorem y56{A0:Addr}(M:Bl mg)(F:Fun K "known_sets" "known_sets" z5h f fd)(B0:C8 P w K mg base 1 A0 "had" z1S (z5m (ShD K A0)))(C3:C8 P w K mg base 1 A0 "rows_of" z2n (z9g (ShD K A0)))
  (C4:Cal P w K mg base 1 "names_of_rows" z2m y0N) (K6:Cal P w K mg base 3 "gaps_of" z75 (z9s (ShD K A0))):A7 P w K mg base CX0 4 f fd z58 (y31 (ShD K A0)):=by
 have nd:=z6L.nd
 refine F.ok z6L (fun vs H Q E h=>?_) (fun cdv A outer s H vs Q E hr h=>?_)
 ·obtain⟨x,fp,nm,r,rows,had,m,rfl,_⟩:=h
  rfl
 obtain⟨x,fp,nm,r,rows,had,m,rfl,sh,gn,R,l60,hh,r0,r10,it,k⟩:=h
 have hu:=y06 hr
 refine⟨_,(z04 (z0s (i:=1) nd rfl (Or.inr rfl) y15) (z04 (z15 bY rfl (z2r (z2M B0 (rm hr) (pv 0))) (z0k (i:=2) nd rfl (Or.inl rfl)) (z05 (y0v hu (pv 1) (pv 2) (z0l C4 (rm hr) rfl (z00 (z1l C3 (rm hr) (pv 0) (z00 (pv 2) z02)) z02)) rfl))) (z04 (z15 bY rfl (z2r (z0l K6 (rm hr) rfl (z00 (pv 0) z02))) (y5w rfl (z1g (z0k (i:=2) nd rfl (Or.inl rfl)) (z1g (z0k (i:=3) nd rfl (Or.inl rfl)) (z1g (z0k (i:=4) nd rfl (Or.inl rfl)) z5c)))) (z05 (y0v hu (pv 1) (pv 2) (z76 (z09 z2L (pv 3) z06 (z0o _)) z7F (pv 4)) rfl))) (z05 (z0i (z0t z0m rfl M.tuple bL (z00 (z1i ["number"] ["sets"] [1] rfl (z0w rfl (by decide +kernel) rfl (by decide +kernel) rfl rfl) (z1I (z0d (z3V rfl) rfl M.sorted eY (z00 (pv 1) z02))) (fun _ _ _ _ _=>(z0k (i:=0) (show((["number"]:List PySem.Str)++(["sets"]:List PySem.Str)).Nodup from by decide +kernel) rfl (Or.inl rfl))) (z0z (by decide)) z0g (fun _ _ _ _ _=>z1K) (fun _ _ _ _ _=>(z6m hu (pv 1) (pv 0) (fun _ _=>rfl)))) z02))))))),?_⟩
 have h60:∀n∈had,1≤n/\n≤60:=fun n hn=>by have:=hh n hn;omega
 have rl:=z3y had
 have ll:=z2s (z0e had)
 obtain⟨dx,fs,h1,lm,lo⟩:∃dx fs,H x=some (.ins A0 dx fs)/\fs.lookup ("had":Str)=none/\fs.lookup ("rows_of":Str)=none:=by
  obtain⟨dx,pn,pd,fs,kvs,_,h1,_,_,_,_,lr,_,lm,_⟩:=sh
  exact⟨dx,fs,h1,lm _ (by simp),lm _ (by simp)⟩
 intro d hd
 have s0:=z01 hd (.dK [])
 have e0:upd H d (.dK []) d=some (.dK []):=z03
 generalize upd H d (.dK [])=H0 at s0 e0
 refine⟨_,rfl,x,dx,fs,rfl,s0 _ _ h1,lm,x,fp,nm,r,_,had,rfl,F8.same sh s0,fun l H1 s1 e1=>?_⟩
 have s01:=s0.trans s1
 refine⟨l,rfl,⟨_,SqT.of e1⟩,z7W (K:=K) (a:=l) (xs:=(z0e had).map V.int) (fun i σ G=>∃(kvs:List (Key×V)) (o2:Option V),A4 H G/\G l=some (.tup ((z0e had).map V.int))/\G d=some (.dK kvs)/\kvs.map (·.1)=((z0e had).take i).map Sum.inl/\(∀n v,(Sum.inl n,v)∈kvs->A5 G (K2 (z0A (z0v rows n))) v)/\
   σ=[some (.ref x),some (.ref d),o2,none,none]) ⟨[],none,s01,e1,s1 _ _ e0,by rw[cQ];rfl,fun _ _ q=>(nomatch q),rfl⟩ (fun i σ G _ ⟨_,_,_,e,_⟩=>SqT.of e) ?_ ?_⟩
 ·rintro i y σ G hy ⟨kvs,o2,sG,elG,edG,kk,tk,rfl⟩
  rw[bE] at hy
  obtain⟨n,en,rfl⟩:=cG.mp hy
  have nh:n∈had:=(z11.mp (bV en)).2
  have lk:kvs.length≤60:=by
   have:=congrArg List.length kk
   rw[bA,bA,bI] at this
   omega
  refine⟨_,rfl,x,dx,fs,rfl,sG _ _ h1,lo,_,rfl,x,fp,nm,r,_,had,n,_,_,_,rfl,F8.same sh sG,nh,rfl,fun v tv=>?_⟩
  obtain⟨a,us,rfl,ea,_,tu⟩:=z0b tv
  refine⟨a,us,z0v rows n,rfl,ea,tu,y0t gn R n,fun q G1 s1' eq=>?_⟩
  refine⟨_,rfl,_,rfl,d,_,rfl,S2.k (k:=Sum.inl n) (s1' _ _ edG) (z0f (by omega)),?_⟩
  have nin:n∉(z0e had).take i:=fun h=>by
   have:=(z1F had)
   rw[<- List.take_append_drop (i+1) (z0e had),z0j en] at this
   have:=(cW.mp (cW.mp this).1).2.2 n h n (bC.mpr rfl)
   omega
  rw[y0V kk nin]
  have nl:l≠d:=z5k elG edG (by intro z;cases z)
  refine⟨_,_,z2J (sG.trans s1') hd,by rw[z0h nl];exact s1' _ _ elG,z03,?_,fun n' v' hv=>?_,rfl⟩
  ·rw[bG,kk,z0j en,bG]
   rfl
  ·refine A5.over (s1' _ _ edG) (fun _ z=>by cases z) _ _ ?_
   rcases bS.mp hv with h|h
   ·exact A5.keep s1' _ _ (tk n' v' h)
   ·rw[bC] at h
    cases h
    exact z0u eq (by rw[bA];have:=y6W R gn n;omega) (z1V _)
 rintro σ H2 ⟨kvs,o2,s2,_,ed2,kk2,tk2,rfl⟩
 rw[bA,bP] at kk2
 have sh2:=F8.same sh s2
 refine⟨_,rfl,x,fp,nm,r,rows,had,rfl,sh2,gn,R,l60,hh,r0,r10,fun gv H3 s3 tg=>?_⟩
 obtain⟨ag,gz,rfl,eag,_,tgz⟩:=z0b tg
 have lgz:gz.length=(z1j (z0e had)).length:=by
  rw[tgz.length]
  unfold z6X
  rw[bA]
 have s23:=s2.trans s3
 refine⟨ag,rfl,⟨_,SqT.of eag⟩,z7W (K:=K) (a:=ag) (xs:=gz) (fun i σ G=>∃(kvs:List (Key×V)) (o2 o3 o4:Option V),A4 H G/\G ag=some (.tup gz)/\z08 G (z6X (z0e had) rows r) gz/\G d=some (.dK kvs)/\kvs.map (·.1)=(z0e had++(z1j (z0e had)).take i).map Sum.inl/\(∀n v,(Sum.inl n,v)∈kvs->A5 G (O6 (z1v (z0e had) rows r n)) v)/\
   σ=[some (.ref x),some (.ref d),o2,o3,o4]) ⟨kvs,_,_,_,s23,eag,tgz,s3 _ _ ed2,by rw[cQ,cY];exact kk2,fun n v hv=>?_,rfl⟩ (fun i σ G _ ⟨_,_,_,_,_,e,_⟩=>SqT.of e) ?_ ?_⟩
 ·have hm:n∈z0e had:=by
   have:(Sum.inl n:Key)∈kvs.map (·.1):=cK.mpr ⟨_,hv,rfl⟩
   rw[kk2] at this
   obtain⟨n',h,e⟩:=cK.mp this
   cases e
   exact h
  unfold z1v
  rw[if_pos (.inl hm)]
  exact A5.keep s3 _ _ (tk2 n v hv)
 ·rintro i y σ G hy ⟨kvs,o2,o3,o4,sG,eaG,tG,edG,kk,tk,rfl⟩
  obtain⟨n,a,b,en,rfl,ha,hb⟩:=z5G tG hy
  have hlk:=bV en
  have hin:n∉z0e had:=(z1o.mp hlk).2.1
  have lk:kvs.length≤120:=by
   have:=congrArg List.length kk
   rw[bA,bA,bJ,bI] at this
   omega
  have nin:n∉z0e had++(z1j (z0e had)).take i:=fun h=>by
   rcases bS.mp h with h|h
   ·exact hin h
   ·have:=z3q (z0e had)
    rw[<- List.take_append_drop (i+1) (z1j (z0e had)),z0j en] at this
    have:=(cW.mp (cW.mp this).1).2.2 n h n (bC.mpr rfl)
    omega
  have nag:ag≠d:=z5k eaG edG (by intro z;cases z)
  refine⟨a,_,rfl,SqT.of ha,rfl,_,_,rfl,_,_,rfl,_,_,rfl,rfl,?_⟩
  have fin:∀v,A5 G (O6 (z1v (z0e had) rows r n)) v->∃(Y1:List (Key×V)) (o2 o3 o4:Option V),A4 H (upd G d (.dK (putK kvs (Sum.inl n) v)))/\upd G d (.dK (putK kvs (Sum.inl n) v)) ag=some (.tup gz)/\z08 (upd G d (.dK (putK kvs (Sum.inl n) v))) (z6X (z0e had) rows r) gz/\upd G d (.dK (putK kvs (Sum.inl n) v)) d=some (.dK Y1)/\Y1.map (·.1)=(z0e had++(z1j (z0e had)).take (i+1)).map Sum.inl/\(∀n' v',(Sum.inl n',v')∈Y1->A5 (upd G d (.dK (putK kvs (Sum.inl n) v))) (O6 (z1v (z0e had) rows r n')) v')/\
    [some (V.ref x),some (.ref d),some (.int n),some (.int (z0L (z0e had) n r)),some (.ref b)]=[some (V.ref x),some (.ref d),o2,o3,o4]:=fun v tv=>by
   rw[y0V kk nin]
   refine⟨_,_,_,_,z2J sG hd,by rw[z0h nag];exact eaG,z08.over edG (fun _ z=>by cases z) _ _ tG,z03,?_,fun n' v' hv=>?_,rfl⟩
   ·rw[bG,kk,z0j en,<- fN,bG (l₁:=z0e had++_)]
    rfl
   ·refine A5.over edG (fun _ z=>by cases z) _ _ ?_
    rcases bS.mp hv with h|h
    ·exact tk n' v' h
    ·rw[bC] at h
     cases h
     exact tv
  refine⟨_,rfl,rfl,_,rfl,?_⟩
  by_cases c:z0L (z0e had) n r=0
  ·rw[decide_eq_true (congrArg V.int c)]
   refine E9 ⟨_,rfl,_,rfl,d,_,rfl,S2.k (k:=Sum.inl n) edG (z0f (by omega)),fin .non ?_⟩
   unfold z1v
   rw[if_neg (fun h=>h.elim hin fun h=>h c)]
   exact z71
  ·rw[decide_eq_false (fun e=>c (V.int.inj e))]
   refine B5 ⟨_,rfl,_,rfl,_,rfl,d,_,rfl,S2.k (k:=Sum.inl n) edG (z0f (by omega)),fin (.ref b) ?_⟩
   unfold z1v
   rw[if_pos (.inr c)]
   unfold z29 at hb
   rw[if_neg c] at hb
   exact z0u hb (by rw[bA];have:=y6W R gn n;omega) (z1V _)
 rintro σ H4 ⟨kvs,p2,p3,p4,s4,_,_,ed4,kk4,tk4,rfl⟩
 rw[lgz,bP] at kk4
 have hm60:m≤60:=by have:=it.le (k:=60) (by decide) fun x hx=>(h60 x hx).2;omega
 have knd:(z0e had++z1j (z0e had)).Nodup:=gR.mpr ⟨(z1F had).imp fun h=>jK h,(z3q _).imp fun h=>jK h,fun a ha b hb e=>(z1o.mp hb).2.1 (e ▸ ha)⟩
 have kall:∀n∈z0e had++z1j (z0e had),1≤n/\n≤60:=fun n hn=>by
  rcases bS.mp hn with h|h
  ·exact h60 n (z11.mp h).2
  ·have:=(z1o.mp h).1
   omega
 refine⟨_,rfl,d,kvs,z0e had++z1j (z0e had),rfl,ed4,kk4,eJ (z7D knd kall) (by decide),fun ls ms hls hp hs=>?_⟩
 have ems:ms=upI 1 m:=by
  rw[z9q knd kall hp hs]
  exact y1o h60 it
 subst ems
 have s5:=z01 hls (.lst ((upI 1 m).map V.int))
 have e5:upd H4 ls (.lst ((upI 1 m).map V.int)) ls=some (.lst ((upI 1 m).map V.int)):=z03
 have ed5:=s5 _ _ ed4
 generalize upd H4 ls (.lst ((upI 1 m).map V.int))=H5 at s5 e5 ed5
 refine⟨ls,rfl,⟨_,SqL.of e5⟩,?_⟩
 refine z3w (xs:=(upI 1 m).map V.int) (fun i ys G=>G=H5/\z08 H5 (((upI 1 m).take i).map fun n=>O6 (z1v (z0e had) rows r n)) ys) ⟨rfl,by rw[cQ];exact .nil⟩ (fun i ys G hi hp=>?_) (fun i y ys G hy hp=>?_) (fun ys G hp=>?_)
 ·obtain⟨rfl,t⟩:=hp
  refine⟨SqL.of e5,z0f ?_⟩
  rw[t.length,bA,bI,z0Q]
  omega
 ·obtain⟨rfl,t⟩:=hp
  rw[bE] at hy
  obtain⟨n,en,rfl⟩:=cG.mp hy
  have hn:n∈z0e had++z1j (z0e had):=by
   have:=bV en
   rw[<- y1o h60 it] at this
   exact(z11.mp this).2
  obtain⟨v,ev,mv⟩:=z7c kk4 hn
  refine⟨_,rfl,_,rfl,d,v,rfl,(by rw[<- ev];exact L6.k (k:=Sum.inl n) ed5),rfl,?_⟩
  rw[z0j en,bG]
  exact z08.snoc t (A5.keep s5 _ _ (tk4 n v mv))
 ·obtain⟨rfl,t⟩:=hp
  rw[bA,bP] at t
  intro D hD
  refine⟨D,ys,rfl,.inl ⟨SqL.of z03,fun q hq=>k _ _ (s4.trans (s5.trans ((z01 hD _).trans (z01 hq _)))) (z0u z03 ?_ (z08.keep ((z01 hD _).trans (z01 hq _)) _ _ ?_))⟩⟩
  ·rw[bA,z0P]
   omega
  ·unfold z0K
   rw[dL]
   exact t
def z8Z(c:List (List Str)):DV:=.tup (c.map K2)
def z3K(ks:List (Option (List Str))):List (List Str):=ks.map fun o=>o.getD []
def z4c(c:List (List Str))(d:Nat)(z:Str):List (List Str):=c.take (d-1)++[[z]]++c.drop d
theorem z08.drop{H:Hp}:∀{ds:List DV}{xs:List V} (n:Nat),z08 H ds xs->z08 H (ds.drop n) (xs.drop n)
 | _,_,0,h=>h
 | [],_,n+1,h=>by
  have:=z0F h
  subst this
  exact .nil
 | d0::ds,_,n+1,h=>by
  obtain⟨x0,r,rfl,h1,h2⟩:=z0c h
  exact z08.drop n h2
theorem y1l{had:List Int}{r:Int}{m:Nat}(h60:∀n∈had,1≤n/\n≤60)(t:z4m had m){d:Int}(hd:d∈z4Z (z0e had) r):1≤d/\d<(m:Int):=by
 obtain⟨h1,_⟩:=z5u.mp hd
 obtain⟨h2,_,y,hy,h3⟩:=z1o.mp h1
 have:=t.2 y (z11.mp hy).2
 omega
theorem y07{ns:List Int}{rows:List Row}{r num:Int}{z:Str}(h:z19 ns rows r num z="open"):∃n∈z4Z ns r,num<n:=by
 unfold z19 at h
 split at h
 ·exact absurd h (by decide)
 ·split at h
  ·exact absurd h (by decide)
  ·rename_i c
   refine eS fun q=>c (z6S.mpr fun n hn=>?_)
   exact Int.not_lt.mp fun z=>q ⟨n,hn,z⟩
def y6K(Sh:ShP):Sp:=fun vs H Q _=>∃(x:Addr) (z:Str) (fp:List Addr) (nm:List Str) (r:Int) (rows:List Row) (had:List Int) (m:Nat),vs=[.ref x,.str z]/\Sh H x fp nm r (fun n=>z0S rows n r) had/\z∈nm/\D9 nm/\Rws nm rows/\rows.length≤60/\(∀n∈had,1≤n/\n≤rows.length)/\0≤r/\r≤10/\z4m had m/\
 (z19 (z0e had) rows r (z27 (z0W (z0e had) rows z)) z≠"open"->∀H',A4 H H'->Q .non H')/\
 (z19 (z0e had) rows r (z27 (z0W (z0e had) rows z)) z="open"->∀(d:Nat),(d:Int)∈z4Z (z0e had) r->(∀y∈z4Z (z0e had) r,y≤(d:Int))->∀(v:V) (H':Hp),A4 H H'->A5 H' (.tup [z8Z (z3K (z0K m (z0e had) rows r)),z8Z (z4c (z3K (z0K m (z0e had) rows r)) d z)]) v->Q v H')
theorem z8j{A0:Addr}(M:Bl mg)(T:D0 K mg A0)(F:Fun K "two_courses" "two_courses" z4a f fd)(G0:Cal P w K mg base 5 "state_of" z5F (z8c (ShD K A0)))(N0:Cal P w K mg base 4 "known_sets" z58 (y31 (ShD K A0)))
  (B0:C8 P w K mg base 1 A0 "had" z1S (z5m (ShD K A0))) (C9:Cal P w K mg base 3 "dark_numbers" z2G (y3s K)):A7 P w K mg base CX0 6 f fd z48 (y6K (ShD K A0)):=by
 have nd:=z5R.nd
 refine F.ok z5R (fun vs H Q E h=>?_) (fun cdv A outer s H vs Q E hr h=>?_)
 ·obtain⟨x,z,fp,nm,r,rows,had,m,rfl,_⟩:=h
  rfl
 obtain⟨x,z,fp,nm,r,rows,had,m,rfl,sh,hz,gn,R,l60,hh,r0,r10,it,k1,k2⟩:=h
 refine⟨_,(z04 (z0G (z09 z6Y (z0l G0 (rm hr) rfl (z00 (pv 0) (z00 (pv 1) z02))) (z2h rfl M.OPEN) (z0o _)) (z05 (z0i z7F)) z0n) (z04 (z0s (i:=2) nd rfl (Or.inl rfl) (z0t z0m rfl M.tuple bL (z00 (z1i ["known"] [] [] rfl (z0w rfl (by decide +kernel) rfl (by decide +kernel) rfl rfl) (z2r (z0l N0 (rm hr) rfl (z00 (pv 0) z02))) (fun _ _ _ _ _=>(z0k (i:=0) (show((["known"]:List PySem.Str)++([]:List PySem.Str)).Nodup from by decide +kernel) rfl (Or.inl rfl))) (z0z (by decide)) z0g (fun _ _ _ _ _=>z1K) (fun _ _ _ _ _=>(z76 (z5J (z8K (pv 0))) (z0V z02) (pv 0)))) z02))) (z04 (z0s (i:=3) nd rfl (Or.inl rfl) (z0d (z7s rfl) rfl M.max dQ (z00 (z0l C9 (rm hr) rfl (z00 (z2M B0 (rm hr) (pv 0)) (z00 (z0I (pv 0) rfl) z02))) z02))) (z04 (z0s (i:=4) nd rfl (Or.inl rfl) (z0q y2P (z0q y2P (z2I y2U (pv 2) z3E (z3I (z0q z1M (pv 3) z06))) (z0V (z00 (z0V (z00 (pv 1) z02)) z02))) (z2I y2U (pv 2) (z3I (pv 3)) z3E))) (z05 (z0i (z0V (z00 (pv 2) (z00 (pv 4) z02))))))))),?_⟩
 have h60:∀n∈had,1≤n/\n≤60:=fun n hn=>by have:=hh n hn;omega
 have h60r:∀n∈z0e had,1≤n/\n≤60:=fun n hn=>h60 n (z11.mp hn).2
 have hm60:m≤60:=by have:=it.le (k:=60) (by decide) fun x hx=>(h60 x hx).2;omega
 obtain⟨dx,fs,h1,lm,lr⟩:∃dx fs,H x=some (.ins A0 dx fs)/\fs.lookup ("had":Str)=none/\fs.lookup ("reach":Str)=some (V.int r):=by
  obtain⟨dx,pn,pd,fs,kvs,_,h1,_,_,_,_,lr,_,lm,_⟩:=sh
  exact⟨dx,fs,h1,lm _ (by simp),lr⟩
 refine⟨_,rfl,_,rfl,x,z,fp,nm,r,rows,had,rfl,sh,hz,gn,R,l60,hh,r0,r10,fun H1 s1=>⟨rfl,_,rfl,?_⟩⟩
 by_cases c:z19 (z0e had) rows r (z27 (z0W (z0e had) rows z)) z="open"
 case neg=>
  rw[decide_eq_false (fun e=>c (V.str.inj e))]
  exact E9 (k1 c H1 s1)
 rw[decide_eq_true (congrArg V.str c)]
 refine B5 ?_
 have sh1:=F8.same sh s1
 refine⟨_,rfl,x,fp,nm,r,rows,had,m,rfl,sh1,gn,R,l60,hh,r0,r10,it,fun kv H2 s2 tk=>?_⟩
 obtain⟨ak,us,rfl,eak,_,tus⟩:=z0b tk
 have lus:us.length=m:=by rw[tus.length,bA,z0P]
 refine⟨ak,rfl,⟨_,SqT.of eak⟩,?_⟩
 refine z1u (xs:=us) (fun i ys G=>A4 H2 G/\z08 G ((z3K ((z0K m (z0e had) rows r).take i)).map K2) ys) ⟨A4.refl _,by rw[cQ];exact .nil⟩ (fun i ys G hi hp=>?_) (fun i y ys G hy hp=>?_) (fun ys G hp=>?_)
 ·obtain⟨g,t⟩:=hp
  refine⟨SqT.of (g _ _ eak),z0f ?_⟩
  rw[t.length,bA]
  unfold z3K
  rw[bA,bI,z0P]
  omega
 ·obtain⟨g,t⟩:=hp
  obtain⟨d,ed,td⟩:=tus.at i y hy
  rw[bE] at ed
  obtain⟨o,eo,rfl⟩:=cG.mp ed
  have eb:z3K ((z0K m (z0e had) rows r).take (i+1))=z3K ((z0K m (z0e had) rows r).take i)++[o.getD []]:=by
   unfold z3K
   rw[z0j eo,bG]
   rfl
  rw[eb,bG]
  cases o with
  | none=>
   have ey:y=.non:=by
    unfold O6 A5 at td
    exact td
   subst ey
   refine⟨_,rfl,_,rfl,E9 ⟨(by show 0≤sizeLine;decide),fun t0 ht0=>⟨g.trans (z01 ht0 _),?_⟩⟩⟩
   exact z08.snoc (z08.keep (z01 ht0 _) _ _ t) (z0u z03 (by decide) .nil)
  | some zs=>
   obtain⟨b,ws,rfl,eb',lb,tb⟩:=z0b (show A5 H2 (K2 zs) y from td)
   refine⟨_,rfl,_,rfl,B5 ⟨_,rfl,g,?_⟩⟩
   exact z08.snoc t (A5.keep g _ _ td)
 obtain⟨g,t⟩:=hp
 rw[lus,cO (by rw[z0P];exact bH _)] at t
 intro D hD
 refine⟨D,ys,rfl,.inl ⟨SqL.of z03,fun an han=>?_⟩⟩
 have s3:=g.trans ((z01 hD (.lst ys)).trans (z01 han (.tup ys)))
 have t3:=z08.keep ((z01 hD (.lst ys)).trans (z01 han (.tup ys))) _ _ t
 have en:upd (upd G D (.lst ys)) an (.tup ys) an=some (.tup ys):=z03
 generalize upd (upd G D (.lst ys)) an (.tup ys)=H3 at s3 t3 en
 have lys:ys.length=m:=by
  rw[t3.length,bA]
  unfold z3K
  rw[bA,z0P]
 have c13:=s2.trans s3
 have sh3:=F8.same sh1 c13
 have h13:=(s1.trans c13) _ _ h1
 refine⟨_,rfl,x,dx,fs,rfl,h13,lm,x,fp,nm,r,_,had,rfl,sh3,fun lh H4 s4 e4=>?_⟩
 refine⟨_,rfl,x,A0,dx,fs,_,rfl,s4 _ _ h13,T.cl,T.n_reach,lr,lh,z0e had,r,rfl,.inr (SqT.of e4),h60r,cM (z3y had) (by decide),fun ld H5 s5 e5=>?_⟩
 obtain⟨n0,hn0,_⟩:=y07 c
 refine⟨ld,z4Z (z0e had) r,rfl,.inr (SqT.of e5),List.ne_nil_of_mem hn0,fun dm hdm topd=>?_⟩
 have hdr:=y1l h60 it hdm
 obtain⟨d,rfl⟩:∃d:Nat,dm=(d:Int):=⟨dm.toNat,by omega⟩
 have s35:=s4.trans s5
 have en5:=s35 _ _ en
 have t5:=z08.keep s35 _ _ t3
 have ed1:(d:Int)-1=((d-1:Nat):Int):=by omega
 have ltm:∀l:List V,l.length≤60->l.length<sizeLine:=fun l h=>z0f (by omega)
 refine⟨_,rfl,_,rfl,_,_,rfl,rfl,_,rfl,an,ys,rfl,en5,fun p1 H6 s6 e6=>?_⟩
 rw[ed1,y4p (by rw[lys];omega)] at e6
 refine⟨_,rfl,(by show 1≤sizeLine;decide),fun t1 ht1=>⟨(by show 1≤sizeLine;decide),fun t2 ht2=>?_⟩⟩
 have s7:=(z01 ht1 (.tup [V.str z])).trans (z01 ht2 (.tup [V.ref t1]))
 have e7:upd (upd H6 t1 (.tup [V.str z])) t2 (.tup [V.ref t1]) t2=some (.tup [V.ref t1]):=z03
 have et1:=z01 ht2 (.tup [V.ref t1]) _ _ (show upd H6 t1 (.tup [V.str z]) t1=_ from z03)
 generalize upd (upd H6 t1 (.tup [V.str z])) t2 (.tup [V.ref t1])=H7 at s7 e7 et1
 refine⟨p1,t2,_,_,rfl,rfl,s7 _ _ e6,e7,?_,fun p3 H8 s8 e8=>?_⟩
 ·rw[bI]
  exact dR (z0f (by show min (d-1) ys.length+1≤1000;omega))
 have s58:=s6.trans (s7.trans s8)
 refine⟨_,rfl,_,rfl,_,rfl,an,ys,rfl,s58 _ _ en5,fun p4 H9 s9 e9=>?_⟩
 rw[y4i (by rw[lys];omega)] at e9
 refine⟨p3,p4,_,_,rfl,rfl,s9 _ _ e8,e9,?_,fun p5 HA sA eA=>?_⟩
 ·rw[bJ,bI,dD]
  exact dR (z0f (by show min (d-1) ys.length+1+(ys.length-d)≤1000;omega))
 have s5A:=s58.trans (s9.trans sA)
 refine⟨_,rfl,_,rfl,(by show 2≤sizeLine;decide),fun tz htz=>?_⟩
 have sz:=s5A.trans (z01 htz (.tup [V.ref an,V.ref p5]))
 have tyz:=z08.keep sz _ _ t5
 refine k2 c d hdm topd (.ref tz) _ (s1.trans (c13.trans (s35.trans sz))) (z0u z03 (by show 2≤1000000;decide) (.cons (z0u (sz _ _ en5) ?_ tyz) (.cons (z0u (z01 htz _ _ _ eA) ?_ ?_) .nil)))
 ·rw[bA,<- bA (f:=K2),<- tyz.length]
  omega
 ·rw[bA]
  unfold z4c z3K
  rw[bJ,bJ,bI,dD,bA,z0P]
  show min (d-1) m+1+(m-d)≤1000000
  omega
 ·unfold z4c
  rw[bG,bG,List.map_take,List.map_drop]
  refine z08.append (z08.append (z08.take _ tyz) (.cons ?_ .nil)) (z08.drop _ tyz)
  exact z0u ((s8.trans (s9.trans (sA.trans (z01 htz _)))) _ _ et1) (by show 1≤1000000;decide) (.cons (z2p z) .nil)
theorem y79{hs:List Int}{mx:Int}{m:Nat}(t:z4m hs m)(h60:∀x∈hs,1≤x/\x≤60)(hm:mx∈hs++[0])(top:∀y∈hs++[0],y≤mx):mx=(m:Int):=by
 have h0:=top 0 (cF _ (bC.mpr rfl))
 rcases t.1 with q|⟨q,q0⟩
 ·have h1:=top _ (dS _ q)
  rcases bS.mp hm with h|h
  ·have:=t.2 mx h
   omega
  ·have:=h60 _ q
   rw[bC] at h
   omega
 ·subst q
  rw[List.nil_append,bC] at hm
  omega
def y0Y(K:PySem.W.Frag):Sp:=fun vs H Q _=>∃(p lr:Addr) (hs:List Int) (us:List V) (rows:List Row) (r:Int) (m:Nat),vs=[.ref p,.ref lr,.int r]/\H p=some (.lst (hs.map V.int))/\(∀x∈hs,1≤x/\x≤60)/\hs.length≤900/\(∀x∈hs,x≤rows.length)/\
 SqL K H lr us/\z08 H (rows.map L9) us/\(∀w∈rows,w.length≤12)/\0≤r/\z4m hs m/\∀(l:Addr) (zs:List V) (H':Hp),H l=none->A4 H H'->H' l=some (.lst zs)->z08 H' ((z0K m hs rows r).map O6) zs->Q (.ref l) H'
theorem y2E(M:Bl mg)(F:Fun K "_law_known" "_law_known" z59 f fd)(D5:Cal P w K mg base 1 "_law_teller" z2Z (z7C K)):A7 P w K mg base CX0 2 f fd z4T (y0Y K):=by
 have nd:=z6N.nd
 refine F.ok z6N (fun vs H Q E h=>?_) (fun cdv A outer s H vs Q E hr h=>?_)
 ·obtain⟨p,lr,hs,us,rows,r,m,rfl,_⟩:=h
  rfl
 obtain⟨p,lr,hs,us,rows,r,m,rfl,hP,B7,hlen,hup,hR,tl,h12,r0,it,q⟩:=h
 refine⟨_,(z04 (z0s (i:=3) nd rfl (Or.inl rfl) (z1W z02)) (z04 (z15 bY rfl (z5v rfl M.range (z00 z06 (z00 (z0q z1m (z0d (z7s rfl) rfl M.max dQ (z00 (z0q y5q (pv 0) (z1W (z00 z06 z02))) z02)) z06) z02))) (z0k (i:=4) nd rfl (Or.inl rfl)) (z05 (z0G (PW.pt (z3l (z09 z5Y (pv 4) (pv 0) (by with_unfolding_all rfl)) (z25 (z09 z2P (z0l D5 (rm hr) rfl (z00 (pv 0) (z00 (pv 4) (z00 (pv 2) z02)))) z06 (z0o _))))) (z05 (z0y (z3g bU bT bX z0J (pv 3) (z00 (z0t z0m rfl M.tuple bL (z00 (z1i ["_law_row_here"] [] [] rfl (z0w rfl (by decide +kernel) rfl (by decide +kernel) rfl rfl) (z2r (z0D z0Z (pv 1) (z0q z1M (pv 4) z06) (fun _ _=>rfl))) (fun _ _ _ _ _=>(z0k (i:=0) (show((["_law_row_here"]:List PySem.Str)++([]:List PySem.Str)).Nodup from by decide +kernel) rfl (Or.inl rfl))) (z0z (by decide)) z0g (fun _ _ _ _ _=>z1K) (fun _ _ _ _ _=>(z0D (r:=O8 K) z0C (pv 0) z06 (fun _ _=>rfl)))) z02)) z02)))) (z05 (z0y (z3g bU bT bX z0J (pv 3) (z00 z7F z02))))))) (z05 (z0i (pv 3))))),?_⟩
 refine⟨(by show 0≤sizeLine;decide),fun l hl=>?_⟩
 have s1:=z01 hl (.lst [])
 refine⟨_,rfl,(by show 1≤sizeLine;decide),fun l0 hl0=>⟨p,l0,_,_,rfl,rfl,z01 hl0 _ _ _ (s1 _ _ hP),z03,?_,fun lc hlc=>?_⟩⟩
 ·rw[bA]
  exact dR (z0f (by show hs.length+1≤1000;omega))
 have s2:=s1.trans ((z01 hl0 (.lst [V.int 0])).trans (z01 hlc (.lst (hs.map V.int++[V.int 0]))))
 have eg:upd (upd (upd H l (.lst [])) l0 (.lst [V.int 0])) lc (.lst (hs.map V.int++[V.int 0])) l=some (.lst []):=(z01 hl0 _).trans (z01 hlc _) _ _ z03
 have ec:upd (upd (upd H l (.lst [])) l0 (.lst [V.int 0])) lc (.lst (hs.map V.int++[V.int 0])) lc=some (.lst ((hs++[0]).map V.int)):=by
  rw[z03,bG]
  rfl
 generalize upd (upd (upd H l (.lst [])) l0 (.lst [V.int 0])) lc (.lst (hs.map V.int++[V.int 0]))=H2 at s2 eg ec
 refine⟨lc,hs++[0],rfl,.inl (SqL.of ec),by simp,fun mx hmx top=>?_⟩
 have emx:=y79 it B7 hmx top
 subst emx
 have mr:(m:Int)≤rows.length:=it.le (by omega) hup
 have m60:m≤60:=by have:=it.le (k:=60) (by decide) fun x hx=>(B7 x hx).2;omega
 refine⟨_,_,rfl,rfl,1,(m:Int)+1,rfl,⟨by decide,by decide,by omega,by omega⟩,?_⟩
 have kat:∀i:Nat,i<m->(z0K m hs rows r)[i]? = some (z1v hs rows r (1+(i:Int))):=fun i hi=>by
  unfold z0K
  rw[bE,show(upI 1 m)[i]? = some (1+(i:Int)) by unfold upI;rw[bE,dY hi];rfl]
  rfl
 refine z1p (lo:=1) (n:=((m:Int)+1-1).toNat) (fun i σ G=>∃(zs:List V) (o4:Option V),A4 H G/\G l=some (.lst zs)/\z08 G (((z0K m hs rows r).take i).map O6) zs/\σ=[some (.ref p),some (.ref lr),some (.int r),some (.ref l),o4]) ⟨[],none,s2,eg,by rw[cQ];exact .nil,rfl⟩ (fun i σ G hi hp=>?_) (fun σ G hp=>?_)
 ·obtain⟨zs,o4,g,eG,tG,rfl⟩:=hp
  have him:i<m:=by omega
  have lz:zs.length≤i:=by
   rw[tG.length,bA,bI]
   omega
  refine⟨_,rfl,_,rfl,p,_,rfl,.inl (SqL.of (g _ _ hP)),rfl,z2t hs,_,rfl,?_⟩
  rw[if_neg bO,z36]
  have fin:∀{G1:Hp} (v:V),A4 G G1->A5 G1 (O6 (z1v hs rows r (1+(i:Int)))) v->A4 H (upd G1 l (.lst (zs++[v])))/\upd G1 l (.lst (zs++[v])) l=some (.lst (zs++[v]))/\z08 (upd G1 l (.lst (zs++[v]))) (((z0K m hs rows r).take (i+1)).map O6) (zs++[v]):=fun {G1} v s3 tv=>by
   refine⟨z2J (g.trans s3) hl,z03,?_⟩
   rw[z0j (kat i him),bG]
   exact z08.over (s3 _ _ eG) y11 _ _ (z08.snoc (z08.keep s3 _ _ tG) tv)
  have sz:zs.length<sizeLine:=z0f (by omega)
  by_cases c:(1:Int)+(i:Int)∈hs
  ·rw[decide_eq_true c]
   have ek:z1v hs rows r (1+(i:Int))=some (z0A (z0v rows (1+(i:Int)))):=by
    unfold z1v
    rw[if_pos (.inl c)]
   rw[ek] at fin
   refine E9 ?_
   have s3:A4 G G:=A4.refl _
   obtain⟨v,_,av,tv⟩:=z3o (z08.keep (g.trans s3) _ _ tl) (k:=1+(i:Int)) (by omega) (by omega)
   obtain⟨ar,xs,rfl,er,_,tp⟩:=z0b tv
   have lw:xs.length=(z0v rows (1+(i:Int))).length:=by rw[tp.length,bA]
   have w12:=z5W h12 (1+(i:Int))
   refine⟨_,rfl,.inl ⟨rfl,_,SqL.of (s3 _ _ eG)⟩,_,rfl,_,rfl,_,_,rfl,rfl,lr,us,_,_,rfl,rfl,(g.trans s3).seq hR,av,ar,rfl,⟨_,SqT.of er⟩,?_⟩
   refine z1u (xs:=xs) (fun j ys H2=>H2=G/\ys=((z0A (z0v rows (1+(i:Int)))).take j).map V.str) ⟨rfl,rfl⟩ (fun j ys H2 hj hp=>?_) (fun j y ys H2 hy hp=>?_) (fun ys H2 hp=>?_)
   ·obtain⟨rfl,rfl⟩:=hp
    refine⟨SqT.of er,z0f ?_⟩
    rw[bA,bI]
    omega
   ·obtain⟨rfl,rfl⟩:=hp
    obtain⟨pq,b,e1,rfl,e2⟩:=z2j tp j y hy
    refine⟨_,rfl,b,_,0,_,rfl,rfl,SqT.of e2,rfl,rfl,?_⟩
    have e3:(z0A (z0v rows (1+(i:Int))))[j]? = some pq.1:=by
     unfold z0A
     rw[bE,e1]
     rfl
    rw[z0j e3,bG]
    rfl
   obtain⟨rfl,rfl⟩:=hp
   have ll:(z0A (z0v rows (1+(i:Int)))).take xs.length=z0A (z0v rows (1+(i:Int))):=cO (by unfold z0A;rw[bA];omega)
   rw[ll]
   intro D hD
   refine⟨D,_,rfl,.inl ⟨SqL.of z03,fun t ht=>?_⟩⟩
   have s4:=s3.trans ((z01 hD (.lst ((z0A (z0v rows (1+(i:Int)))).map V.str))).trans (z01 ht (.tup ((z0A (z0v rows (1+(i:Int)))).map V.str))))
   obtain⟨f1,f2,f3⟩:=fin (.ref t) s4 (z0u z03 (by unfold z0A;rw[bA,bA];omega) (z1V _))
   exact⟨l,zs,_,rfl,rfl,s4 _ _ eG,sz,_,_,f1,f2,f3,rfl⟩
  ·rw[decide_eq_false c]
   refine B5 ⟨_,rfl,_,rfl,_,rfl,p,hs,1+(i:Int),r,rfl,SqL.of (g _ _ hP),B7,hlen,r0,fun G3 s3=>⟨_,_,rfl,rfl,_,rfl,?_⟩⟩
   have t0:=z6I (ns:=hs) (n:=1+(i:Int)) (r:=r)
   by_cases c2:0<z0L hs (1+(i:Int)) r
   ·rw[decide_eq_true c2]
    have ek:z1v hs rows r (1+(i:Int))=some (z0A (z0v rows (1+(i:Int)))):=by
     unfold z1v
     rw[if_pos (.inr (by omega))]
    rw[ek] at fin
    refine E9 ?_
    obtain⟨v,_,av,tv⟩:=z3o (z08.keep (g.trans s3) _ _ tl) (k:=1+(i:Int)) (by omega) (by omega)
    obtain⟨ar,xs,rfl,er,_,tp⟩:=z0b tv
    have lw:xs.length=(z0v rows (1+(i:Int))).length:=by rw[tp.length,bA]
    have w12:=z5W h12 (1+(i:Int))
    refine⟨_,rfl,.inl ⟨rfl,_,SqL.of (s3 _ _ eG)⟩,_,rfl,_,rfl,_,_,rfl,rfl,lr,us,_,_,rfl,rfl,(g.trans s3).seq hR,av,ar,rfl,⟨_,SqT.of er⟩,?_⟩
    refine z1u (xs:=xs) (fun j ys H2=>H2=G3/\ys=((z0A (z0v rows (1+(i:Int)))).take j).map V.str) ⟨rfl,rfl⟩ (fun j ys H2 hj hp=>?_) (fun j y ys H2 hy hp=>?_) (fun ys H2 hp=>?_)
    ·obtain⟨rfl,rfl⟩:=hp
     refine⟨SqT.of er,z0f ?_⟩
     rw[bA,bI]
     omega
    ·obtain⟨rfl,rfl⟩:=hp
     obtain⟨pq,b,e1,rfl,e2⟩:=z2j tp j y hy
     refine⟨_,rfl,b,_,0,_,rfl,rfl,SqT.of e2,rfl,rfl,?_⟩
     have e3:(z0A (z0v rows (1+(i:Int))))[j]? = some pq.1:=by
      unfold z0A
      rw[bE,e1]
      rfl
     rw[z0j e3,bG]
     rfl
    obtain⟨rfl,rfl⟩:=hp
    have ll:(z0A (z0v rows (1+(i:Int)))).take xs.length=z0A (z0v rows (1+(i:Int))):=cO (by unfold z0A;rw[bA];omega)
    rw[ll]
    intro D hD
    refine⟨D,_,rfl,.inl ⟨SqL.of z03,fun t ht=>?_⟩⟩
    have s4:=s3.trans ((z01 hD (.lst ((z0A (z0v rows (1+(i:Int)))).map V.str))).trans (z01 ht (.tup ((z0A (z0v rows (1+(i:Int)))).map V.str))))
    obtain⟨f1,f2,f3⟩:=fin (.ref t) s4 (z0u z03 (by unfold z0A;rw[bA,bA];omega) (z1V _))
    exact⟨l,zs,_,rfl,rfl,s4 _ _ eG,sz,_,_,f1,f2,f3,rfl⟩
   ·rw[decide_eq_false c2]
    have ek:z1v hs rows r (1+(i:Int))=none:=by
     unfold z1v
     rw[if_neg (fun h=>h.elim c fun h=>h (by omega))]
    rw[ek] at fin
    obtain⟨f1,f2,f3⟩:=fin .non s3 z71
    exact B5 ⟨_,rfl,.inl ⟨rfl,_,SqL.of (s3 _ _ eG)⟩,l,zs,_,rfl,rfl,s3 _ _ eG,sz,_,_,f1,f2,f3,rfl⟩
 ·obtain⟨zs,o4,g,eG,tG,rfl⟩:=hp
  rw[cO (by rw[z0P];omega)] at tG
  exact⟨_,rfl,q l zs _ hl g eG tG⟩
def OkO(nm:List Str)(o:Option (List Str))(zs:List Str):Prop:=zs.Sublist nm/\∀ws,o=some ws->zs=ws
def z6W(nm:List Str)(ks:List (Option (List Str)))(c:List (List Str)):Prop:=c.length=ks.length/\∀(i:Nat) (o:Option (List Str)) (zs:List Str),ks[i]? = some o->c[i]? = some zs->OkO nm o zs
theorem z9z{nm:List Str}(nd:nm.Nodup){i:Nat}(h:i<nm.length):nm.idxOf nm[i]=i:=by
 have h1:nm.idxOf nm[i]<nm.length:=fR (dZ h)
 have h2:nm[nm.idxOf nm[i]]=nm[i]:=jA h1
 have pw:=gF.mp nd
 rcases Nat.lt_trichotomy (nm.idxOf nm[i]) i with c|c|c
 ·exact absurd h2 (pw _ _ h1 h c)
 ·exact c
 ·exact absurd h2.symm (pw _ _ h h1 c)
theorem y3z{nm zs:List Str}(nd:nm.Nodup)(hin:∀z∈zs,z∈nm):(zs.map fun z=>nm.idxOf z).Pairwise (· < ·)↔zs.Sublist nm:=by
 constructor
 ·intro h
  have e:zs=(zs.attach.map fun z=>(⟨nm.idxOf z.1,fR (hin z.1 z.2)⟩:Fin nm.length)).map fun i=>nm[i]:=by
   rw[dL]
   refine(List.ext_getElem (by rw[bA,List.length_attach]) fun i h1 h2=>?_)
   rw[List.getElem_map,j6]
   exact(jA _).symm
  rw[e]
  refine List.map_getElem_sublist ?_
  rw[dM] at h ⊢
  rw[gF] at h ⊢
  intro i j hi hj hij
  rw[List.length_attach] at hi hj
  have:=h i j hi hj hij
  rw[j6,j6]
  exact this
 ·intro h
  obtain⟨is,rfl,hp⟩:=List.sublist_eq_map_getElem h
  rw[dL,dM]
  refine hp.imp fun {a b} hab=>?_
  show nm.idxOf nm[a]<nm.idxOf nm[b]
  have ha:nm.idxOf nm[a]=a.1:=z9z nd a.2
  have hb:nm.idxOf nm[b]=b.1:=z9z nd b.2
  rw[ha,hb]
  exact hab
theorem y3n{nm:List Str}{z:Str}(h:z∈nm):nm[nm.idxOf z]? = some z/\∀m,m<nm.idxOf z->nm[m]? ≠ some z:=by
 have h1:=fR h
 refine⟨by rw[bD h1,jA h1],fun m hm e=>?_⟩
 have hm':m<nm.length:=by omega
 rw[bD hm'] at e
 have e':=Option.some.inj e
 have hf:(nm[m] == z)=false:=List.not_of_lt_findIdx (p:=(· == z)) (xs:=nm) hm
 rw[e',beq_self_eq_true] at hf
 cases hf
theorem y3l{ps:List Nat}{j:Nat}(h:(ps.take (j+1)).Pairwise (· < ·)){a b:Nat}(ha:ps[j]? = some a)(hb:ps[j+1]? = some b)(hab:a<b):(ps.take (j+1+1)).Pairwise (· < ·):=by
 rw[z0j hb]
 refine cW.mpr ⟨h,fE _ _,fun x hx y hy=>?_⟩
 rw[bC.mp hy]
 rw[z0j ha] at h hx
 rcases bS.mp hx with hx|hx
 ·have:=(cW.mp h).2.2 x hx a (bC.mpr rfl)
  omega
 ·rw[bC.mp hx]
  exact hab
theorem y28(a b:List Str):z2W (a.map V.str) (b.map V.str)=decide (a=b):=by
 induction a generalizing b with
 | nil=>
  cases b with
  | nil=>rfl
  | cons y b=>exact(decide_eq_false (fun e=>nomatch e)).symm
 | cons x a ih=>
  cases b with
  | nil=>exact(decide_eq_false (fun e=>nomatch e)).symm
  | cons y b=>
   show(x == y && z2W (a.map V.str) (b.map V.str))=decide (x::a=y::b)
   rw[ih,cX,bW,decide_eq_true_eq,decide_eq_true_eq,beq_iff_eq,List.cons.injEq]
def y1s(K:PySem.W.Frag):Sp:=fun vs H Q _=>∃(v:V) (ln lk:Addr) (c:List (List Str)) (nm:List Str) (ks:List (Option (List Str))) (xs:List V),vs=[v,.ref ln,.ref lk]/\A5 H (z8Z c) v/\(∀zs∈c,zs.length≤100)/\SqL K H ln (nm.map V.str)/\nm.Nodup/\nm.length≤12/\SqL K H lk xs/\z08 H (ks.map O6) xs/\ks.length≤100/\
 (z6W nm ks c->∀H',A4 H H'->Q (.bl true) H')/\(¬z6W nm ks c->∀H',A4 H H'->Q (.bl false) H')
theorem z1c{H:Hp}:∀{l:List Str}{xs:List V},z08 H (l.map DV.str) xs->xs=l.map V.str
 | [],_,h=>z0F h
 | i::r,_,h=>by
  obtain⟨x,t,rfl,h1,h2⟩:=z0c h
  rw[z35 h1,z1c h2]
  rfl
theorem y1E(M:Bl mg)(F:Fun K "_law_course" "_law_course" z49 f fd):A7 P w K mg base CX0 1 f fd z40 (y1s K):=by
 have nd:=z5Q.nd
 refine F.ok z5Q (fun vs H Q E h=>?_) (fun cdv A outer s H vs Q E hr h=>?_)
 ·obtain⟨v,ln,lk,c,nm,ks,xs,rfl,_⟩:=h
  rfl
 obtain⟨v,ln,lk,c,nm,ks,xs,rfl,tc,c100,hN,ndn,n12,hK,tk,k100,qt,qf⟩:=h
 refine⟨_,(z04 (z0G (PW.pt (z3l (z37 (z2V (z0d z0H rfl M.isinstance c9 (z00 (pv 0) (z00 (z1P (v:=.ty "tuple") rfl M.tuple bL rfl) z02))))) (z25 (z09 z6Y (z0d z0a rfl M.len bR (z00 (pv 0) z02)) (z0d z0a rfl M.len bR (z00 (pv 2) z02)) (z0o _))))) (z05 (z0i z3p)) z0n) (z04 (z15 bY rfl (z1q rfl M.range (z00 (z0d z0a rfl M.len bR (z00 (pv 2) z02)) z02)) (z0k (i:=3) nd rfl (Or.inl rfl)) (z04 (z0G (z37 (z2V (z0d z0H rfl M.isinstance c9 (z00 (z0D z0C (pv 0) (pv 3) (fun _ _=>rfl)) (z00 (z1P (v:=.ty "tuple") rfl M.tuple bL rfl) z02))))) (z05 (z0i z3p)) z0n) (z04 (z0s (i:=4) nd rfl (Or.inl rfl) (z1W z02)) (z04 (z15 bY rfl (z2r (z0D z0C (pv 0) (pv 3) (fun _ _=>rfl))) (z0k (i:=5) nd rfl (Or.inl rfl)) (z04 (z0G (PW.pt (z3l (z37 (z2V (z0d z0H rfl M.isinstance c9 (z00 (pv 5) (z00 (z1P (v:=.ty "str") rfl M.str hV rfl) z02))))) (z25 (z09 z1T (pv 5) (pv 1) (by with_unfolding_all rfl))))) (z05 (z0i z3p)) z0n) (z05 (z0y (z3g bU bT bX z0J (pv 4) (z00 (z3g bU PySem.F.slot_list_index PySem.F.type_list_index y3T (pv 1) (z00 (pv 5) z02)) z02)))))) (z04 (z15 bY rfl (z5v rfl M.range (z00 z06 (z00 (z0d z0a rfl M.len bR (z00 (pv 4) z02)) z02))) (z0k (i:=6) nd rfl (Or.inl rfl)) (z05 (z0G (z09 y5I (z0D z0Z (pv 4) (z0q z1M (pv 6) z06) (fun _ _=>rfl)) (z0D z0Z (pv 4) (pv 6) (fun _ _=>rfl)) (z0o _)) (z05 (z0i z3p)) z0n))) (z05 (z0G (PW.pt (z4i (z5J (y3C (z0D z0Z (pv 2) (pv 3) (fun _ _=>rfl)))) (z3j (z09 (y6S hr.Q8) (z0D z0C (pv 0) (pv 3) (fun _ _=>rfl)) (z0D z0Z (pv 2) (pv 3) (fun _ _=>rfl)) (z0o _))))) (z05 (z0i z3p)) z0n))))))) (z05 (z0i z3p)))),?_⟩
 obtain⟨a,us,rfl,ea,_,tu⟩:=z0b (show A5 H (.tup (c.map K2)) v from tc)
 have lus:us.length=c.length:=by rw[tu.length,bA]
 have lxs:xs.length=ks.length:=by rw[tk.length,bA]
 refine⟨_,rfl,_,_,_,_,rfl,.tup ea,z6u,_,rfl,B5 ⟨_,rfl,a,_,rfl,.inr (SqT.of ea),_,rfl,lk,_,rfl,.inl hK,rfl,_,rfl,?_⟩⟩
 by_cases cl:c.length=ks.length
 case neg=>
  rw[decide_eq_false (fun e=>cl (by injection e with e;omega))]
  exact E9 (qf (fun h=>cl h.1) H (A4.refl _))
 rw[decide_eq_true (by rw[lus,lxs,cl])]
 refine B5 ?_
 refine⟨_,rfl,lk,xs,rfl,.inl hK,_,rfl,by omega,by omega,?_⟩
 refine z1p (lo:=0) (n:=((xs.length:Nat):Int).toNat) (fun i σ G=>∃(o3 o4 o5 o6:Option V),A4 H G/\(∀(j:Nat) (o:Option (List Str)) (zs:List Str),j<i->ks[j]? = some o->c[j]? = some zs->OkO nm o zs)/\σ=[some (.ref a),some (.ref ln),some (.ref lk),o3,o4,o5,o6]) ⟨_,_,_,_,A4.refl _,fun _ _ _ h=>absurd h (gD _),rfl⟩ (fun i σ G hi hp=>?_) (fun σ G hp=>?_)
 ·obtain⟨o3,o4,o5,o6,g,done,rfl⟩:=hp
  have hic:i<c.length:=by omega
  have hik:i<ks.length:=by omega
  have ei:(0:Int)+(i:Int)=(i:Int):=gK _
  have eci:c[i]? = some c[i]:=bD hic
  have eki:ks[i]? = some ks[i]:=bD hik
  have w0l:=c100 c[i] (dZ hic)
  generalize c[i]=zs at eci w0l
  generalize ks[i]=o at eki
  obtain⟨u,eu,tu1⟩:=tu.get i (K2 zs) (by rw[bE,eci];rfl)
  obtain⟨b,ws,rfl,eb,_,tb⟩:=z0b (show A5 H (.tup (zs.map DV.str)) u from tu1)
  have ews:=z1c tb
  subst ews
  obtain⟨x,ex,tx⟩:=tk.get i (O6 o) (by rw[bE,eki];rfl)
  have atu:atI us ((0:Int)+(i:Int))=some (.ref b):=by rw[ei];exact z0X eu
  have atx:atI xs ((0:Int)+(i:Int))=some x:=by rw[ei];exact z0X ex
  have bad:¬OkO nm o zs->¬z6W nm ks c:=fun h q=>h (q.2 i o zs eki eci)
  refine⟨_,rfl,_,rfl,a,_,_,_,rfl,rfl,SqT.of (g _ _ ea),atu,_,_,_,_,rfl,.tup (g _ _ eb),z6u,_,rfl,B5 ?_⟩
  refine⟨(by show 0≤sizeLine;decide),fun lp hlp=>?_⟩
  have s1:=g.trans (z01 hlp (.lst []))
  have e1:upd G lp (.lst []) lp=some (.lst []):=z03
  have nlp:H lp=none:=g.free hlp
  generalize upd G lp (.lst [])=G1 at s1 e1
  refine⟨_,rfl,_,rfl,a,_,_,_,rfl,rfl,SqT.of (s1 _ _ ea),atu,b,rfl,⟨_,SqT.of (s1 _ _ eb)⟩,z7W (K:=K) (a:=b) (xs:=zs.map V.str) (fun j σ G2=>∃(o5:Option V),A4 H G2/\(∀z∈zs.take j,z∈nm)/\G2 lp=some (.lst ((zs.take j).map fun z=>V.int (nm.idxOf z:Nat)))/\σ=[some (.ref a),some (.ref ln),some (.ref lk),some (.int (0+(i:Int))),some (.ref lp),o5,o6]) ⟨_,s1,(fun z hz=>by rw[cQ] at hz;cases hz),by rw[cQ];exact e1,rfl⟩ (fun j σ G2 _ ⟨_,g2,_⟩=>SqT.of (g2 _ _ eb)) ?_ ?_⟩
  ·rintro j y σ G2 hy ⟨o5,g2,hin,ep,rfl⟩
   rw[bE] at hy
   obtain⟨z,ez,rfl⟩:=cG.mp hy
   refine⟨_,rfl,_,_,_,_,rfl,z47 rfl,z3H "str" (.inr (.inr (.inr rfl))) rfl,_,rfl,B5 ⟨_,rfl,_,rfl,ln,_,rfl,.inl (g2.seq hN),rfl,z1O nm,_,rfl,?_⟩⟩
   rw[if_pos rfl,y0Z]
   by_cases hz:z∈nm
   ·rw[decide_eq_true hz]
    obtain⟨f1,f2⟩:=y3n hz
    refine B5 ⟨_,rfl,.inl ⟨rfl,_,SqL.of ep⟩,_,rfl,.inl ⟨rfl,_,g2.seq hN⟩,_,rfl,ln,nm,z,nm.idxOf z,rfl,rfl,g2.seq hN,f1,f2,lp,_,_,rfl,rfl,ep,z0f (by rw[bA,bI];omega),?_⟩
    refine⟨_,z2J g2 nlp,fun z' hz'=>?_,?_,rfl⟩
    ·rw[z0j ez] at hz'
     rcases bS.mp hz' with h|h
     ·exact hin z' h
     ·rw[bC.mp h]
      exact hz
    ·rw[z03,z0j ez,bG]
     rfl
   ·rw[decide_eq_false hz]
    exact E9 (qf (bad fun h=>hz (h.1.subset (bV ez))) _ g2)
  rintro σ G2 ⟨o5,g2,hin,ep,rfl⟩
  rw[bA,bP] at hin ep
  have lps:(zs.map fun z=>V.int (nm.idxOf z:Nat)).length=zs.length:=bA _
  have pat:∀(j:Nat) (hj:j<zs.length),atI (zs.map fun z=>V.int (nm.idxOf z:Nat)) (j:Int)=some (V.int (nm.idxOf zs[j]:Nat)):=fun j hj=>z0X (by rw[bE,bD hj];rfl)
  have ipt:∀(j:Nat) (hj:j<zs.length),(zs.map fun z=>nm.idxOf z)[j]? = some (nm.idxOf zs[j]):=fun j hj=>by rw[bE,bD hj];rfl
  refine⟨_,rfl,lp,_,rfl,.inl (SqL.of ep),1,_,rfl,⟨by decide,by decide,by omega,by omega⟩,?_⟩
  refine z1p (lo:=1) (n:=((((zs.map fun z=>V.int (nm.idxOf z:Nat)).length:Nat):Int)-1).toNat) (fun j σ G3=>∃(o6:Option V),G3=G2/\((zs.map fun z=>nm.idxOf z).take (j+1)).Pairwise (· < ·)/\σ=[some (.ref a),some (.ref ln),some (.ref lk),some (.int (0+(i:Int))),some (.ref lp),o5,o6]) ⟨_,rfl,?_,rfl⟩ (fun j σ G3 hj hp=>?_) (fun σ G3 hp=>?_)
  ·cases zs with
   | nil=>exact .nil
   | cons z r=>exact fE _ _
  ·obtain⟨o6',rfl,pw,rfl⟩:=hp
   have hj1:j+1<zs.length:=by rw[lps] at hj;omega
   have e1:(1:Int)+(j:Int)-1=((j:Nat):Int):=by omega
   have e2:(1:Int)+(j:Int)=((j+1:Nat):Int):=by omega
   refine⟨_,rfl,_,rfl,_,_,rfl,rfl,lp,_,_,_,rfl,rfl,SqL.of ep,(by rw[e1];exact pat j (by omega)),_,rfl,_,rfl,lp,_,_,_,rfl,rfl,SqL.of ep,(by rw[e2];exact pat (j+1) hj1),_,_,rfl,rfl,_,rfl,?_⟩
   by_cases hlt:nm.idxOf zs[j]<nm.idxOf zs[j+1]
   ·rw[decide_eq_false (by omega)]
    exact B5 ⟨_,rfl,y3l pw (ipt j (by omega)) (ipt (j+1) hj1) hlt,rfl⟩
   ·rw[decide_eq_true (by omega)]
    refine E9 (qf (bad fun h=>hlt ?_) _ g2)
    have:=(y3z ndn hin).mpr h.1
    rw[dM,gF] at this
    exact this j (j+1) (by omega) hj1 (by omega)
  obtain⟨o6',rfl,pw,rfl⟩:=hp
  have sub:zs.Sublist nm:=by
   refine(y3z ndn hin).mp ?_
   rw[cO (by rw[bA];rw[lps];omega)] at pw
   exact pw
  have more:OkO nm o zs->∀(j:Nat) (o:Option (List Str)) (zs:List Str),j<i+1->ks[j]? = some o->c[j]? = some zs->OkO nm o zs:=fun h j o' zs' hj h1 h2=>by
   by_cases e:j=i
   ·subst e
    rw[eki] at h1
    rw[eci] at h2
    cases h1
    cases h2
    exact h
   ·exact done j o' zs' (by omega) h1 h2
  refine⟨_,rfl,_,rfl,lk,_,_,_,rfl,rfl,g2.seq hK,atx,?_⟩
  cases o with
  | none=>
   have ex':x=.non:=by
    unfold O6 A5 at tx
    exact tx
   subst ex'
   exact⟨_,rfl,B5 (B5 ⟨_,_,_,_,g2,more ⟨sub,fun _ h=>by cases h⟩,rfl⟩)⟩
  | some ws=>
   obtain⟨b2,vs2,rfl,eb2,_,tb2⟩:=z0b (show A5 H (.tup (ws.map DV.str)) x from tx)
   have ews:=z1c tb2
   subst ews
   refine⟨_,rfl,E9 ⟨_,rfl,_,rfl,a,_,_,_,rfl,rfl,SqT.of (g2 _ _ ea),atu,_,rfl,_,rfl,lk,_,_,_,rfl,rfl,g2.seq hK,atx,b,b2,_,_,rfl,rfl,SqT.of (g2 _ _ eb),SqT.of (g2 _ _ eb2),z1O zs,z1O ws,_,rfl,?_⟩⟩
   by_cases e:zs=ws
   ·subst e
    rw[z6p (z1O zs)]
    exact B5 ⟨_,_,_,_,g2,more ⟨sub,fun _ h=>by cases h;rfl⟩,rfl⟩
   ·rw[y28,decide_eq_false e]
    exact E9 (qf (bad fun h=>e (h.2 ws rfl)) _ g2)
 ·obtain⟨o3,o4,o5,o6,g,done,rfl⟩:=hp
  refine qt ⟨cl,fun i o zs h1 h2=>done i o zs ?_ h1 h2⟩ _ g
  have:=(cC.mp h1).1
  omega
theorem y67{nm:List Str}{rows:List Row}(R:Rws nm rows)(n:Int):(z0A (z0v rows n)).Sublist nm:=by
 unfold z0v z0A
 rw[bM]
 cases e:rows[(n-1).toNat]? with
 | none=>exact jJ _
 | some w=>exact R.sub w (bV e)
theorem z9p{m:Nat}{hs:List Int}{rows:List Row}{r:Int}{i:Nat}{o:Option (List Str)}(h:(z0K m hs rows r)[i]? = some o):i<m/\o=z1v hs rows r (1+(i:Int)):=by
 have hi:=(cC.mp h).1
 rw[z0P] at hi
 refine⟨hi,?_⟩
 unfold z0K at h
 rw[bE,show(upI 1 m)[i]? = some (1+(i:Int)) by unfold upI;rw[bE,dY hi];rfl] at h
 exact(Option.some.inj h).symm
theorem z7X{hs:List Int}{rows:List Row}{r n:Int}{ws:List Str}(h:z1v hs rows r n=some ws):ws=z0A (z0v rows n)/\(n∈hs\/z0L hs n r≠0):=by
 unfold z1v at h
 split at h
 ·rename_i c
  exact⟨(Option.some.inj h).symm,c⟩
 ·cases h
theorem z9r(m:Nat)(hs:List Int)(rows:List Row)(r:Int):(z3K (z0K m hs rows r)).length=m:=by
 unfold z3K
 rw[bA,z0P]
theorem y3h{ks:List (Option (List Str))}{i:Nat}{zs:List Str}(h:(z3K ks)[i]? = some zs):∃o,ks[i]? = some o/\zs=o.getD []:=by
 unfold z3K at h
 rw[bE] at h
 obtain⟨o,e,h⟩:=cG.mp h
 exact⟨o,e,h.symm⟩
theorem z9C{nm:List Str}{rows:List Row}(R:Rws nm rows)(m:Nat)(hs:List Int)(r:Int):z6W nm (z0K m hs rows r) (z3K (z0K m hs rows r)):=by
 refine⟨by rw[z9r,z0P],fun i o zs h1 h2=>?_⟩
 obtain⟨o',e,rfl⟩:=y3h h2
 rw[h1] at e
 cases e
 obtain⟨_,eo⟩:=z9p h1
 cases o with
 | none=>exact⟨jJ _,fun _ h=>by cases h⟩
 | some ws=>
  refine⟨?_,fun _ h=>by cases h;rfl⟩
  rw[show(some ws).getD []=ws from rfl,(z7X eo.symm).1]
  exact y67 R _
theorem y0Q{c:List (List Str)}{d:Nat}{z:Str}(h1:1≤d)(h2:d≤c.length)(i:Nat):(z4c c d z)[i]? = if i=d-1 then some [z] else c[i]? := by
 have hl:(c.take (d-1)).length=d-1:=by rw[bI];omega
 unfold z4c
 by_cases hi:i<d-1
 ·rw[if_neg (by omega),cV (by rw[bJ,hl];show i<d-1+1;omega),cV (by omega),List.getElem?_take_of_lt hi]
 ·by_cases he:i=d-1
  ·rw[if_pos he,cV (by rw[bJ,hl];show i<d-1+1;omega),dF (by omega),hl,he,Nat.sub_self]
   rfl
  ·rw[if_neg he,dF (by rw[bJ,hl];show d-1+1≤i;omega),bJ,hl,List.getElem?_drop]
   congr 1
   show d+(i-(d-1+1))=i
   omega
theorem y0e{c:List (List Str)}{d:Nat}{z:Str}(h1:1≤d)(h2:d≤c.length):(z4c c d z).length=c.length:=by
 unfold z4c
 rw[bJ,bJ,bI,dD]
 show min (d-1) c.length+1+(c.length-d)=c.length
 omega
theorem y1K{nm:List Str}{rows:List Row}(R:Rws nm rows){m:Nat}{hs:List Int}{r:Int}{d:Nat}{z:Str}(hz:z∈nm)(d1:1≤d)(dm:d≤m)(hd:(d:Int)∈z4Z hs r):z6W nm (z0K m hs rows r) (z4c (z3K (z0K m hs rows r)) d z):=by
 have hb:=z9r m hs rows r
 refine⟨by rw[y0e d1 (by omega),hb,z0P],fun i o zs h1 h2=>?_⟩
 rw[y0Q d1 (by omega)] at h2
 split at h2
 ·rename_i e
  cases h2
  obtain⟨_,eo⟩:=z9p h1
  have en:(1:Int)+(i:Int)=(d:Int):=by omega
  rw[en] at eo
  obtain⟨q1,q2⟩:=z5u.mp hd
  have:z1v hs rows r d=none:=by
   unfold z1v
   rw[if_neg (fun h=>h.elim (z1o.mp q1).2.1 fun h=>h q2)]
  rw[this] at eo
  subst eo
  exact⟨List.singleton_sublist.mpr hz,fun _ h=>by cases h⟩
 ·exact(z9C R m hs r).2 i o zs h1 h2
def InC(c:List (List Str))(num:Int)(z:Str):Prop:=∃(i:Nat) (zs:List Str),c[i]? = some zs/\num<(i:Int)+1/\z∈zs
theorem y50{c:List (List Str)}{d:Nat}{z:Str}{num:Int}(h1:1≤d)(h2:d≤c.length)(h:num<(d:Int)):InC (z4c c d z) num z:=⟨d-1,[z],by rw[y0Q h1 h2,if_pos rfl],by omega,bC.mpr rfl⟩
theorem y55{hs:List Int}{rows:List Row}{r:Int}{m:Nat}{z:Str}(rise:hs.Pairwise (· < ·))(h60:∀x∈hs,1≤x/\x≤60)(it:z4m hs m)(ns:z19 hs rows r (z27 (z0W hs rows z)) z≠"stale"):¬InC (z3K (z0K m hs rows r)) (z27 (z0W hs rows z)) z:=by
 rintro⟨i,zs,h1,h2,h3⟩
 obtain⟨o,e,rfl⟩:=y3h h1
 obtain⟨hi,eo⟩:=z9p e
 cases o with
 | none=>cases h3
 | some ws=>
  obtain⟨rfl,c⟩:=z7X eo.symm
  have h3':z∈z0A (z0v rows (1+(i:Int))):=h3
  obtain⟨v,ev⟩:=y0P h3'
  by_cases hin:(1:Int)+(i:Int)∈hs
  ·rcases z3x (rows:=rows) (z:=z) hs rise with ⟨_,q⟩|⟨n,u,q1,q2,q3,q4⟩
   ·rw[q _ hin] at ev
    cases ev
   ·rw[q1] at h2
    have h2':n<(i:Int)+1:=h2
    rw[q4 _ hin (by omega)] at ev
    cases ev
  ·have ct:=c.resolve_left hin
   refine ns ?_
   unfold z19
   rw[if_pos]
   refine j4.mpr (List.ne_nil_of_mem (a:=1+(i:Int)) ?_)
   unfold z3Y
   rw[cJ,bW,decide_eq_true_eq,decide_eq_true_eq]
   refine⟨z1o.mpr ?_,by omega,?_⟩
   ·rcases it.1 with q|⟨q,q0⟩
    ·have:=h60 _ q
     refine⟨by omega,hin,m,q,?_⟩
     have:(1:Int)+(i:Int)≠m:=fun e=>hin (e ▸ q)
     omega
    ·omega
   ·unfold z29
    rw[if_neg ct]
    exact h3'
theorem y4c{k:Int}{log:List A9}(h:z5o k log):∀x∈log,1≤x.2/\x.2≤(wrN log:Int):=by
 intro x hx
 obtain⟨i,hi,e⟩:=List.getElem_of_mem hx
 have ok:=h i x (by rw[bD hi,e])
 have mono:∀j,wrN (log.take j)≤wrN log:=fun j=>by
  unfold wrN
  exact((List.take_sublist j log).filter _).length_le
 obtain⟨a,n⟩:=x
 cases a with
 | none=>
  have e1:n=(wrN (log.take i):Int)+1:=ok.1
  have:=mono (i+1)
  rw[z0j (show log[i]? = some ((none,n):A9) by rw[bD hi,e]),z2k] at this
  have t:wrN (log.take i)+1≤wrN log:=this
  show 1≤n/\n≤_
  omega
 | some rd=>
  obtain⟨_,_,h3,h4⟩:=ok
  have:=mono i
  show 1≤n/\n≤_
  have h4':n≤(wrN (log.take i):Int):=h4
  omega
def z89(n:Nat):List A9:=(upI 1 n).map fun k=>(none,k)
theorem z8B(i:Nat):z89 (i+1)=z89 i++[(none,1+(i:Int))]:=by
 unfold z89
 rw[z4t,bG]
 rfl
theorem y1e(k:Int):∀i,i≤60->z5o k (z89 i)/\wrN (z89 i)=i
 | 0,_=>⟨z5o.nil k,rfl⟩
 | i+1,h=>by
  obtain⟨h1,h2⟩:=y1e k i (by omega)
  rw[z8B]
  refine⟨h1.snoc ⟨by rw[h2];exact Int.add_comm _ _,by rw[h2];omega⟩,?_⟩
  rw[z2k,h2]
  rfl
theorem z8o{num jp mx:Int}(hj:1≤jp)(hm:num-5*jp≤mx):F5 (num-jp) mx (0-jp)≤4:=by
 refine eS fun h=>?_
 have:=y0n (a:=num-jp) (b:=mx) (c:=0-jp) (i:=4) (by omega) (by omega)
 have e:((4:Nat):Int)*(0-jp)=-(4*jp):=by omega
 rw[e] at this
 omega
def y3e(K:PySem.W.Frag):Sp:=fun vs H Q _=>∃(lc:Addr) (cs:List Int) (first rds:Int),vs=[.ref lc,.int 60,.int first,.int rds]/\SqL K H lc (cs.map V.int)/\0≤first/\first≤30/\1≤rds/\rds≤10/\
 ∀(l:Addr) (us:List V) (log:List A9) (H':Hp),H l=none->A4 H H'->H' l=some (.lst us)->Paired (z1z H') us log->z5o rds log->log.length≤246->Q (.ref l) H'
theorem y2u(M:Bl mg)(F:Fun K "_law_deeds" "_law_deeds" z5q f fd)(C0:Cal P w K mg base 1 "_law_pick" z4r y40):A7 P w K mg base CX0 2 f fd z5j (y3e K):=by
 have nd:=z6J.nd
 refine F.ok z6J (fun vs H Q E h=>?_) (fun cdv A outer s H vs Q E hr h=>?_)
 ·obtain⟨lc,cs,first,rds,rfl,_⟩:=h
  rfl
 obtain⟨lc,cs,first,rds,rfl,hC,f0,f30,d1,d10,q⟩:=h
 refine⟨_,(z04 (z6j (i:=4) ["_law_k"] [] [] rfl nd rfl (Or.inl rfl) (z0w rfl (by decide +kernel) rfl (by decide +kernel) rfl rfl) (z1q rfl M.range (z00 (pv 2) z02)) (fun _ _ _ _ _=>(z0k (i:=0) (show((["_law_k"]:List PySem.Str)++([]:List PySem.Str)).Nodup from by decide +kernel) rfl (Or.inl rfl))) (z0z (by decide)) z0g (fun _ _ _ _ _=>z1K) (fun _ _ _ _ _=>(z0V (z00 z2E (z00 (z0q z1m (pv 0) z06) z02))))) (z04 (z0s (i:=5) nd rfl (Or.inl rfl) (pv 2)) (z04 (z15 bY rfl (z1I (pv 0)) (z0k (i:=6) nd rfl (Or.inl rfl)) (z04 (z0s (i:=7) nd rfl (Or.inl rfl) (z0l C0 (rm hr) rfl (z00 (z0q z1n (pv 6) z06) (z00 (z0q y6N z06 z06) z02)))) (z04 (z0G (z09 z2P (z0d z0a rfl M.len bR (z00 (pv 4) z02)) z06 (z0o _)) (z05 y4T) z0n) (z05 (z0G (z09 z2L (z0q z0T (pv 6) z06) z06 (z0o _)) (z05 (z15 bY rfl (z1q rfl M.range (z00 (z0q z1m z06 (z0q z0T (pv 7) z06)) z02)) (z0k (i:=8) nd rfl (Or.inl rfl)) (z05 (z0G (z09 z8l (pv 5) (pv 1) (z0o _)) (z04 (z0s (i:=5) nd rfl (Or.inl rfl) (z0q z1m (pv 5) z06)) (z05 (z0y (z3g bU bT bX z0J (pv 4) (z00 (z0V (z00 z2E (z00 (pv 5) z02))) z02))))) z0n)))) (z05 (z0G (z09 z2P (pv 5) z06 (z0o _)) (z04 (z0s (i:=9) nd rfl (Or.inl rfl) (z0q z1m z06 (z0q z0T (pv 7) (pv 3)))) (z04 (z0s (i:=10) nd rfl (Or.inl rfl) (z0q z1m z06 (z0q z0T (z0q z1n (pv 7) (pv 3)) (pv 5)))) (z04 (z0G (z09 z2L (z0q z0T (pv 6) z06) z06 (z0o _)) (z05 (z0s (i:=10) nd rfl (Or.inl rfl) (pv 5))) z0n) (z04 (z0y (z3g bU bT bX z0J (pv 4) (z00 (z0V (z00 z2E (z00 (pv 9) (z00 (pv 10) z02)))) z02))) (z05 (z0G (z09 z2L (z0q z0T (pv 6) z06) z06 (z0o _)) (z04 (z0s (i:=11) nd rfl (Or.inl rfl) (z0q z1m z06 (z0q z0T (z0q z1n (z0q z1n (pv 7) (pv 3)) (pv 5)) z06))) (z05 (z15 bY rfl (y3k rfl M.range (z00 (z0q z1M (pv 10) (pv 11)) (z00 (z0d (z9y rfl) rfl M.max dQ (z00 z06 (z00 (z0q z1M (pv 10) (z0q z5T z06 (pv 11))) z02))) (z00 (z0q z1M z06 (pv 11)) z02)))) (z0k (i:=12) nd rfl (Or.inl rfl)) (z05 (z0y (z3g bU bT bX z0J (pv 4) (z00 (z0V (z00 z2E (z00 (pv 9) (z00 (pv 12) z02)))) z02))))))) z0n)))))) z0n))))))) (z05 (z0i (pv 4)))))),?_⟩
 refine⟨_,rfl,_,rfl,by omega,by omega,?_⟩
 refine z8A (lo:=0) (n:=first.toNat) (fun i ys H'=>A4 H H'/\Paired (z1z H') ys (z89 i)) ⟨A4.refl _,.nil⟩ (fun i ys H' hi hp=>?_) (fun i ys H' hi hp=>?_) (fun ys H' hp=>?_)
 ·obtain⟨g,p⟩:=hp
  have:=z1a p
  unfold z89 at this
  rw[bA,z0Q] at this
  exact z0f (by omega)
 ·obtain⟨g,p⟩:=hp
  refine⟨_,rfl,_,_,rfl,rfl,(by show 2≤sizeLine;decide),fun t ht=>⟨g.trans (z01 ht _),?_⟩⟩
  rw[z8B]
  refine fL (K0.keep (z01 ht _) p) ⟨t,rfl,?_⟩
  rw[z03]
  show some (HO.tup [V.str "write",V.int (0+(i:Int)+1)])=some (HO.tup [V.str "write",V.int (1+(i:Int))])
  rw[gK,Int.add_comm]
 obtain⟨g,p⟩:=hp
 intro l hl
 have nl:H l=none:=g.free hl
 have s1:=g.trans (z01 hl (.lst ys))
 have e1:upd H' l (.lst ys) l=some (.lst ys):=z03
 have p1:=K0.keep (z01 hl (.lst ys)) p
 generalize upd H' l (.lst ys)=H1 at s1 e1 p1
 obtain⟨lk0,wn0⟩:=y1e rds first.toNat (by omega)
 have ln0:(z89 first.toNat).length=first.toNat:=by
  unfold z89
  rw[bA,z0Q]
 have wf:((wrN (z89 first.toNat):Nat):Int)=first:=by rw[wn0];omega
 refine⟨_,rfl,_,rfl,lc,rfl,⟨_,s1.seq hC⟩,z22 (K:=K) (a:=lc) (xs:=cs.map V.int) (fun _ σ G=>∃(us:List V) (log:List A9) (o6 o7 o8 o9 o10 o11 o12:Option V),A4 H G/\G l=some (.lst us)/\Paired (z1z G) us log/\z5o rds log/\log.length≤246/\
   σ=[some (.ref lc),some (.int 60),some (.int first),some (.int rds),some (.ref l),some (.int (wrN log)),o6,o7,o8,o9,o10,o11,o12]) ⟨ys,z89 first.toNat,none,none,none,none,none,none,none,s1,e1,p1,lk0,by omega,by rw[wf];rfl⟩ (fun i σ G _ ⟨_,_,_,_,_,_,_,_,_,g,_⟩=>g.seq hC) ?_ ?_⟩
 ·rintro i u σ G hi ⟨us,log,o6,o7,o8,o9,o10,o11,o12,sG,eG,pG,lk,l246,rfl⟩
  rw[bE] at hi
  obtain⟨c,_,rfl⟩:=cG.mp hi
  have lu:=z1a pG
  refine⟨_,rfl,_,_,rfl,rfl,⟨by decide,by decide⟩,_,_,rfl,rfl,⟨by decide,by decide,by decide⟩,_,_,rfl,(by decide),fun rest x0 x1=>?_⟩
  refine⟨_,rfl,l,us,rfl,.inl (SqL.of eG),_,_,rfl,rfl,_,rfl,B3 (fun c1=>?_) (fun c1=>?_)⟩
  ·exact⟨_,rfl,q l us log G nl sG eG pG lk l246⟩
  have c1':=z4h c1
  have l240:log.length≤240:=by omega
  refine⟨_,rfl,_,_,rfl,rfl,(by show(0:Int)<5;decide),rfl,_,rfl,B3 (fun c2=>?_) (fun c2=>?_)⟩
  ·refine⟨_,rfl,_,_,rfl,rfl,(by show(0:Int)<6;decide),_,_,rfl,rfl,_,rfl,by have:=cP rest (show(6:Int)≠0 by decide);omega,by have:=cE rest (show(0:Int)<6 by decide);omega,?_⟩
   have r6:(1+rest%6).toNat≤6:=by have:=cE rest (show(0:Int)<6 by decide);omega
   refine z1p (lo:=0) (n:=(1+rest%6).toNat) (fun j σ G2=>∃(us2:List V) (log2:List A9) (o8:Option V),A4 H G2/\G2 l=some (.lst us2)/\Paired (z1z G2) us2 log2/\z5o rds log2/\log2.length≤240+j/\
    σ=[some (.ref lc),some (.int 60),some (.int first),some (.int rds),some (.ref l),some (.int (wrN log2)),some (.int c),some (.int rest),o8,o9,o10,o11,o12]) ⟨us,log,_,sG,eG,pG,lk,l240,rfl⟩ (fun j σ G2 hj hp=>?_) (fun σ G2 hp=>?_)
   ·obtain⟨us2,log2,o8',sG2,eG2,pG2,lk2,l2,rfl⟩:=hp
    have lu2:=z1a pG2
    refine⟨_,rfl,_,rfl,_,_,rfl,rfl,_,rfl,B3 (fun c3=>?_) (fun c3=>?_)⟩
    ·have c3':=z0M c3
     have eN:((wrN (log2++[(none,(wrN log2:Int)+1)]):Nat):Int)=(wrN log2:Int)+1:=by
      rw[z2k]
      rfl
     refine⟨_,rfl,_,_,rfl,rfl,_,rfl,.inl ⟨rfl,_,SqL.of eG2⟩,_,rfl,(by show 2≤sizeLine;decide),fun t ht=>⟨l,us2,_,rfl,rfl,z01 ht _ _ _ eG2,z0f (by omega),?_⟩⟩
     obtain⟨a1,a2,a3⟩:=z5r (none,(wrN log2:Int)+1) sG2 nl eG2 pG2 ht
     exact⟨_,log2++[(none,(wrN log2:Int)+1)],_,a1,a2,a3,lk2.snoc ⟨rfl,by omega⟩,by rw[bJ];exact Nat.succ_le_succ l2,by rw[eN];rfl⟩
    ·exact⟨us2,log2,_,sG2,eG2,pG2,lk2,by omega,rfl⟩
   ·obtain⟨us2,log2,o8',sG2,eG2,pG2,lk2,l2,rfl⟩:=hp
    exact⟨us2,log2,_,_,_,_,_,_,_,sG2,eG2,pG2,lk2,by omega,rfl⟩
  ·refine⟨_,rfl,_,_,rfl,rfl,_,rfl,B3 (fun c3=>?_) (fun c3=>?_)⟩
   ·have c3':(0:Int)<(wrN log:Int):=z0M c3
    have w60:wrN log≤246:=cM (y5a log) l246
    have hrd:1≤1+rest%rds/\1+rest%rds≤rds:=by
     have:=cP rest (show rds≠0 by omega)
     have:=cE rest (show(0:Int)<rds by omega)
     omega
    have hnm:1≤1+rest / rds%(wrN log:Int)/\1+rest / rds%(wrN log:Int)≤(wrN log:Int):=by
     have:=cP (rest / rds) (show(wrN log:Int)≠0 by omega)
     have:=cE (rest / rds) c3'
     omega
    refine⟨_,rfl,_,rfl,_,_,rfl,rfl,by omega,_,_,rfl,rfl,?_⟩
    refine⟨_,rfl,_,rfl,_,_,rfl,rfl,⟨by omega,by omega⟩,_,rfl,_,_,rfl,rfl,c3',_,_,rfl,rfl,?_⟩
    refine⟨_,rfl,_,_,rfl,rfl,(by show(0:Int)<5;decide),rfl,_,rfl,B3 (fun c4=>⟨_,rfl,?_⟩) (fun c4=>?_)⟩
    ·have hN:1≤(wrN log:Int)/\(wrN log:Int)≤(wrN log:Int):=⟨by omega,eF _⟩
     refine⟨_,rfl,.inl ⟨rfl,_,SqL.of eG⟩,_,rfl,_,rfl,(by show 3≤sizeLine;decide),fun t ht=>⟨l,us,_,rfl,rfl,z01 ht _ _ _ eG,z0f (by omega),?_⟩⟩
     obtain⟨a1,a2,a3⟩:=z5r (some (1+rest%rds),(wrN log:Int)) sG nl eG pG ht
     have lk1:=lk.snoc (d:=(some (1+rest%rds),(wrN log:Int))) ⟨hrd.1,hrd.2,hN.1,hN.2⟩
     have wn1:wrN (log++[((some (1+rest%rds),(wrN log:Int)):A9)])=wrN log:=by rw[z2k];rfl
     have ln1:(log++[((some (1+rest%rds),(wrN log:Int)):A9)]).length=log.length+1:=by rw[bJ];rfl
     generalize hG1:upd (upd G t (.tup (z23 (some (1+rest%rds),(wrN log:Int))))) l (.lst (us++[.ref t]))=G1 at a1 a2 a3
     have V4:upd (upd G t (.tup [V.str "deliver",V.int (1+rest%rds),V.int (wrN log:Int)])) l (.lst (us++[.ref t]))=G1:=hG1
     rw[V4]
     clear hG1 V4
     refine⟨_,rfl,_,_,rfl,rfl,(by show(0:Int)<5;decide),rfl,_,rfl,B3 (fun c5=>?_) (fun c5=>?_)⟩
     ·have hj:1≤1+rest / rds / (wrN log:Int)%9/\1+rest / rds / (wrN log:Int)%9≤9:=by
       have:=cP (rest / rds / (wrN log:Int)) (show(9:Int)≠0 by decide)
       have:=cE (rest / rds / (wrN log:Int)) (show(0:Int)<9 by decide)
       omega
      refine⟨_,rfl,_,rfl,_,_,rfl,rfl,⟨by omega,by omega⟩,_,rfl,_,_,rfl,rfl,⟨c3',by omega⟩,_,_,rfl,rfl,(by show(0:Int)<9;decide),_,_,rfl,rfl,?_⟩
      refine⟨_,rfl,_,rfl,_,_,rfl,rfl,_,rfl,_,rfl,_,_,rfl,rfl,.inl ⟨by decide,by decide⟩,_,_,rfl,rfl,_,_,rfl,_,rfl,_,_,rfl,rfl,_,_,_,rfl,?_,?_⟩
      ·refine⟨by omega,by omega,by split<;>omega,by split<;>omega,by omega,by omega⟩
      ·have mx0:0≤(if (wrN log:Int)-5*(1+rest / rds / (wrN log:Int)%9) > 0 then (wrN log:Int)-5*(1+rest / rds / (wrN log:Int)%9) else 0):=by split<;>omega
       have mx5:(wrN log:Int)-5*(1+rest / rds / (wrN log:Int)%9)≤(if (wrN log:Int)-5*(1+rest / rds / (wrN log:Int)%9) > 0 then (wrN log:Int)-5*(1+rest / rds / (wrN log:Int)%9) else 0):=by split<;>omega
       have n4:=z8o hj.1 mx5
       refine y1n (hi:=(wrN log:Int)-(1+rest / rds / (wrN log:Int)%9)) (c:=0-(1+rest / rds / (wrN log:Int)%9)) (n:=F5 ((wrN log:Int)-(1+rest / rds / (wrN log:Int)%9)) (if (wrN log:Int)-5*(1+rest / rds / (wrN log:Int)%9) > 0 then (wrN log:Int)-5*(1+rest / rds / (wrN log:Int)%9) else 0) (0-(1+rest / rds / (wrN log:Int)%9))) (fun j σ G2=>∃(us2:List V) (log2:List A9) (p12:Option V),A4 H G2/\G2 l=some (.lst us2)/\Paired (z1z G2) us2 log2/\z5o rds log2/\wrN log2=wrN log/\log2.length=log.length+1+j/\
        σ=[some (.ref lc),some (.int 60),some (.int first),some (.int rds),some (.ref l),some (.int (wrN log)),some (.int c),some (.int rest),o8,some (.int (1+rest%rds)),some (.int (wrN log:Int)),some (.int (1+rest / rds / (wrN log:Int)%9)),p12]) ⟨_,_,_,a1,a2,a3,lk1,wn1,ln1,rfl⟩ (fun j σ G2 hj2 hp=>?_) (fun σ G2 hp=>?_)
       ·obtain⟨us2,log2,p12,sG2,eG2,pG2,lk2,w2,l2,rfl⟩:=hp
        have lu2:=z1a pG2
        have st:=y0n (by omega) hj2
        refine⟨_,rfl,.inl ⟨rfl,_,SqL.of eG2⟩,_,rfl,_,rfl,(by show 3≤sizeLine;decide),fun t2 ht2=>⟨l,us2,_,rfl,rfl,z01 ht2 _ _ _ eG2,z0f (by omega),?_⟩⟩
        obtain⟨b1,b2,b3⟩:=z5r (some (1+rest%rds),(wrN log:Int)-(1+rest / rds / (wrN log:Int)%9)+j*(0-(1+rest / rds / (wrN log:Int)%9))) sG2 nl eG2 pG2 ht2
        exact⟨_,_,_,b1,b2,b3,lk2.snoc ⟨hrd.1,hrd.2,by omega,by rw[w2];omega⟩,by rw[z2k,w2]<;>rfl,by rw[bJ,l2]<;>rfl,rfl⟩
       ·obtain⟨us2,log2,p12,sG2,eG2,pG2,lk2,w2,l2,rfl⟩:=hp
        exact⟨us2,log2,_,_,_,_,_,_,_,sG2,eG2,pG2,lk2,by omega,by rw[w2]<;>rfl⟩
     ·exact⟨_,_,_,_,_,_,_,_,_,a1,a2,a3,lk1,by omega,by rw[wn1];rfl⟩
    ·have hN:1≤(1+rest / rds%(wrN log:Int))/\(1+rest / rds%(wrN log:Int))≤(wrN log:Int):=hnm
     refine⟨_,rfl,.inl ⟨rfl,_,SqL.of eG⟩,_,rfl,_,rfl,(by show 3≤sizeLine;decide),fun t ht=>⟨l,us,_,rfl,rfl,z01 ht _ _ _ eG,z0f (by omega),?_⟩⟩
     obtain⟨a1,a2,a3⟩:=z5r (some (1+rest%rds),(1+rest / rds%(wrN log:Int))) sG nl eG pG ht
     have lk1:=lk.snoc (d:=(some (1+rest%rds),(1+rest / rds%(wrN log:Int)))) ⟨hrd.1,hrd.2,hN.1,hN.2⟩
     have wn1:wrN (log++[((some (1+rest%rds),(1+rest / rds%(wrN log:Int))):A9)])=wrN log:=by rw[z2k];rfl
     have ln1:(log++[((some (1+rest%rds),(1+rest / rds%(wrN log:Int))):A9)]).length=log.length+1:=by rw[bJ];rfl
     generalize hG1:upd (upd G t (.tup (z23 (some (1+rest%rds),(1+rest / rds%(wrN log:Int)))))) l (.lst (us++[.ref t]))=G1 at a1 a2 a3
     have V4:upd (upd G t (.tup [V.str "deliver",V.int (1+rest%rds),V.int (1+rest / rds%(wrN log:Int))])) l (.lst (us++[.ref t]))=G1:=hG1
     rw[V4]
     clear hG1 V4
     refine⟨_,rfl,_,_,rfl,rfl,(by show(0:Int)<5;decide),rfl,_,rfl,B3 (fun c5=>?_) (fun c5=>?_)⟩
     ·have hj:1≤1+rest / rds / (wrN log:Int)%9/\1+rest / rds / (wrN log:Int)%9≤9:=by
       have:=cP (rest / rds / (wrN log:Int)) (show(9:Int)≠0 by decide)
       have:=cE (rest / rds / (wrN log:Int)) (show(0:Int)<9 by decide)
       omega
      refine⟨_,rfl,_,rfl,_,_,rfl,rfl,⟨by omega,by omega⟩,_,rfl,_,_,rfl,rfl,⟨c3',by omega⟩,_,_,rfl,rfl,(by show(0:Int)<9;decide),_,_,rfl,rfl,?_⟩
      refine⟨_,rfl,_,rfl,_,_,rfl,rfl,_,rfl,_,rfl,_,_,rfl,rfl,.inl ⟨by decide,by decide⟩,_,_,rfl,rfl,_,_,rfl,_,rfl,_,_,rfl,rfl,_,_,_,rfl,?_,?_⟩
      ·refine⟨by omega,by omega,by split<;>omega,by split<;>omega,by omega,by omega⟩
      ·have mx0:0≤(if (1+rest / rds%(wrN log:Int))-5*(1+rest / rds / (wrN log:Int)%9) > 0 then (1+rest / rds%(wrN log:Int))-5*(1+rest / rds / (wrN log:Int)%9) else 0):=by split<;>omega
       have mx5:(1+rest / rds%(wrN log:Int))-5*(1+rest / rds / (wrN log:Int)%9)≤(if (1+rest / rds%(wrN log:Int))-5*(1+rest / rds / (wrN log:Int)%9) > 0 then (1+rest / rds%(wrN log:Int))-5*(1+rest / rds / (wrN log:Int)%9) else 0):=by split<;>omega
       have n4:=z8o hj.1 mx5
       refine y1n (hi:=(1+rest / rds%(wrN log:Int))-(1+rest / rds / (wrN log:Int)%9)) (c:=0-(1+rest / rds / (wrN log:Int)%9)) (n:=F5 ((1+rest / rds%(wrN log:Int))-(1+rest / rds / (wrN log:Int)%9)) (if (1+rest / rds%(wrN log:Int))-5*(1+rest / rds / (wrN log:Int)%9) > 0 then (1+rest / rds%(wrN log:Int))-5*(1+rest / rds / (wrN log:Int)%9) else 0) (0-(1+rest / rds / (wrN log:Int)%9))) (fun j σ G2=>∃(us2:List V) (log2:List A9) (p12:Option V),A4 H G2/\G2 l=some (.lst us2)/\Paired (z1z G2) us2 log2/\z5o rds log2/\wrN log2=wrN log/\log2.length=log.length+1+j/\
        σ=[some (.ref lc),some (.int 60),some (.int first),some (.int rds),some (.ref l),some (.int (wrN log)),some (.int c),some (.int rest),o8,some (.int (1+rest%rds)),some (.int (1+rest / rds%(wrN log:Int))),some (.int (1+rest / rds / (wrN log:Int)%9)),p12]) ⟨_,_,_,a1,a2,a3,lk1,wn1,ln1,rfl⟩ (fun j σ G2 hj2 hp=>?_) (fun σ G2 hp=>?_)
       ·obtain⟨us2,log2,p12,sG2,eG2,pG2,lk2,w2,l2,rfl⟩:=hp
        have lu2:=z1a pG2
        have st:=y0n (by omega) hj2
        refine⟨_,rfl,.inl ⟨rfl,_,SqL.of eG2⟩,_,rfl,_,rfl,(by show 3≤sizeLine;decide),fun t2 ht2=>⟨l,us2,_,rfl,rfl,z01 ht2 _ _ _ eG2,z0f (by omega),?_⟩⟩
        obtain⟨b1,b2,b3⟩:=z5r (some (1+rest%rds),(1+rest / rds%(wrN log:Int))-(1+rest / rds / (wrN log:Int)%9)+j*(0-(1+rest / rds / (wrN log:Int)%9))) sG2 nl eG2 pG2 ht2
        exact⟨_,_,_,b1,b2,b3,lk2.snoc ⟨hrd.1,hrd.2,by omega,by rw[w2];omega⟩,by rw[z2k,w2]<;>rfl,by rw[bJ,l2]<;>rfl,rfl⟩
       ·obtain⟨us2,log2,p12,sG2,eG2,pG2,lk2,w2,l2,rfl⟩:=hp
        exact⟨us2,log2,_,_,_,_,_,_,_,sG2,eG2,pG2,lk2,by omega,by rw[w2]<;>rfl⟩
     ·exact⟨_,_,_,_,_,_,_,_,_,a1,a2,a3,lk1,by omega,by rw[wn1];rfl⟩
   ·exact⟨us,log,_,_,_,_,_,_,_,sG,eG,pG,lk,l246,rfl⟩
 ·rintro σ G ⟨us,log,o6,o7,o8,o9,o10,o11,o12,sG,eG,pG,lk,l246,rfl⟩
  exact⟨_,rfl,q l us log G nl sG eG pG lk l246⟩
def y59(K:PySem.W.Frag)(Bk:BkP):Sp:=fun vs H Q _=>∃(x l lr:Addr) (fp:List Addr) (nm:List Str) (r k:Int) (us ws:List V) (log:List A9) (rows:List Row),vs=[.ref x,.ref l,.ref lr]/\Bk H x fp nm r k [] []/\H l=some (.lst us)/\l∉fp/\Paired (z1z H) us log/\z5o k log/\log.length≤400/\
 H lr=some (.lst ws)/\lr∉fp/\z08 H (rows.map L9) ws/\rows.length=60/\Rws nm rows/\nm.Nodup/\nm.length≤12/\
 ∀(fp':List Addr) (H':Hp),(∀b∈fp',b∈fp\/H b=none)->z0x fp H H'->Bk H' x fp' nm r k (rows.take (wrN log)) log->Q (.ref x) H'
theorem y4g(M:Bl mg)(F:Fun K "_law_play" "_law_play" z6d f fd){A2:Addr}{Bk:BkP}(O:R9 A2 ["write","deliver","latest","issue","deeds","deed","shelf"] Bk)(C5:C8 P w K mg base 8 A2 "write" z3B (z86 K Bk))(C1:C8 P w K mg base 8 A2 "deliver" z2K (z5f Bk)) :
  A7 P w K mg base CX0 9 f fd z61 (y59 K Bk):=by
 have nd:=z82.nd
 refine F.ok z82 (fun vs H Q E h=>?_) (fun cdv A outer s H vs Q E hr h=>?_)
 ·obtain⟨x,l,lr,fp,nm,r,k,us,ws,log,rows,rfl,_⟩:=h
  rfl
 obtain⟨x,l,lr,fp,nm,r,k,us,ws,log,rows,rfl,bk0,el,nl,pr,lk,l400,er,nr,tl,r60,R,ndn,n12,q⟩:=h
 refine⟨_,(z04 (z15 bY rfl (z1I (pv 1)) (z0k (i:=3) nd rfl (Or.inl rfl)) (z05 (z0G (PW.pt (z4i (z09 z2L (z0D z0C (pv 3) z06 (fun _ _=>rfl)) z2E (z0o _)) (z3j (z09 z2L (z0q z0T (z0D z0C (pv 3) z06 (fun _ _=>rfl)) z06) z06 (z0o _))))) (z05 (z0y (z1l C5 (rm hr) (pv 0) (z00 (z0t z2v rfl M.list eI (z00 (z0D z0Z (pv 2) (z0q z1M (z0D z0C (pv 3) z06 (fun _ _=>rfl)) z06) (fun _ _=>rfl)) z02)) z02)))) (z05 (z0G (z09 z2L (z0D z0C (pv 3) z06 (fun _ _=>rfl)) z2E (z0o _)) (z05 (z0y (z1l C5 (rm hr) (pv 0) (z00 (z0t z0m rfl M.tuple bL (z00 (z0D z0Z (pv 2) (z0q z1M (z0D z0C (pv 3) z06 (fun _ _=>rfl)) z06) (fun _ _=>rfl)) z02)) z02)))) (z05 (z0y (z1l C1 (rm hr) (pv 0) (z00 (z0D z0C (pv 3) z06 (fun _ _=>rfl)) (z00 (z0D z0C (pv 3) z06 (fun _ _=>rfl)) z02)))))))))) (z05 (z0i (pv 0)))),?_⟩
 have ntp:z54 H fp:=O.L8 bk0
 have lw:ws.length=60:=by rw[tl.length,bA,r60]
 have lu:=z1a pr
 refine⟨_,rfl,l,rfl,⟨_,SqL.of el⟩,z22 (K:=K) (a:=l) (xs:=us) (fun i σ H'=>∃(fp':List Addr) (o:Option V),z0x fp H H'/\Bk H' x fp' nm r k (rows.take (wrN (log.take i))) (log.take i)/\(∀b∈fp',b∈fp\/H b=none)/\σ=[some (.ref x),some (.ref l),some (.ref lr),o])
  ⟨fp,none,.of (A4.refl _),bk0,fun b m=>.inl m,rfl⟩ (fun i σ H' _ ⟨_,_,bt,_⟩=>SqL.of (bt _ _ el nl)) ?_ ?_⟩
 ·rintro i u σ H' hi ⟨fp',o,bt,bk,ff,rfl⟩
  have hi':us.take us.length=us:=bP
  obtain⟨d,ed,b,rfl,hb⟩:∃d,log[i]? = some d/\z1z H u d:=by
   obtain⟨d,e1,e2⟩:=z99 pr us.length i u (by rw[bP];exact hi)
   rw[lu,bP] at e1
   exact⟨d,e1,e2⟩
  have ok:=lk i d ed
  have hb':=bt _ _ hb (fun m=>ntp b m _ hb)
  have ltk:(log.take i).length<400:=by
   have:=(cC.mp ed).1
   rw[bI]
   omega
  obtain⟨d2,g2,z2,w2⟩:=O.ins bk
  have wle:wrN (log.take i)≤(log.take i).length:=y5a _
  obtain⟨a,n⟩:=d
  cases a with
  | some rd=>
   obtain⟨o1,o2,o3,o4⟩:=ok
   have hbd:H' b=some (.tup [V.str "deliver",V.int rd,V.int n]):=hb'
   refine⟨_,rfl,b,_,0,_,rfl,rfl,SqT.of hbd,rfl,rfl,_,rfl,B5 (B5 ?_)⟩
   refine⟨_,rfl,b,_,0,_,rfl,rfl,SqT.of hbd,rfl,rfl,_,rfl,B5 ?_⟩
   have l60:wrN (log.take i)≤60\/60<wrN (log.take i):=by omega
   have rl:((rows.take (wrN (log.take i))).length:Int)=min (wrN (log.take i)) 60:=by rw[bI,r60]<;>omega
   have n60:n≤((rows.take (wrN (log.take i))).length:Int):=by
    rw[rl]
    have:wrN (log.take i)≤60:=X5 lk i
    omega
   refine⟨_,rfl,x,d2,g2,rfl,z2,w2 _ (by simp),_,rfl,b,_,1,_,rfl,rfl,SqT.of hbd,rfl,_,rfl,b,_,2,_,rfl,rfl,SqT.of hbd,rfl,x,fp',nm,r,k,_,_,rd,n,rfl,bk,o1,o2,o3,n60,ltk,fun H7 b7 bk7=>?_⟩
   have ew:wrN (log.take (i+1))=wrN (log.take i):=by rw[z0j ed,z2k]<;>rfl
   exact⟨fp',_,(fun b o e nb=>b7 b o (bt b o e nb) fun m=>(ff b m).elim nb fun z=>by rw[e] at z;cases z),by rw[ew,z0j ed];exact bk7,ff,rfl⟩
  | none=>
   obtain⟨en,n60⟩:=ok
   have en':n=(wrN (log.take i):Int)+1:=en
   have n60':wrN (log.take i)<60:=n60
   have hbd:H' b=some (.tup [V.str "write",V.int n]):=hb'
   have ew:wrN (log.take (i+1))=wrN (log.take i)+1:=by rw[z0j ed,z2k]<;>rfl
   have hlt:wrN (log.take i)<rows.length:=by omega
   obtain⟨v,ev,tv⟩:=(z08.but bt ntp _ _ tl).get (wrN (log.take i)) (L9 rows[wrN (log.take i)]) (by rw[bE,bD hlt]<;>rfl)
   have av:atI ws (n-1)=some v:=by
    rw[en',Int.add_sub_cancel]
    exact z0X ev
   have Z0:rows[wrN (log.take i)]? = some rows[wrN (log.take i)]:=bD hlt
   generalize rows[wrN (log.take i)]=wr at tv Z0
   have hw:=bV Z0
   obtain⟨ar,xs,rfl,era,_,tp⟩:=z0b tv
   have sb:=R.sub wr hw
   have good:GoodR nm wr:=⟨sb.nodup ndn,fun p hp=>sb.subset (fZ hp),fun p hp=>R.val wr hw p hp⟩
   have ino:z16 nm wr=wr:=z3J ndn sb
   have w12:wr.length≤12:=by
    have:=sb.length_le
    rw[bA] at this
    omega
   have lti:(rows.take (wrN (log.take i))).length=wrN (log.take i):=by rw[bI];omega
   have er':=bt _ _ er nr
   have fin:∀{G:Hp} (fp2:List Addr) (H6:Hp),A4 H' G->(∀b∈fp2,b∈fp'\/G b=none)->z0x fp' G H6->Bk H6 x fp2 nm r k (rows.take (wrN (log.take i))++[z16 nm wr]) (log.take i++[(none,((rows.take (wrN (log.take i))).length:Int)+1)])->
     ∃(fp':List Addr) (o:Option V),z0x fp H H6/\Bk H6 x fp' nm r k (rows.take (wrN (log.take (i+1)))) (log.take (i+1))/\(∀b∈fp',b∈fp\/H b=none)/\[some (V.ref x),some (V.ref l),some (V.ref lr),some (V.ref b)]=[some (V.ref x),some (V.ref l),some (V.ref lr),o]:=fun {G} fp2 H6 sl hf2 b6 bk6=>by
    rw[ino,lti,<- z0j Z0,<- en',<- z0j ed,<- ew] at bk6
    exact⟨fp2,_,(fun b o e nb=>b6 b o (sl _ _ (bt b o e nb)) fun m=>(ff b m).elim nb fun z=>by rw[e] at z;cases z),bk6,y2g bt ff sl hf2,rfl⟩
   refine⟨_,rfl,b,_,0,_,rfl,rfl,SqT.of hbd,rfl,rfl,_,rfl,E9 ?_⟩
   refine⟨_,rfl,b,_,1,_,rfl,rfl,SqT.of hbd,rfl,_,_,rfl,rfl,(by show(0:Int)<2;decide),rfl,_,rfl,B3 (fun c=>?_) (fun c=>?_)⟩
   ·refine⟨_,rfl,x,d2,g2,rfl,z2,w2 _ (by simp),_,rfl,_,rfl,b,_,1,_,rfl,rfl,SqT.of hbd,rfl,_,_,rfl,rfl,lr,ws,_,_,rfl,rfl,SqL.of er',av,ar,xs,rfl,.inr (SqT.of era),fun l2 hl2=>?_⟩
    have sl:=z01 hl2 (.lst xs)
    have el2:upd H' l2 (.lst xs) l2=some (.lst xs):=z03
    have nl2:l2∉fp':=fun m=>by
     obtain⟨o,e,_⟩:=O.own bk l2 m
     rw[hl2] at e
     cases e
    have bk':=O.same bk sl
    have hts:=z74 (z08.keep sl _ _ tp)
    generalize upd H' l2 (.lst xs)=G at sl el2 bk' hts
    exact⟨x,.ref l2,fp',nm,r,k,_,_,wr,rfl,bk',⟨l2,xs,rfl,.inl (SqL.of el2),nl2,HT.hand (O.L8 bk') hts⟩,good,w12,by omega,ltk,fun fp2 H6 hf2 b6 bk6=>fin fp2 H6 sl hf2 b6 bk6⟩
   ·refine⟨_,rfl,b,_,0,_,rfl,rfl,SqT.of hbd,rfl,rfl,_,rfl,E9 ?_⟩
    refine⟨_,rfl,x,d2,g2,rfl,z2,w2 _ (by simp),_,rfl,_,rfl,b,_,1,_,rfl,rfl,SqT.of hbd,rfl,_,_,rfl,rfl,lr,ws,_,_,rfl,rfl,SqL.of er',av,ar,xs,rfl,.inr ⟨SqT.of era,?_⟩⟩
    exact⟨x,.ref ar,fp',nm,r,k,_,_,wr,rfl,bk,⟨ar,xs,rfl,.inr era,fun m=>O.L8 bk ar m _ era,HT.hand (O.L8 bk) (z74 tp)⟩,good,w12,by omega,ltk,fun fp2 H6 hf2 b6 bk6=>fin fp2 H6 (A4.refl _) hf2 b6 bk6⟩
 ·rintro σ H' ⟨fp',o,bt,bk,ff,rfl⟩
  rw[lu,bP] at bk
  exact⟨_,rfl,q fp' H' ff bt bk⟩
theorem z8q(rd:Int):∀log:List A9,(D4 log rd).Nodup:=by
 intro log
 have go:∀(log:List A9) (acc:List Int),acc.Nodup->(log.foldl (fun acc d=>if d.1=some rd then N4 acc d.2 else acc) acc).Nodup:=by
  intro log
  induction log with
  | nil=>intro acc h;exact h
  | cons d log ih=>
   intro acc h
   rw[d6]
   refine ih _ ?_
   split
   ·unfold N4
    split
    ·exact h
    ·rename_i hn
     exact gR.mpr ⟨h,by simp,fun a ha b hb e=>hn (by rw[<- bC.mp hb,<- e];exact ha)⟩
   ·exact h
 exact go log [] .nil
def y2f(K:PySem.W.Frag):Sp:=fun vs H Q _=>∃(l:Addr) (us:List V) (log:List A9) (rd:Int) (d:Nat),vs=[.ref l,.int rd,.int d]/\H l=some (.lst us)/\Paired (z1z H) us log/\d≤log.length/\(∀x∈log,1≤x.2/\x.2≤60)/\
 ∀(lo:Addr) (H':Hp),H lo=none->A4 H H'->H' lo=some (.lst ((z0e (D4 (log.take d) rd)).map V.int))->Q (.ref lo) H'
theorem y2h(M:Bl mg)(F:Fun K "_law_had_at" "_law_had_at" z4o f fd):A7 P w K mg base CX0 1 f fd z46 (y2f K):=by
 have nd:=z5D.nd
 refine F.ok z5D (fun vs H Q E h=>?_) (fun cdv A outer s H vs Q E hr h=>?_)
 ·obtain⟨l,us,log,rd,d,rfl,_⟩:=h
  rfl
 obtain⟨l,us,log,rd,d,rfl,el,pr,dl,hin,q⟩:=h
 refine⟨_,(z04 (z0s (i:=3) nd rfl (Or.inl rfl) (z1W z02)) (z04 (z15 bY rfl (z1I (z2I y0z (pv 0) z3E (z3I (pv 2)))) (z0k (i:=4) nd rfl (Or.inl rfl)) (z05 (z0G (PW.pt (z4i (z09 z2L (z0D z0C (pv 4) z06 (fun _ _=>rfl)) z2E (z0o _)) (z4i (z09 z2L (z0D z0C (pv 4) z06 (fun _ _=>rfl)) (pv 1) (z0o _)) (z3j (z09 z1T (z0D z0C (pv 4) z06 (fun _ _=>rfl)) (pv 3) (by with_unfolding_all rfl)))))) (z05 (z0y (z3g bU bT bX z0J (pv 3) (z00 (z0D z0C (pv 4) z06 (fun _ _=>rfl)) z02)))) z0n))) (z05 (z0i (z0d z7E rfl M.sorted eY (z00 (pv 3) z02)))))),?_⟩
 have lu:=z1a pr
 refine⟨(by show 0≤sizeLine;decide),fun lh hlh=>?_⟩
 have s1:=z01 hlh (.lst [])
 have e1:upd H lh (.lst []) lh=some (.lst []):=z03
 generalize upd H lh (.lst [])=H1 at s1 e1
 refine⟨_,rfl,_,rfl,_,rfl,l,_,rfl,SqL.of (s1 _ _ el),fun lq hlq=>?_⟩
 rw[y3y (by omega)]
 have s2:=s1.trans (z01 hlq (.lst (us.take d)))
 have e2:upd H1 lq (.lst (us.take d)) lq=some (.lst (us.take d)):=z03
 have e3:=z01 hlq (.lst (us.take d)) _ _ e1
 have nq:lh≠lq:=z0r e1 hlq
 generalize upd H1 lq (.lst (us.take d))=H2 at s2 e2 e3
 have lt:(us.take d).length=d:=by rw[bI];omega
 have X2:∀(lg:List A9),(∀x∈lg,x∈log)->∀n∈D4 lg rd,1≤n/\n≤60:=fun lg sub n hn=>hin _ (sub _ (z77.mp hn))
 refine⟨lq,rfl,⟨_,SqL.of e2⟩,z22 (K:=K) (a:=lq) (xs:=us.take d) (fun i σ G=>∃o4:Option V,z0x [lh] H2 G/\G lh=some (.lst ((D4 ((log.take d).take i) rd).map V.int))/\σ=[some (.ref l),some (.int rd),some (.int d),some (.ref lh),o4]) ⟨none,.of (A4.refl _),e3,rfl⟩ (fun i σ G _ ⟨_,bt,_⟩=>SqL.of (bt _ _ e2 (by rw[bC];exact dG nq))) ?_ ?_⟩
 ·rintro i u σ G hi ⟨o4,bt,eh,rfl⟩
  obtain⟨x,ex,b,rfl,hb⟩:=z99 pr d i u hi
  have nb:b∉[lh]:=fun m=>by
   rw[bC.mp m,hlh] at hb
   cases hb
  have hb':=bt _ _ (s2 _ _ hb) nb
  have g60:=X2 ((log.take d).take i) fun x hx=>dU (dU hx)
  have gl:=z7D (z8q rd ((log.take d).take i)) g60
  have eg:D4 ((log.take d).take (i+1)) rd=if x.1=some rd then N4 (D4 ((log.take d).take i) rd) x.2 else D4 ((log.take d).take i) rd:=by rw[z0j ex,z9w]
  obtain⟨a,n⟩:=x
  cases a with
  | none=>
   have hbd:G b=some (.tup [V.str "write",V.int n]):=hb'
   rw[if_neg (fun e=>by cases e)] at eg
   refine⟨_,rfl,b,_,0,_,rfl,rfl,SqT.of hbd,rfl,rfl,_,rfl,B5 ?_⟩
   exact B5 ⟨_,bt,by rw[eg];exact eh,rfl⟩
  | some rd'=>
   have hbd:G b=some (.tup [V.str "deliver",V.int rd',V.int n]):=hb'
   refine⟨_,rfl,b,_,0,_,rfl,rfl,SqT.of hbd,rfl,rfl,_,rfl,E9 ?_⟩
   refine⟨_,rfl,b,_,1,_,rfl,rfl,SqT.of hbd,rfl,_,rfl,rfl,_,rfl,?_⟩
   by_cases c:rd'=rd
   ·rw[if_pos (show(some rd',n).1=some rd by rw[c])] at eg
    rw[decide_eq_true (congrArg V.int c)]
    refine E9 ⟨_,rfl,b,_,2,_,rfl,rfl,SqT.of hbd,rfl,_,rfl,lh,_,rfl,.inl (SqL.of eh),rfl,z2t _,_,rfl,?_⟩
    rw[if_pos rfl,z36]
    unfold N4 at eg
    by_cases c2:n∈D4 ((log.take d).take i) rd
    ·rw[if_pos c2] at eg
     rw[decide_eq_true c2]
     exact B5 ⟨_,bt,by rw[eg];exact eh,rfl⟩
    ·rw[if_neg c2] at eg
     rw[decide_eq_false c2]
     refine E9 ⟨_,rfl,.inl ⟨rfl,_,SqL.of eh⟩,_,rfl,b,_,2,_,rfl,rfl,SqT.of hbd,rfl,lh,_,_,rfl,rfl,eh,z0f (by rw[bA];omega),?_⟩
     refine⟨_,fun b o e nb=>?_,by rw[z03,eg,bG];rfl,rfl⟩
     rw[z0h (fun e=>nb (by rw[e];exact bC.mpr rfl))]
     exact bt b o e nb
   ·rw[if_neg (fun e=>c (Option.some.inj e))] at eg
    rw[decide_eq_false (fun e=>c (V.int.inj e))]
    exact B5 (B5 ⟨_,bt,by rw[eg];exact eh,rfl⟩)
 ·rintro σ G ⟨o4,bt,eh,rfl⟩
  rw[lt,List.take_take,Nat.min_self] at eh
  have g60:=X2 (log.take d) fun x hx=>dU hx
  have gnd:=z8q rd (log.take d)
  refine⟨_,rfl,lh,_,rfl,SqL.of eh,by have:=z7D gnd g60;omega,fun lo ms hlo hp hs=>?_⟩
  have em:=z9q gnd g60 hp hs
  have nh:∀{b:Addr}{o:HO},H b=some o->b∉[lh]:=fun e m=>by
   rw[bC.mp m,hlh] at e
   cases e
  have sG:A4 H G:=fun b o e=>bt _ _ (s2 _ _ e) (nh e)
  exact q lo _ (sG.free hlo) (sG.trans (z01 hlo _)) (by rw[z03,em])
theorem z4u{l ms:List Int}(h1:l.Pairwise (· < ·))(h2:∀x∈l,1≤x/\x≤60)(e:∀x,x∈ms↔x∈l):z0e ms=l:=z24 (z1F _) h1 fun x=>z9J e h2 x
def z5p(hs:List Int)(r:Int)(rl rows:List Row):Prop:=(∀n∈hs,z0v rl n=z0v rows n)/\∀n,1≤n->(∃y∈hs,n<y)->z0L hs n r≠0->z0A (z0v rl n)=z0A (z0v rows n)
theorem y5P{hs:List Int}{n r:Int}(h:z0L hs n r≠0):∃y∈hs,n<y:=eS fun c=>h (z4x fun y hy hl _=>c ⟨y,hy,hl⟩)
theorem y1g{rl rows:List Row}{z:Str}:∀(ms:List Int),(∀n∈ms,z0v rl n=z0v rows n)->z0W ms rl z=z0W ms rows z:=by
 have go:∀(ms:List Int) (acc:Option (Int×Int)),(∀n∈ms,z0v rl n=z0v rows n)->ms.foldl (fun acc n=>match D7 (z0v rl n) z with|some v=>some (n,v)|none=>acc) acc=ms.foldl (fun acc n=>match D7 (z0v rows n) z with|some v=>some (n,v)|none=>acc) acc:=by
  intro ms
  induction ms with
  | nil=>intro acc _;rfl
  | cons n t ih=>
   intro acc h
   rw[d6,d6,h n cD]
   exact ih _ fun k hk=>h k (bZ _ hk)
 exact fun ms h=>go ms none h
theorem z5p.known{hs:List Int}{r:Int}{rl rows:List Row}(h:z5p hs r rl rows)(m:Nat):z0K m hs rl r=z0K m hs rows r:=by
 unfold z0K
 refine dX fun n hn=>?_
 have hn:=z0U.mp hn
 unfold z1v
 by_cases c:n∈hs\/z0L hs n r≠0
 ·rw[if_pos c,if_pos c]
  rcases c with c|c
  ·rw[h.1 n c]
  ·rw[h.2 n hn.1 (y5P c) c]
 ·rw[if_neg c,if_neg c]
theorem z5p.again{hs:List Int}{r:Int}{rl rows:List Row}(h:z5p hs r rl rows)(num:Int)(z:Str):z3Y hs rl r num z=z3Y hs rows r num z:=by
 unfold z3Y
 refine List.filter_congr fun n hn=>?_
 obtain⟨⟨a,_⟩,_,y,hy,b⟩:=z1o.mp hn
 have:z29 hs rl r n=z29 hs rows r n:=by
  unfold z29
  by_cases c:z0L hs n r=0
  ·rw[if_pos c,if_pos c]
  ·rw[if_neg c,if_neg c,h.2 n a ⟨y,hy,b⟩ c]
 rw[this]
theorem z5p.state{hs:List Int}{r:Int}{rl rows:List Row}(h:z5p hs r rl rows)(num:Int)(z:Str):z19 hs rl r num z=z19 hs rows r num z:=by
 unfold z19
 rw[h.again]
theorem z5p.table{hs:List Int}{r:Int}{rl rows:List Row}(h:z5p hs r rl rows)(e:z0e hs=hs)(nm:List Str):z8P nm hs rl r=z8P nm hs rows r:=by
 unfold z8P
 congr 1
 refine dX fun z _=>?_
 unfold U3
 rw[e,y1g hs h.1,h.state]
theorem y3F(rows:List Row)(n r:Int):(z0S rows n r).deep≤4:=z2l fun d hd=>by
 rcases bF.mp hd with rfl|hd
 ·exact z30 _ _
 rcases bF.mp hd with rfl|hd
 ·refine z2l fun d hd=>?_
  obtain⟨p,_,rfl⟩:=cK.mp hd
  refine z2l fun d hd=>?_
  rcases bF.mp hd with rfl|hd
  ·exact z79 _ _
  ·rw[bC.mp hd]
   exact z30 _ _
 rw[bC.mp hd]
 refine z2l fun d hd=>?_
 obtain⟨k,_,rfl⟩:=cK.mp hd
 refine z2l fun d hd=>?_
 rcases bF.mp hd with rfl|hd
 ·exact z30 _ _
 ·rw[bC.mp hd]
  exact y4S _
theorem z5p.w0H{hs:List Int}{r n:Int}{rl rows:List Row}(h:z5p hs r rl rows)(h60:∀x∈hs,1≤x/\x≤60)(hn:n∈hs):z0S rl n r=z0S rows n r:=by
 unfold z0S y3A
 rw[h.1 n hn]
 have e:(z4G n r).map (z8m rl)=(z4G n r).map (z8m rows):=?_
 ·rw[e]
 refine dX fun k hk=>?_
 unfold z4G at hk
 rw[cJ,decide_eq_true_eq,z7j] at hk
 obtain⟨h1,h2⟩:=hk
 have:=h60 n hn
 unfold z8m
 rw[h.2 k (by omega) ⟨n,hn,by omega⟩ fun e=>absurd (by omega) (y2c h60 e n hn (by omega))]
def z3s(c:List (List Str))(rows:List Row)(hs:List Int)(fig:Int)(k:Nat):Row:=if 1+(k:Int)∈hs then z0v rows (1+(k:Int)) else (c.getD k []).map fun z=>(z,(fig+(k:Int))%1000001)
def z4E(c:List (List Str))(rows:List Row)(hs:List Int)(fig:Int)(m:Nat):List Row:=(List.range m).map (z3s c rows hs fig)
theorem z5H(c:List (List Str))(rows:List Row)(hs:List Int)(fig:Int)(m:Nat):(z4E c rows hs fig m).length=m:=by
 unfold z4E
 rw[bA,fM]
theorem z8H(c:List (List Str))(rows:List Row)(hs:List Int)(fig:Int)(m:Nat):z4E c rows hs fig (m+1)=z4E c rows hs fig m++[z3s c rows hs fig m]:=by
 unfold z4E
 rw[List.range_succ,bG]
 rfl
theorem y0M{c:List (List Str)}{rows:List Row}{hs:List Int}{fig:Int}{m:Nat}{n:Int}(h1:1≤n)(h2:n≤(m:Int)):z0v (z4E c rows hs fig m) n=z3s c rows hs fig (n-1).toNat:=by
 unfold z0v z4E
 rw[bM,bE,dY (by omega)]
 rfl
theorem y4m{m:Nat}{hs:List Int}{rows:List Row}{r:Int}{i:Nat}(hi:i<m):(z0K m hs rows r)[i]? = some (z1v hs rows r (1+(i:Int))):=by
 unfold z0K
 rw[bE,show(upI 1 m)[i]? = some (1+(i:Int)) by unfold upI;rw[bE,dY hi];rfl]
 rfl
theorem z5C{nm:List Str}{hs:List Int}{rows:List Row}{r:Int}{m i:Nat}{c:List (List Str)}(h:z6W nm (z0K m hs rows r) c)(hi:i<m):c[i]? = some (c.getD i [])/\(c.getD i []).Sublist nm/\(1+(i:Int)∈hs\/z0L hs (1+(i:Int)) r≠0->c.getD i []=z0A (z0v rows (1+(i:Int)))):=by
 have hl:i<c.length:=by rw[h.1,z0P];exact hi
 have e:c[i]? = some (c.getD i []):=by
  rw[bM,bD hl]
  rfl
 have q:=h.2 i _ _ (y4m hi) e
 refine⟨e,q.1,fun k=>q.2 _ ?_⟩
 unfold z1v
 rw[if_pos k]
theorem z6e{nm:List Str}{hs:List Int}{rows:List Row}{r fig:Int}{m i:Nat}{c:List (List Str)}(h:z6W nm (z0K m hs rows r) c)(hi:i<m):z0A (z3s c rows hs fig i)=c.getD i []:=by
 unfold z3s
 by_cases k:1+(i:Int)∈hs
 ·rw[if_pos k]
  exact((z5C h hi).2.2 (.inl k)).symm
 ·rw[if_neg k]
  unfold z0A
  rw[dL]
  exact List.map_id _
theorem y0F{nm:List Str}{hs:List Int}{rows:List Row}{r fig:Int}{m i:Nat}{c:List (List Str)}(R:Rws nm rows)(nd:nm.Nodup)(n12:nm.length≤12)(h:z6W nm (z0K m hs rows r) c)(hm:m≤rows.length)(hi:i<m):GoodR nm (z3s c rows hs fig i)/\z16 nm (z3s c rows hs fig i)=z3s c rows hs fig i/\(z3s c rows hs fig i).length≤12/\((z3s c rows hs fig i).map Prod.fst).Sublist nm/\∀p∈z3s c rows hs fig i,0≤p.2/\p.2≤1000000:=by
 have sb:((z3s c rows hs fig i).map Prod.fst).Sublist nm:=by
  have:=z6e (fig:=fig) h hi
  unfold z0A at this
  rw[this]
  exact(z5C h hi).2.1
 have vl:∀p∈z3s c rows hs fig i,0≤p.2/\p.2≤1000000:=fun p hp=>by
  unfold z3s at hp
  split at hp
  ·refine R.val _ ?_ p hp
   unfold z0v
   rw[bM,bD (by omega)]
   exact dZ _
  ·obtain⟨z,_,rfl⟩:=cK.mp hp
   have:=cP (fig+(i:Int)) (show(1000001:Int)≠0 by decide)
   have:=cE (fig+(i:Int)) (show(0:Int)<1000001 by decide)
   show 0≤(fig+(i:Int))%1000001/\(fig+(i:Int))%1000001≤1000000
   omega
 have l:=sb.length_le
 rw[bA] at l
 exact⟨⟨sb.nodup nd,fun p hp=>sb.subset (fZ hp),vl⟩,z3J nd sb,by omega,sb,vl⟩
theorem y4R{nm:List Str}{hs:List Int}{rows:List Row}{r fig:Int}{m:Nat}{c:List (List Str)}(R:Rws nm rows)(gn:D9 nm)(h:z6W nm (z0K m hs rows r) c)(hm:m≤rows.length):Rws nm (z4E c rows hs fig m):=by
 have key:∀w∈z4E c rows hs fig m,∃i,i<m/\w=z3s c rows hs fig i:=fun w hw=>by
  unfold z4E at hw
  obtain⟨i,hi,rfl⟩:=cK.mp hw
  exact⟨i,fO.mp hi,rfl⟩
 refine⟨fun w hw=>?_,fun w hw=>?_⟩
 ·obtain⟨i,hi,rfl⟩:=key w hw
  exact(y0F R gn.nd gn.hi h hm hi).2.2.2.1
 ·obtain⟨i,hi,rfl⟩:=key w hw
  exact(y0F R gn.nd gn.hi h hm hi).2.2.2.2
theorem y1A{nm:List Str}{hs:List Int}{rows:List Row}{r fig:Int}{m:Nat}{c:List (List Str)}(h:z6W nm (z0K m hs rows r) c)(h60:∀x∈hs,1≤x/\x≤60)(it:z4m hs m):z5p hs r rows (z4E c rows hs fig m):=by
 refine⟨fun n hn=>?_,fun n h1 ⟨y,hy,h2⟩ h3=>?_⟩
 ·have a:=h60 n hn
  rw[y0M a.1 (it.2 n hn)]
  unfold z3s
  rw[show 1+(((n-1).toNat:Nat):Int)=n by omega,if_pos hn]
 ·have:=it.2 y hy
  rw[y0M h1 (by omega),z6e h (by omega)]
  have:=(z5C h (i:=(n-1).toNat) (by omega)).2.2
  rw[show 1+(((n-1).toNat:Nat):Int)=n by omega] at this
  exact(this (.inr h3)).symm
def y5c(K:PySem.W.Frag)(Sh:ShP):Sp:=fun vs H Q _=>∃(vc:V) (ln lr lh:Addr) (r fig:Int) (nm:List Str) (us:List V) (rows:List Row) (hs:List Int) (m:Nat) (c:List (List Str)),vs=[vc,.ref ln,.ref lr,.ref lh,.int r,.int fig]/\
 A5 H (z8Z c) vc/\z6W nm (z0K m hs rows r) c/\H ln=some (.lst (nm.map V.str))/\D9 nm/\H lr=some (.lst us)/\z08 H (rows.map L9) us/\rows.length≤60/\Rws nm rows/\H lh=some (.lst (hs.map V.int))/\hs.Pairwise (· < ·)/\(∀x∈hs,1≤x/\x≤60)/\z4m hs m/\m≤rows.length/\0≤r/\r≤10/\
 ∀(x:Addr) (fp:List Addr) (C2:List Row) (had:List Int) (H':Hp),A4 H H'->Sh H' x fp nm r (fun n=>z0S C2 n r) had->Rws nm C2->C2.length=m->(∀n,n∈had↔n∈upI 1 m)->z5p hs r rows C2->(∀n,1≤n->n≤(m:Int)->z0A (z0v C2 n)=c.getD (n-1).toNat [])->Q (.ref x) H'
theorem y5A(M:Bl mg)(F:Fun K "_law_told_anew" "_law_told_anew" z2T f fd){A2 A0:Addr}{Bk:BkP}{Sh:ShP}(O:R9 A2 ["write","deliver","latest","issue","deeds","deed","shelf"] Bk)(OS:T1 A0 ["put","had","latest"] Sh)(F0:Cal P w K mg base 5 "_law_same" z1U (z8n 5))
  (M7:Cal P w K mg base 1 "_law_issue" z55 (y3Y K)) (M8:Cal P w K mg base 3 "_law_table" z4S (y37 K)) (N3:Cal P w K mg base 8 "knowledge" z60 (y5b Sh))
  (Q4:Mkr P w K mg base 8 A2 "Book" z2o (z9f K A2 Bk)) (C5:C8 P w K mg base 8 A2 "write" z3B (z86 K Bk)) (C1:C8 P w K mg base 8 A2 "deliver" z2K (z5f Bk)) (M3:C8 P w K mg base 8 A2 "issue" z4R (y04 Bk))
  (C6:L5 P w K mg base 8 A2 "shelf" z2b (z4l Bk Sh) [V.non]):A7 P w K mg base CX0 10 f fd z2O (y5c K Sh):=by
 have nd:=z3U.nd
 refine F.ok z3U (fun vs H Q E h=>?_) (fun cdv A outer s H vs Q E hr h=>?_)
 ·obtain⟨vc,ln,lr,lh,r,fig,nm,us,rows,hs,m,c,rfl,_⟩:=h
  rfl
 obtain⟨vc,ln,lr,lh,r,fig,nm,us,rows,hs,m,c,rfl,tc,fc,eN,gn,eR,tR,r60,R,eH,rise,h60,it,mle,r0,r10,q⟩:=h
 refine⟨_,(z04 (z0s (i:=6) nd rfl (Or.inl rfl) (y14 Q4 (rm hr) rfl (z00 (z0t z2v rfl M.list eI (z00 (pv 1) z02)) (z00 (pv 4) (z00 z06 z02))))) (z04 (z15 bY rfl (z1q rfl M.range (z00 (z0d z0a rfl M.len bR (z00 (pv 0) z02)) z02)) (z0k (i:=7) nd rfl (Or.inr rfl)) (z04 (z0G (z09 z5Y (z0q z1m (pv 7) z06) (pv 3) (by with_unfolding_all rfl)) (z05 (z0y (z1l C5 (rm hr) (pv 6) (z00 (z0t z2v rfl M.list eI (z00 (z0D z0Z (pv 2) (pv 7) (fun _ _=>rfl)) z02)) z02)))) (z05 (z0y (z1l C5 (rm hr) (pv 6) (z00 (z1i ["_law_one"] ["_law_figure","_law_k"] [5,7] rfl (z0w rfl (by decide +kernel) rfl (by decide +kernel) rfl rfl) (z2r (z0D z0C (pv 0) (pv 7) (fun _ _=>rfl))) (fun _ _ _ _ _=>(z0k (i:=0) (show((["_law_one"]:List PySem.Str)++(["_law_figure","_law_k"]:List PySem.Str)).Nodup from by decide +kernel) rfl (Or.inl rfl))) (z0z (by decide)) z0g (fun _ _ _ _ _=>z1K) (fun _ _ _ _ _=>(z0V (z00 (pv 0) (z00 (z0q z0T (z0q z1m (pv 1) (pv 2)) z06) z02))))) z02))))) (z05 (z0y (z1l C1 (rm hr) (pv 6) (z00 z06 (z00 (z0q z1m (pv 7) z06) z02))))))) (z04 (z15 bY rfl (z1I (pv 3)) (z0k (i:=8) nd rfl (Or.inl rfl)) (z04 (z0y (z1l C1 (rm hr) (pv 6) (z00 z06 (z00 (pv 8) z02)))) (z05 (z0G (z37 (z2V (z0l F0 (rm hr) rfl (z00 (z1l M3 (rm hr) (pv 6) (z00 (pv 8) z02)) (z00 (z0l M7 (rm hr) rfl (z00 (pv 2) (z00 (pv 8) (z00 (pv 4) z02)))) z02))))) (z05 (z0i z7F)) z0n)))) (z04 (z0G (z37 (z2V (z0l F0 (rm hr) rfl (z00 (z0l N3 (rm hr) rfl (z00 (z9c C6 (rm hr) (pv 6) (z00 z06 z02)) z02)) (z00 (z0l M8 (rm hr) rfl (z00 (pv 1) (z00 (pv 3) (z00 (pv 2) (z00 (pv 4) z02))))) z02))))) (z05 (z0i z7F)) z0n) (z05 (z0i (z9c C6 (rm hr) (pv 6) (z00 z06 z02)))))))),?_⟩
 have n12:=gn.hi
 have r12:=y5o R n12
 obtain⟨ac,ws,rfl,eac,_,tws⟩:=z0b (show A5 H (.tup (c.map K2)) vc from tc)
 have lc:c.length=m:=by rw[fc.1,z0P]
 have lws:ws.length=m:=by rw[tws.length,bA,lc]
 have lus:us.length=rows.length:=by rw[tR.length,bA]
 have hup:∀n∈hs,n≤(m:Int):=fun n hn=>it.2 n hn
 refine⟨_,rfl,ln,nm.map V.str,rfl,.inl (SqL.of eN),fun l1 hl1=>⟨_,rfl,fun x dx nx ndx ne=>?_⟩⟩
 have mm1:=z5X (C:=A2) (z01 hl1 (.lst (nm.map V.str))) nx ndx
 refine⟨x,dx,l1,nm,r,2,rfl,z03,ne,by rw[z0h ne,z03],.inl (SqL.of (z7z nx ndx z03)),gn,r0,r10,by decide,by decide,fun fp H5 hfp b5 bk5=>⟨rfl,?_⟩⟩
 have s5:A4 H H5:=z5w b5 mm1 ((z01 hl1 _).free nx)
 have f5:∀b∈fp,H b=none:=fun b hb=>z4s mm1 ((z01 hl1 _).free nx) ((z01 hl1 _).free ndx) (hfp b hb)
 clear mm1 b5 hfp
 refine⟨_,rfl,ac,ws,rfl,.inr (SqT.of (s5 _ _ eac)),_,rfl,by omega,by omega,?_⟩
 refine z1p (lo:=0) (n:=((ws.length:Nat):Int).toNat) (fun i σ G=>∃(fp':List Addr) (lg:List A9) (o7:Option V),A4 H G/\Bk G x fp' nm r 2 (z4E c rows hs fig i) lg/\(∀b∈fp',H b=none)/\lg.length=2*i/\(∀n,((some 2,n):A9)∈lg↔n∈upI 1 i)/\(∀n,((some 1,n):A9)∉lg)/\
   σ=[some (.ref ac),some (.ref ln),some (.ref lr),some (.ref lh),some (.int r),some (.int fig),some (.ref x),o7,none]) ⟨fp,[],_,s5,bk5,f5,rfl,(fun n=>by rw[show upI 1 0=[] from rfl];exact⟨(fun h=>nomatch h),(fun h=>nomatch h)⟩),(fun n h=>nomatch h),rfl⟩ (fun i σ G hi hp=>?_) (fun σ G hp=>?_)
 ·obtain⟨fp',lg,o7,g,bk,ff,lgl,lg2,lg1,rfl⟩:=hp
  have hi':i<m:=by omega
  have ei:(0:Int)+(i:Int)=(i:Int):=gK _
  obtain⟨good,ino,a12,asub,aval⟩:=y0F (fig:=fig) R gn.nd n12 fc mle hi'
  have aln:=z5H c rows hs fig i
  have out:∀{b:Addr}{o:HO},H b=some o->b∉fp':=fun e mm=>by rw[ff _ mm] at e;cases e
  have nxt:∀{fp2:List Addr}{G2:Hp},A4 H G2->Bk G2 x fp2 nm r 2 (z4E c rows hs fig (i+1)) (lg++[(none,(i:Int)+1)])->(∀b∈fp2,H b=none)->∀(G3:Hp),z0x fp2 G2 G3->Bk G3 x fp2 nm r 2 (z4E c rows hs fig (i+1)) (lg++[(none,(i:Int)+1)]++[(some 2,0+(i:Int)+1)])->
    A4 H G3/\(lg++[((none,(i:Int)+1):A9)]++[(some 2,0+(i:Int)+1)]).length=2*(i+1)/\(∀n,((some 2,n):A9)∈lg++[((none,(i:Int)+1):A9)]++[(some 2,0+(i:Int)+1)]↔n∈upI 1 (i+1))/\(∀n,((some 1,n):A9)∉lg++[((none,(i:Int)+1):A9)]++[(some 2,0+(i:Int)+1)]):=fun {fp2 G2} g2 _ f2 G3 b3 _=>by
   refine⟨(fun b o e=>b3 b o (g2 _ _ e) fun mm=>by rw[f2 _ mm] at e;cases e),by simp only[bJ,dH];omega,fun n=>?_,fun n h=>?_⟩
   ·rw[bS,bS,bC,bC,lg2,z4t,bS,bC]
    constructor
    ·rintro((h|h)|h)
     ·exact .inl h
     ·cases h
     ·cases h
      exact .inr (by omega)
    ·rintro(h|h)
     ·exact .inl (.inl h)
     ·refine .inr ?_
      rw[h,show 1+(i:Int)=0+(i:Int)+1 by omega]
   ·rcases bS.mp h with h|h
    ·rcases bS.mp h with h|h
     ·exact lg1 n h
     ·cases bC.mp h
    ·have:=bC.mp h
     injection this with h1 h2
     injection h1 with h1
     exact absurd h1 (by decide)
  have few:(lg++[((none,(i:Int)+1):A9)]).length<400:=by
   rw[bJ,dH]
   omega
  refine⟨_,rfl,_,_,rfl,rfl,_,rfl,lh,_,rfl,.inl (SqL.of (g _ _ eH)),rfl,z2t hs,_,rfl,?_⟩
  rw[if_neg bO,z36]
  refine B3 (fun k=>?_) (fun k=>?_)
  ·have k':1+(i:Int)∈hs:=by have:=z0M k;rw[show 1+(i:Int)=0+(i:Int)+1 by omega];exact this
   have ea:z3s c rows hs fig i=z0v rows (1+(i:Int)):=by unfold z3s;rw[if_pos k']
   obtain⟨v,ev,tv⟩:=(z08.keep g _ _ tR).get i (L9 (z0v rows (1+(i:Int)))) (by
    rw[bE]
    unfold z0v
    rw[show(1+(i:Int)-1).toNat=i by omega,bM,bD (by omega)]
    rfl)
   obtain⟨ar,xs,rfl,er,_,tp⟩:=z0b tv
   obtain⟨d2,g2,z2,w2⟩:=O.ins bk
   refine⟨_,rfl,x,d2,g2,rfl,z2,w2 _ (by simp),_,rfl,_,rfl,lr,us,_,_,rfl,rfl,SqL.of (g _ _ eR),(by rw[ei];exact z0X ev),ar,xs,rfl,.inr (SqT.of er),fun l hl=>?_⟩
   have sl:=z01 hl (.lst xs)
   have el:upd G l (.lst xs) l=some (.lst xs):=z03
   have nl:l∉fp':=fun mm=>by
    obtain⟨o,e,_⟩:=O.own bk l mm
    rw[hl] at e
    cases e
   have bk':=O.same bk sl
   have hts:=z74 (z08.keep sl _ _ tp)
   generalize upd G l (.lst xs)=G1 at sl el bk' hts
   rw[<- ea] at hts
   refine⟨x,.ref l,fp',nm,r,2,_,lg,_,rfl,bk',⟨l,xs,rfl,.inl (SqL.of el),nl,HT.hand (O.L8 bk') hts⟩,good,a12,by omega,by omega,fun fp2 H6 hf2 b6 bk6=>?_⟩
   rw[ino,aln,<- z8H] at bk6
   have gl:=g.trans sl
   have g6:A4 H H6:=fun b o e=>b6 b o (gl _ _ e) fun mm=>by rw[ff b mm] at e;cases e
   have f6:∀b∈fp2,H b=none:=fun b mm=>(hf2 b mm).elim (ff b) fun z=>gl.free z
   obtain⟨d3,g3,z3,w3⟩:=O.ins bk6
   refine⟨_,rfl,x,d3,g3,rfl,z3,w3 _ (by simp),_,rfl,_,_,rfl,rfl,x,fp2,nm,r,2,_,_,2,0+(i:Int)+1,rfl,bk6,by decide,by decide,by omega,by rw[z5H];omega,few,fun G7 b7 bk7=>?_⟩
   obtain⟨n1,n2,n3,n4⟩:=nxt g6 bk6 f6 G7 b7 bk7
   exact⟨fp2,_,_,n1,bk7,f6,n2,n3,n4,rfl⟩
  ·have k':¬1+(i:Int)∈hs:=fun h=>k (decide_eq_true (by rw[show 0+(i:Int)+1=1+(i:Int) by omega];exact h))
   have ea:z3s c rows hs fig i=(c.getD i []).map fun z=>(z,(fig+(i:Int))%1000001):=by unfold z3s;rw[if_neg k']
   obtain⟨v,ev,tv⟩:=(z08.keep g _ _ tws).get i (K2 (c.getD i [])) (by
    rw[bE,(z5C fc hi').1]
    rfl)
   obtain⟨ar,xs,rfl,er,_,tp⟩:=z0b (show A5 G (.tup ((c.getD i []).map DV.str)) v from tv)
   have exs:=z1c tp
   subst exs
   have lcs:(c.getD i []).length≤12:=cM (z5C fc hi').2.1.length_le n12
   obtain⟨d2,g2,z2,w2⟩:=O.ins bk
   refine⟨_,rfl,x,d2,g2,rfl,z2,w2 _ (by simp),_,rfl,_,rfl,ac,ws,_,_,rfl,rfl,SqT.of (g _ _ eac),(by rw[ei];exact z0X ev),ar,rfl,⟨_,SqT.of er⟩,?_⟩
   refine z1u (xs:=(c.getD i []).map V.str) (fun j ys G2=>A4 G G2/\Paired (HT G2) ys (((c.getD i []).take j).map fun z=>(z,(fig+(i:Int))%1000001))) ⟨A4.refl _,.nil⟩ (fun j ys G2 hj hp=>?_) (fun j u ys G2 hu hp=>?_) (fun ys G2 hp=>?_)
   ·obtain⟨g2',th⟩:=hp
    have:=th.length
    rw[bA,bI] at this
    exact⟨SqT.of (g2' _ _ er),z0f (by omega)⟩
   ·obtain⟨g2',th⟩:=hp
    rw[bE] at hu
    obtain⟨z,ez,rfl⟩:=cG.mp hu
    refine⟨_,rfl,_,rfl,_,rfl,_,_,rfl,rfl,_,_,rfl,rfl,(by show(0:Int)<1000001;decide),le2,fun t ht=>?_⟩
    have st:=z01 ht (.tup [V.str z,V.int ((fig+(0+(i:Int)))%1000001)])
    refine⟨g2'.trans st,?_⟩
    rw[z0j ez,bG]
    refine fL (HT.keep st th) ⟨t,rfl,?_⟩
    rw[z03,ei]
   obtain⟨g2',th⟩:=hp
   rw[bA,bP,<- ea] at th
   intro l hl
   have sl:=z01 hl (.lst ys)
   have el:upd G2 l (.lst ys) l=some (.lst ys):=z03
   have bk2:=O.same bk g2'
   have nl:l∉fp':=fun mm=>by
    obtain⟨o,e,_⟩:=O.own bk2 l mm
    rw[hl] at e
    cases e
   have bk':=O.same bk2 sl
   have hts:=HT.keep sl th
   generalize upd G2 l (.lst ys)=G1 at sl el bk' hts
   refine⟨x,.ref l,fp',nm,r,2,_,lg,_,rfl,bk',⟨l,ys,rfl,.inl (SqL.of el),nl,HT.hand (O.L8 bk') hts⟩,good,a12,by omega,by omega,fun fp2 H6 hf2 b6 bk6=>?_⟩
   rw[ino,aln,<- z8H] at bk6
   have gl:=g.trans (g2'.trans sl)
   have g6:A4 H H6:=fun b o e=>b6 b o (gl _ _ e) fun mm=>by rw[ff b mm] at e;cases e
   have f6:∀b∈fp2,H b=none:=fun b mm=>(hf2 b mm).elim (ff b) fun z=>gl.free z
   obtain⟨d3,g3,z3,w3⟩:=O.ins bk6
   refine⟨_,rfl,x,d3,g3,rfl,z3,w3 _ (by simp),_,rfl,_,_,rfl,rfl,x,fp2,nm,r,2,_,_,2,0+(i:Int)+1,rfl,bk6,by decide,by decide,by omega,by rw[z5H];omega,few,fun G7 b7 bk7=>?_⟩
   obtain⟨n1,n2,n3,n4⟩:=nxt g6 bk6 f6 G7 b7 bk7
   exact⟨fp2,_,_,n1,bk7,f6,n2,n3,n4,rfl⟩
 obtain⟨fp6,lg,o7,g6,bk6,f6,lgl,lg2,lg1,rfl⟩:=hp
 have em:((ws.length:Nat):Int).toNat=m:=by omega
 rw[em] at bk6 lgl lg2
 have R2:=y4R (fig:=fig) R gn fc mle
 have ag:=y1A (fig:=fig) fc h60 it
 have a2n:∀n,1≤n->n≤(m:Int)->z0A (z0v (z4E c rows hs fig m) n)=c.getD (n-1).toNat []:=fun n h1 h2=>by rw[y0M h1 h2];exact z6e fc (by omega)
 have al2:=z5H c rows hs fig m
 generalize z4E c rows hs fig m=C2 at bk6 R2 ag a2n al2
 have hsm:∀n∈hs,1≤n/\n≤(C2.length:Int):=fun n hn=>by have:=h60 n hn;have:=hup n hn;omega
 have hl60:hs.length≤60:=by rw[<- z4u rise h60 (ms:=hs) fun _=>jE];exact z3y _
 have hnd:hs.Nodup:=rise.imp fun h=>jK h
 clear bk5 f5 s5
 refine⟨_,rfl,lh,rfl,⟨_,SqL.of (g6 _ _ eH)⟩,z22 (K:=K) (a:=lh) (xs:=hs.map V.int) (fun i σ G=>∃(o8:Option V),A4 H G/\Bk G x fp6 nm r 2 C2 (lg++P4 (hs.take i))/\
   σ=[some (.ref ac),some (.ref ln),some (.ref lr),some (.ref lh),some (.int r),some (.int fig),some (.ref x),o7,o8]) ⟨_,g6,by rw[cQ];exact(cY lg).symm ▸ bk6,rfl⟩ (fun i σ G _ ⟨_,g,_⟩=>SqL.of (g _ _ eH)) ?_ ?_⟩
 ·rintro i u σ G hi ⟨o8,g,bk,rfl⟩
  rw[bE] at hi
  obtain⟨n,en,rfl⟩:=cG.mp hi
  have hnm:=bV en
  have hn:=hsm n hnm
  have ll:(lg++P4 (hs.take i)).length<400:=by
   rw[bJ]
   unfold P4
   rw[bA,bI]
   omega
  obtain⟨d2,g2,z2,w2⟩:=O.ins bk
  refine⟨_,rfl,x,d2,g2,rfl,z2,w2 _ (by simp),_,rfl,x,fp6,nm,r,2,C2,_,1,n,rfl,bk,by decide,by decide,hn.1,hn.2,ll,fun G1 b1 bk1=>?_⟩
  rw[fN,<- y2D,<- z0j en] at bk1
  have g1:A4 H G1:=fun b o e=>b1 b o (g _ _ e) fun mm=>by rw[f6 _ mm] at e;cases e
  obtain⟨d3,g3,z3,w3⟩:=O.ins bk1
  refine⟨_,rfl,x,d3,g3,rfl,z3,w3 _ (by simp),_,rfl,x,fp6,nm,r,2,C2,_,n,rfl,bk1,hn.1,hn.2,fun v1 G2 g2 t1=>?_⟩
  rw[<- ag.w0H h60 hnm] at t1
  have c2:=g1.trans g2
  refine⟨_,rfl,_,rfl,_,rfl,lr,us,rows,n,r,rfl,SqL.of (c2 _ _ eR),z08.keep c2 _ _ tR,by omega,r12,hn.1,by omega,fun v2 G3 g3 t2=>?_⟩
  exact⟨v1,v2,rfl,(z4v _ _ _ (A5.keep g3 _ _ t1) t2).mono (y3F _ _ _),fun G4 g4=>⟨_,rfl,B5 ⟨_,c2.trans (g3.trans g4),O.same bk1 (g2.trans (g3.trans g4)),rfl⟩⟩⟩
 rintro σ G ⟨o8,g,bk,rfl⟩
 rw[bA,bP] at bk
 have gm1:∀n,n∈D4 (lg++P4 hs) 1↔n∈hs:=fun n=>by
  rw[z77,bS]
  unfold P4
  rw[cK]
  constructor
  ·rintro(h|⟨k,hk,e⟩)
   ·exact absurd h (lg1 n)
   ·cases e
    exact hk
  ·exact fun h=>.inr ⟨n,h,rfl⟩
 have gm2:∀n,n∈D4 (lg++P4 hs) 2↔n∈upI 1 m:=fun n=>by
  rw[z77,bS,lg2]
  unfold P4
  rw[cK]
  constructor
  ·rintro(h|⟨k,hk,e⟩)
   ·exact h
   ·injection e with e _
    injection e with e
    exact absurd e (by decide)
  ·exact fun h=>.inl h
 generalize lg++P4 hs=log at bk gm1 gm2
 obtain⟨d3,g3,z3,w3⟩:=O.ins bk
 refine⟨_,rfl,x,d3,g3,rfl,z3,w3 _ (by simp),x,fp6,nm,r,2,C2,_,1,none,rfl,bk,by decide,by decide,(fun d h=>by cases h),fun x5 f5 G1 fn5 g1 sh5=>?_⟩
 rw[show log.take (Option.getD none log.length)=log from bP] at sh5
 have X9:∀n∈D4 log 1,1≤n/\n≤(C2.length:Int):=fun n hn=>hsm n ((gm1 n).mp hn)
 refine⟨x5,f5,nm,r,C2,_,rfl,sh5,gn,R2,by omega,X9,r0,r10,fun v1 G2 g2 t1=>?_⟩
 rw[z4u rise h60 gm1,<- ag.table (z4u rise h60 fun _=>jE)] at t1
 have c2:=g.trans (g1.trans g2)
 refine⟨_,rfl,_,rfl,_,rfl,_,rfl,ln,lh,lr,nm,hs,us,rows,r,rfl,SqL.of (c2 _ _ eN),n12,c2 _ _ eH,by omega,hnd,h60,fun n hn=>by have:=hup n hn;omega,SqL.of (c2 _ _ eR),z08.keep c2 _ _ tR,r12,r0,fun v2 G3 g3 t2=>?_⟩
 refine⟨v1,v2,rfl,(z4v _ _ _ (A5.keep g3 _ _ t1) t2).mono (cM (y1U _ _ _ _) (by decide)),fun G4 g4=>⟨_,rfl,B5 ?_⟩⟩
 have k4:=g1.trans (g2.trans (g3.trans g4))
 have bk4:=O.same bk k4
 obtain⟨d4,g5,z4,w4⟩:=O.ins bk4
 refine⟨_,rfl,x,d4,g5,rfl,z4,w4 _ (by simp),x,fp6,nm,r,2,C2,_,2,none,rfl,bk4,by decide,by decide,(fun d h=>by cases h),fun x6 f6' G5 fn6 g6' sh6=>?_⟩
 rw[show log.take (Option.getD none log.length)=log from bP] at sh6
 exact q x6 f6' C2 _ G5 (g.trans (k4.trans g6')) sh6 R2 al2 gm2 ag a2n
theorem y4L{rows:List Row}{z:Str}{ms:List Int}{n u:Int}(rise:ms.Pairwise (· < ·))(hn:n∈ms)(hv:D7 (z0v rows n) z=some u)(top:∀k∈ms,n<k->D7 (z0v rows k) z=none):z0W ms rows z=some (n,u):=by
 rcases z3x (rows:=rows) (z:=z) ms rise with ⟨_,q⟩|⟨n',u',q1,q2,q3,q4⟩
 ·rw[q n hn] at hv
  cases hv
 ·rw[q1]
  rcases Int.lt_trichotomy n n' with h|h|h
  ·rw[top n' q2 h] at q3
   cases q3
  ·subst h
   rw[q3] at hv
   cases hv
   rfl
  ·rw[q4 n hn h] at hv
   cases hv
theorem y1D{hs:List Int}{r:Int}{rows:List Row}{w:Nat}(h:∀n∈hs,1≤n/\n≤(w:Int)):z5p hs r rows (rows.take w):=
 ⟨fun n hn=>(z4A (h n hn).1 (h n hn).2).symm,fun n h1 ⟨y,hy,h2⟩ _=>by rw[z4A h1 (by have:=(h y hy).2;omega)]⟩
theorem y1z{hs:List Int}{rows C2:List Row}{r:Int}{m:Nat}{c:List (List Str)}{z:Str}(rise:hs.Pairwise (· < ·))(h60:∀x∈hs,1≤x/\x≤60)(it:z4m hs m)(ag:z5p hs r rows C2)(hl:c.length=m)(nm2:∀n,1≤n->n≤(m:Int)->z0A (z0v C2 n)=c.getD (n-1).toNat [])
  (hno:¬InC c (z27 (z0W hs rows z)) z):z0W (upI 1 m) C2 z=z0W hs rows z:=by
 have key:∀n∈upI 1 m,z27 (z0W hs rows z)<n->D7 (z0v C2 n) z=none:=fun n hn hlt=>by
  have hr:=z0U.mp hn
  cases ev:D7 (z0v C2 n) z with
  | none=>rfl
  | some v=>
   have hz:z∈z0A (z0v C2 n):=y4D (by rw[ev];exact fun e=>by cases e)
   rw[nm2 n hr.1 (by omega)] at hz
   refine absurd ⟨(n-1).toNat,c.getD (n-1).toNat [],?_,by omega,hz⟩ hno
   rw[bM,bD (by omega)]
   rfl
 rcases z3x (rows:=rows) (z:=z) hs rise with ⟨q1,_⟩|⟨n,u,q1,q2,q3,q4⟩
 ·rw[q1] at key ⊢
  rcases z3x (rows:=C2) (z:=z) (upI 1 m) (z18 _ _) with ⟨p1,_⟩|⟨n',u',p1,p2,p3,p4⟩
  ·exact p1
  ·have:=z0U.mp p2
   rw[key n' p2 (by show(0:Int)<n';omega)] at p3
   cases p3
 ·rw[q1] at key ⊢
  refine y4L (z18 _ _) (z0U.mpr ?_) (by rw[<- ag.1 n q2];exact q3) key
  have:=it.2 n q2
  have:=h60 n q2
  omega
theorem y0D{C2:List Row}{m:Nat}{c:List (List Str)}{z:Str}{num:Int}(hl:c.length=m)(nm2:∀n,1≤n->n≤(m:Int)->z0A (z0v C2 n)=c.getD (n-1).toNat [])(hin:InC c num z):∃n v,z0W (upI 1 m) C2 z=some (n,v)/\num<n:=by
 obtain⟨k,zs,e,h,hz⟩:=hin
 have hk:k<c.length:=(cC.mp e).1
 have e2:=nm2 ((k:Int)+1) (by omega) (by omega)
 rw[show((k:Int)+1-1).toNat=k by omega,bM,e] at e2
 have hz2:z∈z0A (z0v C2 ((k:Int)+1)):=by rw[e2];exact hz
 obtain⟨v,ev⟩:=y0P hz2
 have hm:(k:Int)+1∈upI 1 m:=z0U.mpr (by omega)
 rcases z3x (rows:=C2) (z:=z) (upI 1 m) (z18 _ _) with ⟨_,q⟩|⟨n',u',q1,q2,q3,q4⟩
 ·rw[q _ hm] at ev
  cases ev
 ·refine⟨n',u',q1,?_⟩
  rcases Int.lt_or_le n' ((k:Int)+1) with g|g
  ·rw[q4 _ hm g] at ev
   cases ev
  ·omega
theorem y45(o:Option (Int×Int)):(y1S o).deep≤1:=by
 cases o with
 | none=>
  refine z2l fun d hd=>?_
  rcases bF.mp hd with rfl|hd
  ·exact z30 _ _
  ·rw[bC.mp hd]
   unfold DV.deep
   exact cT _
 | some p=>
  refine z2l fun d hd=>?_
  rcases bF.mp hd with rfl|hd
  ·exact z30 _ _
  ·rw[bC.mp hd]
   exact z30 _ _
theorem y6E(M:Bl mg)(F:Fun K "law" "law" Y3 f fd){A2 A0:Addr}{Bk:BkP}{Sh:ShP}(O:R9 A2 ["write","deliver","latest","issue","deeds","deed","shelf"] Bk)(OS:T1 A0 ["put","had","latest"] Sh)
  (D2:Cal P w K mg base 1 "_law_at" z9e (spAt K)) (C0:Cal P w K mg base 1 "_law_pick" z4r y40) (L7:Cal P w K mg base 1 "_law_named" z5g y2S)
  (N7:Cal P w K mg base 2 "_law_sets" z66 (y5m K)) (L0:Cal P w K mg base 2 "_law_valued" z4e y1r) (J9:Cal P w K mg base 1 "_law_whole" z5i y43)
  (F0:Cal P w K mg base 5 "_law_same" z1U (z8n 5)) (F2:Cal P w K mg base 1 "_law_held" z4z (y0o K)) (F3:Cal P w K mg base 2 "_law_gaps" z4q (y2i K)) (E4:Cal P w K mg base 2 "_law_state" z3P (y0k K)) (M5:Cal P w K mg base 2 "_law_known" z4T (y0Y K)) (F7:Cal P w K mg base 1 "_law_course" z40 (y1s K))
  (M6:Cal P w K mg base 2 "_law_deeds" z5j (y3e K)) (L3:Cal P w K mg base 1 "_law_had_at" z46 (y2f K)) (N5:Cal P w K mg base 9 "_law_play" z61 (y59 K Bk)) (E2:Cal P w K mg base 10 "_law_told_anew" z2O (y5c K Sh))
  (L4:Cal P w K mg base 8 "two_courses" z48 (y6K Sh)) (B8:Cal P w K mg base 8 "held_for" z3r (z41 Sh))
  (Q4:Mkr P w K mg base 8 A2 "Book" z2o (z9f K A2 Bk)) (C6:L5 P w K mg base 8 A2 "shelf" z2b (z4l Bk Sh) [V.non]):A7 P w K mg base CX0 14 f fd plaw (y46 K):=by
 have nd:=y73.nd
 refine F.ok y73 (fun vs H Q E h=>?_) (fun cdv A outer s H vs Q E hr h=>?_)
 ·obtain⟨a,ns,rfl,_⟩:=h
  rfl
 obtain⟨a,ns,rfl,hS,h63,q⟩:=h
 refine⟨_,(z04 (z0s (i:=1) nd rfl (Or.inl rfl) (z0l L7 (rm hr) rfl (z00 (z0q z1n (z0l D2 (rm hr) rfl (z00 (pv 0) (z00 z06 z02))) z06) (z00 (z0q z1m z06 (z0l C0 (rm hr) rfl (z00 (z0q z0T (z0l D2 (rm hr) rfl (z00 (pv 0) (z00 z06 z02))) z06) (z00 z06 z02)))) z02)))) (z04 (z0s (i:=2) nd rfl (Or.inl rfl) (z0l L0 (rm hr) rfl (z00 (z0l N7 (rm hr) rfl (z00 (pv 1) (z00 (z0l D2 (rm hr) rfl (z00 (pv 0) (z00 z06 z02))) (z00 z06 z02)))) (z00 (z0l D2 (rm hr) rfl (z00 (pv 0) (z00 z06 z02))) z02)))) (z04 (z0s (i:=3) nd rfl (Or.inl rfl) (z0l C0 (rm hr) rfl (z00 (z0l D2 (rm hr) rfl (z00 (pv 0) (z00 z06 z02))) (z00 z06 z02)))) (z04 (z0s (i:=4) nd rfl (Or.inl rfl) (z0l M6 (rm hr) rfl (z00 (z2I y0z (pv 0) (z3I z06) z3E) (z00 z06 (z00 (z0l C0 (rm hr) rfl (z00 (z0l D2 (rm hr) rfl (z00 (pv 0) (z00 z06 z02))) (z00 z06 z02))) (z00 z06 z02)))))) (z04 (z0s (i:=5) nd rfl (Or.inl rfl) (z0l L3 (rm hr) rfl (z00 (pv 4) (z00 z06 (z00 (z0d z0a rfl M.len bR (z00 (pv 4) z02)) z02))))) (z04 (z0s (i:=6) nd rfl (Or.inl rfl) (z0l M5 (rm hr) rfl (z00 (pv 5) (z00 (pv 2) (z00 (pv 3) z02))))) (z04 (z0s (i:=7) nd rfl (Or.inl rfl) (z9c C6 (rm hr) (z0l N5 (rm hr) rfl (z00 (y14 Q4 (rm hr) rfl (z00 (z0t z2v rfl M.list eI (z00 (pv 1) z02)) (z00 (pv 3) (z00 z06 z02)))) (z00 (pv 4) (z00 (pv 2) z02)))) (z00 z06 z02))) (z04 (z15 bY rfl (z1q rfl M.range (z00 (z0d (y2o rfl) rfl M.min fQ (z00 z06 (z00 (z0d z0a rfl M.len bR (z00 (pv 1) z02)) z02))) z02)) (z0k (i:=8) nd rfl (Or.inl rfl)) (z04 (z0s (i:=9) nd rfl (Or.inl rfl) (z0D z0Z (pv 1) (z0q z0T (z0q z1m (pv 8) (z0l D2 (rm hr) rfl (z00 (pv 0) (z00 z06 z02)))) (z0d z0a rfl M.len bR (z00 (pv 1) z02))) (fun _ _=>rfl))) (z04 (z0s (i:=10) nd rfl (Or.inl rfl) (z0l F2 (rm hr) rfl (z00 (pv 5) (z00 (pv 2) (z00 (pv 9) z02))))) (z04 (z0s (i:=11) nd rfl (Or.inl rfl) (z0l L4 (rm hr) rfl (z00 (pv 7) (z00 (pv 9) z02)))) (z04 (z0G (z09 z6Y (z0l E4 (rm hr) rfl (z00 (z0l F3 (rm hr) rfl (z00 (pv 5) (z00 (pv 2) (z00 (pv 3) z02)))) (z00 (z0D z0C (pv 10) z06 (fun _ _=>rfl)) (z00 (pv 9) z02)))) z2E (z0o _)) (z04 (z0G (z5J (y3C (pv 11))) (z05 (z0i z3p)) z0n) (z05 y0O)) z0n) (z04 (z0G (PW.pt (z3l (z37 (z2V (z0d z0H rfl M.isinstance c9 (z00 (pv 11) (z00 (z1P (v:=.ty "tuple") rfl M.tuple bL rfl) z02))))) (z25 (z09 z6Y (z0d z0a rfl M.len bR (z00 (pv 11) z02)) z06 (z0o _))))) (z05 (z0i z3p)) z0n) (z04 (z0G (PW.pt (z3l (z37 (z2V (z0l F7 (rm hr) rfl (z00 (z0D z0C (pv 11) z06 (fun _ _=>rfl)) (z00 (pv 1) (z00 (pv 6) z02)))))) (z25 (z37 (z2V (z0l F7 (rm hr) rfl (z00 (z0D z0C (pv 11) z06 (fun _ _=>rfl)) (z00 (pv 1) (z00 (pv 6) z02))))))))) (z05 (z0i z3p)) z0n) (z04 (z0s (i:=12) nd rfl (Or.inl rfl) (z0l E2 (rm hr) rfl (z00 (z0D z0C (pv 11) z06 (fun _ _=>rfl)) (z00 (pv 1) (z00 (pv 2) (z00 (pv 5) (z00 (pv 3) (z00 (z0l C0 (rm hr) rfl (z00 (z0l D2 (rm hr) rfl (z00 (pv 0) (z00 z06 z02))) (z00 z06 z02))) z02)))))))) (z04 (z0s (i:=13) nd rfl (Or.inl rfl) (z0l E2 (rm hr) rfl (z00 (z0D z0C (pv 11) z06 (fun _ _=>rfl)) (z00 (pv 1) (z00 (pv 2) (z00 (pv 5) (z00 (pv 3) (z00 (z0l C0 (rm hr) rfl (z00 (z0l D2 (rm hr) rfl (z00 (pv 0) (z00 z06 z02))) (z00 z06 z02))) z02)))))))) (z04 (z0G (PW.pt (z3l (z5J (z8K (pv 12))) (z3l (z5J (z8K (pv 13))) (z25 (z37 (z2V (z0l F0 (rm hr) rfl (z00 (z0l B8 (rm hr) rfl (z00 (pv 12) (z00 (pv 9) z02))) (z00 (pv 10) z02))))))))) (z05 (z0i z3p)) z0n) (z04 (z0s (i:=14) nd rfl (Or.inl rfl) (z0l B8 (rm hr) rfl (z00 (pv 13) (z00 (pv 9) z02)))) (z04 (z0G (PW.pt (z3l (z37 (z2V (z0d z0H rfl M.isinstance c9 (z00 (pv 14) (z00 (z1P (v:=.ty "tuple") rfl M.tuple bL rfl) z02))))) (z3l (z09 z6Y (z0d z0a rfl M.len bR (z00 (pv 14) z02)) z06 (z0o _)) (z25 (z37 (z2V (z0l J9 (rm hr) rfl (z00 (z0D z0C (pv 14) z06 (fun _ _=>rfl)) z02)))))))) (z05 (z0i z3p)) z0n) (z05 (z0G (PW.pt (z3l (z09 y4G (z0D z0C (pv 14) z06 (fun _ _=>rfl)) (z0D z0C (pv 10) z06 (fun _ _=>rfl)) (z0o _)) (z25 (z37 (z2V (z0l J9 (rm hr) rfl (z00 (z0D z0C (pv 14) z06 (fun _ _=>rfl)) z02))))))) (z05 (z0i z3p)) z0n)))))))))))))) (z05 (z0i z3p)))))))))),?_⟩
 refine⟨_,rfl,a,ns,0,rfl,hS,eF 0,_,_,rfl,rfl,⟨by decide,by decide⟩,?_⟩
 refine⟨_,rfl,a,ns,0,rfl,hS,eF 0,_,_,rfl,rfl,(by show(0:Int)<12;decide),_,_,rfl,(by decide),fun nk h0 h1=>⟨_,_,rfl,rfl,?_⟩⟩
 refine⟨_,_,rfl,by omega,by omega,fun ln nm H1 nln s1 eN nlen N=>?_⟩
 have n1:1≤nm.length:=by omega
 have n12:nm.length≤12:=by omega
 refine⟨_,rfl,_,rfl,a,ns,2,rfl,s1.seq hS,by decide,ln,nm,_,60,rfl,SqL.of eN,n1,n12,by decide,by decide,fun l0 xs0 ss H2 nl0 s2 e2 st len0 sub0=>?_⟩
 have s12:=s1.trans s2
 refine⟨_,rfl,a,ns,3,rfl,s12.seq hS,by decide,l0,xs0,ss,_,rfl,e2,st,by rw[len0];decide,fun s hs=>cM (sub0 s hs).length_le n12,fun lr us rows H3 nlr s3 eR tl hm hv=>?_⟩
 have r60:rows.length=60:=by
  have:=congrArg List.length hm
  rw[bA,len0] at this
  exact this
 have R:Rws nm rows:=⟨fun r hr'=>sub0 _ (by rw[<- hm];exact fZ hr'),hv⟩
 have s13:=s12.trans s3
 have eN3:=s3 _ _ (s2 _ _ eN)
 clear st hm hv e2
 refine⟨_,rfl,a,ns,4,rfl,s13.seq hS,by decide,_,_,rfl,(by decide),fun r r0 r1=>?_⟩
 refine⟨_,rfl,_,rfl,a,_,rfl,s13.seq hS,fun lsl hlsl=>?_⟩
 have ecut:K5 (ns.map V.int) (some (6:Int)) none=((ns.drop (HT.sIx (ns.map V.int).length 0 (some 6))).take (HT.sIx (ns.map V.int).length (ns.map V.int).length none-HT.sIx (ns.map V.int).length 0 (some 6))).map V.int:=by
  unfold K5
  rw[List.map_take,List.map_drop]
 rw[ecut]
 generalize (ns.drop (HT.sIx (ns.map V.int).length 0 (some 6))).take (HT.sIx (ns.map V.int).length (ns.map V.int).length none-HT.sIx (ns.map V.int).length 0 (some 6))=cs
 have s34:=z01 hlsl (.lst (cs.map V.int))
 have eC:upd H3 lsl (.lst (cs.map V.int)) lsl=some (.lst (cs.map V.int)):=z03
 generalize upd H3 lsl (.lst (cs.map V.int))=H4 at s34 eC
 have s4:=s13.trans s34
 refine⟨_,rfl,a,ns,1,rfl,s4.seq hS,by decide,_,_,rfl,(by decide),fun fst f0 f1=>⟨lsl,cs,fst,2,rfl,SqL.of eC,f0,by omega,by decide,by decide,fun l us' log H5 nl s5 el pl lk l246=>?_⟩⟩
 have lu:=z1a pl
 have gn:D9 nm:=⟨n1,n12,N.nd⟩
 have r12:=y5o R n12
 have in60:∀y∈log,1≤y.2/\y.2≤(wrN log:Int):=y4c lk
 have w2:wrN log≤60:=by
  have:=X5 lk log.length
  rw[bP] at this
  exact this
 have w0U:∀y∈log,1≤y.2/\y.2≤60:=fun y hy=>by have:=in60 y hy;omega
 refine⟨_,rfl,_,rfl,l,us',rfl,.inl (SqL.of el),l,us',log,1,us'.length,rfl,el,pl,by omega,w0U,fun lh H6 nlh s6 eH=>?_⟩
 rw[lu,bP] at eH
 have gl:∀n∈D4 log 1,1≤n/\n≤(wrN log:Int):=fun n hn=>in60 _ (z77.mp hn)
 have Z2:∀n,n∈D4 log 1↔n∈z0e (D4 log 1):=fun n=>(z9J (fun _=>jE) (fun n hn=>by have:=gl n hn;omega) n).symm
 have hsr:∀n∈z0e (D4 log 1),1≤n/\n≤(wrN log:Int):=fun n hn=>gl n ((Z2 n).mpr hn)
 have rise:=z1F (D4 log 1)
 have w0N:z0e (D4 log 1)=z0e (D4 log 1):=rfl
 have hl60:=z3y (D4 log 1)
 generalize hHS:z0e (D4 log 1)=hs at eH Z2 hsr rise w0N hl60
 have h60:∀n∈hs,1≤n/\n≤60:=fun n hn=>by have:=hsr n hn;omega
 have hup:∀n∈hs,n≤(rows.length:Int):=fun n hn=>by have:=hsr n hn;omega
 have hnd:hs.Nodup:=rise.imp fun h=>jK h
 have e2:z0e hs=hs:=z4u rise h60 fun _=>jE
 obtain⟨m,it⟩:=y77 hs h60
 have mwr:m≤wrN log:=by have:=it.le (k:=(wrN log:Int)) (by omega) fun n hn=>(hsr n hn).2;omega
 have mle:m≤rows.length:=by omega
 have s56:=s34.trans (s5.trans s6)
 have eN6:=s56 _ _ eN3
 have eR6:=s56 _ _ eR
 have tl6:=z08.keep s56 _ _ tl
 refine⟨_,rfl,_,rfl,_,rfl,lh,lr,hs,us,rows,r,m,rfl,eH,h60,by omega,hup,SqL.of eR6,tl6,r12,r0,it,fun lk' kz H7 nlk s7 eK tK=>?_⟩
 have eN7:=s7 _ _ eN6
 have eR7:=s7 _ _ eR6
 have eH7:=s7 _ _ eH
 have tl7:=z08.keep s7 _ _ tl6
 have el7:=(s6.trans s7) _ _ el
 have pl7:=K0.keep (s6.trans s7) pl
 have hS7:=(s13.trans (s56.trans s7)).seq hS
 refine⟨_,rfl,ln,nm.map V.str,rfl,.inl (SqL.of eN7),fun l1 hl1=>⟨_,rfl,fun x dx nx ndx ne=>?_⟩⟩
 have mm1:=z5X (C:=A2) (z01 hl1 (.lst (nm.map V.str))) nx ndx
 refine⟨x,dx,l1,nm,r,2,rfl,z03,ne,by rw[z0h ne,z03],.inl (SqL.of (z7z nx ndx z03)),gn,r0,by omega,by decide,by decide,fun fp H8 hfp b8 bk8=>⟨rfl,?_⟩⟩
 have s8:A4 H7 H8:=z5w b8 mm1 ((z01 hl1 _).free nx)
 have f8:∀b∈fp,H7 b=none:=fun b hb=>z4s mm1 ((z01 hl1 _).free nx) ((z01 hl1 _).free ndx) (hfp b hb)
 have out:∀{b:Addr}{o:HO},H7 b=some o->b∉fp:=fun e m=>by rw[f8 _ m] at e;cases e
 have nt8:z54 H8 fp:=O.L8 bk8
 refine⟨_,rfl,_,rfl,x,l,lr,fp,nm,r,2,us',us,log,rows,rfl,bk8,s8 _ _ el7,out el7,K0.keep s8 pl7,lk,by omega,s8 _ _ eR7,out eR7,z08.keep s8 _ _ tl7,r60,R,N.nd,n12,fun fp9 H9 ff9 b9 bk9=>?_⟩
 have sk:∀{b:Addr}{o:HO},H7 b=some o->H9 b=some o:=fun e=>b9 _ _ (s8 _ _ e) (out e)
 have R2:Rws nm (rows.take (wrN log)):=⟨fun w hw=>R.sub w (dU hw),fun w hw=>R.val w (dU hw)⟩
 have tlen:(rows.take (wrN log)).length=wrN log:=by rw[bI];omega
 obtain⟨d3,g3,z3,w3⟩:=O.ins bk9
 refine⟨x,d3,g3,rfl,z3,w3 _ (by simp),x,fp9,nm,r,2,_,log,1,none,rfl,bk9,by decide,by decide,(fun d h=>by cases h),fun x7 f7 HA fn7 sA sh7=>?_⟩
 rw[show log.take (Option.getD none log.length)=log from bP] at sh7
 have eNA:=sA _ _ (sk eN7)
 have eRA:=sA _ _ (sk eR7)
 have eHA:=sA _ _ (sk eH7)
 have eKA:=sA _ _ (sk eK)
 have tlA:z08 HA (rows.map L9) us:=z08.keep sA _ _ (z08.but b9 nt8 _ _ (z08.keep s8 _ _ tl7))
 have tKA:=z08.keep sA _ _ (z08.but b9 nt8 _ _ (z08.keep s8 _ _ tK))
 have hSA:SqL K HA a (ns.map V.int):=by
  refine sA.seq ?_
  rcases hS7 with (h|⟨o,h⟩)|h
  ·exact .inl (.inl (sk h))
  ·exact .inl (.inr ⟨o,sk h⟩)
  ·exact .inr h
 have ag:z5p hs r rows (rows.take (wrN log)):=y1D hsr
 have X9:∀n∈D4 log 1,1≤n/\n≤((rows.take (wrN log)).length:Int):=fun n hn=>by rw[tlen];exact gl n hn
 have it7:z4m (D4 log 1) m:=it.same Z2
 clear mm1 b8 hfp bk8 b9 sk s8 nt8 out f8 pl7 el7 eN7 eR7 eH7 tl7 hS7 eK tK s7 s56 eN6 eR6 tl6 eH s6 s5 el pl eN3 eR tl s34 eC nl sA bk9 fn7 d3 g3 z3 w3
 have lnm:(nm.map V.str).length=nm.length:=bA _
 refine⟨_,rfl,ln,_,rfl,.inl (SqL.of eNA),_,_,rfl,?_⟩
 have mn:∃mm:Int,(if (((nm.map V.str).length:Nat):Int)<3 then (((nm.map V.str).length:Nat):Int) else 3)=mm/\0≤mm/\mm≤3:=⟨_,rfl,by split<;>omega,by split<;>omega⟩
 obtain⟨mm,em,mm0,mm3⟩:=mn
 rw[em]
 refine⟨mm,rfl,by omega,by omega,?_⟩
 refine z1p (lo:=0) (n:=mm.toNat) (fun _ σ G=>∃(p8 p9 p10 p11 p12 p13 p14:Option V),A4 HA G/\σ=[some (.ref a),some (.ref ln),some (.ref lr),some (.int r),some (.ref l),some (.ref lh),some (.ref lk'),some (.ref x7),p8,p9,p10,p11,p12,p13,p14]) ⟨_,_,_,_,_,_,_,A4.refl _,rfl⟩ (fun k' σ G hk hp=>?_) (fun σ G hp=>q _)
 obtain⟨p8,p9,p10,p11,p12,p13,p14,g,rfl⟩:=hp
 have md:=cP ((0:Int)+(k':Int)+ns.getD (5:Int).toNat 0) (show(((nm.map V.str).length:Nat):Int)≠0 by omega)
 have md2:=cE ((0:Int)+(k':Int)+ns.getD (5:Int).toNat 0) (show(0:Int)<(((nm.map V.str).length:Nat):Int) by omega)
 obtain⟨jz,ej,hjz⟩:∃jz:Nat,((0:Int)+(k':Int)+ns.getD (5:Int).toNat 0)%(((nm.map V.str).length:Nat):Int)=(jz:Int)/\jz<nm.length:=⟨(((0:Int)+(k':Int)+ns.getD (5:Int).toNat 0)%(((nm.map V.str).length:Nat):Int)).toNat,by omega,by omega⟩
 have atz:atI (nm.map V.str) (((0:Int)+(k':Int)+ns.getD (5:Int).toNat 0)%(((nm.map V.str).length:Nat):Int))=some (.str nm[jz]):=by
  rw[ej]
  exact z0X (by rw[bE,bD hjz];rfl)
 refine⟨_,rfl,_,rfl,_,rfl,a,ns,5,rfl,g.seq hSA,by decide,_,_,rfl,rfl,_,rfl,ln,_,rfl,.inl (SqL.of (g _ _ eNA)),_,_,rfl,rfl,(by omega),ln,_,_,_,rfl,rfl,SqL.of (g _ _ eNA),atz,?_⟩
 have hz:nm[jz]∈nm:=dZ hjz
 generalize nm[jz]=z at hz
 clear md md2 ej atz
 refine⟨_,rfl,_,rfl,_,rfl,lh,lr,hs,us,rows,z,rfl,SqL.of (g _ _ eHA),by omega,hnd,h60,hup,SqL.of (g _ _ eRA),z08.keep g _ _ tlA,fun hv G1 g1 th=>?_⟩
 rw[e2] at th
 obtain⟨ah,yh,rfl,eah,tyh⟩:=z4y th
 have c1:=g.trans g1
 have kn:z0K m (z0e (D4 log 1)) (rows.take (wrN log)) r=z0K m hs rows r:=by rw[hHS,<- ag.known]
 have hd7:z0W (z0e (D4 log 1)) (rows.take (wrN log)) z=z0W hs rows z:=by rw[hHS,y1g hs ag.1]
 have st7:z19 (z0e (D4 log 1)) (rows.take (wrN log)) r (z27 (z0W (z0e (D4 log 1)) (rows.take (wrN log)) z)) z=z19 hs rows r (z27 (z0W hs rows z)) z:=by rw[hd7,hHS,<- ag.state]
 refine⟨_,rfl,_,rfl,x7,z,f7,nm,r,_,_,m,rfl,OS.same sh7 c1,hz,gn,R2,by omega,X9,r0,by omega,it7,fun hno G2 g2=>?_,fun hop d hd hdt v G2 g2 tv2=>?_⟩
 ·rw[st7] at hno
  have c2:=c1.trans g2
  refine⟨_,rfl,_,rfl,_,rfl,lh,lr,hs,us,rows,r,rfl,c2 _ _ eHA,h60,by omega,hup,SqL.of (c2 _ _ eRA),z08.keep c2 _ _ tlA,r12,r0,fun lg gz G3 nlg g3 eg tg=>?_⟩
  refine⟨_,rfl,ah,_,0,_,rfl,rfl,SqT.of ((g2.trans g3) _ _ eah),rfl,_,rfl,lg,gz,hs,rows,r,_,z,rfl,SqL.of eg,tg,fun G4 g4=>⟨rfl,_,rfl,?_⟩⟩
  rw[decide_eq_false (fun e=>hno (V.str.inj e))]
  refine E9 ⟨_,rfl,_,rfl,B5 ?_⟩
  exact⟨_,_,_,_,_,_,_,c2.trans (g3.trans g4),rfl⟩
 ·rw[st7] at hop
  have c2:=c1.trans g2
  refine⟨_,rfl,_,rfl,_,rfl,lh,lr,hs,us,rows,r,rfl,c2 _ _ eHA,h60,by omega,hup,SqL.of (c2 _ _ eRA),z08.keep c2 _ _ tlA,r12,r0,fun lg gz G3 nlg g3 eg tg=>?_⟩
  refine⟨_,rfl,ah,_,0,_,rfl,rfl,SqT.of ((g2.trans g3) _ _ eah),rfl,_,rfl,lg,gz,hs,rows,r,_,z,rfl,SqL.of eg,tg,fun G4 g4=>⟨rfl,_,rfl,?_⟩⟩
  rw[decide_eq_true (congrArg V.str hop),kn] at *
  have c4:=c2.trans (g3.trans g4)
  have tv4:=A5.keep (g3.trans g4) _ _ tv2
  have eah4:=(g2.trans (g3.trans g4)) _ _ eah
  have th4:=A5.keep (g2.trans (g3.trans g4)) _ _ th
  obtain⟨af,fs2,rfl,eaf,_,tf⟩:=z0b tv4
  obtain⟨y1,q1,rfl,t1',tf⟩:=z0c tf
  obtain⟨y2,q2,rfl,t2',tf⟩:=z0c tf
  have:=z0F tf
  subst this
  rw[hHS] at hd hdt
  have hdr:=y1l (had:=D4 log 1) (fun n hn=>by have:=gl n hn;omega) it7 (by rw[hHS];exact hd)
  have m60:(m:Int)≤60:=it.le (by decide) fun x hx=>(h60 x hx).2
  have hb:=z9r m hs rows r
  have lim:∀{c:List (List Str)},z6W nm (z0K m hs rows r) c->∀zs∈c,zs.length≤100:=fun {c} h zs hz=>by
   obtain⟨j,hj,e⟩:=List.getElem_of_mem hz
   have hk:j<(z0K m hs rows r).length:=by rw[<- h.1];exact hj
   have:=(h.2 j _ zs (bD hk) (by rw[bD hj,e])).1.length_le
   omega
  have fb:=z9C R m hs r
  have fa:=y1K R (m:=m) (hs:=hs) (r:=r) hz (by omega) (by omega) hd
  obtain⟨n0,hn0,hn1⟩:=y07 hop
  have hdn:=hdt n0 hn0
  have lb:(z3K (z0K m hs rows r)).length=m:=hb
  have la:(z4c (z3K (z0K m hs rows r)) d z).length=m:=by rw[y0e (by omega) (by omega)];exact hb
  have nin:=y55 (z:=z) rise h60 it (rows:=rows) (r:=r) (by rw[hop];decide)
  have yin:InC (z4c (z3K (z0K m hs rows r)) d z) (z27 (z0W hs rows z)) z:=y50 (by omega) (by omega) (by omega)
  refine B5 ⟨_,rfl,_,_,_,_,rfl,.tup eaf,z6u,_,rfl,B5 ⟨_,rfl,af,_,rfl,.inr (SqT.of eaf),rfl,_,rfl,B5 ?_⟩⟩
  refine⟨_,rfl,af,_,0,_,rfl,rfl,SqT.of eaf,rfl,_,rfl,_,rfl,y1,ln,lk',_,nm,_,kz,rfl,t1',lim fb,SqL.of (c4 _ _ eNA),gn.nd,gn.hi,SqL.of (c4 _ _ eKA),z08.keep c4 _ _ tKA,by rw[z0P];omega,fun _ G5 g5=>?_,fun hn=>absurd fb hn⟩
  have c5:=c4.trans g5
  refine⟨_,rfl,B5 ⟨_,rfl,af,_,1,_,rfl,rfl,SqT.of (g5 _ _ eaf),rfl,_,rfl,_,rfl,y2,ln,lk',_,nm,_,kz,rfl,A5.keep g5 _ _ t2',lim fa,SqL.of (c5 _ _ eNA),gn.nd,gn.hi,SqL.of (c5 _ _ eKA),z08.keep c5 _ _ tKA,by rw[z0P];omega,fun _ G6 g6=>?_,fun hn=>absurd fa hn⟩⟩
  have k6:=g5.trans g6
  have c6:=c4.trans k6
  refine⟨_,rfl,B5 ?_⟩
  refine⟨_,rfl,af,_,0,_,rfl,rfl,SqT.of (k6 _ _ eaf),rfl,_,rfl,_,rfl,_,rfl,_,rfl,_,rfl,a,ns,1,rfl,c6.seq hSA,by decide,_,_,rfl,(by decide),fun fig1 q0 q1'=>?_⟩
  refine⟨y1,ln,lr,lh,r,fig1,nm,us,rows,hs,m,_,rfl,A5.keep k6 _ _ t1',fb,c6 _ _ eNA,gn,c6 _ _ eRA,z08.keep c6 _ _ tlA,by omega,R,c6 _ _ eHA,rise,h60,it,mle,r0,by omega,fun xF fF rF hF G7 g7 shF RF lF mF agF nF=>?_⟩
  have k7:=k6.trans g7
  have c7:=c4.trans k7
  refine⟨_,rfl,af,_,1,_,rfl,rfl,SqT.of (k7 _ _ eaf),rfl,_,rfl,_,rfl,_,rfl,_,rfl,_,rfl,a,ns,2,rfl,c7.seq hSA,by decide,_,_,rfl,(by decide),fun fig2 q2 q3'=>?_⟩
  refine⟨y2,ln,lr,lh,r,fig2,nm,us,rows,hs,m,_,rfl,A5.keep k7 _ _ t2',fa,c7 _ _ eNA,gn,c7 _ _ eRA,z08.keep c7 _ _ tlA,by omega,R,c7 _ _ eHA,rise,h60,it,mle,r0,by omega,fun xS fS rS hS' G8 g8 shS RS lS mS agS nS=>?_⟩
  have k8:=k7.trans g8
  have c8:=c4.trans k8
  have up60:∀n∈upI 1 m,1≤n/\n≤60:=fun n hn=>by have:=z0U.mp hn;omega
  refine⟨_,rfl,_,rfl,B5 ⟨_,rfl,_,rfl,B5 ?_⟩⟩
  refine⟨_,rfl,_,rfl,xF,z,fF,nm,r,rF,hF,rfl,OS.same shF g8,hz,gn,RF,fun v9 G9 g9 t9=>?_⟩
  rw[z4u (z18 _ _) up60 mF,y1z rise h60 it agF lb nF nin] at t9
  refine⟨_,rfl,v9,.ref ah,rfl,(z4v _ _ _ t9 (A5.keep (k8.trans g9) _ _ th4)).mono (cM (y45 _) (by decide)),fun GA gA=>⟨_,rfl,B5 ?_⟩⟩
  have kA:=k8.trans (g9.trans gA)
  refine⟨_,rfl,_,rfl,xS,z,fS,nm,r,rS,hS',rfl,OS.same shS (g9.trans gA),hz,gn,RS,fun vB GB gB tB=>?_⟩
  obtain⟨n',v',eh',lt'⟩:=y0D la nS yin
  rw[z4u (z18 _ _) up60 mS,eh'] at tB
  obtain⟨lb',yb,rfl,elb,tyb⟩:=z4y tB
  have eyb:yb=.int v':=z0Y tyb
  subst eyb
  have kB:=kA.trans gB
  refine⟨_,rfl,_,_,_,_,rfl,.tup elb,z6u,_,rfl,B5 ⟨_,rfl,lb',_,rfl,.inr (SqT.of elb),rfl,_,rfl,B5 ⟨_,rfl,lb',_,0,_,rfl,rfl,SqT.of elb,rfl,_,rfl,_,rfl,B5 ?_⟩⟩⟩
  refine⟨_,rfl,lb',_,0,_,rfl,rfl,SqT.of elb,rfl,_,rfl,ah,_,0,_,rfl,rfl,SqT.of (kB _ _ eah4),rfl,_,_,rfl,rfl,_,rfl,?_⟩
  rw[decide_eq_false (show ¬z27 (some (n',v'))≤z27 (z0W hs rows z) by show ¬n'≤_;omega)]
  refine B5 ⟨_,rfl,lb',_,1,_,rfl,rfl,SqT.of elb,rfl,_,rfl,_,rfl,B5 ?_⟩
  exact⟨_,_,_,_,_,_,_,c4.trans kB,rfl⟩
end
theorem y71{l:PySem.W.OpenLaw}{w:World}{K:PySem.W.Frag}{h:Heap}{mg:Str->Option Value}{fa:Addr}(X:K.In h)(G:h.Ns mainGlobals mg)(hfa:mg "law"=some (.ref fa))
  {f0 f1 f2 f3 f4 f5 f6 f7 f8 f9 f10 f11 f12 f13 f14 f15 f16 f17 f18 f19 f20 f21 f22 f23 f24 f25 f26 f27 f28 f29 f30 f31 f32 f33 f34 f35 f36 f37 f38 f39 f40 f41 f42 f43 f44 f45 f46 f47 f48 f49 f50 f51 f52 f53 f54 f55 f56 f57 f58 f59 f60 f61 f62 f63 f64 f65 f66 f67 f68 f69 A1 A0 A2 T45:Addr}{S5 S1 Q3 S3 P9 R8 w0C Z4 w0B Y0 U5:Tok}
  (cOffice:DfC K "Office" A1)
  (cShelf:DfC K "Shelf" A0)
  (cBook:DfC K "Book" A2)
  (nOffice_names:PySem.W.findIn K (.ref A1) "names"=some none)
  (nOffice_reach:PySem.W.findIn K (.ref A1) "reach"=some none)
  (nOffice_written:PySem.W.findIn K (.ref A1) "written"=some none)
  (nShelf_names:PySem.W.findIn K (.ref A0) "names"=some none)
  (nShelf_reach:PySem.W.findIn K (.ref A0) "reach"=some none)
  (nShelf_issues:PySem.W.findIn K (.ref A0) "issues"=some none)
  (nBook_office:PySem.W.findIn K (.ref A2) "office"=some none)
  (nBook_readers:PySem.W.findIn K (.ref A2) "readers"=some none)
  (nBook_done:PySem.W.findIn K (.ref A2) "done"=some none)
  (a0:DfT K "lacking_numbers" z2B .none f0)
  (a1:DfT K "reached_by" z5n .none f1)
  (a2:DfT K "teller_of" z6q .none f2)
  (a3:DfT K "lacking_with_tellers" z1B .none f3)
  (a4:DfT K "dark_numbers" z3N .none f4)
  (a5:DfT K "dark_numbers_behind" z1J .none f5)
  (a6:DfT K "refuse_bad_names" z2f .none f6)
  (a7:DfT K "refuse_bad_reach" z2e .none f7)
  (a8:DfT K "bulletin_names" z2Q .none f8)
  (a9:DfT K "refuse_unknown_name" z1H .none f9)
  (a10:DfT K "held_for" z85 .none f10)
  (a11:DfT K "names_told_of" z3b .none f11)
  (a12:DfT K "gaps_of" z9o .none f12)
  (a13:DfT K "set_again" z62 .none f13)
  (a14:DfT K "state_of" z7p .none f14)
  (a15:DfT K "state_and_held" z2R .none f15)
  (a16:DfT K "knowledge" z6f .none f16)
  (a17:DfT K "tail_for" z7Z .none f17)
  (a18:DfT K "refuse_bad_value" z2i .none f18)
  (a19:DfT K "refuse_bad_rows" z2D .none f19)
  (a20:DfT K "rows_in_order" z3d .none f20)
  (a21:DfT K "names_of_rows" z3n .none f21)
  (a22:DfM K A1 "__init__" "Office.__init__" z2A .none f22)
  (a23:DfM K A1 "refuse_writing" "Office.refuse_writing" z1r .none f23)
  (a24:DfM K A1 "write" "Office.write" z3G .none f24)
  (a25:DfM K A1 "latest" "Office.latest" z3m .none f25)
  (a26:DfM K A1 "issue" "Office.issue" z3O .none f26)
  (a27:DfT K "known_sets" z5h .none f27)
  (a28:DfT K "two_courses" z4a .none f28)
  (a29:DfM K A0 "__init__" "Shelf.__init__" z2U .none f29)
  (a30:DfM K A0 "put" "Shelf.put" z6l .none f30)
  (a31:DfM K A0 "had" "Shelf.had" z6n .none f31)
  (a32:DfM K A0 "latest" "Shelf.latest" z3D .none f32)
  (a33:DfM K A0 "rows_of" "Shelf.rows_of" z3a .none f33)
  (a34:DfM K A0 "tail_of" "Shelf.tail_of" z3i .none f34)
  (a35:DfT K "refuse_bad_readers" z1R .none f35)
  (a36:DfM K A2 "__init__" "Book.__init__" z3e .none f36)
  (a37:DfM K A2 "refuse_unknown_reader" "Book.refuse_unknown_reader" z10 .none f37)
  (a38:DfM K A2 "refuse_further_deed" "Book.refuse_further_deed" z1d .none f38)
  (a39:DfM K A2 "write" "Book.write" z5e .none f39)
  (a40:DfM K A2 "deliver" "Book.deliver" z3A .none f40)
  (a41:DfM K A2 "latest" "Book.latest" z4k .none f41)
  (a42:DfM K A2 "issue" "Book.issue" z5l .none f42)
  (a43:DfM K A2 "deeds" "Book.deeds" z5a .none f43)
  (a44:DfM K A2 "deed" "Book.deed" z65 .none f44)
  (a45:DfM K A2 "shelf" "Book.shelf" z4X (.ref T45) f45)
  (a46:DfT K "_law_at" z90 .none f46)
  (a47:DfT K "_law_pick" z69 .none f47)
  (a48:DfT K "_law_row" z8b .none f48)
  (a49:DfT K "_law_whole" z4V .none f49)
  (a50:DfT K "_law_same" z4C .none f50)
  (a51:DfT K "_law_named" z5d .none f51)
  (a52:DfT K "_law_doubled" z3Q .none f52)
  (a53:DfT K "_law_sets" z6r .none f53)
  (a54:DfT K "_law_value" z53 .none f54)
  (a55:DfT K "_law_valued" z4f .none f55)
  (a56:DfT K "_law_issue" z52 .none f56)
  (a57:DfT K "_law_teller" z4b .none f57)
  (a58:DfT K "_law_gaps" z64 .none f58)
  (a59:DfT K "_law_held" z6t .none f59)
  (a60:DfT K "_law_again" z4U .none f60)
  (a61:DfT K "_law_state" z4Y .none f61)
  (a62:DfT K "_law_table" z4W .none f62)
  (a63:DfT K "_law_known" z59 .none f63)
  (a64:DfT K "_law_course" z49 .none f64)
  (a65:DfT K "_law_deeds" z5q .none f65)
  (a66:DfT K "_law_had_at" z4o .none f66)
  (a67:DfT K "_law_play" z6d .none f67)
  (a68:DfT K "_law_told_anew" z2T .none f68)
  (a69:DfT K "law" Y3 .none f69)
  (d45:DfD K T45 #[Value.none])
  (zlen:PySem.W.nsIn K mainGlobals "len"=some none) (zrange:PySem.W.nsIn K mainGlobals "range"=some none) (ztuple:PySem.W.nsIn K mainGlobals "tuple"=some none) (zlist:PySem.W.nsIn K mainGlobals "list"=some none) (zmax:PySem.W.nsIn K mainGlobals "max"=some none) (zmin:PySem.W.nsIn K mainGlobals "min"=some none) (zsorted:PySem.W.nsIn K mainGlobals "sorted"=some none) (zisinstance:PySem.W.nsIn K mainGlobals "isinstance"=some none) (zbool:PySem.W.nsIn K mainGlobals "bool"=some none) (zint:PySem.W.nsIn K mainGlobals "int"=some none) (zstr:PySem.W.nsIn K mainGlobals "str"=some none) (zset:PySem.W.nsIn K mainGlobals "set"=some none) (zreversed:PySem.W.nsIn K mainGlobals "reversed"=some none) (zdict:PySem.W.nsIn K mainGlobals "dict"=some none) (zzip:PySem.W.nsIn K mainGlobals "zip"=some none) (zall:PySem.W.nsIn K mainGlobals "all"=some none) (vMOST_NAMES:PySem.W.nsIn K mainGlobals "MOST_NAMES"=some (some (.int 12 S5))) (vMOST_REACH:PySem.W.nsIn K mainGlobals "MOST_REACH"=some (some (.int 10 S1))) (vMOST_NUMBERS:PySem.W.nsIn K mainGlobals "MOST_NUMBERS"=some (some (.int 60 Q3))) (vMOST_VALUE:PySem.W.nsIn K mainGlobals "MOST_VALUE"=some (some (.int 1000000 S3))) (vMOST_READERS:PySem.W.nsIn K mainGlobals "MOST_READERS"=some (some (.int 10 P9))) (vMOST_DEEDS:PySem.W.nsIn K mainGlobals "MOST_DEEDS"=some (some (.int 400 R8))) (vSURE:PySem.W.nsIn K mainGlobals "SURE"=some (some (.str "sure" w0C))) (vSTALE:PySem.W.nsIn K mainGlobals "STALE"=some (some (.str "stale" Z4))) (vOPEN:PySem.W.nsIn K mainGlobals "OPEN"=some (some (.str "open" w0B))) (vWRITE:PySem.W.nsIn K mainGlobals "WRITE"=some (some (.str "write" Y0))) (vDELIVER:PySem.W.nsIn K mainGlobals "DELIVER"=some (some (.str "deliver" U5))) :
  ∃fd:FuncData,(∀(s:Shared) (v:Value),BindsTo s fd ⟨[v],[]⟩ [("_law_script",v)])/\∀base:Heap,K.In base->base.Ns mainGlobals mg->A7 l.prog w K mg base CX0 14 fa fd ["_law_script"] (y46 K):=by
 have M:Bl mg:=⟨cN X G zlen,cN X G zrange,cN X G ztuple,cN X G zlist,cN X G zmax,cN X G zmin,cN X G zsorted,cN X G zisinstance,cN X G zbool,cN X G zint,cN X G zstr,cN X G zset,cN X G zreversed,cN X G zdict,cN X G zzip,cN X G zall,⟨_,d9 X G vMOST_NAMES⟩,⟨_,d9 X G vMOST_REACH⟩,⟨_,d9 X G vMOST_NUMBERS⟩,⟨_,d9 X G vMOST_VALUE⟩,⟨_,d9 X G vMOST_READERS⟩,⟨_,d9 X G vMOST_DEEDS⟩,⟨_,d9 X G vSURE⟩,⟨_,d9 X G vSTALE⟩,⟨_,d9 X G vOPEN⟩,⟨_,d9 X G vWRITE⟩,⟨_,d9 X G vDELIVER⟩⟩
 have E1:J3 K mg A1:=⟨cOffice.cls,cOffice.nm X G,nOffice_names,nOffice_reach,nOffice_written⟩
 have C7:D0 K mg A0:=⟨cShelf.cls,cShelf.nm X G,nShelf_names,nShelf_reach,nShelf_issues⟩
 have D6:J8 K mg A2:=⟨cBook.cls,cBook.nm X G,nBook_office,nBook_readers,nBook_done⟩
 obtain⟨_,Flacking_numbers⟩:=z0B X G a0
 obtain⟨_,Freached_by⟩:=z0B X G a1
 obtain⟨_,Fteller_of⟩:=z0B X G a2
 obtain⟨_,Flacking_with_tellers⟩:=z0B X G a3
 obtain⟨_,Fdark_numbers⟩:=z0B X G a4
 obtain⟨_,Fdark_numbers_behind⟩:=z0B X G a5
 obtain⟨_,Frefuse_bad_names⟩:=z0B X G a6
 obtain⟨_,Frefuse_bad_reach⟩:=z0B X G a7
 obtain⟨_,Fbulletin_names⟩:=z0B X G a8
 obtain⟨_,Frefuse_unknown_name⟩:=z0B X G a9
 obtain⟨_,Fheld_for⟩:=z0B X G a10
 obtain⟨_,Fnames_told_of⟩:=z0B X G a11
 obtain⟨_,Fgaps_of⟩:=z0B X G a12
 obtain⟨_,Fset_again⟩:=z0B X G a13
 obtain⟨_,Fstate_of⟩:=z0B X G a14
 obtain⟨_,Fstate_and_held⟩:=z0B X G a15
 obtain⟨_,Fknowledge⟩:=z0B X G a16
 obtain⟨_,Ftail_for⟩:=z0B X G a17
 obtain⟨_,Frefuse_bad_value⟩:=z0B X G a18
 obtain⟨_,Frefuse_bad_rows⟩:=z0B X G a19
 obtain⟨_,Frows_in_order⟩:=z0B X G a20
 obtain⟨_,Fnames_of_rows⟩:=z0B X G a21
 obtain⟨_,FOffice___init__⟩:=y0J cOffice a22
 obtain⟨_,FOffice_refuse_writing⟩:=z1D a23
 obtain⟨_,FOffice_write⟩:=z1D a24
 obtain⟨_,FOffice_latest⟩:=z1D a25
 obtain⟨_,FOffice_issue⟩:=z1D a26
 obtain⟨_,Fknown_sets⟩:=z0B X G a27
 obtain⟨_,Ftwo_courses⟩:=z0B X G a28
 obtain⟨_,FShelf___init__⟩:=y0J cShelf a29
 obtain⟨_,FShelf_put⟩:=z1D a30
 obtain⟨_,FShelf_had⟩:=z1D a31
 obtain⟨_,FShelf_latest⟩:=z1D a32
 obtain⟨_,FShelf_rows_of⟩:=z1D a33
 obtain⟨_,FShelf_tail_of⟩:=z1D a34
 obtain⟨_,Frefuse_bad_readers⟩:=z0B X G a35
 obtain⟨_,FBook___init__⟩:=y0J cBook a36
 obtain⟨_,FBook_refuse_unknown_reader⟩:=z1D a37
 obtain⟨_,FBook_refuse_further_deed⟩:=z1D a38
 obtain⟨_,FBook_write⟩:=z1D a39
 obtain⟨_,FBook_deliver⟩:=z1D a40
 obtain⟨_,FBook_latest⟩:=z1D a41
 obtain⟨_,FBook_issue⟩:=z1D a42
 obtain⟨_,FBook_deeds⟩:=z1D a43
 obtain⟨_,FBook_deed⟩:=z1D a44
 obtain⟨_,FBook_shelf⟩:=y4t a45 d45
 have S7:=FBook_shelf.1.binds (ps:=["self","reader","deed"]) (ds:=[]) fun _ _ _ _ _ _ us hl=>X4 (p:=fun us=>∃k,bindArgs _ ⟨us,[]⟩=seqItems? _ >>= k/\k (some _)=pure (List.zip _ (us++[]))) hl fun _ _ _=>⟨_,rfl,rfl⟩
 have R3:=FBook_shelf.1.binds (ps:=["self","reader","deed"]) (ds:=[Value.none]) fun _ _ _ _ _ _ us hl=>X7 (p:=fun us=>∃k,bindArgs _ ⟨us,[]⟩=seqItems? _ >>= k/\k (some _)=pure (List.zip _ (us++[Value.none]))) (Nat.succ.inj (hl)) fun _ _=>⟨_,rfl,rfl⟩
 obtain⟨_,F_law_at⟩:=z0B X G a46
 obtain⟨_,F_law_pick⟩:=z0B X G a47
 obtain⟨_,F_law_row⟩:=z0B X G a48
 obtain⟨_,F_law_whole⟩:=z0B X G a49
 obtain⟨_,F_law_same⟩:=z0B X G a50
 obtain⟨_,F_law_named⟩:=z0B X G a51
 obtain⟨_,F_law_doubled⟩:=z0B X G a52
 obtain⟨_,F_law_sets⟩:=z0B X G a53
 obtain⟨_,F_law_value⟩:=z0B X G a54
 obtain⟨_,F_law_valued⟩:=z0B X G a55
 obtain⟨_,F_law_issue⟩:=z0B X G a56
 obtain⟨_,F_law_teller⟩:=z0B X G a57
 obtain⟨_,F_law_gaps⟩:=z0B X G a58
 obtain⟨_,F_law_held⟩:=z0B X G a59
 obtain⟨_,F_law_again⟩:=z0B X G a60
 obtain⟨_,F_law_state⟩:=z0B X G a61
 obtain⟨_,F_law_table⟩:=z0B X G a62
 obtain⟨_,F_law_known⟩:=z0B X G a63
 obtain⟨_,F_law_course⟩:=z0B X G a64
 obtain⟨_,F_law_deeds⟩:=z0B X G a65
 obtain⟨_,F_law_had_at⟩:=z0B X G a66
 obtain⟨_,F_law_play⟩:=z0B X G a67
 obtain⟨_,F_law_told_anew⟩:=z0B X G a68
 obtain⟨_,Flaw⟩:=z0B X G a69
 have e:=hfa.symm.trans Flaw.2
 cases e
 refine⟨_,y35 Flaw.1,fun base _ _=>?_⟩
 have V2:=y0S (P:=l.prog) (w:=w) (base:=base) M F_law_same.1 (b2 F_law_same.1) F_law_same.2
 have cal:=@calF l.prog w K mg base
 have mcl:=@mclF l.prog w K mg base
 have mkr:=@mkrF l.prog w K mg base
 have D2:=cal F_law_at (w0Q M F_law_at.1) (b2 F_law_at.1)
 have C0:=cal F_law_pick (y5F F_law_pick.1) (b2 F_law_pick.1)
 have I0:=cal F_law_row (y6H M F_law_row.1) (b3 F_law_row.1)
 have D5:=cal F_law_teller (y1L M F_law_teller.1) (b3 F_law_teller.1)
 have J9:=cal F_law_whole (y4A M F_law_whole.1) (b1 F_law_whole.1)
 have L7:=cal F_law_named (y4F M F_law_named.1) (b2 F_law_named.1)
 have K3:=cal F_law_doubled (y1W M F_law_doubled.1) (b1 F_law_doubled.1)
 have M4:=cal F_law_value (y4I F_law_value.1) (b2 F_law_value.1)
 have M7:=cal F_law_issue (y4l M F_law_issue.1) (b3 F_law_issue.1)
 have E6:=cal Frefuse_bad_names (y0i M Frefuse_bad_names.1) (b1 Frefuse_bad_names.1)
 have E5:=cal Frefuse_bad_reach (y0K M Frefuse_bad_reach.1) (b1 Frefuse_bad_reach.1)
 have K9:=mcl C7.cl FShelf_put (y6M (A0:=A0) M C7 FShelf_put.1) (b2 FShelf_put.1)
 have B0:=mcl C7.cl FShelf_had (y4z (A0:=A0) M C7 FShelf_had.1) (b1 FShelf_had.1)
 have F2:=cal F_law_held (y4W M F_law_held.1) (b3 F_law_held.1)
 have M0:=cal F_law_again (y4e M F_law_again.1) (b3 F_law_again.1)
 have M9:=cal Freached_by (y1x M Freached_by.1) (b2 Freached_by.1)
 have B4:=cal Frefuse_unknown_name (y76 M Frefuse_unknown_name.1) (b2 Frefuse_unknown_name.1)
 have E7:=cal Frefuse_bad_value (y3I M Frefuse_bad_value.1) (b1 Frefuse_bad_value.1)
 have J5:=cal Frows_in_order (y1Q M Frows_in_order.1) (b2 Frows_in_order.1)
 have C4:=cal Fnames_of_rows (y4f M Fnames_of_rows.1) (b1 Fnames_of_rows.1)
 have J2:=mcl E1.cl FOffice_latest (y0I (A1:=A1) M E1 FOffice_latest.1) (b1 FOffice_latest.1)
 have B6:=mcl E1.cl FOffice_issue (y1X (A1:=A1) M E1 FOffice_issue.1) (b2 FOffice_issue.1)
 have D8:=cal Frefuse_bad_readers (z8W M Frefuse_bad_readers.1) (b1 Frefuse_bad_readers.1)
 have A6:=mcl D6.cl FBook_refuse_unknown_reader (z9A (A2:=A2) (A1:=A1) M D6 FBook_refuse_unknown_reader.1) (b2 FBook_refuse_unknown_reader.1)
 have A8:=mcl D6.cl FBook_refuse_further_deed (y1T (A2:=A2) (A1:=A1) M D6 FBook_refuse_further_deed.1) (b1 FBook_refuse_further_deed.1)
 have X0:=mcl D6.cl FBook_deeds (y1N (A2:=A2) (A1:=A1) M D6 FBook_deeds.1) (b1 FBook_deeds.1)
 have F1:=cal Flacking_numbers (y6l M Flacking_numbers.1) (b1 Flacking_numbers.1)
 have N6:=cal Fteller_of (y3M M Fteller_of.1) (b3 Fteller_of.1)
 have J0:=mcl C7.cl FShelf_tail_of (y2d (A0:=A0) M C7 FShelf_tail_of.1) (b2 FShelf_tail_of.1)
 have C3:=mcl C7.cl FShelf_rows_of (y2I (A0:=A0) M C7 FShelf_rows_of.1) (b2 FShelf_rows_of.1)
 have Y2:=mcl D6.cl FBook_deed (y3i (A2:=A2) (A1:=A1) M D6 FBook_deed.1) (b2 FBook_deed.1)
 have F7:=cal F_law_course (y1E M F_law_course.1) (b3 F_law_course.1)
 have L3:=cal F_law_had_at (y2h M F_law_had_at.1) (b3 F_law_had_at.1)
 have N7:=cal F_law_sets (y6o M F_law_sets.1 I0.up K3.up) (b3 F_law_sets.1)
 have L0:=cal F_law_valued (y2t M F_law_valued.1 I0.up M4.up) (b2 F_law_valued.1)
 have B9:=cal Fbulletin_names (y0x M Fbulletin_names.1 E6.up E5.up) (b2 Fbulletin_names.1)
 have W0:=mcl C7.cl FShelf_latest (y3W (A0:=A0) M C7 FShelf_latest.1 B0.up) (b1 FShelf_latest.1)
 have F3:=cal F_law_gaps (y5N M F_law_gaps.1 D5.up) (b3 F_law_gaps.1)
 have E4:=cal F_law_state (y2n M F_law_state.1 M0.up) (b3 F_law_state.1)
 have O4:=cal Ftail_for (y6h M Ftail_for.1 M9.up) (b2 Ftail_for.1)
 have F4:=cal Frefuse_bad_rows (y1M M Frefuse_bad_rows.1 B4.up E7.up) (b2 Frefuse_bad_rows.1)
 have C1:=mcl D6.cl FBook_deliver (y05 (A2:=A2) (A1:=A1) M D6 FBook_deliver.1 B6.up A6.up A8.up) (b3 FBook_deliver.1)
 have B2:=cal Flacking_with_tellers (y6w M Flacking_with_tellers.1 F1.up N6.up) (b2 Flacking_with_tellers.1)
 have J4:=cal Fnames_told_of (y5R (A0:=A0) M C7 Fnames_told_of.1 J0.up) (b3 Fnames_told_of.1)
 have B8:=cal Fheld_for (y1R (A0:=A0) M C7 Fheld_for.1 B4.up B0.up C3.up) (b2 Fheld_for.1)
 have W5:=mcl D6.cl FBook_latest (y0m (A2:=A2) (A1:=A1) M D6 FBook_latest.1 J2.up) (b1 FBook_latest.1)
 have M3:=mcl D6.cl FBook_issue (y29 (A2:=A2) (A1:=A1) M D6 FBook_issue.1 B6.up) (b2 FBook_issue.1)
 have M5:=cal F_law_known (y2E M F_law_known.1 D5.up) (b3 F_law_known.1)
 have M6:=cal F_law_deeds (y2u M F_law_deeds.1 C0.up) (b4 F_law_deeds.1)
 have R1:=mkr C7.mgC FShelf___init__ (y2Z (A0:=A0) M C7 FShelf___init__.1 B9.up) (b3 FShelf___init__.1)
 have M8:=cal F_law_table (y4E M F_law_table.1 F3.up F2.up E4.up) (b4 F_law_table.1)
 have Q7:=mkr E1.mgC FOffice___init__ (y3E (A1:=A1) M E1 FOffice___init__.1 B9.up) (b3 FOffice___init__.1)
 have B1:=mcl E1.cl FOffice_refuse_writing (y1y (A1:=A1) M E1 FOffice_refuse_writing.1 F4.up) (b2 FOffice_refuse_writing.1)
 have C9:=cal Fdark_numbers (y5G M Fdark_numbers.1 B2.up) (b2 Fdark_numbers.1)
 have K6:=cal Fgaps_of (y2q (A0:=A0) M C7 Fgaps_of.1 B0.up B2.up J4.up) (b1 Fgaps_of.1)
 have K1:=mcl E1.cl FOffice_write (y2a (A1:=A1) M E1 FOffice_write.1 B1.up C4.up J5.up O4.up) (b2 FOffice_write.1)
 have Q4:=mkr D6.mgC FBook___init__ (y2l (A2:=A2) (A1:=A1) M D6 FBook___init__.1 Q7.up D8.up) (b4 FBook___init__.1)
 have W7:C8 l.prog w K mg base 6 A2 "shelf" z2b (z4l (BkD K A2 A1) (ShD K A0)):=.mk' D6.cl (z8F (A2:=A2) (A1:=A1) (A0:=A0) M D6 E1 FBook_shelf.1 B6.up A6.up R1.up K9.up) S7 FBook_shelf.2
 have C6:L5 l.prog w K mg base 6 A2 "shelf" z2b (z4l (BkD K A2 A1) (ShD K A0)) [V.non]:=.mk' (.cons rfl .nil) D6.cl (z8F (A2:=A2) (A1:=A1) (A0:=A0) M D6 E1 FBook_shelf.1 B6.up A6.up R1.up K9.up) R3 FBook_shelf.2
 have D1:=cal Fdark_numbers_behind (y2B M Fdark_numbers_behind.1 C9.up) (b3 Fdark_numbers_behind.1)
 have N2:=cal Fset_again (y0H (A0:=A0) M C7 Fset_again.1 B8.up K6.up) (b2 Fset_again.1)
 have N0:=cal Fknown_sets (y56 (A0:=A0) M Fknown_sets.1 B0.up C3.up C4.up K6.up) (b1 Fknown_sets.1)
 have C5:=mcl D6.cl FBook_write (y24 (A2:=A2) (A1:=A1) M D6 FBook_write.1 B1.up K1.up A8.up) (b2 FBook_write.1)
 have G0:=cal Fstate_of (y1O (A0:=A0) M C7 Fstate_of.1 B8.up N2.up B0.up D1.up) (b2 Fstate_of.1)
 have F6:=cal Fstate_and_held (z9D (A0:=A0) M Fstate_and_held.1 B8.up G0.up) (b2 Fstate_and_held.1)
 have L4:=cal Ftwo_courses (z8j (A0:=A0) M C7 Ftwo_courses.1 G0.up N0.up B0.up C9.up) (b2 Ftwo_courses.1)
 have N5:=cal F_law_play (y4g (A2:=A2) (Bk:=(BkD K A2 A1)) M F_law_play.1 V3 C5.up C1.up) (b3 F_law_play.1)
 have N3:=cal Fknowledge (z9M (A0:=A0) M C7 Fknowledge.1 F6.up) (b1 Fknowledge.1)
 have E2:=cal F_law_told_anew (y5A (A2:=A2) (A0:=A0) (Sh:=(ShD K A0)) (Bk:=(BkD K A2 A1)) M F_law_told_anew.1 V3 F8 (V2 5) M7.up M8.up N3.up Q4.up C5.up C1.up M3.up C6.up) (b6 F_law_told_anew.1)
 exact y6E M Flaw.1 V3 F8 D2.up C0.up L7.up N7.up L0.up J9.up (V2 5) F2.up F3.up E4.up M5.up F7.up M6.up L3.up N5.up E2.up L4.up B8.up Q4.up C6.up
theorem walk{l:PySem.W.OpenLaw}{q:Program}{loose:List Str}{XP:(Str->Option Value)->Heap->Prop}{YP:World->Heap->Prop}{d:DefRec}{K:Params->PySem.W.Frag}(hn:l.most=some 63)(hdf:d.params.defaults=[])
  (hY:∀(w:World) (h:Heap),YP w h->(K w.params).In h)
  (F:∀(w:World) (mg:Str->Option Value) (fa:Addr) (h:Heap),(K w.params).In h->h.Ns mainGlobals mg->mg d.name=some (.ref fa)->
   ∃fd:FuncData,(∀(s:Shared) (u:Value),BindsTo s fd ⟨[u],[]⟩ [("_law_script",u)])/\∀base:Heap,(K w.params).In base->base.Ns mainGlobals mg->A7 l.prog w (K w.params) mg base CX0 14 fa fd ["_law_script"] (y46 (K w.params))) :
  PySem.W.WalkO q loose XP YP l.row.toRowW d [] (fun f vs=>PySem.call f vs):=
 L2.y5W (n:=63) (k:=14) (x:="_law_script") (CX:=fun _=>CX0) (sp:=fun w=>y46 (K w.params)) hn (by decide) hdf ⟨rfl,by decide,by decide⟩ hY F (fun _ _ a ns hl _ hS=>⟨a,ns,rfl,hS,hl,fun _=>rfl⟩) fun _ _ _ _ _ z=>z
theorem w0d{q:Program}{loose:List Str}{XP:(Str->Option Value)->Heap->Prop}{r:PySem.W.RowW}{d:DefRec}{kwd:List (Str×Expr)}{run:Value->List Value->Sem Value}{K:Params->PySem.W.Frag}{ks:List Addr}{n t:Nat}(e:∀P,ks=(K P).map (·.1))
  (W:PySem.W.WalkO q loose XP (fun w h=>(K w.params).In h) r d kwd run):PySem.W.WalkX q loose XP (PySem.W.X.obsZ ks) (PySem.W.X.valZ K n t) r d kwd run:=
 fun w s₀ s₁ mg mb G y a o pm cd doc dV kV h1 h2 h3 h4 h5 h6 args vals as L g1 g2 g3 g4 g5=>W w s₀ s₁ mg mb G (PySem.W.InK.keeps w s₀.heap s₁.heap (PySem.W.X.z_facts e y).2.1 L.keeps) a o pm cd doc dV kV h1 h2 h3 h4 h5 h6 args vals as g1 g2 g3 g4 g5
end My
namespace PySem.W.Fast
def tw10011854977477284584:=()
def tw10042628452536094155:=()
def tw10052471286853098589:=()
def tw10110369220796009992:=()
def tw10176470759223919487:=()
def tw10183093469328678813:=()
def tw10208370388871930862:=()
def tw10257024497848165368:=()
def tw1029225331972511903:=()
def tw10306063653804768306:=()
def tw10350429425075763026:=()
def tw10362960935258596641:=()
def tw10383873463684673913:=()
def tw10448480736971516563:=()
def tw10455355481320404486:=()
def tw1045950497310263009:=()
def tw10476206799344990078:=()
def tw10532637635999099201:=()
def tw10553011909346502008:=()
def tw10586748219588699789:=()
def tw10587426783330984781:=()
def tw10653894954071751611:=()
def tw10734045133013043811:=()
def tw10744704535360630453:=()
def tw10744738039260100918:=()
def tw10782610587220243277:=()
def tw10856032265033921517:=()
def tw10894795151840915854:=()
def tw10908276518392044564:=()
def tw10943011774238039682:=()
def tw11049172449239882512:=()
def tw11084290762993478085:=()
def tw11095874991722382844:=()
def tw11111788288946918057:=()
def tw11153806102025327209:=()
def tw11180824303056627150:=()
def tw11184997618986865766:=()
def tw11199414996463107281:=()
def tw11244442935985431657:=()
def tw11284207225231551609:=()
def tw11379723969857859937:=()
def tw11399919065223213343:=()
def tw11404152422869885895:=()
def tw114290678227820309:=()
def tw11505247834033421698:=()
def tw11550581921529558307:=()
def tw11576404329986161370:=()
def tw11583644429788430649:=()
def tw1164393037707464546:=()
def tw11698343423417375981:=()
def tw11708042139350372381:=()
def tw11796544509485058842:=()
def tw11922293789619140233:=()
def tw11955153084697718602:=()
def tw11966793326775100906:=()
def tw11967969080392578179:=()
def tw11987943690234950218:=()
def tw12008106292222561892:=()
def tw12027452118241167365:=()
def tw12041305597955141913:=()
def tw12128518338606767458:=()
def tw12159010005869461782:=()
def tw12164827519871729532:=()
def tw12175767360730799856:=()
def tw12179010134106175100:=()
def tw12214117528329726899:=()
def tw12289015881997206205:=()
def tw12306556964708315704:=()
def tw12378149548189251199:=()
def tw12382223245681217387:=()
def tw12388568487033397720:=()
def tw12438329158475882699:=()
def tw12459601515578961343:=()
def tw12477492889987016812:=()
def tw12510706454320446618:=()
def tw12517567725229302704:=()
def tw12550132368201469014:=()
def tw12585314881595287946:=()
def tw12624697853099460421:=()
def tw12679671083604241273:=()
def tw12868181028795540986:=()
def tw12868356508177108672:=()
def tw12934230048752034236:=()
def tw12934933542523882710:=()
def tw12976415415495351424:=()
def tw129783922346030814:=()
def tw12980489769941220499:=()
def tw13013051897051462411:=()
def tw13018536155963113052:=()
def tw13026238901803865020:=()
def tw1302944459119510612:=()
def tw13102009482905893156:=()
def tw13143855307945683035:=()
def tw13189010774114282608:=()
def tw13198141282198423388:=()
def tw13213826777276865981:=()
def tw13276153136588157623:=()
def tw13286359227524109030:=()
def tw13300722430343210414:=()
def tw13347549046684721678:=()
def tw1336295532527555052:=()
def tw13429143350900836305:=()
def tw13492672539976796139:=()
def tw13554204545447544066:=()
def tw13633176963395792416:=()
def tw13809788971083736314:=()
def tw13886108933542553281:=()
def tw13968149729804208685:=()
def tw14001129288142268572:=()
def tw14010399873568077133:=()
def tw14056650838429564550:=()
def tw1406243135008330450:=()
def tw14094246486011727338:=()
def tw14142819410769888562:=()
def tw14153558974127263280:=()
def tw14158693112980809246:=()
def tw14172999966552583136:=()
def tw14185138631360067984:=()
def tw14322157002329844426:=()
def tw14393905252059648815:=()
def tw14469038244267611190:=()
def tw14522939511634570504:=()
def tw14533114003136979947:=()
def tw14572845975822393842:=()
def tw14619537631919406782:=()
def tw14646123143938934738:=()
def tw14679945354681945868:=()
def tw14682474166013867987:=()
def tw14774699892784714234:=()
def tw14799453560619055442:=()
def tw14804058526450093468:=()
def tw14897931247320305035:=()
def tw14902906291234508458:=()
def tw14969515923257016973:=()
def tw15004675217716570413:=()
def tw15006062148209631947:=()
def tw15056725154087457891:=()
def tw15092772530845475082:=()
def tw15228744926102708794:=()
def tw15230849149040179408:=()
def tw15292948767785077010:=()
def tw1529421805022484310:=()
def tw15331930840165104046:=()
def tw15379684875065042216:=()
def tw15428245571458085593:=()
def tw15433149255699571067:=()
def tw15445133959274052695:=()
def tw15532398998620097384:=()
def tw15539556181675568313:=()
def tw15560672708878461415:=()
def tw1562306601407533107:=()
def tw15629014892643501094:=()
def tw15647209432434613573:=()
def tw15696487441838132299:=()
def tw15772139259251833708:=()
def tw15802867211918994499:=()
def tw15818238041750845788:=()
def tw15872104982957761459:=()
def tw15898929946225698593:=()
def tw15931002059051244197:=()
def tw15969788889577206804:=()
def tw15974062541759253771:=()
def tw15988201350171672118:=()
def tw16026874401436325373:=()
def tw16050133120928715938:=()
def tw16058426240740858383:=()
def tw16070944870538344616:=()
def tw16107879492622447697:=()
def tw16113669976760888931:=()
def tw16171598761410014934:=()
def tw16210013678627048023:=()
def tw16254248941466068063:=()
def tw16363486166793905082:=()
def tw16382980070748454851:=()
def tw16389577882056039215:=()
def tw16420730852798357713:=()
def tw16421971016219819338:=()
def tw16507515153144903220:=()
def tw1653471154389269631:=()
def tw16543940082657464828:=()
def tw16622652467090828463:=()
def tw16622979101015204653:=()
def tw1664175075163891674:=()
def tw16698069929668541260:=()
def tw16701127821226231481:=()
def tw16709977422832983324:=()
def tw16726112458440673351:=()
def tw16750657550743571979:=()
def tw16827493515968285769:=()
def tw16853642385307743754:=()
def tw1688717817696145883:=()
def tw16934441232184147781:=()
def tw17016497530663953461:=()
def tw17037529468953724220:=()
def tw17144187171342150876:=()
def tw17146439543521539552:=()
def tw17283299655269536860:=()
def tw17296114626611276079:=()
def tw17373259237595780453:=()
def tw17527598324802055087:=()
def tw17615061108504301662:=()
def tw17703395536229704770:=()
def tw17735685142038186028:=()
def tw17748893925906551758:=()
def tw17804116001311292594:=()
def tw17826351485930630877:=()
def tw1783610860439088810:=()
def tw17896752804917840248:=()
def tw17900065684882615122:=()
def tw17908598426517913312:=()
def tw17933090899346620773:=()
def tw1793807977095820858:=()
def tw17948172938520155793:=()
def tw1807392207974630827:=()
def tw18096017988723796145:=()
def tw18127054841021928528:=()
def tw18142768183666288849:=()
def tw18144406639926041336:=()
def tw18170471408161442447:=()
def tw18173984507685563949:=()
def tw18182694647382936087:=()
def tw18233156707040588624:=()
def tw18236105698806949561:=()
def tw18243729639075830804:=()
def tw18259967899701400738:=()
def tw1826709225272298020:=()
def tw1829647882772847178:=()
def tw18298272686930001153:=()
def tw18313299893763086260:=()
def tw18405316824348668914:=()
def tw1850645179893442850:=()
def tw1979052045073372609:=()
def tw2010646800800922083:=()
def tw2111058478653006644:=()
def tw221981072702949085:=()
def tw2273877298758045796:=()
def tw2338932771808879268:=()
def tw239808892041173681:=()
def tw2467274754799277150:=()
def tw2470235356786637796:=()
def tw2478723658727025028:=()
def tw2498191987555043402:=()
def tw2505991897932878579:=()
def tw2675397051390042212:=()
def tw2720060533095733432:=()
def tw276003819898716184:=()
def tw2786731472135563934:=()
def tw2793841635732190447:=()
def tw2793975299012650734:=()
def tw2804014994705797248:=()
def tw2908813590450021316:=()
def tw2921468882295334742:=()
def tw294878463043274881:=()
def tw2949205508602542582:=()
def tw2967885815668292587:=()
def tw3015331724572835017:=()
def tw3057543893504943436:=()
def tw3083953687657311716:=()
def tw3102129291824619018:=()
def tw3130211159186357200:=()
def tw3178633958564580229:=()
def tw3212597244958761681:=()
def tw3228221553255865060:=()
def tw3233849091712426357:=()
def tw3238737472815836412:=()
def tw326091866138716100:=()
def tw3304150266632463777:=()
def tw3363496149479684905:=()
def tw3405686288976217581:=()
def tw346480408423767738:=()
def tw3481733354672252579:=()
def tw3487349786553892489:=()
def tw3497121609175318637:=()
def tw3505182654135000104:=()
def tw3575823255684479536:=()
def tw3603193105626377298:=()
def tw3624621260223972343:=()
def tw3641810273667797932:=()
def tw3655934473265719018:=()
def tw3658626726107740103:=()
def tw3710645437858209216:=()
def tw3717606885631664524:=()
def tw3751625265200741399:=()
def tw3793723043266411451:=()
def tw3864927314254674409:=()
def tw387557648404088479:=()
def tw3900684654649527552:=()
def tw3969835503833621432:=()
def tw3970669593329167488:=()
def tw3979558898912903423:=()
def tw40249006222473263:=()
def tw4074104275900845320:=()
def tw4113365412669856335:=()
def tw4196225071969721259:=()
def tw4197750051078046665:=()
def tw4252028396806019557:=()
def tw4256656749611181481:=()
def tw4286885712615926556:=()
def tw4341975209297478527:=()
def tw4375406978303372645:=()
def tw4462049766458270434:=()
def tw4538467738402060073:=()
def tw4584216507772695248:=()
def tw4632313273187502925:=()
def tw4638826152338746186:=()
def tw4652912432297380926:=()
def tw4654088581913631457:=()
def tw4709757058641011343:=()
def tw4715019491346721984:=()
def tw4728664776699958127:=()
def tw4773928899205359603:=()
def tw4867156347586186805:=()
def tw490892734170194530:=()
def tw4943936778961809500:=()
def tw4979815426497989095:=()
def tw5005786150234200329:=()
def tw502568464288527185:=()
def tw5030576569740920890:=()
def tw5172574932505612276:=()
def tw5202850614358375952:=()
def tw5284191679983414389:=()
def tw5390049081804708923:=()
def tw539728236842746366:=()
def tw5450483838282197868:=()
def tw5461769344780711469:=()
def tw5481368915659530988:=()
def tw5499359061796033056:=()
def tw5510590362192489919:=()
def tw5605960721301320332:=()
def tw5606719162826065484:=()
def tw5608507774377902398:=()
def tw5641683212660432436:=()
def tw5689397217679901766:=()
def tw5753893753190829308:=()
def tw5767328364776402719:=()
def tw5814386041148546065:=()
def tw5889728315183042834:=()
def tw5974199210813401085:=()
def tw6007330109668989830:=()
def tw6055285151710974384:=()
def tw6072280171771317278:=()
def tw6106565662792195076:=()
def tw6110141775220779931:=()
def tw6158620920274162174:=()
def tw6224391827573905925:=()
def tw6236585770754225136:=()
def tw6277640594319339543:=()
def tw6320070840799535738:=()
def tw6346265615217609868:=()
def tw6370167539323214356:=()
def tw6419411655152273886:=()
def tw6447845676168661338:=()
def tw6462821970620947198:=()
def tw6528750203459349296:=()
def tw6626122150339184483:=()
def tw6629541508726697489:=()
def tw6662686234411042671:=()
def tw6725662138579265179:=()
def tw6728339116422951854:=()
def tw679017085991389947:=()
def tw6839116442501206828:=()
def tw6882149122703584872:=()
def tw6984038822373365787:=()
def tw6988404793720196138:=()
def tw7002589661799230924:=()
def tw7007975860844727021:=()
def tw7116664921740556375:=()
def tw7149763757831070193:=()
def tw715447088579220131:=()
def tw7160249560985877239:=()
def tw7185862701206066328:=()
def tw7199549568909843637:=()
def tw7339654310103827722:=()
def tw7342648687377941015:=()
def tw7354511973775447940:=()
def tw7452337539007430608:=()
def tw754695352194849966:=()
def tw758592858606483884:=()
def tw7627172486311605072:=()
def tw7644275388819104928:=()
def tw7705903106716058583:=()
def tw7726352433968113024:=()
def tw7730057099103806070:=()
def tw7825427577656228039:=()
def tw7845827286145134194:=()
def tw7879600362623882581:=()
def tw7886770704024571145:=()
def tw7925726711331806217:=()
def tw7932502355258061019:=()
def tw7937599426647202810:=()
def tw8006965843772602360:=()
def tw8029418253114512316:=()
def tw8116411845878059601:=()
def tw8202533642985802022:=()
def tw8212280707630841518:=()
def tw8219809439297812944:=()
def tw8243869213484750678:=()
def tw8269737197122949621:=()
def tw8301394398704928596:=()
def tw8352281547890864538:=()
def tw8353912410474070822:=()
def tw8395804747290777868:=()
def tw8429126560199563613:=()
def tw8465351911237423972:=()
def tw8495487219475134848:=()
def tw8505132483175179504:=()
def tw8518428147449083952:=()
def tw8523371484964316005:=()
def tw8576329614704621380:=()
def tw862435641326124787:=()
def tw8632926109294378306:=()
def tw8651400359232121778:=()
def tw86898372492413991:=()
def tw8699353595228618080:=()
def tw8775945814658118132:=()
def tw8825586528883240028:=()
def tw8858911734632084888:=()
def tw8865105563543079417:=()
def tw8865649726547728968:=()
def tw8899862275746649356:=()
def tw9003585202376172104:=()
def tw9136274672559878619:=()
def tw9155088089569906870:=()
def tw9298432600119223638:=()
def tw9302840736746041428:=()
def tw9349504584113403834:=()
def tw9382112996374368414:=()
def tw9432671287508742804:=()
def tw9433160089553732807:=()
def tw9443236585265489158:=()
def tw9525038778691494704:=()
def tw9533656429396159326:=()
def tw9677777707329716091:=()
def tw970046247184321780:=()
def tw9723129441766541347:=()
def tw9754269260759302561:=()
def tw9758246196137763279:=()
def tw9897531517623501414:=()
def tw9982640681445962234:=()
end PySem.W.Fast
open PySem PySem.W PyProof.Rows
set_option maxRecDepth 100000 in
set_option maxHeartbeats 0 in
theorem PySem.Challenge.cw_backissues_k33_whole_two_bulletins_holds : PySem.Challenge.rw_backissues_k33_whole_two_bulletins.Holds := by
 w_on; o_law; z_head; (case hw => w_witness2)
 k_fill
 refine My.w0d (fun _ => by kernel_rfl) ?_
 refine My.walk (l := PySem.Challenge.rw_backissues_k33_whole_two_bulletins) rfl rfl (fun w h Y => Y) ?F
 case F =>
  intro w mg fa h KX G hmg
  refine' My.y71 KX G hmg ?cOffice ?cShelf ?cBook ?nOffice_names ?nOffice_reach ?nOffice_written ?nShelf_names ?nShelf_reach ?nShelf_issues ?nBook_office ?nBook_readers ?nBook_done ?a0 ?a1 ?a2 ?a3 ?a4 ?a5 ?a6 ?a7 ?a8 ?a9 ?a10 ?a11 ?a12 ?a13 ?a14 ?a15 ?a16 ?a17 ?a18 ?a19 ?a20 ?a21 ?a22 ?a23 ?a24 ?a25 ?a26 ?a27 ?a28 ?a29 ?a30 ?a31 ?a32 ?a33 ?a34 ?a35 ?a36 ?a37 ?a38 ?a39 ?a40 ?a41 ?a42 ?a43 ?a44 ?a45 ?a46 ?a47 ?a48 ?a49 ?a50 ?a51 ?a52 ?a53 ?a54 ?a55 ?a56 ?a57 ?a58 ?a59 ?a60 ?a61 ?a62 ?a63 ?a64 ?a65 ?a66 ?a67 ?a68 ?a69 ?d45 ?zlen ?zrange ?ztuple ?zlist ?zmax ?zmin ?zsorted ?zisinstance ?zbool ?zint ?zstr ?zset ?zreversed ?zdict ?zzip ?zall ?vMOST_NAMES ?vMOST_REACH ?vMOST_NUMBERS ?vMOST_VALUE ?vMOST_READERS ?vMOST_DEEDS ?vSURE ?vSTALE ?vOPEN ?vWRITE ?vDELIVER
  case' cOffice | cShelf | cBook => exact ⟨by k_is, by k_is, by k_is, by k_is, by k_is, by k_is, by k_is⟩
  case' nOffice_names | nOffice_reach | nOffice_written | nShelf_names | nShelf_reach | nShelf_issues | nBook_office | nBook_readers | nBook_done => k_is
  case' a0 | a1 | a2 | a3 | a4 | a5 | a6 | a7 | a8 | a9 | a10 | a11 | a12 | a13 | a14 | a15 | a16 | a17 | a18 | a19 | a20 | a21 | a27 | a28 | a35 | a46 | a47 | a48 | a49 | a50 | a51 | a52 | a53 | a54 | a55 | a56 | a57 | a58 | a59 | a60 | a61 | a62 | a63 | a64 | a65 | a66 | a67 | a68 | a69 => exact ⟨by k_is, _, _, _, _, _, _, _, _, _, by k_is, by k_is, by k_is⟩
  case' a22 | a23 | a24 | a25 | a26 | a29 | a30 | a31 | a32 | a33 | a34 | a36 | a37 | a38 | a39 | a40 | a41 | a42 | a43 | a44 | a45 => exact ⟨by k_is, by k_is, _, _, _, _, _, _, _, _, _, by k_is, by k_is, by k_is⟩
  case' d45 => exact ⟨_, _, _, _, by k_is⟩
  case' zlen | zrange | ztuple | zlist | zmax | zmin | zsorted | zisinstance | zbool | zint | zstr | zset | zreversed | zdict | zzip | zall | vMOST_NAMES | vMOST_REACH | vMOST_NUMBERS | vMOST_VALUE | vMOST_READERS | vMOST_DEEDS | vSURE | vSTALE | vOPEN | vWRITE | vDELIVER => k_is