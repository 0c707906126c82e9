import PyProof.Rows.All
import Wide.All
import OpenK.AllK
import Wide.FinOn
import Lean
import PyProof.EqAt
import PyProof.EqKinds
import PyProof.TupleCall
import PyProof.AttrMiss
import PyProof.IsiH_list
import PyProof.ZipIter
import PyProof.P3In
import PyProof.SetScanFacts
import PyProof.Rows.SetFrom
import PySem.Challenge.RW_everyrow_k45_papers_of_standings
set_option compiler.extract_closed false
set_option Elab.async false
set_option linter.all false
set_option maxRecDepth 100000
open PySem.W renaming Frag->zaa,nsIn->zaJ,mg_none_of->zaK,findIn->zaU,kia_one->za7,emptyDict->zbg,instObj->zbv,fnOf->zbw,keepIn->zbB,mg_of->zbF,kla_obj->zbR,envX->zca,codeIn->zcd,hasDictIn->zcg,tabIn->zcl,plainGet->zcr,exmOne->zcD,callWith_K->zcG,methodObj->zcI,plainOver->zcJ,takerIn->zcU,makesIn->zcV,cellsFrom_some->zcY,lookIn->zc2,kla_fn->zc3,tabObj->zc4,excIn->zdd
open PySem.Str renaming ofString->zab
open List renaming length_map->zac,getElem?_eq_getElem->zad,mem_cons_of_mem->zae,length_cons->zaf,mem_cons->zag,mem_append->zah,length_append->zai,getElem?_eq_some_iff->zak,nodup_cons->zam,getD_eq_getElem?_getD->zan,size_toArray->zao,mem_singleton->zap,map_cons->zaq,getElem?_map->zar,map_append->zas,getElem_mem->zat,mem_map->zau,mem_cons_self->zav,length_singleton->zax,mem_of_getElem?->zaz,range->zaF,take_length->zaH,length_nil->zaI,replicate->zaL,mem_append_right->zaM,append_nil->zaO,map_nil->zaP,map_map->zaQ,length->zaV,append_assoc->zaW,nil_append->zaX,lookup_cons->zaY,take_succ_eq_append_getElem->zaZ,flatMap_append->za1,set->za4,getElem?_eq_none->za5,forIn_cons->za6,mem_iff_getElem->zbb,zipWith->zbc,mem_range->zbd,reverse_cons->zbe,pairwise_map->zbf,length_take->zbh,cons_append->zbi,all_eq_true->zbj,lookup->zbk,take_succ->zbl,nodup_append->zbm,take_append_drop->zbp,range_succ->zbs,filterMap_cons_some->zbt,filterMap_cons_none->zbu,any_cons->zbx,length_drop->zby,getElem_map->zbz,mem_flatMap->zbA,take_of_length_le->zbC,length_range->zbG,pairwise_iff_getElem->zbH,mem_of_mem_take->zbI,forIn_nil->zbJ,replicate_succ->zbM,getElem?_cons_succ->zbN,find?_cons->zbQ,flatMap_cons->zbT,mem_append_left->zbW,flatMap_nil->zbY,getElem?_append_right->zbZ,length_reverse->zb1,length_pos_iff->zb3,drop_eq_getElem_cons->zb5,mem_filterMap->zb7,flatten_cons->zcf,getElem?_set_self->zch,not_mem_nil->zco,any_eq_true->zcp,ext_getElem->zcq,mem_iff_getElem?->zcs,getElem?_set_ne->zct,drop_eq_nil_iff->zcw,head?_drop->zcx,filterMap_cons->zcA,drop_drop->zcB,pairwise_cons->zcE,all_cons->zcH,getElem?_append_left->zcK,drop_length->zcL,getElem?_replicate->zcM,getElem?_cons_zero->zcN,length_eq_zero_iff->zcO,mem_filter->zcR,of_mem_zip->zcS,length_set->zcT,zipWith_cons_cons->zcW,drop_of_length_le->zcX,length_replicate->zcZ,nodup_nil->zc0,take_zero->zc1,mem_of_mem_drop->zc9,dropLast_concat->zda,take_nil->zdc
open Nat renaming le_refl->zaj,ne_of_lt->zay,le_trans->zaA,lt_of_lt_of_le->zaB,lt_irrefl->zaS,zero_le->za2,pow_le_pow_right->za3,le_max_left->zbD,ne_of_gt->zbK,le_max_right->zbX,le_of_lt->zb6,lt_of_le_of_lt->zb8,min_le_right->zcm,succ_mul->zcu,add_comm->zcv,min_eq_left->zcy,mul_le_mul->zcC,le_mul_of_pos_right->zcP,mul_le_mul_right->zc7,max_le->zc8,mul_le_mul_left->zde
open Bool renaming false_ne_true->zal,false_eq_true->zaG,and_eq_true->zba,not_true->zbE,false_and->zbU,and_false->zbV,true_and->zb0,eq_iff_iff->zb4,and_true->zck,or_false->zdb
open PySem.F renaming plainAttrs_list->zaw,slot_list_append->zaD,type_list_append->zaE,args_tuple_add_2->zb9,slot_list_extend->zcb,type_list_extend->zcc,entry_tuple_add->zce,slot_tuple_add->zcj,plain_list_iadd->zcQ,slot_list_pop->zc5,type_list_pop->zc6
open Or renaming inl->zaC,inr->zbP
open Array renaming getElem?_toList->zaN,length_toList->za0,getElem?_eq_getElem->zbq,forIn_toList->zcF,toList->zdf
open Int renaming toNat_natCast->zaR,emod_lt_of_pos->za8,emod_nonneg->zbo,eq_ofNat_of_zero_le->zbO,toNat_of_nonneg->zb2
open Option renaming some->zaT,map_some->zbn,isSome_iff_exists->zbL,isSome_map->zbS,map_eq_some_iff->zci,getD_some->zcn
open PyProof.Rows renaming callWith_type1->za9,slot_tuple_getitem->zbr,wpAny_notIn_heap->zcz
open PySem renaming Addr->zdg,Value->zdh,World->zdi,wpAny_bind->zdj,wpAny_pure->zdk,wpAny_holding->zdl,starEach->zdm,mainGlobals->zdn,sizeLine->zdo,FuncData->zdp,Shared->zdq,Around->zdr,Program->zds
noncomputable section
namespace L2
open PySem PySem.Spec PyProof.Rows
abbrev Key:=Sum Int Str
def rz:Key->zdh->Bool
 |.inl k,v=>Value.isInt k v
 |.inr x,v=>Value.isStrOf x v
def Py (w:zdi):Key->Int
 |.inl k=>hashInt k
 |.inr x=>hashStr w x
theorem dh:∀ {k:Key} {v:zdh},rz k v=true->(∃i t,k=Sum.inl i/\v=Value.int i t)\/(∃x t,k=Sum.inr x/\v=Value.str x t)
 |.inl i,v,h=>by
  obtain⟨t,e⟩:=Value.isInt_shape (k:=i) (v:=v) h;exact .inl ⟨i,t,rfl,e⟩
 |.inr x,v,h=>by
  obtain⟨t,e⟩:=Value.isStrOf_shape (x:=x) (v:=v) h;exact .inr ⟨x,t,rfl,e⟩
theorem FY(i:Int)(t:Tok):rz (.inl i) (.int i t)=true:=by simp[rz,Value.isInt]
theorem FZ(x:Str)(t:Tok):rz (.inr x) (.str x t)=true:=by simp[rz,Value.isStrOf]
theorem Pz(a b:Int):decide ((Sum.inl a:Key)=Sum.inl b)=(a==b):=by
 by_cases e:a=b
 ·subst e;simp
 ·have h:¬(Sum.inl a:Key)=Sum.inl b:=fun q=>e (Sum.inl.inj q);rw[decide_eq_false h];exact(beq_eq_false_iff_ne.mpr e).symm
theorem PB(a b:Str):decide ((Sum.inr a:Key)=Sum.inr b)=decide (a=b):=by
 by_cases e:a=b
 ·subst e;simp
 ·have h:¬(Sum.inr a:Key)=Sum.inr b:=fun q=>e (Sum.inr.inj q);rw[decide_eq_false h,decide_eq_false e]
theorem PC(a:Int)(b:Str):decide ((Sum.inl a:Key)=Sum.inr b)=false:=decide_eq_false (fun q=>nomatch q)
theorem PD(a:Str)(b:Int):decide ((Sum.inr a:Key)=Sum.inl b)=false:=decide_eq_false (fun q=>nomatch q)
def bM (prog:zds) (w:zdi):PySem.KeyKind prog w Key where
 is:=rz
 hash:=Py w
 inj:=fun v a b ha hb=>by
  rcases dh ha with ⟨i,t,rfl,rfl⟩ |⟨x,t,rfl,rfl⟩
  ·rcases dh hb with ⟨j,u,rfl,e⟩ |⟨y,u,rfl,e⟩
   ·injection e with e1 _;rw[e1]
   ·exact nomatch e
  ·rcases dh hb with ⟨j,u,rfl,e⟩ |⟨y,u,rfl,e⟩
   ·exact nomatch e
   ·injection e with e1 _;rw[e1]
 byValue:=fun k v h=>by
  rcases dh h with ⟨i,t,rfl,rfl⟩ |⟨x,t,rfl,rfl⟩<;>rfl
 pyHash:=fun hv h=>by
  rcases dh hv with ⟨i,t,rfl,rfl⟩ |⟨x,t,rfl,rfl⟩
  ·exact wpAny_pyHash_int h
  ·exact wpAny_pyHash_str h
 eqBool:=fun hu hv h=>by
  rcases dh hu with ⟨i,t,rfl,rfl⟩ |⟨x,t,rfl,rfl⟩
  ·rcases dh hv with ⟨j,u,rfl,rfl⟩ |⟨y,u,rfl,rfl⟩
   ·rw[Pz] at h;exact wpAny_eqBool_int h
   ·rw[PC] at h;exact SeqAt.EqAt.int_str i t y u _ _ _ _ h
  ·rcases dh hv with ⟨j,u,rfl,rfl⟩ |⟨y,u,rfl,rfl⟩
   ·rw[PD] at h;exact SeqAt.EqAt.str_int x t j u _ _ _ _ h
   ·rw[PB] at h;exact wpAny_eqBool_str h
 «strs»:=fun k x t v h=>by
  rcases dh h with ⟨i,u,rfl,e⟩ |⟨y,u,rfl,e⟩
  ·exact nomatch e
  ·injection e with e1 _
   subst e1;cases v<;>rfl
theorem A1(prog:zds)(w:zdi)(i:Int)(t:Tok):(bM prog w).is (.inl i) (.int i t)=true:=FY i t
theorem A2(prog:zds)(w:zdi)(x:Str)(t:Tok):(bM prog w).is (.inr x) (.str x t)=true:=FZ x t
inductive V where
 |cx |bl (b:Bool) |int (i:Int) |str (x:Str) |Ew (b:Array UInt8) |PF (b:UInt64) |ref (a:zdg) |ty (n:String)
 deriving DecidableEq
def RelV:V->zdh->Prop
 |.cx,u=>u=Value.none
 |.bl b,u=>u=Value.bool b
 |.int i,u=>∃t,u=Value.int i t
 |.str x,u=>∃t,u=Value.str x t
 |.Ew b,u=>∃t,u=Value.bytes b t
 |.PF b,u=>∃t,u=Value.float b t
 |.ref a,u=>u=Value.ref a
 |.ty n,u=>u=Value.type n
abbrev Vals:List V->List zdh->Prop:=Paired RelV
theorem Vals.length{xs:List V}{us:List zdh}(r:Vals xs us):xs.length=us.length:=Paired.length r
theorem Vals.get:∀ {xs:List V} {us:List zdh} {i:Nat} {x:V},Vals xs us->xs[i]?=some x->∃u,us[i]?=some u/\RelV x u
 |_,_,_,_,.nil,e=>by simp at e
 |_,_,0,_,.cons r _,e=>by simp at e;subst e;exact⟨_,rfl,r⟩
 |_,_,i+1,x,.cons _ t,e=>by
  obtain⟨u,h1,h2⟩:=Vals.get (i:=i) (x:=x) t (by simpa using e);exact⟨u,by simpa using h1,h2⟩
theorem Vals.set{x:V}{u:zdh}(r:RelV x u):∀ {xs:List V} {us:List zdh} (i:Nat),Vals xs us->Vals (xs.set i x) (us.set i u)
 |_,_,_,.nil=>.nil
 |_,_,0,.cons _ t=>.cons r t
 |_,_,i+1,.cons q t=>.cons q (Vals.set r i t)
theorem Vals.append:∀ {xs ys:List V} {us ws:List zdh},Vals xs us->Vals ys ws->Vals (xs++ys) (us++ws)
 |_,_,_,_,.nil,s=>s
 |_,_,_,_,.cons r t,s=>.cons r (Vals.append t s)
theorem Vals.take:∀ {xs:List V} {us:List zdh} (n:Nat),Vals xs us->Vals (xs.take n) (us.take n)
 |_,_,0,_=>.nil
 |_,_,_+1,.nil=>.nil
 |_,_,n+1,.cons r t=>.cons r (Vals.take n t)
theorem Vals.drop:∀ {xs:List V} {us:List zdh} (n:Nat),Vals xs us->Vals (xs.drop n) (us.drop n)
 |_,_,0,r=>r
 |_,_,_+1,.nil=>.nil
 |_,_,n+1,.cons _ t=>Vals.drop n t
def qy:Option V->Option zdh->Prop
 |some v,some u=>RelV v u
 |none,none=>True
 |_,_=>False
def KV {κ:Type}:List (κ×V)->List (κ×zdh)->Prop:=Paired fun (p:κ×V) (q:κ×zdh)=>p.1=q.1/\RelV p.2 q.2
def kV:Key->V
 |.inl i=>.int i
 |.inr x=>.str x
inductive HO where
 |lst (xs:List V)
 |tup (xs:List V)
 |dK (kvs:List (Key×V)) |dT (kvs:List (List Key×V))
 |set (S:Int->Bool) (n:Nat)
 |ins (C dx:zdg) (fs:List (Str×V))
 |own (x:zdg)
 |xd (fs:List (Str×V))
 |met (f x:zdg)
 |Xx (lo hi:Int)
 |Ex (o:Obj) (u:HO)
 |uv (ps:Array zdh)
 |ext (φ:Heap->Prop)
abbrev Hp:=zdg->Option HO
def upd (H:Hp) (a:zdg) (o:HO):Hp:=fun b=>if b=a then some o else H b
theorem ah{H:Hp}{a:zdg}{o:HO}:upd H a o a=some o:=by unfold upd;rw[if_pos rfl]
theorem aw{H:Hp}{a b:zdg}{o:HO}(h:b≠a):upd H a o b=H b:=by unfold upd;rw[if_neg h]
theorem MC{H:Hp}{a:zdg}{o u:HO}:upd (upd H a o) a u=upd H a u:=by
 funext b;unfold upd;split<;>rfl
theorem cQ{H:Hp}{a b:zdg}{o u:HO}(h:H a=some o)(h':H b=some u)(d:o≠u):a≠b:=by
 intro e;subst e;rw[h] at h';exact d (zaT.inj h')
theorem az{H:Hp}{a b:zdg}{o:HO}(h:H a=some o)(h':H b=none):a≠b:=by
 intro e;subst e;rw[h] at h';cases h'
section
variable(P:zds)(w:zdi)
def cX (H:Hp) (h:Heap) (a:zdg):HO->Prop
 |.lst xs=>xs.length<=zdo/\∃(its:List zdh) (n:Nat),Vals xs its/\h.get? a=some {cls:=.type "list",data:=.seq its.toArray n}
 |.tup xs=>xs.length<=zdo/\∃its:List zdh,Vals xs its/\IsTup h a its.toArray
 |.dK kvs=>kvs.length<=zdo/\(a==sysModules)=false/\∃vs,KV kvs vs/\h.DictOf (bM P w) a vs
 |.dT kvs=>kvs.length<=zdo/\(a==sysModules)=false/\∃xs:List (List Key×zdg×zdh),
  Paired (fun (p:List Key×V) (q:List Key×zdg×zdh)=>p.1=q.1/\H q.2.1=some (.tup (p.1.map kV))/\RelV p.2 q.2.2) kvs xs/\
  ∃o es ep,h.get? a=some o/\o.ExactDict/\o.data=.dict es ep/\es.toList=xs.map (entryOfKey (tupleKind (bM P w)))/\(xs.map (·.1)).Nodup
 |.set S n=>h.SetOf (intKind P w) a S n
 |.ins C dx fs=>H dx=some (.own a)/\fs.length<=1000/\dx≠a/\h.get? a=some (zbv C dx)/\
  ∃mA,h.Ns1 dx mA/\(∀f,qy (fs.lookup f) (mA f))/\PySem.Within mA (fs.map (·.1))
 |.own _=>∃o,h.get? a=some o
 |.xd fs=>∃mA,h.Ns1 a mA/\∀f,qy (fs.lookup f) (mA f)
 |.Xx lo hi=>∃t u v,h.get? a=some {cls:=.type "range",data:=.fields #[.int lo t,.int hi u,.int 1 v]}
 |.Ex o u=>h.get? a=some o/\cX H h a u
 |.uv ps=>h.get? a=some {cls:=.none,data:=.fields ps}
 |.met f x=>h.get? a=some (zcI (.ref f) (.ref x))
 |.ext φ=>φ h/\(∃o,h.get? a=some o)/\∀h1 h2:Heap,φ h1->(∀o,h1.get? a=some o->h2.get? a=some o)->φ h2
def nN (H:Hp) (h:Heap):Prop:=∀a o,H a=some o->cX P w H h a o
end
section
variable{P:zds}{w:zdi}{H H':Hp}{h h':Heap}{a:zdg}{o:HO}
theorem cX.lt(x:cX P w H h a o):a<h.objs.size:=by
 cases o with
 |lst xs=>obtain⟨_,_,_,_,e⟩:=x;exact Heap.lt_size e
 |tup xs=>obtain⟨_,_,_,p⟩:=x;exact p.lt
 |dK kvs=>obtain⟨_,_,_,_,o,_,_,e,_⟩:=x;exact Heap.lt_size e
 |dT kvs=>obtain⟨_,_,_,_,o,_,_,e,_⟩:=x;exact Heap.lt_size e
 |set S n=>obtain⟨o,_,_,_,e,_⟩:=x;exact Heap.lt_size e
 |ins C dx fs=>obtain⟨_,_,_,e,_⟩:=x;exact Heap.lt_size e
 |own y=>obtain⟨_,e⟩:=x;exact Heap.lt_size e
 |xd fs=>obtain⟨_,⟨_,_,_,e,_⟩,_⟩:=x;exact Heap.lt_size e
 |Xx lo hi=>obtain⟨_,_,_,e⟩:=x;exact Heap.lt_size e
 |Ex ob u=>obtain⟨e,_⟩:=x;exact Heap.lt_size e
 |uv ps=>exact Heap.lt_size (show h.get? a=some _ from x)
 |met f y=>exact Heap.lt_size (show h.get? a=some _ from x)
 |ext φ=>obtain⟨_,⟨_,e⟩,_⟩:=x;exact Heap.lt_size e
theorem Paired.uZ{α β:Type}{F G:α->β->Prop}:∀ {l₁:List α} {l₂:List β},Paired F l₁ l₂->(∀a b,F a b->G a b)->Paired G l₁ l₂
 |_,_,.nil,_=>.nil
 |_,_,.cons r t,f=>.cons (f _ _ r) (Paired.uZ t f)
theorem cX.xA(x:cX P w H h a o)(k:∀b u,(b=a\/H b=some (.own a))->h.get? b=some u->h'.get? b=some u)
 (ho:∀b,H b=some (.own a)->H' b=some (.own a)) (ht:∀b xs,H b=some (.tup xs)->H' b=some (.tup xs)):cX P w H' h' a o:=by
 induction o with
 |lst xs=>obtain⟨z,its,n,r,e⟩:=x;exact⟨z,its,n,r,k _ _ (.inl rfl) e⟩
 |tup xs=>obtain⟨z,its,r,ob,e,c⟩:=x;exact⟨z,its,r,ob,k _ _ (.inl rfl) e,c⟩
 |dK kvs=>obtain⟨z,y,vs,r,ob,es,ep,e,c⟩:=x;exact⟨z,y,vs,r,ob,es,ep,k _ _ (.inl rfl) e,c⟩
 |dT kvs=>
  obtain⟨z,y,xs,r,ob,es,ep,e,c⟩:=x;exact⟨z,y,xs,Paired.uZ r fun p q z=>⟨z.1,ht _ _ z.2.1,z.2.2⟩,ob,es,ep,k _ _ (.inl rfl) e,c⟩
 |set S n=>obtain⟨ob,es,ep,t,e,c⟩:=x;exact⟨ob,es,ep,t,k _ _ (.inl rfl) e,c⟩
 |ins C dx fs=>
  obtain⟨d,z,ne,e,mA,⟨od,es,ep,e2,c⟩,r⟩:=x;exact⟨ho _ d,z,ne,k _ _ (.inl rfl) e,mA,⟨od,es,ep,k _ _ (.inr d) e2,c⟩,r⟩
 |own y=>obtain⟨ob,e⟩:=x;exact⟨ob,k _ _ (.inl rfl) e⟩
 |xd fs=>obtain⟨mA,⟨od,es,ep,e,c⟩,r⟩:=x;exact⟨mA,⟨od,es,ep,k _ _ (.inl rfl) e,c⟩,r⟩
 |Xx lo hi=>obtain⟨t,u,v,e⟩:=x;exact⟨t,u,v,k _ _ (.inl rfl) e⟩
 |Ex ob u ih=>obtain⟨e,q⟩:=x;exact⟨k _ _ (.inl rfl) e,ih q⟩
 |uv ps=>
  have e:h.get? a=some {cls:=.none,data:=.fields ps}:=x;show h'.get? a=some {cls:=.none,data:=.fields ps};exact k a _ (.inl rfl) e
 |met f y=>
  have e:h.get? a=some (zcI (.ref f) (.ref y)):=x;show h'.get? a=some (zcI (.ref f) (.ref y));exact k a _ (.inl rfl) e
 |ext φ=>obtain⟨p,⟨o,e⟩,st⟩:=x;exact⟨st _ _ p fun o q=>k _ _ (.inl rfl) q,⟨o,k _ _ (.inl rfl) e⟩,st⟩
theorem nN.lt(x:nN P w H h)(e:H a=some o):a<h.objs.size:=(x a o e).lt
theorem nN.fresh(x:nN P w H h)(e:h.objs.size<=a):H a=none:=by
 cases q:H a with
 |none=>rfl
 |some u=>exact absurd (zaB (x.lt q) e) (zaS _)
theorem nN.kept(x:nN P w H h)(k:∀b u,h.get? b=some u->h'.get? b=some u):nN P w H h':=fun a o e=>
 (x a o e).xA (fun b u _ q=>k b u q) (fun _ q=>q) fun _ _ q=>q
theorem nN.laid(x:nN P w H h)(k:∀b u,h.get? b=some u->h'.get? b=some u)(hp:h.objs.size<=a)(new:cX P w (upd H a o) h' a o):nN P w (upd H a o) h':=fun b u e=>by
 have hn:=x.fresh hp;by_cases hb:b=a
 ·subst hb;rw[ah] at e;cases e;exact new
 ·rw[aw hb] at e;exact(x b u e).xA (fun c v _ q=>k c v q) (fun c q=>by rw[aw (az q hn)];exact q) fun c xs q=>by rw[aw (az q hn)];exact q
end
def Rd (H:Hp) (a:zdg) (u:HO):Prop:=H a=some u\/∃o,H a=some (.Ex o u)
theorem Rd.of{H:Hp}{a:zdg}{u:HO}(h:H a=some u):Rd H a u:=.inl h
theorem Rd.ok{P:zds}{w:zdi}{H:Hp}{h:Heap}{a:zdg}{u:HO}(r:Rd H a u)(x:nN P w H h):cX P w H h a u:=by
 rcases r with r |⟨o,r⟩
 ·exact x a u r
 ·obtain⟨_,q⟩:=x a _ r;exact q
def SS:Option HO->Prop
 |some (.lst _)=>True
 |some (.dK _)=>True
 |some (.dT _)=>True
 |some (.set _ _)=>True
 |some (.ins _ _ _)=>True
 |some (.ext _)=>True
 |_=>False
section
variable{P:zds}{w:zdi}{H:Hp}{h h':Heap}{x e:zdg}{o':HO}
theorem nN.write(ok:nN P w H h)(mu:SS (H x))(he:e=x\/H e=some (.own x))(k:∀b u,b≠e->h.get? b=some u->h'.get? b=some u)(R6:∃u,h'.get? e=some u)
 (new:cX P w (upd H x o') h' x o'):nN P w (upd H x o') h':=fun b u q=>by
 have SU:∀c y,H c=some (.own y)->c≠x:=fun c y r z=>by subst z;rw[r] at mu;exact mu
 have Xy:∀c xs,H c=some (.tup xs)->c≠x:=fun c xs r z=>by subst z;rw[r] at mu;exact mu
 by_cases hb:b=x
 ·subst hb;rw[ah] at q;cases q;exact new
 ·rw[aw hb] at q;by_cases PH:b=e
  ·have q':H b=some (.own x):=by
    rcases he with z |z
    ·exact absurd (PH.trans z) hb
    ·rw[PH];exact z
   rw[q] at q';cases q';obtain⟨v,hv⟩:=R6;exact⟨v,by rw[PH];exact hv⟩
  ·refine(ok b u q).xA (fun c v hc r=>k c v ?_ r) (fun c r=>by rw[aw (SU c b r)];exact r) fun c xs r=>by rw[aw (Xy c xs r)];exact r
   rcases hc with rfl |hc
   ·exact PH
   ·rintro rfl
    rcases he with z |z
    ·exact SU c b hc z
    ·rw[hc] at z;cases z;exact hb rfl
end
structure Un(fs ex:List zdg)(H H':Hp)(h h':Heap):Prop where
 keep:∀b o,h.get? b=some o->H b=none->b ∉ fs->b ∉ ex->h'.get? b=some o
 slot:∀b o,h.get? b=some o->H b=none->b∈fs->b ∉ ex->∃sl,h'.get? b=some {o with slots:=sl}
 free:∀b o,h.get? b=some o->H b=none->b ∉ ex->H' b=none
 there:∀b o,h.get? b=some o->b ∉ ex->∃o',h'.get? b=some o'
 vP:∀b xs,H b=some (.tup xs)->H' b=some (.tup xs)
 vd:∀b o u,H b=some (.Ex o u)->H' b=some (.Ex o u)
 ve:∀b ps,H b=some (.uv ps)->∃more,H' b=some (.uv (ps++more))
section
variable{fs fs' ex ex':List zdg}{H H1 H2:Hp}{h h1 h2 h':Heap}{a x e:zdg}{o:HO}
theorem Un.any(u:Un fs ex H H1 h h1){b:zdg}{ob:Obj}(q:h.get? b=some ob)(n:H b=none)(hx:b ∉ ex):∃sl,h1.get? b=some {ob with slots:=sl}:=by
 by_cases hb:b∈fs
 ·exact u.slot b ob q n hb hx
 ·exact⟨ob.slots,u.keep b ob q n hb hx⟩
theorem Un.kept(k:∀b u,h.get? b=some u->h'.get? b=some u):Un fs ex H H h h':=
 ⟨fun b ob q _ _ _=>k b ob q,fun b ob q _ _ _=>⟨ob.slots,k b ob q⟩,fun _ _ _ n _=>n,fun b ob q _=>⟨ob,k b ob q⟩,fun _ _ q=>q,fun _ _ _ q=>q,fun _ ps q=>⟨#[],by rw[q];simp⟩⟩
theorem Un.refl:Un fs ex H H h h:=Un.kept fun _ _ q=>q
theorem Un.laid(k:∀b u,h.get? b=some u->h'.get? b=some u)(hp:h.objs.size<=a)(hn:H a=none):Un fs ex H (upd H a o) h h' where
 keep:=fun b u q _ _ _=>k b u q
 slot:=fun b u q _ _ _=>⟨u.slots,k b u q⟩
 free:=fun b u q n _=>by rw[aw (zay (zaB (Heap.lt_size q) hp))];exact n
 there:=fun b u q _=>⟨u,k b u q⟩
 vP:=fun b xs q=>by rw[aw (az q hn)];exact q
 vd:=fun b u xs q=>by rw[aw (az q hn)];exact q
 ve:=fun b ps q=>⟨#[],by rw[aw (az q hn),q];simp⟩
theorem Un.write(mu:SS (H x))(he:e=x\/H e=some (.own x))(k:∀b u,b≠e->h.get? b=some u->h'.get? b=some u)(R6:∃u,h'.get? e=some u):Un fs ex H (upd H x o) h h':=by
 have hx:∀b,H b=none->b≠x:=fun b n z=>by subst z;rw[n] at mu;exact mu
 have hb:∀b,H b=none->b≠e:=fun b n z=>by
  subst z;rcases he with r |r
  ·exact hx b n r
  ·rw[n] at r;cases r
 have hm:∀b u,H b=some u->¬SS (some u)->b≠x:=fun b u q nm z=>by subst z;rw[q] at mu;exact nm mu
 refine⟨fun b u q n _ _=>k b u (hb b n) q,fun b u q n _ _=>⟨u.slots,k b u (hb b n) q⟩,fun b u q n _=>by rw[aw (hx b n)];exact n,fun b u q _=>?_,
  fun b xs q=>by rw[aw (hm b _ q fun z=>z)];exact q,fun b u xs q=>by rw[aw (hm b _ q fun z=>z)];exact q,fun b ps q=>⟨#[],by rw[aw (hm b _ q fun z=>z),q];simp⟩⟩
 by_cases PH:b=e
 ·subst PH;exact R6
 ·exact⟨u,k b u PH q⟩
end
def Wc (h:Heap) (H:Hp):List zdg:=(zaF h.objs.size).filter fun a=>(H a).isSome
def zm (h:Heap) (H:Hp):Heap:=PySem.W.hideAll h (Wc h H)
theorem F1(h:Heap)(H:Hp):(zm h H).objs.size=h.objs.size:=PySem.W.hideAll_size _ _
theorem rA{h:Heap}{H:Hp}{b:zdg}{o:Obj}(e:h.get? b=some o)(n:H b=none):(zm h H).get? b=some o:=
 PySem.W.hideAll_get _ e fun hm=>by
  have q:(H b).isSome=true:=(zcR.mp hm).2;rw[n] at q;simp at q
theorem MD{h:Heap}{H:Hp}{b:zdg}{o:Obj}(e:(zm h H).get? b=some o):h.get? b=some o/\H b=none:=by
 have e':h.get? b=some o:=PySem.W.of_hideAll (Wc h H) e;refine⟨e',?_⟩;cases q:H b with
 |none=>rfl
 |some x=>
  have hm:b∈Wc h H:=zcR.mpr ⟨zbd.mpr (Heap.lt_size e'),by simp[q]⟩;have z:(zm h H).get? b=none:=PySem.W.hideAll_none (Wc h H) hm;rw[z] at e;cases e
structure Mod(K:zaa)(mg:Str->Option zdh)(base:Heap):Prop where
 SV:K.In base
 glob:base.Ns zdn mg
 blt:∃mb,base.Ns builtinsNs mb/\∀x:Str,x≠"__name__"->mb x=bootBuiltins x
 nolimit:base.NoLimit
structure Cx where
 prog:zds
 w:zdi
 K:zaa
 mg:Str->Option zdh
 base:Heap
 A:zdr
 N:List Str
 s₀:zdq
 H₀:Hp
 env:Env
 outer:List Env
 stack:List Env
 ex:List zdg
 fn:Str->Bool
 calm:Bool
 pn:List (zdg×Obj)
 xe:zdh->zdq->Prop
def CY (l:List Env):List zdg:=l.filterMap (·.frame)
abbrev Cx.fs (X:Cx):List zdg:=CY X.outer
def SW (sc:Scope) (x:Str):Prop:=sc.names.lookup x=some .local\/sc.names.lookup x=some .cell\/sc.names.lookup x=some .free
def Loc (sc:Scope) (x:Str):Prop:=sc.names.lookup x=some .local\/sc.names.lookup x=some .cell
def Look (env:Env) (h:Heap) (m:Str->Option zdh) (x:Str) (u:zdh):Prop:=
 (env.kindOf x=some .local/\m x=some u)\/((env.kindOf x=some .cell\/env.kindOf x=some .free)/\∃c,env.cells.lookup x=some c/\h.IsCell c (some u))
structure Cx.Ok(X:Cx):Prop where
 mod:Mod X.K X.mg X.base
 kind:X.env.scope.kind=.function
 glob:X.env.globals=zdn
 blt:X.env.builtins=builtinsNs
 above:X.s₀.heap.objs.size<=X.env.locals
 inj:∀x y c,X.env.cells.lookup x=some c->X.env.cells.lookup y=some c->x=y
 has:∀x,(X.env.kindOf x=some .cell\/X.env.kindOf x=some .free)->∃c,X.env.cells.lookup x=some c
 ME:∀x c,X.fn x=true->X.env.cells.lookup x=some c->X.s₀.heap.objs.size<=c
 hd:X.calm=true->X.A.handled=none
 frames:X.A.frames=some X.stack
 We:X.stack=X.outer\/(X.stack=X.env::X.outer/\X.env.frame=some X.env.locals)
 exf:∀b∈X.ex,b≠X.env.locals/\∀x c,X.env.cells.lookup x=some c->c≠b
 bs:∀b o,X.base.get? b=some o->X.s₀.heap.get? b=some o/\X.H₀ b=none
 F3:X.base.objs.size<=X.s₀.heap.objs.size
 IA:∀b o,X.base.get? b=some o->b ∉ X.ex
 MF:∀b∈X.ex,b ∉ X.fs
 pP:X.s₀.heap.FunFrames X.base X.outer
 Md:∀b∈X.fs,X.H₀ b=none
structure Inv(X:Cx)(pins:List (zdg×Obj))(σ:List (Option V))(H:Hp)(s:zdq):Prop where
 ok:X.Ok
 os:s.os=X.s₀.os
 bare:AllBare s.gens
 base:Un X.fs X.ex X.H₀ H X.s₀.heap s.heap
 loc:∃m,s.heap.Ns X.env.locals m/\∀(i:Nat) (x:Str) (v:V),X.N[i]?=some x->σ[i]?=some (some v)->SW X.env.scope x->∃u,RelV v u/\Look X.env s.heap m x u
 cell:∀x c,X.env.cells.lookup x=some c->∃v,s.heap.IsCell c v
 free:H X.env.locals=none
 nO:∀x c,X.env.cells.lookup x=some c->H c=none
 pin:∀p∈X.pn++pins,s.heap.get? p.1=some p.2/\H p.1=none/\p.1≠X.env.locals/\p.1 ∉ X.fs/\∀v,p.2.data≠.cell v
 cI:nN X.prog X.w H s.heap
 len:σ.length=X.N.length
section
variable{X:Cx}{pins:List (zdg×Obj)}{σ:List (Option V)}{H H':Hp}{s:zdq}{h':Heap}
theorem Cx.Ok.Xz(ok:X.Ok){b:zdg}{o:Obj}(e:X.base.get? b=some o):b ∉ X.fs:=fun hb=>by
 have:=(ok.pP.mem hb).1;rw[e] at this;cases this
theorem Inv.bs(I:Inv X pins σ H s):∀b o,X.base.get? b=some o->s.heap.get? b=some o/\H b=none:=fun b o e=>
 ⟨I.base.keep b o (I.ok.bs b o e).1 (I.ok.bs b o e).2 (I.ok.Xz e) (I.ok.IA b o e),I.base.free b o (I.ok.bs b o e).1 (I.ok.bs b o e).2 (I.ok.IA b o e)⟩
theorem Inv.bk(I:Inv X pins σ H s):∀b o,X.base.get? b=some o->s.heap.get? b=some o:=fun b o e=>(I.bs b o e).1
theorem Inv.mod(I:Inv X pins σ H s):Mod X.K X.mg X.base:=I.ok.mod
theorem Inv.vw(I:Inv X pins σ H s):X.K.In s.heap:=I.ok.mod.SV.keeps I.bk
theorem Inv.lt(I:Inv X pins σ H s):X.env.locals<s.heap.objs.size:=let ⟨_,hn,_⟩:=I.loc;hn.lt
theorem Inv.sz(I:Inv X pins σ H s):X.s₀.heap.objs.size<=s.heap.objs.size:=zaA I.ok.above (zb6 I.lt)
theorem Inv.XA(I:Inv X pins σ H s){a:zdg}(h:s.heap.objs.size<=a):a ∉ X.fs:=fun hb=>by
 obtain⟨_,o,ho,_⟩:=I.ok.pP.mem hb;exact absurd (zaB (Heap.lt_size ho) (zaA I.sz h)) (zaS _)
theorem Inv.OB(I:Inv X pins σ H s):∀x c,X.env.cells.lookup x=some c->c≠X.env.locals:=fun x c e z=>by
 obtain⟨v,o,ho,hd⟩:=I.cell x c e;obtain⟨m,⟨o',es,ep,PJ,A3,_⟩,_⟩:=I.loc;rw[z,PJ] at ho;cases ho;rw[A3] at hd;cases hd
theorem Inv.pP(I:Inv X pins σ H s):s.heap.FunFrames X.base X.outer:=by
 have all:∀(l:List Env),(∀b∈CY l,b∈X.fs)->X.s₀.heap.FunFrames X.base l->s.heap.FunFrames X.base l:=by
  intro l
  induction l with
  |nil=>intro _ _;trivial
  |cons env r ih=>
   intro hs hl;obtain⟨hk,⟨L,o,hf,hn,ho,hd⟩,hr⟩:=hl;have hL:L∈X.fs:=hs L (by unfold CY;rw[zcA,hf];exact zav);obtain⟨sl,e⟩:=I.base.slot L o ho (I.ok.Md L hL) hL fun z=>I.ok.MF L z hL;exact⟨hk,⟨L,_,hf,hn,e,hd⟩,ih (fun b hb=>hs b (by unfold CY;rw[zcA,hf];exact zae _ hb)) hr⟩
 exact all X.outer (fun _ hb=>hb) I.ok.pP
theorem Inv.stack(I:Inv X pins σ H s):s.heap.FunFrames X.base X.stack:=by
 rcases I.ok.We with e |⟨e,hf⟩
 ·rw[e];exact I.pP
 ·rw[e];obtain⟨m,hn,_⟩:=I.loc;refine .cons (by rw[I.ok.kind];decide) hf hn ?_ I.pP;exact Heap.get?_none_of_le (zaA I.ok.F3 I.ok.above)
theorem Inv.vQ(I:Inv X pins σ H s):∀b∈CY X.stack,b∈X.env.locals::X.fs:=fun b hb=>by
 rcases I.ok.We with e |⟨e,hf⟩
 ·rw[e] at hb;exact zae _ hb
 ·rw[e] at hb;unfold CY at hb;rw[zcA,hf] at hb;exact hb
theorem Inv.zo(I:Inv X pins σ H s):∀b∈CY X.stack,H b=none:=fun b hb=>by
 rcases zag.mp (I.vQ b hb) with e |hb
 ·rw[e];exact I.free
 ·obtain⟨_,o,ho,_⟩:=I.ok.pP.mem hb;exact I.base.free b o ho (I.ok.Md b hb) fun z=>I.ok.MF b z hb
theorem Inv.step{g':Array GenState}{t':Nat}{d':Drawn}{ch:List zdg}(I:Inv X pins σ H s)
 (Me:∀b∈ch,(b∈X.ex\/X.s₀.heap.objs.size<=b)/\b≠X.env.locals/\(∀x c,X.env.cells.lookup x=some c->c≠b)/\∀p∈X.pn++pins,p.1≠b)
 (keep:∀b o,b≠X.env.locals->b ∉ X.fs->b ∉ ch->s.heap.get? b=some o->H b=none->h'.get? b=some o)
 (slot:∀b o,b≠X.env.locals->b∈X.fs->b ∉ ch->s.heap.get? b=some o->H b=none->∃sl,h'.get? b=some {o with slots:=sl}) (free:∀b o,b ∉ ch->s.heap.get? b=some o->H b=none->H' b=none)
 (there:∀b o,b ∉ ch->s.heap.get? b=some o->∃o',h'.get? b=some o')
 (vP:∀b xs,H b=some (.tup xs)->H' b=some (.tup xs)) (vd:∀b o u,H b=some (.Ex o u)->H' b=some (.Ex o u)) (ve:∀b ps,H b=some (.uv ps)->∃more,H' b=some (.uv (ps++more)))
 (ns:∀m,s.heap.Ns X.env.locals m->h'.Ns X.env.locals m) (cI:nN X.prog X.w H' h') (hg:AllBare g') :
 Inv X pins σ H' {s with heap:=h',gens:=g',drawn:=d',toks:=t' }:=by
 have neL:∀b o,X.s₀.heap.get? b=some o->b≠X.env.locals:=fun b o e=>zay (zaB (Heap.lt_size e) I.ok.above);have Wf:∀b o,X.s₀.heap.get? b=some o->b ∉ X.ex->b ∉ ch:=fun b o e hx hb=>by
  rcases(Me b hb).1 with z |z
  ·exact hx z
  ·exact absurd (zaB (Heap.lt_size e) z) (zaS _)
 have cellK:∀x c,X.env.cells.lookup x=some c->∀v,s.heap.IsCell c v->h'.IsCell c v:=fun x c e v ⟨o,ho,hd⟩=>by
  have SX:c ∉ ch:=fun z=>(Me c z).2.2.1 x c e rfl;by_cases hc:c∈X.fs
  ·obtain⟨sl,q⟩:=slot c o (I.OB x c e) hc SX ho (I.nO x c e);exact⟨_,q,hd⟩
  ·exact⟨o,keep c o (I.OB x c e) hc SX ho (I.nO x c e),hd⟩
 refine⟨I.ok,I.os,hg,⟨fun b o e n hb hx=>?_,fun b o e n hb hx=>?_,fun b o e n hx=>?_,fun b o e hx=>?_,fun b xs e=>vP b xs (I.base.vP b xs e),fun b o xs e=>vd b o xs (I.base.vd b o xs e),fun b ps e=>?_⟩,?_,fun x c e=>?_,?_,fun x c e=>?_,fun p hp=>?_,cI,I.len⟩
 ·exact keep b o (neL b o e) hb (Wf b o e hx) (I.base.keep b o e n hb hx) (I.base.free b o e n hx)
 ·obtain⟨sl,e1⟩:=I.base.slot b o e n hb hx;obtain⟨sl',e2⟩:=slot b _ (neL b o e) hb (Wf b o e hx) e1 (I.base.free b o e n hx);exact⟨sl',e2⟩
 ·obtain⟨o',e1⟩:=I.base.there b o e hx;exact free b o' (Wf b o e hx) e1 (I.base.free b o e n hx)
 ·obtain⟨o',e1⟩:=I.base.there b o e hx;exact there b o' (Wf b o e hx) e1
 ·obtain⟨m1,e1⟩:=I.base.ve b ps e;obtain⟨m2,e2⟩:=ve b _ e1;exact⟨m1++m2,by rw[e2,Array.append_assoc]⟩
 ·obtain⟨m,hn,hl⟩:=I.loc;refine⟨m,ns m hn,fun i x v e1 e2 e3=>?_⟩;obtain⟨u,r,l⟩:=hl i x v e1 e2 e3;refine⟨u,r,?_⟩;rcases l with l |⟨k,c,e,z⟩
  ·exact .inl l
  ·exact .inr ⟨k,c,e,cellK x c e _ z⟩
 ·obtain⟨v,z⟩:=I.cell x c e;exact⟨v,cellK x c e v z⟩
 ·obtain⟨m,⟨o,_,_,ho,_⟩,_⟩:=I.loc;exact free _ o (fun z=>(Me _ z).2.1 rfl) ho I.free
 ·obtain⟨v,o,ho,hd⟩:=I.cell x c e;exact free c o (fun z=>(Me c z).2.2.1 x c e rfl) ho (I.nO x c e)
 ·obtain⟨e,n,ne,nf,d⟩:=I.pin p hp;have SX:p.1 ∉ ch:=fun z=>(Me p.1 z).2.2.2 p hp rfl;exact⟨keep p.1 p.2 ne nf SX e n,free p.1 p.2 SX e n,ne,nf,d⟩
theorem Inv.un{t':Nat}(I:Inv X pins σ H s)(u:Un X.fs [] H H' s.heap h')(cI:nN X.prog X.w H' h'):Inv X pins σ H' {s with heap:=h',toks:=t' }:=by
 obtain⟨m,⟨o,es,ep,ho,r⟩,_⟩:=id I.loc;obtain⟨sl,hL⟩:=u.any ho I.free (by simp);exact I.step (g':=s.gens) (d':=s.drawn) (ch:=[]) (fun _ z=>nomatch z) (fun b o _ hb _ e n=>u.keep b o e n hb (by simp)) (fun b o _ hb _ e n=>u.slot b o e n hb (by simp)) (fun b o _ e n=>u.free b o e n (by simp)) (fun b o _ e=>u.there b o e (by simp)) u.vP u.vd u.ve (fun m' hm=>by
  obtain⟨o',XB,XC,PJ,r'⟩:=hm;rw[ho] at PJ;cases PJ;exact⟨_,XB,XC,hL,r'⟩) cI I.bare
theorem Inv.call{g':Array GenState}{t':Nat}{d':Drawn}{ch:List zdg}(I:Inv X pins σ H s)(u:Un (CY X.stack) ch H H' s.heap h')(cI:nN X.prog X.w H' h')(hg:AllBare g')
 (Me:∀b∈ch,(b∈X.ex\/X.s₀.heap.objs.size<=b)/\b≠X.env.locals/\(∀x c,X.env.cells.lookup x=some c->c≠b)/\∀p∈X.pn++pins,p.1≠b) :
 Inv X pins σ H' {s with heap:=h',gens:=g',drawn:=d',toks:=t' }:=by
 obtain⟨m,⟨o,es,ep,ho,r⟩,_⟩:=id I.loc;obtain⟨sl,hL⟩:=u.any ho I.free fun z=>(Me _ z).2.1 rfl;exact I.step (ch:=ch) Me (fun b o hL hb hc e n=>u.keep b o e n (fun z=>(zag.mp (I.vQ b z)).elim hL hb) hc) (fun b o _ _ hc e n=>u.any e n hc) (fun b o hc e n=>u.free b o e n hc) (fun b o hc e=>u.there b o e hc) u.vP u.vd u.ve (fun m' hm=>by
  obtain⟨o',XB,XC,PJ,r'⟩:=hm;rw[ho] at PJ;cases PJ;exact⟨_,XB,XC,hL,r'⟩) cI hg
theorem Inv.turned{t':Nat}{it:zdg}(I:Inv X pins σ H s)(k:∀b o,b≠it->s.heap.get? b=some o->h'.get? b=some o)(hn:H it=none)(hL:it≠X.env.locals)
 (h1:it∈X.ex\/X.s₀.heap.objs.size<=it) (h2:∀x c,X.env.cells.lookup x=some c->c≠it) (h3:∀p∈X.pn++pins,p.1≠it):Inv X pins σ H {s with heap:=h',toks:=t' }:=by
 have SY:∀b u,H b=some u->b≠it:=fun b u e z=>by rw[z,hn] at e;cases e
 refine I.step (g':=s.gens) (d':=s.drawn) (ch:=[it]) (fun b hb=>?_) (fun b o _ _ hc e _=>k b o (fun z=>hc (by simp[z])) e) (fun b o _ _ hc e _=>⟨o.slots,k b o (fun z=>hc (by simp[z])) e⟩) (fun _ _ _ _ n=>n)
  (fun b o hc e=>⟨o,k b o (fun z=>hc (by simp[z])) e⟩) (fun _ _ e=>e) (fun _ _ _ e=>e) (fun b ps e=>⟨#[],by rw[e];simp⟩) (fun m hm=>?_) (fun b u e=>?_) I.bare
 ·have e:b=it:=by simpa using hb
  subst e;exact⟨h1,hL,h2,h3⟩
 ·obtain⟨o,es,ep,ho,r⟩:=hm;exact⟨o,es,ep,k _ o (Ne.symm hL) ho,r⟩
 ·refine(I.cI b u e).xA (fun c v hc q=>k c v ?_ q) (fun _ q=>q) fun _ _ q=>q;rcases hc with z |z
  ·rw[z];exact SY b u e
  ·exact SY c _ z
theorem Inv.tok(I:Inv X pins σ H s)(t:Nat):Inv X pins σ H {s with toks:=t}:=I.un (h':=s.heap) (t':=t) Un.refl I.cI
theorem Inv.kept{t':Nat}(I:Inv X pins σ H s)(k:∀b u,s.heap.get? b=some u->h'.get? b=some u):Inv X pins σ H {s with heap:=h',toks:=t' }:=I.un (Un.kept k) (I.cI.kept k)
theorem Inv.laid{a:zdg}{o:HO}{t':Nat}(I:Inv X pins σ H s)(k:∀b u,s.heap.get? b=some u->h'.get? b=some u)(hp:s.heap.objs.size<=a)(new:cX X.prog X.w (upd H a o) h' a o) :
 Inv X pins σ (upd H a o) {s with heap:=h',toks:=t' }:=I.un (Un.laid k hp (I.cI.fresh hp)) (I.cI.laid k hp new)
theorem Inv.write{x e:zdg}{o:HO}{t':Nat}(I:Inv X pins σ H s)(mu:SS (H x))(he:e=x\/H e=some (.own x))(k:∀b u,b≠e->s.heap.get? b=some u->h'.get? b=some u)(R6:∃u,h'.get? e=some u)
 (new:cX X.prog X.w (upd H x o) h' x o):Inv X pins σ (upd H x o) {s with heap:=h',toks:=t' }:=I.un (Un.write mu he k R6) (I.cI.write mu he k R6 new)
theorem Inv.Ey{Ez:List (zdg×Obj)}(I:Inv X pins σ H s)(h:∀p∈Ez,s.heap.get? p.1=some p.2/\H p.1=none/\p.1≠X.env.locals/\p.1 ∉ X.fs/\∀v,p.2.data≠.cell v):Inv X Ez σ H s:=
 ⟨I.ok,I.os,I.bare,I.base,I.loc,I.cell,I.free,I.nO,fun p hp=>(zah.mp hp).elim (fun z=>I.pin p (zbW _ z)) (h p),I.cI,I.len⟩
theorem A4{N:List Str}(hN:N.Nodup){i j:Nat}{x:Str}(a:N[i]?=some x)(b:N[j]?=some x):i=j:=by
 obtain⟨h1,e1⟩:=zak.mp a;obtain⟨h2,e2⟩:=zak.mp b;exact(List.getElem_inj hN).mp (e1.trans e2.symm)
theorem yd{M:Model}{A:zdr}{E:zdh->zdq->Prop}{i:Nat}{x:Str}{v:V}{u:zdh}{Q:Unit->zdq->Prop}(I:Inv X pins σ H s)(hN:X.N.Nodup)(hi:X.N[i]?=some x)(hx:Loc X.env.scope x)(r:RelV v u)
 (h:∀s',Inv X pins (σ.set i (some v)) H s'->(∃a,Heap.SameBut a s.heap s'.heap/\(a=X.env.locals\/X.env.cells.lookup x=some a))->Q () s') (hf:X.fn x=true\/X.env.scope.names.lookup x=some .local:=by first |exact .inl rfl |exact .inr rfl |assumption):wpAny M A (storeName X.env x u) Q E s:=by
 obtain⟨m,hn,hl⟩:=id I.loc;have XD:(X.env.scope.kind==.class ||(X.env.scope.kind==.module&&X.env.locals != X.env.globals))=false:=by rw[I.ok.kind];rfl
 have S0:i<σ.length:=by rw[I.len];exact(zak.mp hi).1
 have OB:=I.OB;have tracked:∀ {a:zdg} {h':Heap},(∃o,s.heap.get? a=some o/\H a=none)->Heap.SameBut a s.heap h'->nN X.prog X.w H h':=fun {a h'} ha hs b ob e=>by
  obtain⟨_,_,og⟩:=ha;refine(I.cI b ob e).xA (fun c w' hc q=>(hs.2 c ?_).trans q) (fun _ q=>q) fun _ _ q=>q
  rintro rfl
  rcases hc with rfl |hc
  ·rw[og] at e;cases e
  ·rw[og] at hc;cases hc
 rcases hx with hk |hk
 ·refine wpAny_storeName_local hk hn (fun h' hn' hs=>?_) XD;obtain⟨oL,_,_,hoL,_⟩:=id hn;refine h _ ⟨I.ok,I.os,I.bare,⟨fun b o e n hb hx=>?_,fun b o e n hb hx=>?_,I.base.free,fun b o e hx=>?_,I.base.vP,I.base.vd,I.base.ve⟩,⟨_,hn',fun j y v' e1 e2 e3=>?_⟩,fun y c e=>?_,I.free,I.nO,fun p hp=>?_,tracked ⟨oL,hoL,I.free⟩ hs,by simpa using I.len⟩ ⟨_,hs,.inl rfl⟩
  ·exact(hs.2 b (zay (zaB (Heap.lt_size e) I.ok.above))).trans (I.base.keep b o e n hb hx)
  ·obtain⟨sl,e1⟩:=I.base.slot b o e n hb hx;exact⟨sl,(hs.2 b (zay (zaB (Heap.lt_size e) I.ok.above))).trans e1⟩
  ·obtain⟨o',e1⟩:=I.base.there b o e hx;exact⟨o',(hs.2 b (zay (zaB (Heap.lt_size e) I.ok.above))).trans e1⟩
  ·by_cases hj:j=i
   ·subst hj;rw[hi] at e1;cases e1;rw[zch S0] at e2;cases e2;exact⟨u,r,.inl ⟨hk,by simp⟩⟩
   ·rw[zct (Ne.symm hj)] at e2;obtain⟨u',r',q⟩:=hl j y v' e1 e2 e3;refine⟨u',r',?_⟩;rcases q with ⟨k,e⟩ |⟨k,c,e,z⟩
    ·refine .inl ⟨k,?_⟩;have:y≠x:=fun e=>hj (A4 hN e1 (e▸hi));simp[this,e]
    ·exact .inr ⟨k,c,e,z.sameBut hs (OB y c e)⟩
  ·obtain⟨w',z⟩:=I.cell y c e;exact⟨w',z.sameBut hs (OB y c e)⟩
  ·obtain⟨e,n,ne,nf,d⟩:=I.pin p hp;exact⟨(hs.2 p.1 ne).trans e,n,ne,nf,d⟩
 ·have PK:X.fn x=true:=by
   rcases hf with z |z
   ·exact z
   ·rw[z] at hk;cases hk
  obtain⟨c,hc⟩:=I.ok.has x (.inl hk);obtain⟨w',z⟩:=I.cell x c hc;refine wpAny_storeName_cell I.ok.kind hk hc z (fun h' S1 hs=>?_);obtain⟨oc,PL,XE⟩:=id z;refine h {s with heap:=h' } ⟨I.ok,I.os,I.bare,⟨fun b o e n hb hx=>?_,fun b o e n hb hx=>?_,I.base.free,fun b o e hx=>?_,I.base.vP,I.base.vd,I.base.ve⟩,⟨m,hn.sameBut hs (Ne.symm (OB x c hc)),fun j y v' e1 e2 e3=>?_⟩,fun y c' e=>?_,I.free,I.nO,fun p hp=>?_,tracked ⟨oc,PL,I.nO x c hc⟩ hs,by simpa using I.len⟩ ⟨c,hs,.inr hc⟩
  ·exact(hs.2 b (zay (zaB (Heap.lt_size e) (I.ok.ME x c PK hc)))).trans (I.base.keep b o e n hb hx)
  ·obtain⟨sl,e1⟩:=I.base.slot b o e n hb hx;exact⟨sl,(hs.2 b (zay (zaB (Heap.lt_size e) (I.ok.ME x c PK hc)))).trans e1⟩
  ·obtain⟨o',e1⟩:=I.base.there b o e hx;exact⟨o',(hs.2 b (zay (zaB (Heap.lt_size e) (I.ok.ME x c PK hc)))).trans e1⟩
  ·by_cases hj:j=i
   ·subst hj;rw[hi] at e1;cases e1;rw[zch S0] at e2;cases e2;exact⟨u,r,.inr ⟨.inl hk,c,hc,S1⟩⟩
   ·rw[zct (Ne.symm hj)] at e2;obtain⟨u',r',q⟩:=hl j y v' e1 e2 e3;refine⟨u',r',?_⟩;rcases q with q |⟨k,c',e,z'⟩
    ·exact .inl q
    ·refine .inr ⟨k,c',e,z'.sameBut hs ?_⟩
     rintro rfl
     exact hj (A4 hN e1 (I.ok.inj _ _ _ e hc▸hi))
  ·by_cases EA:c'=c
   ·subst EA;exact⟨_,S1⟩
   ·obtain⟨w2,z2⟩:=I.cell y c' e;exact⟨w2,z2.sameBut hs EA⟩
  ·obtain⟨e,n,ne,nf,d⟩:=I.pin p hp;refine⟨(hs.2 p.1 ?_).trans e,n,ne,nf,d⟩;intro q;rw[q,PL] at e;have q':oc=p.2:=zaT.inj e;exact d w' (by rw[<- q'];exact XE)
theorem A5{M:Model}{A:zdr}{E:zdh->zdq->Prop}{i:Nat}{x:Str}{v:V}{u:zdh}{Q:Unit->zdq->Prop}(I:Inv X pins σ H s)(hN:X.N.Nodup)(hi:X.N[i]?=some x)(hx:Loc X.env.scope x)(r:RelV v u)
 (h:∀s',Inv X pins (σ.set i (some v)) H s'->Q () s') (hf:X.fn x=true\/X.env.scope.names.lookup x=some .local:=by first |exact .inl rfl |exact .inr rfl |assumption):wpAny M A (storeName X.env x u) Q E s:=
 yd I hN hi hx r (fun s' I' _=>h s' I') hf
theorem Inv.S2{s':zdq}{ch:List zdg}(I:Inv X pins σ H s)(ho:s'.os=s.os)(u:Un (CY X.stack) ch H H' s.heap s'.heap)(cI:nN X.prog X.w H' s'.heap)(hg:AllBare s'.gens)
 (Me:∀b∈ch,(b∈X.ex\/X.s₀.heap.objs.size<=b)/\b≠X.env.locals/\(∀x c,X.env.cells.lookup x=some c->c≠b)/\∀p∈X.pn++pins,p.1≠b):Inv X pins σ H' s':=by
 obtain⟨h',g',d',t',o'⟩:=s';have e:o'=s.os:=ho;subst e;exact I.call (g':=g') (t':=t') (d':=d') u cI hg Me
end
abbrev XK:=zdh->Option zdg->Hp->Prop
abbrev St:=List (Option V)
abbrev VK:=V->Hp->Prop
abbrev TE:=St->Hp->VK->Prop
abbrev TT:=St->Hp->(Bool->Hp->Prop)->Prop
abbrev TA:=St->Hp->(List V->Hp->Prop)->Prop
structure Ends where
 nx:St->Hp->Prop
 rt:VK
 bk:St->Hp->Prop:=fun _ _=>False
 ct:St->Hp->Prop:=fun _ _=>False
abbrev TS:=Ends->St->Hp->Prop
def EP (X:Cx) (pins:List (zdg×Obj)) (σ:St) (Q:VK) (u:zdh) (s':zdq):Prop:=∃v H',Inv X pins σ H' s'/\RelV v u/\Q v H'
def TP (X:Cx) (pins:List (zdg×Obj)) (σ:St) (Q:Bool->Hp->Prop) (b:Bool) (s':zdq):Prop:=∃H',Inv X pins σ H' s'/\Q b H'
def AP (X:Cx) (pins:List (zdg×Obj)) (σ:St) (Q:List V->Hp->Prop) (us:List zdh) (s':zdq):Prop:=∃vs H',Inv X pins σ H' s'/\Vals vs us/\Q vs H'
def SP (X:Cx) (pins:List (zdg×Obj)) (D:Ends) (f:Flow) (s':zdq):Prop:=
 match f with
 |.next=>∃σ' H',Inv X pins σ' H' s'/\D.nx σ' H'
 |.brk=>∃σ' H',Inv X pins σ' H' s'/\D.bk σ' H'
 |.cont=>∃σ' H',Inv X pins σ' H' s'/\D.ct σ' H'
 |.ret u=>∃v σ' H',Inv X pins σ' H' s'/\RelV v u/\D.rt v H'
def PE (X:Cx) (e:Expr) (t:TE):Prop:=
 ∀(pins:List (zdg×Obj)) (s:zdq) (σ:St) (H:Hp) (Q:VK),Inv X pins σ H s->t σ H Q->wpAny (model X.prog X.w) X.A (eval e X.env) (EP X pins σ Q) X.xe s
def PT (X:Cx) (e:Expr) (t:TT):Prop:=
 ∀(pins:List (zdg×Obj)) (s:zdq) (σ:St) (H:Hp) (Q:Bool->Hp->Prop),Inv X pins σ H s->t σ H Q->wpAny (model X.prog X.w) X.A (isTrue e X.env (eval e X.env)) (TP X pins σ Q) X.xe s
def PW (X:Cx) (e:Expr) (t:TT):Prop:=
 ∀(whole:Sem zdh) (pins:List (zdg×Obj)) (s:zdq) (σ:St) (H:Hp) (Q:Bool->Hp->Prop),Inv X pins σ H s->t σ H Q->wpAny (model X.prog X.w) X.A (isTrue e X.env whole) (TP X pins σ Q) X.xe s
theorem PW.pt{X:Cx}{e:Expr}{t:TT}(h:PW X e t):PT X e t:=h _
def PA (X:Cx) (es:List Expr) (t:TA):Prop:=
 ∀(pos:Pos) (pins:List (zdg×Obj)) (s:zdq) (σ:St) (H:Hp) (Q:List V->Hp->Prop),Inv X pins σ H s->t σ H Q->wpAny (model X.prog X.w) X.A (spliced (backTo pos (zdm es X.env))) (AP X pins σ Q) X.xe s
def PS (X:Cx) (st:Stmt) (t:TS):Prop:=
 ∀(pins:List (zdg×Obj)) (s:zdq) (σ:St) (H:Hp) (D:Ends),Inv X pins σ H s->t D σ H->wpAny (model X.prog X.w) X.A (exec st X.env) (SP X pins D) X.xe s
def CZ (X:Cx) (st:List Stmt) (t:TS):Prop:=
 ∀(pins:List (zdg×Obj)) (s:zdq) (σ:St) (H:Hp) (D:Ends),Inv X pins σ H s->t D σ H->wpAny (model X.prog X.w) X.A (execs st X.env) (SP X pins D) X.xe s
theorem dU{α:Type}{t:Sem α}{Q Q':α->zdq->Prop}{M:Model}{A:zdr}{E:zdh->zdq->Prop}{s:zdq}(h:wpAny M A t Q E s)(hQ:∀a s,Q a s->Q' a s):wpAny M A t Q' E s:=wpAny_mono h hQ fun _ _ x=>x
section
variable{X:Cx}
theorem bin{a b:Expr}{ta tb:TE}(ha:PE X a ta)(hb:PE X b tb){pins:List (zdg×Obj)}{s:zdq}{σ:St}{H:Hp}{R:V->V->Hp->Prop}(I:Inv X pins σ H s)(h:ta σ H fun x H1=>tb σ H1 fun y H2=>R x y H2)
 {α:Type} {Q:α->zdq->Prop} {f:zdh->zdh->Sem α}
 (hf:∀v u s2 x y H2,Inv X pins σ H2 s2->RelV x v->RelV y u->R x y H2->wpAny (model X.prog X.w) X.A (f v u) Q X.xe s2) :
 wpAny (model X.prog X.w) X.A (eval a X.env) (fun v s₁=>wpAny (model X.prog X.w) X.A (eval b X.env) (fun u s₂=>wpAny (model X.prog X.w) X.A (f v u) Q X.xe s₂) X.xe s₁) X.xe s:=by
 refine dU (ha pins s σ H _ I h) fun v s1 zqz=>?_;obtain⟨x,H1,I1,r1,q1⟩:=zqz;refine dU (hb pins s1 σ H1 _ I1 q1) fun u s2 zqz=>?_;obtain⟨y,H2,I2,r2,q2⟩:=zqz;exact hf v u s2 x y H2 I2 r1 r2 q2
def vAt (Q:V->Prop):Option (Option V)->Prop
 |some (some v)=>Q v
 |_=>False
theorem PN{Q:V->Prop}:∀ {o:Option (Option V)},vAt Q o->∃v,o=some (some v)/\Q v
 |some (some v),h=>⟨v,rfl,h⟩
 |some none,h=>h.elim
 |none,h=>h.elim
def fT (i:Nat):TE:=fun σ H Q=>vAt (fun v=>Q v H) σ[i]?
def tC (v:V):TE:=fun _ H Q=>Q v H
theorem PQ{i:Nat}{x:Str}{pos:Pos}(hN:X.N[i]?=some x)(hv:SW X.env.scope x)(hd:(x==("__debug__":Str))=false:=by decide)(C0:(x==("__classdict__":Str))=false:=by decide):PE X (.Name x pos) (fT i):=by
 intro pins s σ H Q I h;obtain⟨v,e,h⟩:=PN h;obtain⟨m,hn,hl⟩:=I.loc;obtain⟨u,r,l⟩:=hl i x v hN e hv;have fin:EP X pins σ Q u s:=⟨v,H,I,r,h⟩
 rcases l with ⟨hk,hm⟩ |⟨hk,c,hc,pU⟩
 ·exact wpAny_Name (wpAny_loadName_local I.ok.kind hk hn hm fin) hd
 ·rcases hk with hk |hk
  ·exact wpAny_Name (wpAny_loadName_cell I.ok.kind hk hc pU fin) hd
  ·exact wpAny_Name (wpAny_loadName_free I.ok.kind hk hc pU fin C0) hd
theorem aj{i j pos}:PE X (.Constant (.int i) j pos) (tC (.int i)):=fun _ _ _ H _ I h=>wpAny_Constant_int ⟨.int i,H,I.tok _,⟨_,rfl⟩,h⟩
theorem gy{b j pos}:PE X (.Constant (.bool b) j pos) (tC (.bl b)):=fun _ _ _ H _ I h=>Constant_bool ⟨.bl b,H,I,rfl,h⟩
theorem iM{j pos}:PE X (.Constant .none j pos) (tC .cx):=fun _ _ _ H _ I h=>Constant_none ⟨.cx,H,I,rfl,h⟩
theorem aW{x j pos}:PE X (.Constant (.str x) j pos) (tC (.str x)):=fun _ _ _ H _ I h=>Calls.Constant_str ⟨.str x,H,I.tok _,⟨_,rfl⟩,h⟩
def Gl (X:Cx) (x:Str):Prop:=X.env.kindOf x=some .globalImplicit
theorem vy{E:zdh->zdq->Prop}{pins:List (zdg×Obj)}{s:zdq}{σ:St}{H:Hp}{x:Str}{u:zdh}{pos:Pos}{Q:zdh->zdq->Prop}(I:Inv X pins σ H s)(hg:Gl X x)(hm:X.mg x=some u)(h:Q u s)
 (hd:(x==("__debug__":Str))=false:=by decide):wpAny (model X.prog X.w) X.A (eval (.Name x pos) X.env) Q E s:=
 Calls.Name_function_global I.ok.kind hg (Calls.loadGlobal_global (by rw[I.ok.glob];exact I.mod.glob.keeps I.bk) hm h) hd
theorem oh{E:zdh->zdq->Prop}{pins:List (zdg×Obj)}{s:zdq}{σ:St}{H:Hp}{x:Str}{u:zdh}{pos:Pos}{Q:zdh->zdq->Prop}(I:Inv X pins σ H s)(hg:Gl X x)(hm:X.mg x=none)(hv:bootBuiltins x=some u)(h:Q u s)
 (hn:x≠"__name__":=by decide) (hd:(x==("__debug__":Str))=false:=by decide):wpAny (model X.prog X.w) X.A (eval (.Name x pos) X.env) Q E s:=by
 obtain⟨mb,h1,h2⟩:=I.mod.blt;exact Calls.Name_function_global I.ok.kind hg (Calls.loadGlobal_builtin (by rw[I.ok.glob];exact I.mod.glob.keeps I.bk) hm (by rw[I.ok.blt];exact h1.keeps I.bk) ((h2 x hn).trans hv) h) hd
theorem pe{x:Str}{v:V}{u:zdh}{pos:Pos}(hg:Gl X x)(hm:X.mg x=some u)(r:RelV v u)(hd:(x==("__debug__":Str))=false:=by decide):PE X (.Name x pos) (tC v):=
 fun _ _ _ H _ I h=>vy I hg hm ⟨v,H,I,r,h⟩ hd
theorem MG{x:Str}{v:V}{u:zdh}{pos:Pos}(hg:Gl X x)(hm:X.mg x=none)(hv:bootBuiltins x=some u)(r:RelV v u)(hn:x≠"__name__":=by decide)(hd:(x==("__debug__":Str))=false:=by decide):PE X (.Name x pos) (tC v):=
 fun _ _ _ H _ I h=>oh I hg hm hv ⟨v,H,I,r,h⟩ hn hd
variable{a b:Expr}{ta tb:TE}{pos:Pos}
def tB (t:TE):TT:=fun σ H Q=>t σ H fun x H1=>∃c,x=.bl c/\Q c H1
theorem mM{e:Expr}{t:TE}(h:PE X e t)(he:∀whole,isTrue e X.env whole=(do let v <- whole;standAt e.pos;holding [v] (truthy v)):=by intro _;rfl):PT X e (tB t):=by
 intro pins s σ H Q I hw;refine isTrue_plain (dU (h pins s σ H _ I hw) fun v s1 zqz=>?_) (he _);obtain⟨x,H1,I1,r1,q1⟩:=zqz;obtain⟨d,rfl,q⟩:=q1;cases r1;exact wpAny_truthy_bool ⟨H1,I1,q⟩
variable{tA Wg:TT}{rest:List Expr}
def PR (t u:TT):TT:=fun σ H Q=>t σ H fun c H1=>if c=true then u σ H1 Q else Q false H1
def XF (t u:TT):TT:=fun σ H Q=>t σ H fun c H1=>if c=true then Q true H1 else u σ H1 Q
def S3 (t:TT):TT:=fun σ H Q=>t σ H fun c H1=>Q (!c) H1
theorem pw_and1(ha:PT X a tA):PW X (.BoolOp .And [a] pos) tA:=by
 intro wh pins s σ H Q I h;refine isTrue_and (dU (ha pins s σ H Q I h) fun c s1 e=>?_);cases c with
 |true=>exact isTrue_and_nil e
 |false=>exact e
theorem pw_or1(ha:PT X a tA):PW X (.BoolOp .Or [a] pos) tA:=by
 intro wh pins s σ H Q I h;refine isTrue_or (dU (ha pins s σ H Q I h) fun c s1 e=>?_);cases c with
 |false=>exact isTrue_or_nil e
 |true=>exact e
theorem pw_and(ha:PT X a tA)(hb:PW X (.BoolOp .And (b::rest) pos) Wg):PW X (.BoolOp .And (a::b::rest) pos) (PR tA Wg):=by
 intro wh pins s σ H Q I h;refine isTrue_and (dU (ha pins s σ H _ I h) fun c s1 zqz=>?_);obtain⟨H1,I1,q1⟩:=zqz;cases c with
 |true=>exact hb wh pins s1 σ H1 Q I1 q1
 |false=>exact⟨H1,I1,q1⟩
theorem pw_or(ha:PT X a tA)(hb:PW X (.BoolOp .Or (b::rest) pos) Wg):PW X (.BoolOp .Or (a::b::rest) pos) (XF tA Wg):=by
 intro wh pins s σ H Q I h;refine isTrue_or (dU (ha pins s σ H _ I h) fun c s1 zqz=>?_);obtain⟨H1,I1,q1⟩:=zqz;cases c with
 |true=>exact⟨H1,I1,q1⟩
 |false=>exact hb wh pins s1 σ H1 Q I1 q1
theorem tm(ha:PT X a tA):PT X (.UnaryOp .Not a pos) (S3 tA):=by
 intro pins s σ H Q I h;exact isTrue_not (ha pins s σ H (fun c H1=>Q (!c) H1) I h)
def IB (ta tb:TE):TE:=fun σ H Q=>ta σ H fun x H1=>∃c,x=.bl c/\if c=true then tb σ H1 Q else Q (.bl false) H1
def IC (ta:TE):TE:=fun σ H Q=>ta σ H fun x H1=>∃c,x=.bl c/\Q (.bl (!c)) H1
theorem ID{op}{t:TE}(h:PE X a t):PE X (.BoolOp op [a] pos) t:=fun pins s σ H Q I hw=>BoolOp_one (h pins s σ H Q I hw)
theorem IE(ha:PE X a ta)(hb:PE X (.BoolOp .And (b::rest) pos) tb):PE X (.BoolOp .And (a::b::rest) pos) (IB ta tb):=by
 intro pins s σ H Q I h;refine BoolOp_and (dU (ha pins s σ H _ I h) fun v s1 zqz=>?_);obtain⟨x,H1,I1,r1,q1⟩:=zqz;obtain⟨c,rfl,q1⟩:=q1;cases r1;refine wpAny_truthy_bool ?_;cases c with
 |true=>exact hb pins s1 σ H1 Q I1 q1
 |false=>exact⟨.bl false,H1,I1,rfl,q1⟩
theorem IF(ha:PE X a ta):PE X (.UnaryOp .Not a pos) (IC ta):=by
 intro pins s σ H Q I h;refine UnaryOp_ (dU (ha pins s σ H _ I h) fun v s1 zqz=>?_);obtain⟨x,H1,I1,r1,q1⟩:=zqz;obtain⟨c,rfl,q1⟩:=q1;cases r1;exact not_of (wpAny_truthy_bool ⟨.bl (!c),H1,I1,rfl,q1⟩)
end
def gC (K:zaa) (H:Hp) (a:zdg) (xs:List V):Prop:=
 Rd H a (.lst xs)\/
  ∃(o:Obj) (its:Array zdh) (n:Nat),K.lookup a=some o/\o.cls=.type "list"/\o.dict=none/\o.data=.seq its n/\its.size<=zdo/\Vals xs its.toList
def b8 (K:zaa) (H:Hp) (a:zdg) (xs:List V):Prop:=
 Rd H a (.tup xs)\/
  ∃(o:Obj) (its:Array zdh) (n:Nat),K.lookup a=some o/\o.cls=.type "tuple"/\o.data=.seq its n/\its.size<=zdo/\Vals xs its.toList
def XG:zdh->Option V
 |.none=>some .cx
 |.bool b=>some (.bl b)
 |.int i _=>some (.int i)
 |.str x _=>some (.str x)
 |.bytes b _=>some (.Ew b)
 |.float b _=>some (.PF b)
 |.ref a=>some (.ref a)
 |.type n=>some (.ty n)
 |_=>none
theorem RelV.abs{x:V}{u:zdh}(r:RelV x u):XG u=some x:=by
 cases x with
 |cx=>cases r;rfl
 |bl _=>cases r;rfl
 |int _=>obtain⟨t,rfl⟩:=r;rfl
 |str _=>obtain⟨t,rfl⟩:=r;rfl
 |Ew _=>obtain⟨t,rfl⟩:=r;rfl
 |PF _=>obtain⟨t,rfl⟩:=r;rfl
 |ref _=>cases r;rfl
 |ty _=>cases r;rfl
theorem RelV.inj{x y:V}{u:zdh}(r:RelV x u)(q:RelV y u):x=y:=zaT.inj (r.abs.symm.trans q.abs)
theorem Vals.inj:∀ {xs ys:List V} {us:List zdh},Vals xs us->Vals ys us->xs=ys
 |_,_,_,.nil,.nil=>rfl
 |_,_,_,.cons r t,.cons r' t'=>by rw[r.inj r',Vals.inj t t']
section
variable{X:Cx}{pins:List (zdg×Obj)}{σ:St}{H:Hp}{s:zdq}{a:zdg}{xs ys:List V}
theorem gC.of{K:zaa}(h:H a=some (.lst xs)):gC K H a xs:=.inl (.inl h)
theorem b8.of{K:zaa}(h:H a=some (.tup xs)):b8 K H a xs:=.inl (.inl h)
theorem Inv.list(I:Inv X pins σ H s)(h:gC X.K H a xs):∃its:List zdh,Vals xs its/\PlainL s.heap a its.toArray/\xs.length<=zdo:=by
 rcases h with h |⟨o,its,n,hk,hc,hd,hs,hz,r⟩
 ·obtain⟨z,its,n,r,e⟩:=h.ok I.cI;exact⟨its,r,⟨_,n,e,rfl,rfl,rfl⟩,z⟩
 ·refine⟨its.toList,r,⟨o,n,I.vw a o hk,hc,hd,by simpa using hs⟩,?_⟩;have e:=r.length;simp only[za0] at e;lia
theorem Inv.tuple(I:Inv X pins σ H s)(h:b8 X.K H a xs):∃its:List zdh,Vals xs its/\IsTup s.heap a its.toArray/\xs.length<=zdo:=by
 rcases h with h |⟨o,its,n,hk,hc,hs,hz,r⟩
 ·obtain⟨z,its,r,p⟩:=h.ok I.cI;exact⟨its,r,p,z⟩
 ·refine⟨its.toList,r,⟨o,I.vw a o hk,hc,n,by simpa using hs⟩,?_⟩;have e:=r.length;simp only[za0] at e;lia
theorem Inv.A6(I:Inv X pins σ H s)(h:gC X.K H a xs)(h':gC X.K H a ys):xs=ys:=by
 obtain⟨its,r,⟨o,n,e,_,_,d⟩,_⟩:=I.list h;obtain⟨its',r',⟨o',n',e',_,_,d'⟩,_⟩:=I.list h';rw[e] at e';cases e';rw[d] at d'
 injection d' with d1 _
 have:its=its':=by simpa using congrArg zdf d1
 subst this;exact r.inj r'
theorem Inv.F4(I:Inv X pins σ H s)(h:b8 X.K H a xs)(h':b8 X.K H a ys):xs=ys:=by
 obtain⟨its,r,⟨o,e,_,n,d⟩,_⟩:=I.tuple h;obtain⟨its',r',⟨o',e',_,n',d'⟩,_⟩:=I.tuple h';rw[e] at e';cases e';rw[d] at d'
 injection d' with d1 _
 have:its=its':=by simpa using congrArg zdf d1
 subst this;exact r.inj r'
end
abbrev Cx.xB (X:Cx) (E:zdh->zdq->Prop):Cx:={X with xe:=E}
abbrev Cx.C1 (X:Cx):Cx:=X.xB fun _ _=>False
theorem Cx.Ok.xB{X:Cx}(ok:X.Ok)(E:zdh->zdq->Prop):(X.xB E).Ok:=
 ⟨ok.mod,ok.kind,ok.glob,ok.blt,ok.above,ok.inj,ok.has,ok.ME,ok.hd,ok.frames,ok.We,ok.exf,ok.bs,ok.F3,ok.IA,ok.MF,ok.pP,ok.Md⟩
theorem Cx.Ok.om{X:Cx}{E:zdh->zdq->Prop}(ok:(X.xB E).Ok):X.Ok:=
 ⟨ok.mod,ok.kind,ok.glob,ok.blt,ok.above,ok.inj,ok.has,ok.ME,ok.hd,ok.frames,ok.We,ok.exf,ok.bs,ok.F3,ok.IA,ok.MF,ok.pP,ok.Md⟩
section
variable{X:Cx}{pins:List (zdg×Obj)}{σ:St}{H:Hp}{s:zdq}{E:zdh->zdq->Prop}
theorem Inv.xB(I:Inv X pins σ H s)(E:zdh->zdq->Prop):Inv (X.xB E) pins σ H s:=⟨I.ok.xB E,I.os,I.bare,I.base,I.loc,I.cell,I.free,I.nO,I.pin,I.cI,I.len⟩
theorem Inv.om(I:Inv (X.xB E) pins σ H s):Inv X pins σ H s:=⟨I.ok.om,I.os,I.bare,I.base,I.loc,I.cell,I.free,I.nO,I.pin,I.cI,I.len⟩
theorem SP.om{D:Ends}{f:Flow}{s':zdq}(h:SP (X.xB E) pins D f s'):SP X pins D f s':=by
 cases f with
 |next=>obtain⟨σ',H',I,q⟩:=h;exact⟨σ',H',I.om,q⟩
 |brk=>obtain⟨σ',H',I,q⟩:=h;exact⟨σ',H',I.om,q⟩
 |cont=>obtain⟨σ',H',I,q⟩:=h;exact⟨σ',H',I.om,q⟩
 |ret u=>obtain⟨v,σ',H',I,r,q⟩:=h;exact⟨v,σ',H',I.om,r,q⟩
theorem CZ.C1{st:List Stmt}{t:TS}(h:CZ X.C1 st t):CZ X st t:=fun pins s σ H D I hw=>
 wpAny_mono (h pins s σ H D (I.xB _) hw) (fun _ _ q=>q.om) fun _ _ z=>False.elim z
end
section
variable{X:Cx}{st:Stmt}{rest:List Stmt}{t u:TS}{e:Expr}{te:TE}{pos:Pos}
def IG:TS:=fun D σ H=>D.nx σ H
def MH (t u:TS):TS:=fun D σ H=>t {D with nx:=u D} σ H
theorem aO:CZ X [] IG:=fun _ _ σ H _ I h=>wpAny_execs_nil ⟨σ,H,I,h⟩
theorem ai(h1:PS X st t)(h2:CZ X rest u):CZ X (st::rest) (MH t u):=by
 intro pins s σ H D I h;refine wpAny_execs_cons (dU (h1 pins s σ H {D with nx:=u D} I h) fun f s1 q=>?_);cases f with
 |next=>
  obtain⟨σ',H',I',q⟩:=q;exact h2 pins s1 σ' H' D I' q
 |ret v=>exact q
 |brk=>exact q
 |cont=>exact q
theorem ar(h1:PS X st t):CZ X [st] t:=by
 intro pins s σ H D I h;refine wpAny_execs_cons (dU (h1 pins s σ H D I h) fun f s1 q=>?_);cases f with
 |next=>exact wpAny_execs_nil q
 |ret v=>exact q
 |brk=>exact q
 |cont=>exact q
theorem Inv.quiet{pins:List (zdg×Obj)}{σ:St}{H:Hp}{s:zdq}(I:Inv X pins σ H s):interactive X.env=false:=by simp[interactive,I.ok.kind]
def IH (te:TE):TS:=fun D σ H=>te σ H fun _ H1=>D.nx σ H1
theorem c9(he:PE X e te)(hs:swapsWith e none pos.line X.env=pure false:=by rfl):PS X (.Expr e pos) (IH te):=by
 intro pins s σ H D I h;exact wpAny_Expr_any (dU (he pins s σ H _ I h) fun v s1 ⟨x,H1,I1,r1,q1⟩=>⟨σ,H1,I1,q1⟩) I.quiet hs
def PU (te:TE):TS:=fun D σ H=>te σ H D.rt
theorem aH(he:PE X e te):PS X (.Return (some e) pos) (PU te):=by
 intro pins s σ H D I h;exact wpAny_Return_some (dU (he pins s σ H _ I h) fun v s1 ⟨x,H1,I1,r1,q1⟩=>⟨x,σ,H1,I1,r1,q1⟩)
def II (c:TT) (t u:TS):TS:=fun D σ H=>c σ H fun b H1=>if b=true then t D σ H1 else u D σ H1
theorem a8{c:Expr}{a b:List Stmt}{tc:TT}(hc:PT X c tc)(ha:CZ X a t)(hb:CZ X b u):PS X (.If c a b pos) (II tc t u):=by
 intro pins s σ H D I h;refine wpAny_If (dU (hc pins s σ H _ I h) fun d s1 zqz=>?_);obtain⟨H1,I1,q1⟩:=zqz;cases d with
 |true=>exact ha pins s1 σ H1 D I1 q1
 |false=>exact hb pins s1 σ H1 D I1 q1
def PV:TS:=fun _ _ _=>False
theorem IJ:PS X st PV:=fun _ _ _ _ _ _ h=>h.elim
end
abbrev TG:=V->St->Hp->(St->Hp->Prop)->Prop
abbrev OC:=List V->St->Hp->(St->Hp->Prop)->Prop
def PG (X:Cx) (target:Expr) (t:TG):Prop:=
 ∀(pins:List (zdg×Obj)) (s:zdq) (σ:St) (H:Hp) (v:V) (u:zdh) (Q:St->Hp->Prop),Inv X pins σ H s->RelV v u->t v σ H Q->
  wpAny (model X.prog X.w) X.A (assign target X.env u) (fun _ s'=>∃σ' H',Inv X pins σ' H' s'/\Q σ' H') X.xe s
def S4 (X:Cx) (ts:List Expr) (t:OC):Prop:=
 ∀(pins:List (zdg×Obj)) (s:zdq) (σ:St) (H:Hp) (vs:List V) (us:List zdh) (Q:St->Hp->Prop),Inv X pins σ H s->Vals vs us->t vs σ H Q->
  wpAny (model X.prog X.w) X.A (assignInOrder ((assignEach ts X.env).map (·.2)) us) (fun _ s'=>∃σ' H',Inv X pins σ' H' s'/\Q σ' H') X.xe s
abbrev PX:=V->V->V->Hp->(Hp->Prop)->Prop
def S5 (X:Cx) (t:PX):Prop:=
 ∀(pins:List (zdg×Obj)) (s:zdq) (σ:St) (H:Hp) (o i v:V) (ov iv u:zdh) (Q:Hp->Prop),Inv X pins σ H s->RelV o ov->RelV i iv->RelV v u->t o i v H Q->
  wpAny (model X.prog X.w) X.A (setItem ov iv u) (fun _ s'=>∃H',Inv X pins σ H' s'/\Q H') X.xe s
section
variable{X:Cx}{pos:Pos}
def eT (i:Nat):TG:=fun v σ H Q=>Q (σ.set i (some v)) H
theorem bC{i:Nat}{x:Str}(hN:X.N.Nodup)(hi:X.N[i]?=some x)(hx:Loc X.env.scope x)(hf:X.fn x=true\/X.env.scope.names.lookup x=some .local:=by first |exact .inl rfl |exact .inr rfl |assumption):PG X (.Name x pos) (eT i):=by
 intro pins s σ H v u Q I r h;exact wpAny_assign_Name (A5 I hN hi hx r (fun s' I'=>⟨_,H,I',h⟩) hf)
def PY:OC:=fun vs σ H Q=>vs=[]/\Q σ H
def IK (t:TG) (u:OC):OC:=fun vs σ H Q=>∃v r,vs=v::r/\t v σ H fun σ' H'=>u r σ' H' Q
theorem pf:S4 X [] PY:=by
 intro pins s σ H vs us Q I r h;obtain⟨e,h⟩:=h;subst e;cases r;exact assignInOrder_nil ⟨σ,H,I,h⟩
theorem dG{e:Expr}{es:List Expr}{t:TG}{u:OC}(h1:PG X e t)(h2:S4 X es u)
 (hs:(assignEach (e::es) X.env).map (·.2)=assign e X.env::(assignEach es X.env).map (·.2):=by rfl):S4 X (e::es) (IK t u):=by
 intro pins s σ H vs us Q I r h;obtain⟨v,vr,e1,h⟩:=h;subst e1;cases r with
 |cons r rr=>
  rw[hs];refine assignInOrder_cons (dU (h1 pins s σ H _ _ _ I r h) fun _ s1 zqz=>?_);obtain⟨σ1,H1,I1,q1⟩:=zqz;exact h2 pins s1 σ1 H1 _ _ Q I1 rr q1
def MI (K:zaa) (n:Nat) (t:OC):TG:=fun v σ H Q=>∃a xs,v=.ref a/\b8 K H a xs/\xs.length=n/\t xs σ H Q
theorem tw{es:List Expr}{k:Nat}{t:OC}{n:Nat}(hc:X.calm=true)(h:S4 X es t)
 (hn:(assignEach es X.env).length=n:=by rfl) (A7:(assignEach es X.env).findIdx? (·.1)=none:=by rfl):PG X (.Tuple es k pos) (MI X.K n t):=by
 intro pins s σ H v u Q I r hw;obtain⟨a,xs,e1,hq,hl,hw⟩:=hw;subst e1;cases r;obtain⟨its,rv,ht,hz⟩:=I.tuple hq;refine assign_Tuple_tuple (I.ok.hd hc) ht (by simp[hn,<- hl,rv.length]) A7 fun h' hx=>?_;have I1:Inv X pins σ H {s with heap:=h' }:=I.kept (t':=s.toks) fun b o e=>hx b o (zay (Heap.lt_size e)) e;exact h pins _ σ H xs _ Q I1 (by simpa using rv) hw
def P0 (to ti:TE) (t:PX):TG:=fun v σ H Q=>to σ H fun o H1=>ti σ H1 fun i H2=>t o i v H2 fun H3=>Q σ H3
theorem vR{o i:Expr}{to ti:TE}{t:PX}(ho:PE X o to)(hi:PE X i ti)(hs:S5 X t)
 (ha:∀v,assign (.Subscript o i pos) X.env v=(do
  let ov <- holding [v] (eval o X.env)
  let iv <- holding [v,ov] (eval i X.env)
  standAt pos
  holding [v,ov,iv] (setItem ov iv v)
  release [v,ov,iv] []):=by intro _;rfl):PG X (.Subscript o i pos) (P0 to ti t):=by
 intro pins s σ H v u Q I r h;rw[ha];refine zdj (zdl (dU (ho pins s σ H _ I h) fun ov s1 zqz=>?_));obtain⟨x,H1,I1,r1,q1⟩:=zqz;refine zdj (zdl (dU (hi pins s1 σ H1 _ I1 q1) fun iv s2 zqz=>?_));obtain⟨y,H2,I2,r2,q2⟩:=zqz;refine zdj (wpAny_standAt (zdj (zdl (dU (hs pins s2 σ H2 x y v ov iv u _ I2 r1 r2 r q2) fun _ s3 zqz=>?_))));obtain⟨H3,I3,q3⟩:=zqz;exact wpAny_release ⟨σ,H3,I3,q3⟩
def F5 (te:TE) (g:TG):TS:=fun D σ H=>te σ H fun x H1=>g x σ H1 D.nx
theorem tx{tg e:Expr}{te:TE}{g:TG}(he:PE X e te)(hg:PG X tg g)(hs:swapsWithSole [tg] e pos.line X.env=pure false:=by rfl)(hw:swappedStores [tg] e X.env=pure none:=by rfl)
 (h1:(assignEach [tg] X.env).map (·.2)=[assign tg X.env]:=by rfl):PS X (.Assign [tg] e pos) (F5 te g):=by
 intro pins s σ H D I h;refine wpAny_Assign_stores (dU (he pins s σ H _ I h) fun v s1 zqz=>?_) hs hw;obtain⟨x,H1,I1,r1,q1⟩:=zqz;rw[h1];exact dU (hg pins s1 σ H1 x v _ I1 r1 q1) fun _ s2 q=>q
theorem cJ{i:Nat}{x:Str}{e:Expr}{te:TE}{pos':Pos}(hN:X.N.Nodup)(hi:X.N[i]?=some x)(hx:Loc X.env.scope x)(he:PE X e te)(hs:swapsWith e (some (.Name x pos')) pos.line X.env=pure false:=by rfl)(hf:X.fn x=true\/X.env.scope.names.lookup x=some .local:=by first |exact .inl rfl |exact .inr rfl |assumption) :
 PS X (.Assign [.Name x pos'] e pos) (F5 te (eT i)):=by
 intro pins s σ H D I h;refine wpAny_Assign_Name (dU (he pins s σ H _ I h) fun v s1 zqz=>?_) hs;obtain⟨y,H1,I1,r1,q1⟩:=zqz;exact A5 I1 hN hi hx r1 (fun s2 I2=>⟨_,H1,I2,q1⟩) hf
end
section
variable{X:Cx}{pos:Pos}
def C2 (c:TT) (tb:TS):TS:=fun D σ H=>∃W:Nat->St->Hp->Prop,(∃m,W m σ H)/\∀m σ H,W m σ H->
 c σ H fun b H1=>if b=true then ∃N:St->Hp->Prop,(∀σ' H',N σ' H'->∃m',m'<m/\W m' σ' H')/\tb {D with nx:=N,ct:=N,bk:=D.nx} σ H1 else D.nx σ H1
theorem A8{c:Expr}{body:List Stmt}{tc:TT}{tb:TS}(hp:PassesOwn (model X.prog X.w) X.A X.env X.xe)(hc:PT X c tc)(hb:CZ X body tb):PS X (.While c body [] pos) (C2 tc tb):=by
 intro pins s σ H D I h;obtain⟨W,⟨m0,w0⟩,turn⟩:=h;refine wpAny_While (codeAny_whileLoop (fun n s'=>∃σ' H',Inv X pins σ' H' s'/\W n σ' H') ?_ m0 ⟨σ,H,I,w0⟩)
 rintro n s1 ⟨σ1,H1,I1,w1⟩
 refine wpAny_passesOwn hp (dU (hc pins s1 σ1 H1 _ I1 (turn n σ1 H1 w1)) fun b s2 zqz=>?_);obtain⟨H2,I2,q2⟩:=zqz;cases b with
 |true=>
  obtain⟨N,hN,q2⟩:=q2;rw[if_pos rfl];refine wpAny_passesOwn hp (dU (hb pins s2 σ1 H2 _ I2 q2) fun f s3 q3=>?_);cases f with
  |next=>
   obtain⟨σ3,H3,I3,n3⟩:=q3;obtain⟨m',hm,w3⟩:=hN σ3 H3 n3;exact⟨m',hm,σ3,H3,I3,w3⟩
  |cont=>
   obtain⟨σ3,H3,I3,n3⟩:=q3;obtain⟨m',hm,w3⟩:=hN σ3 H3 n3;exact⟨m',hm,σ3,H3,I3,w3⟩
  |brk=>exact q3
  |ret v=>exact q3
 |false=>
  rw[if_neg zal];exact wpAny_execs_nil ⟨σ1,H2,I2,q2⟩
end
structure It where
 go:Nat->Hp->Prop
 A9:Nat->Hp->V->Hp->Prop
 stop:Nat->Hp->Prop
def rC (X:Cx) (pins:List (zdg×Obj)) (H:Hp) (b:zdg):Prop:=
 H b=none/\b≠X.env.locals/\b ∉ X.fs/\(b∈X.ex\/X.s₀.heap.objs.size<=b)/\(∀x c,X.env.cells.lookup x=some c->c≠b)/\∀p∈X.pn++pins,p.1≠b
theorem Inv.F8{X:Cx}{pins:List (zdg×Obj)}{σ:St}{H H':Hp}{s:zdq}{b:zdg}(I:Inv X pins σ H s)(hb:s.heap.objs.size<=b)(hn:H' b=none):rC X pins H' b:=by
 refine⟨hn,zbK (zaB I.lt hb),I.XA hb,.inr (zaA I.sz hb),fun x c e z=>?_,fun p hp z=>?_⟩
 ·obtain⟨v,q⟩:=I.cell x c e;exact absurd (zaB q.lt (by rw[z];exact hb)) (zaS _)
 ·exact absurd (zaB (Heap.lt_size (I.pin p hp).1) (by rw[z];exact hb)) (zaS _)
structure Turn(P:zds)(w:zdi)(K:zaa)(tg:Expr)(J:It)(fp:List zdg)(it:zdg)(tn:Nat->Heap->Prop):Prop where
 mem:it∈fp
 obj:∀i h,tn i h->∀b∈fp,∃o,h.get? b=some o/\∀v,o.data≠.cell v
 keep:∀i h h',tn i h->(∀b∈fp,∀o,h.get? b=some o->h'.get? b=some o)->tn i h'
 item:∀(X:Cx),X.prog=P->X.w=w->X.K=K->X.calm=true->∀(i:Nat) (pins:List (zdg×Obj)) (s:zdq) (σ:St) (H:Hp) (E:zdh->zdq->Prop),Inv X pins σ H s->(∀b∈fp,rC X pins H b)->tn i s.heap->J.go i H->
  wpAny (model P w) X.A (pyNext (.ref it)) (fun r s1=>∃u,r=some u/\
   wpAny (model P w) X.A (letOwnedTupleGo tg (.ref it) u) (fun _ s2=>∃x H',Inv X pins σ H' s2/\RelV x u/\J.A9 i H x H'/\tn (i+1) s2.heap/\∀b∈fp,H' b=none) E s1) E s
 done:∀(X:Cx),X.prog=P->X.w=w->X.K=K->X.calm=true->∀(i:Nat) (pins:List (zdg×Obj)) (s:zdq) (σ:St) (H:Hp) (E:zdh->zdq->Prop),Inv X pins σ H s->(∀b∈fp,rC X pins H b)->tn i s.heap->J.stop i H->
  wpAny (model P w) X.A (pyNext (.ref it)) (fun r s1=>r=none/\Inv X pins σ H s1) E s
 self:∀(A:zdr) (i:Nat) (s:zdq) (Q:zdh->zdq->Prop) (E:zdh->zdq->Prop),tn i s.heap->Q (.ref it) s->wpAny (model P w) A (pyIter (.ref it)) Q E s
abbrev TI:=St->Hp->(It->Hp->Prop)->Prop
def PIE (X:Cx) (pins:List (zdg×Obj)) (σ:St) (tg:Expr) (R:It->Hp->Prop) (XH:zdh) (s2:zdq):Prop:=
 ∃(it:zdg) (fp:List zdg) (tn:Nat->Heap->Prop) (J:It) (H':Hp),XH=.ref it/\Inv X pins σ H' s2/\Turn X.prog X.w X.K tg J fp it tn/\tn 0 s2.heap/\(∀b∈fp,rC X pins H' b)/\R J H'
def PI (X:Cx) (tg iter:Expr) (wi:TI):Prop:=
 ∀(pins:List (zdg×Obj)) (s:zdq) (σ:St) (H:Hp) (R:It->Hp->Prop),Inv X pins σ H s->wi σ H R->
  wpAny (model X.prog X.w) X.A (eval iter X.env) (fun v s1=>wpAny (model X.prog X.w) X.A (pyIter v) (PIE X pins σ tg R) X.xe s1) X.xe s
theorem EB{M:Model}{A:zdr}{E:zdh->zdq->Prop}{s:zdq}{tg:Expr}{it:zdg}{u:zdh}{o:Obj}{n:String}{vs:Array zdh}{Q:Unit->zdq->Prop}(ho:s.heap.get? it=some o)(hc:o.cls=.type n)(hd:o.data=.fields vs)
 (hn:["enumerate", "zip", "dict_itemiterator", "dict_reverseitemiterator", "odict_iterator", "itertools.zip_longest", "itertools.pairwise"].contains n=false) (hQ:Q () s):wpAny M A (letOwnedTupleGo tg (.ref it) u) Q E s:=by
 unfold letOwnedTupleGo;cases tg<;>first
  |exact zdk hQ
  |(cases u<;>first
     |exact zdk hQ
     |(refine zdj (wpAny_load ho ?_)
       rw[hc,hd];show wpAny M A (if (["enumerate", "zip", "dict_itemiterator", "dict_reverseitemiterator", "odict_iterator", "itertools.zip_longest", "itertools.pairwise"].contains n&&vs[0]?==some (rawInt _))=true then _ else _) Q E s;rw[if_neg (by intro h;rw[hn,zbU] at h;cases h)];exact zdk hQ))
def F9 (K:zaa) (a:zdg):It:=
 ⟨fun i H=>∃xs x,gC K H a xs/\xs[i]?=some x,fun i H x H'=>H'=H/\∀xs,gC K H a xs->xs[i]?=some x,fun i H=>∃xs,gC K H a xs/\xs.length<=i⟩
def OD (K:zaa) (a:zdg):It:=
 ⟨fun i H=>∃xs x,b8 K H a xs/\xs[i]?=some x,fun i H x H'=>H'=H/\∀xs,b8 K H a xs->xs[i]?=some x,fun i H=>∃xs,b8 K H a xs/\xs.length<=i⟩
def CM (lo:Int) (n:Nat):It:=⟨fun i _=>i<n,fun i H x H'=>H'=H/\x=.int (lo+i),fun i _=>n<=i⟩
theorem Ga{P:zds}{w:zdi}{K:zaa}{tg:Expr}(a it:zdg):Turn P w K tg (F9 K a) [it] it (fun i h=>h.IsListIter it a i) where
 mem:=by simp
 obj:=fun i h st b hb=>by
  have e:b=it:=by simpa using hb
  subst e;obtain⟨o,e,c,d⟩:=st;exact⟨o,e,fun v z=>by rw[d] at z;cases z⟩
 keep:=fun i h h' st k=>st.at fun o e=>k it (by simp) o e
 item:=by
  intro X hP hw hK hc i pins s σ H E I hf st hg;subst hP hw hK;obtain⟨xs,x,hq,hx⟩:=hg;obtain⟨its,rv,p,hz⟩:=I.list hq;obtain⟨u,hu,ru⟩:=rv.get hx;obtain⟨f0,f1,f2,f3,f4,f5⟩:=hf it (by simp);refine wpAny_pyNext_list_item st p.isList (x:=u) (by simpa using hu) fun h' sZ sb=>?_;have I1:Inv X pins σ H {s with heap:=h' }:=I.turned (t':=s.toks) (fun b o hb e=>(sb.2 b hb).trans e) f0 f1 f3 f4 f5;obtain⟨o,e,c,d⟩:=id sZ;exact⟨u,rfl,EB (s:={s with heap:=h' }) e c d (by decide) ⟨x,H,I1,ru,⟨rfl,fun ys hy=>by rw[I.A6 hy hq];exact hx⟩,sZ,fun b hb=>(hf b hb).1⟩⟩
 done:=by
  intro X hP hw hK hc i pins s σ H E I hf st hg;subst hP hw hK;obtain⟨xs,hq,hx⟩:=hg;obtain⟨its,rv,p,hz⟩:=I.list hq;obtain⟨f0,f1,f2,f3,f4,f5⟩:=hf it (by simp);have hl:=rv.length;exact wpAny_pyNext_list_end (I.ok.hd hc) st p.isList (by simp;lia) fun h' eb=>⟨rfl,I.turned (t':=s.toks) (fun b o hb e=>eb b o hb e) f0 f1 f3 f4 f5⟩
 self:=fun _ _ _ _ _ st h=>wpAny_pyIter_listiter st h
theorem C3{P:zds}{w:zdi}{K:zaa}{tg:Expr}(a it:zdg):Turn P w K tg (OD K a) [it] it (fun i h=>h.IsTupleIter it a i) where
 mem:=by simp
 obj:=fun i h st b hb=>by
  have e:b=it:=by simpa using hb
  subst e;obtain⟨o,e,c,d⟩:=st;exact⟨o,e,fun v z=>by rw[d] at z;cases z⟩
 keep:=fun i h h' st k=>st.at fun o e=>k it (by simp) o e
 item:=by
  intro X hP hw hK hc i pins s σ H E I hf st hg;subst hP hw hK;obtain⟨xs,x,hq,hx⟩:=hg;obtain⟨its,rv,p,hz⟩:=I.tuple hq;obtain⟨u,hu,ru⟩:=rv.get hx;obtain⟨f0,f1,f2,f3,f4,f5⟩:=hf it (by simp);refine wpAny_pyNext_tuple_item st (show s.heap.IsTuple a its.toArray from p) (x:=u) (by simpa using hu) fun h' sZ sb=>?_;have I1:Inv X pins σ H {s with heap:=h' }:=I.turned (t':=s.toks) (fun b o hb e=>(sb.2 b hb).trans e) f0 f1 f3 f4 f5;obtain⟨o,e,c,d⟩:=id sZ;exact⟨u,rfl,EB (s:={s with heap:=h' }) e c d (by decide) ⟨x,H,I1,ru,⟨rfl,fun ys hy=>by rw[I.F4 hy hq];exact hx⟩,sZ,fun b hb=>(hf b hb).1⟩⟩
 done:=by
  intro X hP hw hK hc i pins s σ H E I hf st hg;subst hP hw hK;obtain⟨xs,hq,hx⟩:=hg;obtain⟨its,rv,p,hz⟩:=I.tuple hq;obtain⟨f0,f1,f2,f3,f4,f5⟩:=hf it (by simp);have hl:=rv.length;exact wpAny_pyNext_tuple_end (I.ok.hd hc) st (show s.heap.IsTuple a its.toArray from p) (by simp;lia) fun h' eb=>⟨rfl,I.turned (t':=s.toks) (fun b o hb e=>eb b o hb e) f0 f1 f3 f4 f5⟩
 self:=fun _ _ _ _ _ st h=>wpAny_pyIter_tupleiter st h
theorem C4{P:zds}{w:zdi}{K:zaa}{tg:Expr}(it:zdg)(lo:Int)(n:Nat):Turn P w K tg (CM lo n) [it] it (fun i h=>IsRangeIter h it (lo+(i:Nat)*1) ((n:Int)-(i:Nat)) 1) where
 mem:=by simp
 obj:=fun i h st b hb=>by
  have e:b=it:=by simpa using hb
  subst e;exact⟨_,st,fun v z=>by
   have z':Data.fields _=Data.cell v:=z;cases z'⟩
 keep:=fun i h h' st k=>k it (by simp) _ st
 item:=by
  intro X hP hw hK hc i pins s σ H E I hf st hg;subst hP hw hK;obtain⟨f0,f1,f2,f3,f4,f5⟩:=hf it (by simp);have W:=Walks.range (prog:=X.prog) (w:=X.w) (I.ok.hd hc) it lo 1 n;refine W.item i s _ _ hg st fun v h' tk hv sZ kk=>?_;obtain⟨t,rfl⟩:=hv;have I1:Inv X pins σ H {s with heap:=h',toks:=tk}:=I.turned (fun b o hb e=>kk b o (by simpa using hb) e) f0 f1 f3 f4 f5;refine⟨_,rfl,EB (s:={s with heap:=h',toks:=tk}) (n:="range_iterator") sZ rfl rfl (by decide) ⟨.int (lo+i),H,I1,⟨t,?_⟩,⟨rfl,rfl⟩,sZ,fun b hb=>(hf b hb).1⟩⟩;rw[Int.mul_one]
 done:=by
  intro X hP hw hK hc i pins s σ H E I hf st hg;subst hP hw hK;obtain⟨f0,f1,f2,f3,f4,f5⟩:=hf it (by simp);exact wpAny_pyNext_range_end (I.ok.hd hc) st (by have:n<=i:=hg;lia) fun h' eb=>⟨rfl,I.turned (t':=s.toks) (fun b o hb e=>eb b o hb e) f0 f1 f3 f4 f5⟩
 self:=fun _ _ _ _ _ st h=>wpAny_pyIter_rangeiter st h
section
variable{X:Cx}{tg:Expr}
def EC (K:zaa) (tl:TE):TI:=fun σ H R=>tl σ H fun x H1=>∃a,x=.ref a/\(∃xs,gC K H1 a xs)/\R (F9 K a) H1
def S6 (K:zaa) (tl:TE):TI:=fun σ H R=>tl σ H fun x H1=>∃a,x=.ref a/\(∃xs,b8 K H1 a xs)/\R (OD K a) H1
theorem bD{l:Expr}{tl:TE}(hl:PE X l tl):PI X tg l (EC X.K tl):=by
 intro pins s σ H R I h;refine dU (hl pins s σ H _ I h) fun v s1 zqz=>?_;obtain⟨x,H1,I1,r1,q1⟩:=zqz;obtain⟨a,e,⟨xs,hq⟩,q⟩:=q1;subst e;cases r1;obtain⟨its,rv,p,hz⟩:=I1.list hq;refine wpAny_pyIter_list p.isList ?_;refine⟨s1.heap.objs.size,[s1.heap.objs.size],_,_,H1,rfl,I1.kept (t':=s1.toks) fun b o e=>Heap.get?_push_of_some _ e,Ga a _,⟨_,Heap.get?_push_size _ rfl,rfl,rfl⟩,fun b hb=>?_,q⟩;have e:b=s1.heap.objs.size:=by simpa using hb
 subst e;exact I1.F8 (zaj _) (I1.cI.fresh (zaj _))
theorem Qa{l:Expr}{tl:TE}(hl:PE X l tl):PI X tg l (S6 X.K tl):=by
 intro pins s σ H R I h;refine dU (hl pins s σ H _ I h) fun v s1 zqz=>?_;obtain⟨x,H1,I1,r1,q1⟩:=zqz;obtain⟨a,e,⟨xs,hq⟩,q⟩:=q1;subst e;cases r1;obtain⟨its,rv,p,hz⟩:=I1.tuple hq;refine wpAny_pyIter_tuple (show s1.heap.IsTuple a its.toArray from p) ?_;refine⟨s1.heap.objs.size,[s1.heap.objs.size],_,_,H1,rfl,I1.kept (t':=s1.toks) fun b o e=>Heap.get?_push_of_some _ e,C3 a _,⟨_,Heap.get?_push_size _ rfl,rfl,rfl⟩,fun b hb=>?_,q⟩;have e:b=s1.heap.objs.size:=by simpa using hb
 subst e;exact I1.F8 (zaj _) (I1.cI.fresh (zaj _))
theorem Ba{pins:List (zdg×Obj)}{σ:St}{H:Hp}{s:zdq}{R:It->Hp->Prop}{E:zdh->zdq->Prop}{lo hi:Int}{t u v:Tok}{tk:Nat}(I:Inv X pins σ H s)(h1 : -(2 ^ 62)<=lo)(h2:lo<2 ^ 62)(h3 : -(2 ^ 62)<=hi)(h4:hi<2 ^ 62)
 (q:R (CM lo (hi-lo).toNat) H):wpAny (model X.prog X.w) X.A (pyIter (.ref s.heap.objs.size)) (PIE X pins σ tg R) E {s with heap:=s.heap.push {cls:=.type "range",data:=.fields #[.int lo t,.int hi u,.int 1 v]},toks:=tk}:=by
 refine wpAny_pyIter_range (IsRange.new ..) (small_one h1 h2 h3 h4) ?_;have I1:Inv X pins σ H {s with heap:=s.heap.push {cls:=.type "range",data:=.fields #[.int lo t,.int hi u,.int 1 v]},toks:=tk}:=I.kept fun b o e=>Heap.get?_push_of_some _ e;refine⟨(s.heap.push {cls:=.type "range",data:=.fields #[.int lo t,.int hi u,.int 1 v]}).objs.size,[(s.heap.push {cls:=.type "range",data:=.fields #[.int lo t,.int hi u,.int 1 v]}).objs.size],_,_,H,rfl,
  I1.kept (t':=tk) fun b o e=>Heap.get?_push_of_some _ e,C4 _ lo (hi-lo).toNat,?_,fun b hb=>?_,q⟩
 ·have e1:lo+((0:Nat):Int)*1=lo:=by simp
  have e2:(((hi-lo).toNat:Nat):Int)-((0:Nat):Int)=Builtin.Range.rangeSize lo hi 1:=by rw[rangeSize_one];split<;>lia
  show IsRangeIter _ _ (lo+((0:Nat):Int)*1) ((((hi-lo).toNat:Nat):Int)-((0:Nat):Int)) 1;rw[e1,e2];exact Heap.get?_push_size _ rfl
 ·have e:b=(s.heap.push {cls:=.type "range",data:=.fields #[.int lo t,.int hi u,.int 1 v]}).objs.size:=by simpa using hb
  subst e;exact I1.F8 (zaj _) (I1.cI.fresh (zaj _))
def ED (ta:TA):TI:=fun σ H R=>ta σ H fun vs H1=>∃j:Int,vs=[.int j]/\-(2 ^ 62)<=j/\j<2 ^ 62/\R (CM 0 j.toNat) H1
def EE (ta:TA):TI:=fun σ H R=>ta σ H fun vs H1=>∃i j:Int,vs=[.int i,.int j]/\(-(2 ^ 62)<=i/\i<2 ^ 62/\-(2 ^ 62)<=j/\j<2 ^ 62)/\R (CM i (j-i).toNat) H1
theorem pj{a:Expr}{ta:TA}{p pos:Pos}(hg:Gl X "range")(hm:X.mg "range"=none)(ha:PA X [a] ta)(hs:zdm [a] X.env=[(false,eval a X.env)]:=by rfl):PI X tg (.Call (.Name "range" p) [a] [] pos) (ED ta):=by
 intro pins s σ H R I h;refine Call_ (oh I hg hm boot_range (za9 (dU (ha pos pins s σ H _ I h) fun us s1 zqz=>?_) hs rfl));obtain⟨vs,H1,I1,r1,q1⟩:=zqz;obtain⟨j,e,q1,q2,q⟩:=q1;subst e;cases r1 with
 |cons r rr=>
  cases rr;obtain⟨t,rfl⟩:=r;exact call_range_1 (Ba I1 (by lia) (by lia) q1 q2 (by simpa using q))
theorem yf{a b:Expr}{ta:TA}{p pos:Pos}(hg:Gl X "range")(hm:X.mg "range"=none)(ha:PA X [a,b] ta)(hs:zdm [a,b] X.env=[(false,eval a X.env),(false,eval b X.env)]:=by rfl)(vS:zdm [b] X.env=[(false,eval b X.env)]:=by rfl) :
 PI X tg (.Call (.Name "range" p) [a,b] [] pos) (EE ta):=by
 intro pins s σ H R I h;refine Call_ (oh I hg hm boot_range (za9 (dU (ha pos pins s σ H _ I h) fun us s1 ⟨vs,H1,I1,r1,q1⟩=>?_) (by rw[hs,vS]) (by rw[vS];rfl)));obtain⟨i,j,e,⟨q1,q2,q3,q4⟩,q⟩:=q1;subst e;cases r1 with
 |cons r rr=>
  cases rr with
  |cons r' rr=>
   cases rr;obtain⟨t,rfl⟩:=r;obtain⟨t',rfl⟩:=r';exact call_range_2 (Ba I1 q1 q2 q3 q4 q)
def C5 (wi:TI) (g:TG) (tb:TS):TS:=fun D σ H=>wi σ H fun J H1=>∃W:Nat->Nat->St->Hp->Prop,(∃m,W 0 m σ H1)/\∀i m σ H,W i m σ H->
 (J.stop i H/\D.nx σ H)\/(J.go i H/\∃N:St->Hp->Prop,(∀σ' H',N σ' H'->∃m',m'<m/\W (i+1) m' σ' H')/\∀x H',J.A9 i H x H'->g x σ H' fun σ2 H2=>tb {D with nx:=N,ct:=N,bk:=D.nx} σ2 H2)
def vT (fp:List zdg) (h:Heap):List (zdg×Obj):=fp.filterMap fun b=>(h.get? b).map fun o=>(b,o)
theorem mN{fp:List zdg}{h:Heap}{b:zdg}{o:Obj}(hb:b∈fp)(e:h.get? b=some o):(b,o)∈vT fp h:=zb7.mpr ⟨b,hb,by rw[e];rfl⟩
theorem Gb{fp:List zdg}{h:Heap}{p:zdg×Obj}(hp:p∈vT fp h):p.1∈fp/\h.get? p.1=some p.2:=by
 obtain⟨b,hb,e⟩:=zb7.mp hp;cases q:h.get? b with
 |none=>rw[q] at e;cases e
 |some o=>
  rw[q] at e;have e':(b,o)=p:=zaT.inj e;subst e';exact⟨hb,q⟩
theorem Inv.pinned{pins:List (zdg×Obj)}{σ:St}{H:Hp}{s:zdq}{fp:List zdg}(I:Inv X pins σ H s)(hf:∀b∈fp,rC X pins H b)(ho:∀b∈fp,∃o,s.heap.get? b=some o/\∀v,o.data≠.cell v):Inv X (pins++vT fp s.heap) σ H s:=
 I.Ey fun p hp=>(zah.mp hp).elim (fun z=>I.pin p (zaM _ z)) fun z=>by
  obtain⟨hb,e⟩:=Gb z;obtain⟨f0,f1,f2,_⟩:=hf p.1 hb;obtain⟨o,e',d⟩:=ho p.1 hb;rw[e] at e';cases e';exact⟨e,f0,f1,f2,d⟩
theorem Inv.rD{pins pl:List (zdg×Obj)}{σ:St}{H:Hp}{s:zdq}(I:Inv X (pins++pl) σ H s):Inv X pins σ H s:=I.Ey fun p hp=>I.pin p (zaM _ (zbW _ hp))
theorem dB{iter:Expr}{body:List Stmt}{wi:TI}{g:TG}{tb:TS}{pos:Pos}(hp:PassesOwn (model X.prog X.w) X.A X.env X.xe)(hc:X.calm=true)(hi:PI X tg iter wi)(hg:PG X tg g)(hb:CZ X body tb)
 (hs:∀x,foldedSetIterable iter X.env x=pure x:=by intro _;rfl):PS X (.For tg iter body [] pos) (C5 wi g tb):=by
 intro pins s σ H D I h;refine wpAny_For (dU (hi pins s σ H _ I h) fun v s1 h1=>dU h1 fun XH s2 h2=>?_) hs;obtain⟨it,fp,tn,J,H2,e,I2,T,uC,f2,W,⟨m0,w0⟩,turn⟩:=h2;subst e;have stat:∀ {H':Hp},(∀b∈fp,H' b=none)->∀b∈fp,rC X pins H' b:=fun hn b hb=>⟨hn b hb,(f2 b hb).2⟩
 refine codeAny_forLoop_any (fun n s'=>∃i σ' H',Inv X pins σ' H' s'/\tn i s'.heap/\(∀b∈fp,H' b=none)/\W i n σ' H') ?_ m0 ⟨0,σ,H2,I2,uC,fun b hb=>(f2 b hb).1,w0⟩
 rintro n s3 ⟨i,σ3,H3,I3,Ik,S7,w3⟩
 rcases turn i n σ3 H3 w3 with ⟨stop,qn⟩ |⟨go,N,hN,step⟩
 ·refine wpAny_passesOwn hp (dU (T.done X rfl rfl rfl hc i pins s3 σ3 H3 X.xe I3 (stat S7) Ik stop) fun r s4 zqz=>?_);obtain⟨hr,I4⟩:=zqz;subst hr;exact wpAny_execs_nil ⟨σ3,H3,I4,qn⟩
 ·refine wpAny_passesOwn hp (dU (T.item X rfl rfl rfl hc i pins s3 σ3 H3 X.xe I3 (stat S7) Ik go) fun r s4 zqz=>?_);obtain⟨u,hr,h4⟩:=zqz;subst hr;refine wpAny_passesOwn hp (dU h4 fun _ s5 zqz=>?_);obtain⟨x,H5,I5,r5,y5,Il,XI⟩:=zqz;have XJ:=I5.pinned (stat XI) (T.obj _ _ Il);refine wpAny_passesOwn hp (dU (hg _ s5 σ3 H5 x u _ XJ r5 (step x H5 y5)) fun _ s6 zqz=>?_);obtain⟨σ6,H6,I6,q6⟩:=zqz;refine wpAny_passesOwn hp (dU (hb _ s6 σ6 H6 _ I6 q6) fun f s7 q7=>?_);have again:∀ {σ7:St} {H7:Hp},Inv X (pins++vT fp s5.heap) σ7 H7 s7->N σ7 H7->∃m,m<n/\∃i σ' H',Inv X pins σ' H' s7/\tn i s7.heap/\(∀b∈fp,H' b=none)/\W i m σ' H':=fun {σ7 H7} I7 n7=>by
   obtain⟨m',hm,w7⟩:=hN σ7 H7 n7;refine⟨m',hm,i+1,σ7,H7,I7.rD,T.keep _ _ _ Il fun b hb o e=>(I7.pin (b,o) (zaM _ (zaM _ (mN hb e)))).1,fun b hb=>?_,w7⟩;obtain⟨o,e,d⟩:=T.obj _ _ Il b hb;exact(I7.pin (b,o) (zaM _ (zaM _ (mN hb e)))).2.1
  cases f with
  |next=>obtain⟨σ7,H7,I7,n7⟩:=q7;exact again I7 n7
  |cont=>obtain⟨σ7,H7,I7,n7⟩:=q7;exact again I7 n7
  |brk=>obtain⟨σ7,H7,I7,q7⟩:=q7;exact⟨σ7,H7,I7.rD,q7⟩
  |ret v=>obtain⟨x7,σ7,H7,I7,r7,q7⟩:=q7;exact⟨x7,σ7,H7,I7.rD,r7,q7⟩
end
theorem dH{K:zaa}{a:zdg}{xs:List V}{g:TG}{tb:TS}{D:Ends}{σ:St}{H:Hp}(Pv:Nat->St->Hp->Prop)(h0:Pv 0 σ H)(hl:∀i σ H,i<=xs.length->Pv i σ H->gC K H a xs)
 (hs:∀i x σ H,xs[i]?=some x->Pv i σ H->g x σ H fun σ2 H2=>tb {D with nx:=Pv (i+1),ct:=Pv (i+1),bk:=D.nx} σ2 H2) (hd:∀σ H,Pv xs.length σ H->D.nx σ H) :
 ∃W:Nat->Nat->St->Hp->Prop,(∃m,W 0 m σ H)/\∀i m σ H,W i m σ H->
  ((F9 K a).stop i H/\D.nx σ H)\/((F9 K a).go i H/\∃N:St->Hp->Prop,(∀σ' H',N σ' H'->∃m',m'<m/\W (i+1) m' σ' H')/\∀x H',(F9 K a).A9 i H x H'->g x σ H' fun σ2 H2=>tb {D with nx:=N,ct:=N,bk:=D.nx} σ2 H2):=by
 refine⟨fun i m σ H=>m=xs.length-i/\i<=xs.length/\Pv i σ H,⟨xs.length,by simp,za2 _,h0⟩,?_⟩
 rintro i m σ H ⟨rfl,hi,p⟩
 have q:=hl i σ H hi p;by_cases rj:i<xs.length
 ·refine .inr ⟨⟨xs,xs[i],q,by simp[rj]⟩,Pv (i+1),fun σ' H' p'=>⟨xs.length-(i+1),by lia,rfl,rj,p'⟩,fun x H' y=>?_⟩;obtain⟨e,y⟩:=y;subst e;exact hs i x σ _ (y xs q) p
 ·have e:i=xs.length:=by lia
  subst e;exact .inl ⟨⟨xs,q,zaj _⟩,hd σ H p⟩
theorem MJ{K:zaa}{a:zdg}{xs:List V}{g:TG}{tb:TS}{D:Ends}{σ:St}{H:Hp}(Pv:Nat->St->Hp->Prop)(h0:Pv 0 σ H)(hl:∀i σ H,i<=xs.length->Pv i σ H->b8 K H a xs)
 (hs:∀i x σ H,xs[i]?=some x->Pv i σ H->g x σ H fun σ2 H2=>tb {D with nx:=Pv (i+1),ct:=Pv (i+1),bk:=D.nx} σ2 H2) (hd:∀σ H,Pv xs.length σ H->D.nx σ H) :
 ∃W:Nat->Nat->St->Hp->Prop,(∃m,W 0 m σ H)/\∀i m σ H,W i m σ H->
  ((OD K a).stop i H/\D.nx σ H)\/((OD K a).go i H/\∃N:St->Hp->Prop,(∀σ' H',N σ' H'->∃m',m'<m/\W (i+1) m' σ' H')/\∀x H',(OD K a).A9 i H x H'->g x σ H' fun σ2 H2=>tb {D with nx:=N,ct:=N,bk:=D.nx} σ2 H2):=by
 refine⟨fun i m σ H=>m=xs.length-i/\i<=xs.length/\Pv i σ H,⟨xs.length,by simp,za2 _,h0⟩,?_⟩
 rintro i m σ H ⟨rfl,hi,p⟩
 have q:=hl i σ H hi p;by_cases rj:i<xs.length
 ·refine .inr ⟨⟨xs,xs[i],q,by simp[rj]⟩,Pv (i+1),fun σ' H' p'=>⟨xs.length-(i+1),by lia,rfl,rj,p'⟩,fun x H' y=>?_⟩;obtain⟨e,y⟩:=y;subst e;exact hs i x σ _ (y xs q) p
 ·have e:i=xs.length:=by lia
  subst e;exact .inl ⟨⟨xs,q,zaj _⟩,hd σ H p⟩
theorem tE{lo:Int}{n:Nat}{g:TG}{tb:TS}{D:Ends}{σ:St}{H:Hp}(Pv:Nat->St->Hp->Prop)(h0:Pv 0 σ H)
 (hs:∀i σ H,i<n->Pv i σ H->g (.int (lo+i)) σ H fun σ2 H2=>tb {D with nx:=Pv (i+1),ct:=Pv (i+1),bk:=D.nx} σ2 H2) (hd:∀σ H,Pv n σ H->D.nx σ H) :
 ∃W:Nat->Nat->St->Hp->Prop,(∃m,W 0 m σ H)/\∀i m σ H,W i m σ H->
  ((CM lo n).stop i H/\D.nx σ H)\/((CM lo n).go i H/\∃N:St->Hp->Prop,(∀σ' H',N σ' H'->∃m',m'<m/\W (i+1) m' σ' H')/\∀x H',(CM lo n).A9 i H x H'->g x σ H' fun σ2 H2=>tb {D with nx:=N,ct:=N,bk:=D.nx} σ2 H2):=by
 refine⟨fun i m σ H=>m=n-i/\i<=n/\Pv i σ H,⟨n,by simp,za2 _,h0⟩,?_⟩
 rintro i m σ H ⟨rfl,hi,p⟩
 by_cases rj:i<n
 ·refine .inr ⟨rj,Pv (i+1),fun σ' H' p'=>⟨n-(i+1),by lia,rfl,rj,p'⟩,fun x H' y=>?_⟩;obtain⟨e,y⟩:=y;subst e y;exact hs i σ _ rj p
 ·have e:i=n:=by lia
  subst e;exact .inl ⟨zaj _,hd σ H p⟩
abbrev R2:=V->V->Hp->VK->Prop
def nZ (X:Cx) (f:zdh->zdh->Sem zdh) (r:R2):Prop:=
 ∀(pins:List (zdg×Obj)) (s:zdq) (σ:St) (H:Hp) (x y:V) (v u:zdh) (Q:VK),Inv X pins σ H s->RelV x v->RelV y u->r x y H Q->
  wpAny (model X.prog X.w) X.A (f v u) (EP X pins σ Q) X.xe s
def XM (X:Cx) (f:zdh->Sem zdh) (r:V->Hp->VK->Prop):Prop:=
 ∀(pins:List (zdg×Obj)) (s:zdq) (σ:St) (H:Hp) (x:V) (v:zdh) (Q:VK),Inv X pins σ H s->RelV x v->r x H Q->
  wpAny (model X.prog X.w) X.A (f v) (EP X pins σ Q) X.xe s
def jE (X:Cx) (f:zdh) (r:List V->Hp->VK->Prop):Prop:=
 ∀(pins:List (zdg×Obj)) (s:zdq) (σ:St) (H:Hp) (xs:List V) (us:List zdh) (Q:VK),Inv X pins σ H s->Vals xs us->r xs H Q->
  wpAny (model X.prog X.w) X.A (call f us) (EP X pins σ Q) X.xe s
def XN (X:Cx) (r:V->Hp->(Bool->Hp->Prop)->Prop):Prop:=
 ∀(pins:List (zdg×Obj)) (s:zdq) (σ:St) (H:Hp) (x:V) (v:zdh) (Q:Bool->Hp->Prop),Inv X pins σ H s->RelV x v->r x H Q->
  wpAny (model X.prog X.w) X.A (truthy v) (TP X pins σ Q) X.xe s
def S8 (r:R2) (ta tb:TE):TE:=fun σ H Q=>ta σ H fun x H1=>tb σ H1 fun y H2=>r x y H2 Q
def XO (r:V->Hp->VK->Prop) (ta:TE):TE:=fun σ H Q=>ta σ H fun x H1=>r x H1 Q
def rI (C:Int->Int->Prop) (g:Int->Int->V):R2:=fun x y H Q=>∃i j,x=.int i/\y=.int j/\C i j/\Q (g i j) H
def Qb (g:Int->Int->V):R2:=fun x y H Q=>∃i j,x=.int i/\y=.int j/\Q (g i j) H
def rU (g:Int->V):V->Hp->VK->Prop:=fun x H Q=>∃i,x=.int i/\Q (g i) H
section
variable{X:Cx}{a b c:Expr}{ta tb tc:TE}{pos:Pos}
theorem Qc(ha:PE X a ta)(hb:PE X b tb){pins:List (zdg×Obj)}{s:zdq}{σ:St}{H:Hp}{R:V->V->Hp->Prop}(I:Inv X pins σ H s)
 (h:ta σ H fun x H1=>tb σ H1 fun y H2=>R x y H2) {Q:zdh->zdq->Prop} {f:zdh->zdh->Sem zdh}
 (hf:∀v u s2 x y H2,Inv X pins σ H2 s2->RelV x v->RelV y u->R x y H2->wpAny (model X.prog X.w) X.A (f v u) Q X.xe s2) :
 wpAny (model X.prog X.w) X.A (eval a X.env) (fun v s₁=>wpAny (model X.prog X.w) X.A (eval b X.env) (fun u s₂=>wpAny (model X.prog X.w) X.A (f v u) Q X.xe s₂) X.xe s₁) X.xe s:=by
 refine dU (ha pins s σ H _ I h) fun v s1 zqz=>?_;obtain⟨x,H1,I1,r1,q1⟩:=zqz;refine dU (hb pins s1 σ H1 _ I1 q1) fun u s2 zqz=>?_;obtain⟨y,H2,I2,r2,q2⟩:=zqz;exact hf v u s2 x y H2 I2 r1 r2 q2
theorem bz{op:Operator}{r:R2}(ho:nZ X (binaryOp op) r)(ha:PE X a ta)(hb:PE X b tb):PE X (.BinOp a op b pos) (S8 r ta tb):=by
 intro pins s σ H Q I h;exact wpAny_BinOp (Qc ha hb I h fun v u s2 x y H2 I2 rx ry q=>ho pins s2 σ H2 x y v u Q I2 rx ry q)
theorem rE{op:UnaryOp}{r:V->Hp->VK->Prop}(ho:XM X (unaryOp op) r)(ha:PE X a ta):PE X (.UnaryOp op a pos) (XO r ta):=by
 intro pins s σ H Q I h;exact UnaryOp_ (dU (ha pins s σ H _ I h) fun v s1 ⟨x,H1,I1,r1,q1⟩=>ho pins s1 σ H1 x v Q I1 r1 q1)
theorem S9{f:zdh->zdh->Sem zdh}{C:Int->Int->Prop}{g:Int->Int->Int}
 (rule:∀(i j:Int) (t u:Tok) (s:zdq) (Q:zdh->zdq->Prop) (E:zdh->zdq->Prop),C i j->Q (.int (g i j) s.toks) {s with toks:=s.toks+1}->wpAny (model X.prog X.w) X.A (f (.int i t) (.int j u)) Q E s) :
 nZ X f (rI C fun i j=>.int (g i j)):=by
 intro pins s σ H x y v u Q I rx ry h;obtain⟨i,j,rfl,rfl,hc,q⟩:=h;obtain⟨t,rfl⟩:=rx;obtain⟨t',rfl⟩:=ry;exact rule i j t t' s _ _ hc ⟨.int (g i j),H,I.tok _,⟨_,rfl⟩,q⟩
theorem Ta{f:zdh->zdh->Sem zdh}{g:Int->Int->Int}
 (rule:∀(i j:Int) (t u:Tok) (s:zdq) (Q:zdh->zdq->Prop) (E:zdh->zdq->Prop),Q (.int (g i j) s.toks) {s with toks:=s.toks+1}->wpAny (model X.prog X.w) X.A (f (.int i t) (.int j u)) Q E s) :
 nZ X f (Qb fun i j=>.int (g i j)):=by
 intro pins s σ H x y v u Q I rx ry h;obtain⟨i,j,rfl,rfl,q⟩:=h;obtain⟨t,rfl⟩:=rx;obtain⟨t',rfl⟩:=ry;exact rule i j t t' s _ _ ⟨.int (g i j),H,I.tok _,⟨_,rfl⟩,q⟩
theorem Tb{f:zdh->zdh->Sem zdh}{g:Int->Int->Bool}
 (rule:∀(i j:Int) (t u:Tok) (s:zdq) (Q:zdh->zdq->Prop) (E:zdh->zdq->Prop),Q (.bool (g i j)) s->wpAny (model X.prog X.w) X.A (f (.int i t) (.int j u)) Q E s) :
 nZ X f (Qb fun i j=>.bl (g i j)):=by
 intro pins s σ H x y v u Q I rx ry h;obtain⟨i,j,rfl,rfl,q⟩:=h;obtain⟨t,rfl⟩:=rx;obtain⟨t',rfl⟩:=ry;exact rule i j t t' s _ _ ⟨.bl (g i j),H,I,rfl,q⟩
def Tc (i j:Int):Prop:=0<j/\j<1073741824
def XQ (i j:Int):Prop:=0<=j/\j<=1000000/\i.natAbs<2 ^ 64
def MK (i j:Int):Prop:=(-(2 ^ 64)<i/\i<2 ^ 64)\/(-(2 ^ 64)<j/\j<2 ^ 64)
theorem MK.ok{i j:Int}(h:MK i j):IntMulOk i j:=by
 rcases h with ⟨h1,h2⟩ |⟨h1,h2⟩
 ·exact .of_left (intBits_le_64 h1 h2)
 ·exact .of_right (intBits_le_64 h1 h2)
theorem fH:nZ X (binaryOp .Add) (Qb fun i j=>.int (i+j)):=Ta fun _ _ _ _ _ _ _ q=>add_int q
theorem C6:nZ X (binaryOp .Sub) (Qb fun i j=>.int (i-j)):=Ta fun _ _ _ _ _ _ _ q=>sub_int q
theorem tG:nZ X (binaryOp .Mult) (rI MK fun i j=>.int (i*j)):=S9 fun _ _ _ _ _ _ _ hc q=>mul_int q hc.ok
theorem EF:nZ X (binaryOp .FloorDiv) (rI Tc fun i j=>.int (i/j)):=S9 fun i j _ _ _ _ _ hc q=>by
 have h1:(0:Int)<j:=hc.1;have h2:j<1073741824:=hc.2;exact floordiv_int (by lia) (by rw[Int.fdiv_eq_ediv_of_nonneg i (by lia)];exact q) (.inl (PyProof.noPylong_small (by lia)))
theorem ke:nZ X (binaryOp .Mod) (rI (fun _ j=>0<j) fun i j=>.int (i%j)):=S9 fun i j _ _ _ _ _ hc q=>by
 have h1:(0:Int)<j:=hc;exact mod_int' (by lia) (by rw[Int.fmod_eq_emod_of_nonneg i (by lia)];exact q)
theorem Qd:nZ X (binaryOp .Pow) (rI XQ fun i j=>.int (i ^ j.toNat)):=S9 fun _ _ _ _ _ _ _ hc q=>pow_int_small hc.1 hc.2.1 hc.2.2 q
theorem unI{f:zdh->Sem zdh}{g:Int->Int}
 (rule:∀(i:Int) (t:Tok) (s:zdq) (Q:zdh->zdq->Prop) (E:zdh->zdq->Prop),Q (.int (g i) s.toks) {s with toks:=s.toks+1}->wpAny (model X.prog X.w) X.A (f (.int i t)) Q E s) :
 XM X f (rU fun i=>.int (g i)):=by
 intro pins s σ H x v Q I rx h;obtain⟨i,rfl,q⟩:=h;obtain⟨t,rfl⟩:=rx;exact rule i t s _ _ ⟨.int (g i),H,I.tok _,⟨_,rfl⟩,q⟩
theorem mO:XM X (unaryOp .USub) (rU fun i=>.int (-i)):=unI fun _ _ _ _ _ q=>neg_int q
end
def C7:V->V->Bool
 |.cx,.cx=>true |.cx,.int _=>true |.int _,.cx=>true |.cx,.bl _=>true |.bl _,.cx=>true |.cx,.str _=>true |.str _,.cx=>true
 |.int _,.int _=>true |.bl _,.bl _=>true |.str _,.str _=>true |.Ew _,.Ew _=>true
 |.int _,.str _=>true |.str _,.int _=>true |.bl _,.str _=>true |.str _,.bl _=>true
 |_,_=>false
def rEq:R2:=fun x y H Q=>C7 x y=true/\Q (.bl (decide (x=y))) H
def rNe:R2:=fun x y H Q=>C7 x y=true/\Q (.bl (!decide (x=y))) H
theorem EG{i j:Int}:decide (V.int i=V.int j)=(i==j):=by
 rw[zb4];simp
theorem IL{i j:Bool}:decide (V.bl i=V.bl j)=(i==j):=by
 rw[zb4];simp
theorem EH{i j:Str}:decide (V.str i=V.str j)=(i==j):=by
 rw[zb4];simp
theorem EI{i j:Array UInt8}:decide (V.Ew i=V.Ew j)=(i.toList==j.toList):=by
 rw[zb4];cases i;cases j;simp
section
variable{X:Cx}{a b c:Expr}{ta tb tc:TE}{pos:Pos}
theorem bY{pins:List (zdg×Obj)}{σ:St}{H:Hp}{s:zdq}{Q:VK}{k k':Bool}(I:Inv X pins σ H s)(q:Q (.bl k) H)(e:k=k'):EP X pins σ Q (.bool k') s:=by
 subst e;exact⟨.bl k,H,I,rfl,q⟩
theorem bI:nZ X (compareOp .Eq) rEq:=by
 intro pins s σ H x y v u Q I rx ry h;obtain⟨hs,q⟩:=h;cases x with
 |cx=>
  cases rx;cases y with
  |cx=>cases ry;exact PySem.EqNone.eq_none_none (bY I q (by simp))
  |bl j=>cases ry;exact PySem.EqNone.eq_none_bool (bY I q (by simp))
  |int j=>obtain⟨t',rfl⟩:=ry;exact PySem.EqNone.eq_none_int (bY I q (by simp))
  |str j=>obtain⟨t',rfl⟩:=ry;exact PySem.EqNone.eq_none_str (bY I q (by simp))
  |_=>exact absurd (show false=true from hs) zal
 |bl i=>
  cases rx;cases y with
  |cx=>cases ry;exact PySem.EqNone.eq_bool_none (bY I q (by simp))
  |bl j=>cases ry;exact eq_bool (bY I q IL)
  |str j=>obtain⟨t',rfl⟩:=ry;exact PySem.EqMixed.eq_bool_str (bY I q (by simp))
  |_=>exact absurd (show false=true from hs) zal
 |int i=>
  obtain⟨t,rfl⟩:=rx;cases y with
  |cx=>cases ry;exact PySem.EqNone.eq_int_none (bY I q (by simp))
  |int j=>obtain⟨t',rfl⟩:=ry;exact eq_int (bY I q EG)
  |str j=>obtain⟨t',rfl⟩:=ry;exact PySem.EqMixed.eq_int_str (bY I q (by simp))
  |_=>exact absurd (show false=true from hs) zal
 |str i=>
  obtain⟨t,rfl⟩:=rx;cases y with
  |cx=>cases ry;exact PySem.EqNone.eq_str_none (bY I q (by simp))
  |bl j=>cases ry;exact PySem.EqMixed.eq_str_bool (bY I q (by simp))
  |int j=>obtain⟨t',rfl⟩:=ry;exact PySem.EqMixed.eq_str_int (bY I q (by simp))
  |str j=>obtain⟨t',rfl⟩:=ry;exact eq_str (bY I q EH)
  |_=>exact absurd (show false=true from hs) zal
 |Ew i=>
  obtain⟨t,rfl⟩:=rx;cases y with
  |Ew j=>obtain⟨t',rfl⟩:=ry;exact PySem.W.eq_bytes (bY I q EI)
  |_=>exact absurd (show false=true from hs) zal
 |_=>cases y<;>exact absurd (show false=true from hs) zal
theorem vU:nZ X (compareOp .NotEq) rNe:=by
 intro pins s σ H x y v u Q I rx ry h;obtain⟨hs,q⟩:=h;cases x with
 |cx=>
  cases rx;cases y with
  |cx=>cases ry;exact PySem.EqNone.ne_none_none (bY I q (by simp))
  |bl j=>cases ry;exact PySem.EqNone.ne_none_bool (bY I q (by simp))
  |int j=>obtain⟨t',rfl⟩:=ry;exact PySem.EqNone.ne_none_int (bY I q (by simp))
  |str j=>obtain⟨t',rfl⟩:=ry;exact PySem.EqNone.ne_none_str (bY I q (by simp))
  |_=>exact absurd (show false=true from hs) zal
 |bl i=>
  cases rx;cases y with
  |cx=>cases ry;exact PySem.EqNone.ne_bool_none (bY I q (by simp))
  |bl j=>cases ry;exact ne_bool (bY I q (congrArg not IL))
  |str j=>obtain⟨t',rfl⟩:=ry;exact PySem.EqMixed.ne_bool_str (bY I q (by simp))
  |_=>exact absurd (show false=true from hs) zal
 |int i=>
  obtain⟨t,rfl⟩:=rx;cases y with
  |cx=>cases ry;exact PySem.EqNone.ne_int_none (bY I q (by simp))
  |int j=>obtain⟨t',rfl⟩:=ry;exact ne_int (bY I q (congrArg not EG))
  |str j=>obtain⟨t',rfl⟩:=ry;exact PySem.EqMixed.ne_int_str (bY I q (by simp))
  |_=>exact absurd (show false=true from hs) zal
 |str i=>
  obtain⟨t,rfl⟩:=rx;cases y with
  |cx=>cases ry;exact PySem.EqNone.ne_str_none (bY I q (by simp))
  |bl j=>cases ry;exact PySem.EqMixed.ne_str_bool (bY I q (by simp))
  |int j=>obtain⟨t',rfl⟩:=ry;exact PySem.EqMixed.ne_str_int (bY I q (by simp))
  |str j=>obtain⟨t',rfl⟩:=ry;exact ne_str (bY I q (congrArg not EH))
  |_=>exact absurd (show false=true from hs) zal
 |Ew i=>
  obtain⟨t,rfl⟩:=rx;cases y with
  |Ew j=>obtain⟨t',rfl⟩:=ry;exact PySem.W.ne_bytes (bY I q (congrArg not EI))
  |_=>exact absurd (show false=true from hs) zal
 |_=>cases y<;>exact absurd (show false=true from hs) zal
theorem pV:nZ X (compareOp .Lt) (Qb fun i j=>.bl (decide (i<j))):=Tb fun _ _ _ _ _ _ _ q=>lt_int q
theorem IM:nZ X (compareOp .Gt) (Qb fun i j=>.bl (decide (j<i))):=Tb fun _ _ _ _ _ _ _ q=>gt_int q
theorem Qe:nZ X (compareOp .Is) (fun x y H Q=>y=.cx/\Q (.bl (decide (x=.cx))) H):=by
 intro pins s σ H x y v u Q I rx ry h;obtain⟨rfl,q⟩:=h;cases ry;refine is_none_gen (bY I q ?_);cases x<;>first
  |(cases rx;rfl)
  |(obtain⟨t,rfl⟩:=rx;rfl)
theorem EJ:nZ X (compareOp .IsNot) (fun x y H Q=>y=.cx/\Q (.bl (!decide (x=.cx))) H):=by
 intro pins s σ H x y v u Q I rx ry h;obtain⟨rfl,q⟩:=h;cases ry;refine isnot_none_gen (bY I q ?_);cases x<;>first
  |(cases rx;rfl)
  |(obtain⟨t,rfl⟩:=rx;rfl)
theorem aM(b:Expr){op:CmpOp}(h:op≠.In:=by decide)(h2:op≠.NotIn:=by decide):behindInMarks op b=false:=by
 have e1:(op==CmpOp.In)=false:=by cases op<;>first |rfl |exact absurd rfl h
 have e2:(op==CmpOp.NotIn)=false:=by cases op<;>first |rfl |exact absurd rfl h2
 cases b<;>simp[behindInMarks,e1,e2]
theorem da{op:CmpOp}{r:R2}(ho:nZ X (compareOp op) r)(ha:PE X a ta)(hb:PE X b tb)(hm:behindInMarks op b=false):PE X (.Compare a [op] [b] pos) (S8 r ta tb):=by
 intro pins s σ H Q I h;exact wpAny_Compare1 (Qc ha hb I h fun v u s2 x y H2 I2 rx ry q=>ho pins s2 σ H2 x y v u Q I2 rx ry q) hm
def EK (t:TE):TT:=fun σ H Q=>t σ H fun x H'=>∃k,x=.bl k/\Q k H'
theorem aG{op:CmpOp}{r:R2}(ho:nZ X (compareOp op) r)(ha:PE X a ta)(hb:PE X b tb)(hm:behindInMarks op b=false):PT X (.Compare a [op] [b] pos) (EK (S8 r ta tb)):=by
 intro pins s σ H Q I h;refine wpAny_isTrue_Compare1 (dU (ha pins s σ H _ I h) fun v s1 zqz=>?_) hm;obtain⟨x,H1,I1,r1,q1⟩:=zqz;refine dU (hb pins s1 σ H1 _ I1 q1) fun u s2 zqz=>?_;obtain⟨y,H2,I2,r2,q2⟩:=zqz;refine dU (ho pins s2 σ H2 x y v u _ I2 r1 r2 q2) fun c s3 zqz=>?_;obtain⟨z,H3,I3,r3,k,e,q3⟩:=zqz;subst e;cases r3;exact wpAny_truthy_bool ⟨H3,I3,q3⟩
def Td (K:zaa) (x:V) (H:Hp) (k:Bool):Prop:=
 match x with
 |.cx=>k=false
 |.bl b=>k=b
 |.int i=>k=(i != 0)
 |.str y=>y.length<=zdo/\k=((y.length:Int) != 0)
 |.Ew y=>y.size<=zdo/\k=((y.size:Int) != 0)
 |.ref p=>(∃xs,gC K H p xs/\k = !xs.isEmpty)\/(∃xs,b8 K H p xs/\k = !xs.isEmpty)\/∃kvs,H p=some (.dK kvs)/\k = !kvs.isEmpty
 |_=>False
theorem C8{κ:Type}{kvs:List (κ×V)}{vs:List (κ×zdh)}(r:KV kvs vs):(!vs.isEmpty) = !kvs.isEmpty:=by
 cases r<;>rfl
theorem vV{xs:List V}{its:List zdh}(r:Vals xs its):(!its.toArray.isEmpty) = !xs.isEmpty:=by
 cases r<;>simp
theorem tH:(zdo:Nat)<2 ^ 63:=by rw[sizeLine_eq];decide
theorem Qf:XN X (fun x H Q=>∃k,Td X.K x H k/\Q k H):=by
 intro pins s σ H x v Q I rx h;obtain⟨k,e,q⟩:=h;have hl:=tH;have hs:zdo=16777216:=sizeLine_eq;cases x with
 |cx=>
  cases rx;have e':k=false:=e;subst e';exact truthy_none ⟨H,I,q⟩
 |bl b=>
  cases rx;have e':k=b:=e;subst e';exact wpAny_truthy_bool ⟨H,I,q⟩
 |int i=>
  obtain⟨t,rfl⟩:=rx;have e':k=(i != 0):=e;subst e';exact PySem.P.truthy_int ⟨H,I,q⟩
 |str y=>
  obtain⟨t,rfl⟩:=rx;obtain⟨hy,e'⟩:y.length<=zdo/\k=((y.length:Int) != 0):=e;subst e';exact PySem.P.truthy_str (by lia) ⟨H,I.tok _,q⟩
 |Ew y=>
  obtain⟨t,rfl⟩:=rx;obtain⟨hy,e'⟩:y.size<=zdo/\k=((y.size:Int) != 0):=e;subst e';exact PySem.W.truthy_bytes (by lia) ⟨H,I.tok _,q⟩
 |ref p=>
  cases rx;have e':(∃xs,gC X.K H p xs/\k = !xs.isEmpty)\/(∃xs,b8 X.K H p xs/\k = !xs.isEmpty)\/∃kvs,H p=some (.dK kvs)/\k = !kvs.isEmpty:=e;rcases e' with ⟨xs,hx,e'⟩ |⟨xs,hx,e'⟩ |⟨kvs,hx,e'⟩
  ·subst e';obtain⟨its,r,pl,hz⟩:=I.list hx;have hlen:=r.length;exact wpAny_truthy_list pl.isList (by simp only[zao];lia) ⟨H,I.tok _,by rw[vV r];exact q⟩
  ·subst e';obtain⟨its,r,pl,hz⟩:=I.tuple hx;have hlen:=r.length;exact truthy_tuple pl (by simp only[zao];lia) ⟨H,I.tok _,by rw[vV r];exact q⟩
  ·subst e';obtain⟨hz,hS,vs,r,m⟩:kvs.length<=zdo/\(p==sysModules)=false/\∃vs,KV kvs vs/\s.heap.DictOf (bM X.prog X.w) p vs:=I.cI p _ hx;have hlen:kvs.length=vs.length:=Paired.length r;exact wpAny_truthy_dict hS m (by lia) ⟨H,I.tok _,by rw[C8 r];exact q⟩
 |_=>exact(show False from e).elim
theorem Bb(ha:PE X a ta)(he:∀whole,isTrue a X.env whole=(do let v <- whole;standAt a.pos;holding [v] (truthy v))) :
 PT X a (fun σ H Q=>ta σ H fun x H'=>∃k,Td X.K x H' k/\Q k H'):=by
 intro pins s σ H Q I h;exact isTrue_plain (dU (ha pins s σ H _ I h) fun v s1 ⟨x,H1,I1,r1,q1⟩=>Qf pins s1 σ H1 x v Q I1 r1 q1) (he _)
theorem vals1{x:V}{us:List zdh}(r:Vals [x] us):∃u,us=[u]/\RelV x u:=by
 cases r with
 |cons r1 r2=>cases r2;exact⟨_,rfl,r1⟩
theorem vals2{x y:V}{us:List zdh}(r:Vals [x,y] us):∃u w',us=[u,w']/\RelV x u/\RelV y w':=by
 cases r with
 |cons r1 r2=>
  cases r2 with
  |cons r3 r4=>cases r4;exact⟨_,_,rfl,r1,r3⟩
theorem IP:jE X (.builtin "abs") (fun xs H Q=>∃i,xs=[.int i]/\Q (.int (if i<0 then -i else i)) H):=by
 intro pins s σ H xs us Q I r h;obtain⟨i,rfl,q⟩:=h;obtain⟨u,rfl,t,rfl⟩:=vals1 r;exact call_abs_int fun u tk=>⟨.int (if i<0 then -i else i),H,I.tok _,⟨_,rfl⟩,q⟩
theorem yg(hc:X.calm=true):jE X (.builtin "min") (fun xs H Q=>∃i j,xs=[.int i,.int j]/\Q (.int (if j<i then j else i)) H):=by
 intro pins s σ H xs us Q I r h;obtain⟨i,j,rfl,q⟩:=h;obtain⟨u,w',rfl,⟨t,rfl⟩,⟨t',rfl⟩⟩:=vals2 r;refine min_two_ints (I.ok.hd hc) fun h' tk k=>⟨_,H,I.kept k,?_,q⟩
 by_cases hj:j<i
 ·rw[if_pos hj,if_pos hj];exact⟨_,rfl⟩
 ·rw[if_neg hj,if_neg hj];exact⟨_,rfl⟩
end
structure Gd(h:Heap)(x dx C:zdg)(mA:Str->Option zdh):Prop where
 obj:h.get? x=some (zbv C dx)
 ns:h.Ns1 dx mA
 ne:dx≠x
theorem Ge{h:Heap}{dx:zdg}{mA:Str->Option zdh}(n:h.Ns1 dx mA):∃od,h.get? dx=some od/\∀name,zc2 name od=some (mA name):=by
 obtain⟨o,es,ep,ho,hd,hk,_,hm⟩:=n;refine⟨o,ho,fun name=>?_⟩;have e:=hm name;unfold nsFind findBy at e;rw[<- Array.find?_toList] at e;unfold zc2;rw[hd];dsimp only;split
 ·rename_i y q;rw[q] at e;exact congrArg some e
 ·rename_i q;rw[q] at e;have a:es.toList.any (·.refKey)=false:=by
   rw[List.any_eq_false];intro y hy;obtain⟨z,t,XR⟩:=hk y (Array.mem_toList_iff.mp hy);simp[DictEntry.refKey,XR]
  have a':¬es.toList.any (·.refKey)=true:=by rw[a];exact zal
  rw[if_neg a'];exact congrArg some e
theorem Gd.look{h:Heap}{x dx C:zdg}{mA:Str->Option zdh}(I:Gd h x dx C mA):∃od,PySem.W.InstAt h x (zbv C dx) C (some od)/\∀name,zc2 name od=some (mA name):=
 let ⟨od,ho,hl⟩:=Ge I.ns
 ⟨od,⟨I.obj,rfl,rfl,ho⟩,hl⟩
section
variable{prog:zds}{w:zdi}{A:zdr}{E:zdh->zdq->Prop}{s:zdq}{K:zaa}{x dx C f:zdg}{mA:Str->Option zdh}{name:Str}{v:zdh}
theorem get_map{expr:Bool}{Q:zdh->zdq->Prop}(X:K.In s.heap)(I:Gd s.heap x dx C mA)(hg:zcr K C name=true)(hh:zcg K C=true)
 (ha:zaU K (.ref C) name=some none) (hv:mA name=some v) (Gf:PySem.W.handedIn v=true) (h:Q v {s with toks:=s.toks+1}) :
 wpAny (model prog w) A (getAttr (.ref x) name expr) Q E s:=by
 obtain⟨od,J,hl⟩:=I.look;exact PySem.W.get_value X J (PySem.W.plainGet_of hg).1 (PySem.W.findObj_own hh ha rfl (by rw[hl,hv])) Gf h
theorem zp{ns:List Str}{Q:Unit->zdq->Prop}(X:K.In s.heap)(I:Gd s.heap x dx C mA)
 (hs:zaU K (.ref C) "__setattr__"=some (some (.builtin "object.__setattr__"))) (hp:zcJ K C=true) (ht:zcU K C name=some none) (hh:zcg K C=true)
 (hw:PySem.Within mA ns) (hsz:ns.length<=zdo)
 (h:∀h',Gd h' x dx C (fun y=>if y=name then some v else mA y)->Heap.SameBut dx s.heap h'->Q () {s with heap:=h',toks:=s.toks+2}) :
 wpAny (model prog w) A (setAttr (.ref x) name v) Q E s:=by
 obtain⟨od,J,hl⟩:=I.look;refine PySem.W.set_plain X J hs (PySem.W.osa_open (s:={s with toks:=s.toks+1}) (r:=none) X J hp ht fun b=>?_);obtain⟨cd,hc,A3⟩:=PySem.W.any_some hh;have hx:s.heap.get? x=some ⟨.ref C,some dx,.plain, #[]⟩:=I.obj;refine zdj (zdk (zdj (zdj (wpAny_loadPart hx (zdj (PySem.W.Looks.here (s:={s with toks:=s.toks+1}) (PySem.W.looks_clsIn X hc) ?_))))));rw[A3];refine zdk (a:=some dx) (zdj (zdk (zdj ?_)));refine wpAny_nsSet1 (s:={s with toks:=s.toks+1}) I.ns fun h' Wi vS=>?_;obtain⟨oD,esD,epD,hoD,hdD,hcD⟩:=Wi.count (PySem.Within.cons name v hw);refine zdj (wpAny_lookBehind hoD (by rw[hdD];exact pastItsLine_dict (zaA hcD (by rw[zaf];lia))) ?_);exact zdk (h _ ⟨(vS.2 _ (Ne.symm I.ne)).trans I.obj,Wi,I.ne⟩ vS)
theorem IQ{R:Result->zdq->Prop}{vs:List zdh}{kw:List (Str×zdh)}(X:K.In s.heap)(hm:zcV K C=true)
 (hi:zaU K (.ref C) "__init__"=some (some (.ref f))) (hf:PySem.W.typeIn K (.ref f)=some (.type "function"))
 (h:codeAny (model prog w) (A.under (.builtin "type.__call__" ⟨.ref C::vs,kw⟩)) (.call (.ref f) ⟨.ref (s.heap.objs.size+1)::vs,kw⟩) (PySem.W.InitBack (s.heap.objs.size+1) R)
  {s with heap:=(s.heap.push zbg).push (zbv C s.heap.objs.size)}) :
 codeAny (model prog w) A (.call (.ref C) ⟨vs,kw⟩) R s:=by
 obtain⟨hh,g,d,t,os⟩:=s;exact PySem.W.make_core (PySem.W.makes_of X hm) (PySem.W.looks_findIn X hi) (fun self=>PySem.W.bind_fn X self hf) (.inl rfl) h
end
def lD (f:Str) (v:V):List (Str×V)->List (Str×V)
 |[]=>[(f,v)]
 |(g,x)::r=>if g=f then (g,v)::r else (g,x)::lD f v r
theorem uD(f g:Str)(v:V):∀fs:List (Str×V),(lD f v fs).lookup g=if g=f then some v else fs.lookup g
 |[]=>by
  show zbk g [(f,v)]=_;by_cases h:g=f
  ·have hb:(g==f)=true:=beq_iff_eq.mpr h;simp only[zbk,hb,if_pos h]
  ·have hb:(g==f)=false:=beq_eq_false_iff_ne.mpr h;simp only[zbk,hb,if_neg h]
 |(k,x)::r=>by
  have ih:=uD f g v r;rw[show lD f v ((k,x)::r)=(if k=f then (k,v)::r else (k,x)::lD f v r) from rfl];by_cases hk:k=f
  ·rw[if_pos hk];by_cases h:g=k
   ·have hb:(g==k)=true:=beq_iff_eq.mpr h;simp only[zbk,hb,if_pos (h.trans hk)]
   ·have hb:(g==k)=false:=beq_eq_false_iff_ne.mpr h;simp only[zbk,hb,if_neg (fun e:g=f=>h (e.trans hk.symm))]
  ·rw[if_neg hk];by_cases h:g=k
   ·have hb:(g==k)=true:=beq_iff_eq.mpr h;simp only[zbk,hb,if_neg (fun e:g=f=>hk (h.symm.trans e))]
   ·have hb:(g==k)=false:=beq_eq_false_iff_ne.mpr h;simp only[zbk,hb];exact ih
theorem tI(f:Str)(v:V):∀fs:List (Str×V),f∈(lD f v fs).map (·.1)/\∀g,g∈fs.map (·.1)->g∈(lD f v fs).map (·.1)
 |[]=>⟨by simp[lD],fun g h=>by simp at h⟩
 |(k,x)::r=>by
  obtain⟨i1,i2⟩:=tI f v r;rw[show lD f v ((k,x)::r)=(if k=f then (k,v)::r else (k,x)::lD f v r) from rfl];by_cases hk:k=f
  ·rw[if_pos hk];subst hk;exact⟨by simp,fun g h=>by simpa using h⟩
  ·rw[if_neg hk];refine⟨?_,fun g h=>?_⟩
   ·rw[zaq];exact zae _ i1
   ·rw[zaq] at h ⊢;rcases zag.mp h with e |e
    ·exact zag.mpr (.inl e)
    ·exact zae _ (i2 g e)
theorem uG(f:Str)(v:V):∀fs:List (Str×V),(lD f v fs).length<=fs.length+1
 |[]=>by simp[lD]
 |(k,x)::r=>by
  have ih:=uG f v r;rw[show lD f v ((k,x)::r)=(if k=f then (k,v)::r else (k,x)::lD f v r) from rfl];by_cases hk:k=f
  ·rw[if_pos hk,zaf,zaf];lia
  ·rw[if_neg hk,zaf,zaf];lia
theorem qy.some_of{v:V}{o:Option zdh}(r:qy (some v) o):∃u,o=some u/\RelV v u:=by
 cases o with
 |none=>exact(show False from r).elim
 |some u=>exact⟨u,rfl,r⟩
theorem Gg{v:V}{u:zdh}(r:RelV v u):PySem.W.handedIn u=true:=by
 cases v with
 |cx=>cases (show u=Value.none from r);rfl
 |bl b=>cases (show u=Value.bool b from r);rfl
 |int i=>obtain⟨t,e⟩:=(show ∃t,u=Value.int i t from r);cases e;rfl
 |str x=>obtain⟨t,e⟩:=(show ∃t,u=Value.str x t from r);cases e;rfl
 |Ew b=>obtain⟨t,e⟩:=(show ∃t,u=Value.bytes b t from r);cases e;rfl
 |PF b=>obtain⟨t,e⟩:=(show ∃t,u=Value.float b t from r);cases e;rfl
 |ref a=>cases (show u=Value.ref a from r);rfl
 |ty n=>cases (show u=Value.type n from r);rfl
section
variable{P:zds}{w:zdi}{H H':Hp}{h h':Heap}{a C dx:zdg}{fs fs':List (Str×V)}
theorem zr(cI:nN P w H h)(e:H a=some (.ins C dx fs)):∃mA,Gd h a dx C mA/\(∀f,qy (fs.lookup f) (mA f))/\PySem.Within mA (fs.map (·.1))/\fs.length<=1000/\H dx=some (.own a):=by
 obtain⟨d,z,ne,ob,mA,n,r,q⟩:=(show cX P w H h a (.ins C dx fs) from cI a _ e)
 exact⟨mA,⟨ob,n,ne⟩,r,q,z,d⟩
end
structure OE(K:zaa)(C:zdg):Prop where
 pg:zcr K C Str.empty=true
 hd:zcg K C=true
 po:zcJ K C=true
 sa:zaU K (.ref C) "__setattr__"=some (some (.builtin "object.__setattr__"))
theorem OE.get{K:zaa}{C:zdg}(c:OE K C)(f:Str):zcr K C f=true:=c.pg
def kg (K:zaa) (C:zdg) (f:Str):Prop:=zaU K (.ref C) f=some none
theorem kg.Te{K:zaa}{C:zdg}{f:Str}(n:kg K C f):zcU K C f=some none:=by
 unfold zcU;rw[show zaU K (.ref C) f=some none from n];rfl
section
variable{X:Cx}{pins:List (zdg×Obj)}{σ:St}{H:Hp}{s:zdq}{a C dx:zdg}{fs:List (Str×V)}{f:Str}{v:V}{A:zdr}{E:zdh->zdq->Prop}
theorem C9{b:Bool}{Q:zdh->zdq->Prop}(I:Inv X pins σ H s)(e:H a=some (.ins C dx fs))(c:OE X.K C)(n:kg X.K C f)(l:fs.lookup f=some v)
 (h:∀u s',Inv X pins σ H s'->RelV v u->Q u s'):wpAny (model X.prog X.w) A (getAttr (.ref a) f b) Q E s:=by
 obtain⟨mA,O,r,_,_,_⟩:=zr I.cI e;obtain⟨u,hu,ru⟩:=qy.some_of (v:=v) (o:=mA f) (by rw[<- l];exact r f);exact get_map I.vw O (c.get f) c.hd n hu (Gg ru) (h u _ (I.tok _) ru)
theorem Dc{y:V}{u:zdh}{Q:Unit->zdq->Prop}(I:Inv X pins σ H s)(e:H a=some (.ins C dx fs))(c:OE X.K C)(n:kg X.K C f)(hl:fs.length<1000)(ry:RelV y u)
 (h:∀s',Inv X pins σ (upd H a (.ins C dx (lD f y fs))) s'->Q () s'):wpAny (model X.prog X.w) A (setAttr (.ref a) f u) Q E s:=by
 obtain⟨mA,O,r,wi,_,ho⟩:=zr I.cI e;have hz:(fs.map (·.1)).length<=zdo:=by rw[zac,sizeLine_eq];lia
 refine zp I.vw O c.sa c.po n.Te c.hd wi hz fun h' O' sb=>h _ ?_;have hd:∃o,h'.get? dx=some o:=let ⟨o,_,_,e',_⟩:=O'.ns;⟨o,e'⟩;refine I.write (x:=a) (e:=dx) (by rw[e];exact True.intro) (.inr ho) (fun b q hb z=>(sb.2 b hb).trans z) hd ?_;refine⟨by rw[aw O.ne];exact ho,?_,O.ne,O'.obj,_,O'.ns,fun g=>?_,fun g hg=>?_⟩
 ·have:=uG f y fs;lia
 ·show qy ((lD f y fs).lookup g) (if g=f then some u else mA g);rw[uD];by_cases q:g=f
  ·rw[if_pos q,if_pos q];exact ry
  ·rw[if_neg q,if_neg q];exact r g
 ·by_cases q:g=f
  ·rw[q];exact(tI f y fs).1
  ·refine(tI f y fs).2 g (wi g fun z=>hg ?_);show (if g=f then some u else mA g)=none;rw[if_neg q];exact z
theorem Inv.made(I:Inv X pins σ H s):Inv X pins σ (upd (upd H s.heap.objs.size (.own (s.heap.objs.size+1))) (s.heap.objs.size+1) (.ins C s.heap.objs.size []))
 {s with heap:=(s.heap.push zbg).push (zbv C s.heap.objs.size)}:=by
 have e1:(s.heap.push zbg).get? s.heap.objs.size=some zbg:=Heap.get?_push_size s.heap rfl;have e2:((s.heap.push zbg).push (zbv C s.heap.objs.size)).get? (s.heap.objs.size+1)=some (zbv C s.heap.objs.size):=by
  have:=Heap.get?_push_size (s.heap.push zbg) (o:=zbv C s.heap.objs.size) rfl
  rwa [Heap.size_push] at this
 have e3:(s.heap.push zbg).Ns s.heap.objs.size (fun _=>none):=⟨zbg, #[],_,e1,rfl,(fun e he=>absurd he (by simp)),fun _=>rfl⟩
 have I1:=I.laid (a:=s.heap.objs.size) (o:=.own (s.heap.objs.size+1)) (h':=s.heap.push zbg) (t':=s.toks) (fun b u q=>Heap.get?_push_of_some _ q) (zaj _) ⟨_,e1⟩;refine I1.laid (a:=s.heap.objs.size+1) (o:=.ins C s.heap.objs.size []) (t':=s.toks) (fun b u q=>Heap.get?_push_of_some _ q) (Nat.le_of_eq (Heap.size_push _ _)) ?_;have ne:s.heap.objs.size≠s.heap.objs.size+1:=zay (Nat.lt_succ_self _);refine⟨by rw[aw ne,ah],za2 _,ne,e2,fun _=>none,(Heap.Ns1.of_empty e3).at fun o q=>Heap.get?_push_of_some _ q,fun _=>True.intro,fun y hy=>absurd rfl hy⟩
theorem ML{prog:zds}{w:zdi}{env:Env}{e:Expr}{f:Str}{pos:Pos}{s:zdq}{Q:zdh->zdq->Prop}(hb:attributeBase e f env (eval e env)=eval e env)
 (h:wpAny (model prog w) A (eval e env) (fun o s₁=>wpAny (model prog w) A (getAttr o f true) Q E s₁) E s):wpAny (model prog w) A (eval (.Attribute e f pos) env) Q E s:=
 Attribute_any_ h (by rw[arm_eval_Attribute,hb])
end
def Qg (K:zaa) (ta:TE) (f:Str):TE:=fun σ H Q=>ta σ H fun x H1=>∃a C dx fs v,x=.ref a/\H1 a=some (.ins C dx fs)/\OE K C/\kg K C f/\fs.lookup f=some v/\Q v H1
def Bc (K:zaa) (ta tv:TE) (f:Str):TS:=fun D σ H=>tv σ H fun y H1=>ta σ H1 fun x H2=>∃a C dx fs,x=.ref a/\H2 a=some (.ins C dx fs)/\OE K C/\kg K C f/\fs.length<1000/\
 D.nx σ (upd H2 a (.ins C dx (lD f y fs)))
section
variable{X:Cx}{o e value:Expr}{f:Str}{pos pos' XS:Pos}{ta tv:TE}
theorem iN(he:PE X e ta)(hb:attributeBase e f X.env (eval e X.env)=eval e X.env):PE X (.Attribute e f pos) (Qg X.K ta f):=by
 intro pins s σ H Q I h;refine ML hb (dU (he pins s σ H _ I h) fun u s1 zqz=>?_);obtain⟨x,H1,I1,rx,a,C,dx,fs,v,ex,ea,c,n,l,q⟩:=zqz;subst ex;obtain rfl:u=Value.ref a:=rx;exact C9 I1 ea c n l fun u' s2 I2 ru=>⟨v,H1,I2,ru,q⟩
theorem vW(ha:PE X o ta)(hv:PE X value tv)(hs:swapsWith value (some (.Attribute o f pos')) pos.line X.env=pure false):PS X (.Assign [.Attribute o f pos'] value pos) (Bc X.K ta tv f):=by
 intro pins s σ H D I h;refine plainObj_wpAny_Assign_Attribute (dU (hv pins s σ H _ I h) fun u s1 zqz=>?_) hs;obtain⟨y,H1,I1,ry,q⟩:=zqz;refine dU (ha pins s1 σ H1 _ I1 q) fun ov s2 zqz=>?_;obtain⟨x,H2,I2,rx,a,C,dx,fs,ex,ea,c,n,l,q2⟩:=zqz;subst ex;obtain rfl:ov=Value.ref a:=rx;exact Dc I2 ea c n l ry fun s3 I3=>⟨σ,_,I3,q2⟩
end
section
variable{X:Cx}{pins:List (zdg×Obj)}{σ:St}{H:Hp}{s:zdq}{A:zdr}{E:zdh->zdq->Prop}{Q:zdh->zdq->Prop}{c:zdh}{b:Bool}
inductive tJ(K:zaa)(H:Hp):V->zdh->Prop where
 |cx:tJ K H .cx (.type "NoneType")
 |bl (x:Bool):tJ K H (.bl x) (.type "bool")
 |int (i:Int):tJ K H (.int i) (.type "int")
 |str (x:Str):tJ K H (.str x) (.type "str")
 |PF (x:UInt64):tJ K H (.PF x) (.type "float")
 |lst {a:zdg} {xs:List V} (e:H a=some (.lst xs)):tJ K H (.ref a) (.type "list")
 |Ex {a:zdg} {o:Obj} {xs:List V} (e:H a=some (.Ex o (.lst xs))):tJ K H (.ref a) (.type "list")
 |tup {a:zdg} {xs:List V} (e:H a=some (.tup xs)):tJ K H (.ref a) (.type "tuple")
 |dK {a:zdg} {kvs:List (Key×V)} (e:H a=some (.dK kvs)):tJ K H (.ref a) (.type "dict")
 |dT {a:zdg} {kvs:List (List Key×V)} (e:H a=some (.dT kvs)):tJ K H (.ref a) (.type "dict")
 |ins {a C dx:zdg} {fs:List (Str×V)} (e:H a=some (.ins C dx fs)) (cl:OE K C) (ha:zaU K (.ref C) "__class__"=some (some (.builtin "object.__class__")))
  (hn:PySem.W.specialIn K (.builtin "object.__class__") "__get__"=some (some (.builtin "getset_descriptor.__get__"))) (Tf:PySem.W.takesIn K (.builtin "object.__class__")=some true)
  (hm:PySem.W.mroIn K C (.type "object")=some true):tJ K H (.ref a) (.ref C)
theorem Gh{x:V}{u t:zdh}(I:Inv X pins σ H s)(rx:RelV x u)(ty:tJ X.K H x t)(e:PySem.W.kitOne X.K t c=some b)(h:∀tk,Q (.bool b) {s with toks:=tk}) :
 wpAny (model X.prog X.w) A (call (.builtin "isinstance") [u,c]) Q E s:=by
 cases ty with
 |cx=>cases (show u=Value.none from rx);exact za7 PySem.W.kitx_none I.vw True.intro e (fun z=>nomatch z) h
 |bl y=>cases (show u=Value.bool y from rx);exact za7 PySem.W.kitx_bool I.vw True.intro e (fun z=>nomatch z) h
 |int i=>obtain⟨t,q⟩:=(show ∃t,u=Value.int i t from rx);cases q;exact za7 PySem.W.kitx_int I.vw True.intro e (fun z=>nomatch z) h
 |str y=>obtain⟨t,q⟩:=(show ∃t,u=Value.str y t from rx);cases q;exact za7 PySem.W.kitx_str I.vw True.intro e (fun z=>nomatch z) h
 |PF y=>obtain⟨t,q⟩:=(show ∃t,u=Value.float y t from rx);cases q;exact za7 PySem.W.kitx_float I.vw True.intro e (fun z=>nomatch z) h
 |@lst a xs ea=>
  cases (show u=Value.ref a from rx);obtain⟨_,_,n,_,h1⟩:=(show cX X.prog X.w H s.heap a (.lst xs) from I.cI a _ ea)
  exact za7 PySem.W.kitx_list I.vw ⟨_,h1,rfl⟩ e (fun z=>nomatch z) h
 |@Ex a ob xs ea=>
  cases (show u=Value.ref a from rx);obtain⟨_,_,_,n,_,h1⟩:=(show cX X.prog X.w H s.heap a (.Ex ob (.lst xs)) from I.cI a _ ea)
  exact za7 PySem.W.kitx_list I.vw ⟨_,h1,rfl⟩ e (fun z=>nomatch z) h
 |@tup a xs ea=>
  cases (show u=Value.ref a from rx);obtain⟨_,_,_,p⟩:=(show cX X.prog X.w H s.heap a (.tup xs) from I.cI a _ ea)
  obtain⟨o,h1,h2,_⟩:=p;exact za7 PySem.W.kitx_tuple I.vw ⟨o,h1,h2⟩ e (fun z=>nomatch z) h
 |@dK a kvs ea=>
  cases (show u=Value.ref a from rx);obtain⟨_,_,vs,_,p⟩:=(show cX X.prog X.w H s.heap a (.dK kvs) from I.cI a _ ea)
  obtain⟨o,es,ep,h1,h2,_⟩:=p;exact za7 PySem.W.kitx_dict I.vw ⟨o,h1,h2.1⟩ e (fun z=>nomatch z) h
 |@dT a kvs ea=>
  cases (show u=Value.ref a from rx);obtain⟨_,_,xs,_,o,es,ep,h1,h2,_⟩:=(show cX X.prog X.w H s.heap a (.dT kvs) from I.cI a _ ea)
  exact za7 PySem.W.kitx_dict I.vw ⟨o,h1,h2.1⟩ e (fun z=>nomatch z) h
 |@ins a C dx fs ea cl ha hn Tf hm=>
  cases (show u=Value.ref a from rx);obtain⟨mA,O,_⟩:=zr I.cI ea;obtain⟨od,J,_⟩:=O.look;exact za7 (PySem.W.kitx_own (cl.get _) cl.hd ha hn Tf hm) I.vw J e (fun z=>nomatch z) h
end
structure gQ(k:Nat)(A:zdr):Prop where
 hd:A.handled=none
 dp:A.depth+3*k+5<recursionLimit
 un:A.units+16*k+200<cLine
theorem gQ.mono{j k:Nat}{A:zdr}(r:gQ k A)(h:j<=k):gQ j A:=⟨r.hd,by have:=r.dp;lia,by have:=r.un;lia⟩
theorem gQ.deeper{k:Nat}{A:zdr}(r:gQ (k+1) A)(env:Env):gQ k (A.deeper env):=
 ⟨r.hd,by have:=r.dp;show A.depth+1+3*k+5<_;lia,by have:=r.un;show A.units+3+16*k+200<_;lia⟩
theorem Dd{A:zdr}{C:zdg}{us:List zdh}{kw:List (Str×zdh)}:(A.under (.builtin "type.__call__" ⟨.ref C::us,kw⟩)).depth=A.depth+1:=by
 first |rfl |simp[Around.under,Code.weight,Code.isCreation,Code.isGuard,Code.isCaller,Code.frames,Code.isFrame,guardIds]
theorem De{A:zdr}{C:zdg}{us:List zdh}{kw:List (Str×zdh)}:(A.under (.builtin "type.__call__" ⟨.ref C::us,kw⟩)).units=A.units+1:=by
 first |rfl |simp[Around.under,Code.cUnits,Code.frames,Code.isFrame]
theorem gQ.make{k:Nat}{A:zdr}(r:gQ (k+1) A)(C:zdg)(us:List zdh)(kw:List (Str×zdh)):gQ k (A.under (.builtin "type.__call__" ⟨.ref C::us,kw⟩)):=
 ⟨r.hd,by have:=r.dp;rw[Dd];lia,by have:=r.un;rw[De];lia⟩
theorem gQ.depth{k:Nat}{A:zdr}(r:gQ k A):A.depth<recursionLimit:=by have:=r.dp;lia
theorem gQ.units{k:Nat}{A:zdr}(r:gQ k A):A.units+64<cLine:=by have:=r.un;lia
def MM:TA:=fun _ H Q=>Q [] H
def vX (ta:TE) (tr:TA):TA:=fun σ H Q=>ta σ H fun x H1=>tr σ H1 fun xs H2=>Q (x::xs) H2
section
variable{X:Cx}{e:Expr}{es:List Expr}{te:TE}{t:TA}{pos:Pos}
theorem ag:PA X [] MM:=fun _ _ _ _ H Q I h=>Calls.spliced_nil ⟨[],H,I,.nil,h⟩
theorem ae(ha:PE X e te)(hr:PA X es t)(hs:zdm (e::es) X.env=(false,eval e X.env)::zdm es X.env:=by rfl):PA X (e::es) (vX te t):=by
 intro pos pins s σ H Q I h;rw[hs];show wpAny _ _ (spliced ((false,eval e X.env)::backTo pos (zdm es X.env))) _ _ s;refine Calls.spliced_cons (dU (ha pins s σ H _ I h) fun u s1 zqz=>?_);obtain⟨x,H1,I1,r1,q1⟩:=zqz;exact dU (hr pos pins s1 σ H1 _ I1 q1) fun us s2 ⟨xs,H2,I2,r2,q2⟩=>⟨x::xs,H2,I2,.cons r1 r2,q2⟩
def Th (t:TA):TE:=fun σ H Q=>t σ H fun xs H1=>xs.length<=zdo/\∀p,H1 p=none->Q (.ref p) (upd H1 p (.tup xs))
def Ti (t:TA):TE:=fun σ H Q=>t σ H fun xs H1=>xs.length<=zdo/\∀p,H1 p=none->Q (.ref p) (upd H1 p (.lst xs))
theorem aL{x1}(h:PA X es t):PE X (.Tuple es x1 pos) (Th t):=by
 intro pins s σ H Q I hq;refine wpAny_Tuple_spliced (dU (h pos pins s σ H _ I hq) fun us s1 ⟨xs,H1,I1,r,z,q⟩=>⟨by rw[<- r.length];exact z,?_⟩);have hf:H1 s1.heap.objs.size=none:=I1.cI.fresh (zaj _);refine⟨.ref s1.heap.objs.size,upd H1 s1.heap.objs.size (.tup xs),I1.laid (t':=s1.toks) (fun b u e=>Heap.get?_push_of_some _ e) (zaj _) ?_,rfl,q _ hf⟩;exact⟨z,us,r,⟨_,Heap.get?_push_size _ rfl,rfl,_,rfl⟩⟩
theorem aS(h:PA X es t):PE X (.List es pos) (Ti t):=by
 intro pins s σ H Q I hq;refine wpAny_List_spliced (dU (h pos pins s σ H _ I hq) fun us s1 ⟨xs,H1,I1,r,z,q⟩=>⟨by rw[<- r.length];exact z,?_⟩);have hf:H1 s1.heap.objs.size=none:=I1.cI.fresh (zaj _);refine⟨.ref s1.heap.objs.size,upd H1 s1.heap.objs.size (.lst xs),I1.laid (t':=s1.toks) (fun b u e=>Heap.get?_push_of_some _ e) (zaj _) ?_,rfl,q _ hf⟩;exact⟨z,us,0,r,Heap.get?_push_size _ rfl⟩
end
abbrev Sp:=List V->Hp->VK->XK->Prop
abbrev AV:=List Env->Hp->zdq->XK->zdh->zdq->Prop
structure qz(P:zds)(w:zdi)(K:zaa)(mg:Str->Option zdh)(base:Heap)(A:zdr)(outer:List Env)(s:zdq)(H:Hp):Prop where
 frames:A.frames=some outer
 mod:Mod K mg base
 bs:∀b o,base.get? b=some o->s.heap.get? b=some o/\H b=none
 F3:base.objs.size<=s.heap.objs.size
 pP:s.heap.FunFrames base outer
 Md:∀b∈CY outer,H b=none
 cI:nN P w H s.heap
 bare:AllBare s.gens
def CE (outer:List Env) (P:zds) (w:zdi) (H:Hp) (s:zdq) (Q:VK) (u:zdh) (s':zdq):Prop:=
 ∃v H',s'.os=s.os/\AllBare s'.gens/\Un (CY outer) [] H H' s.heap s'.heap/\nN P w H' s'.heap/\RelV v u/\Q v H'
def CR (CX:AV) (outer:List Env) (P:zds) (w:zdi) (H:Hp) (s:zdq) (Q:VK) (E:XK) (r:Result) (s':zdq):Prop:=
 match r with
 |.ok (.ret u)=>CE outer P w H s Q u s'
 |.ok _=>False
 |.error e=>CX outer H s E e s'
structure bB(P:zds)(w:zdi)(K:zaa)(mg:Str->Option zdh)(base:Heap)(CX:AV)(k:Nat)(f:zdg)(fd:zdp)(ps:List Str)(sp:Sp):Prop where
 len:∀vs H Q E,sp vs H Q E->vs.length=ps.length
 run:∀(A:zdr) (outer:List Env) (s:zdq) (H:Hp) (args:Args) (us:List zdh) (vs:List V) (Q:VK) (E:XK),gQ k A->qz P w K mg base A outer s H->BindsTo s fd args (ps.zip us)->Vals vs us->sp vs H Q E->
  codeAny (model P w) A (.call (.ref f) args) (CR CX outer P w H s Q E) s
theorem qz.make{P:zds}{w:zdi}{K:zaa}{mg:Str->Option zdh}{base:Heap}{A:zdr}{outer:List Env}{s:zdq}{H:Hp}(e:qz P w K mg base A outer s H)(C:zdg)(us:List zdh)(kw:List (Str×zdh)) :
 qz P w K mg base (A.under (.builtin "type.__call__" ⟨.ref C::us,kw⟩)) outer s H:=⟨by first |exact e.frames |(simpa[Around.under,Code.envs,Code.isFrame,pushEnvs] using e.frames),e.mod,e.bs,e.F3,e.pP,e.Md,e.cI,e.bare⟩
section
variable{X:Cx}{pins:List (zdg×Obj)}{σ:St}{H:Hp}{s s':zdq}
theorem Inv.MN(I:Inv X pins σ H s):qz X.prog X.w X.K X.mg X.base X.A X.stack s H:=
 ⟨I.ok.frames,I.ok.mod,I.bs,zaA I.ok.F3 I.sz,I.stack,I.zo,I.cI,I.bare⟩
theorem Inv.after{Q:VK}{u:zdh}(I:Inv X pins σ H s)(h:CE X.stack X.prog X.w H s Q u s'):EP X pins σ Q u s':=by
 obtain⟨v,H',os,bare,un,cI,r,q⟩:=h;obtain⟨hh,g,d,t,os'⟩:=s';obtain rfl:os'=s.os:=os;exact⟨v,H',I.call (h':=hh) (g':=g) (d':=d) (t':=t) (ch:=[]) un cI bare (fun b z=>absurd z (by simp)),r,q⟩
end
def Be (sp:Sp) (AW:List V) (E:XK) (t:TA):TE:=fun σ H Q=>t σ H fun vs H1=>sp (vs++AW) H1 Q E
def IS (C:zdg) (sp:Sp) (AW:List V) (E:XK) (t:TA):TE:=fun σ H Q=>t σ H fun vs H1=>∀x dx,H1 x=none->H1 dx=none->dx≠x->
 sp (.ref x::(vs++AW)) (upd (upd H1 dx (.own x)) x (.ins C dx [])) (fun v H2=>v=.cx/\Q (.ref x) H2) E
def Binds (K:zaa) (fd:zdp) (ps:List Str) (ds:List zdh):Prop:=
 ∀(s:zdq) (us:List zdh),K.In s.heap->(us++ds).length=ps.length->BindsTo s fd ⟨us,[]⟩ (ps.zip (us++ds))
theorem Binds.all{K:zaa}{fd:zdp}{ps:List Str}(h:∀us:List zdh,us.length=ps.length->bindArgs fd ⟨us,[]⟩=pure (ps.zip us)):Binds K fd ps []:=fun s us _ hl=>by
 rw[zaO] at hl ⊢;exact .of_eq (h us hl)
def Passes (CX:AV) (X:Cx) (E:XK):Prop:=∀(pins:List (zdg×Obj)) (σ:St) (H:Hp) (s:zdq) (e:zdh) (s':zdq),Inv X pins σ H s->CX X.stack H s E e s'->X.xe e s'
section
variable{X:Cx}{CX:AV}{k:Nat}{f C:zdg}{fd:zdp}{ps:List Str}{sp:Sp}{AW:List V}{ds:List zdh}{E:XK}{x m:Str}{p pos apos:Pos}{e o:Expr}{es:List Expr}{ta:TE}{t:TA}
theorem Qh{pins:List (zdg×Obj)}{σ:St}{H:Hp}{s:zdq}{Q:VK}{us:List zdh}{vs:List V}(F:bB X.prog X.w X.K X.mg X.base CX k f fd ps sp)(hr:gQ k X.A)(hb:Binds X.K fd ps ds)(hd:Vals AW ds)(hx:Passes CX X E)
 (I:Inv X pins σ H s) (r:Vals vs us) (h:sp (vs++AW) H Q E):wpAny (model X.prog X.w) X.A (call (.ref f) us) (EP X pins σ Q) X.xe s:=by
 have r2:Vals (vs++AW) (us++ds):=r.append hd;have hl:(us++ds).length=ps.length:=by rw[<- r2.length];exact F.len _ _ _ _ h
 refine wpAny_call (codeAny_mono (F.run X.A X.stack s H ⟨us,[]⟩ (us++ds) (vs++AW) Q E hr I.MN (hb s us I.vw hl) r2 h) fun r s' hq=>?_);cases r with
 |error e=>exact hx pins σ H s e s' I hq
 |ok fl=>
  cases fl with
  |ret u=>exact I.after hq
  |next=>exact False.elim hq
  |brk=>exact False.elim hq
  |cont=>exact False.elim hq
theorem cA(F:bB X.prog X.w X.K X.mg X.base CX k f fd ps sp)(hr:gQ k X.A)(hg:Gl X x)(hm:X.mg x=some (.ref f))(hk:zbB X.K (.ref f)=true)(hb:Binds X.K fd ps ds)(hd:Vals AW ds)(hx:Passes CX X E)
 (ha:PA X (e::es) t) (IT:(x==("__debug__":Str))=false:=by decide) (he:zdm (e::es) X.env=(false,eval e X.env)::zdm es X.env:=by rfl) (mP:(backTo pos (zdm es X.env)).any (·.1)=false:=by rfl) :
 PE X (.Call (.Name x p) (e::es) [] pos) (Be sp AW E t):=by
 intro pins s σ H Q I h;refine wpAny_Call_Name_kw (vy I hg hm ?_ IT);refine zcG (h₀:=X.base) I.ok.mod.SV hk (dU (ha pos pins s σ H _ I h) fun us s1 ⟨vs,H1,I1,r,q⟩=>⟨I1.vw,?_⟩) he mP;exact Qh F hr hb hd hx I1 r q
structure Mk(K:zaa)(C f:zdg):Prop where
 makes:zcV K C=true
 init:zaU K (.ref C) "__init__"=some (some (.ref f))
 fn:PySem.W.isFn K (.ref f)=true
 kp:zbB K (.ref C)=true
theorem IU{pins:List (zdg×Obj)}{σ:St}{H:Hp}{s:zdq}{Q:VK}{us:List zdh}{vs:List V}(M:Mk X.K C f)(F:bB X.prog X.w X.K X.mg X.base CX k f fd ps sp)(hr:gQ (k+1) X.A)(hb:Binds X.K fd ps ds)(hd:Vals AW ds)
 (hx:Passes CX X E) (I:Inv X pins σ H s) (r:Vals vs us)
 (h:∀x dx,H x=none->H dx=none->dx≠x->sp (.ref x::(vs++AW)) (upd (upd H dx (.own x)) x (.ins C dx [])) (fun v H2=>v=.cx/\Q (.ref x) H2) E) :
 wpAny (model X.prog X.w) X.A (call (.ref C) us) (EP X pins σ Q) X.xe s:=by
 have hq:=h (s.heap.objs.size+1) s.heap.objs.size (I.cI.fresh (Nat.le_succ _)) (I.cI.fresh (zaj _)) (zay (Nat.lt_succ_self _));have I2:=Inv.made (C:=C) I;have r2:Vals (V.ref (s.heap.objs.size+1)::(vs++AW)) (Value.ref (s.heap.objs.size+1)::(us++ds)):=.cons rfl (r.append hd);have hl:(Value.ref (s.heap.objs.size+1)::us++ds).length=ps.length:=by
  have e:=r2.length;rw[F.len _ _ _ _ hq] at e;exact e.symm
 refine wpAny_call (IQ (f:=f) I.vw M.makes M.init (beq_iff_eq.mp M.fn) (codeAny_mono (F.run _ X.stack _ _ ⟨Value.ref (s.heap.objs.size+1)::us,[]⟩ (Value.ref (s.heap.objs.size+1)::(us++ds)) _ _ E (hr.make C us [])
  (I2.MN.make C us []) (hb _ (Value.ref (s.heap.objs.size+1)::us) I2.vw hl) r2 hq) fun r s' OF=>?_))
 cases r with
 |error e=>exact hx pins σ _ _ e s' I2 OF
 |ok fl=>
  cases fl with
  |ret u=>
   obtain⟨v,H',I3,rv,ev,q3⟩:=I2.after OF;subst ev;exact⟨rv,⟨V.ref (s.heap.objs.size+1),H',I3,rfl,q3⟩⟩
  |next=>exact False.elim OF
  |brk=>exact False.elim OF
  |cont=>exact False.elim OF
theorem zt(M:Mk X.K C f)(F:bB X.prog X.w X.K X.mg X.base CX k f fd ps sp)(hr:gQ (k+1) X.A)(hg:Gl X x)(hm:X.mg x=some (.ref C))(hb:Binds X.K fd ps ds)(hd:Vals AW ds)(hx:Passes CX X E)
 (ha:PA X (e::es) t) (IT:(x==("__debug__":Str))=false:=by decide) (he:zdm (e::es) X.env=(false,eval e X.env)::zdm es X.env:=by rfl) (mP:(backTo pos (zdm es X.env)).any (·.1)=false:=by rfl) :
 PE X (.Call (.Name x p) (e::es) [] pos) (IS C sp AW E t):=by
 intro pins s σ H Q I h;refine wpAny_Call_Name_kw (vy I hg hm ?_ IT);refine zcG (h₀:=X.base) I.ok.mod.SV M.kp (dU (ha pos pins s σ H _ I h) fun us s1 ⟨vs,H1,I1,r,q⟩=>⟨I1.vw,?_⟩) he mP;exact IU M F hr hb hd hx I1 r q
end
structure aY(N P:List Str)(sc:Scope):Prop where
 kind:sc.kind=.function
 co:sc.isCoroutine=false
 gen:sc.isGenerator=false
 nd:N.Nodup
 pre:N.take P.length=P
 par:∀x∈P,sc.names.lookup x=some .local\/sc.names.lookup x=some .cell
 Qi:∀y∈sc.names,y.2≠.free
theorem yh{kindOf:Str->Option NameKind}{x:Str}:∀ {binds:List (Str×zdh)} {m:Str->Option zdh},(∀v,(x,v) ∉ binds)->bindL kindOf binds m x=m x
 |[],_,_=>rfl
 |(n,v)::r,m,h=>by
  unfold bindL;rw[yh fun w hw=>h w (zae _ hw)];split
  ·have:x≠n:=by rintro rfl;exact h v zav
   simp[this]
  ·rfl
theorem yi{kindOf:Str->Option NameKind}{x:Str}:∀ {binds:List (Str×zdh)} {m:Str->Option zdh},(∀v,(x,v) ∉ binds)->bindC kindOf binds m x=m x
 |[],_,_=>rfl
 |(n,v)::r,m,h=>by
  unfold bindC;rw[yi fun w hw=>h w (zae _ hw)];split
  ·rfl
  ·have:x≠n:=by rintro rfl;exact h v zav
   simp[this]
theorem yj{kindOf:Str->Option NameKind}{x:Str}{v:zdh}:∀ {P:List Str} {vs:List zdh} {i:Nat} {m:Str->Option zdh},P.Nodup->P[i]?=some x->vs[i]?=some v->kindOf x=some .local->
 bindL kindOf (P.zip vs) m x=some v
 |[],_,_,_,_,h,_,_=>by simp at h
 |_::_,[],_,_,_,_,h,_=>by simp at h
 |p::P,w::vs,0,m,nd,h1,h2,hk=>by
  simp at h1 h2;subst h1;subst h2;show bindL kindOf ((p,w)::P.zip vs) m p=_;unfold bindL;rw[yh fun v hv=>(zam.mp nd).1 (zcS hv).1,if_pos hk];simp
 |p::P,w::vs,i+1,m,nd,h1,h2,hk=>by
  show bindL kindOf ((p,w)::P.zip vs) m x=_;unfold bindL;exact yj (i:=i) (zam.mp nd).2 (by simpa using h1) (by simpa using h2) hk
theorem yk{kindOf:Str->Option NameKind}{x:Str}{v:zdh}:∀ {P:List Str} {vs:List zdh} {i:Nat} {m:Str->Option zdh},P.Nodup->P[i]?=some x->vs[i]?=some v->kindOf x≠some .local->
 bindC kindOf (P.zip vs) m x=some v
 |[],_,_,_,_,h,_,_=>by simp at h
 |_::_,[],_,_,_,_,h,_=>by simp at h
 |p::P,w::vs,0,m,nd,h1,h2,hk=>by
  simp at h1 h2;subst h1;subst h2;show bindC kindOf ((p,w)::P.zip vs) m p=_;unfold bindC;rw[yi fun v hv=>(zam.mp nd).1 (zcS hv).1,if_neg hk];simp
 |p::P,w::vs,i+1,m,nd,h1,h2,hk=>by
  show bindC kindOf ((p,w)::P.zip vs) m x=_;unfold bindC;exact yk (i:=i) (zam.mp nd).2 (by simpa using h1) (by simpa using h2) hk
def start (N:List Str) (vs:List V):St:=vs.map some++zaL (N.length-vs.length) none
def mQ (CX:AV) (P:zds) (w:zdi) (K:zaa) (mg:Str->Option zdh) (base:Heap) (N:List Str) (qual:Str) (scope:Scope) (f:zdg) (cd:zdh) (A:zdr) (outer:List Env) (s:zdq) (H:Hp) (E:XK):Cx where
 prog:=P
 w:=w
 K:=K
 mg:=mg
 base:=base
 A:=A.deeper (envOfC qual scope s.heap.objs.size f cd)
 N:=N
 s₀:=s
 H₀:=H
 env:=envOfC qual scope s.heap.objs.size f cd
 outer:=outer
 stack:=envOfC qual scope s.heap.objs.size f cd::outer
 ex:=[]
 calm:=true
 fn:=fun _=>true
 pn:=[]
 xe:=fun e s'=>wpAny (model P w) (A.deeper (envOfC qual scope s.heap.objs.size f cd)) (leaving (envOfC qual scope s.heap.objs.size f cd) e) (fun _ Gi=>CX outer H s E e Gi) (fun e' Gi=>CX outer H s E e' Gi) s'
theorem Bf{sc:Scope}{n:Nat}{x:Str}(h:sc.names.lookup x=some .cell):∃c,(cellsFrom n sc.names []).lookup x=some c:=by
 have q:=zcY sc.names n [] (.inl h);exact zbL.mp q
theorem Gj{CX:AV}{P:zds}{w:zdi}{K:zaa}{mg:Str->Option zdh}{base:Heap}{N ps:List Str}{qual:Str}{scope:Scope}{f:zdg}{cd:zdh}{A:zdr}{outer:List Env}{s s1:zdq}{H:Hp}{E:XK}{us:List zdh}{vs:List V}
 (S:aY N ps scope) (hd:A.handled=none) (e0:qz P w K mg base A outer s H) (hl:vs.length=ps.length) (r:Vals vs us)
 (x:InCallC s s.heap.objs.size (bindL (envOfC qual scope s.heap.objs.size f cd).kindOf (ps.zip us) fun _=>none) (cellsFrom (s.heap.objs.size+1) scope.names []) (bindC (envOfC qual scope s.heap.objs.size f cd).kindOf (ps.zip us) fun _=>none) s1) :
 Inv (mQ CX P w K mg base N qual scope f cd A outer s H E) [] (start N vs) H s1:=by
 have mP:ps.length<=N.length:=by have:=congrArg zaV S.pre;rw[zbh] at this;lia
 obtain⟨h1,tk,rfl,hk⟩:=x.done;have Qj:∀b:zdg,b ∉ (mQ CX P w K mg base N qual scope f cd A outer s H E).ex:=fun b z=>absurd (show b∈([]:List zdg) from z) (by simp);refine⟨⟨e0.mod,S.kind,rfl,rfl,zaj _,fun y z c h1 h2=>?_,fun y hy=>?_,fun y c _ h=>?_,fun _=>hd,Around.frames_deeper e0.frames,.inr ⟨rfl,rfl⟩,fun b z=>absurd z (Qj b),e0.bs,e0.F3,fun b _ _=>Qj b,fun b z=>absurd z (Qj b),e0.pP,e0.Md⟩,
  rfl,e0.bare,Un.kept hk,⟨_,x.toInCall.ns,fun i y v h1 h2 h3=>?_⟩,fun y c h=>⟨_,x.cell y c h⟩,e0.cI.fresh (zaj _),fun y c h=>?_,fun p hp=>absurd (show p∈([]:List (zdg×Obj)) from hp) (by simp),e0.cI.kept hk,?_⟩
 ·exact name_of_addr x.apart (PySem.mem_of_lookup h1) (PySem.mem_of_lookup h2)
 ·have hy:scope.names.lookup y=some .cell\/scope.names.lookup y=some .free:=hy;rcases hy with hy |hy
  ·exact Bf hy
  ·exact absurd rfl (S.Qi _ (PySem.mem_of_lookup hy))
 ·exact zb6 (x.above y c (PySem.mem_of_lookup h))
 ·have hi:i<vs.length:=by
   unfold start at h2;by_cases hi:i<vs.length
   ·exact hi
   ·rw[zbZ (by simpa using hi)] at h2;rw[zcM] at h2;split at h2<;>cases h2
  have ha:vs[i]?=some v:=by
   unfold start at h2;rw[zcK (by simpa using hi),zar] at h2;cases e:vs[i]? with
   |none=>rw[e] at h2;cases h2
   |some a=>rw[e] at h2;cases h2;rfl
  obtain⟨u,hu,rv⟩:=r.get ha;have hp:ps[i]?=some y:=by
   rw[<- S.pre,List.getElem?_take_of_lt (by lia)];exact h1
  have ndP:ps.Nodup:=by rw[<- S.pre];exact S.nd.sublist (List.take_sublist _ _)
  refine⟨u,rv,?_⟩;rcases S.par y (zaz hp) with k |k
  ·exact .inl ⟨k,yj ndP hp hu k⟩
  ·obtain⟨c,e⟩:=Bf (n:=s.heap.objs.size+1) k;refine .inr ⟨.inl k,c,e,?_⟩;have q:=x.cell y c e;rw[yk ndP hp hu (by show scope.names.lookup y≠_;rw[k];decide)] at q;exact q
 ·exact e0.cI.fresh (zb6 (x.above y c (PySem.mem_of_lookup h)))
 ·unfold start;show _=N.length;rw[zai,zac,zcZ];lia
theorem OG{CX:AV}{P:zds}{w:zdi}{K:zaa}{mg:Str->Option zdh}{base:Heap}{k:Nat}{f:zdg}{name qual:Str}{params:Arguments}{body:List Stmt}{scope:Scope}{dV kV doc pm eS ct oc:zdh}{an od:Option zdg}
 {EL:Array (Option zdh)} {N ps:List Str} {sp:Sp} (lk:K.lookup f=some ⟨oc,od,.func (zbw name qual params body scope dV kV doc pm an eS ct),EL⟩) (C0:zcd K eS qual=true) (S:aY N ps scope)
 (len:∀vs H Q E,sp vs H Q E->vs.length=ps.length)
 (rG:∀(A:zdr) (outer:List Env) (s:zdq) (H:Hp) (vs:List V) (Q:VK) (E:XK),gQ k (A.deeper (envOfC qual scope s.heap.objs.size f eS))->sp vs H Q E->
  ∃t,CZ (mQ CX P w K mg base N qual scope f eS A outer s H E) body t/\t {nx:=fun _ H'=>Q .cx H',rt:=Q} (start N vs) H) :
 bB P w K mg base CX (k+1) f (zbw name qual params body scope dV kV doc pm an eS ct) ps sp:=by
 refine⟨len,fun A outer s H args us vs Q E hr e0 hb r Mf=>?_⟩;have hl:=len _ _ _ _ Mf;have KX:K.In s.heap:=e0.mod.SV.keeps fun b o e=>(e0.bs b o e).1;have lim:s.heap.NoLimit:=e0.mod.nolimit.keeps fun b o e=>(e0.bs b o e).1;have Tj:∀y∈ps.zip us,scope.names.lookup y.1=some .local\/(scope.names.lookup y.1=some .cell/\((cellsFrom (s.heap.objs.size+1) scope.names []).lookup y.1).isSome=true):=fun ⟨n,v⟩ hy=>by
  rcases S.par n (zcS hy).1 with q |q
  ·exact .inl q
  ·exact .inr ⟨q,zcY _ _ _ (.inl q)⟩
 refine codeAny_call_function hr.depth (KX _ _ lk) rfl S.co S.gen rfl (PySem.W.codeRec_of KX C0) (hb _ _ _ _ ?_);refine wpAny_newFunctionEnv_cells S.kind Tj fun env he s1 x=>?_;subst he;refine⟨lim.keeps x.toInCall.keep,codeAny_func ?_⟩;obtain⟨t,ht,hq⟩:=rG A outer s H vs Q E (hr.deeper _) Mf;have I:Inv (mQ CX P w K mg base N qual scope f eS A outer s H E) [] (start N vs) H s1:=Gj S hr.hd e0 hl r x;refine wpAny_mono (ht [] s1 (start N vs) H _ I hq) (fun fl s' hs=>?_) fun e s' hs=>hs;have fin:∀ {σ':St} {H':Hp} {v:V} {u:zdh},Inv (mQ CX P w K mg base N qual scope f eS A outer s H E) [] σ' H' s'->RelV v u->Q v H'->CE outer P w H s Q u s':=
  fun {σ' H' v u} J rv q=>⟨v,H',J.os,J.bare,J.base,J.cI,rv,q⟩
 cases fl with
 |ret u=>
  obtain⟨v,σ',H',J,rv,q⟩:=hs;exact fin J rv q
 |next=>
  obtain⟨σ',H',J,q⟩:=hs;exact fin (v:=V.cx) (u:=Value.none) J rfl q
 |brk=>
  obtain⟨_,_,_,q⟩:=hs;exact False.elim q
 |cont=>
  obtain⟨_,_,_,q⟩:=hs;exact False.elim q
section
variable{X:Cx}{x:Str}{p pos:Pos}{e:Expr}{es:List Expr}{t:TA}{id T:String}{r:List V->Hp->VK->Prop}
def XT (r:List V->Hp->VK->Prop) (t:TA):TE:=fun σ H Q=>t σ H fun vs H1=>r vs H1 Q
theorem bS(hc:jE X (.builtin id) r)(hg:Gl X x)(hm:X.mg x=none)(hv:bootBuiltins x=some (.builtin id))(ha:PA X (e::es) t)(hn:x≠"__name__":=by decide)(IT:(x==("__debug__":Str))=false:=by decide)
 (he:zdm (e::es) X.env=(false,eval e X.env)::zdm es X.env:=by rfl) (mP:(backTo pos (zdm es X.env)).any (·.1)=false:=by rfl):PE X (.Call (.Name x p) (e::es) [] pos) (XT r t):=by
 intro pins s σ H Q I h;refine wpAny_Call_Name_kw (oh I hg hm hv ?_ hn IT);exact PyProof.Rows.callWith_builtin1 (dU (ha pos pins s σ H _ I h) fun us s1 ⟨vs,H1,I1,r1,q1⟩=>hc pins s1 σ H1 vs us Q I1 r1 q1) he mP
theorem cf(hc:jE X (.type T) r)(hg:Gl X x)(hm:X.mg x=none)(hv:bootBuiltins x=some (.type T))(ha:PA X (e::es) t)(hn:x≠"__name__":=by decide)(IT:(x==("__debug__":Str))=false:=by decide)
 (he:zdm (e::es) X.env=(false,eval e X.env)::zdm es X.env:=by rfl) (mP:(backTo pos (zdm es X.env)).any (·.1)=false:=by rfl):PE X (.Call (.Name x p) (e::es) [] pos) (XT r t):=by
 intro pins s σ H Q I h;refine wpAny_Call_Name_kw (oh I hg hm hv ?_ hn IT);exact za9 (dU (ha pos pins s σ H _ I h) fun us s1 ⟨vs,H1,I1,r1,q1⟩=>hc pins s1 σ H1 vs us Q I1 r1 q1) he mP
end
end L2
namespace HT
open PySem PyProof.Rows
section
variable{prog:zds}{w:zdi}{A:zdr}{E:zdh->zdq->Prop}{s:zdq}
theorem MO{t b:zdg}{vs ws:List zdh}{Q:zdh->zdq->Prop}(ht:IsTup s.heap t vs.toArray)(hb:IsTup s.heap b ws.toArray)(hv:vs≠[])
 (h1:ws=[]->Q (.ref t) s) (h2:ws≠[]->Q (.ref s.heap.objs.size) {s with heap:=s.heap.push {cls:=.type "tuple",data:=.seq (vs++ws).toArray} })
 (hsz:vs.length+ws.length<=zdo):wpAny (model prog w) A (binaryOp .Add (.ref t) (.ref b)) Q E s:=by
 obtain⟨⟨cls,dd,data,sl⟩,ho,hc,n,hd⟩:=id ht;obtain⟨⟨Tn,To,data2,Qk⟩,Ql,Tp,n2,hd2⟩:=id hb;simp only at hc hd Tp hd2;subst hc hd Tp hd2;have e:vs.toArray++ws.toArray=(vs++ws).toArray:=by simp
 by_cases hw:ws=[]
 ·exact concat_meets ⟨_,ho,rfl⟩ ⟨_,Ql,rfl⟩ noFill_tuple_add seq_tuple_add zcj zce (zb9 _ _)
   (tuple_addW1 t b vs.toArray ws.toArray n n2 dd To sl Qk (by simpa using hv) (by simp[hw])) ⟨ho,Ql,h1 hw⟩
 ·refine concat_meets ⟨_,ho,rfl⟩ ⟨_,Ql,rfl⟩ noFill_tuple_add seq_tuple_add zcj zce (zb9 _ _)
   (tuple_addW2 t b vs.toArray ws.toArray n n2 dd To sl Qk (by simpa using hv) (by simpa using hw) (by rw[zao,zao];exact hsz)) ⟨ho,Ql,?_⟩
  rw[e];exact h2 hw
def gk (n d:Nat):Option Int->Nat
 |none=>d
 |some v=>if v<0 then (v+(n:Int)).toNat else min v.toNat n
theorem oo(n d:Nat):gk n d none=d:=rfl
theorem pk(n d k:Nat):gk n d (some (k:Int))=min k n:=by
 show (if (k:Int)<0 then ((k:Int)+(n:Int)).toNat else min (k:Int).toNat n)=min k n;rw[if_neg (by lia),zaR]
theorem Df(n d:Nat)(hd:d<=n)(o:Option Int):gk n d o<=n:=by
 cases o with
 |none=>exact hd
 |some v=>
  show (if v<0 then (v+(n:Int)).toNat else min v.toNat n)<=n;by_cases hv:v<0
  ·rw[if_pos hv];lia
  ·rw[if_neg hv];exact zcm _ _
theorem EM(v:Int)(n d:Nat):(if v<0 then max (v+(n:Int)) 0 else min v (n:Int))=((gk n d (some v):Nat):Int):=by
 show (if v<0 then max (v+(n:Int)) 0 else min v (n:Int))=(((if v<0 then (v+(n:Int)).toNat else min v.toNat n):Nat):Int);by_cases hv:v<0
 ·simp only[if_pos hv];lia
 ·simp only[if_neg hv];lia
theorem Dg(lo hi:Option Int)(n:Nat):Builtin.Slice.sliceAdjust lo hi 1 (n:Int)=(((gk n 0 lo:Nat):Int),((gk n n hi:Nat):Int)):=by
 have h1:¬((1:Int)<0):=by lia
 unfold Builtin.Slice.sliceAdjust;simp only[h1,if_false];refine Prod.ext ?_ ?_
 ·cases lo with
  |none=>rfl
  |some v=>exact EM v n 0
 ·cases hi with
  |none=>rfl
  |some v=>exact EM v n n
theorem Dh(i j:Nat):Builtin.Slice.slicePlaces (i:Int) (j:Int) 1=j-i:=by
 unfold Builtin.Slice.slicePlaces;have h1:(1:Int)>0:=by lia
 simp only[h1,if_true,Int.ediv_one];split<;>lia
theorem vY{v:zdh}{o:Option Int}{Q:Option Int->zdq->Prop}(p:IsPart v o)(h:Q o s):wpAny (model prog w) A (Builtin.Slice.slicePartIndex v) Q E s:=by
 cases p with
 |none=>exact slicePart_none h
 |int i t=>exact slicePart_int h
theorem lU{sl:zdg}{vl vu:zdh}{lo hi:Option Int}{n:Nat}{Q:Int×Int×Nat->zdq->Prop}(hs:s.heap.IsSliceOf sl vl vu .none)(pl:IsPart vl lo)(pu:IsPart vu hi)
 (h:Q (((gk n 0 lo:Nat):Int),1,gk n n hi-gk n 0 lo) s):wpAny (model prog w) A (Builtin.Slice.sliceApplied (.ref sl) (pure (n:Int))) Q E s:=by
 obtain⟨os,Qm,Wj,Tq⟩:=id hs;unfold Builtin.Slice.sliceApplied Builtin.Slice.sliceFields;refine zdj (zdj (wpAny_field Qm Tq (x:=vl) rfl (zdj (wpAny_field Qm Tq (x:=vu) rfl (zdj (wpAny_field Qm Tq (x:=.none) rfl (zdk ?_)))))));refine zdj (slicePart_none ?_);show wpAny _ _ (if ((1:Int)==0)=true then _ else _) _ _ s;rw[if_neg (by decide)];refine zdj (vY pl (zdj (vY pu (zdj (zdk ?_)))));show wpAny _ _ (match Builtin.Slice.sliceAdjust lo hi 1 (n:Int) with |(lo,hi)=>pure (lo,(1:Int),Builtin.Slice.slicePlaces lo hi 1)) _ _ s;rw[Dg lo hi n];show wpAny _ _ (pure (((gk n 0 lo:Nat):Int),(1:Int),Builtin.Slice.slicePlaces ((gk n 0 lo:Nat):Int) ((gk n n hi:Nat):Int) 1)) _ _ s;rw[Dh];exact zdk h
theorem IV(xs:Array zdh)(i k:Nat):((zaF k).filterMap fun (m:Nat)=>xs[((i:Int)+(m:Int)*1).toNat]?).toArray=((xs.toList.drop i).take k).toArray:=by
 have e:(fun (m:Nat)=>xs[((i:Int)+(m:Int)*1).toNat]?)=fun m=>xs[i+m]?:=by
  funext m
  have:((i:Int)+(m:Int)*1).toNat=i+m:=by lia
  rw[this]
 rw[e];have:=pick_run xs i k;rw[List.filterMap_map] at this;have e2:((fun x=>xs[x]?) ∘ fun x=>i+x)=fun m=>xs[i+m]?:=rfl;rw[e2] at this;rw[this]
theorem rH{t sl:zdg}{items:Array zdh}{vl vu:zdh}{lo hi:Option Int}{Q:zdh->zdq->Prop}(ht:IsTup s.heap t items)(hs:s.heap.IsSliceOf sl vl vu .none)(pl:IsPart vl lo)(pu:IsPart vu hi)
 (hw:¬(gk items.size 0 lo=0/\gk items.size items.size hi=items.size))
 (h:Q (.ref s.heap.objs.size) {s with heap:=s.heap.push {cls:=.type "tuple",data:=.seq ((items.toList.drop (gk items.size 0 lo)).take (gk items.size items.size hi-gk items.size 0 lo)).toArray} })
 (hsz:items.size<=zdo):wpAny (model prog w) A (getItem (.ref t) (.ref sl)) Q E s:=by
 have EN:sizeOk (.seq ((items.toList.drop (gk items.size 0 lo)).take (gk items.size items.size hi-gk items.size 0 lo)).toArray):=by
  show ((items.toList.drop (gk items.size 0 lo)).take (gk items.size items.size hi-gk items.size 0 lo)).toArray.size<=zdo;rw[zao,zbh,zby,za0];lia
 have hj:gk items.size items.size hi<=items.size:=Df _ _ (zaj _) hi;obtain⟨os,Qm,Wj,Tq⟩:=id hs;have XU:s.TypeIs (.ref sl) "slice":=⟨os,Qm,Wj⟩
 unfold getItem
 try with_reducible refine zdl ?_
 first |refine zdj (zdk ?_) |skip
 refine zdj (wpAny_sequenceKey ht.typeIs (by decide) ?_);refine zdj (wpAny_callSpecial?_slot (name:=zab "__getitem__") ht.typeIs zbr
  (wpAny_call_entry zbr ht.typeIs entry_tuple_getitem ?_ (args_tuple_getitem _ _)))
 show wpAny _ _ (Builtin.Tuple.tupleItemsOf (.ref t) >>= _) _ _ s;refine zdj (tupleItemsOf_ ht ?_);refine zdj (wpAny_typeOf XU ?_);rw[if_pos (by decide)];refine zdj (lU hs pl pu ?_);have Ts:¬((((gk items.size 0 lo:Nat):Int)==0&&(1:Int)==1&&(gk items.size items.size hi-gk items.size 0 lo)==items.size)=true):=by
  intro q;rw[zba,zba] at q;have q1:((gk items.size 0 lo:Nat):Int)=0:=eq_of_beq q.1.1;have q2:gk items.size items.size hi-gk items.size 0 lo=items.size:=eq_of_beq q.2;exact hw ⟨by lia,by lia⟩
 show wpAny _ _ (if (((gk items.size 0 lo:Nat):Int)==0&&(1:Int)==1&&(gk items.size items.size hi-gk items.size 0 lo)==items.size)=true then _ else _) _ _ s;rw[if_neg Ts,IV]
 first
  |exact zdj (m:=Builtin.Tuple.tupleExact _) (wpAny_newObj_type (zdk ⟨_,rfl,zdk h⟩) EN)
  |exact zdj (m:=Builtin.Tuple.tupleExact _) (wpAny_newObj_type (zdj (zdk (zdk ⟨_,rfl,zdk h⟩))) EN)
  |exact zdj (zdj (m:=Builtin.Tuple.tupleExact _) (wpAny_newObj_type (zdk (zdk ⟨_,rfl,zdk h⟩)) EN))
  |exact zdj (zdj (m:=Builtin.Tuple.tupleExact _) (wpAny_newObj_type (zdk ⟨_,rfl,zdk h⟩) EN))
end
end HT
namespace L2
open PySem PySem.Spec PyProof.Rows
abbrev TO:=St->Hp->(Option Int->Hp->Prop)->Prop
def PO (X:Cx) (e:Option Expr) (t:TO):Prop:=
 ∀(pins:List (zdg×Obj)) (s:zdq) (σ:St) (H:Hp) (Q:Option Int->Hp->Prop),Inv X pins σ H s->t σ H Q->
  wpAny (model X.prog X.w) X.A (evalPart e X.env) (fun u s'=>∃o H',Inv X pins σ H' s'/\IsPart u o/\Q o H') X.xe s
def zu:TO:=fun _ H Q=>Q none H
def IW (t:TE):TO:=fun σ H Q=>t σ H fun x H1=>∃i,x=.int i/\Q (some i) H1
theorem intsAre_of{ns:List Int}:∀ {us:List zdh},Vals (ns.map V.int) us->IntsAre us ns:=by
 induction ns with
 |nil=>intro us r;rw[zaP] at r;cases r;exact .nil
 |cons n ns ih=>
  intro us r;rw[zaq] at r;cases r with
  |cons r1 r2=>
   obtain⟨t,e⟩:=r1;subst e;exact .cons n t (ih r2)
section
variable{X:Cx}{e:Expr}{te:TE}{lo hi:Option Expr}{tl th:TO}{pos p2:Pos}
theorem eW:PO X none zu:=by
 intro pins s σ H Q I h;rw[evalPart_none];exact zdk ⟨none,H,I,.none,h⟩
theorem dI(h:PE X e te):PO X (some e) (IW te):=by
 intro pins s σ H Q I hw;rw[evalPart_some];refine dU (h pins s σ H _ I hw) fun u s1 zqz=>?_;obtain⟨x,H1,I1,r1,q1⟩:=zqz;obtain⟨i,rfl,q⟩:=q1;obtain⟨t,rfl⟩:=r1;exact⟨some i,H1,I1,.int i t,q⟩
def R7 (X:Cx) (r:V->Option Int->Option Int->Hp->VK->Prop):Prop:=
 ∀(pins:List (zdg×Obj)) (s:zdq) (σ:St) (H:Hp) (x:V) (v vl vu:zdh) (lo hi:Option Int) (sl:zdg) (Q:VK),Inv X pins σ H s->RelV x v->s.heap.IsSliceOf sl vl vu .none->IsPart vl lo->IsPart vu hi->r x lo hi H Q->
  ∃T id,typeLookup (.type T) "__getitem__"=pure (some (.builtin id))/\s.TypeIs v T/\wpAny (model X.prog X.w) X.A (getItem v (.ref sl)) (EP X pins σ Q) X.xe s
def XW (r:V->Option Int->Option Int->Hp->VK->Prop) (te:TE) (tl th:TO):TE:=fun σ H Q=>te σ H fun x H1=>tl σ H1 fun l H2=>th σ H2 fun u H3=>r x l u H3 Q
theorem dJ{r:V->Option Int->Option Int->Hp->VK->Prop}(hr:R7 X r)(he:PE X e te)(hl:PO X lo tl)(hu:PO X hi th):PE X (.Subscript e (.Slice lo hi none p2) pos) (XW r te tl th):=by
 intro pins s σ H Q I h;refine Subscript_ (dU (he pins s σ H _ I h) fun v s1 zqz=>?_);obtain⟨x,H1,I1,r1,q1⟩:=zqz;refine wpAny_Slice (dU (hl pins s1 σ H1 _ I1 q1) fun vl s2 zqz=>?_);obtain⟨l,H2,I2,pl,q2⟩:=zqz;refine dU (hu pins s2 σ H2 _ I2 q2) fun vu s3 zqz=>?_;obtain⟨u,H3,I3,pu,q3⟩:=zqz;rw[evalPart_none];refine zdk ?_;have I4:Inv X pins σ H3 {s3 with heap:=s3.heap.push {cls:=.type "slice",data:=.fields #[vl,vu,.none]} }:=I3.kept (t':=s3.toks) fun b ob q=>Heap.get?_push_of_some _ q;obtain⟨T,id,hT,ht,hg⟩:=hr pins {s3 with heap:=s3.heap.push {cls:=.type "slice",data:=.fields #[vl,vu,.none]} } σ H3 x v vl vu l u s3.heap.objs.size Q I4 r1 (Heap.IsSliceOf.new ..) pl pu q3;show wpAny (model X.prog X.w) X.A (subscriptTail e (.Slice lo hi none p2) v (.ref s3.heap.objs.size)) (EP X pins σ Q) X.xe {s3 with heap:=s3.heap.push {cls:=.type "slice",data:=.fields #[vl,vu,.none]} };exact tail_any (ops:=[.ref s3.heap.objs.size,v]) ht hT hg (by with_unfolding_all rfl)
def iF (xs:List V) (lo hi:Option Int):List V:=(xs.drop (HT.gk xs.length 0 lo)).take (HT.gk xs.length xs.length hi-HT.gk xs.length 0 lo)
theorem dk(xs:List V)(lo hi:Option Int):(iF xs lo hi).length<=xs.length:=by
 unfold iF;rw[zbh,zby];lia
def XX (K:zaa):V->Option Int->Option Int->Hp->VK->Prop:=fun x lo hi H Q=>∃a xs,x=.ref a/\b8 K H a xs/\
 ¬(HT.gk xs.length 0 lo=0/\HT.gk xs.length xs.length hi=xs.length)/\∀p,H p=none->Q (.ref p) (upd H p (.tup (iF xs lo hi)))
theorem IX:R7 X (XX X.K):=by
 intro pins s σ H x v vl vu lo hi sl Q I rx hs pl pu h;obtain⟨a,xs,rfl,hx,hw,q⟩:=h;cases rx;obtain⟨its,r,ht,hz⟩:=I.tuple hx;have hlen:its.toArray.size=xs.length:=by rw[zao];exact r.length.symm
 refine⟨"tuple",_,zbr.lookup,ht.typeIs,?_⟩;refine HT.rH ht hs pl pu (by rw[hlen];exact hw) ?_ (by rw[hlen];exact hz);rw[hlen];refine⟨.ref s.heap.objs.size,_,I.laid (t':=s.toks) (o:=.tup (iF xs lo hi)) (fun b ob q=>Heap.get?_push_of_some _ q) (zaj _) ?_,rfl,q _ (I.cI.fresh (zaj _))⟩;exact⟨zaA (dk xs lo hi) hz,_,(r.drop (HT.gk xs.length 0 lo)).take (HT.gk xs.length xs.length hi-HT.gk xs.length 0 lo),IsTup.new _ _⟩
def Tt (K:zaa):R2:=fun x y H Q=>∃a b xs ys,x=.ref a/\y=.ref b/\b8 K H a xs/\b8 K H b ys/\xs≠[]/\xs.length+ys.length<=zdo/\
 (ys=[]->Q (.ref a) H)/\(ys≠[]->∀p,H p=none->Q (.ref p) (upd H p (.tup (xs++ys))))
theorem Vals.bN{xs:List V}{us:List zdh}(r:Vals xs us):us=[]↔xs=[]:=by
 cases r with
 |nil=>simp
 |cons _ _=>simp
theorem MP:nZ X (binaryOp .Add) (Tt X.K):=by
 intro pins s σ H x y v u Q I rx ry h;obtain⟨a,b,xs,ys,rfl,rfl,ha,hb,hx,hz,q1,q2⟩:=h;cases rx;cases ry;obtain⟨its,r1,p1,_⟩:=I.tuple ha;obtain⟨nX,r2,p2,_⟩:=I.tuple hb;refine HT.MO p1 p2 (fun z=>hx (r1.bN.mp z)) (fun z=>⟨.ref a,H,I,rfl,q1 (r2.bN.mp z)⟩) (fun z=>?_) (by rw[<- r1.length,<- r2.length];exact hz);refine⟨.ref s.heap.objs.size,_,I.laid (t':=s.toks) (o:=.tup (xs++ys)) (fun b ob q=>Heap.get?_push_of_some _ q) (zaj _) ?_,rfl,q2 (fun w=>z (r2.bN.mpr w)) _ (I.cI.fresh (zaj _))⟩;exact⟨by rw[zai];exact hz,_,r1.append r2,IsTup.new _ _⟩
end
def IY (n:Nat) (i:Int):Option Nat:=if 0<=i then (if i<n then some i.toNat else none) else if -(n:Int)<=i then some (i+n).toNat else none
def tK {α:Type} (xs:List α) (i:Int):Option α:=(IY xs.length i).bind fun j=>xs[j]?
theorem EO{n:Nat}{i:Int}{j:Nat}(h:IY n i=some j):seqIndex? i n=some j/\j<n/\-(n:Int)<=i/\i<n:=by
 unfold IY at h;by_cases h0:0<=i
 ·rw[if_pos h0] at h;by_cases h1:i<n
  ·rw[if_pos h1] at h;have e:i.toNat=j:=zaT.inj h;exact⟨by rw[seqIndex_of h0 h1,e],by lia,by lia,h1⟩
  ·rw[if_neg h1] at h;cases h
 ·rw[if_neg h0] at h;by_cases h1 : -(n:Int)<=i
  ·rw[if_pos h1] at h;have e:(i+n).toNat=j:=zaT.inj h;exact⟨by rw[seqIndex_neg (by lia) h1,e],by lia,h1,by lia⟩
  ·rw[if_neg h1] at h;cases h
theorem zv{α:Type}{xs:List α}{i:Int}{v:α}(h:tK xs i=some v):∃j,seqIndex? i xs.length=some j/\xs[j]?=some v/\j<xs.length/\-(xs.length:Int)<=i/\i<xs.length:=by
 unfold tK at h;cases e:IY xs.length i with
 |none=>rw[e] at h;cases h
 |some j=>
  rw[e] at h;obtain⟨h1,h2,h3,h4⟩:=EO e;exact⟨j,h1,h,h2,h3,h4⟩
theorem au{α:Type}{xs:List α}{j:Nat}{v:α}(h:xs[j]?=some v):tK xs (j:Int)=some v:=by
 have hj:j<xs.length:=(zak.mp h).1;have e:IY xs.length (j:Int)=some j:=by
  unfold IY;rw[if_pos (by lia),if_pos (by lia)];simp
 unfold tK;rw[e];exact h
theorem lV{α:Type}(xs:List α)(v:α):tK (xs++[v]) (-1)=some v:=by
 have hl:(xs++[v]).length=xs.length+1:=by simp
 have e:IY (xs++[v]).length (-1)=some xs.length:=by
  unfold IY;rw[hl,if_neg (by decide),if_pos (by lia)]
  congr 1
  lia
 unfold tK;rw[e];show (xs++[v])[xs.length]?=some v;simp
def pA (b:Expr):Prop:=∀o i,subscripted b false o i=operate [o,i] (getItem o i)
def Tu (X:Cx) (r:R2):Prop:=
 ∀(value slice:Expr) (pins:List (zdg×Obj)) (s:zdq) (σ:St) (H:Hp) (x y:V) (v u:zdh) (Q:VK),Inv X pins σ H s->RelV x v->RelV y u->r x y H Q->
  subscripted slice false v u=operate [v,u] (getItem v u)->wpAny (model X.prog X.w) X.A (subscriptTail value slice v u) (EP X pins σ Q) X.xe s
def MtR (X:Cx) (id:String) (r:V->List V->Hp->VK->Prop):Prop:=
 ∀(pins:List (zdg×Obj)) (s:zdq) (σ:St) (H:Hp) (x:V) (xs:List V) (v:zdh) (us:List zdh) (Q:VK),Inv X pins σ H s->RelV x v->Vals xs us->r x xs H Q->
  wpAny (model X.prog X.w) X.A (call (.builtin id) (v::us)) (EP X pins σ Q) X.xe s
section
variable{X:Cx}{a b:Expr}{ta tb:TE}{pos:Pos}
theorem aC{r:R2}(hr:Tu X r)(ha:PE X a ta)(hb:PE X b tb)(hs:pA b):PE X (.Subscript a b pos) (S8 r ta tb):=by
 intro pins s σ H Q I h;exact Subscript_ (Qc ha hb I h fun v u s2 x y H2 I2 rx ry q=>hr a b pins s2 σ H2 x y v u Q I2 rx ry q (hs _ _))
def Qn (K:zaa):R2:=fun x y H Q=>∃p xs i v,x=.ref p/\y=.int i/\gC K H p xs/\tK xs i=some v/\Q v H
def Gk (K:zaa):R2:=fun x y H Q=>∃p xs i v,x=.ref p/\y=.int i/\b8 K H p xs/\tK xs i=some v/\Q v H
def XY:R2:=fun x y H Q=>∃z i c,x=.str z/\y=.int i/\z.length<=zdo/\tK z.cps.toList i=some c/\Q (.str ⟨#[c]⟩) H
theorem bJ:Tu X (Qn X.K):=by
 intro value slice pins s σ H x y v u Q I rx ry h hs;obtain⟨p,xs,i,z,rfl,rfl,hq,he,q⟩:=h;cases rx;obtain⟨t,rfl⟩:=ry;obtain⟨its,r,pl,hz⟩:=I.list hq;obtain⟨j,h1,h2,h3,h4,h5⟩:=zv he;obtain⟨w,ew,Di⟩:=r.get h2;have hl:=r.length;have hn:=tH;have fin:EP X pins σ Q w s:=⟨z,H,I,Di,q⟩
 by_cases h0:0<=i
 ·have hj:i.toNat=j:=by
   rw[seqIndex_of h0 h5] at h1;exact zaT.inj h1
  exact item_listR pl.isList h0 (by lia) (by rw[hj];simpa using ew) fin hs
 ·have hj:(i+(its.toArray.size:Int)).toNat=j:=by
   rw[seqIndex_neg (by lia) h4] at h1;rw[zao,<- hl];exact zaT.inj h1
  exact subscriptTail_builtinR (x:=w) pl.isList.typeIs slot_list_getitem.lookup
   (wpAny_getItem_list_neg (Q:=fun r s'=>r=w/\EP X pins σ Q r s') pl.isList (by lia) (by rw[zao]<;>lia) (by lia) (by rw[hj];simpa using ew) ⟨rfl,fin⟩) hs
theorem aD:Tu X (Gk X.K):=by
 intro value slice pins s σ H x y v u Q I rx ry h hs;obtain⟨p,xs,i,z,rfl,rfl,hq,he,q⟩:=h;cases rx;obtain⟨t,rfl⟩:=ry;obtain⟨its,r,pl,hz⟩:=I.tuple hq;obtain⟨j,h1,h2,h3,h4,h5⟩:=zv he;obtain⟨w,ew,Di⟩:=r.get h2;have hl:=r.length;have hn:=tH;have fin:EP X pins σ Q w s:=⟨z,H,I,Di,q⟩
 exact subscriptTail_builtinR (x:=w) pl.typeIs slot_tuple_getitem.lookup
  (getItem_tuple (j:=j) (Q:=fun r s'=>r=w/\EP X pins σ Q r s') pl (by lia) (by lia) (by rw[zao,<- hl];exact h1) (by simpa using ew) ⟨rfl,fin⟩) hs
theorem Dj:Tu X XY:=by
 intro value slice pins s σ H x y v u Q I rx ry h hs;obtain⟨z,i,c,rfl,rfl,hz,he,q⟩:=h;obtain⟨t,rfl⟩:=rx;obtain⟨t',rfl⟩:=ry;obtain⟨j,h1,h2,h3,h4,h5⟩:=zv he;have hl:z.cps.toList.length=z.length:=by simp[Str.length]
 rw[hl] at h1 h4 h5;have hn:=tH;exact tail_any (typeIs_str s z t) slot_str_getitem.lookup (getItem_str (c:=c) (by
  have e1:decide (i < -(2 ^ 63:Int))=false:=decide_eq_false (by lia);have e2:decide (i ≥ 2 ^ 63)=false:=decide_eq_false (by lia);rw[e1,e2,zdb]) (by rw[h1];simpa using h2) ⟨.str ⟨#[c]⟩,H,I.tok _,⟨_,rfl⟩,q⟩) hs
theorem Dk(its:List zdh)(n j:Nat)(u:zdh):Obj.mapSeq (·.setIfInBounds j u) {cls:=.type "list",data:=.seq its.toArray n}={cls:=.type "list",data:=.seq (its.set j u).toArray n}:=by
 simp[Obj.mapSeq]
theorem Inv.lst{pins:List (zdg×Obj)}{σ:St}{H:Hp}{s:zdq}{p:zdg}{xs:List V}(I:Inv X pins σ H s)(h:H p=some (.lst xs)) :
 ∃(its:List zdh) (n:Nat),Vals xs its/\s.heap.get? p=some {cls:=.type "list",data:=.seq its.toArray n}/\xs.length<=zdo:=by
 obtain⟨z,its,n,r,e⟩:=I.cI p _ h;exact⟨its,n,r,e,z⟩
theorem Inv.Qo{pins:List (zdg×Obj)}{σ:St}{H:Hp}{s:zdq}{p:zdg}{xs ys:List V}{its its':List zdh}{n n':Nat}{f:Obj->Obj}(I:Inv X pins σ H s)(h:H p=some (.lst xs))
 (ho:s.heap.get? p=some {cls:=.type "list",data:=.seq its.toArray n}) (hf:f {cls:=.type "list",data:=.seq its.toArray n}={cls:=.type "list",data:=.seq its'.toArray n' }) (r:Vals ys its') (hz:ys.length<=zdo) (t:Nat) :
 Inv X pins σ (upd H p (.lst ys)) {s with heap:=s.heap.update p f,toks:=t}:=by
 have e:(s.heap.update p f).get? p=some {cls:=.type "list",data:=.seq its'.toArray n' }:=by
  rw[Heap.get?_update_self f ho (by rw[hf]<;>rfl),hf]
 refine I.write (x:=p) (e:=p) (by rw[h];trivial) (.inl rfl) (fun b u hb q=>(Heap.get?_update_other _ _ (Ne.symm hb)).trans q) ⟨_,e⟩ ?_;exact⟨hz,its',n',r,e⟩
def Tv:V->V->V->Hp->(Hp->Prop)->Prop:=fun o i v H Q=>∃p xs k j,o=.ref p/\i=.int k/\H p=some (.lst xs)/\IY xs.length k=some j/\Q (upd H p (.lst (xs.set j v)))
theorem set_list:S5 X Tv:=by
 intro pins s σ H o i v ov iv u Q I ro ri rv h;obtain⟨p,xs,k,j,rfl,rfl,hp,hj,q⟩:=h;cases ro;obtain⟨t,rfl⟩:=ri;obtain⟨its,n,r,ho,hz⟩:=I.lst hp;obtain⟨h1,h2,h3,h4⟩:=EO hj;have hl:=r.length;have hn:=tH;have I':Inv X pins σ (upd H p (.lst (xs.set j v))) {s with heap:=s.heap.update p (Obj.mapSeq (·.setIfInBounds j u))}:=
  I.Qo hp ho (Dk its n j u) (r.set rv j) (by rw[zcT];exact hz) s.toks
 by_cases h0:0<=k
 ·have hk:k.toNat=j:=by
   rw[seqIndex_of h0 h4] at h1;exact zaT.inj h1
  exact PySem.W.ki_setAt ho h0 (by lia) (by rw[zao,<- hl];exact h4) (by rw[hk];exact⟨_,I',q⟩)
 ·have hk:(k+(its.toArray.size:Int)).toNat=j:=by
   rw[seqIndex_neg (by lia) h3] at h1;rw[zao,<- hl];exact zaT.inj h1
  exact PySem.W.ki_setBack ho (by lia) (by rw[zao,<- hl];exact h3) (by lia) (by rw[hk];exact⟨_,I',q⟩)
theorem zw(lo hi:Option Int)(n:Nat):(sliceBounds lo hi none n).1=((HT.gk n 0 lo:Nat):Int)/\(sliceBounds lo hi none n).2.1=((HT.gk n n hi:Nat):Int)/\(sliceBounds lo hi none n).2.2=1:=by
 refine⟨?_,?_,rfl⟩
 ·cases lo with
  |none=>simp[sliceBounds,HT.gk]
  |some i=>
   simp only[sliceBounds,HT.gk,Option.getD_none,show (1:Int)>0 by decide,if_true];by_cases h:i<0
   ·simp only[h,if_true]<;>lia
   ·simp only[h,if_false]<;>lia
 ·cases hi with
  |none=>simp[sliceBounds,HT.gk]
  |some i=>
   simp only[sliceBounds,HT.gk,Option.getD_none,show (1:Int)>0 by decide,if_true];by_cases h:i<0
   ·simp only[h,if_true]<;>lia
   ·simp only[h,if_false]<;>lia
theorem xC(its:List zdh)(lo hi:Option Int):slicePick its.toArray lo hi none=((its.drop (HT.gk its.length 0 lo)).take (HT.gk its.length its.length hi-HT.gk its.length 0 lo)).toArray:=by
 obtain⟨h1,h2,h3⟩:=zw lo hi its.toArray.size;unfold slicePick;rw[h1,h2,h3];simp only[sliceRange_one,pick_run,zao]<;>rfl
def Tw (K:zaa):V->Option Int->Option Int->Hp->VK->Prop:=fun x lo hi H Q=>∃a xs,x=.ref a/\gC K H a xs/\∀p,H p=none->Q (.ref p) (upd H p (.lst (iF xs lo hi)))
theorem rJ:R7 X (Tw X.K):=by
 intro pins s σ H x v vl vu lo hi sl Q I rx hs pl pu h;obtain⟨a,xs,rfl,hx,q⟩:=h;cases rx;obtain⟨its,r,ht,hz⟩:=I.list hx;have hlen:=r.length;refine⟨"list",_,slot_list_getitem.lookup,ht.isList.typeIs,?_⟩;refine wpAny_getItem_list_slice ht.isList hs pl pu .none (by simp) ?_ (by rw[zao]<;>lia);rw[xC,<- hlen];refine⟨.ref s.heap.objs.size,_,I.laid (t':=s.toks) (o:=.lst (iF xs lo hi)) (fun b ob q=>Heap.get?_push_of_some _ q) (zaj _) ?_,rfl,q _ (I.cI.fresh (zaj _))⟩;exact⟨zaA (dk xs lo hi) hz,_,0,(r.drop (HT.gk xs.length 0 lo)).take (HT.gk xs.length xs.length hi-HT.gk xs.length 0 lo),Heap.get?_push_size _ rfl⟩
def uH:V->Bool
 |.cx=>true
 |.bl _=>true
 |.int _=>true
 |.str _=>true
 |_=>false
def OH:V->V->Bool
 |.cx,.cx=>true
 |.bl a,.bl b=>a==b
 |.bl a,.int b=>(if a then 1 else 0)==b
 |.int a,.bl b=>a==(if b then 1 else 0)
 |.int a,.int b=>a==b
 |.str a,.str b=>a==b
 |_,_=>false
theorem Qp{A:zdr}{s:zdq}{y x:V}{u v:zdh}(ry:RelV y u)(rx:RelV x v)(fy:uH y=true)(fx:uH x=true):SeqAt.EqAt A s u v (OH y x):=by
 cases y with
 |cx=>
  cases ry;cases x with
  |cx=>cases rx;exact SeqAt.EqAt.same _
  |bl b=>cases rx;exact SeqAt.EqAt.none_bool b
  |int b=>obtain⟨t,rfl⟩:=rx;exact SeqAt.EqAt.none_int b t
  |str b=>obtain⟨t,rfl⟩:=rx;exact SeqAt.EqAt.none_str b t
  |_=>exact absurd (show false=true from fx) zal
 |bl a=>
  cases ry;cases x with
  |cx=>cases rx;exact SeqAt.EqAt.bool_none a
  |bl b=>cases rx;exact SeqAt.EqAt.bool_bool a b
  |int b=>obtain⟨t,rfl⟩:=rx;exact SeqAt.EqAt.bool_int a b t
  |str b=>obtain⟨t,rfl⟩:=rx;exact SeqAt.EqAt.bool_str a b t
  |_=>exact absurd (show false=true from fx) zal
 |int a=>
  obtain⟨t',rfl⟩:=ry;cases x with
  |cx=>cases rx;exact SeqAt.EqAt.int_none a t'
  |bl b=>cases rx;exact SeqAt.EqAt.int_bool a t' b
  |int b=>obtain⟨t,rfl⟩:=rx;exact SeqAt.EqAt.int_int a t' b t
  |str b=>obtain⟨t,rfl⟩:=rx;exact SeqAt.EqAt.int_str a t' b t
  |_=>exact absurd (show false=true from fx) zal
 |str a=>
  obtain⟨t',rfl⟩:=ry;cases x with
  |cx=>cases rx;exact SeqAt.EqAt.str_none a t'
  |bl b=>cases rx;exact SeqAt.EqAt.str_bool a t' b
  |int b=>obtain⟨t,rfl⟩:=rx;exact SeqAt.EqAt.str_int a t' b t
  |str b=>obtain⟨t,rfl⟩:=rx;exact SeqAt.EqAt.str_str a t' b t
  |_=>exact absurd (show false=true from fx) zal
 |_=>exact absurd (show false=true from fy) zal
def MQ (x:V) (u:zdh):Bool:=match u with
 |.none=>OH .cx x
 |.bool b=>OH (.bl b) x
 |.int i _=>OH (.int i) x
 |.str z _=>OH (.str z) x
 |_=>false
theorem IZ{x y:V}{u:zdh}(r:RelV y u)(f:uH y=true):MQ x u=OH y x:=by
 cases y with
 |cx=>cases r;rfl
 |bl b=>cases r;rfl
 |int i=>obtain⟨t,rfl⟩:=r;rfl
 |str z=>obtain⟨t,rfl⟩:=r;rfl
 |_=>exact absurd (show false=true from f) zal
theorem zx{x:V}:∀ {xs:List V} {us:List zdh},Vals xs us->xs.all uH=true->us.any (MQ x)=xs.any fun y=>OH y x
 |_,_,.nil,_=>rfl
 |y::xs,u::us,.cons r t,f=>by
  rw[zcH,zba] at f;rw[zbx,zbx,IZ r f.1,zx t f.2]
theorem vZ{A:zdr}{s:zdq}{x:V}{v:zdh}(rx:RelV x v)(fx:uH x=true):∀ {xs:List V} {us:List zdh},Vals xs us->xs.all uH=true->∀u∈us,SeqAt.EqAt A s u v (MQ x u)
 |_,_,.nil,_=>fun u hu=>by cases hu
 |y::xs,u::us,.cons r t,f=>fun u' hu=>by
  rw[zcH,zba] at f;rcases zag.mp hu with rfl |hu
  ·rw[IZ r f.1];exact Qp r rx f.1 fx
  ·exact vZ rx fx t f.2 u' hu
def R8 (x:V) (xs:List V):Bool:=xs.any fun y=>OH y x
def rIn (K:zaa) (neg:Bool):R2:=fun x y H Q=>∃p xs,y=.ref p/\(gC K H p xs\/b8 K H p xs)/\uH x=true/\xs.all uH=true/\Q (.bl (if neg then !R8 x xs else R8 x xs)) H
theorem j5:nZ X (compareOp .In) (rIn X.K false):=by
 intro pins s σ H x y v u Q I rx ry h;obtain⟨p,xs,rfl,hq,fx,fs,q⟩:=h;cases ry;rcases hq with hq |hq
 ·obtain⟨its,r,pl,hz⟩:=I.list hq;refine SeqAt.in_listAt (MQ x) pl.isList (fun w hw=>vZ rx fx r fs w (by simpa using hw)) ⟨.bl _,H,I,rfl,?_⟩;rw[show its.toArray.any (MQ x)=its.any (MQ x) by simp,zx r fs];exact q
 ·obtain⟨its,r,pl,hz⟩:=I.tuple hq;refine SeqAt.in_tupleAt (MQ x) pl (fun w hw=>vZ rx fx r fs w (by simpa using hw)) ⟨.bl _,H,I,rfl,?_⟩;rw[show its.toArray.any (MQ x)=its.any (MQ x) by simp,zx r fs];exact q
theorem bO:jE X (.builtin "len") (fun xs H Q=>∃p ys,xs=[.ref p]/\(gC X.K H p ys\/b8 X.K H p ys)/\Q (.int ys.length) H):=by
 intro pins s σ H xs us Q I r h;obtain⟨p,ys,rfl,hq,q⟩:=h;obtain⟨u,rfl,rx⟩:=vals1 r;cases rx;have hn:=tH;rcases hq with hq |hq
 ·obtain⟨its,r',pl,hz⟩:=I.list hq;have hlen:=r'.length;exact Calls.call_len_list pl.isList (by simp only[zao]<;>lia) ⟨.int ys.length,H,I.tok _,⟨s.toks+1,by rw[zao,hlen]⟩,q⟩
 ·obtain⟨its,r',pl,hz⟩:=I.tuple hq;have hlen:=r'.length;exact len_tuple pl (by simp only[zao]<;>lia) ⟨.int ys.length,H,I.tok _,⟨s.toks+1,by rw[zao,hlen]⟩,q⟩
theorem zy:jE X (.type "list") (fun xs H Q=>∃p ys,xs=[.ref p]/\(gC X.K H p ys\/b8 X.K H p ys)/\∀l,H l=none->Q (.ref l) (upd H l (.lst ys))):=by
 intro pins s σ H xs us Q I r h;obtain⟨p,ys,rfl,hq,q⟩:=h;obtain⟨u,rfl,rx⟩:=vals1 r;cases rx;have fin:∀(its:List zdh),Vals ys its->ys.length<=zdo->∀(h':Heap) (c':Nat),(∀b o',s.heap.get? b=some o'->h'.get? b=some o')->
  h'.get? s.heap.objs.size=some {cls:=.type "list",dict:=none,data:=.seq its.toArray c',slots:=#[]}->EP X pins σ Q (.ref s.heap.objs.size) {s with heap:=h' }:=fun its r' hz h' c' kp e=>
  ⟨.ref s.heap.objs.size,_,I.laid (t':=s.toks) kp (zaj _) (show cX X.prog X.w _ h' _ (.lst ys) from ⟨hz,its,c',r',e⟩),rfl,q _ (I.cI.fresh (zaj _))⟩
 rcases hq with hq |hq
 ·obtain⟨its,r',pl,hz⟩:=I.list hq;have hlen:=r'.length;obtain⟨o,ho,hc,n,hd⟩:=pl.isList;exact call_list_seq p (.inl rfl) ho hc hd (fun h' c' kp e=>fin its r' hz h' c' kp e) (by simp only[zao]<;>lia)
 ·obtain⟨its,r',pl,hz⟩:=I.tuple hq;have hlen:=r'.length;obtain⟨o,ho,hc,n,hd⟩:=pl;exact call_list_seq p (.inr rfl) ho hc hd (fun h' c' kp e=>fin its r' hz h' c' kp e) (by simp only[zao]<;>lia)
theorem lE:jE X (.type "tuple") (fun xs H Q=>∃p ys,xs=[.ref p]/\((gC X.K H p ys/\∀l,H l=none->Q (.ref l) (upd H l (.tup ys)))\/(b8 X.K H p ys/\Q (.ref p) H))):=by
 intro pins s σ H xs us Q I r h;obtain⟨p,ys,rfl,h⟩:=h;obtain⟨u,rfl,rx⟩:=vals1 r;cases rx;rcases h with ⟨hq,q⟩ |⟨hq,q⟩
 ·obtain⟨its,r',pl,hz⟩:=I.list hq;have hlen:=r'.length;refine call_tuple_list pl.isList (fun h' kp=>?_) (by simp only[zao]<;>lia);have I1:Inv X pins σ H {s with heap:=h' }:=I.kept (t':=s.toks) kp;have I2:Inv X pins σ (upd H h'.objs.size (.tup ys)) {s with heap:=h'.push {cls:=.type "tuple",data:=.seq its.toArray} }:=
   I1.laid (t':=s.toks) (fun b o e=>Heap.get?_push_of_some _ e) (zaj _) (show cX X.prog X.w _ _ _ (.tup ys) from ⟨hz,its,r',IsTup.new _ _⟩)
  exact⟨.ref h'.objs.size,_,I2,rfl,q _ (I1.cI.fresh (zaj _))⟩
 ·obtain⟨its,r',pl,hz⟩:=I.tuple hq;exact call_tuple_same pl ⟨.ref p,H,I,rfl,q⟩
def XZ (K:zaa) (T:String) (x:V) (H:Hp):Prop:=match x with
 |.str _=>T = "str"
 |.int _=>T = "int"
 |.ref p=>(T = "list"/\∃xs,gC K H p xs)\/(T = "tuple"/\∃o,K.lookup p=some o/\o.cls=.type "tuple"/\o.dict=none)\/
  (T = "dict"/\((∃kvs,H p=some (.dK kvs))\/∃kvs,H p=some (.dT kvs)))\/(T = "set"/\∃S n,H p=some (.set S n))
 |_=>False
theorem I0{pins:List (zdg×Obj)}{σ:St}{H:Hp}{s:zdq}{T:String}{x:V}{v:zdh}(I:Inv X pins σ H s)(r:RelV x v)(ty:XZ X.K T x H) :
 s.TypeIs v T/\∀a,v=.ref a->∃ob,s.heap.get? a=some ob/\ob.dict=none:=by
 cases x with
 |str z=>
  obtain⟨t,rfl⟩:=r;cases (show T = "str" from ty);exact⟨typeIs_str s z t,fun _ e=>nomatch e⟩
 |int i=>
  obtain⟨t,rfl⟩:=r;cases (show T = "int" from ty);exact⟨typeIs_int s i t,fun _ e=>nomatch e⟩
 |ref p=>
  cases r;rcases ty with ⟨rfl,xs,hq⟩ |⟨rfl,o,hk,hc,hd⟩ |⟨rfl,hk⟩ |⟨rfl,S,n,hk⟩
  ·obtain⟨its,_,pl,_⟩:=I.list hq;refine⟨pl.isList.typeIs,fun a e=>?_⟩;cases e;obtain⟨o,n,e,c,hd,_⟩:=pl;exact⟨o,e,hd⟩
  ·refine⟨⟨o,I.vw p o hk,hc⟩,fun a e=>?_⟩;cases e;exact⟨o,I.vw _ o hk,hd⟩
  ·have z:∃o,s.heap.get? p=some o/\o.ExactDict:=by
    rcases hk with ⟨kvs,hk⟩ |⟨kvs,hk⟩
    ·obtain⟨_,_,_,_,o,_,_,e,ex,_⟩:=I.cI p _ hk;exact⟨o,e,ex⟩
    ·obtain⟨_,_,_,_,o,_,_,e,ex,_⟩:=I.cI p _ hk;exact⟨o,e,ex⟩
   obtain⟨o,e,ex⟩:=z;refine⟨⟨o,e,ex.1⟩,fun a e2=>?_⟩;cases e2;exact⟨o,e,ex.2.1⟩
  ·obtain⟨o,_,_,_,e,ex,_⟩:=I.cI p _ hk;refine⟨⟨o,e,ex.1⟩,fun a e2=>?_⟩;cases e2;exact⟨o,e,ex.2.1⟩
 |_=>exact False.elim ty
def Qq (K:zaa) (T:String) (r:V->List V->Hp->VK->Prop) (to:TE):TE:=fun σ H Q=>to σ H fun x H1=>XZ K T x H1/\r x [] H1 Q
def X0 (K:zaa) (T:String) (r:V->List V->Hp->VK->Prop) (to:TE) (t:TA):TE:=fun σ H Q=>to σ H fun x H1=>XZ K T x H1/\t σ H1 fun xs H2=>r x xs H2 Q
variable{o e:Expr}{es:List Expr}{to:TE}{t:TA}{name:Str}{apos xD:Pos}{T id:String}{r:V->List V->Hp->VK->Prop}
theorem Dl(pa:PlainAttrs T)(slot:Slot T name id)(X1:typeOf (.builtin id)=pure (.type "method_descriptor"))(hm:MtR X id r)(ho:PE X o to)
 (Ja:attributeBase o name X.env (eval o X.env)=eval o X.env:=by rfl) (Jb:(apos.endLine==xD.line)=true:=by rfl):PE X (.Call (.Attribute o name apos) [] [] xD) (Qq X.K T r to):=by
 intro pins s σ H Q I h;refine wpAny_Call_method0_late Ja Jb (dU (ho pins s σ H _ I h) fun v s1 zqz=>?_);obtain⟨x,H1,I1,r1,ty,q1⟩:=zqz;obtain⟨h1,h2⟩:=I0 I1 r1 ty;exact⟨T,id,pa,slot,X1,h1,h2,Calls.callWith_builtin rfl (PySem.evalArgs_none (hm pins s1 σ H1 x [] v [] Q I1 r1 .nil q1))⟩
theorem jd(pa:PlainAttrs T)(slot:Slot T name id)(X1:typeOf (.builtin id)=pure (.type "method_descriptor"))(hm:MtR X id r)(ho:PE X o to)(ha:PA X (e::es) t)
 (Ja:attributeBase o name X.env (eval o X.env)=eval o X.env:=by rfl)
 (X2:((backTo xD (zdm (e::es) X.env)).all (fun x=>!x.1)&&(backToKw xD (keywordEach [] X.env)).all (fun x=>x.1.isSome)
  && decide ((e::es).length+([]:List Keyword).length+(if ([]:List Keyword).isEmpty then 0 else 1)<30))=true:=by rfl)
 (Jb:(apos.endLine==xD.line)=true:=by rfl) (hs:zdm (e::es) X.env=(false,eval e X.env)::zdm es X.env:=by rfl) (Qr:(backTo xD (zdm es X.env)).any (·.1)=false:=by rfl) :
 PE X (.Call (.Attribute o name apos) (e::es) [] xD) (X0 X.K T r to t):=by
 intro pins s σ H Q I h;refine wpAny_Call_method_late Ja X2 Jb rfl (dU (ho pins s σ H _ I h) fun v s1 zqz=>?_);obtain⟨x,H1,I1,r1,ty,q1⟩:=zqz;obtain⟨h1,h2⟩:=I0 I1 r1 ty;refine⟨T,id,pa,slot,X1,h1,h2,?_⟩;have hA:=ha xD pins s1 σ H1 _ I1 q1;rw[hs] at hA ⊢;refine Calls.callWith_builtin (by show (false ||(backTo xD (zdm es X.env)).any (·.1))=false;rw[Qr]<;>rfl) (Calls.evalArgs_plain ?_);exact dU hA fun us s2 ⟨vs,H2,I2,r2,q2⟩=>hm pins s2 σ H2 x vs v us Q I2 r1 r2 q2
end
def Tz (X:Cx) (id:String) (r:V->List V->Hp->VK->Prop):Prop:=
 ∀(pins:List (zdg×Obj)) (s:zdq) (σ:St) (H:Hp) (x:V) (xs:List V) (v:zdh) (us:List zdh) (Q:VK),Inv X pins σ H s->RelV x v->Vals xs us->r x xs H Q->
  wpAny (model X.prog X.w) X.A (call (.builtin id) (v::us)) (EP X pins σ Q) X.xe s
theorem Vals.one:∀ {x:V} {us:List zdh},Vals [x] us->∃u,us=[u]/\RelV x u
 |_,_,.cons r .nil=>⟨_,rfl,r⟩
theorem Vals.zero:∀ {us:List zdh},Vals [] us->us=[]
 |_,.nil=>rfl
theorem Vals.dropLast{xs:List V}{us:List zdh}(h:Vals xs us):Vals xs.dropLast us.dropLast:=by
 induction h with
 |nil=>exact .nil
 |cons r t ih=>
  cases t with
  |nil=>exact .nil
  |cons q t'=>exact .cons r ih
theorem Vals.reverse{xs:List V}{us:List zdh}(h:Vals xs us):Vals xs.reverse us.reverse:=by
 induction h with
 |nil=>exact .nil
 |cons r t ih=>rw[zbe,zbe];exact Vals.append ih (.cons r .nil)
theorem Vals.rep{xs:List V}{us:List zdh}(h:Vals xs us):∀k:Nat,Vals (zaL k xs).flatten (zaL k us).flatten
 |0=>.nil
 |k+1=>by
  rw[zbM,zbM,zcf,zcf];exact Vals.append h (Vals.rep h k)
theorem Dm{α:Type}(l:List α):l.eraseIdx (l.length-1)=l.dropLast:=by
 induction l with
 |nil=>rfl
 |cons a r ih=>
  cases r with
  |nil=>rfl
  |cons b r=>
   have e:(a::b::r).length-1=((b::r).length-1)+1:=by
    have h1:(a::b::r).length=r.length+2:=rfl;have h2:(b::r).length=r.length+1:=rfl;lia
   rw[e,List.eraseIdx_cons_succ,ih]
   all_goals rfl
theorem foldl_rep(its:List zdh):∀(k:Nat) (acc:List zdh),
 List.foldl (fun x1 x2=>x1++x2) acc.toArray (zaL k its.toArray)=(acc++(zaL k its).flatten).toArray
 |0,acc=>by simp
 |k+1,acc=>by
  have e:acc.toArray++its.toArray=(acc++its).toArray:=by simp
  have e2:(acc++its)++(zaL k its).flatten=acc++(zaL (k+1) its).flatten:=by
   rw[zbM,zcf,zaW]
  rw[<- e2,<- foldl_rep its k (acc++its),<- e,zbM,List.foldl_cons]
section
variable{X:Cx}{pins:List (zdg×Obj)}{σ:St}{H:Hp}{s:zdq}{l b:zdg}{xs ys zs:List V}
theorem Inv.MR{its its':List zdh}{n:Nat}{f:Array zdh->Array zdh}{t':Nat}(I:Inv X pins σ H s)(hH:H l=some (.lst xs))
 (e:s.heap.get? l=some {cls:=.type "list",data:=.seq its.toArray n}) (hf:f its.toArray=its'.toArray) (hv:Vals ys its') (hz:ys.length<=zdo) :
 Inv X pins σ (upd H l (.lst ys)) {s with heap:=s.heap.update l (Obj.mapSeq f),toks:=t' }:=by
 have q:=PySem.IsL.update e f;rw[hf] at q;refine I.write (x:=l) (e:=l) (by rw[hH];exact trivial) (.inl rfl) (fun b' u hb hu=>(Heap.get?_update_other s.heap (Obj.mapSeq f) (Ne.symm hb)).trans hu) ⟨_,q⟩ ?_;exact⟨hz,its',_,hv,q⟩
theorem Inv.Qs{its:List zdh}{t':Nat}(I:Inv X pins σ H s)(hv:Vals ys its)(hz:ys.length<=zdo) :
 Inv X pins σ (upd H s.heap.objs.size (.lst ys)) {s with heap:=s.heap.push {cls:=.type "list",data:=.seq its.toArray},toks:=t' }:=
 I.laid (fun _ _ q=>Heap.get?_push_of_some _ q) (zaj _) ⟨hz,its,0,hv,Heap.get?_push_size _ rfl⟩
theorem Inv.fresh(I:Inv X pins σ H s):H s.heap.objs.size=none:=I.cI.fresh (zaj _)
theorem Inv.zF(I:Inv X pins σ H s)(hH:H l=some (.lst xs)):xs.length<=zdo/\∃(its:List zdh) (n:Nat),Vals xs its/\xs.length=its.length/\s.heap.get? l=some {cls:=.type "list",data:=.seq its.toArray n}:=by
 obtain⟨z,its,n,r,e⟩:=I.cI l _ hH;exact⟨z,its,n,r,r.length,e⟩
theorem Bg{n:Nat}(h:n<=zdo):Builtin.List.listTooLong n=false:=by
 unfold Builtin.List.listTooLong;exact decide_eq_false (by lia)
end
section
variable{X:Cx}
def MS:V->List V->Hp->VK->Prop:=fun x vs H Q=>∃l xs y,x=.ref l/\vs=[y]/\H l=some (.lst xs)/\xs.length<zdo/\Q .cx (upd H l (.lst (xs++[y])))
theorem cY:Tz X "list.append" MS:=by
 intro pins s σ H x vs v us Q I rx rv h;obtain⟨l,xs,y,rfl,rfl,hH,hz,q⟩:=h;cases rx;obtain⟨u,rfl,ru⟩:=rv.one;obtain⟨z,its,n,r,hl,e⟩:=I.zF hH;refine call_meets F.slot_list_append ⟨_,e,rfl⟩ F.entry_list_append (F.args_list_append_2 _ _) (PySem.list_append l its.toArray n u (by rw[zao];lia)) ⟨e,?_⟩;refine⟨.cx,_,I.MR (its':=its++[u]) hH e (by simp) (r.append (.cons ru .nil)) ?_,rfl,q⟩;rw[zai,zax];lia
def MT:V->List V->Hp->VK->Prop:=fun x vs H Q=>∃l b xs zs,x=.ref l/\vs=[.ref b]/\H l=some (.lst xs)/\H b=some (.lst zs)/\xs.length+zs.length<=zdo/\Q .cx (upd H l (.lst (xs++zs)))
theorem tL:Tz X "list.extend" MT:=by
 intro pins s σ H x vs v us Q I rx rv h;obtain⟨l,b,xs,zs,rfl,rfl,hH,hB,hz,q⟩:=h;cases rx;obtain⟨u,rfl,ru⟩:=rv.one;cases ru;obtain⟨z,its,n,r,hl,e⟩:=I.zF hH;obtain⟨z2,nX,n2,r2,Jc,e2⟩:=I.zF hB;have hsz:its.toArray.size+nX.toArray.size<=zdo:=by rw[zao,zao];lia
 have Jd:¬(!its.toArray.isEmpty&&Builtin.List.listTooLong (its.toArray.size+nX.toArray.size))=true:=by
  rw[Bg hsz,zbV];exact zal
 refine call_meets F.slot_list_extend ⟨_,e,rfl⟩ F.entry_list_extend (F.args_list_extend_2 _ _)
  (AutoSeq1.list_extend_list_list_0 l its.toArray n b nX.toArray n2 Jd (by rw[zao];lia) (by lia)) ⟨e,e2,?_⟩
 refine⟨.cx,_,I.MR (its':=its++nX) hH e (by simp) (r.append r2) ?_,rfl,q⟩;rw[zai];lia
def X3:V->List V->Hp->VK->Prop:=fun x vs H Q=>∃l xs y,x=.ref l/\vs=[]/\H l=some (.lst xs)/\xs[xs.length-1]?=some y/\Q y (upd H l (.lst xs.dropLast))
theorem Je:Tz X "list.pop" X3:=by
 intro pins s σ H x vs v us Q I rx rv h;obtain⟨l,xs,y,rfl,rfl,hH,hy,q⟩:=h;cases rx;have X4:=rv.zero;subst X4;obtain⟨z,its,n,r,hl,e⟩:=I.zF hH;obtain⟨u,hu,ru⟩:=r.get hy;have hy':its.toArray[its.toArray.size-1]?=some u:=by
  show its.toArray[its.length-1]?=some u;rw[<- zaN,<- hl];exact hu
 refine call_meets F.slot_list_pop ⟨_,e,rfl⟩ F.entry_list_pop (F.args_list_pop_1 _) (MeetsSeq.list_pop_last l its.toArray n u hy' (by rw[zao];lia)) ⟨e,?_⟩;refine⟨y,_,I.MR (its':=its.dropLast) hH e ?_ r.dropLast ?_,ru,q⟩
 ·show its.toArray.eraseIdxIfInBounds (its.toArray.size-1)=its.dropLast.toArray;rw[zao,List.eraseIdxIfInBounds_toArray,Dm]
 ·rw[List.length_dropLast];lia
def Jf:V->List V->Hp->VK->Prop:=fun x vs H Q=>∃l xs,x=.ref l/\vs=[]/\H l=some (.lst xs)/\Q .cx (upd H l (.lst xs.reverse))
theorem Dn:Tz X "list.reverse" Jf:=by
 intro pins s σ H x vs v us Q I rx rv h;obtain⟨l,xs,rfl,rfl,hH,q⟩:=h;cases rx;have X4:=rv.zero;subst X4;obtain⟨z,its,n,r,hl,e⟩:=I.zF hH;refine call_meets F.slot_list_reverse ⟨_,e,rfl⟩ F.entry_list_reverse (F.args_list_reverse_1 _) (AutoSeq1.list_reverse_list_0 l its.toArray n (by rw[zao];lia)) ⟨e,?_⟩;refine⟨.cx,_,I.MR (its':=its.reverse) hH e (by simp) r.reverse ?_,rfl,q⟩;rw[zb1];lia
def MU:R2:=fun x y H Q=>∃l b xs zs,x=.ref l/\y=.ref b/\H l=some (.lst xs)/\H b=some (.lst zs)/\xs.length+zs.length<=zdo/\∀p,H p=none->Q (.ref p) (upd H p (.lst (xs++zs)))
theorem lG:nZ X (binaryOp .Add) MU:=by
 intro pins s σ H x y v u Q I rx ry h;obtain⟨l,b,xs,zs,rfl,rfl,hH,hB,hz,q⟩:=h;cases rx;cases ry;obtain⟨z,its,n,r,hl,e⟩:=I.zF hH;obtain⟨z2,nX,n2,r2,Jc,e2⟩:=I.zF hB;refine PySem.P.add_list e e2 ?_ (by rw[zao,zao];lia);have ea:its.toArray++nX.toArray=(its++nX).toArray:=by simp
 rw[ea];exact⟨.ref _,_,I.Qs (t':=s.toks) (r.append r2) (by rw[zai];lia),rfl,q _ I.fresh⟩
def X5:R2:=fun x y H Q=>∃l k xs,x=.ref l/\y=.int k/\H l=some (.lst xs)/\-(2 ^ 63)<=k/\k<2 ^ 63/\xs.length*k.toNat<=zdo/\
 ∀p,H p=none->Q (.ref p) (upd H p (.lst (zaL k.toNat xs).flatten))
theorem len_rep{α:Type}(xs:List α)(k:Nat):(zaL k xs).flatten.length=k*xs.length:=by
 induction k with
 |zero=>simp
 |succ k ih=>rw[zbM,zcf,zai,ih,zcu,zcv]
theorem Qt:nZ X (binaryOp .Mult) X5:=by
 intro pins s σ H x y v u Q I rx ry h;obtain⟨l,k,xs,rfl,rfl,hH,h1,h2,hz,q⟩:=h;cases rx;obtain⟨t,rfl⟩:=ry;obtain⟨z,its,n,r,hl,e⟩:=I.zF hH;have hlen:its.toArray.size*k.toNat<=zdo:=by rw[zao,<- hl];exact hz
 have X6:¬its.toArray.size*k.toNat>(2 ^ 63-1)/8:=by
  have:(zdo:Nat)<=(2 ^ 63-1)/8:=by decide
  lia
 have TB:¬(!Builtin.List.listFitsIndex k)=true:=by
  rw[fitsIndex_both h1 h2];exact zal
 have Jd:¬Builtin.List.listTooLong (its.toArray.size*k.toNat)=true:=by
  rw[Bg hlen];exact zal
 have tM:List.foldl (fun x1 x2=>x1++x2) #[] (zaL (if its.toArray.isEmpty=true then 0 else k.toNat) its.toArray)=(zaL k.toNat its).flatten.toArray:=by
  have f0:∀m:Nat,List.foldl (fun x1 x2=>x1++x2) #[] (zaL m its.toArray)=(zaL m its).flatten.toArray:=fun m=>by
   have:=foldl_rep its m [];rw[zaX] at this;exact this
  rw[f0];cases its with
  |nil=>simp
  |cons a r'=>rw[if_neg (by simp)]
 refine wpAny_binaryOp_repeat_ref (T:="list") (U:="int") (by decide) ⟨_,e,rfl⟩ (fun s'=>typeIs_int s' k t) noFill_list_mul F.fills_int_mul F.slot_int_rmul repeat_list F.slot_int_index.lookup
  (call_meets F.slot_int_rmul (typeIs_int s k t) F.entry_int_rmul (F.args_int_rmul_2 _ _) (int___rmul___int_list k t l its.toArray n)
   ⟨e,rfl,⟨_,e,rfl⟩,call_meets F.slot_list_mul ⟨_,e,rfl⟩ F.entry_list_mul (F.args_list_mul_2 _ _) (AutoListH.list___mul___list_int_3 l its.toArray n k t TB X6 Jd) ⟨e,?_⟩⟩)
 rw[tM];exact⟨.ref _,_,I.Qs (t':=s.toks) (r.rep k.toNat) (by rw[len_rep,Nat.mul_comm];exact hz),rfl,q _ I.fresh⟩
end
end L2
namespace Att
open PySem PySem.W PySem.Calls PyProof.Rows
theorem vf{P:Params}{h:Heap}:∀(ns:List Int) (vs:List zdh),WellAll P h vs (ns.map WData.int)->IntsAre vs ns:=by
 intro ns
 induction ns with
 |nil=>
  intro vs w;rw[zaP] at w;cases w;exact .nil
 |cons n ns ih=>
  intro vs w;rw[zaq] at w;cases w with
  |cons a b=>
   cases a;exact .cons _ _ (ih _ b)
theorem Gm{l:OpenLaw}{n:Nat}(hn:l.most=some n){P:Params}{h:Heap}{args:List WData}{vals:List zdh}
 (MV:l.row.toRowW.claim.pre args=true) (Qu:WellAll P h vals args) :
 ∃a vs ns,vals=[Value.ref a]/\args=[WData.list (ns.map WData.int)]/\h.get? a=some {cls:=.type "list",data:=.seq vs.toArray}/\IntsAre vs ns/\ns.length<=n:=by
 have hsh:WShape.hasAll [] args [.list .int]=true:=(pre_splitW MV).1;have hc:l.pre.holds [] {args:=args}=true:=(pre_splitW MV).2;obtain⟨d,r,rfl,h1,h2⟩:=hasAllW_cons hsh;obtain rfl:=hasAllW_nil h2;obtain⟨xs,rfl,h3⟩:=hasW_list h1;obtain⟨ns,rfl⟩:=items_int h3;have hlen:ns.length<=n:=by
  unfold OpenLaw.pre at hc;have h4:(WTm.not (.lt (.lit (.int (n:Int))) (.len (.arg 0)))).holds [] {args:=[.list (ns.map .int)]}=true:=by
   have h4:=(holds_andW hc).1;rw[hn] at h4;exact h4
  have h5:=condW_of h4 (w_not (w_lt w_lit (w_len_list (w_arg rfl))));rw[zac] at h5;refine Nat.le_of_not_lt fun q=>?_;have q':(n:Int)<((ns.length:Nat):Int):=by lia
  first
   |(rw[decide_eq_true q'] at h5;exact absurd h5 (by decide))
   |(simp at h5;lia)
 cases Qu with
 |cons w1 w2=>
  cases w2;cases w1 with
  |list ho Jg=>exact⟨_,_,ns,rfl,rfl,ho,vf ns _ Jg,hlen⟩
theorem Gn(l:OpenLaw)(args:List WData):l.row.toRowW.claim.post args (.bool true) args=true:=
 postW_of (r:=l.row.toRowW) (X:=(true==true))
  (show WShape.has [] (.bool true) .bool=true by first |rfl |decide |simp[WShape.has,WShape.arms,WShape.armsAll])
  (show (WTm.eq .res (.lit (.bool true))).value [] {args:=args,res:=some (.bool true),after:=args}=some (.bool (true==true)) from w_eq_bool (w_res rfl) w_lit) rfl
theorem Bi{l:OpenLaw}{n:Nat}{q:zds}{loose:List Str}{XP:(Str->Option zdh)->Heap->Prop}{YP:zdi->Heap->Prop}{d:DefRec}
 (hn:l.most=some n) (TC:d.params.defaults=[])
 (call:∀(w:zdi) (s₀ s₁:zdq) (mg mb:Str->Option zdh) (fa:zdg) (o:Obj) (pm cd doc:zdh) (a:zdg) (vs:List zdh) (ns:List Int),
  Ground q loose [] XP w s₀ mg mb s₁.heap->YP w s₁.heap->
  s₁.heap.get? fa=some o->o.data=.func (docDef d.name d.params d.body d.scope pm cd doc)->s₁.heap.CodeRec cd d.name->mg d.name=some (.ref fa)->
  s₁.heap.get? a=some {cls:=.type "list",data:=.seq vs.toArray}->IntsAre vs ns->ns.length<=n->s₁.gens = #[]->
  codeAny (model l.prog w) callerA (.call (.ref fa) ⟨[.ref a],[]⟩) (fun r s'=>r=.ok (.ret (.bool true))/\OldK s₁.heap s'.heap/\s'.os=s₁.os/\AllBare s'.gens) s₁) :
 WalkO q loose XP YP l.row.toRowW d [] (fun f vs=>PySem.call f vs):=by
 intro w s₀ s₁ mg mb G Y fa o pm cd doc dV kV ho hd C0 hD TF hg args vals as MV adM hrd Qu hlo;obtain rfl:dV=.none:=Dflts.none hD TC;obtain rfl:kV=.none:=Dflts.noKw hD;obtain⟨a,vs,ns,rfl,rfl,Qv,hints,hlen⟩:=Gm hn MV Qu;refine enter_call (codeAny_mono (call w s₀ s₁ mg mb fa o pm cd doc a vs ns G Y ho (fd_plain hd) C0 TF Qv hints hlen hg) fun r s' hq=>?_);obtain⟨rfl,h2,h3,h4⟩:=hq;exact⟨.inl ⟨.bool true,.bool true,[],rfl,fun _=>rfl,.bool true,Gn l _,fun _=>⟨List.Pairwise.nil,fun _ hm=>(nomatch hm)⟩⟩,h2,h3,h4⟩
end Att
namespace L2
open PySem PySem.Spec PyProof.Rows
theorem tN:∀ {vs:List zdh} {ns:List Int},IntsAre vs ns->Vals (ns.map V.int) vs
 |_,_,.nil=>.nil
 |_,_,.cons n t h=>.cons ⟨t,rfl⟩ (tN h)
def inClass (s:Stmt) (j:Nat):Stmt:=match s with
 |.ClassDef _ _ _ body _ _ _ _ _ _ _=>body.getD j (.Pass ⟨0,0,0,0⟩)
 |_=>.Pass ⟨0,0,0,0⟩
def kO (s:Stmt):Arguments:=match s with
 |.FunctionDef _ a _ _ _ _ _ _ _ _=>a
 |_=>{posonlyargs:=[],args:=[],vararg:=none,kwonlyargs:=[],kw_defaults:=[],kwarg:=none,defaults:=[]}
def gJ (s:Stmt):List Stmt:=match s with
 |.FunctionDef _ _ b _ _ _ _ _ _ _=>b
 |_=>[]
def aE (s:Stmt):Scope:=match s with
 |.FunctionDef _ _ _ _ _ _ sc _ _ _=>sc
 |_=>{kind:=.function,names:=[],isGenerator:=false,isCoroutine:=false}
abbrev dc:AV:=fun _ _ _ _ _ _=>False
abbrev E0:XK:=fun _ _ _=>False
theorem eA{X:Cx}:Passes dc X E0:=fun _ _ _ _ _ _ _ h=>h.elim
structure Im(K:zaa)(x qual:Str)(st:Stmt)(f:zdg)(fd:zdp):Prop where
 ex:∃(oc:zdh) (od:Option zdg) (kV doc pm:zdh) (an:Option zdg) (eS ct:zdh) (EL:Array (Option zdh)),
  fd=zbw x qual (kO st) (gJ st) (aE st) .none kV doc pm an eS ct/\K.lookup f=some ⟨oc,od,.func fd,EL⟩/\zcd K eS qual=true
 kp:zbB K (.ref f)=true
section
variable{P:zds}{w:zdi}{K:zaa}{mg:Str->Option zdh}{base:Heap}
theorem Im.ok{x qual:Str}{st:Stmt}{f:zdg}{fd:zdp}{N ps:List Str}{k:Nat}{sp:Sp}(F:Im K x qual st f fd)(S:aY N ps (aE st))(len:∀vs H Q E,sp vs H Q E->vs.length=ps.length)
 (rG:∀(eS:zdh) (A:zdr) (outer:List Env) (s:zdq) (H:Hp) (vs:List V) (Q:VK) (E:XK),gQ k (A.deeper (envOfC qual (aE st) s.heap.objs.size f eS))->sp vs H Q E->
  ∃t,CZ (mQ dc P w K mg base N qual (aE st) f eS A outer s H E).C1 (gJ st) t/\t {nx:=fun _ H'=>Q .cx H',rt:=Q} (start N vs) H):bB P w K mg base dc (k+1) f fd ps sp:=by
 obtain⟨oc,od,kV,doc,pm,an,eS,ct,EL,rfl,lk,C0⟩:=F.ex;refine OG lk C0 S len fun A outer s H vs Q E hr Mf=>?_;obtain⟨t,h,q⟩:=rG eS A outer s H vs Q E hr Mf;exact⟨t,h.C1,q⟩
theorem Im.binds{x qual:Str}{st:Stmt}{f:zdg}{fd:zdp}{ps:List Str}(F:Im K x qual st f fd)
 (h:∀(kV doc pm:zdh) (an:Option zdg) (eS ct:zdh) (us:List zdh),us.length=ps.length->bindArgs (zbw x qual (kO st) (gJ st) (aE st) .none kV doc pm an eS ct) ⟨us,[]⟩=pure (ps.zip us)):Binds K fd ps []:=by
 obtain⟨oc,od,kV,doc,pm,an,eS,ct,EL,rfl,lk,C0⟩:=F.ex;exact .all (h kV doc pm an eS ct)
theorem Jh{x qual:Str}{st:Stmt}{f:zdg}{oc:zdh}{od an:Option zdg}{EL:Array (Option zdh)}{kV doc pm eS ct:zdh}(l:K.lookup f=some ⟨oc,od,.func (zbw x qual (kO st) (gJ st) (aE st) .none kV doc pm an eS ct),EL⟩)
 (c:zcd K eS qual=true) (k:zbB K (.ref f)=true):Im K x qual st f (zbw x qual (kO st) (gJ st) (aE st) .none kV doc pm an eS ct):=⟨⟨oc,od,kV,doc,pm,an,eS,ct,EL,rfl,l,c⟩,k⟩
end
theorem gZ{A:zdr}{k:Nat}(hr:gQ k A):A.units+1<cLine:=zb8 (Nat.add_le_add_left (by decide:1<=64) _) hr.units
theorem Gp{n:Nat}(h:n<=1000):n<zdo:=zb8 h (by decide)
section
variable{X:Cx}
theorem pv(i:Nat){x:Str}{pos:Pos}(hN:X.N[i]?=some x:=by rfl)(hv:SW X.env.scope x:=by first |exact zaC rfl |exact zbP (zaC rfl) |exact zbP (zbP rfl))(hd:(x==("__debug__":Str))=false:=by decide)
 (C0:(x==("__classdict__":Str))=false:=by decide):PE X (.Name x pos) (fT i):=PQ hN hv hd C0
end
theorem dw{c A B:Prop}[Decidable c](h1:c->A)(h2:¬c->B):if c then A else B:=by
 by_cases h:c
 ·rw[if_pos h];exact h1 h
 ·rw[if_neg h];exact h2 h
def aq (H H':Hp):Prop:=∀b o,H b=some o->H' b=some o
theorem aq.refl(H:Hp):aq H H:=fun _ _ h=>h
theorem aq.trans{H H1 H2:Hp}(a:aq H H1)(b:aq H1 H2):aq H H2:=fun c o h=>b c o (a c o h)
theorem aq.free{H H':Hp}(e:aq H H'){l:zdg}(h:H' l=Option.none):H l=Option.none:=by
 cases q:H l with
 |none=>rfl
 |some o=>
  rw[e l o q] at h;cases h
theorem aq.seq{K:zaa}{H H':Hp}{a:zdg}{xs:List V}(e:aq H H')(h:gC K H a xs):gC K H' a xs:=by
 rcases h with (h |⟨o,h⟩) |h
 ·exact .inl (.inl (e _ _ h))
 ·exact .inl (.inr ⟨o,e _ _ h⟩)
 ·exact .inr h
section
variable{κ:Type}[DecidableEq κ]
def cE (kvs:List (κ×V)) (k:κ):Option V:=(kvs.find? fun kv=>decide (kv.1=k)).map (·.2)
def putK (kvs:List (κ×V)) (k:κ) (v:V):List (κ×V):=
 if (kvs.any fun kv=>decide (kv.1=k))=true then kvs.map (fun kv=>if kv.1=k then (kv.1,v) else kv) else kvs++[(k,v)]
theorem ck{p:κ×V}{r:List (κ×V)}{k:κ}(e:p.1=k):cE (p::r) k=some p.2:=by simp[cE,zbQ,e]
theorem cm{p:κ×V}{r:List (κ×V)}{k:κ}(e:¬p.1=k):cE (p::r) k=cE r k:=by simp[cE,zbQ,e]
theorem je(k:κ):∀kvs:List (κ×V),(kvs.any fun kv=>decide (kv.1=k))=(cE kvs k).isSome
 |[]=>rfl
 |p::r=>by
  rw[zbx];by_cases e:p.1=k
  ·simp only[ck e,decide_eq_true e,Bool.true_or,Option.isSome_some]
  ·rw[cm e,decide_eq_false e,Bool.false_or];exact je k r
theorem Bj(k j:κ)(y:V):∀kvs:List (κ×V),cE (kvs.map fun kv=>if kv.1=k then (kv.1,y) else kv) j=(cE kvs j).map fun x=>if j=k then y else x
 |[]=>rfl
 |p::r=>by
  have ih:=Bj k j y r;rw[zaq];by_cases h:p.1=k
  ·rw[if_pos h];by_cases e:p.1=j
   ·rw[ck (p:=(p.1,y)) e,ck e,zbn,if_pos (e.symm.trans h)]
   ·rw[cm (p:=(p.1,y)) e,cm e,ih]
  ·rw[if_neg h];by_cases e:p.1=j
   ·rw[ck (p:=p) e,ck e,zbn,if_neg (fun z=>h (e.trans z))]
   ·rw[cm (p:=p) e,cm e,ih]
theorem ym(k j:κ)(y:V):∀kvs:List (κ×V),cE kvs k=none->cE (kvs++[(k,y)]) j=if j=k then some y else cE kvs j
 |[],_=>by
  by_cases e:k=j
  ·rw[if_pos e.symm];exact ck (p:=(k,y)) e
  ·rw[if_neg (fun z=>e z.symm)];exact cm (p:=(k,y)) e
 |p::r,hn=>by
  rw[zbi];have hk:¬p.1=k:=fun z=>by rw[ck z] at hn;cases hn
  rw[cm hk] at hn;have ih:=ym k j y r hn;by_cases e:p.1=j
  ·rw[ck e,ck e,if_neg (fun z=>hk (e.trans z))]
  ·rw[cm e,cm e,ih]
theorem v8(kvs:List (κ×V))(k j:κ)(y:V):cE (putK kvs k y) j=if j=k then some y else cE kvs j:=by
 unfold putK;by_cases a:(kvs.any fun kv=>decide (kv.1=k))=true
 ·rw[if_pos a,Bj];rw[je] at a;by_cases e:j=k
  ·obtain⟨x,hx⟩:=zbL.mp a;rw[if_pos e,e,hx,zbn,if_pos rfl]
  ·rw[if_neg e];cases cE kvs j with
   |none=>rfl
   |some x=>rw[zbn,if_neg e]
 ·rw[if_neg a];refine ym k j y kvs ?_;rw[je] at a;cases q:cE kvs k with
  |none=>rfl
  |some x=>rw[q] at a;exact(a rfl).elim
theorem jf(kvs:List (κ×V))(k:κ)(v:V):(putK kvs k v).length<=kvs.length+1:=by
 unfold putK;split
 ·rw[zac];lia
 ·rw[zai,zaf,zaI];lia
theorem qy.lW{o:Option V}{u:Option zdh}(r:qy o u):o.isSome=u.isSome:=by
 cases o with
 |none=>cases u with
  |none=>rfl
  |some _=>exact(show False from r).elim
 |some _=>cases u with
  |none=>exact(show False from r).elim
  |some _=>rfl
theorem KV.val{kvs:List (κ×V)}{vs:List (κ×zdh)}(r:KV kvs vs)(k:κ):qy (cE kvs k) (valueAt vs k):=by
 unfold KV at r
 induction r with
 |nil=>exact True.intro
 |@cons p q ps qs h t ih=>
  obtain⟨h1,h2⟩:=h;by_cases e:p.1=k
  ·have e':q.1=k:=h1.symm.trans e;have b:valueAt (q::qs) k=some q.2:=by simp[valueAt,zbQ,e']
   rw[ck e,b];exact h2
  ·have e':¬q.1=k:=fun z=>e (h1.trans z);have b:valueAt (q::qs) k=valueAt qs k:=by simp[valueAt,zbQ,e']
   rw[cm e,b];exact ih
theorem KV.any{kvs:List (κ×V)}{vs:List (κ×zdh)}(r:KV kvs vs)(k:κ):(kvs.any fun kv=>decide (kv.1=k))=vs.any fun kv=>decide (kv.1=k):=by
 unfold KV at r
 induction r with
 |nil=>rfl
 |cons h t ih=>rw[zbx,zbx,ih,h.1]
theorem KV.Qw{kvs:List (κ×V)}{vs:List (κ×zdh)}(r:KV kvs vs)(k:κ){y:V}{u:zdh}(ry:RelV y u) :
 KV (kvs.map fun kv=>if kv.1=k then (kv.1,y) else kv) (vs.map fun kv=>if kv.1=k then (kv.1,u) else kv):=by
 unfold KV at r ⊢
 induction r with
 |nil=>exact .nil
 |@cons p q ps qs h t ih=>
  rw[zaq,zaq];refine .cons ?_ ih;obtain⟨h1,h2⟩:=h;by_cases e:p.1=k
  ·rw[if_pos e,if_pos (h1.symm.trans e)];exact⟨h1,ry⟩
  ·rw[if_neg e,if_neg (fun z=>e (h1.trans z))];exact⟨h1,h2⟩
theorem KV.put{kvs:List (κ×V)}{vs:List (κ×zdh)}(r:KV kvs vs)(k:κ){y:V}{u:zdh}(ry:RelV y u):KV (putK kvs k y) (stored vs k u):=by
 unfold putK stored;rw[r.any k];by_cases e:(vs.any fun kv=>decide (kv.1=k))=true
 ·rw[if_pos e,if_pos e];exact r.Qw k ry
 ·rw[if_neg e,if_neg e];exact Paired.snoc r ⟨rfl,ry⟩
theorem KV.length{kvs:List (κ×V)}{vs:List (κ×zdh)}(r:KV kvs vs):kvs.length=vs.length:=Paired.length r
end
theorem v9{P:zds}{w:zdi}{k:Key}{u:zdh}(r:RelV (kV k) u):(bM P w).is k u=true:=by
 cases k with
 |inl i=>obtain⟨t,e⟩:=(show ∃t,u=Value.int i t from r);subst e;exact A1 P w i t
 |inr x=>obtain⟨t,e⟩:=(show ∃t,u=Value.str x t from r);subst e;exact A2 P w x t
theorem tO{P:zds}{w:zdi}:∀ {ks:List Key} {us:List zdh},Vals (ks.map kV) us->ItemsAre (bM P w) ks us
 |[],_,r=>by rw[zaP] at r;cases r;exact .nil
 |k::ks,_,r=>by
  rw[zaq] at r;cases r with
  |cons h t=>exact .cons (v9 h) (tO t)
abbrev KT (H:Hp):List (List Key×V)->List (List Key×zdg×zdh)->Prop:=Paired fun p q=>p.1=q.1/\H q.2.1=some (.tup (p.1.map kV))/\RelV p.2 q.2.2
theorem KT.val{H:Hp}{kvs:List (List Key×V)}{xs:List (List Key×zdg×zdh)}(r:KT H kvs xs)(k:List Key):qy (cE kvs k) ((atKey xs k).map (·.2)):=by
 induction r with
 |nil=>exact True.intro
 |@cons p q ps qs h t ih=>
  obtain⟨h1,_,h2⟩:=h;by_cases e:p.1=k
  ·have e':q.1=k:=h1.symm.trans e;have b:atKey (q::qs) k=some q.2:=by simp[atKey,zbQ,e']
   rw[ck e,b];exact h2
  ·have e':¬q.1=k:=fun z=>e (h1.trans z);have b:atKey (q::qs) k=atKey qs k:=by simp[atKey,zbQ,e']
   rw[cm e,b];exact ih
theorem KT.Qw{H:Hp}{kvs:List (List Key×V)}{xs:List (List Key×zdg×zdh)}(r:KT H kvs xs)(k:List Key){y:V}{u:zdh}(ry:RelV y u) :
 KT H (kvs.map fun kv=>if kv.1=k then (kv.1,y) else kv) (xs.map (putAt k u)):=by
 induction r with
 |nil=>exact .nil
 |@cons p q ps qs h t ih=>
  rw[zaq,zaq];refine .cons ?_ ih;obtain⟨h1,h2,h3⟩:=h;unfold putAt;by_cases e:p.1=k
  ·rw[if_pos e,if_pos (h1.symm.trans e)];exact⟨h1,h2,ry⟩
  ·rw[if_neg e,if_neg (fun z=>e (h1.trans z))];exact⟨h1,h2,h3⟩
theorem KT.put{H:Hp}{kvs:List (List Key×V)}{xs:List (List Key×zdg×zdh)}(r:KT H kvs xs)(k:List Key){b:zdg}{y:V}{u:zdh}(hb:H b=some (.tup (k.map kV)))(ry:RelV y u) :
 KT H (putK kvs k y) (storedH xs k b u):=by
 have e:(kvs.any fun kv=>decide (kv.1=k))=(atKey xs k).isSome:=by
  rw[je,(r.val k).lW,zbS]
 unfold putK storedH;rw[e];by_cases q:(atKey xs k).isSome=true
 ·rw[if_pos q,if_pos q];exact r.Qw k ry
 ·rw[if_neg q,if_neg q];exact Paired.snoc r ⟨rfl,hb,ry⟩
theorem KT.keeps{H H':Hp}{kvs:List (List Key×V)}{xs:List (List Key×zdg×zdh)}(r:KT H kvs xs)(ht:∀b ys,H b=some (.tup ys)->H' b=some (.tup ys)):KT H' kvs xs:=
 Paired.uZ r fun _ _ z=>⟨z.1,ht _ _ z.2.1,z.2.2⟩
section
variable{P:zds}{w:zdi}{H:Hp}{h:Heap}{a:zdg}
theorem OI{u:HO}(ok:nN P w H h)(e:Rd H a u):cX P w H h a u:=e.ok ok
theorem Ji{kvs:List (Key×V)}(ok:nN P w H h)(e:Rd H a (.dK kvs)):kvs.length<=zdo/\(a==sysModules)=false/\∃vs,KV kvs vs/\h.DictOf (bM P w) a vs:=
 show cX P w H h a (.dK kvs) from OI ok e
theorem Jj{kvs:List (Key×V)}(ok:nN P w H h)(e:H a=some (.dK kvs)):kvs.length<=zdo/\(a==sysModules)=false/\∃vs,KV kvs vs/\h.DictOf (bM P w) a vs:=Ji ok (.inl e)
theorem Dq{ks:List Key}(ok:nN P w H h)(e:H a=some (.tup (ks.map kV))):(tupleKind (bM P w)).is h ks a:=by
 obtain⟨_,its,r,o,h1,h2,n,h3⟩:=(show cX P w H h a (.tup (ks.map kV)) from ok a _ e)
 exact⟨o,its.toArray,n,h1,h2,h3,by simpa using tO r⟩
theorem Jk{kvs:List (List Key×V)}(ok:nN P w H h)(e:Rd H a (.dT kvs)):kvs.length<=zdo/\(a==sysModules)=false/\
 ∃xs,KT H kvs xs/\h.DictOfH (tupleKind (bM P w)) a xs:=by
 obtain⟨z,y,xs,r,o,es,ep,h1,h2,h3,h4,h5⟩:=(show cX P w H h a (.dT kvs) from OI ok e)
 refine⟨z,y,xs,r,o,es,ep,h1,h2,h3,h4,fun x hx=>?_,h5⟩;have all:∀ {l:List (List Key×V)} {m:List (List Key×zdg×zdh)},KT H l m->∀x∈m,(tupleKind (bM P w)).is h x.1 x.2.1:=by
  intro l m q
  induction q with
  |nil=>intro x hx;exact nomatch hx
  |@cons p q ps qs hq t ih=>
   intro x hx;rcases zag.mp hx with e |hx
   ·subst e;exact Dq ok (by rw[<- hq.1];exact hq.2.1)
   ·exact ih x hx
 exact all r x hx
theorem TH{kvs:List (List Key×V)}(ok:nN P w H h)(e:H a=some (.dT kvs)):kvs.length<=zdo/\(a==sysModules)=false/\
 ∃xs,KT H kvs xs/\h.DictOfH (tupleKind (bM P w)) a xs:=Jk ok (.inl e)
end
def rK (H:Hp) (a:zdg) (y:V) (r:Option V):Prop:=
 (∃kvs k,Rd H a (.dK kvs)/\y=kV k/\r=cE kvs k)\/∃kvs k b,Rd H a (.dT kvs)/\y=.ref b/\H b=some (.tup (k.map kV))/\r=cE kvs k
def Qx (H:Hp) (a:zdg) (y v:V) (H':Hp):Prop:=
 (∃kvs k,H a=some (.dK kvs)/\y=kV k/\kvs.length<zdo/\H'=upd H a (.dK (putK kvs k v)))\/
 ∃kvs k b,H a=some (.dT kvs)/\y=.ref b/\H b=some (.tup (k.map kV))/\kvs.length<zdo/\H'=upd H a (.dT (putK kvs k v))
theorem rK.k{H:Hp}{a:zdg}{kvs:List (Key×V)}{k:Key}(e:H a=some (.dK kvs)):rK H a (kV k) (cE kvs k):=.inl ⟨kvs,k,.inl e,rfl,rfl⟩
section
variable{X:Cx}{pins:List (zdg×Obj)}{σ:St}{H:Hp}{s:zdq}{a:zdg}{y v:V}{u r:zdh}{o:Option V}{A:zdr}{E:zdh->zdq->Prop}
theorem Inv.big(I:Inv X pins σ H s):sysModules<s.heap.objs.size:=by
 have h:zdn<s.heap.objs.size:=(I.mod.glob.keeps I.bk).lt;exact Nat.lt_trans (by decide) h
theorem Gq{Q:zdh->zdq->Prop}(hu:A.units+1<cLine)(I:Inv X pins σ H s)(g:rK H a y (some v))(ry:RelV y u)(h:∀w' s',Inv X pins σ H s'->RelV v w'->Q w' s') :
 wpAny (model X.prog X.w) A (getItem (.ref a) u) Q E s:=by
 rcases g with ⟨kvs,k,e,ey,l⟩ |⟨kvs,k,b,e,ey,eb,l⟩
 ·subst ey;obtain⟨z,hd,vs,rel,dd⟩:=Ji I.cI e;obtain⟨w',hw,Di⟩:=qy.some_of (v:=v) (o:=valueAt vs k) (by rw[l];exact rel.val k);exact wpAny_getItem_of (v9 ry) dd.mapOf hw (h w' _ (I.tok _) Di)
 ·subst ey;cases (show u=Value.ref b from ry);obtain⟨z,hd,xs,rel,dd⟩:=Jk I.cI e;obtain⟨w',hw,Di⟩:=qy.some_of (v:=v) (o:=(atKey xs k).map (·.2)) (by rw[l];exact rel.val k);obtain⟨p,hp,wb⟩:=zci.mp hw;refine wpAny_getItem_heap (tupleKind_room_in1 hu) (Dq I.cI eb) dd hp ?_;rw[wb];exact h w' _ (I.tok _) Di
theorem rM{h':Heap}{t':Nat}{ob:HO}(I:Inv X pins σ H s)(mu:SS (H a))(hs:Heap.SameBut a s.heap h')(he:∃q,h'.get? a=some q)(new:cX X.prog X.w (upd H a ob) h' a ob) :
 Inv X pins σ (upd H a ob) {s with heap:=h',toks:=t' }:=
 I.write (x:=a) (e:=a) mu (.inl rfl) (fun b q hb z=>(hs.2 b hb).trans z) he new
theorem zG{P:zds}{w:zdi}{H':Hp}{h':Heap}{kvs:List (Key×V)}{vs:List (Key×zdh)}(z:kvs.length<=zdo)(hd:(a==sysModules)=false)(rel:KV kvs vs)(dd:h'.DictOf (bM P w) a vs) :
 cX P w H' h' a (.dK kvs):=⟨z,hd,vs,rel,dd⟩
theorem Gr{H':Hp}{Q:Unit->zdq->Prop}(hu:A.units+1<cLine)(I:Inv X pins σ H s)(g:Qx H a y v H')(ry:RelV y u)(rv:RelV v r)(h:∀s',Inv X pins σ H' s'->Q () s') :
 wpAny (model X.prog X.w) A (setItem (.ref a) u r) Q E s:=by
 rcases g with ⟨kvs,k,e,ey,l,eH⟩ |⟨kvs,k,b,e,ey,eb,l,eH⟩
 ·subst ey eH;obtain⟨z,hd,vs,rel,dd⟩:=Jj I.cI e;have hz:vs.length<=zdo:=by rw[<- rel.length];exact z
  have hl:(putK kvs k v).length<=zdo:=by have:=jf kvs k v;lia
  refine wpAny_setItem_pairs (hsz:=hz) (v9 ry) dd fun h' MW hs=>h _ ?_;have he:∃q,h'.get? a=some q:=let ⟨q,_,_,hq,_⟩:=MW;⟨q,hq⟩;exact rM I (by rw[e];exact True.intro) hs he (zG hl hd (rel.put k rv) MW)
 ·subst ey eH;cases (show u=Value.ref b from ry);obtain⟨z,hd,xs,rel,dd⟩:=TH I.cI e;have hz:xs.length<=zdo:=by rw[<- Paired.length rel];exact z
  have hl:(putK kvs k v).length<=zdo:=by have:=jf kvs k v;lia
  refine wpAny_setItem_heap (hsz:=hz) (tupleKind_room_in1 hu) (Dq I.cI eb) dd fun h' MW hs=>h _ ?_;obtain⟨q,es,ep,hq,h2,h3,h4,_,h5⟩:=MW;refine rM I (by rw[e];exact True.intro) hs ⟨q,hq⟩ ⟨hl,hd,_,(rel.put k eb rv).keeps fun c ys ec=>?_,q,es,ep,hq,h2,h3,h4,h5⟩;rw[aw (cQ ec e (fun z=>nomatch z))];exact ec
end
def Qy (i:Expr):Prop:=∀ov iv,subscripted i false ov iv=operate [ov,iv] (getItem ov iv)
theorem ER{prog:zds}{w:zdi}{A:zdr}{E:zdh->zdq->Prop}{s:zdq}{env:Env}{value slice:Expr}{pos:Pos}{T id:String}{Q:zdh->zdq->Prop}
 (hl:typeLookup (.type T) "__getitem__"=pure (some (.builtin id))) (hs:Qy slice)
 (h:wpAny (model prog w) A (eval value env) (fun o s₁=>wpAny (model prog w) A (eval slice env) (fun i s₂=>s₂.TypeIs o T/\wpAny (model prog w) A (getItem o i) Q E s₂) E s₁) E s) :
 wpAny (model prog w) A (eval (.Subscript value slice pos) env) Q E s:=by
 refine Subscript_ (wpAny_mono h (fun o s₁ h₁=>wpAny_mono h₁ (fun i s₂ h₂=>?_) fun _ _ x=>x) fun _ _ x=>x);obtain⟨hT,h₂⟩:=h₂;unfold subscriptTail;refine zdj ?_;rw[getitemInPython_of_ne hT.not_modules];refine zdj (wpAny_specialOf hT hl ?_);have fin:wpAny (model prog w) A (subscripted slice false o i) (fun r s₃=>wpAny (model prog w) A (letTemporaryGo value o r >>= fun _=>pure r) Q E s₃) E s₂:=by
  rw[hs o i];exact wpAny_operating (wpAny_mono h₂ (fun r s₃ h₃=>zdj (wpAny_letTemporaryGo (zdk h₃))) fun _ _ x=>x)
 first
  |exact zdk (zdj fin)
  |exact zdj (zdk (zdj fin))
  |exact zdj fin
theorem Bk{X:Cx}{pins:List (zdg×Obj)}{σ:St}{H:Hp}{s:zdq}{a:zdg}{y:V}{o:Option V}(I:Inv X pins σ H s)(g:rK H a y o):s.TypeIs (.ref a) "dict":=by
 rcases g with ⟨kvs,k,e,_,_⟩ |⟨kvs,k,b,e,_,_,_⟩
 ·obtain⟨_,_,vs,_,dd⟩:=Ji I.cI e;exact dd.typeIs
 ·obtain⟨_,_,xs,_,dd⟩:=Jk I.cI e;exact dd.typeIs
def OJ (td ty:TE):TE:=fun σ H Q=>td σ H fun x H1=>ty σ H1 fun y H2=>∃a v,x=.ref a/\rK H2 a y (some v)/\Q v H2
def OL (td ty tv:TE):TS:=fun D σ H=>tv σ H fun v H1=>td σ H1 fun x H2=>ty σ H2 fun y H3=>∃a H4,x=.ref a/\Qx H3 a y v H4/\D.nx σ H4
section
variable{X:Cx}{o i e value:Expr}{pos pos' XS:Pos}{td ty tv:TE}
theorem eF(hu:X.A.units+1<cLine)(ho:PE X o td)(hi:PE X i ty)(hs:Qy i):PE X (.Subscript o i pos) (OJ td ty):=by
 intro pins s σ H Q I h;refine ER PySem.F.slot_dict_getitem.lookup hs (dU (ho pins s σ H _ I h) fun u s1 zqz=>?_);obtain⟨x,H1,I1,rx,q1⟩:=zqz;refine dU (hi pins s1 σ H1 _ I1 q1) fun iv s2 zqz=>?_;obtain⟨y,H2,I2,ry,a,v,ex,g,q2⟩:=zqz;subst ex;obtain rfl:u=Value.ref a:=rx;exact⟨Bk I2 g,Gq hu I2 g ry fun w' s3 I3 Di=>⟨v,H2,I3,Di,q2⟩⟩
theorem zH(hu:X.A.units+1<cLine)(ho:PE X o td)(hi:PE X i ty)(hv:PE X value tv)(hs:swapsWith value (some (.Subscript o i pos')) pos.line X.env=pure false) :
 PS X (.Assign [.Subscript o i pos'] value pos) (OL td ty tv):=by
 intro pins s σ H D I h;refine wpAny_Assign_Subscript (dU (hv pins s σ H _ I h) fun r s1 zqz=>?_) hs;obtain⟨v,H1,I1,rv,q1⟩:=zqz;refine dU (ho pins s1 σ H1 _ I1 q1) fun u s2 zqz=>?_;obtain⟨x,H2,I2,rx,q2⟩:=zqz;refine dU (hi pins s2 σ H2 _ I2 q2) fun iv s3 zqz=>?_;obtain⟨y,H3,I3,ry,a,H4,ex,g,q3⟩:=zqz;subst ex;obtain rfl:u=Value.ref a:=rx;exact Gr hu I3 g ry rv fun s4 I4=>⟨σ,H4,I4,q3⟩
end
theorem Bl{P:zds}{w:zdi}{H:Hp}(h:Heap)(hb:sysModules<h.objs.size):cX P w H (h.push {cls:=.type "dict",data:=.dict #[]}) h.objs.size (.dK []):=
 ⟨za2 _,beq_eq_false_iff_ne.mpr (Ne.symm (zay hb)),[],.nil,Heap.DictOf.new h⟩
def Jl:TE:=fun _ H Q=>∀p,H p=none->Q (.ref p) (upd H p (.dK []))
section
variable{X:Cx}{pos:Pos}
theorem Jm:PE X (.Dict [] [] pos) Jl:=fun pins s σ H Q I h=>
 wpAny_Dict_empty ⟨.ref s.heap.objs.size,_,I.laid (a:=s.heap.objs.size) (o:=.dK []) (t':=s.toks) (fun _ _ q=>Heap.get?_push_of_some _ q) (zaj _) (Bl s.heap I.big),rfl,h _ (I.cI.fresh (zaj _))⟩
end
def zI:List (TE×TE)->St->Hp->(List (V×V)->Hp->Prop)->Prop
 |[],_,H,Q=>Q [] H
 |(tk,tv)::r,σ,H,Q=>tk σ H fun x H1=>tv σ H1 fun y H2=>zI r σ H2 fun ps H3=>Q ((x,y)::ps) H3
abbrev VV:List (V×V)->List (zdh×zdh)->Prop:=Paired fun p q=>RelV p.1 q.1/\RelV p.2 q.2
def Wk (X:Cx) (pos:Pos) (keys:List (Option Expr)) (values:List Expr) (MX:List (TE×TE)):Prop:=
 ∀(pins:List (zdg×Obj)) (s:zdq) (σ:St) (H:Hp) (Q:List (V×V)->Hp->Prop),Inv X pins σ H s->zI MX σ H Q->
  wpAny (model X.prog X.w) X.A (evalPairs (pairTrees keys values X.env pos)) (fun vs s'=>∃ps H',Inv X pins σ H' s'/\VV ps vs/\Q ps H') X.xe s
theorem MY{X:Cx}{pos:Pos}:Wk X pos [] [] []:=fun pins s σ H Q I h=>pairTrees_nil_walk ⟨[],H,I,.nil,h⟩
theorem wc{X:Cx}{pos:Pos}{k v:Expr}{ks:List (Option Expr)}{vs:List Expr}{tk tv:TE}{MX:List (TE×TE)}(hk:PE X k tk)(hv:PE X v tv)(hr:Wk X pos ks vs MX) :
 Wk X pos (some k::ks) (v::vs) ((tk,tv)::MX):=fun pins s σ H Q I h=>
 pairTrees_cons_walk (dU (hk pins s σ H _ I h) fun u s1 ⟨x,H1,I1,rx,q1⟩=>dU (hv pins s1 σ H1 _ I1 q1) fun w2 s2 ⟨y,H2,I2,ry,q2⟩=>
  dU (hr pins s2 σ H2 _ I2 q2) fun ws s3 ⟨ps,H3,I3,rel,q3⟩=>⟨(x,y)::ps,H3,I3,.cons ⟨rx,ry⟩ rel,q3⟩)
def iO (kvs more:List (Key×V)):List (Key×V):=more.foldl (fun acc kv=>putK acc kv.1 kv.2) kvs
theorem KV.merge:∀ {more:List (Key×V)} {rs:List (Key×zdh)} {kvs:List (Key×V)} {vs:List (Key×zdh)},KV more rs->KV kvs vs->KV (iO kvs more) (merged vs rs):=by
 intro more rs kvs vs r;unfold KV at r
 induction r generalizing kvs vs with
 |nil=>intro q;exact q
 |@cons p q ps qs h t ih=>
  intro r0;have e:KV (putK kvs p.1 p.2) (stored vs q.1 q.2):=by
   have:=r0.put p.1 h.2;rw[<- h.1];exact this
  exact ih e
theorem iY:∀(more kvs:List (Key×V)),(iO kvs more).length<=kvs.length+more.length
 |[],kvs=>by show kvs.length<=kvs.length+0;lia
 |p::r,kvs=>by
  have h1:=iY r (putK kvs p.1 p.2);have h2:=jf kvs p.1 p.2;show (iO (putK kvs p.1 p.2) r).length<=_;rw[zaf];lia
theorem we{P:zds}{w:zdi}:∀ {kvs:List (Key×V)} {ws:List (zdh×zdh)},VV (kvs.map fun kv=>(kV kv.1,kv.2)) ws->∃rs,Carries (bM P w) ws rs/\KV kvs rs
 |[],_,r=>by rw[zaP] at r;cases r;exact⟨[],True.intro,.nil⟩
 |p::kvs,_,r=>by
  rw[zaq] at r;cases r with
  |@cons a b as bs h t=>
   obtain⟨rs,c,q⟩:=we (P:=P) (w:=w) t;obtain⟨b1,b2⟩:=b;exact⟨(p.1,b2)::rs,⟨v9 h.1,rfl,c⟩,.cons ⟨rfl,h.2⟩ q⟩
def OM (MX:List (TE×TE)):TE:=fun σ H Q=>∀p,H p=none->zI MX σ (upd H p (.dK [])) fun ps H2=>H2 p=some (.dK [])/\∃kvs:List (Key×V),ps=kvs.map (fun kv=>(kV kv.1,kv.2))/\kvs.length<=15/\Q (.ref p) (upd H2 p (.dK (iO [] kvs)))
theorem MZ{X:Cx}{pos:Pos}{keys:List (Option Expr)}{values:List Expr}{MX:List (TE×TE)}(h:Wk X pos keys values MX)(Jg:keys.all (·.isSome)=true)(hl:keys.length=values.length)(h0:keys≠[])
 (X7:keys.length<=15):PE X (.Dict keys values pos) (OM MX):=by
 intro pins s σ H Q I q;have hn:=I.cI.fresh (zaj s.heap.objs.size);have I1:=I.laid (a:=s.heap.objs.size) (o:=.dK []) (h':=s.heap.push {cls:=.type "dict",data:=.dict #[]}) (t':=s.toks) (fun _ _ q=>Heap.get?_push_of_some _ q) (zaj _) (Bl s.heap I.big);refine wpAny_Dict_walk (knd:=bM X.prog X.w) Jg hl h0 X7 (dU (h pins _ σ _ _ I1 (q _ hn)) fun ws s2 zqz=>?_);obtain⟨ps,H2,I2,rel,e,kvs,ep,lk,q2⟩:=zqz;subst ep;obtain⟨rs,c,rk⟩:=we (P:=X.prog) (w:=X.w) rel;obtain⟨z,hd,vs0,r0,dd⟩:=Jj I2.cI e;cases r0;refine⟨rs,c,dd,fun h' MW hs=>⟨.ref s.heap.objs.size,_,?_,rfl,q2⟩⟩;have hz:(iO [] kvs).length<=zdo:=by
  have h1:=iY kvs [];rw[zaI] at h1;rw[sizeLine_eq];lia
 have he:∃q,h'.get? s.heap.objs.size=some q:=let ⟨q,_,_,hq,_⟩:=MW;⟨q,hq⟩;exact rM I2 (by rw[e];exact True.intro) hs he (zG hz hd (rk.merge .nil) MW)
def tP (env:Env):List (Str×NameKind)->List (Str×zdg)->List (Str×zdg)
 |[],cs=>cs
 |(n,k)::r,cs=>tP env r (if k==.free then (n,(env.cells.lookup n).getD 0)::cs else cs)
theorem vg{scope:Scope}{env:Env}(h:∀p∈scope.names,p.2=.free->∃c,env.cells.lookup p.1=some c):closureFor scope env=pure (tP env scope.names []):=by
 have all:∀(l:List (Str×NameKind)) (cs:List (Str×zdg)),(∀p∈l,p.2=.free->∃c,env.cells.lookup p.1=some c)->
  (forIn l cs fun (x:Str×NameKind) (r:List (Str×zdg))=>if (x.2==NameKind.free)=true then do let a <- cellOf env x.1;pure (ForInStep.yield ((x.1,a)::r)) else (pure (ForInStep.yield r):Sem _))=pure (tP env l cs):=by
  intro l
  induction l with
  |nil=>intro cs _;rfl
  |cons p r ih=>
   intro cs hp;obtain⟨n,k⟩:=p;rw[za6];by_cases hk:k=.free
   ·subst hk;obtain⟨c,e⟩:=hp (n,.free) zav rfl;have e1:cellOf env n=pure c:=by unfold cellOf;rw[e]
    simp only[beq_self_eq_true,if_true,e1,pure_bind];rw[ih _ fun p R9=>hp p (zae _ R9)];simp[tP,e]
   ·have hb:(k==NameKind.free)=false:=by simpa using hk
    simp only[hb,zaG,if_false,pure_bind];rw[ih _ fun p R9=>hp p (zae _ R9)];simp[tP,hb]
 simp only[closureFor];rw[all scope.names [] h];simp
theorem rN{env:Env}{x:Str}{c:zdg}:∀ {l:List (Str×NameKind)} {cs:List (Str×zdg)},(∀p∈l,p.2=.free->∃c,env.cells.lookup p.1=some c)->(∀x c,cs.lookup x=some c->env.cells.lookup x=some c)->
 (tP env l cs).lookup x=some c->env.cells.lookup x=some c
 |[],_,_,h,e=>h x c e
 |(n,k)::r,cs,hp,h,e=>by
  unfold tP at e;refine rN (fun p q=>hp p (zae _ q)) ?_ e;intro y d q;by_cases hk:k=.free
  ·subst hk;obtain⟨c',e'⟩:=hp (n,.free) zav rfl;simp only[beq_self_eq_true,if_true] at q;rw[zaY] at q;cases hy:y==n with
   |true=>
    rw[hy] at q;have:y=n:=by simpa using hy
    subst this;simp only at e';rw[e'] at q ⊢;exact q
   |false=>rw[hy] at q;exact h y d q
  ·have hb:(k==NameKind.free)=false:=by simpa using hk
   simp only[hb,zaG,if_false] at q;exact h y d q
theorem wg{env:Env}{x:Str}:∀ {l:List (Str×NameKind)} {cs:List (Str×zdg)},((∃c,cs.lookup x=some c)\/(x,NameKind.free)∈l)->∃c,(tP env l cs).lookup x=some c
 |[],_,h=>by
  rcases h with h |h
  ·exact h
  ·exact absurd h (by simp)
 |(n,k)::r,cs,h=>by
  unfold tP
  apply wg
  rcases h with ⟨c,h⟩ |h
  ·left
   by_cases hk:k=.free
   ·subst hk;simp only[beq_self_eq_true,if_true];rw[zaY];cases hy:x==n with
    |true=>exact⟨_,rfl⟩
    |false=>exact⟨c,h⟩
   ·have hb:(k==NameKind.free)=false:=by simpa using hk
    simp only[hb,zaG,if_false];exact⟨c,h⟩
  ·rcases zag.mp h with e |h
   ·injection e with e1 e2
    subst e1;subst e2
    left
    simp only[beq_self_eq_true,if_true];rw[zaY];simp
   ·exact .inr h
theorem ou{scope:Scope}{env:Env}{x:Str}:(relabel scope env).names.lookup x=(scope.names.lookup x).map fun k=>if (k==NameKind.free&&env.scope.kind==.function&&env.kindOf x==some .cell)=true then .cell else k:=by
 unfold relabel;show zbk x (scope.names.map _)=_;generalize scope.names=l
 induction l with
 |nil=>rfl
 |cons p r ih=>
  obtain⟨n,k⟩:=p;rw[zaq,zaY (as:=r)];show zbk x ((if (k==NameKind.free&&env.scope.kind==.function&&env.kindOf n==some .cell)=true then (n,NameKind.cell) else (n,k))::_)=_;cases hx:x==n with
  |true=>
   have e:x=n:=by simpa using hx
   subst e;by_cases hc:(k==NameKind.free&&env.scope.kind==.function&&env.kindOf x==some .cell)=true
   ·rw[if_pos hc];simp only[zaY,beq_self_eq_true,zbn];rw[if_pos hc]
   ·rw[if_neg hc];simp only[zaY,beq_self_eq_true,zbn];rw[if_neg hc]
  |false=>
   by_cases hc:(k==NameKind.free&&env.scope.kind==.function&&env.kindOf n==some .cell)=true
   ·rw[if_pos hc];simp only[zaY,hx];exact ih
   ·rw[if_neg hc];simp only[zaY,hx];exact ih
theorem mem_of_lookup{x:Str}{k:NameKind}:∀ {l:List (Str×NameKind)},l.lookup x=some k->(x,k)∈l
 |[],h=>by simp at h
 |(n,j)::r,h=>by
  rw[zaY] at h;cases hx:x==n with
  |true=>
   rw[hx] at h;have e:x=n:=by simpa using hx
   cases h;subst e;exact zav
  |false=>rw[hx] at h;exact zae _ (mem_of_lookup h)
def jK (sc out:Scope):Bool:=
 (sc.names.all fun p=>p.2 != .cell&&(p.2 != .free ||out.names.lookup p.1==some .cell ||out.names.lookup p.1==some .free)&&(p.2 != .local ||sc.names.lookup p.1==some .local))&&decide (sc.kind=.function)
def vz (sc out:Scope) (N:List Str) (ix:List Nat):Bool:=
 ix.all fun i=>sc.names.lookup (N.getD i "")==some .free&&(out.names.lookup (N.getD i "")==some .cell ||out.names.lookup (N.getD i "")==some .free)
def Jn (σ:St) (ix:List Nat):St:=ix.map fun i=>σ.getD i none
abbrev ES (N:List Str) (ix:List Nat):List Str:=ix.map fun i=>N.getD i ""
def kh (X:Cx) (scope:Scope) (own:List Str) (ix:List Nat) (C:zdg) (s₀:zdq) (H₀:Hp) (ex:List zdg):Cx where
 prog:=X.prog
 w:=X.w
 K:=X.K
 mg:=X.mg
 base:=X.base
 A:=X.A
 N:=own++ES X.N ix
 s₀:=s₀
 H₀:=H₀
 env:=compEnvC scope (tP X.env scope.names []) C X.env
 outer:=X.stack
 stack:=X.stack
 ex:=ex
 fn:=fun _=>false
 calm:=X.calm
 pn:=[]
 xe:=fun _ _=>False
section
variable{X:Cx}{pins:List (zdg×Obj)}{σ:St}{H:Hp}{s:zdq}
theorem ox{sc out:Scope}(h:jK sc out=true):∀p∈sc.names,p.2≠.cell/\(p.2=.free->out.names.lookup p.1=some .cell\/out.names.lookup p.1=some .free)/\(p.2=.local->sc.names.lookup p.1=some .local):=by
 intro p hp;unfold jK at h;rw[zba] at h;have:=zbj.mp h.1 p hp;simp only[zba,Bool.or_eq_true,bne_iff_ne,beq_iff_eq,ne_eq] at this;obtain⟨⟨h1,h2⟩,h3⟩:=this;refine⟨h1,fun e=>?_,fun e=>?_⟩
 ·rcases h2 with (h2 |h2) |h2
  ·exact absurd e h2
  ·exact .inl h2
  ·exact .inr h2
 ·rcases h3 with h3 |h3
  ·exact absurd e h3
  ·exact h3
theorem mR{sc out:Scope}(h:jK sc out=true):sc.kind=.function:=by
 unfold jK at h;rw[zba] at h;exact of_decide_eq_true h.2
theorem M0{scope:Scope}{own:List Str}{ix:List Nat}{ex:List zdg}(I:Inv X pins σ H s)(hf:jK scope X.env.scope=true)(hx:∀b∈ex,rC X pins H b/\b<s.heap.objs.size):(kh X scope own ix s.heap.objs.size s H ex).Ok:=by
 have fits:=(ox hf)
 have og:∀p∈scope.names,p.2=.free->∃c,X.env.cells.lookup p.1=some c:=fun p hp e=>I.ok.has p.1 ((fits p hp).2.1 e);have sub:∀ {x:Str} {c:zdg},(tP X.env scope.names []).lookup x=some c->X.env.cells.lookup x=some c:=fun {x c} e=>rN og (fun x c e=>by simp at e) e;refine⟨I.ok.mod,(show scope.kind=.function from mR hf),I.ok.glob,I.ok.blt,zaj _,fun x y c a b=>I.ok.inj x y c (sub a) (sub b),fun x hk=>?_,fun x c e=>(by cases e),I.ok.hd,I.ok.frames,.inl rfl,fun b hb=>⟨zay (hx b hb).2,fun x c e=>(hx b hb).1.2.2.2.2.1 x c (sub e)⟩,I.bs,zaA I.ok.F3 I.sz,fun b o e hb=>?_,fun b hb hs=>?_,I.stack,I.zo⟩
 ·refine wg (.inr ?_);have Jo:(relabel scope X.env).names.lookup x=some .cell\/(relabel scope X.env).names.lookup x=some .free:=hk;rw[ou] at Jo;cases q:scope.names.lookup x with
  |none=>rw[q] at Jo;rcases Jo with z |z<;>cases z
  |some k=>
   have hm:=mem_of_lookup q;by_cases X8:k=.free
   ·subst X8;exact hm
   ·rw[q] at Jo;have hb:(k==NameKind.free)=false:=by simpa using X8
    simp only[zbn,hb,zbU,zaG,if_false,zaT.injEq] at Jo;rcases Jo with z |z
    ·exact absurd z (fits _ hm).1
    ·exact absurd z X8
 ·rcases(hx b hb).1.2.2.2.1 with z |z
  ·exact I.ok.IA b o e z
  ·exact absurd (zaB (Heap.lt_size e) (zaA I.ok.F3 z)) (zaS _)
 ·rcases zag.mp (I.vQ b hs) with z |z
  ·exact(hx b hb).1.2.1 z
  ·exact(hx b hb).1.2.2.1 z
theorem Jp{scope:Scope}{own:List Str}{ix:List Nat}{ex:List zdg}{h':Heap}{tk:Nat}(I:Inv X pins σ H s)(hf:jK scope X.env.scope=true)(hc:vz scope X.env.scope X.N ix=true)(hx:∀b∈ex,rC X pins H b/\b<s.heap.objs.size)
 (hn:h'.Ns s.heap.objs.size fun _=>none) (hk:∀b o,s.heap.get? b=some o->h'.get? b=some o):Inv (kh X scope own ix s.heap.objs.size s H ex) [] (zaL own.length none++Jn σ ix) H {s with heap:=h',toks:=tk}:=by
 have fits:=(ox hf)
 have og:∀p∈scope.names,p.2=.free->∃c,X.env.cells.lookup p.1=some c:=fun p hp e=>I.ok.has p.1 ((fits p hp).2.1 e);have sub:∀ {x:Str} {c:zdg},(tP X.env scope.names []).lookup x=some c->X.env.cells.lookup x=some c:=fun {x c} e=>rN og (fun x c e=>by simp at e) e;refine⟨M0 I hf hx,rfl,I.bare,Un.kept hk,⟨_,hn,fun i x v e1 e2 e3=>?_⟩,fun x c e=>?_,I.cI.fresh (zaj _),fun x c e=>I.nO x c (sub e),fun p hp=>absurd (show p∈([]:List (zdg×Obj))++[] from hp) (by simp),I.cI.kept hk,?_⟩
 ·have e1:(own++ES X.N ix)[i]?=some x:=e1;by_cases hi:i<own.length
  ·rw[zcK (by simpa using hi),zcM,if_pos hi] at e2;cases e2
  ·have hi':own.length<=i:=Nat.le_of_not_lt hi;rw[zbZ (by simpa using hi'),zcZ] at e2;rw[zbZ hi'] at e1;unfold Jn at e2;unfold ES at e1;rw[zar] at e1 e2;cases q:ix[i-own.length]? with
   |none=>rw[q] at e2;cases e2
   |some j=>
    rw[q] at e1 e2;simp only[zbn,zaT.injEq] at e1 e2;have hj:j∈ix:=zaz q;have fit:=zbj.mp hc j hj;simp only[zba,Bool.or_eq_true,beq_iff_eq] at fit;rw[e1] at fit;have ej:σ[j]?=some (some v):=by
     rw[zan] at e2;cases r:σ[j]? with
     |none=>rw[r] at e2;cases e2
     |some z=>rw[r] at e2;simp only[zcn] at e2;rw[e2]
    have hjl:j<X.N.length:=by rw[<- I.len];exact(zak.mp ej).1
    have en:X.N[j]?=some x:=by
     rw[zan] at e1;rw[zad hjl] at e1 ⊢;simp only[zcn] at e1;rw[e1]
    obtain⟨m,hm,hl⟩:=I.loc;have hv:SW X.env.scope x:=by
     rcases fit.2 with z |z
     ·exact .inr (.inl z)
     ·exact .inr (.inr z)
    obtain⟨u,r,l⟩:=hl j x v en ej hv;refine⟨u,r,.inr ⟨?_,?_⟩⟩
    ·show (relabel scope X.env).names.lookup x=some .cell\/(relabel scope X.env).names.lookup x=some .free;rw[ou,fit.1];simp only[zbn];split
     ·exact .inl rfl
     ·exact .inr rfl
    ·rcases l with ⟨k1,_⟩ |⟨_,c,ec,pU⟩
     ·have k1:X.env.scope.names.lookup x=some .local:=k1;rcases fit.2 with z |z<;>(rw[z] at k1;cases k1)
     ·obtain⟨c',e'⟩:∃c,(tP X.env scope.names []).lookup x=some c:=wg (.inr (mem_of_lookup fit.1));have:=sub e';rw[ec] at this;cases this;exact⟨c,e',pU.keeps hk⟩
 ·obtain⟨v,z⟩:=I.cell x c (sub e);exact⟨v,z.keeps hk⟩
 ·show (zaL own.length none++Jn σ ix).length=(own++ES X.N ix).length;simp[Jn]
theorem comp_back{scope:Scope}{own:List Str}{ix:List Nat}{ex:List zdg}{τ:St}{H':Hp}{s':zdq}{Ez:List (zdg×Obj)}(I:Inv X pins σ H s)(hx:∀b∈ex,rC X pins H b/\b<s.heap.objs.size)
 (I':Inv (kh X scope own ix s.heap.objs.size s H ex) Ez τ H' s'):Inv X pins σ H' s'/\H' s.heap.objs.size=none/\s.heap.objs.size≠X.env.locals/\X.s₀.heap.objs.size<=s.heap.objs.size/\(∀x c,X.env.cells.lookup x=some c->c≠s.heap.objs.size)/\∀p∈X.pn++pins,p.1≠s.heap.objs.size:=by
 refine⟨I.S2 (ch:=ex) I'.os I'.base I'.cI I'.bare fun b hb=>?_,I'.free,zbK I.lt,I.sz,fun x c e z=>?_,fun p hp z=>?_⟩
 ·obtain⟨f0,f1,f2,f3,f4,f5⟩:=(hx b hb).1;exact⟨f3,f1,f4,f5⟩
 ·obtain⟨v,q⟩:=I.cell x c e;exact absurd q.lt (by rw[z];exact zaS _)
 ·exact absurd (Heap.lt_size (I.pin p hp).1) (by rw[z];exact zaS _)
end
def Sa (X:Cx) (ifs:List Expr) (t:TT):Prop:=
 ∀(pins:List (zdg×Obj)) (s:zdq) (σ:St) (H:Hp) (Q:Bool->Hp->Prop),Inv X pins σ H s->t σ H Q->
  wpAny (model X.prog X.w) X.A (forIn ifs true fun c r=>if r=true then do let ok <- isTrue c X.env (eval c X.env);pure (ForInStep.yield ok) else pure (ForInStep.yield r)) (TP X pins σ Q) X.xe s
def Bm:TT:=fun _ H Q=>Q true H
theorem dM{X:Cx}:Sa X [] Bm:=fun _ _ _ H _ I h=>wpAny_tests_nil ⟨H,I,h⟩
theorem pB{X:Cx}{c:Expr}{t:TT}(h:PT X c t):Sa X [c] t:=fun pins s σ H Q I q=>wpAny_tests_one (h pins s σ H Q I q)
def uI (J:It) (D:zdg) (g:TG) (tc:TT) (te:TE) (Q:VK) (τ:St) (H:Hp):Prop:=∃W:Nat->Nat->St->Hp->Prop,(∃m,W 0 m τ H)/\∀i m τ H,W i m τ H->
 (J.stop i H/\Q (.ref D) H)\/(J.go i H/\∃N:St->Hp->Prop,(∀τ' H',N τ' H'->∃m',m'<m/\W (i+1) m' τ' H')/\∀x H',J.A9 i H x H'->g x τ H' fun τ2 H2=>tc τ2 H2 fun b H3=>if b=true then
  te τ2 H3 fun y H4=>∃ys,H4 D=some (.lst ys)/\ys.length<zdo/\N τ2 (upd H4 D (.lst (ys++[y]))) else N τ2 H3)
def fg (wi:TI) (k:Nat) (ix:List Nat) (g:TG) (tc:TT) (te:TE):TE:=fun σ H Q=>wi σ H fun J H1=>∀D,H1 D=none->uI J D g tc te Q (zaL k none++Jn σ ix) (upd H1 D (.lst []))
section
variable{X:Cx}{tg iter elt:Expr}{ifs:List Expr}{scope:Scope}{pos:Pos}{own:List Str}{ix:List Nat}{wi:TI}{g:TG}{tc:TT}{te:TE}
theorem Gs{it D:zdg}{fp:List zdg}{tn:Nat->Heap->Prop}{J:It}{Q:VK}{R:Result->zdq->Prop}{s:zdq}{τ:St}{H:Hp}(uJ:X.calm=true)(M1:X.xe=fun _ _=>False)(hpn:X.pn=[])(T:Turn X.prog X.w X.K tg J fp it tn)
 (he:PE X elt te) (hg:PG X tg g) (ht:Sa X ifs tc) (I:Inv X [] τ H s) (hfp:∀b∈fp,rC X [] H b) (h0:tn 0 s.heap) (hW:uI J D g tc te Q τ H)
 (hR:∀τ' H' s',Inv X [] τ' H' s'->Q (.ref D) H'->R (.ok .next) s') :
 codeAny (model X.prog X.w) X.A (.compLoop (.ListComp elt [⟨tg,iter,ifs,0⟩] scope pos) 0 (.ref it) (.ref D) X.env) R s:=by
 obtain⟨W,⟨m0,w0⟩,turn⟩:=hW;have no:∀ {E:zdh->zdq->Prop} (e:zdh) (s':zdq),X.xe e s'->E e s':=fun e s' z=>by rw[M1] at z;exact z.elim
 have stat:∀ {H':Hp},(∀b∈fp,H' b=none)->∀b∈fp,rC X [] H' b:=fun hn b hb=>⟨hn b hb,(hfp b hb).2⟩
 refine codeAny_loop rfl (fun n s'=>∃i τ' H',Inv X [] τ' H' s'/\tn i s'.heap/\(∀b∈fp,H' b=none)/\W i n τ' H') (fun n s3 hI=>?_) m0 ⟨0,τ,H,I,h0,fun b hb=>(hfp b hb).1,w0⟩;obtain⟨i,τ3,H3,I3,Ik,S7,w3⟩:=hI;show wpAny _ X.A ((compTurn (.ListComp elt [⟨tg,iter,ifs,0⟩] scope pos) 0 (.ref it) (.ref D) X.env).onRaise (fun x=>do noteFrame x X.env;theTreesLotGoes x)) _ _ s3;refine wpAny_noted ?_;rw[compTurn_list];refine zdj (wpAny_standAt (zdj ?_));rcases turn i n τ3 H3 w3 with ⟨stop,q⟩ |⟨go,N,hN,step⟩
 ·refine wpAny_mono (T.done X rfl rfl rfl uJ i [] s3 τ3 H3 X.xe I3 (stat S7) Ik stop) (fun r s4 zqz=>?_) no;obtain⟨hr,I4⟩:=zqz;subst hr;exact zdk (hR τ3 H3 s4 I4 q)
 ·refine wpAny_mono (T.item X rfl rfl rfl uJ i [] s3 τ3 H3 X.xe I3 (stat S7) Ik go) (fun r s4 zqz=>?_) no;obtain⟨u,hr,h4⟩:=zqz;subst hr;refine zdj (wpAny_mono h4 (fun _ s5 zqz=>?_) no);obtain⟨x,H5,I5,r5,y5,Il,XI⟩:=zqz;have XJ:=I5.pinned (stat XI) (T.obj _ _ Il);refine zdj (wpAny_mono (hg _ s5 τ3 H5 x u _ XJ r5 (step x H5 y5)) (fun _ s6 zqz=>?_) no);obtain⟨τ6,H6,I6,q6⟩:=zqz;refine zdj (wpAny_mono (ht _ s6 τ6 H6 _ I6 q6) (fun b s7 zqz=>?_) no);obtain⟨H7,I7,q7⟩:=zqz;have again:∀ {τ7:St} {H7:Hp} {s7:zdq},Inv X ([]++vT fp s5.heap) τ7 H7 s7->N τ7 H7->∃m,m<n/\∃i σ' H',Inv X [] σ' H' s7/\tn i s7.heap/\(∀b∈fp,H' b=none)/\W i m σ' H':=fun {τ7 H7 s7} I7 n7=>by
   obtain⟨m',hm,w7⟩:=hN τ7 H7 n7;refine⟨m',hm,i+1,τ7,H7,I7.rD,T.keep _ _ _ Il fun b hb o e=>(I7.pin (b,o) (zaM _ (zaM _ (mN hb e)))).1,fun b hb=>?_,w7⟩;obtain⟨o,e,d⟩:=T.obj _ _ Il b hb;exact(I7.pin (b,o) (zaM _ (zaM _ (mN hb e)))).2.1
  cases b with
  |false=>exact zdk ⟨rfl,again I7 q7⟩
  |true=>
   refine zdj (zdj (wpAny_mono (he _ s7 τ6 H7 _ I7 q7) (fun v s8 ⟨y,H8,I8,r8,ys,hD,hl,q8⟩=>zdj ?_) no));refine wpAny_mono (cY _ s8 τ6 H8 (.ref D) [y] (.ref D) [v] (fun _ H'=>N τ6 H') I8 rfl (.cons r8 .nil) ⟨D,ys,y,rfl,rfl,hD,hl,q8⟩) (fun _ s9 zqz=>?_) no;obtain⟨_,H9,I9,_,q9⟩:=zqz;exact zdk (zdk ⟨rfl,again I9 q9⟩)
theorem Bn{pins:List (zdg×Obj)}{s:zdq}{σ:St}{H:Hp}{Q:VK}{use:Option (zdh->Sem Unit)}{Q':zdh->zdq->Prop}(uJ:X.calm=true)(hf:jK scope X.env.scope=true)(hc:vz scope X.env.scope X.N ix=true)
 (hi:PI X tg iter wi) (hg:∀C s₀ H₀ ex,PG (kh X scope own ix C s₀ H₀ ex) tg g) (ht:∀C s₀ H₀ ex,Sa (kh X scope own ix C s₀ H₀ ex) ifs tc) (he:∀C s₀ H₀ ex,PE (kh X scope own ix C s₀ H₀ ex) elt te)
 (I:Inv X pins σ H s) (h:fg wi own.length ix g tc te σ H Q)
 (hU:∀(D C:zdg) (H':Hp) (s':zdq) (m:Str->Option zdh),Inv X pins σ H' s'->Q (.ref D) H'->s'.heap.Ns C m->H' C=none->C≠X.env.locals->X.s₀.heap.objs.size<=C->(∀x c,X.env.cells.lookup x=some c->c≠C)->(∀p∈X.pn++pins,p.1≠C)->compPost (model X.prog X.w) X.A X.xe use Q' (.ref D) C (.ok .next) s')
 (hs:∀x,foldedSetIterable iter X.env x=pure x) :
 wpAny (model X.prog X.w) X.A (comprehension (.ListComp elt [⟨tg,iter,ifs,0⟩] scope pos) scope X.env (firstIterPos [⟨tg,iter,ifs,0⟩] pos) (newList []) false (eval iter X.env) use) Q' X.xe s:=by
 have fits:=(ox hf)
 have og:∀p∈scope.names,p.2=.free->∃c,X.env.cells.lookup p.1=some c:=fun p hp e=>I.ok.has p.1 ((fits p hp).2.1 e);refine wpAny_comprehension_free (use:=use) rfl hs (vg og) (mR hf) (fun x hx=>(fits x hx).2.2) ?_;refine dU (hi pins s σ H _ I h) fun v s1 h1=>dU h1 fun XH s2 h2=>?_;obtain⟨it,fp,tn,J,H2,e,I2,T,uC,f2,hW⟩:=h2;subst e;refine wpAny_newObj_type (hd:=by size_fits) ?_;have hD:H2 s2.heap.objs.size=none:=I2.cI.fresh (zaj _);have I3:Inv X pins σ (upd H2 s2.heap.objs.size (.lst [])) {s2 with heap:=s2.heap.push {cls:=.type "list",dict:=none,data:=.seq ([]:List zdh).toArray} }:=
  I2.laid (t':=s2.toks) (fun b u e=>Heap.get?_push_of_some _ e) (zaj _) ⟨za2 _,[],0,.nil,Heap.get?_push_size _ rfl⟩
 have W3:=hW s2.heap.objs.size hD;have lt3:∀b∈fp,b<s2.heap.objs.size:=fun b hb=>let ⟨o,e,_⟩:=T.obj _ _ uC b hb;Heap.lt_size e;have TJ:∀b∈fp,rC X pins (upd H2 s2.heap.objs.size (.lst [])) b/\b<(s2.heap.push {cls:=.type "list",dict:=none,data:=.seq ([]:List zdh).toArray}).objs.size:=fun b hb=>
  ⟨⟨by rw[aw (zay (lt3 b hb))];exact(f2 b hb).1,(f2 b hb).2⟩,by rw[Heap.size_push];exact Nat.lt_succ_of_lt (lt3 b hb)⟩
 have Ik:tn 0 (s2.heap.push {cls:=.type "list",dict:=none,data:=.seq ([]:List zdh).toArray}):=T.keep _ _ _ uC fun b _ o e=>Heap.get?_push_of_some _ e;generalize uK:({s2 with heap:=s2.heap.push {cls:=.type "list",dict:=none,data:=.seq ([]:List zdh).toArray} }:zdq)=s3 at I3;generalize hH3:upd H2 s2.heap.objs.size (.lst [])=H3 at I3 W3 TJ;have eh:s2.heap.push {cls:=.type "list",dict:=none,data:=.seq ([]:List zdh).toArray}=s3.heap:=by rw[<- uK]
 rw[eh] at TJ Ik;refine wpAny_newFunctionEnv (fun x hx=>(fits x hx).1) (by intro y hy;simp at hy) (fun h4 ON ET=>?_) (mR hf);have kept:∀b o,s3.heap.get? b=some o->h4.get? b=some o:=fun b o e=>ET.extBut b o (zay (Heap.lt_size e)) (Heap.get?_push_of_some _ e);have I4:=Jp (own:=own) (tk:=s3.toks+([]:List (Str×zdh)).length) I3 hf hc TJ ON kept;have fp4:∀b∈fp,rC (kh X scope own ix s3.heap.objs.size s3 H3 fp) [] H3 b:=fun b hb=>by
  obtain⟨⟨f0,f1,f2',f3,f4,f5⟩,lt⟩:=TJ b hb;refine⟨f0,zay lt,fun z=>?_,.inl hb,fun x c e=>f4 x c (rN og (fun x c e=>by simp at e) e),fun p hp=>absurd (show p∈([]:List (zdg×Obj))++[] from hp) (by simp)⟩;rcases zag.mp (I3.vQ b z) with z |z
  ·exact f1 z
  ·exact f2' z
 have TK:tn 0 h4:=T.keep _ _ _ Ik fun b _ o e=>kept b o e;have loop:=Gs (X:=kh X scope own ix s3.heap.objs.size s3 H3 fp) (iter:=iter) (scope:=scope) (pos:=pos) (R:=compPost (model X.prog X.w) X.A X.xe use Q' (.ref s2.heap.objs.size) s3.heap.objs.size) uJ rfl rfl T (he _ _ _ _) (hg _ _ _ _) (ht _ _ _ _) I4 fp4 TK W3
  (fun τ' H' s' I' q=>by
   obtain⟨J1,J2,J3,J4,J5,J6⟩:=comp_back I3 TJ I';obtain⟨m,hm,_⟩:=I'.loc;exact hU _ _ H' s' m J1 q hm J2 J3 J4 J5 J6)
 exact codeAny_compStart_list loop (T.self X.A 0 _ _ _ TK loop)
theorem cK(uJ:X.calm=true)(hf:jK scope X.env.scope=true)(hc:vz scope X.env.scope X.N ix=true)
 (hi:PI X tg iter wi) (hg:∀C s₀ H₀ ex,PG (kh X scope own ix C s₀ H₀ ex) tg g) (ht:∀C s₀ H₀ ex,Sa (kh X scope own ix C s₀ H₀ ex) ifs tc) (he:∀C s₀ H₀ ex,PE (kh X scope own ix C s₀ H₀ ex) elt te)
 (hs:∀x,foldedSetIterable iter X.env x=pure x:=by intro _;rfl):PE X (.ListComp elt [⟨tg,iter,ifs,0⟩] scope pos) (fg wi own.length ix g tc te):=by
 intro pins s σ H Q I h;rw[eval_ListComp];refine Bn (use:=none) uJ hf hc hi hg ht he I h (fun D C H' s' m I' q hm n1 n2 n3 n4 n5=>?_) hs;refine⟨m,hm,fun h' sb=>⟨.ref D,H',?_,rfl,q⟩⟩;exact I'.turned (t':=s'.toks) (it:=C) (fun b o hb e=>sb.extBut b o hb e) n1 (Ne.symm (Ne.symm n2)) (.inr n3) n4 n5
theorem M3{i:Nat}{y:Str}{py TL:Pos}(hN:X.N.Nodup)(hiy:X.N[i]?=some y)(hy:Loc X.env.scope y)(uJ:X.calm=true)(hf:jK scope X.env.scope=true)(hc:vz scope X.env.scope X.N ix=true)
 (hi:PI X tg iter wi) (hg:∀C s₀ H₀ ex,PG (kh X scope own ix C s₀ H₀ ex) tg g) (ht:∀C s₀ H₀ ex,Sa (kh X scope own ix C s₀ H₀ ex) ifs tc) (he:∀C s₀ H₀ ex,PE (kh X scope own ix C s₀ H₀ ex) elt te)
 (hsw:swapsWith (.ListComp elt [⟨tg,iter,ifs,0⟩] scope pos) (some (.Name y py)) TL.line X.env=pure true:=by rfl)
 (hs:∀x,foldedSetIterable iter X.env x=pure x:=by intro _;rfl) (PK:X.fn y=true\/X.env.scope.names.lookup y=some .local:=by first |exact .inl rfl |exact .inr rfl |assumption) :
 PS X (.Assign [.Name y py] (.ListComp elt [⟨tg,iter,ifs,0⟩] scope pos) TL) (F5 (fg wi own.length ix g tc te) (eT i)):=by
 intro pins s σ H D I h;rw[exec_Assign_Name_used _ _ _ _ hsw];refine zdj (wpAny_standAt (zdj ?_));show wpAny _ _ (do let _ <- comprehension (.ListComp elt [⟨tg,iter,ifs,0⟩] scope pos) scope X.env _ (newList []) false (eval iter X.env) (some (assign (.Name y py) X.env))) _ _ s;refine zdj (wpAny_mono (Bn (use:=some (assign (.Name y py) X.env)) (Q':=fun _ s'=>SP X pins D .next s') uJ hf hc hi hg ht he I h (fun L C H' s' m I' q hm n1 n2 n3 n4 n5=>?_) hs) (fun _ s' hq=>zdk (zdk hq)) fun _ _ e=>e);show wpAny _ _ (assign (.Name y py) X.env (.ref L)) _ _ _;refine wpAny_assign_Name (yd I' hN hiy hy (v:=.ref L) rfl (fun s2 I2 zqz=>?_) PK);obtain⟨a,sb,ha⟩:=zqz;have hCa:C≠a:=by
  rcases ha with rfl |ha
  ·exact n2
  ·exact fun z=>n4 y a ha z.symm
 refine⟨m,hm.sameBut sb hCa,fun h' sb'=>⟨_,H',?_,q⟩⟩;exact I2.turned (t':=s2.toks) (it:=C) (fun b o hb e=>sb'.extBut b o hb e) n1 n2 (.inr n3) n4 n5
end
inductive Dp where
 |cx |bl (b:Bool) |int (i:Int) |str (x:Str) |tup (l:List Dp) |lst (l:List Dp)
mutual
def Rep (K:zaa) (H:Hp):Dp->V->Prop
 |.cx,v=>v=.cx
 |.bl b,v=>v=.bl b
 |.int i,v=>v=.int i
 |.str x,v=>v=.str x
 |.tup l,v=>∃a xs,v=.ref a/\b8 K H a xs/\aI K H l xs
 |.lst l,v=>∃a xs,v=.ref a/\gC K H a xs/\aI K H l xs
def aI (K:zaa) (H:Hp):List Dp->List V->Prop
 |[],vs=>vs=[]
 |d::ds,vs=>∃v r,vs=v::r/\Rep K H d v/\aI K H ds r
end
mutual
def Dp.deep:Dp->Nat
 |.tup l=>Dp.gA l+1
 |.lst l=>Dp.gA l+1
 |_=>0
def Dp.gA:List Dp->Nat
 |[]=>0
 |d::ds=>max d.deep (Dp.gA ds)
end
theorem aq.aZ{K:zaa}{H H':Hp}{a:zdg}{xs:List V}(e:aq H H')(h:b8 K H a xs):b8 K H' a xs:=by
 rcases h with (h |⟨o,h⟩) |h
 ·exact .inl (.inl (e _ _ h))
 ·exact .inl (.inr ⟨o,e _ _ h⟩)
 ·exact .inr h
mutual
theorem Rep.mono{K:zaa}{H H':Hp}(e:aq H H'):∀ {d:Dp} {v:V},Rep K H d v->Rep K H' d v
 |.cx,_,h=>h
 |.bl _,_,h=>h
 |.int _,_,h=>h
 |.str _,_,h=>h
 |.tup l,_,h=>by
  unfold Rep at h ⊢;obtain⟨a,xs,e1,e2,e3⟩:=h;exact⟨a,xs,e1,e.aZ e2,aI.mono e e3⟩
 |.lst l,_,h=>by
  unfold Rep at h ⊢;obtain⟨a,xs,e1,e2,e3⟩:=h;exact⟨a,xs,e1,e.seq e2,aI.mono e e3⟩
theorem aI.mono{K:zaa}{H H':Hp}(e:aq H H'):∀ {ds:List Dp} {vs:List V},aI K H ds vs->aI K H' ds vs
 |[],_,h=>h
 |d::ds,_,h=>by
  unfold aI at h ⊢;obtain⟨v,r,e1,e2,e3⟩:=h;exact⟨v,r,e1,Rep.mono e e2,aI.mono e e3⟩
end
theorem aI.length{K:zaa}{H:Hp}:∀ {ds:List Dp} {vs:List V},aI K H ds vs->vs.length=ds.length
 |[],_,h=>by unfold aI at h;rw[h];rfl
 |d::ds,_,h=>by
  unfold aI at h;obtain⟨v,r,e1,_,e3⟩:=h;rw[e1,zaf,zaf,aI.length e3]
theorem aI.get{K:zaa}{H:Hp}:∀ {ds:List Dp} {vs:List V} {i:Nat} {d:Dp},aI K H ds vs->ds[i]?=some d->∃v,vs[i]?=some v/\Rep K H d v
 |[],_,_,_,_,e=>by simp at e
 |d::ds,_,0,_,h,e=>by
  unfold aI at h;obtain⟨v,r,e1,e2,e3⟩:=h;simp only[zcN,zaT.injEq] at e;subst e;exact⟨v,by rw[e1];rfl,e2⟩
 |d::ds,_,i+1,d',h,e=>by
  unfold aI at h;obtain⟨v,r,e1,e2,e3⟩:=h;rw[zbN] at e;obtain⟨v',h1,h2⟩:=aI.get e3 e;exact⟨v',by rw[e1,zbN];exact h1,h2⟩
theorem aI.append{K:zaa}{H:Hp}:∀ {ds es:List Dp} {vs us:List V},aI K H ds vs->aI K H es us->aI K H (ds++es) (vs++us)
 |[],_,_,_,h,h'=>by unfold aI at h;rw[h];exact h'
 |d::ds,_,_,_,h,h'=>by
  unfold aI at h;obtain⟨v,r,e1,e2,e3⟩:=h;rw[e1];show aI K H (d::(ds++_)) (v::(r++_));unfold aI;exact⟨v,_,rfl,e2,aI.append e3 h'⟩
theorem aI.nil{K:zaa}{H:Hp}:aI K H [] []:=by unfold aI;rfl
theorem aI.cons{K:zaa}{H:Hp}{d:Dp}{ds:List Dp}{v:V}{vs:List V}(h:Rep K H d v)(h':aI K H ds vs):aI K H (d::ds) (v::vs):=by unfold aI;exact⟨v,vs,rfl,h,h'⟩
theorem Rep.aX{K:zaa}{H:Hp}{l:List Dp}{v:V}:Rep K H (.tup l) v↔∃a xs,v=.ref a/\b8 K H a xs/\aI K H l xs:=by unfold Rep;exact Iff.rfl
theorem Rep.bg{K:zaa}{H:Hp}{l:List Dp}{v:V}:Rep K H (.lst l) v↔∃a xs,v=.ref a/\gC K H a xs/\aI K H l xs:=by unfold Rep;exact Iff.rfl
theorem Rep.bj{K:zaa}{H:Hp}{i:Int}{v:V}:Rep K H (.int i) v↔v=.int i:=by unfold Rep;exact Iff.rfl
theorem Rep.bt{K:zaa}{H:Hp}{x:Str}{v:V}:Rep K H (.str x) v↔v=.str x:=by unfold Rep;exact Iff.rfl
theorem Rep.lH{K:zaa}{H:Hp}{b:Bool}{v:V}:Rep K H (.bl b) v↔v=.bl b:=by unfold Rep;exact Iff.rfl
theorem Rep.pC{K:zaa}{H:Hp}{v:V}:Rep K H .cx v↔v=.cx:=by unfold Rep;exact Iff.rfl
theorem aI.bN{K:zaa}{H:Hp}{vs:List V}:aI K H [] vs↔vs=[]:=by unfold aI;exact Iff.rfl
theorem aI.aB{K:zaa}{H:Hp}{d:Dp}{ds:List Dp}{vs:List V}:aI K H (d::ds) vs↔∃v r,vs=v::r/\Rep K H d v/\aI K H ds r:=by conv=>lhs;unfold aI
theorem aq.new{H:Hp}{p:zdg}(h:H p=none)(o:HO):aq H (upd H p o):=fun b u q=>by rw[aw (az q h)];exact q
section
variable{X:Cx}{pins:List (zdg×Obj)}{σ:St}{H:Hp}{s:zdq}
theorem all_true(n:Nat):(zaF n).all (fun _=>true)=true:=by simp
mutual
theorem M4(I:Inv X pins σ H s):∀ {d:Dp} {v u:V} {a b:zdh} {A:zdr},Rep X.K H d v->Rep X.K H d u->RelV v a->RelV u b->A.units+d.deep<cLine->SeqAt.EqAt A s a b true
 |.cx,v,u,a,b,A,h1,h2,r1,r2,_=>by
  rw[Rep.pC] at h1 h2;subst h1;subst h2;cases (show a=Value.none from r1);cases (show b=Value.none from r2);exact .same _
 |.bl c,v,u,a,b,A,h1,h2,r1,r2,_=>by
  rw[Rep.lH] at h1 h2;subst h1;subst h2;cases (show a=Value.bool c from r1);cases (show b=Value.bool c from r2);exact .same _
 |.int i,v,u,a,b,A,h1,h2,r1,r2,_=>by
  rw[Rep.bj] at h1 h2;subst h1;subst h2;obtain⟨t,rfl⟩:=(show ∃t,a=Value.int i t from r1)
  obtain⟨t',rfl⟩:=(show ∃t,b=Value.int i t from r2)
  have:=SeqAt.EqAt.int_int (A:=A) (s:=s) i t i t';rw[beq_self_eq_true] at this;exact this
 |.str x,v,u,a,b,A,h1,h2,r1,r2,_=>by
  rw[Rep.bt] at h1 h2;subst h1;subst h2;obtain⟨t,rfl⟩:=(show ∃t,a=Value.str x t from r1)
  obtain⟨t',rfl⟩:=(show ∃t,b=Value.str x t from r2)
  have:=SeqAt.EqAt.str_str (A:=A) (s:=s) x t x t';rw[beq_self_eq_true] at this;exact this
 |.tup l,v,u,a,b,A,h1,h2,r1,r2,hu=>by
  rw[Rep.aX] at h1 h2;obtain⟨p,xs,rfl,q1,w1⟩:=h1;obtain⟨p',xs',rfl,q2,w2⟩:=h2;cases (show a=Value.ref p from r1);cases (show b=Value.ref p' from r2);by_cases e:p=p'
  ·subst e;exact .same _
  ·obtain⟨its,v1,t1,_⟩:=I.tuple q1;obtain⟨its',v2,t2,_⟩:=I.tuple q2;unfold Dp.deep at hu;have items:=rO I w1 w2 v1 v2 (A:=A.in1) (by show A.units+1+_<_;lia);have n1:its.length=its'.length:=by rw[<- v1.length,<- v2.length,w1.length,w2.length]
   have q:=SeqAt.RcAt.tuples (A:=A) (s:=s) (e:=fun _=>true) t1 t2 (by lia) (fun j h1 h2=>items j its[j] its'[j] (by simp at h1;simp[h1]) (by simp at h2;simp[h2]));rw[all_true] at q;refine .of_refs e ?_;simpa[n1] using q
 |.lst l,v,u,a,b,A,h1,h2,r1,r2,hu=>by
  rw[Rep.bg] at h1 h2;obtain⟨p,xs,rfl,q1,w1⟩:=h1;obtain⟨p',xs',rfl,q2,w2⟩:=h2;cases (show a=Value.ref p from r1);cases (show b=Value.ref p' from r2);by_cases e:p=p'
  ·subst e;exact .same _
  ·obtain⟨its,v1,t1,_⟩:=I.list q1;obtain⟨its',v2,t2,_⟩:=I.list q2;unfold Dp.deep at hu;have items:=rO I w1 w2 v1 v2 (A:=A.in1) (by show A.units+1+_<_;lia);have n1:its.length=its'.length:=by rw[<- v1.length,<- v2.length,w1.length,w2.length]
   have q:=SeqAt.RcAt.lists (A:=A) (s:=s) (e:=fun _=>true) t1.isList t2.isList (by simpa using n1) (by lia) (fun j h1 h2=>items j its[j] its'[j] (by simp at h1;simp[h1]) (by simp at h2;simp[h2]));rw[all_true] at q;exact .of_refs e q
theorem rO(I:Inv X pins σ H s):∀ {ds:List Dp} {vs us:List V} {as bs:List zdh} {A:zdr},aI X.K H ds vs->aI X.K H ds us->Vals vs as->Vals us bs->A.units+Dp.gA ds<cLine->
 ∀(j:Nat) (a b:zdh),as[j]?=some a->bs[j]?=some b->SeqAt.EqAt A s a b true
 |[],_,_,_,_,A,h1,h2,r1,r2,_,j,a,b,e1,e2=>by
  rw[aI.bN] at h1;subst h1;cases r1;simp at e1
 |d::ds,_,_,_,_,A,h1,h2,r1,r2,hu,j,a,b,e1,e2=>by
  rw[aI.aB] at h1 h2;obtain⟨v,r,rfl,x1,y1⟩:=h1;obtain⟨v',r',rfl,x2,y2⟩:=h2;unfold Dp.gA at hu;cases r1 with
  |cons z1 t1=>
   cases r2 with
   |cons z2 t2=>
    cases j with
    |zero=>
     simp only[zcN,zaT.injEq] at e1 e2;subst e1;subst e2;exact M4 I x1 x2 z1 z2 (by lia)
    |succ j=>
     rw[zbN] at e1 e2;exact rO I y1 y2 t1 t2 (by lia) j a b e1 e2
end
end
section
variable{X:Cx}
def TM (i j:Int):Prop:=i.natAbs<2 ^ 4000/\j.natAbs<2 ^ 4000
theorem bits_le{i:Int}(h:i.natAbs<2 ^ 4000):Builtin.Int.intBits i<=2 ^ 20:=zaA (intBits_le h) (by decide)
theorem EU:nZ X (binaryOp .Mult) (rI TM fun i j=>.int (i*j)):=S9 fun _ _ _ _ _ _ _ hc q=>mul_int q (IntMulOk.of_bits (bits_le hc.1) (bits_le hc.2))
theorem Jq:jE X (.builtin "isinstance") (fun xs H Q=>∃x T t b,xs=[x,.ty T]/\tJ X.K H x t/\PySem.W.kitOne X.K t (.type T)=some b/\Q (.bl b) H):=by
 intro pins s σ H xs us Q I r h;obtain⟨x,T,t,b,rfl,ty,e,q⟩:=h;obtain⟨u1,u2,rfl,r1,r2⟩:=vals2 r;cases (show u2=Value.type T from r2);exact Gh I r1 ty e fun tk=>⟨.bl b,H,I.tok tk,rfl,q⟩
theorem Bo(hc:X.calm=true):jE X (.builtin "sum") (fun xs H Q=>∃(p:zdg) (ns:List Int),xs=[.ref p]/\gC X.K H p (ns.map V.int)/\Q (.int ns.sum) H):=by
 intro pins s σ H xs us Q I r h;obtain⟨p,ns,rfl,hl,q⟩:=h;obtain⟨u,rfl,ru⟩:=vals1 r;cases (show u=Value.ref p from ru);obtain⟨its,rv,pl,_⟩:=I.list hl;have hi:IntsAre its ns:=intsAre_of rv;obtain⟨xs,e⟩:=hi.allInts.items;have Wl:=pl.isList;have en:(numsOf its).sum=ns.sum:=by rw[hi.numsOf]
 have en':numsOf (intItems xs).toList=numsOf its:=by rw[<- e]
 rw[e] at Wl;refine sum_intListG (I.ok.hd hc) Wl fun h' tk t' hk=>?_;refine⟨.int ns.sum,H,I.kept (t':=tk) hk,⟨t',?_⟩,q⟩;rw[nums_intItems] at en';rw[preSum_eq,zbC (by simp),<- en,<- en']
end
structure cu(K:zaa)(mg:Str->Option zdh)(x:Str)(st:Stmt)(ps:List Str)(f:zdg)(fd:zdp):Prop where
 F:Im K x x st f fd
 b:Binds K fd ps []
 m:mg x=some (.ref f)
end L2
namespace L2
open PySem PySem.Spec PyProof.Rows
theorem TN{g:Int->Int->V}{i j:Int}{H:Hp}{Q:VK}:Qb g (.int i) (.int j) H Q↔Q (g i j) H:=⟨fun ⟨_,_,e1,e2,q⟩=>by cases e1;cases e2;exact q,fun q=>⟨_,_,rfl,rfl,q⟩⟩
theorem X9{C:Int->Int->Prop}{g:Int->Int->V}{i j:Int}{H:Hp}{Q:VK}:rI C g (.int i) (.int j) H Q↔C i j/\Q (g i j) H:=⟨fun ⟨_,_,e1,e2,c,q⟩=>by cases e1;cases e2;exact⟨c,q⟩,fun q=>⟨_,_,rfl,rfl,q⟩⟩
theorem Jr{a:V}{r:St}{H:Hp}{Q:VK}:(fT 0 (some a::r) H Q)=(Q a H):=rfl
theorem Js{a:Option V}{r:St}{H:Hp}{Q:VK}:(fT 1 (a::r) H Q)=(fT 0 r H Q):=rfl
theorem Jt{a:Option V}{r:St}{H:Hp}{Q:VK}:(fT 2 (a::r) H Q)=(fT 1 r H Q):=rfl
theorem Ju{a:Option V}{r:St}{H:Hp}{Q:VK}:(fT 3 (a::r) H Q)=(fT 2 r H Q):=rfl
theorem Jv{a:Option V}{r:St}{H:Hp}{Q:VK}:(fT 4 (a::r) H Q)=(fT 3 r H Q):=rfl
theorem Jw{a:Option V}{r:St}{H:Hp}{Q:VK}:(fT 5 (a::r) H Q)=(fT 4 r H Q):=rfl
theorem Jx{a:Option V}{r:St}{H:Hp}{Q:VK}:(fT 6 (a::r) H Q)=(fT 5 r H Q):=rfl
theorem Jy{a:Option V}{r:St}{H:Hp}{Q:VK}:(fT 7 (a::r) H Q)=(fT 6 r H Q):=rfl
theorem Jz{a:Option V}{r:St}{H:Hp}{Q:VK}:(fT 8 (a::r) H Q)=(fT 7 r H Q):=rfl
theorem JA{a:Option V}{r:St}{H:Hp}{Q:VK}:(fT 9 (a::r) H Q)=(fT 8 r H Q):=rfl
theorem TQ{v:V}{σ:St}{H:Hp}{Q:VK}:(tC v σ H Q)=(Q v H):=rfl
theorem OO{r:R2}{ta tb:TE}{σ:St}{H:Hp}{Q:VK}:(S8 r ta tb σ H Q)=(ta σ H fun x H1=>tb σ H1 fun y H2=>r x y H2 Q):=rfl
theorem TR{b:Bool}{p:Bool->Prop}:(∃k,V.bl b=.bl k/\p k)↔p b:=⟨fun ⟨_,e,q⟩=>by cases e;exact q,fun q=>⟨_,rfl,q⟩⟩
theorem Qz{b:Int}{p:Int->Prop}:(∃k,V.int b=.int k/\p k)↔p b:=⟨fun ⟨_,e,q⟩=>by cases e;exact q,fun q=>⟨_,rfl,q⟩⟩
theorem QA{b:zdg}{p:zdg->Prop}:(∃k,V.ref b=.ref k/\p k)↔p b:=⟨fun ⟨_,e,q⟩=>by cases e;exact q,fun q=>⟨_,rfl,q⟩⟩
theorem EW{t:TE}{σ:St}{H:Hp}{Q:Bool->Hp->Prop}:(EK t σ H Q)=(t σ H fun x H'=>∃k,x=.bl k/\Q k H'):=rfl
theorem OP{x y:V}{H:Hp}{Q:VK}:(rEq x y H Q)=(C7 x y=true/\Q (.bl (decide (x=y))) H):=rfl
theorem OQ{x y:V}{H:Hp}{Q:VK}:(rNe x y H Q)=(C7 x y=true/\Q (.bl (!decide (x=y))) H):=rfl
theorem QB{i j:Int}:(V.int i=V.int j)=(i=j):=by simp
theorem QC{i j:Str}:(V.str i=V.str j)=(i=j):=by simp
theorem M5{c:Prop}[Decidable c]{A B:Prop}:(if decide c=true then A else B)↔if c then A else B:=by simp
theorem JB{c:Prop}[Decidable c]{A B:Prop}:(if (!decide c)=true then A else B)↔if c then B else A:=by by_cases h:c<;>simp[h]
theorem ay{K:zaa}{p:zdg}{i:Int}{H:Hp}{Q:VK}{xs:List V}{v:V}(h:b8 K H p xs)(hv:tK xs i=some v)(q:Q v H):Gk K (.ref p) (.int i) H Q:=⟨p,xs,i,v,rfl,rfl,h,hv,q⟩
theorem bZ{K:zaa}{p:zdg}{i:Int}{H:Hp}{Q:VK}{xs:List V}{v:V}(h:gC K H p xs)(hv:tK xs i=some v)(q:Q v H):Qn K (.ref p) (.int i) H Q:=⟨p,xs,i,v,rfl,rfl,h,hv,q⟩
section
variable{P:zds}{w:zdi}{K:zaa}{mg:Str->Option zdh}{base:Heap}
theorem Im.lX{x qual:Str}{st:Stmt}{f:zdg}{fd:zdp}{N ps:List Str}{k:Nat}{sp:Sp}(F:Im K x qual st f fd)(S:aY N ps (aE st))(len:∀vs H Q E,sp vs H Q E->vs.length=ps.length)
 (rG:∀(eS:zdh) (A:zdr) (outer:List Env) (s:zdq) (H:Hp) (vs:List V) (Q:VK) (E:XK),gQ k (A.deeper (envOfC qual (aE st) s.heap.objs.size f eS))->sp vs H Q E->
  ∃t σ,CZ (mQ dc P w K mg base N qual (aE st) f eS A outer s H E).C1 (gJ st) t/\L2.start N vs=σ/\t {nx:=fun _ H'=>Q .cx H',rt:=Q} σ H):bB P w K mg base dc (k+1) f fd ps sp:=
 F.ok S len fun eS A outer s H vs Q E hr h=>let ⟨t,_,h1,h2,h3⟩:=rG eS A outer s H vs Q E hr h;⟨t,h1,by rw[h2];exact h3⟩
end
theorem EX{sp:Sp}{AW:List V}{E:XK}{t:TA}{σ:St}{H:Hp}{Q:VK}:(Be sp AW E t σ H Q)=(t σ H fun vs H1=>sp (vs++AW) H1 Q E):=rfl
theorem EY{ta:TE}{tr:TA}{σ:St}{H:Hp}{Q:List V->Hp->Prop}:(vX ta tr σ H Q)=(ta σ H fun x H1=>tr σ H1 fun xs H2=>Q (x::xs) H2):=rfl
theorem JC{σ:St}{H:Hp}{Q:List V->Hp->Prop}:(MM σ H Q)=(Q [] H):=rfl
theorem JD{t:TA}{σ:St}{H:Hp}{Q:VK}:(Th t σ H Q)=(t σ H fun xs H1=>xs.length<=zdo/\∀p,H1 p=none->Q (.ref p) (upd H1 p (.tup xs))):=rfl
theorem JE{t:TA}{σ:St}{H:Hp}{Q:VK}:(Ti t σ H Q)=(t σ H fun xs H1=>xs.length<=zdo/\∀p,H1 p=none->Q (.ref p) (upd H1 p (.lst xs))):=rfl
theorem M6{n:Nat}(h:n<=1000):n<=zdo:=zb6 (Gp h)
theorem Rep.new{K:zaa}{H:Hp}{p:zdg}{vs:List V}{ds:List Dp}(h:H p=none)(r:aI K H ds vs):Rep K (upd H p (.tup vs)) (.tup ds) (.ref p):=Rep.aX.mpr ⟨p,vs,rfl,.of ah,r.mono (aq.new h _)⟩
theorem Rep.Ya{K:zaa}{H:Hp}{p:zdg}{vs:List V}{ds:List Dp}(h:H p=none)(r:aI K H ds vs):Rep K (upd H p (.lst vs)) (.lst ds) (.ref p):=Rep.bg.mpr ⟨p,vs,rfl,.of ah,r.mono (aq.new h _)⟩
theorem M7{i j:Int}:C7 (.int i) (.int j)=true:=rfl
theorem M8{i j:Str}:C7 (.str i) (.str j)=true:=rfl
theorem M9{n:Nat}(h:n<=1000):(n<=zdo)=True:=eq_true (M6 h)
theorem JF{i j:Int}:(Tc i j)=(0<j/\j<1073741824):=rfl
theorem JG{CX:AV}{P:zds}{w:zdi}{K:zaa}{mg:Str->Option zdh}{base:Heap}{N:List Str}{qual:Str}{scope:Scope}{f:zdg}{cd:zdh}{A:zdr}{outer:List Env}{s:zdq}{H:Hp}{E:XK}:(mQ CX P w K mg base N qual scope f cd A outer s H E).K=K:=rfl
theorem EZ{X:Cx}{scope:Scope}{own:List Str}{ix:List Nat}{C:zdg}{s₀:zdq}{H₀:Hp}{ex:List zdg}:(kh X scope own ix C s₀ H₀ ex).K=X.K:=rfl
theorem mulR{z b:Int}(h1 : -18446744073709551616<b)(h2:b<18446744073709551616):MK z b:=.inr ⟨h1,h2⟩
theorem JH{a b:Expr}{op:Operator}{pos:Pos}:pA (.BinOp a op b pos):=fun _ _=>rfl
theorem vA{x:Str}{pos:Pos}:pA (.Name x pos):=fun _ _=>rfl
theorem ao{c:Const}{k:Nat}{pos:Pos}:pA (.Constant c k pos):=fun _ _=>rfl
theorem fK{f:Expr}{as:List Expr}{ks:List Keyword}{pos:Pos}:pA (.Call f as ks pos):=fun _ _=>rfl
theorem Bp{a:Expr}{op:UnaryOp}{pos:Pos}:pA (.UnaryOp op a pos):=fun _ _=>rfl
theorem oy{a b:Expr}{op:Operator}{pos:Pos}{es:List Expr}{env:Env}:zdm (.BinOp a op b pos::es) env=(false,eval (.BinOp a op b pos) env)::zdm es env:=rfl
theorem aJ{x:Str}{pos:Pos}{es:List Expr}{env:Env}:zdm (.Name x pos::es) env=(false,eval (.Name x pos) env)::zdm es env:=rfl
theorem aA{c:Const}{k:Nat}{pos:Pos}{es:List Expr}{env:Env}:zdm (.Constant c k pos::es) env=(false,eval (.Constant c k pos) env)::zdm es env:=rfl
theorem aV{a b:Expr}{pos:Pos}{es:List Expr}{env:Env}:zdm (.Subscript a b pos::es) env=(false,eval (.Subscript a b pos) env)::zdm es env:=rfl
theorem a7{f:Expr}{as:List Expr}{ks:List Keyword}{pos:Pos}{es:List Expr}{env:Env}:zdm (.Call f as ks pos::es) env=(false,eval (.Call f as ks pos) env)::zdm es env:=rfl
theorem TU{a:Expr}{op:UnaryOp}{pos:Pos}{es:List Expr}{env:Env}:zdm (.UnaryOp op a pos::es) env=(false,eval (.UnaryOp op a pos) env)::zdm es env:=rfl
theorem E1{a:Expr}{x:Str}{pos:Pos}{es:List Expr}{env:Env}:zdm (.Attribute a x pos::es) env=(false,eval (.Attribute a x pos) env)::zdm es env:=rfl
theorem lI{as:List Expr}{pos:Pos}{es:List Expr}{env:Env}:zdm (.List as pos::es) env=(false,eval (.List as pos) env)::zdm es env:=rfl
theorem bA{as:List Expr}{k}{pos:Pos}{es:List Expr}{env:Env}:zdm (.Tuple as k pos::es) env=(false,eval (.Tuple as k pos) env)::zdm es env:=rfl
theorem mS{a:Expr}{ops:List CmpOp}{cs:List Expr}{pos:Pos}{es:List Expr}{env:Env}:zdm (.Compare a ops cs pos::es) env=(false,eval (.Compare a ops cs pos) env)::zdm es env:=rfl
theorem hZ{a:Expr}{gs:List Comprehension}{sc:Scope}{pos:Pos}{es:List Expr}{env:Env}:zdm (.ListComp a gs sc pos::es) env=(false,eval (.ListComp a gs sc pos) env)::zdm es env:=rfl
def JI:Expr->Option V
 |.Constant (.int i) _ _=>some (.int i)
 |.Constant (.str x) _ _=>some (.str x)
 |.Constant (.bool b) _ _=>some (.bl b)
 |.Constant .none _ _=>some .cx
 |_=>none
def JJ (vs:List V):TA:=fun _ H Q=>Q vs H
theorem cg{X:Cx}:∀ {es:List Expr} {vs:List V},es.map JI=vs.map some->PA X es (JJ vs)
 |[],[],_=>ag
 |[],_::_,h=>by cases h
 |_::_,[],h=>by cases h
 |e::es,v::vs,h=>by
  rw[zaq,zaq] at h
  injection h with h1 h2
  have ih:=cg (X:=X) h2;have one:∀ {e:Expr} {v:V},PE X e (tC v)->(zdm (e::es) X.env=(false,eval e X.env)::zdm es X.env)->PA X (e::es) (JJ (v::vs)):=fun he hs pos pins s σ H Q I q=>ae he ih hs pos pins s σ H Q I q;unfold JI at h1;split at h1
  ·cases h1;exact one aj aA
  ·cases h1;exact one aW aA
  ·cases h1;exact one gy aA
  ·cases h1;exact one iM aA
  ·cases h1
theorem E2{vs:List V}{σ:St}{H:Hp}{Q:List V->Hp->Prop}:(JJ vs σ H Q)=(Q vs H):=rfl
theorem E3{td ty:TE}{σ:St}{H:Hp}{Q:VK}:(OJ td ty σ H Q)=(td σ H fun x H1=>ty σ H1 fun y H2=>∃a v,x=.ref a/\rK H2 a y (some v)/\Q v H2):=rfl
theorem Bq{σ:St}{H:Hp}{Q:VK}:(Jl σ H Q)=(∀p,H p=none->Q (.ref p) (upd H p (.dK []))):=rfl
theorem E4{td ty tv:TE}{D:Ends}{σ:St}{H:Hp}:(OL td ty tv D σ H)=(tv σ H fun v H1=>td σ H1 fun x H2=>ty σ H2 fun y H3=>∃a H4,x=.ref a/\Qx H3 a y v H4/\D.nx σ H4):=rfl
theorem OR{r:List V->Hp->VK->Prop}{t:TA}{σ:St}{H:Hp}{Q:VK}:(XT r t σ H Q)=(t σ H fun vs H1=>r vs H1 Q):=rfl
theorem TV{t:TE}{σ:St}{H:Hp}{Q:Bool->Hp->Prop}:(tB t σ H Q)=(t σ H fun x H1=>∃c,x=.bl c/\Q c H1):=rfl
theorem JK{t:TT}{σ:St}{H:Hp}{Q:Bool->Hp->Prop}:(S3 t σ H Q)=(t σ H fun c H1=>Q (!c) H1):=rfl
theorem rK.s{H:Hp}{a:zdg}{kvs:List (Key×V)}{x:Str}{v:V}(e:H a=some (.dK kvs))(h:cE kvs (Sum.inr x)=some v):rK H a (.str x) (some v):=by
 have:=rK.k (k:=Sum.inr x) e;rw[h] at this;exact this
end L2
namespace PM
abbrev W:=List Nat
inductive Tr where
 |num (n:Int) |box (x:W) |bin (o:W) (l r:Tr)
 deriving DecidableEq
end PM
namespace L2
open PySem PySem.Spec PyProof.Rows
structure TX(K:zaa)(C:zdg):Prop where
 q:zdd K C [.type "ValueError",.type "Exception",.type "BaseException",.type "object"] "ValueError.__new__"=true
section
variable{X:Cx}{pins:List (zdg×Obj)}{σ:St}{H:Hp}{s:zdq}{x:zdg}
theorem Inv.told{o:HO}(I:Inv X pins σ H s)(n:H x=none)(h0:X.s₀.heap.objs.size<=x)(hL:x≠X.env.locals)(hc:∀y c,X.env.cells.lookup y=some c->c≠x)(hp:∀p∈X.pn++pins,p.1≠x)(ok:cX X.prog X.w (upd H x o) s.heap x o):Inv X pins σ (upd H x o) s:=by
 have nx:∀b u,X.s₀.heap.get? b=some u->b≠x:=fun b u e=>zay (zaB (Heap.lt_size e) h0);refine⟨I.ok,I.os,I.bare,⟨I.base.keep,I.base.slot,fun b u e n' hx=>?_,I.base.there,fun b xs e=>?_,fun b ob u e=>?_,fun b ps e=>?_⟩,I.loc,I.cell,?_,fun y c e=>?_,fun p R9=>?_,fun b u e=>?_,I.len⟩
 ·rw[aw (nx b u e)];exact I.base.free b u e n' hx
 ·have:=I.base.vP b xs e;rw[aw (az this n)];exact this
 ·have:=I.base.vd b ob u e;rw[aw (az this n)];exact this
 ·obtain⟨m,e1⟩:=I.base.ve b ps e;exact⟨m,by rw[aw (az e1 n)];exact e1⟩
 ·rw[aw (Ne.symm hL)];exact I.free
 ·rw[aw (hc y c e)];exact I.nO y c e
 ·obtain⟨a,b,c⟩:=I.pin p R9;exact⟨a,by rw[aw (hp p R9)];exact b,c⟩
 ·by_cases hb:b=x
  ·subst hb;rw[ah] at e;cases e;exact ok
  ·rw[aw hb] at e;exact(I.cI b u e).xA (fun _ _ _ q=>q) (fun c q=>by rw[aw (az q n)];exact q) fun c xs q=>by rw[aw (az q n)];exact q
end
theorem Df{n d:Nat}(hd:d<=n)(o:Option Int):HT.gk n d o<=n:=by
 cases o with
 |none=>exact hd
 |some i=>
  show (if i<0 then (i+n).toNat else min i.toNat n)<=n;split<;>lia
section
variable{X:Cx}
theorem JL(hc:X.calm=true):jE X (.builtin "all") (fun xs H Q=>∃(p:zdg) (bs:List Bool),xs=[.ref p]/\gC X.K H p (bs.map V.bl)/\Q (.bl (bs.all id)) H):=by
 intro pins s σ H xs us Q I r h;obtain⟨p,bs,rfl,hl,q⟩:=h;obtain⟨u,rfl,ru⟩:=vals1 r;cases (show u=Value.ref p from ru);obtain⟨its,rv,pl,_⟩:=I.list hl;have rj:p<s.heap.objs.size:=by
  obtain⟨o,_,e,_⟩:=pl;exact Heap.lt_size e
 refine call_all_walk (wpAny_pyIter_list pl.isList ?_);have ne:p≠s.heap.objs.size:=zay rj;refine⟨s.heap.objs.size,_,_,_,_,_,fun i=>bs.getD i true,rfl,Walks.list (show X.A.in1.handled=none from I.ok.hd hc) _ p ne its.toArray,⟨⟨_,Heap.get?_push_size _ rfl,rfl,rfl⟩,pl.isList.push _⟩,fun i v s' Q' E' hv hq=>?_,fun h' tk hk=>?_⟩
 ·have Gf:its[i]?=some v:=by simpa using hv
  have hb:∃b,bs[i]?=some b:=by
   have:i<bs.length:=by
    have l1:=rv.length;rw[zac] at l1;have:=(zak.mp Gf).1;lia
   exact⟨bs[i],zad this⟩
  obtain⟨b,hb⟩:=hb;obtain⟨u,hu,ru⟩:=rv.get (i:=i) (x:=.bl b) (by rw[zar,hb];rfl);rw[Gf] at hu;cases hu;cases (show v=Value.bool b from ru);have e:bs.getD i true=b:=by rw[zan,hb];rfl
  have OF:Q' (bs.getD i true) s':=hq;rw[e] at OF;exact zdk OF
 ·refine⟨.bl (bs.all id),H,I.kept (h':=h') (t':=tk) (fun b o e=>hk b o ?_ (Heap.get?_push_of_some _ e)),?_,q⟩
  ·have:b≠s.heap.objs.size:=zay (Heap.lt_size e);simpa using this
  ·have ln:its.toArray.size=bs.length:=by rw[zao,<- rv.length,zac]
   show Value.bool ((zaF its.toArray.size).all fun i=>bs.getD i true)=Value.bool (bs.all id);rw[ln]
   congr 1
   have key:∀l:List Bool,((zaF l.length).all fun i=>l.getD i true)=l.all id:=fun l=>by
    rw[zb4,zbj,zbj]
    constructor
    ·intro h x hx;obtain⟨i,hi,rfl⟩:=List.getElem_of_mem hx;have:=h i (zbd.mpr hi);rw[zan,zad hi] at this;exact this
    ·intro h i hi;have hi:=zbd.mp hi;rw[zan,zad hi];exact h _ (zat hi)
   exact key bs
end
abbrev W:=PM.W
def S (w:W):Str:=⟨w.toArray⟩
theorem pW{a b:W}:S a=S b↔a=b:=⟨fun h=>by have:=congrArg (fun z:Str=>z.cps.toList) h;simpa[S] using this,fun h=>by rw[h]⟩
def ki:PM.Tr->Dp
 |.num n=>.tup [.str "number",.int n]
 |.box x=>.tup [.str "box",.str (S x)]
 |.bin o l r=>.tup [.str (S o),ki l,ki r]
def bo (p:zdg) (H H':Hp):Prop:=∀b o,b≠p->H b=some o->H' b=some o
theorem bo.refl(p:zdg)(H:Hp):bo p H H:=fun _ _ _ h=>h
theorem bo.trans{p:zdg}{H H1 H2:Hp}(a:bo p H H1)(b:bo p H1 H2):bo p H H2:=fun c o n h=>b c o n (a c o n h)
theorem bo.of{p:zdg}{H H':Hp}(s:aq H H'):bo p H H':=fun b o _ h=>s b o h
theorem bo.put{p:zdg}{H H1:Hp}(a:bo p H H1)(o:HO):bo p H (upd H1 p o):=fun b u n h=>by rw[aw n];exact a b u n h
theorem bo.new{p q:zdg}{H H1:Hp}(a:bo p H H1)(h:H1 q=none)(o:HO):bo p H (upd H1 q o):=fun b u n e=>by rw[aw (az (a b u n e) h)];exact a b u n e
theorem bo.same{p:zdg}{H H':Hp}(a:bo p H H')(h:H p=none):aq H H':=fun b o e=>a b o (az e h) e
mutual
def Dp.py:Dp->PyData
 |.cx=>.none
 |.bl b=>.bool b
 |.int i=>.int i
 |.str x=>.str x
 |.tup l=>.tuple (Dp.n9 l)
 |.lst l=>.list (Dp.n9 l)
def Dp.n9:List Dp->List PyData
 |[]=>[]
 |d::r=>d.py::Dp.n9 r
end
section
variable{X:Cx}{pins:List (zdg×Obj)}{σ:St}{H:Hp}{s:zdq}
mutual
theorem kj(I:Inv X pins σ H s):∀ {d:Dp} {v:V} {u:zdh},Rep X.K H d v->RelV v u->∃as,Reads s.heap u d.py as
 |.cx,v,u,h,r=>by rw[Rep.pC] at h;subst h;cases (show u=Value.none from r);exact⟨_,.none⟩
 |.bl b,v,u,h,r=>by rw[Rep.lH] at h;subst h;cases (show u=Value.bool b from r);exact⟨_,.bool b⟩
 |.int i,v,u,h,r=>by rw[Rep.bj] at h;subst h;obtain⟨t,rfl⟩:=(show ∃t,u=Value.int i t from r);exact⟨_,.int i t⟩
 |.str x,v,u,h,r=>by rw[Rep.bt] at h;subst h;obtain⟨t,rfl⟩:=(show ∃t,u=Value.str x t from r);exact⟨_,.str x t⟩
 |.tup l,v,u,h,r=>by
  rw[Rep.aX] at h;obtain⟨p,xs,rfl,q,w⟩:=h;cases (show u=Value.ref p from r);obtain⟨its,v1,t1,_⟩:=I.tuple q;obtain⟨as,ra⟩:=tQ I w v1;obtain⟨o,h1,h2,n,h3⟩:=t1;unfold Dp.py;exact⟨as,.tuple h1 h2 h3 (by simpa using ra)⟩
 |.lst l,v,u,h,r=>by
  rw[Rep.bg] at h;obtain⟨p,xs,rfl,q,w⟩:=h;cases (show u=Value.ref p from r);obtain⟨its,v1,t1,_⟩:=I.list q;obtain⟨as,ra⟩:=tQ I w v1;obtain⟨o,h1,h2,n,h3⟩:=t1.isList;unfold Dp.py;exact⟨_,.list h1 h2 h3 (by simpa using ra)⟩
theorem tQ(I:Inv X pins σ H s):∀ {ds:List Dp} {vs:List V} {us:List zdh},aI X.K H ds vs->Vals vs us->∃as,ReadsAll s.heap us (Dp.n9 ds) as
 |[],_,_,h,r=>by rw[aI.bN] at h;subst h;cases r;unfold Dp.n9;exact⟨_,.nil⟩
 |d::ds,_,_,h,r=>by
  rw[aI.aB] at h;obtain⟨v,vs,rfl,x,y⟩:=h;cases r with
  |cons r1 r2=>
   obtain⟨a,ra⟩:=kj I x r1;obtain⟨b,rb⟩:=tQ I y r2;unfold Dp.n9;exact⟨_,.cons ra rb⟩
end
end
section
variable{X:Cx}
def TY (K:zaa) (neg:Bool):R2:=fun x y H Q=>∃d e,Rep K H d x/\Rep K H e y/\SeqAt.shaped d.py=true/\SeqAt.shaped e.py=true/\Q (.bl (if neg then !PyData.eqv d.py e.py else PyData.eqv d.py e.py)) H
theorem QD(hu:X.A.units+64<cLine):nZ X (compareOp .NotEq) (TY X.K true):=by
 intro pins s σ H x y v u Q I rx ry h;obtain⟨d,e,h1,h2,s1,s2,q⟩:=h;obtain⟨as,ra⟩:=kj I h1 rx;obtain⟨bs,rb⟩:=kj I h2 ry;exact ne_dataH ra rb s1 s2 hu ⟨.bl (!PyData.eqv d.py e.py),H,I,rfl,q⟩
end
mutual
theorem eqv_refl:∀d:Dp,PyData.eqv d.py d.py=true
 |.cx=>rfl
 |.bl b=>by simp[Dp.py,PyData.eqv]
 |.int i=>by simp[Dp.py,PyData.eqv]
 |.str x=>by simp[Dp.py,PyData.eqv]
 |.tup l=>by simp only[Dp.py,PyData.eqv];exact tR l
 |.lst l=>by simp only[Dp.py,PyData.eqv];exact tR l
theorem tR:∀l:List Dp,PyData.eqvAll (Dp.n9 l) (Dp.n9 l)=true
 |[]=>rfl
 |d::r=>by simp only[Dp.n9,PyData.eqvAll,eqv_refl d,tR r,zck]
end
theorem ak{t u:TS}{D:Ends}{σ:St}{H:Hp}(h:∀U:St->Hp->Prop,(∀σ' H',U σ' H'↔u D σ' H')->t {D with nx:=U} σ H):MH t u D σ H:=h (u D) fun _ _=>Iff.rfl
theorem zJ{A:zdr}{k:Nat}(hr:gQ k A):A.units+64<cLine:=hr.units
end L2
namespace L2
open PySem
theorem JM{ta:TA}{g:TG}{tb:TS}{D:Ends}{σ:St}{H:Hp} (h:∀U:Int->Hp->Prop,(∀j H1,(∃W:Nat->Nat->St->Hp->Prop,(∃m,W 0 m σ H1)/\∀i m σ H,W i m σ H->
 ((CM 0 j.toNat).stop i H/\D.nx σ H)\/((CM 0 j.toNat).go i H/\∃N:St->Hp->Prop,(∀σ' H',N σ' H'->∃m',m'<m/\W (i+1) m' σ' H')/\∀x H',(CM 0 j.toNat).A9 i H x H'->g x σ H' fun σ2 H2=>tb {D with nx:=N,ct:=N,bk:=D.nx} σ2 H2))->U j H1)->
 ta σ H fun vs H1=>∃j:Int,vs=[.int j]/\-(2 ^ 62)<=j/\j<2 ^ 62/\U j H1):C5 (ED ta) g tb D σ H:=h _ fun _ _ x=>x
open PyProof.Rows PySem.Spec
section
variable{X:Cx}{pins:List (zdg×Obj)}{σ:St}{H:Hp}{s:zdq}{h':Heap}
theorem Inv.yn{t':Nat}{fp:List zdg}(I:Inv X pins σ H s)(k:∀b o,b ∉ fp->s.heap.get? b=some o->h'.get? b=some o)(hf:∀b∈fp,rC X pins H b):Inv X pins σ H {s with heap:=h',toks:=t' }:=by
 have SY:∀b u,H b=some u->b ∉ fp:=fun b u e z=>by rw[(hf b z).1] at e;cases e
 refine I.step (g':=s.gens) (d':=s.drawn) (ch:=fp) (fun b hb=>?_) (fun b o _ _ hc e _=>k b o hc e) (fun b o _ _ hc e _=>⟨o.slots,k b o hc e⟩) (fun _ _ _ _ n=>n)
  (fun b o hc e=>⟨o,k b o hc e⟩) (fun _ _ e=>e) (fun _ _ _ e=>e) (fun b ps e=>⟨#[],by rw[e];simp⟩) (fun m hm=>?_) (fun b u e=>?_) I.bare
 ·obtain⟨_,f1,_,f3,f4,f5⟩:=hf b hb;exact⟨f3,f1,f4,f5⟩
 ·obtain⟨o,es,ep,ho,r⟩:=hm;exact⟨o,es,ep,k _ o (fun z=>(hf _ z).2.1 rfl) ho,r⟩
 ·refine(I.cI b u e).xA (fun c v hc q=>k c v ?_ q) (fun _ q=>q) fun _ _ q=>q;rcases hc with z |z
  ·rw[z];exact SY b u e
  ·exact SY c _ z
end
def OS (K:zaa) (a:zdg):It:=
 ⟨fun i H=>∃xs x,gC K H a xs/\xs[i]?=some x,fun i H x H'=>∃p y,x=.ref p/\H p=none/\H'=upd H p (.tup [.int i,y])/\∀xs,gC K H a xs->xs[i]?=some y,fun i H=>∃xs,gC K H a xs/\xs.length<=i⟩
theorem Gu{P:zds}{w:zdi}{K:zaa}{elts:List Expr}{x1}{pos:Pos}(a e it:zdg)(zK:e≠it) :
 Turn P w K (.Tuple elts x1 pos) (OS K a) [e,it] e (fun i h=>(∃old,IsEnum h e it i old)/\h.IsListIter it a i) where
 mem:=by simp
 obj:=fun i h st b hb=>by
  obtain⟨⟨old,he⟩,o,eo,c,d⟩:=st;rcases zag.mp hb with rfl |hb
  ·exact⟨_,he,fun v z=>by cases (show Data.fields _=Data.cell v from z)⟩
  ·have z:b=it:=by simpa using hb
   subst z;exact⟨o,eo,fun v z=>by rw[d] at z;cases z⟩
 keep:=fun i h h' st k=>⟨st.1.elim fun old he=>⟨old,k e (by simp) _ he⟩,st.2.at fun o x=>k it (by simp) o x⟩
 item:=by
  intro X hP hw hK hc i pins s σ H E I hf st hg;subst hP hw hK;obtain⟨xs,x,hq,hx⟩:=hg;obtain⟨⟨old,he⟩,hit⟩:=st;obtain⟨its,rv,p,hz⟩:=I.list hq;obtain⟨u,hu,ru⟩:=rv.get hx;refine wpAny_pyNext_enum_item he hit p.isList (x:=u) (by simpa using hu) zK fun h' ho JN hT hsz hk=>?_;refine⟨_,rfl,?_⟩;refine wpAny_letOwnedTupleGo_enum ho fun h2 Wm sb=>?_;have TZ:e<s.heap.objs.size:=Heap.lt_size he;have T1:it<s.heap.objs.size:=by obtain⟨_,x,_⟩:=hit;exact Heap.lt_size x
  have I1:Inv X pins σ H {s with heap:=h2,toks:=s.toks+1}:=I.yn (t':=s.toks+1) (fun b o hb q=>(sb.2 b fun z=>hb (by simp[z])).trans (hk b o (fun z=>hb (by simp[z])) (fun z=>hb (by simp[z])) q)) hf;have fr:H s.heap.objs.size=none:=I.cI.fresh (zaj _);obtain⟨g0,g1,g2,g3,g4,g5⟩:=I.F8 (zaj _) fr;have Yb:h2.get? s.heap.objs.size=some {cls:=.type "tuple",data:=.seq #[.int i s.toks,u]}:=(sb.2 _ (zbK TZ)).trans hT;have I2:=I1.told (o:=.tup [.int i,x]) fr I.sz g1 g4 g5 ⟨(show (2:Nat)<=zdo by decide),[.int i s.toks,u],.cons ⟨_,rfl⟩ (.cons ru .nil),⟨_,Yb,rfl,_,rfl⟩⟩;refine⟨.ref s.heap.objs.size,_,I2,rfl,⟨_,x,rfl,fr,rfl,fun ys hy=>by rw[I.A6 hy hq];exact hx⟩,⟨⟨_,by exact_mod_cast Wm⟩,JN.at fun o q=>(sb.2 it (Ne.symm zK)).trans q⟩,fun b hb=>?_⟩;rw[aw ?_]
  ·exact(hf b hb).1
  ·rcases zag.mp hb with rfl |hb
   ·exact zay TZ
   ·have z:b=it:=by simpa using hb
    subst z;exact zay T1
 done:=by
  intro X hP hw hK hc i pins s σ H E I hf st hg;subst hP hw hK;obtain⟨xs,hq,hx⟩:=hg;obtain⟨⟨old,he⟩,hit⟩:=st;obtain⟨its,rv,p,hz⟩:=I.list hq;have hl:=rv.length;exact wpAny_pyNext_enum_end (I.ok.hd hc) he hit p.isList (by simp;lia) fun h' eb=>⟨rfl,I.yn (t':=s.toks) (fun b o hb q=>eb b o (fun z=>hb (by simp[z])) q) hf⟩
 self:=fun _ _ _ _ _ st h=>st.1.elim fun _ he=>wpAny_pyIter_enum he h
def OT (K:zaa) (ta:TA):TI:=fun σ H R=>ta σ H fun vs H1=>∃a,vs=[.ref a]/\(∃xs,gC K H1 a xs)/\R (OS K a) H1
theorem E5{X:Cx}{elts:List Expr}{x1}{tp:Pos}{a:Expr}{ta:TA}{p pos:Pos}(hg:Gl X "enumerate")(hm:X.mg "enumerate"=none)(ha:PA X [a] ta)(hs:zdm [a] X.env=[(false,eval a X.env)]:=by rfl) :
 PI X (.Tuple elts x1 tp) (.Call (.Name "enumerate" p) [a] [] pos) (OT X.K ta):=by
 intro pins s σ H R I h;refine Call_ (oh I hg hm PyProof.Rows.Boot.«enumerate» (za9 (dU (ha pos pins s σ H _ I h) fun us s1 zqz=>?_) hs rfl));obtain⟨vs,H1,I1,r1,q1⟩:=zqz;obtain⟨l,e,⟨xs,hq⟩,q⟩:=q1;subst e;cases r1 with
 |cons r rr=>
  cases rr;cases (show _=Value.ref l from r);obtain⟨its,rv,p,hz⟩:=I1.list hq;refine call_enumerate_list p.isList fun h' he hit hsz hk=>?_;refine wpAny_pyIter_enum he ?_;have fr:∀b,s1.heap.objs.size<=b->H1 b=none:=fun b hb=>I1.cI.fresh hb;refine⟨s1.heap.objs.size+1,[s1.heap.objs.size+1,s1.heap.objs.size],_,_,H1,rfl,I1.kept (t':=s1.toks) hk,Gu l _ _ (Nat.succ_ne_self _),⟨⟨_,he⟩,hit⟩,fun b hb=>?_,q⟩;have xE:s1.heap.objs.size<=b:=by
   rcases zag.mp hb with rfl |hb
   ·exact Nat.le_succ _
   ·have z:b=s1.heap.objs.size:=by simpa using hb
    rw[z];exact zaj _
  exact I1.F8 xE (fr b xE)
theorem Br{K:zaa}{a:zdg}{xs:List V}{g:TG}{tb:TS}{D:Ends}{σ:St}{H:Hp}(Pv:Nat->St->Hp->Prop)(h0:Pv 0 σ H)(hl:∀i σ H,i<=xs.length->Pv i σ H->gC K H a xs)
 (hs:∀i x σ H p,xs[i]?=some x->Pv i σ H->H p=none->g (.ref p) σ (upd H p (.tup [.int i,x])) fun σ2 H2=>tb {D with nx:=Pv (i+1),ct:=Pv (i+1),bk:=D.nx} σ2 H2) (hd:∀σ H,Pv xs.length σ H->D.nx σ H) :
 ∃W:Nat->Nat->St->Hp->Prop,(∃m,W 0 m σ H)/\∀i m σ H,W i m σ H->
  ((OS K a).stop i H/\D.nx σ H)\/((OS K a).go i H/\∃N:St->Hp->Prop,(∀σ' H',N σ' H'->∃m',m'<m/\W (i+1) m' σ' H')/\∀x H',(OS K a).A9 i H x H'->g x σ H' fun σ2 H2=>tb {D with nx:=N,ct:=N,bk:=D.nx} σ2 H2):=by
 refine⟨fun i m σ H=>m=xs.length-i/\i<=xs.length/\Pv i σ H,⟨xs.length,by simp,za2 _,h0⟩,?_⟩
 rintro i m σ H ⟨rfl,hi,p⟩
 have q:=hl i σ H hi p;by_cases rj:i<xs.length
 ·refine .inr ⟨⟨xs,xs[i],q,by simp[rj]⟩,Pv (i+1),fun σ' H' p'=>⟨xs.length-(i+1),by lia,rfl,rj,p'⟩,fun x H' y=>?_⟩;obtain⟨pp,v,rfl,hn,rfl,y⟩:=y;exact hs i v σ H pp (y xs q) p hn
 ·have e:i=xs.length:=by lia
  subst e;exact .inl ⟨⟨xs,q,zaj _⟩,hd σ H p⟩
theorem g7{X:Cx}:jE X (.type "int") (fun xs H Q=>∃b:Bool,xs=[.bl b]/\Q (.int (if b then 1 else 0)) H):=by
 intro pins s σ H xs us Q I r h;obtain⟨b,rfl,q⟩:=h;obtain⟨u,rfl,ru⟩:=vals1 r;cases (show u=Value.bool b from ru);exact PySem.call_int_bool ⟨.int (if b then 1 else 0),H,I.tok _,⟨_,rfl⟩,q⟩
open PySem.SeqAt
theorem lY{X:Cx}(hu:X.A.units+1<cLine):nZ X (compareOp .NotEq) (fun x y H Q=>∃a b xs,x=.ref a/\y=.ref b/\gC X.K H a xs/\gC X.K H b []/\Q (.bl (!xs.isEmpty)) H):=by
 intro pins s σ H x y v u Q I rx ry h;obtain⟨a,b,xs,rfl,rfl,h1,h2,q⟩:=h;cases (show v=Value.ref a from rx);cases (show u=Value.ref b from ry);obtain⟨its,v1,p1,_⟩:=I.list h1;obtain⟨its',v2,p2,_⟩:=I.list h2;cases v2;cases xs with
 |nil=>
  cases v1;exact(RcNeAt.lists (e:=fun _=>true) p1.isList p2.isList rfl (by lia) (fun j h1=>absurd h1 (by simp))) _ _ _ _ ⟨.bl false,H,I,rfl,q⟩
 |cons z zs=>
  cases v1;exact(RcNeAt.lists_lengths p1.isList p2.isList (by simp) (by lia)) _ _ _ _ ⟨.bl true,H,I,rfl,q⟩
theorem zL{K:zaa}{H:Hp}{α:Type}{f:α->Dp}:∀ {l:List α} {vs:List V} {i:Nat} {v:V},aI K H (l.map f) vs->vs[i]?=some v->∃x,l[i]?=some x/\Rep K H (f x) v
 |[],vs,i,v,h,e=>by
  rw[zaP,aI.bN] at h;subst h;cases e
 |x::l,vs,i,v,h,e=>by
  rw[zaq,aI.aB] at h;obtain⟨u,r,rfl,a,b⟩:=h;cases i with
  |zero=>cases e;exact⟨x,rfl,a⟩
  |succ i=>exact zL (l:=l) b (show r[i]?=some v from e)
def bX (val:W->Int):PM.Tr->Int
 |.num n=>n
 |.box x=>val x
 |.bin o l r=>if o=[43] then bX val l+bX val r else if o=[45] then bX val l-bX val r else bX val l*bX val r
theorem dN{K:zaa}{tl:TE}{g:TG}{tb:TS}{D:Ends}{σ:St}{H:Hp} (h:∀U:zdg->Hp->Prop,(∀a H1,(∃W:Nat->Nat->St->Hp->Prop,(∃m,W 0 m σ H1)/\∀i m σ H,W i m σ H->
 ((F9 K a).stop i H/\D.nx σ H)\/((F9 K a).go i H/\∃N:St->Hp->Prop,(∀σ' H',N σ' H'->∃m',m'<m/\W (i+1) m' σ' H')/\∀x H',(F9 K a).A9 i H x H'->g x σ H' fun σ2 H2=>tb {D with nx:=N,ct:=N,bk:=D.nx} σ2 H2))->U a H1)->
 tl σ H fun x H1=>∃a,x=.ref a/\(∃xs,gC K H1 a xs)/\U a H1):C5 (EC K tl) g tb D σ H:=h _ fun _ _ x=>x
theorem E6{a:Option V}{r:St}{H:Hp}{Q:VK}:(fT 10 (a::r) H Q)=(fT 9 r H Q):=rfl
theorem E7{a:Option V}{r:St}{H:Hp}{Q:VK}:(fT 11 (a::r) H Q)=(fT 10 r H Q):=rfl
theorem E8{a:Option V}{r:St}{H:Hp}{Q:VK}:(fT 12 (a::r) H Q)=(fT 11 r H Q):=rfl
end L2
namespace PG
open PM (W Tr)
structure gF where
 name:W
 size:Int
 first:Int
inductive bq where
 |ask (k:Int) (b:W)
 |put (k:Int) (b:W) (e:Tr)
 |say (k:Int) (e:Tr)
 |bW (k:Int) (sg:W) (l r:Tr)
 |stop (k:Int)
 |ifs (k:Int) (sg:W) (l r:Tr) (a b:List bq)
 |eU (k:Int) (sg:W) (l r:Tr) (a:List bq)
def bq.row:bq->Int
 |.ask k _=>k |.put k _ _=>k |.say k _=>k |.bW k _ _ _=>k |.stop k=>k |.ifs k _ _ _ _ _=>k |.eU k _ _ _ _=>k
inductive Wd where
 |ask |put |say |bW |stop |ifs |eU |Na |fin
 deriving DecidableEq
def bq.wd:bq->Wd
 |.ask _ _=>.ask |.put _ _ _=>.put |.say _ _=>.say |.bW _ _ _ _=>.bW |.stop _=>.stop |.ifs _ _ _ _ _ _=>.ifs |.eU _ _ _ _ _=>.eU
def pick {α:Type} (d:α) (l:List α) (n:Int):α:=l.getD n.toNat d
def CN:List W:=[[60],[61]]
abbrev Row:=Int×Wd
structure Prog where
 ax:List gF
 body:List bq
end PG
namespace PG
open PM (W Tr)
mutual
def gB:bq->List Row
 |.ifs k _ _ _ a b=>(k,.ifs)::(cU a++cU b)
 |.eU k _ _ _ a=>(k,.eU)::cU a
 |.ask k _=>[(k,.ask)]
 |.put k _ _=>[(k,.put)]
 |.say k _=>[(k,.say)]
 |.bW k _ _ _=>[(k,.bW)]
 |.stop k=>[(k,.stop)]
def cU:List bq->List Row
 |[]=>[]
 |s::r=>gB s++cU r
end
def plainRow (r:Row):Bool:=decide (r.2≠.Na/\r.2≠.fin)
end PG
namespace PG
open PM (W Tr)
abbrev cB:=Int×Wd×List Int
def bK:List bq->Int->Int
 |[],x=>x
 |s::_,_=>s.row
mutual
def dy:bq->Int->List cB
 |.ifs k _ _ _ a b,x=>(k,.ifs,[bK a x,bK b x])::(aP a x++aP b x)
 |.eU k _ _ _ a,x=>(k,.eU,[bK a k,x])::aP a k
 |.ask k _,x=>[(k,.ask,[x])]
 |.put k _ _,x=>[(k,.put,[x])]
 |.say k _,x=>[(k,.say,[x])]
 |.bW k _ _ _,x=>[(k,.bW,[x])]
 |.stop k,_=>[(k,.stop,[0])]
def aP:List bq->Int->List cB
 |[],_=>[]
 |s::r,x=>dy s (bK r x)++aP r x
end
mutual
theorem Gv:∀(s:bq) (x:Int),(dy s x).map (fun r=>(r.1,r.2.1))=gB s
 |.ifs k _ _ _ a b,x=>by simp[dy,gB,cZ a x,cZ b x]
 |.eU k _ _ _ a,x=>by simp[dy,gB,cZ a k]
 |.ask k _,x=>rfl
 |.put k _ _,x=>rfl
 |.say k _,x=>rfl
 |.bW k _ _ _,x=>rfl
 |.stop k,_=>rfl
theorem cZ:∀(b:List bq) (x:Int),(aP b x).map (fun r=>(r.1,r.2.1))=cU b
 |[],_=>rfl
 |s::r,x=>by simp[aP,cU,Gv s _,cZ r x]
end
inductive Tg where
 |row (k:Int) |side (k:Int) (b:Bool) |bW (k:Int) |fin
 deriving DecidableEq
def Sb (r:Row):List Tg:=(if plainRow r then [.row r.1] else [])++(if r.2=.ifs\/r.2=.eU then [.side r.1 true,.side r.1 false] else [])++(if r.2=.bW then [.bW r.1] else [])
def Bs (rows:List Row):List Tg:=rows.flatMap Sb++[.fin]
end PG
namespace PG
open PM (W Tr)
mutual
def kM:bq->Nat
 |.ifs _ _ _ _ a b=>max (fU a) (fU b)+1
 |.eU _ _ _ _ a=>fU a+1
 |_=>0
def fU:List bq->Nat
 |[]=>0
 |s::r=>max (kM s) (fU r)
end
theorem rP:∀a b:List bq,fU (a++b)=max (fU a) (fU b)
 |[],b=>by simp[fU]
 |s::r,b=>by
  show fU (s::(r++b))=_;rw[fU,fU,rP r b,Nat.max_assoc]
theorem wj(s:bq):fU [s]=kM s:=by rw[fU,fU];simp
end PG
namespace PG
open PM (W Tr)
section
variable(nm:W->Prop)(ex:Tr->Prop)(sg:W->Prop)
mutual
def tj:bq->Prop
 |.ask _ b=>nm b
 |.put _ b e=>nm b/\ex e
 |.say _ e=>ex e
 |.bW _ s l r=>sg s/\ex l/\ex r
 |.stop _=>True
 |.ifs _ s l r a b=>sg s/\ex l/\ex r/\vh a/\vh b
 |.eU _ s l r a=>sg s/\ex l/\ex r/\vh a
def vh:List bq->Prop
 |[]=>True
 |s::r=>tj s/\vh r
end
end
def mL:Tr->Nat
 |.bin _ l r=>max (mL l) (mL r)+1
 |_=>0
mutual
theorem Bt:∀(s:bq) (r:Row),r∈gB s->r.2≠.Na/\r.2≠.fin
 |.ifs k _ _ _ a b,r,h=>by
  rw[gB] at h;simp only[zag,zah] at h;rcases h with rfl |h |h
  ·simp
  ·exact jg a r h
  ·exact jg b r h
 |.eU k _ _ _ a,r,h=>by
  rw[gB] at h;simp only[zag] at h;rcases h with rfl |h
  ·simp
  ·exact jg a r h
 |.ask k _,r,h=>by simp[gB] at h;subst h;simp
 |.put k _ _,r,h=>by simp[gB] at h;subst h;simp
 |.say k _,r,h=>by simp[gB] at h;subst h;simp
 |.bW k _ _ _,r,h=>by simp[gB] at h;subst h;simp
 |.stop k,r,h=>by simp[gB] at h;subst h;simp
theorem jg:∀(b:List bq) (r:Row),r∈cU b->r.2≠.Na/\r.2≠.fin
 |[],r,h=>by simp[cU] at h
 |s::t,r,h=>by
  rw[cU,zah] at h;rcases h with h |h
  ·exact Bt s r h
  ·exact jg t r h
end
def JO (r:cB):List Tg:=Sb (r.1,r.2.1)
theorem Nb(b:List bq)(x:Int):(aP b x).flatMap JO=(cU b).flatMap Sb:=by
 rw[<- cZ b x,List.flatMap_map];rfl
theorem Bu(b:List bq)(x:Int)(r:cB)(h:r∈aP b x):r.2.1≠.Na/\r.2.1≠.fin:=by
 have:=jg b (r.1,r.2.1) (by rw[<- cZ b x];exact zau.mpr ⟨r,h,rfl⟩);exact this
theorem Nc(r:Row):(Sb r).length<=3:=by
 obtain⟨k,w⟩:=r;cases w<;>simp[Sb,plainRow]
end PG
namespace PG
open PM (W Tr)
mutual
def iG:bq->List bq
 |.ifs k sg l r a b=>.ifs k sg l r a b::(av a++av b)
 |.eU k sg l r a=>.eU k sg l r a::av a
 |s=>[s]
def av:List bq->List bq
 |[]=>[]
 |s::r=>iG s++av r
end
mutual
theorem Gw:∀s:bq,(iG s).map (fun x=>(x.row,x.wd))=gB s
 |.ifs k sg l r a b=>by
  rw[iG,gB,zaq,zas,eJ a,eJ b];rfl
 |.eU k sg l r a=>by
  rw[iG,gB,zaq,eJ a];rfl
 |.ask k _=>rfl
 |.put k _ _=>rfl
 |.say k _=>rfl
 |.bW k _ _ _=>rfl
 |.stop k=>rfl
theorem eJ:∀b:List bq,(av b).map (fun x=>(x.row,x.wd))=cU b
 |[]=>rfl
 |s::r=>by simp[av,cU,Gw s,eJ r]
end
end PG
namespace PG
open PM (W Tr)
theorem JP{α:Type}(d:α){l:List α}{i:Int}(h0:0<=i)(h1:i<l.length):pick d l i∈l:=by
 unfold pick;have lt:i.toNat<l.length:=by lia
 rw[zan,zad lt];exact zat lt
section
variable{nm:W->Prop}{ex:Tr->Prop}{sg:W->Prop}
mutual
theorem Nd:∀(s x:bq),tj nm ex sg s->x∈iG s->tj nm ex sg x
 |.ifs k s l r a b,x,h,m=>by
  rw[iG] at m;rcases zag.mp m with rfl |m
  ·exact h
  ·rw[tj] at h;rcases zah.mp m with m |m
   ·exact iZ a x h.2.2.2.1 m
   ·exact iZ b x h.2.2.2.2 m
 |.eU k s l r a,x,h,m=>by
  rw[iG] at m;rcases zag.mp m with rfl |m
  ·exact h
  ·rw[tj] at h;exact iZ a x h.2.2.2 m
 |.ask k b,x,h,m=>by simp only[iG,zap] at m;subst m;exact h
 |.put k b e,x,h,m=>by simp only[iG,zap] at m;subst m;exact h
 |.say k e,x,h,m=>by simp only[iG,zap] at m;subst m;exact h
 |.bW k s l r,x,h,m=>by simp only[iG,zap] at m;subst m;exact h
 |.stop k,x,h,m=>by simp only[iG,zap] at m;subst m;exact h
theorem iZ:∀(b:List bq) (x:bq),vh nm ex sg b->x∈av b->tj nm ex sg x
 |[],x,_,m=>by simp[av] at m
 |s::r,x,h,m=>by
  rw[av] at m;rw[vh] at h;rcases zah.mp m with m |m
  ·exact Nd s x h.1 m
  ·exact iZ r x h.2 m
end
end
end PG
namespace PG
open PM (W Tr)
def kP (bs:List gF):Tr->Prop
 |.num n=>0<=n/\n<1000
 |.box x=>x∈bs.map (·.name)
 |.bin o l r=>o∈([[43],[45],[42]]:List W)/\kP bs l/\kP bs r
end PG
namespace PG
def mT (r:cB):Prop:=0<r.2.2.length/\(r.2.1=.ifs\/r.2.1=.eU->1<r.2.2.length)
mutual
theorem Gx:∀(s:bq) (x:Int),∀r∈dy s x,mT r
 |.ifs k sg l r a b,x,y,h=>by
  rw[dy] at h;simp only[zag,zah] at h;rcases h with rfl |h |h
  ·simp[mT]
  ·exact iP a x y h
  ·exact iP b x y h
 |.eU k sg l r a,x,y,h=>by
  rw[dy] at h;simp only[zag] at h;rcases h with rfl |h
  ·simp[mT]
  ·exact iP a k y h
 |.ask k _,x,y,h=>by simp[dy] at h;subst h;simp[mT]
 |.put k _ _,x,y,h=>by simp[dy] at h;subst h;simp[mT]
 |.say k _,x,y,h=>by simp[dy] at h;subst h;simp[mT]
 |.bW k _ _ _,x,y,h=>by simp[dy] at h;subst h;simp[mT]
 |.stop k,x,y,h=>by simp[dy] at h;subst h;simp[mT]
theorem iP:∀(b:List bq) (x:Int),∀r∈aP b x,mT r
 |[],x,y,h=>by simp[aP] at h
 |s::r,x,y,h=>by
  rw[aP,zah] at h;rcases h with h |h
  ·exact Gx s _ y h
  ·exact iP r x y h
end
end PG
namespace PG
theorem oA:∀(b:List bq) (x:Int),bK b x=x\/∃t∈av b,t.row=bK b x
 |[],x=>.inl rfl
 |s::r,x=>.inr ⟨s,by rw[av];exact zbW _ (by cases s<;>simp[iG]),rfl⟩
mutual
theorem JQ:∀(s:bq) (x:Int),∀r∈dy s x,∀w∈r.2.2,w=0\/w=x\/∃t∈iG s,t.row=w
 |.ifs k sg l r a b,x,y,h,w,hw=>by
  rw[dy] at h;simp only[zag,zah] at h;rw[iG];rcases h with rfl |h |h
  ·simp only[zag,List.mem_nil_iff,or_false] at hw;rcases hw with rfl |rfl
   ·rcases oA a x with e |⟨t,ht,e⟩
    ·exact .inr (.inl e)
    ·exact .inr (.inr ⟨t,by simp[ht],e⟩)
   ·rcases oA b x with e |⟨t,ht,e⟩
    ·exact .inr (.inl e)
    ·exact .inr (.inr ⟨t,by simp[ht],e⟩)
  ·rcases oB a x y h w hw with e |e |⟨t,ht,e⟩
   ·exact .inl e
   ·exact .inr (.inl e)
   ·exact .inr (.inr ⟨t,by simp[ht],e⟩)
  ·rcases oB b x y h w hw with e |e |⟨t,ht,e⟩
   ·exact .inl e
   ·exact .inr (.inl e)
   ·exact .inr (.inr ⟨t,by simp[ht],e⟩)
 |.eU k sg l r a,x,y,h,w,hw=>by
  rw[dy] at h;simp only[zag] at h;rw[iG];have self:w=k->∃t∈(bq.eU k sg l r a::av a),t.row=w:=fun e=>⟨_,zav ..,e.symm⟩
  rcases h with rfl |h
  ·simp only[zag,List.mem_nil_iff,or_false] at hw;rcases hw with rfl |rfl
   ·rcases oA a k with e |⟨t,ht,e⟩
    ·exact .inr (.inr (self e))
    ·exact .inr (.inr ⟨t,by simp[ht],e⟩)
   ·exact .inr (.inl rfl)
  ·rcases oB a k y h w hw with e |e |⟨t,ht,e⟩
   ·exact .inl e
   ·exact .inr (.inr (self e))
   ·exact .inr (.inr ⟨t,by simp[ht],e⟩)
 |.ask k _,x,y,h,w,hw=>by simp[dy] at h;subst h;simp at hw;exact .inr (.inl hw)
 |.put k _ _,x,y,h,w,hw=>by simp[dy] at h;subst h;simp at hw;exact .inr (.inl hw)
 |.say k _,x,y,h,w,hw=>by simp[dy] at h;subst h;simp at hw;exact .inr (.inl hw)
 |.bW k _ _ _,x,y,h,w,hw=>by simp[dy] at h;subst h;simp at hw;exact .inr (.inl hw)
 |.stop k,x,y,h,w,hw=>by simp[dy] at h;subst h;simp at hw;exact .inl hw
theorem oB:∀(b:List bq) (x:Int),∀r∈aP b x,∀w∈r.2.2,w=0\/w=x\/∃t∈av b,t.row=w
 |[],x,y,h,_,_=>by simp[aP] at h
 |s::r,x,y,h,w,hw=>by
  rw[aP,zah] at h;rw[av];rcases h with h |h
  ·rcases JQ s _ y h w hw with e |e |⟨t,ht,e⟩
   ·exact .inl e
   ·rcases oA r x with e2 |⟨t,ht,e2⟩
    ·exact .inr (.inl (e.trans e2))
    ·exact .inr (.inr ⟨t,zaM _ ht,e2.trans e.symm⟩)
   ·exact .inr (.inr ⟨t,zbW _ ht,e⟩)
  ·rcases oB r x y h w hw with e |e |⟨t,ht,e⟩
   ·exact .inl e
   ·exact .inr (.inl e)
   ·exact .inr (.inr ⟨t,zaM _ ht,e⟩)
end
def Nf (b:List bq) (row:Int):Nat:=(av b).findIdx (fun s=>s.row==row)
theorem E9{b:List bq}(pw:(av b).Pairwise (fun a b=>a.row<b.row))(i:Nat)(hi:i<(av b).length):Nf b (av b)[i].row=i:=by
 unfold Nf;rw[List.findIdx_eq hi];refine⟨by simp,fun j hj=>?_⟩;have:=zbH.mp pw j i (by lia) hi hj;simp only[beq_eq_false_iff_ne,ne_eq];lia
end PG
namespace L2
open PG
open PySem
def lT:Wd->Str
 |.ask=>"ask" |.put=>"put" |.say=>"say" |.bW=>"must" |.stop=>"stop" |.ifs=>"if" |.eU=>"while" |.Na=>"else" |.fin=>"end"
mutual
def dO:bq->Dp
 |.ask k b=>.tup [.str "ask",.int k,.str (S b)]
 |.put k b e=>.tup [.str "put",.int k,.str (S b),ki e]
 |.say k e=>.tup [.str "say",.int k,ki e]
 |.bW k sg l r=>.tup [.str "must",.int k,.str (S sg),ki l,ki r]
 |.stop k=>.tup [.str "stop",.int k]
 |.ifs k sg l r a b=>.tup [.str "if",.int k,.str (S sg),ki l,ki r,.lst (zM a),.lst (zM b)]
 |.eU k sg l r a=>.tup [.str "while",.int k,.str (S sg),ki l,ki r,.lst (zM a)]
def zM:List bq->List Dp
 |[]=>[]
 |s::r=>dO s::zM r
end
theorem cF:∀l:List bq,zM l=l.map dO
 |[]=>rfl
 |s::r=>by rw[zM,cF r];rfl
def iJ (b:gF):Dp:=.tup [.str (S b.name),.int b.size,.int b.first]
def gD (p:PG.Prog):Dp:=.tup [.lst (p.ax.map iJ),.lst (p.body.map dO)]
def gR:Tg->Dp
 |.row k=>.tup [.str "row",.int k]
 |.side k b=>.tup [.str "side",.int k,.bl b]
 |.bW k=>.tup [.str "must",.int k]
 |.fin=>.tup [.str "end"]
def aU (O:zdg->Prop) (H H':Hp):Prop:=∀b o,¬O b->H b=some o->H' b=some o
def Fix (K:zaa) (O:zdg->Prop) (H:Hp) (d:Dp) (v:V):Prop:=∀H',aU O H H'->Rep K H' d v
def eX (K:zaa) (O:zdg->Prop) (H:Hp) (ds:List Dp) (vs:List V):Prop:=∀H',aU O H H'->aI K H' ds vs
section
variable{K:zaa}{O O':zdg->Prop}{H H1 H2:Hp}{d:Dp}{ds:List Dp}{v:V}{vs:List V}{p:zdg}{o:HO}
theorem aU.refl:aU O H H:=fun _ _ _ e=>e
theorem aU.trans(a:aU O H H1)(b:aU O H1 H2):aU O H H2:=fun c u n e=>b c u n (a c u n e)
theorem aU.of(s:aq H H1):aU O H H1:=fun b u _ e=>s b u e
theorem aU.mono(a:aU O H H1)(i:∀b,O b->O' b):aU O' H H1:=fun b u n e=>a b u (fun z=>n (i b z)) e
theorem aU.one(a:bo p H H1)(hp:O p):aU O H H1:=fun b u n e=>a b u (fun z=>n (by rw[z];exact hp)) e
theorem aU.put(a:aU O H H1)(hp:O p)(u:HO):aU O H (upd H1 p u):=fun b w n e=>by rw[aw (fun z=>n (by rw[z];exact hp))];exact a b w n e
theorem Fix.up(f:Fix K O H d v)(u:aU O H H1):Fix K O H1 d v:=fun H2 u2=>f H2 (u.trans u2)
theorem eX.up(f:eX K O H ds vs)(u:aU O H H1):eX K O H1 ds vs:=fun H2 u2=>f H2 (u.trans u2)
theorem Fix.rep(f:Fix K O H d v):Rep K H d v:=f H .refl
theorem eX.Bv(f:eX K O H ds vs):aI K H ds vs:=f H .refl
theorem Fix.sub(f:Fix K O H d v)(i:∀b,O' b->O b):Fix K O' H d v:=fun H2 u=>f H2 (u.mono i)
theorem eX.nil:eX K O H [] []:=fun _ _=>.nil
theorem eX.cons(a:Fix K O H d v)(b:eX K O H ds vs):eX K O H (d::ds) (v::vs):=fun H2 u=>.cons (a H2 u) (b H2 u)
theorem eX.snoc(b:eX K O H ds vs)(a:Fix K O H d v):eX K O H (ds++[d]) (vs++[v]):=fun H2 u=>(b H2 u).append (.cons (a H2 u) .nil)
theorem Fix.int{i:Int}:Fix K O H (.int i) (.int i):=fun _ _=>Rep.bj.mpr rfl
theorem Fix.str{x:Str}:Fix K O H (.str x) (.str x):=fun _ _=>Rep.bt.mpr rfl
theorem Fix.bl{x:Bool}:Fix K O H (.bl x) (.bl x):=fun _ _=>Rep.lH.mpr rfl
theorem Fix.tup(h:H p=some (.tup vs))(n:¬O p)(f:eX K O H ds vs):Fix K O H (.tup ds) (.ref p):=fun H2 u=>Rep.aX.mpr ⟨p,vs,rfl,.of (u p _ n h),f H2 u⟩
theorem Fix.lst(h:H p=some (.lst vs))(n:¬O p)(f:eX K O H ds vs):Fix K O H (.lst ds) (.ref p):=fun H2 u=>Rep.bg.mpr ⟨p,vs,rfl,.of (u p _ n h),f H2 u⟩
end
end L2
namespace L2
open PG
open PySem
theorem Fb{a:Option V}{r:St}{H:Hp}{Q:VK}:(fT 13 (a::r) H Q)=(fT 12 r H Q):=rfl
theorem Fc{a:Option V}{r:St}{H:Hp}{Q:VK}:(fT 14 (a::r) H Q)=(fT 13 r H Q):=rfl
def kl (K:zaa) (O:zdg->Prop) (H:Hp) (B:zdg) (bs:List gF):Prop:=Fix K O H (.lst (bs.map iJ)) (.ref B)/\bs.length<=10
def Own (K:zaa) (H0 H:Hp) (d:Dp) (v:V):Prop:=∀O:zdg->Prop,(∀b,O b->H0 b≠none)->Fix K O H d v
section
variable{K:zaa}{O:zdg->Prop}{H0 H H1:Hp}{d:Dp}{v:V}{D B:zdg}{bs:List gF}
theorem Own.up(f:Own K H0 H d v)(u:bo D H H1)(hD:H0 D≠none):Own K H0 H1 d v:=fun O hO=>by
 have:=f (fun b=>O b\/b=D) (fun b hb=>hb.elim (hO b) (fun e=>e▸hD));exact(this.up (aU.one u (.inr rfl))).sub fun b hb=>.inl hb
theorem Own.back{H00:Hp}(f:Own K H0 H d v)(h:∀b,H00 b≠none->H0 b≠none):Own K H00 H d v:=fun O hO=>f O fun b hb=>h b (hO b hb)
theorem kl.up(f:kl K (·=D) H B bs)(u:bo D H H1):kl K (·=D) H1 B bs:=⟨f.1.up (aU.one u rfl),f.2⟩
theorem kl.same(f:kl K (·=D) H B bs)(s:aq H H1):kl K (·=D) H1 B bs:=⟨f.1.up (.of s),f.2⟩
theorem bo.oC(u:bo D H H1)(hD:H1 D≠none):∀b,H b≠none->H1 b≠none:=fun b hb=>by
 by_cases e:b=D
 ·rw[e];exact hD
 ·cases z:H b with
  |none=>exact absurd z hb
  |some o=>rw[u b o e z];simp
theorem kl.list(f:kl K O H B bs):∃xs,gC K H B xs/\xs.length=bs.length/\∀(i:Nat) (b:gF),bs[i]?=some b->∃a ys,xs[i]?=some (.ref a)/\b8 K H a ys/\ys=[.str (S b.name),.int b.size,.int b.first]:=by
 have r:=f.1.rep;rw[Rep.bg] at r;obtain⟨a,xs,e,q,rs⟩:=r;cases e;refine⟨xs,q,by rw[rs.length,zac],fun i b hb=>?_⟩;obtain⟨v,hv,rv⟩:=rs.get (i:=i) (d:=iJ b) (by rw[zar,hb];rfl);unfold iJ at rv;rw[Rep.aX] at rv;obtain⟨a2,ys,rfl,q2,r2⟩:=rv;refine⟨a2,ys,hv,q2,?_⟩;rw[aI.aB] at r2;obtain⟨v1,t1,rfl,e1,r2⟩:=r2;rw[aI.aB] at r2;obtain⟨v2,t2,rfl,e2,r2⟩:=r2;rw[aI.aB] at r2;obtain⟨v3,t3,rfl,e3,r2⟩:=r2;rw[aI.bN] at r2;subst r2;rw[Rep.bt] at e1;rw[Rep.bj] at e2 e3;subst e1 e2 e3;rfl
end
def Gy (K:zaa) (H0 H:Hp) (ds:List Dp) (vs:List V):Prop:=∀O:zdg->Prop,(∀b,O b->H0 b≠none)->eX K O H ds vs
section
variable{K:zaa}{H0 H H1:Hp}{d:Dp}{v:V}{ds:List Dp}{vs:List V}{D p:zdg}
theorem Gy.nil:Gy K H0 H [] []:=fun _ _=>eX.nil
theorem Gy.cons(a:Own K H0 H d v)(b:Gy K H0 H ds vs):Gy K H0 H (d::ds) (v::vs):=fun O h=>eX.cons (a O h) (b O h)
theorem Own.int{i:Int}:Own K H0 H (.int i) (.int i):=fun _ _=>Fix.int
theorem Own.str{x:Str}:Own K H0 H (.str x) (.str x):=fun _ _=>Fix.str
end
theorem kl.pick{K:zaa}{O:zdg->Prop}{H:Hp}{B:zdg}{bs:List gF}(f:kl K O H B bs){i:Int}(h0:0<=i)(h1:i<bs.length){Q:VK}(q:Q (.str (S (PG.pick ⟨[],0,0⟩ bs i).name)) H) :
 Qn K (.ref B) (.int i) H (fun x H1=>Gk K x (.int 0) H1 Q):=by
 obtain⟨xs,hx,_,get⟩:=f.list;have lt:i.toNat<bs.length:=by lia
 have e:bs[i.toNat]?=some (PG.pick ⟨[],0,0⟩ bs i):=by
  unfold PG.pick;rw[zan,zad lt];rfl
 obtain⟨a,ys,hy,q2,rfl⟩:=get _ _ e;have ei:i=((i.toNat:Nat):Int):=by lia
 refine bZ hx (v:=.ref a) (by rw[ei];exact au hy) (ay q2 (v:=.str (S (PG.pick ⟨[],0,0⟩ bs i).name)) (au (j:=0) rfl) q)
theorem gK{X:Cx}{K:zaa}(h:X.K=K):Tu X (Gk K):=h▸aD
def aF:bq->List (List bq)
 |.ifs _ _ _ _ a b=>[a,b]
 |.eU _ _ _ _ a=>[a]
 |_=>[]
def ib (s:bq) (x:Int):Int:=match s with
 |.eU k _ _ _ _=>k
 |_=>x
def oE (s:bq) (x:Int):List Int:=match s with
 |.stop _=>[0]
 |.ifs _ _ _ _ a b=>[bK a x,bK b x]
 |.eU k _ _ _ a=>[bK a k,x]
 |_=>[x]
theorem JR(s:bq)(x:Int):dy s x=(s.row,s.wd,oE s x)::((aF s).flatMap fun b=>aP b (ib s x)):=by
 cases s<;>simp[dy,bq.row,bq.wd,oE,aF,ib]
def fI (r:cB):Dp:=.tup [.int r.1,.str (lT r.2.1),.tup (r.2.2.map .int)]
section
variable(K:zaa)
inductive gM(vs:List V)(H:Hp)(Q:VK)(E:XK):Prop
 |mk (b:zdg) (body:List bq) (x:Int):vs=[.ref b,.int x]->Rep K H (.lst (body.map dO)) (.ref b)->body.length<=100000->Q (.int (bK body x)) H->gM vs H Q E
inductive wm(vs:List V)(H:Hp)(Q:VK)(E:XK):Prop
 |mk (v:V) (st:bq) (x:Int):vs=[v,.int x]->Rep K H (dO st) v->Q (.int (ib st x)) H->wm vs H Q E
inductive rQ(vs:List V)(H:Hp)(Q:VK)(E:XK):Prop
 |mk (v:V) (st:bq) (H0:Hp):vs=[v]->Rep K H0 (dO st) v->aq H0 H->(∀l us H',aq H H'->H l=none->H' l=some (.lst us)->aI K H0 ((aF st).map fun b=>.lst (b.map dO)) us->Q (.ref l) H')->rQ vs H Q E
end
theorem fw{K:zaa}{H:Hp}:∀(s:bq) {v:V},Rep K H (dO s) v->∃a ys,v=.ref a/\b8 K H a (.str (lT s.wd) :: .int s.row::ys):=by
 intro s v h;have key:∃ds,dO s=.tup (.str (lT s.wd) :: .int s.row::ds):=by
  cases s<;>exact⟨_,by rw[dO];rfl⟩
 obtain⟨ds,e⟩:=key;rw[e,Rep.aX] at h;obtain⟨a,xs,rfl,q,r⟩:=h;rw[aI.aB] at r;obtain⟨v1,t1,rfl,e1,r⟩:=r;rw[aI.aB] at r;obtain⟨v2,t2,rfl,e2,_⟩:=r;rw[Rep.bt] at e1;rw[Rep.bj] at e2;subst e1 e2;exact⟨a,t2,rfl,q⟩
section
variable(K:zaa)
def JS (st:bq):Prop:=∀b∈aF st,b.length<=100000
inductive Dr(vs:List V)(H:Hp)(Q:VK)(E:XK):Prop
 |mk (v:V) (st:bq) (x:Int):vs=[v,.int x]->Rep K H (dO st) v->JS st->(∀u H',aq H H'->Rep K H' (.tup ((oE st x).map .int)) u->Q u H')->Dr vs H Q E
end
mutual
def Ng:Dp->Bool
 |.lst _=>false
 |.tup l=>vi l
 |_=>true
def vi:List Dp->Bool
 |[]=>true
 |d::r=>Ng d&&vi r
end
section
variable{K:zaa}{H H':Hp}{tl:zdg}{xs:List V}
mutual
theorem Bw(h:H tl=some (.lst xs))(u:aU (·=tl) H H'):∀(d:Dp) (v:V),Ng d=true->Rep K H d v->Rep K H' d v
 |.cx,v,_,r=>by rw[Rep.pC] at r ⊢;exact r
 |.bl b,v,_,r=>by rw[Rep.lH] at r ⊢;exact r
 |.int b,v,_,r=>by rw[Rep.bj] at r ⊢;exact r
 |.str b,v,_,r=>by rw[Rep.bt] at r ⊢;exact r
 |.lst l,v,e,_=>by rw[Ng] at e;cases e
 |.tup l,v,e,r=>by
  rw[Ng] at e;rw[Rep.aX] at r ⊢;obtain⟨a,ys,rfl,q,rs⟩:=r;refine⟨a,ys,rfl,?_,tS h u l ys e rs⟩;rcases q with (q |⟨o,q⟩) |q
  ·exact .inl (.inl (u _ _ (cQ q h (by intro z;cases z)) q))
  ·exact .inl (.inr ⟨o,u _ _ (cQ q h (by intro z;cases z)) q⟩)
  ·exact .inr q
theorem tS(h:H tl=some (.lst xs))(u:aU (·=tl) H H'):∀(ds:List Dp) (vs:List V),vi ds=true->aI K H ds vs->aI K H' ds vs
 |[],vs,_,r=>by rw[aI.bN] at r ⊢;exact r
 |d::ds,vs,e,r=>by
  rw[vi,zba] at e;rw[aI.aB] at r ⊢;obtain⟨v,t,rfl,r1,r2⟩:=r;exact⟨v,t,rfl,Bw h u d v e.1 r1,tS h u ds t e.2 r2⟩
end
theorem Fd(h:H tl=some (.lst xs)){ds:List Dp}{vs:List V}(e:vi ds=true)(r:aI K H ds vs):eX K (·=tl) H ds vs:=fun _ u=>tS h u ds vs e r
theorem QE(h:H tl=some (.lst xs)){d:Dp}{v:V}(e:Ng d=true)(r:Rep K H d v):Fix K (·=tl) H d v:=fun _ u=>Bw h u d v e r
end
theorem tT:∀l:List Int,vi (l.map .int)=true
 |[]=>by simp[vi]
 |i::r=>by rw[zaq,vi,tT r];simp[Ng]
theorem JT(r:cB):Ng (fI r)=true:=by simp[fI,Ng,vi,tT]
theorem tU:∀l:List cB,vi (l.map fI)=true
 |[]=>by simp[vi]
 |r::l=>by rw[zaq,vi,JT,tU l];rfl
section
variable(K:zaa)
inductive rT(n:Nat)(vs:List V)(H:Hp)(Q:VK)(E:XK):Prop
 |mk (b:zdg) (body:List bq) (x:Int):vs=[.ref b,.int x]->Rep K H (.lst (body.map dO)) (.ref b)->fU body<n->(cU body).length<=1000->(∀l us H',aq H H'->H l=none->H' l=some (.lst us)->aI K H' ((aP body x).map fI) us->Q (.ref l) H')->rT n vs H Q E
end
mutual
theorem jL:∀(s:bq) (b:List bq),b∈aF s->(cU b).length+1<=(gB s).length/\fU b+1<=kM s
 |.ifs k _ _ _ x y,b,h=>by
  simp only[aF,zag,zco,or_false] at h;rw[gB,kM];simp only[zaf,zai];rcases h with rfl |rfl<;>lia
 |.eU k _ _ _ x,b,h=>by
  simp only[aF,zag,zco,or_false] at h;rw[gB,kM];simp only[zaf];subst h;lia
 |.ask _ _,b,h=>by cases h
 |.put _ _ _,b,h=>by cases h
 |.say _ _,b,h=>by cases h
 |.bW _ _ _ _,b,h=>by cases h
 |.stop _,b,h=>by cases h
end
theorem pE:∀(l:List bq) (s:bq),s∈l->(gB s).length<=(cU l).length/\kM s<=fU l
 |[],s,h=>by cases h
 |a::r,s,h=>by
  rw[cU,fU,zai];rcases zag.mp h with rfl |h
  ·lia
  ·have:=pE r s h;lia
theorem Gz(s:bq):1<=(gB s).length:=by cases s<;>simp[gB]
theorem j6:∀l:List bq,l.length<=(cU l).length
 |[]=>za2 _
 |s::r=>by
  rw[cU,zai,zaf];have:=Gz s;have:=j6 r;lia
section
variable(K:zaa)
def tV:Sp:=fun vs H Q _=>∃(v:V) (pr:PG.Prog),vs=[v]/\Rep K H (gD pr) v/\fU pr.body<=4/\(cU pr.body).length<=1000/\
 ∀l us H',aq H H'->H l=none->H' l=some (.lst us)->aI K H' ((aP pr.body 0).map fI) us->Q (.ref l) H'
def GG:Sp:=fun vs H Q _=>∃(v:V) (pr:PG.Prog),vs=[v]/\Rep K H (gD pr) v/\fU pr.body<=4/\(cU pr.body).length<=1000/\
 ∀l us H',aq H H'->H l=none->H' l=some (.lst us)->aI K H' ((Bs (cU pr.body)).map gR) us->Q (.ref l) H'
end
end L2
namespace L2
open PG
open PySem
theorem gG:∀t:PM.Tr,(ki t).deep<=mL t+1
 |.num n=>by simp[ki,Dp.deep,Dp.gA]
 |.box n=>by simp[ki,Dp.deep,Dp.gA]
 |.bin o l r=>by
  have:=gG l;have:=gG r;simp only[ki,Dp.deep,Dp.gA,mL];lia
abbrev OkE:bq->Prop:=tj (fun _=>True) (fun e=>mL e<=2) (fun _=>True)
abbrev T2:List bq->Prop:=vh (fun _=>True) (fun e=>mL e<=2) (fun _=>True)
mutual
theorem JU:∀s:bq,OkE s->(dO s).deep<=2*kM s+4
 |.ask k b,h=>by simp[dO,Dp.deep,Dp.gA]
 |.put k b e,h=>by
  simp only[tj] at h;have:=gG e;simp only[dO,Dp.deep,Dp.gA,kM];lia
 |.say k e,h=>by
  simp only[tj] at h;have:=gG e;simp only[dO,Dp.deep,Dp.gA,kM];lia
 |.bW k sg l r,h=>by
  simp only[tj] at h;have:=gG l;have:=gG r;simp only[dO,Dp.deep,Dp.gA,kM];lia
 |.stop k,h=>by simp[dO,Dp.deep,Dp.gA]
 |.ifs k sg l r a b,h=>by
  simp only[tj] at h;have:=gG l;have:=gG r;have:=lZ a h.2.2.2.1;have:=lZ b h.2.2.2.2;simp only[dO,Dp.deep,Dp.gA,kM];lia
 |.eU k sg l r a,h=>by
  simp only[tj] at h;have:=gG l;have:=gG r;have:=lZ a h.2.2.2;simp only[dO,Dp.deep,Dp.gA,kM];lia
theorem lZ:∀b:List bq,T2 b->Dp.gA (zM b)<=2*fU b+4
 |[],h=>by simp[zM,Dp.gA]
 |s::r,h=>by
  simp only[vh] at h;have:=JU s h.1;have:=lZ r h.2;simp only[zM,Dp.gA,fU];lia
end
theorem wt:∀b:List gF,Dp.gA (b.map iJ)<=1
 |[]=>by simp[Dp.gA]
 |s::r=>by
  have:=wt r;simp only[zaq,Dp.gA,iJ,Dp.deep];lia
structure Nh(K:zaa)(H H2:Hp)(tl:zdg)(H3:Hp)(us:List V)(pre:List Tg):Prop where
 s:aq H H3
 u:aU (·=tl) H2 H3
 y:H3 tl=some (.lst us)
 f:eX K (·=tl) H3 (pre.map gR) us
 l:us.length=pre.length
section
variable{K:zaa}{H H2 H3 H4:Hp}{tl p:zdg}{us vs:List V}{pre:List Tg}{ds:List Dp}{g:Tg}
theorem Nh.same(a:Nh K H H2 tl H3 us pre)(s:aq H3 H4):Nh K H H2 tl H4 us pre:=⟨a.s.trans s,a.u.trans (.of s),s _ _ a.y,a.f.up (.of s),a.l⟩
theorem Nh.app(a:Nh K H H2 tl H3 us pre)(ht:H tl=none)(hp:H3 p=none)(hg:gR g=.tup ds)(hv:∀Hx,eX K (·=tl) Hx ds vs) :
 Nh K H H2 tl (upd (upd H3 p (.tup vs)) tl (.lst (us++[.ref p]))) (us++[.ref p]) (pre++[g]):=by
 have b:=a.same (aq.new hp (.tup vs));have np:p≠tl:=(az a.y hp).symm;have t:(upd H3 p (.tup vs)) p=some (.tup vs):=ah;generalize upd H3 p (.tup vs)=H5 at *;have uu:aU (·=tl) H5 (upd H5 tl (.lst (us++[.ref p]))):=aU.refl.put (O:=(·=tl)) rfl _;refine⟨fun z o e=>by rw[aw (az e ht)];exact b.s z o e,b.u.trans uu,ah,?_,by simp[a.l]⟩;rw[zas];refine(b.f.snoc (d:=gR g) (v:=.ref p) ?_).up uu;rw[hg];exact Fix.tup t np (hv _)
end
theorem Ni{K:zaa}{O:zdg->Prop}{H2:Hp}{fl:List cB}{fv:List V}(g2:eX K O H2 (fl.map fI) fv){i:Nat}{y:V}(hi:fv[i]?=some y)(li:i<fl.length) :
 ∃a,y=.ref a/\∀H',aU O H2 H'->∃t,b8 K H' a (.int fl[i].1 :: .str (lT fl[i].2.1)::t):=by
 have key:∀H',aU O H2 H'->∃a t,y=.ref a/\b8 K H' a (.int fl[i].1 :: .str (lT fl[i].2.1)::t):=fun H' u=>by
  obtain⟨v',Gf,rv⟩:=(g2 H' u).get (i:=i) (d:=fI fl[i]) (by rw[zar,zad li];rfl);rw[hi] at Gf;cases Gf;unfold fI at rv;rw[Rep.aX] at rv;obtain⟨a,xs,rfl,hx,rs⟩:=rv;rw[aI.aB] at rs;obtain⟨v1,t1,rfl,r1,rs⟩:=rs;rw[aI.aB] at rs;obtain⟨v2,t2,rfl,r2,rs⟩:=rs;rw[Rep.bj] at r1;rw[Rep.bt] at r2;subst r1 r2;exact⟨a,t2,rfl,hx⟩
 obtain⟨a,_,rfl,_⟩:=key H2 .refl;refine⟨a,rfl,fun H' u=>?_⟩;obtain⟨a',t,e,h⟩:=key H' u;cases e;exact⟨t,h⟩
theorem zN:∀w:Wd,R8 (V.str (lT w)) [V.str (zab "if"),V.str (zab "while")]=decide (w=.ifs\/w=.eU):=by
 intro w;cases w<;>decide +kernel
theorem tW:∀w:Wd,(V.str (lT w)=V.str (zab "must"))↔w=.bW:=by
 intro w;cases w<;>decide +kernel
theorem Ds:∀l:List Tg,PyData.canLayAll0 (Dp.n9 (l.map gR))=true/\PyData.depthAll (Dp.n9 (l.map gR))<=1
 |[]=>by simp[Dp.n9,PyData.canLayAll0,PyData.depthAll]
 |g::r=>by
  obtain⟨h1,h2⟩:=Ds r;have k:(gR g).py.canLay0=true/\(gR g).py.depth<=1:=by
   cases g<;>simp only[gR,Dp.py,Dp.n9,PyData.canLay0,PyData.canLayAll0,PyData.depth,PyData.depthAll]<;>decide +kernel
  rw[zaq,Dp.n9,PyData.canLayAll0,PyData.depthAll,h1,k.1];refine⟨rfl,?_⟩;have:=k.2;lia
end L2
namespace L2
open PG
open PySem
theorem Dt{kvs:List (Key×V)}{k:Key}{v:V}(h:k ∉ kvs.map (·.1)):putK kvs k v=kvs++[(k,v)]:=by
 unfold putK;rw[if_neg];intro z;rw[zcp] at z;obtain⟨x,hx,e⟩:=z;exact h (zau.mpr ⟨x,hx,of_decide_eq_true e⟩)
theorem iQ:∀(more kvs:List (Key×V)),((kvs++more).map (·.1)).Nodup->iO kvs more=kvs++more
 |[],kvs,_=>by simp[iO]
 |p::r,kvs,h=>by
  have hp:p.1 ∉ kvs.map (·.1):=fun z=>by
   rw[zas,zbm] at h;exact h.2.2 _ z _ (by simp) rfl
  show iO (putK kvs p.1 p.2) r=_;rw[Dt hp,iQ r _ (by rw[zaW];exact h),zaW];rfl
def jF (ss:List bq) (vs:List V):List (Key×V):=zbc (fun s v=>(Sum.inl s.row,v)) ss vs
theorem wu:∀(ss:List bq) (vs:List V),vs.length=ss.length->(jF ss vs).map (·.1)=ss.map fun s=>(Sum.inl s.row:Key)
 |[],[],_=>rfl
 |[],_::_,h=>by simp at h
 |_::_,[],h=>by simp at h
 |s::ss,v::vs,h=>by
  show _::(jF ss vs).map (·.1)=_;rw[wu ss vs (by simpa using h)];rfl
theorem wx{ss:List bq}(h:ss.Pairwise fun a b=>a.row<b.row):(ss.map fun s=>(Sum.inl s.row:Key)).Nodup:=by
 refine zbf.mpr (h.imp fun {a b} JV e=>?_);have:=Sum.inl.inj e;lia
theorem rV:∀(ss:List bq) (vs:List V),vs.length=ss.length->ss.Pairwise (fun a b=>a.row<b.row)->∀i (hi:i<ss.length) v,vs[i]?=some v->cE (jF ss vs) (.inl ss[i].row)=some v
 |[],_,_,_,i,hi,_,_=>by simp at hi
 |_::_,[],h,_,_,_,_,_=>by simp at h
 |s::ss,v::vs,h,hp,0,hi,u,hu=>by
  simp at hu;subst hu;show cE ((_,v)::jF ss vs) _=_;exact ck rfl
 |s::ss,v::vs,h,hp,i+1,hi,u,hu=>by
  rw[zcE] at hp;have lt:=hp.1 (ss[i]'(by simpa using hi)) (zat _);show cE ((.inl s.row,v)::jF ss vs) (.inl (ss[i]'(by simpa using hi)).row)=_;rw[cm (fun e=>by have e:=Sum.inl.inj e;lia)];exact rV ss vs (by simpa using h) hp.2 i (by simpa using hi) u (by simpa using hu)
theorem Fe(s:bq):iG s=s::(aF s).flatMap av:=by
 cases s<;>simp[iG,aF]
section
variable(K:zaa)
inductive fL(n:Nat)(vs:List V)(H:Hp)(Q:VK)(E:XK):Prop
 |mk (b:zdg) (body:List bq) (H0:Hp):vs=[.ref b]->aq H0 H->Rep K H0 (.lst (body.map dO)) (.ref b)->fU body<n->(cU body).length<=1000->(∀l us H',aq H H'->H l=none->H' l=some (.lst us)->aI K H0 ((av body).map dO) us->Q (.ref l) H')->fL n vs H Q E
end
theorem JW{K:zaa}{tl:TE}{g:TG}{tb:TS}{D:Ends}{σ:St}{H:Hp} (h:∀U:zdg->Hp->Prop,(∀a H1,(∃W:Nat->Nat->St->Hp->Prop,(∃m,W 0 m σ H1)/\∀i m σ H,W i m σ H->
 ((OD K a).stop i H/\D.nx σ H)\/((OD K a).go i H/\∃N:St->Hp->Prop,(∀σ' H',N σ' H'->∃m',m'<m/\W (i+1) m' σ' H')/\∀x H',(OD K a).A9 i H x H'->g x σ H' fun σ2 H2=>tb {D with nx:=N,ct:=N,bk:=D.nx} σ2 H2))->U a H1)->
 tl σ H fun x H1=>∃a,x=.ref a/\(∃xs,b8 K H1 a xs)/\U a H1):C5 (S6 K tl) g tb D σ H:=h _ fun _ _ x=>x
theorem km:∀a b:List bq,av (a++b)=av a++av b
 |[],b=>by simp[av]
 |s::r,b=>by
  show av (s::(r++b))=_;rw[av,av,L2.km r b,zaW]
theorem By(s:bq):av [s]=iG s:=by rw[av,av,zaO]
theorem wz(b:List bq):(av b).length=(cU b).length:=by rw[<- eJ,zac]
end L2
namespace HT
open PG
open PySem PySem.Spec PyProof.Rows
section
variable{prog:zds}{w:zdi}{A:zdr}{E:zdh->zdq->Prop}{s:zdq}
theorem pQ{t sl:zdg}{items:Array zdh}{vl vu:zdh}{lo hi:Option Int}{Q:zdh->zdq->Prop}(ht:IsTup s.heap t items)(hs:s.heap.IsSliceOf sl vl vu .none)(pl:IsPart vl lo)(pu:IsPart vu hi)
 (hw:gk items.size 0 lo=0/\gk items.size items.size hi=items.size) (h:Q (.ref t) s):wpAny (model prog w) A (getItem (.ref t) (.ref sl)) Q E s:=by
 have hj:gk items.size items.size hi<=items.size:=Df _ _ (zaj _) hi;obtain⟨os,Qm,Wj,Tq⟩:=id hs;have XU:s.TypeIs (.ref sl) "slice":=⟨os,Qm,Wj⟩
 unfold getItem
 try with_reducible refine zdl ?_
 first |refine zdj (zdk ?_) |skip
 refine zdj (wpAny_sequenceKey ht.typeIs (by decide) ?_);refine zdj (wpAny_callSpecial?_slot (name:=zab "__getitem__") ht.typeIs zbr
  (wpAny_call_entry zbr ht.typeIs entry_tuple_getitem ?_ (args_tuple_getitem _ _)))
 show wpAny _ _ (Builtin.Tuple.tupleItemsOf (.ref t) >>= _) _ _ s;refine zdj (tupleItemsOf_ ht ?_);refine zdj (wpAny_typeOf XU ?_);rw[if_pos (by decide)];refine zdj (lU hs pl pu ?_);have Yc:((((gk items.size 0 lo:Nat):Int)==0&&(1:Int)==1&&(gk items.size items.size hi-gk items.size 0 lo)==items.size)=true):=by
  rw[hw.1,hw.2];simp
 show wpAny _ _ (if (((gk items.size 0 lo:Nat):Int)==0&&(1:Int)==1&&(gk items.size items.size hi-gk items.size 0 lo)==items.size)=true then _ else _) _ _ s;rw[if_pos Yc];refine zdj (m:=Builtin.Tuple.tupleIsExact _) ?_;unfold Builtin.Tuple.tupleIsExact;refine zdj (wpAny_typeOf ht.typeIs (zdk ?_));rw[if_pos (by simp)]
 first
  |exact zdj (wpAny_rule (zdk ⟨_,rfl,zdk h⟩))
  |exact zdj (zdk (zdk ⟨_,rfl,zdk h⟩))
end
end HT
namespace L2
open PG
open PySem PySem.Spec PyProof.Rows
def T3 (K:zaa):V->Option Int->Option Int->Hp->VK->Prop:=fun x lo hi H Q=>∃a xs,x=.ref a/\b8 K H a xs/\
 ((HT.gk xs.length 0 lo=0/\HT.gk xs.length xs.length hi=xs.length)->Q (.ref a) H)/\
 (¬(HT.gk xs.length 0 lo=0/\HT.gk xs.length xs.length hi=xs.length)->∀p,H p=none->Q (.ref p) (upd H p (.tup (iF xs lo hi))))
theorem Nj{X:Cx}:R7 X (T3 X.K):=by
 intro pins s σ H x v vl vu lo hi sl Q I rx hs pl pu h;obtain⟨a,xs,rfl,hx,h1,h2⟩:=h;by_cases hw:HT.gk xs.length 0 lo=0/\HT.gk xs.length xs.length hi=xs.length
 ·cases rx;obtain⟨its,r,ht,hz⟩:=I.tuple hx;have hlen:its.toArray.size=xs.length:=by rw[zao];exact r.length.symm
  refine⟨"tuple",_,zbr.lookup,ht.typeIs,?_⟩;exact HT.pQ ht hs pl pu (by rw[hlen];exact hw) ⟨.ref a,H,I,rfl,h1 hw⟩
 ·exact IX pins s σ H (.ref a) v vl vu lo hi sl Q I rx hs pl pu ⟨a,xs,rfl,hx,hw,h2 hw⟩
theorem mU{K:zaa}{a D:zdg}{xs:List V}{te:TE}{Q:VK}{r:St}{H:Hp}(Pv:Nat->List V->Hp->Prop)(hS:gC K H a xs)(hl:xs.length<=16000000)(hD:H D=none)(h0:Pv 0 [] (upd H D (.lst [])))
 (step:∀i x ys H2,xs[i]?=some x->aq H H2->H2 D=some (.lst ys)->ys.length=i->Pv i ys H2->∀R:VK,(∀v H3,aq H2 H3->Pv (i+1) (ys++[v]) (upd H3 D (.lst (ys++[v])))->R v H3)->te (some x::r) H2 R)
 (q:∀ys H2,aq H H2->H2 D=some (.lst ys)->Pv xs.length ys H2->Q (.ref D) H2):uI (F9 K a) D (eT 0) Bm te Q (none::r) (upd H D (.lst [])):=by
 refine⟨fun i m τ H2=>m=xs.length-i/\i<=xs.length/\(∃x,τ=x::r)/\aq H H2/\∃ys,H2 D=some (.lst ys)/\ys.length=i/\Pv i ys H2,⟨xs.length,by simp,za2 _,⟨none,rfl⟩,aq.new hD _,[],ah,rfl,h0⟩,?_⟩
 rintro i m τ H2 ⟨rfl,hi,⟨x,rfl⟩,s2,ys,h2,ly,p2⟩
 by_cases rj:i<xs.length
 ·refine .inr ⟨⟨xs,xs[i],s2.seq hS,by simp[rj]⟩,fun τ' H'=>(∃x,τ'=x::r)/\aq H H'/\∃ys,H' D=some (.lst ys)/\ys.length=i+1/\Pv (i+1) ys H',fun τ' H' ⟨h1,h3,h4⟩=>⟨xs.length-(i+1),by lia,rfl,rj,h1,h3,h4⟩,fun y H' hy=>?_⟩;obtain⟨rfl,hy⟩:=hy;have ey:=hy _ (s2.seq hS);simp only[eT,za4,Bm];rw[if_pos trivial];refine step i y ys _ ey s2 h2 ly p2 _ fun v H3 s3 p3=>⟨ys,s3 _ _ h2,?_,⟨_,rfl⟩,?_,ys++[v],ah,by simp[ly],p3⟩
  ·have:zdo=2 ^ 24:=rfl;lia
  ·intro b o e;rw[aw (az e hD)];exact s3 _ _ (s2 _ _ e)
 ·have e:i=xs.length:=by lia
  subst e;exact .inl ⟨⟨xs,s2.seq hS,zaj _⟩,q ys H2 s2 h2 p2⟩
theorem Ff:∀l:List Int,PyData.canLayAll0 (Dp.n9 (l.map Dp.int))=true/\PyData.depthAll (Dp.n9 (l.map Dp.int))=0
 |[]=>by simp[Dp.n9,PyData.canLayAll0,PyData.depthAll]
 |i::r=>by
  obtain⟨h1,h2⟩:=Ff r;simp[Dp.n9,Dp.py,PyData.canLayAll0,PyData.depthAll,PyData.canLay0,PyData.depth,h1,h2]
theorem JX{K:zaa}{H:Hp}{fl:List cB}{fv:List V}(g2:aI K H (fl.map fI) fv){i:Nat}{y:V}(hi:fv[i]?=some y)(li:i<fl.length) :
 ∃a p,y=.ref a/\b8 K H a [.int fl[i].1,.str (lT fl[i].2.1),.ref p]/\b8 K H p (fl[i].2.2.map V.int):=by
 obtain⟨v',Gf,rv⟩:=g2.get (i:=i) (d:=fI fl[i]) (by rw[zar,zad li];rfl);rw[hi] at Gf;cases Gf;unfold fI at rv;rw[Rep.aX] at rv;obtain⟨a,xs,rfl,hx,rs⟩:=rv;rw[aI.aB] at rs;obtain⟨v1,t1,rfl,r1,rs⟩:=rs;rw[aI.aB] at rs;obtain⟨v2,t2,rfl,r2,rs⟩:=rs;rw[aI.aB] at rs;obtain⟨v3,t3,rfl,r3,rs⟩:=rs;rw[aI.bN] at rs;rw[Rep.bj] at r1;rw[Rep.bt] at r2;obtain⟨p,ys,rfl,hp,ry⟩:=Rep.aX.mp r3;subst r1 r2 rs;have key:∀ {l:List Int} {ys:List V},aI K H (l.map Dp.int) ys->ys=l.map V.int:=by
  intro l
  induction l with
  |nil=>intro ys h;rw[zaP,aI.bN] at h;exact h
  |cons i r ih=>
   intro ys h;rw[zaq,aI.aB] at h;obtain⟨v,t,rfl,h1,h2⟩:=h;rw[Rep.bj] at h1;rw[h1,ih h2];rfl
 rw[key ry] at hp;exact⟨a,p,rfl,hx,hp⟩
end L2
namespace L3
open PG
open PySem PyProof.Rows
theorem Nk:typeLookup (.type "list") "keys"=pure none:=by rw[typeLookup_type,builtinLookup_eq_fast];kernel_rfl
theorem Nl:typeLookup (.type "list") "__getattr__"=pure none:=by rw[typeLookup_type,builtinLookup_eq_fast];kernel_rfl
section
variable{prog:zds}{w:zdi}{A:zdr}{E:zdh->zdq->Prop}
theorem JY(a:zdg)(u:Tok){hp:Heap}{g:Array GenState}{d:Drawn}{tk:Nat}{os:OsState}{its:Array zdh}{n:Nat}{sl:Array (Option zdh)}{Q:Fin->zdq->Prop}(hx:hp.get? a=some ⟨.type "list",none,.seq its n,sl⟩)(hA:A.handled=none)
 (h:∀h' Nm e,Heap.NewAttrErr hp h' e (.ref a) "keys"->E (.ref e) ⟨h',g,d,Nm,os⟩) :
 wpAny (model prog w) A (Builtin.«object.__getattribute__» ⟨[.ref a,.str "keys" u],[]⟩) Q E ⟨hp,g,d,tk,os⟩:=by
 have hT:(⟨hp,g,d,tk,os⟩:zdq).TypeIs (.ref a) "list":=⟨_,hx,rfl⟩
 have f4:=Nk;unfold Builtin.«object.__getattribute__»
 repeat (any_goals (first |assumption |wp_step))
 exact wpAny_raiseAttrError hA h (attrMsg_fits (by decide +kernel) (by size_fits))
theorem yo(a:zdg){s:zdq}{its:Array zdh}{n:Nat}{sl:Array (Option zdh)}{Q:Option zdh->zdq->Prop}(hx:s.heap.get? a=some ⟨.type "list",none,.seq its n,sl⟩)(hA:A.handled=none)
 (h:∀h' tk,(∀b ob,s.heap.get? b=some ob->h'.get? b=some ob)->Q none {s with heap:=h',toks:=tk}):wpAny (model prog w) A (getAttr? (.ref a) "keys") Q E s:=by
 obtain⟨hp,g,d,tk,os⟩:=s;have hT:∀Nm,(⟨hp,g,d,Nm,os⟩:zdq).TypeIs (.ref a) "list":=fun _=>⟨_,hx,rfl⟩
 have f1:=sub_AttributeError;have f2:=F.slot_list_getattribute.lookup;have f3:=F.slot_list_getattribute.bind (.ref a);have f5:=Nl;unfold getAttr? getAttrBy? getAttrBy
 repeat (any_goals (first |assumption |exact hT _ |wp_step))
 all_goals
  refine codeAny_call_builtin F.slot_list_getattribute.plain F.entry_list_ga (F.slot_list_getattribute.check _ _ _ _ _ _ _ _ (show (⟨hp,g,d,tk+1,os⟩:zdq).TypeIs (.ref a) "list" from ⟨_,hx,rfl⟩) (F.args_list_getattribute_2 _ _) ?_)
 all_goals
  refine JY a tk hx hA fun h' Nm e ne=>?_
 all_goals
  obtain⟨t',u',he⟩:=ne.there;show wpAny _ _ (getattributeRaised _ _ _ _ _ _ _) _ _ _;unfold getattributeRaised
  repeat (any_goals (first |assumption |wp_step))
 all_goals exact h _ _ ne.keeps
theorem iR:entryFor table "dict.update.loop"=some Builtin.«dict.update.loop»:=entryFor_of_tree (by kernel_rfl)
theorem c0:plainId "dict.update.loop"=true:=by decide +kernel
theorem Bz{κ:Type}[DecidableEq κ](knd:KeyKind prog w κ)(d it l:zdg)(items:Array zdh)(res:zdh)(hA:A.handled=none)(zK:it≠d){R:Result->zdq->Prop}:∀(r:List (zdg×κ×zdh×zdh)) (i:Nat) (j:Int) (u:Tok) (kvs:List (κ×zdh)) (s:zdq),
 items.toList.drop i=r.map (fun q=>Value.ref q.1)->(∀q∈r,s.heap.IsTuple q.1 #[q.2.2.1,q.2.2.2]/\knd.is q.2.1 q.2.2.1=true)->s.heap.IsListIter it l i->s.heap.IsList l items->s.heap.DictOf knd d kvs->kvs.length+r.length<=zdo->
 (∀h' tk,h'.DictOf knd d (merged kvs (r.map fun q=>(q.2.1,q.2.2.2)))->(∀b o,b≠d->b≠it->s.heap.get? b=some o->h'.get? b=some o)->R (.ok (.ret res)) {s with heap:=h',toks:=tk})->
 codeAny (model prog w) A (.builtin "dict.update.loop" ⟨[.ref d,.ref it,.int j u,res],[]⟩) R s
 |[],i,j,u,kvs,s,hi,hp,hit,hl,hd,hz,hR=>by
  refine codeAny_builtin iR ?_;rw[Around.under_plainId c0 _];show wpAny _ A.in1 (pyNext (.ref it) >>= _) _ _ s;refine zdj (wpAny_pyNext_list_end hA hit hl (by rw[<- zaN];rw[zaP] at hi;exact za5 (zcw.mp hi)) fun h' ext=>?_);show wpAny _ _ (Builtin.Dict.addKeywords d [] >>= _) _ _ _;refine zdj (zdk (zdk (hR h' s.toks ?_ fun b o _ h2 e=>?_)))
  ·obtain⟨o,es,ep,ho,rest⟩:=hd;exact⟨o,es,ep,ext d o zK.symm ho,rest⟩
  ·exact ext b o h2 e
 |q::r,i,j,u,kvs,s,hi,hp,hit,hl,hd,hz,hR=>by
  have hx:items[i]?=some (Value.ref q.1):=by
   rw[<- zaN,<- zcx,hi];rfl
  refine codeAny_builtin iR ?_;rw[Around.under_plainId c0 _];show wpAny _ A.in1 (pyNext (.ref it) >>= _) _ _ s;refine zdj (wpAny_pyNext_list_item hit hl hx fun h' JN sb=>?_);obtain⟨⟨oq,T4,Sd,nq,Yd⟩,kq⟩:=hp q (zav ..);have niq:q.1≠it:=fun z=>by
   obtain⟨oi,Du,JZ,_⟩:=hit;rw[z,Du] at T4;cases T4;rw[JZ] at Sd;exact absurd (Value.type.inj Sd) (by decide)
  have J0:h'.get? q.1=some oq:=(sb.2 _ niq).trans T4;have A3:h'.DictOf knd d kvs:=by
   obtain⟨o,es,ep,ho,rest⟩:=hd;exact⟨o,es,ep,(sb.2 d zK.symm).trans ho,rest⟩
  show wpAny _ A.in1 (holding [Value.ref q.1] _ >>= _) _ _ _;refine zdj (zdl (zdj (wpAny_tryCatch ?_)));unfold Builtin.Dict.pairItems;refine zdj (wpAny_typeOf (T:="tuple") ⟨oq,J0,Sd⟩ ?_);rw[if_pos (by decide)];refine zdj (wpAny_seqItems (s:={s with heap:=h' }) J0 Yd (zdk ?_));show wpAny _ A.in1 (holding [q.2.2.1,q.2.2.2] (dictSet d q.2.2.1 q.2.2.2)) _ _ _;refine zdl (wpAny_dictSet_pairs (s:={s with heap:=h' }) kq A3 (fun h2 hd2 Io=>?_) (by simp only[zaf] at hz;lia));refine zdk ⟨plainId_quiet c0 _,?_⟩;refine Bz knd d it l items res hA zK r (i+1) (j+1) _ _ _ ?_ (fun p T5=>?_) ?_ ?_ hd2 ?_ fun h3 tk Mg keep=>hR h3 tk Mg fun b o n1 n2 e=>keep b o n1 n2 ?_
  ·rw[<- zcB,hi];rfl
  ·obtain⟨⟨op,QF,QG,np,Ye⟩,kp⟩:=hp p (zae _ T5);refine⟨⟨op,?_,QG,np,Ye⟩,kp⟩;have n1:p.1≠it:=fun z=>by
    obtain⟨oi,Du,JZ,_⟩:=hit;rw[z,Du] at QF;cases QF;rw[JZ] at QG;exact absurd (Value.type.inj QG) (by decide)
   have n2:p.1≠d:=fun z=>by
    obtain⟨od,_,_,QH,_,Nn,_⟩:=hd;rw[z,QH] at QF;cases QF;rw[Nn] at Ye;cases Ye
   exact(Io.2 _ n2).trans ((sb.2 _ n1).trans QF)
  ·obtain⟨oi,Du,rest⟩:=JN;exact⟨oi,(Io.2 _ zK).trans Du,rest⟩
  ·obtain⟨ol,J7,Mh,nl,QI⟩:=hl;have n1:l≠it:=fun z=>by
    obtain⟨oi,Du,JZ,_⟩:=hit;rw[z,Du] at J7;cases J7;rw[JZ] at Mh;exact absurd (Value.type.inj Mh) (by decide)
   have n2:l≠d:=fun z=>by
    obtain⟨od,_,_,QH,_,Nn,_⟩:=hd;rw[z,QH] at J7;cases J7;rw[Nn] at QI;cases QI
   exact⟨ol,(Io.2 _ n2).trans ((sb.2 _ n1).trans J7),Mh,nl,QI⟩
  ·have:=stored_length_le kvs q.2.1 q.2.2.2;simp only[zaf] at hz;lia
  ·exact(Io.2 _ n1).trans ((sb.2 _ n2).trans e)
theorem dict_list{κ:Type}[DecidableEq κ](knd:KeyKind prog w κ)(l:zdg){s:zdq}{items:Array zdh}{n:Nat}{sl:Array (Option zdh)}{Q:zdh->zdq->Prop}(hA:A.handled=none)(r:List (zdg×κ×zdh×zdh))(hx:s.heap.get? l=some ⟨.type "list",none,.seq items n,sl⟩)
 (hi:items.toList=r.map (fun q=>Value.ref q.1)) (hp:∀q∈r,s.heap.IsTuple q.1 #[q.2.2.1,q.2.2.2]/\knd.is q.2.1 q.2.2.1=true) (hz:r.length<=zdo)
 (h:∀h' tk,h'.DictOf knd s.heap.objs.size (merged [] (r.map fun q=>(q.2.1,q.2.2.2)))->(∀b o,s.heap.get? b=some o->h'.get? b=some o)->Q (.ref s.heap.objs.size) {s with heap:=h',toks:=tk}) :
 wpAny (model prog w) A (call (.type "dict") [.ref l]) Q E s:=by
 refine callType_codes (Q₁:=fun obj s₁=>obj=.ref s.heap.objs.size/\s₁={s with heap:=s.heap.push {cls:=.type "dict",data:=.dict #[]} }) F.kt_called_dict (F.kt_typeCall_dict_1 _) F.entry_dict_init (kt_code_dict_new _ ⟨rfl,rfl⟩) ?_
 rintro obj s₁ ⟨rfl,rfl⟩
 have tM:(s.heap.push {cls:=.type "dict",data:=.dict #[]}).DictOf knd s.heap.objs.size []:=Heap.DictOf.new s.heap;have iK:∀b o,s.heap.get? b=some o->(s.heap.push {cls:=.type "dict",data:=.dict #[]}).get? b=some o:=fun b o e=>Heap.get?_push_of_some _ e;refine⟨tM.typeIs,F.args_dict_init_2 _ _,?_⟩;unfold Builtin.«dict.__init__»;refine zdj ?_;unfold Builtin.Dict.selfAndRest;refine zdj (wpAny_notOrdered_dict tM.typeIs ?_);show wpAny _ _ (pure (s.heap.objs.size,[Value.ref l])) _ _ _;refine zdk ?_;show wpAny _ _ (Builtin.Dict.updateFrom "dict.__init__" s.heap.objs.size (.ref l) [] .none) _ _ _;unfold Builtin.Dict.updateFrom;refine zdj (wpAny_typeOf (T:="list") ⟨_,iK _ _ hx,rfl⟩ ?_);rw[if_pos (by decide)];refine zdj (yo (n:=n) (sl:=sl) l (iK _ _ hx) hA fun h2 QJ iL=>?_);rw[if_pos (show (none:Option zdh).isNone=true from rfl)];refine zdj (wpAny_rule ?_);have Jc:h2.IsList l items:=⟨_,iL _ _ (iK _ _ hx),rfl,n,rfl⟩
 have hd2:h2.DictOf knd s.heap.objs.size []:=by
  obtain⟨o,es,ep,ho,rest⟩:=tM;exact⟨o,es,ep,iL _ _ ho,rest⟩
 refine zdj (wpAny_pyIter_list (s:={s with heap:=h2,toks:=QJ}) Jc ?_);have oF:∀b o,h2.get? b=some o->(h2.push {cls:=.type "list_iterator",data:=.fields #[.ref l,.int 0 0]}).get? b=some o:=fun b o e=>Heap.get?_push_of_some _ e;have nd:h2.objs.size≠s.heap.objs.size:=by
  obtain⟨o,es,ep,ho,_⟩:=hd2;exact fun e=>absurd (Heap.lt_size ho) (by rw[e];exact zaS _)
 refine zdk ⟨plainId_quiet c0 _,?_⟩;refine Bz (A:=A.in1) knd s.heap.objs.size h2.objs.size l items .none hA nd r 0 0 _ [] _ (by simpa using hi) (fun q hq=>?_) ⟨_,Heap.get?_push_size _ rfl,rfl,rfl⟩ ?_ ?_ (by simpa using hz) fun h4 T6 QK BA=>?_
 ·obtain⟨⟨o,ho,rest⟩,kq⟩:=hp q hq;exact⟨⟨o,oF _ _ (iL _ _ (iK _ _ ho)),rest⟩,kq⟩
 ·obtain⟨o,ho,rest⟩:=Jc;exact⟨o,oF _ _ ho,rest⟩
 ·obtain⟨o,es,ep,ho,rest⟩:=hd2;exact⟨o,es,ep,oF _ _ ho,rest⟩
 ·refine⟨rfl,h h4 T6 QK fun b o e=>BA b o (fun z=>?_) (fun z=>?_) (oF _ _ (iL _ _ (iK _ _ e)))⟩
  ·rw[z] at e;exact absurd (Heap.lt_size e) (zaS _)
  ·have:=Heap.lt_size (iL _ _ (iK _ _ e));rw[z] at this;exact absurd this (zaS _)
end
end L3
namespace L2
open PG
open PySem PyProof.Rows
theorem mV{X:Cx}(hc:X.calm=true):jE X (.type "dict") (fun xs H Q=>∃(a:zdg) (ps:List (zdg×Key×V)),xs=[.ref a]/\gC X.K H a (ps.map fun q=>V.ref q.1)/\(∀q∈ps,b8 X.K H q.1 [kV q.2.1,q.2.2])/\ps.length<=zdo/\
 ∀p,H p=none->Q (.ref p) (upd H p (.dK (iO [] (ps.map fun q=>(q.2.1,q.2.2)))))):=by
 intro pins s σ H xs us Q I r h;obtain⟨a,ps,rfl,ha,hp,hz,q⟩:=h;obtain⟨u,rfl,ru⟩:=vals1 r;cases (show u=Value.ref a from ru);obtain⟨its,v1,t1,_⟩:=I.list ha;obtain⟨⟨cls,dct,dat,sl⟩,n,e1,T7,QL,wA⟩:=t1;simp only at T7 QL wA;subst T7 QL wA;have mk:∀(l:List (zdg×Key×V)) (us:List zdh),Vals (l.map fun q=>V.ref q.1) us->(∀q∈l,b8 X.K H q.1 [kV q.2.1,q.2.2])->∃r:List (zdg×Key×zdh×zdh),us=r.map (fun q=>Value.ref q.1)/\r.length=l.length/\
  (∀q∈r,s.heap.IsTuple q.1 #[q.2.2.1,q.2.2.2]/\(bM X.prog X.w).is q.2.1 q.2.2.1=true)/\KV (l.map fun q=>(q.2.1,q.2.2)) (r.map fun q=>(q.2.1,q.2.2.2)):=by
  intro l
  induction l with
  |nil=>intro us v _;cases v;exact⟨[],rfl,rfl,fun _ z=>(by cases z),.nil⟩
  |cons x l ih=>
   intro us v hp;rw[zaq] at v;cases v with
   |cons v1 v2=>
    obtain⟨r,e,lr,hr,kv⟩:=ih _ v2 (fun q hq=>hp q (zae _ hq));obtain⟨nX,w1,tu,_⟩:=I.tuple (hp x (zav ..));obtain⟨ku,vu,rfl,rk,rv⟩:=vals2 w1;cases v1;obtain⟨o,ho,hco,no,hdo⟩:=tu;refine⟨(x.1,x.2.1,ku,vu)::r,by rw[e];rfl,by simp[lr],fun q hq=>?_,.cons ⟨rfl,rv⟩ kv⟩;rcases zag.mp hq with rfl |hq
    ·exact⟨⟨o,ho,hco,no,hdo⟩,v9 rk⟩
    ·exact hr q hq
 obtain⟨r',er,lr,hr,kv⟩:=mk ps its v1 hp;refine L3.dict_list (bM X.prog X.w) a (I.ok.hd hc) r' e1 (by simpa using er) hr (by lia) fun h' tk dd keep=>?_;have hn:=I.cI.fresh (zaj s.heap.objs.size);have hb:(s.heap.objs.size==sysModules)=false:=beq_eq_false_iff_ne.mpr (Ne.symm (zay I.big));refine⟨.ref s.heap.objs.size,_,I.laid keep (zaj _) (zG ?_ hb (kv.merge .nil) dd),rfl,q _ hn⟩;have h1:=iY (ps.map fun q=>(q.2.1,q.2.2)) [];rw[zaI,zac] at h1;lia
end L2
namespace L3
open PG
open PySem PyProof.Rows
section
variable{prog:zds}{w:zdi}{A:zdr}{E:zdh->zdq->Prop}{s:zdq}
theorem Dv{j tp:zdg}{k:Nat}{its:Array zdh}{v:zdh}{Q:zdh->zdq->Prop}(hj:s.heap.IsTupleIter j tp k)(ht:s.heap.IsTuple tp its)(hv:its[k]?=some v)
 (hQ:∀h',h'.IsTupleIter j tp (k+1)->Heap.SameBut j s.heap h'->Q v {s with heap:=h' }):wpAny (model prog w) A (Builtin.SmallTypes.nextOf (.ref j)) Q E s:=by
 obtain⟨oj,gj,cj,dj⟩:=id hj;obtain⟨ot,gt,_,nt,dt⟩:=ht;unfold Builtin.SmallTypes.nextOf;refine zdj (wpAny_callSpecial?_slot (name:=zab "__next__") hj.typeIs F.slot_tuple_iterator_next (wpAny_call_entry F.slot_tuple_iterator_next hj.typeIs F.entry_tuple_iterator_next ?_ (F.args_tuple_iterator_next_1 _)));show wpAny _ _ (field (.ref j) 0 >>= _) _ _ s;refine zdj (wpAny_field gj dj (x:=.ref tp) rfl ?_);show wpAny _ _ (if (Value.ref tp==Value.none)=true then _ else _) _ _ s;rw[if_neg (show ¬((Value.ref tp==Value.none)=true) from zal)];show wpAny _ _ (field (.ref j) 1 >>= _) _ _ s;refine zdj (wpAny_field gj dj (x:=.int k 0) rfl ?_);show wpAny _ _ (seqItems? (.ref tp) >>= _) _ _ s;refine zdj (wpAny_seqItems gt dt ?_);simp only[zaR,hv];refine zdj (wpAny_setField gj dj (by simp) (zdk ⟨v,rfl,zdk (hQ _ ?_ (Heap.SameBut.update ..))⟩));exact⟨_,Heap.get?_update_self _ gj (Obj.isFreed_of_fields (Obj.data_mapFields dj _)),(Obj.cls_mapFields ..).trans cj,by rw[Obj.data_mapFields dj];simp[rawInt]⟩
structure QM(prog:zds)(w:zdi)(j tp:zdg)(ys:Array zdh)(I:Heap->Nat->Prop):Prop where
 Yf:∀ {A:zdr} {E:zdh->zdq->Prop} {s:zdq} {i:Nat} {y:zdh} {Q:zdh->zdq->Prop},I s.heap i->ys[i]?=some y->(∀h',I h' (i+1)->Heap.SameBut j s.heap h'->Q y {s with heap:=h' })->wpAny (model prog w) A (Builtin.SmallTypes.nextOf (.ref j)) Q E s
 kp:∀ {h h':Heap} {i:Nat},I h i->(∀b o,b=j\/b=tp->h.get? b=some o->h'.get? b=some o)->I h' i
 cj:∀ {h:Heap} {i:Nat},I h i->∃o c,h.get? j=some o/\o.cls=.type c/\c≠"zip"/\c≠"list"/\c≠"tuple"/\c≠"dict"
 ct:∀ {h:Heap} {i:Nat},I h i->∃o c,h.get? tp=some o/\o.cls=.type c/\c≠"zip"/\c≠"list_iterator"/\c≠"dict"
theorem Np{j tp:zdg}{ys:Array zdh}:QM prog w j tp ys (fun h i=>h.IsTupleIter j tp i/\h.IsTuple tp ys) where
 Yf:=fun ⟨hj,ht⟩ hy hQ=>Dv hj ht hy fun h' Wn sb=>hQ h' ⟨Wn,by
  obtain⟨o,go,c,n,d⟩:=ht;refine⟨o,(sb.2 tp fun e=>?_).trans go,c,n,d⟩;obtain⟨r,gr,cr,_⟩:=hj;rw[e,gr] at go;cases go;rw[cr] at c;exact absurd (Value.type.inj c) (by decide)⟩ sb
 kp:=fun ⟨⟨o,go,r⟩,q,gq,r2⟩ k=>⟨⟨o,k _ _ (.inl rfl) go,r⟩,q,k _ _ (.inr rfl) gq,r2⟩
 cj:=fun ⟨⟨o,go,c,_⟩,_⟩=>⟨o,_,go,c,by decide,by decide,by decide,by decide⟩
 ct:=fun ⟨_,o,go,c,_⟩=>⟨o,_,go,c,by decide,by decide,by decide⟩
theorem iS{h:Heap}{a b:zdg}{o o':Obj}{c c':String}(e:h.get? a=some o)(e':h.get? b=some o')(hc:o.cls=.type c)(S1:o'.cls=.type c')(n:c≠c'):a≠b:=fun q=>by
 rw[q,e'] at e;cases e;rw[hc] at S1;exact n (Value.type.inj S1)
abbrev zO (h:Heap) (z ti to:zdg) (f g:zdh):Prop:=h.get? z=some {cls:=.type "zip",dict:=none,data:=.fields #[f,g,.bool false,.ref ti,.ref to],slots:=#[]}
theorem BB{z ti to T:zdg}{u:Tok}{o:Obj}{g:Bool}{R:Bool->zdq->Prop}(hz:zO s.heap z ti to (.int T u) (.bool g))(hT:s.heap.get? T=some o)
 (h:∀h₀,zO h₀ z ti to (.int T u) (.bool true)->Heap.SameBut z s.heap h₀->R false {s with heap:=h₀}):wpAny (model prog w) A (Builtin.SmallTypes.ownedTupleIsFree (.ref z)) R E s:=by
 unfold Builtin.SmallTypes.ownedTupleIsFree;refine zdj (wpAny_field hz rfl (x:=.int T u) rfl ?_);show wpAny _ _ (loadIfAlive (T:Int).toNat >>= _) _ _ _;refine zdj ?_;have alive:∀ {R:Option Obj->zdq->Prop},R (some o) s->wpAny (model prog w) A (loadIfAlive (T:Int).toNat) R E s:=fun h=>by
  rw[zaR];intro Γ p hp;unfold loadIfAlive;rw[Sem.wp_loadIfAlive,hT];exact h
 refine alive ?_;rw[if_neg (by simp)];refine zdj (wpAny_field hz rfl (x:=.bool g) rfl ?_);cases g with
 |false=>
  rw[if_pos (by decide)];exact zdj (wpAny_setField_rec hz (by simp) fun h₀ Fg sb=>zdk (h h₀ Fg sb))
 |true=>
  rw[if_neg (by decide)];exact zdk (h s.heap hz (Heap.SameBut.refl _ _))
theorem Dw{z ti to j1 j2 l tp T:zdg}{xs ys:Array zdh}{I2:Heap->Nat->Prop}{i:Nat}{u:Tok}{o:Obj}{g:Bool}{x y:zdh}{Q:zdh->zdq->Prop}(Z2:QM prog w j2 tp ys I2)(hz:zO s.heap z ti to (.int T u) (.bool g))(hT:s.heap.get? T=some o)(hI:IsPair s.heap ti (.ref j1) (.ref j2))
 (h1:s.heap.IsListIter j1 l i) (h2:I2 s.heap i) (hl:s.heap.IsList l xs) (CO:z≠j1) (Nq:z≠j2) (OU:j1≠j2) (hx:xs[i]?=some x) (hy:ys[i]?=some y)
 (hQ:∀h',zO h' z ti to (.int T u) (.bool true)->h'.IsListIter j1 l (i+1)->I2 h' (i+1)->IsPair h' s.heap.objs.size x y->h'.objs.size=s.heap.objs.size+1->
  (∀c o,c≠z->c≠j1->c≠j2->s.heap.get? c=some o->h'.get? c=some o)->Q (.ref s.heap.objs.size) {s with heap:=h' }) :
 wpAny (model prog w) A (Builtin.«zip.__next__» ⟨[.ref z],[]⟩) (fun fin s'=>∃v,fin=.done (.ret v)/\Q v s') E s:=by
 have lz:l≠z:=fun e=>by
  obtain⟨q,gq,cq,_⟩:=hl;rw[e,hz] at gq;cases gq;exact absurd (Value.type.inj cq) (by decide)
 have lj1:l≠j1:=fun e=>by
  obtain⟨q,gq,cq,_⟩:=hl;obtain⟨r,gr,cr,_⟩:=h1;rw[e,gr] at gq;cases gq;rw[cr] at cq;exact absurd (Value.type.inj cq) (by decide)
 obtain⟨tq,tc,T8,T9,Yg,Yh,_⟩:=Z2.ct h2;have tz:tp≠z:=iS T8 hz T9 rfl Yg;have Yi:tp≠j1:=by
  obtain⟨r,gr,cr,_⟩:=id h1;exact iS T8 gr T9 cr Yh
 show wpAny _ _ (field (.ref z) 2 >>= _) _ _ _;refine zdj (wpAny_field hz rfl (x:=.bool false) rfl ?_);show wpAny _ _ (field (.ref z) 3 >>= _) _ _ _;refine zdj (wpAny_field hz rfl (x:=.ref ti) rfl ?_);refine zdj (wpAny_seqItems hI rfl ?_);show wpAny _ _ (Builtin.SmallTypes.ownedTupleIsFree (.ref z) >>= _) _ _ _;refine zdj (BB hz hT fun h₀ Fg pX=>?_);dsimp only;rw[if_neg zal];refine zdj ?_;simp only[List.forIn_toArray,za6,zbJ];refine zdj (zdj (zdl ?_));show wpAny _ _ (Builtin.SmallTypes.nextOf (.ref j1) >>= _) _ _ _;refine zdj (wpAny_nextOf_list_item (s:={s with heap:=h₀}) (h1.extBut pX.extBut CO.symm) (hl.extBut pX.extBut lz) hx fun h₂ Ua jh=>zdk ?_);refine zdk ?_;refine zdj (zdj (zdl ?_));show wpAny _ _ (Builtin.SmallTypes.nextOf (.ref j2) >>= _) _ _ _;have Yj:I2 h₂ i:=Z2.kp h2 fun b o hb e=>by
  rcases hb with rfl |rfl
  ·exact jh.extBut _ _ OU.symm (pX.extBut _ _ Nq.symm e)
  ·exact jh.extBut _ _ Yi (pX.extBut _ _ tz e)
 refine zdj (Z2.Yf (s:={s with heap:=h₂}) Yj hy fun h₃ Ub kQ=>zdk ?_);refine zdk (zdk ?_);show wpAny _ _ (newTuple [x,y] >>= _) _ _ _;have hsz:h₃.objs.size=s.heap.objs.size:=by rw[kQ.1,jh.1,pX.1]
 refine zdj (wpAny_newTuple (s:={s with heap:=h₃}) ?_);refine zdk ⟨_,rfl,?_⟩;show Q (.ref h₃.objs.size) _;have hp:IsPair (h₃.push {cls:=.type "tuple",data:=.seq #[x,y]}) h₃.objs.size x y:=Heap.get?_push_size _ rfl;have wA:(h₃.push {cls:=.type "tuple",data:=.seq #[x,y]}).objs.size=h₃.objs.size+1:=Heap.size_push ..;rw[hsz] at hp wA ⊢;have up:∀c o,h₃.get? c=some o->(h₃.push {cls:=.type "tuple",data:=.seq #[x,y]}).get? c=some o:=fun c o e=>Heap.get?_push_of_some _ e;refine hQ _ (up _ _ (kQ.extBut _ _ Nq (jh.extBut _ _ CO Fg))) ?_ ?_ hp wA fun c o c1 c2 c3 e=>up _ _ (kQ.extBut _ _ c3 (jh.extBut _ _ c2 (pX.extBut _ _ c1 e)))
 ·obtain⟨q,gq,rest⟩:=Ua;exact⟨q,up _ _ (kQ.extBut _ _ OU gq),rest⟩
 ·exact Z2.kp Ub fun b o _ e=>up _ _ e
theorem GH{z ti to j1 j2 l T:zdg}{xs:Array zdh}{i:Nat}{u:Tok}{o:Obj}{g:Bool}{Q:Fin->zdq->Prop}(hA:A.handled=none)(hz:zO s.heap z ti to (.int T u) (.bool g))(hT:s.heap.get? T=some o)(hI:IsPair s.heap ti (.ref j1) (.ref j2))
 (h1:s.heap.IsListIter j1 l i) (hl:s.heap.IsList l xs) (CO:z≠j1) (hx:xs[i]?=none)
 (hE:∀h' e,(∀c o,c≠z->c≠j1->s.heap.get? c=some o->h'.get? c=some o)->(∃o,h'.get? e=some o/\o.cls=.type "StopIteration")->E (.ref e) {s with heap:=h' }) :
 wpAny (model prog w) A (Builtin.«zip.__next__» ⟨[.ref z],[]⟩) Q E s:=by
 have lz:l≠z:=fun e=>by
  obtain⟨q,gq,cq,_⟩:=hl;rw[e,hz] at gq;cases gq;exact absurd (Value.type.inj cq) (by decide)
 show wpAny _ _ (field (.ref z) 2 >>= _) _ _ _;refine zdj (wpAny_field hz rfl (x:=.bool false) rfl ?_);show wpAny _ _ (field (.ref z) 3 >>= _) _ _ _;refine zdj (wpAny_field hz rfl (x:=.ref ti) rfl ?_);refine zdj (wpAny_seqItems hI rfl ?_);show wpAny _ _ (Builtin.SmallTypes.ownedTupleIsFree (.ref z) >>= _) _ _ _;refine zdj (BB hz hT fun h₀ Fg pX=>?_);dsimp only;rw[if_neg zal];refine zdj ?_;simp only[List.forIn_toArray,za6,zbJ];refine zdj (zdj (zdl ?_));show wpAny _ _ (Builtin.SmallTypes.nextOf (.ref j1) >>= _) _ _ _;exact zdj (wpAny_nextOf_list_end (s:={s with heap:=h₀}) hA (h1.extBut pX.extBut CO.symm) (hl.extBut pX.extBut lz) hx fun h₂ e jh he=>hE h₂ e (fun c o c1 c2 q=>jh _ _ c2 (pX.extBut _ _ c1 q)) he)
theorem Dx{z ti to j1 j2 l tp:zdg}{xs ys:Array zdh}{I2:Heap->Nat->Prop}{i:Nat}{a b x y:zdh}{Q:zdh->zdq->Prop}(Z2:QM prog w j2 tp ys I2)(hz:zO s.heap z ti to .none (.bool false))(hO:IsPair s.heap to a b)(hI:IsPair s.heap ti (.ref j1) (.ref j2))
 (h1:s.heap.IsListIter j1 l i) (h2:I2 s.heap i) (hl:s.heap.IsList l xs) (CO:z≠j1) (Nq:z≠j2) (Uc:z≠to) (J8:to≠j1) (J9:to≠j2) (OU:j1≠j2) (Nr:tp≠to) (hx:xs[i]?=some x) (hy:ys[i]?=some y)
 (hQ:∀h',zO h' z ti to (rawInt s.heap.objs.size) (.bool false)->h'.IsListIter j1 l (i+1)->I2 h' (i+1)->IsPair h' s.heap.objs.size x y->h'.objs.size=s.heap.objs.size+1->
  (∀c o,c≠z->c≠to->c≠j1->c≠j2->s.heap.get? c=some o->h'.get? c=some o)->Q (.ref s.heap.objs.size) {s with heap:=h' }) :
 wpAny (model prog w) A (Builtin.«zip.__next__» ⟨[.ref z],[]⟩) (fun fin s'=>∃v,fin=.done (.ret v)/\Q v s') E s:=by
 have lz:l≠z:=fun e=>by
  obtain⟨q,gq,cq,_⟩:=hl;rw[e,hz] at gq;cases gq;exact absurd (Value.type.inj cq) (by decide)
 obtain⟨tq,tc,T8,T9,Yg,Yh,_⟩:=Z2.ct h2;have tz:tp≠z:=iS T8 hz T9 rfl Yg;have Yi:tp≠j1:=by
  obtain⟨r,gr,cr,_⟩:=id h1;exact iS T8 gr T9 cr Yh
 show wpAny _ _ (field (.ref z) 2 >>= _) _ _ _;refine zdj (wpAny_field hz rfl (x:=.bool false) rfl ?_);show wpAny _ _ (field (.ref z) 3 >>= _) _ _ _;refine zdj (wpAny_field hz rfl (x:=.ref ti) rfl ?_);refine zdj (wpAny_seqItems hI rfl ?_);show wpAny _ _ (Builtin.SmallTypes.ownedTupleIsFree (.ref z) >>= _) _ _ _;refine zdj ?_;unfold Builtin.SmallTypes.ownedTupleIsFree;refine zdj (wpAny_field hz rfl (x:=.none) rfl (zdk ?_));simp only[if_true];refine zdj (wpAny_rule ?_);refine zdj (wpAny_field hz rfl (x:=.ref to) rfl ?_);refine zdj (wpAny_setField_rec hz (by simp) fun h₁ z₁ oG=>?_);replace z₁:zO h₁ z ti to .ellipsis (.bool false):=z₁;refine zdj ?_;simp only[List.zipIdx_cons,List.zipIdx_nil,za6,zbJ];refine zdj (zdj (wpAny_onRaise ?_));show wpAny _ _ (Builtin.SmallTypes.nextOf (.ref j1) >>= _) _ _ _;refine zdj (wpAny_nextOf_list_item (h1.extBut oG.extBut CO.symm) (hl.extBut oG.extBut lz) hx fun h₂ k₂ jh=>zdk ?_);have o₂:IsPair h₂ to a b:=jh.extBut _ _ J8 (oG.extBut _ _ Uc.symm hO);refine zdj (wpAny_seqItems o₂ rfl ?_);refine zdj (wpAny_updateSeq_pair o₂ fun h₃ o₃ kQ=>?_);replace o₃:IsPair h₃ to x b:=o₃;refine zdj (wpAny_letGo (zdk ?_));refine zdj (zdj (wpAny_onRaise ?_));show wpAny _ _ (Builtin.SmallTypes.nextOf (.ref j2) >>= _) _ _ _;have Yj:I2 h₃ i:=Z2.kp h2 fun b o hb e=>by
  rcases hb with rfl |rfl
  ·exact kQ.extBut _ _ J9.symm (jh.extBut _ _ OU.symm (oG.extBut _ _ Nq.symm e))
  ·exact kQ.extBut _ _ Nr (jh.extBut _ _ Yi (oG.extBut _ _ tz e))
 refine zdj (Z2.Yf Yj hy fun h₄ k₄ BC=>zdk ?_);have o₄:IsPair h₄ to x b:=BC.extBut _ _ J9 o₃;refine zdj (wpAny_seqItems o₄ rfl ?_);refine zdj (wpAny_updateSeq_pair o₄ fun h₅ o₅ yr=>?_);replace o₅:IsPair h₅ to x y:=o₅;refine zdj (wpAny_letGo (zdk (zdk ?_)));refine zdj (wpAny_seqItems o₅ rfl ?_);refine zdj (wpAny_newTuple ?_);have hsz:h₅.objs.size=s.heap.objs.size:=by rw[yr.1,BC.1,kQ.1,jh.1,oG.1]
 have z₅:zO h₅ z ti to .ellipsis (.bool false):=yr.extBut _ _ Uc (BC.extBut _ _ Nq (kQ.extBut _ _ Uc (jh.extBut _ _ CO z₁)));have kp:∀c o,c≠z->c≠to->c≠j1->c≠j2->s.heap.get? c=some o->h₅.get? c=some o:=fun c o c1 c2 c3 c4 e=>yr.extBut _ _ c2 (BC.extBut _ _ c4 (kQ.extBut _ _ c2 (jh.extBut _ _ c3 (oG.extBut _ _ c1 e))));have zlt:z<h₅.objs.size:=Heap.lt_size z₅;show wpAny _ _ (Builtin.SmallTypes.ownedTupleHandOut (.ref z) (.ref h₅.objs.size) >>= _) _ _ _;refine zdj ?_;unfold Builtin.SmallTypes.ownedTupleHandOut;have z₆:zO (h₅.push {cls:=.type "tuple",data:=.seq #[x,y]}) z ti to .ellipsis (.bool false):=Heap.get?_push_of_some _ z₅;refine zdj (wpAny_setField_rec z₆ (by simp) fun h₇ z₇ Ka=>?_);replace z₇:zO h₇ z ti to (rawInt h₅.objs.size) (.bool false):=z₇;refine wpAny_setField_rec z₇ (by simp) fun h₈ z₈ Kb=>?_;replace z₈:zO h₈ z ti to (rawInt h₅.objs.size) (.bool false):=z₈;have up:∀c o,c≠z->h₅.get? c=some o->h₈.get? c=some o:=fun c o c1 e=>Kb.extBut _ _ c1 (Ka.extBut _ _ c1 (Heap.get?_push_of_some _ e));have t₈:IsPair h₈ h₅.objs.size x y:=Kb.extBut _ _ (zbK zlt) (Ka.extBut _ _ (zbK zlt) (Heap.get?_push_size _ rfl));have n₈:h₈.objs.size=h₅.objs.size+1:=by rw[Kb.1,Ka.1,Heap.size_push]
 rw[hsz] at z₈ t₈ n₈;refine zdk ⟨_,rfl,?_⟩;show Q (.ref h₅.objs.size) _;rw[hsz];refine hQ h₈ z₈ ?_ ?_ t₈ n₈ fun c o c1 c2 c3 c4 e=>up c o c1 (kp c o c1 c2 c3 c4 e)
 ·obtain⟨q,gq,rest⟩:=k₂;exact⟨q,up _ _ CO.symm (yr.extBut _ _ J8.symm (BC.extBut _ _ OU (kQ.extBut _ _ J8.symm gq))),rest⟩
 ·refine Z2.kp k₄ fun b o hb e=>?_;rcases hb with rfl |rfl
  ·exact up _ _ Nq.symm (yr.extBut _ _ J9.symm e)
  ·exact up _ _ tz (yr.extBut _ _ Nr e)
theorem GI{z ti to j1 j2 l:zdg}{xs:Array zdh}{i:Nat}{Q:Fin->zdq->Prop}(hA:A.handled=none)(hz:zO s.heap z ti to .none (.bool false))(hI:IsPair s.heap ti (.ref j1) (.ref j2))
 (h1:s.heap.IsListIter j1 l i) (hl:s.heap.IsList l xs) (CO:z≠j1) (hx:xs[i]?=none)
 (hE:∀h' e,(∀c o,c≠z->c≠j1->s.heap.get? c=some o->h'.get? c=some o)->(∃o,h'.get? e=some o/\o.cls=.type "StopIteration")->E (.ref e) {s with heap:=h' }) :
 wpAny (model prog w) A (Builtin.«zip.__next__» ⟨[.ref z],[]⟩) Q E s:=by
 have lz:l≠z:=fun e=>by
  obtain⟨q,gq,cq,_⟩:=hl;rw[e,hz] at gq;cases gq;exact absurd (Value.type.inj cq) (by decide)
 show wpAny _ _ (field (.ref z) 2 >>= _) _ _ _;refine zdj (wpAny_field hz rfl (x:=.bool false) rfl ?_);show wpAny _ _ (field (.ref z) 3 >>= _) _ _ _;refine zdj (wpAny_field hz rfl (x:=.ref ti) rfl ?_);refine zdj (wpAny_seqItems hI rfl ?_);show wpAny _ _ (Builtin.SmallTypes.ownedTupleIsFree (.ref z) >>= _) _ _ _;refine zdj ?_;unfold Builtin.SmallTypes.ownedTupleIsFree;refine zdj (wpAny_field hz rfl (x:=.none) rfl (zdk ?_));simp only[if_true];refine zdj (wpAny_rule ?_);refine zdj (wpAny_field hz rfl (x:=.ref to) rfl ?_);refine zdj (wpAny_setField_rec hz (by simp) fun h₁ z₁ oG=>?_);replace z₁:zO h₁ z ti to .ellipsis (.bool false):=z₁;refine zdj ?_;simp only[List.zipIdx_cons,List.zipIdx_nil,za6,zbJ];refine zdj (zdj (wpAny_onRaise ?_));show wpAny _ _ (Builtin.SmallTypes.nextOf (.ref j1) >>= _) _ _ _;refine zdj (wpAny_nextOf_list_end hA (h1.extBut oG.extBut CO.symm) (hl.extBut oG.extBut lz) hx fun h₂ e jh he=>?_);obtain⟨oe,ge,ce⟩:=he;have z₂:zO h₂ z ti to .ellipsis (.bool false):=jh _ _ CO z₁;have ez:e≠z:=fun q=>by subst q;rw[z₂] at ge;cases ge;simp at ce
 exact wpAny_setField_rec z₂ (by simp) fun h₃ _ kQ=>hE h₃ e (fun c o c1 c3 q=>kQ.extBut _ _ c1 (jh _ _ c3 (oG.extBut _ _ c1 q))) ⟨oe,kQ.extBut _ _ ez ge,ce⟩
structure Se(z ti to j1 j2 l tp:zdg):Prop where
 zti:z≠ti
 Uc:z≠to
 CO:z≠j1
 Nq:z≠j2
 Yk:ti≠to
 Yl:ti≠j1
 Ym:ti≠j2
 J8:to≠j1
 J9:to≠j2
 OU:j1≠j2
 Yn:l≠to
 Nr:tp≠to
structure Mi(h:Heap)(z ti to j1 j2 l tp:zdg)(xs:Array zdh)(I2:Heap->Nat->Prop)(i:Nat):Prop where
 zip:(∃a b,zO h z ti to .none (.bool false)/\IsPair h to a b)\/∃(T:zdg) (u:Tok) (a b:zdh) (g:Bool),zO h z ti to (.int T u) (.bool g)/\IsPair h T a b
 ins:IsPair h ti (.ref j1) (.ref j2)
 Nt:h.IsListIter j1 l i
 OV:I2 h i
 ls:h.IsList l xs
theorem Kc{z ti to j1 j2 l tp:zdg}{xs ys:Array zdh}{I2:Heap->Nat->Prop}{i:Nat}{x y:zdh}{Q:Option zdh->zdq->Prop}(Z2:QM prog w j2 tp ys I2)(ap:Se z ti to j1 j2 l tp)(st:Mi s.heap z ti to j1 j2 l tp xs I2 i)(hx:xs[i]?=some x)(hy:ys[i]?=some y)
 (hQ:∀h',Mi h' z ti to j1 j2 l tp xs I2 (i+1)->IsPair h' s.heap.objs.size x y->(∀c o,c≠z->c≠to->c≠j1->c≠j2->s.heap.get? c=some o->h'.get? c=some o)->Q (some (.ref s.heap.objs.size)) {s with heap:=h' }) :
 wpAny (model prog w) A (pyNext (.ref z)) Q E s:=by
 have zT:s.TypeIs (.ref z) "zip":=by
  rcases st.zip with ⟨a,b,hz,_⟩ |⟨T,u,a,b,g,hz,_⟩
  ·exact⟨_,hz,rfl⟩
  ·exact⟨_,hz,rfl⟩
 obtain⟨o1,g1,c1,_⟩:=st.Nt;obtain⟨o2,cc2,g2,c2,jn1,Yo,jn3,_⟩:=Z2.cj st.OV;obtain⟨ol,gl,cl,_⟩:=st.ls;obtain⟨oz,gz,cz⟩:=zT;have lk:∀h',(∀c o,c≠z->c≠to->c≠j1->c≠j2->s.heap.get? c=some o->h'.get? c=some o)->IsPair h' ti (.ref j1) (.ref j2)/\h'.IsList l xs:=fun h' k=>by
  refine⟨k _ _ ap.zti.symm ap.Yk ap.Yl ap.Ym st.ins,?_⟩;obtain⟨q,gq,rest⟩:=st.ls;exact⟨q,k _ _ (iS gl gz cl cz (by decide)) ap.Yn (iS gl g1 cl c1 (by decide)) (iS gl g2 cl c2 (Ne.symm Yo)) gq,rest⟩
 unfold pyNext;refine zdj (wpAny_attempt (wpAny_callSpecial?_slot (name:=zab "__next__") ⟨oz,gz,cz⟩ F.slot_zip_next (wpAny_call_entry F.slot_zip_next ⟨oz,gz,cz⟩ F.entry_zip_next ?_ (F.args_zip_next_1 _))));rcases st.zip with ⟨a,b,hz,hO⟩ |⟨T,u,a,b,g,hz,hT⟩
 ·refine Dx Z2 hz hO st.ins st.Nt st.OV st.ls ap.CO ap.Nq ap.Uc ap.J8 ap.J9 ap.OU ap.Nr hx hy fun h' q1 q2 q3 q4 q5 q6=>zdk ?_;obtain⟨k1,k2⟩:=lk h' q6;exact hQ h' ⟨.inr ⟨_,_,x,y,false,q1,q4⟩,k1,q2,q3,k2⟩ q4 q6
 ·refine Dw Z2 hz hT st.ins st.Nt st.OV st.ls ap.CO ap.Nq ap.OU hx hy fun h' q1 q2 q3 q4 q5 q6=>zdk ?_;have q6':∀c o,c≠z->c≠to->c≠j1->c≠j2->s.heap.get? c=some o->h'.get? c=some o:=fun c o a1 _ a3 a4 e=>q6 c o a1 a3 a4 e;obtain⟨k1,k2⟩:=lk h' q6';exact hQ h' ⟨.inr ⟨T,u,a,b,true,q1,q6 _ _ (iS hT gz rfl cz (by decide)) (iS hT g1 rfl c1 (by decide)) (iS hT g2 rfl c2 (Ne.symm jn3)) hT⟩,k1,q2,q3,k2⟩ q4 q6'
theorem Nu{z ti to j1 j2 l tp:zdg}{xs:Array zdh}{I2:Heap->Nat->Prop}{i:Nat}{Q:Option zdh->zdq->Prop}(hA:A.handled=none)(ap:Se z ti to j1 j2 l tp)(st:Mi s.heap z ti to j1 j2 l tp xs I2 i)(hx:xs[i]?=none)
 (hQ:∀h',(∀c o,c≠z->c≠j1->s.heap.get? c=some o->h'.get? c=some o)->Q none {s with heap:=h' }):wpAny (model prog w) A (pyNext (.ref z)) Q E s:=by
 have zT:s.TypeIs (.ref z) "zip":=by
  rcases st.zip with ⟨a,b,hz,_⟩ |⟨T,u,a,b,g,hz,_⟩
  ·exact⟨_,hz,rfl⟩
  ·exact⟨_,hz,rfl⟩
 unfold pyNext;refine zdj (wpAny_attempt (wpAny_callSpecial?_slot (name:=zab "__next__") zT F.slot_zip_next (wpAny_call_entry F.slot_zip_next zT F.entry_zip_next ?_ (F.args_zip_next_1 _))));rcases st.zip with ⟨a,b,hz,hO⟩ |⟨T,u,a,b,g,hz,hT⟩
 ·refine GI hA hz st.ins st.Nt st.ls ap.CO hx fun h' e k he=>?_;obtain⟨oe,ge,ce⟩:=he;refine zdj (wpAny_isInstance (T:="StopIteration") (b:=true) ⟨oe,ge,ce⟩ isSubtype_stop ?_);exact zdk (hQ _ k)
 ·refine GH hA hz hT st.ins st.Nt st.ls ap.CO hx fun h' e k he=>?_;obtain⟨oe,ge,ce⟩:=he;refine zdj (wpAny_isInstance (T:="StopIteration") (b:=true) ⟨oe,ge,ce⟩ isSubtype_stop ?_);exact zdk (hQ _ k)
theorem Mi.but{h h':Heap}{z ti to j1 j2 l tp:zdg}{xs ys:Array zdh}{I2:Heap->Nat->Prop}{i:Nat}{P:zdg->Prop}(Z2:QM prog w j2 tp ys I2)(st:Mi h z ti to j1 j2 l tp xs I2 i)(k:∀a o,P a->h.get? a=some o->h'.get? a=some o)(pl:P l)(pt:P tp)(pc:∀a o c,h.get? a=some o->o.cls=.type c->c≠"list"->c≠"dict"->P a):Mi h' z ti to j1 j2 l tp xs I2 i:=by
 have kc:∀a o c,h.get? a=some o->o.cls=.type c->c≠"list"->c≠"dict"->h'.get? a=some o:=fun a o c e hc n1 n2=>k _ _ (pc a o c e hc n1 n2) e;obtain⟨oj,cjj,gj,cj,_,Yo,_,jn4⟩:=Z2.cj st.OV;refine⟨?_,kc _ _ _ st.ins rfl (by decide) (by decide),?_,Z2.kp st.OV fun b o hb e=>?_,?_⟩
 ·rcases st.zip with ⟨a,b,hz,hO⟩ |⟨T,u,a,b,g,hz,hT⟩
  ·exact .inl ⟨a,b,kc _ _ _ hz rfl (by decide) (by decide),kc _ _ _ hO rfl (by decide) (by decide)⟩
  ·exact .inr ⟨T,u,a,b,g,kc _ _ _ hz rfl (by decide) (by decide),kc _ _ _ hT rfl (by decide) (by decide)⟩
 ·obtain⟨o,go,hc,hd⟩:=st.Nt;exact⟨o,kc _ _ _ go hc (by decide) (by decide),hc,hd⟩
 ·rcases hb with rfl |rfl
  ·rw[gj] at e;cases e;exact kc _ _ _ gj cj Yo jn4
  ·exact k _ _ pt e
 ·obtain⟨o,go,rest⟩:=st.ls;exact⟨o,k _ _ pl go,rest⟩
theorem Fh{κ:Type}[DecidableEq κ](knd:KeyKind prog w κ)(d z ti to j1 j2 l tp:zdg)(xs ys:Array zdh){I2:Heap->Nat->Prop}(Z2:QM prog w j2 tp ys I2)(res:zdh)(hA:A.handled=none)(ap:Se z ti to j1 j2 l tp)(dto:d≠to){R:Result->zdq->Prop}:∀(r:List (κ×zdh×zdh)) (i:Nat) (j:Int) (u:Tok) (kvs:List (κ×zdh)) (s:zdq),
 xs.toList.drop i=r.map (·.2.1)->ys.toList.drop i=r.map (·.2.2)->(∀q∈r,knd.is q.1 q.2.1=true)->Mi s.heap z ti to j1 j2 l tp xs I2 i->s.heap.DictOf knd d kvs->kvs.length+r.length<=zdo->
 (∀h' tk,h'.DictOf knd d (merged kvs (r.map fun q=>(q.1,q.2.2)))->(∀b o,b≠d->b≠z->b≠to->b≠j1->b≠j2->s.heap.get? b=some o->h'.get? b=some o)->R (.ok (.ret res)) {s with heap:=h',toks:=tk})->
 codeAny (model prog w) A (.builtin "dict.update.loop" ⟨[.ref d,.ref z,.int j u,res],[]⟩) R s
 |[],i,j,u,kvs,s,hi,hk,hp,st,hd,hz,hR=>by
  refine codeAny_builtin iR ?_;rw[Around.under_plainId c0 _];show wpAny _ A.in1 (pyNext (.ref z) >>= _) _ _ s;have dn:∀a o,s.heap.get? a=some o->(∀es n,o.data≠.dict es n)->a≠d:=fun a o e n q=>by
   obtain⟨od,_,_,Kd,_,Nn,_⟩:=hd;rw[q,Kd] at e;cases e;exact n _ _ Nn
  refine zdj (Nu hA ap st (by rw[<- zaN];rw[zaP] at hi;exact za5 (zcw.mp hi)) fun h' kp=>?_);show wpAny _ _ (Builtin.Dict.addKeywords d [] >>= _) _ _ _;refine zdj (zdk (zdk (hR h' s.toks ?_ fun b o _ c1 _ c3 _ e=>kp b o c1 c3 e)));have dz:d≠z:=by
   rcases st.zip with ⟨a,b,gz,_⟩ |⟨T,u,a,b,g,gz,_⟩
   ·exact(dn _ _ gz (by intro es n q;cases q)).symm
   ·exact(dn _ _ gz (by intro es n q;cases q)).symm
  have dj:d≠j1:=by
   obtain⟨o,go,hc,A3⟩:=st.Nt;exact(dn _ _ go (by intro es n q;rw[A3] at q;cases q)).symm
  obtain⟨o,es,ep,ho,rest⟩:=hd;exact⟨o,es,ep,kp d o dz dj ho,rest⟩
 |q::r,i,j,u,kvs,s,hi,hk,hp,st,hd,hz,hR=>by
  have hx:xs[i]?=some q.2.1:=by
   rw[<- zaN,<- zcx,hi];rfl
  have hy:ys[i]?=some q.2.2:=by
   rw[<- zaN,<- zcx,hk];rfl
  have dn:∀a o,s.heap.get? a=some o->(∀es n,o.data≠.dict es n)->a≠d:=fun a o e n q=>by
   obtain⟨od,_,_,Kd,_,Nn,_⟩:=hd;rw[q,Kd] at e;cases e;exact n _ _ Nn
  have dz:d≠z:=by
   rcases st.zip with ⟨a,b,gz,_⟩ |⟨T,u,a,b,g,gz,_⟩
   ·exact(dn _ _ gz (by intro es n q;cases q)).symm
   ·exact(dn _ _ gz (by intro es n q;cases q)).symm
  have dj1:d≠j1:=by
   obtain⟨o,go,hc,A3⟩:=st.Nt;exact(dn _ _ go (by intro es n q;rw[A3] at q;cases q)).symm
  have dj2:d≠j2:=by
   obtain⟨o,c,go,hc,_,_,_,n4⟩:=Z2.cj st.OV;obtain⟨od,_,_,Kd,hex,_⟩:=hd;exact iS Kd go hex.1 hc (Ne.symm n4)
  refine codeAny_builtin iR ?_;rw[Around.under_plainId c0 _];show wpAny _ A.in1 (pyNext (.ref z) >>= _) _ _ s;refine zdj (Kc Z2 ap st hx hy fun h' sZ pr kp=>?_);have A3:h'.DictOf knd d kvs:=by
   obtain⟨o,es,ep,ho,rest⟩:=hd;exact⟨o,es,ep,kp d o dz dto dj1 dj2 ho,rest⟩
  show wpAny _ A.in1 (holding [Value.ref s.heap.objs.size] _ >>= _) _ _ _;refine zdj (zdl (zdj (wpAny_tryCatch ?_)));unfold Builtin.Dict.pairItems;refine zdj (wpAny_typeOf (T:="tuple") ⟨_,pr,rfl⟩ ?_);rw[if_pos (by decide)];refine zdj (wpAny_seqItems (s:={s with heap:=h' }) pr rfl (zdk ?_));show wpAny _ A.in1 (holding [q.2.1,q.2.2] (dictSet d q.2.1 q.2.2)) _ _ _;refine zdl (wpAny_dictSet_pairs (s:={s with heap:=h' }) (hp q (zav ..)) A3 (fun h2 hd2 Io=>?_) (by simp only[zaf] at hz;lia));refine zdk ⟨plainId_quiet c0 _,?_⟩;refine Fh knd d z ti to j1 j2 l tp xs ys Z2 res hA ap dto r (i+1) (j+1) _ _ _ ?_ ?_ (fun p T5=>hp p (zae _ T5)) (sZ.but (P:=(·≠d)) Z2 (fun a o n e=>Io.extBut _ _ n e) ?_ ?_ fun a o c e hc _ n2 w=>?_) hd2 ?_ fun h3 tk Mg keep=>hR h3 tk Mg fun b o n1 n2 n3 n4 n5 e=>keep b o n1 n2 n3 n4 n5 ?_
  ·rw[<- zcB,hi];rfl
  ·rw[<- zcB,hk];rfl
  ·obtain⟨ol,gl,cl,_⟩:=sZ.ls;obtain⟨od,_,_,Kd,hex,_⟩:=A3;exact iS gl Kd cl hex.1 (by decide)
  ·obtain⟨ot,c,gt,ct,_,_,n3⟩:=Z2.ct sZ.OV;obtain⟨od,_,_,Kd,hex,_⟩:=A3;exact iS gt Kd ct hex.1 n3
  ·obtain⟨od,_,_,Kd,hex,_⟩:=A3;rw[w,Kd] at e;cases e;rw[hex.1] at hc;exact n2 (Value.type.inj hc).symm
  ·have:=stored_length_le kvs q.1 q.2.2;simp only[zaf] at hz;lia
  ·exact(Io.2 _ n1).trans (kp b o n2 n3 n4 n5 e)
theorem Ke:typeLookup (.type "zip") "keys"=pure none:=by rw[typeLookup_type,builtinLookup_eq_fast];kernel_rfl
theorem Kf:typeLookup (.type "zip") "__getattr__"=pure none:=by rw[typeLookup_type,builtinLookup_eq_fast];kernel_rfl
theorem zP:entryFor table "zip.__getattribute__"=some Builtin.«object.__getattribute__»:=entryFor_alias (id':="object.__getattribute__") (by kernel_rfl) (by first |rfl |decide +kernel) (by decide +kernel) (by kernel_rfl)
theorem GJ(a:zdg)(u:Tok){hp:Heap}{g:Array GenState}{d:Drawn}{tk:Nat}{os:OsState}{vs:Array zdh}{Q:Fin->zdq->Prop}(hx:hp.get? a=some ⟨.type "zip",none,.fields vs, #[]⟩)(hA:A.handled=none)
 (h:∀h' Nm e,Heap.NewAttrErr hp h' e (.ref a) "keys"->E (.ref e) ⟨h',g,d,Nm,os⟩) :
 wpAny (model prog w) A (Builtin.«object.__getattribute__» ⟨[.ref a,.str "keys" u],[]⟩) Q E ⟨hp,g,d,tk,os⟩:=by
 have hT:(⟨hp,g,d,tk,os⟩:zdq).TypeIs (.ref a) "zip":=⟨_,hx,rfl⟩
 have f4:=Ke;unfold Builtin.«object.__getattribute__»
 repeat (any_goals (first |assumption |wp_step))
 exact wpAny_raiseAttrError hA h (attrMsg_fits (by decide +kernel) (by size_fits))
theorem Dy(a:zdg){s:zdq}{vs:Array zdh}{Q:Option zdh->zdq->Prop}(hx:s.heap.get? a=some ⟨.type "zip",none,.fields vs, #[]⟩)(hA:A.handled=none)
 (h:∀h' tk,(∀b ob,s.heap.get? b=some ob->h'.get? b=some ob)->Q none {s with heap:=h',toks:=tk}):wpAny (model prog w) A (getAttr? (.ref a) "keys") Q E s:=by
 obtain⟨hp,g,d,tk,os⟩:=s;have hT:∀Nm,(⟨hp,g,d,Nm,os⟩:zdq).TypeIs (.ref a) "zip":=fun _=>⟨_,hx,rfl⟩
 have f1:=sub_AttributeError;have f2:=F.slot_zip_getattribute.lookup;have f3:=F.slot_zip_getattribute.bind (.ref a);have f5:=Kf;unfold getAttr? getAttrBy? getAttrBy
 repeat (any_goals (first |assumption |exact hT _ |wp_step))
 all_goals
  refine codeAny_call_builtin F.slot_zip_getattribute.plain zP (F.slot_zip_getattribute.check _ _ _ _ _ _ _ _ (show (⟨hp,g,d,tk+1,os⟩:zdq).TypeIs (.ref a) "zip" from ⟨_,hx,rfl⟩) (F.args_zip_getattribute_2 _ _) ?_)
 all_goals
  refine GJ a tk hx hA fun h' Nm e ne=>?_
 all_goals
  obtain⟨t',u',he⟩:=ne.there;show wpAny _ _ (getattributeRaised _ _ _ _ _ _ _) _ _ _;unfold getattributeRaised
  repeat (any_goals (first |assumption |wp_step))
 all_goals exact h _ _ ne.keeps
end
abbrev zA (h:Heap) (l:zdg):Heap:=h.push {cls:=.type "list_iterator",data:=.fields #[.ref l,.int 0 0]}
abbrev zB (h:Heap) (l tp:zdg):Heap:=(zA h l).push {cls:=.type "tuple_iterator",data:=.fields #[.ref tp,.int 0 0]}
abbrev zC (h:Heap) (l tp:zdg):Heap:=(zB h l tp).push {cls:=.type "tuple",data:=.seq #[.ref h.objs.size,.ref (zA h l).objs.size]}
abbrev zD (h:Heap) (l tp:zdg):Heap:=(zC h l tp).push {cls:=.type "tuple",data:=.seq #[.none,.none]}
abbrev zE (h:Heap) (l tp:zdg):Heap:=(zD h l tp).push {cls:=.type "zip",data:=.fields #[.none,.bool false,.bool false,.ref (zB h l tp).objs.size,.ref (zC h l tp).objs.size]}
theorem Kg(l tp:zdg)(xs ys:Array zdh):Meets (Builtin.«zip.__new__» ⟨[.type "zip",.ref l,.ref tp],[]⟩) (fun _ R s=>s.heap.IsList l xs/\s.heap.IsTuple tp ys/\R (.ok (.ret (.ref (zD s.heap l tp).objs.size))) {s with heap:=zE s.heap l tp}):=
 .of_wp fun prog w A R s h=>by
  obtain⟨hp,g,d,tk,os⟩:=s;obtain⟨g1,g2,h⟩:=h;have ad4:=sub_zip;have k1:Heap.IsList (Shared.heap ⟨hp,g,d,tk,os⟩) l xs:=g1;have k2:Heap.IsTuple (Shared.heap ⟨hp.push {cls:=.type "list_iterator",data:=.fields #[.ref l,.int 0 0]},g,d,tk,os⟩) tp ys:=by
   obtain⟨o,go,rest⟩:=g2;exact⟨o,Heap.get?_push_of_some _ go,rest⟩
  wp_walk using wpAny_pyIter_list k1,wpAny_pyIter_tuple k2
  exact⟨_,rfl,h⟩
section
variable{prog:zds}{w:zdi}{A:zdr}{E:zdh->zdq->Prop}{s:zdq}
theorem Nv(n l tp:Nat)(h1:l<n)(h2:tp<n):Se (n+4) (n+2) (n+3) n (n+1) l tp:=by
 constructor<;>(show (_:Nat)≠_;lia)
theorem Dz{l tp:zdg}{xs ys:Array zdh}{Q:zdh->zdq->Prop}(hl:s.heap.IsList l xs)(ht:s.heap.IsTuple tp ys)
 (h:∀h',Se (s.heap.objs.size+4) (s.heap.objs.size+2) (s.heap.objs.size+3) s.heap.objs.size (s.heap.objs.size+1) l tp->Mi h' (s.heap.objs.size+4) (s.heap.objs.size+2) (s.heap.objs.size+3) s.heap.objs.size (s.heap.objs.size+1) l tp xs (fun h i=>h.IsTupleIter (s.heap.objs.size+1) tp i/\h.IsTuple tp ys) 0->
  zO h' (s.heap.objs.size+4) (s.heap.objs.size+2) (s.heap.objs.size+3) .none (.bool false)->(∀c o,s.heap.get? c=some o->h'.get? c=some o)->Q (.ref (s.heap.objs.size+4)) {s with heap:=h' }) :
 wpAny (model prog w) A (call (.type "zip") [.ref l,.ref tp]) Q E s:=by
 refine callType_new F.called_zip (by decide) (F.typeCall_zip_2 _ _) (F.newCall_zip_2 _ _) (fun obj=>F.args_object_init_3 obj _ _) F.entry_zip_new (Kg l tp xs ys) ⟨hl,ht,?_⟩;have z1:(zA s.heap l).objs.size=s.heap.objs.size+1:=Heap.size_push ..;have z2:(zB s.heap l tp).objs.size=s.heap.objs.size+2:=by rw[Heap.size_push,z1]
 have z3:(zC s.heap l tp).objs.size=s.heap.objs.size+3:=by rw[Heap.size_push,z2]
 have z4:(zD s.heap l tp).objs.size=s.heap.objs.size+4:=by rw[Heap.size_push,z3]
 have g5:(zE s.heap l tp).get? (zD s.heap l tp).objs.size=some _:=Heap.get?_push_size _ rfl;have g4:(zE s.heap l tp).get? (zC s.heap l tp).objs.size=some _:=Heap.get?_push_of_some _ (Heap.get?_push_size _ rfl);have g3:(zE s.heap l tp).get? (zB s.heap l tp).objs.size=some _:=Heap.get?_push_of_some _ (Heap.get?_push_of_some _ (Heap.get?_push_size _ rfl));have g2:(zE s.heap l tp).get? (zA s.heap l).objs.size=some _:=Heap.get?_push_of_some _ (Heap.get?_push_of_some _ (Heap.get?_push_of_some _ (Heap.get?_push_size _ rfl)));have g1:(zE s.heap l tp).get? s.heap.objs.size=some _:=Heap.get?_push_of_some _ (Heap.get?_push_of_some _ (Heap.get?_push_of_some _ (Heap.get?_push_of_some _ (Heap.get?_push_size _ rfl))));have up:∀c o,s.heap.get? c=some o->(zE s.heap l tp).get? c=some o:=fun c o e=>Heap.get?_push_of_some _ (Heap.get?_push_of_some _ (Heap.get?_push_of_some _ (Heap.get?_push_of_some _ (Heap.get?_push_of_some _ e))));show _/\_;rw[z2,z3,z4] at g5;rw[z1,z2] at g3;rw[z3] at g4;rw[z1] at g2;rw[z4];obtain⟨ol,gl,rl⟩:=id hl;obtain⟨ot,gt,rt⟩:=id ht;have ll:=Heap.lt_size gl;have lt:=Heap.lt_size gt;refine⟨⟨_,g5,rfl⟩,h _ (Nv _ _ _ ll lt) ⟨.inl ⟨_,_,g5,g4⟩,g3,⟨_,g1,rfl,rfl⟩,⟨⟨_,g2,rfl,rfl⟩,ot,up _ _ gt,rt⟩,⟨ol,up _ _ gl,rl⟩⟩ g5 up⟩
theorem Kh{κ:Type}[DecidableEq κ](knd:KeyKind prog w κ)(z ti to j1 j2 l tp:zdg){xs ys:Array zdh}{I2:Heap->Nat->Prop}(Z2:QM prog w j2 tp ys I2){Q:zdh->zdq->Prop}(hA:A.handled=none)(ap:Se z ti to j1 j2 l tp)(st:Mi s.heap z ti to j1 j2 l tp xs I2 0)(gz:zO s.heap z ti to .none (.bool false))(r:List (κ×zdh×zdh))
 (hi:xs.toList=r.map (·.2.1)) (hk:ys.toList=r.map (·.2.2)) (hp:∀q∈r,knd.is q.1 q.2.1=true) (hz:r.length<=zdo) (Yn:to<s.heap.objs.size)
 (h:∀h' tk,h'.DictOf knd s.heap.objs.size (merged [] (r.map fun q=>(q.1,q.2.2)))->(∀b o,b≠z->b≠to->b≠j1->b≠j2->s.heap.get? b=some o->h'.get? b=some o)->Q (.ref s.heap.objs.size) {s with heap:=h',toks:=tk}) :
 wpAny (model prog w) A (call (.type "dict") [.ref z]) Q E s:=by
 refine callType_codes (Q₁:=fun obj s₁=>obj=.ref s.heap.objs.size/\s₁={s with heap:=s.heap.push {cls:=.type "dict",data:=.dict #[]} }) F.kt_called_dict (F.kt_typeCall_dict_1 _) F.entry_dict_init (kt_code_dict_new _ ⟨rfl,rfl⟩) ?_
 rintro obj s₁ ⟨rfl,rfl⟩
 have tM:(s.heap.push {cls:=.type "dict",data:=.dict #[]}).DictOf knd s.heap.objs.size []:=Heap.DictOf.new s.heap;have iK:∀b o,s.heap.get? b=some o->(s.heap.push {cls:=.type "dict",data:=.dict #[]}).get? b=some o:=fun b o e=>Heap.get?_push_of_some _ e;refine⟨tM.typeIs,F.args_dict_init_2 _ _,?_⟩;unfold Builtin.«dict.__init__»;refine zdj ?_;unfold Builtin.Dict.selfAndRest;refine zdj (wpAny_notOrdered_dict tM.typeIs ?_);show wpAny _ _ (pure (s.heap.objs.size,[Value.ref z])) _ _ _;refine zdk ?_;show wpAny _ _ (Builtin.Dict.updateFrom "dict.__init__" s.heap.objs.size (.ref z) [] .none) _ _ _;unfold Builtin.Dict.updateFrom;refine zdj (wpAny_typeOf (T:="zip") ⟨_,iK _ _ gz,rfl⟩ ?_);rw[if_pos (by decide)];refine zdj (Dy z (iK _ _ gz) hA fun h2 QJ iL=>?_);rw[if_pos (show (none:Option zdh).isNone=true from rfl)];refine zdj (wpAny_rule ?_);have up:∀b o,s.heap.get? b=some o->h2.get? b=some o:=fun b o e=>iL _ _ (iK _ _ e);have hd2:h2.DictOf knd s.heap.objs.size []:=by
  obtain⟨o,es,ep,ho,rest⟩:=tM;exact⟨o,es,ep,iL _ _ ho,rest⟩
 refine zdj (wpAny_pyIter_zip (s:={s with heap:=h2,toks:=QJ}) (up _ _ gz) ?_);refine zdk ⟨plainId_quiet c0 _,?_⟩;have uC:Mi h2 z ti to j1 j2 l tp xs I2 0:=by
  refine⟨?_,up _ _ st.ins,?_,Z2.kp st.OV fun b o _ e=>up _ _ e,?_⟩
  ·rcases st.zip with ⟨a,b,e1,e2⟩ |⟨T,u,a,b,g,e1,e2⟩
   ·exact .inl ⟨a,b,up _ _ e1,up _ _ e2⟩
   ·exact .inr ⟨T,u,a,b,g,up _ _ e1,up _ _ e2⟩
  ·obtain⟨o,go,rest⟩:=st.Nt;exact⟨o,up _ _ go,rest⟩
  ·obtain⟨o,go,rest⟩:=st.ls;exact⟨o,up _ _ go,rest⟩
 refine Fh (A:=A.in1) knd s.heap.objs.size z ti to j1 j2 l tp xs ys Z2 .none hA ap (zbK Yn) r 0 0 _ [] _ (by simpa using hi) (by simpa using hk) hp uC hd2 (by simpa using hz) fun h4 T6 QK BA=>?_;refine⟨rfl,h h4 T6 QK fun b o n1 n2 n3 n4 e=>BA b o (fun w=>?_) n1 n2 n3 n4 (up _ _ e)⟩;rw[w] at e;exact absurd (Heap.lt_size e) (zaS _)
end
end L3
namespace L2
open PG
open PySem PyProof.Rows
theorem DA(c n k:Nat)(h:c<n):c≠n+k:=by lia
def Wo (K:zaa) (t:TA):TE:=fun σ H Q=>t σ H fun xs H1=>∃(a b:zdg) (ks:List Key) (vs:List V),xs=[.ref a,.ref b]/\gC K H1 a (ks.map kV)/\b8 K H1 b vs/\vs.length=ks.length/\∀p,H1 p=none->Q (.ref p) (upd H1 p (.dK (iO [] (ks.zip vs))))
theorem qA{X:Cx}(hc:X.calm=true){ea eb:Expr}{p1 p2 Ud GK:Pos}{t:TA}(hg1:Gl X "dict")(hm1:X.mg "dict"=none)(hg2:Gl X "zip")(hm2:X.mg "zip"=none)(ha:PA X [ea,eb] t)
 (he:zdm [ea,eb] X.env=(false,eval ea X.env)::zdm [eb] X.env:=by rfl) (mP:(backTo GK (zdm [eb] X.env)).any (·.1)=false:=by rfl)
 (Wm:zdm [.Call (.Name "zip" p2) [ea,eb] [] GK] X.env=(false,eval (.Call (.Name "zip" p2) [ea,eb] [] GK) X.env)::zdm [] X.env:=by rfl) :
 PE X (.Call (.Name "dict" p1) [.Call (.Name "zip" p2) [ea,eb] [] GK] [] Ud) (Wo X.K t):=by
 intro pins s σ H Q I h;refine wpAny_Call_Name_kw (oh I hg1 hm1 PyProof.Rows.Boot.«dict» ?_ (by decide) (by decide));refine za9 ?_ Wm rfl;rw[Wm];show wpAny _ _ (spliced ((false,eval (.Call (.Name "zip" p2) [ea,eb] [] GK) X.env)::backTo Ud (zdm [] X.env))) _ _ s;refine Calls.spliced_cons ?_;refine wpAny_Call_Name_kw (oh I hg2 hm2 PyProof.Rows.Boot.«zip» ?_ (by decide) (by decide));refine za9 (dU (ha GK pins s σ H _ I h) fun us s1 zqz=>?_) he mP;obtain⟨xs,H1,I1,r1,q1⟩:=zqz;obtain⟨a,b,ks,vs,rfl,ha1,qB,lk,q⟩:=q1;obtain⟨u1,u2,rfl,ru1,ru2⟩:=vals2 r1;cases (show u1=Value.ref a from ru1);cases (show u2=Value.ref b from ru2);obtain⟨Yp,v1,t1,z1⟩:=I1.list ha1;obtain⟨nX,v2,t2,z2⟩:=I1.tuple qB;have mk:∀(ks:List Key) (vs:List V) (zQ Ki:List zdh),Vals (ks.map kV) zQ->Vals vs Ki->vs.length=ks.length->∃r:List (Key×zdh×zdh),zQ=r.map (·.2.1)/\Ki=r.map (·.2.2)/\(∀q∈r,(bM X.prog X.w).is q.1 q.2.1=true)/\KV (ks.zip vs) (r.map fun q=>(q.1,q.2.2))/\r.length=ks.length:=by
  intro ks
  induction ks with
  |nil=>
   intro vs zQ Ki w1 w2 l;have:vs=[]:=zcO.mp l;subst this;cases w1;cases w2;exact⟨[],rfl,rfl,fun _ z=>(by cases z),.nil,rfl⟩
  |cons k ks ih=>
   intro vs zQ Ki w1 w2 l;cases vs with
   |nil=>simp at l
   |cons v vs=>
    rw[zaq] at w1;cases w1 with
    |@cons _ ku _ kus w11 w12=>
     cases w2 with
     |@cons _ vu _ vus w21 w22=>
      obtain⟨r,e1,e2,h3,h4,h5⟩:=ih vs kus vus w12 w22 (by simpa using l);refine⟨(k,ku,vu)::r,by rw[e1];rfl,by rw[e2];rfl,fun q hq=>?_,.cons ⟨rfl,w21⟩ h4,by simp[h5]⟩;rcases zag.mp hq with rfl |hq
      ·exact v9 w11
      ·exact h3 q hq
 obtain⟨r,e1,e2,kis,kv,lr⟩:=mk ks vs Yp nX v1 v2 lk;rw[zac] at z1;refine L3.Dz t1.isList (show s1.heap.IsTuple b nX.toArray from t2) fun h' ap st gz keep=>?_;refine Calls.spliced_nil ?_;have big:(s1.heap.objs.size+4:Nat)<h'.objs.size:=Heap.lt_size gz;have hle:s1.heap.objs.size<=h'.objs.size:=by lia
 refine L3.Kh (s:={s1 with heap:=h' }) (bM X.prog X.w) _ _ _ _ _ a b L3.Np (I1.ok.hd hc) ap st gz r (by simpa using e1) (by simpa using e2) kis (by lia) (show (s1.heap.objs.size+3:Nat)<h'.objs.size by lia) fun h2 tk dd iL=>?_;have hn:=I1.cI.fresh hle;have hb:(h'.objs.size==sysModules)=false:=beq_eq_false_iff_ne.mpr (Ne.symm (zay (zaB I1.big hle)));refine⟨.ref h'.objs.size,_,I1.laid (fun c o e=>iL c o ?_ ?_ ?_ ?_ (keep c o e)) hle (zG ?_ hb (kv.merge .nil) dd),rfl,q _ hn⟩
 ·have lc:(c:Nat)<s1.heap.objs.size:=Heap.lt_size e;exact DA _ _ _ lc
 ·have lc:(c:Nat)<s1.heap.objs.size:=Heap.lt_size e;exact DA _ _ _ lc
 ·have lc:(c:Nat)<s1.heap.objs.size:=Heap.lt_size e;exact zay lc
 ·have lc:(c:Nat)<s1.heap.objs.size:=Heap.lt_size e;exact DA _ _ _ lc
 ·have h1:=iY (ks.zip vs) [];rw[zaI,List.length_zip] at h1;lia
section
variable{K:zaa}{H H':Hp}{p C dx:zdg}{fs:List (Str×V)}
mutual
theorem pF(h:H p=some (.ins C dx fs))(u:aU (·=p) H H'):∀(d:Dp) (v:V),Rep K H d v->Rep K H' d v
 |.cx,v,r=>by rw[Rep.pC] at r ⊢;exact r
 |.bl b,v,r=>by rw[Rep.lH] at r ⊢;exact r
 |.int b,v,r=>by rw[Rep.bj] at r ⊢;exact r
 |.str b,v,r=>by rw[Rep.bt] at r ⊢;exact r
 |.lst l,v,r=>by
  rw[Rep.bg] at r ⊢;obtain⟨a,ys,rfl,q,rs⟩:=r;refine⟨a,ys,rfl,?_,oH h u l ys rs⟩;rcases q with (q |⟨o,q⟩) |q
  ·exact .inl (.inl (u _ _ (cQ q h (by intro z;cases z)) q))
  ·exact .inl (.inr ⟨o,u _ _ (cQ q h (by intro z;cases z)) q⟩)
  ·exact .inr q
 |.tup l,v,r=>by
  rw[Rep.aX] at r ⊢;obtain⟨a,ys,rfl,q,rs⟩:=r;refine⟨a,ys,rfl,?_,oH h u l ys rs⟩;rcases q with (q |⟨o,q⟩) |q
  ·exact .inl (.inl (u _ _ (cQ q h (by intro z;cases z)) q))
  ·exact .inl (.inr ⟨o,u _ _ (cQ q h (by intro z;cases z)) q⟩)
  ·exact .inr q
theorem oH(h:H p=some (.ins C dx fs))(u:aU (·=p) H H'):∀(ds:List Dp) (vs:List V),aI K H ds vs->aI K H' ds vs
 |[],vs,r=>by rw[aI.bN] at r ⊢;exact r
 |d::ds,vs,r=>by
  rw[aI.aB] at r ⊢;obtain⟨v,t,rfl,r1,r2⟩:=r;exact⟨v,t,rfl,pF h u d v r1,oH h u ds t r2⟩
end
end
theorem qC{K:zaa}{a D:zdg}{xs:List V}{te:TE}{Q:VK}{r:St}{H:Hp}(kf:Nat->Key×V)(hS:gC K H a xs)(hl:xs.length<=16000000)(hD:H D=none)
 (step:∀i x H2,xs[i]?=some x->aq H H2->∀R:VK,(∀p,H2 p=none->R (.ref p) (upd H2 p (.tup [kV (kf i).1,(kf i).2])))->te (some x::r) H2 R)
 (q:∀(ps:List (zdg×Key×V)) H2,aq H H2->H2 D=some (.lst (ps.map fun q=>V.ref q.1))->(∀q∈ps,H2 q.1=some (.tup [kV q.2.1,q.2.2]))->ps.map (·.2)=(zaF xs.length).map kf->Q (.ref D) H2) :
 uI (F9 K a) D (eT 0) Bm te Q (none::r) (upd H D (.lst [])):=by
 refine mU (K:=K) (fun i ys H2=>∃ps:List (zdg×Key×V),ys=ps.map (fun q=>V.ref q.1)/\(∀q∈ps,H2 q.1=some (.tup [kV q.2.1,q.2.2]))/\ps.map (·.2)=(zaF i).map kf) hS hl hD ⟨[],rfl,fun _ z=>(by cases z),rfl⟩ ?_ ?_
 ·rintro i x ys H2 hx s2 QN ly ⟨ps,rfl,zR,ep⟩ R hR
  refine step i x H2 hx s2 R fun p hp=>hR _ _ (aq.new hp _) ⟨ps++[(p,kf i)],by simp,fun q hq=>?_,by rw[zas,ep,zbs,zas];rfl⟩;have pD:D≠p:=az QN hp;rcases zah.mp hq with hq |hq
  ·have e:=zR q hq;rw[aw (cQ e QN (by intro z;cases z))];exact aq.new hp _ _ _ e
  ·rw[zap.mp hq];show upd (upd H2 p _) D _ p=_;rw[aw pD.symm,ah]
 ·rintro ys H2 s2 QN ⟨ps,rfl,zR,ep⟩
  exact q ps H2 s2 QN zR ep
theorem j7{K:zaa}{a D:zdg}{xs:List V}{te:TE}{Q:VK}{r:St}{H:Hp}(f:Nat->V)(hS:gC K H a xs)(hl:xs.length<=16000000)(hD:H D=none)
 (step:∀i x H2,xs[i]?=some x->aq H H2->∀R:VK,R (f i) H2->te (some x::r) H2 R)
 (q:∀H2,aq H H2->H2 D=some (.lst ((zaF xs.length).map f))->Q (.ref D) H2):uI (F9 K a) D (eT 0) Bm te Q (none::r) (upd H D (.lst [])):=by
 refine mU (K:=K) (fun i ys H2=>ys=(zaF i).map f) hS hl hD rfl ?_ ?_
 ·rintro i x ys H2 hx s2 QN ly rfl R hR
  exact step i x H2 hx s2 R (hR _ _ (aq.refl _) (by rw[zbs,zas];rfl))
 ·rintro ys H2 s2 QN rfl
  exact q H2 s2 QN
structure vC(K:zaa)(C:zdg)(H:Hp)(p:zdg)(pr:PG.Prog):Prop where
 at_:∃(dx nl sd fa va st wy:zdg) (us ws:List V),H p=some (.ins C dx [("names",.ref nl),("sizes",.ref sd),("first",.ref fa),("statements",.ref st),("ways",.ref wy)])/\H dx=some (.own p)/\
  H nl=some (.lst (pr.ax.map fun b=>.str (S b.name)))/\H sd=some (.dK (pr.ax.map fun b=>(.inr (S b.name),.int b.size)))/\
  H fa=some (.tup [.int (bK pr.body 0),.ref va])/\H va=some (.tup (pr.ax.map fun b=>.int b.first))/\
  us.length=(av pr.body).length/\H st=some (.dK (jF (av pr.body) us))/\aI K H ((av pr.body).map dO) us/\
  ws.length=(aP pr.body 0).length/\H wy=some (.dK (zbc (fun r v=>(Sum.inl r.1,v)) (aP pr.body 0) ws))/\∀i (hi:i<(aP pr.body 0).length),∃q,ws[i]?=some (.ref q)/\b8 K H q ((aP pr.body 0)[i].2.2.map V.int)
section
variable(K:zaa)(C:zdg)
inductive Fi(vs:List V)(H:Hp)(Q:VK)(E:XK):Prop
 |mk (p dx:zdg) (v:V) (pr:PG.Prog):vs=[.ref p,v]->H p=some (.ins C dx [])->H dx=some (.own p)->Rep K H (gD pr) v->fU pr.body<=4->(cU pr.body).length<=1000->(av pr.body).Pairwise (fun a b=>a.row<b.row)->(pr.ax.map (·.name)).Nodup->pr.ax.length<=10->(∀H',bo p H H'->vC K C H' p pr->Q .cx H')->Fi vs H Q E
end
end L2
namespace L2
open PG
open PySem
def wB (kvs:List (Key×V)) (x:W):Int:=match cE kvs (.inr (S x)) with
 |some (.int i)=>i
 |_=>0
def Ip (kvs:List (Key×V)):PM.Tr->Prop
 |.num n=>n.natAbs<=2 ^ 12
 |.box x=>∃i:Int,cE kvs (.inr (S x))=some (.int i)/\i.natAbs<=2 ^ 12
 |.bin o l r=>(o=[43]\/o=[45]\/o=[42])/\Ip kvs l/\Ip kvs r
theorem DB{kvs:List (Key×V)}{x:W}{i:Int}(h:cE kvs (.inr (S x))=some (.int i)):wB kvs x=i:=by
 unfold wB;rw[h]
theorem ma{kvs:List (Key×V)}:∀ {t:PM.Tr},Ip kvs t->(bX (wB kvs) t).natAbs<=2 ^ (14*2 ^ mL t)
 |.num n,h=>by
  rw[Ip] at h;rw[bX];simp only[mL];exact zaA h (za3 (by decide) (by decide))
 |.box x,h=>by
  rw[Ip] at h;obtain⟨i,e,hi⟩:=h;rw[bX,DB e];simp only[mL];exact zaA hi (za3 (by decide) (by decide))
 |.bin o l r,h=>by
  rw[Ip] at h;have hl:=ma h.2.1;have hr:=ma h.2.2;have one:∀a b:Nat,1<=2 ^ max a b:=fun a b=>Nat.one_le_two_pow;have ml:(bX (wB kvs) l).natAbs<=2 ^ (14*2 ^ max (mL l) (mL r)):=zaA hl (za3 (by decide) (zde _ (za3 (by decide) (zbD _ _))));have mr:(bX (wB kvs) r).natAbs<=2 ^ (14*2 ^ max (mL l) (mL r)):=zaA hr (za3 (by decide) (zde _ (za3 (by decide) (zbX _ _))));rw[mL,show 14*2 ^ (max (mL l) (mL r)+1)=14*2 ^ max (mL l) (mL r)+14*2 ^ max (mL l) (mL r) by rw[Nat.pow_succ];lia];have Nw:14<=14*2 ^ max (mL l) (mL r):=zcP _ (one _ _);generalize 14*2 ^ max (mL l) (mL r)=k at *;have two:2<=2 ^ k:=zaA (by decide:2<=2 ^ 1) (za3 (by decide) (by lia));rw[Nat.pow_add];have b2:2*2 ^ k<=2 ^ k*2 ^ k:=zc7 _ two;have ab:=zaA (Nat.add_le_add ml mr) (by rw[<- Nat.two_mul];exact b2);rw[bX];split
  ·exact zaA (Int.natAbs_add_le _ _) ab
  ·split
   ·rw[Int.sub_eq_add_neg];refine zaA (Int.natAbs_add_le _ _) ?_;rw[Int.natAbs_neg];exact ab
   ·rw[Int.natAbs_mul];exact zcC ml mr
theorem zS{a:Int}{d:Nat}(h:a.natAbs<=2 ^ (14*2 ^ d))(hd:d<=6):a.natAbs<2 ^ 4000:=by
 refine zb8 h (Nat.pow_lt_pow_right (by decide) ?_);have:2 ^ d<=2 ^ 6:=za3 (by decide) hd;lia
section
variable(K:zaa)
inductive Nx(n:Nat)(vs:List V)(H:Hp)(Q:VK)(E:XK):Prop
 |mk (v:V) (d:zdg) (tr:PM.Tr) (kvs:List (Key×V)):vs=[v,.ref d]->Rep K H (ki tr) v->H d=some (.dK kvs)->Ip kvs tr->mL tr<n->mL tr<=6->(∀H',aq H H'->Q (.int (bX (wB kvs) tr)) H')->Nx n vs H Q E
end
theorem vC.mono{K:zaa}{C p:zdg}{H H':Hp}{pr:PG.Prog}(c:vC K C H p pr)(s:aq H H'):vC K C H' p pr:=by
 obtain⟨dx,nl,sd,fa,va,st,wy,us,ws,h1,h2,h3,h4,h5,h6,h7,h8,h9,Iq,Mj,OW⟩:=c.at_;exact⟨⟨dx,nl,sd,fa,va,st,wy,us,ws,s _ _ h1,s _ _ h2,s _ _ h3,s _ _ h4,s _ _ h5,s _ _ h6,h7,s _ _ h8,h9.mono s,Iq,s _ _ Mj,fun i hi=>let ⟨q,e,r⟩:=OW i hi;⟨q,e,s.aZ r⟩⟩⟩
theorem iT{α β:Type}(g:α->β)(d:α)(l:List α):(zaF l.length).map (fun i=>g (l.getD i d))=l.map g:=by
 apply zcq
 ·simp
 ·intro i h1 h2;simp at h1 h2;simp[h2]
def cw (bs:List gF) (vs:List V):List (Key×V):=zbc (fun b v=>(Sum.inr (S b.name),v)) bs vs
theorem mW:∀(bs:List gF) (vs:List V),(bs.map fun b=>(Sum.inr (S b.name):Key)).zip vs=cw bs vs
 |[],vs=>by simp[cw]
 |b::bs,[]=>by simp[cw]
 |b::bs,v::vs=>by
  show _::(bs.map fun b=>(Sum.inr (S b.name):Key)).zip vs=_::cw bs vs;rw[mW bs vs]
theorem kR:∀(bs:List gF) (vs:List V),vs.length=bs.length->(cw bs vs).map (·.1)=bs.map fun b=>(Sum.inr (S b.name):Key)
 |[],[],_=>rfl
 |[],_::_,h=>by simp at h
 |_::_,[],h=>by simp at h
 |b::bs,v::vs,h=>by
  show _::(cw bs vs).map (·.1)=_;rw[kR bs vs (by simpa using h)];rfl
theorem names_nodup{bs:List gF}(nb:(bs.map (·.name)).Nodup):(bs.map fun b=>(Sum.inr (S b.name):Key)).Nodup:=by
 refine zbf.mpr ((zbf.mp nb).imp fun {a b} JV e=>JV ?_);exact pW.mp (Sum.inr.inj e)
theorem md:∀(bs:List gF) (vs:List V),vs.length=bs.length->(bs.map (·.name)).Nodup->∀i (hi:i<bs.length) v,vs[i]?=some v->cE (cw bs vs) (.inr (S bs[i].name))=some v
 |[],_,_,_,i,hi,_,_=>by simp at hi
 |_::_,[],h,_,_,_,_,_=>by simp at h
 |b::bs,v::vs,h,nb,0,hi,u,hu=>by
  simp at hu;subst hu;show cE ((_,v)::cw bs vs) _=_;exact ck rfl
 |b::bs,v::vs,h,nb,i+1,hi,u,hu=>by
  rw[zaq,zam] at nb;have mem:(bs[i]'(by simpa using hi)).name∈bs.map (·.name):=zau.mpr ⟨_,zat _,rfl⟩;show cE ((.inr (S b.name),v)::cw bs vs) (.inr (S (bs[i]'(by simpa using hi)).name))=_;rw[cm (fun e=>by have e:=pW.mp (Sum.inr.inj e);exact nb.1 (e▸mem))];exact md bs vs (by simpa using h) nb.2 i (by simpa using hi) u (by simpa using hu)
section
variable(K:zaa)(C:zdg)
inductive yu(vs:List V)(H:Hp)(Q:VK)(E:XK):Prop
 |mk (p a:zdg) (pr:PG.Prog) (us:List V):vs=[.ref p,.ref a]->vC K C H p pr->b8 K H a us->us.length=pr.ax.length->(pr.ax.map (·.name)).Nodup->pr.ax.length<=10->(∀d H',aq H H'->H d=none->H' d=some (.dK (cw pr.ax us))->Q (.ref d) H')->yu vs H Q E
inductive yv(vs:List V)(H:Hp)(Q:VK)(E:XK):Prop
 |mk (p d:zdg) (pr:PG.Prog) (kvs:List (Key×V)) (us:List V):vs=[.ref p,.ref d]->vC K C H p pr->H d=some (.dK kvs)->us.length=pr.ax.length->(∀i (hi:i<pr.ax.length),cE kvs (.inr (S pr.ax[i].name))=us[i]?)->pr.ax.length<=10->(∀a H',aq H H'->b8 K H' a us->Q (.ref a) H')->yv vs H Q E
inductive BD(vs:List V)(H:Hp)(Q:VK)(E:XK):Prop
 |mk (p:zdg) (pr:PG.Prog) (row:Int):vs=[.ref p,.int row]->vC K C H p pr->(av pr.body).Pairwise (fun a b=>a.row<b.row)->((row=0/\Q (.str "end") H)\/(row≠0/\∃i,∃hi:i<(av pr.body).length,(av pr.body)[i].row=row/\Q (.str (lT (av pr.body)[i].wd)) H))->BD vs H Q E
end
def nQ:bq->Option (W×PM.Tr×PM.Tr)
 |.bW _ sg l r=>some (sg,l,r)
 |.ifs _ sg l r _ _=>some (sg,l,r)
 |.eU _ sg l r _=>some (sg,l,r)
 |_=>none
def dC (sg:W) (a b:Int):Bool:=if sg=[60] then decide (a<b) else decide (a=b)
def wv (bs:List gF) (vals:List Int) (e:PM.Tr):Int:=bX (wB (cw bs (vals.map V.int))) e
abbrev AX (bs:List gF) (vals:List Int) (e:PM.Tr):Prop:=Ip (cw bs (vals.map V.int)) e/\mL e<=2
theorem qE{K:zaa}{H:Hp}{st:bq}{v:V}{sg:W}{l r:PM.Tr}(h:Rep K H (dO st) v)(c:nQ st=some (sg,l,r)):∃a w0 vl vr ys,v=.ref a/\b8 K H a (w0 :: .int st.row :: .str (S sg)::vl::vr::ys)/\Rep K H (ki l) vl/\Rep K H (ki r) vr:=by
 have key:∃w ds,dO st=.tup (.str w :: .int st.row :: .str (S sg)::ki l::ki r::ds):=by
  cases st<;>simp only[nQ,zaT.injEq,Prod.mk.injEq,reduceCtorEq] at c<;>obtain⟨rfl,rfl,rfl⟩:=c<;>exact⟨_,_,by rw[dO];rfl⟩
 obtain⟨w0,ds,e⟩:=key;rw[e,Rep.aX] at h;obtain⟨a,xs,rfl,q,rs⟩:=h;rw[aI.aB] at rs;obtain⟨v0,t0,rfl,_,rs⟩:=rs;rw[aI.aB] at rs;obtain⟨v1,t1,rfl,e1,rs⟩:=rs;rw[aI.aB] at rs;obtain⟨v2,t2,rfl,e2,rs⟩:=rs;rw[aI.aB] at rs;obtain⟨v3,t3,rfl,e3,rs⟩:=rs;rw[aI.aB] at rs;obtain⟨v4,t4,rfl,e4,rs⟩:=rs;rw[Rep.bj] at e1;rw[Rep.bt] at e2;subst e1 e2;exact⟨a,v0,v3,v4,t4,rfl,q,e3,e4⟩
def bQ (K:zaa) (H:Hp) (sa:zdg) (row:Int) (vals:List Int):Prop:=∃va,b8 K H sa [.int row,.ref va]/\b8 K H va (vals.map V.int)
theorem bQ.mono{K:zaa}{H H':Hp}{sa:zdg}{row:Int}{vals:List Int}(h:bQ K H sa row vals)(s:aq H H'):bQ K H' sa row vals:=by obtain⟨va,h1,h2⟩:=h;exact⟨va,s.aZ h1,s.aZ h2⟩
structure xF(pr:PG.Prog):Prop where
 pw:(av pr.body).Pairwise (fun a b=>a.row<b.row)
 nb:(pr.ax.map (·.name)).Nodup
 pG:pr.ax.length<=10
 pos:∀s∈av pr.body,0<s.row
section
variable(K:zaa)(C:zdg)
inductive Fj(vs:List V)(H:Hp)(Q:VK)(E:XK):Prop
 |mk (p sa:zdg) (pr:PG.Prog) (vals:List Int) (i:Nat) (hi:i<(av pr.body).length) (sg:W) (l r:PM.Tr):vs=[.ref p,.ref sa]->vC K C H p pr->xF pr->bQ K H sa (av pr.body)[i].row vals->vals.length=pr.ax.length->nQ (av pr.body)[i]=some (sg,l,r)->AX pr.ax vals l->AX pr.ax vals r->(∀H',aq H H'->Q (.bl (dC sg (wv pr.ax vals l) (wv pr.ax vals r))) H')->Fj vs H Q E
end
theorem yz:∀(fl:List cB) (vs:List V),vs.length=fl.length->fl.Pairwise (fun a b=>a.1<b.1)->∀i (hi:i<fl.length) v,vs[i]?=some v->cE (zbc (fun r v=>((Sum.inl r.1:Key),v)) fl vs) (.inl fl[i].1)=some v
 |[],_,_,_,i,hi,_,_=>by simp at hi
 |_::_,[],h,_,_,_,_,_=>by simp at h
 |s::ss,v::vs,h,hp,0,hi,u,hu=>by
  simp at hu;subst hu;rw[zcW];exact ck rfl
 |s::ss,v::vs,h,hp,i+1,hi,u,hu=>by
  rw[zcE] at hp;have lt:=hp.1 (ss[i]'(by simpa using hi)) (zat _);rw[zcW];show cE _ (Sum.inl (ss[i]'(by simpa using hi)).1:Key)=_;rw[cm (fun e=>by have e:=Sum.inl.inj e;lia)];exact yz ss vs (by simpa using h) hp.2 i (by simpa using hi) u (by simpa using hu)
theorem jj(b:List bq)(i:Nat)(hi:i<(av b).length):∃hf:i<(aP b 0).length,(aP b 0)[i].1=(av b)[i].row/\(aP b 0)[i].2.1=(av b)[i].wd:=by
 have e:((aP b 0).map fun r=>(r.1,r.2.1))=(av b).map fun x=>(x.row,x.wd):=by rw[cZ,eJ]
 have l:=congrArg zaV e;rw[zac,zac] at l;have hf:i<(aP b 0).length:=by lia
 refine⟨hf,?_⟩;have h1:((aP b 0).map fun r=>(r.1,r.2.1))[i]?=((av b).map fun x=>(x.row,x.wd))[i]?:=by rw[e]
 rw[zar,zar,zad hf,zad hi] at h1;have h1:=zaT.inj h1;exact⟨congrArg Prod.fst h1,congrArg Prod.snd h1⟩
theorem GL{b:List bq}(pw:(av b).Pairwise fun a b=>a.row<b.row):(aP b 0).Pairwise fun a b=>a.1<b.1:=by
 have e:((aP b 0).map fun r=>(r.1,r.2.1))=(av b).map fun x=>(x.row,x.wd):=by rw[cZ,eJ]
 have h:((av b).map fun x=>(x.row,x.wd)).Pairwise fun a b=>a.1<b.1:=zbf.mpr pw;rw[<- e,zbf] at h;exact h
theorem vC.way{K:zaa}{C p:zdg}{H:Hp}{pr:PG.Prog}(c:vC K C H p pr)(ok:xF pr)(i:Nat)(hi:i<(av pr.body).length)(hf:i<(aP pr.body 0).length):∃dx fs wy q,H p=some (.ins C dx fs)/\fs.lookup (zab "ways")=some (V.ref wy)/\rK H wy (.int (av pr.body)[i].row) (some (.ref q))/\b8 K H q ((aP pr.body 0)[i].2.2.map V.int):=by
 obtain⟨dx,nl,sd,fa,va,st,wy,us,ws,h1,h2,h3,h4,h5,h6,h7,h8,h9,Iq,Mj,OW⟩:=c.at_;obtain⟨q,e,hq⟩:=OW i hf;obtain⟨hf',e1,_⟩:=jj pr.body i hi;have g:=yz _ _ Iq (GL ok.pw) i hf _ e;rw[e1] at g;exact⟨dx,_,wy,q,h1,rfl,.inl ⟨_,.inl _,.inl Mj,rfl,g.symm⟩,hq⟩
def rW (K:zaa) (H:Hp):Option (Int×List Int)->V->Prop
 |none,v=>v=.cx
 |some x,v=>∃a,v=.ref a/\bQ K H a x.1 x.2
def fV (bs:List gF) (st:bq) (ws:List Int) (vals:List Int):Option (Int×List Int):=match nQ st with
 |none=>none
 |some (sg,l,r)=>if dC sg (wv bs vals l) (wv bs vals r) then some (ws.getD 0 0,vals) else if st.wd=.bW then none else some (ws.getD 1 0,vals)
section
variable(K:zaa)(C:zdg)
inductive yC(vs:List V)(H:Hp)(Q:VK)(E:XK):Prop
 |mk (p sa:zdg) (pr:PG.Prog) (vals:List Int) (i:Nat) (hi:i<(av pr.body).length) (hf:i<(aP pr.body 0).length) (sg:W) (l r:PM.Tr):vs=[.ref p,.ref sa]->vC K C H p pr->xF pr->bQ K H sa (av pr.body)[i].row vals->vals.length=pr.ax.length->nQ (av pr.body)[i]=some (sg,l,r)->AX pr.ax vals l->AX pr.ax vals r->0<(aP pr.body 0)[i].2.2.length->((av pr.body)[i].wd≠.bW->1<(aP pr.body 0)[i].2.2.length)->(∀v H',aq H H'->rW K H' (fV pr.ax (av pr.body)[i] (aP pr.body 0)[i].2.2 vals) v->Q v H')->yC vs H Q E
end
open PyProof.Rows
def Ny:V->List V->Hp->VK->Prop:=fun x vs H Q=>∃(l:zdg) (ss:List Str) (y:Str) (j:Nat),x=.ref l/\vs=[.str y]/\H l=some (.lst (ss.map V.str))/\ss[j]?=some y/\(∀m,m<j->ss[m]?≠some y)/\Q (.int j) H
theorem GN{X:Cx}:Tz X "list.index" Ny:=by
 intro pins s σ H x vs v us Q I rx rv h;obtain⟨l,ss,y,j,rfl,rfl,hH,hj,Ts,q⟩:=h;cases rx;obtain⟨u,rfl,ru⟩:=rv.one;obtain⟨t,rfl⟩:=(show ∃t,u=Value.str y t from ru)
 obtain⟨z,its,n,r,hl,e⟩:=I.zF hH;rw[zac] at z hl;have line:zdo=2 ^ 24:=rfl;have get:∀m (hm:m<its.length),∃t',its[m]=Value.str (ss[m]'(by lia)) t':=fun m hm=>by
  obtain⟨w',hw,Di⟩:=r.get (i:=m) (show (ss.map V.str)[m]?=some (V.str (ss[m]'(by lia))) by rw[zar,zad (by lia)];rfl);rw[zad hm] at hw;cases hw;exact Di
 have lj:j<ss.length:=(zak.mp hj).1;have ej:ss[j]=y:=(zak.mp hj).2
 let e0:zdh->Bool:=fun v=>match v with
  |.str a _=>a==y
  |_=>false
 refine call_meets F.slot_list_index ⟨_,e,rfl⟩ F.entry_list_index (F.args_list_index_2 _ _)
  (SeqAt.list_indexAt l its.toArray n none #[] (.str y t) e0 j (by rw[zao];lia) (by lia) ?_ ?_) ⟨e,?_,?_⟩
 ·obtain⟨t',et⟩:=get j (by lia);show e0 its[j]=true;rw[et,ej];simp[e0]
 ·intro m hm lt;have hm':m<its.length:=by simpa using hm
  obtain⟨t',et⟩:=get m hm';show e0 its[m]=false;rw[et];have:=Ts m lt;rw[zad (by lia)] at this;simp only[e0];exact beq_eq_false_iff_ne.mpr fun w=>this (by rw[w])
 ·intro v hv;rw[List.mem_toArray] at hv;obtain⟨m,hm,rfl⟩:=zbb.mp hv;obtain⟨t',et⟩:=get m hm;rw[et];exact SeqAt.EqAt.str_str _ _ _ _
 ·exact⟨.int j,H,I.tok _,⟨_,rfl⟩,q⟩
def dq (bs:List gF) (x:W):Nat:=(bs.map (·.name)).idxOf x
def qF (bs:List gF) (vals:List Int) (x:W) (v:Int):List Int:=vals.set (dq bs x) v
def eC (bs:List gF) (x:W):Int:=((bs[dq bs x]?).map (·.size)).getD 1
def ko (bs:List gF) (st:bq) (ws vals:List Int) (Ml:Int):Option (Int×List Int)×Option Int:=match st with
 |.ask _ b=>(some (ws.getD 0 0,qF bs vals b (Ml%eC bs b)),none)
 |.put _ b e=>(some (ws.getD 0 0,qF bs vals b (wv bs vals e%eC bs b)),none)
 |.say _ e=>(some (ws.getD 0 0,vals),some (wv bs vals e))
 |.stop _=>(some (ws.getD 0 0,vals),none)
 |st=>(fV bs st ws vals,none)
def Fl (bs:List gF) (vals:List Int):bq->Prop
 |.ask _ b=>b∈bs.map (·.name)
 |.put _ b e=>b∈bs.map (·.name)/\AX bs vals e
 |.say _ e=>AX bs vals e
 |.bW _ _ l r=>AX bs vals l/\AX bs vals r
 |.ifs _ _ l r _ _=>AX bs vals l/\AX bs vals r
 |.eU _ _ l r _=>AX bs vals l/\AX bs vals r
 |.stop _=>True
def OX:Option Int->V
 |none=>.cx
 |some n=>.int n
theorem kr{bs:List gF}{x:W}(h:x∈bs.map (·.name)):∃hi:dq bs x<bs.length,bs[dq bs x].name=x:=by
 have l:dq bs x<(bs.map (·.name)).length:=List.idxOf_lt_length_iff.mpr h;have e:(bs.map (·.name))[dq bs x]=x:=List.getElem_idxOf l;rw[zac] at l;rw[zbz] at e;exact⟨l,e⟩
theorem DC{bs:List gF}{vs:List V}(l:vs.length=bs.length)(nb:(bs.map (·.name)).Nodup){x:W}(h:x∈bs.map (·.name))(v:V)(i:Nat)(hi:i<bs.length) :
 cE (putK (cw bs vs) (.inr (S x)) v) (.inr (S bs[i].name))=(vs.set (dq bs x) v)[i]?:=by
 obtain⟨hx,ex⟩:=kr h;rw[v8];by_cases e:i=dq bs x
 ·subst e;rw[if_pos (by rw[ex]),zch (by lia)]
 ·have ne:bs[i].name≠x:=fun z=>e (by
   have p1:=zbH.mp nb;rw[<- ex] at z;rcases Nat.lt_trichotomy i (dq bs x) with lt |eq |gt
   ·exact absurd (by rw[zbz,zbz];exact z) (p1 i (dq bs x) (by simpa using hi) (by simpa using hx) lt)
   ·exact eq
   ·exact absurd (by rw[zbz,zbz];exact z.symm) (p1 (dq bs x) i (by simpa using hx) (by simpa using hi) gt))
  rw[if_neg (fun z=>ne (pW.mp (Sum.inr.inj z))),zct (fun z=>e z.symm)];have li:i<vs.length:=by lia
  rw[md bs vs l nb i hi vs[i] (zad li),zad li]
theorem BE{bs:List gF}(nb:(bs.map (·.name)).Nodup){x:W}(h:x∈bs.map (·.name)):cE (bs.map fun b=>((Sum.inr (S b.name):Key),V.int b.size)) (.inr (S x))=some (.int (eC bs x)):=by
 obtain⟨hx,ex⟩:=kr h;have e:(bs.map fun b=>((Sum.inr (S b.name):Key),V.int b.size))=cw bs (bs.map fun b=>V.int b.size):=by
  unfold cw;rw[List.zipWith_map_right,List.zipWith_self]
 rw[e];have:=md bs (bs.map fun b=>V.int b.size) (by simp) nb (dq bs x) hx (.int bs[dq bs x].size) (by rw[zar,zad hx];rfl);rw[ex] at this;rw[this];unfold eC;rw[zad hx];rfl
section
variable(K:zaa)(C:zdg)
inductive BF(vs:List V)(H:Hp)(Q:VK)(E:XK):Prop
 |mk (p sa:zdg) (fv:V) (pr:PG.Prog) (vals:List Int) (Ml:Int) (i:Nat) (hi:i<(av pr.body).length) (hf:i<(aP pr.body 0).length):vs=[.ref p,.ref sa,fv]->vC K C H p pr->xF pr->(∀b∈pr.ax,0<b.size)->bQ K H sa (av pr.body)[i].row vals->vals.length=pr.ax.length->((av pr.body)[i].wd=.ask->fv=.int Ml)->Fl pr.ax vals (av pr.body)[i]->0<(aP pr.body 0)[i].2.2.length->((av pr.body)[i].wd=.ifs\/(av pr.body)[i].wd=.eU->1<(aP pr.body 0)[i].2.2.length)->(∀q sv H',aq H H'->b8 K H' q [sv,OX (ko pr.ax (av pr.body)[i] (aP pr.body 0)[i].2.2 vals Ml).2]->rW K H' (ko pr.ax (av pr.body)[i] (aP pr.body 0)[i].2.2 vals Ml).1 sv->Q (.ref q) H')->BF vs H Q E
end
open PySem.Spec
def OY (K:zaa):R2:=fun x y H Q=>∃a b xs ys,x=.ref a/\y=.ref b/\b8 K H a xs/\b8 K H b ys/\xs.length+ys.length<=zdo/\∀p H',aq H H'->b8 K H' p (xs++ys)->Q (.ref p) H'
theorem vD{X:Cx}:nZ X (binaryOp .Add) (OY X.K):=by
 intro pins s σ H x y v u Q I rx ry h;by_cases hx:∃Wq,(∃a b ys,x=.ref a/\y=.ref b/\b8 X.K H a Wq/\b8 X.K H b ys/\Wq.length+ys.length<=zdo/\∀p H',aq H H'->b8 X.K H' p (Wq++ys)->Q (.ref p) H')/\Wq=[]
 ·obtain⟨xs,⟨a,b,ys,rfl,rfl,ha,hb,hz,q⟩,rfl⟩:=hx;cases rx;cases ry;obtain⟨its,r1,p1,_⟩:=I.tuple ha;obtain⟨nX,r2,p2,_⟩:=I.tuple hb;obtain⟨⟨cls,dd,data,sl⟩,ho,hc,n,hd⟩:=id p1;obtain⟨⟨Tn,To,data2,Qk⟩,Ql,Tp,n2,hd2⟩:=id p2;simp only at hc hd Tp hd2;subst hc hd Tp hd2;cases r1;exact concat_meets ⟨_,ho,rfl⟩ ⟨_,Ql,rfl⟩ noFill_tuple_add seq_tuple_add zcj zce (zb9 _ _)
   (tuple_addW0 a b _ nX.toArray n n2 dd To sl Qk rfl) ⟨ho,Ql,⟨.ref b,H,I,rfl,q _ _ (aq.refl _) hb⟩⟩
 ·obtain⟨a,b,xs,ys,rfl,rfl,ha,hb,hz,q⟩:=h;refine MP pins s σ H _ _ v u Q I rx ry ⟨a,b,xs,ys,rfl,rfl,ha,hb,fun e=>hx ⟨xs,⟨a,b,ys,rfl,rfl,ha,hb,hz,q⟩,e⟩,hz,fun e=>q _ _ (aq.refl _) ?_,fun _ p hp=>q _ _ (aq.new hp _) (.of ah)⟩;rw[e,zaO];exact ha
def Ue (K:zaa):V->Option Int->Option Int->Hp->VK->Prop:=fun x lo hi H Q=>∃a xs,x=.ref a/\b8 K H a xs/\∀p H',aq H H'->b8 K H' p (iF xs lo hi)->Q (.ref p) H'
theorem Fm{X:Cx}:R7 X (Ue X.K):=by
 intro pins s σ H x v vl vu lo hi sl Q I rx hs pl pu h;obtain⟨a,xs,rfl,hx,q⟩:=h;refine Nj pins s σ H _ v vl vu lo hi sl Q I rx hs pl pu ⟨a,xs,rfl,hx,fun e=>q _ _ (aq.refl _) ?_,fun _ p hp=>q _ _ (aq.new hp _) (.of ah)⟩;have:iF xs lo hi=xs:=by
  unfold iF;rw[e.1,e.2];simp
 rw[this];exact hx
theorem yE{K:zaa}{H:Hp}:∀l:List Int,aI K H (l.map Dp.int) (l.map V.int)
 |[]=>by rw[zaP,zaP,aI.bN]
 |x::r=>by rw[zaq,zaq,aI.aB];exact⟨_,_,rfl,by rw[Rep.bj],yE r⟩
def Ug:bq->Prop
 |.bW _ sg _ _=>sg∈CN
 |.ifs _ sg _ _ _ _=>sg∈CN
 |.eU _ sg _ _ _=>sg∈CN
 |_=>True
section
variable(K:zaa)
def GO:Sp:=fun vs H Q _=>∃(v:V) (pr:PG.Prog),vs=[v]/\Rep K H (gD pr) v/\fU pr.body<=4/\(cU pr.body).length<=1000/\xF pr/\
 ∀a H',aq H H'->bQ K H' a (bK pr.body 0) (pr.ax.map (·.first))->Q (.ref a) H'
end
theorem b8.pR{K:zaa}{H H':Hp}{D a:zdg}{xs ys:List V}(h:b8 K H a xs)(hD:H D=some (.lst ys))(u:bo D H H'):b8 K H' a xs:=by
 rcases h with (q |⟨o,q⟩) |q
 ·exact .inl (.inl (u _ _ (cQ q hD (by intro z;cases z)) q))
 ·exact .inl (.inr ⟨o,u _ _ (cQ q hD (by intro z;cases z)) q⟩)
 ·exact .inr q
theorem zU{bs:List gF}{vals:List Int}(lv:vals.length=bs.length)(nb:(bs.map (·.name)).Nodup)(hv:∀v∈vals,v.natAbs<=2 ^ 12):∀e:PM.Tr,kP bs e->Ip (cw bs (vals.map V.int)) e
 |.num n,h=>by rw[kP] at h;rw[Ip];lia
 |.box x,h=>by
  rw[kP] at h;rw[Ip];obtain⟨hx,ex⟩:=kr h;have li:dq bs x<vals.length:=by lia
  refine⟨vals[dq bs x],?_,hv _ (zat li)⟩;have:=md bs (vals.map V.int) (by simpa using lv) nb (dq bs x) hx (.int vals[dq bs x]) (by rw[zar,zad li];rfl);rw[ex] at this;exact this
 |.bin o l r,h=>by
  rw[kP] at h;rw[Ip];exact⟨by simpa using h.1,zU lv nb hv l h.2.1,zU lv nb hv r h.2.2⟩
theorem zV{bs:List gF}{vals:List Int}(lv:vals.length=bs.length)(nb:(bs.map (·.name)).Nodup)(hv:∀v∈vals,v.natAbs<=2 ^ 12){st:bq}(h:tj (·∈bs.map (·.name)) (fun e=>kP bs e/\mL e<=2) (·∈CN) st):Fl bs vals st/\Ug st:=by
 have k:∀e,(kP bs e/\mL e<=2)->AX bs vals e:=fun e h=>⟨zU lv nb hv e h.1,h.2⟩
 cases st<;>rw[tj] at h
 ·exact⟨h,trivial⟩
 ·exact⟨⟨h.1,k _ h.2⟩,trivial⟩
 ·exact⟨k _ h,trivial⟩
 ·exact⟨⟨k _ h.2.1,k _ h.2.2⟩,h.1⟩
 ·exact⟨trivial,trivial⟩
 ·exact⟨⟨k _ h.2.1,k _ h.2.2.1⟩,h.1⟩
 ·exact⟨⟨k _ h.2.1,k _ h.2.2.1⟩,h.1⟩
theorem Kj{tc:TT}{tb:TS}{D:Ends}{σ:St}{H:Hp}(h:∀B:TS,(∀D σ H,tb D σ H->B D σ H)->C2 tc B D σ H):C2 tc tb D σ H:=h tb fun _ _ _ x=>x
def rX (b:List bq) (row:Int):bq:=((av b)[Nf b row]?).getD (.stop 0)
def QO (b:List bq) (row:Int):List Int:=(((aP b 0)[Nf b row]?).map (·.2.2)).getD []
def vj (b:List bq) (row:Int):Bool:=decide ((rX b row).wd=.ask)
def fM (pr:PG.Prog) (row:Int) (vals:List Int) (f:Int):Option (Int×List Int)×Option Int:=ko pr.ax (rX pr.body row) (QO pr.body row) vals f
theorem fN{b:List bq}(pw:(av b).Pairwise (fun a b=>a.row<b.row))(i:Nat)(hi:i<(av b).length):rX b (av b)[i].row=(av b)[i]:=by
 unfold rX;rw[E9 pw i hi,zad hi];rfl
theorem Fn{b:List bq}(pw:(av b).Pairwise (fun a b=>a.row<b.row))(i:Nat)(hi:i<(av b).length)(hf:i<(aP b 0).length):QO b (av b)[i].row=(aP b 0)[i].2.2:=by
 unfold QO;rw[E9 pw i hi,zad hf];rfl
structure BG(pr:PG.Prog)(row:Int)(vals:List Int):Prop where
 row:row=0\/∃i,∃hi:i<(av pr.body).length,(av pr.body)[i].row=row
 len:vals.length=pr.ax.length
 small:∀v∈vals,v.natAbs<=2 ^ 12
structure fW(pr:PG.Prog):Prop where
 ok:xF pr
 dep:fU pr.body<=4
 pG:(cU pr.body).length<=1000
 own:vh (·∈pr.ax.map (·.name)) (fun e=>kP pr.ax e/\mL e<=2) (·∈CN) pr.body
 size:∀b∈pr.ax,2<=b.size/\b.size<=10/\0<=b.first/\b.first<b.size
theorem Fo{pr:PG.Prog}{w:Int}(h:w=0\/w=0\/∃t∈av pr.body,t.row=w):w=0\/∃i,∃hi:i<(av pr.body).length,(av pr.body)[i].row=w:=by
 rcases h with h |h |⟨t,ht,e⟩
 ·exact .inl h
 ·exact .inl h
 ·obtain⟨i,hi,e2⟩:=zbb.mp ht;exact .inr ⟨i,hi,by rw[e2];exact e⟩
theorem fW.first{pr:PG.Prog}(d:fW pr):BG pr (bK pr.body 0) (pr.ax.map (·.first)):=by
 refine⟨Fo (.inr ?_),by simp,fun v hv=>?_⟩
 ·rcases oA pr.body 0 with e |e
  ·exact .inl e
  ·exact .inr e
 ·obtain⟨b,hb,rfl⟩:=zau.mp hv;have:=d.size b hb;lia
theorem BH{pr:PG.Prog}(d:fW pr){x:W}(h:x∈pr.ax.map (·.name)):2<=eC pr.ax x/\eC pr.ax x<=10:=by
 obtain⟨hx,_⟩:=kr h;unfold eC;rw[zad hx];have:=d.size _ (zat hx);exact⟨this.1,this.2.1⟩
theorem BG.step{pr:PG.Prog}(d:fW pr){i:Nat}(hi:i<(av pr.body).length)(hf:i<(aP pr.body 0).length){vals:List Int}{f:Int}(lv:vals.length=pr.ax.length)(sm:∀v∈vals,v.natAbs<=2 ^ 12){x:Int×List Int}{s:Option Int}
 (h:ko pr.ax (av pr.body)[i] (aP pr.body 0)[i].2.2 vals f=(some x,s)):BG pr x.1 x.2:=by
 have Kk:=iZ pr.body _ d.own (zat hi);obtain⟨w0,w1⟩:=iP pr.body 0 _ (zat hf);have OZ:=oB pr.body 0 _ (zat hf);obtain⟨_,_,ew⟩:=jj pr.body i hi;rw[ew] at w1;generalize (aP pr.body 0)[i].2.2=ws at *;generalize (av pr.body)[i]=st at *;have r0:∀j,j<ws.length->ws.getD j 0=0\/∃i,∃hi:i<(av pr.body).length,(av pr.body)[i].row=ws.getD j 0:=fun j hj=>by
  rw[zan,zad hj];exact Fo (OZ _ (zat hj))
 have set:∀(b:W) (z:Int),b∈pr.ax.map (·.name)->(qF pr.ax vals b (z%eC pr.ax b)).length=pr.ax.length/\∀v∈qF pr.ax vals b (z%eC pr.ax b),v.natAbs<=2 ^ 12:=fun b z hb=>by
  unfold qF;refine⟨by rw[zcT];exact lv,fun v hv=>?_⟩;rcases List.mem_or_eq_of_mem_set hv with hv |rfl
  ·exact sm v hv
  ·have:=BH d hb;have m1:=zbo z (b:=eC pr.ax b) (by lia);have m2:=za8 z (b:=eC pr.ax b) (by lia);lia
 have cs:fV pr.ax st ws vals=some x->(st.wd=.bW\/st.wd=.ifs\/st.wd=.eU)->BG pr x.1 x.2:=by
  intro e hw;unfold fV at e;split at e
  ·cases e
  ·split at e
   ·cases e;exact⟨r0 0 w0,lv,sm⟩
   ·split at e
    ·cases e
    ·rename_i nm;cases e;exact⟨r0 1 (w1 (hw.resolve_left nm)),lv,sm⟩
 have nS:∀(y:Int×List Int) (s':Option Int),(some y,s')=(some x,s)->BG pr y.1 y.2->BG pr x.1 x.2:=fun y s' e h=>by cases e;exact h
 cases st<;>rw[tj] at Kk
 ·exact nS _ _ h ⟨r0 0 w0,(set _ _ Kk).1,(set _ _ Kk).2⟩
 ·exact nS _ _ h ⟨r0 0 w0,(set _ _ Kk.1).1,(set _ _ Kk.1).2⟩
 ·exact nS _ _ h ⟨r0 0 w0,lv,sm⟩
 ·exact cs (congrArg Prod.fst h) (.inl rfl)
 ·exact nS _ _ h ⟨r0 0 w0,lv,sm⟩
 ·exact cs (congrArg Prod.fst h) (.inr (.inl rfl))
 ·exact cs (congrArg Prod.fst h) (.inr (.inr rfl))
theorem bQ.pR{K:zaa}{H H':Hp}{D a:zdg}{ys:List V}{row:Int}{vals:List Int}(h:bQ K H a row vals)(hD:H D=some (.lst ys))(u:bo D H H'):bQ K H' a row vals:=by obtain⟨va,h1,h2⟩:=h;exact⟨va,h1.pR hD u,h2.pR hD u⟩
section
variable{K:zaa}{H H1:Hp}{p:zdg}{vs:List V}{ds:List Dp}
theorem gT(e:upd H p (.tup vs)=H1)(hp:H p=none):aq H H1:=e▸aq.new hp _
theorem gL(e:upd H p (.lst vs)=H1)(hp:H p=none):aq H H1:=e▸aq.new hp _
theorem yG(e:upd H p (.tup vs)=H1)(hp:H p=none)(hr:aI K H ds vs):Rep K H1 (.tup ds) (.ref p):=e▸Rep.new hp hr
theorem Wr(e:upd H p (.lst vs)=H1)(hp:H p=none)(hr:aI K H ds vs):Rep K H1 (.lst ds) (.ref p):=e▸Rep.Ya hp hr
theorem pY(e:upd H p (.lst vs)=H1):H1 p=some (.lst vs):=e▸ah
end
theorem rS{K:zaa}{H:Hp}{x:Str}:Rep K H (.str x) (.str x):=Rep.bt.mpr rfl
theorem zW{K:zaa}{H:Hp}{x:Int}:Rep K H (.int x) (.int x):=Rep.bj.mpr rfl
section
variable{prog:zds}{w:zdi}
def qG (prog:zds) (w:zdi) (h:Heap) (x:Key×List Key) (a:zdg):Prop:=∃(o:Obj) (n:Nat) (u:zdh) (b:zdg),h.get? a=some o/\o.cls=.type "tuple"/\o.data=.seq #[u,.ref b] n/\rz x.1 u=true/\IsTupleKey (bM prog w) h x.2 b
theorem qG.ty{s:zdq}{x:Key×List Key}{a:zdg}(h:qG prog w s.heap x a):s.TypeIs (.ref a) "tuple":=by obtain⟨o,_,_,_,e,c,_⟩:=h;exact⟨o,e,c⟩
def Kl (w:zdi) (prog:zds) (x:Key×List Key):Int:=reduceHash (Builtin.Tuple.tupleHashOf [Py w x.1,tupleKeyHash (bM prog w) x.2])
theorem qG.one{h:Heap}{a:zdg}{x y:Key×List Key}(hx:qG prog w h x a)(hy:qG prog w h y a):x=y:=by
 obtain⟨o,n,u,b,e,_,d,i,t⟩:=hx;obtain⟨o',n',u',b',e',_,d',i',t'⟩:=hy;rw[e] at e';cases e';rw[d] at d'
 injection d' with d1 _
 have d1:=congrArg zdf d1;simp only[List.cons.injEq,Value.ref.injEq,and_true] at d1;obtain⟨rfl,rfl⟩:=d1;exact Prod.ext ((bM prog w).inj _ _ _ i i') (t.inj t')
theorem qG.kp{h h':Heap}{x:Key×List Key}{a d:zdg}{o:Obj}{es ep}(hx:qG prog w h x a)(ho:h.get? d=some o)(hd:o.data=.dict es ep)(hs:Heap.SameBut d h h'):qG prog w h' x a:=by
 obtain⟨o',n,u,b,e,c,d',i,t⟩:=hx;have ne:a≠d:=fun z=>by
  rw[z,ho] at e;cases e;rw[hd] at d';cases d'
 exact⟨o',n,u,b,(hs.2 a ne).trans e,c,d',i,t.keeps ho hd hs⟩
variable{A:zdr}{E:zdh->zdq->Prop}{s:zdq}
theorem Nz{x:Key×List Key}{a:zdg}{Q:Int->zdq->Prop}(hu:A.units+8<cLine)(hk:qG prog w s.heap x a)(h:Q (Kl w prog x) {s with toks:=s.toks+(x.2.length+3)}) :
 wpAny (model prog w) A (pyHash (.ref a)) Q E s:=by
 have ty:=hk.ty;obtain⟨o,n,u,b,e,c,d,i,t⟩:=hk;refine PySem.W.pyHash_slot (T:="tuple") ty F.slot_tuple_hash F.entry_tuple_hash (F.args_tuple_hash_1 _) (beq_builtin_none _) (.inr (by lia)) ((show wpAny _ _ (Builtin.Tuple.tupleItemsOf (.ref a) >>= _) _ _ s from ?_));refine zdj (wpAny_tupleItemsOf e d (zdj ?_));rw[<- zcF];show wpAny _ _ (forIn [u,Value.ref b] #[] _) _ _ s;rw[za6];refine zdj (zdj ((bM prog w).pyHash i (zdk ?_)));show wpAny _ _ (forIn [Value.ref b] _ _) _ _ _;rw[za6];refine zdj (zdj (wpAny_pyHash_tuple (ks:=x.2) (by show A.units+1<cLine;lia) (show IsTupleKey (bM prog w) _ x.2 b from t) (zdk ?_)));show wpAny _ _ (forIn ([]:List zdh) _ _) _ _ _;rw[zbJ];refine zdk ?_;show wpAny _ _ (retInt (Builtin.Tuple.tupleHashOf [Py w x.1,tupleKeyHash (bM prog w) x.2])) _ _ _;refine zdj (wpAny_mkInt (zdk ⟨_,_,rfl,?_⟩));rw[show s.toks+(x.2.length+3)=s.toks+1+(x.2.length+1)+1 by lia] at h;exact h
theorem Uh{x y:Key×List Key}{a b:zdg}{Q:Bool->zdq->Prop}(hu:A.units+8<cLine)(hx:qG prog w s.heap x a)(hy:qG prog w s.heap y b)(h:Q (decide (x=y)) s):wpAny (model prog w) A (eqBool (.ref a) (.ref b)) Q E s:=by
 unfold eqBool
 try with_reducible refine zdl ?_
 show wpAny _ _ (if (Value.ref a==Value.ref b)=true then _ else _) Q E s;by_cases JV:(Value.ref a==Value.ref b)=true
 ·rw[if_pos JV];have e:a=b:=by have:=eq_of_beq JV;injection this
  subst e;cases hx.one hy;exact zdj (wpAny_rule (zdk (by simpa using h)))
 ·rw[if_neg JV];refine zdj (wpAny_richCompare_same_room (op:=.Eq) hx.ty hy.ty F.slot_tuple_eq (wpAny_call_entry F.slot_tuple_eq hx.ty F.entry_tuple_eq ?_ (F.args_tuple_eq_2 _ _)) (by lia));have hTb:=hy.ty;obtain⟨o1,n1,u1,b1,e1,c1,d1,i1,t1⟩:=hx;obtain⟨o2,n2,u2,b2,e2,c2,d2,i2,t2⟩:=hy;show wpAny _ _ (isInstance (.ref b) (.type "tuple") >>= _) _ _ s;refine zdj (wpAny_isInstance hTb isSubtype_tuple_tuple ?_);simp only[zbE,zaG,if_false];refine zdj (wpAny_tupleItemsOf e1 d1 (zdj (wpAny_tupleItemsOf e2 d2 (zdj ?_))));show wpAny _ _ (forIn [(u1,u2),(Value.ref b1,Value.ref b2)] _ _) _ _ s;have fin:∀c:Bool,c=decide (x=y)->∃v,(Fin.done (Flow.ret (Value.bool c)))=Fin.done (Flow.ret v)/\v≠Value.notImplemented/\wpAny (model prog w) A (truthOfDropped v) Q E s:=fun c hc=>⟨_,rfl,(fun z=>nomatch z),wpAny_truthy_bool (hc▸h)⟩
  rw[za6];refine zdj (zdj ((bM prog w).eqBool (a:=x.1) (b:=y.1) i1 i2 ?_));by_cases k1:x.1=y.1
  ·rw[decide_eq_true k1];simp only[zbE,zaG,if_false];refine zdk ?_;show wpAny _ _ (forIn [(Value.ref b1,Value.ref b2)] _ _) _ _ s;rw[za6];refine zdj (zdj (wpAny_eqBool_tuple (x:=x.2) (y:=y.2) (by show A.units+1<cLine;lia) t1 t2 ?_));by_cases k2:x.2=y.2
   ·rw[decide_eq_true k2];simp only[zbE,zaG,if_false];refine zdk ?_;show wpAny _ _ (forIn ([]:List (zdh×zdh)) _ _) _ _ s;rw[zbJ];exact zdk (zdk (fin true (decide_eq_true (Prod.ext k1 k2)).symm))
   ·rw[decide_eq_false k2];simp only[Bool.not_false,if_true];exact zdj (zdk (zdk (zdk (zdk (fin false (decide_eq_false fun z=>k2 (congrArg Prod.snd z)).symm)))))
  ·rw[decide_eq_false k1];simp only[Bool.not_false,if_true];exact zdj (zdk (zdk (zdk (zdk (fin false (decide_eq_false fun z=>k1 (congrArg Prod.fst z)).symm)))))
theorem DD(m:Nat){l:List Key}{b:zdg}{Q:Bool->zdq->Prop}(hk:IsTupleKey (bM prog w) s.heap l b)(h:Q true s):wpAny (model prog w) A (eqIsQuiet (m+1) (.ref b)) Q E s:=by
 have ty:=hk.typeIs;obtain⟨o,its,n,e,_,d,hi⟩:=hk;unfold eqIsQuiet;refine zdj (wpAny_specialOf ty F.slot_tuple_eq.lookup ((show wpAny _ _ (isInstance (.ref b) (.type "tuple") >>= _) _ _ s from ?_)));refine zdj (wpAny_isInstance ty isSubtype_tuple_tuple ?_);simp only[zbE,zaG,if_false];refine zdj (wpAny_seqItems e d (zdj ((show wpAny _ _ (forIn its _ _) _ _ s from ?_))));rw[<- zcF];have all:=hi.byValue;generalize its.toList=vs at all;refine wpAny_forIn_list _ (fun r (c:Option Bool×Unit) s'=>c.1=none/\s'=s/\∀v∈r,carriedByValue v=true) _ (fun v r c s' hv=>?_) (fun c s' hv=>?_) _ _ ⟨rfl,rfl,all⟩
 ·obtain⟨_,rfl,hv⟩:=hv;rw[eqIsQuiet_byValue _ (hv v (zav ..))];refine zdj (zdk ?_);simp only[zbE,zaG,if_false];exact zdk ⟨rfl,rfl,fun z hz=>hv z (zae _ hz)⟩
 ·obtain⟨c1,c2⟩:=c;obtain⟨hc,rfl,_⟩:=hv;cases (show c1=none from hc);exact zdk h
theorem Km{x:Key×List Key}{a:zdg}{Q:Bool->zdq->Prop}(hk:qG prog w s.heap x a)(h:Q true s):wpAny (model prog w) A (eqIsQuiet 8 (.ref a)) Q E s:=by
 have ty:=hk.ty;obtain⟨o,n,u,b,e,c,d,i,t⟩:=hk;unfold eqIsQuiet;refine zdj (wpAny_specialOf ty F.slot_tuple_eq.lookup ((show wpAny _ _ (isInstance (.ref a) (.type "tuple") >>= _) _ _ s from ?_)));refine zdj (wpAny_isInstance ty isSubtype_tuple_tuple ?_);simp only[zbE,zaG,if_false];refine zdj (wpAny_seqItems e d (zdj ?_));have key:∀ {z:zdh} {k:Key} {m:Nat},rz k z=true->eqIsQuiet m z=pure true:=fun {z k m} hz=>eqIsQuiet_byValue m ((bM prog w).byValue k z hz);show wpAny _ _ (forIn #[u,Value.ref b] _ _) _ _ s;rw[<- zcF];show wpAny _ _ (forIn [u,Value.ref b] _ _) _ _ s;rw[za6,key i];refine zdj (zdj (zdk ?_));simp only[zbE,zaG,if_false];refine zdk ?_;show wpAny _ _ (forIn [Value.ref b] _ _) _ _ s;rw[za6];refine zdj (zdj (DD 6 t ?_));simp only[zbE,zaG,if_false];refine zdk ?_;show wpAny _ _ (forIn ([]:List zdh) _ _) _ _ s;rw[zbJ];exact zdk (zdk h)
end
def QP (prog:zds) (w:zdi):HeapKind prog w (Key×List Key) where
 is:=qG prog w
 hash:=Kl w prog
 draws:=fun x=>x.2.length+3
 room:=fun A=>A.units+8<cLine
 inj:=fun hx hy=>hx.one hy
 keeps:=fun hx ho hd hs=>hx.kp ho hd hs
 pyHash:=fun hu hk h=>Nz hu hk h
 eqBool:=fun hu hx hy h=>Uh hu hx hy h
 quiet:=fun hk h=>Km hk h
structure KH(κ:Type)[DecidableEq κ] where
 knd:∀(P:zds) (w:zdi),HeapKind P w κ
 on:zaa->Hp->κ->zdg->Prop
 up:∀ {K:zaa} {H H':Hp} {x:κ} {a:zdg},(∀b ys,b8 K H b ys->b8 K H' b ys)->on K H x a->on K H' x a
 of:∀ {X:Cx} {pins:List (zdg×Obj)} {σ:St} {H:Hp} {s:zdq} {x:κ} {a:zdg},Inv X pins σ H s->on X.K H x a->(knd X.prog X.w).is s.heap x a
 room:∀ {P:zds} {w:zdi} {A:zdr},A.units+16<cLine->(knd P w).room A.in1
section
variable{κ:Type}[DecidableEq κ](J:KH κ)
def kS (P:zds) (w:zdi) (a:zdg) (xs:List (κ×zdg×zdh)):Heap->Prop:=fun h=>∃o es ep,h.get? a=some o/\o.ExactDict/\o.data=.dict es ep/\es.toList=xs.map (entryOfKey (J.knd P w))
abbrev KS (K:zaa) (H:Hp):List (κ×V)->List (κ×zdg×zdh)->Prop:=Paired fun p q=>p.1=q.1/\J.on K H p.1 q.2.1/\RelV p.2 q.2.2
structure DS(P:zds)(w:zdi)(K:zaa)(H:Hp)(a:zdg)(kvs:List (κ×V)):Prop where
 len:kvs.length<=zdo
 sys:(a==sysModules)=false
 at_:∃xs,H a=some (.ext (kS J P w a xs))/\KS J K H kvs xs/\(xs.map (·.1)).Nodup
variable{J}
section
variable{K:zaa}{H H':Hp}{kvs:List (κ×V)}{xs:List (κ×zdg×zdh)}
theorem KS.val(r:KS J K H kvs xs)(k:κ):qy (cE kvs k) ((atKey xs k).map (·.2)):=by
 induction r with
 |nil=>exact True.intro
 |@cons p q ps qs h t ih=>
  by_cases e:p.1=k
  ·rw[ck e,show atKey (q::qs) k=some q.2 by simp[atKey,h.1.symm.trans e]];exact h.2.2
  ·have e':¬q.1=k:=fun z=>e (h.1.trans z);rw[cm e,show atKey (q::qs) k=atKey qs k by simp[atKey,e']];exact ih
theorem KS.put(r:KS J K H kvs xs)(k:κ){b:zdg}{y:V}{u:zdh}(hb:J.on K H k b)(ry:RelV y u):KS J K H (putK kvs k y) (storedH xs k b u):=by
 have e:(kvs.any fun kv=>decide (kv.1=k))=(atKey xs k).isSome:=by rw[je,(r.val k).lW,zbS]
 unfold putK storedH;rw[e];by_cases q:(atKey xs k).isSome=true
 ·rw[if_pos q,if_pos q];clear e q
  induction r with
  |nil=>exact .nil
  |@cons p q ps qs h t ih=>
   refine .cons ?_ ih;dsimp only;unfold putAt;by_cases e:p.1=k
   ·rw[if_pos e];rw[if_pos (h.1.symm.trans e)];exact⟨h.1,h.2.1,ry⟩
   ·rw[if_neg e];rw[if_neg fun z=>e (h.1.trans z)];exact h
 ·rw[if_neg q,if_neg q];exact Paired.snoc r ⟨rfl,hb,ry⟩
theorem KS.up(r:KS J K H kvs xs)(t:∀b ys,b8 K H b ys->b8 K H' b ys):KS J K H' kvs xs:=Paired.uZ r fun _ _ z=>⟨z.1,J.up t z.2.1,z.2.2⟩
end
section
variable{X:Cx}{pins:List (zdg×Obj)}{σ:St}{H:Hp}{s:zdq}{a b:zdg}{v:V}{u r:zdh}{A:zdr}{E:zdh->zdq->Prop}{kvs:List (κ×V)}{k:κ}
theorem yH(I:Inv X pins σ H s){xs:List (κ×zdg×zdh)}(e:H a=some (.ext (kS J X.prog X.w a xs)))(r:KS J X.K H kvs xs)(nd:(xs.map (·.1)).Nodup):s.heap.DictOfH (J.knd X.prog X.w) a xs:=by
 obtain⟨⟨o,es,ep,h1,h2,h3,h4⟩, -⟩:=(show cX X.prog X.w H s.heap a (.ext (kS J X.prog X.w a xs)) from I.cI a _ e)
 refine⟨o,es,ep,h1,h2,h3,h4,?_,nd⟩;clear h4 nd e
 induction r with
 |nil=>intro x hx;cases hx
 |@cons p q ps qs hq t ih=>
  intro x hx;rcases zag.mp hx with rfl |hx
  ·exact J.of I (hq.1▸hq.2.1)
  ·exact ih x hx
theorem Kn{Q:zdh->zdq->Prop}(hu:A.units+16<cLine)(I:Inv X pins σ H s)(d:DS J X.prog X.w X.K H a kvs)(hk:J.on X.K H k b)(h:∀s',Inv X pins σ H s'->Q (.bool (!(cE kvs k).isSome)) s') :
 wpAny (model X.prog X.w) A (compareOp .NotIn (.ref b) (.ref a)) Q E s:=by
 obtain⟨z,sy,xs,e,r,nd⟩:=d;refine zcz (knd:=J.knd X.prog X.w) (J.room hu) (J.of I hk) sy (yH I e r nd) ?_;have q:=(r.val k).lW;rw[zbS] at q;rw[<- q];exact h _ (I.tok _)
theorem QQ{Q:zdh->zdq->Prop}(hu:A.units+16<cLine)(I:Inv X pins σ H s)(d:DS J X.prog X.w X.K H a kvs)(hk:J.on X.K H k b)(l:cE kvs k=some v)(h:∀w' s',Inv X pins σ H s'->RelV v w'->Q w' s') :
 wpAny (model X.prog X.w) A (getItem (.ref a) (.ref b)) Q E s:=by
 obtain⟨z,sy,xs,e,r,nd⟩:=d;obtain⟨w',hw,Di⟩:=qy.some_of (v:=v) (o:=(atKey xs k).map (·.2)) (by rw[<- l];exact r.val k);obtain⟨p,hp,wb⟩:=zci.mp hw;refine wpAny_getItem_heap (knd:=J.knd X.prog X.w) (J.room hu) (J.of I hk) (yH I e r nd) hp ?_;rw[wb];exact h w' _ (I.tok _) Di
theorem b8.ext{K:zaa}{H:Hp}{a c:zdg}{φ:Heap->Prop}{o:HO}{ys:List V}(h:b8 K H c ys)(e:H a=some (.ext φ)):b8 K (upd H a o) c ys:=by
 rcases h with (q |⟨o',q⟩) |q
 ·exact .inl (.inl (by rw[aw (cQ q e (by intro z;cases z))];exact q))
 ·exact .inl (.inr ⟨o',by rw[aw (cQ q e (by intro z;cases z))];exact q⟩)
 ·exact .inr q
theorem QR{Q:Unit->zdq->Prop}(hu:A.units+16<cLine)(I:Inv X pins σ H s)(d:DS J X.prog X.w X.K H a kvs)(hk:J.on X.K H k b)(l:kvs.length<zdo)(rv:RelV v r)
 (h:∀s' H',Inv X pins σ H' s'->DS J X.prog X.w X.K H' a (putK kvs k v)->(∃φ,H'=upd H a (.ext φ))->Q () s') :
 wpAny (model X.prog X.w) A (setItem (.ref a) (.ref b) r) Q E s:=by
 obtain⟨z,sy,xs,e,rel,nd⟩:=d;have hz:xs.length<=zdo:=by rw[<- Paired.length rel];exact z
 have hl:(putK kvs k v).length<=zdo:=by have:=jf kvs k v;lia
 refine wpAny_setItem_heap (knd:=J.knd X.prog X.w) (hsz:=hz) (J.room hu) (J.of I hk) (yH I e rel nd) fun h' MW hs=>?_;obtain⟨q,es,ep,hq,h2,h3,h4,_,h5⟩:=MW;have ph:kS J X.prog X.w a (storedH xs k b r) h':=⟨q,es,ep,hq,h2,h3,h4⟩
 refine h _ (upd H a (.ext (kS J X.prog X.w a (storedH xs k b r)))) (rM I (by rw[e];exact True.intro) hs ⟨q,hq⟩ ⟨ph,⟨q,hq⟩,fun g1 g2 p1 kp=>?_⟩) ⟨hl,sy,_,ah,(rel.put k hk rv).up fun c ys ec=>ec.ext e,h5⟩ ⟨_,rfl⟩;obtain⟨o,es,ep,h1,h2,h3,h4⟩:=p1;exact⟨o,es,ep,kp o h1,h2,h3,h4⟩
end
theorem DS.GP{P:zds}{w:zdi}{K:zaa}{H H':Hp}{a:zdg}{kvs:List (κ×V)}(d:DS J P w K H a kvs)(e:∀o,H a=some o->H' a=some o)(t:∀b ys,b8 K H b ys->b8 K H' b ys):DS J P w K H' a kvs:=⟨d.len,d.sys,let ⟨xs,h,r,nd⟩:=d.at_;⟨xs,e _ h,r.up t,nd⟩⟩
theorem DS.mono{P:zds}{w:zdi}{K:zaa}{H H':Hp}{a:zdg}{kvs:List (κ×V)}(d:DS J P w K H a kvs)(s:aq H H'):DS J P w K H' a kvs:=d.GP (fun o h=>s _ _ h) fun b ys q=>s.aZ q
section
variable{X:Cx}{o i value:Expr}{pos pos':Pos}{td ty tv:TE}
def DE (J:KH κ) (P:zds) (w:zdi):TE:=fun _ H Q=>∀p,H p=none->(p==sysModules)=false->Q (.ref p) (upd H p (.ext (kS J P w p [])))
theorem QS{P:zds}{w:zdi}{K:zaa}{H:Hp}{p:zdg}(h:(p==sysModules)=false):DS J P w K (upd H p (.ext (kS J P w p []))) p []:=⟨za2 _,h,[],ah,.nil,zc0⟩
theorem Ko:PE X (.Dict [] [] pos) (DE J X.prog X.w):=fun pins s σ H Q I h=>by
 have big:=I.big;refine wpAny_Dict_empty ⟨.ref s.heap.objs.size,_,I.laid (a:=s.heap.objs.size) (o:=.ext (kS J X.prog X.w s.heap.objs.size [])) (t':=s.toks) (fun _ _ q=>Heap.get?_push_of_some _ q) (zaj _) ⟨⟨_, #[],0,Heap.get?_push_size _ rfl,⟨rfl,rfl,rfl⟩,rfl,rfl⟩,⟨_,Heap.get?_push_size _ rfl⟩,fun g1 g2 p1 kp=>?_⟩,rfl,h _ (I.cI.fresh (zaj _)) (beq_eq_false_iff_ne.mpr (Ne.symm (zay big)))⟩;obtain⟨ob,es,ep,h1,h2,h3,h4⟩:=p1;exact⟨ob,es,ep,kp ob h1,h2,h3,h4⟩
theorem tX(hu:X.A.units+16<cLine):nZ X (compareOp .NotIn) (fun x y H Q=>∃(a b:zdg) (kvs:List (κ×V)) (k:κ),x=.ref b/\y=.ref a/\DS J X.prog X.w X.K H a kvs/\J.on X.K H k b/\Q (.bl (!(cE kvs k).isSome)) H):=by
 intro pins s σ H x y v u Q I rx ry h;obtain⟨a,b,kvs,k,rfl,rfl,d,hk,q⟩:=h;cases rx;cases ry;exact Kn hu I d hk fun s' I'=>⟨.bl (!(cE kvs k).isSome),H,I',rfl,q⟩
def DF (J:KH κ) (P:zds) (w:zdi) (K:zaa) (td ty tv:TE):TS:=fun D σ H=>tv σ H fun v H1=>td σ H1 fun x H2=>ty σ H2 fun y H3=>∃(a b:zdg) (kvs:List (κ×V)) (k:κ),x=.ref a/\y=.ref b/\DS J P w K H3 a kvs/\J.on K H3 k b/\kvs.length<zdo/\
 ∀H4,DS J P w K H4 a (putK kvs k v)->(∃φ,H4=upd H3 a (.ext φ))->D.nx σ H4
theorem Kq(hu:X.A.units+16<cLine)(ho:PE X o td)(hi:PE X i ty)(hv:PE X value tv)(hs:swapsWith value (some (.Subscript o i pos')) pos.line X.env=pure false):PS X (.Assign [.Subscript o i pos'] value pos) (DF J X.prog X.w X.K td ty tv):=by
 intro pins s σ H D I h;refine wpAny_Assign_Subscript (dU (hv pins s σ H _ I h) fun r s1 zqz=>?_) hs;obtain⟨v,H1,I1,rv,q1⟩:=zqz;refine dU (ho pins s1 σ H1 _ I1 q1) fun u s2 zqz=>?_;obtain⟨x,H2,I2,rx,q2⟩:=zqz;refine dU (hi pins s2 σ H2 _ I2 q2) fun iv s3 zqz=>?_;obtain⟨y,H3,I3,ry,a,b,kvs,k,ex,ey,d,hk,l,q3⟩:=zqz;subst ex ey;cases rx;cases ry;exact QR hu I3 d hk l rv fun s4 H4 I4 d4 e4=>⟨σ,H4,I4,q3 H4 d4 e4⟩
def DG (J:KH κ) (P:zds) (w:zdi) (K:zaa) (td ty:TE):TE:=fun σ H Q=>td σ H fun x H1=>ty σ H1 fun y H2=>∃(a b:zdg) (kvs:List (κ×V)) (k:κ) (v:V),x=.ref a/\y=.ref b/\DS J P w K H2 a kvs/\J.on K H2 k b/\cE kvs k=some v/\Q v H2
theorem Kr(hu:X.A.units+16<cLine)(ho:PE X o td)(hi:PE X i ty)(hs:Qy i):PE X (.Subscript o i pos) (DG J X.prog X.w X.K td ty):=by
 intro pins s σ H Q I h;refine ER PySem.F.slot_dict_getitem.lookup hs (dU (ho pins s σ H _ I h) fun u s1 zqz=>?_);obtain⟨x,H1,I1,rx,q1⟩:=zqz;refine dU (hi pins s1 σ H1 _ I1 q1) fun iv s2 zqz=>?_;obtain⟨y,H2,I2,ry,a,b,kvs,k,v,ex,ey,d,hk,l,q2⟩:=zqz;subst ex ey;cases rx;cases ry;have dd:=d;obtain⟨z,sy,xs,e,r,nd⟩:=dd;exact⟨(yH I2 e r nd).typeIs,QQ hu I2 d hk l fun w' s3 I3 Di=>⟨v,H2,I3,Di,q2⟩⟩
end
end
abbrev jA:=Key×List Key
def SkH (K:zaa) (H:Hp) (x:jA) (a:zdg):Prop:=∃b,b8 K H a [kV x.1,.ref b]/\b8 K H b (x.2.map kV)
def qH:KH jA where
 knd:=QP
 on:=SkH
 up:=fun t ⟨b,h1,h2⟩=>⟨b,t _ _ h1,t _ _ h2⟩
 of:=fun {X pins σ H s x a} I ⟨c,h1,h2⟩=>by
  obtain⟨i1,r1,⟨o1,e1,c1,n1,d1⟩,_⟩:=I.tuple h1;obtain⟨i2,r2,⟨o2,e2,c2,n2,d2⟩,_⟩:=I.tuple h2;obtain⟨u1,u2,rfl,q1,q2⟩:=vals2 r1;cases (show u2=Value.ref c from q2);exact⟨o1,n1,u1,c,e1,c1,d1,v9 (P:=X.prog) (w:=X.w) q1,o2,i2.toArray,n2,e2,c2,d2,by simpa using tO r2⟩
 room:=fun {P w A} h=>by show A.units+1+8<cLine;lia
def jG (h:Heap) (d:zdg) (es:Array DictEntry) (ep:Nat):Prop:=∃o,h.get? d=some o/\o.ExactDict/\o.data=.dict es ep
section
variable{prog:zds}{w:zdi}{A:zdr}{E:zdh->zdq->Prop}{s:zdq}{d it:zdg}{es:Array DictEntry}{ep i:Nat}
theorem jG.ty(x:jG s.heap d es ep):s.TypeIs (.ref d) "dict":=by obtain⟨o,g,c,_⟩:=x;exact⟨o,g,c.1⟩
theorem jG.GP{h h':Heap}(x:jG h d es ep)(e:∀o,h.get? d=some o->h'.get? d=some o):jG h' d es ep:=by obtain⟨o,g,r⟩:=x;exact⟨o,e _ g,r⟩
theorem jG.lt{h:Heap}(x:jG h d es ep):d<h.objs.size:=by obtain⟨_,g,_⟩:=x;exact Heap.lt_size g
theorem BI{Q:zdh->zdq->Prop}(hd:(d==sysModules)=false)(x:jG s.heap d es ep)
 (q:Q (.ref s.heap.objs.size) {s with heap:=s.heap.push {cls:=.type "dict_keyiterator",data:=.fields #[.ref d,.int 0 0,.int es.size 0,.int ep 0]} }):wpAny (model prog w) A (pyIter (.ref d)) Q E s:=by
 have Yq:=x.ty;obtain⟨od,gd,cd,dd⟩:=x;refine wpAny_pyIter_slot Yq F.slot_dict_iter (wpAny_call_entry F.slot_dict_iter Yq F.entry_dict_iter ?_ (F.args_dict_iter_1 _));unfold Builtin.«dict.__iter__» Builtin.Dict.dictSlotNone;refine zdj (zdj (wpAny_notOrdered_dict Yq ?_));show wpAny _ _ (pure (Value.ref d)) _ _ s;refine zdk ?_;show wpAny _ _ (Builtin.Dict.showsAll d >>= _) _ _ s;unfold Builtin.Dict.showsAll;rw[if_neg (by rw[hd];exact zal)];refine zdj (zdk (zdj (wpAny_dictEntries gd dd (zdj (wpAny_dictEpoch gd dd ?_)))));refine zdj (wpAny_newObj_type (zdk ⟨_,rfl, "dict_keyiterator",_,⟨_,Heap.get?_push_size _ rfl,rfl⟩,F.slot_dict_keyiterator_next.lookup,?_⟩));simpa[rawInt] using q
theorem BJ{Q:Option zdh->zdq->Prop}(x:s.heap.IsKeyIter it d i es.size ep)(y:jG s.heap d es ep)(li:i<es.size)
 (q:∀h',h'.IsKeyIter it d (i+1) es.size ep->Heap.SameBut it s.heap h'->Q (some es[i].key) {s with heap:=h' }):wpAny (model prog w) A (pyNext (.ref it)) Q E s:=by
 have Mm:=x.typeIs;obtain⟨oi,gi,ci,di⟩:=id x;obtain⟨od,gd,_,dd⟩:=id y;have ow:Builtin.Dict_items.ownsTuple "dict_keyiterator"=false:=by decide
 unfold pyNext;refine zdj (wpAny_attempt (wpAny_callSpecial?_slot (name:=zab "__next__") Mm F.slot_dict_keyiterator_next (wpAny_call_entry F.slot_dict_keyiterator_next Mm F.entry_dict_keyiterator_next ?_ (F.args_dict_keyiterator_next_1 _))));refine zdj (zdk (zdj (zdj ?_)));refine zdj (wpAny_typeNameOfWhole_keyiter Mm (zdk (zdj (wpAny_fieldsOf gi di ?_))));simp only[ow,zaG,if_false];show wpAny _ _ (if (Value.ref d==Value.none)=true then _ else _) _ _ s;rw[if_neg (show ¬((Value.ref d==Value.none)=true) from zal)];refine zdj (zdk (zdj (wpAny_dictEntries gd dd ?_)));rw[if_neg (by simp)];refine zdj (zdk (zdj (wpAny_dictEpoch gd dd ?_)));rw[if_neg (by simp)];refine zdk ?_;simp only[show ¬((i:Int)<0) from by lia,if_false,zaR,zbq li];refine zdj (zdj (wpAny_typeNameOfWhole_keyiter Mm (zdk (zdj (wpAny_isOneOf_keyiter Mm ?_)))));show wpAny _ _ (setField (.ref it) 1 (rawInt ((i:Int)+1)) >>= _) _ _ s;refine zdj (wpAny_setField gi di (by simp) ?_);have z:(s.heap.update it (Obj.mapFields (·.setIfInBounds 1 (rawInt ((i:Int)+1))))).IsKeyIter it d (i+1) es.size ep:=
  ⟨_,Heap.get?_update_self _ gi (Obj.isFreed_of_fields (Obj.data_mapFields di _)),(Obj.cls_mapFields ..).trans ci,by rw[Obj.data_mapFields di];simp[rawInt]⟩
 refine zdj (zdl (zdj (wpAny_isOneOf_keyiter (s:={s with heap:=s.heap.update it (Obj.mapFields (·.setIfInBounds 1 (rawInt ((i:Int)+1))))}) z.typeIs ?_)));show wpAny _ _ (pure es[i].key) _ _ _;exact zdk (zdk ⟨_,rfl,zdk (q _ z (Heap.SameBut.update ..))⟩)
theorem Fp{Q:Option zdh->zdq->Prop}(hA:A.handled=none)(x:s.heap.IsKeyIter it d i es.size ep)(y:jG s.heap d es ep)(li:es.size<=i)
 (q:∀h',Heap.ExtBut it s.heap h'->Q none {s with heap:=h' }):wpAny (model prog w) A (pyNext (.ref it)) Q E s:=by
 have Mm:=x.typeIs;obtain⟨oi,gi,ci,di⟩:=id x;obtain⟨od,gd,_,dd⟩:=id y;have ow:Builtin.Dict_items.ownsTuple "dict_keyiterator"=false:=by decide
 unfold pyNext;refine zdj (wpAny_attempt (wpAny_callSpecial?_slot (name:=zab "__next__") Mm F.slot_dict_keyiterator_next (wpAny_call_entry F.slot_dict_keyiterator_next Mm F.entry_dict_keyiterator_next ?_ (F.args_dict_keyiterator_next_1 _))));refine zdj (zdk (zdj (zdj ?_)));refine zdj (wpAny_typeNameOfWhole_keyiter Mm (zdk (zdj (wpAny_fieldsOf gi di ?_))));simp only[ow,zaG,if_false];show wpAny _ _ (if (Value.ref d==Value.none)=true then _ else _) _ _ s;rw[if_neg (show ¬((Value.ref d==Value.none)=true) from zal)];refine zdj (zdk (zdj (wpAny_dictEntries gd dd ?_)));rw[if_neg (by simp)];refine zdj (zdk (zdj (wpAny_dictEpoch gd dd ?_)));rw[if_neg (by simp)];refine zdk ?_;simp only[show ¬((i:Int)<0) from by lia,if_false,zaR,Array.getElem?_eq_none li];refine zdj (zdj (wpAny_typeNameOfWhole_keyiter Mm (zdk ?_)));show wpAny _ _ (setField (.ref it) 0 .none >>= _) _ _ s;refine zdj (wpAny_setField gi di (by simp) ?_);show wpAny _ _ (newExc (.type "StopIteration") [] >>= _) _ _ _;refine zdj ?_;simp only[newExc,newTuple];refine zdj (wpAny_newObj_type (zdj (m:=firstArgMember _ _) (wpAny_of_eq (a:=Value.none) (by first |rfl |(simp only[firstArgMember];rfl)) (wpAny_newObj_type ?_ (by size_fits)))) (by size_fits));simp only[raiseNew];refine zdj (wpAny_handled ?_);rw[show A.in1.handled=none from hA];refine zdj (zdk (wpAny_throw (zdj ?_)));refine wpAny_isInstance (T:="StopIteration") (b:=true) ⟨_,Heap.get?_push_size _ rfl,rfl⟩ isSubtype_stop ?_;exact zdk (q _ (((Heap.SameBut.update ..).extBut.push _).push _))
theorem GQ(hA:A.handled=none)(I d:zdg)(n:d≠I)(es:Array DictEntry)(ep:Nat):Walks prog w A I [I,d] [I] es.size (fun i v=>∃e,es[i]?=some e/\v=e.key) (fun i h=>h.IsKeyIter I d i es.size ep/\jG h d es ep) where
 sub:=fun b hb=>zag.mpr (.inl (zap.mp hb))
 frame:=fun _ _ _ z k=>⟨z.1.at fun o e=>k I (by simp) o e,z.2.GP fun o e=>k d (by simp) o e⟩
 item:=fun i s Q E hi z q=>BJ z.1 z.2 hi fun h' a b=>q _ h' s.toks ⟨_,zbq hi,rfl⟩ ⟨a,z.2.GP fun o e=>b.extBut d o n e⟩ fun c o nc e=>b.extBut c o (fun h=>nc (by simp[h])) e
 done:=fun s Q E z q=>Fp hA z.1 z.2 (zaj _) fun h' a=>q h' s.toks fun c o nc e=>a c o (fun h=>nc (by simp[h])) e
 self:=fun _ _ _ _ z q=>wpAny_pyIter_keyiter z.1 q
theorem NA(lo:(d==sysModules)=false):PySem.W.KdlSrc prog w "dict" d d es.size (fun i v=>∃e,es[i]?=some e/\v=e.key) (fun h=>jG h d es ep) where
 type:=fun _ m=>m.ty
 there:=fun _ m=>⟨m.lt,m.lt⟩
 keep:=fun _ _ m k=>m.GP fun o e=>k d (.inl rfl) o e
 notList:=by decide
 notTuple:=by decide
 hint:=fun _ _ _ _ m q=>PySem.W.kdl_hint_dict m.ty q
 iter:=fun _ _ hA m=>⟨_,_,(fun _ _ q=>BI lo m q),GQ hA _ d (zay m.lt) es ep,⟨⟨_,Heap.get?_push_size _ rfl,rfl,rfl⟩,m.GP fun o e=>Heap.get?_push_of_some _ e⟩⟩
end
section
variable{κ:Type}[DecidableEq κ]{J:KH κ}{X:Cx}
theorem DH(hc:X.calm=true):jE X (.type "list") (fun xs H Q=>∃(a:zdg) (kvs:List (κ×V)),xs=[.ref a]/\DS J X.prog X.w X.K H a kvs/\∀l us,H l=none->Paired (fun (p:κ×V) (v:V)=>∃b,v=.ref b/\J.on X.K H p.1 b) kvs us->Q (.ref l) (upd H l (.lst us))):=by
 intro pins s σ H xs us Q I r h;obtain⟨a,kvs,rfl,⟨z,sy,ks,e,rel,nd⟩,q⟩:=h;obtain⟨u,rfl,ru⟩:=vals1 r;cases (show u=Value.ref a from ru);obtain⟨o,es,ep,h1,h2,h3,h4,_,_⟩:=yH I e rel nd;have le:es.size=kvs.length:=by rw[<- za0,h4,zac,Paired.length rel]
 have hA:X.A.handled=none:=I.ok.hd hc;refine PySem.W.kdl_call (NA sy) hA (⟨o,h1,h2,h3⟩:jG s.heap a es ep) (by rw[le];exact z) fun h' tk acc c kp gl it=>?_;have key:∀(kvs:List (κ×V)) (ks:List (κ×zdg×zdh)),KS J X.K H kvs ks->Paired (fun (p:κ×V) (v:V)=>∃b,v=.ref b/\J.on X.K H p.1 b) kvs (ks.map fun k=>V.ref k.2.1)/\Vals (ks.map fun k=>V.ref k.2.1) (ks.map fun k=>Value.ref k.2.1):=fun kvs ks r=>by
  induction r with
  |nil=>exact⟨.nil,.nil⟩
  |cons x _ ih=>exact⟨.cons ⟨_,rfl,x.2.1⟩ ih.1,.cons rfl ih.2⟩
 obtain⟨k1,k2⟩:=key _ _ rel;have ea:acc.toList=ks.map fun k=>Value.ref k.2.1:=by
  have l1:acc.toList.length=ks.length:=by rw[za0,it.1,<- za0,h4,zac]
  refine List.ext_getElem? fun j=>?_;by_cases hj:j<ks.length
  ·have Wn:j<acc.size:=by rw[<- za0,l1];exact hj
   obtain⟨e,he,hv⟩:=it.2 j acc[j] (zbq Wn);rw[<- zaN,h4,zar,zad hj] at he;cases he;rw[zaN,zbq Wn,hv,zar,zad hj];rfl
  ·rw[za5 (by lia),za5 (by rw[zac];lia)]
 refine⟨.ref s.heap.objs.size,_,I.laid (t':=tk) kp (zaj _) (show cX X.prog X.w _ h' _ (.lst (ks.map fun k=>V.ref k.2.1)) from ⟨?_,acc.toList,c,by rw[ea];exact k2,by simpa using gl⟩),rfl,q _ _ (I.cI.fresh (zaj _)) k1⟩;rw[zac,<- Paired.length rel];exact z
end
end L2
namespace PG
section
variable{β:Type}(ask:Int->Bool)(step:Int->List Int->Int->Option (Int×List Int)×Option Int)(tg:Int×List Int->List β)
abbrev bH:=Int×List Int
variable{ask step tg}
variable{s0 s s':bH×List Int}{ms ms':List β}{seen:List bH}
end
theorem yI{α:Type}[DecidableEq α]:∀(xs ys:List α),xs.Nodup->(∀x∈xs,x∈ys)->xs.length<=ys.length
 |[],ys,_,_=>za2 _
 |x::r,ys,h,q=>by
  obtain⟨nx,nr⟩:=zam.mp h;have hx:=q x (zav ..);have:=yI r (ys.erase x) nr fun y hy=>(List.mem_erase_of_ne (fun e:y=x=>nx (e▸hy))).mpr (q y (zae _ hy));have l:=List.length_erase_of_mem hx;have p:=List.length_pos_of_mem hx;simp only[zaf];lia
def iH:List Int->List (List Int)
 |[]=>[[]]
 |s::r=>(zaF s.toNat).flatMap fun (v:Nat)=>(iH r).map fun t=>((v:Int)::t)
def j8:List Int->List Int->Prop
 |[],[]=>True
 |s::r,v::t=>(0<=v/\v<s)/\j8 r t
 |[],_::_=>False
 |_::_,[]=>False
theorem j8.mem:∀ {ss vs:List Int},j8 ss vs->vs∈iH ss
 |[],[],_=>by simp[iH]
 |s::r,v::t,h=>by
  rw[j8] at h;simp only[iH,zbA,zbd,zau];exact⟨v.toNat,by lia,t,h.2.mem,by rw[zb2 h.1.1]⟩
 |[],v::t,h=>by rw[j8] at h;exact h.elim
 |s::r,[],h=>by rw[j8] at h;exact h.elim
theorem j8.set:∀ {ss vs:List Int} (i:Nat) (v:Int),j8 ss vs->(∀s,ss[i]?=some s->0<=v/\v<s)->j8 ss (vs.set i v)
 |[],[],i,v,h,_=>h
 |s::r,u::t,0,v,h,q=>by
  rw[j8] at h;rw[List.set_cons_zero,j8];exact⟨q s rfl,h.2⟩
 |s::r,u::t,i+1,v,h,q=>by
  rw[j8] at h;rw[List.set_cons_succ,j8];exact⟨h.1,h.2.set i v fun z hz=>q z (by simpa using hz)⟩
 |[],u::t,i,v,h,q=>by rw[j8] at h;exact h.elim
 |s::r,[],i,v,h,q=>by rw[j8] at h;exact h.elim
def univ (rows ss:List Int):List bH:=(0::rows).flatMap fun r=>(iH ss).map fun v=>(r,v)
theorem Ks{rows ss:List Int}{s:bH}(h:s.1=0\/s.1∈rows)(q:j8 ss s.2):s∈univ rows ss:=by
 simp only[univ,zbA,zau,zag];exact⟨s.1,h,s.2,q.mem,rfl⟩
theorem Kt(rows ss:List Int):(univ rows ss).length=(rows.length+1)*(iH ss).length:=by
 have k:∀l:List Int,(l.flatMap fun r=>(iH ss).map fun v=>((r,v):bH)).length=l.length*(iH ss).length:=fun l=>by
  induction l with
  |nil=>simp
  |cons a r ih=>rw[zbT,zai,ih];simp[zcu,zcv]
 rw[univ,k];simp
end PG
namespace L2
open PG
open PySem
def FH (K:zaa) (x:Str) (st:Stmt) (f:zdg):Prop:=zaJ K zdn x=some (some (.ref f))/\∃fd,Im K x x st f fd
theorem FH.of{K:zaa}{x:Str}{st:Stmt}{f:zdg}{oc:zdh}{od an:Option zdg}{EL:Array (Option zdh)}{kV doc pm eS ct:zdh}(a:zaJ K zdn x=some (some (.ref f)))(l:K.lookup f=some ⟨oc,od,.func (zbw x x (kO st) (gJ st) (aE st) .none kV doc pm an eS ct),EL⟩)
 (c:zcd K eS x=true) (k:zbB K (.ref f)=true):FH K x st f:=⟨a,_,Jh l c k⟩
theorem Ku{α:Type}{P:List α->Prop}(h:∀a,P [a])(us:List α)(e:us.length=1):P us:=match us,e with |[a],_=>h a
theorem xG{α:Type}{P:List α->Prop}(h:∀a b,P [a,b])(us:List α)(e:us.length=2):P us:=match us,e with |[a,b],_=>h a b
theorem Sf{α:Type}{P:List α->Prop}(h:∀a b c,P [a,b,c])(us:List α)(e:us.length=3):P us:=match us,e with |[a,b,c],_=>h a b c
theorem Yr{α:Type}{P:List α->Prop}(h:∀a b c d,P [a,b,c,d])(us:List α)(e:us.length=4):P us:=match us,e with |[a,b,c,d],_=>h a b c d
theorem bn5{α:Type}{P:List α->Prop}(h:∀a b c d f,P [a,b,c,d,f])(us:List α)(e:us.length=5):P us:=match us,e with |[a,b,c,d,f],_=>h a b c d f
theorem me{K:zaa}{mg:Str->Option zdh}{h:Heap}{x:Str}{st:Stmt}{f:zdg}{ps:List Str}(X:K.In h)(G:h.Ns zdn mg)(q:FH K x st f)
 (b:∀(kV doc pm:zdh) (an:Option zdg) (eS ct:zdh) (us:List zdh),us.length=ps.length->bindArgs (zbw x x (kO st) (gJ st) (aE st) .none kV doc pm an eS ct) ⟨us,[]⟩=pure (ps.zip us)):∃fd,cu K mg x st ps f fd:=
 let ⟨a,fd,F⟩:=q
 ⟨fd,F,F.binds b,zbF X G a⟩
theorem QT{A:zdr}{k:Nat}(hr:gQ k A):A.units+16<cLine:=by have:=zJ hr;lia
theorem Kv{CX:AV}{P:zds}{w:zdi}{K:zaa}{mg:Str->Option zdh}{base:Heap}{N:List Str}{qual:Str}{scope:Scope}{f:zdg}{cd:zdh}{A:zdr}{outer:List Env}{s:zdq}{H:Hp}{E:XK}:(mQ CX P w K mg base N qual scope f cd A outer s H E).prog=P:=rfl
theorem Kw{CX:AV}{P:zds}{w:zdi}{K:zaa}{mg:Str->Option zdh}{base:Heap}{N:List Str}{qual:Str}{scope:Scope}{f:zdg}{cd:zdh}{A:zdr}{outer:List Env}{s:zdq}{H:Hp}{E:XK}:(mQ CX P w K mg base N qual scope f cd A outer s H E).w=w:=rfl
theorem NB{tt:TT}{a b:TS}{D:Ends}{σ:St}{H:Hp}(h:∀U:St->Hp->Prop,(∀σ' H',U σ' H'↔a D σ' H')->tt σ H fun c H1=>if c=true then U σ H1 else b D σ H1):II tt a b D σ H:=h (a D) fun _ _=>Iff.rfl
def Ys (K:zaa):R2:=fun x y H Q=>∃d es,Rep K H d x/\Rep K H (.lst es) y/\d.py.canLay0=true/\PyData.canLayAll0 (Dp.n9 es)=true/\d.py.depth<=60/\Q (.bl ((Dp.n9 es).any fun e=>PyData.eqv e d.py)) H
theorem QU{X:Cx}(hu:X.A.units+64<cLine):nZ X (compareOp .In) (Ys X.K):=by
 intro pins s σ H x y v u Q I rx ry h;obtain⟨d,es,h1,h2,c1,c2,hd,q⟩:=h;obtain⟨as,ra⟩:=kj I h1 rx;obtain⟨bs,rb⟩:=kj I h2 ry;rw[show (Dp.lst es).py=PyData.list (Dp.n9 es) from by rw[Dp.py]] at rb;exact SeqAt.in_list_reads rb ra c2 c1 (by have:=zcm (PyData.depthAll (Dp.n9 es)) d.py.depth;lia) ⟨.bl _,H,I,rfl,q⟩
theorem NC{α:Type}{xs:List α}{v:α}(h:xs[xs.length-1]?=some v):tK xs (-1)=some v:=by
 rw[<- List.getLast?_eq_getElem?] at h;obtain⟨ys,rfl⟩:=List.getLast?_eq_some_iff.mp h;exact lV _ _
def fX (s:bH):jA:=(.inl s.1,s.2.map .inl)
theorem oI{a b:bH}(h:fX a=fX b):a=b:=by
 obtain⟨a1,a2⟩:=a;obtain⟨b1,b2⟩:=b;simp only[fX,Prod.mk.injEq,Sum.inl.injEq] at h;obtain⟨rfl,h⟩:=h;have h:=(List.map_inj_right (fun x y (e:(Sum.inl x:Key)=.inl y)=>Sum.inl.inj e)).mp h;rw[h]
theorem yJ(l:List Int):(l.map (Sum.inl:Int->Key)).map kV=l.map V.int:=by rw[zaQ];rfl
theorem pZ{K:zaa}{H:Hp}{a:zdg}{s:bH}(h:bQ K H a s.1 s.2):qH.on K H (fX s) a:=by obtain⟨b,h1,h2⟩:=h;exact⟨b,h1,by rw[fX,yJ];exact h2⟩
theorem DI{K:zaa}{H:Hp}{a:zdg}{s:bH}(h:qH.on K H (fX s) a):bQ K H a s.1 s.2:=by obtain⟨b,h1,h2⟩:=h;exact⟨b,h1,by rw[fX,yJ] at h2;exact h2⟩
theorem QV(a b:Tg):PyData.eqv (gR a).py (gR b).py=decide (a=b):=by
 have s1:(zab "row"==zab "must")=false:=by decide +kernel
 have s2:(zab "must"==zab "row")=false:=by decide +kernel
 have i1:∀x y:Int,(x==y)=decide (x=y):=fun x y=>rfl;have i2:∀x y:Bool,(x==y)=decide (x=y):=fun x y=>by cases x<;>cases y<;>rfl
 cases a<;>cases b<;>simp[gR,Dp.py,Dp.n9,PyData.eqv,PyData.eqvAll,s1,s2,i1,i2]
theorem QW(l:List Tg)(t:Tg):((Dp.n9 (l.map gR)).any fun e=>PyData.eqv e (gR t).py)=decide (t∈l):=by
 induction l with
 |nil=>rfl
 |cons a r ih=>
  rw[zaq,Dp.n9,zbx,ih,QV];by_cases e:a=t
  ·simp[e]
  ·simp[e,Ne.symm e]
theorem Kx(t:Tg):(gR t).py.canLay0=true/\(gR t).py.depth<=60:=by
 have:=Ds [t];simp only[zaq,zaP,Dp.n9,PyData.canLayAll0,PyData.depthAll,zck] at this;exact⟨this.1,by lia⟩
section
variable{κ:Type}[DecidableEq κ]{J:KH κ}{P:zds}{w:zdi}{K:zaa}{H H':Hp}{a b p C dx:zdg}{kvs:List (κ×V)}{φ:Heap->Prop}{fs:List (Str×V)}{xs:List V}
theorem DS.BK(d:DS J P w K H a kvs):∃φ,H a=some (.ext φ):=by obtain⟨xs,h,_⟩:=d.at_;exact⟨_,h⟩
theorem b8.qI(h:b8 K H a xs)(hb:H b=some (.ext φ))(u:bo b H H'):b8 K H' a xs:=by
 rcases h with (q |⟨o',q⟩) |q
 ·exact .inl (.inl (u _ _ (cQ q hb (by intro z;cases z)) q))
 ·exact .inl (.inr ⟨o',u _ _ (cQ q hb (by intro z;cases z)) q⟩)
 ·exact .inr q
theorem DS.other(d:DS J P w K H a kvs)(hb:H b=some (.ext φ))(n:a≠b)(u:bo b H H'):DS J P w K H' a kvs:=d.GP (fun o h=>u _ _ n h) fun c ys q=>q.qI hb u
theorem bQ.ext{row:Int}{vals:List Int}(h:bQ K H a row vals)(hb:H b=some (.ext φ))(u:bo b H H'):bQ K H' a row vals:=by obtain⟨va,h1,h2⟩:=h;exact⟨va,h1.qI hb u,h2.qI hb u⟩
end
def cN (pr:PG.Prog):List Int:=pr.ax.map (·.size)
def BL (pr:PG.Prog):List Int:=(av pr.body).map (·.row)
def bR (pr:PG.Prog):Nat:=(PG.univ (BL pr) (cN pr)).length
structure cR(pr:PG.Prog)(s:bH):Prop where
 ok:BG pr s.1 s.2
 inv:PG.j8 (cN pr) s.2
theorem cR.mem{pr:PG.Prog}{s:bH}(h:cR pr s):s∈PG.univ (BL pr) (cN pr):=by
 refine Ks ?_ h.inv;rcases h.ok.row with e |⟨i,hi,e⟩
 ·exact .inl e
 ·exact .inr (zau.mpr ⟨_,zat hi,e⟩)
theorem mf{pr:PG.Prog}{l:List bH}(nd:l.Nodup)(h:∀s∈l,cR pr s):l.length<=bR pr:=yI l _ nd fun s hs=>(h s hs).mem
theorem j8.first:∀ {bs:List gF},(∀b∈bs,2<=b.size/\b.size<=10/\0<=b.first/\b.first<b.size)->PG.j8 (bs.map (·.size)) (bs.map (·.first))
 |[],_=>trivial
 |b::r,h=>by
  simp only[zaq,PG.j8];have:=h b (zav ..);exact⟨⟨by lia,by lia⟩,j8.first fun x hx=>h x (zae _ hx)⟩
theorem cR.first{pr:PG.Prog}(d:fW pr):cR pr (bK pr.body 0,pr.ax.map (·.first)):=⟨d.first,j8.first d.size⟩
theorem j8.qF{pr:PG.Prog}(d:fW pr){vals:List Int}(h:PG.j8 (cN pr) vals){b:W}(hb:b∈pr.ax.map (·.name))(z:Int):PG.j8 (cN pr) (qF pr.ax vals b (z%eC pr.ax b)):=by
 refine h.set _ _ fun s hs=>?_;obtain⟨hx,_⟩:=kr hb;have e:eC pr.ax b=s:=by
  unfold eC;rw[cN,zar,zad hx] at hs;rw[zad hx];exact zaT.inj hs
 have:=BH d hb;rw[e] at this ⊢;exact⟨zbo z (by lia),za8 z (by lia)⟩
theorem j8.step{pr:PG.Prog}(d:fW pr){st:bq}(ok:tj (·∈pr.ax.map (·.name)) (fun e=>kP pr.ax e/\mL e<=2) (·∈CN) st){ws vals:List Int}{f:Int}(h:PG.j8 (cN pr) vals){x:bH}(e:(ko pr.ax st ws vals f).1=some x):PG.j8 (cN pr) x.2:=by
 have cs:fV pr.ax st ws vals=some x->PG.j8 (cN pr) x.2:=by
  intro e;unfold fV at e;split at e
  ·cases e
  ·split at e
   ·cases e;exact h
   ·split at e
    ·cases e
    ·cases e;exact h
 cases st<;>rw[tj] at ok
 ·cases e;exact j8.qF d h ok _
 ·cases e;exact j8.qF d h ok.1 _
 ·cases e;exact h
 ·exact cs e
 ·cases e;exact h
 ·exact cs e
 ·exact cs e
theorem wC{pr:PG.Prog}(ok:xF pr){i:Nat}(hi:i<(av pr.body).length)(hf:i<(aP pr.body 0).length)(vals:List Int)(f:Int):fM pr (av pr.body)[i].row vals f=ko pr.ax (av pr.body)[i] (aP pr.body 0)[i].2.2 vals f:=by
 unfold fM;rw[fN ok.pw i hi,Fn ok.pw i hi hf]
theorem cR.next{pr:PG.Prog}(d:fW pr){s x:bH}(h:cR pr s)(h0:s.1≠0){f:Int}(e:(fM pr s.1 s.2 f).1=some x):cR pr x:=by
 obtain⟨row,vals⟩:=s;obtain⟨i,hi,rfl⟩:=h.ok.row.resolve_left h0;obtain⟨hf,_,_⟩:=jj pr.body i hi;rw[wC d.ok hi hf] at e;refine⟨?_,j8.step d (iZ pr.body _ d.own (zat hi)) h.inv e⟩;rcases hs:ko pr.ax (av pr.body)[i] (aP pr.body 0)[i].2.2 vals f with ⟨o,sd⟩
 rw[hs] at e;exact BG.step d hi hf h.ok.len h.ok.small (by rw[hs];exact congrArg (·,sd) e)
theorem BM{pr:PG.Prog}(row:Int)(vals:List Int)(f:Int)(h:vj pr.body row=true):(fM pr row vals f).1≠none:=by
 unfold vj at h;unfold fM;obtain⟨k,b,e⟩:∃k b,rX pr.body row=.ask k b:=by
  generalize rX pr.body row=st at h;cases st<;>first |exact⟨_,_,rfl⟩ |(have h:=of_decide_eq_true h;cases h)
 rw[e];intro z;cases z
def qJ (pr:PG.Prog) (s:bH):List Tg:=if s.1=0 then [.fin] else match nQ (rX pr.body s.1) with
 |none=>[.row s.1]
 |some (sg,l,r)=>if (rX pr.body s.1).wd=.bW then (if dC sg (wv pr.ax s.2 l) (wv pr.ax s.2 r) then [.row s.1] else [.row s.1,.bW s.1]) else [.row s.1,.side s.1 (dC sg (wv pr.ax s.2 l) (wv pr.ax s.2 r))]
section
variable(P:zds)(w:zdi)(K:zaa)(CC:zdg)
def O0 (H:Hp) (l:zdg) (us:List V) (ts:List Tg):Prop:=H l=some (.lst us)/\aI K H (ts.map gR) us
def QX:Sp:=fun vs H Q _=>∃(ch sa:zdg) (pr:PG.Prog) (s:bH),vs=[.ref ch,.ref sa]/\vC K CC H ch pr/\fW pr/\bQ K H sa s.1 s.2/\cR pr s/\
 ∀l us H',aq H H'->H l=none->O0 K H' l us (qJ pr s)->Q (.ref l) H'
def bF (H:Hp) (g:List bH) (us:List V):Prop:=Paired (fun (s:bH) v=>∃a,v=.ref a/\bQ K H a s.1 s.2) g us
end
theorem bF.at{K:zaa}{H:Hp}{g:List bH}{us:List V}(h:bF K H g us):us.length=g.length/\∀(i:Nat) (s:bH),g[i]?=some s->∃a,us[i]?=some (V.ref a)/\bQ K H a s.1 s.2:=by
 unfold bF at h
 induction h with
 |nil=>exact⟨rfl,fun i s h=>by simp at h⟩
 |@cons x y l1 l2 z t ih=>
  obtain⟨a,e,q⟩:=z;obtain⟨l,g⟩:=ih;refine⟨by simp[l],fun i s h=>?_⟩;cases i with
  |zero=>simp at h;subst h;exact⟨a,by simp[e],q⟩
  |succ i=>simp at h;obtain⟨b,hb,k⟩:=g i s h;exact⟨b,by simp[hb],k⟩
theorem bF.mono{K:zaa}{H H':Hp}{g:List bH}{us:List V}(h:bF K H g us)(s:aq H H'):bF K H' g us:=Paired.uZ h fun _ _ ⟨a,e,q⟩=>⟨a,e,q.mono s⟩
open PyProof.Rows
theorem rY{J:It}{D:zdg}{g:TG}{te:TE}{Q:VK}{τ0:St}{H:Hp}(G:St->Prop)(xs:List V)(Pv:Nat->List V->Hp->Prop)
 (go:∀i H2,aq H H2->i<xs.length->J.go i H2) (stop:∀H2,aq H H2->J.stop xs.length H2) (A9:∀i H2 x H3,aq H H2->i<xs.length->J.A9 i H2 x H3->H3=H2/\xs[i]?=some x)
 (hl:xs.length<=16000000) (hD:H D=none) (g0:G τ0) (h0:Pv 0 [] (upd H D (.lst [])))
 (step:∀i x ys τ H2,xs[i]?=some x->G τ->aq H H2->H2 D=some (.lst ys)->ys.length=i->Pv i ys H2->∀R:St->VK,(∀τ' v H3,G τ'->aq H2 H3->Pv (i+1) (ys++[v]) (upd H3 D (.lst (ys++[v])))->R τ' v H3)->g x τ H2 fun τ' H'=>te τ' H' (R τ'))
 (q:∀ys H2,aq H H2->H2 D=some (.lst ys)->ys.length=xs.length->Pv xs.length ys H2->Q (.ref D) H2):uI J D g Bm te Q τ0 (upd H D (.lst [])):=by
 refine⟨fun i m τ H2=>m=xs.length-i/\i<=xs.length/\G τ/\aq H H2/\∃ys,H2 D=some (.lst ys)/\ys.length=i/\Pv i ys H2,⟨xs.length,by simp,za2 _,g0,aq.new hD _,[],ah,rfl,h0⟩,?_⟩
 rintro i m τ H2 ⟨rfl,hi,gt,s2,ys,h2,ly,p2⟩
 by_cases rj:i<xs.length
 ·refine .inr ⟨go i H2 s2 rj,fun τ' H'=>G τ'/\aq H H'/\∃ys,H' D=some (.lst ys)/\ys.length=i+1/\Pv (i+1) ys H',fun τ' H' ⟨h1,h3,h4⟩=>⟨xs.length-(i+1),by lia,rfl,rj,h1,h3,h4⟩,fun y H' hy=>?_⟩;obtain⟨rfl,ey⟩:=A9 i H2 y H' s2 rj hy;simp only[Bm,if_true];refine step i y ys τ _ ey gt s2 h2 ly p2 (fun τ' v H4=>_) fun τ' v H3 Ws s3 p3=>⟨ys,s3 _ _ h2,?_,Ws,?_,ys++[v],ah,by simp[ly],p3⟩
  ·have:zdo=2 ^ 24:=rfl;lia
  ·intro b o e;rw[aw (az e hD)];exact s3 _ _ (s2 _ _ e)
 ·have e:i=xs.length:=by lia
  subst e;exact .inl ⟨stop H2 s2,q ys H2 s2 h2 ly p2⟩
theorem tY{K:zaa}{a D:zdg}{xs:List V}{g:TG}{te:TE}{Q:VK}{τ0:St}{H:Hp}(G:St->Prop)(Pv:Nat->List V->Hp->Prop)(hS:gC K H a xs)
 (hl:xs.length<=16000000) (hD:H D=none) (g0:G τ0) (h0:Pv 0 [] (upd H D (.lst [])))
 (step:∀i x ys τ H2,xs[i]?=some x->G τ->aq H H2->H2 D=some (.lst ys)->ys.length=i->Pv i ys H2->∀R:St->VK,(∀τ' v H3,G τ'->aq H2 H3->Pv (i+1) (ys++[v]) (upd H3 D (.lst (ys++[v])))->R τ' v H3)->g x τ H2 fun τ' H'=>te τ' H' (R τ'))
 (q:∀ys H2,aq H H2->H2 D=some (.lst ys)->ys.length=xs.length->Pv xs.length ys H2->Q (.ref D) H2):uI (F9 K a) D g Bm te Q τ0 (upd H D (.lst [])):=
 rY G xs Pv (fun i H2 s2 h=>⟨xs,xs[i],s2.seq hS,by simp[h]⟩) (fun H2 s2=>⟨xs,s2.seq hS,zaj _⟩) (fun i H2 x H3 s2 h y=>⟨y.1,y.2 _ (s2.seq hS)⟩) hl hD g0 h0 step q
theorem Ky{K:zaa}{ta:TA}{g:TG}{tb:TS}{D:Ends}{σ:St}{H:Hp} (h:∀U:zdg->Hp->Prop,(∀a H1,(∃W:Nat->Nat->St->Hp->Prop,(∃m,W 0 m σ H1)/\∀i m σ H,W i m σ H->
 ((OS K a).stop i H/\D.nx σ H)\/((OS K a).go i H/\∃N:St->Hp->Prop,(∀σ' H',N σ' H'->∃m',m'<m/\W (i+1) m' σ' H')/\∀x H',(OS K a).A9 i H x H'->g x σ H' fun σ2 H2=>tb {D with nx:=N,ct:=N,bk:=D.nx} σ2 H2))->U a H1)->
 ta σ H fun vs H1=>∃a,vs=[.ref a]/\(∃xs,gC K H1 a xs)/\U a H1):C5 (OT K ta) g tb D σ H:=h _ fun _ _ x=>x
section
variable{prog:zds}{w:zdi}{A:zdr}{E:zdh->zdq->Prop}{s:zdq}{d:zdg}{es:Array DictEntry}{ep:Nat}
theorem Kz(hd:(d==sysModules)=false) :
 MeetsIn prog w (Builtin.«dict.__len__» ⟨[.ref d],[]⟩) (fun _ R s=>∃es ep,jG s.heap d es ep/\R (.ok (.ret (.int es.size s.toks))) {s with toks:=s.toks+1}):=by
 refine .of_wp fun A R s hh=>?_;obtain⟨es,ep,⟨o,g,_,Yt⟩,h⟩:=hh;show wpAny _ _ (dictSize d >>= _) _ _ s;unfold dictSize;refine zdj (zdj (wpAny_dictEntries g Yt (zdk ?_)));show wpAny _ _ (Builtin.Dict.pendingCount d >>= _) _ _ s;refine zdj (wpAny_pendingCount_other hd (wpAny_ret_mkInt ?_));rw[Nat.add_zero];exact h
theorem ND{Q:zdh->zdq->Prop}(hd:(d==sysModules)=false)(x:jG s.heap d es ep)(TB:(es.size:Int)<2 ^ 63)(h:Q (.int es.size (s.toks+1)) {s with toks:=s.toks+1+1}):wpAny (model prog w) A (call (.builtin "len") [.ref d]) Q E s:=by
 refine Calls.call_function_entry kind_len plain_len entry_len (args_len1 _) ?_;unfold Builtin.«len»;refine zdj (m:=oneArg "len" _) (zdk ?_);refine zdj (m:=callSpecial? (.ref d) (zab "__len__")) (wpAny_callSpecial?_slot (name:=zab "__len__") x.ty F.slot_dict_len
  (call_meetsIn F.slot_dict_len x.ty F.entry_dict_len (F.args_dict_len_1 _) (Kz hd) ⟨es,ep,x,?_⟩))
 show wpAny _ _ _ _ _ {s with toks:=s.toks+1};refine zdj (zdl (zdk (zdj (wpAny_letGo ?_))));show wpAny _ _ (if ((es.size:Nat):Int)<0 then _ else _) _ _ _;rw[if_neg (by first|decide|omega)];show wpAny _ _ (if ((es.size:Nat):Int) ≥ 2 ^ 63 then _ else _) _ _ _;rw[if_neg (by first|decide|omega)];exact zdj (wpAny_mkInt (zdk ⟨_,rfl,h⟩))
end
section
variable{κ:Type}[DecidableEq κ]{J:KH κ}{X:Cx}
theorem GR:jE X (.builtin "len") (fun xs H Q=>∃(a:zdg) (kvs:List (κ×V)),xs=[.ref a]/\DS J X.prog X.w X.K H a kvs/\Q (.int kvs.length) H):=by
 intro pins s σ H xs us Q I r h;obtain⟨a,kvs,rfl,⟨z,sy,ks,e,rel,nd⟩,q⟩:=h;obtain⟨u,rfl,ru⟩:=vals1 r;cases (show u=Value.ref a from ru);obtain⟨o,es,ep,h1,h2,h3,h4,_,_⟩:=yH I e rel nd;have le:es.size=kvs.length:=by rw[<- za0,h4,zac,Paired.length rel]
 have line:zdo=2 ^ 24:=rfl;exact ND sy (⟨o,h1,h2,h3⟩:jG s.heap a es ep) (by rw[le];omega) ⟨.int kvs.length,H,I.tok _,⟨_,by rw[le]⟩,q⟩
end
open PySem.Spec
def BN (CX:AV) (P:zds) (w:zdi) (K:zaa) (mg:Str->Option zdh) (base:Heap) (N:List Str) (qual:Str) (scope:Scope) (f:zdg) (cd:zdh) (cl:List (Str×zdg)) (A:zdr) (outer:List Env) (s:zdq) (H:Hp) (E:XK):Cx where
 prog:=P
 w:=w
 K:=K
 mg:=mg
 base:=base
 A:=A.deeper (zca qual scope s.heap.objs.size f cd cl)
 N:=N
 s₀:=s
 H₀:=H
 env:=zca qual scope s.heap.objs.size f cd cl
 outer:=outer
 stack:=zca qual scope s.heap.objs.size f cd cl::outer
 ex:=[]
 calm:=true
 fn:=fun _=>false
 pn:=[]
 xe:=fun e s'=>wpAny (model P w) (A.deeper (zca qual scope s.heap.objs.size f cd cl)) (leaving (zca qual scope s.heap.objs.size f cd cl) e) (fun _ Gi=>CX outer H s E e Gi) (fun e' Gi=>CX outer H s E e' Gi) s'
structure rZ(x y:Str)(sc:Scope):Prop where
 kind:sc.kind=.function
 co:sc.isCoroutine=false
 gen:sc.isGenerator=false
 px:sc.names.lookup x=some .local
 py:sc.names.lookup y=some .free
 only:∀z,(sc.names.lookup z=some .cell\/sc.names.lookup z=some .free)->z=y
 QY:∀z∈sc.names,z.2≠.cell
theorem NF{CX:AV}{P:zds}{w:zdi}{K:zaa}{mg:Str->Option zdh}{base:Heap}{x y:Str}{qual:Str}{scope:Scope}{f cc:zdg}{cd:zdh}{A:zdr}{outer:List Env}{s:zdq}{H:Hp}{E:XK}{u uc:zdh}{v vc:V}{h1:Heap}{tk:Nat}
 (S:rZ x y scope) (hd:A.handled=none) (e0:qz P w K mg base A outer s H) (rv:RelV v u) (EA:H cc=none) (pU:s.heap.IsCell cc (some uc)) (rc:RelV vc uc)
 (ON:h1.Ns s.heap.objs.size fun z=>zbk z [(x,u)].reverse) (hk:∀b o,s.heap.get? b=some o->h1.get? b=some o) :
 Inv (BN CX P w K mg base [x,y] qual scope f cd [(y,cc)] A outer s H E) [] [some v,some vc] H {s with heap:=h1,toks:=tk}:=by
 have Qj:∀b:zdg,b ∉ (BN CX P w K mg base [x,y] qual scope f cd [(y,cc)] A outer s H E).ex:=fun b z=>absurd (show b∈([]:List zdg) from z) (by simp);have lk:∀z c,zbk z [(y,cc)]=some c->z=y/\c=cc:=fun z c e=>by
  rw[zaY] at e;cases hb:z==y with
  |true=>rw[hb] at e;cases e;exact⟨eq_of_beq hb,rfl⟩
  |false=>rw[hb] at e;cases e
 have lky:zbk y [(y,cc)]=some cc:=by rw[zaY,beq_self_eq_true]
 have KA:h1.IsCell cc (some uc):=by obtain⟨o,ho,q⟩:=pU;exact⟨o,hk _ _ ho,q⟩
 refine⟨⟨e0.mod,S.kind,rfl,rfl,zaj _,fun a b c h1 h2=>?_,fun z hz=>?_,fun z c hf _=>?_,fun _=>hd,Around.frames_deeper e0.frames,.inr ⟨rfl,rfl⟩,fun b z=>absurd z (Qj b),e0.bs,e0.F3,fun b _ _=>Qj b,fun b z=>absurd z (Qj b),e0.pP,e0.Md⟩,
  rfl,e0.bare,Un.kept hk,⟨_,ON,fun i z v' h1 h2 h3=>?_⟩,fun z c h=>?_,e0.cI.fresh (zaj _),fun z c h=>?_,fun p hp=>absurd (show p∈([]:List (zdg×Obj)) from hp) (by simp),e0.cI.kept hk,rfl⟩
 ·exact(lk a c h1).1.trans (lk b c h2).1.symm
 ·have hz:scope.names.lookup z=some .cell\/scope.names.lookup z=some .free:=hz;rw[S.only z hz];exact⟨cc,lky⟩
 ·cases hf
 ·rcases i with _ |_ |i
  ·cases h1;cases h2;refine⟨u,rv,.inl ⟨S.px,?_⟩⟩;show zbk x [(x,u)].reverse=some u;rw[List.reverse_singleton,zaY,beq_self_eq_true]
  ·cases h1;cases h2;exact⟨uc,rc,.inr ⟨.inr S.py,cc,lky,KA⟩⟩
  ·cases h1
 ·rw[(lk z c h).2];exact⟨_,KA⟩
 ·rw[(lk z c h).2];exact EA
theorem NG{CX:AV}{P:zds}{w:zdi}{K:zaa}{mg:Str->Option zdh}{base:Heap}{k:Nat}{x y:Str}{name qual:Str}{params:Arguments}{body:Expr}{scope:Scope}{fo cc c':zdg}{pm uL:zdh}{A:zdr}{outer:List Env}{s:zdq}{H:Hp}{E:XK}{Q:VK}{u uc:zdh}{v vc:V}
 (S:rZ x y scope) (hr:gQ (k+1) A) (e0:qz P w K mg base A outer s H) (Ui:s.heap.get? fo=some (zbR name qual params body scope [(y,cc)] pm c' uL)) (hcr:s.heap.CodeRec (.ref c') qual)
 (EA:H cc=none) (pU:s.heap.IsCell cc (some uc)) (rc:RelV vc uc) (rv:RelV v u) (wD:bindArgs (zc3 name qual params body scope [(y,cc)] pm (.ref c') uL) ⟨[u],[]⟩=pure [(x,u)])
 {t:TE} (ht:PE (BN CX P w K mg base [x,y] qual scope fo (.ref c') [(y,cc)] A outer s H E) body t) (hq:t [some v,some vc] H Q) :
 codeAny (model P w) A (.call (.ref fo) ⟨[u],[]⟩) (CR CX outer P w H s Q E) s:=by
 have lim:s.heap.NoLimit:=e0.mod.nolimit.keeps fun b o e=>(e0.bs b o e).1;refine PySem.W.kla_callFunE hr.depth Ui rfl S.co S.gen rfl hcr ?_;rw[wD];refine zdk (wpAny_newFunctionEnv S.QY (fun z hz=>?_) (fun h1 ON ET=>?_) S.kind)
 ·rw[zap.mp hz];exact S.px
 have hk:∀b o,s.heap.get? b=some o->h1.get? b=some o:=fun b o e=>ET.extBut b o (zay (Heap.lt_size e)) (Heap.get?_push_of_some _ e);refine⟨lim.keeps hk,?_⟩;show codeAny _ _ (.expr body (zca qual scope s.heap.objs.size fo (.ref c') [(y,cc)])) _ _;refine PySem.W.kla_codeExpr (wpAny_mono (ht [] _ _ _ Q (NF S hr.hd e0 rv EA pU rc ON hk) hq) (fun u' s' h=>?_) fun e s' z=>z);obtain⟨v',H',J,rv',q'⟩:=h;exact⟨v',H',J.os,J.bare,J.base,J.cI,rv',q'⟩
def ff (a:zdg) (o:Obj):HO:=.ext fun h=>h.get? a=some o
def wo (H:Hp) (a:zdg):Hp:=fun b=>if b=a then none else H b
theorem ic{H:Hp}{a:zdg}:wo H a a=none:=if_pos rfl
theorem cV{H:Hp}{a b:zdg}(h:b≠a):wo H a b=H b:=if_neg h
section
variable{P:zds}{w:zdi}{H:Hp}{h:Heap}{a:zdg}{o:Obj}
theorem ff.get(x:nN P w H h)(e:H a=some (ff a o)):h.get? a=some o:=(x a _ e).1
theorem ff.ok{H':Hp}(e:h.get? a=some o):cX P w H' h a (ff a o):=⟨e,⟨o,e⟩,fun _ _ p k=>k _ p⟩
theorem nN.add(x:nN P w H h)(hn:H a=none)(e:h.get? a=some o):nN P w (upd H a (ff a o)) h:=fun b u q=>by
 by_cases hb:b=a
 ·subst hb;rw[ah] at q;cases q;exact ff.ok e
 ·rw[aw hb] at q;exact(x b u q).xA (fun c v _ r=>r) (fun c r=>by rw[aw (az r hn)];exact r) fun c xs r=>by rw[aw (az r hn)];exact r
theorem nN.wo(x:nN P w H h)(ha:H a=some (ff a o)):nN P w (wo H a) h:=fun b u q=>by
 by_cases hb:b=a
 ·subst hb;rw[ic] at q;cases q
 ·rw[cV hb] at q;refine(x b u q).xA (fun c v _ r=>r) (fun c r=>?_) fun c xs r=>?_
  ·rw[cV (cQ r ha (by intro z;cases z))];exact r
  ·rw[cV (cQ r ha (by intro z;cases z))];exact r
end
def O1 (y name qual:Str) (params:Arguments) (body:Expr) (scope:Scope) (H:Hp) (fo cc:zdg) (mh:Obj) (vc:V):Prop:=
 ∃(c':zdg) (pm uL uc:zdh) (oc:Obj) (vs:Array zdh) (tk:Nat),H fo=some (ff fo (zbR name qual params body scope [(y,cc)] pm c' uL))/\H c'=some (ff c' oc)/\oc.data=.fields vs/\vs[1]?=some (.str qual tk)/\
  H cc=some (ff cc mh)/\mh.data=.cell (some uc)/\RelV vc uc
def QZ (y name qual:Str) (params:Arguments) (body:Expr) (scope:Scope) (tb tf:TE) (ta:TA):TE:=fun σ H Q=>tf σ H fun f H1=>ta σ H1 fun vs H2=>∃(a:V) (fo cc:zdg) (mh:Obj) (vc:V),vs=[a]/\f=.ref fo/\O1 y name qual params body scope H2 fo cc mh vc/\
 tb [some a,some vc] (wo H2 cc) fun v H3=>H3 cc=none->Q v (upd H3 cc (ff cc mh))
theorem qz.wo{P:zds}{w:zdi}{K:zaa}{mg:Str->Option zdh}{base:Heap}{A:zdr}{outer:List Env}{s:zdq}{H:Hp}{a:zdg}{o:Obj}(e:qz P w K mg base A outer s H)(ha:H a=some (ff a o)):qz P w K mg base A outer s (L2.wo H a):=
 ⟨e.frames,e.mod,fun b o hb=>⟨(e.bs b o hb).1,by unfold L2.wo;rw[(e.bs b o hb).2];split<;>rfl⟩,e.F3,e.pP,fun b hb=>by unfold L2.wo;rw[e.Md b hb];split<;>rfl,e.cI.wo ha,e.bare⟩
theorem CE.back{outer:List Env}{P:zds}{w:zdi}{H:Hp}{s s':zdq}{Q:VK}{u:zdh}{a:zdg}{o:Obj}(cI:nN P w H s.heap)(ha:H a=some (ff a o))(hf:a ∉ CY outer)(h:CE outer P w (wo H a) s (fun v H3=>H3 a=none->Q v (upd H3 a (ff a o))) u s'):CE outer P w H s Q u s':=by
 obtain⟨v,H3,os,bare,un,NH,rv,q⟩:=h;have g0:=ff.get cI ha;have n3:H3 a=none:=un.free a o g0 ic (by simp);have g1:=un.keep a o g0 ic hf (by simp);have nb:∀ {b:zdg},H b=none->b≠a:=fun {b} n z=>by rw[z,ha] at n;cases n
 refine⟨v,upd H3 a (ff a o),os,bare,⟨fun b ob e n hb hx=>un.keep b ob e (by rw[cV (nb n)];exact n) hb hx,fun b ob e n hb hx=>un.slot b ob e (by rw[cV (nb n)];exact n) hb hx,fun b ob e n hx=>?_,un.there,fun b xs e=>?_,fun b ob x e=>?_,fun b ps e=>?_⟩,NH.add n3 g1,rv,q n3⟩
 ·rw[aw (nb n)];exact un.free b ob e (by rw[cV (nb n)];exact n) hx
 ·have ne:=cQ e ha (by intro z;cases z);rw[aw ne];exact un.vP b xs (by rw[cV ne];exact e)
 ·have ne:=cQ e ha (by intro z;cases z);rw[aw ne];exact un.vd b ob x (by rw[cV ne];exact e)
 ·have ne:=cQ e ha (by intro z;cases z);rw[aw ne];exact un.ve b ps (by rw[cV ne];exact e)
theorem DJ{M:Model}{A:zdr}{E:zdh->zdq->Prop}{s:zdq}{env:Env}{pos:Pos}{f:zdh}{first:List zdh}{Q:zdh->zdq->Prop}{P:Heap->Prop}{e:Expr}{rest:List Expr}
 (hk:∀h,P h->∃k,(k=Keeper.frame\/k=Keeper.machine\/k=Keeper.boundFrame)/\PySem.W.Looks M h (keeperOf f) k) (h:wpAny M A (spliced (backTo pos (zdm (e::rest) env))) (fun vs s₁=>P s₁.heap/\wpAny M A (call f (first++vs)) Q E s₁) E s)
 (he:zdm (e::rest) env=(false,eval e env)::zdm rest env) (mP:(backTo pos (zdm rest env)).any (·.1)=false):wpAny M A (callWith pos f first (backTo pos (zdm (e::rest) env)) []) Q E s:=by
 rw[he] at h ⊢;exact PySem.W.callWith_of (by show ((false ||(backTo pos (zdm rest env)).any (·.1)) ||false)=false;rw[mP];rfl) hk (Calls.evalArgs_plain h)
theorem KC{X:Cx}{x y z name qual:Str}{params:Arguments}{body e:Expr}{scope:Scope}{tb tf:TE}{ta:TA}{p pos:Pos}{k:Nat}{CX:AV}{E:XK}(hr:gQ (k+1) X.A)(S:rZ x y scope)(hf:PE X (.Name z p) tf)(ha:PA X [e] ta)(M1:∀pins σ (H:Hp) (s:zdq) e s' a o,Inv X pins σ H s->H a=some (ff a o)->CX X.stack (wo H a) s E e s'->X.xe e s')
 (wD:∀(u:zdh) (cc c':zdg) (pm uL:zdh),bindArgs (zc3 name qual params body scope [(y,cc)] pm (.ref c') uL) ⟨[u],[]⟩=pure [(x,u)])
 (hb:∀(fo cc c':zdg) (s:zdq) (H:Hp),PE (BN CX X.prog X.w X.K X.mg X.base [x,y] qual scope fo (.ref c') [(y,cc)] X.A X.stack s H E) body tb)
 (he:zdm [e] X.env=(false,eval e X.env)::zdm [] X.env:=by rfl) (mP:(backTo pos (zdm [] X.env)).any (·.1)=false:=by rfl) :
 PE X (.Call (.Name z p) [e] [] pos) (QZ y name qual params body scope tb tf ta):=by
 intro pins s σ H Q I h;refine wpAny_Call_Name_kw (dU (hf pins s σ H _ I h) fun u0 s1 zqz=>?_);obtain⟨f,H1,I1,rf,h1⟩:=zqz;refine DJ (P:=fun h=>∃fo cc c' pm uL,u0=.ref fo/\h.get? fo=some (zbR name qual params body scope [(y,cc)] pm c' uL)) (fun h ⟨fo,cc,c',pm,uL,eu,hg⟩=>?_) ?_ he mP
 ·subst eu;exact⟨.frame,.inl rfl,(PySem.W.Looks.ld (part:=none) hg).andThen .now⟩
 ·refine dU (ha pos pins s1 σ H1 _ I1 h1) fun us s2 zqz=>?_;obtain⟨vs,H2,I2,r,a,fo,cc,mh,vc,ev,ef,la,hq⟩:=zqz;subst ev ef;obtain⟨u,rfl,ru⟩:=r.one;obtain rfl:u0=Value.ref fo:=rf;obtain⟨c',pm,uL,uc,oc,ovs,tk,g1,g2,d2,q2,g3,d3,rc⟩:=la;have e1:=ff.get I2.cI g1;have e2:=ff.get I2.cI g2;have e3:=ff.get I2.cI g3;refine⟨⟨fo,cc,c',pm,uL,rfl,e1⟩,?_⟩;have Yu:cc ∉ CY X.stack:=fun hb=>by rw[I2.zo cc hb] at g3;cases g3
  refine wpAny_call (codeAny_mono (NG (CX:=CX) (E:=E) S hr (I2.MN.wo g3) e1 ⟨c',oc,ovs,tk,rfl,e2,d2,q2⟩ ic ⟨mh,e3,d3⟩ rc ru (wD u cc c' pm uL) (hb fo cc c' s2 (wo H2 cc)) hq) fun r s' tZ=>?_);cases r with
  |error e=>exact M1 pins σ H2 s2 e s' cc mh I2 g3 tZ
  |ok fl=>
   cases fl with
   |ret u'=>exact I2.after (CE.back I2.cI g3 Yu tZ)
   |next=>exact False.elim tZ
   |brk=>exact False.elim tZ
   |cont=>exact False.elim tZ
def TabOk (qual:Str) (lp:Pos) (H:Hp) (ps:Array zdh):Prop:=
 ps = #[]\/∃(c':zdg) (oc:Obj) (vs:Array zdh) (tk:Nat),ps = #[rawInt lp.line,rawInt lp.col,.ref c']/\H c'=some (ff c' oc)/\oc.data=.fields vs/\vs[1]?=some (.str qual tk)
structure jM(K:zaa)(mg:Str->Option zdh)(base:Heap)(c P:zdg):Prop where
 hd:PySem.W.CodeHd base c P
 bm:∃bm o,mg "__builtins__"=some (.ref bm)/\bm≠builtinsNs/\bm≠zdn/\base.get? bm=some o/\o.cls=.type "module"/\o.dict=some builtinsNs/\o.data=.plain
def Yv (cy:zdg->Prop) (P:zdg) (y qual:Str) (params:Arguments) (body:Expr) (scope:Scope) (lp:Pos):TE:=fun _ H Q=>∃ps,H P=some (.uv ps)/\TabOk qual lp H ps/\
 ∀(fo cc c':zdg) (pm uL:zdh) (oc:Obj) (vs jN:Array zdh) (tk:Nat) (H':Hp),cy cc->H fo=none->(H c'=none\/ps = #[rawInt lp.line,rawInt lp.col,.ref c'])->(∀b o,b≠P->H b=some o->H' b=some o)->(∀b,H' b≠none->H b≠none\/b=fo\/b=c')->
  H' fo=some (ff fo (zbR "<lambda>" qual params body scope [(y,cc)] pm c' uL))->H' c'=some (ff c' oc)->oc.data=.fields vs->vs[1]?=some (.str qual tk)->H' P=some (.uv jN)->jN = #[rawInt lp.line,rawInt lp.col,.ref c']->Q (.ref fo) H'
def gm (H:Hp) (P:zdg) (ps:Array zdh) (c':zdg) (oc:Obj) (fo:zdg) (ob:Obj):Hp:=upd (upd (upd H P (.uv ps)) c' (ff c' oc)) fo (ff fo ob)
section
variable{H:Hp}{P:zdg}{ps:Array zdh}{c':zdg}{oc:Obj}{fo:zdg}{ob:Obj}
theorem gm.keep(hF:H fo=none)(hc:H c'=some (ff c' oc)\/H c'=none){b:zdg}{o:HO}(n:b≠P)(e:H b=some o):gm H P ps c' oc fo ob b=some o:=by
 unfold gm;rw[aw (az e hF)];by_cases z:b=c'
 ·subst z;rcases hc with q |q
  ·rw[ah,<- q,e]
  ·rw[q] at e;cases e
 ·rw[aw z,aw n,e]
theorem gm.back(hP:H P≠none){b:zdg}(n:gm H P ps c' oc fo ob b≠none):H b≠none\/b=fo\/b=c':=by
 by_cases z1:b=fo
 ·exact .inr (.inl z1)
 ·by_cases z2:b=c'
  ·exact .inr (.inr z2)
  ·by_cases z3:b=P
   ·rw[z3];exact .inl hP
   ·unfold gm at n;rw[aw z1,aw z2,aw z3] at n;exact .inl n
theorem gm.fo_:gm H P ps c' oc fo ob fo=some (ff fo ob):=ah
theorem gm.c_(n:c'≠fo):gm H P ps c' oc fo ob c'=some (ff c' oc):=by unfold gm;rw[aw n,ah]
theorem gm.P_(n1:P≠fo)(n2:P≠c'):gm H P ps c' oc fo ob P=some (.uv ps):=by unfold gm;rw[aw n1,aw n2,ah]
end
theorem Inv.lam{X:Cx}{pins:List (zdg×Obj)}{σ:St}{H:Hp}{s:zdq}{P fo c':zdg}{ps more:Array zdh}{h1:Heap}{oc ob:Obj}{tk:Nat}(I:Inv X pins σ H s)(hP:H P=some (.uv ps))(hx:Heap.ExtBut P s.heap h1)(gP:h1.get? P=some (zc4 (ps++more)))
 (Ui:s.heap.objs.size<=fo) (hc:H c'=some (ff c' oc)\/s.heap.objs.size<=c') (nf:c'≠fo) (gc:h1.get? c'=some oc) (gf:h1.get? fo=some ob):Inv X pins σ (gm H P (ps++more) c' oc fo ob) {s with heap:=h1,toks:=tk}:=by
 have nP:∀ {b:zdg},H b=none->b≠P:=fun {b} n z=>by rw[z,hP] at n;cases n
 have hF:H fo=none:=I.cI.fresh Ui;have cP:c'≠P:=fun z=>by
  rcases hc with e |e
  ·rw[z,hP] at e;cases e
  ·have:=I.cI.fresh e;rw[z,hP] at this;cases this
 have fP:fo≠P:=nP hF;have Wt:∀ {b:zdg},b≠fo->b≠c'->b≠P->gm H P (ps++more) c' oc fo ob b=H b:=fun n1 n2 n3=>by
  unfold gm;rw[aw n1,aw n2,aw n3]
 have Fq:∀ {b:zdg} {u:HO},H b=some u->(∀jN,u≠.uv jN)->gm H P (ps++more) c' oc fo ob b=some u:=fun {b u} e nt=>by
  have n1:b≠fo:=az e hF;have n3:b≠P:=fun z=>by rw[z,hP] at e;cases e;exact nt _ rfl
  by_cases n2:b=c'
  ·subst n2;rcases hc with z |z
   ·rw[e] at z;cases z;unfold gm;rw[aw n1,ah]
   ·rw[I.cI.fresh z] at e;cases e
  ·rw[Wt n1 n2 n3];exact e
 have Uj:∀ {b:zdg} {o:Obj},s.heap.get? b=some o->H b=none->gm H P (ps++more) c' oc fo ob b=none:=fun {b o} e n=>by
  have lt:=Heap.lt_size e;have n1:b≠fo:=fun z=>by rw[z] at lt;exact absurd (zaB lt Ui) (zaS _)
  have n2:b≠c':=fun z=>by
   rcases hc with q |q
   ·rw[z,q] at n;cases n
   ·rw[z] at lt;exact absurd (zaB lt q) (zaS _)
  rw[Wt n1 n2 (nP n)];exact n
 refine I.call (g':=s.gens) (d':=s.drawn) (t':=tk) (ch:=[]) ⟨fun b o e n _ _=>hx b o (nP n) e,fun b o e n _ _=>⟨o.slots,hx b o (nP n) e⟩,fun b o e n _=>Uj e n,fun b o e _=>?_,fun b xs e=>Fq e (fun _ z=>by cases z),fun b o u e=>Fq e (fun _ z=>by cases z),fun b jN e=>?_⟩ (fun b u q=>?_) I.bare (fun b z=>absurd z (by simp))
 ·by_cases z:b=P
  ·exact⟨_,by rw[z];exact gP⟩
  ·exact⟨o,hx b o z e⟩
 ·by_cases z:b=P
  ·subst z;rw[hP] at e;cases e;refine⟨more,?_⟩;unfold gm;rw[aw fP.symm,aw cP.symm,ah]
  ·refine⟨#[],?_⟩;have n1:b≠fo:=az e hF;have n2:b≠c':=fun y=>by
    rcases hc with q |q
    ·rw[y,q] at e;cases e
    ·rw[y,I.cI.fresh q] at e;cases e
   rw[Wt n1 n2 z,e];simp
 ·by_cases z1:b=fo
  ·subst z1;unfold gm at q;rw[ah] at q;cases q;exact ff.ok gf
  ·by_cases z2:b=c'
   ·subst z2;unfold gm at q;rw[aw z1,ah] at q;cases q;exact ff.ok gc
   ·by_cases z3:b=P
    ·subst z3;unfold gm at q;rw[aw z1,aw z2,ah] at q;cases q;exact gP
    ·rw[Wt z1 z2 z3] at q;refine(I.cI b u q).xA (fun c v hcv r=>hx c v ?_ r) (fun c r=>Fq r (fun _ z=>by cases z)) fun c xs r=>Fq r (fun _ z=>by cases z);rcases hcv with rfl |r2
     ·exact z3
     ·intro z;rw[z,hP] at r2;cases r2
theorem Q0{X:Cx}{c P:zdg}{y qual:Str}{params:Arguments}{body:Expr}{scope:Scope}{lp:Pos}(B:jM X.K X.mg X.base c P)(O2:X.env.code=.ref c)(hq:X.env.qual ++ "<lambda>"=qual)
 (hcy:∃cc,X.env.cells.lookup y=some cc/\closureFor scope X.env=pure [(y,cc)]) (Yw:defaultsOf params X.env=([],[])) :
 PE X (.Lambda params body scope lp) (Yv (fun cc=>X.env.cells.lookup y=some cc) P y qual params body scope lp):=by
 intro pins s σ H Q I h;obtain⟨ps,hP,tok,q⟩:=h;obtain⟨cc,Q1,Mh⟩:=hcy;have gP:s.heap.get? P=some (zc4 ps):=I.cI P _ hP;have hgP:zdn≠P:=fun z=>by
  obtain⟨o,es,ep,e,_⟩:=I.mod.glob;have:=(I.bs _ _ e).2;rw[z,hP] at this;cases this
 have hb:s.heap.BuiltinsAt X.mg P:=by
  obtain⟨bm,o,e1,e2,e3,e4,r⟩:=B.bm;have nbP:bm≠P:=fun z=>by
   have:=(I.bs _ _ e4).2;rw[z,hP] at this;cases this
  exact⟨bm,o,e1,e2,e3,nbP,(I.bs _ _ e4).1,r⟩
 have C:PySem.W.CodeHd s.heap c P:=B.hd.keeps I.bk;have tri:TriplesOk ps.toList:=by
  rcases tok with rfl |⟨c',oc,vs,tk,rfl,_⟩
  ·trivial
  ·exact trivial
 have nP:∀ {b:zdg},H b=none->b≠P:=fun {b} n z=>by rw[z,hP] at n;cases n
 refine PySem.W.kla_eval Yw ?_;rw[hq];rcases tok with rfl |⟨c',oc,vs,tk,rfl,hc,d1,d2⟩
 ·refine PySem.W.kla_makeFunction Mh I.ok.glob (I.mod.glob.keeps I.bk) O2 C gP tri rfl hgP hb fun c' uL h' tk hx Yx rj KD htb=>?_;obtain⟨c2,oc,vs,t2,e2,PL,d1,d2⟩:=KD;cases e2;have ge:s.heap.objs.size<=h'.objs.size:=zb6 (zb8 Yx rj);have O3:H h'.objs.size=none:=I.cI.fresh ge;have nc:H c'=none:=I.cI.fresh Yx;have Uk:c'≠h'.objs.size:=zay rj;have J:=I.lam (more:=#[rawInt lp.line,rawInt lp.col,.ref c']) (tk:=tk) hP (fun b o n e=>Heap.get?_push_of_some _ (hx b o n e)) (Heap.get?_push_of_some _ htb) ge (.inr Yx) Uk (Heap.get?_push_of_some _ PL) (Heap.get?_push_size h' (o:=zbR "<lambda>" qual params body scope [(y,cc)] ((X.mg "__name__").getD .none) c' uL) rfl);exact⟨.ref h'.objs.size,_,J,rfl,q _ cc c' _ uL oc vs _ t2 _ Q1 O3 (.inl nc) (fun b o n e=>gm.keep O3 (.inr nc) n e) (fun b n=>gm.back (by rw[hP];simp) n) gm.fo_ (gm.c_ Uk) d1 d2 (gm.P_ (nP O3).symm (nP nc).symm) (by simp)⟩
 ·refine PySem.W.kla_makeFunctionHit (cv:=.ref c') Mh I.ok.glob (I.mod.glob.keeps I.bk) O2 C gP tri ?_ hb fun uL h' QJ hk hsz=>?_
  ·exact codeAmong_snoc [] trivial rfl
  ·have O3:H h'.objs.size=none:=I.cI.fresh hsz;have Uk:c'≠h'.objs.size:=az hc O3;have cP:c'≠P:=fun z=>by rw[z,hP] at hc;cases hc
   have J:=I.lam (more:=#[]) (tk:=QJ) hP (fun b o n e=>Heap.get?_push_of_some _ (hk b o e)) (by simpa using Heap.get?_push_of_some _ (hk _ _ gP)) hsz (.inl hc) Uk (Heap.get?_push_of_some _ (hk _ _ (ff.get I.cI hc))) (Heap.get?_push_size h' (o:=zbR "<lambda>" qual params body scope [(y,cc)] ((X.mg "__name__").getD .none) c' uL) rfl);exact⟨.ref h'.objs.size,_,J,rfl,q _ cc c' _ uL oc vs _ tk _ Q1 O3 (.inr rfl) (fun b o n e=>gm.keep O3 (.inl hc) n e) (fun b n=>gm.back (by rw[hP];simp) n) gm.fo_ (gm.c_ Uk) d1 d2 (gm.P_ (nP O3).symm cP.symm) (by simp)⟩
theorem qz.add{P:zds}{w:zdi}{K:zaa}{mg:Str->Option zdh}{base:Heap}{A:zdr}{outer:List Env}{s:zdq}{H:Hp}{a:zdg}{o:Obj}(e:qz P w K mg base A outer s H)(ha:H a=none)(hb:base.get? a=none)(hf:a ∉ CY outer)(g:s.heap.get? a=some o):qz P w K mg base A outer s (upd H a (ff a o)):=
 ⟨e.frames,e.mod,fun b ob hB=>⟨(e.bs b ob hB).1,by rw[aw (fun z=>by rw[z,hb] at hB;cases hB)];exact(e.bs b ob hB).2⟩,e.F3,e.pP,fun b hB=>by rw[aw (fun z:b=a=>hf (by rw[<- z];exact hB))];exact e.Md b hB,e.cI.add ha g,e.bare⟩
theorem CE.out{outer:List Env}{P:zds}{w:zdi}{H:Hp}{s s':zdq}{Q:VK}{u:zdh}{a:zdg}{o:Obj}(ha:H a=none)(g:s.heap.get? a=some o)(h:CE outer P w (upd H a (ff a o)) s (fun v H3=>H3 a=some (ff a o)/\Q v (wo H3 a)) u s'):CE outer P w H s Q u s':=by
 obtain⟨v,H3,os,bare,un,NH,rv,h3,q⟩:=h;have g3:=ff.get NH h3;refine⟨v,wo H3 a,os,bare,⟨fun b ob e n hb hx=>?_,fun b ob e n hb hx=>?_,fun b ob e n hx=>?_,un.there,fun b xs e=>?_,fun b ob x e=>?_,fun b ps e=>?_⟩,NH.wo h3,rv,q⟩
 ·by_cases z:b=a
  ·rw[z] at e ⊢;rw[g] at e;cases e;exact g3
  ·exact un.keep b ob e (by rw[aw z];exact n) hb hx
 ·by_cases z:b=a
  ·rw[z] at e ⊢;rw[g] at e;cases e;exact⟨o.slots,g3⟩
  ·exact un.slot b ob e (by rw[aw z];exact n) hb hx
 ·by_cases z:b=a
  ·rw[z];exact ic
  ·rw[cV z];exact un.free b ob e (by rw[aw z];exact n) hx
 ·have ne:b≠a:=az e ha;rw[cV ne];exact un.vP b xs (by rw[aw ne];exact e)
 ·have ne:b≠a:=az e ha;rw[cV ne];exact un.vd b ob x (by rw[aw ne];exact e)
 ·have ne:b≠a:=az e ha;rw[cV ne];exact un.ve b ps (by rw[aw ne];exact e)
def KG (cy:zdg->Prop) (i:Nat) (sp:Sp) (E:XK) (t:TA):TE:=fun σ H Q=>t σ H fun vs H1=>∃vc,σ[i]?=some (some vc)/\∀(cc:zdg) (mh:Obj) (uc:zdh),cy cc->H1 cc=none->mh.data=.cell (some uc)->RelV vc uc->
 sp vs (upd H1 cc (ff cc mh)) (fun v H2=>H2 cc=some (ff cc mh)/\Q v (wo H2 cc)) E
theorem KI{X:Cx}{CX:AV}{k i:Nat}{f:zdg}{fd:zdp}{ps:List Str}{sp:Sp}{E:XK}{x y:Str}{p pos:Pos}{e:Expr}{es:List Expr}{t:TA}(F:bB X.prog X.w X.K X.mg X.base CX k f fd ps sp)(hr:gQ k X.A)(hg:Gl X x)(hm:X.mg x=some (.ref f))(hk:zbB X.K (.ref f)=true)(hb:Binds X.K fd ps [])
 (M1:∀pins σ (H:Hp) (s:zdq) e s' a o,Inv X pins σ H s->H a=none->s.heap.get? a=some o->CX X.stack (upd H a (ff a o)) s E e s'->X.xe e s')
 (ha:PA X (e::es) t) (hN:X.N[i]?=some y) (hy:X.env.scope.names.lookup y=some .cell) (PK:X.fn y=true) (IT:(x==("__debug__":Str))=false:=by decide) (he:zdm (e::es) X.env=(false,eval e X.env)::zdm es X.env:=by rfl) (mP:(backTo pos (zdm es X.env)).any (·.1)=false:=by rfl) :
 PE X (.Call (.Name x p) (e::es) [] pos) (KG (fun cc=>X.env.cells.lookup y=some cc) i sp E t):=by
 intro pins s σ H Q I h;refine wpAny_Call_Name_kw (vy I hg hm ?_ IT);refine zcG (h₀:=X.base) I.ok.mod.SV hk (dU (ha pos pins s σ H _ I h) fun us s1 ⟨vs,H1,I1,r,vc,hσ,q⟩=>⟨I1.vw,?_⟩) he mP;obtain⟨m,hn,hl⟩:=I1.loc;obtain⟨uc,rc,lk⟩:=hl i y vc hN hσ (.inr (.inl hy));rcases lk with ⟨Jo,_⟩ |⟨_,cc,Q1,mh,Yy,dcc⟩
 ·have Jo:X.env.scope.names.lookup y=some .local:=Jo;rw[hy] at Jo;cases Jo
 have Wu:=I1.nO y cc Q1;have ME:=I1.ok.ME y cc PK Q1;have bcc:X.base.get? cc=none:=Heap.get?_none_of_le (zaA I1.ok.F3 ME);have Yu:cc ∉ CY X.stack:=fun hb=>by
  rcases zag.mp (I1.vQ cc hb) with z |z
  ·exact I1.OB y cc Q1 z
  ·obtain⟨_,o,ho,_⟩:=I1.ok.pP.mem z;exact absurd (zaB (Heap.lt_size ho) ME) (zaS _)
 have Q2:=q cc mh uc Q1 Wu dcc rc;have Wl:(us++[]).length=ps.length:=by rw[zaO,<- r.length];exact F.len _ _ _ _ Q2
 have Wv:=hb s1 us I1.vw Wl;rw[zaO] at Wv;refine wpAny_call (codeAny_mono (F.run X.A X.stack s1 (upd H1 cc (ff cc mh)) ⟨us,[]⟩ us vs _ E hr (I1.MN.add Wu bcc Yu Yy) Wv r Q2) fun r s' tZ=>?_);cases r with
 |error e=>exact M1 pins σ H1 s1 e s' cc mh I1 Wu Yy tZ
 |ok fl=>
  cases fl with
  |ret u'=>exact I1.after (CE.out Wu Yy tZ)
  |next=>exact False.elim tZ
  |brk=>exact False.elim tZ
  |cont=>exact False.elim tZ
theorem GS{P:zds}{w:zdi}{K:zaa}{mg mb:Str->Option zdh}{CX:AV}{k:Nat}{fa a c Pt:zdg}{fd:zdp}{x:Str}{sp:Sp}{s₁:zdq}{vs:List zdh}{ns:List Int}
 (KX:K.In s₁.heap) (ON:s₁.heap.Ns zdn mg) (hb:s₁.heap.Ns builtinsNs mb) (Yz:∀x:Str,x≠"__name__"->mb x=bootBuiltins x) (YA:s₁.heap.NoLimit) (hg:s₁.gens = #[])
 (ha:s₁.heap.get? a=some {cls:=.type "list",data:=.seq vs.toArray}) (hi:IntsAre vs ns) (hl:ns.length<=zdo) (hr:gQ k callerA) (hd:PySem.W.CodeHd s₁.heap c Pt) (Ir:s₁.heap.get? Pt=some (zc4 #[])) (Ul:K.lookup Pt=none)
 (YB:∃bm o,mg "__builtins__"=some (.ref bm)/\bm≠builtinsNs/\bm≠zdn/\s₁.heap.get? bm=some o/\o.cls=.type "module"/\o.dict=some builtinsNs/\o.data=.plain)
 (F:∀base:Heap,K.In base->base.Ns zdn mg->jM K mg base c Pt->bB P w K mg base CX k fa fd [x] sp) (wD:∀(s:zdq) (u:zdh),BindsTo s fd ⟨[u],[]⟩ [(x,u)])
 (Mf:∀H:Hp,gC K H a (ns.map V.int)->H Pt=some (.uv #[])->sp [.ref a] H (fun v _=>v=.bl true) fun _ _ _=>False)
 (YC:∀H e s',CX [] H s₁ (fun _ _ _=>False) e s'->False) :
 codeAny (model P w) callerA (.call (.ref fa) ⟨[.ref a],[]⟩) (fun r s'=>r=.ok (.ret (.bool true))/\OldK s₁.heap s'.heap/\s'.os=s₁.os/\AllBare s'.gens) s₁:=by
 have rv:=tN hi;have YD:=hi.length;have Ww:a≠Pt:=fun z=>by rw[z,Ir] at ha;cases ha
 obtain⟨H,YE,YF,Wx,hS,hK⟩:∃H:Hp,H Pt=some (.uv #[])/\(H a=none\/H a=some (.Ex {cls:=.type "list",data:=.seq vs.toArray} (.lst (ns.map V.int))))/\(∀b,b≠Pt->b≠a->H b=none)/\gC K H a (ns.map V.int)/\(H a≠none->K.lookup a=none):=by
  cases hk:K.lookup a with
  |some o=>
   have e:=KX a o hk;rw[ha] at e;cases e;exact⟨fun b=>if b=Pt then some (.uv #[]) else none,if_pos rfl,.inl (if_neg Ww),fun b n _=>if_neg n,.inr ⟨_,vs.toArray,_,hk,rfl,rfl,rfl,by rw[zao,YD];exact hl,by simpa using rv⟩,fun z=>absurd (if_neg Ww) z⟩
  |none=>exact⟨fun b=>if b=Pt then some (.uv #[]) else if b=a then some (.Ex {cls:=.type "list",data:=.seq vs.toArray} (.lst (ns.map V.int))) else none,if_pos rfl,.inr ((if_neg Ww).trans (if_pos rfl)),fun b n1 n2=>(if_neg n1).trans (if_neg n2),.inl (.inr ⟨_,(if_neg Ww).trans (if_pos rfl)⟩),fun _=>rfl⟩
 have cI:nN P w H s₁.heap:=fun b u q=>by
  by_cases z:b=Pt
  ·subst z;rw[YE] at q;cases q;exact Ir
  ·by_cases z2:b=a
   ·subst z2;rcases YF with e |e
    ·rw[e] at q;cases q
    ·rw[e] at q;cases q;exact⟨ha,by rw[zac];exact hl,vs,_,rv,ha⟩
   ·rw[Wx b z z2] at q;cases q
 have free:∀ {b:zdg} {o:Obj},s₁.heap.get? b=some o->(∀xs n,o.data≠.seq xs n)->(∀fs,o.data≠.fields fs\/o.cls≠.none)->H b=none:=fun {b o} e n1 n2=>by
  refine Wx b (fun z=>?_) (fun z=>?_)
  ·rw[z,Ir] at e;cases e;exact(n2 #[]).elim (fun q=>q rfl) fun q=>q rfl
  ·rw[z,ha] at e;cases e;exact n1 _ _ rfl
 have Wy:∀ {b:zdg} {m:Str->Option zdh},s₁.heap.Ns b m->(zm s₁.heap H).Ns b m:=fun {b m} ⟨o,es,ep,e,d,r⟩=>⟨o,es,ep,rA e (free e (fun _ _ z=>by rw[d] at z;cases z) fun _=>.inl fun z=>by rw[d] at z;cases z),d,r⟩
 have hKb:K.In (zm s₁.heap H):=fun b o e=>rA (KX b o e) (by
  by_cases z:b=Pt
  ·rw[z,Ul] at e;cases e
  ·by_cases z2:b=a
   ·rcases YF with q |q
    ·rw[z2];exact q
    ·rw[z2,hK (by rw[q];simp)] at e;cases e
   ·exact Wx b z z2)
 have hM:Mod K mg (zm s₁.heap H):=⟨hKb,Wy ON,⟨mb,Wy hb,Yz⟩,let ⟨mc,h1,h2⟩:=YA;⟨mc,Wy h1,h2⟩⟩
 have e0:qz P w K mg (zm s₁.heap H) callerA [] s₁ H:=⟨rfl,hM,fun b o e=>MD e,Nat.le_of_eq (F1 _ _),trivial,fun b hb=>absurd (show b∈([]:List zdg) from hb) (by simp),cI,.of_eq hg⟩
 have hL:jM K mg (zm s₁.heap H) c Pt:=by
  refine⟨?_,?_⟩
  ·obtain⟨o,Q3,file,tf,flags,tg,inF,text,tt,e1,r1,r2,r⟩:=hd;exact⟨o,Q3,file,tf,flags,tg,inF,text,tt,rA e1 (free e1 (fun _ _ z=>by rw[r2] at z;cases z) fun _=>.inr fun z=>by rw[r1] at z;cases z),r1,r2,r⟩
  ·obtain⟨bm,o,e1,e2,e3,e4,r1,r2,r3⟩:=YB;exact⟨bm,o,e1,e2,e3,rA e4 (free e4 (fun _ _ z=>by rw[r3] at z;cases z) fun _=>.inl fun z=>by rw[r3] at z;cases z),r1,r2,r3⟩
 refine codeAny_mono ((F _ hKb (Wy ON) hL).run callerA [] s₁ H ⟨[.ref a],[]⟩ [.ref a] [.ref a] _ _ hr e0 (wD s₁ (.ref a)) (.cons rfl .nil) (Mf H hS YE)) fun r s' h=>?_;cases r with
 |error e=>exact(YC H e s' h).elim
 |ok fl=>
  cases fl with
  |next=>exact False.elim h
  |brk=>exact False.elim h
  |cont=>exact False.elim h
  |ret u=>
   obtain⟨v,H',os,bare,un,Um,r',q⟩:=h;have q':v=.bl true:=q;subst q';obtain rfl:u=Value.bool true:=r';refine⟨rfl,⟨fun b o e=>?_,fun b o e=>un.there b o e (by simp)⟩,os,bare⟩;by_cases z:b=Pt
   ·subst z;rw[Ir] at e;cases e;obtain⟨more,em⟩:=un.ve b _ YE;have g':=Um b _ em;obtain⟨oc,Q3,file,tf,flags,tg,inF,text,tt,e1,r1,r2,r3,_⟩:=hd;exact .inr (.inl ⟨⟨c,oc,Q3,e1,r1,r2,r3⟩,rfl, #[],more,rfl,g'⟩)
   ·refine .inl ?_;by_cases z2:b=a
    ·subst z2;rcases YF with n |n
     ·exact un.keep b o e n (by intro z;exact absurd (show b∈([]:List zdg) from z) (by simp)) (by simp)
     ·have z3:=un.vd b _ _ n;obtain⟨e2,_⟩:=Um b _ z3;rw[ha] at e;cases e;exact e2
    ·exact un.keep b o e (Wx b z z2) (by intro z;exact absurd (show b∈([]:List zdg) from z) (by simp)) (by simp)
theorem KJ{l:PySem.W.OpenLaw}{n k:Nat}{q:zds}{loose:List Str}{XP:(Str->Option zdh)->Heap->Prop}{YP:zdi->Heap->Prop}{d dF:DefRec}{K:Params->zaa}{CX:zdi->AV}{sp:zdi->Sp}{x fn:Str}{c Pt:zdg}
 (hn:l.most=some n) (Wi:n<=zdo) (TC:d.params.defaults=[]) (hr:gQ k callerA)
 (hY:∀(w:zdi) (h:Heap),YP w h->(K w.params).In h) (KD:(recsOf q).find? (fun e=>e.name==fn)=some dF) (KL:∀w:zdi,zcl (K w.params) fn=some (c,Pt)) (Ul:∀w:zdi,(K w.params).lookup Pt=none)
 (F:∀(w:zdi) (mg:Str->Option zdh) (fa:zdg) (h:Heap),(K w.params).In h->h.Ns zdn mg->mg d.name=some (.ref fa)->
  ∃fd:zdp,(∀(s:zdq) (u:zdh),BindsTo s fd ⟨[u],[]⟩ [(x,u)])/\
   ∀base:Heap,(K w.params).In base->base.Ns zdn mg->jM (K w.params) mg base c Pt->bB l.prog w (K w.params) mg base (CX w) k fa fd [x] (sp w))
 (Mf:∀(w:zdi) (H:Hp) (a:zdg) (ns:List Int),ns.length<=n->gC (K w.params) H a (ns.map V.int)->H Pt=some (.uv #[])->sp w [.ref a] H (fun v _=>v=.bl true) fun _ _ _=>False)
 (YC:∀(w:zdi) (H:Hp) (s:zdq) (e:zdh) (s':zdq),CX w [] H s (fun _ _ _=>False) e s'->False) :
 PySem.W.WalkO q loose XP YP l.row.toRowW d [] (fun f vs=>PySem.call f vs):=by
 refine Att.Bi hn TC fun w s₀ s₁ mg mb fa o pm cd doc a vs ns G Y ho hd C0 TF Qv hints hlen hg=>?_;have KX:=hY w _ Y;obtain⟨fd,hb,hF⟩:=F w mg fa _ KX G.T.g TF;obtain⟨QL,hd2⟩:=PySem.W.tab_of G.T KX KD (KL w);have YB:∃bm o,mg "__builtins__"=some (.ref bm)/\bm≠builtinsNs/\bm≠zdn/\s₁.heap.get? bm=some o/\o.cls=.type "module"/\o.dict=some builtinsNs/\o.data=.plain:=by
  obtain⟨bm,ob,b1,b2,b3,b4,b5,b6⟩:=G.T.bmain;refine⟨bm,ob,b1,b2,fun z=>?_,b3,b4,b5,b6⟩;obtain⟨o,es,ep,e,hd,_⟩:=G.T.g;rw[z,e] at b3;cases b3;rw[hd] at b6;cases b6
 exact GS KX G.T.g G.T.b G.T.builtins G.T.nolimit hg Qv hints (zaA hlen Wi) hr QL hd2 (Ul w) YB hF hb (fun H hS hP=>Mf w H a ns hlen hS hP) fun H e s'=>YC w H s₁ e s'
def wF (K:zaa) (f c:zdg):Prop:=∀oc od fd EL,K.lookup f=some ⟨oc,od,.func fd,EL⟩->fd.code=.ref c
theorem KN{K:zaa}{x:Str}{f c P:zdg}(h:zcl K x=some (c,P))(hn:zaJ K zdn x=some (some (.ref f))):wF K f c:=by
 intro oc od fd EL hl;unfold zcl at h;rw[hn] at h;simp only[hl] at h;split at h
 ·rename_i c2 hc;split at h
  ·split at h
   ·cases h;exact hc
   ·cases h
  ·cases h
 ·cases h
section
variable{P:zds}{w:zdi}{K:zaa}{mg:Str->Option zdh}{base:Heap}
theorem Im.okC{x qual:Str}{st:Stmt}{f c:zdg}{fd:zdp}{N ps:List Str}{k:Nat}{sp:Sp}(F:Im K x qual st f fd)(S:aY N ps (aE st))(hc:wF K f c)(len:∀vs H Q E,sp vs H Q E->vs.length=ps.length)
 (rG:∀(A:zdr) (outer:List Env) (s:zdq) (H:Hp) (vs:List V) (Q:VK) (E:XK),gQ k (A.deeper (envOfC qual (aE st) s.heap.objs.size f (.ref c)))->sp vs H Q E->
  ∃t σ,CZ (mQ dc P w K mg base N qual (aE st) f (.ref c) A outer s H E).C1 (gJ st) t/\start N vs=σ/\t {nx:=fun _ H'=>Q .cx H',rt:=Q} σ H):bB P w K mg base dc (k+1) f fd ps sp:=by
 obtain⟨oc,od,kV,doc,pm,an,eS,ct,EL,rfl,lk,C0⟩:=F.ex;have e:eS=.ref c:=hc _ _ _ _ lk;subst e;refine OG lk C0 S len fun A outer s H vs Q E hr Mf=>?_;obtain⟨t,σ,h,e,q⟩:=rG A outer s H vs Q E hr Mf;subst e;exact⟨t,h.C1,q⟩
end
def jH (st:Stmt):Expr:=match gJ st with
 |[.Return (some (.Call _ [_,l] _ _)) _]=>l
 |_=>.Constant .none 0 ⟨0,0,0,0⟩
def DK:Expr->Arguments
 |.Lambda p _ _ _=>p
 |_=>{posonlyargs:=[],args:=[],vararg:=none,kwonlyargs:=[],kw_defaults:=[],kwarg:=none,defaults:=[]}
def vE:Expr->Expr
 |.Lambda _ b _ _=>b
 |e=>e
def mi:Expr->Scope
 |.Lambda _ _ s _=>s
 |_=>{kind:=.function,names:=[],isGenerator:=false,isCoroutine:=false}
def DL:Expr->Pos
 |.Lambda _ _ _ p=>p
 |_=>⟨0,0,0,0⟩
def GU (y qual:Str) (l:Expr) (H:Hp) (fo cc:zdg) (mh:Obj) (vc:V):Prop:=O1 y "<lambda>" qual (DK l) (vE l) (mi l) H fo cc mh vc
def cL (pr:PG.Prog) (s:bH):List bH:=if s.1=0 then [] else if vj pr.body s.1=true then (zaF 10).map fun f=>((fM pr s.1 s.2 (f:Nat)).1.getD s) else (fM pr s.1 s.2 0).1.toList
theorem zX{pr:PG.Prog}(d:fW pr){s:bH}(h:cR pr s):∀x∈cL pr s,cR pr x:=by
 intro x hx;unfold cL at hx;split at hx
 ·cases hx
 ·rename_i h0;split at hx
  ·rename_i ha;obtain⟨f,_,rfl⟩:=zau.mp hx;cases e:(fM pr s.1 s.2 (f:Nat)).1 with
   |none=>exact h
   |some y=>exact h.next d h0 e
  ·rw[Option.mem_toList] at hx;exact h.next d h0 hx
theorem bQ.upL{K:zaa}{H H':Hp}{D a:zdg}{row:Int}{vals:List Int}{ys:List V}(h:bQ K H a row vals)(hD:H D=some (.lst ys))(u:bo D H H'):bQ K H' a row vals:=by obtain⟨va,h1,h2⟩:=h;exact⟨va,h1.pR hD u,h2.pR hD u⟩
theorem jO{K:zaa}{H H':Hp}{g:List bH}{us:List V}(h:bF K H g us)(f:∀a row vals,bQ K H a row vals->bQ K H' a row vals):bF K H' g us:=Paired.uZ h fun _ _ ⟨a,e,q⟩=>⟨a,e,f _ _ _ q⟩
theorem jk{K:zaa}{H:Hp}:∀ {g:List bH} {us:List V} {x:bH} {a:zdg},bF K H g us->bQ K H a x.1 x.2->bF K H (g++[x]) (us++[.ref a])
 |[],_,_,_,h,q=>by cases h;exact .cons ⟨_,rfl,q⟩ .nil
 |_::_,_,_,_,h,q=>by
  cases h with
  |cons a b=>exact .cons a (jk b q)
section
variable(P:zds)(w:zdi)(K:zaa)(CC:zdg)
inductive Fs(vs:List V)(H:Hp)(Q:VK)(E:XK):Prop
 |mk (ch sa:zdg) (pr:PG.Prog) (s:bH):vs=[.ref ch,.ref sa]->vC K CC H ch pr->fW pr->bQ K H sa s.1 s.2->cR pr s->(∀l us H',aq H H'->H l=none->H' l=some (.lst us)->bF K H' (cL pr s) us->Q (.ref l) H')->Fs vs H Q E
end
abbrev qK:=List (bH×List Int)
def r9 (led:bH->List bH):Nat->qK->bH->List Int->qK×Option (List bH)
 |0,f,_,_=>(f,none)
 |n+1,f,s,g=>if s∈f.map (·.1) then (f,none) else match led s with
  |[t]=>r9 led n (f++[(s,g)]) t g
  |l=>(f++[(s,g)],some l)
def g9 (K:zaa) (H:Hp) (f:qK) (kvs:List (jA×V)):Prop:=Paired (fun (x:bH×List Int) (kv:jA×V)=>kv.1=fX x.1/\∃a,kv.2=.ref a/\b8 K H a (x.2.map V.int)) f kvs
section
variable{K:zaa}{H H':Hp}
theorem g9.imp{f:qK}{kvs:List (jA×V)}(h:g9 K H f kvs)(t:∀a xs,b8 K H a xs->b8 K H' a xs):g9 K H' f kvs:=Paired.uZ h fun _ _ ⟨e,a,e2,q⟩=>⟨e,a,e2,t _ _ q⟩
theorem g9.YG:∀ {f:qK} {kvs:List (jA×V)},g9 K H f kvs->∀s:bH,(cE kvs (fX s)).isSome=decide (s∈f.map (·.1))
 |[],_,h,s=>by cases h;rfl
 |x::r,_,h,s=>by
  cases h with
  |@cons _ kv _ _ a b=>
   obtain⟨k,v⟩:=kv;obtain⟨e,_⟩:=a;simp only at e;subst e;by_cases z:x.1=s
   ·rw[ck (by rw[z]),zaq,z];simp
   ·rw[cm (fun y=>z (oI y)),g9.YG b s,zaq];simp[Ne.symm z]
theorem g9.len{f:qK}{kvs:List (jA×V)}(h:g9 K H f kvs):kvs.length=f.length:=(Paired.length h).symm
theorem g9.put{f:qK}{kvs:List (jA×V)}(h:g9 K H f kvs){s:bH}{g:List Int}{a:zdg}(n:s ∉ f.map (·.1))(q:b8 K H a (g.map V.int)):g9 K H (f++[(s,g)]) (putK kvs (fX s) (.ref a)):=by
 unfold putK;rw[je,h.YG,decide_eq_false n,if_neg zal];exact Paired.snoc h ⟨rfl,a,rfl,q⟩
end
section
variable(P:zds)(w:zdi)(K:zaa)(CC:zdg)(l:Expr)(qual:Str)
def KO (H0 H:Hp) (us:List V) (gv:V):Option (List bH)->Prop
 |none=>us=[]
 |some gS=>∃ta la mm,us=[.ref ta]/\b8 K H ta [gv,.ref la]/\H0 la=none/\H la=some (.lst mm)/\bF K H gS mm
def Q4:Sp:=fun vs H Q _=>∃(sa fo D ga cc ch:zdg) (mh:Obj) (pr:PG.Prog) (s:bH) (f:qK) (g:List Int) (kvs:List (jA×V)),vs=[.ref sa,.ref fo,.ref ga,.ref D]/\vC K CC H ch pr/\fW pr/\bQ K H sa s.1 s.2/\cR pr s/\GU "chart" qual l (wo H D) fo cc mh (.ref ch)/\
 b8 K H ga (g.map V.int)/\DS qH P w K H D kvs/\g9 K H f kvs/\(f.map (·.1)).Nodup/\(∀x∈f,cR pr x.1)/\bR pr<2000/\
 ∀L us Uo H',bo D H H'->H L=none->H' L=some (.lst us)->DS qH P w K H' D Uo->g9 K H' (r9 (cL pr) (bR pr+1) f s g).1 Uo->KO K H H' us (.ref ga) (r9 (cL pr) (bR pr+1) f s g).2->Q (.ref L) H'
end
theorem GU.mono{y qual:Str}{l:Expr}{H H':Hp}{fo cc:zdg}{mh:Obj}{vc:V}(h:GU y qual l H fo cc mh vc)(s:aq H H'):GU y qual l H' fo cc mh vc:=by
 obtain⟨c',pm,uL,uc,oc,vs,tk,g1,g2,d2,q2,g3,d3,rc⟩:=h;exact⟨c',pm,uL,uc,oc,vs,tk,s _ _ g1,s _ _ g2,d2,q2,s _ _ g3,d3,rc⟩
theorem KP{H H':Hp}{D:zdg}(u:bo D H H'):aq (wo H D) H':=fun b o e=>by
 by_cases z:b=D
 ·subst z;rw[ic] at e;cases e
 ·rw[cV z] at e;exact u b o z e
theorem lJ{H:Hp}{D:zdg}{o:HO}:wo (upd H D o) D=wo H D:=funext fun b=>by
 by_cases z:b=D
 ·subst z;rw[ic,ic]
 ·rw[cV z,cV z,aw z]
theorem vF{H H':Hp}{D:zdg}(s:aq H H')(n:H D=none):aq H (wo H' D):=fun b o e=>by
 rw[cV (az e n)];exact s b o e
theorem vG{H H':Hp}{D:zdg}(s:aq H H'):aq (wo H D) (wo H' D):=fun b o e=>by
 by_cases z:b=D
 ·subst z;rw[ic] at e;cases e
 ·rw[cV z] at e ⊢;exact s b o e
theorem fO{H:Hp}{D:zdg}:aq (wo H D) H:=KP (.refl _ _)
theorem Q5{H H':Hp}{D b:zdg}(u:bo D H H'):bo D (wo H b) (wo H' b):=fun a o n e=>by
 by_cases z:a=b
 ·subst z;rw[ic] at e;cases e
 ·rw[cV z] at e ⊢;exact u a o n e
theorem vH{H:Hp}{a:zdg}:bo a H (wo H a):=fun b o n e=>by rw[cV n];exact e
theorem NI{H H3:Hp}{a:zdg}{o:Obj}(ha:H a=some (ff a o))(s:aq (wo H a) H3):aq H (upd H3 a (ff a o)):=fun b u e=>by
 by_cases z:b=a
 ·subst z;rw[ha] at e;cases e;exact ah
 ·rw[aw z];exact s b u (by rw[cV z];exact e)
section
variable{K:zaa}{H H':Hp}{p:zdg}{φ:Heap->Prop}
mutual
theorem NJ(h:H p=some (.ext φ))(u:bo p H H'):∀(d:Dp) (v:V),Rep K H d v->Rep K H' d v
 |.cx,v,r=>by rw[Rep.pC] at r ⊢;exact r
 |.bl b,v,r=>by rw[Rep.lH] at r ⊢;exact r
 |.int b,v,r=>by rw[Rep.bj] at r ⊢;exact r
 |.str b,v,r=>by rw[Rep.bt] at r ⊢;exact r
 |.lst l,v,r=>by
  rw[Rep.bg] at r ⊢;obtain⟨a,ys,rfl,q,rs⟩:=r;refine⟨a,ys,rfl,?_,se h u l ys rs⟩;rcases q with (q |⟨o,q⟩) |q
  ·exact .inl (.inl (u _ _ (cQ q h (by intro z;cases z)) q))
  ·exact .inl (.inr ⟨o,u _ _ (cQ q h (by intro z;cases z)) q⟩)
  ·exact .inr q
 |.tup l,v,r=>by
  rw[Rep.aX] at r ⊢;obtain⟨a,ys,rfl,q,rs⟩:=r;exact⟨a,ys,rfl,q.qI h u,se h u l ys rs⟩
theorem se(h:H p=some (.ext φ))(u:bo p H H'):∀(ds:List Dp) (vs:List V),aI K H ds vs->aI K H' ds vs
 |[],vs,r=>by rw[aI.bN] at r ⊢;exact r
 |d::ds,vs,r=>by
  rw[aI.aB] at r ⊢;obtain⟨v,t,rfl,r1,r2⟩:=r;exact⟨v,t,rfl,NJ h u d v r1,se h u ds t r2⟩
end
theorem vC.ext{C ch:zdg}{pr:PG.Prog}(c:vC K C H ch pr)(h:H p=some (.ext φ))(u:bo p H H'):vC K C H' ch pr:=by
 obtain⟨dx,nl,sd,fa,va,st,wy,us,ws,h1,h2,h3,h4,h5,h6,h7,h8,h9,Iq,Mj,OW⟩:=c.at_;have k:∀ {b:zdg} {o:HO},H b=some o->(∀ψ,o≠.ext ψ)->H' b=some o:=fun {b o} e n=>u _ _ (cQ e h (n φ)) e;exact⟨⟨dx,nl,sd,fa,va,st,wy,us,ws,k h1 (fun _ z=>by cases z),k h2 (fun _ z=>by cases z),k h3 (fun _ z=>by cases z),k h4 (fun _ z=>by cases z),k h5 (fun _ z=>by cases z),k h6 (fun _ z=>by cases z),h7,k h8 (fun _ z=>by cases z),se h u _ _ h9,Iq,k Mj (fun _ z=>by cases z),fun i hi=>let ⟨q,e,r⟩:=OW i hi;⟨q,e,r.qI h u⟩⟩⟩
end
end L2
namespace L2
open PG
open PySem PySem.Spec PyProof.Rows
def sf (g:List Int):Option (List bH)->List (List Int×List bH)
 |none=>[]
 |some l=>[(g,l)]
def eE (led:bH->List bH) (n:Nat):qK->qK->qK×List (List Int×List bH)
 |f,[]=>(f,[])
 |f,(s,g)::r=>((eE led n (r9 led n f s g).1 r).1,sf g (r9 led n f s g).2++(eE led n (r9 led n f s g).1 r).2)
def eG (as:List (List Int×List bH)):qK:=as.flatMap fun a=>(zaF a.2.length).map fun i:Nat=>(a.2.getD i (0,[]),a.1++[((i:Nat):Int)])
def zY (led:bH->List bH) (n:Nat):Nat->qK->List (List Int×List bH)->qK
 |0,f,_=>f
 |m+1,f,as=>if as=[] then f else zY led n m (eE led n f (eG as)).1 (eE led n f (eG as)).2
def lK (pr:PG.Prog) (s:bH):qK:=zY (cL pr) (bR pr+1) (bR pr+2) (r9 (cL pr) (bR pr+1) [] s []).1 (sf [] (r9 (cL pr) (bR pr+1) [] s []).2)
section
variable(P:zds)(w:zdi)(K:zaa)(CC:zdg)(l:Expr)(qual:Str)
def BO:Sp:=fun vs H Q _=>∃(sa fo cc ch:zdg) (mh:Obj) (pr:PG.Prog) (s:bH),vs=[.ref sa,.ref fo]/\vC K CC H ch pr/\fW pr/\bQ K H sa s.1 s.2/\cR pr s/\GU "chart" qual l H fo cc mh (.ref ch)/\bR pr<2000/\
 ∀D kvs H',aq H H'->H D=none->DS qH P w K H' D kvs->g9 K H' (lK pr s) kvs->Q (.ref D) H'
def GV (Pt:zdg) (lp:Pos):Sp:=fun vs H Q _=>∃(ch:zdg) (pr:PG.Prog) (ps:Array zdh),vs=[.ref ch]/\vC K CC H ch pr/\fW pr/\bR pr<2000/\H Pt=some (.uv ps)/\TabOk qual lp H ps/\
 ∀D kvs H' jN,bo Pt H H'->H D=none->DS qH P w K H' D kvs->g9 K H' (lK pr (bK pr.body 0,pr.ax.map (·.first))) kvs->H' Pt=some (.uv jN)->TabOk qual lp H' jN->Q (.ref D) H'
end
section
variable{led:bH->List bH}{S:bH->Prop}
structure DM(S:bH->Prop)(f:qK):Prop where
 nd:(f.map (·.1)).Nodup
 pS:∀x∈f,S x.1
theorem DM.nil:DM S []:=⟨zc0,fun x h=>by cases h⟩
theorem DM.put{f:qK}{s:bH}{g:List Int}(h:DM S f)(n:s ∉ f.map (·.1))(hs:S s):DM S (f++[(s,g)]):=by
 refine⟨?_,fun x hx=>?_⟩
 ·rw[zas];exact zbm.mpr ⟨h.nd,by simp,fun a ha b hb=>by rw[zaq,zaP,zap] at hb;rw[hb];exact fun y=>n (by rw[<- show a=s from y];exact ha)⟩
 ·rcases zah.mp hx with hx |hx
  ·exact h.pS x hx
  ·rw[zap.mp hx];exact hs
structure vk(S:bH->Prop)(m:Nat)(as:List (List Int×List bH)):Prop where
 pS:∀a∈as,∀x∈a.2,S x
 len:∀a∈as,a.1.length<=m
theorem vk.nil{m:Nat}:vk S m []:=⟨fun a h=>(by cases h),fun a h=>(by cases h)⟩
theorem vk.app{m:Nat}{as bs:List (List Int×List bH)}(h:vk S m as)(h2:vk S m bs):vk S m (as++bs):=⟨fun a ha=>(zah.mp ha).elim (h.pS a) (h2.pS a),fun a ha=>(zah.mp ha).elim (h.len a) (h2.len a)⟩
theorem wG(li:∀s,S s->∀x∈led s,S x){m:Nat}:∀(n:Nat) (f:qK) (s:bH) (g:List Int),DM S f->S s->g.length<=m->DM S (r9 led n f s g).1/\vk S m (sf g (r9 led n f s g).2)/\f.length+(sf g (r9 led n f s g).2).length<=(r9 led n f s g).1.length
 |0,f,s,g,h,_,_=>⟨h,.nil,zaj _⟩
 |n+1,f,s,g,h,hs,hg=>by
  rw[r9];split
  ·exact⟨h,.nil,zaj _⟩
  ·rename_i hn;have h1:=h.put (g:=g) hn hs;split
   ·rename_i t e;have:=wG li n (f++[(s,g)]) t g h1 (li s hs t (by rw[e];exact zap.mpr rfl)) hg;refine⟨this.1,this.2.1,?_⟩;have:=this.2.2;rw[zai,zax] at this;lia
   ·refine⟨h1,⟨fun a ha x hx=>?_,fun a ha=>?_⟩,?_⟩
    ·rw[zap.mp ha] at hx;exact li s hs x hx
    ·rw[zap.mp ha];exact hg
    ·rw[zai];exact zaj _
theorem sj(li:∀s,S s->∀x∈led s,S x){m n:Nat}:∀(l:qK) (f:qK),DM S f->(∀x∈l,S x.1/\x.2.length<=m)->DM S (eE led n f l).1/\vk S m (eE led n f l).2/\f.length+(eE led n f l).2.length<=(eE led n f l).1.length
 |[],f,h,_=>⟨h,.nil,zaj _⟩
 |(s,g)::r,f,h,hl=>by
  obtain⟨a1,a2,a3⟩:=wG li n f s g h (hl _ (zav ..)).1 (hl _ (zav ..)).2;obtain⟨b1,b2,b3⟩:=sj li r _ a1 fun x hx=>hl x (zae _ hx);refine⟨b1,a2.app b2,?_⟩;show f.length+(sf g (r9 led n f s g).2++(eE led n (r9 led n f s g).1 r).2).length<=_;rw[zai];show _<=(eE led n (r9 led n f s g).1 r).1.length;lia
theorem yK{n:Nat}:∀(l k:qK) (f:qK),eE led n f (l++k)=((eE led n (eE led n f l).1 k).1,(eE led n f l).2++(eE led n (eE led n f l).1 k).2)
 |[],k,f=>rfl
 |(s,g)::r,k,f=>by
  rw[zbi,eE,yK r k];simp only[eE,zaW]
theorem GW{n:Nat}{f:qK}{s:bH}{g:List Int}:eE led n f [(s,g)]=((r9 led n f s g).1,sf g (r9 led n f s g).2):=by simp only[eE,zaO]
theorem t9{m:Nat}{as:List (List Int×List bH)}(h:vk S m as):∀x∈eG as,S x.1/\x.2.length<=m+1:=by
 intro x hx;obtain⟨a,ha,hx⟩:=zbA.mp hx;obtain⟨i,hi,rfl⟩:=zau.mp hx;have hi:=zbd.mp hi;refine⟨h.pS a ha _ ?_,?_⟩
 ·rw[zan,zad hi];exact zat hi
 ·have:=h.len a ha;rw[zai,zax];lia
def kT (a:List Int×List bH) (j:Nat):qK:=(zaF j).map fun i:Nat=>(a.2.getD i (0,[]),a.1++[((i:Nat):Int)])
theorem BP{a:List Int×List bH}{as:List (List Int×List bH)}:eG (as++[a])=eG as++kT a a.2.length:=by
 unfold eG;rw[za1];simp only[zbT,zbY,zaO];rfl
theorem zZ{a:List Int×List bH}{j:Nat}:kT a (j+1)=kT a j++[(a.2.getD j (0,[]),a.1++[((j:Nat):Int)])]:=by
 unfold kT;rw[zbs,zas];rfl
theorem DN{m j:Nat}{a:List Int×List bH}(h1:∀x∈a.2,S x)(h2:a.1.length<=m)(hj:j<=a.2.length):∀x∈kT a j,S x.1/\x.2.length<=m+1:=by
 intro x hx;obtain⟨i,hi,rfl⟩:=zau.mp hx;have hi:=zbd.mp hi;refine⟨h1 _ ?_,?_⟩
 ·rw[zan,zad (by lia)];exact zat (by lia)
 ·rw[zai,zax];lia
theorem KQ{n m:Nat}{f:qK}:zY led n m f []=f:=by
 cases m
 ·rfl
 ·rw[zY,if_pos rfl]
end
section
variable(K:zaa)
def dW (H:Hp) (as:List (List Int×List bH)) (us:List V):Prop:=Paired (fun (a:List Int×List bH) (v:V)=>∃ta ga la mm,v=.ref ta/\b8 K H ta [.ref ga,.ref la]/\b8 K H ga (a.1.map V.int)/\H la=some (.lst mm)/\bF K H a.2 mm) as us
end
section
variable{K:zaa}{H H':Hp}
theorem dW.imp{as:List (List Int×List bH)}{us:List V}(h:dW K H as us)(t:∀a xs,b8 K H a xs->b8 K H' a xs)(l:∀a xs,H a=some (.lst xs)->H' a=some (.lst xs)):dW K H' as us:=
 Paired.uZ h fun _ _ ⟨ta,ga,la,mm,e,q1,q2,q3,q4⟩=>⟨ta,ga,la,mm,e,t _ _ q1,t _ _ q2,l _ _ q3,jO q4 fun a row vals ⟨va,h1,h2⟩=>⟨va,t _ _ h1,t _ _ h2⟩⟩
theorem dW.mono{as:List (List Int×List bH)}{us:List V}(h:dW K H as us)(s:aq H H'):dW K H' as us:=h.imp (fun a xs q=>s.aZ q) fun a xs q=>s _ _ q
theorem dW.ext{as:List (List Int×List bH)}{us:List V}{D:zdg}{φ:Heap->Prop}(h:dW K H as us)(hD:H D=some (.ext φ))(u:bo D H H'):dW K H' as us:=h.imp (fun a xs q=>q.qI hD u) fun a xs q=>u _ _ (cQ q hD (by intro z;cases z)) q
theorem dW.of{H0:Hp}{us:List V}{ga b:zdg}{ys:List V}{g:List Int}{o:Option (List bH)}(h:KO K H0 H us (.ref ga) o)(q:b8 K H ga (g.map V.int))(n:H0 b≠none)(hb:H b=some (.lst ys)):dW K (wo H b) (sf g o) us:=by
 have u:bo b H (wo H b):=vH;cases o with
 |none=>rw[show us=[] from h];exact .nil
 |some l=>
  obtain⟨ta,la,mm,rfl,q1,n1,q2,q3⟩:=h;refine .cons ⟨ta,ga,la,mm,rfl,q1.pR hb u,q.pR hb u,?_,jO q3 fun a row vals ⟨va,h1,h2⟩=>⟨va,h1.pR hb u,h2.pR hb u⟩⟩ .nil;rw[cV (fun z=>n (by rw[<- z];exact n1))];exact q2
theorem dW.of1{H0:Hp}{us:List V}{ga:zdg}{g:List Int}{o:Option (List bH)}(h:KO K H0 H us (.ref ga) o)(q:b8 K H ga (g.map V.int)):dW K H (sf g o) us:=by
 cases o with
 |none=>rw[show us=[] from h];exact .nil
 |some l=>
  obtain⟨ta,la,mm,rfl,q1,n1,q2,q3⟩:=h;exact .cons ⟨ta,ga,la,mm,rfl,q1,q,q2,q3⟩ .nil
theorem dX{α β:Type}{R:α->β->Prop}:∀ {as:List α} {us:List β} {bs:List α} {vs:List β},Paired R as us->Paired R bs vs->Paired R (as++bs) (us++vs)
 |[],_,_,_,h,h2=>by cases h;exact h2
 |_::_,_,_,_,h,h2=>by
  cases h with
  |cons a b=>exact .cons a (dX b h2)
theorem dD{α β:Type}{R:α->β->Prop}:∀ {as:List α} {us:List β} {i:Nat} {v:β},Paired R as us->us[i]?=some v->∃a,as[i]?=some a/\R a v
 |[],_,_,_,h,e=>by cases h;simp at e
 |_::_,_,0,_,h,e=>by
  cases h with
  |cons a b=>cases e;exact⟨_,rfl,a⟩
 |_::_,_,i+1,_,h,e=>by
  cases h with
  |cons a b=>
   obtain⟨x,e1,e2⟩:=dD (i:=i) b (by simpa using e);exact⟨x,by simpa using e1,e2⟩
end
def Kp (H H':Hp):Prop:=∀b o,H b=some o->(∀ps,o≠.uv ps)->H' b=some o
section
variable{K:zaa}{H H':Hp}
theorem Kp.of{Pt:zdg}{ps:Array zdh}(u:bo Pt H H')(h:H Pt=some (.uv ps)):Kp H H':=fun b o e n=>u b o (cQ e h (n ps)) e
theorem b8.kp{a:zdg}{xs:List V}(h:b8 K H a xs)(k:Kp H H'):b8 K H' a xs:=by
 rcases h with (q |⟨o',q⟩) |q
 ·exact .inl (.inl (k _ _ q (by intro _ z;cases z)))
 ·exact .inl (.inr ⟨o',k _ _ q (by intro _ z;cases z)⟩)
 ·exact .inr q
theorem gC.kp{a:zdg}{xs:List V}(h:gC K H a xs)(k:Kp H H'):gC K H' a xs:=by
 rcases h with (q |⟨o',q⟩) |q
 ·exact .inl (.inl (k _ _ q (by intro _ z;cases z)))
 ·exact .inl (.inr ⟨o',k _ _ q (by intro _ z;cases z)⟩)
 ·exact .inr q
mutual
theorem DO(k:Kp H H'):∀(d:Dp) (v:V),Rep K H d v->Rep K H' d v
 |.cx,v,r=>by rw[Rep.pC] at r ⊢;exact r
 |.bl b,v,r=>by rw[Rep.lH] at r ⊢;exact r
 |.int b,v,r=>by rw[Rep.bj] at r ⊢;exact r
 |.str b,v,r=>by rw[Rep.bt] at r ⊢;exact r
 |.lst l,v,r=>by
  rw[Rep.bg] at r ⊢;obtain⟨a,ys,rfl,q,rs⟩:=r;exact⟨a,ys,rfl,gC.kp q k,vI k l ys rs⟩
 |.tup l,v,r=>by
  rw[Rep.aX] at r ⊢;obtain⟨a,ys,rfl,q,rs⟩:=r;exact⟨a,ys,rfl,b8.kp q k,vI k l ys rs⟩
theorem vI(k:Kp H H'):∀(ds:List Dp) (vs:List V),aI K H ds vs->aI K H' ds vs
 |[],vs,r=>by rw[aI.bN] at r ⊢;exact r
 |d::ds,vs,r=>by
  rw[aI.aB] at r ⊢;obtain⟨v,t,rfl,r1,r2⟩:=r;exact⟨v,t,rfl,DO k d v r1,vI k ds t r2⟩
end
theorem vC.kp{C ch:zdg}{pr:PG.Prog}(c:vC K C H ch pr)(k:Kp H H'):vC K C H' ch pr:=by
 obtain⟨dx,nl,sd,fa,va,st,wy,us,ws,h1,h2,h3,h4,h5,h6,h7,h8,h9,Iq,Mj,OW⟩:=c.at_;exact⟨⟨dx,nl,sd,fa,va,st,wy,us,ws,k _ _ h1 (fun _ z=>by cases z),k _ _ h2 (fun _ z=>by cases z),k _ _ h3 (fun _ z=>by cases z),k _ _ h4 (fun _ z=>by cases z),k _ _ h5 (fun _ z=>by cases z),k _ _ h6 (fun _ z=>by cases z),h7,k _ _ h8 (fun _ z=>by cases z),vI k _ _ h9,Iq,k _ _ Mj (fun _ z=>by cases z),fun i hi=>let ⟨q,e,r⟩:=OW i hi;⟨q,e,r.kp k⟩⟩⟩
theorem bQ.kp{a:zdg}{row:Int}{vals:List Int}(h:bQ K H a row vals)(k:Kp H H'):bQ K H' a row vals:=by obtain⟨va,h1,h2⟩:=h;exact⟨va,h1.kp k,h2.kp k⟩
theorem TabOk.kp{qual:Str}{lp:Pos}{ps:Array zdh}(h:TabOk qual lp H ps)(k:Kp H H'):TabOk qual lp H' ps:=by
 rcases h with h |⟨c',oc,vs,tk,e,h1,h2,h3⟩
 ·exact .inl h
 ·exact .inr ⟨c',oc,vs,tk,e,k _ _ h1 (fun _ z=>by cases z),h2,h3⟩
theorem Kp.same(s:aq H H'):Kp H H':=fun b o e _=>s b o e
end
end L2
namespace L2
open PG
open PySem PySem.Spec PyProof.Rows
abbrev oJ (pr:PG.Prog):bH:=(bK pr.body 0,pr.ax.map (·.first))
section
variable(P:zds)(w:zdi)(K:zaa)(CC:zdg)
def NK (qual:Str) (Pt:zdg) (lp:Pos):Sp:=fun vs H Q _=>∃(v:V) (pr:PG.Prog) (ps:Array zdh),vs=[v]/\Rep K H (gD pr) v/\fW pr/\bR pr<2000/\H Pt=some (.uv ps)/\TabOk qual lp H ps/\
 ∀l us H' jN,bo Pt H H'->H l=none->H' l=some (.lst us)->bF K H' ((lK pr (oJ pr)).map (·.1)) us->H' Pt=some (.uv jN)->TabOk qual lp H' jN->Q (.ref l) H'
def z0 (Pt:zdg):Sp:=fun vs H Q _=>∃(a:zdg) (ns:List Int),vs=[.ref a]/\gC K H a (ns.map V.int)/\ns.length<=63/\H Pt=some (.uv #[])/\∀H',Q (.bl true) H'
end
section
variable{K:zaa}{H H':Hp}
theorem Ft:∀ {f:qK} {kvs:List (jA×V)} {us:List V},g9 K H f kvs->Paired (fun (p:jA×V) (v:V)=>∃b,v=.ref b/\qH.on K H' p.1 b) kvs us->bF K H' (f.map (·.1)) us
 |[],_,_,h,h2=>by cases h;cases h2;exact .nil
 |x::r,_,_,h,h2=>by
  cases h with
  |@cons _ kv _ _ a b=>
   cases h2 with
   |cons c d=>
    obtain⟨b1,e,o⟩:=c;obtain⟨e1,_⟩:=a;rw[e1] at o;exact .cons ⟨b1,e,DI o⟩ (Ft b d)
end
def nT (s:bH):Dp:=.tup [.int s.1,.tup (s.2.map Dp.int)]
theorem sk:∀l:List bH,PyData.canLayAll0 (Dp.n9 (l.map nT))=true/\PyData.depthAll (Dp.n9 (l.map nT))<=2
 |[]=>by simp[Dp.n9,PyData.canLayAll0,PyData.depthAll]
 |s::r=>by
  obtain⟨h1,h2⟩:=sk r;obtain⟨i1,i2⟩:=Ff s.2;have k:(nT s).py.canLay0=true/\(nT s).py.depth<=2:=by
   unfold nT;simp only[Dp.py,Dp.n9,PyData.canLay0,PyData.canLayAll0,PyData.depth,PyData.depthAll,i1,i2,zck,zb0,true_and];lia
  rw[zaq,Dp.n9,PyData.canLayAll0,PyData.depthAll,h1,k.1];refine⟨rfl,?_⟩;have:=k.2;lia
theorem wH(l:List bH):SeqAt.shaped (Dp.lst (l.map nT)).py=true:=by
 obtain⟨h1,h2⟩:=sk l;unfold SeqAt.shaped;rw[Dp.py,PyData.canLay0,h1,zb0,decide_eq_true_iff,PyData.depth];lia
theorem mn{K:zaa}{H:Hp}:∀ {g:List bH} {us:List V},bF K H g us->aI K H (g.map nT) us
 |[],_,h=>by cases h;exact .nil
 |s::r,_,h=>by
  cases h with
  |cons a b=>
   obtain⟨x,rfl,va,h1,h2⟩:=a;exact .cons (Rep.aX.mpr ⟨x,_,rfl,h1,.cons zW (.cons (Rep.aX.mpr ⟨va,_,rfl,h2,yE _⟩) .nil)⟩) (mn b)
theorem Fu{led:bH->List bH}{S:bH->Prop}(li:∀s,S s->∀x∈led s,S x){n:Nat}:∀(m k:Nat) (f:qK) (as:List (List Int×List bH)),DM S f->vk S k as->DM S (zY led n m f as)
 |0,_,f,as,h,_=>h
 |m+1,k,f,as,h,h2=>by
  rw[zY];split
  ·exact h
  ·have:=sj li (n:=n) (m:=k+1) (eG as) f h (t9 h2);exact Fu li m (k+1) _ _ this.1 this.2.1
theorem KR{pr:PG.Prog}(d:fW pr):DM (cR pr) (lK pr (oJ pr)):=by
 have li:∀s,cR pr s->∀x∈cL pr s,cR pr x:=fun s h=>zX d h;have:=wG li (m:=0) (bR pr+1) [] (oJ pr) [] .nil (cR.first d) (zaj _);exact Fu li _ 0 _ _ this.1 this.2.1
def EV (ps:List (zdg×V)) (es:Array DictEntry):Prop:=Paired (fun (p:zdg×V) (e:DictEntry)=>e.key=.ref p.1/\RelV p.2 e.val) ps es.toList
theorem EV.size{ps:List (zdg×V)}{es:Array DictEntry}(h:EV ps es):es.size=ps.length:=by rw[<- za0];exact(Paired.length h).symm
theorem EV.at{ps:List (zdg×V)}{es:Array DictEntry}(h:EV ps es){i:Nat}(hi:i<es.size):∃b v,ps[i]?=some (b,v)/\es[i].key=.ref b/\RelV v es[i].val:=by
 obtain⟨⟨b,v⟩,e,e2⟩:=dD h (i:=i) (v:=es[i]) (by rw[zaN,zbq hi]);exact⟨b,v,e,e2.1,e2.2⟩
def Sg (d:zdg) (o:Obj) (ps:List (zdg×V)):It:=
 ⟨fun i H=>H d=some (ff d o)/\i<ps.length,fun i H x H'=>H'=H/\∃b v,x=.ref b/\ps[i]?=some (b,v),fun i H=>H d=some (ff d o)/\ps.length<=i⟩
theorem GX{P:zds}{w:zdi}{K:zaa}{tg:Expr}{d it:zdg}{o:Obj}{ps:List (zdg×V)}{es:Array DictEntry}{ep:Nat}(hx:o.ExactDict)(hd:o.data=.dict es ep)(ev:EV ps es) :
 Turn P w K tg (Sg d o ps) [it] it (fun i h=>h.IsKeyIter it d i es.size ep) where
 mem:=by simp
 obj:=fun i h st b hb=>by
  obtain⟨oi,eo,c,dd⟩:=st;have z:b=it:=by simpa using hb
  subst z;exact⟨oi,eo,fun v z=>by rw[dd] at z;cases z⟩
 keep:=fun i h h' st k=>st.at fun o x=>k it (by simp) o x
 item:=by
  intro X hP hw hK hc i pins s σ H E I hf st hg;subst hP hw hK;obtain⟨hH,hi⟩:=hg;rw[<- ev.size] at hi;obtain⟨f0,f1,f2,f3,f4,f5⟩:=hf it (by simp);obtain⟨b,v,e1,e2,_⟩:=ev.at hi;refine BJ st ⟨o,ff.get I.cI hH,hx,hd⟩ hi fun h' sZ sb=>?_;obtain⟨oi,eo,c,dd⟩:=id sZ;refine⟨_,rfl,EB (s:={s with heap:=h' }) (n:="dict_keyiterator") eo c dd (by decide) ⟨.ref b,H,I.turned (t':=s.toks) (fun b o hb e=>sb.extBut b o hb e) f0 f1 f3 f4 f5,e2,⟨rfl,b,v,rfl,e1⟩,sZ,fun b hb=>(hf b hb).1⟩⟩
 done:=by
  intro X hP hw hK hc i pins s σ H E I hf st hg;subst hP hw hK;obtain⟨hH,hi⟩:=hg;rw[<- ev.size] at hi;obtain⟨f0,f1,f2,f3,f4,f5⟩:=hf it (by simp);exact Fp (I.ok.hd hc) st ⟨o,ff.get I.cI hH,hx,hd⟩ hi fun h' eb=>⟨rfl,I.turned (t':=s.toks) (fun b o hb e=>eb b o hb e) f0 f1 f3 f4 f5⟩
 self:=fun _ _ _ _ _ st h=>wpAny_pyIter_keyiter st h
section
variable{κ:Type}[DecidableEq κ](J:KH κ)
structure Fz(P:zds)(w:zdi)(K:zaa)(H:Hp)(d:zdg)(kvs:List (κ×V))(o:Obj):Prop where
 len:kvs.length<=zdo
 sys:(d==sysModules)=false
 at_:∃xs,(∀h:Heap,h.get? d=some o->kS J P w d xs h)/\KS J K H kvs xs/\(xs.map (·.1)).Nodup
def Q6 (K:zaa) (H:Hp) (kvs:List (κ×V)) (ps:List (zdg×V)):Prop:=Paired (fun (kv:κ×V) (p:zdg×V)=>J.on K H kv.1 p.1/\p.2=kv.2) kvs ps
def KU (P:zds) (w:zdi) (K:zaa) (tl:TE):TI:=fun σ H R=>tl σ H fun x H1=>∃d kvs,x=.ref d/\DS J P w K H1 d kvs/\∀o ps,Fz J P w K H1 d kvs o->Q6 J K H1 kvs ps->R (Sg d o ps) (upd H1 d (ff d o))
variable{J}
theorem O4{P:zds}{w:zdi}{K:zaa}{H:Hp}:∀ {kvs:List (κ×V)} {xs:List (κ×zdg×zdh)},KS J K H kvs xs->∃ps,Q6 J K H kvs ps/\Paired (fun (p:zdg×V) (e:DictEntry)=>e.key=.ref p.1/\RelV p.2 e.val) ps (xs.map (entryOfKey (J.knd P w)))
 |[],_,h=>by cases h;exact⟨[],.nil,.nil⟩
 |(k,v)::r,_,h=>by
  cases h with
  |cons a b=>
   obtain⟨ps,p1,p2⟩:=O4 (P:=P) (w:=w) b;exact⟨(_,v)::ps,.cons ⟨a.2.1,rfl⟩ p1,.cons ⟨rfl,a.2.2⟩ p2⟩
section
variable{X:Cx}{tg l e e1 e2:Expr}{es:List Expr}{tl te to:TE}{ta:TA}{pins:List (zdg×Obj)}{σ:St}{H:Hp}{s:zdq}{apos xD:Pos}
theorem freeze{d:zdg}{kvs:List (κ×V)}(I:Inv X pins σ H s)(ds:DS J X.prog X.w X.K H d kvs):∃o es ep ps,s.heap.get? d=some o/\o.ExactDict/\o.data=.dict es ep/\EV ps es/\Fz J X.prog X.w X.K H d kvs o/\Q6 J X.K H kvs ps/\Inv X pins σ (upd H d (ff d o)) s:=by
 obtain⟨z,sy,xs,e,rel,nd⟩:=ds;obtain⟨⟨o,es,ep,h1,h2,h3,h4⟩, -⟩:=(show cX X.prog X.w H s.heap d (.ext (kS J X.prog X.w d xs)) from I.cI d _ e)
 obtain⟨ps,p1,p2⟩:=O4 (P:=X.prog) (w:=X.w) rel;refine⟨o,es,ep,ps,h1,h2,h3,?_,⟨z,sy,xs,fun h eh=>⟨o,es,ep,eh,h2,h3,h4⟩,rel,nd⟩,p1,rM (h':=s.heap) (t':=s.toks) I (by rw[e];exact True.intro) ⟨rfl,fun _ _=>rfl⟩ ⟨o,h1⟩ (ff.ok h1)⟩;unfold EV;rw[h4];exact p2
theorem BQ(hl:PE X l tl):PI X tg l (KU J X.prog X.w X.K tl):=by
 intro pins s σ H R I h;refine dU (hl pins s σ H _ I h) fun v s1 zqz=>?_;obtain⟨x,H1,I1,r1,q1⟩:=zqz;obtain⟨d,kvs,rfl,ds,q⟩:=q1;cases r1;obtain⟨o,es,ep,ps,h1,h2,h3,ev,fz,po,I2⟩:=freeze I1 ds;refine BI ds.sys ⟨o,h1,h2,h3⟩ ?_;have I3:=I2.kept (t':=s1.toks) (h':=s1.heap.push {cls:=.type "dict_keyiterator",data:=.fields #[.ref d,.int 0 0,.int es.size 0,.int ep 0]}) fun b o e=>Heap.get?_push_of_some _ e;refine⟨s1.heap.objs.size,[s1.heap.objs.size],_,Sg d o ps,_,rfl,I3,GX h2 h3 ev,⟨_,Heap.get?_push_size _ rfl,rfl,rfl⟩,fun b hb=>?_,q o ps fz po⟩;have e:b=s1.heap.objs.size:=by simpa using hb
 subst e;exact I2.F8 (zaj _) (I2.cI.fresh (zaj _))
end
end
theorem BR{wi:TI}{g:TG}{tb:TS}{D:Ends}{σ:St}{H:Hp} (h:∀U:It->Hp->Prop,(∀J H1,(∃W:Nat->Nat->St->Hp->Prop,(∃m,W 0 m σ H1)/\∀i m σ H,W i m σ H->
 (J.stop i H/\D.nx σ H)\/(J.go i H/\∃N:St->Hp->Prop,(∀σ' H',N σ' H'->∃m',m'<m/\W (i+1) m' σ' H')/\∀x H',J.A9 i H x H'->g x σ H' fun σ2 H2=>tb {D with nx:=N,ct:=N,bk:=D.nx} σ2 H2))->U J H1)->wi σ H U):C5 wi g tb D σ H:=h _ fun _ _ x=>x
theorem Fv{d:zdg}{o:Obj}{ps:List (zdg×V)}{g:TG}{tb:TS}{D:Ends}{σ:St}{H:Hp}(Pv:Nat->St->Hp->Prop)(h0:Pv 0 σ H)(hl:∀i σ H,i<=ps.length->Pv i σ H->H d=some (ff d o))
 (hs:∀i b v σ H,ps[i]?=some (b,v)->Pv i σ H->g (.ref b) σ H fun σ2 H2=>tb {D with nx:=Pv (i+1),ct:=Pv (i+1),bk:=D.nx} σ2 H2) (hd:∀σ H,Pv ps.length σ H->D.nx σ H) :
 ∃W:Nat->Nat->St->Hp->Prop,(∃m,W 0 m σ H)/\∀i m σ H,W i m σ H->
  ((Sg d o ps).stop i H/\D.nx σ H)\/((Sg d o ps).go i H/\∃N:St->Hp->Prop,(∀σ' H',N σ' H'->∃m',m'<m/\W (i+1) m' σ' H')/\∀x H',(Sg d o ps).A9 i H x H'->g x σ H' fun σ2 H2=>tb {D with nx:=N,ct:=N,bk:=D.nx} σ2 H2):=by
 refine⟨fun i m σ H=>m=ps.length-i/\i<=ps.length/\Pv i σ H,⟨ps.length,by simp,za2 _,h0⟩,?_⟩
 rintro i m σ H ⟨rfl,hi,p⟩
 have q:=hl i σ H hi p;by_cases rj:i<ps.length
 ·refine .inr ⟨⟨q,rj⟩,Pv (i+1),fun σ' H' p'=>⟨ps.length-(i+1),by lia,rfl,rj,p'⟩,fun x H' y=>?_⟩;obtain⟨rfl,b,v,rfl,e⟩:=y;exact hs i b v σ H' e p
 ·have e:i=ps.length:=by lia
  subst e;exact .inl ⟨⟨q,zaj _⟩,hd σ H p⟩
end L2
namespace PG
open PM
theorem km:∀(a b:List bq),av (a++b)=av a++av b
 |[],b=>rfl
 |s::r,b=>by
  show iG s++av (r++b)=(iG s++av r)++av b;rw[km r b,zaW]
end PG
namespace L2
open PG
open PySem PyProof.Rows
theorem NL{l b:zdg}{a1 a2:Array zdh}{n n2:Nat}{u u2:Obj}(c1:u.cls=.type "list")(d1:u.data=.seq a1 n)(c2:u2.cls=.type "list")(d2:u2.data=.seq a2 n2)(hc:a1.size+a2.size<=zdo) :
 Meets (Builtin.«list.__add__» ⟨[.ref l,.ref b],[]⟩) (fun _ R s=>(s.heap.get? l=some u/\s.heap.get? b=some u2)/\R (.ok (.ret (Value.ref s.heap.objs.size))) {s with heap:=s.heap.push {cls:=Value.type "list",data:=Data.seq (a1++a2)},toks:=s.toks}):=by
 obtain⟨cls,dd,data,sl⟩:=u;obtain⟨Tn,To,data2,Qk⟩:=u2;simp only at c1 d1 c2 d2;subst c1 d1 c2 d2;refine .of_wp fun prog w A R s h=>?_;obtain⟨hp,g,d,tk,os⟩:=s;obtain⟨⟨hl,hb⟩,h⟩:=h;have f1:=AutoSeq1.sub_list_list
 wp_walk using wpAny_loadPart' hl,wpAny_loadPart' hb
 exact⟨_,rfl,h⟩
theorem pH{K:zaa}{H:Hp}{O:zdg->Prop}{B:zdg}{bs:List gF}(h:kl K O H B bs):∃xs,gC K H B xs/\xs.length=bs.length:=by obtain⟨xs,a,b,_⟩:=h.list;exact⟨xs,a,b⟩
theorem ud{bs:List gF}{i:Int}(h0:0<=i)(h1:i<bs.length):(PG.pick ⟨[],0,0⟩ bs i).name∈bs.map (·.name):=zau.mpr ⟨_,JP _ h0 h1,rfl⟩
theorem Q7(xs:List V){x:Int}(h:0<=x):iF xs none (some x)=xs.take x.toNat:=by
 obtain⟨j,rfl⟩:∃j:Nat,x=j:=⟨x.toNat,by lia⟩
 unfold iF;rw[HT.oo,HT.pk,List.drop_zero,Nat.sub_zero,zaR];by_cases h:j<=xs.length
 ·rw[zcy h]
 ·rw[Nat.min_eq_right (by lia),zaH,zbC (by lia)]
end L2
namespace PG
open PM (W Tr)
inductive dY where
 |eU (k:Int) (sg:W) (l r:Tr)
 |if1 (k:Int) (sg:W) (l r:Tr)
 |if2 (k:Int) (sg:W) (l r:Tr) (a:List bq)
def dY.fill:dY->List bq->bq
 |.eU k sg l r,b=>.eU k sg l r b
 |.if1 k sg l r,b=>.ifs k sg l r b []
 |.if2 k sg l r a,b=>.ifs k sg l r a b
def cG:List (List bq×dY)->List bq->List bq
 |[],b=>b
 |(s,h)::o,b=>cG o (s++[h.fill b])
def c8 (b:List bq):List Int:=(av b).map (·.row)
theorem wI:∀a b:List bq,av (a++b)=av a++av b
 |[],b=>by simp[av]
 |s::r,b=>by
  show av (s::(r++b))=_;rw[av,av,wI r b,zaW]
theorem mq(a b:List bq):c8 (a++b)=c8 a++c8 b:=by unfold c8;rw[wI,zas]
theorem GY(h:dY)(a b:List bq):c8 [h.fill (a++b)]=c8 [h.fill a]++c8 b:=by
 cases h<;>simp[dY.fill,c8,av,iG,wI,bq.row]
theorem wJ:∀(o:List (List bq×dY)) (a b:List bq),c8 (cG o (a++b))=c8 (cG o a)++c8 b
 |[],a,b=>mq a b
 |(s,h)::o,a,b=>by
  rw[cG,cG];have gen:∀(o:List (List bq×dY)) (x y:List bq) (c:List Int),c8 x=c8 y++c->c8 (cG o x)=c8 (cG o y)++c:=by
   intro o
   induction o with
   |nil=>exact fun x y c h=>h
   |cons q o ih=>
    intro x y c e;obtain⟨s,h⟩:=q;rw[cG,cG];refine ih _ _ _ ?_;rw[mq,mq,zaW]
    congr 1
    cases h<;>simp only[dY.fill,c8,av,iG,zaO,zaq,zas]<;>(unfold c8 at e;rw[e];simp[bq.row])
  refine gen o _ _ _ ?_;rw[mq,mq,zaW,GY]
section
variable{nm:W->Prop}{ex:Tr->Prop}{sg:W->Prop}
theorem Aa:∀ {a b:List bq},vh nm ex sg (a++b)↔vh nm ex sg a/\vh nm ex sg b
 |[],b=>by simp[vh]
 |s::r,b=>by
  show vh nm ex sg (s::(r++b))↔_;rw[vh,vh,Aa (a:=r),and_assoc]
theorem BS:∀ {o:List (List bq×dY)} {a b:List bq},vh nm ex sg (cG o a)->(vh nm ex sg a->vh nm ex sg b)->vh nm ex sg (cG o b)
 |[],a,b,h,k=>k h
 |(s,h)::o,a,b,q,k=>by
  rw[cG] at q ⊢;refine BS q fun z=>?_;rw[Aa] at z ⊢;refine⟨z.1,?_⟩;have z2:=z.2;cases h with
  |eU k1 sg1 l r=>exact⟨⟨z2.1.1,z2.1.2.1,z2.1.2.2.1,k z2.1.2.2.2⟩,trivial⟩
  |if1 k1 sg1 l r=>exact⟨⟨z2.1.1,z2.1.2.1,z2.1.2.2.1,k z2.1.2.2.2.1,z2.1.2.2.2.2⟩,trivial⟩
  |if2 k1 sg1 l r a1=>exact⟨⟨z2.1.1,z2.1.2.1,z2.1.2.2.1,z2.1.2.2.2.1,k z2.1.2.2.2.2⟩,trivial⟩
end
theorem YH{x y m:Nat}(q:x<=max y m):x+1<=max (y+1) (m+1):=by rw[Nat.add_max_add_right];exact Nat.succ_le_succ q
theorem mxb{x y m z:Nat}(q:x<=max y m):max x z<=max (max y z) m:=zc8.mpr ⟨zaA q (zc8.mpr ⟨zaA (zbD _ _) (zbD _ _),zbX _ _⟩),zaA (zbX _ _) (zbD _ _)⟩
theorem mxc{x y m z:Nat}(q:x<=max y m):max z x<=max (max z y) m:=zc8.mpr ⟨zaA (zbD _ _) (zbD _ _),zaA q (zc8.mpr ⟨zaA (zbX _ _) (zbD _ _),zbX _ _⟩)⟩
theorem YI{s x y m:Nat}(q:x<=max y m):max s x<=max (max s y) m:=mxc q
theorem yM:∀(o:List (List bq×dY)) {x y:List bq} {m:Nat},fU x<=max (fU y) m->fU (cG o x)<=max (fU (cG o y)) (m+o.length)
 |[],x,y,m,h=>h
 |(s,h)::o,x,y,m,q=>by
  rw[cG,cG];have:=yM o (x:=s++[h.fill x]) (y:=s++[h.fill y]) (m:=m+1) (by
   rw[rP,rP,wj,wj];cases h<;>simp only[dY.fill,kM,fU]
   ·exact YI (YH q)
   ·exact YI (YH (mxb q))
   ·exact YI (YH (mxc q)))
  rw[zaf,zcv o.length 1,<- Nat.add_assoc];exact this
theorem wK:∀ {l:List Int} {a b:Int},l.Pairwise (· < ·)->(∀x∈l,a<x/\x<=b)->(l.length:Int)<=max 0 (b-a)
 |[],a,b,_,_=>by simp;lia
 |x::r,a,b,p,h=>by
  rw[zcE] at p;have h1:=h x (zav ..);have:=wK (a:=x) (b:=b) p.2 fun y hy=>⟨p.1 y hy,(h y (zae _ hy)).2⟩
  rw[zaf];lia
structure Mn(nm:W->Prop)(ex:Tr->Prop)(sg:W->Prop)(r0 row:Int)(body:List bq):Prop where
 ok:vh nm ex sg body
 rise:(c8 body).Pairwise (· < ·)
 rows:∀x∈c8 body,r0<x/\x<=row
 dep:fU body<=4
 le:r0<=row
theorem Mn.nil{nm:W->Prop}{ex:Tr->Prop}{sg:W->Prop}{r0:Int}:Mn nm ex sg r0 r0 []:=⟨trivial,by simp[c8,av],by simp[c8,av],by simp[fU],Int.le_refl _⟩
theorem Mn.more{nm:W->Prop}{ex:Tr->Prop}{sg:W->Prop}{r0 row:Int}{body:List bq}(h:Mn nm ex sg r0 row body):Mn nm ex sg r0 (row+1) body:=
 ⟨h.ok,h.rise,fun x hx=>⟨(h.rows x hx).1,by have:=(h.rows x hx).2;lia⟩,h.dep,by have:=h.le;lia⟩
theorem Mn.add{nm:W->Prop}{ex:Tr->Prop}{sg:W->Prop}{r0 row:Int}{o:List (List bq×dY)}{cur:List bq}{st:bq}(h:Mn nm ex sg r0 row (cG o cur))(hs:tj nm ex sg st)(hr:c8 [st]=[row+1])(hd:kM st+o.length<=4):Mn nm ex sg r0 (row+1) (cG o (cur++[st])):=by
 have e:c8 (cG o (cur++[st]))=c8 (cG o cur)++[row+1]:=by rw[wJ,hr]
 refine⟨BS h.ok fun z=>Aa.mpr ⟨z,hs,trivial⟩,?_,?_,?_,by have:=h.le;lia⟩
 ·rw[e,List.pairwise_append];refine⟨h.rise,by simp,fun a ha b hb=>?_⟩;rw[zap.mp hb];have:=(h.rows a ha).2;lia
 ·intro x hx;rw[e] at hx;have:=h.le;rcases zah.mp hx with hx |hx
  ·have:=h.rows x hx;lia
  ·rw[zap.mp hx];lia
 ·have:=yM o (x:=cur++[st]) (y:=cur) (m:=kM st) (by rw[rP,wj];lia);have:=h.dep;lia
theorem DP{st:bq}(h:∀k s l r a b,st≠.ifs k s l r a b)(h2:∀k s l r a,st≠.eU k s l r a):c8 [st]=[st.row]/\kM st=0:=by
 cases st with
 |ifs k s l r a b=>exact absurd rfl (h _ _ _ _ _ _)
 |eU k s l r a=>exact absurd rfl (h2 _ _ _ _ _)
 |_=>exact⟨by simp[c8,av,iG],by simp[kM]⟩
theorem BU(h:dY)(e:∀k sg l r a,h=.if2 k sg l r a->a=[]):kM (h.fill [])=1/\c8 [h.fill []]=[(h.fill []).row]:=by
 cases h with
 |if2 k sg l r a=>cases e _ _ _ _ _ rfl;exact⟨by simp[dY.fill,kM,fU],by simp[dY.fill,c8,av,iG]⟩
 |_=>exact⟨by simp[dY.fill,kM,fU],by simp[dY.fill,c8,av,iG]⟩
end PG
namespace L2
open PG
open PySem PG
open PM (W Tr)
abbrev Up (bs:List gF):bq->Prop:=tj (·∈bs.map (·.name)) (fun e=>kP bs e/\mL e<=2) (·∈CN)
end L2
namespace L2
open PG
open PySem PyProof.Rows
section
variable{K:zaa}{D D' O:zdg->Prop}{H0 H H1:Hp}{d:Dp}{v:V}{s p:zdg}
theorem Fix.grow(f:Fix K D H d v)(h:∀a,D' a->D a\/H a=none):Fix K D' H d v:=fun H2 u=>f H2 fun b o n e=>u b o (fun z=>(h b z).elim n fun z=>by rw[z] at e;cases e) e
theorem eX.grow{ds:List Dp}{vs:List V}(f:eX K D H ds vs)(h:∀a,D' a->D a\/H a=none):eX K D' H ds vs:=fun H2 u=>f H2 fun b o n e=>u b o (fun z=>(h b z).elim n fun z=>by rw[z] at e;cases e) e
theorem Own.tup{ds:List Dp}{vs:List V}(h:Gy K H0 H ds vs)(dm:∀b,H0 b≠none->H b≠none)(hp:H p=none):Own K H0 (upd H p (.tup vs)) (.tup ds) (.ref p):=fun O hO=>Fix.tup ah (fun z=>dm p (hO p z) hp) ((h O hO).up (.of (aq.new hp _)))
end
structure BsK(bs:List gF):Prop where
 nb:(bs.map (·.name)).Nodup
 pG:bs.length<=4
 size:∀b∈bs,2<=b.size/\b.size<=10/\0<=b.first/\b.first<b.size
abbrev BV (bs:List gF) (e:PM.Tr):Prop:=kP bs e/\mL e<=2
def Plain:bq->Prop
 |.ifs ..=>False
 |.eU ..=>False
 |_=>True
theorem Plain.rows{st:bq}(h:Plain st):c8 [st]=[st.row]/\kM st=0:=DP (fun _ _ _ _ _ _ z=>by rw[z] at h;exact h) (fun _ _ _ _ _ z=>by rw[z] at h;exact h)
abbrev ZkB (bs:List gF):Int->Int->List bq->Prop:=Mn (·∈bs.map (·.name)) (BV bs) (·∈CN)
section
variable(K:zaa)(D:zdg->Prop)(H:Hp)
inductive jl:List (List bq×dY)->zdg->List zdg->List V->Prop
 |root {p:zdg}:jl [] p [] [.cx]
 |eU {o gS k sg l r p q c ps ss vs vl vr}:H q=some (.lst (vs++[.ref c]))->eX K D H (gS.map dO) vs->¬D c->H c=some (.tup [.str "while",.int k,.str (S sg),vl,vr,.ref p])->Fix K D H (ki l) vl->Fix K D H (ki r) vr->jl o q ps ss->jl ((gS,.eU k sg l r)::o) p (q::ps) (.cx::ss)
 |if1 {o gS k sg l r p q c b ps ss vs vl vr}:H q=some (.lst (vs++[.ref c]))->eX K D H (gS.map dO) vs->¬D c->H c=some (.tup [.str "if",.int k,.str (S sg),vl,vr,.ref p,.ref b])->Fix K D H (ki l) vl->Fix K D H (ki r) vr->H b=some (.lst [])->jl o q ps ss->jl ((gS,.if1 k sg l r)::o) p (q::ps) (.ref b::ss)
 |if2 {o gS k sg l r a p q c va ps ss vs vl vr}:H q=some (.lst (vs++[.ref c]))->eX K D H (gS.map dO) vs->¬D c->H c=some (.tup [.str "if",.int k,.str (S sg),vl,vr,va,.ref p])->Fix K D H (ki l) vl->Fix K D H (ki r) vr->Fix K D H (.lst (a.map dO)) va->jl o q ps ss->jl ((gS,.if2 k sg l r a)::o) p (q::ps) (.cx::ss)
end
section
variable{K:zaa}{D D':zdg->Prop}{H H1:Hp}{o:List (List bq×dY)}{p:zdg}{ps:List zdg}{ss:List V}
theorem jl.len(h:jl K D H o p ps ss):ps.length=o.length/\ss.length=o.length+1:=by
 induction h with
 |root=>exact⟨rfl,rfl⟩
 |eU _ _ _ _ _ _ _ ih=>exact⟨by rw[zaf,zaf,ih.1],by rw[zaf,zaf,ih.2]⟩
 |if1 _ _ _ _ _ _ _ _ ih=>exact⟨by rw[zaf,zaf,ih.1],by rw[zaf,zaf,ih.2]⟩
 |if2 _ _ _ _ _ _ _ _ ih=>exact⟨by rw[zaf,zaf,ih.1],by rw[zaf,zaf,ih.2]⟩
theorem jl.up(h:jl K D H o p ps ss)(u:aU D H H1)(h1:∀q∈ps,H1 q=H q)(h2:∀b,V.ref b∈ss->H1 b=H b):jl K D H1 o p ps ss:=by
 induction h with
 |root=>exact .root
 |eU a b c d e f g ih=>exact .eU (by rw[h1 _ (zav ..)];exact a) (b.up u) c (u _ _ c d) (e.up u) (f.up u) (ih (fun q hq=>h1 q (zae _ hq)) fun b hb=>h2 b (zae _ hb))
 |if1 a b c d e f x g ih=>exact .if1 (by rw[h1 _ (zav ..)];exact a) (b.up u) c (u _ _ c d) (e.up u) (f.up u) (by rw[h2 _ (zav ..)];exact x) (ih (fun q hq=>h1 q (zae _ hq)) fun b hb=>h2 b (zae _ hb))
 |if2 a b c d e f x g ih=>exact .if2 (by rw[h1 _ (zav ..)];exact a) (b.up u) c (u _ _ c d) (e.up u) (f.up u) (x.up u) (ih (fun q hq=>h1 q (zae _ hq)) fun b hb=>h2 b (zae _ hb))
theorem jl.grow(h:jl K D H o p ps ss)(g:∀a,D' a->D a\/H a=none):jl K D' H o p ps ss:=by
 have nc:∀ {c:zdg} {u:HO},¬D c->H c=some u->¬D' c:=fun n e z=>(g _ z).elim n fun z=>by rw[z] at e;cases e
 induction h with
 |root=>exact .root
 |eU a b c d e f _ ih=>exact .eU a (b.grow g) (nc c d) d (e.grow g) (f.grow g) ih
 |if1 a b c d e f x _ ih=>exact .if1 a (b.grow g) (nc c d) d (e.grow g) (f.grow g) x ih
 |if2 a b c d e f x _ ih=>exact .if2 a (b.grow g) (nc c d) d (e.grow g) (f.grow g) (x.grow g) ih
theorem jl.oC(h:jl K D H o p ps ss):(∀q∈ps,H q≠none)/\∀b,V.ref b∈ss->H b≠none:=by
 have nn:∀ {q:zdg} {u:HO},H q=some u->H q≠none:=fun e z=>by rw[e] at z;cases z
 induction h with
 |root=>exact⟨fun q hq=>(by cases hq),fun b hb=>(by simp at hb)⟩
 |eU a _ _ _ _ _ _ ih=>exact⟨fun q hq=>(zag.mp hq).elim (fun e=>e▸nn a) (ih.1 q),fun b hb=>(zag.mp hb).elim (fun e=>by cases e) (ih.2 b)⟩
 |if1 a _ _ _ _ _ x _ ih=>exact⟨fun q hq=>(zag.mp hq).elim (fun e=>e▸nn a) (ih.1 q),fun b hb=>(zag.mp hb).elim (fun e=>by cases e;exact nn x) (ih.2 b)⟩
 |if2 a _ _ _ _ _ _ _ ih=>exact⟨fun q hq=>(zag.mp hq).elim (fun e=>e▸nn a) (ih.1 q),fun b hb=>(zag.mp hb).elim (fun e=>by cases e) (ih.2 b)⟩
theorem jl.same(h:jl K D H o p ps ss)(s:aq H H1):jl K D H1 o p ps ss:=by
 have e:∀ {q:zdg},H q≠none->H1 q=H q:=fun {q} n=>by
  cases z:H q with
  |none=>exact absurd z n
  |some u=>exact s _ _ z
 exact h.up (.of s) (fun q hq=>e (h.oC.1 q hq)) fun b hb=>e (h.oC.2 b hb)
def rootOf (p:zdg):List zdg->zdg
 |[]=>p
 |q::ps=>rootOf q ps
theorem jl.close(h:jl K D H o p ps ss):∀ {cur:List bq} {vs:List V},H p=some (.lst vs)->aI K H (cur.map dO) vs->Rep K H (.lst ((cG o cur).map dO)) (.ref (rootOf p ps)):=by
 induction h with
 |root=>
  intro cur vs h1 h2;exact Rep.bg.mpr ⟨_,vs,rfl,.of h1,h2⟩
 |eU a b c d e f g ih=>
  intro cur vs h1 h2;rw[cG,rootOf];refine ih a ?_;rw[zas];refine b.Bv.append (.cons ?_ .nil);unfold dY.fill dO;rw[cF];exact Rep.aX.mpr ⟨_,_,rfl,.of d,.cons (Rep.bt.mpr rfl) (.cons (Rep.bj.mpr rfl) (.cons (Rep.bt.mpr rfl) (.cons e.rep (.cons f.rep (.cons (Rep.bg.mpr ⟨_,vs,rfl,.of h1,h2⟩) .nil)))))⟩
 |if1 a b c d e f x g ih=>
  intro cur vs h1 h2;rw[cG,rootOf];refine ih a ?_;rw[zas];refine b.Bv.append (.cons ?_ .nil);unfold dY.fill dO;rw[cF,cF];exact Rep.aX.mpr ⟨_,_,rfl,.of d,.cons (Rep.bt.mpr rfl) (.cons (Rep.bj.mpr rfl) (.cons (Rep.bt.mpr rfl) (.cons e.rep (.cons f.rep (.cons (Rep.bg.mpr ⟨_,vs,rfl,.of h1,h2⟩) (.cons (Rep.bg.mpr ⟨_,[],rfl,.of x,.nil⟩) .nil))))))⟩
 |if2 a b c d e f x g ih=>
  intro cur vs h1 h2;rw[cG,rootOf];refine ih a ?_;rw[zas];refine b.Bv.append (.cons ?_ .nil);unfold dY.fill dO;rw[cF,cF];exact Rep.aX.mpr ⟨_,_,rfl,.of d,.cons (Rep.bt.mpr rfl) (.cons (Rep.bj.mpr rfl) (.cons (Rep.bt.mpr rfl) (.cons e.rep (.cons f.rep (.cons x.rep (.cons (Rep.bg.mpr ⟨_,vs,rfl,.of h1,h2⟩) .nil))))))⟩
end
theorem BW{ta:TA}{g:TG}{tb:TS}{D:Ends}{σ:St}{H:Hp} (h:∀U:Int->Int->Hp->Prop,(∀i0 j H1,(∃W:Nat->Nat->St->Hp->Prop,(∃m,W 0 m σ H1)/\∀i m σ H,W i m σ H->
 ((CM i0 (j-i0).toNat).stop i H/\D.nx σ H)\/((CM i0 (j-i0).toNat).go i H/\∃N:St->Hp->Prop,(∀σ' H',N σ' H'->∃m',m'<m/\W (i+1) m' σ' H')/\∀x H',(CM i0 (j-i0).toNat).A9 i H x H'->g x σ H' fun σ2 H2=>tb {D with nx:=N,ct:=N,bk:=D.nx} σ2 H2))->U i0 j H1)->
 ta σ H fun vs H1=>∃i j:Int,vs=[.int i,.int j]/\(-(2 ^ 62)<=i/\i<2 ^ 62/\-(2 ^ 62)<=j/\j<2 ^ 62)/\U i j H1):C5 (EE ta) g tb D σ H:=h _ fun _ _ _ x=>x
def uM (ss:List V):List zdg:=ss.filterMap fun v=>match v with |.ref b=>some b |_=>none
theorem ie{ss:List V}{b:zdg}:b∈uM ss↔V.ref b∈ss:=by
 unfold uM;rw[zb7]
 constructor
 ·rintro ⟨v,hv,e⟩
  cases v with
  |ref c=>cases e;exact hv
  |_=>cases e
 ·exact fun h=>⟨_,h,rfl⟩
theorem sr(b:zdg)(ss:List V):uM (.ref b::ss)=b::uM ss:=rfl
def cW (pl sc p:zdg) (ps:List zdg) (ss:List V):List zdg:=pl::sc::p::(ps++uM ss)
theorem aR{pl sc p a:zdg}{ps:List zdg}{ss:List V}:a∈cW pl sc p ps ss↔a=pl\/a=sc\/a=p\/a∈ps\/V.ref a∈ss:=by
 unfold cW;simp only[zag,zah,ie]
structure PZ(K:zaa)(bs:List gF)(r0 row:Int)(R pl sc:zdg)(H0 H:Hp)(o:List (List bq×dY))(cur:List bq)(p:zdg)(ps:List zdg)(ss vs:List V):Prop where
 mP:H pl=some (.lst ((p::ps).reverse.map V.ref))
 CP:H sc=some (.lst ss.reverse)
 hp:H p=some (.lst vs)
 nd:(cW pl sc p ps ss).Nodup
 fx:eX K (·∈cW pl sc p ps ss) H (cur.map dO) vs
 pa:jl K (·∈cW pl sc p ps ss) H o p ps ss
 rt:rootOf p ps=R
 zk:ZkB bs r0 row (cG o cur)
 len:o.length<=4
 sm:aq H0 H
 fr:∀a∈cW pl sc p ps ss,H0 a=none
section
variable{K:zaa}{bs:List gF}{r0 row:Int}{R pl sc:zdg}{H0 H H1:Hp}{o:List (List bq×dY)}{cur:List bq}{p:zdg}{ps:List zdg}{ss vs:List V}
theorem PZ.oC(h:PZ K bs r0 row R pl sc H0 H o cur p ps ss vs):∀a∈cW pl sc p ps ss,H a≠none:=fun a ha=>by
 rcases aR.mp ha with rfl |rfl |rfl |ha |ha
 ·rw[h.mP];simp
 ·rw[h.CP];simp
 ·rw[h.hp];simp
 ·exact h.pa.oC.1 a ha
 ·exact h.pa.oC.2 a ha
theorem PZ.same(h:PZ K bs r0 row R pl sc H0 H o cur p ps ss vs)(s:aq H H1):PZ K bs r0 row R pl sc H0 H1 o cur p ps ss vs:=
 ⟨s _ _ h.mP,s _ _ h.CP,s _ _ h.hp,h.nd,h.fx.up (.of s),h.pa.same s,h.rt,h.zk,h.len,h.sm.trans s,h.fr⟩
theorem PZ.more(h:PZ K bs r0 row R pl sc H0 H o cur p ps ss vs):PZ K bs r0 (row+1) R pl sc H0 H o cur p ps ss vs:=
 ⟨h.mP,h.CP,h.hp,h.nd,h.fx,h.pa,h.rt,h.zk.more,h.len,h.sm,h.fr⟩
theorem BX:∀b:List bq,b.length<=(c8 b).length
 |[]=>za2 _
 |s::r=>by
  have ih:=BX r;unfold c8 at ih ⊢;rw[zac] at ih ⊢;rw[av,zai,zaf];have:0<(iG s).length:=by cases s<;>simp[iG]
  lia
theorem PZ.pG(h:PZ K bs r0 row R pl sc H0 H o cur p ps ss vs):(vs.length:Int)<=max 0 (row-r0):=by
 have h1:=wK h.zk.rise h.zk.rows;have h2:=wJ o [] cur;rw[zaX] at h2;have h3:=congrArg zaV h2;rw[zai] at h3;have h4:=BX cur;have h5:=h.fx.Bv.length;rw[zac] at h5;lia
theorem PZ.YJ(h:PZ K bs r0 row R pl sc H0 H o cur p ps ss vs):ps.length=o.length/\ss.length=o.length+1:=h.pa.len
theorem O5{D:zdg->Prop}{a b c:zdg}{x y z:HO}(ha:D a)(hb:D b)(hc:D c):aU D H (upd (upd (upd H a x) b y) c z):=((aU.refl.put ha x).put hb y).put hc z
theorem PZ.add(h:PZ K bs r0 row R pl sc H0 H o cur p ps ss vs){st:bq}{v:V}(f:Fix K (·∈cW pl sc p ps ss) H (dO st) v)(ow:Up bs st)(pn:Plain st)(hr:st.row=row+1):PZ K bs r0 (row+1) R pl sc H0 (upd H p (.lst (vs++[v]))) o (cur++[st]) p ps ss (vs++[v]):=by
 have nd:=h.nd;unfold cW at nd;rw[zam,zam,zam] at nd;obtain⟨n1,n2,n3,_⟩:=nd;have e1:pl≠p:=fun z=>n1 (by rw[z];simp);have e2:sc≠p:=fun z=>n2 (by rw[z];simp);have u:aU (·∈cW pl sc p ps ss) H (upd H p (.lst (vs++[v]))):=aU.refl.put (aR.mpr (.inr (.inr (.inl rfl)))) _;obtain⟨rw1,rd⟩:=pn.rows;refine⟨by rw[aw e1];exact h.mP,by rw[aw e2];exact h.CP,ah,h.nd,?_,h.pa.up u (fun q hq=>?_) (fun b hb=>?_),h.rt,h.zk.add ow (by rw[rw1,hr]) (by have:=h.len;lia),h.len,fun b x e=>?_,h.fr⟩
 ·rw[zas];exact(h.fx.snoc f).up u
 ·exact aw fun z=>n3 (by rw[<- z];exact zah.mpr (.inl hq))
 ·exact aw fun z=>n3 (by rw[<- z];exact zah.mpr (.inr (ie.mpr hb)))
 ·rw[aw fun z=>by rw[z,h.fr p (aR.mpr (.inr (.inr (.inl rfl))))] at e;cases e];exact h.sm b x e
theorem PZ.Uq(h:PZ K bs r0 row R pl sc H0 H o cur p ps ss vs){sg:W}{l r:PM.Tr}{vl vr:V}{b0 c:zdg}(fl:Fix K (·∈cW pl sc b0 (p::ps) (.cx::ss)) H1 (ki l) vl)(fr:Fix K (·∈cW pl sc b0 (p::ps) (.cx::ss)) H1 (ki r) vr)(YK:sg∈CN)(ol:BV bs l)(or:BV bs r)(lt:o.length<=3)
 (s:aq H H1) (nb:H b0=none) (nc:H c=none) (hb:H1 b0=some (.lst [])) (hc:H1 c=some (.tup [.str "while",.int (row+1),.str (S sg),vl,vr,.ref b0])) :
 PZ K bs r0 (row+1) R pl sc H0 (upd (upd (upd H1 p (.lst (vs++[.ref c]))) pl (.lst ((p::ps).reverse.map V.ref++[.ref b0]))) sc (.lst (ss.reverse++[.cx]))) ((cur,.eU (row+1) sg l r)::o) [] b0 (p::ps) (.cx::ss) []:=by
 have CQ:b0 ∉ cW pl sc p ps ss:=fun z=>h.oC _ z nb;have Wz:c≠b0:=fun z=>by rw[z,hb] at hc;cases hc
 have WA:c ∉ cW pl sc p ps ss:=fun z=>h.oC _ z nc;have mo:∀a,a∈cW pl sc b0 (p::ps) (.cx::ss)↔a∈cW pl sc p ps ss\/a=b0:=fun a=>by
  rw[aR,aR];simp only[zag,reduceCtorEq,false_or]
  constructor
  ·rintro (z |z |z |(z |z) |z)
   ·exact .inl (.inl z)
   ·exact .inl (.inr (.inl z))
   ·exact .inr z
   ·exact .inl (.inr (.inr (.inl z)))
   ·exact .inl (.inr (.inr (.inr (.inl z))))
   ·exact .inl (.inr (.inr (.inr (.inr z))))
  ·rintro ((z |z |z |z |z) |z)
   ·exact .inl z
   ·exact .inr (.inl z)
   ·exact .inr (.inr (.inr (.inl (.inl z))))
   ·exact .inr (.inr (.inr (.inl (.inr z))))
   ·exact .inr (.inr (.inr (.inr z)))
   ·exact .inr (.inr (.inl z))
 have gr:∀a,a∈cW pl sc b0 (p::ps) (.cx::ss)->a∈cW pl sc p ps ss\/H a=none:=fun a ha=>((mo a).mp ha).imp id fun z=>by rw[z];exact nb
 have nd:=h.nd;unfold cW at nd;rw[zam,zam,zam] at nd;obtain⟨n1,n2,n3,n4⟩:=nd;have e1:pl≠p:=fun z=>n1 (by rw[z];simp);have e2:sc≠p:=fun z=>n2 (by rw[z];simp);have e3:pl≠sc:=fun z=>n1 (by rw[z];simp);have mp:p∈cW pl sc p ps ss:=aR.mpr (.inr (.inr (.inl rfl)));have KW:pl∈cW pl sc p ps ss:=aR.mpr (.inl rfl);have KY:sc∈cW pl sc p ps ss:=aR.mpr (.inr (.inl rfl));have u:aU (·∈cW pl sc b0 (p::ps) (.cx::ss)) H1 (upd (upd (upd H1 p (.lst (vs++[.ref c]))) pl (.lst ((p::ps).reverse.map V.ref++[.ref b0]))) sc (.lst (ss.reverse++[.cx]))):=O5 ((mo _).mpr (.inl mp)) ((mo _).mpr (.inl KW)) ((mo _).mpr (.inl KY));have xE:b0≠p/\b0≠pl/\b0≠sc:=⟨fun z=>CQ (by rw[z];exact mp),fun z=>CQ (by rw[z];exact KW),fun z=>CQ (by rw[z];exact KY)⟩
 have keep:∀a,a≠p->a≠pl->a≠sc->(upd (upd (upd H1 p (.lst (vs++[.ref c]))) pl (.lst ((p::ps).reverse.map V.ref++[.ref b0]))) sc (.lst (ss.reverse++[.cx]))) a=H1 a:=fun a x y z=>by rw[aw z,aw y,aw x]
 have up1:aU (·∈cW pl sc b0 (p::ps) (.cx::ss)) H H1:=.of s;refine⟨?_,?_,?_,?_,.nil,?_,h.rt,?_,by rw[zaf];lia,?_,?_⟩
 ·rw[aw e3,ah,zbe (a:=b0),zas];rfl
 ·rw[ah,zbe]
 ·rw[keep b0 xE.1 xE.2.1 xE.2.2];exact hb
 ·have:cW pl sc b0 (p::ps) (.cx::ss)=pl::sc::b0::(p::(ps++uM ss)):=rfl;rw[this,zam,zam,zam,zam];refine⟨fun z=>?_,fun z=>?_,fun z=>?_,n3,n4⟩
  ·rcases zag.mp z with z |z
   ·exact e3 z
   ·rcases zag.mp z with z |z
    ·exact xE.2.1 z.symm
    ·exact n1 (zae _ z)
  ·rcases zag.mp z with z |z
   ·exact xE.2.2 z.symm
   ·exact n2 z
  ·exact CQ (by unfold cW;exact zae _ (zae _ z))
 ·refine .eU (c:=c) (vs:=vs) ?_ ((h.fx.grow gr).up (up1.trans u)) (fun z=>((mo c).mp z).elim WA Wz) ?_ (fl.up u) (fr.up u) (((h.pa.grow gr).same s).up u (fun q hq=>?_) fun b hb=>?_)
  ·rw[aw e2.symm,aw e1.symm,ah]
  ·exact u c _ (fun z=>((mo c).mp z).elim WA Wz) hc
  ·have KZ:q∈ps++uM ss:=zah.mpr (.inl hq);exact keep q (fun z=>n3 (by rw[<- z];exact KZ)) (fun z=>n1 (by rw[<- z];simp[hq])) (fun z=>n2 (by rw[<- z];simp[hq]))
  ·have KZ:b∈ps++uM ss:=zah.mpr (.inr (ie.mpr hb));exact keep b (fun z=>n3 (by rw[<- z];exact KZ)) (fun z=>n1 (by rw[<- z];exact zae _ (zae _ KZ))) (fun z=>n2 (by rw[<- z];exact zae _ KZ))
 ·rw[cG];obtain⟨d1,d2⟩:=BU (.eU (row+1) sg l r) (fun _ _ _ _ _ z=>by cases z);exact h.zk.add ⟨YK,ol,or,trivial⟩ d2 (by rw[d1];lia)
 ·intro b x e;have hx:=s b x (h.sm b x e);have no:b ∉ cW pl sc p ps ss:=fun z=>by rw[h.fr b z] at e;cases e
  rw[keep b (fun z=>no (by rw[z];exact mp)) (fun z=>no (by rw[z];exact KW)) (fun z=>no (by rw[z];exact KY))];exact hx
 ·intro a ha;rcases(mo a).mp ha with ha |rfl
  ·exact h.fr a ha
  ·exact h.sm.free nb
theorem PZ.Ur(h:PZ K bs r0 row R pl sc H0 H o cur p ps ss vs){sg:W}{l r:PM.Tr}{vl vr:V}{b0 b1 c:zdg}(fl:Fix K (·∈cW pl sc b0 (p::ps) (.ref b1::ss)) H1 (ki l) vl)(fr:Fix K (·∈cW pl sc b0 (p::ps) (.ref b1::ss)) H1 (ki r) vr)(YK:sg∈CN)(ol:BV bs l)(or:BV bs r)(lt:o.length<=3)
 (s:aq H H1) (nb:H b0=none) (YL:H b1=none) (ne:b0≠b1) (nc:H c=none) (hb:H1 b0=some (.lst [])) (qB:H1 b1=some (.lst [])) (hc:H1 c=some (.tup [.str "if",.int (row+1),.str (S sg),vl,vr,.ref b0,.ref b1])) :
 PZ K bs r0 (row+1) R pl sc H0 (upd (upd (upd H1 p (.lst (vs++[.ref c]))) pl (.lst ((p::ps).reverse.map V.ref++[.ref b0]))) sc (.lst (ss.reverse++[.ref b1]))) ((cur,.if1 (row+1) sg l r)::o) [] b0 (p::ps) (.ref b1::ss) []:=by
 have CQ:b0 ∉ cW pl sc p ps ss:=fun z=>h.oC _ z nb;have BY:b1 ∉ cW pl sc p ps ss:=fun z=>h.oC _ z YL;have Wz:c≠b0:=fun z=>by rw[z,hb] at hc;cases hc
 have YM:c≠b1:=fun z=>by rw[z,qB] at hc;cases hc
 have WA:c ∉ cW pl sc p ps ss:=fun z=>h.oC _ z nc;have mo:∀a,a∈cW pl sc b0 (p::ps) (.ref b1::ss)↔a∈cW pl sc p ps ss\/a=b0\/a=b1:=fun a=>by
  rw[aR,aR];simp only[zag,V.ref.injEq]
  constructor
  ·rintro (z |z |z |(z |z) |z |z)
   ·exact .inl (.inl z)
   ·exact .inl (.inr (.inl z))
   ·exact .inr (.inl z)
   ·exact .inl (.inr (.inr (.inl z)))
   ·exact .inl (.inr (.inr (.inr (.inl z))))
   ·exact .inr (.inr z)
   ·exact .inl (.inr (.inr (.inr (.inr z))))
  ·rintro ((z |z |z |z |z) |z |z)
   ·exact .inl z
   ·exact .inr (.inl z)
   ·exact .inr (.inr (.inr (.inl (.inl z))))
   ·exact .inr (.inr (.inr (.inl (.inr z))))
   ·exact .inr (.inr (.inr (.inr (.inr z))))
   ·exact .inr (.inr (.inl z))
   ·exact .inr (.inr (.inr (.inr (.inl z))))
 have gr:∀a,a∈cW pl sc b0 (p::ps) (.ref b1::ss)->a∈cW pl sc p ps ss\/H a=none:=fun a ha=>((mo a).mp ha).imp id fun z=>z.elim (fun z=>by rw[z];exact nb) fun z=>by rw[z];exact YL
 have nd:=h.nd;unfold cW at nd;rw[zam,zam,zam] at nd;obtain⟨n1,n2,n3,n4⟩:=nd;have e1:pl≠p:=fun z=>n1 (by rw[z];simp);have e2:sc≠p:=fun z=>n2 (by rw[z];simp);have e3:pl≠sc:=fun z=>n1 (by rw[z];simp);have mp:p∈cW pl sc p ps ss:=aR.mpr (.inr (.inr (.inl rfl)));have KW:pl∈cW pl sc p ps ss:=aR.mpr (.inl rfl);have KY:sc∈cW pl sc p ps ss:=aR.mpr (.inr (.inl rfl));have u:aU (·∈cW pl sc b0 (p::ps) (.ref b1::ss)) H1 (upd (upd (upd H1 p (.lst (vs++[.ref c]))) pl (.lst ((p::ps).reverse.map V.ref++[.ref b0]))) sc (.lst (ss.reverse++[.ref b1]))):=O5 ((mo _).mpr (.inl mp)) ((mo _).mpr (.inl KW)) ((mo _).mpr (.inl KY));have xE:∀b,b ∉ cW pl sc p ps ss->b≠p/\b≠pl/\b≠sc:=fun b CQ=>⟨fun z=>CQ (by rw[z];exact mp),fun z=>CQ (by rw[z];exact KW),fun z=>CQ (by rw[z];exact KY)⟩
 have keep:∀a,a≠p->a≠pl->a≠sc->(upd (upd (upd H1 p (.lst (vs++[.ref c]))) pl (.lst ((p::ps).reverse.map V.ref++[.ref b0]))) sc (.lst (ss.reverse++[.ref b1]))) a=H1 a:=fun a x y z=>by rw[aw z,aw y,aw x]
 have up1:aU (·∈cW pl sc b0 (p::ps) (.ref b1::ss)) H H1:=.of s;have ncD:c ∉ cW pl sc b0 (p::ps) (.ref b1::ss):=fun z=>((mo c).mp z).elim WA fun z=>z.elim Wz YM;refine⟨?_,?_,?_,?_,.nil,?_,h.rt,?_,by rw[zaf];lia,?_,?_⟩
 ·rw[aw e3,ah,zbe (a:=b0),zas];rfl
 ·rw[ah,zbe]
 ·rw[keep b0 (xE b0 CQ).1 (xE b0 CQ).2.1 (xE b0 CQ).2.2];exact hb
 ·have:cW pl sc b0 (p::ps) (.ref b1::ss)=pl::sc::b0::(p::(ps++(b1::uM ss))):=rfl;rw[this,zam,zam,zam,zam];have m1:∀a,a∈ps++(b1::uM ss)↔a=b1\/a∈ps++uM ss:=fun a=>by
   simp only[zah,zag]
   constructor
   ·rintro (z |z |z)
    ·exact .inr (.inl z)
    ·exact .inl z
    ·exact .inr (.inr z)
   ·rintro (z |z |z)
    ·exact .inr (.inl z)
    ·exact .inl z
    ·exact .inr (.inr z)
  refine⟨fun z=>?_,fun z=>?_,fun z=>?_,fun z=>?_,?_⟩
  ·rcases zag.mp z with z |z
   ·exact e3 z
   ·rcases zag.mp z with z |z
    ·exact(xE b0 CQ).2.1 z.symm
    ·rcases zag.mp z with z |z
     ·exact e1 z
     ·rcases(m1 _).mp z with z |z
      ·exact(xE b1 BY).2.1 z.symm
      ·exact n1 (zae _ (zae _ z))
  ·rcases zag.mp z with z |z
   ·exact(xE b0 CQ).2.2 z.symm
   ·rcases zag.mp z with z |z
    ·exact e2 z
    ·rcases(m1 _).mp z with z |z
     ·exact(xE b1 BY).2.2 z.symm
     ·exact n2 (zae _ z)
  ·rcases zag.mp z with z |z
   ·exact(xE b0 CQ).1 z
   ·rcases(m1 _).mp z with z |z
    ·exact ne z
    ·exact CQ (by unfold cW;exact zae _ (zae _ (zae _ z)))
  ·rcases(m1 _).mp z with z |z
   ·exact(xE b1 BY).1 z.symm
   ·exact n3 z
  ·rw[zbm] at n4 ⊢;refine⟨n4.1,zam.mpr ⟨fun z=>BY (by unfold cW;simp[z]),n4.2.1⟩,fun a ha b hb e=>?_⟩;rcases zag.mp hb with z |z
   ·exact BY (by rw[<- z,<- e];unfold cW;simp[ha])
   ·exact n4.2.2 a ha b z e
 ·refine .if1 (c:=c) (vs:=vs) ?_ ((h.fx.grow gr).up (up1.trans u)) ncD ?_ (fl.up u) (fr.up u) ?_ (((h.pa.grow gr).same s).up u (fun q hq=>?_) fun b hb=>?_)
  ·rw[aw e2.symm,aw e1.symm,ah]
  ·exact u c _ ncD hc
  ·rw[keep b1 (xE b1 BY).1 (xE b1 BY).2.1 (xE b1 BY).2.2];exact qB
  ·have KZ:q∈ps++uM ss:=zah.mpr (.inl hq);exact keep q (fun z=>n3 (by rw[<- z];exact KZ)) (fun z=>n1 (by rw[<- z];simp[hq])) (fun z=>n2 (by rw[<- z];simp[hq]))
  ·have KZ:b∈ps++uM ss:=zah.mpr (.inr (ie.mpr hb));exact keep b (fun z=>n3 (by rw[<- z];exact KZ)) (fun z=>n1 (by rw[<- z];exact zae _ (zae _ KZ))) (fun z=>n2 (by rw[<- z];exact zae _ KZ))
 ·rw[cG];obtain⟨d1,d2⟩:=BU (.if1 (row+1) sg l r) (fun _ _ _ _ _ z=>by cases z);exact h.zk.add ⟨YK,ol,or,trivial,trivial⟩ d2 (by rw[d1];lia)
 ·intro b x e;have hx:=s b x (h.sm b x e);have no:b ∉ cW pl sc p ps ss:=fun z=>by rw[h.fr b z] at e;cases e
  rw[keep b (fun z=>no (by rw[z];exact mp)) (fun z=>no (by rw[z];exact KW)) (fun z=>no (by rw[z];exact KY))];exact hx
 ·intro a ha;rcases(mo a).mp ha with ha |rfl |rfl
  ·exact h.fr a ha
  ·exact h.sm.free nb
  ·exact h.sm.free YL
theorem O6{pl sc p b0 a:zdg}{ps:List zdg}{ss:List V}(h:a∈cW pl sc b0 (p::ps) (.cx::ss)):a∈cW pl sc p ps ss\/a=b0:=by
 rcases aR.mp h with z |z |z |z |z
 ·exact .inl (aR.mpr (.inl z))
 ·exact .inl (aR.mpr (.inr (.inl z)))
 ·exact .inr z
 ·rcases zag.mp z with z |z
  ·exact .inl (aR.mpr (.inr (.inr (.inl z))))
  ·exact .inl (aR.mpr (.inr (.inr (.inr (.inl z)))))
 ·rcases zag.mp z with z |z
  ·cases z
  ·exact .inl (aR.mpr (.inr (.inr (.inr (.inr z)))))
theorem O7{pl sc p b0 b1 a:zdg}{ps:List zdg}{ss:List V}(h:a∈cW pl sc b0 (p::ps) (.ref b1::ss)):a∈cW pl sc p ps ss\/a=b0\/a=b1:=by
 rcases aR.mp h with z |z |z |z |z
 ·exact .inl (aR.mpr (.inl z))
 ·exact .inl (aR.mpr (.inr (.inl z)))
 ·exact .inr (.inl z)
 ·rcases zag.mp z with z |z
  ·exact .inl (aR.mpr (.inr (.inr (.inl z))))
  ·exact .inl (aR.mpr (.inr (.inr (.inr (.inl z)))))
 ·rcases zag.mp z with z |z
  ·cases z;exact .inr (.inr rfl)
  ·exact .inl (aR.mpr (.inr (.inr (.inr (.inr z)))))
theorem PZ.one(hR:H0 R=none)(mP:H0 pl=none)(CP:H0 sc=none)(n1:pl≠sc)(n2:pl≠R)(n3:sc≠R)(s:aq H0 H)(e1:H R=some (.lst []))(e2:H pl=some (.lst [.ref R]))(e3:H sc=some (.lst [.cx])):PZ K bs r0 r0 R pl sc H0 H [] [] R [] [.cx] []:=
 ⟨e2,e3,e1,by unfold cW;simp[uM,n1,n2,n3],.nil,.root,rfl,Mn.nil,by simp,s,fun a ha=>by
  rcases aR.mp ha with rfl |rfl |rfl |h |h
  ·exact mP
  ·exact CP
  ·exact hR
  ·cases h
  ·simp at h⟩
theorem PZ.close(h:PZ K bs r0 row R pl sc H0 H o cur p ps ss vs):Rep K H (.lst ((cG o cur).map dO)) (.ref R):=by
 rw[<- h.rt];exact h.pa.close h.hp h.fx.Bv
end
theorem wL{tt:TT}{a b:TS}{D:Ends}{σ:St}{H:Hp}(h:∀U1 U2:St->Hp->Prop,(∀σ' H',U1 σ' H'↔a D σ' H')->(∀σ' H',U2 σ' H'↔b D σ' H')->tt σ H fun c H1=>if c=true then U1 σ H1 else U2 σ H1):II tt a b D σ H:=h (a D) (b D) (fun _ _=>Iff.rfl) fun _ _=>Iff.rfl
theorem rev_last(p:zdg)(ps:List zdg):(p::ps).reverse.map V.ref=ps.reverse.map V.ref++[.ref p]:=by rw[zbe,zas];rfl
theorem BZ(xs:List V)(a v:V):(xs++[a]).set ((xs++[a]).length-1) v=xs++[v]:=by
 rw[zai,zax,Nat.add_sub_cancel,List.set_append_right _ _ (zaj _),Nat.sub_self];rfl
theorem K0{n:Nat}(h:0<n):IY n (-1)=some (n-1):=by
 unfold IY;rw[if_neg (by decide),if_pos (by lia)];have:(-1+(n:Int)).toNat=n-1:=by lia
 rw[this]
theorem B0{A B:Hp}(s:aq A B){k:zdg}{o:HO}:aq (upd A k o) (upd B k o):=fun b x e=>by
 by_cases z:b=k
 ·rw[z,ah] at e ⊢;exact e
 ·rw[aw z] at e ⊢;exact s b x e
end L2
namespace L3
open PG
open PySem PyProof.Rows
def uN (h h':Heap):Prop:=∀b o,h.get? b=some o->o.cls=.type "tuple"->h'.get? b=some o
def su {κ:Type} [DecidableEq κ] (xs:List (κ×zdg×zdh)) (r:List (zdg×κ×zdg×zdh)):List (κ×zdg×zdh):=r.foldl (fun acc q=>storedH acc q.2.1 q.2.2.1 q.2.2.2) xs
theorem B3{κ:Type}[DecidableEq κ](xs:List (κ×zdg×zdh))(k:κ)(a:zdg)(v:zdh):(storedH xs k a v).length<=xs.length+1:=by
 unfold storedH;split<;>simp
section
variable{prog:zds}{w:zdi}{A:zdr}{E:zdh->zdq->Prop}{κ:Type}[DecidableEq κ]{knd:HeapKind prog w κ}
theorem vJ(kp:∀(h h':Heap) (x:κ) (a:zdg),knd.is h x a->uN h h'->knd.is h' x a){h h':Heap}{d:zdg}{xs:List (κ×zdg×zdh)}(hd:h.DictOfH knd d xs)(t:uN h h')(e:∀o,h.get? d=some o->h'.get? d=some o):h'.DictOfH knd d xs:=by
 obtain⟨o,es,ep,ho,hc,hd,he,his,hn⟩:=hd;exact⟨o,es,ep,e _ ho,hc,hd,he,fun x hx=>kp _ _ _ _ (his x hx) t,hn⟩
theorem yN(kp:∀(h h':Heap) (x:κ) (a:zdg),knd.is h x a->uN h h'->knd.is h' x a)(d it l:zdg)(items:Array zdh)(res:zdh)(hA:A.handled=none)(zK:it≠d)(hu:knd.room A.in1){R:Result->zdq->Prop}:∀(r:List (zdg×κ×zdg×zdh)) (i:Nat) (j:Int) (u:Tok) (xs:List (κ×zdg×zdh)) (s:zdq),
 items.toList.drop i=r.map (fun q=>Value.ref q.1)->(∀q∈r,s.heap.IsTuple q.1 #[.ref q.2.2.1,q.2.2.2]/\knd.is s.heap q.2.1 q.2.2.1)->s.heap.IsListIter it l i->s.heap.IsList l items->s.heap.DictOfH knd d xs->xs.length+r.length<=zdo->
 (∀h' tk,h'.DictOfH knd d (su xs r)->(∀b o,b≠d->b≠it->s.heap.get? b=some o->h'.get? b=some o)->R (.ok (.ret res)) {s with heap:=h',toks:=tk})->
 codeAny (model prog w) A (.builtin "dict.update.loop" ⟨[.ref d,.ref it,.int j u,res],[]⟩) R s
 |[],i,j,u,xs,s,hi,hp,hit,hl,hd,hz,hR=>by
  refine codeAny_builtin iR ?_;rw[Around.under_plainId c0 _];show wpAny _ A.in1 (pyNext (.ref it) >>= _) _ _ s;refine zdj (wpAny_pyNext_list_end hA hit hl (by rw[<- zaN];rw[zaP] at hi;exact za5 (zcw.mp hi)) fun h' ext=>?_);show wpAny _ _ (Builtin.Dict.addKeywords d [] >>= _) _ _ _;refine zdj (zdk (zdk (hR h' s.toks ?_ fun b o _ h2 e=>?_)))
  ·refine vJ kp hd (fun b o e c=>ext b o (fun z=>?_) e) fun o ho=>ext d o zK.symm ho;obtain⟨oi,Du,JZ,_⟩:=hit;rw[z,Du] at e;cases e;rw[JZ] at c;exact absurd (Value.type.inj c) (by decide)
  ·exact ext b o h2 e
 |q::r,i,j,u,xs,s,hi,hp,hit,hl,hd,hz,hR=>by
  have hx:items[i]?=some (Value.ref q.1):=by
   rw[<- zaN,<- zcx,hi];rfl
  refine codeAny_builtin iR ?_;rw[Around.under_plainId c0 _];show wpAny _ A.in1 (pyNext (.ref it) >>= _) _ _ s;refine zdj (wpAny_pyNext_list_item hit hl hx fun h' JN sb=>?_);have t1:uN s.heap h':=fun b o e c=>(sb.2 b fun z=>by
   obtain⟨oi,Du,JZ,_⟩:=hit;rw[z,Du] at e;cases e;rw[JZ] at c;exact absurd (Value.type.inj c) (by decide)).trans e
  obtain⟨⟨oq,T4,Sd,nq,Yd⟩,kq⟩:=hp q (zav ..);have J0:h'.get? q.1=some oq:=t1 _ _ T4 Sd;have A3:h'.DictOfH knd d xs:=vJ kp hd t1 fun o ho=>(sb.2 d zK.symm).trans ho;show wpAny _ A.in1 (holding [Value.ref q.1] _ >>= _) _ _ _;refine zdj (zdl (zdj (wpAny_tryCatch ?_)));unfold Builtin.Dict.pairItems;refine zdj (wpAny_typeOf (T:="tuple") ⟨oq,J0,Sd⟩ ?_);rw[if_pos (by decide)];refine zdj (wpAny_seqItems (s:={s with heap:=h' }) J0 Yd (zdk ?_));show wpAny _ A.in1 (holding [Value.ref q.2.2.1,q.2.2.2] (dictSet d (.ref q.2.2.1) q.2.2.2)) _ _ _;have hz1:xs.length<=zdo:=by simp only[zaf] at hz;lia
  refine zdl (wpAny_dictSet_heap (s:={s with heap:=h' }) hu (kp _ _ _ _ kq t1) A3 (fun h2 hd2 Io=>?_) hz1);have t2:uN h' h2:=fun b o e c=>(Io.2 b fun z=>by
   obtain⟨od,_,_,QH,hex,_⟩:=A3;rw[z,QH] at e;cases e;rw[hex.1] at c;exact absurd (Value.type.inj c) (by decide)).trans e
  refine zdk ⟨plainId_quiet c0 _,?_⟩;refine yN kp d it l items res hA zK hu r (i+1) (j+1) _ _ _ ?_ (fun p T5=>?_) ?_ ?_ hd2 ?_ fun h3 tk Mg keep=>hR h3 tk Mg fun b o n1 n2 e=>keep b o n1 n2 ?_
  ·rw[<- zcB,hi];rfl
  ·obtain⟨⟨op,QF,QG,rest⟩,kpp⟩:=hp p (zae _ T5);exact⟨⟨op,t2 _ _ (t1 _ _ QF QG) QG,QG,rest⟩,kp _ _ _ _ (kp _ _ _ _ kpp t1) t2⟩
  ·obtain⟨oi,Du,rest⟩:=JN;exact⟨oi,(Io.2 _ zK).trans Du,rest⟩
  ·obtain⟨ol,J7,Mh,nl,QI⟩:=hl;have n1:l≠it:=fun z=>by
    obtain⟨oi,Du,JZ,_⟩:=hit;rw[z,Du] at J7;cases J7;rw[JZ] at Mh;exact absurd (Value.type.inj Mh) (by decide)
   have n2:l≠d:=fun z=>by
    obtain⟨od,_,_,QH,_,Nn,_⟩:=hd;rw[z,QH] at J7;cases J7;rw[Nn] at QI;cases QI
   exact⟨ol,(Io.2 _ n2).trans ((sb.2 _ n1).trans J7),Mh,nl,QI⟩
  ·have:=B3 xs q.2.1 q.2.2.1 q.2.2.2;simp only[zaf] at hz;lia
  ·exact(Io.2 _ n1).trans ((sb.2 _ n2).trans e)
theorem DQ(kp:∀(h h':Heap) (x:κ) (a:zdg),knd.is h x a->uN h h'->knd.is h' x a)(l:zdg){s:zdq}{items:Array zdh}{n:Nat}{sl:Array (Option zdh)}{Q:zdh->zdq->Prop}(hA:A.handled=none)(hu:knd.room A.in1.in1)(r:List (zdg×κ×zdg×zdh))(hx:s.heap.get? l=some ⟨.type "list",none,.seq items n,sl⟩)
 (hi:items.toList=r.map (fun q=>Value.ref q.1)) (hp:∀q∈r,s.heap.IsTuple q.1 #[.ref q.2.2.1,q.2.2.2]/\knd.is s.heap q.2.1 q.2.2.1) (hz:r.length<=zdo)
 (h:∀h' tk,h'.DictOfH knd s.heap.objs.size (su [] r)->(∀b o,s.heap.get? b=some o->h'.get? b=some o)->Q (.ref s.heap.objs.size) {s with heap:=h',toks:=tk}) :
 wpAny (model prog w) A (call (.type "dict") [.ref l]) Q E s:=by
 refine callType_codes (Q₁:=fun obj s₁=>obj=.ref s.heap.objs.size/\s₁={s with heap:=s.heap.push {cls:=.type "dict",data:=.dict #[]} }) F.kt_called_dict (F.kt_typeCall_dict_1 _) F.entry_dict_init (kt_code_dict_new _ ⟨rfl,rfl⟩) ?_
 rintro obj s₁ ⟨rfl,rfl⟩
 have tM:(s.heap.push {cls:=.type "dict",data:=.dict #[]}).DictOfH knd s.heap.objs.size []:=Heap.DictOfH.new s.heap;have iK:∀b o,s.heap.get? b=some o->(s.heap.push {cls:=.type "dict",data:=.dict #[]}).get? b=some o:=fun b o e=>Heap.get?_push_of_some _ e;refine⟨tM.typeIs,F.args_dict_init_2 _ _,?_⟩;unfold Builtin.«dict.__init__»;refine zdj ?_;unfold Builtin.Dict.selfAndRest;refine zdj (wpAny_notOrdered_dict tM.typeIs ?_);show wpAny _ _ (pure (s.heap.objs.size,[Value.ref l])) _ _ _;refine zdk ?_;show wpAny _ _ (Builtin.Dict.updateFrom "dict.__init__" s.heap.objs.size (.ref l) [] .none) _ _ _;unfold Builtin.Dict.updateFrom;refine zdj (wpAny_typeOf (T:="list") ⟨_,iK _ _ hx,rfl⟩ ?_);rw[if_pos (by decide)];refine zdj (yo (n:=n) (sl:=sl) l (iK _ _ hx) hA fun h2 QJ iL=>?_);rw[if_pos (show (none:Option zdh).isNone=true from rfl)];refine zdj (wpAny_rule ?_);have Jc:h2.IsList l items:=⟨_,iL _ _ (iK _ _ hx),rfl,n,rfl⟩
 have hd2:h2.DictOfH knd s.heap.objs.size []:=vJ kp tM (fun b o e _=>iL b o e) fun o e=>iL _ _ e;refine zdj (wpAny_pyIter_list (s:={s with heap:=h2,toks:=QJ}) Jc ?_);have oF:∀b o,h2.get? b=some o->(h2.push {cls:=.type "list_iterator",data:=.fields #[.ref l,.int 0 0]}).get? b=some o:=fun b o e=>Heap.get?_push_of_some _ e;have nd:h2.objs.size≠s.heap.objs.size:=by
  obtain⟨o,es,ep,ho,_⟩:=hd2;exact fun e=>absurd (Heap.lt_size ho) (by rw[e];exact zaS _)
 refine zdk ⟨plainId_quiet c0 _,?_⟩;refine yN (A:=A.in1) kp s.heap.objs.size h2.objs.size l items .none hA nd hu r 0 0 _ [] _ (by simpa using hi) (fun q hq=>?_) ⟨_,Heap.get?_push_size _ rfl,rfl,rfl⟩ ?_ ?_ (by simpa using hz) fun h4 T6 QK BA=>?_
 ·obtain⟨⟨o,ho,rest⟩,kq⟩:=hp q hq;exact⟨⟨o,oF _ _ (iL _ _ (iK _ _ ho)),rest⟩,kp _ _ _ _ kq fun b o e _=>oF _ _ (iL _ _ (iK _ _ e))⟩
 ·obtain⟨o,ho,rest⟩:=Jc;exact⟨o,oF _ _ ho,rest⟩
 ·exact vJ kp hd2 (fun b o e _=>oF b o e) fun o e=>oF _ _ e
 ·refine⟨rfl,h h4 T6 QK fun b o e=>BA b o (fun z=>?_) (fun z=>?_) (oF _ _ (iL _ _ (iK _ _ e)))⟩
  ·rw[z] at e;exact absurd (Heap.lt_size e) (zaS _)
  ·have:=Heap.lt_size (iL _ _ (iK _ _ e));rw[z] at this;exact absurd this (zaS _)
end
end L3
namespace L2
open PG
open PySem PyProof.Rows
theorem DR{P:zds}{w:zdi}{h h':Heap}{x:jA}{a:zdg}(hx:qG P w h x a)(t:L3.uN h h'):qG P w h' x a:=by
 obtain⟨o,n,u,b,e,c,d,i,o2,its,n2,e2,c2,d2,it⟩:=hx;exact⟨o,n,u,b,t _ _ e c,c,d,i,o2,its,n2,t _ _ e2 c2,c2,d2,it⟩
section
variable{κ:Type}[DecidableEq κ]
def jB (kvs more:List (κ×V)):List (κ×V):=more.foldl (fun acc kv=>putK acc kv.1 kv.2) kvs
theorem wM:∀(more kvs:List (κ×V)),(jB kvs more).length<=kvs.length+more.length
 |[],kvs=>zaj _
 |kv::r,kvs=>by
  have h1:=wM r (putK kvs kv.1 kv.2);have h2:=jf kvs kv.1 kv.2;show (jB (putK kvs kv.1 kv.2) r).length<=_;rw[zaf];lia
theorem qL{X:Cx}{J:KH κ}(kp:∀(h h':Heap) (x:κ) (a:zdg),(J.knd X.prog X.w).is h x a->L3.uN h h'->(J.knd X.prog X.w).is h' x a)(hc:X.calm=true)(hu:X.A.units+64<cLine):jE X (.type "dict") (fun xs H Q=>∃(a:zdg) (ps:List (zdg×κ×zdg×V)),xs=[.ref a]/\gC X.K H a (ps.map fun q=>V.ref q.1)/\(∀q∈ps,b8 X.K H q.1 [.ref q.2.2.1,q.2.2.2]/\J.on X.K H q.2.1 q.2.2.1)/\ps.length<=zdo/\
 ∀p H',H p=none->(∃φ,H'=upd H p (.ext φ))->DS J X.prog X.w X.K H' p (jB [] (ps.map fun q=>(q.2.1,q.2.2.2)))->Q (.ref p) H'):=by
 intro pins s σ H xs us Q I r h;obtain⟨a,ps,rfl,ha,hp,hz,q⟩:=h;obtain⟨u,rfl,ru⟩:=vals1 r;cases (show u=Value.ref a from ru);obtain⟨its,v1,t1,_⟩:=I.list ha;obtain⟨⟨cls,dct,dat,sl⟩,n,e1,T7,QL,wA⟩:=t1;simp only at T7 QL wA;subst T7 QL wA;have mk:∀(l:List (zdg×κ×zdg×V)) (us:List zdh),Vals (l.map fun q=>V.ref q.1) us->(∀q∈l,b8 X.K H q.1 [.ref q.2.2.1,q.2.2.2]/\J.on X.K H q.2.1 q.2.2.1)->∃r:List (zdg×κ×zdg×zdh),us=r.map (fun q=>Value.ref q.1)/\r.length=l.length/\
  (∀q∈r,s.heap.IsTuple q.1 #[.ref q.2.2.1,q.2.2.2]/\(J.knd X.prog X.w).is s.heap q.2.1 q.2.2.1)/\Paired (fun (p:zdg×κ×zdg×V) (q:zdg×κ×zdg×zdh)=>p.2.1=q.2.1/\J.on X.K H p.2.1 q.2.2.1/\RelV p.2.2.2 q.2.2.2) l r:=by
  intro l
  induction l with
  |nil=>intro us v _;cases v;exact⟨[],rfl,rfl,fun _ z=>(by cases z),.nil⟩
  |cons x l ih=>
   intro us v hp;rw[zaq] at v;cases v with
   |cons v1 v2=>
    obtain⟨r,e,lr,hr,kv⟩:=ih _ v2 (fun q hq=>hp q (zae _ hq));obtain⟨WB,hx2⟩:=hp x (zav ..);obtain⟨nX,w1,tu,_⟩:=I.tuple WB;obtain⟨ku,vu,rfl,rk,rv⟩:=vals2 w1;cases v1;cases (show ku=Value.ref x.2.2.1 from rk);refine⟨(x.1,x.2.1,x.2.2.1,vu)::r,by rw[e];rfl,by simp[lr],fun q hq=>?_,.cons ⟨rfl,hx2,rv⟩ kv⟩;rcases zag.mp hq with rfl |hq
    ·exact⟨tu,J.of I hx2⟩
    ·exact hr q hq
 obtain⟨r',er,lr,hr,kv⟩:=mk ps its v1 hp;refine L3.DQ kp a (I.ok.hd hc) (J.room (A:=X.A.in1) (by show X.A.units+1+16<cLine;lia)) r' e1 (by simpa using er) hr (by lia) fun h' tk dd keep=>?_;have hn:=I.cI.fresh (zaj s.heap.objs.size);have hb:(s.heap.objs.size==sysModules)=false:=beq_eq_false_iff_ne.mpr (Ne.symm (zay I.big));obtain⟨o,es,ep,ho,hx,hd,he,_,nd⟩:=dd;have ks:∀(l:List (zdg×κ×zdg×V)) (r:List (zdg×κ×zdg×zdh)) (kvs:List (κ×V)) (xs:List (κ×zdg×zdh)),Paired (fun (p:zdg×κ×zdg×V) (q:zdg×κ×zdg×zdh)=>p.2.1=q.2.1/\J.on X.K H p.2.1 q.2.2.1/\RelV p.2.2.2 q.2.2.2) l r->KS J X.K H kvs xs->KS J X.K H (jB kvs (l.map fun q=>(q.2.1,q.2.2.2))) (L3.su xs r):=by
  intro l r kvs xs hp
  induction hp generalizing kvs xs with
  |nil=>exact id
  |@cons p q ps qs h t ih=>
   intro k;refine ih _ _ ?_;show KS J X.K H (putK kvs p.2.1 p.2.2.2) (storedH xs q.2.1 q.2.2.1 q.2.2.2);rw[<- h.1];exact k.put _ h.2.1 h.2.2
 have k0:=ks ps r' [] [] kv .nil;have ph:kS J X.prog X.w s.heap.objs.size (L3.su [] r') h':=⟨o,es,ep,ho,hx,hd,he⟩
 refine⟨.ref s.heap.objs.size,_,I.laid (o:=.ext (kS J X.prog X.w s.heap.objs.size (L3.su [] r'))) keep (zaj _) ⟨ph,⟨o,ho⟩,fun g1 g2 p1 YN=>?_⟩,rfl,q _ _ hn ⟨_,rfl⟩ ⟨?_,hb,_,ah,k0.up fun b ys q=>(aq.new hn _).aZ q,nd⟩⟩
 ·obtain⟨ob,es,ep,h1,h2,h3,h4⟩:=p1;exact⟨ob,es,ep,YN ob h1,h2,h3,h4⟩
 ·have h1:=wM (ps.map fun q=>(q.2.1,q.2.2.2)) [];rw[zaI,zac] at h1;lia
end
abbrev Zs:=Int×Int
def Sh (n:Int):Int:=((n+1)*48271%2147483647)*((n+1)*48271%2147483647)%2147483629
def tk (z:Zs) (m:Int):Int×Zs:=if z.2=1 then (Sh z.1*69621%2147483587/8%m,(Sh z.1,z.2)) else (z.1%m,(z.1/m,z.2))
def NM (ns:List Int) (k:Nat):Zs:=(ns.getD k 0+1009*k*(if ns.getD k 0<10 ^ 18 then 1 else 0),if ns.getD k 0<10 ^ 18 then 1 else 0)
def rm (H:Hp) (s:zdg) (z:Zs):Prop:=H s=some (.lst [.int z.1,.int z.2])
section
variable{H H':Hp}{s p:zdg}{z:Zs}
theorem rm.same(h:rm H s z)(e:aq H H'):rm H' s z:=e _ _ h
theorem rm.ne(h:rm H s z)(hp:H p=none):p≠s:=fun e=>by rw[e,show H s=_ from h] at hp;cases hp
theorem rm.new(h:rm H s z)(hp:H p=none)(o:HO):rm (upd H p o) s z:=h.same (aq.new hp o)
theorem rm.nn(h:rm H s z):H s≠none:=by rw[show H s=_ from h];simp
end
def Si (bs:List gF) (x:Int):W:=(PG.pick ⟨[],0,0⟩ bs x).name
def YO (x:Int):W:=if x=0 then [43] else if x=1 then [45] else [42]
def O8 (x:Int):W:=if x=0 then [60] else [61]
def DT (z:Zs):PM.Tr×Zs:=
 (.num (if (tk (tk (tk z 4).2 12).2 2).1=0 then (tk z 4).1 else (tk (tk z 4).2 12).1),(tk (tk (tk z 4).2 12).2 2).2)
def fQ (bs:List gF) (z:Zs):PM.Tr×Zs:=
 if bs=[] then DT z else if 0<(tk z 3).1 then (.box (Si bs (tk (tk z 3).2 bs.length).1),(tk (tk z 3).2 bs.length).2) else DT (tk z 3).2
theorem NN{z z1 z2 z3:Zs}{a b c:Int}(h1:tk z 4=(a,z1))(h2:tk z1 12=(b,z2))(h3:tk z2 2=(c,z3)):DT z=(.num (if c=0 then a else b),z3):=by unfold DT;rw[h1,h2,h3]
section
variable{bs:List gF}{z z1 z2 z3 z4 z5 z6 z7 z8:Zs}{x x1 x3 x6 x7:Int}{t t2 t4 t8:PM.Tr}
theorem GZ(h:bs=[]):fQ bs z=DT z:=by unfold fQ;rw[if_pos h]
theorem G0(h:bs≠[])(h1:tk z 3=(x,z1))(h2:¬0<x):fQ bs z=DT z1:=by unfold fQ;rw[if_neg h,h1,if_neg h2]
theorem Hd(h:bs≠[])(h1:tk z 3=(x,z1))(h2:0<x)(h3:tk z1 bs.length=(x3,z3)):fQ bs z=(.box (Si bs x3),z3):=by unfold fQ;rw[if_neg h,h1,if_pos h2,h3]
def eD (bs:List gF) (z:Zs):PM.Tr×Zs:=
 if (tk (fQ bs z).2 2).1=0 then ((fQ bs z).1,(tk (fQ bs z).2 2).2) else
 (.bin (YO (tk (tk (fQ bs z).2 2).2 3).1) (fQ bs z).1 (fQ bs (tk (tk (fQ bs z).2 2).2 3).2).1,(fQ bs (tk (tk (fQ bs z).2 2).2 3).2).2)
theorem YQ(h2:fQ bs z=(t2,z2))(h3:tk z2 2=(x3,z3))(e:x3=0):eD bs z=(t2,z3):=by unfold eD;rw[h2,h3,if_pos e]
theorem YR(h2:fQ bs z=(t2,z2))(h3:tk z2 2=(x3,z3))(e:x3≠0)(h6:tk z3 3=(x6,z6))(h4:fQ bs z6=(t4,z4)):eD bs z=(.bin (YO x6) t2 t4,z4):=by unfold eD;rw[h2,h3,if_neg e,h6,h4]
def gE (bs:List gF) (row:Int) (z:Zs):bq×Zs:=
 if bs≠[]/\(tk z 9).1<3 then (.ask row (Si bs (tk (tk z 9).2 bs.length).1),(tk (tk z 9).2 bs.length).2) else
 if bs≠[]/\(tk z 9).1<6 then (.put row (Si bs (tk (tk z 9).2 bs.length).1) (eD bs (tk (tk z 9).2 bs.length).2).1,(eD bs (tk (tk z 9).2 bs.length).2).2) else
 if (tk z 9).1=6 then (.bW row (O8 (tk (tk z 9).2 2).1) (eD bs (tk (tk z 9).2 2).2).1 (eD bs (eD bs (tk (tk z 9).2 2).2).2).1,(eD bs (eD bs (tk (tk z 9).2 2).2).2).2) else
 if (tk z 9).1=7 then (if (tk (tk z 9).2 2).1=0 then (.stop row,(tk (tk z 9).2 2).2) else (.say row (eD bs (tk (tk z 9).2 2).2).1,(eD bs (tk (tk z 9).2 2).2).2)) else
 (.say row (eD bs (tk z 9).2).1,(eD bs (tk z 9).2).2)
variable{row kd:Int}
theorem DU(h1:tk z 9=(kd,z1))(hb:bs≠[])(e:kd<3)(h3:tk z1 bs.length=(x3,z3)):gE bs row z=(.ask row (Si bs x3),z3):=by unfold gE;rw[h1,if_pos ⟨hb,e⟩,h3]
theorem DV(h1:tk z 9=(kd,z1))(hb:bs≠[])(e1:¬kd<3)(e:kd<6)(h3:tk z1 bs.length=(x3,z3))(h4:eD bs z3=(t4,z4)):gE bs row z=(.put row (Si bs x3) t4,z4):=by unfold gE;rw[h1,if_neg fun c=>e1 c.2,if_pos ⟨hb,e⟩,h3,h4]
theorem B4(h1:tk z 9=(kd,z1))(n3:¬(bs≠[]/\kd<3))(n6:¬(bs≠[]/\kd<6))(e:kd=6)(h3:tk z1 2=(x3,z3))(h4:eD bs z3=(t4,z4))(h5:eD bs z4=(t,z5)):gE bs row z=(.bW row (O8 x3) t4 t,z5):=by unfold gE;rw[h1,if_neg n3,if_neg n6,if_pos e,h3,h4,h5]
theorem B5(h1:tk z 9=(kd,z1))(n3:¬(bs≠[]/\kd<3))(n6:¬(bs≠[]/\kd<6))(e:kd=7)(h3:tk z1 2=(x3,z3))(e3:x3=0):gE bs row z=(.stop row,z3):=by unfold gE;rw[h1,if_neg n3,if_neg n6,if_neg (show ¬kd=6 by lia),if_pos e,h3,if_pos e3]
theorem B6(h1:tk z 9=(kd,z1))(n3:¬(bs≠[]/\kd<3))(n6:¬(bs≠[]/\kd<6))(e:kd=7)(h3:tk z1 2=(x3,z3))(e3:x3≠0)(h4:eD bs z3=(t4,z4)):gE bs row z=(.say row t4,z4):=by unfold gE;rw[h1,if_neg n3,if_neg n6,if_neg (show ¬kd=6 by lia),if_pos e,h3,if_neg e3,h4]
theorem DW(h1:tk z 9=(kd,z1))(n3:¬(bs≠[]/\kd<3))(n6:¬(bs≠[]/\kd<6))(e:kd≠6)(e7:kd≠7)(h4:eD bs z1=(t4,z4)):gE bs row z=(.say row t4,z4):=by unfold gE;rw[h1,if_neg n3,if_neg n6,if_neg e,if_neg e7,h4]
def Q8 (bs:List gF) (row kd:Int) (z:Zs) (oc:List (List bq×dY)×List bq):List (List bq×dY)×List bq:=
 let a:=(eD bs z).1
 let b:=(fQ bs (eD bs z).2).1
 let r:=tk (fQ bs (eD bs z).2).2 2
 let sg:=O8 (tk r.2 2).1
 let l:=if r.1=1 then b else a
 let m:=if r.1=1 then a else b
 ((oc.2,if kd=1 then .eU row sg l m else .if1 row sg l m)::oc.1,[])
def uO:List (List bq×dY)->Bool
 |(_,.if1 ..)::_=>true
 |_=>false
def Q9 (oc:List (List bq×dY)×List bq):List (List bq×dY)×List bq:=
 match oc.1 with
 |(st,.if1 k sg l r)::o=>((st,.if2 k sg l r oc.2)::o,[])
 |_=>oc
def He (oc:List (List bq×dY)×List bq):List (List bq×dY)×List bq:=
 match oc.1 with
 |(st,h)::o=>(o,st++[h.fill oc.2])
 |[]=>oc
def nU (bs:List gF) (row:Int) (z:Zs) (oc:List (List bq×dY)×List bq):List (List bq×dY)×List bq:=
 if (tk z 10).1<3/\oc.1.length<4 then Q8 bs row (tk z 10).1 (tk z 10).2 oc else
 if (tk z 10).1=3/\uO oc.1=true then Q9 oc else
 if (tk z 10).1<5/\oc.1≠[] then He oc else
 (oc.1,oc.2++[(gE bs row (tk z 10).2).1])
def DX (bs:List gF) (ns:List Int):Nat->List (List bq×dY)×List bq
 |0=>([],[])
 |i+1=>nU bs (bs.length+i+1) (NM ns (i+1)) (DX bs ns i)
def K1 (bs:List gF) (ns:List Int) (m:Nat):List bq:=cG (DX bs ns (min ns.length m-1)).1 (DX bs ns (min ns.length m-1)).2
def NO (z:Zs):List W:=if (tk z 2).1=0 then [[97],[97,98]] else [[120,120],[120]]
def B7:List W->Zs->List gF×Zs
 |[],z=>([],z)
 |nm::r,z=>
  let x:=tk z 3
  let y:=tk x.2 (2+x.1)
  let rest:=B7 r y.2
  (⟨nm,2+x.1,y.1⟩::rest.1,rest.2)
def Hf (r:List gF×Zs):List gF:=if (tk r.2 3).1=0 then [⟨[98,111,120,101,115],8+(tk (tk r.2 3).2 3).1,(tk (tk (tk r.2 3).2 3).2 (8+(tk (tk r.2 3).2 3).1)).1⟩] else r.1
theorem Ra{f:Int}(h:tk z 3=(x,z1))(e:x=0)(h2:tk z1 3=(x1,z2))(h3:tk z2 (8+x1)=(f,z3)):Hf (bs,z)=[⟨[98,111,120,101,115],8+x1,f⟩]:=by unfold Hf;rw[h,if_pos e,h2,h3]
theorem Rb(h:tk z 3=(x,z1))(e:x≠0):Hf (bs,z)=bs:=by unfold Hf;rw[h,if_neg e]
def K2 (ns:List Int):List gF:=Hf (B7 ((NO (NM ns 0)).take (tk (tk (NM ns 0) 2).2 3).1.toNat) (tk (tk (NM ns 0) 2).2 3).2)
theorem ky(s:Int)(r:List Int):(iH (s::r)).length=s.toNat*(iH r).length:=by
 have k:∀n:Nat,((zaF n).flatMap fun (v:Nat)=>(iH r).map fun t=>((v:Int)::t)).length=n*(iH r).length:=fun n=>by
  induction n with
  |zero=>simp
  |succ n ih=>rw[zbs,za1,zai,ih];simp[zcu]
 rw[iH,k]
theorem K3:∀(l:List Int),(∀s∈l,s<=4)->l.length<=2->(iH l).length<=16
 |[],_,_=>by simp[iH]
 |[a],h,_=>by rw[ky];have:=h a (by simp);simp only[iH,zaf,zaI];lia
 |[a,b],h,_=>by
  rw[ky,ky];have h1:=h a (by simp);have h2:=h b (by simp);have:=zcC (show a.toNat<=4 by lia) (show b.toNat<=4 by lia);simpa[iH] using this
 |_::_::_::_,_,n=>by simp at n
end
section
variable(K:zaa)
inductive Us(vs:List V)(H:Hp)(Q:VK)(E:XK):Prop
 |mk (s:zdg) (many:Int) (z:Zs) (e:vs=[.ref s,.int many]) (h:rm H s z) (h0:0<many) (h1:many<=1000000) (q:∀x z' H',tk z many=(x,z')->0<=x->x<many->bo s H H'->rm H' s z'->Q (.int x) H')
inductive K4(vs:List V)(H:Hp)(Q:VK)(E:XK):Prop
 |mk (a:zdg) (ns:List Int) (k:Nat) (e:vs=[.ref a,.int k]) (h:gC K H a (ns.map V.int)) (h0:ns.length<=63) (h1:k<=63) (q:∀s H',aq H H'->H s=none->rm H' s (NM ns k)->Q (.ref s) H')
inductive K5(vs:List V)(H:Hp)(Q:VK)(E:XK):Prop
 |mk (a:zdg) (ns:List Int) (e:vs=[.ref a]) (h:gC K H a (ns.map V.int)) (h0:ns.length<=63) (q:∀B bs H',bs=K2 ns->aq H H'->H B=none->Rep K H' (.lst (bs.map iJ)) (.ref B)->BsK bs->bs.length<=2->(iH (bs.map (·.size))).length<=16->Q (.ref B) H')
inductive NP(vs:List V)(H:Hp)(Q:VK)(E:XK):Prop
 |mk (s B:zdg) (bs:List gF) (z:Zs) (e:vs=[.ref s,.ref B]) (h:rm H s z) (hB:kl K (·=s) H B bs) (q:∀v t z' H',fQ bs z=(t,z')->bo s H H'->rm H' s z'->Own K H H' (ki t) v->kP bs t->mL t<=0->Q v H')
inductive YS(vs:List V)(H:Hp)(Q:VK)(E:XK):Prop
 |mk (s B:zdg) (bs:List gF) (z:Zs) (e:vs=[.ref s,.ref B]) (h:rm H s z) (hB:kl K (·=s) H B bs) (q:∀v t z' H',eD bs z=(t,z')->bo s H H'->rm H' s z'->Own K H H' (ki t) v->BV bs t->Q v H')
inductive K6(vs:List V)(H:Hp)(Q:VK)(E:XK):Prop
 |mk (s B:zdg) (bs:List gF) (row:Int) (z:Zs) (e:vs=[.ref s,.ref B,.int row]) (h:rm H s z) (hB:kl K (·=s) H B bs) (q:∀v st z' H',gE bs row z=(st,z')->bo s H H'->rm H' s z'->Own K H H' (dO st) v->Up bs st->Plain st->st.row=row->Q v H')
inductive NQ(m:Nat)(vs:List V)(H:Hp)(Q:VK)(E:XK):Prop
 |mk (a B:zdg) (ns:List Int) (bs:List gF) (e:vs=[.ref a,.ref B]) (h:gC K H a (ns.map V.int)) (h0:ns.length<=63) (rB:Rep K H (.lst (bs.map iJ)) (.ref B)) (l4:bs.length<=4) (q:∀R (body:List bq) H',body=K1 bs ns m->aq H H'->H R=none->Rep K H' (.lst (body.map dO)) (.ref R)->ZkB bs bs.length (bs.length+25) body->Q (.ref R) H')
end
section
variable{K:zaa}{bs:List gF}{r0 row:Int}{R pl sc:zdg}{H0 H H1:Hp}{o:List (List bq×dY)}{cur:List bq}{p:zdg}{ps:List zdg}{ss vs:List V}
theorem PZ.YT(h:PZ K bs r0 row R pl sc H0 H o cur p ps ss vs){v:V}{iI:List V}(es:ss=v::iI)(nv:v≠.cx):∃b,v=.ref b/\uO o=true/\PZ K bs r0 row R pl sc H0 (upd (upd H pl (.lst ((b::ps).reverse.map V.ref))) sc (.lst (.cx::iI).reverse)) (Q9 (o,cur)).1 [] b ps (.cx::iI) []:=by
 have nd:=h.nd;have pa:=h.pa;subst es;cases O9:pa with
 |root=>exact absurd rfl nv
 |eU=>exact absurd rfl nv
 |if2=>exact absurd rfl nv
 |if1 a b1 c d e f x g=>
  rename_i o1 gS k sg l r q c1 b xy Mo vl vr;refine⟨b,rfl,rfl,?_⟩;show PZ K bs r0 row R pl sc H0 _ ((gS,.if2 k sg l r cur)::o1) [] b _ _ [];have mo:∀y,y∈cW pl sc b (q::xy) (.cx::iI)->y∈cW pl sc p (q::xy) (.ref b::iI)/\y≠p:=fun y hy=>by
   have hz:y∈cW pl sc p (q::xy) (.ref b::iI):=by
    rcases aR.mp hy with z |z |z |z |z
    ·exact aR.mpr (.inl z)
    ·exact aR.mpr (.inr (.inl z))
    ·exact aR.mpr (.inr (.inr (.inr (.inr (by rw[z];simp)))))
    ·exact aR.mpr (.inr (.inr (.inr (.inl z))))
    ·exact aR.mpr (.inr (.inr (.inr (.inr ((zag.mp z).elim (fun z=>by cases z) fun z=>zae _ z)))))
   refine⟨hz,fun e=>?_⟩;unfold cW at nd;rw[zam,zam,zam] at nd;obtain⟨n1,n2,n3,n4⟩:=nd;rw[e] at hy;rcases aR.mp hy with z |z |z |z |z
   ·exact n1 (by rw[<- z];simp)
   ·exact n2 (by rw[<- z];simp)
   ·exact n3 (by rw[z,sr];simp)
   ·exact n3 (zah.mpr (.inl z))
   ·rcases zag.mp z with z |z
    ·cases z
    ·exact n3 (zah.mpr (.inr (ie.mpr (zae _ z))))
  have gr:∀y,y∈cW pl sc b (q::xy) (.cx::iI)->y∈cW pl sc p (q::xy) (.ref b::iI)\/H y=none:=fun y hy=>.inl (mo y hy).1;have KW:pl∈cW pl sc b (q::xy) (.cx::iI):=aR.mpr (.inl rfl);have KY:sc∈cW pl sc b (q::xy) (.cx::iI):=aR.mpr (.inr (.inl rfl));have u:aU (·∈cW pl sc b (q::xy) (.cx::iI)) H (upd (upd H pl (.lst ((b::q::xy).reverse.map V.ref))) sc (.lst (.cx::iI).reverse)):=(aU.refl.put KW _).put KY _;unfold cW at nd;rw[zam,zam,zam] at nd;obtain⟨n1,n2,n3,n4⟩:=nd;have e3:pl≠sc:=fun z=>n1 (by rw[z];simp);have kp:∀y,y≠pl->y≠sc->(upd (upd H pl (.lst ((b::q::xy).reverse.map V.ref))) sc (.lst (.cx::iI).reverse)) y=H y:=fun y h1 h2=>by rw[aw h2,aw h1]
  have inb:b∈(q::xy)++uM (.ref b::iI):=by rw[sr];simp
  have nbl:b≠pl:=fun z=>n1 (by rw[<- z];exact zae _ (zae _ inb));have nbs:b≠sc:=fun z=>n2 (by rw[<- z];exact zae _ inb);have K7:∀y,y∈(q::xy)++uM (.ref b::iI)->y≠pl/\y≠sc:=fun y hy=>⟨fun z=>n1 (by rw[<- z];exact zae _ (zae _ hy)),fun z=>n2 (by rw[<- z];exact zae _ hy)⟩
  have hq:∀y∈q::xy,y≠pl/\y≠sc:=fun y hy=>K7 y (zah.mpr (.inl hy));refine⟨by rw[aw e3,ah],by rw[ah],by rw[kp b nbl nbs];exact x,?_,.nil,.if2 (c:=c1) (vs:=Mo) (a:=cur) (by rw[kp q (hq q (by simp)).1 (hq q (by simp)).2];exact a) ((b1.grow gr).up u) (fun z=>c (mo c1 z).1) (u c1 _ (fun z=>c (mo c1 z).1) d) ((e.grow gr).up u) ((f.grow gr).up u) ?_ ((g.grow gr).up u (fun y hy=>?_) fun y hy=>?_),h.rt,?_,h.len,fun y o2 e2=>?_,fun y hy=>h.fr y (mo y hy).1⟩
  ·show (pl::sc::b::(q::xy++uM iI)).Nodup;rw[sr] at n4 n1 n2;have n5:((q::xy)++(b::uM iI)).Nodup:=n4;rw[zbm] at n5;have n6:=zam.mp n5.2.1;rw[zam,zam,zam];refine⟨fun z=>?_,fun z=>?_,fun z=>?_,?_⟩
   ·rcases zag.mp z with z |z
    ·exact e3 z
    ·rcases zag.mp z with z |z
     ·exact nbl z.symm
     ·rcases zah.mp z with z |z
      ·exact n1 (zae _ (zae _ (zah.mpr (.inl z))))
      ·exact n1 (zae _ (zae _ (zah.mpr (.inr (zae _ z)))))
   ·rcases zag.mp z with z |z
    ·exact nbs z.symm
    ·rcases zah.mp z with z |z
     ·exact n2 (zae _ (zah.mpr (.inl z)))
     ·exact n2 (zae _ (zah.mpr (.inr (zae _ z))))
   ·rcases zah.mp z with z |z
    ·exact n5.2.2 b z b (by simp) rfl
    ·exact n6.1 z
   ·rw[zbm];exact⟨n5.1,n6.2,fun y hy w hw=>n5.2.2 y hy w (zae _ hw)⟩
  ·exact Fix.lst (vs:=vs) (u p _ (fun z=>(mo p z).2 rfl) h.hp) (fun z=>(mo p z).2 rfl) ((h.fx.grow gr).up u)
  ·exact kp y (hq y (zae _ hy)).1 (hq y (zae _ hy)).2
  ·have:=K7 y (zah.mpr (.inr (by rw[sr];exact zae _ (ie.mpr hy))));exact kp y this.1 this.2
  ·exact h.zk
  ·have no:y ∉ cW pl sc p (q::xy) (.ref b::iI):=fun z=>by rw[h.fr y z] at e2;cases e2
   rw[kp y (fun z=>no (by rw[z];exact aR.mpr (.inl rfl))) (fun z=>no (by rw[z];exact aR.mpr (.inr (.inl rfl))))];exact h.sm y o2 e2
theorem PZ.YU(h:PZ K bs r0 row R pl sc H0 H o cur p ps ss vs){q:zdg}{jN:List zdg}(ep:ps=q::jN):∃v iI Q3,ss=v::iI/\o≠[]/\PZ K bs r0 row R pl sc H0 (upd (upd H pl (.lst ((q::jN).reverse.map V.ref))) sc (.lst iI.reverse)) (He (o,cur)).1 (He (o,cur)).2 q jN iI Q3:=by
 have nd:=h.nd;have pa:=h.pa;subst ep;have main:∀(v:V) (iI:List V) (o':List (List bq×dY)) (hl:dY) (gS:List bq) (Mo:List V) (c1:zdg),ss=v::iI->o=(gS,hl)::o'->H q=some (.lst (Mo++[.ref c1]))->eX K (·∈cW pl sc p (q::jN) ss) H (gS.map dO) Mo->Fix K (·∈cW pl sc q jN iI) H (dO (hl.fill cur)) (.ref c1)->jl K (·∈cW pl sc p (q::jN) ss) H o' q jN iI->∃v iI Q3,ss=v::iI/\o≠[]/\PZ K bs r0 row R pl sc H0 (upd (upd H pl (.lst ((q::jN).reverse.map V.ref))) sc (.lst iI.reverse)) (He (o,cur)).1 (He (o,cur)).2 q jN iI Q3:=by
  intro v iI o' hl gS Mo c1 es eo a b f g;subst es;subst eo;refine⟨v,iI,Mo++[.ref c1],rfl,by simp,?_⟩;show PZ K bs r0 row R pl sc H0 _ o' (gS++[hl.fill cur]) q jN iI _;have mo:∀y,y∈cW pl sc q jN iI->y∈cW pl sc p (q::jN) (v::iI):=fun y hy=>by
   rcases aR.mp hy with z |z |z |z |z
   ·exact aR.mpr (.inl z)
   ·exact aR.mpr (.inr (.inl z))
   ·exact aR.mpr (.inr (.inr (.inr (.inl (by rw[z];simp)))))
   ·exact aR.mpr (.inr (.inr (.inr (.inl (zae _ z)))))
   ·exact aR.mpr (.inr (.inr (.inr (.inr (zae _ z)))))
  have gr:∀y,y∈cW pl sc q jN iI->y∈cW pl sc p (q::jN) (v::iI)\/H y=none:=fun y hy=>.inl (mo y hy);have KW:pl∈cW pl sc q jN iI:=aR.mpr (.inl rfl);have KY:sc∈cW pl sc q jN iI:=aR.mpr (.inr (.inl rfl));have u:aU (·∈cW pl sc q jN iI) H (upd (upd H pl (.lst ((q::jN).reverse.map V.ref))) sc (.lst iI.reverse)):=(aU.refl.put KW _).put KY _;unfold cW at nd;rw[zam,zam,zam] at nd;obtain⟨n1,n2,n3,n4⟩:=nd;have e3:pl≠sc:=fun z=>n1 (by rw[z];simp);have kp:∀y,y≠pl->y≠sc->(upd (upd H pl (.lst ((q::jN).reverse.map V.ref))) sc (.lst iI.reverse)) y=H y:=fun y h1 h2=>by rw[aw h2,aw h1]
  have K7:∀y,y∈(q::jN)++uM (v::iI)->y≠pl/\y≠sc:=fun y hy=>⟨fun z=>n1 (by rw[<- z];exact zae _ (zae _ hy)),fun z=>n2 (by rw[<- z];exact zae _ hy)⟩
  have sub:∀y,y∈jN++uM iI->y∈(q::jN)++uM (v::iI):=fun y hy=>by
   rcases zah.mp hy with z |z
   ·exact zah.mpr (.inl (zae _ z))
   ·exact zah.mpr (.inr (ie.mpr (zae _ (ie.mp z))))
  have WC:=K7 q (by simp);refine⟨by rw[aw e3,ah],by rw[ah],by rw[kp q WC.1 WC.2];exact a,?_,?_,(g.grow gr).up u (fun y hy=>?_) (fun y hy=>?_),h.rt,h.zk,by have:=h.len;rw[zaf] at this;lia,fun y o2 e2=>?_,fun y hy=>h.fr y (mo y hy)⟩
  ·unfold cW;have n5:(q::(jN++uM (v::iI))).Nodup:=n4;obtain⟨n6,n7⟩:=zam.mp n5;have sl:(uM iI).Sublist (uM (v::iI)):=by
    unfold uM;exact List.Sublist.filterMap _ (List.sublist_cons_self _ _)
   rw[zam,zam,zam];refine⟨fun z=>?_,fun z=>?_,fun z=>?_,List.Nodup.sublist ((List.Sublist.refl _).append sl) n7⟩
   ·rcases zag.mp z with z |z
    ·exact e3 z
    ·rcases zag.mp z with z |z
     ·exact WC.1 z.symm
     ·exact(K7 _ (sub _ z)).1 rfl
   ·rcases zag.mp z with z |z
    ·exact WC.2 z.symm
    ·exact(K7 _ (sub _ z)).2 rfl
   ·rcases zah.mp z with z |z
    ·exact n6 (zah.mpr (.inl z))
    ·exact n6 (zah.mpr (.inr (sl.subset z)))
  ·rw[zas];exact((b.grow gr).snoc f).up u
  ·have:=K7 y (sub y (zah.mpr (.inl hy)));exact kp y this.1 this.2
  ·have:=K7 y (sub y (zah.mpr (.inr (ie.mpr hy))));exact kp y this.1 this.2
  ·have no:y ∉ cW pl sc p (q::jN) (v::iI):=fun z=>by rw[h.fr y z] at e2;cases e2
   rw[kp y (fun z=>no (by rw[z];exact aR.mpr (.inl rfl))) (fun z=>no (by rw[z];exact aR.mpr (.inr (.inl rfl))))];exact h.sm y o2 e2
 have np:∀v iI,ss=v::iI->(∀y,y∈cW pl sc q jN iI->y∈cW pl sc p (q::jN) ss/\y≠p/\V.ref y≠v):=fun v iI es y hy=>by
  subst es;have YV:=nd;unfold cW at YV;rw[zam,zam,zam] at YV;obtain⟨n1,n2,n3,n4⟩:=YV;have hy1:y∈cW pl sc p (q::jN) (v::iI):=by
   rcases aR.mp hy with z |z |z |z |z
   ·exact aR.mpr (.inl z)
   ·exact aR.mpr (.inr (.inl z))
   ·exact aR.mpr (.inr (.inr (.inr (.inl (by rw[z];simp)))))
   ·exact aR.mpr (.inr (.inr (.inr (.inl (zae _ z)))))
   ·exact aR.mpr (.inr (.inr (.inr (.inr (zae _ z)))))
  refine⟨hy1,fun e=>?_,fun e=>?_⟩
  ·rw[e] at hy;rcases aR.mp hy with z |z |z |z |z
   ·exact n1 (by rw[<- z];simp)
   ·exact n2 (by rw[<- z];simp)
   ·exact n3 (by rw[z];simp)
   ·exact n3 (zah.mpr (.inl (zae _ z)))
   ·exact n3 (zah.mpr (.inr (ie.mpr (zae _ z))))
  ·rw[<- e] at n1 n2 n3 n4;rw[sr] at n1 n2 n3 n4;have n5:((q::jN)++(y::uM iI)).Nodup:=n4;rw[zbm] at n5;rcases aR.mp hy with z |z |z |z |z
   ·exact n1 (by rw[<- z];simp)
   ·exact n2 (by rw[<- z];simp)
   ·exact n5.2.2 q (by simp) y (by simp) z.symm
   ·exact n5.2.2 y (zae _ z) y (by simp) rfl
   ·exact(zam.mp n5.2.1).1 (ie.mpr z)
 cases O9:pa with
 |eU a b c d e f g=>
  rename_i o1 gS k sg l r c1 K8 Mo vl vr;refine main _ _ _ _ _ _ _ rfl rfl a b ?_ g;have n:=np _ _ rfl;have gr:∀y,y∈cW pl sc q jN K8->y∈cW pl sc p (q::jN) (.cx::K8)\/H y=none:=fun y hy=>.inl (n y hy).1;unfold dY.fill dO;rw[cF];exact Fix.tup d (fun z=>c (n _ z).1) (.cons .str (.cons .int (.cons .str (.cons (e.grow gr) (.cons (f.grow gr) (.cons (Fix.lst h.hp (fun z=>(n _ z).2.1 rfl) (h.fx.grow gr)) .nil))))))
 |if1 a b c d e f x g=>
  rename_i o1 gS k sg l r c1 b1 K8 Mo vl vr;refine main _ _ _ _ _ _ _ rfl rfl a b ?_ g;have n:=np _ _ rfl;have gr:∀y,y∈cW pl sc q jN K8->y∈cW pl sc p (q::jN) (.ref b1::K8)\/H y=none:=fun y hy=>.inl (n y hy).1;unfold dY.fill dO;rw[cF,cF];exact Fix.tup d (fun z=>c (n _ z).1) (.cons .str (.cons .int (.cons .str (.cons (e.grow gr) (.cons (f.grow gr) (.cons (Fix.lst h.hp (fun z=>(n _ z).2.1 rfl) (h.fx.grow gr)) (.cons (Fix.lst x (fun z=>(n _ z).2.2 rfl) .nil) .nil)))))))
 |if2 a b c d e f x g=>
  rename_i o1 gS k sg l r a1 c1 va K8 Mo vl vr;refine main _ _ _ _ _ _ _ rfl rfl a b ?_ g;have n:=np _ _ rfl;have gr:∀y,y∈cW pl sc q jN K8->y∈cW pl sc p (q::jN) (.cx::K8)\/H y=none:=fun y hy=>.inl (n y hy).1;unfold dY.fill dO;rw[cF,cF];exact Fix.tup d (fun z=>c (n _ z).1) (.cons .str (.cons .int (.cons .str (.cons (e.grow gr) (.cons (f.grow gr) (.cons (x.grow gr) (.cons (Fix.lst h.hp (fun z=>(n _ z).2.1 rfl) (h.fx.grow gr)) .nil)))))))
theorem jl.top{D:zdg->Prop}{v:V}{iI:List V}(h:jl K D H o p ps ss)(e:ss=v::iI)(n:v=.cx):uO o=false:=by
 subst e;cases h with
 |root=>rfl
 |eU=>rfl
 |if1=>cases n
 |if2=>rfl
end
section
variable{bs:List gF}{row kd x9 Ab:Int}{z z5 z6 z7 z9 qM:Zs}{o:List (List bq×dY)}{cur:List bq}{st:bq}{t6 t7:PM.Tr}
theorem B8(q:tk z 10=(kd,z5))(n1:¬(kd<3/\o.length<4))(n2:¬(kd=3/\uO o=true))(n3:¬(kd<5/\o≠[]))(hp:gE bs row z5=(st,z6)):nU bs row z (o,cur)=(o,cur++[st]):=by
 unfold nU;rw[q];dsimp only;rw[if_neg n1,if_neg n2,if_neg n3,hp]
theorem Hg(q:tk z 10=(kd,z5))(n1:¬(kd<3/\o.length<4))(n2:¬(kd=3/\uO o=true))(n3:kd<5/\o≠[]):nU bs row z (o,cur)=He (o,cur):=by
 unfold nU;rw[q];dsimp only;rw[if_neg n1,if_neg n2,if_pos n3]
theorem Hh(q:tk z 10=(kd,z5))(n1:¬(kd<3/\o.length<4))(n2:kd=3/\uO o=true):nU bs row z (o,cur)=((Q9 (o,cur)).1,[]):=by
 unfold nU;rw[q];dsimp only;rw[if_neg n1,if_pos n2]
 match o,n2.2 with
 |(st,.if1 k sg l r)::o,_=>rfl
theorem Hi(q:tk z 10=(kd,z5))(n1:kd<3/\o.length<4)(h6:eD bs z5=(t6,z6))(h7:fQ bs z6=(t7,z7))(h9:tk z7 2=(x9,z9))(Iq:tk z9 2=(Ab,qM)){ta tb:PM.Tr}(ha:(if x9=1 then t7 else t6)=ta)(hb:(if x9=1 then t6 else t7)=tb)(e:kd=1):nU bs row z (o,cur)=((cur,.eU row (O8 Ab) ta tb)::o,[]):=by
 unfold nU;rw[q];dsimp only;rw[if_pos n1];unfold Q8;dsimp only;rw[h6,h7,h9,Iq];dsimp only;rw[if_pos e,ha,hb]
theorem K9(q:tk z 10=(kd,z5))(n1:kd<3/\o.length<4)(h6:eD bs z5=(t6,z6))(h7:fQ bs z6=(t7,z7))(h9:tk z7 2=(x9,z9))(Iq:tk z9 2=(Ab,qM)){ta tb:PM.Tr}(ha:(if x9=1 then t7 else t6)=ta)(hb:(if x9=1 then t6 else t7)=tb)(e:kd≠1):nU bs row z (o,cur)=((cur,.if1 row (O8 Ab) ta tb)::o,[]):=by
 unfold nU;rw[q];dsimp only;rw[if_pos n1];unfold Q8;dsimp only;rw[h6,h7,h9,Iq];dsimp only;rw[if_neg e,ha,hb]
end
theorem La{α β γ:Type}(F:α->β->γ->Prop->Prop):∃X:α->β->γ->Prop,(∀a b c,(∀zq,F a b c zq->zq)->X a b c)/\∀a b c,X a b c->∀zq,F a b c zq->zq:=⟨fun a b c=>∀zq,F a b c zq->zq,fun _ _ _ h=>h,fun _ _ _ h=>h⟩
open PySem.Spec
section
variable{X:Cx}{k n:Nat}{f:zdg}{fd:zdp}{ps:List Str}{sp:Sp}{x:Str}{st:Stmt}{e:Expr}{es:List Expr}{t:TA}{te:TE}{p pos pos':Pos}
theorem dP(F:bB X.prog X.w X.K X.mg X.base dc k f fd ps sp)(D:cu X.K X.mg x st ps f fd)(hr:gQ n X.A)(ha:PA X (e::es) t)(h:k<=n:=by first |decide |omega)(hg:Gl X x:=by rfl)(IT:(x==("__debug__":Str))=false:=by decide)
 (he:zdm (e::es) X.env=(false,eval e X.env)::zdm es X.env:=by rfl) (mP:(backTo pos (zdm es X.env)).any (·.1)=false:=by rfl):PE X (.Call (.Name x p) (e::es) [] pos) (Be sp [] E0 t):=
 cA F (hr.mono h) hg D.m D.F.kp D.b .nil eA ha IT he mP
theorem eL(i:Nat)(hN:X.N.Nodup)(he:PE X e te)(hi:X.N[i]?=some x:=by rfl)(hx:Loc X.env.scope x:=by exact zaC rfl)(hs:swapsWith e (some (.Name x pos')) pos.line X.env=pure false:=by rfl)(hf:X.fn x=true\/X.env.scope.names.lookup x=some .local:=by first |exact .inl rfl |exact .inr rfl |assumption) :
 PS X (.Assign [.Name x pos'] e pos) (F5 te (eT i)):=cJ hN hi hx he hs hf
theorem xH(i:Nat)(hN:X.N.Nodup)(hi:X.N[i]?=some x:=by rfl)(hx:Loc X.env.scope x:=by exact zaC rfl)(hf:X.fn x=true\/X.env.scope.names.lookup x=some .local:=by first |exact .inl rfl |exact .inr rfl |assumption):PG X (.Name x pos) (eT i):=bC hN hi hx hf
theorem bw(i:Nat)(hr:PA X es t)(hN:X.N[i]?=some x:=by rfl)(hv:SW X.env.scope x:=by first |exact zaC rfl |exact zbP (zaC rfl) |exact zbP (zbP rfl))(hd:(x==("__debug__":Str))=false:=by decide)(C0:(x==("__classdict__":Str))=false:=by decide):PA X (.Name x pos::es) (vX (fT i) t):=ae (pv i hN hv hd C0) hr aJ
end
def Fw (K:zaa):R2:=fun x y H Q=>∃d es,Rep K H d x/\Rep K H (.lst es) y/\d.py.canLay0=true/\PyData.canLayAll0 (Dp.n9 es)=true/\d.py.depth<=60/\Q (.bl (!(Dp.n9 es).any fun e=>PyData.eqv e d.py)) H
theorem Hj{X:Cx}(hu:X.A.units+64<cLine):nZ X (compareOp .NotIn) (Fw X.K):=by
 intro pins s σ H x y v u Q I rx ry h;obtain⟨d,es,h1,h2,c1,c2,hd,q⟩:=h;obtain⟨as,ra⟩:=kj I h1 rx;obtain⟨bs,rb⟩:=kj I h2 ry;rw[show (Dp.lst es).py=PyData.list (Dp.n9 es) from by rw[Dp.py]] at rb;exact SeqAt.notIn_list_reads rb ra c2 c1 (by have:=zcm (PyData.depthAll (Dp.n9 es)) d.py.depth;lia) ⟨.bl _,H,I,rfl,q⟩
theorem NR{kvs:List (Key×V)}{vs:List (Key×zdh)}(r:KV kvs vs):kvs.map (·.1)=vs.map (·.1):=by
 unfold KV at r
 induction r with
 |nil=>rfl
 |cons h _ ih=>rw[zaq,zaq,h.1,ih]
def Rc (K:zaa):R2:=fun x y H Q=>∃l,Rep K H (.tup l) x/\Rep K H (.tup l) y/\(Dp.tup l).deep<=60/\Q (.bl true) H
theorem NS{X:Cx}(hu:X.A.units+64<cLine):nZ X (compareOp .Eq) (Rc X.K):=by
 intro pins s σ H x y v u Q I rx ry h;obtain⟨l,h1,h2,hd,q⟩:=h;rw[Rep.aX] at h1 h2;obtain⟨p,xs,rfl,q1,w1⟩:=h1;obtain⟨p',xs',rfl,q2,w2⟩:=h2;cases (show v=Value.ref p from rx);cases (show u=Value.ref p' from ry);obtain⟨its,v1,t1,_⟩:=I.tuple q1;obtain⟨its',v2,t2,_⟩:=I.tuple q2;unfold Dp.deep at hd;have items:=rO I w1 w2 v1 v2 (A:=X.A.in1) (by show X.A.units+1+_<_;lia);have n1:its.length=its'.length:=by rw[<- v1.length,<- v2.length,w1.length,w2.length]
 refine SeqAt.eq_tupleAt (e:=fun _=>true) t1 t2 (by lia) (fun j h1 h2=>items j its[j] its'[j] (by simp at h1;simp[h1]) (by simp at h2;simp[h2])) ?_;rw[all_true];have:(its.toArray.size==its'.toArray.size)=true:=by simp[n1]
 rw[this];exact⟨.bl true,H,I,rfl,q⟩
mutual
theorem Ut{nm:PM.W->Prop}{ex:PM.Tr->Prop}{sg:PM.W->Prop}(he:∀e,ex e->mL e<=2):∀s:bq,tj nm ex sg s->OkE s
 |.ask k b,h=>by simp only[tj] at h ⊢
 |.put k b e,h=>by simp only[tj] at h ⊢;exact⟨trivial,he _ h.2⟩
 |.say k e,h=>by simp only[tj] at h ⊢;exact he _ h
 |.bW k sg l r,h=>by simp only[tj] at h ⊢;exact⟨trivial,he _ h.2.1,he _ h.2.2⟩
 |.stop k,h=>by simp only[tj]
 |.ifs k sg l r a b,h=>by simp only[tj] at h ⊢;exact⟨trivial,he _ h.2.1,he _ h.2.2.1,B9 he a h.2.2.2.1,B9 he b h.2.2.2.2⟩
 |.eU k sg l r a,h=>by simp only[tj] at h ⊢;exact⟨trivial,he _ h.2.1,he _ h.2.2.1,B9 he a h.2.2.2⟩
theorem B9{nm:PM.W->Prop}{ex:PM.Tr->Prop}{sg:PM.W->Prop}(he:∀e,ex e->mL e<=2):∀b:List bq,vh nm ex sg b->T2 b
 |[],h=>by simp only[vh]
 |s::r,h=>by simp only[vh] at h ⊢;exact⟨Ut he s h.1,B9 he r h.2⟩
end
theorem NT{pr:PG.Prog}(dr:fW pr):(Dp.tup [.lst (pr.ax.map iJ),.lst (pr.body.map dO)]).deep<=60:=by
 have h1:=lZ _ (B9 (fun _ h=>h.2) _ dr.own);have h2:=dr.dep;have h3:=wt pr.ax;rw[cF] at h1;simp only[Dp.deep,Dp.gA];lia
end L2
namespace L2
open PG
open PySem PySem.Spec PyProof.Rows
section
variable{κ:Type}[DecidableEq κ]{J:KH κ}
theorem Fz.up{P:zds}{w:zdi}{K:zaa}{H H':Hp}{d:zdg}{kvs:List (κ×V)}{o:Obj}(f:Fz J P w K H d kvs o)(t:∀b ys,b8 K H b ys->b8 K H' b ys):Fz J P w K H' d kvs o:=by obtain⟨xs,h1,h2,h3⟩:=f.at_;exact⟨f.len,f.sys,xs,h1,h2.up t,h3⟩
def Uu (J:KH κ) (P:zds) (w:zdi) (K:zaa) (g:Bool->Bool):R2:=fun x y H Q=>∃(a b:zdg) (kvs:List (κ×V)) (k:κ) (o:Obj),x=.ref b/\y=.ref a/\H a=some (ff a o)/\Fz J P w K H a kvs o/\J.on K H k b/\Q (.bl (g (cE kvs k).isSome)) H
theorem Fx{X:Cx}{pins:List (zdg×Obj)}{σ:St}{H:Hp}{s:zdq}{a:zdg}{kvs:List (κ×V)}{o:Obj}(I:Inv X pins σ H s)(e:H a=some (ff a o))(f:Fz J X.prog X.w X.K H a kvs o):∃xs,s.heap.DictOfH (J.knd X.prog X.w) a xs/\KS J X.K H kvs xs:=by
 obtain⟨hg, -⟩:=(show cX X.prog X.w H s.heap a (ff a o) from I.cI a _ e)
 obtain⟨xs,h1,h2,h3⟩:=f.at_;obtain⟨o',es,ep,g1,g2,g3,g4⟩:=h1 s.heap hg;refine⟨xs,⟨o',es,ep,g1,g2,g3,g4,?_,h3⟩,h2⟩;clear h1 h3 g4 f
 induction h2 with
 |nil=>intro x hx;cases hx
 |@cons p q ps qs hq t ih=>
  intro x hx;rcases zag.mp hx with rfl |hx
  ·exact J.of I (hq.1▸hq.2.1)
  ·exact ih x hx
theorem Rf{X:Cx}{P:zds}{w:zdi}{K:zaa}(eP:X.prog=P)(ew:X.w=w)(eK:X.K=K)(hu:X.A.units+16<cLine):nZ X (compareOp .In) (Uu J P w K id):=by
 subst eP ew eK;intro pins s σ H x y v u Q I rx ry h;obtain⟨a,b,kvs,k,o,rfl,rfl,e,f,hk,q⟩:=h;cases rx;cases ry;obtain⟨xs,dd,ks⟩:=Fx I e f;refine wpAny_in_heap (knd:=J.knd X.prog X.w) (J.room hu) (J.of I hk) f.sys dd ?_;have z:=(ks.val k).lW;rw[zbS] at z;rw[<- z];exact⟨.bl _,H,I.tok _,rfl,q⟩
theorem Hk{X:Cx}{P:zds}{w:zdi}{K:zaa}(eP:X.prog=P)(ew:X.w=w)(eK:X.K=K)(hu:X.A.units+16<cLine):nZ X (compareOp .NotIn) (Uu J P w K (!·)):=by
 subst eP ew eK;intro pins s σ H x y v u Q I rx ry h;obtain⟨a,b,kvs,k,o,rfl,rfl,e,f,hk,q⟩:=h;cases rx;cases ry;obtain⟨xs,dd,ks⟩:=Fx I e f;refine zcz (knd:=J.knd X.prog X.w) (J.room hu) (J.of I hk) f.sys dd ?_;have z:=(ks.val k).lW;rw[zbS] at z;rw[<- z];exact⟨.bl _,H,I.tok _,rfl,q⟩
end
section
variable{κ:Type}[DecidableEq κ]
theorem Lb(kvs:List (κ×V))(k k':κ)(v:V):(cE (putK kvs k v) k').isSome=(decide (k=k') ||(cE kvs k').isSome):=by
 rw[<- je,<- je];unfold putK;by_cases h:(kvs.any fun kv=>decide (kv.1=k))=true
 ·rw[if_pos h];have:(kvs.map (fun kv=>if kv.1=k then (kv.1,v) else kv)).any (fun kv=>decide (kv.1=k'))=kvs.any fun kv=>decide (kv.1=k'):=by
   rw[List.any_map]
   congr 1
   funext kv
   show decide ((if kv.1=k then (kv.1,v) else kv).1=k')=_;split<;>rfl
  rw[this];by_cases e:k=k'
  ·subst e;rw[h,decide_eq_true rfl];rfl
  ·rw[decide_eq_false e];rfl
 ·rw[if_neg h,List.any_append,zbx,List.any_nil,zdb,Bool.or_comm]
end
section
variable{κ:Type}[DecidableEq κ]
theorem qN:∀(m kvs:List (κ×V)) (k:κ),(cE (jB kvs m) k).isSome=((m.any fun kv=>decide (kv.1=k)) ||(cE kvs k).isSome)
 |[],kvs,k=>rfl
 |x::m,kvs,k=>by
  show (cE (jB (putK kvs x.1 x.2) m) k).isSome=_;rw[qN m,Lb,zbx];cases (m.any fun kv=>decide (kv.1=k))<;>cases decide (x.1=k)<;>rfl
theorem Lc{kvs:List (κ×V)}{k:κ}{v:V}{kv:κ×V}(h:kv∈putK kvs k v):kv.1=k\/∃z∈kvs,z.1=kv.1:=by
 unfold putK at h;split at h
 ·obtain⟨z,hz,rfl⟩:=zau.mp h;refine .inr ⟨z,hz,?_⟩;show z.1=(if z.1=k then (z.1,v) else z).1;split<;>rfl
 ·rcases zah.mp h with h |h
  ·exact .inr ⟨kv,h,rfl⟩
  ·cases zap.mp h;exact .inl rfl
theorem wN:∀(m kvs:List (κ×V)) (kv:κ×V),kv∈jB kvs m->(∃z∈m,z.1=kv.1)\/∃z∈kvs,z.1=kv.1
 |[],kvs,kv,h=>.inr ⟨kv,h,rfl⟩
 |x::m,kvs,kv,h=>by
  rcases wN m (putK kvs x.1 x.2) kv h with ⟨z,hz,e⟩ |⟨z,hz,e⟩
  ·exact .inl ⟨z,zae _ hz,e⟩
  ·rcases Lc hz with e2 |⟨y,hy,e2⟩
   ·exact .inl ⟨x,zav ..,e2.symm.trans e⟩
   ·exact .inr ⟨y,hy,e2.trans e⟩
end
theorem Ld{X:Cx}{K:zaa}(h:X.K=K):nZ X (binaryOp .Add) (OY K):=h▸vD
open PySem.W
theorem Paired.Uv{α β:Type}{F:α->β->Prop}{l1:List α}{l2:List β}(r:Paired F l1 l2){i:Nat}{a:α}{b:β}(h1:l1[i]?=some a)(h2:l2[i]?=some b):F a b:=by
 induction r generalizing i with
 |nil=>cases h1
 |cons h _ ih=>
  cases i with
  |zero=>cases h1;cases h2;exact h
  |succ i=>exact ih h1 h2
def kI (kv:Int×V):Key×V:=(.inl kv.1,kv.2)
theorem Ca{ks:List Int}(h:ks.Pairwise (·<=·))(nd:ks.Nodup):ks.Pairwise (· < ·):=(h.and nd).imp fun ⟨a,b⟩=>by first|decide|omega
section
variable{X:Cx}
theorem Lf{A:zdr}{E:zdh->zdq->Prop}{prog:zds}{w:zdi}{s:zdq}{vs:List zdh}{ks:List Int}{Q:zdh->zdq->Prop}(ia:IntsAre vs ks)(h64:vs.length<64)
 (q:∀(h':Heap) (out:List zdh) (js:List Int) (e:Nat),(∀b o,s.heap.get? b=some o->h'.get? b=some o)->IntsAre out js->js.Perm ks->js.Pairwise (·<=·)->h'.get? s.heap.objs.size=some (seqObj "list" out.toArray e)->Q (.ref s.heap.objs.size) {s with heap:=h' }) :
 wpAny (model prog w) A (do let l <- newList vs;let _ <- holding [l] (call (.builtin "list.sort") [l] []);ret l) (fun fin s'=>∃v,fin=.done (.ret v)/\Q v s') E s:=by
 refine zdj (wpAny_newList ?_ (by rw[sizeLine_eq];omega));have g:(s.heap.push (seqObj "list" vs.toArray 0)).get? s.heap.objs.size=some (seqObj "list" vs.toArray 0):=Heap.get?_push_size _ rfl;refine zdj (zdl (wpAny_call_entry slot_list_sort ⟨_,g,rfl⟩ entry_list_sort (list_sort_tree g ia h64 fun out js a1 a2 a3=>⟨_,rfl,?_⟩) (args_list_sort _)));obtain⟨e,at_⟩:=sortedHeap_at (out:=out) g;refine zdk ⟨_,rfl,q _ out.toList js e (fun b o z=>?_) a1 a2 a3 (by simpa using at_)⟩;have lb:=Heap.lt_size z;rw[sortedHeap_old (zay lb) (by rw[size_push'];exact Nat.lt_succ_of_lt lb),Heap.get?_push_ne _ _ _ (zay lb)];exact z
theorem Cb{prog:zds}{w:zdi}{A:zdr}{E:zdh->zdq->Prop}{s:zdq}{T:String}{r d:zdg}{n:Nat}{P:Nat->zdh->Prop}{OK:Heap->Prop}{Q:List zdh->zdq->Prop}(K:PySem.W.KdlSrc prog w T r d n P OK)(hA:A.handled=none)(ok:OK s.heap)(hn:n<=zdo)
 (q:∀h' tk acc,(∀b o,s.heap.get? b=some o->h'.get? b=some o)->s.heap.objs.size<=h'.objs.size->ItemsOf P acc n->Q acc.toList {s with heap:=h',toks:=tk}):wpAny (model prog w) A (collect (.ref r)) Q E s:=by
 obtain⟨lr,ld⟩:=K.there _ ok;unfold collect;refine zdj (wpAny_runValue (codeAny_builtin entry_proto_collect' ?_));rw[Around.under_plainId PySem.F.plain_proto_collect _];show wpAny _ A.in1 (newList [] >>= fun l=>again (.builtin "list.__iadd__" ⟨[l,.ref r],[]⟩)) _ _ s;refine zdj (wpAny_newObj_type (zdk ⟨plainId_quiet zcQ _,codeAny_builtin entry_list_iadd' ?_⟩));rw[Around.under_plainId zcQ _];have g1:(s.heap.push {cls:=.type "list",data:=.seq ([]:List zdh).toArray}).get? s.heap.objs.size=some {cls:=.type "list",data:=.seq #[]}:=Heap.get?_push_size _ rfl;refine wpAny_mono (PySem.W.kdl_extend (s:={s with heap:=s.heap.push {cls:=.type "list",data:=.seq ([]:List zdh).toArray} }) (R:=fun r s'=>∃h' tk acc c,r=.ok (.ret (.ref s.heap.objs.size))/\s'={s with heap:=h',toks:=tk}/\(∀b o,s.heap.get? b=some o->h'.get? b=some o)/\h'.get? s.heap.objs.size=some {cls:=.type "list",dict:=none,data:=.seq acc c,slots:=#[]}/\ItemsOf P acc n)
  K hA (K.keep _ _ ok fun b _ o e=>Heap.get?_push_of_some _ e) s.heap.objs.size (zbK lr) (zbK ld) _ 0 g1 (fun h' tk acc c kp g ia=>⟨h',tk,acc,c,rfl,rfl,fun b o e=>kp b o (zay (Heap.lt_size e)) (Heap.get?_push_of_some _ e),g,ia⟩) hn) (fun fin s' x=>?_) fun e s' x=>?_
 ·have done:∀ {h' tk acc c},(∀b o,s.heap.get? b=some o->h'.get? b=some o)->h'.get? s.heap.objs.size=some {cls:=.type "list",dict:=none,data:=.seq acc c,slots:=#[]}->ItemsOf P acc n->wpAny (model prog w) A (do
   match (<- load s.heap.objs.size).data with
   |.seq xs _=>pure xs.toList
   |_=>unsupported "internal:collect") Q E {s with heap:=h',toks:=tk}:=by
   intro h' tk acc c kp g ia;exact zdj (wpAny_load g (zdk (q h' tk _ kp (zb6 (Heap.lt_size g)) ia)))
  cases fin with
  |done f=>
   obtain⟨h',tk,acc,c,e,rfl,kp,g,ia⟩:=x;cases e;exact done kp g ia
  |again c1=>
   refine⟨x.1,codeAny_mono x.2 fun r s2 z=>?_⟩;obtain⟨h',tk,acc,c,rfl,rfl,kp,g,ia⟩:=z;exact done kp g ia
 ·obtain⟨_,_,_,_,z,_⟩:=x;cases z
theorem Ac(hc:X.calm=true):jE X (.builtin "sorted") (fun xs H Q=>∃(d:zdg) (kvs:List (Int×V)),xs=[.ref d]/\H d=some (.dK (kvs.map kI))/\kvs.length<64/\∀(l:zdg) (ks:List Int),H l=none->ks.Pairwise (· < ·)->ks.Perm (kvs.map (·.1))->Q (.ref l) (upd H l (.lst (ks.map V.int)))):=by
 intro pins s σ H xs us Q I r h;obtain⟨d,kvs,rfl,hd,l64,q⟩:=h;obtain⟨u,rfl,ru⟩:=vals1 r;cases ru;have hA:X.A.handled=none:=I.ok.hd hc;obtain⟨z,sy,vs,rel,dd⟩:=Jj I.cI hd;obtain⟨ep,dat⟩:=dd.dictAt;have lv:vs.length=kvs.length:=by rw[<- rel.length,zac]
 have line:zdo=2 ^ 24:=rfl;have nd:(kvs.map (·.1)).Nodup:=by
  obtain⟨_,_,_,_,_,_,_,nd⟩:=id dat;rw[<- NR rel,zaQ] at nd;have e:(kvs.map ((fun x:Key×V=>x.1) ∘ kI))=(kvs.map (·.1)).map (Sum.inl:Int->Key):=by rw[zaQ];rfl
  rw[e] at nd;exact List.Pairwise.of_map (R:=(·≠·)) (S:=(·≠·)) _ (fun a b h z=>h (by rw[z])) nd
 refine Calls.call_function_entry kind_sorted plain_sorted entry_sorted (args_sorted1 _) ?_;unfold Builtin.«sorted»;refine zdj (m:=checkCount "sorted" 1 1 _) (zdk ?_);refine zdj (Cb (A:=X.A.in1) (PySem.W.kdl_dict (kvs:=vs) (ep:=ep) sy) hA dat (by lia) fun h' tk acc kp le ia=>?_);have ea:IntsAre acc.toList (kvs.map (·.1)):=by
  have key:∀(l:List zdh) (m:List Int),l.length=m.length->(∀(i:Nat) (v:zdh) (k:Int),l[i]?=some v->m[i]?=some k->∃t,v=.int k t)->IntsAre l m:=by
   intro l
   induction l with
   |nil=>
    intro m e _;cases m with
    |nil=>exact .nil
    |cons _ _=>cases e
   |cons v l ih=>
    intro m e h;cases m with
    |nil=>cases e
    |cons k m=>
     obtain⟨t,rfl⟩:=h 0 v k rfl rfl;exact .cons _ _ (ih m (by simpa using e) fun i v k e1 e2=>h (i+1) v k e1 e2)
  refine key _ _ (by rw[za0,ia.1,zac,lv]) fun i v k e1 e2=>?_;rw[zaN] at e1;obtain⟨k',x,h1,h2⟩:=ia.2 i v e1;rw[zar] at e2;obtain⟨kv,h3,rfl⟩:=zci.mp e2;obtain⟨h4,_⟩:=Paired.Uv rel (i:=i) (a:=kI kv) (b:=(k',x)) (by rw[zar,h3];rfl) h1;cases (show Sum.inl kv.1=k' from h4);rcases dh (show rz (.inl kv.1) v=true from h2) with ⟨j,t,e4,e5⟩ |⟨y,t,e4,e5⟩
  ·cases e4;exact⟨t,e5⟩
  ·cases e4
 refine Lf (s:={s with heap:=h',toks:=tk}) ea (by rw[IntsAre.length ea,zac];exact l64) fun h2 out is e YN i1 i2 i3 g=>?_;refine⟨.ref h'.objs.size,_,I.laid (t':=tk) (a:=h'.objs.size) (o:=.lst (is.map V.int)) (h':=h2) (fun b o z=>YN b o (kp b o z)) le (show cX X.prog X.w _ h2 _ (.lst (is.map V.int)) from ⟨by rw[zac,i2.length_eq,zac];lia,out,e,tN i1,by simpa[seqObj] using g⟩),rfl,q _ is (I.cI.fresh le) (Ca i3 (i2.nodup_iff.mpr nd)) i2⟩
end
theorem NU{X:Cx}:nZ X (compareOp .IsNot) (fun x y H Q=>∃a b,x=.bl a/\y=.bl b/\Q (.bl (!decide (a=b))) H):=by
 intro pins s σ H x y v u Q I rx ry h;obtain⟨a,b,rfl,rfl,q⟩:=h;cases rx;cases ry;refine wpAny_isNot_plain rfl (bY I q ?_);cases a<;>cases b<;>rfl
section
variable{X:Cx}{e:Expr}{te:TE}{lo hi:Option Expr}{st:Expr}{tl th ts:TO}{pos p2:Pos}
theorem yO{us:List V}{its:List zdh}(r:Vals us its):∀ix:List Nat,Vals (ix.filterMap (us[·]?)) (ix.filterMap (its.toArray[·]?)):=fun ix=>by
 induction ix with
 |nil=>exact .nil
 |cons i ix ih=>
  have l2:=r.length;by_cases hi:i<us.length
  ·have h2:i<its.length:=by lia
   have e1:us[i]?=some us[i]:=zad hi;have e2:its.toArray[i]?=some its[i]:=by simp[h2]
   rw[zbt e1,zbt e2];exact .cons (Paired.Uv r e1 (zad h2)) ih
  ·have e1:us[i]?=none:=za5 (by lia);have e2:its.toArray[i]?=none:=by simp;lia
   rw[zbu e1,zbu e2];exact ih
def Uw (K:zaa) (te:TE) (tl th ts:TO):TE:=fun σ H Q=>te σ H fun x H1=>tl σ H1 fun l H2=>th σ H2 fun u H3=>ts σ H3 fun z H4=>∃a us,x=.ref a/\gC K H4 a us/\z≠some 0/\
 ∀(p:zdg) (ix:List Nat),H4 p=none->(ix.filterMap (us[·]?)).length<=us.length->Q (.ref p) (upd H4 p (.lst (ix.filterMap (us[·]?))))
theorem Hl(he:PE X e te)(hl:PO X lo tl)(hu:PO X hi th)(hs:PO X (some st) ts):PE X (.Subscript e (.Slice lo hi (some st) p2) pos) (Uw X.K te tl th ts):=by
 intro pins s σ H Q I h;refine Subscript_ (dU (he pins s σ H _ I h) fun v s1 zqz=>?_);obtain⟨x,H1,I1,r1,q1⟩:=zqz;refine wpAny_Slice (dU (hl pins s1 σ H1 _ I1 q1) fun vl s2 zqz=>?_);obtain⟨l,H2,I2,pl,q2⟩:=zqz;refine dU (hu pins s2 σ H2 _ I2 q2) fun vu s3 zqz=>?_;obtain⟨u,H3,I3,pu,q3⟩:=zqz;refine dU (hs pins s3 σ H3 _ I3 q3) fun vs s4 zqz=>?_;obtain⟨z,H4,I4,ps,q4⟩:=zqz;obtain⟨a,us,rfl,ha,hz,q⟩:=q4;cases r1;have I5:Inv X pins σ H4 {s4 with heap:=s4.heap.push {cls:=.type "slice",data:=.fields #[vl,vu,vs]} }:=I4.kept (t':=s4.toks) fun b ob q=>Heap.get?_push_of_some _ q;obtain⟨its,r,ht,hsz⟩:=I5.list ha;have hlen:=r.length;refine tail_any (ops:=[.ref a,.ref s4.heap.objs.size]) ht.isList.typeIs slot_list_getitem.lookup ?_ (by with_unfolding_all rfl);refine wpAny_getItem_list_slice ht.isList (Heap.IsSliceOf.new ..) pl pu ps hz ?_ (by rw[zao]<;>lia);have le:=slicePick_size_le its.toArray l u z;unfold slicePick at le ⊢;generalize sliceRange _ _ _=ix at *;rw[zao,zao] at le;have vp:=yO r ix;have lv:=vp.length;exact⟨.ref _,_,I5.laid (t':=s4.toks) (o:=.lst (ix.filterMap (us[·]?))) (fun b ob q=>Heap.get?_push_of_some _ q) (zaj _) ⟨by lia,_,0,vp,Heap.get?_push_size _ rfl⟩,rfl,q _ ix (I5.cI.fresh (zaj _)) (by lia)⟩
end
theorem yP{κ:Type}[DecidableEq κ]:∀ {kvs:List (κ×V)} {k:κ} {v:V},cE kvs k=some v->(k,v)∈kvs
 |[],_,_,h=>by cases h
 |(a,b)::r,k,v,h=>by
  by_cases e:a=k
  ·rw[ck e] at h;cases h;rw[e];exact zav ..
  ·rw[cm e] at h;exact zae _ (yP h)
def DY (l:List bH):List (jA×V):=jB [] (l.map fun s=>(fX s,V.bl true))
theorem wO(l:List bH)(p:bH):(cE (DY l) (fX p)).isSome=decide (p∈l):=by
 rw[DY,qN];by_cases h:p∈l
 ·rw[decide_eq_true h,zcp.mpr ⟨_,zau.mpr ⟨p,h,rfl⟩,by simp⟩];rfl
 ·rw[decide_eq_false h,List.any_eq_false.mpr fun x hx=>?_]
  ·rfl
  ·obtain⟨y,hy,rfl⟩:=zau.mp hx;simp only[decide_eq_true_eq];exact fun e=>h (oI e▸hy)
theorem Cc{l:List bH}{kv:jA×V}(h:kv∈DY l):∃p∈l,kv.1=fX p:=by
 rcases wN _ _ _ h with ⟨z,hz,e⟩ |⟨z,hz,e⟩
 ·obtain⟨p,hp,rfl⟩:=zau.mp hz;exact⟨p,hp,e.symm⟩
 ·cases hz
theorem NV{l:List bH}{p:bH}(h:p∈l):∃kv∈DY l,kv.1=fX p:=by
 have e:=wO l p;rw[decide_eq_true h,zbL] at e;obtain⟨v,hv⟩:=e;exact⟨_,yP hv,rfl⟩
def yQ (pr:PG.Prog) (l:List bH) (s:bH):Bool:=(cL pr s).all fun x=>decide (x∈l)
def Hm (pr:PG.Prog) (t:Tg) (l:List bH) (s:bH):Bool:=!decide (t∈qJ pr s)&&yQ pr l s
def fh (pr:PG.Prog) (t:Tg) (l:List bH):Bool:=decide (oJ pr∈l)&&l.all fun s=>Hm pr t l s
def mv (pr:PG.Prog) (l:List bH):Bool:=decide (oJ pr∈l)&&l.all fun s=>yQ pr l s
def Hn (pr:PG.Prog) (t:Tg) (l:List bH):Bool:=l.any fun s=>decide (t∈qJ pr s)
theorem NW(pr:PG.Prog)(t:Tg)(l:List bH):fh pr t l=(mv pr l && !Hn pr t l):=by
 unfold fh mv Hn;rw[Bool.and_assoc]
 congr 1
 have e:(fun s=>Hm pr t l s)=fun s=>yQ pr l s && !decide (t∈qJ pr s):=by
  funext s
  unfold Hm;rw[Bool.and_comm]
 rw[e];clear e;generalize yQ pr l=f
 induction l with
 |nil=>rfl
 |cons a r ih=>
  rw[zcH,zcH,zbx,ih];cases f a<;>cases decide (t∈qJ pr a)<;>cases (r.all fun s=>f s)<;>simp
theorem all_false{l:List bH}{f:bH->Bool}{p:bH}(h:p∈l)(g:f p=false):l.all f=false:=by
 rw[List.all_eq_false];exact⟨p,h,by rw[g];exact zal⟩
theorem qO{pr:PG.Prog}{t:Tg}{l:List bH}{p:bH}(h:p∈l)(g:Hm pr t l p=false):fh pr t l=false:=by
 unfold fh;rw[all_false h g,zbV]
theorem DZ{pr:PG.Prog}{l:List bH}{p:bH}(h:p∈l)(g:yQ pr l p=false):mv pr l=false:=by
 unfold mv;rw[all_false h g,zbV]
theorem Lg{l:List bH}{f:bH->Bool}(h:∀kv∈DY l,∀p,kv.1=fX p->f p=true):l.all f=true:=by
 rw[zbj];intro p hp;obtain⟨kv,hk,e⟩:=NV hp;exact h kv hk p e
theorem Fy(pr:PG.Prog)(s:bH):(cL pr s).length<=10:=by
 unfold cL;split
 ·simp
 ·split
  ·simp
  ·cases (fM pr s.1 s.2 0).1<;>simp
structure mw(K:zaa)(H:Hp)(pa:zdg)(pr:PG.Prog)(l:List bH)(us:List V):Prop where
 at_:gC K H pa us
 gS:bF K H l us
 pS:∀s∈l,cR pr s
 pG:l.length<=1000000
theorem mw.mono{K:zaa}{H H':Hp}{pa:zdg}{pr:PG.Prog}{l:List bH}{us:List V}(h:mw K H pa pr l us)(s:aq H H'):mw K H' pa pr l us:=⟨s.seq h.at_,h.gS.mono s,h.pS,h.pG⟩
theorem bF.get{K:zaa}{H:Hp}{l:List bH}{us:List V}(h:bF K H l us){i:Nat}{v:V}(e:us[i]?=some v):∃p a,l[i]?=some p/\v=.ref a/\bQ K H a p.1 p.2:=by obtain⟨p,h1,a,h2,h3⟩:=dD h e;exact⟨p,a,h1,h2,h3⟩
structure vm(K:zaa)(H:Hp)(d:zdg)(pr:PG.Prog):Prop where
 at_:∃kvs:List (Int×V),H d=some (.dK (kvs.map kI))/\kvs.map (·.1)=(av pr.body).map (·.row)/\∀i (hi:i<(av pr.body).length) (hf:i<(aP pr.body 0).length),∃c ta y,cE (kvs.map kI) (.inl (av pr.body)[i].row)=some (.ref c)/\b8 K H c [.ref ta,.ref y]/\Rep K H (dO (av pr.body)[i]) (.ref ta)/\b8 K H y ((aP pr.body 0)[i].2.2.map V.int)
theorem vm.mono{K:zaa}{H H':Hp}{d:zdg}{pr:PG.Prog}(h:vm K H d pr)(s:aq H H'):vm K H' d pr:=by
 obtain⟨kvs,h1,h2,h3⟩:=h.at_;exact⟨⟨kvs,s _ _ h1,h2,fun i hi hf=>by obtain⟨c,ta,y,a,b,c',d'⟩:=h3 i hi hf;exact⟨c,ta,y,a,s.aZ b,c'.mono s,s.aZ d'⟩⟩⟩
structure Ho(P:zds)(w:zdi)(K:zaa)(H:Hp)(d:zdg)(pr:PG.Prog):Prop where
 at_:∃kvs,DS qH P w K H d kvs/\∀s,cR pr s->∃lb us,cE kvs (fX s)=some (.ref lb)/\gC K H lb us/\bF K H (cL pr s) us
theorem Ho.mono{P:zds}{w:zdi}{K:zaa}{H H':Hp}{d:zdg}{pr:PG.Prog}(h:Ho P w K H d pr)(s:aq H H'):Ho P w K H' d pr:=by
 obtain⟨kvs,h1,h2⟩:=h.at_;exact⟨⟨kvs,h1.mono s,fun x hx=>by obtain⟨lb,us,a,b,c⟩:=h2 x hx;exact⟨lb,us,a,s.seq b,c.mono s⟩⟩⟩
def NX (pr:PG.Prog):Tg->Prop
 |.row k=>k≠0
 |.side k _=>∃i,∃hi:i<(av pr.body).length,(av pr.body)[i].row=k/\((av pr.body)[i].wd=.ifs\/(av pr.body)[i].wd=.eU)
 |.bW k=>∃i,∃hi:i<(av pr.body).length,(av pr.body)[i].row=k/\(av pr.body)[i].wd=.bW
 |.fin=>True
section
variable(P:zds)(w:zdi)(K:zaa)(CC:zdg)
inductive Lh(vs:List V)(H:Hp)(Q:VK)(E:XK):Prop
 |mk (v tv:V) (pa:zdg) (pr:PG.Prog) (tg:Tg) (l:List bH) (us:List V):vs=[v,tv,.ref pa]->Rep K H (gD pr) v->fW pr->Rep K H (gR tg) tv->mw K H pa pr l us->(∀H',aq H H'->Q (.bl (fh pr tg l)) H')->Lh vs H Q E
inductive Li(vs:List V)(H:Hp)(Q:VK)(E:XK):Prop
 |mk (v:V) (pa d:zdg) (pr:PG.Prog) (l:List bH) (us:List V):vs=[v,.ref pa,.ref d]->Rep K H (gD pr) v->fW pr->mw K H pa pr l us->Ho P w K H d pr->(∀H',aq H H'->Q (.bl (mv pr l)) H')->Li vs H Q E
inductive Lj(vs:List V)(H:Hp)(Q:VK)(E:XK):Prop
 |mk (v:V) (d sa:zdg) (tv:V) (pr:PG.Prog) (s:bH) (tg:Tg):vs=[v,.ref d,.ref sa,tv]->Rep K H (gD pr) v->fW pr->vm K H d pr->bQ K H sa s.1 s.2->cR pr s->Rep K H (gR tg) tv->NX pr tg->(∀H',aq H H'->Q (.bl (decide (tg∈qJ pr s))) H')->Lj vs H Q E
inductive FC(vs:List V)(H:Hp)(Q:VK)(E:XK):Prop
 |mk (v:V) (d sa:zdg) (fv:V) (pr:PG.Prog) (s:bH) (f:Int):vs=[v,.ref d,.ref sa,fv]->Rep K H (gD pr) v->fW pr->vm K H d pr->bQ K H sa s.1 s.2->cR pr s->s.1≠0->(vj pr.body s.1=true->fv=.int f)->(∀v H',aq H H'->rW K H' (fM pr s.1 s.2 f).1 v->Q v H')->FC vs H Q E
inductive Lk(vs:List V)(H:Hp)(Q:VK)(E:XK):Prop
 |mk (v:V) (d sa:zdg) (pr:PG.Prog) (s:bH):vs=[v,.ref d,.ref sa]->Rep K H (gD pr) v->fW pr->vm K H d pr->bQ K H sa s.1 s.2->cR pr s->(∀l us H',aq H H'->H l=none->H' l=some (.lst us)->bF K H' (cL pr s) us->Q (.ref l) H')->Lk vs H Q E
inductive FD(vs:List V)(H:Hp)(Q:VK)(E:XK):Prop
 |mk (v:V) (d:zdg) (pr:PG.Prog):vs=[v,.ref d]->Rep K H (gD pr) v->fW pr->vm K H d pr->(av pr.body).length<=25->(iH (cN pr)).length<=16->(∀l ss us H',aq H H'->H l=none->H' l=some (.lst us)->bF K H' ss us->(∀s,s∈ss↔cR pr s)->ss.length<=1000->Q (.ref l) H')->FD vs H Q E
inductive Ll(vs:List V)(H:Hp)(Q:VK)(E:XK):Prop
 |mk (s pa wa:zdg) (z:Zs) (pr:PG.Prog) (l wh:List bH) (us ws:List V):vs=[.ref s,.ref pa,.ref wa]->rm H s z->mw K (wo H s) pa pr l us->mw K (wo H s) wa pr wh ws->wh≠[]->wh.length<=1000->l.length<=400000->(∀b l' pI H',bo s H H'->mw K (wo H' s) b pr l' pI->l'.length<=2*l.length+1000->Q (.ref b) H')->Ll vs H Q E
inductive FE(vs:List V)(H:Hp)(Q:VK)(E:XK):Prop
 |mk (v:V) (d pa bd:zdg) (turn:Int) (pr:PG.Prog) (l:List bH) (us:List V):vs=[v,.ref d,.ref pa,.ref bd,.int turn]->Rep K H (gD pr) v->fW pr->vm K H d pr->mw K H pa pr l us->Ho P w K H bd pr->(∀H',aq H H'->Q (.bl true) H')->FE vs H Q E
inductive Lm(vs:List V)(H:Hp)(Q:VK)(E:XK):Prop
 |mk (a:zdg) (ns:List Int):vs=[.ref a]->gC K H a (ns.map V.int)->(∀H',aq H H'->Q (.bl true) H')->Lm vs H Q E
end
end L2
namespace PG
def qP (r:cB):Prop:=(r.2.1=.ifs\/r.2.1=.eU)->r.2.2.length=2
mutual
theorem Hr:∀(s:bq) (x:Int),∀r∈dy s x,qP r
 |.ifs k sg l r a b,x,y,h=>by
  rw[dy] at h;simp only[zag,zah] at h;rcases h with rfl |h |h
  ·exact fun _=>rfl
  ·exact mx a x y h
  ·exact mx b x y h
 |.eU k sg l r a,x,y,h=>by
  rw[dy] at h;simp only[zag] at h;rcases h with rfl |h
  ·exact fun _=>rfl
  ·exact mx a k y h
 |.ask k _,x,y,h=>by simp[dy] at h;subst h;simp[qP]
 |.put k _ _,x,y,h=>by simp[dy] at h;subst h;simp[qP]
 |.say k _,x,y,h=>by simp[dy] at h;subst h;simp[qP]
 |.bW k _ _ _,x,y,h=>by simp[dy] at h;subst h;simp[qP]
 |.stop k,x,y,h=>by simp[dy] at h;subst h;simp[qP]
theorem mx:∀(b:List bq) (x:Int),∀r∈aP b x,qP r
 |[],x,y,h=>by simp[aP] at h
 |s::r,x,y,h=>by
  rw[aP,zah] at h;rcases h with h |h
  ·exact Hr s _ y h
  ·exact mx r x y h
end
end PG
namespace L2
open PG
open PySem PySem.Spec PyProof.Rows
theorem FF{sg:W}(h:sg=[60]\/sg=[61])(a b:Int):tK [V.bl (decide (a<b)),V.bl (decide (V.int a=V.int b))] (if decide (V.str (S sg)=V.str (zab "="))=true then 1 else 0)=some (V.bl (dC sg a b)):=by
 have eb:(V.str (S sg)=V.str (zab "="))↔sg=[61]:=by rw[show (zab "=":Str)=S [61] from rfl,V.str.injEq,pW]
 unfold dC;rcases h with rfl |rfl
 ·have f:decide (V.str (S [60])=V.str (zab "="))=false:=decide_eq_false (fun z=>by cases eb.mp z);rw[f,if_neg zal,if_pos rfl];exact au (j:=0) rfl
 ·have f:decide (V.str (S [61])=V.str (zab "="))=true:=decide_eq_true (eb.mpr rfl);rw[f,if_pos rfl,if_neg (show ¬([61]:W)=[60] by decide),show decide (V.int a=V.int b)=decide (a=b) from decide_eq_decide.mpr ⟨fun z=>V.int.inj z,fun z=>by rw[z]⟩];exact au (j:=1) rfl
theorem Ln{pr:PG.Prog}{s:bH}(h:s.1≠0):∃m,qJ pr s=.row s.1::m/\∀x∈m,x=.bW s.1\/∃b,x=.side s.1 b:=by
 unfold qJ;rw[if_neg h];cases nQ (rX pr.body s.1) with
 |none=>exact⟨[],rfl,fun x hx=>by cases hx⟩
 |some y=>
  obtain⟨sg,l,r⟩:=y;dsimp only;by_cases e:(rX pr.body s.1).wd=.bW
  ·rw[if_pos e];by_cases c:dC sg (wv pr.ax s.2 l) (wv pr.ax s.2 r)=true
   ·rw[if_pos c];exact⟨[],rfl,fun x hx=>by cases hx⟩
   ·rw[if_neg c];exact⟨_,rfl,fun x hx=>.inl (zap.mp hx)⟩
  ·rw[if_neg e];exact⟨_,rfl,fun x hx=>.inr ⟨_,zap.mp hx⟩⟩
theorem NY(pr:PG.Prog)(s:bH):decide (Tg.fin∈qJ pr s)=decide (s.1=0):=by
 refine decide_eq_decide.mpr ⟨fun h=>?_,fun h=>by unfold qJ;rw[if_pos h];simp⟩;by_cases n:s.1=0
 ·exact n
 obtain⟨m,e,hm⟩:=Ln (pr:=pr) n;rw[e] at h;rcases zag.mp h with z |z
 ·cases z
 ·rcases hm _ z with z |⟨b,z⟩<;>cases z
theorem Ae(pr:PG.Prog)(s:bH){k:Int}(hk:k≠0):decide (Tg.row k∈qJ pr s)=decide (s.1=k):=by
 by_cases n:s.1=0
 ·unfold qJ;rw[if_pos n,n];simp[Ne.symm hk]
 obtain⟨m,e,hm⟩:=Ln (pr:=pr) n;rw[e];refine decide_eq_decide.mpr ⟨fun h=>?_,fun h=>by rw[h];exact zav ..⟩;rcases zag.mp h with z |z
 ·cases z;rfl
 ·rcases hm _ z with z |⟨b,z⟩<;>cases z
theorem Af(pr:PG.Prog)(s:bH){tg:Tg}{k:Int}(hk:tg=.bW k\/∃b,tg=.side k b)(n:s.1≠k):decide (tg∈qJ pr s)=false:=by
 refine decide_eq_false fun h=>?_;by_cases n0:s.1=0
 ·unfold qJ at h;rw[if_pos n0] at h;have h:=zap.mp h;rcases hk with z |⟨b,z⟩<;>(rw[z] at h;cases h)
 obtain⟨m,e,hm⟩:=Ln (pr:=pr) n0;rw[e] at h;rcases zag.mp h with z |z
 ·rcases hk with y |⟨b,y⟩<;>(rw[y] at z;cases z)
 ·rcases hm _ z with z |⟨b,z⟩<;>rcases hk with y |⟨b',y⟩<;>(rw[y] at z;cases z)<;>exact n rfl
theorem Lo{pr:PG.Prog}(ok:xF pr){i:Nat}(hi:i<(av pr.body).length){vals:List Int}{sg:W}{l r:PM.Tr}(c:nQ (av pr.body)[i]=some (sg,l,r)) :
 (∀b,(av pr.body)[i].wd≠.bW->decide (Tg.side (av pr.body)[i].row b∈qJ pr ((av pr.body)[i].row,vals))=decide (dC sg (wv pr.ax vals l) (wv pr.ax vals r)=b))/\
 ((av pr.body)[i].wd=.bW->decide (Tg.bW (av pr.body)[i].row∈qJ pr ((av pr.body)[i].row,vals))=decide (dC sg (wv pr.ax vals l) (wv pr.ax vals r)=false)):=by
 have n0:(av pr.body)[i].row≠0:=by have:=ok.pos _ (zat hi);lia
 unfold qJ;simp only[if_neg n0,fN ok.pw i hi,c];refine⟨fun b n=>?_,fun n=>?_⟩
 ·rw[if_neg n];refine decide_eq_decide.mpr ⟨fun h=>?_,fun h=>by rw[h];simp⟩;have h:b=dC sg (wv pr.ax vals l) (wv pr.ax vals r):=by simpa using h
  exact h.symm
 ·rw[if_pos n];cases dC sg (wv pr.ax vals l) (wv pr.ax vals r)<;>simp
theorem j9{K:zaa}{a D:zdg}{xs:List V}{g:TG}{tc:TT}{te:TE}{Q:VK}{τ0:St}{H:Hp}(G:St->Prop)(Pv:Nat->List V->Hp->Prop)(hS:gC K H a xs)
 (hl:xs.length<=16000000) (hD:H D=none) (g0:G τ0) (h0:Pv 0 [] (upd H D (.lst [])))
 (step:∀i x ys τ H2,xs[i]?=some x->G τ->aq H H2->H2 D=some (.lst ys)->ys.length<=i->Pv i ys H2->∀R:St->Bool->Hp->Prop,(∀τ' H3 b,G τ'->aq H2 H3->(b=false->Pv (i+1) ys H3)->(b=true->∀R':VK,(∀v H4,aq H3 H4->Pv (i+1) (ys++[v]) (upd H4 D (.lst (ys++[v])))->R' v H4)->te τ' H3 R')->R τ' b H3)->g x τ H2 fun τ' H'=>tc τ' H' (R τ'))
 (q:∀ys H2,aq H H2->H2 D=some (.lst ys)->ys.length<=xs.length->Pv xs.length ys H2->Q (.ref D) H2):uI (F9 K a) D g tc te Q τ0 (upd H D (.lst [])):=by
 refine⟨fun i m τ H2=>m=xs.length-i/\i<=xs.length/\G τ/\aq H H2/\∃ys,H2 D=some (.lst ys)/\ys.length<=i/\Pv i ys H2,⟨xs.length,by simp,za2 _,g0,aq.new hD _,[],ah,zaj _,h0⟩,?_⟩
 rintro i m τ H2 ⟨rfl,hi,gt,s2,ys,h2,ly,p2⟩
 by_cases rj:i<xs.length
 ·refine .inr ⟨⟨xs,xs[i],s2.seq hS,by simp[rj]⟩,fun τ' H'=>G τ'/\aq H H'/\∃ys,H' D=some (.lst ys)/\ys.length<=i+1/\Pv (i+1) ys H',fun τ' H' ⟨h1,h3,h4⟩=>⟨xs.length-(i+1),by lia,rfl,rj,h1,h3,h4⟩,fun y H' hy=>?_⟩;obtain⟨rfl,hy⟩:=hy;have ey:=hy _ (s2.seq hS);refine step i y ys τ _ ey gt s2 h2 ly p2 (fun τ' b H3=>_) fun τ' H3 b Ws s3 hf ht=>?_;cases b with
  |false=>
   rw[if_neg (by decide)];exact⟨Ws,s2.trans s3,ys,s3 _ _ h2,by lia,hf rfl⟩
  |true=>
   rw[if_pos rfl];refine ht rfl _ fun v H4 s4 p4=>⟨ys,s4 _ _ (s3 _ _ h2),?_,Ws,?_,ys++[v],ah,by rw[zai,zax];lia,p4⟩
   ·have:zdo=2 ^ 24:=rfl;lia
   ·intro b o e;rw[aw (az e hD)];exact s4 _ _ (s3 _ _ (s2 _ _ e))
 ·have e:i=xs.length:=by lia
  subst e;exact .inl ⟨⟨xs,s2.seq hS,zaj _⟩,q ys H2 s2 h2 ly p2⟩
theorem bF.put{K:zaa}{H:Hp}{l:List bH}{us ys:List V}{D:zdg}(h:bF K H l us)(yD:H D=some (.lst ys))(o:HO):bF K (upd H D o) l us:=jO h fun _ _ _ h=>h.upL yD ((bo.refl D H).put _)
theorem wQ:∀(ss vs:List Int) (s n:Int),PG.j8 (ss++[s]) (vs++[n])↔PG.j8 ss vs/\0<=n/\n<s
 |[],[],s,n=>by simp[PG.j8]
 |[],v::vs,s,n=>by cases vs<;>simp[PG.j8]
 |a::ss,[],s,n=>by cases ss<;>simp[PG.j8]
 |a::ss,v::vs,s,n=>by
  rw[zbi,zbi,PG.j8,PG.j8,wQ ss vs s n,<- and_assoc]
theorem NZ:∀(ss:List Int) (s:Int) (w:List Int),PG.j8 (ss++[s]) w->∃v n,w=v++[n]:=fun ss s w h=>by
 rcases List.eq_nil_or_concat w with rfl |⟨v,n,rfl⟩
 ·cases ss<;>simp[PG.j8] at h
 ·exact⟨v,n,by simp⟩
theorem Ag:∀ {ss vs:List Int},PG.j8 ss vs->vs.length=ss.length
 |[],[],_=>rfl
 |[],_::_,h=>by cases h
 |_::_,[],h=>by cases h
 |_::ss,_::vs,h=>by rw[zaf,zaf,Ag h.2]
theorem yR:∀ {ss vs:List Int},PG.j8 ss vs->(∀s∈ss,s<=10)->∀v∈vs,v.natAbs<=2 ^ 12
 |[],[],_,_,v,hv=>by cases hv
 |[],_::_,h,_,_,_=>by cases h
 |_::_,[],h,_,_,_=>by cases h
 |s::ss,x::vs,h,b,v,hv=>by
  rcases zag.mp hv with rfl |hv
  ·have:=b s (zav ..);have:=h.1;lia
  ·exact yR h.2 (fun s hs=>b s (zae _ hs)) v hv
def N0 (acc:List (List Int)) (n:Nat):List (List Int):=acc.flatMap fun v=>(zaF n).map fun (k:Nat)=>v++[(k:Int)]
theorem N1{acc:List (List Int)}{ss:List Int}(h:∀vs,vs∈acc↔PG.j8 ss vs)(s:Int)(vs:List Int):vs∈N0 acc s.toNat↔PG.j8 (ss++[s]) vs:=by
 unfold N0;rw[zbA]
 constructor
 ·rintro ⟨v,hv,hk⟩
  obtain⟨k,hk2,rfl⟩:=zau.mp hk;rw[zbd] at hk2;exact(wQ _ _ _ _).mpr ⟨(h v).mp hv,by lia,by lia⟩
 ·intro hv;obtain⟨v,n,rfl⟩:=NZ _ _ _ hv;obtain⟨h1,h2,h3⟩:=(wQ _ _ _ _).mp hv;exact⟨v,(h v).mpr h1,zau.mpr ⟨n.toNat,zbd.mpr (by lia),by rw[zb2 h2]⟩⟩
theorem FG(acc:List (List Int))(n:Nat):(N0 acc n).length=acc.length*n:=by
 unfold N0
 induction acc with
 |nil=>simp
 |cons a r ih=>rw[zbT,zai,ih];simp[zcu,zcv]
theorem pJ:∀(l:List Int) (s:Int),(iH (l++[s])).length=(iH l).length*s.toNat
 |[],s=>by rw[zaX,ky];simp[iH]
 |a::l,s=>by rw[zbi,ky,ky,pJ l s,Nat.mul_assoc]
theorem FI:∀(l m:List Int),(∀s∈m,1<=s)->(iH l).length<=(iH (l++m)).length
 |l,[],_=>by rw[zaO];exact zaj _
 |l,s::m,h=>by
  have h1:=FI (l++[s]) m fun x hx=>h x (zae _ hx);rw[zaW,List.singleton_append] at h1;refine zaA ?_ h1;rw[pJ];exact zcP _ (by have:=h s (zav ..);lia)
theorem cR.of{pr:PG.Prog}(d:fW pr){s:bH}(hr:s.1=0\/s.1∈(av pr.body).map (·.row))(h:PG.j8 (cN pr) s.2):cR pr s:=by
 refine⟨⟨?_,?_,?_⟩,h⟩
 ·rcases hr with e |e
  ·exact .inl e
  ·obtain⟨x,hx,e⟩:=zau.mp e;obtain⟨i,hi,rfl⟩:=zbb.mp hx;exact .inr ⟨i,hi,e⟩
 ·rw[Ag h,cN,zac]
 ·refine yR h fun x hx=>?_;obtain⟨b,hb,rfl⟩:=zau.mp hx;exact(d.size b hb).2.1
theorem cR.YW{pr:PG.Prog}{s:bH}(h:cR pr s):s.1=0\/s.1∈(av pr.body).map (·.row):=by
 rcases h.ok.row with e |⟨i,hi,e⟩
 ·exact .inl e
 ·exact .inr (zau.mpr ⟨_,zat hi,e⟩)
def sD (K:zaa) (H:Hp) (l:List (List Int)) (us:List V):Prop:=Paired (fun (s:List Int) v=>∃a,v=.ref a/\b8 K H a (s.map V.int)) l us
theorem sD.mono{K:zaa}{H H':Hp}{l:List (List Int)}{us:List V}(h:sD K H l us)(s:aq H H'):sD K H' l us:=Paired.uZ h fun _ _ ⟨a,e,q⟩=>⟨a,e,s.aZ q⟩
theorem sD.put{K:zaa}{H:Hp}{l:List (List Int)}{us ys:List V}{D:zdg}(h:sD K H l us)(yD:H D=some (.lst ys))(o:HO):sD K (upd H D o) l us:=Paired.uZ h fun _ _ ⟨a,e,q⟩=>⟨a,e,q.pR yD ((bo.refl D H).put _)⟩
theorem sD.get{K:zaa}{H:Hp}{l:List (List Int)}{us:List V}(h:sD K H l us){i:Nat}{v:V}(e:us[i]?=some v):∃p a,l[i]?=some p/\v=.ref a/\b8 K H a (p.map V.int):=by obtain⟨p,h1,a,h2,h3⟩:=dD h e;exact⟨p,a,h1,h2,h3⟩
theorem kz{X:Cx}{K:zaa}(h:X.K=K):R7 X (Tw K):=h▸rJ
theorem wR{X:Cx}{K:zaa}(h:X.K=K)(hu:X.A.units+64<cLine):nZ X (compareOp .NotIn) (Fw K):=h▸Hj hu
def Ux (K:zaa):R2:=fun x y H Q=>∃l b xs zs,x=.ref l/\y=.ref b/\gC K H l xs/\gC K H b zs/\xs.length+zs.length<=8000000/\∀p,H p=none->Q (.ref p) (upd H p (.lst (xs++zs)))
theorem vK{X:Cx}:nZ X (binaryOp .Add) (Ux X.K):=by
 intro pins s σ H x y v u Q I rx ry h;obtain⟨l,b,xs,zs,rfl,rfl,hH,hB,hz,q⟩:=h;cases rx;cases ry;obtain⟨its,r,⟨o,n,e,c1,_,d1⟩,_⟩:=I.list hH;obtain⟨nX,r2,⟨o2,n2,e2,c2,_,d2⟩,_⟩:=I.list hB;have hl:=r.length;have Jc:=r2.length;have line:zdo=2 ^ 24:=rfl;refine concat_meets ⟨_,e,c1⟩ ⟨_,e2,c2⟩ noFill_list_add seq_list_add F.slot_list_add F.entry_list_add (F.args_list_add_2 _ _) (NL c1 d1 c2 d2 (by rw[zao,zao];lia)) ⟨⟨e,e2⟩,?_⟩;have ea:its.toArray++nX.toArray=(its++nX).toArray:=by simp
 rw[ea];exact⟨.ref _,_,I.Qs (t':=s.toks) (r.append r2) (by rw[zai];lia),rfl,q _ I.fresh⟩
theorem FJ{K:zaa}{H:Hp}{a:zdg}{s:bH}(h:bQ K H a s.1 s.2):Rep K H (nT s) (.ref a):=by
 have:=mn (g:=[s]) (us:=[.ref a]) (.cons ⟨a,rfl,h⟩ .nil);exact(aI.aB.mp this).elim fun v ⟨r,e,h,_⟩=>by cases e;exact h
theorem vL(s:bH):(nT s).py.canLay0=true/\(nT s).py.depth<=60:=by
 have:=sk [s];simp only[zaq,zaP,Dp.n9,PyData.canLayAll0,PyData.depthAll,zck] at this;exact⟨this.1,by lia⟩
theorem Cd{α β:Type}{R:α->β->Prop}{as:List α}{us:List β}(h:Paired R as us):∀n,Paired R (as.drop n) (us.drop n):=by
 induction h with
 |nil=>intro n;rw[List.drop_nil,List.drop_nil];exact .nil
 |cons h t ih=>
  intro n;cases n with
  |zero=>exact .cons h t
  |succ n=>exact ih n
theorem Ce{α β:Type}{R:α->β->Prop}{as:List α}{us:List β}(h:Paired R as us):∀n,Paired R (as.take n) (us.take n):=by
 induction h with
 |nil=>intro n;rw[zdc,zdc];exact .nil
 |cons h t ih=>
  intro n;cases n with
  |zero=>exact .nil
  |succ n=>exact .cons h (ih n)
theorem mX{K:zaa}{H:Hp}{l:List bH}{us:List V}(h:bF K H l us)(lo hi:Option Int):∃l',bF K H l' (iF us lo hi)/\(∀s∈l',s∈l)/\l'.length<=l.length:=by
 unfold iF;refine⟨_,Ce (Cd h _) _,fun s hs=>zc9 (zbI hs),?_⟩;rw[zbh,zby];lia
theorem Lp{K:zaa}{H:Hp}{l:List bH}{us:List V}(h:bF K H l us)(ix:List Nat):∃l',bF K H l' (ix.filterMap (us[·]?))/\∀s∈l',s∈l:=by
 induction ix with
 |nil=>exact⟨[],.nil,fun s hs=>by cases hs⟩
 |cons i ix ih=>
  obtain⟨l',h1,h2⟩:=ih;cases e:us[i]? with
  |none=>rw[zbu e];exact⟨l',h1,h2⟩
  |some v=>
   obtain⟨p,a,ep,rfl,st⟩:=h.get e;rw[zbt e];exact⟨p::l',.cons ⟨a,rfl,st⟩ h1,fun s hs=>(zag.mp hs).elim (fun z=>by rw[z];exact zaz ep) (h2 s)⟩
theorem Lq{H H':Hp}{s:zdg}(u:bo s H H'):aq (wo H s) (wo H' s):=fun b o e=>by
 by_cases n:b=s
 ·rw[n,ic] at e;cases e
 ·rw[cV n] at e ⊢;exact u _ _ n e
def bu (size first value:Int):PG.Prog:=⟨[⟨[100,111,111,114],size,first⟩],[.ask 2 [100,111,111,114],.ifs 3 [61] (.box [100,111,111,114]) (.num value) [.say 4 (.num 1)] [],.say 6 (.box [100,111,111,114])]⟩
theorem oK(size first value:Int):av (bu size first value).body=[.ask 2 [100,111,111,114],.ifs 3 [61] (.box [100,111,111,114]) (.num value) [.say 4 (.num 1)] [],.say 4 (.num 1),.say 6 (.box [100,111,111,114])]:=rfl
theorem Hs(size first value:Int):aP (bu size first value).body 0=[(2,.ask,[3]),(3,.ifs,[4,6]),(4,.say,[6]),(6,.say,[0])]:=rfl
theorem FK(size first n:Int):wv [⟨[100,111,111,114],size,first⟩] [n] (.box [100,111,111,114])=n:=by
 unfold wv;simp[bX,wB,cw,cE]
theorem N2{size first value:Int}(h1:8<=size)(h2:size<=10)(h3:0<=first)(h4:first<size)(h5:0<=value)(h6:value<=10):fW (bu size first value):=by
 refine⟨⟨?_,by simp[bu],by simp[bu],?_⟩,?_,?_,?_,?_⟩
 ·rw[oK];simp[bq.row]
 ·rw[oK];simp[bq.row]
 ·show _<=4;simp[bu,fU,kM]
 ·simp[bu,cU,gB]
 ·simp[bu,vh,tj,kP,mL,CN];lia
 ·intro b hb;rw[zap.mp hb];exact⟨by show 2<=size;lia,h2,h3,h4⟩
section
variable{size first value:Int}(d:fW (bu size first value))
include d
theorem Ah(i:Nat)(hi:i<4)(vals:List Int)(f:Int):fM (bu size first value) ((av (bu size first value).body)[i]'(by rw[oK];exact hi)).row vals f=ko (bu size first value).ax ((av (bu size first value).body)[i]'(by rw[oK];exact hi)) ((aP (bu size first value).body 0)[i]'(by rw[Hs];exact hi)).2.2 vals f:=wC d.ok _ _ vals f
theorem yS(x:Int):cL (bu size first value) (2,[x])=(zaF 10).map fun (f:Nat)=>(3,[(f:Int)%size]):=by
 unfold cL;rw[if_neg (show ¬(2:Int)=0 by decide),if_pos (by unfold vj;rw[show rX (bu size first value).body 2=_ from fN d.ok.pw 0 (show 0<4 by decide)];exact decide_eq_true rfl)];refine List.map_congr_left fun f _=>?_;rw[show fM (bu size first value) 2 [x] (f:Int)=_ from Ah d 0 (by decide) [x] f];show ((3:Int),[x].set ((List.map (·.name) (bu size first value).ax).idxOf [100,111,111,114]) (_%_))=_;simp[bu,eC,dq]
theorem Ht(n:Int):cL (bu size first value) (3,[n])=if n=value then [(4,[n])] else [(6,[n])]:=by
 unfold cL;rw[if_neg (show ¬(3:Int)=0 by decide),if_neg (by unfold vj;rw[show rX (bu size first value).body 3=_ from fN d.ok.pw 1 (show 1<4 by decide)];exact of_decide_eq_false rfl)];rw[show fM (bu size first value) 3 [n] 0=_ from Ah d 1 (by decide) [n] 0];show (fV (bu size first value).ax (.ifs 3 [61] (.box [100,111,111,114]) (.num value) [.say 4 (.num 1)] []) [4,6] [n]).toList=_;have e:dC [61] (wv (bu size first value).ax [n] (.box [100,111,111,114])) (wv (bu size first value).ax [n] (.num value))=decide (n=value):=by
  show dC [61] (wv [⟨[100,111,111,114],size,first⟩] [n] (.box [100,111,111,114])) value=_;rw[FK];rfl
 unfold fV;show ((if dC [61] (wv (bu size first value).ax [n] (.box [100,111,111,114])) (wv (bu size first value).ax [n] (.num value))=true then some (4,[n]) else if Wd.ifs=Wd.bW then none else some (6,[n])):Option bH).toList=_;rw[e];by_cases h:n=value
 ·rw[if_pos (decide_eq_true h),if_pos h];rfl
 ·rw[if_neg (by rw[decide_eq_false h];decide),if_neg h];rfl
theorem HH(n:Int):cL (bu size first value) (6,[n])=[(0,[n])]:=by
 unfold cL;rw[if_neg (show ¬(6:Int)=0 by decide),if_neg (by unfold vj;rw[show rX (bu size first value).body 6=_ from fN d.ok.pw 3 (show 3<4 by decide)];exact of_decide_eq_false rfl)];rw[show fM (bu size first value) 6 [n] 0=_ from Ah d 3 (by decide) [n] 0];rfl
theorem HI(n:Int):cL (bu size first value) (0,[n])=[]:=if_pos rfl
theorem my(s:bH):Tg.row 4∈qJ (bu size first value) s↔s.1=4:=decide_eq_decide.mp (Ae _ s (by decide))
theorem yT(n:Int):Tg.side 3 true∈qJ (bu size first value) (3,[n])↔n=value:=by
 have:=(Lo (vals:=[n]) d.ok (i:=1) (show 1<4 by decide) (sg:=[61]) (l:=.box [100,111,111,114]) (r:=.num value) rfl).1 true (by intro z;cases z);refine(decide_eq_decide.mp this).trans ?_;show dC [61] (wv [⟨[100,111,111,114],size,first⟩] [n] (.box [100,111,111,114])) value=true↔_;rw[FK];exact decide_eq_true_iff
theorem wU(s:bH)(h:s.1≠3):Tg.side 3 true ∉ qJ (bu size first value) s:=of_decide_eq_false (Af _ s (.inr ⟨true,rfl⟩) h)
end
def dn (n:Int):List bH:=[(3,[n]),(6,[n]),(0,[n])]
def mz (first goal:Int) (i:Nat):List bH:=(2,[first])::((zaF i).filter fun (n:Nat)=>decide ((n:Int)≠goal)).flatMap fun (n:Nat)=>dn n
theorem wV(first goal:Int)(i:Nat)(s:bH):s∈mz first goal i↔s=(2,[first])\/∃n:Nat,n<i/\(n:Int)≠goal/\s∈dn n:=by
 unfold mz;rw[zag,zbA];simp only[zcR,zbd,decide_eq_true_eq,and_assoc]
theorem HJ(first goal:Int)(i:Nat):mz first goal (i+1)=mz first goal i++(if (i:Int)≠goal then dn i else []):=by
 unfold mz;rw[zbs,List.filter_append,za1,zbi]
 congr 2
 by_cases h:(i:Int)=goal
 ·simp[h]
 ·simp[h]
theorem D0{pr:PG.Prog}{t:Tg}{l m:List bH}(h:∀s,s∈l↔s∈m):fh pr t l=fh pr t m:=by
 have e:(fun x=>decide (x∈l))=fun x=>decide (x∈m):=funext fun x=>decide_eq_decide.mpr (h x);have k:fh pr t l=true↔fh pr t m=true:=by
  unfold fh Hm yQ;simp only[e,zba,decide_eq_true_eq,zbj,h]
 exact Bool.eq_iff_iff.mpr k
theorem qQ{n:Int}{s:bH}:s∈dn n↔s=(3,[n])\/s=(6,[n])\/s=(0,[n]):=by simp[dn]
theorem Uz{pr:PG.Prog}{t:Tg}{l:List bH}{p:bH}(h:p∈l)(g:t∈qJ pr p):fh pr t l=false:=qO h (by unfold Hm;rw[decide_eq_true g];rfl)
theorem Rg{N g:Nat}{first value:Int}(d:fW (bu N first value))(hN:N<=10)(hg:g<N):fh (bu N first value) (.row 4) (mz first g N)=false:=by
 refine qO (p:=(2,[first])) (zav ..) ?_;unfold Hm;rw[show yQ (bu N first value) (mz first g N) (2,[first])=false by
  unfold yQ;rw[yS d];refine all_false (p:=(3,[(g:Int)])) (zau.mpr ⟨g,zbd.mpr (by lia),?_⟩) (decide_eq_false fun h=>?_)
  ·rw[Int.emod_eq_of_lt (by lia) (by lia)]
  ·rcases(wV _ _ _ _).mp h with h |⟨n,_,hn,h⟩
   ·cases h
   ·rcases qQ.mp h with h |h |h<;>simp at h
    exact hn h.symm,zbV]
theorem Rh{N:Nat}{first:Int}(d:fW (bu N first N))(hN:N<=10)(h0:0<N){l:List bH}(hl:∀s,s∈l↔s=(2,[first])\/∃n:Nat,n<N/\s∈dn n):fh (bu N first N) (.row 4) l=true/\fh (bu N first N) (.side 3 true) l=true:=by
 have hf:decide (oJ (bu N first N)∈l)=true:=decide_eq_true ((hl _).mpr (.inl rfl));have key:∀s∈l,yQ (bu N first N) l s=true/\Tg.row 4 ∉ qJ (bu N first N) s/\Tg.side 3 true ∉ qJ (bu N first N) s:=by
  intro s hs;have cl:∀ {m:List bH},(∀x∈m,x∈l)->m.all (fun x=>decide (x∈l))=true:=fun h=>zbj.mpr fun x hx=>decide_eq_true (h x hx);rcases(hl s).mp hs with rfl |⟨n,hn,h⟩
  ·refine⟨?_,fun z=>absurd ((my d _).mp z) (by show ¬(2:Int)=4;decide),wU d _ (by show ¬(2:Int)=3;decide)⟩;unfold yQ;rw[yS d];refine cl fun x hx=>?_;obtain⟨f,_,rfl⟩:=zau.mp hx;have p:=zbo (f:Int) (show (N:Int)≠0 by lia);have q:=za8 (f:Int) (show (0:Int)<N by lia);refine(hl _).mpr (.inr ⟨((f:Int)%N).toNat,by lia,qQ.mpr (.inl ?_)⟩);rw[zb2 p]
  ·rcases qQ.mp h with rfl |rfl |rfl
   ·refine⟨?_,fun z=>absurd ((my d _).mp z) (by show ¬(3:Int)=4;decide),fun z=>by have:=(yT d _).mp z;lia⟩;unfold yQ;rw[Ht d,if_neg (by lia)];exact cl fun x hx=>by rw[zap.mp hx];exact(hl _).mpr (.inr ⟨n,hn,qQ.mpr (.inr (.inl rfl))⟩)
   ·refine⟨?_,fun z=>absurd ((my d _).mp z) (by show ¬(6:Int)=4;decide),wU d _ (by show ¬(6:Int)=3;decide)⟩;unfold yQ;rw[HH d];exact cl fun x hx=>by rw[zap.mp hx];exact(hl _).mpr (.inr ⟨n,hn,qQ.mpr (.inr (.inr rfl))⟩)
   ·refine⟨?_,fun z=>absurd ((my d _).mp z) (by show ¬(0:Int)=4;decide),wU d _ (by show ¬(0:Int)=3;decide)⟩;unfold yQ;rw[HI d];rfl
 unfold fh Hm;rw[hf,zb0,zb0];refine⟨zbj.mpr fun s hs=>?_,zbj.mpr fun s hs=>?_⟩
 ·rw[(key s hs).1,decide_eq_false (key s hs).2.1];rfl
 ·rw[(key s hs).1,decide_eq_false (key s hs).2.2];rfl
theorem Ri{N g:Nat}{first:Int}(d:fW (bu N first g)){l:List bH}(h4:((4:Int),[(g:Int)])∈l)(h3:((3:Int),[(g:Int)])∈l):fh (bu N first g) (.row 4) l=false/\fh (bu N first g) (.side 3 true) l=false:=
 ⟨Uz h4 ((my d _).mpr rfl),Uz h3 ((yT d _).mpr rfl)⟩
theorem sG{N:Nat}{first value:Int}(d:fW (bu N first value))(row:Int)(hr:row=0\/row=2\/row=3\/row=4\/row=6){n:Int}(h0:0<=n)(h1:n<N):cR (bu N first value) (row,[n]):=by
 refine cR.of d ?_ ⟨⟨h0,h1⟩,trivial⟩;rw[oK];rcases hr with e |e |e |e |e
 ·exact .inl e
 all_goals exact .inr (by simp[bq.row,e])
theorem N3(n i:Nat)(h:i<n):i∈sliceRange (sliceBounds none none (some (-1)) n).1 (sliceBounds none none (some (-1)) n).2.1 (sliceBounds none none (some (-1)) n).2.2:=by
 show i∈sliceRange ((n:Int)-1) (-1) (-1);unfold sliceRange;have e:(if (-1:Int)>0 then (if ((n:Int)-1) < -1 then (-1-((n:Int)-1) + -1-1) / -1 else 0) else (if ((n:Int)-1) > -1 then (((n:Int)-1) - -1 - -1-1)/(- -1) else 0))=(n:Int):=by
  rw[if_neg (by decide),if_pos (by lia)];lia
 show i∈(zaF (Int.toNat (if (-1:Int)>0 then (if ((n:Int)-1) < -1 then (-1-((n:Int)-1) + -1-1) / -1 else 0) else (if ((n:Int)-1) > -1 then (((n:Int)-1) - -1 - -1-1)/(- -1) else 0)))).map fun (k:Nat)=>(((n:Int)-1) + -1*(k:Int)).toNat;rw[e,zaR];exact zau.mpr ⟨n-1-i,zbd.mpr (by lia),by lia⟩
def Pa (K:zaa) (te:TE) (ts:TO):TE:=fun σ H Q=>te σ H fun x H1=>ts σ H1 fun o H2=>∃a xs,x=.ref a/\o=some (-1)/\gC K H2 a xs/\∀(is:List Nat) p,H2 p=none->(∀i,i<xs.length->i∈is)->(is.filterMap (xs[·]?)).length<=xs.length->Q (.ref p) (upd H2 p (.lst (is.filterMap (xs[·]?))))
theorem N4{X:Cx}{e st:Expr}{te:TE}{ts:TO}{p2 pos:Pos}(he:PE X e te)(A7:PO X (some st) ts):PE X (.Subscript e (.Slice none none (some st) p2) pos) (Pa X.K te ts):=by
 intro pins s σ H Q I h;refine Subscript_ (dU (he pins s σ H _ I h) fun v s1 zqz=>?_);obtain⟨x,H1,I1,r1,q1⟩:=zqz;refine wpAny_Slice ?_;rw[evalPart_none];refine zdk (zdk (dU (A7 pins s1 σ H1 _ I1 q1) fun vs s2 zqz=>?_));obtain⟨o,H2,I2,ps,q2⟩:=zqz;obtain⟨a,xs,rfl,rfl,hx,q⟩:=q2;cases r1;have I4:Inv X pins σ H2 {s2 with heap:=s2.heap.push {cls:=.type "slice",data:=.fields #[.none,.none,vs]} }:=I2.kept (t':=s2.toks) fun b ob q=>Heap.get?_push_of_some _ q;obtain⟨its,rv,pl,hz⟩:=I4.list hx;have hlen:its.toArray.size=xs.length:=by rw[zao];exact rv.length.symm
 refine tail_any (ops:=[.ref a,.ref s2.heap.objs.size]) pl.isList.typeIs slot_list_getitem.lookup ?_ (by with_unfolding_all rfl);refine wpAny_getItem_list_slice (lo:=none) (hi:=none) (st:=some (-1)) pl.isList (Heap.IsSliceOf.new ..) .none .none ps (by simp) ?_ (by rw[hlen];exact hz);have sz:=slicePick_size_le its.toArray none none (some (-1));unfold slicePick at sz ⊢;have ra:=fun i h=>N3 its.toArray.size i h;generalize sliceRange (sliceBounds none none (some (-1)) its.toArray.size).1 (sliceBounds none none (some (-1)) its.toArray.size).2.1 (sliceBounds none none (some (-1)) its.toArray.size).2.2=is at *;have vv:=yO (its:=its) rv is;rw[zao] at sz;have lv:=vv.length;refine⟨.ref _,_,I4.laid (t':=s2.toks) (o:=.lst (is.filterMap (xs[·]?))) (fun b ob q=>Heap.get?_push_of_some _ q) (zaj _) ?_,rfl,q is _ (I4.cI.fresh (zaj _)) (fun i hi=>ra i (by lia)) (by lia)⟩;exact⟨by lia,_,0,vv,Heap.get?_push_size _ rfl⟩
theorem HK{K:zaa}{H:Hp}{l:List bH}{us:List V}(h:bF K H l us)(ix:List Nat):bF K H (ix.filterMap (l[·]?)) (ix.filterMap (us[·]?)):=by
 induction ix with
 |nil=>exact .nil
 |cons i ix ih=>
  cases e:us[i]? with
  |none=>
   have e2:l[i]?=none:=za5 (by rw[Paired.length h];exact List.getElem?_eq_none_iff.mp e);rw[zbu e,zbu e2];exact ih
  |some v=>
   obtain⟨p,a,ep,rfl,st⟩:=h.get e;rw[zbt e,zbt ep];exact .cons ⟨a,rfl,st⟩ ih
theorem Ai{l:List bH}{ix:List Nat}(a:∀i,i<l.length->i∈ix)(s:bH):s∈ix.filterMap (l[·]?)↔s∈l:=by
 rw[zb7]
 constructor
 ·rintro ⟨i,_,h⟩
  exact zaz h
 ·intro h;obtain⟨i,hi⟩:=zcs.mp h;exact⟨i,a i (zak.mp hi).1,hi⟩
theorem Lr{K:zaa}{Hx:Hp}{n:Int}{k:V->Hp->Prop}(h:∀D us H',aq Hx H'->Hx D=none->us.length=3->H' D=some (.lst us)->bF K H' (dn n) us->k (.ref D) H') :
 ∀p,Hx p=none->∀p1,upd Hx p (.tup [V.int n]) p1=none->∀p2,upd (upd Hx p (.tup [V.int n])) p1 (.tup [V.int 3,V.ref p]) p2=none->∀p3,upd (upd (upd Hx p (.tup [V.int n])) p1 (.tup [V.int 3,V.ref p])) p2 (.tup [V.int n]) p3=none->
 ∀p4,upd (upd (upd (upd Hx p (.tup [V.int n])) p1 (.tup [V.int 3,V.ref p])) p2 (.tup [V.int n])) p3 (.tup [V.int 6,V.ref p2]) p4=none->∀p5,upd (upd (upd (upd (upd Hx p (.tup [V.int n])) p1 (.tup [V.int 3,V.ref p])) p2 (.tup [V.int n])) p3 (.tup [V.int 6,V.ref p2])) p4 (.tup [V.int n]) p5=none->
 ∀p6,upd (upd (upd (upd (upd (upd Hx p (.tup [V.int n])) p1 (.tup [V.int 3,V.ref p])) p2 (.tup [V.int n])) p3 (.tup [V.int 6,V.ref p2])) p4 (.tup [V.int n])) p5 (.tup [V.int 0,V.ref p4]) p6=none->
 k (.ref p6) (upd (upd (upd (upd (upd (upd (upd Hx p (.tup [V.int n])) p1 (.tup [V.int 3,V.ref p])) p2 (.tup [V.int n])) p3 (.tup [V.int 6,V.ref p2])) p4 (.tup [V.int n])) p5 (.tup [V.int 0,V.ref p4])) p6 (.lst [V.ref p1,V.ref p3,V.ref p5])):=by
 intro p hp p1 yU;have s0:=aq.new hp (.tup [V.int n]);have s1:=aq.new yU (.tup [V.int 3,V.ref p]);have nS:bQ K (upd (upd Hx p (.tup [V.int n])) p1 (.tup [V.int 3,V.ref p])) p1 3 [n]:=⟨p,.of ah,.of (s1 _ _ ah)⟩
 have UG:=s0.trans s1;generalize upd (upd Hx p (.tup [V.int n])) p1 (.tup [V.int 3,V.ref p])=G1 at *;intro p2 wb p3 qd;have s2:=aq.new wb (.tup [V.int n]);have s3:=aq.new qd (.tup [V.int 6,V.ref p2]);have Ik:bQ K (upd (upd G1 p2 (.tup [V.int n])) p3 (.tup [V.int 6,V.ref p2])) p3 6 [n]:=⟨p2,.of ah,.of (s3 _ _ ah)⟩
 have N5:=s2.trans s3;generalize upd (upd G1 p2 (.tup [V.int n])) p3 (.tup [V.int 6,V.ref p2])=G3 at *;intro p4 Ls p5 vM;have s4:=aq.new Ls (.tup [V.int n]);have s5:=aq.new vM (.tup [V.int 0,V.ref p4]);have Il:bQ K (upd (upd G3 p4 (.tup [V.int n])) p5 (.tup [V.int 0,V.ref p4])) p5 0 [n]:=⟨p4,.of ah,.of (s5 _ _ ah)⟩
 have WD:=s4.trans s5;generalize upd (upd G3 p4 (.tup [V.int n])) p5 (.tup [V.int 0,V.ref p4])=G5 at *;intro p6 nY;have s6:=aq.new nY (.lst [V.ref p1,V.ref p3,V.ref p5]);exact h p6 _ _ ((UG.trans (N5.trans WD)).trans s6) ((UG.trans (N5.trans WD)).free nY) rfl ah (.cons ⟨p1,rfl,(nS.mono (N5.trans WD)).mono s6⟩ (.cons ⟨p3,rfl,(Ik.mono WD).mono s6⟩ (.cons ⟨p5,rfl,Il.mono s6⟩ .nil)))
theorem yV{K:zaa}{Hx:Hp}{n:Int}{L:zdg}{F:VK}(h:∀D us H',aq Hx H'->Hx D=none->us.length=3->H' D=some (.lst us)->bF K H' (dn n) us->MU (.ref L) (.ref D) H' F) :
 ∀p,Hx p=none->∀p1,upd Hx p (.tup [V.int n]) p1=none->∀p2,upd (upd Hx p (.tup [V.int n])) p1 (.tup [V.int 3,V.ref p]) p2=none->∀p3,upd (upd (upd Hx p (.tup [V.int n])) p1 (.tup [V.int 3,V.ref p])) p2 (.tup [V.int n]) p3=none->
 ∀p4,upd (upd (upd (upd Hx p (.tup [V.int n])) p1 (.tup [V.int 3,V.ref p])) p2 (.tup [V.int n])) p3 (.tup [V.int 6,V.ref p2]) p4=none->∀p5,upd (upd (upd (upd (upd Hx p (.tup [V.int n])) p1 (.tup [V.int 3,V.ref p])) p2 (.tup [V.int n])) p3 (.tup [V.int 6,V.ref p2])) p4 (.tup [V.int n]) p5=none->
 ∀p6,upd (upd (upd (upd (upd (upd Hx p (.tup [V.int n])) p1 (.tup [V.int 3,V.ref p])) p2 (.tup [V.int n])) p3 (.tup [V.int 6,V.ref p2])) p4 (.tup [V.int n])) p5 (.tup [V.int 0,V.ref p4]) p6=none->
 MU (.ref L) (.ref p6) (upd (upd (upd (upd (upd (upd (upd Hx p (.tup [V.int n])) p1 (.tup [V.int 3,V.ref p])) p2 (.tup [V.int n])) p3 (.tup [V.int 6,V.ref p2])) p4 (.tup [V.int n])) p5 (.tup [V.int 0,V.ref p4])) p6 (.lst [V.ref p1,V.ref p3,V.ref p5])) F:=Lr (k:=fun y H=>MU (.ref L) y H F) h
theorem Pb{N:Nat}{first value:Int}(d:fW (bu N first value)){n:Nat}(hn:n<N){s:bH}(h:s∈dn n):cR (bu N first value) s:=by
 rcases qQ.mp h with rfl |rfl |rfl
 ·exact sG d 3 (.inr (.inr (.inl rfl))) (by lia) (by lia)
 ·exact sG d 6 (.inr (.inr (.inr (.inr rfl)))) (by lia) (by lia)
 ·exact sG d 0 (.inl rfl) (by lia) (by lia)
theorem FL{N g:Nat}{first value:Int}(d:fW (bu N first value))(h0:0<=first)(h1:first<N){j:Nat}(hj:j<=N):∀s∈mz first g j,cR (bu N first value) s:=by
 intro s hs;rcases(wV _ _ _ _).mp hs with rfl |⟨n,hn,_,h⟩
 ·exact sG d 2 (.inr (.inl rfl)) h0 h1
 ·exact Pb d (by lia) h
theorem HL{N g:Nat}{first:Int}(hg:g<N)(s:bH):s∈mz first g N++dn g↔s=(2,[first])\/∃n:Nat,n<N/\s∈dn n:=by
 rw[zah,wV]
 constructor
 ·rintro ((h |⟨n,h1,_,h2⟩) |h)
  ·exact .inl h
  ·exact .inr ⟨n,h1,h2⟩
  ·exact .inr ⟨g,hg,h⟩
 ·rintro (h |⟨n,h1,h2⟩)
  ·exact .inl (.inl h)
  ·by_cases e:n=g
   ·subst e;exact .inr h2
   ·exact .inl (.inr ⟨n,h1,by lia,h2⟩)
theorem HM(us:List V)(k:Nat):iF us (some ((k:Int)+1)) none=us.drop (k+1):=by
 unfold iF;rw[HT.oo,show (k:Int)+1=((k+1:Nat):Int) by lia,HT.pk];by_cases z:k+1<=us.length
 ·rw[zcy z];exact zbC (by rw[zby];lia)
 ·rw[Nat.min_eq_right (by lia),zcX (zaj _),zcX (by lia),zdc]
theorem N6{X:Cx}{K:zaa}(e:X.K=K)(n:Nat){es:List Expr}{k:Nat}{pos:Pos}{t:OC}(hc:X.calm=true)(h:S4 X es t)
 (hn:(assignEach es X.env).length=n:=by rfl) (A7:(assignEach es X.env).findIdx? (·.1)=none:=by rfl):PG X (.Tuple es k pos) (MI K n t):=e▸tw hc h hn A7
def yW (K:zaa) (H:Hp) (r:cB) (q:zdg×Key×V):Prop:=q.2.1=.inl r.1/\b8 K H q.1 [kV q.2.1,q.2.2]/\∃y,q.2.2=.ref y/\b8 K H y (r.2.2.map V.int)
theorem yW.GP{K:zaa}{H H':Hp}{r:cB}{q:zdg×Key×V}(h:yW K H r q)(t:∀a xs,b8 K H a xs->b8 K H' a xs):yW K H' r q:=by
 obtain⟨e,h1,y,e2,h2⟩:=h;exact⟨e,t _ _ h1,y,e2,t _ _ h2⟩
theorem Cf{K:zaa}{H:Hp}:∀ {l:List Int} {vs:List V},aI K H (l.map Dp.int) vs->vs=l.map V.int
 |[],_,h=>aI.bN.mp h
 |n::l,_,h=>by
  obtain⟨v,t,rfl,h1,h2⟩:=aI.aB.mp h;cases Rep.bj.mp h1;rw[Cf h2];rfl
theorem Lu{K:zaa}{H:Hp}{r:cB}{v:V}(h:Rep K H (fI r) v):∃a y,v=.ref a/\b8 K H a [.int r.1,.str (lT r.2.1),.ref y]/\b8 K H y (r.2.2.map V.int):=by
 obtain⟨a,xs,rfl,hS,Ea⟩:=Rep.aX.mp (show Rep K H (.tup _) v from h);obtain⟨v1,x1,rfl,e1,CS⟩:=aI.aB.mp Ea;obtain⟨v2,x2,rfl,e2,N7⟩:=aI.aB.mp CS;obtain⟨v3,x3,rfl,e3,Rj⟩:=aI.aB.mp N7;cases Rep.bj.mp e1;cases Rep.bt.mp e2;cases aI.bN.mp Rj;obtain⟨y,ys,rfl,hy,ry⟩:=Rep.aX.mp e3;have:=Cf ry;exact⟨a,y,rfl,hS,by rw[<- this];exact hy⟩
theorem Cg{K:zaa}{H:Hp}:∀ {fl:List cB} {ps:List (zdg×Key×V)},Paired (yW K H) fl ps->(ps.map fun q=>(q.2.1,q.2.2)).map (·.1)=fl.map fun r=>(Sum.inl r.1:Key)
 |_,_,.nil=>rfl
 |_,_,.cons h r=>by
  rw[zaq,zaq,zaq,Cg r];exact congrArg (·::_) h.1
theorem FN{K:zaa}{H:Hp}:∀ {fl:List cB} {ps:List (zdg×Key×V)} {i:Nat} {r:cB},Paired (yW K H) fl ps->(fl.map fun r=>(Sum.inl r.1:Key)).Nodup->fl[i]?=some r->∃y,cE (ps.map fun q=>(q.2.1,q.2.2)) (.inl r.1)=some (.ref y)/\b8 K H y (r.2.2.map V.int)
 |_,_,i,r,.nil,_,e=>by simp at e
 |_,_,0,r,.cons (a:=a) (b:=b) h _,_,e=>by
  cases (show a=r from zaT.inj e);obtain⟨e1,_,y,e2,hy⟩:=h;exact⟨y,by rw[zaq,ck e1,e2],hy⟩
 |_,_,i+1,r,.cons (a:=a) (b:=b) h t,nd,e=>by
  rw[zaq,zam] at nd;rw[zbN] at e;obtain⟨y,h1,h2⟩:=FN t nd.2 e;refine⟨y,?_,h2⟩;rw[zaq,cm]
  ·exact h1
  ·intro z;exact nd.1 (zau.mpr ⟨r,zaz e,by rw[<- z];exact h.1⟩)
theorem b8.woK{K:zaa}{H:Hp}{D a:zdg}{kvs:List (Key×V)}{xs:List V}(h:b8 K H a xs)(hD:H D=some (.dK kvs)):b8 K (wo H D) a xs:=by
 rcases h with (q |⟨o',q⟩) |q
 ·refine .inl (.inl ?_);rw[cV]
  ·exact q
  ·intro z;rw[z,hD] at q;cases q
 ·refine .inl (.inr ⟨o',?_⟩);rw[cV]
  ·exact q
  ·intro z;rw[z,hD] at q;cases q
 ·exact .inr q
theorem Lv{kvs:List (Int×V)}{k:Int}{v:V}(h:¬k∈kvs.map (·.1)):putK (kvs.map kI) (.inl k) v=(kvs++[(k,v)]).map kI:=by
 unfold putK;rw[if_neg,zas]
 ·rfl
 ·intro z;obtain⟨x,hx,e⟩:=zcp.mp z;obtain⟨y,hy,rfl⟩:=zau.mp hx;exact h (zau.mpr ⟨y,hy,Sum.inl.inj (of_decide_eq_true e)⟩)
theorem vm.kp{K:zaa}{H H':Hp}{d:zdg}{pr:PG.Prog}(h:vm K H d pr)(s:Kp H H'):vm K H' d pr:=by
 obtain⟨kvs,h1,h2,h3⟩:=h.at_;exact⟨⟨kvs,s _ _ h1 (by intro _ z;cases z),h2,fun i hi hf=>by obtain⟨c,ta,y,a,b,c',d'⟩:=h3 i hi hf;exact⟨c,ta,y,a,b.kp s,DO s _ _ c',d'.kp s⟩⟩⟩
theorem mw.kp{K:zaa}{H H':Hp}{pa:zdg}{pr:PG.Prog}{l:List bH}{us:List V}(h:mw K H pa pr l us)(s:Kp H H'):mw K H' pa pr l us:=⟨h.at_.kp s,jO h.gS fun _ _ _ q=>q.kp s,h.pS,h.pG⟩
theorem Ci{κ:Type}[DecidableEq κ]:∀(m kvs:List (κ×V)) (k:κ) (v:V),cE (jB kvs m) k=some v->(k,v)∈m\/cE kvs k=some v
 |[],_,_,_,h=>.inr h
 |x::m,kvs,k,v,h=>by
  rcases Ci m (putK kvs x.1 x.2) k v h with h |h
  ·exact .inl (zae _ h)
  ·rw[v8] at h;by_cases z:k=x.1
   ·rw[if_pos z] at h;cases h;subst z;exact .inl (zav ..)
   ·rw[if_neg z] at h;exact .inr h
def Sj (K:zaa) (D:zdg) (H:Hp) (pr:PG.Prog) (s:bH) (q:zdg×jA×zdg×V):Prop:=q.2.1=fX s/\b8 K H q.1 [.ref q.2.2.1,q.2.2.2]/\bQ K H q.2.2.1 s.1 s.2/\∃lb us,q.2.2.2=.ref lb/\lb≠D/\H lb=some (.lst us)/\bF K H (cL pr s) us
theorem Sj.GP{K:zaa}{D:zdg}{H H':Hp}{pr:PG.Prog}{s:bH}{q:zdg×jA×zdg×V}(h:Sj K D H pr s q)(u:bo D H H'){ys:List V}(hD:H D=some (.lst ys)):Sj K D H' pr s q:=by
 obtain⟨e,h1,h2,lb,us,e2,n,h3,h4⟩:=h;exact⟨e,h1.pR hD u,h2.pR hD u,lb,us,e2,n,u _ _ n h3,jO h4 fun _ _ _ q=>q.pR hD u⟩
theorem UH{P:zds}{w:zdi}{K:zaa}{D p:zdg}{H H':Hp}{pr:PG.Prog}{ws:List bH}{ps:List (zdg×jA×zdg×V)}(h:Paired (Sj K D H pr) ws ps)(s:aq H H')(OZ:∀s,s∈ws↔cR pr s)(d:DS qH P w K H' p (jB [] (ps.map fun q=>(q.2.1,q.2.2.2)))):Ho P w K H' p pr:=by
 refine⟨⟨_,d,fun x hx=>?_⟩⟩;have e:=qN (ps.map fun q=>(q.2.1,q.2.2.2)) [] (fX x);obtain⟨i,hi,ex⟩:=zbb.mp ((OZ x).mpr hx);have li:i<ps.length:=by rw[<- h.length];exact hi
 obtain⟨y,hy,g⟩:=dD h (zad li);rw[zad hi,ex] at hy;cases hy;have ea:((ps.map fun q=>(q.2.1,q.2.2.2)).any fun kv=>decide (kv.1=fX x))=true:=zcp.mpr ⟨(ps[i].2.1,ps[i].2.2.2),zau.mpr ⟨_,zat li,rfl⟩,decide_eq_true g.1⟩;rw[ea,Bool.true_or,zbL] at e;obtain⟨v,hv⟩:=e;rcases Ci _ _ _ _ hv with h1 |h1
 ·obtain⟨q,hq,e⟩:=zau.mp h1;obtain⟨j,hj,rfl⟩:=zbb.mp hq;obtain⟨z,hz,g⟩:=dD h (zad hj);obtain⟨e1,_,_,lb,us,e2,_,h3,h4⟩:=g;have e3:=congrArg Prod.fst e;have e4:=congrArg Prod.snd e;simp only at e3 e4;cases oI (e1.symm.trans e3);exact⟨lb,us,by rw[hv,<- e4,e2],.of (s _ _ h3),h4.mono s⟩
 ·cases h1
end L2
section
set_option maxHeartbeats 4000000
namespace Rk
open PG
open PySem L2
def top (i:Nat):Stmt:=PySem.Challenge.pw_everyrow_k45_papers_of_standings.main.body.getD i (.Pass ⟨0,0,0,0⟩)
abbrev Eb:Stmt:=top 2
abbrev kA:Stmt:=top 3
abbrev oM:Stmt:=top 4
abbrev lL:Stmt:=top 5
abbrev ue:Stmt:=top 6
abbrev oN:Stmt:=top 7
abbrev jC:Stmt:=top 8
abbrev Aj:Stmt:=top 13
abbrev uf:Stmt:=top 16
abbrev qR:Stmt:=top 17
abbrev qS:Stmt:=top 18
abbrev Ak:Stmt:=top 19
abbrev iU:Stmt:=top 22
abbrev uh:Stmt:=top 23
abbrev gU:Stmt:=top 24
abbrev mY:Stmt:=top 25
abbrev ui:Stmt:=top 28
abbrev oO:Stmt:=top 29
abbrev mZ:Stmt:=top 30
abbrev aT:Stmt:=top 31
abbrev m4:Stmt:=top 32
abbrev hC:Stmt:=top 33
abbrev iV:Stmt:=top 35
abbrev oP:Stmt:=top 37
abbrev m5:Stmt:=top 38
abbrev m6:Stmt:=top 39
abbrev oQ:Stmt:=top 40
abbrev wW:Stmt:=top 41
abbrev m7:Stmt:=top 42
abbrev oR:Stmt:=top 43
abbrev qT:Stmt:=top 44
abbrev m8:Stmt:=top 45
abbrev qU:Stmt:=top 46
abbrev oT:Stmt:=top 47
abbrev lM:Stmt:=top 48
abbrev oU:Stmt:=top 49
abbrev m9:Stmt:=top 50
abbrev ng:Stmt:=top 51
abbrev lN:Stmt:=top 52
abbrev oV:Stmt:=top 53
abbrev Lw:Stmt:=top 54
abbrev de:Stmt:=inClass (top 15) 0
theorem FO:aY ["program"] ["program"] (aE Eb):=⟨rfl,rfl,rfl,by decide +kernel,rfl,by decide +kernel,by decide +kernel⟩
theorem nV:aY ["body", "behind", "told", "place", "statement", "after", "inner"] ["body", "behind"] (aE kA):=⟨rfl,rfl,rfl,by decide +kernel,rfl,by decide +kernel,by decide +kernel⟩
theorem sI:aY ["body", "behind"] ["body", "behind"] (aE oM):=⟨rfl,rfl,rfl,by decide +kernel,rfl,by decide +kernel,by decide +kernel⟩
theorem oW:aY ["statement", "after"] ["statement", "after"] (aE lL):=⟨rfl,rfl,rfl,by decide +kernel,rfl,by decide +kernel,by decide +kernel⟩
theorem wX:aY ["statement", "after", "word"] ["statement", "after"] (aE ue):=⟨rfl,rfl,rfl,by decide +kernel,rfl,by decide +kernel,by decide +kernel⟩
theorem sJ:aY ["statement"] ["statement"] (aE oN):=⟨rfl,rfl,rfl,by decide +kernel,rfl,by decide +kernel,by decide +kernel⟩
theorem mB:aY ["body", "found", "statement", "inner"] ["body"] (aE jC):=⟨rfl,rfl,rfl,by decide +kernel,rfl,by decide +kernel,by decide +kernel⟩
theorem Cj:aY ["e", "values", "kind", "left", "right"] ["e", "values"] (aE Aj):=⟨rfl,rfl,rfl,by decide +kernel,rfl,by decide +kernel,by decide +kernel⟩
theorem wY:aY ["chart", "row"] ["chart", "row"] (aE uf):=⟨rfl,rfl,rfl,by decide +kernel,rfl,by decide +kernel,by decide +kernel⟩
theorem uP:aY ["chart", "parts"] ["chart", "parts"] (aE qR):=⟨rfl,rfl,rfl,by decide +kernel,rfl,by decide +kernel,by decide +kernel⟩
theorem uQ:aY ["chart", "named"] ["chart", "named"] (aE qS):=⟨rfl,rfl,rfl,by decide +kernel,rfl,by decide +kernel,by decide +kernel⟩
theorem Ck:aY ["chart", "standing", "statement", "values", "left", "right"] ["chart", "standing"] (aE Ak):=⟨rfl,rfl,rfl,by decide +kernel,rfl,by decide +kernel,by decide +kernel⟩
theorem kU:aY ["program"] ["program"] (aE iU):=⟨rfl,rfl,rfl,by decide +kernel,rfl,by decide +kernel,by decide +kernel⟩
theorem wZ:aY ["chart", "standing", "figure", "row", "statement", "word", "values", "said"] ["chart", "standing", "figure"] (aE uh):=⟨rfl,rfl,rfl,by decide +kernel,rfl,by decide +kernel,by decide +kernel⟩
theorem jI:aY ["chart", "standing", "row"] ["chart", "standing"] (aE gU):=⟨rfl,rfl,rfl,by decide +kernel,rfl,by decide +kernel,by decide +kernel⟩
theorem qe:aY ["chart", "standing", "word", "behind"] ["chart", "standing"] (aE mY):=⟨rfl,rfl,rfl,by decide +kernel,rfl,by decide +kernel,by decide +kernel⟩
theorem w5:aY ["program", "told", "entry", "row"] ["program"] (aE ui):=⟨rfl,rfl,rfl,by decide +kernel,rfl,by decide +kernel,by decide +kernel⟩
theorem sM:aY ["program"] ["program"] (aE oO):=⟨rfl,rfl,rfl,by decide +kernel,rfl,by decide +kernel,by decide +kernel⟩
theorem qf:aY ["chart", "standing", "row", "word"] ["chart", "standing"] (aE mZ):=⟨rfl,rfl,rfl,by decide +kernel,rfl,by decide +kernel,by decide +kernel⟩
theorem nW:aY ["chart"] ["chart"] (aE aT):=⟨rfl,rfl,rfl,by decide +kernel,rfl,by decide +kernel,by decide +kernel⟩
theorem qg:aY ["first", "led_from", "found", "asking", "behind", "figures", "led", "figure", "place"] ["first", "led_from"] (aE m4):=⟨rfl,rfl,rfl,by decide +kernel,rfl,by decide +kernel,by decide +kernel⟩
theorem w6:aY ["place", "led_from", "figures", "found", "led"] ["place", "led_from", "figures", "found"] (aE hC):=⟨rfl,rfl,rfl,by decide +kernel,rfl,by decide +kernel,by decide +kernel⟩
theorem kW:aY ["program", "target", "paper", "chart", "listed", "standing"] ["program", "target", "paper"] (aE iV):=⟨rfl,rfl,rfl,by decide +kernel,rfl,by decide +kernel,by decide +kernel⟩
theorem sN:aY ["state", "many", "found"] ["state", "many"] (aE oP):=⟨rfl,rfl,rfl,by decide +kernel,rfl,by decide +kernel,by decide +kernel⟩
theorem qh:aY ["script", "k", "cell", "small"] ["script", "k"] (aE m5):=⟨rfl,rfl,rfl,by decide +kernel,rfl,by decide +kernel,by decide +kernel⟩
theorem qi:aY ["script", "state", "boxes", "name", "size"] ["script"] (aE m6):=⟨rfl,rfl,rfl,by decide +kernel,rfl,by decide +kernel,by decide +kernel⟩
theorem sO:aY ["state", "boxes"] ["state", "boxes"] (aE oQ):=⟨rfl,rfl,rfl,by decide +kernel,rfl,by decide +kernel,by decide +kernel⟩
theorem yX:aY ["state", "boxes", "leaf"] ["state", "boxes"] (aE wW):=⟨rfl,rfl,rfl,by decide +kernel,rfl,by decide +kernel,by decide +kernel⟩
theorem qj:aY ["state", "boxes", "row", "kind"] ["state", "boxes", "row"] (aE m7):=⟨rfl,rfl,rfl,by decide +kernel,rfl,by decide +kernel,by decide +kernel⟩
theorem sP:aY ["script", "boxes", "root", "pile", "seconds", "row", "k", "state", "kind", "sides", "word", "bodies"] ["script", "boxes"] (aE oR):=⟨rfl,rfl,rfl,by decide +kernel,rfl,by decide +kernel,by decide +kernel⟩
theorem uR:aY ["body", "found", "one", "inner"] ["body"] (aE qT):=⟨rfl,rfl,rfl,by decide +kernel,rfl,by decide +kernel,by decide +kernel⟩
theorem qk:aY ["e", "values", "one", "other"] ["e", "values"] (aE m8):=⟨rfl,rfl,rfl,by decide +kernel,rfl,by decide +kernel,by decide +kernel⟩
theorem uT:aY ["program", "statements", "standing", "target", "statement", "values", "one", "other", "holds_v"] ["program", "statements", "standing", "target"] (aE qU):=⟨rfl,rfl,rfl,by decide +kernel,rfl,by decide +kernel,by decide +kernel⟩
theorem sQ:aY ["program", "statements", "standing", "figure", "statement", "ways", "names", "values", "word", "one", "other", "at", "number"] ["program", "statements", "standing", "figure"] (aE oT):=⟨rfl,rfl,rfl,by decide +kernel,rfl,by decide +kernel,by decide +kernel⟩
theorem oX:aY ["program", "statements", "standing", "there"] ["program", "statements", "standing"] (aE lM):=⟨rfl,rfl,rfl,by decide +kernel,rfl,by decide +kernel,by decide +kernel⟩
theorem sR:aY ["program", "paper", "behind", "known", "standing"] ["program", "paper", "behind"] (aE oU):=⟨rfl,rfl,rfl,by decide +kernel,rfl,by decide +kernel,by decide +kernel⟩
theorem ql:aY ["program", "statements", "values", "name", "size", "first", "longer", "one", "found", "row"] ["program", "statements"] (aE m9):=⟨rfl,rfl,rfl,by decide +kernel,rfl,by decide +kernel,by decide +kernel⟩
theorem qm:aY ["state", "paper", "whole", "at", "way", "some"] ["state", "paper", "whole"] (aE ng):=⟨rfl,rfl,rfl,by decide +kernel,rfl,by decide +kernel,by decide +kernel⟩
theorem oY:aY ["program", "statements", "paper", "behind", "turn", "shut", "some", "target", "met", "handed", "found"] ["program", "statements", "paper", "behind", "turn"] (aE lN):=⟨rfl,rfl,rfl,by decide +kernel,rfl,by decide +kernel,by decide +kernel⟩
theorem sS:aY ["script", "state", "size", "goal", "first", "value", "look", "program", "paper", "number", "due"] ["script"] (aE oV):=⟨rfl,rfl,rfl,by decide +kernel,rfl,by decide +kernel,by decide +kernel⟩
theorem Lx:aY ["script", "boxes", "program", "statements", "ways", "one", "whole", "least", "turn", "behind", "paper", "k", "state"] ["script"] (aE Lw):=⟨rfl,rfl,rfl,by decide +kernel,rfl,by decide +kernel,by decide +kernel⟩
theorem qo:aY ["self", "program", "boxes", "body"] ["self", "program"] (aE de):=⟨rfl,rfl,rfl,by decide +kernel,rfl,by decide +kernel,by decide +kernel⟩
set_option genInjectivity false in
structure Ad where
 lO:zdg
 jP:zdp
 du:zdg
 dE:zdp
 bT:zdg
 bP:zdp
 fB:zdg
 fY:zdp
 ka:zdg
 kF:zdp
 fZ:zdg
 gn:zdp
 bE:zdg
 bG:zdp
 nh:zdg
 mC:zdp
 mD:zdg
 nj:zdp
 kG:zdg
 kX:zdp
 kH:zdg
 kY:zdp
 sT:zdg
 sU:zdp
 eM:zdg
 fR:zdp
 mE:zdg
 nu:zdp
 dv:zdg
 eI:zdp
 ig:zdg
 i4:zdp
 mF:zdg
 ny:zdp
 jm:zdg
 jQ:zdp
 ij:zdg
 i5:zdp
 bU:zdg
 gO:zdp
 ik:zdg
 i6:zdp
 fC:zdg
 nA:zdp
 eO:zdg
 fS:zdp
 jn:zdg
 jR:zdp
 il:zdg
 i7:zdp
 ip:zdg
 i8:zdp
 jo:zdg
 jS:zdp
 oZ:zdg
 pK:zdp
 iq:zdg
 i9:zdp
 jq:zdg
 jT:zdp
 gV:zdg
 hG:zdp
 eY:zdg
 fD:zdp
 kJ:zdg
 kZ:zdp
 jr:zdg
 jU:zdp
 gH:zdg
 iu:zdp
 jt:zdg
 jV:zdp
 iw:zdg
 ja:zdp
 iy:zdg
 jb:zdp
 gI:zdg
 iz:zdp
 ju:zdg
 jW:zdp
 FP:zdg
 uj:zdp
 df:zdg
 lP:zdp
 aQ:zdg
 dZ:zdg
 fE:zdg
set_option genInjectivity false in
structure Tx(K:zaa)(mg:Str->Option zdh)(t:Ad):Prop where
 o5:cu K mg "flow" Eb ["program"] t.lO t.jP
 gb:cu K mg "flow_of_body" kA ["body", "behind"] t.du t.dE
 eV:cu K mg "first_row" oM ["body", "behind"] t.bT t.bP
 jc:cu K mg "behind_body" lL ["statement", "after"] t.fB t.fY
 pL:cu K mg "ways_of" ue ["statement", "after"] t.ka t.kF
 jv:cu K mg "bodies_in" oN ["statement"] t.fZ t.gn
 fj:cu K mg "statements_in" jC ["body"] t.bE t.bG
 jX:cu K mg "worth" Aj ["e", "values"] t.nh t.mC
 kb:cu K mg "word_at" uf ["chart", "row"] t.mD t.nj
 kK:cu K mg "by_names" qR ["chart", "parts"] t.kG t.kX
 nC:cu K mg "in_order" qS ["chart", "named"] t.kH t.kY
 pM:cu K mg "holds" Ak ["chart", "standing"] t.sT t.sU
 cO:cu K mg "first_standing" iU ["program"] t.eM t.fR
 mG:cu K mg "step_by" uh ["chart", "standing", "figure"] t.mE t.nu
 eZ:cu K mg "behind_condition" gU ["chart", "standing"] t.dv t.eI
 fc:cu K mg "all_led_to" mY ["chart", "standing"] t.ig t.i4
 pN:cu K mg "targets" ui ["program"] t.mF t.ny
 hJ:cu K mg "standings" oO ["program"] t.jm t.jQ
 jY:cu K mg "targets_at" mZ ["chart", "standing"] t.ij t.i5
 iA:cu K mg "first_inputs" aT ["chart"] t.bU t.gO
 gu:cu K mg "found_from" m4 ["first", "led_from"] t.ik t.i6
 mH:cu K mg "gone_on" hC ["place", "led_from", "figures", "found"] t.fC t.nA
 br:cu K mg "standings_show" iV ["program", "target", "paper"] t.eO t.fS
 aK:cu K mg "_law_take" oP ["state", "many"] t.jn t.jR
 dQ:cu K mg "_law_state" m5 ["script", "k"] t.il t.i7
 cC:cu K mg "_law_boxes" m6 ["script"] t.ip t.i8
 hV:cu K mg "_law_leaf" oQ ["state", "boxes"] t.jo t.jS
 jw:cu K mg "_law_e" wW ["state", "boxes"] t.oZ t.pK
 jZ:cu K mg "_law_plain" m7 ["state", "boxes", "row"] t.iq t.i9
 dR:cu K mg "_law_body" oR ["script", "boxes"] t.jq t.jT
 gX:cu K mg "_law_all" qT ["body"] t.gV t.hG
 cS:cu K mg "_law_worth" m8 ["e", "values"] t.eY t.fD
 nG:cu K mg "_law_met" qU ["program", "statements", "standing", "target"] t.kJ t.kZ
 jx:cu K mg "_law_step" oT ["program", "statements", "standing", "figure"] t.jr t.jU
 fF:cu K mg "_law_behind" lM ["program", "statements", "standing"] t.gH t.iu
 k8:cu K mg "_law_shut" oU ["program", "paper", "behind"] t.jt t.jV
 gw:cu K mg "_law_every" m9 ["program", "statements"] t.iw t.ja
 gx:cu K mg "_law_other" ng ["state", "paper", "whole"] t.iy t.jb
 cT:cu K mg "_law_looked" lN ["program", "statements", "paper", "behind", "turn"] t.gI t.iz
 hX:cu K mg "_law_door" oV ["script"] t.ju t.jW
 FQ:cu K mg "law" Lw ["script"] t.FP t.uj
 j0:Im K "__init__" "Chart.__init__" de t.df t.lP
 nH:Binds K t.lP ["self", "program"] []
 cM:OE K t.aQ
 w8:mg "Chart"=some (.ref t.aQ)
 o8:Mk K t.aQ t.df
 gg:kg K t.aQ "names"
 gh:kg K t.aQ "sizes"
 eQ:kg K t.aQ "first"
 cH:kg K t.aQ "statements"
 fG:kg K t.aQ "ways"
 xf:TX K t.dZ
 uU:zcD K (.ref t.dZ) (.ref t.dZ)=some true
 Pc:mg "RowError"=some (.ref t.dZ)
 yY:TX K t.fE
 xg:zcD K (.ref t.fE) (.ref t.fE)=some true
 Rl:mg "TooMany"=some (.ref t.fE)
 Al:∃u,mg "END"=some u/\RelV (.int 0) u
 vn:∃u,mg "FIGURE_COUNT"=some u/\RelV (.int 10) u
 xh:∃u,mg "MOST_PLACES"=some u/\RelV (.int 2000) u
 jy:mg "len"=none
 lg:mg "range"=none
 uV:mg "int"=none
 Ec:mg "bool"=none
 jD:mg "dict"=none
 Am:mg "list"=none
 sV:mg "tuple"=none
 FR:mg "sum"=none
 Ly:mg "all"=none
 FT:mg "min"=none
 nI:mg "isinstance"=none
 lh:mg "enumerate"=none
 Cm:mg "zip"=none
 xi:mg "sorted"=none
 Lz:mg "abs"=none
 sW:mg "ValueError"=none
end Rk
end
section
set_option maxHeartbeats 4000000
namespace Rk
open PG
open PySem L2
local macro_rules | `(tactic|walk_at "rd")=>`(tactic|((try dsimp only[ IS,IB,IC,PR,IH,X0,Qq,XW,IW,zu,Qg,Bc,EK,XO,rU,EC,ED,EE,MI,IK,PY,P0,MH,II,EW,OO,Jr,Js,Jt,Ju,Jv,Jw,Jx,Jy,Jz,JA,E6,E7,E8,Fb,Fc,TQ,PU,IG,F5,eT,OP,OQ,za4,EX,EY,JC,E2,E3,Bq,DE,DF,DG,E4,OR,TV,JK,JD,JE,XF,zaX,zbi,zaf,zaI,JF,JG,Kv,Kw,EZ]);(try simp only[ IS,IB,IC,PR,IH,X0,Qq,XW,IW,zu,Qg,Bc,EK,XO,rU,EC,ED,EE,Qz,QA,MI,IK,PY,P0,MH,II,EW,OO,Jr,Js,Jt,Ju,Jv,Jw,Jx,Jy,Jz,JA,E6,E7,E8,Fb,Fc,TQ,PU,IG,F5,eT,TN,X9,OP,OQ,TR,M5,JB,QB,QC,za4,EX,EY,JC,E2,E3,Bq,DE,DF,DG,E4,OR,TV,JK,JD,JE,XF,zaO,zaX,zbi,M7,M8,true_and,and_true,zaf,zaI,M9,JF,JG,Kv,Kw,EZ,Int.reduceLT,Int.reduceLE,Nat.reduceLeDiff,Nat.reduceAdd,and_self])))
section
variable{P:zds}{w:zdi}{K:zaa}{mg:Str->Option zdh}{base:Heap}{t:Ad}
theorem Cn{ss:List bq}{vs:List V}(l:vs.length=ss.length):(zaF ss.length).map (fun i=>((Sum.inl (ss.getD i (.stop 0)).row:Key),vs.getD i .cx))=jF ss vs:=by
 apply zcq
 ·simp[jF,l]
 ·intro i h1 h2;simp at h1;simp[jF,h1,l]
theorem An{fl:List cB}{vs:List V}(l:vs.length=fl.length):(zaF fl.length).map (fun i=>((Sum.inl (fl.getD i (0,.stop,[])).1:Key),vs.getD i .cx))=zbc (fun r v=>(Sum.inl r.1,v)) fl vs:=by
 apply zcq
 ·simp[l]
 ·intro i h1 h2;simp at h1;simp[h1,l]
theorem Co{fl:List cB}{vs:List V}(l:vs.length=fl.length):(zbc (fun r v=>((Sum.inl r.1:Key),v)) fl vs).map (·.1)=fl.map fun r=>(Sum.inl r.1:Key):=by
 apply zcq
 ·simp[l]
 ·intro i h1 h2;simp
theorem FU{K:zaa}{H:Hp}:∀ {fl:List cB} {us:List V},aI K H (fl.map fI) us->∃ws:List V,ws.length=fl.length/\∀i (hi:i<fl.length),∃a q,us[i]?=some (.ref a)/\ws[i]?=some (.ref q)/\b8 K H a [.int fl[i].1,.str (lT fl[i].2.1),.ref q]/\b8 K H q (fl[i].2.2.map V.int)
 |[],us,_=>⟨[],rfl,fun i hi=>by simp at hi⟩
 |r::fl,us,h=>by
  have h0:=h;rw[zaq,aI.aB] at h;obtain⟨v,tl,rfl,h1,h2⟩:=h;obtain⟨ws,l,hw⟩:=FU h2;obtain⟨a,q,e,s1,s2⟩:=JX h0 (i:=0) (y:=v) rfl (by simp);refine⟨.ref q::ws,by simp[l],fun i hi=>?_⟩;cases i with
  |zero=>exact⟨a,q,by rw[e];rfl,rfl,s1,s2⟩
  |succ i=>
   obtain⟨a',q',e1,e2,e3,e4⟩:=hw i (by simpa using hi);exact⟨a',q',by simpa using e1,by simpa using e2,by simpa using e3,by simpa using e4⟩
theorem qV{b:List bq}(pw:(av b).Pairwise fun a b=>a.row<b.row):((aP b 0).map fun r=>(Sum.inl r.1:Key)).Nodup:=by
 have e:(aP b 0).map (fun r=>(Sum.inl r.1:Key))=(av b).map fun s=>(Sum.inl s.row:Key):=by
  have h:((aP b 0).map fun r=>(r.1,r.2.1))=(av b).map fun x=>(x.row,x.wd):=by rw[cZ,eJ]
  have h2:=congrArg (List.map fun r:Int×Wd=>(Sum.inl r.1:Key)) h;rw[zaQ,zaQ] at h2;exact h2
 rw[e];exact wx pw
theorem mI{K:zaa}{H:Hp}{B:zdg}{bs:List gF}(r:Rep K H (.lst (bs.map iJ)) (.ref B)):∃xs,gC K H B xs/\xs.length=bs.length/\∀i x,xs[i]?=some x->∃a,x=.ref a/\b8 K H a [.str (S (bs.getD i ⟨[],0,0⟩).name),.int (bs.getD i ⟨[],0,0⟩).size,.int (bs.getD i ⟨[],0,0⟩).first]:=by
 rw[Rep.bg] at r;obtain⟨_,xs,e,q,rs⟩:=r;cases e;have lx:xs.length=bs.length:=by rw[rs.length,zac]
 refine⟨xs,q,lx,fun i x hx=>?_⟩;have li:i<bs.length:=by have:=(zak.mp hx).1;lia
 obtain⟨v,hv,rv⟩:=rs.get (i:=i) (d:=iJ bs[i]) (by rw[zar,zad li];rfl);rw[hx] at hv;cases hv;have eg:bs.getD i ⟨[],0,0⟩=bs[i]:=by rw[zan,zad li];rfl
 rw[eg];simp only[iJ,Rep.aX,aI.aB,aI.bN,Rep.bt,Rep.bj] at rv;obtain⟨a,ys,rfl,hS,_,_,rfl,rfl,_,_,rfl,rfl,_,_,rfl,rfl,rfl⟩:=rv;exact⟨a,rfl,hS⟩
theorem nJ{kvs:List (Key×V)}(h:(kvs.map (·.1)).Nodup):iO [] kvs=kvs:=by
 have:=iQ kvs [] (by simpa using h);simpa using this
theorem lQ(T:Tx K mg t)(bV:bB P w K mg base dc 1 t.bT t.bP ["body", "behind"] (gM K))(bL:bB P w K mg base dc 7 t.bE t.bG ["body"] (fL K 5))(gY:bB P w K mg base dc 8 t.lO t.jP ["program"] (tV K)) :
 bB P w K mg base dc 9 t.df t.lP ["self", "program"] (Fi K t.aQ):=by
 refine T.j0.lX qo (fun vs H Q E h=>?_) (fun eS A outer s H vs Q E hr h=>?_)
 ·obtain⟨_,_,_,_,rfl,_⟩:=h;rfl
 obtain⟨p,dx,v,pr,rfl,hp,Pd,rp,hd,hf,pw,nb,lb,q⟩:=h;have nd:=qo.nd;obtain⟨LA,xj,xk⟩:=T.Al;refine⟨_,[some (.ref p),some v,none,none],(ai (eL 2 nd (aC aD (pv 1) aj ao))
 (ai (eL 3 nd (aC aD (pv 1) aj ao))
 (ai (vW (pv 0) (cK (own:=["box"]) (ix:=[]) rfl (by rfl) (by rfl) (bD (pv 2)) (fun _ _ _ _=>(bC (i:=0) (by show List.Nodup (["box"]:List Str);decide +kernel) rfl (zaC rfl))) (fun _ _ _ _=>dM) (fun _ _ _ _=>(aC (gK (K:=K) rfl) (pv 0) aj ao))) rfl)
 (ai (vW (pv 0) (cf (mV rfl) rfl T.jD PyProof.Rows.Boot.«dict» (ae (cK (own:=["box"]) (ix:=[]) rfl (by rfl) (by rfl) (bD (pv 2)) (fun _ _ _ _=>(bC (i:=0) (by show List.Nodup (["box"]:List Str);decide +kernel) rfl (zaC rfl))) (fun _ _ _ _=>dM) (fun _ _ _ _=>(aL (ae (aC (gK (K:=K) rfl) (pv 0) aj ao) (ae (aC (gK (K:=K) rfl) (pv 0) aj ao) ag aV) aV)))) ag hZ)) rfl)
 (ai (vW (pv 0) (aL (ae (dP bV T.eV hr (bw 3 (ae (pe rfl xj xk) ag aJ))) (ae (cf lE rfl T.sV PyProof.Rows.Boot.«tuple» (ae (cK (own:=["box"]) (ix:=[]) rfl (by rfl) (by rfl) (bD (pv 2)) (fun _ _ _ _=>(bC (i:=0) (by show List.Nodup (["box"]:List Str);decide +kernel) rfl (zaC rfl))) (fun _ _ _ _=>dM) (fun _ _ _ _=>(aC (gK (K:=K) rfl) (pv 0) aj ao))) ag hZ)) ag a7) a7)) rfl)
 (ai (vW (pv 0) (cf (mV rfl) rfl T.jD PyProof.Rows.Boot.«dict» (ae (cK (own:=["statement"]) (ix:=[]) rfl (by rfl) (by rfl) (bD (dP bL T.fj hr (bw 3 ag))) (fun _ _ _ _=>(bC (i:=0) (by show List.Nodup (["statement"]:List Str);decide +kernel) rfl (zaC rfl))) (fun _ _ _ _=>dM) (fun _ _ _ _=>(aL (ae (aC (gK (K:=K) rfl) (pv 0) aj ao) (bw 0 ag) aV)))) ag hZ)) rfl)
 (ar (vW (pv 0) (cf (mV rfl) rfl T.jD PyProof.Rows.Boot.«dict» (ae (cK (own:=["told"]) (ix:=[]) rfl (by rfl) (by rfl) (bD (dP gY T.o5 hr (bw 1 ag))) (fun _ _ _ _=>(bC (i:=0) (by show List.Nodup (["told"]:List Str);decide +kernel) rfl (zaC rfl))) (fun _ _ _ _=>dM) (fun _ _ _ _=>(aL (ae (aC (gK (K:=K) rfl) (pv 0) aj ao) (ae (aC (gK (K:=K) rfl) (pv 0) aj ao) ag aV) aV)))) ag hZ)) rfl)))))))),rfl,?_⟩
 have line:zdo=2 ^ 24:=rfl;have YX:=rp;unfold gD at YX;rw[Rep.aX] at YX;obtain⟨pa,YY,rfl,hpx,Sk⟩:=YX;rw[aI.aB] at Sk;obtain⟨v1,t1,rfl,WE,Sk⟩:=Sk;rw[aI.aB] at Sk;obtain⟨v2,t2,rfl,YZ,Sk⟩:=Sk;obtain⟨bb,_,rfl,_⟩:=Rep.bg.mp YZ;obtain⟨bx,_,rfl,_⟩:=Rep.bg.mp WE;refine ak fun U1 fe=>?_;walk_at "rd";refine ay hpx (v:=.ref bx) (au (j:=0) rfl) ((fe _ _).mpr (ak fun U2 fJ=>?_));clear fe;walk_at "rd";refine ay hpx (v:=.ref bb) (au (j:=1) rfl) ((fJ _ _).mpr (ak fun U3 fk=>?_));clear fJ;walk_at "rd";simp only[Bc,fg];walk_at "rd";obtain⟨xs1,WB,lx1,g1⟩:=mI WE;refine⟨⟨_,WB⟩,fun D1 WG=>j7 (K:=K) (r:=[]) (fun i=>.str (S (pr.ax.getD i ⟨[],0,0⟩).name)) WB (by lia) WG (fun i x H2 hx s2 R hR=>?_) (fun H2 s2 h2=>⟨p,_,dx,[],rfl,s2 _ _ hp,T.cM,T.gg,by decide,(fk _ _).mpr (ak fun U4 jJ=>?_)⟩)⟩
 ·obtain⟨a,rfl,ha⟩:=g1 i x hx;walk_at "rd";exact ay (s2.aZ ha) (v:=.str (S (pr.ax.getD i ⟨[],0,0⟩).name)) (au (j:=0) rfl) hR
 clear fk;rw[lx1,iT (fun b:gF=>V.str (S b.name))] at h2;have wb:=s2 _ _ hp;have n1:D1≠p:=(az hp WG).symm;have u3:aU (·=p) H (upd H2 p (.ins t.aQ dx [("names",.ref D1)])):=(aU.of s2).trans (aU.refl.put (O:=(·=p)) rfl _);have qd:(upd H2 p (.ins t.aQ dx [("names",.ref D1)])) p=some (.ins t.aQ dx [("names",.ref D1)]):=ah;have d1:(upd H2 p (.ins t.aQ dx [("names",.ref D1)])) D1=some (.lst (pr.ax.map fun b=>.str (S b.name))):=by rw[aw n1];exact h2
 rw[show lD (zab "names") (V.ref D1) []=[(zab "names",V.ref D1)] from rfl];generalize upd H2 p (.ins t.aQ dx [("names",.ref D1)])=H3 at *;walk_at "rd";simp only[Bc,fg];walk_at "rd";have pr3:=pF hp u3 _ _ WE;obtain⟨xs3,WH,lx3,g3⟩:=mI pr3;refine⟨⟨_,WH⟩,fun D2 Iu=>qC (K:=K) (r:=[]) (fun i=>(.inr (S (pr.ax.getD i ⟨[],0,0⟩).name),.int (pr.ax.getD i ⟨[],0,0⟩).size)) WH (by lia) Iu (fun i x H2 hx s2 R hR=>?_) (fun ps H4 s4 h4 zR ep=>⟨D2,ps,rfl,.of h4,fun q hq=>.of (zR q hq),?_,fun D3 UI=>⟨p,_,dx,_,rfl,aq.new UI _ _ _ (s4 _ _ qd),T.cM,T.gh,by simp,(jJ _ _).mpr (ak fun U5 rn=>?_)⟩⟩)⟩
 ·obtain⟨a,rfl,ha⟩:=g3 i x hx;walk_at "rd";exact ay (s2.aZ ha) (v:=.str (S (pr.ax.getD i ⟨[],0,0⟩).name)) (au (j:=0) rfl) (ay (s2.aZ ha) (v:=.int (pr.ax.getD i ⟨[],0,0⟩).size) (au (j:=1) rfl) hR)
 ·have:=congrArg zaV ep;simp only[zac,zbG] at this;lia
 clear jJ;have ek:ps.map (fun q=>(q.2.1,q.2.2))=pr.ax.map fun b=>(Sum.inr (S b.name),V.int b.size):=by
  rw[show (fun q:zdg×Key×V=>(q.2.1,q.2.2))=(·.2) from rfl,ep,lx3,iT (fun b:gF=>((Sum.inr (S b.name):Key),V.int b.size))]
 have nk:((pr.ax.map fun b=>((Sum.inr (S b.name):Key),V.int b.size)).map (·.1)).Nodup:=by
  rw[zaQ];refine zbf.mpr ((zbf.mp nb).imp fun {a b} JV e=>JV ?_);exact pW.mp (Sum.inr.inj e)
 rw[ek,nJ nk,show lD (zab "sizes") (V.ref D3) [(zab "names",V.ref D1)]=[(zab "names",V.ref D1),(zab "sizes",V.ref D3)] from rfl];have Mp:=s4.trans (aq.new UI (.dK (pr.ax.map fun b=>(Sum.inr (S b.name),V.int b.size))));have d3:(upd H4 D3 (.dK (pr.ax.map fun b=>(Sum.inr (S b.name),V.int b.size)))) D3=some (.dK (pr.ax.map fun b=>(Sum.inr (S b.name),V.int b.size))):=ah;generalize upd H4 D3 (.dK (pr.ax.map fun b=>(Sum.inr (S b.name),V.int b.size)))=H5 at *;have n3:D3≠p:=cQ d3 (Mp _ _ qd) (by intro z;cases z);have u6:aU (·=p) H3 (upd H5 p (.ins t.aQ dx [(zab "names",V.ref D1),(zab "sizes",V.ref D3)])):=(aU.of Mp).trans (aU.refl.put (O:=(·=p)) rfl _);have nY:(upd H5 p (.ins t.aQ dx [(zab "names",V.ref D1),(zab "sizes",V.ref D3)])) p=some (.ins t.aQ dx [(zab "names",V.ref D1),(zab "sizes",V.ref D3)]):=ah;have d3:(upd H5 p (.ins t.aQ dx [(zab "names",V.ref D1),(zab "sizes",V.ref D3)])) D3=some (.dK (pr.ax.map fun b=>(Sum.inr (S b.name),V.int b.size))):=by rw[aw n3];exact d3
 generalize upd H5 p (.ins t.aQ dx [(zab "names",V.ref D1),(zab "sizes",V.ref D3)])=H6 at *;have d1:=u6 _ _ n1 d1;have u6:=u3.trans u6;have pr6:=pF hp u6 _ _ WE;have pb6:=pF hp u6 _ _ YZ;walk_at "rd";simp only[Bc,fg];walk_at "rd";have lbd:=j6 pr.body;obtain⟨xs6,hx6,lx6,g6⟩:=mI pr6;refine⟨bb,pr.body,0,rfl,pb6,by lia,⟨_,hx6⟩,fun D4 WI=>j7 (K:=K) (r:=[]) (fun i=>.int (pr.ax.getD i ⟨[],0,0⟩).first) hx6 (by lia) WI (fun i x H2 hx s2 R hR=>?_) (fun H7 s7 h7=>⟨D4,_,rfl,.inl ⟨.of h7,fun D5 hD5 D6 WJ=>⟨p,_,dx,_,rfl,aq.new WJ _ _ _ (aq.new hD5 _ _ _ (s7 _ _ nY)),T.cM,T.eQ,by simp,(rn _ _).mpr (ak fun U6 Ao=>?_)⟩⟩⟩)⟩
 ·obtain⟨a,rfl,ha⟩:=g6 i x hx;walk_at "rd";exact ay (s2.aZ ha) (v:=.int (pr.ax.getD i ⟨[],0,0⟩).first) (au (j:=2) rfl) hR
 clear rn;rw[show lD (zab "first") (V.ref D6) [(zab "names",V.ref D1),(zab "sizes",V.ref D3)]=[(zab "names",V.ref D1),(zab "sizes",V.ref D3),(zab "first",V.ref D6)] from rfl];rw[lx6,iT (fun b:gF=>V.int b.first)] at WJ ⊢;have s8:=s7.trans ((aq.new hD5 (.tup (pr.ax.map fun b=>V.int b.first))).trans (aq.new WJ (.tup [V.int (bK pr.body 0),V.ref D5])));have d5:(upd (upd H7 D5 (.tup (pr.ax.map fun b=>V.int b.first))) D6 (.tup [V.int (bK pr.body 0),V.ref D5])) D5=some (.tup (pr.ax.map fun b=>V.int b.first)):=aq.new WJ _ _ _ ah;have d6:(upd (upd H7 D5 (.tup (pr.ax.map fun b=>V.int b.first))) D6 (.tup [V.int (bK pr.body 0),V.ref D5])) D6=some (.tup [V.int (bK pr.body 0),V.ref D5]):=ah;generalize upd (upd H7 D5 (.tup (pr.ax.map fun b=>V.int b.first))) D6 (.tup [V.int (bK pr.body 0),V.ref D5])=H8 at *;have xI:=s8 _ _ nY;have n5:D5≠p:=cQ d5 xI (by intro z;cases z);have n6:D6≠p:=cQ d6 xI (by intro z;cases z);have u9:aU (·=p) H6 (upd H8 p (.ins t.aQ dx [(zab "names",V.ref D1),(zab "sizes",V.ref D3),(zab "first",V.ref D6)])):=(aU.of s8).trans (aU.refl.put (O:=(·=p)) rfl _);have Sl:(upd H8 p (.ins t.aQ dx [(zab "names",V.ref D1),(zab "sizes",V.ref D3),(zab "first",V.ref D6)])) p=some (.ins t.aQ dx [(zab "names",V.ref D1),(zab "sizes",V.ref D3),(zab "first",V.ref D6)]):=ah;have d5:(upd H8 p (.ins t.aQ dx [(zab "names",V.ref D1),(zab "sizes",V.ref D3),(zab "first",V.ref D6)])) D5=some (.tup (pr.ax.map fun b=>V.int b.first)):=by rw[aw n5];exact d5
 have d6:(upd H8 p (.ins t.aQ dx [(zab "names",V.ref D1),(zab "sizes",V.ref D3),(zab "first",V.ref D6)])) D6=some (.tup [V.int (bK pr.body 0),V.ref D5]):=by rw[aw n6];exact d6
 generalize upd H8 p (.ins t.aQ dx [(zab "names",V.ref D1),(zab "sizes",V.ref D3),(zab "first",V.ref D6)])=H9 at *;have d1:=u9 _ _ n1 d1;have d3:=u9 _ _ n3 d3;have u9:=u6.trans u9;have pb9:=pF hp u9 _ _ YZ;walk_at "rd";simp only[Bc,fg];walk_at "rd";refine⟨bb,pr.body,H9,rfl,aq.refl _,pb9,by lia,hf,fun Pe us N9 Mq Y0 WK Sm=>?_⟩;have sl:=wz pr.body;have mm:us.length=(av pr.body).length:=by rw[Sm.length,zac]
 refine⟨Pe,rfl,⟨_,.of WK⟩,fun D7 hD7=>qC (K:=K) (r:=[]) (fun i=>(.inl ((av pr.body).getD i (.stop 0)).row,us.getD i .cx)) (.of WK) (by lia) hD7 (fun i x H2 hx s2 R hR=>?_) (fun ps Sn AY Mj zR ep=>⟨D7,ps,rfl,.of Mj,fun q hq=>.of (zR q hq),?_,fun D8 hD8=>⟨p,_,dx,_,rfl,aq.new hD8 _ _ _ (AY _ _ (Mq _ _ Sl)),T.cM,T.cH,by simp,(Ao _ _).mpr ?_⟩⟩)⟩
 ·have li:i<(av pr.body).length:=by have:=(zak.mp hx).1;lia
  obtain⟨v',Gf,rv⟩:=Sm.get (i:=i) (d:=dO (av pr.body)[i]) (by rw[zar,zad li];rfl);rw[hx] at Gf;cases Gf;have e1:(av pr.body).getD i (.stop 0)=(av pr.body)[i]:=by rw[zan,zad li];rfl
  have e2:us.getD i .cx=x:=by rw[zan,hx];rfl
  rw[e1,e2] at hR;obtain⟨sa,ys,rfl,hs⟩:=fw _ rv;walk_at "rd";exact ay ((Mq.trans s2).aZ hs) (v:=.int (av pr.body)[i].row) (au (j:=1) rfl) hR
 ·have:=congrArg zaV ep;simp only[zac,zbG] at this;lia
 clear Ao;have ek:ps.map (fun q=>(q.2.1,q.2.2))=jF (av pr.body) us:=by
  rw[show (fun q:zdg×Key×V=>(q.2.1,q.2.2))=(·.2) from rfl,ep,mm,Cn mm]
 have nk:((jF (av pr.body) us).map (·.1)).Nodup:=by
  rw[wu _ _ mm];exact wx pw
 rw[ek,nJ nk,show lD (zab "statements") (V.ref D8) [(zab "names",V.ref D1),(zab "sizes",V.ref D3),(zab "first",V.ref D6)]=[(zab "names",V.ref D1),(zab "sizes",V.ref D3),(zab "first",V.ref D6),(zab "statements",V.ref D8)] from rfl];have Mr:=(Mq.trans AY).trans (aq.new hD8 (.dK (jF (av pr.body) us)));have d8:(upd Sn D8 (.dK (jF (av pr.body) us))) D8=some (.dK (jF (av pr.body) us)):=ah;generalize upd Sn D8 (.dK (jF (av pr.body) us))=Pf at *;have LB:=Mr _ _ Sl;have n8:D8≠p:=cQ d8 LB (by intro z;cases z);have Oa:aU (·=p) H9 (upd Pf p (.ins t.aQ dx [(zab "names",V.ref D1),(zab "sizes",V.ref D3),(zab "first",V.ref D6),(zab "statements",V.ref D8)])):=(aU.of Mr).trans (aU.refl.put (O:=(·=p)) rfl _);have Ed:(upd Pf p (.ins t.aQ dx [(zab "names",V.ref D1),(zab "sizes",V.ref D3),(zab "first",V.ref D6),(zab "statements",V.ref D8)])) p=some (.ins t.aQ dx [(zab "names",V.ref D1),(zab "sizes",V.ref D3),(zab "first",V.ref D6),(zab "statements",V.ref D8)]):=ah;have d8:(upd Pf p (.ins t.aQ dx [(zab "names",V.ref D1),(zab "sizes",V.ref D3),(zab "first",V.ref D6),(zab "statements",V.ref D8)])) D8=some (.dK (jF (av pr.body) us)):=by rw[aw n8];exact d8
 generalize upd Pf p (.ins t.aQ dx [(zab "names",V.ref D1),(zab "sizes",V.ref D3),(zab "first",V.ref D6),(zab "statements",V.ref D8)])=WL at *;have d1:=Oa _ _ n1 d1;have d3:=Oa _ _ n3 d3;have d5:=Oa _ _ n5 d5;have d6:=Oa _ _ n6 d6;have r13:=oH Sl Oa _ _ Sm;have Oa:=u9.trans Oa;have Y1:=pF hp Oa _ _ rp;walk_at "rd";simp only[Bc,fg];walk_at "rd";refine⟨_,pr,rfl,Y1,hd,hf,fun l14 fv AZ So aeT Sq r14=>?_⟩;obtain⟨ws,WM,hws⟩:=FU r14;have Y2:fv.length=(aP pr.body 0).length:=by rw[r14.length,zac]
 have Y3:(aP pr.body 0).length=(av pr.body).length:=by
  have h1:=congrArg zaV (cZ pr.body 0);rw[zac] at h1;lia
 refine⟨l14,rfl,⟨_,.of Sq⟩,fun D9 hD9=>qC (K:=K) (r:=[]) (fun i=>(.inl ((aP pr.body 0).getD i (0,.stop,[])).1,ws.getD i .cx)) (.of Sq) (by lia) hD9 (fun i x H2 hx s2 R hR=>?_) (fun ps Ms Y4 X7 zR ep=>⟨D9,ps,rfl,.of X7,fun q hq=>.of (zR q hq),?_,fun Rm Rn=>⟨p,_,dx,_,rfl,aq.new Rn _ _ _ (Y4 _ _ (So _ _ Ed)),T.cM,T.fG,by simp,?_⟩⟩)⟩
 ·have li:i<(aP pr.body 0).length:=by have:=(zak.mp hx).1;lia
  obtain⟨a,qq,e1,e2,q1,q2⟩:=hws i li;rw[hx] at e1;cases e1;have g1:(aP pr.body 0).getD i (0,.stop,[])=(aP pr.body 0)[i]:=by rw[zan,zad li];rfl
  have g2:ws.getD i .cx=V.ref qq:=by rw[zan,e2];rfl
  rw[g1,g2] at hR;walk_at "rd";exact ay (s2.aZ q1) (v:=.int (aP pr.body 0)[i].1) (au (j:=0) rfl) (ay (s2.aZ q1) (v:=.ref qq) (au (j:=2) rfl) hR)
 ·have:=congrArg zaV ep;simp only[zac,zbG] at this;lia
 have ek:ps.map (fun q=>(q.2.1,q.2.2))=zbc (fun r v=>(Sum.inl r.1,v)) (aP pr.body 0) ws:=by
  rw[show (fun q:zdg×Key×V=>(q.2.1,q.2.2))=(·.2) from rfl,ep,Y2,An WM]
 have nk:((zbc (fun r v=>((Sum.inl r.1:Key),v)) (aP pr.body 0) ws).map (·.1)).Nodup:=by
  rw[Co WM];exact qV pw
 rw[ek,nJ nk,show lD (zab "ways") (V.ref Rm) [(zab "names",V.ref D1),(zab "sizes",V.ref D3),(zab "first",V.ref D6),(zab "statements",V.ref D8)]=[(zab "names",V.ref D1),(zab "sizes",V.ref D3),(zab "first",V.ref D6),(zab "statements",V.ref D8),(zab "ways",V.ref Rm)] from rfl];have s16:=(So.trans Y4).trans (aq.new Rn (.dK (zbc (fun r v=>(Sum.inl r.1,v)) (aP pr.body 0) ws)));have UJ:=Y4.trans (aq.new Rn (.dK (zbc (fun r v=>(Sum.inl r.1,v)) (aP pr.body 0) ws)));have d10:(upd Ms Rm (.dK (zbc (fun r v=>(Sum.inl r.1,v)) (aP pr.body 0) ws))) Rm=some (.dK (zbc (fun r v=>(Sum.inl r.1,v)) (aP pr.body 0) ws)):=ah;generalize upd Ms Rm (.dK (zbc (fun r v=>(Sum.inl r.1,v)) (aP pr.body 0) ws))=WN at *;have Ro:=s16 _ _ Ed;have n10:Rm≠p:=cQ d10 Ro (by intro z;cases z);have put:∀fs,aU (·=p) WN (upd WN p (.ins t.aQ dx fs)):=fun fs=>aU.refl.put (O:=(·=p)) rfl _;have uE:=fun fs=>(aU.of s16).trans (put fs);have uA:=fun fs=>Oa.trans (uE fs);refine q _ (fun b o n e=>uA _ b o n e) ⟨⟨dx,D1,D3,D6,D5,D8,Rm,us,ws,ah,uA _ _ _ (cQ Pd hp (by intro z;cases z)) Pd,uE _ _ _ n1 d1,uE _ _ _ n3 d3,uE _ _ _ n6 d6,uE _ _ _ n5 d5,mm,uE _ _ _ n8 d8,oH Ed (uE _) _ _ r13,WM,put _ _ _ n10 d10,fun i hi=>?_⟩⟩;obtain⟨a,qq,e1,e2,q1,q2⟩:=hws i hi;refine⟨qq,e2,?_⟩;have q2:=UJ.aZ q2;rcases q2 with (q2 |⟨o,q2⟩) |q2
 ·exact .inl (.inl (put _ _ _ (cQ q2 Ro (by intro z;cases z)) q2))
 ·exact .inl (.inr ⟨o,put _ _ _ (cQ q2 Ro (by intro z;cases z)) q2⟩)
 ·exact .inr q2
theorem Ob{o:W}(ho:o=[43]\/o=[45]\/o=[42])(a b c:Int):cE (iO [] [((Sum.inr (zab "+"):Key),V.int a),(Sum.inr (zab "-"),V.int b),(Sum.inr (zab "*"),V.int c)]) (Sum.inr (S o))=some (V.int (if o=[43] then a else if o=[45] then b else c)):=by
 have nk:([(Sum.inr (zab "+"):Key),Sum.inr (zab "-"),Sum.inr (zab "*")]).Nodup:=by decide +kernel
 rw[iQ _ [] (by simpa using nk),zaX];have e1:(Sum.inr (zab "+"):Key)=Sum.inr (S [43]):=by decide +kernel
 have e2:(Sum.inr (zab "-"):Key)=Sum.inr (S [45]):=by decide +kernel
 have e3:(Sum.inr (zab "*"):Key)=Sum.inr (S [42]):=by decide +kernel
 have ne:∀x y:W,x≠y->¬(Sum.inr (S x):Key)=Sum.inr (S y):=fun x y n z=>n (pW.mp (Sum.inr.inj z));rw[e1,e2,e3];rcases ho with rfl |rfl |rfl
 ·rw[if_pos rfl,ck rfl]
 ·rw[if_neg (by decide),if_pos rfl,cm (ne _ _ (by decide)),ck rfl]
 ·rw[if_neg (by decide),if_neg (by decide),cm (ne _ _ (by decide)),cm (ne _ _ (by decide)),ck rfl]
theorem LC(T:Tx K mg t){n:Nat}(lq:bB P w K mg base dc n t.nh t.mC ["e", "values"] (Nx K n)) :
 bB P w K mg base dc (n+1) t.nh t.mC ["e", "values"] (Nx K (n+1)):=by
 refine T.jX.F.lX Cj (fun vs H Q E h=>?_) (fun eS A outer s H vs Q E hr h=>?_)
 ·obtain⟨_,_,_,_,rfl,_⟩:=h;rfl
 obtain⟨v,d,tr,kv,rfl,hv,hd,ok,ht,h6,q⟩:=h;have nd:=Cj.nd;have hu:=gZ hr;refine⟨_,[some v,some (.ref d),none,none,none],(ai (eL 2 nd (aC aD (pv 0) aj ao))
 (ai (a8 (aG bI (pv 2) aW (aM _))
 (ar (aH (aC aD (pv 0) aj ao)))
 aO)
 (ai (a8 (aG bI (pv 2) aW (aM _))
 (ar (aH (eF hu (pv 1) (aC aD (pv 0) aj ao) (fun _ _=>rfl))))
 aO)
 (ai (eL 3 nd (dP lq T.jX hr (ae (aC aD (pv 0) aj ao) (bw 1 ag) aV)))
 (ai (eL 4 nd (dP lq T.jX hr (ae (aC aD (pv 0) aj ao) (bw 1 ag) aV)))
 (ai (a8 (aG bI (pv 2) aW (aM _))
 (ar (aH (bz fH (pv 3) (pv 4))))
 aO)
 (ai (a8 (aG bI (pv 2) aW (aM _))
 (ar (aH (bz C6 (pv 3) (pv 4))))
 aO)
 (ar (aH (bz EU (pv 3) (pv 4))))))))))),rfl,?_⟩
 have n1:¬("box":Str) = "number":=by decide +kernel
 cases tr with
 |num m=>
  unfold ki at hv;simp only[Rep.aX,aI.aB,aI.bN,Rep.bt,Rep.bj] at hv;obtain⟨a,xs,rfl,hS,_,_,rfl,rfl,_,_,rfl,rfl,rfl⟩:=hv;walk_at "rd";refine ay hS rfl ?_;walk_at "rd";rw[if_pos trivial];exact ay hS rfl (q _ (aq.refl _))
 |box x=>
  unfold ki at hv;simp only[Rep.aX,aI.aB,aI.bN,Rep.bt,Rep.bj] at hv;obtain⟨a,xs,rfl,hS,_,_,rfl,rfl,_,_,rfl,rfl,rfl⟩:=hv;walk_at "rd";refine ay hS rfl ?_;walk_at "rd";rw[if_neg n1,if_pos trivial];obtain⟨i,e,_⟩:=ok;have q:=q _ (aq.refl _);rw[bX,DB e] at q;exact ay hS rfl ⟨d,.int i,rfl,rK.s hd e,q⟩
 |bin o l r=>
  unfold ki at hv;simp only[Rep.aX,aI.aB,aI.bN,Rep.bt,Rep.bj] at hv;obtain⟨a,xs,rfl,hS,_,_,rfl,rfl,vl,_,rfl,hl,vr,_,rfl,Y5,rfl⟩:=hv;obtain⟨ho,ol,or'⟩:=ok;have n2:¬S o = "number":=by rcases ho with rfl |rfl |rfl<;>decide +kernel
  have n3:¬S o = "box":=by rcases ho with rfl |rfl |rfl<;>decide +kernel
  have e1:(S o = "+")↔o=[43]:=by rw[show ("+":Str)=S [43] from rfl,pW]
  have e2:(S o = "-")↔o=[45]:=by rw[show ("-":Str)=S [45] from rfl,pW]
  walk_at "rd";refine ay hS rfl ?_;walk_at "rd";rw[if_neg n2,if_neg n3];have wl:=ma ol;have wr:=ma or';rw[mL] at ht h6;refine ay hS rfl ⟨vl,d,l,kv,rfl,hl,hd,ol,by lia,by lia,fun H1 s1=>?_⟩;refine ay (s1.aZ hS) rfl ⟨vr,d,r,kv,rfl,Y5.mono s1,s1 _ _ hd,or',by lia,by lia,fun H2 s2=>?_⟩;walk_at "rd";have q:=q _ (s1.trans s2);rw[bX] at q;refine dw (fun c=>?_) (fun c=>?_)
  ·rw[if_pos (e1.mp c)] at q;exact q
  rw[if_neg (fun z=>c (e1.mpr z))] at q;refine dw (fun c=>?_) (fun c=>?_)
  ·rw[if_pos (e2.mp c)] at q;exact q
  rw[if_neg (fun z=>c (e2.mpr z))] at q;exact⟨⟨zS wl (by lia),zS wr (by lia)⟩,q⟩
theorem uk(T:Tx K mg t):∀n,bB P w K mg base dc n t.nh t.mC ["e", "values"] (Nx K n)
 |0=>by
  have no:∀vs H Q E,¬Nx K 0 vs H Q E:=fun vs H Q E h=>by cases h;lia
  exact⟨fun vs H Q E h=>absurd h (no vs H Q E),fun A outer s H args us vs Q E _ _ _ _ h=>absurd h (no vs H Q E)⟩
 |n+1=>LC T (uk T n)
theorem HN(T:Tx K mg t){n:Nat}(dg:bB P w K mg base dc n t.eY t.fD ["e", "values"] (Nx K n)) :
 bB P w K mg base dc (n+1) t.eY t.fD ["e", "values"] (Nx K (n+1)):=by
 refine T.cS.F.lX qk (fun vs H Q E h=>?_) (fun eS A outer s H vs Q E hr h=>?_)
 ·obtain⟨_,_,_,_,rfl,_⟩:=h;rfl
 obtain⟨v,d,tr,kv,rfl,hv,hd,ok,ht,h6,q⟩:=h;have nd:=qk.nd;have hu:=gZ hr;refine⟨_,[some v,some (.ref d),none,none],(ai (a8 (aG bI (aC aD (pv 0) aj ao) aW (aM _))
 (ar (aH (aC aD (pv 0) aj ao)))
 aO)
 (ai (a8 (aG bI (aC aD (pv 0) aj ao) aW (aM _))
 (ar (aH (eF hu (pv 1) (aC aD (pv 0) aj ao) (fun _ _=>rfl))))
 aO)
 (ai (eL 2 nd (dP dg T.cS hr (ae (aC aD (pv 0) aj ao) (bw 1 ag) aV)))
 (ai (eL 3 nd (dP dg T.cS hr (ae (aC aD (pv 0) aj ao) (bw 1 ag) aV)))
 (ar (aH (eF hu (MZ (wc aW (bz fH (pv 2) (pv 3)) (wc aW (bz C6 (pv 2) (pv 3)) (wc aW (bz EU (pv 2) (pv 3)) MY))) rfl rfl (by simp) (by decide)) (aC aD (pv 0) aj ao) (fun _ _=>rfl)))))))),rfl,?_⟩
 have n1:¬("box":Str) = "number":=by decide +kernel
 cases tr with
 |num m=>
  unfold ki at hv;simp only[Rep.aX,aI.aB,aI.bN,Rep.bt,Rep.bj] at hv;obtain⟨a,xs,rfl,hS,_,_,rfl,rfl,_,_,rfl,rfl,rfl⟩:=hv;walk_at "rd";refine ay hS rfl ⟨rfl,?_⟩;rw[if_pos rfl];exact ay hS rfl (q _ (aq.refl _))
 |box x=>
  unfold ki at hv;simp only[Rep.aX,aI.aB,aI.bN,Rep.bt,Rep.bj] at hv;obtain⟨a,xs,rfl,hS,_,_,rfl,rfl,_,_,rfl,rfl,rfl⟩:=hv;walk_at "rd";refine ay hS rfl ⟨rfl,?_⟩;rw[if_neg (fun z=>n1 (V.str.inj z))];refine ay hS rfl ⟨rfl,?_⟩;rw[if_pos rfl];obtain⟨i,e,_⟩:=ok;have q:=q _ (aq.refl _);rw[bX,DB e] at q;exact ay hS rfl ⟨d,.int i,rfl,rK.s hd e,q⟩
 |bin o l r=>
  unfold ki at hv;simp only[Rep.aX,aI.aB,aI.bN,Rep.bt,Rep.bj] at hv;obtain⟨a,xs,rfl,hS,_,_,rfl,rfl,vl,_,rfl,hl,vr,_,rfl,Y5,rfl⟩:=hv;obtain⟨ho,ol,or'⟩:=ok;have n2:¬S o = "number":=by rcases ho with rfl |rfl |rfl<;>decide +kernel
  have n3:¬S o = "box":=by rcases ho with rfl |rfl |rfl<;>decide +kernel
  walk_at "rd";refine ay hS rfl ⟨rfl,?_⟩;rw[if_neg (fun z=>n2 (V.str.inj z))];refine ay hS rfl ⟨rfl,?_⟩;rw[if_neg (fun z=>n3 (V.str.inj z))];have wl:=ma ol;have wr:=ma or';rw[mL] at ht h6;refine ay hS rfl ⟨vl,d,l,kv,rfl,hl,hd,ol,by lia,by lia,fun H1 s1=>?_⟩;refine ay (s1.aZ hS) rfl ⟨vr,d,r,kv,rfl,Y5.mono s1,s1 _ _ hd,or',by lia,by lia,fun H2 s2=>?_⟩;simp only[OM,zI];walk_at "rd";intro p hp;refine⟨⟨zS wl (by lia),zS wr (by lia)⟩,ah,[(.inr (zab "+"),.int (bX (wB kv) l+bX (wB kv) r)),(.inr (zab "-"),.int (bX (wB kv) l-bX (wB kv) r)),(.inr (zab "*"),.int (bX (wB kv) l*bX (wB kv) r))],rfl,by simp,?_⟩;have s3:=aq.new hp (.dK []);have sE:aq H2 (upd (upd H2 p (.dK [])) p (.dK (iO [] [(.inr (zab "+"),.int (bX (wB kv) l+bX (wB kv) r)),(.inr (zab "-"),.int (bX (wB kv) l-bX (wB kv) r)),(.inr (zab "*"),.int (bX (wB kv) l*bX (wB kv) r))]))):=by
   rw[MC];exact aq.new hp _
  refine ay (((s1.trans s2).trans sE).aZ hS) (v:=.str (S o)) (au (j:=0) rfl) ⟨p,.int (bX (wB kv) (.bin o l r)),rfl,rK.s ah ?_,q _ ((s1.trans s2).trans sE)⟩;rw[bX];exact Ob ho _ _ _
theorem qW(T:Tx K mg t):∀n,bB P w K mg base dc n t.eY t.fD ["e", "values"] (Nx K n)
 |0=>by
  have no:∀vs H Q E,¬Nx K 0 vs H Q E:=fun vs H Q E h=>by cases h;lia
  exact⟨fun vs H Q E h=>absurd h (no vs H Q E),fun A outer s H args us vs Q E _ _ _ _ h=>absurd h (no vs H Q E)⟩
 |n+1=>HN T (qW T n)
theorem uW(T:Tx K mg t):bB P w K mg base dc 1 t.kG t.kX ["chart", "parts"] (yu K t.aQ):=by
 refine T.kK.F.lX uP (fun vs H Q E h=>?_) (fun eS A outer s H vs Q E hr h=>?_)
 ·obtain⟨_,_,_,_,rfl,_⟩:=h;rfl
 obtain⟨p,a,pr,us,rfl,co,ha,lu,nb,lb,q⟩:=h;have nd:=uP.nd;refine⟨_,[some (.ref p),some (.ref a)],(ar (aH (qA rfl rfl T.jD rfl T.Cm (ae (iN (pv 0) rfl) (bw 1 ag) E1)))),rfl,?_⟩;obtain⟨dx,nl,sd,fa,va,st,wy,uu,ws,h1,h2,h3,_⟩:=co.at_;walk_at "rd";simp only[Wo];walk_at "rd";refine⟨p,_,dx,_,.ref nl,rfl,h1,T.cM,T.gg,rfl,?_⟩;refine⟨nl,a,pr.ax.map fun b=>.inr (S b.name),us,rfl,?_,ha,by rw[zac];exact lu,fun d hd=>?_⟩
 ·rw[zaQ];exact .of h3
 ·rw[mW,iQ _ [] (by rw[zaX,kR _ _ lu];exact names_nodup nb),zaX];exact q d _ (aq.new hd _) hd ah
theorem Cp(T:Tx K mg t):bB P w K mg base dc 1 t.kH t.kY ["chart", "named"] (yv K t.aQ):=by
 refine T.nC.F.lX uQ (fun vs H Q E h=>?_) (fun eS A outer s H vs Q E hr h=>?_)
 ·obtain⟨_,_,_,_,_,rfl,_⟩:=h;rfl
 obtain⟨p,d,pr,kvs,us,rfl,co,hd,lu,hv,lb,q⟩:=h;have nd:=uQ.nd;have hu:=gZ hr;refine⟨_,[some (.ref p),some (.ref d)],(ar (aH (cf lE rfl T.sV PyProof.Rows.Boot.«tuple» (ae (cK (own:=["name"]) (ix:=[1]) rfl (by rfl) (by rfl) (bD (iN (pv 0) rfl)) (fun _ _ _ _=>(bC (i:=0) (by show List.Nodup (["name", "named"]:List Str);decide +kernel) rfl (zaC rfl))) (fun _ _ _ _=>dM) (fun _ _ _ _=>(eF hu (pv 1) (pv 0) (fun _ _=>rfl)))) ag hZ)))),rfl,?_⟩;obtain⟨dx,nl,sd,fa,va,st,wy,uu,ws,h1,h2,h3,_⟩:=co.at_;walk_at "rd";simp only[fg];walk_at "rd";have ln:(pr.ax.map fun b=>V.str (S b.name)).length=pr.ax.length:=zac ..;refine⟨p,_,dx,_,.ref nl,rfl,h1,T.cM,T.gg,rfl,nl,rfl,⟨_,.of h3⟩,fun D hD=>?_⟩;refine j7 (K:=K) (r:=[some (V.ref d)]) (fun i=>us.getD i .cx) (.of h3) (by rw[ln];lia) hD (fun i x H2 hx s2 R hR=>?_) (fun H2 s2 h2=>⟨D,_,rfl,.inl ⟨.of h2,fun l hl=>?_⟩⟩)
 ·have li:i<pr.ax.length:=by have:=(zak.mp hx).1;rw[ln] at this;exact this
  rw[zar,zad li] at hx;cases hx;have g:=hv i li;have li2:i<us.length:=by lia
  rw[zad li2] at g;have e:us.getD i .cx=us[i]:=by rw[zan,zad li2];rfl
  rw[e] at hR;walk_at "rd";exact⟨d,us[i],rfl,rK.s (s2 _ _ hd) g,hR⟩
 ·have e:(zaF (pr.ax.map fun b=>V.str (S b.name)).length).map (fun i=>us.getD i .cx)=us:=by
   rw[ln,<- lu];have:=iT (fun v:V=>v) V.cx us;rw[List.map_id'] at this;exact this
  rw[e];exact q l _ (s2.trans (aq.new hl _)) (.of ah)
theorem qX(T:Tx K mg t):bB P w K mg base dc 1 t.mD t.nj ["chart", "row"] (BD K t.aQ):=by
 refine T.kb.F.lX wY (fun vs H Q E h=>?_) (fun eS A outer s H vs Q E hr h=>?_)
 ·obtain⟨_,_,_,rfl,_⟩:=h;rfl
 obtain⟨p,pr,row,rfl,co,pw,q⟩:=h;have nd:=wY.nd;have hu:=gZ hr;obtain⟨LA,xj,xk⟩:=T.Al;refine⟨_,[some (.ref p),some (.int row)],(ai (a8 (aG bI (pv 1) (pe rfl xj xk) (aM _))
 (ar (aH aW))
 aO)
 (ar (aH (aC aD (eF hu (iN (pv 0) rfl) (pv 1) (fun _ _=>rfl)) aj ao)))),rfl,?_⟩
 obtain⟨dx,nl,sd,fa,va,st,wy,uu,ws,h1,h2,h3,h4,h5,h6,h7,h8,h9,_⟩:=co.at_;walk_at "rd";rcases q with ⟨rfl,q⟩ |⟨n0,i,hi,er,q⟩
 ·exact(if_pos rfl).mpr q
 ·refine(if_neg n0).mpr ⟨p,_,dx,_,.ref st,rfl,h1,T.cM,T.cH,rfl,?_⟩;have li:i<uu.length:=by lia
  obtain⟨v,hv,rv⟩:=h9.get (i:=i) (d:=dO (av pr.body)[i]) (by rw[zar,zad hi];rfl);have g:=rV _ _ h7 pw i hi v hv;obtain⟨sa,ys,rfl,hs⟩:=fw _ rv;rw[er] at g;exact⟨st,.ref sa,rfl,.inl ⟨_,.inl row,.inl h8,rfl,g.symm⟩,ay hs (v:=.str (lT (av pr.body)[i].wd)) (au (j:=0) rfl) q⟩
theorem Cq(T:Tx K mg t):bB P w K mg base dc 4 t.sT t.sU ["chart", "standing"] (Fj K t.aQ):=by
 have qY:=uW (P:=P) (w:=w) (base:=base) T;have lq:=uk (P:=P) (w:=w) (base:=base) T 3;refine T.pM.F.lX Ck (fun vs H Q E h=>?_) (fun eS A outer s H vs Q E hr h=>?_)
 ·obtain⟨_,_,_,_,_,_,_,_,_,rfl,_⟩:=h;rfl
 obtain⟨p,sa,pr,vals,i,hi,sg,l,r,rfl,co,ok,⟨va,LD,LF⟩,lv,cp,tl,tr,q⟩:=h;have nd:=Ck.nd;have hu:=gZ hr;refine⟨_,[some (.ref p),some (.ref sa),none,none,none,none],(ai (eL 2 nd (eF hu (iN (pv 0) rfl) (aC aD (pv 1) aj ao) (fun _ _=>rfl)))
 (ai (eL 3 nd (dP qY T.kK hr (bw 0 (ae (aC aD (pv 1) aj ao) ag aV))))
 (ai (eL 4 nd (dP lq T.jX hr (ae (aC aD (pv 2) aj ao) (bw 3 ag) aV)))
 (ai (eL 5 nd (dP lq T.jX hr (ae (aC aD (pv 2) aj ao) (bw 3 ag) aV)))
 (ai (a8 (aG bI (aC aD (pv 2) aj ao) aW (aM _))
 (ar (aH (da pV (pv 4) (pv 5) (aM _))))
 aO)
 (ar (aH (da bI (pv 4) (pv 5) (aM _))))))))),rfl,?_⟩
 obtain⟨dx,nl,sd,fa,wa,st,wy,uu,ws,h1,h2,h3,h4,h5,h6,h7,h8,h9,_⟩:=co.at_;have li:i<uu.length:=by lia
 obtain⟨v,hv,rv⟩:=h9.get (i:=i) (d:=dO (av pr.body)[i]) (by rw[zar,zad hi];rfl);have g:=rV _ _ h7 ok.pw i hi v hv;obtain⟨ta,w0,vl,vr,ys,rfl,hs,rl,rr⟩:=qE rv cp;generalize (av pr.body)[i]=sm at *;have e1:(V.str (S sg)=V.str (zab "<"))↔sg=[60]:=by rw[show (zab "<":Str)=S [60] from rfl,V.str.injEq,pW]
 refine ak fun U1 fe=>?_;walk_at "rd";refine⟨p,_,dx,_,.ref st,rfl,h1,T.cM,T.cH,rfl,?_⟩;refine ay LD (v:=.int sm.row) (au (j:=0) rfl) ⟨st,.ref ta,rfl,.inl ⟨_,.inl sm.row,.inl h8,rfl,g.symm⟩,(fe _ _).mpr (ak fun U2 fJ=>?_)⟩;clear fe;walk_at "rd";refine ay LD (v:=.ref va) (au (j:=1) rfl) ⟨p,va,pr,vals.map V.int,rfl,co,LF,by rw[zac];exact lv,ok.nb,ok.pG,fun d H2 s2 hd2 y2=>(fJ _ _).mpr (ak fun U3 fk=>?_)⟩;clear fJ;walk_at "rd";refine ay (s2.aZ hs) (v:=vl) (au (j:=3) rfl) ⟨vl,d,l,_,rfl,rl.mono s2,y2,tl.1,by have:=tl.2;lia,by have:=tl.2;lia,fun H3 s3=>(fk _ _).mpr (ak fun U4 jJ=>?_)⟩;clear fk;walk_at "rd";refine ay ((s2.trans s3).aZ hs) (v:=vr) (au (j:=4) rfl) ⟨vr,d,r,_,rfl,rr.mono (s2.trans s3),s3 _ _ y2,tr.1,by have:=tr.2;lia,by have:=tr.2;lia,fun H4 s4=>(jJ _ _).mpr ?_⟩;clear jJ;have q:=q _ ((s2.trans s3).trans s4);unfold dC at q;walk_at "rd";refine ay (((s2.trans s3).trans s4).aZ hs) (v:=.str (S sg)) (au (j:=2) rfl) ⟨rfl,dw (fun e=>?_) (fun e=>?_)⟩
 ·rw[if_pos (e1.mp e)] at q;exact q
 ·rw[if_neg (fun z=>e (e1.mpr z))] at q;exact q
theorem pT(T:Tx K mg t):bB P w K mg base dc 5 t.dv t.eI ["chart", "standing"] (yC K t.aQ):=by
 have vN:=Cq (P:=P) (w:=w) (base:=base) T;have mJ:=qX (P:=P) (w:=w) (base:=base) T;refine T.eZ.F.lX jI (fun vs H Q E h=>?_) (fun eS A outer s H vs Q E hr h=>?_)
 ·obtain⟨_,_,_,_,_,_,_,_,_,_,rfl,_⟩:=h;rfl
 obtain⟨p,sa,pr,vals,i,hi,hf,sg,l,r,rfl,co,ok,kN,lv,cp,tl,tr,w0,w1,q⟩:=h;have nd:=jI.nd;have hu:=gZ hr;refine⟨_,[some (.ref p),some (.ref sa),none],(ai (eL 2 nd (aC aD (pv 1) aj ao))
 (ai (a8 (mM (dP vN T.pM hr (bw 0 (bw 1 ag))))
 (ar (aH (aL (ae (aC aD (eF hu (iN (pv 0) rfl) (pv 2) (fun _ _=>rfl)) aj ao) (ae (aC aD (pv 1) aj ao) ag aV) aV))))
 aO)
 (ai (a8 (aG bI (dP mJ T.kb hr (bw 0 (bw 2 ag))) aW (aM _))
 (ar (aH iM))
 aO)
 (ar (aH (aL (ae (aC aD (eF hu (iN (pv 0) rfl) (pv 2) (fun _ _=>rfl)) aj ao) (ae (aC aD (pv 1) aj ao) ag aV) aV))))))),rfl,?_⟩
 obtain⟨va,LD,LF⟩:=id kN;have aeV:=ok.pos _ (zat hi);refine ak fun U1 fe=>?_;walk_at "rd";refine ay LD (v:=.int (av pr.body)[i].row) (au (j:=0) rfl) ((fe _ _).mpr ?_);clear fe;walk_at "rd";refine⟨p,sa,pr,vals,i,hi,sg,l,r,rfl,co,ok,kN,lv,cp,tl,tr,fun H2 s2=>?_⟩;obtain⟨dx,fs,wy,wq,g1,g2,g3,g4⟩:=(co.mono s2).way ok i hi hf;have qq:∀(j:Nat) (x:Int),(aP pr.body 0)[i].2.2[j]?=some x->tK ((aP pr.body 0)[i].2.2.map V.int) (j:Int)=some (V.int x):=fun j x e=>au (by rw[zar,e];rfl);have back:∀(x:Int) (H3:Hp),aq H2 H3->∀pp,H3 pp=none->rW K (upd H3 pp (.tup [V.int x,V.ref va])) (some (x,vals)) (.ref pp):=fun x H3 s3 pp CT=>⟨pp,rfl,va,.of ah,((s2.trans s3).trans (aq.new CT _)).aZ LF⟩
 unfold fV at q;rw[cp] at q;simp only at q;refine⟨_,rfl,dw (fun e=>?_) (fun e=>?_)⟩
 ·rw[if_pos e] at q;have e0:(aP pr.body 0)[i].2.2[0]?=some ((aP pr.body 0)[i].2.2.getD 0 0):=by rw[zan,zad w0];rfl
  refine⟨p,_,dx,fs,.ref wy,rfl,g1,T.cM,T.fG,g2,wy,.ref wq,rfl,g3,ay g4 (v:=.int ((aP pr.body 0)[i].2.2.getD 0 0)) (qq 0 _ e0) (ay (s2.aZ LD) (v:=.ref va) (au (j:=1) rfl) fun pp CT=>?_)⟩;exact q _ _ (s2.trans (aq.new CT _)) (back _ _ (aq.refl _) pp CT)
 ·rw[if_neg e] at q;refine⟨p,pr,_,rfl,co.mono s2,ok.pw,.inr ⟨by lia,i,hi,rfl,rfl,dw (fun e2=>?_) (fun e2=>?_)⟩⟩
  ·have ew:(av pr.body)[i].wd=.bW:=(tW _).mp e2;rw[if_pos ew] at q;exact q _ _ s2 rfl
  ·have ew:(av pr.body)[i].wd≠.bW:=fun z=>e2 ((tW _).mpr z);rw[if_neg ew] at q;have w1:=w1 ew;have e1:(aP pr.body 0)[i].2.2[1]?=some ((aP pr.body 0)[i].2.2.getD 1 0):=by rw[zan,zad w1];rfl
   refine⟨p,_,dx,fs,.ref wy,rfl,g1,T.cM,T.fG,g2,wy,.ref wq,rfl,g3,ay g4 (v:=.int ((aP pr.body 0)[i].2.2.getD 1 0)) (qq 1 _ e1) (ay (s2.aZ LD) (v:=.ref va) (au (j:=1) rfl) fun pp CT=>?_)⟩;exact q _ _ (s2.trans (aq.new CT _)) (back _ _ (aq.refl _) pp CT)
theorem FV:∀w:Wd,R8 (V.str (lT w)) [V.str (zab "must"),V.str (zab "if"),V.str (zab "while")]=decide (w=.bW\/w=.ifs\/w=.eU):=by
 intro w;cases w<;>decide +kernel
theorem Ee:∀w:Wd,(lT w=zab "ask")↔w=.ask:=by
 intro w;cases w<;>decide +kernel
theorem Oc:∀w:Wd,(lT w=zab "put")↔w=.put:=by
 intro w;cases w<;>decide +kernel
theorem UK:∀w:Wd,(lT w=zab "say")↔w=.say:=by
 intro w;cases w<;>decide +kernel
theorem rW.mono{H H':Hp}{o:Option (Int×List Int)}{v:V}(h:rW K H o v)(s:aq H H'):rW K H' o v:=by
 cases o with
 |none=>exact h
 |some x=>obtain⟨a,e,sa⟩:=h;exact⟨a,e,sa.mono s⟩
theorem cond_of{bs:List gF}{vals:List Int}{st:bq}(h:st.wd=.bW\/st.wd=.ifs\/st.wd=.eU)(po:Fl bs vals st):∃sg l r,nQ st=some (sg,l,r)/\AX bs vals l/\AX bs vals r/\∀ws Ml,ko bs st ws vals Ml=(fV bs st ws vals,none):=by
 cases st<;>simp only[bq.wd,reduceCtorEq,or_self,or_false,false_or] at h<;>exact⟨_,_,_,rfl,po.1,po.2,fun _ _=>rfl⟩
theorem LG{st:bq}(h:st.wd=.ask):∃k b,st=.ask k b:=by
 cases st<;>first |exact⟨_,_,rfl⟩ |cases h
theorem LH{st:bq}(h:st.wd=.put):∃k b e,st=.put k b e:=by
 cases st<;>first |exact⟨_,_,_,rfl⟩ |cases h
theorem Rp{st:bq}(h:st.wd=.say):∃k e,st=.say k e:=by
 cases st<;>first |exact⟨_,_,rfl⟩ |cases h
theorem Od{st:bq}(h0:¬(st.wd=.bW\/st.wd=.ifs\/st.wd=.eU))(h1:st.wd≠.ask)(h2:st.wd≠.put)(h3:st.wd≠.say):∃k,st=.stop k:=by
 cases st<;>simp only[bq.wd,reduceCtorEq,or_self,or_false,false_or,not_true,not_false_iff,ne_eq] at h0 h1 h2 h3<;>exact⟨_,rfl⟩
theorem yZ{H:Hp}{k:Int}{b:W}{v:V}(h:Rep K H (dO (.ask k b)) v):∃a,v=.ref a/\b8 K H a [.str "ask",.int k,.str (S b)]:=by
 simp only[dO,Rep.aX,aI.aB,aI.bN,Rep.bt,Rep.bj] at h;obtain⟨a,ys,rfl,hS,_,_,rfl,rfl,_,_,rfl,rfl,_,_,rfl,rfl,rfl⟩:=h;exact⟨a,rfl,hS⟩
theorem zd{H:Hp}{k:Int}{b:W}{e:PM.Tr}{v:V}(h:Rep K H (dO (.put k b e)) v):∃a u,v=.ref a/\b8 K H a [.str "put",.int k,.str (S b),u]/\Rep K H (ki e) u:=by
 simp only[dO,Rep.aX,aI.aB,aI.bN,Rep.bt,Rep.bj] at h;obtain⟨a,ys,rfl,hS,_,_,rfl,rfl,_,_,rfl,rfl,_,_,rfl,rfl,u,_,rfl,ru,rfl⟩:=h;exact⟨a,u,rfl,hS,ru⟩
theorem HP{H:Hp}{k:Int}{e:PM.Tr}{v:V}(h:Rep K H (dO (.say k e)) v):∃a u,v=.ref a/\b8 K H a [.str "say",.int k,u]/\Rep K H (ki e) u:=by
 simp only[dO,Rep.aX,aI.aB,aI.bN,Rep.bt,Rep.bj] at h;obtain⟨a,ys,rfl,hS,_,_,rfl,rfl,_,_,rfl,rfl,u,_,rfl,ru,rfl⟩:=h;exact⟨a,u,rfl,hS,ru⟩
theorem zp(vals:List Int)(j:Nat)(x:Int):(vals.map V.int).set j (.int x)=(vals.set j x).map V.int:=by
 rw[List.map_set]
theorem um{bs:List gF}(bp:∀b∈bs,0<b.size)(x:W):0<eC bs x:=by
 unfold eC;cases e:bs[dq bs x]? with
 |none=>decide
 |some b=>exact bp b (zaz e)
theorem Ef(T:Tx K mg t):bB P w K mg base dc 6 t.mE t.nu ["chart", "standing", "figure"] (BF K t.aQ):=by
 have qZ:=pT (P:=P) (w:=w) (base:=base) T;have qY:=uW (P:=P) (w:=w) (base:=base) T;have Eg:=Cp (P:=P) (w:=w) (base:=base) T;have lq:=uk (P:=P) (w:=w) (base:=base) T 3;refine T.mG.F.lX wZ (fun vs H Q E h=>?_) (fun eS A outer s H vs Q E hr h=>?_)
 ·obtain⟨_,_,_,_,_,_,_,_,_,rfl,_⟩:=h;rfl
 obtain⟨p,sa,fv,pr,vals,Ml,i,hi,hf,rfl,co,ok,bp,kN,lv,WO,po,w0,w1,q⟩:=h;have nd:=wZ.nd;have hu:=gZ hr;refine⟨_,[some (.ref p),some (.ref sa),some fv,none,none,none,none,none],(ai (eL 3 nd (aC aD (pv 1) aj ao))
 (ai (eL 4 nd (eF hu (iN (pv 0) rfl) (pv 3) (fun _ _=>rfl)))
 (ai (eL 5 nd (aC aD (pv 4) aj ao))
 (ai (a8 (aG j5 (pv 5) (aL (cg (vs:=[.str "must",.str "if",.str "while"]) (by kernel_rfl))) rfl)
 (ar (aH (aL (ae (dP qZ T.eZ hr (bw 0 (bw 1 ag))) (ae iM ag aA) a7))))
 aO)
 (ai (eL 6 nd (dP qY T.kK hr (bw 0 (ae (aC aD (pv 1) aj ao) ag aV))))
 (ai (eL 7 nd iM)
 (ai (a8 (aG bI (pv 5) aW (aM _))
 (ar (zH hu (pv 6) (aC aD (pv 4) aj ao) (bz ke (pv 2) (eF hu (iN (pv 0) rfl) (aC aD (pv 4) aj ao) (fun _ _=>rfl))) rfl))
 (ar (a8 (aG bI (pv 5) aW (aM _))
 (ar (zH hu (pv 6) (aC aD (pv 4) aj ao) (bz ke (dP lq T.jX hr (ae (aC aD (pv 4) aj ao) (bw 6 ag) aV)) (eF hu (iN (pv 0) rfl) (aC aD (pv 4) aj ao) (fun _ _=>rfl))) rfl))
 (ar (a8 (aG bI (pv 5) aW (aM _))
 (ar (eL 7 nd (dP lq T.jX hr (ae (aC aD (pv 4) aj ao) (bw 6 ag) aV))))
 aO)))))
 (ar (aH (aL (ae (aL (ae (aC aD (eF hu (iN (pv 0) rfl) (pv 3) (fun _ _=>rfl)) aj ao) (ae (dP Eg T.nC hr (bw 0 (bw 6 ag))) ag a7) aV)) (bw 7 ag) bA))))))))))),rfl,?_⟩
 obtain⟨va,LD,LF⟩:=id kN;obtain⟨dx,nl,sd,fa,WQ,st,wy,uu,ws,h1,h2,h3,h4,h5,h6,h7,h8,h9,_⟩:=co.at_;have li:i<uu.length:=by lia
 obtain⟨v,hv,rv⟩:=h9.get (i:=i) (d:=dO (av pr.body)[i]) (by rw[zar,zad hi];rfl);have g:=rV _ _ h7 ok.pw i hi v hv;have sel:∃ta ds,v=.ref ta/\b8 K H ta (.str (lT (av pr.body)[i].wd)::ds):=by
  generalize (av pr.body)[i]=sm at rv;cases sm<;>(rw[dO,Rep.aX] at rv;obtain⟨ta,ys,rfl,hs,rs⟩:=rv;rw[aI.aB] at rs;obtain⟨v0,t0,rfl,e0,rs⟩:=rs;rw[Rep.bt] at e0;subst e0;exact⟨ta,_,rfl,hs⟩)
 obtain⟨ta,ds,rfl,hs⟩:=sel;refine ak fun U1 fe=>?_;walk_at "rd";refine ay LD (v:=.int (av pr.body)[i].row) (au (j:=0) rfl) ((fe _ _).mpr (ak fun U2 fJ=>?_));clear fe;walk_at "rd";refine⟨p,_,dx,_,.ref st,rfl,h1,T.cM,T.cH,rfl,⟨st,.ref ta,rfl,.inl ⟨_,.inl _,.inl h8,rfl,g.symm⟩,(fJ _ _).mpr (ak fun U3 fk=>?_)⟩⟩;clear fJ;walk_at "rd";refine ay hs (v:=.str (lT (av pr.body)[i].wd)) (au (j:=0) rfl) ((fk _ _).mpr ?_);clear fk;refine ak fun U4 jJ=>?_;walk_at "rd";intro z hz;have sz:=aq.new hz (HO.tup [V.str (zab "must"),V.str (zab "if"),V.str (zab "while")]);refine⟨z,_,rfl,.inr (.of ah),rfl,rfl,_,rfl,dw (fun e=>?_) (fun e=>?_)⟩
 ·have e:=e;simp only[zaG,if_false,FV,decide_eq_true_eq] at e;obtain⟨sg,l,r,cp,tl,tr,es⟩:=cond_of e po;rw[es] at q;refine⟨p,sa,pr,vals,i,hi,hf,sg,l,r,rfl,co.mono sz,ok,kN.mono sz,lv,cp,tl,tr,w0,fun nm=>w1 (by rcases e with e |e |e;exact absurd e nm;exact .inl e;exact .inr e),fun v H2 s2 os pp CT=>?_⟩;exact q pp v _ ((sz.trans s2).trans (aq.new CT _)) (.of ah) (rW.mono os (aq.new CT _))
 have e0:=e;simp only[zaG,if_false,FV,decide_eq_true_eq] at e0;refine(jJ _ _).mpr (ak fun U5 rn=>?_);clear jJ e;walk_at "rd";refine ay (sz.aZ LD) (v:=.ref va) (au (j:=1) rfl) ⟨p,va,pr,vals.map V.int,rfl,co.mono sz,sz.aZ LF,by rw[zac];exact lv,ok.nb,ok.pG,fun d H2 s2' hd2 y2=>(rn _ _).mpr (ak fun U6 Ao=>?_)⟩;clear rn;have s2:=sz.trans s2';have hd:=sz.free hd2;walk_at "rd";refine(Ao _ _).mpr (ak fun U7 Iw=>?_);clear Ao;have fin:∀(H5:Hp) (kvs:List (Key×V)) (us:List Int) (sd:Option Int),aq H H5->H5 d=some (.dK kvs)->us.length=pr.ax.length->(∀i (hi:i<pr.ax.length),cE kvs (.inr (S pr.ax[i].name))=(us.map V.int)[i]?)->
  ko pr.ax (av pr.body)[i] (aP pr.body 0)[i].2.2 vals Ml=(some ((aP pr.body 0)[i].2.2.getD 0 0,us),sd)->
  U7 [some (.ref p),some (.ref sa),some fv,some (.int (av pr.body)[i].row),some (.ref ta),some (.str (lT (av pr.body)[i].wd)),some (.ref d),some (OX sd)] H5:=by
  intro H5 kvs us sd' s5 hd5 lu look es;rw[es] at q;refine(Iw _ _).mpr ?_;clear Iw;walk_at "rd";obtain⟨dx,fs,wy,wq,g1,g2,g3,g4⟩:=(co.mono s5).way ok i hi hf;have e0:(aP pr.body 0)[i].2.2[0]?=some ((aP pr.body 0)[i].2.2.getD 0 0):=by rw[zan,zad w0];rfl
  have qq:tK ((aP pr.body 0)[i].2.2.map V.int) ((0:Nat):Int)=some (V.int ((aP pr.body 0)[i].2.2.getD 0 0)):=au (by rw[zar,e0];rfl);refine⟨p,_,dx,fs,.ref wy,rfl,g1,T.cM,T.fG,g2,wy,.ref wq,rfl,g3,ay g4 (v:=.int ((aP pr.body 0)[i].2.2.getD 0 0)) qq ?_⟩;refine⟨p,d,pr,kvs,us.map V.int,rfl,co.mono s5,hd5,by rw[zac];exact lu,look,ok.pG,fun a H6 s6 sq p1 yU p2 wb=>?_⟩;exact q p2 _ _ (((s5.trans s6).trans (aq.new yU _)).trans (aq.new wb _)) (.of ah) ⟨p1,rfl,a,(aq.new wb _).aZ (.of ah),((aq.new yU _).trans (aq.new wb _)).aZ sq⟩
 have UL:(cw pr.ax (vals.map V.int)).length<zdo:=by
  have line:zdo=2 ^ 24:=rfl;have:=ok.pG;unfold cw;rw[List.length_zipWith];lia
 have keep:∀i (hi:i<pr.ax.length),cE (cw pr.ax (vals.map V.int)) (.inr (S pr.ax[i].name))=(vals.map V.int)[i]?:=fun i hi=>by
  have li:i<(vals.map V.int).length:=by rw[zac];lia
  rw[md pr.ax (vals.map V.int) (by rw[zac];exact lv) ok.nb i hi _ (zad li),zad li]
 have put:∀(b:W),b∈pr.ax.map (·.name)->∀(x:Int),(qF pr.ax vals b x).length=pr.ax.length/\∀i (hi:i<pr.ax.length),cE (putK (cw pr.ax (vals.map V.int)) (.inr (S b)) (.int x)) (.inr (S pr.ax[i].name))=((qF pr.ax vals b x).map V.int)[i]?:=fun b hb x=>by
  refine⟨by unfold qF;rw[zcT];exact lv,fun i hi=>?_⟩;rw[DC (by rw[zac];exact lv) ok.nb hb,zp];rfl
 have UM:∀H3 o,aq H H3->aq H (upd H3 d o):=fun H3 o s3=>((bo.of s3:bo d H H3).put o).same hd;walk_at "rd";refine dw (fun e=>?_) (fun e=>?_)
 ·obtain⟨k,b,Mt⟩:=LG ((Ee _).mp e);have rv:=rv;rw[Mt] at rv po;obtain⟨_,ee,hT⟩:=yZ rv;cases ee;have Y6:=WO ((Ee _).mp e);subst Y6;obtain⟨l1,l2⟩:=put b po (Ml%eC pr.ax b);refine⟨p,_,dx,_,.ref sd,rfl,s2 _ _ h1,T.cM,T.gh,rfl,ay (s2.aZ hT) (v:=.str (S b)) (au (j:=2) rfl) ⟨sd,.int (eC pr.ax b),rfl,.inl ⟨_,.inr (S b),.inl (s2 _ _ h4),rfl,(BE ok.nb po).symm⟩,?_⟩⟩;refine⟨_,_,rfl,rfl,um bp b,ay (s2.aZ hT) (v:=.str (S b)) (au (j:=2) rfl) ⟨d,_,rfl,.inl ⟨_,.inr (S b),y2,rfl,UL,rfl⟩,?_⟩⟩;exact fin _ _ _ none (UM _ _ s2) ah l1 l2 (by rw[Mt];rfl)
 refine dw (fun e2=>?_) (fun e2=>?_)
 ·obtain⟨k,b,tr,Mt⟩:=LH ((Oc _).mp e2);have rv:=rv;rw[Mt] at rv po;obtain⟨_,u,ee,hT,ru⟩:=zd rv;cases ee;obtain⟨l1,l2⟩:=put b po.1 (wv pr.ax vals tr%eC pr.ax b);refine ay (s2.aZ hT) (v:=u) (au (j:=3) rfl) ⟨u,d,tr,_,rfl,ru.mono s2,y2,po.2.1,by have:=po.2.2;lia,by have:=po.2.2;lia,fun H3 UN=>?_⟩;have s3:=s2.trans UN;refine⟨p,_,dx,_,.ref sd,rfl,s3 _ _ h1,T.cM,T.gh,rfl,ay (s3.aZ hT) (v:=.str (S b)) (au (j:=2) rfl) ⟨sd,.int (eC pr.ax b),rfl,.inl ⟨_,.inr (S b),.inl (s3 _ _ h4),rfl,(BE ok.nb po.1).symm⟩,?_⟩⟩;refine⟨_,_,rfl,rfl,um bp b,ay (s3.aZ hT) (v:=.str (S b)) (au (j:=2) rfl) ⟨d,_,rfl,.inl ⟨_,.inr (S b),UN _ _ y2,rfl,UL,rfl⟩,?_⟩⟩;exact fin _ _ _ none (UM _ _ s3) ah l1 l2 (by rw[Mt];rfl)
 refine dw (fun e3=>?_) (fun e3=>?_)
 ·obtain⟨k,tr,Mt⟩:=Rp ((UK _).mp e3);have rv:=rv;rw[Mt] at rv po;obtain⟨_,u,ee,hT,ru⟩:=HP rv;cases ee;refine ay (s2.aZ hT) (v:=u) (au (j:=2) rfl) ⟨u,d,tr,_,rfl,ru.mono s2,y2,po.1,by have:=po.2;lia,by have:=po.2;lia,fun H3 UN=>?_⟩;exact fin _ _ _ (some _) (s2.trans UN) (UN _ _ y2) lv keep (by rw[Mt];rfl)
 obtain⟨k,Mt⟩:=Od e0 (fun z=>e ((Ee _).mpr z)) (fun z=>e2 ((Oc _).mpr z)) (fun z=>e3 ((UK _).mpr z));exact fin _ _ _ none s2 y2 lv keep (by rw[Mt];rfl)
theorem Rq(st:bq):lT st.wd≠zab "end":=by
 have k:∀w:Wd,w≠.fin->lT w≠zab "end":=by
  intro w h;cases w<;>first |exact absurd rfl h |decide +kernel
 exact k _ (by cases st<;>(intro z;cases z))
theorem xJ(T:Tx K mg t):bB P w K mg base dc 5 t.ij t.i5 ["chart", "standing"] (QX K t.aQ):=by
 have mJ:=qX (P:=P) (w:=w) (base:=base) T;have vN:=Cq (P:=P) (w:=w) (base:=base) T;refine T.jY.F.lX qf (fun vs H Q E h=>?_) (fun eS A outer s H vs Q E hr h=>?_)
 ·obtain⟨_,_,_,_,rfl,_⟩:=h;rfl
 obtain⟨ch,sa,pr,⟨row,vals⟩,rfl,co,dr,kN,si,q⟩:=h;have nd:=qf.nd;refine⟨_,[some (.ref ch),some (.ref sa),none,none],(ai (eL 2 nd (aC aD (pv 1) aj ao))
 (ai (eL 3 nd (dP mJ T.kb hr (bw 0 (bw 2 ag))))
 (ai (a8 (aG bI (pv 3) aW (aM _))
 (ar (aH (aS (ae (aL (ae aW ag aA)) ag bA))))
 aO)
 (ai (a8 (aG j5 (pv 3) (aL (cg (vs:=[.str "if",.str "while"]) (by kernel_rfl))) rfl)
 (ar (aH (aS (ae (aL (ae aW (bw 2 ag) aA)) (ae (aL (ae aW (bw 2 (ae (dP vN T.pM hr (bw 0 (bw 1 ag))) ag a7)) aA)) ag bA) bA))))
 aO)
 (ai (a8 (PW.pt (pw_and (aG bI (pv 3) aW (aM _)) (pw_and1 (tm (mM (dP vN T.pM hr (bw 0 (bw 1 ag))))))))
 (ar (aH (aS (ae (aL (ae aW (bw 2 ag) aA)) (ae (aL (ae aW (bw 2 ag) aA)) ag bA) bA))))
 aO)
 (ar (aH (aS (ae (aL (ae aW (bw 2 ag) aA)) ag bA))))))))),rfl,?_⟩
 obtain⟨va,nS,uC⟩:=id kN;refine ak fun U1 fe=>?_;walk_at "rd";refine ay nS (v:=.int row) (au (j:=0) rfl) ((fe _ _).mpr (ak fun U2 fJ=>?_));clear fe;walk_at "rd";refine⟨ch,pr,row,rfl,co,dr.ok.pw,?_⟩;by_cases h0:row=0
 ·subst h0;refine .inl ⟨rfl,(fJ _ _).mpr (ak fun U3 fk=>?_)⟩;walk_at "rd";intro p hp;generalize e1:upd H p _=H1;have s1:=gT e1 hp;have r1:Rep K H1 (gR .fin) (.ref p):=yG e1 hp (.cons rS .nil);intro l hl;generalize e2:upd H1 l _=H2;have s2:=gL e2 hl;refine q l _ _ (s1.trans s2) (s1.free hl) ⟨pY e2,?_⟩;unfold qJ;rw[if_pos rfl];exact .cons (r1.mono s2) .nil
 ·obtain⟨i,hi,rfl⟩:=si.ok.row.resolve_left h0;refine .inr ⟨h0,i,hi,rfl,(fJ _ _).mpr ?_⟩;clear fJ;have Sr:rX pr.body (av pr.body)[i].row=(av pr.body)[i]:=fN dr.ok.pw i hi;unfold qJ at q;rw[if_neg h0] at q;simp only[Sr] at q;obtain⟨po,so⟩:=zV si.ok.len dr.ok.nb si.ok.small (iZ pr.body _ dr.own (zat hi));refine ak fun U3 fk=>?_;walk_at "rd";refine dw (fun z=>absurd z (Rq _)) (fun _=>(fk _ _).mpr (ak fun U4 jJ=>?_));clear fk;walk_at "rd";intro p5 vM;refine⟨p5,_,rfl,.inr (.of ah),rfl,rfl,_,rfl,?_⟩;generalize e5:upd H p5 _=H5;have s5:=gT e5 vM;rw[zN];by_cases hl:(av pr.body)[i].wd=.ifs\/(av pr.body)[i].wd=.eU
  ·obtain⟨sg,l,r,cp,tl,tr,_⟩:=cond_of (.inr hl) po;have nm:(av pr.body)[i].wd≠.bW:=by rcases hl with e |e<;>rw[e]<;>decide
   simp only[cp] at q;rw[if_neg nm] at q;refine(if_pos (decide_eq_true hl)).mpr fun p6 nY=>?_;generalize e6:upd H5 p6 _=H6;have s6:=gT e6 nY;have r6:Rep K H6 (gR (.row (av pr.body)[i].row)) (.ref p6):=yG e6 nY (.cons rS (.cons zW .nil));refine⟨ch,sa,pr,vals,i,hi,sg,l,r,rfl,co.mono (s5.trans s6),dr.ok,kN.mono (s5.trans s6),si.ok.len,cp,tl,tr,fun H7 s7 p8 xI=>?_⟩;generalize e8:upd H7 p8 _=H8;have s8:=gT e8 xI;have r8:Rep K H8 (gR (.side (av pr.body)[i].row (dC sg (wv pr.ax vals l) (wv pr.ax vals r)))) (.ref p8):=yG e8 xI (.cons rS (.cons zW (.cons (Rep.lH.mpr rfl) .nil)));intro l9 Pg;generalize e9:upd H8 l9 _=H9;have s9:=gL e9 Pg;have UO:=s5.trans (s6.trans (s7.trans s8));exact q l9 _ _ (UO.trans s9) (UO.free Pg) ⟨pY e9,.cons (r6.mono (s7.trans (s8.trans s9))) (.cons (r8.mono s9) .nil)⟩
  ·refine(if_neg (by rw[decide_eq_false hl];exact zal)).mpr ((jJ _ _).mpr (ak fun U5 rn=>?_));clear jJ;have last:∀H7,aq H H7->(∀l us H',aq H H'->H l=none->O0 K H' l us [.row (av pr.body)[i].row]->Q (.ref l) H')->U5 [some (.ref ch),some (.ref sa),some (.int (av pr.body)[i].row),some (.str (lT (av pr.body)[i].wd))] H7:=by
    intro H7 s7 q;refine(rn _ _).mpr ?_;clear rn;walk_at "rd";intro p6 nY;generalize e6:upd H7 p6 _=H6;have s6:=gT e6 nY;have r6:Rep K H6 (gR (.row (av pr.body)[i].row)) (.ref p6):=yG e6 nY (.cons rS (.cons zW .nil));intro l9 Pg;generalize e9:upd H6 l9 _=H9;have s9:=gL e9 Pg;exact q l9 _ _ (s7.trans (s6.trans s9)) ((s7.trans s6).free Pg) ⟨pY e9,.cons (r6.mono s9) .nil⟩
   walk_at "rd";refine dw (fun e=>?_) (fun e=>?_)
   ·have ew:=(tW _).mp (congrArg V.str e);obtain⟨sg,l,r,cp,tl,tr,_⟩:=cond_of (.inl ew) po;simp only[cp] at q;rw[if_pos ew] at q;refine⟨ch,sa,pr,vals,i,hi,sg,l,r,rfl,co.mono s5,dr.ok,kN.mono s5,si.ok.len,cp,tl,tr,fun H7 s7=>?_⟩;cases hc:dC sg (wv pr.ax vals l) (wv pr.ax vals r) with
    |true=>
     simp only[hc,if_true] at q;exact⟨_,rfl,(if_neg (by decide)).mpr (last _ (s5.trans s7) q)⟩
    |false=>
     simp only[hc,zaG,if_false] at q;refine⟨_,rfl,(if_pos (by decide)).mpr fun p6 nY=>?_⟩;generalize e6:upd H7 p6 _=H6;have s6:=gT e6 nY;have r6:Rep K H6 (gR (.row (av pr.body)[i].row)) (.ref p6):=yG e6 nY (.cons rS (.cons zW .nil));intro p8 xI;generalize e8:upd H6 p8 _=H8;have s8:=gT e8 xI;have r8:Rep K H8 (gR (.bW (av pr.body)[i].row)) (.ref p8):=yG e8 xI (.cons rS (.cons zW .nil));intro l9 Pg;generalize e9:upd H8 l9 _=H9;have s9:=gL e9 Pg;have UO:=s5.trans (s7.trans (s6.trans s8));exact q l9 _ _ (UO.trans s9) (UO.free Pg) ⟨pY e9,.cons (r6.mono (s8.trans s9)) (.cons (r8.mono s9) .nil)⟩
   ·have ew:(av pr.body)[i].wd≠.bW:=fun z=>e (V.str.inj ((tW _).mpr z));have cn:nQ (av pr.body)[i]=none:=by
     generalize (av pr.body)[i]=st at ew hl;cases st<;>first |rfl |exact absurd rfl ew |exact absurd (.inl rfl) hl |exact absurd (.inr rfl) hl
    simp only[cn] at q;exact last _ s5 q
theorem HQ:∀sm:bq,¬lT sm.wd=zab "end":=fun sm=>by cases sm<;>(simp only[bq.wd];decide +kernel)
theorem qp(T:Tx K mg t):bB P w K mg base dc 7 t.ig t.i4 ["chart", "standing"] (Fs K t.aQ):=by
 have mJ:=qX (P:=P) (w:=w) (base:=base) T;have zf:=Ef (P:=P) (w:=w) (base:=base) T;refine T.fc.F.lX qe (fun vs H Q E h=>?_) (fun eS A outer s H vs Q E hr h=>?_)
 ·obtain⟨_,_,_,_,rfl,_⟩:=h;rfl
 obtain⟨ch,sa,pr,st,rfl,co,dr,kN,si,q⟩:=h;have nd:=qe.nd;obtain⟨LI,xl,xm⟩:=T.vn;refine⟨_,[some (.ref ch),some (.ref sa),none,none],(ai (eL 2 nd (dP mJ T.kb hr (bw 0 (ae (aC aD (pv 1) aj ao) ag aV))))
 (ai (a8 (aG bI (pv 2) aW (aM _))
 (ar (aH (aS ag)))
 aO)
 (ai (a8 (aG bI (pv 2) aW (aM _))
 (ar (aH (cK (own:=["figure"]) (ix:=[0,1]) rfl (by rfl) (by rfl) (pj rfl T.lg (ae (pe rfl xl xm) ag aJ)) (fun _ _ _ _=>(bC (i:=0) (by show List.Nodup (["figure", "chart", "standing"]:List Str);decide +kernel) rfl (zaC rfl))) (fun _ _ _ _=>dM) (fun _ _ _ _=>(aC (gK (K:=K) rfl) (dP zf T.mG hr (bw 1 (bw 2 (bw 0 ag)))) aj ao)))))
 aO)
 (ai (eL 3 nd (aC aD (dP zf T.mG hr (bw 0 (bw 1 (ae iM ag aA)))) aj ao))
 (ai (a8 (aG Qe (pv 3) iM (aM _))
 (ar (aH (aS ag)))
 aO)
 (ar (aH (aS (bw 3 ag))))))))),rfl,?_⟩
 obtain⟨row,vals⟩:=st;obtain⟨va,nS,uC⟩:=id kN;refine ak fun U1 fe=>?_;walk_at "rd";refine ay nS (v:=.int row) (au (j:=0) rfl) ?_;rcases si.ok.row with h0 |⟨i,hi,er⟩
 ·replace h0:row=0:=h0;subst h0;refine⟨ch,pr,0,rfl,co,dr.ok.pw,.inl ⟨rfl,(fe _ _).mpr ?_⟩⟩;refine ak fun U2 fJ=>?_;walk_at "rd";exact(if_pos trivial).mpr fun L hL=>q L _ _ (aq.new hL _) hL ah .nil
 replace er:(av pr.body)[i].row=row:=er;subst er;have UP:(av pr.body)[i].row≠0:=by have:=dr.ok.pos _ (zat hi);lia
 obtain⟨hf,ek,ew⟩:=jj pr.body i hi;obtain⟨w0,w1⟩:=iP pr.body 0 _ (zat hf);rw[ew] at w1;obtain⟨po,so⟩:=zV si.ok.len dr.ok.nb si.ok.small (iZ pr.body _ dr.own (zat hi));have bp:∀b∈pr.ax,0<b.size:=fun b hb=>by have:=dr.size b hb;lia
 have ea:vj pr.body (av pr.body)[i].row=decide ((av pr.body)[i].wd=.ask):=by unfold vj;rw[fN dr.ok.pw i hi]
 have es:∀f,fM pr (av pr.body)[i].row vals f=ko pr.ax (av pr.body)[i] (aP pr.body 0)[i].2.2 vals f:=fun f=>by unfold fM;rw[fN dr.ok.pw i hi,Fn dr.ok.pw i hi hf]
 unfold cL at q;simp only[if_neg UP,ea,decide_eq_true_eq] at q;refine⟨ch,pr,_,rfl,co,dr.ok.pw,.inr ⟨UP,i,hi,rfl,(fe _ _).mpr (ak fun U2 fJ=>?_)⟩⟩;clear fe;walk_at "rd";refine(if_neg (HQ _)).mpr ((fJ _ _).mpr (ak fun U3 fk=>?_));clear fJ;walk_at "rd";refine dw (fun e=>?_) (fun e=>(fk _ _).mpr ?_)
 ·have e:=(Ee _).mp e;simp only[e,if_true] at q;simp only[fg];walk_at "rd";refine⟨10,rfl,by decide,by decide,fun D hD=>?_⟩;refine rY (J:=CM 0 10) (fun τ=>∃x,τ=[x,some (.ref ch),some (.ref sa)]) ((zaF 10).map fun f=>V.int (f:Nat)) (fun j ys H2=>aq H H2/\bF K H2 ((zaF j).map fun f=>((fM pr (av pr.body)[i].row vals (f:Nat)).1.getD ((av pr.body)[i].row,vals))) ys) ?_ ?_ ?_ (by simp) hD ⟨none,rfl⟩ ⟨aq.new hD _,.nil⟩ ?_ ?_
  ·intro j H2 _ hj;show j<10;simpa using hj
  ·intro H2 _;show 10<=_;simp
  ·intro j H2 x H3 _ hj hy;have lj:j<10:=by simpa using hj
   obtain⟨rfl,rfl⟩:=hy;exact⟨rfl,by simp[lj]⟩
  ·rintro j x ys τ H2 hx ⟨x0,rfl⟩ s2 yD ly ⟨_,sy⟩ R hR
   have lj:j<10:=by have:=(zak.mp hx).1;simpa using this
   have hx:x=.int (j:Nat):=by simpa[lj] using hx.symm
   subst hx;walk_at "rd";refine⟨ch,sa,_,pr,vals,(j:Nat),i,hi,hf,rfl,co.mono s2,dr.ok,bp,kN.mono s2,si.ok.len,fun _=>rfl,po,w0,w1,fun q1 sv H3 s3 k1 o1=>?_⟩;rw[<- es] at k1 o1;have hn:=BM (pr:=pr) (av pr.body)[i].row vals (j:Nat) (by rw[ea];exact decide_eq_true e);refine ay k1 (v:=sv) (au (j:=0) rfl) (hR _ _ _ ⟨_,rfl⟩ s3 ⟨?_,?_⟩)
   ·exact(((bo.of (s2.trans s3)).put _).same hD)
   ·rw[zbs,zas];cases ho:(fM pr (av pr.body)[i].row vals (j:Nat)).1 with
    |none=>exact absurd ho hn
    |some y=>
     rw[ho] at o1;obtain⟨ya,rfl,Y7⟩:=o1;have yD3:=s3 _ _ yD;have z:=jk (x:=y) (jO sy fun _ _ _ h=>h.mono s3) Y7;simp only[zaq,zaP,ho,zcn];exact jO z fun _ _ _ h=>h.upL yD3 ((bo.refl D H3).put _)
  ·rintro ys H2 s2 yD ly ⟨_,sy⟩
   rw[zac,zbG] at sy;exact q D ys H2 s2 hD yD sy
 ·have e:(av pr.body)[i].wd≠.ask:=fun z=>e ((Ee _).mpr z);simp only[if_neg e] at q;walk_at "rd";refine⟨ch,sa,.cx,pr,vals,0,i,hi,hf,rfl,co,dr.ok,bp,kN,si.ok.len,fun z=>absurd z e,po,w0,w1,fun q1 sv H2 s2 k1 o1=>?_⟩;rw[<- es] at k1 o1;refine ay k1 (v:=sv) (au (j:=0) rfl) ?_;cases ho:(fM pr (av pr.body)[i].row vals 0).1 with
  |none=>
   rw[ho] at o1 q;exact(if_pos o1).mpr fun p hp=>q p _ _ (s2.trans (aq.new hp _)) (s2.free hp) ah .nil
  |some x=>
   rw[ho] at o1 q;obtain⟨xa,rfl,xs⟩:=o1;exact(if_neg (by intro z;cases z)).mpr fun p hp=>q p _ _ (s2.trans (aq.new hp _)) (s2.free hp) ah (.cons ⟨xa,rfl,xs.mono (aq.new hp _)⟩ .nil)
theorem lA(T:Tx K mg t)(bV:bB P w K mg base dc 1 t.bT t.bP ["body", "behind"] (gM K))(bL:bB P w K mg base dc 7 t.bE t.bG ["body"] (fL K 5))(gY:bB P w K mg base dc 8 t.lO t.jP ["program"] (tV K)) :
 bB P w K mg base dc 11 t.eM t.fR ["program"] (GO K):=by
 have iB:=lQ (P:=P) (w:=w) (base:=base) T bV bL gY;refine T.cO.F.lX kU (fun vs H Q E h=>?_) (fun eS A outer s H vs Q E hr h=>?_)
 ·obtain⟨_,_,rfl,_⟩:=h;rfl
 obtain⟨v,pr,rfl,rp,hd,Ss,ok,q⟩:=h;have nd:=kU.nd;refine⟨_,[some v],(ar (aH (iN (zt T.o8 iB (hr.mono (by first|decide|omega)) rfl T.w8 T.nH .nil eA (bw 0 ag)) rfl))),rfl,?_⟩;walk_at "rd";intro p dx hp Pd ne;have s1:aq H (upd (upd H dx (.own p)) p (.ins t.aQ dx [])):=(aq.new Pd _).trans (aq.new (by rw[aw ne.symm];exact hp) _);refine⟨p,dx,v,pr,rfl,ah,by rw[aw ne];exact ah,rp.mono s1,hd,Ss,ok.pw,ok.nb,ok.pG,fun H2 u2 co=>⟨rfl,?_⟩⟩;have s2:aq H H2:=((bo.of s1).trans u2).same hp;obtain⟨Y8,nl,sd,fa,WQ,st,wy,uu,ws,h1,h2,h3,h4,h5,h6,_⟩:=co.at_;refine⟨p,_,Y8,_,.ref fa,rfl,h1,T.cM,T.eQ,rfl,q fa H2 s2 ⟨WQ,.of h5,.of ?_⟩⟩;rw[zaQ];exact h6
theorem lC(T:Tx K mg t)(bV:bB P w K mg base dc 1 t.bT t.bP ["body", "behind"] (gM K))(bL:bB P w K mg base dc 7 t.bE t.bG ["body"] (fL K 5))(gY:bB P w K mg base dc 8 t.lO t.jP ["program"] (tV K)) :
 bB P w K mg base dc 12 t.eO t.fS ["program", "target", "paper"] (Lh K):=by
 have iB:=lQ (P:=P) (w:=w) (base:=base) T bV bL gY;have Ap:=xJ (P:=P) (w:=w) (base:=base) T;have nK:=qp (P:=P) (w:=w) (base:=base) T;refine T.br.F.lX kW (fun vs H Q E h=>?_) (fun eS A outer s H vs Q E hr h=>?_)
 ·obtain⟨_,_,_,_,_,_,_,rfl,_⟩:=h;rfl
 obtain⟨v,tv,pa,pr,tg,l,us,rfl,rp,dr,rt,pp,q⟩:=h;have nd:=kW.nd;have line:zdo=2 ^ 24:=rfl;have mm:us.length=l.length:=(Paired.length pp.gS).symm;have pG:=pp.pG;refine⟨_,[some v,some tv,some (.ref pa),none,none,none],(ai (eL 3 nd (zt T.o8 iB (hr.mono (by first|decide|omega)) rfl T.w8 T.nH .nil eA (bw 0 ag)))
 (ai (cJ (i:=4) nd rfl (zbP rfl) (cf (qL (J:=qH) (fun _ _ _ _ h t=>DR h t) rfl (zJ hr)) rfl T.jD PyProof.Rows.Boot.«dict» (ae (cK (own:=["standing"]) (ix:=[]) rfl (by rfl) (by rfl) (bD (pv 2)) (fun _ _ _ _=>(bC (i:=0) (by show List.Nodup (["standing"]:List Str);decide +kernel) rfl (zaC rfl))) (fun _ _ _ _=>dM) (fun _ _ _ _=>(aL (bw 0 (ae gy ag aA))))) ag hZ)))
 (ai (a8 (aG (tX (J:=qH) (QT hr)) (iN (pv 3) rfl) (pv 4) rfl)
 (ar (aH gy))
 aO)
 (ai (dB PassesOwn.never rfl (BQ (J:=qH) (pv 4)) (xH 5 nd)
 (ai (a8 (aG (QU (zJ hr)) (pv 1) (dP Ap T.jY hr (bw 3 (bw 5 ag))) rfl)
 (ar (aH gy))
 aO)
 (ar (a8 (tm (mM (bS (JL rfl) rfl T.Ly PyProof.Rows.Boot.«all» (ae (cK (own:=["led"]) (ix:=[4]) rfl (by rfl) (by rfl) (bD (dP nK T.fc hr (bw 3 (bw 5 ag)))) (fun _ _ _ _=>(bC (i:=0) (by show List.Nodup (["led", "listed"]:List Str);decide +kernel) rfl (zaC rfl))) (fun _ _ _ _=>dM) (fun _ _ _ _=>(da (Rf (J:=qH) (P:=P) (w:=w) (K:=K) rfl rfl rfl (QT hr)) (pv 0) (pv 1) rfl))) ag hZ))))
 (ar (aH gy))
 aO))))
 (ar (aH gy)))))),rfl,?_⟩
 refine ak fun U1 fe=>?_;walk_at "rd";intro p dx hp Pd ne;have s1:aq H (upd (upd H dx (.own p)) p (.ins t.aQ dx [])):=(aq.new Pd _).trans (aq.new (by rw[aw ne.symm];exact hp) _);refine⟨p,dx,v,pr,rfl,ah,by rw[aw ne];exact ah,rp.mono s1,dr.dep,dr.pG,dr.ok.pw,dr.ok.nb,dr.ok.pG,fun H5 u2 co=>⟨rfl,(fe _ _).mpr (ak fun U2 fJ=>?_)⟩⟩;clear fe;have Rr:aq H H5:=((bo.of s1).trans u2).same hp;have UQ:=Rr.seq pp.at_;have Y9:=pp.gS.mono Rr;walk_at "rd";simp only[fg];walk_at "rd";refine⟨⟨us,UQ⟩,fun D hD=>?_⟩;refine mU (K:=K) (r:=[]) (fun i ys H2=>∃ps:List (zdg×bH×zdg),ys=ps.map (fun q=>V.ref q.1)/\ps.map (·.2.1)=l.take i/\∀q∈ps,H2 q.1=some (.tup [.ref q.2.2,.bl true])/\bQ K H5 q.2.2 q.2.1.1 q.2.1.2) UQ (by lia) hD ⟨[],rfl,by simp,fun _ z=>by cases z⟩ (fun i x ys H6 hx s6 yD ly pv R hR=>?_) (fun ys H6 s6 yD pv=>?_)
 ·obtain⟨ps,rfl,e1,zR⟩:=pv;obtain⟨p,a,ep,rfl,pat⟩:=Y9.get hx;walk_at "rd";intro c hc;have sc:=aq.new hc (.tup [V.ref a,V.bl true]);refine hR _ _ sc ⟨ps++[(c,p,a)],by simp,by rw[zas,e1,zbl,ep];rfl,fun q hq=>?_⟩;have cD:c≠D:=(az yD hc).symm;rcases zah.mp hq with hq |hq
  ·obtain⟨h1,h2⟩:=zR q hq;have qD:q.1≠D:=cQ h1 yD (by intro z;cases z);exact⟨by rw[aw qD];exact sc _ _ h1,h2⟩
  ·cases zap.mp hq;exact⟨by rw[aw cD];exact ah,pat⟩
 obtain⟨ps,rfl,e1,zR⟩:=pv;rw[mm,zaH] at e1;have WR:=co.mono s6;refine⟨D,ps.map fun q=>(q.1,fX q.2.1,q.2.2,V.bl true),rfl,by rw[zaQ];exact .of yD,fun q hq=>?_,by have:=congrArg zaV e1;rw[zac] at this;rw[zac];lia,fun d H7 hd e7 Oe=>(fJ _ _).mpr (ak fun U3 fk=>?_)⟩
 ·obtain⟨z,hz,rfl⟩:=zau.mp hq;obtain⟨h1,h2⟩:=zR z hz;exact⟨.of h1,pZ (h2.mono s6)⟩
 clear fJ;have UR:jB [] ((ps.map fun q=>(q.1,fX q.2.1,q.2.2,V.bl true)).map fun q=>(q.2.1,q.2.2.2))=DY l:=by
  unfold DY;rw[zaQ,<- e1,zaQ];rfl
 rw[UR] at Oe;obtain⟨φ7,e7⟩:=e7;have HR:aq H6 H7:=by rw[e7];exact aq.new hd _
 have co7:=WR.mono HR;have Mu:aq H H7:=Rr.trans (s6.trans HR);have Cr:H d=none:=(Rr.trans s6).free hd;clear zR e7 UR;obtain⟨Y8,nl,sd,fa,WQ,st,wy,uu,ws,h1,h2,h3,h4,h5,h6,_⟩:=co7.at_;have Za:bQ K H7 fa (oJ pr).1 (oJ pr).2:=⟨WQ,.of h5,.of (by rw[zaQ];exact h6)⟩
 walk_at "rd";refine⟨p,_,Y8,_,.ref fa,rfl,h1,T.cM,T.eQ,rfl,d,fa,_,fX (oJ pr),rfl,rfl,Oe,pZ Za,?_⟩;rw[wO];by_cases hf:oJ pr∈l
 rotate_left
 ·rw[decide_eq_false hf];refine(if_pos rfl).mpr ?_;have:=q H7 Mu;rw[show fh pr tg l=false by unfold fh;rw[decide_eq_false hf,zbU]] at this;exact this
 rw[decide_eq_true hf];refine(if_neg zal).mpr ((fk _ _).mpr (ak fun U4 jJ=>?_));clear fk;refine BR fun U hU=>?_;simp only[KU];walk_at "rd";refine⟨d,_,rfl,Oe,fun o ps fz po=>hU _ _ ?_⟩;clear hU;obtain⟨φd,ed⟩:=Oe.BK;have uF:bo d H7 (upd H7 d (ff d o)):=(bo.refl _ _).put _;have Rt:∀a xs,b8 K H7 a xs->b8 K (upd H7 d (ff d o)) a xs:=fun a xs h=>h.qI ed uF;have yF:(upd H7 d (ff d o)) d=some (ff d o):=ah;have Zb:=fz.up Rt;have WS:ps.length=(DY l).length:=(Paired.length po).symm;have Zc:∀i c v',ps[i]?=some (c,v')->∃(kv:jA×V) (p:bH),(DY l)[i]?=some kv/\kv.1=fX p/\p∈l/\bQ K (upd H7 d (ff d o)) c p.1 p.2:=fun i c v' hi=>by
  obtain⟨kv,Of,on,_⟩:=dD po hi;obtain⟨p,hp,e⟩:=Cc (zaz Of);rw[e] at on;obtain⟨va,k1,k2⟩:=DI on;exact⟨kv,p,Of,e,hp,va,Rt _ _ k1,Rt _ _ k2⟩
 have sz:aq H (upd H7 d (ff d o)):=fun b o' e=>uF _ _ (az e Cr) (Mu _ _ e);have coF:vC K t.aQ (upd H7 d (ff d o)) p pr:=WR.mono fun b o' e=>uF _ _ (az e hd) (HR _ _ e);generalize upd H7 d (ff d o)=Hz at *;obtain⟨Pv,iE,iW⟩:=La fun (i:Nat) (σ:St) (Hw:Hp) zq=>∀(z:Option V),σ=[some v,some tv,some (.ref pa),some (.ref p),some (.ref d),z]->aq Hz Hw->(∀j,j<i->∀kv,(DY l)[j]?=some kv->∀p,kv.1=fX p->Hm pr tg l p=true)->zq;refine Fv (d:=d) (o:=o) (ps:=ps) Pv (iE _ _ _ fun _ zk=>zk none rfl (.refl _) (fun j hj=>by lia)) (fun i σ Hw _ hv=>?_) (fun i c v' σ Hw hi hv=>?_) (fun σ Hw hv=>?_)
 ·exact iW _ _ _ hv _ fun _ _ sw _=>sw _ _ yF
 ·refine iW _ _ _ hv _ fun z ze sw gd=>?_;subst ze;clear hv;obtain⟨kv,x,Of,Zd,hx,kN⟩:=Zc i c v' hi;have US:=sz.trans sw;have bad:∀H',aq Hw H'->Hm pr tg l x=false->Q (.bl false) H':=fun H' s' g=>by
   have:=q H' (US.trans s');rw[qO hx g] at this;exact this
  simp only[eT,za4];refine ak fun V1 xn=>?_;walk_at "rd";refine⟨p,c,pr,x,rfl,coF.mono sw,dr,kN.mono sw,pp.pS x hx,fun lt ut H9 s9 _ Ze=>?_⟩;obtain⟨yt,rts⟩:=Ze;refine⟨_,_,rt.mono (US.trans s9),Rep.bg.mpr ⟨lt,ut,rfl,.of yt,rts⟩,(Kx tg).1,(Ds _).1,(Kx tg).2,?_⟩;rw[QW];by_cases hm:tg∈qJ pr x
  ·rw[decide_eq_true hm];exact⟨_,rfl,(if_pos rfl).mpr (bad H9 s9 (by unfold Hm;rw[decide_eq_true hm];rfl))⟩
  rw[decide_eq_false hm];refine⟨_,rfl,(if_neg zal).mpr ((xn _ _).mpr ?_)⟩;clear xn;walk_at "rd";simp only[fg];walk_at "rd";refine⟨p,c,pr,x,rfl,(coF.mono sw).mono s9,dr,(kN.mono sw).mono s9,pp.pS x hx,fun lb ub HA sA _ yA UT=>?_⟩;have swA:=sw.trans (s9.trans sA);have fzA:=Zb.up fun _ _ z=>swA.aZ z;have yFA:=swA _ _ yF;have lub:ub.length=(cL pr x).length:=(Paired.length UT).symm;have Pe:=Fy pr x;refine⟨lb,rfl,⟨ub,.of yA⟩,fun D2 Iu=>?_⟩;refine j7 (K:=K) (r:=[some (.ref d)]) (fun i=>V.bl (decide ((cL pr x).getD i (0,[])∈l))) (.of yA) (by lia) Iu (fun i y HB hy sB R hR=>?_) (fun HB sB yB=>?_)
  ·obtain⟨p2,a2,LJ,rfl,Ru⟩:=UT.get hy;walk_at "rd";refine⟨d,a2,_,fX p2,o,rfl,rfl,sB _ _ yFA,fzA.up fun _ _ z=>sB.aZ z,pZ (Ru.mono sB),?_⟩;rw[wO];rw[zan,LJ] at hR;exact hR
  have e3:(zaF ub.length).map (fun i=>V.bl (decide ((cL pr x).getD i (0,[])∈l)))=((cL pr x).map fun b=>decide (b∈l)).map V.bl:=by
   rw[lub,zaQ];exact iT (fun b=>V.bl (decide (b∈l))) _ _
  rw[e3] at yB;refine⟨D2,_,rfl,.of yB,?_⟩;have ea:(((cL pr x).map fun b=>decide (b∈l)).all id)=yQ pr l x:=by unfold yQ;rw[List.all_map];rfl
  rw[ea];have s9B:=s9.trans (sA.trans sB);cases vo:yQ pr l x with
  |false=>exact(if_pos rfl).mpr (bad HB s9B (by unfold Hm;rw[vo,zbV]))
  |true=>
  refine(if_neg zal).mpr (iE _ _ _ fun _ zk=>zk _ rfl (sw.trans s9B) fun j hj Zf e2 p2 LJ=>?_);rcases Nat.lt_or_ge j i with h |h
  ·exact gd j h Zf e2 p2 LJ
  ·have:j=i:=by lia
   subst this;rw[Of] at e2;cases e2;rw[Zd] at LJ;cases oI LJ;unfold Hm;rw[vo,decide_eq_false hm];rfl
 ·refine iW _ _ _ hv _ fun z ze sw gd=>?_;subst ze;clear hv;refine(jJ _ _).mpr ?_;walk_at "rd";have:=q Hw (sz.trans sw);rw[show fh pr tg l=true by
   unfold fh;rw[decide_eq_true hf,Lg fun kv hk p ep=>by
    obtain⟨j,hj⟩:=zcs.mp hk;have lj:=(zak.mp hj).1;exact gd j (by lia) kv hj p ep]
   rfl] at this
  exact this
theorem UU:∀w:Wd,R8 (V.str (lT w)) [V.str (zab "ask"),V.str (zab "put")]=decide (w=.ask\/w=.put):=by
 intro w;cases w<;>decide +kernel
theorem Ph:∀w:Wd,(lT w=zab "must")↔w=.bW:=by
 intro w;cases w<;>decide +kernel
theorem Og(vals:List Int)(j:Nat)(hj:j<vals.length)(x:Int):iF (vals.map V.int) none (some (j:Int))++[V.int x]++iF (vals.map V.int) (some ((j:Int)+1)) none=(vals.set j x).map V.int:=by
 unfold iF;rw[HT.oo,HT.pk,show ((j:Int)+1)=((j+1:Nat):Int) by lia,HT.pk,HT.oo];rw[zac,zcy (by lia),zcy (by lia),List.drop_zero,Nat.sub_zero];rw[zbC (l:=List.drop (j+1) (vals.map V.int)) (by rw[zby,zac];lia)];rw[List.set_eq_take_append_cons_drop,if_pos hj];simp
theorem Pj{st:bq}{sg:W}{l r:PM.Tr}(h:Ug st)(c:nQ st=some (sg,l,r)):sg=[60]\/sg=[61]:=by
 have key:sg∈CN:=by
  cases st<;>simp only[nQ,zaT.injEq,Prod.mk.injEq,reduceCtorEq] at c<;>obtain⟨rfl,rfl,rfl⟩:=c<;>exact h
 simpa[CN] using key
theorem Rv{bs:List gF}(nb:(bs.map (·.name)).Nodup){b:W}(hb:b∈bs.map (·.name)):(bs.map fun b=>S b.name)[dq bs b]?=some (S b)/\∀m,m<dq bs b->(bs.map fun b=>S b.name)[m]?≠some (S b):=by
 obtain⟨hx,ex⟩:=kr hb;refine⟨by rw[zar,zad hx];show some (S bs[dq bs b].name)=_;rw[ex],fun m hm e=>?_⟩;have lm:m<bs.length:=by lia
 rw[zar,zad lm] at e;have e:=pW.mp (zaT.inj e);have p1:=zbH.mp nb m (dq bs b) (by simpa using lm) (by simpa using hx) hm;rw[zbz,zbz] at p1;exact p1 (e.trans ex.symm)
theorem UW:∀w:Wd,R8 (V.str (lT w)) [V.str (zab "must"),V.str (zab "if"),V.str (zab "while")]=decide (w=.bW\/w=.ifs\/w=.eU):=by
 intro w;cases w<;>decide +kernel
theorem Eh{bs:List gF}{st:bq}{ws vals:List Int}{f:Int}(h:¬(st.wd=.bW\/st.wd=.ifs\/st.wd=.eU))(h2:¬(st.wd=.ask\/st.wd=.put)):(ko bs st ws vals f).1=some (ws.getD 0 0,vals):=by
 cases st<;>first |rfl |exact absurd (.inl rfl) h2 |exact absurd (.inr rfl) h2 |exact absurd (.inl rfl) h |exact absurd (.inr (.inl rfl)) h |exact absurd (.inr (.inr rfl)) h
theorem Aq(T:Tx K mg t):bB P w K mg base dc 5 t.jr t.jU ["program", "statements", "standing", "figure"] (FC K):=by
 have dg:=qW (P:=P) (w:=w) (base:=base) T 3;refine T.jx.F.lX sQ (fun vs H Q E h=>?_) (fun eS A outer s H vs Q E hr h=>?_)
 ·obtain⟨_,_,_,_,_,_,_,rfl,_⟩:=h;rfl
 obtain⟨v,d0,sa,fv,pr,⟨row,vals⟩,f,rfl,rp,dr,ls,kN,si,h0,WO,q⟩:=h;have nd:=sQ.nd;have hu:=gZ hr;have line:zdo=2 ^ 24:=rfl;refine⟨_,[some v,some (.ref d0),some (.ref sa),some fv,none,none,none,none,none,none,none,none,none],(ai (tx (eF hu (pv 1) (aC aD (pv 2) aj ao) (fun _ _=>rfl)) (tw rfl (dG (xH 4 nd) (dG (xH 5 nd) pf))))
 (ai (M3 (i:=6) nd rfl (zaC rfl) (own:=["box"]) (ix:=[]) rfl (by rfl) (by rfl) (bD (aC aD (pv 0) aj ao)) (fun _ _ _ _=>(bC (i:=0) (by show List.Nodup (["box"]:List Str);decide +kernel) rfl (zaC rfl))) (fun _ _ _ _=>dM) (fun _ _ _ _=>(aC (gK (K:=K) rfl) (pv 0) aj ao)))
 (ai (eL 7 nd (qA rfl rfl T.jD rfl T.Cm (bw 6 (ae (aC aD (pv 2) aj ao) ag aV))))
 (ai (eL 8 nd (aC aD (pv 4) aj ao))
 (ai (a8 (aG j5 (pv 8) (aS (cg (vs:=[.str "must",.str "if",.str "while"]) (by kernel_rfl))) rfl)
 (ai (eL 9 nd (dP dg T.cS hr (ae (aC aD (pv 4) aj ao) (bw 7 ag) aV)))
 (ai (eL 10 nd (dP dg T.cS hr (ae (aC aD (pv 4) aj ao) (bw 7 ag) aV)))
 (ai (a8 (mM (aC bJ (aS (ae (da pV (pv 9) (pv 10) (aM _)) (ae (da bI (pv 9) (pv 10) (aM _)) ag mS) mS)) (cf g7 rfl T.uV PyProof.Rows.Boot.«int» (ae (da bI (aC aD (pv 4) aj ao) aW (aM _)) ag mS)) fK))
 (ar (aH (aL (ae (aC aD (pv 5) aj ao) (ae (aC aD (pv 2) aj ao) ag aV) aV))))
 aO)
 (ar (aH (aC bJ (aS (ae iM (ae (aL (ae (aC aD (pv 5) (rE mO aj) Bp) (ae (aC aD (pv 2) aj ao) ag aV) aV)) ag bA) aA)) (cf g7 rfl T.uV PyProof.Rows.Boot.«int» (ae (da vU (pv 8) aW (aM _)) ag mS)) fK))))))
 aO)
 (ai (a8 (aG j5 (pv 8) (aS (cg (vs:=[.str "ask",.str "put"]) (by kernel_rfl))) rfl)
 (ai (eL 11 nd (jd zaw PySem.F.slot_list_index PySem.F.type_list_index GN (pv 6) (ae (aC aD (pv 4) aj ao) ag aV)))
 (ai (eL 12 nd (pv 3))
 (ai (a8 (aG bI (pv 8) aW (aM _))
 (ar (eL 12 nd (dP dg T.cS hr (ae (aC aD (pv 4) aj ao) (bw 7 ag) aV))))
 aO)
 (ar (aH (aL (ae (aC aD (pv 5) aj ao) (ae (bz vD (bz vD (dJ Fm (aC aD (pv 2) aj ao) eW (dI (pv 11))) (aL (ae (bz ke (pv 12) (aC aD (aC bJ (aC aD (pv 0) aj ao) (pv 11) vA) aj ao)) ag oy))) (dJ Fm (aC aD (pv 2) aj ao) (dI (bz fH (pv 11) aj)) eW)) ag oy) aV)))))))
 aO)
 (ar (aH (aL (ae (aC aD (pv 5) aj ao) (ae (aC aD (pv 2) aj ao) ag aV) aV)))))))))),rfl,?_⟩
 obtain⟨i,hi,rfl⟩:=si.ok.row.resolve_left h0;obtain⟨hf,ek,ew⟩:=jj pr.body i hi;obtain⟨w0,w1⟩:=iP pr.body 0 _ (zat hf);rw[ew] at w1;have w2:(av pr.body)[i].wd=.ifs\/(av pr.body)[i].wd=.eU->(aP pr.body 0)[i].2.2.length=2:=fun z=>mx pr.body 0 _ (zat hf) (by rw[ew];exact z);clear w1;obtain⟨po,so⟩:=zV si.ok.len dr.ok.nb si.ok.small (iZ pr.body _ dr.own (zat hi));have Zg:(av pr.body)[i].wd=.ask->fv=.int f:=fun e=>WO (by unfold vj;rw[fN dr.ok.pw i hi];exact decide_eq_true e);simp only[wC dr.ok hi hf] at q;have bp:∀b∈pr.ax,0<b.size:=fun b hb=>by have:=dr.size b hb;lia
 obtain⟨kvs,y0,Su,Rw⟩:=ls.at_;obtain⟨c,ta,y,g,hc,rt,hy⟩:=Rw i hi hf;obtain⟨va,nS,uC⟩:=id kN;refine ak fun U1 fe=>?_;walk_at "rd";refine ay nS (v:=.int (av pr.body)[i].row) (au (j:=0) rfl) ⟨d0,_,rfl,.inl ⟨_,.inl (av pr.body)[i].row,.inl y0,rfl,g.symm⟩,c,_,rfl,hc,rfl,_,_,rfl,_,_,rfl,rfl,(fe _ _).mpr (ak fun U2 fJ=>?_)⟩;clear fe;have lv:vals.length=pr.ax.length:=si.ok.len;have uC:b8 K H va (vals.map V.int):=uC;have po:Fl pr.ax vals (av pr.body)[i]:=po;generalize (av pr.body)[i]=sm at *;generalize (aP pr.body 0)[i].2.2=ws at *;obtain⟨pa,YY,rfl,O9,Rx⟩:=Rep.aX.mp (show Rep K H (.tup _) v from rp);obtain⟨vB,px2,rfl,rB,Oh⟩:=aI.aB.mp Rx;obtain⟨B,_,rfl,_⟩:=Rep.bg.mp rB;obtain⟨Pk,hB,lB,hb⟩:=mI rB;have nb:=dr.ok.nb;have pG:=dr.ok.pG;clear y0 Su Rw g hc ls WO Rx Oh rB rp si kN;generalize pr.ax=bs at *;walk_at "rd";simp only[fg];walk_at "rd";refine ay O9 (v:=.ref B) (au (j:=0) rfl) ⟨B,rfl,⟨_,hB⟩,fun D hD=>?_⟩;refine j7 (K:=K) (r:=[]) (fun i=>V.str (S (bs.getD i ⟨[],0,0⟩).name)) hB (by lia) hD (fun i x H2 hx s2 R hR=>?_) (fun H1 s1 h1=>(fJ _ _).mpr (ak fun U3 fk=>?_))
 ·obtain⟨a,rfl,ha⟩:=hb i x hx;walk_at "rd";exact ay (s2.aZ ha) (v:=.str (S (bs.getD i ⟨[],0,0⟩).name)) (au (j:=0) rfl) hR
 clear fJ;rw[lB,iT (fun b:gF=>V.str (S b.name)) ⟨[],0,0⟩ bs] at h1;walk_at "rd";simp only[Wo];walk_at "rd";have Zh:(vals.map V.int).length=bs.length:=by rw[zac];exact lv
 refine ay (s1.aZ nS) (v:=.ref va) (au (j:=1) rfl) ⟨D,va,bs.map fun b=>.inr (S b.name),vals.map V.int,rfl,?_,s1.aZ uC,by rw[zac,zac];exact lv,fun d hd=>(fk _ _).mpr (ak fun U4 jJ=>?_)⟩
 ·rw[zaQ];exact .of h1
 rw[mW,iQ _ [] (by rw[zaX,kR _ _ Zh];exact names_nodup nb),zaX];clear fk;have s2:=s1.trans (aq.new hd (HO.dK (cw bs (vals.map V.int))));have hd2:upd H1 d (HO.dK (cw bs (vals.map V.int))) d=some (.dK (cw bs (vals.map V.int))):=ah;have Iu:=aq.new hd (HO.dK (cw bs (vals.map V.int))) _ _ h1;generalize upd H1 d (HO.dK (cw bs (vals.map V.int)))=H2 at s2 hd2 Iu ⊢;clear s1 h1 hd;obtain⟨_,ds,ee,hs⟩:=fw _ rt;cases ee;walk_at "rd";refine ay (s2.aZ hs) (v:=.str (lT sm.wd)) (au (j:=0) rfl) ((jJ _ _).mpr (ak fun U5 rn=>?_));clear jJ;have e0:ws[0]?=some (ws.getD 0 0):=by rw[zan,zad w0];rfl
 have q0:tK (ws.map V.int) ((0:Nat):Int)=some (V.int (ws.getD 0 0)):=au (by rw[zar,e0];rfl);walk_at "rd";intro z hz;refine⟨z,_,rfl,.inl (.of ah),rfl,rfl,_,rfl,?_⟩;generalize e3:upd H2 z _=H3;have UX:=gL e3 hz;have s3:=s2.trans UX;have Mg:=UX _ _ hd2;have UI:=UX _ _ Iu;clear e3 hz s2 hd2 Iu;rw[UW];by_cases ec:sm.wd=.bW\/sm.wd=.ifs\/sm.wd=.eU
 ·refine(if_pos (decide_eq_true ec)).mpr ?_;clear rn UX;obtain⟨sg,l,r,cp,tl,tr,es⟩:=cond_of ec po;have Zi:=Pj so cp;rw[es] at q;unfold fV at q;rw[cp] at q;simp only at q;obtain⟨_,w0',vl,vr,ys,ee,hT,rl,rr⟩:=qE rt cp;cases ee;refine ay (s3.aZ hT) (v:=vl) (au (j:=3) rfl) ⟨vl,d,l,_,rfl,rl.mono s3,Mg,tl.1,by have:=tl.2;lia,by have:=tl.2;lia,fun H4 Mp=>?_⟩;have s4:=s3.trans Mp;refine ay (s4.aZ hT) (v:=vr) (au (j:=4) rfl) ⟨vr,d,r,_,rfl,rr.mono s4,Mp _ _ Mg,tr.1,by have:=tr.2;lia,by have:=tr.2;lia,fun H5 Mv=>⟨_,_,rfl,rfl,rfl,fun p hp=>?_⟩⟩;have un:∀e:PM.Tr,bX (wB (cw bs (List.map V.int vals))) e=wv bs vals e:=fun _=>rfl;rw[un,un] at *;generalize e6:upd H5 p _=H6;have y6:=pY e6;have s6:=(s4.trans Mv).trans (gL e6 hp);clear e6 hp Mv Mp s4;refine ay (s6.aZ hT) (v:=.str (S sg)) (au (j:=2) rfl) ⟨rfl,_,rfl,bZ (.of y6) (FF Zi _ _) ⟨_,rfl,?_⟩⟩;generalize dC sg (wv bs vals l) (wv bs vals r)=cb at *;cases cb with
  |true=>
   rw[if_pos rfl] at q;refine(if_pos rfl).mpr (ay (s6.aZ hy) q0 (ay (s6.aZ nS) (v:=.ref va) (au (j:=1) rfl) fun p7 Iy=>?_));exact q _ _ (s6.trans (aq.new Iy _)) ⟨p7,rfl,va,.of ah,(s6.trans (aq.new Iy _)).aZ uC⟩
  |false=>
   rw[if_neg zal] at q;obtain⟨wl,Qu⟩:∃wl,ws[ws.length-1]?=some wl:=⟨_,zad (by lia)⟩
   refine(if_neg zal).mpr ⟨1,rfl,ay (s6.aZ hy) (v:=.int wl) (NC (by rw[zac,zar,Qu];rfl)) (ay (s6.aZ nS) (v:=.ref va) (au (j:=1) rfl) fun p7 Iy p8 xI=>⟨_,rfl,?_⟩)⟩;have Zj:=s6.trans ((aq.new Iy (.tup [V.int wl,V.ref va])).trans (aq.new xI (.lst [V.cx,V.ref p7])));by_cases em:sm.wd=.bW
   ·rw[if_pos em] at q;refine bZ (.of ah) (v:=.cx) ?_ (q _ _ Zj rfl);rw[decide_eq_true ((Ph _).mpr em)];exact au (j:=0) rfl
   ·rw[if_neg em] at q;have w2:=w2 (ec.resolve_left em);rw[w2] at Qu;have ewl:ws.getD 1 0=wl:=by rw[zan,Qu];rfl
    rw[ewl] at q;refine bZ (.of ah) (v:=.ref p7) ?_ (q _ _ Zj ⟨p7,rfl,va,(aq.new xI _).aZ (.of ah),Zj.aZ uC⟩);rw[decide_eq_false (fun z=>em ((Ph _).mp z))];exact au (j:=1) rfl
 refine(if_neg (by rw[decide_eq_false ec];exact zal)).mpr ((rn _ _).mpr (ak fun U6 Ao=>?_));clear rn UX w2;refine NB fun UA Sv=>?_;walk_at "rd";intro z hz;refine⟨z,_,rfl,.inl (.of ah),rfl,rfl,_,rfl,?_⟩;generalize e3:upd H3 z _=H4;have Mw:=gL e3 hz;have s4:=s3.trans Mw;have QK:=Mw _ _ Mg;have WI:=Mw _ _ UI;clear e3 hz s3 Mg UI Mw;rw[UU];by_cases ea:sm.wd=.ask\/sm.wd=.put
 rotate_left
 ·refine(if_neg (by rw[decide_eq_false ea];exact zal)).mpr ((Ao _ _).mpr ?_);clear Ao;rw[Eh ec ea] at q;walk_at "rd";refine ay (s4.aZ hy) q0 (ay (s4.aZ nS) (v:=.ref va) (au (j:=1) rfl) fun p7 Iy=>?_);exact q _ _ (s4.trans (aq.new Iy _)) ⟨p7,rfl,va,.of ah,(s4.trans (aq.new Iy _)).aZ uC⟩
 refine(if_pos (decide_eq_true ea)).mpr ((Sv _ _).mpr (ak fun W1 LK=>?_));clear Ao Sv;have Zk:∃b x y ys,b∈bs.map (·.name)/\b8 K H ta (x::y :: .str (S b)::ys)/\((sm.wd=.ask/\(ko bs sm ws vals f).1=some (ws.getD 0 0,qF bs vals b (f%eC bs b)))\/(sm.wd=.put/\∃tr u,ys=[u]/\Rep K H (ki tr) u/\AX bs vals tr/\(ko bs sm ws vals f).1=some (ws.getD 0 0,qF bs vals b (wv bs vals tr%eC bs b)))):=by
  rcases ea with e1 |e1
  ·obtain⟨k,b,rfl⟩:=LG e1;obtain⟨_,ee,hT⟩:=yZ rt;cases ee;exact⟨b,_,_,_,po,hT,.inl ⟨rfl,rfl⟩⟩
  ·obtain⟨k,b,tr,rfl⟩:=LH e1;obtain⟨_,u,ee,hT,ru⟩:=zd rt;cases ee;exact⟨b,_,_,_,po.1,hT,.inr ⟨rfl,tr,u,rfl,ru,po.2,rfl⟩⟩
 obtain⟨b,c1,c2,c3,vo,hT,Pl⟩:=Zk;obtain⟨hx,ex⟩:=kr vo;obtain⟨ni,nn⟩:=Rv nb vo;have lj:dq bs b<vals.length:=by lia
 obtain⟨vb,hvb⟩:∃vb,Pk[dq bs b]?=some vb:=⟨_,zad (by lia)⟩
 obtain⟨ab,rfl,JV⟩:=hb _ _ hvb;have sz:(bs.getD (dq bs b) ⟨[],0,0⟩).size=eC bs b:=by
  unfold eC;rw[zan,zad hx];rfl
 rw[sz] at JV;walk_at "rd";refine⟨.inl ⟨rfl,_,.of WI⟩,ay (s4.aZ hT) (v:=.str (S b)) (au (j:=2) rfl) ⟨D,bs.map fun b=>S b.name,S b,dq bs b,rfl,rfl,by rw[zaQ];exact WI,ni,nn,(LK _ _).mpr (ak fun W2 UY=>?_)⟩⟩;clear LK;walk_at "rd";refine(UY _ _).mpr (ak fun W3 Sw=>?_);clear UY;have tail:∀(n:Int) Hx,aq H Hx->(ko bs sm ws vals f).1=some (ws.getD 0 0,qF bs vals b (n%eC bs b))->W3 [some (V.ref pa),some (V.ref d0),some (V.ref sa),some fv,some (V.ref ta),some (V.ref y),some (V.ref D),some (V.ref d),some (V.str (lT sm.wd)),none,none,some (V.int (dq bs b)),some (V.int n)] Hx:=by
  intro n Hx s5 es;rw[es] at q;refine(Sw _ _).mpr ?_;clear Sw;walk_at "rd";refine ay (s5.aZ hy) q0 (ay (s5.aZ nS) (v:=.ref va) (au (j:=1) rfl) ⟨_,rfl,va,_,rfl,s5.aZ uC,fun p1 H6 s6' k1=>?_⟩);have s6:=s5.trans s6';refine ay (s6.aZ O9) (v:=.ref B) (au (j:=0) rfl) (bZ (s6.seq hB) (v:=.ref ab) (au hvb) (ay (s6.aZ JV) (v:=.int (eC bs b)) (au (j:=1) rfl) ⟨_,_,rfl,rfl,um bp b,fun p2 wb=>?_⟩));have s7:=s6.trans (aq.new wb (HO.tup [V.int (n%eC bs b)]));refine⟨p1,p2,_,_,rfl,rfl,(aq.new wb _).aZ k1,.of ah,?_,fun p3 H8 s8' k3=>?_⟩
  ·have:=dk (vals.map V.int) none (some (dq bs b:Int));rw[zac] at this;simp only[zaf,zaI];lia
  have s8:=s7.trans s8';refine ay (s8.aZ nS) (v:=.ref va) (au (j:=1) rfl) ⟨_,rfl,va,_,rfl,s8.aZ uC,fun p4 H9 s9' k4=>⟨p3,p4,_,_,rfl,rfl,s9'.aZ k3,k4,?_,fun p5 N9 Zl k5 p6 nY=>?_⟩⟩
  ·have h1:=dk (vals.map V.int) none (some (dq bs b:Int));have h2:=dk (vals.map V.int) (some ((dq bs b:Int)+1)) none;rw[zac] at h1 h2;simp only[zai,zaf,zaI];lia
  have Mq:=(s8.trans s9').trans Zl;rw[Og vals _ lj] at k5;exact q _ _ (Mq.trans (aq.new nY _)) ⟨p6,rfl,p5,.of ah,(aq.new nY _).aZ k5⟩
 clear Sw;walk_at "rd";refine dw (fun e2=>?_) (fun e2=>?_)
 ·have ep:=(Oc _).mp e2;rcases Pl with ⟨ea,_⟩ |⟨_,tr,u,rfl,ru,tv,es⟩
  ·rw[ep] at ea;cases ea
  exact ay (s4.aZ hT) (v:=u) (au (j:=3) rfl) ⟨u,d,tr,_,rfl,ru.mono s4,QK,tv.1,by have:=tv.2;lia,by have:=tv.2;lia,fun H5 Mv=>tail _ _ (s4.trans Mv) es⟩
 ·rcases Pl with ⟨ea,es⟩ |⟨ep,_⟩
  ·have Y6:=Zg ea;subst Y6;exact tail _ _ s4 es
  ·exact absurd ((Oc _).mpr ep) e2
theorem LL{sg:W}(h:sg=[60]\/sg=[61])(a b:Int):tK [V.bl (decide (a<b)),V.bl (decide (a=b))] (if decide (V.str (S sg)=V.str (zab "="))=true then 1 else 0)=some (V.bl (dC sg a b)):=by
 rw[<- FF h a b,show decide (V.int a=V.int b)=decide (a=b) from decide_eq_decide.mpr ⟨fun z=>V.int.inj z,fun z=>by rw[z]⟩]
theorem Cs(T:Tx K mg t):bB P w K mg base dc 5 t.kJ t.kZ ["program", "statements", "standing", "target"] (Lj K):=by
 have dg:=qW (P:=P) (w:=w) (base:=base) T 3;refine T.nG.F.lX uT (fun vs H Q E h=>?_) (fun eS A outer s H vs Q E hr h=>?_)
 ·obtain⟨_,_,_,_,_,_,_,rfl,_⟩:=h;rfl
 obtain⟨v,d0,sa,tv,pr,⟨row,vals⟩,tg,rfl,rp,dr,ls,kN,si,rt,ht,q⟩:=h;have nd:=uT.nd;have hu:=gZ hr;have line:zdo=2 ^ 24:=rfl;refine⟨_,[some v,some (.ref d0),some (.ref sa),some tv,none,none,none,none,none],(ai (a8 (aG bI (aC aD (pv 3) aj ao) aW (aM _))
 (ar (aH (da bI (aC aD (pv 2) aj ao) aj (aM _))))
 aO)
 (ai (a8 (PW.pt (pw_or (aG vU (aC aD (pv 2) aj ao) (aC aD (pv 3) aj ao) (aM _)) (pw_or1 (aG bI (aC aD (pv 3) aj ao) aW (aM _)))))
 (ar (aH (da bI (aC aD (pv 2) aj ao) (aC aD (pv 3) aj ao) (aM _))))
 aO)
 (ai (eL 4 nd (aC aD (eF hu (pv 1) (aC aD (pv 2) aj ao) (fun _ _=>rfl)) aj ao))
 (ai (eL 5 nd (qA rfl rfl T.jD rfl T.Cm (ae (cK (own:=["box"]) (ix:=[]) rfl (by rfl) (by rfl) (bD (aC aD (pv 0) aj ao)) (fun _ _ _ _=>(bC (i:=0) (by show List.Nodup (["box"]:List Str);decide +kernel) rfl (zaC rfl))) (fun _ _ _ _=>dM) (fun _ _ _ _=>(aC (gK (K:=K) rfl) (pv 0) aj ao))) (ae (aC aD (pv 2) aj ao) ag aV) hZ)))
 (ai (eL 6 nd (dP dg T.cS hr (ae (aC aD (pv 4) aj ao) (bw 5 ag) aV)))
 (ai (eL 7 nd (dP dg T.cS hr (ae (aC aD (pv 4) aj ao) (bw 5 ag) aV)))
 (ai (eL 8 nd (aC bJ (aS (ae (da pV (pv 6) (pv 7) (aM _)) (ae (da bI (pv 6) (pv 7) (aM _)) ag mS) mS)) (cf g7 rfl T.uV PyProof.Rows.Boot.«int» (ae (da bI (aC aD (pv 4) aj ao) aW (aM _)) ag mS)) fK))
 (ar (aH (da bI (pv 8) (IE (da bI (aC aD (pv 3) aj ao) aW (aM _)) (ID (aC aD (pv 3) aj ao))) (aM _))))))))))),rfl,?_⟩
 obtain⟨va,nS,uC⟩:=id kN;have key:∃ta wd ys,tv=.ref ta/\b8 K H ta (.str wd::ys)/\((wd=zab "end"/\tg=.fin)\/∃k zs,ys=.int k::zs/\wd≠zab "end"/\((wd=zab "row"/\tg=.row k)\/(wd≠zab "row"/\((wd=zab "must"/\tg=.bW k)\/(wd=zab "side"/\∃b,zs=[.bl b]/\tg=.side k b))))):=by
  cases tg with
  |row k=>
   obtain⟨a,xs,rfl,hS,Ea⟩:=Rep.aX.mp (show Rep K H (.tup _) tv from rt);obtain⟨_,x1,rfl,e1,CS⟩:=aI.aB.mp Ea;obtain⟨_,x2,rfl,e2,N7⟩:=aI.aB.mp CS;cases Rep.bt.mp e1;cases Rep.bj.mp e2;exact⟨a,_,_,rfl,hS,.inr ⟨_,_,rfl,by decide +kernel,.inl ⟨rfl,rfl⟩⟩⟩
  |side k b=>
   obtain⟨a,xs,rfl,hS,Ea⟩:=Rep.aX.mp (show Rep K H (.tup _) tv from rt);obtain⟨_,x1,rfl,e1,CS⟩:=aI.aB.mp Ea;obtain⟨_,x2,rfl,e2,N7⟩:=aI.aB.mp CS;obtain⟨_,x3,rfl,e3,Rj⟩:=aI.aB.mp N7;cases Rep.bt.mp e1;cases Rep.bj.mp e2;cases Rep.lH.mp e3;cases Rj;exact⟨a,_,_,rfl,hS,.inr ⟨_,_,rfl,by decide +kernel,.inr ⟨by decide +kernel,.inr ⟨rfl,b,rfl,rfl⟩⟩⟩⟩
  |bW k=>
   obtain⟨a,xs,rfl,hS,Ea⟩:=Rep.aX.mp (show Rep K H (.tup _) tv from rt);obtain⟨_,x1,rfl,e1,CS⟩:=aI.aB.mp Ea;obtain⟨_,x2,rfl,e2,N7⟩:=aI.aB.mp CS;cases Rep.bt.mp e1;cases Rep.bj.mp e2;exact⟨a,_,_,rfl,hS,.inr ⟨_,_,rfl,by decide +kernel,.inr ⟨by decide +kernel,.inl ⟨rfl,rfl⟩⟩⟩⟩
  |fin=>
   obtain⟨a,xs,rfl,hS,Ea⟩:=Rep.aX.mp (show Rep K H (.tup _) tv from rt);obtain⟨_,x1,rfl,e1,CS⟩:=aI.aB.mp Ea;cases Rep.bt.mp e1;exact⟨a,_,_,rfl,hS,.inl ⟨rfl,rfl⟩⟩
 obtain⟨ta,wd,ys,rfl,hT,cs⟩:=key;refine ak fun U1 fe=>?_;walk_at "rd";refine ay hT (v:=.str wd) (au (j:=0) rfl) ⟨rfl,?_⟩;rcases cs with ⟨rfl,rfl⟩ |⟨k,zs,rfl,nE,cs⟩
 ·refine(if_pos rfl).mpr (ay nS (v:=.int row) (au (j:=0) rfl) ⟨rfl,?_⟩);have q:=q H (.refl _);rw[NY] at q;rw[show decide (V.int row=V.int 0)=decide ((row,vals).1=0) from decide_eq_decide.mpr ⟨fun z=>V.int.inj z,fun z=>congrArg V.int z⟩];exact q
 refine(if_neg (fun z=>nE (V.str.inj z))).mpr ((fe _ _).mpr (ak fun U2 fJ=>?_));clear fe;walk_at "rd";have ret:∀b:Bool,decide (tg∈qJ pr (row,vals))=b->decide (row=k)=b->Gk K (V.ref sa) (V.int 0) H fun x H1=>Gk K (V.ref ta) (V.int 1) H1 fun y H2=>C7 x y=true/\Q (V.bl (decide (x=y))) H2:=fun b e1 e2=>by
  refine ay nS (v:=.int row) (au (j:=0) rfl) (ay hT (v:=.int k) (au (j:=1) rfl) ⟨rfl,?_⟩);have q:=q H (.refl _);rw[e1] at q;rw[show decide (V.int row=V.int k)=decide (row=k) from decide_eq_decide.mpr ⟨fun z=>V.int.inj z,fun z=>congrArg V.int z⟩,e2];exact q
 refine ay nS (v:=.int row) (au (j:=0) rfl) (ay hT (v:=.int k) (au (j:=1) rfl) ⟨rfl,?_⟩);by_cases hk:row=k
 rotate_left
 ·refine(if_neg (fun z=>hk (V.int.inj z))).mpr ((if_pos trivial).mpr (ret false ?_ (decide_eq_false hk)));rcases cs with ⟨_,rfl⟩ |⟨_,⟨_,rfl⟩ |⟨_,b,_,rfl⟩⟩
  ·rw[Ae pr _ ht];exact decide_eq_false hk
  ·exact Af pr _ (.inl rfl) hk
  ·exact Af pr _ (.inr ⟨b,rfl⟩) hk
 subst hk;refine(if_pos rfl).mpr (ay hT (v:=.str wd) (au (j:=0) rfl) ⟨rfl,?_⟩);rcases cs with ⟨rfl,rfl⟩ |⟨nR,cs⟩
 ·refine(if_pos rfl).mpr (ret true ?_ (decide_eq_true rfl));rw[Ae pr _ ht];exact decide_eq_true rfl
 refine(if_neg (fun z=>nR (V.str.inj z))).mpr ((fJ _ _).mpr (ak fun U3 fk=>?_));clear fJ ret;obtain⟨i,hi,rfl,hw⟩:∃i,∃hi:i<(av pr.body).length,(av pr.body)[i].row=row/\((av pr.body)[i].wd=.bW\/(av pr.body)[i].wd=.ifs\/(av pr.body)[i].wd=.eU):=by
  rcases cs with ⟨_,rfl⟩ |⟨_,b,_,rfl⟩
  ·obtain⟨i,hi,e,e2⟩:=ht;exact⟨i,hi,e,.inl e2⟩
  ·obtain⟨i,hi,e,e2⟩:=ht;exact⟨i,hi,e,.inr e2⟩
 obtain⟨hf,ek,ew⟩:=jj pr.body i hi;obtain⟨po,so⟩:=zV si.ok.len dr.ok.nb si.ok.small (iZ pr.body _ dr.own (zat hi));obtain⟨kvs,y0,Su,Rw⟩:=ls.at_;obtain⟨c,Zm,y,g,hc,rs,hy⟩:=Rw i hi hf;obtain⟨sg,l,r,cp,tl,tr,_⟩:=cond_of hw po;have Zi:=Pj so cp;obtain⟨_,w0',vl,vr,ys',ee,hs,rl,rr⟩:=qE rs cp;cases ee;have uC:b8 K H va (vals.map V.int):=uC;have tl:AX pr.ax vals l:=tl;have tr:AX pr.ax vals r:=tr;obtain⟨m1,m2⟩:=Lo (vals:=vals) dr.ok hi cp;have wdu:(av pr.body)[i].wd=.bW\/(av pr.body)[i].wd≠.bW:=Classical.em _;have tZ:decide (dC sg (wv pr.ax vals l) (wv pr.ax vals r)=(decide (wd=zab "side")&&(match tg with |.side _ b=>b |_=>false)))=decide (tg∈qJ pr ((av pr.body)[i].row,vals)):=by
  rcases cs with ⟨rfl,rfl⟩ |⟨rfl,b,_,rfl⟩
  ·obtain⟨j,hj,e1,e2⟩:=ht;have em:(av pr.body)[i].wd=.bW:=by rw[<- fN dr.ok.pw i hi,<- e1,fN dr.ok.pw j hj];exact e2
   rw[m2 em];rfl
  ·obtain⟨j,hj,e1,e2⟩:=ht;have em:(av pr.body)[i].wd≠.bW:=by rw[<- fN dr.ok.pw i hi,<- e1,fN dr.ok.pw j hj];rcases e2 with e2 |e2<;>(rw[e2];intro z;cases z)
   rw[m1 b em];rfl
 clear m1 m2 wdu;obtain⟨pa,YY,rfl,O9,Rx⟩:=Rep.aX.mp (show Rep K H (.tup _) v from rp);obtain⟨vB,px2,rfl,rB,Oh⟩:=aI.aB.mp Rx;obtain⟨B,_,rfl,_⟩:=Rep.bg.mp rB;obtain⟨Pk,hB,lB,hb⟩:=mI rB;have nb:=dr.ok.nb;have pG:=dr.ok.pG;have lv:vals.length=pr.ax.length:=si.ok.len;walk_at "rd";refine ay nS (v:=.int (av pr.body)[i].row) (au (j:=0) rfl) ⟨d0,_,rfl,.inl ⟨_,.inl (av pr.body)[i].row,.inl y0,rfl,g.symm⟩,ay hc (v:=.ref Zm) (au (j:=0) rfl) ((fk _ _).mpr (ak fun U4 jJ=>?_))⟩;clear fk;walk_at "rd";simp only[Wo];walk_at "rd";simp only[fg];walk_at "rd";refine ay O9 (v:=.ref B) (au (j:=0) rfl) ⟨B,rfl,⟨_,hB⟩,fun D hD=>?_⟩;refine j7 (K:=K) (r:=[]) (fun i=>V.str (S (pr.ax.getD i ⟨[],0,0⟩).name)) hB (by lia) hD (fun i x H2 hx s2 R hR=>?_) (fun H1 s1 h1=>?_)
 ·obtain⟨a,rfl,ha⟩:=hb i x hx;walk_at "rd";exact ay (s2.aZ ha) (v:=.str (S (pr.ax.getD i ⟨[],0,0⟩).name)) (au (j:=0) rfl) hR
 rw[lB,iT (fun b:gF=>V.str (S b.name)) ⟨[],0,0⟩ pr.ax] at h1;have Zh:(vals.map V.int).length=pr.ax.length:=by rw[zac];exact lv
 refine ay (s1.aZ nS) (v:=.ref va) (au (j:=1) rfl) ⟨D,va,pr.ax.map fun b=>.inr (S b.name),vals.map V.int,rfl,?_,s1.aZ uC,by rw[zac,zac];exact lv,fun d hd=>(jJ _ _).mpr (ak fun U5 rn=>?_)⟩
 ·rw[zaQ];exact .of h1
 rw[mW,iQ _ [] (by rw[zaX,kR _ _ Zh];exact names_nodup nb),zaX];clear jJ;have s2:=s1.trans (aq.new hd (HO.dK (cw pr.ax (vals.map V.int))));have hd2:upd H1 d (HO.dK (cw pr.ax (vals.map V.int))) d=some (.dK (cw pr.ax (vals.map V.int))):=ah;generalize upd H1 d (HO.dK (cw pr.ax (vals.map V.int)))=H2 at s2 hd2 ⊢;clear s1 h1 hd;walk_at "rd";refine ay (s2.aZ hs) (v:=vl) (au (j:=3) rfl) ⟨vl,d,l,_,rfl,rl.mono s2,hd2,tl.1,by have:=tl.2;lia,by have:=tl.2;lia,fun H4 Mp=>(rn _ _).mpr (ak fun U6 Ao=>?_)⟩;clear rn;have s4:=s2.trans Mp;walk_at "rd";refine ay (s4.aZ hs) (v:=vr) (au (j:=4) rfl) ⟨vr,d,r,_,rfl,rr.mono s4,Mp _ _ hd2,tr.1,by have:=tr.2;lia,by have:=tr.2;lia,fun H5 Mv=>(Ao _ _).mpr (ak fun U7 Iw=>?_)⟩;clear Ao;have s5:=s4.trans Mv;have un:∀e:PM.Tr,bX (wB (cw pr.ax (List.map V.int vals))) e=wv pr.ax vals e:=fun _=>rfl;rw[un,un];walk_at "rd";intro p hp;generalize e6:upd H5 p _=H6;have y6:=pY e6;have s6:=s5.trans (gL e6 hp);clear e6 hp Mv Mp s4 s5;refine ay (s6.aZ hs) (v:=.str (S sg)) (au (j:=2) rfl) ⟨rfl,_,rfl,bZ (.of y6) (LL Zi _ _) ((Iw _ _).mpr ?_)⟩;clear Iw;generalize dC sg (wv pr.ax vals l) (wv pr.ax vals r)=cb at *;have q:=q H6 s6;rw[<- tZ] at q;walk_at "rd";have hT6:=s6.aZ hT;have eb:∀x y:Bool,decide (V.bl x=V.bl y)=decide (x=y):=fun x y=>decide_eq_decide.mpr ⟨fun z=>V.bl.inj z,fun z=>congrArg V.bl z⟩;refine ay hT6 (v:=.str wd) (au (j:=0) rfl) ⟨rfl,?_⟩;rcases cs with ⟨rfl,rfl⟩ |⟨rfl,b,rfl,rfl⟩
 ·rw[show (decide (zab "must"=zab "side"))=false by decide +kernel,zbU] at q;refine(if_neg (fun z=>absurd (V.str.inj z) (by decide +kernel))).mpr ⟨rfl,?_⟩;rw[eb];exact q
 ·rw[decide_eq_true rfl,zb0] at q;refine(if_pos rfl).mpr (ay hT6 (v:=.bl b) (au (j:=2) rfl) ⟨rfl,?_⟩);rw[eb];exact q
theorem xo(T:Tx K mg t):bB P w K mg base dc 6 t.gH t.iu ["program", "statements", "standing"] (Lk K):=by
 have uX:=Aq (P:=P) (w:=w) (base:=base) T;refine T.fF.F.lX oX (fun vs H Q E h=>?_) (fun eS A outer s H vs Q E hr h=>?_)
 ·obtain⟨_,_,_,_,_,rfl,_⟩:=h;rfl
 obtain⟨v,d0,sa,pr,⟨row,vals⟩,rfl,rp,dr,ls,kN,si,q⟩:=h;have nd:=oX.nd;have hu:=gZ hr;have line:zdo=2 ^ 24:=rfl;refine⟨_,[some v,some (.ref d0),some (.ref sa),none],(ai (a8 (aG bI (aC aD (pv 2) aj ao) aj (aM _))
 (ar (aH (aS ag)))
 aO)
 (ai (a8 (aG bI (aC aD (aC aD (eF hu (pv 1) (aC aD (pv 2) aj ao) (fun _ _=>rfl)) aj ao) aj ao) aW (aM _))
 (ar (aH (cK (own:=["figure"]) (ix:=[0,1,2]) rfl (by rfl) (by rfl) (pj rfl T.lg (ae aj ag aA)) (fun _ _ _ _=>(bC (i:=0) (by show List.Nodup (["figure", "program", "statements", "standing"]:List Str);decide +kernel) rfl (zaC rfl))) (fun _ _ _ _=>dM) (fun _ _ _ _=>(dP uX T.jx hr (bw 1 (bw 2 (bw 3 (bw 0 ag)))))))))
 aO)
 (ai (eL 3 nd (dP uX T.jx hr (bw 0 (bw 1 (bw 2 (ae iM ag aA))))))
 (ar (aH (cK (own:=["one"]) (ix:=[]) rfl (by rfl) (by rfl) (bD (aS (bw 3 ag))) (fun _ _ _ _=>(bC (i:=0) (by show List.Nodup (["one"]:List Str);decide +kernel) rfl (zaC rfl))) (fun _ _ _ _=>(pB (aG EJ (pv 0) iM (aM _)))) (fun _ _ _ _=>(pv 0)))))))),rfl,?_⟩
 obtain⟨va,nS,uC⟩:=id kN;refine ak fun U1 fe=>?_;walk_at "rd";refine ay nS (v:=.int row) (au (j:=0) rfl) ⟨rfl,?_⟩;unfold cL at q;by_cases h0:row=0
 ·subst h0;rw[if_pos rfl] at q;exact(if_pos rfl).mpr fun L hL=>q L _ _ (aq.new hL _) hL ah .nil
 simp only[if_neg h0] at q;refine(if_neg (fun z=>h0 (V.int.inj z))).mpr ((fe _ _).mpr (ak fun U2 fJ=>?_));clear fe;obtain⟨i,hi,rfl⟩:=si.ok.row.resolve_left h0;obtain⟨hf,ek,ew⟩:=jj pr.body i hi;obtain⟨kvs,y0,Su,Rw⟩:=ls.at_;obtain⟨c,ta,y,g,hc,rt,hy⟩:=Rw i hi hf;obtain⟨_,ds,ee,hs⟩:=fw _ rt;cases ee;have ea:vj pr.body (av pr.body)[i].row=decide ((av pr.body)[i].wd=.ask):=by unfold vj;rw[fN dr.ok.pw i hi]
 simp only[ea,decide_eq_true_eq] at q;walk_at "rd";refine ay nS (v:=.int (av pr.body)[i].row) (au (j:=0) rfl) ⟨d0,_,rfl,.inl ⟨_,.inl (av pr.body)[i].row,.inl y0,rfl,g.symm⟩,ay hc (v:=.ref ta) (au (j:=0) rfl) (ay hs (v:=.str (lT (av pr.body)[i].wd)) (au (j:=0) rfl) ⟨rfl,?_⟩)⟩;by_cases e:(av pr.body)[i].wd=.ask
 ·simp only[e,if_true] at q;refine(if_pos (congrArg V.str ((Ee _).mpr e))).mpr ?_;simp only[fg];walk_at "rd";refine⟨10,rfl,by decide,by decide,fun D hD=>?_⟩;refine rY (J:=CM 0 10) (fun τ=>∃x,τ=[x,some v,some (.ref d0),some (.ref sa)]) ((zaF 10).map fun f=>V.int (f:Nat)) (fun j ys H2=>aq H H2/\bF K H2 ((zaF j).map fun f=>((fM pr (av pr.body)[i].row vals (f:Nat)).1.getD ((av pr.body)[i].row,vals))) ys) ?_ ?_ ?_ (by simp) hD ⟨none,rfl⟩ ⟨aq.new hD _,.nil⟩ ?_ ?_
  ·intro j H2 _ hj;show j<10;simpa using hj
  ·intro H2 _;show 10<=_;simp
  ·intro j H2 x H3 _ hj hy;have lj:j<10:=by simpa using hj
   obtain⟨rfl,rfl⟩:=hy;exact⟨rfl,by simp[lj]⟩
  ·rintro j x ys τ H2 hx ⟨x0,rfl⟩ s2 yD ly ⟨_,sy⟩ R hR
   have lj:j<10:=by have:=(zak.mp hx).1;simpa using this
   have hx:x=.int (j:Nat):=by simpa[lj] using hx.symm
   subst hx;walk_at "rd";refine⟨v,d0,sa,_,pr,((av pr.body)[i].row,vals),(j:Nat),rfl,rp.mono s2,dr,ls.mono s2,kN.mono s2,si,h0,fun _=>rfl,fun w H3 s3 o1=>?_⟩;have hn:=BM (pr:=pr) (av pr.body)[i].row vals (j:Nat) (by rw[ea];exact decide_eq_true e);refine hR _ _ _ ⟨_,rfl⟩ s3 ⟨((bo.of (s2.trans s3)).put _).same hD,?_⟩;rw[zbs,zas];cases ho:(fM pr (av pr.body)[i].row vals (j:Nat)).1 with
   |none=>exact absurd ho hn
   |some y=>
    rw[ho] at o1;obtain⟨ya,rfl,Y7⟩:=o1;have z:=jk (x:=y) (jO sy fun _ _ _ h=>h.mono s3) Y7;simp only[zaq,zaP,ho,zcn];exact z.put (s3 _ _ yD) _
  ·rintro ys H2 s2 yD ly ⟨_,sy⟩
   rw[zac,zbG] at sy;exact q D ys H2 s2 hD yD sy
 ·simp only[if_neg e] at q;refine(if_neg (fun z=>e ((Ee _).mp (V.str.inj z)))).mpr ((fJ _ _).mpr (ak fun U3 fk=>?_));clear fJ;walk_at "rd";refine⟨v,d0,sa,_,pr,((av pr.body)[i].row,vals),0,rfl,rp,dr,ls,kN,si,h0,fun z=>absurd (of_decide_eq_true (ea▸z)) e,fun w H3 s3 o1=>(fk _ _).mpr ?_⟩;clear fk;walk_at "rd";simp only[fg];walk_at "rd";intro p hp;generalize e4:upd H3 p _=H4;have s4:=gL e4 hp;have y4:=pY e4;have o4:rW K H4 (fM pr (av pr.body)[i].row vals 0).1 w:=by
   generalize (fM pr (av pr.body)[i].row vals 0).1=o at *;cases o with
   |none=>exact o1
   |some x=>obtain⟨a,e,z⟩:=o1;exact⟨a,e,z.mono s4⟩
  have Mw:=s3.trans s4;clear e4 hp s4 o1;refine⟨⟨_,.of y4⟩,fun D hD=>?_⟩;generalize (fM pr (av pr.body)[i].row vals 0).1=o at *;refine j9 (K:=K) (fun τ=>∃x,τ=[x]) (fun j ys H5=>aq H4 H5->bF K H5 (if j=0 then [] else o.toList) ys) (.of y4) (by simp) hD ⟨none,rfl⟩ (fun _=>.nil) ?_ ?_
  ·rintro j x ys τ H5 hx ⟨x0,rfl⟩ s5 yD ly py R hR
   have lj:=(zak.mp hx).1;simp only[zax] at lj;obtain rfl:j=0:=by lia
   have hx:w=x:=by simpa using hx
   subst hx;have py:=py s5;rw[if_pos rfl] at py;cases py;walk_at "rd";cases o with
   |none=>
    cases (show w=.cx from o4);exact hR _ _ _ ⟨_,rfl⟩ (.refl _) (fun _ _=>.nil) (fun z=>by cases z)
   |some x=>
    obtain⟨xa,rfl,sx⟩:=o4;refine hR _ _ _ ⟨_,rfl⟩ (.refl _) (fun z=>by cases z) (fun _ R' h=>?_);walk_at "rd";exact h _ _ (.refl _) fun _=>(show bF K H5 [x] [V.ref xa] from .cons ⟨xa,rfl,sx.mono s5⟩ .nil).put yD _
  ·intro ys H5 s5 yD ly py;have py:=py s5;rw[if_neg (by simp)] at py;exact q D ys H5 (Mw.trans s5) (Mw.free hD) yD py
theorem Ar(T:Tx K mg t)(bV:bB P w K mg base dc 1 t.bT t.bP ["body", "behind"] (gM K))(bL:bB P w K mg base dc 7 t.bE t.bG ["body"] (fL K 5))(gY:bB P w K mg base dc 8 t.lO t.jP ["program"] (tV K)) :
 bB P w K mg base dc 12 t.jt t.jV ["program", "paper", "behind"] (Li P w K):=by
 have iX:=lA (P:=P) (w:=w) (base:=base) T bV bL gY;refine T.k8.F.lX sR (fun vs H Q E h=>?_) (fun eS A outer s H vs Q E hr h=>?_)
 ·obtain⟨_,_,_,_,_,_,rfl,_⟩:=h;rfl
 obtain⟨v,pa,bd,pr,l,us,rfl,rp,dr,pp,bh,q⟩:=h;have nd:=sR.nd;have line:zdo=2 ^ 24:=rfl;have mm:us.length=l.length:=(Paired.length pp.gS).symm;have pG:=pp.pG;refine⟨_,[some v,some (.ref pa),some (.ref bd),none,none],(ai (cJ (i:=3) nd rfl (zbP rfl) (cf (qL (J:=qH) (fun _ _ _ _ h t=>DR h t) rfl (zJ hr)) rfl T.jD PyProof.Rows.Boot.«dict» (ae (cK (own:=["standing"]) (ix:=[]) rfl (by rfl) (by rfl) (bD (pv 1)) (fun _ _ _ _=>(bC (i:=0) (by show List.Nodup (["standing"]:List Str);decide +kernel) rfl (zaC rfl))) (fun _ _ _ _=>dM) (fun _ _ _ _=>(aL (bw 0 (ae gy ag aA))))) ag hZ)))
 (ai (a8 (aG (tX (J:=qH) (QT hr)) (dP iX T.cO hr (bw 0 ag)) (pv 3) rfl)
 (ar (aH gy))
 aO)
 (ai (dB PassesOwn.never rfl (BQ (J:=qH) (pv 3)) (xH 4 nd)
 (ar (a8 (aG (lY (gZ hr)) (cK (own:=["there"]) (ix:=[3]) rfl (by rfl) (by rfl) (bD (Kr (J:=qH) (QT hr) (pv 2) (pv 4) vA)) (fun _ _ _ _=>(bC (i:=0) (by show List.Nodup (["there", "known"]:List Str);decide +kernel) rfl (zaC rfl))) (fun _ _ _ _=>(pB (aG (Hk (J:=qH) (P:=P) (w:=w) (K:=K) rfl rfl rfl (QT hr)) (pv 0) (pv 1) rfl))) (fun _ _ _ _=>(pv 0))) (aS ag) (aM _))
 (ar (aH gy))
 aO)))
 (ar (aH gy))))),rfl,?_⟩
 refine ak fun U2 fJ=>?_;have Y9:=pp.gS;walk_at "rd";simp only[fg];walk_at "rd";refine⟨⟨us,pp.at_⟩,fun D hD=>?_⟩;refine mU (K:=K) (r:=[]) (fun i ys H2=>∃ps:List (zdg×bH×zdg),ys=ps.map (fun q=>V.ref q.1)/\ps.map (·.2.1)=l.take i/\∀q∈ps,H2 q.1=some (.tup [.ref q.2.2,.bl true])/\bQ K H q.2.2 q.2.1.1 q.2.1.2) pp.at_ (by lia) hD ⟨[],rfl,by simp,fun _ z=>by cases z⟩ (fun i x ys H6 hx s6 yD ly pv R hR=>?_) (fun ys H6 s6 yD pv=>?_)
 ·obtain⟨ps,rfl,e1,zR⟩:=pv;obtain⟨p,a,ep,rfl,pat⟩:=Y9.get hx;walk_at "rd";intro c hc;have sc:=aq.new hc (.tup [V.ref a,V.bl true]);refine hR _ _ sc ⟨ps++[(c,p,a)],by simp,by rw[zas,e1,zbl,ep];rfl,fun q hq=>?_⟩;have cD:c≠D:=(az yD hc).symm;rcases zah.mp hq with hq |hq
  ·obtain⟨h1,h2⟩:=zR q hq;have qD:q.1≠D:=cQ h1 yD (by intro z;cases z);exact⟨by rw[aw qD];exact sc _ _ h1,h2⟩
  ·cases zap.mp hq;exact⟨by rw[aw cD];exact ah,pat⟩
 obtain⟨ps,rfl,e1,zR⟩:=pv;rw[mm,zaH] at e1;refine⟨D,ps.map fun q=>(q.1,fX q.2.1,q.2.2,V.bl true),rfl,by rw[zaQ];exact .of yD,fun q hq=>?_,by have:=congrArg zaV e1;rw[zac] at this;rw[zac];lia,fun d H7 hd e7 Oe=>(fJ _ _).mpr (ak fun U3 fk=>?_)⟩
 ·obtain⟨z,hz,rfl⟩:=zau.mp hq;obtain⟨h1,h2⟩:=zR z hz;exact⟨.of h1,pZ (h2.mono s6)⟩
 clear fJ;have UR:jB [] ((ps.map fun q=>(q.1,fX q.2.1,q.2.2,V.bl true)).map fun q=>(q.2.1,q.2.2.2))=DY l:=by
  unfold DY;rw[zaQ,<- e1,zaQ];rfl
 rw[UR] at Oe;obtain⟨φ7,e7⟩:=e7;have HR:aq H6 H7:=by rw[e7];exact aq.new hd _
 have Mu:aq H H7:=s6.trans HR;have Cr:H d=none:=s6.free hd;clear zR e7 UR;walk_at "rd";refine⟨v,pr,rfl,rp.mono Mu,dr.dep,dr.pG,dr.ok,fun fa H8 s8 Za=>⟨d,fa,_,fX (oJ pr),rfl,rfl,Oe.mono s8,pZ Za,?_⟩⟩;have s08:=Mu.trans s8;have ds8:=Oe.mono s8;have s68:=HR.trans s8;clear Oe Mu HR s8;rw[wO];by_cases hf:oJ pr∈l
 rotate_left
 ·rw[decide_eq_false hf];refine(if_pos rfl).mpr ?_;have:=q H8 s08;rw[show mv pr l=false by unfold mv;rw[decide_eq_false hf,zbU]] at this;exact this
 rw[decide_eq_true hf];refine(if_neg zal).mpr ((fk _ _).mpr (ak fun U4 jJ=>?_));clear fk;refine BR fun U hU=>?_;simp only[KU];walk_at "rd";refine⟨d,_,rfl,ds8,fun o ps fz po=>hU _ _ ?_⟩;clear hU;obtain⟨φd,ed⟩:=ds8.BK;have uF:bo d H8 (upd H8 d (ff d o)):=(bo.refl _ _).put _;have Rt:∀a xs,b8 K H8 a xs->b8 K (upd H8 d (ff d o)) a xs:=fun a xs h=>h.qI ed uF;have yF:(upd H8 d (ff d o)) d=some (ff d o):=ah;have Zb:=fz.up Rt;have WS:ps.length=(DY l).length:=(Paired.length po).symm;have Zc:∀i c v',ps[i]?=some (c,v')->∃(kv:jA×V) (p:bH),(DY l)[i]?=some kv/\kv.1=fX p/\p∈l/\bQ K (upd H8 d (ff d o)) c p.1 p.2:=fun i c v' hi=>by
  obtain⟨kv,Of,on,_⟩:=dD po hi;obtain⟨p,hp,e⟩:=Cc (zaz Of);rw[e] at on;obtain⟨va,k1,k2⟩:=DI on;exact⟨kv,p,Of,e,hp,va,Rt _ _ k1,Rt _ _ k2⟩
 have sz:aq H (upd H8 d (ff d o)):=fun b o' e=>uF _ _ (az e Cr) (s08 _ _ e);generalize upd H8 d (ff d o)=Hz at *;obtain⟨Pv,iE,iW⟩:=La fun (i:Nat) (σ:St) (Hw:Hp) zq=>∀(z:Option V),σ=[some v,some (.ref pa),some (.ref bd),some (.ref d),z]->aq Hz Hw->(∀j,j<i->∀kv,(DY l)[j]?=some kv->∀p,kv.1=fX p->yQ pr l p=true)->zq;refine Fv (d:=d) (o:=o) (ps:=ps) Pv (iE _ _ _ fun _ zk=>zk none rfl (.refl _) (fun j hj=>by lia)) (fun i σ Hw _ hv=>?_) (fun i c v' σ Hw hi hv=>?_) (fun σ Hw hv=>?_)
 ·exact iW _ _ _ hv _ fun _ _ sw _=>sw _ _ yF
 ·refine iW _ _ _ hv _ fun z ze sw gd=>?_;subst ze;clear hv;obtain⟨kv,x,Of,Zd,hx,kN⟩:=Zc i c v' hi;have US:=sz.trans sw;have bad:∀H',aq Hw H'->yQ pr l x=false->Q (.bl false) H':=fun H' s' g=>by
   have:=q H' (US.trans s');rw[DZ hx g] at this;exact this
  simp only[eT,za4];obtain⟨kvb,dsb,hbh⟩:=(bh.mono US).at_;obtain⟨lb,ub,eb,hlb,UT⟩:=hbh x (pp.pS x hx);have lub:ub.length=(cL pr x).length:=(Paired.length UT).symm;have Pe:=Fy pr x;walk_at "rd";simp only[fg];walk_at "rd";refine⟨bd,c,kvb,fX x,_,rfl,rfl,dsb,pZ (kN.mono sw),eb,lb,rfl,⟨ub,hlb⟩,fun D hD=>?_⟩;refine j9 (K:=K) (fun τ=>∃y,τ=[y,some (.ref d)]) (fun j ys H2=>ys.isEmpty=((cL pr x).take j).all fun b=>decide (b∈l)) hlb (by lia) hD ⟨none,rfl⟩ (by simp) ?_ ?_
  ·rintro j y ys τ HB hy ⟨x0,rfl⟩ sB yD ly py R hR
   obtain⟨p2,a2,LJ,rfl,Ru⟩:=UT.get hy;walk_at "rd";refine⟨d,a2,_,fX p2,o,rfl,rfl,(sw.trans sB) _ _ yF,Zb.up fun _ _ z=>(sw.trans sB).aZ z,pZ (Ru.mono sB),_,rfl,?_⟩;rw[wO];have e1:((cL pr x).take (j+1)).all (fun b=>decide (b∈l))=(ys.isEmpty&&decide (p2∈l)):=by
    rw[zbl,LJ,List.all_append,py];simp
   refine hR _ _ _ ⟨_,rfl⟩ (.refl _) (fun z=>?_) fun z R' h=>?_
   ·rw[e1,show decide (p2∈l)=true by simpa using z,zck]
   ·walk_at "rd";refine h _ _ (.refl _) ?_;rw[e1,show decide (p2∈l)=false by simpa using z,zbV];simp
  intro ys HB sB yB ly py p5 vM;rw[lub,zaH] at py;have s5:=aq.new vM (.lst []);refine⟨D,p5,ys,rfl,rfl,.of (s5 _ _ yB),.of ah,?_⟩;have py:ys.isEmpty=yQ pr l x:=py;rw[py];have sB5:=sB.trans s5;cases vo:yQ pr l x with
  |false=>exact(if_pos rfl).mpr (bad _ sB5 vo)
  |true=>
  refine(if_neg zal).mpr (iE _ _ _ fun _ zk=>zk _ rfl (sw.trans sB5) fun j hj Zf e2 p2 LJ=>?_);rcases Nat.lt_or_ge j i with h |h
  ·exact gd j h Zf e2 p2 LJ
  ·have:j=i:=by lia
   subst this;rw[Of] at e2;cases e2;rw[Zd] at LJ;cases oI LJ;exact vo
 ·refine iW _ _ _ hv _ fun z ze sw gd=>?_;subst ze;clear hv;refine(jJ _ _).mpr ?_;walk_at "rd";have:=q Hw (sz.trans sw);rw[show mv pr l=true by
   unfold mv;rw[decide_eq_true hf,Lg fun kv hk p ep=>by
    obtain⟨j,hj⟩:=zcs.mp hk;have lj:=(zak.mp hj).1;exact gd j (by lia) kv hj p ep]
   rfl] at this
  exact this
theorem xK(T:Tx K mg t):bB P w K mg base dc 2 t.iw t.ja ["program", "statements"] (FD K):=by
 refine T.gw.F.lX ql (fun vs H Q E h=>?_) (fun eS A outer s H vs Q E hr h=>?_)
 ·obtain⟨_,_,_,rfl,_⟩:=h;rfl
 obtain⟨v,d0,pr,rfl,rp,dr,ls,l25,UZ,q⟩:=h;have nd:=ql.nd;have hu:=gZ hr;have line:zdo=2 ^ 24:=rfl;refine⟨_,[some v,some (.ref d0),none,none,none,none,none,none,none,none],(ai (eL 2 nd (aS (ae (aL ag) ag bA)))
 (ai (dB PassesOwn.never rfl (bD (aC aD (pv 0) aj ao)) (tw rfl (dG (xH 3 nd) (dG (xH 4 nd) (dG (xH 5 nd) pf))))
 (ai (eL 6 nd (aS ag))
 (ai (dB PassesOwn.never rfl (bD (pv 2)) (bC (i:=7) nd rfl (zbP rfl))
 (ar (eL 6 nd (bz lG (pv 6) (cK (own:=["number"]) (ix:=[7]) rfl (by rfl) (by rfl) (pj rfl T.lg (bw 4 ag)) (fun _ _ _ _=>(bC (i:=0) (by show List.Nodup (["number", "one"]:List Str);decide +kernel) rfl (zaC rfl))) (fun _ _ _ _=>dM) (fun _ _ _ _=>(bz (Ld (K:=K) rfl) (pv 1) (aL (bw 0 ag)))))))))
 (ar (eL 2 nd (pv 6))))))
 (ai (eL 8 nd (aS ag))
 (ai (dB PassesOwn.never rfl (bD (bz lG (aS (ae aj ag aA)) (bS (Ac rfl) rfl T.xi PyProof.Rows.Boot.«sorted» (bw 1 ag)))) (bC (i:=9) nd rfl (zbP rfl))
 (ar (eL 8 nd (bz lG (pv 8) (cK (own:=["one"]) (ix:=[9]) rfl (by rfl) (by rfl) (bD (pv 2)) (fun _ _ _ _=>(bC (i:=0) (by show List.Nodup (["one", "row"]:List Str);decide +kernel) rfl (zaC rfl))) (fun _ _ _ _=>dM) (fun _ _ _ _=>(aL (bw 1 (bw 0 ag)))))))))
 (ar (aH (pv 8))))))),rfl,?_⟩
 obtain⟨pa,YY,rfl,O9,Rx⟩:=Rep.aX.mp (show Rep K H (.tup _) v from rp);obtain⟨vB,px2,rfl,rB,Oh⟩:=aI.aB.mp Rx;obtain⟨B,_,rfl,_⟩:=Rep.bg.mp rB;obtain⟨Pk,hB,lB,hb⟩:=mI rB;clear Rx Oh rB;refine ak fun U1 fe=>?_;walk_at "rd";intro p0 UP;generalize e1:upd H p0 _=H1;have s1:=gT e1 UP;have y1:H1 p0=some (.tup []):=by rw[<- e1];exact ah
 clear e1 UP;intro L0 Sx;generalize e2:upd H1 L0 _=H2;have s2:=gL e2 Sx;have y2:=pY e2;refine(fe _ _).mpr (ak fun U2 fJ=>?_);clear fe e2 Sx;refine dN fun U hU=>?_;walk_at "rd";refine ay ((s1.trans s2).aZ O9) (v:=.ref B) (au (j:=0) rfl) ⟨B,rfl,⟨_,(s1.trans s2).seq hB⟩,hU _ _ ?_⟩;clear hU;have Oi:=s1.trans s2;have v2:sD K H2 [[]] [V.ref p0]:=.cons ⟨p0,rfl,.of (s2 _ _ y1)⟩ .nil;obtain⟨Pv,iE,iW⟩:=La fun (i:Nat) (σ:St) (Hw:Hp) zq=>∀(z3 z4 z5 z6 z7:Option V) (L:zdg) (us:List V) (As:List (List Int)),σ=[some (.ref pa),some (.ref d0),some (.ref L),z3,z4,z5,z6,z7,none,none]->aq H Hw->Hw L=some (.lst us)->sD K Hw As us->(∀vs,vs∈As↔PG.j8 ((cN pr).take i) vs)->As.length=(iH ((cN pr).take i)).length->zq;refine dH (K:=K) (a:=B) (xs:=Pk) Pv (iE _ _ _ fun _ zk=>zk _ _ _ _ _ L0 _ [[]] rfl Oi y2 v2 (fun vs=>by rw[zc1];cases vs<;>simp[PG.j8]) rfl) (fun i σ Hw _ hv=>iW _ _ _ hv _ fun _ _ _ _ _ _ _ _ _ sw _ _ _ _=>sw.seq hB) (fun i x σ Hw hi hv=>?_) (fun σ Hw hv=>?_)
 ·refine iW _ _ _ hv _ fun z3 z4 z5 z6 z7 L us As ze sw yL va hm hl=>?_;subst ze;clear hv;have li:i<pr.ax.length:=by have:=(zak.mp hi).1;lia
  obtain⟨a,rfl,ha⟩:=hb i x hi;refine⟨a,_,rfl,sw.aZ ha,rfl,_,_,rfl,_,_,rfl,_,_,rfl,rfl,?_⟩;simp only[za4];obtain⟨n,en⟩:∃n:Nat,(pr.ax.getD i ⟨[],0,0⟩).size=(n:Int):=⟨_,(zb2 (by
   rw[zan,zad li];have:=dr.size _ (zat li);show 0<=pr.ax[i].size;lia)).symm⟩
  have Zn:(cN pr).take (i+1)=(cN pr).take i++[(n:Int)]:=by
   have lz:i<(cN pr).length:=by rw[cN,zac];exact li
   rw[zaZ lz]
   congr 1
   rw[<- en,zan,zad li];simp[cN]
  have pre:=FI ((cN pr).take (i+1)) ((cN pr).drop (i+1)) fun x hx=>by
   obtain⟨b,hb,rfl⟩:=zau.mp (zc9 hx);have:=(dr.size b hb).1;lia
  rw[zbp,Zn,pJ,zaR] at pre;have n10:n<=10:=by
   have:=dr.size _ (zat li);rw[zan,zad li] at en;have en:pr.ax[i].size=(n:Int):=en;lia
  rw[en];generalize (pr.ax.getD i ⟨[],0,0⟩).name=bn;generalize (pr.ax.getD i ⟨[],0,0⟩).first=bf;refine ak fun U3 fk=>?_;walk_at "rd";intro L1 hL1;generalize e3:upd Hw L1 _=H3;have s3:=gL e3 hL1;have y3:=pY e3;refine(fk _ _).mpr (ak fun U4 jJ=>?_);clear fk e3;have yL3:=s3 _ _ yL;have va3:=va.mono s3;have mm:us.length=As.length:=(Paired.length va).symm;refine dN fun U hU=>?_;walk_at "rd";refine⟨⟨_,.of yL3⟩,hU _ _ ?_⟩;clear hU;obtain⟨Pw,rq,sX⟩:=La fun (j:Nat) (σ:St) (Hx:Hp) zq=>∀(z7:Option V) (L1:zdg) (zQ:List V),σ=[some (.ref pa),some (.ref d0),some (.ref L),some (.str (S bn)),some (.int n),some (.int bf),some (.ref L1),z7,none,none]->aq H3 Hx->Hx L1=some (.lst zQ)->sD K Hx (N0 (As.take j) n) zQ->zq;have ll:∀j,(N0 (As.take j) n).length<=16:=fun j=>by
   rw[FG,zbh];have h1:=zc7 n (zcm j As.length);rw[hl] at h1;lia
  refine dH (K:=K) (a:=L) (xs:=us) Pw (rq _ _ _ fun _ zk=>zk _ L1 [] rfl (.refl _) y3 .nil) (fun j σ Hx _ hv=>sX _ _ _ hv _ fun _ _ _ _ sx _ _=>.of (sx _ _ yL3)) (fun j x σ Hx hj hv=>?_) (fun σ Hx hv=>?_)
  ·refine sX _ _ _ hv _ fun z7 L1 zQ ze sx yx vx=>?_;subst ze;clear hv;obtain⟨vs,a,ev,rfl,LF⟩:=va3.get hj;have LF:=sx.aZ LF;have lu1:zQ.length<=16:=by rw[<- Paired.length vx];exact ll j
   simp only[eT,za4];walk_at "rd";simp only[fg];walk_at "rd";refine⟨n,rfl,by lia,by lia,fun D hD=>?_⟩;rw[zaR];refine rY (J:=CM 0 n) (fun τ=>∃x,τ=[x,some (.ref a)]) ((zaF n).map fun f=>V.int (f:Nat)) (fun k ys H2=>sD K H2 ((zaF k).map fun f=>vs++[((f:Nat):Int)]) ys) ?_ ?_ ?_ (by simp;lia) hD ⟨none,rfl⟩ .nil ?_ ?_
   ·intro k H2 _ hk;show k<n;simpa using hk
   ·intro H2 _;show n<=_;simp
   ·intro k H2 x H3 _ hk hy;have lk:k<n:=by simpa using hk
    obtain⟨rfl,rfl⟩:=hy;exact⟨rfl,by simp[lk]⟩
   ·rintro k x ys τ H2 hx ⟨x0,rfl⟩ sB yD ly py R hR
    have lk:k<n:=by have:=(zak.mp hx).1;simpa using this
    have hx:x=.int (k:Nat):=by simpa[lk] using hx.symm
    subst hx;walk_at "rd";intro p hp;have sp:=aq.new hp (.tup [V.int (k:Nat)]);refine⟨a,p,_,_,rfl,rfl,(sB.trans sp).aZ LF,.of ah,?_,fun c H3 s3 hc=>?_⟩
    ·have:=Ag ((hm vs).mp (zaz ev));rw[zbh] at this;have:=dr.ok.pG;have e9:(cN pr).length=pr.ax.length:=by unfold cN;rw[zac]
     rw[zac,zax];lia
    refine hR _ _ _ ⟨_,rfl⟩ (sp.trans s3) ?_;rw[zbs,zas];have z:sD K H3 ((zaF k).map (fun (f:Nat)=>vs++[(f:Int)])++[vs++[((k:Nat):Int)]]) (ys++[V.ref c]):=Paired.snoc (py.mono (sp.trans s3)) ⟨c,rfl,by rw[zas];exact hc⟩;exact z.put ((sp.trans s3) _ _ yD) _
   ·rintro ys HB sB yB ly py
    rw[zac,zbG] at py ly;refine⟨L1,D,_,_,rfl,rfl,sB _ _ yx,yB,by lia,fun L2 Pm=>rq _ _ _ fun _ zk=>zk _ L2 _ rfl ((sx.trans sB).trans (aq.new Pm _)) ah ?_⟩;have e5:N0 (As.take (j+1)) n=N0 (As.take j) n++(zaF n).map fun (f:Nat)=>vs++[(f:Int)]:=by
     unfold N0;rw[zbl,ev,za1];simp
    rw[e5];exact(show sD K HB _ _ from dX (vx.mono sB) py).mono (aq.new Pm _)
  ·refine sX _ _ _ hv _ fun z7 L1 zQ ze sx yx vx=>?_;subst ze;clear hv;refine(jJ _ _).mpr ?_;walk_at "rd";rw[mm,zaH] at vx;refine iE _ _ _ fun _ zk=>zk _ _ _ _ _ L1 zQ _ rfl ((sw.trans s3).trans sx) yx vx (fun vs=>?_) ?_
   ·rw[Zn];have:=N1 hm (n:Int) vs;rw[zaR] at this;exact this
   ·rw[Zn,pJ,zaR,FG,hl]
 refine iW _ _ _ hv _ fun z3 z4 z5 z6 z7 L us As ze sw yL va hm hl=>?_;subst ze;clear hv;have eB:Pk.length=(cN pr).length:=by unfold cN;rw[zac,lB]
 rw[eB,zaH] at hm hl;refine(fJ _ _).mpr (ak fun U3 fk=>?_);clear fJ;walk_at "rd";intro F0 hF0;have nF0:H F0=none:=sw.free hF0;have sF:=aq.new hF0 (.lst []);have yF:(upd Hw F0 (.lst [])) F0=_:=ah;have yLF:=sF _ _ yL;have vaF:=va.mono sF;have Zo:=sw.trans sF;generalize upd Hw F0 (.lst [])=H3 at *;refine(fk _ _).mpr (ak fun U4 jJ=>?_);clear fk;obtain⟨kvs,y0,Su,Rw⟩:=ls.at_;refine dN fun U hU=>?_;walk_at "rd";intro p5 vM;generalize e5:upd H3 p5 _=H5;have s5:=gL e5 vM;have y5:=pY e5;clear e5;have lk:kvs.length=(av pr.body).length:=by have:=congrArg zaV Su;rw[zac,zac] at this;exact this
 refine⟨d0,kvs,rfl,(Zo.trans s5) _ _ y0,by lia,fun l6 ks Sy _ pm=>?_⟩;have lks:ks.length<=25:=by rw[pm.length_eq,zac,lk];exact l25
 have s6:=aq.new Sy (.lst (ks.map V.int));have y6:(upd H5 l6 (.lst (ks.map V.int))) l6=_:=ah;generalize upd H5 l6 (.lst (ks.map V.int))=H6 at *;refine⟨p5,l6,_,_,rfl,rfl,s6 _ _ y5,y6,by rw[zac,zax];lia,fun l7 hl7=>⟨l7,rfl,⟨_,.of ah⟩,hU _ _ ?_⟩⟩;clear hU;have s7:=aq.new hl7 (.lst ([V.int 0]++ks.map V.int));have y7:(upd H6 l7 (.lst ([V.int 0]++ks.map V.int))) l7=_:=ah;have Va:=s5.trans (s6.trans s7);generalize upd H6 l7 (.lst ([V.int 0]++ks.map V.int))=H7 at *;have e7:([V.int 0]++ks.map V.int:List V)=(0::ks).map V.int:=rfl;rw[e7] at y7;have Vb:∀r,r∈0::ks↔r=0\/r∈(av pr.body).map (·.row):=fun r=>by rw[zag,pm.mem_iff,Su]
 have lvs:As.length<=16:=by rw[hl];exact UZ
 have mm:us.length=As.length:=(Paired.length va).symm;have yF7:=Va _ _ yF;have yL7:=Va _ _ yLF;have va7:=vaF.mono Va;have WT:=Zo.trans Va;clear s5 s6 s7 y5 y6 Sy hl7 vM pm yF yLF vaF Zo Va va yL sw sF;obtain⟨Pw,rq,sX⟩:=La fun (j:Nat) (σ:St) (Hx:Hp) zq=>∀(z9:Option V) (F:zdg) (zQ:List V),σ=[some (.ref pa),some (.ref d0),some (.ref L),z3,z4,z5,z6,z7,some (.ref F),z9]->aq H7 Hx->H F=none->Hx F=some (.lst zQ)->bF K Hx (((0::ks).take j).flatMap fun r=>As.map fun v=>(r,v)) zQ->zq;have ll:∀j,((((0::ks).take j).flatMap fun r=>As.map fun v=>((r,v):bH))).length<=416:=fun j=>by
  have k:∀l:List Int,(l.flatMap fun r=>As.map fun v=>((r,v):bH)).length=l.length*As.length:=fun l=>by
   induction l with
   |nil=>simp
   |cons a r ih=>rw[zbT,zai,ih];simp[zcu,zcv]
  rw[k];have h1:((0::ks).take j).length<=26:=by rw[zbh,zaf];lia
  exact zcC h1 lvs
 refine dH (K:=K) (a:=l7) (xs:=(0::ks).map V.int) Pw (rq _ _ _ fun _ zk=>zk _ F0 [] rfl (.refl _) nF0 yF7 .nil) (fun j σ Hx _ hv=>sX _ _ _ hv _ fun _ _ _ _ sx _ _ _=>.of (sx _ _ y7)) (fun j x σ Hx hj hv=>?_) (fun σ Hx hv=>?_)
 ·refine sX _ _ _ hv _ fun z9 F zQ ze sx nF yx vx=>?_;subst ze;clear hv;have lj:j<(0::ks).length:=by have:=(zak.mp hj).1;rw[zac] at this;exact this
  obtain⟨r,er⟩:∃r,(0::ks)[j]?=some r:=⟨_,zad lj⟩
  rw[zar,er] at hj;cases hj;have lu1:zQ.length<=416:=by rw[<- Paired.length vx];exact ll j
  simp only[eT,za4];walk_at "rd";simp only[fg];walk_at "rd";refine⟨⟨us,.of (sx _ _ yL7)⟩,fun D hD=>?_⟩;refine tY (K:=K) (fun τ=>∃x,τ=[x,some (.int r)]) (fun k ys H2=>bF K H2 ((As.take k).map fun v=>(r,v)) ys) (.of (sx _ _ yL7)) (by lia) hD ⟨none,rfl⟩ .nil ?_ ?_
  ·rintro k x ys τ H2 hx ⟨x0,rfl⟩ sB yD ly py R hR
   obtain⟨vs,a,ev,rfl,LF⟩:=va7.get hx;walk_at "rd";intro p hp;have sp:=aq.new hp (.tup [V.int r,V.ref a]);refine hR _ _ _ ⟨_,rfl⟩ sp ?_;have z:=jk (x:=(r,vs)) (py.mono sp) ⟨a,.of ah,((sx.trans sB).trans sp).aZ LF⟩;rw[zbl,ev,zas];exact z.put (sp _ _ yD) _
  ·rintro ys HB sB yB ly py
   rw[mm,zaH] at py;have lys:ys.length=As.length:=by rw[<- Paired.length py,zac]
   refine⟨F,D,_,_,rfl,rfl,sB _ _ yx,yB,by lia,fun F2 Zp=>rq _ _ _ fun _ zk=>zk _ F2 _ rfl ((sx.trans sB).trans (aq.new Zp _)) ((WT.trans (sx.trans sB)).free Zp) ah ?_⟩;rw[zbl,er,za1];have z:=(show bF K HB _ _ from dX (vx.mono sB) py).mono (aq.new Zp (.lst (zQ++ys)));simpa using z
 ·refine sX _ _ _ hv _ fun z9 F zQ ze sx nF yx vx=>?_;subst ze;clear hv;refine(jJ _ _).mpr ?_;walk_at "rd";have ll:=ll ((0::ks).map V.int).length;rw[zac,zaH] at vx ll;refine q F _ zQ Hx (WT.trans sx) nF yx vx (fun s=>?_) (by lia);rw[zbA]
  constructor
  ·rintro ⟨r,hr,hs⟩
   obtain⟨v,hv,rfl⟩:=zau.mp hs;exact cR.of dr ((Vb r).mp hr) ((hm v).mp hv)
  ·intro h;exact⟨s.1,(Vb _).mpr h.YW,zau.mpr ⟨s.2,(hm _).mpr h.inv,rfl⟩⟩
theorem dS(T:Tx K mg t):bB P w K mg base dc 1 t.jn t.jR ["state", "many"] Us:=by
 refine T.aK.F.lX sN (fun vs H Q E h=>?_) (fun eS A outer s H vs Q E hr h=>?_)
 ·obtain⟨_,_,_,rfl,_,_,_,_⟩:=h;rfl
 obtain⟨s0,many,⟨n,m⟩,rfl,hs,h0,h1,q⟩:=h;unfold rm at hs;have nd:=sN.nd;refine⟨_,[some (.ref s0),some (.int many),none],(ai (a8 (aG bI (aC bJ (pv 0) aj ao) aj (aM _))
 (ai (tx (bz ke (bz tG (bz fH (aC bJ (pv 0) aj ao) aj) aj) aj) (vR (pv 0) aj set_list))
 (ai (tx (bz ke (bz tG (aC bJ (pv 0) aj ao) (aC bJ (pv 0) aj ao)) aj) (vR (pv 0) aj set_list))
 (ar (aH (bz ke (bz EF (bz ke (bz tG (aC bJ (pv 0) aj ao) aj) aj) aj) (pv 1))))))
 aO)
 (ai (eL 2 nd (bz ke (aC bJ (pv 0) aj ao) (pv 1)))
 (ai (tx (bz EF (aC bJ (pv 0) aj ao) (pv 1)) (vR (pv 0) aj set_list))
 (ar (aH (pv 2)))))),rfl,?_⟩
 refine ak fun U1 fe=>?_;walk_at "rd";refine bZ (.of hs) (v:=.int m) (au (j:=1) rfl) ⟨rfl,dw (fun e=>?_) (fun e=>?_)⟩
 ·refine bZ (.of hs) (v:=.int n) (au (j:=0) rfl) ⟨_,_,rfl,rfl,_,_,rfl,rfl,mulR (by decide) (by decide),_,_,rfl,rfl,(by decide:(0:Int)<2147483647),s0,_,0,0,rfl,rfl,hs,rfl,?_⟩;dsimp only;have b1:=zbo ((n+1)*48271) (show (2147483647:Int)≠0 by decide);have b2:=za8 ((n+1)*48271) (show (0:Int)<2147483647 by decide);generalize hx:(n+1)*48271%2147483647=x at *;have y1:(upd H s0 (.lst ([V.int n,V.int m].set 0 (V.int x)))) s0=some (.lst [V.int x,V.int m]):=ah;refine bZ (.of y1) (v:=.int x) (au (j:=0) rfl) (bZ (.of y1) (v:=.int x) (au (j:=0) rfl) ⟨_,_,rfl,rfl,mulR (by lia) (by lia),_,_,rfl,rfl,(by decide:(0:Int)<2147483629),s0,_,0,0,rfl,rfl,y1,rfl,?_⟩);dsimp only;have c1:=zbo (x*x) (show (2147483629:Int)≠0 by decide);have c2:=za8 (x*x) (show (0:Int)<2147483629 by decide);have hm:Sh n=x*x%2147483629:=by unfold Sh;rw[hx]
  generalize x*x%2147483629=y at *;have y2:(upd (upd H s0 (.lst ([V.int n,V.int m].set 0 (V.int x)))) s0 (.lst ([V.int x,V.int m].set 0 (V.int y)))) s0=some (.lst [V.int y,V.int m]):=ah;refine bZ (.of y2) (v:=.int y) (au (j:=0) rfl) ⟨_,_,rfl,rfl,mulR (by decide) (by decide),_,_,rfl,rfl,(by decide:(0:Int)<2147483587),_,_,rfl,rfl,⟨by decide,by decide⟩,_,_,rfl,rfl,h0,?_⟩;exact q _ (y,m) _ (by rw[tk,if_pos (show m=1 by simpa using e)];show (Sh n*69621%2147483587/8%many,(Sh n,m))=_;rw[hm]) (zbo _ (by lia)) (za8 _ h0) (((bo.refl s0 H).put _).put _) y2
 ·refine(fe _ _).mpr ?_;walk_at "rd";refine bZ (.of hs) (v:=.int n) (au (j:=0) rfl) ⟨_,_,rfl,rfl,h0,bZ (.of hs) (v:=.int n) (au (j:=0) rfl) ⟨_,_,rfl,rfl,⟨h0,by lia⟩,s0,_,0,0,rfl,rfl,hs,rfl,?_⟩⟩;exact q _ (n/many,m) _ (by rw[tk,if_neg (show ¬m=1 by simpa using e)]) (zbo _ (by lia)) (za8 _ h0) ((bo.refl s0 H).put _) ah
theorem lR(T:Tx K mg t):bB P w K mg base dc 1 t.il t.i7 ["script", "k"] (K4 K):=by
 refine T.dQ.F.lX qh (fun vs H Q E h=>?_) (fun eS A outer s H vs Q E hr h=>?_)
 ·obtain⟨_,_,_,rfl,_,_,_,_⟩:=h;rfl
 obtain⟨a,ns,k,rfl,hS,WU,k63,q⟩:=h;have nd:=qh.nd;refine⟨_,[some (.ref a),some (.int k),none,none],(ai (eL 2 nd aj)
 (ai (a8 (aG pV (pv 1) (bS bO rfl T.jy PyProof.Rows.Boot.«len» (bw 0 ag)) (aM _))
 (ar (eL 2 nd (aC bJ (pv 0) (pv 1) vA)))
 aO)
 (ai (eL 3 nd (cf g7 rfl T.uV PyProof.Rows.Boot.«int» (ae (da pV (pv 2) (bz Qd aj aj) (aM _)) ag mS)))
 (ar (aH (aS (ae (bz fH (pv 2) (bz tG (bz tG aj (pv 1)) (pv 3))) (bw 3 ag) oy))))))),rfl,?_⟩
 refine ak fun U1 fe=>?_;walk_at "rd";refine(fe _ _).mpr (ak fun U2 fJ=>?_);clear fe;have fin:∀cell:Int,ns.getD k 0=cell->U2 [some (.ref a),some (.int k),some (.int cell),none] H:=by
  intro cell pU;refine(fJ _ _).mpr (ak fun U3 fk=>?_);clear fJ;walk_at "rd";refine⟨⟨by decide,by decide,by decide⟩,_,rfl,(fk _ _).mpr ?_⟩;clear fk;obtain⟨m,hm,m0,m1⟩:∃m:Int,(if decide (cell<10 ^ Int.toNat 18)=true then 1 else 0)=m/\0<=m/\m<=1:=⟨_,rfl,by split<;>decide,by split<;>decide⟩
  rw[hm];walk_at "rd";refine⟨mulR (by lia) (by lia),mulR (by lia) (by lia),fun p hp=>q p _ (aq.new hp _) hp ?_⟩;show upd H p _ p=_;rw[ah];have e10:((10:Int) ^ Int.toNat 18)=10 ^ 18:=rfl;rw[e10] at hm;simp only[decide_eq_true_eq] at hm;unfold NM;rw[pU,hm]
 walk_at "rd";refine⟨a,_,rfl,.inl hS,dw (fun e=>?_) (fun e=>fin 0 ?_)⟩
 rotate_left
 ·rw[zan,za5]
  ·rfl
  ·simp only[decide_eq_false_iff_not,zac] at e;lia
 have lk:k<ns.length:=by
  simp only[decide_eq_true_eq,zac] at e;lia
 exact bZ hS (v:=.int ns[k]) (au (by rw[zar,zad lk];rfl)) (fin _ (by rw[zan,zad lk];rfl))
theorem nL(T:Tx K mg t):bB P w K mg base dc 2 t.jo t.jS ["state", "boxes"] (NP K):=by
 have aN:=dS (P:=P) (w:=w) (K:=K) (base:=base) T;refine T.hV.F.lX sO (fun vs H Q E h=>?_) (fun eS A outer s H vs Q E hr h=>?_)
 ·obtain⟨_,_,_,_,rfl,_,_,_⟩:=h;rfl
 obtain⟨s0,B,bs,z,rfl,hs,hB,q⟩:=h;have nd:=sO.nd;refine⟨_,[some (.ref s0),some (.ref B)],(ai (a8 (PW.pt (pw_and (aG (lY (gZ hr)) (pv 1) (aS ag) (aM _)) (pw_and1 (aG IM (dP aN T.aK hr (bw 0 (ae aj ag aA))) aj (aM _)))))
 (ar (aH (aL (ae aW (ae (aC aD (aC bJ (pv 1) (dP aN T.aK hr (bw 0 (ae (bS bO rfl T.jy PyProof.Rows.Boot.«len» (bw 1 ag)) ag a7))) fK) aj ao) ag aV) aA))))
 aO)
 (ar (aH (aL (ae aW (ae (aC bJ (aS (ae (dP aN T.aK hr (bw 0 (ae aj ag aA))) (ae (dP aN T.aK hr (bw 0 (ae aj ag aA))) ag a7) a7)) (dP aN T.aK hr (bw 0 (ae aj ag aA))) fK) ag aV) aA))))),rfl,?_⟩
 refine ak fun U1 fe=>?_;have num:∀H1 z1,fQ bs z=DT z1->bo s0 H H1->rm H1 s0 z1->U1 [some (.ref s0),some (.ref B)] H1:=by
  intro H1 z1 el u1 wA;refine(fe _ _).mpr ?_;clear fe;walk_at "rd";refine⟨s0,4,_,rfl,wA,by decide,by decide,fun x2 z2 H2 q2 a2 b2 u2 vS=>?_⟩;refine⟨s0,12,_,rfl,vS,by decide,by decide,fun x3 z3 H3 q3 a3 b3 u3 uK p hp=>?_⟩;refine⟨s0,2,_,rfl,uK.new hp _,by decide,by decide,fun x5 z5 H5 q5 a5 b5 u5 HS=>?_⟩;obtain⟨y,ez,ey,y0,y1⟩:∃y:Int,tK [V.int x2,V.int x3] x5=some (V.int y)/\(if x5=0 then x2 else x3)=y/\0<=y/\y<1000:=by
   obtain rfl |rfl:x5=0\/x5=1:=by lia
   ·exact⟨x2,au (j:=0) rfl,rfl,a2,by lia⟩
   ·exact⟨x3,au (j:=1) rfl,rfl,a3,by lia⟩
  have u05:=(((u1.trans u2).trans u3).new hp _).trans u5;refine bZ (.of (u5 _ _ (uK.ne hp) ah)) ez fun p6 nY=>?_;exact q _ (.num y) _ _ (by rw[el,NN q2 q3 q5,ey]) (u05.new nY _) (HS.new nY _) (Own.tup (.cons .str (.cons .int .nil)) (u05.oC HS.nn) nY) ⟨y0,y1⟩ (zaj _)
 walk_at "rd";intro p1 yU;obtain⟨xs,hx,lx⟩:=pH hB;have s1:=aq.new yU (.lst []);refine⟨B,p1,xs,rfl,rfl,s1.seq hx,.of ah,dw (fun e=>?_) (fun e=>?_)⟩
 ·have l0:0<bs.length:=by
   rw[<- lx];cases xs with
   |nil=>cases e
   |cons _ _=>simp
  have wA:=hs.same s1;have Vc:=hB.same s1;generalize upd H p1 (.lst [])=H1 at *;refine⟨s0,3,_,rfl,wA,by decide,by decide,fun x2 z2 H2 q2 a2 b2 u2 vS=>⟨_,_,rfl,rfl,_,rfl,dw (fun e2=>?_) (fun e2=>?_)⟩⟩
  ·have bn:bs≠[]:=fun z=>by rw[z] at l0;cases l0
   obtain⟨ys,hy,ly⟩:=pH (Vc.up u2);have Pe:=hB.2;refine⟨B,ys,rfl,.inl hy,s0,_,_,rfl,vS,by lia,by lia,fun x3 z3 H3 q3 a3 b3 u3 uK=>((Vc.up u2).up u3).pick a3 (by lia) fun p4 Ls=>?_⟩;have CU:=((bo.of s1).trans u2).trans u3;exact q _ (.box _) _ _ (Hd bn q2 (by simpa using e2) (by rw[ly] at q3;exact q3)) (CU.new Ls _) (uK.new Ls _) (Own.tup (.cons .str (.cons .str .nil)) (CU.oC uK.nn) Ls) (ud a3 (by lia)) (zaj _)
  ·exact num H2 _ (G0 (fun z=>by rw[z] at l0;cases l0) q2 (by simpa using e2)) ((bo.of s1).trans u2) vS
 ·exact num _ _ (GZ (by
   cases bs with
   |nil=>rfl
   |cons _ _=>
    cases xs with
    |nil=>cases lx
    |cons _ _=>exact absurd rfl e)) (.of s1) (hs.same s1)
theorem zg(T:Tx K mg t):bB P w K mg base dc 3 t.oZ t.pK ["state", "boxes"] (YS K):=by
 have aN:=dS (P:=P) (w:=w) (K:=K) (base:=base) T;have jz:=nL (P:=P) (w:=w) (K:=K) (base:=base) T;refine T.jw.F.lX yX (fun vs H Q E h=>?_) (fun eS A outer s H vs Q E hr h=>?_)
 ·obtain⟨_,_,_,_,rfl,_,_,_⟩:=h;rfl
 obtain⟨s0,B,bs,z,rfl,hs,hB,q⟩:=h;have nd:=yX.nd;refine⟨_,[some (.ref s0),some (.ref B),none],(ai (eL 2 nd (dP jz T.hV hr (bw 0 (bw 1 ag))))
 (ai (a8 (aG bI (dP aN T.aK hr (bw 0 (ae aj ag aA))) aj (aM _))
 (ar (aH (pv 2)))
 aO)
 (ar (aH (aL (ae (aC Dj aW (dP aN T.aK hr (bw 0 (ae aj ag aA))) fK) (bw 2 (ae (dP jz T.hV hr (bw 0 (bw 1 ag))) ag a7)) aV)))))),rfl,?_⟩
 have s1:∀x:Int,0<=x->x<3->∃c:Nat,tK (zab "+-*").cps.toList x=some c/\YO x=[c]/\[c]∈([[43],[45],[42]]:List W):=by
  intro x h0 h1;obtain rfl |rfl |rfl:x=0\/x=1\/x=2:=by lia
  ·exact⟨43,by decide +kernel,rfl,by decide⟩
  ·exact⟨45,by decide +kernel,rfl,by decide⟩
  ·exact⟨42,by decide +kernel,rfl,by decide⟩
 refine ak fun U2 fJ=>?_;walk_at "rd";refine⟨s0,B,bs,_,rfl,hs,hB,fun v2 t2 z2 H2 q2 u2 vS f2 o2 d2=>(fJ _ _).mpr (ak fun U3 fk=>?_)⟩;clear fJ;have WV:=hB.up u2;walk_at "rd";refine⟨s0,2,_,rfl,vS,by decide,by decide,fun x3 z3 H3 q3 a3 b3 u3 uK=>⟨rfl,dw (fun e=>?_) (fun e=>?_)⟩⟩
 ·exact q _ _ _ _ (YQ q2 q3 (by simpa using e)) (u2.trans u3) uK (f2.up u3 hs.nn) ⟨o2,zaA d2 (by decide)⟩
 refine(fk _ _).mpr ?_;clear fk;have hB3:=WV.up u3;replace f2:=f2.up u3 hs.nn;have CU:=u2.trans u3;walk_at "rd";refine⟨s0,3,_,rfl,uK,by decide,by decide,fun x1 z1 H1 q1 a1 b1 u1 wA=>?_⟩;obtain⟨c,ec,ek,oc⟩:=s1 x1 a1 b1;refine⟨_,_,c,rfl,rfl,by decide +kernel,ec,?_⟩;have u01:=CU.trans u1;refine⟨s0,B,bs,_,rfl,wA,hB3.up u1,fun v4 t4 z4 H4 q4 u4 xp f4 o4 d4 p hp=>?_⟩;have LM:=u01.trans u4;have f5:Own K H _ (ki (.bin [c] t2 t4)) (.ref p):=Own.tup (.cons .str (.cons ((f2.up u1 hs.nn).up u4 hs.nn) (.cons (f4.back (u01.oC wA.nn)) .nil))) (LM.oC xp.nn) hp;exact q _ (.bin [c] t2 t4) _ _ (by rw[<- ek];exact YR q2 q3 (by simpa using e) q1 q4) (LM.new hp _) (xp.new hp _) f5 ⟨⟨oc,o2,o4⟩,by rw[mL];lia⟩
theorem xM(T:Tx K mg t):bB P w K mg base dc 2 t.iy t.jb ["state", "paper", "whole"] (Ll K):=by
 have aN:=dS (P:=P) (w:=w) (K:=K) (base:=base) T;refine T.gx.F.lX qm (fun vs H Q E h=>?_) (fun eS A outer s H vs Q E hr h=>?_)
 ·obtain⟨_,_,_,_,_,_,_,_,_,rfl,_⟩:=h;rfl
 obtain⟨s0,pa,wa,z,pr,l,wh,us,ws,rfl,hs,pp,pw,wn,lw,ll,q⟩:=h;have nd:=qm.nd;have line:zdo=2 ^ 24:=rfl;refine⟨_,[some (.ref s0),some (.ref pa),some (.ref wa),none,none,none],(ai (cJ (i:=3) nd rfl (zbP rfl) (dP aN T.aK hr (bw 0 (ae (bz fH (bS bO rfl T.jy PyProof.Rows.Boot.«len» (bw 1 ag)) aj) ag oy))))
 (ai (eL 4 nd (dP aN T.aK hr (bw 0 (ae aj ag aA))))
 (ai (a8 (aG bI (pv 4) aj (aM _))
 (ar (aH (bz vK (dJ (kz (K:=K) rfl) (pv 1) eW (dI (pv 3))) (dJ (kz (K:=K) rfl) (pv 1) (dI (bz fH (pv 3) aj)) eW))))
 aO)
 (ai (a8 (aG bI (pv 4) aj (aM _))
 (ar (aH (bz vK (pv 1) (dJ (kz (K:=K) rfl) (pv 1) (dI (pv 3)) eW))))
 aO)
 (ai (a8 (aG bI (pv 4) aj (aM _))
 (ar (aH (Hl (pv 1) eW eW (dI (rE mO aj)))))
 aO)
 (ai (a8 (aG bI (pv 4) aj (aM _))
 (ar (aH (bz vK (bz vK (dJ (kz (K:=K) rfl) (pv 1) eW (dI (pv 3))) (aS (ae (aC bJ (pv 2) (dP aN T.aK hr (bw 0 (ae (bS bO rfl T.jy PyProof.Rows.Boot.«len» (bw 2 ag)) ag a7))) fK) ag aV))) (dJ (kz (K:=K) rfl) (pv 1) (dI (pv 3)) eW))))
 aO)
 (ai (a8 (aG bI (pv 4) aj (aM _))
 (ar (aH (cK (own:=["standing"]) (ix:=[1,3]) rfl (by rfl) (by rfl) (bD (pv 2)) (fun _ _ _ _=>(bC (i:=0) (by show List.Nodup (["standing", "paper", "at"]:List Str);decide +kernel) rfl (zaC rfl))) (fun _ _ _ _=>(pB (aG (wR (K:=K) rfl (zJ hr)) (pv 0) (dJ (kz (K:=K) rfl) (pv 1) (dI (pv 2)) (dI (bz fH (pv 2) aj))) rfl))) (fun _ _ _ _=>(pv 0)))))
 aO)
 (ai (cJ (i:=5) nd rfl (zbP rfl) (cK (own:=["standing"]) (ix:=[]) rfl (by rfl) (by rfl) (bD (pv 2)) (fun _ _ _ _=>(bC (i:=0) (by show List.Nodup (["standing"]:List Str);decide +kernel) rfl (zaC rfl))) (fun _ _ _ _=>(pB (aG IM (aC (gK (K:=K) rfl) (pv 0) aj ao) aj (aM _)))) (fun _ _ _ _=>(aL (ae aj (ae (aC (gK (K:=K) rfl) (pv 0) aj ao) ag aV) aA)))))
 (ar (aH (cK (own:=["standing"]) (ix:=[3,5]) rfl (by rfl) (by rfl) (bD (pv 1)) (fun _ _ _ _=>(bC (i:=0) (by show List.Nodup (["standing", "at", "some"]:List Str);decide +kernel) rfl (zaC rfl))) (fun _ _ _ _=>(pB (aG (wR (K:=K) rfl (zJ hr)) (pv 0) (dJ (kz (K:=K) rfl) (pv 2) eW (dI (pv 1))) rfl))) (fun _ _ _ _=>(pv 0))))))))))))),rfl,?_⟩
 have mm:us.length=l.length:=(Paired.length pp.gS).symm;have WM:ws.length=wh.length:=(Paired.length pw.gS).symm;refine ak fun U1 fe=>?_;walk_at "rd";refine⟨pa,us,rfl,.inl (fO.seq pp.at_),s0,_,z,rfl,hs,by lia,by lia,fun x1 z1 H1 q1 a1 b1 u1 wA=>(fe _ _).mpr (ak fun U2 fJ=>?_)⟩;clear fe;walk_at "rd";refine⟨s0,6,_,rfl,wA,by decide,by decide,fun x2 z2 H2 q2 a2 b2 u2 vS=>(fJ _ _).mpr (ak fun U3 fk=>?_)⟩;clear fJ;have LN:=u1.trans u2;have LO:=pp.mono (Lq LN);have Vd:=pw.mono (Lq LN);have fin:∀(b:zdg) (pI:List V) (l':List bH) (Hy H':Hp),bo s0 H Hy->rm Hy s0 z2\/Hy s0≠none->aq Hy H'->Hy b=none->H' b=some (.lst pI)->bF K (wo H2 s0) l' pI->(∀x∈l',cR pr x)->l'.length<=2*l.length+1000->aq (wo H2 s0) (wo Hy s0)->Q (.ref b) H':=by
  intro b pI l' Hy H' uy hy sy nb yb st hin hlen sw;have zK:b≠s0:=fun e=>by
   rw[e] at nb;rcases hy with h |h
   ·rw[show Hy s0=_ from h] at nb;cases nb
   ·exact h nb
  exact q b l' pI H' (uy.trans (.of sy)) ⟨.of (by rw[cV zK];exact yb),(st.mono sw).mono (vG sy),hin,by lia⟩ hlen
 have sub:∀ {m l':List bH},(∀x∈m,cR pr x)->(∀x∈l',x∈m)->∀x∈l',cR pr x:=fun h1 h2 x hx=>h1 x (h2 x hx);have at2:=fO.seq LO.at_;have Ve:=fO.seq Vd.at_;have LP:H2 s0≠none:=vS.nn;obtain⟨n,rfl⟩:=zbO a1;walk_at "rd";refine dw (fun e=>?_) (fun e=>(fk _ _).mpr (ak fun U4 jJ=>?_))
 ·clear fk;obtain⟨l1,nS,in1,n1⟩:=mX LO.gS none (some (n:Int));obtain⟨l2,uC,Zq,n2⟩:=mX LO.gS (some ((n:Int)+1)) none;have c1:=dk us none (some (n:Int));have c2:=dk us (some ((n:Int)+1)) none;refine⟨_,rfl,pa,us,rfl,at2,fun p3 qd=>?_⟩;generalize e3:upd H2 p3 _=H3;have s3:=gL e3 qd;have y3:=pY e3;refine⟨_,rfl,pa,us,rfl,s3.seq at2,fun p4 Ls=>?_⟩;generalize e4:upd H3 p4 _=H4;have s4:=gL e4 Ls;have y4:=pY e4;refine⟨p3,p4,_,_,rfl,rfl,.of (s4 _ _ y3),.of y4,by lia,fun p5 vM=>?_⟩;have Mw:=s3.trans s4;exact fin p5 _ (l1++l2) H2 _ LN (.inr LP) (Mw.trans (aq.new vM _)) (Mw.free vM) ah (dX nS uC) (fun x hx=>(zah.mp hx).elim (fun h=>sub pp.pS in1 x h) (fun h=>sub pp.pS Zq x h)) (by rw[zai];lia) (.refl _)
 clear fk;walk_at "rd";refine dw (fun e=>?_) (fun e=>(jJ _ _).mpr (ak fun U5 rn=>?_))
 ·clear jJ;obtain⟨l1,nS,in1,n1⟩:=mX LO.gS (some (n:Int)) none;have c1:=dk us (some (n:Int)) none;refine⟨_,rfl,pa,us,rfl,at2,fun p3 qd=>?_⟩;generalize e3:upd H2 p3 _=H3;have s3:=gL e3 qd;have y3:=pY e3;refine⟨pa,p3,_,_,rfl,rfl,s3.seq at2,.of y3,by lia,fun p5 vM=>?_⟩;exact fin p5 _ (l++l1) H2 _ LN (.inr LP) (s3.trans (aq.new vM _)) (s3.free vM) ah (dX LO.gS nS) (fun x hx=>(zah.mp hx).elim (fun h=>pp.pS x h) (fun h=>sub pp.pS in1 x h)) (by rw[zai];lia) (.refl _)
 clear jJ;walk_at "rd";refine dw (fun e=>?_) (fun e=>(rn _ _).mpr (ak fun U6 Ao=>?_))
 ·clear rn;simp only[Uw];walk_at "rd";refine⟨1,rfl,_,rfl,pa,us,rfl,at2,by decide,fun p3 ix qd hlen=>?_⟩;obtain⟨l1,nS,in1⟩:=Lp LO.gS ix;have c1:=Paired.length nS;exact fin p3 _ l1 H2 _ LN (.inr LP) (aq.new qd _) qd ah nS (sub pp.pS in1) (by lia) (.refl _)
 clear rn;walk_at "rd";refine dw (fun e=>?_) (fun e=>(Ao _ _).mpr (ak fun U7 Iw=>?_))
 ·clear Ao;obtain⟨l1,nS,in1,n1⟩:=mX LO.gS none (some (n:Int));obtain⟨l2,uC,Zq,n2⟩:=mX LO.gS (some (n:Int)) none;have c1:=dk us none (some (n:Int));have c2:=dk us (some (n:Int)) none;have wp:=zb3.mpr wn;refine⟨_,rfl,pa,us,rfl,at2,fun p3 qd=>?_⟩;have n3:=vS.ne qd;generalize e3:upd H2 p3 _=H3;have s3:=gL e3 qd;have y3:=pY e3;refine⟨wa,ws,rfl,.inl (s3.seq Ve),s0,_,_,rfl,vS.same s3,by lia,by lia,fun x4 z4 H4 q4 a4 b4 u4 xp=>?_⟩;have sw:aq (wo H2 s0) (wo H4 s0):=(vG s3).trans (Lq u4);obtain⟨j,rfl⟩:=zbO a4;have lj:j<ws.length:=by lia
  obtain⟨sx,a,es,ev,kN⟩:=Vd.gS.get (zad lj);refine bZ (fO.seq (sw.seq Vd.at_)) (v:=.ref a) (au (by rw[zad lj,ev])) fun p5 vM=>?_;have y34:=u4 _ _ n3 y3;have at4:=fO.seq (sw.seq LO.at_);generalize e5:upd H4 p5 _=H5;have s5:=gL e5 vM;have y5:=pY e5;refine⟨p3,p5,_,_,rfl,rfl,.of (s5 _ _ y34),.of y5,by simp only[zax];lia,fun p6 nY=>?_⟩;generalize e6:upd H5 p6 _=H6;have s6:=gL e6 nY;have y6:=pY e6;refine⟨_,rfl,pa,us,rfl,(s5.trans s6).seq at4,fun p7 Iy=>?_⟩;generalize e7:upd H6 p7 _=H7;have s7:=gL e7 Iy;have y7:=pY e7;refine⟨p6,p7,_,_,rfl,rfl,.of (s7 _ _ y6),.of y7,by simp only[zai,zax];lia,fun p8 xI=>?_⟩;have s47:=s5.trans (s6.trans s7);exact fin p8 _ (l1++[sx]++l2) H4 _ ((LN.trans (.of s3)).trans u4) (.inr xp.nn) (s47.trans (aq.new xI _)) (s47.free xI) ah (dX (jk nS kN) uC) (fun x hx=>(zah.mp hx).elim (fun h=>(zah.mp h).elim (fun h=>sub pp.pS in1 x h) fun h=>by rw[zap.mp h];exact pw.pS sx (zaz es)) (fun h=>sub pp.pS Zq x h)) (by simp only[zai,zax];lia) sw
 clear Ao;walk_at "rd";refine dw (fun e=>?_) (fun e=>(Iw _ _).mpr (ak fun U8 Vf=>?_))
 ·clear Iw;simp only[fg];walk_at "rd";refine⟨⟨ws,Ve⟩,fun D hD=>?_⟩;refine j9 (K:=K) (fun τ=>∃x,τ=[x,some (.ref pa),some (.int n)]) (fun j ys _=>∃l',bF K (wo H2 s0) l' ys/\(∀x∈l',x∈wh)/\l'.length<=j) Ve (by lia) hD ⟨none,rfl⟩ ⟨[],.nil,fun x hx=>(by cases hx),zaj _⟩ ?_ ?_
  ·rintro j x ys τ HB hx ⟨x0,rfl⟩ sB yD ly ⟨l',sZ,Oj,n'⟩ R hR
   obtain⟨sx,a,es,rfl,kN⟩:=Vd.gS.get hx;walk_at "rd";obtain⟨lc,Zr,_,_⟩:=mX LO.gS (some (n:Int)) (some ((n:Int)+1));refine⟨_,rfl,_,rfl,pa,us,rfl,sB.seq at2,fun p3 qd=>?_⟩;generalize e3:upd HB p3 _=H3;have s3:=gL e3 qd;have y3:=pY e3;have kp:aq (wo H2 s0) H3:=fO.trans (sB.trans s3);refine⟨_,_,FJ (kN.mono kp),Rep.bg.mpr ⟨p3,_,rfl,.of y3,mn (Zr.mono kp)⟩,(vL sx).1,(sk _).1,(vL sx).2,_,rfl,hR _ _ _ ⟨_,rfl⟩ s3 (fun _=>⟨l',sZ,Oj,by lia⟩) fun _ R' h=>?_⟩;walk_at "rd";exact h _ _ (.refl _) ⟨l'++[sx],jk sZ kN,fun x hx=>(zah.mp hx).elim (fun h=>Oj x h) fun h=>(by rw[zap.mp h];exact zaz es),by rw[zai,zax];lia⟩
  ·rintro ys HB sB yD ly ⟨l',sZ,Oj,n'⟩
   exact fin D ys l' H2 _ LN (.inr LP) sB hD yD sZ (sub pw.pS Oj) (by lia) (.refl _)
 clear Iw;walk_at "rd";simp only[fg];walk_at "rd";refine⟨⟨ws,Ve⟩,fun D hD=>?_⟩;refine j9 (K:=K) (fun τ=>∃x,τ=[x]) (fun j ys HB=>∃l',bF K HB l' ys) Ve (by lia) hD ⟨none,rfl⟩ ⟨[],.nil⟩ ?_ ?_
 ·rintro j x ys τ HB hx ⟨x0,rfl⟩ sB yD ly ⟨l',sZ⟩ R hR
  obtain⟨sx,a,es,rfl,va,sa1,Zm⟩:=Vd.gS.get hx;have kp:aq (wo H2 s0) HB:=fO.trans sB;walk_at "rd";refine ay (kp.aZ sa1) (v:=.int sx.1) (au (j:=0) rfl) ⟨_,_,rfl,rfl,_,rfl,hR _ _ _ ⟨_,rfl⟩ (.refl _) (fun _=>⟨l',sZ⟩) fun _ R' h=>?_⟩;walk_at "rd";refine ay (kp.aZ sa1) (v:=.ref va) (au (j:=1) rfl) fun p3 qd=>?_;have s3:=aq.new qd (.tup [V.int 0,V.ref va]);exact h _ _ s3 ⟨l'++[(0,sx.2)],(jk (x:=(0,sx.2)) (sZ.mono s3) ⟨va,.of ah,(kp.trans s3).aZ Zm⟩).put (s3 _ _ yD) _⟩
 rintro sm H3 s3 y3 lsm ⟨ls3,Ik⟩
 refine(Vf _ _).mpr ?_;clear Vf;walk_at "rd";simp only[fg];walk_at "rd";refine⟨⟨us,s3.seq at2⟩,fun D2 Iu=>?_⟩;refine j9 (K:=K) (fun τ=>∃x,τ=[x,some (.int n),some (.ref D)]) (fun j ys _=>∃l',bF K (wo H2 s0) l' ys/\(∀x∈l',x∈l)/\l'.length<=j) (s3.seq at2) (by lia) Iu ⟨none,rfl⟩ ⟨[],.nil,fun x hx=>(by cases hx),zaj _⟩ ?_ ?_
 ·rintro j x ys τ HB hx ⟨x0,rfl⟩ sB yD ly ⟨l',sZ,Oj,n'⟩ R hR
  obtain⟨sx,a,es,rfl,kN⟩:=LO.gS.get hx;obtain⟨lc,Zr,_,_⟩:=mX Ik none (some (n:Int));walk_at "rd";refine⟨_,rfl,D,sm,rfl,.of (sB _ _ y3),fun p3 qd=>?_⟩;generalize e4:upd HB p3 _=H4;have s4:=gL e4 qd;have y4:=pY e4;have kp:aq (wo H2 s0) H4:=fO.trans (s3.trans (sB.trans s4));refine⟨_,_,FJ (kN.mono kp),Rep.bg.mpr ⟨p3,_,rfl,.of y4,mn (Zr.mono (sB.trans s4))⟩,(vL sx).1,(sk _).1,(vL sx).2,_,rfl,hR _ _ _ ⟨_,rfl⟩ s4 (fun _=>⟨l',sZ,Oj,by lia⟩) fun _ R' h=>?_⟩;walk_at "rd";exact h _ _ (.refl _) ⟨l'++[sx],jk sZ kN,fun x hx=>(zah.mp hx).elim (fun h=>Oj x h) fun h=>(by rw[zap.mp h];exact zaz es),by rw[zai,zax];lia⟩
 ·rintro ys HB sB yD ly ⟨l',sZ,Oj,n'⟩
  exact fin D2 ys l' H2 _ LN (.inr LP) (s3.trans sB) (s3.free Iu) yD sZ (sub pp.pS Oj) (by lia) (.refl _)
theorem uo:∀s:bq,(V.str (lT s.wd)=V.str (zab "while"))↔s.wd=.eU:=by
 intro s;cases s<;>simp only[bq.wd]<;>decide +kernel
theorem Au:∀s:bq,(V.str (lT s.wd)=V.str (zab "if"))↔s.wd=.ifs:=by
 intro s;cases s<;>simp only[bq.wd]<;>decide +kernel
theorem FW:∀s:bq,(V.str (lT s.wd)=V.str (zab "stop"))↔s.wd=.stop:=by
 intro s;cases s<;>simp only[bq.wd]<;>decide +kernel
theorem FX{K:zaa}{H:Hp}{d0 d1 d2 d3 d4 d5:Dp}{xs:List V}{ds:List Dp}(h:aI K H (d0::d1::d2::d3::d4::d5::ds) xs):∃v0 v1 v2 v3 v4 v5 r,xs=v0::v1::v2::v3::v4::v5::r/\Rep K H d5 v5/\aI K H ds r:=by
 rw[aI.aB] at h;obtain⟨v0,t0,rfl,_,h⟩:=h;rw[aI.aB] at h;obtain⟨v1,t1,rfl,_,h⟩:=h;rw[aI.aB] at h;obtain⟨v2,t2,rfl,_,h⟩:=h;rw[aI.aB] at h;obtain⟨v3,t3,rfl,_,h⟩:=h;rw[aI.aB] at h;obtain⟨v4,t4,rfl,_,h⟩:=h;rw[aI.aB] at h;obtain⟨v5,t5,rfl,e5,h⟩:=h;exact⟨v0,v1,v2,v3,v4,v5,t5,rfl,e5,h⟩
theorem iC(T:Tx K mg t):bB P w K mg base dc 1 t.bT t.bP ["body", "behind"] (gM K):=by
 refine T.eV.F.lX sI (fun vs H Q E h=>?_) (fun eS A outer s H vs Q E hr h=>?_)
 ·obtain⟨_,_,_,rfl,_⟩:=h;rfl
 obtain⟨b,body,x,rfl,rb,lb,q⟩:=h;have nd:=sI.nd;refine⟨_,[some (V.ref b),some (V.int x)],(ai (a8 (Bb (pv 0) (fun _=>rfl))
 (ar (aH (aC aD (aC bJ (pv 0) aj ao) aj ao)))
 aO)
 (ar (aH (pv 1)))),rfl,?_⟩
 walk_at "rd";rw[Rep.bg] at rb;obtain⟨_,xs,e,hx,rs⟩:=rb;cases e;have line:zdo=2 ^ 24:=rfl;cases body with
 |nil=>
  rw[zaP,aI.bN] at rs;subst rs;exact⟨false,.inl ⟨_,hx,rfl⟩,q⟩
 |cons st r=>
  rw[zaq,aI.aB] at rs;obtain⟨v,t,rfl,rv,rs⟩:=rs;obtain⟨a,ys,rfl,hs⟩:=fw st rv;refine⟨true,.inl ⟨_,hx,rfl⟩,?_⟩;refine(if_pos rfl).mpr (bZ (v:=.ref a) hx (au (j:=0) rfl) ?_);exact ay hs (v:=.int st.row) (au (j:=1) rfl) q
theorem xq(T:Tx K mg t):bB P w K mg base dc 1 t.fB t.fY ["statement", "after"] (wm K):=by
 refine T.jc.F.lX oW (fun vs H Q E h=>?_) (fun eS A outer s H vs Q E hr h=>?_)
 ·obtain⟨_,_,_,rfl,_⟩:=h;rfl
 obtain⟨v,st,x,rfl,rv,q⟩:=h;have nd:=oW.nd;refine⟨_,[some v,some (V.int x)],(ai (a8 (aG bI (aC aD (pv 0) aj ao) aW (aM _))
 (ar (aH (aC aD (pv 0) aj ao)))
 aO)
 (ar (aH (pv 1)))),rfl,?_⟩
 obtain⟨a,ys,rfl,hs⟩:=fw st rv;walk_at "rd";refine ay hs (au (j:=0) rfl) ⟨rfl,dw (fun e=>?_) (fun e=>?_)⟩
 ·have ew:=(uo st).mp e;refine ay hs (v:=.int st.row) (au (j:=1) rfl) ?_;cases st<;>first |exact q |cases ew
 ·have ew:st.wd≠.eU:=fun z=>e ((uo st).mpr z);cases st<;>first |exact q |exact absurd rfl ew
theorem sY(T:Tx K mg t):bB P w K mg base dc 1 t.fZ t.gn ["statement"] (rQ K):=by
 refine T.jv.F.lX sJ (fun vs H Q E h=>?_) (fun eS A outer s H vs Q E hr h=>?_)
 ·obtain⟨_,_,_,rfl,_⟩:=h;rfl
 obtain⟨v,st,H0,rfl,rv,s0,q⟩:=h;have nd:=sJ.nd;refine⟨_,[some v],(ai (a8 (aG bI (aC aD (pv 0) aj ao) aW (aM _))
 (ar (aH (aS (ae (aC aD (pv 0) aj ao) (ae (aC aD (pv 0) aj ao) ag aV) aV))))
 aO)
 (ai (a8 (aG bI (aC aD (pv 0) aj ao) aW (aM _))
 (ar (aH (aS (ae (aC aD (pv 0) aj ao) ag aV))))
 aO)
 (ar (aH (aS ag))))),rfl,?_⟩
 obtain⟨a,ys,rfl,hs⟩:=fw st rv;have hs:=s0.aZ hs;walk_at "rd";refine ay hs (au (j:=0) rfl) ⟨rfl,dw (fun e=>?_) (fun e=>ay hs (au (j:=0) rfl) ⟨rfl,dw (fun e2=>?_) (fun e2=>?_)⟩)⟩
 ·have ew:=(Au st).mp e;cases st<;>first |(exfalso;cases ew;done) |skip
  rename_i k sg l r x y;rw[dO,Rep.aX] at rv;obtain⟨_,xs,e0,hx,rs⟩:=rv;cases e0;obtain⟨v0,v1,v2,v3,v4,v5,rr,rfl,r5,rs⟩:=FX rs;rw[aI.aB] at rs;obtain⟨v6,t6,rfl,r6,_⟩:=rs;refine ay (s0.aZ hx) (v:=v5) (au (j:=5) rfl) (ay (s0.aZ hx) (v:=v6) (au (j:=6) rfl) fun p hp=>?_);rw[cF] at r5 r6;exact q p _ _ (aq.new hp _) hp ah (.cons r5 (.cons r6 .nil))
 ·have ew:=(uo st).mp e2;cases st<;>first |(exfalso;cases ew;done) |skip
  rename_i k sg l r x;rw[dO,Rep.aX] at rv;obtain⟨_,xs,e0,hx,rs⟩:=rv;cases e0;obtain⟨v0,v1,v2,v3,v4,v5,rr,rfl,r5,rs⟩:=FX rs;refine ay (s0.aZ hx) (v:=v5) (au (j:=5) rfl) fun p hp=>?_;rw[cF] at r5;exact q p _ _ (aq.new hp _) hp ah (.cons r5 .nil)
 ·intro p hp;have e1:st.wd≠.ifs:=fun z=>e ((Au st).mpr z);have Sz:st.wd≠.eU:=fun z=>e2 ((uo st).mpr z);refine q p [] _ (aq.new hp _) hp ah ?_;cases st<;>first |exact .nil |exact absurd rfl e1 |exact absurd rfl Sz
theorem Ei(T:Tx K mg t):bB P w K mg base dc 2 t.ka t.kF ["statement", "after"] (Dr K):=by
 have bV:bB P w K mg base dc 1 t.bT t.bP ["body", "behind"] (gM K):=iC T;refine T.pL.F.lX wX (fun vs H Q E h=>?_) (fun eS A outer s H vs Q E hr h=>?_)
 ·obtain⟨_,_,_,rfl,_⟩:=h;rfl
 obtain⟨v,st,x,rfl,rv,hl,q⟩:=h;have nd:=wX.nd;obtain⟨LA,xj,xk⟩:=T.Al;refine⟨_,[some v,some (V.int x),none],(ai (eL 2 nd (aC aD (pv 0) aj ao))
 (ai (a8 (aG bI (pv 2) aW (aM _))
 (ar (aH (aL (ae (pe rfl xj xk) ag aJ))))
 aO)
 (ai (a8 (aG bI (pv 2) aW (aM _))
 (ar (aH (aL (ae (dP bV T.eV hr (ae (aC aD (pv 0) aj ao) (bw 1 ag) aV)) (ae (dP bV T.eV hr (ae (aC aD (pv 0) aj ao) (bw 1 ag) aV)) ag a7) a7))))
 aO)
 (ai (a8 (aG bI (pv 2) aW (aM _))
 (ar (aH (aL (ae (dP bV T.eV hr (ae (aC aD (pv 0) aj ao) (ae (aC aD (pv 0) aj ao) ag aV) aV)) (bw 1 ag) a7))))
 aO)
 (ar (aH (aL (bw 1 ag)))))))),rfl,?_⟩
 obtain⟨a,ys,rfl,hs⟩:=fw st rv;refine ak fun U1 fe=>?_;walk_at "rd";refine ay hs (au (j:=0) rfl) ((fe _ _).mpr ?_);walk_at "rd";have LQ:∀b∈aF st,b.length<=100000:=hl;refine dw (fun e=>?_) (fun e=>dw (fun e1=>?_) (fun e1=>dw (fun e2=>?_) (fun e2=>?_)))
 ·have ew:=(FW st).mp (by rw[e]);cases st<;>first |(exfalso;cases ew;done) |skip
  intro p hp;exact q _ _ (aq.new hp _) (Rep.new hp (.cons (Rep.bj.mpr rfl) .nil))
 ·have ew:=(Au st).mp (by rw[e1]);cases st<;>first |(exfalso;cases ew;done) |skip
  rename_i k sg l r y z;rw[dO,Rep.aX] at rv;obtain⟨_,xs,e0,hx,rs⟩:=rv;cases e0;obtain⟨v0,v1,v2,v3,v4,v5,rr,rfl,r5,rs⟩:=FX rs;rw[aI.aB] at rs;obtain⟨v6,t6,rfl,r6,_⟩:=rs;rw[cF] at r5 r6;obtain⟨a5,_,rfl,_⟩:=Rep.bg.mp r5;obtain⟨a6,_,rfl,_⟩:=Rep.bg.mp r6;refine ay hx (v:=.ref a5) (au (j:=5) rfl) ⟨a5,y,x,rfl,r5,LQ y (by simp[aF]),ay hx (v:=.ref a6) (au (j:=6) rfl) ⟨a6,z,x,rfl,r6,LQ z (by simp[aF]),fun p hp=>?_⟩⟩;exact q _ _ (aq.new hp _) (Rep.new hp (.cons (Rep.bj.mpr rfl) (.cons (Rep.bj.mpr rfl) .nil)))
 ·have ew:=(uo st).mp (by rw[e2]);cases st<;>first |(exfalso;cases ew;done) |skip
  rename_i k sg l r y;rw[dO,Rep.aX] at rv;obtain⟨_,xs,e0,hx,rs⟩:=rv;cases e0;obtain⟨v0,v1,v2,v3,v4,v5,rr,rfl,r5,rs⟩:=FX rs;rw[cF] at r5;obtain⟨a5,_,rfl,_⟩:=Rep.bg.mp r5;refine ay hx (v:=.ref a5) (au (j:=5) rfl) (ay hs (v:=.int k) (au (j:=1) rfl) ⟨a5,y,k,rfl,r5,LQ y (by simp[aF]),fun p hp=>?_⟩);exact q _ _ (aq.new hp _) (Rep.new hp (.cons (Rep.bj.mpr rfl) (.cons (Rep.bj.mpr rfl) .nil)))
 ·intro p hp;have n1:st.wd≠.stop:=fun z=>e (V.str.inj ((FW st).mpr z));have n2:st.wd≠.ifs:=fun z=>e1 (V.str.inj ((Au st).mpr z));have n3:st.wd≠.eU:=fun z=>e2 (V.str.inj ((uo st).mpr z));have ew:oE st x=[x]:=by
   cases st<;>first |rfl |exact absurd rfl n1 |exact absurd rfl n2 |exact absurd rfl n3
  rw[ew] at q;exact q _ _ (aq.new hp _) (Rep.new hp (.cons (Rep.bj.mpr rfl) .nil))
theorem LR{K:zaa}{Oo:zdg->Prop}{H:Hp}{ds es:List Dp}{vs us:List V}(a:eX K Oo H ds vs)(b:eX K Oo H es us):eX K Oo H (ds++es) (vs++us):=fun H2 u=>(a H2 u).append (b H2 u)
theorem zh{K:zaa}{H:Hp}:∀(n:Nat) {ds:List bq} {vs:List V},aI K H (ds.map dO) vs->aI K H ((ds.drop n).map dO) (vs.drop n)
 |0,_,_,h=>h
 |n+1,[],vs,h=>by
  rw[zaP,aI.bN] at h;subst h;exact .nil
 |n+1,d::ds,vs,h=>by
  rw[zaq,aI.aB] at h;obtain⟨v,t,rfl,_,h⟩:=h;exact zh n h
theorem LS(T:Tx K mg t){n:Nat}(kL:bB P w K mg base dc (n+2) t.du t.dE ["body", "behind"] (rT K n)) :
 bB P w K mg base dc (n+3) t.du t.dE ["body", "behind"] (rT K (n+1)):=by
 have bV:bB P w K mg base dc 1 t.bT t.bP ["body", "behind"] (gM K):=iC T;have HU:bB P w K mg base dc 2 t.ka t.kF ["statement", "after"] (Dr K):=Ei T;have o9:bB P w K mg base dc 1 t.fZ t.gn ["statement"] (rQ K):=sY T;have xN:bB P w K mg base dc 1 t.fB t.fY ["statement", "after"] (wm K):=xq T;refine T.gb.F.lX nV (fun vs H Q E h=>?_) (fun eS A outer s H vs Q E hr h=>?_)
 ·obtain⟨_,_,_,rfl,_⟩:=h;rfl
 obtain⟨b,body,x,rfl,rb,hd,hf,q⟩:=h;have nd:=nV.nd;refine⟨_,[some (V.ref b),some (V.int x),none,none,none,none,none],(ai (eL 2 nd (aS ag))
 (ai (dB PassesOwn.never rfl (E5 rfl T.lh (bw 0 ag)) (tw rfl (dG (xH 3 nd) (dG (xH 4 nd) pf)))
 (ai (eL 5 nd (dP bV T.eV hr (ae (dJ rJ (pv 0) (dI (bz fH (pv 3) aj)) eW) (bw 1 ag) aV)))
 (ai (c9 (jd zaw zaD zaE cY (pv 2) (ae (aL (ae (aC aD (pv 4) aj ao) (ae (aC aD (pv 4) aj ao) (ae (dP HU T.pL hr (bw 4 (bw 5 ag))) ag a7) aV) aV)) ag bA)))
 (ar (dB PassesOwn.never rfl (bD (dP o9 T.jv hr (bw 4 ag))) (xH 6 nd)
 (ar (c9 (jd zaw zcb zcc tL (pv 2) (ae (dP kL T.gb hr (bw 6 (ae (dP xN T.jc hr (bw 4 (bw 5 ag))) ag a7))) ag a7)))))))))
 (ar (aH (pv 2))))),rfl,?_⟩
 have line:zdo=2 ^ 24:=rfl;rw[Rep.bg] at rb;obtain⟨_,xs,e,hx,rs⟩:=rb;cases e;have lx:xs.length=body.length:=by rw[rs.length,zac]
 have lb:=j6 body;refine ak fun U1 fe=>?_;walk_at "rd";intro tl HV;have s1:=aq.new HV (.lst []);have y1:(upd H tl (.lst [])) tl=some (.lst []):=ah;generalize upd H tl (.lst [])=H1 at *;refine(fe _ _).mpr (ak fun U2 fJ=>?_);clear fe;walk_at "rd";obtain⟨Pv,iE⟩:∃Pv:Nat->St->Hp->Prop,∀i σ H2,Pv i σ H2↔∃(z3 z4 z5 z6:Option V) (pre:List cB) (us:List V),σ=[some (V.ref b),some (V.int x),some (V.ref tl),z3,z4,z5,z6]/\aq H H2/\H2 tl=some (.lst us)/\eX K (·=tl) H2 (pre.map fI) us/\us.length=pre.length/\pre++aP (body.drop i) x=aP body x:=⟨_,fun _ _ _=>Iff.rfl⟩
 refine⟨_,rfl,⟨xs,s1.seq hx⟩,Br (K:=K) (a:=b) (xs:=xs) Pv ((iE _ _ _).mpr ⟨none,none,none,none,[],[],rfl,s1,y1,.nil,rfl,rfl⟩) (fun i σ H2 _ hv=>?_) ?_ ?_⟩
 ·obtain⟨_,_,_,_,_,_,_,s2,_⟩:=(iE _ _ _).mp hv;exact s2.seq hx
 ·intro i y σ H2 tp hi hv WW;obtain⟨z3,z4,z5,z6,pre,us,rfl,s2,y2,f2,lu,ep⟩:=(iE _ _ _).mp hv;clear hv;have done:=fun σ H7=>(iE (i+1) σ H7).mpr;have li:i<body.length:=by have:=(zak.mp hi).1;lia
  obtain⟨v,hv,rv⟩:=rs.get (i:=i) (d:=dO body[i]) (by rw[zar,zad li];rfl);rw[hi] at hv;cases hv;have ed:body.drop i=body[i]::body.drop (i+1):=zb5 li;rw[ed,aP,JR] at ep;have mem:body[i]∈body:=zat li;obtain⟨fm,dm⟩:=pE body _ mem;generalize A7:body[i]=st at *;have s3:=s2.trans (aq.new WW (.tup [V.int i,y]));have n3:tl≠tp:=az y2 WW;have y3:=aq.new WW (.tup [V.int i,y]) _ _ y2;have f3:=f2.up (.of (aq.new WW (.tup [V.int i,y])));have t3:(upd H2 tp (.tup [V.int i,y])) tp=some (.tup [V.int i,y]):=ah;generalize upd H2 tp (.tup [V.int i,y])=H3 at *;obtain⟨sa,ys,rfl,hs⟩:=fw st rv;refine⟨tp,_,rfl,.of t3,rfl,_,_,rfl,_,_,rfl,rfl,?_⟩;refine ak fun U3 fk=>?_;walk_at "rd";refine⟨_,rfl,b,_,rfl,s3.seq hx,fun p4 Ls=>?_⟩;have ec:iF xs (some ((i:Int)+1)) none=xs.drop (i+1):=by
   unfold iF;rw[HT.oo,show (i:Int)+1=((i+1:Nat):Int) by lia,HT.pk];rw[show min (i+1) xs.length=i+1 by lia];exact zbC (by rw[zby];lia)
  rw[ec];have s4:=s3.trans (aq.new Ls (.lst (xs.drop (i+1))));have y4:=aq.new Ls (.lst (xs.drop (i+1))) _ _ y3;have f4:=f3.up (.of (aq.new Ls (.lst (xs.drop (i+1)))));have l4:(upd H3 p4 (.lst (xs.drop (i+1)))) p4=some (.lst (xs.drop (i+1))):=ah;generalize upd H3 p4 (.lst (xs.drop (i+1)))=H4 at *;have rd4:Rep K H4 (.lst ((body.drop (i+1)).map dO)) (.ref p4):=Rep.bg.mpr ⟨p4,_,rfl,.of l4,zh (i+1) (rs.mono s4)⟩;refine⟨p4,body.drop (i+1),x,rfl,rd4,by rw[zby];lia,(fk _ _).mpr (ak fun U4 jJ=>?_)⟩;clear fk;generalize bK (body.drop (i+1)) x=af at *;have xp:=(show b8 K H4 sa _ from s4.aZ hs)
  walk_at "rd";refine⟨.inl ⟨rfl,_,.of y4⟩,ay xp (v:=.int st.row) (au (j:=1) rfl) (ay xp (v:=.str (lT st.wd)) (au (j:=0) rfl) ?_)⟩;have sh:JS st:=fun bb Yz=>by
   have:=(jL st bb Yz).1;have:=j6 bb;lia
  refine⟨.ref sa,st,af,rfl,rv.mono s4,sh,fun u H5 s5 ru p6 nY=>?_⟩;have y5:=s5 _ _ y4;have f5:=f4.up (.of s5);have fu:Fix K (·=tl) H5 (.tup ((oE st af).map .int)) u:=QE y5 (by rw[Ng];exact tT _) ru;have n6:p6≠tl:=(az y5 nY).symm;have s6:=aq.new nY (.tup [V.int st.row,V.str (lT st.wd),u]);have ft:Fix K (·=tl) (upd H5 p6 (.tup [V.int st.row,V.str (lT st.wd),u])) (fI (st.row,st.wd,oE st af)) (.ref p6):=Fix.tup ah n6 (.cons .int (.cons .str (.cons (fu.up (.of s6)) .nil)));have f6:=f5.up (.of s6);have y6:=s6 _ _ y5;have Zt:=(s4.trans s5).trans s6;generalize upd H5 p6 (.tup [V.int st.row,V.str (lT st.wd),u])=H6 at *;have afp:pre.length<=1000:=by
   have h1:=congrArg zaV ep;have h2:=congrArg zaV (cZ body x);simp only[zai,zac,zaf] at h1 h2;lia
  refine⟨tl,us,_,rfl,rfl,y6,by lia,?_⟩;have s7:aq H (upd H6 tl (.lst (us++[V.ref p6]))):=fun z o e=>by rw[aw (az e HV)];exact Zt z o e
  have f7:=(f6.snoc ft).up (aU.refl.put (O:=(·=tl)) rfl (.lst (us++[V.ref p6])));have y7:(upd H6 tl (.lst (us++[V.ref p6]))) tl=some (.lst (us++[V.ref p6])):=ah;generalize upd H6 tl (.lst (us++[V.ref p6]))=H7 at *;refine(jJ _ _).mpr ?_;clear jJ;refine dN fun U hU=>?_;walk_at "rd";refine⟨.ref sa,st,H,rfl,rv,s7,fun l8 bv H8 s8 hl8 y8 r8=>⟨l8,rfl,⟨bv,.of y8⟩,hU _ _ ?_⟩⟩;have Vg:bv.length=(aF st).length:=by rw[r8.length,zac]
  have l8t:l8≠tl:=fun z=>by rw[z,y7] at hl8;cases hl8
  obtain⟨Pw,rq⟩:∃Pw:Nat->St->Hp->Prop,∀j σ H9,Pw j σ H9↔∃(z6:Option V) (us:List V) (Ct:List cB),σ=[some (V.ref b),some (V.int x),some (V.ref tl),some (V.int i),some (V.ref sa),some (V.int af),z6]/\aq H H9/\(∀z o,z≠tl->H8 z=some o->H9 z=some o)/\H9 tl=some (.lst us)/\eX K (·=tl) H9 (Ct.map fI) us/\us.length=Ct.length/\
   Ct++((aF st).drop j).flatMap (fun bb=>aP bb (ib st af))=pre++(st.row,st.wd,oE st af)::(aF st).flatMap (fun bb=>aP bb (ib st af)):=⟨_,fun _ _ _=>Iff.rfl⟩
  refine dH (K:=K) (a:=l8) (xs:=bv) Pw ((rq _ _ _).mpr ⟨z6,_,pre++[(st.row,st.wd,oE st af)],rfl,s7.trans s8,fun z o _ e=>e,s8 _ _ y7,by rw[zas];exact f7.up (.of s8),by simp[lu],by simp⟩) (fun j σ H9 _ hv=>?_) ?_ ?_
  ·obtain⟨_,_,_,_,_,k9,_⟩:=(rq _ _ _).mp hv;exact .of (k9 _ _ l8t y8)
  ·intro j y σ H9 hj hv;obtain⟨z6',pI,Ct,rfl,s9,k9,y9,f9,Zu,e9⟩:=(rq _ _ _).mp hv;clear hv;have lj:j<(aF st).length:=by have:=(zak.mp hj).1;lia
   obtain⟨v,hv,rb⟩:=r8.get (i:=j) (d:=.lst ((aF st)[j].map dO)) (by rw[zar,zad lj];rfl);rw[hj] at hv;cases hv;have mj:(aF st)[j]∈aF st:=zat lj;obtain⟨fb,db⟩:=jL st _ mj;have ej:(aF st).drop j=(aF st)[j]::(aF st).drop (j+1):=zb5 lj;rw[ej,zbT] at e9;generalize (aF st)[j]=bb at *;obtain⟨ab,_,rfl,_⟩:=Rep.bg.mp rb;walk_at "rd";refine⟨.inl ⟨rfl,_,.of y9⟩,.ref sa,st,af,rfl,rv.mono s9,?_⟩;refine⟨ab,bb,_,rfl,rb.mono s9,by lia,by lia,fun Pe Ol N9 Mq Y0 WK Sm=>?_⟩;have Vh:=Mq _ _ y9;have Zv:=f9.up (.of Mq);have g10:eX K (·=tl) N9 ((aP bb (ib st af)).map fI) Ol:=Fd Vh (tU _) Sm;have Pe:Ol.length=(aP bb (ib st af)).length:=by rw[Sm.length,zac]
   have tot:Ct.length+(aP bb (ib st af)).length<=2000:=by
    have h1:=congrArg zaV e9;have h2:=congrArg zaV ep;have h3:=congrArg zaV (cZ body x);simp only[zai,zac,zaf] at h1 h2 h3;lia
   refine⟨tl,_,pI,Ol,rfl,rfl,Vh,WK,by lia,?_⟩;refine(rq _ _ _).mpr ⟨_,pI++Ol,Ct++aP bb (ib st af),rfl,fun z o e=>?_,fun z o nz e=>?_,ah,?_,by simp[Zu,Pe],by rw[<- e9];simp⟩
   ·rw[aw (az e HV)];exact Mq _ _ (s9 _ _ e)
   ·rw[aw nz];exact Mq _ _ (k9 z o nz e)
   ·rw[zas];exact(LR Zv g10).up (aU.refl.put (O:=(·=tl)) rfl _)
  ·intro σ H9 hv;obtain⟨z6',pI,Ct,rfl,s9,k9,y9,f9,Zu,e9⟩:=(rq _ _ _).mp hv;rw[Vg,zcL,zbY,zaO] at e9;refine done _ _ ⟨_,_,_,_,Ct,pI,rfl,s9,y9,f9,Zu,?_⟩;rw[e9,<- ep];simp
 ·intro σ H2 hv;obtain⟨z3,z4,z5,z6,pre,us,rfl,s2,y2,f2,lu,ep⟩:=(iE _ _ _).mp hv;rw[lx,zcL,aP,zaO] at ep;refine(fJ _ _).mpr ?_;walk_at "rd";rw[ep] at f2;exact q tl us H2 s2 HV y2 f2.Bv
theorem zj(T:Tx K mg t):∀n,bB P w K mg base dc (n+2) t.du t.dE ["body", "behind"] (rT K n)
 |0=>by
  have no:∀vs H Q E,¬rT K 0 vs H Q E:=fun vs H Q E h=>by cases h;lia
  exact⟨fun vs H Q E h=>absurd h (no vs H Q E),fun A outer s H args us vs Q E _ _ _ _ h=>absurd h (no vs H Q E)⟩
 |n+1=>LS T (zj T n)
theorem vO(T:Tx K mg t):bB P w K mg base dc 8 t.lO t.jP ["program"] (tV K):=by
 have kL:=zj (P:=P) (w:=w) (base:=base) T 5;refine T.o5.F.lX FO (fun vs H Q E h=>?_) (fun eS A outer s H vs Q E hr h=>?_)
 ·obtain⟨_,_,rfl,_⟩:=h;rfl
 obtain⟨v,pr,rfl,rp,hd,hf,q⟩:=h;have nd:=FO.nd;obtain⟨LA,xj,xk⟩:=T.Al;refine⟨_,[some v],(ar (aH (dP kL T.gb hr (ae (aC aD (pv 0) aj ao) (ae (pe rfl xj xk) ag aJ) aV)))),rfl,?_⟩;unfold gD at rp;rw[Rep.aX] at rp;obtain⟨a,xs,rfl,hx,rs⟩:=rp;rw[aI.aB] at rs;obtain⟨v1,t1,rfl,r1,rs⟩:=rs;rw[aI.aB] at rs;obtain⟨v2,t2,rfl,r2,rs⟩:=rs;obtain⟨b,_,rfl,_⟩:=Rep.bg.mp r2;walk_at "rd";refine ay hx (v:=.ref b) (au (j:=1) rfl) ?_;exact⟨b,pr.body,0,rfl,r2,by lia,hf,fun l us H' s' hl y r=>q l us H' s' hl y r⟩
theorem Ej(T:Tx K mg t):bB P w K mg base dc 9 t.mF t.ny ["program"] (GG K):=by
 have gY:=vO (P:=P) (w:=w) (base:=base) T;refine T.pN.F.lX w5 (fun vs H Q E h=>?_) (fun eS A outer s H vs Q E hr h=>?_)
 ·obtain⟨_,_,rfl,_⟩:=h;rfl
 obtain⟨v,pr,rfl,rp,hd,hf,q⟩:=h;have nd:=w5.nd;refine⟨_,[some v,none,none,none],(ai (eL 1 nd (aS ag))
 (ai (dB PassesOwn.never rfl (bD (dP gY T.o5 hr (bw 0 ag))) (xH 2 nd)
 (ai (eL 3 nd (aC aD (pv 2) aj ao))
 (ai (c9 (jd zaw zaD zaE cY (pv 1) (ae (aL (ae aW (bw 3 ag) aA)) ag bA)))
 (ar (a8 (aG j5 (aC aD (pv 2) aj ao) (aL (cg (vs:=[.str "if",.str "while"]) (by kernel_rfl))) rfl)
 (ai (c9 (jd zaw zaD zaE cY (pv 1) (ae (aL (ae aW (bw 3 (ae gy ag aA)) aA)) ag bA)))
 (ar (c9 (jd zaw zaD zaE cY (pv 1) (ae (aL (ae aW (bw 3 (ae gy ag aA)) aA)) ag bA)))))
 (ar (a8 (aG bI (aC aD (pv 2) aj ao) aW (aM _))
 (ar (c9 (jd zaw zaD zaE cY (pv 1) (ae (aL (ae aW (bw 3 ag) aA)) ag bA))))
 aO)))))))
 (ai (c9 (jd zaw zaD zaE cY (pv 1) (ae (aL (ae aW ag aA)) ag bA)))
 (ar (aH (pv 1)))))),rfl,?_⟩
 have line:zdo=2 ^ 24:=rfl;refine ak fun U1 fe=>?_;walk_at "rd";intro tl HV;have s1:=aq.new HV (.lst []);have y1:(upd H tl (.lst [])) tl=some (.lst []):=ah;generalize upd H tl (.lst [])=H1 at *;refine(fe _ _).mpr (ak fun U2 fJ=>?_);clear fe;refine dN fun U hU=>?_;walk_at "rd";refine⟨v,pr,rfl,rp.mono s1,hd,hf,fun l2 fv H2 s2 Jc y2 r2=>⟨l2,rfl,⟨fv,.of y2⟩,hU _ _ ?_⟩⟩;clear hU;have n2:l2≠tl:=fun z=>by rw[z,y1] at Jc;cases Jc
 have g2:eX K (·=tl) H2 ((aP pr.body 0).map fI) fv:=Fd (s2 _ _ y1) (tU _) r2;have Y2:fv.length=(aP pr.body 0).length:=by rw[r2.length,zac]
 have Y3:(aP pr.body 0).length<=1000:=by
  have h2:=congrArg zaV (cZ pr.body 0);rw[zac] at h2;lia
 have efl:=Nb pr.body 0;have pfl:=Bu pr.body 0;generalize aP pr.body 0=fl at *;have t2:Nh K H H2 tl H2 [] []:=⟨s1.trans s2,.refl,s2 _ _ y1,.nil,rfl⟩
 obtain⟨Pv,iE⟩:∃Pv:Nat->St->Hp->Prop,∀i σ H3,Pv i σ H3↔∃(z2 z3:Option V) (us:List V) (pre:List Tg),σ=[some v,some (V.ref tl),z2,z3]/\Nh K H H2 tl H3 us pre/\us.length<=3*i/\
  pre=(fl.take i).flatMap JO:=⟨_,fun _ _ _=>Iff.rfl⟩
 refine dH (K:=K) (a:=l2) (xs:=fv) Pv ((iE _ _ _).mpr ⟨none,none,[],[],rfl,t2,zaj _,rfl⟩) (fun i σ H3 _ hv=>?_) ?_ ?_
 ·obtain⟨_,_,_,_,_,ti,_⟩:=(iE _ _ _).mp hv;exact .of (ti.u _ _ n2 y2)
 ·intro i y σ H3 hi hv;obtain⟨z2,z3,us,pre,rfl,ti,lu,ep⟩:=(iE _ _ _).mp hv;clear hv;have done:=fun σ H7=>(iE (i+1) σ H7).mpr;have li:i<fl.length:=by have:=(zak.mp hi).1;lia
  obtain⟨a,rfl,hx⟩:=Ni g2 hi li;have hw:=pfl fl[i] (zat li);have et:(fl.take (i+1)).flatMap JO=pre++JO fl[i]:=by
   rw[zaZ li,za1,ep];simp
  have lt:=Nc (fl[i].1,fl[i].2.1);generalize fl[i]=r at *;obtain⟨k,wd,ws⟩:=r;simp only at hw hx lt;have fin:∀(σ:St) (H7:Hp) (pI:List V),(∃z2 z3,σ=[some v,some (V.ref tl),z2,z3])->Nh K H H2 tl H7 pI (pre++JO (k,wd,ws))->Pv (i+1) σ H7:=fun σ H7 pI ⟨z2,z3,e⟩ t7=>done σ H7 ⟨z2,z3,pI,_,e,t7,by
   have:=t7.l;have:=ti.l;have:(JO (k,wd,ws)).length<=3:=lt;simp only[zai] at *;lia,et.symm⟩
  clear done et;obtain⟨t3,WH⟩:=hx _ ti.u;simp only[eT,za4];refine ak fun U3 fk=>?_;walk_at "rd";refine ay WH (v:=.int k) (au (j:=0) rfl) ((fk _ _).mpr (ak fun U4 jJ=>?_));clear fk;walk_at "rd";refine⟨.inl ⟨rfl,_,.of ti.y⟩,fun p hp=>⟨tl,us,_,rfl,rfl,aq.new hp _ _ _ ti.y,by lia,(jJ _ _).mpr ?_⟩⟩;clear jJ;have SA:=ti.app HV hp (g:=.row k) rfl (fun _=>.cons .str (.cons .int .nil));generalize upd (upd H3 p (.tup [V.str (zab "row"),V.int k])) tl (.lst (us++[.ref p]))=H4 at *;obtain⟨t4,hx4⟩:=hx _ SA.u;walk_at "rd";have luf:us.length<=3000:=by lia
  refine ay hx4 (v:=.str (lT wd)) (au (j:=1) rfl) fun p5 vM=>⟨p5,_,rfl,.inr (.of ah),rfl,rfl,_,rfl,?_⟩
  have Om:=SA.same (aq.new vM (.tup [V.str (zab "if"),V.str (zab "while")]));generalize upd H4 p5 (.tup [V.str (zab "if"),V.str (zab "while")])=H5 at *;rw[zN wd];by_cases hl:wd=.ifs\/wd=.eU
  ·refine(if_pos (decide_eq_true hl)).mpr ⟨.inl ⟨rfl,_,.of Om.y⟩,fun p6 nY=>⟨tl,_,_,rfl,rfl,aq.new nY _ _ _ Om.y,by simp only[zai,zax];lia,?_⟩⟩;have SD:=Om.app HV nY (g:=.side k true) rfl (fun _=>.cons .str (.cons .int (.cons .bl .nil)));generalize upd (upd H5 p6 _) tl _=H6 at *;refine⟨.inl ⟨rfl,_,.of SD.y⟩,fun p7 Iy=>⟨tl,_,_,rfl,rfl,aq.new Iy _ _ _ SD.y,by simp only[zai,zax];lia,?_⟩⟩;have ti7:=SD.app HV Iy (g:=.side k false) rfl (fun _=>.cons .str (.cons .int (.cons .bl .nil)));have e:JO (k,wd,ws)=[.row k,.side k true,.side k false]:=by rcases hl with rfl |rfl<;>rfl
   rw[show pre++[.row k]++[.side k true]++[.side k false]=pre++JO (k,wd,ws) by rw[e];simp] at ti7;exact fin _ _ _ ⟨_,_,rfl⟩ ti7
  ·obtain⟨t5,hx5⟩:=hx _ Om.u;refine(if_neg (by rw[decide_eq_false hl];exact zal)).mpr (ay hx5 (v:=.str (lT wd)) (au (j:=1) rfl) ⟨rfl,dw (fun e=>?_) (fun e=>?_)⟩)
   ·have ew:=(tW wd).mp e;refine⟨.inl ⟨rfl,_,.of Om.y⟩,fun p6 nY=>⟨tl,_,_,rfl,rfl,aq.new nY _ _ _ Om.y,by simp only[zai,zax];lia,?_⟩⟩;have SD:=Om.app HV nY (g:=.bW k) rfl (fun _=>.cons .str (.cons .int .nil));rw[show pre++[.row k]++[.bW k]=pre++JO (k,wd,ws) by rw[show JO (k,wd,ws)=[.row k,.bW k] by subst ew;rfl];simp] at SD;exact fin _ _ _ ⟨_,_,rfl⟩ SD
   ·have ew:wd≠.bW:=fun z=>e ((tW wd).mpr z);have e:JO (k,wd,ws)=[.row k]:=by
     cases wd<;>first |rfl |exact absurd rfl ew |exact absurd rfl hw.1 |exact absurd rfl hw.2 |exact absurd (.inl rfl) hl |exact absurd (.inr rfl) hl
    rw[<- e] at Om;exact fin _ _ _ ⟨_,_,rfl⟩ Om
 ·intro σ H3 hv;obtain⟨z2,z3,us,pre,rfl,ti,lu,ep⟩:=(iE _ _ _).mp hv;rw[Y2,zaH,efl] at ep;refine(fJ _ _).mpr ?_;walk_at "rd";refine⟨.inl ⟨rfl,_,.of ti.y⟩,fun p hp=>⟨tl,us,_,rfl,rfl,aq.new hp _ _ _ ti.y,by lia,?_⟩⟩;have SA:=ti.app HV hp (g:=.fin) rfl (fun _=>.cons .str .nil);refine q tl _ _ SA.s HV SA.y ?_;unfold Bs;rw[<- ep];exact SA.f.Bv
theorem LU(T:Tx K mg t){n:Nat}(bL:bB P w K mg base dc (n+2) t.bE t.bG ["body"] (fL K n)) :
 bB P w K mg base dc (n+3) t.bE t.bG ["body"] (fL K (n+1)):=by
 have o9:bB P w K mg base dc 1 t.fZ t.gn ["statement"] (rQ K):=sY T;refine T.fj.F.lX mB (fun vs H Q E h=>?_) (fun eS A outer s H vs Q E hr h=>?_)
 ·obtain⟨_,_,_,rfl,_⟩:=h;rfl
 obtain⟨b,body,H0,rfl,s0,rb,hd,hf,q⟩:=h;have nd:=mB.nd;refine⟨_,[some (V.ref b),none,none,none],(ai (eL 1 nd (aS ag))
 (ai (dB PassesOwn.never rfl (bD (pv 0)) (xH 2 nd)
 (ai (c9 (jd zaw zaD zaE cY (pv 1) (bw 2 ag)))
 (ar (dB PassesOwn.never rfl (bD (dP o9 T.jv hr (bw 2 ag))) (xH 3 nd)
 (ar (c9 (jd zaw zcb zcc tL (pv 1) (ae (dP bL T.fj hr (bw 3 ag)) ag a7))))))))
 (ar (aH (pv 1))))),rfl,?_⟩
 have line:zdo=2 ^ 24:=rfl;rw[Rep.bg] at rb;obtain⟨_,xs,e,hx,rs⟩:=rb;cases e;have lx:xs.length=body.length:=by rw[rs.length,zac]
 have lb:=j6 body;have sl:=wz body;refine ak fun U1 fe=>?_;walk_at "rd";intro d Cr;have s1:=aq.new Cr (.lst []);have y1:(upd H d (.lst [])) d=some (.lst []):=ah;generalize upd H d (.lst [])=H1 at *;refine(fe _ _).mpr (ak fun U2 fJ=>?_);clear fe;refine dN fun U hU=>?_;walk_at "rd";refine⟨⟨xs,(s0.trans s1).seq hx⟩,hU _ _ ?_⟩;clear hU;obtain⟨Pv,iE,iW⟩:=La fun (i:Nat) (σ:St) (H3:Hp) zq=>∀(z2 z3:Option V) (us:List V),σ=[some (V.ref b),some (V.ref d),z2,z3]->aq H H3->us.length=(av (body.take i)).length->H3 d=some (.lst us)->aI K H0 ((av (body.take i)).map dO) us->zq;refine dH (K:=K) (a:=b) (xs:=xs) Pv ((iE _ _ _ fun _ zk=>zk none none [] rfl s1 rfl y1 .nil)) (fun i σ H3 _ hv=>?_) ?_ ?_
 ·refine iW _ _ _ hv _ fun _ _ _ _ s3 _ _ _=>?_;exact(s0.trans s3).seq hx
 ·intro i y σ H3 hi hv;refine iW _ _ _ hv _ fun z2 z3 us Zw s3 lu y3 r3=>?_;subst Zw;clear hv;have done:=fun σ H7=>iE (i+1) σ H7;have li:i<body.length:=by have:=(zak.mp hi).1;lia
  obtain⟨v,hv,rv⟩:=rs.get (i:=i) (d:=dO body[i]) (by rw[zar,zad li];rfl);rw[hi] at hv;cases hv;have mem:body[i]∈body:=zat li;obtain⟨fm,dm⟩:=pE body _ mem;have et:av (body.take (i+1))=av (body.take i)++body[i]::(aF body[i]).flatMap av:=by
   rw[zaZ li,L2.km,By,Fe]
  rw[et] at done;have eb:av body=(av (body.take i)++body[i]::(aF body[i]).flatMap av)++av (body.drop (i+1)):=by
   rw[<- et,<- L2.km,zbp]
  rw[eb] at sl;have sl:(av (body.take i)++body[i]::(aF body[i]).flatMap av).length<=1000:=by
   rw[zai] at sl;lia
  generalize body[i]=st at *;generalize av (body.take i)=pre at *;simp only[eT,za4];refine ak fun U3 fk=>?_;walk_at "rd";refine⟨.inl ⟨rfl,_,.of y3⟩,d,us,y,rfl,rfl,y3,by simp only[zai,zaf] at sl;lia,(fk _ _).mpr ?_⟩;clear fk;have y4:(upd H3 d (.lst (us++[y]))) d=some (.lst (us++[y])):=ah;have s4:aq H (upd H3 d (.lst (us++[y]))):=fun z o e=>by rw[aw (az e Cr)];exact s3 z o e
  generalize upd H3 d (.lst (us++[y]))=H4 at *;refine dN fun U hU=>?_;walk_at "rd";refine⟨y,st,H0,rfl,rv,s0.trans s4,fun p bv H5 Mv hp h5 rc=>⟨p,rfl,⟨_,.of h5⟩,hU _ _ ?_⟩⟩;clear hU;have s5:=s4.trans Mv;have y5:=Mv _ _ y4;have npd:p≠d:=(az y4 hp).symm;have Vg:bv.length=(aF st).length:=by rw[rc.length,zac]
  obtain⟨Pw,rq,sX⟩:=La fun (j:Nat) (σ:St) (H6:Hp) zq=>∀(z3:Option V) (pI:List V),σ=[some (V.ref b),some (V.ref d),some y,z3]->aq H H6->H6 p=some (.lst bv)->pI.length=(pre++st::((aF st).take j).flatMap av).length->H6 d=some (.lst pI)->aI K H0 ((pre++st::((aF st).take j).flatMap av).map dO) pI->zq;refine dH (K:=K) (a:=p) (xs:=bv) Pw ((rq _ _ _ fun _ zk=>zk z3 (us++[y]) rfl s5 h5 (by simp[lu]) y5 ?_)) (fun j σ H6 _ hv=>?_) ?_ ?_
  ·rw[zc1,zbY,zas];exact r3.append (.cons rv .nil)
  ·refine sX _ _ _ hv _ fun _ _ _ _ h6 _ _ _=>?_;exact .of h6
  ·intro j y' σ H6 hj hv;refine sX _ _ _ hv _ fun Zx pI Zw s6 h6 Zy y6 r6=>?_;subst Zw;clear hv;have Cu:=fun σ H7=>rq (j+1) σ H7;have lj:j<(aF st).length:=by have:=(zak.mp hj).1;lia
   obtain⟨v,hv,Vi⟩:=rc.get (i:=j) (d:=.lst ((aF st)[j].map dO)) (by rw[zar,zad lj];rfl);rw[hj] at hv;cases hv;have mj:(aF st)[j]∈aF st:=zat lj;obtain⟨fb,db⟩:=jL st _ mj;have ej:((aF st).take (j+1)).flatMap av=((aF st).take j).flatMap av++av (aF st)[j]:=by
    rw[zaZ lj,za1];simp
   have ea:(aF st).flatMap av=((aF st).take j).flatMap av++av (aF st)[j]++((aF st).drop (j+1)).flatMap av:=by
    rw[<- ej,<- za1,zbp]
   rw[ej] at Cu;rw[ea] at sl;generalize (aF st)[j]=bb at *;generalize ((aF st).take j).flatMap av=mid at *;generalize ((aF st).drop (j+1)).flatMap av=rest at *;have Qk:(pre++st::mid).length+(av bb).length<=1000:=by
    simp only[zai,zaf] at sl ⊢;lia
   obtain⟨ab,_,rfl,_⟩:=Rep.bg.mp Vi;simp only[eT,za4];walk_at "rd";refine⟨.inl ⟨rfl,_,.of y6⟩,ab,bb,H0,rfl,s0.trans s6,Vi,by lia,by lia,fun d2 Ki H7 s7 hd2 y7 r7=>?_⟩;have l2:Ki.length=(av bb).length:=by rw[r7.length,zac]
   refine⟨d,d2,_,_,rfl,rfl,s7 _ _ y6,y7,by lia,?_⟩;refine Cu _ _ (fun _ zk=>zk _ (pI++Ki) rfl (fun z o e=>by rw[aw (az e Cr)];exact s7 _ _ (s6 z o e)) (by rw[aw npd];exact s7 _ _ h6) (by simp only[zai,zaf] at *;lia) ah ?_);rw[show pre++st::(mid++av bb)=(pre++st::mid)++av bb by simp,zas];exact r6.append r7
  ·intro σ H6 hv;refine sX _ _ _ hv _ fun Zx pI Zz s6 h6 Zy y6 r6=>?_;subst Zz;rw[Vg,zaH] at Zy r6;exact done _ _ (fun _ zk=>zk _ _ pI rfl s6 Zy y6 r6)
 ·intro σ H3 hv;refine iW _ _ _ hv _ fun z2 z3 us Zz s3 lu y3 r3=>?_;subst Zz;rw[lx,zaH] at lu r3;refine(fJ _ _).mpr ?_;walk_at "rd";exact q d us H3 s3 Cr y3 r3
theorem pO(T:Tx K mg t):∀n,bB P w K mg base dc (n+2) t.bE t.bG ["body"] (fL K n)
 |0=>by
  have no:∀vs H Q E,¬fL K 0 vs H Q E:=fun vs H Q E h=>by cases h;lia
  exact⟨fun vs H Q E h=>absurd h (no vs H Q E),fun A outer s H args us vs Q E _ _ _ _ h=>absurd h (no vs H Q E)⟩
 |n+1=>LU T (pO T n)
theorem Vj{pr:PG.Prog}(ok:xF pr){tg:Tg}(h:tg∈Bs (cU pr.body)):NX pr tg:=by
 unfold Bs at h;rcases zah.mp h with h |h
 ·obtain⟨r,hr,ht⟩:=zbA.mp h;rw[<- eJ] at hr;obtain⟨st,A7,er⟩:=zau.mp hr;obtain⟨i,hi,rfl⟩:=zbb.mp A7;cases er;unfold Sb at ht;rcases zah.mp ht with ht |ht
  ·rcases zah.mp ht with ht |ht
   ·split at ht
    ·cases zap.mp ht;have:=ok.pos _ (zat hi);exact fun z=>by lia
    ·cases ht
   ·split at ht
    ·rename_i hw;rcases zag.mp ht with rfl |ht
     ·exact⟨i,hi,rfl,hw⟩
     ·cases zap.mp ht;exact⟨i,hi,rfl,hw⟩
    ·cases ht
  ·split at ht
   ·rename_i hw;cases zap.mp ht;exact⟨i,hi,rfl,hw⟩
   ·cases ht
 ·cases zap.mp h
  trivial
theorem xr(T:Tx K mg t):bB P w K mg base dc 14 t.gI t.iz ["program", "statements", "paper", "behind", "turn"] (FE P w K):=by
 have g1:bB P w K mg base dc 1 t.bT t.bP ["body", "behind"] (gM K):=iC T;have g2:=pO (P:=P) (w:=w) (base:=base) T 5;have g3:=vO (P:=P) (w:=w) (base:=base) T;have Cv:=Ar (P:=P) (w:=w) (base:=base) T g1 g2 g3;have HW:=Ej (P:=P) (w:=w) (base:=base) T;have Ek:=Cs (P:=P) (w:=w) (base:=base) T;have eR:=lC (P:=P) (w:=w) (base:=base) T g1 g2 g3;refine T.cT.F.lX oY (fun vs H Q E h=>?_) (fun eS A outer s H vs Q E hr h=>?_)
 ·obtain⟨_,_,_,_,_,_,_,_,rfl,_⟩:=h;rfl
 obtain⟨v,d0,pa,bd,turn,pr,l,us,rfl,rp,dr,ls,pp,bh,q⟩:=h;have nd:=oY.nd;have hu:=gZ hr;have line:zdo=2 ^ 24:=rfl;have mm:us.length=l.length:=(Paired.length pp.gS).symm;have pG:=pp.pG;refine⟨_,[some v,some (.ref d0),some (.ref pa),some (.ref bd),some (.int turn),none,none,none,none,none,none],(ai (eL 5 nd (dP Cv T.k8 hr (bw 0 (bw 2 (bw 3 ag)))))
 (ai (eL 6 nd (dP HW T.pN hr (bw 0 ag)))
 (ai (dB PassesOwn.never rfl (bD (aS (ae (aC bJ (pv 6) (bz ke (pv 4) (bS bO rfl T.jy PyProof.Rows.Boot.«len» (bw 6 ag))) JH) (ae (aC bJ (pv 6) (bz ke (bz fH (bz tG (pv 4) aj) aj) (bS bO rfl T.jy PyProof.Rows.Boot.«len» (bw 6 ag))) JH) ag aV) aV))) (bC (i:=7) nd rfl (zbP rfl))
 (ai (eL 8 nd (da (lY (gZ hr)) (cK (own:=["standing"]) (ix:=[0,1,7]) rfl (by rfl) (by rfl) (bD (pv 2)) (fun _ _ _ _=>(bC (i:=0) (by show List.Nodup (["standing", "program", "statements", "target"]:List Str);decide +kernel) rfl (zaC rfl))) (fun _ _ _ _=>(pB (mM (dP Ek T.nG hr (bw 1 (bw 2 (bw 0 (bw 3 ag)))))))) (fun _ _ _ _=>(pv 0))) (aS ag) (aM _)))
 (ai (eL 9 nd (cf zy rfl T.Am PyProof.Rows.Boot.«list» (bw 2 ag)))
 (ai (eL 10 nd (dP eR T.br hr (bw 0 (bw 7 (bw 9 ag)))))
 (ar (a8 (PW.pt (pw_or (tm (mM (bS Jq rfl T.nI PyProof.Rows.Boot.«isinstance» (bw 10 (ae (MG (v:=.ty "bool") rfl T.Ec PyProof.Rows.Boot.«bool» rfl) ag aJ))))) (pw_or (aG vU (pv 10) (IE (pv 5) (ID (IF (pv 8)))) (aM _)) (pw_or1 (aG (QD (zJ hr)) (pv 9) (pv 2) (aM _))))))
 (ar (aH gy))
 aO))))))
 (ar (aH gy))))),rfl,?_⟩
 refine ak fun U1 fe=>?_;walk_at "rd";refine⟨v,pa,bd,pr,l,us,rfl,rp,dr,pp,bh,fun H1 s1=>(fe _ _).mpr (ak fun U2 fJ=>?_)⟩;clear fe;walk_at "rd";refine⟨v,pr,rfl,rp.mono s1,dr.dep,dr.pG,fun tl tv H2 s2 HV y2 r2=>(fJ _ _).mpr (ak fun U3 fk=>?_)⟩;clear fJ;have ltv:tv.length=(Bs (cU pr.body)).length:=by rw[r2.length,zac]
 have afz:0<tv.length:=by rw[ltv];unfold Bs;rw[zai,zax];lia
 have Oi:=s1.trans s2;refine dN fun U hU=>?_;walk_at "rd";have pick:∀z:Int,∃(tg:Tg) (v:V),tK tv (z%(tv.length:Int))=some v/\Rep K H2 (gR tg) v/\NX pr tg:=fun z=>by
  have h0:=zbo z (show (tv.length:Int)≠0 by lia);have h1:=za8 z (show (0:Int)<tv.length by lia);obtain⟨j,ej⟩:=zbO h0;rw[ej] at h1 ⊢;have lj:j<(Bs (cU pr.body)).length:=by lia
  obtain⟨v,hv,rv⟩:=r2.get (i:=j) (d:=gR (Bs (cU pr.body))[j]) (by rw[zar,zad lj];rfl);exact⟨_,v,au hv,rv,Vj dr.ok (zat lj)⟩
 obtain⟨t1,v1,e1,r1,o1⟩:=pick turn;obtain⟨t2,v2,e2,r2',o2⟩:=pick (turn*5+3);clear pick;refine⟨tl,tv,rfl,.inl (.of y2),by lia,bZ (.of y2) e1 ⟨mulR (by decide) (by decide),tl,tv,rfl,.inl (.of y2),by lia,bZ (.of y2) e2 fun p3 qd=>⟨⟨_,.of ah⟩,hU _ _ ?_⟩⟩⟩;clear hU;have s3:=aq.new qd (.lst [v1,v2]);have y3:(upd H2 p3 (.lst [v1,v2])) p3=_:=ah;have Iz:=Oi.trans s3;have Ze:∀i x,[v1,v2][i]?=some x->∃tg,Rep K (upd H2 p3 (.lst [v1,v2])) (gR tg) x/\NX pr tg:=fun i x hx=>by
  rcases zag.mp (zaz hx) with rfl |h
  ·exact⟨t1,r1.mono s3,o1⟩
  ·rw[zap.mp h];exact⟨t2,r2'.mono s3,o2⟩
 generalize upd H2 p3 (.lst [v1,v2])=H3 at *;clear r1 r2 r2' o1 o2 e1 e2 y2 s3;obtain⟨Pv,iE,iW⟩:=La fun (i:Nat) (σ:St) (Hw:Hp) zq=>∀(z7 z8 z9 qM:Option V),σ=[some v,some (.ref d0),some (.ref pa),some (.ref bd),some (.int turn),some (.bl (mv pr l)),some (.ref tl),z7,z8,z9,qM]->aq H3 Hw->zq;refine dH (K:=K) (a:=p3) (xs:=[v1,v2]) Pv (iE _ _ _ fun _ zk=>zk _ _ _ _ rfl (.refl _)) (fun i σ Hw _ hv=>iW _ _ _ hv _ fun _ _ _ _ _ sw=>.of (sw _ _ y3)) (fun i x σ Hw hi hv=>?_) (fun σ Hw hv=>?_)
 ·refine iW _ _ _ hv _ fun z7 z8 z9 qM ze sw=>?_;subst ze;clear hv;obtain⟨tg,rt,ot⟩:=Ze i x hi;have ZA:=Iz.trans sw;have ZC:=pp.mono ZA;simp only[eT,za4];refine ak fun V1 xn=>?_;walk_at "rd";simp only[fg];walk_at "rd";refine⟨⟨us,ZC.at_⟩,fun D hD=>?_⟩;refine j9 (K:=K) (fun τ=>∃y,τ=[y,some v,some (.ref d0),some x]) (fun j ys _=>(!ys.isEmpty)=(l.take j).any fun s=>decide (tg∈qJ pr s)) ZC.at_ (by lia) hD ⟨none,rfl⟩ (by simp) ?_ ?_
  ·rintro j y ys τ HB hy ⟨x0,rfl⟩ sB yD ly py R hR
   obtain⟨sx,a,es,rfl,kN⟩:=ZC.gS.get hy;walk_at "rd";refine⟨v,d0,a,x,pr,sx,tg,rfl,(rp.mono ZA).mono sB,dr,(ls.mono ZA).mono sB,kN.mono sB,pp.pS sx (zaz es),(rt.mono sw).mono sB,ot,fun HC sC=>?_⟩;have e1:((l.take (j+1)).any fun s=>decide (tg∈qJ pr s))=((!ys.isEmpty) ||decide (tg∈qJ pr sx)):=by
    rw[zbl,es,List.any_append,py];simp
   refine⟨_,rfl,hR _ _ _ ⟨_,rfl⟩ sC (fun z=>?_) fun z R' h=>?_⟩
   ·rw[e1,z,zdb]
   ·walk_at "rd";refine h _ _ (.refl _) ?_;rw[e1,z,Bool.or_true];simp
  intro ys HB sB yB ly py p5 vM;rw[mm,zaH] at py;have s5:=aq.new vM (.lst []);refine⟨D,p5,ys,rfl,rfl,.of (s5 _ _ yB),.of ah,(xn _ _).mpr (ak fun V2 CV=>?_)⟩;clear xn;have py:(!ys.isEmpty)=Hn pr tg l:=py;rw[py];have ZD:=sw.trans (sB.trans s5);have Rr:=Iz.trans ZD;generalize upd HB p5 (.lst [])=H5 at *;walk_at "rd";refine⟨pa,us,rfl,.inl (Rr.seq pp.at_),fun hd hhd=>(CV _ _).mpr (ak fun V3 LV=>?_)⟩;clear CV;have s6:=aq.new hhd (.lst us);have y6:(upd H5 hd (.lst us)) hd=_:=ah;have ZE:=Rr.trans s6;have rt6:=(rt.mono ZD).mono s6;have sw6:=ZD.trans s6;generalize upd H5 hd (.lst us)=H6 at *;have pp6:mw K H6 hd pr l us:=⟨.of y6,pp.gS.mono ZE,pp.pS,pp.pG⟩
  walk_at "rd";refine⟨v,x,hd,pr,tg,l,us,rfl,rp.mono ZE,dr,rt6,pp6,fun H7 s7=>(LV _ _).mpr ?_⟩;clear LV;rw[NW];walk_at "rd";have WT:=sw6.trans s7;have Mu:=ZE.trans s7;have last:∀F:VK,F (.bl false) H7->TY K true (.ref hd) (.ref pa) H7 F:=fun F h=>by
   refine⟨.lst (l.map nT),.lst (l.map nT),Rep.bg.mpr ⟨hd,us,rfl,.of (s7 _ _ y6),mn (pp.gS.mono Mu)⟩,Rep.bg.mpr ⟨pa,us,rfl,Mu.seq pp.at_,mn (pp.gS.mono Mu)⟩,wH _,wH _,?_⟩;rw[eqv_refl];exact h
  have go:Pv (i+1) [some v,some (V.ref d0),some (V.ref pa),some (V.ref bd),some (V.int turn),some (V.bl (mv pr l)),some (V.ref tl),some x,some (V.bl (Hn pr tg l)),some (V.ref hd),some (V.bl (mv pr l && !Hn pr tg l))] H7:=iE _ _ _ fun _ zk=>zk _ _ _ _ rfl WT;refine⟨_, "bool",_,true,rfl,.bl _,by kernel_rfl,(if_neg (by decide)).mpr ?_⟩;generalize Hn pr tg l=mb at *;generalize mv pr l=sb at *;cases sb with
  |true=>exact(if_pos rfl).mpr ⟨rfl,(if_pos (by rw[zb0])).mpr (last _ ⟨_,rfl,(if_neg (by decide)).mpr go⟩)⟩
  |false=>exact(if_neg (by decide)).mpr ⟨rfl,(if_pos (by rw[zbU])).mpr (last _ ⟨_,rfl,(if_neg (by decide)).mpr go⟩)⟩
 ·refine iW _ _ _ hv _ fun z7 z8 z9 qM ze sw=>?_;subst ze;refine(fk _ _).mpr ?_;walk_at "rd";exact q Hw (Iz.trans sw)
theorem Av(T:Tx K mg t):bB P w K mg base dc 13 t.ju t.jW ["script"] (Lm K):=by
 have g1:bB P w K mg base dc 1 t.bT t.bP ["body", "behind"] (gM K):=iC T;have g2:=pO (P:=P) (w:=w) (base:=base) T 5;have g3:=vO (P:=P) (w:=w) (base:=base) T;have aN:=dS (P:=P) (w:=w) (K:=K) (base:=base) T;have eR:=lC (P:=P) (w:=w) (base:=base) T g1 g2 g3;refine T.hX.F.lX sS (fun vs H Q E h=>?_) (fun eS A outer s H vs Q E hr h=>?_)
 ·obtain⟨_,_,rfl,_⟩:=h;rfl
 obtain⟨a,ns,rfl,hS,q⟩:=h;have nd:=sS.nd;have line:zdo=2 ^ 24:=rfl;refine⟨_,[some (.ref a),none,none,none,none,none,none,none,none,none,none],(@ai _ _ _ _ _ (@cJ _ _ 1 _ _ _ _ nd rfl (zaC rfl) (@aS _ _ _ _ (@ae _ _ _ _ _ (@bS _ _ _ _ _ _ _ _ _ IP rfl T.Lz PyProof.Rows.Boot.«abs» (@ae _ _ _ _ _ (@bS _ _ _ _ _ _ _ _ _ (Bo rfl) rfl T.FR PyProof.Rows.Boot.«sum» (@ae _ _ _ _ _ (pv 0) (@ag _) (@aJ _ _ _ _)) (by first |rfl |exact .inl rfl |exact .inr rfl |decide |(intro _;rfl) |assumption) (by first |rfl |exact .inl rfl |exact .inr rfl |decide |(intro _;rfl) |assumption) (by first |rfl |exact .inl rfl |exact .inr rfl |decide |(intro _;rfl) |assumption) (by first |rfl |exact .inl rfl |exact .inr rfl |decide |(intro _;rfl) |assumption)) (@ag _) (@a7 _ _ _ _ _ _)) (by first |rfl |exact .inl rfl |exact .inr rfl |decide |(intro _;rfl) |assumption) (by first |rfl |exact .inl rfl |exact .inr rfl |decide |(intro _;rfl) |assumption) (by first |rfl |exact .inl rfl |exact .inr rfl |decide |(intro _;rfl) |assumption) (by first |rfl |exact .inl rfl |exact .inr rfl |decide |(intro _;rfl) |assumption)) (@ae _ _ _ _ _ (@aj _ _ _ _) (@ag _) (@aA _ _ _ _ _)) (@a7 _ _ _ _ _ _))) (by first |rfl |exact .inl rfl |exact .inr rfl |decide |(intro _;rfl) |assumption) (by first |rfl |exact .inl rfl |exact .inr rfl |decide |(intro _;rfl) |assumption)) (@ai _ _ _ _ _ (@cJ _ _ 2 _ _ _ _ nd rfl (zaC rfl) (@aC _ _ _ _ _ _ _ (@bJ _) (@aS _ _ _ _ (@cg _ _ ([.int 10,.int 10,.int 9,.int 8]) (by kernel_rfl))) (@cA _ _ _ _ _ _ _ _ _ _ _ _ _ _ _ _ aN (hr.mono (by first|decide|omega)) rfl T.aK.m T.aK.F.kp T.aK.b .nil eA (@ae _ _ _ _ _ (pv 1) (@ae _ _ _ _ _ (@aj _ _ _ _) (@ag _) (@aA _ _ _ _ _)) (@aJ _ _ _ _)) (by first |rfl |exact .inl rfl |exact .inr rfl |decide |(intro _;rfl) |assumption) (by first |rfl |exact .inl rfl |exact .inr rfl |decide |(intro _;rfl) |assumption) (by first |rfl |exact .inl rfl |exact .inr rfl |decide |(intro _;rfl) |assumption)) fK) (by first |rfl |exact .inl rfl |exact .inr rfl |decide |(intro _;rfl) |assumption) (by first |rfl |exact .inl rfl |exact .inr rfl |decide |(intro _;rfl) |assumption)) (@ai _ _ _ _ _ (@cJ _ _ 3 _ _ _ _ nd rfl (zaC rfl) (@cA _ _ _ _ _ _ _ _ _ _ _ _ _ _ _ _ aN (hr.mono (by first|decide|omega)) rfl T.aK.m T.aK.F.kp T.aK.b .nil eA (@ae _ _ _ _ _ (pv 1) (@ae _ _ _ _ _ (pv 2) (@ag _) (@aJ _ _ _ _)) (@aJ _ _ _ _)) (by first |rfl |exact .inl rfl |exact .inr rfl |decide |(intro _;rfl) |assumption) (by first |rfl |exact .inl rfl |exact .inr rfl |decide |(intro _;rfl) |assumption) (by first |rfl |exact .inl rfl |exact .inr rfl |decide |(intro _;rfl) |assumption)) (by first |rfl |exact .inl rfl |exact .inr rfl |decide |(intro _;rfl) |assumption) (by first |rfl |exact .inl rfl |exact .inr rfl |decide |(intro _;rfl) |assumption)) (@ai _ _ _ _ _ (@cJ _ _ 4 _ _ _ _ nd rfl (zaC rfl) (@bz _ _ _ _ _ _ _ _ (@ke _) (@bz _ _ _ _ _ _ _ _ (@fH _) (@bz _ _ _ _ _ _ _ _ (@fH _) (pv 3) (@aj _ _ _ _)) (@cA _ _ _ _ _ _ _ _ _ _ _ _ _ _ _ _ aN (hr.mono (by first|decide|omega)) rfl T.aK.m T.aK.F.kp T.aK.b .nil eA (@ae _ _ _ _ _ (pv 1) (@ae _ _ _ _ _ (@bz _ _ _ _ _ _ _ _ (@C6 _) (pv 2) (@aj _ _ _ _)) (@ag _) (@oy _ _ _ _ _ _)) (@aJ _ _ _ _)) (by first |rfl |exact .inl rfl |exact .inr rfl |decide |(intro _;rfl) |assumption) (by first |rfl |exact .inl rfl |exact .inr rfl |decide |(intro _;rfl) |assumption) (by first |rfl |exact .inl rfl |exact .inr rfl |decide |(intro _;rfl) |assumption))) (pv 2)) (by first |rfl |exact .inl rfl |exact .inr rfl |decide |(intro _;rfl) |assumption) (by first |rfl |exact .inl rfl |exact .inr rfl |decide |(intro _;rfl) |assumption)) (@ai _ _ _ _ _ (@dB _ _ _ _ _ _ _ _ PassesOwn.never rfl (@bD _ _ _ _ (@aS _ _ _ _ (@ae _ _ _ _ _ (pv 3) (@ae _ _ _ _ _ (pv 2) (@ag _) (@aJ _ _ _ _)) (@aJ _ _ _ _)))) (@bC _ _ 5 _ nd rfl (zaC rfl) (by first |rfl |exact .inl rfl |exact .inr rfl |decide |(intro _;rfl) |assumption)) (@ai _ _ _ _ _ (@cJ _ _ 6 _ _ _ _ nd rfl (zaC rfl) (@aL _ _ _ _ _ (@ae _ _ _ _ _ (@aW _ _ _ _) (@ae _ _ _ _ _ (@aj _ _ _ _) (@ae _ _ _ _ _ (@aW _ _ _ _) (@ae _ _ _ _ _ (@aL _ _ _ _ _ (@cg _ _ ([.str "box",.str "door"]) (by kernel_rfl))) (@ae _ _ _ _ _ (@aL _ _ _ _ _ (@ae _ _ _ _ _ (@aW _ _ _ _) (@ae _ _ _ _ _ (pv 5) (@ag _) (@aJ _ _ _ _)) (@aA _ _ _ _ _))) (@ae _ _ _ _ _ (@aS _ _ _ _ (@ae _ _ _ _ _ (@aL _ _ _ _ _ (@ae _ _ _ _ _ (@aW _ _ _ _) (@ae _ _ _ _ _ (@aj _ _ _ _) (@ae _ _ _ _ _ (@aL _ _ _ _ _ (@cg _ _ ([.str "number",.int 1]) (by kernel_rfl))) (@ag _) (@bA _ _ _ _ _)) (@aA _ _ _ _ _)) (@aA _ _ _ _ _))) (@ag _) (@bA _ _ _ _ _))) (@ae _ _ _ _ _ (@aS _ _ _ _ (@ag _)) (@ag _) (@lI _ _ _ _)) (@lI _ _ _ _)) (@bA _ _ _ _ _)) (@bA _ _ _ _ _)) (@aA _ _ _ _ _)) (@aA _ _ _ _ _)) (@aA _ _ _ _ _))) (by first |rfl |exact .inl rfl |exact .inr rfl |decide |(intro _;rfl) |assumption) (by first |rfl |exact .inl rfl |exact .inr rfl |decide |(intro _;rfl) |assumption)) (@ai _ _ _ _ _ (@cJ _ _ 7 _ _ _ _ nd rfl (zaC rfl) (@aL _ _ _ _ _ (@ae _ _ _ _ _ (@aS _ _ _ _ (@ae _ _ _ _ _ (@aL _ _ _ _ _ (@ae _ _ _ _ _ (@aW _ _ _ _) (@ae _ _ _ _ _ (pv 2) (@ae _ _ _ _ _ (pv 4) (@ag _) (@aJ _ _ _ _)) (@aJ _ _ _ _)) (@aA _ _ _ _ _))) (@ag _) (@bA _ _ _ _ _))) (@ae _ _ _ _ _ (@aS _ _ _ _ (@ae _ _ _ _ _ (@aL _ _ _ _ _ (@cg _ _ ([.str "ask",.int 2,.str "door"]) (by kernel_rfl))) (@ae _ _ _ _ _ (pv 6) (@ae _ _ _ _ _ (@aL _ _ _ _ _ (@ae _ _ _ _ _ (@aW _ _ _ _) (@ae _ _ _ _ _ (@aj _ _ _ _) (@ae _ _ _ _ _ (@aL _ _ _ _ _ (@cg _ _ ([.str "box",.str "door"]) (by kernel_rfl))) (@ag _) (@bA _ _ _ _ _)) (@aA _ _ _ _ _)) (@aA _ _ _ _ _))) (@ag _) (@bA _ _ _ _ _)) (@aJ _ _ _ _)) (@bA _ _ _ _ _))) (@ag _) (@lI _ _ _ _)) (@lI _ _ _ _))) (by first |rfl |exact .inl rfl |exact .inr rfl |decide |(intro _;rfl) |assumption) (by first |rfl |exact .inl rfl |exact .inr rfl |decide |(intro _;rfl) |assumption)) (@ai _ _ _ _ _ (@cJ _ _ 8 _ _ _ _ nd rfl (zaC rfl) (@aS _ _ _ _ (@ae _ _ _ _ _ (@aL _ _ _ _ _ (@ae _ _ _ _ _ (@aj _ _ _ _) (@ae _ _ _ _ _ (@aL _ _ _ _ _ (@ae _ _ _ _ _ (pv 4) (@ag _) (@aJ _ _ _ _))) (@ag _) (@bA _ _ _ _ _)) (@aA _ _ _ _ _))) (@ag _) (@bA _ _ _ _ _))) (by first |rfl |exact .inl rfl |exact .inr rfl |decide |(intro _;rfl) |assumption) (by first |rfl |exact .inl rfl |exact .inr rfl |decide |(intro _;rfl) |assumption)) (@ai _ _ _ _ _ (@dB _ _ _ _ _ _ _ _ PassesOwn.never rfl (@pj _ _ _ _ _ _ rfl T.lg (@ae _ _ _ _ _ (pv 2) (@ag _) (@aJ _ _ _ _)) (by first |rfl |exact .inl rfl |exact .inr rfl |decide |(intro _;rfl) |assumption)) (@bC _ _ 9 _ nd rfl (zaC rfl) (by first |rfl |exact .inl rfl |exact .inr rfl |decide |(intro _;rfl) |assumption)) (@ar _ _ _ (@a8 _ _ _ _ _ _ _ _ (@aG _ _ _ _ _ _ _ _ (@vU _) (pv 9) (pv 3) (aM _)) (@ar _ _ _ (@cJ _ _ 8 _ _ _ _ nd rfl (zaC rfl) (@bz _ _ _ _ _ _ _ _ (@lG _) (pv 8) (@aS _ _ _ _ (@ae _ _ _ _ _ (@aL _ _ _ _ _ (@ae _ _ _ _ _ (@aj _ _ _ _) (@ae _ _ _ _ _ (@aL _ _ _ _ _ (@ae _ _ _ _ _ (pv 9) (@ag _) (@aJ _ _ _ _))) (@ag _) (@bA _ _ _ _ _)) (@aA _ _ _ _ _))) (@ae _ _ _ _ _ (@aL _ _ _ _ _ (@ae _ _ _ _ _ (@aj _ _ _ _) (@ae _ _ _ _ _ (@aL _ _ _ _ _ (@ae _ _ _ _ _ (pv 9) (@ag _) (@aJ _ _ _ _))) (@ag _) (@bA _ _ _ _ _)) (@aA _ _ _ _ _))) (@ae _ _ _ _ _ (@aL _ _ _ _ _ (@ae _ _ _ _ _ (@aj _ _ _ _) (@ae _ _ _ _ _ (@aL _ _ _ _ _ (@ae _ _ _ _ _ (pv 9) (@ag _) (@aJ _ _ _ _))) (@ag _) (@bA _ _ _ _ _)) (@aA _ _ _ _ _))) (@ag _) (@bA _ _ _ _ _)) (@bA _ _ _ _ _)) (@bA _ _ _ _ _)))) (by first |rfl |exact .inl rfl |exact .inr rfl |decide |(intro _;rfl) |assumption) (by first |rfl |exact .inl rfl |exact .inr rfl |decide |(intro _;rfl) |assumption))) (@aO _))) (by first |rfl |exact .inl rfl |exact .inr rfl |decide |(intro _;rfl) |assumption)) (@ai _ _ _ _ _ (@a8 _ _ _ _ _ _ _ _ (@aG _ _ _ _ _ _ _ _ NU (@cA _ _ _ _ _ _ _ _ _ _ _ _ _ _ _ _ eR (hr.mono (by first|decide|omega)) rfl T.br.m T.br.F.kp T.br.b .nil eA (@ae _ _ _ _ _ (pv 7) (@ae _ _ _ _ _ (@aL _ _ _ _ _ (@cg _ _ ([.str "row",.int 4]) (by kernel_rfl))) (@ae _ _ _ _ _ (pv 8) (@ag _) (@aJ _ _ _ _)) (@bA _ _ _ _ _)) (@aJ _ _ _ _)) (by first |rfl |exact .inl rfl |exact .inr rfl |decide |(intro _;rfl) |assumption) (by first |rfl |exact .inl rfl |exact .inr rfl |decide |(intro _;rfl) |assumption) (by first |rfl |exact .inl rfl |exact .inr rfl |decide |(intro _;rfl) |assumption)) (@gy _ _ _ _) (aM _)) (@ar _ _ _ (@aH _ _ _ _ (@gy _ _ _ _))) (@aO _)) (@ai _ _ _ _ _ (@cJ _ _ 8 _ _ _ _ nd rfl (zaC rfl) (@bz _ _ _ _ _ _ _ _ (@lG _) (pv 8) (@aS _ _ _ _ (@ae _ _ _ _ _ (@aL _ _ _ _ _ (@ae _ _ _ _ _ (@aj _ _ _ _) (@ae _ _ _ _ _ (@aL _ _ _ _ _ (@ae _ _ _ _ _ (pv 3) (@ag _) (@aJ _ _ _ _))) (@ag _) (@bA _ _ _ _ _)) (@aA _ _ _ _ _))) (@ae _ _ _ _ _ (@aL _ _ _ _ _ (@ae _ _ _ _ _ (@aj _ _ _ _) (@ae _ _ _ _ _ (@aL _ _ _ _ _ (@ae _ _ _ _ _ (pv 3) (@ag _) (@aJ _ _ _ _))) (@ag _) (@bA _ _ _ _ _)) (@aA _ _ _ _ _))) (@ae _ _ _ _ _ (@aL _ _ _ _ _ (@ae _ _ _ _ _ (@aj _ _ _ _) (@ae _ _ _ _ _ (@aL _ _ _ _ _ (@ae _ _ _ _ _ (pv 3) (@ag _) (@aJ _ _ _ _))) (@ag _) (@bA _ _ _ _ _)) (@aA _ _ _ _ _))) (@ag _) (@bA _ _ _ _ _)) (@bA _ _ _ _ _)) (@bA _ _ _ _ _)))) (by first |rfl |exact .inl rfl |exact .inr rfl |decide |(intro _;rfl) |assumption) (by first |rfl |exact .inl rfl |exact .inr rfl |decide |(intro _;rfl) |assumption)) (@ai _ _ _ _ _ (@cJ _ _ 10 _ _ _ _ nd rfl (zaC rfl) (@da _ _ _ _ _ _ _ _ (@bI _) (pv 5) (pv 2) (aM _)) (by first |rfl |exact .inl rfl |exact .inr rfl |decide |(intro _;rfl) |assumption) (by first |rfl |exact .inl rfl |exact .inr rfl |decide |(intro _;rfl) |assumption)) (@ai _ _ _ _ _ (@cJ _ _ 8 _ _ _ _ nd rfl (zaC rfl) (@bz _ _ _ _ _ _ _ _ (@lG _) (pv 8) (@bz _ _ _ _ _ _ _ _ (@Qt _) (@aS _ _ _ _ (@ae _ _ _ _ _ (@aL _ _ _ _ _ (@ae _ _ _ _ _ (@aj _ _ _ _) (@ae _ _ _ _ _ (@aL _ _ _ _ _ (@ae _ _ _ _ _ (pv 3) (@ag _) (@aJ _ _ _ _))) (@ag _) (@bA _ _ _ _ _)) (@aA _ _ _ _ _))) (@ag _) (@bA _ _ _ _ _))) (@cf _ _ _ _ _ _ _ _ _ (@g7 _) rfl T.uV PyProof.Rows.Boot.«int» (@ae _ _ _ _ _ (IF (pv 10)) (@ag _) TU) (by first |rfl |exact .inl rfl |exact .inr rfl |decide |(intro _;rfl) |assumption) (by first |rfl |exact .inl rfl |exact .inr rfl |decide |(intro _;rfl) |assumption) (by first |rfl |exact .inl rfl |exact .inr rfl |decide |(intro _;rfl) |assumption) (by first |rfl |exact .inl rfl |exact .inr rfl |decide |(intro _;rfl) |assumption)))) (by first |rfl |exact .inl rfl |exact .inr rfl |decide |(intro _;rfl) |assumption) (by first |rfl |exact .inl rfl |exact .inr rfl |decide |(intro _;rfl) |assumption)) (@ai _ _ _ _ _ (@a8 _ _ _ _ _ _ _ _ (@aG _ _ _ _ _ _ _ _ (@vU _) (@cA _ _ _ _ _ _ _ _ _ _ _ _ _ _ _ _ eR (hr.mono (by first|decide|omega)) rfl T.br.m T.br.F.kp T.br.b .nil eA (@ae _ _ _ _ _ (pv 7) (@ae _ _ _ _ _ (@aL _ _ _ _ _ (@cg _ _ ([.str "row",.int 4]) (by kernel_rfl))) (@ae _ _ _ _ _ (pv 8) (@ag _) (@aJ _ _ _ _)) (@bA _ _ _ _ _)) (@aJ _ _ _ _)) (by first |rfl |exact .inl rfl |exact .inr rfl |decide |(intro _;rfl) |assumption) (by first |rfl |exact .inl rfl |exact .inr rfl |decide |(intro _;rfl) |assumption) (by first |rfl |exact .inl rfl |exact .inr rfl |decide |(intro _;rfl) |assumption)) (pv 10) (aM _)) (@ar _ _ _ (@aH _ _ _ _ (@gy _ _ _ _))) (@aO _)) (@ar _ _ _ (@a8 _ _ _ _ _ _ _ _ (@aG _ _ _ _ _ _ _ _ (@vU _) (@cA _ _ _ _ _ _ _ _ _ _ _ _ _ _ _ _ eR (hr.mono (by first|decide|omega)) rfl T.br.m T.br.F.kp T.br.b .nil eA (@ae _ _ _ _ _ (pv 7) (@ae _ _ _ _ _ (@aL _ _ _ _ _ (@cg _ _ ([.str "side",.int 3,.bl true]) (by kernel_rfl))) (@ae _ _ _ _ _ (N4 (pv 8) (@dI _ _ _ (@rE _ _ _ _ _ _ mO (@aj _ _ _ _)))) (@ag _) (@aV _ _ _ _ _)) (@bA _ _ _ _ _)) (@aJ _ _ _ _)) (by first |rfl |exact .inl rfl |exact .inr rfl |decide |(intro _;rfl) |assumption) (by first |rfl |exact .inl rfl |exact .inr rfl |decide |(intro _;rfl) |assumption) (by first |rfl |exact .inl rfl |exact .inr rfl |decide |(intro _;rfl) |assumption)) (pv 10) (aM _)) (@ar _ _ _ (@aH _ _ _ _ (@gy _ _ _ _))) (@aO _)))))))))))) (by first |rfl |exact .inl rfl |exact .inr rfl |decide |(intro _;rfl) |assumption)) (@ar _ _ _ (@aH _ _ _ _ (@gy _ _ _ _)))))))),rfl,?_⟩;refine ak fun U1 fe=>?_;walk_at "rd";refine⟨a,ns,rfl,hS,_,rfl,fun s0 ZF=>(fe _ _).mpr (ak fun U2 fJ=>?_)⟩;clear fe;have e1:=aq.new ZF (.lst [V.int (if ns.sum<0 then -ns.sum else ns.sum),V.int 1]);have wA:rm (upd H s0 (.lst [V.int (if ns.sum<0 then -ns.sum else ns.sum),V.int 1])) s0 (if ns.sum<0 then -ns.sum else ns.sum,1):=ah;generalize upd H s0 (.lst [V.int (if ns.sum<0 then -ns.sum else ns.sum),V.int 1])=H1 at *;generalize ((if ns.sum<0 then -ns.sum else ns.sum,1):Zs)=z1 at *;walk_at "rd";intro p2 wb;have e2:=aq.new wb (.lst [V.int 10,V.int 10,V.int 9,V.int 8]);have y2:(upd H1 p2 (.lst [V.int 10,V.int 10,V.int 9,V.int 8])) p2=_:=ah;have n2:=wA.ne wb;refine⟨s0,4,_,rfl,wA.same e2,by decide,by decide,fun x3 z3 H3 q3 a3 b3 u3 uK=>?_⟩;obtain⟨N,eN,N8,N10⟩:∃N:Nat,tK [V.int 10,V.int 10,V.int 9,V.int 8] x3=some (.int (N:Int))/\8<=N/\N<=10:=by
  obtain rfl |rfl |rfl |rfl:x3=0\/x3=1\/x3=2\/x3=3:=by lia
  ·exact⟨10,rfl,by decide,by decide⟩
  ·exact⟨10,rfl,by decide,by decide⟩
  ·exact⟨9,rfl,by decide,by decide⟩
  ·exact⟨8,rfl,by decide,by decide⟩
 refine bZ (.of (u3 _ _ n2 y2)) eN ((fJ _ _).mpr (ak fun U3 fk=>?_));clear fJ;have k3:aq H H3:=((bo.of (e1.trans e2)).trans u3).same ZF;clear e1 e2 y2 u3 wA eN;walk_at "rd";refine⟨s0,_,_,rfl,uK,by lia,by lia,fun x4 z4 H4 q4 a4 b4 u4 xp=>(fk _ _).mpr (ak fun U4 jJ=>?_)⟩;clear fk;obtain⟨g,rfl⟩:=zbO a4;walk_at "rd";refine⟨s0,_,_,rfl,xp,by lia,by lia,fun x5 z5 H5 q5 a5 b5 u5 HS=>?_⟩;obtain⟨fi,efi,f0,f1⟩:∃fi:Int,((g:Int)+1+x5)%(N:Int)=fi/\0<=fi/\fi<N:=⟨_,rfl,zbo _ (by lia),za8 _ (by lia)⟩
 refine⟨_,_,rfl,rfl,_,_,rfl,rfl,by lia,?_⟩;dsimp only;rw[efi];refine(jJ _ _).mpr (ak fun U5 rn=>?_);clear jJ;have k5:aq H H5:=(((bo.of k3).trans u4).trans u5).same ZF;clear efi a5 b5 u5 u4 xp uK q3 q4 q5 k3;have g0:(0:Int)<=(g:Int):=by lia
 have gN:g<N:=by lia
 refine dN fun U hU=>?_;walk_at "rd";intro p6 nY;generalize e6:upd H5 p6 _=H6;have s6:=gL e6 nY;have y6:=pY e6;clear e6 nY;refine⟨⟨_,.of y6⟩,hU _ _ ?_⟩;clear hU;have k6:=k5.trans s6;obtain⟨Pv,iE,iW⟩:=La fun (i:Nat) (σ:St) (Hw:Hp) zq=>∀(z5 z6 z7 z8 z9 qM:Option V),σ=[some (.ref a),some (.ref s0),some (.int N),some (.int g),some (.int fi),z5,z6,z7,z8,z9,qM]->aq H6 Hw->zq;refine dH (K:=K) (a:=p6) (xs:=[V.int g,V.int N]) Pv (iE _ _ _ fun _ zk=>zk _ _ _ _ _ _ rfl (.refl _)) (fun i σ Hw _ hv=>iW _ _ _ hv _ fun _ _ _ _ _ _ _ sw=>.of (sw _ _ y6)) (fun i x σ Hw hi hv=>?_) (fun σ Hw hv=>?_)
 rotate_left
 ·refine iW _ _ _ hv _ fun z5 z6 z7 z8 z9 qM ze sw=>?_;subst ze;refine(rn _ _).mpr ?_;walk_at "rd";exact q Hw (k6.trans sw)
 refine iW _ _ _ hv _ fun z5 z6 z7 z8 z9 qM ze sw=>?_;subst ze;clear hv rn;obtain⟨value,rfl,ZG,v0,v10⟩:∃value:Int,x=.int value/\(value=g\/value=N)/\0<=value/\value<=10:=by
  rcases zag.mp (zaz hi) with rfl |h
  ·exact⟨_,rfl,.inl rfl,by lia,by lia⟩
  ·rw[zap.mp h];exact⟨_,rfl,.inr rfl,by lia,by lia⟩
 have d:fW (bu N fi value):=N2 (by lia) (by lia) f0 f1 v0 v10;simp only[eT,za4];refine ak fun V1 xn=>?_;walk_at "rd";intro b1 qB;generalize c1:upd Hw b1 _=G1;have t1:=gT c1 qB;have r1:Rep K G1 (ki (.box [100,111,111,114])) (.ref b1):=yG c1 qB (.cons rS (.cons rS .nil));intro b2 vo;generalize c2:upd G1 b2 _=G2;have t2:=gT c2 vo;have r2:Rep K G2 (ki (.num value)) (.ref b2):=yG c2 vo (.cons rS (.cons zW .nil));intro b3 Mx;generalize c3:upd G2 b3 _=G3;have t3:=gT c3 Mx;have r3:Rep K G3 (ki (.num 1)) (.ref b3):=yG c3 Mx (.cons rS (.cons zW .nil));intro b4 My;generalize c4:upd G3 b4 _=G4;have t4:=gT c4 My;have r4:Rep K G4 (dO (.say 4 (.num 1))) (.ref b4):=yG c4 My (.cons rS (.cons zW (.cons r3 .nil)));intro b5 Oq;generalize c5:upd G4 b5 _=G5;have t5:=gL c5 Oq;have r5:Rep K G5 (.lst [dO (.say 4 (.num 1))]) (.ref b5):=Wr c5 Oq (.cons r4 .nil);intro b6 Ry;generalize c6:upd G5 b6 _=G6;have t6:=gL c6 Ry;have r6:Rep K G6 (.lst []) (.ref b6):=Wr c6 Ry .nil;intro b7 Rz;generalize c7:upd G6 b7 _=G7;have t7:=gT c7 Rz;have WX:=t3.trans (t4.trans (t5.trans t6));have r7:Rep K G7 (dO (.ifs 3 [61] (.box [100,111,111,114]) (.num value) [.say 4 (.num 1)] [])) (.ref b7):=yG c7 Rz (.cons rS (.cons zW (.cons rS (.cons (r1.mono (t2.trans WX)) (.cons (r2.mono WX) (.cons (r5.mono t6) (.cons r6 .nil)))))));have t07:=t1.trans (t2.trans (WX.trans t7));clear c1 c2 c3 c4 c5 c6 c7 qB vo Mx My Oq Ry Rz t1 t2 t3 t4 t5 t6 t7 WX r1 r2 r3 r4 r5 r6;refine(xn _ _).mpr (ak fun V2 CV=>?_);clear xn;walk_at "rd";intro b1 qB;generalize c1:upd G7 b1 _=G1;have t1:=gT c1 qB;have r1:Rep K G1 (iJ ⟨[100,111,111,114],N,fi⟩) (.ref b1):=yG c1 qB (.cons rS (.cons zW (.cons zW .nil)));intro b2 vo;generalize c2:upd G1 b2 _=G2;have t2:=gL c2 vo;have r2:Rep K G2 (.lst [iJ ⟨[100,111,111,114],N,fi⟩]) (.ref b2):=Wr c2 vo (.cons r1 .nil);intro b3 Mx;generalize c3:upd G2 b3 _=G3;have t3:=gT c3 Mx;have r3:Rep K G3 (dO (.ask 2 [100,111,111,114])) (.ref b3):=yG c3 Mx (.cons rS (.cons zW (.cons rS .nil)));intro b4 My;generalize c4:upd G3 b4 _=G4;have t4:=gT c4 My;have r4:Rep K G4 (ki (.box [100,111,111,114])) (.ref b4):=yG c4 My (.cons rS (.cons rS .nil));intro b5 Oq;generalize c5:upd G4 b5 _=G5;have t5:=gT c5 Oq;have r5:Rep K G5 (dO (.say 6 (.box [100,111,111,114]))) (.ref b5):=yG c5 Oq (.cons rS (.cons zW (.cons r4 .nil)));intro b6 Ry;generalize c6:upd G5 b6 _=G6;have t6:=gL c6 Ry;have WY:=t3.trans (t4.trans t5);have r6:Rep K G6 (.lst ((bu N fi value).body.map dO)) (.ref b6):=Wr c6 Ry (.cons (r3.mono (t4.trans t5)) (.cons (r7.mono (t1.trans (t2.trans WY))) (.cons r5 .nil)));intro SE Rz;generalize c7:upd G6 SE _=G8;have t7:=gT c7 Rz;have rp:Rep K G8 (gD (bu N fi value)) (.ref SE):=yG c7 Rz (.cons (r2.mono (WY.trans t6)) (.cons r6 .nil));have t08:=t07.trans (t1.trans (t2.trans (WY.trans (t6.trans t7))));clear c1 c2 c3 c4 c5 c6 c7 qB vo Mx My Oq Ry Rz t1 t2 t3 t4 t5 t6 t7 WY r1 r2 r3 r4 r5 r6 r7 t07;refine(CV _ _).mpr (ak fun V3 LV=>?_);clear CV;walk_at "rd";intro b1 qB;generalize c1:upd G8 b1 _=G1;have t1:=gT c1 qB;have y1:G1 b1=some (.tup [V.int fi]):=by rw[<- c1];exact ah
 intro b2 vo;generalize c2:upd G1 b2 _=G2;have t2:=gT c2 vo;have y2:G2 b2=some (.tup [V.int 2,V.ref b1]):=by rw[<- c2];exact ah
 intro L0 Sx;generalize c3:upd G2 L0 _=G3;have t3:=gL c3 Sx;have y3:=pY c3;have st0:bF K G3 (mz fi g 0) [V.ref b2]:=.cons ⟨b2,rfl,b1,.of (t3 _ _ y2),.of ((t2.trans t3) _ _ y1)⟩ .nil;have t83:=t1.trans (t2.trans t3);clear c1 c2 c3 qB vo y1 y2 t1 t2 t3;refine(LV _ _).mpr (ak fun V4 WZ=>?_);clear LV;refine JM fun U hU=>?_;walk_at "rd";refine⟨_,rfl,by lia,by lia,hU _ _ ?_⟩;clear hU;rw[zaR];obtain⟨Pw,rq,sX⟩:=La fun (j:Nat) (σ:St) (Hx:Hp) zq=>∀(z9:Option V) (L:zdg) (us:List V),σ=[some (.ref a),some (.ref s0),some (.int N),some (.int g),some (.int fi),some (.int value),some (.ref b7),some (.ref SE),some (.ref L),z9,qM]->aq G3 Hx->Hx L=some (.lst us)->bF K Hx (mz fi g j) us->us.length<=1+3*j->zq;refine tE (lo:=0) (n:=N) Pw (rq _ _ _ fun _ zk=>zk _ L0 _ rfl (.refl _) y3 st0 (by simp)) (fun j σ Hx hj hv=>?_) (fun σ Hx hv=>?_)
 ·refine sX _ _ _ hv _ fun z9 L us ze sx yL st lu=>?_;subst ze;clear hv;rw[Int.zero_add];simp only[eT,za4];walk_at "rd";have ps:=HJ fi g j;by_cases ej:(j:Int)=(g:Int)
  ·rw[if_neg (fun z=>z ej),zaO] at ps;refine(if_pos ej).mpr (rq _ _ _ fun _ zk=>zk _ L us rfl sx yL ?_ (by lia));rw[ps];exact st
  rw[if_pos ej] at ps;refine(if_neg ej).mpr (yV (K:=K) (n:=(j:Int)) fun D ds H2 s2 hD l3 yD W0=>⟨L,D,us,ds,rfl,rfl,s2 _ _ yL,yD,by lia,fun L2 Pm=>rq _ _ _ fun _ zk=>zk _ L2 _ rfl ((sx.trans s2).trans (aq.new Pm _)) ah ?_ (by rw[zai];lia)⟩);rw[ps];exact(show bF K H2 _ _ from dX (st.mono s2) W0).mono (aq.new Pm _)
 refine sX _ _ _ hv _ fun z9 L us ze sx yL st lu=>?_;subst ze;clear hv;refine(WZ _ _).mpr (ak fun V5 hV5=>?_);clear WZ;have kx:=t83.trans sx;walk_at "rd";intro b1 qB;generalize c1:upd Hx b1 _=G4;have t1:=gT c1 qB;have rt:Rep K G4 (gR (.row 4)) (.ref b1):=yG c1 qB (.cons rS (.cons zW .nil));have k4:=kx.trans t1;have pp:mw K G4 L (bu N fi value) (mz fi g N) us:=⟨.of (t1 _ _ yL),st.mono t1,FL d f0 f1 (zaj _),by rw[Paired.length st];lia⟩
 refine⟨.ref SE,.ref b1,L,bu N fi value,.row 4,mz fi g N,us,rfl,rp.mono k4,d,rt,pp,fun G5 t5=>?_⟩;rw[Rg d (by lia) gN];refine⟨_,_,rfl,rfl,(if_pos rfl).mpr ((hV5 _ _).mpr (ak fun V6 hV6=>?_))⟩;clear hV5 c1 qB;have k5':=k4.trans t5;have Il:=st.mono (t1.trans t5);have Pn:=(t1.trans t5) _ _ yL;clear pp rt t1 t5 k4 st yL;walk_at "rd";refine yV (K:=K) (n:=(g:Int)) fun D ds G6 t6 hD l3 yD W0=>⟨L,D,us,ds,rfl,rfl,t6 _ _ Pn,yD,by lia,fun L2 Pm=>(hV6 _ _).mpr (ak fun V7 hV7=>?_)⟩
 clear hV6;have t7:=aq.new Pm (.lst (us++ds));have y7:(upd G6 L2 (.lst (us++ds))) L2=_:=ah;have st7:bF K (upd G6 L2 (.lst (us++ds))) (mz fi g N++dn g) (us++ds):=(show bF K G6 _ _ from dX (Il.mono t6) W0).mono t7;have k7:=k5'.trans (t6.trans t7);generalize upd G6 L2 (.lst (us++ds))=G7 at *;clear Il W0 yD Pn t6 t7 Pm hD k5';have l7:(us++ds).length<=100:=by rw[zai];lia
 have ZH:∀s∈mz fi g N++dn g,cR (bu N fi value) s:=fun s hs=>(zah.mp hs).elim (fun h=>FL d f0 f1 (zaj _) s h) (fun h=>Pb d gN h);generalize us++ds=Po at *;walk_at "rd";refine(hV7 _ _).mpr (ak fun V8 hV8=>?_);clear hV7;walk_at "rd";intro b1 qB;generalize c1:upd G7 b1 _=G1;have t1:=gT c1 qB;have y1:G1 b1=some (.tup [V.int g]):=by rw[<- c1];exact ah
 intro b2 vo;generalize c2:upd G1 b2 _=G2;have t2:=gT c2 vo;have y2:G2 b2=some (.tup [V.int 4,V.ref b1]):=by rw[<- c2];exact ah
 intro b3 Mx;generalize c3:upd G2 b3 _=G9;have t3:=gL c3 Mx;have y3':=pY c3;have TK:bQ K G9 b2 4 [(g:Int)]:=⟨b1,.of (t3 _ _ y2),.of ((t2.trans t3) _ _ y1)⟩
 have W7:=t1.trans (t2.trans t3);clear c1 c2 c3 qB vo Mx y1 y2 t1 t2 t3;obtain⟨m,em,hm⟩:∃m:Nat,((if (!decide (value=(N:Int)))=true then 1 else 0):Int)=(m:Int)/\(m=0/\value=N\/m=1/\value≠N):=by
  by_cases e:value=(N:Int)
  ·exact⟨0,by rw[decide_eq_true e];rfl,.inl ⟨rfl,e⟩⟩
  ·exact⟨1,by rw[decide_eq_false e];rfl,.inr ⟨rfl,e⟩⟩
 refine⟨_,rfl,?_⟩;rw[em];have hx:∃lx:List bH,bF K G9 lx (zaL m [V.ref b2]).flatten/\(m=0->lx=[])/\(m=1->lx=[(4,[(g:Int)])])/\(zaL m [V.ref b2]).flatten.length<=1:=by
  rcases hm with ⟨rfl,_⟩ |⟨rfl,_⟩
  ·exact⟨[],.nil,fun _=>rfl,fun z=>(by cases z),by simp⟩
  ·exact⟨[(4,[(g:Int)])],.cons ⟨b2,rfl,TK⟩ .nil,fun z=>(by cases z),fun _=>rfl,by simp⟩
 obtain⟨lx,stx,x0,x1,lrs⟩:=hx;refine⟨b3,m,_,rfl,rfl,y3',by lia,by lia,by rw[zaR,zax];lia,fun b4 My=>?_⟩;rw[zaR];generalize (zaL m [V.ref b2]).flatten=rs at *;have t4:=aq.new My (.lst rs);have y4:(upd G9 b4 (.lst rs)) b4=_:=ah;have y72:=(W7.trans t4) _ _ y7;have k4:=k7.trans (W7.trans t4);have Vk:=stx.mono t4;have Vl:=st7.mono (W7.trans t4);generalize upd G9 b4 (.lst rs)=GA at *;refine⟨L2,b4,Po,rs,rfl,rfl,y72,y4,by lia,fun L3 hL3=>(hV8 _ _).mpr (ak fun V9 hV9=>?_)⟩;clear hV8 t4 y4 stx st7 y7 TK y3' W7 k7 My;have t5:=aq.new hL3 (.lst (Po++rs));have yB:(upd GA L3 (.lst (Po++rs))) L3=_:=ah;have W8:bF K (upd GA L3 (.lst (Po++rs))) (mz fi g N++dn g++lx) (Po++rs):=(show bF K GA _ _ from dX Vl Vk).mono t5;have kB:=k4.trans t5;generalize upd GA L3 (.lst (Po++rs))=GB at *;clear t5 k4 y72 Vk Vl hL3;have lB:(Po++rs).length<=101:=by rw[zai];lia
 generalize Po++rs=W9 at *;have res:(∀s∈mz fi g N++dn g++lx,cR (bu N fi value) s)/\fh (bu N fi value) (.row 4) (mz fi g N++dn g++lx)=decide (value=N)/\fh (bu N fi value) (.side 3 true) (mz fi g N++dn g++lx)=decide (value=N):=by
  rcases hm with ⟨hm,e⟩ |⟨hm,e⟩
  ·rw[x0 hm,zaO,decide_eq_true e];subst e;exact⟨ZH,Rh d (by lia) (by lia) (HL gN)⟩
  ·have eg:=ZG.resolve_right e;rw[x1 hm,decide_eq_false e];subst eg;refine⟨fun s hs=>(zah.mp hs).elim (fun h=>ZH s h) fun h=>?_,Ri d (by simp) (zah.mpr (.inl (zah.mpr (.inr (qQ.mpr (.inl rfl))))))⟩;rw[zap.mp h];exact sG d 4 (.inr (.inr (.inr (.inl rfl)))) (by lia) (by lia)
 obtain⟨inB,w4,w3⟩:=res;generalize mz fi g N++dn g++lx=Xa at *;clear hm x0 x1 lrs ZH em;have llB:Xa.length<=101:=by rw[Paired.length W8];exact lB
 walk_at "rd";intro b1 qB;generalize c1:upd GB b1 _=GC;have t1:=gT c1 qB;have rt:Rep K GC (gR (.row 4)) (.ref b1):=yG c1 qB (.cons rS (.cons zW .nil));have kC:=kB.trans t1;refine⟨.ref SE,.ref b1,L3,bu N fi value,.row 4,Xa,W9,rfl,rp.mono kC,d,rt,⟨.of (t1 _ _ yB),W8.mono t1,inB,by lia⟩,fun GD tD=>?_⟩;rw[w4];refine⟨rfl,(if_pos rfl).mpr ((hV9 _ _).mpr ?_)⟩;clear hV9 c1 qB rt;have kD:=kC.trans tD;have stD:=W8.mono (t1.trans tD);have yD:=(t1.trans tD) _ _ yB;walk_at "rd";intro b2 vo;generalize c2:upd GD b2 _=GE;have t2:=gT c2 vo;have rt:Rep K GE (gR (.side 3 true)) (.ref b2):=yG c2 vo (.cons rS (.cons zW (.cons (Rep.lH.mpr rfl) .nil)));simp only[Pa];walk_at "rd";refine⟨1,rfl,_,rfl,L3,W9,rfl,rfl,.of (t2 _ _ yD),fun ix p5 vM Jg hlen=>?_⟩;have t5:=aq.new vM (.lst (ix.filterMap (W9[·]?)));have kE:=kD.trans (t2.trans t5);have mm:W9.length=Xa.length:=(Paired.length W8).symm;have stE:=HK (stD.mono (t2.trans t5)) ix;have pm:=Ai (l:=Xa) (ix:=ix) (fun i hi=>Jg i (by lia));refine⟨.ref SE,.ref b2,p5,bu N fi value,.side 3 true,_,_,rfl,rp.mono kE,d,rt.mono t5,⟨.of ah,stE,fun s hs=>inB s ((pm s).mp hs),by rw[Paired.length stE];lia⟩,fun GF tF=>?_⟩;rw[D0 pm,w3];refine⟨rfl,(if_pos rfl).mpr (iE _ _ _ fun _ zk=>zk _ _ _ _ _ _ rfl ?_)⟩;exact sw.trans (t08.trans (kE.trans tF))
theorem ZI:rZ "standing" "chart" (mi (jH aT)):=⟨rfl,rfl,rfl,rfl,rfl,fun z h=>by
 have key:∀p∈(mi (jH aT)).names,(p.2=.cell\/p.2=.free)->p.1 = "chart":=by decide +kernel
 rcases h with h |h
 ·exact key _ (PySem.mem_of_lookup h) (.inl rfl)
 ·exact key _ (PySem.mem_of_lookup h) (.inr rfl),by decide +kernel⟩
theorem El(T:Tx K mg t):bB P w K mg base dc 9 t.fC t.nA ["place", "led_from", "figures", "found"] (Q4 P w K t.aQ (jH aT) "first_inputs.<locals>.<lambda>"):=by
 have nK:=qp (P:=P) (w:=w) (base:=base) T;refine T.mH.F.lX w6 (fun vs H Q E h=>?_) (fun eS A outer s H vs Q E hr h=>?_)
 ·obtain⟨_,_,_,_,_,_,_,_,_,_,_,_,rfl,_⟩:=h;rfl
 obtain⟨sa0,fo,D,ga,cc,ch,mh,pr,s0,f0,g,ZJ,rfl,co,dr,ZK,si0,lam,hga,ds0,fa0,nd0,fi0,xt,q⟩:=h;have nd:=w6.nd;have hu:=gZ hr;obtain⟨Mz,xO,xP⟩:=T.xh;have wD:∀(u:zdh) (cc c':zdg) (pm uL:zdh),bindArgs (zc3 "<lambda>" "first_inputs.<locals>.<lambda>" (DK (jH aT)) (vE (jH aT)) (mi (jH aT)) [("chart",cc)] pm (.ref c') uL) ⟨[u],[]⟩=(pure [(("standing":Str),u)]:Sem (List (Str×zdh))):=fun _ _ _ _ _=>rfl;have rG:∀(fo cc c':zdg) (s':zdq) (H':Hp),PE (BN dc P w K mg base ["standing", "chart"] "first_inputs.<locals>.<lambda>" (mi (jH aT)) fo (.ref c') [("chart",cc)] (mQ dc P w K mg base ["place", "led_from", "figures", "found", "led"] "gone_on" (aE hC) t.fC eS A outer s H E).C1.A (mQ dc P w K mg base ["place", "led_from", "figures", "found", "led"] "gone_on" (aE hC) t.fC eS A outer s H E).C1.stack s' H' E0) (vE (jH aT)) (Be (Fs K t.aQ) [] E0 (vX (fT 1) (vX (fT 0) MM))):=by
  intro fo cc c' s' H';exact cA nK (hr.deeper _) rfl T.fc.m T.fc.F.kp T.fc.b .nil eA (ae (pv 1) (ae (pv 0) ag aJ) aJ)
 have M1:∀pins σ (H':Hp) (s':zdq) e Gi a o,Inv (mQ dc P w K mg base ["place", "led_from", "figures", "found", "led"] "gone_on" (aE hC) t.fC eS A outer s H E).C1 pins σ H' s'->H' a=some (ff a o)->dc (mQ dc P w K mg base ["place", "led_from", "figures", "found", "led"] "gone_on" (aE hC) t.fC eS A outer s H E).C1.stack (wo H' a) s' E0 e Gi->(mQ dc P w K mg base ["place", "led_from", "figures", "found", "led"] "gone_on" (aE hC) t.fC eS A outer s H E).C1.xe e Gi:=fun _ _ _ _ _ _ _ _ _ _ h=>h.elim;refine⟨_,[some (.ref sa0),some (.ref fo),some (.ref ga),some (.ref D),none],(ai (A8 PassesOwn.never (aG (tX (J:=qH) (QT hr)) (pv 0) (pv 3) rfl)
 (ai (a8 (aG bI (bS (GR (J:=qH)) rfl T.jy PyProof.Rows.Boot.«len» (bw 3 ag)) (pe rfl xO xP) (aM _))
 (ar IJ)
 aO)
 (ai (Kq (J:=qH) (QT hr) (pv 3) (pv 0) (pv 2) rfl)
 (ai (eL 4 nd (KC (CX:=dc) (E:=E0) (x:="standing") (y:="chart") (name:="<lambda>") (qual:="first_inputs.<locals>.<lambda>") (params:=DK (jH aT)) (body:=vE (jH aT)) (scope:=mi (jH aT)) (tb:=Be (Fs K t.aQ) [] E0 (vX (fT 1) (vX (fT 0) MM))) (k:=7) (hr.mono (by first|decide|omega)) ZI (pv 1) (bw 0 ag) M1 wD rG))
 (ai (a8 (aG vU (bS bO rfl T.jy PyProof.Rows.Boot.«len» (bw 4 ag)) aj (aM _))
 (ar (aH (aS (ae (aL (bw 2 (bw 4 ag))) ag bA))))
 aO)
 (ar (eL 0 nd (aC bJ (pv 4) aj ao))))))))
 (ar (aH (aS ag)))),rfl,?_⟩
 have line:zdo=2 ^ 24:=rfl;refine ak fun U2 fJ=>?_;refine Kj fun Bd Vm=>?_;walk_at "rd";obtain⟨φ0,SF⟩:=ds0.BK;obtain⟨Iv,Aw⟩:∃Iv:Nat->St->Hp->Prop,∀m σ Hx,Iv m σ Hx↔∃(sa:zdg) (s':bH) (f:qK) (kvs:List (jA×V)) (z:Option V) (k:Nat),σ=[some (.ref sa),some (.ref fo),some (.ref ga),some (.ref D),z]/\bo D H Hx/\DS qH P w K Hx D kvs/\g9 K Hx f kvs/\bQ K Hx sa s'.1 s'.2/\cR pr s'/\(f.map (·.1)).Nodup/\(∀x∈f,cR pr x.1)/\r9 (cL pr) (bR pr+1) f0 s0 g=r9 (cL pr) (bR pr+1-k) f s' g/\k<=f.length/\m=bR pr-f.length:=⟨_,fun _ _ _=>Iff.rfl⟩
 refine⟨Iv,⟨_,(Aw _ _ _).mpr ⟨sa0,s0,f0,ZJ,none,0,rfl,.refl _ _,ds0,fa0,ZK,si0,nd0,fi0,rfl,za2 _,rfl⟩⟩,?_⟩;intro m σ Hx hv;obtain⟨sa,s',f,kvs,z,k,rfl,ux,ds,fa,kN,si,ndf,fi,eg,hk,rfl⟩:=(Aw _ _ _).mp hv;clear hv;have afO:f.length<=bR pr:=by
  have:=mf ndf (fun x hx=>by obtain⟨y,hy,rfl⟩:=zau.mp hx;exact fi y hy)
  rwa [zac] at this
 obtain⟨n,en⟩:∃n,bR pr+1-k=n+1:=⟨bR pr-k,by lia⟩
 rw[en] at eg;walk_at "rd";refine⟨D,sa,kvs,fX s',rfl,rfl,ds,pZ kN,?_⟩;rw[fa.YG s'];by_cases hx:s'∈f.map (·.1)
 ·refine(if_neg (by rw[decide_eq_true hx];decide)).mpr ((fJ _ _).mpr ?_);walk_at "rd";intro L hL;have e2:r9 (cL pr) (n+1) f s' g=(f,none):=by rw[r9,if_pos hx]
  rw[eg,e2] at q;obtain⟨φx,SG⟩:=ds.BK;have nLD:L≠D:=(az SG hL).symm;have Sx:H L=none:=by
   cases y:H L with
   |none=>rfl
   |some o=>rw[ux L o nLD y] at hL;cases hL
  have sL:=aq.new hL (.lst []);exact q L [] kvs _ (ux.trans (.of sL)) Sx ah (ds.mono sL) (fa.imp fun a xs h=>sL.aZ h) rfl
 refine(if_pos (by rw[decide_eq_false hx];decide)).mpr ?_;have nd1:((f++[(s',g)]).map (·.1)).Nodup:=by
  rw[zas];exact zbm.mpr ⟨ndf,by simp,fun a ha b hb=>by rw[zaq,zaP,zap] at hb;rw[hb];exact fun y=>hx (by rw[<- show a=s' from y];exact ha)⟩
 have fi1:∀x∈f++[(s',g)],cR pr x.1:=fun x hy=>by
  rcases zah.mp hy with hy |hy
  ·exact fi x hy
  ·rw[zap.mp hy];exact si
 have afQ:(f++[(s',g)]).length<=bR pr:=by
  have:=mf nd1 (fun x hx=>by obtain⟨y,hy,rfl⟩:=zau.mp hx;exact fi1 y hy)
  rwa [zac] at this
 have l1:(f++[(s',g)]).length=f.length+1:=by simp
 refine⟨Iv (bR pr-(f++[(s',g)]).length),fun σ' H' h=>⟨_,by lia,h⟩,?_⟩;refine Vm _ _ _ (ak fun V1 xn=>?_);clear Vm fJ;have lk:=fa.len;walk_at "rd";refine⟨D,kvs,rfl,ds,?_⟩;refine(if_neg (by lia)).mpr ((xn _ _).mpr (ak fun V2 CV=>?_));clear xn;obtain⟨φx,SG⟩:=ds.BK;walk_at "rd";refine⟨D,sa,kvs,fX s',rfl,rfl,ds,pZ kN,by lia,fun H6 d6 e6=>(CV _ _).mpr (ak fun V3 LV=>?_)⟩;clear CV;obtain⟨φ',rfl⟩:=e6;have u6:bo D Hx (upd Hx D (.ext φ')):=(bo.refl _ _).put _;have eD6:(upd Hx D (.ext φ')) D=some (.ext φ'):=ah;have Vn:=ux.trans u6;have ZL:=kN.ext SG u6;have ZM:=(hga.qI SF ux).qI SG u6;have fa6:=(fa.imp fun a xs h=>h.qI SG u6).put hx ZM;have WR:=(co.ext SF ux).ext SG u6;have Vo:=lam.mono (KP Vn);clear u6;generalize upd Hx D (.ext φ')=H6 at *;walk_at "rd";have g3:H6 cc=some (ff cc mh):=by
  obtain⟨_,_,_,_,_,_,_,_,_,_,_,g3,_⟩:=Vo;exact g3
 refine⟨.ref sa,fo,cc,mh,.ref ch,rfl,rfl,Vo,ch,sa,pr,s',rfl,WR.ext g3 vH,dr,ZL.ext g3 vH,si,fun l us H7 s7 hl yl gS n7=>(LV _ _).mpr (ak fun V4 WZ=>?_)⟩;clear LV;have HR:=NI g3 s7;have nl:l≠cc:=fun y=>by rw[y,n7] at yl;cases yl
 have ZN:(upd H7 cc (ff cc mh)) l=some (.lst us):=by rw[aw nl];exact yl
 have Sy:H6 l=none:=by rw[cV nl] at hl;exact hl
 have RA:bF K (upd H7 cc (ff cc mh)) (cL pr s') us:=gS.mono (aq.new n7 _);generalize upd H7 cc (ff cc mh)=H8 at *;have mm:=gS.at.1;walk_at "rd";refine⟨l,us,rfl,.inl (.of ZN),?_⟩;have ug:∀t1,cL pr s'=[t1]->r9 (cL pr) (n+1) f s' g=r9 (cL pr) n (f++[(s',g)]) t1 g:=fun t1 e=>by
  rw[r9,if_neg hx];split
  ·rename_i t2 e2;rw[e] at e2;cases e2;rfl
  ·rename_i l2 e2;exact absurd e (e2 t1)
 have ZO:(∀t1,cL pr s'≠[t1])->r9 (cL pr) (n+1) f s' g=(f++[(s',g)],some (cL pr s')):=fun e=>by
  rw[r9,if_neg hx];split
  ·rename_i t2 e2;exact absurd e2 (e t2)
  ·rfl
 have li:=zX dr si;refine dw (fun e=>?_) (fun e=>fun p hp p1 yU=>?_)
 ·obtain⟨t1,et⟩:∃t1,cL pr s'=[t1]:=List.length_eq_one_iff.mp (by lia);have ug:=ug t1 et;rw[et] at RA li;obtain⟨Xb,at8⟩:=RA.at
  obtain⟨ta,eta,ZP⟩:=at8 0 t1 rfl;refine(WZ _ _).mpr ?_;walk_at "rd";refine bZ (.of ZN) (v:=.ref ta) (au eta) ((Aw _ _ _).mpr ⟨ta,t1,f++[(s',g)],_,some (.ref l),k+1,rfl,Vn.trans (.of HR),d6.mono HR,fa6.imp fun a xs h=>HR.aZ h,ZP,li t1 (by simp),nd1,fi1,?_,by lia,rfl⟩);rw[eg,ug,show bR pr+1-(k+1)=n by lia]
 ·have ZO:=ZO fun t1 z=>by rw[z] at mm;exact e (by rw[mm];rfl)
  rw[eg,ZO] at q;have sp:=aq.new hp (.tup [.ref ga,.ref l]);have yp:(upd H8 p (.tup [.ref ga,.ref l])) p=_:=ah;have Q2:=aq.new yU (.lst [.ref p]);have sA:=HR.trans (sp.trans Q2);have e6:H6 p1=none:=(HR.trans sp).free yU;have n1:p1≠D:=(az eD6 e6).symm;have h0:H p1=none:=by
   cases y:H p1 with
   |none=>rfl
   |some o=>rw[Vn p1 o n1 y] at e6;cases e6
  have ZQ:H l=none:=by
   cases y:H l with
   |none=>rfl
   |some o=>rw[Vn l o (az eD6 Sy).symm y] at Sy;cases Sy
  exact q p1 _ _ _ (Vn.trans (.of sA)) h0 ah (d6.mono sA) (fa6.imp fun a xs h=>sA.aZ h) ⟨p,l,us,rfl,.of (Q2 _ _ yp),ZQ,Q2 _ _ (sp _ _ ZN),RA.mono (sp.trans Q2)⟩
theorem xQ(T:Tx K mg t):bB P w K mg base dc 10 t.ik t.i6 ["first", "led_from"] (BO P w K t.aQ (jH aT) "first_inputs.<locals>.<lambda>"):=by
 have zl:=El (P:=P) (w:=w) (base:=base) T;refine T.gu.F.lX qg (fun vs H Q E h=>?_) (fun eS A outer s H vs Q E hr h=>?_)
 ·obtain⟨_,_,_,_,_,_,_,rfl,_⟩:=h;rfl
 obtain⟨sa,fo,cc,ch,mh,pr,s0,rfl,co,dr,kN,si,lam,xt,q⟩:=h;have nd:=qg.nd;have hu:=gZ hr;refine⟨_,[some (.ref sa),some (.ref fo),none,none,none,none,none,none,none],(ai (eL 2 nd (Ko (J:=qH)))
 (ai (eL 3 nd (dP zl T.mH hr (bw 0 (bw 1 (ae (aL ag) (bw 2 ag) bA)))))
 (ai (A8 PassesOwn.never (Bb (pv 3) (fun _=>rfl))
 (ai (eL 4 nd (aS ag))
 (ai (dB PassesOwn.never rfl (bD (pv 3)) (tw rfl (dG (xH 5 nd) (dG (xH 6 nd) pf)))
 (ar (dB PassesOwn.never rfl (E5 rfl T.lh (bw 6 ag)) (tw rfl (dG (xH 7 nd) (dG (xH 8 nd) pf)))
 (ar (c9 (jd zaw zcb zcc tL (pv 4) (ae (dP zl T.mH hr (bw 8 (bw 1 (ae (bz vD (pv 5) (aL (bw 7 ag))) (bw 2 ag) oy)))) ag a7)))))))
 (ar (eL 3 nd (pv 4))))))
 (ar (aH (pv 2)))))),rfl,?_⟩
 have line:zdo=2 ^ 24:=rfl;have li:∀s,cR pr s->∀x∈cL pr s,cR pr x:=fun s h=>zX dr h;refine ak fun U1 fe=>?_;walk_at "rd";intro D hD yD;refine(fe _ _).mpr (ak fun U2 fJ=>?_);clear fe;have d1:=QS (J:=qH) (P:=P) (w:=w) (K:=K) (H:=H) yD;have s1:=aq.new hD (.ext (kS qH P w D []));generalize upd H D (.ext (kS qH P w D []))=H1 at *;walk_at "rd";intro p hp;generalize e2:upd H1 p _=H2;have s2:=gT e2 hp;have yp:H2 p=some (.tup []):=by rw[<- e2];exact ah
 clear e2;have Oi:=s1.trans s2;obtain⟨Vp,ZR,ZS⟩:=wG li (m:=0) (bR pr+1) [] s0 [] .nil si (zaj _);refine⟨sa,fo,D,p,cc,ch,mh,pr,s0,[],[],[],rfl,co.mono Oi,dr,kN.mono Oi,si,lam.mono (vF Oi hD),.of yp,d1.mono s2,.nil,zc0,fun x hx=>(by cases hx),xt,fun L us kvs H3 u3 hL yL d3 fa3 ak3=>(fJ _ _).mpr (ak fun U3 fk=>?_)⟩;clear fJ;have Iz:aq H H3:=((bo.of Oi).trans u3).same hD;obtain⟨φ1,eD2⟩:=(d1.mono s2).BK;have qd:b8 K H3 p (([]:List Int).map V.int):=b8.qI (.of yp) eD2 u3;have as3:=dW.of1 (g:=[]) ak3 qd;refine Kj fun Bd Vm=>?_;walk_at "rd";obtain⟨Iv,Aw⟩:∃Iv:Nat->St->Hp->Prop,∀m σ Hx,Iv m σ Hx↔∃(z4 z5 z6 z7 z8:Option V) (L:zdg) (us:List V) (as:List (List Int×List bH)) (f:qK) (kvs:List (jA×V)) (lv:Nat),σ=[some (.ref sa),some (.ref fo),some (.ref D),some (.ref L),z4,z5,z6,z7,z8]/\aq H Hx/\DS qH P w K Hx D kvs/\g9 K Hx f kvs/\DM (cR pr) f/\Hx L=some (.lst us)/\dW K Hx as us/\vk (cR pr) lv as/\lK pr s0=zY (cL pr) (bR pr+1) (bR pr+2-lv) f as/\(as≠[]->lv<f.length)/\m=bR pr+1-lv:=⟨_,fun _ _ _=>Iff.rfl⟩
 refine⟨Iv,⟨_,(Aw _ _ _).mpr ⟨none,none,none,none,none,L,us,_,_,kvs,0,rfl,Iz,d3,fa3,Vp,yL,as3,ZR,rfl,fun h=>?_,rfl⟩⟩,?_⟩
 ·have:=zb3.mpr h;rw[zaI] at ZS;lia
 clear Vp ZR ZS as3 qd eD2 Iz ak3 fa3 d3 yL hL u3 Oi yp s2 d1 s1 hp;intro m σ Hx hv;obtain⟨z4,z5,z6,z7,z8,L,us,as,f,kvs,lv,rfl,sx,dx,fx,ok,yL,ZT,Pp,ef,hlv,rfl⟩:=(Aw _ _ _).mp hv;clear hv;have mm:as.length=us.length:=Paired.length ZT;have pG:f.length<=bR pr:=by
  have:=mf ok.nd (fun x hx=>by obtain⟨y,hy,rfl⟩:=zau.mp hx;exact ok.pS y hy)
  rwa [zac] at this
 walk_at "rd";cases as with
 |nil=>
  have e0:us=[]:=zcO.mp mm.symm;subst e0;refine⟨false,.inl ⟨_,.of yL,rfl⟩,(if_neg (by decide)).mpr ((fk _ _).mpr ?_)⟩;walk_at "rd";rw[KQ] at ef;rw[ef] at q;exact q D kvs Hx sx hD dx fx
 |cons a0 Xc=>
 have zK:(a0::Xc)≠[]:=by simp
 have hlv:=hlv zK;obtain⟨u0,ZU,rfl⟩:∃u0 ZU,us=u0::ZU:=by cases us with |nil=>cases mm |cons a b=>exact⟨_,_,rfl⟩
 refine⟨true,.inl ⟨_,.of yL,rfl⟩,(if_pos rfl).mpr ?_⟩;have ef:lK pr s0=zY (cL pr) (bR pr+1) (bR pr+2-(lv+1)) (eE (cL pr) (bR pr+1) f (eG (a0::Xc))).1 (eE (cL pr) (bR pr+1) f (eG (a0::Xc))).2:=by
  rw[ef,show bR pr+2-lv=(bR pr+2-(lv+1))+1 by lia,zY,if_neg zK]
 generalize a0::Xc=as at *;generalize u0::ZU=us at *;refine⟨Iv (bR pr+1-(lv+1)),fun σ' H' h=>⟨_,by lia,h⟩,?_⟩;refine Vm _ _ _ (ak fun V1 xn=>?_);clear Vm fk;walk_at "rd";intro b hb;refine(xn _ _).mpr (ak fun V2 CV=>?_);clear xn;have sb:=aq.new hb (.lst []);have yb:(upd Hx b (.lst [])) b=some (.lst []):=ah;have yL1:(wo (upd Hx b (.lst [])) b) L=some (.lst us):=by rw[lJ];exact vF (aq.refl _) hb _ _ yL
 have as1:dW K (wo (upd Hx b (.lst [])) b) as us:=by rw[lJ];exact ZT.mono (vF (aq.refl _) hb)
 have RB:H b=none:=sx.free hb;have dx1:=dx.mono sb;have fx1:=fx.imp fun a xs h=>sb.aZ h;have Xd:=sx.trans sb;have ZV:D≠b:=by obtain⟨φ,e⟩:=dx.BK;exact az e hb
 generalize upd Hx b (.lst [])=H1 at *;clear dx fx sx ZT yL sb hb;refine dN fun U hU=>?_;walk_at "rd";refine⟨⟨us,.of (fO _ _ yL1)⟩,hU _ _ ?_⟩;clear hU;have gok:∀i,DM (cR pr) (eE (cL pr) (bR pr+1) f (eG (as.take i))).1/\vk (cR pr) (lv+1) (eE (cL pr) (bR pr+1) f (eG (as.take i))).2/\f.length+(eE (cL pr) (bR pr+1) f (eG (as.take i))).2.length<=(eE (cL pr) (bR pr+1) f (eG (as.take i))).1.length:=fun i=>sj li _ _ ok (t9 (m:=lv) ⟨fun a ha=>Pp.pS a (zbI ha),fun a ha=>Pp.len a (zbI ha)⟩);obtain⟨Pv,iE⟩:∃Pv:Nat->St->Hp->Prop,∀i σ H5,Pv i σ H5↔∃(z5 z6 z7 z8:Option V) (Cw:List V) (bs:List (List Int×List bH)) (f5:qK) (HX:List (jA×V)),σ=[some (.ref sa),some (.ref fo),some (.ref D),some (.ref L),some (.ref b),z5,z6,z7,z8]/\aq H H5/\DS qH P w K H5 D HX/\g9 K H5 f5 HX/\(wo H5 b) L=some (.lst us)/\dW K (wo H5 b) as us/\H5 b=some (.lst Cw)/\dW K (wo H5 b) bs Cw/\eE (cL pr) (bR pr+1) f (eG (as.take i))=(f5,bs):=⟨_,fun _ _ _=>Iff.rfl⟩
 refine dH (K:=K) (a:=L) (xs:=us) Pv ((iE _ _ _).mpr ⟨_,_,_,_,[],[],f,kvs,rfl,Xd,dx1,fx1,yL1,as1,yb,.nil,rfl⟩) (fun i σ H5 _ hv=>?_) ?_ ?_
 ·obtain⟨_,_,_,_,_,_,_,_,_,_,_,_,Pn,_⟩:=(iE _ _ _).mp hv;exact .of (fO _ _ Pn)
 ·intro i y σ H5 hi hv;obtain⟨z5,z6,z7,z8,Cw,bs,f5,HX,rfl,s5,d5,Xe,Pn,Xf,Xg,Xh,e5⟩:=(iE _ _ _).mp hv;clear hv;obtain⟨a,ha,ta,ga,la,LW,rfl,q1,q2,q3,q4⟩:=dD Xf hi;have Xi:a∈as:=zaz ha;have hll:a.2.length=LW.length:=Paired.length q4;refine⟨ta,_,rfl,fO.aZ q1,rfl,_,_,rfl,_,_,rfl,rfl,?_⟩;simp only[za4];refine Ky fun U hU=>?_;walk_at "rd";refine⟨la,rfl,⟨LW,.of (fO _ _ q3)⟩,hU _ _ ?_⟩;clear hU;obtain⟨Pw,rq⟩:∃Pw:Nat->St->Hp->Prop,∀j σ H6,Pw j σ H6↔∃(z7 z8:Option V) (Cw:List V) (bs:List (List Int×List bH)) (f6:qK) (HY:List (jA×V)),σ=[some (.ref sa),some (.ref fo),some (.ref D),some (.ref L),some (.ref b),some (.ref ga),some (.ref la),z7,z8]/\aq H H6/\DS qH P w K H6 D HY/\g9 K H6 f6 HY/\(wo H6 b) L=some (.lst us)/\dW K (wo H6 b) as us/\H6 b=some (.lst Cw)/\dW K (wo H6 b) bs Cw/\b8 K (wo H6 b) ga (a.1.map V.int)/\(wo H6 b) la=some (.lst LW)/\bF K (wo H6 b) a.2 LW/\eE (cL pr) (bR pr+1) f (eG (as.take i)++kT a j)=(f6,bs):=⟨_,fun _ _ _=>Iff.rfl⟩
  refine Br (K:=K) (a:=la) (xs:=LW) Pw ((rq _ _ _).mpr ⟨_,_,Cw,bs,f5,HX,rfl,s5,d5,Xe,Pn,Xf,Xg,Xh,q2,q3,q4,by rw[show kT a 0=[] from rfl,zaO];exact e5⟩) ?_ ?_ ?_
  ·intro j σ H6 _ hv;obtain⟨_,_,_,_,_,_,_,_,_,_,_,_,_,_,_,yl,_⟩:=(rq _ _ _).mp hv;exact .of (fO _ _ yl)
  ·intro j x σ H6 pp hx hv CT;clear q1 q2 q3 q4 e5 Xh Xg Xf Pn Xe d5 s5;obtain⟨z7,z8,Cw,bs,f6,HY,rfl,s6,d6,ZW,RC,ZX,Xj,Xk,q2,q3,q4,e6⟩:=(rq _ _ _).mp hv;clear hv;have lj:j<a.2.length:=by have:=(zak.mp hx).1;lia
   obtain⟨t1,ht1,xa,rfl,nS⟩:=dD q4 hx;have Vq:=sj li (n:=bR pr+1) (m:=lv+1) (eG (as.take i)++kT a j) f ok fun x hx=>by
    rcases zah.mp hx with hx |hx
    ·exact t9 (m:=lv) ⟨fun a ha=>Pp.pS a (zbI ha),fun a ha=>Pp.len a (zbI ha)⟩ x hx
    ·exact DN (m:=lv) (Pp.pS a Xi) (Pp.len a Xi) (by lia) x hx
   rw[e6] at Vq;obtain⟨RD,_,ln6⟩:=Vq;have RD:DM (cR pr) f6:=RD;have ln6:f.length+bs.length<=f6.length:=ln6;have afX:f6.length<=bR pr:=by
    have:=mf RD.nd (fun x hx=>by obtain⟨y,hy,rfl⟩:=zau.mp hx;exact RD.pS y hy)
    rwa [zac] at this
   have s7:=aq.new CT (.tup [.int j,.ref xa]);have ypp:(upd H6 pp (.tup [.int j,.ref xa])) pp=_:=ah;generalize upd H6 pp (.tup [.int j,.ref xa])=H7 at *;refine⟨pp,_,rfl,.of ypp,rfl,?_⟩;refine⟨_,_,rfl,_,_,rfl,rfl,?_⟩;simp only[za4];walk_at "rd";refine⟨.inl ⟨rfl,_,.of (s7 _ _ Xj)⟩,fun p hp=>?_⟩;have s8:=aq.new hp (.tup [.int j]);have yp:(upd H7 p (.tup [.int j])) p=_:=ah;generalize upd H7 p (.tup [.int j])=H8 at *;have la1:=Pp.len a Xi;refine⟨ga,p,_,_,rfl,rfl,(s7.trans s8).aZ (fO.aZ q2),.of yp,by rw[zac,zax];lia,fun gp H9 s9 Xl=>?_⟩;have SH:=s7.trans (s8.trans s9);have ZY:=s6.trans SH;have Xl:b8 K H9 gp ((a.1++[((j:Nat):Int)]).map V.int):=by rw[zas];exact Xl
   clear s7 s8 s9 yp hp ypp CT;have si1:cR pr t1:=Pp.pS a Xi t1 (zaz ht1);have d9:=d6.mono SH;have f9a:=ZW.imp (H':=H9) fun a xs h=>SH.aZ h;have eb9:=SH _ _ Xj;refine⟨xa,fo,D,gp,cc,ch,mh,pr,t1,f6,a.1++[((j:Nat):Int)],HY,rfl,co.mono ZY,dr,(nS.mono fO).mono SH,si1,lam.mono (vF ZY hD),Xl,d9,f9a,RD.nd,RD.pS,xt,fun L9 ZZ Z0 HA uA hL9 yL9 dA fA akA=>?_⟩;obtain⟨φ9,eD9⟩:=d9.BK;have Xm:HA b=some (.lst Cw):=uA _ _ ZV.symm eb9;have s0A:aq H HA:=((bo.of ZY).trans uA).same hD;obtain⟨Vp,ZR,ZS⟩:=wG li (m:=lv+1) (bR pr+1) f6 t1 (a.1++[((j:Nat):Int)]) RD si1 (by rw[zai,zax];lia);have af2:(r9 (cL pr) (bR pr+1) f6 t1 (a.1++[((j:Nat):Int)])).1.length<=bR pr:=by
    have:=mf Vp.nd (fun x hx=>by obtain⟨y,hy,rfl⟩:=zau.mp hx;exact Vp.pS y hy)
    rwa [zac] at this
   have asA:=dW.of akA (Xl.qI eD9 uA) (by rw[eb9];simp) Xm;have lb:bs.length=Cw.length:=Paired.length Xk;have l9:=Paired.length asA;refine⟨b,L9,Cw,ZZ,rfl,rfl,Xm,yL9,by lia,?_⟩;have uB:bo b HA (upd HA b (.lst (Cw++ZZ))):=(bo.refl _ _).put _;have SI:(wo H9 b) D=some (.ext φ9):=by rw[cV ZV];exact eD9
   have sw:aq (wo H6 b) (wo H9 b):=vG SH;have uw:bo D (wo H9 b) (wo HA b):=Q5 uA;refine(rq _ _ _).mpr ⟨_,_,Cw++ZZ,bs++sf (a.1++[((j:Nat):Int)]) (r9 (cL pr) (bR pr+1) f6 t1 (a.1++[((j:Nat):Int)])).2,_,Z0,rfl,fun z o e=>uB z o (az e RB) (s0A z o e),dA.GP (fun o h=>uB _ _ ZV h) (fun c ys h=>h.pR Xm uB),fA.imp (fun a xs h=>h.pR Xm uB),?_,?_,ah,?_,?_,?_,?_,?_⟩
   ·rw[lJ];exact uw _ _ (cQ (sw _ _ RC) SI (by intro z;cases z)) (sw _ _ RC)
   ·rw[lJ];exact(ZX.mono sw).ext SI uw
   ·rw[lJ];exact dX ((Xk.mono sw).ext SI uw) asA
   ·rw[lJ];exact(sw.aZ q2).qI SI uw
   ·rw[lJ];exact uw _ _ (cQ (sw _ _ q3) SI (by intro z;cases z)) (sw _ _ q3)
   ·rw[lJ];exact jO (q4.mono sw) fun a row vals h=>h.ext SI uw
   ·rw[zZ,<- zaW,yK,e6];have:a.2.getD j (0,[])=t1:=by rw[zan,ht1];rfl
    simp only[this,GW]
  ·intro σ H6 hv;obtain⟨z7,z8,Cw,bs,f6,HY,rfl,s6,d6,ZW,RC,ZX,Xj,Xk,q2,q3,q4,e6⟩:=(rq _ _ _).mp hv;refine(iE _ _ _).mpr ⟨_,_,_,_,Cw,bs,f6,HY,rfl,s6,d6,ZW,RC,ZX,Xj,Xk,?_⟩;rw[List.take_add_one,ha,Option.toList_some,BP,hll];exact e6
 ·intro σ H5 hv;obtain⟨z5,z6,z7,z8,Cw,bs,f5,HX,rfl,s5,d5,Xe,Pn,Xf,Xg,Xh,e5⟩:=(iE _ _ _).mp hv;refine(CV _ _).mpr ?_;walk_at "rd";have g5:=gok us.length;rw[<- mm,zaH] at e5 g5;rw[e5] at g5 ef;obtain⟨ok5,ao5,ln5⟩:=g5;have ln5:f.length+bs.length<=f5.length:=ln5;refine(Aw _ _ _).mpr ⟨_,_,_,_,_,b,Cw,bs,f5,HX,lv+1,rfl,s5,d5,Xe,ok5,Xg,Xh.mono fO,ao5,ef,fun h=>?_,rfl⟩;have:=zb3.mpr h;lia
theorem vq(T:Tx K mg t){c Pt:zdg}(B:jM K mg base c Pt)(hc:wF K t.bU c) :
 bB P w K mg base dc 11 t.bU t.gO ["chart"] (GV P w K t.aQ "first_inputs.<locals>.<lambda>" Pt (DL (jH aT))):=by
 have Ax:=xQ (P:=P) (w:=w) (base:=base) T;refine T.iA.F.okC nW hc (fun vs H Q E h=>?_) (fun A outer s H vs Q E hr h=>?_)
 ·obtain⟨_,_,_,rfl,_⟩:=h;rfl
 obtain⟨ch,pr,ps,rfl,co,dr,xt,Ir,tok,q⟩:=h;have nd:=nW.nd;have M1:∀pins σ (H':Hp) (s':zdq) e Gi a o,Inv (mQ dc P w K mg base ["chart"] "first_inputs" (aE aT) t.bU (.ref c) A outer s H E).C1 pins σ H' s'->H' a=none->s'.heap.get? a=some o->dc (mQ dc P w K mg base ["chart"] "first_inputs" (aE aT) t.bU (.ref c) A outer s H E).C1.stack (upd H' a (ff a o)) s' E0 e Gi->(mQ dc P w K mg base ["chart"] "first_inputs" (aE aT) t.bU (.ref c) A outer s H E).C1.xe e Gi:=fun _ _ _ _ _ _ _ _ _ _ _ h=>h.elim;refine⟨_,[some (.ref ch)],(ar (aH (KI (i:=0) (y:="chart") Ax (hr.mono (by first|decide|omega)) rfl T.gu.m T.gu.F.kp T.gu.b M1 (ae (iN (pv 0) rfl) (ae (Q0 (y:="chart") B rfl rfl ⟨_,rfl,rfl⟩ rfl) ag rfl) E1) rfl rfl rfl))),rfl,?_⟩;walk_at "rd";simp only[KG];walk_at "rd";obtain⟨dx,nl,sd,fa,va,NM,wy,us,ws,h1,h2,h3,h4,h5,h6,h7,h8,h9,Iq,Mj,OW⟩:=co.at_;have kN:bQ K H fa (bK pr.body 0) (pr.ax.map (·.first)):=⟨va,.of h5,.of (by rw[zaQ];exact h6)⟩
 refine⟨ch,_,dx,_,.ref fa,rfl,h1,T.cM,T.eQ,rfl,?_⟩;refine⟨ps,Ir,tok,fun fo cc c' pm uL oc vs jN tk H1 ecc Ui _ kp only yfo yc' PL Tf Xn RE=>⟨_,rfl,fun cc2 mh uc Z1 EA Z3 ruc=>?_⟩⟩;cases ecc.symm.trans Z1;have RE:TabOk "first_inputs.<locals>.<lambda>" (DL (jH aT)) H1 jN:=.inr ⟨c',oc,vs,tk,RE,yc',PL,Tf⟩;have u1:bo Pt H H1:=fun b o n e=>kp b o n e;have k1:Kp H H1:=Kp.of u1 Ir;have sc:=aq.new EA (ff cc mh);have Xo:(upd H1 cc (ff cc mh)) cc=some (ff cc mh):=ah;have Z4:=sc _ _ Xn;have Z5:H cc=none:=by
  cases y:H cc with
  |none=>rfl
  |some o=>
   by_cases z:cc=Pt
   ·rw[z,Xn] at EA;cases EA
   ·rw[kp cc o z y] at EA;cases EA
 have lam:GU "chart" "first_inputs.<locals>.<lambda>" (jH aT) (upd H1 cc (ff cc mh)) fo cc mh (.ref ch):=⟨c',pm,uL,uc,oc,vs,tk,sc _ _ yfo,sc _ _ yc',PL,Tf,Xo,Z3,ruc⟩
 refine⟨fa,fo,cc,ch,mh,pr,(bK pr.body 0,pr.ax.map (·.first)),rfl,(co.kp k1).mono sc,dr,(kN.kp k1).mono sc,cR.first dr,lam,xt,fun D kvs H3 s3 hD d3 f3=>⟨s3 _ _ Xo,?_⟩⟩;have nD:D≠cc:=fun z=>by rw[z,Xo] at hD;cases hD
 have Vr:=s3 _ _ Xo;have uw:bo cc H3 (wo H3 cc):=vH;have hD0:H D=none:=by
  rw[aw nD] at hD;cases y:H D with
  |none=>rfl
  |some o=>
   by_cases z:D=Pt
   ·rw[z,Xn] at hD;cases hD
   ·rw[kp D o z y] at hD;cases hD
 refine q D kvs (wo H3 cc) jN (fun b o n e=>?_) hD0 (d3.other Vr nD uw) (f3.imp fun a xs h=>h.qI Vr uw) ?_ ?_
 ·rw[cV (az e Z5)];exact s3 _ _ (sc _ _ (kp b o n e))
 ·rw[cV (az Xn EA)];exact s3 _ _ Z4
 ·refine RE.kp fun b o e _=>?_;rw[cV (az e EA)];exact s3 _ _ (sc _ _ e)
theorem Ay(T:Tx K mg t){c Pt:zdg}(B:jM K mg base c Pt)(hc:wF K t.bU c)(bV:bB P w K mg base dc 1 t.bT t.bP ["body", "behind"] (gM K))(bL:bB P w K mg base dc 7 t.bE t.bG ["body"] (fL K 5))(gY:bB P w K mg base dc 8 t.lO t.jP ["program"] (tV K)) :
 bB P w K mg base dc 12 t.jm t.jQ ["program"] (NK K "first_inputs.<locals>.<lambda>" Pt (DL (jH aT))):=by
 have iB:=lQ (P:=P) (w:=w) (base:=base) T bV bL gY;have xu:=vq (P:=P) (w:=w) (base:=base) T B hc;refine T.hJ.F.lX sM (fun vs H Q E h=>?_) (fun eS A outer s H vs Q E hr h=>?_)
 ·obtain⟨_,_,_,rfl,_⟩:=h;rfl
 obtain⟨v,pr,ps,rfl,rp,dr,xt,Ir,tok,q⟩:=h;have nd:=sM.nd;refine⟨_,[some v],(ar (aH (cf (DH (J:=qH) rfl) rfl T.Am PyProof.Rows.Boot.«list» (ae (dP xu T.iA hr (ae (zt T.o8 iB (hr.mono (by first|decide|omega)) rfl T.w8 T.nH .nil eA (bw 0 ag)) ag a7)) ag a7)))),rfl,?_⟩;walk_at "rd";intro p dx hp Pd ne;have s1:aq H (upd (upd H dx (.own p)) p (.ins t.aQ dx [])):=(aq.new Pd _).trans (aq.new (by rw[aw ne.symm];exact hp) _);refine⟨p,dx,v,pr,rfl,ah,by rw[aw ne];exact ah,rp.mono s1,dr.dep,dr.pG,dr.ok.pw,dr.ok.nb,dr.ok.pG,fun H2 u2 co=>⟨rfl,?_⟩⟩;have s2:aq H H2:=((bo.of s1).trans u2).same hp;refine⟨p,pr,ps,rfl,co,dr,xt,s2 _ _ Ir,tok.kp (.same s2),fun D kvs H3 ps3 u3 hD d3 f3 y3 Z6=>⟨D,kvs,rfl,d3,fun l us hl pu=>?_⟩⟩;have CU:bo Pt H H3:=(bo.of s2).trans u3;have sl:=aq.new hl (.lst us);have ZQ:H l=none:=by
  cases y:H l with
  |none=>rfl
  |some o=>rw[CU l o (az y3 hl).symm y] at hl;cases hl
 exact q l us _ ps3 (CU.trans (.of sl)) ZQ ah ((Ft f3 pu).mono sl) (sl _ _ y3) (Z6.kp (.same sl))
theorem HZ{K:zaa}{H:Hp}{st:bq}{v:V}(h:Rep K H (dO st) v):∃a xs,v=.ref a/\b8 K H a (.str (lT st.wd)::xs)/\((st.wd=.ifs\/st.wd=.eU)->5<=xs.length/\aI K H ((aF st).map fun b=>.lst (b.map dO)) (xs.drop 4))/\(¬(st.wd=.ifs\/st.wd=.eU)->aF st=[]):=by
 cases st
 case ifs k s l r b1 b2=>
  obtain⟨a,xs,rfl,hS,Ea⟩:=Rep.aX.mp (show Rep K H (.tup _) v from h);obtain⟨_,x1,rfl,e1,CS⟩:=aI.aB.mp Ea;obtain⟨_,x2,rfl,_,N7⟩:=aI.aB.mp CS;obtain⟨_,x3,rfl,_,Rj⟩:=aI.aB.mp N7;obtain⟨_,x4,rfl,_,Z7⟩:=aI.aB.mp Rj;obtain⟨_,x5,rfl,_,Vs⟩:=aI.aB.mp Z7;cases Rep.bt.mp e1;have l:=Vs.length;exact⟨a,_,rfl,hS,fun _=>⟨by simp only[zaf,zaI] at *;lia,by show aI K H [.lst (b1.map dO),.lst (b2.map dO)] x5;rw[<- cF,<- cF];exact Vs⟩,fun n=>absurd (.inl rfl) n⟩
 case eU k s l r b1=>
  obtain⟨a,xs,rfl,hS,Ea⟩:=Rep.aX.mp (show Rep K H (.tup _) v from h);obtain⟨_,x1,rfl,e1,CS⟩:=aI.aB.mp Ea;obtain⟨_,x2,rfl,_,N7⟩:=aI.aB.mp CS;obtain⟨_,x3,rfl,_,Rj⟩:=aI.aB.mp N7;obtain⟨_,x4,rfl,_,Z7⟩:=aI.aB.mp Rj;obtain⟨_,x5,rfl,_,Vs⟩:=aI.aB.mp Z7;cases Rep.bt.mp e1;have l:=Vs.length;exact⟨a,_,rfl,hS,fun _=>⟨by simp only[zaf,zaI] at *;lia,by show aI K H [.lst (b1.map dO)] x5;rw[<- cF];exact Vs⟩,fun n=>absurd (.inr rfl) n⟩
 all_goals (
  obtain⟨a,xs,rfl,hS,Ea⟩:=Rep.aX.mp (show Rep K H (.tup _) v from h);obtain⟨_,x1,rfl,e1,CS⟩:=aI.aB.mp Ea;cases Rep.bt.mp e1;exact⟨a,_,rfl,hS,fun z=>(by rcases z with z |z<;>cases z),fun _=>rfl⟩)
theorem RF(T:Tx K mg t){n:Nat}(rg:bB P w K mg base dc (n+2) t.gV t.hG ["body"] (fL K n)) :
 bB P w K mg base dc (n+3) t.gV t.hG ["body"] (fL K (n+1)):=by
 refine T.gX.F.lX uR (fun vs H Q E h=>?_) (fun eS A outer s H vs Q E hr h=>?_)
 ·obtain⟨_,_,_,rfl,_⟩:=h;rfl
 obtain⟨b,body,H0,rfl,s0,rb,hd,hf,q⟩:=h;have nd:=uR.nd;refine⟨_,[some (V.ref b),none,none,none],(ai (eL 1 nd (aS ag))
 (ai (dB PassesOwn.never rfl (bD (pv 0)) (xH 2 nd)
 (ai (c9 (jd zaw zaD zaE cY (pv 1) (bw 2 ag)))
 (ar (a8 (aG j5 (aC aD (pv 2) aj ao) (aS (cg (vs:=[.str "if",.str "while"]) (by kernel_rfl))) rfl)
 (ar (dB PassesOwn.never rfl (Qa (dJ IX (pv 2) (dI aj) eW)) (xH 3 nd)
 (ar (eL 1 nd (bz lG (pv 1) (dP rg T.gX hr (bw 3 ag)))))))
 aO))))
 (ar (aH (pv 1))))),rfl,?_⟩
 have line:zdo=2 ^ 24:=rfl;rw[Rep.bg] at rb;obtain⟨_,xs,e,hx,rs⟩:=rb;cases e;have lx:xs.length=body.length:=by rw[rs.length,zac]
 have lb:=j6 body;have sl:=wz body;refine ak fun U1 fe=>?_;walk_at "rd";intro d Cr;have s1:=aq.new Cr (.lst []);have y1:(upd H d (.lst [])) d=some (.lst []):=ah;generalize upd H d (.lst [])=H1 at *;refine(fe _ _).mpr (ak fun U2 fJ=>?_);clear fe;refine dN fun U hU=>?_;walk_at "rd";refine⟨⟨xs,(s0.trans s1).seq hx⟩,hU _ _ ?_⟩;clear hU;obtain⟨Pv,iE⟩:∃Pv:Nat->St->Hp->Prop,∀i σ H3,Pv i σ H3↔∃(z2 z3:Option V) (d:zdg) (us:List V),σ=[some (V.ref b),some (V.ref d),z2,z3]/\aq H H3/\H d=none/\us.length=(av (body.take i)).length/\H3 d=some (.lst us)/\aI K H0 ((av (body.take i)).map dO) us:=⟨_,fun _ _ _=>Iff.rfl⟩
 refine dH (K:=K) (a:=b) (xs:=xs) Pv ((iE _ _ _).mpr ⟨none,none,d,[],rfl,s1,Cr,rfl,y1,.nil⟩) (fun i σ H3 _ hv=>?_) ?_ ?_
 ·obtain⟨_,_,_,_,_,s3,_⟩:=(iE _ _ _).mp hv;exact(s0.trans s3).seq hx
 ·intro i y σ H3 hi hv;obtain⟨z2,z3,d,us,rfl,s3,Cr,lu,y3,r3⟩:=(iE _ _ _).mp hv;clear hv;have done:=fun σ H7=>(iE (i+1) σ H7).mpr;have li:i<body.length:=by have:=(zak.mp hi).1;lia
  obtain⟨v,hv,rv⟩:=rs.get (i:=i) (d:=dO body[i]) (by rw[zar,zad li];rfl);rw[hi] at hv;cases hv;have mem:body[i]∈body:=zat li;obtain⟨fm,dm⟩:=pE body _ mem;have et:av (body.take (i+1))=av (body.take i)++body[i]::(aF body[i]).flatMap av:=by
   rw[zaZ li,L2.km,By,Fe]
  rw[et] at done;have eb:av body=(av (body.take i)++body[i]::(aF body[i]).flatMap av)++av (body.drop (i+1)):=by
   rw[<- et,<- L2.km,zbp]
  rw[eb] at sl;have sl:(av (body.take i)++body[i]::(aF body[i]).flatMap av).length<=1000:=by
   rw[zai] at sl;lia
  generalize body[i]=st at *;generalize av (body.take i)=pre at *;simp only[eT,za4];refine ak fun U3 fk=>?_;walk_at "rd";refine⟨.inl ⟨rfl,_,.of y3⟩,d,us,y,rfl,rfl,y3,by simp only[zai,zaf] at sl;lia,(fk _ _).mpr ?_⟩;clear fk;have y4:(upd H3 d (.lst (us++[y]))) d=some (.lst (us++[y])):=ah;have s4:aq H (upd H3 d (.lst (us++[y]))):=fun z o e=>by rw[aw (az e Cr)];exact s3 z o e
  generalize upd H3 d (.lst (us++[y]))=H4 at *;obtain⟨ya,ys,rfl,hya,Wv,Ts⟩:=HZ rv;walk_at "rd";refine ay ((s0.trans s4).aZ hya) (au (j:=0) rfl) fun p5 vM=>?_;refine⟨p5,_,rfl,.inl (.of ah),rfl,rfl,_,rfl,?_⟩;generalize e5:upd H4 p5 _=H5;have s5:=gL e5 vM;rw[zN];by_cases hl:st.wd=.ifs\/st.wd=.eU
  ·refine(if_pos (decide_eq_true hl)).mpr ?_;obtain⟨l5,rc⟩:=Wv hl;have y5:=s5 _ _ y4;have s45:=s4.trans s5;refine JW fun U hU=>?_;walk_at "rd";have Z8:iF (V.str (lT st.wd)::ys) (some 5) none=ys.drop 4:=by
    rw[show ((5:Int))=((4:Nat):Int)+1 from rfl,HM];rfl
   refine⟨_,rfl,ya,_,rfl,(s0.trans s45).aZ hya,?_,fun p6 nY=>?_⟩
   ·rw[show ((5:Int))=((5:Nat):Int) from rfl,HT.pk,zaf];lia
   rw[Z8];generalize ys.drop 4=bv at *;have s6:=aq.new nY (.tup bv);have h6:(upd H5 p6 (.tup bv)) p6=_:=ah;have y6:=s6 _ _ y5;have Zt:=s45.trans s6;generalize upd H5 p6 (.tup bv)=H6 at *;refine⟨p6,rfl,⟨_,.of h6⟩,hU _ _ ?_⟩;clear hU;have Vg:bv.length=(aF st).length:=by rw[rc.length,zac]
   obtain⟨Pw,rq⟩:∃Pw:Nat->St->Hp->Prop,∀j σ H7,Pw j σ H7↔∃(z3:Option V) (d:zdg) (pI:List V),σ=[some (V.ref b),some (V.ref d),some (V.ref ya),z3]/\aq H H7/\H7 p6=some (.tup bv)/\H d=none/\pI.length=(pre++st::((aF st).take j).flatMap av).length/\H7 d=some (.lst pI)/\aI K H0 ((pre++st::((aF st).take j).flatMap av).map dO) pI:=⟨_,fun _ _ _=>Iff.rfl⟩
   refine MJ (K:=K) (a:=p6) (xs:=bv) Pw ((rq _ _ _).mpr ⟨z3,d,us++[.ref ya],rfl,Zt,h6,Cr,by simp[lu],y6,?_⟩) (fun j σ H7 _ hv=>?_) ?_ ?_
   ·rw[zc1,zbY,zas];exact r3.append (.cons rv .nil)
   ·obtain⟨_,_,_,_,_,h7,_⟩:=(rq _ _ _).mp hv;exact .of h7
   ·intro j y' σ H7 hj hv;obtain⟨Zx,d,pI,rfl,s7,h7,hd7,Z9,y7,r7⟩:=(rq _ _ _).mp hv;clear hv;have Cu:=fun σ H8=>(rq (j+1) σ H8).mpr;have lj:j<(aF st).length:=by have:=(zak.mp hj).1;lia
    obtain⟨v,hv,Vi⟩:=rc.get (i:=j) (d:=.lst ((aF st)[j].map dO)) (by rw[zar,zad lj];rfl);rw[hj] at hv;cases hv;have mj:(aF st)[j]∈aF st:=zat lj;obtain⟨fb,db⟩:=jL st _ mj;have ej:((aF st).take (j+1)).flatMap av=((aF st).take j).flatMap av++av (aF st)[j]:=by
     rw[zaZ lj,za1];simp
    have ea:(aF st).flatMap av=((aF st).take j).flatMap av++av (aF st)[j]++((aF st).drop (j+1)).flatMap av:=by
     rw[<- ej,<- za1,zbp]
    rw[ej] at Cu;rw[ea] at sl;generalize (aF st)[j]=bb at *;generalize ((aF st).take j).flatMap av=mid at *;generalize ((aF st).drop (j+1)).flatMap av=rest at *;have Qk:(pre++st::mid).length+(av bb).length<=1000:=by
     simp only[zai,zaf] at sl ⊢;lia
    obtain⟨ab,_,rfl,_⟩:=Rep.bg.mp Vi;simp only[eT,za4];walk_at "rd";refine⟨ab,bb,H0,rfl,s0.trans s7,Vi,by lia,by lia,fun d2 Ki H8 s8 hd2 y8 r8=>?_⟩;have l2:Ki.length=(av bb).length:=by rw[r8.length,zac]
    refine⟨d,d2,_,_,rfl,rfl,s8 _ _ y7,y8,by lia,fun p9 Sl=>?_⟩;have s9:=aq.new Sl (.lst (pI++Ki));refine Cu _ _ ⟨_,p9,pI++Ki,rfl,(s7.trans s8).trans s9,(s8.trans s9) _ _ h7,(s7.trans s8).free Sl,by simp only[zai,zaf] at *;lia,ah,?_⟩;rw[show pre++st::(mid++av bb)=(pre++st::mid)++av bb by simp,zas];exact r7.append r8
   ·intro σ H7 hv;obtain⟨Zx,d,pI,rfl,s7,h7,hd7,Z9,y7,r7⟩:=(rq _ _ _).mp hv;rw[Vg,zaH] at Z9 r7;exact done _ _ ⟨_,_,d,pI,rfl,s7,hd7,Z9,y7,r7⟩
  ·refine(if_neg (by rw[decide_eq_false hl];exact zal)).mpr ?_;rw[Ts hl,zbY] at done;refine done _ _ ⟨_,_,d,us++[.ref ya],rfl,s4.trans s5,Cr,by simp[lu],s5 _ _ y4,?_⟩;rw[zas];exact r3.append (.cons rv .nil)
 ·intro σ H3 hv;obtain⟨z2,z3,d,us,rfl,s3,Cr,lu,y3,r3⟩:=(iE _ _ _).mp hv;rw[lx,zaH] at lu r3;refine(fJ _ _).mpr ?_;walk_at "rd";exact q d us H3 s3 Cr y3 r3
theorem Ot(T:Tx K mg t)(n:Nat):bB P w K mg base dc (n+2) t.gV t.hG ["body"] (fL K n):=by
 induction n with
 |zero=>
  have no:∀vs H Q E,¬fL K 0 vs H Q E:=fun vs H Q E h=>by cases h;lia
  exact⟨fun vs H Q E h=>absurd h (no vs H Q E),fun A outer s H args us vs Q E _ _ _ _ h=>absurd h (no vs H Q E)⟩
 |succ n ih=>exact RF T ih
theorem xR(T:Tx K mg t):bB P w K mg base dc 2 t.ip t.i8 ["script"] (K5 K):=by
 have aN:=dS (P:=P) (w:=w) (K:=K) (base:=base) T;have iD:=lR (P:=P) (w:=w) (K:=K) (base:=base) T;refine T.cC.F.lX qi (fun vs H Q E h=>?_) (fun eS A outer s H vs Q E hr h=>?_)
 ·obtain⟨_,_,rfl,_,_,_⟩:=h;rfl
 obtain⟨sa,ns0,rfl,hS,WU,q⟩:=h;have nd:=qi.nd;refine⟨_,[some (.ref sa),none,none,none,none],(ai (eL 1 nd (dP iD T.dQ hr (bw 0 (ae aj ag aA))))
 (ai (eL 2 nd (aS ag))
 (ai (dB PassesOwn.never rfl (bD (dJ rJ (aC bJ (aS (ae (aS (cg (vs:=[.str "a",.str "ab"]) (by kernel_rfl))) (ae (aS (cg (vs:=[.str "xx",.str "x"]) (by kernel_rfl))) ag lI) lI)) (dP aN T.aK hr (bw 1 (ae aj ag aA))) fK) eW (dI (dP aN T.aK hr (bw 1 (ae aj ag aA)))))) (xH 3 nd)
 (ai (eL 4 nd (bz fH aj (dP aN T.aK hr (bw 1 (ae aj ag aA)))))
 (ar (c9 (jd zaw zaD zaE cY (pv 2) (ae (aL (bw 3 (bw 4 (ae (dP aN T.aK hr (bw 1 (bw 4 ag))) ag a7)))) ag bA))))))
 (ai (a8 (aG bI (dP aN T.aK hr (bw 1 (ae aj ag aA))) aj (aM _))
 (ai (eL 4 nd (bz fH aj (dP aN T.aK hr (bw 1 (ae aj ag aA)))))
 (ar (eL 2 nd (aS (ae (aL (ae aW (bw 4 (ae (dP aN T.aK hr (bw 1 (bw 4 ag))) ag a7)) aA)) ag bA)))))
 aO)
 (ar (aH (pv 2))))))),rfl,?_⟩
 have line:zdo=2 ^ 24:=rfl;refine ak fun U0 Vt=>?_;walk_at "rd";refine⟨sa,ns0,0,rfl,hS,WU,by decide,fun s0 H0 sH og hs=>(Vt _ _).mpr (ak fun U1 fe=>?_)⟩;clear Vt;walk_at "rd";intro B hB;refine(fe _ _).mpr (ak fun U2 fJ=>?_);clear fe;have nB:=hs.ne hB;have hB0:H B=none:=sH.free hB;have HS:=hs.new hB (.lst []);have s5:=aq.new hB (.lst []);have y5:(upd H0 B (.lst [])) B=some (.lst []):=ah;have sH5:=sH.trans s5;generalize upd H0 B (.lst [])=H5 at *;refine dN fun U hU=>?_;walk_at "rd";intro p1 yU;generalize e1:upd H5 p1 _=H1;have s1:=gL e1 yU;have y1:=pY e1;intro p2 wb;generalize e2:upd H1 p2 _=H2;have s2:=gL e2 wb;have y2:=pY e2;intro p3 qd;generalize e3:upd H2 p3 _=H3;have s3:=gL e3 qd;have y3:=pY e3;have n1:p1≠s0:=HS.ne yU;have n2:p2≠s0:=(HS.same s1).ne wb;have n3:p3≠s0:=((HS.same s1).same s2).ne qd;have uK:=((HS.same s1).same s2).same s3;have Pq:=s3 _ _ (s2 _ _ y1);have Xp:=s3 _ _ y2;have s53:=s1.trans (s2.trans s3);clear e1 e2 e3 s1 s2 s3 yU wb qd y1 y2;refine⟨s0,2,_,rfl,uK,by decide,by decide,fun x4 z4 H4 q4 a4 b4 u4 xp=>?_⟩;have u54:bo s0 H5 H4:=(bo.of s53).trans u4;obtain⟨pn,Ou,ea,enm,l2,ndn,npn,hpn⟩:∃(pn:zdg) (Ou:List W),tK [V.ref p1,V.ref p2] x4=some (.ref pn)/\NO (NM ns0 0)=Ou/\Ou.length=2/\Ou.Nodup/\pn≠s0/\H4 pn=some (.lst (Ou.map fun x=>V.str (S x))):=by
  obtain rfl |rfl:x4=0\/x4=1:=by lia
  ·exact⟨p1,[[97],[97,98]],au (j:=0) rfl,by unfold NO;rw[q4];rfl,rfl,by decide,n1,u4 _ _ n1 Pq⟩
  ·exact⟨p2,[[120,120],[120]],au (j:=1) rfl,by unfold NO;rw[q4];rfl,rfl,by decide,n2,u4 _ _ n2 Xp⟩
 refine bZ (.of (u4 _ _ n3 y3)) ea ⟨s0,3,_,rfl,xp,by decide,by decide,fun x6 z6 H6 q6 a6 b6 u6 SJ=>⟨_,rfl,pn,_,rfl,.of (u6 _ _ npn hpn),fun pl mP=>⟨pl,rfl,⟨_,.of ah⟩,hU _ _ ?_⟩⟩⟩;clear hU;rw[Q7 _ a6,<- List.map_take];have l4':(Ou.take x6.toNat).length<=2:=by rw[zbh];lia
 have aab:(Ou.take x6.toNat).Nodup:=List.Nodup.sublist (List.take_sublist _ _) ndn;have SF:K2 ns0=Hf (B7 (Ou.take x6.toNat) z6):=by unfold K2;rw[q4,enm,q6]
 generalize Ou.take x6.toNat=ns at *;have hB6:=u6 _ _ nB (u54 _ _ nB y5);have npl:=SJ.ne mP;have nlB:pl≠B:=(az hB6 mP).symm;have s7:=aq.new mP (.lst (ns.map fun x=>V.str (S x)));have SK:=SJ.same s7;have y7:(upd H6 pl (.lst (ns.map fun x=>V.str (S x)))) pl=_:=ah;have yB:=s7 _ _ hB6;have u7:aU (fun b=>b=s0\/b=B) H5 (upd H6 pl (.lst (ns.map fun x=>V.str (S x)))):=((aU.one u54 (.inl rfl)).trans (aU.one u6 (.inl rfl))).trans (.of s7);generalize upd H6 pl (.lst (ns.map fun x=>V.str (S x)))=H7 at *;have keep:∀H',aU (fun b=>b=s0\/b=B) H5 H'->aq H H':=fun H' u b o e=>u b o (fun z=>z.elim (fun z=>by rw[z,og] at e;cases e) fun z=>by rw[z,hB0] at e;cases e) (sH5 b o e);obtain⟨Pv,iE,iW⟩:=La fun (i:Nat) (σ:St) (H8:Hp) zq=>∀(z3 z4:Option V) (bs:List gF) (xs:List V) (zi:Zs),B7 ns z6=(bs++(B7 (ns.drop i) zi).1,(B7 (ns.drop i) zi).2)->σ=[some (V.ref sa),some (V.ref s0),some (V.ref B),z3,z4]->aU (fun b=>b=s0\/b=B) H5 H8->rm H8 s0 zi->H8 pl=some (.lst (ns.map fun x=>V.str (S x)))->H8 B=some (.lst xs)->eX K (fun b=>b=s0\/b=B) H8 (bs.map iJ) xs->xs.length=i->bs.map (·.name)=ns.take i->(∀b∈bs,2<=b.size/\b.size<=4/\0<=b.first/\b.first<b.size)->zq;refine dH (K:=K) (a:=pl) (xs:=ns.map fun x=>V.str (S x)) Pv (iE _ _ _ fun _ zk=>zk none none [] [] _ rfl rfl u7 SK y7 yB eX.nil rfl rfl fun b hb=>(by cases hb)) (fun i σ H8 _ hv=>iW _ _ _ hv _ fun _ _ _ _ _ _ _ _ _ y8 _ _ _ _ _=>.of y8) (fun i x σ H8 hx hv=>?_) (fun σ H8 hv=>?_)
 ·refine iW _ _ _ hv _ fun z3 z4 bs xs zi ez es u8 Vu y8 yB8 f8 lx eb sz=>?_;subst es;clear hv;rw[zar] at hx;cases hn:ns[i]? with
  |none=>rw[hn] at hx;cases hx
  |some nm=>
  rw[hn] at hx;cases hx;refine ak fun U4 jJ=>?_;walk_at "rd";refine⟨s0,3,_,rfl,Vu,by decide,by decide,fun x9 z9 H9 q9 a9 b9 u9 Xq=>⟨_,_,rfl,rfl,(jJ _ _).mpr ?_⟩⟩;clear jJ;walk_at "rd";have Xr:=u9 _ _ nB yB8;have f9:=f8.up (aU.one u9 (.inl rfl));refine⟨.inl ⟨rfl,_,.of Xr⟩,s0,_,_,rfl,Xq,by lia,by lia,fun Ab qM N9 Vv a10 b10 CW Ov p hp=>?_⟩;have Vw:=CW _ _ nB Xr;have Zv:=f9.up (aU.one CW (.inl rfl));have AY:=aq.new hp (.tup [V.str (S nm),V.int (2+x9),V.int Ab]);have npB:p≠B:=(az Vw hp).symm;have li:i<ns.length:=(zak.mp hn).1;have fp:Fix K (fun b=>b=s0\/b=B) (upd N9 p (.tup [V.str (S nm),V.int (2+x9),V.int Ab])) (iJ ⟨nm,2+x9,Ab⟩) (.ref p):=Fix.tup ah (fun z=>z.elim (Ov.ne hp) npB) (.cons .str (.cons .int (.cons .int .nil)));have f11:=(Zv.up (.of AY)).snoc fp;refine⟨B,xs,_,rfl,rfl,AY _ _ Vw,by lia,iE _ _ _ fun _ zk=>zk _ _ (bs++[⟨nm,2+x9,Ab⟩]) (xs++[.ref p]) qM ?_ rfl ?_ ?_ ?_ ah ?_ (by simp[lx]) ?_ ?_⟩
  ·rw[ez,show ns.drop i=nm::ns.drop (i+1) by rw[zb5 li];congr 1;rw[zad li] at hn;exact zaT.inj hn];simp only[B7,q9,Vv,zaW,zbi,zaX]
  ·exact(((u8.trans (aU.one u9 (.inl rfl))).trans (aU.one CW (.inl rfl))).trans (.of AY)).put (.inr rfl) _
  ·show upd _ B _ s0=_;rw[aw nB.symm];exact Ov.same AY
  ·rw[aw nlB];exact AY _ _ (CW _ _ npl (u9 _ _ npl y8))
  ·rw[zas];exact f11.up (aU.refl.put (.inr rfl) _)
  ·rw[zas,eb,List.take_add_one,hn];rfl
  ·intro b hb;rcases zah.mp hb with hb |hb
   ·exact sz b hb
   ·rw[zap.mp hb];exact⟨by show 2<=2+x9;lia,by show 2+x9<=4;lia,a10,b10⟩
 refine iW _ _ _ hv _ fun z3 z4 bs xs zi ez es u8 Vu y8 yB8 f8 lx eb sz=>?_;subst es;clear hv;rw[zac,zcL] at ez;simp only[B7,zaO] at ez;rw[ez] at SF;rw[zac,zaH] at eb;have lbs:bs.length<=2:=by
  have:=congrArg zaV eb;rw[zac] at this;lia
 refine(fJ _ _).mpr (ak fun U3 fk=>?_);clear fJ;walk_at "rd";refine⟨s0,3,_,rfl,Vu,by decide,by decide,fun xa za Ha qa aa ba ua LD=>⟨rfl,dw (fun e=>?_) (fun e=>?_)⟩⟩
 ·refine⟨s0,3,_,rfl,LD,by decide,by decide,fun xb zb Hb qb ab bb ub ET=>⟨_,_,rfl,rfl,?_⟩⟩;refine⟨s0,_,_,rfl,ET,by lia,by lia,fun xc zc Hc qc ac bc uc CP p hp=>?_⟩;generalize e1:upd Hc p _=H1;have s1:=gT e1 hp;have r1:Rep K H1 (iJ ⟨[98,111,120,101,115],8+xb,xc⟩) (.ref p):=yG e1 hp (.cons rS (.cons zW (.cons zW .nil)));intro B2 WV;generalize e2:upd H1 B2 _=H2;have s2:=gL e2 WV;have y2:=pY e2;refine(fk _ _).mpr ?_;walk_at "rd";have uS:aU (fun b=>b=s0\/b=B) H5 H2:=(u8.trans ((((aU.one ua (.inl rfl)).trans (aU.one ub (.inl rfl))).trans (aU.one uc (.inl rfl))).trans (.of s1))).trans (.of s2);have f2:H B2=none:=(keep _ (u8.trans ((((aU.one ua (.inl rfl)).trans (aU.one ub (.inl rfl))).trans (aU.one uc (.inl rfl))).trans (.of s1)))).free WV;refine q B2 [⟨[98,111,120,101,115],8+xb,xc⟩] H2 ?_ (keep _ uS) f2 (Rep.bg.mpr ⟨B2,_,rfl,.of y2,.cons (r1.mono s2) .nil⟩) ⟨by simp,by simp,fun b hb=>?_⟩ (by simp) ?_
  ·rw[SF];exact(Ra qa (by simpa using e) qb qc).symm
  ·rw[zap.mp hb];exact⟨by show 2<=8+xb;lia,by show 8+xb<=10;lia,ac,bc⟩
  ·rw[zaq,zaP,ky];simp only[iH,zaf,zaI];lia
 ·refine(fk _ _).mpr ?_;walk_at "rd";have Xr:=ua _ _ nB yB8;have f9:=f8.up (aU.one ua (.inl rfl));refine q B bs Ha ?_ (keep _ (u8.trans (aU.one ua (.inl rfl)))) hB0 (Rep.bg.mpr ⟨B,xs,rfl,.of Xr,f9.Bv⟩) ⟨by rw[eb];exact aab,by lia,fun b hb=>?_⟩ lbs (K3 _ (fun s hs=>?_) (by rw[zac];exact lbs))
  ·rw[SF];exact(Rb qa (by simpa using e)).symm
  ·have:=sz b hb;exact⟨this.1,by lia,this.2.2⟩
  ·obtain⟨b,hb,rfl⟩:=zau.mp hs;exact(sz b hb).2.1
theorem xS(T:Tx K mg t):bB P w K mg base dc 4 t.iq t.i9 ["state", "boxes", "row"] (K6 K):=by
 have aN:=dS (P:=P) (w:=w) (K:=K) (base:=base) T;have jz:=nL (P:=P) (w:=w) (K:=K) (base:=base) T;have mK:=zg (P:=P) (w:=w) (K:=K) (base:=base) T;refine T.jZ.F.lX qj (fun vs H Q E h=>?_) (fun eS A outer s H vs Q E hr h=>?_)
 ·obtain⟨_,_,_,_,_,rfl,_,_,_⟩:=h;rfl
 obtain⟨s0,B,bs,row,z,rfl,hs,hB,q⟩:=h;have nd:=qj.nd;refine⟨_,[some (.ref s0),some (.ref B),some (.int row),none],(ai (eL 3 nd (dP aN T.aK hr (bw 0 (ae aj ag aA))))
 (ai (a8 (PW.pt (pw_and (aG (lY (gZ hr)) (pv 1) (aS ag) (aM _)) (pw_and1 (aG pV (pv 3) aj (aM _)))))
 (ar (aH (aL (ae aW (bw 2 (ae (aC aD (aC bJ (pv 1) (dP aN T.aK hr (bw 0 (ae (bS bO rfl T.jy PyProof.Rows.Boot.«len» (bw 1 ag)) ag a7))) fK) aj ao) ag aV)) aA))))
 aO)
 (ai (a8 (PW.pt (pw_and (aG (lY (gZ hr)) (pv 1) (aS ag) (aM _)) (pw_and1 (aG pV (pv 3) aj (aM _)))))
 (ar (aH (aL (ae aW (bw 2 (ae (aC aD (aC bJ (pv 1) (dP aN T.aK hr (bw 0 (ae (bS bO rfl T.jy PyProof.Rows.Boot.«len» (bw 1 ag)) ag a7))) fK) aj ao) (ae (dP mK T.jw hr (bw 0 (bw 1 ag))) ag a7) aV)) aA))))
 aO)
 (ai (a8 (aG bI (pv 3) aj (aM _))
 (ar (aH (aL (ae aW (bw 2 (ae (aC Dj aW (dP aN T.aK hr (bw 0 (ae aj ag aA))) fK) (ae (dP mK T.jw hr (bw 0 (bw 1 ag))) (ae (dP mK T.jw hr (bw 0 (bw 1 ag))) ag a7) a7) aV)) aA))))
 aO)
 (ai (a8 (PW.pt (pw_and (aG bI (pv 3) aj (aM _)) (pw_and1 (aG bI (dP aN T.aK hr (bw 0 (ae aj ag aA))) aj (aM _)))))
 (ar (aH (aL (ae aW (bw 2 ag) aA))))
 aO)
 (ar (aH (aL (ae aW (bw 2 (ae (dP mK T.jw hr (bw 0 (bw 1 ag))) ag a7)) aA))))))))),rfl,?_⟩
 have Pe:=hB.2;refine ak fun U1 fe=>?_;walk_at "rd";refine⟨s0,9,_,rfl,hs,by decide,by decide,fun kd z1 H1 q1 a1 b1 u1 wA=>(fe _ _).mpr (ak fun U2 fJ=>?_)⟩;clear fe;have pos:∀ {xs:List V} {Hx:Hp},gC K Hx B xs->xs.length=bs.length->(!xs.isEmpty)=true->0<bs.length:=by
  intro xs Hx _ lx e;rw[<- lx];cases xs with
  |nil=>cases e
  |cons _ _=>simp
 have nn:∀ {xs:List V},xs.length=bs.length->bs≠[]->(!xs.isEmpty)=true:=by
  intro xs lx hb;cases xs with
  |nil=>cases bs with
   |nil=>exact absurd rfl hb
   |cons _ _=>cases lx
  |cons _ _=>rfl
 have Pr:∀Hx,¬(bs≠[]/\kd<3)->bo s0 H Hx->rm Hx s0 z1->U2 [some (.ref s0),some (.ref B),some (.int row),some (.int kd)] Hx:=by
  intro Hx n3 ux hsx;have hBx:=hB.up ux;refine(fJ _ _).mpr (ak fun U3 fk=>?_);clear fJ;have Pu:∀Hy,¬(bs≠[]/\kd<6)->bo s0 H Hy->rm Hy s0 z1->U3 [some (.ref s0),some (.ref B),some (.int row),some (.int kd)] Hy:=by
   intro Hy n6 uy MA;have hBy:=hB.up uy;refine(fk _ _).mpr (ak fun U4 jJ=>?_);clear fk;walk_at "rd";refine dw (fun e=>?_) (fun e=>?_)
   ·refine⟨s0,2,_,rfl,MA,by decide,by decide,fun x2 z2 H2 q2 a2 b2 u2 vS=>?_⟩;obtain⟨c,ec,ek,oc⟩:∃c:Nat,tK (zab "<=").cps.toList x2=some c/\O8 x2=[c]/\[c]∈CN:=by
     obtain rfl |rfl:x2=0\/x2=1:=by lia
     ·exact⟨60,by decide +kernel,rfl,by decide⟩
     ·exact⟨61,by decide +kernel,rfl,by decide⟩
    have uz:=uy.trans u2;refine⟨_,_,c,rfl,rfl,by decide +kernel,ec,s0,B,bs,_,rfl,vS,hBy.up u2,fun v3 t3 z3 H3 q3 u3 uK f3 o3=>⟨s0,B,bs,_,rfl,uK,(hBy.up u2).up u3,fun v4 t4 z4 H4 q4 u4 xp f4 o4 p hp=>?_⟩⟩;have CU:=uz.trans u3;have LM:=CU.trans u4;exact q _ (.bW row [c] t3 t4) _ _ (by rw[<- ek];exact B4 q1 n3 n6 (by simpa using e) q2 q3 q4) (LM.new hp _) (xp.new hp _) (Own.tup (.cons .str (.cons .int (.cons .str (.cons ((f3.back (uz.oC vS.nn)).up u4 hs.nn) (.cons (f4.back (CU.oC uK.nn)) .nil))))) (LM.oC xp.nn) hp) ⟨oc,o3,o4⟩ trivial rfl
   ·refine(jJ _ _).mpr (ak fun U5 rn=>?_);clear jJ;have say:∀Hz zz,(∀t4 z4,eD bs zz=(t4,z4)->gE bs row z=(.say row t4,z4))->bo s0 H Hz->rm Hz s0 zz->U5 [some (.ref s0),some (.ref B),some (.int row),some (.int kd)] Hz:=by
     intro Hz zz ed uz hsz;refine(rn _ _).mpr ?_;clear rn;walk_at "rd";refine⟨s0,B,bs,_,rfl,hsz,hB.up uz,fun v4 t4 z4 H4 q4 u4 xp f4 o4 p hp=>?_⟩;have LM:=uz.trans u4;exact q _ (.say row t4) _ _ (ed _ _ q4) (LM.new hp _) (xp.new hp _) (Own.tup (.cons .str (.cons .int (.cons (f4.back (uz.oC hsz.nn)) .nil))) (LM.oC xp.nn) hp) o4 trivial rfl
    walk_at "rd";refine dw (fun e7=>?_) (fun e5=>say _ _ (fun t4 z4 h4=>DW q1 n3 n6 (by simpa using e) (by simpa using e5) h4) uy MA);refine⟨s0,2,_,rfl,MA,by decide,by decide,fun x2 z2 H2 q2 a2 b2 u2 vS=>⟨rfl,dw (fun e3=>fun p hp=>?_) (fun e3=>say _ _ (fun t4 z4 h4=>B6 q1 n3 n6 (by simpa using e7) q2 (by simpa using e3) h4) (uy.trans u2) vS)⟩⟩;have LN:=uy.trans u2;exact q _ (.stop row) _ _ (B5 q1 n3 n6 (by simpa using e7) q2 (by simpa using e3)) (LN.new hp _) (vS.new hp _) (Own.tup (.cons .str (.cons .int .nil)) (LN.oC vS.nn) hp) trivial trivial rfl
  walk_at "rd";intro p1 yU;obtain⟨xs,hx,lx⟩:=pH hBx;have s1:=aq.new yU (.lst []);have RG:=ux.trans (bo.of s1);have Em:=hsx.same s1;have Ow:=hBx.same s1;have ye:gC K (upd Hx p1 (.lst [])) p1 []:=.of ah;generalize upd Hx p1 (.lst [])=H1 at *;refine⟨B,p1,xs,rfl,rfl,s1.seq hx,ye,dw (fun e=>?_) (fun e=>Pu _ (fun c=>e (nn lx c.1)) RG Em)⟩;refine dw (fun e2=>?_) (fun e2=>Pu _ (fun c=>by simp at e2;have:=c.2;lia) RG Em);have l0:=pos hx lx e;refine⟨B,xs,rfl,.inl (s1.seq hx),s0,_,_,rfl,Em,by lia,by lia,fun x3 z3 H3 q3 a3 b3 u3 uK=>(Ow.up u3).pick a3 (by lia) ?_⟩;refine⟨s0,B,bs,_,rfl,uK,Ow.up u3,fun v4 t4 z4 H4 q4 u4 xp f4 o4 p hp=>?_⟩;have CU:=RG.trans u3;have LM:=CU.trans u4;exact q _ (.put row _ t4) _ _ (DV q1 (fun z=>by rw[z] at l0;cases l0) (fun c=>n3 ⟨(fun z=>by rw[z] at l0;cases l0),c⟩) (by simpa using e2) (by rw[lx] at q3;exact q3) q4) (LM.new hp _) (xp.new hp _) (Own.tup (.cons .str (.cons .int (.cons .str (.cons (f4.back (CU.oC uK.nn)) .nil)))) (LM.oC xp.nn) hp) ⟨ud a3 (by lia),o4⟩ trivial rfl
 walk_at "rd";intro p1 yU;have Vc:=hB.up u1;obtain⟨xs,hx,lx⟩:=pH Vc;have s1:=aq.new yU (.lst []);have RG:=u1.trans (bo.of s1);have Em:=wA.same s1;have Ow:=Vc.same s1;have ye:gC K (upd H1 p1 (.lst [])) p1 []:=.of ah;generalize upd H1 p1 (.lst [])=H2 at *;refine⟨B,p1,xs,rfl,rfl,s1.seq hx,ye,dw (fun e=>?_) (fun e=>Pr _ (fun c=>e (nn lx c.1)) RG Em)⟩;refine dw (fun e2=>?_) (fun e2=>Pr _ (fun c=>by simp at e2;have:=c.2;lia) RG Em);have l0:=pos hx lx e;refine⟨B,xs,rfl,.inl (s1.seq hx),s0,_,_,rfl,Em,by lia,by lia,fun x3 z3 H3 q3 a3 b3 u3 uK=>(Ow.up u3).pick a3 (by lia) fun p hp=>?_⟩;have CU:=RG.trans u3;exact q _ (.ask row _) _ _ (DU q1 (fun z=>by rw[z] at l0;cases l0) (by simpa using e2) (by rw[lx] at q3;exact q3)) (CU.new hp _) (uK.new hp _) (Own.tup (.cons .str (.cons .int (.cons .str .nil))) (CU.oC uK.nn) hp) (ud a3 (by lia)) trivial rfl
theorem Az(T:Tx K mg t):bB P w K mg base dc 6 t.jq t.jT ["script", "boxes"] (NQ K 17):=by
 have aN:=dS (P:=P) (w:=w) (K:=K) (base:=base) T;have iD:=lR (P:=P) (w:=w) (K:=K) (base:=base) T;have jz:=nL (P:=P) (w:=w) (K:=K) (base:=base) T;have mK:=zg (P:=P) (w:=w) (K:=K) (base:=base) T;have AA:=xS (P:=P) (w:=w) (K:=K) (base:=base) T;refine T.dR.F.lX sP (fun vs H Q E h=>?_) (fun eS A outer s H vs Q E hr h=>?_)
 ·obtain⟨_,_,_,_,rfl,_,_,_,_,_⟩:=h;rfl
 obtain⟨sa,B,ns,bs,rfl,hS,WU,rB,l4,q⟩:=h;have nd:=sP.nd;refine⟨_,[some (.ref sa),some (.ref B),none,none,none,none,none,none,none,none,none,none],(ai (eL 2 nd (aS ag))
 (ai (eL 3 nd (aS (bw 2 ag)))
 (ai (eL 4 nd (aS (ae iM ag aA)))
 (ai (eL 5 nd (bS bO rfl T.jy PyProof.Rows.Boot.«len» (bw 1 ag)))
 (ai (dB PassesOwn.never rfl (yf rfl T.lg (ae aj (ae (bS (yg rfl) rfl T.FT PyProof.Rows.Boot.«min» (ae (bS bO rfl T.jy PyProof.Rows.Boot.«len» (bw 0 ag)) (ae aj ag aA) a7)) ag a7) aA)) (xH 6 nd)
 (ai (eL 7 nd (dP iD T.dQ hr (bw 0 (bw 6 ag))))
 (ai (eL 5 nd (bz fH (pv 5) aj))
 (ai (eL 8 nd (dP aN T.aK hr (bw 7 (ae aj ag aA))))
 (ar (a8 (PW.pt (pw_and (aG pV (pv 8) aj (aM _)) (pw_and1 (aG pV (bS bO rfl T.jy PyProof.Rows.Boot.«len» (bw 3 ag)) aj (aM _)))))
 (ai (eL 9 nd (aS (ae (dP mK T.jw hr (bw 7 (bw 1 ag))) (ae (dP jz T.hV hr (bw 7 (bw 1 ag))) ag a7) a7)))
 (ai (a8 (aG bI (dP aN T.aK hr (bw 7 (ae aj ag aA))) aj (aM _))
 (ar (c9 (Dl zaw PySem.F.slot_list_reverse PySem.F.type_list_reverse Dn (pv 9))))
 aO)
 (ai (eL 10 nd (aC bJ (aS (cg (vs:=[.str "if",.str "while",.str "if"]) (by kernel_rfl))) (pv 8) vA))
 (ai (eL 11 nd (dJ rJ (aS (ae (aS ag) (ae (aS ag) ag lI) lI)) eW (dI (bz fH aj (cf g7 rfl T.uV PyProof.Rows.Boot.«int» (ae (da bI (pv 10) aW (aM _)) ag mS))))))
 (ai (c9 (jd zaw zaD zaE cY (aC bJ (pv 3) (rE mO aj) Bp) (ae (cf lE rfl T.sV PyProof.Rows.Boot.«tuple» (ae (bz lG (bz lG (aS (bw 10 (bw 5 (ae (aC Dj aW (dP aN T.aK hr (bw 7 (ae aj ag aA))) fK) ag aV)))) (pv 9)) (pv 11)) ag oy)) ag a7)))
 (ai (c9 (jd zaw zaD zaE cY (pv 3) (ae (aC bJ (pv 11) aj ao) ag aV)))
 (ar (c9 (jd zaw zaD zaE cY (pv 4) (ae (aC bJ (bz lG (pv 11) (aS (ae iM ag aA))) aj ao) ag aV))))))))))
 (ar (a8 (PW.pt (pw_and (aG bI (pv 8) aj (aM _)) (pw_and1 (aG EJ (aC bJ (pv 4) (rE mO aj) Bp) iM (aM _)))))
 (ai (tx (aC bJ (pv 4) (rE mO aj) Bp) (vR (pv 3) (rE mO aj) set_list))
 (ar (tx iM (vR (pv 4) (rE mO aj) set_list))))
 (ar (a8 (PW.pt (pw_and (aG pV (pv 8) aj (aM _)) (pw_and1 (aG IM (bS bO rfl T.jy PyProof.Rows.Boot.«len» (bw 3 ag)) aj (aM _)))))
 (ai (c9 (Dl zaw zc5 zc6 Je (pv 3)))
 (ar (c9 (Dl zaw zc5 zc6 Je (pv 4)))))
 (ar (c9 (jd zaw zaD zaE cY (aC bJ (pv 3) (rE mO aj) Bp) (ae (dP AA T.jZ hr (bw 7 (bw 1 (bw 5 ag)))) ag a7))))))))))))))
 (ar (aH (pv 2)))))))),rfl,?_⟩
 have line:zdo=2 ^ 24:=rfl;refine ak fun U1 fe=>?_;walk_at "rd";intro R hR;refine(fe _ _).mpr (ak fun U2 fJ=>?_);clear fe;walk_at "rd";intro pl mP;refine(fJ _ _).mpr (ak fun U3 fk=>?_);clear fJ;walk_at "rd";intro sc CP;refine(fk _ _).mpr (ak fun U4 jJ=>?_);clear fk;walk_at "rd";obtain⟨_,Pk,eB,hbx,aaf⟩:=Rep.bg.mp rB;cases eB;have lbx:Pk.length=bs.length:=by rw[aaf.length,zac]
 have s1:=aq.new hR (.lst []);have y1:(upd H R (.lst [])) R=some (.lst []):=ah;have fpl:=s1.free mP;have n2:pl≠R:=(az y1 mP).symm;generalize upd H R (.lst [])=H1 at *;have s2:=aq.new mP (.lst [V.ref R]);have y2:(upd H1 pl (.lst [V.ref R])) pl=some (.lst [V.ref R]):=ah;have RH:=s2 _ _ y1;have fsc:=(s1.trans s2).free CP;have n1:pl≠sc:=az y2 CP;have n3:sc≠R:=(az RH CP).symm;generalize upd H1 pl (.lst [V.ref R])=H2 at *;have s3:=aq.new CP (.lst [V.cx]);have y3:(upd H2 sc (.lst [V.cx])) sc=some (.lst [V.cx]):=ah;have Pq:=s3 _ _ RH;have Xp:=s3 _ _ y2;have Iz:=(s1.trans s2).trans s3;generalize upd H2 sc (.lst [V.cx])=H3 at *;have pz0:PZ K bs bs.length bs.length R pl sc H H3 [] [] R [] [.cx] []:=PZ.one hR fpl fsc n1 n2 n3 Iz Pq Xp y3;clear Pq Xp y3 RH y2 y1 mP CP s1 s2 s3 n1 n2 n3 fpl fsc;refine⟨B,Pk,rfl,.inl (Iz.seq hbx),(jJ _ _).mpr (ak fun U5 rn=>?_)⟩;clear jJ;rw[lbx];refine BW fun U hU=>?_;walk_at "rd";refine⟨sa,_,rfl,.inl (Iz.seq hS),_,_,rfl,_,_,rfl,⟨by decide,by decide,?_,?_⟩,hU _ _ _ ?_⟩
 ·rw[zac];split<;>lia
 ·rw[zac];split<;>lia
 clear hU;obtain⟨n,hn,n25⟩:∃n:Nat,((if (17:Int)<((ns.map V.int).length:Int) then (17:Int) else ((ns.map V.int).length:Int))-1).toNat=n/\n<=25:=⟨_,rfl,by split<;>lia⟩
 rw[hn];obtain⟨Iv,Aw⟩:∃Iv:Nat->St->Hp->Prop,∀i σ Hx,Iv i σ Hx↔∃(z6 z7 z8 z9 qM En:Option V) (o:List (List bq×dY)) (cur:List bq) (p:zdg) (ps:List zdg) (ss vs:List V),σ=[some (.ref sa),some (.ref B),some (.ref R),some (.ref pl),some (.ref sc),some (.int (bs.length+i)),z6,z7,z8,z9,qM,En]/\PZ K bs bs.length (bs.length+i) R pl sc H Hx o cur p ps ss vs/\DX bs ns i=(o,cur):=⟨_,fun _ _ _=>Iff.rfl⟩
 refine tE (lo:=1) (n:=n) Iv ((Aw _ _ _).mpr ⟨none,none,none,none,none,none,[],[],R,[],[.cx],[],by simp,by simpa using pz0,rfl⟩) (fun i σ Hx hi hv=>?_) (fun σ Hx hv=>?_)
 ·obtain⟨z6,z7,z8,z9,qM,En,o,cur,p,ps,ss,vs,rfl,pz,ez⟩:=(Aw _ _ _).mp hv;clear hv pz0;obtain⟨ep,es⟩:=pz.YJ;have pG:=pz.pG;have lo:=pz.len;refine ak fun V1 xn=>?_;walk_at "rd";refine⟨sa,ns,i+1,by rw[show (1:Int)+i=((i+1:Nat):Int) by lia],pz.sm.seq hS,WU,by lia,fun s0 H4 s4 f4 xp=>(xn _ _).mpr (ak fun V2 CV=>?_)⟩;clear xn;have pz4:=pz.same s4;have bx4:kl K (·=s0) H4 B bs:=⟨fun H' u=>(rB.mono pz.sm).mono fun b x e=>u b x (az e f4) (s4 b x e),by lia⟩
  walk_at "rd";refine(CV _ _).mpr (ak fun V3 LV=>?_);clear CV;walk_at "rd";refine⟨s0,10,_,rfl,xp,by decide,by decide,fun kd z5 H5 q5 a5 b5 u5 HS=>(LV _ _).mpr ?_⟩;clear LV;have s5:aq Hx H5:=((bo.of s4).trans u5).same f4;have MB:=pz.same s5;have bx5:=bx4.up u5;have nso:s0 ∉ cW pl sc p ps ss:=fun z=>pz.oC _ z f4;have fin:∀(z9 qM En:Option V) (H':Hp) (o:List (List bq×dY)) (cur:List bq) (p:zdg) (ps:List zdg) (ss vs:List V),PZ K bs bs.length (bs.length+i+1) R pl sc H H' o cur p ps ss vs->DX bs ns (i+1)=(o,cur)->Iv (i+1) [some (.ref sa),some (.ref B),some (.ref R),some (.ref pl),some (.ref sc),some (.int (bs.length+i+1)),some (.int (1+i)),some (.ref s0),some (.int kd),z9,qM,En] H':=by
   intro z9 qM En H' o cur p ps ss vs pz ezn;refine(Aw _ _ _).mpr ⟨some (.int (1+i)),some (.ref s0),some (.int kd),z9,qM,En,o,cur,p,ps,ss,vs,?_,?_,ezn⟩
   ·rw[show (bs.length:Int)+((i+1:Nat):Int)=bs.length+i+1 by lia]
   ·rw[show (bs.length:Int)+((i+1:Nat):Int)=bs.length+i+1 by lia];exact pz
  clear Aw;have Vx:DX bs ns (i+1)=nU bs (bs.length+i+1) (NM ns (i+1)) (o,cur):=by rw[DX,ez]
  have aah:∀ {v:V} {K8:List V},ss=v::K8->v=.cx->uO o=false:=fun e n=>pz.pa.top e n;obtain⟨v0,A0,rfl⟩:∃v0 A0,ss=v0::A0:=by
   cases ss with
   |nil=>simp at es
   |cons v0 A0=>exact⟨v0,A0,rfl⟩
  have RI:=MB.mP;have Vy:=MB.CP;have yp:=MB.hp;rw[rev_last] at RI;rw[zbe] at Vy;have RJ:((ps.reverse.map V.ref++[V.ref p]:List V).length)=o.length+1:=by rw[zai,zac,zb1,ep];rfl
  refine wL fun UA UB Sv hUB=>?_;have Na:¬(kd<3/\o.length<4)->UB [some (.ref sa),some (.ref B),some (.ref R),some (.ref pl),some (.ref sc),some (.int (bs.length+i+1)),some (.int (1+i)),some (.ref s0),some (.int kd),z9,qM,En] H5:=by
   intro n1;refine(hUB _ _).mpr ?_;clear hUB Sv;refine wL fun UC UD hUC hUD=>?_;have RK:¬(kd=3/\uO o=true)->UD [some (.ref sa),some (.ref B),some (.ref R),some (.ref pl),some (.ref sc),some (.int (bs.length+i+1)),some (.int (1+i)),some (.ref s0),some (.int kd),z9,qM,En] H5:=by
    intro n2;refine(hUD _ _).mpr ?_;clear hUD hUC;refine wL fun UE UF hUE hUF=>?_;have RL:¬(kd<5/\o≠[])->UF [some (.ref sa),some (.ref B),some (.ref R),some (.ref pl),some (.ref sc),some (.int (bs.length+i+1)),some (.int (1+i)),some (.ref s0),some (.int kd),z9,qM,En] H5:=by
     intro n3;refine(hUF _ _).mpr ?_;clear hUF hUE;walk_at "rd";refine⟨1,rfl,bZ (.of RI) (lV _ _) ⟨.inl ⟨rfl,_,.of yp⟩,s0,B,bs,_,_,rfl,HS,bx5,fun v st z6 H6 q6 u6 SJ os ow pn er=>?_⟩⟩;have pz6:=pz.same (((bo.of s4).trans (u5.trans u6)).same f4);exact⟨p,vs,v,rfl,rfl,pz6.hp,by lia,fin _ _ _ _ _ _ _ _ _ _ (pz6.add (os _ MB.oC) ow pn er) (Vx.trans (B8 q5 n1 n2 n3 q6))⟩
    walk_at "rd";refine dw (fun e=>⟨pl,_,rfl,.inl (.of RI),dw (fun e2=>(hUE _ _).mpr ?_) (fun e2=>RL (fun c=>e2 (by rw[RJ];have:=zb3.mpr c.2;(try simp only[decide_eq_true_eq]);lia)))⟩) (fun e=>(if_neg (by decide)).mpr (RL fun c=>e (by have:=c.1;first |exact this |(simp only[decide_eq_true_eq];exact this))));clear RL hUE hUF;rw[RJ] at e2;obtain⟨q1,xy,rfl⟩:∃q1 xy,ps=q1::xy:=by
     cases ps with
     |nil=>simp at ep;simp[<- ep] at e2
     |cons q1 xy=>exact⟨q1,xy,rfl⟩
    obtain⟨v1,K8,Mo,es1,no,pzp⟩:=MB.YU rfl;cases es1;refine ak fun W1 LK=>?_;walk_at "rd";refine⟨.inl ⟨rfl,_,.of RI⟩,pl,_,.ref p,rfl,rfl,RI,by simp,(LK _ _).mpr ?_⟩;clear LK;rw[zda];have nps:sc≠pl:=fun z=>by
     have:=MB.nd;unfold cW at this;rw[z] at this;simp at this
    have Ox:(upd H5 pl (.lst ((q1::xy).reverse.map V.ref))) sc=some (.lst (A0.reverse++[v0])):=by rw[aw nps];exact Vy
    walk_at "rd";refine⟨.inl ⟨rfl,_,.of Ox⟩,sc,_,v0,rfl,rfl,Ox,by simp,?_⟩;rw[zda];exact fin _ _ _ _ _ _ _ _ _ _ pzp.more (Vx.trans (Hg q5 n1 n2 ⟨by simpa using e,no⟩))
   walk_at "rd";refine dw (fun e=>⟨1,rfl,bZ (.of Vy) (lV _ _) (dw (fun ev=>RK (fun c=>by rw[aah rfl ev] at c;cases c.2)) (fun nv=>(hUC _ _).mpr ?_))⟩) (fun e=>(if_neg (by decide)).mpr (RK fun c=>e (by have:=c.1;first |exact this |(simp only[decide_eq_true_eq];exact this))));clear RK hUC hUD;obtain⟨b,rfl,tpe,pze⟩:=MB.YT rfl nv;refine ak fun W1 LK=>?_;walk_at "rd";refine⟨1,rfl,bZ (.of Vy) (lV _ _) ⟨1,rfl,pl,_,_,_,rfl,rfl,RI,K0 (by rw[RJ];lia),(LK _ _).mpr ?_⟩⟩;clear LK;rw[BZ];have nps:sc≠pl:=fun z=>by
    have:=MB.nd;unfold cW at this;rw[z] at this;simp at this
   have Ox:(upd H5 pl (.lst (ps.reverse.map V.ref++[.ref b]))) sc=some (.lst (A0.reverse++[.ref b])):=by rw[aw nps];exact Vy
   walk_at "rd";refine⟨1,rfl,sc,_,_,_,rfl,rfl,Ox,K0 (by simp),?_⟩;rw[BZ];rw[rev_last,zbe] at pze;exact fin _ _ _ _ _ _ _ _ _ _ pze.more (Vx.trans (Hh q5 n1 ⟨by simpa using e,tpe⟩))
  walk_at "rd";refine dw (fun e=>⟨pl,_,rfl,.inl (.of RI),dw (fun e2=>(Sv _ _).mpr ?_) (fun e2=>Na (fun c=>e2 (by rw[RJ];have:=c.2;(try simp only[decide_eq_true_eq]);lia)))⟩) (fun e=>(if_neg (by decide)).mpr (Na fun c=>e (by have:=c.1;first |exact this |(simp only[decide_eq_true_eq];exact this))));clear Na Sv hUB;rw[RJ] at e2;have lo3:o.length<=3:=by lia
  refine ak fun W1 LK=>?_;walk_at "rd";refine⟨s0,B,bs,_,rfl,HS,bx5,fun v6 t6 z6 H6 q6 u6 SJ f6 o6=>⟨s0,B,bs,_,rfl,SJ,bx5.up u6,fun v7 t7 z7 H7 q7 u7 SK f7 o7 d7 p8 xI=>(LK _ _).mpr ?_⟩⟩;clear LK;have u57:=u6.trans u7;replace f6:=f6.up u7 HS.nn;replace f7:=f7.back (u6.oC SJ.nn);have n8:=SK.ne xI;have Vu:=SK.new xI (.lst [v6,v7]);have y8:(upd H7 p8 (.lst [v6,v7])) p8=some (.lst [v6,v7]):=ah;have e8:=aq.new xI (.lst [v6,v7]);have oS:∀a,(a∈cW pl sc p ps (v0::A0)\/a=s0)->H5 a≠none:=fun a ha=>ha.elim (MB.oC a) fun z=>by rw[z];exact HS.nn
  have g8:∀a,((a∈cW pl sc p ps (v0::A0)\/a=s0)\/a=p8)->(a∈cW pl sc p ps (v0::A0)\/a=s0)\/H7 a=none:=fun a h=>h.imp id fun z=>by rw[z];exact xI
  have F6:=((f6 _ oS).grow g8).up (.of e8);have F7:=((f7 _ oS).grow g8).up (.of e8);clear f6 f7 oS g8;have s8:aq Hx (upd H7 p8 (.lst [v6,v7])):=((((bo.of s4).trans u5).trans u57).trans (.of e8)).same f4;have n8o:p8 ∉ cW pl sc p ps (v0::A0):=fun z=>(u57.oC SK.nn) _ (MB.oC _ z) xI;generalize upd H7 p8 (.lst [v6,v7])=H8 at *;refine ak fun W2 UY=>?_;have main:∀(Hy:Hp) (va vb:V) (ta tb:PM.Tr) (x9:Int) (z9:Zs),tk z7 2=(x9,z9)->(if x9=1 then t7 else t6)=ta->(if x9=1 then t6 else t7)=tb->aq Hx Hy->rm Hy s0 z9->Hy p8=some (.lst [va,vb])->Fix K (fun a=>a∈cW pl sc p ps (v0::A0)\/a=s0) Hy (ki ta) va->Fix K (fun a=>a∈cW pl sc p ps (v0::A0)\/a=s0) Hy (ki tb) vb->BV bs ta->BV bs tb->W2 [some (.ref sa),some (.ref B),some (.ref R),some (.ref pl),some (.ref sc),some (.int (bs.length+i+1)),some (.int (1+i)),some (.ref s0),some (.int kd),some (.ref p8),qM,En] Hy:=by
   intro Hy va vb ta tb x9 z9 q9 ea eb sy MA yy fa fb oa ob;refine(UY _ _).mpr (ak fun W3 Sw=>?_);clear UY F6 F7;walk_at "rd";intro pw hpw;have ew:=aq.new hpw (.lst [V.str (zab "if"),V.str (zab "while"),V.str (zab "if")]);have yw:(upd Hy pw (.lst [V.str (zab "if"),V.str (zab "while"),V.str (zab "if")])) pw=_:=ah;replace MA:=MA.same ew;replace yy:=ew _ _ yy;replace sy:=sy.trans ew;replace fa:=fa.up (.of ew);replace fb:=fb.up (.of ew);generalize upd Hy pw (.lst [V.str (zab "if"),V.str (zab "while"),V.str (zab "if")])=Hw at *;obtain⟨wd,ewd,hwd⟩:∃wd:Str,tK [V.str (zab "if"),V.str (zab "while"),V.str (zab "if")] kd=some (.str wd)/\((wd = "if"/\kd≠1)\/(wd = "while"/\kd=1)):=by
    obtain rfl |rfl |rfl:kd=0\/kd=1\/kd=2:=by lia
    ·exact⟨_,rfl,.inl ⟨rfl,by decide⟩⟩
    ·exact⟨_,rfl,.inr ⟨rfl,rfl⟩⟩
    ·exact⟨_,rfl,.inl ⟨rfl,by decide⟩⟩
   refine bZ (.of yw) ewd ((Sw _ _).mpr (ak fun W4 Xs=>?_));clear Sw yw ewd ew hpw;walk_at "rd";intro b0 RB b1 qB pb hpb;have fb0:Hx b0=none:=sy.free RB;have n0s:=MA.ne RB;have e0:=aq.new RB (.lst []);have y0:(upd Hw b0 (.lst [])) b0=some (.lst []):=ah;have w1:Hw b1=none:=e0.free qB;have n01:b0≠b1:=az y0 qB;have gW:∀a,((a∈cW pl sc p ps (v0::A0)\/a=s0)\/a=b0\/a=b1)->(a∈cW pl sc p ps (v0::A0)\/a=s0)\/Hw a=none:=fun a h=>h.imp id fun z=>z.elim (fun z=>by rw[z];exact RB) fun z=>by rw[z];exact w1
   have FA:=fa.grow gW;have FB:=fb.grow gW;clear fa fb gW;have fb1:Hx b1=none:=sy.free w1;have n1s:=MA.ne w1;generalize upd Hw b0 (.lst [])=Hv at *;have e1:=aq.new qB (.lst []);have y1:(upd Hv b1 (.lst [])) b1=some (.lst []):=ah;generalize upd Hv b1 (.lst [])=Hu at *;have Sz:=aq.new hpb (.lst [V.ref b0,V.ref b1]);have yb:(upd Hu pb (.lst [V.ref b0,V.ref b1])) pb=_:=ah;have SM:=(e0.trans e1).trans Sz;have sb:=sy.trans SM;have ET:=MA.same SM;replace yy:=SM _ _ yy;replace y0:=Sz _ _ (e1 _ _ y0);replace y1:=Sz _ _ y1;replace FA:=FA.up (.of SM);replace FB:=FB.up (.of SM);generalize upd Hu pb (.lst [V.ref b0,V.ref b1])=Hb at *;clear e0 e1 Sz SM hpb RB qB w1 sy MA;rcases hwd with ⟨rfl,ek⟩ |⟨rfl,ek⟩
   ·rw[show (decide ((zab "if":Str)=zab "if"))=true by decide +kernel];refine⟨_,rfl,_,rfl,pb,_,rfl,.of yb,fun pq RM=>(Xs _ _).mpr ?_⟩;clear Xs;rw[show iF [V.ref b0,V.ref b1] none (some (1+if true=true then 1 else 0))=[V.ref b0,V.ref b1] by rfl];have eq5:=aq.new RM (.lst [V.ref b0,V.ref b1]);have yq:(upd Hb pq (.lst [V.ref b0,V.ref b1])) pq=_:=ah;have Vz:=ET.ne RM;have fq:Hx pq=none:=sb.free RM;replace ET:=ET.same eq5;replace sb:=sb.trans eq5;replace yy:=eq5 _ _ yy;replace y0:=eq5 _ _ y0;replace y1:=eq5 _ _ y1;replace FA:=FA.up (.of eq5);replace FB:=FB.up (.of eq5);generalize upd Hb pq (.lst [V.ref b0,V.ref b1])=Hq at *;refine ak fun W5 VA=>?_;walk_at "rd";have VB:=pz.same sb;have LX:=VB.mP;rw[rev_last] at LX;refine⟨1,rfl,bZ (.of LX) (lV _ _) ⟨.inl ⟨rfl,_,.of VB.hp⟩,s0,2,_,rfl,ET,by decide,by decide,fun Ab qM N9 Vv a10 b10 CW Ov=>?_⟩⟩;obtain⟨c,ec,ecs,oc⟩:∃c:Nat,tK (zab "<=").cps.toList Ab=some c/\O8 Ab=[c]/\[c]∈CN:=by
     obtain rfl |rfl:Ab=0\/Ab=1:=by lia
     ·exact⟨60,by decide +kernel,rfl,by decide⟩
     ·exact⟨61,by decide +kernel,rfl,by decide⟩
    refine⟨_,_,c,rfl,rfl,by decide +kernel,ec,?_⟩;intro VC RN;generalize RO:upd N9 VC _=Sn;have AY:=gL RO RN;have y11:=pY RO;clear RO;refine⟨VC,p8,_,_,rfl,rfl,y11,AY _ _ (CW _ _ n8 yy),by simp only[zaf,zaI];lia,fun VD LB=>?_⟩;generalize RP:upd Sn VD _=Pf;have Mr:=gL RP LB;have RH:=pY RP;clear RP;refine⟨VD,pq,_,_,rfl,rfl,RH,Mr _ _ (AY _ _ (CW _ _ Vz yq)),by simp only[zai,zaf,zaI];lia,fun VE Ed=>?_⟩;generalize RQ:upd Pf VE _=WL;have N5:=gL RQ Ed;have Pq:=pY RQ;clear RQ;refine⟨VE,_,rfl,.inl ⟨.of Pq,fun Ia LY=>?_⟩⟩;generalize RR:upd WL Ia _=AZ;have So:=gT RR LY;have Sq:AZ Ia=some (.tup ([V.str (zab "if"),V.int (bs.length+i+1),V.str (S [c])]++[va,vb]++[V.ref b0,V.ref b1])):=by rw[<- RR];exact ah
    clear RR;have Cy:=((AY.trans Mr).trans N5).trans So;have Nw:∀b x,b≠s0->Hq b=some x->AZ b=some x:=fun b x n e=>Cy _ _ (CW b x n e);have sx:aq Hx AZ:=fun b x e=>Nw b x (fun z=>by rw[z,f4] at e;cases e) (sb b x e);have VF:aU (fun a=>(a∈cW pl sc p ps (v0::A0)\/a=s0)\/a=b0\/a=b1) Hq AZ:=(aU.one CW (.inl (.inr rfl))).trans (.of Cy);have Eo:=pz.same sx;have LZ:=Eo.mP;have L4:=Eo.CP;have RS:=Nw _ _ Vz yq;have npq:pq≠p:=fun z=>pz.oC p (aR.mpr (.inr (.inr (.inl rfl)))) (by rw[<- z];exact fq);have RT:pq≠pl:=fun z=>pz.oC pl (aR.mpr (.inl rfl)) (by rw[<- z];exact fq);have RU:=pz.nd;unfold cW at RU;rw[zam,zam,zam] at RU;obtain⟨VG,nn2,_,_⟩:=RU;have m1:pl≠p:=fun z=>VG (by rw[z];simp);have m2:sc≠p:=fun z=>nn2 (by rw[z];simp);have m3:sc≠pl:=fun z=>VG (by rw[z];simp);have PO:=(pz.Ur ((FA.up VF).sub fun a h=>(O7 h).imp .inl id) ((FB.up VF).sub fun a h=>(O7 h).imp .inl id) oc oa ob lo3 sx fb0 fb1 n01 (((((bo.of sb).trans CW).trans (.of ((AY.trans Mr).trans N5))).same f4).free LY) (Nw _ _ n0s y0) (Nw _ _ n1s y1) Sq)
    refine⟨p,vs,_,rfl,rfl,Eo.hp,by lia,(VA _ _).mpr (ak fun W6 VH=>?_)⟩;clear VA;have z1:(upd AZ p (.lst (vs++[V.ref Ia]))) pl=_:=(aw m1).trans LZ;have z2:(upd AZ p (.lst (vs++[V.ref Ia]))) sc=_:=(aw m2).trans L4;have z3:(upd AZ p (.lst (vs++[V.ref Ia]))) pq=_:=(aw npq).trans RS;walk_at "rd";generalize upd AZ p (.lst (vs++[V.ref Ia]))=Ms at *;refine⟨.inl ⟨rfl,_,.of z1⟩,bZ (.of z3) (v:=.ref b0) (au (j:=0) rfl) ⟨pl,_,_,rfl,rfl,z1,by rw[rev_last,RJ];lia,(VH _ _).mpr ?_⟩⟩;clear VH;have x2:(upd Ms pl (.lst ((p::ps).reverse.map V.ref++[V.ref b0]))) sc=_:=(aw m3).trans z2;have x3:(upd Ms pl (.lst ((p::ps).reverse.map V.ref++[V.ref b0]))) pq=_:=(aw RT).trans z3;walk_at "rd";generalize upd Ms pl (.lst ((p::ps).reverse.map V.ref++[V.ref b0]))=WN at *;refine⟨.inl ⟨rfl,_,.of x2⟩,fun p17 RV=>?_⟩;have VI:=aq.new RV (.lst [V.cx]);refine⟨pq,p17,_,_,rfl,rfl,VI _ _ x3,ah,by simp only[zaf,zaI];lia,fun p18 RW=>?_⟩;have VJ:=VI.trans (aq.new RW (.lst ([V.ref b0,V.ref b1]++[V.cx])));refine bZ (.of ah) (v:=.ref b1) (au (j:=1) rfl) ⟨sc,_,_,rfl,rfl,VJ _ _ x2,by rw[zb1,es];lia,fin _ _ _ _ _ _ _ _ _ _ (PO.same (B0 VJ)) (by rw[<- ecs];exact Vx.trans (K9 q5 ⟨by simpa using e,by lia⟩ q6 q7 q9 Vv ea eb ek))⟩
   ·rw[show (decide ((zab "while":Str)=zab "if"))=false by decide +kernel];refine⟨_,rfl,_,rfl,pb,_,rfl,.of yb,fun pq RM=>(Xs _ _).mpr ?_⟩;clear Xs;rw[show iF [V.ref b0,V.ref b1] none (some (1+if false=true then 1 else 0))=[V.ref b0] by rfl];have eq5:=aq.new RM (.lst [V.ref b0]);have yq:(upd Hb pq (.lst [V.ref b0])) pq=_:=ah;have Vz:=ET.ne RM;have fq:Hx pq=none:=sb.free RM;replace ET:=ET.same eq5;replace sb:=sb.trans eq5;replace yy:=eq5 _ _ yy;replace y0:=eq5 _ _ y0;replace y1:=eq5 _ _ y1;replace FA:=FA.up (.of eq5);replace FB:=FB.up (.of eq5);generalize upd Hb pq (.lst [V.ref b0])=Hq at *;refine ak fun W5 VA=>?_;walk_at "rd";have VB:=pz.same sb;have LX:=VB.mP;rw[rev_last] at LX;refine⟨1,rfl,bZ (.of LX) (lV _ _) ⟨.inl ⟨rfl,_,.of VB.hp⟩,s0,2,_,rfl,ET,by decide,by decide,fun Ab qM N9 Vv a10 b10 CW Ov=>?_⟩⟩;obtain⟨c,ec,ecs,oc⟩:∃c:Nat,tK (zab "<=").cps.toList Ab=some c/\O8 Ab=[c]/\[c]∈CN:=by
     obtain rfl |rfl:Ab=0\/Ab=1:=by lia
     ·exact⟨60,by decide +kernel,rfl,by decide⟩
     ·exact⟨61,by decide +kernel,rfl,by decide⟩
    refine⟨_,_,c,rfl,rfl,by decide +kernel,ec,?_⟩;intro VC RN;generalize RO:upd N9 VC _=Sn;have AY:=gL RO RN;have y11:=pY RO;clear RO;refine⟨VC,p8,_,_,rfl,rfl,y11,AY _ _ (CW _ _ n8 yy),by simp only[zaf,zaI];lia,fun VD LB=>?_⟩;generalize RP:upd Sn VD _=Pf;have Mr:=gL RP LB;have RH:=pY RP;clear RP;refine⟨VD,pq,_,_,rfl,rfl,RH,Mr _ _ (AY _ _ (CW _ _ Vz yq)),by simp only[zai,zaf,zaI];lia,fun VE Ed=>?_⟩;generalize RQ:upd Pf VE _=WL;have N5:=gL RQ Ed;have Pq:=pY RQ;clear RQ;refine⟨VE,_,rfl,.inl ⟨.of Pq,fun Ia LY=>?_⟩⟩;generalize RR:upd WL Ia _=AZ;have So:=gT RR LY;have Sq:AZ Ia=some (.tup ([V.str (zab "while"),V.int (bs.length+i+1),V.str (S [c])]++[va,vb]++[V.ref b0])):=by rw[<- RR];exact ah
    clear RR;have Cy:=((AY.trans Mr).trans N5).trans So;have Nw:∀b x,b≠s0->Hq b=some x->AZ b=some x:=fun b x n e=>Cy _ _ (CW b x n e);have sx:aq Hx AZ:=fun b x e=>Nw b x (fun z=>by rw[z,f4] at e;cases e) (sb b x e);have VF:aU (fun a=>(a∈cW pl sc p ps (v0::A0)\/a=s0)\/a=b0\/a=b1) Hq AZ:=(aU.one CW (.inl (.inr rfl))).trans (.of Cy);have Eo:=pz.same sx;have LZ:=Eo.mP;have L4:=Eo.CP;have RS:=Nw _ _ Vz yq;have npq:pq≠p:=fun z=>pz.oC p (aR.mpr (.inr (.inr (.inl rfl)))) (by rw[<- z];exact fq);have RT:pq≠pl:=fun z=>pz.oC pl (aR.mpr (.inl rfl)) (by rw[<- z];exact fq);have RU:=pz.nd;unfold cW at RU;rw[zam,zam,zam] at RU;obtain⟨VG,nn2,_,_⟩:=RU;have m1:pl≠p:=fun z=>VG (by rw[z];simp);have m2:sc≠p:=fun z=>nn2 (by rw[z];simp);have m3:sc≠pl:=fun z=>VG (by rw[z];simp);have PO:=(pz.Uq ((FA.up VF).sub fun a h=>(O6 h).imp .inl .inl) ((FB.up VF).sub fun a h=>(O6 h).imp .inl .inl) oc oa ob lo3 sx fb0 (((((bo.of sb).trans CW).trans (.of ((AY.trans Mr).trans N5))).same f4).free LY) (Nw _ _ n0s y0) Sq)
    refine⟨p,vs,_,rfl,rfl,Eo.hp,by lia,(VA _ _).mpr (ak fun W6 VH=>?_)⟩;clear VA;have z1:(upd AZ p (.lst (vs++[V.ref Ia]))) pl=_:=(aw m1).trans LZ;have z2:(upd AZ p (.lst (vs++[V.ref Ia]))) sc=_:=(aw m2).trans L4;have z3:(upd AZ p (.lst (vs++[V.ref Ia]))) pq=_:=(aw npq).trans RS;walk_at "rd";generalize upd AZ p (.lst (vs++[V.ref Ia]))=Ms at *;refine⟨.inl ⟨rfl,_,.of z1⟩,bZ (.of z3) (v:=.ref b0) (au (j:=0) rfl) ⟨pl,_,_,rfl,rfl,z1,by rw[rev_last,RJ];lia,(VH _ _).mpr ?_⟩⟩;clear VH;have x2:(upd Ms pl (.lst ((p::ps).reverse.map V.ref++[V.ref b0]))) sc=_:=(aw m3).trans z2;have x3:(upd Ms pl (.lst ((p::ps).reverse.map V.ref++[V.ref b0]))) pq=_:=(aw RT).trans z3;walk_at "rd";generalize upd Ms pl (.lst ((p::ps).reverse.map V.ref++[V.ref b0]))=WN at *;refine⟨.inl ⟨rfl,_,.of x2⟩,fun p17 RV=>?_⟩;have VI:=aq.new RV (.lst [V.cx]);refine⟨pq,p17,_,_,rfl,rfl,VI _ _ x3,ah,by simp only[zaf,zaI];lia,fun p18 RW=>?_⟩;have VJ:=VI.trans (aq.new RW (.lst ([V.ref b0]++[V.cx])));refine bZ (.of ah) (v:=.cx) (au (j:=1) rfl) ⟨sc,_,_,rfl,rfl,VJ _ _ x2,by rw[zb1,es];lia,fin _ _ _ _ _ _ _ _ _ _ (PO.same (B0 VJ)) (by rw[<- ecs];exact Vx.trans (Hi q5 ⟨by simpa using e,by lia⟩ q6 q7 q9 Vv ea eb ek))⟩
  walk_at "rd";refine⟨s0,2,_,rfl,Vu,by decide,by decide,fun x9 z9 H9 q9 a9 b9 u9 Xq=>⟨rfl,dw (fun e9=>?_) (fun e9=>?_)⟩⟩
  ·have y9:=u9 _ _ n8 y8;refine⟨.inl ⟨rfl,_,.of y9⟩,p8,_,rfl,rfl,y9,?_⟩;have sx9:aq Hx (upd H9 p8 (.lst [v6,v7].reverse)):=fun b x e=>by
    have e8':=s8 b x e;have nb:b≠s0:=fun z=>by rw[z,f4] at e;cases e
    have nb8:b≠p8:=fun z=>by
     have:=s5 b x e;rw[z] at this;exact(u57.oC SK.nn) _ (by rw[this];simp) xI
    rw[aw nb8];exact u9 b x nb e8'
   have aav:rm (upd H9 p8 (.lst [v6,v7].reverse)) s0 z9:=by
    show upd _ p8 _ s0=_;rw[aw n8.symm];exact Xq
   have VL:aU (fun a=>(a∈cW pl sc p ps (v0::A0)\/a=s0)\/a=p8) H8 (upd H9 p8 (.lst [v6,v7].reverse)):=(aU.one u9 (.inl (.inr rfl))).put (.inr rfl) _;exact main _ v7 v6 t7 t6 x9 z9 q9 (if_pos (by simpa using e9)) (if_pos (by simpa using e9)) sx9 aav ah ((F7.up VL).sub fun a h=>.inl h) ((F6.up VL).sub fun a h=>.inl h) ⟨o7,zaA d7 (by decide)⟩ o6
  ·have sx9:aq Hx H9:=fun b x e=>u9 b x (fun z=>by rw[z,f4] at e;cases e) (s8 b x e);have VL:aU (fun a=>(a∈cW pl sc p ps (v0::A0)\/a=s0)\/a=p8) H8 H9:=aU.one u9 (.inl (.inr rfl));exact main _ v6 v7 t6 t7 x9 z9 q9 (if_neg (by simpa using e9)) (if_neg (by simpa using e9)) sx9 Xq (u9 _ _ n8 y8) ((F6.up VL).sub fun a h=>.inl h) ((F7.up VL).sub fun a h=>.inl h) o6 ⟨o7,zaA d7 (by decide)⟩
 ·obtain⟨z6,z7,z8,z9,qM,En,o,cur,p,ps,ss,vs,rfl,pz,ez⟩:=(Aw _ _ _).mp hv;refine(rn _ _).mpr ?_;walk_at "rd";have zk:=pz.zk;exact q R _ Hx (by unfold K1;rw[show min ns.length 17-1=n by rw[<- hn,zac];split<;>lia,ez]) pz.sm hR pz.close ⟨zk.ok,zk.rise,fun x hx=>⟨(zk.rows x hx).1,by have:=(zk.rows x hx).2;lia⟩,zk.dep,by lia⟩
theorem RX(T:Tx K mg t){c Pt:zdg}(B:jM K mg base c Pt)(hc:wF K t.bU c):bB P w K mg base dc 30 t.FP t.uj ["script"] (z0 K Pt):=by
 have aN:=dS (P:=P) (w:=w) (K:=K) (base:=base) T;have iD:=lR (P:=P) (w:=w) (K:=K) (base:=base) T;have nM:=xR (P:=P) (w:=w) (K:=K) (base:=base) T;have uY:=Az (P:=P) (w:=w) (K:=K) (base:=base) T;have Cz:=Av (P:=P) (w:=w) (base:=base) T;have g1:bB P w K mg base dc 1 t.bT t.bP ["body", "behind"] (gM K):=iC T;have g2:=pO (P:=P) (w:=w) (base:=base) T 5;have gY:=vO (P:=P) (w:=w) (base:=base) T;have rg:=Ot (P:=P) (w:=w) (base:=base) T 5;have AB:=xK (P:=P) (w:=w) (base:=base) T;have CA:=Ay (P:=P) (w:=w) (base:=base) T B hc g1 g2 gY;have iX:=lA (P:=P) (w:=w) (base:=base) T g1 g2 gY;have xT:=xo (P:=P) (w:=w) (base:=base) T;have qr:=xr (P:=P) (w:=w) (base:=base) T;have AD:=xM (P:=P) (w:=w) (base:=base) T;refine T.FQ.F.lX Lx (fun vs H Q E h=>?_) (fun eS A outer s H vs Q E hr h=>?_)
 ·obtain⟨_,_,rfl,_⟩:=h;rfl
 obtain⟨a,ns,rfl,hS,SN,Ir,q⟩:=h;have nd:=Lx.nd;have hu:=gZ hr;have line:zdo=2 ^ 24:=rfl;refine⟨_,[some (V.ref a),none,none,none,none,none,none,none,none,none,none,none,none],(@ai _ _ _ _ _ (@a8 _ _ _ _ _ _ _ _ (@tm _ _ _ _ (@mM _ _ _ (@cA _ _ _ _ _ _ _ _ _ _ _ _ _ _ _ _ Cz (hr.mono (by first|decide|omega)) rfl T.hX.m T.hX.F.kp T.hX.b .nil eA (@ae _ _ _ _ _ (pv 0) (@ag _) (@aJ _ _ _ _)) (by first |rfl |exact .inl rfl |exact .inr rfl |decide |(intro _;rfl) |assumption) (by first |rfl |exact .inl rfl |exact .inr rfl |decide |(intro _;rfl) |assumption) (by first |rfl |exact .inl rfl |exact .inr rfl |decide |(intro _;rfl) |assumption)) (by first |rfl |exact .inl rfl |exact .inr rfl |decide |(intro _;rfl) |assumption))) (@ar _ _ _ (@aH _ _ _ _ (@gy _ _ _ _))) (@aO _)) (@ai _ _ _ _ _ (@cJ _ _ 1 _ _ _ _ nd rfl (zaC rfl) (@cA _ _ _ _ _ _ _ _ _ _ _ _ _ _ _ _ nM (hr.mono (by first|decide|omega)) rfl T.cC.m T.cC.F.kp T.cC.b .nil eA (@ae _ _ _ _ _ (pv 0) (@ag _) (@aJ _ _ _ _)) (by first |rfl |exact .inl rfl |exact .inr rfl |decide |(intro _;rfl) |assumption) (by first |rfl |exact .inl rfl |exact .inr rfl |decide |(intro _;rfl) |assumption) (by first |rfl |exact .inl rfl |exact .inr rfl |decide |(intro _;rfl) |assumption)) (by first |rfl |exact .inl rfl |exact .inr rfl |decide |(intro _;rfl) |assumption) (by first |rfl |exact .inl rfl |exact .inr rfl |decide |(intro _;rfl) |assumption)) (@ai _ _ _ _ _ (@cJ _ _ 2 _ _ _ _ nd rfl (zbP rfl) (@aL _ _ _ _ _ (@ae _ _ _ _ _ (pv 1) (@ae _ _ _ _ _ (@cA _ _ _ _ _ _ _ _ _ _ _ _ _ _ _ _ uY (hr.mono (by first|decide|omega)) rfl T.dR.m T.dR.F.kp T.dR.b .nil eA (@ae _ _ _ _ _ (pv 0) (@ae _ _ _ _ _ (pv 1) (@ag _) (@aJ _ _ _ _)) (@aJ _ _ _ _)) (by first |rfl |exact .inl rfl |exact .inr rfl |decide |(intro _;rfl) |assumption) (by first |rfl |exact .inl rfl |exact .inr rfl |decide |(intro _;rfl) |assumption) (by first |rfl |exact .inl rfl |exact .inr rfl |decide |(intro _;rfl) |assumption)) (@ag _) (@a7 _ _ _ _ _ _)) (@aJ _ _ _ _))) (by first |rfl |exact .inl rfl |exact .inr rfl |decide |(intro _;rfl) |assumption) (by first |rfl |exact .inl rfl |exact .inr rfl |decide |(intro _;rfl) |assumption)) (@ai _ _ _ _ _ (@cJ _ _ 3 _ _ _ _ nd rfl (zbP rfl) (@Jm _ _) (by first |rfl |exact .inl rfl |exact .inr rfl |decide |(intro _;rfl) |assumption) (by first |rfl |exact .inl rfl |exact .inr rfl |decide |(intro _;rfl) |assumption)) (@ai _ _ _ _ _ (@cJ _ _ 4 _ _ _ _ nd rfl (zaC rfl) (@cf _ _ _ _ _ _ _ _ _ (mV rfl) rfl T.jD PyProof.Rows.Boot.«dict» (@ae _ _ _ _ _ (@cK _ _ _ _ _ _ _ (["row", "word", "goals"]) [] _ _ _ _ rfl (by rfl) (by rfl) (@bD _ _ _ _ (@cA _ _ _ _ _ _ _ _ _ _ _ _ _ _ _ _ gY (hr.mono (by first|decide|omega)) rfl T.o5.m T.o5.F.kp T.o5.b .nil eA (@ae _ _ _ _ _ (pv 2) (@ag _) (@aJ _ _ _ _)) (by first |rfl |exact .inl rfl |exact .inr rfl |decide |(intro _;rfl) |assumption) (by first |rfl |exact .inl rfl |exact .inr rfl |decide |(intro _;rfl) |assumption) (by first |rfl |exact .inl rfl |exact .inr rfl |decide |(intro _;rfl) |assumption))) (fun _ _ _ _=>(N6 (K:=K) rfl 3 rfl (@dG _ _ _ _ _ (@bC _ _ 0 _ (by show List.Nodup (["row", "word", "goals"]:List Str);decide +kernel) rfl (zaC rfl) (by first |rfl |exact .inl rfl |exact .inr rfl |decide |(intro _;rfl) |assumption)) (@dG _ _ _ _ _ (@bC _ _ 1 _ (by show List.Nodup (["row", "word", "goals"]:List Str);decide +kernel) rfl (zaC rfl) (by first |rfl |exact .inl rfl |exact .inr rfl |decide |(intro _;rfl) |assumption)) (@dG _ _ _ _ _ (@bC _ _ 2 _ (by show List.Nodup (["row", "word", "goals"]:List Str);decide +kernel) rfl (zaC rfl) (by first |rfl |exact .inl rfl |exact .inr rfl |decide |(intro _;rfl) |assumption)) (@pf _) (by first |rfl |exact .inl rfl |exact .inr rfl |decide |(intro _;rfl) |assumption)) (by first |rfl |exact .inl rfl |exact .inr rfl |decide |(intro _;rfl) |assumption)) (by first |rfl |exact .inl rfl |exact .inr rfl |decide |(intro _;rfl) |assumption)))) (fun _ _ _ _=>(@dM _)) (fun _ _ _ _=>(@aL _ _ _ _ _ (@ae _ _ _ _ _ (pv 0) (@ae _ _ _ _ _ (pv 2) (@ag _) (@aJ _ _ _ _)) (@aJ _ _ _ _)))) (by first |rfl |exact .inl rfl |exact .inr rfl |decide |(intro _;rfl) |assumption)) (@ag _) (@hZ _ _ _ _ _ _)) (by first |rfl |exact .inl rfl |exact .inr rfl |decide |(intro _;rfl) |assumption) (by first |rfl |exact .inl rfl |exact .inr rfl |decide |(intro _;rfl) |assumption) (by first |rfl |exact .inl rfl |exact .inr rfl |decide |(intro _;rfl) |assumption) (by first |rfl |exact .inl rfl |exact .inr rfl |decide |(intro _;rfl) |assumption)) (by first |rfl |exact .inl rfl |exact .inr rfl |decide |(intro _;rfl) |assumption) (by first |rfl |exact .inl rfl |exact .inr rfl |decide |(intro _;rfl) |assumption)) (@ai _ _ _ _ _ (@dB _ _ _ _ _ _ _ _ PassesOwn.never rfl (@bD _ _ _ _ (@cA _ _ _ _ _ _ _ _ _ _ _ _ _ _ _ _ rg (hr.mono (by first|decide|omega)) rfl T.gX.m T.gX.F.kp T.gX.b .nil eA (@ae _ _ _ _ _ (@aC _ _ _ _ _ _ _ (@aD _) (pv 2) (@aj _ _ _ _) (@ao _ _ _)) (@ag _) (@aV _ _ _ _ _)) (by first |rfl |exact .inl rfl |exact .inr rfl |decide |(intro _;rfl) |assumption) (by first |rfl |exact .inl rfl |exact .inr rfl |decide |(intro _;rfl) |assumption) (by first |rfl |exact .inl rfl |exact .inr rfl |decide |(intro _;rfl) |assumption))) (@bC _ _ 5 _ nd rfl (zaC rfl) (by first |rfl |exact .inl rfl |exact .inr rfl |decide |(intro _;rfl) |assumption)) (@ar _ _ _ (@zH _ _ _ _ _ _ _ _ _ hu (pv 3) (@aC _ _ _ _ _ _ _ (@aD _) (pv 5) (@aj _ _ _ _) (@ao _ _ _)) (@aL _ _ _ _ _ (@ae _ _ _ _ _ (pv 5) (@ae _ _ _ _ _ (@eF _ _ _ _ _ _ hu (pv 4) (@aC _ _ _ _ _ _ _ (@aD _) (pv 5) (@aj _ _ _ _) (@ao _ _ _)) (fun _ _=>rfl)) (@ag _) (@aV _ _ _ _ _)) (@aJ _ _ _ _))) rfl)) (by first |rfl |exact .inl rfl |exact .inr rfl |decide |(intro _;rfl) |assumption)) (@ai _ _ _ _ _ (@cJ _ _ 6 _ _ _ _ nd rfl (zaC rfl) (@cA _ _ _ _ _ _ _ _ _ _ _ _ _ _ _ _ AB (hr.mono (by first|decide|omega)) rfl T.gw.m T.gw.F.kp T.gw.b .nil eA (@ae _ _ _ _ _ (pv 2) (@ae _ _ _ _ _ (pv 3) (@ag _) (@aJ _ _ _ _)) (@aJ _ _ _ _)) (by first |rfl |exact .inl rfl |exact .inr rfl |decide |(intro _;rfl) |assumption) (by first |rfl |exact .inl rfl |exact .inr rfl |decide |(intro _;rfl) |assumption) (by first |rfl |exact .inl rfl |exact .inr rfl |decide |(intro _;rfl) |assumption)) (by first |rfl |exact .inl rfl |exact .inr rfl |decide |(intro _;rfl) |assumption) (by first |rfl |exact .inl rfl |exact .inr rfl |decide |(intro _;rfl) |assumption)) (@ai _ _ _ _ _ (@cJ _ _ 7 _ _ _ _ nd rfl (zaC rfl) (@cA _ _ _ _ _ _ _ _ _ _ _ _ _ _ _ _ CA (hr.mono (by first|decide|omega)) rfl T.hJ.m T.hJ.F.kp T.hJ.b .nil eA (@ae _ _ _ _ _ (pv 2) (@ag _) (@aJ _ _ _ _)) (by first |rfl |exact .inl rfl |exact .inr rfl |decide |(intro _;rfl) |assumption) (by first |rfl |exact .inl rfl |exact .inr rfl |decide |(intro _;rfl) |assumption) (by first |rfl |exact .inl rfl |exact .inr rfl |decide |(intro _;rfl) |assumption)) (by first |rfl |exact .inl rfl |exact .inr rfl |decide |(intro _;rfl) |assumption) (by first |rfl |exact .inl rfl |exact .inr rfl |decide |(intro _;rfl) |assumption)) (@ai _ _ _ _ _ (@cJ _ _ 8 _ _ _ _ nd rfl (zaC rfl) (@bS _ _ _ _ _ _ _ _ _ (Bo rfl) rfl T.FR PyProof.Rows.Boot.«sum» (@ae _ _ _ _ _ (@dJ _ _ _ _ _ _ _ _ _ _ (@rJ _) (pv 0) (@eW _) (@dI _ _ _ (@aj _ _ _ _))) (@ag _) (@aV _ _ _ _ _)) (by first |rfl |exact .inl rfl |exact .inr rfl |decide |(intro _;rfl) |assumption) (by first |rfl |exact .inl rfl |exact .inr rfl |decide |(intro _;rfl) |assumption) (by first |rfl |exact .inl rfl |exact .inr rfl |decide |(intro _;rfl) |assumption) (by first |rfl |exact .inl rfl |exact .inr rfl |decide |(intro _;rfl) |assumption)) (by first |rfl |exact .inl rfl |exact .inr rfl |decide |(intro _;rfl) |assumption) (by first |rfl |exact .inl rfl |exact .inr rfl |decide |(intro _;rfl) |assumption)) (@ai _ _ _ _ _ (@cJ _ _ 9 _ _ _ _ nd rfl (zaC rfl) (@cf _ _ _ _ _ _ _ _ _ (qL (J:=qH) (fun _ _ _ _ h t=>DR h t) rfl (zJ hr)) rfl T.jD PyProof.Rows.Boot.«dict» (@ae _ _ _ _ _ (@cK _ _ _ _ _ _ _ ["standing"] ([2,3]) _ _ _ _ rfl (by rfl) (by rfl) (@bD _ _ _ _ (pv 6)) (fun _ _ _ _=>(@bC _ _ 0 _ (by show List.Nodup (["standing", "program", "statements"]:List Str);decide +kernel) rfl (zaC rfl) (by first |rfl |exact .inl rfl |exact .inr rfl |decide |(intro _;rfl) |assumption))) (fun _ _ _ _=>(@dM _)) (fun _ _ _ _=>(@aL _ _ _ _ _ (@ae _ _ _ _ _ (pv 0) (@ae _ _ _ _ _ (@cA _ _ _ _ _ _ _ _ _ _ _ _ _ _ _ _ xT (hr.mono (by first|decide|omega)) rfl T.fF.m T.fF.F.kp T.fF.b .nil eA (@ae _ _ _ _ _ (pv 1) (@ae _ _ _ _ _ (pv 2) (@ae _ _ _ _ _ (pv 0) (@ag _) (@aJ _ _ _ _)) (@aJ _ _ _ _)) (@aJ _ _ _ _)) (by first |rfl |exact .inl rfl |exact .inr rfl |decide |(intro _;rfl) |assumption) (by first |rfl |exact .inl rfl |exact .inr rfl |decide |(intro _;rfl) |assumption) (by first |rfl |exact .inl rfl |exact .inr rfl |decide |(intro _;rfl) |assumption)) (@ag _) (@a7 _ _ _ _ _ _)) (@aJ _ _ _ _)))) (by first |rfl |exact .inl rfl |exact .inr rfl |decide |(intro _;rfl) |assumption)) (@ag _) (@hZ _ _ _ _ _ _)) (by first |rfl |exact .inl rfl |exact .inr rfl |decide |(intro _;rfl) |assumption) (by first |rfl |exact .inl rfl |exact .inr rfl |decide |(intro _;rfl) |assumption) (by first |rfl |exact .inl rfl |exact .inr rfl |decide |(intro _;rfl) |assumption) (by first |rfl |exact .inl rfl |exact .inr rfl |decide |(intro _;rfl) |assumption)) (by first |rfl |exact .inl rfl |exact .inr rfl |decide |(intro _;rfl) |assumption) (by first |rfl |exact .inl rfl |exact .inr rfl |decide |(intro _;rfl) |assumption)) (@ai _ _ _ _ _ (@dB _ _ _ _ _ _ _ _ PassesOwn.never rfl (@bD _ _ _ _ (@aS _ _ _ _ (@ae _ _ _ _ _ (pv 7) (@ae _ _ _ _ _ (pv 6) (@ae _ _ _ _ _ (@aS _ _ _ _ (@ae _ _ _ _ _ (@cA _ _ _ _ _ _ _ _ _ _ _ _ _ _ _ _ iX (hr.mono (by first|decide|omega)) rfl T.cO.m T.cO.F.kp T.cO.b .nil eA (@ae _ _ _ _ _ (pv 2) (@ag _) (@aJ _ _ _ _)) (by first |rfl |exact .inl rfl |exact .inr rfl |decide |(intro _;rfl) |assumption) (by first |rfl |exact .inl rfl |exact .inr rfl |decide |(intro _;rfl) |assumption) (by first |rfl |exact .inl rfl |exact .inr rfl |decide |(intro _;rfl) |assumption)) (@ag _) (@a7 _ _ _ _ _ _))) (@ae _ _ _ _ _ (@aS _ _ _ _ (@ag _)) (@ag _) (@lI _ _ _ _)) (@lI _ _ _ _)) (@aJ _ _ _ _)) (@aJ _ _ _ _)))) (@bC _ _ 10 _ nd rfl (zaC rfl) (by first |rfl |exact .inl rfl |exact .inr rfl |decide |(intro _;rfl) |assumption)) (@ai _ _ _ _ _ (@cJ _ _ 8 _ _ _ _ nd rfl (zaC rfl) (@bz _ _ _ _ _ _ _ _ (@fH _) (pv 8) (@aj _ _ _ _)) (by first |rfl |exact .inl rfl |exact .inr rfl |decide |(intro _;rfl) |assumption) (by first |rfl |exact .inl rfl |exact .inr rfl |decide |(intro _;rfl) |assumption)) (@ar _ _ _ (@a8 _ _ _ _ _ _ _ _ (@tm _ _ _ _ (@mM _ _ _ (@cA _ _ _ _ _ _ _ _ _ _ _ _ _ _ _ _ qr (hr.mono (by first|decide|omega)) rfl T.cT.m T.cT.F.kp T.cT.b .nil eA (@ae _ _ _ _ _ (pv 2) (@ae _ _ _ _ _ (pv 3) (@ae _ _ _ _ _ (pv 10) (@ae _ _ _ _ _ (pv 9) (@ae _ _ _ _ _ (pv 8) (@ag _) (@aJ _ _ _ _)) (@aJ _ _ _ _)) (@aJ _ _ _ _)) (@aJ _ _ _ _)) (@aJ _ _ _ _)) (by first |rfl |exact .inl rfl |exact .inr rfl |decide |(intro _;rfl) |assumption) (by first |rfl |exact .inl rfl |exact .inr rfl |decide |(intro _;rfl) |assumption) (by first |rfl |exact .inl rfl |exact .inr rfl |decide |(intro _;rfl) |assumption)) (by first |rfl |exact .inl rfl |exact .inr rfl |decide |(intro _;rfl) |assumption))) (@ar _ _ _ (@aH _ _ _ _ (@gy _ _ _ _))) (@aO _)))) (by first |rfl |exact .inl rfl |exact .inr rfl |decide |(intro _;rfl) |assumption)) (@ai _ _ _ _ _ (@cJ _ _ 10 _ _ _ _ nd rfl (zaC rfl) (pv 7) (by first |rfl |exact .inl rfl |exact .inr rfl |decide |(intro _;rfl) |assumption) (by first |rfl |exact .inl rfl |exact .inr rfl |decide |(intro _;rfl) |assumption)) (@ai _ _ _ _ _ (@dB _ _ _ _ _ _ _ _ PassesOwn.never rfl (@yf _ _ _ _ _ _ _ rfl T.lg (@ae _ _ _ _ _ (@aj _ _ _ _) (@ae _ _ _ _ _ (@bS _ _ _ _ _ _ _ _ _ (@yg _ rfl) rfl T.FT PyProof.Rows.Boot.«min» (@ae _ _ _ _ _ (@bS _ _ _ _ _ _ _ _ _ (@bO _) rfl T.jy PyProof.Rows.Boot.«len» (@ae _ _ _ _ _ (pv 0) (@ag _) (@aJ _ _ _ _)) (by first |rfl |exact .inl rfl |exact .inr rfl |decide |(intro _;rfl) |assumption) (by first |rfl |exact .inl rfl |exact .inr rfl |decide |(intro _;rfl) |assumption) (by first |rfl |exact .inl rfl |exact .inr rfl |decide |(intro _;rfl) |assumption) (by first |rfl |exact .inl rfl |exact .inr rfl |decide |(intro _;rfl) |assumption)) (@ae _ _ _ _ _ (@aj _ _ _ _) (@ag _) (@aA _ _ _ _ _)) (@a7 _ _ _ _ _ _)) (by first |rfl |exact .inl rfl |exact .inr rfl |decide |(intro _;rfl) |assumption) (by first |rfl |exact .inl rfl |exact .inr rfl |decide |(intro _;rfl) |assumption) (by first |rfl |exact .inl rfl |exact .inr rfl |decide |(intro _;rfl) |assumption) (by first |rfl |exact .inl rfl |exact .inr rfl |decide |(intro _;rfl) |assumption)) (@ag _) (@a7 _ _ _ _ _ _)) (@aA _ _ _ _ _)) (by first |rfl |exact .inl rfl |exact .inr rfl |decide |(intro _;rfl) |assumption) (by first |rfl |exact .inl rfl |exact .inr rfl |decide |(intro _;rfl) |assumption)) (@bC _ _ 11 _ nd rfl (zaC rfl) (by first |rfl |exact .inl rfl |exact .inr rfl |decide |(intro _;rfl) |assumption)) (@ai _ _ _ _ _ (@cJ _ _ 12 _ _ _ _ nd rfl (zaC rfl) (@cA _ _ _ _ _ _ _ _ _ _ _ _ _ _ _ _ iD (hr.mono (by first|decide|omega)) rfl T.dQ.m T.dQ.F.kp T.dQ.b .nil eA (@ae _ _ _ _ _ (pv 0) (@ae _ _ _ _ _ (pv 11) (@ag _) (@aJ _ _ _ _)) (@aJ _ _ _ _)) (by first |rfl |exact .inl rfl |exact .inr rfl |decide |(intro _;rfl) |assumption) (by first |rfl |exact .inl rfl |exact .inr rfl |decide |(intro _;rfl) |assumption) (by first |rfl |exact .inl rfl |exact .inr rfl |decide |(intro _;rfl) |assumption)) (by first |rfl |exact .inl rfl |exact .inr rfl |decide |(intro _;rfl) |assumption) (by first |rfl |exact .inl rfl |exact .inr rfl |decide |(intro _;rfl) |assumption)) (@ai _ _ _ _ _ (@cJ _ _ 10 _ _ _ _ nd rfl (zaC rfl) (@cA _ _ _ _ _ _ _ _ _ _ _ _ _ _ _ _ AD (hr.mono (by first|decide|omega)) rfl T.gx.m T.gx.F.kp T.gx.b .nil eA (@ae _ _ _ _ _ (pv 12) (@ae _ _ _ _ _ (@aC _ _ _ _ _ _ _ (@bJ _) (@aS _ _ _ _ (@ae _ _ _ _ _ (pv 10) (@ae _ _ _ _ _ (pv 7) (@ae _ _ _ _ _ (pv 6) (@ag _) (@aJ _ _ _ _)) (@aJ _ _ _ _)) (@aJ _ _ _ _))) (@cA _ _ _ _ _ _ _ _ _ _ _ _ _ _ _ _ aN (hr.mono (by first|decide|omega)) rfl T.aK.m T.aK.F.kp T.aK.b .nil eA (@ae _ _ _ _ _ (pv 12) (@ae _ _ _ _ _ (@aj _ _ _ _) (@ag _) (@aA _ _ _ _ _)) (@aJ _ _ _ _)) (by first |rfl |exact .inl rfl |exact .inr rfl |decide |(intro _;rfl) |assumption) (by first |rfl |exact .inl rfl |exact .inr rfl |decide |(intro _;rfl) |assumption) (by first |rfl |exact .inl rfl |exact .inr rfl |decide |(intro _;rfl) |assumption)) fK) (@ae _ _ _ _ _ (pv 6) (@ag _) (@aJ _ _ _ _)) (@aV _ _ _ _ _)) (@aJ _ _ _ _)) (by first |rfl |exact .inl rfl |exact .inr rfl |decide |(intro _;rfl) |assumption) (by first |rfl |exact .inl rfl |exact .inr rfl |decide |(intro _;rfl) |assumption) (by first |rfl |exact .inl rfl |exact .inr rfl |decide |(intro _;rfl) |assumption)) (by first |rfl |exact .inl rfl |exact .inr rfl |decide |(intro _;rfl) |assumption) (by first |rfl |exact .inl rfl |exact .inr rfl |decide |(intro _;rfl) |assumption)) (@ar _ _ _ (@a8 _ _ _ _ _ _ _ _ (@tm _ _ _ _ (@mM _ _ _ (@cA _ _ _ _ _ _ _ _ _ _ _ _ _ _ _ _ qr (hr.mono (by first|decide|omega)) rfl T.cT.m T.cT.F.kp T.cT.b .nil eA (@ae _ _ _ _ _ (pv 2) (@ae _ _ _ _ _ (pv 3) (@ae _ _ _ _ _ (pv 10) (@ae _ _ _ _ _ (pv 9) (@ae _ _ _ _ _ (@bz _ _ _ _ _ _ _ _ (@fH _) (pv 11) (pv 8)) (@ag _) (@oy _ _ _ _ _ _)) (@aJ _ _ _ _)) (@aJ _ _ _ _)) (@aJ _ _ _ _)) (@aJ _ _ _ _)) (by first |rfl |exact .inl rfl |exact .inr rfl |decide |(intro _;rfl) |assumption) (by first |rfl |exact .inl rfl |exact .inr rfl |decide |(intro _;rfl) |assumption) (by first |rfl |exact .inl rfl |exact .inr rfl |decide |(intro _;rfl) |assumption)) (by first |rfl |exact .inl rfl |exact .inr rfl |decide |(intro _;rfl) |assumption))) (@ar _ _ _ (@aH _ _ _ _ (@gy _ _ _ _))) (@aO _))))) (by first |rfl |exact .inl rfl |exact .inr rfl |decide |(intro _;rfl) |assumption)) (@ar _ _ _ (@aH _ _ _ _ (@da _ _ _ _ _ _ _ _ (NS (zJ hr)) (pv 2) (@aL _ _ _ _ _ (@ae _ _ _ _ _ (@cA _ _ _ _ _ _ _ _ _ _ _ _ _ _ _ _ nM (hr.mono (by first|decide|omega)) rfl T.cC.m T.cC.F.kp T.cC.b .nil eA (@ae _ _ _ _ _ (pv 0) (@ag _) (@aJ _ _ _ _)) (by first |rfl |exact .inl rfl |exact .inr rfl |decide |(intro _;rfl) |assumption) (by first |rfl |exact .inl rfl |exact .inr rfl |decide |(intro _;rfl) |assumption) (by first |rfl |exact .inl rfl |exact .inr rfl |decide |(intro _;rfl) |assumption)) (@ae _ _ _ _ _ (@cA _ _ _ _ _ _ _ _ _ _ _ _ _ _ _ _ uY (hr.mono (by first|decide|omega)) rfl T.dR.m T.dR.F.kp T.dR.b .nil eA (@ae _ _ _ _ _ (pv 0) (@ae _ _ _ _ _ (@cA _ _ _ _ _ _ _ _ _ _ _ _ _ _ _ _ nM (hr.mono (by first|decide|omega)) rfl T.cC.m T.cC.F.kp T.cC.b .nil eA (@ae _ _ _ _ _ (pv 0) (@ag _) (@aJ _ _ _ _)) (by first |rfl |exact .inl rfl |exact .inr rfl |decide |(intro _;rfl) |assumption) (by first |rfl |exact .inl rfl |exact .inr rfl |decide |(intro _;rfl) |assumption) (by first |rfl |exact .inl rfl |exact .inr rfl |decide |(intro _;rfl) |assumption)) (@ag _) (@a7 _ _ _ _ _ _)) (@aJ _ _ _ _)) (by first |rfl |exact .inl rfl |exact .inr rfl |decide |(intro _;rfl) |assumption) (by first |rfl |exact .inl rfl |exact .inr rfl |decide |(intro _;rfl) |assumption) (by first |rfl |exact .inl rfl |exact .inr rfl |decide |(intro _;rfl) |assumption)) (@ag _) (@a7 _ _ _ _ _ _)) (@a7 _ _ _ _ _ _))) (aM _))))))))))))))))),rfl,?_⟩;refine ak fun U0 Vt=>?_;walk_at "rd";refine⟨a,ns,rfl,hS,fun H0 s0=>⟨_,rfl,(if_neg (by decide)).mpr ((Vt _ _).mpr (ak fun U1 fe=>?_))⟩⟩;clear Vt;walk_at "rd";refine⟨a,ns,rfl,s0.seq hS,SN,fun Bx bs H1 ebs s1 hB rB bk aaw UZ=>(fe _ _).mpr (ak fun U2 fJ=>?_)⟩;clear fe;have VM:=bk.pG;have UG:=s0.trans s1;walk_at "rd";refine⟨a,Bx,ns,bs,rfl,UG.seq hS,SN,rB,VM,fun R body H2 ebd s2 hR rR zk pp CT=>(fJ _ _).mpr (ak fun U3 fk=>?_)⟩;clear fJ;have e3:=aq.new CT (.tup [V.ref Bx,V.ref R]);have y3:(upd H2 pp (.tup [V.ref Bx,V.ref R])) pp=_:=ah;have rp:Rep K (upd H2 pp (.tup [V.ref Bx,V.ref R])) (gD ⟨bs,body⟩) (.ref pp):=Rep.aX.mpr ⟨pp,_,rfl,.of y3,.cons ((rB.mono s2).mono e3) (.cons (rR.mono e3) .nil)⟩;have s3:=UG.trans (s2.trans e3);have SO:=rR.mono e3;generalize upd H2 pp (.tup [V.ref Bx,V.ref R])=H3 at *;have rise:(av body).Pairwise (fun a b=>a.row<b.row):=zbf.mp zk.rise;have RY:(av body).length<=25:=by
  have:=wK zk.rise zk.rows;unfold c8 at this;rw[zac] at this;lia
 have Y3:(cU body).length=(av body).length:=by rw[<- eJ,zac]
 have ok:xF ⟨bs,body⟩:=⟨rise,bk.nb,by show bs.length<=10;lia,fun st A7=>by
  have:=(zk.rows st.row (zau.mpr ⟨st,A7,rfl⟩)).1;lia⟩
 have dr:fW ⟨bs,body⟩:=⟨ok,zk.dep,by show (cU body).length<=1000;lia,zk.ok,bk.size⟩
 have many:bR ⟨bs,body⟩<2000:=by
  unfold bR;rw[Kt];have l1:(BL ⟨bs,body⟩).length<=25:=by unfold BL;rw[zac];exact RY
  have l2:(iH (cN ⟨bs,body⟩)).length<=16:=UZ;have:=zcC (show (BL ⟨bs,body⟩).length+1<=26 by lia) l2;lia
 have aax:(iH (cN (PG.Prog.mk bs body))).length<=16:=UZ;have VN:(av (PG.Prog.mk bs body).body).length<=25:=RY;have epr:PG.Prog.mk bs body=⟨K2 ns,K1 (K2 ns) ns 17⟩:=by rw[ebd,ebs]
 have SO:Rep K H3 (.lst ((PG.Prog.mk bs body).body.map dO)) (.ref R):=SO;have RZ:(cU (PG.Prog.mk bs body).body).length<=1000:=by show (cU body).length<=1000;lia
 clear rise zk bk rB rR RY Y3 VM s1 s2 hB hR CT UZ ebd ebs e3 aaw ok;generalize PG.Prog.mk bs body=pr at *;walk_at "rd";intro D hD;have e4:=aq.new hD (.dK []);have y4:(upd H3 D (.dK [])) D=some (.dK []):=ah;have rp4:=rp.mono e4;generalize hH4:upd H3 D (.dK [])=H4 at *;refine(fk _ _).mpr (ak fun U4 jJ=>?_);clear fk;walk_at "rd";refine⟨.ref pp,pr,rfl,rp4,dr.dep,RZ,fun F fs H5 s5 hF yF rF=>?_⟩;have e5:=e4.trans s5;refine⟨F,rfl,⟨_,.of yF⟩,fun D1 WG=>?_⟩;have lF:fs.length=(aP pr.body 0).length:=by rw[rF.length,zac]
 have lB:(aP pr.body 0).length=(av pr.body).length:=by
  have:=congrArg zaV (cZ pr.body 0);rw[zac,<- eJ,zac] at this;exact this
 generalize Ss:aP pr.body 0=fl at *;refine tY (K:=K) (fun τ=>∃x y z,τ=[x,y,z]) (fun i ys H2=>∃ps:List (zdg×Key×V),ys=ps.map (fun q=>V.ref q.1)/\Paired (yW K H2) (fl.take i) ps) (.of yF) (by lia) WG ⟨none,none,none,rfl⟩ ⟨[],rfl,.nil⟩ ?_ ?_
 ·rintro i x ys τ H2 hx ⟨x0,x1,x2,rfl⟩ s2 y2 ly ⟨ps,rfl,pw⟩ R hR
  obtain⟨r,hr1,rr⟩:=zL rF hx;obtain⟨ta,y,rfl,ht,hy⟩:=Lu rr;walk_at "rd";refine⟨ta,[V.int r.1,V.str (lT r.2.1),V.ref y],rfl,s2.aZ ht,rfl,?_⟩;refine⟨_,_,rfl,_,_,rfl,_,_,rfl,rfl,fun p hp=>hR _ _ _ ⟨_,_,_,rfl⟩ (aq.new hp _) ⟨ps++[(p,.inl r.1,.ref y)],by rw[zas];rfl,?_⟩⟩;have u:∀b xs,b8 K H2 b xs->b8 K (upd (upd H2 p (.tup [V.int r.1,V.ref y])) D1 (.lst (ps.map (fun q=>V.ref q.1)++[V.ref p]))) b xs:=fun b xs h=>((aq.new hp _).aZ h).pR (aq.new hp _ _ _ y2) ((bo.refl _ _).put _);rw[zbl,hr1];refine Paired.snoc (Paired.uZ pw fun _ _ h=>h.GP u) ⟨rfl,?_,y,rfl,u _ _ (s2.aZ hy)⟩;have nD:p≠D1:=fun z=>by rw[z,y2] at hp;cases hp
  refine .of ?_;rw[aw nD];exact ah
 ·intro ys H6 s6 RC ly hp;obtain⟨ps,rfl,pw⟩:=hp;rw[lF,zaH] at pw;have WS:ps.length=fl.length:=pw.length.symm;have kn:((ps.map fun q=>(q.2.1,q.2.2)).map (·.1)).Nodup:=by rw[Cg pw,<- Ss];exact qV dr.ok.pw
  refine⟨D1,ps,rfl,.of RC,fun q hq=>?_,by lia,fun W hW=>?_⟩
  ·obtain⟨j,hj,rfl⟩:=zbb.mp hq;obtain⟨_,_,h⟩:=dD pw (zad hj);exact h.2.1
  rw[nJ kn];have yD6:H6 D=some (.dK []):=s6 _ _ (s5 _ _ y4);have nWD:W≠D:=fun z=>by rw[z,yD6] at hW;cases hW
  have s7:=aq.new hW (.dK (ps.map fun q=>(q.2.1,q.2.2)));have yW7:(upd H6 W (.dK (ps.map fun q=>(q.2.1,q.2.2)))) W=_:=ah;have wv:∀(i:Nat) (r:cB),fl[i]?=some r->∃y,cE (ps.map fun q=>(q.2.1,q.2.2)) (.inl r.1)=some (.ref y)/\b8 K (upd H6 W (.dK (ps.map fun q=>(q.2.1,q.2.2)))) y (r.2.2.map V.int):=fun i r e=>by
   obtain⟨y,h1,h2⟩:=FN pw (by rw[<- Ss];exact qV dr.ok.pw) e;exact⟨y,h1,s7.aZ h2⟩
  have e7:=e5.trans (s6.trans s7);have yD7:=s7 _ _ yD6;clear pw kn RC ly s6 hW yD6;generalize upd H6 W (.dK (ps.map fun q=>(q.2.1,q.2.2)))=H7 at *;refine(jJ _ _).mpr (ak fun U5 rn=>?_);clear jJ;refine dN fun U hU=>?_;walk_at "rd";have y37:=e7 _ _ y3;refine ay (.of y37) (v:=.ref R) (au (j:=1) rfl) ?_;refine⟨R,pr.body,H3,rfl,e7,SO,by have:=dr.dep;lia,RZ,fun L us H8 s8 hL yL rL=>⟨L,rfl,⟨_,.of yL⟩,hU _ _ ?_⟩⟩;clear hU;have yD8:=s8 _ _ yD7;have hDn:H3 D=none:=hD;have e8:=e7.trans s8;have f8:aq H3 (wo H8 D):=fun b o e=>by rw[cV (fun z=>by rw[z,hDn] at e;cases e)];exact e8 _ _ e
  have rLw:=rL.mono f8;have yWw:(wo H8 D) W=some (.dK (ps.map fun q=>(q.2.1,q.2.2))):=by rw[cV nWD];exact s8 _ _ yW7
  have yLw:(wo H8 D) L=some (.lst us):=by
   rw[cV]
   ·exact yL
   ·intro z;rw[z,yD7] at hL;cases hL
  have wvw:∀(i:Nat) (r:cB),fl[i]?=some r->∃y,cE (ps.map fun q=>(q.2.1,q.2.2)) (.inl r.1)=some (.ref y)/\b8 K (wo H8 D) y (r.2.2.map V.int):=fun i r e=>by
   obtain⟨y,h1,h2⟩:=wv i r e;exact⟨y,h1,(s8.aZ h2).woK yD8⟩
  have mm:us.length=(av pr.body).length:=by rw[rL.length,zac]
  clear wv rL yL hL s8 yW7 yD7 e7 e5 s5 y4 e4 rF yF hF;generalize hkw:(ps.map fun q=>(q.2.1,q.2.2))=wk at *;generalize A7:av pr.body=gS at *;have CS:∀(i:Nat) (h:i<gS.length) (h':i<fl.length),fl[i].1=gS[i].row:=by
   subst A7;subst Ss;intro i h h';obtain⟨_,e,_⟩:=jj pr.body i h;exact e
  have rpw:gS.Pairwise fun a b=>a.row<b.row:=by rw[<- A7];exact dr.ok.pw
  have rnd:(gS.map (·.row)).Nodup:=by
   rw[<- A7];exact List.Pairwise.imp (fun h=>by intro z;lia) (zbf.mpr dr.ok.pw)
  obtain⟨Pv,iE⟩:∃Pv:Nat->St->Hp->Prop,∀i σ Hx,Pv i σ Hx↔∃(z5:Option V) (kvs:List (Int×V)),σ=[some (V.ref a),some (V.ref Bx),some (V.ref pp),some (V.ref D),some (V.ref W),z5,none,none,none,none,none,none,none]/\aq (wo H8 D) (wo Hx D)/\Hx D=some (.dK (kvs.map kI))/\kvs.map (·.1)=(gS.take i).map (·.row)/\∀j (hj:j<gS.length) (hf:j<fl.length),j<i->∃c ta y,cE (kvs.map kI) (.inl gS[j].row)=some (.ref c)/\b8 K (wo Hx D) c [.ref ta,.ref y]/\Rep K (wo Hx D) (dO gS[j]) (.ref ta)/\b8 K (wo Hx D) y (fl[j].2.2.map V.int):=⟨_,fun _ _ _=>Iff.rfl⟩
  refine dH (K:=K) (a:=L) (xs:=us) Pv ((iE _ _ _).mpr ⟨none,[],rfl,aq.refl _,yD8,rfl,fun j _ _ h=>by lia⟩) (fun i σ Hx hi hv=>?_) ?_ ?_
  ·obtain⟨_,_,_,h,_⟩:=(iE _ _ _).mp hv;exact .of (fO _ _ (h _ _ yLw))
  ·intro i v σ Hx hx hv;obtain⟨z5,kvs,rfl,sx,Xt,kk,kf⟩:=(iE _ _ _).mp hv;clear hv;obtain⟨st,Ib,rst⟩:=zL rLw hx;simp only[eT,za4];walk_at "rd";obtain⟨ta,ys,rfl,hta⟩:=fw st rst;have li:i<gS.length:=(zak.mp Ib).1;have lf:i<fl.length:=by lia
   have Sr:gS[i]=st:=(zak.mp Ib).2;obtain⟨y,hyv,hy⟩:=wvw i fl[i] (zad lf);have er:=CS i li lf;rw[Sr] at er;rw[er] at hyv;have htx:b8 K Hx ta (.str (lT st.wd) :: .int st.row::ys):=fO.aZ (sx.aZ hta);refine ay htx (v:=.int st.row) (au (j:=1) rfl) ?_;refine⟨W,.ref y,rfl,.inl ⟨_,.inl st.row,.of (fO _ _ (sx _ _ yWw)),rfl,hyv.symm⟩,fun p hp=>?_⟩;have n1:=aq.new hp (.tup [V.ref ta,V.ref y]);have y9:(upd Hx p (.tup [V.ref ta,V.ref y])) p=_:=ah;have yD9:=n1 _ _ Xt;have w9:=vG (D:=D) n1;generalize upd Hx p (.tup [V.ref ta,V.ref y])=H9 at *;refine ay (n1.aZ htx) (v:=.int st.row) (au (j:=1) rfl) ?_;have K7:¬st.row∈kvs.map (·.1):=by
    rw[kk];intro z;have e2:=rnd;rw[<- zbp i gS,zas,zbm] at e2;refine e2.2.2 _ z _ (zau.mpr ⟨st,?_,rfl⟩) rfl;rw[<- Sr];exact List.mem_drop_iff_getElem.mpr ⟨0,by lia,by simp⟩
   have lk:kvs.length<=i:=by
    have:=congrArg zaV kk;rw[zac,zac,zbh] at this;lia
   refine⟨D,_,rfl,.inl ⟨_,.inl st.row,yD9,rfl,by rw[zac];lia,rfl⟩,(iE _ _ _).mpr ⟨_,kvs++[(st.row,.ref p)],rfl,?_,?_,?_,?_⟩⟩
   ·rw[lJ];exact sx.trans w9
   ·rw[ah,Lv K7]
   ·rw[zas,kk,zbl,Ib,zas];rfl
   ·intro j hj hf ji;rw[<- Lv K7,v8,lJ];by_cases z:j=i
    ·subst z;rw[Sr];exact⟨p,ta,y,if_pos rfl,b8.woK (.of y9) yD9,rst.mono (sx.trans w9),(sx.trans w9).aZ hy⟩
    ·obtain⟨c,ta',y',h1,h2,h3,h4⟩:=kf j hj hf (by lia);refine⟨c,ta',y',?_,w9.aZ h2,h3.mono w9,w9.aZ h4⟩;rw[if_neg,h1];intro e;have e:=Sum.inl.inj e;have:=(zbH.mp rpw) j i hj li (by lia);rw[Sr] at this;lia
  ·intro σ Hx hv;obtain⟨z5,kvs,rfl,sx,Xt,kk,kf⟩:=(iE _ _ _).mp hv;clear hv iE;rw[mm,zaH] at kk;rw[mm] at kf;have ls:vm K Hx D pr:=⟨kvs,Xt,by rw[A7];exact kk,by
    rw[A7,Ss];intro i hi hf;obtain⟨c,ta,y,h1,h2,h3,h4⟩:=kf i hi hf hi;exact⟨c,ta,y,h1,fO.aZ h2,h3.mono fO,fO.aZ h4⟩⟩
   have f9:aq H3 Hx:=f8.trans (sx.trans fO);clear kk kf Xt sx f8 yLw yWw wvw rLw hkw rnd rpw CS yD8 hDn hD;subst A7;refine(rn _ _).mpr (ak fun U6 Ao=>?_);clear rn;walk_at "rd";refine⟨.ref pp,D,pr,rfl,rp.mono f9,dr,ls,VN,aax,fun Wh ws Xu HA sA _ yWh wst OZ aaB=>(Ao _ _).mpr (ak fun U7 Iw=>?_)⟩;clear Ao;walk_at "rd";have R0:HA Pt=some (.uv #[]):=sA _ _ (f9 _ _ (s3 _ _ Ir));refine⟨.ref pp,pr, #[],rfl,(rp.mono f9).mono sA,dr,many,R0,?_,fun Le mm HB psB uB _ yLe lst VO aaC=>(Iw _ _).mpr (ak fun U8 Vf=>?_)⟩
   ·exact .inl rfl
   clear Iw;have kB:Kp HA HB:=Kp.of uB R0;walk_at "rd";have sHA:=s3.trans (f9.trans sA);refine⟨_,rfl,a,_,rfl,(sHA.seq hS).kp kB,fun p hp=>?_⟩;have nB:=aq.new hp (.lst (iF (ns.map V.int) none (some 1)));have yp:(upd HB p (.lst (iF (ns.map V.int) none (some 1)))) p=_:=ah;obtain⟨ms,ems⟩:∃ms:List Int,iF (ns.map V.int) none (some 1)=ms.map V.int:=by
    unfold iF;rw[<- List.map_drop,<- List.map_take];exact⟨_,rfl⟩
   rw[ems] at yp nB ⊢;refine⟨p,ms,rfl,.of yp,(Vf _ _).mpr (ak fun U9 hU9=>?_)⟩;clear Vf;generalize ms.sum=turn;have Xb:=(((ls.mono sA).kp kB).mono nB)
   have rp8:=(DO kB _ _ ((rp.mono f9).mono sA)).mono nB;have hS8:=nB.seq ((sHA.seq hS).kp kB);have Xv:=KR dr;have aaF:(lK pr (oJ pr)).length<=bR pr:=by
    have:=mf Xv.nd (fun x hx=>by obtain⟨y,hy,rfl⟩:=zau.mp hx;exact Xv.pS y hy)
    rwa [zac] at this
   have ple:mw K (upd HB p (.lst (ms.map V.int))) Le pr ((lK pr (oJ pr)).map (·.1)) mm:=⟨.of (nB _ _ yLe),lst.mono nB,fun x hx=>by obtain⟨y,hy,rfl⟩:=zau.mp hx;exact Xv.pS y hy,by rw[zac];lia⟩
   have SQ:mw K (upd HB p (.lst (ms.map V.int))) Wh pr ws Xu:=(mw.kp ⟨.of yWh,wst,fun x hx=>(OZ x).mp hx,by lia⟩ kB).mono nB;have lle:((lK pr (oJ pr)).map (·.1)).length<=2000:=by rw[zac];lia
   have agF:=nB _ _ VO;clear aaC uB kB nB yp hp ems ls yLe lst VO yWh wst sA f9 R0 sHA Xv aaF hS Ir s3 SO y3;generalize (lK pr (oJ pr)).map (·.1)=les at *;generalize upd HB p (.lst (ms.map V.int))=HC at *;walk_at "rd";simp only[fg];walk_at "rd";refine⟨⟨_,SQ.at_⟩,fun D2 Iu=>?_⟩;have aaG:Xu.length=ws.length:=(Paired.length SQ.gS).symm;refine tY (K:=K) (fun τ=>∃x,τ=[x,some (V.ref pp),some (V.ref D)]) (fun i ys H2=>∃ps:List (zdg×jA×zdg×V),ys=ps.map (fun q=>V.ref q.1)/\Paired (Sj K D2 H2 pr) (ws.take i) ps) SQ.at_ (by lia) Iu ⟨none,rfl⟩ ⟨[],rfl,.nil⟩ ?_ ?_
   ·rintro i x ys τ H2 hx ⟨x0,rfl⟩ s2 y2 ly ⟨ps,rfl,pw⟩ R hR
    obtain⟨sa,b,e1,rfl,hb⟩:=SQ.gS.get hx;simp only[eT,za4];walk_at "rd";refine⟨.ref pp,D,b,pr,sa,rfl,rp8.mono s2,dr,Xb.mono s2,hb.mono s2,(OZ _).mp (zaz e1),fun lb us H4 s4 nlb ylb slb p hp=>?_⟩;have n5:=aq.new hp (.tup [V.ref b,V.ref lb]);have y5:(upd H4 p (.tup [V.ref b,V.ref lb])) p=_:=ah;have nD:lb≠D2:=fun z=>by rw[z,y2] at nlb;cases nlb
    have y25:=n5 _ _ (s4 _ _ y2);have s25:=s4.trans n5;have Oq:=(hb.mono s2).mono s25;have aaI:=slb.mono n5;have aaJ:=n5 _ _ ylb;refine hR _ _ _ ⟨_,rfl⟩ s25 ⟨ps++[(p,fX sa,b,.ref lb)],by rw[zas];rfl,?_⟩;generalize upd H4 p (.tup [V.ref b,V.ref lb])=H5 at *;rw[zbl,e1];refine Paired.snoc (Paired.uZ pw fun _ _ h=>h.GP ((bo.of s25).put _) y2) (Sj.GP ⟨rfl,.of y5,Oq,lb,us,rfl,nD,aaJ,aaI⟩ ((bo.refl _ _).put _) y25)
   intro ys H2 s2 y2 ly hp;obtain⟨ps,rfl,pw⟩:=hp;rw[aaG,zaH] at pw;have WS:ps.length=ws.length:=pw.length.symm;refine⟨D2,ps,rfl,.of y2,fun q hq=>?_,by lia,fun Bh HD hBh ⟨φ,eD⟩ dBh=>(hU9 _ _).mpr (ak fun U10 VP=>?_)⟩
   ·obtain⟨j,hj,rfl⟩:=zbb.mp hq;obtain⟨z,_,g⟩:=dD pw (zad hj);refine⟨g.2.1,?_⟩;rw[g.1];exact pZ g.2.2.1
   clear hU9;have nD:aq H2 HD:=eD▸aq.new hBh _;have bh:=UH pw nD OZ dBh;have s9:=s2.trans nD;have ls9:=Xb.mono s9;have rp9:=rp8.mono s9;have hS9:=s9.seq hS8;have R1:=ple.mono s9;have R4:=SQ.mono s9;clear pw nD s2 y2 ly WS dBh eD φ hBh Xb rp8 hS8 ple SQ s9;refine dN fun U hU=>?_;walk_at "rd";refine⟨.ref pp,pr,rfl,rp9,dr.dep,RZ,dr.ok,fun fa HE sE fst p1 yU p2 wb p3 qd=>?_⟩;have m1:=aq.new yU (.lst [V.ref fa]);have z1:(upd HE p1 (.lst [V.ref fa])) p1=_:=ah;have VQ:=fst.mono m1;generalize upd HE p1 (.lst [V.ref fa])=HE1 at *;have m2:=aq.new wb (.lst []);have z2:(upd HE1 p2 (.lst [])) p2=_:=ah;have SR:=m2 _ _ z1;have VR:=VQ.mono m2;generalize upd HE1 p2 (.lst [])=HE2 at *;have m3:=aq.new qd (.lst [V.ref Le,V.ref Wh,V.ref p1,V.ref p2]);have z3:(upd HE2 p3 (.lst [V.ref Le,V.ref Wh,V.ref p1,V.ref p2])) p3=_:=ah;have z13:=m3 _ _ SR;have z23:=m3 _ _ z2;have VS:=VR.mono m3;generalize upd HE2 p3 (.lst [V.ref Le,V.ref Wh,V.ref p1,V.ref p2])=HF at *;have sF:=sE.trans (m1.trans (m2.trans m3));have L5:∀v∈[V.ref Le,V.ref Wh,V.ref p1,V.ref p2],∃pa l us,v=.ref pa/\mw K HF pa pr l us:=by
    intro v hv;simp only[zag,zco,or_false] at hv;rcases hv with rfl |rfl |rfl |rfl
    ·exact⟨_,_,_,rfl,R1.mono sF⟩
    ·exact⟨_,_,_,rfl,R4.mono sF⟩
    ·exact⟨_,[oJ pr],_,rfl,.of z13,.cons ⟨fa,rfl,VS⟩ .nil,fun s hs=>by cases zap.mp hs;exact cR.first dr,by simp⟩
    ·exact⟨_,[],_,rfl,⟨.of z23,.nil,fun s hs=>absurd hs zco,za2 _⟩⟩
   have lsF:=ls9.mono sF;have rpF:=rp9.mono sF;have hSF:=sF.seq hS9;have VT:=R1.mono sF;have VU:=R4.mono sF;have bhF:=bh.mono sF;clear ls9 rp9 hS9 R1 R4 bh sF sE m1 m2 m3 z1 z2 SR z13 z23 fst VQ VR VS yU wb qd;refine⟨⟨_,.of z3⟩,hU _ _ ?_⟩;clear hU;obtain⟨Pv,iE⟩:∃Pv:Nat->St->Hp->Prop,∀i σ Hx,Pv i σ Hx↔∃(turn:Int) (qM:Option V),σ=[some (V.ref a),some (V.ref Bx),some (V.ref pp),some (V.ref D),some (V.ref W),z5,some (V.ref Wh),some (V.ref Le),some (V.int turn),some (V.ref Bh),qM,none,none]/\aq HF Hx:=⟨_,fun _ _ _=>Iff.rfl⟩
   refine dH (K:=K) (a:=p3) (xs:=[V.ref Le,V.ref Wh,V.ref p1,V.ref p2]) Pv ((iE _ _ _).mpr ⟨_,_,rfl,aq.refl _⟩) (fun i σ Hx hi hv=>?_) ?_ ?_
   ·obtain⟨_,_,_,h⟩:=(iE _ _ _).mp hv;exact .of (h _ _ z3)
   ·intro i v σ Hx hx hv;obtain⟨turn,qM,rfl,sx⟩:=(iE _ _ _).mp hv;obtain⟨pa,l,us,rfl,pa1⟩:=L5 v (zaz hx);simp only[eT,za4];refine ak fun V1 xn=>?_;walk_at "rd";refine(xn _ _).mpr ?_;clear xn;walk_at "rd";refine⟨.ref pp,D,pa,Bh,_,pr,l,us,rfl,rpF.mono sx,dr,lsF.mono sx,pa1.mono sx,bhF.mono sx,fun Hy sy=>⟨_,rfl,(if_neg (by decide)).mpr ((iE _ _ _).mpr ⟨_,_,rfl,sx.trans sy⟩)⟩⟩
   intro σ Hx hv;obtain⟨turn,qM,rfl,sx⟩:=(iE _ _ _).mp hv;clear hv iE;refine(VP _ _).mpr (ak fun U11 VW=>?_);clear VP;walk_at "rd";refine(VW _ _).mpr (ak fun U12 VX=>?_);clear VW;have lsG:=lsF.mono sx;have rpG:=rpF.mono sx;have VY:=sx.seq hSF;have VZ:=VT.mono sx;have V0:=VU.mono sx;have bhG:=bhF.mono sx;clear lsF rpF hSF VT VU bhF sx L5 z3;generalize Hx=HG at *;refine BW fun U hU=>?_;walk_at "rd";refine⟨a,_,rfl,.inl VY,_,_,rfl,_,_,rfl,⟨by decide,by decide,?_,?_⟩,hU _ _ _ ?_⟩
   ·rw[zac];split<;>lia
   ·rw[zac];split<;>lia
   clear hU;obtain⟨n,hn,n8,nle⟩:∃n:Nat,((if (25:Int)<((ns.map V.int).length:Int) then (25:Int) else ((ns.map V.int).length:Int))-17).toNat=n/\n<=8/\n+17<=63:=⟨_,rfl,by split<;>lia,by split<;>lia⟩
   rw[hn];obtain⟨Iv,Aw⟩:∃Iv:Nat->St->Hp->Prop,∀i σ Hx,Iv i σ Hx↔∃(pa:zdg) (l:List bH) (us:List V) (En SR:Option V),σ=[some (V.ref a),some (V.ref Bx),some (V.ref pp),some (V.ref D),some (V.ref W),z5,some (V.ref Wh),some (V.ref Le),some (V.int turn),some (V.ref Bh),some (V.ref pa),En,SR]/\aq HG Hx/\mw K Hx pa pr l us/\l.length+1000<=3000*2 ^ i:=⟨_,fun _ _ _=>Iff.rfl⟩
   refine tE (lo:=17) (n:=n) Iv ((Aw _ _ _).mpr ⟨_,_,_,_,_,rfl,aq.refl _,VZ,by lia⟩) (fun i σ Hx hi hv=>?_) (fun σ Hx hv=>?_)
   ·obtain⟨pa,l,us,En,SR,rfl,sx,pax,lx⟩:=(Aw _ _ _).mp hv;clear hv;have l7:(3000:Nat)*2 ^ i<=384000:=by
     have:=za3 (show 0<2 by decide) (show i<=7 by lia);lia
    refine ak fun V1 xn=>?_;walk_at "rd";refine⟨a,ns,i+17,by rw[show (17:Int)+i=((i+17:Nat):Int) by lia],sx.seq VY,SN,by lia,fun st H1 s1 f1 Ib=>(xn _ _).mpr (ak fun V2 CV=>?_)⟩;clear xn;walk_at "rd";intro p hp;have n1:=aq.new hp (.lst [V.ref pa,V.ref Le,V.ref Wh]);have y1:(upd H1 p (.lst [V.ref pa,V.ref Le,V.ref Wh])) p=_:=ah;have np:=Ib.ne hp;have aaO:=Ib.same n1;have s2:=s1.trans n1;generalize upd H1 p (.lst [V.ref pa,V.ref Le,V.ref Wh])=H2 at *;refine⟨st,3,_,rfl,aaO,by decide,by decide,fun x3 z3 H3 q3 a3 b3 u3 uK=>?_⟩;have Iz:aq Hx H3:=((bo.of s2).trans u3).same f1;have w03:aq Hx (wo H3 st):=fun b o e=>by rw[cV (fun z=>by rw[z,f1] at e;cases e)];exact Iz _ _ e
    obtain⟨pc,lc,uc,ec,pc1,lc1⟩:∃pc lc uc,tK [V.ref pa,V.ref Le,V.ref Wh] x3=some (.ref pc)/\mw K Hx pc pr lc uc/\lc.length+1000<=3000*2 ^ i:=by
     have:1<=2 ^ i:=Nat.one_le_two_pow;obtain rfl |rfl |rfl:x3=0\/x3=1\/x3=2:=by lia
     ·exact⟨pa,l,us,rfl,pax,lx⟩
     ·exact⟨Le,les,mm,rfl,VZ.mono sx,by lia⟩
     ·exact⟨Wh,ws,Xu,rfl,V0.mono sx,by lia⟩
    refine bZ (.of (u3 _ _ (by first |exact np |exact Ne.symm np) y1)) ec ?_;have zK:ws≠[]:=fun z=>by
     have:=(OZ _).mpr (cR.first dr);rw[z] at this;cases this
    refine⟨st,pc,Wh,z3,pr,lc,ws,uc,Xu,rfl,uK,pc1.mono w03,(V0.mono sx).mono w03,zK,aaB,by lia,fun b l' pI H4 u4 pb lb=>(CV _ _).mpr ?_⟩;clear CV;have s04:aq Hx H4:=(((bo.of s2).trans u3).trans u4).same f1;have Xw:=sx.trans s04;have pb4:=pb.mono fO;walk_at "rd";refine⟨.ref pp,D,b,Bh,_,pr,l',pI,rfl,rpG.mono Xw,dr,lsG.mono Xw,pb4,bhG.mono Xw,fun Hy sy=>⟨_,rfl,(if_neg (by decide)).mpr ((Aw _ _ _).mpr ⟨_,_,_,_,_,rfl,Xw.trans sy,pb4.mono sy,by rw[Nat.pow_succ];lia⟩)⟩⟩
   obtain⟨pa,l,us,En,SR,rfl,sx,pax,lx⟩:=(Aw _ _ _).mp hv;clear hv Aw;refine(VX _ _).mpr ?_;clear VX;walk_at "rd";refine⟨a,ns,rfl,sx.seq VY,SN,fun B1 b1 J1 eb1 j1 _ rB1 _ _ _=>?_⟩;have Xd:=sx.trans j1;refine⟨a,ns,rfl,Xd.seq VY,SN,fun B2 b2 J2 eb2 j2 _ rB2 bk2 _ _=>?_⟩;have sx2:=Xd.trans j2;refine⟨a,B2,ns,b2,rfl,sx2.seq VY,SN,rB2,bk2.pG,fun R3 adz J3 aaP j3 _ SO _ p hp=>?_⟩;have j4:=aq.new hp (.tup [V.ref B1,V.ref R3]);have y4:(upd J3 p (.tup [V.ref B1,V.ref R3])) p=_:=ah;refine⟨[.lst (pr.ax.map iJ),.lst (pr.body.map dO)],rpG.mono (sx2.trans (j3.trans j4)),?_,NT dr,q _⟩;subst eb1;subst eb2;rw[epr,<- aaP];exact Rep.aX.mpr ⟨p,_,rfl,.of y4,.cons (((rB1.mono j2).mono j3).mono j4) (.cons (SO.mono j4) .nil)⟩
end
end Rk
end
section
set_option maxHeartbeats 4000000
namespace Rk
open PG
open PySem L2
section
variable{P:zds}{w:zdi}{K:zaa}{mg:Str->Option zdh}{base:Heap}
theorem all_mk{l:PySem.W.OpenLaw}{h:Heap}{fa:zdg}(X:K.In h)(G:h.Ns zdn mg)(hfa:mg "law"=some (.ref fa))
 {lO du bT fB ka fZ bE nh mD kG kH sT eM mE dv ig mF jm ij bU ik fC eO jn il ip jo oZ iq jq gV eY kJ jr gH jt iw iy gI ju FP:zdg}
 {aQ:zdg}
 {df:zdg} {xU qt:Option zdg} {xV:Array (Option zdh)} {xW qu qv qw lS qx:zdh}
 {dZ:zdg}
 {fE:zdg}
 {Wa:_}
 {xv:_}
 {xX:_}
 (R5:FH K "flow" Eb lO)
 (xw:FH K "flow_of_body" kA du)
 (CB:FH K "first_row" oM bT)
 (xY:FH K "behind_body" lL fB)
 (Ic:FH K "ways_of" ue ka)
 (CD:FH K "bodies_in" oN fZ)
 (vt:FH K "statements_in" jC bE)
 (Oy:FH K "worth" Aj nh)
 (Ie:FH K "word_at" uf mD)
 (Ep:FH K "by_names" qR kG)
 (Er:FH K "in_order" qS kH)
 (Oz:FH K "holds" Ak sT)
 (uq:FH K "first_standing" iU eM)
 (Ig:FH K "step_by" uh mE)
 (rh:FH K "behind_condition" gU dv)
 (AE:FH K "all_led_to" mY ig)
 (Ih:FH K "targets" ui mF)
 (CF:FH K "standings" oO jm)
 (AF:FH K "targets_at" mZ ij)
 (pd:FH K "first_inputs" aT bU)
 (AG:FH K "found_from" m4 ik)
 (Ii:FH K "gone_on" hC fC)
 (ur:FH K "standings_show" iV eO)
 (CG:FH K "_law_take" oP jn)
 (AH:FH K "_law_state" m5 il)
 (AI:FH K "_law_boxes" m6 ip)
 (CH:FH K "_law_leaf" oQ jo)
 (L6:FH K "_law_e" wW oZ)
 (AJ:FH K "_law_plain" m7 iq)
 (CI:FH K "_law_body" oR jq)
 (Es:FH K "_law_all" qT gV)
 (AK:FH K "_law_worth" m8 eY)
 (Et:FH K "_law_met" qU kJ)
 (CJ:FH K "_law_step" oT jr)
 (xZ:FH K "_law_behind" lM gH)
 (CK:FH K "_law_shut" oU jt)
 (AL:FH K "_law_every" m9 iw)
 (AM:FH K "_law_other" ng iy)
 (x8:FH K "_law_looked" lN gI)
 (CL:FH K "_law_door" oV ju)
 (Px:FH K "law" Lw FP)
 (OA:zaJ K zdn "Chart"=some (some (.ref aQ)))
 (L7:zcr K aQ Str.empty=true)
 (L8:zcg K aQ=true)
 (Ma:zcJ K aQ=true)
 (Mb:zaU K (.ref aQ) "__setattr__"=some (some (.builtin "object.__setattr__")))
 (AN:zaU K (.ref aQ) "__init__"=some (some (.ref df)))
 (AO:K.lookup df=some ⟨xW,xU,.func (zbw "__init__" "Chart.__init__" (kO de) (gJ de) (aE de) .none qu qv qw qt lS qx),xV⟩)
 (AQ:zcd K lS "Chart.__init__"=true)
 (AR:zbB K (.ref df)=true)
 (AS:PySem.W.isFn K (.ref df)=true)
 (o8:zcV K aQ=true)
 (Mc:zbB K (.ref aQ)=true)
 (gg:zaU K (.ref aQ) "names"=some none)
 (gh:zaU K (.ref aQ) "sizes"=some none)
 (eQ:zaU K (.ref aQ) "first"=some none)
 (cH:zaU K (.ref aQ) "statements"=some none)
 (fG:zaU K (.ref aQ) "ways"=some none)
 (Eu:zaJ K zdn "RowError"=some (some (.ref dZ)))
 (xf:zdd K dZ [.type "ValueError",.type "Exception",.type "BaseException",.type "object"] "ValueError.__new__"=true)
 (uU:zcD K (.ref dZ) (.ref dZ)=some true)
 (Ij:zaJ K zdn "TooMany"=some (some (.ref fE)))
 (yY:zdd K fE [.type "ValueError",.type "Exception",.type "BaseException",.type "object"] "ValueError.__new__"=true)
 (xg:zcD K (.ref fE) (.ref fE)=some true)
 (Wb:zaJ K zdn "END"=some (some (.int 0 Wa)))
 (xx:zaJ K zdn "FIGURE_COUNT"=some (some (.int 10 xv)))
 (yc:zaJ K zdn "MOST_PLACES"=some (some (.int 2000 xX)))
 (jy:zaJ K zdn "len"=some none)
 (lg:zaJ K zdn "range"=some none)
 (uV:zaJ K zdn "int"=some none)
 (Ec:zaJ K zdn "bool"=some none)
 (jD:zaJ K zdn "dict"=some none)
 (Am:zaJ K zdn "list"=some none)
 (sV:zaJ K zdn "tuple"=some none)
 (FR:zaJ K zdn "sum"=some none)
 (Ly:zaJ K zdn "all"=some none)
 (FT:zaJ K zdn "min"=some none)
 (nI:zaJ K zdn "isinstance"=some none)
 (lh:zaJ K zdn "enumerate"=some none)
 (Cm:zaJ K zdn "zip"=some none)
 (xi:zaJ K zdn "sorted"=some none)
 (Lz:zaJ K zdn "abs"=some none)
 (sW:zaJ K zdn "ValueError"=some none)
 {c Pt:zdg} (KL:zcl K "first_inputs"=some (c,Pt)):∃fd:zdp,(∀(s:zdq) (v:zdh),BindsTo s fd ⟨[v],[]⟩ [("script",v)])/\∀base:Heap,K.In base->base.Ns zdn mg->jM K mg base c Pt->bB l.prog w K mg base dc 30 fa fd ["script"] (z0 K Pt):=by
 have e:=hfa.symm.trans (zbF X G Px.1);cases e;obtain⟨jP,o5⟩:=me X G R5 (ps:=["program"]) fun _ _ _ _ _ _=>Ku fun _=>rfl;obtain⟨dE,gb⟩:=me X G xw (ps:=["body", "behind"]) fun _ _ _ _ _ _=>xG fun _ _=>rfl;obtain⟨bP,eV⟩:=me X G CB (ps:=["body", "behind"]) fun _ _ _ _ _ _=>xG fun _ _=>rfl;obtain⟨fY,jc⟩:=me X G xY (ps:=["statement", "after"]) fun _ _ _ _ _ _=>xG fun _ _=>rfl;obtain⟨kF,pL⟩:=me X G Ic (ps:=["statement", "after"]) fun _ _ _ _ _ _=>xG fun _ _=>rfl;obtain⟨gn,jv⟩:=me X G CD (ps:=["statement"]) fun _ _ _ _ _ _=>Ku fun _=>rfl;obtain⟨bG,fj⟩:=me X G vt (ps:=["body"]) fun _ _ _ _ _ _=>Ku fun _=>rfl;obtain⟨mC,jX⟩:=me X G Oy (ps:=["e", "values"]) fun _ _ _ _ _ _=>xG fun _ _=>rfl;obtain⟨nj,kb⟩:=me X G Ie (ps:=["chart", "row"]) fun _ _ _ _ _ _=>xG fun _ _=>rfl;obtain⟨kX,kK⟩:=me X G Ep (ps:=["chart", "parts"]) fun _ _ _ _ _ _=>xG fun _ _=>rfl;obtain⟨kY,nC⟩:=me X G Er (ps:=["chart", "named"]) fun _ _ _ _ _ _=>xG fun _ _=>rfl;obtain⟨sU,pM⟩:=me X G Oz (ps:=["chart", "standing"]) fun _ _ _ _ _ _=>xG fun _ _=>rfl;obtain⟨fR,cO⟩:=me X G uq (ps:=["program"]) fun _ _ _ _ _ _=>Ku fun _=>rfl;obtain⟨nu,mG⟩:=me X G Ig (ps:=["chart", "standing", "figure"]) fun _ _ _ _ _ _=>Sf fun _ _ _=>rfl;obtain⟨eI,eZ⟩:=me X G rh (ps:=["chart", "standing"]) fun _ _ _ _ _ _=>xG fun _ _=>rfl;obtain⟨i4,fc⟩:=me X G AE (ps:=["chart", "standing"]) fun _ _ _ _ _ _=>xG fun _ _=>rfl;obtain⟨ny,pN⟩:=me X G Ih (ps:=["program"]) fun _ _ _ _ _ _=>Ku fun _=>rfl;obtain⟨jQ,hJ⟩:=me X G CF (ps:=["program"]) fun _ _ _ _ _ _=>Ku fun _=>rfl;obtain⟨i5,jY⟩:=me X G AF (ps:=["chart", "standing"]) fun _ _ _ _ _ _=>xG fun _ _=>rfl;obtain⟨gO,iA⟩:=me X G pd (ps:=["chart"]) fun _ _ _ _ _ _=>Ku fun _=>rfl;obtain⟨i6,gu⟩:=me X G AG (ps:=["first", "led_from"]) fun _ _ _ _ _ _=>xG fun _ _=>rfl;obtain⟨nA,mH⟩:=me X G Ii (ps:=["place", "led_from", "figures", "found"]) fun _ _ _ _ _ _=>Yr fun _ _ _ _=>rfl;obtain⟨fS,br⟩:=me X G ur (ps:=["program", "target", "paper"]) fun _ _ _ _ _ _=>Sf fun _ _ _=>rfl;obtain⟨jR,aK⟩:=me X G CG (ps:=["state", "many"]) fun _ _ _ _ _ _=>xG fun _ _=>rfl;obtain⟨i7,dQ⟩:=me X G AH (ps:=["script", "k"]) fun _ _ _ _ _ _=>xG fun _ _=>rfl;obtain⟨i8,cC⟩:=me X G AI (ps:=["script"]) fun _ _ _ _ _ _=>Ku fun _=>rfl;obtain⟨jS,hV⟩:=me X G CH (ps:=["state", "boxes"]) fun _ _ _ _ _ _=>xG fun _ _=>rfl;obtain⟨pK,jw⟩:=me X G L6 (ps:=["state", "boxes"]) fun _ _ _ _ _ _=>xG fun _ _=>rfl;obtain⟨i9,jZ⟩:=me X G AJ (ps:=["state", "boxes", "row"]) fun _ _ _ _ _ _=>Sf fun _ _ _=>rfl;obtain⟨jT,dR⟩:=me X G CI (ps:=["script", "boxes"]) fun _ _ _ _ _ _=>xG fun _ _=>rfl;obtain⟨hG,gX⟩:=me X G Es (ps:=["body"]) fun _ _ _ _ _ _=>Ku fun _=>rfl;obtain⟨fD,cS⟩:=me X G AK (ps:=["e", "values"]) fun _ _ _ _ _ _=>xG fun _ _=>rfl;obtain⟨kZ,nG⟩:=me X G Et (ps:=["program", "statements", "standing", "target"]) fun _ _ _ _ _ _=>Yr fun _ _ _ _=>rfl;obtain⟨jU,jx⟩:=me X G CJ (ps:=["program", "statements", "standing", "figure"]) fun _ _ _ _ _ _=>Yr fun _ _ _ _=>rfl;obtain⟨iu,fF⟩:=me X G xZ (ps:=["program", "statements", "standing"]) fun _ _ _ _ _ _=>Sf fun _ _ _=>rfl;obtain⟨jV,k8⟩:=me X G CK (ps:=["program", "paper", "behind"]) fun _ _ _ _ _ _=>Sf fun _ _ _=>rfl;obtain⟨ja,gw⟩:=me X G AL (ps:=["program", "statements"]) fun _ _ _ _ _ _=>xG fun _ _=>rfl;obtain⟨jb,gx⟩:=me X G AM (ps:=["state", "paper", "whole"]) fun _ _ _ _ _ _=>Sf fun _ _ _=>rfl;obtain⟨iz,cT⟩:=me X G x8 (ps:=["program", "statements", "paper", "behind", "turn"]) fun _ _ _ _ _ _=>bn5 fun _ _ _ _ _=>rfl;obtain⟨jW,hX⟩:=me X G CL (ps:=["script"]) fun _ _ _ _ _ _=>Ku fun _=>rfl;obtain⟨uj,FQ⟩:=me X G Px (ps:=["script"]) fun _ _ _ _ _ _=>Ku fun _=>rfl;have j0:=Jh (st:=de) AO AQ AR;have AU:=j0.binds (ps:=["self", "program"]) fun _ _ _ _ _ _=>xG fun _ _=>rfl
 let t:Ad:=⟨lO,
  jP,
  du,
  dE,
  bT,
  bP,
  fB,
  fY,
  ka,
  kF,
  fZ,
  gn,
  bE,
  bG,
  nh,
  mC,
  mD,
  nj,
  kG,
  kX,
  kH,
  kY,
  sT,
  sU,
  eM,
  fR,
  mE,
  nu,
  dv,
  eI,
  ig,
  i4,
  mF,
  ny,
  jm,
  jQ,
  ij,
  i5,
  bU,
  gO,
  ik,
  i6,
  fC,
  nA,
  eO,
  fS,
  jn,
  jR,
  il,
  i7,
  ip,
  i8,
  jo,
  jS,
  oZ,
  pK,
  iq,
  i9,
  jq,
  jT,
  gV,
  hG,
  eY,
  fD,
  kJ,
  kZ,
  jr,
  jU,
  gH,
  iu,
  jt,
  jV,
  iw,
  ja,
  iy,
  jb,
  gI,
  iz,
  ju,
  jW,
  fa,
  uj,
  df,
  zbw "__init__" "Chart.__init__" (kO de) (gJ de) (aE de) .none qu qv qw qt lS qx,
  aQ,
  dZ,
  fE⟩
 have T:Tx K mg t:=⟨o5,
  gb,
  eV,
  jc,
  pL,
  jv,
  fj,
  jX,
  kb,
  kK,
  nC,
  pM,
  cO,
  mG,
  eZ,
  fc,
  pN,
  hJ,
  jY,
  iA,
  gu,
  mH,
  br,
  aK,
  dQ,
  cC,
  hV,
  jw,
  jZ,
  dR,
  gX,
  cS,
  nG,
  jx,
  fF,
  k8,
  gw,
  gx,
  cT,
  hX,
  FQ,
  j0,
  AU,
  ⟨L7,L8,Ma,Mb⟩,
  zbF X G OA,
  ⟨o8,AN,AS,Mc⟩,
  gg,
  gh,
  eQ,
  cH,
  fG,
  ⟨xf⟩,
  uU,
  zbF X G Eu,
  ⟨yY⟩,
  xg,
  zbF X G Ij,
  ⟨_,zbF X G Wb,_,rfl⟩,
  ⟨_,zbF X G xx,_,rfl⟩,
  ⟨_,zbF X G yc,_,rfl⟩,
  zaK X G jy,
  zaK X G lg,
  zaK X G uV,
  zaK X G Ec,
  zaK X G jD,
  zaK X G Am,
  zaK X G sV,
  zaK X G FR,
  zaK X G Ly,
  zaK X G FT,
  zaK X G nI,
  zaK X G lh,
  zaK X G Cm,
  zaK X G xi,
  zaK X G Lz,
  zaK X G sW⟩
 obtain⟨_,_,_,_,_,_,_,_,_,z,_⟩:=FQ.F.ex;exact⟨t.uj,fun s v=>by rw[show t.uj=_ from z];exact .of_eq rfl,fun base _ _ B=>RX T B (KN KL pd.1)⟩
theorem walk{l:PySem.W.OpenLaw}{q:zds}{loose:List Str}{XP:(Str->Option zdh)->Heap->Prop}{YP:zdi->Heap->Prop}{d dF:DefRec}{K:Params->zaa}{c Pt:zdg}(hn:l.most=some 63)(TC:d.params.defaults=[])
 (hY:∀(w:zdi) (h:Heap),YP w h->(K w.params).In h) (KD:(PyProof.Rows.recsOf q).find? (fun e=>e.name==("first_inputs":Str))=some dF) (KL:∀w:zdi,zcl (K w.params) "first_inputs"=some (c,Pt)) (Ul:∀w:zdi,(K w.params).lookup Pt=none)
 (F:∀(w:zdi) (mg:Str->Option zdh) (fa:zdg) (h:Heap),(K w.params).In h->h.Ns zdn mg->mg d.name=some (.ref fa)->
  ∃fd:zdp,(∀(s:zdq) (u:zdh),BindsTo s fd ⟨[u],[]⟩ [("script",u)])/\∀base:Heap,(K w.params).In base->base.Ns zdn mg->jM (K w.params) mg base c Pt->bB l.prog w (K w.params) mg base dc 30 fa fd ["script"] (z0 (K w.params) Pt)) :
 PySem.W.WalkO q loose XP YP l.row.toRowW d [] (fun f vs=>PySem.call f vs):=
 L2.KJ (n:=63) (k:=30) (x:="script") (CX:=fun _=>dc) (sp:=fun w=>z0 (K w.params) Pt) hn (by decide) TC ⟨rfl,by decide,by decide⟩ hY KD KL Ul F (fun _ _ a ns hl hS hP=>⟨a,ns,rfl,hS,hl,hP,fun _=>rfl⟩) fun _ _ _ _ _ z=>z
end
end Rk
end
structure PySem.W.Fast:Prop where(tw12292780292924119796 tw1986644719701042341 tw522940432391277113 tw11894308852931169834 tw18021240082645356760 tw17362719977239656735 tw10529019822887716741 tw6990404220480371712 tw5996206195475690152 tw9106904430483362020 tw7843027940498128050 tw8281390682946502435 tw2140416166349352609 tw16368237883129472760 tw16695452007924519833 tw12296309042622843343 tw2339678573937138540 tw4104526051668359250 tw2591576443953798965 tw2419856939131277756 tw13577263099700563588 tw15793922215829507334 tw968874396807799959 tw5056810596987523553 tw7385226119888639666 tw11375439378049529736 tw6935823553381391921 tw12392778711751446719 tw7450701629263734419 tw1688124693146577748 tw78083079603928780 tw11411342009151452624 tw2770742000845156388 tw13802697457798929490 tw9492625922917964752 tw14838742932284052080 tw16376789767707336502 tw10518741473252058456 tw3841362162278025461 tw14099383706594314217 tw8596082548125420616 tw16620927023347173233 tw9690003688971104650 tw14997778653865629551 tw7011971435177312083 tw5033067982823697766 tw4698704777442698791 tw10093806390846809051 tw17151341842832523259 tw2151535775971879029 tw17973195218311887748 tw5339810808271463218 tw17708075848315775608 tw137858432295117206 tw10840260757651599552 tw16569542404158010307 tw1881091245474958553 tw17585692341021817019 tw13527507268167862869 tw4796280397783517218 tw13667473120770139812 tw3208864888971963264 tw5704560311795024692 tw16469038527222858550 tw12718084988202987888 tw13302153605323201394 tw14564312975852861829 tw6853447197604140425 tw9492677765752901943 tw12160114010646515754 tw5857264259467313999 tw3148177734635010899 tw3861261479565244730 tw7061290553469841367 tw7278693970511775361 tw15563185641150743983 tw6543493917855642071 tw16189479689646271188 tw11459223858564232164 tw4955852005368198830 tw10651838591762079043 tw14384841899187122170 tw8055353184517584321 tw5027759745878115159 tw14320502041869000536 tw4850979036575328098 tw13807150471102326751 tw8592262661663725002 tw15647017320220283400 tw1828513877156544557 tw14181244903456460778 tw10688809237433891153 tw2016474064035833362 tw12055402446694025828 tw9832718596846778529 tw10603735050213768432 tw6830800845504932724 tw11363864938475684601 tw18131250760169559496 tw17171238865261835692 tw902390617630433857 tw4212744502873000939 tw10118297186381219135 tw15596471123628666249 tw17951720665278897961 tw5167688289975813765 tw15449899878805585654 tw7102396299161594250 tw972885923515518680 tw4463332310885048438 tw10565529208671682194 tw13812084319419898332 tw6944474401840973429 tw5088485196221633951 tw6142093848694893311 tw3521114330104105986 tw18120189590988304769 tw2505141018063617989 tw14085229943577255338 tw13230001882530000744 tw3553732670931948651 tw12128759620371763352 tw14468461896008673787 tw3084394053349097724 tw3635771370346817197 tw2222643363406124373 tw9104849865417240744 tw7334319502180357353 tw339195043138069562 tw7763600263627775752 tw7876654237535916334 tw2133732062016272675 tw1426162831224631659 tw2767916338224748096 tw6371047421319731736 tw6884090226876635900 tw7650972943853672696 tw12110898918470786027 tw9080169757006104256 tw5142537098497080794 tw16227005152376101504 tw5454776503583116871 tw15072108034783802110 tw8642687008346709049 tw8350719949055882382 tw11122192284305907278 tw5805201127160194096 tw5244047932371286703 tw13015228420430079068 tw2961355379309272010 tw14134393296764705148 tw16439512285582245375 tw10166616990705710450 tw5416566853967068976 tw14810051682692964529 tw14664868778321820821 tw2021709107214304367 tw8701077630550517086 tw3529560445122082797 tw901757979186922135 tw9181068330145887402 tw4233947677936123363 tw11708920522051831106:True)
end
open PySem PySem.W PyProof.Rows
set_option maxRecDepth 100000 in
set_option maxHeartbeats 0 in
theorem PySem.Challenge.cw_everyrow_k45_papers_of_standings_holds : PySem.Challenge.rw_everyrow_k45_papers_of_standings.Holds := by
 w_on; o_law; k_head; (case hw=>w_witness2)
 k_fill
 refine' Rk.walk (l:=PySem.Challenge.rw_everyrow_k45_papers_of_standings) (c:=193) (Pt:=189) rfl rfl (fun w h Y=>PySem.W.km_in_of Y) ?R ?T ?L ?F
 case R=>exact rfl
 case T=>exact fun w=>by kernel_rfl
 case L=>exact fun w=>by kernel_rfl
 case F=>
   intro w mg fa h KX G TF
   refine' Rk.all_mk KX G TF ?_ ?_ ?_ ?_ ?_ ?_ ?_ ?_ ?_ ?_ ?_ ?_ ?_ ?_ ?_ ?_ ?_ ?_ ?_ ?_ ?_ ?_ ?_ ?_ ?_ ?_ ?_ ?_ ?_ ?_ ?_ ?_ ?_ ?_ ?_ ?_ ?_ ?_ ?_ ?_ ?_ ?_ ?_ ?_ ?_ ?_ ?_ ?_ ?_ ?_ ?_ ?_ ?_ ?_ ?_ ?_ ?_ ?_ ?_ ?_ ?_ ?_ ?_ ?_ ?_ ?_ ?_ ?_ ?_ ?_ ?_ ?_ ?_ ?_ ?_ ?_ ?_ ?_ ?_ ?_ ?_ ?_ ?_ ?tb
   rotate_left 57
   iterate 41 (refine' L2.FH.of ?a ?l ?c ?k; (case a=>k_is); (case l=>k_is); (case c=>k_is); (case k=>k_is))
   iterate 18 (k_is)
   iterate 1 (k_exc)
   iterate 1 (kts_exm)
   iterate 1 (k_is)
   iterate 1 (k_exc)
   iterate 1 (kts_exm)
   iterate 19 (k_is)
   (case tb=>kernel_rfl)
