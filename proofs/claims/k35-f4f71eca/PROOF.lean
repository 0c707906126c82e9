import PyProof.Rows.All
import Wide.All
import OpenK.AllK
import Wide.FinOn
import Lean
import PyProof.EqAt
import PyProof.EqKinds
import PyProof.TupleCall
import PyProof.AttrMiss
import PyProof.IsiH_list
import PyProof.ZipIter
import PyProof.P3In
import PyProof.SetScanFacts
import PyProof.Rows.SetFrom
import PySem.Challenge.RW_everyrow_k35_whole_least_ranges
set_option compiler.extract_closed false
set_option Elab.async false
set_option linter.all false
set_option maxRecDepth 100000
open List renaming getElem?_eq_getElem->zaa,length_map->zad,mem_cons_of_mem->zae,getD_eq_getElem?_getD->zaf,mem_cons->zag,getElem?_eq_some_iff->zah,length_cons->zai,mem_append->zak,getElem?_map->zal,nodup_cons->zam,mem_singleton->zan,getElem_mem->zao,map_cons->zaq,size_toArray->zas,length_append->zau,mem_of_getElem?->zav,map_append->zaw,length_nil->zaz,mem_cons_self->zaB,range->zaC,mem_iff_getElem->zaG,mem_map->zaJ,pairwise_iff_getElem->zaK,pairwise_map->zaL,mem_append_right->zaQ,length->zaR,not_mem_nil->zaT,getElem?_eq_none->zaX,append_assoc->za0,map_map->za3,length_drop->za4,take_length->za6,getElem_append_right->za8,getElem_append_left->za9,append_nil->zba,pairwise_cons->zbc,zipWith->zbf,getElem_singleton->zbg,reverse_cons->zbh,length_take->zbk,lookup_cons->zbl,toArray->zbn,find?_cons->zbo,nil_append->zbp,map_congr_left->zbq,map_nil->zbr,take_of_length_le->zbs,cons_append->zbt,any_eq_true->zbu,mem_range->zbv,mem_filterMap->zbw,set->zbA,length_range->zbE,nodup_append->zbF,take_add_one->zbG,any_cons->zbH,length_eq_zero_iff->zbI,getElem_of_mem->zbJ,all_eq_true->zbK,length_singleton->zbL,forIn_cons->zbM,sum_cons->zbN,getElem?_zip_eq_some->zbO,drop_eq_getElem_cons->zbP,lookup->zbQ,getElem_map->zbS,length_set->zbV,length_zip->zbW,length_pos_of_mem->zbY,forIn_nil->zb2,take_append_drop->zb4,mem_append_left->zb5,getElem_inj->zb6,getElem?_append_right->zb9,length_reverse->zcc,mem_of_find?_eq_some->zcd,length_erase_of_mem->zce,getElem?_cons_succ->zcj,getElem?_set_self->zcn,zipIdx_cons->zcq,ext_getElem->zcr,take_succ_eq_append_getElem->zcs,getElem?_set_ne->zcx,of_mem_zip->zcy,range_succ->zcz,zipIdx_nil->zcA,mem_erase_of_ne->zcB,map_id'->zcG,getElem?_of_mem->zcH,filterMap_cons->zcK,length_pos_iff->zcL,replicate->zcM,take_sublist->zcS,getElem?_set->zcU,ext_getElem?->zcV,getElem_drop->zcW,getElem?_append_left->zcZ,drop_length->zc4,getElem?_replicate->zc7,getElem?_cons_zero->zc8,head?_drop->zdc,find?_some->zde,zipWith_cons_cons->zdh,sublist_cons_self->zdi,pairwise_lt_range->zdj,drop_of_length_le->zdk,length_replicate->zdn,drop_drop->zdo,mem_iff_getElem?->zdp,drop_eq_nil_iff->zds,pairwise_append->zdt,length_eraseIdx->zdv,dropLast_concat->zdw,take_nil->zdy,getElem?_range->zdB,mem_map_of_mem->zdC,length_zipWith->zdD,flatMap_append->zdE
open PySem.W renaming Frag->zab,mg_none_of->zaM,nsIn->zaS,findIn->zaW,kia_one->zbb,emptyDict->zbi,instObj->zbC,fnOf->zbD,keepIn->zbR,codeIn->zci,hasDictIn->zcm,plainGet->zct,mg_of->zcR,methodObj->zcX,plainOver->zcY,takerIn->zdf,makesIn->zdg,cellsFrom_some->zdl,lookIn->zdq
open PySem.Str renaming ofString->zac
open Nat renaming le_refl->zaj,ne_of_lt->zat,le_trans->zax,lt_of_lt_of_le->zay,zero_le->zaI,lt_irrefl->za1,ne_of_gt->za2,pow_le_pow_right->zbe,le_of_lt->zbz,sub_self->zbT,lt_succ_of_lt->zb0,lt_trichotomy->zb1,lt_succ_self->zb7,le_succ->zcb,mul_le_mul_right->zcC,succ_pos->zcF,not_lt_zero->zcI,lt_of_le_of_lt->zcN,le_of_eq->zc0,min_eq_right->zc2,reduceLeDiff->zc3,min_eq_left->zdd,reduceAdd->zdz,mul_le_mul_left->zdA,lt_trans->zdF
open Or renaming inl->zap
open Bool renaming false_ne_true->zar,false_eq_true->zaF,and_eq_true->za5,eq_iff_iff->zbj,true_and->zca,false_and->zdm,or_eq_false_iff->zdu,or_false->zdx
open PySem.F renaming plainAttrs_list->zaA,slot_list_append->zaO,type_list_append->zaP,slot_dict_get->zbx,plain_list_iadd->zbU,entry_dict_get->zbZ,args_tuple_add_2->zcg,entry_tuple_add->zck,plainAttrs_dict->zcl,slot_tuple_add->zco,slot_list_pop->zcv,type_list_pop->zcw,plain_proto_collect->zcO,slot_enumerate_next->zcP,slot_list_extend->zc5,type_list_extend->zc6,args_dict_get_2->zc9,args_dict_get_3->zda,slot_dict_items->zdb,type_dict_get->zdr
open Option renaming map_eq_some_iff->zaD,some->zaH,map_some->zaV,getD_some->zcp,isSome_map->zcT,isSome_iff_exists->zc1
open Array renaming getElem?_eq_getElem->zaE,length_toList->zaN,getElem?_toList->zaU,getD_eq_getD_getElem?->zbd,getElem?_eq_none->zbX,getD->zch,getElem_toList->zcJ,perm_iff_toList_perm->zcQ
open PyProof.Rows renaming callWith_type1->zaY,slot_tuple_getitem->zby
open Int renaming toNat_natCast->zaZ,le_refl->za7,emod_lt_of_pos->zbm,emod_nonneg->zbB,mul_ediv_add_emod->zb3,ediv_le_ediv->zb8,le_trans->zcf,emod_add_mul_ediv->zcu,mul_le_mul_of_nonneg_right->zcD,mul_le_mul_of_nonpos_right->zcE,mul_comm->zdG,reduceLT->zdH,reduceLE->zdI
open PySem renaming Addr->zdJ,Value->zdK,World->zdL,wpAny_bind->zdM,wpAny_pure->zdN,wpAny_holding->zdO,starEach->zdP,mainGlobals->zdQ,sizeLine->zdR,FuncData->zdS,Shared->zdT,Around->zdU,Program->zdV
noncomputable section
namespace L2
open PySem PySem.Spec PyProof.Rows
abbrev Key:=Sum Int Str
def pC:Key->zdK->Bool
 |.inl k,v=>Value.isInt k v
 |.inr x,v=>Value.isStrOf x v
def Ut (w:zdL):Key->Int
 |.inl k=>hashInt k
 |.inr x=>hashStr w x
theorem cf:∀ {k:Key} {v:zdK},pC k v=true->(∃i t,k=Sum.inl i/\v=Value.int i t)\/(∃x t,k=Sum.inr x/\v=Value.str x t)
 |.inl i,v,h=>by
  obtain⟨t,e⟩:=Value.isInt_shape (k:=i) (v:=v) h;exact .inl ⟨i,t,rfl,e⟩
 |.inr x,v,h=>by
  obtain⟨t,e⟩:=Value.isStrOf_shape (x:=x) (v:=v) h;exact .inr ⟨x,t,rfl,e⟩
theorem Em(i:Int)(t:Tok):pC (.inl i) (.int i t)=true:=by simp[pC,Value.isInt]
theorem En(x:Str)(t:Tok):pC (.inr x) (.str x t)=true:=by simp[pC,Value.isStrOf]
theorem M8(a b:Int):decide ((Sum.inl a:Key)=Sum.inl b)=(a==b):=by
 by_cases e:a=b
 ·subst e;simp
 ·have h:¬(Sum.inl a:Key)=Sum.inl b:=fun q=>e (Sum.inl.inj q);rw[decide_eq_false h];exact(beq_eq_false_iff_ne.mpr e).symm
theorem M9(a b:Str):decide ((Sum.inr a:Key)=Sum.inr b)=decide (a=b):=by
 by_cases e:a=b
 ·subst e;simp
 ·have h:¬(Sum.inr a:Key)=Sum.inr b:=fun q=>e (Sum.inr.inj q);rw[decide_eq_false h,decide_eq_false e]
theorem Na(a:Int)(b:Str):decide ((Sum.inl a:Key)=Sum.inr b)=false:=decide_eq_false (fun q=>nomatch q)
theorem Nb(a:Str)(b:Int):decide ((Sum.inr a:Key)=Sum.inl b)=false:=decide_eq_false (fun q=>nomatch q)
def bN (prog:zdV) (w:zdL):PySem.KeyKind prog w Key where
 is:=pC
 hash:=Ut w
 inj:=fun v a b ha hb=>by
  rcases cf ha with ⟨i,t,rfl,rfl⟩ |⟨x,t,rfl,rfl⟩
  ·rcases cf hb with ⟨j,u,rfl,e⟩ |⟨y,u,rfl,e⟩
   ·injection e with e1 _;rw[e1]
   ·exact nomatch e
  ·rcases cf hb with ⟨j,u,rfl,e⟩ |⟨y,u,rfl,e⟩
   ·exact nomatch e
   ·injection e with e1 _;rw[e1]
 byValue:=fun k v h=>by
  rcases cf h with ⟨i,t,rfl,rfl⟩ |⟨x,t,rfl,rfl⟩<;>rfl
 pyHash:=fun hv h=>by
  rcases cf hv with ⟨i,t,rfl,rfl⟩ |⟨x,t,rfl,rfl⟩
  ·exact wpAny_pyHash_int h
  ·exact wpAny_pyHash_str h
 eqBool:=fun hu hv h=>by
  rcases cf hu with ⟨i,t,rfl,rfl⟩ |⟨x,t,rfl,rfl⟩
  ·rcases cf hv with ⟨j,u,rfl,rfl⟩ |⟨y,u,rfl,rfl⟩
   ·rw[M8] at h;exact wpAny_eqBool_int h
   ·rw[Na] at h;exact SeqAt.EqAt.int_str i t y u _ _ _ _ h
  ·rcases cf hv with ⟨j,u,rfl,rfl⟩ |⟨y,u,rfl,rfl⟩
   ·rw[Nb] at h;exact SeqAt.EqAt.str_int x t j u _ _ _ _ h
   ·rw[M9] at h;exact wpAny_eqBool_str h
 «strs»:=fun k x t v h=>by
  rcases cf h with ⟨i,u,rfl,e⟩ |⟨y,u,rfl,e⟩
  ·exact nomatch e
  ·injection e with e1 _
   subst e1;cases v<;>rfl
theorem zI(prog:zdV)(w:zdL)(i:Int)(t:Tok):(bN prog w).is (.inl i) (.int i t)=true:=Em i t
theorem zJ(prog:zdV)(w:zdL)(x:Str)(t:Tok):(bN prog w).is (.inr x) (.str x t)=true:=En x t
inductive V where
 |bI |bl (b:Bool) |int (i:Int) |str (x:Str) |C7 (b:Array UInt8) |Nc (b:UInt64) |ref (a:zdJ) |ty (n:String)
 deriving DecidableEq
def RelV:V->zdK->Prop
 |.bI,u=>u=Value.none
 |.bl b,u=>u=Value.bool b
 |.int i,u=>∃t,u=Value.int i t
 |.str x,u=>∃t,u=Value.str x t
 |.C7 b,u=>∃t,u=Value.bytes b t
 |.Nc b,u=>∃t,u=Value.float b t
 |.ref a,u=>u=Value.ref a
 |.ty n,u=>u=Value.type n
abbrev Vals:List V->List zdK->Prop:=Paired RelV
theorem Vals.length{xs:List V}{us:List zdK}(r:Vals xs us):xs.length=us.length:=Paired.length r
theorem Vals.get:∀ {xs:List V} {us:List zdK} {i:Nat} {x:V},Vals xs us->xs[i]?=some x->∃u,us[i]?=some u/\RelV x u
 |_,_,_,_,.nil,e=>by simp at e
 |_,_,0,_,.cons r _,e=>by simp at e;subst e;exact⟨_,rfl,r⟩
 |_,_,i+1,x,.cons _ t,e=>by
  obtain⟨u,h1,h2⟩:=Vals.get (i:=i) (x:=x) t (by simpa using e);exact⟨u,by simpa using h1,h2⟩
theorem Vals.set{x:V}{u:zdK}(r:RelV x u):∀ {xs:List V} {us:List zdK} (i:Nat),Vals xs us->Vals (xs.set i x) (us.set i u)
 |_,_,_,.nil=>.nil
 |_,_,0,.cons _ t=>.cons r t
 |_,_,i+1,.cons q t=>.cons q (Vals.set r i t)
theorem Vals.append:∀ {xs ys:List V} {us ws:List zdK},Vals xs us->Vals ys ws->Vals (xs++ys) (us++ws)
 |_,_,_,_,.nil,s=>s
 |_,_,_,_,.cons r t,s=>.cons r (Vals.append t s)
theorem Vals.take:∀ {xs:List V} {us:List zdK} (n:Nat),Vals xs us->Vals (xs.take n) (us.take n)
 |_,_,0,_=>.nil
 |_,_,_+1,.nil=>.nil
 |_,_,n+1,.cons r t=>.cons r (Vals.take n t)
theorem Vals.drop:∀ {xs:List V} {us:List zdK} (n:Nat),Vals xs us->Vals (xs.drop n) (us.drop n)
 |_,_,0,r=>r
 |_,_,_+1,.nil=>.nil
 |_,_,n+1,.cons _ t=>Vals.drop n t
def oK:Option V->Option zdK->Prop
 |some v,some u=>RelV v u
 |none,none=>True
 |_,_=>False
def KV {κ:Type}:List (κ×V)->List (κ×zdK)->Prop:=Paired fun (p:κ×V) (q:κ×zdK)=>p.1=q.1/\RelV p.2 q.2
def kV:Key->V
 |.inl i=>.int i
 |.inr x=>.str x
inductive HO where
 |lst (xs:List V)
 |tup (xs:List V)
 |dK (kvs:List (Key×V)) |dT (kvs:List (List Key×V))
 |set (S:Int->Bool) (n:Nat)
 |ins (C dx:zdJ) (fs:List (Str×V))
 |own (x:zdJ)
 |xd (fs:List (Str×V))
 |met (f x:zdJ)
 |Uu (lo hi:Int)
 |qH (o:Obj) (u:HO)
 |Nd (ps:Array zdK)
 |ext (φ:Heap->Prop)
abbrev Hp:=zdJ->Option HO
def upd (H:Hp) (a:zdJ) (o:HO):Hp:=fun b=>if b=a then some o else H b
theorem ai{H:Hp}{a:zdJ}{o:HO}:upd H a o a=some o:=by unfold upd;rw[if_pos rfl]
theorem aD{H:Hp}{a b:zdJ}{o:HO}(h:b≠a):upd H a o b=H b:=by unfold upd;rw[if_neg h]
theorem fY{H:Hp}{a b:zdJ}{o u:HO}(h:H a=some o)(h':H b=some u)(d:o≠u):a≠b:=by
 intro e;subst e;rw[h] at h';exact d (zaH.inj h')
theorem aF{H:Hp}{a b:zdJ}{o:HO}(h:H a=some o)(h':H b=none):a≠b:=by
 intro e;subst e;rw[h] at h';cases h'
section
variable(P:zdV)(w:zdL)
def ck (H:Hp) (h:Heap) (a:zdJ):HO->Prop
 |.lst xs=>xs.length<=zdR/\∃(aY:List zdK) (n:Nat),Vals xs aY/\h.get? a=some {cls:=.type "list",data:=.seq aY.toArray n}
 |.tup xs=>xs.length<=zdR/\∃aY:List zdK,Vals xs aY/\IsTup h a aY.toArray
 |.dK kvs=>kvs.length<=zdR/\(a==sysModules)=false/\∃vs,KV kvs vs/\h.DictOf (bN P w) a vs
 |.dT kvs=>kvs.length<=zdR/\(a==sysModules)=false/\∃xs:List (List Key×zdJ×zdK),
  Paired (fun (p:List Key×V) (q:List Key×zdJ×zdK)=>p.1=q.1/\H q.2.1=some (.tup (p.1.map kV))/\RelV p.2 q.2.2) kvs xs/\
  ∃o es ep,h.get? a=some o/\o.ExactDict/\o.data=.dict es ep/\es.toList=xs.map (entryOfKey (tupleKind (bN P w)))/\(xs.map (·.1)).Nodup
 |.set S n=>h.SetOf (intKind P w) a S n
 |.ins C dx fs=>H dx=some (.own a)/\fs.length<=1000/\dx≠a/\h.get? a=some (zbC C dx)/\
  ∃mA,h.Ns1 dx mA/\(∀f,oK (fs.lookup f) (mA f))/\PySem.Within mA (fs.map (·.1))
 |.own _=>∃o,h.get? a=some o
 |.xd fs=>∃mA,h.Ns1 a mA/\∀f,oK (fs.lookup f) (mA f)
 |.Uu lo hi=>∃t u v,h.get? a=some {cls:=.type "range",data:=.fields #[.int lo t,.int hi u,.int 1 v]}
 |.qH o u=>h.get? a=some o/\ck H h a u
 |.Nd ps=>h.get? a=some {cls:=.none,data:=.fields ps}
 |.met f x=>h.get? a=some (zcX (.ref f) (.ref x))
 |.ext φ=>φ h/\(∃o,h.get? a=some o)/\∀h1 h2:Heap,φ h1->(∀o,h1.get? a=some o->h2.get? a=some o)->φ h2
def pB (H:Hp) (h:Heap):Prop:=∀a o,H a=some o->ck P w H h a o
end
section
variable{P:zdV}{w:zdL}{H H':Hp}{h h':Heap}{a:zdJ}{o:HO}
theorem ck.lt(x:ck P w H h a o):a<h.objs.size:=by
 cases o with
 |lst xs=>obtain⟨_,_,_,_,e⟩:=x;exact Heap.lt_size e
 |tup xs=>obtain⟨_,_,_,p⟩:=x;exact p.lt
 |dK kvs=>obtain⟨_,_,_,_,o,_,_,e,_⟩:=x;exact Heap.lt_size e
 |dT kvs=>obtain⟨_,_,_,_,o,_,_,e,_⟩:=x;exact Heap.lt_size e
 |set S n=>obtain⟨o,_,_,_,e,_⟩:=x;exact Heap.lt_size e
 |ins C dx fs=>obtain⟨_,_,_,e,_⟩:=x;exact Heap.lt_size e
 |own y=>obtain⟨_,e⟩:=x;exact Heap.lt_size e
 |xd fs=>obtain⟨_,⟨_,_,_,e,_⟩,_⟩:=x;exact Heap.lt_size e
 |Uu lo hi=>obtain⟨_,_,_,e⟩:=x;exact Heap.lt_size e
 |qH ob u=>obtain⟨e,_⟩:=x;exact Heap.lt_size e
 |Nd ps=>exact Heap.lt_size (show h.get? a=some _ from x)
 |met f y=>exact Heap.lt_size (show h.get? a=some _ from x)
 |ext φ=>obtain⟨_,⟨_,e⟩,_⟩:=x;exact Heap.lt_size e
theorem Paired.Nf{α β:Type}{F G:α->β->Prop}:∀ {l₁:List α} {l₂:List β},Paired F l₁ l₂->(∀a b,F a b->G a b)->Paired G l₁ l₂
 |_,_,.nil,_=>.nil
 |_,_,.cons r t,f=>.cons (f _ _ r) (Paired.Nf t f)
theorem ck.zK(x:ck P w H h a o)(k:∀b u,(b=a\/H b=some (.own a))->h.get? b=some u->h'.get? b=some u)
 (ho:∀b,H b=some (.own a)->H' b=some (.own a)) (ht:∀b xs,H b=some (.tup xs)->H' b=some (.tup xs)):ck P w H' h' a o:=by
 induction o with
 |lst xs=>obtain⟨z,aY,n,r,e⟩:=x;exact⟨z,aY,n,r,k _ _ (.inl rfl) e⟩
 |tup xs=>obtain⟨z,aY,r,ob,e,c⟩:=x;exact⟨z,aY,r,ob,k _ _ (.inl rfl) e,c⟩
 |dK kvs=>obtain⟨z,y,vs,r,ob,es,ep,e,c⟩:=x;exact⟨z,y,vs,r,ob,es,ep,k _ _ (.inl rfl) e,c⟩
 |dT kvs=>
  obtain⟨z,y,xs,r,ob,es,ep,e,c⟩:=x;exact⟨z,y,xs,Paired.Nf r fun p q z=>⟨z.1,ht _ _ z.2.1,z.2.2⟩,ob,es,ep,k _ _ (.inl rfl) e,c⟩
 |set S n=>obtain⟨ob,es,ep,t,e,c⟩:=x;exact⟨ob,es,ep,t,k _ _ (.inl rfl) e,c⟩
 |ins C dx fs=>
  obtain⟨d,z,ne,e,mA,⟨od,es,ep,e2,c⟩,r⟩:=x;exact⟨ho _ d,z,ne,k _ _ (.inl rfl) e,mA,⟨od,es,ep,k _ _ (.inr d) e2,c⟩,r⟩
 |own y=>obtain⟨ob,e⟩:=x;exact⟨ob,k _ _ (.inl rfl) e⟩
 |xd fs=>obtain⟨mA,⟨od,es,ep,e,c⟩,r⟩:=x;exact⟨mA,⟨od,es,ep,k _ _ (.inl rfl) e,c⟩,r⟩
 |Uu lo hi=>obtain⟨t,u,v,e⟩:=x;exact⟨t,u,v,k _ _ (.inl rfl) e⟩
 |qH ob u ih=>obtain⟨e,q⟩:=x;exact⟨k _ _ (.inl rfl) e,ih q⟩
 |Nd ps=>
  have e:h.get? a=some {cls:=.none,data:=.fields ps}:=x;show h'.get? a=some {cls:=.none,data:=.fields ps};exact k a _ (.inl rfl) e
 |met f y=>
  have e:h.get? a=some (zcX (.ref f) (.ref y)):=x;show h'.get? a=some (zcX (.ref f) (.ref y));exact k a _ (.inl rfl) e
 |ext φ=>obtain⟨p,⟨o,e⟩,st⟩:=x;exact⟨st _ _ p fun o q=>k _ _ (.inl rfl) q,⟨o,k _ _ (.inl rfl) e⟩,st⟩
theorem pB.lt(x:pB P w H h)(e:H a=some o):a<h.objs.size:=(x a o e).lt
theorem pB.fresh(x:pB P w H h)(e:h.objs.size<=a):H a=none:=by
 cases q:H a with
 |none=>rfl
 |some u=>exact absurd (zay (x.lt q) e) (za1 _)
theorem pB.kept(x:pB P w H h)(k:∀b u,h.get? b=some u->h'.get? b=some u):pB P w H h':=fun a o e=>
 (x a o e).zK (fun b u _ q=>k b u q) (fun _ q=>q) fun _ _ q=>q
theorem pB.laid(x:pB P w H h)(k:∀b u,h.get? b=some u->h'.get? b=some u)(hp:h.objs.size<=a)(new:ck P w (upd H a o) h' a o):pB P w (upd H a o) h':=fun b u e=>by
 have hn:=x.fresh hp;by_cases hb:b=a
 ·subst hb;rw[ai] at e;cases e;exact new
 ·rw[aD hb] at e;exact(x b u e).zK (fun c v _ q=>k c v q) (fun c q=>by rw[aD (aF q hn)];exact q) fun c xs q=>by rw[aD (aF q hn)];exact q
end
def Rd (H:Hp) (a:zdJ) (u:HO):Prop:=H a=some u\/∃o,H a=some (.qH o u)
theorem Rd.ok{P:zdV}{w:zdL}{H:Hp}{h:Heap}{a:zdJ}{u:HO}(r:Rd H a u)(x:pB P w H h):ck P w H h a u:=by
 rcases r with r |⟨o,r⟩
 ·exact x a u r
 ·obtain⟨_,q⟩:=x a _ r;exact q
def Qr:Option HO->Prop
 |some (.lst _)=>True
 |some (.dK _)=>True
 |some (.dT _)=>True
 |some (.set _ _)=>True
 |some (.ins _ _ _)=>True
 |some (.ext _)=>True
 |_=>False
section
variable{P:zdV}{w:zdL}{H:Hp}{h h':Heap}{x e:zdJ}{o':HO}
theorem pB.write(ok:pB P w H h)(mu:Qr (H x))(he:e=x\/H e=some (.own x))(k:∀b u,b≠e->h.get? b=some u->h'.get? b=some u)(Pt:∃u,h'.get? e=some u)
 (new:ck P w (upd H x o') h' x o'):pB P w (upd H x o') h':=fun b u q=>by
 have Qs:∀c y,H c=some (.own y)->c≠x:=fun c y r z=>by subst z;rw[r] at mu;exact mu
 have Uv:∀c xs,H c=some (.tup xs)->c≠x:=fun c xs r z=>by subst z;rw[r] at mu;exact mu
 by_cases hb:b=x
 ·subst hb;rw[ai] at q;cases q;exact new
 ·rw[aD hb] at q;by_cases Ng:b=e
  ·have q':H b=some (.own x):=by
    rcases he with z |z
    ·exact absurd (Ng.trans z) hb
    ·rw[Ng];exact z
   rw[q] at q';cases q';obtain⟨v,hv⟩:=Pt;exact⟨v,by rw[Ng];exact hv⟩
  ·refine(ok b u q).zK (fun c v hc r=>k c v ?_ r) (fun c r=>by rw[aD (Qs c b r)];exact r) fun c xs r=>by rw[aD (Uv c xs r)];exact r
   rcases hc with rfl |hc
   ·exact Ng
   ·rintro rfl
    rcases he with z |z
    ·exact Qs c b hc z
    ·rw[hc] at z;cases z;exact hb rfl
end
structure Un(fs ex:List zdJ)(H H':Hp)(h h':Heap):Prop where
 keep:∀b o,h.get? b=some o->H b=none->b ∉ fs->b ∉ ex->h'.get? b=some o
 slot:∀b o,h.get? b=some o->H b=none->b∈fs->b ∉ ex->∃sl,h'.get? b=some {o with slots:=sl}
 free:∀b o,h.get? b=some o->H b=none->b ∉ ex->H' b=none
 there:∀b o,h.get? b=some o->b ∉ ex->∃o',h'.get? b=some o'
 xH:∀b xs,H b=some (.tup xs)->H' b=some (.tup xs)
 vX:∀b o u,H b=some (.qH o u)->H' b=some (.qH o u)
 xI:∀b ps,H b=some (.Nd ps)->∃more,H' b=some (.Nd (ps++more))
section
variable{fs fs' ex ex':List zdJ}{H H1 H2:Hp}{h h1 h2 h':Heap}{a x e:zdJ}{o:HO}
theorem Un.any(u:Un fs ex H H1 h h1){b:zdJ}{ob:Obj}(q:h.get? b=some ob)(n:H b=none)(hx:b ∉ ex):∃sl,h1.get? b=some {ob with slots:=sl}:=by
 by_cases hb:b∈fs
 ·exact u.slot b ob q n hb hx
 ·exact⟨ob.slots,u.keep b ob q n hb hx⟩
theorem Un.kept(k:∀b u,h.get? b=some u->h'.get? b=some u):Un fs ex H H h h':=
 ⟨fun b ob q _ _ _=>k b ob q,fun b ob q _ _ _=>⟨ob.slots,k b ob q⟩,fun _ _ _ n _=>n,fun b ob q _=>⟨ob,k b ob q⟩,fun _ _ q=>q,fun _ _ _ q=>q,fun _ ps q=>⟨#[],by rw[q];simp⟩⟩
theorem Un.refl:Un fs ex H H h h:=Un.kept fun _ _ q=>q
theorem Un.laid(k:∀b u,h.get? b=some u->h'.get? b=some u)(hp:h.objs.size<=a)(hn:H a=none):Un fs ex H (upd H a o) h h' where
 keep:=fun b u q _ _ _=>k b u q
 slot:=fun b u q _ _ _=>⟨u.slots,k b u q⟩
 free:=fun b u q n _=>by rw[aD (zat (zay (Heap.lt_size q) hp))];exact n
 there:=fun b u q _=>⟨u,k b u q⟩
 xH:=fun b xs q=>by rw[aD (aF q hn)];exact q
 vX:=fun b u xs q=>by rw[aD (aF q hn)];exact q
 xI:=fun b ps q=>⟨#[],by rw[aD (aF q hn),q];simp⟩
theorem Un.write(mu:Qr (H x))(he:e=x\/H e=some (.own x))(k:∀b u,b≠e->h.get? b=some u->h'.get? b=some u)(Pt:∃u,h'.get? e=some u):Un fs ex H (upd H x o) h h':=by
 have hx:∀b,H b=none->b≠x:=fun b n z=>by subst z;rw[n] at mu;exact mu
 have hb:∀b,H b=none->b≠e:=fun b n z=>by
  subst z;rcases he with r |r
  ·exact hx b n r
  ·rw[n] at r;cases r
 have hm:∀b u,H b=some u->¬Qr (some u)->b≠x:=fun b u q nm z=>by subst z;rw[q] at mu;exact nm mu
 refine⟨fun b u q n _ _=>k b u (hb b n) q,fun b u q n _ _=>⟨u.slots,k b u (hb b n) q⟩,fun b u q n _=>by rw[aD (hx b n)];exact n,fun b u q _=>?_,
  fun b xs q=>by rw[aD (hm b _ q fun z=>z)];exact q,fun b u xs q=>by rw[aD (hm b _ q fun z=>z)];exact q,fun b ps q=>⟨#[],by rw[aD (hm b _ q fun z=>z),q];simp⟩⟩
 by_cases Ng:b=e
 ·subst Ng;exact Pt
 ·exact⟨u,k b u Ng q⟩
end
def Th (h:Heap) (H:Hp):List zdJ:=(zaC h.objs.size).filter fun a=>(H a).isSome
def xJ (h:Heap) (H:Hp):Heap:=PySem.W.hideAll h (Th h H)
theorem Eo(h:Heap)(H:Hp):(xJ h H).objs.size=h.objs.size:=PySem.W.hideAll_size _ _
theorem F5{h:Heap}{H:Hp}{b:zdJ}{o:Obj}(e:h.get? b=some o)(n:H b=none):(xJ h H).get? b=some o:=
 PySem.W.hideAll_get _ e fun hm=>by
  have q:(H b).isSome=true:=(List.mem_filter.mp hm).2;rw[n] at q;simp at q
theorem JX{h:Heap}{H:Hp}{b:zdJ}{o:Obj}(e:(xJ h H).get? b=some o):h.get? b=some o/\H b=none:=by
 have e':h.get? b=some o:=PySem.W.of_hideAll (Th h H) e;refine⟨e',?_⟩;cases q:H b with
 |none=>rfl
 |some x=>
  have hm:b∈Th h H:=List.mem_filter.mpr ⟨zbv.mpr (Heap.lt_size e'),by simp[q]⟩;have z:(xJ h H).get? b=none:=PySem.W.hideAll_none (Th h H) hm;rw[z] at e;cases e
structure Mod(K:zab)(mg:Str->Option zdK)(base:Heap):Prop where
 Ti:K.In base
 glob:base.Ns zdQ mg
 blt:∃mb,base.Ns builtinsNs mb/\∀x:Str,x≠"__name__"->mb x=bootBuiltins x
 nolimit:base.NoLimit
structure Cx where
 prog:zdV
 w:zdL
 K:zab
 mg:Str->Option zdK
 base:Heap
 A:zdU
 N:List Str
 s₀:zdT
 H₀:Hp
 env:Env
 outer:List Env
 stack:List Env
 ex:List zdJ
 fn:Str->Bool
 calm:Bool
 pn:List (zdJ×Obj)
 xe:zdK->zdT->Prop
def F8 (l:List Env):List zdJ:=l.filterMap (·.frame)
abbrev Cx.fs (X:Cx):List zdJ:=F8 X.outer
def Tj (sc:Scope) (x:Str):Prop:=sc.names.lookup x=some .local\/sc.names.lookup x=some .cell\/sc.names.lookup x=some .free
def Loc (sc:Scope) (x:Str):Prop:=sc.names.lookup x=some .local\/sc.names.lookup x=some .cell
def Look (env:Env) (h:Heap) (m:Str->Option zdK) (x:Str) (u:zdK):Prop:=
 (env.kindOf x=some .local/\m x=some u)\/((env.kindOf x=some .cell\/env.kindOf x=some .free)/\∃c,env.cells.lookup x=some c/\h.IsCell c (some u))
structure Cx.Ok(X:Cx):Prop where
 mod:Mod X.K X.mg X.base
 kind:X.env.scope.kind=.function
 glob:X.env.globals=zdQ
 blt:X.env.builtins=builtinsNs
 above:X.s₀.heap.objs.size<=X.env.locals
 inj:∀x y c,X.env.cells.lookup x=some c->X.env.cells.lookup y=some c->x=y
 has:∀x,(X.env.kindOf x=some .cell\/X.env.kindOf x=some .free)->∃c,X.env.cells.lookup x=some c
 Qt:∀x c,X.fn x=true->X.env.cells.lookup x=some c->X.s₀.heap.objs.size<=c
 hd:X.calm=true->X.A.handled=none
 frames:X.A.frames=some X.stack
 Tn:X.stack=X.outer\/(X.stack=X.env::X.outer/\X.env.frame=some X.env.locals)
 Ya:∀b∈X.ex,b≠X.env.locals/\∀x c,X.env.cells.lookup x=some c->c≠b
 bs:∀b o,X.base.get? b=some o->X.s₀.heap.get? b=some o/\X.H₀ b=none
 JY:X.base.objs.size<=X.s₀.heap.objs.size
 F9:∀b o,X.base.get? b=some o->b ∉ X.ex
 JZ:∀b∈X.ex,b ∉ X.fs
 sM:X.s₀.heap.FunFrames X.base X.outer
 Nh:∀b∈X.fs,X.H₀ b=none
structure Inv(X:Cx)(pins:List (zdJ×Obj))(σ:List (Option V))(H:Hp)(s:zdT):Prop where
 ok:X.Ok
 os:s.os=X.s₀.os
 bare:AllBare s.gens
 base:Un X.fs X.ex X.H₀ H X.s₀.heap s.heap
 loc:∃m,s.heap.Ns X.env.locals m/\∀(i:Nat) (x:Str) (v:V),X.N[i]?=some x->σ[i]?=some (some v)->Tj X.env.scope x->∃u,RelV v u/\Look X.env s.heap m x u
 cell:∀x c,X.env.cells.lookup x=some c->∃v,s.heap.IsCell c v
 free:H X.env.locals=none
 lQ:∀x c,X.env.cells.lookup x=some c->H c=none
 pin:∀p∈X.pn++pins,s.heap.get? p.1=some p.2/\H p.1=none/\p.1≠X.env.locals/\p.1 ∉ X.fs/\∀v,p.2.data≠.cell v
 cc:pB X.prog X.w H s.heap
 len:σ.length=X.N.length
section
variable{X:Cx}{pins:List (zdJ×Obj)}{σ:List (Option V)}{H H':Hp}{s:zdT}{h':Heap}
theorem Cx.Ok.Uw(ok:X.Ok){b:zdJ}{o:Obj}(e:X.base.get? b=some o):b ∉ X.fs:=fun hb=>by
 have:=(ok.sM.mem hb).1;rw[e] at this;cases this
theorem Inv.bs(I:Inv X pins σ H s):∀b o,X.base.get? b=some o->s.heap.get? b=some o/\H b=none:=fun b o e=>
 ⟨I.base.keep b o (I.ok.bs b o e).1 (I.ok.bs b o e).2 (I.ok.Uw e) (I.ok.F9 b o e),I.base.free b o (I.ok.bs b o e).1 (I.ok.bs b o e).2 (I.ok.F9 b o e)⟩
theorem Inv.bk(I:Inv X pins σ H s):∀b o,X.base.get? b=some o->s.heap.get? b=some o:=fun b o e=>(I.bs b o e).1
theorem Inv.mod(I:Inv X pins σ H s):Mod X.K X.mg X.base:=I.ok.mod
theorem Inv.vP(I:Inv X pins σ H s):X.K.In s.heap:=I.ok.mod.Ti.keeps I.bk
theorem Inv.lt(I:Inv X pins σ H s):X.env.locals<s.heap.objs.size:=let ⟨_,hn,_⟩:=I.loc;hn.lt
theorem Inv.sz(I:Inv X pins σ H s):X.s₀.heap.objs.size<=s.heap.objs.size:=zax I.ok.above (zbz I.lt)
theorem Inv.Ux(I:Inv X pins σ H s){a:zdJ}(h:s.heap.objs.size<=a):a ∉ X.fs:=fun hb=>by
 obtain⟨_,o,ho,_⟩:=I.ok.sM.mem hb;exact absurd (zay (Heap.lt_size ho) (zax I.sz h)) (za1 _)
theorem Inv.Ni(I:Inv X pins σ H s):∀x c,X.env.cells.lookup x=some c->c≠X.env.locals:=fun x c e z=>by
 obtain⟨v,o,ho,hd⟩:=I.cell x c e;obtain⟨m,⟨o',es,ep,Nj,C8,_⟩,_⟩:=I.loc;rw[z,Nj] at ho;cases ho;rw[C8] at hd;cases hd
theorem Inv.sM(I:Inv X pins σ H s):s.heap.FunFrames X.base X.outer:=by
 have all:∀(l:List Env),(∀b∈F8 l,b∈X.fs)->X.s₀.heap.FunFrames X.base l->s.heap.FunFrames X.base l:=by
  intro l
  induction l with
  |nil=>intro _ _;trivial
  |cons env r ih=>
   intro hs hl;obtain⟨hk,⟨L,o,hf,hn,ho,hd⟩,hr⟩:=hl;have hL:L∈X.fs:=hs L (by unfold F8;rw[zcK,hf];exact zaB);obtain⟨sl,e⟩:=I.base.slot L o ho (I.ok.Nh L hL) hL fun z=>I.ok.JZ L z hL;exact⟨hk,⟨L,_,hf,hn,e,hd⟩,ih (fun b hb=>hs b (by unfold F8;rw[zcK,hf];exact zae _ hb)) hr⟩
 exact all X.outer (fun _ hb=>hb) I.ok.sM
theorem Inv.stack(I:Inv X pins σ H s):s.heap.FunFrames X.base X.stack:=by
 rcases I.ok.Tn with e |⟨e,hf⟩
 ·rw[e];exact I.sM
 ·rw[e];obtain⟨m,hn,_⟩:=I.loc;refine .cons (by rw[I.ok.kind];decide) hf hn ?_ I.sM;exact Heap.get?_none_of_le (zax I.ok.JY I.ok.above)
theorem Inv.xK(I:Inv X pins σ H s):∀b∈F8 X.stack,b∈X.env.locals::X.fs:=fun b hb=>by
 rcases I.ok.Tn with e |⟨e,hf⟩
 ·rw[e] at hb;exact zae _ hb
 ·rw[e] at hb;unfold F8 at hb;rw[zcK,hf] at hb;exact hb
theorem Inv.C9(I:Inv X pins σ H s):∀b∈F8 X.stack,H b=none:=fun b hb=>by
 rcases zag.mp (I.xK b hb) with e |hb
 ·rw[e];exact I.free
 ·obtain⟨_,o,ho,_⟩:=I.ok.sM.mem hb;exact I.base.free b o ho (I.ok.Nh b hb) fun z=>I.ok.JZ b z hb
theorem Inv.step{g':Array GenState}{t':Nat}{d':Drawn}{ch:List zdJ}(I:Inv X pins σ H s)
 (JG:∀b∈ch,(b∈X.ex\/X.s₀.heap.objs.size<=b)/\b≠X.env.locals/\(∀x c,X.env.cells.lookup x=some c->c≠b)/\∀p∈X.pn++pins,p.1≠b)
 (keep:∀b o,b≠X.env.locals->b ∉ X.fs->b ∉ ch->s.heap.get? b=some o->H b=none->h'.get? b=some o)
 (slot:∀b o,b≠X.env.locals->b∈X.fs->b ∉ ch->s.heap.get? b=some o->H b=none->∃sl,h'.get? b=some {o with slots:=sl}) (free:∀b o,b ∉ ch->s.heap.get? b=some o->H b=none->H' b=none)
 (there:∀b o,b ∉ ch->s.heap.get? b=some o->∃o',h'.get? b=some o')
 (xH:∀b xs,H b=some (.tup xs)->H' b=some (.tup xs)) (vX:∀b o u,H b=some (.qH o u)->H' b=some (.qH o u)) (xI:∀b ps,H b=some (.Nd ps)->∃more,H' b=some (.Nd (ps++more)))
 (ns:∀m,s.heap.Ns X.env.locals m->h'.Ns X.env.locals m) (cc:pB X.prog X.w H' h') (hg:AllBare g') :
 Inv X pins σ H' {s with heap:=h',gens:=g',drawn:=d',toks:=t' }:=by
 have Yb:∀b o,X.s₀.heap.get? b=some o->b≠X.env.locals:=fun b o e=>zat (zay (Heap.lt_size e) I.ok.above);have To:∀b o,X.s₀.heap.get? b=some o->b ∉ X.ex->b ∉ ch:=fun b o e hx hb=>by
  rcases(JG b hb).1 with z |z
  ·exact hx z
  ·exact absurd (zay (Heap.lt_size e) z) (za1 _)
 have cellK:∀x c,X.env.cells.lookup x=some c->∀v,s.heap.IsCell c v->h'.IsCell c v:=fun x c e v ⟨o,ho,hd⟩=>by
  have Qu:c ∉ ch:=fun z=>(JG c z).2.2.1 x c e rfl;by_cases hc:c∈X.fs
  ·obtain⟨sl,q⟩:=slot c o (I.Ni x c e) hc Qu ho (I.lQ x c e);exact⟨_,q,hd⟩
  ·exact⟨o,keep c o (I.Ni x c e) hc Qu ho (I.lQ x c e),hd⟩
 refine⟨I.ok,I.os,hg,⟨fun b o e n hb hx=>?_,fun b o e n hb hx=>?_,fun b o e n hx=>?_,fun b o e hx=>?_,fun b xs e=>xH b xs (I.base.xH b xs e),fun b o xs e=>vX b o xs (I.base.vX b o xs e),fun b ps e=>?_⟩,?_,fun x c e=>?_,?_,fun x c e=>?_,fun p hp=>?_,cc,I.len⟩
 ·exact keep b o (Yb b o e) hb (To b o e hx) (I.base.keep b o e n hb hx) (I.base.free b o e n hx)
 ·obtain⟨sl,e1⟩:=I.base.slot b o e n hb hx;obtain⟨sl',e2⟩:=slot b _ (Yb b o e) hb (To b o e hx) e1 (I.base.free b o e n hx);exact⟨sl',e2⟩
 ·obtain⟨o',e1⟩:=I.base.there b o e hx;exact free b o' (To b o e hx) e1 (I.base.free b o e n hx)
 ·obtain⟨o',e1⟩:=I.base.there b o e hx;exact there b o' (To b o e hx) e1
 ·obtain⟨m1,e1⟩:=I.base.xI b ps e;obtain⟨m2,e2⟩:=xI b _ e1;exact⟨m1++m2,by rw[e2,Array.append_assoc]⟩
 ·obtain⟨m,hn,hl⟩:=I.loc;refine⟨m,ns m hn,fun i x v e1 e2 e3=>?_⟩;obtain⟨u,r,l⟩:=hl i x v e1 e2 e3;refine⟨u,r,?_⟩;rcases l with l |⟨k,c,e,z⟩
  ·exact .inl l
  ·exact .inr ⟨k,c,e,cellK x c e _ z⟩
 ·obtain⟨v,z⟩:=I.cell x c e;exact⟨v,cellK x c e v z⟩
 ·obtain⟨m,⟨o,_,_,ho,_⟩,_⟩:=I.loc;exact free _ o (fun z=>(JG _ z).2.1 rfl) ho I.free
 ·obtain⟨v,o,ho,hd⟩:=I.cell x c e;exact free c o (fun z=>(JG c z).2.2.1 x c e rfl) ho (I.lQ x c e)
 ·obtain⟨e,n,ne,nf,d⟩:=I.pin p hp;have Qu:p.1 ∉ ch:=fun z=>(JG p.1 z).2.2.2 p hp rfl;exact⟨keep p.1 p.2 ne nf Qu e n,free p.1 p.2 Qu e n,ne,nf,d⟩
theorem Inv.un{t':Nat}(I:Inv X pins σ H s)(u:Un X.fs [] H H' s.heap h')(cc:pB X.prog X.w H' h'):Inv X pins σ H' {s with heap:=h',toks:=t' }:=by
 obtain⟨m,⟨o,es,ep,ho,r⟩,_⟩:=id I.loc;obtain⟨sl,hL⟩:=u.any ho I.free (by simp);exact I.step (g':=s.gens) (d':=s.drawn) (ch:=[]) (fun _ z=>nomatch z) (fun b o _ hb _ e n=>u.keep b o e n hb (by simp)) (fun b o _ hb _ e n=>u.slot b o e n hb (by simp)) (fun b o _ e n=>u.free b o e n (by simp)) (fun b o _ e=>u.there b o e (by simp)) u.xH u.vX u.xI (fun m' hm=>by
  obtain⟨o',Ga,Nk,Nj,r'⟩:=hm;rw[ho] at Nj;cases Nj;exact⟨_,Ga,Nk,hL,r'⟩) cc I.bare
theorem Inv.call{g':Array GenState}{t':Nat}{d':Drawn}{ch:List zdJ}(I:Inv X pins σ H s)(u:Un (F8 X.stack) ch H H' s.heap h')(cc:pB X.prog X.w H' h')(hg:AllBare g')
 (JG:∀b∈ch,(b∈X.ex\/X.s₀.heap.objs.size<=b)/\b≠X.env.locals/\(∀x c,X.env.cells.lookup x=some c->c≠b)/\∀p∈X.pn++pins,p.1≠b) :
 Inv X pins σ H' {s with heap:=h',gens:=g',drawn:=d',toks:=t' }:=by
 obtain⟨m,⟨o,es,ep,ho,r⟩,_⟩:=id I.loc;obtain⟨sl,hL⟩:=u.any ho I.free fun z=>(JG _ z).2.1 rfl;exact I.step (ch:=ch) JG (fun b o hL hb hc e n=>u.keep b o e n (fun z=>(zag.mp (I.xK b z)).elim hL hb) hc) (fun b o _ _ hc e n=>u.any e n hc) (fun b o hc e n=>u.free b o e n hc) (fun b o hc e=>u.there b o e hc) u.xH u.vX u.xI (fun m' hm=>by
  obtain⟨o',Ga,Nk,Nj,r'⟩:=hm;rw[ho] at Nj;cases Nj;exact⟨_,Ga,Nk,hL,r'⟩) cc hg
theorem Inv.turned{t':Nat}{it:zdJ}(I:Inv X pins σ H s)(k:∀b o,b≠it->s.heap.get? b=some o->h'.get? b=some o)(hn:H it=none)(hL:it≠X.env.locals)
 (h1:it∈X.ex\/X.s₀.heap.objs.size<=it) (h2:∀x c,X.env.cells.lookup x=some c->c≠it) (h3:∀p∈X.pn++pins,p.1≠it):Inv X pins σ H {s with heap:=h',toks:=t' }:=by
 have Qv:∀b u,H b=some u->b≠it:=fun b u e z=>by rw[z,hn] at e;cases e
 refine I.step (g':=s.gens) (d':=s.drawn) (ch:=[it]) (fun b hb=>?_) (fun b o _ _ hc e _=>k b o (fun z=>hc (by simp[z])) e) (fun b o _ _ hc e _=>⟨o.slots,k b o (fun z=>hc (by simp[z])) e⟩) (fun _ _ _ _ n=>n)
  (fun b o hc e=>⟨o,k b o (fun z=>hc (by simp[z])) e⟩) (fun _ _ e=>e) (fun _ _ _ e=>e) (fun b ps e=>⟨#[],by rw[e];simp⟩) (fun m hm=>?_) (fun b u e=>?_) I.bare
 ·have e:b=it:=by simpa using hb
  subst e;exact⟨h1,hL,h2,h3⟩
 ·obtain⟨o,es,ep,ho,r⟩:=hm;exact⟨o,es,ep,k _ o (Ne.symm hL) ho,r⟩
 ·refine(I.cc b u e).zK (fun c v hc q=>k c v ?_ q) (fun _ q=>q) fun _ _ q=>q;rcases hc with z |z
  ·rw[z];exact Qv b u e
  ·exact Qv c _ z
theorem Inv.tok(I:Inv X pins σ H s)(t:Nat):Inv X pins σ H {s with toks:=t}:=I.un (h':=s.heap) (t':=t) Un.refl I.cc
theorem Inv.kept{t':Nat}(I:Inv X pins σ H s)(k:∀b u,s.heap.get? b=some u->h'.get? b=some u):Inv X pins σ H {s with heap:=h',toks:=t' }:=I.un (Un.kept k) (I.cc.kept k)
theorem Inv.laid{a:zdJ}{o:HO}{t':Nat}(I:Inv X pins σ H s)(k:∀b u,s.heap.get? b=some u->h'.get? b=some u)(hp:s.heap.objs.size<=a)(new:ck X.prog X.w (upd H a o) h' a o) :
 Inv X pins σ (upd H a o) {s with heap:=h',toks:=t' }:=I.un (Un.laid k hp (I.cc.fresh hp)) (I.cc.laid k hp new)
theorem Inv.write{x e:zdJ}{o:HO}{t':Nat}(I:Inv X pins σ H s)(mu:Qr (H x))(he:e=x\/H e=some (.own x))(k:∀b u,b≠e->s.heap.get? b=some u->h'.get? b=some u)(Pt:∃u,h'.get? e=some u)
 (new:ck X.prog X.w (upd H x o) h' x o):Inv X pins σ (upd H x o) {s with heap:=h',toks:=t' }:=I.un (Un.write mu he k Pt) (I.cc.write mu he k Pt new)
theorem Inv.Dc{Dd:List (zdJ×Obj)}(I:Inv X pins σ H s)(h:∀p∈Dd,s.heap.get? p.1=some p.2/\H p.1=none/\p.1≠X.env.locals/\p.1 ∉ X.fs/\∀v,p.2.data≠.cell v):Inv X Dd σ H s:=
 ⟨I.ok,I.os,I.bare,I.base,I.loc,I.cell,I.free,I.lQ,fun p hp=>(zak.mp hp).elim (fun z=>I.pin p (zb5 _ z)) (h p),I.cc,I.len⟩
theorem zL{N:List Str}(hN:N.Nodup){i j:Nat}{x:Str}(a:N[i]?=some x)(b:N[j]?=some x):i=j:=by
 obtain⟨h1,e1⟩:=zah.mp a;obtain⟨h2,e2⟩:=zah.mp b;exact(zb6 hN).mp (e1.trans e2.symm)
theorem wN{M:Model}{A:zdU}{E:zdK->zdT->Prop}{i:Nat}{x:Str}{v:V}{u:zdK}{Q:Unit->zdT->Prop}(I:Inv X pins σ H s)(hN:X.N.Nodup)(hi:X.N[i]?=some x)(hx:Loc X.env.scope x)(r:RelV v u)
 (h:∀s',Inv X pins (σ.set i (some v)) H s'->(∃a,Heap.SameBut a s.heap s'.heap/\(a=X.env.locals\/X.env.cells.lookup x=some a))->Q () s') (hf:X.fn x=true\/X.env.scope.names.lookup x=some .local:=by first |exact .inl rfl |exact .inr rfl |assumption):wpAny M A (storeName X.env x u) Q E s:=by
 obtain⟨m,hn,hl⟩:=id I.loc;have Uy:(X.env.scope.kind==.class ||(X.env.scope.kind==.module&&X.env.locals != X.env.globals))=false:=by rw[I.ok.kind];rfl
 have Qw:i<σ.length:=by rw[I.len];exact(zah.mp hi).1
 have Ni:=I.Ni;have tracked:∀ {a:zdJ} {h':Heap},(∃o,s.heap.get? a=some o/\H a=none)->Heap.SameBut a s.heap h'->pB X.prog X.w H h':=fun {a h'} ha hs b ob e=>by
  obtain⟨_,_,ml⟩:=ha;refine(I.cc b ob e).zK (fun c w' hc q=>(hs.2 c ?_).trans q) (fun _ q=>q) fun _ _ q=>q
  rintro rfl
  rcases hc with rfl |hc
  ·rw[ml] at e;cases e
  ·rw[ml] at hc;cases hc
 rcases hx with hk |hk
 ·refine wpAny_storeName_local hk hn (fun h' hn' hs=>?_) Uy;obtain⟨oL,_,_,Qx,_⟩:=id hn;refine h _ ⟨I.ok,I.os,I.bare,⟨fun b o e n hb hx=>?_,fun b o e n hb hx=>?_,I.base.free,fun b o e hx=>?_,I.base.xH,I.base.vX,I.base.xI⟩,⟨_,hn',fun j y v' e1 e2 e3=>?_⟩,fun y c e=>?_,I.free,I.lQ,fun p hp=>?_,tracked ⟨oL,Qx,I.free⟩ hs,by simpa using I.len⟩ ⟨_,hs,.inl rfl⟩
  ·exact(hs.2 b (zat (zay (Heap.lt_size e) I.ok.above))).trans (I.base.keep b o e n hb hx)
  ·obtain⟨sl,e1⟩:=I.base.slot b o e n hb hx;exact⟨sl,(hs.2 b (zat (zay (Heap.lt_size e) I.ok.above))).trans e1⟩
  ·obtain⟨o',e1⟩:=I.base.there b o e hx;exact⟨o',(hs.2 b (zat (zay (Heap.lt_size e) I.ok.above))).trans e1⟩
  ·by_cases hj:j=i
   ·subst hj;rw[hi] at e1;cases e1;rw[zcn Qw] at e2;cases e2;exact⟨u,r,.inl ⟨hk,by simp⟩⟩
   ·rw[zcx (Ne.symm hj)] at e2;obtain⟨u',r',q⟩:=hl j y v' e1 e2 e3;refine⟨u',r',?_⟩;rcases q with ⟨k,e⟩ |⟨k,c,e,z⟩
    ·refine .inl ⟨k,?_⟩;have:y≠x:=fun e=>hj (zL hN e1 (e▸hi));simp[this,e]
    ·exact .inr ⟨k,c,e,z.sameBut hs (Ni y c e)⟩
  ·obtain⟨w',z⟩:=I.cell y c e;exact⟨w',z.sameBut hs (Ni y c e)⟩
  ·obtain⟨e,n,ne,nf,d⟩:=I.pin p hp;exact⟨(hs.2 p.1 ne).trans e,n,ne,nf,d⟩
 ·have Qy:X.fn x=true:=by
   rcases hf with z |z
   ·exact z
   ·rw[z] at hk;cases hk
  obtain⟨c,hc⟩:=I.ok.has x (.inl hk);obtain⟨w',z⟩:=I.cell x c hc;refine wpAny_storeName_cell I.ok.kind hk hc z (fun h' Qz hs=>?_);obtain⟨oc,Yc,Uz⟩:=id z;refine h {s with heap:=h' } ⟨I.ok,I.os,I.bare,⟨fun b o e n hb hx=>?_,fun b o e n hb hx=>?_,I.base.free,fun b o e hx=>?_,I.base.xH,I.base.vX,I.base.xI⟩,⟨m,hn.sameBut hs (Ne.symm (Ni x c hc)),fun j y v' e1 e2 e3=>?_⟩,fun y c' e=>?_,I.free,I.lQ,fun p hp=>?_,tracked ⟨oc,Yc,I.lQ x c hc⟩ hs,by simpa using I.len⟩ ⟨c,hs,.inr hc⟩
  ·exact(hs.2 b (zat (zay (Heap.lt_size e) (I.ok.Qt x c Qy hc)))).trans (I.base.keep b o e n hb hx)
  ·obtain⟨sl,e1⟩:=I.base.slot b o e n hb hx;exact⟨sl,(hs.2 b (zat (zay (Heap.lt_size e) (I.ok.Qt x c Qy hc)))).trans e1⟩
  ·obtain⟨o',e1⟩:=I.base.there b o e hx;exact⟨o',(hs.2 b (zat (zay (Heap.lt_size e) (I.ok.Qt x c Qy hc)))).trans e1⟩
  ·by_cases hj:j=i
   ·subst hj;rw[hi] at e1;cases e1;rw[zcn Qw] at e2;cases e2;exact⟨u,r,.inr ⟨.inl hk,c,hc,Qz⟩⟩
   ·rw[zcx (Ne.symm hj)] at e2;obtain⟨u',r',q⟩:=hl j y v' e1 e2 e3;refine⟨u',r',?_⟩;rcases q with q |⟨k,c',e,z'⟩
    ·exact .inl q
    ·refine .inr ⟨k,c',e,z'.sameBut hs ?_⟩
     rintro rfl
     exact hj (zL hN e1 (I.ok.inj _ _ _ e hc▸hi))
  ·by_cases Yd:c'=c
   ·subst Yd;exact⟨_,Qz⟩
   ·obtain⟨w2,z2⟩:=I.cell y c' e;exact⟨w2,z2.sameBut hs Yd⟩
  ·obtain⟨e,n,ne,nf,d⟩:=I.pin p hp;refine⟨(hs.2 p.1 ?_).trans e,n,ne,nf,d⟩;intro q;rw[q,Yc] at e;have q':oc=p.2:=zaH.inj e;exact d w' (by rw[<- q'];exact Uz)
theorem zM{M:Model}{A:zdU}{E:zdK->zdT->Prop}{i:Nat}{x:Str}{v:V}{u:zdK}{Q:Unit->zdT->Prop}(I:Inv X pins σ H s)(hN:X.N.Nodup)(hi:X.N[i]?=some x)(hx:Loc X.env.scope x)(r:RelV v u)
 (h:∀s',Inv X pins (σ.set i (some v)) H s'->Q () s') (hf:X.fn x=true\/X.env.scope.names.lookup x=some .local:=by first |exact .inl rfl |exact .inr rfl |assumption):wpAny M A (storeName X.env x u) Q E s:=
 wN I hN hi hx r (fun s' I' _=>h s' I') hf
theorem Inv.QA{s':zdT}{ch:List zdJ}(I:Inv X pins σ H s)(ho:s'.os=s.os)(u:Un (F8 X.stack) ch H H' s.heap s'.heap)(cc:pB X.prog X.w H' s'.heap)(hg:AllBare s'.gens)
 (JG:∀b∈ch,(b∈X.ex\/X.s₀.heap.objs.size<=b)/\b≠X.env.locals/\(∀x c,X.env.cells.lookup x=some c->c≠b)/\∀p∈X.pn++pins,p.1≠b):Inv X pins σ H' s':=by
 obtain⟨h',g',d',t',o'⟩:=s';have e:o'=s.os:=ho;subst e;exact I.call (g':=g') (t':=t') (d':=d') u cc hg JG
end
abbrev XK:=zdK->Option zdJ->Hp->Prop
abbrev St:=List (Option V)
abbrev VK:=V->Hp->Prop
abbrev TE:=St->Hp->VK->Prop
abbrev TT:=St->Hp->(Bool->Hp->Prop)->Prop
abbrev TA:=St->Hp->(List V->Hp->Prop)->Prop
structure Ends where
 nx:St->Hp->Prop
 rt:VK
 bk:St->Hp->Prop:=fun _ _=>False
 ct:St->Hp->Prop:=fun _ _=>False
abbrev TS:=Ends->St->Hp->Prop
def EP (X:Cx) (pins:List (zdJ×Obj)) (σ:St) (Q:VK) (u:zdK) (s':zdT):Prop:=∃v H',Inv X pins σ H' s'/\RelV v u/\Q v H'
def TP (X:Cx) (pins:List (zdJ×Obj)) (σ:St) (Q:Bool->Hp->Prop) (b:Bool) (s':zdT):Prop:=∃H',Inv X pins σ H' s'/\Q b H'
def AP (X:Cx) (pins:List (zdJ×Obj)) (σ:St) (Q:List V->Hp->Prop) (us:List zdK) (s':zdT):Prop:=∃vs H',Inv X pins σ H' s'/\Vals vs us/\Q vs H'
def SP (X:Cx) (pins:List (zdJ×Obj)) (D:Ends) (f:Flow) (s':zdT):Prop:=
 match f with
 |.next=>∃σ' H',Inv X pins σ' H' s'/\D.nx σ' H'
 |.brk=>∃σ' H',Inv X pins σ' H' s'/\D.bk σ' H'
 |.cont=>∃σ' H',Inv X pins σ' H' s'/\D.ct σ' H'
 |.ret u=>∃v σ' H',Inv X pins σ' H' s'/\RelV v u/\D.rt v H'
def PE (X:Cx) (e:Expr) (t:TE):Prop:=
 ∀(pins:List (zdJ×Obj)) (s:zdT) (σ:St) (H:Hp) (Q:VK),Inv X pins σ H s->t σ H Q->wpAny (model X.prog X.w) X.A (eval e X.env) (EP X pins σ Q) X.xe s
def PT (X:Cx) (e:Expr) (t:TT):Prop:=
 ∀(pins:List (zdJ×Obj)) (s:zdT) (σ:St) (H:Hp) (Q:Bool->Hp->Prop),Inv X pins σ H s->t σ H Q->wpAny (model X.prog X.w) X.A (isTrue e X.env (eval e X.env)) (TP X pins σ Q) X.xe s
def PW (X:Cx) (e:Expr) (t:TT):Prop:=
 ∀(whole:Sem zdK) (pins:List (zdJ×Obj)) (s:zdT) (σ:St) (H:Hp) (Q:Bool->Hp->Prop),Inv X pins σ H s->t σ H Q->wpAny (model X.prog X.w) X.A (isTrue e X.env whole) (TP X pins σ Q) X.xe s
theorem PW.pt{X:Cx}{e:Expr}{t:TT}(h:PW X e t):PT X e t:=h _
def PA (X:Cx) (es:List Expr) (t:TA):Prop:=
 ∀(pos:Pos) (pins:List (zdJ×Obj)) (s:zdT) (σ:St) (H:Hp) (Q:List V->Hp->Prop),Inv X pins σ H s->t σ H Q->wpAny (model X.prog X.w) X.A (spliced (backTo pos (zdP es X.env))) (AP X pins σ Q) X.xe s
def PS (X:Cx) (st:Stmt) (t:TS):Prop:=
 ∀(pins:List (zdJ×Obj)) (s:zdT) (σ:St) (H:Hp) (D:Ends),Inv X pins σ H s->t D σ H->wpAny (model X.prog X.w) X.A (exec st X.env) (SP X pins D) X.xe s
def De (X:Cx) (st:List Stmt) (t:TS):Prop:=
 ∀(pins:List (zdJ×Obj)) (s:zdT) (σ:St) (H:Hp) (D:Ends),Inv X pins σ H s->t D σ H->wpAny (model X.prog X.w) X.A (execs st X.env) (SP X pins D) X.xe s
theorem cS{α:Type}{t:Sem α}{Q Q':α->zdT->Prop}{M:Model}{A:zdU}{E:zdK->zdT->Prop}{s:zdT}(h:wpAny M A t Q E s)(hQ:∀a s,Q a s->Q' a s):wpAny M A t Q' E s:=wpAny_mono h hQ fun _ _ x=>x
section
variable{X:Cx}
theorem bin{a b:Expr}{ta tb:TE}(ha:PE X a ta)(hb:PE X b tb){pins:List (zdJ×Obj)}{s:zdT}{σ:St}{H:Hp}{R:V->V->Hp->Prop}(I:Inv X pins σ H s)(h:ta σ H fun x H1=>tb σ H1 fun y H2=>R x y H2)
 {α:Type} {Q:α->zdT->Prop} {f:zdK->zdK->Sem α}
 (hf:∀v u s2 x y H2,Inv X pins σ H2 s2->RelV x v->RelV y u->R x y H2->wpAny (model X.prog X.w) X.A (f v u) Q X.xe s2) :
 wpAny (model X.prog X.w) X.A (eval a X.env) (fun v s₁=>wpAny (model X.prog X.w) X.A (eval b X.env) (fun u s₂=>wpAny (model X.prog X.w) X.A (f v u) Q X.xe s₂) X.xe s₁) X.xe s:=by
 refine cS (ha pins s σ H _ I h) fun v s1 zqz=>?_;obtain⟨x,H1,I1,r1,q1⟩:=zqz;refine cS (hb pins s1 σ H1 _ I1 q1) fun u s2 zqz=>?_;obtain⟨y,H2,I2,r2,q2⟩:=zqz;exact hf v u s2 x y H2 I2 r1 r2 q2
def Ye (Q:V->Prop):Option (Option V)->Prop
 |some (some v)=>Q v
 |_=>False
theorem Nl{Q:V->Prop}:∀ {o:Option (Option V)},Ye Q o->∃v,o=some (some v)/\Q v
 |some (some v),h=>⟨v,rfl,h⟩
 |some none,h=>h.elim
 |none,h=>h.elim
def dM (i:Nat):TE:=fun σ H Q=>Ye (fun v=>Q v H) σ[i]?
def tC (v:V):TE:=fun _ H Q=>Q v H
theorem Nm{i:Nat}{x:Str}{pos:Pos}(hN:X.N[i]?=some x)(hv:Tj X.env.scope x)(hd:(x==("__debug__":Str))=false:=by decide)(Gb:(x==("__classdict__":Str))=false:=by decide):PE X (.Name x pos) (dM i):=by
 intro pins s σ H Q I h;obtain⟨v,e,h⟩:=Nl h;obtain⟨m,hn,hl⟩:=I.loc;obtain⟨u,r,l⟩:=hl i x v hN e hv;have fin:EP X pins σ Q u s:=⟨v,H,I,r,h⟩
 rcases l with ⟨hk,hm⟩ |⟨hk,c,hc,wO⟩
 ·exact wpAny_Name (wpAny_loadName_local I.ok.kind hk hn hm fin) hd
 ·rcases hk with hk |hk
  ·exact wpAny_Name (wpAny_loadName_cell I.ok.kind hk hc wO fin) hd
  ·exact wpAny_Name (wpAny_loadName_free I.ok.kind hk hc wO fin Gb) hd
theorem ak{i j pos}:PE X (.Constant (.int i) j pos) (tC (.int i)):=fun _ _ _ H _ I h=>wpAny_Constant_int ⟨.int i,H,I.tok _,⟨_,rfl⟩,h⟩
theorem jw{b j pos}:PE X (.Constant (.bool b) j pos) (tC (.bl b)):=fun _ _ _ H _ I h=>Constant_bool ⟨.bl b,H,I,rfl,h⟩
theorem kT{j pos}:PE X (.Constant .none j pos) (tC .bI):=fun _ _ _ H _ I h=>Constant_none ⟨.bI,H,I,rfl,h⟩
theorem bG{x j pos}:PE X (.Constant (.str x) j pos) (tC (.str x)):=fun _ _ _ H _ I h=>Calls.Constant_str ⟨.str x,H,I.tok _,⟨_,rfl⟩,h⟩
def Gl (X:Cx) (x:Str):Prop:=X.env.kindOf x=some .globalImplicit
theorem xM{E:zdK->zdT->Prop}{pins:List (zdJ×Obj)}{s:zdT}{σ:St}{H:Hp}{x:Str}{u:zdK}{pos:Pos}{Q:zdK->zdT->Prop}(I:Inv X pins σ H s)(hg:Gl X x)(hm:X.mg x=some u)(h:Q u s)
 (hd:(x==("__debug__":Str))=false:=by decide):wpAny (model X.prog X.w) X.A (eval (.Name x pos) X.env) Q E s:=
 Calls.Name_function_global I.ok.kind hg (Calls.loadGlobal_global (by rw[I.ok.glob];exact I.mod.glob.keeps I.bk) hm h) hd
theorem kU{E:zdK->zdT->Prop}{pins:List (zdJ×Obj)}{s:zdT}{σ:St}{H:Hp}{x:Str}{u:zdK}{pos:Pos}{Q:zdK->zdT->Prop}(I:Inv X pins σ H s)(hg:Gl X x)(hm:X.mg x=none)(hv:bootBuiltins x=some u)(h:Q u s)
 (hn:x≠"__name__":=by decide) (hd:(x==("__debug__":Str))=false:=by decide):wpAny (model X.prog X.w) X.A (eval (.Name x pos) X.env) Q E s:=by
 obtain⟨mb,h1,h2⟩:=I.mod.blt;exact Calls.Name_function_global I.ok.kind hg (Calls.loadGlobal_builtin (by rw[I.ok.glob];exact I.mod.glob.keeps I.bk) hm (by rw[I.ok.blt];exact h1.keeps I.bk) ((h2 x hn).trans hv) h) hd
theorem tj{x:Str}{v:V}{u:zdK}{pos:Pos}(hg:Gl X x)(hm:X.mg x=some u)(r:RelV v u)(hd:(x==("__debug__":Str))=false:=by decide):PE X (.Name x pos) (tC v):=
 fun _ _ _ H _ I h=>xM I hg hm ⟨v,H,I,r,h⟩ hd
theorem J0{x:Str}{v:V}{u:zdK}{pos:Pos}(hg:Gl X x)(hm:X.mg x=none)(hv:bootBuiltins x=some u)(r:RelV v u)(hn:x≠"__name__":=by decide)(hd:(x==("__debug__":Str))=false:=by decide):PE X (.Name x pos) (tC v):=
 fun _ _ _ H _ I h=>kU I hg hm hv ⟨v,H,I,r,h⟩ hn hd
variable{a b:Expr}{ta tb:TE}{pos:Pos}
def PC (X:Cx) (op:CmpOp) (a b:Expr) (t:TE):Prop:=
 ∀(pins:List (zdJ×Obj)) (s:zdT) (σ:St) (H:Hp) (Q:VK),Inv X pins σ H s->t σ H Q->
  wpAny (model X.prog X.w) X.A (eval a X.env) (fun v s₁=>wpAny (model X.prog X.w) X.A (eval b X.env) (fun u s₂=>wpAny (model X.prog X.w) X.A (compareOp op v u) (EP X pins σ Q) X.xe s₂) X.xe s₁) X.xe s
theorem zN(b:Expr){op:CmpOp}(h:op≠.In)(h2:op≠.NotIn):behindInMarks op b=false:=by
 have e1:(op==CmpOp.In)=false:=by cases op<;>first |rfl |exact absurd rfl h
 have e2:(op==CmpOp.NotIn)=false:=by cases op<;>first |rfl |exact absurd rfl h2
 cases b<;>simp[behindInMarks,e1,e2]
def tB (t:TE):TT:=fun σ H Q=>t σ H fun x H1=>∃c,x=.bl c/\Q c H1
theorem Gd{op:CmpOp}{t:TE}(h:PC X op a b t)(h1:behindInMarks op b=false:=by first |exact zN _ (by decide) (by decide) |rfl):PE X (.Compare a [op] [b] pos) t:=fun pins s σ H Q I hw=>wpAny_Compare1 (h pins s σ H Q I hw) h1
theorem Nn{op:CmpOp}{t:TE}(h:PC X op a b t)(h1:behindInMarks op b=false:=by first |exact zN _ (by decide) (by decide) |rfl):PT X (.Compare a [op] [b] pos) (tB t):=by
 intro pins s σ H Q I hw;refine wpAny_isTrue_Compare1 (cS (h pins s σ H _ I hw) fun v s1 h1=>cS h1 fun u s2 h2=>cS h2 fun c s3 zqz=>?_) h1;obtain⟨x,H1,I1,r1,q1⟩:=zqz;obtain⟨d,rfl,q⟩:=q1;cases r1;exact wpAny_truthy_bool ⟨H1,I1,q⟩
theorem gY{e:Expr}{t:TE}(h:PE X e t)(he:∀whole,isTrue e X.env whole=(do let v <- whole;standAt e.pos;holding [v] (truthy v)):=by intro _;rfl):PT X e (tB t):=by
 intro pins s σ H Q I hw;refine isTrue_plain (cS (h pins s σ H _ I hw) fun v s1 zqz=>?_) (he _);obtain⟨x,H1,I1,r1,q1⟩:=zqz;obtain⟨d,rfl,q⟩:=q1;cases r1;exact wpAny_truthy_bool ⟨H1,I1,q⟩
variable{tA Tp:TT}{rest:List Expr}
def Ep (t u:TT):TT:=fun σ H Q=>t σ H fun c H1=>if c=true then u σ H1 Q else Q false H1
def Pu (t u:TT):TT:=fun σ H Q=>t σ H fun c H1=>if c=true then Q true H1 else u σ H1 Q
def QB (t:TT):TT:=fun σ H Q=>t σ H fun c H1=>Q (!c) H1
theorem pw_and1(ha:PT X a tA):PW X (.BoolOp .And [a] pos) tA:=by
 intro wh pins s σ H Q I h;refine isTrue_and (cS (ha pins s σ H Q I h) fun c s1 e=>?_);cases c with
 |true=>exact isTrue_and_nil e
 |false=>exact e
theorem pw_or1(ha:PT X a tA):PW X (.BoolOp .Or [a] pos) tA:=by
 intro wh pins s σ H Q I h;refine isTrue_or (cS (ha pins s σ H Q I h) fun c s1 e=>?_);cases c with
 |false=>exact isTrue_or_nil e
 |true=>exact e
theorem pw_and(ha:PT X a tA)(hb:PW X (.BoolOp .And (b::rest) pos) Tp):PW X (.BoolOp .And (a::b::rest) pos) (Ep tA Tp):=by
 intro wh pins s σ H Q I h;refine isTrue_and (cS (ha pins s σ H _ I h) fun c s1 zqz=>?_);obtain⟨H1,I1,q1⟩:=zqz;cases c with
 |true=>exact hb wh pins s1 σ H1 Q I1 q1
 |false=>exact⟨H1,I1,q1⟩
theorem pw_or(ha:PT X a tA)(hb:PW X (.BoolOp .Or (b::rest) pos) Tp):PW X (.BoolOp .Or (a::b::rest) pos) (Pu tA Tp):=by
 intro wh pins s σ H Q I h;refine isTrue_or (cS (ha pins s σ H _ I h) fun c s1 zqz=>?_);obtain⟨H1,I1,q1⟩:=zqz;cases c with
 |true=>exact⟨H1,I1,q1⟩
 |false=>exact hb wh pins s1 σ H1 Q I1 q1
theorem ua(ha:PT X a tA):PT X (.UnaryOp .Not a pos) (QB tA):=by
 intro pins s σ H Q I h;exact isTrue_not (ha pins s σ H (fun c H1=>Q (!c) H1) I h)
def wQ (ta tb:TE):TE:=fun σ H Q=>ta σ H fun x H1=>∃c,x=.bl c/\if c=true then tb σ H1 Q else Q (.bl false) H1
def Er (ta tb:TE):TE:=fun σ H Q=>ta σ H fun x H1=>∃c,x=.bl c/\if c=true then Q (.bl true) H1 else tb σ H1 Q
def wR (ta:TE):TE:=fun σ H Q=>ta σ H fun x H1=>∃c,x=.bl c/\Q (.bl (!c)) H1
theorem xN{op}{t:TE}(h:PE X a t):PE X (.BoolOp op [a] pos) t:=fun pins s σ H Q I hw=>BoolOp_one (h pins s σ H Q I hw)
theorem Bz(ha:PE X a ta)(hb:PE X (.BoolOp .And (b::rest) pos) tb):PE X (.BoolOp .And (a::b::rest) pos) (wQ ta tb):=by
 intro pins s σ H Q I h;refine BoolOp_and (cS (ha pins s σ H _ I h) fun v s1 zqz=>?_);obtain⟨x,H1,I1,r1,q1⟩:=zqz;obtain⟨c,rfl,q1⟩:=q1;cases r1;refine wpAny_truthy_bool ?_;cases c with
 |true=>exact hb pins s1 σ H1 Q I1 q1
 |false=>exact⟨.bl false,H1,I1,rfl,q1⟩
theorem L7(ha:PE X a ta)(hb:PE X (.BoolOp .Or (b::rest) pos) tb):PE X (.BoolOp .Or (a::b::rest) pos) (Er ta tb):=by
 intro pins s σ H Q I h;refine BoolOp_or (cS (ha pins s σ H _ I h) fun v s1 zqz=>?_);obtain⟨x,H1,I1,r1,q1⟩:=zqz;obtain⟨c,rfl,q1⟩:=q1;cases r1;refine wpAny_truthy_bool ?_;cases c with
 |false=>exact hb pins s1 σ H1 Q I1 q1
 |true=>exact⟨.bl true,H1,I1,rfl,q1⟩
theorem Np(ha:PE X a ta):PE X (.UnaryOp .Not a pos) (wR ta):=by
 intro pins s σ H Q I h;refine UnaryOp_ (cS (ha pins s σ H _ I h) fun v s1 zqz=>?_);obtain⟨x,H1,I1,r1,q1⟩:=zqz;obtain⟨c,rfl,q1⟩:=q1;cases r1;exact not_of (wpAny_truthy_bool ⟨.bl (!c),H1,I1,rfl,q1⟩)
def Px (t:TT) (ta tb:TE):TE:=fun σ H Q=>t σ H fun c H1=>if c=true then ta σ H1 Q else tb σ H1 Q
theorem ub{c:Expr}(hc:PT X c tA)(ha:PE X a ta)(hb:PE X b tb):PE X (.IfExp c a b pos) (Px tA ta tb):=by
 intro pins s σ H Q I h;refine wpAny_IfExp (cS (hc pins s σ H _ I h) fun d s1 zqz=>?_);obtain⟨H1,I1,q1⟩:=zqz;cases d with
 |true=>exact ha pins s1 σ H1 Q I1 q1
 |false=>exact hb pins s1 σ H1 Q I1 q1
end
def fU (K:zab) (H:Hp) (a:zdJ) (xs:List V):Prop:=
 Rd H a (.lst xs)\/
  ∃(o:Obj) (aY:Array zdK) (n:Nat),K.lookup a=some o/\o.cls=.type "list"/\o.dict=none/\o.data=.seq aY n/\aY.size<=zdR/\Vals xs aY.toList
def cF (K:zab) (H:Hp) (a:zdJ) (xs:List V):Prop:=
 Rd H a (.tup xs)\/
  ∃(o:Obj) (aY:Array zdK) (n:Nat),K.lookup a=some o/\o.cls=.type "tuple"/\o.data=.seq aY n/\aY.size<=zdR/\Vals xs aY.toList
def UG:zdK->Option V
 |.none=>some .bI
 |.bool b=>some (.bl b)
 |.int i _=>some (.int i)
 |.str x _=>some (.str x)
 |.bytes b _=>some (.C7 b)
 |.float b _=>some (.Nc b)
 |.ref a=>some (.ref a)
 |.type n=>some (.ty n)
 |_=>none
theorem RelV.abs{x:V}{u:zdK}(r:RelV x u):UG u=some x:=by
 cases x with
 |bI=>cases r;rfl
 |bl _=>cases r;rfl
 |int _=>obtain⟨t,rfl⟩:=r;rfl
 |str _=>obtain⟨t,rfl⟩:=r;rfl
 |C7 _=>obtain⟨t,rfl⟩:=r;rfl
 |Nc _=>obtain⟨t,rfl⟩:=r;rfl
 |ref _=>cases r;rfl
 |ty _=>cases r;rfl
theorem RelV.inj{x y:V}{u:zdK}(r:RelV x u)(q:RelV y u):x=y:=zaH.inj (r.abs.symm.trans q.abs)
theorem Vals.inj:∀ {xs ys:List V} {us:List zdK},Vals xs us->Vals ys us->xs=ys
 |_,_,_,.nil,.nil=>rfl
 |_,_,_,.cons r t,.cons r' t'=>by rw[r.inj r',Vals.inj t t']
section
variable{X:Cx}{pins:List (zdJ×Obj)}{σ:St}{H:Hp}{s:zdT}{a:zdJ}{xs ys:List V}
theorem fU.of{K:zab}(h:H a=some (.lst xs)):fU K H a xs:=.inl (.inl h)
theorem cF.of{K:zab}(h:H a=some (.tup xs)):cF K H a xs:=.inl (.inl h)
theorem Inv.list(I:Inv X pins σ H s)(h:fU X.K H a xs):∃aY:List zdK,Vals xs aY/\PlainL s.heap a aY.toArray/\xs.length<=zdR:=by
 rcases h with h |⟨o,aY,n,hk,hc,hd,hs,hz,r⟩
 ·obtain⟨z,aY,n,r,e⟩:=h.ok I.cc;exact⟨aY,r,⟨_,n,e,rfl,rfl,rfl⟩,z⟩
 ·refine⟨aY.toList,r,⟨o,n,I.vP a o hk,hc,hd,by simpa using hs⟩,?_⟩;have e:=r.length;simp only[zaN] at e;lia
theorem Inv.tuple(I:Inv X pins σ H s)(h:cF X.K H a xs):∃aY:List zdK,Vals xs aY/\IsTup s.heap a aY.toArray/\xs.length<=zdR:=by
 rcases h with h |⟨o,aY,n,hk,hc,hs,hz,r⟩
 ·obtain⟨z,aY,r,p⟩:=h.ok I.cc;exact⟨aY,r,p,z⟩
 ·refine⟨aY.toList,r,⟨o,I.vP a o hk,hc,n,by simpa using hs⟩,?_⟩;have e:=r.length;simp only[zaN] at e;lia
theorem Inv.zO(I:Inv X pins σ H s)(h:fU X.K H a xs)(h':fU X.K H a ys):xs=ys:=by
 obtain⟨aY,r,⟨o,n,e,_,_,d⟩,_⟩:=I.list h;obtain⟨its',r',⟨o',n',e',_,_,d'⟩,_⟩:=I.list h';rw[e] at e';cases e';rw[d] at d'
 injection d' with d1 _
 have:aY=its':=by simpa using congrArg Array.toList d1
 subst this;exact r.inj r'
theorem Inv.nh(I:Inv X pins σ H s)(h:cF X.K H a xs)(h':cF X.K H a ys):xs=ys:=by
 obtain⟨aY,r,⟨o,e,_,n,d⟩,_⟩:=I.tuple h;obtain⟨its',r',⟨o',e',_,n',d'⟩,_⟩:=I.tuple h';rw[e] at e';cases e';rw[d] at d'
 injection d' with d1 _
 have:aY=its':=by simpa using congrArg Array.toList d1
 subst this;exact r.inj r'
end
abbrev Cx.vY (X:Cx) (E:zdK->zdT->Prop):Cx:={X with xe:=E}
abbrev Cx.QC (X:Cx):Cx:=X.vY fun _ _=>False
theorem Cx.Ok.vY{X:Cx}(ok:X.Ok)(E:zdK->zdT->Prop):(X.vY E).Ok:=
 ⟨ok.mod,ok.kind,ok.glob,ok.blt,ok.above,ok.inj,ok.has,ok.Qt,ok.hd,ok.frames,ok.Tn,ok.Ya,ok.bs,ok.JY,ok.F9,ok.JZ,ok.sM,ok.Nh⟩
theorem Cx.Ok.mq{X:Cx}{E:zdK->zdT->Prop}(ok:(X.vY E).Ok):X.Ok:=
 ⟨ok.mod,ok.kind,ok.glob,ok.blt,ok.above,ok.inj,ok.has,ok.Qt,ok.hd,ok.frames,ok.Tn,ok.Ya,ok.bs,ok.JY,ok.F9,ok.JZ,ok.sM,ok.Nh⟩
section
variable{X:Cx}{pins:List (zdJ×Obj)}{σ:St}{H:Hp}{s:zdT}{E:zdK->zdT->Prop}
theorem Inv.vY(I:Inv X pins σ H s)(E:zdK->zdT->Prop):Inv (X.vY E) pins σ H s:=⟨I.ok.vY E,I.os,I.bare,I.base,I.loc,I.cell,I.free,I.lQ,I.pin,I.cc,I.len⟩
theorem Inv.mq(I:Inv (X.vY E) pins σ H s):Inv X pins σ H s:=⟨I.ok.mq,I.os,I.bare,I.base,I.loc,I.cell,I.free,I.lQ,I.pin,I.cc,I.len⟩
theorem SP.mq{D:Ends}{f:Flow}{s':zdT}(h:SP (X.vY E) pins D f s'):SP X pins D f s':=by
 cases f with
 |next=>obtain⟨σ',H',I,q⟩:=h;exact⟨σ',H',I.mq,q⟩
 |brk=>obtain⟨σ',H',I,q⟩:=h;exact⟨σ',H',I.mq,q⟩
 |cont=>obtain⟨σ',H',I,q⟩:=h;exact⟨σ',H',I.mq,q⟩
 |ret u=>obtain⟨v,σ',H',I,r,q⟩:=h;exact⟨v,σ',H',I.mq,r,q⟩
theorem De.QC{st:List Stmt}{t:TS}(h:De X.QC st t):De X st t:=fun pins s σ H D I hw=>
 wpAny_mono (h pins s σ H D (I.vY _) hw) (fun _ _ q=>q.mq) fun _ _ z=>False.elim z
end
section
variable{X:Cx}{st:Stmt}{rest:List Stmt}{t u:TS}{e:Expr}{te:TE}{pos:Pos}
def wU:TS:=fun D σ H=>D.nx σ H
def BA (t u:TS):TS:=fun D σ H=>t {D with nx:=u D} σ H
theorem aW:De X [] wU:=fun _ _ σ H _ I h=>wpAny_execs_nil ⟨σ,H,I,h⟩
theorem ao(h1:PS X st t)(h2:De X rest u):De X (st::rest) (BA t u):=by
 intro pins s σ H D I h;refine wpAny_execs_cons (cS (h1 pins s σ H {D with nx:=u D} I h) fun f s1 q=>?_);cases f with
 |next=>
  obtain⟨σ',H',I',q⟩:=q;exact h2 pins s1 σ' H' D I' q
 |ret v=>exact q
 |brk=>exact q
 |cont=>exact q
theorem au(h1:PS X st t):De X [st] t:=by
 intro pins s σ H D I h;refine wpAny_execs_cons (cS (h1 pins s σ H D I h) fun f s1 q=>?_);cases f with
 |next=>exact wpAny_execs_nil q
 |ret v=>exact q
 |brk=>exact q
 |cont=>exact q
theorem Inv.quiet{pins:List (zdJ×Obj)}{σ:St}{H:Hp}{s:zdT}(I:Inv X pins σ H s):interactive X.env=false:=by simp[interactive,I.ok.kind]
def wV (te:TE):TS:=fun D σ H=>te σ H fun _ H1=>D.nx σ H1
theorem dF(he:PE X e te)(hs:swapsWith e none pos.line X.env=pure false:=by rfl):PS X (.Expr e pos) (wV te):=by
 intro pins s σ H D I h;exact wpAny_Expr_any (cS (he pins s σ H _ I h) fun v s1 ⟨x,H1,I1,r1,q1⟩=>⟨σ,H1,I1,q1⟩) I.quiet hs
def Es (te:TE):TS:=fun D σ H=>te σ H D.rt
theorem aH(he:PE X e te):PS X (.Return (some e) pos) (Es te):=by
 intro pins s σ H D I h;exact wpAny_Return_some (cS (he pins s σ H _ I h) fun v s1 ⟨x,H1,I1,r1,q1⟩=>⟨x,σ,H1,I1,r1,q1⟩)
def vZ (c:TT) (t u:TS):TS:=fun D σ H=>c σ H fun b H1=>if b=true then t D σ H1 else u D σ H1
theorem bB{c:Expr}{a b:List Stmt}{tc:TT}(hc:PT X c tc)(ha:De X a t)(hb:De X b u):PS X (.If c a b pos) (vZ tc t u):=by
 intro pins s σ H D I h;refine wpAny_If (cS (hc pins s σ H _ I h) fun d s1 zqz=>?_);obtain⟨H1,I1,q1⟩:=zqz;cases d with
 |true=>exact ha pins s1 σ H1 D I1 q1
 |false=>exact hb pins s1 σ H1 D I1 q1
end
abbrev TG:=V->St->Hp->(St->Hp->Prop)->Prop
abbrev L8:=List V->St->Hp->(St->Hp->Prop)->Prop
def PG (X:Cx) (target:Expr) (t:TG):Prop:=
 ∀(pins:List (zdJ×Obj)) (s:zdT) (σ:St) (H:Hp) (v:V) (u:zdK) (Q:St->Hp->Prop),Inv X pins σ H s->RelV v u->t v σ H Q->
  wpAny (model X.prog X.w) X.A (assign target X.env u) (fun _ s'=>∃σ' H',Inv X pins σ' H' s'/\Q σ' H') X.xe s
def QD (X:Cx) (ts:List Expr) (t:L8):Prop:=
 ∀(pins:List (zdJ×Obj)) (s:zdT) (σ:St) (H:Hp) (vs:List V) (us:List zdK) (Q:St->Hp->Prop),Inv X pins σ H s->Vals vs us->t vs σ H Q->
  wpAny (model X.prog X.w) X.A (assignInOrder ((assignEach ts X.env).map (·.2)) us) (fun _ s'=>∃σ' H',Inv X pins σ' H' s'/\Q σ' H') X.xe s
abbrev Nq:=V->V->V->Hp->(Hp->Prop)->Prop
def QE (X:Cx) (t:Nq):Prop:=
 ∀(pins:List (zdJ×Obj)) (s:zdT) (σ:St) (H:Hp) (o i v:V) (ov iv u:zdK) (Q:Hp->Prop),Inv X pins σ H s->RelV o ov->RelV i iv->RelV v u->t o i v H Q->
  wpAny (model X.prog X.w) X.A (setItem ov iv u) (fun _ s'=>∃H',Inv X pins σ H' s'/\Q H') X.xe s
section
variable{X:Cx}{pos:Pos}
def eG (i:Nat):TG:=fun v σ H Q=>Q (σ.set i (some v)) H
theorem aX{i:Nat}{x:Str}(hN:X.N.Nodup)(hi:X.N[i]?=some x)(hx:Loc X.env.scope x)(hf:X.fn x=true\/X.env.scope.names.lookup x=some .local:=by first |exact .inl rfl |exact .inr rfl |assumption):PG X (.Name x pos) (eG i):=by
 intro pins s σ H v u Q I r h;exact wpAny_assign_Name (zM I hN hi hx r (fun s' I'=>⟨_,H,I',h⟩) hf)
def BB:L8:=fun vs σ H Q=>vs=[]/\Q σ H
def rO (t:TG) (u:L8):L8:=fun vs σ H Q=>∃v r,vs=v::r/\t v σ H fun σ' H'=>u r σ' H' Q
theorem gg:QD X [] BB:=by
 intro pins s σ H vs us Q I r h;obtain⟨e,h⟩:=h;subst e;cases r;exact assignInOrder_nil ⟨σ,H,I,h⟩
theorem bH{e:Expr}{es:List Expr}{t:TG}{u:L8}(h1:PG X e t)(h2:QD X es u)
 (hs:(assignEach (e::es) X.env).map (·.2)=assign e X.env::(assignEach es X.env).map (·.2):=by rfl):QD X (e::es) (rO t u):=by
 intro pins s σ H vs us Q I r h;obtain⟨v,vr,e1,h⟩:=h;subst e1;cases r with
 |cons r rr=>
  rw[hs];refine assignInOrder_cons (cS (h1 pins s σ H _ _ _ I r h) fun _ s1 zqz=>?_);obtain⟨σ1,H1,I1,q1⟩:=zqz;exact h2 pins s1 σ1 H1 _ _ Q I1 rr q1
def zP (K:zab) (n:Nat) (t:L8):TG:=fun v σ H Q=>∃a xs,v=.ref a/\cF K H a xs/\xs.length=n/\t xs σ H Q
theorem BC{es:List Expr}{k:Nat}{t:L8}{n:Nat}(hc:X.calm=true)(h:QD X es t)
 (hn:(assignEach es X.env).length=n:=by rfl) (Df:(assignEach es X.env).findIdx? (·.1)=none:=by rfl):PG X (.Tuple es k pos) (zP X.K n t):=by
 intro pins s σ H v u Q I r hw;obtain⟨a,xs,e1,hq,hl,hw⟩:=hw;subst e1;cases r;obtain⟨aY,rv,ht,hz⟩:=I.tuple hq;refine assign_Tuple_tuple (I.ok.hd hc) ht (by simp[hn,<- hl,rv.length]) Df fun h' hx=>?_;have I1:Inv X pins σ H {s with heap:=h' }:=I.kept (t':=s.toks) fun b o e=>hx b o (zat (Heap.lt_size e)) e;exact h pins _ σ H xs _ Q I1 (by simpa using rv) hw
def Et (to ti:TE) (t:Nq):TG:=fun v σ H Q=>to σ H fun o H1=>ti σ H1 fun i H2=>t o i v H2 fun H3=>Q σ H3
theorem uc{o i:Expr}{to ti:TE}{t:Nq}(ho:PE X o to)(hi:PE X i ti)(hs:QE X t)
 (ha:∀v,assign (.Subscript o i pos) X.env v=(do
  let ov <- holding [v] (eval o X.env)
  let iv <- holding [v,ov] (eval i X.env)
  standAt pos
  holding [v,ov,iv] (setItem ov iv v)
  release [v,ov,iv] []):=by intro _;rfl):PG X (.Subscript o i pos) (Et to ti t):=by
 intro pins s σ H v u Q I r h;rw[ha];refine zdM (zdO (cS (ho pins s σ H _ I h) fun ov s1 zqz=>?_));obtain⟨x,H1,I1,r1,q1⟩:=zqz;refine zdM (zdO (cS (hi pins s1 σ H1 _ I1 q1) fun iv s2 zqz=>?_));obtain⟨y,H2,I2,r2,q2⟩:=zqz;refine zdM (wpAny_standAt (zdM (zdO (cS (hs pins s2 σ H2 x y v ov iv u _ I2 r1 r2 r q2) fun _ s3 zqz=>?_))));obtain⟨H3,I3,q3⟩:=zqz;exact wpAny_release ⟨σ,H3,I3,q3⟩
def zQ (te:TE) (g:TG):TS:=fun D σ H=>te σ H fun x H1=>g x σ H1 D.nx
theorem qI{tg e:Expr}{te:TE}{g:TG}(he:PE X e te)(hg:PG X tg g)(hs:swapsWithSole [tg] e pos.line X.env=pure false:=by rfl)(hw:swappedStores [tg] e X.env=pure none:=by rfl)
 (h1:(assignEach [tg] X.env).map (·.2)=[assign tg X.env]:=by rfl):PS X (.Assign [tg] e pos) (zQ te g):=by
 intro pins s σ H D I h;refine wpAny_Assign_stores (cS (he pins s σ H _ I h) fun v s1 zqz=>?_) hs hw;obtain⟨x,H1,I1,r1,q1⟩:=zqz;rw[h1];exact cS (hg pins s1 σ H1 x v _ I1 r1 q1) fun _ s2 q=>q
theorem aP{i:Nat}{x:Str}{e:Expr}{te:TE}{pos':Pos}(hN:X.N.Nodup)(hi:X.N[i]?=some x)(hx:Loc X.env.scope x)(he:PE X e te)(hs:swapsWith e (some (.Name x pos')) pos.line X.env=pure false:=by rfl)(hf:X.fn x=true\/X.env.scope.names.lookup x=some .local:=by first |exact .inl rfl |exact .inr rfl |assumption) :
 PS X (.Assign [.Name x pos'] e pos) (zQ te (eG i)):=by
 intro pins s σ H D I h;refine wpAny_Assign_Name (cS (he pins s σ H _ I h) fun v s1 zqz=>?_) hs;obtain⟨y,H1,I1,r1,q1⟩:=zqz;exact zM I1 hN hi hx r1 (fun s2 I2=>⟨_,H1,I2,q1⟩) hf
end
section
variable{X:Cx}{pos:Pos}
def BD (c:TT) (tb:TS):TS:=fun D σ H=>∃W:Nat->St->Hp->Prop,(∃m,W m σ H)/\∀m σ H,W m σ H->
 c σ H fun b H1=>if b=true then ∃N:St->Hp->Prop,(∀σ' H',N σ' H'->∃m',m'<m/\W m' σ' H')/\tb {D with nx:=N,ct:=N,bk:=D.nx} σ H1 else D.nx σ H1
theorem zR{c:Expr}{body:List Stmt}{tc:TT}{tb:TS}(hp:PassesOwn (model X.prog X.w) X.A X.env X.xe)(hc:PT X c tc)(hb:De X body tb):PS X (.While c body [] pos) (BD tc tb):=by
 intro pins s σ H D I h;obtain⟨W,⟨m0,w0⟩,turn⟩:=h;refine wpAny_While (codeAny_whileLoop (fun n s'=>∃σ' H',Inv X pins σ' H' s'/\W n σ' H') ?_ m0 ⟨σ,H,I,w0⟩)
 rintro n s1 ⟨σ1,H1,I1,w1⟩
 refine wpAny_passesOwn hp (cS (hc pins s1 σ1 H1 _ I1 (turn n σ1 H1 w1)) fun b s2 zqz=>?_);obtain⟨H2,I2,q2⟩:=zqz;cases b with
 |true=>
  obtain⟨N,hN,q2⟩:=q2;rw[if_pos rfl];refine wpAny_passesOwn hp (cS (hb pins s2 σ1 H2 _ I2 q2) fun f s3 q3=>?_);cases f with
  |next=>
   obtain⟨σ3,H3,I3,n3⟩:=q3;obtain⟨m',hm,w3⟩:=hN σ3 H3 n3;exact⟨m',hm,σ3,H3,I3,w3⟩
  |cont=>
   obtain⟨σ3,H3,I3,n3⟩:=q3;obtain⟨m',hm,w3⟩:=hN σ3 H3 n3;exact⟨m',hm,σ3,H3,I3,w3⟩
  |brk=>exact q3
  |ret v=>exact q3
 |false=>
  rw[if_neg zar];exact wpAny_execs_nil ⟨σ1,H2,I2,q2⟩
end
structure It where
 go:Nat->Hp->Prop
 zS:Nat->Hp->V->Hp->Prop
 stop:Nat->Hp->Prop
def pE (X:Cx) (pins:List (zdJ×Obj)) (H:Hp) (b:zdJ):Prop:=
 H b=none/\b≠X.env.locals/\b ∉ X.fs/\(b∈X.ex\/X.s₀.heap.objs.size<=b)/\(∀x c,X.env.cells.lookup x=some c->c≠b)/\∀p∈X.pn++pins,p.1≠b
theorem Inv.wa{X:Cx}{pins:List (zdJ×Obj)}{σ:St}{H H':Hp}{s:zdT}{b:zdJ}(I:Inv X pins σ H s)(hb:s.heap.objs.size<=b)(hn:H' b=none):pE X pins H' b:=by
 refine⟨hn,za2 (zay I.lt hb),I.Ux hb,.inr (zax I.sz hb),fun x c e z=>?_,fun p hp z=>?_⟩
 ·obtain⟨v,q⟩:=I.cell x c e;exact absurd (zay q.lt (by rw[z];exact hb)) (za1 _)
 ·exact absurd (zay (Heap.lt_size (I.pin p hp).1) (by rw[z];exact hb)) (za1 _)
structure Turn(P:zdV)(w:zdL)(K:zab)(tg:Expr)(J:It)(fp:List zdJ)(it:zdJ)(tn:Nat->Heap->Prop):Prop where
 mem:it∈fp
 obj:∀i h,tn i h->∀b∈fp,∃o,h.get? b=some o/\∀v,o.data≠.cell v
 keep:∀i h h',tn i h->(∀b∈fp,∀o,h.get? b=some o->h'.get? b=some o)->tn i h'
 item:∀(X:Cx),X.prog=P->X.w=w->X.K=K->X.calm=true->∀(i:Nat) (pins:List (zdJ×Obj)) (s:zdT) (σ:St) (H:Hp) (E:zdK->zdT->Prop),Inv X pins σ H s->(∀b∈fp,pE X pins H b)->tn i s.heap->J.go i H->
  wpAny (model P w) X.A (pyNext (.ref it)) (fun r s1=>∃u,r=some u/\
   wpAny (model P w) X.A (letOwnedTupleGo tg (.ref it) u) (fun _ s2=>∃x H',Inv X pins σ H' s2/\RelV x u/\J.zS i H x H'/\tn (i+1) s2.heap/\∀b∈fp,H' b=none) E s1) E s
 done:∀(X:Cx),X.prog=P->X.w=w->X.K=K->X.calm=true->∀(i:Nat) (pins:List (zdJ×Obj)) (s:zdT) (σ:St) (H:Hp) (E:zdK->zdT->Prop),Inv X pins σ H s->(∀b∈fp,pE X pins H b)->tn i s.heap->J.stop i H->
  wpAny (model P w) X.A (pyNext (.ref it)) (fun r s1=>r=none/\Inv X pins σ H s1) E s
 self:∀(A:zdU) (i:Nat) (s:zdT) (Q:zdK->zdT->Prop) (E:zdK->zdT->Prop),tn i s.heap->Q (.ref it) s->wpAny (model P w) A (pyIter (.ref it)) Q E s
abbrev TI:=St->Hp->(It->Hp->Prop)->Prop
def Yf (X:Cx) (pins:List (zdJ×Obj)) (σ:St) (tg:Expr) (R:It->Hp->Prop) (UH:zdK) (s2:zdT):Prop:=
 ∃(it:zdJ) (fp:List zdJ) (tn:Nat->Heap->Prop) (J:It) (H':Hp),UH=.ref it/\Inv X pins σ H' s2/\Turn X.prog X.w X.K tg J fp it tn/\tn 0 s2.heap/\(∀b∈fp,pE X pins H' b)/\R J H'
def PI (X:Cx) (tg iter:Expr) (wi:TI):Prop:=
 ∀(pins:List (zdJ×Obj)) (s:zdT) (σ:St) (H:Hp) (R:It->Hp->Prop),Inv X pins σ H s->wi σ H R->
  wpAny (model X.prog X.w) X.A (eval iter X.env) (fun v s1=>wpAny (model X.prog X.w) X.A (pyIter v) (Yf X pins σ tg R) X.xe s1) X.xe s
theorem Dg{M:Model}{A:zdU}{E:zdK->zdT->Prop}{s:zdT}{tg:Expr}{it:zdJ}{u:zdK}{o:Obj}{n:String}{vs:Array zdK}{Q:Unit->zdT->Prop}(ho:s.heap.get? it=some o)(hc:o.cls=.type n)(hd:o.data=.fields vs)
 (hn:["enumerate", "zip", "dict_itemiterator", "dict_reverseitemiterator", "odict_iterator", "itertools.zip_longest", "itertools.pairwise"].contains n=false) (hQ:Q () s):wpAny M A (letOwnedTupleGo tg (.ref it) u) Q E s:=by
 unfold letOwnedTupleGo;cases tg<;>first
  |exact zdN hQ
  |(cases u<;>first
     |exact zdN hQ
     |(refine zdM (wpAny_load ho ?_)
       rw[hc,hd];show wpAny M A (if (["enumerate", "zip", "dict_itemiterator", "dict_reverseitemiterator", "odict_iterator", "itertools.zip_longest", "itertools.pairwise"].contains n&&vs[0]?==some (rawInt _))=true then _ else _) Q E s;rw[if_neg (by intro h;rw[hn,zdm] at h;cases h)];exact zdN hQ))
def BE (K:zab) (a:zdJ):It:=
 ⟨fun i H=>∃xs x,fU K H a xs/\xs[i]?=some x,fun i H x H'=>H'=H/\∀xs,fU K H a xs->xs[i]?=some x,fun i H=>∃xs,fU K H a xs/\xs.length<=i⟩
def Tq (K:zab) (a:zdJ):It:=
 ⟨fun i H=>∃xs x,cF K H a xs/\xs[i]?=some x,fun i H x H'=>H'=H/\∀xs,cF K H a xs->xs[i]?=some x,fun i H=>∃xs,cF K H a xs/\xs.length<=i⟩
def J7 (lo:Int) (n:Nat):It:=⟨fun i _=>i<n,fun i H x H'=>H'=H/\x=.int (lo+i),fun i _=>n<=i⟩
theorem Eu{P:zdV}{w:zdL}{K:zab}{tg:Expr}(a it:zdJ):Turn P w K tg (BE K a) [it] it (fun i h=>h.IsListIter it a i) where
 mem:=by simp
 obj:=fun i h st b hb=>by
  have e:b=it:=by simpa using hb
  subst e;obtain⟨o,e,c,d⟩:=st;exact⟨o,e,fun v z=>by rw[d] at z;cases z⟩
 keep:=fun i h h' st k=>st.at fun o e=>k it (by simp) o e
 item:=by
  intro X hP hw hK hc i pins s σ H E I hf st hg;subst hP hw hK;obtain⟨xs,x,hq,hx⟩:=hg;obtain⟨aY,rv,p,hz⟩:=I.list hq;obtain⟨u,hu,ru⟩:=rv.get hx;obtain⟨f0,f1,f2,f3,f4,f5⟩:=hf it (by simp);refine wpAny_pyNext_list_item st p.isList (x:=u) (by simpa using hu) fun h' ud sb=>?_;have I1:Inv X pins σ H {s with heap:=h' }:=I.turned (t':=s.toks) (fun b o hb e=>(sb.2 b hb).trans e) f0 f1 f3 f4 f5;obtain⟨o,e,c,d⟩:=id ud;exact⟨u,rfl,Dg (s:={s with heap:=h' }) e c d (by decide) ⟨x,H,I1,ru,⟨rfl,fun ys hy=>by rw[I.zO hy hq];exact hx⟩,ud,fun b hb=>(hf b hb).1⟩⟩
 done:=by
  intro X hP hw hK hc i pins s σ H E I hf st hg;subst hP hw hK;obtain⟨xs,hq,hx⟩:=hg;obtain⟨aY,rv,p,hz⟩:=I.list hq;obtain⟨f0,f1,f2,f3,f4,f5⟩:=hf it (by simp);have hl:=rv.length;exact wpAny_pyNext_list_end (I.ok.hd hc) st p.isList (by simp;lia) fun h' eb=>⟨rfl,I.turned (t':=s.toks) (fun b o hb e=>eb b o hb e) f0 f1 f3 f4 f5⟩
 self:=fun _ _ _ _ _ st h=>wpAny_pyIter_listiter st h
theorem BF{P:zdV}{w:zdL}{K:zab}{tg:Expr}(a it:zdJ):Turn P w K tg (Tq K a) [it] it (fun i h=>h.IsTupleIter it a i) where
 mem:=by simp
 obj:=fun i h st b hb=>by
  have e:b=it:=by simpa using hb
  subst e;obtain⟨o,e,c,d⟩:=st;exact⟨o,e,fun v z=>by rw[d] at z;cases z⟩
 keep:=fun i h h' st k=>st.at fun o e=>k it (by simp) o e
 item:=by
  intro X hP hw hK hc i pins s σ H E I hf st hg;subst hP hw hK;obtain⟨xs,x,hq,hx⟩:=hg;obtain⟨aY,rv,p,hz⟩:=I.tuple hq;obtain⟨u,hu,ru⟩:=rv.get hx;obtain⟨f0,f1,f2,f3,f4,f5⟩:=hf it (by simp);refine wpAny_pyNext_tuple_item st (show s.heap.IsTuple a aY.toArray from p) (x:=u) (by simpa using hu) fun h' ud sb=>?_;have I1:Inv X pins σ H {s with heap:=h' }:=I.turned (t':=s.toks) (fun b o hb e=>(sb.2 b hb).trans e) f0 f1 f3 f4 f5;obtain⟨o,e,c,d⟩:=id ud;exact⟨u,rfl,Dg (s:={s with heap:=h' }) e c d (by decide) ⟨x,H,I1,ru,⟨rfl,fun ys hy=>by rw[I.nh hy hq];exact hx⟩,ud,fun b hb=>(hf b hb).1⟩⟩
 done:=by
  intro X hP hw hK hc i pins s σ H E I hf st hg;subst hP hw hK;obtain⟨xs,hq,hx⟩:=hg;obtain⟨aY,rv,p,hz⟩:=I.tuple hq;obtain⟨f0,f1,f2,f3,f4,f5⟩:=hf it (by simp);have hl:=rv.length;exact wpAny_pyNext_tuple_end (I.ok.hd hc) st (show s.heap.IsTuple a aY.toArray from p) (by simp;lia) fun h' eb=>⟨rfl,I.turned (t':=s.toks) (fun b o hb e=>eb b o hb e) f0 f1 f3 f4 f5⟩
 self:=fun _ _ _ _ _ st h=>wpAny_pyIter_tupleiter st h
theorem BG{P:zdV}{w:zdL}{K:zab}{tg:Expr}(it:zdJ)(lo:Int)(n:Nat):Turn P w K tg (J7 lo n) [it] it (fun i h=>IsRangeIter h it (lo+(i:Nat)*1) ((n:Int)-(i:Nat)) 1) where
 mem:=by simp
 obj:=fun i h st b hb=>by
  have e:b=it:=by simpa using hb
  subst e;exact⟨_,st,fun v z=>by
   have z':Data.fields _=Data.cell v:=z;cases z'⟩
 keep:=fun i h h' st k=>k it (by simp) _ st
 item:=by
  intro X hP hw hK hc i pins s σ H E I hf st hg;subst hP hw hK;obtain⟨f0,f1,f2,f3,f4,f5⟩:=hf it (by simp);have W:=Walks.range (prog:=X.prog) (w:=X.w) (I.ok.hd hc) it lo 1 n;refine W.item i s _ _ hg st fun v h' tk hv ud kk=>?_;obtain⟨t,rfl⟩:=hv;have I1:Inv X pins σ H {s with heap:=h',toks:=tk}:=I.turned (fun b o hb e=>kk b o (by simpa using hb) e) f0 f1 f3 f4 f5;refine⟨_,rfl,Dg (s:={s with heap:=h',toks:=tk}) (n:="range_iterator") ud rfl rfl (by decide) ⟨.int (lo+i),H,I1,⟨t,?_⟩,⟨rfl,rfl⟩,ud,fun b hb=>(hf b hb).1⟩⟩;rw[Int.mul_one]
 done:=by
  intro X hP hw hK hc i pins s σ H E I hf st hg;subst hP hw hK;obtain⟨f0,f1,f2,f3,f4,f5⟩:=hf it (by simp);exact wpAny_pyNext_range_end (I.ok.hd hc) st (by have:n<=i:=hg;lia) fun h' eb=>⟨rfl,I.turned (t':=s.toks) (fun b o hb e=>eb b o hb e) f0 f1 f3 f4 f5⟩
 self:=fun _ _ _ _ _ st h=>wpAny_pyIter_rangeiter st h
section
variable{X:Cx}{tg:Expr}
def ue (K:zab) (tl:TE):TI:=fun σ H R=>tl σ H fun x H1=>∃a,x=.ref a/\(∃xs,fU K H1 a xs)/\R (BE K a) H1
def QF (K:zab) (tl:TE):TI:=fun σ H R=>tl σ H fun x H1=>∃a,x=.ref a/\(∃xs,cF K H1 a xs)/\R (Tq K a) H1
theorem bT{l:Expr}{tl:TE}(hl:PE X l tl):PI X tg l (ue X.K tl):=by
 intro pins s σ H R I h;refine cS (hl pins s σ H _ I h) fun v s1 zqz=>?_;obtain⟨x,H1,I1,r1,q1⟩:=zqz;obtain⟨a,e,⟨xs,hq⟩,q⟩:=q1;subst e;cases r1;obtain⟨aY,rv,p,hz⟩:=I1.list hq;refine wpAny_pyIter_list p.isList ?_;refine⟨s1.heap.objs.size,[s1.heap.objs.size],_,_,H1,rfl,I1.kept (t':=s1.toks) fun b o e=>Heap.get?_push_of_some _ e,Eu a _,⟨_,Heap.get?_push_size _ rfl,rfl,rfl⟩,fun b hb=>?_,q⟩;have e:b=s1.heap.objs.size:=by simpa using hb
 subst e;exact I1.wa (zaj _) (I1.cc.fresh (zaj _))
theorem Ge{l:Expr}{tl:TE}(hl:PE X l tl):PI X tg l (QF X.K tl):=by
 intro pins s σ H R I h;refine cS (hl pins s σ H _ I h) fun v s1 zqz=>?_;obtain⟨x,H1,I1,r1,q1⟩:=zqz;obtain⟨a,e,⟨xs,hq⟩,q⟩:=q1;subst e;cases r1;obtain⟨aY,rv,p,hz⟩:=I1.tuple hq;refine wpAny_pyIter_tuple (show s1.heap.IsTuple a aY.toArray from p) ?_;refine⟨s1.heap.objs.size,[s1.heap.objs.size],_,_,H1,rfl,I1.kept (t':=s1.toks) fun b o e=>Heap.get?_push_of_some _ e,BF a _,⟨_,Heap.get?_push_size _ rfl,rfl,rfl⟩,fun b hb=>?_,q⟩;have e:b=s1.heap.objs.size:=by simpa using hb
 subst e;exact I1.wa (zaj _) (I1.cc.fresh (zaj _))
theorem Gf{pins:List (zdJ×Obj)}{σ:St}{H:Hp}{s:zdT}{R:It->Hp->Prop}{E:zdK->zdT->Prop}{lo hi:Int}{t u v:Tok}{tk:Nat}(I:Inv X pins σ H s)(h1 : -(2 ^ 62)<=lo)(h2:lo<2 ^ 62)(h3 : -(2 ^ 62)<=hi)(h4:hi<2 ^ 62)
 (q:R (J7 lo (hi-lo).toNat) H):wpAny (model X.prog X.w) X.A (pyIter (.ref s.heap.objs.size)) (Yf X pins σ tg R) E {s with heap:=s.heap.push {cls:=.type "range",data:=.fields #[.int lo t,.int hi u,.int 1 v]},toks:=tk}:=by
 refine wpAny_pyIter_range (IsRange.new ..) (small_one h1 h2 h3 h4) ?_;have I1:Inv X pins σ H {s with heap:=s.heap.push {cls:=.type "range",data:=.fields #[.int lo t,.int hi u,.int 1 v]},toks:=tk}:=I.kept fun b o e=>Heap.get?_push_of_some _ e;refine⟨(s.heap.push {cls:=.type "range",data:=.fields #[.int lo t,.int hi u,.int 1 v]}).objs.size,[(s.heap.push {cls:=.type "range",data:=.fields #[.int lo t,.int hi u,.int 1 v]}).objs.size],_,_,H,rfl,
  I1.kept (t':=tk) fun b o e=>Heap.get?_push_of_some _ e,BG _ lo (hi-lo).toNat,?_,fun b hb=>?_,q⟩
 ·have e1:lo+((0:Nat):Int)*1=lo:=by simp
  have e2:(((hi-lo).toNat:Nat):Int)-((0:Nat):Int)=Builtin.Range.rangeSize lo hi 1:=by rw[rangeSize_one];split<;>lia
  show IsRangeIter _ _ (lo+((0:Nat):Int)*1) ((((hi-lo).toNat:Nat):Int)-((0:Nat):Int)) 1;rw[e1,e2];exact Heap.get?_push_size _ rfl
 ·have e:b=(s.heap.push {cls:=.type "range",data:=.fields #[.int lo t,.int hi u,.int 1 v]}).objs.size:=by simpa using hb
  subst e;exact I1.wa (zaj _) (I1.cc.fresh (zaj _))
def uf (ta:TA):TI:=fun σ H R=>ta σ H fun vs H1=>∃i j:Int,vs=[.int i,.int j]/\(-(2 ^ 62)<=i/\i<2 ^ 62/\-(2 ^ 62)<=j/\j<2 ^ 62)/\R (J7 i (j-i).toNat) H1
theorem Ew{a b:Expr}{ta:TA}{p pos:Pos}(hg:Gl X "range")(hm:X.mg "range"=none)(ha:PA X [a,b] ta)(hs:zdP [a,b] X.env=[(false,eval a X.env),(false,eval b X.env)]:=by rfl)(vQ:zdP [b] X.env=[(false,eval b X.env)]:=by rfl) :
 PI X tg (.Call (.Name "range" p) [a,b] [] pos) (uf ta):=by
 intro pins s σ H R I h;refine Call_ (kU I hg hm boot_range (zaY (cS (ha pos pins s σ H _ I h) fun us s1 ⟨vs,H1,I1,r1,q1⟩=>?_) (by rw[hs,vQ]) (by rw[vQ];rfl)));obtain⟨i,j,e,⟨q1,q2,q3,q4⟩,q⟩:=q1;subst e;cases r1 with
 |cons r rr=>
  cases rr with
  |cons r' rr=>
   cases rr;obtain⟨t,rfl⟩:=r;obtain⟨t',rfl⟩:=r';exact call_range_2 (Gf I1 q1 q2 q3 q4 q)
def Ex (wi:TI) (g:TG) (tb:TS):TS:=fun D σ H=>wi σ H fun J H1=>∃W:Nat->Nat->St->Hp->Prop,(∃m,W 0 m σ H1)/\∀i m σ H,W i m σ H->
 (J.stop i H/\D.nx σ H)\/(J.go i H/\∃N:St->Hp->Prop,(∀σ' H',N σ' H'->∃m',m'<m/\W (i+1) m' σ' H')/\∀x H',J.zS i H x H'->g x σ H' fun σ2 H2=>tb {D with nx:=N,ct:=N,bk:=D.nx} σ2 H2)
def ug (fp:List zdJ) (h:Heap):List (zdJ×Obj):=fp.filterMap fun b=>(h.get? b).map fun o=>(b,o)
theorem kW{fp:List zdJ}{h:Heap}{b:zdJ}{o:Obj}(hb:b∈fp)(e:h.get? b=some o):(b,o)∈ug fp h:=zbw.mpr ⟨b,hb,by rw[e];rfl⟩
theorem Ey{fp:List zdJ}{h:Heap}{p:zdJ×Obj}(hp:p∈ug fp h):p.1∈fp/\h.get? p.1=some p.2:=by
 obtain⟨b,hb,e⟩:=zbw.mp hp;cases q:h.get? b with
 |none=>rw[q] at e;cases e
 |some o=>
  rw[q] at e;have e':(b,o)=p:=zaH.inj e;subst e';exact⟨hb,q⟩
theorem Inv.pinned{pins:List (zdJ×Obj)}{σ:St}{H:Hp}{s:zdT}{fp:List zdJ}(I:Inv X pins σ H s)(hf:∀b∈fp,pE X pins H b)(ho:∀b∈fp,∃o,s.heap.get? b=some o/\∀v,o.data≠.cell v):Inv X (pins++ug fp s.heap) σ H s:=
 I.Dc fun p hp=>(zak.mp hp).elim (fun z=>I.pin p (zaQ _ z)) fun z=>by
  obtain⟨hb,e⟩:=Ey z;obtain⟨f0,f1,f2,_⟩:=hf p.1 hb;obtain⟨o,e',d⟩:=ho p.1 hb;rw[e] at e';cases e';exact⟨e,f0,f1,f2,d⟩
theorem Inv.pF{pins pl:List (zdJ×Obj)}{σ:St}{H:Hp}{s:zdT}(I:Inv X (pins++pl) σ H s):Inv X pins σ H s:=I.Dc fun p hp=>I.pin p (zaQ _ (zb5 _ hp))
theorem eI{iter:Expr}{body:List Stmt}{wi:TI}{g:TG}{tb:TS}{pos:Pos}(hp:PassesOwn (model X.prog X.w) X.A X.env X.xe)(hc:X.calm=true)(hi:PI X tg iter wi)(hg:PG X tg g)(hb:De X body tb)
 (hs:∀x,foldedSetIterable iter X.env x=pure x:=by intro _;rfl):PS X (.For tg iter body [] pos) (Ex wi g tb):=by
 intro pins s σ H D I h;refine wpAny_For (cS (hi pins s σ H _ I h) fun v s1 h1=>cS h1 fun UH s2 h2=>?_) hs;obtain⟨it,fp,tn,J,H2,e,I2,T,Py,f2,W,⟨m0,w0⟩,turn⟩:=h2;subst e;have stat:∀ {H':Hp},(∀b∈fp,H' b=none)->∀b∈fp,pE X pins H' b:=fun hn b hb=>⟨hn b hb,(f2 b hb).2⟩
 refine codeAny_forLoop_any (fun n s'=>∃i σ' H',Inv X pins σ' H' s'/\tn i s'.heap/\(∀b∈fp,H' b=none)/\W i n σ' H') ?_ m0 ⟨0,σ,H2,I2,Py,fun b hb=>(f2 b hb).1,w0⟩
 rintro n s3 ⟨i,σ3,H3,I3,Ma,QG,w3⟩
 rcases turn i n σ3 H3 w3 with ⟨stop,qn⟩ |⟨go,N,hN,step⟩
 ·refine wpAny_passesOwn hp (cS (T.done X rfl rfl rfl hc i pins s3 σ3 H3 X.xe I3 (stat QG) Ma stop) fun r s4 zqz=>?_);obtain⟨hr,I4⟩:=zqz;subst hr;exact wpAny_execs_nil ⟨σ3,H3,I4,qn⟩
 ·refine wpAny_passesOwn hp (cS (T.item X rfl rfl rfl hc i pins s3 σ3 H3 X.xe I3 (stat QG) Ma go) fun r s4 zqz=>?_);obtain⟨u,hr,h4⟩:=zqz;subst hr;refine wpAny_passesOwn hp (cS h4 fun _ s5 zqz=>?_);obtain⟨x,H5,I5,r5,y5,Nr,UI⟩:=zqz;have UJ:=I5.pinned (stat UI) (T.obj _ _ Nr);refine wpAny_passesOwn hp (cS (hg _ s5 σ3 H5 x u _ UJ r5 (step x H5 y5)) fun _ s6 zqz=>?_);obtain⟨σ6,H6,I6,q6⟩:=zqz;refine wpAny_passesOwn hp (cS (hb _ s6 σ6 H6 _ I6 q6) fun f s7 q7=>?_);have again:∀ {σ7:St} {H7:Hp},Inv X (pins++ug fp s5.heap) σ7 H7 s7->N σ7 H7->∃m,m<n/\∃i σ' H',Inv X pins σ' H' s7/\tn i s7.heap/\(∀b∈fp,H' b=none)/\W i m σ' H':=fun {σ7 H7} I7 n7=>by
   obtain⟨m',hm,w7⟩:=hN σ7 H7 n7;refine⟨m',hm,i+1,σ7,H7,I7.pF,T.keep _ _ _ Nr fun b hb o e=>(I7.pin (b,o) (zaQ _ (zaQ _ (kW hb e)))).1,fun b hb=>?_,w7⟩;obtain⟨o,e,d⟩:=T.obj _ _ Nr b hb;exact(I7.pin (b,o) (zaQ _ (zaQ _ (kW hb e)))).2.1
  cases f with
  |next=>obtain⟨σ7,H7,I7,n7⟩:=q7;exact again I7 n7
  |cont=>obtain⟨σ7,H7,I7,n7⟩:=q7;exact again I7 n7
  |brk=>obtain⟨σ7,H7,I7,q7⟩:=q7;exact⟨σ7,H7,I7.pF,q7⟩
  |ret v=>obtain⟨x7,σ7,H7,I7,r7,q7⟩:=q7;exact⟨x7,σ7,H7,I7.pF,r7,q7⟩
end
theorem eJ{K:zab}{a:zdJ}{xs:List V}{g:TG}{tb:TS}{D:Ends}{σ:St}{H:Hp}(Pv:Nat->St->Hp->Prop)(h0:Pv 0 σ H)(hl:∀i σ H,i<=xs.length->Pv i σ H->fU K H a xs)
 (hs:∀i x σ H,xs[i]?=some x->Pv i σ H->g x σ H fun σ2 H2=>tb {D with nx:=Pv (i+1),ct:=Pv (i+1),bk:=D.nx} σ2 H2) (hd:∀σ H,Pv xs.length σ H->D.nx σ H) :
 ∃W:Nat->Nat->St->Hp->Prop,(∃m,W 0 m σ H)/\∀i m σ H,W i m σ H->
  ((BE K a).stop i H/\D.nx σ H)\/((BE K a).go i H/\∃N:St->Hp->Prop,(∀σ' H',N σ' H'->∃m',m'<m/\W (i+1) m' σ' H')/\∀x H',(BE K a).zS i H x H'->g x σ H' fun σ2 H2=>tb {D with nx:=N,ct:=N,bk:=D.nx} σ2 H2):=by
 refine⟨fun i m σ H=>m=xs.length-i/\i<=xs.length/\Pv i σ H,⟨xs.length,by simp,zaI _,h0⟩,?_⟩
 rintro i m σ H ⟨rfl,hi,p⟩
 have q:=hl i σ H hi p;by_cases jR:i<xs.length
 ·refine .inr ⟨⟨xs,xs[i],q,by simp[jR]⟩,Pv (i+1),fun σ' H' p'=>⟨xs.length-(i+1),by lia,rfl,jR,p'⟩,fun x H' y=>?_⟩;obtain⟨e,y⟩:=y;subst e;exact hs i x σ _ (y xs q) p
 ·have e:i=xs.length:=by lia
  subst e;exact .inl ⟨⟨xs,q,zaj _⟩,hd σ H p⟩
theorem Ez{lo:Int}{n:Nat}{g:TG}{tb:TS}{D:Ends}{σ:St}{H:Hp}(Pv:Nat->St->Hp->Prop)(h0:Pv 0 σ H)
 (hs:∀i σ H,i<n->Pv i σ H->g (.int (lo+i)) σ H fun σ2 H2=>tb {D with nx:=Pv (i+1),ct:=Pv (i+1),bk:=D.nx} σ2 H2) (hd:∀σ H,Pv n σ H->D.nx σ H) :
 ∃W:Nat->Nat->St->Hp->Prop,(∃m,W 0 m σ H)/\∀i m σ H,W i m σ H->
  ((J7 lo n).stop i H/\D.nx σ H)\/((J7 lo n).go i H/\∃N:St->Hp->Prop,(∀σ' H',N σ' H'->∃m',m'<m/\W (i+1) m' σ' H')/\∀x H',(J7 lo n).zS i H x H'->g x σ H' fun σ2 H2=>tb {D with nx:=N,ct:=N,bk:=D.nx} σ2 H2):=by
 refine⟨fun i m σ H=>m=n-i/\i<=n/\Pv i σ H,⟨n,by simp,zaI _,h0⟩,?_⟩
 rintro i m σ H ⟨rfl,hi,p⟩
 by_cases jR:i<n
 ·refine .inr ⟨jR,Pv (i+1),fun σ' H' p'=>⟨n-(i+1),by lia,rfl,jR,p'⟩,fun x H' y=>?_⟩;obtain⟨e,y⟩:=y;subst e y;exact hs i σ _ jR p
 ·have e:i=n:=by lia
  subst e;exact .inl ⟨zaj _,hd σ H p⟩
abbrev R2:=V->V->Hp->VK->Prop
def nU (X:Cx) (f:zdK->zdK->Sem zdK) (r:R2):Prop:=
 ∀(pins:List (zdJ×Obj)) (s:zdT) (σ:St) (H:Hp) (x y:V) (v u:zdK) (Q:VK),Inv X pins σ H s->RelV x v->RelV y u->r x y H Q->
  wpAny (model X.prog X.w) X.A (f v u) (EP X pins σ Q) X.xe s
def UK (X:Cx) (f:zdK->Sem zdK) (r:V->Hp->VK->Prop):Prop:=
 ∀(pins:List (zdJ×Obj)) (s:zdT) (σ:St) (H:Hp) (x:V) (v:zdK) (Q:VK),Inv X pins σ H s->RelV x v->r x H Q->
  wpAny (model X.prog X.w) X.A (f v) (EP X pins σ Q) X.xe s
def gV (X:Cx) (f:zdK) (r:List V->Hp->VK->Prop):Prop:=
 ∀(pins:List (zdJ×Obj)) (s:zdT) (σ:St) (H:Hp) (xs:List V) (us:List zdK) (Q:VK),Inv X pins σ H s->Vals xs us->r xs H Q->
  wpAny (model X.prog X.w) X.A (call f us) (EP X pins σ Q) X.xe s
def UL (X:Cx) (r:V->Hp->(Bool->Hp->Prop)->Prop):Prop:=
 ∀(pins:List (zdJ×Obj)) (s:zdT) (σ:St) (H:Hp) (x:V) (v:zdK) (Q:Bool->Hp->Prop),Inv X pins σ H s->RelV x v->r x H Q->
  wpAny (model X.prog X.w) X.A (truthy v) (TP X pins σ Q) X.xe s
def Gg (r:R2) (ta tb:TE):TE:=fun σ H Q=>ta σ H fun x H1=>tb σ H1 fun y H2=>r x y H2 Q
def PB (r:V->Hp->VK->Prop) (ta:TE):TE:=fun σ H Q=>ta σ H fun x H1=>r x H1 Q
def rI (C:Int->Int->Prop) (g:Int->Int->V):R2:=fun x y H Q=>∃i j,x=.int i/\y=.int j/\C i j/\Q (g i j) H
def J8 (g:Int->Int->V):R2:=fun x y H Q=>∃i j,x=.int i/\y=.int j/\Q (g i j) H
def rU (g:Int->V):V->Hp->VK->Prop:=fun x H Q=>∃i,x=.int i/\Q (g i) H
section
variable{X:Cx}{a b c:Expr}{ta tb tc:TE}{pos:Pos}
theorem Nt(ha:PE X a ta)(hb:PE X b tb){pins:List (zdJ×Obj)}{s:zdT}{σ:St}{H:Hp}{R:V->V->Hp->Prop}(I:Inv X pins σ H s)
 (h:ta σ H fun x H1=>tb σ H1 fun y H2=>R x y H2) {Q:zdK->zdT->Prop} {f:zdK->zdK->Sem zdK}
 (hf:∀v u s2 x y H2,Inv X pins σ H2 s2->RelV x v->RelV y u->R x y H2->wpAny (model X.prog X.w) X.A (f v u) Q X.xe s2) :
 wpAny (model X.prog X.w) X.A (eval a X.env) (fun v s₁=>wpAny (model X.prog X.w) X.A (eval b X.env) (fun u s₂=>wpAny (model X.prog X.w) X.A (f v u) Q X.xe s₂) X.xe s₁) X.xe s:=by
 refine cS (ha pins s σ H _ I h) fun v s1 zqz=>?_;obtain⟨x,H1,I1,r1,q1⟩:=zqz;refine cS (hb pins s1 σ H1 _ I1 q1) fun u s2 zqz=>?_;obtain⟨y,H2,I2,r2,q2⟩:=zqz;exact hf v u s2 x y H2 I2 r1 r2 q2
theorem bC{op:Operator}{r:R2}(ho:nU X (binaryOp op) r)(ha:PE X a ta)(hb:PE X b tb):PE X (.BinOp a op b pos) (Gg r ta tb):=by
 intro pins s σ H Q I h;exact wpAny_BinOp (Nt ha hb I h fun v u s2 x y H2 I2 rx ry q=>ho pins s2 σ H2 x y v u Q I2 rx ry q)
theorem wW{op:UnaryOp}{r:V->Hp->VK->Prop}(ho:UK X (unaryOp op) r)(ha:PE X a ta):PE X (.UnaryOp op a pos) (PB r ta):=by
 intro pins s σ H Q I h;exact UnaryOp_ (cS (ha pins s σ H _ I h) fun v s1 ⟨x,H1,I1,r1,q1⟩=>ho pins s1 σ H1 x v Q I1 r1 q1)
theorem QH{f:zdK->zdK->Sem zdK}{C:Int->Int->Prop}{g:Int->Int->Int}
 (rule:∀(i j:Int) (t u:Tok) (s:zdT) (Q:zdK->zdT->Prop) (E:zdK->zdT->Prop),C i j->Q (.int (g i j) s.toks) {s with toks:=s.toks+1}->wpAny (model X.prog X.w) X.A (f (.int i t) (.int j u)) Q E s) :
 nU X f (rI C fun i j=>.int (g i j)):=by
 intro pins s σ H x y v u Q I rx ry h;obtain⟨i,j,rfl,rfl,hc,q⟩:=h;obtain⟨t,rfl⟩:=rx;obtain⟨t',rfl⟩:=ry;exact rule i j t t' s _ _ hc ⟨.int (g i j),H,I.tok _,⟨_,rfl⟩,q⟩
theorem QI{f:zdK->zdK->Sem zdK}{g:Int->Int->Int}
 (rule:∀(i j:Int) (t u:Tok) (s:zdT) (Q:zdK->zdT->Prop) (E:zdK->zdT->Prop),Q (.int (g i j) s.toks) {s with toks:=s.toks+1}->wpAny (model X.prog X.w) X.A (f (.int i t) (.int j u)) Q E s) :
 nU X f (J8 fun i j=>.int (g i j)):=by
 intro pins s σ H x y v u Q I rx ry h;obtain⟨i,j,rfl,rfl,q⟩:=h;obtain⟨t,rfl⟩:=rx;obtain⟨t',rfl⟩:=ry;exact rule i j t t' s _ _ ⟨.int (g i j),H,I.tok _,⟨_,rfl⟩,q⟩
theorem J9{f:zdK->zdK->Sem zdK}{g:Int->Int->Bool}
 (rule:∀(i j:Int) (t u:Tok) (s:zdT) (Q:zdK->zdT->Prop) (E:zdK->zdT->Prop),Q (.bool (g i j)) s->wpAny (model X.prog X.w) X.A (f (.int i t) (.int j u)) Q E s) :
 nU X f (J8 fun i j=>.bl (g i j)):=by
 intro pins s σ H x y v u Q I rx ry h;obtain⟨i,j,rfl,rfl,q⟩:=h;obtain⟨t,rfl⟩:=rx;obtain⟨t',rfl⟩:=ry;exact rule i j t t' s _ _ ⟨.bl (g i j),H,I,rfl,q⟩
def QJ (i j:Int):Prop:=0<j/\j<1073741824
def UM (i j:Int):Prop:=0<=j/\j<=1000000/\i.natAbs<2 ^ 64
def Ka (i j:Int):Prop:=(-(2 ^ 64)<i/\i<2 ^ 64)\/(-(2 ^ 64)<j/\j<2 ^ 64)
theorem Ka.ok{i j:Int}(h:Ka i j):IntMulOk i j:=by
 rcases h with ⟨h1,h2⟩ |⟨h1,h2⟩
 ·exact .of_left (intBits_le_64 h1 h2)
 ·exact .of_right (intBits_le_64 h1 h2)
theorem gh:nU X (binaryOp .Add) (J8 fun i j=>.int (i+j)):=QI fun _ _ _ _ _ _ _ q=>add_int q
theorem oM:nU X (binaryOp .Sub) (J8 fun i j=>.int (i-j)):=QI fun _ _ _ _ _ _ _ q=>sub_int q
theorem uh:nU X (binaryOp .Mult) (rI Ka fun i j=>.int (i*j)):=QH fun _ _ _ _ _ _ _ hc q=>mul_int q hc.ok
theorem tm:nU X (binaryOp .FloorDiv) (rI QJ fun i j=>.int (i/j)):=QH fun i j _ _ _ _ _ hc q=>by
 have h1:(0:Int)<j:=hc.1;have h2:j<1073741824:=hc.2;exact floordiv_int (by lia) (by rw[Int.fdiv_eq_ediv_of_nonneg i (by lia)];exact q) (.inl (PyProof.noPylong_small (by lia)))
theorem oN:nU X (binaryOp .Mod) (rI (fun _ j=>0<j) fun i j=>.int (i%j)):=QH fun i j _ _ _ _ _ hc q=>by
 have h1:(0:Int)<j:=hc;exact mod_int' (by lia) (by rw[Int.fmod_eq_emod_of_nonneg i (by lia)];exact q)
theorem Nu:nU X (binaryOp .Pow) (rI UM fun i j=>.int (i ^ j.toNat)):=QH fun _ _ _ _ _ _ _ hc q=>pow_int_small hc.1 hc.2.1 hc.2.2 q
theorem unI{f:zdK->Sem zdK}{g:Int->Int}
 (rule:∀(i:Int) (t:Tok) (s:zdT) (Q:zdK->zdT->Prop) (E:zdK->zdT->Prop),Q (.int (g i) s.toks) {s with toks:=s.toks+1}->wpAny (model X.prog X.w) X.A (f (.int i t)) Q E s) :
 UK X f (rU fun i=>.int (g i)):=by
 intro pins s σ H x v Q I rx h;obtain⟨i,rfl,q⟩:=h;obtain⟨t,rfl⟩:=rx;exact rule i t s _ _ ⟨.int (g i),H,I.tok _,⟨_,rfl⟩,q⟩
theorem qJ:UK X (unaryOp .USub) (rU fun i=>.int (-i)):=unI fun _ _ _ _ _ q=>neg_int q
end
def EA:V->V->Bool
 |.bI,.bI=>true |.bI,.int _=>true |.int _,.bI=>true |.bI,.bl _=>true |.bl _,.bI=>true |.bI,.str _=>true |.str _,.bI=>true
 |.int _,.int _=>true |.bl _,.bl _=>true |.str _,.str _=>true |.C7 _,.C7 _=>true
 |.int _,.str _=>true |.str _,.int _=>true |.bl _,.str _=>true |.str _,.bl _=>true
 |_,_=>false
def Yg:R2:=fun x y H Q=>EA x y=true/\Q (.bl (decide (x=y))) H
def Yh:R2:=fun x y H Q=>EA x y=true/\Q (.bl (!decide (x=y))) H
theorem Dh{i j:Int}:decide (V.int i=V.int j)=(i==j):=by
 rw[zbj];simp
theorem Gh{i j:Bool}:decide (V.bl i=V.bl j)=(i==j):=by
 rw[zbj];simp
theorem Di{i j:Str}:decide (V.str i=V.str j)=(i==j):=by
 rw[zbj];simp
theorem Dj{i j:Array UInt8}:decide (V.C7 i=V.C7 j)=(i.toList==j.toList):=by
 rw[zbj];cases i;cases j;simp
section
variable{X:Cx}{a b c:Expr}{ta tb tc:TE}{pos:Pos}
theorem bJ{pins:List (zdJ×Obj)}{σ:St}{H:Hp}{s:zdT}{Q:VK}{k k':Bool}(I:Inv X pins σ H s)(q:Q (.bl k) H)(e:k=k'):EP X pins σ Q (.bool k') s:=by
 subst e;exact⟨.bl k,H,I,rfl,q⟩
theorem cD:nU X (compareOp .Eq) Yg:=by
 intro pins s σ H x y v u Q I rx ry h;obtain⟨hs,q⟩:=h;cases x with
 |bI=>
  cases rx;cases y with
  |bI=>cases ry;exact PySem.EqNone.eq_none_none (bJ I q (by simp))
  |bl j=>cases ry;exact PySem.EqNone.eq_none_bool (bJ I q (by simp))
  |int j=>obtain⟨t',rfl⟩:=ry;exact PySem.EqNone.eq_none_int (bJ I q (by simp))
  |str j=>obtain⟨t',rfl⟩:=ry;exact PySem.EqNone.eq_none_str (bJ I q (by simp))
  |_=>exact absurd (show false=true from hs) zar
 |bl i=>
  cases rx;cases y with
  |bI=>cases ry;exact PySem.EqNone.eq_bool_none (bJ I q (by simp))
  |bl j=>cases ry;exact eq_bool (bJ I q Gh)
  |str j=>obtain⟨t',rfl⟩:=ry;exact PySem.EqMixed.eq_bool_str (bJ I q (by simp))
  |_=>exact absurd (show false=true from hs) zar
 |int i=>
  obtain⟨t,rfl⟩:=rx;cases y with
  |bI=>cases ry;exact PySem.EqNone.eq_int_none (bJ I q (by simp))
  |int j=>obtain⟨t',rfl⟩:=ry;exact eq_int (bJ I q Dh)
  |str j=>obtain⟨t',rfl⟩:=ry;exact PySem.EqMixed.eq_int_str (bJ I q (by simp))
  |_=>exact absurd (show false=true from hs) zar
 |str i=>
  obtain⟨t,rfl⟩:=rx;cases y with
  |bI=>cases ry;exact PySem.EqNone.eq_str_none (bJ I q (by simp))
  |bl j=>cases ry;exact PySem.EqMixed.eq_str_bool (bJ I q (by simp))
  |int j=>obtain⟨t',rfl⟩:=ry;exact PySem.EqMixed.eq_str_int (bJ I q (by simp))
  |str j=>obtain⟨t',rfl⟩:=ry;exact eq_str (bJ I q Di)
  |_=>exact absurd (show false=true from hs) zar
 |C7 i=>
  obtain⟨t,rfl⟩:=rx;cases y with
  |C7 j=>obtain⟨t',rfl⟩:=ry;exact PySem.W.eq_bytes (bJ I q Dj)
  |_=>exact absurd (show false=true from hs) zar
 |_=>cases y<;>exact absurd (show false=true from hs) zar
theorem QK:nU X (compareOp .NotEq) Yh:=by
 intro pins s σ H x y v u Q I rx ry h;obtain⟨hs,q⟩:=h;cases x with
 |bI=>
  cases rx;cases y with
  |bI=>cases ry;exact PySem.EqNone.ne_none_none (bJ I q (by simp))
  |bl j=>cases ry;exact PySem.EqNone.ne_none_bool (bJ I q (by simp))
  |int j=>obtain⟨t',rfl⟩:=ry;exact PySem.EqNone.ne_none_int (bJ I q (by simp))
  |str j=>obtain⟨t',rfl⟩:=ry;exact PySem.EqNone.ne_none_str (bJ I q (by simp))
  |_=>exact absurd (show false=true from hs) zar
 |bl i=>
  cases rx;cases y with
  |bI=>cases ry;exact PySem.EqNone.ne_bool_none (bJ I q (by simp))
  |bl j=>cases ry;exact ne_bool (bJ I q (congrArg not Gh))
  |str j=>obtain⟨t',rfl⟩:=ry;exact PySem.EqMixed.ne_bool_str (bJ I q (by simp))
  |_=>exact absurd (show false=true from hs) zar
 |int i=>
  obtain⟨t,rfl⟩:=rx;cases y with
  |bI=>cases ry;exact PySem.EqNone.ne_int_none (bJ I q (by simp))
  |int j=>obtain⟨t',rfl⟩:=ry;exact ne_int (bJ I q (congrArg not Dh))
  |str j=>obtain⟨t',rfl⟩:=ry;exact PySem.EqMixed.ne_int_str (bJ I q (by simp))
  |_=>exact absurd (show false=true from hs) zar
 |str i=>
  obtain⟨t,rfl⟩:=rx;cases y with
  |bI=>cases ry;exact PySem.EqNone.ne_str_none (bJ I q (by simp))
  |bl j=>cases ry;exact PySem.EqMixed.ne_str_bool (bJ I q (by simp))
  |int j=>obtain⟨t',rfl⟩:=ry;exact PySem.EqMixed.ne_str_int (bJ I q (by simp))
  |str j=>obtain⟨t',rfl⟩:=ry;exact ne_str (bJ I q (congrArg not Di))
  |_=>exact absurd (show false=true from hs) zar
 |C7 i=>
  obtain⟨t,rfl⟩:=rx;cases y with
  |C7 j=>obtain⟨t',rfl⟩:=ry;exact PySem.W.ne_bytes (bJ I q (congrArg not Dj))
  |_=>exact absurd (show false=true from hs) zar
 |_=>cases y<;>exact absurd (show false=true from hs) zar
theorem nV:nU X (compareOp .Lt) (J8 fun i j=>.bl (decide (i<j))):=J9 fun _ _ _ _ _ _ _ q=>lt_int q
theorem Gi:nU X (compareOp .LtE) (J8 fun i j=>.bl (decide (i<=j))):=J9 fun _ _ _ _ _ _ _ q=>le_int q
theorem zU:nU X (compareOp .Gt) (J8 fun i j=>.bl (decide (j<i))):=J9 fun _ _ _ _ _ _ _ q=>gt_int q
theorem QL:nU X (compareOp .GtE) (J8 fun i j=>.bl (decide (j<=i))):=J9 fun _ _ _ _ _ _ _ q=>ge_int q
theorem Nv:nU X (compareOp .Is) (fun x y H Q=>y=.bI/\Q (.bl (decide (x=.bI))) H):=by
 intro pins s σ H x y v u Q I rx ry h;obtain⟨rfl,q⟩:=h;cases ry;refine is_none_gen (bJ I q ?_);cases x<;>first
  |(cases rx;rfl)
  |(obtain⟨t,rfl⟩:=rx;rfl)
theorem Dk:nU X (compareOp .IsNot) (fun x y H Q=>y=.bI/\Q (.bl (!decide (x=.bI))) H):=by
 intro pins s σ H x y v u Q I rx ry h;obtain⟨rfl,q⟩:=h;cases ry;refine isnot_none_gen (bJ I q ?_);cases x<;>first
  |(cases rx;rfl)
  |(obtain⟨t,rfl⟩:=rx;rfl)
theorem aS(b:Expr){op:CmpOp}(h:op≠.In:=by decide)(h2:op≠.NotIn:=by decide):behindInMarks op b=false:=by
 have e1:(op==CmpOp.In)=false:=by cases op<;>first |rfl |exact absurd rfl h
 have e2:(op==CmpOp.NotIn)=false:=by cases op<;>first |rfl |exact absurd rfl h2
 cases b<;>simp[behindInMarks,e1,e2]
theorem gm{op:CmpOp}{r:R2}(ho:nU X (compareOp op) r)(ha:PE X a ta)(hb:PE X b tb)(hm:behindInMarks op b=false):PE X (.Compare a [op] [b] pos) (Gg r ta tb):=by
 intro pins s σ H Q I h;exact wpAny_Compare1 (Nt ha hb I h fun v u s2 x y H2 I2 rx ry q=>ho pins s2 σ H2 x y v u Q I2 rx ry q) hm
def ui (t:TE):TT:=fun σ H Q=>t σ H fun x H'=>∃k,x=.bl k/\Q k H'
theorem aM{op:CmpOp}{r:R2}(ho:nU X (compareOp op) r)(ha:PE X a ta)(hb:PE X b tb)(hm:behindInMarks op b=false):PT X (.Compare a [op] [b] pos) (ui (Gg r ta tb)):=by
 intro pins s σ H Q I h;refine wpAny_isTrue_Compare1 (cS (ha pins s σ H _ I h) fun v s1 zqz=>?_) hm;obtain⟨x,H1,I1,r1,q1⟩:=zqz;refine cS (hb pins s1 σ H1 _ I1 q1) fun u s2 zqz=>?_;obtain⟨y,H2,I2,r2,q2⟩:=zqz;refine cS (ho pins s2 σ H2 x y v u _ I2 r1 r2 q2) fun c s3 zqz=>?_;obtain⟨z,H3,I3,r3,k,e,q3⟩:=zqz;subst e;cases r3;exact wpAny_truthy_bool ⟨H3,I3,q3⟩
def QM (K:zab) (x:V) (H:Hp) (k:Bool):Prop:=
 match x with
 |.bI=>k=false
 |.bl b=>k=b
 |.int i=>k=(i != 0)
 |.str y=>y.length<=zdR/\k=((y.length:Int) != 0)
 |.C7 y=>y.size<=zdR/\k=((y.size:Int) != 0)
 |.ref p=>(∃xs,fU K H p xs/\k = !xs.isEmpty)\/(∃xs,cF K H p xs/\k = !xs.isEmpty)\/∃kvs,H p=some (.dK kvs)/\k = !kvs.isEmpty
 |_=>False
theorem BH{κ:Type}{kvs:List (κ×V)}{vs:List (κ×zdK)}(r:KV kvs vs):(!vs.isEmpty) = !kvs.isEmpty:=by
 cases r<;>rfl
theorem uj{xs:List V}{aY:List zdK}(r:Vals xs aY):(!aY.toArray.isEmpty) = !xs.isEmpty:=by
 cases r<;>simp
theorem qK:(zdR:Nat)<2 ^ 63:=by rw[sizeLine_eq];decide
theorem Nw:UL X (fun x H Q=>∃k,QM X.K x H k/\Q k H):=by
 intro pins s σ H x v Q I rx h;obtain⟨k,e,q⟩:=h;have hl:=qK;have hs:zdR=16777216:=sizeLine_eq;cases x with
 |bI=>
  cases rx;have e':k=false:=e;subst e';exact truthy_none ⟨H,I,q⟩
 |bl b=>
  cases rx;have e':k=b:=e;subst e';exact wpAny_truthy_bool ⟨H,I,q⟩
 |int i=>
  obtain⟨t,rfl⟩:=rx;have e':k=(i != 0):=e;subst e';exact PySem.P.truthy_int ⟨H,I,q⟩
 |str y=>
  obtain⟨t,rfl⟩:=rx;obtain⟨hy,e'⟩:y.length<=zdR/\k=((y.length:Int) != 0):=e;subst e';exact PySem.P.truthy_str (by lia) ⟨H,I.tok _,q⟩
 |C7 y=>
  obtain⟨t,rfl⟩:=rx;obtain⟨hy,e'⟩:y.size<=zdR/\k=((y.size:Int) != 0):=e;subst e';exact PySem.W.truthy_bytes (by lia) ⟨H,I.tok _,q⟩
 |ref p=>
  cases rx;have e':(∃xs,fU X.K H p xs/\k = !xs.isEmpty)\/(∃xs,cF X.K H p xs/\k = !xs.isEmpty)\/∃kvs,H p=some (.dK kvs)/\k = !kvs.isEmpty:=e;rcases e' with ⟨xs,hx,e'⟩ |⟨xs,hx,e'⟩ |⟨kvs,hx,e'⟩
  ·subst e';obtain⟨aY,r,pl,hz⟩:=I.list hx;have hlen:=r.length;exact wpAny_truthy_list pl.isList (by simp only[zas];lia) ⟨H,I.tok _,by rw[uj r];exact q⟩
  ·subst e';obtain⟨aY,r,pl,hz⟩:=I.tuple hx;have hlen:=r.length;exact truthy_tuple pl (by simp only[zas];lia) ⟨H,I.tok _,by rw[uj r];exact q⟩
  ·subst e';obtain⟨hz,hS,vs,r,m⟩:kvs.length<=zdR/\(p==sysModules)=false/\∃vs,KV kvs vs/\s.heap.DictOf (bN X.prog X.w) p vs:=I.cc p _ hx;have hlen:kvs.length=vs.length:=Paired.length r;exact wpAny_truthy_dict hS m (by lia) ⟨H,I.tok _,by rw[BH r];exact q⟩
 |_=>exact(show False from e).elim
theorem zV(ha:PE X a ta)(he:∀whole,isTrue a X.env whole=(do let v <- whole;standAt a.pos;holding [v] (truthy v))) :
 PT X a (fun σ H Q=>ta σ H fun x H'=>∃k,QM X.K x H' k/\Q k H'):=by
 intro pins s σ H Q I h;exact isTrue_plain (cS (ha pins s σ H _ I h) fun v s1 ⟨x,H1,I1,r1,q1⟩=>Nw pins s1 σ H1 x v Q I1 r1 q1) (he _)
theorem vals1{x:V}{us:List zdK}(r:Vals [x] us):∃u,us=[u]/\RelV x u:=by
 cases r with
 |cons r1 r2=>cases r2;exact⟨_,rfl,r1⟩
theorem vals2{x y:V}{us:List zdK}(r:Vals [x,y] us):∃u w',us=[u,w']/\RelV x u/\RelV y w':=by
 cases r with
 |cons r1 r2=>
  cases r2 with
  |cons r3 r4=>cases r4;exact⟨_,_,rfl,r1,r3⟩
theorem jm(hc:X.calm=true):gV X (.builtin "max") (fun xs H Q=>∃i j,xs=[.int i,.int j]/\Q (.int (if j>i then j else i)) H):=by
 intro pins s σ H xs us Q I r h;obtain⟨i,j,rfl,q⟩:=h;obtain⟨u,w',rfl,⟨t,rfl⟩,⟨t',rfl⟩⟩:=vals2 r;refine max_two_ints (I.ok.hd hc) fun h' tk k=>⟨_,H,I.kept k,?_,q⟩
 by_cases hj:j>i
 ·rw[if_pos hj,if_pos hj];exact⟨_,rfl⟩
 ·rw[if_neg hj,if_neg hj];exact⟨_,rfl⟩
theorem gZ(hc:X.calm=true):gV X (.builtin "min") (fun xs H Q=>∃i j,xs=[.int i,.int j]/\Q (.int (if j<i then j else i)) H):=by
 intro pins s σ H xs us Q I r h;obtain⟨i,j,rfl,q⟩:=h;obtain⟨u,w',rfl,⟨t,rfl⟩,⟨t',rfl⟩⟩:=vals2 r;refine min_two_ints (I.ok.hd hc) fun h' tk k=>⟨_,H,I.kept k,?_,q⟩
 by_cases hj:j<i
 ·rw[if_pos hj,if_pos hj];exact⟨_,rfl⟩
 ·rw[if_neg hj,if_neg hj];exact⟨_,rfl⟩
end
structure EB(h:Heap)(x dx C:zdJ)(mA:Str->Option zdK):Prop where
 obj:h.get? x=some (zbC C dx)
 ns:h.Ns1 dx mA
 ne:dx≠x
theorem EC{h:Heap}{dx:zdJ}{mA:Str->Option zdK}(n:h.Ns1 dx mA):∃od,h.get? dx=some od/\∀name,zdq name od=some (mA name):=by
 obtain⟨o,es,ep,ho,hd,hk,_,hm⟩:=n;refine⟨o,ho,fun name=>?_⟩;have e:=hm name;unfold nsFind findBy at e;rw[<- Array.find?_toList] at e;unfold zdq;rw[hd];dsimp only;split
 ·rename_i y q;rw[q] at e;exact congrArg some e
 ·rename_i q;rw[q] at e;have a:es.toList.any (·.refKey)=false:=by
   rw[List.any_eq_false];intro y hy;obtain⟨z,t,UN⟩:=hk y (Array.mem_toList_iff.mp hy);simp[DictEntry.refKey,UN]
  have a':¬es.toList.any (·.refKey)=true:=by rw[a];exact zar
  rw[if_neg a'];exact congrArg some e
theorem EB.look{h:Heap}{x dx C:zdJ}{mA:Str->Option zdK}(I:EB h x dx C mA):∃od,PySem.W.InstAt h x (zbC C dx) C (some od)/\∀name,zdq name od=some (mA name):=
 let ⟨od,ho,hl⟩:=EC I.ns
 ⟨od,⟨I.obj,rfl,rfl,ho⟩,hl⟩
section
variable{prog:zdV}{w:zdL}{A:zdU}{E:zdK->zdT->Prop}{s:zdT}{K:zab}{x dx C f:zdJ}{mA:Str->Option zdK}{name:Str}{v:zdK}
theorem get_map{expr:Bool}{Q:zdK->zdT->Prop}(X:K.In s.heap)(I:EB s.heap x dx C mA)(hg:zct K C name=true)(hh:zcm K C=true)
 (ha:zaW K (.ref C) name=some none) (hv:mA name=some v) (Bq:PySem.W.handedIn v=true) (h:Q v {s with toks:=s.toks+1}) :
 wpAny (model prog w) A (getAttr (.ref x) name expr) Q E s:=by
 obtain⟨od,J,hl⟩:=I.look;exact PySem.W.get_value X J (PySem.W.plainGet_of hg).1 (PySem.W.findObj_own hh ha rfl (by rw[hl,hv])) Bq h
theorem Dl{ns:List Str}{Q:Unit->zdT->Prop}(X:K.In s.heap)(I:EB s.heap x dx C mA)
 (hs:zaW K (.ref C) "__setattr__"=some (some (.builtin "object.__setattr__"))) (hp:zcY K C=true) (ht:zdf K C name=some none) (hh:zcm K C=true)
 (hw:PySem.Within mA ns) (hsz:ns.length<=zdR)
 (h:∀h',EB h' x dx C (fun y=>if y=name then some v else mA y)->Heap.SameBut dx s.heap h'->Q () {s with heap:=h',toks:=s.toks+2}) :
 wpAny (model prog w) A (setAttr (.ref x) name v) Q E s:=by
 obtain⟨od,J,hl⟩:=I.look;refine PySem.W.set_plain X J hs (PySem.W.osa_open (s:={s with toks:=s.toks+1}) (r:=none) X J hp ht fun b=>?_);obtain⟨cd,hc,C8⟩:=PySem.W.any_some hh;have hx:s.heap.get? x=some ⟨.ref C,some dx,.plain, #[]⟩:=I.obj;refine zdM (zdN (zdM (zdM (wpAny_loadPart hx (zdM (PySem.W.Looks.here (s:={s with toks:=s.toks+1}) (PySem.W.looks_clsIn X hc) ?_))))));rw[C8];refine zdN (a:=some dx) (zdM (zdN (zdM ?_)));refine wpAny_nsSet1 (s:={s with toks:=s.toks+1}) I.ns fun h' Ts vQ=>?_;obtain⟨oD,esD,epD,hoD,hdD,hcD⟩:=Ts.count (PySem.Within.cons name v hw);refine zdM (wpAny_lookBehind hoD (by rw[hdD];exact pastItsLine_dict (zax hcD (by rw[zai];lia))) ?_);exact zdN (h _ ⟨(vQ.2 _ (Ne.symm I.ne)).trans I.obj,Ts,I.ne⟩ vQ)
theorem Gj{R:Result->zdT->Prop}{vs:List zdK}{kw:List (Str×zdK)}(X:K.In s.heap)(hm:zdg K C=true)
 (hi:zaW K (.ref C) "__init__"=some (some (.ref f))) (hf:PySem.W.typeIn K (.ref f)=some (.type "function"))
 (h:codeAny (model prog w) (A.under (.builtin "type.__call__" ⟨.ref C::vs,kw⟩)) (.call (.ref f) ⟨.ref (s.heap.objs.size+1)::vs,kw⟩) (PySem.W.InitBack (s.heap.objs.size+1) R)
  {s with heap:=(s.heap.push zbi).push (zbC C s.heap.objs.size)}) :
 codeAny (model prog w) A (.call (.ref C) ⟨vs,kw⟩) R s:=by
 obtain⟨hh,g,d,t,os⟩:=s;exact PySem.W.make_core (PySem.W.makes_of X hm) (PySem.W.looks_findIn X hi) (fun self=>PySem.W.bind_fn X self hf) (.inl rfl) h
end
def j8 (f:Str) (v:V):List (Str×V)->List (Str×V)
 |[]=>[(f,v)]
 |(g,x)::r=>if g=f then (g,v)::r else (g,x)::j8 f v r
theorem rP(f g:Str)(v:V):∀fs:List (Str×V),(j8 f v fs).lookup g=if g=f then some v else fs.lookup g
 |[]=>by
  show zbQ g [(f,v)]=_;by_cases h:g=f
  ·have hb:(g==f)=true:=beq_iff_eq.mpr h;simp only[zbQ,hb,if_pos h]
  ·have hb:(g==f)=false:=beq_eq_false_iff_ne.mpr h;simp only[zbQ,hb,if_neg h]
 |(k,x)::r=>by
  have ih:=rP f g v r;rw[show j8 f v ((k,x)::r)=(if k=f then (k,v)::r else (k,x)::j8 f v r) from rfl];by_cases hk:k=f
  ·rw[if_pos hk];by_cases h:g=k
   ·have hb:(g==k)=true:=beq_iff_eq.mpr h;simp only[zbQ,hb,if_pos (h.trans hk)]
   ·have hb:(g==k)=false:=beq_eq_false_iff_ne.mpr h;simp only[zbQ,hb,if_neg (fun e:g=f=>h (e.trans hk.symm))]
  ·rw[if_neg hk];by_cases h:g=k
   ·have hb:(g==k)=true:=beq_iff_eq.mpr h;simp only[zbQ,hb,if_neg (fun e:g=f=>hk (h.symm.trans e))]
   ·have hb:(g==k)=false:=beq_eq_false_iff_ne.mpr h;simp only[zbQ,hb];exact ih
theorem qL(f:Str)(v:V):∀fs:List (Str×V),f∈(j8 f v fs).map (·.1)/\∀g,g∈fs.map (·.1)->g∈(j8 f v fs).map (·.1)
 |[]=>⟨by simp[j8],fun g h=>by simp at h⟩
 |(k,x)::r=>by
  obtain⟨i1,i2⟩:=qL f v r;rw[show j8 f v ((k,x)::r)=(if k=f then (k,v)::r else (k,x)::j8 f v r) from rfl];by_cases hk:k=f
  ·rw[if_pos hk];subst hk;exact⟨by simp,fun g h=>by simpa using h⟩
  ·rw[if_neg hk];refine⟨?_,fun g h=>?_⟩
   ·rw[zaq];exact zae _ i1
   ·rw[zaq] at h ⊢;rcases zag.mp h with e |e
    ·exact zag.mpr (.inl e)
    ·exact zae _ (i2 g e)
theorem rQ(f:Str)(v:V):∀fs:List (Str×V),(j8 f v fs).length<=fs.length+1
 |[]=>by simp[j8]
 |(k,x)::r=>by
  have ih:=rQ f v r;rw[show j8 f v ((k,x)::r)=(if k=f then (k,v)::r else (k,x)::j8 f v r) from rfl];by_cases hk:k=f
  ·rw[if_pos hk,zai,zai];lia
  ·rw[if_neg hk,zai,zai];lia
theorem oK.some_of{v:V}{o:Option zdK}(r:oK (some v) o):∃u,o=some u/\RelV v u:=by
 cases o with
 |none=>exact(show False from r).elim
 |some u=>exact⟨u,rfl,r⟩
theorem ED{v:V}{u:zdK}(r:RelV v u):PySem.W.handedIn u=true:=by
 cases v with
 |bI=>cases (show u=Value.none from r);rfl
 |bl b=>cases (show u=Value.bool b from r);rfl
 |int i=>obtain⟨t,e⟩:=(show ∃t,u=Value.int i t from r);cases e;rfl
 |str x=>obtain⟨t,e⟩:=(show ∃t,u=Value.str x t from r);cases e;rfl
 |C7 b=>obtain⟨t,e⟩:=(show ∃t,u=Value.bytes b t from r);cases e;rfl
 |Nc b=>obtain⟨t,e⟩:=(show ∃t,u=Value.float b t from r);cases e;rfl
 |ref a=>cases (show u=Value.ref a from r);rfl
 |ty n=>cases (show u=Value.type n from r);rfl
section
variable{P:zdV}{w:zdL}{H H':Hp}{h h':Heap}{a C dx:zdJ}{fs fs':List (Str×V)}
theorem xO(cc:pB P w H h)(e:H a=some (.ins C dx fs)):∃mA,EB h a dx C mA/\(∀f,oK (fs.lookup f) (mA f))/\PySem.Within mA (fs.map (·.1))/\fs.length<=1000/\H dx=some (.own a):=by
 obtain⟨d,z,ne,ob,mA,n,r,q⟩:=(show ck P w H h a (.ins C dx fs) from cc a _ e)
 exact⟨mA,⟨ob,n,ne⟩,r,q,z,d⟩
end
structure Mb(K:zab)(C:zdJ):Prop where
 pg:zct K C Str.empty=true
 hd:zcm K C=true
 po:zcY K C=true
 sa:zaW K (.ref C) "__setattr__"=some (some (.builtin "object.__setattr__"))
theorem Mb.get{K:zab}{C:zdJ}(c:Mb K C)(f:Str):zct K C f=true:=c.pg
def jx (K:zab) (C:zdJ) (f:Str):Prop:=zaW K (.ref C) f=some none
theorem jx.QN{K:zab}{C:zdJ}{f:Str}(n:jx K C f):zdf K C f=some none:=by
 unfold zdf;rw[show zaW K (.ref C) f=some none from n];rfl
section
variable{X:Cx}{pins:List (zdJ×Obj)}{σ:St}{H:Hp}{s:zdT}{a C dx:zdJ}{fs:List (Str×V)}{f:Str}{v:V}{A:zdU}{E:zdK->zdT->Prop}
theorem BI{b:Bool}{Q:zdK->zdT->Prop}(I:Inv X pins σ H s)(e:H a=some (.ins C dx fs))(c:Mb X.K C)(n:jx X.K C f)(l:fs.lookup f=some v)
 (h:∀u s',Inv X pins σ H s'->RelV v u->Q u s'):wpAny (model X.prog X.w) A (getAttr (.ref a) f b) Q E s:=by
 obtain⟨mA,O,r,_,_,_⟩:=xO I.cc e;obtain⟨u,hu,ru⟩:=oK.some_of (v:=v) (o:=mA f) (by rw[<- l];exact r f);exact get_map I.vP O (c.get f) c.hd n hu (ED ru) (h u _ (I.tok _) ru)
theorem BJ{y:V}{u:zdK}{Q:Unit->zdT->Prop}(I:Inv X pins σ H s)(e:H a=some (.ins C dx fs))(c:Mb X.K C)(n:jx X.K C f)(hl:fs.length<1000)(ry:RelV y u)
 (h:∀s',Inv X pins σ (upd H a (.ins C dx (j8 f y fs))) s'->Q () s'):wpAny (model X.prog X.w) A (setAttr (.ref a) f u) Q E s:=by
 obtain⟨mA,O,r,wi,_,ho⟩:=xO I.cc e;have hz:(fs.map (·.1)).length<=zdR:=by rw[zad,sizeLine_eq];lia
 refine Dl I.vP O c.sa c.po n.QN c.hd wi hz fun h' O' sb=>h _ ?_;have hd:∃o,h'.get? dx=some o:=let ⟨o,_,_,e',_⟩:=O'.ns;⟨o,e'⟩;refine I.write (x:=a) (e:=dx) (by rw[e];exact True.intro) (.inr ho) (fun b q hb z=>(sb.2 b hb).trans z) hd ?_;refine⟨by rw[aD O.ne];exact ho,?_,O.ne,O'.obj,_,O'.ns,fun g=>?_,fun g hg=>?_⟩
 ·have:=rQ f y fs;lia
 ·show oK ((j8 f y fs).lookup g) (if g=f then some u else mA g);rw[rP];by_cases q:g=f
  ·rw[if_pos q,if_pos q];exact ry
  ·rw[if_neg q,if_neg q];exact r g
 ·by_cases q:g=f
  ·rw[q];exact(qL f y fs).1
  ·refine(qL f y fs).2 g (wi g fun z=>hg ?_);show (if g=f then some u else mA g)=none;rw[if_neg q];exact z
theorem Inv.made(I:Inv X pins σ H s):Inv X pins σ (upd (upd H s.heap.objs.size (.own (s.heap.objs.size+1))) (s.heap.objs.size+1) (.ins C s.heap.objs.size []))
 {s with heap:=(s.heap.push zbi).push (zbC C s.heap.objs.size)}:=by
 have e1:(s.heap.push zbi).get? s.heap.objs.size=some zbi:=Heap.get?_push_size s.heap rfl;have e2:((s.heap.push zbi).push (zbC C s.heap.objs.size)).get? (s.heap.objs.size+1)=some (zbC C s.heap.objs.size):=by
  have:=Heap.get?_push_size (s.heap.push zbi) (o:=zbC C s.heap.objs.size) rfl
  rwa [Heap.size_push] at this
 have e3:(s.heap.push zbi).Ns s.heap.objs.size (fun _=>none):=⟨zbi, #[],_,e1,rfl,(fun e he=>absurd he (by simp)),fun _=>rfl⟩
 have I1:=I.laid (a:=s.heap.objs.size) (o:=.own (s.heap.objs.size+1)) (h':=s.heap.push zbi) (t':=s.toks) (fun b u q=>Heap.get?_push_of_some _ q) (zaj _) ⟨_,e1⟩;refine I1.laid (a:=s.heap.objs.size+1) (o:=.ins C s.heap.objs.size []) (t':=s.toks) (fun b u q=>Heap.get?_push_of_some _ q) (zc0 (Heap.size_push _ _)) ?_;have ne:s.heap.objs.size≠s.heap.objs.size+1:=zat (zb7 _);refine⟨by rw[aD ne,ai],zaI _,ne,e2,fun _=>none,(Heap.Ns1.of_empty e3).at fun o q=>Heap.get?_push_of_some _ q,fun _=>True.intro,fun y hy=>absurd rfl hy⟩
theorem Kb{prog:zdV}{w:zdL}{env:Env}{e:Expr}{f:Str}{pos:Pos}{s:zdT}{Q:zdK->zdT->Prop}(hb:attributeBase e f env (eval e env)=eval e env)
 (h:wpAny (model prog w) A (eval e env) (fun o s₁=>wpAny (model prog w) A (getAttr o f true) Q E s₁) E s):wpAny (model prog w) A (eval (.Attribute e f pos) env) Q E s:=
 Attribute_any_ h (by rw[arm_eval_Attribute,hb])
end
def EE (K:zab) (ta:TE) (f:Str):TE:=fun σ H Q=>ta σ H fun x H1=>∃a C dx fs v,x=.ref a/\H1 a=some (.ins C dx fs)/\Mb K C/\jx K C f/\fs.lookup f=some v/\Q v H1
def uk (K:zab) (ta tv:TE) (f:Str):TS:=fun D σ H=>tv σ H fun y H1=>ta σ H1 fun x H2=>∃a C dx fs,x=.ref a/\H2 a=some (.ins C dx fs)/\Mb K C/\jx K C f/\fs.length<1000/\
 D.nx σ (upd H2 a (.ins C dx (j8 f y fs)))
section
variable{X:Cx}{o e value:Expr}{f:Str}{pos pos' UO:Pos}{ta tv:TE}
theorem g9(he:PE X e ta)(hb:attributeBase e f X.env (eval e X.env)=eval e X.env):PE X (.Attribute e f pos) (EE X.K ta f):=by
 intro pins s σ H Q I h;refine Kb hb (cS (he pins s σ H _ I h) fun u s1 zqz=>?_);obtain⟨x,H1,I1,rx,a,C,dx,fs,v,ex,ea,c,n,l,q⟩:=zqz;subst ex;obtain rfl:u=Value.ref a:=rx;exact BI I1 ea c n l fun u' s2 I2 ru=>⟨v,H1,I2,ru,q⟩
theorem um(ha:PE X o ta)(hv:PE X value tv)(hs:swapsWith value (some (.Attribute o f pos')) pos.line X.env=pure false):PS X (.Assign [.Attribute o f pos'] value pos) (uk X.K ta tv f):=by
 intro pins s σ H D I h;refine plainObj_wpAny_Assign_Attribute (cS (hv pins s σ H _ I h) fun u s1 zqz=>?_) hs;obtain⟨y,H1,I1,ry,q⟩:=zqz;refine cS (ha pins s1 σ H1 _ I1 q) fun ov s2 zqz=>?_;obtain⟨x,H2,I2,rx,a,C,dx,fs,ex,ea,c,n,l,q2⟩:=zqz;subst ex;obtain rfl:ov=Value.ref a:=rx;exact BJ I2 ea c n l ry fun s3 I3=>⟨σ,_,I3,q2⟩
end
section
variable{X:Cx}{pins:List (zdJ×Obj)}{σ:St}{H:Hp}{s:zdT}{A:zdU}{E:zdK->zdT->Prop}{Q:zdK->zdT->Prop}{c:zdK}{b:Bool}
inductive qM(K:zab)(H:Hp):V->zdK->Prop where
 |bI:qM K H .bI (.type "NoneType")
 |bl (x:Bool):qM K H (.bl x) (.type "bool")
 |int (i:Int):qM K H (.int i) (.type "int")
 |str (x:Str):qM K H (.str x) (.type "str")
 |Nc (x:UInt64):qM K H (.Nc x) (.type "float")
 |lst {a:zdJ} {xs:List V} (e:H a=some (.lst xs)):qM K H (.ref a) (.type "list")
 |qH {a:zdJ} {o:Obj} {xs:List V} (e:H a=some (.qH o (.lst xs))):qM K H (.ref a) (.type "list")
 |tup {a:zdJ} {xs:List V} (e:H a=some (.tup xs)):qM K H (.ref a) (.type "tuple")
 |dK {a:zdJ} {kvs:List (Key×V)} (e:H a=some (.dK kvs)):qM K H (.ref a) (.type "dict")
 |dT {a:zdJ} {kvs:List (List Key×V)} (e:H a=some (.dT kvs)):qM K H (.ref a) (.type "dict")
 |ins {a C dx:zdJ} {fs:List (Str×V)} (e:H a=some (.ins C dx fs)) (cl:Mb K C) (ha:zaW K (.ref C) "__class__"=some (some (.builtin "object.__class__")))
  (hn:PySem.W.specialIn K (.builtin "object.__class__") "__get__"=some (some (.builtin "getset_descriptor.__get__"))) (Yi:PySem.W.takesIn K (.builtin "object.__class__")=some true)
  (hm:PySem.W.mroIn K C (.type "object")=some true):qM K H (.ref a) (.ref C)
theorem EF{x:V}{u t:zdK}(I:Inv X pins σ H s)(rx:RelV x u)(ty:qM X.K H x t)(e:PySem.W.kitOne X.K t c=some b)(h:∀tk,Q (.bool b) {s with toks:=tk}) :
 wpAny (model X.prog X.w) A (call (.builtin "isinstance") [u,c]) Q E s:=by
 cases ty with
 |bI=>cases (show u=Value.none from rx);exact zbb PySem.W.kitx_none I.vP True.intro e (fun z=>nomatch z) h
 |bl y=>cases (show u=Value.bool y from rx);exact zbb PySem.W.kitx_bool I.vP True.intro e (fun z=>nomatch z) h
 |int i=>obtain⟨t,q⟩:=(show ∃t,u=Value.int i t from rx);cases q;exact zbb PySem.W.kitx_int I.vP True.intro e (fun z=>nomatch z) h
 |str y=>obtain⟨t,q⟩:=(show ∃t,u=Value.str y t from rx);cases q;exact zbb PySem.W.kitx_str I.vP True.intro e (fun z=>nomatch z) h
 |Nc y=>obtain⟨t,q⟩:=(show ∃t,u=Value.float y t from rx);cases q;exact zbb PySem.W.kitx_float I.vP True.intro e (fun z=>nomatch z) h
 |@lst a xs ea=>
  cases (show u=Value.ref a from rx);obtain⟨_,_,n,_,h1⟩:=(show ck X.prog X.w H s.heap a (.lst xs) from I.cc a _ ea)
  exact zbb PySem.W.kitx_list I.vP ⟨_,h1,rfl⟩ e (fun z=>nomatch z) h
 |@qH a ob xs ea=>
  cases (show u=Value.ref a from rx);obtain⟨_,_,_,n,_,h1⟩:=(show ck X.prog X.w H s.heap a (.qH ob (.lst xs)) from I.cc a _ ea)
  exact zbb PySem.W.kitx_list I.vP ⟨_,h1,rfl⟩ e (fun z=>nomatch z) h
 |@tup a xs ea=>
  cases (show u=Value.ref a from rx);obtain⟨_,_,_,p⟩:=(show ck X.prog X.w H s.heap a (.tup xs) from I.cc a _ ea)
  obtain⟨o,h1,h2,_⟩:=p;exact zbb PySem.W.kitx_tuple I.vP ⟨o,h1,h2⟩ e (fun z=>nomatch z) h
 |@dK a kvs ea=>
  cases (show u=Value.ref a from rx);obtain⟨_,_,vs,_,p⟩:=(show ck X.prog X.w H s.heap a (.dK kvs) from I.cc a _ ea)
  obtain⟨o,es,ep,h1,h2,_⟩:=p;exact zbb PySem.W.kitx_dict I.vP ⟨o,h1,h2.1⟩ e (fun z=>nomatch z) h
 |@dT a kvs ea=>
  cases (show u=Value.ref a from rx);obtain⟨_,_,xs,_,o,es,ep,h1,h2,_⟩:=(show ck X.prog X.w H s.heap a (.dT kvs) from I.cc a _ ea)
  exact zbb PySem.W.kitx_dict I.vP ⟨o,h1,h2.1⟩ e (fun z=>nomatch z) h
 |@ins a C dx fs ea cl ha hn Yi hm=>
  cases (show u=Value.ref a from rx);obtain⟨mA,O,_⟩:=xO I.cc ea;obtain⟨od,J,_⟩:=O.look;exact zbb (PySem.W.kitx_own (cl.get _) cl.hd ha hn Yi hm) I.vP J e (fun z=>nomatch z) h
end
structure iW(k:Nat)(A:zdU):Prop where
 hd:A.handled=none
 dp:A.depth+3*k+5<recursionLimit
 un:A.units+16*k+200<cLine
theorem iW.mono{j k:Nat}{A:zdU}(r:iW k A)(h:j<=k):iW j A:=⟨r.hd,by have:=r.dp;lia,by have:=r.un;lia⟩
theorem iW.deeper{k:Nat}{A:zdU}(r:iW (k+1) A)(env:Env):iW k (A.deeper env):=
 ⟨r.hd,by have:=r.dp;show A.depth+1+3*k+5<_;lia,by have:=r.un;show A.units+3+16*k+200<_;lia⟩
theorem BK{A:zdU}{C:zdJ}{us:List zdK}{kw:List (Str×zdK)}:(A.under (.builtin "type.__call__" ⟨.ref C::us,kw⟩)).depth=A.depth+1:=by
 first |rfl |simp[Around.under,Code.weight,Code.isCreation,Code.isGuard,Code.isCaller,Code.frames,Code.isFrame,guardIds]
theorem BL{A:zdU}{C:zdJ}{us:List zdK}{kw:List (Str×zdK)}:(A.under (.builtin "type.__call__" ⟨.ref C::us,kw⟩)).units=A.units+1:=by
 first |rfl |simp[Around.under,Code.cUnits,Code.frames,Code.isFrame]
theorem iW.make{k:Nat}{A:zdU}(r:iW (k+1) A)(C:zdJ)(us:List zdK)(kw:List (Str×zdK)):iW k (A.under (.builtin "type.__call__" ⟨.ref C::us,kw⟩)):=
 ⟨r.hd,by have:=r.dp;rw[BK];lia,by have:=r.un;rw[BL];lia⟩
theorem iW.depth{k:Nat}{A:zdU}(r:iW k A):A.depth<recursionLimit:=by have:=r.dp;lia
theorem iW.units{k:Nat}{A:zdU}(r:iW k A):A.units+64<cLine:=by have:=r.un;lia
def BM:TA:=fun _ H Q=>Q [] H
def lR (ta:TE) (tr:TA):TA:=fun σ H Q=>ta σ H fun x H1=>tr σ H1 fun xs H2=>Q (x::xs) H2
section
variable{X:Cx}{e:Expr}{es:List Expr}{te:TE}{t:TA}{pos:Pos}
theorem ah:PA X [] BM:=fun _ _ _ _ H Q I h=>Calls.spliced_nil ⟨[],H,I,.nil,h⟩
theorem aa(ha:PE X e te)(hr:PA X es t)(hs:zdP (e::es) X.env=(false,eval e X.env)::zdP es X.env:=by rfl):PA X (e::es) (lR te t):=by
 intro pos pins s σ H Q I h;rw[hs];show wpAny _ _ (spliced ((false,eval e X.env)::backTo pos (zdP es X.env))) _ _ s;refine Calls.spliced_cons (cS (ha pins s σ H _ I h) fun u s1 zqz=>?_);obtain⟨x,H1,I1,r1,q1⟩:=zqz;exact cS (hr pos pins s1 σ H1 _ I1 q1) fun us s2 ⟨xs,H2,I2,r2,q2⟩=>⟨x::xs,H2,I2,.cons r1 r2,q2⟩
def Kc (t:TA):TE:=fun σ H Q=>t σ H fun xs H1=>xs.length<=zdR/\∀p,H1 p=none->Q (.ref p) (upd H1 p (.tup xs))
def QO (t:TA):TE:=fun σ H Q=>t σ H fun xs H1=>xs.length<=zdR/\∀p,H1 p=none->Q (.ref p) (upd H1 p (.lst xs))
theorem bf{x1}(h:PA X es t):PE X (.Tuple es x1 pos) (Kc t):=by
 intro pins s σ H Q I hq;refine wpAny_Tuple_spliced (cS (h pos pins s σ H _ I hq) fun us s1 ⟨xs,H1,I1,r,z,q⟩=>⟨by rw[<- r.length];exact z,?_⟩);have hf:H1 s1.heap.objs.size=none:=I1.cc.fresh (zaj _);refine⟨.ref s1.heap.objs.size,upd H1 s1.heap.objs.size (.tup xs),I1.laid (t':=s1.toks) (fun b u e=>Heap.get?_push_of_some _ e) (zaj _) ?_,rfl,q _ hf⟩;exact⟨z,us,r,⟨_,Heap.get?_push_size _ rfl,rfl,_,rfl⟩⟩
theorem bE(h:PA X es t):PE X (.List es pos) (QO t):=by
 intro pins s σ H Q I hq;refine wpAny_List_spliced (cS (h pos pins s σ H _ I hq) fun us s1 ⟨xs,H1,I1,r,z,q⟩=>⟨by rw[<- r.length];exact z,?_⟩);have hf:H1 s1.heap.objs.size=none:=I1.cc.fresh (zaj _);refine⟨.ref s1.heap.objs.size,upd H1 s1.heap.objs.size (.lst xs),I1.laid (t':=s1.toks) (fun b u e=>Heap.get?_push_of_some _ e) (zaj _) ?_,rfl,q _ hf⟩;exact⟨z,us,0,r,Heap.get?_push_size _ rfl⟩
end
abbrev Sp:=List V->Hp->VK->XK->Prop
abbrev EG:=List Env->Hp->zdT->XK->zdK->zdT->Prop
structure BN(P:zdV)(w:zdL)(K:zab)(mg:Str->Option zdK)(base:Heap)(A:zdU)(outer:List Env)(s:zdT)(H:Hp):Prop where
 frames:A.frames=some outer
 mod:Mod K mg base
 bs:∀b o,base.get? b=some o->s.heap.get? b=some o/\H b=none
 JY:base.objs.size<=s.heap.objs.size
 sM:s.heap.FunFrames base outer
 Nh:∀b∈F8 outer,H b=none
 cc:pB P w H s.heap
 bare:AllBare s.gens
def CE (outer:List Env) (P:zdV) (w:zdL) (H:Hp) (s:zdT) (Q:VK) (u:zdK) (s':zdT):Prop:=
 ∃v H',s'.os=s.os/\AllBare s'.gens/\Un (F8 outer) [] H H' s.heap s'.heap/\pB P w H' s'.heap/\RelV v u/\Q v H'
def CR (CX:EG) (outer:List Env) (P:zdV) (w:zdL) (H:Hp) (s:zdT) (Q:VK) (E:XK) (r:Result) (s':zdT):Prop:=
 match r with
 |.ok (.ret u)=>CE outer P w H s Q u s'
 |.ok _=>False
 |.error e=>CX outer H s E e s'
structure bM(P:zdV)(w:zdL)(K:zab)(mg:Str->Option zdK)(base:Heap)(CX:EG)(k:Nat)(f:zdJ)(fd:zdS)(ps:List Str)(sp:Sp):Prop where
 len:∀vs H Q E,sp vs H Q E->vs.length=ps.length
 run:∀(A:zdU) (outer:List Env) (s:zdT) (H:Hp) (args:Args) (us:List zdK) (vs:List V) (Q:VK) (E:XK),iW k A->BN P w K mg base A outer s H->BindsTo s fd args (ps.zip us)->Vals vs us->sp vs H Q E->
  codeAny (model P w) A (.call (.ref f) args) (CR CX outer P w H s Q E) s
theorem BN.make{P:zdV}{w:zdL}{K:zab}{mg:Str->Option zdK}{base:Heap}{A:zdU}{outer:List Env}{s:zdT}{H:Hp}(e:BN P w K mg base A outer s H)(C:zdJ)(us:List zdK)(kw:List (Str×zdK)) :
 BN P w K mg base (A.under (.builtin "type.__call__" ⟨.ref C::us,kw⟩)) outer s H:=⟨by first |exact e.frames |(simpa[Around.under,Code.envs,Code.isFrame,pushEnvs] using e.frames),e.mod,e.bs,e.JY,e.sM,e.Nh,e.cc,e.bare⟩
section
variable{X:Cx}{pins:List (zdJ×Obj)}{σ:St}{H:Hp}{s s':zdT}
theorem Inv.QP(I:Inv X pins σ H s):BN X.prog X.w X.K X.mg X.base X.A X.stack s H:=
 ⟨I.ok.frames,I.ok.mod,I.bs,zax I.ok.JY I.sz,I.stack,I.C9,I.cc,I.bare⟩
theorem Inv.after{Q:VK}{u:zdK}(I:Inv X pins σ H s)(h:CE X.stack X.prog X.w H s Q u s'):EP X pins σ Q u s':=by
 obtain⟨v,H',os,bare,un,cc,r,q⟩:=h;obtain⟨hh,g,d,t,UP⟩:=s';obtain rfl:UP=s.os:=os;exact⟨v,H',I.call (h':=hh) (g':=g) (d':=d) (t':=t) (ch:=[]) un cc bare (fun b z=>absurd z (by simp)),r,q⟩
end
def Gk (sp:Sp) (zw:List V) (E:XK) (t:TA):TE:=fun σ H Q=>t σ H fun vs H1=>sp (vs++zw) H1 Q E
def wX (C:zdJ) (sp:Sp) (zw:List V) (E:XK) (t:TA):TE:=fun σ H Q=>t σ H fun vs H1=>∀x dx,H1 x=none->H1 dx=none->dx≠x->
 sp (.ref x::(vs++zw)) (upd (upd H1 dx (.own x)) x (.ins C dx [])) (fun v H2=>v=.bI/\Q (.ref x) H2) E
def Binds (K:zab) (fd:zdS) (ps:List Str) (ds:List zdK):Prop:=
 ∀(s:zdT) (us:List zdK),K.In s.heap->(us++ds).length=ps.length->BindsTo s fd ⟨us,[]⟩ (ps.zip (us++ds))
theorem Binds.all{K:zab}{fd:zdS}{ps:List Str}(h:∀us:List zdK,us.length=ps.length->bindArgs fd ⟨us,[]⟩=pure (ps.zip us)):Binds K fd ps []:=fun s us _ hl=>by
 rw[zba] at hl ⊢;exact .of_eq (h us hl)
def Passes (CX:EG) (X:Cx) (E:XK):Prop:=∀(pins:List (zdJ×Obj)) (σ:St) (H:Hp) (s:zdT) (e:zdK) (s':zdT),Inv X pins σ H s->CX X.stack H s E e s'->X.xe e s'
section
variable{X:Cx}{CX:EG}{k:Nat}{f C:zdJ}{fd:zdS}{ps:List Str}{sp:Sp}{zw:List V}{ds:List zdK}{E:XK}{x m:Str}{p pos apos:Pos}{e o:Expr}{es:List Expr}{ta:TE}{t:TA}
theorem Nx{pins:List (zdJ×Obj)}{σ:St}{H:Hp}{s:zdT}{Q:VK}{us:List zdK}{vs:List V}(F:bM X.prog X.w X.K X.mg X.base CX k f fd ps sp)(hr:iW k X.A)(hb:Binds X.K fd ps ds)(hd:Vals zw ds)(hx:Passes CX X E)
 (I:Inv X pins σ H s) (r:Vals vs us) (h:sp (vs++zw) H Q E):wpAny (model X.prog X.w) X.A (call (.ref f) us) (EP X pins σ Q) X.xe s:=by
 have r2:Vals (vs++zw) (us++ds):=r.append hd;have hl:(us++ds).length=ps.length:=by rw[<- r2.length];exact F.len _ _ _ _ h
 refine wpAny_call (codeAny_mono (F.run X.A X.stack s H ⟨us,[]⟩ (us++ds) (vs++zw) Q E hr I.QP (hb s us I.vP hl) r2 h) fun r s' hq=>?_);cases r with
 |error e=>exact hx pins σ H s e s' I hq
 |ok fl=>
  cases fl with
  |ret u=>exact I.after hq
  |next=>exact False.elim hq
  |brk=>exact False.elim hq
  |cont=>exact False.elim hq
theorem aA(F:bM X.prog X.w X.K X.mg X.base CX k f fd ps sp)(hr:iW k X.A)(hg:Gl X x)(hm:X.mg x=some (.ref f))(hk:zbR X.K (.ref f)=true)(hb:Binds X.K fd ps ds)(hd:Vals zw ds)(hx:Passes CX X E)
 (ha:PA X (e::es) t) (Ny:(x==("__debug__":Str))=false:=by decide) (he:zdP (e::es) X.env=(false,eval e X.env)::zdP es X.env:=by rfl) (oO:(backTo pos (zdP es X.env)).any (·.1)=false:=by rfl) :
 PE X (.Call (.Name x p) (e::es) [] pos) (Gk sp zw E t):=by
 intro pins s σ H Q I h;refine wpAny_Call_Name_kw (xM I hg hm ?_ Ny);refine PySem.W.callWith_K (h₀:=X.base) I.ok.mod.Ti hk (cS (ha pos pins s σ H _ I h) fun us s1 ⟨vs,H1,I1,r,q⟩=>⟨I1.vP,?_⟩) he oO;exact Nx F hr hb hd hx I1 r q
structure Mk(K:zab)(C f:zdJ):Prop where
 makes:zdg K C=true
 init:zaW K (.ref C) "__init__"=some (some (.ref f))
 fn:PySem.W.isFn K (.ref f)=true
 kp:zbR K (.ref C)=true
theorem Gm{pins:List (zdJ×Obj)}{σ:St}{H:Hp}{s:zdT}{Q:VK}{us:List zdK}{vs:List V}(M:Mk X.K C f)(F:bM X.prog X.w X.K X.mg X.base CX k f fd ps sp)(hr:iW (k+1) X.A)(hb:Binds X.K fd ps ds)(hd:Vals zw ds)
 (hx:Passes CX X E) (I:Inv X pins σ H s) (r:Vals vs us)
 (h:∀x dx,H x=none->H dx=none->dx≠x->sp (.ref x::(vs++zw)) (upd (upd H dx (.own x)) x (.ins C dx [])) (fun v H2=>v=.bI/\Q (.ref x) H2) E) :
 wpAny (model X.prog X.w) X.A (call (.ref C) us) (EP X pins σ Q) X.xe s:=by
 have hq:=h (s.heap.objs.size+1) s.heap.objs.size (I.cc.fresh (zcb _)) (I.cc.fresh (zaj _)) (zat (zb7 _));have I2:=Inv.made (C:=C) I;have r2:Vals (V.ref (s.heap.objs.size+1)::(vs++zw)) (Value.ref (s.heap.objs.size+1)::(us++ds)):=.cons rfl (r.append hd);have hl:(Value.ref (s.heap.objs.size+1)::us++ds).length=ps.length:=by
  have e:=r2.length;rw[F.len _ _ _ _ hq] at e;exact e.symm
 refine wpAny_call (Gj (f:=f) I.vP M.makes M.init (beq_iff_eq.mp M.fn) (codeAny_mono (F.run _ X.stack _ _ ⟨Value.ref (s.heap.objs.size+1)::us,[]⟩ (Value.ref (s.heap.objs.size+1)::(us++ds)) _ _ E (hr.make C us [])
  (I2.QP.make C us []) (hb _ (Value.ref (s.heap.objs.size+1)::us) I2.vP hl) r2 hq) fun r s' zW=>?_))
 cases r with
 |error e=>exact hx pins σ _ _ e s' I2 zW
 |ok fl=>
  cases fl with
  |ret u=>
   obtain⟨v,H',I3,rv,ev,q3⟩:=I2.after zW;subst ev;exact⟨rv,⟨V.ref (s.heap.objs.size+1),H',I3,rfl,q3⟩⟩
  |next=>exact False.elim zW
  |brk=>exact False.elim zW
  |cont=>exact False.elim zW
theorem xP(M:Mk X.K C f)(F:bM X.prog X.w X.K X.mg X.base CX k f fd ps sp)(hr:iW (k+1) X.A)(hg:Gl X x)(hm:X.mg x=some (.ref C))(hb:Binds X.K fd ps ds)(hd:Vals zw ds)(hx:Passes CX X E)
 (ha:PA X (e::es) t) (Ny:(x==("__debug__":Str))=false:=by decide) (he:zdP (e::es) X.env=(false,eval e X.env)::zdP es X.env:=by rfl) (oO:(backTo pos (zdP es X.env)).any (·.1)=false:=by rfl) :
 PE X (.Call (.Name x p) (e::es) [] pos) (wX C sp zw E t):=by
 intro pins s σ H Q I h;refine wpAny_Call_Name_kw (xM I hg hm ?_ Ny);refine PySem.W.callWith_K (h₀:=X.base) I.ok.mod.Ti M.kp (cS (ha pos pins s σ H _ I h) fun us s1 ⟨vs,H1,I1,r,q⟩=>⟨I1.vP,?_⟩) he oO;exact Gm M F hr hb hd hx I1 r q
end
structure ba(N P:List Str)(sc:Scope):Prop where
 kind:sc.kind=.function
 co:sc.isCoroutine=false
 gen:sc.isGenerator=false
 nd:N.Nodup
 pre:N.take P.length=P
 par:∀x∈P,sc.names.lookup x=some .local\/sc.names.lookup x=some .cell
 Nz:∀y∈sc.names,y.2≠.free
theorem wY{kindOf:Str->Option NameKind}{x:Str}:∀ {binds:List (Str×zdK)} {m:Str->Option zdK},(∀v,(x,v) ∉ binds)->bindL kindOf binds m x=m x
 |[],_,_=>rfl
 |(n,v)::r,m,h=>by
  unfold bindL;rw[wY fun w hw=>h w (zae _ hw)];split
  ·have:x≠n:=by rintro rfl;exact h v zaB
   simp[this]
  ·rfl
theorem wZ{kindOf:Str->Option NameKind}{x:Str}:∀ {binds:List (Str×zdK)} {m:Str->Option zdK},(∀v,(x,v) ∉ binds)->bindC kindOf binds m x=m x
 |[],_,_=>rfl
 |(n,v)::r,m,h=>by
  unfold bindC;rw[wZ fun w hw=>h w (zae _ hw)];split
  ·rfl
  ·have:x≠n:=by rintro rfl;exact h v zaB
   simp[this]
theorem w4{kindOf:Str->Option NameKind}{x:Str}{v:zdK}:∀ {P:List Str} {vs:List zdK} {i:Nat} {m:Str->Option zdK},P.Nodup->P[i]?=some x->vs[i]?=some v->kindOf x=some .local->
 bindL kindOf (P.zip vs) m x=some v
 |[],_,_,_,_,h,_,_=>by simp at h
 |_::_,[],_,_,_,_,h,_=>by simp at h
 |p::P,w::vs,0,m,nd,h1,h2,hk=>by
  simp at h1 h2;subst h1;subst h2;show bindL kindOf ((p,w)::P.zip vs) m p=_;unfold bindL;rw[wY fun v hv=>(zam.mp nd).1 (zcy hv).1,if_pos hk];simp
 |p::P,w::vs,i+1,m,nd,h1,h2,hk=>by
  show bindL kindOf ((p,w)::P.zip vs) m x=_;unfold bindL;exact w4 (i:=i) (zam.mp nd).2 (by simpa using h1) (by simpa using h2) hk
theorem w5{kindOf:Str->Option NameKind}{x:Str}{v:zdK}:∀ {P:List Str} {vs:List zdK} {i:Nat} {m:Str->Option zdK},P.Nodup->P[i]?=some x->vs[i]?=some v->kindOf x≠some .local->
 bindC kindOf (P.zip vs) m x=some v
 |[],_,_,_,_,h,_,_=>by simp at h
 |_::_,[],_,_,_,_,h,_=>by simp at h
 |p::P,w::vs,0,m,nd,h1,h2,hk=>by
  simp at h1 h2;subst h1;subst h2;show bindC kindOf ((p,w)::P.zip vs) m p=_;unfold bindC;rw[wZ fun v hv=>(zam.mp nd).1 (zcy hv).1,if_neg hk];simp
 |p::P,w::vs,i+1,m,nd,h1,h2,hk=>by
  show bindC kindOf ((p,w)::P.zip vs) m x=_;unfold bindC;exact w5 (i:=i) (zam.mp nd).2 (by simpa using h1) (by simpa using h2) hk
def start (N:List Str) (vs:List V):St:=vs.map some++zcM (N.length-vs.length) none
def wb (CX:EG) (P:zdV) (w:zdL) (K:zab) (mg:Str->Option zdK) (base:Heap) (N:List Str) (qual:Str) (scope:Scope) (f:zdJ) (cd:zdK) (A:zdU) (outer:List Env) (s:zdT) (H:Hp) (E:XK):Cx where
 prog:=P
 w:=w
 K:=K
 mg:=mg
 base:=base
 A:=A.deeper (envOfC qual scope s.heap.objs.size f cd)
 N:=N
 s₀:=s
 H₀:=H
 env:=envOfC qual scope s.heap.objs.size f cd
 outer:=outer
 stack:=envOfC qual scope s.heap.objs.size f cd::outer
 ex:=[]
 calm:=true
 fn:=fun _=>true
 pn:=[]
 xe:=fun e s'=>wpAny (model P w) (A.deeper (envOfC qual scope s.heap.objs.size f cd)) (leaving (envOfC qual scope s.heap.objs.size f cd) e) (fun _ UQ=>CX outer H s E e UQ) (fun e' UQ=>CX outer H s E e' UQ) s'
theorem zX{sc:Scope}{n:Nat}{x:Str}(h:sc.names.lookup x=some .cell):∃c,(cellsFrom n sc.names []).lookup x=some c:=by
 have q:=zdl sc.names n [] (.inl h);exact zc1.mp q
theorem EH{CX:EG}{P:zdV}{w:zdL}{K:zab}{mg:Str->Option zdK}{base:Heap}{N ps:List Str}{qual:Str}{scope:Scope}{f:zdJ}{cd:zdK}{A:zdU}{outer:List Env}{s s1:zdT}{H:Hp}{E:XK}{us:List zdK}{vs:List V}
 (S:ba N ps scope) (hd:A.handled=none) (e0:BN P w K mg base A outer s H) (hl:vs.length=ps.length) (r:Vals vs us)
 (x:InCallC s s.heap.objs.size (bindL (envOfC qual scope s.heap.objs.size f cd).kindOf (ps.zip us) fun _=>none) (cellsFrom (s.heap.objs.size+1) scope.names []) (bindC (envOfC qual scope s.heap.objs.size f cd).kindOf (ps.zip us) fun _=>none) s1) :
 Inv (wb CX P w K mg base N qual scope f cd A outer s H E) [] (start N vs) H s1:=by
 have oO:ps.length<=N.length:=by have:=congrArg zaR S.pre;rw[zbk] at this;lia
 obtain⟨h1,tk,rfl,hk⟩:=x.done;have QQ:∀b:zdJ,b ∉ (wb CX P w K mg base N qual scope f cd A outer s H E).ex:=fun b z=>absurd (show b∈([]:List zdJ) from z) (by simp);refine⟨⟨e0.mod,S.kind,rfl,rfl,zaj _,fun y z c h1 h2=>?_,fun y hy=>?_,fun y c _ h=>?_,fun _=>hd,Around.frames_deeper e0.frames,.inr ⟨rfl,rfl⟩,fun b z=>absurd z (QQ b),e0.bs,e0.JY,fun b _ _=>QQ b,fun b z=>absurd z (QQ b),e0.sM,e0.Nh⟩,
  rfl,e0.bare,Un.kept hk,⟨_,x.toInCall.ns,fun i y v h1 h2 h3=>?_⟩,fun y c h=>⟨_,x.cell y c h⟩,e0.cc.fresh (zaj _),fun y c h=>?_,fun p hp=>absurd (show p∈([]:List (zdJ×Obj)) from hp) (by simp),e0.cc.kept hk,?_⟩
 ·exact name_of_addr x.apart (PySem.mem_of_lookup h1) (PySem.mem_of_lookup h2)
 ·have hy:scope.names.lookup y=some .cell\/scope.names.lookup y=some .free:=hy;rcases hy with hy |hy
  ·exact zX hy
  ·exact absurd rfl (S.Nz _ (PySem.mem_of_lookup hy))
 ·exact zbz (x.above y c (PySem.mem_of_lookup h))
 ·have hi:i<vs.length:=by
   unfold start at h2;by_cases hi:i<vs.length
   ·exact hi
   ·rw[zb9 (by simpa using hi)] at h2;rw[zc7] at h2;split at h2<;>cases h2
  have ha:vs[i]?=some v:=by
   unfold start at h2;rw[zcZ (by simpa using hi),zal] at h2;cases e:vs[i]? with
   |none=>rw[e] at h2;cases h2
   |some a=>rw[e] at h2;cases h2;rfl
  obtain⟨u,hu,rv⟩:=r.get ha;have hp:ps[i]?=some y:=by
   rw[<- S.pre,List.getElem?_take_of_lt (by lia)];exact h1
  have Yj:ps.Nodup:=by rw[<- S.pre];exact S.nd.sublist (zcS _ _)
  refine⟨u,rv,?_⟩;rcases S.par y (zav hp) with k |k
  ·exact .inl ⟨k,w4 Yj hp hu k⟩
  ·obtain⟨c,e⟩:=zX (n:=s.heap.objs.size+1) k;refine .inr ⟨.inl k,c,e,?_⟩;have q:=x.cell y c e;rw[w5 Yj hp hu (by show scope.names.lookup y≠_;rw[k];decide)] at q;exact q
 ·exact e0.cc.fresh (zbz (x.above y c (PySem.mem_of_lookup h)))
 ·unfold start;show _=N.length;rw[zau,zad,zdn];lia
theorem QR{CX:EG}{P:zdV}{w:zdL}{K:zab}{mg:Str->Option zdK}{base:Heap}{k:Nat}{f:zdJ}{name qual:Str}{params:Arguments}{body:List Stmt}{scope:Scope}{dV kV doc pm eA ct oc:zdK}{an od:Option zdJ}
 {JH:Array (Option zdK)} {N ps:List Str} {sp:Sp} (lk:K.lookup f=some ⟨oc,od,.func (zbD name qual params body scope dV kV doc pm an eA ct),JH⟩) (Gb:zci K eA qual=true) (S:ba N ps scope)
 (len:∀vs H Q E,sp vs H Q E->vs.length=ps.length)
 (zY:∀(A:zdU) (outer:List Env) (s:zdT) (H:Hp) (vs:List V) (Q:VK) (E:XK),iW k (A.deeper (envOfC qual scope s.heap.objs.size f eA))->sp vs H Q E->
  ∃t,De (wb CX P w K mg base N qual scope f eA A outer s H E) body t/\t {nx:=fun _ H'=>Q .bI H',rt:=Q} (start N vs) H) :
 bM P w K mg base CX (k+1) f (zbD name qual params body scope dV kV doc pm an eA ct) ps sp:=by
 refine⟨len,fun A outer s H args us vs Q E hr e0 hb r Mc=>?_⟩;have hl:=len _ _ _ _ Mc;have KX:K.In s.heap:=e0.mod.Ti.keeps fun b o e=>(e0.bs b o e).1;have lim:s.heap.NoLimit:=e0.mod.nolimit.keeps fun b o e=>(e0.bs b o e).1;have QS:∀y∈ps.zip us,scope.names.lookup y.1=some .local\/(scope.names.lookup y.1=some .cell/\((cellsFrom (s.heap.objs.size+1) scope.names []).lookup y.1).isSome=true):=fun ⟨n,v⟩ hy=>by
  rcases S.par n (zcy hy).1 with q |q
  ·exact .inl q
  ·exact .inr ⟨q,zdl _ _ _ (.inl q)⟩
 refine codeAny_call_function hr.depth (KX _ _ lk) rfl S.co S.gen rfl (PySem.W.codeRec_of KX Gb) (hb _ _ _ _ ?_);refine wpAny_newFunctionEnv_cells S.kind QS fun env he s1 x=>?_;subst he;refine⟨lim.keeps x.toInCall.keep,codeAny_func ?_⟩;obtain⟨t,ht,hq⟩:=zY A outer s H vs Q E (hr.deeper _) Mc;have I:Inv (wb CX P w K mg base N qual scope f eA A outer s H E) [] (start N vs) H s1:=EH S hr.hd e0 hl r x;refine wpAny_mono (ht [] s1 (start N vs) H _ I hq) (fun fl s' hs=>?_) fun e s' hs=>hs;have fin:∀ {σ':St} {H':Hp} {v:V} {u:zdK},Inv (wb CX P w K mg base N qual scope f eA A outer s H E) [] σ' H' s'->RelV v u->Q v H'->CE outer P w H s Q u s':=
  fun {σ' H' v u} J rv q=>⟨v,H',J.os,J.bare,J.base,J.cc,rv,q⟩
 cases fl with
 |ret u=>
  obtain⟨v,σ',H',J,rv,q⟩:=hs;exact fin J rv q
 |next=>
  obtain⟨σ',H',J,q⟩:=hs;exact fin (v:=V.bI) (u:=Value.none) J rfl q
 |brk=>
  obtain⟨_,_,_,q⟩:=hs;exact False.elim q
 |cont=>
  obtain⟨_,_,_,q⟩:=hs;exact False.elim q
section
variable{X:Cx}{x:Str}{p pos:Pos}{e:Expr}{es:List Expr}{t:TA}{id T:String}{r:List V->Hp->VK->Prop}
def QT (r:List V->Hp->VK->Prop) (t:TA):TE:=fun σ H Q=>t σ H fun vs H1=>r vs H1 Q
theorem bh(hc:gV X (.builtin id) r)(hg:Gl X x)(hm:X.mg x=none)(hv:bootBuiltins x=some (.builtin id))(ha:PA X (e::es) t)(hn:x≠"__name__":=by decide)(Ny:(x==("__debug__":Str))=false:=by decide)
 (he:zdP (e::es) X.env=(false,eval e X.env)::zdP es X.env:=by rfl) (oO:(backTo pos (zdP es X.env)).any (·.1)=false:=by rfl):PE X (.Call (.Name x p) (e::es) [] pos) (QT r t):=by
 intro pins s σ H Q I h;refine wpAny_Call_Name_kw (kU I hg hm hv ?_ hn Ny);exact PyProof.Rows.callWith_builtin1 (cS (ha pos pins s σ H _ I h) fun us s1 ⟨vs,H1,I1,r1,q1⟩=>hc pins s1 σ H1 vs us Q I1 r1 q1) he oO
theorem bL(hc:gV X (.type T) r)(hg:Gl X x)(hm:X.mg x=none)(hv:bootBuiltins x=some (.type T))(ha:PA X (e::es) t)(hn:x≠"__name__":=by decide)(Ny:(x==("__debug__":Str))=false:=by decide)
 (he:zdP (e::es) X.env=(false,eval e X.env)::zdP es X.env:=by rfl) (oO:(backTo pos (zdP es X.env)).any (·.1)=false:=by rfl):PE X (.Call (.Name x p) (e::es) [] pos) (QT r t):=by
 intro pins s σ H Q I h;refine wpAny_Call_Name_kw (kU I hg hm hv ?_ hn Ny);exact zaY (cS (ha pos pins s σ H _ I h) fun us s1 ⟨vs,H1,I1,r1,q1⟩=>hc pins s1 σ H1 vs us Q I1 r1 q1) he oO
end
end L2
namespace HT
open PySem PyProof.Rows
section
variable{prog:zdV}{w:zdL}{A:zdU}{E:zdK->zdT->Prop}{s:zdT}
theorem Kd{t b:zdJ}{vs ws:List zdK}{Q:zdK->zdT->Prop}(ht:IsTup s.heap t vs.toArray)(hb:IsTup s.heap b ws.toArray)(hv:vs≠[])
 (h1:ws=[]->Q (.ref t) s) (h2:ws≠[]->Q (.ref s.heap.objs.size) {s with heap:=s.heap.push {cls:=.type "tuple",data:=.seq (vs++ws).toArray} })
 (hsz:vs.length+ws.length<=zdR):wpAny (model prog w) A (binaryOp .Add (.ref t) (.ref b)) Q E s:=by
 obtain⟨⟨cls,dd,data,sl⟩,ho,hc,n,hd⟩:=id ht;obtain⟨⟨UR,Tt,data2,QU⟩,NB,NC,n2,hd2⟩:=id hb;simp only at hc hd NC hd2;subst hc hd NC hd2;have e:vs.toArray++ws.toArray=(vs++ws).toArray:=by simp
 by_cases hw:ws=[]
 ·exact concat_meets ⟨_,ho,rfl⟩ ⟨_,NB,rfl⟩ noFill_tuple_add seq_tuple_add zco zck (zcg _ _)
   (tuple_addW1 t b vs.toArray ws.toArray n n2 dd Tt sl QU (by simpa using hv) (by simp[hw])) ⟨ho,NB,h1 hw⟩
 ·refine concat_meets ⟨_,ho,rfl⟩ ⟨_,NB,rfl⟩ noFill_tuple_add seq_tuple_add zco zck (zcg _ _)
   (tuple_addW2 t b vs.toArray ws.toArray n n2 dd Tt sl QU (by simpa using hv) (by simpa using hw) (by rw[zas,zas];exact hsz)) ⟨ho,NB,?_⟩
  rw[e];exact h2 hw
def eY (n d:Nat):Option Int->Nat
 |none=>d
 |some v=>if v<0 then (v+(n:Int)).toNat else min v.toNat n
theorem pG(n d:Nat):eY n d none=d:=rfl
theorem tF(n d k:Nat):eY n d (some (k:Int))=min k n:=by
 show (if (k:Int)<0 then ((k:Int)+(n:Int)).toNat else min (k:Int).toNat n)=min k n;rw[if_neg (by lia),zaZ]
theorem BO(n d:Nat)(hd:d<=n)(o:Option Int):eY n d o<=n:=by
 cases o with
 |none=>exact hd
 |some v=>
  show (if v<0 then (v+(n:Int)).toNat else min v.toNat n)<=n;by_cases hv:v<0
  ·rw[if_pos hv];lia
  ·rw[if_neg hv];exact Nat.min_le_right _ _
theorem Dm(v:Int)(n d:Nat):(if v<0 then max (v+(n:Int)) 0 else min v (n:Int))=((eY n d (some v):Nat):Int):=by
 show (if v<0 then max (v+(n:Int)) 0 else min v (n:Int))=(((if v<0 then (v+(n:Int)).toNat else min v.toNat n):Nat):Int);by_cases hv:v<0
 ·simp only[if_pos hv];lia
 ·simp only[if_neg hv];lia
theorem BP(lo hi:Option Int)(n:Nat):Builtin.Slice.sliceAdjust lo hi 1 (n:Int)=(((eY n 0 lo:Nat):Int),((eY n n hi:Nat):Int)):=by
 have h1:¬((1:Int)<0):=by lia
 unfold Builtin.Slice.sliceAdjust;simp only[h1,if_false];refine Prod.ext ?_ ?_
 ·cases lo with
  |none=>rfl
  |some v=>exact Dm v n 0
 ·cases hi with
  |none=>rfl
  |some v=>exact Dm v n n
theorem BQ(i j:Nat):Builtin.Slice.slicePlaces (i:Int) (j:Int) 1=j-i:=by
 unfold Builtin.Slice.slicePlaces;have h1:(1:Int)>0:=by lia
 simp only[h1,if_true,Int.ediv_one];split<;>lia
theorem uo{v:zdK}{o:Option Int}{Q:Option Int->zdT->Prop}(p:IsPart v o)(h:Q o s):wpAny (model prog w) A (Builtin.Slice.slicePartIndex v) Q E s:=by
 cases p with
 |none=>exact slicePart_none h
 |int i t=>exact slicePart_int h
theorem kz{sl:zdJ}{vl vu:zdK}{lo hi:Option Int}{n:Nat}{Q:Int×Int×Nat->zdT->Prop}(hs:s.heap.IsSliceOf sl vl vu .none)(pl:IsPart vl lo)(pu:IsPart vu hi)
 (h:Q (((eY n 0 lo:Nat):Int),1,eY n n hi-eY n 0 lo) s):wpAny (model prog w) A (Builtin.Slice.sliceApplied (.ref sl) (pure (n:Int))) Q E s:=by
 obtain⟨os,ND,Tu,QV⟩:=id hs;unfold Builtin.Slice.sliceApplied Builtin.Slice.sliceFields;refine zdM (zdM (wpAny_field ND QV (x:=vl) rfl (zdM (wpAny_field ND QV (x:=vu) rfl (zdM (wpAny_field ND QV (x:=.none) rfl (zdN ?_)))))));refine zdM (slicePart_none ?_);show wpAny _ _ (if ((1:Int)==0)=true then _ else _) _ _ s;rw[if_neg (by decide)];refine zdM (uo pl (zdM (uo pu (zdM (zdN ?_)))));show wpAny _ _ (match Builtin.Slice.sliceAdjust lo hi 1 (n:Int) with |(lo,hi)=>pure (lo,(1:Int),Builtin.Slice.slicePlaces lo hi 1)) _ _ s;rw[BP lo hi n];show wpAny _ _ (pure (((eY n 0 lo:Nat):Int),(1:Int),Builtin.Slice.slicePlaces ((eY n 0 lo:Nat):Int) ((eY n n hi:Nat):Int) 1)) _ _ s;rw[BQ];exact zdN h
theorem Gn(xs:Array zdK)(i k:Nat):((zaC k).filterMap fun (m:Nat)=>xs[((i:Int)+(m:Int)*1).toNat]?).toArray=((xs.toList.drop i).take k).toArray:=by
 have e:(fun (m:Nat)=>xs[((i:Int)+(m:Int)*1).toNat]?)=fun m=>xs[i+m]?:=by
  funext m
  have:((i:Int)+(m:Int)*1).toNat=i+m:=by lia
  rw[this]
 rw[e];have:=pick_run xs i k;rw[List.filterMap_map] at this;have e2:((fun x=>xs[x]?) ∘ fun x=>i+x)=fun m=>xs[i+m]?:=rfl;rw[e2] at this;rw[this]
theorem pH{t sl:zdJ}{items:Array zdK}{vl vu:zdK}{lo hi:Option Int}{Q:zdK->zdT->Prop}(ht:IsTup s.heap t items)(hs:s.heap.IsSliceOf sl vl vu .none)(pl:IsPart vl lo)(pu:IsPart vu hi)
 (hw:¬(eY items.size 0 lo=0/\eY items.size items.size hi=items.size))
 (h:Q (.ref s.heap.objs.size) {s with heap:=s.heap.push {cls:=.type "tuple",data:=.seq ((items.toList.drop (eY items.size 0 lo)).take (eY items.size items.size hi-eY items.size 0 lo)).toArray} })
 (hsz:items.size<=zdR):wpAny (model prog w) A (getItem (.ref t) (.ref sl)) Q E s:=by
 have Dn:sizeOk (.seq ((items.toList.drop (eY items.size 0 lo)).take (eY items.size items.size hi-eY items.size 0 lo)).toArray):=by
  show ((items.toList.drop (eY items.size 0 lo)).take (eY items.size items.size hi-eY items.size 0 lo)).toArray.size<=zdR;rw[zas,zbk,za4,zaN];lia
 have hj:eY items.size items.size hi<=items.size:=BO _ _ (zaj _) hi;obtain⟨os,ND,Tu,QV⟩:=id hs;have US:s.TypeIs (.ref sl) "slice":=⟨os,ND,Tu⟩
 unfold getItem
 try with_reducible refine zdO ?_
 first |refine zdM (zdN ?_) |skip
 refine zdM (wpAny_sequenceKey ht.typeIs (by decide) ?_);refine zdM (wpAny_callSpecial?_slot (name:=zac "__getitem__") ht.typeIs zby
  (wpAny_call_entry zby ht.typeIs entry_tuple_getitem ?_ (args_tuple_getitem _ _)))
 show wpAny _ _ (Builtin.Tuple.tupleItemsOf (.ref t) >>= _) _ _ s;refine zdM (tupleItemsOf_ ht ?_);refine zdM (wpAny_typeOf US ?_);rw[if_pos (by decide)];refine zdM (kz hs pl pu ?_);have hno:¬((((eY items.size 0 lo:Nat):Int)==0&&(1:Int)==1&&(eY items.size items.size hi-eY items.size 0 lo)==items.size)=true):=by
  intro q;rw[za5,za5] at q;have q1:((eY items.size 0 lo:Nat):Int)=0:=eq_of_beq q.1.1;have q2:eY items.size items.size hi-eY items.size 0 lo=items.size:=eq_of_beq q.2;exact hw ⟨by lia,by lia⟩
 show wpAny _ _ (if (((eY items.size 0 lo:Nat):Int)==0&&(1:Int)==1&&(eY items.size items.size hi-eY items.size 0 lo)==items.size)=true then _ else _) _ _ s;rw[if_neg hno,Gn]
 first
  |exact zdM (m:=Builtin.Tuple.tupleExact _) (wpAny_newObj_type (zdN ⟨_,rfl,zdN h⟩) Dn)
  |exact zdM (m:=Builtin.Tuple.tupleExact _) (wpAny_newObj_type (zdM (zdN (zdN ⟨_,rfl,zdN h⟩))) Dn)
  |exact zdM (zdM (m:=Builtin.Tuple.tupleExact _) (wpAny_newObj_type (zdN (zdN ⟨_,rfl,zdN h⟩)) Dn))
  |exact zdM (zdM (m:=Builtin.Tuple.tupleExact _) (wpAny_newObj_type (zdN ⟨_,rfl,zdN h⟩) Dn))
end
end HT
namespace L2
open PySem PySem.Spec PyProof.Rows
abbrev TO:=St->Hp->(Option Int->Hp->Prop)->Prop
def PO (X:Cx) (e:Option Expr) (t:TO):Prop:=
 ∀(pins:List (zdJ×Obj)) (s:zdT) (σ:St) (H:Hp) (Q:Option Int->Hp->Prop),Inv X pins σ H s->t σ H Q->
  wpAny (model X.prog X.w) X.A (evalPart e X.env) (fun u s'=>∃o H',Inv X pins σ H' s'/\IsPart u o/\Q o H') X.xe s
def ni:TO:=fun _ H Q=>Q none H
def xb (t:TE):TO:=fun σ H Q=>t σ H fun x H1=>∃i,x=.int i/\Q (some i) H1
theorem intsAre_of{ns:List Int}:∀ {us:List zdK},Vals (ns.map V.int) us->IntsAre us ns:=by
 induction ns with
 |nil=>intro us r;rw[zbr] at r;cases r;exact .nil
 |cons n ns ih=>
  intro us r;rw[zaq] at r;cases r with
  |cons r1 r2=>
   obtain⟨t,e⟩:=r1;subst e;exact .cons n t (ih r2)
section
variable{X:Cx}{e:Expr}{te:TE}{lo hi:Option Expr}{tl th:TO}{pos p2:Pos}
theorem jb:PO X none ni:=by
 intro pins s σ H Q I h;rw[evalPart_none];exact zdN ⟨none,H,I,.none,h⟩
theorem jc(h:PE X e te):PO X (some e) (xb te):=by
 intro pins s σ H Q I hw;rw[evalPart_some];refine cS (h pins s σ H _ I hw) fun u s1 zqz=>?_;obtain⟨x,H1,I1,r1,q1⟩:=zqz;obtain⟨i,rfl,q⟩:=q1;obtain⟨t,rfl⟩:=r1;exact⟨some i,H1,I1,.int i t,q⟩
def QW (X:Cx) (r:V->Option Int->Option Int->Hp->VK->Prop):Prop:=
 ∀(pins:List (zdJ×Obj)) (s:zdT) (σ:St) (H:Hp) (x:V) (v vl vu:zdK) (lo hi:Option Int) (sl:zdJ) (Q:VK),Inv X pins σ H s->RelV x v->s.heap.IsSliceOf sl vl vu .none->IsPart vl lo->IsPart vu hi->r x lo hi H Q->
  ∃T id,typeLookup (.type T) "__getitem__"=pure (some (.builtin id))/\s.TypeIs v T/\wpAny (model X.prog X.w) X.A (getItem v (.ref sl)) (EP X pins σ Q) X.xe s
def PD (r:V->Option Int->Option Int->Hp->VK->Prop) (te:TE) (tl th:TO):TE:=fun σ H Q=>te σ H fun x H1=>tl σ H1 fun l H2=>th σ H2 fun u H3=>r x l u H3 Q
theorem gu{r:V->Option Int->Option Int->Hp->VK->Prop}(hr:QW X r)(he:PE X e te)(hl:PO X lo tl)(hu:PO X hi th):PE X (.Subscript e (.Slice lo hi none p2) pos) (PD r te tl th):=by
 intro pins s σ H Q I h;refine Subscript_ (cS (he pins s σ H _ I h) fun v s1 zqz=>?_);obtain⟨x,H1,I1,r1,q1⟩:=zqz;refine wpAny_Slice (cS (hl pins s1 σ H1 _ I1 q1) fun vl s2 zqz=>?_);obtain⟨l,H2,I2,pl,q2⟩:=zqz;refine cS (hu pins s2 σ H2 _ I2 q2) fun vu s3 zqz=>?_;obtain⟨u,H3,I3,pu,q3⟩:=zqz;rw[evalPart_none];refine zdN ?_;have I4:Inv X pins σ H3 {s3 with heap:=s3.heap.push {cls:=.type "slice",data:=.fields #[vl,vu,.none]} }:=I3.kept (t':=s3.toks) fun b ob q=>Heap.get?_push_of_some _ q;obtain⟨T,id,hT,ht,hg⟩:=hr pins {s3 with heap:=s3.heap.push {cls:=.type "slice",data:=.fields #[vl,vu,.none]} } σ H3 x v vl vu l u s3.heap.objs.size Q I4 r1 (Heap.IsSliceOf.new ..) pl pu q3;show wpAny (model X.prog X.w) X.A (subscriptTail e (.Slice lo hi none p2) v (.ref s3.heap.objs.size)) (EP X pins σ Q) X.xe {s3 with heap:=s3.heap.push {cls:=.type "slice",data:=.fields #[vl,vu,.none]} };exact tail_any (ops:=[.ref s3.heap.objs.size,v]) ht hT hg (by with_unfolding_all rfl)
def kA (xs:List V) (lo hi:Option Int):List V:=(xs.drop (HT.eY xs.length 0 lo)).take (HT.eY xs.length xs.length hi-HT.eY xs.length 0 lo)
theorem rS(xs:List V)(lo hi:Option Int):(kA xs lo hi).length<=xs.length:=by
 unfold kA;rw[zbk,za4];lia
def UT (K:zab):V->Option Int->Option Int->Hp->VK->Prop:=fun x lo hi H Q=>∃a xs,x=.ref a/\cF K H a xs/\
 ¬(HT.eY xs.length 0 lo=0/\HT.eY xs.length xs.length hi=xs.length)/\∀p,H p=none->Q (.ref p) (upd H p (.tup (kA xs lo hi)))
theorem NF:QW X (UT X.K):=by
 intro pins s σ H x v vl vu lo hi sl Q I rx hs pl pu h;obtain⟨a,xs,rfl,hx,hw,q⟩:=h;cases rx;obtain⟨aY,r,ht,hz⟩:=I.tuple hx;have hlen:aY.toArray.size=xs.length:=by rw[zas];exact r.length.symm
 refine⟨"tuple",_,zby.lookup,ht.typeIs,?_⟩;refine HT.pH ht hs pl pu (by rw[hlen];exact hw) ?_ (by rw[hlen];exact hz);rw[hlen];refine⟨.ref s.heap.objs.size,_,I.laid (t':=s.toks) (o:=.tup (kA xs lo hi)) (fun b ob q=>Heap.get?_push_of_some _ q) (zaj _) ?_,rfl,q _ (I.cc.fresh (zaj _))⟩;exact⟨zax (rS xs lo hi) hz,_,(r.drop (HT.eY xs.length 0 lo)).take (HT.eY xs.length xs.length hi-HT.eY xs.length 0 lo),IsTup.new _ _⟩
def QX (K:zab):R2:=fun x y H Q=>∃a b xs ys,x=.ref a/\y=.ref b/\cF K H a xs/\cF K H b ys/\xs≠[]/\xs.length+ys.length<=zdR/\
 (ys=[]->Q (.ref a) H)/\(ys≠[]->∀p,H p=none->Q (.ref p) (upd H p (.tup (xs++ys))))
theorem Vals.bO{xs:List V}{us:List zdK}(r:Vals xs us):us=[]↔xs=[]:=by
 cases r with
 |nil=>simp
 |cons _ _=>simp
theorem Ke:nU X (binaryOp .Add) (QX X.K):=by
 intro pins s σ H x y v u Q I rx ry h;obtain⟨a,b,xs,ys,rfl,rfl,ha,hb,hx,hz,q1,q2⟩:=h;cases rx;cases ry;obtain⟨aY,r1,p1,_⟩:=I.tuple ha;obtain⟨pI,r2,p2,_⟩:=I.tuple hb;refine HT.Kd p1 p2 (fun z=>hx (r1.bO.mp z)) (fun z=>⟨.ref a,H,I,rfl,q1 (r2.bO.mp z)⟩) (fun z=>?_) (by rw[<- r1.length,<- r2.length];exact hz);refine⟨.ref s.heap.objs.size,_,I.laid (t':=s.toks) (o:=.tup (xs++ys)) (fun b ob q=>Heap.get?_push_of_some _ q) (zaj _) ?_,rfl,q2 (fun w=>z (r2.bO.mpr w)) _ (I.cc.fresh (zaj _))⟩;exact⟨by rw[zau];exact hz,_,r1.append r2,IsTup.new _ _⟩
end
def Gp (n:Nat) (i:Int):Option Nat:=if 0<=i then (if i<n then some i.toNat else none) else if -(n:Int)<=i then some (i+n).toNat else none
def xc {α:Type} (xs:List α) (i:Int):Option α:=(Gp xs.length i).bind fun j=>xs[j]?
theorem Dq{n:Nat}{i:Int}{j:Nat}(h:Gp n i=some j):seqIndex? i n=some j/\j<n/\-(n:Int)<=i/\i<n:=by
 unfold Gp at h;by_cases h0:0<=i
 ·rw[if_pos h0] at h;by_cases h1:i<n
  ·rw[if_pos h1] at h;have e:i.toNat=j:=zaH.inj h;exact⟨by rw[seqIndex_of h0 h1,e],by lia,by lia,h1⟩
  ·rw[if_neg h1] at h;cases h
 ·rw[if_neg h0] at h;by_cases h1 : -(n:Int)<=i
  ·rw[if_pos h1] at h;have e:(i+n).toNat=j:=zaH.inj h;exact⟨by rw[seqIndex_neg (by lia) h1,e],by lia,h1,by lia⟩
  ·rw[if_neg h1] at h;cases h
theorem xQ{α:Type}{xs:List α}{i:Int}{v:α}(h:xc xs i=some v):∃j,seqIndex? i xs.length=some j/\xs[j]?=some v/\j<xs.length/\-(xs.length:Int)<=i/\i<xs.length:=by
 unfold xc at h;cases e:Gp xs.length i with
 |none=>rw[e] at h;cases h
 |some j=>
  rw[e] at h;obtain⟨h1,h2,h3,h4⟩:=Dq e;exact⟨j,h1,h,h2,h3,h4⟩
theorem aC{α:Type}{xs:List α}{j:Nat}{v:α}(h:xs[j]?=some v):xc xs (j:Int)=some v:=by
 have hj:j<xs.length:=(zah.mp h).1;have e:Gp xs.length (j:Int)=some j:=by
  unfold Gp;rw[if_pos (by lia),if_pos (by lia)];simp
 unfold xc;rw[e];exact h
theorem mr{α:Type}(xs:List α)(v:α):xc (xs++[v]) (-1)=some v:=by
 have hl:(xs++[v]).length=xs.length+1:=by simp
 have e:Gp (xs++[v]).length (-1)=some xs.length:=by
  unfold Gp;rw[hl,if_neg (by decide),if_pos (by lia)]
  congr 1
  lia
 unfold xc;rw[e];show (xs++[v])[xs.length]?=some v;simp
def pJ (b:Expr):Prop:=∀o i,subscripted b false o i=operate [o,i] (getItem o i)
def QY (X:Cx) (r:R2):Prop:=
 ∀(value slice:Expr) (pins:List (zdJ×Obj)) (s:zdT) (σ:St) (H:Hp) (x y:V) (v u:zdK) (Q:VK),Inv X pins σ H s->RelV x v->RelV y u->r x y H Q->
  subscripted slice false v u=operate [v,u] (getItem v u)->wpAny (model X.prog X.w) X.A (subscriptTail value slice v u) (EP X pins σ Q) X.xe s
def Yk (X:Cx) (id:String) (r:V->List V->Hp->VK->Prop):Prop:=
 ∀(pins:List (zdJ×Obj)) (s:zdT) (σ:St) (H:Hp) (x:V) (xs:List V) (v:zdK) (us:List zdK) (Q:VK),Inv X pins σ H s->RelV x v->Vals xs us->r x xs H Q->
  wpAny (model X.prog X.w) X.A (call (.builtin id) (v::us)) (EP X pins σ Q) X.xe s
section
variable{X:Cx}{a b:Expr}{ta tb:TE}{pos:Pos}
theorem av{r:R2}(hr:QY X r)(ha:PE X a ta)(hb:PE X b tb)(hs:pJ b):PE X (.Subscript a b pos) (Gg r ta tb):=by
 intro pins s σ H Q I h;exact Subscript_ (Nt ha hb I h fun v u s2 x y H2 I2 rx ry q=>hr a b pins s2 σ H2 x y v u Q I2 rx ry q (hs _ _))
def NG (K:zab):R2:=fun x y H Q=>∃p xs i v,x=.ref p/\y=.int i/\fU K H p xs/\xc xs i=some v/\Q v H
def me (K:zab):R2:=fun x y H Q=>∃p xs i v,x=.ref p/\y=.int i/\cF K H p xs/\xc xs i=some v/\Q v H
def UU:R2:=fun x y H Q=>∃z i c,x=.str z/\y=.int i/\z.length<=zdR/\xc z.cps.toList i=some c/\Q (.str ⟨#[c]⟩) H
theorem bP:QY X (NG X.K):=by
 intro value slice pins s σ H x y v u Q I rx ry h hs;obtain⟨p,xs,i,z,rfl,rfl,hq,he,q⟩:=h;cases rx;obtain⟨t,rfl⟩:=ry;obtain⟨aY,r,pl,hz⟩:=I.list hq;obtain⟨j,h1,h2,h3,h4,h5⟩:=xQ he;obtain⟨w,ew,EI⟩:=r.get h2;have hl:=r.length;have hn:=qK;have fin:EP X pins σ Q w s:=⟨z,H,I,EI,q⟩
 by_cases h0:0<=i
 ·have hj:i.toNat=j:=by
   rw[seqIndex_of h0 h5] at h1;exact zaH.inj h1
  exact item_listR pl.isList h0 (by lia) (by rw[hj];simpa using ew) fin hs
 ·have hj:(i+(aY.toArray.size:Int)).toNat=j:=by
   rw[seqIndex_neg (by lia) h4] at h1;rw[zas,<- hl];exact zaH.inj h1
  exact subscriptTail_builtinR (x:=w) pl.isList.typeIs slot_list_getitem.lookup
   (wpAny_getItem_list_neg (Q:=fun r s'=>r=w/\EP X pins σ Q r s') pl.isList (by lia) (by rw[zas]<;>lia) (by lia) (by rw[hj];simpa using ew) ⟨rfl,fin⟩) hs
theorem ax:QY X (me X.K):=by
 intro value slice pins s σ H x y v u Q I rx ry h hs;obtain⟨p,xs,i,z,rfl,rfl,hq,he,q⟩:=h;cases rx;obtain⟨t,rfl⟩:=ry;obtain⟨aY,r,pl,hz⟩:=I.tuple hq;obtain⟨j,h1,h2,h3,h4,h5⟩:=xQ he;obtain⟨w,ew,EI⟩:=r.get h2;have hl:=r.length;have hn:=qK;have fin:EP X pins σ Q w s:=⟨z,H,I,EI,q⟩
 exact subscriptTail_builtinR (x:=w) pl.typeIs slot_tuple_getitem.lookup
  (getItem_tuple (j:=j) (Q:=fun r s'=>r=w/\EP X pins σ Q r s') pl (by lia) (by lia) (by rw[zas,<- hl];exact h1) (by simpa using ew) ⟨rfl,fin⟩) hs
theorem xR:QY X UU:=by
 intro value slice pins s σ H x y v u Q I rx ry h hs;obtain⟨z,i,c,rfl,rfl,hz,he,q⟩:=h;obtain⟨t,rfl⟩:=rx;obtain⟨t',rfl⟩:=ry;obtain⟨j,h1,h2,h3,h4,h5⟩:=xQ he;have hl:z.cps.toList.length=z.length:=by simp[Str.length]
 rw[hl] at h1 h4 h5;have hn:=qK;exact tail_any (typeIs_str s z t) slot_str_getitem.lookup (getItem_str (c:=c) (by
  have e1:decide (i < -(2 ^ 63:Int))=false:=decide_eq_false (by lia);have e2:decide (i ≥ 2 ^ 63)=false:=decide_eq_false (by lia);rw[e1,e2,zdx]) (by rw[h1];simpa using h2) ⟨.str ⟨#[c]⟩,H,I.tok _,⟨_,rfl⟩,q⟩) hs
theorem BR(aY:List zdK)(n j:Nat)(u:zdK):Obj.mapSeq (·.setIfInBounds j u) {cls:=.type "list",data:=.seq aY.toArray n}={cls:=.type "list",data:=.seq (aY.set j u).toArray n}:=by
 simp[Obj.mapSeq]
theorem Inv.lst{pins:List (zdJ×Obj)}{σ:St}{H:Hp}{s:zdT}{p:zdJ}{xs:List V}(I:Inv X pins σ H s)(h:H p=some (.lst xs)) :
 ∃(aY:List zdK) (n:Nat),Vals xs aY/\s.heap.get? p=some {cls:=.type "list",data:=.seq aY.toArray n}/\xs.length<=zdR:=by
 obtain⟨z,aY,n,r,e⟩:=I.cc p _ h;exact⟨aY,n,r,e,z⟩
theorem Inv.NH{pins:List (zdJ×Obj)}{σ:St}{H:Hp}{s:zdT}{p:zdJ}{xs ys:List V}{aY its':List zdK}{n n':Nat}{f:Obj->Obj}(I:Inv X pins σ H s)(h:H p=some (.lst xs))
 (ho:s.heap.get? p=some {cls:=.type "list",data:=.seq aY.toArray n}) (hf:f {cls:=.type "list",data:=.seq aY.toArray n}={cls:=.type "list",data:=.seq its'.toArray n' }) (r:Vals ys its') (hz:ys.length<=zdR) (t:Nat) :
 Inv X pins σ (upd H p (.lst ys)) {s with heap:=s.heap.update p f,toks:=t}:=by
 have e:(s.heap.update p f).get? p=some {cls:=.type "list",data:=.seq its'.toArray n' }:=by
  rw[Heap.get?_update_self f ho (by rw[hf]<;>rfl),hf]
 refine I.write (x:=p) (e:=p) (by rw[h];trivial) (.inl rfl) (fun b u hb q=>(Heap.get?_update_other _ _ (Ne.symm hb)).trans q) ⟨_,e⟩ ?_;exact⟨hz,its',n',r,e⟩
def QZ:V->V->V->Hp->(Hp->Prop)->Prop:=fun o i v H Q=>∃p xs k j,o=.ref p/\i=.int k/\H p=some (.lst xs)/\Gp xs.length k=some j/\Q (upd H p (.lst (xs.set j v)))
theorem set_list:QE X QZ:=by
 intro pins s σ H o i v ov iv u Q I ro ri rv h;obtain⟨p,xs,k,j,rfl,rfl,hp,hj,q⟩:=h;cases ro;obtain⟨t,rfl⟩:=ri;obtain⟨aY,n,r,ho,hz⟩:=I.lst hp;obtain⟨h1,h2,h3,h4⟩:=Dq hj;have hl:=r.length;have hn:=qK;have I':Inv X pins σ (upd H p (.lst (xs.set j v))) {s with heap:=s.heap.update p (Obj.mapSeq (·.setIfInBounds j u))}:=
  I.NH hp ho (BR aY n j u) (r.set rv j) (by rw[zbV];exact hz) s.toks
 by_cases h0:0<=k
 ·have hk:k.toNat=j:=by
   rw[seqIndex_of h0 h4] at h1;exact zaH.inj h1
  exact PySem.W.ki_setAt ho h0 (by lia) (by rw[zas,<- hl];exact h4) (by rw[hk];exact⟨_,I',q⟩)
 ·have hk:(k+(aY.toArray.size:Int)).toNat=j:=by
   rw[seqIndex_neg (by lia) h3] at h1;rw[zas,<- hl];exact zaH.inj h1
  exact PySem.W.ki_setBack ho (by lia) (by rw[zas,<- hl];exact h3) (by lia) (by rw[hk];exact⟨_,I',q⟩)
theorem xS(lo hi:Option Int)(n:Nat):(sliceBounds lo hi none n).1=((HT.eY n 0 lo:Nat):Int)/\(sliceBounds lo hi none n).2.1=((HT.eY n n hi:Nat):Int)/\(sliceBounds lo hi none n).2.2=1:=by
 refine⟨?_,?_,rfl⟩
 ·cases lo with
  |none=>simp[sliceBounds,HT.eY]
  |some i=>
   simp only[sliceBounds,HT.eY,Option.getD_none,show (1:Int)>0 by decide,if_true];by_cases h:i<0
   ·simp only[h,if_true]<;>lia
   ·simp only[h,if_false]<;>lia
 ·cases hi with
  |none=>simp[sliceBounds,HT.eY]
  |some i=>
   simp only[sliceBounds,HT.eY,Option.getD_none,show (1:Int)>0 by decide,if_true];by_cases h:i<0
   ·simp only[h,if_true]<;>lia
   ·simp only[h,if_false]<;>lia
theorem wc(aY:List zdK)(lo hi:Option Int):slicePick aY.toArray lo hi none=((aY.drop (HT.eY aY.length 0 lo)).take (HT.eY aY.length aY.length hi-HT.eY aY.length 0 lo)).toArray:=by
 obtain⟨h1,h2,h3⟩:=xS lo hi aY.toArray.size;unfold slicePick;rw[h1,h2,h3];simp only[sliceRange_one,pick_run,zas]<;>rfl
def UW (K:zab):V->Option Int->Option Int->Hp->VK->Prop:=fun x lo hi H Q=>∃a xs,x=.ref a/\fU K H a xs/\∀p,H p=none->Q (.ref p) (upd H p (.lst (kA xs lo hi)))
theorem kX:QW X (UW X.K):=by
 intro pins s σ H x v vl vu lo hi sl Q I rx hs pl pu h;obtain⟨a,xs,rfl,hx,q⟩:=h;cases rx;obtain⟨aY,r,ht,hz⟩:=I.list hx;have hlen:=r.length;refine⟨"list",_,slot_list_getitem.lookup,ht.isList.typeIs,?_⟩;refine wpAny_getItem_list_slice ht.isList hs pl pu .none (by simp) ?_ (by rw[zas]<;>lia);rw[wc,<- hlen];refine⟨.ref s.heap.objs.size,_,I.laid (t':=s.toks) (o:=.lst (kA xs lo hi)) (fun b ob q=>Heap.get?_push_of_some _ q) (zaj _) ?_,rfl,q _ (I.cc.fresh (zaj _))⟩;exact⟨zax (rS xs lo hi) hz,_,0,(r.drop (HT.eY xs.length 0 lo)).take (HT.eY xs.length xs.length hi-HT.eY xs.length 0 lo),Heap.get?_push_size _ rfl⟩
def rT:V->Bool
 |.bI=>true
 |.bl _=>true
 |.int _=>true
 |.str _=>true
 |_=>false
def Md:V->V->Bool
 |.bI,.bI=>true
 |.bl a,.bl b=>a==b
 |.bl a,.int b=>(if a then 1 else 0)==b
 |.int a,.bl b=>a==(if b then 1 else 0)
 |.int a,.int b=>a==b
 |.str a,.str b=>a==b
 |_,_=>false
theorem NI{A:zdU}{s:zdT}{y x:V}{u v:zdK}(ry:RelV y u)(rx:RelV x v)(fy:rT y=true)(fx:rT x=true):SeqAt.EqAt A s u v (Md y x):=by
 cases y with
 |bI=>
  cases ry;cases x with
  |bI=>cases rx;exact SeqAt.EqAt.same _
  |bl b=>cases rx;exact SeqAt.EqAt.none_bool b
  |int b=>obtain⟨t,rfl⟩:=rx;exact SeqAt.EqAt.none_int b t
  |str b=>obtain⟨t,rfl⟩:=rx;exact SeqAt.EqAt.none_str b t
  |_=>exact absurd (show false=true from fx) zar
 |bl a=>
  cases ry;cases x with
  |bI=>cases rx;exact SeqAt.EqAt.bool_none a
  |bl b=>cases rx;exact SeqAt.EqAt.bool_bool a b
  |int b=>obtain⟨t,rfl⟩:=rx;exact SeqAt.EqAt.bool_int a b t
  |str b=>obtain⟨t,rfl⟩:=rx;exact SeqAt.EqAt.bool_str a b t
  |_=>exact absurd (show false=true from fx) zar
 |int a=>
  obtain⟨t',rfl⟩:=ry;cases x with
  |bI=>cases rx;exact SeqAt.EqAt.int_none a t'
  |bl b=>cases rx;exact SeqAt.EqAt.int_bool a t' b
  |int b=>obtain⟨t,rfl⟩:=rx;exact SeqAt.EqAt.int_int a t' b t
  |str b=>obtain⟨t,rfl⟩:=rx;exact SeqAt.EqAt.int_str a t' b t
  |_=>exact absurd (show false=true from fx) zar
 |str a=>
  obtain⟨t',rfl⟩:=ry;cases x with
  |bI=>cases rx;exact SeqAt.EqAt.str_none a t'
  |bl b=>cases rx;exact SeqAt.EqAt.str_bool a t' b
  |int b=>obtain⟨t,rfl⟩:=rx;exact SeqAt.EqAt.str_int a t' b t
  |str b=>obtain⟨t,rfl⟩:=rx;exact SeqAt.EqAt.str_str a t' b t
  |_=>exact absurd (show false=true from fx) zar
 |_=>exact absurd (show false=true from fy) zar
def Kf (x:V) (u:zdK):Bool:=match u with
 |.none=>Md .bI x
 |.bool b=>Md (.bl b) x
 |.int i _=>Md (.int i) x
 |.str z _=>Md (.str z) x
 |_=>false
theorem Gq{x y:V}{u:zdK}(r:RelV y u)(f:rT y=true):Kf x u=Md y x:=by
 cases y with
 |bI=>cases r;rfl
 |bl b=>cases r;rfl
 |int i=>obtain⟨t,rfl⟩:=r;rfl
 |str z=>obtain⟨t,rfl⟩:=r;rfl
 |_=>exact absurd (show false=true from f) zar
theorem xT{x:V}:∀ {xs:List V} {us:List zdK},Vals xs us->xs.all rT=true->us.any (Kf x)=xs.any fun y=>Md y x
 |_,_,.nil,_=>rfl
 |y::xs,u::us,.cons r t,f=>by
  rw[List.all_cons,za5] at f;rw[zbH,zbH,Gq r f.1,xT t f.2]
theorem ur{A:zdU}{s:zdT}{x:V}{v:zdK}(rx:RelV x v)(fx:rT x=true):∀ {xs:List V} {us:List zdK},Vals xs us->xs.all rT=true->∀u∈us,SeqAt.EqAt A s u v (Kf x u)
 |_,_,.nil,_=>fun u hu=>by cases hu
 |y::xs,u::us,.cons r t,f=>fun u' hu=>by
  rw[List.all_cons,za5] at f;rcases zag.mp hu with rfl |hu
  ·rw[Gq r f.1];exact NI r rx f.1 fx
  ·exact ur rx fx t f.2 u' hu
def UX (x:V) (xs:List V):Bool:=xs.any fun y=>Md y x
def rIn (K:zab) (neg:Bool):R2:=fun x y H Q=>∃p xs,y=.ref p/\(fU K H p xs\/cF K H p xs)/\rT x=true/\xs.all rT=true/\Q (.bl (if neg then !UX x xs else UX x xs)) H
theorem EJ:nU X (compareOp .In) (rIn X.K false):=by
 intro pins s σ H x y v u Q I rx ry h;obtain⟨p,xs,rfl,hq,fx,fs,q⟩:=h;cases ry;rcases hq with hq |hq
 ·obtain⟨aY,r,pl,hz⟩:=I.list hq;refine SeqAt.in_listAt (Kf x) pl.isList (fun w hw=>ur rx fx r fs w (by simpa using hw)) ⟨.bl _,H,I,rfl,?_⟩;rw[show aY.toArray.any (Kf x)=aY.any (Kf x) by simp,xT r fs];exact q
 ·obtain⟨aY,r,pl,hz⟩:=I.tuple hq;refine SeqAt.in_tupleAt (Kf x) pl (fun w hw=>ur rx fx r fs w (by simpa using hw)) ⟨.bl _,H,I,rfl,?_⟩;rw[show aY.toArray.any (Kf x)=aY.any (Kf x) by simp,xT r fs];exact q
theorem cA:gV X (.builtin "len") (fun xs H Q=>∃p ys,xs=[.ref p]/\(fU X.K H p ys\/cF X.K H p ys)/\Q (.int ys.length) H):=by
 intro pins s σ H xs us Q I r h;obtain⟨p,ys,rfl,hq,q⟩:=h;obtain⟨u,rfl,rx⟩:=vals1 r;cases rx;have hn:=qK;rcases hq with hq |hq
 ·obtain⟨aY,r',pl,hz⟩:=I.list hq;have hlen:=r'.length;exact Calls.call_len_list pl.isList (by simp only[zas]<;>lia) ⟨.int ys.length,H,I.tok _,⟨s.toks+1,by rw[zas,hlen]⟩,q⟩
 ·obtain⟨aY,r',pl,hz⟩:=I.tuple hq;have hlen:=r'.length;exact len_tuple pl (by simp only[zas]<;>lia) ⟨.int ys.length,H,I.tok _,⟨s.toks+1,by rw[zas,hlen]⟩,q⟩
theorem pK:gV X (.type "list") (fun xs H Q=>∃p ys,xs=[.ref p]/\(fU X.K H p ys\/cF X.K H p ys)/\∀l,H l=none->Q (.ref l) (upd H l (.lst ys))):=by
 intro pins s σ H xs us Q I r h;obtain⟨p,ys,rfl,hq,q⟩:=h;obtain⟨u,rfl,rx⟩:=vals1 r;cases rx;have fin:∀(aY:List zdK),Vals ys aY->ys.length<=zdR->∀(h':Heap) (c':Nat),(∀b o',s.heap.get? b=some o'->h'.get? b=some o')->
  h'.get? s.heap.objs.size=some {cls:=.type "list",dict:=none,data:=.seq aY.toArray c',slots:=#[]}->EP X pins σ Q (.ref s.heap.objs.size) {s with heap:=h' }:=fun aY r' hz h' c' kp e=>
  ⟨.ref s.heap.objs.size,_,I.laid (t':=s.toks) kp (zaj _) (show ck X.prog X.w _ h' _ (.lst ys) from ⟨hz,aY,c',r',e⟩),rfl,q _ (I.cc.fresh (zaj _))⟩
 rcases hq with hq |hq
 ·obtain⟨aY,r',pl,hz⟩:=I.list hq;have hlen:=r'.length;obtain⟨o,ho,hc,n,hd⟩:=pl.isList;exact call_list_seq p (.inl rfl) ho hc hd (fun h' c' kp e=>fin aY r' hz h' c' kp e) (by simp only[zas]<;>lia)
 ·obtain⟨aY,r',pl,hz⟩:=I.tuple hq;have hlen:=r'.length;obtain⟨o,ho,hc,n,hd⟩:=pl;exact call_list_seq p (.inr rfl) ho hc hd (fun h' c' kp e=>fin aY r' hz h' c' kp e) (by simp only[zas]<;>lia)
theorem cP:gV X (.type "tuple") (fun xs H Q=>∃p ys,xs=[.ref p]/\((fU X.K H p ys/\∀l,H l=none->Q (.ref l) (upd H l (.tup ys)))\/(cF X.K H p ys/\Q (.ref p) H))):=by
 intro pins s σ H xs us Q I r h;obtain⟨p,ys,rfl,h⟩:=h;obtain⟨u,rfl,rx⟩:=vals1 r;cases rx;rcases h with ⟨hq,q⟩ |⟨hq,q⟩
 ·obtain⟨aY,r',pl,hz⟩:=I.list hq;have hlen:=r'.length;refine call_tuple_list pl.isList (fun h' kp=>?_) (by simp only[zas]<;>lia);have I1:Inv X pins σ H {s with heap:=h' }:=I.kept (t':=s.toks) kp;have I2:Inv X pins σ (upd H h'.objs.size (.tup ys)) {s with heap:=h'.push {cls:=.type "tuple",data:=.seq aY.toArray} }:=
   I1.laid (t':=s.toks) (fun b o e=>Heap.get?_push_of_some _ e) (zaj _) (show ck X.prog X.w _ _ _ (.tup ys) from ⟨hz,aY,r',IsTup.new _ _⟩)
  exact⟨.ref h'.objs.size,_,I2,rfl,q _ (I1.cc.fresh (zaj _))⟩
 ·obtain⟨aY,r',pl,hz⟩:=I.tuple hq;exact call_tuple_same pl ⟨.ref p,H,I,rfl,q⟩
def UY (K:zab) (T:String) (x:V) (H:Hp):Prop:=match x with
 |.str _=>T = "str"
 |.int _=>T = "int"
 |.ref p=>(T = "list"/\∃xs,fU K H p xs)\/(T = "tuple"/\∃o,K.lookup p=some o/\o.cls=.type "tuple"/\o.dict=none)\/
  (T = "dict"/\((∃kvs,H p=some (.dK kvs))\/∃kvs,H p=some (.dT kvs)))\/(T = "set"/\∃S n,H p=some (.set S n))
 |_=>False
theorem Gr{pins:List (zdJ×Obj)}{σ:St}{H:Hp}{s:zdT}{T:String}{x:V}{v:zdK}(I:Inv X pins σ H s)(r:RelV x v)(ty:UY X.K T x H) :
 s.TypeIs v T/\∀a,v=.ref a->∃ob,s.heap.get? a=some ob/\ob.dict=none:=by
 cases x with
 |str z=>
  obtain⟨t,rfl⟩:=r;cases (show T = "str" from ty);exact⟨typeIs_str s z t,fun _ e=>nomatch e⟩
 |int i=>
  obtain⟨t,rfl⟩:=r;cases (show T = "int" from ty);exact⟨typeIs_int s i t,fun _ e=>nomatch e⟩
 |ref p=>
  cases r;rcases ty with ⟨rfl,xs,hq⟩ |⟨rfl,o,hk,hc,hd⟩ |⟨rfl,hk⟩ |⟨rfl,S,n,hk⟩
  ·obtain⟨aY,_,pl,_⟩:=I.list hq;refine⟨pl.isList.typeIs,fun a e=>?_⟩;cases e;obtain⟨o,n,e,c,hd,_⟩:=pl;exact⟨o,e,hd⟩
  ·refine⟨⟨o,I.vP p o hk,hc⟩,fun a e=>?_⟩;cases e;exact⟨o,I.vP _ o hk,hd⟩
  ·have z:∃o,s.heap.get? p=some o/\o.ExactDict:=by
    rcases hk with ⟨kvs,hk⟩ |⟨kvs,hk⟩
    ·obtain⟨_,_,_,_,o,_,_,e,ex,_⟩:=I.cc p _ hk;exact⟨o,e,ex⟩
    ·obtain⟨_,_,_,_,o,_,_,e,ex,_⟩:=I.cc p _ hk;exact⟨o,e,ex⟩
   obtain⟨o,e,ex⟩:=z;refine⟨⟨o,e,ex.1⟩,fun a e2=>?_⟩;cases e2;exact⟨o,e,ex.2.1⟩
  ·obtain⟨o,_,_,_,e,ex,_⟩:=I.cc p _ hk;refine⟨⟨o,e,ex.1⟩,fun a e2=>?_⟩;cases e2;exact⟨o,e,ex.2.1⟩
 |_=>exact False.elim ty
def EK (K:zab) (T:String) (r:V->List V->Hp->VK->Prop) (to:TE):TE:=fun σ H Q=>to σ H fun x H1=>UY K T x H1/\r x [] H1 Q
def PF (K:zab) (T:String) (r:V->List V->Hp->VK->Prop) (to:TE) (t:TA):TE:=fun σ H Q=>to σ H fun x H1=>UY K T x H1/\t σ H1 fun xs H2=>r x xs H2 Q
variable{o e:Expr}{es:List Expr}{to:TE}{t:TA}{name:Str}{apos hG:Pos}{T id:String}{r:V->List V->Hp->VK->Prop}
theorem xU(pa:PlainAttrs T)(slot:Slot T name id)(UZ:typeOf (.builtin id)=pure (.type "method_descriptor"))(hm:Yk X id r)(ho:PE X o to)
 (zZ:attributeBase o name X.env (eval o X.env)=eval o X.env:=by rfl) (z0:(apos.endLine==hG.line)=true:=by rfl):PE X (.Call (.Attribute o name apos) [] [] hG) (EK X.K T r to):=by
 intro pins s σ H Q I h;refine wpAny_Call_method0_late zZ z0 (cS (ho pins s σ H _ I h) fun v s1 zqz=>?_);obtain⟨x,H1,I1,r1,ty,q1⟩:=zqz;obtain⟨h1,h2⟩:=Gr I1 r1 ty;exact⟨T,id,pa,slot,UZ,h1,h2,Calls.callWith_builtin rfl (PySem.evalArgs_none (hm pins s1 σ H1 x [] v [] Q I1 r1 .nil q1))⟩
theorem kB(pa:PlainAttrs T)(slot:Slot T name id)(UZ:typeOf (.builtin id)=pure (.type "method_descriptor"))(hm:Yk X id r)(ho:PE X o to)(ha:PA X (e::es) t)
 (zZ:attributeBase o name X.env (eval o X.env)=eval o X.env:=by rfl)
 (Va:((backTo hG (zdP (e::es) X.env)).all (fun x=>!x.1)&&(backToKw hG (keywordEach [] X.env)).all (fun x=>x.1.isSome)
  && decide ((e::es).length+([]:List Keyword).length+(if ([]:List Keyword).isEmpty then 0 else 1)<30))=true:=by rfl)
 (z0:(apos.endLine==hG.line)=true:=by rfl) (hs:zdP (e::es) X.env=(false,eval e X.env)::zdP es X.env:=by rfl) (NJ:(backTo hG (zdP es X.env)).any (·.1)=false:=by rfl) :
 PE X (.Call (.Attribute o name apos) (e::es) [] hG) (PF X.K T r to t):=by
 intro pins s σ H Q I h;refine wpAny_Call_method_late zZ Va z0 rfl (cS (ho pins s σ H _ I h) fun v s1 zqz=>?_);obtain⟨x,H1,I1,r1,ty,q1⟩:=zqz;obtain⟨h1,h2⟩:=Gr I1 r1 ty;refine⟨T,id,pa,slot,UZ,h1,h2,?_⟩;have hA:=ha hG pins s1 σ H1 _ I1 q1;rw[hs] at hA ⊢;refine Calls.callWith_builtin (by show (false ||(backTo hG (zdP es X.env)).any (·.1))=false;rw[NJ]<;>rfl) (Calls.evalArgs_plain ?_);exact cS hA fun us s2 ⟨vs,H2,I2,r2,q2⟩=>hm pins s2 σ H2 x vs v us Q I2 r1 r2 q2
end
def Tv (X:Cx) (id:String) (r:V->List V->Hp->VK->Prop):Prop:=
 ∀(pins:List (zdJ×Obj)) (s:zdT) (σ:St) (H:Hp) (x:V) (xs:List V) (v:zdK) (us:List zdK) (Q:VK),Inv X pins σ H s->RelV x v->Vals xs us->r x xs H Q->
  wpAny (model X.prog X.w) X.A (call (.builtin id) (v::us)) (EP X pins σ Q) X.xe s
theorem Vals.one:∀ {x:V} {us:List zdK},Vals [x] us->∃u,us=[u]/\RelV x u
 |_,_,.cons r .nil=>⟨_,rfl,r⟩
theorem Vals.zero:∀ {us:List zdK},Vals [] us->us=[]
 |_,.nil=>rfl
theorem Vals.dropLast{xs:List V}{us:List zdK}(h:Vals xs us):Vals xs.dropLast us.dropLast:=by
 induction h with
 |nil=>exact .nil
 |cons r t ih=>
  cases t with
  |nil=>exact .nil
  |cons q t'=>exact .cons r ih
theorem Vals.reverse{xs:List V}{us:List zdK}(h:Vals xs us):Vals xs.reverse us.reverse:=by
 induction h with
 |nil=>exact .nil
 |cons r t ih=>rw[zbh,zbh];exact Vals.append ih (.cons r .nil)
theorem BS{α:Type}(l:List α):l.eraseIdx (l.length-1)=l.dropLast:=by
 induction l with
 |nil=>rfl
 |cons a r ih=>
  cases r with
  |nil=>rfl
  |cons b r=>
   have e:(a::b::r).length-1=((b::r).length-1)+1:=by
    have h1:(a::b::r).length=r.length+2:=rfl;have h2:(b::r).length=r.length+1:=rfl;lia
   rw[e,List.eraseIdx_cons_succ,ih]
   all_goals rfl
section
variable{X:Cx}{pins:List (zdJ×Obj)}{σ:St}{H:Hp}{s:zdT}{l b:zdJ}{xs ys zs:List V}
theorem Inv.Kg{aY its':List zdK}{n:Nat}{f:Array zdK->Array zdK}{t':Nat}(I:Inv X pins σ H s)(hH:H l=some (.lst xs))
 (e:s.heap.get? l=some {cls:=.type "list",data:=.seq aY.toArray n}) (hf:f aY.toArray=its'.toArray) (hv:Vals ys its') (hz:ys.length<=zdR) :
 Inv X pins σ (upd H l (.lst ys)) {s with heap:=s.heap.update l (Obj.mapSeq f),toks:=t' }:=by
 have q:=PySem.IsL.update e f;rw[hf] at q;refine I.write (x:=l) (e:=l) (by rw[hH];exact trivial) (.inl rfl) (fun b' u hb hu=>(Heap.get?_update_other s.heap (Obj.mapSeq f) (Ne.symm hb)).trans hu) ⟨_,q⟩ ?_;exact⟨hz,its',_,hv,q⟩
theorem Inv.Vb{aY:List zdK}{t':Nat}(I:Inv X pins σ H s)(hv:Vals ys aY)(hz:ys.length<=zdR) :
 Inv X pins σ (upd H s.heap.objs.size (.lst ys)) {s with heap:=s.heap.push {cls:=.type "list",data:=.seq aY.toArray},toks:=t' }:=
 I.laid (fun _ _ q=>Heap.get?_push_of_some _ q) (zaj _) ⟨hz,aY,0,hv,Heap.get?_push_size _ rfl⟩
theorem Inv.fresh(I:Inv X pins σ H s):H s.heap.objs.size=none:=I.cc.fresh (zaj _)
theorem Inv.BU(I:Inv X pins σ H s)(hH:H l=some (.lst xs)):xs.length<=zdR/\∃(aY:List zdK) (n:Nat),Vals xs aY/\xs.length=aY.length/\s.heap.get? l=some {cls:=.type "list",data:=.seq aY.toArray n}:=by
 obtain⟨z,aY,n,r,e⟩:=I.cc l _ hH;exact⟨z,aY,n,r,r.length,e⟩
theorem Gs{n:Nat}(h:n<=zdR):Builtin.List.listTooLong n=false:=by
 unfold Builtin.List.listTooLong;exact decide_eq_false (by lia)
end
section
variable{X:Cx}
def Kh:V->List V->Hp->VK->Prop:=fun x vs H Q=>∃l xs y,x=.ref l/\vs=[y]/\H l=some (.lst xs)/\xs.length<zdR/\Q .bI (upd H l (.lst (xs++[y])))
theorem c6:Tv X "list.append" Kh:=by
 intro pins s σ H x vs v us Q I rx rv h;obtain⟨l,xs,y,rfl,rfl,hH,hz,q⟩:=h;cases rx;obtain⟨u,rfl,ru⟩:=rv.one;obtain⟨z,aY,n,r,hl,e⟩:=I.BU hH;refine call_meets F.slot_list_append ⟨_,e,rfl⟩ F.entry_list_append (F.args_list_append_2 _ _) (PySem.list_append l aY.toArray n u (by rw[zas];lia)) ⟨e,?_⟩;refine⟨.bI,_,I.Kg (its':=aY++[u]) hH e (by simp) (r.append (.cons ru .nil)) ?_,rfl,q⟩;rw[zau,zbL];lia
def Ki:V->List V->Hp->VK->Prop:=fun x vs H Q=>∃l b xs zs,x=.ref l/\vs=[.ref b]/\H l=some (.lst xs)/\H b=some (.lst zs)/\xs.length+zs.length<=zdR/\Q .bI (upd H l (.lst (xs++zs)))
theorem xf:Tv X "list.extend" Ki:=by
 intro pins s σ H x vs v us Q I rx rv h;obtain⟨l,b,xs,zs,rfl,rfl,hH,hB,hz,q⟩:=h;cases rx;obtain⟨u,rfl,ru⟩:=rv.one;cases ru;obtain⟨z,aY,n,r,hl,e⟩:=I.BU hH;obtain⟨z2,pI,n2,r2,PH,e2⟩:=I.BU hB;have hsz:aY.toArray.size+pI.toArray.size<=zdR:=by rw[zas,zas];lia
 have Q0:¬(!aY.toArray.isEmpty&&Builtin.List.listTooLong (aY.toArray.size+pI.toArray.size))=true:=by
  rw[Gs hsz,Bool.and_false];exact zar
 refine call_meets F.slot_list_extend ⟨_,e,rfl⟩ F.entry_list_extend (F.args_list_extend_2 _ _)
  (AutoSeq1.list_extend_list_list_0 l aY.toArray n b pI.toArray n2 Q0 (by rw[zas];lia) (by lia)) ⟨e,e2,?_⟩
 refine⟨.bI,_,I.Kg (its':=aY++pI) hH e (by simp) (r.append r2) ?_,rfl,q⟩;rw[zau];lia
def Vc:V->List V->Hp->VK->Prop:=fun x vs H Q=>∃l xs y,x=.ref l/\vs=[]/\H l=some (.lst xs)/\xs[xs.length-1]?=some y/\Q y (upd H l (.lst xs.dropLast))
theorem BV:Tv X "list.pop" Vc:=by
 intro pins s σ H x vs v us Q I rx rv h;obtain⟨l,xs,y,rfl,rfl,hH,hy,q⟩:=h;cases rx;have Vd:=rv.zero;subst Vd;obtain⟨z,aY,n,r,hl,e⟩:=I.BU hH;obtain⟨u,hu,ru⟩:=r.get hy;have Ve:aY.toArray[aY.toArray.size-1]?=some u:=by
  show aY.toArray[aY.length-1]?=some u;rw[<- zaU,<- hl];exact hu
 refine call_meets F.slot_list_pop ⟨_,e,rfl⟩ F.entry_list_pop (F.args_list_pop_1 _) (MeetsSeq.list_pop_last l aY.toArray n u Ve (by rw[zas];lia)) ⟨e,?_⟩;refine⟨y,_,I.Kg (its':=aY.dropLast) hH e ?_ r.dropLast ?_,ru,q⟩
 ·show aY.toArray.eraseIdxIfInBounds (aY.toArray.size-1)=aY.dropLast.toArray;rw[zas,List.eraseIdxIfInBounds_toArray,BS]
 ·rw[List.length_dropLast];lia
def Gu:V->List V->Hp->VK->Prop:=fun x vs H Q=>∃l xs,x=.ref l/\vs=[]/\H l=some (.lst xs)/\Q .bI (upd H l (.lst xs.reverse))
theorem BW:Tv X "list.reverse" Gu:=by
 intro pins s σ H x vs v us Q I rx rv h;obtain⟨l,xs,rfl,rfl,hH,q⟩:=h;cases rx;have Vd:=rv.zero;subst Vd;obtain⟨z,aY,n,r,hl,e⟩:=I.BU hH;refine call_meets F.slot_list_reverse ⟨_,e,rfl⟩ F.entry_list_reverse (F.args_list_reverse_1 _) (AutoSeq1.list_reverse_list_0 l aY.toArray n (by rw[zas];lia)) ⟨e,?_⟩;refine⟨.bI,_,I.Kg (its':=aY.reverse) hH e (by simp) r.reverse ?_,rfl,q⟩;rw[zcc];lia
def Vf:R2:=fun x y H Q=>∃l b xs zs,x=.ref l/\y=.ref b/\H l=some (.lst xs)/\H b=some (.lst zs)/\xs.length+zs.length<=zdR/\∀p,H p=none->Q (.ref p) (upd H p (.lst (xs++zs)))
theorem j9:nU X (binaryOp .Add) Vf:=by
 intro pins s σ H x y v u Q I rx ry h;obtain⟨l,b,xs,zs,rfl,rfl,hH,hB,hz,q⟩:=h;cases rx;cases ry;obtain⟨z,aY,n,r,hl,e⟩:=I.BU hH;obtain⟨z2,pI,n2,r2,PH,e2⟩:=I.BU hB;refine PySem.P.add_list e e2 ?_ (by rw[zas,zas];lia);have ea:aY.toArray++pI.toArray=(aY++pI).toArray:=by simp
 rw[ea];exact⟨.ref _,_,I.Vb (t':=s.toks) (r.append r2) (by rw[zau];lia),rfl,q _ I.fresh⟩
end
end L2
namespace Yl
open PySem PySem.W PySem.Calls PyProof.Rows
theorem sN{P:Params}{h:Heap}:∀(ns:List Int) (vs:List zdK),WellAll P h vs (ns.map WData.int)->IntsAre vs ns:=by
 intro ns
 induction ns with
 |nil=>
  intro vs w;rw[zbr] at w;cases w;exact .nil
 |cons n ns ih=>
  intro vs w;rw[zaq] at w;cases w with
  |cons a b=>
   cases a;exact .cons _ _ (ih _ b)
theorem EL{l:OpenLaw}{n:Nat}(hn:l.most=some n){P:Params}{h:Heap}{args:List WData}{vals:List zdK}
 (Kj:l.row.toRowW.claim.pre args=true) (Vg:WellAll P h vals args) :
 ∃a vs ns,vals=[Value.ref a]/\args=[WData.list (ns.map WData.int)]/\h.get? a=some {cls:=.type "list",data:=.seq vs.toArray}/\IntsAre vs ns/\ns.length<=n:=by
 have hsh:WShape.hasAll [] args [.list .int]=true:=(pre_splitW Kj).1;have hc:l.pre.holds [] {args:=args}=true:=(pre_splitW Kj).2;obtain⟨d,r,rfl,h1,h2⟩:=hasAllW_cons hsh;obtain rfl:=hasAllW_nil h2;obtain⟨xs,rfl,h3⟩:=hasW_list h1;obtain⟨ns,rfl⟩:=items_int h3;have hlen:ns.length<=n:=by
  unfold OpenLaw.pre at hc;have h4:(WTm.not (.lt (.lit (.int (n:Int))) (.len (.arg 0)))).holds [] {args:=[.list (ns.map .int)]}=true:=by
   have h4:=(holds_andW hc).1;rw[hn] at h4;exact h4
  have h5:=condW_of h4 (w_not (w_lt w_lit (w_len_list (w_arg rfl))));rw[zad] at h5;refine Nat.le_of_not_lt fun q=>?_;have q':(n:Int)<((ns.length:Nat):Int):=by lia
  first
   |(rw[decide_eq_true q'] at h5;exact absurd h5 (by decide))
   |(simp at h5;lia)
 cases Vg with
 |cons w1 w2=>
  cases w2;cases w1 with
  |list ho NK=>exact⟨_,_,ns,rfl,rfl,ho,sN ns _ NK,hlen⟩
theorem EM(l:OpenLaw)(args:List WData):l.row.toRowW.claim.post args (.bool true) args=true:=
 postW_of (r:=l.row.toRowW) (X:=(true==true))
  (show WShape.has [] (.bool true) .bool=true by first |rfl |decide |simp[WShape.has,WShape.arms,WShape.armsAll])
  (show (WTm.eq .res (.lit (.bool true))).value [] {args:=args,res:=some (.bool true),after:=args}=some (.bool (true==true)) from w_eq_bool (w_res rfl) w_lit) rfl
theorem Aa{l:OpenLaw}{n:Nat}{q:zdV}{loose:List Str}{XP:(Str->Option zdK)->Heap->Prop}{YP:zdL->Heap->Prop}{d:DefRec}
 (hn:l.most=some n) (Q1:d.params.defaults=[])
 (call:∀(w:zdL) (s₀ s₁:zdT) (mg mb:Str->Option zdK) (fa:zdJ) (o:Obj) (pm cd doc:zdK) (a:zdJ) (vs:List zdK) (ns:List Int),
  Ground q loose [] XP w s₀ mg mb s₁.heap->YP w s₁.heap->
  s₁.heap.get? fa=some o->o.data=.func (docDef d.name d.params d.body d.scope pm cd doc)->s₁.heap.CodeRec cd d.name->mg d.name=some (.ref fa)->
  s₁.heap.get? a=some {cls:=.type "list",data:=.seq vs.toArray}->IntsAre vs ns->ns.length<=n->s₁.gens = #[]->
  codeAny (model l.prog w) callerA (.call (.ref fa) ⟨[.ref a],[]⟩) (fun r s'=>r=.ok (.ret (.bool true))/\OldK s₁.heap s'.heap/\s'.os=s₁.os/\AllBare s'.gens) s₁) :
 WalkO q loose XP YP l.row.toRowW d [] (fun f vs=>PySem.call f vs):=by
 intro w s₀ s₁ mg mb G Y fa o pm cd doc dV kV ho hd Gb hD Q2 hg args vals as Kj aaK hrd Vg hlo;obtain rfl:dV=.none:=Dflts.none hD Q1;obtain rfl:kV=.none:=Dflts.noKw hD;obtain⟨a,vs,ns,rfl,rfl,NM,hints,hlen⟩:=EL hn Kj Vg;refine enter_call (codeAny_mono (call w s₀ s₁ mg mb fa o pm cd doc a vs ns G Y ho (fd_plain hd) Gb Q2 NM hints hlen hg) fun r s' hq=>?_);obtain⟨rfl,h2,h3,h4⟩:=hq;exact⟨.inl ⟨.bool true,.bool true,[],rfl,fun _=>rfl,.bool true,EM l _,fun _=>⟨List.Pairwise.nil,fun _ hm=>(nomatch hm)⟩⟩,h2,h3,h4⟩
end Yl
namespace L2
open PySem PySem.Spec PyProof.Rows
theorem nj:∀ {vs:List zdK} {ns:List Int},IntsAre vs ns->Vals (ns.map V.int) vs
 |_,_,.nil=>.nil
 |_,_,.cons n t h=>.cons ⟨t,rfl⟩ (nj h)
def NN (H:Hp):Prop:=∀b,H b=none\/∃o xs,H b=some (.qH o (.lst xs))
theorem Gv{P:zdV}{w:zdL}{K:zab}{mg mb:Str->Option zdK}{CX:EG}{k:Nat}{fa a:zdJ}{fd:zdS}{x:Str}{sp:Sp}{s₁:zdT}{vs:List zdK}{ns:List Int}
 (KX:K.In s₁.heap) (Tw:s₁.heap.Ns zdQ mg) (hb:s₁.heap.Ns builtinsNs mb) (Kk:∀x:Str,x≠"__name__"->mb x=bootBuiltins x) (Vh:s₁.heap.NoLimit) (hg:s₁.gens = #[])
 (ha:s₁.heap.get? a=some {cls:=.type "list",data:=.seq vs.toArray}) (hi:IntsAre vs ns) (hl:ns.length<=zdR) (hr:iW k callerA)
 (F:∀base:Heap,K.In base->base.Ns zdQ mg->bM P w K mg base CX k fa fd [x] sp) (Q3:∀(s:zdT) (u:zdK),BindsTo s fd ⟨[u],[]⟩ [(x,u)])
 (Mc:∀H:Hp,NN H->fU K H a (ns.map V.int)->sp [.ref a] H (fun v _=>v=.bl true) fun _ _ _=>False)
 (Vi:∀H e s',CX [] H s₁ (fun _ _ _=>False) e s'->False) :
 codeAny (model P w) callerA (.call (.ref fa) ⟨[.ref a],[]⟩) (fun r s'=>r=.ok (.ret (.bool true))/\OldK s₁.heap s'.heap/\s'.os=s₁.os/\AllBare s'.gens) s₁:=by
 have rv:=nj hi;have Vj:=hi.length;have core:∀H:Hp,NN H->fU K H a (ns.map V.int)->pB P w H s₁.heap->(∀b,H b≠none->b=a)->(H a≠none->K.lookup a=none)->
  codeAny (model P w) callerA (.call (.ref fa) ⟨[.ref a],[]⟩) (fun r s'=>r=.ok (.ret (.bool true))/\OldK s₁.heap s'.heap/\s'.os=s₁.os/\AllBare s'.gens) s₁:=by
  intro H hO hS cc hA hK;have Dr:∀ {b:zdJ} {o:Obj},s₁.heap.get? b=some o->H b=none->(xJ s₁.heap H).get? b=some o:=fun e n=>F5 e n;have QQ:∀ {b:zdJ} {o:Obj} {es:Array DictEntry} {ep:Nat},s₁.heap.get? b=some o->o.data=.dict es ep->H b=none:=fun {b o es ep} e d=>by
   cases q:H b with
   |none=>rfl
   |some u=>
    have e':b=a:=hA b (by rw[q];simp);subst e';rw[ha] at e;cases e;have d':Data.seq vs.toArray _=Data.dict es ep:=d;cases d'
  have Tz:∀ {b:zdJ} {m:Str->Option zdK},s₁.heap.Ns b m->(xJ s₁.heap H).Ns b m:=fun {b m} ⟨o,es,ep,e,d,r⟩=>⟨o,es,ep,Dr e (QQ e d),d,r⟩
  have Ym:K.In (xJ s₁.heap H):=fun b o e=>Dr (KX b o e) (by
   cases q:H b with
   |none=>rfl
   |some u=>
    have e':b=a:=hA b (by rw[q];simp);subst e';rw[hK (by rw[q];simp)] at e;cases e)
  have hM:Mod K mg (xJ s₁.heap H):=⟨Ym,Tz Tw,⟨mb,Tz hb,Kk⟩,let ⟨mc,h1,h2⟩:=Vh;⟨mc,Tz h1,h2⟩⟩
  have e0:BN P w K mg (xJ s₁.heap H) callerA [] s₁ H:=⟨rfl,hM,fun b o e=>JX e,zc0 (Eo _ _),trivial,fun b hb=>absurd (show b∈([]:List zdJ) from hb) (by simp),cc,.of_eq hg⟩
  refine codeAny_mono ((F _ Ym (Tz Tw)).run callerA [] s₁ H ⟨[.ref a],[]⟩ [.ref a] [.ref a] _ _ hr e0 (Q3 s₁ (.ref a)) (.cons rfl .nil) (Mc H hO hS)) fun r s' h=>?_;cases r with
  |error e=>exact(Vi H e s' h).elim
  |ok fl=>
   cases fl with
   |next=>exact False.elim h
   |brk=>exact False.elim h
   |cont=>exact False.elim h
   |ret u=>
    obtain⟨v,H',os,bare,un,Vk,r',q⟩:=h;have q':v=.bl true:=q;subst q';obtain rfl:u=Value.bool true:=r';refine⟨rfl,OldK.of_keep fun b o e=>?_,os,bare⟩;cases q:H b with
    |none=>exact un.keep b o e q (by intro z;exact absurd (show b∈([]:List zdJ) from z) (by simp)) (by simp)
    |some u=>
     rcases hO b with z |⟨ob,xs,z⟩
     ·rw[q] at z;cases z
     ·have z2:=un.vX b ob _ z;obtain⟨e1,_⟩:=cc b _ z;obtain⟨e2,_⟩:=Vk b _ z2;rw[e] at e1;cases e1;exact e2
 cases hk:K.lookup a with
 |some o=>
  have e:=KX a o hk;rw[ha] at e;cases e;refine core (fun _=>none) (fun _=>.inl rfl) (.inr ⟨_,vs.toArray,_,hk,rfl,rfl,rfl,by rw[zas,Vj];exact hl,by simpa using rv⟩) (fun b u z=>by have z':(none:Option HO)=some u:=z;cases z') (fun b z=>absurd rfl z) fun z=>absurd rfl z
 |none=>
  refine core (fun b=>if b=a then some (.qH {cls:=.type "list",data:=.seq vs.toArray} (.lst (ns.map V.int))) else none) (fun b=>?_) (.inl (.inr ⟨{cls:=.type "list",data:=.seq vs.toArray},if_pos rfl⟩)) (fun b u z=>?_) (fun b z=>?_) fun _=>hk
  ·by_cases hb:b=a
   ·exact .inr ⟨_,_,if_pos hb⟩
   ·exact .inl (if_neg hb)
  ·by_cases hb:b=a
   ·have z':=(if_pos hb).symm.trans z;cases z';subst hb;exact⟨ha,by rw[zad];exact hl,vs,_,rv,ha⟩
   ·have z':=(if_neg hb).symm.trans z;cases z'
  ·by_cases hb:b=a
   ·exact hb
   ·exact absurd (if_neg hb) z
theorem Kl{l:PySem.W.OpenLaw}{n k:Nat}{q:zdV}{loose:List Str}{XP:(Str->Option zdK)->Heap->Prop}{YP:zdL->Heap->Prop}{d:DefRec}{K:Params->zab}{CX:zdL->EG}{sp:zdL->Sp}{x:Str}
 (hn:l.most=some n) (Ts:n<=zdR) (Q1:d.params.defaults=[]) (hr:iW k callerA)
 (hY:∀(w:zdL) (h:Heap),YP w h->(K w.params).In h)
 (F:∀(w:zdL) (mg:Str->Option zdK) (fa:zdJ) (h:Heap),(K w.params).In h->h.Ns zdQ mg->mg d.name=some (.ref fa)->
  ∃fd:zdS,(∀(s:zdT) (u:zdK),BindsTo s fd ⟨[u],[]⟩ [(x,u)])/\
   ∀base:Heap,(K w.params).In base->base.Ns zdQ mg->bM l.prog w (K w.params) mg base (CX w) k fa fd [x] (sp w))
 (Mc:∀(w:zdL) (H:Hp) (a:zdJ) (ns:List Int),ns.length<=n->NN H->fU (K w.params) H a (ns.map V.int)->sp w [.ref a] H (fun v _=>v=.bl true) fun _ _ _=>False)
 (Vi:∀(w:zdL) (H:Hp) (s:zdT) (e:zdK) (s':zdT),CX w [] H s (fun _ _ _=>False) e s'->False) :
 PySem.W.WalkO q loose XP YP l.row.toRowW d [] (fun f vs=>PySem.call f vs):=by
 refine Yl.Aa hn Q1 fun w s₀ s₁ mg mb fa o pm cd doc a vs ns G Y ho hd Gb Q2 NM hints hlen hg=>?_;have KX:=hY w _ Y;obtain⟨fd,hb,hF⟩:=F w mg fa _ KX G.T.g Q2;exact Gv KX G.T.g G.T.b G.T.builtins G.T.nolimit hg NM hints (zax hlen Ts) hr hF hb (fun H hO hS=>Mc w H a ns hlen hO hS) fun H e s'=>Vi w H s₁ e s'
def inClass (s:Stmt) (j:Nat):Stmt:=match s with
 |.ClassDef _ _ _ body _ _ _ _ _ _ _=>body.getD j (.Pass ⟨0,0,0,0⟩)
 |_=>.Pass ⟨0,0,0,0⟩
def jU (s:Stmt):Arguments:=match s with
 |.FunctionDef _ a _ _ _ _ _ _ _ _=>a
 |_=>{posonlyargs:=[],args:=[],vararg:=none,kwonlyargs:=[],kw_defaults:=[],kwarg:=none,defaults:=[]}
def iu (s:Stmt):List Stmt:=match s with
 |.FunctionDef _ _ b _ _ _ _ _ _ _=>b
 |_=>[]
def aI (s:Stmt):Scope:=match s with
 |.FunctionDef _ _ _ _ _ _ sc _ _ _=>sc
 |_=>{kind:=.function,names:=[],isGenerator:=false,isCoroutine:=false}
abbrev fZ:EG:=fun _ _ _ _ _ _=>False
abbrev E0:XK:=fun _ _ _=>False
theorem aN{X:Cx}:Passes fZ X E0:=fun _ _ _ _ _ _ _ h=>h.elim
structure JI(K:zab)(x qual:Str)(st:Stmt)(f:zdJ)(fd:zdS):Prop where
 ex:∃(oc:zdK) (od:Option zdJ) (kV doc pm:zdK) (an:Option zdJ) (eA ct:zdK) (JH:Array (Option zdK)),
  fd=zbD x qual (jU st) (iu st) (aI st) .none kV doc pm an eA ct/\K.lookup f=some ⟨oc,od,.func fd,JH⟩/\zci K eA qual=true
 kp:zbR K (.ref f)=true
section
variable{P:zdV}{w:zdL}{K:zab}{mg:Str->Option zdK}{base:Heap}
theorem JI.ok{x qual:Str}{st:Stmt}{f:zdJ}{fd:zdS}{N ps:List Str}{k:Nat}{sp:Sp}(F:JI K x qual st f fd)(S:ba N ps (aI st))(len:∀vs H Q E,sp vs H Q E->vs.length=ps.length)
 (zY:∀(eA:zdK) (A:zdU) (outer:List Env) (s:zdT) (H:Hp) (vs:List V) (Q:VK) (E:XK),iW k (A.deeper (envOfC qual (aI st) s.heap.objs.size f eA))->sp vs H Q E->
  ∃t,De (wb fZ P w K mg base N qual (aI st) f eA A outer s H E).QC (iu st) t/\t {nx:=fun _ H'=>Q .bI H',rt:=Q} (start N vs) H):bM P w K mg base fZ (k+1) f fd ps sp:=by
 obtain⟨oc,od,kV,doc,pm,an,eA,ct,JH,rfl,lk,Gb⟩:=F.ex;refine QR lk Gb S len fun A outer s H vs Q E hr Mc=>?_;obtain⟨t,h,q⟩:=zY eA A outer s H vs Q E hr Mc;exact⟨t,h.QC,q⟩
theorem JI.binds{x qual:Str}{st:Stmt}{f:zdJ}{fd:zdS}{ps:List Str}(F:JI K x qual st f fd)
 (h:∀(kV doc pm:zdK) (an:Option zdJ) (eA ct:zdK) (us:List zdK),us.length=ps.length->bindArgs (zbD x qual (jU st) (iu st) (aI st) .none kV doc pm an eA ct) ⟨us,[]⟩=pure (ps.zip us)):Binds K fd ps []:=by
 obtain⟨oc,od,kV,doc,pm,an,eA,ct,JH,rfl,lk,Gb⟩:=F.ex;exact .all (h kV doc pm an eA ct)
theorem Gw{x qual:Str}{st:Stmt}{f:zdJ}{oc:zdK}{od an:Option zdJ}{JH:Array (Option zdK)}{kV doc pm eA ct:zdK}(l:K.lookup f=some ⟨oc,od,.func (zbD x qual (jU st) (iu st) (aI st) .none kV doc pm an eA ct),JH⟩)
 (c:zci K eA qual=true) (k:zbR K (.ref f)=true):JI K x qual st f (zbD x qual (jU st) (iu st) (aI st) .none kV doc pm an eA ct):=⟨⟨oc,od,kV,doc,pm,an,eA,ct,JH,rfl,l,c⟩,k⟩
end
theorem i8{A:zdU}{k:Nat}(hr:iW k A):A.units+1<cLine:=zcN (Nat.add_le_add_left (by decide:1<=64) _) hr.units
theorem EN{n:Nat}(h:n<=1000):n<zdR:=zcN h (by decide)
section
variable{X:Cx}
theorem pv(i:Nat){x:Str}{pos:Pos}(hN:X.N[i]?=some x:=by rfl)(hv:Tj X.env.scope x:=by first |exact zap rfl |exact Or.inr (zap rfl) |exact Or.inr (Or.inr rfl))(hd:(x==("__debug__":Str))=false:=by decide)
 (Gb:(x==("__classdict__":Str))=false:=by decide):PE X (.Name x pos) (dM i):=Nm hN hv hd Gb
end
theorem eC{c A B:Prop}[Decidable c](h1:c->A)(h2:¬c->B):if c then A else B:=by
 by_cases h:c
 ·rw[if_pos h];exact h1 h
 ·rw[if_neg h];exact h2 h
def aq (H H':Hp):Prop:=∀b o,H b=some o->H' b=some o
theorem aq.refl(H:Hp):aq H H:=fun _ _ h=>h
theorem aq.trans{H H1 H2:Hp}(a:aq H H1)(b:aq H1 H2):aq H H2:=fun c o h=>b c o (a c o h)
theorem aq.free{H H':Hp}(e:aq H H'){l:zdJ}(h:H' l=Option.none):H l=Option.none:=by
 cases q:H l with
 |none=>rfl
 |some o=>
  rw[e l o q] at h;cases h
theorem aq.seq{K:zab}{H H':Hp}{a:zdJ}{xs:List V}(e:aq H H')(h:fU K H a xs):fU K H' a xs:=by
 rcases h with (h |⟨o,h⟩) |h
 ·exact .inl (.inl (e _ _ h))
 ·exact .inl (.inr ⟨o,e _ _ h⟩)
 ·exact .inr h
section
variable{κ:Type}[DecidableEq κ]
def c0 (kvs:List (κ×V)) (k:κ):Option V:=(kvs.find? fun kv=>decide (kv.1=k)).map (·.2)
def putK (kvs:List (κ×V)) (k:κ) (v:V):List (κ×V):=
 if (kvs.any fun kv=>decide (kv.1=k))=true then kvs.map (fun kv=>if kv.1=k then (kv.1,v) else kv) else kvs++[(k,v)]
theorem cT{p:κ×V}{r:List (κ×V)}{k:κ}(e:p.1=k):c0 (p::r) k=some p.2:=by simp[c0,zbo,e]
theorem cU{p:κ×V}{r:List (κ×V)}{k:κ}(e:¬p.1=k):c0 (p::r) k=c0 r k:=by simp[c0,zbo,e]
theorem mv(k:κ):∀kvs:List (κ×V),(kvs.any fun kv=>decide (kv.1=k))=(c0 kvs k).isSome
 |[]=>rfl
 |p::r=>by
  rw[zbH];by_cases e:p.1=k
  ·simp only[cT e,decide_eq_true e,Bool.true_or,Option.isSome_some]
  ·rw[cU e,decide_eq_false e,Bool.false_or];exact mv k r
theorem Ab(k j:κ)(y:V):∀kvs:List (κ×V),c0 (kvs.map fun kv=>if kv.1=k then (kv.1,y) else kv) j=(c0 kvs j).map fun x=>if j=k then y else x
 |[]=>rfl
 |p::r=>by
  have ih:=Ab k j y r;rw[zaq];by_cases h:p.1=k
  ·rw[if_pos h];by_cases e:p.1=j
   ·rw[cT (p:=(p.1,y)) e,cT e,zaV,if_pos (e.symm.trans h)]
   ·rw[cU (p:=(p.1,y)) e,cU e,ih]
  ·rw[if_neg h];by_cases e:p.1=j
   ·rw[cT (p:=p) e,cT e,zaV,if_neg (fun z=>h (e.trans z))]
   ·rw[cU (p:=p) e,cU e,ih]
theorem xg(k j:κ)(y:V):∀kvs:List (κ×V),c0 kvs k=none->c0 (kvs++[(k,y)]) j=if j=k then some y else c0 kvs j
 |[],_=>by
  by_cases e:k=j
  ·rw[if_pos e.symm];exact cT (p:=(k,y)) e
  ·rw[if_neg (fun z=>e z.symm)];exact cU (p:=(k,y)) e
 |p::r,hn=>by
  rw[zbt];have hk:¬p.1=k:=fun z=>by rw[cT z] at hn;cases hn
  rw[cU hk] at hn;have ih:=xg k j y r hn;by_cases e:p.1=j
  ·rw[cT e,cT e,if_neg (fun z=>hk (e.trans z))]
  ·rw[cU e,cU e,ih]
theorem Ac(kvs:List (κ×V))(k j:κ)(y:V):c0 (putK kvs k y) j=if j=k then some y else c0 kvs j:=by
 unfold putK;by_cases a:(kvs.any fun kv=>decide (kv.1=k))=true
 ·rw[if_pos a,Ab];rw[mv] at a;by_cases e:j=k
  ·obtain⟨x,hx⟩:=zc1.mp a;rw[if_pos e,e,hx,zaV,if_pos rfl]
  ·rw[if_neg e];cases c0 kvs j with
   |none=>rfl
   |some x=>rw[zaV,if_neg e]
 ·rw[if_neg a];refine xg k j y kvs ?_;rw[mv] at a;cases q:c0 kvs k with
  |none=>rfl
  |some x=>rw[q] at a;exact(a rfl).elim
theorem jV(kvs:List (κ×V))(k:κ)(v:V):(putK kvs k v).length<=kvs.length+1:=by
 unfold putK;split
 ·rw[zad];lia
 ·rw[zau,zai,zaz];lia
theorem oK.kC{o:Option V}{u:Option zdK}(r:oK o u):o.isSome=u.isSome:=by
 cases o with
 |none=>cases u with
  |none=>rfl
  |some _=>exact(show False from r).elim
 |some _=>cases u with
  |none=>exact(show False from r).elim
  |some _=>rfl
theorem oK.getD{o:Option V}{u:Option zdK}{d:V}{d':zdK}(r:oK o u)(rd:RelV d d'):RelV (o.getD d) (u.getD d'):=by
 cases o with
 |none=>cases u with
  |none=>exact rd
  |some _=>exact(show False from r).elim
 |some _=>cases u with
  |none=>exact(show False from r).elim
  |some _=>exact r
theorem KV.val{kvs:List (κ×V)}{vs:List (κ×zdK)}(r:KV kvs vs)(k:κ):oK (c0 kvs k) (valueAt vs k):=by
 unfold KV at r
 induction r with
 |nil=>exact True.intro
 |@cons p q ps qs h t ih=>
  obtain⟨h1,h2⟩:=h;by_cases e:p.1=k
  ·have e':q.1=k:=h1.symm.trans e;have b:valueAt (q::qs) k=some q.2:=by simp[valueAt,zbo,e']
   rw[cT e,b];exact h2
  ·have e':¬q.1=k:=fun z=>e (h1.trans z);have b:valueAt (q::qs) k=valueAt qs k:=by simp[valueAt,zbo,e']
   rw[cU e,b];exact ih
theorem KV.any{kvs:List (κ×V)}{vs:List (κ×zdK)}(r:KV kvs vs)(k:κ):(kvs.any fun kv=>decide (kv.1=k))=vs.any fun kv=>decide (kv.1=k):=by
 unfold KV at r
 induction r with
 |nil=>rfl
 |cons h t ih=>rw[zbH,zbH,ih,h.1]
theorem KV.NO{kvs:List (κ×V)}{vs:List (κ×zdK)}(r:KV kvs vs)(k:κ){y:V}{u:zdK}(ry:RelV y u) :
 KV (kvs.map fun kv=>if kv.1=k then (kv.1,y) else kv) (vs.map fun kv=>if kv.1=k then (kv.1,u) else kv):=by
 unfold KV at r ⊢
 induction r with
 |nil=>exact .nil
 |@cons p q ps qs h t ih=>
  rw[zaq,zaq];refine .cons ?_ ih;obtain⟨h1,h2⟩:=h;by_cases e:p.1=k
  ·rw[if_pos e,if_pos (h1.symm.trans e)];exact⟨h1,ry⟩
  ·rw[if_neg e,if_neg (fun z=>e (h1.trans z))];exact⟨h1,h2⟩
theorem KV.put{kvs:List (κ×V)}{vs:List (κ×zdK)}(r:KV kvs vs)(k:κ){y:V}{u:zdK}(ry:RelV y u):KV (putK kvs k y) (stored vs k u):=by
 unfold putK stored;rw[r.any k];by_cases e:(vs.any fun kv=>decide (kv.1=k))=true
 ·rw[if_pos e,if_pos e];exact r.NO k ry
 ·rw[if_neg e,if_neg e];exact Paired.snoc r ⟨rfl,ry⟩
theorem KV.length{kvs:List (κ×V)}{vs:List (κ×zdK)}(r:KV kvs vs):kvs.length=vs.length:=Paired.length r
end
theorem nW{P:zdV}{w:zdL}{k:Key}{u:zdK}(r:RelV (kV k) u):(bN P w).is k u=true:=by
 cases k with
 |inl i=>obtain⟨t,e⟩:=(show ∃t,u=Value.int i t from r);subst e;exact zI P w i t
 |inr x=>obtain⟨t,e⟩:=(show ∃t,u=Value.str x t from r);subst e;exact zJ P w x t
theorem xh{P:zdV}{w:zdL}:∀ {ks:List Key} {us:List zdK},Vals (ks.map kV) us->ItemsAre (bN P w) ks us
 |[],_,r=>by rw[zbr] at r;cases r;exact .nil
 |k::ks,_,r=>by
  rw[zaq] at r;cases r with
  |cons h t=>exact .cons (nW h) (xh t)
abbrev KT (H:Hp):List (List Key×V)->List (List Key×zdJ×zdK)->Prop:=Paired fun p q=>p.1=q.1/\H q.2.1=some (.tup (p.1.map kV))/\RelV p.2 q.2.2
theorem KT.val{H:Hp}{kvs:List (List Key×V)}{xs:List (List Key×zdJ×zdK)}(r:KT H kvs xs)(k:List Key):oK (c0 kvs k) ((atKey xs k).map (·.2)):=by
 induction r with
 |nil=>exact True.intro
 |@cons p q ps qs h t ih=>
  obtain⟨h1,_,h2⟩:=h;by_cases e:p.1=k
  ·have e':q.1=k:=h1.symm.trans e;have b:atKey (q::qs) k=some q.2:=by simp[atKey,zbo,e']
   rw[cT e,b];exact h2
  ·have e':¬q.1=k:=fun z=>e (h1.trans z);have b:atKey (q::qs) k=atKey qs k:=by simp[atKey,zbo,e']
   rw[cU e,b];exact ih
theorem KT.NO{H:Hp}{kvs:List (List Key×V)}{xs:List (List Key×zdJ×zdK)}(r:KT H kvs xs)(k:List Key){y:V}{u:zdK}(ry:RelV y u) :
 KT H (kvs.map fun kv=>if kv.1=k then (kv.1,y) else kv) (xs.map (putAt k u)):=by
 induction r with
 |nil=>exact .nil
 |@cons p q ps qs h t ih=>
  rw[zaq,zaq];refine .cons ?_ ih;obtain⟨h1,h2,h3⟩:=h;unfold putAt;by_cases e:p.1=k
  ·rw[if_pos e,if_pos (h1.symm.trans e)];exact⟨h1,h2,ry⟩
  ·rw[if_neg e,if_neg (fun z=>e (h1.trans z))];exact⟨h1,h2,h3⟩
theorem KT.put{H:Hp}{kvs:List (List Key×V)}{xs:List (List Key×zdJ×zdK)}(r:KT H kvs xs)(k:List Key){b:zdJ}{y:V}{u:zdK}(hb:H b=some (.tup (k.map kV)))(ry:RelV y u) :
 KT H (putK kvs k y) (storedH xs k b u):=by
 have e:(kvs.any fun kv=>decide (kv.1=k))=(atKey xs k).isSome:=by
  rw[mv,(r.val k).kC,zcT]
 unfold putK storedH;rw[e];by_cases q:(atKey xs k).isSome=true
 ·rw[if_pos q,if_pos q];exact r.NO k ry
 ·rw[if_neg q,if_neg q];exact Paired.snoc r ⟨rfl,hb,ry⟩
theorem KT.keeps{H H':Hp}{kvs:List (List Key×V)}{xs:List (List Key×zdJ×zdK)}(r:KT H kvs xs)(ht:∀b ys,H b=some (.tup ys)->H' b=some (.tup ys)):KT H' kvs xs:=
 Paired.Nf r fun _ _ z=>⟨z.1,ht _ _ z.2.1,z.2.2⟩
section
variable{P:zdV}{w:zdL}{H:Hp}{h:Heap}{a:zdJ}
theorem Me{u:HO}(ok:pB P w H h)(e:Rd H a u):ck P w H h a u:=e.ok ok
theorem rV{kvs:List (Key×V)}(ok:pB P w H h)(e:Rd H a (.dK kvs)):kvs.length<=zdR/\(a==sysModules)=false/\∃vs,KV kvs vs/\h.DictOf (bN P w) a vs:=
 show ck P w H h a (.dK kvs) from Me ok e
theorem xi{kvs:List (Key×V)}(ok:pB P w H h)(e:H a=some (.dK kvs)):kvs.length<=zdR/\(a==sysModules)=false/\∃vs,KV kvs vs/\h.DictOf (bN P w) a vs:=rV ok (.inl e)
theorem oP{ks:List Key}(ok:pB P w H h)(e:H a=some (.tup (ks.map kV))):(tupleKind (bN P w)).is h ks a:=by
 obtain⟨_,aY,r,o,h1,h2,n,h3⟩:=(show ck P w H h a (.tup (ks.map kV)) from ok a _ e)
 exact⟨o,aY.toArray,n,h1,h2,h3,by simpa using xh r⟩
theorem rW{kvs:List (List Key×V)}(ok:pB P w H h)(e:Rd H a (.dT kvs)):kvs.length<=zdR/\(a==sysModules)=false/\
 ∃xs,KT H kvs xs/\h.DictOfH (tupleKind (bN P w)) a xs:=by
 obtain⟨z,y,xs,r,o,es,ep,h1,h2,h3,h4,h5⟩:=(show ck P w H h a (.dT kvs) from Me ok e)
 refine⟨z,y,xs,r,o,es,ep,h1,h2,h3,h4,fun x hx=>?_,h5⟩;have all:∀ {l:List (List Key×V)} {m:List (List Key×zdJ×zdK)},KT H l m->∀x∈m,(tupleKind (bN P w)).is h x.1 x.2.1:=by
  intro l m q
  induction q with
  |nil=>intro x hx;exact nomatch hx
  |@cons p q ps qs hq t ih=>
   intro x hx;rcases zag.mp hx with e |hx
   ·subst e;exact oP ok (by rw[<- hq.1];exact hq.2.1)
   ·exact ih x hx
 exact all r x hx
theorem Q4{kvs:List (List Key×V)}(ok:pB P w H h)(e:H a=some (.dT kvs)):kvs.length<=zdR/\(a==sysModules)=false/\
 ∃xs,KT H kvs xs/\h.DictOfH (tupleKind (bN P w)) a xs:=rW ok (.inl e)
end
def eK (H:Hp) (a:zdJ) (y:V) (r:Option V):Prop:=
 (∃kvs k,Rd H a (.dK kvs)/\y=kV k/\r=c0 kvs k)\/∃kvs k b,Rd H a (.dT kvs)/\y=.ref b/\H b=some (.tup (k.map kV))/\r=c0 kvs k
def sO (H:Hp) (a:zdJ) (y v:V) (H':Hp):Prop:=
 (∃kvs k,H a=some (.dK kvs)/\y=kV k/\kvs.length<zdR/\H'=upd H a (.dK (putK kvs k v)))\/
 ∃kvs k b,H a=some (.dT kvs)/\y=.ref b/\H b=some (.tup (k.map kV))/\kvs.length<zdR/\H'=upd H a (.dT (putK kvs k v))
theorem eK.k{H:Hp}{a:zdJ}{kvs:List (Key×V)}{k:Key}(e:H a=some (.dK kvs)):eK H a (kV k) (c0 kvs k):=.inl ⟨kvs,k,.inl e,rfl,rfl⟩
theorem sO.k{H:Hp}{a:zdJ}{kvs:List (Key×V)}{k:Key}{v:V}(e:H a=some (.dK kvs))(hl:kvs.length<zdR):sO H a (kV k) v (upd H a (.dK (putK kvs k v))):=.inl ⟨kvs,k,e,rfl,hl,rfl⟩
section
variable{X:Cx}{pins:List (zdJ×Obj)}{σ:St}{H:Hp}{s:zdT}{a:zdJ}{y v:V}{u r:zdK}{o:Option V}{A:zdU}{E:zdK->zdT->Prop}
theorem Inv.big(I:Inv X pins σ H s):sysModules<s.heap.objs.size:=by
 have h:zdQ<s.heap.objs.size:=(I.mod.glob.keeps I.bk).lt;exact zdF (by decide) h
theorem EO{Q:zdK->zdT->Prop}(hu:A.units+1<cLine)(I:Inv X pins σ H s)(g:eK H a y (some v))(ry:RelV y u)(h:∀w' s',Inv X pins σ H s'->RelV v w'->Q w' s') :
 wpAny (model X.prog X.w) A (getItem (.ref a) u) Q E s:=by
 rcases g with ⟨kvs,k,e,ey,l⟩ |⟨kvs,k,b,e,ey,eb,l⟩
 ·subst ey;obtain⟨z,hd,vs,rel,dd⟩:=rV I.cc e;obtain⟨w',hw,EI⟩:=oK.some_of (v:=v) (o:=valueAt vs k) (by rw[l];exact rel.val k);exact wpAny_getItem_of (nW ry) dd.mapOf hw (h w' _ (I.tok _) EI)
 ·subst ey;cases (show u=Value.ref b from ry);obtain⟨z,hd,xs,rel,dd⟩:=rW I.cc e;obtain⟨w',hw,EI⟩:=oK.some_of (v:=v) (o:=(atKey xs k).map (·.2)) (by rw[l];exact rel.val k);obtain⟨p,hp,BX⟩:=zaD.mp hw;refine wpAny_getItem_heap (tupleKind_room_in1 hu) (oP I.cc eb) dd hp ?_;rw[BX];exact h w' _ (I.tok _) EI
theorem Vl{Q:zdK->zdT->Prop}(hu:A.units+1<cLine)(I:Inv X pins σ H s)(g:eK H a y o)(ry:RelV y u)(h:∀s',Inv X pins σ H s'->Q (.bool o.isSome) s') :
 wpAny (model X.prog X.w) A (compareOp .In u (.ref a)) Q E s:=by
 rcases g with ⟨kvs,k,e,ey,l⟩ |⟨kvs,k,b,e,ey,eb,l⟩
 ·subst ey;obtain⟨z,hd,vs,rel,dd⟩:=rV I.cc e;refine wpAny_in_of (nW ry) hd dd.mapOf ?_;rw[<- (rel.val k).kC,<- l];exact h _ (I.tok _)
 ·subst ey;cases (show u=Value.ref b from ry);obtain⟨z,hd,xs,rel,dd⟩:=rW I.cc e;refine wpAny_in_heap (tupleKind_room_in1 hu) (oP I.cc eb) hd dd ?_;have q:=(rel.val k).kC;rw[zcT] at q;rw[<- q,<- l];exact h _ (I.tok _)
theorem Km{Q:zdK->zdT->Prop}(hu:A.units+1<cLine)(I:Inv X pins σ H s)(g:eK H a y o)(ry:RelV y u)(h:∀s',Inv X pins σ H s'->Q (.bool (!o.isSome)) s') :
 wpAny (model X.prog X.w) A (compareOp .NotIn u (.ref a)) Q E s:=by
 rcases g with ⟨kvs,k,e,ey,l⟩ |⟨kvs,k,b,e,ey,eb,l⟩
 ·subst ey;obtain⟨z,hd,vs,rel,dd⟩:=rV I.cc e;refine wpAny_notIn_of (nW ry) hd dd.mapOf ?_;rw[<- (rel.val k).kC,<- l];exact h _ (I.tok _)
 ·subst ey;cases (show u=Value.ref b from ry);obtain⟨z,hd,xs,rel,dd⟩:=rW I.cc e;refine wpAny_notIn_heap (tupleKind_room_in1 hu) (oP I.cc eb) hd dd ?_;have q:=(rel.val k).kC;rw[zcT] at q;rw[<- q,<- l];exact h _ (I.tok _)
theorem tG{h':Heap}{t':Nat}{ob:HO}(I:Inv X pins σ H s)(mu:Qr (H a))(hs:Heap.SameBut a s.heap h')(he:∃q,h'.get? a=some q)(new:ck X.prog X.w (upd H a ob) h' a ob) :
 Inv X pins σ (upd H a ob) {s with heap:=h',toks:=t' }:=
 I.write (x:=a) (e:=a) mu (.inl rfl) (fun b q hb z=>(hs.2 b hb).trans z) he new
theorem xV{P:zdV}{w:zdL}{H':Hp}{h':Heap}{kvs:List (Key×V)}{vs:List (Key×zdK)}(z:kvs.length<=zdR)(hd:(a==sysModules)=false)(rel:KV kvs vs)(dd:h'.DictOf (bN P w) a vs) :
 ck P w H' h' a (.dK kvs):=⟨z,hd,vs,rel,dd⟩
theorem ER{H':Hp}{Q:Unit->zdT->Prop}(hu:A.units+1<cLine)(I:Inv X pins σ H s)(g:sO H a y v H')(ry:RelV y u)(rv:RelV v r)(h:∀s',Inv X pins σ H' s'->Q () s') :
 wpAny (model X.prog X.w) A (setItem (.ref a) u r) Q E s:=by
 rcases g with ⟨kvs,k,e,ey,l,eH⟩ |⟨kvs,k,b,e,ey,eb,l,eH⟩
 ·subst ey eH;obtain⟨z,hd,vs,rel,dd⟩:=xi I.cc e;have hz:vs.length<=zdR:=by rw[<- rel.length];exact z
  have hl:(putK kvs k v).length<=zdR:=by have:=jV kvs k v;lia
  refine wpAny_setItem_pairs (hsz:=hz) (nW ry) dd fun h' NP hs=>h _ ?_;have he:∃q,h'.get? a=some q:=let ⟨q,_,_,hq,_⟩:=NP;⟨q,hq⟩;exact tG I (by rw[e];exact True.intro) hs he (xV hl hd (rel.put k rv) NP)
 ·subst ey eH;cases (show u=Value.ref b from ry);obtain⟨z,hd,xs,rel,dd⟩:=Q4 I.cc e;have hz:xs.length<=zdR:=by rw[<- Paired.length rel];exact z
  have hl:(putK kvs k v).length<=zdR:=by have:=jV kvs k v;lia
  refine wpAny_setItem_heap (hsz:=hz) (tupleKind_room_in1 hu) (oP I.cc eb) dd fun h' NP hs=>h _ ?_;obtain⟨q,es,ep,hq,h2,h3,h4,_,h5⟩:=NP;refine tG I (by rw[e];exact True.intro) hs ⟨q,hq⟩ ⟨hl,hd,_,(rel.put k eb rv).keeps fun c ys ec=>?_,q,es,ep,hq,h2,h3,h4,h5⟩;rw[aD (fY ec e (fun z=>nomatch z))];exact ec
end
def Q5 (i:Expr):Prop:=∀ov iv,subscripted i false ov iv=operate [ov,iv] (getItem ov iv)
theorem Kn{prog:zdV}{w:zdL}{A:zdU}{E:zdK->zdT->Prop}{s:zdT}{env:Env}{value slice:Expr}{pos:Pos}{T id:String}{Q:zdK->zdT->Prop}
 (hl:typeLookup (.type T) "__getitem__"=pure (some (.builtin id))) (hs:Q5 slice)
 (h:wpAny (model prog w) A (eval value env) (fun o s₁=>wpAny (model prog w) A (eval slice env) (fun i s₂=>s₂.TypeIs o T/\wpAny (model prog w) A (getItem o i) Q E s₂) E s₁) E s) :
 wpAny (model prog w) A (eval (.Subscript value slice pos) env) Q E s:=by
 refine Subscript_ (wpAny_mono h (fun o s₁ h₁=>wpAny_mono h₁ (fun i s₂ h₂=>?_) fun _ _ x=>x) fun _ _ x=>x);obtain⟨hT,h₂⟩:=h₂;unfold subscriptTail;refine zdM ?_;rw[getitemInPython_of_ne hT.not_modules];refine zdM (wpAny_specialOf hT hl ?_);have fin:wpAny (model prog w) A (subscripted slice false o i) (fun r s₃=>wpAny (model prog w) A (letTemporaryGo value o r >>= fun _=>pure r) Q E s₃) E s₂:=by
  rw[hs o i];exact wpAny_operating (wpAny_mono h₂ (fun r s₃ h₃=>zdM (wpAny_letTemporaryGo (zdN h₃))) fun _ _ x=>x)
 first
  |exact zdN (zdM fin)
  |exact zdM (zdN (zdM fin))
  |exact zdM fin
theorem Ae{X:Cx}{pins:List (zdJ×Obj)}{σ:St}{H:Hp}{s:zdT}{a:zdJ}{y:V}{o:Option V}(I:Inv X pins σ H s)(g:eK H a y o):s.TypeIs (.ref a) "dict":=by
 rcases g with ⟨kvs,k,e,_,_⟩ |⟨kvs,k,b,e,_,_,_⟩
 ·obtain⟨_,_,vs,_,dd⟩:=rV I.cc e;exact dd.typeIs
 ·obtain⟨_,_,xs,_,dd⟩:=rW I.cc e;exact dd.typeIs
def Mf (td ty:TE):TE:=fun σ H Q=>td σ H fun x H1=>ty σ H1 fun y H2=>∃a v,x=.ref a/\eK H2 a y (some v)/\Q v H2
def Q6 (ty td:TE):TE:=fun σ H Q=>ty σ H fun y H1=>td σ H1 fun x H2=>∃a o,x=.ref a/\eK H2 a y o/\Q (.bl o.isSome) H2
def xW (ty td:TE):TE:=fun σ H Q=>ty σ H fun y H1=>td σ H1 fun x H2=>∃a o,x=.ref a/\eK H2 a y o/\Q (.bl (!o.isSome)) H2
def Mg (td ty tv:TE):TS:=fun D σ H=>tv σ H fun v H1=>td σ H1 fun x H2=>ty σ H2 fun y H3=>∃a H4,x=.ref a/\sO H3 a y v H4/\D.nx σ H4
section
variable{X:Cx}{o i e value:Expr}{pos pos' UO:Pos}{td ty tv:TE}
theorem dc(hu:X.A.units+1<cLine)(ho:PE X o td)(hi:PE X i ty)(hs:Q5 i):PE X (.Subscript o i pos) (Mf td ty):=by
 intro pins s σ H Q I h;refine Kn PySem.F.slot_dict_getitem.lookup hs (cS (ho pins s σ H _ I h) fun u s1 zqz=>?_);obtain⟨x,H1,I1,rx,q1⟩:=zqz;refine cS (hi pins s1 σ H1 _ I1 q1) fun iv s2 zqz=>?_;obtain⟨y,H2,I2,ry,a,v,ex,g,q2⟩:=zqz;subst ex;obtain rfl:u=Value.ref a:=rx;exact⟨Ae I2 g,EO hu I2 g ry fun w' s3 I3 EI=>⟨v,H2,I3,EI,q2⟩⟩
theorem NQ(hu:X.A.units+1<cLine)(hi:PE X i ty)(ho:PE X o td):PC X .In i o (Q6 ty td):=by
 intro pins s σ H Q I h;refine cS (hi pins s σ H _ I h) fun iv s1 zqz=>?_;obtain⟨y,H1,I1,ry,q1⟩:=zqz;refine cS (ho pins s1 σ H1 _ I1 q1) fun u s2 zqz=>?_;obtain⟨x,H2,I2,rx,a,ov,ex,g,q2⟩:=zqz;subst ex;obtain rfl:u=Value.ref a:=rx;exact Vl hu I2 g ry fun s3 I3=>⟨.bl ov.isSome,H2,I3,rfl,q2⟩
theorem xj(hu:X.A.units+1<cLine)(hi:PE X i ty)(ho:PE X o td):PC X .NotIn i o (xW ty td):=by
 intro pins s σ H Q I h;refine cS (hi pins s σ H _ I h) fun iv s1 zqz=>?_;obtain⟨y,H1,I1,ry,q1⟩:=zqz;refine cS (ho pins s1 σ H1 _ I1 q1) fun u s2 zqz=>?_;obtain⟨x,H2,I2,rx,a,ov,ex,g,q2⟩:=zqz;subst ex;obtain rfl:u=Value.ref a:=rx;exact Km hu I2 g ry fun s3 I3=>⟨.bl (!ov.isSome),H2,I3,rfl,q2⟩
theorem nu(hu:X.A.units+1<cLine)(ho:PE X o td)(hi:PE X i ty)(hv:PE X value tv)(hs:swapsWith value (some (.Subscript o i pos')) pos.line X.env=pure false) :
 PS X (.Assign [.Subscript o i pos'] value pos) (Mg td ty tv):=by
 intro pins s σ H D I h;refine wpAny_Assign_Subscript (cS (hv pins s σ H _ I h) fun r s1 zqz=>?_) hs;obtain⟨v,H1,I1,rv,q1⟩:=zqz;refine cS (ho pins s1 σ H1 _ I1 q1) fun u s2 zqz=>?_;obtain⟨x,H2,I2,rx,q2⟩:=zqz;refine cS (hi pins s2 σ H2 _ I2 q2) fun iv s3 zqz=>?_;obtain⟨y,H3,I3,ry,a,H4,ex,g,q3⟩:=zqz;subst ex;obtain rfl:u=Value.ref a:=rx;exact ER hu I3 g ry rv fun s4 I4=>⟨σ,H4,I4,q3⟩
end
theorem Gx{P:zdV}{w:zdL}{H:Hp}(h:Heap)(hb:sysModules<h.objs.size):ck P w H (h.push {cls:=.type "dict",data:=.dict #[]}) h.objs.size (.dK []):=
 ⟨zaI _,beq_eq_false_iff_ne.mpr (Ne.symm (zat hb)),[],.nil,Heap.DictOf.new h⟩
def oQ:List (TE×TE)->St->Hp->(List (V×V)->Hp->Prop)->Prop
 |[],_,H,Q=>Q [] H
 |(tk,tv)::r,σ,H,Q=>tk σ H fun x H1=>tv σ H1 fun y H2=>oQ r σ H2 fun ps H3=>Q ((x,y)::ps) H3
abbrev VV:List (V×V)->List (zdK×zdK)->Prop:=Paired fun p q=>RelV p.1 q.1/\RelV p.2 q.2
def TB (X:Cx) (pos:Pos) (keys:List (Option Expr)) (values:List Expr) (Ko:List (TE×TE)):Prop:=
 ∀(pins:List (zdJ×Obj)) (s:zdT) (σ:St) (H:Hp) (Q:List (V×V)->Hp->Prop),Inv X pins σ H s->oQ Ko σ H Q->
  wpAny (model X.prog X.w) X.A (evalPairs (pairTrees keys values X.env pos)) (fun vs s'=>∃ps H',Inv X pins σ H' s'/\VV ps vs/\Q ps H') X.xe s
theorem Ds{X:Cx}{pos:Pos}:TB X pos [] [] []:=fun pins s σ H Q I h=>pairTrees_nil_walk ⟨[],H,I,.nil,h⟩
theorem Af{X:Cx}{pos:Pos}{k v:Expr}{ks:List (Option Expr)}{vs:List Expr}{tk tv:TE}{Ko:List (TE×TE)}(hk:PE X k tk)(hv:PE X v tv)(hr:TB X pos ks vs Ko) :
 TB X pos (some k::ks) (v::vs) ((tk,tv)::Ko):=fun pins s σ H Q I h=>
 pairTrees_cons_walk (cS (hk pins s σ H _ I h) fun u s1 ⟨x,H1,I1,rx,q1⟩=>cS (hv pins s1 σ H1 _ I1 q1) fun w2 s2 ⟨y,H2,I2,ry,q2⟩=>
  cS (hr pins s2 σ H2 _ I2 q2) fun ws s3 ⟨ps,H3,I3,rel,q3⟩=>⟨(x,y)::ps,H3,I3,.cons ⟨rx,ry⟩ rel,q3⟩)
def hJ (kvs more:List (Key×V)):List (Key×V):=more.foldl (fun acc kv=>putK acc kv.1 kv.2) kvs
theorem KV.merge:∀ {more:List (Key×V)} {rs:List (Key×zdK)} {kvs:List (Key×V)} {vs:List (Key×zdK)},KV more rs->KV kvs vs->KV (hJ kvs more) (merged vs rs):=by
 intro more rs kvs vs r;unfold KV at r
 induction r generalizing kvs vs with
 |nil=>intro q;exact q
 |@cons p q ps qs h t ih=>
  intro r0;have e:KV (putK kvs p.1 p.2) (stored vs q.1 q.2):=by
   have:=r0.put p.1 h.2;rw[<- h.1];exact this
  exact ih e
theorem iw:∀(more kvs:List (Key×V)),(hJ kvs more).length<=kvs.length+more.length
 |[],kvs=>by show kvs.length<=kvs.length+0;lia
 |p::r,kvs=>by
  have h1:=iw r (putK kvs p.1 p.2);have h2:=jV kvs p.1 p.2;show (hJ (putK kvs p.1 p.2) r).length<=_;rw[zai];lia
theorem uv{P:zdV}{w:zdL}:∀ {kvs:List (Key×V)} {ws:List (zdK×zdK)},VV (kvs.map fun kv=>(kV kv.1,kv.2)) ws->∃rs,Carries (bN P w) ws rs/\KV kvs rs
 |[],_,r=>by rw[zbr] at r;cases r;exact⟨[],True.intro,.nil⟩
 |p::kvs,_,r=>by
  rw[zaq] at r;cases r with
  |@cons a b as bs h t=>
   obtain⟨rs,c,q⟩:=uv (P:=P) (w:=w) t;obtain⟨b1,b2⟩:=b;exact⟨(p.1,b2)::rs,⟨nW h.1,rfl,c⟩,.cons ⟨rfl,h.2⟩ q⟩
def Gy (Ko:List (TE×TE)):TE:=fun σ H Q=>∀p,H p=none->oQ Ko σ (upd H p (.dK [])) fun ps H2=>H2 p=some (.dK [])/\∃kvs:List (Key×V),ps=kvs.map (fun kv=>(kV kv.1,kv.2))/\kvs.length<=15/\Q (.ref p) (upd H2 p (.dK (hJ [] kvs)))
theorem Dt{X:Cx}{pos:Pos}{keys:List (Option Expr)}{values:List Expr}{Ko:List (TE×TE)}(h:TB X pos keys values Ko)(NK:keys.all (·.isSome)=true)(hl:keys.length=values.length)(h0:keys≠[])
 (Vm:keys.length<=15):PE X (.Dict keys values pos) (Gy Ko):=by
 intro pins s σ H Q I q;have hn:=I.cc.fresh (zaj s.heap.objs.size);have I1:=I.laid (a:=s.heap.objs.size) (o:=.dK []) (h':=s.heap.push {cls:=.type "dict",data:=.dict #[]}) (t':=s.toks) (fun _ _ q=>Heap.get?_push_of_some _ q) (zaj _) (Gx s.heap I.big);refine wpAny_Dict_walk (knd:=bN X.prog X.w) NK hl h0 Vm (cS (h pins _ σ _ _ I1 (q _ hn)) fun ws s2 zqz=>?_);obtain⟨ps,H2,I2,rel,e,kvs,ep,lk,q2⟩:=zqz;subst ep;obtain⟨rs,c,rk⟩:=uv (P:=X.prog) (w:=X.w) rel;obtain⟨z,hd,vs0,r0,dd⟩:=xi I2.cc e;cases r0;refine⟨rs,c,dd,fun h' NP hs=>⟨.ref s.heap.objs.size,_,?_,rfl,q2⟩⟩;have hz:(hJ [] kvs).length<=zdR:=by
  have h1:=iw kvs [];rw[zaz] at h1;rw[sizeLine_eq];lia
 have he:∃q,h'.get? s.heap.objs.size=some q:=let ⟨q,_,_,hq,_⟩:=NP;⟨q,hq⟩;exact tG I2 (by rw[e];exact True.intro) hs he (xV hz hd (rk.merge .nil) NP)
structure M1(X:Cx)(o:Expr)(m:Str)(apos:Pos)(e:Expr)(hG:Pos):Prop where
 base:attributeBase o m X.env (eval o X.env)=eval o X.env
 gc:((backTo hG (zdP [e] X.env)).all (fun x=>!x.1)&&(backToKw hG (keywordEach [] X.env)).all (fun x=>x.1.isSome)
  && decide (([e]:List Expr).length+([]:List Keyword).length+(if ([]:List Keyword).isEmpty then 0 else 1)<30))=true
 line:(apos.endLine==hG.line)=true
 trees:backTo hG (zdP [e] X.env)=[(false,eval e X.env)]
structure M2(X:Cx)(o:Expr)(m:Str)(apos:Pos)(e f:Expr)(hG:Pos):Prop where
 base:attributeBase o m X.env (eval o X.env)=eval o X.env
 gc:((backTo hG (zdP [e,f] X.env)).all (fun x=>!x.1)&&(backToKw hG (keywordEach [] X.env)).all (fun x=>x.1.isSome)
  && decide (([e,f]:List Expr).length+([]:List Keyword).length+(if ([]:List Keyword).isEmpty then 0 else 1)<30))=true
 line:(apos.endLine==hG.line)=true
 trees:backTo hG (zdP [e,f] X.env)=[(false,eval e X.env),(false,eval f X.env)]
def Vn (H:Hp) (a:zdJ):Prop:=(∃kvs,Rd H a (.dK kvs))\/∃kvs,Rd H a (.dT kvs)
theorem Gz{X:Cx}{pins:List (zdJ×Obj)}{σ:St}{H:Hp}{s:zdT}{a:zdJ}(I:Inv X pins σ H s)(d:Vn H a) :
 s.TypeIs (.ref a) "dict"/\(∀b,Value.ref a=.ref b->∃ob,s.heap.get? b=some ob/\ob.dict=none)/\(a==sysModules)=false:=by
 rcases d with ⟨kvs,e⟩ |⟨kvs,e⟩
 ·obtain⟨_,hd,vs,_,dd⟩:=rV I.cc e;refine⟨dd.typeIs,fun b q=>?_,hd⟩;cases q;obtain⟨ob,_,_,h1,h2,_⟩:=dd;exact⟨ob,h1,h2.2.1⟩
 ·obtain⟨_,hd,xs,_,dd⟩:=rW I.cc e;refine⟨dd.typeIs,fun b q=>?_,hd⟩;cases q;obtain⟨ob,_,_,h1,h2,_⟩:=dd;exact⟨ob,h1,h2.2.1⟩
section
variable{X:Cx}{pins:List (zdJ×Obj)}{σ:St}{H:Hp}{s:zdT}{a:zdJ}{y d:V}{u r:zdK}{o:Option V}{A:zdU}{E:zdK->zdT->Prop}
theorem NR{Q:zdK->zdT->Prop}(hu:A.units+1<cLine)(I:Inv X pins σ H s)(g:eK H a y o)(ry:RelV y u)(h:∀w' s',Inv X pins σ H s'->RelV (o.getD .bI) w'->Q w' s') :
 wpAny (model X.prog X.w) A (call (.builtin "dict.get") [.ref a,u]) Q E s:=by
 rcases g with ⟨kvs,k,e,ey,l⟩ |⟨kvs,k,b,e,ey,eb,l⟩
 ·subst ey;obtain⟨z,hd,vs,rel,dd⟩:=rV I.cc e;refine call_meetsIn zbx dd.typeIs zbZ (zc9 _ _) (meets_dict_get (bN X.prog X.w) a (nW ry) hd) ⟨_,dd.mapOf,h _ _ (I.tok _) ?_⟩;rw[l];exact(rel.val k).getD rfl
 ·subst ey;cases (show u=Value.ref b from ry);obtain⟨z,hd,xs,rel,dd⟩:=rW I.cc e;refine call_meetsIn zbx dd.typeIs zbZ (zc9 _ _) (meetsH_dict_get (tupleKind (bN X.prog X.w)) a b hd) ⟨tupleKind_room_in1 hu,k,xs,oP I.cc eb,dd,h _ _ (I.tok _) ?_⟩;rw[l];exact(rel.val k).getD rfl
theorem NS{Q:zdK->zdT->Prop}(hu:A.units+1<cLine)(I:Inv X pins σ H s)(g:eK H a y o)(ry:RelV y u)(rd:RelV d r)(h:∀w' s',Inv X pins σ H s'->RelV (o.getD d) w'->Q w' s') :
 wpAny (model X.prog X.w) A (call (.builtin "dict.get") [.ref a,u,r]) Q E s:=by
 rcases g with ⟨kvs,k,e,ey,l⟩ |⟨kvs,k,b,e,ey,eb,l⟩
 ·subst ey;obtain⟨z,hd,vs,rel,dd⟩:=rV I.cc e;refine call_meetsIn zbx dd.typeIs zbZ (zda _ _ _) (meets_dict_get_default (bN X.prog X.w) a (nW ry) hd r) ⟨_,dd.mapOf,h _ _ (I.tok _) ?_⟩;rw[l];exact(rel.val k).getD rd
 ·subst ey;cases (show u=Value.ref b from ry);obtain⟨z,hd,xs,rel,dd⟩:=rW I.cc e;refine call_meetsIn zbx dd.typeIs zbZ (zda _ _ _) (meetsH_dict_get_default (tupleKind (bN X.prog X.w)) a b hd r) ⟨tupleKind_room_in1 hu,k,xs,oP I.cc eb,dd,h _ _ (I.tok _) ?_⟩;rw[l];exact(rel.val k).getD rd
end
def GA (td ty:TE):TE:=fun σ H Q=>td σ H fun x H1=>∃a,x=.ref a/\Vn H1 a/\ty σ H1 fun y H2=>∃o,eK H2 a y o/\Q (o.getD .bI) H2
def GB (td ty tx:TE):TE:=fun σ H Q=>td σ H fun x H1=>∃a,x=.ref a/\Vn H1 a/\ty σ H1 fun y H2=>tx σ H2 fun z H3=>∃o,eK H3 a y o/\Q (o.getD z) H3
section
variable{X:Cx}{o e f:Expr}{apos hG:Pos}{td ty tx:TE}
theorem GC(hu:X.A.units+1<cLine)(ho:PE X o td)(he:PE X e ty)(m:M1 X o "get" apos e hG):PE X (.Call (.Attribute o "get" apos) [e] [] hG) (GA td ty):=by
 intro pins s σ H Q I h;refine wpAny_Call_method m.base m.gc m.line zcl zbx zdr (cS (ho pins s σ H _ I h) fun u s1 zqz=>?_);obtain⟨x,H1,I1,rx,a,ex,d,q1⟩:=zqz;subst ex;obtain rfl:u=Value.ref a:=rx;obtain⟨t1,t2,_⟩:=Gz I1 d;refine⟨t1,t2,?_⟩;rw[m.trees];refine Calls.callWith_builtin rfl (Calls.evalArgs_plain (Calls.spliced_cons (cS (he pins s1 σ H1 _ I1 q1) fun iv s2 ⟨y,H2,I2,ry,ov,g,q2⟩=>Calls.spliced_nil ?_)));exact NR hu I2 g ry fun w' s3 I3 EI=>⟨_,H2,I3,EI,q2⟩
theorem GD(hu:X.A.units+1<cLine)(ho:PE X o td)(he:PE X e ty)(hf:PE X f tx)(m:M2 X o "get" apos e f hG):PE X (.Call (.Attribute o "get" apos) [e,f] [] hG) (GB td ty tx):=by
 intro pins s σ H Q I h;refine wpAny_Call_method m.base m.gc m.line zcl zbx zdr (cS (ho pins s σ H _ I h) fun u s1 zqz=>?_);obtain⟨x,H1,I1,rx,a,ex,d,q1⟩:=zqz;subst ex;obtain rfl:u=Value.ref a:=rx;obtain⟨t1,t2,_⟩:=Gz I1 d;refine⟨t1,t2,?_⟩;rw[m.trees];refine Calls.callWith_builtin rfl (Calls.evalArgs_plain (Calls.spliced_cons (cS (he pins s1 σ H1 _ I1 q1) fun iv s2 ⟨y,H2,I2,ry,q2⟩=>Calls.spliced_cons (cS (hf pins s2 σ H2 _ I2 q2) fun fv s3 ⟨z,H3,I3,rz,ov,g,q3⟩=>Calls.spliced_nil ?_))));exact NS hu I3 g ry rz fun w' s4 I4 EI=>⟨_,H3,I4,EI,q3⟩
end
def qN (env:Env):List (Str×NameKind)->List (Str×zdJ)->List (Str×zdJ)
 |[],cs=>cs
 |(n,k)::r,cs=>qN env r (if k==.free then (n,(env.cells.lookup n).getD 0)::cs else cs)
theorem sP{scope:Scope}{env:Env}(h:∀p∈scope.names,p.2=.free->∃c,env.cells.lookup p.1=some c):closureFor scope env=pure (qN env scope.names []):=by
 have all:∀(l:List (Str×NameKind)) (cs:List (Str×zdJ)),(∀p∈l,p.2=.free->∃c,env.cells.lookup p.1=some c)->
  (forIn l cs fun (x:Str×NameKind) (r:List (Str×zdJ))=>if (x.2==NameKind.free)=true then do let a <- cellOf env x.1;pure (ForInStep.yield ((x.1,a)::r)) else (pure (ForInStep.yield r):Sem _))=pure (qN env l cs):=by
  intro l
  induction l with
  |nil=>intro cs _;rfl
  |cons p r ih=>
   intro cs hp;obtain⟨n,k⟩:=p;rw[zbM];by_cases hk:k=.free
   ·subst hk;obtain⟨c,e⟩:=hp (n,.free) zaB rfl;have e1:cellOf env n=pure c:=by unfold cellOf;rw[e]
    simp only[beq_self_eq_true,if_true,e1,pure_bind];rw[ih _ fun p PJ=>hp p (zae _ PJ)];simp[qN,e]
   ·have hb:(k==NameKind.free)=false:=by simpa using hk
    simp only[hb,zaF,if_false,pure_bind];rw[ih _ fun p PJ=>hp p (zae _ PJ)];simp[qN,hb]
 simp only[closureFor];rw[all scope.names [] h];simp
theorem pL{env:Env}{x:Str}{c:zdJ}:∀ {l:List (Str×NameKind)} {cs:List (Str×zdJ)},(∀p∈l,p.2=.free->∃c,env.cells.lookup p.1=some c)->(∀x c,cs.lookup x=some c->env.cells.lookup x=some c)->
 (qN env l cs).lookup x=some c->env.cells.lookup x=some c
 |[],_,_,h,e=>h x c e
 |(n,k)::r,cs,hp,h,e=>by
  unfold qN at e;refine pL (fun p q=>hp p (zae _ q)) ?_ e;intro y d q;by_cases hk:k=.free
  ·subst hk;obtain⟨c',e'⟩:=hp (n,.free) zaB rfl;simp only[beq_self_eq_true,if_true] at q;rw[zbl] at q;cases hy:y==n with
   |true=>
    rw[hy] at q;have:y=n:=by simpa using hy
    subst this;simp only at e';rw[e'] at q ⊢;exact q
   |false=>rw[hy] at q;exact h y d q
  ·have hb:(k==NameKind.free)=false:=by simpa using hk
   simp only[hb,zaF,if_false] at q;exact h y d q
theorem uw{env:Env}{x:Str}:∀ {l:List (Str×NameKind)} {cs:List (Str×zdJ)},((∃c,cs.lookup x=some c)\/(x,NameKind.free)∈l)->∃c,(qN env l cs).lookup x=some c
 |[],_,h=>by
  rcases h with h |h
  ·exact h
  ·exact absurd h (by simp)
 |(n,k)::r,cs,h=>by
  unfold qN
  apply uw
  rcases h with ⟨c,h⟩ |h
  ·left
   by_cases hk:k=.free
   ·subst hk;simp only[beq_self_eq_true,if_true];rw[zbl];cases hy:x==n with
    |true=>exact⟨_,rfl⟩
    |false=>exact⟨c,h⟩
   ·have hb:(k==NameKind.free)=false:=by simpa using hk
    simp only[hb,zaF,if_false];exact⟨c,h⟩
  ·rcases zag.mp h with e |h
   ·injection e with e1 e2
    subst e1;subst e2
    left
    simp only[beq_self_eq_true,if_true];rw[zbl];simp
   ·exact .inr h
theorem mw{scope:Scope}{env:Env}{x:Str}:(relabel scope env).names.lookup x=(scope.names.lookup x).map fun k=>if (k==NameKind.free&&env.scope.kind==.function&&env.kindOf x==some .cell)=true then .cell else k:=by
 unfold relabel;show zbQ x (scope.names.map _)=_;generalize scope.names=l
 induction l with
 |nil=>rfl
 |cons p r ih=>
  obtain⟨n,k⟩:=p;rw[zaq,zbl (as:=r)];show zbQ x ((if (k==NameKind.free&&env.scope.kind==.function&&env.kindOf n==some .cell)=true then (n,NameKind.cell) else (n,k))::_)=_;cases hx:x==n with
  |true=>
   have e:x=n:=by simpa using hx
   subst e;by_cases hc:(k==NameKind.free&&env.scope.kind==.function&&env.kindOf x==some .cell)=true
   ·rw[if_pos hc];simp only[zbl,beq_self_eq_true,zaV];rw[if_pos hc]
   ·rw[if_neg hc];simp only[zbl,beq_self_eq_true,zaV];rw[if_neg hc]
  |false=>
   by_cases hc:(k==NameKind.free&&env.scope.kind==.function&&env.kindOf n==some .cell)=true
   ·rw[if_pos hc];simp only[zbl,hx];exact ih
   ·rw[if_neg hc];simp only[zbl,hx];exact ih
theorem mem_of_lookup{x:Str}{k:NameKind}:∀ {l:List (Str×NameKind)},l.lookup x=some k->(x,k)∈l
 |[],h=>by simp at h
 |(n,j)::r,h=>by
  rw[zbl] at h;cases hx:x==n with
  |true=>
   rw[hx] at h;have e:x=n:=by simpa using hx
   cases h;subst e;exact zaB
  |false=>rw[hx] at h;exact zae _ (mem_of_lookup h)
def jd (sc out:Scope):Bool:=
 (sc.names.all fun p=>p.2 != .cell&&(p.2 != .free ||out.names.lookup p.1==some .cell ||out.names.lookup p.1==some .free)&&(p.2 != .local ||sc.names.lookup p.1==some .local))&&decide (sc.kind=.function)
def tH (sc out:Scope) (N:List Str) (ix:List Nat):Bool:=
 ix.all fun i=>sc.names.lookup (N.getD i "")==some .free&&(out.names.lookup (N.getD i "")==some .cell ||out.names.lookup (N.getD i "")==some .free)
def GF (σ:St) (ix:List Nat):St:=ix.map fun i=>σ.getD i none
abbrev Du (N:List Str) (ix:List Nat):List Str:=ix.map fun i=>N.getD i ""
def jy (X:Cx) (scope:Scope) (own:List Str) (ix:List Nat) (C:zdJ) (s₀:zdT) (H₀:Hp) (ex:List zdJ):Cx where
 prog:=X.prog
 w:=X.w
 K:=X.K
 mg:=X.mg
 base:=X.base
 A:=X.A
 N:=own++Du X.N ix
 s₀:=s₀
 H₀:=H₀
 env:=compEnvC scope (qN X.env scope.names []) C X.env
 outer:=X.stack
 stack:=X.stack
 ex:=ex
 fn:=fun _=>false
 calm:=X.calm
 pn:=[]
 xe:=fun _ _=>False
section
variable{X:Cx}{pins:List (zdJ×Obj)}{σ:St}{H:Hp}{s:zdT}
theorem mx{sc out:Scope}(h:jd sc out=true):∀p∈sc.names,p.2≠.cell/\(p.2=.free->out.names.lookup p.1=some .cell\/out.names.lookup p.1=some .free)/\(p.2=.local->sc.names.lookup p.1=some .local):=by
 intro p hp;unfold jd at h;rw[za5] at h;have:=zbK.mp h.1 p hp;simp only[za5,Bool.or_eq_true,bne_iff_ne,beq_iff_eq,ne_eq] at this;obtain⟨⟨h1,h2⟩,h3⟩:=this;refine⟨h1,fun e=>?_,fun e=>?_⟩
 ·rcases h2 with (h2 |h2) |h2
  ·exact absurd e h2
  ·exact .inl h2
  ·exact .inr h2
 ·rcases h3 with h3 |h3
  ·exact absurd e h3
  ·exact h3
theorem kY{sc out:Scope}(h:jd sc out=true):sc.kind=.function:=by
 unfold jd at h;rw[za5] at h;exact of_decide_eq_true h.2
theorem Kp{scope:Scope}{own:List Str}{ix:List Nat}{ex:List zdJ}(I:Inv X pins σ H s)(hf:jd scope X.env.scope=true)(hx:∀b∈ex,pE X pins H b/\b<s.heap.objs.size):(jy X scope own ix s.heap.objs.size s H ex).Ok:=by
 have fits:=(mx hf)
 have ml:∀p∈scope.names,p.2=.free->∃c,X.env.cells.lookup p.1=some c:=fun p hp e=>I.ok.has p.1 ((fits p hp).2.1 e);have sub:∀ {x:Str} {c:zdJ},(qN X.env scope.names []).lookup x=some c->X.env.cells.lookup x=some c:=fun {x c} e=>pL ml (fun x c e=>by simp at e) e;refine⟨I.ok.mod,(show scope.kind=.function from kY hf),I.ok.glob,I.ok.blt,zaj _,fun x y c a b=>I.ok.inj x y c (sub a) (sub b),fun x hk=>?_,fun x c e=>(by cases e),I.ok.hd,I.ok.frames,.inl rfl,fun b hb=>⟨zat (hx b hb).2,fun x c e=>(hx b hb).1.2.2.2.2.1 x c (sub e)⟩,I.bs,zax I.ok.JY I.sz,fun b o e hb=>?_,fun b hb hs=>?_,I.stack,I.C9⟩
 ·refine uw (.inr ?_);have PK:(relabel scope X.env).names.lookup x=some .cell\/(relabel scope X.env).names.lookup x=some .free:=hk;rw[mw] at PK;cases q:scope.names.lookup x with
  |none=>rw[q] at PK;rcases PK with z |z<;>cases z
  |some k=>
   have hm:=mem_of_lookup q;by_cases Vo:k=.free
   ·subst Vo;exact hm
   ·rw[q] at PK;have hb:(k==NameKind.free)=false:=by simpa using Vo
    simp only[zaV,hb,zdm,zaF,if_false,zaH.injEq] at PK;rcases PK with z |z
    ·exact absurd z (fits _ hm).1
    ·exact absurd z Vo
 ·rcases(hx b hb).1.2.2.2.1 with z |z
  ·exact I.ok.F9 b o e z
  ·exact absurd (zay (Heap.lt_size e) (zax I.ok.JY z)) (za1 _)
 ·rcases zag.mp (I.xK b hs) with z |z
  ·exact(hx b hb).1.2.1 z
  ·exact(hx b hb).1.2.2.1 z
theorem GG{scope:Scope}{own:List Str}{ix:List Nat}{ex:List zdJ}{h':Heap}{tk:Nat}(I:Inv X pins σ H s)(hf:jd scope X.env.scope=true)(hc:tH scope X.env.scope X.N ix=true)(hx:∀b∈ex,pE X pins H b/\b<s.heap.objs.size)
 (hn:h'.Ns s.heap.objs.size fun _=>none) (hk:∀b o,s.heap.get? b=some o->h'.get? b=some o):Inv (jy X scope own ix s.heap.objs.size s H ex) [] (zcM own.length none++GF σ ix) H {s with heap:=h',toks:=tk}:=by
 have fits:=(mx hf)
 have ml:∀p∈scope.names,p.2=.free->∃c,X.env.cells.lookup p.1=some c:=fun p hp e=>I.ok.has p.1 ((fits p hp).2.1 e);have sub:∀ {x:Str} {c:zdJ},(qN X.env scope.names []).lookup x=some c->X.env.cells.lookup x=some c:=fun {x c} e=>pL ml (fun x c e=>by simp at e) e;refine⟨Kp I hf hx,rfl,I.bare,Un.kept hk,⟨_,hn,fun i x v e1 e2 e3=>?_⟩,fun x c e=>?_,I.cc.fresh (zaj _),fun x c e=>I.lQ x c (sub e),fun p hp=>absurd (show p∈([]:List (zdJ×Obj))++[] from hp) (by simp),I.cc.kept hk,?_⟩
 ·have e1:(own++Du X.N ix)[i]?=some x:=e1;by_cases hi:i<own.length
  ·rw[zcZ (by simpa using hi),zc7,if_pos hi] at e2;cases e2
  ·have Q7:own.length<=i:=Nat.le_of_not_lt hi;rw[zb9 (by simpa using Q7),zdn] at e2;rw[zb9 Q7] at e1;unfold GF at e2;unfold Du at e1;rw[zal] at e1 e2;cases q:ix[i-own.length]? with
   |none=>rw[q] at e2;cases e2
   |some j=>
    rw[q] at e1 e2;simp only[zaV,zaH.injEq] at e1 e2;have hj:j∈ix:=zav q;have fit:=zbK.mp hc j hj;simp only[za5,Bool.or_eq_true,beq_iff_eq] at fit;rw[e1] at fit;have ej:σ[j]?=some (some v):=by
     rw[zaf] at e2;cases r:σ[j]? with
     |none=>rw[r] at e2;cases e2
     |some z=>rw[r] at e2;simp only[zcp] at e2;rw[e2]
    have hjl:j<X.N.length:=by rw[<- I.len];exact(zah.mp ej).1
    have en:X.N[j]?=some x:=by
     rw[zaf] at e1;rw[zaa hjl] at e1 ⊢;simp only[zcp] at e1;rw[e1]
    obtain⟨m,hm,hl⟩:=I.loc;have hv:Tj X.env.scope x:=by
     rcases fit.2 with z |z
     ·exact .inr (.inl z)
     ·exact .inr (.inr z)
    obtain⟨u,r,l⟩:=hl j x v en ej hv;refine⟨u,r,.inr ⟨?_,?_⟩⟩
    ·show (relabel scope X.env).names.lookup x=some .cell\/(relabel scope X.env).names.lookup x=some .free;rw[mw,fit.1];simp only[zaV];split
     ·exact .inl rfl
     ·exact .inr rfl
    ·rcases l with ⟨k1,_⟩ |⟨_,c,ec,wO⟩
     ·have k1:X.env.scope.names.lookup x=some .local:=k1;rcases fit.2 with z |z<;>(rw[z] at k1;cases k1)
     ·obtain⟨c',e'⟩:∃c,(qN X.env scope.names []).lookup x=some c:=uw (.inr (mem_of_lookup fit.1));have:=sub e';rw[ec] at this;cases this;exact⟨c,e',wO.keeps hk⟩
 ·obtain⟨v,z⟩:=I.cell x c (sub e);exact⟨v,z.keeps hk⟩
 ·show (zcM own.length none++GF σ ix).length=(own++Du X.N ix).length;simp[GF]
theorem comp_back{scope:Scope}{own:List Str}{ix:List Nat}{ex:List zdJ}{τ:St}{H':Hp}{s':zdT}{Dd:List (zdJ×Obj)}(I:Inv X pins σ H s)(hx:∀b∈ex,pE X pins H b/\b<s.heap.objs.size)
 (I':Inv (jy X scope own ix s.heap.objs.size s H ex) Dd τ H' s'):Inv X pins σ H' s'/\H' s.heap.objs.size=none/\s.heap.objs.size≠X.env.locals/\X.s₀.heap.objs.size<=s.heap.objs.size/\(∀x c,X.env.cells.lookup x=some c->c≠s.heap.objs.size)/\∀p∈X.pn++pins,p.1≠s.heap.objs.size:=by
 refine⟨I.QA (ch:=ex) I'.os I'.base I'.cc I'.bare fun b hb=>?_,I'.free,za2 I.lt,I.sz,fun x c e z=>?_,fun p hp z=>?_⟩
 ·obtain⟨f0,f1,f2,f3,f4,f5⟩:=(hx b hb).1;exact⟨f3,f1,f4,f5⟩
 ·obtain⟨v,q⟩:=I.cell x c e;exact absurd q.lt (by rw[z];exact za1 _)
 ·exact absurd (Heap.lt_size (I.pin p hp).1) (by rw[z];exact za1 _)
end
def Q8 (X:Cx) (ifs:List Expr) (t:TT):Prop:=
 ∀(pins:List (zdJ×Obj)) (s:zdT) (σ:St) (H:Hp) (Q:Bool->Hp->Prop),Inv X pins σ H s->t σ H Q->
  wpAny (model X.prog X.w) X.A (forIn ifs true fun c r=>if r=true then do let ok <- isTrue c X.env (eval c X.env);pure (ForInStep.yield ok) else pure (ForInStep.yield r)) (TP X pins σ Q) X.xe s
def oR:TT:=fun _ H Q=>Q true H
theorem cZ{X:Cx}:Q8 X [] oR:=fun _ _ _ H _ I h=>wpAny_tests_nil ⟨H,I,h⟩
def jW (J:It) (D:zdJ) (g:TG) (tc:TT) (te:TE) (Q:VK) (τ:St) (H:Hp):Prop:=∃W:Nat->Nat->St->Hp->Prop,(∃m,W 0 m τ H)/\∀i m τ H,W i m τ H->
 (J.stop i H/\Q (.ref D) H)\/(J.go i H/\∃N:St->Hp->Prop,(∀τ' H',N τ' H'->∃m',m'<m/\W (i+1) m' τ' H')/\∀x H',J.zS i H x H'->g x τ H' fun τ2 H2=>tc τ2 H2 fun b H3=>if b=true then
  te τ2 H3 fun y H4=>∃ys,H4 D=some (.lst ys)/\ys.length<zdR/\N τ2 (upd H4 D (.lst (ys++[y]))) else N τ2 H3)
def fJ (wi:TI) (k:Nat) (ix:List Nat) (g:TG) (tc:TT) (te:TE):TE:=fun σ H Q=>wi σ H fun J H1=>∀D,H1 D=none->jW J D g tc te Q (zcM k none++GF σ ix) (upd H1 D (.lst []))
section
variable{X:Cx}{tg iter elt:Expr}{ifs:List Expr}{scope:Scope}{pos:Pos}{own:List Str}{ix:List Nat}{wi:TI}{g:TG}{tc:TT}{te:TE}
theorem ES{it D:zdJ}{fp:List zdJ}{tn:Nat->Heap->Prop}{J:It}{Q:VK}{R:Result->zdT->Prop}{s:zdT}{τ:St}{H:Hp}(rX:X.calm=true)(hxe:X.xe=fun _ _=>False)(TC:X.pn=[])(T:Turn X.prog X.w X.K tg J fp it tn)
 (he:PE X elt te) (hg:PG X tg g) (ht:Q8 X ifs tc) (I:Inv X [] τ H s) (Yn:∀b∈fp,pE X [] H b) (h0:tn 0 s.heap) (hW:jW J D g tc te Q τ H)
 (hR:∀τ' H' s',Inv X [] τ' H' s'->Q (.ref D) H'->R (.ok .next) s') :
 codeAny (model X.prog X.w) X.A (.compLoop (.ListComp elt [⟨tg,iter,ifs,0⟩] scope pos) 0 (.ref it) (.ref D) X.env) R s:=by
 obtain⟨W,⟨m0,w0⟩,turn⟩:=hW;have no:∀ {E:zdK->zdT->Prop} (e:zdK) (s':zdT),X.xe e s'->E e s':=fun e s' z=>by rw[hxe] at z;exact z.elim
 have stat:∀ {H':Hp},(∀b∈fp,H' b=none)->∀b∈fp,pE X [] H' b:=fun hn b hb=>⟨hn b hb,(Yn b hb).2⟩
 refine codeAny_loop rfl (fun n s'=>∃i τ' H',Inv X [] τ' H' s'/\tn i s'.heap/\(∀b∈fp,H' b=none)/\W i n τ' H') (fun n s3 hI=>?_) m0 ⟨0,τ,H,I,h0,fun b hb=>(Yn b hb).1,w0⟩;obtain⟨i,τ3,H3,I3,Ma,QG,w3⟩:=hI;show wpAny _ X.A ((compTurn (.ListComp elt [⟨tg,iter,ifs,0⟩] scope pos) 0 (.ref it) (.ref D) X.env).onRaise (fun x=>do noteFrame x X.env;theTreesLotGoes x)) _ _ s3;refine wpAny_noted ?_;rw[compTurn_list];refine zdM (wpAny_standAt (zdM ?_));rcases turn i n τ3 H3 w3 with ⟨stop,q⟩ |⟨go,N,hN,step⟩
 ·refine wpAny_mono (T.done X rfl rfl rfl rX i [] s3 τ3 H3 X.xe I3 (stat QG) Ma stop) (fun r s4 zqz=>?_) no;obtain⟨hr,I4⟩:=zqz;subst hr;exact zdN (hR τ3 H3 s4 I4 q)
 ·refine wpAny_mono (T.item X rfl rfl rfl rX i [] s3 τ3 H3 X.xe I3 (stat QG) Ma go) (fun r s4 zqz=>?_) no;obtain⟨u,hr,h4⟩:=zqz;subst hr;refine zdM (wpAny_mono h4 (fun _ s5 zqz=>?_) no);obtain⟨x,H5,I5,r5,y5,Nr,UI⟩:=zqz;have UJ:=I5.pinned (stat UI) (T.obj _ _ Nr);refine zdM (wpAny_mono (hg _ s5 τ3 H5 x u _ UJ r5 (step x H5 y5)) (fun _ s6 zqz=>?_) no);obtain⟨τ6,H6,I6,q6⟩:=zqz;refine zdM (wpAny_mono (ht _ s6 τ6 H6 _ I6 q6) (fun b s7 zqz=>?_) no);obtain⟨H7,I7,q7⟩:=zqz;have again:∀ {τ7:St} {H7:Hp} {s7:zdT},Inv X ([]++ug fp s5.heap) τ7 H7 s7->N τ7 H7->∃m,m<n/\∃i σ' H',Inv X [] σ' H' s7/\tn i s7.heap/\(∀b∈fp,H' b=none)/\W i m σ' H':=fun {τ7 H7 s7} I7 n7=>by
   obtain⟨m',hm,w7⟩:=hN τ7 H7 n7;refine⟨m',hm,i+1,τ7,H7,I7.pF,T.keep _ _ _ Nr fun b hb o e=>(I7.pin (b,o) (zaQ _ (zaQ _ (kW hb e)))).1,fun b hb=>?_,w7⟩;obtain⟨o,e,d⟩:=T.obj _ _ Nr b hb;exact(I7.pin (b,o) (zaQ _ (zaQ _ (kW hb e)))).2.1
  cases b with
  |false=>exact zdN ⟨rfl,again I7 q7⟩
  |true=>
   refine zdM (zdM (wpAny_mono (he _ s7 τ6 H7 _ I7 q7) (fun v s8 ⟨y,H8,I8,r8,ys,hD,hl,q8⟩=>zdM ?_) no));refine wpAny_mono (c6 _ s8 τ6 H8 (.ref D) [y] (.ref D) [v] (fun _ H'=>N τ6 H') I8 rfl (.cons r8 .nil) ⟨D,ys,y,rfl,rfl,hD,hl,q8⟩) (fun _ s9 zqz=>?_) no;obtain⟨_,H9,I9,_,q9⟩:=zqz;exact zdN (zdN ⟨rfl,again I9 q9⟩)
theorem Ag{pins:List (zdJ×Obj)}{s:zdT}{σ:St}{H:Hp}{Q:VK}{use:Option (zdK->Sem Unit)}{Q':zdK->zdT->Prop}(rX:X.calm=true)(hf:jd scope X.env.scope=true)(hc:tH scope X.env.scope X.N ix=true)
 (hi:PI X tg iter wi) (hg:∀C s₀ H₀ ex,PG (jy X scope own ix C s₀ H₀ ex) tg g) (ht:∀C s₀ H₀ ex,Q8 (jy X scope own ix C s₀ H₀ ex) ifs tc) (he:∀C s₀ H₀ ex,PE (jy X scope own ix C s₀ H₀ ex) elt te)
 (I:Inv X pins σ H s) (h:fJ wi own.length ix g tc te σ H Q)
 (hU:∀(D C:zdJ) (H':Hp) (s':zdT) (m:Str->Option zdK),Inv X pins σ H' s'->Q (.ref D) H'->s'.heap.Ns C m->H' C=none->C≠X.env.locals->X.s₀.heap.objs.size<=C->(∀x c,X.env.cells.lookup x=some c->c≠C)->(∀p∈X.pn++pins,p.1≠C)->compPost (model X.prog X.w) X.A X.xe use Q' (.ref D) C (.ok .next) s')
 (hs:∀x,foldedSetIterable iter X.env x=pure x) :
 wpAny (model X.prog X.w) X.A (comprehension (.ListComp elt [⟨tg,iter,ifs,0⟩] scope pos) scope X.env (firstIterPos [⟨tg,iter,ifs,0⟩] pos) (newList []) false (eval iter X.env) use) Q' X.xe s:=by
 have fits:=(mx hf)
 have ml:∀p∈scope.names,p.2=.free->∃c,X.env.cells.lookup p.1=some c:=fun p hp e=>I.ok.has p.1 ((fits p hp).2.1 e);refine wpAny_comprehension_free (use:=use) rfl hs (sP ml) (kY hf) (fun x hx=>(fits x hx).2.2) ?_;refine cS (hi pins s σ H _ I h) fun v s1 h1=>cS h1 fun UH s2 h2=>?_;obtain⟨it,fp,tn,J,H2,e,I2,T,Py,f2,hW⟩:=h2;subst e;refine wpAny_newObj_type (hd:=by size_fits) ?_;have hD:H2 s2.heap.objs.size=none:=I2.cc.fresh (zaj _);have I3:Inv X pins σ (upd H2 s2.heap.objs.size (.lst [])) {s2 with heap:=s2.heap.push {cls:=.type "list",dict:=none,data:=.seq ([]:List zdK).toArray} }:=
  I2.laid (t':=s2.toks) (fun b u e=>Heap.get?_push_of_some _ e) (zaj _) ⟨zaI _,[],0,.nil,Heap.get?_push_size _ rfl⟩
 have W3:=hW s2.heap.objs.size hD;have Yo:∀b∈fp,b<s2.heap.objs.size:=fun b hb=>let ⟨o,e,_⟩:=T.obj _ _ Py b hb;Heap.lt_size e;have Q9:∀b∈fp,pE X pins (upd H2 s2.heap.objs.size (.lst [])) b/\b<(s2.heap.push {cls:=.type "list",dict:=none,data:=.seq ([]:List zdK).toArray}).objs.size:=fun b hb=>
  ⟨⟨by rw[aD (zat (Yo b hb))];exact(f2 b hb).1,(f2 b hb).2⟩,by rw[Heap.size_push];exact zb0 (Yo b hb)⟩
 have Ma:tn 0 (s2.heap.push {cls:=.type "list",dict:=none,data:=.seq ([]:List zdK).toArray}):=T.keep _ _ _ Py fun b _ o e=>Heap.get?_push_of_some _ e;generalize vR:({s2 with heap:=s2.heap.push {cls:=.type "list",dict:=none,data:=.seq ([]:List zdK).toArray} }:zdT)=s3 at I3;generalize hH3:upd H2 s2.heap.objs.size (.lst [])=H3 at I3 W3 Q9;have eh:s2.heap.push {cls:=.type "list",dict:=none,data:=.seq ([]:List zdK).toArray}=s3.heap:=by rw[<- vR]
 rw[eh] at Q9 Ma;refine wpAny_newFunctionEnv (fun x hx=>(fits x hx).1) (by intro y hy;simp at hy) (fun h4 Tw JJ=>?_) (kY hf);have kept:∀b o,s3.heap.get? b=some o->h4.get? b=some o:=fun b o e=>JJ.extBut b o (zat (Heap.lt_size e)) (Heap.get?_push_of_some _ e);have I4:=GG (own:=own) (tk:=s3.toks+([]:List (Str×zdK)).length) I3 hf hc Q9 Tw kept;have fp4:∀b∈fp,pE (jy X scope own ix s3.heap.objs.size s3 H3 fp) [] H3 b:=fun b hb=>by
  obtain⟨⟨f0,f1,f2',f3,f4,f5⟩,lt⟩:=Q9 b hb;refine⟨f0,zat lt,fun z=>?_,.inl hb,fun x c e=>f4 x c (pL ml (fun x c e=>by simp at e) e),fun p hp=>absurd (show p∈([]:List (zdJ×Obj))++[] from hp) (by simp)⟩;rcases zag.mp (I3.xK b z) with z |z
  ·exact f1 z
  ·exact f2' z
 have Yp:tn 0 h4:=T.keep _ _ _ Ma fun b _ o e=>kept b o e;have loop:=ES (X:=jy X scope own ix s3.heap.objs.size s3 H3 fp) (iter:=iter) (scope:=scope) (pos:=pos) (R:=compPost (model X.prog X.w) X.A X.xe use Q' (.ref s2.heap.objs.size) s3.heap.objs.size) rX rfl rfl T (he _ _ _ _) (hg _ _ _ _) (ht _ _ _ _) I4 fp4 Yp W3
  (fun τ' H' s' I' q=>by
   obtain⟨J1,J2,J3,J4,J5,J6⟩:=comp_back I3 Q9 I';obtain⟨m,hm,_⟩:=I'.loc;exact hU _ _ H' s' m J1 q hm J2 J3 J4 J5 J6)
 exact codeAny_compStart_list loop (T.self X.A 0 _ _ _ Yp loop)
theorem de(rX:X.calm=true)(hf:jd scope X.env.scope=true)(hc:tH scope X.env.scope X.N ix=true)
 (hi:PI X tg iter wi) (hg:∀C s₀ H₀ ex,PG (jy X scope own ix C s₀ H₀ ex) tg g) (ht:∀C s₀ H₀ ex,Q8 (jy X scope own ix C s₀ H₀ ex) ifs tc) (he:∀C s₀ H₀ ex,PE (jy X scope own ix C s₀ H₀ ex) elt te)
 (hs:∀x,foldedSetIterable iter X.env x=pure x:=by intro _;rfl):PE X (.ListComp elt [⟨tg,iter,ifs,0⟩] scope pos) (fJ wi own.length ix g tc te):=by
 intro pins s σ H Q I h;rw[eval_ListComp];refine Ag (use:=none) rX hf hc hi hg ht he I h (fun D C H' s' m I' q hm n1 n2 n3 n4 n5=>?_) hs;refine⟨m,hm,fun h' sb=>⟨.ref D,H',?_,rfl,q⟩⟩;exact I'.turned (t':=s'.toks) (it:=C) (fun b o hb e=>sb.extBut b o hb e) n1 (Ne.symm (Ne.symm n2)) (.inr n3) n4 n5
theorem Kq{i:Nat}{y:Str}{py Ra:Pos}(hN:X.N.Nodup)(hiy:X.N[i]?=some y)(hy:Loc X.env.scope y)(rX:X.calm=true)(hf:jd scope X.env.scope=true)(hc:tH scope X.env.scope X.N ix=true)
 (hi:PI X tg iter wi) (hg:∀C s₀ H₀ ex,PG (jy X scope own ix C s₀ H₀ ex) tg g) (ht:∀C s₀ H₀ ex,Q8 (jy X scope own ix C s₀ H₀ ex) ifs tc) (he:∀C s₀ H₀ ex,PE (jy X scope own ix C s₀ H₀ ex) elt te)
 (hsw:swapsWith (.ListComp elt [⟨tg,iter,ifs,0⟩] scope pos) (some (.Name y py)) Ra.line X.env=pure true:=by rfl)
 (hs:∀x,foldedSetIterable iter X.env x=pure x:=by intro _;rfl) (Qy:X.fn y=true\/X.env.scope.names.lookup y=some .local:=by first |exact .inl rfl |exact .inr rfl |assumption) :
 PS X (.Assign [.Name y py] (.ListComp elt [⟨tg,iter,ifs,0⟩] scope pos) Ra) (zQ (fJ wi own.length ix g tc te) (eG i)):=by
 intro pins s σ H D I h;rw[exec_Assign_Name_used _ _ _ _ hsw];refine zdM (wpAny_standAt (zdM ?_));show wpAny _ _ (do let _ <- comprehension (.ListComp elt [⟨tg,iter,ifs,0⟩] scope pos) scope X.env _ (newList []) false (eval iter X.env) (some (assign (.Name y py) X.env))) _ _ s;refine zdM (wpAny_mono (Ag (use:=some (assign (.Name y py) X.env)) (Q':=fun _ s'=>SP X pins D .next s') rX hf hc hi hg ht he I h (fun L C H' s' m I' q hm n1 n2 n3 n4 n5=>?_) hs) (fun _ s' hq=>zdN (zdN hq)) fun _ _ e=>e);show wpAny _ _ (assign (.Name y py) X.env (.ref L)) _ _ _;refine wpAny_assign_Name (wN I' hN hiy hy (v:=.ref L) rfl (fun s2 I2 zqz=>?_) Qy);obtain⟨a,sb,ha⟩:=zqz;have hCa:C≠a:=by
  rcases ha with rfl |ha
  ·exact n2
  ·exact fun z=>n4 y a ha z.symm
 refine⟨m,hm.sameBut sb hCa,fun h' sb'=>⟨_,H',?_,q⟩⟩;exact I2.turned (t':=s2.toks) (it:=C) (fun b o hb e=>sb'.extBut b o hb e) n1 n2 (.inr n3) n4 n5
end
inductive Dp where
 |bI |bl (b:Bool) |int (i:Int) |str (x:Str) |tup (l:List Dp) |lst (l:List Dp)
mutual
def Rep (K:zab) (H:Hp):Dp->V->Prop
 |.bI,v=>v=.bI
 |.bl b,v=>v=.bl b
 |.int i,v=>v=.int i
 |.str x,v=>v=.str x
 |.tup l,v=>∃a xs,v=.ref a/\cF K H a xs/\aQ K H l xs
 |.lst l,v=>∃a xs,v=.ref a/\fU K H a xs/\aQ K H l xs
def aQ (K:zab) (H:Hp):List Dp->List V->Prop
 |[],vs=>vs=[]
 |d::ds,vs=>∃v r,vs=v::r/\Rep K H d v/\aQ K H ds r
end
mutual
def Dp.deep:Dp->Nat
 |.tup l=>Dp.fA l+1
 |.lst l=>Dp.fA l+1
 |_=>0
def Dp.fA:List Dp->Nat
 |[]=>0
 |d::ds=>max d.deep (Dp.fA ds)
end
theorem aq.br{K:zab}{H H':Hp}{a:zdJ}{xs:List V}(e:aq H H')(h:cF K H a xs):cF K H' a xs:=by
 rcases h with (h |⟨o,h⟩) |h
 ·exact .inl (.inl (e _ _ h))
 ·exact .inl (.inr ⟨o,e _ _ h⟩)
 ·exact .inr h
mutual
theorem Rep.mono{K:zab}{H H':Hp}(e:aq H H'):∀ {d:Dp} {v:V},Rep K H d v->Rep K H' d v
 |.bI,_,h=>h
 |.bl _,_,h=>h
 |.int _,_,h=>h
 |.str _,_,h=>h
 |.tup l,_,h=>by
  unfold Rep at h ⊢;obtain⟨a,xs,e1,e2,e3⟩:=h;exact⟨a,xs,e1,e.br e2,aQ.mono e e3⟩
 |.lst l,_,h=>by
  unfold Rep at h ⊢;obtain⟨a,xs,e1,e2,e3⟩:=h;exact⟨a,xs,e1,e.seq e2,aQ.mono e e3⟩
theorem aQ.mono{K:zab}{H H':Hp}(e:aq H H'):∀ {ds:List Dp} {vs:List V},aQ K H ds vs->aQ K H' ds vs
 |[],_,h=>h
 |d::ds,_,h=>by
  unfold aQ at h ⊢;obtain⟨v,r,e1,e2,e3⟩:=h;exact⟨v,r,e1,Rep.mono e e2,aQ.mono e e3⟩
end
theorem aQ.length{K:zab}{H:Hp}:∀ {ds:List Dp} {vs:List V},aQ K H ds vs->vs.length=ds.length
 |[],_,h=>by unfold aQ at h;rw[h];rfl
 |d::ds,_,h=>by
  unfold aQ at h;obtain⟨v,r,e1,_,e3⟩:=h;rw[e1,zai,zai,aQ.length e3]
theorem aQ.get{K:zab}{H:Hp}:∀ {ds:List Dp} {vs:List V} {i:Nat} {d:Dp},aQ K H ds vs->ds[i]?=some d->∃v,vs[i]?=some v/\Rep K H d v
 |[],_,_,_,_,e=>by simp at e
 |d::ds,_,0,_,h,e=>by
  unfold aQ at h;obtain⟨v,r,e1,e2,e3⟩:=h;simp only[zc8,zaH.injEq] at e;subst e;exact⟨v,by rw[e1];rfl,e2⟩
 |d::ds,_,i+1,d',h,e=>by
  unfold aQ at h;obtain⟨v,r,e1,e2,e3⟩:=h;rw[zcj] at e;obtain⟨v',h1,h2⟩:=aQ.get e3 e;exact⟨v',by rw[e1,zcj];exact h1,h2⟩
theorem aQ.append{K:zab}{H:Hp}:∀ {ds es:List Dp} {vs us:List V},aQ K H ds vs->aQ K H es us->aQ K H (ds++es) (vs++us)
 |[],_,_,_,h,h'=>by unfold aQ at h;rw[h];exact h'
 |d::ds,_,_,_,h,h'=>by
  unfold aQ at h;obtain⟨v,r,e1,e2,e3⟩:=h;rw[e1];show aQ K H (d::(ds++_)) (v::(r++_));unfold aQ;exact⟨v,_,rfl,e2,aQ.append e3 h'⟩
theorem aQ.nil{K:zab}{H:Hp}:aQ K H [] []:=by unfold aQ;rfl
theorem aQ.cons{K:zab}{H:Hp}{d:Dp}{ds:List Dp}{v:V}{vs:List V}(h:Rep K H d v)(h':aQ K H ds vs):aQ K H (d::ds) (v::vs):=by unfold aQ;exact⟨v,vs,rfl,h,h'⟩
theorem Rep.bj{K:zab}{H:Hp}{l:List Dp}{v:V}:Rep K H (.tup l) v↔∃a xs,v=.ref a/\cF K H a xs/\aQ K H l xs:=by unfold Rep;exact Iff.rfl
theorem Rep.bq{K:zab}{H:Hp}{l:List Dp}{v:V}:Rep K H (.lst l) v↔∃a xs,v=.ref a/\fU K H a xs/\aQ K H l xs:=by unfold Rep;exact Iff.rfl
theorem Rep.bw{K:zab}{H:Hp}{i:Int}{v:V}:Rep K H (.int i) v↔v=.int i:=by unfold Rep;exact Iff.rfl
theorem Rep.bQ{K:zab}{H:Hp}{x:Str}{v:V}:Rep K H (.str x) v↔v=.str x:=by unfold Rep;exact Iff.rfl
theorem Rep.xX{K:zab}{H:Hp}{b:Bool}{v:V}:Rep K H (.bl b) v↔v=.bl b:=by unfold Rep;exact Iff.rfl
theorem Rep.tI{K:zab}{H:Hp}{v:V}:Rep K H .bI v↔v=.bI:=by unfold Rep;exact Iff.rfl
theorem aQ.bO{K:zab}{H:Hp}{vs:List V}:aQ K H [] vs↔vs=[]:=by unfold aQ;exact Iff.rfl
theorem aQ.aO{K:zab}{H:Hp}{d:Dp}{ds:List Dp}{vs:List V}:aQ K H (d::ds) vs↔∃v r,vs=v::r/\Rep K H d v/\aQ K H ds r:=by conv=>lhs;unfold aQ
theorem aq.new{H:Hp}{p:zdJ}(h:H p=none)(o:HO):aq H (upd H p o):=fun b u q=>by rw[aD (aF q h)];exact q
section
variable{X:Cx}{pins:List (zdJ×Obj)}{σ:St}{H:Hp}{s:zdT}
theorem all_true(n:Nat):(zaC n).all (fun _=>true)=true:=by simp
mutual
theorem Kr(I:Inv X pins σ H s):∀ {d:Dp} {v u:V} {a b:zdK} {A:zdU},Rep X.K H d v->Rep X.K H d u->RelV v a->RelV u b->A.units+d.deep<cLine->SeqAt.EqAt A s a b true
 |.bI,v,u,a,b,A,h1,h2,r1,r2,_=>by
  rw[Rep.tI] at h1 h2;subst h1;subst h2;cases (show a=Value.none from r1);cases (show b=Value.none from r2);exact .same _
 |.bl c,v,u,a,b,A,h1,h2,r1,r2,_=>by
  rw[Rep.xX] at h1 h2;subst h1;subst h2;cases (show a=Value.bool c from r1);cases (show b=Value.bool c from r2);exact .same _
 |.int i,v,u,a,b,A,h1,h2,r1,r2,_=>by
  rw[Rep.bw] at h1 h2;subst h1;subst h2;obtain⟨t,rfl⟩:=(show ∃t,a=Value.int i t from r1)
  obtain⟨t',rfl⟩:=(show ∃t,b=Value.int i t from r2)
  have:=SeqAt.EqAt.int_int (A:=A) (s:=s) i t i t';rw[beq_self_eq_true] at this;exact this
 |.str x,v,u,a,b,A,h1,h2,r1,r2,_=>by
  rw[Rep.bQ] at h1 h2;subst h1;subst h2;obtain⟨t,rfl⟩:=(show ∃t,a=Value.str x t from r1)
  obtain⟨t',rfl⟩:=(show ∃t,b=Value.str x t from r2)
  have:=SeqAt.EqAt.str_str (A:=A) (s:=s) x t x t';rw[beq_self_eq_true] at this;exact this
 |.tup l,v,u,a,b,A,h1,h2,r1,r2,hu=>by
  rw[Rep.bj] at h1 h2;obtain⟨p,xs,rfl,q1,w1⟩:=h1;obtain⟨p',Vp,rfl,q2,w2⟩:=h2;cases (show a=Value.ref p from r1);cases (show b=Value.ref p' from r2);by_cases e:p=p'
  ·subst e;exact .same _
  ·obtain⟨aY,v1,t1,_⟩:=I.tuple q1;obtain⟨its',v2,t2,_⟩:=I.tuple q2;unfold Dp.deep at hu;have items:=mz I w1 w2 v1 v2 (A:=A.in1) (by show A.units+1+_<_;lia);have n1:aY.length=its'.length:=by rw[<- v1.length,<- v2.length,w1.length,w2.length]
   have q:=SeqAt.RcAt.tuples (A:=A) (s:=s) (e:=fun _=>true) t1 t2 (by lia) (fun j h1 h2=>items j aY[j] its'[j] (by simp at h1;simp[h1]) (by simp at h2;simp[h2]));rw[all_true] at q;refine .of_refs e ?_;simpa[n1] using q
 |.lst l,v,u,a,b,A,h1,h2,r1,r2,hu=>by
  rw[Rep.bq] at h1 h2;obtain⟨p,xs,rfl,q1,w1⟩:=h1;obtain⟨p',Vp,rfl,q2,w2⟩:=h2;cases (show a=Value.ref p from r1);cases (show b=Value.ref p' from r2);by_cases e:p=p'
  ·subst e;exact .same _
  ·obtain⟨aY,v1,t1,_⟩:=I.list q1;obtain⟨its',v2,t2,_⟩:=I.list q2;unfold Dp.deep at hu;have items:=mz I w1 w2 v1 v2 (A:=A.in1) (by show A.units+1+_<_;lia);have n1:aY.length=its'.length:=by rw[<- v1.length,<- v2.length,w1.length,w2.length]
   have q:=SeqAt.RcAt.lists (A:=A) (s:=s) (e:=fun _=>true) t1.isList t2.isList (by simpa using n1) (by lia) (fun j h1 h2=>items j aY[j] its'[j] (by simp at h1;simp[h1]) (by simp at h2;simp[h2]));rw[all_true] at q;exact .of_refs e q
theorem mz(I:Inv X pins σ H s):∀ {ds:List Dp} {vs us:List V} {as bs:List zdK} {A:zdU},aQ X.K H ds vs->aQ X.K H ds us->Vals vs as->Vals us bs->A.units+Dp.fA ds<cLine->
 ∀(j:Nat) (a b:zdK),as[j]?=some a->bs[j]?=some b->SeqAt.EqAt A s a b true
 |[],_,_,_,_,A,h1,h2,r1,r2,_,j,a,b,e1,e2=>by
  rw[aQ.bO] at h1;subst h1;cases r1;simp at e1
 |d::ds,_,_,_,_,A,h1,h2,r1,r2,hu,j,a,b,e1,e2=>by
  rw[aQ.aO] at h1 h2;obtain⟨v,r,rfl,x1,y1⟩:=h1;obtain⟨v',r',rfl,x2,y2⟩:=h2;unfold Dp.fA at hu;cases r1 with
  |cons z1 t1=>
   cases r2 with
   |cons z2 t2=>
    cases j with
    |zero=>
     simp only[zc8,zaH.injEq] at e1 e2;subst e1;subst e2;exact Kr I x1 x2 z1 z2 (by lia)
    |succ j=>
     rw[zcj] at e1 e2;exact mz I y1 y2 t1 t2 (by lia) j a b e1 e2
end
end
section
variable{X:Cx}
def Rb (i j:Int):Prop:=i.natAbs<2 ^ 4000/\j.natAbs<2 ^ 4000
theorem bits_le{i:Int}(h:i.natAbs<2 ^ 4000):Builtin.Int.intBits i<=2 ^ 20:=zax (intBits_le h) (by decide)
theorem tJ:nU X (binaryOp .Mult) (rI Rb fun i j=>.int (i*j)):=QH fun _ _ _ _ _ _ _ hc q=>mul_int q (IntMulOk.of_bits (bits_le hc.1) (bits_le hc.2))
theorem GH:gV X (.builtin "isinstance") (fun xs H Q=>∃x T t b,xs=[x,.ty T]/\qM X.K H x t/\PySem.W.kitOne X.K t (.type T)=some b/\Q (.bl b) H):=by
 intro pins s σ H xs us Q I r h;obtain⟨x,T,t,b,rfl,ty,e,q⟩:=h;obtain⟨u1,u2,rfl,r1,r2⟩:=vals2 r;cases (show u2=Value.type T from r2);exact EF I r1 ty e fun tk=>⟨.bl b,H,I.tok tk,rfl,q⟩
end
structure bU(K:zab)(mg:Str->Option zdK)(x:Str)(st:Stmt)(ps:List Str)(f:zdJ)(fd:zdS):Prop where
 F:JI K x x st f fd
 b:Binds K fd ps []
 m:mg x=some (.ref f)
end L2
namespace L2
open PySem PySem.Spec PyProof.Rows
theorem GI{g:Int->Int->V}{i j:Int}{H:Hp}{Q:VK}:J8 g (.int i) (.int j) H Q↔Q (g i j) H:=⟨fun ⟨_,_,e1,e2,q⟩=>by cases e1;cases e2;exact q,fun q=>⟨_,_,rfl,rfl,q⟩⟩
theorem NT{C:Int->Int->Prop}{g:Int->Int->V}{i j:Int}{H:Hp}{Q:VK}:rI C g (.int i) (.int j) H Q↔C i j/\Q (g i j) H:=⟨fun ⟨_,_,e1,e2,c,q⟩=>by cases e1;cases e2;exact⟨c,q⟩,fun q=>⟨_,_,rfl,rfl,q⟩⟩
theorem uB{a:V}{r:St}{H:Hp}{Q:VK}:(dM 0 (some a::r) H Q)=(Q a H):=rfl
theorem uC{a:Option V}{r:St}{H:Hp}{Q:VK}:(dM 1 (a::r) H Q)=(dM 0 r H Q):=rfl
theorem uD{a:Option V}{r:St}{H:Hp}{Q:VK}:(dM 2 (a::r) H Q)=(dM 1 r H Q):=rfl
theorem uF{a:Option V}{r:St}{H:Hp}{Q:VK}:(dM 3 (a::r) H Q)=(dM 2 r H Q):=rfl
theorem uG{a:Option V}{r:St}{H:Hp}{Q:VK}:(dM 4 (a::r) H Q)=(dM 3 r H Q):=rfl
theorem uH{a:Option V}{r:St}{H:Hp}{Q:VK}:(dM 5 (a::r) H Q)=(dM 4 r H Q):=rfl
theorem uI{a:Option V}{r:St}{H:Hp}{Q:VK}:(dM 6 (a::r) H Q)=(dM 5 r H Q):=rfl
theorem uJ{a:Option V}{r:St}{H:Hp}{Q:VK}:(dM 7 (a::r) H Q)=(dM 6 r H Q):=rfl
theorem uK{a:Option V}{r:St}{H:Hp}{Q:VK}:(dM 8 (a::r) H Q)=(dM 7 r H Q):=rfl
theorem uL{a:Option V}{r:St}{H:Hp}{Q:VK}:(dM 9 (a::r) H Q)=(dM 8 r H Q):=rfl
theorem GJ{v:V}{σ:St}{H:Hp}{Q:VK}:(tC v σ H Q)=(Q v H):=rfl
theorem Ah{r:R2}{ta tb:TE}{σ:St}{H:Hp}{Q:VK}:(Gg r ta tb σ H Q)=(ta σ H fun x H1=>tb σ H1 fun y H2=>r x y H2 Q):=rfl
theorem GK{b:Bool}{p:Bool->Prop}:(∃k,V.bl b=.bl k/\p k)↔p b:=⟨fun ⟨_,e,q⟩=>by cases e;exact q,fun q=>⟨_,rfl,q⟩⟩
theorem BY{b:Int}{p:Int->Prop}:(∃k,V.int b=.int k/\p k)↔p b:=⟨fun ⟨_,e,q⟩=>by cases e;exact q,fun q=>⟨_,rfl,q⟩⟩
theorem BZ{b:zdJ}{p:zdJ->Prop}:(∃k,V.ref b=.ref k/\p k)↔p b:=⟨fun ⟨_,e,q⟩=>by cases e;exact q,fun q=>⟨_,rfl,q⟩⟩
theorem pM{t:TE}{σ:St}{H:Hp}{Q:Bool->Hp->Prop}:(ui t σ H Q)=(t σ H fun x H'=>∃k,x=.bl k/\Q k H'):=rfl
theorem Ai{x y:V}{H:Hp}{Q:VK}:(Yg x y H Q)=(EA x y=true/\Q (.bl (decide (x=y))) H):=rfl
theorem Aj{x y:V}{H:Hp}{Q:VK}:(Yh x y H Q)=(EA x y=true/\Q (.bl (!decide (x=y))) H):=rfl
theorem B0{i j:Int}:(V.int i=V.int j)=(i=j):=by simp
theorem B1{i j:Str}:(V.str i=V.str j)=(i=j):=by simp
theorem xY{c:Prop}[Decidable c]{A B:Prop}:(if decide c=true then A else B)↔if c then A else B:=by simp
theorem uM{c:Prop}[Decidable c]{A B:Prop}:(if (!decide c)=true then A else B)↔if c then B else A:=by by_cases h:c<;>simp[h]
theorem aJ{K:zab}{p:zdJ}{i:Int}{H:Hp}{Q:VK}{xs:List V}{v:V}(h:cF K H p xs)(hv:xc xs i=some v)(q:Q v H):me K (.ref p) (.int i) H Q:=⟨p,xs,i,v,rfl,rfl,h,hv,q⟩
theorem cx{K:zab}{p:zdJ}{i:Int}{H:Hp}{Q:VK}{xs:List V}{v:V}(h:fU K H p xs)(hv:xc xs i=some v)(q:Q v H):NG K (.ref p) (.int i) H Q:=⟨p,xs,i,v,rfl,rfl,h,hv,q⟩
section
variable{P:zdV}{w:zdL}{K:zab}{mg:Str->Option zdK}{base:Heap}
theorem JI.kZ{x qual:Str}{st:Stmt}{f:zdJ}{fd:zdS}{N ps:List Str}{k:Nat}{sp:Sp}(F:JI K x qual st f fd)(S:ba N ps (aI st))(len:∀vs H Q E,sp vs H Q E->vs.length=ps.length)
 (zY:∀(eA:zdK) (A:zdU) (outer:List Env) (s:zdT) (H:Hp) (vs:List V) (Q:VK) (E:XK),iW k (A.deeper (envOfC qual (aI st) s.heap.objs.size f eA))->sp vs H Q E->
  ∃t σ,De (wb fZ P w K mg base N qual (aI st) f eA A outer s H E).QC (iu st) t/\L2.start N vs=σ/\t {nx:=fun _ H'=>Q .bI H',rt:=Q} σ H):bM P w K mg base fZ (k+1) f fd ps sp:=
 F.ok S len fun eA A outer s H vs Q E hr h=>let ⟨t,_,h1,h2,h3⟩:=zY eA A outer s H vs Q E hr h;⟨t,h1,by rw[h2];exact h3⟩
end
theorem pN{sp:Sp}{zw:List V}{E:XK}{t:TA}{σ:St}{H:Hp}{Q:VK}:(Gk sp zw E t σ H Q)=(t σ H fun vs H1=>sp (vs++zw) H1 Q E):=rfl
theorem pO{ta:TE}{tr:TA}{σ:St}{H:Hp}{Q:List V->Hp->Prop}:(lR ta tr σ H Q)=(ta σ H fun x H1=>tr σ H1 fun xs H2=>Q (x::xs) H2):=rfl
theorem uN{σ:St}{H:Hp}{Q:List V->Hp->Prop}:(BM σ H Q)=(Q [] H):=rfl
theorem uO{t:TA}{σ:St}{H:Hp}{Q:VK}:(Kc t σ H Q)=(t σ H fun xs H1=>xs.length<=zdR/\∀p,H1 p=none->Q (.ref p) (upd H1 p (.tup xs))):=rfl
theorem uP{t:TA}{σ:St}{H:Hp}{Q:VK}:(QO t σ H Q)=(t σ H fun xs H1=>xs.length<=zdR/\∀p,H1 p=none->Q (.ref p) (upd H1 p (.lst xs))):=rfl
theorem Ks{n:Nat}(h:n<=1000):n<=zdR:=zbz (EN h)
theorem aq.Vq{H H1:Hp}(s:aq H H1){p:zdJ}(h:H1 p=none)(o:HO):aq H (upd H1 p o):=s.trans (aq.new h o)
theorem Rep.new{K:zab}{H:Hp}{p:zdJ}{vs:List V}{ds:List Dp}(h:H p=none)(r:aQ K H ds vs):Rep K (upd H p (.tup vs)) (.tup ds) (.ref p):=Rep.bj.mpr ⟨p,vs,rfl,.of ai,r.mono (aq.new h _)⟩
theorem xZ{i j:Int}:EA (.int i) (.int j)=true:=rfl
theorem x8{i j:Str}:EA (.str i) (.str j)=true:=rfl
theorem ya{n:Nat}(h:n<=1000):(n<=zdR)=True:=eq_true (Ks h)
theorem uQ{i j:Int}:(QJ i j)=(0<j/\j<1073741824):=rfl
theorem uR{CX:EG}{P:zdV}{w:zdL}{K:zab}{mg:Str->Option zdK}{base:Heap}{N:List Str}{qual:Str}{scope:Scope}{f:zdJ}{cd:zdK}{A:zdU}{outer:List Env}{s:zdT}{H:Hp}{E:XK}:(wb CX P w K mg base N qual scope f cd A outer s H E).K=K:=rfl
theorem pP{X:Cx}{scope:Scope}{own:List Str}{ix:List Nat}{C:zdJ}{s₀:zdT}{H₀:Hp}{ex:List zdJ}:(jy X scope own ix C s₀ H₀ ex).K=X.K:=rfl
theorem mulR{z b:Int}(h1 : -18446744073709551616<b)(h2:b<18446744073709551616):Ka z b:=.inr ⟨h1,h2⟩
theorem yf{x:Str}{pos:Pos}:pJ (.Name x pos):=fun _ _=>rfl
theorem aj{c:Const}{k:Nat}{pos:Pos}:pJ (.Constant c k pos):=fun _ _=>rfl
theorem iy{f:Expr}{as:List Expr}{ks:List Keyword}{pos:Pos}:pJ (.Call f as ks pos):=fun _ _=>rfl
theorem Dv{a:Expr}{op:UnaryOp}{pos:Pos}:pJ (.UnaryOp op a pos):=fun _ _=>rfl
theorem dA{a b:Expr}{op:Operator}{pos:Pos}{es:List Expr}{env:Env}:zdP (.BinOp a op b pos::es) env=(false,eval (.BinOp a op b pos) env)::zdP es env:=rfl
theorem ae{x:Str}{pos:Pos}{es:List Expr}{env:Env}:zdP (.Name x pos::es) env=(false,eval (.Name x pos) env)::zdP es env:=rfl
theorem aZ{c:Const}{k:Nat}{pos:Pos}{es:List Expr}{env:Env}:zdP (.Constant c k pos::es) env=(false,eval (.Constant c k pos) env)::zdP es env:=rfl
theorem aG{a b:Expr}{pos:Pos}{es:List Expr}{env:Env}:zdP (.Subscript a b pos::es) env=(false,eval (.Subscript a b pos) env)::zdP es env:=rfl
theorem aT{f:Expr}{as:List Expr}{ks:List Keyword}{pos:Pos}{es:List Expr}{env:Env}:zdP (.Call f as ks pos::es) env=(false,eval (.Call f as ks pos) env)::zdP es env:=rfl
theorem Kt{a:Expr}{x:Str}{pos:Pos}{es:List Expr}{env:Env}:zdP (.Attribute a x pos::es) env=(false,eval (.Attribute a x pos) env)::zdP es env:=rfl
theorem yg{as:List Expr}{pos:Pos}{es:List Expr}{env:Env}:zdP (.List as pos::es) env=(false,eval (.List as pos) env)::zdP es env:=rfl
theorem iX{as:List Expr}{k}{pos:Pos}{es:List Expr}{env:Env}:zdP (.Tuple as k pos::es) env=(false,eval (.Tuple as k pos) env)::zdP es env:=rfl
theorem GL{a:Expr}{ops:List CmpOp}{cs:List Expr}{pos:Pos}{es:List Expr}{env:Env}:zdP (.Compare a ops cs pos::es) env=(false,eval (.Compare a ops cs pos) env)::zdP es env:=rfl
theorem eZ{a:Expr}{gs:List Comprehension}{sc:Scope}{pos:Pos}{es:List Expr}{env:Env}:zdP (.ListComp a gs sc pos::es) env=(false,eval (.ListComp a gs sc pos) env)::zdP es env:=rfl
def GN:Expr->Option V
 |.Constant (.int i) _ _=>some (.int i)
 |.Constant (.str x) _ _=>some (.str x)
 |.Constant (.bool b) _ _=>some (.bl b)
 |.Constant .none _ _=>some .bI
 |_=>none
def GO (vs:List V):TA:=fun _ H Q=>Q vs H
theorem hV{X:Cx}:∀ {es:List Expr} {vs:List V},es.map GN=vs.map some->PA X es (GO vs)
 |[],[],_=>ah
 |[],_::_,h=>by cases h
 |_::_,[],h=>by cases h
 |e::es,v::vs,h=>by
  rw[zaq,zaq] at h
  injection h with h1 h2
  have ih:=hV (X:=X) h2;have one:∀ {e:Expr} {v:V},PE X e (tC v)->(zdP (e::es) X.env=(false,eval e X.env)::zdP es X.env)->PA X (e::es) (GO (v::vs)):=fun he hs pos pins s σ H Q I q=>aa he ih hs pos pins s σ H Q I q;unfold GN at h1;split at h1
  ·cases h1;exact one ak aZ
  ·cases h1;exact one bG aZ
  ·cases h1;exact one jw aZ
  ·cases h1;exact one kT aZ
  ·cases h1
theorem pQ{vs:List V}{σ:St}{H:Hp}{Q:List V->Hp->Prop}:(GO vs σ H Q)=(Q vs H):=rfl
theorem pS{td ty:TE}{σ:St}{H:Hp}{Q:VK}:(Mf td ty σ H Q)=(td σ H fun x H1=>ty σ H1 fun y H2=>∃a v,x=.ref a/\eK H2 a y (some v)/\Q v H2):=rfl
theorem pT{td ty tv:TE}{D:Ends}{σ:St}{H:Hp}:(Mg td ty tv D σ H)=(tv σ H fun v H1=>td σ H1 fun x H2=>ty σ H2 fun y H3=>∃a H4,x=.ref a/\sO H3 a y v H4/\D.nx σ H4):=rfl
theorem Ak{r:List V->Hp->VK->Prop}{t:TA}{σ:St}{H:Hp}{Q:VK}:(QT r t σ H Q)=(t σ H fun vs H1=>r vs H1 Q):=rfl
theorem GP{t:TE}{σ:St}{H:Hp}{Q:Bool->Hp->Prop}:(tB t σ H Q)=(t σ H fun x H1=>∃c,x=.bl c/\Q c H1):=rfl
theorem uS{t:TT}{σ:St}{H:Hp}{Q:Bool->Hp->Prop}:(QB t σ H Q)=(t σ H fun c H1=>Q (!c) H1):=rfl
theorem eK.s{H:Hp}{a:zdJ}{kvs:List (Key×V)}{x:Str}{v:V}(e:H a=some (.dK kvs))(h:c0 kvs (Sum.inr x)=some v):eK H a (.str x) (some v):=by
 have:=eK.k (k:=Sum.inr x) e;rw[h] at this;exact this
end L2
namespace PM
abbrev W:=List Nat
inductive Tr where
 |num (n:Int) |box (x:W) |bin (o:W) (l r:Tr)
 deriving DecidableEq
end PM
namespace L2
open PySem PySem.Spec PyProof.Rows
section
variable{X:Cx}{pins:List (zdJ×Obj)}{σ:St}{H:Hp}{s:zdT}{x:zdJ}
theorem Inv.told{o:HO}(I:Inv X pins σ H s)(n:H x=none)(h0:X.s₀.heap.objs.size<=x)(hL:x≠X.env.locals)(hc:∀y c,X.env.cells.lookup y=some c->c≠x)(hp:∀p∈X.pn++pins,p.1≠x)(ok:ck X.prog X.w (upd H x o) s.heap x o):Inv X pins σ (upd H x o) s:=by
 have nx:∀b u,X.s₀.heap.get? b=some u->b≠x:=fun b u e=>zat (zay (Heap.lt_size e) h0);refine⟨I.ok,I.os,I.bare,⟨I.base.keep,I.base.slot,fun b u e n' hx=>?_,I.base.there,fun b xs e=>?_,fun b ob u e=>?_,fun b ps e=>?_⟩,I.loc,I.cell,?_,fun y c e=>?_,fun p PJ=>?_,fun b u e=>?_,I.len⟩
 ·rw[aD (nx b u e)];exact I.base.free b u e n' hx
 ·have:=I.base.xH b xs e;rw[aD (aF this n)];exact this
 ·have:=I.base.vX b ob u e;rw[aD (aF this n)];exact this
 ·obtain⟨m,e1⟩:=I.base.xI b ps e;exact⟨m,by rw[aD (aF e1 n)];exact e1⟩
 ·rw[aD (Ne.symm hL)];exact I.free
 ·rw[aD (hc y c e)];exact I.lQ y c e
 ·obtain⟨a,b,c⟩:=I.pin p PJ;exact⟨a,by rw[aD (hp p PJ)];exact b,c⟩
 ·by_cases hb:b=x
  ·subst hb;rw[ai] at e;cases e;exact ok
  ·rw[aD hb] at e;exact(I.cc b u e).zK (fun _ _ _ q=>q) (fun c q=>by rw[aD (aF q n)];exact q) fun c xs q=>by rw[aD (aF q n)];exact q
end
theorem BO{n d:Nat}(hd:d<=n)(o:Option Int):HT.eY n d o<=n:=by
 cases o with
 |none=>exact hd
 |some i=>
  show (if i<0 then (i+n).toNat else min i.toNat n)<=n;split<;>lia
section
variable{X:Cx}
theorem Al(hc:X.calm=true):gV X (.builtin "all") (fun xs H Q=>∃(p:zdJ) (bs:List Bool),xs=[.ref p]/\fU X.K H p (bs.map V.bl)/\Q (.bl (bs.all id)) H):=by
 intro pins s σ H xs us Q I r h;obtain⟨p,bs,rfl,hl,q⟩:=h;obtain⟨u,rfl,ru⟩:=vals1 r;cases (show u=Value.ref p from ru);obtain⟨aY,rv,pl,_⟩:=I.list hl;have jR:p<s.heap.objs.size:=by
  obtain⟨o,_,e,_⟩:=pl;exact Heap.lt_size e
 refine call_all_walk (wpAny_pyIter_list pl.isList ?_);have ne:p≠s.heap.objs.size:=zat jR;refine⟨s.heap.objs.size,_,_,_,_,_,fun i=>bs.getD i true,rfl,Walks.list (show X.A.in1.handled=none from I.ok.hd hc) _ p ne aY.toArray,⟨⟨_,Heap.get?_push_size _ rfl,rfl,rfl⟩,pl.isList.push _⟩,fun i v s' Q' E' hv hq=>?_,fun h' tk hk=>?_⟩
 ·have Bq:aY[i]?=some v:=by simpa using hv
  have hb:∃b,bs[i]?=some b:=by
   have:i<bs.length:=by
    have l1:=rv.length;rw[zad] at l1;have:=(zah.mp Bq).1;lia
   exact⟨bs[i],zaa this⟩
  obtain⟨b,hb⟩:=hb;obtain⟨u,hu,ru⟩:=rv.get (i:=i) (x:=.bl b) (by rw[zal,hb];rfl);rw[Bq] at hu;cases hu;cases (show v=Value.bool b from ru);have e:bs.getD i true=b:=by rw[zaf,hb];rfl
  have zW:Q' (bs.getD i true) s':=hq;rw[e] at zW;exact zdN zW
 ·refine⟨.bl (bs.all id),H,I.kept (h':=h') (t':=tk) (fun b o e=>hk b o ?_ (Heap.get?_push_of_some _ e)),?_,q⟩
  ·have:b≠s.heap.objs.size:=zat (Heap.lt_size e);simpa using this
  ·have ln:aY.toArray.size=bs.length:=by rw[zas,<- rv.length,zad]
   show Value.bool ((zaC aY.toArray.size).all fun i=>bs.getD i true)=Value.bool (bs.all id);rw[ln]
   congr 1
   have key:∀l:List Bool,((zaC l.length).all fun i=>l.getD i true)=l.all id:=fun l=>by
    rw[zbj,zbK,zbK]
    constructor
    ·intro h x hx;obtain⟨i,hi,rfl⟩:=zbJ hx;have:=h i (zbv.mpr hi);rw[zaf,zaa hi] at this;exact this
    ·intro h i hi;have hi:=zbv.mp hi;rw[zaf,zaa hi];exact h _ (zao hi)
   exact key bs
end
abbrev W:=PM.W
def S (w:W):Str:=⟨w.toArray⟩
theorem pU{a b:W}:S a=S b↔a=b:=⟨fun h=>by have:=congrArg (fun z:Str=>z.cps.toList) h;simpa[S] using this,fun h=>by rw[h]⟩
def ky:PM.Tr->Dp
 |.num n=>.tup [.str "number",.int n]
 |.box x=>.tup [.str "box",.str (S x)]
 |.bin o l r=>.tup [.str (S o),ky l,ky r]
def bc (p:zdJ) (H H':Hp):Prop:=∀b o,b≠p->H b=some o->H' b=some o
theorem bc.refl(p:zdJ)(H:Hp):bc p H H:=fun _ _ _ h=>h
theorem bc.trans{p:zdJ}{H H1 H2:Hp}(a:bc p H H1)(b:bc p H1 H2):bc p H H2:=fun c o n h=>b c o n (a c o n h)
theorem bc.of{p:zdJ}{H H':Hp}(s:aq H H'):bc p H H':=fun b o _ h=>s b o h
theorem bc.put{p:zdJ}{H H1:Hp}(a:bc p H H1)(o:HO):bc p H (upd H1 p o):=fun b u n h=>by rw[aD n];exact a b u n h
theorem bc.new{p q:zdJ}{H H1:Hp}(a:bc p H H1)(h:H1 q=none)(o:HO):bc p H (upd H1 q o):=fun b u n e=>by rw[aD (aF (a b u n e) h)];exact a b u n e
theorem bc.same{p:zdJ}{H H':Hp}(a:bc p H H')(h:H p=none):aq H H':=fun b o e=>a b o (aF e h) e
mutual
def Dp.py:Dp->PyData
 |.bI=>.none
 |.bl b=>.bool b
 |.int i=>.int i
 |.str x=>.str x
 |.tup l=>.tuple (Dp.pV l)
 |.lst l=>.list (Dp.pV l)
def Dp.pV:List Dp->List PyData
 |[]=>[]
 |d::r=>d.py::Dp.pV r
end
section
variable{X:Cx}{pins:List (zdJ×Obj)}{σ:St}{H:Hp}{s:zdT}
mutual
theorem mB(I:Inv X pins σ H s):∀ {d:Dp} {v:V} {u:zdK},Rep X.K H d v->RelV v u->∃as,Reads s.heap u d.py as
 |.bI,v,u,h,r=>by rw[Rep.tI] at h;subst h;cases (show u=Value.none from r);exact⟨_,.none⟩
 |.bl b,v,u,h,r=>by rw[Rep.xX] at h;subst h;cases (show u=Value.bool b from r);exact⟨_,.bool b⟩
 |.int i,v,u,h,r=>by rw[Rep.bw] at h;subst h;obtain⟨t,rfl⟩:=(show ∃t,u=Value.int i t from r);exact⟨_,.int i t⟩
 |.str x,v,u,h,r=>by rw[Rep.bQ] at h;subst h;obtain⟨t,rfl⟩:=(show ∃t,u=Value.str x t from r);exact⟨_,.str x t⟩
 |.tup l,v,u,h,r=>by
  rw[Rep.bj] at h;obtain⟨p,xs,rfl,q,w⟩:=h;cases (show u=Value.ref p from r);obtain⟨aY,v1,t1,_⟩:=I.tuple q;obtain⟨as,ra⟩:=qO I w v1;obtain⟨o,h1,h2,n,h3⟩:=t1;unfold Dp.py;exact⟨as,.tuple h1 h2 h3 (by simpa using ra)⟩
 |.lst l,v,u,h,r=>by
  rw[Rep.bq] at h;obtain⟨p,xs,rfl,q,w⟩:=h;cases (show u=Value.ref p from r);obtain⟨aY,v1,t1,_⟩:=I.list q;obtain⟨as,ra⟩:=qO I w v1;obtain⟨o,h1,h2,n,h3⟩:=t1.isList;unfold Dp.py;exact⟨_,.list h1 h2 h3 (by simpa using ra)⟩
theorem qO(I:Inv X pins σ H s):∀ {ds:List Dp} {vs:List V} {us:List zdK},aQ X.K H ds vs->Vals vs us->∃as,ReadsAll s.heap us (Dp.pV ds) as
 |[],_,_,h,r=>by rw[aQ.bO] at h;subst h;cases r;unfold Dp.pV;exact⟨_,.nil⟩
 |d::ds,_,_,h,r=>by
  rw[aQ.aO] at h;obtain⟨v,vs,rfl,x,y⟩:=h;cases r with
  |cons r1 r2=>
   obtain⟨a,ra⟩:=mB I x r1;obtain⟨b,rb⟩:=qO I y r2;unfold Dp.pV;exact⟨_,.cons ra rb⟩
end
end
section
variable{X:Cx}
def Rc (K:zab) (neg:Bool):R2:=fun x y H Q=>∃d e,Rep K H d x/\Rep K H e y/\SeqAt.shaped d.py=true/\SeqAt.shaped e.py=true/\Q (.bl (if neg then !PyData.eqv d.py e.py else PyData.eqv d.py e.py)) H
theorem NU(hu:X.A.units+64<cLine):nU X (compareOp .Eq) (Rc X.K false):=by
 intro pins s σ H x y v u Q I rx ry h;obtain⟨d,e,h1,h2,s1,s2,q⟩:=h;obtain⟨as,ra⟩:=mB I h1 rx;obtain⟨bs,rb⟩:=mB I h2 ry;exact eq_dataH ra rb s1 s2 hu ⟨.bl (PyData.eqv d.py e.py),H,I,rfl,q⟩
theorem yh(hu:X.A.units+64<cLine):nU X (compareOp .NotEq) (Rc X.K true):=by
 intro pins s σ H x y v u Q I rx ry h;obtain⟨d,e,h1,h2,s1,s2,q⟩:=h;obtain⟨as,ra⟩:=mB I h1 rx;obtain⟨bs,rb⟩:=mB I h2 ry;exact ne_dataH ra rb s1 s2 hu ⟨.bl (!PyData.eqv d.py e.py),H,I,rfl,q⟩
end
mutual
theorem eqv_refl:∀d:Dp,PyData.eqv d.py d.py=true
 |.bI=>rfl
 |.bl b=>by simp[Dp.py,PyData.eqv]
 |.int i=>by simp[Dp.py,PyData.eqv]
 |.str x=>by simp[Dp.py,PyData.eqv]
 |.tup l=>by simp only[Dp.py,PyData.eqv];exact qP l
 |.lst l=>by simp only[Dp.py,PyData.eqv];exact qP l
theorem qP:∀l:List Dp,PyData.eqvAll (Dp.pV l) (Dp.pV l)=true
 |[]=>rfl
 |d::r=>by simp only[Dp.pV,PyData.eqvAll,eqv_refl d,qP r,Bool.and_true]
end
theorem aw{t u:TS}{D:Ends}{σ:St}{H:Hp}(h:∀U:St->Hp->Prop,(∀σ' H',U σ' H'↔u D σ' H')->t {D with nx:=U} σ H):BA t u D σ H:=h (u D) fun _ _=>Iff.rfl
theorem B3{A:zdU}{k:Nat}(hr:iW k A):A.units+64<cLine:=hr.units
end L2
namespace L2
open PySem
def Dw (K:zab):Sp:=fun vs H Q _=>∃(a:zdJ) (ns:List Int),vs=[.ref a]/\fU K H a (ns.map .int)/\ns.length<=63/\∀H',Q (.bl true) H'
open PyProof.Rows PySem.Spec
section
variable{X:Cx}{pins:List (zdJ×Obj)}{σ:St}{H:Hp}{s:zdT}{h':Heap}
theorem Inv.jn{t':Nat}{fp:List zdJ}(I:Inv X pins σ H s)(k:∀b o,b ∉ fp->s.heap.get? b=some o->h'.get? b=some o)(hf:∀b∈fp,pE X pins H b):Inv X pins σ H {s with heap:=h',toks:=t' }:=by
 have Qv:∀b u,H b=some u->b ∉ fp:=fun b u e z=>by rw[(hf b z).1] at e;cases e
 refine I.step (g':=s.gens) (d':=s.drawn) (ch:=fp) (fun b hb=>?_) (fun b o _ _ hc e _=>k b o hc e) (fun b o _ _ hc e _=>⟨o.slots,k b o hc e⟩) (fun _ _ _ _ n=>n)
  (fun b o hc e=>⟨o,k b o hc e⟩) (fun _ _ e=>e) (fun _ _ _ e=>e) (fun b ps e=>⟨#[],by rw[e];simp⟩) (fun m hm=>?_) (fun b u e=>?_) I.bare
 ·obtain⟨_,f1,_,f3,f4,f5⟩:=hf b hb;exact⟨f3,f1,f4,f5⟩
 ·obtain⟨o,es,ep,ho,r⟩:=hm;exact⟨o,es,ep,k _ o (fun z=>(hf _ z).2.1 rfl) ho,r⟩
 ·refine(I.cc b u e).zK (fun c v hc q=>k c v ?_ q) (fun _ q=>q) fun _ _ q=>q;rcases hc with z |z
  ·rw[z];exact Qv b u e
  ·exact Qv c _ z
end
def Rf (K:zab) (a:zdJ):It:=
 ⟨fun i H=>∃xs x,fU K H a xs/\xs[i]?=some x,fun i H x H'=>∃p y,x=.ref p/\H p=none/\H'=upd H p (.tup [.int i,y])/\∀xs,fU K H a xs->xs[i]?=some y,fun i H=>∃xs,fU K H a xs/\xs.length<=i⟩
theorem ET{P:zdV}{w:zdL}{K:zab}{elts:List Expr}{x1}{pos:Pos}(a e it:zdJ)(B4:e≠it) :
 Turn P w K (.Tuple elts x1 pos) (Rf K a) [e,it] e (fun i h=>(∃old,IsEnum h e it i old)/\h.IsListIter it a i) where
 mem:=by simp
 obj:=fun i h st b hb=>by
  obtain⟨⟨old,he⟩,o,eo,c,d⟩:=st;rcases zag.mp hb with rfl |hb
  ·exact⟨_,he,fun v z=>by cases (show Data.fields _=Data.cell v from z)⟩
  ·have z:b=it:=by simpa using hb
   subst z;exact⟨o,eo,fun v z=>by rw[d] at z;cases z⟩
 keep:=fun i h h' st k=>⟨st.1.elim fun old he=>⟨old,k e (by simp) _ he⟩,st.2.at fun o x=>k it (by simp) o x⟩
 item:=by
  intro X hP hw hK hc i pins s σ H E I hf st hg;subst hP hw hK;obtain⟨xs,x,hq,hx⟩:=hg;obtain⟨⟨old,he⟩,hit⟩:=st;obtain⟨aY,rv,p,hz⟩:=I.list hq;obtain⟨u,hu,ru⟩:=rv.get hx;refine wpAny_pyNext_enum_item he hit p.isList (x:=u) (by simpa using hu) B4 fun h' ho NV hT hsz hk=>?_;refine⟨_,rfl,?_⟩;refine wpAny_letOwnedTupleGo_enum ho fun h2 B5 sb=>?_;have GQ:e<s.heap.objs.size:=Heap.lt_size he;have GR:it<s.heap.objs.size:=by obtain⟨_,x,_⟩:=hit;exact Heap.lt_size x
  have I1:Inv X pins σ H {s with heap:=h2,toks:=s.toks+1}:=I.jn (t':=s.toks+1) (fun b o hb q=>(sb.2 b fun z=>hb (by simp[z])).trans (hk b o (fun z=>hb (by simp[z])) (fun z=>hb (by simp[z])) q)) hf;have fr:H s.heap.objs.size=none:=I.cc.fresh (zaj _);obtain⟨g0,g1,g2,g3,g4,g5⟩:=I.wa (zaj _) fr;have GS:h2.get? s.heap.objs.size=some {cls:=.type "tuple",data:=.seq #[.int i s.toks,u]}:=(sb.2 _ (za2 GQ)).trans hT;have I2:=I1.told (o:=.tup [.int i,x]) fr I.sz g1 g4 g5 ⟨(show (2:Nat)<=zdR by decide),[.int i s.toks,u],.cons ⟨_,rfl⟩ (.cons ru .nil),⟨_,GS,rfl,_,rfl⟩⟩;refine⟨.ref s.heap.objs.size,_,I2,rfl,⟨_,x,rfl,fr,rfl,fun ys hy=>by rw[I.zO hy hq];exact hx⟩,⟨⟨_,by exact_mod_cast B5⟩,NV.at fun o q=>(sb.2 it (Ne.symm B4)).trans q⟩,fun b hb=>?_⟩;rw[aD ?_]
  ·exact(hf b hb).1
  ·rcases zag.mp hb with rfl |hb
   ·exact zat GQ
   ·have z:b=it:=by simpa using hb
    subst z;exact zat GR
 done:=by
  intro X hP hw hK hc i pins s σ H E I hf st hg;subst hP hw hK;obtain⟨xs,hq,hx⟩:=hg;obtain⟨⟨old,he⟩,hit⟩:=st;obtain⟨aY,rv,p,hz⟩:=I.list hq;have hl:=rv.length;exact wpAny_pyNext_enum_end (I.ok.hd hc) he hit p.isList (by simp;lia) fun h' eb=>⟨rfl,I.jn (t':=s.toks) (fun b o hb q=>eb b o (fun z=>hb (by simp[z])) q) hf⟩
 self:=fun _ _ _ _ _ st h=>st.1.elim fun _ he=>wpAny_pyIter_enum he h
def Rh (K:zab) (ta:TA):TI:=fun σ H R=>ta σ H fun vs H1=>∃a,vs=[.ref a]/\(∃xs,fU K H1 a xs)/\R (Rf K a) H1
theorem Ku{X:Cx}{elts:List Expr}{x1}{tp:Pos}{a:Expr}{ta:TA}{p pos:Pos}(hg:Gl X "enumerate")(hm:X.mg "enumerate"=none)(ha:PA X [a] ta)(hs:zdP [a] X.env=[(false,eval a X.env)]:=by rfl) :
 PI X (.Tuple elts x1 tp) (.Call (.Name "enumerate" p) [a] [] pos) (Rh X.K ta):=by
 intro pins s σ H R I h;refine Call_ (kU I hg hm PyProof.Rows.Boot.«enumerate» (zaY (cS (ha pos pins s σ H _ I h) fun us s1 zqz=>?_) hs rfl));obtain⟨vs,H1,I1,r1,q1⟩:=zqz;obtain⟨l,e,⟨xs,hq⟩,q⟩:=q1;subst e;cases r1 with
 |cons r rr=>
  cases rr;cases (show _=Value.ref l from r);obtain⟨aY,rv,p,hz⟩:=I1.list hq;refine call_enumerate_list p.isList fun h' he hit hsz hk=>?_;refine wpAny_pyIter_enum he ?_;have fr:∀b,s1.heap.objs.size<=b->H1 b=none:=fun b hb=>I1.cc.fresh hb;refine⟨s1.heap.objs.size+1,[s1.heap.objs.size+1,s1.heap.objs.size],_,_,H1,rfl,I1.kept (t':=s1.toks) hk,ET l _ _ (Nat.succ_ne_self _),⟨⟨_,he⟩,hit⟩,fun b hb=>?_,q⟩;have qQ:s1.heap.objs.size<=b:=by
   rcases zag.mp hb with rfl |hb
   ·exact zcb _
   ·have z:b=s1.heap.objs.size:=by simpa using hb
    rw[z];exact zaj _
  exact I1.wa qQ (fr b qQ)
theorem GU{K:zab}{a:zdJ}{xs:List V}{g:TG}{tb:TS}{D:Ends}{σ:St}{H:Hp}(Pv:Nat->St->Hp->Prop)(h0:Pv 0 σ H)(hl:∀i σ H,i<=xs.length->Pv i σ H->fU K H a xs)
 (hs:∀i x σ H p,xs[i]?=some x->Pv i σ H->H p=none->g (.ref p) σ (upd H p (.tup [.int i,x])) fun σ2 H2=>tb {D with nx:=Pv (i+1),ct:=Pv (i+1),bk:=D.nx} σ2 H2) (hd:∀σ H,Pv xs.length σ H->D.nx σ H) :
 ∃W:Nat->Nat->St->Hp->Prop,(∃m,W 0 m σ H)/\∀i m σ H,W i m σ H->
  ((Rf K a).stop i H/\D.nx σ H)\/((Rf K a).go i H/\∃N:St->Hp->Prop,(∀σ' H',N σ' H'->∃m',m'<m/\W (i+1) m' σ' H')/\∀x H',(Rf K a).zS i H x H'->g x σ H' fun σ2 H2=>tb {D with nx:=N,ct:=N,bk:=D.nx} σ2 H2):=by
 refine⟨fun i m σ H=>m=xs.length-i/\i<=xs.length/\Pv i σ H,⟨xs.length,by simp,zaI _,h0⟩,?_⟩
 rintro i m σ H ⟨rfl,hi,p⟩
 have q:=hl i σ H hi p;by_cases jR:i<xs.length
 ·refine .inr ⟨⟨xs,xs[i],q,by simp[jR]⟩,Pv (i+1),fun σ' H' p'=>⟨xs.length-(i+1),by lia,rfl,jR,p'⟩,fun x H' y=>?_⟩;obtain⟨pp,v,rfl,hn,rfl,y⟩:=y;exact hs i v σ H pp (y xs q) p hn
 ·have e:i=xs.length:=by lia
  subst e;exact .inl ⟨⟨xs,q,zaj _⟩,hd σ H p⟩
theorem rY{X:Cx}:gV X (.type "int") (fun xs H Q=>∃b:Bool,xs=[.bl b]/\Q (.int (if b then 1 else 0)) H):=by
 intro pins s σ H xs us Q I r h;obtain⟨b,rfl,q⟩:=h;obtain⟨u,rfl,ru⟩:=vals1 r;cases (show u=Value.bool b from ru);exact PySem.call_int_bool ⟨.int (if b then 1 else 0),H,I.tok _,⟨_,rfl⟩,q⟩
open PySem.SeqAt
theorem qR{X:Cx}(hu:X.A.units+1<cLine):nU X (compareOp .NotEq) (fun x y H Q=>∃a b xs,x=.ref a/\y=.ref b/\fU X.K H a xs/\fU X.K H b []/\Q (.bl (!xs.isEmpty)) H):=by
 intro pins s σ H x y v u Q I rx ry h;obtain⟨a,b,xs,rfl,rfl,h1,h2,q⟩:=h;cases (show v=Value.ref a from rx);cases (show u=Value.ref b from ry);obtain⟨aY,v1,p1,_⟩:=I.list h1;obtain⟨its',v2,p2,_⟩:=I.list h2;cases v2;cases xs with
 |nil=>
  cases v1;exact(RcNeAt.lists (e:=fun _=>true) p1.isList p2.isList rfl (by lia) (fun j h1=>absurd h1 (by simp))) _ _ _ _ ⟨.bl false,H,I,rfl,q⟩
 |cons z zs=>
  cases v1;exact(RcNeAt.lists_lengths p1.isList p2.isList (by simp) (by lia)) _ _ _ _ ⟨.bl true,H,I,rfl,q⟩
def oT (val:W->Int):PM.Tr->Int
 |.num n=>n
 |.box x=>val x
 |.bin o l r=>if o=[43] then oT val l+oT val r else if o=[45] then oT val l-oT val r else oT val l*oT val r
theorem eL{K:zab}{tl:TE}{g:TG}{tb:TS}{D:Ends}{σ:St}{H:Hp} (h:∀U:zdJ->Hp->Prop,(∀a H1,(∃W:Nat->Nat->St->Hp->Prop,(∃m,W 0 m σ H1)/\∀i m σ H,W i m σ H->
 ((BE K a).stop i H/\D.nx σ H)\/((BE K a).go i H/\∃N:St->Hp->Prop,(∀σ' H',N σ' H'->∃m',m'<m/\W (i+1) m' σ' H')/\∀x H',(BE K a).zS i H x H'->g x σ H' fun σ2 H2=>tb {D with nx:=N,ct:=N,bk:=D.nx} σ2 H2))->U a H1)->
 tl σ H fun x H1=>∃a,x=.ref a/\(∃xs,fU K H1 a xs)/\U a H1):Ex (ue K tl) g tb D σ H:=h _ fun _ _ x=>x
theorem tK{a:Option V}{r:St}{H:Hp}{Q:VK}:(dM 10 (a::r) H Q)=(dM 9 r H Q):=rfl
theorem tL{a:Option V}{r:St}{H:Hp}{Q:VK}:(dM 11 (a::r) H Q)=(dM 10 r H Q):=rfl
theorem tM{a:Option V}{r:St}{H:Hp}{Q:VK}:(dM 12 (a::r) H Q)=(dM 11 r H Q):=rfl
end L2
namespace PG
open PM (W Tr)
structure cE where
 name:W
 size:Int
 first:Int
inductive bo where
 |ask (k:Int) (b:W)
 |put (k:Int) (b:W) (e:Tr)
 |say (k:Int) (e:Tr)
 |fD (k:Int) (sg:W) (l r:Tr)
 |stop (k:Int)
 |ifs (k:Int) (sg:W) (l r:Tr) (a b:List bo)
 |fK (k:Int) (sg:W) (l r:Tr) (a:List bo)
def bo.row:bo->Int
 |.ask k _=>k |.put k _ _=>k |.say k _=>k |.fD k _ _ _=>k |.stop k=>k |.ifs k _ _ _ _ _=>k |.fK k _ _ _ _=>k
inductive Wd where
 |ask |put |say |fD |stop |ifs |fK |Ri |fin
 deriving DecidableEq
def bo.wd:bo->Wd
 |.ask _ _=>.ask |.put _ _ _=>.put |.say _ _=>.say |.fD _ _ _ _=>.fD |.stop _=>.stop |.ifs _ _ _ _ _ _=>.ifs |.fK _ _ _ _ _=>.fK
def pick {α:Type} (d:α) (l:List α) (n:Int):α:=l.getD n.toNat d
def Mh:List W:=[[60],[61]]
abbrev Row:=Int×Wd
structure Prog where
 ay:List cE
 body:List bo
end PG
namespace PG
open PM (W Tr)
mutual
def kD:bo->List Row
 |.ifs k _ _ _ a b=>(k,.ifs)::(fC a++fC b)
 |.fK k _ _ _ a=>(k,.fK)::fC a
 |.ask k _=>[(k,.ask)]
 |.put k _ _=>[(k,.put)]
 |.say k _=>[(k,.say)]
 |.fD k _ _ _=>[(k,.fD)]
 |.stop k=>[(k,.stop)]
def fC:List bo->List Row
 |[]=>[]
 |s::r=>kD s++fC r
end
end PG
namespace PG
open PM (W Tr)
abbrev d7:=Int×Wd×List Int
def aB:List bo->Int->Int
 |[],x=>x
 |s::_,_=>s.row
mutual
def iK:bo->Int->List d7
 |.ifs k _ _ _ a b,x=>(k,.ifs,[aB a x,aB b x])::(aK a x++aK b x)
 |.fK k _ _ _ a,x=>(k,.fK,[aB a k,x])::aK a k
 |.ask k _,x=>[(k,.ask,[x])]
 |.put k _ _,x=>[(k,.put,[x])]
 |.say k _,x=>[(k,.say,[x])]
 |.fD k _ _ _,x=>[(k,.fD,[x])]
 |.stop k,_=>[(k,.stop,[0])]
def aK:List bo->Int->List d7
 |[],_=>[]
 |s::r,x=>iK s (aB r x)++aK r x
end
mutual
theorem EU:∀(s:bo) (x:Int),(iK s x).map (fun r=>(r.1,r.2.1))=kD s
 |.ifs k _ _ _ a b,x=>by simp[iK,kD,dU a x,dU b x]
 |.fK k _ _ _ a,x=>by simp[iK,kD,dU a k]
 |.ask k _,x=>rfl
 |.put k _ _,x=>rfl
 |.say k _,x=>rfl
 |.fD k _ _ _,x=>rfl
 |.stop k,_=>rfl
theorem dU:∀(b:List bo) (x:Int),(aK b x).map (fun r=>(r.1,r.2.1))=fC b
 |[],_=>rfl
 |s::r,x=>by simp[aK,fC,EU s _,dU r x]
end
end PG
namespace PG
open PM (W Tr)
mutual
def ka:bo->Nat
 |.ifs _ _ _ _ a b=>max (fc a) (fc b)+1
 |.fK _ _ _ _ a=>fc a+1
 |_=>0
def fc:List bo->Nat
 |[]=>0
 |s::r=>max (ka s) (fc r)
end
theorem pW:∀a b:List bo,fc (a++b)=max (fc a) (fc b)
 |[],b=>by simp[fc]
 |s::r,b=>by
  show fc (s::(r++b))=_;rw[fc,fc,pW r b,Nat.max_assoc]
theorem uT(s:bo):fc [s]=ka s:=by rw[fc,fc];simp
end PG
namespace PG
open PM (W Tr)
section
variable(nm:W->Prop)(ex:Tr->Prop)(sg:W->Prop)
mutual
def vS:bo->Prop
 |.ask _ b=>nm b
 |.put _ b e=>nm b/\ex e
 |.say _ e=>ex e
 |.fD _ s l r=>sg s/\ex l/\ex r
 |.stop _=>True
 |.ifs _ s l r a b=>sg s/\ex l/\ex r/\tN a/\tN b
 |.fK _ s l r a=>sg s/\ex l/\ex r/\tN a
def tN:List bo->Prop
 |[]=>True
 |s::r=>vS s/\tN r
end
end
def iz:Tr->Nat
 |.bin _ l r=>max (iz l) (iz r)+1
 |_=>0
end PG
namespace PG
open PM (W Tr)
mutual
def fM:bo->List bo
 |.ifs k sg l r a b=>.ifs k sg l r a b::(aE a++aE b)
 |.fK k sg l r a=>.fK k sg l r a::aE a
 |s=>[s]
def aE:List bo->List bo
 |[]=>[]
 |s::r=>fM s++aE r
end
mutual
theorem EV:∀s:bo,(fM s).map (fun x=>(x.row,x.wd))=kD s
 |.ifs k sg l r a b=>by
  rw[fM,kD,zaq,zaw,fe a,fe b];rfl
 |.fK k sg l r a=>by
  rw[fM,kD,zaq,fe a];rfl
 |.ask k _=>rfl
 |.put k _ _=>rfl
 |.say k _=>rfl
 |.fD k _ _ _=>rfl
 |.stop k=>rfl
theorem fe:∀b:List bo,(aE b).map (fun x=>(x.row,x.wd))=fC b
 |[]=>rfl
 |s::r=>by simp[aE,fC,EV s,fe r]
end
end PG
namespace PG
open PM (W Tr)
theorem GV{α:Type}(d:α){l:List α}{i:Int}(h0:0<=i)(h1:i<l.length):pick d l i∈l:=by
 unfold pick;have lt:i.toNat<l.length:=by lia
 rw[zaf,zaa lt];exact zao lt
section
variable{nm:W->Prop}{ex:Tr->Prop}{sg:W->Prop}
mutual
theorem Kv:∀(s x:bo),vS nm ex sg s->x∈fM s->vS nm ex sg x
 |.ifs k s l r a b,x,h,m=>by
  rw[fM] at m;rcases zag.mp m with rfl |m
  ·exact h
  ·rw[vS] at h;rcases zak.mp m with m |m
   ·exact je a x h.2.2.2.1 m
   ·exact je b x h.2.2.2.2 m
 |.fK k s l r a,x,h,m=>by
  rw[fM] at m;rcases zag.mp m with rfl |m
  ·exact h
  ·rw[vS] at h;exact je a x h.2.2.2 m
 |.ask k b,x,h,m=>by simp only[fM,zan] at m;subst m;exact h
 |.put k b e,x,h,m=>by simp only[fM,zan] at m;subst m;exact h
 |.say k e,x,h,m=>by simp only[fM,zan] at m;subst m;exact h
 |.fD k s l r,x,h,m=>by simp only[fM,zan] at m;subst m;exact h
 |.stop k,x,h,m=>by simp only[fM,zan] at m;subst m;exact h
theorem je:∀(b:List bo) (x:bo),tN nm ex sg b->x∈aE b->vS nm ex sg x
 |[],x,_,m=>by simp[aE] at m
 |s::r,x,h,m=>by
  rw[aE] at m;rw[tN] at h;rcases zak.mp m with m |m
  ·exact Kv s x h.1 m
  ·exact je r x h.2 m
end
end
end PG
namespace PG
open PM (W Tr)
def gX (bs:List cE):Tr->Prop
 |.num n=>0<=n/\n<1000
 |.box x=>x∈bs.map (·.name)
 |.bin o l r=>o∈([[43],[45],[42]]:List W)/\gX bs l/\gX bs r
end PG
namespace PG
theorem kE:∀(b:List bo) (x:Int),aB b x=x\/∃t∈aE b,t.row=aB b x
 |[],x=>.inl rfl
 |s::r,x=>.inr ⟨s,by rw[aE];exact zb5 _ (by cases s<;>simp[fM]),rfl⟩
mutual
theorem GW:∀(s:bo) (x:Int),∀r∈iK s x,∀w∈r.2.2,w=0\/w=x\/∃t∈fM s,t.row=w
 |.ifs k sg l r a b,x,y,h,w,hw=>by
  rw[iK] at h;simp only[zag,zak] at h;rw[fM];rcases h with rfl |h |h
  ·simp only[zag,List.mem_nil_iff,or_false] at hw;rcases hw with rfl |rfl
   ·rcases kE a x with e |⟨t,ht,e⟩
    ·exact .inr (.inl e)
    ·exact .inr (.inr ⟨t,by simp[ht],e⟩)
   ·rcases kE b x with e |⟨t,ht,e⟩
    ·exact .inr (.inl e)
    ·exact .inr (.inr ⟨t,by simp[ht],e⟩)
  ·rcases mC a x y h w hw with e |e |⟨t,ht,e⟩
   ·exact .inl e
   ·exact .inr (.inl e)
   ·exact .inr (.inr ⟨t,by simp[ht],e⟩)
  ·rcases mC b x y h w hw with e |e |⟨t,ht,e⟩
   ·exact .inl e
   ·exact .inr (.inl e)
   ·exact .inr (.inr ⟨t,by simp[ht],e⟩)
 |.fK k sg l r a,x,y,h,w,hw=>by
  rw[iK] at h;simp only[zag] at h;rw[fM];have self:w=k->∃t∈(bo.fK k sg l r a::aE a),t.row=w:=fun e=>⟨_,zaB ..,e.symm⟩
  rcases h with rfl |h
  ·simp only[zag,List.mem_nil_iff,or_false] at hw;rcases hw with rfl |rfl
   ·rcases kE a k with e |⟨t,ht,e⟩
    ·exact .inr (.inr (self e))
    ·exact .inr (.inr ⟨t,by simp[ht],e⟩)
   ·exact .inr (.inl rfl)
  ·rcases mC a k y h w hw with e |e |⟨t,ht,e⟩
   ·exact .inl e
   ·exact .inr (.inr (self e))
   ·exact .inr (.inr ⟨t,by simp[ht],e⟩)
 |.ask k _,x,y,h,w,hw=>by simp[iK] at h;subst h;simp at hw;exact .inr (.inl hw)
 |.put k _ _,x,y,h,w,hw=>by simp[iK] at h;subst h;simp at hw;exact .inr (.inl hw)
 |.say k _,x,y,h,w,hw=>by simp[iK] at h;subst h;simp at hw;exact .inr (.inl hw)
 |.fD k _ _ _,x,y,h,w,hw=>by simp[iK] at h;subst h;simp at hw;exact .inr (.inl hw)
 |.stop k,x,y,h,w,hw=>by simp[iK] at h;subst h;simp at hw;exact .inl hw
theorem mC:∀(b:List bo) (x:Int),∀r∈aK b x,∀w∈r.2.2,w=0\/w=x\/∃t∈aE b,t.row=w
 |[],x,y,h,_,_=>by simp[aK] at h
 |s::r,x,y,h,w,hw=>by
  rw[aK,zak] at h;rw[aE];rcases h with h |h
  ·rcases GW s _ y h w hw with e |e |⟨t,ht,e⟩
   ·exact .inl e
   ·rcases kE r x with e2 |⟨t,ht,e2⟩
    ·exact .inr (.inl (e.trans e2))
    ·exact .inr (.inr ⟨t,zaQ _ ht,e2.trans e.symm⟩)
   ·exact .inr (.inr ⟨t,zb5 _ ht,e⟩)
  ·rcases mC r x y h w hw with e |e |⟨t,ht,e⟩
   ·exact .inl e
   ·exact .inr (.inl e)
   ·exact .inr (.inr ⟨t,zaQ _ ht,e⟩)
end
end PG
namespace L2
open PySem
def xk:PG.Wd->Str
 |.ask=>"ask" |.put=>"put" |.say=>"say" |.fD=>"must" |.stop=>"stop" |.ifs=>"if" |.fK=>"while" |.Ri=>"else" |.fin=>"end"
mutual
def eF:PG.bo->Dp
 |.ask k b=>.tup [.str "ask",.int k,.str (S b)]
 |.put k b e=>.tup [.str "put",.int k,.str (S b),ky e]
 |.say k e=>.tup [.str "say",.int k,ky e]
 |.fD k sg l r=>.tup [.str "must",.int k,.str (S sg),ky l,ky r]
 |.stop k=>.tup [.str "stop",.int k]
 |.ifs k sg l r a b=>.tup [.str "if",.int k,.str (S sg),ky l,ky r,.lst (yi a),.lst (yi b)]
 |.fK k sg l r a=>.tup [.str "while",.int k,.str (S sg),ky l,ky r,.lst (yi a)]
def yi:List PG.bo->List Dp
 |[]=>[]
 |s::r=>eF s::yi r
end
theorem cG:∀l:List PG.bo,yi l=l.map eF
 |[]=>rfl
 |s::r=>by rw[yi,cG r];rfl
def jz (b:PG.cE):Dp:=.tup [.str (S b.name),.int b.size,.int b.first]
def hX (p:PG.Prog):Dp:=.tup [.lst (p.ay.map jz),.lst (p.body.map eF)]
def a0 (O:zdJ->Prop) (H H':Hp):Prop:=∀b o,¬O b->H b=some o->H' b=some o
def Fix (K:zab) (O:zdJ->Prop) (H:Hp) (d:Dp) (v:V):Prop:=∀H',a0 O H H'->Rep K H' d v
def eM (K:zab) (O:zdJ->Prop) (H:Hp) (ds:List Dp) (vs:List V):Prop:=∀H',a0 O H H'->aQ K H' ds vs
section
variable{K:zab}{O O':zdJ->Prop}{H H1 H2:Hp}{d:Dp}{ds:List Dp}{v:V}{vs:List V}{p:zdJ}{o:HO}
theorem a0.refl:a0 O H H:=fun _ _ _ e=>e
theorem a0.trans(a:a0 O H H1)(b:a0 O H1 H2):a0 O H H2:=fun c u n e=>b c u n (a c u n e)
theorem a0.of(s:aq H H1):a0 O H H1:=fun b u _ e=>s b u e
theorem a0.mono(a:a0 O H H1)(i:∀b,O b->O' b):a0 O' H H1:=fun b u n e=>a b u (fun z=>n (i b z)) e
theorem a0.one(a:bc p H H1)(hp:O p):a0 O H H1:=fun b u n e=>a b u (fun z=>n (by rw[z];exact hp)) e
theorem a0.put(a:a0 O H H1)(hp:O p)(u:HO):a0 O H (upd H1 p u):=fun b w n e=>by rw[aD (fun z=>n (by rw[z];exact hp))];exact a b w n e
theorem Fix.up(f:Fix K O H d v)(u:a0 O H H1):Fix K O H1 d v:=fun H2 u2=>f H2 (u.trans u2)
theorem eM.up(f:eM K O H ds vs)(u:a0 O H H1):eM K O H1 ds vs:=fun H2 u2=>f H2 (u.trans u2)
theorem Fix.rep(f:Fix K O H d v):Rep K H d v:=f H .refl
theorem eM.B6(f:eM K O H ds vs):aQ K H ds vs:=f H .refl
theorem Fix.sub(f:Fix K O H d v)(i:∀b,O' b->O b):Fix K O' H d v:=fun H2 u=>f H2 (u.mono i)
theorem eM.nil:eM K O H [] []:=fun _ _=>.nil
theorem eM.cons(a:Fix K O H d v)(b:eM K O H ds vs):eM K O H (d::ds) (v::vs):=fun H2 u=>.cons (a H2 u) (b H2 u)
theorem eM.snoc(b:eM K O H ds vs)(a:Fix K O H d v):eM K O H (ds++[d]) (vs++[v]):=fun H2 u=>(b H2 u).append (.cons (a H2 u) .nil)
theorem Fix.int{i:Int}:Fix K O H (.int i) (.int i):=fun _ _=>Rep.bw.mpr rfl
theorem Fix.str{x:Str}:Fix K O H (.str x) (.str x):=fun _ _=>Rep.bQ.mpr rfl
theorem Fix.tup(h:H p=some (.tup vs))(n:¬O p)(f:eM K O H ds vs):Fix K O H (.tup ds) (.ref p):=fun H2 u=>Rep.bj.mpr ⟨p,vs,rfl,.of (u p _ n h),f H2 u⟩
theorem Fix.lst(h:H p=some (.lst vs))(n:¬O p)(f:eM K O H ds vs):Fix K O H (.lst ds) (.ref p):=fun H2 u=>Rep.bq.mpr ⟨p,vs,rfl,.of (u p _ n h),f H2 u⟩
end
end L2
namespace L2
open PySem
theorem tO{a:Option V}{r:St}{H:Hp}{Q:VK}:(dM 13 (a::r) H Q)=(dM 12 r H Q):=rfl
theorem tP{a:Option V}{r:St}{H:Hp}{Q:VK}:(dM 14 (a::r) H Q)=(dM 13 r H Q):=rfl
def jA (K:zab) (O:zdJ->Prop) (H:Hp) (B:zdJ) (bs:List PG.cE):Prop:=Fix K O H (.lst (bs.map jz)) (.ref B)/\bs.length<=10
def Own (K:zab) (H0 H:Hp) (d:Dp) (v:V):Prop:=∀O:zdJ->Prop,(∀b,O b->H0 b≠none)->Fix K O H d v
section
variable{K:zab}{O:zdJ->Prop}{H0 H H1:Hp}{d:Dp}{v:V}{D B:zdJ}{bs:List PG.cE}
theorem Own.up(f:Own K H0 H d v)(u:bc D H H1)(hD:H0 D≠none):Own K H0 H1 d v:=fun O hO=>by
 have:=f (fun b=>O b\/b=D) (fun b hb=>hb.elim (hO b) (fun e=>e▸hD));exact(this.up (a0.one u (.inr rfl))).sub fun b hb=>.inl hb
theorem Own.back{TF:Hp}(f:Own K H0 H d v)(h:∀b,TF b≠none->H0 b≠none):Own K TF H d v:=fun O hO=>f O fun b hb=>h b (hO b hb)
theorem jA.up(f:jA K (·=D) H B bs)(u:bc D H H1):jA K (·=D) H1 B bs:=⟨f.1.up (a0.one u rfl),f.2⟩
theorem jA.same(f:jA K (·=D) H B bs)(s:aq H H1):jA K (·=D) H1 B bs:=⟨f.1.up (.of s),f.2⟩
theorem bc.lT(u:bc D H H1)(hD:H1 D≠none):∀b,H b≠none->H1 b≠none:=fun b hb=>by
 by_cases e:b=D
 ·rw[e];exact hD
 ·cases z:H b with
  |none=>exact absurd z hb
  |some o=>rw[u b o e z];simp
theorem jA.list(f:jA K O H B bs):∃xs,fU K H B xs/\xs.length=bs.length/\∀(i:Nat) (b:PG.cE),bs[i]?=some b->∃a ys,xs[i]?=some (.ref a)/\cF K H a ys/\ys=[.str (S b.name),.int b.size,.int b.first]:=by
 have r:=f.1.rep;rw[Rep.bq] at r;obtain⟨a,xs,e,q,rs⟩:=r;cases e;refine⟨xs,q,by rw[rs.length,zad],fun i b hb=>?_⟩;obtain⟨v,hv,rv⟩:=rs.get (i:=i) (d:=jz b) (by rw[zal,hb];rfl);unfold jz at rv;rw[Rep.bj] at rv;obtain⟨a2,ys,rfl,q2,r2⟩:=rv;refine⟨a2,ys,hv,q2,?_⟩;rw[aQ.aO] at r2;obtain⟨v1,t1,rfl,e1,r2⟩:=r2;rw[aQ.aO] at r2;obtain⟨v2,t2,rfl,e2,r2⟩:=r2;rw[aQ.aO] at r2;obtain⟨v3,t3,rfl,e3,r2⟩:=r2;rw[aQ.bO] at r2;subst r2;rw[Rep.bQ] at e1;rw[Rep.bw] at e2 e3;subst e1 e2 e3;rfl
end
def EW (K:zab) (H0 H:Hp) (ds:List Dp) (vs:List V):Prop:=∀O:zdJ->Prop,(∀b,O b->H0 b≠none)->eM K O H ds vs
section
variable{K:zab}{H0 H H1:Hp}{d:Dp}{v:V}{ds:List Dp}{vs:List V}{D p:zdJ}
theorem EW.nil:EW K H0 H [] []:=fun _ _=>eM.nil
theorem EW.cons(a:Own K H0 H d v)(b:EW K H0 H ds vs):EW K H0 H (d::ds) (v::vs):=fun O h=>eM.cons (a O h) (b O h)
theorem Own.int{i:Int}:Own K H0 H (.int i) (.int i):=fun _ _=>Fix.int
theorem Own.str{x:Str}:Own K H0 H (.str x) (.str x):=fun _ _=>Fix.str
end
theorem jA.pick{K:zab}{O:zdJ->Prop}{H:Hp}{B:zdJ}{bs:List PG.cE}(f:jA K O H B bs){i:Int}(h0:0<=i)(h1:i<bs.length){Q:VK}(q:Q (.str (S (PG.pick ⟨[],0,0⟩ bs i).name)) H) :
 NG K (.ref B) (.int i) H (fun x H1=>me K x (.int 0) H1 Q):=by
 obtain⟨xs,hx,_,get⟩:=f.list;have lt:i.toNat<bs.length:=by lia
 have e:bs[i.toNat]?=some (PG.pick ⟨[],0,0⟩ bs i):=by
  unfold PG.pick;rw[zaf,zaa lt];rfl
 obtain⟨a,ys,hy,q2,rfl⟩:=get _ _ e;have ei:i=((i.toNat:Nat):Int):=by lia
 refine cx hx (v:=.ref a) (by rw[ei];exact aC hy) (aJ q2 (v:=.str (S (PG.pick ⟨[],0,0⟩ bs i).name)) (aC (j:=0) rfl) q)
theorem bF{X:Cx}{K:zab}(h:X.K=K):QY X (me K):=h▸ax
def aU:PG.bo->List (List PG.bo)
 |.ifs _ _ _ _ a b=>[a,b]
 |.fK _ _ _ _ a=>[a]
 |_=>[]
def gA (s:PG.bo) (x:Int):Int:=match s with
 |.fK k _ _ _ _=>k
 |_=>x
def mD (s:PG.bo) (x:Int):List Int:=match s with
 |.stop _=>[0]
 |.ifs _ _ _ _ a b=>[PG.aB a x,PG.aB b x]
 |.fK k _ _ _ a=>[PG.aB a k,x]
 |_=>[x]
theorem GX(s:PG.bo)(x:Int):PG.iK s x=(s.row,s.wd,mD s x)::((aU s).flatMap fun b=>PG.aK b (gA s x)):=by
 cases s<;>simp[PG.iK,PG.bo.row,PG.bo.wd,mD,aU,gA]
def hZ (r:PG.d7):Dp:=.tup [.int r.1,.str (xk r.2.1),.tup (r.2.2.map .int)]
section
variable(K:zab)
inductive pX(vs:List V)(H:Hp)(Q:VK)(E:XK):Prop
 |mk (b:zdJ) (body:List PG.bo) (x:Int):vs=[.ref b,.int x]->Rep K H (.lst (body.map eF)) (.ref b)->body.length<=100000->Q (.int (PG.aB body x)) H->pX vs H Q E
inductive uU(vs:List V)(H:Hp)(Q:VK)(E:XK):Prop
 |mk (v:V) (st:PG.bo) (x:Int):vs=[v,.int x]->Rep K H (eF st) v->Q (.int (gA st x)) H->uU vs H Q E
inductive pY(vs:List V)(H:Hp)(Q:VK)(E:XK):Prop
 |mk (v:V) (st:PG.bo) (H0:Hp):vs=[v]->Rep K H0 (eF st) v->aq H0 H->(∀l us H',aq H H'->H l=none->H' l=some (.lst us)->aQ K H0 ((aU st).map fun b=>.lst (b.map eF)) us->Q (.ref l) H')->pY vs H Q E
end
theorem ib{K:zab}{H:Hp}:∀(s:PG.bo) {v:V},Rep K H (eF s) v->∃a ys,v=.ref a/\cF K H a (.str (xk s.wd) :: .int s.row::ys):=by
 intro s v h;have key:∃ds,eF s=.tup (.str (xk s.wd) :: .int s.row::ds):=by
  cases s<;>exact⟨_,by rw[eF];rfl⟩
 obtain⟨ds,e⟩:=key;rw[e,Rep.bj] at h;obtain⟨a,xs,rfl,q,r⟩:=h;rw[aQ.aO] at r;obtain⟨v1,t1,rfl,e1,r⟩:=r;rw[aQ.aO] at r;obtain⟨v2,t2,rfl,e2,_⟩:=r;rw[Rep.bQ] at e1;rw[Rep.bw] at e2;subst e1 e2;exact⟨a,t2,rfl,q⟩
section
variable(K:zab)
def GY (st:PG.bo):Prop:=∀b∈aU st,b.length<=100000
inductive B7(vs:List V)(H:Hp)(Q:VK)(E:XK):Prop
 |mk (v:V) (st:PG.bo) (x:Int):vs=[v,.int x]->Rep K H (eF st) v->GY st->(∀u H',aq H H'->Rep K H' (.tup ((mD st x).map .int)) u->Q u H')->B7 vs H Q E
end
mutual
def Kw:Dp->Bool
 |.lst _=>false
 |.tup l=>sQ l
 |_=>true
def sQ:List Dp->Bool
 |[]=>true
 |d::r=>Kw d&&sQ r
end
section
variable{K:zab}{H H':Hp}{tl:zdJ}{xs:List V}
mutual
theorem Am(h:H tl=some (.lst xs))(u:a0 (·=tl) H H'):∀(d:Dp) (v:V),Kw d=true->Rep K H d v->Rep K H' d v
 |.bI,v,_,r=>by rw[Rep.tI] at r ⊢;exact r
 |.bl b,v,_,r=>by rw[Rep.xX] at r ⊢;exact r
 |.int b,v,_,r=>by rw[Rep.bw] at r ⊢;exact r
 |.str b,v,_,r=>by rw[Rep.bQ] at r ⊢;exact r
 |.lst l,v,e,_=>by rw[Kw] at e;cases e
 |.tup l,v,e,r=>by
  rw[Kw] at e;rw[Rep.bj] at r ⊢;obtain⟨a,ys,rfl,q,rs⟩:=r;refine⟨a,ys,rfl,?_,qS h u l ys e rs⟩;rcases q with (q |⟨o,q⟩) |q
  ·exact .inl (.inl (u _ _ (fY q h (by intro z;cases z)) q))
  ·exact .inl (.inr ⟨o,u _ _ (fY q h (by intro z;cases z)) q⟩)
  ·exact .inr q
theorem qS(h:H tl=some (.lst xs))(u:a0 (·=tl) H H'):∀(ds:List Dp) (vs:List V),sQ ds=true->aQ K H ds vs->aQ K H' ds vs
 |[],vs,_,r=>by rw[aQ.bO] at r ⊢;exact r
 |d::ds,vs,e,r=>by
  rw[sQ,za5] at e;rw[aQ.aO] at r ⊢;obtain⟨v,t,rfl,r1,r2⟩:=r;exact⟨v,t,rfl,Am h u d v e.1 r1,qS h u ds t e.2 r2⟩
end
theorem Kx(h:H tl=some (.lst xs)){ds:List Dp}{vs:List V}(e:sQ ds=true)(r:aQ K H ds vs):eM K (·=tl) H ds vs:=fun _ u=>qS h u ds vs e r
theorem NW(h:H tl=some (.lst xs)){d:Dp}{v:V}(e:Kw d=true)(r:Rep K H d v):Fix K (·=tl) H d v:=fun _ u=>Am h u d v e r
end
theorem qT:∀l:List Int,sQ (l.map .int)=true
 |[]=>by simp[sQ]
 |i::r=>by rw[zaq,sQ,qT r];simp[Kw]
theorem GZ(r:PG.d7):Kw (hZ r)=true:=by simp[hZ,Kw,sQ,qT]
theorem xl:∀l:List PG.d7,sQ (l.map hZ)=true
 |[]=>by simp[sQ]
 |r::l=>by rw[zaq,sQ,GZ,xl l];rfl
section
variable(K:zab)
inductive pZ(n:Nat)(vs:List V)(H:Hp)(Q:VK)(E:XK):Prop
 |mk (b:zdJ) (body:List PG.bo) (x:Int):vs=[.ref b,.int x]->Rep K H (.lst (body.map eF)) (.ref b)->PG.fc body<n->(PG.fC body).length<=1000->(∀l us H',aq H H'->H l=none->H' l=some (.lst us)->aQ K H' ((PG.aK body x).map hZ) us->Q (.ref l) H')->pZ n vs H Q E
end
mutual
theorem k0:∀(s:PG.bo) (b:List PG.bo),b∈aU s->(PG.fC b).length+1<=(PG.kD s).length/\PG.fc b+1<=PG.ka s
 |.ifs k _ _ _ x y,b,h=>by
  simp only[aU,zag,zaT,or_false] at h;rw[PG.kD,PG.ka];simp only[zai,zau];rcases h with rfl |rfl<;>lia
 |.fK k _ _ _ x,b,h=>by
  simp only[aU,zag,zaT,or_false] at h;rw[PG.kD,PG.ka];simp only[zai];subst h;lia
 |.ask _ _,b,h=>by cases h
 |.put _ _ _,b,h=>by cases h
 |.say _ _,b,h=>by cases h
 |.fD _ _ _ _,b,h=>by cases h
 |.stop _,b,h=>by cases h
end
theorem qU:∀(l:List PG.bo) (s:PG.bo),s∈l->(PG.kD s).length<=(PG.fC l).length/\PG.ka s<=PG.fc l
 |[],s,h=>by cases h
 |a::r,s,h=>by
  rw[PG.fC,PG.fc,zau];rcases zag.mp h with rfl |h
  ·lia
  ·have:=qU r s h;lia
theorem EX(s:PG.bo):1<=(PG.kD s).length:=by cases s<;>simp[PG.kD]
theorem ic:∀l:List PG.bo,l.length<=(PG.fC l).length
 |[]=>zaI _
 |s::r=>by
  rw[PG.fC,zau,zai];have:=EX s;have:=ic r;lia
section
variable(K:zab)
def G0:Sp:=fun vs H Q _=>∃(v:V) (pr:PG.Prog),vs=[v]/\Rep K H (hX pr) v/\PG.fc pr.body<=4/\(PG.fC pr.body).length<=1000/\
 ∀l us H',aq H H'->H l=none->H' l=some (.lst us)->aQ K H' ((PG.aK pr.body 0).map hZ) us->Q (.ref l) H'
end
end L2
namespace L2
open PySem
theorem fN:∀t:PM.Tr,(ky t).deep<=PG.iz t+1
 |.num n=>by simp[ky,Dp.deep,Dp.fA]
 |.box n=>by simp[ky,Dp.deep,Dp.fA]
 |.bin o l r=>by
  have:=fN l;have:=fN r;simp only[ky,Dp.deep,Dp.fA,PG.iz];lia
abbrev Yq:PG.bo->Prop:=PG.vS (fun _=>True) (fun e=>PG.iz e<=2) (fun _=>True)
abbrev Rj:List PG.bo->Prop:=PG.tN (fun _=>True) (fun e=>PG.iz e<=2) (fun _=>True)
mutual
theorem Ha:∀s:PG.bo,Yq s->(eF s).deep<=2*PG.ka s+4
 |.ask k b,h=>by simp[eF,Dp.deep,Dp.fA]
 |.put k b e,h=>by
  simp only[PG.vS] at h;have:=fN e;simp only[eF,Dp.deep,Dp.fA,PG.ka];lia
 |.say k e,h=>by
  simp only[PG.vS] at h;have:=fN e;simp only[eF,Dp.deep,Dp.fA,PG.ka];lia
 |.fD k sg l r,h=>by
  simp only[PG.vS] at h;have:=fN l;have:=fN r;simp only[eF,Dp.deep,Dp.fA,PG.ka];lia
 |.stop k,h=>by simp[eF,Dp.deep,Dp.fA]
 |.ifs k sg l r a b,h=>by
  simp only[PG.vS] at h;have:=fN l;have:=fN r;have:=kF a h.2.2.2.1;have:=kF b h.2.2.2.2;simp only[eF,Dp.deep,Dp.fA,PG.ka];lia
 |.fK k sg l r a,h=>by
  simp only[PG.vS] at h;have:=fN l;have:=fN r;have:=kF a h.2.2.2;simp only[eF,Dp.deep,Dp.fA,PG.ka];lia
theorem kF:∀b:List PG.bo,Rj b->Dp.fA (yi b)<=2*PG.fc b+4
 |[],h=>by simp[yi,Dp.fA]
 |s::r,h=>by
  simp only[PG.tN] at h;have:=Ha s h.1;have:=kF r h.2;simp only[yi,Dp.fA,PG.fc];lia
end
theorem uV:∀b:List PG.cE,Dp.fA (b.map jz)<=1
 |[]=>by simp[Dp.fA]
 |s::r=>by
  have:=uV r;simp only[zaq,Dp.fA,jz,Dp.deep];lia
theorem EY{K:zab}{a D:zdJ}{xs:List V}{tc:TT}{te:TE}{Q:VK}{r:St}{H:Hp}(p:Nat->Bool)(f:Nat->V)(hS:cF K H a xs)(hl:xs.length<=16000000)(hD:H D=none)
 (test:∀i x,xs[i]?=some x->∀H2,aq H H2->∀R:Bool->Hp->Prop,(∀H3,aq H2 H3->R (p i) H3)->tc (some x::r) H2 R)
 (step:∀i x,xs[i]?=some x->p i=true->∀H2,aq H H2->∀R:VK,(∀H3,aq H2 H3->R (f i) H3)->te (some x::r) H2 R)
 (q:∀H2,aq H H2->H2 D=some (.lst (((zaC xs.length).filter p).map f))->Q (.ref D) H2):jW (Tq K a) D (eG 0) tc te Q (none::r) (upd H D (.lst [])):=by
 refine⟨fun i m τ H2=>m=xs.length-i/\i<=xs.length/\(∃x,τ=x::r)/\aq H H2/\H2 D=some (.lst (((zaC i).filter p).map f)),⟨xs.length,by simp,zaI _,⟨none,rfl⟩,aq.new hD _,by rw[ai];simp⟩,?_⟩
 rintro i m τ H2 ⟨rfl,hi,⟨x,rfl⟩,s2,h2⟩
 by_cases jR:i<xs.length
 ·refine .inr ⟨⟨xs,xs[i],s2.br hS,by simp[jR]⟩,fun τ' H'=>(∃x,τ'=x::r)/\aq H H'/\H' D=some (.lst (((zaC (i+1)).filter p).map f)),fun τ' H' ⟨h1,h3,h4⟩=>⟨xs.length-(i+1),by lia,rfl,jR,h1,h3,h4⟩,fun y H' hy=>?_⟩;obtain⟨rfl,hy⟩:=hy;have ey:=hy _ (s2.br hS);simp only[eG,zbA];refine test i y ey _ s2 _ fun H3 s3=>?_;have yj:=s2.trans s3;have h3:=s3 _ _ h2;rw[zcz,List.filter_append,zaw];cases hp:p i with
  |false=>
   rw[if_neg zar];exact⟨⟨_,rfl⟩,yj,by rw[h3];simp[hp]⟩
  |true=>
   rw[if_pos rfl];refine step i y ey hp _ yj _ fun H4 s4=>⟨_,s4 _ _ h3,?_,⟨_,rfl⟩,?_,?_⟩
   ·have h1:(((zaC i).filter p).map f).length<=i:=by
     rw[zad];exact zax (List.length_filter_le _ _) (by rw[zbE];lia)
    have:zdR=2 ^ 24:=rfl;lia
   ·intro b o e;rw[aD (aF e hD)];exact s4 _ _ (yj _ _ e)
   ·rw[ai];simp[hp]
 ·have e:i=xs.length:=by lia
  subst e;exact .inl ⟨⟨xs,s2.br hS,zaj _⟩,q H2 s2 h2⟩
end L2
namespace L2
open PySem
theorem B8{kvs:List (Key×V)}{k:Key}{v:V}(h:k ∉ kvs.map (·.1)):putK kvs k v=kvs++[(k,v)]:=by
 unfold putK;rw[if_neg];intro z;rw[zbu] at z;obtain⟨x,hx,e⟩:=z;exact h (zaJ.mpr ⟨x,hx,of_decide_eq_true e⟩)
theorem oU:∀(more kvs:List (Key×V)),((kvs++more).map (·.1)).Nodup->hJ kvs more=kvs++more
 |[],kvs,_=>by simp[hJ]
 |p::r,kvs,h=>by
  have hp:p.1 ∉ kvs.map (·.1):=fun z=>by
   rw[zaw,zbF] at h;exact h.2.2 _ z _ (by simp) rfl
  show hJ (putK kvs p.1 p.2) r=_;rw[B8 hp,oU r _ (by rw[za0];exact h),za0];rfl
def ja (ss:List PG.bo) (vs:List V):List (Key×V):=zbf (fun s v=>(Sum.inl s.row,v)) ss vs
theorem uW:∀(ss:List PG.bo) (vs:List V),vs.length=ss.length->(ja ss vs).map (·.1)=ss.map fun s=>(Sum.inl s.row:Key)
 |[],[],_=>rfl
 |[],_::_,h=>by simp at h
 |_::_,[],h=>by simp at h
 |s::ss,v::vs,h=>by
  show _::(ja ss vs).map (·.1)=_;rw[uW ss vs (by simpa using h)];rfl
theorem uX{ss:List PG.bo}(h:ss.Pairwise fun a b=>a.row<b.row):(ss.map fun s=>(Sum.inl s.row:Key)).Nodup:=by
 refine zaL.mpr (h.imp fun {a b} NX e=>?_);have:=Sum.inl.inj e;lia
theorem p0:∀(ss:List PG.bo) (vs:List V),vs.length=ss.length->ss.Pairwise (fun a b=>a.row<b.row)->∀i (hi:i<ss.length) v,vs[i]?=some v->c0 (ja ss vs) (.inl ss[i].row)=some v
 |[],_,_,_,i,hi,_,_=>by simp at hi
 |_::_,[],h,_,_,_,_,_=>by simp at h
 |s::ss,v::vs,h,hp,0,hi,u,hu=>by
  simp at hu;subst hu;show c0 ((_,v)::ja ss vs) _=_;exact cT rfl
 |s::ss,v::vs,h,hp,i+1,hi,u,hu=>by
  rw[zbc] at hp;have lt:=hp.1 (ss[i]'(by simpa using hi)) (zao _);show c0 ((.inl s.row,v)::ja ss vs) (.inl (ss[i]'(by simpa using hi)).row)=_;rw[cU (fun e=>by have e:=Sum.inl.inj e;lia)];exact p0 ss vs (by simpa using h) hp.2 i (by simpa using hi) u (by simpa using hu)
theorem Ky(s:PG.bo):PG.fM s=s::(aU s).flatMap PG.aE:=by
 cases s<;>simp[PG.fM,aU]
section
variable(K:zab)
inductive ny(n:Nat)(vs:List V)(H:Hp)(Q:VK)(E:XK):Prop
 |mk (b:zdJ) (body:List PG.bo) (H0:Hp):vs=[.ref b]->aq H0 H->Rep K H0 (.lst (body.map eF)) (.ref b)->PG.fc body<n->(PG.fC body).length<=1000->(∀l us H',aq H H'->H l=none->H' l=some (.lst us)->aQ K H0 ((PG.aE body).map eF) us->Q (.ref l) H')->ny n vs H Q E
end
theorem mE:∀a b:List PG.bo,PG.aE (a++b)=PG.aE a++PG.aE b
 |[],b=>by simp[PG.aE]
 |s::r,b=>by
  show PG.aE (s::(r++b))=_;rw[PG.aE,PG.aE,mE r b,za0]
theorem Hc(s:PG.bo):PG.aE [s]=PG.fM s:=by rw[PG.aE,PG.aE,zba]
theorem qa(b:List PG.bo):(PG.aE b).length=(PG.fC b).length:=by rw[<- PG.fe,zad]
end L2
namespace HT
open PySem PySem.Spec PyProof.Rows
section
variable{prog:zdV}{w:zdL}{A:zdU}{E:zdK->zdT->Prop}{s:zdT}
theorem nO{t sl:zdJ}{items:Array zdK}{vl vu:zdK}{lo hi:Option Int}{Q:zdK->zdT->Prop}(ht:IsTup s.heap t items)(hs:s.heap.IsSliceOf sl vl vu .none)(pl:IsPart vl lo)(pu:IsPart vu hi)
 (hw:eY items.size 0 lo=0/\eY items.size items.size hi=items.size) (h:Q (.ref t) s):wpAny (model prog w) A (getItem (.ref t) (.ref sl)) Q E s:=by
 have hj:eY items.size items.size hi<=items.size:=BO _ _ (zaj _) hi;obtain⟨os,ND,Tu,QV⟩:=id hs;have US:s.TypeIs (.ref sl) "slice":=⟨os,ND,Tu⟩
 unfold getItem
 try with_reducible refine zdO ?_
 first |refine zdM (zdN ?_) |skip
 refine zdM (wpAny_sequenceKey ht.typeIs (by decide) ?_);refine zdM (wpAny_callSpecial?_slot (name:=zac "__getitem__") ht.typeIs zby
  (wpAny_call_entry zby ht.typeIs entry_tuple_getitem ?_ (args_tuple_getitem _ _)))
 show wpAny _ _ (Builtin.Tuple.tupleItemsOf (.ref t) >>= _) _ _ s;refine zdM (tupleItemsOf_ ht ?_);refine zdM (wpAny_typeOf US ?_);rw[if_pos (by decide)];refine zdM (kz hs pl pu ?_);have Vr:((((eY items.size 0 lo:Nat):Int)==0&&(1:Int)==1&&(eY items.size items.size hi-eY items.size 0 lo)==items.size)=true):=by
  rw[hw.1,hw.2];simp
 show wpAny _ _ (if (((eY items.size 0 lo:Nat):Int)==0&&(1:Int)==1&&(eY items.size items.size hi-eY items.size 0 lo)==items.size)=true then _ else _) _ _ s;rw[if_pos Vr];refine zdM (m:=Builtin.Tuple.tupleIsExact _) ?_;unfold Builtin.Tuple.tupleIsExact;refine zdM (wpAny_typeOf ht.typeIs (zdN ?_));rw[if_pos (by simp)]
 first
  |exact zdM (wpAny_rule (zdN ⟨_,rfl,zdN h⟩))
  |exact zdM (zdN (zdN ⟨_,rfl,zdN h⟩))
end
end HT
namespace L2
open PySem PySem.Spec PyProof.Rows
def Rk (K:zab):V->Option Int->Option Int->Hp->VK->Prop:=fun x lo hi H Q=>∃a xs,x=.ref a/\cF K H a xs/\
 ((HT.eY xs.length 0 lo=0/\HT.eY xs.length xs.length hi=xs.length)->Q (.ref a) H)/\
 (¬(HT.eY xs.length 0 lo=0/\HT.eY xs.length xs.length hi=xs.length)->∀p,H p=none->Q (.ref p) (upd H p (.tup (kA xs lo hi))))
theorem Kz{X:Cx}:QW X (Rk X.K):=by
 intro pins s σ H x v vl vu lo hi sl Q I rx hs pl pu h;obtain⟨a,xs,rfl,hx,h1,h2⟩:=h;by_cases hw:HT.eY xs.length 0 lo=0/\HT.eY xs.length xs.length hi=xs.length
 ·cases rx;obtain⟨aY,r,ht,hz⟩:=I.tuple hx;have hlen:aY.toArray.size=xs.length:=by rw[zas];exact r.length.symm
  refine⟨"tuple",_,zby.lookup,ht.typeIs,?_⟩;exact HT.nO ht hs pl pu (by rw[hlen];exact hw) ⟨.ref a,H,I,rfl,h1 hw⟩
 ·exact NF pins s σ H (.ref a) v vl vu lo hi sl Q I rx hs pl pu ⟨a,xs,rfl,hx,hw,h2 hw⟩
theorem oV{K:zab}{a D:zdJ}{xs:List V}{te:TE}{Q:VK}{r:St}{H:Hp}(Pv:Nat->List V->Hp->Prop)(hS:fU K H a xs)(hl:xs.length<=16000000)(hD:H D=none)(h0:Pv 0 [] (upd H D (.lst [])))
 (step:∀i x ys H2,xs[i]?=some x->aq H H2->H2 D=some (.lst ys)->ys.length=i->Pv i ys H2->∀R:VK,(∀v H3,aq H2 H3->Pv (i+1) (ys++[v]) (upd H3 D (.lst (ys++[v])))->R v H3)->te (some x::r) H2 R)
 (q:∀ys H2,aq H H2->H2 D=some (.lst ys)->Pv xs.length ys H2->Q (.ref D) H2):jW (BE K a) D (eG 0) oR te Q (none::r) (upd H D (.lst [])):=by
 refine⟨fun i m τ H2=>m=xs.length-i/\i<=xs.length/\(∃x,τ=x::r)/\aq H H2/\∃ys,H2 D=some (.lst ys)/\ys.length=i/\Pv i ys H2,⟨xs.length,by simp,zaI _,⟨none,rfl⟩,aq.new hD _,[],ai,rfl,h0⟩,?_⟩
 rintro i m τ H2 ⟨rfl,hi,⟨x,rfl⟩,s2,ys,h2,ly,p2⟩
 by_cases jR:i<xs.length
 ·refine .inr ⟨⟨xs,xs[i],s2.seq hS,by simp[jR]⟩,fun τ' H'=>(∃x,τ'=x::r)/\aq H H'/\∃ys,H' D=some (.lst ys)/\ys.length=i+1/\Pv (i+1) ys H',fun τ' H' ⟨h1,h3,h4⟩=>⟨xs.length-(i+1),by lia,rfl,jR,h1,h3,h4⟩,fun y H' hy=>?_⟩;obtain⟨rfl,hy⟩:=hy;have ey:=hy _ (s2.seq hS);simp only[eG,zbA,oR];rw[if_pos trivial];refine step i y ys _ ey s2 h2 ly p2 _ fun v H3 s3 p3=>⟨ys,s3 _ _ h2,?_,⟨_,rfl⟩,?_,ys++[v],ai,by simp[ly],p3⟩
  ·have:zdR=2 ^ 24:=rfl;lia
  ·intro b o e;rw[aD (aF e hD)];exact s3 _ _ (s2 _ _ e)
 ·have e:i=xs.length:=by lia
  subst e;exact .inl ⟨⟨xs,s2.seq hS,zaj _⟩,q ys H2 s2 h2 p2⟩
theorem Dx:∀l:List Int,PyData.canLayAll0 (Dp.pV (l.map Dp.int))=true/\PyData.depthAll (Dp.pV (l.map Dp.int))=0
 |[]=>by simp[Dp.pV,PyData.canLayAll0,PyData.depthAll]
 |i::r=>by
  obtain⟨h1,h2⟩:=Dx r;simp[Dp.pV,Dp.py,PyData.canLayAll0,PyData.depthAll,PyData.canLay0,PyData.depth,h1,h2]
theorem Hd{K:zab}{H:Hp}{fl:List PG.d7}{fv:List V}(g2:aQ K H (fl.map hZ) fv){i:Nat}{y:V}(hi:fv[i]?=some y)(li:i<fl.length) :
 ∃a p,y=.ref a/\cF K H a [.int fl[i].1,.str (xk fl[i].2.1),.ref p]/\cF K H p (fl[i].2.2.map V.int):=by
 obtain⟨v',Bq,rv⟩:=g2.get (i:=i) (d:=hZ fl[i]) (by rw[zal,zaa li];rfl);rw[hi] at Bq;cases Bq;unfold hZ at rv;rw[Rep.bj] at rv;obtain⟨a,xs,rfl,hx,rs⟩:=rv;rw[aQ.aO] at rs;obtain⟨v1,t1,rfl,r1,rs⟩:=rs;rw[aQ.aO] at rs;obtain⟨v2,t2,rfl,r2,rs⟩:=rs;rw[aQ.aO] at rs;obtain⟨v3,t3,rfl,r3,rs⟩:=rs;rw[aQ.bO] at rs;rw[Rep.bw] at r1;rw[Rep.bQ] at r2;obtain⟨p,ys,rfl,hp,ry⟩:=Rep.bj.mp r3;subst r1 r2 rs;have key:∀ {l:List Int} {ys:List V},aQ K H (l.map Dp.int) ys->ys=l.map V.int:=by
  intro l
  induction l with
  |nil=>intro ys h;rw[zbr,aQ.bO] at h;exact h
  |cons i r ih=>
   intro ys h;rw[zaq,aQ.aO] at h;obtain⟨v,t,rfl,h1,h2⟩:=h;rw[Rep.bw] at h1;rw[h1,ih h2];rfl
 rw[key ry] at hp;exact⟨a,p,rfl,hx,hp⟩
end L2
namespace L3
open PySem PyProof.Rows
theorem KA:typeLookup (.type "list") "keys"=pure none:=by rw[typeLookup_type,builtinLookup_eq_fast];kernel_rfl
theorem KC:typeLookup (.type "list") "__getattr__"=pure none:=by rw[typeLookup_type,builtinLookup_eq_fast];kernel_rfl
section
variable{prog:zdV}{w:zdL}{A:zdU}{E:zdK->zdT->Prop}
theorem He(a:zdJ)(u:Tok){hp:Heap}{g:Array GenState}{d:Drawn}{tk:Nat}{os:OsState}{aY:Array zdK}{n:Nat}{sl:Array (Option zdK)}{Q:Fin->zdT->Prop}(hx:hp.get? a=some ⟨.type "list",none,.seq aY n,sl⟩)(hA:A.handled=none)
 (h:∀h' Hf e,Heap.NewAttrErr hp h' e (.ref a) "keys"->E (.ref e) ⟨h',g,d,Hf,os⟩) :
 wpAny (model prog w) A (Builtin.«object.__getattribute__» ⟨[.ref a,.str "keys" u],[]⟩) Q E ⟨hp,g,d,tk,os⟩:=by
 have hT:(⟨hp,g,d,tk,os⟩:zdT).TypeIs (.ref a) "list":=⟨_,hx,rfl⟩
 have f4:=KA;unfold Builtin.«object.__getattribute__»
 repeat (any_goals (first |assumption |wp_step))
 exact wpAny_raiseAttrError hA h (attrMsg_fits (by decide +kernel) (by size_fits))
theorem EZ(a:zdJ){s:zdT}{aY:Array zdK}{n:Nat}{sl:Array (Option zdK)}{Q:Option zdK->zdT->Prop}(hx:s.heap.get? a=some ⟨.type "list",none,.seq aY n,sl⟩)(hA:A.handled=none)
 (h:∀h' tk,(∀b ob,s.heap.get? b=some ob->h'.get? b=some ob)->Q none {s with heap:=h',toks:=tk}):wpAny (model prog w) A (getAttr? (.ref a) "keys") Q E s:=by
 obtain⟨hp,g,d,tk,os⟩:=s;have hT:∀Hf,(⟨hp,g,d,Hf,os⟩:zdT).TypeIs (.ref a) "list":=fun _=>⟨_,hx,rfl⟩
 have f1:=sub_AttributeError;have f2:=F.slot_list_getattribute.lookup;have f3:=F.slot_list_getattribute.bind (.ref a);have f5:=KC;unfold getAttr? getAttrBy? getAttrBy
 repeat (any_goals (first |assumption |exact hT _ |wp_step))
 all_goals
  refine codeAny_call_builtin F.slot_list_getattribute.plain F.entry_list_ga (F.slot_list_getattribute.check _ _ _ _ _ _ _ _ (show (⟨hp,g,d,tk+1,os⟩:zdT).TypeIs (.ref a) "list" from ⟨_,hx,rfl⟩) (F.args_list_getattribute_2 _ _) ?_)
 all_goals
  refine He a tk hx hA fun h' Hf e ne=>?_
 all_goals
  obtain⟨t',u',he⟩:=ne.there;show wpAny _ _ (getattributeRaised _ _ _ _ _ _ _) _ _ _;unfold getattributeRaised
  repeat (any_goals (first |assumption |wp_step))
 all_goals exact h _ _ ne.keeps
theorem k6:entryFor table "dict.update.loop"=some Builtin.«dict.update.loop»:=entryFor_of_tree (by kernel_rfl)
theorem eO:plainId "dict.update.loop"=true:=by decide +kernel
theorem An{κ:Type}[DecidableEq κ](knd:KeyKind prog w κ)(d it l:zdJ)(items:Array zdK)(res:zdK)(hA:A.handled=none)(B4:it≠d){R:Result->zdT->Prop}:∀(r:List (zdJ×κ×zdK×zdK)) (i:Nat) (j:Int) (u:Tok) (kvs:List (κ×zdK)) (s:zdT),
 items.toList.drop i=r.map (fun q=>Value.ref q.1)->(∀q∈r,s.heap.IsTuple q.1 #[q.2.2.1,q.2.2.2]/\knd.is q.2.1 q.2.2.1=true)->s.heap.IsListIter it l i->s.heap.IsList l items->s.heap.DictOf knd d kvs->kvs.length+r.length<=zdR->
 (∀h' tk,h'.DictOf knd d (merged kvs (r.map fun q=>(q.2.1,q.2.2.2)))->(∀b o,b≠d->b≠it->s.heap.get? b=some o->h'.get? b=some o)->R (.ok (.ret res)) {s with heap:=h',toks:=tk})->
 codeAny (model prog w) A (.builtin "dict.update.loop" ⟨[.ref d,.ref it,.int j u,res],[]⟩) R s
 |[],i,j,u,kvs,s,hi,hp,hit,hl,hd,hz,hR=>by
  refine codeAny_builtin k6 ?_;rw[Around.under_plainId eO _];show wpAny _ A.in1 (pyNext (.ref it) >>= _) _ _ s;refine zdM (wpAny_pyNext_list_end hA hit hl (by rw[<- zaU];rw[zbr] at hi;exact zaX (zds.mp hi)) fun h' ext=>?_);show wpAny _ _ (Builtin.Dict.addKeywords d [] >>= _) _ _ _;refine zdM (zdN (zdN (hR h' s.toks ?_ fun b o _ h2 e=>?_)))
  ·obtain⟨o,es,ep,ho,rest⟩:=hd;exact⟨o,es,ep,ext d o B4.symm ho,rest⟩
  ·exact ext b o h2 e
 |q::r,i,j,u,kvs,s,hi,hp,hit,hl,hd,hz,hR=>by
  have hx:items[i]?=some (Value.ref q.1):=by
   rw[<- zaU,<- zdc,hi];rfl
  refine codeAny_builtin k6 ?_;rw[Around.under_plainId eO _];show wpAny _ A.in1 (pyNext (.ref it) >>= _) _ _ s;refine zdM (wpAny_pyNext_list_item hit hl hx fun h' NV sb=>?_);obtain⟨⟨oq,Vs,Vt,nq,hdq⟩,kq⟩:=hp q (zaB ..);have niq:q.1≠it:=fun z=>by
   obtain⟨oi,NY,Rl,_⟩:=hit;rw[z,NY] at Vs;cases Vs;rw[Rl] at Vt;exact absurd (Value.type.inj Vt) (by decide)
  have Rm:h'.get? q.1=some oq:=(sb.2 _ niq).trans Vs;have C8:h'.DictOf knd d kvs:=by
   obtain⟨o,es,ep,ho,rest⟩:=hd;exact⟨o,es,ep,(sb.2 d B4.symm).trans ho,rest⟩
  show wpAny _ A.in1 (holding [Value.ref q.1] _ >>= _) _ _ _;refine zdM (zdO (zdM (wpAny_tryCatch ?_)));unfold Builtin.Dict.pairItems;refine zdM (wpAny_typeOf (T:="tuple") ⟨oq,Rm,Vt⟩ ?_);rw[if_pos (by decide)];refine zdM (wpAny_seqItems (s:={s with heap:=h' }) Rm hdq (zdN ?_));show wpAny _ A.in1 (holding [q.2.2.1,q.2.2.2] (dictSet d q.2.2.1 q.2.2.2)) _ _ _;refine zdO (wpAny_dictSet_pairs (s:={s with heap:=h' }) kq C8 (fun h2 hd2 NZ=>?_) (by simp only[zai] at hz;lia));refine zdN ⟨plainId_quiet eO _,?_⟩;refine An knd d it l items res hA B4 r (i+1) (j+1) _ _ _ ?_ (fun p Vu=>?_) ?_ ?_ hd2 ?_ fun h3 tk Vv keep=>hR h3 tk Vv fun b o n1 n2 e=>keep b o n1 n2 ?_
  ·rw[<- zdo,hi];rfl
  ·obtain⟨⟨op,Mi,Vw,np,Vx⟩,kp⟩:=hp p (zae _ Vu);refine⟨⟨op,?_,Vw,np,Vx⟩,kp⟩;have n1:p.1≠it:=fun z=>by
    obtain⟨oi,NY,Rl,_⟩:=hit;rw[z,NY] at Mi;cases Mi;rw[Rl] at Vw;exact absurd (Value.type.inj Vw) (by decide)
   have n2:p.1≠d:=fun z=>by
    obtain⟨od,_,_,Rn,_,N0,_⟩:=hd;rw[z,Rn] at Mi;cases Mi;rw[N0] at Vx;cases Vx
   exact(NZ.2 _ n2).trans ((sb.2 _ n1).trans Mi)
  ·obtain⟨oi,NY,rest⟩:=NV;exact⟨oi,(NZ.2 _ B4).trans NY,rest⟩
  ·obtain⟨ol,Ro,Vy,nl,Vz⟩:=hl;have n1:l≠it:=fun z=>by
    obtain⟨oi,NY,Rl,_⟩:=hit;rw[z,NY] at Ro;cases Ro;rw[Rl] at Vy;exact absurd (Value.type.inj Vy) (by decide)
   have n2:l≠d:=fun z=>by
    obtain⟨od,_,_,Rn,_,N0,_⟩:=hd;rw[z,Rn] at Ro;cases Ro;rw[N0] at Vz;cases Vz
   exact⟨ol,(NZ.2 _ n2).trans ((sb.2 _ n1).trans Ro),Vy,nl,Vz⟩
  ·have:=stored_length_le kvs q.2.1 q.2.2.2;simp only[zai] at hz;lia
  ·exact(NZ.2 _ n1).trans ((sb.2 _ n2).trans e)
theorem dict_list{κ:Type}[DecidableEq κ](knd:KeyKind prog w κ)(l:zdJ){s:zdT}{items:Array zdK}{n:Nat}{sl:Array (Option zdK)}{Q:zdK->zdT->Prop}(hA:A.handled=none)(r:List (zdJ×κ×zdK×zdK))(hx:s.heap.get? l=some ⟨.type "list",none,.seq items n,sl⟩)
 (hi:items.toList=r.map (fun q=>Value.ref q.1)) (hp:∀q∈r,s.heap.IsTuple q.1 #[q.2.2.1,q.2.2.2]/\knd.is q.2.1 q.2.2.1=true) (hz:r.length<=zdR)
 (h:∀h' tk,h'.DictOf knd s.heap.objs.size (merged [] (r.map fun q=>(q.2.1,q.2.2.2)))->(∀b o,s.heap.get? b=some o->h'.get? b=some o)->Q (.ref s.heap.objs.size) {s with heap:=h',toks:=tk}) :
 wpAny (model prog w) A (call (.type "dict") [.ref l]) Q E s:=by
 refine callType_codes (Q₁:=fun obj s₁=>obj=.ref s.heap.objs.size/\s₁={s with heap:=s.heap.push {cls:=.type "dict",data:=.dict #[]} }) F.kt_called_dict (F.kt_typeCall_dict_1 _) F.entry_dict_init (kt_code_dict_new _ ⟨rfl,rfl⟩) ?_
 rintro obj s₁ ⟨rfl,rfl⟩
 have B9:(s.heap.push {cls:=.type "dict",data:=.dict #[]}).DictOf knd s.heap.objs.size []:=Heap.DictOf.new s.heap;have nX:∀b o,s.heap.get? b=some o->(s.heap.push {cls:=.type "dict",data:=.dict #[]}).get? b=some o:=fun b o e=>Heap.get?_push_of_some _ e;refine⟨B9.typeIs,F.args_dict_init_2 _ _,?_⟩;unfold Builtin.«dict.__init__»;refine zdM ?_;unfold Builtin.Dict.selfAndRest;refine zdM (wpAny_notOrdered_dict B9.typeIs ?_);show wpAny _ _ (pure (s.heap.objs.size,[Value.ref l])) _ _ _;refine zdN ?_;show wpAny _ _ (Builtin.Dict.updateFrom "dict.__init__" s.heap.objs.size (.ref l) [] .none) _ _ _;unfold Builtin.Dict.updateFrom;refine zdM (wpAny_typeOf (T:="list") ⟨_,nX _ _ hx,rfl⟩ ?_);rw[if_pos (by decide)];refine zdM (EZ (n:=n) (sl:=sl) l (nX _ _ hx) hA fun h2 VA nY=>?_);rw[if_pos (show (none:Option zdK).isNone=true from rfl)];refine zdM (wpAny_rule ?_);have PH:h2.IsList l items:=⟨_,nY _ _ (nX _ _ hx),rfl,n,rfl⟩
 have hd2:h2.DictOf knd s.heap.objs.size []:=by
  obtain⟨o,es,ep,ho,rest⟩:=B9;exact⟨o,es,ep,nY _ _ ho,rest⟩
 refine zdM (wpAny_pyIter_list (s:={s with heap:=h2,toks:=VA}) PH ?_);have Dy:∀b o,h2.get? b=some o->(h2.push {cls:=.type "list_iterator",data:=.fields #[.ref l,.int 0 0]}).get? b=some o:=fun b o e=>Heap.get?_push_of_some _ e;have nd:h2.objs.size≠s.heap.objs.size:=by
  obtain⟨o,es,ep,ho,_⟩:=hd2;exact fun e=>absurd (Heap.lt_size ho) (by rw[e];exact za1 _)
 refine zdN ⟨plainId_quiet eO _,?_⟩;refine An (A:=A.in1) knd s.heap.objs.size h2.objs.size l items .none hA nd r 0 0 _ [] _ (by simpa using hi) (fun q hq=>?_) ⟨_,Heap.get?_push_size _ rfl,rfl,rfl⟩ ?_ ?_ (by simpa using hz) fun h4 VB VC Hg=>?_
 ·obtain⟨⟨o,ho,rest⟩,kq⟩:=hp q hq;exact⟨⟨o,Dy _ _ (nY _ _ (nX _ _ ho)),rest⟩,kq⟩
 ·obtain⟨o,ho,rest⟩:=PH;exact⟨o,Dy _ _ ho,rest⟩
 ·obtain⟨o,es,ep,ho,rest⟩:=hd2;exact⟨o,es,ep,Dy _ _ ho,rest⟩
 ·refine⟨rfl,h h4 VB VC fun b o e=>Hg b o (fun z=>?_) (fun z=>?_) (Dy _ _ (nY _ _ (nX _ _ e)))⟩
  ·rw[z] at e;exact absurd (Heap.lt_size e) (za1 _)
  ·have:=Heap.lt_size (nY _ _ (nX _ _ e));rw[z] at this;exact absurd this (za1 _)
end
end L3
namespace L2
open PySem PyProof.Rows
theorem jB{X:Cx}(hc:X.calm=true):gV X (.type "dict") (fun xs H Q=>∃(a:zdJ) (ps:List (zdJ×Key×V)),xs=[.ref a]/\fU X.K H a (ps.map fun q=>V.ref q.1)/\(∀q∈ps,cF X.K H q.1 [kV q.2.1,q.2.2])/\ps.length<=zdR/\
 ∀p,H p=none->Q (.ref p) (upd H p (.dK (hJ [] (ps.map fun q=>(q.2.1,q.2.2)))))):=by
 intro pins s σ H xs us Q I r h;obtain⟨a,ps,rfl,ha,hp,hz,q⟩:=h;obtain⟨u,rfl,ru⟩:=vals1 r;cases (show u=Value.ref a from ru);obtain⟨aY,v1,t1,_⟩:=I.list ha;obtain⟨⟨cls,TH,dat,sl⟩,n,e1,TJ,Yr,Ao⟩:=t1;simp only at TJ Yr Ao;subst TJ Yr Ao;have mk:∀(l:List (zdJ×Key×V)) (us:List zdK),Vals (l.map fun q=>V.ref q.1) us->(∀q∈l,cF X.K H q.1 [kV q.2.1,q.2.2])->∃r:List (zdJ×Key×zdK×zdK),us=r.map (fun q=>Value.ref q.1)/\r.length=l.length/\
  (∀q∈r,s.heap.IsTuple q.1 #[q.2.2.1,q.2.2.2]/\(bN X.prog X.w).is q.2.1 q.2.2.1=true)/\KV (l.map fun q=>(q.2.1,q.2.2)) (r.map fun q=>(q.2.1,q.2.2.2)):=by
  intro l
  induction l with
  |nil=>intro us v _;cases v;exact⟨[],rfl,rfl,fun _ z=>(by cases z),.nil⟩
  |cons x l ih=>
   intro us v hp;rw[zaq] at v;cases v with
   |cons v1 v2=>
    obtain⟨r,e,lr,hr,kv⟩:=ih _ v2 (fun q hq=>hp q (zae _ hq));obtain⟨pI,w1,tu,_⟩:=I.tuple (hp x (zaB ..));obtain⟨ku,vu,rfl,rk,rv⟩:=vals2 w1;cases v1;obtain⟨o,ho,hco,no,hdo⟩:=tu;refine⟨(x.1,x.2.1,ku,vu)::r,by rw[e];rfl,by simp[lr],fun q hq=>?_,.cons ⟨rfl,rv⟩ kv⟩;rcases zag.mp hq with rfl |hq
    ·exact⟨⟨o,ho,hco,no,hdo⟩,nW rk⟩
    ·exact hr q hq
 obtain⟨r',er,lr,hr,kv⟩:=mk ps aY v1 hp;refine L3.dict_list (bN X.prog X.w) a (I.ok.hd hc) r' e1 (by simpa using er) hr (by lia) fun h' tk dd keep=>?_;have hn:=I.cc.fresh (zaj s.heap.objs.size);have hb:(s.heap.objs.size==sysModules)=false:=beq_eq_false_iff_ne.mpr (Ne.symm (zat I.big));refine⟨.ref s.heap.objs.size,_,I.laid keep (zaj _) (xV ?_ hb (kv.merge .nil) dd),rfl,q _ hn⟩;have h1:=iw (ps.map fun q=>(q.2.1,q.2.2)) [];rw[zaz,zad] at h1;lia
end L2
namespace L3
open PySem PyProof.Rows
section
variable{prog:zdV}{w:zdL}{A:zdU}{E:zdK->zdT->Prop}{s:zdT}
theorem jC{j tp:zdJ}{k:Nat}{aY:Array zdK}{v:zdK}{Q:zdK->zdT->Prop}(hj:s.heap.IsTupleIter j tp k)(ht:s.heap.IsTuple tp aY)(hv:aY[k]?=some v)
 (hQ:∀h',h'.IsTupleIter j tp (k+1)->Heap.SameBut j s.heap h'->Q v {s with heap:=h' }):wpAny (model prog w) A (Builtin.SmallTypes.nextOf (.ref j)) Q E s:=by
 obtain⟨oj,gj,cj,dj⟩:=id hj;obtain⟨ot,gt,_,nt,dt⟩:=ht;unfold Builtin.SmallTypes.nextOf;refine zdM (wpAny_callSpecial?_slot (name:=zac "__next__") hj.typeIs F.slot_tuple_iterator_next (wpAny_call_entry F.slot_tuple_iterator_next hj.typeIs F.entry_tuple_iterator_next ?_ (F.args_tuple_iterator_next_1 _)));show wpAny _ _ (field (.ref j) 0 >>= _) _ _ s;refine zdM (wpAny_field gj dj (x:=.ref tp) rfl ?_);show wpAny _ _ (if (Value.ref tp==Value.none)=true then _ else _) _ _ s;rw[if_neg (show ¬((Value.ref tp==Value.none)=true) from zar)];show wpAny _ _ (field (.ref j) 1 >>= _) _ _ s;refine zdM (wpAny_field gj dj (x:=.int k 0) rfl ?_);show wpAny _ _ (seqItems? (.ref tp) >>= _) _ _ s;refine zdM (wpAny_seqItems gt dt ?_);simp only[zaZ,hv];refine zdM (wpAny_setField gj dj (by simp) (zdN ⟨v,rfl,zdN (hQ _ ?_ (Heap.SameBut.update ..))⟩));exact⟨_,Heap.get?_update_self _ gj (Obj.isFreed_of_fields (Obj.data_mapFields dj _)),(Obj.cls_mapFields ..).trans cj,by rw[Obj.data_mapFields dj];simp[rawInt]⟩
structure N1(prog:zdV)(w:zdL)(j tp:zdJ)(ys:Array zdK)(I:Heap->Nat->Prop):Prop where
 VD:∀ {A:zdU} {E:zdK->zdT->Prop} {s:zdT} {i:Nat} {y:zdK} {Q:zdK->zdT->Prop},I s.heap i->ys[i]?=some y->(∀h',I h' (i+1)->Heap.SameBut j s.heap h'->Q y {s with heap:=h' })->wpAny (model prog w) A (Builtin.SmallTypes.nextOf (.ref j)) Q E s
 kp:∀ {h h':Heap} {i:Nat},I h i->(∀b o,b=j\/b=tp->h.get? b=some o->h'.get? b=some o)->I h' i
 cj:∀ {h:Heap} {i:Nat},I h i->∃o c,h.get? j=some o/\o.cls=.type c/\c≠"zip"/\c≠"list"/\c≠"tuple"/\c≠"dict"
 ct:∀ {h:Heap} {i:Nat},I h i->∃o c,h.get? tp=some o/\o.cls=.type c/\c≠"zip"/\c≠"list_iterator"/\c≠"dict"
theorem KD{j tp:zdJ}{ys:Array zdK}:N1 prog w j tp ys (fun h i=>h.IsTupleIter j tp i/\h.IsTuple tp ys) where
 VD:=fun ⟨hj,ht⟩ hy hQ=>jC hj ht hy fun h' hj' sb=>hQ h' ⟨hj',by
  obtain⟨o,go,c,n,d⟩:=ht;refine⟨o,(sb.2 tp fun e=>?_).trans go,c,n,d⟩;obtain⟨r,gr,cr,_⟩:=hj;rw[e,gr] at go;cases go;rw[cr] at c;exact absurd (Value.type.inj c) (by decide)⟩ sb
 kp:=fun ⟨⟨o,go,r⟩,q,gq,r2⟩ k=>⟨⟨o,k _ _ (.inl rfl) go,r⟩,q,k _ _ (.inr rfl) gq,r2⟩
 cj:=fun ⟨⟨o,go,c,_⟩,_⟩=>⟨o,_,go,c,by decide,by decide,by decide,by decide⟩
 ct:=fun ⟨_,o,go,c,_⟩=>⟨o,_,go,c,by decide,by decide,by decide⟩
theorem ie{h:Heap}{a b:zdJ}{o o':Obj}{c c':String}(e:h.get? a=some o)(e':h.get? b=some o')(hc:o.cls=.type c)(Qz:o'.cls=.type c')(n:c≠c'):a≠b:=fun q=>by
 rw[q,e'] at e;cases e;rw[hc] at Qz;exact n (Value.type.inj Qz)
abbrev nZ (h:Heap) (z ti to:zdJ) (f g:zdK):Prop:=h.get? z=some {cls:=.type "zip",dict:=none,data:=.fields #[f,g,.bool false,.ref ti,.ref to],slots:=#[]}
theorem Ap{z ti to T:zdJ}{u:Tok}{o:Obj}{g:Bool}{R:Bool->zdT->Prop}(hz:nZ s.heap z ti to (.int T u) (.bool g))(hT:s.heap.get? T=some o)
 (h:∀h₀,nZ h₀ z ti to (.int T u) (.bool true)->Heap.SameBut z s.heap h₀->R false {s with heap:=h₀}):wpAny (model prog w) A (Builtin.SmallTypes.ownedTupleIsFree (.ref z)) R E s:=by
 unfold Builtin.SmallTypes.ownedTupleIsFree;refine zdM (wpAny_field hz rfl (x:=.int T u) rfl ?_);show wpAny _ _ (loadIfAlive (T:Int).toNat >>= _) _ _ _;refine zdM ?_;have alive:∀ {R:Option Obj->zdT->Prop},R (some o) s->wpAny (model prog w) A (loadIfAlive (T:Int).toNat) R E s:=fun h=>by
  rw[zaZ];intro Γ p hp;unfold loadIfAlive;rw[Sem.wp_loadIfAlive,hT];exact h
 refine alive ?_;rw[if_neg (by simp)];refine zdM (wpAny_field hz rfl (x:=.bool g) rfl ?_);cases g with
 |false=>
  rw[if_pos (by decide)];exact zdM (wpAny_setField_rec hz (by simp) fun h₀ Dz sb=>zdN (h h₀ Dz sb))
 |true=>
  rw[if_neg (by decide)];exact zdN (h s.heap hz (Heap.SameBut.refl _ _))
theorem Ca{z ti to j1 j2 l tp T:zdJ}{xs ys:Array zdK}{I2:Heap->Nat->Prop}{i:Nat}{u:Tok}{o:Obj}{g:Bool}{x y:zdK}{Q:zdK->zdT->Prop}(Z2:N1 prog w j2 tp ys I2)(hz:nZ s.heap z ti to (.int T u) (.bool g))(hT:s.heap.get? T=some o)(hI:IsPair s.heap ti (.ref j1) (.ref j2))
 (h1:s.heap.IsListIter j1 l i) (h2:I2 s.heap i) (hl:s.heap.IsList l xs) (Br:z≠j1) (KG:z≠j2) (Mj:j1≠j2) (hx:xs[i]?=some x) (hy:ys[i]?=some y)
 (hQ:∀h',nZ h' z ti to (.int T u) (.bool true)->h'.IsListIter j1 l (i+1)->I2 h' (i+1)->IsPair h' s.heap.objs.size x y->h'.objs.size=s.heap.objs.size+1->
  (∀c o,c≠z->c≠j1->c≠j2->s.heap.get? c=some o->h'.get? c=some o)->Q (.ref s.heap.objs.size) {s with heap:=h' }) :
 wpAny (model prog w) A (Builtin.«zip.__next__» ⟨[.ref z],[]⟩) (fun fin s'=>∃v,fin=.done (.ret v)/\Q v s') E s:=by
 have lz:l≠z:=fun e=>by
  obtain⟨q,gq,cq,_⟩:=hl;rw[e,hz] at gq;cases gq;exact absurd (Value.type.inj cq) (by decide)
 have lj1:l≠j1:=fun e=>by
  obtain⟨q,gq,cq,_⟩:=hl;obtain⟨r,gr,cr,_⟩:=h1;rw[e,gr] at gq;cases gq;rw[cr] at cq;exact absurd (Value.type.inj cq) (by decide)
 obtain⟨tq,tc,Rp,Rq,VE,VF,_⟩:=Z2.ct h2;have tz:tp≠z:=ie Rp hz Rq rfl VE;have VG:tp≠j1:=by
  obtain⟨r,gr,cr,_⟩:=id h1;exact ie Rp gr Rq cr VF
 show wpAny _ _ (field (.ref z) 2 >>= _) _ _ _;refine zdM (wpAny_field hz rfl (x:=.bool false) rfl ?_);show wpAny _ _ (field (.ref z) 3 >>= _) _ _ _;refine zdM (wpAny_field hz rfl (x:=.ref ti) rfl ?_);refine zdM (wpAny_seqItems hI rfl ?_);show wpAny _ _ (Builtin.SmallTypes.ownedTupleIsFree (.ref z) >>= _) _ _ _;refine zdM (Ap hz hT fun h₀ Dz og=>?_);dsimp only;rw[if_neg zar];refine zdM ?_;simp only[List.forIn_toArray,zbM,zb2];refine zdM (zdM (zdO ?_));show wpAny _ _ (Builtin.SmallTypes.nextOf (.ref j1) >>= _) _ _ _;refine zdM (wpAny_nextOf_list_item (s:={s with heap:=h₀}) (h1.extBut og.extBut Br.symm) (hl.extBut og.extBut lz) hx fun h₂ Rr cH=>zdN ?_);refine zdN ?_;refine zdM (zdM (zdO ?_));show wpAny _ _ (Builtin.SmallTypes.nextOf (.ref j2) >>= _) _ _ _;have VH:I2 h₂ i:=Z2.kp h2 fun b o hb e=>by
  rcases hb with rfl |rfl
  ·exact cH.extBut _ _ Mj.symm (og.extBut _ _ KG.symm e)
  ·exact cH.extBut _ _ VG (og.extBut _ _ tz e)
 refine zdM (Z2.VD (s:={s with heap:=h₂}) VH hy fun h₃ Rt df=>zdN ?_);refine zdN (zdN ?_);show wpAny _ _ (newTuple [x,y] >>= _) _ _ _;have hsz:h₃.objs.size=s.heap.objs.size:=by rw[df.1,cH.1,og.1]
 refine zdM (wpAny_newTuple (s:={s with heap:=h₃}) ?_);refine zdN ⟨_,rfl,?_⟩;show Q (.ref h₃.objs.size) _;have hp:IsPair (h₃.push {cls:=.type "tuple",data:=.seq #[x,y]}) h₃.objs.size x y:=Heap.get?_push_size _ rfl;have Ao:(h₃.push {cls:=.type "tuple",data:=.seq #[x,y]}).objs.size=h₃.objs.size+1:=Heap.size_push ..;rw[hsz] at hp Ao ⊢;have up:∀c o,h₃.get? c=some o->(h₃.push {cls:=.type "tuple",data:=.seq #[x,y]}).get? c=some o:=fun c o e=>Heap.get?_push_of_some _ e;refine hQ _ (up _ _ (df.extBut _ _ KG (cH.extBut _ _ Br Dz))) ?_ ?_ hp Ao fun c o c1 c2 c3 e=>up _ _ (df.extBut _ _ c3 (cH.extBut _ _ c2 (og.extBut _ _ c1 e)))
 ·obtain⟨q,gq,rest⟩:=Rr;exact⟨q,up _ _ (df.extBut _ _ Mj gq),rest⟩
 ·exact Z2.kp Rt fun b o _ e=>up _ _ e
theorem E1{z ti to j1 j2 l T:zdJ}{xs:Array zdK}{i:Nat}{u:Tok}{o:Obj}{g:Bool}{Q:Fin->zdT->Prop}(hA:A.handled=none)(hz:nZ s.heap z ti to (.int T u) (.bool g))(hT:s.heap.get? T=some o)(hI:IsPair s.heap ti (.ref j1) (.ref j2))
 (h1:s.heap.IsListIter j1 l i) (hl:s.heap.IsList l xs) (Br:z≠j1) (hx:xs[i]?=none)
 (hE:∀h' e,(∀c o,c≠z->c≠j1->s.heap.get? c=some o->h'.get? c=some o)->(∃o,h'.get? e=some o/\o.cls=.type "StopIteration")->E (.ref e) {s with heap:=h' }) :
 wpAny (model prog w) A (Builtin.«zip.__next__» ⟨[.ref z],[]⟩) Q E s:=by
 have lz:l≠z:=fun e=>by
  obtain⟨q,gq,cq,_⟩:=hl;rw[e,hz] at gq;cases gq;exact absurd (Value.type.inj cq) (by decide)
 show wpAny _ _ (field (.ref z) 2 >>= _) _ _ _;refine zdM (wpAny_field hz rfl (x:=.bool false) rfl ?_);show wpAny _ _ (field (.ref z) 3 >>= _) _ _ _;refine zdM (wpAny_field hz rfl (x:=.ref ti) rfl ?_);refine zdM (wpAny_seqItems hI rfl ?_);show wpAny _ _ (Builtin.SmallTypes.ownedTupleIsFree (.ref z) >>= _) _ _ _;refine zdM (Ap hz hT fun h₀ Dz og=>?_);dsimp only;rw[if_neg zar];refine zdM ?_;simp only[List.forIn_toArray,zbM,zb2];refine zdM (zdM (zdO ?_));show wpAny _ _ (Builtin.SmallTypes.nextOf (.ref j1) >>= _) _ _ _;exact zdM (wpAny_nextOf_list_end (s:={s with heap:=h₀}) hA (h1.extBut og.extBut Br.symm) (hl.extBut og.extBut lz) hx fun h₂ e cH he=>hE h₂ e (fun c o c1 c2 q=>cH _ _ c2 (og.extBut _ _ c1 q)) he)
theorem Cb{z ti to j1 j2 l tp:zdJ}{xs ys:Array zdK}{I2:Heap->Nat->Prop}{i:Nat}{a b x y:zdK}{Q:zdK->zdT->Prop}(Z2:N1 prog w j2 tp ys I2)(hz:nZ s.heap z ti to .none (.bool false))(hO:IsPair s.heap to a b)(hI:IsPair s.heap ti (.ref j1) (.ref j2))
 (h1:s.heap.IsListIter j1 l i) (h2:I2 s.heap i) (hl:s.heap.IsList l xs) (Br:z≠j1) (KG:z≠j2) (Ru:z≠to) (Hh:to≠j1) (Hi:to≠j2) (Mj:j1≠j2) (KI:tp≠to) (hx:xs[i]?=some x) (hy:ys[i]?=some y)
 (hQ:∀h',nZ h' z ti to (rawInt s.heap.objs.size) (.bool false)->h'.IsListIter j1 l (i+1)->I2 h' (i+1)->IsPair h' s.heap.objs.size x y->h'.objs.size=s.heap.objs.size+1->
  (∀c o,c≠z->c≠to->c≠j1->c≠j2->s.heap.get? c=some o->h'.get? c=some o)->Q (.ref s.heap.objs.size) {s with heap:=h' }) :
 wpAny (model prog w) A (Builtin.«zip.__next__» ⟨[.ref z],[]⟩) (fun fin s'=>∃v,fin=.done (.ret v)/\Q v s') E s:=by
 have lz:l≠z:=fun e=>by
  obtain⟨q,gq,cq,_⟩:=hl;rw[e,hz] at gq;cases gq;exact absurd (Value.type.inj cq) (by decide)
 obtain⟨tq,tc,Rp,Rq,VE,VF,_⟩:=Z2.ct h2;have tz:tp≠z:=ie Rp hz Rq rfl VE;have VG:tp≠j1:=by
  obtain⟨r,gr,cr,_⟩:=id h1;exact ie Rp gr Rq cr VF
 show wpAny _ _ (field (.ref z) 2 >>= _) _ _ _;refine zdM (wpAny_field hz rfl (x:=.bool false) rfl ?_);show wpAny _ _ (field (.ref z) 3 >>= _) _ _ _;refine zdM (wpAny_field hz rfl (x:=.ref ti) rfl ?_);refine zdM (wpAny_seqItems hI rfl ?_);show wpAny _ _ (Builtin.SmallTypes.ownedTupleIsFree (.ref z) >>= _) _ _ _;refine zdM ?_;unfold Builtin.SmallTypes.ownedTupleIsFree;refine zdM (wpAny_field hz rfl (x:=.none) rfl (zdN ?_));simp only[if_true];refine zdM (wpAny_rule ?_);refine zdM (wpAny_field hz rfl (x:=.ref to) rfl ?_);refine zdM (wpAny_setField_rec hz (by simp) fun h₁ z₁ dg=>?_);replace z₁:nZ h₁ z ti to .ellipsis (.bool false):=z₁;refine zdM ?_;simp only[zcq,zcA,zbM,zb2];refine zdM (zdM (wpAny_onRaise ?_));show wpAny _ _ (Builtin.SmallTypes.nextOf (.ref j1) >>= _) _ _ _;refine zdM (wpAny_nextOf_list_item (h1.extBut dg.extBut Br.symm) (hl.extBut dg.extBut lz) hx fun h₂ k₂ cH=>zdN ?_);have o₂:IsPair h₂ to a b:=cH.extBut _ _ Hh (dg.extBut _ _ Ru.symm hO);refine zdM (wpAny_seqItems o₂ rfl ?_);refine zdM (wpAny_updateSeq_pair o₂ fun h₃ o₃ df=>?_);replace o₃:IsPair h₃ to x b:=o₃;refine zdM (wpAny_letGo (zdN ?_));refine zdM (zdM (wpAny_onRaise ?_));show wpAny _ _ (Builtin.SmallTypes.nextOf (.ref j2) >>= _) _ _ _;have VH:I2 h₃ i:=Z2.kp h2 fun b o hb e=>by
  rcases hb with rfl |rfl
  ·exact df.extBut _ _ Hi.symm (cH.extBut _ _ Mj.symm (dg.extBut _ _ KG.symm e))
  ·exact df.extBut _ _ KI (cH.extBut _ _ VG (dg.extBut _ _ tz e))
 refine zdM (Z2.VD VH hy fun h₄ k₄ jX=>zdN ?_);have o₄:IsPair h₄ to x b:=jX.extBut _ _ Hi o₃;refine zdM (wpAny_seqItems o₄ rfl ?_);refine zdM (wpAny_updateSeq_pair o₄ fun h₅ o₅ jD=>?_);replace o₅:IsPair h₅ to x y:=o₅;refine zdM (wpAny_letGo (zdN (zdN ?_)));refine zdM (wpAny_seqItems o₅ rfl ?_);refine zdM (wpAny_newTuple ?_);have hsz:h₅.objs.size=s.heap.objs.size:=by rw[jD.1,jX.1,df.1,cH.1,dg.1]
 have z₅:nZ h₅ z ti to .ellipsis (.bool false):=jD.extBut _ _ Ru (jX.extBut _ _ KG (df.extBut _ _ Ru (cH.extBut _ _ Br z₁)));have kp:∀c o,c≠z->c≠to->c≠j1->c≠j2->s.heap.get? c=some o->h₅.get? c=some o:=fun c o c1 c2 c3 c4 e=>jD.extBut _ _ c2 (jX.extBut _ _ c4 (df.extBut _ _ c2 (cH.extBut _ _ c3 (dg.extBut _ _ c1 e))));have Rv:z<h₅.objs.size:=Heap.lt_size z₅;show wpAny _ _ (Builtin.SmallTypes.ownedTupleHandOut (.ref z) (.ref h₅.objs.size) >>= _) _ _ _;refine zdM ?_;unfold Builtin.SmallTypes.ownedTupleHandOut;have z₆:nZ (h₅.push {cls:=.type "tuple",data:=.seq #[x,y]}) z ti to .ellipsis (.bool false):=Heap.get?_push_of_some _ z₅;refine zdM (wpAny_setField_rec z₆ (by simp) fun h₇ z₇ uY=>?_);replace z₇:nZ h₇ z ti to (rawInt h₅.objs.size) (.bool false):=z₇;refine wpAny_setField_rec z₇ (by simp) fun h₈ z₈ uZ=>?_;replace z₈:nZ h₈ z ti to (rawInt h₅.objs.size) (.bool false):=z₈;have up:∀c o,c≠z->h₅.get? c=some o->h₈.get? c=some o:=fun c o c1 e=>uZ.extBut _ _ c1 (uY.extBut _ _ c1 (Heap.get?_push_of_some _ e));have t₈:IsPair h₈ h₅.objs.size x y:=uZ.extBut _ _ (za2 Rv) (uY.extBut _ _ (za2 Rv) (Heap.get?_push_size _ rfl));have n₈:h₈.objs.size=h₅.objs.size+1:=by rw[uZ.1,uY.1,Heap.size_push]
 rw[hsz] at z₈ t₈ n₈;refine zdN ⟨_,rfl,?_⟩;show Q (.ref h₅.objs.size) _;rw[hsz];refine hQ h₈ z₈ ?_ ?_ t₈ n₈ fun c o c1 c2 c3 c4 e=>up c o c1 (kp c o c1 c2 c3 c4 e)
 ·obtain⟨q,gq,rest⟩:=k₂;exact⟨q,up _ _ Br.symm (jD.extBut _ _ Hh.symm (jX.extBut _ _ Mj (df.extBut _ _ Hh.symm gq))),rest⟩
 ·refine Z2.kp k₄ fun b o hb e=>?_;rcases hb with rfl |rfl
  ·exact up _ _ KG.symm (jD.extBut _ _ Hi.symm e)
  ·exact up _ _ tz (jD.extBut _ _ KI e)
theorem E2{z ti to j1 j2 l:zdJ}{xs:Array zdK}{i:Nat}{Q:Fin->zdT->Prop}(hA:A.handled=none)(hz:nZ s.heap z ti to .none (.bool false))(hI:IsPair s.heap ti (.ref j1) (.ref j2))
 (h1:s.heap.IsListIter j1 l i) (hl:s.heap.IsList l xs) (Br:z≠j1) (hx:xs[i]?=none)
 (hE:∀h' e,(∀c o,c≠z->c≠j1->s.heap.get? c=some o->h'.get? c=some o)->(∃o,h'.get? e=some o/\o.cls=.type "StopIteration")->E (.ref e) {s with heap:=h' }) :
 wpAny (model prog w) A (Builtin.«zip.__next__» ⟨[.ref z],[]⟩) Q E s:=by
 have lz:l≠z:=fun e=>by
  obtain⟨q,gq,cq,_⟩:=hl;rw[e,hz] at gq;cases gq;exact absurd (Value.type.inj cq) (by decide)
 show wpAny _ _ (field (.ref z) 2 >>= _) _ _ _;refine zdM (wpAny_field hz rfl (x:=.bool false) rfl ?_);show wpAny _ _ (field (.ref z) 3 >>= _) _ _ _;refine zdM (wpAny_field hz rfl (x:=.ref ti) rfl ?_);refine zdM (wpAny_seqItems hI rfl ?_);show wpAny _ _ (Builtin.SmallTypes.ownedTupleIsFree (.ref z) >>= _) _ _ _;refine zdM ?_;unfold Builtin.SmallTypes.ownedTupleIsFree;refine zdM (wpAny_field hz rfl (x:=.none) rfl (zdN ?_));simp only[if_true];refine zdM (wpAny_rule ?_);refine zdM (wpAny_field hz rfl (x:=.ref to) rfl ?_);refine zdM (wpAny_setField_rec hz (by simp) fun h₁ z₁ dg=>?_);replace z₁:nZ h₁ z ti to .ellipsis (.bool false):=z₁;refine zdM ?_;simp only[zcq,zcA,zbM,zb2];refine zdM (zdM (wpAny_onRaise ?_));show wpAny _ _ (Builtin.SmallTypes.nextOf (.ref j1) >>= _) _ _ _;refine zdM (wpAny_nextOf_list_end hA (h1.extBut dg.extBut Br.symm) (hl.extBut dg.extBut lz) hx fun h₂ e cH he=>?_);obtain⟨oe,ge,ce⟩:=he;have z₂:nZ h₂ z ti to .ellipsis (.bool false):=cH _ _ Br z₁;have ez:e≠z:=fun q=>by subst q;rw[z₂] at ge;cases ge;simp at ce
 exact wpAny_setField_rec z₂ (by simp) fun h₃ _ df=>hE h₃ e (fun c o c1 c3 q=>df.extBut _ _ c1 (cH _ _ c3 (dg.extBut _ _ c1 q))) ⟨oe,df.extBut _ _ ez ge,ce⟩
structure PL(z ti to j1 j2 l tp:zdJ):Prop where
 zti:z≠ti
 Ru:z≠to
 Br:z≠j1
 KG:z≠j2
 VI:ti≠to
 VJ:ti≠j1
 VL:ti≠j2
 Hh:to≠j1
 Hi:to≠j2
 Mj:j1≠j2
 TK:l≠to
 KI:tp≠to
structure JK(h:Heap)(z ti to j1 j2 l tp:zdJ)(xs:Array zdK)(I2:Heap->Nat->Prop)(i:Nat):Prop where
 zip:(∃a b,nZ h z ti to .none (.bool false)/\IsPair h to a b)\/∃(T:zdJ) (u:Tok) (a b:zdK) (g:Bool),nZ h z ti to (.int T u) (.bool g)/\IsPair h T a b
 ins:IsPair h ti (.ref j1) (.ref j2)
 FX:h.IsListIter j1 l i
 Cc:I2 h i
 ls:h.IsList l xs
theorem Hj{z ti to j1 j2 l tp:zdJ}{xs ys:Array zdK}{I2:Heap->Nat->Prop}{i:Nat}{x y:zdK}{Q:Option zdK->zdT->Prop}(Z2:N1 prog w j2 tp ys I2)(ap:PL z ti to j1 j2 l tp)(st:JK s.heap z ti to j1 j2 l tp xs I2 i)(hx:xs[i]?=some x)(hy:ys[i]?=some y)
 (hQ:∀h',JK h' z ti to j1 j2 l tp xs I2 (i+1)->IsPair h' s.heap.objs.size x y->(∀c o,c≠z->c≠to->c≠j1->c≠j2->s.heap.get? c=some o->h'.get? c=some o)->Q (some (.ref s.heap.objs.size)) {s with heap:=h' }) :
 wpAny (model prog w) A (pyNext (.ref z)) Q E s:=by
 have zT:s.TypeIs (.ref z) "zip":=by
  rcases st.zip with ⟨a,b,hz,_⟩ |⟨T,u,a,b,g,hz,_⟩
  ·exact⟨_,hz,rfl⟩
  ·exact⟨_,hz,rfl⟩
 obtain⟨o1,g1,c1,_⟩:=st.FX;obtain⟨o2,cc2,g2,c2,jn1,VM,jn3,_⟩:=Z2.cj st.Cc;obtain⟨ol,gl,cl,_⟩:=st.ls;obtain⟨oz,gz,cz⟩:=zT;have lk:∀h',(∀c o,c≠z->c≠to->c≠j1->c≠j2->s.heap.get? c=some o->h'.get? c=some o)->IsPair h' ti (.ref j1) (.ref j2)/\h'.IsList l xs:=fun h' k=>by
  refine⟨k _ _ ap.zti.symm ap.VI ap.VJ ap.VL st.ins,?_⟩;obtain⟨q,gq,rest⟩:=st.ls;exact⟨q,k _ _ (ie gl gz cl cz (by decide)) ap.TK (ie gl g1 cl c1 (by decide)) (ie gl g2 cl c2 (Ne.symm VM)) gq,rest⟩
 unfold pyNext;refine zdM (wpAny_attempt (wpAny_callSpecial?_slot (name:=zac "__next__") ⟨oz,gz,cz⟩ F.slot_zip_next (wpAny_call_entry F.slot_zip_next ⟨oz,gz,cz⟩ F.entry_zip_next ?_ (F.args_zip_next_1 _))));rcases st.zip with ⟨a,b,hz,hO⟩ |⟨T,u,a,b,g,hz,hT⟩
 ·refine Cb Z2 hz hO st.ins st.FX st.Cc st.ls ap.Br ap.KG ap.Ru ap.Hh ap.Hi ap.Mj ap.KI hx hy fun h' q1 q2 q3 q4 q5 q6=>zdN ?_;obtain⟨k1,k2⟩:=lk h' q6;exact hQ h' ⟨.inr ⟨_,_,x,y,false,q1,q4⟩,k1,q2,q3,k2⟩ q4 q6
 ·refine Ca Z2 hz hT st.ins st.FX st.Cc st.ls ap.Br ap.KG ap.Mj hx hy fun h' q1 q2 q3 q4 q5 q6=>zdN ?_;have Ys:∀c o,c≠z->c≠to->c≠j1->c≠j2->s.heap.get? c=some o->h'.get? c=some o:=fun c o a1 _ a3 a4 e=>q6 c o a1 a3 a4 e;obtain⟨k1,k2⟩:=lk h' Ys;exact hQ h' ⟨.inr ⟨T,u,a,b,true,q1,q6 _ _ (ie hT gz rfl cz (by decide)) (ie hT g1 rfl c1 (by decide)) (ie hT g2 rfl c2 (Ne.symm jn3)) hT⟩,k1,q2,q3,k2⟩ q4 Ys
theorem KJ{z ti to j1 j2 l tp:zdJ}{xs:Array zdK}{I2:Heap->Nat->Prop}{i:Nat}{Q:Option zdK->zdT->Prop}(hA:A.handled=none)(ap:PL z ti to j1 j2 l tp)(st:JK s.heap z ti to j1 j2 l tp xs I2 i)(hx:xs[i]?=none)
 (hQ:∀h',(∀c o,c≠z->c≠j1->s.heap.get? c=some o->h'.get? c=some o)->Q none {s with heap:=h' }):wpAny (model prog w) A (pyNext (.ref z)) Q E s:=by
 have zT:s.TypeIs (.ref z) "zip":=by
  rcases st.zip with ⟨a,b,hz,_⟩ |⟨T,u,a,b,g,hz,_⟩
  ·exact⟨_,hz,rfl⟩
  ·exact⟨_,hz,rfl⟩
 unfold pyNext;refine zdM (wpAny_attempt (wpAny_callSpecial?_slot (name:=zac "__next__") zT F.slot_zip_next (wpAny_call_entry F.slot_zip_next zT F.entry_zip_next ?_ (F.args_zip_next_1 _))));rcases st.zip with ⟨a,b,hz,hO⟩ |⟨T,u,a,b,g,hz,hT⟩
 ·refine E2 hA hz st.ins st.FX st.ls ap.Br hx fun h' e k he=>?_;obtain⟨oe,ge,ce⟩:=he;refine zdM (wpAny_isInstance (T:="StopIteration") (b:=true) ⟨oe,ge,ce⟩ isSubtype_stop ?_);exact zdN (hQ _ k)
 ·refine E1 hA hz hT st.ins st.FX st.ls ap.Br hx fun h' e k he=>?_;obtain⟨oe,ge,ce⟩:=he;refine zdM (wpAny_isInstance (T:="StopIteration") (b:=true) ⟨oe,ge,ce⟩ isSubtype_stop ?_);exact zdN (hQ _ k)
theorem JK.but{h h':Heap}{z ti to j1 j2 l tp:zdJ}{xs ys:Array zdK}{I2:Heap->Nat->Prop}{i:Nat}{P:zdJ->Prop}(Z2:N1 prog w j2 tp ys I2)(st:JK h z ti to j1 j2 l tp xs I2 i)(k:∀a o,P a->h.get? a=some o->h'.get? a=some o)(pl:P l)(pt:P tp)(pc:∀a o c,h.get? a=some o->o.cls=.type c->c≠"list"->c≠"dict"->P a):JK h' z ti to j1 j2 l tp xs I2 i:=by
 have kc:∀a o c,h.get? a=some o->o.cls=.type c->c≠"list"->c≠"dict"->h'.get? a=some o:=fun a o c e hc n1 n2=>k _ _ (pc a o c e hc n1 n2) e;obtain⟨oj,cjj,gj,cj,_,VM,_,jn4⟩:=Z2.cj st.Cc;refine⟨?_,kc _ _ _ st.ins rfl (by decide) (by decide),?_,Z2.kp st.Cc fun b o hb e=>?_,?_⟩
 ·rcases st.zip with ⟨a,b,hz,hO⟩ |⟨T,u,a,b,g,hz,hT⟩
  ·exact .inl ⟨a,b,kc _ _ _ hz rfl (by decide) (by decide),kc _ _ _ hO rfl (by decide) (by decide)⟩
  ·exact .inr ⟨T,u,a,b,g,kc _ _ _ hz rfl (by decide) (by decide),kc _ _ _ hT rfl (by decide) (by decide)⟩
 ·obtain⟨o,go,hc,hd⟩:=st.FX;exact⟨o,kc _ _ _ go hc (by decide) (by decide),hc,hd⟩
 ·rcases hb with rfl |rfl
  ·rw[gj] at e;cases e;exact kc _ _ _ gj cj VM jn4
  ·exact k _ _ pt e
 ·obtain⟨o,go,rest⟩:=st.ls;exact⟨o,k _ _ pl go,rest⟩
theorem DA{κ:Type}[DecidableEq κ](knd:KeyKind prog w κ)(d z ti to j1 j2 l tp:zdJ)(xs ys:Array zdK){I2:Heap->Nat->Prop}(Z2:N1 prog w j2 tp ys I2)(res:zdK)(hA:A.handled=none)(ap:PL z ti to j1 j2 l tp)(Yt:d≠to){R:Result->zdT->Prop}:∀(r:List (κ×zdK×zdK)) (i:Nat) (j:Int) (u:Tok) (kvs:List (κ×zdK)) (s:zdT),
 xs.toList.drop i=r.map (·.2.1)->ys.toList.drop i=r.map (·.2.2)->(∀q∈r,knd.is q.1 q.2.1=true)->JK s.heap z ti to j1 j2 l tp xs I2 i->s.heap.DictOf knd d kvs->kvs.length+r.length<=zdR->
 (∀h' tk,h'.DictOf knd d (merged kvs (r.map fun q=>(q.1,q.2.2)))->(∀b o,b≠d->b≠z->b≠to->b≠j1->b≠j2->s.heap.get? b=some o->h'.get? b=some o)->R (.ok (.ret res)) {s with heap:=h',toks:=tk})->
 codeAny (model prog w) A (.builtin "dict.update.loop" ⟨[.ref d,.ref z,.int j u,res],[]⟩) R s
 |[],i,j,u,kvs,s,hi,hk,hp,st,hd,hz,hR=>by
  refine codeAny_builtin k6 ?_;rw[Around.under_plainId eO _];show wpAny _ A.in1 (pyNext (.ref z) >>= _) _ _ s;have dn:∀a o,s.heap.get? a=some o->(∀es n,o.data≠.dict es n)->a≠d:=fun a o e n q=>by
   obtain⟨od,_,_,Hk,_,N0,_⟩:=hd;rw[q,Hk] at e;cases e;exact n _ _ N0
  refine zdM (KJ hA ap st (by rw[<- zaU];rw[zbr] at hi;exact zaX (zds.mp hi)) fun h' kp=>?_);show wpAny _ _ (Builtin.Dict.addKeywords d [] >>= _) _ _ _;refine zdM (zdN (zdN (hR h' s.toks ?_ fun b o _ c1 _ c3 _ e=>kp b o c1 c3 e)));have dz:d≠z:=by
   rcases st.zip with ⟨a,b,gz,_⟩ |⟨T,u,a,b,g,gz,_⟩
   ·exact(dn _ _ gz (by intro es n q;cases q)).symm
   ·exact(dn _ _ gz (by intro es n q;cases q)).symm
  have dj:d≠j1:=by
   obtain⟨o,go,hc,C8⟩:=st.FX;exact(dn _ _ go (by intro es n q;rw[C8] at q;cases q)).symm
  obtain⟨o,es,ep,ho,rest⟩:=hd;exact⟨o,es,ep,kp d o dz dj ho,rest⟩
 |q::r,i,j,u,kvs,s,hi,hk,hp,st,hd,hz,hR=>by
  have hx:xs[i]?=some q.2.1:=by
   rw[<- zaU,<- zdc,hi];rfl
  have hy:ys[i]?=some q.2.2:=by
   rw[<- zaU,<- zdc,hk];rfl
  have dn:∀a o,s.heap.get? a=some o->(∀es n,o.data≠.dict es n)->a≠d:=fun a o e n q=>by
   obtain⟨od,_,_,Hk,_,N0,_⟩:=hd;rw[q,Hk] at e;cases e;exact n _ _ N0
  have dz:d≠z:=by
   rcases st.zip with ⟨a,b,gz,_⟩ |⟨T,u,a,b,g,gz,_⟩
   ·exact(dn _ _ gz (by intro es n q;cases q)).symm
   ·exact(dn _ _ gz (by intro es n q;cases q)).symm
  have dj1:d≠j1:=by
   obtain⟨o,go,hc,C8⟩:=st.FX;exact(dn _ _ go (by intro es n q;rw[C8] at q;cases q)).symm
  have dj2:d≠j2:=by
   obtain⟨o,c,go,hc,_,_,_,n4⟩:=Z2.cj st.Cc;obtain⟨od,_,_,Hk,hex,_⟩:=hd;exact ie Hk go hex.1 hc (Ne.symm n4)
  refine codeAny_builtin k6 ?_;rw[Around.under_plainId eO _];show wpAny _ A.in1 (pyNext (.ref z) >>= _) _ _ s;refine zdM (Hj Z2 ap st hx hy fun h' ud pr kp=>?_);have C8:h'.DictOf knd d kvs:=by
   obtain⟨o,es,ep,ho,rest⟩:=hd;exact⟨o,es,ep,kp d o dz Yt dj1 dj2 ho,rest⟩
  show wpAny _ A.in1 (holding [Value.ref s.heap.objs.size] _ >>= _) _ _ _;refine zdM (zdO (zdM (wpAny_tryCatch ?_)));unfold Builtin.Dict.pairItems;refine zdM (wpAny_typeOf (T:="tuple") ⟨_,pr,rfl⟩ ?_);rw[if_pos (by decide)];refine zdM (wpAny_seqItems (s:={s with heap:=h' }) pr rfl (zdN ?_));show wpAny _ A.in1 (holding [q.2.1,q.2.2] (dictSet d q.2.1 q.2.2)) _ _ _;refine zdO (wpAny_dictSet_pairs (s:={s with heap:=h' }) (hp q (zaB ..)) C8 (fun h2 hd2 NZ=>?_) (by simp only[zai] at hz;lia));refine zdN ⟨plainId_quiet eO _,?_⟩;refine DA knd d z ti to j1 j2 l tp xs ys Z2 res hA ap Yt r (i+1) (j+1) _ _ _ ?_ ?_ (fun p Vu=>hp p (zae _ Vu)) (ud.but (P:=(·≠d)) Z2 (fun a o n e=>NZ.extBut _ _ n e) ?_ ?_ fun a o c e hc _ n2 w=>?_) hd2 ?_ fun h3 tk Vv keep=>hR h3 tk Vv fun b o n1 n2 n3 n4 n5 e=>keep b o n1 n2 n3 n4 n5 ?_
  ·rw[<- zdo,hi];rfl
  ·rw[<- zdo,hk];rfl
  ·obtain⟨ol,gl,cl,_⟩:=ud.ls;obtain⟨od,_,_,Hk,hex,_⟩:=C8;exact ie gl Hk cl hex.1 (by decide)
  ·obtain⟨ot,c,gt,ct,_,_,n3⟩:=Z2.ct ud.Cc;obtain⟨od,_,_,Hk,hex,_⟩:=C8;exact ie gt Hk ct hex.1 n3
  ·obtain⟨od,_,_,Hk,hex,_⟩:=C8;rw[w,Hk] at e;cases e;rw[hex.1] at hc;exact n2 (Value.type.inj hc).symm
  ·have:=stored_length_le kvs q.1 q.2.2;simp only[zai] at hz;lia
  ·exact(NZ.2 _ n1).trans (kp b o n2 n3 n4 n5 e)
theorem Hl:typeLookup (.type "zip") "keys"=pure none:=by rw[typeLookup_type,builtinLookup_eq_fast];kernel_rfl
theorem Hm:typeLookup (.type "zip") "__getattr__"=pure none:=by rw[typeLookup_type,builtinLookup_eq_fast];kernel_rfl
theorem yk:entryFor table "zip.__getattribute__"=some Builtin.«object.__getattribute__»:=entryFor_alias (id':="object.__getattribute__") (by kernel_rfl) (by first |rfl |decide +kernel) (by decide +kernel) (by kernel_rfl)
theorem E3(a:zdJ)(u:Tok){hp:Heap}{g:Array GenState}{d:Drawn}{tk:Nat}{os:OsState}{vs:Array zdK}{Q:Fin->zdT->Prop}(hx:hp.get? a=some ⟨.type "zip",none,.fields vs, #[]⟩)(hA:A.handled=none)
 (h:∀h' Hf e,Heap.NewAttrErr hp h' e (.ref a) "keys"->E (.ref e) ⟨h',g,d,Hf,os⟩) :
 wpAny (model prog w) A (Builtin.«object.__getattribute__» ⟨[.ref a,.str "keys" u],[]⟩) Q E ⟨hp,g,d,tk,os⟩:=by
 have hT:(⟨hp,g,d,tk,os⟩:zdT).TypeIs (.ref a) "zip":=⟨_,hx,rfl⟩
 have f4:=Hl;unfold Builtin.«object.__getattribute__»
 repeat (any_goals (first |assumption |wp_step))
 exact wpAny_raiseAttrError hA h (attrMsg_fits (by decide +kernel) (by size_fits))
theorem Cd(a:zdJ){s:zdT}{vs:Array zdK}{Q:Option zdK->zdT->Prop}(hx:s.heap.get? a=some ⟨.type "zip",none,.fields vs, #[]⟩)(hA:A.handled=none)
 (h:∀h' tk,(∀b ob,s.heap.get? b=some ob->h'.get? b=some ob)->Q none {s with heap:=h',toks:=tk}):wpAny (model prog w) A (getAttr? (.ref a) "keys") Q E s:=by
 obtain⟨hp,g,d,tk,os⟩:=s;have hT:∀Hf,(⟨hp,g,d,Hf,os⟩:zdT).TypeIs (.ref a) "zip":=fun _=>⟨_,hx,rfl⟩
 have f1:=sub_AttributeError;have f2:=F.slot_zip_getattribute.lookup;have f3:=F.slot_zip_getattribute.bind (.ref a);have f5:=Hm;unfold getAttr? getAttrBy? getAttrBy
 repeat (any_goals (first |assumption |exact hT _ |wp_step))
 all_goals
  refine codeAny_call_builtin F.slot_zip_getattribute.plain yk (F.slot_zip_getattribute.check _ _ _ _ _ _ _ _ (show (⟨hp,g,d,tk+1,os⟩:zdT).TypeIs (.ref a) "zip" from ⟨_,hx,rfl⟩) (F.args_zip_getattribute_2 _ _) ?_)
 all_goals
  refine E3 a tk hx hA fun h' Hf e ne=>?_
 all_goals
  obtain⟨t',u',he⟩:=ne.there;show wpAny _ _ (getattributeRaised _ _ _ _ _ _ _) _ _ _;unfold getattributeRaised
  repeat (any_goals (first |assumption |wp_step))
 all_goals exact h _ _ ne.keeps
end
abbrev zA (h:Heap) (l:zdJ):Heap:=h.push {cls:=.type "list_iterator",data:=.fields #[.ref l,.int 0 0]}
abbrev zB (h:Heap) (l tp:zdJ):Heap:=(zA h l).push {cls:=.type "tuple_iterator",data:=.fields #[.ref tp,.int 0 0]}
abbrev zC (h:Heap) (l tp:zdJ):Heap:=(zB h l tp).push {cls:=.type "tuple",data:=.seq #[.ref h.objs.size,.ref (zA h l).objs.size]}
abbrev zD (h:Heap) (l tp:zdJ):Heap:=(zC h l tp).push {cls:=.type "tuple",data:=.seq #[.none,.none]}
abbrev zE (h:Heap) (l tp:zdJ):Heap:=(zD h l tp).push {cls:=.type "zip",data:=.fields #[.none,.bool false,.bool false,.ref (zB h l tp).objs.size,.ref (zC h l tp).objs.size]}
theorem Hn(l tp:zdJ)(xs ys:Array zdK):Meets (Builtin.«zip.__new__» ⟨[.type "zip",.ref l,.ref tp],[]⟩) (fun _ R s=>s.heap.IsList l xs/\s.heap.IsTuple tp ys/\R (.ok (.ret (.ref (zD s.heap l tp).objs.size))) {s with heap:=zE s.heap l tp}):=
 .of_wp fun prog w A R s h=>by
  obtain⟨hp,g,d,tk,os⟩:=s;obtain⟨g1,g2,h⟩:=h;have N2:=sub_zip;have k1:Heap.IsList (Shared.heap ⟨hp,g,d,tk,os⟩) l xs:=g1;have k2:Heap.IsTuple (Shared.heap ⟨hp.push {cls:=.type "list_iterator",data:=.fields #[.ref l,.int 0 0]},g,d,tk,os⟩) tp ys:=by
   obtain⟨o,go,rest⟩:=g2;exact⟨o,Heap.get?_push_of_some _ go,rest⟩
  wp_walk using wpAny_pyIter_list k1,wpAny_pyIter_tuple k2
  exact⟨_,rfl,h⟩
section
variable{prog:zdV}{w:zdL}{A:zdU}{E:zdK->zdT->Prop}{s:zdT}
theorem KL(n l tp:Nat)(h1:l<n)(h2:tp<n):PL (n+4) (n+2) (n+3) n (n+1) l tp:=by
 constructor<;>(show (_:Nat)≠_;lia)
theorem Ce{l tp:zdJ}{xs ys:Array zdK}{Q:zdK->zdT->Prop}(hl:s.heap.IsList l xs)(ht:s.heap.IsTuple tp ys)
 (h:∀h',PL (s.heap.objs.size+4) (s.heap.objs.size+2) (s.heap.objs.size+3) s.heap.objs.size (s.heap.objs.size+1) l tp->JK h' (s.heap.objs.size+4) (s.heap.objs.size+2) (s.heap.objs.size+3) s.heap.objs.size (s.heap.objs.size+1) l tp xs (fun h i=>h.IsTupleIter (s.heap.objs.size+1) tp i/\h.IsTuple tp ys) 0->
  nZ h' (s.heap.objs.size+4) (s.heap.objs.size+2) (s.heap.objs.size+3) .none (.bool false)->(∀c o,s.heap.get? c=some o->h'.get? c=some o)->Q (.ref (s.heap.objs.size+4)) {s with heap:=h' }) :
 wpAny (model prog w) A (call (.type "zip") [.ref l,.ref tp]) Q E s:=by
 refine callType_new F.called_zip (by decide) (F.typeCall_zip_2 _ _) (F.newCall_zip_2 _ _) (fun obj=>F.args_object_init_3 obj _ _) F.entry_zip_new (Hn l tp xs ys) ⟨hl,ht,?_⟩;have z1:(zA s.heap l).objs.size=s.heap.objs.size+1:=Heap.size_push ..;have z2:(zB s.heap l tp).objs.size=s.heap.objs.size+2:=by rw[Heap.size_push,z1]
 have z3:(zC s.heap l tp).objs.size=s.heap.objs.size+3:=by rw[Heap.size_push,z2]
 have z4:(zD s.heap l tp).objs.size=s.heap.objs.size+4:=by rw[Heap.size_push,z3]
 have g5:(zE s.heap l tp).get? (zD s.heap l tp).objs.size=some _:=Heap.get?_push_size _ rfl;have g4:(zE s.heap l tp).get? (zC s.heap l tp).objs.size=some _:=Heap.get?_push_of_some _ (Heap.get?_push_size _ rfl);have g3:(zE s.heap l tp).get? (zB s.heap l tp).objs.size=some _:=Heap.get?_push_of_some _ (Heap.get?_push_of_some _ (Heap.get?_push_size _ rfl));have g2:(zE s.heap l tp).get? (zA s.heap l).objs.size=some _:=Heap.get?_push_of_some _ (Heap.get?_push_of_some _ (Heap.get?_push_of_some _ (Heap.get?_push_size _ rfl)));have g1:(zE s.heap l tp).get? s.heap.objs.size=some _:=Heap.get?_push_of_some _ (Heap.get?_push_of_some _ (Heap.get?_push_of_some _ (Heap.get?_push_of_some _ (Heap.get?_push_size _ rfl))));have up:∀c o,s.heap.get? c=some o->(zE s.heap l tp).get? c=some o:=fun c o e=>Heap.get?_push_of_some _ (Heap.get?_push_of_some _ (Heap.get?_push_of_some _ (Heap.get?_push_of_some _ (Heap.get?_push_of_some _ e))));show _/\_;rw[z2,z3,z4] at g5;rw[z1,z2] at g3;rw[z3] at g4;rw[z1] at g2;rw[z4];obtain⟨ol,gl,rl⟩:=id hl;obtain⟨ot,gt,rt⟩:=id ht;have ll:=Heap.lt_size gl;have lt:=Heap.lt_size gt;refine⟨⟨_,g5,rfl⟩,h _ (KL _ _ _ ll lt) ⟨.inl ⟨_,_,g5,g4⟩,g3,⟨_,g1,rfl,rfl⟩,⟨⟨_,g2,rfl,rfl⟩,ot,up _ _ gt,rt⟩,⟨ol,up _ _ gl,rl⟩⟩ g5 up⟩
theorem Ho{κ:Type}[DecidableEq κ](knd:KeyKind prog w κ)(z ti to j1 j2 l tp:zdJ){xs ys:Array zdK}{I2:Heap->Nat->Prop}(Z2:N1 prog w j2 tp ys I2){Q:zdK->zdT->Prop}(hA:A.handled=none)(ap:PL z ti to j1 j2 l tp)(st:JK s.heap z ti to j1 j2 l tp xs I2 0)(gz:nZ s.heap z ti to .none (.bool false))(r:List (κ×zdK×zdK))
 (hi:xs.toList=r.map (·.2.1)) (hk:ys.toList=r.map (·.2.2)) (hp:∀q∈r,knd.is q.1 q.2.1=true) (hz:r.length<=zdR) (TK:to<s.heap.objs.size)
 (h:∀h' tk,h'.DictOf knd s.heap.objs.size (merged [] (r.map fun q=>(q.1,q.2.2)))->(∀b o,b≠z->b≠to->b≠j1->b≠j2->s.heap.get? b=some o->h'.get? b=some o)->Q (.ref s.heap.objs.size) {s with heap:=h',toks:=tk}) :
 wpAny (model prog w) A (call (.type "dict") [.ref z]) Q E s:=by
 refine callType_codes (Q₁:=fun obj s₁=>obj=.ref s.heap.objs.size/\s₁={s with heap:=s.heap.push {cls:=.type "dict",data:=.dict #[]} }) F.kt_called_dict (F.kt_typeCall_dict_1 _) F.entry_dict_init (kt_code_dict_new _ ⟨rfl,rfl⟩) ?_
 rintro obj s₁ ⟨rfl,rfl⟩
 have B9:(s.heap.push {cls:=.type "dict",data:=.dict #[]}).DictOf knd s.heap.objs.size []:=Heap.DictOf.new s.heap;have nX:∀b o,s.heap.get? b=some o->(s.heap.push {cls:=.type "dict",data:=.dict #[]}).get? b=some o:=fun b o e=>Heap.get?_push_of_some _ e;refine⟨B9.typeIs,F.args_dict_init_2 _ _,?_⟩;unfold Builtin.«dict.__init__»;refine zdM ?_;unfold Builtin.Dict.selfAndRest;refine zdM (wpAny_notOrdered_dict B9.typeIs ?_);show wpAny _ _ (pure (s.heap.objs.size,[Value.ref z])) _ _ _;refine zdN ?_;show wpAny _ _ (Builtin.Dict.updateFrom "dict.__init__" s.heap.objs.size (.ref z) [] .none) _ _ _;unfold Builtin.Dict.updateFrom;refine zdM (wpAny_typeOf (T:="zip") ⟨_,nX _ _ gz,rfl⟩ ?_);rw[if_pos (by decide)];refine zdM (Cd z (nX _ _ gz) hA fun h2 VA nY=>?_);rw[if_pos (show (none:Option zdK).isNone=true from rfl)];refine zdM (wpAny_rule ?_);have up:∀b o,s.heap.get? b=some o->h2.get? b=some o:=fun b o e=>nY _ _ (nX _ _ e);have hd2:h2.DictOf knd s.heap.objs.size []:=by
  obtain⟨o,es,ep,ho,rest⟩:=B9;exact⟨o,es,ep,nY _ _ ho,rest⟩
 refine zdM (wpAny_pyIter_zip (s:={s with heap:=h2,toks:=VA}) (up _ _ gz) ?_);refine zdN ⟨plainId_quiet eO _,?_⟩;have Py:JK h2 z ti to j1 j2 l tp xs I2 0:=by
  refine⟨?_,up _ _ st.ins,?_,Z2.kp st.Cc fun b o _ e=>up _ _ e,?_⟩
  ·rcases st.zip with ⟨a,b,e1,e2⟩ |⟨T,u,a,b,g,e1,e2⟩
   ·exact .inl ⟨a,b,up _ _ e1,up _ _ e2⟩
   ·exact .inr ⟨T,u,a,b,g,up _ _ e1,up _ _ e2⟩
  ·obtain⟨o,go,rest⟩:=st.FX;exact⟨o,up _ _ go,rest⟩
  ·obtain⟨o,go,rest⟩:=st.ls;exact⟨o,up _ _ go,rest⟩
 refine DA (A:=A.in1) knd s.heap.objs.size z ti to j1 j2 l tp xs ys Z2 .none hA ap (za2 TK) r 0 0 _ [] _ (by simpa using hi) (by simpa using hk) hp Py hd2 (by simpa using hz) fun h4 VB VC Hg=>?_;refine⟨rfl,h h4 VB VC fun b o n1 n2 n3 n4 e=>Hg b o (fun w=>?_) n1 n2 n3 n4 (up _ _ e)⟩;rw[w] at e;exact absurd (Heap.lt_size e) (za1 _)
end
end L3
namespace L2
open PySem PyProof.Rows
theorem Cf(c n k:Nat)(h:c<n):c≠n+k:=by lia
def Yu (K:zab) (t:TA):TE:=fun σ H Q=>t σ H fun xs H1=>∃(a b:zdJ) (ks:List Key) (vs:List V),xs=[.ref a,.ref b]/\fU K H1 a (ks.map kV)/\cF K H1 b vs/\vs.length=ks.length/\∀p,H1 p=none->Q (.ref p) (upd H1 p (.dK (hJ [] (ks.zip vs))))
theorem Cg{X:Cx}(hc:X.calm=true){ea eb:Expr}{p1 p2 Rw E4:Pos}{t:TA}(hg1:Gl X "dict")(VN:X.mg "dict"=none)(hg2:Gl X "zip")(VO:X.mg "zip"=none)(ha:PA X [ea,eb] t)
 (he:zdP [ea,eb] X.env=(false,eval ea X.env)::zdP [eb] X.env:=by rfl) (oO:(backTo E4 (zdP [eb] X.env)).any (·.1)=false:=by rfl)
 (B5:zdP [.Call (.Name "zip" p2) [ea,eb] [] E4] X.env=(false,eval (.Call (.Name "zip" p2) [ea,eb] [] E4) X.env)::zdP [] X.env:=by rfl) :
 PE X (.Call (.Name "dict" p1) [.Call (.Name "zip" p2) [ea,eb] [] E4] [] Rw) (Yu X.K t):=by
 intro pins s σ H Q I h;refine wpAny_Call_Name_kw (kU I hg1 VN PyProof.Rows.Boot.«dict» ?_ (by decide) (by decide));refine zaY ?_ B5 rfl;rw[B5];show wpAny _ _ (spliced ((false,eval (.Call (.Name "zip" p2) [ea,eb] [] E4) X.env)::backTo Rw (zdP [] X.env))) _ _ s;refine Calls.spliced_cons ?_;refine wpAny_Call_Name_kw (kU I hg2 VO PyProof.Rows.Boot.«zip» ?_ (by decide) (by decide));refine zaY (cS (ha E4 pins s σ H _ I h) fun us s1 zqz=>?_) he oO;obtain⟨xs,H1,I1,r1,q1⟩:=zqz;obtain⟨a,b,ks,vs,rfl,ha1,KN,lk,q⟩:=q1;obtain⟨u1,u2,rfl,ru1,ru2⟩:=vals2 r1;cases (show u1=Value.ref a from ru1);cases (show u2=Value.ref b from ru2);obtain⟨VP,v1,t1,z1⟩:=I1.list ha1;obtain⟨pI,v2,t2,z2⟩:=I1.tuple KN;have mk:∀(ks:List Key) (vs:List V) (TL Aq:List zdK),Vals (ks.map kV) TL->Vals vs Aq->vs.length=ks.length->∃r:List (Key×zdK×zdK),TL=r.map (·.2.1)/\Aq=r.map (·.2.2)/\(∀q∈r,(bN X.prog X.w).is q.1 q.2.1=true)/\KV (ks.zip vs) (r.map fun q=>(q.1,q.2.2))/\r.length=ks.length:=by
  intro ks
  induction ks with
  |nil=>
   intro vs TL Aq w1 w2 l;have:vs=[]:=zbI.mp l;subst this;cases w1;cases w2;exact⟨[],rfl,rfl,fun _ z=>(by cases z),.nil,rfl⟩
  |cons k ks ih=>
   intro vs TL Aq w1 w2 l;cases vs with
   |nil=>simp at l
   |cons v vs=>
    rw[zaq] at w1;cases w1 with
    |@cons _ ku _ kus w11 w12=>
     cases w2 with
     |@cons _ vu _ vus w21 w22=>
      obtain⟨r,e1,e2,h3,h4,h5⟩:=ih vs kus vus w12 w22 (by simpa using l);refine⟨(k,ku,vu)::r,by rw[e1];rfl,by rw[e2];rfl,fun q hq=>?_,.cons ⟨rfl,w21⟩ h4,by simp[h5]⟩;rcases zag.mp hq with rfl |hq
      ·exact nW w11
      ·exact h3 q hq
 obtain⟨r,e1,e2,kis,kv,lr⟩:=mk ks vs VP pI v1 v2 lk;rw[zad] at z1;refine L3.Ce t1.isList (show s1.heap.IsTuple b pI.toArray from t2) fun h' ap st gz keep=>?_;refine Calls.spliced_nil ?_;have big:(s1.heap.objs.size+4:Nat)<h'.objs.size:=Heap.lt_size gz;have hle:s1.heap.objs.size<=h'.objs.size:=by lia
 refine L3.Ho (s:={s1 with heap:=h' }) (bN X.prog X.w) _ _ _ _ _ a b L3.KD (I1.ok.hd hc) ap st gz r (by simpa using e1) (by simpa using e2) kis (by lia) (show (s1.heap.objs.size+3:Nat)<h'.objs.size by lia) fun h2 tk dd nY=>?_;have hn:=I1.cc.fresh hle;have hb:(h'.objs.size==sysModules)=false:=beq_eq_false_iff_ne.mpr (Ne.symm (zat (zay I1.big hle)));refine⟨.ref h'.objs.size,_,I1.laid (fun c o e=>nY c o ?_ ?_ ?_ ?_ (keep c o e)) hle (xV ?_ hb (kv.merge .nil) dd),rfl,q _ hn⟩
 ·have lc:(c:Nat)<s1.heap.objs.size:=Heap.lt_size e;exact Cf _ _ _ lc
 ·have lc:(c:Nat)<s1.heap.objs.size:=Heap.lt_size e;exact Cf _ _ _ lc
 ·have lc:(c:Nat)<s1.heap.objs.size:=Heap.lt_size e;exact zat lc
 ·have lc:(c:Nat)<s1.heap.objs.size:=Heap.lt_size e;exact Cf _ _ _ lc
 ·have h1:=iw (ks.zip vs) [];rw[zaz,zbW] at h1;lia
section
variable{K:zab}{H H':Hp}{p C dx:zdJ}{fs:List (Str×V)}
mutual
theorem nA(h:H p=some (.ins C dx fs))(u:a0 (·=p) H H'):∀(d:Dp) (v:V),Rep K H d v->Rep K H' d v
 |.bI,v,r=>by rw[Rep.tI] at r ⊢;exact r
 |.bl b,v,r=>by rw[Rep.xX] at r ⊢;exact r
 |.int b,v,r=>by rw[Rep.bw] at r ⊢;exact r
 |.str b,v,r=>by rw[Rep.bQ] at r ⊢;exact r
 |.lst l,v,r=>by
  rw[Rep.bq] at r ⊢;obtain⟨a,ys,rfl,q,rs⟩:=r;refine⟨a,ys,rfl,?_,mF h u l ys rs⟩;rcases q with (q |⟨o,q⟩) |q
  ·exact .inl (.inl (u _ _ (fY q h (by intro z;cases z)) q))
  ·exact .inl (.inr ⟨o,u _ _ (fY q h (by intro z;cases z)) q⟩)
  ·exact .inr q
 |.tup l,v,r=>by
  rw[Rep.bj] at r ⊢;obtain⟨a,ys,rfl,q,rs⟩:=r;refine⟨a,ys,rfl,?_,mF h u l ys rs⟩;rcases q with (q |⟨o,q⟩) |q
  ·exact .inl (.inl (u _ _ (fY q h (by intro z;cases z)) q))
  ·exact .inl (.inr ⟨o,u _ _ (fY q h (by intro z;cases z)) q⟩)
  ·exact .inr q
theorem mF(h:H p=some (.ins C dx fs))(u:a0 (·=p) H H'):∀(ds:List Dp) (vs:List V),aQ K H ds vs->aQ K H' ds vs
 |[],vs,r=>by rw[aQ.bO] at r ⊢;exact r
 |d::ds,vs,r=>by
  rw[aQ.aO] at r ⊢;obtain⟨v,t,rfl,r1,r2⟩:=r;exact⟨v,t,rfl,nA h u d v r1,mF h u ds t r2⟩
end
end
theorem oW{K:zab}{a D:zdJ}{xs:List V}{te:TE}{Q:VK}{r:St}{H:Hp}(kf:Nat->Key×V)(hS:fU K H a xs)(hl:xs.length<=16000000)(hD:H D=none)
 (step:∀i x H2,xs[i]?=some x->aq H H2->∀R:VK,(∀p,H2 p=none->R (.ref p) (upd H2 p (.tup [kV (kf i).1,(kf i).2])))->te (some x::r) H2 R)
 (q:∀(ps:List (zdJ×Key×V)) H2,aq H H2->H2 D=some (.lst (ps.map fun q=>V.ref q.1))->(∀q∈ps,H2 q.1=some (.tup [kV q.2.1,q.2.2]))->ps.map (·.2)=(zaC xs.length).map kf->Q (.ref D) H2) :
 jW (BE K a) D (eG 0) oR te Q (none::r) (upd H D (.lst [])):=by
 refine oV (K:=K) (fun i ys H2=>∃ps:List (zdJ×Key×V),ys=ps.map (fun q=>V.ref q.1)/\(∀q∈ps,H2 q.1=some (.tup [kV q.2.1,q.2.2]))/\ps.map (·.2)=(zaC i).map kf) hS hl hD ⟨[],rfl,fun _ z=>(by cases z),rfl⟩ ?_ ?_
 ·rintro i x ys H2 hx s2 N3 ly ⟨ps,rfl,E5,ep⟩ R hR
  refine step i x H2 hx s2 R fun p hp=>hR _ _ (aq.new hp _) ⟨ps++[(p,kf i)],by simp,fun q hq=>?_,by rw[zaw,ep,zcz,zaw];rfl⟩;have pD:D≠p:=aF N3 hp;rcases zak.mp hq with hq |hq
  ·have e:=E5 q hq;rw[aD (fY e N3 (by intro z;cases z))];exact aq.new hp _ _ _ e
  ·rw[zan.mp hq];show upd (upd H2 p _) D _ p=_;rw[aD pD.symm,ai]
 ·rintro ys H2 s2 N3 ⟨ps,rfl,E5,ep⟩
  exact q ps H2 s2 N3 E5 ep
theorem qV{K:zab}{a D:zdJ}{xs:List V}{te:TE}{Q:VK}{r:St}{H:Hp}(f:Nat->V)(hS:fU K H a xs)(hl:xs.length<=16000000)(hD:H D=none)
 (step:∀i x H2,xs[i]?=some x->aq H H2->∀R:VK,R (f i) H2->te (some x::r) H2 R)
 (q:∀H2,aq H H2->H2 D=some (.lst ((zaC xs.length).map f))->Q (.ref D) H2):jW (BE K a) D (eG 0) oR te Q (none::r) (upd H D (.lst [])):=by
 refine oV (K:=K) (fun i ys H2=>ys=(zaC i).map f) hS hl hD rfl ?_ ?_
 ·rintro i x ys H2 hx s2 N3 ly rfl R hR
  exact step i x H2 hx s2 R (hR _ _ (aq.refl _) (by rw[zcz,zaw];rfl))
 ·rintro ys H2 s2 N3 rfl
  exact q H2 s2 N3
structure DB(K:zab)(C:zdJ)(H:Hp)(p:zdJ)(pr:PG.Prog):Prop where
 at_:∃(dx nl sd fa va st wy:zdJ) (us ws:List V),H p=some (.ins C dx [("names",.ref nl),("sizes",.ref sd),("first",.ref fa),("statements",.ref st),("ways",.ref wy)])/\H dx=some (.own p)/\
  H nl=some (.lst (pr.ay.map fun b=>.str (S b.name)))/\H sd=some (.dK (pr.ay.map fun b=>(.inr (S b.name),.int b.size)))/\
  H fa=some (.tup [.int (PG.aB pr.body 0),.ref va])/\H va=some (.tup (pr.ay.map fun b=>.int b.first))/\
  us.length=(PG.aE pr.body).length/\H st=some (.dK (ja (PG.aE pr.body) us))/\aQ K H ((PG.aE pr.body).map eF) us/\
  ws.length=(PG.aK pr.body 0).length/\H wy=some (.dK (zbf (fun r v=>(Sum.inl r.1,v)) (PG.aK pr.body 0) ws))/\∀i (hi:i<(PG.aK pr.body 0).length),∃q,ws[i]?=some (.ref q)/\cF K H q ((PG.aK pr.body 0)[i].2.2.map V.int)
section
variable(K:zab)(C:zdJ)
inductive DC(vs:List V)(H:Hp)(Q:VK)(E:XK):Prop
 |mk (p dx:zdJ) (v:V) (pr:PG.Prog):vs=[.ref p,v]->H p=some (.ins C dx [])->H dx=some (.own p)->Rep K H (hX pr) v->PG.fc pr.body<=4->(PG.fC pr.body).length<=1000->(PG.aE pr.body).Pairwise (fun a b=>a.row<b.row)->(pr.ay.map (·.name)).Nodup->pr.ay.length<=10->(∀H',bc p H H'->DB K C H' p pr->Q .bI H')->DC vs H Q E
end
end L2
namespace L2
open PySem
def VQ (kvs:List (Key×V)) (x:W):Int:=match c0 kvs (.inr (S x)) with
 |some (.int i)=>i
 |_=>0
theorem iA{a b:Int}{m n:Nat}(ha:a.natAbs<=2 ^ m)(hb:b.natAbs<=2 ^ n):(a*b).natAbs<=2 ^ (m+n):=by
 rw[Int.natAbs_mul,Nat.pow_add];exact Nat.mul_le_mul ha hb
theorem ym{a:Int}{d:Nat}(h:a.natAbs<=2 ^ (14*2 ^ d))(hd:d<=6):a.natAbs<2 ^ 4000:=by
 refine zcN h (Nat.pow_lt_pow_right (by decide) ?_);have:2 ^ d<=2 ^ 6:=zbe (by decide) hd;lia
theorem DB.mono{K:zab}{C p:zdJ}{H H':Hp}{pr:PG.Prog}(c:DB K C H p pr)(s:aq H H'):DB K C H' p pr:=by
 obtain⟨dx,nl,sd,fa,va,st,wy,us,ws,h1,h2,h3,h4,h5,h6,h7,h8,h9,N4,Rx,VR⟩:=c.at_;exact⟨⟨dx,nl,sd,fa,va,st,wy,us,ws,s _ _ h1,s _ _ h2,s _ _ h3,s _ _ h4,s _ _ h5,s _ _ h6,h7,s _ _ h8,h9.mono s,N4,s _ _ Rx,fun i hi=>let ⟨q,e,r⟩:=VR i hi;⟨q,e,s.br r⟩⟩⟩
theorem jo{α β:Type}(g:α->β)(d:α)(l:List α):(zaC l.length).map (fun i=>g (l.getD i d))=l.map g:=by
 apply zcr
 ·simp
 ·intro i h1 h2;simp at h1 h2;simp[h2]
def dB (bs:List PG.cE) (vs:List V):List (Key×V):=zbf (fun b v=>(Sum.inr (S b.name),v)) bs vs
theorem vc:∀(bs:List PG.cE) (vs:List V),(bs.map fun b=>(Sum.inr (S b.name):Key)).zip vs=dB bs vs
 |[],vs=>by simp[dB]
 |b::bs,[]=>by simp[dB]
 |b::bs,v::vs=>by
  show _::(bs.map fun b=>(Sum.inr (S b.name):Key)).zip vs=_::dB bs vs;rw[vc bs vs]
theorem rZ:∀(bs:List PG.cE) (vs:List V),vs.length=bs.length->(dB bs vs).map (·.1)=bs.map fun b=>(Sum.inr (S b.name):Key)
 |[],[],_=>rfl
 |[],_::_,h=>by simp at h
 |_::_,[],h=>by simp at h
 |b::bs,v::vs,h=>by
  show _::(dB bs vs).map (·.1)=_;rw[rZ bs vs (by simpa using h)];rfl
theorem names_nodup{bs:List PG.cE}(nb:(bs.map (·.name)).Nodup):(bs.map fun b=>(Sum.inr (S b.name):Key)).Nodup:=by
 refine zaL.mpr ((zaL.mp nb).imp fun {a b} NX e=>NX ?_);exact pU.mp (Sum.inr.inj e)
theorem nC:∀(bs:List PG.cE) (vs:List V),vs.length=bs.length->(bs.map (·.name)).Nodup->∀i (hi:i<bs.length) v,vs[i]?=some v->c0 (dB bs vs) (.inr (S bs[i].name))=some v
 |[],_,_,_,i,hi,_,_=>by simp at hi
 |_::_,[],h,_,_,_,_,_=>by simp at h
 |b::bs,v::vs,h,nb,0,hi,u,hu=>by
  simp at hu;subst hu;show c0 ((_,v)::dB bs vs) _=_;exact cT rfl
 |b::bs,v::vs,h,nb,i+1,hi,u,hu=>by
  rw[zaq,zam] at nb;have mem:(bs[i]'(by simpa using hi)).name∈bs.map (·.name):=zaJ.mpr ⟨_,zao _,rfl⟩;show c0 ((.inr (S b.name),v)::dB bs vs) (.inr (S (bs[i]'(by simpa using hi)).name))=_;rw[cU (fun e=>by have e:=pU.mp (Sum.inr.inj e);exact nb.1 (e▸mem))];exact nC bs vs (by simpa using h) nb.2 i (by simpa using hi) u (by simpa using hu)
section
variable(K:zab)(C:zdJ)
inductive xm(vs:List V)(H:Hp)(Q:VK)(E:XK):Prop
 |mk (p a:zdJ) (pr:PG.Prog) (us:List V):vs=[.ref p,.ref a]->DB K C H p pr->cF K H a us->us.length=pr.ay.length->(pr.ay.map (·.name)).Nodup->pr.ay.length<=10->(∀d H',aq H H'->H d=none->H' d=some (.dK (dB pr.ay us))->Q (.ref d) H')->xm vs H Q E
inductive xn(vs:List V)(H:Hp)(Q:VK)(E:XK):Prop
 |mk (p d:zdJ) (pr:PG.Prog) (kvs:List (Key×V)) (us:List V):vs=[.ref p,.ref d]->DB K C H p pr->H d=some (.dK kvs)->us.length=pr.ay.length->(∀i (hi:i<pr.ay.length),c0 kvs (.inr (S pr.ay[i].name))=us[i]?)->pr.ay.length<=10->(∀a H',aq H H'->cF K H' a us->Q (.ref a) H')->xn vs H Q E
inductive Ar(vs:List V)(H:Hp)(Q:VK)(E:XK):Prop
 |mk (p:zdJ) (pr:PG.Prog) (row:Int):vs=[.ref p,.int row]->DB K C H p pr->(PG.aE pr.body).Pairwise (fun a b=>a.row<b.row)->((row=0/\Q (.str "end") H)\/(row≠0/\∃i,∃hi:i<(PG.aE pr.body).length,(PG.aE pr.body)[i].row=row/\Q (.str (xk (PG.aE pr.body)[i].wd)) H))->Ar vs H Q E
end
def As:PG.bo->Option (W×PM.Tr×PM.Tr)
 |.fD _ sg l r=>some (sg,l,r)
 |.ifs _ sg l r _ _=>some (sg,l,r)
 |.fK _ sg l r _=>some (sg,l,r)
 |_=>none
def wv (bs:List PG.cE) (vals:List Int) (e:PM.Tr):Int:=oT (VQ (dB bs (vals.map V.int))) e
theorem Ci{K:zab}{H:Hp}{st:PG.bo}{v:V}{sg:W}{l r:PM.Tr}(h:Rep K H (eF st) v)(c:As st=some (sg,l,r)):∃a w0 vl vr ys,v=.ref a/\cF K H a (w0 :: .int st.row :: .str (S sg)::vl::vr::ys)/\Rep K H (ky l) vl/\Rep K H (ky r) vr:=by
 have key:∃w ds,eF st=.tup (.str w :: .int st.row :: .str (S sg)::ky l::ky r::ds):=by
  cases st<;>simp only[As,zaH.injEq,Prod.mk.injEq,reduceCtorEq] at c<;>obtain⟨rfl,rfl,rfl⟩:=c<;>exact⟨_,_,by rw[eF];rfl⟩
 obtain⟨w0,ds,e⟩:=key;rw[e,Rep.bj] at h;obtain⟨a,xs,rfl,q,rs⟩:=h;rw[aQ.aO] at rs;obtain⟨v0,t0,rfl,_,rs⟩:=rs;rw[aQ.aO] at rs;obtain⟨v1,t1,rfl,e1,rs⟩:=rs;rw[aQ.aO] at rs;obtain⟨v2,t2,rfl,e2,rs⟩:=rs;rw[aQ.aO] at rs;obtain⟨v3,t3,rfl,e3,rs⟩:=rs;rw[aQ.aO] at rs;obtain⟨v4,t4,rfl,e4,rs⟩:=rs;rw[Rep.bw] at e1;rw[Rep.bQ] at e2;subst e1 e2;exact⟨a,v0,v3,v4,t4,rfl,q,e3,e4⟩
structure E6(pr:PG.Prog):Prop where
 pw:(PG.aE pr.body).Pairwise (fun a b=>a.row<b.row)
 nb:(pr.ay.map (·.name)).Nodup
 gc:pr.ay.length<=10
 pos:∀s∈PG.aE pr.body,0<s.row
theorem xo:∀(fl:List PG.d7) (vs:List V),vs.length=fl.length->fl.Pairwise (fun a b=>a.1<b.1)->∀i (hi:i<fl.length) v,vs[i]?=some v->c0 (zbf (fun r v=>((Sum.inl r.1:Key),v)) fl vs) (.inl fl[i].1)=some v
 |[],_,_,_,i,hi,_,_=>by simp at hi
 |_::_,[],h,_,_,_,_,_=>by simp at h
 |s::ss,v::vs,h,hp,0,hi,u,hu=>by
  simp at hu;subst hu;rw[zdh];exact cT rfl
 |s::ss,v::vs,h,hp,i+1,hi,u,hu=>by
  rw[zbc] at hp;have lt:=hp.1 (ss[i]'(by simpa using hi)) (zao _);rw[zdh];show c0 _ (Sum.inl (ss[i]'(by simpa using hi)).1:Key)=_;rw[cU (fun e=>by have e:=Sum.inl.inj e;lia)];exact xo ss vs (by simpa using h) hp.2 i (by simpa using hi) u (by simpa using hu)
theorem Hr(b:List PG.bo)(i:Nat)(hi:i<(PG.aE b).length):∃hf:i<(PG.aK b 0).length,(PG.aK b 0)[i].1=(PG.aE b)[i].row/\(PG.aK b 0)[i].2.1=(PG.aE b)[i].wd:=by
 have e:((PG.aK b 0).map fun r=>(r.1,r.2.1))=(PG.aE b).map fun x=>(x.row,x.wd):=by rw[PG.dU,PG.fe]
 have l:=congrArg zaR e;rw[zad,zad] at l;have hf:i<(PG.aK b 0).length:=by lia
 refine⟨hf,?_⟩;have h1:((PG.aK b 0).map fun r=>(r.1,r.2.1))[i]?=((PG.aE b).map fun x=>(x.row,x.wd))[i]?:=by rw[e]
 rw[zal,zal,zaa hf,zaa hi] at h1;have h1:=zaH.inj h1;exact⟨congrArg Prod.fst h1,congrArg Prod.snd h1⟩
theorem E7{b:List PG.bo}(pw:(PG.aE b).Pairwise fun a b=>a.row<b.row):(PG.aK b 0).Pairwise fun a b=>a.1<b.1:=by
 have e:((PG.aK b 0).map fun r=>(r.1,r.2.1))=(PG.aE b).map fun x=>(x.row,x.wd):=by rw[PG.dU,PG.fe]
 have h:((PG.aE b).map fun x=>(x.row,x.wd)).Pairwise fun a b=>a.1<b.1:=zaL.mpr pw;rw[<- e,zaL] at h;exact h
theorem DB.way{K:zab}{C p:zdJ}{H:Hp}{pr:PG.Prog}(c:DB K C H p pr)(ok:E6 pr)(i:Nat)(hi:i<(PG.aE pr.body).length)(hf:i<(PG.aK pr.body 0).length):∃dx fs wy q,H p=some (.ins C dx fs)/\fs.lookup (zac "ways")=some (V.ref wy)/\eK H wy (.int (PG.aE pr.body)[i].row) (some (.ref q))/\cF K H q ((PG.aK pr.body 0)[i].2.2.map V.int):=by
 obtain⟨dx,nl,sd,fa,va,st,wy,us,ws,h1,h2,h3,h4,h5,h6,h7,h8,h9,N4,Rx,VR⟩:=c.at_;obtain⟨q,e,hq⟩:=VR i hf;obtain⟨Yv,e1,_⟩:=Hr pr.body i hi;have g:=xo _ _ N4 (E7 ok.pw) i hf _ e;rw[e1] at g;exact⟨dx,_,wy,q,h1,rfl,.inl ⟨_,.inl _,.inl Rx,rfl,g.symm⟩,hq⟩
open PyProof.Rows
def mG (bs:List PG.cE) (x:W):Nat:=(bs.map (·.name)).idxOf x
def lU (bs:List PG.cE) (x:W):Int:=((bs[mG bs x]?).map (·.size)).getD 1
theorem Hs{bs:List PG.cE}{x:W}(h:x∈bs.map (·.name)):∃hi:mG bs x<bs.length,bs[mG bs x].name=x:=by
 have l:mG bs x<(bs.map (·.name)).length:=List.idxOf_lt_length_iff.mpr h;have e:(bs.map (·.name))[mG bs x]=x:=List.getElem_idxOf l;rw[zad] at l;rw[zbS] at e;exact⟨l,e⟩
theorem Au{bs:List PG.cE}(nb:(bs.map (·.name)).Nodup){x:W}(h:x∈bs.map (·.name)):c0 (bs.map fun b=>((Sum.inr (S b.name):Key),V.int b.size)) (.inr (S x))=some (.int (lU bs x)):=by
 obtain⟨hx,ex⟩:=Hs h;have e:(bs.map fun b=>((Sum.inr (S b.name):Key),V.int b.size))=dB bs (bs.map fun b=>V.int b.size):=by
  unfold dB;rw[List.zipWith_map_right,List.zipWith_self]
 rw[e];have:=nC bs (bs.map fun b=>V.int b.size) (by simp) nb (mG bs x) hx (.int bs[mG bs x].size) (by rw[zal,zaa hx];rfl);rw[ex] at this;rw[this];unfold lU;rw[zaa hx];rfl
open PySem.Spec
def Ry (K:zab):R2:=fun x y H Q=>∃a b xs ys,x=.ref a/\y=.ref b/\cF K H a xs/\cF K H b ys/\xs.length+ys.length<=zdR/\∀p H',aq H H'->cF K H' p (xs++ys)->Q (.ref p) H'
theorem DD{X:Cx}:nU X (binaryOp .Add) (Ry X.K):=by
 intro pins s σ H x y v u Q I rx ry h;by_cases hx:∃TM,(∃a b ys,x=.ref a/\y=.ref b/\cF X.K H a TM/\cF X.K H b ys/\TM.length+ys.length<=zdR/\∀p H',aq H H'->cF X.K H' p (TM++ys)->Q (.ref p) H')/\TM=[]
 ·obtain⟨xs,⟨a,b,ys,rfl,rfl,ha,hb,hz,q⟩,rfl⟩:=hx;cases rx;cases ry;obtain⟨aY,r1,p1,_⟩:=I.tuple ha;obtain⟨pI,r2,p2,_⟩:=I.tuple hb;obtain⟨⟨cls,dd,data,sl⟩,ho,hc,n,hd⟩:=id p1;obtain⟨⟨UR,Tt,data2,QU⟩,NB,NC,n2,hd2⟩:=id p2;simp only at hc hd NC hd2;subst hc hd NC hd2;cases r1;exact concat_meets ⟨_,ho,rfl⟩ ⟨_,NB,rfl⟩ noFill_tuple_add seq_tuple_add zco zck (zcg _ _)
   (tuple_addW0 a b _ pI.toArray n n2 dd Tt sl QU rfl) ⟨ho,NB,⟨.ref b,H,I,rfl,q _ _ (aq.refl _) hb⟩⟩
 ·obtain⟨a,b,xs,ys,rfl,rfl,ha,hb,hz,q⟩:=h;refine Ke pins s σ H _ _ v u Q I rx ry ⟨a,b,xs,ys,rfl,rfl,ha,hb,fun e=>hx ⟨xs,⟨a,b,ys,rfl,rfl,ha,hb,hz,q⟩,e⟩,hz,fun e=>q _ _ (aq.refl _) ?_,fun _ p hp=>q _ _ (aq.new hp _) (.of ai)⟩;rw[e,zba];exact ha
def Rz (K:zab):V->Option Int->Option Int->Hp->VK->Prop:=fun x lo hi H Q=>∃a xs,x=.ref a/\cF K H a xs/\∀p H',aq H H'->cF K H' p (kA xs lo hi)->Q (.ref p) H'
theorem DE{X:Cx}:QW X (Rz X.K):=by
 intro pins s σ H x v vl vu lo hi sl Q I rx hs pl pu h;obtain⟨a,xs,rfl,hx,q⟩:=h;refine Kz pins s σ H _ v vl vu lo hi sl Q I rx hs pl pu ⟨a,xs,rfl,hx,fun e=>q _ _ (aq.refl _) ?_,fun _ p hp=>q _ _ (aq.new hp _) (.of ai)⟩;have:kA xs lo hi=xs:=by
  unfold kA;rw[e.1,e.2];simp
 rw[this];exact hx
theorem qW{K:zab}{H:Hp}:∀l:List Int,aQ K H (l.map Dp.int) (l.map V.int)
 |[]=>by rw[zbr,zbr,aQ.bO]
 |x::r=>by rw[zaq,zaq,aQ.aO];exact⟨_,_,rfl,by rw[Rep.bw],qW r⟩
theorem cF.gB{K:zab}{H H':Hp}{D a:zdJ}{xs ys:List V}(h:cF K H a xs)(hD:H D=some (.lst ys))(u:bc D H H'):cF K H' a xs:=by
 rcases h with (q |⟨o,q⟩) |q
 ·exact .inl (.inl (u _ _ (fY q hD (by intro z;cases z)) q))
 ·exact .inl (.inr ⟨o,u _ _ (fY q hD (by intro z;cases z)) q⟩)
 ·exact .inr q
theorem Ht{tc:TT}{tb:TS}{D:Ends}{σ:St}{H:Hp}(h:∀B:TS,(∀D σ H,tb D σ H->B D σ H)->BD tc B D σ H):BD tc tb D σ H:=h tb fun _ _ _ x=>x
structure KO(pr:PG.Prog):Prop where
 ok:E6 pr
 dep:PG.fc pr.body<=4
 gc:(PG.fC pr.body).length<=1000
 own:PG.tN (·∈pr.ay.map (·.name)) (fun e=>PG.gX pr.ay e/\PG.iz e<=2) (·∈PG.Mh) pr.body
 size:∀b∈pr.ay,2<=b.size/\b.size<=10/\0<=b.first/\b.first<b.size
theorem cF.dk{K:zab}{H H':Hp}{D a:zdJ}{xs:List V}{kvs:List (Key×V)}(h:cF K H a xs)(hD:H D=some (.dK kvs))(u:bc D H H'):cF K H' a xs:=by
 rcases h with (q |⟨o,q⟩) |q
 ·exact .inl (.inl (u _ _ (fY q hD (by intro z;cases z)) q))
 ·exact .inl (.inr ⟨o,u _ _ (fY q hD (by intro z;cases z)) q⟩)
 ·exact .inr q
theorem Av(l:List Int):SeqAt.shaped (Dp.lst (l.map Dp.int)).py=true:=by
 obtain⟨h1,h2⟩:=Dx l;unfold SeqAt.shaped;simp only[Dp.py,Dp.pV,PyData.canLay0,PyData.canLayAll0,PyData.depth,PyData.depthAll,h1,h2,Bool.and_true,zca,decide_eq_true_iff];lia
section
variable{K:zab}{H H1:Hp}{p:zdJ}{vs:List V}{ds:List Dp}
theorem gT(e:upd H p (.tup vs)=H1)(hp:H p=none):aq H H1:=e▸aq.new hp _
theorem gL(e:upd H p (.lst vs)=H1)(hp:H p=none):aq H H1:=e▸aq.new hp _
theorem PN(e:upd H p (.lst vs)=H1):H1 p=some (.lst vs):=e▸ai
end
def xp (h:Heap) (d:zdJ) (es:Array DictEntry) (ep:Nat):Prop:=∃o,h.get? d=some o/\o.ExactDict/\o.data=.dict es ep
section
variable{prog:zdV}{w:zdL}{A:zdU}{E:zdK->zdT->Prop}{s:zdT}{d it:zdJ}{es:Array DictEntry}{ep i:Nat}
theorem xp.ty(x:xp s.heap d es ep):s.TypeIs (.ref d) "dict":=by obtain⟨o,g,c,_⟩:=x;exact⟨o,g,c.1⟩
theorem HA{Q:zdK->zdT->Prop}(hd:(d==sysModules)=false)(x:xp s.heap d es ep)
 (q:Q (.ref s.heap.objs.size) {s with heap:=s.heap.push {cls:=.type "dict_keyiterator",data:=.fields #[.ref d,.int 0 0,.int es.size 0,.int ep 0]} }):wpAny (model prog w) A (pyIter (.ref d)) Q E s:=by
 have VS:=x.ty;obtain⟨od,gd,cd,dd⟩:=x;refine wpAny_pyIter_slot VS F.slot_dict_iter (wpAny_call_entry F.slot_dict_iter VS F.entry_dict_iter ?_ (F.args_dict_iter_1 _));unfold Builtin.«dict.__iter__» Builtin.Dict.dictSlotNone;refine zdM (zdM (wpAny_notOrdered_dict VS ?_));show wpAny _ _ (pure (Value.ref d)) _ _ s;refine zdN ?_;show wpAny _ _ (Builtin.Dict.showsAll d >>= _) _ _ s;unfold Builtin.Dict.showsAll;rw[if_neg (by rw[hd];exact zar)];refine zdM (zdN (zdM (wpAny_dictEntries gd dd (zdM (wpAny_dictEpoch gd dd ?_)))));refine zdM (wpAny_newObj_type (zdN ⟨_,rfl, "dict_keyiterator",_,⟨_,Heap.get?_push_size _ rfl,rfl⟩,F.slot_dict_keyiterator_next.lookup,?_⟩));simpa[rawInt] using q
theorem HB{Q:Option zdK->zdT->Prop}(x:s.heap.IsKeyIter it d i es.size ep)(y:xp s.heap d es ep)(li:i<es.size)
 (q:∀h',h'.IsKeyIter it d (i+1) es.size ep->Heap.SameBut it s.heap h'->Q (some es[i].key) {s with heap:=h' }):wpAny (model prog w) A (pyNext (.ref it)) Q E s:=by
 have JL:=x.typeIs;obtain⟨oi,gi,ci,di⟩:=id x;obtain⟨od,gd,_,dd⟩:=id y;have ow:Builtin.Dict_items.ownsTuple "dict_keyiterator"=false:=by decide
 unfold pyNext;refine zdM (wpAny_attempt (wpAny_callSpecial?_slot (name:=zac "__next__") JL F.slot_dict_keyiterator_next (wpAny_call_entry F.slot_dict_keyiterator_next JL F.entry_dict_keyiterator_next ?_ (F.args_dict_keyiterator_next_1 _))));refine zdM (zdN (zdM (zdM ?_)));refine zdM (wpAny_typeNameOfWhole_keyiter JL (zdN (zdM (wpAny_fieldsOf gi di ?_))));simp only[ow,zaF,if_false];show wpAny _ _ (if (Value.ref d==Value.none)=true then _ else _) _ _ s;rw[if_neg (show ¬((Value.ref d==Value.none)=true) from zar)];refine zdM (zdN (zdM (wpAny_dictEntries gd dd ?_)));rw[if_neg (by simp)];refine zdM (zdN (zdM (wpAny_dictEpoch gd dd ?_)));rw[if_neg (by simp)];refine zdN ?_;simp only[show ¬((i:Int)<0) from by lia,if_false,zaZ,zaE li];refine zdM (zdM (wpAny_typeNameOfWhole_keyiter JL (zdN (zdM (wpAny_isOneOf_keyiter JL ?_)))));show wpAny _ _ (setField (.ref it) 1 (rawInt ((i:Int)+1)) >>= _) _ _ s;refine zdM (wpAny_setField gi di (by simp) ?_);have z:(s.heap.update it (Obj.mapFields (·.setIfInBounds 1 (rawInt ((i:Int)+1))))).IsKeyIter it d (i+1) es.size ep:=
  ⟨_,Heap.get?_update_self _ gi (Obj.isFreed_of_fields (Obj.data_mapFields di _)),(Obj.cls_mapFields ..).trans ci,by rw[Obj.data_mapFields di];simp[rawInt]⟩
 refine zdM (zdO (zdM (wpAny_isOneOf_keyiter (s:={s with heap:=s.heap.update it (Obj.mapFields (·.setIfInBounds 1 (rawInt ((i:Int)+1))))}) z.typeIs ?_)));show wpAny _ _ (pure es[i].key) _ _ _;exact zdN (zdN ⟨_,rfl,zdN (q _ z (Heap.SameBut.update ..))⟩)
theorem KP{Q:Option zdK->zdT->Prop}(hA:A.handled=none)(x:s.heap.IsKeyIter it d i es.size ep)(y:xp s.heap d es ep)(li:es.size<=i)
 (q:∀h',Heap.ExtBut it s.heap h'->Q none {s with heap:=h' }):wpAny (model prog w) A (pyNext (.ref it)) Q E s:=by
 have JL:=x.typeIs;obtain⟨oi,gi,ci,di⟩:=id x;obtain⟨od,gd,_,dd⟩:=id y;have ow:Builtin.Dict_items.ownsTuple "dict_keyiterator"=false:=by decide
 unfold pyNext;refine zdM (wpAny_attempt (wpAny_callSpecial?_slot (name:=zac "__next__") JL F.slot_dict_keyiterator_next (wpAny_call_entry F.slot_dict_keyiterator_next JL F.entry_dict_keyiterator_next ?_ (F.args_dict_keyiterator_next_1 _))));refine zdM (zdN (zdM (zdM ?_)));refine zdM (wpAny_typeNameOfWhole_keyiter JL (zdN (zdM (wpAny_fieldsOf gi di ?_))));simp only[ow,zaF,if_false];show wpAny _ _ (if (Value.ref d==Value.none)=true then _ else _) _ _ s;rw[if_neg (show ¬((Value.ref d==Value.none)=true) from zar)];refine zdM (zdN (zdM (wpAny_dictEntries gd dd ?_)));rw[if_neg (by simp)];refine zdM (zdN (zdM (wpAny_dictEpoch gd dd ?_)));rw[if_neg (by simp)];refine zdN ?_;simp only[show ¬((i:Int)<0) from by lia,if_false,zaZ,zbX li];refine zdM (zdM (wpAny_typeNameOfWhole_keyiter JL (zdN ?_)));show wpAny _ _ (setField (.ref it) 0 .none >>= _) _ _ s;refine zdM (wpAny_setField gi di (by simp) ?_);show wpAny _ _ (newExc (.type "StopIteration") [] >>= _) _ _ _;refine zdM ?_;simp only[newExc,newTuple];refine zdM (wpAny_newObj_type (zdM (m:=firstArgMember _ _) (wpAny_of_eq (a:=Value.none) (by first |rfl |(simp only[firstArgMember];rfl)) (wpAny_newObj_type ?_ (by size_fits)))) (by size_fits));simp only[raiseNew];refine zdM (wpAny_handled ?_);rw[show A.in1.handled=none from hA];refine zdM (zdN (wpAny_throw (zdM ?_)));refine wpAny_isInstance (T:="StopIteration") (b:=true) ⟨_,Heap.get?_push_size _ rfl,rfl⟩ isSubtype_stop ?_;exact zdN (q _ (((Heap.SameBut.update ..).extBut.push _).push _))
end
end L2
namespace PG
theorem qX{α:Type}[DecidableEq α]:∀(xs ys:List α),xs.Nodup->(∀x∈xs,x∈ys)->xs.length<=ys.length
 |[],ys,_,_=>zaI _
 |x::r,ys,h,q=>by
  obtain⟨nx,nr⟩:=zam.mp h;have hx:=q x (zaB ..);have:=qX r (ys.erase x) nr fun y hy=>(zcB (fun e:y=x=>nx (e▸hy))).mpr (q y (zae _ hy));have l:=zce hx;have p:=zbY hx;simp only[zai];lia
end PG
namespace L2
open PySem
def FH (K:zab) (x:Str) (st:Stmt) (f:zdJ):Prop:=zaS K zdQ x=some (some (.ref f))/\∃fd,JI K x x st f fd
theorem FH.of{K:zab}{x:Str}{st:Stmt}{f:zdJ}{oc:zdK}{od an:Option zdJ}{JH:Array (Option zdK)}{kV doc pm eA ct:zdK}(a:zaS K zdQ x=some (some (.ref f)))(l:K.lookup f=some ⟨oc,od,.func (zbD x x (jU st) (iu st) (aI st) .none kV doc pm an eA ct),JH⟩)
 (c:zci K eA x=true) (k:zbR K (.ref f)=true):FH K x st f:=⟨a,_,Gw l c k⟩
theorem KQ{α:Type}{P:List α->Prop}(h:∀a,P [a])(us:List α)(e:us.length=1):P us:=match us,e with |[a],_=>h a
theorem we{α:Type}{P:List α->Prop}(h:∀a b,P [a,b])(us:List α)(e:us.length=2):P us:=match us,e with |[a,b],_=>h a b
theorem TN{α:Type}{P:List α->Prop}(h:∀a b c,P [a,b,c])(us:List α)(e:us.length=3):P us:=match us,e with |[a,b,c],_=>h a b c
theorem VT{α:Type}{P:List α->Prop}(h:∀a b c d,P [a,b,c,d])(us:List α)(e:us.length=4):P us:=match us,e with |[a,b,c,d],_=>h a b c d
theorem Yw{α:Type}{P:List α->Prop}(h:∀a b c d f,P [a,b,c,d,f])(us:List α)(e:us.length=5):P us:=match us,e with |[a,b,c,d,f],_=>h a b c d f
theorem lV{K:zab}{mg:Str->Option zdK}{h:Heap}{x:Str}{st:Stmt}{f:zdJ}{ps:List Str}(X:K.In h)(G:h.Ns zdQ mg)(q:FH K x st f)
 (b:∀(kV doc pm:zdK) (an:Option zdJ) (eA ct:zdK) (us:List zdK),us.length=ps.length->bindArgs (zbD x x (jU st) (iu st) (aI st) .none kV doc pm an eA ct) ⟨us,[]⟩=pure (ps.zip us)):∃fd,bU K mg x st ps f fd:=
 let ⟨a,fd,F⟩:=q
 ⟨fd,F,F.binds b,zcR X G a⟩
theorem yn{CX:EG}{P:zdV}{w:zdL}{K:zab}{mg:Str->Option zdK}{base:Heap}{N:List Str}{qual:Str}{scope:Scope}{f:zdJ}{cd:zdK}{A:zdU}{outer:List Env}{s:zdT}{H:Hp}{E:XK}:(wb CX P w K mg base N qual scope f cd A outer s H E).prog=P:=rfl
theorem yo{CX:EG}{P:zdV}{w:zdL}{K:zab}{mg:Str->Option zdK}{base:Heap}{N:List Str}{qual:Str}{scope:Scope}{f:zdJ}{cd:zdK}{A:zdU}{outer:List Env}{s:zdT}{H:Hp}{E:XK}:(wb CX P w K mg base N qual scope f cd A outer s H E).w=w:=rfl
theorem KR{tt:TT}{a b:TS}{D:Ends}{σ:St}{H:Hp}(h:∀U:St->Hp->Prop,(∀σ' H',U σ' H'↔a D σ' H')->tt σ H fun c H1=>if c=true then U σ H1 else b D σ H1):vZ tt a b D σ H:=h (a D) fun _ _=>Iff.rfl
open PyProof.Rows
theorem Aw{J:It}{D:zdJ}{g:TG}{te:TE}{Q:VK}{τ0:St}{H:Hp}(G:St->Prop)(xs:List V)(Pv:Nat->List V->Hp->Prop)
 (go:∀i H2,aq H H2->i<xs.length->J.go i H2) (stop:∀H2,aq H H2->J.stop xs.length H2) (zS:∀i H2 x H3,aq H H2->i<xs.length->J.zS i H2 x H3->H3=H2/\xs[i]?=some x)
 (hl:xs.length<=16000000) (hD:H D=none) (g0:G τ0) (h0:Pv 0 [] (upd H D (.lst [])))
 (step:∀i x ys τ H2,xs[i]?=some x->G τ->aq H H2->H2 D=some (.lst ys)->ys.length=i->Pv i ys H2->∀R:St->VK,(∀τ' v H3,G τ'->aq H2 H3->Pv (i+1) (ys++[v]) (upd H3 D (.lst (ys++[v])))->R τ' v H3)->g x τ H2 fun τ' H'=>te τ' H' (R τ'))
 (q:∀ys H2,aq H H2->H2 D=some (.lst ys)->ys.length=xs.length->Pv xs.length ys H2->Q (.ref D) H2):jW J D g oR te Q τ0 (upd H D (.lst [])):=by
 refine⟨fun i m τ H2=>m=xs.length-i/\i<=xs.length/\G τ/\aq H H2/\∃ys,H2 D=some (.lst ys)/\ys.length=i/\Pv i ys H2,⟨xs.length,by simp,zaI _,g0,aq.new hD _,[],ai,rfl,h0⟩,?_⟩
 rintro i m τ H2 ⟨rfl,hi,gt,s2,ys,h2,ly,p2⟩
 by_cases jR:i<xs.length
 ·refine .inr ⟨go i H2 s2 jR,fun τ' H'=>G τ'/\aq H H'/\∃ys,H' D=some (.lst ys)/\ys.length=i+1/\Pv (i+1) ys H',fun τ' H' ⟨h1,h3,h4⟩=>⟨xs.length-(i+1),by lia,rfl,jR,h1,h3,h4⟩,fun y H' hy=>?_⟩;obtain⟨rfl,ey⟩:=zS i H2 y H' s2 jR hy;simp only[oR,if_true];refine step i y ys τ _ ey gt s2 h2 ly p2 (fun τ' v H4=>_) fun τ' v H3 VU s3 p3=>⟨ys,s3 _ _ h2,?_,VU,?_,ys++[v],ai,by simp[ly],p3⟩
  ·have:zdR=2 ^ 24:=rfl;lia
  ·intro b o e;rw[aD (aF e hD)];exact s3 _ _ (s2 _ _ e)
 ·have e:i=xs.length:=by lia
  subst e;exact .inl ⟨stop H2 s2,q ys H2 s2 h2 ly p2⟩
theorem nD{K:zab}{a D:zdJ}{xs:List V}{g:TG}{te:TE}{Q:VK}{τ0:St}{H:Hp}(G:St->Prop)(Pv:Nat->List V->Hp->Prop)(hS:fU K H a xs)
 (hl:xs.length<=16000000) (hD:H D=none) (g0:G τ0) (h0:Pv 0 [] (upd H D (.lst [])))
 (step:∀i x ys τ H2,xs[i]?=some x->G τ->aq H H2->H2 D=some (.lst ys)->ys.length=i->Pv i ys H2->∀R:St->VK,(∀τ' v H3,G τ'->aq H2 H3->Pv (i+1) (ys++[v]) (upd H3 D (.lst (ys++[v])))->R τ' v H3)->g x τ H2 fun τ' H'=>te τ' H' (R τ'))
 (q:∀ys H2,aq H H2->H2 D=some (.lst ys)->ys.length=xs.length->Pv xs.length ys H2->Q (.ref D) H2):jW (BE K a) D g oR te Q τ0 (upd H D (.lst [])):=
 Aw G xs Pv (fun i H2 s2 h=>⟨xs,xs[i],s2.seq hS,by simp[h]⟩) (fun H2 s2=>⟨xs,s2.seq hS,zaj _⟩) (fun i H2 x H3 s2 h y=>⟨y.1,y.2 _ (s2.seq hS)⟩) hl hD g0 h0 step q
theorem E8{K:zab}{a D:zdJ}{xs:List V}{g:TG}{te:TE}{Q:VK}{τ0:St}{H:Hp}(G:St->Prop)(Pv:Nat->List V->Hp->Prop)(hS:cF K H a xs)
 (hl:xs.length<=16000000) (hD:H D=none) (g0:G τ0) (h0:Pv 0 [] (upd H D (.lst [])))
 (step:∀i x ys τ H2,xs[i]?=some x->G τ->aq H H2->H2 D=some (.lst ys)->ys.length=i->Pv i ys H2->∀R:St->VK,(∀τ' v H3,G τ'->aq H2 H3->Pv (i+1) (ys++[v]) (upd H3 D (.lst (ys++[v])))->R τ' v H3)->g x τ H2 fun τ' H'=>te τ' H' (R τ'))
 (q:∀ys H2,aq H H2->H2 D=some (.lst ys)->ys.length=xs.length->Pv xs.length ys H2->Q (.ref D) H2):jW (Tq K a) D g oR te Q τ0 (upd H D (.lst [])):=
 Aw G xs Pv (fun i H2 s2 h=>⟨xs,xs[i],s2.br hS,by simp[h]⟩) (fun H2 s2=>⟨xs,s2.br hS,zaj _⟩) (fun i H2 x H3 s2 h y=>⟨y.1,y.2 _ (s2.br hS)⟩) hl hD g0 h0 step q
section
variable{prog:zdV}{w:zdL}{A:zdU}{E:zdK->zdT->Prop}{s:zdT}{d it:zdJ}{es:Array DictEntry}{ep i:Nat}
theorem Ax(d:zdJ)(hd:(d==sysModules)=false) :
 MeetsIn prog w (Builtin.«dict.items» ⟨[.ref d],[]⟩) (fun _ R s=>(∃es ep,xp s.heap d es ep)/\R (.ok (.ret (.ref s.heap.objs.size))) {s with heap:=s.heap.push {cls:=.type "dict_items",data:=.fields #[.ref d]} }):=
 .of_wp fun A R s ⟨⟨es,ep,en⟩,h⟩=>by
  unfold Builtin.«dict.items»;refine zdM ?_;unfold Builtin.Dict.noArgs;refine zdM (wpAny_notOrdered_dict en.ty ?_);show wpAny _ _ (pure d) _ _ s;refine zdN ?_;show wpAny _ _ (Builtin.Dict.showsAll d >>= _) _ _ s;unfold Builtin.Dict.showsAll;rw[if_neg (by rw[hd];exact zar)];refine zdM (zdN ?_);exact zdM (wpAny_newObj_type (zdN ⟨_,rfl,h⟩))
end
open PySem.Spec
section
def tQ (p d:zdJ):Heap->Prop:=fun h=>h.IsItemsView p d
end
end L2
namespace PG
open PM
theorem mE:∀(a b:List bo),aE (a++b)=aE a++aE b
 |[],b=>rfl
 |s::r,b=>by
  show fM s++aE (r++b)=(fM s++aE r)++aE b;rw[mE r b,za0]
end PG
namespace L2
open PySem PySem.Spec PyProof.Rows
section
variable{X:Cx}
theorem E9(hc:X.calm=true):gV X (.builtin "any") (fun xs H Q=>∃(p:zdJ) (bs:List Bool),xs=[.ref p]/\fU X.K H p (bs.map V.bl)/\Q (.bl (bs.any id)) H):=by
 intro pins s σ H xs us Q I r h;obtain⟨p,bs,rfl,hl,q⟩:=h;obtain⟨u,rfl,ru⟩:=vals1 r;cases (show u=Value.ref p from ru);obtain⟨aY,rv,pl,_⟩:=I.list hl;have jR:p<s.heap.objs.size:=let ⟨_,_,e,_⟩:=pl;Heap.lt_size e;have ln:aY.toArray.size=bs.length:=by rw[zas,<- rv.length,zad]
 refine call_any_walk (wpAny_pyIter_list pl.isList ?_);refine⟨s.heap.objs.size,_,_,_,_,_,fun i=>bs.getD i false,rfl,Walks.list (show X.A.in1.handled=none from I.ok.hd hc) _ p (zat jR) aY.toArray,⟨⟨_,Heap.get?_push_size _ rfl,rfl,rfl⟩,pl.isList.push _⟩,fun i v s' Q' E' hv hq=>?_,fun h' tk hk=>?_⟩
 ·have Bq:aY[i]?=some v:=by simpa using hv
  have li:i<bs.length:=by
   have:=(zah.mp Bq).1;rw[zas] at ln;lia
  obtain⟨u,hu,ru⟩:=rv.get (i:=i) (x:=.bl bs[i]) (by rw[zal,zaa li];rfl);rw[Bq] at hu;cases hu;cases (show v=Value.bool bs[i] from ru);have hq:Q' (bs.getD i false) s':=hq;rw[zaf,zaa li] at hq;exact zdN hq
 ·refine⟨.bl (bs.any id),H,I.kept (h':=h') (t':=tk) (fun b o e=>hk b o ?_ (Heap.get?_push_of_some _ e)),?_,q⟩
  ·simpa using zat (Heap.lt_size e)
  ·show Value.bool ((zaC aY.toArray.size).any fun i=>bs.getD i false)=Value.bool (bs.any id);rw[ln]
   congr 1
   rw[zbj,zbu,zbu]
   constructor
   ·rintro ⟨i,hi,h⟩
    have hi:=zbv.mp hi;rw[zaf,zaa hi] at h;exact⟨_,zao hi,h⟩
   ·rintro ⟨x,hx,h⟩
    obtain⟨i,hi,rfl⟩:=zbJ hx;exact⟨i,zbv.mpr hi,by rw[zaf,zaa hi];exact h⟩
theorem tR{aY:List zdK}{ns:List Int}(rv:Vals (ns.map V.int) aY){i:Nat}{v:zdK}(hv:aY[i]?=some v):∃t,v=.int (ns.getD i 0) t:=by
 have li:i<ns.length:=by
  have:=(zah.mp hv).1;have l1:=rv.length;rw[zad] at l1;lia
 obtain⟨u,hu,t,rfl⟩:=rv.get (i:=i) (x:=.int ns[i]) (by rw[zal,zaa li];rfl);rw[hv] at hu;cases hu;exact⟨t,by rw[zaf,zaa li];rfl⟩
theorem Fb(hc:X.calm=true):gV X (.builtin "min") (fun xs H Q=>∃(p:zdJ) (ns:List Int),xs=[.ref p]/\fU X.K H p (ns.map V.int)/\ns≠[]/\∀m,m∈ns->(∀x∈ns,m<=x)->Q (.int m) H):=by
 intro pins s σ H xs us Q I r h;obtain⟨p,ns,rfl,hl,n0,q⟩:=h;obtain⟨u,rfl,ru⟩:=vals1 r;cases (show u=Value.ref p from ru);obtain⟨aY,rv,pl,_⟩:=I.list hl;have jR:p<s.heap.objs.size:=let ⟨_,_,e,_⟩:=pl;Heap.lt_size e;have ln:aY.toArray.size=ns.length:=by rw[zas,<- rv.length,zad]
 have np:=zcL.mpr n0;refine call_min_walk (wpAny_pyIter_list pl.isList ?_);refine⟨s.heap.objs.size,_,_,_,_,_,_,rfl,Walks.list (show X.A.in1.handled=none from I.ok.hd hc) _ p (zat jR) aY.toArray,⟨⟨_,Heap.get?_push_size _ rfl,rfl,rfl⟩,pl.isList.push _⟩,?_,by lia,CmpOf.ints_lt (fun i=>ns.getD i 0) fun i v hv=>tR rv (by simpa using hv),fun v h' tk hv hk=>?_⟩
 ·intro b hb;simp only[zag,zaT,or_false] at hb;rcases hb with rfl |rfl
  ·exact Heap.lt_size (Heap.get?_push_size _ rfl)
  ·exact zay jR (by rw[Heap.size_push];lia)
 ·obtain⟨b1,b2⟩:=argBest_lt (fun i=>ns.getD i 0) (aY.toArray.size-1);have hv:aY[argBest (fun i j=>decide (ns.getD i 0<ns.getD j 0)) (aY.toArray.size-1)]?=some v:=by simpa using hv
  obtain⟨t,rfl⟩:=tR rv hv;refine⟨.int _,H,I.kept (h':=h') (t':=tk) (fun b o e=>hk b o ?_ (Heap.get?_push_of_some _ e)),(show ∃u,Value.int _ t=Value.int _ u from ⟨t,rfl⟩),q _ ?_ fun x hx=>?_⟩
  ·simpa using zat (Heap.lt_size e)
  ·have li:argBest (fun i j=>decide (ns.getD i 0<ns.getD j 0)) (aY.toArray.size-1)<ns.length:=by lia
   rw[zaf,zaa li];exact zao li
  ·obtain⟨i,hi,rfl⟩:=zbJ hx;have:=b2 i (by lia);rw[zaf (l:=ns) (i:=i),zaa hi] at this;exact this
theorem Fc(hc:X.calm=true):gV X (.builtin "max") (fun xs H Q=>∃(p:zdJ) (ns:List Int),xs=[.ref p]/\fU X.K H p (ns.map V.int)/\ns≠[]/\∀m,m∈ns->(∀x∈ns,x<=m)->Q (.int m) H):=by
 intro pins s σ H xs us Q I r h;obtain⟨p,ns,rfl,hl,n0,q⟩:=h;obtain⟨u,rfl,ru⟩:=vals1 r;cases (show u=Value.ref p from ru);obtain⟨aY,rv,pl,_⟩:=I.list hl;have jR:p<s.heap.objs.size:=let ⟨_,_,e,_⟩:=pl;Heap.lt_size e;have ln:aY.toArray.size=ns.length:=by rw[zas,<- rv.length,zad]
 have np:=zcL.mpr n0;refine call_max_walk (wpAny_pyIter_list pl.isList ?_);refine⟨s.heap.objs.size,_,_,_,_,_,_,rfl,Walks.list (show X.A.in1.handled=none from I.ok.hd hc) _ p (zat jR) aY.toArray,⟨⟨_,Heap.get?_push_size _ rfl,rfl,rfl⟩,pl.isList.push _⟩,?_,by lia,CmpOf.ints_gt (fun i=>ns.getD i 0) fun i v hv=>tR rv (by simpa using hv),fun v h' tk hv hk=>?_⟩
 ·intro b hb;simp only[zag,zaT,or_false] at hb;rcases hb with rfl |rfl
  ·exact Heap.lt_size (Heap.get?_push_size _ rfl)
  ·exact zay jR (by rw[Heap.size_push];lia)
 ·obtain⟨b1,b2⟩:=argBest_gt (fun i=>ns.getD i 0) (aY.toArray.size-1);have hv:aY[argBest (fun i j=>decide (ns.getD i 0>ns.getD j 0)) (aY.toArray.size-1)]?=some v:=by simpa using hv
  obtain⟨t,rfl⟩:=tR rv hv;refine⟨.int _,H,I.kept (h':=h') (t':=tk) (fun b o e=>hk b o ?_ (Heap.get?_push_of_some _ e)),(show ∃u,Value.int _ t=Value.int _ u from ⟨t,rfl⟩),q _ ?_ fun x hx=>?_⟩
  ·simpa using zat (Heap.lt_size e)
  ·have li:argBest (fun i j=>decide (ns.getD i 0>ns.getD j 0)) (aY.toArray.size-1)<ns.length:=by lia
   rw[zaf,zaa li];exact zao li
  ·obtain⟨i,hi,rfl⟩:=zbJ hx;have:=b2 i (by lia);rw[zaf (l:=ns) (i:=i),zaa hi] at this;exact this
def qb (r:R2) (ta tb tc td:TE):TE:=fun σ H Q=>ta σ H fun x H1=>tb σ H1 fun y H2=>r x y H2 fun z H3=>∃k,z=.bl k/\
 (if k=true then tc σ H3 fun y2 H4=>r y y2 H4 fun z2 H5=>∃k2,z2=.bl k2/\(if k2=true then td σ H5 fun y3 H6=>r y2 y3 H6 Q else Q (.bl false) H5) else Q (.bl false) H3)
theorem Fd{a b c d:Expr}{ta tb tc td:TE}{pos:Pos}{op:CmpOp}{r:R2}(ho:nU X (compareOp op) r)(ha:PE X a ta)(hb:PE X b tb)(hc:PE X c tc)(hd:PE X d td)
 (hm:lastMarks [op,op,op] [b,c,d]=false:=by with_unfolding_all rfl):PE X (.Compare a [op,op,op] [b,c,d] pos) (qb r ta tb tc td):=by
 intro pins s σ H Q I h;refine Compare_chain (cS (ha pins s σ H _ I h) fun v s1 z1=>?_) hm;obtain⟨x,H1,I1,r1,q1⟩:=z1;refine chain_link (cS (hb pins s1 σ H1 _ I1 q1) fun u s2 z2=>?_);obtain⟨y,H2,I2,r2,q2⟩:=z2;refine cS (ho pins s2 σ H2 x y v u _ I2 r1 r2 q2) fun f s3 z3=>?_;obtain⟨z,H3,I3,r3,k,e,q3⟩:=z3;subst e;cases r3;refine wpAny_truthy_bool ?_;cases k with
 |false=>exact ite_ff ⟨.bl false,H3,I3,rfl,q3⟩
 |true=>
  refine ite_tt (chain_link (cS (hc pins s3 σ H3 _ I3 q3) fun u2 s4 z4=>?_));obtain⟨y2,H4,I4,r4,q4⟩:=z4;refine cS (ho pins s4 σ H4 y y2 u u2 _ I4 r2 r4 q4) fun f2 s5 z5=>?_;obtain⟨z',H5,I5,r5,k2,e2,q5⟩:=z5;subst e2;cases r5;refine wpAny_truthy_bool ?_;cases k2 with
  |false=>exact ite_ff ⟨.bl false,H5,I5,rfl,q5⟩
  |true=>exact ite_tt (chain_last (cS (hd pins s5 σ H5 _ I5 q5) fun u3 s6 ⟨y3,H6,I6,r6,q6⟩=>ho pins s6 σ H6 y2 y3 u2 u3 Q I6 r4 r6 q6))
end
end L2
namespace PG
open PM (W Tr)
abbrev Rg:=Int×Int
def nP (a b c d:Int):Int:=min (min a b) (min c d)
def nQ (a b c d:Int):Int:=max (max a b) (max c d)
def HC (o:W) (l r:Rg):Rg:=if o=[43] then (l.1+r.1,l.2+r.2) else if o=[45] then (l.1-r.2,l.2-r.1) else (nP (l.1*r.1) (l.1*r.2) (l.2*r.1) (l.2*r.2),nQ (l.1*r.1) (l.1*r.2) (l.2*r.1) (l.2*r.2))
def ff (f:W->Rg):Tr->Rg
 |.num n=>(n,n)
 |.box b=>f b
 |.bin o l r=>HC o (ff f l) (ff f r)
def k8 (r:Rg) (size:Int):Rg:=if r.1/size=r.2/size then (r.1%size,r.2%size) else (0,size-1)
def xq (lt truth:Bool) (l r:Rg):Bool:=
 if lt then (if truth then decide (l.1<r.2) else decide (l.2 ≥ r.1)) else if truth then decide (max l.1 r.1<=min l.2 r.2) else !(decide (l.1=l.2)&&decide (l.2=r.1)&&decide (r.1=r.2))
def lg (lt truth left:Bool) (own aY:Rg):Rg:=
 if lt then (if truth then (if left then (own.1,min own.2 (aY.2-1)) else (max own.1 (aY.1+1),own.2)) else if left then (max own.1 aY.1,own.2) else (own.1,min own.2 aY.2))
 else if truth then (max own.1 aY.1,min own.2 aY.2)
 else if aY.1=aY.2 then (if own.1=aY.1 then own.1+1 else own.1,if own.2=aY.1 then own.2-1 else own.2) else own
theorem KS{a b c d m:Int}(h:m∈[a,b,c,d])(q:∀x∈[a,b,c,d],m<=x):m=nP a b c d:=by
 have h1:=q a (by simp);have h2:=q b (by simp);have h3:=q c (by simp);have h4:=q d (by simp);simp only[zag,zaT,or_false] at h;unfold nP;rcases h with rfl |rfl |rfl |rfl<;>lia
theorem KU{a b c d m:Int}(h:m∈[a,b,c,d])(q:∀x∈[a,b,c,d],x<=m):m=nQ a b c d:=by
 have h1:=q a (by simp);have h2:=q b (by simp);have h3:=q c (by simp);have h4:=q d (by simp);simp only[zag,zaT,or_false] at h;unfold nQ;rcases h with rfl |rfl |rfl |rfl<;>lia
end PG
namespace L2
open PySem
def cm (K:zab) (H:Hp) (v:V) (r:PG.Rg):Prop:=∃a,v=.ref a/\cF K H a [.int r.1,.int r.2]
theorem cm.mono{K:zab}{H H':Hp}{v:V}{r:PG.Rg}(h:cm K H v r)(s:aq H H'):cm K H' v r:=by obtain⟨a,e,q⟩:=h;exact⟨a,e,s.br q⟩
theorem cm.new{K:zab}{H H':Hp}{p:zdJ}{r:PG.Rg}(e:upd H p (.tup [.int r.1,.int r.2])=H'):cm K H' (.ref p) r:=⟨p,rfl,.of (e▸ai)⟩
theorem mh{K:zab}{H:Hp}{a:zdJ}{x y:Int}{Q:VK}(h:cF K H a [.int x,.int y])(q:Q (.int x) H):me K (.ref a) (.int 0) H Q:=aJ h (v:=.int x) (aC (j:=0) rfl) q
theorem mi{K:zab}{H:Hp}{a:zdJ}{x y:Int}{Q:VK}(h:cF K H a [.int x,.int y])(q:Q (.int y) H):me K (.ref a) (.int 1) H Q:=aJ h (v:=.int y) (aC (j:=1) rfl) q
theorem max2(i j:Int):(if j>i then j else i)=max i j:=by split<;>lia
theorem min2(i j:Int):(if j<i then j else i)=min i j:=by split<;>lia
def Ay (truth:Bool) (own near FY:PG.Rg):PG.Rg:=if truth then (max near.1 FY.1,min near.2 FY.2) else PG.lg false false true own FY
def oX (lt truth:Bool) (own l r:PG.Rg):PG.Rg:=if lt then PG.lg true truth true own r else Ay truth own l r
def oY (lt truth:Bool) (own l r:PG.Rg):PG.Rg:=if lt then PG.lg true truth false own l else Ay truth own r l
section
variable(K:zab)
def Fe:Sp:=fun vs H Q _=>∃size:Int,vs=[.int size]/\∀v H',aq H H'->cm K H' v (0,size-1)->Q v H'
def HD:Sp:=fun vs H Q _=>∃(v:V) (r:PG.Rg) (size:Int),vs=[v,.int size]/\cm K H v r/\0<size/\size<=1000/\∀v H',aq H H'->cm K H' v (PG.k8 r size)->Q v H'
def RA:Sp:=fun vs H Q _=>∃(sg:W) (truth:Bool) (lv rv:V) (l r:PG.Rg),vs=[.str (S sg),.bl truth,lv,rv]/\cm K H lv l/\cm K H rv r/\Q (.bl (PG.xq (decide (sg=[60])) truth l r)) H
def N5:Sp:=fun vs H Q _=>∃(truth:Bool) (ov nv fv:V) (own near FY:PG.Rg),vs=[.bl truth,ov,nv,fv]/\cm K H ov own/\cm K H nv near/\cm K H fv FY/\∀v H',aq H H'->cm K H' v (Ay truth own near FY)->Q v H'
def N6:Sp:=fun vs H Q _=>∃(sg:W) (truth:Bool) (ov lv rv:V) (own l r:PG.Rg),vs=[.str (S sg),.bl truth,ov,lv,rv]/\cm K H ov own/\cm K H lv l/\cm K H rv r/\∀v H',aq H H'->cm K H' v (oX (decide (sg=[60])) truth own l r)->Q v H'
def N7:Sp:=fun vs H Q _=>∃(sg:W) (truth:Bool) (ov lv rv:V) (own l r:PG.Rg),vs=[.str (S sg),.bl truth,ov,lv,rv]/\cm K H ov own/\cm K H lv l/\cm K H rv r/\∀v H',aq H H'->cm K H' v (oY (decide (sg=[60])) truth own l r)->Q v H'
end
def RB (k:Nat) (r:PG.Rg):Prop:=r.1.natAbs<=k/\r.2.natAbs<=k
def DF (K:zab) (H:Hp) (kvs:List (Key×V)) (f:W->PG.Rg):PM.Tr->Prop
 |.num n=>n.natAbs<=2 ^ 12
 |.box x=>(∃v,c0 kvs (.inr (S x))=some v/\cm K H v (f x))/\RB (2 ^ 12) (f x)
 |.bin o l r=>(o=[43]\/o=[45]\/o=[42])/\DF K H kvs f l/\DF K H kvs f r
theorem DF.mono{K:zab}{H H':Hp}{kvs:List (Key×V)}{f:W->PG.Rg}(s:aq H H'):∀ {t:PM.Tr},DF K H kvs f t->DF K H' kvs f t
 |.num n,h=>h
 |.box x,h=>let ⟨⟨v,e,r⟩,b⟩:=h;⟨⟨v,e,r.mono s⟩,b⟩
 |.bin o l r,h=>⟨h.1,DF.mono s h.2.1,DF.mono s h.2.2⟩
theorem KW(a b c d:Int):PG.nP a b c d=a\/PG.nP a b c d=b\/PG.nP a b c d=c\/PG.nP a b c d=d:=by unfold PG.nP;lia
theorem KY(a b c d:Int):PG.nQ a b c d=a\/PG.nQ a b c d=b\/PG.nQ a b c d=c\/PG.nQ a b c d=d:=by unfold PG.nQ;lia
def N8 (f:W->PG.Rg):PM.Tr->Prop
 |.num n=>n.natAbs<=2 ^ 12
 |.box x=>RB (2 ^ 12) (f x)
 |.bin _ l r=>N8 f l/\N8 f r
theorem Cj{f:W->PG.Rg}:∀ {t:PM.Tr},N8 f t->RB (2 ^ (14*2 ^ PG.iz t)) (PG.ff f t)
 |.num n,h=>by
  rw[N8] at h;have:n.natAbs<=2 ^ (14*2 ^ PG.iz (.num n)):=zax h (zbe (by decide) (by simp only[PG.iz];decide));exact⟨this,this⟩
 |.box x,h=>by
  rw[N8] at h;have k:2 ^ 12<=2 ^ (14*2 ^ PG.iz (.box x)):=zbe (by decide) (by simp only[PG.iz];decide);exact⟨zax h.1 k,zax h.2 k⟩
 |.bin o l r,h=>by
  rw[N8] at h;have hl:=Cj h.1;have hr:=Cj h.2;have one:∀a b:Nat,1<=2 ^ max a b:=fun a b=>Nat.one_le_two_pow;have kl:2 ^ (14*2 ^ PG.iz l)<=2 ^ (14*2 ^ max (PG.iz l) (PG.iz r)):=zbe (by decide) (zdA _ (zbe (by decide) (Nat.le_max_left _ _)));have kr:2 ^ (14*2 ^ PG.iz r)<=2 ^ (14*2 ^ max (PG.iz l) (PG.iz r)):=zbe (by decide) (zdA _ (zbe (by decide) (Nat.le_max_right _ _)));rw[PG.iz,show 14*2 ^ (max (PG.iz l) (PG.iz r)+1)=14*2 ^ max (PG.iz l) (PG.iz r)+14*2 ^ max (PG.iz l) (PG.iz r) by rw[Nat.pow_succ];lia];have KZ:14<=14*2 ^ max (PG.iz l) (PG.iz r):=Nat.le_mul_of_pos_right _ (one _ _);have l1:=zax hl.1 kl;have l2:=zax hl.2 kl;have r1:=zax hr.1 kr;have r2:=zax hr.2 kr;clear kl kr hl hr;generalize 14*2 ^ max (PG.iz l) (PG.iz r)=k at *;have two:2<=2 ^ k:=zax (by decide:2<=2 ^ 1) (zbe (by decide) (by lia));have b2:2*2 ^ k<=2 ^ k*2 ^ k:=zcC _ two;rw[<- Nat.pow_add] at b2;rw[PG.ff,PG.HC];have m11:=iA l1 r1;have m12:=iA l1 r2;have m21:=iA l2 r1;have m22:=iA l2 r2;split
  ·exact⟨by show (_+_:Int).natAbs<=_;lia,by show (_+_:Int).natAbs<=_;lia⟩
  ·split
   ·exact⟨by show (_-_:Int).natAbs<=_;lia,by show (_-_:Int).natAbs<=_;lia⟩
   ·refine⟨?_,?_⟩
    ·show (PG.nP _ _ _ _).natAbs<=_;rcases KW ((PG.ff f l).1*(PG.ff f r).1) ((PG.ff f l).1*(PG.ff f r).2) ((PG.ff f l).2*(PG.ff f r).1) ((PG.ff f l).2*(PG.ff f r).2) with e |e |e |e<;>rw[e]<;>assumption
    ·show (PG.nQ _ _ _ _).natAbs<=_;rcases KY ((PG.ff f l).1*(PG.ff f r).1) ((PG.ff f l).1*(PG.ff f r).2) ((PG.ff f l).2*(PG.ff f r).1) ((PG.ff f l).2*(PG.ff f r).2) with e |e |e |e<;>rw[e]<;>assumption
theorem DF.u{K:zab}{H:Hp}{kvs:List (Key×V)}{f:W->PG.Rg}:∀ {t:PM.Tr},DF K H kvs f t->N8 f t
 |.num n,h=>h
 |.box x,h=>h.2
 |.bin o l r,h=>⟨DF.u h.2.1,DF.u h.2.2⟩
theorem Ml{K:zab}{H:Hp}{kvs:List (Key×V)}{f:W->PG.Rg}{t:PM.Tr}(h:DF K H kvs f t):RB (2 ^ (14*2 ^ PG.iz t)) (PG.ff f t):=Cj h.u
section
variable(K:zab)
def K0 (n:Nat):Sp:=fun vs H Q _=>∃(v:V) (d:zdJ) (tr:PM.Tr) (kvs:List (Key×V)) (f:W->PG.Rg),vs=[v,.ref d]/\Rep K H (ky tr) v/\H d=some (.dK kvs)/\DF K H kvs f tr/\PG.iz tr<n/\PG.iz tr<=6/\∀u H',aq H H'->cm K H' u (PG.ff f tr)->Q u H'
end
end L2
namespace L3
open PySem PyProof.Rows
section
variable{prog:zdV}{w:zdL}{A:zdU}{E:zdK->zdT->Prop}{s:zdT}
theorem gC{j tp:zdJ}{k:Nat}{aY:Array zdK}{Q:zdK->zdT->Prop}(hh:A.handled=none)(hj:s.heap.IsTupleIter j tp k)(ht:s.heap.IsTuple tp aY)(hv:aY[k]?=none)
 (hE:∀h' e,Heap.ExtBut j s.heap h'->(∃o,h'.get? e=some o/\o.cls=.type "StopIteration")->E (.ref e) {s with heap:=h' }):wpAny (model prog w) A (Builtin.SmallTypes.nextOf (.ref j)) Q E s:=by
 obtain⟨oj,gj,cj,dj⟩:=id hj;obtain⟨ot,gt,_,nt,dt⟩:=ht;unfold Builtin.SmallTypes.nextOf;refine zdM (wpAny_callSpecial?_slot (name:=zac "__next__") hj.typeIs F.slot_tuple_iterator_next (wpAny_call_entry F.slot_tuple_iterator_next hj.typeIs F.entry_tuple_iterator_next ?_ (F.args_tuple_iterator_next_1 _)));show wpAny _ _ (field (.ref j) 0 >>= _) _ _ s;refine zdM (wpAny_field gj dj (x:=.ref tp) rfl ?_);show wpAny _ _ (if (Value.ref tp==Value.none)=true then _ else _) _ _ s;rw[if_neg (show ¬((Value.ref tp==Value.none)=true) from zar)];show wpAny _ _ (field (.ref j) 1 >>= _) _ _ s;refine zdM (wpAny_field gj dj (x:=.int k 0) rfl ?_);show wpAny _ _ (seqItems? (.ref tp) >>= _) _ _ s;refine zdM (wpAny_seqItems gt dt ?_);simp only[zaZ,hv];refine zdM (wpAny_rule (zdM (wpAny_setField gj dj (by simp) ?_)));show wpAny _ _ (newExc (.type "StopIteration") [] >>= _) _ _ _;refine zdM ?_;simp only[newExc,newTuple];refine zdM (wpAny_newObj_type ?_ (by size_fits));refine zdM (m:=firstArgMember _ _) (wpAny_of_eq (a:=Value.none) (by first |rfl |(simp only[firstArgMember];rfl)) ?_);refine wpAny_newObj_type ?_ (by size_fits);simp only[raiseNew];refine zdM (wpAny_handled ?_)
 first |rw[show A.in1.handled=none from hh] |rw[hh]
 refine zdM (zdN (wpAny_throw ?_));exact hE _ _ (((Heap.SameBut.update ..).extBut.push _).push _) ⟨_,Heap.get?_push_size _ rfl,rfl⟩
theorem HE{h h':Heap}{j tp:zdJ}{k:Nat}(hj:h.IsTupleIter j tp k)(up:∀o,h.get? j=some o->h'.get? j=some o):h'.IsTupleIter j tp k:=by
 obtain⟨q,gq,rest⟩:=hj;exact⟨q,up _ gq,rest⟩
theorem RC{h h':Heap}{tp:zdJ}{ys:Array zdK}(hj:h.IsTuple tp ys)(up:∀o,h.get? tp=some o->h'.get? tp=some o):h'.IsTuple tp ys:=by
 obtain⟨q,gq,rest⟩:=hj;exact⟨q,up _ gq,rest⟩
theorem K1{z ti to j1 j2 l tp:zdJ}{xs ys:Array zdK}{i:Nat}{a b x y:zdK}{Q:zdK->zdT->Prop}(D:ZipApart z ti to j1 j2 l tp)(hz:nZ s.heap z ti to .none (.bool false))(hO:IsPair s.heap to a b)(hI:IsPair s.heap ti (.ref j1) (.ref j2))
 (h1:s.heap.IsTupleIter j1 l i) (h2:s.heap.IsTupleIter j2 tp i) (hl:s.heap.IsTuple l xs) (ht:s.heap.IsTuple tp ys) (hx:xs[i]?=some x) (hy:ys[i]?=some y)
 (hQ:∀h',nZ h' z ti to (rawInt s.heap.objs.size) (.bool false)->IsPair h' to x y->h'.IsTupleIter j1 l (i+1)->h'.IsTupleIter j2 tp (i+1)->IsPair h' s.heap.objs.size x y->h'.objs.size=s.heap.objs.size+1->
  (∀c o,c≠z->c≠to->c≠j1->c≠j2->s.heap.get? c=some o->h'.get? c=some o)->Q (.ref s.heap.objs.size) {s with heap:=h' }) :
 wpAny (model prog w) A (Builtin.«zip.__next__» ⟨[.ref z],[]⟩) (fun fin s'=>∃v,fin=.done (.ret v)/\Q v s') E s:=by
 show wpAny _ _ (field (.ref z) 2 >>= _) _ _ _;refine zdM (wpAny_field hz rfl (x:=.bool false) rfl ?_);show wpAny _ _ (field (.ref z) 3 >>= _) _ _ _;refine zdM (wpAny_field hz rfl (x:=.ref ti) rfl ?_);refine zdM (wpAny_seqItems hI rfl ?_);show wpAny _ _ (Builtin.SmallTypes.ownedTupleIsFree (.ref z) >>= _) _ _ _;refine zdM ?_;unfold Builtin.SmallTypes.ownedTupleIsFree;refine zdM (wpAny_field hz rfl (x:=.none) rfl (zdN ?_));simp only[if_true];refine zdM (wpAny_rule ?_);refine zdM (wpAny_field hz rfl (x:=.ref to) rfl ?_);refine zdM (wpAny_setField_rec hz (by simp) fun h₁ z₁ dg=>?_);replace z₁:nZ h₁ z ti to .ellipsis (.bool false):=z₁;refine zdM ?_;simp only[zcq,zcA,zbM,zb2];refine zdM (zdM (wpAny_onRaise ?_));show wpAny _ _ (Builtin.SmallTypes.nextOf (.ref j1) >>= _) _ _ _;refine zdM (jC (HE h1 fun o e=>dg.extBut _ _ D.i1z e) (RC hl fun o e=>dg.extBut _ _ D.l1z e) hx fun h₂ k₂ cH=>zdN ?_);have o₂:IsPair h₂ to a b:=cH.extBut _ _ D.TOi1 (dg.extBut _ _ D.TOz hO);refine zdM (wpAny_seqItems o₂ rfl ?_);refine zdM (wpAny_updateSeq_pair o₂ fun h₃ o₃ df=>?_);replace o₃:IsPair h₃ to x b:=o₃;refine zdM (wpAny_letGo (zdN ?_));refine zdM (zdM (wpAny_onRaise ?_));show wpAny _ _ (Builtin.SmallTypes.nextOf (.ref j2) >>= _) _ _ _;refine zdM (jC (HE h2 fun o e=>df.extBut _ _ D.TOi2.symm (cH.extBut _ _ D.i12.symm (dg.extBut _ _ D.i2z e))) (RC ht fun o e=>df.extBut _ _ D.l2TO (cH.extBut _ _ D.l2i1 (dg.extBut _ _ D.l2z e))) hy fun h₄ k₄ jX=>zdN ?_);have o₄:IsPair h₄ to x b:=jX.extBut _ _ D.TOi2 o₃;refine zdM (wpAny_seqItems o₄ rfl ?_);refine zdM (wpAny_updateSeq_pair o₄ fun h₅ o₅ jD=>?_);replace o₅:IsPair h₅ to x y:=o₅;refine zdM (wpAny_letGo (zdN (zdN ?_)));refine zdM (wpAny_seqItems o₅ rfl ?_);refine zdM (wpAny_newTuple ?_);have hsz:h₅.objs.size=s.heap.objs.size:=by rw[jD.1,jX.1,df.1,cH.1,dg.1]
 have z₅:nZ h₅ z ti to .ellipsis (.bool false):=jD.extBut _ _ D.TOz.symm (jX.extBut _ _ D.i2z.symm (df.extBut _ _ D.TOz.symm (cH.extBut _ _ D.i1z.symm z₁)));have kp:∀c o,c≠z->c≠to->c≠j1->c≠j2->s.heap.get? c=some o->h₅.get? c=some o:=fun c o c1 c2 c3 c4 e=>jD.extBut _ _ c2 (jX.extBut _ _ c4 (df.extBut _ _ c2 (cH.extBut _ _ c3 (dg.extBut _ _ c1 e))));have Rv:z<h₅.objs.size:=Heap.lt_size z₅;show wpAny _ _ (Builtin.SmallTypes.ownedTupleHandOut (.ref z) (.ref h₅.objs.size) >>= _) _ _ _;refine zdM ?_;unfold Builtin.SmallTypes.ownedTupleHandOut;have z₆:nZ (h₅.push {cls:=.type "tuple",data:=.seq #[x,y]}) z ti to .ellipsis (.bool false):=Heap.get?_push_of_some _ z₅;refine zdM (wpAny_setField_rec z₆ (by simp) fun h₇ z₇ uY=>?_);replace z₇:nZ h₇ z ti to (rawInt h₅.objs.size) (.bool false):=z₇;refine wpAny_setField_rec z₇ (by simp) fun h₈ z₈ uZ=>?_;replace z₈:nZ h₈ z ti to (rawInt h₅.objs.size) (.bool false):=z₈;have up:∀c o,c≠z->h₅.get? c=some o->h₈.get? c=some o:=fun c o c1 e=>uZ.extBut _ _ c1 (uY.extBut _ _ c1 (Heap.get?_push_of_some _ e));have t₈:IsPair h₈ h₅.objs.size x y:=uZ.extBut _ _ (za2 Rv) (uY.extBut _ _ (za2 Rv) (Heap.get?_push_size _ rfl));have n₈:h₈.objs.size=h₅.objs.size+1:=by rw[uZ.1,uY.1,Heap.size_push]
 rw[hsz] at z₈ t₈ n₈;refine zdN ⟨_,rfl,?_⟩;show Q (.ref h₅.objs.size) _;rw[hsz];exact hQ h₈ z₈ (up _ _ D.TOz o₅) (HE k₂ fun o e=>up _ _ D.i1z (jD.extBut _ _ D.TOi1.symm (jX.extBut _ _ D.i12 (df.extBut _ _ D.TOi1.symm e)))) (HE k₄ fun o e=>up _ _ D.i2z (jD.extBut _ _ D.TOi2.symm e)) t₈ n₈ fun c o c1 c2 c3 c4 e=>up c o c1 (kp c o c1 c2 c3 c4 e)
theorem N9{z ti to j1 j2 l tp:zdJ}{xs ys:Array zdK}{i:Nat}{a b:zdK}{Q:Fin->zdT->Prop}(hh:A.handled=none)(D:ZipApart z ti to j1 j2 l tp)(hz:nZ s.heap z ti to .none (.bool false))(hO:IsPair s.heap to a b)(hI:IsPair s.heap ti (.ref j1) (.ref j2))
 (h1:s.heap.IsTupleIter j1 l i) (h2:s.heap.IsTupleIter j2 tp i) (hl:s.heap.IsTuple l xs) (ht:s.heap.IsTuple tp ys) (Oa:xs[i]?=none\/ys[i]?=none)
 (hE:∀h' e,(∀c o,c≠z->c≠to->c≠j1->c≠j2->s.heap.get? c=some o->h'.get? c=some o)->(∃o,h'.get? e=some o/\o.cls=.type "StopIteration")->E (.ref e) {s with heap:=h' }) :
 wpAny (model prog w) A (Builtin.«zip.__next__» ⟨[.ref z],[]⟩) Q E s:=by
 show wpAny _ _ (field (.ref z) 2 >>= _) _ _ _;refine zdM (wpAny_field hz rfl (x:=.bool false) rfl ?_);show wpAny _ _ (field (.ref z) 3 >>= _) _ _ _;refine zdM (wpAny_field hz rfl (x:=.ref ti) rfl ?_);refine zdM (wpAny_seqItems hI rfl ?_);show wpAny _ _ (Builtin.SmallTypes.ownedTupleIsFree (.ref z) >>= _) _ _ _;refine zdM ?_;unfold Builtin.SmallTypes.ownedTupleIsFree;refine zdM (wpAny_field hz rfl (x:=.none) rfl (zdN ?_));simp only[if_true];refine zdM (wpAny_rule ?_);refine zdM (wpAny_field hz rfl (x:=.ref to) rfl ?_);refine zdM (wpAny_setField_rec hz (by simp) fun h₁ z₁ dg=>?_);replace z₁:nZ h₁ z ti to .ellipsis (.bool false):=z₁;refine zdM ?_;simp only[zcq,zcA,zbM,zb2];refine zdM (zdM (wpAny_onRaise ?_));show wpAny _ _ (Builtin.SmallTypes.nextOf (.ref j1) >>= _) _ _ _;cases hx:xs[i]? with
 |none=>
  refine zdM (gC hh (HE h1 fun o e=>dg.extBut _ _ D.i1z e) (RC hl fun o e=>dg.extBut _ _ D.l1z e) hx fun h₂ e cH he=>?_);obtain⟨oe,ge,ce⟩:=he;have z₂:nZ h₂ z ti to .ellipsis (.bool false):=cH _ _ D.i1z.symm z₁;have ez:e≠z:=fun q=>by subst q;rw[z₂] at ge;cases ge;simp at ce
  exact wpAny_setField_rec z₂ (by simp) fun h₃ _ df=>hE h₃ e (fun c o c1 _ c3 _ q=>df.extBut _ _ c1 (cH _ _ c3 (dg.extBut _ _ c1 q))) ⟨oe,df.extBut _ _ ez ge,ce⟩
 |some x=>
  have hy:ys[i]?=none:=by
   rcases Oa with h |h
   ·rw[hx] at h;cases h
   ·exact h
  refine zdM (jC (HE h1 fun o e=>dg.extBut _ _ D.i1z e) (RC hl fun o e=>dg.extBut _ _ D.l1z e) hx fun h₂ k₂ cH=>zdN ?_);have o₂:IsPair h₂ to a b:=cH.extBut _ _ D.TOi1 (dg.extBut _ _ D.TOz hO);refine zdM (wpAny_seqItems o₂ rfl ?_);refine zdM (wpAny_updateSeq_pair o₂ fun h₃ o₃ df=>?_);refine zdM (wpAny_letGo (zdN ?_));refine zdM (zdM (wpAny_onRaise ?_));show wpAny _ _ (Builtin.SmallTypes.nextOf (.ref j2) >>= _) _ _ _;refine zdM (gC hh (HE h2 fun o e=>df.extBut _ _ D.TOi2.symm (cH.extBut _ _ D.i12.symm (dg.extBut _ _ D.i2z e))) (RC ht fun o e=>df.extBut _ _ D.l2TO (cH.extBut _ _ D.l2i1 (dg.extBut _ _ D.l2z e))) hy fun h₄ e jX he=>?_);obtain⟨oe,ge,ce⟩:=he;have z₄:nZ h₄ z ti to .ellipsis (.bool false):=jX _ _ D.i2z.symm (df.extBut _ _ D.TOz.symm (cH.extBut _ _ D.i1z.symm z₁));have ez:e≠z:=fun q=>by subst q;rw[z₄] at ge;cases ge;simp at ce
  exact wpAny_setField_rec z₄ (by simp) fun h₅ _ jD=>hE h₅ e (fun c o c1 c2 c3 c4 q=>jD.extBut _ _ c1 (jX _ _ c4 (df.extBut _ _ c2 (cH.extBut _ _ c3 (dg.extBut _ _ c1 q))))) ⟨oe,jD.extBut _ _ ez ge,ce⟩
structure TQ(h:Heap)(z ti to j1 j2 l tp:zdJ)(i:Nat):Prop where
 zip:nZ h z ti to .none (.bool false)
 out:∃a b,IsPair h to a b
 ins:IsPair h ti (.ref j1) (.ref j2)
 FX:h.IsTupleIter j1 l i
 Cc:h.IsTupleIter j2 tp i
theorem HF{z ti to j1 j2 l tp:zdJ}{xs ys:Array zdK}{i:Nat}{x y:zdK}{Q:Option zdK->zdT->Prop}(D:ZipApart z ti to j1 j2 l tp)(st:TQ s.heap z ti to j1 j2 l tp i)(hl:s.heap.IsTuple l xs)(ht:s.heap.IsTuple tp ys)(hx:xs[i]?=some x)(hy:ys[i]?=some y)
 (hQ:∀h',nZ h' z ti to (rawInt s.heap.objs.size) (.bool false)->IsPair h' to x y->IsPair h' ti (.ref j1) (.ref j2)->h'.IsTupleIter j1 l (i+1)->h'.IsTupleIter j2 tp (i+1)->IsPair h' s.heap.objs.size x y->h'.objs.size=s.heap.objs.size+1->
  (∀c o,c≠z->c≠to->c≠j1->c≠j2->s.heap.get? c=some o->h'.get? c=some o)->Q (some (.ref s.heap.objs.size)) {s with heap:=h' }) :
 wpAny (model prog w) A (pyNext (.ref z)) Q E s:=by
 obtain⟨hz,⟨a,b,hO⟩,hI,h1,h2⟩:=st;have hT:s.TypeIs (.ref z) "zip":=⟨_,hz,rfl⟩
 unfold pyNext;exact zdM (wpAny_attempt (wpAny_callSpecial?_slot (name:=zac "__next__") hT F.slot_zip_next (wpAny_call_entry F.slot_zip_next hT F.entry_zip_next
  (K1 D hz hO hI h1 h2 hl ht hx hy fun h' a1 a2 a3 a4 a5 a6 a7=>zdN (hQ h' a1 a2 (a7 _ _ D.TIz D.TITO D.TIi1 D.TIi2 hI) a3 a4 a5 a6 a7)) (F.args_zip_next_1 _))))
theorem K2{z ti to j1 j2 l tp:zdJ}{xs ys:Array zdK}{i:Nat}{Q:Option zdK->zdT->Prop}(hh:A.handled=none)(D:ZipApart z ti to j1 j2 l tp)(st:TQ s.heap z ti to j1 j2 l tp i)(hl:s.heap.IsTuple l xs)(ht:s.heap.IsTuple tp ys)(Oa:xs[i]?=none\/ys[i]?=none)
 (hQ:∀h',(∀c o,c≠z->c≠to->c≠j1->c≠j2->s.heap.get? c=some o->h'.get? c=some o)->Q none {s with heap:=h' }):wpAny (model prog w) A (pyNext (.ref z)) Q E s:=by
 obtain⟨hz,⟨a,b,hO⟩,hI,h1,h2⟩:=st;have hT:s.TypeIs (.ref z) "zip":=⟨_,hz,rfl⟩
 unfold pyNext;refine zdM (wpAny_attempt (wpAny_callSpecial?_slot (name:=zac "__next__") hT F.slot_zip_next (wpAny_call_entry F.slot_zip_next hT F.entry_zip_next (N9 hh D hz hO hI h1 h2 hl ht Oa fun h' e hk he=>?_) (F.args_zip_next_1 _))));obtain⟨o,ho,hc⟩:=he;refine zdM (wpAny_isInstance (T:="StopIteration") (b:=true) ⟨o,ho,hc⟩ isSubtype_stop ?_);exact zdN (hQ _ hk)
end
abbrev tA (h:Heap) (l:zdJ):Heap:=h.push {cls:=.type "tuple_iterator",data:=.fields #[.ref l,.int 0 0]}
abbrev tB (h:Heap) (l tp:zdJ):Heap:=(tA h l).push {cls:=.type "tuple_iterator",data:=.fields #[.ref tp,.int 0 0]}
abbrev tC (h:Heap) (l tp:zdJ):Heap:=(tB h l tp).push {cls:=.type "tuple",data:=.seq #[.ref h.objs.size,.ref (tA h l).objs.size]}
abbrev tD (h:Heap) (l tp:zdJ):Heap:=(tC h l tp).push {cls:=.type "tuple",data:=.seq #[.none,.none]}
abbrev tE (h:Heap) (l tp:zdJ):Heap:=(tD h l tp).push {cls:=.type "zip",data:=.fields #[.none,.bool false,.bool false,.ref (tB h l tp).objs.size,.ref (tC h l tp).objs.size]}
theorem Ff(l tp:zdJ)(xs ys:Array zdK):Meets (Builtin.«zip.__new__» ⟨[.type "zip",.ref l,.ref tp],[]⟩) (fun _ R s=>s.heap.IsTuple l xs/\s.heap.IsTuple tp ys/\R (.ok (.ret (.ref (tD s.heap l tp).objs.size))) {s with heap:=tE s.heap l tp}):=
 .of_wp fun prog w A R s h=>by
  obtain⟨hp,g,d,tk,os⟩:=s;obtain⟨g1,g2,h⟩:=h;have N2:=sub_zip;have k1:Heap.IsTuple (Shared.heap ⟨hp,g,d,tk,os⟩) l xs:=g1;have k2:Heap.IsTuple (Shared.heap ⟨hp.push {cls:=.type "tuple_iterator",data:=.fields #[.ref l,.int 0 0]},g,d,tk,os⟩) tp ys:=by
   obtain⟨o,go,rest⟩:=g2;exact⟨o,Heap.get?_push_of_some _ go,rest⟩
  wp_walk using wpAny_pyIter_tuple k1,wpAny_pyIter_tuple k2
  exact⟨_,rfl,h⟩
section
variable{prog:zdV}{w:zdL}{A:zdU}{E:zdK->zdT->Prop}{s:zdT}
theorem Ck(n l tp:Nat)(h1:l<n)(h2:tp<n):ZipApart (n+4) (n+2) (n+3) n (n+1) l tp:=by
 constructor<;>(show (_:Nat)≠_;lia)
theorem Cm{l tp:zdJ}{xs ys:Array zdK}{Q:zdK->zdT->Prop}(hl:s.heap.IsTuple l xs)(ht:s.heap.IsTuple tp ys)
 (h:∀h',ZipApart (s.heap.objs.size+4) (s.heap.objs.size+2) (s.heap.objs.size+3) s.heap.objs.size (s.heap.objs.size+1) l tp->TQ h' (s.heap.objs.size+4) (s.heap.objs.size+2) (s.heap.objs.size+3) s.heap.objs.size (s.heap.objs.size+1) l tp 0->
  (∀c o,s.heap.get? c=some o->h'.get? c=some o)->Q (.ref (s.heap.objs.size+4)) {s with heap:=h' }) :
 wpAny (model prog w) A (call (.type "zip") [.ref l,.ref tp]) Q E s:=by
 refine callType_new F.called_zip (by decide) (F.typeCall_zip_2 _ _) (F.newCall_zip_2 _ _) (fun obj=>F.args_object_init_3 obj _ _) F.entry_zip_new (Ff l tp xs ys) ⟨hl,ht,?_⟩;have z1:(tA s.heap l).objs.size=s.heap.objs.size+1:=Heap.size_push ..;have z2:(tB s.heap l tp).objs.size=s.heap.objs.size+2:=by rw[Heap.size_push,z1]
 have z3:(tC s.heap l tp).objs.size=s.heap.objs.size+3:=by rw[Heap.size_push,z2]
 have z4:(tD s.heap l tp).objs.size=s.heap.objs.size+4:=by rw[Heap.size_push,z3]
 have g5:(tE s.heap l tp).get? (tD s.heap l tp).objs.size=some _:=Heap.get?_push_size _ rfl;have g4:(tE s.heap l tp).get? (tC s.heap l tp).objs.size=some _:=Heap.get?_push_of_some _ (Heap.get?_push_size _ rfl);have g3:(tE s.heap l tp).get? (tB s.heap l tp).objs.size=some _:=Heap.get?_push_of_some _ (Heap.get?_push_of_some _ (Heap.get?_push_size _ rfl));have g2:(tE s.heap l tp).get? (tA s.heap l).objs.size=some _:=Heap.get?_push_of_some _ (Heap.get?_push_of_some _ (Heap.get?_push_of_some _ (Heap.get?_push_size _ rfl)));have g1:(tE s.heap l tp).get? s.heap.objs.size=some _:=Heap.get?_push_of_some _ (Heap.get?_push_of_some _ (Heap.get?_push_of_some _ (Heap.get?_push_of_some _ (Heap.get?_push_size _ rfl))));have up:∀c o,s.heap.get? c=some o->(tE s.heap l tp).get? c=some o:=fun c o e=>Heap.get?_push_of_some _ (Heap.get?_push_of_some _ (Heap.get?_push_of_some _ (Heap.get?_push_of_some _ (Heap.get?_push_of_some _ e))));show _/\_;rw[z2,z3,z4] at g5;rw[z1,z2] at g3;rw[z3] at g4;rw[z1] at g2;rw[z4];obtain⟨ol,gl,rl⟩:=id hl;obtain⟨ot,gt,rt⟩:=id ht;exact⟨⟨_,g5,rfl⟩,h _ (Ck _ _ _ (Heap.lt_size gl) (Heap.lt_size gt)) ⟨g5,⟨_,_,g4⟩,g3,⟨_,g1,rfl,rfl⟩,⟨_,g2,rfl,rfl⟩⟩ up⟩
end
end L3
namespace L2
open PySem PySem.Spec PyProof.Rows
def JM (K:zab) (a b:zdJ):It:=
 ⟨fun i H=>∃xs ys x y,cF K H a xs/\cF K H b ys/\xs[i]?=some x/\ys[i]?=some y,
  fun i H x H'=>∃p u v,x=.ref p/\H p=none/\H'=upd H p (.tup [u,v])/\(∀xs,cF K H a xs->xs[i]?=some u)/\∀ys,cF K H b ys->ys[i]?=some v,
  fun i H=>∃xs ys,cF K H a xs/\cF K H b ys/\(xs.length<=i\/ys.length<=i)⟩
theorem HG{P:zdV}{w:zdL}{K:zab}{elts:List Expr}{x1}{pos:Pos}(a b z ti to j1 j2:zdJ)(D:ZipApart z ti to j1 j2 a b) :
 Turn P w K (.Tuple elts x1 pos) (JM K a b) [z,ti,to,j1,j2] z (fun i h=>L3.TQ h z ti to j1 j2 a b i) where
 mem:=by simp
 obj:=fun i h st c hc=>by
  obtain⟨hz,⟨u,v,hO⟩,hI,⟨o1,e1,c1,d1⟩,⟨o2,e2,c2,d2⟩⟩:=st;simp only[zag,zaT,or_false] at hc;rcases hc with rfl |rfl |rfl |rfl |rfl
  ·exact⟨_,hz,fun v z=>by cases (show Data.fields _=Data.cell v from z)⟩
  ·exact⟨_,hI,fun v z=>by cases (show Data.seq _=Data.cell v from z)⟩
  ·exact⟨_,hO,fun v z=>by cases (show Data.seq _=Data.cell v from z)⟩
  ·exact⟨o1,e1,fun v z=>by rw[d1] at z;cases z⟩
  ·exact⟨o2,e2,fun v z=>by rw[d2] at z;cases z⟩
 keep:=fun i h h' st k=>⟨k z (by simp) _ st.zip,st.out.elim fun u ⟨v,hO⟩=>⟨u,v,k to (by simp) _ hO⟩,k ti (by simp) _ st.ins,L3.HE st.FX fun o x=>k j1 (by simp) o x,L3.HE st.Cc fun o x=>k j2 (by simp) o x⟩
 item:=by
  intro X hP hw hK hc i pins s σ H E I hf st hg;subst hP hw hK;obtain⟨xs,ys,x,y,hq,zW,hx,hy⟩:=hg;obtain⟨aY,rv,p,hz⟩:=I.tuple hq;obtain⟨its',Mm,p',Yx⟩:=I.tuple zW;obtain⟨u,hu,ru⟩:=rv.get hx;obtain⟨v,hv,rv2⟩:=Mm.get hy;have lz:z<s.heap.objs.size:=Heap.lt_size st.zip;have lti:ti<s.heap.objs.size:=Heap.lt_size st.ins;have TK:to<s.heap.objs.size:=by obtain⟨_,_,e⟩:=st.out;exact Heap.lt_size e
  have l1:j1<s.heap.objs.size:=by obtain⟨_,e,_⟩:=st.FX;exact Heap.lt_size e
  have l2:j2<s.heap.objs.size:=by obtain⟨_,e,_⟩:=st.Cc;exact Heap.lt_size e
  refine L3.HF D st (show s.heap.IsTuple a aY.toArray from p) (show s.heap.IsTuple b its'.toArray from p') (x:=u) (y:=v) (by simpa using hu) (by simpa using hv) fun h' a1 a2 a3 a4 a5 a6 a7 a8=>?_;refine⟨_,rfl,?_⟩;refine wpAny_letOwnedTupleGo_zip (s:={s with heap:=h' }) a1 fun h2 hz2 sb=>?_;have I1:Inv X pins σ H {s with heap:=h2}:=I.jn (t':=s.toks) (fun c o hb q=>(sb.2 c fun e=>hb (by simp[e])).trans (a8 c o (fun e=>hb (by simp[e])) (fun e=>hb (by simp[e])) (fun e=>hb (by simp[e])) (fun e=>hb (by simp[e])) q)) hf;have fr:H s.heap.objs.size=none:=I.cc.fresh (zaj _);obtain⟨g0,g1,g2,g3,g4,g5⟩:=I.wa (zaj _) fr;have GS:h2.get? s.heap.objs.size=some {cls:=.type "tuple",data:=.seq #[u,v]}:=(sb.2 _ (za2 lz)).trans a6;have I2:=I1.told (o:=.tup [x,y]) fr I.sz g1 g4 g5 ⟨(show (2:Nat)<=zdR by decide),[u,v],.cons ru (.cons rv2 .nil),⟨_,GS,rfl,_,rfl⟩⟩;refine⟨.ref s.heap.objs.size,_,I2,rfl,⟨_,x,y,rfl,fr,rfl,fun zs VW=>by rw[I.nh VW hq];exact hx,fun zs VW=>by rw[I.nh VW zW];exact hy⟩,⟨hz2,⟨u,v,(sb.2 to D.TOz).trans a2⟩,(sb.2 ti D.TIz).trans a3,L3.HE a4 fun o q=>(sb.2 j1 D.i1z).trans q,L3.HE a5 fun o q=>(sb.2 j2 D.i2z).trans q⟩,fun c hb=>?_⟩;rw[aD ?_]
  ·exact(hf c hb).1
  ·simp only[zag,zaT,or_false] at hb;rcases hb with rfl |rfl |rfl |rfl |rfl<;>exact zat (by assumption)
 done:=by
  intro X hP hw hK hc i pins s σ H E I hf st hg;subst hP hw hK;obtain⟨xs,ys,hq,zW,hl⟩:=hg;obtain⟨aY,rv,p,hz⟩:=I.tuple hq;obtain⟨its',Mm,p',Yx⟩:=I.tuple zW;have e1:=rv.length;have e2:=Mm.length;exact L3.K2 (I.ok.hd hc) D st (show s.heap.IsTuple a aY.toArray from p) (show s.heap.IsTuple b its'.toArray from p') (by simp;lia) fun h' eb=>⟨rfl,I.jn (t':=s.toks) (fun c o hb q=>eb c o (fun e=>hb (by simp[e])) (fun e=>hb (by simp[e])) (fun e=>hb (by simp[e])) (fun e=>hb (by simp[e])) q) hf⟩
 self:=fun _ _ _ _ _ st h=>wpAny_pyIter_zip st.zip h
def Ob (K:zab) (ta:TA):TI:=fun σ H R=>ta σ H fun vs H1=>∃a b,vs=[.ref a,.ref b]/\(∃xs,cF K H1 a xs)/\(∃ys,cF K H1 b ys)/\R (JM K a b) H1
theorem vd{X:Cx}{elts:List Expr}{x1}{tp:Pos}{a b:Expr}{ta:TA}{p pos:Pos}(hg:Gl X "zip")(hm:X.mg "zip"=none)(ha:PA X [a,b] ta)(hs:zdP [a,b] X.env=(false,eval a X.env)::zdP [b] X.env:=by rfl)(hn:((backTo pos (zdP [b] X.env)).any fun x=>x.1)=false:=by rfl) :
 PI X (.Tuple elts x1 tp) (.Call (.Name "zip" p) [a,b] [] pos) (Ob X.K ta):=by
 intro pins s σ H R I h;refine Call_ (kU I hg hm PyProof.Rows.Boot.«zip» (zaY (cS (ha pos pins s σ H _ I h) fun us s1 zqz=>?_) hs hn));obtain⟨vs,H1,I1,r1,q1⟩:=zqz;obtain⟨l,l',e,⟨xs,hq⟩,⟨ys,zW⟩,q⟩:=q1;subst e;cases r1 with
 |cons r rr=>
  cases rr with
  |cons r' rr=>
   cases rr;cases (show _=Value.ref l from r);cases (show _=Value.ref l' from r');obtain⟨aY,rv,p,hz⟩:=I1.tuple hq;obtain⟨its',Mm,p',Yx⟩:=I1.tuple zW;refine L3.Cm (show s1.heap.IsTuple l aY.toArray from p) (show s1.heap.IsTuple l' its'.toArray from p') fun h' D st hk=>?_;refine wpAny_pyIter_zip (s:={s1 with heap:=h' }) st.zip ?_;have fr:∀b,s1.heap.objs.size<=b->H1 b=none:=fun b hb=>I1.cc.fresh hb;refine⟨s1.heap.objs.size+4,[s1.heap.objs.size+4,s1.heap.objs.size+2,s1.heap.objs.size+3,s1.heap.objs.size,s1.heap.objs.size+1],_,_,H1,rfl,I1.kept (t':=s1.toks) hk,HG l l' _ _ _ _ _ D,st,fun b hb=>?_,q⟩;have qQ:s1.heap.objs.size<=b:=by
    simp only[zag,zaT,or_false] at hb;rcases hb with rfl |rfl |rfl |rfl |rfl<;>first |exact zaj _ |exact Nat.le_add_right _ _
   exact I1.wa qQ (fr b qQ)
theorem DG{K:zab}{a b:zdJ}{xs ys:List V}{g:TG}{tb:TS}{D:Ends}{σ:St}{H:Hp}(Pv:Nat->St->Hp->Prop)(h0:Pv 0 σ H)(hl:∀i σ H,i<=min xs.length ys.length->Pv i σ H->cF K H a xs/\cF K H b ys)
 (hs:∀i x y σ H p,xs[i]?=some x->ys[i]?=some y->Pv i σ H->H p=none->g (.ref p) σ (upd H p (.tup [x,y])) fun σ2 H2=>tb {D with nx:=Pv (i+1),ct:=Pv (i+1),bk:=D.nx} σ2 H2) (hd:∀σ H,Pv (min xs.length ys.length) σ H->D.nx σ H) :
 ∃W:Nat->Nat->St->Hp->Prop,(∃m,W 0 m σ H)/\∀i m σ H,W i m σ H->
  ((JM K a b).stop i H/\D.nx σ H)\/((JM K a b).go i H/\∃N:St->Hp->Prop,(∀σ' H',N σ' H'->∃m',m'<m/\W (i+1) m' σ' H')/\∀x H',(JM K a b).zS i H x H'->g x σ H' fun σ2 H2=>tb {D with nx:=N,ct:=N,bk:=D.nx} σ2 H2):=by
 refine⟨fun i m σ H=>m=min xs.length ys.length-i/\i<=min xs.length ys.length/\Pv i σ H,⟨_,rfl,zaI _,h0⟩,?_⟩
 rintro i m σ H ⟨rfl,hi,p⟩
 obtain⟨q,q'⟩:=hl i σ H hi p;by_cases jR:i<min xs.length ys.length
 ·have l1:i<xs.length:=by lia
  have l2:i<ys.length:=by lia
  refine .inr ⟨⟨xs,ys,xs[i],ys[i],q,q',by simp[l1],by simp[l2]⟩,Pv (i+1),fun σ' H' p'=>⟨min xs.length ys.length-(i+1),by lia,rfl,jR,p'⟩,fun x H' y=>?_⟩;obtain⟨pp,u,v,rfl,hn,rfl,y1,y2⟩:=y;exact hs i u v σ H pp (y1 xs q) (y2 ys q') p hn
 ·have e:i=min xs.length ys.length:=by lia
  subst e;exact .inl ⟨⟨xs,ys,q,q',by lia⟩,hd σ H p⟩
end L2
namespace PG
open PM (W Tr)
def qG (bs:List cE) (x:W):Nat:=bs.findIdx fun b=>decide (b.name=x)
def cV (bs:List cE) (rs:List Rg) (x:W):Rg:=rs.getD (qG bs x) (0,0)
def jY (bs:List cE) (rs:List Rg) (x:W) (r:Rg):List Rg:=rs.set (qG bs x) r
theorem ve{bs:List cE}(nb:(bs.map (·.name)).Nodup){i:Nat}(hi:i<bs.length):qG bs bs[i].name=i:=by
 unfold qG;rw[List.findIdx_eq (by simpa using hi)];refine⟨by simp,fun j hj=>?_⟩;have h:=zaK.mp nb j i (by simp;lia) (by simp;lia) hj;exact decide_eq_false (by simpa using h)
end PG
namespace L2
open PySem
def tS (K:zab) (H:Hp) (bs:List PG.cE) (kvs:List (Key×V)) (rs:List PG.Rg):Prop:=rs.length=bs.length/\∀i (hi:i<bs.length),∃v,c0 kvs (.inr (S bs[i].name))=some v/\∃r,rs[i]?=some r/\cm K H v r
theorem tS.mono{K:zab}{H H':Hp}{bs:List PG.cE}{kvs:List (Key×V)}{rs:List PG.Rg}(h:tS K H bs kvs rs)(s:aq H H'):tS K H' bs kvs rs:=
 ⟨h.1,fun i hi=>let ⟨v,e,r,er,q⟩:=h.2 i hi;⟨v,e,r,er,q.mono s⟩⟩
def xr (bs:List PG.cE) (rs:List PG.Rg):PM.Tr->Prop
 |.num n=>n.natAbs<=2 ^ 12
 |.box x=>x∈bs.map (·.name)/\RB (2 ^ 12) (PG.cV bs rs x)
 |.bin o l r=>(o=[43]\/o=[45]\/o=[42])/\xr bs rs l/\xr bs rs r
theorem tS.at_{K:zab}{H:Hp}{bs:List PG.cE}{kvs:List (Key×V)}{rs:List PG.Rg}(h:tS K H bs kvs rs)(nb:(bs.map (·.name)).Nodup){x:W}(hx:x∈bs.map (·.name)):∃v,c0 kvs (.inr (S x))=some v/\cm K H v (PG.cV bs rs x):=by
 obtain⟨b,hb,rfl⟩:=zaJ.mp hx;obtain⟨i,hi,rfl⟩:=zbJ hb;obtain⟨v,e,r,er,q⟩:=h.2 i hi;refine⟨v,e,?_⟩;unfold PG.cV;rw[PG.ve nb hi,zaf,er];exact q
theorem tS.RE{K:zab}{H:Hp}{bs:List PG.cE}{kvs:List (Key×V)}{rs:List PG.Rg}(h:tS K H bs kvs rs)(nb:(bs.map (·.name)).Nodup):∀ {t:PM.Tr},xr bs rs t->DF K H kvs (PG.cV bs rs) t
 |.num n,q=>q
 |.box x,q=>⟨h.at_ nb q.1,q.2⟩
 |.bin o l r,q=>⟨q.1,tS.RE h nb q.2.1,tS.RE h nb q.2.2⟩
theorem tS.put{K:zab}{H:Hp}{bs:List PG.cE}{kvs:List (Key×V)}{rs:List PG.Rg}(h:tS K H bs kvs rs)(nb:(bs.map (·.name)).Nodup){x:W}(hx:x∈bs.map (·.name)){v:V}{r:PG.Rg}(hv:cm K H v r):tS K H bs (putK kvs (.inr (S x)) v) (PG.jY bs rs x r):=by
 obtain⟨b,hb,rfl⟩:=zaJ.mp hx;obtain⟨j,hj,rfl⟩:=zbJ hb;unfold PG.jY;rw[PG.ve nb hj];refine⟨by rw[zbV];exact h.1,fun i hi=>?_⟩;by_cases e:i=j
 ·subst e;exact⟨v,by rw[Ac,if_pos rfl],r,by rw[zcn (by rw[h.1];exact hi)],hv⟩
 ·obtain⟨u,e1,r1,er,q⟩:=h.2 i hi;refine⟨u,?_,r1,by rw[zcx (Ne.symm e)];exact er,q⟩;rw[Ac,if_neg fun z=>e ?_]
  ·exact e1
  ·have z:=pU.mp (Sum.inr.inj z);have l:i<(bs.map (·.name)).length:=by simpa using hi
   have:=PG.ve nb hi;rw[<- PG.ve nb hi,<- PG.ve nb hj,z]
end L2
namespace PG
open PM (W Tr)
def Mn (bs:List cE) (rs:List Rg) (lt truth:Bool) (t:Tr) (a b:Rg):List Rg:=match t with
 |.box x=>jY bs rs x (L2.oX lt truth (cV bs rs x) a b)
 |_=>rs
def RF (bs:List cE) (rs:List Rg) (lt truth:Bool) (t:Tr) (a b:Rg):List Rg:=match t with
 |.box x=>jY bs rs x (L2.oY lt truth (cV bs rs x) a b)
 |_=>rs
def qc (rs:List Rg):Option (List Rg):=if (rs.map fun q=>decide (q.1>q.2)).any id then none else some rs
def cn (bs:List cE) (rs:List Rg) (sg:W) (l r:Tr) (truth:Bool):Option (List Rg):=
 if xq (decide (sg=[60])) truth (ff (cV bs rs) l) (ff (cV bs rs) r) then
  qc (RF bs (Mn bs rs (decide (sg=[60])) truth l (ff (cV bs rs) l) (ff (cV bs rs) r)) (decide (sg=[60])) truth r (ff (cV bs rs) l) (ff (cV bs rs) r))
 else none
end PG
namespace L2
open PySem
def qd (K:zab) (H:Hp) (us:List V) (rs:List PG.Rg):Prop:=us.length=rs.length/\∀i (hi:i<us.length),∃r,rs[i]?=some r/\cm K H us[i] r
theorem qd.mono{K:zab}{H H':Hp}{us:List V}{rs:List PG.Rg}(h:qd K H us rs)(s:aq H H'):qd K H' us rs:=⟨h.1,fun i hi=>let ⟨r,e,q⟩:=h.2 i hi;⟨r,e,q.mono s⟩⟩
def dC (K:zab) (H:Hp) (v:V) (rs:List PG.Rg):Prop:=∃a us,v=.ref a/\cF K H a us/\qd K H us rs
theorem dC.mono{K:zab}{H H':Hp}{v:V}{rs:List PG.Rg}(h:dC K H v rs)(s:aq H H'):dC K H' v rs:=by obtain⟨a,us,e,q,r⟩:=h;exact⟨a,us,e,s.br q,r.mono s⟩
def vf (K:zab) (H:Hp) (v:V):Option (List PG.Rg)->Prop
 |none=>v=.bI
 |some rs=>dC K H v rs
theorem tS.of{K:zab}{H:Hp}{bs:List PG.cE}{us:List V}{rs:List PG.Rg}(h:qd K H us rs)(lu:us.length=bs.length)(nb:(bs.map (·.name)).Nodup):tS K H bs (dB bs us) rs:=
 ⟨by rw[<- h.1];exact lu,fun i hi=>by
  obtain⟨r,er,q⟩:=h.2 i (by lia);exact⟨us[i],nC bs us lu nb i hi _ (zaa (by lia)),r,er,q⟩⟩
theorem tS.list{K:zab}{H:Hp}{bs:List PG.cE}{kvs:List (Key×V)}{rs:List PG.Rg}(h:tS K H bs kvs rs):∃us,us.length=bs.length/\(∀i (hi:i<bs.length),c0 kvs (.inr (S bs[i].name))=us[i]?)/\qd K H us rs:=by
 refine⟨(zaC bs.length).map fun i=>(c0 kvs (.inr (S (bs.getD i ⟨[],0,0⟩).name))).getD .bI,by simp,fun i hi=>?_,by simp[h.1],fun i hi=>?_⟩
 ·obtain⟨v,e,_⟩:=h.2 i hi;rw[zal,zdB hi];simp only[zaV,zaf,zaa hi,zcp,e]
 ·have Q7:i<bs.length:=by simpa using hi
  obtain⟨v,e,r,er,q⟩:=h.2 i Q7;refine⟨r,er,?_⟩;simp only[zbS,List.getElem_range,zaf,zaa Q7,zcp,e];exact q
section
variable(K:zab)(C:zdJ)
def Cn:Sp:=fun vs H Q _=>∃(p:zdJ) (rv:V) (pr:PG.Prog) (i:Nat) (hi:i<(PG.aE pr.body).length) (truth:Bool) (rs:List PG.Rg) (sg:W) (l r:PM.Tr),vs=[.ref p,.int (PG.aE pr.body)[i].row,.bl truth,rv]/\DB K C H p pr/\(PG.aE pr.body).Pairwise (fun a b=>a.row<b.row)/\(pr.ay.map (·.name)).Nodup/\pr.ay.length<=10/\dC K H rv rs/\rs.length=pr.ay.length/\
 As (PG.aE pr.body)[i]=some (sg,l,r)/\xr pr.ay rs l/\xr pr.ay rs r/\PG.iz l<=4/\PG.iz r<=4/\∀v H',aq H H'->vf K H' v (PG.cn pr.ay rs sg l r truth)->Q v H'
end
theorem cm.dk{K:zab}{H H':Hp}{D:zdJ}{v:V}{r:PG.Rg}{kvs:List (Key×V)}(h:cm K H v r)(hD:H D=some (.dK kvs))(u:bc D H H'):cm K H' v r:=by obtain⟨a,e,q⟩:=h;exact⟨a,e,q.dk hD u⟩
theorem tS.dk{K:zab}{H H':Hp}{D:zdJ}{bs:List PG.cE}{kv kvs:List (Key×V)}{rs:List PG.Rg}(h:tS K H bs kv rs)(hD:H D=some (.dK kvs))(u:bc D H H'):tS K H' bs kv rs:=
 ⟨h.1,fun i hi=>let ⟨v,e,r,er,q⟩:=h.2 i hi;⟨v,e,r,er,q.dk hD u⟩⟩
theorem xt{K:zab}{H:Hp}{t:PM.Tr}{v:V}(h:Rep K H (ky t) v)(ok:∀o l r,t=.bin o l r->S o≠"box"):∃a w0 w1 ys,v=.ref a/\cF K H a (.str w0::w1::ys)/\(w0 = "box"↔∃x,t=.box x)/\∀x,t=.box x->w1=.str (S x):=by
 cases t with
 |num m=>
  unfold ky at h;simp only[Rep.bj,aQ.aO,aQ.bO,Rep.bQ,Rep.bw] at h;obtain⟨a,xs,rfl,hS,_,_,rfl,rfl,_,_,rfl,rfl,rfl⟩:=h;exact⟨a,_,_,_,rfl,hS,⟨fun z=>absurd z (by decide +kernel),fun ⟨x,z⟩=>by cases z⟩,fun x z=>by cases z⟩
 |box x=>
  unfold ky at h;simp only[Rep.bj,aQ.aO,aQ.bO,Rep.bQ,Rep.bw] at h;obtain⟨a,xs,rfl,hS,_,_,rfl,rfl,_,_,rfl,rfl,rfl⟩:=h;exact⟨a,_,_,_,rfl,hS,⟨fun _=>⟨x,rfl⟩,fun _=>rfl⟩,fun y z=>by cases z;rfl⟩
 |bin o l r=>
  unfold ky at h;simp only[Rep.bj,aQ.aO,aQ.bO,Rep.bQ,Rep.bw] at h;obtain⟨a,xs,rfl,hS,_,_,rfl,rfl,vl,_,rfl,hl,vr,_,rfl,xu,rfl⟩:=h;exact⟨a,_,_,_,rfl,hS,⟨fun z=>absurd z (ok o l r rfl),fun ⟨x,z⟩=>by cases z⟩,fun x z=>by cases z⟩
theorem xr.Mo{bs:List PG.cE}{rs:List PG.Rg}{t:PM.Tr}(h:xr bs rs t)(o:W)(l r:PM.Tr)(e:t=.bin o l r):S o≠"box":=by
 subst e;obtain⟨ho,_⟩:=h;rcases ho with rfl |rfl |rfl<;>decide +kernel
end L2
namespace PG
def dZ (f:Bool->Option (List Rg)) (ws:List (Int×Bool)):List (Int×List Rg):=ws.filterMap fun w=>(f w.2).map fun r=>(w.1,r)
theorem Az(f:Bool->Option (List Rg))(ws:List (Int×Bool))(w:Int×Bool):dZ f (ws++[w])=dZ f ws++((f w.2).map fun r=>(w.1,r)).toList:=by
 unfold dZ;rw[List.filterMap_append];cases h:f w.2<;>simp[h]
end PG
namespace L2
open PySem
theorem cm.gB{K:zab}{H H':Hp}{D:zdJ}{v:V}{r:PG.Rg}{ys:List V}(h:cm K H v r)(hD:H D=some (.lst ys))(u:bc D H H'):cm K H' v r:=by obtain⟨a,e,q⟩:=h;exact⟨a,e,q.gB hD u⟩
theorem dC.gB{K:zab}{H H':Hp}{D:zdJ}{v:V}{rs:List PG.Rg}{ys:List V}(h:dC K H v rs)(hD:H D=some (.lst ys))(u:bc D H H'):dC K H' v rs:=
 let ⟨a,us,e,q,l,r⟩:=h;⟨a,us,e,q.gB hD u,l,fun i hi=>let ⟨r1,e1,q1⟩:=r i hi;⟨r1,e1,q1.gB hD u⟩⟩
def jS (K:zab) (H:Hp) (v:V) (w:Int×List PG.Rg):Prop:=∃a u,v=.ref a/\cF K H a [.int w.1,u]/\dC K H u w.2
theorem jS.mono{K:zab}{H H':Hp}{v:V}{w:Int×List PG.Rg}(h:jS K H v w)(s:aq H H'):jS K H' v w:=by obtain⟨a,u,e,q,r⟩:=h;exact⟨a,u,e,s.br q,r.mono s⟩
theorem jS.gB{K:zab}{H H':Hp}{D:zdJ}{v:V}{w:Int×List PG.Rg}{ys:List V}(h:jS K H v w)(hD:H D=some (.lst ys))(u:bc D H H'):jS K H' v w:=by obtain⟨a,x,e,q,r⟩:=h;exact⟨a,x,e,q.gB hD u,r.gB hD u⟩
inductive c5(K:zab)(H:Hp):List V->List (Int×List PG.Rg)->Prop
 |nil:c5 K H [] []
 |cons {v w us ws}:jS K H v w->c5 K H us ws->c5 K H (v::us) (w::ws)
theorem c5.map{K:zab}{H H':Hp}{us:List V}{ws:List (Int×List PG.Rg)}(h:c5 K H us ws)(f:∀v w,jS K H v w->jS K H' v w):c5 K H' us ws:=by
 induction h with
 |nil=>exact .nil
 |cons a _ ih=>exact .cons (f _ _ a) ih
theorem c5.snoc{K:zab}{H:Hp}{us:List V}{ws:List (Int×List PG.Rg)}{v:V}{w:Int×List PG.Rg}(h:c5 K H us ws)(q:jS K H v w):c5 K H (us++[v]) (ws++[w]):=by
 induction h with
 |nil=>exact .cons q .nil
 |cons a _ ih=>exact .cons a ih
theorem c5.len{K:zab}{H:Hp}{us:List V}{ws:List (Int×List PG.Rg)}(h:c5 K H us ws):us.length=ws.length:=by
 induction h with
 |nil=>rfl
 |cons a _ ih=>simp[ih]
section
variable(K:zab)(C:zdJ)
def HH:Sp:=fun vs H Q _=>∃(p:zdJ) (rv:V) (pr:PG.Prog) (i:Nat) (hi:i<(PG.aE pr.body).length) (hf:i<(PG.aK pr.body 0).length) (rs:List PG.Rg) (sg:W) (l r:PM.Tr),vs=[.ref p,.int (PG.aE pr.body)[i].row,rv]/\DB K C H p pr/\E6 pr/\dC K H rv rs/\rs.length=pr.ay.length/\
 As (PG.aE pr.body)[i]=some (sg,l,r)/\xr pr.ay rs l/\xr pr.ay rs r/\PG.iz l<=4/\PG.iz r<=4/\∀L us H',aq H H'->H L=none->H' L=some (.lst us)->c5 K H' us (PG.dZ (PG.cn pr.ay rs sg l r) ((PG.aK pr.body 0)[i].2.2.zip [true,false]))->Q (.ref L) H'
end
end L2
namespace PG
open PM (W Tr)
def dD (bs:List cE) (rs:List Rg) (ws:List Int):bo->List (Int×List Rg)
 |.ask _ b=>[(ws.getD 0 0,jY bs rs b (0,L2.lU bs b-1))]
 |.put _ b e=>[(ws.getD 0 0,jY bs rs b (k8 (ff (cV bs rs) e) (L2.lU bs b)))]
 |.fD _ sg l r=>dZ (cn bs rs sg l r) (ws.zip [true,false])
 |.ifs _ sg l r _ _=>dZ (cn bs rs sg l r) (ws.zip [true,false])
 |.fK _ sg l r _=>dZ (cn bs rs sg l r) (ws.zip [true,false])
 |_=>[(ws.getD 0 0,rs)]
end PG
namespace L2
open PySem
def K3 (bs:List PG.cE) (rs:List PG.Rg):PG.bo->Prop
 |.ask _ b=>b∈bs.map (·.name)
 |.put _ b e=>b∈bs.map (·.name)/\xr bs rs e/\PG.iz e<=4
 |.fD _ _ l r=>xr bs rs l/\xr bs rs r/\PG.iz l<=4/\PG.iz r<=4
 |.ifs _ _ l r _ _=>xr bs rs l/\xr bs rs r/\PG.iz l<=4/\PG.iz r<=4
 |.fK _ _ l r _=>xr bs rs l/\xr bs rs r/\PG.iz l<=4/\PG.iz r<=4
 |_=>True
section
variable(K:zab)(C:zdJ)
def HI:Sp:=fun vs H Q _=>∃(p:zdJ) (rv:V) (pr:PG.Prog) (row:Int) (rs:List PG.Rg),vs=[.ref p,.int row,rv]/\DB K C H p pr/\E6 pr/\dC K H rv rs/\rs.length=pr.ay.length/\(∀b∈pr.ay,0<b.size/\b.size<=1000)/\
 ((row=0/\∀L H',aq H H'->H L=none->H' L=some (.lst [])->Q (.ref L) H')\/
  (row≠0/\∃(i:Nat) (hi:i<(PG.aE pr.body).length) (hf:i<(PG.aK pr.body 0).length),(PG.aE pr.body)[i].row=row/\K3 pr.ay rs (PG.aE pr.body)[i]/\0<(PG.aK pr.body 0)[i].2.2.length/\
   ∀L us H',aq H H'->H L=none->H' L=some (.lst us)->c5 K H' us (PG.dD pr.ay rs (PG.aK pr.body 0)[i].2.2 (PG.aE pr.body)[i])->Q (.ref L) H'))
end
def Mp (bs:List PG.cE):PM.Tr->Prop
 |.num n=>0<=n/\n<1000
 |.box x=>x∈bs.map (·.name)
 |.bin o l r=>(o=[43]\/o=[45]\/o=[42])/\Mp bs l/\Mp bs r
def VX (bs:List PG.cE) (rs:List PG.Rg):Prop:=rs.length=bs.length/\∀r∈rs,0<=r.1/\r.1<=10/\0<=r.2/\r.2<=10
theorem Mp.g{bs:List PG.cE}{rs:List PG.Rg}(h:VX bs rs):∀ {t:PM.Tr},Mp bs t->xr bs rs t
 |.num n,q=>by unfold Mp at q;unfold xr;lia
 |.box x,q=>by
  refine⟨q,?_⟩;unfold PG.cV;rw[zaf];cases e:rs[PG.qG bs x]? with
  |none=>exact⟨by decide,by decide⟩
  |some r=>
   have:=h.2 r (zav e);exact⟨by show r.1.natAbs<=_;lia,by show r.2.natAbs<=_;lia⟩
 |.bin o l r,q=>⟨q.1,Mp.g h q.2.1,Mp.g h q.2.2⟩
section
variable(K:zab)(C:zdJ)
def nR (r:PG.Rg):Dp:=.tup [.int r.1,.int r.2]
def Co (rs:List PG.Rg):Dp:=.tup (rs.map nR)
def Cp:Sp:=fun vs H Q _=>∃(pv rv:V) (pr:PG.Prog) (row:Int) (rs:List PG.Rg),vs=[pv,.int row,rv]/\Rep K H (hX pr) pv/\PG.fc pr.body<=4/\(PG.fC pr.body).length<=1000/\E6 pr/\dC K H rv rs/\rs.length=pr.ay.length/\(∀b∈pr.ay,0<b.size/\b.size<=1000)/\
 ((row=0/\∀L H',aq H H'->H L=none->H' L=some (.lst [])->Q (.ref L) H')\/
  (row≠0/\∃(i:Nat) (hi:i<(PG.aE pr.body).length) (hf:i<(PG.aK pr.body 0).length),(PG.aE pr.body)[i].row=row/\K3 pr.ay rs (PG.aE pr.body)[i]/\0<(PG.aK pr.body 0)[i].2.2.length/\
   ∀L us H',aq H H'->H L=none->H' L=some (.lst us)->c5 K H' us (PG.dD pr.ay rs (PG.aK pr.body 0)[i].2.2 (PG.aE pr.body)[i])->Q (.ref L) H'))
end
theorem cm.rep{K:zab}{H:Hp}{r:PG.Rg}{v:V}(h:cm K H v r):Rep K H (nR r) v:=by
 obtain⟨a,rfl,q⟩:=h;exact Rep.bj.mpr ⟨a,_,rfl,q,.cons (Rep.bw.mpr rfl) (.cons (Rep.bw.mpr rfl) .nil)⟩
theorem DH{K:zab}{H:Hp}{α:Type}{f:α->Dp}:∀ {rs:List α} {us:List V},us.length=rs.length->(∀i (hi:i<us.length),∃r,rs[i]?=some r/\Rep K H (f r) us[i])->aQ K H (rs.map f) us
 |[],[],_,_=>.nil
 |r::rs,u::us,l,h=>by
  refine .cons ?_ (DH (by simpa using l) fun i hi=>?_)
  ·obtain⟨q,e,p⟩:=h 0 (by simp);cases e;exact p
  ·obtain⟨q,e,p⟩:=h (i+1) (by simp;lia);exact⟨q,by simpa using e,by simpa using p⟩
theorem dC.rep{K:zab}{H:Hp}{rs:List PG.Rg}{v:V}(h:dC K H v rs):Rep K H (Co rs) v:=by
 obtain⟨a,us,rfl,q,l,r⟩:=h;exact Rep.bj.mpr ⟨a,_,rfl,q,DH l fun i hi=>let ⟨x,e,p⟩:=r i hi;⟨x,e,p.rep⟩⟩
def Fg (w:Int×List PG.Rg):Dp:=.tup [.int w.1,Co w.2]
theorem c5.rep{K:zab}{H:Hp}{us:List V}{ws:List (Int×List PG.Rg)}(h:c5 K H us ws):aQ K H (ws.map Fg) us:=by
 induction h with
 |nil=>exact .nil
 |cons a _ ih=>
  refine .cons ?_ ih;obtain⟨p,u,rfl,q,r⟩:=a;exact Rep.bj.mpr ⟨p,_,rfl,q,.cons (Rep.bw.mpr rfl) (.cons r.rep .nil)⟩
open PyProof.Rows
theorem nE{K:zab}{H:Hp}{O:zdJ->Prop}{B:zdJ}{bs:List PG.cE}(h:jA K O H B bs):∃xs,fU K H B xs/\xs.length=bs.length:=by obtain⟨xs,a,b,_⟩:=h.list;exact⟨xs,a,b⟩
theorem qY{bs:List PG.cE}{i:Int}(h0:0<=i)(h1:i<bs.length):(PG.pick ⟨[],0,0⟩ bs i).name∈bs.map (·.name):=zaJ.mpr ⟨_,PG.GV _ h0 h1,rfl⟩
theorem Oc(xs:List V){x:Int}(h:0<=x):kA xs none (some x)=xs.take x.toNat:=by
 obtain⟨j,rfl⟩:∃j:Nat,x=j:=⟨x.toNat,by lia⟩
 unfold kA;rw[HT.pG,HT.tF,List.drop_zero,Nat.sub_zero,zaZ];by_cases h:j<=xs.length
 ·rw[zdd h]
 ·rw[zc2 (by lia),za6,zbs (by lia)]
theorem Cq:∀rs:List PG.Rg,PyData.canLayAll0 (Dp.pV (rs.map nR))=true/\PyData.depthAll (Dp.pV (rs.map nR))<=1
 |[]=>by simp[Dp.pV,PyData.canLayAll0,PyData.depthAll]
 |r::rs=>by
  obtain⟨h1,h2⟩:=Cq rs;simp only[zaq,nR,Dp.pV,Dp.py,PyData.canLayAll0,PyData.depthAll,PyData.canLay0,PyData.depth,h1];exact⟨rfl,by lia⟩
theorem HJ:∀ws:List (Int×List PG.Rg),PyData.canLayAll0 (Dp.pV (ws.map Fg))=true/\PyData.depthAll (Dp.pV (ws.map Fg))<=3
 |[]=>by simp[Dp.pV,PyData.canLayAll0,PyData.depthAll]
 |w::ws=>by
  obtain⟨h1,h2⟩:=HJ ws;obtain⟨r1,r2⟩:=Cq w.2;simp only[zaq,Fg,Co,Dp.pV,Dp.py,PyData.canLayAll0,PyData.depthAll,PyData.canLay0,PyData.depth,h1,r1];exact⟨rfl,by lia⟩
theorem DI(ws:List (Int×List PG.Rg)):SeqAt.shaped (Dp.lst (ws.map Fg)).py=true:=by
 obtain⟨h1,h2⟩:=HJ ws;unfold SeqAt.shaped;rw[Dp.py,PyData.canLay0,h1,zca,decide_eq_true_iff,PyData.depth];lia
theorem AA(bs:List PG.cE)(rs:List PG.Rg)(ws:List Int)(st:PG.bo):(PG.dD bs rs ws st).length<=2:=by
 have h:∀f,(PG.dZ f (ws.zip [true,false])).length<=2:=fun f=>by
  unfold PG.dZ;refine zax (List.length_filterMap_le _ _) ?_;rw[zbW];exact Nat.min_le_right _ _
 cases st<;>first |exact h _ |simp[PG.dD]
end L2
namespace PG
open PM (W Tr)
inductive dE where
 |fK (k:Int) (sg:W) (l r:Tr)
 |if1 (k:Int) (sg:W) (l r:Tr)
 |if2 (k:Int) (sg:W) (l r:Tr) (a:List bo)
def dE.fill:dE->List bo->bo
 |.fK k sg l r,b=>.fK k sg l r b
 |.if1 k sg l r,b=>.ifs k sg l r b []
 |.if2 k sg l r a,b=>.ifs k sg l r a b
def bV:List (List bo×dE)->List bo->List bo
 |[],b=>b
 |(s,h)::o,b=>bV o (s++[h.fill b])
def cI (b:List bo):List Int:=(aE b).map (·.row)
theorem vg:∀a b:List bo,aE (a++b)=aE a++aE b
 |[],b=>by simp[aE]
 |s::r,b=>by
  show aE (s::(r++b))=_;rw[aE,aE,vg r b,za0]
theorem kG(a b:List bo):cI (a++b)=cI a++cI b:=by unfold cI;rw[vg,zaw]
theorem Fh(h:dE)(a b:List bo):cI [h.fill (a++b)]=cI [h.fill a]++cI b:=by
 cases h<;>simp[dE.fill,cI,aE,fM,vg,bo.row]
theorem vh:∀(o:List (List bo×dE)) (a b:List bo),cI (bV o (a++b))=cI (bV o a)++cI b
 |[],a,b=>kG a b
 |(s,h)::o,a,b=>by
  rw[bV,bV];have gen:∀(o:List (List bo×dE)) (x y:List bo) (c:List Int),cI x=cI y++c->cI (bV o x)=cI (bV o y)++c:=by
   intro o
   induction o with
   |nil=>exact fun x y c h=>h
   |cons q o ih=>
    intro x y c e;obtain⟨s,h⟩:=q;rw[bV,bV];refine ih _ _ _ ?_;rw[kG,kG,za0]
    congr 1
    cases h<;>simp only[dE.fill,cI,aE,fM,zba,zaq,zaw]<;>(unfold cI at e;rw[e];simp[bo.row])
  refine gen o _ _ _ ?_;rw[kG,kG,za0,Fh]
section
variable{nm:W->Prop}{ex:Tr->Prop}{sg:W->Prop}
theorem yr:∀ {a b:List bo},tN nm ex sg (a++b)↔tN nm ex sg a/\tN nm ex sg b
 |[],b=>by simp[tN]
 |s::r,b=>by
  show tN nm ex sg (s::(r++b))↔_;rw[tN,tN,yr (a:=r),and_assoc]
theorem AB:∀ {o:List (List bo×dE)} {a b:List bo},tN nm ex sg (bV o a)->(tN nm ex sg a->tN nm ex sg b)->tN nm ex sg (bV o b)
 |[],a,b,h,k=>k h
 |(s,h)::o,a,b,q,k=>by
  rw[bV] at q ⊢;refine AB q fun z=>?_;rw[yr] at z ⊢;refine⟨z.1,?_⟩;have z2:=z.2;cases h with
  |fK k1 Yy l r=>exact⟨⟨z2.1.1,z2.1.2.1,z2.1.2.2.1,k z2.1.2.2.2⟩,trivial⟩
  |if1 k1 Yy l r=>exact⟨⟨z2.1.1,z2.1.2.1,z2.1.2.2.1,k z2.1.2.2.2.1,z2.1.2.2.2.2⟩,trivial⟩
  |if2 k1 Yy l r a1=>exact⟨⟨z2.1.1,z2.1.2.1,z2.1.2.2.1,z2.1.2.2.2.1,k z2.1.2.2.2.2⟩,trivial⟩
end
theorem xv:∀(o:List (List bo×dE)) {x y:List bo} {m:Nat},fc x<=max (fc y) m->fc (bV o x)<=max (fc (bV o y)) (m+o.length)
 |[],x,y,m,h=>h
 |(s,h)::o,x,y,m,q=>by
  rw[bV,bV];have:=xv o (x:=s++[h.fill x]) (y:=s++[h.fill y]) (m:=m+1) (by
   rw[pW,pW,uT,uT];cases h<;>simp only[dE.fill,ka,fc]<;>lia)
  rw[zai];lia
theorem vi:∀ {l:List Int} {a b:Int},l.Pairwise (· < ·)->(∀x∈l,a<x/\x<=b)->(l.length:Int)<=max 0 (b-a)
 |[],a,b,_,_=>by simp;lia
 |x::r,a,b,p,h=>by
  rw[zbc] at p;have h1:=h x (zaB ..);have:=vi (a:=x) (b:=b) p.2 fun y hy=>⟨p.1 y hy,(h y (zae _ hy)).2⟩
  rw[zai];lia
structure JN(nm:W->Prop)(ex:Tr->Prop)(sg:W->Prop)(r0 row:Int)(body:List bo):Prop where
 ok:tN nm ex sg body
 rise:(cI body).Pairwise (· < ·)
 rows:∀x∈cI body,r0<x/\x<=row
 dep:fc body<=4
 le:r0<=row
theorem JN.nil{nm:W->Prop}{ex:Tr->Prop}{sg:W->Prop}{r0:Int}:JN nm ex sg r0 r0 []:=⟨trivial,by simp[cI,aE],by simp[cI,aE],by simp[fc],za7 _⟩
theorem JN.more{nm:W->Prop}{ex:Tr->Prop}{sg:W->Prop}{r0 row:Int}{body:List bo}(h:JN nm ex sg r0 row body):JN nm ex sg r0 (row+1) body:=
 ⟨h.ok,h.rise,fun x hx=>⟨(h.rows x hx).1,by have:=(h.rows x hx).2;lia⟩,h.dep,by have:=h.le;lia⟩
theorem JN.add{nm:W->Prop}{ex:Tr->Prop}{sg:W->Prop}{r0 row:Int}{o:List (List bo×dE)}{cur:List bo}{st:bo}(h:JN nm ex sg r0 row (bV o cur))(hs:vS nm ex sg st)(hr:cI [st]=[row+1])(hd:ka st+o.length<=4):JN nm ex sg r0 (row+1) (bV o (cur++[st])):=by
 have e:cI (bV o (cur++[st]))=cI (bV o cur)++[row+1]:=by rw[vh,hr]
 refine⟨AB h.ok fun z=>yr.mpr ⟨z,hs,trivial⟩,?_,?_,?_,by have:=h.le;lia⟩
 ·rw[e,zdt];refine⟨h.rise,by simp,fun a ha b hb=>?_⟩;rw[zan.mp hb];have:=(h.rows a ha).2;lia
 ·intro x hx;rw[e] at hx;have:=h.le;rcases zak.mp hx with hx |hx
  ·have:=h.rows x hx;lia
  ·rw[zan.mp hx];lia
 ·have:=xv o (x:=cur++[st]) (y:=cur) (m:=ka st) (by rw[pW,uT];lia);have:=h.dep;lia
theorem Cr{st:bo}(h:∀k s l r a b,st≠.ifs k s l r a b)(h2:∀k s l r a,st≠.fK k s l r a):cI [st]=[st.row]/\ka st=0:=by
 cases st with
 |ifs k s l r a b=>exact absurd rfl (h _ _ _ _ _ _)
 |fK k s l r a=>exact absurd rfl (h2 _ _ _ _ _)
 |_=>exact⟨by simp[cI,aE,fM],by simp[ka]⟩
theorem AD(h:dE)(e:∀k sg l r a,h=.if2 k sg l r a->a=[]):ka (h.fill [])=1/\cI [h.fill []]=[(h.fill []).row]:=by
 cases h with
 |if2 k sg l r a=>cases e _ _ _ _ _ rfl;exact⟨by simp[dE.fill,ka,fc],by simp[dE.fill,cI,aE,fM]⟩
 |_=>exact⟨by simp[dE.fill,ka,fc],by simp[dE.fill,cI,aE,fM]⟩
end PG
namespace L2
open PySem PG
open PM (W Tr)
def In (r:Rg) (v:Int):Prop:=r.1<=v/\v<=r.2
def K4 (rs:List Rg) (vals:List Int):Prop:=vals.length=rs.length/\∀(i:Nat) (v:Int) (r:Rg),vals[i]?=some v->rs[i]?=some r->In r v
theorem VY{a b x y:Int}(h1:a<=x)(h2:x<=b):min (a*y) (b*y)<=x*y/\x*y<=max (a*y) (b*y):=by
 by_cases hy:0<=y
 ·have e1:=zcD h1 hy;have e2:=zcD h2 hy;exact⟨zcf (Int.min_le_left _ _) e1,zcf e2 (Int.le_max_right _ _)⟩
 ·have hy:y<=0:=by lia
  have e1:=zcE h1 hy;have e2:=zcE h2 hy;exact⟨zcf (Int.min_le_right _ _) e2,zcf e1 (Int.le_max_left _ _)⟩
theorem vj{l r:Rg}{x y:Int}(h1:In l x)(h2:In r y):In (nP (l.1*r.1) (l.1*r.2) (l.2*r.1) (l.2*r.2),nQ (l.1*r.1) (l.1*r.2) (l.2*r.1) (l.2*r.2)) (x*y):=by
 obtain⟨a1,a2⟩:=VY (y:=y) h1.1 h1.2;obtain⟨b1,b2⟩:=VY (y:=l.1) h2.1 h2.2;obtain⟨c1,c2⟩:=VY (y:=l.2) h2.1 h2.2;rw[zdG r.1,zdG r.2,zdG y] at b1 b2 c1 c2;unfold In nP nQ;simp only;generalize l.1*r.1=p1 at *;generalize l.1*r.2=p2 at *;generalize l.2*r.1=p3 at *;generalize l.2*r.2=p4 at *;generalize l.1*y=p5 at *;generalize l.2*y=p6 at *;generalize x*y=p7 at *
 constructor<;>lia
theorem iL{bs:List cE}{x:W}(h:x∈bs.map (·.name)):qG bs x<bs.length:=by
 unfold qG;obtain⟨b,hb,rfl⟩:=zaJ.mp h;exact List.findIdx_lt_length_of_exists ⟨b,hb,by simp⟩
theorem RG{bs:List cE}{x:W}(h:x∈bs.map (·.name)):(bs[qG bs x]'(iL h)).name=x:=by
 have:=List.findIdx_getElem (p:=fun b:cE=>decide (b.name=x)) (xs:=bs) (w:=iL h);exact of_decide_eq_true this
theorem Od{bs:List cE}{vals:List Int}{x:W}(l:vals.length=bs.length)(nb:(bs.map (·.name)).Nodup)(h:x∈bs.map (·.name)):wv bs vals (.box x)=vals.getD (qG bs x) 0:=by
 have hi:=iL h;have e:=nC bs (vals.map V.int) (by rw[zad];exact l) nb (qG bs x) hi (V.int (vals.getD (qG bs x) 0)) (by rw[zal,zaf,zaa (by lia)];rfl);rw[RG h] at e;show VQ _ x=_;unfold VQ;rw[e]
theorem K4.at_{bs:List cE}{rs:List Rg}{vals:List Int}{x:W}(h:K4 rs vals)(l:vals.length=bs.length)(hx:x∈bs.map (·.name)):In (cV bs rs x) (vals.getD (qG bs x) 0):=by
 have hi:=iL hx;have l2:=h.1;unfold cV;rw[zaf,zaf,zaa (show qG bs x<vals.length by lia),zaa (show qG bs x<rs.length by lia)];exact h.2 _ _ _ (zaa (by lia)) (zaa (by lia))
theorem Cs{bs:List cE}{rs:List Rg}{vals:List Int}(h:K4 rs vals)(l:vals.length=bs.length)(nb:(bs.map (·.name)).Nodup):∀ {t:Tr},gX bs t->In (ff (cV bs rs) t) (wv bs vals t)
 |.num n,_=>⟨za7 _,za7 _⟩
 |.box x,q=>by
  rw[Od l nb q];exact h.at_ l q
 |.bin o a b,q=>by
  have h1:=Cs h l nb q.2.1;have h2:=Cs h l nb q.2.2;have e:wv bs vals (.bin o a b)=if o=[43] then wv bs vals a+wv bs vals b else if o=[45] then wv bs vals a-wv bs vals b else wv bs vals a*wv bs vals b:=rfl
  rw[e,ff,HC];by_cases c:o=[43]
  ·rw[if_pos c,if_pos c];unfold In at *;simp only;lia
  ·rw[if_neg c,if_neg c];by_cases d:o=[45]
   ·rw[if_pos d,if_pos d];unfold In at *;simp only;lia
   ·rw[if_neg d,if_neg d];exact vj h1 h2
theorem K5{r:Rg}{v size:Int}(h:In r v)(hs:0<size):In (k8 r size) (v%size):=by
 unfold k8;by_cases c:r.1/size=r.2/size
 ·rw[if_pos c];have q1:=zb8 hs h.1;have q2:=zb8 hs h.2;have e0:v/size=r.1/size:=by lia
  have e1:=zcu r.1 size;have e2:=zcu r.2 size;have e3:=zcu v size;rw[<- c] at e2;rw[e0] at e3;unfold In at *;simp only;generalize size*(r.1/size)=z at *;lia
 ·rw[if_neg c];have h1:=zbB v (show size≠0 by lia);have h2:=zbm v hs;unfold In;simp only;lia
end L2
namespace L2
open PySem PG
open PM (W Tr)
theorem HK(bs:List cE)(x:W):mG bs x=qG bs x:=by
 unfold mG qG;rw[List.idxOf,List.findIdx_map]
 congr 1
 funext b
 exact zbj.mpr (by simp[Function.comp])
def Oe (ws:List Int):bo->Prop
 |.fD ..=>∃a,ws=[a]
 |.ifs ..=>∃a b,ws=[a,b]
 |.fK ..=>∃a b,ws=[a,b]
 |_=>0<ws.length
abbrev HL (bs:List cE):bo->Prop:=vS (·∈bs.map (·.name)) (fun e=>gX bs e/\iz e<=2) (·∈Mh)
def one (vals:List Int):List Rg:=vals.map fun v=>(v,v)
end L2
namespace L2
open PySem PG
open PM (W Tr)
def zx (b:cE) (r:Rg):Prop:=0<=r.1/\r.2<=b.size-1
def Mq (bs:List cE) (rs:List Rg):Prop:=rs.length=bs.length/\∀(i:Nat) (r:Rg) (b:cE),rs[i]?=some r->bs[i]?=some b->zx b r
structure fE(bs:List cE)(rs:List Rg):Prop where
 bd:Mq bs rs
 le:∀r∈rs,r.1<=r.2
theorem Mq.at_{bs:List cE}{rs:List Rg}(h:Mq bs rs){x:W}(hx:x∈bs.map (·.name)):zx (bs[qG bs x]'(iL hx)) (cV bs rs x):=by
 have hi:=iL hx;have l:=h.1;refine h.2 (qG bs x) _ _ ?_ (zaa hi);unfold cV;rw[zaf,zaa (show qG bs x<rs.length by lia)];rfl
theorem Mq.put{bs:List cE}{rs:List Rg}(h:Mq bs rs){x:W}(hx:x∈bs.map (·.name)){r:Rg}(hr:zx (bs[qG bs x]'(iL hx)) r):Mq bs (jY bs rs x r):=by
 refine⟨by unfold jY;rw[zbV];exact h.1,fun i q b e1 e2=>?_⟩;unfold jY at e1;rw[zcU] at e1;by_cases c:qG bs x=i
 ·rw[if_pos c] at e1;subst c;by_cases d:qG bs x<rs.length
  ·rw[if_pos d] at e1;cases e1;rw[zaa (iL hx)] at e2;cases e2;exact hr
  ·rw[if_neg d] at e1;cases e1
 ·rw[if_neg c] at e1;exact h.2 i q b e1 e2
theorem K6{b:cE}{lt truth:Bool}{own l r:Rg}(h1:zx b own)(h2:zx b l):zx b (oX lt truth own l r):=by
 unfold zx oX Ay lg at *;cases lt<;>cases truth<;>simp only[if_true,zaF,if_false]
 ·split
  ·simp only
   constructor
   ·split<;>lia
   ·split<;>lia
  ·exact h1
 ·lia
 ·lia
 ·lia
theorem K7{b:cE}{lt truth:Bool}{own l r:Rg}(h1:zx b own)(h2:zx b r):zx b (oY lt truth own l r):=by
 unfold zx oY Ay lg at *;cases lt<;>cases truth<;>simp only[if_true,zaF,if_false]
 ·split
  ·simp only
   constructor
   ·split<;>lia
   ·split<;>lia
  ·exact h1
 ·lia
 ·lia
 ·lia
theorem Of{rs oZ:List Rg}(h:qc rs=some oZ):oZ=rs/\∀r∈rs,r.1<=r.2:=by
 unfold qc at h;split at h
 ·cases h
 ·cases h;refine⟨rfl,fun r hr=>Classical.byContradiction fun z=>?_⟩;rename_i c;exact c (zbu.mpr ⟨true,zaJ.mpr ⟨r,hr,decide_eq_true (by lia)⟩,rfl⟩)
theorem Fi{bs:List cE}{rs oZ:List Rg}{sg:W}{l r:Tr}{truth:Bool}(h:Mq bs rs)(ol:gX bs l)(or:gX bs r)(e:cn bs rs sg l r truth=some oZ):fE bs oZ:=by
 unfold cn at e;split at e
 ·obtain⟨rfl,le⟩:=Of e;refine⟨?_,le⟩;have hL:Mq bs (Mn bs rs (decide (sg=[60])) truth l (ff (cV bs rs) l) (ff (cV bs rs) r)):=by
   cases l with
   |box x=>exact h.put ol (K6 (h.at_ ol) (h.at_ ol))
   |num n=>exact h
   |bin o a b=>exact h
  cases r with
  |box x=>exact hL.put or (K7 (hL.at_ or) (h.at_ or))
  |num n=>exact hL
  |bin o a b=>exact hL
 ·cases e
theorem fE.low{bs:List cE}{rs:List Rg}(h:fE bs rs):K4 rs (rs.map (·.1)):=⟨zad ..,fun i v r e1 e2=>by
 rw[zal,e2] at e1;cases e1;exact⟨za7 _,h.le r (zav e2)⟩⟩
theorem fE.put{bs:List cE}{rs:List Rg}(h:fE bs rs){x:W}(hx:x∈bs.map (·.name)){r:Rg}(hr:zx (bs[qG bs x]'(iL hx)) r)(hl:r.1<=r.2):fE bs (jY bs rs x r):=⟨h.bd.put hx hr,fun q hq=>by
 unfold jY at hq;rcases List.mem_or_eq_of_mem_set hq with hq |rfl
 ·exact h.le q hq
 ·exact hl⟩
theorem vm{bs:List cE}{x:W}(hx:x∈bs.map (·.name)):lU bs x=(bs[qG bs x]'(iL hx)).size:=by
 unfold lU;rw[HK,zaa (iL hx)];rfl
theorem nF{bs:List cE}{rs:List Rg}{ws:List Int}{st:bo}(h:fE bs rs)(nb:(bs.map (·.name)).Nodup)(own:HL bs st)(sz:∀b∈bs,0<b.size):∀q∈dD bs rs ws st,fE bs q.2:=by
 have cond:∀(sg:W) (l r:Tr),gX bs l->gX bs r->∀q∈dZ (cn bs rs sg l r) (ws.zip [true,false]),fE bs q.2:=fun sg l r ol or q hq=>by
  unfold dZ at hq;obtain⟨w,_,e⟩:=zbw.mp hq;obtain⟨oZ,e1,rfl⟩:=zaD.mp e;exact Fi h.bd ol or e1
 intro q hq;cases st with
 |ask k b=>
  cases zan.mp hq;have hs:=sz _ (zao (iL own));have:=vm own;exact h.put own ⟨za7 _,by simp only;lia⟩ (by simp only;lia)
 |put k b t=>
  cases zan.mp hq;have hs:=sz _ (zao (iL own.1));have es:=vm own.1;have lv:(rs.map (·.1)).length=bs.length:=by rw[zad];exact h.bd.1
  have r1:=Cs h.low lv nb own.2.1;rw[es];have r2:=K5 r1 hs;refine h.put own.1 ?_ (zcf r2.1 r2.2);unfold k8 zx;split
  ·simp only;have h1:=zbB (ff (cV bs rs) t).1 (show (bs[qG bs b]'(iL own.1)).size≠0 by lia);have h2:=zbm (ff (cV bs rs) t).2 hs;lia
  ·simp only;lia
 |say k t=>cases zan.mp hq;exact h
 |stop k=>cases zan.mp hq;exact h
 |fD k sg l r=>exact cond sg l r own.2.1.1 own.2.2.1 q hq
 |ifs k sg l r p q2=>exact cond sg l r own.2.1.1 own.2.2.1.1 q hq
 |fK k sg l r p=>exact cond sg l r own.2.1.1 own.2.2.1.1 q hq
theorem Paired.app{α β:Type}{F:α->β->Prop}{a1 a2:List α}{b1 b2:List β}(h1:Paired F a1 b1)(h2:Paired F a2 b2):Paired F (a1++a2) (b1++b2):=by
 induction h1 with
 |nil=>exact h2
 |cons h _ ih=>exact .cons h ih
mutual
theorem VZ:∀(s:bo) (x:Int),Paired (fun (s:bo) (f:d7)=>Oe f.2.2 s) (fM s) (iK s x)
 |.ifs k sg l r a b,x=>by
  rw[fM,iK];exact .cons ⟨_,_,rfl⟩ (L2.Paired.app (sR a x) (sR b x))
 |.fK k sg l r a,x=>by
  rw[fM,iK];exact .cons ⟨_,_,rfl⟩ (sR a k)
 |.ask k _,x=>.cons (zcF _) .nil
 |.put k _ _,x=>.cons (zcF _) .nil
 |.say k _,x=>.cons (zcF _) .nil
 |.fD k _ _ _,x=>.cons ⟨_,rfl⟩ .nil
 |.stop k,x=>.cons (zcF _) .nil
theorem sR:∀(b:List bo) (x:Int),Paired (fun (s:bo) (f:d7)=>Oe f.2.2 s) (aE b) (aK b x)
 |[],x=>.nil
 |s::r,x=>by
  rw[aE,aK];exact L2.Paired.app (VZ s _) (sR r x)
end
end L2
namespace L2
open PySem PyProof.Rows
section
variable{K:zab}{D D' O:zdJ->Prop}{H0 H H1:Hp}{d:Dp}{v:V}{s p:zdJ}
theorem Fix.grow(f:Fix K D H d v)(h:∀a,D' a->D a\/H a=none):Fix K D' H d v:=fun H2 u=>f H2 fun b o n e=>u b o (fun z=>(h b z).elim n fun z=>by rw[z] at e;cases e) e
theorem eM.grow{ds:List Dp}{vs:List V}(f:eM K D H ds vs)(h:∀a,D' a->D a\/H a=none):eM K D' H ds vs:=fun H2 u=>f H2 fun b o n e=>u b o (fun z=>(h b z).elim n fun z=>by rw[z] at e;cases e) e
theorem Own.tup{ds:List Dp}{vs:List V}(h:EW K H0 H ds vs)(dm:∀b,H0 b≠none->H b≠none)(hp:H p=none):Own K H0 (upd H p (.tup vs)) (.tup ds) (.ref p):=fun O hO=>Fix.tup ai (fun z=>dm p (hO p z) hp) ((h O hO).up (.of (aq.new hp _)))
end
structure BsK(bs:List PG.cE):Prop where
 nb:(bs.map (·.name)).Nodup
 gc:bs.length<=4
 size:∀b∈bs,2<=b.size/\b.size<=10/\0<=b.first/\b.first<b.size
abbrev AE (bs:List PG.cE) (e:PM.Tr):Prop:=PG.gX bs e/\PG.iz e<=2
def Plain:PG.bo->Prop
 |.ifs ..=>False
 |.fK ..=>False
 |_=>True
theorem Plain.rows{st:PG.bo}(h:Plain st):PG.cI [st]=[st.row]/\PG.ka st=0:=PG.Cr (fun _ _ _ _ _ _ z=>by rw[z] at h;exact h) (fun _ _ _ _ _ z=>by rw[z] at h;exact h)
abbrev Yz (bs:List PG.cE):Int->Int->List PG.bo->Prop:=PG.JN (·∈bs.map (·.name)) (AE bs) (·∈PG.Mh)
section
variable(K:zab)(D:zdJ->Prop)(H:Hp)
inductive iM:List (List PG.bo×PG.dE)->zdJ->List zdJ->List V->Prop
 |root {p:zdJ}:iM [] p [] [.bI]
 |fK {o zy k sg l r p q c ps ss vs vl vr}:H q=some (.lst (vs++[.ref c]))->eM K D H (zy.map eF) vs->¬D c->H c=some (.tup [.str "while",.int k,.str (S sg),vl,vr,.ref p])->Fix K D H (ky l) vl->Fix K D H (ky r) vr->iM o q ps ss->iM ((zy,.fK k sg l r)::o) p (q::ps) (.bI::ss)
 |if1 {o zy k sg l r p q c b ps ss vs vl vr}:H q=some (.lst (vs++[.ref c]))->eM K D H (zy.map eF) vs->¬D c->H c=some (.tup [.str "if",.int k,.str (S sg),vl,vr,.ref p,.ref b])->Fix K D H (ky l) vl->Fix K D H (ky r) vr->H b=some (.lst [])->iM o q ps ss->iM ((zy,.if1 k sg l r)::o) p (q::ps) (.ref b::ss)
 |if2 {o zy k sg l r a p q c va ps ss vs vl vr}:H q=some (.lst (vs++[.ref c]))->eM K D H (zy.map eF) vs->¬D c->H c=some (.tup [.str "if",.int k,.str (S sg),vl,vr,va,.ref p])->Fix K D H (ky l) vl->Fix K D H (ky r) vr->Fix K D H (.lst (a.map eF)) va->iM o q ps ss->iM ((zy,.if2 k sg l r a)::o) p (q::ps) (.bI::ss)
end
section
variable{K:zab}{D D':zdJ->Prop}{H H1:Hp}{o:List (List PG.bo×PG.dE)}{p:zdJ}{ps:List zdJ}{ss:List V}
theorem iM.len(h:iM K D H o p ps ss):ps.length=o.length/\ss.length=o.length+1:=by
 induction h with
 |root=>exact⟨rfl,rfl⟩
 |fK _ _ _ _ _ _ _ ih=>exact⟨by rw[zai,zai,ih.1],by rw[zai,zai,ih.2]⟩
 |if1 _ _ _ _ _ _ _ _ ih=>exact⟨by rw[zai,zai,ih.1],by rw[zai,zai,ih.2]⟩
 |if2 _ _ _ _ _ _ _ _ ih=>exact⟨by rw[zai,zai,ih.1],by rw[zai,zai,ih.2]⟩
theorem iM.up(h:iM K D H o p ps ss)(u:a0 D H H1)(h1:∀q∈ps,H1 q=H q)(h2:∀b,V.ref b∈ss->H1 b=H b):iM K D H1 o p ps ss:=by
 induction h with
 |root=>exact .root
 |fK a b c d e f g ih=>exact .fK (by rw[h1 _ (zaB ..)];exact a) (b.up u) c (u _ _ c d) (e.up u) (f.up u) (ih (fun q hq=>h1 q (zae _ hq)) fun b hb=>h2 b (zae _ hb))
 |if1 a b c d e f x g ih=>exact .if1 (by rw[h1 _ (zaB ..)];exact a) (b.up u) c (u _ _ c d) (e.up u) (f.up u) (by rw[h2 _ (zaB ..)];exact x) (ih (fun q hq=>h1 q (zae _ hq)) fun b hb=>h2 b (zae _ hb))
 |if2 a b c d e f x g ih=>exact .if2 (by rw[h1 _ (zaB ..)];exact a) (b.up u) c (u _ _ c d) (e.up u) (f.up u) (x.up u) (ih (fun q hq=>h1 q (zae _ hq)) fun b hb=>h2 b (zae _ hb))
theorem iM.grow(h:iM K D H o p ps ss)(g:∀a,D' a->D a\/H a=none):iM K D' H o p ps ss:=by
 have nc:∀ {c:zdJ} {u:HO},¬D c->H c=some u->¬D' c:=fun n e z=>(g _ z).elim n fun z=>by rw[z] at e;cases e
 induction h with
 |root=>exact .root
 |fK a b c d e f _ ih=>exact .fK a (b.grow g) (nc c d) d (e.grow g) (f.grow g) ih
 |if1 a b c d e f x _ ih=>exact .if1 a (b.grow g) (nc c d) d (e.grow g) (f.grow g) x ih
 |if2 a b c d e f x _ ih=>exact .if2 a (b.grow g) (nc c d) d (e.grow g) (f.grow g) (x.grow g) ih
theorem iM.lT(h:iM K D H o p ps ss):(∀q∈ps,H q≠none)/\∀b,V.ref b∈ss->H b≠none:=by
 have nn:∀ {q:zdJ} {u:HO},H q=some u->H q≠none:=fun e z=>by rw[e] at z;cases z
 induction h with
 |root=>exact⟨fun q hq=>(by cases hq),fun b hb=>(by simp at hb)⟩
 |fK a _ _ _ _ _ _ ih=>exact⟨fun q hq=>(zag.mp hq).elim (fun e=>e▸nn a) (ih.1 q),fun b hb=>(zag.mp hb).elim (fun e=>by cases e) (ih.2 b)⟩
 |if1 a _ _ _ _ _ x _ ih=>exact⟨fun q hq=>(zag.mp hq).elim (fun e=>e▸nn a) (ih.1 q),fun b hb=>(zag.mp hb).elim (fun e=>by cases e;exact nn x) (ih.2 b)⟩
 |if2 a _ _ _ _ _ _ _ ih=>exact⟨fun q hq=>(zag.mp hq).elim (fun e=>e▸nn a) (ih.1 q),fun b hb=>(zag.mp hb).elim (fun e=>by cases e) (ih.2 b)⟩
theorem iM.same(h:iM K D H o p ps ss)(s:aq H H1):iM K D H1 o p ps ss:=by
 have e:∀ {q:zdJ},H q≠none->H1 q=H q:=fun {q} n=>by
  cases z:H q with
  |none=>exact absurd z n
  |some u=>exact s _ _ z
 exact h.up (.of s) (fun q hq=>e (h.lT.1 q hq)) fun b hb=>e (h.lT.2 b hb)
def rootOf (p:zdJ):List zdJ->zdJ
 |[]=>p
 |q::ps=>rootOf q ps
theorem iM.close(h:iM K D H o p ps ss):∀ {cur:List PG.bo} {vs:List V},H p=some (.lst vs)->aQ K H (cur.map eF) vs->Rep K H (.lst ((PG.bV o cur).map eF)) (.ref (rootOf p ps)):=by
 induction h with
 |root=>
  intro cur vs h1 h2;exact Rep.bq.mpr ⟨_,vs,rfl,.of h1,h2⟩
 |fK a b c d e f g ih=>
  intro cur vs h1 h2;rw[PG.bV,rootOf];refine ih a ?_;rw[zaw];refine b.B6.append (.cons ?_ .nil);unfold PG.dE.fill eF;rw[cG];exact Rep.bj.mpr ⟨_,_,rfl,.of d,.cons (Rep.bQ.mpr rfl) (.cons (Rep.bw.mpr rfl) (.cons (Rep.bQ.mpr rfl) (.cons e.rep (.cons f.rep (.cons (Rep.bq.mpr ⟨_,vs,rfl,.of h1,h2⟩) .nil)))))⟩
 |if1 a b c d e f x g ih=>
  intro cur vs h1 h2;rw[PG.bV,rootOf];refine ih a ?_;rw[zaw];refine b.B6.append (.cons ?_ .nil);unfold PG.dE.fill eF;rw[cG,cG];exact Rep.bj.mpr ⟨_,_,rfl,.of d,.cons (Rep.bQ.mpr rfl) (.cons (Rep.bw.mpr rfl) (.cons (Rep.bQ.mpr rfl) (.cons e.rep (.cons f.rep (.cons (Rep.bq.mpr ⟨_,vs,rfl,.of h1,h2⟩) (.cons (Rep.bq.mpr ⟨_,[],rfl,.of x,.nil⟩) .nil))))))⟩
 |if2 a b c d e f x g ih=>
  intro cur vs h1 h2;rw[PG.bV,rootOf];refine ih a ?_;rw[zaw];refine b.B6.append (.cons ?_ .nil);unfold PG.dE.fill eF;rw[cG,cG];exact Rep.bj.mpr ⟨_,_,rfl,.of d,.cons (Rep.bQ.mpr rfl) (.cons (Rep.bw.mpr rfl) (.cons (Rep.bQ.mpr rfl) (.cons e.rep (.cons f.rep (.cons x.rep (.cons (Rep.bq.mpr ⟨_,vs,rfl,.of h1,h2⟩) .nil))))))⟩
end
theorem HM{ta:TA}{g:TG}{tb:TS}{D:Ends}{σ:St}{H:Hp} (h:∀U:Int->Int->Hp->Prop,(∀i0 j H1,(∃W:Nat->Nat->St->Hp->Prop,(∃m,W 0 m σ H1)/\∀i m σ H,W i m σ H->
 ((J7 i0 (j-i0).toNat).stop i H/\D.nx σ H)\/((J7 i0 (j-i0).toNat).go i H/\∃N:St->Hp->Prop,(∀σ' H',N σ' H'->∃m',m'<m/\W (i+1) m' σ' H')/\∀x H',(J7 i0 (j-i0).toNat).zS i H x H'->g x σ H' fun σ2 H2=>tb {D with nx:=N,ct:=N,bk:=D.nx} σ2 H2))->U i0 j H1)->
 ta σ H fun vs H1=>∃i j:Int,vs=[.int i,.int j]/\(-(2 ^ 62)<=i/\i<2 ^ 62/\-(2 ^ 62)<=j/\j<2 ^ 62)/\U i j H1):Ex (uf ta) g tb D σ H:=h _ fun _ _ _ x=>x
def se (ss:List V):List zdJ:=ss.filterMap fun v=>match v with |.ref b=>some b |_=>none
theorem gD{ss:List V}{b:zdJ}:b∈se ss↔V.ref b∈ss:=by
 unfold se;rw[zbw]
 constructor
 ·rintro ⟨v,hv,e⟩
  cases v with
  |ref c=>cases e;exact hv
  |_=>cases e
 ·exact fun h=>⟨_,h,rfl⟩
theorem qe(b:zdJ)(ss:List V):se (.ref b::ss)=b::se ss:=rfl
def cC (pl sc p:zdJ) (ps:List zdJ) (ss:List V):List zdJ:=pl::sc::p::(ps++se ss)
theorem aL{pl sc p a:zdJ}{ps:List zdJ}{ss:List V}:a∈cC pl sc p ps ss↔a=pl\/a=sc\/a=p\/a∈ps\/V.ref a∈ss:=by
 unfold cC;simp only[zag,zak,gD]
structure PZ(K:zab)(bs:List PG.cE)(r0 row:Int)(R pl sc:zdJ)(H0 H:Hp)(o:List (List PG.bo×PG.dE))(cur:List PG.bo)(p:zdJ)(ps:List zdJ)(ss vs:List V):Prop where
 oO:H pl=some (.lst ((p::ps).reverse.map V.ref))
 Ct:H sc=some (.lst ss.reverse)
 hp:H p=some (.lst vs)
 nd:(cC pl sc p ps ss).Nodup
 fx:eM K (·∈cC pl sc p ps ss) H (cur.map eF) vs
 pa:iM K (·∈cC pl sc p ps ss) H o p ps ss
 rt:rootOf p ps=R
 zk:Yz bs r0 row (PG.bV o cur)
 len:o.length<=4
 sm:aq H0 H
 fr:∀a∈cC pl sc p ps ss,H0 a=none
section
variable{K:zab}{bs:List PG.cE}{r0 row:Int}{R pl sc:zdJ}{H0 H H1:Hp}{o:List (List PG.bo×PG.dE)}{cur:List PG.bo}{p:zdJ}{ps:List zdJ}{ss vs:List V}
theorem PZ.lT(h:PZ K bs r0 row R pl sc H0 H o cur p ps ss vs):∀a∈cC pl sc p ps ss,H a≠none:=fun a ha=>by
 rcases aL.mp ha with rfl |rfl |rfl |ha |ha
 ·rw[h.oO];simp
 ·rw[h.Ct];simp
 ·rw[h.hp];simp
 ·exact h.pa.lT.1 a ha
 ·exact h.pa.lT.2 a ha
theorem PZ.same(h:PZ K bs r0 row R pl sc H0 H o cur p ps ss vs)(s:aq H H1):PZ K bs r0 row R pl sc H0 H1 o cur p ps ss vs:=
 ⟨s _ _ h.oO,s _ _ h.Ct,s _ _ h.hp,h.nd,h.fx.up (.of s),h.pa.same s,h.rt,h.zk,h.len,h.sm.trans s,h.fr⟩
theorem PZ.more(h:PZ K bs r0 row R pl sc H0 H o cur p ps ss vs):PZ K bs r0 (row+1) R pl sc H0 H o cur p ps ss vs:=
 ⟨h.oO,h.Ct,h.hp,h.nd,h.fx,h.pa,h.rt,h.zk.more,h.len,h.sm,h.fr⟩
theorem AF:∀b:List PG.bo,b.length<=(PG.cI b).length
 |[]=>zaI _
 |s::r=>by
  have ih:=AF r;unfold PG.cI at ih ⊢;rw[zad] at ih ⊢;rw[PG.aE,zau,zai];have:0<(PG.fM s).length:=by cases s<;>simp[PG.fM]
  lia
theorem PZ.gc(h:PZ K bs r0 row R pl sc H0 H o cur p ps ss vs):(vs.length:Int)<=max 0 (row-r0):=by
 have h1:=PG.vi h.zk.rise h.zk.rows;have h2:=PG.vh o [] cur;rw[zbp] at h2;have h3:=congrArg zaR h2;rw[zau] at h3;have h4:=AF cur;have h5:=h.fx.B6.length;rw[zad] at h5;lia
theorem PZ.V0(h:PZ K bs r0 row R pl sc H0 H o cur p ps ss vs):ps.length=o.length/\ss.length=o.length+1:=h.pa.len
theorem Mr{D:zdJ->Prop}{a b c:zdJ}{x y z:HO}(ha:D a)(hb:D b)(hc:D c):a0 D H (upd (upd (upd H a x) b y) c z):=((a0.refl.put ha x).put hb y).put hc z
theorem PZ.add(h:PZ K bs r0 row R pl sc H0 H o cur p ps ss vs){st:PG.bo}{v:V}(f:Fix K (·∈cC pl sc p ps ss) H (eF st) v)(ow:HL bs st)(pn:Plain st)(hr:st.row=row+1):PZ K bs r0 (row+1) R pl sc H0 (upd H p (.lst (vs++[v]))) o (cur++[st]) p ps ss (vs++[v]):=by
 have nd:=h.nd;unfold cC at nd;rw[zam,zam,zam] at nd;obtain⟨n1,n2,n3,_⟩:=nd;have e1:pl≠p:=fun z=>n1 (by rw[z];simp);have e2:sc≠p:=fun z=>n2 (by rw[z];simp);have u:a0 (·∈cC pl sc p ps ss) H (upd H p (.lst (vs++[v]))):=a0.refl.put (aL.mpr (.inr (.inr (.inl rfl)))) _;obtain⟨rw1,rd⟩:=pn.rows;refine⟨by rw[aD e1];exact h.oO,by rw[aD e2];exact h.Ct,ai,h.nd,?_,h.pa.up u (fun q hq=>?_) (fun b hb=>?_),h.rt,h.zk.add ow (by rw[rw1,hr]) (by have:=h.len;lia),h.len,fun b x e=>?_,h.fr⟩
 ·rw[zaw];exact(h.fx.snoc f).up u
 ·exact aD fun z=>n3 (by rw[<- z];exact zak.mpr (.inl hq))
 ·exact aD fun z=>n3 (by rw[<- z];exact zak.mpr (.inr (gD.mpr hb)))
 ·rw[aD fun z=>by rw[z,h.fr p (aL.mpr (.inr (.inr (.inl rfl))))] at e;cases e];exact h.sm b x e
theorem PZ.RH(h:PZ K bs r0 row R pl sc H0 H o cur p ps ss vs){sg:W}{l r:PM.Tr}{vl vr:V}{b0 c:zdJ}(fl:Fix K (·∈cC pl sc b0 (p::ps) (.bI::ss)) H1 (ky l) vl)(fr:Fix K (·∈cC pl sc b0 (p::ps) (.bI::ss)) H1 (ky r) vr)(V5:sg∈PG.Mh)(ol:AE bs l)(or:AE bs r)(lt:o.length<=3)
 (s:aq H H1) (nb:H b0=none) (nc:H c=none) (hb:H1 b0=some (.lst [])) (hc:H1 c=some (.tup [.str "while",.int (row+1),.str (S sg),vl,vr,.ref b0])) :
 PZ K bs r0 (row+1) R pl sc H0 (upd (upd (upd H1 p (.lst (vs++[.ref c]))) pl (.lst ((p::ps).reverse.map V.ref++[.ref b0]))) sc (.lst (ss.reverse++[.bI]))) ((cur,.fK (row+1) sg l r)::o) [] b0 (p::ps) (.bI::ss) []:=by
 have Bs:b0 ∉ cC pl sc p ps ss:=fun z=>h.lT _ z nb;have TR:c≠b0:=fun z=>by rw[z,hb] at hc;cases hc
 have TU:c ∉ cC pl sc p ps ss:=fun z=>h.lT _ z nc;have mo:∀a,a∈cC pl sc b0 (p::ps) (.bI::ss)↔a∈cC pl sc p ps ss\/a=b0:=fun a=>by
  rw[aL,aL];simp only[zag,reduceCtorEq,false_or]
  constructor
  ·rintro (z |z |z |(z |z) |z)
   ·exact .inl (.inl z)
   ·exact .inl (.inr (.inl z))
   ·exact .inr z
   ·exact .inl (.inr (.inr (.inl z)))
   ·exact .inl (.inr (.inr (.inr (.inl z))))
   ·exact .inl (.inr (.inr (.inr (.inr z))))
  ·rintro ((z |z |z |z |z) |z)
   ·exact .inl z
   ·exact .inr (.inl z)
   ·exact .inr (.inr (.inr (.inl (.inl z))))
   ·exact .inr (.inr (.inr (.inl (.inr z))))
   ·exact .inr (.inr (.inr (.inr z)))
   ·exact .inr (.inr (.inl z))
 have gr:∀a,a∈cC pl sc b0 (p::ps) (.bI::ss)->a∈cC pl sc p ps ss\/H a=none:=fun a ha=>((mo a).mp ha).imp id fun z=>by rw[z];exact nb
 have nd:=h.nd;unfold cC at nd;rw[zam,zam,zam] at nd;obtain⟨n1,n2,n3,n4⟩:=nd;have e1:pl≠p:=fun z=>n1 (by rw[z];simp);have e2:sc≠p:=fun z=>n2 (by rw[z];simp);have e3:pl≠sc:=fun z=>n1 (by rw[z];simp);have mp:p∈cC pl sc p ps ss:=aL.mpr (.inr (.inr (.inl rfl)));have HN:pl∈cC pl sc p ps ss:=aL.mpr (.inl rfl);have HP:sc∈cC pl sc p ps ss:=aL.mpr (.inr (.inl rfl));have u:a0 (·∈cC pl sc b0 (p::ps) (.bI::ss)) H1 (upd (upd (upd H1 p (.lst (vs++[.ref c]))) pl (.lst ((p::ps).reverse.map V.ref++[.ref b0]))) sc (.lst (ss.reverse++[.bI]))):=Mr ((mo _).mpr (.inl mp)) ((mo _).mpr (.inl HN)) ((mo _).mpr (.inl HP));have qQ:b0≠p/\b0≠pl/\b0≠sc:=⟨fun z=>Bs (by rw[z];exact mp),fun z=>Bs (by rw[z];exact HN),fun z=>Bs (by rw[z];exact HP)⟩
 have keep:∀a,a≠p->a≠pl->a≠sc->(upd (upd (upd H1 p (.lst (vs++[.ref c]))) pl (.lst ((p::ps).reverse.map V.ref++[.ref b0]))) sc (.lst (ss.reverse++[.bI]))) a=H1 a:=fun a x y z=>by rw[aD z,aD y,aD x]
 have up1:a0 (·∈cC pl sc b0 (p::ps) (.bI::ss)) H H1:=.of s;refine⟨?_,?_,?_,?_,.nil,?_,h.rt,?_,by rw[zai];lia,?_,?_⟩
 ·rw[aD e3,ai,zbh (a:=b0),zaw];rfl
 ·rw[ai,zbh]
 ·rw[keep b0 qQ.1 qQ.2.1 qQ.2.2];exact hb
 ·have:cC pl sc b0 (p::ps) (.bI::ss)=pl::sc::b0::(p::(ps++se ss)):=rfl;rw[this,zam,zam,zam,zam];refine⟨fun z=>?_,fun z=>?_,fun z=>?_,n3,n4⟩
  ·rcases zag.mp z with z |z
   ·exact e3 z
   ·rcases zag.mp z with z |z
    ·exact qQ.2.1 z.symm
    ·exact n1 (zae _ z)
  ·rcases zag.mp z with z |z
   ·exact qQ.2.2 z.symm
   ·exact n2 z
  ·exact Bs (by unfold cC;exact zae _ (zae _ z))
 ·refine .fK (c:=c) (vs:=vs) ?_ ((h.fx.grow gr).up (up1.trans u)) (fun z=>((mo c).mp z).elim TU TR) ?_ (fl.up u) (fr.up u) (((h.pa.grow gr).same s).up u (fun q hq=>?_) fun b hb=>?_)
  ·rw[aD e2.symm,aD e1.symm,ai]
  ·exact u c _ (fun z=>((mo c).mp z).elim TU TR) hc
  ·have Bt:q∈ps++se ss:=zak.mpr (.inl hq);exact keep q (fun z=>n3 (by rw[<- z];exact Bt)) (fun z=>n1 (by rw[<- z];simp[hq])) (fun z=>n2 (by rw[<- z];simp[hq]))
  ·have Bt:b∈ps++se ss:=zak.mpr (.inr (gD.mpr hb));exact keep b (fun z=>n3 (by rw[<- z];exact Bt)) (fun z=>n1 (by rw[<- z];exact zae _ (zae _ Bt))) (fun z=>n2 (by rw[<- z];exact zae _ Bt))
 ·rw[PG.bV];obtain⟨d1,d2⟩:=PG.AD (.fK (row+1) sg l r) (fun _ _ _ _ _ z=>by cases z);exact h.zk.add ⟨V5,ol,or,trivial⟩ d2 (by rw[d1];lia)
 ·intro b x e;have hx:=s b x (h.sm b x e);have no:b ∉ cC pl sc p ps ss:=fun z=>by rw[h.fr b z] at e;cases e
  rw[keep b (fun z=>no (by rw[z];exact mp)) (fun z=>no (by rw[z];exact HN)) (fun z=>no (by rw[z];exact HP))];exact hx
 ·intro a ha;rcases(mo a).mp ha with ha |rfl
  ·exact h.fr a ha
  ·exact h.sm.free nb
theorem PZ.RI(h:PZ K bs r0 row R pl sc H0 H o cur p ps ss vs){sg:W}{l r:PM.Tr}{vl vr:V}{b0 b1 c:zdJ}(fl:Fix K (·∈cC pl sc b0 (p::ps) (.ref b1::ss)) H1 (ky l) vl)(fr:Fix K (·∈cC pl sc b0 (p::ps) (.ref b1::ss)) H1 (ky r) vr)(V5:sg∈PG.Mh)(ol:AE bs l)(or:AE bs r)(lt:o.length<=3)
 (s:aq H H1) (nb:H b0=none) (V6:H b1=none) (ne:b0≠b1) (nc:H c=none) (hb:H1 b0=some (.lst [])) (KN:H1 b1=some (.lst [])) (hc:H1 c=some (.tup [.str "if",.int (row+1),.str (S sg),vl,vr,.ref b0,.ref b1])) :
 PZ K bs r0 (row+1) R pl sc H0 (upd (upd (upd H1 p (.lst (vs++[.ref c]))) pl (.lst ((p::ps).reverse.map V.ref++[.ref b0]))) sc (.lst (ss.reverse++[.ref b1]))) ((cur,.if1 (row+1) sg l r)::o) [] b0 (p::ps) (.ref b1::ss) []:=by
 have Bs:b0 ∉ cC pl sc p ps ss:=fun z=>h.lT _ z nb;have AG:b1 ∉ cC pl sc p ps ss:=fun z=>h.lT _ z V6;have TR:c≠b0:=fun z=>by rw[z,hb] at hc;cases hc
 have V7:c≠b1:=fun z=>by rw[z,KN] at hc;cases hc
 have TU:c ∉ cC pl sc p ps ss:=fun z=>h.lT _ z nc;have mo:∀a,a∈cC pl sc b0 (p::ps) (.ref b1::ss)↔a∈cC pl sc p ps ss\/a=b0\/a=b1:=fun a=>by
  rw[aL,aL];simp only[zag,V.ref.injEq]
  constructor
  ·rintro (z |z |z |(z |z) |z |z)
   ·exact .inl (.inl z)
   ·exact .inl (.inr (.inl z))
   ·exact .inr (.inl z)
   ·exact .inl (.inr (.inr (.inl z)))
   ·exact .inl (.inr (.inr (.inr (.inl z))))
   ·exact .inr (.inr z)
   ·exact .inl (.inr (.inr (.inr (.inr z))))
  ·rintro ((z |z |z |z |z) |z |z)
   ·exact .inl z
   ·exact .inr (.inl z)
   ·exact .inr (.inr (.inr (.inl (.inl z))))
   ·exact .inr (.inr (.inr (.inl (.inr z))))
   ·exact .inr (.inr (.inr (.inr (.inr z))))
   ·exact .inr (.inr (.inl z))
   ·exact .inr (.inr (.inr (.inr (.inl z))))
 have gr:∀a,a∈cC pl sc b0 (p::ps) (.ref b1::ss)->a∈cC pl sc p ps ss\/H a=none:=fun a ha=>((mo a).mp ha).imp id fun z=>z.elim (fun z=>by rw[z];exact nb) fun z=>by rw[z];exact V6
 have nd:=h.nd;unfold cC at nd;rw[zam,zam,zam] at nd;obtain⟨n1,n2,n3,n4⟩:=nd;have e1:pl≠p:=fun z=>n1 (by rw[z];simp);have e2:sc≠p:=fun z=>n2 (by rw[z];simp);have e3:pl≠sc:=fun z=>n1 (by rw[z];simp);have mp:p∈cC pl sc p ps ss:=aL.mpr (.inr (.inr (.inl rfl)));have HN:pl∈cC pl sc p ps ss:=aL.mpr (.inl rfl);have HP:sc∈cC pl sc p ps ss:=aL.mpr (.inr (.inl rfl));have u:a0 (·∈cC pl sc b0 (p::ps) (.ref b1::ss)) H1 (upd (upd (upd H1 p (.lst (vs++[.ref c]))) pl (.lst ((p::ps).reverse.map V.ref++[.ref b0]))) sc (.lst (ss.reverse++[.ref b1]))):=Mr ((mo _).mpr (.inl mp)) ((mo _).mpr (.inl HN)) ((mo _).mpr (.inl HP));have qQ:∀b,b ∉ cC pl sc p ps ss->b≠p/\b≠pl/\b≠sc:=fun b Bs=>⟨fun z=>Bs (by rw[z];exact mp),fun z=>Bs (by rw[z];exact HN),fun z=>Bs (by rw[z];exact HP)⟩
 have keep:∀a,a≠p->a≠pl->a≠sc->(upd (upd (upd H1 p (.lst (vs++[.ref c]))) pl (.lst ((p::ps).reverse.map V.ref++[.ref b0]))) sc (.lst (ss.reverse++[.ref b1]))) a=H1 a:=fun a x y z=>by rw[aD z,aD y,aD x]
 have up1:a0 (·∈cC pl sc b0 (p::ps) (.ref b1::ss)) H H1:=.of s;have YA:c ∉ cC pl sc b0 (p::ps) (.ref b1::ss):=fun z=>((mo c).mp z).elim TU fun z=>z.elim TR V7;refine⟨?_,?_,?_,?_,.nil,?_,h.rt,?_,by rw[zai];lia,?_,?_⟩
 ·rw[aD e3,ai,zbh (a:=b0),zaw];rfl
 ·rw[ai,zbh]
 ·rw[keep b0 (qQ b0 Bs).1 (qQ b0 Bs).2.1 (qQ b0 Bs).2.2];exact hb
 ·have:cC pl sc b0 (p::ps) (.ref b1::ss)=pl::sc::b0::(p::(ps++(b1::se ss))):=rfl;rw[this,zam,zam,zam,zam];have m1:∀a,a∈ps++(b1::se ss)↔a=b1\/a∈ps++se ss:=fun a=>by
   simp only[zak,zag]
   constructor
   ·rintro (z |z |z)
    ·exact .inr (.inl z)
    ·exact .inl z
    ·exact .inr (.inr z)
   ·rintro (z |z |z)
    ·exact .inr (.inl z)
    ·exact .inl z
    ·exact .inr (.inr z)
  refine⟨fun z=>?_,fun z=>?_,fun z=>?_,fun z=>?_,?_⟩
  ·rcases zag.mp z with z |z
   ·exact e3 z
   ·rcases zag.mp z with z |z
    ·exact(qQ b0 Bs).2.1 z.symm
    ·rcases zag.mp z with z |z
     ·exact e1 z
     ·rcases(m1 _).mp z with z |z
      ·exact(qQ b1 AG).2.1 z.symm
      ·exact n1 (zae _ (zae _ z))
  ·rcases zag.mp z with z |z
   ·exact(qQ b0 Bs).2.2 z.symm
   ·rcases zag.mp z with z |z
    ·exact e2 z
    ·rcases(m1 _).mp z with z |z
     ·exact(qQ b1 AG).2.2 z.symm
     ·exact n2 (zae _ z)
  ·rcases zag.mp z with z |z
   ·exact(qQ b0 Bs).1 z
   ·rcases(m1 _).mp z with z |z
    ·exact ne z
    ·exact Bs (by unfold cC;exact zae _ (zae _ (zae _ z)))
  ·rcases(m1 _).mp z with z |z
   ·exact(qQ b1 AG).1 z.symm
   ·exact n3 z
  ·rw[zbF] at n4 ⊢;refine⟨n4.1,zam.mpr ⟨fun z=>AG (by unfold cC;simp[z]),n4.2.1⟩,fun a ha b hb e=>?_⟩;rcases zag.mp hb with z |z
   ·exact AG (by rw[<- z,<- e];unfold cC;simp[ha])
   ·exact n4.2.2 a ha b z e
 ·refine .if1 (c:=c) (vs:=vs) ?_ ((h.fx.grow gr).up (up1.trans u)) YA ?_ (fl.up u) (fr.up u) ?_ (((h.pa.grow gr).same s).up u (fun q hq=>?_) fun b hb=>?_)
  ·rw[aD e2.symm,aD e1.symm,ai]
  ·exact u c _ YA hc
  ·rw[keep b1 (qQ b1 AG).1 (qQ b1 AG).2.1 (qQ b1 AG).2.2];exact KN
  ·have Bt:q∈ps++se ss:=zak.mpr (.inl hq);exact keep q (fun z=>n3 (by rw[<- z];exact Bt)) (fun z=>n1 (by rw[<- z];simp[hq])) (fun z=>n2 (by rw[<- z];simp[hq]))
  ·have Bt:b∈ps++se ss:=zak.mpr (.inr (gD.mpr hb));exact keep b (fun z=>n3 (by rw[<- z];exact Bt)) (fun z=>n1 (by rw[<- z];exact zae _ (zae _ Bt))) (fun z=>n2 (by rw[<- z];exact zae _ Bt))
 ·rw[PG.bV];obtain⟨d1,d2⟩:=PG.AD (.if1 (row+1) sg l r) (fun _ _ _ _ _ z=>by cases z);exact h.zk.add ⟨V5,ol,or,trivial,trivial⟩ d2 (by rw[d1];lia)
 ·intro b x e;have hx:=s b x (h.sm b x e);have no:b ∉ cC pl sc p ps ss:=fun z=>by rw[h.fr b z] at e;cases e
  rw[keep b (fun z=>no (by rw[z];exact mp)) (fun z=>no (by rw[z];exact HN)) (fun z=>no (by rw[z];exact HP))];exact hx
 ·intro a ha;rcases(mo a).mp ha with ha |rfl |rfl
  ·exact h.fr a ha
  ·exact h.sm.free nb
  ·exact h.sm.free V6
theorem Ms{pl sc p b0 a:zdJ}{ps:List zdJ}{ss:List V}(h:a∈cC pl sc b0 (p::ps) (.bI::ss)):a∈cC pl sc p ps ss\/a=b0:=by
 rcases aL.mp h with z |z |z |z |z
 ·exact .inl (aL.mpr (.inl z))
 ·exact .inl (aL.mpr (.inr (.inl z)))
 ·exact .inr z
 ·rcases zag.mp z with z |z
  ·exact .inl (aL.mpr (.inr (.inr (.inl z))))
  ·exact .inl (aL.mpr (.inr (.inr (.inr (.inl z)))))
 ·rcases zag.mp z with z |z
  ·cases z
  ·exact .inl (aL.mpr (.inr (.inr (.inr (.inr z)))))
theorem Mt{pl sc p b0 b1 a:zdJ}{ps:List zdJ}{ss:List V}(h:a∈cC pl sc b0 (p::ps) (.ref b1::ss)):a∈cC pl sc p ps ss\/a=b0\/a=b1:=by
 rcases aL.mp h with z |z |z |z |z
 ·exact .inl (aL.mpr (.inl z))
 ·exact .inl (aL.mpr (.inr (.inl z)))
 ·exact .inr (.inl z)
 ·rcases zag.mp z with z |z
  ·exact .inl (aL.mpr (.inr (.inr (.inl z))))
  ·exact .inl (aL.mpr (.inr (.inr (.inr (.inl z)))))
 ·rcases zag.mp z with z |z
  ·cases z;exact .inr (.inr rfl)
  ·exact .inl (aL.mpr (.inr (.inr (.inr (.inr z)))))
theorem PZ.one(hR:H0 R=none)(oO:H0 pl=none)(Ct:H0 sc=none)(n1:pl≠sc)(n2:pl≠R)(n3:sc≠R)(s:aq H0 H)(e1:H R=some (.lst []))(e2:H pl=some (.lst [.ref R]))(e3:H sc=some (.lst [.bI])):PZ K bs r0 r0 R pl sc H0 H [] [] R [] [.bI] []:=
 ⟨e2,e3,e1,by unfold cC;simp[se,n1,n2,n3],.nil,.root,rfl,PG.JN.nil,by simp,s,fun a ha=>by
  rcases aL.mp ha with rfl |rfl |rfl |h |h
  ·exact oO
  ·exact Ct
  ·exact hR
  ·cases h
  ·simp at h⟩
theorem PZ.close(h:PZ K bs r0 row R pl sc H0 H o cur p ps ss vs):Rep K H (.lst ((PG.bV o cur).map eF)) (.ref R):=by
 rw[<- h.rt];exact h.pa.close h.hp h.fx.B6
end
theorem vn{tt:TT}{a b:TS}{D:Ends}{σ:St}{H:Hp}(h:∀U1 U2:St->Hp->Prop,(∀σ' H',U1 σ' H'↔a D σ' H')->(∀σ' H',U2 σ' H'↔b D σ' H')->tt σ H fun c H1=>if c=true then U1 σ H1 else U2 σ H1):vZ tt a b D σ H:=h (a D) (b D) (fun _ _=>Iff.rfl) fun _ _=>Iff.rfl
theorem rev_last(p:zdJ)(ps:List zdJ):(p::ps).reverse.map V.ref=ps.reverse.map V.ref++[.ref p]:=by rw[zbh,zaw];rfl
theorem AH(xs:List V)(a v:V):(xs++[a]).set ((xs++[a]).length-1) v=xs++[v]:=by
 rw[zau,zbL,Nat.add_sub_cancel,List.set_append_right _ _ (zaj _),zbT];rfl
theorem HQ{n:Nat}(h:0<n):Gp n (-1)=some (n-1):=by
 unfold Gp;rw[if_neg (by decide),if_pos (by lia)];have:(-1+(n:Int)).toNat=n-1:=by lia
 rw[this]
theorem AI{A B:Hp}(s:aq A B){k:zdJ}{o:HO}:aq (upd A k o) (upd B k o):=fun b x e=>by
 by_cases z:b=k
 ·rw[z,ai] at e ⊢;exact e
 ·rw[aD z] at e ⊢;exact s b x e
open PG
open PM (W Tr)
section
variable{α β:Type}
def bg (m:List (Int×α)) (k:Int):Option α:=(m.find? fun e=>decide (e.1=k)).map (·.2)
def eE (m:List (Int×α)) (k:Int) (v:α):List (Int×α):=if (m.any fun e=>decide (e.1=k))=true then m.map (fun e=>if e.1=k then (e.1,v) else e) else m++[(k,v)]
theorem bW{p:Int×α}{r:List (Int×α)}{k:Int}(e:p.1=k):bg (p::r) k=some p.2:=by simp[bg,zbo,e]
theorem cu{p:Int×α}{r:List (Int×α)}{k:Int}(e:¬p.1=k):bg (p::r) k=bg r k:=by simp[bg,zbo,e]
theorem lh(k:Int):∀m:List (Int×α),(m.any fun e=>decide (e.1=k))=(bg m k).isSome
 |[]=>rfl
 |p::r=>by
  rw[zbH];by_cases e:p.1=k
  ·simp only[bW e,decide_eq_true e,Bool.true_or,Option.isSome_some]
  ·rw[cu e,decide_eq_false e,Bool.false_or];exact lh k r
theorem mH{m:List (Int×α)}{k:Int}(v:α)(h:bg m k=none):eE m k v=m++[(k,v)]:=by
 unfold eE;rw[lh,h];exact if_neg (by simp)
theorem jE{m:List (Int×α)}{k:Int}{u:α}(v:α)(h:bg m k=some u):eE m k v=m.map fun e=>if e.1=k then (e.1,v) else e:=by
 unfold eE;rw[lh,h];exact if_pos rfl
theorem AJ(k j:Int)(y:α):∀m:List (Int×α),bg (m.map fun e=>if e.1=k then (e.1,y) else e) j=(bg m j).map fun x=>if j=k then y else x
 |[]=>rfl
 |p::r=>by
  have ih:=AJ k j y r;rw[zaq];by_cases h:p.1=k
  ·rw[if_pos h];by_cases e:p.1=j
   ·rw[bW (p:=(p.1,y)) e,bW e,zaV,if_pos (e.symm.trans h)]
   ·rw[cu (p:=(p.1,y)) e,cu e,ih]
  ·rw[if_neg h];by_cases e:p.1=j
   ·rw[bW (p:=p) e,bW e,zaV,if_neg (fun z=>h (e.trans z))]
   ·rw[cu (p:=p) e,cu e,ih]
theorem AK(k j:Int)(y:α):∀m:List (Int×α),bg m k=none->bg (m++[(k,y)]) j=if j=k then some y else bg m j
 |[],_=>by
  by_cases e:k=j
  ·rw[if_pos e.symm];exact bW (p:=(k,y)) e
  ·rw[if_neg (fun z=>e z.symm)];exact cu (p:=(k,y)) e
 |p::r,hn=>by
  rw[zbt];have hk:¬p.1=k:=fun z=>by rw[bW z] at hn;cases hn
  rw[cu hk] at hn;have ih:=AK k j y r hn;by_cases e:p.1=j
  ·rw[bW e,bW e,if_neg (fun z=>hk (e.trans z))]
  ·rw[cu e,cu e,ih]
theorem jZ(m:List (Int×α))(k j:Int)(y:α):bg (eE m k y) j=if j=k then some y else bg m j:=by
 cases q:bg m k with
 |none=>rw[mH y q];exact AK k j y m q
 |some u=>
  rw[jE y q,AJ];by_cases e:j=k
  ·rw[if_pos e,e,q,zaV,if_pos rfl]
  ·rw[if_neg e];cases bg m j with
   |none=>rfl
   |some x=>rw[zaV,if_neg e]
theorem get_mem{m:List (Int×α)}{k:Int}{u:α}(h:bg m k=some u):(k,u)∈m:=by
 unfold bg at h;obtain⟨e,he,rfl⟩:=zaD.mp h;have h1:=zcd he;have h2:e.1=k:=by have:=zde he;simpa using this
 rw[<- h2];exact h1
theorem nG:∀ {m:List (Int×α)} {k:Int} {u:α},(m.map (·.1)).Nodup->(k,u)∈m->bg m k=some u
 |p::r,k,u,nd,h=>by
  rw[zaq,zam] at nd;rcases zag.mp h with rfl |h
  ·exact bW rfl
  ·rw[cu fun z=>nd.1 (zaJ.mpr ⟨_,h,z.symm⟩)];exact nG nd.2 h
theorem yt{m:List (Int×α)}{k:Int}{u:α}(v:α)(h:bg m k=some u):(eE m k v).map (·.1)=m.map (·.1):=by
 rw[jE v h,za3];refine zbq fun e _=>?_;simp only[Function.comp];split<;>rfl
theorem get_none{m:List (Int×α)}{k:Int}(h:bg m k=none):k ∉ m.map (·.1):=fun z=>by
 obtain⟨e,he,rfl⟩:=zaJ.mp z;have:=lh e.1 m;rw[h] at this;simp at this;exact this e.1 e.2 he rfl
theorem HR{m:List (Int×α)}{k:Int}(v:α)(nd:(m.map (·.1)).Nodup):((eE m k v).map (·.1)).Nodup:=by
 cases q:bg m k with
 |some u=>rw[yt v q];exact nd
 |none=>
  rw[mH v q,zaw,zbF];refine⟨nd,by simp,fun a ha b hb z=>get_none q ?_⟩;have e2:b=k:=by simpa using hb
  rw[z,e2] at ha;exact ha
theorem DJ{m:List (Int×α)}{k:Int}{v:α}{e:Int×α}(h:e∈eE m k v):e∈m\/e=(k,v):=by
 unfold eE at h;split at h
 ·obtain⟨x,hx,rfl⟩:=zaJ.mp h;by_cases z:x.1=k
  ·rw[if_pos z,z];exact .inr rfl
  ·rw[if_neg z];exact .inl hx
 ·rcases zak.mp h with h |h
  ·exact .inl h
  ·exact .inr (zan.mp h)
def ig (f:α->Nat) (m:List (Int×α)):Nat:=(m.map fun e=>f e.2).sum
theorem DK{f:α->Nat}{m:List (Int×α)}{k:Int}(v:α)(h:bg m k=none):ig f (eE m k v)=ig f m+f v:=by
 rw[mH v h];unfold ig;rw[zaw,List.sum_append];simp
theorem yu{f:α->Nat}:∀ {m:List (Int×α)} {k:Int} {u:α} (v:α),(m.map (·.1)).Nodup->bg m k=some u->ig f (eE m k v)+f u=ig f m+f v
 |[],k,u,v,_,h=>by cases h
 |p::r,k,u,v,nd,h=>by
  rw[jE v h];rw[zaq,zam] at nd;by_cases e:p.1=k
  ·rw[bW e] at h;cases h;have er:(r.map fun e=>if e.1=k then (e.1,v) else e)=r:=by
    refine(zbq fun x hx=>?_).trans (zcG r);rw[if_neg fun z=>nd.1 (zaJ.mpr ⟨x,hx,by rw[z,e]⟩)]
   rw[zaq,if_pos e,er];unfold ig;rw[zaq,zaq,zbN,zbN];simp only;lia
  ·rw[cu e] at h;have ih:=yu (f:=f) v nd.2 h;rw[jE v h] at ih;rw[zaq,if_neg e];unfold ig at ih ⊢;rw[zaq,zaq,zbN,zbN];lia
theorem HS{f:α->Nat}{B:Nat}:∀ {m:List (Int×α)},(∀e∈m,f e.2<=B)->ig f m<=m.length*B
 |[],_=>by simp[ig]
 |p::r,h=>by
  have ih:=HS (f:=f) (B:=B) (m:=r) fun e he=>h e (zae _ he);have:=h p (zaB ..);unfold ig at ih ⊢;rw[zaq,zbN,zai,Nat.succ_mul];lia
theorem Paired.eE{R:Int×α->Int×β->Prop}(hR:∀a b,R a b->a.1=b.1){m:List (Int×α)}{n:List (Int×β)}{k:Int}{v:α}{u:β}(h:Paired R m n)(hv:R (k,v) (k,u)):Paired R (L2.eE m k v) (L2.eE n k u):=by
 have eg:(bg m k).isSome=(bg n k).isSome:=by
  rw[<- lh,<- lh]
  induction h with
  |nil=>rfl
  |cons a _ ih=>rw[zbH,zbH,ih,hR _ _ a]
 have mp:Paired R (m.map fun e=>if e.1=k then (e.1,v) else e) (n.map fun e=>if e.1=k then (e.1,u) else e):=by
  clear eg
  induction h with
  |nil=>exact .nil
  |cons a _ ih=>
   rename_i x y _ _ _;rw[zaq,zaq];refine .cons ?_ ih;by_cases e:x.1=k
   ·rw[if_pos e,if_pos (by rw[<- hR _ _ a];exact e),e,<- hR _ _ a,e];exact hv
   ·rw[if_neg e,if_neg (by rw[<- hR _ _ a];exact e)];exact a
 cases q:bg m k with
 |none=>
  have q2:bg n k=none:=by cases z:bg n k with
   |none=>rfl
   |some _=>rw[q,z] at eg;cases eg
  rw[mH v q,mH u q2];exact L2.Paired.app h (.cons hv .nil)
 |some x=>
  obtain⟨y,q2⟩:∃y,bg n k=some y:=by cases z:bg n k with
   |some y=>exact⟨y,rfl⟩
   |none=>rw[q,z] at eg;cases eg
  rw[jE v q,jE u q2];exact mp
theorem Paired.bg{R:Int×α->Int×β->Prop}(hR:∀a b,R a b->a.1=b.1){m:List (Int×α)}{n:List (Int×β)}(k:Int)(h:Paired R m n):(L2.bg m k=none/\L2.bg n k=none)\/∃v u,L2.bg m k=some v/\L2.bg n k=some u/\R (k,v) (k,u):=by
 induction h with
 |nil=>exact .inl ⟨rfl,rfl⟩
 |cons a _ ih=>
  rename_i x y _ _ _;have e1:=hR _ _ a;by_cases e:x.1=k
  ·refine .inr ⟨x.2,y.2,bW e,bW (by rw[<- e1];exact e),?_⟩;have e2:y.1=k:=by rw[<- e1];exact e
   have h1:(k,x.2)=x:=Prod.ext e.symm rfl;have h2:(k,y.2)=y:=Prod.ext e2.symm rfl;rw[h1,h2];exact a
  ·rw[cu e,cu (by rw[<- e1];exact e)];exact ih
end
def dQ (a b:List Rg):List Rg:=(a.zip b).map fun z=>(min z.1.1 z.2.1,max z.1.2 z.2.2)
def Sub (a b:List Rg):Prop:=a.length=b.length/\∀(i:Nat) (x y:Rg),a[i]?=some x->b[i]?=some y->y.1<=x.1/\x.2<=y.2
theorem Sub.refl(a:List Rg):Sub a a:=⟨rfl,fun i x y e1 e2=>by rw[e1] at e2;cases e2;exact⟨za7 _,za7 _⟩⟩
theorem Sub.trans{a b c:List Rg}(h:Sub a b)(k:Sub b c):Sub a c:=⟨h.1.trans k.1,fun i x z e1 e3=>by
 have hi:i<b.length:=by have:=(zah.mp e1).1;rw[<- h.1];exact this
 have h1:=h.2 i x _ e1 (zaa hi);have h2:=k.2 i _ z (zaa hi) e3;lia⟩
theorem span_len{a b:List Rg}(h:a.length=b.length):(dQ a b).length=a.length:=by unfold dQ;rw[zad,zbW];lia
theorem qf{a b:List Rg}{i:Nat}{z:Rg}(e:(dQ a b)[i]?=some z):∃x y,a[i]?=some x/\b[i]?=some y/\z=(min x.1 y.1,max x.2 y.2):=by
 unfold dQ at e;rw[zal] at e;obtain⟨q,hq,rfl⟩:=zaD.mp e;obtain⟨h1,h2⟩:=zbO.mp hq;exact⟨q.1,q.2,h1,h2,rfl⟩
theorem Cu{a b:List Rg}(h:a.length=b.length):Sub a (dQ a b):=⟨(span_len h).symm,fun i x z e1 e2=>by
 obtain⟨x',y',h1,h2,rfl⟩:=qf e2;rw[e1] at h1;cases h1;simp only;lia⟩
theorem HU{a b:List Rg}(h:a.length=b.length):Sub b (dQ a b):=⟨by rw[span_len h,h],fun i y z e1 e2=>by
 obtain⟨x',y',h1,h2,rfl⟩:=qf e2;rw[e1] at h2;cases h2;simp only;lia⟩
theorem DL{bs:List cE}{a b:List Rg}(ha:fE bs a)(hb:fE bs b):fE bs (dQ a b):=by
 have l:a.length=b.length:=ha.bd.1.trans hb.bd.1.symm;refine⟨⟨by rw[span_len l,ha.bd.1],fun i r bx e1 e2=>?_⟩,fun r hr=>?_⟩
 ·obtain⟨x,y,h1,h2,rfl⟩:=qf e1;have:=ha.bd.2 i x bx h1 e2;have:=hb.bd.2 i y bx h2 e2;unfold zx at *;simp only;lia
 ·obtain⟨i,hi⟩:=zcH hr;obtain⟨x,y,h1,h2,rfl⟩:=qf hi;have:=ha.le x (zav h1);simp only;lia
def vT (rs:List Rg):Nat:=(rs.map fun r=>(r.2-r.1).toNat).sum
theorem Cv:∀ {a b:List Rg},Sub a b->(∀r∈a,r.1<=r.2)->(∀r∈b,r.1<=r.2)->vT a<=vT b/\(a≠b->vT a<vT b)
 |[],[],_,_,_=>⟨zaj _,fun z=>absurd rfl z⟩
 |[],_::_,h,_,_=>by have:=h.1;simp at this
 |_::_,[],h,_,_=>by have:=h.1;simp at this
 |x::a,y::b,h,ha,hb=>by
  have ih:=Cv (a:=a) (b:=b) ⟨by have:=h.1;simpa using this,fun i p q e1 e2=>h.2 (i+1) p q (by simpa using e1) (by simpa using e2)⟩ (fun r hr=>ha r (zae _ hr)) (fun r hr=>hb r (zae _ hr));have h0:=h.2 0 x y rfl rfl;have hx:=ha x (zaB ..);have hy:=hb y (zaB ..);unfold vT at ih ⊢;rw[zaq,zaq,zbN,zbN];refine⟨by lia,fun ne=>?_⟩;by_cases e:a=b
  ·have:x≠y:=fun z=>ne (by rw[z,e]);have e2:¬(x.1=y.1/\x.2=y.2):=fun z=>this (Prod.ext z.1 z.2);lia
  ·have:=ih.2 e;lia
theorem HV{B:Nat}:∀ {rs:List Rg},(∀r∈rs,(r.2-r.1).toNat<=B)->vT rs<=rs.length*B
 |[],_=>by simp[vT]
 |x::r,h=>by
  have ih:=HV (rs:=r) fun e he=>h e (zae _ he);have:=h x (zaB ..);unfold vT at ih ⊢;rw[zaq,zbN,zai,Nat.succ_mul];lia
def Mu (pr:Prog) (m:List (Int×List Rg)) (r:Int) (rs:List Rg):Prop:=∀(i:Nat) (hi:i<(aE pr.body).length) (hf:i<(aK pr.body 0).length),(aE pr.body)[i].row=r->∀q∈dD pr.ay rs (aK pr.body 0)[i].2.2 (aE pr.body)[i],∃u,bg m q.1=some u/\Sub q.2 u
def Bu (pr:Prog) (r:Int):Prop:=r=0\/∃s∈aE pr.body,s.row=r
structure LM(pr:Prog)(m:List (Int×List Rg))(w:List Int):Prop where
 nd:(m.map (·.1)).Nodup
 mf:∀e∈m,fE pr.ay e.2/\Bu pr e.1
 first:∃u,bg m (aB pr.body 0)=some u/\Sub (one (pr.ay.map (·.first))) u
 wait:∀r∈w,∃u,bg m r=some u
 many:w.length<=ig (fun rs=>1+vT rs) m
structure LI(pr:Prog)(m:List (Int×List Rg))(w:List Int):Prop where
 lm:LM pr m w
 sS:∀r u,bg m r=some u->r∈w\/Mu pr m r u
structure LJ(pr:Prog)(r:Int)(rs:List Rg)(done:List (Int×List Rg))(m:List (Int×List Rg))(w:List Int):Prop where
 lm:LM pr m w
 sS:∀r' u,r'≠r->bg m r'=some u->r'∈w\/Mu pr m r' u
 own:r∈w\/bg m r=some rs
 V8:∀q∈done,∃u,bg m q.1=some u/\Sub q.2 u
theorem Mu.grow{pr:Prog}{m m':List (Int×List Rg)}{r:Int}{rs:List Rg}(h:Mu pr m r rs)(g:∀k u,bg m k=some u->∃u',bg m' k=some u'/\Sub u u'):Mu pr m' r rs:=fun i hi hf e q hq=>by
 obtain⟨u,h1,h2⟩:=h i hi hf e q hq;obtain⟨u',h3,h4⟩:=g _ _ h1;exact⟨u',h3,h2.trans h4⟩
theorem LJ.put{pr:Prog}{r:Int}{rs:List Rg}{done m:List (Int×List Rg)}{w:List Int}(h:LJ pr r rs done m w){q:Int×List Rg}{v:List Rg}(hv:fE pr.ay v)(hk:Bu pr q.1)(hq:Sub q.2 v)(ho:∀u,bg m q.1=some u->Sub u v/\u≠v) :
 LJ pr r rs (done++[q]) (eE m q.1 v) (w++[q.1])/\ig (fun rs=>1+vT rs) m<ig (fun rs=>1+vT rs) (eE m q.1 v):=by
 have g:∀k u,bg m k=some u->∃u',bg (eE m q.1 v) k=some u'/\Sub u u':=fun k u e=>by
  rw[jZ];by_cases z:k=q.1
  ·rw[if_pos z];rw[z] at e;exact⟨v,rfl,(ho u e).1⟩
  ·rw[if_neg z];exact⟨u,e,Sub.refl u⟩
 have lt:ig (fun rs=>1+vT rs) m<ig (fun rs=>1+vT rs) (eE m q.1 v):=by
  cases e:bg m q.1 with
  |none=>rw[DK v e];lia
  |some u=>
   have h1:=yu (f:=fun rs=>1+vT rs) v h.lm.nd e;have h2:=(Cv (ho u e).1 (h.lm.mf _ (get_mem e)).1.le hv.le).2 (ho u e).2;lia
 refine⟨⟨⟨HR v h.lm.nd,fun e he=>?_,?_,fun x hx=>?_,?_⟩,fun r' u ne e=>?_,?_,fun x hx=>?_⟩,lt⟩
 ·rcases DJ he with he |rfl
  ·exact h.lm.mf e he
  ·exact⟨hv,hk⟩
 ·obtain⟨u,h1,h2⟩:=h.lm.first;obtain⟨u',h3,h4⟩:=g _ _ h1;exact⟨u',h3,h2.trans h4⟩
 ·rcases zak.mp hx with hx |hx
  ·obtain⟨u,hu⟩:=h.lm.wait x hx;obtain⟨u',h3,_⟩:=g _ _ hu;exact⟨u',h3⟩
  ·rw[zan.mp hx,jZ,if_pos rfl];exact⟨v,rfl⟩
 ·have:=h.lm.many;rw[zau,zbL];lia
 ·rw[jZ] at e;by_cases z:r'=q.1
  ·exact .inl (zak.mpr (.inr (by rw[z];simp)))
  ·rw[if_neg z] at e;exact(h.sS r' u ne e).imp (fun x=>zak.mpr (.inl x)) fun c=>c.grow g
 ·by_cases z:r=q.1
  ·exact .inl (zak.mpr (.inr (by rw[z];simp)))
  ·rw[jZ,if_neg z];exact h.own.imp (fun x=>zak.mpr (.inl x)) fun x=>x
 ·rcases zak.mp hx with hx |hx
  ·obtain⟨u,h1,h2⟩:=h.V8 x hx;obtain⟨u',h3,h4⟩:=g _ _ h1;exact⟨u',h3,h2.trans h4⟩
  ·rw[zan.mp hx,jZ,if_pos rfl];exact⟨v,rfl,hq⟩
theorem LJ.skip{pr:Prog}{r:Int}{rs:List Rg}{done m:List (Int×List Rg)}{w:List Int}(h:LJ pr r rs done m w){q:Int×List Rg}{u:List Rg}(e:bg m q.1=some u)(s:Sub q.2 u):LJ pr r rs (done++[q]) m w:=
 ⟨h.lm,h.sS,h.own,fun x hx=>by
  rcases zak.mp hx with hx |hx
  ·exact h.V8 x hx
  ·rw[zan.mp hx];exact⟨u,e,s⟩⟩
theorem LI.pop{pr:Prog}{m:List (Int×List Rg)}{w:List Int}{r:Int}{rs:List Rg}(h:LI pr m (w++[r]))(e:bg m r=some rs):LJ pr r rs [] m w:=
 ⟨⟨h.lm.nd,h.lm.mf,h.lm.first,fun x hx=>h.lm.wait x (zak.mpr (.inl hx)),by have:=h.lm.many;rw[zau] at this;lia⟩,
  fun r' u ne e'=>(h.sS r' u e').imp (fun z=>(zak.mp z).elim id fun z=>absurd (zan.mp z) ne) id,.inr e,fun q hq=>by cases hq⟩
theorem LJ.done{pr:Prog}{m:List (Int×List Rg)}{w:List Int}{r:Int}{rs:List Rg}{dI:List (Int×List Rg)}(h:LJ pr r rs dI m w)(hw:∀(i:Nat) (hi:i<(aE pr.body).length) (hf:i<(aK pr.body 0).length),(aE pr.body)[i].row=r->dD pr.ay rs (aK pr.body 0)[i].2.2 (aE pr.body)[i]=dI):LI pr m w:=
 ⟨h.lm,fun r' u e=>by
  by_cases z:r'=r
  ·rcases h.own with o |o
   ·exact .inl (by rw[z];exact o)
   ·rw[z,o] at e;cases e;refine .inr fun i hi hf er q hq=>?_;rw[z] at er;rw[hw i hi hf er] at hq;exact h.V8 q hq
  ·exact h.sS r' u z e⟩
theorem kE{bs:List cE}(sz:∀b∈bs,2<=b.size/\b.size<=10/\0<=b.first/\b.first<b.size):fE bs (one (bs.map (·.first))):=by
 refine⟨⟨by unfold one;rw[zad,zad],fun i r b e1 e2=>?_⟩,fun r hr=>?_⟩
 ·unfold one at e1;rw[zal,zal,e2] at e1;cases e1;have:=sz b (zav e2);unfold zx;simp only;lia
 ·unfold one at hr;obtain⟨v,_,rfl⟩:=zaJ.mp hr;exact za7 _
theorem LI.one{pr:Prog}(sz:∀b∈pr.ay,2<=b.size/\b.size<=10/\0<=b.first/\b.first<b.size)(hk:Bu pr (aB pr.body 0)):LI pr [(aB pr.body 0,L2.one (pr.ay.map (·.first)))] [aB pr.body 0]:=
 ⟨⟨by simp,fun e he=>by rw[zan.mp he];exact⟨kE sz,hk⟩,⟨_,bW rfl,Sub.refl _⟩,fun r hr=>⟨_,bW (zan.mp hr).symm⟩,by simp[ig]⟩,fun r u e=>by
  by_cases z:aB pr.body 0=r
  ·exact .inl (by rw[z];simp)
  ·rw[cu z] at e;cases e⟩
theorem LM.gc{pr:Prog}{m:List (Int×List Rg)}{w:List Int}(h:LM pr m w)(gc:pr.ay.length<=4)(sz:∀b∈pr.ay,2<=b.size/\b.size<=10/\0<=b.first/\b.first<b.size):m.length<=(aE pr.body).length+1/\ig (fun rs=>1+vT rs) m<=((aE pr.body).length+1)*37:=by
 have l:m.length<=(aE pr.body).length+1:=by
  have:=qX (m.map (·.1)) (0::(aE pr.body).map (·.row)) h.nd fun x hx=>by
   obtain⟨e,he,rfl⟩:=zaJ.mp hx;rcases(h.mf e he).2 with z |⟨s,hs,e2⟩
   ·rw[z];simp
   ·exact zae _ (zaJ.mpr ⟨s,hs,e2⟩)
  simpa using this
 refine⟨l,zax (HS (B:=37) fun e he=>?_) (zcC _ l)⟩;have hr:=(h.mf e he).1;have:=HV (B:=9) (rs:=e.2) fun r xu=>by
  obtain⟨i,hi⟩:=zcH xu;have jR:i<pr.ay.length:=by have:=(zah.mp hi).1;rw[hr.bd.1] at this;exact this
  have h1:=hr.bd.2 i r _ hi (zaa jR);have h2:=sz _ (zao jR);unfold zx at h1;lia
 have l2:e.2.length=pr.ay.length:=hr.bd.1;have:e.2.length*9<=4*9:=zcC _ (by lia);lia
end L2
namespace L2
open PySem PyProof.Rows
abbrev Zs:=Int×Int
def PQ (n:Int):Int:=((n+1)*48271%2147483647)*((n+1)*48271%2147483647)%2147483629
def tk (z:Zs) (m:Int):Int×Zs:=if z.2=1 then (PQ z.1*69621%2147483587/8%m,(PQ z.1,z.2)) else (z.1%m,(z.1/m,z.2))
def Mv (ns:List Int) (k:Nat):Zs:=(ns.getD k 0+1009*k*(if ns.getD k 0<10 ^ 18 then 1 else 0),if ns.getD k 0<10 ^ 18 then 1 else 0)
def qZ (H:Hp) (s:zdJ) (z:Zs):Prop:=H s=some (.lst [.int z.1,.int z.2])
section
variable{H H':Hp}{s p:zdJ}{z:Zs}
theorem qZ.same(h:qZ H s z)(e:aq H H'):qZ H' s z:=e _ _ h
theorem qZ.ne(h:qZ H s z)(hp:H p=none):p≠s:=fun e=>by rw[e,show H s=_ from h] at hp;cases hp
theorem qZ.new(h:qZ H s z)(hp:H p=none)(o:HO):qZ (upd H p o) s z:=h.same (aq.new hp o)
theorem qZ.nn(h:qZ H s z):H s≠none:=by rw[show H s=_ from h];simp
end
def PR (bs:List PG.cE) (x:Int):W:=(PG.pick ⟨[],0,0⟩ bs x).name
def RJ (x:Int):W:=if x=0 then [43] else if x=1 then [45] else [42]
def V9 (x:Int):W:=if x=0 then [45] else [43]
def Mw (x:Int):W:=if x=0 then [60] else [61]
def Cy (z:Zs):PM.Tr×Zs:=
 (.num (if (tk (tk (tk z 4).2 12).2 2).1=0 then (tk z 4).1 else (tk (tk z 4).2 12).1),(tk (tk (tk z 4).2 12).2 2).2)
def bK (bs:List PG.cE) (z:Zs):PM.Tr×Zs:=
 if bs=[] then Cy z else if 0<(tk z 3).1 then (.box (PR bs (tk (tk z 3).2 bs.length).1),(tk (tk z 3).2 bs.length).2) else Cy (tk z 3).2
theorem K8{z z1 z2 z3:Zs}{a b c:Int}(h1:tk z 4=(a,z1))(h2:tk z1 12=(b,z2))(h3:tk z2 2=(c,z3)):Cy z=(.num (if c=0 then a else b),z3):=by unfold Cy;rw[h1,h2,h3]
section
variable{bs:List PG.cE}{z z1 z2 z3 z4 z5 z6 z7 z8:Zs}{x x1 x3 x6 x7:Int}{t t2 t4 t8:PM.Tr}
theorem Fj(h:bs=[]):bK bs z=Cy z:=by unfold bK;rw[if_pos h]
theorem Fl(h:bs≠[])(h1:tk z 3=(x,z1))(h2:¬0<x):bK bs z=Cy z1:=by unfold bK;rw[if_neg h,h1,if_neg h2]
theorem Fm(h:bs≠[])(h1:tk z 3=(x,z1))(h2:0<x)(h3:tk z1 bs.length=(x3,z3)):bK bs z=(.box (PR bs x3),z3):=by unfold bK;rw[if_neg h,h1,if_pos h2,h3]
def eD (bs:List PG.cE) (z:Zs):PM.Tr×Zs:=
 if (tk (bK bs (tk z 3).2).2 2).1=0 then ((bK bs (tk z 3).2).1,(tk (bK bs (tk z 3).2).2 2).2) else
 if 0<(tk (bK bs (tk (bK bs (tk z 3).2).2 2).2).2 3).1 then (.bin (RJ (tk z 3).1) (bK bs (tk z 3).2).1 (bK bs (tk (bK bs (tk z 3).2).2 2).2).1,(tk (bK bs (tk (bK bs (tk z 3).2).2 2).2).2 3).2) else
 (.bin (V9 (tk (tk (bK bs (tk (bK bs (tk z 3).2).2 2).2).2 3).2 2).1) (bK bs (tk (tk (bK bs (tk (bK bs (tk z 3).2).2 2).2).2 3).2 2).2).1 (.bin (RJ (tk z 3).1) (bK bs (tk z 3).2).1 (bK bs (tk (bK bs (tk z 3).2).2 2).2).1),(bK bs (tk (tk (bK bs (tk (bK bs (tk z 3).2).2 2).2).2 3).2 2).2).2)
theorem Wa(h1:tk z 3=(x1,z1))(h2:bK bs z1=(t2,z2))(h3:tk z2 2=(x3,z3))(e:x3=0):eD bs z=(t2,z3):=by unfold eD;rw[h1,h2,h3,if_pos e]
theorem Wb(h1:tk z 3=(x1,z1))(h2:bK bs z1=(t2,z2))(h3:tk z2 2=(x3,z3))(e:x3≠0)(h4:bK bs z3=(t4,z4))(h6:tk z4 3=(x6,z6))(e6:0<x6):eD bs z=(.bin (RJ x1) t2 t4,z6):=by unfold eD;rw[h1,h2,h3,if_neg e,h4,h6,if_pos e6]
theorem Wc(h1:tk z 3=(x1,z1))(h2:bK bs z1=(t2,z2))(h3:tk z2 2=(x3,z3))(e:x3≠0)(h4:bK bs z3=(t4,z4))(h6:tk z4 3=(x6,z6))(e6:¬0<x6)(h7:tk z6 2=(x7,z7))(h8:bK bs z7=(t8,z8)):eD bs z=(.bin (V9 x7) t8 (.bin (RJ x1) t2 t4),z8):=by unfold eD;rw[h1,h2,h3,if_neg e,h4,h6,if_neg e6,h7,h8]
def fG (bs:List PG.cE) (row:Int) (z:Zs):PG.bo×Zs:=
 if bs≠[]/\(tk z 9).1<3 then (.ask row (PR bs (tk (tk z 9).2 bs.length).1),(tk (tk z 9).2 bs.length).2) else
 if bs≠[]/\(tk z 9).1<6 then (.put row (PR bs (tk (tk z 9).2 bs.length).1) (eD bs (tk (tk z 9).2 bs.length).2).1,(eD bs (tk (tk z 9).2 bs.length).2).2) else
 if (tk z 9).1=6 then (.fD row (Mw (tk (tk z 9).2 2).1) (bK bs (tk (tk z 9).2 2).2).1 (eD bs (bK bs (tk (tk z 9).2 2).2).2).1,(eD bs (bK bs (tk (tk z 9).2 2).2).2).2) else
 if (tk z 9).1=7 then (if (tk (tk z 9).2 3).1=0 then (.stop row,(tk (tk z 9).2 3).2) else (.say row (eD bs (tk (tk z 9).2 3).2).1,(eD bs (tk (tk z 9).2 3).2).2)) else
 (.say row (eD bs (tk z 9).2).1,(eD bs (tk z 9).2).2)
variable{row kd:Int}
theorem Cz(h1:tk z 9=(kd,z1))(hb:bs≠[])(e:kd<3)(h3:tk z1 bs.length=(x3,z3)):fG bs row z=(.ask row (PR bs x3),z3):=by unfold fG;rw[h1,if_pos ⟨hb,e⟩,h3]
theorem CA(h1:tk z 9=(kd,z1))(hb:bs≠[])(e1:¬kd<3)(e:kd<6)(h3:tk z1 bs.length=(x3,z3))(h4:eD bs z3=(t4,z4)):fG bs row z=(.put row (PR bs x3) t4,z4):=by unfold fG;rw[h1,if_neg fun c=>e1 c.2,if_pos ⟨hb,e⟩,h3,h4]
theorem AL(h1:tk z 9=(kd,z1))(n3:¬(bs≠[]/\kd<3))(n6:¬(bs≠[]/\kd<6))(e:kd=6)(h3:tk z1 2=(x3,z3))(h4:bK bs z3=(t4,z4))(h5:eD bs z4=(t,z5)):fG bs row z=(.fD row (Mw x3) t4 t,z5):=by unfold fG;rw[h1,if_neg n3,if_neg n6,if_pos e,h3,h4,h5]
theorem AM(h1:tk z 9=(kd,z1))(n3:¬(bs≠[]/\kd<3))(n6:¬(bs≠[]/\kd<6))(e:kd=7)(h3:tk z1 3=(x3,z3))(e3:x3=0):fG bs row z=(.stop row,z3):=by unfold fG;rw[h1,if_neg n3,if_neg n6,if_neg (show ¬kd=6 by lia),if_pos e,h3,if_pos e3]
theorem AN(h1:tk z 9=(kd,z1))(n3:¬(bs≠[]/\kd<3))(n6:¬(bs≠[]/\kd<6))(e:kd=7)(h3:tk z1 3=(x3,z3))(e3:x3≠0)(h4:eD bs z3=(t4,z4)):fG bs row z=(.say row t4,z4):=by unfold fG;rw[h1,if_neg n3,if_neg n6,if_neg (show ¬kd=6 by lia),if_pos e,h3,if_neg e3,h4]
theorem CB(h1:tk z 9=(kd,z1))(n3:¬(bs≠[]/\kd<3))(n6:¬(bs≠[]/\kd<6))(e:kd≠6)(e7:kd≠7)(h4:eD bs z1=(t4,z4)):fG bs row z=(.say row t4,z4):=by unfold fG;rw[h1,if_neg n3,if_neg n6,if_neg e,if_neg e7,h4]
def Og (bs:List PG.cE) (row kd:Int) (z:Zs) (oc:List (List PG.bo×PG.dE)×List PG.bo):List (List PG.bo×PG.dE)×List PG.bo:=
 let a:=(bK bs z).1
 let b:=(eD bs (bK bs z).2).1
 let r:=tk (eD bs (bK bs z).2).2 2
 let sg:=Mw (tk r.2 2).1
 let l:=if r.1=1 then b else a
 let m:=if r.1=1 then a else b
 ((oc.2,if kd=1 then .fK row sg l m else .if1 row sg l m)::oc.1,[])
def sf:List (List PG.bo×PG.dE)->Bool
 |(_,.if1 ..)::_=>true
 |_=>false
def Oh (oc:List (List PG.bo×PG.dE)×List PG.bo):List (List PG.bo×PG.dE)×List PG.bo:=
 match oc.1 with
 |(st,.if1 k sg l r)::o=>((st,.if2 k sg l r oc.2)::o,[])
 |_=>oc
def Fn (oc:List (List PG.bo×PG.dE)×List PG.bo):List (List PG.bo×PG.dE)×List PG.bo:=
 match oc.1 with
 |(st,h)::o=>(o,st++[h.fill oc.2])
 |[]=>oc
def lW (bs:List PG.cE) (row:Int) (z:Zs) (oc:List (List PG.bo×PG.dE)×List PG.bo):List (List PG.bo×PG.dE)×List PG.bo:=
 if (tk z 10).1<3/\oc.1.length<4 then Og bs row (tk z 10).1 (tk z 10).2 oc else
 if (tk z 10).1=3/\sf oc.1=true then Oh oc else
 if (tk z 10).1<5/\oc.1≠[] then Fn oc else
 (oc.1,oc.2++[(fG bs row (tk z 10).2).1])
def CC (bs:List PG.cE) (ns:List Int):Nat->List (List PG.bo×PG.dE)×List PG.bo
 |0=>([],[])
 |i+1=>lW bs (bs.length+i+1) (Mv ns (i+1)) (CC bs ns i)
def Mx (bs:List PG.cE) (ns:List Int) (m:Nat):List PG.bo:=PG.bV (CC bs ns (min ns.length m-1)).1 (CC bs ns (min ns.length m-1)).2
def K9 (z:Zs):List W:=if (tk z 2).1=0 then [[97],[97,98],[98]] else [[120,120],[120],[98,111,120,101,115]]
def AO:List W->Zs->List PG.cE×Zs
 |[],z=>([],z)
 |nm::r,z=>
  let q:=tk z 2
  let x:=tk q.2 (if q.1=0 then 3 else 9)
  let y:=tk x.2 (2+x.1)
  let rest:=AO r y.2
  (⟨nm,2+x.1,y.1⟩::rest.1,rest.2)
def Oi (ns:List Int):List PG.cE:=(AO ((K9 (Mv ns 0)).take (tk (tk (Mv ns 0) 2).2 4).1.toNat) (tk (tk (Mv ns 0) 2).2 4).2).1
end
section
variable(K:zab)
inductive RK(vs:List V)(H:Hp)(Q:VK)(E:XK):Prop
 |mk (s:zdJ) (many:Int) (z:Zs) (e:vs=[.ref s,.int many]) (h:qZ H s z) (h0:0<many) (h1:many<=1000) (q:∀x z' H',tk z many=(x,z')->0<=x->x<many->bc s H H'->qZ H' s z'->Q (.int x) H')
inductive HW(vs:List V)(H:Hp)(Q:VK)(E:XK):Prop
 |mk (a:zdJ) (ns:List Int) (k:Nat) (e:vs=[.ref a,.int k]) (h:fU K H a (ns.map V.int)) (h0:ns.length<=63) (h1:k<=63) (q:∀s H',aq H H'->H s=none->qZ H' s (Mv ns k)->Q (.ref s) H')
inductive HX(vs:List V)(H:Hp)(Q:VK)(E:XK):Prop
 |mk (a:zdJ) (ns:List Int) (e:vs=[.ref a]) (h:fU K H a (ns.map V.int)) (h0:ns.length<=63) (q:∀B bs H',bs=Oi ns->aq H H'->H B=none->Rep K H' (.lst (bs.map jz)) (.ref B)->BsK bs->Q (.ref B) H')
inductive La(vs:List V)(H:Hp)(Q:VK)(E:XK):Prop
 |mk (s B:zdJ) (bs:List PG.cE) (z:Zs) (e:vs=[.ref s,.ref B]) (h:qZ H s z) (hB:jA K (·=s) H B bs) (q:∀v t z' H',bK bs z=(t,z')->bc s H H'->qZ H' s z'->Own K H H' (ky t) v->PG.gX bs t->PG.iz t<=0->Q v H')
inductive We(vs:List V)(H:Hp)(Q:VK)(E:XK):Prop
 |mk (s B:zdJ) (bs:List PG.cE) (z:Zs) (e:vs=[.ref s,.ref B]) (h:qZ H s z) (hB:jA K (·=s) H B bs) (q:∀v t z' H',eD bs z=(t,z')->bc s H H'->qZ H' s z'->Own K H H' (ky t) v->AE bs t->Q v H')
inductive HY(vs:List V)(H:Hp)(Q:VK)(E:XK):Prop
 |mk (s B:zdJ) (bs:List PG.cE) (row:Int) (z:Zs) (e:vs=[.ref s,.ref B,.int row]) (h:qZ H s z) (hB:jA K (·=s) H B bs) (q:∀v st z' H',fG bs row z=(st,z')->bc s H H'->qZ H' s z'->Own K H H' (eF st) v->HL bs st->Plain st->st.row=row->Q v H')
inductive Lb(m:Nat)(vs:List V)(H:Hp)(Q:VK)(E:XK):Prop
 |mk (a B:zdJ) (ns:List Int) (bs:List PG.cE) (e:vs=[.ref a,.ref B]) (h:fU K H a (ns.map V.int)) (h0:ns.length<=63) (rB:Rep K H (.lst (bs.map jz)) (.ref B)) (l4:bs.length<=4) (q:∀R (body:List PG.bo) H',body=Mx bs ns m->aq H H'->H R=none->Rep K H' (.lst (body.map eF)) (.ref R)->Yz bs bs.length (bs.length+25) body->Q (.ref R) H')
end
section
variable{K:zab}{bs:List PG.cE}{r0 row:Int}{R pl sc:zdJ}{H0 H H1:Hp}{o:List (List PG.bo×PG.dE)}{cur:List PG.bo}{p:zdJ}{ps:List zdJ}{ss vs:List V}
theorem PZ.Wf(h:PZ K bs r0 row R pl sc H0 H o cur p ps ss vs){v:V}{gU:List V}(es:ss=v::gU)(nv:v≠.bI):∃b,v=.ref b/\sf o=true/\PZ K bs r0 row R pl sc H0 (upd (upd H pl (.lst ((b::ps).reverse.map V.ref))) sc (.lst (.bI::gU).reverse)) (Oh (o,cur)).1 [] b ps (.bI::gU) []:=by
 have nd:=h.nd;have pa:=h.pa;subst es;cases hpa:pa with
 |root=>exact absurd rfl nv
 |fK=>exact absurd rfl nv
 |if2=>exact absurd rfl nv
 |if1 a b1 c d e f x g=>
  rename_i o1 zy k sg l r q c1 b vU JO vl vr;refine⟨b,rfl,rfl,?_⟩;show PZ K bs r0 row R pl sc H0 _ ((zy,.if2 k sg l r cur)::o1) [] b _ _ [];have mo:∀y,y∈cC pl sc b (q::vU) (.bI::gU)->y∈cC pl sc p (q::vU) (.ref b::gU)/\y≠p:=fun y hy=>by
   have hz:y∈cC pl sc p (q::vU) (.ref b::gU):=by
    rcases aL.mp hy with z |z |z |z |z
    ·exact aL.mpr (.inl z)
    ·exact aL.mpr (.inr (.inl z))
    ·exact aL.mpr (.inr (.inr (.inr (.inr (by rw[z];simp)))))
    ·exact aL.mpr (.inr (.inr (.inr (.inl z))))
    ·exact aL.mpr (.inr (.inr (.inr (.inr ((zag.mp z).elim (fun z=>by cases z) fun z=>zae _ z)))))
   refine⟨hz,fun e=>?_⟩;unfold cC at nd;rw[zam,zam,zam] at nd;obtain⟨n1,n2,n3,n4⟩:=nd;rw[e] at hy;rcases aL.mp hy with z |z |z |z |z
   ·exact n1 (by rw[<- z];simp)
   ·exact n2 (by rw[<- z];simp)
   ·exact n3 (by rw[z,qe];simp)
   ·exact n3 (zak.mpr (.inl z))
   ·rcases zag.mp z with z |z
    ·cases z
    ·exact n3 (zak.mpr (.inr (gD.mpr (zae _ z))))
  have gr:∀y,y∈cC pl sc b (q::vU) (.bI::gU)->y∈cC pl sc p (q::vU) (.ref b::gU)\/H y=none:=fun y hy=>.inl (mo y hy).1;have HN:pl∈cC pl sc b (q::vU) (.bI::gU):=aL.mpr (.inl rfl);have HP:sc∈cC pl sc b (q::vU) (.bI::gU):=aL.mpr (.inr (.inl rfl));have u:a0 (·∈cC pl sc b (q::vU) (.bI::gU)) H (upd (upd H pl (.lst ((b::q::vU).reverse.map V.ref))) sc (.lst (.bI::gU).reverse)):=(a0.refl.put HN _).put HP _;unfold cC at nd;rw[zam,zam,zam] at nd;obtain⟨n1,n2,n3,n4⟩:=nd;have e3:pl≠sc:=fun z=>n1 (by rw[z];simp);have kp:∀y,y≠pl->y≠sc->(upd (upd H pl (.lst ((b::q::vU).reverse.map V.ref))) sc (.lst (.bI::gU).reverse)) y=H y:=fun y h1 h2=>by rw[aD h2,aD h1]
  have YB:b∈(q::vU)++se (.ref b::gU):=by rw[qe];simp
  have YC:b≠pl:=fun z=>n1 (by rw[<- z];exact zae _ (zae _ YB));have YD:b≠sc:=fun z=>n2 (by rw[<- z];exact zae _ YB);have My:∀y,y∈(q::vU)++se (.ref b::gU)->y≠pl/\y≠sc:=fun y hy=>⟨fun z=>n1 (by rw[<- z];exact zae _ (zae _ hy)),fun z=>n2 (by rw[<- z];exact zae _ hy)⟩
  have hq:∀y∈q::vU,y≠pl/\y≠sc:=fun y hy=>My y (zak.mpr (.inl hy));refine⟨by rw[aD e3,ai],by rw[ai],by rw[kp b YC YD];exact x,?_,.nil,.if2 (c:=c1) (vs:=JO) (a:=cur) (by rw[kp q (hq q (by simp)).1 (hq q (by simp)).2];exact a) ((b1.grow gr).up u) (fun z=>c (mo c1 z).1) (u c1 _ (fun z=>c (mo c1 z).1) d) ((e.grow gr).up u) ((f.grow gr).up u) ?_ ((g.grow gr).up u (fun y hy=>?_) fun y hy=>?_),h.rt,?_,h.len,fun y o2 e2=>?_,fun y hy=>h.fr y (mo y hy).1⟩
  ·show (pl::sc::b::(q::vU++se gU)).Nodup;rw[qe] at n4 n1 n2;have n5:((q::vU)++(b::se gU)).Nodup:=n4;rw[zbF] at n5;have n6:=zam.mp n5.2.1;rw[zam,zam,zam];refine⟨fun z=>?_,fun z=>?_,fun z=>?_,?_⟩
   ·rcases zag.mp z with z |z
    ·exact e3 z
    ·rcases zag.mp z with z |z
     ·exact YC z.symm
     ·rcases zak.mp z with z |z
      ·exact n1 (zae _ (zae _ (zak.mpr (.inl z))))
      ·exact n1 (zae _ (zae _ (zak.mpr (.inr (zae _ z)))))
   ·rcases zag.mp z with z |z
    ·exact YD z.symm
    ·rcases zak.mp z with z |z
     ·exact n2 (zae _ (zak.mpr (.inl z)))
     ·exact n2 (zae _ (zak.mpr (.inr (zae _ z))))
   ·rcases zak.mp z with z |z
    ·exact n5.2.2 b z b (by simp) rfl
    ·exact n6.1 z
   ·rw[zbF];exact⟨n5.1,n6.2,fun y hy w hw=>n5.2.2 y hy w (zae _ hw)⟩
  ·exact Fix.lst (vs:=vs) (u p _ (fun z=>(mo p z).2 rfl) h.hp) (fun z=>(mo p z).2 rfl) ((h.fx.grow gr).up u)
  ·exact kp y (hq y (zae _ hy)).1 (hq y (zae _ hy)).2
  ·have:=My y (zak.mpr (.inr (by rw[qe];exact zae _ (gD.mpr hy))));exact kp y this.1 this.2
  ·exact h.zk
  ·have no:y ∉ cC pl sc p (q::vU) (.ref b::gU):=fun z=>by rw[h.fr y z] at e2;cases e2
   rw[kp y (fun z=>no (by rw[z];exact aL.mpr (.inl rfl))) (fun z=>no (by rw[z];exact aL.mpr (.inr (.inl rfl))))];exact h.sm y o2 e2
theorem PZ.Wg(h:PZ K bs r0 row R pl sc H0 H o cur p ps ss vs){q:zdJ}{nJ:List zdJ}(ep:ps=q::nJ):∃v gU Wh,ss=v::gU/\o≠[]/\PZ K bs r0 row R pl sc H0 (upd (upd H pl (.lst ((q::nJ).reverse.map V.ref))) sc (.lst gU.reverse)) (Fn (o,cur)).1 (Fn (o,cur)).2 q nJ gU Wh:=by
 have nd:=h.nd;have pa:=h.pa;subst ep;have main:∀(v:V) (gU:List V) (o':List (List PG.bo×PG.dE)) (hl:PG.dE) (zy:List PG.bo) (JO:List V) (c1:zdJ),ss=v::gU->o=(zy,hl)::o'->H q=some (.lst (JO++[.ref c1]))->eM K (·∈cC pl sc p (q::nJ) ss) H (zy.map eF) JO->Fix K (·∈cC pl sc q nJ gU) H (eF (hl.fill cur)) (.ref c1)->iM K (·∈cC pl sc p (q::nJ) ss) H o' q nJ gU->∃v gU Wh,ss=v::gU/\o≠[]/\PZ K bs r0 row R pl sc H0 (upd (upd H pl (.lst ((q::nJ).reverse.map V.ref))) sc (.lst gU.reverse)) (Fn (o,cur)).1 (Fn (o,cur)).2 q nJ gU Wh:=by
  intro v gU o' hl zy JO c1 es eo a b f g;subst es;subst eo;refine⟨v,gU,JO++[.ref c1],rfl,by simp,?_⟩;show PZ K bs r0 row R pl sc H0 _ o' (zy++[hl.fill cur]) q nJ gU _;have mo:∀y,y∈cC pl sc q nJ gU->y∈cC pl sc p (q::nJ) (v::gU):=fun y hy=>by
   rcases aL.mp hy with z |z |z |z |z
   ·exact aL.mpr (.inl z)
   ·exact aL.mpr (.inr (.inl z))
   ·exact aL.mpr (.inr (.inr (.inr (.inl (by rw[z];simp)))))
   ·exact aL.mpr (.inr (.inr (.inr (.inl (zae _ z)))))
   ·exact aL.mpr (.inr (.inr (.inr (.inr (zae _ z)))))
  have gr:∀y,y∈cC pl sc q nJ gU->y∈cC pl sc p (q::nJ) (v::gU)\/H y=none:=fun y hy=>.inl (mo y hy);have HN:pl∈cC pl sc q nJ gU:=aL.mpr (.inl rfl);have HP:sc∈cC pl sc q nJ gU:=aL.mpr (.inr (.inl rfl));have u:a0 (·∈cC pl sc q nJ gU) H (upd (upd H pl (.lst ((q::nJ).reverse.map V.ref))) sc (.lst gU.reverse)):=(a0.refl.put HN _).put HP _;unfold cC at nd;rw[zam,zam,zam] at nd;obtain⟨n1,n2,n3,n4⟩:=nd;have e3:pl≠sc:=fun z=>n1 (by rw[z];simp);have kp:∀y,y≠pl->y≠sc->(upd (upd H pl (.lst ((q::nJ).reverse.map V.ref))) sc (.lst gU.reverse)) y=H y:=fun y h1 h2=>by rw[aD h2,aD h1]
  have My:∀y,y∈(q::nJ)++se (v::gU)->y≠pl/\y≠sc:=fun y hy=>⟨fun z=>n1 (by rw[<- z];exact zae _ (zae _ hy)),fun z=>n2 (by rw[<- z];exact zae _ hy)⟩
  have sub:∀y,y∈nJ++se gU->y∈(q::nJ)++se (v::gU):=fun y hy=>by
   rcases zak.mp hy with z |z
   ·exact zak.mpr (.inl (zae _ z))
   ·exact zak.mpr (.inr (gD.mpr (zae _ (gD.mp z))))
  have TV:=My q (by simp);refine⟨by rw[aD e3,ai],by rw[ai],by rw[kp q TV.1 TV.2];exact a,?_,?_,(g.grow gr).up u (fun y hy=>?_) (fun y hy=>?_),h.rt,h.zk,by have:=h.len;rw[zai] at this;lia,fun y o2 e2=>?_,fun y hy=>h.fr y (mo y hy)⟩
  ·unfold cC;have n5:(q::(nJ++se (v::gU))).Nodup:=n4;obtain⟨n6,n7⟩:=zam.mp n5;have sl:(se gU).Sublist (se (v::gU)):=by
    unfold se;exact List.Sublist.filterMap _ (zdi _ _)
   rw[zam,zam,zam];refine⟨fun z=>?_,fun z=>?_,fun z=>?_,List.Nodup.sublist ((List.Sublist.refl _).append sl) n7⟩
   ·rcases zag.mp z with z |z
    ·exact e3 z
    ·rcases zag.mp z with z |z
     ·exact TV.1 z.symm
     ·exact(My _ (sub _ z)).1 rfl
   ·rcases zag.mp z with z |z
    ·exact TV.2 z.symm
    ·exact(My _ (sub _ z)).2 rfl
   ·rcases zak.mp z with z |z
    ·exact n6 (zak.mpr (.inl z))
    ·exact n6 (zak.mpr (.inr (sl.subset z)))
  ·rw[zaw];exact((b.grow gr).snoc f).up u
  ·have:=My y (sub y (zak.mpr (.inl hy)));exact kp y this.1 this.2
  ·have:=My y (sub y (zak.mpr (.inr (gD.mpr hy))));exact kp y this.1 this.2
  ·have no:y ∉ cC pl sc p (q::nJ) (v::gU):=fun z=>by rw[h.fr y z] at e2;cases e2
   rw[kp y (fun z=>no (by rw[z];exact aL.mpr (.inl rfl))) (fun z=>no (by rw[z];exact aL.mpr (.inr (.inl rfl))))];exact h.sm y o2 e2
 have np:∀v gU,ss=v::gU->(∀y,y∈cC pl sc q nJ gU->y∈cC pl sc p (q::nJ) ss/\y≠p/\V.ref y≠v):=fun v gU es y hy=>by
  subst es;have Wi:=nd;unfold cC at Wi;rw[zam,zam,zam] at Wi;obtain⟨n1,n2,n3,n4⟩:=Wi;have hy1:y∈cC pl sc p (q::nJ) (v::gU):=by
   rcases aL.mp hy with z |z |z |z |z
   ·exact aL.mpr (.inl z)
   ·exact aL.mpr (.inr (.inl z))
   ·exact aL.mpr (.inr (.inr (.inr (.inl (by rw[z];simp)))))
   ·exact aL.mpr (.inr (.inr (.inr (.inl (zae _ z)))))
   ·exact aL.mpr (.inr (.inr (.inr (.inr (zae _ z)))))
  refine⟨hy1,fun e=>?_,fun e=>?_⟩
  ·rw[e] at hy;rcases aL.mp hy with z |z |z |z |z
   ·exact n1 (by rw[<- z];simp)
   ·exact n2 (by rw[<- z];simp)
   ·exact n3 (by rw[z];simp)
   ·exact n3 (zak.mpr (.inl (zae _ z)))
   ·exact n3 (zak.mpr (.inr (gD.mpr (zae _ z))))
  ·rw[<- e] at n1 n2 n3 n4;rw[qe] at n1 n2 n3 n4;have n5:((q::nJ)++(y::se gU)).Nodup:=n4;rw[zbF] at n5;rcases aL.mp hy with z |z |z |z |z
   ·exact n1 (by rw[<- z];simp)
   ·exact n2 (by rw[<- z];simp)
   ·exact n5.2.2 q (by simp) y (by simp) z.symm
   ·exact n5.2.2 y (zae _ z) y (by simp) rfl
   ·exact(zam.mp n5.2.1).1 (gD.mpr z)
 cases hpa:pa with
 |fK a b c d e f g=>
  rename_i o1 zy k sg l r c1 HZ JO vl vr;refine main _ _ _ _ _ _ _ rfl rfl a b ?_ g;have n:=np _ _ rfl;have gr:∀y,y∈cC pl sc q nJ HZ->y∈cC pl sc p (q::nJ) (.bI::HZ)\/H y=none:=fun y hy=>.inl (n y hy).1;unfold PG.dE.fill eF;rw[cG];exact Fix.tup d (fun z=>c (n _ z).1) (.cons .str (.cons .int (.cons .str (.cons (e.grow gr) (.cons (f.grow gr) (.cons (Fix.lst h.hp (fun z=>(n _ z).2.1 rfl) (h.fx.grow gr)) .nil))))))
 |if1 a b c d e f x g=>
  rename_i o1 zy k sg l r c1 b1 HZ JO vl vr;refine main _ _ _ _ _ _ _ rfl rfl a b ?_ g;have n:=np _ _ rfl;have gr:∀y,y∈cC pl sc q nJ HZ->y∈cC pl sc p (q::nJ) (.ref b1::HZ)\/H y=none:=fun y hy=>.inl (n y hy).1;unfold PG.dE.fill eF;rw[cG,cG];exact Fix.tup d (fun z=>c (n _ z).1) (.cons .str (.cons .int (.cons .str (.cons (e.grow gr) (.cons (f.grow gr) (.cons (Fix.lst h.hp (fun z=>(n _ z).2.1 rfl) (h.fx.grow gr)) (.cons (Fix.lst x (fun z=>(n _ z).2.2 rfl) .nil) .nil)))))))
 |if2 a b c d e f x g=>
  rename_i o1 zy k sg l r a1 c1 va HZ JO vl vr;refine main _ _ _ _ _ _ _ rfl rfl a b ?_ g;have n:=np _ _ rfl;have gr:∀y,y∈cC pl sc q nJ HZ->y∈cC pl sc p (q::nJ) (.bI::HZ)\/H y=none:=fun y hy=>.inl (n y hy).1;unfold PG.dE.fill eF;rw[cG,cG];exact Fix.tup d (fun z=>c (n _ z).1) (.cons .str (.cons .int (.cons .str (.cons (e.grow gr) (.cons (f.grow gr) (.cons (x.grow gr) (.cons (Fix.lst h.hp (fun z=>(n _ z).2.1 rfl) (h.fx.grow gr)) .nil)))))))
theorem iM.top{D:zdJ->Prop}{v:V}{gU:List V}(h:iM K D H o p ps ss)(e:ss=v::gU)(n:v=.bI):sf o=false:=by
 subst e;cases h with
 |root=>rfl
 |fK=>rfl
 |if1=>cases n
 |if2=>rfl
end
section
variable{bs:List PG.cE}{row kd x9 yv:Int}{z z5 z6 z7 z9 zF:Zs}{o:List (List PG.bo×PG.dE)}{cur:List PG.bo}{st:PG.bo}{t6 t7:PM.Tr}
theorem AQ(q:tk z 10=(kd,z5))(n1:¬(kd<3/\o.length<4))(n2:¬(kd=3/\sf o=true))(n3:¬(kd<5/\o≠[]))(hp:fG bs row z5=(st,z6)):lW bs row z (o,cur)=(o,cur++[st]):=by
 unfold lW;rw[q];dsimp only;rw[if_neg n1,if_neg n2,if_neg n3,hp]
theorem Fo(q:tk z 10=(kd,z5))(n1:¬(kd<3/\o.length<4))(n2:¬(kd=3/\sf o=true))(n3:kd<5/\o≠[]):lW bs row z (o,cur)=Fn (o,cur):=by
 unfold lW;rw[q];dsimp only;rw[if_neg n1,if_neg n2,if_pos n3]
theorem Fp(q:tk z 10=(kd,z5))(n1:¬(kd<3/\o.length<4))(n2:kd=3/\sf o=true):lW bs row z (o,cur)=((Oh (o,cur)).1,[]):=by
 unfold lW;rw[q];dsimp only;rw[if_neg n1,if_pos n2]
 match o,n2.2 with
 |(st,.if1 k sg l r)::o,_=>rfl
theorem Fq(q:tk z 10=(kd,z5))(n1:kd<3/\o.length<4)(h6:bK bs z5=(t6,z6))(h7:eD bs z6=(t7,z7))(h9:tk z7 2=(x9,z9))(N4:tk z9 2=(yv,zF)){ta tb:PM.Tr}(ha:(if x9=1 then t7 else t6)=ta)(hb:(if x9=1 then t6 else t7)=tb)(e:kd=1):lW bs row z (o,cur)=((cur,.fK row (Mw yv) ta tb)::o,[]):=by
 unfold lW;rw[q];dsimp only;rw[if_pos n1];unfold Og;dsimp only;rw[h6,h7,h9,N4];dsimp only;rw[if_pos e,ha,hb]
theorem Ia(q:tk z 10=(kd,z5))(n1:kd<3/\o.length<4)(h6:bK bs z5=(t6,z6))(h7:eD bs z6=(t7,z7))(h9:tk z7 2=(x9,z9))(N4:tk z9 2=(yv,zF)){ta tb:PM.Tr}(ha:(if x9=1 then t7 else t6)=ta)(hb:(if x9=1 then t6 else t7)=tb)(e:kd≠1):lW bs row z (o,cur)=((cur,.if1 row (Mw yv) ta tb)::o,[]):=by
 unfold lW;rw[q];dsimp only;rw[if_pos n1];unfold Og;dsimp only;rw[h6,h7,h9,N4];dsimp only;rw[if_neg e,ha,hb]
end
open PG
open PM (W Tr)
def fg (a b:Rg):Prop:=b.1<=a.1/\a.2<=b.2
theorem mul_sub{a b c d:Rg}(h1:fg a c)(h2:fg b d)(n1:a.1<=a.2)(n2:b.1<=b.2):fg (nP (a.1*b.1) (a.1*b.2) (a.2*b.1) (a.2*b.2),nQ (a.1*b.1) (a.1*b.2) (a.2*b.1) (a.2*b.2)) (nP (c.1*d.1) (c.1*d.2) (c.2*d.1) (c.2*d.2),nQ (c.1*d.1) (c.1*d.2) (c.2*d.1) (c.2*d.2)):=by
 obtain⟨p1,p2⟩:=h1;obtain⟨q1,q2⟩:=h2;have i1:=vj (l:=c) (r:=d) (x:=a.1) (y:=b.1) ⟨by lia,by lia⟩ ⟨by lia,by lia⟩;have i2:=vj (l:=c) (r:=d) (x:=a.1) (y:=b.2) ⟨by lia,by lia⟩ ⟨by lia,by lia⟩;have i3:=vj (l:=c) (r:=d) (x:=a.2) (y:=b.1) ⟨by lia,by lia⟩ ⟨by lia,by lia⟩;have i4:=vj (l:=c) (r:=d) (x:=a.2) (y:=b.2) ⟨by lia,by lia⟩ ⟨by lia,by lia⟩;unfold In at i1 i2 i3 i4;simp only at i1 i2 i3 i4;generalize nP (c.1*d.1) (c.1*d.2) (c.2*d.1) (c.2*d.2)=lo at *;generalize nQ (c.1*d.1) (c.1*d.2) (c.2*d.1) (c.2*d.2)=hi at *;generalize a.1*b.1=x1 at *;generalize a.1*b.2=x2 at *;generalize a.2*b.1=x3 at *;generalize a.2*b.2=x4 at *;unfold fg nP nQ;simp only;lia
theorem vo{bs:List cE}{f g:W->Rg}(h:∀x∈bs.map (·.name),fg (f x) (g x)/\(f x).1<=(f x).2){t:Tr}:gX bs t->fg (ff f t) (ff g t)/\(ff f t).1<=(ff f t).2:=by
 induction t with
 |num n=>exact fun _=>⟨⟨za7 _,za7 _⟩,za7 _⟩
 |box x=>exact fun o=>h x o
 |bin o l r il ir=>
  intro ow;obtain⟨a1,a2⟩:=il ow.2.1;obtain⟨b1,b2⟩:=ir ow.2.2;unfold ff HC;generalize ff f l=a at *;generalize ff f r=b at *;generalize ff g l=c at *;generalize ff g r=d at *;split
  ·unfold fg at *;simp only;lia
  ·split
   ·unfold fg at *;simp only;lia
   ·refine⟨mul_sub a1 b1 a2 b2,?_⟩;simp only[nP,nQ];lia
theorem Fs{a b:Rg}{size:Int}(h:fg a b)(n:a.1<=a.2)(hs:0<size):fg (k8 a size) (k8 b size):=by
 obtain⟨p,q⟩:=h;have m1:=zbB a.1 (show size≠0 by lia);have m2:=zbm a.1 hs;have m3:=zbB a.2 (show size≠0 by lia);have m4:=zbm a.2 hs;have d1:=zb3 a.1 size;have d2:=zb3 a.2 size;have d3:=zb3 b.1 size;have d4:=zb3 b.2 size;have k1:=zb8 hs p;have k2:=zb8 hs n;have k3:=zb8 hs q;unfold k8;by_cases z:b.1/size=b.2/size
 ·have e1:a.1/size=b.1/size:=by lia
  have e2:a.2/size=b.1/size:=by lia
  rw[if_pos z,if_pos (e1.trans e2.symm)];rw[e1] at d1;rw[e2] at d2;rw[<- z] at d4;unfold fg;simp only;lia
 ·rw[if_neg z];split
  ·unfold fg;simp only;lia
  ·unfold fg;simp only;lia
theorem Ib{lt truth:Bool}{a b c d:Rg}(h1:fg a c)(h2:fg b d)(n1:a.1<=a.2)(n2:b.1<=b.2)(e:xq lt truth a b=true):xq lt truth c d=true:=by
 unfold xq fg at *;cases lt<;>cases truth<;>simp only[zaF,if_false,if_true,Bool.not_eq_true',Bool.and_eq_false_iff,decide_eq_false_iff_not,decide_eq_true_eq] at e ⊢
 ·by_cases z1:c.1=c.2
  ·by_cases z2:c.2=d.1
   ·right
    intro z3;rcases e with (e |e) |e
    ·exact e (by lia)
    ·exact e (by lia)
    ·exact e (by lia)
   ·exact .inl (.inr z2)
  ·exact .inl (.inl z1)
 ·lia
 ·lia
 ·lia
theorem nK{lt truth left:Bool}{a b c d:Rg}(h1:fg a c)(h2:fg b d)(n2:b.1<=b.2):fg (lg lt truth left a b) (lg lt truth left c d):=by
 unfold lg fg at *;cases lt<;>cases truth<;>cases left<;>simp only[zaF,if_false,if_true]
 all_goals first
  |(constructor<;>lia)
  |(by_cases z:d.1=d.2
    ·have z2:b.1=b.2:=by lia
     rw[if_pos z,if_pos z2]
     constructor
     ·simp only;split<;>split<;>lia
     ·simp only;split<;>split<;>lia
    ·rw[if_neg z];split
     ·constructor
      ·simp only;split<;>lia
      ·simp only;split<;>lia
     ·exact h1)
theorem Ft{lt truth:Bool}{o o' a b c d:Rg}(h0:fg o o')(h1:fg a c)(h2:fg b d)(n2:b.1<=b.2):fg (oX lt truth o a b) (oX lt truth o' c d):=by
 unfold oX Ay;split
 ·exact nK h0 h2 n2
 ·split
  ·unfold fg at *;simp only;lia
  ·exact nK h0 h2 n2
theorem Fu{lt truth:Bool}{o o' a b c d:Rg}(h0:fg o o')(h1:fg a c)(h2:fg b d)(n1:a.1<=a.2):fg (oY lt truth o a b) (oY lt truth o' c d):=by
 unfold oY Ay;split
 ·exact nK h0 h1 n1
 ·split
  ·unfold fg at *;simp only;lia
  ·exact nK h0 h1 n1
section
variable{bs:List cE}{rs oZ:List Rg}
theorem Sub.at_(h:Sub rs oZ)(l:rs.length=bs.length){x:W}(hx:x∈bs.map (·.name)):fg (cV bs rs x) (cV bs oZ x):=by
 have hi:=iL hx;have e1:rs[qG bs x]?=some (cV bs rs x):=by unfold cV;rw[zaf,zaa (by lia)];rfl
 have l2:=h.1;have e2:oZ[qG bs x]?=some (cV bs oZ x):=by unfold cV;rw[zaf,zaa (by lia)];rfl
 exact h.2 _ _ _ e1 e2
theorem Sub.put(h:Sub rs oZ){x:W}{a b:Rg}(q:fg a b):Sub (jY bs rs x a) (jY bs oZ x b):=by
 unfold jY;refine⟨by rw[zbV,zbV,h.1],fun i u v e1 e2=>?_⟩;rw[zcU] at e1 e2;by_cases z:qG bs x=i
 ·rw[if_pos z] at e1 e2;split at e1
  ·cases e1;split at e2
   ·cases e2;exact q
   ·cases e2
  ·cases e1
 ·rw[if_neg z] at e1 e2;exact h.2 i u v e1 e2
theorem Ic(h:Sub rs oZ){u:List Rg}(e:qc rs=some u):u=rs/\qc oZ=some oZ:=by
 unfold qc at e ⊢;split at e
 ·cases e
 ·rename_i z;cases e;refine⟨rfl,?_⟩;rw[if_neg];intro y;obtain⟨b,hb,e⟩:=zbu.mp y;obtain⟨v,hv,rfl⟩:=zaJ.mp hb;obtain⟨i,hi,rfl⟩:=zaG.mp hv;have l:=h.1;refine z (zbu.mpr ⟨true,zaJ.mpr ⟨rs[i]'(by lia),zao _,?_⟩,rfl⟩);have:=h.2 i _ _ (zaa (by lia)) (zaa hi);simp only[id,decide_eq_true_eq] at e ⊢;lia
theorem AR{sg:W}{l r:Tr}{truth:Bool}(h:Sub rs oZ)(hr:fE bs rs)(ol:gX bs l)(or:gX bs r){u:List Rg}(e:cn bs rs sg l r truth=some u):∃u',cn bs oZ sg l r truth=some u'/\Sub u u':=by
 have ll:=hr.bd.1;have at_:∀x∈bs.map (·.name),fg (cV bs rs x) (cV bs oZ x)/\(cV bs rs x).1<=(cV bs rs x).2:=fun x hx=>by
  refine⟨h.at_ ll hx,hr.le _ ?_⟩;have hi:=iL hx;unfold cV;rw[zaf,zaa (by lia)];exact zao _
 obtain⟨a1,a2⟩:=vo at_ ol;obtain⟨b1,b2⟩:=vo at_ or;unfold cn at e ⊢;generalize ff (cV bs rs) l=A at *;generalize ff (cV bs rs) r=B at *;generalize ff (cV bs oZ) l=C at *;generalize ff (cV bs oZ) r=D at *;split at e
 ·rename_i m;rw[if_pos (Ib a1 b1 a2 b2 m)];have s1:Sub (Mn bs rs (decide (sg=[60])) truth l A B) (Mn bs oZ (decide (sg=[60])) truth l C D):=by
   cases l with
   |box x=>exact h.put (Ft (at_ x ol).1 a1 b1 b2)
   |num _=>exact h
   |bin _ _ _=>exact h
  have l1:(Mn bs rs (decide (sg=[60])) truth l A B).length=bs.length:=by
   cases l with
   |box x=>exact(zbV ..).trans ll
   |num _=>exact ll
   |bin _ _ _=>exact ll
  generalize Mn bs rs (decide (sg=[60])) truth l A B=R1 at *;generalize Mn bs oZ (decide (sg=[60])) truth l C D=R2 at *;have s2:Sub (RF bs R1 (decide (sg=[60])) truth r A B) (RF bs R2 (decide (sg=[60])) truth r C D):=by
   cases r with
   |box x=>exact s1.put (Fu (s1.at_ l1 or) a1 b1 a2)
   |num _=>exact s1
   |bin _ _ _=>exact s1
  obtain⟨rfl,e2⟩:=Ic s2 e;exact⟨_,e2,s2⟩
 ·cases e
theorem Fv{ws:List Int}{st:bo}(h:Sub rs oZ)(hr:fE bs rs)(own:HL bs st)(sz:∀b∈bs,0<b.size):∀q∈dD bs rs ws st,∃q'∈dD bs oZ ws st,q'.1=q.1/\Sub q.2 q'.2:=by
 have Wj:∀ {sg:W} {l r:Tr},gX bs l->gX bs r->∀q∈dZ (cn bs rs sg l r) (ws.zip [true,false]),∃q'∈dZ (cn bs oZ sg l r) (ws.zip [true,false]),q'.1=q.1/\Sub q.2 q'.2:=by
  intro sg l r ol or q hq;unfold dZ at hq ⊢;obtain⟨x,hx,e⟩:=zbw.mp hq;obtain⟨u,eu,rfl⟩:=zaD.mp e;obtain⟨u',TX,s⟩:=AR h hr ol or eu;exact⟨(x.1,u'),zbw.mpr ⟨x,hx,by rw[TX];rfl⟩,rfl,s⟩
 intro q hq;cases st with
 |ask k b=>
  cases zan.mp hq;exact⟨_,zan.mpr rfl,rfl,h.put ⟨za7 _,za7 _⟩⟩
 |put k b e=>
  cases zan.mp hq;have at_:∀x∈bs.map (·.name),fg (cV bs rs x) (cV bs oZ x)/\(cV bs rs x).1<=(cV bs rs x).2:=fun x hx=>by
   have ll:=hr.bd.1;refine⟨h.at_ ll hx,hr.le _ ?_⟩;have hi:=iL hx;unfold cV;rw[zaf,zaa (by lia)];exact zao _
  obtain⟨a1,a2⟩:=vo at_ own.2.1;refine⟨_,zan.mpr rfl,rfl,h.put (Fs a1 a2 ?_)⟩;rw[vm own.1];exact sz _ (zao _)
 |fD k sg l r=>exact Wj own.2.1.1 own.2.2.1 q hq
 |ifs k sg l r a b=>exact Wj own.2.1.1 own.2.2.1.1 q hq
 |fK k sg l r a=>exact Wj own.2.1.1 own.2.2.1.1 q hq
 |say k e=>cases zan.mp hq;exact⟨_,zan.mpr rfl,rfl,h⟩
 |stop k=>cases zan.mp hq;exact⟨_,zan.mpr rfl,rfl,h⟩
end
end L2
namespace L2
theorem YE{α β γ:Type}(F:α->β->γ->Prop->Prop):∃X:α->β->γ->Prop,(∀a b c,(∀zq,F a b c zq->zq)->X a b c)/\∀a b c,X a b c->∀zq,F a b c zq->zq:=⟨fun a b c=>∀zq,F a b c zq->zq,fun _ _ _ h=>h,fun _ _ _ h=>h⟩
open PyProof.Rows PySem PySem.Spec
theorem DM{kvs:List (Key×V)}{vs:List (Key×zdK)}(r:KV kvs vs):kvs.map (·.1)=vs.map (·.1):=by
 unfold KV at r
 induction r with
 |nil=>rfl
 |cons h _ ih=>rw[zaq,zaq,h.1,ih]
def Oj (K:zab):R2:=fun x y H Q=>∃l,Rep K H (.tup l) x/\Rep K H (.tup l) y/\(Dp.tup l).deep<=60/\Q (.bl true) H
theorem Lc{X:Cx}(hu:X.A.units+64<cLine):nU X (compareOp .Eq) (Oj X.K):=by
 intro pins s σ H x y v u Q I rx ry h;obtain⟨l,h1,h2,hd,q⟩:=h;rw[Rep.bj] at h1 h2;obtain⟨p,xs,rfl,q1,w1⟩:=h1;obtain⟨p',Vp,rfl,q2,w2⟩:=h2;cases (show v=Value.ref p from rx);cases (show u=Value.ref p' from ry);obtain⟨aY,v1,t1,_⟩:=I.tuple q1;obtain⟨its',v2,t2,_⟩:=I.tuple q2;unfold Dp.deep at hd;have items:=mz I w1 w2 v1 v2 (A:=X.A.in1) (by show X.A.units+1+_<_;lia);have n1:aY.length=its'.length:=by rw[<- v1.length,<- v2.length,w1.length,w2.length]
 refine SeqAt.eq_tupleAt (e:=fun _=>true) t1 t2 (by lia) (fun j h1 h2=>items j aY[j] its'[j] (by simp at h1;simp[h1]) (by simp at h2;simp[h2])) ?_;rw[all_true];have:(aY.toArray.size==its'.toArray.size)=true:=by simp[n1]
 rw[this];exact⟨.bl true,H,I,rfl,q⟩
mutual
theorem RL{nm:PM.W->Prop}{ex:PM.Tr->Prop}{sg:PM.W->Prop}(he:∀e,ex e->PG.iz e<=2):∀s:PG.bo,PG.vS nm ex sg s->Yq s
 |.ask k b,h=>by simp only[PG.vS] at h ⊢
 |.put k b e,h=>by simp only[PG.vS] at h ⊢;exact⟨trivial,he _ h.2⟩
 |.say k e,h=>by simp only[PG.vS] at h ⊢;exact he _ h
 |.fD k sg l r,h=>by simp only[PG.vS] at h ⊢;exact⟨trivial,he _ h.2.1,he _ h.2.2⟩
 |.stop k,h=>by simp only[PG.vS]
 |.ifs k sg l r a b,h=>by simp only[PG.vS] at h ⊢;exact⟨trivial,he _ h.2.1,he _ h.2.2.1,AS he a h.2.2.2.1,AS he b h.2.2.2.2⟩
 |.fK k sg l r a,h=>by simp only[PG.vS] at h ⊢;exact⟨trivial,he _ h.2.1,he _ h.2.2.1,AS he a h.2.2.2⟩
theorem AS{nm:PM.W->Prop}{ex:PM.Tr->Prop}{sg:PM.W->Prop}(he:∀e,ex e->PG.iz e<=2):∀b:List PG.bo,PG.tN nm ex sg b->Rj b
 |[],h=>by simp only[PG.tN]
 |s::r,h=>by simp only[PG.tN] at h ⊢;exact⟨RL he s h.1,AS he r h.2⟩
end
theorem Ld{pr:PG.Prog}(dr:KO pr):(Dp.tup [.lst (pr.ay.map jz),.lst (pr.body.map eF)]).deep<=60:=by
 have h1:=kF _ (AS (fun _ h=>h.2) _ dr.own);have h2:=dr.dep;have h3:=uV pr.ay;rw[cG] at h1;simp only[Dp.deep,Dp.fA];lia
end L2
namespace L2
open PySem PySem.W PyProof.Rows
inductive Ev{α:Type}(lt:Nat->Nat->Bool)(n:Nat):KasT α->α->Prop
 |ret (a:α):Ev lt n (.ret a) a
 |ask {i j:Nat} {k:Bool->KasT α} {a:α}:i<n->j<n->i≠j->Ev lt n (k (lt i j)) a->Ev lt n (.ask i j k) a
theorem Ev.wp{α:Type}{lt:Nat->Nat->Bool}{n:Nat}{cmp:Nat->Nat->(Bool->zdT->Prop)->zdT->Prop}{s:zdT}(hc:∀i j,i<n->j<n->i≠j->∀C:Bool->zdT->Prop,C (lt i j) s->cmp i j C s){t:KasT α}{a:α}{Q:α->zdT->Prop}(e:Ev lt n t a)(q:Q a s):t.kasWp cmp Q s:=by
 induction e with
 |ret a=>exact q
 |ask hi hj hn _ ih=>exact hc _ _ hi hj hn _ (ih q)
theorem Ev.bind{α β:Type}{lt:Nat->Nat->Bool}{n:Nat}{t:KasT α}{a:α}{f:α->KasT β}{b:β}(e:Ev lt n t a)(h:Ev lt n (f a) b):Ev lt n (t.bind f) b:=by
 induction e with
 |ret a=>exact h
 |ask hi hj hn _ ih=>exact .ask hi hj hn (ih h)
section
variable{key:Nat->Int}{n:Nat}
abbrev klt (key:Nat->Int):Nat->Nat->Bool:=fun i j=>decide (key i<key j)
def kk (key:Nat->Int) (p:Array Nat) (i:Nat):Int:=key (p.getD i 0)
def Pm (n:Nat) (p:Array Nat):Prop:=p.toList.Perm (zaC n)
theorem Pm.size{p:Array Nat}(h:Pm n p):p.size=n:=by have:=List.Perm.length_eq h;simpa using this
theorem Pm.lt{p:Array Nat}(h:Pm n p){i:Nat}(hi:i<n):p.getD i 0<n:=by
 have hs:=h.size;have e:p.getD i 0=p[i]'(by lia):=by simp[zch,show i<p.size by lia]
 rw[e];have:p[i]'(by lia)∈zaC n:=(List.Perm.mem_iff h).mp (by simp);exact zbv.mp this
theorem Pm.un{p:Array Nat}(h:Pm n p){i j:Nat}(hi:i<n)(hj:j<n)(e:i≠j):p.getD i 0≠p.getD j 0:=fun z=>e (by
 have hs:=h.size;have e1:p.getD i 0=p.toList[i]'(by simp;lia):=by simp[zch,show i<p.size by lia]
 have e2:p.getD j 0=p.toList[j]'(by simp;lia):=by simp[zch,show j<p.size by lia]
 rw[e1,e2] at z;have nd:p.toList.Nodup:=(List.Perm.nodup_iff h).mpr List.nodup_range;exact(zb6 nd).mp z)
theorem Pm.ne{p:Array Nat}(h:Pm n p)(inj:∀i j,i<n->j<n->key i=key j->i=j){i j:Nat}(hi:i<n)(hj:j<n)(e:kk key p i=kk key p j):i=j:=by
 have:=inj _ _ (h.lt hi) (h.lt hj) e;exact Classical.byContradiction fun z=>h.un hi hj z this
theorem Ie{p:Array Nat}{m:Nat}(hm:m<=p.size)(i:Nat)(hi:i<m):kk key (kas_rev p 0 m) i=kk key p (m-1-i):=by
 have e:=getElem?_mirror_all (i:=0) hm i;unfold kk kas_rev;rw[zbd,e,if_pos ⟨zaI _,hi⟩,zbd,Nat.zero_add]
theorem Pm.rev{p:Array Nat}(h:Pm n p)(i j:Nat):Pm n (kas_rev p i j):=(zcQ.mp (mirror_perm p i j _)).trans h
theorem CD{p:Array Nat}(h:Pm n p):∀(f a:Nat),1<=a->a+f<=n->∃m,Ev (klt key) n (kas_asc p f a) m/\a<=m/\m<=a+f/\(∀i,a<=i->i<m->kk key p (i-1)<=kk key p i)/\(m=a+f\/kk key p m<kk key p (m-1))
 |0,a,_,_=>⟨a,.ret _,zaj _,zaj _,fun i h1 h2=>by lia,.inl rfl⟩
 |f+1,a,h1,h2=>by
  by_cases c:key (p.getD a 0)<key (p.getD (a-1) 0)
  ·refine⟨a,.ask (h.lt (by lia)) (h.lt (by lia)) (h.un (by lia) (by lia) (by lia)) ?_,zaj _,by lia,fun i h1 h2=>by lia,.inr c⟩;rw[klt,decide_eq_true c,if_pos rfl];exact .ret _
  ·obtain⟨m,e,l1,l2,s,t⟩:=CD h f (a+1) (by lia) (by lia);refine⟨m,.ask (h.lt (by lia)) (h.lt (by lia)) (h.un (by lia) (by lia) (by lia)) ?_,by lia,by lia,fun i h1 h2=>?_,by rcases t with t |t;exact .inl (by lia);exact .inr t⟩
   ·rw[klt,decide_eq_false c,if_neg (by decide)];exact e
   ·by_cases z:i=a
    ·subst z;exact Int.not_lt.mp c
    ·exact s i (by lia) h2
theorem DN{p:Array Nat}(h:Pm n p)(inj:∀i j,i<n->j<n->key i=key j->i=j):∀(f a:Nat),1<=a->a+f<=n->∃m,Ev (klt key) n (kas_desc f p a 0) (p,m,0)/\a<=m/\m<=a+f/\∀i,a<=i->i<m->kk key p i<kk key p (i-1)
 |0,a,_,_=>⟨a,.ret _,zaj _,zaj _,fun i h1 h2=>by lia⟩
 |f+1,a,h1,h2=>by
  by_cases c:key (p.getD a 0)<key (p.getD (a-1) 0)
  ·obtain⟨m,e,l1,l2,s⟩:=DN h inj f (a+1) (by lia) (by lia);refine⟨m,.ask (h.lt (by lia)) (h.lt (by lia)) (h.un (by lia) (by lia) (by lia)) ?_,by lia,by lia,fun i h1 h2=>?_⟩
   ·rw[klt,decide_eq_true c,if_pos rfl,if_neg (by decide)];exact e
   ·by_cases z:i=a
    ·subst z;exact c
    ·exact s i (by lia) h2
  ·refine⟨a,.ask (h.lt (by lia)) (h.lt (by lia)) (h.un (by lia) (by lia) (by lia)) ?_,zaj _,by lia,fun i h1 h2=>by lia⟩;rw[klt,decide_eq_false c,if_neg (by decide)];refine .ask (h.lt (by lia)) (h.lt (by lia)) (h.un (by lia) (by lia) (by lia)) ?_;have d:key (p.getD (a-1) 0)<key (p.getD a 0):=by
    have:=fun z=>h.ne inj (i:=a-1) (j:=a) (by lia) (by lia) z;unfold kk at this;lia
   rw[klt,decide_eq_true d,if_pos rfl];exact .ret _
def So (key:Nat->Int) (p:Array Nat) (m:Nat):Prop:=∀i j,i<=j->j<m->kk key p i<=kk key p j
theorem tT{p:Array Nat}{m:Nat}(h:∀i,1<=i->i<m->kk key p (i-1)<=kk key p i):So key p m:=by
 intro i j hij
 induction j with
 |zero=>intro _;rw[show i=0 by lia];exact za7 _
 |succ j ih=>
  intro hj;by_cases z:i=j+1
  ·rw[z];exact za7 _
  ·exact zcf (ih (by lia) (by lia)) (h (j+1) (by lia) hj)
theorem Le{p:Array Nat}(h:Pm n p){m:Nat}(h1:1<=m)(h2:m<=n)(d:∀i,1<=i->i<m->kk key p i<kk key p (i-1)):∃r,Ev (klt key) n (kas_tail3 m n p) (r,kas_rev p 0 m)/\m<=r/\r<=n/\So key (kas_rev p 0 m) r:=by
 obtain⟨r,e,l1,l2,s,_⟩:=CD (key:=key) (h.rev 0 m) (n-m) m h1 (by lia);have hs:=h.size;refine⟨r,e.bind (.ret _),l1,by lia,tT fun i a b=>?_⟩;by_cases z:i<m
 ·rw[Ie (by lia) i z,Ie (by lia) (i-1) (by lia)];have:=d (m-1-(i-1)) (by lia) (by lia);rw[show m-1-(i-1)-1=m-1-i by lia] at this;exact Int.le_of_lt this
 ·exact s i (by lia) b
theorem Ig{p:Array Nat}(h:Pm n p)(inj:∀i j,i<n->j<n->key i=key j->i=j)(h1:1<=n):∃m p',Ev (klt key) n (kas_count n p) (m,p')/\Pm n p'/\1<=m/\m<=n/\So key p' m:=by
 obtain⟨m,e,l1,l2,s,t⟩:=CD (key:=key) h (n-1) 1 (zaj _) (by lia);by_cases c:m=n
 ·refine⟨m,p,e.bind ?_,h,l1,by lia,tT fun i a b=>s i a b⟩;rw[if_pos (by simp[c])];exact .ret _
 ·have t:kk key p m<kk key p (m-1):=t.resolve_left (by lia);by_cases c2:m>1
  ·have sm:So key p m:=tT fun i a b=>s i a b;refine⟨m,p,e.bind ?_,h,l1,by lia,sm⟩;rw[if_neg (by simp[c]),if_pos c2];refine .ask (h.lt (by lia)) (h.lt (by lia)) (h.un (by lia) (by lia) (by lia)) ?_;have d:key (p.getD 0 0)<key (p.getD (m-1) 0):=by
    have a1:=sm 0 (m-1) (by lia) (by lia);have a2:=fun z=>h.ne inj (i:=0) (j:=m-1) (by lia) (by lia) z;unfold kk at a1 a2;have:key (p.getD 0 0)≠key (p.getD (m-1) 0):=fun z=>by have:=a2 z;lia
    lia
   rw[klt,decide_eq_true d,if_pos rfl];exact .ret _
  ·have em:m=1:=by lia
   subst em;obtain⟨r,e2,k1,k2,s2⟩:=DN h inj (n-2) 2 (by lia) (by lia);obtain⟨r2,e3,k3,k4,s3⟩:=Le (key:=key) h (m:=r) (by lia) (by lia) fun i a b=>by
    by_cases z:i=1
    ·subst z;exact t
    ·exact s2 i (by lia) b
   refine⟨r2,_,e.bind ?_,h.rev 0 r,by lia,k4,s3⟩;rw[if_neg (by simp[c]),if_neg (by lia)];unfold kas_descPart;refine Ev.bind e2 ?_;rw[if_neg (by simp)];exact e3
theorem vp{p:Array Nat}(h:Pm n p){k:Nat}(hk:k<n)(so:So key p k):∀(f l r:Nat),l<=r->r<=k->r-l<=f->(∀i,i<l->kk key p i<=kk key p k)->(∀i,r<=i->i<k->kk key p k<kk key p i)->∃m,Ev (klt key) n (kas_place p k f l r) m/\m<=k/\(∀i,i<m->kk key p i<=kk key p k)/\∀i,m<=i->i<k->kk key p k<kk key p i
 |0,l,r,a,b,c,d,e=>⟨l,.ret _,by lia,d,fun i x y=>e i (by lia) y⟩
 |f+1,l,r,a,b,c,d,e=>by
  unfold kas_place;by_cases z:l ≥ r
  ·rw[if_pos z];exact⟨l,.ret _,by lia,d,fun i x y=>e i (by lia) y⟩
  ·rw[if_neg z];by_cases g:key (p.getD k 0)<key (p.getD ((l+r)/2) 0)
   ·obtain⟨m,v,w1,w2,w3⟩:=vp h hk so f l ((l+r)/2) (by lia) (by lia) (by lia) d fun i x y=>by
     have:=so ((l+r)/2) i x y;unfold kk at this ⊢;lia
    refine⟨m,.ask (h.lt hk) (h.lt (by lia)) (h.un hk (by lia) (by lia)) ?_,w1,w2,w3⟩;rw[klt,decide_eq_true g,if_pos rfl];exact v
   ·obtain⟨m,v,w1,w2,w3⟩:=vp h hk so f ((l+r)/2+1) r (by lia) b (by lia) (fun i x=>by
     have:=so i ((l+r)/2) (by lia) (by lia);unfold kk at this ⊢;lia) e
    refine⟨m,.ask (h.lt hk) (h.lt (by lia)) (h.un hk (by lia) (by lia)) ?_,w1,w2,w3⟩;rw[klt,decide_eq_false g,if_neg (by decide)];exact v
theorem Ih{p:Array Nat}{k m:Nat}(hk:k<p.size)(hm:m<=k)(i:Nat):kk key (bubble p k (k-m)) i=if i=m then kk key p k else if m<i/\i<=k then kk key p (i-1) else kk key p i:=by
 have e:=getElem?_bubble hk (k-m) (by lia) i;rw[show k-(k-m)=m by lia] at e;unfold kk;rw[zbd,e];by_cases c:i=m
 ·rw[if_pos c,if_pos c,zbd]
 ·rw[if_neg c,if_neg c];by_cases d:m<i/\i<=k
  ·rw[if_pos d,if_pos d,zbd]
  ·rw[if_neg d,if_neg d,zbd]
theorem Ii:∀(f k:Nat) (p:Array Nat),Pm n p->k+f=n->So key p k->∃p',Ev (klt key) n (kas_bin f p k) p'/\Pm n p'/\So key p' n
 |0,k,p,h,e,s=>⟨p,.ret _,h,by rw[<- e];exact s⟩
 |f+1,k,p,h,e,s=>by
  obtain⟨m,v,w1,w2,w3⟩:=vp h (k:=k) (by lia) s k 0 k (zaI _) (zaj _) (by lia) (fun i x=>by lia) (fun i x y=>by lia);have hs:=h.size;obtain⟨p',e1,e2,e3⟩:=Ii f (k+1) (bubble p k (k-m)) ((zcQ.mp (bubble_perm p k _)).trans h) (by lia) (tT fun i a b=>by
   rw[Ih (by lia) w1,Ih (by lia) w1];have q1:=w2 (i-1);have q2:=w3 (i-1);have q3:=s (i-1) i (by lia);have q4:=s (i-1-1) (i-1) (by lia);have q5:=w2 i;split
   ·split
    ·lia
    ·split<;>lia
   ·split
    ·split
     ·lia
     ·split
      ·lia
      ·lia
    ·split
     ·lia
     ·split
      ·lia
      ·lia)
  exact⟨p',Ev.bind v e1,e2,e3⟩
theorem Lf(inj:∀i j,i<n->j<n->key i=key j->i=j)(h1:1<=n):∃p,Ev (klt key) n (kas_sort n) p/\Pm n p/\So key p n:=by
 obtain⟨m,p,e,h,l1,l2,s⟩:=Ig (key:=key) (p:=zbn (zaC n)) (show Pm n _ from by unfold Pm;exact List.Perm.refl _) inj h1;by_cases c:m<n
 ·rw[show m=max m 1 by lia] at s;obtain⟨p',e1,e2,e3⟩:=Ii (key:=key) (n-max m 1) (max m 1) p h (by lia) s;refine⟨p',Ev.bind e ?_,e2,e3⟩;rw[if_pos c];exact e1
 ·refine⟨p,Ev.bind e ?_,h,by rw[show n=m by lia];exact s⟩;rw[if_neg c];exact .ret _
end
section
variable{prog:zdV}{w:zdL}{A:zdU}{E:zdK->zdT->Prop}{s:zdT}
structure AU(h:Heap)(vs:List zdK)(ks:List Int):Prop where
 len:vs.length=ks.length
 nd:ks.Nodup
 at_:∀(i:Nat) (k:Int),ks[i]?=some k->∃p t x,vs[i]?=some (.ref p)/\h.get? p=some ({cls:=.type "tuple",data:=.seq #[.int k t,x]}:Obj)
theorem AU.mono{h h':Heap}{vs:List zdK}{ks:List Int}(T:AU h vs ks){a:zdJ}{o:Obj}(ha:h.get? a=some (seqObj "list" vs.toArray n))(k:∀b o,b≠a->h.get? b=some o->h'.get? b=some o):AU h' vs ks:=⟨T.len,T.nd,fun i x e=>by
 obtain⟨p,t,y,e1,e2⟩:=T.at_ i x e;exact⟨p,t,y,e1,k p _ (fun z=>by
  subst z;rw[ha] at e2;have:=congrArg Obj.cls (zaH.inj e2);simp[seqObj] at this) e2⟩⟩
def lX (ks:List Int) (i:Nat):Int:=ks.getD i 0
theorem Ol{vs:List zdK}{ks:List Int}(T:AU s.heap vs ks){i j:Nat}(hi:i<vs.length)(hj:j<vs.length)(ne:i≠j){C:Bool->zdT->Prop}(h:C (klt (lX ks) i j) s):kas_cmp prog w A (tuples' true) (pairsOf vs) i j C s:=by
 have li:i<ks.length:=by rw[<- T.len];exact hi
 have lj:j<ks.length:=by rw[<- T.len];exact hj
 obtain⟨p,t,x,e1,e2⟩:=T.at_ i _ (zaa li);obtain⟨q,u,y,e3,e4⟩:=T.at_ j _ (zaa lj);have k1:lX ks i=ks[i]:=by unfold lX;rw[zaf,zaa li];rfl
 have k2:lX ks j=ks[j]:=by unfold lX;rw[zaf,zaa lj];rfl
 have nk:ks[i]≠ks[j]:=fun z=>ne ((zb6 T.nd).mp z);rw[klt,k1,k2] at h;unfold kas_cmp;rw[kas_item_eq,kas_item_eq,zaf,zaf,e1,e3];show wpAny (model prog w) A (keyLt' (tuples' true) (.ref p) (.ref q)) C (fun _ _=>False) s;refine kat_lt e2 rfl e4 rfl ?_;show KatLex prog w A true _ C [(.int ks[i] t,.int ks[j] u),(x,y)] 0 s;refine kat_cons (wpAny_eqBool_int ?_);rw[show (ks[i]==ks[j])=false from beq_eq_false_iff_ne.mpr nk];exact kat_no (oneLt_int h)
theorem Ij{h:Heap}{vs:List zdK}{ks:List Int}(T:AU h vs ks):∃fs:List zdK,fs.length=ks.length/\KatTups h vs fs/\∀v∈fs,∃k t,v=Value.int k t:=by
 obtain⟨l,nd,at_⟩:=T;clear nd
 induction vs generalizing ks with
 |nil=>cases ks with
  |nil=>exact⟨[],rfl,.nil,fun v h=>by cases h⟩
  |cons _ _=>cases l
 |cons v r ih=>cases ks with
  |nil=>cases l
  |cons k m=>
   obtain⟨fs,l1,t1,q1⟩:=ih (Nat.succ.inj l) fun i x e=>at_ (i+1) x e;obtain⟨p,t,x,e1,e2⟩:=at_ 0 k rfl;cases e1;refine⟨.int k t::fs,by simp[l1],.cons e2 rfl rfl rfl t1,fun v hv=>?_⟩;rcases zag.mp hv with rfl |hv
   ·exact⟨_,_,rfl⟩
   ·exact q1 v hv
theorem CF{a:zdJ}{vs:List zdK}{ks:List Int}{n:Nat}{P:PySem.Fin->zdT->Prop}(ho:s.heap.get? a=some (seqObj "list" vs.toArray n))(T:AU s.heap vs ks)(Wk:vs.length<64)
 (h:∀p:Array Nat,Pm vs.length p->So (lX ks) p vs.length->P (.done (.ret .none)) {s with heap:=sortedHeap s.heap a vs (zbn (p.toList.map fun i=>vs.getD i Value.none))}) :
 wpAny (model prog w) A (Builtin.«list.sort» ⟨[.ref a],[]⟩) P E s:=by
 rw[list_sort_plain];have ha:a<s.heap.objs.size:=Heap.lt_size ho;refine zdM (listItems_at ho rfl ?_);refine zdM (listUpdate_at ho rfl ?_);obtain⟨e1,PU⟩:∃e1,(s.heap.update a (Obj.mapSeq fun _=>#[])).get? a=some (seqObj "list" #[] e1):=⟨_,get?_update_seq ho (fun _=>#[])⟩
 refine zdM (seqEpoch_at PU rfl ?_);refine zdM (wpAny_newTuple ?_);refine zdM (wpAny_newList ?_);refine zdO ?_;have RM:(((s.heap.update a (Obj.mapSeq fun _=>#[])).push (seqObj "tuple" vs.toArray 0)).push (seqObj "list" #[] 0)).get? a=some (seqObj "list" #[] e1):=by
  rw[Heap.get?_push_ne _ _ _ (by rw[size_push',Heap.size_update];exact zat (zb0 ha)),Heap.get?_push_ne _ _ _ (by rw[Heap.size_update];exact zat ha)];exact PU
 have T6:AU (((s.heap.update a (Obj.mapSeq fun _=>#[])).push (seqObj "tuple" vs.toArray 0)).push (seqObj "list" #[] 0)) vs ks:=T.mono (o:=seqObj "list" #[] 0) ho fun b o nb e=>by
  have jR:b<s.heap.objs.size:=Heap.lt_size e;rw[Heap.get?_push_ne _ _ _ (by rw[size_push',Heap.size_update];exact zat (zb0 jR)),Heap.get?_push_ne _ _ _ (by rw[Heap.size_update];exact zat jR),Heap.get?_update_ne _ _ _ _ nb];exact e
 show wpAny (model prog w) A _ P E {s with heap:=((s.heap.update a (Obj.mapSeq fun _=>#[])).push (seqObj "tuple" vs.toArray 0)).push (seqObj "list" #[] 0)};dsimp only;have inj:∀i j,i<vs.length->j<vs.length->lX ks i=lX ks j->i=j:=fun i j hi hj e=>by
  have li:i<ks.length:=by rw[<- T.len];exact hi
  have lj:j<ks.length:=by rw[<- T.len];exact hj
  unfold lX at e;rw[zaf,zaf,zaa li,zaa lj] at e;exact(zb6 T.nd).mp e
 by_cases h2:vs.toArray.size<2
 ·rw[if_pos h2,if_pos h2];refine zdM (zdN ?_);rw[StateT.run_pure];refine zdM (zdN ?_);dsimp only;refine zdM (seqEpoch_at RM rfl ?_);have hsz:vs.toArray.size=vs.length:=by simp
  have eo:(arrOf (SortSt.mk' general' (vs.toArray.zip vs.toArray) #[] 7 none)).map (·.2)=zbn ((zbn (zaC vs.length)).toList.map fun i=>vs.getD i Value.none):=by
   show (vs.toArray.zip vs.toArray).map (·.2)=_;have hl:vs.length<2:=by rw[<- hsz];exact h2
   clear h ho RM T6 inj T h2 hsz;cases vs with
   |nil=>simp
   |cons x r=>cases r with
    |nil=>simp[zcz]
    |cons y r=>simp at hl;lia
  refine zdM (listUpdate_at RM rfl ?_ (hsz2:=by rw[Array.size_map];show (pairsOf vs).size<=_;rw[pairsOf_size,sizeLine_eq];omega));simp only[bne_self_eq_false,zaF,if_false];rw[eo];refine zdN (h (zbn (zaC vs.length)) (List.Perm.refl _) fun i j hij hj=>?_);have:i=j:=by lia
  subst this;exact za7 _
 ·rw[if_neg h2,if_neg h2];have l2:2<=vs.length:=by simp at h2;exact h2
  obtain⟨fs,lf,kt,ft⟩:=Ij T6;refine zdM (kat_kind (s:={s with heap:=((s.heap.update a (Obj.mapSeq fun _=>#[])).push (seqObj "tuple" vs.toArray 0)).push (seqObj "list" #[] 0)}) (T:=Value.type "int") kt (by rw[lf,<- T.len];lia) (fun v hv=>by obtain⟨k,t,rfl⟩:=ft v hv;exact .now) (by decide) ?_);obtain⟨p,ev,pm,so⟩:=Lf (key:=lX ks) inj (by lia);have AV:SortSt.mk' (tuples' true) (vs.toArray.zip vs.toArray) #[] 7 none=kas_st (tuples' true) (pairsOf vs) (zbn (zaC vs.length)):=by
   have e:=kas_range (pairsOf vs);rw[pairsOf_size] at e;show SortSt.mk' (tuples' true) (pairsOf vs) #[] 7 none=SortSt.mk' (tuples' true) ((zbn (zaC vs.length)).map (kas_item (pairsOf vs))) #[] 7 none;rw[e]
  have run:=kas_runs (prog:=prog) (w:=w) (A:=A) (E:=E) (κ:=tuples' true) (it:=pairsOf vs) (s:={s with heap:=((s.heap.update a (Obj.mapSeq fun _=>#[])).push (seqObj "tuple" vs.toArray 0)).push (seqObj "list" #[] 0)})
   (Q:=fun _ ud s'=>arrOf ud=p.map (kas_item (pairsOf vs))/\failedOf ud=none/\s'={s with heap:=((s.heap.update a (Obj.mapSeq fun _=>#[])).push (seqObj "tuple" vs.toArray 0)).push (seqObj "list" #[] 0)})
   (G:=fun p' s'=>p'=p/\s'={s with heap:=((s.heap.update a (Obj.mapSeq fun _=>#[])).push (seqObj "tuple" vs.toArray 0)).push (seqObj "list" #[] 0)})
   l2 Wk (fun p' ud s' a1 a2 a3 a4=>by obtain⟨rfl,rfl⟩:=a4;exact⟨a2,a3,rfl⟩) (ev.wp (fun i j hi hj ne C hC=>Ol (s:={s with heap:=((s.heap.update a (Obj.mapSeq fun _=>#[])).push (seqObj "tuple" vs.toArray 0)).push (seqObj "list" #[] 0)}) T6 hi hj ne hC) ⟨rfl,rfl⟩)
  rw[<- AV] at run;refine zdM (wpAny_mono run ?_ fun _ _ e=>e)
  rintro ⟨⟨⟩,ud⟩ s' ⟨har,hf,rfl⟩
  dsimp only;have Wl:(arrOf ud).map (·.2)=zbn (p.toList.map fun i=>vs.getD i Value.none):=by
   apply Array.toList_inj.mp
   rw[har,Array.map_map,Array.toList_map];exact zbq fun i _=>by show (kas_item (pairsOf vs) i).2=_;rw[kas_item_eq]
  have hsz:(zbn (p.toList.map fun i=>vs.getD i Value.none)).size=vs.length:=by rw[zas,zad,zaN,pm.size]
  rw[Wl];refine zdM (seqEpoch_at RM rfl ?_);refine zdM (listUpdate_at RM rfl ?_ (zaI _) (zax (zc0 hsz) (by rw[sizeLine_eq];omega)));rw[hf];simp only[bne_self_eq_false,zaF,if_false];exact zdN (h p pm so)
end
open PySem.Spec
def Mz (H N:Hp):Hp:=fun b=>match N b with
 |some o=>some o
 |none=>H b
theorem yx{H N:Hp}{b:zdJ}{o:HO}(h:N b=some o):Mz H N b=some o:=by unfold Mz;rw[h]
theorem yA{H N:Hp}{b:zdJ}(h:N b=none):Mz H N b=H b:=by unfold Mz;rw[h]
section
variable{X:Cx}{pins:List (zdJ×Obj)}{σ:St}{H N:Hp}{s:zdT}{h':Heap}
theorem kH(h:∀b o,H b=some o->N b=none):aq H (Mz H N):=fun b o e=>by rw[yA (h b o e)];exact e
theorem Inv.RN{t':Nat}(I:Inv X pins σ H s)(k:∀b u,s.heap.get? b=some u->h'.get? b=some u)(hp:∀b o,N b=some o->s.heap.objs.size<=b/\ck X.prog X.w (Mz H N) h' b o):Inv X pins σ (Mz H N) {s with heap:=h',toks:=t' }:=by
 have nn:∀b,b<s.heap.objs.size->N b=none:=fun b hb=>by
  cases e:N b with
  |none=>rfl
  |some o=>exact absurd (hp b o e).1 (Nat.not_le.mpr hb)
 have nH:∀b o,H b=some o->N b=none:=fun b o e=>nn b (I.cc.lt e);refine I.un ⟨fun b u q _ _ _=>k b u q,fun b u q _ _ _=>⟨u.slots,k b u q⟩,fun b u q n _=>by rw[yA (nn b (Heap.lt_size q))];exact n,fun b u q _=>⟨u,k b u q⟩,fun b xs q=>kH nH _ _ q,fun b u xs q=>kH nH _ _ q,fun b ps q=>⟨#[],by rw[kH nH _ _ q];simp⟩⟩ fun b u e=>?_;cases hb:N b with
 |some o=>
  rw[yx hb] at e;cases e;exact(hp b _ hb).2
 |none=>
  rw[yA hb] at e;exact(I.cc b u e).zK (fun c v _ q=>k c v q) (fun c q=>kH nH _ _ q) fun c xs q=>kH nH _ _ q
end
theorem Paired.AW{α β:Type}{F:α->β->Prop}{l1:List α}{l2:List β}(r:Paired F l1 l2){i:Nat}{a:α}{b:β}(h1:l1[i]?=some a)(h2:l2[i]?=some b):F a b:=by
 induction r generalizing i with
 |nil=>cases h1
 |cons h _ ih=>
  cases i with
  |zero=>cases h1;cases h2;exact h
  |succ i=>exact ih h1 h2
theorem xw:∀l:List zdJ,Vals (l.map V.ref) (l.map Value.ref)
 |[]=>.nil
 |_::r=>.cons rfl (xw r)
theorem DO{α:Type}:∀ {l:List (zdJ×α)},(l.map (·.1)).Nodup->∀q∈l,l.find? (fun z=>z.1==q.1)=some q
 |a::r,nd,q,hq=>by
  rcases zag.mp hq with rfl |hq
  ·simp
  ·rw[zaq,zam] at nd;have:(a.1==q.1)=false:=beq_eq_false_iff_ne.mpr fun z=>nd.1 (zaJ.mpr ⟨q,hq,z.symm⟩);rw[zbo,this];exact DO nd.2 q hq
section
variable{X:Cx}{e:Expr}{to:TE}{apos hG:Pos}
def RO (to:TE):TE:=fun σ H Q=>to σ H fun x H1=>∃d kvs,x=.ref d/\H1 d=some (.dK kvs)/\∀p,H1 p=none->Q (.ref p) (upd H1 p (.ext (tQ p d)))
theorem Fw(ho:PE X e to)(zZ:attributeBase e "items" X.env (eval e X.env)=eval e X.env:=by rfl)(z0:(apos.endLine==hG.line)=true:=by rfl):PE X (.Call (.Attribute e "items" apos) [] [] hG) (RO to):=by
 intro pins s σ H Q I h;refine wpAny_Call_method0_late zZ z0 (cS (ho pins s σ H _ I h) fun v s1 zqz=>?_);obtain⟨x,H1,I1,r1,q1⟩:=zqz;obtain⟨d,kvs,rfl,hd,q⟩:=q1;cases r1;obtain⟨z,sy,vs,rel,o,es,ep,h1,h2,h3,h4⟩:=xi I1.cc hd;refine⟨"dict", "dict.items",zcl,zdb,PySem.F.type_dict_items,⟨o,h1,h2.1⟩,fun a e2=>by cases e2;exact⟨o,h1,h2.2.1⟩,Calls.callWith_builtin rfl (PySem.evalArgs_none ?_)⟩;refine call_meetsIn zdb ⟨o,h1,h2.1⟩ PySem.F.entry_dict_items (PySem.F.args_dict_items_1 _) (Ax d sy) ⟨⟨es,ep,o,h1,h2,h3⟩,?_⟩;refine⟨.ref s1.heap.objs.size,_,I1.laid (a:=s1.heap.objs.size) (o:=.ext (tQ s1.heap.objs.size d)) (t':=s1.toks) (fun _ _ q=>Heap.get?_push_of_some _ q) (zaj _) ⟨⟨_,Heap.get?_push_size _ rfl,rfl,rfl⟩,⟨_,Heap.get?_push_size _ rfl⟩,fun g1 g2 p1 kp=>?_⟩,rfl,q _ (I1.cc.fresh (zaj _))⟩;obtain⟨ob,e1,e2⟩:=p1;exact⟨ob,kp ob e1,e2⟩
end
def DP (H:Hp) (ps:List zdJ) (kvs:List (Int×V)):Prop:=ps.length=kvs.length/\∀(i:Nat) (p:zdJ) (kv:Int×V),ps[i]?=some p->kvs[i]?=some kv->H p=some (.tup [.int kv.1,kv.2])
def kI (kv:Int×V):Key×V:=(.inl kv.1,kv.2)
theorem yC{X:Cx}(hc:X.calm=true):gV X (.builtin "sorted") (fun xs H Q=>∃(p d:zdJ) (kvs:List (Int×V)),xs=[.ref p]/\H p=some (.ext (tQ p d))/\H d=some (.dK (kvs.map kI))/\kvs≠[]/\kvs.length<64/\
 ∀(l:zdJ) (RP:List (Int×V)) (ps:List zdJ) (H':Hp),aq H H'->H l=none->RP.Perm kvs->RP.Pairwise (fun a b=>a.1<b.1)->DP H' ps RP->H' l=some (.lst (ps.map V.ref))->Q (.ref l) H'):=by
 intro pins s σ H xs us Q I r h;obtain⟨p,d,kvs,rfl,hp,hd,B4,hl,q⟩:=h;obtain⟨u,rfl,ru⟩:=vals1 r;cases (show u=Value.ref p from ru);obtain⟨z,sy,vs,rel,dd⟩:=xi I.cc hd;have hA:X.A.handled=none:=I.ok.hd hc;obtain⟨ep,dat⟩:=dd.dictAt;have hv:s.heap.IsItemsView p d:=(I.cc p _ hp).1;have lv:vs.length=kvs.length:=by rw[<- rel.length,zad]
 have line:zdR=2 ^ 24:=rfl;refine Calls.call_function_entry kind_sorted plain_sorted entry_sorted (args_sorted1 _) ?_;unfold Builtin.«sorted»;refine zdM (m:=checkCount "sorted" 1 1 _) (zdN ?_);refine zdM (kdx_collect (A:=X.A.in1) (knd:=bN X.prog X.w) (kvs:=vs) (ep:=ep) hA hv dat (by lia) fun h' tk as kp la G=>?_);have la:as.length=kvs.length:=by rw[la,lv]
 have nd:(kvs.map (·.1)).Nodup:=by
  obtain⟨_,_,_,_,_,_,_,nd⟩:=dat;rw[<- DM rel,za3] at nd;have e:(kvs.map ((fun x:Key×V=>x.1) ∘ kI))=(kvs.map (·.1)).map (Sum.inl:Int->Key):=by rw[za3];rfl
  rw[e] at nd;exact List.Pairwise.of_map (R:=(·≠·)) (S:=(·≠·)) _ (fun a b h z=>h (by rw[z])) nd
 have pairs:∀(j:Nat) (hj:j<kvs.length),∃t x,h'.get? (as[j]'(by lia))=some ({cls:=.type "tuple",data:=.seq #[.int kvs[j].1 t,x]}:Obj)/\RelV kvs[j].2 x:=fun j hj=>by
  obtain⟨key,k,x,e1,e2,e3⟩:=G.pairs j _ (zaa (by lia));have hr:=Paired.AW rel (i:=j) (a:=kI kvs[j]) (b:=(k,x)) (by rw[zal,zaa hj];rfl) e1;obtain⟨h1,h2⟩:=hr;cases (show Sum.inl kvs[j].1=k from h1);rcases cf (show pC (.inl kvs[j].1) key=true from e2) with ⟨i,t,e4,e5⟩ |⟨x,t,e4,e5⟩
  ·cases e4;subst e5;exact⟨t,x,e3,h2⟩
  ·cases e4
 have ndA:as.Nodup:=G.rise.imp zat;have YF:s.heap.objs.size<=h'.objs.size:=by
  have h0:0<as.length:=by
   rw[la];cases kvs with
   |nil=>exact absurd rfl B4
   |cons _ _=>exact zcF _
  exact zbz (zdF (G.above _ (zao h0)) (G.there (zao h0)))
 refine zdM (wpAny_newList ?_ (by rw[zad,la];lia));have Qx:(h'.push (seqObj "list" (as.map Value.ref).toArray 0)).get? h'.objs.size=some (seqObj "list" (as.map Value.ref).toArray 0):=Heap.get?_push_size _ rfl;have T:AU (h'.push (seqObj "list" (as.map Value.ref).toArray 0)) (as.map Value.ref) (kvs.map (·.1)):=⟨by rw[zad,zad,la],nd,fun j k e=>by
  rw[zal] at e;obtain⟨kv,e1,rfl⟩:=zaD.mp e;obtain⟨hj,rfl⟩:=zah.mp e1;obtain⟨t,x,e2,_⟩:=pairs j hj;exact⟨_,t,x,by rw[zal,zaa (by lia)];rfl,Heap.get?_push_of_some _ e2⟩⟩
 refine zdM (zdO (wpAny_call_entry slot_list_sort ⟨_,Qx,rfl⟩ entry_list_sort (CF Qx T (by rw[zad,la];exact hl) fun pm RQ so=>⟨_,rfl,?_⟩) (args_list_sort _)));rw[zad,la] at RQ so;have ps0:=RQ.size;obtain⟨pl,RR⟩:∃pl,pl=pm.toList:=⟨_,rfl⟩
 have Lg:pl.length=kvs.length:=by rw[RR,zaN,ps0]
 have RS:∀i∈pl,i<kvs.length:=fun i hi=>by rw[RR] at hi;exact zbv.mp ((List.Perm.mem_iff RQ).mp hi)
 have Lh:∀(i:Nat) (hi:i<pl.length),pm.getD i 0=pl[i]:=fun i hi=>by subst RR;simp[zch,show i<pm.size by lia]
 have eo:(pl.map fun i=>(as.map Value.ref).getD i Value.none)=(pl.map fun i=>as.getD i 0).map Value.ref:=by
  rw[za3];refine zbq fun i hi=>?_;have:=RS i hi;simp only[Function.comp,zaf,zal,zaa (show i<as.length by lia)];rfl
 rw[<- RR,eo];obtain⟨N,eN⟩:∃N:Hp,N=fun b=>if b=h'.objs.size then some (HO.lst ((pl.map fun i=>as.getD i 0).map V.ref)) else ((as.zip kvs).find? (fun z=>z.1==b)).map fun q=>HO.tup [.int q.2.1,q.2.2]:=⟨_,rfl⟩
 have RT:(as.zip kvs).map (·.1)=as:=by rw[List.map_fst_zip (by lia)]
 have NL:N h'.objs.size=some (HO.lst ((pl.map fun i=>as.getD i 0).map V.ref)):=by rw[eN];exact if_pos rfl
 have alt:∀(j:Nat) (hj:j<as.length),as[j]<h'.objs.size:=fun j hj=>G.there (zao hj);have NA:∀(j:Nat) (hj:j<kvs.length),N (as[j]'(by lia))=some (HO.tup [.int kvs[j].1,kvs[j].2]):=fun j hj=>by
  rw[eN];simp only;rw[if_neg (zat (alt j (by lia)))];have:=DO (l:=as.zip kvs) (by rw[RT];exact ndA) (as[j]'(by lia),kvs[j]) (zaG.mpr ⟨j,by rw[zbW];lia,by rw[List.getElem_zip]⟩);simp only at this;rw[this];rfl
 have old:∀b o,h'.get? b=some o->(sortedHeap (h'.push (seqObj "list" (as.map Value.ref).toArray 0)) h'.objs.size (as.map Value.ref) (zbn ((pl.map fun i=>as.getD i 0).map Value.ref))).get? b=some o:=fun b o e=>by
  have h2:=Heap.lt_size e;rw[sortedHeap_old (zat h2) (by rw[size_push'];lia),Heap.get?_push_ne _ _ _ (zat h2)];exact e
 obtain⟨Nk,hat⟩:=sortedHeap_at (out:=zbn ((pl.map fun i=>as.getD i 0).map Value.ref)) Qx;have I2:=I.RN (t':=tk) (N:=N) (fun b o e=>old b o (kp b o e)) fun b o e=>by
  by_cases hb:b=h'.objs.size
  ·subst hb;rw[NL] at e;cases e;refine⟨YF,show ck X.prog X.w _ _ _ (.lst _) from ⟨by rw[zad,zad,Lg];lia,(pl.map fun i=>as.getD i 0).map Value.ref,Nk,xw _,by simpa[seqObj] using hat⟩⟩
  ·rw[eN] at e;simp only at e;rw[if_neg hb] at e;obtain⟨z,hz,rfl⟩:=zaD.mp e;have hm:=zcd hz;have Wm:z.1=b:=by have:=zde hz;simpa using this
   obtain⟨j,hj,ej⟩:=zaG.mp hm;rw[List.getElem_zip] at ej;rw[zbW] at hj;subst ej;simp only at Wm ⊢;subst Wm;obtain⟨t,x,e2,e3⟩:=pairs j (by lia);exact⟨zbz (G.above _ (zao _)),show ck X.prog X.w _ _ _ (.tup _) from ⟨by simp only[zai,zaz];lia,[.int kvs[j].1 t,x],.cons ⟨t,rfl⟩ (.cons e3 .nil),⟨_,old _ _ e2,rfl,0,rfl⟩⟩⟩
 have sH:aq H (Mz H N):=kH fun b o e=>by
  have hb:=I.cc.lt e;cases e2:N b with
  |none=>rfl
  |some o2=>
   rw[eN] at e2;simp only at e2;rw[if_neg (by lia)] at e2;obtain⟨z,hz,_⟩:=zaD.mp e2;have hm:=zcd hz;have Wm:z.1=b:=by have:=zde hz;simpa using this
   have:=G.above z.1 (by have:=zdC (f:=(·.1)) hm;rw[RT] at this;exact this);lia
 have gk:∀i∈pl,lX (kvs.map (·.1)) i=(kvs.getD i (0,.bI)).1:=fun i hi=>by
  have:=RS i hi;unfold lX;simp only[zaf,zal,zaa this];rfl
 refine zdN ⟨_,rfl,.ref h'.objs.size,_,I2,rfl,q _ (pl.map fun i=>kvs.getD i (0,.bI)) (pl.map fun i=>as.getD i 0) _ sH (I.cc.fresh YF) ?_ ?_ ⟨by rw[zad,zad],fun i p kv e1 e2=>?_⟩ (yx NL)⟩
 ·have h1:(pl.map fun i=>kvs.getD i (0,.bI)).Perm ((zaC kvs.length).map fun i=>kvs.getD i (0,.bI)):=by rw[RR];exact List.Perm.map _ RQ
  rw[jo (fun x=>x) (0,V.bI) kvs,zcG] at h1;exact h1
 ·rw[zaK];intro i j hi hj lt;rw[zad] at hi hj;rw[zbS,zbS];have h1:=so i j (zbz lt) (by lia);unfold kk at h1;rw[Lh i hi,Lh j hj,gk _ (zao hi),gk _ (zao hj)] at h1;have h2:pl[i]≠pl[j]:=by
   have:=RQ.un (i:=i) (j:=j) (by lia) (by lia) (zat lt);rw[Lh i hi,Lh j hj] at this;exact this
  have a1:=RS _ (zao hi);have a2:=RS _ (zao hj);have h3:(kvs.getD pl[i] (0,.bI)).1≠(kvs.getD pl[j] (0,.bI)).1:=fun z=>by
   rw[zaf,zaf,zaa a1,zaa a2] at z;have:=(zb6 nd (i:=pl[i]) (j:=pl[j]) (h₀:=by rw[zad];exact a1) (h₁:=by rw[zad];exact a2)).mp (by rw[zbS,zbS];exact z);exact h2 this
  lia
 ·rw[zal] at e1 e2;obtain⟨j,ej,rfl⟩:=zaD.mp e1;rw[ej] at e2;cases e2;have hj:=RS j (zav ej);have:=NA j hj;simp only;rw[zaf,zaf,zaa hj,zaa (show j<as.length by lia)];exact yx this
theorem Om(a b:PG.Rg):PyData.eqv (nR a).py (nR b).py=decide (a=b):=by
 obtain⟨a1,a2⟩:=a;obtain⟨b1,b2⟩:=b;rw[zbj];simp[nR,Dp.py,Dp.pV,PyData.eqv,PyData.eqvAll,show ∀x y:Int,(x==y)=decide (x=y) from fun x y=>rfl]
theorem Ik:∀a b:List PG.Rg,PyData.eqvAll (Dp.pV (a.map nR)) (Dp.pV (b.map nR))=decide (a=b)
 |[],[]=>rfl
 |[],_::_=>rfl
 |_::_,[]=>rfl
 |x::a,y::b=>by
  show (PyData.eqv (nR x).py (nR y).py&&PyData.eqvAll (Dp.pV (a.map nR)) (Dp.pV (b.map nR)))=_;rw[Om,Ik a b,zbj];simp
def Oq:Option (List PG.Rg)->Dp
 |none=>.bI
 |some rs=>Co rs
theorem Il(a:List PG.Rg)(b:Option (List PG.Rg)):PyData.eqv (Co a).py (Oq b).py=decide (some a=b):=by
 cases b with
 |none=>rfl
 |some b=>
  show PyData.eqvAll (Dp.pV (a.map nR)) (Dp.pV (b.map nR))=_;rw[Ik,zbj];simp
theorem Im(rs:List PG.Rg):SeqAt.shaped (Co rs).py=true:=by
 obtain⟨h1,h2⟩:=Cq rs;unfold SeqAt.shaped;rw[Co,Dp.py,PyData.canLay0,h1,zca,decide_eq_true_iff,PyData.depth];lia
theorem MA(b:Option (List PG.Rg)):SeqAt.shaped (Oq b).py=true:=by
 cases b with
 |none=>rfl
 |some b=>exact Im b
theorem vf.rep{K:zab}{H:Hp}{v:V}{o:Option (List PG.Rg)}(h:vf K H v o):Rep K H (Oq o) v:=by
 cases o with
 |none=>exact h
 |some rs=>exact dC.rep h
def RmR (K:zab) (H:Hp) (a:Int×V) (b:Int×List PG.Rg):Prop:=a.1=b.1/\dC K H a.2 b.2
def RelM (K:zab) (H:Hp) (kvs:List (Int×V)) (m:List (Int×List PG.Rg)):Prop:=Paired (RmR K H) kvs m
theorem RelM.mono{K:zab}{H H':Hp}{kvs:List (Int×V)}{m:List (Int×List PG.Rg)}(h:RelM K H kvs m)(f:∀v rs,dC K H v rs->dC K H' v rs):RelM K H' kvs m:=by
 unfold RelM at h ⊢
 induction h with
 |nil=>exact .nil
 |cons a _ ih=>exact .cons ⟨a.1,f _ _ a.2⟩ ih
theorem iY(kvs:List (Int×V))(k:Int):c0 (kvs.map kI) (.inl k)=bg kvs k:=by
 induction kvs with
 |nil=>rfl
 |cons p r ih=>
  by_cases e:p.1=k
  ·rw[bW e];exact cT (p:=kI p) (by show (Sum.inl p.1:Key)=_;rw[e])
  ·rw[cu e,<- ih];exact cU (p:=kI p) fun z=>e (by injection z)
theorem Io(kvs:List (Int×V))(k:Int)(v:V):putK (kvs.map kI) (.inl k) v=(eE kvs k v).map kI:=by
 unfold putK eE;rw[mv,lh,iY];by_cases h:(bg kvs k).isSome=true
 ·rw[if_pos h,if_pos h,za3,za3];refine zbq fun e _=>?_;simp only[Function.comp];by_cases z:e.1=k
  ·rw[if_pos z,if_pos (by show (Sum.inl e.1:Key)=_;rw[z])];rfl
  ·rw[if_neg z,if_neg (fun y=>z (by injection y))]
 ·rw[if_neg h,if_neg h,zaw];rfl
section
variable(K:zab)(C:zdJ)
def Ip:Sp:=fun vs H Q _=>∃(p:zdJ) (pr:PG.Prog),vs=[.ref p]/\DB K C H p pr/\pr.ay.length<=10/\∀v H',aq H H'->dC K H' v (one (pr.ay.map (·.first)))->Q v H'
def Li:Sp:=fun vs H Q _=>∃(v u:V) (a b:List PG.Rg),vs=[v,u]/\dC K H v a/\dC K H u b/\a.length=b.length/\a.length<=10/\∀v' H',aq H H'->dC K H' v' (dQ a b)->Q v' H'
structure Lj(pr:PG.Prog):Prop where
 dr:KO pr
 gc:pr.ay.length<=4
 len:(PG.aE pr.body).length<=40
end
theorem fE.TY{bs:List PG.cE}{rs:List PG.Rg}(h:fE bs rs)(sz:∀b∈bs,2<=b.size/\b.size<=10/\0<=b.first/\b.first<b.size):VX bs rs:=⟨h.bd.1,fun r hr=>by
 obtain⟨i,hi⟩:=zcH hr;have hl:i<bs.length:=by have:=(zah.mp hi).1;rw[h.bd.1] at this;exact this
 have h1:=h.bd.2 i r _ hi (zaa hl);have h2:=sz _ (zao hl);have h3:=h.le r hr;unfold zx at h1;lia⟩
theorem qg{bs:List PG.cE}:∀ {t:PM.Tr},PG.gX bs t->Mp bs t
 |.num n,h=>h
 |.box x,h=>h
 |.bin o l r,h=>⟨by simpa using h.1,qg h.2.1,qg h.2.2⟩
theorem yD{bs:List PG.cE}{rs:List PG.Rg}{st:PG.bo}(h:HL bs st)(r:VX bs rs):K3 bs rs st:=by
 cases st with
 |ask k b=>exact h
 |put k b e=>exact⟨h.1,(qg h.2.1).g r,zax h.2.2 (by decide)⟩
 |say k e=>trivial
 |stop k=>trivial
 |fD k sg a b=>exact⟨(qg h.2.1.1).g r,(qg h.2.2.1).g r,zax h.2.1.2 (by decide),zax h.2.2.2 (by decide)⟩
 |fK k sg a b i=>exact⟨(qg h.2.1.1).g r,(qg h.2.2.1.1).g r,zax h.2.1.2 (by decide),zax h.2.2.1.2 (by decide)⟩
 |ifs k sg a b i e=>exact⟨(qg h.2.1.1).g r,(qg h.2.2.1.1).g r,zax h.2.1.2 (by decide),zax h.2.2.1.2 (by decide)⟩
theorem qh{ws:List Int}{st:PG.bo}(h:Oe ws st):0<ws.length:=by
 cases st with
 |fD k sg l r=>obtain⟨a,rfl⟩:=h;simp
 |ifs k sg l r a b=>obtain⟨a,b,rfl⟩:=h;simp
 |fK k sg l r a=>obtain⟨a,b,rfl⟩:=h;simp
 |_=>exact h
theorem vq{K:zab}{a b D:zdJ}{xs ys:List V}{g:TG}{te:TE}{Q:VK}{τ0:St}{H:Hp}(G:St->Prop)(Pv:Nat->List V->Hp->Prop)(hx:cF K H a xs)(hy:cF K H b ys)(ll:xs.length=ys.length)
 (hl:xs.length<=16000000) (hD:H D=none) (g0:G τ0) (h0:Pv 0 [] (upd H D (.lst [])))
 (step:∀i x y zs τ H2 p,xs[i]?=some x->ys[i]?=some y->G τ->aq H H2->H2 D=some (.lst zs)->zs.length=i->Pv i zs H2->H2 p=none->∀R:St->VK,(∀τ' v H3,G τ'->aq H2 H3->Pv (i+1) (zs++[v]) (upd H3 D (.lst (zs++[v])))->R τ' v H3)->g (.ref p) τ (upd H2 p (.tup [x,y])) fun τ' H'=>te τ' H' (R τ'))
 (q:∀zs H2,aq H H2->H2 D=some (.lst zs)->zs.length=xs.length->Pv xs.length zs H2->Q (.ref D) H2):jW (JM K a b) D g oR te Q τ0 (upd H D (.lst [])):=by
 refine⟨fun i m τ H2=>m=xs.length-i/\i<=xs.length/\G τ/\aq H H2/\∃zs,H2 D=some (.lst zs)/\zs.length=i/\Pv i zs H2,⟨xs.length,by simp,zaI _,g0,aq.new hD _,[],ai,rfl,h0⟩,?_⟩
 rintro i m τ H2 ⟨rfl,hi,gt,s2,zs,h2,ly,p2⟩
 by_cases jR:i<xs.length
 ·have Wn:i<ys.length:=by lia
  refine .inr ⟨⟨xs,ys,xs[i],ys[i],s2.br hx,s2.br hy,zaa jR,zaa Wn⟩,fun τ' H'=>G τ'/\aq H H'/\∃zs,H' D=some (.lst zs)/\zs.length=i+1/\Pv (i+1) zs H',fun τ' H' ⟨h1,h3,h4⟩=>⟨xs.length-(i+1),by lia,rfl,jR,h1,h3,h4⟩,fun y H' Ve=>?_⟩;obtain⟨p,u,v,rfl,hp,rfl,e1,e2⟩:=Ve;simp only[oR,if_true];refine step i u v zs τ H2 p (e1 _ (s2.br hx)) (e2 _ (s2.br hy)) gt s2 h2 ly p2 hp (fun τ' v H4=>_) fun τ' v H3 VU s3 p3=>⟨zs,s3 _ _ h2,?_,VU,?_,zs++[v],ai,by simp[ly],p3⟩
  ·have:zdR=2 ^ 24:=rfl;lia
  ·intro b o e;rw[aD (aF e hD)];exact s3 _ _ (s2 _ _ e)
 ·have e:i=xs.length:=by lia
  subst e;exact .inl ⟨⟨xs,ys,s2.br hx,s2.br hy,.inl (zaj _)⟩,q zs H2 s2 h2 ly p2⟩
theorem jf{X:Cx}{K:zab}(e:X.K=K)(n:Nat){es:List Expr}{k:Nat}{pos:Pos}{t:L8}(hc:X.calm=true)(h:QD X es t)
 (hn:(assignEach es X.env).length=n:=by rfl) (Df:(assignEach es X.env).findIdx? (·.1)=none:=by rfl):PG X (.Tuple es k pos) (zP K n t):=e▸BC hc h hn Df
theorem dC.dk{K:zab}{H H':Hp}{D:zdJ}{v:V}{rs:List PG.Rg}{kvs:List (Key×V)}(h:dC K H v rs)(hD:H D=some (.dK kvs))(u:bc D H H'):dC K H' v rs:=by
 obtain⟨a,us,e,q,l,r⟩:=h;exact⟨a,us,e,q.dk hD u,l,fun i hi=>let ⟨x,ex,b,eb,hb⟩:=r i hi;⟨x,ex,b,eb,hb.dk hD u⟩⟩
theorem RelM.keys{K:zab}{H:Hp}{kvs:List (Int×V)}{m:List (Int×List PG.Rg)}(h:RelM K H kvs m):kvs.map (·.1)=m.map (·.1):=by
 unfold RelM at h
 induction h with
 |nil=>rfl
 |cons a _ ih=>rw[zaq,zaq,ih,a.1]
theorem RelM.get{K:zab}{H:Hp}{kvs:List (Int×V)}{m:List (Int×List PG.Rg)}(h:RelM K H kvs m)(k:Int):(bg kvs k=none/\bg m k=none)\/∃v u,bg kvs k=some v/\bg m k=some u/\dC K H v u:=by
 rcases Paired.bg (fun a b h=>h.1) k h with h |⟨v,u,h1,h2,h3⟩
 ·exact .inl h
 ·exact .inr ⟨v,u,h1,h2,h3.2⟩
theorem RelM.put{K:zab}{H:Hp}{kvs:List (Int×V)}{m:List (Int×List PG.Rg)}(h:RelM K H kvs m){k:Int}{v:V}{u:List PG.Rg}(hv:dC K H v u):RelM K H (eE kvs k v) (eE m k u):=Paired.eE (fun a b h=>h.1) h ⟨rfl,hv⟩
theorem Iq{bs:List PG.cE}{rs:List PG.Rg}{ws:List Int}{st:PG.bo}:∀q∈PG.dD bs rs ws st,q.1∈ws\/q.1=0:=by
 have g0:ws.getD 0 0∈ws\/ws.getD 0 0=0:=by
  cases ws with
  |nil=>exact .inr rfl
  |cons a r=>exact .inl (by simp)
 have cond:∀(f:Bool->Option (List PG.Rg)) (q:Int×List PG.Rg),q∈PG.dZ f (ws.zip [true,false])->q.1∈ws\/q.1=0:=fun f q hq=>by
  unfold PG.dZ at hq;obtain⟨z,hz,e⟩:=zbw.mp hq;obtain⟨r,_,rfl⟩:=zaD.mp e;exact .inl (zcy hz).1
 intro q hq;cases st with
 |fD k sg l r=>exact cond _ q hq
 |ifs k sg l r a b=>exact cond _ q hq
 |fK k sg l r a=>exact cond _ q hq
 |_=>
  unfold PG.dD at hq;rw[zan.mp hq];exact g0
theorem xx{pr:PG.Prog}{rs:List PG.Rg}{i:Nat}{hi:i<(PG.aE pr.body).length}{hf:i<(PG.aK pr.body 0).length}:∀q∈PG.dD pr.ay rs (PG.aK pr.body 0)[i].2.2 (PG.aE pr.body)[i],Bu pr q.1:=fun q hq=>by
 rcases Iq q hq with h |h
 ·rcases PG.mC pr.body 0 _ (zao hf) _ h with h |h |h
  ·exact .inl h
  ·exact .inl h
  ·exact .inr h
 ·exact .inl h
theorem si(pr:PG.Prog):Bu pr (PG.aB pr.body 0):=by
 cases h:pr.body with
 |nil=>exact .inl rfl
 |cons s r=>exact .inr ⟨s,by rw[h,PG.aE];exact zak.mpr (.inl (by cases s<;>simp[PG.fM])),by cases s<;>rfl⟩
theorem c5.get{K:zab}{H:Hp}{us:List V}{ws:List (Int×List PG.Rg)}(h:c5 K H us ws):∀ {i:Nat} {v:V},us[i]?=some v->∃w,ws[i]?=some w/\jS K H v w:=by
 induction h with
 |nil=>intro i v e;cases e
 |cons a _ ih=>
  intro i v e;cases i with
  |zero=>cases e;exact⟨_,rfl,a⟩
  |succ i=>exact ih e
theorem jS.dk{K:zab}{H H':Hp}{D:zdJ}{v:V}{w:Int×List PG.Rg}{kvs:List (Key×V)}(h:jS K H v w)(hD:H D=some (.dK kvs))(u:bc D H H'):jS K H' v w:=by
 obtain⟨a,u',e,q,r⟩:=h;exact⟨a,u',e,q.dk hD u,r.dk hD u⟩
open PG
structure Fx(pr:Prog)(m:List (Int×List Rg)):Prop where
 first:∃u,bg m (aB pr.body 0)=some u/\Sub (one (pr.ay.map (·.first))) u
 sS:∀r u,bg m r=some u->Mu pr m r u
def CG (pr:Prog) (k:Int) (v:List Rg):Prop:=∀m,Fx pr m->∃u,bg m k=some u/\Sub v u
def Ir (pr:Prog) (m:List (Int×List Rg)):Prop:=∀k u,bg m k=some u->CG pr k u
theorem Ir.one{pr:Prog}:Ir pr [(aB pr.body 0,L2.one (pr.ay.map (·.first)))]:=fun k u e m c=>by
 by_cases z:aB pr.body 0=k
 ·rw[bW z] at e;cases e;rw[<- z];exact c.first
 ·rw[cu z] at e;cases e
theorem Ir.put{pr:Prog}{m:List (Int×List Rg)}(h:Ir pr m){k:Int}{v:List Rg}(c:CG pr k v):Ir pr (eE m k v):=fun j u e=>by
 rw[jZ] at e;split at e
 ·rename_i z;cases e;rw[z];exact c
 ·exact h j u e
theorem Iu{a b c:List Rg}(h1:Sub a c)(h2:Sub b c):Sub (dQ a b) c:=by
 have l:a.length=b.length:=h1.1.trans h2.1.symm;refine⟨(span_len l).trans h1.1,fun i x y e1 e2=>?_⟩;obtain⟨p,q,e3,e4,rfl⟩:=qf e1;have:=h1.2 i p y e3 e2;have:=h2.2 i q y e4 e2;simp only;lia
theorem CG.span{pr:Prog}{k:Int}{a b:List Rg}(h1:CG pr k a)(h2:CG pr k b):CG pr k (dQ a b):=fun m c=>by
 obtain⟨u,e,s⟩:=h1 m c;obtain⟨u',e',s'⟩:=h2 m c;rw[e] at e';cases e';exact⟨u,e,Iu s s'⟩
theorem CG.way{pr:Prog}(d:KO pr){r:Int}{rs:List Rg}(h:CG pr r rs)(hr:fE pr.ay rs){i:Nat}{hi:i<(aE pr.body).length}{hf:i<(aK pr.body 0).length}(e:(aE pr.body)[i].row=r):∀q∈dD pr.ay rs (aK pr.body 0)[i].2.2 (aE pr.body)[i],CG pr q.1 q.2:=fun q hq m c=>by
 obtain⟨u,eu,s⟩:=h m c;have own:=je pr.body _ d.own (zao hi);obtain⟨q',zW,e1,s1⟩:=Fv s hr own (fun b hb=>by have:=d.size b hb;lia) q hq;obtain⟨u',e2,s2⟩:=c.sS r u eu i hi hf e q' zW;rw[e1] at e2;exact⟨u',e2,s1.trans s2⟩
theorem Sub.antisymm{a b:List Rg}(h:Sub a b)(k:Sub b a):a=b:=by
 refine zcV fun i=>?_;by_cases z:i<a.length
 ·have z2:i<b.length:=by have:=h.1;lia
  rw[zaa z,zaa z2];have p:=h.2 i _ _ (zaa z) (zaa z2);have q:=k.2 i _ _ (zaa z2) (zaa z);exact congrArg some (Prod.ext (by lia) (by lia))
 ·rw[zaX (by lia),zaX (by have:=h.1;lia)]
structure yE(pr:Prog)(m:List (Int×List Rg)):Prop where
 Ot:Fx pr m
 Iw:Ir pr m
 mf:∀e∈m,fE pr.ay e.2/\Bu pr e.1
abbrev kJ (m:List (Int×List Rg)):Prop:=m.Pairwise (fun a b=>a.1<b.1)
theorem qi{m:List (Int×List Rg)}(h:kJ m){e:Int×List Rg}(he:e∈m):bg m e.1=some e.2:=by
 induction m with
 |nil=>cases he
 |cons x r ih=>
  rw[kJ,zbc] at h;rcases zag.mp he with rfl |he
  ·exact bW rfl
  ·rw[cu (by have:=h.1 e he;lia)];exact ih h.2 he
theorem Lk:∀ {a b:List (Int×List Rg)},kJ a->kJ b->(∀e,e∈a↔e∈b)->a=b:=by
 intro a
 induction a with
 |nil=>
  intro b _ _ h;cases b with
  |nil=>rfl
  |cons x r=>exact absurd ((h x).mpr (by simp)) (by simp)
 |cons x r ih=>
  intro b ha hb h;rw[kJ,zbc] at ha;cases b with
  |nil=>exact absurd ((h x).mp (by simp)) (by simp)
  |cons y t=>
   rw[kJ,zbc] at hb;have Wo:x=y:=by
    rcases zag.mp ((h x).mp (by simp)) with e |e
    ·exact e
    ·rcases zag.mp ((h y).mpr (by simp)) with e2 |e2
     ·exact e2.symm
     ·have:=hb.1 x e;have:=ha.1 y e2;lia
   subst Wo;rw[ih ha.2 hb.2 fun e=>?_]
   constructor
   ·intro he;rcases zag.mp ((h e).mp (by simp[he])) with rfl |z
    ·have:=ha.1 _ he;lia
    ·exact z
   ·intro he;rcases zag.mp ((h e).mpr (by simp[he])) with rfl |z
    ·have:=hb.1 _ he;lia
    ·exact z
theorem yE.eq{pr:Prog}{a b:List (Int×List Rg)}(ha:yE pr a)(hb:yE pr b)(ra:kJ a)(rb:kJ b):a=b:=by
 have key:∀ {a b:List (Int×List Rg)},yE pr a->yE pr b->kJ a->∀e∈a,e∈b:=fun {a b} ha hb ra e he=>by
  obtain⟨u,e1,s1⟩:=ha.Iw _ _ (qi ra he) b hb.Ot;obtain⟨u',e2,s2⟩:=hb.Iw _ _ e1 a ha.Ot;rw[qi ra he] at e2;cases e2;have:=get_mem e1;rw[<- s1.antisymm s2] at this;exact this
 exact Lk ra rb fun e=>⟨key ha hb ra e,key hb ha rb e⟩
theorem AX{α:Type}{a b:List (Int×α)}(p:a.Perm b)(nd:(a.map (·.1)).Nodup)(k:Int):bg a k=bg b k:=by
 have key:∀ {m:List (Int×α)},(m.map (·.1)).Nodup->∀e∈m,bg m e.1=some e.2:=by
  intro m
  induction m with
  |nil=>intro _ e he;cases he
  |cons x r ih=>
   intro nd e he;rw[zaq,zam] at nd;rcases zag.mp he with rfl |he
   ·exact bW rfl
   ·rw[cu fun z=>nd.1 (by rw[z];exact zdC he)];exact ih nd.2 e he
 have nb:(b.map (·.1)).Nodup:=(p.map _).nodup_iff.mp nd;cases h:bg a k with
 |some u=>exact(key nb (k,u) (p.mem_iff.mp (get_mem h))).symm
 |none=>
  cases h2:bg b k with
  |none=>rfl
  |some u=>
   have:=key nd (k,u) (p.mem_iff.mpr (get_mem h2));rw[h] at this;cases this
theorem Fx.congr{pr:Prog}{a b:List (Int×List Rg)}(h:Fx pr a)(e:∀k,bg a k=bg b k):Fx pr b:=
 ⟨by obtain⟨u,h1,h2⟩:=h.first;exact⟨u,by rw[<- e];exact h1,h2⟩,fun r u hu i hi hf er q hq=>by
  obtain⟨v,h1,h2⟩:=h.sS r u (by rw[e];exact hu) i hi hf er q hq;exact⟨v,by rw[<- e];exact h1,h2⟩⟩
theorem LI.Ot{pr:Prog}{m:List (Int×List Rg)}(h:LI pr m []):Fx pr m:=⟨h.lm.first,fun r u e=>(h.sS r u e).resolve_left (by simp)⟩
theorem Paired.RU{α β:Type}{F:α->β->Prop}{a a':List α}(p:a'.Perm a):∀ {b:List β},Paired F a b->∃b',Paired F a' b'/\b'.Perm b:=by
 induction p with
 |nil=>exact fun {b} h=>⟨b,h,.refl _⟩
 |cons x _ ih=>
  intro b h;cases h with
  |cons r t=>
   obtain⟨b',h1,h2⟩:=ih t;exact⟨_,.cons r h1,h2.cons _⟩
 |swap x y l=>
  intro b h;cases h with
  |cons r t=>
   cases t with
   |cons r2 t=>exact⟨_,.cons r2 (.cons r t),.swap _ _ _⟩
 |trans _ _ Wq Wr=>
  intro b h;obtain⟨b',h1,h2⟩:=Wr h;obtain⟨b2,h3,h4⟩:=Wq h1;exact⟨b2,h3,h4.trans h2⟩
section
variable{K:zab}{H:Hp}
theorem CH:∀ {ps:List PySem.Addr} {kv:List (Int×V)} {m:List (Int×List Rg)},DP H ps kv->RelM K H kv m->c5 K H (ps.map V.ref) m:=by
 intro ps
 induction ps with
 |nil=>
  intro kv m h r;cases kv with
  |nil=>cases r;exact .nil
  |cons _ _=>cases h.1
 |cons p ps ih=>
  intro kv m h r;cases kv with
  |nil=>cases h.1
  |cons x kv=>
   cases r with
   |@cons _ y _ _ a t=>
    have hp:=h.2 0 p x rfl rfl;obtain⟨e,ra⟩:=a;refine .cons ⟨p,x.2,rfl,.of ?_,ra⟩ (ih ⟨by simpa using h.1,fun i q z e1 e2=>h.2 (i+1) q z e1 e2⟩ t);rw[hp,e]
end
section
variable(K:zab)
inductive AY(vs:List V)(H:Hp)(Q:VK)(E:XK):Prop
 |mk (v:V) (pr:Prog) (e:vs=[v]) (rp:Rep K H (hX pr) v) (sd:Lj pr) (q:∀(L:PySem.Addr) (us:List V) (ms:List (Int×List Rg)) H',aq H H'->H L=none->H' L=some (.lst us)->c5 K H' us ms->kJ ms->yE pr ms->Q (.ref L) H')
end
def ij (m:List (Int×List Rg)) (q:Int×List Rg):List Rg:=(bg m q.1).getD q.2
def yG (m:List (Int×List Rg)) (q:Int×List Rg):Bool:=(bg m q.1).isNone ||decide (dQ (ij m q) q.2≠ij m q)
def qj (m:List (Int×List Rg)) (q:Int×List Rg):List (Int×List Rg):=eE m q.1 (dQ (ij m q) q.2)
structure LN(pr:Prog)(m:List (Int×List Rg)):Prop where
 nd:(m.map (·.1)).Nodup
 mf:∀e∈m,fE pr.ay e.2/\Bu pr e.1
 first:∃u,bg m (aB pr.body 0)=some u/\Sub (one (pr.ay.map (·.first))) u
 Iw:Ir pr m
theorem LN.lm{pr:Prog}{m:List (Int×List Rg)}(h:LN pr m):LM pr m []:=⟨h.nd,h.mf,h.first,(fun r hr=>by cases hr),zaI _⟩
theorem Iy{α:Type}{m:List (Int×α)}{k:Int}{u:α}(nd:(m.map (·.1)).Nodup)(h:bg m k=some u):eE m k u=m:=by
 rw[jE u h];refine(zbq fun e he=>?_).trans (zcG m);split
 ·rename_i z;have:=nG nd he;rw[z,h] at this;cases this;rfl
 ·rfl
def RV (m m':List (Int×List Rg)):Prop:=∀k u,bg m k=some u->∃u',bg m' k=some u'/\Sub u u'
def yH (m:List (Int×List Rg)) (q:Int×List Rg):Prop:=∃u,bg m q.1=some u/\Sub q.2 u
theorem yH.grow{m m':List (Int×List Rg)}{q:Int×List Rg}(h:yH m q)(g:RV m m'):yH m' q:=by
 obtain⟨u,h1,h2⟩:=h;obtain⟨u',h3,h4⟩:=g _ _ h1;exact⟨u',h3,h2.trans h4⟩
theorem LN.Ws{pr:Prog}{m:List (Int×List Rg)}(h:LN pr m){q:Int×List Rg}(hq:fE pr.ay q.2)(hk:Bu pr q.1)(hc:CG pr q.1 q.2) :
 LN pr (qj m q)/\yH (qj m q) q/\RV m (qj m q)/\(yG m q=false->qj m q=m)/\(yG m q=true->ig (fun rs=>1+vT rs) m<ig (fun rs=>1+vT rs) (qj m q)):=by
 have hold:fE pr.ay (ij m q)/\CG pr q.1 (ij m q)/\(ij m q).length=q.2.length:=by
  unfold ij;cases e:bg m q.1 with
  |none=>exact⟨hq,hc,rfl⟩
  |some u=>
   have:=(h.mf _ (get_mem e)).1;exact⟨this,h.Iw _ _ e,this.bd.1.trans hq.bd.1.symm⟩
 obtain⟨i1,c1,l1⟩:=hold;have i2:fE pr.ay (dQ (ij m q) q.2):=DL i1 hq;have g:RV m (qj m q):=fun k u e=>by
  unfold qj;rw[jZ];by_cases z:k=q.1
  ·rw[if_pos z];rw[z] at e;refine⟨_,rfl,?_⟩;have:ij m q=u:=by unfold ij;rw[e];rfl
   rw[<- this];exact Cu l1
  ·rw[if_neg z];exact⟨u,e,Sub.refl u⟩
 refine⟨⟨HR _ h.nd,fun e he=>?_,?_,h.Iw.put (c1.span hc)⟩,⟨_,by unfold qj;rw[jZ,if_pos rfl],HU l1⟩,g,fun z=>?_,fun z=>?_⟩
 ·rcases DJ he with he |rfl
  ·exact h.mf e he
  ·exact⟨i2,hk⟩
 ·obtain⟨u,h1,h2⟩:=h.first;obtain⟨u',h3,h4⟩:=g _ _ h1;exact⟨u',h3,h2.trans h4⟩
 ·unfold yG at z;rw[zdu] at z;cases e:bg m q.1 with
  |none=>rw[e] at z;cases z.1
  |some u=>
   have eo:ij m q=u:=by unfold ij;rw[e];rfl
   have z2:dQ (ij m q) q.2=ij m q:=by simpa using z.2
   unfold qj;rw[z2,eo];exact Iy h.nd e
 ·unfold qj;cases e:bg m q.1 with
  |none=>rw[DK _ e];lia
  |some u=>
   have eo:ij m q=u:=by unfold ij;rw[e];rfl
   unfold yG at z;rw[e] at z;have z2:dQ (ij m q) q.2≠ij m q:=by simpa using z
   have h2:=(Cv (Cu l1) i1.le i2.le).2 (Ne.symm z2);have h1:=yu (f:=fun rs=>1+vT rs) (dQ (ij m q) q.2) h.nd e;rw[eo] at h1 h2 ⊢;lia
structure RD(pr:Prog)(m0 m:List (Int×List Rg))(ag:Bool):Prop where
 ln:LN pr m
 same:ag=false->m=m0
 more:ag=true->ig (fun rs=>1+vT rs) m0<ig (fun rs=>1+vT rs) m
 gr:RV m0 m
theorem RD.of{pr:Prog}{m:List (Int×List Rg)}(h:LN pr m):RD pr m m false:=⟨h,fun _=>rfl,(fun z=>by cases z),fun k u e=>⟨u,e,Sub.refl u⟩⟩
theorem RD.Ws{pr:Prog}{m0 m:List (Int×List Rg)}{ag:Bool}(h:RD pr m0 m ag){q:Int×List Rg}(hq:fE pr.ay q.2)(hk:Bu pr q.1)(hc:CG pr q.1 q.2):RD pr m0 (qj m q) (ag ||yG m q)/\yH (qj m q) q/\RV m (qj m q):=by
 obtain⟨l,c,g,e1,e2⟩:=h.ln.Ws hq hk hc;refine⟨⟨l,fun z=>?_,fun z=>?_,fun k u e=>?_⟩,c,g⟩
 ·rw[zdu] at z;rw[e1 z.2];exact h.same z.1
 ·cases ag with
  |true=>
   have a:=h.more rfl;cases y:yG m q with
   |true=>have:=e2 y;lia
   |false=>rw[e1 y];exact a
  |false=>
   have:=e2 (by simpa using z);rw[h.same rfl] at this ⊢;exact this
 ·obtain⟨u',h1,h2⟩:=h.gr k u e;obtain⟨u2,h3,h4⟩:=g _ _ h1;exact⟨u2,h3,h2.trans h4⟩
theorem LN.one{pr:Prog}(sz:∀b∈pr.ay,2<=b.size/\b.size<=10/\0<=b.first/\b.first<b.size)(hk:Bu pr (aB pr.body 0)):LN pr [(aB pr.body 0,L2.one (pr.ay.map (·.first)))]:=
 have h:=(LI.one sz hk).lm
 ⟨h.nd,h.mf,h.first,Ir.one⟩
def mI (xs:Array Nat):Prop:=xs.toList.Pairwise (· < ·)
theorem mI.lt{xs:Array Nat}(h:mI xs){i j:Nat}(hj:j<xs.size)(l:i<j):xs[i]'(by first|decide|omega)<xs[j]:=by
 have:=zaK.mp h i j (by simpa using (by first|decide|omega:i<xs.size)) (by simpa using hj) l;simpa using this
theorem Iz{xs:Array Nat}{j:Nat}(R:mI xs):∀(f lo hi:Nat),hi-lo<=f->lo<=hi->hi<=xs.size->(∀i (h:i<xs.size),i<lo->xs[i]<j)->(∀i (h:i<xs.size),hi<=i->j<=xs[i])->
 SetTable.below.go xs j f lo hi<=xs.size/\(∀i (h:i<xs.size),i<SetTable.below.go xs j f lo hi->xs[i]<j)/\∀i (h:i<xs.size),SetTable.below.go xs j f lo hi<=i->j<=xs[i]:=by
 intro f
 induction f with
 |zero=>
  intro lo hi hf l hs a b;have e:lo=hi:=by first|decide|omega
  subst e;exact⟨hs,a,b⟩
 |succ f ih=>
  intro lo hi hf l hs a b;unfold SetTable.below.go;by_cases c:lo<hi
  ·rw[if_pos c];have hm:(lo+hi)/2<xs.size:=by first|decide|omega
   have e:xs.getD ((lo+hi)/2) j=xs[(lo+hi)/2]:=by simp[zch,hm]
   dsimp only;rw[e];by_cases d:xs[(lo+hi)/2]<j
   ·rw[if_pos d];refine ih _ _ (by first|decide|omega) (by first|decide|omega) hs (fun i h q=>?_) b;by_cases z:i=(lo+hi)/2
    ·subst z;exact d
    ·exact zdF (R.lt hm (by first|decide|omega)) d
   ·rw[if_neg d];refine ih _ _ (by first|decide|omega) (by first|decide|omega) (by first|decide|omega) a fun i h q=>?_;by_cases z:i=(lo+hi)/2
    ·subst z;omega
    ·have:=R.lt h (show (lo+hi)/2<i by first|decide|omega);omega
  ·rw[if_neg c];have e:lo=hi:=by first|decide|omega
   subst e;exact⟨hs,a,b⟩
theorem AZ{xs:Array Nat}{j:Nat}(R:mI xs):SetTable.below xs j<=xs.size/\(∀i (h:i<xs.size),i<SetTable.below xs j->xs[i]<j)/\∀i (h:i<xs.size),SetTable.below xs j<=i->j<=xs[i]:=
 Iz R _ _ _ (by first|decide|omega) (zaI _) (zaj _) (fun i h q=>absurd q (zcI _)) fun i h q=>absurd h (by first|decide|omega)
theorem mI.ins{xs:Array Nat}{j:Nat}(R:mI xs)(n:xs[SetTable.below xs j]?≠some j):mI (SetTable.insertAt xs (SetTable.below xs j) j):=by
 obtain⟨h1,h2,h3⟩:=AZ (j:=j) R;generalize SetTable.below xs j=p at *;unfold mI;rw[SetTable.toList_insertAt,zdt];refine⟨R.sublist (zcS _ _),?_,?_⟩
 ·rw[zbc];refine⟨fun y hy=>?_,R.sublist (List.drop_sublist _ _)⟩;obtain⟨i,hi,rfl⟩:=zaG.mp hy;rw[za4,zaN] at hi;rw[zcW,zcJ];have:=h3 (p+i) (by first|decide|omega) (by first|decide|omega);rcases Nat.lt_or_eq_of_le this with q |q
  ·exact q
  ·cases i with
   |zero=>exact absurd (by rw[zaE (by first|decide|omega)];exact congrArg some q.symm) n
   |succ i=>
    have:=R.lt (show p+(i+1)<xs.size by first|decide|omega) (show p<p+(i+1) by first|decide|omega);have:=h3 p (by first|decide|omega) (zaj _);omega
 ·intro x hx y hy;obtain⟨i,hi,rfl⟩:=zaG.mp hx;rw[zbk,zaN] at hi;rw[List.getElem_take,zcJ];have a:=h2 i (by first|decide|omega) (by first|decide|omega);rcases zag.mp hy with rfl |hy
  ·exact a
  ·obtain⟨k,hk,rfl⟩:=zaG.mp hy;rw[za4,zaN] at hk;rw[zcW,zcJ];have:=h3 (p+k) (by first|decide|omega) (by first|decide|omega);omega
theorem mI.range(n:Nat):mI (Array.range n):=by unfold mI;simp[zdj]
theorem mI.nil:mI #[]:=by unfold mI;simp
theorem IA{t:SetTable}{hx:Nat->Int}{h:Int}:∀(f:Nat) (p:SetTable.Probe) {j:Nat} {d:Option Nat},(∀k,p.dummy=some k->t.slot k=.dummy)->SetTable.probe.go t hx h f p=some (.empty j d)->t.slot j=.empty/\∀k,d=some k->t.slot k=.dummy:=by
 intro f
 induction f with
 |zero=>intro p j d hp e;cases e
 |succ f ih=>
  intro p j d hp e;unfold SetTable.probe.go at e;cases z:t.slot p.j with
  |empty=>rw[z] at e;cases e;exact⟨z,hp⟩
  |dummy=>
   rw[z] at e;refine ih _ (fun k hk=>?_) e;unfold SetTable.advance at hk;split at hk
   ·cases hk;exact z
   ·cases hk;exact z
  |live i=>
   rw[z] at e;dsimp only at e;split at e
   ·cases e
   ·refine ih _ (fun k hk=>?_) e;unfold SetTable.advance at hk;split at hk
    ·exact hp k hk
    ·exact hp k hk
theorem IB{t:SetTable}{h:Int}{s:Nat}{b:Bool}(e:t.freeSlot h=some (s,b)):t.place[SetTable.below t.place s]?≠some s:=by
 unfold SetTable.freeSlot at e;split at e
 ·rename_i j d hp;cases e;obtain⟨h1,h2⟩:=IA _ _ (fun k hk=>by cases hk) hp;have nl:t.slot (d.getD j)=.empty\/t.slot (d.getD j)=.dummy:=by
   cases d with
   |none=>exact .inl h1
   |some k=>exact .inr (h2 k rfl)
  intro z;unfold SetTable.slot at nl;dsimp only at nl;rw[if_pos (by rw[z];simp)] at nl;rcases nl with nl |nl<;>cases nl
 ·cases e
theorem CI{t:SetTable}{es:Array (Int×zdK)}{h:Int}{x:zdK}(R:mI t.place):mI (layNew t es h x).2.1.place/\((layNew t es h x).2.1.led=t.led):=by
 unfold layNew;split
 ·rename_i s b e;have r:=R.ins (IB e);have q:∀(u:SetTable) (n:Nat),mI u.place->mI (u.orStandIn n).place/\(u.orStandIn n).led=u.led:=by
   intro u n hu;unfold SetTable.orStandIn;split
   ·exact⟨hu,rfl⟩
   ·exact⟨mI.range _,rfl⟩
  exact q (t.put s).1 _ r
 ·exact⟨mI.range _,rfl⟩
theorem Fy{t:SetTable}{es:Array (Int×zdK)}{n:Nat}(R:mI t.place):mI (relayAll t es n).2.1.place/\(relayAll t es n).2.1.led=t.led:=by
 unfold relayAll;split
 ·rename_i t' o e;dsimp only;split
  ·unfold SetTable.relaid SetTable.laid at e;obtain⟨ow,_,e2⟩:=Option.bind_eq_some_iff.mp e;cases e2;refine⟨?_,rfl⟩;unfold mI;dsimp only;rw[List.map_filterMap];have:(fun a=>Option.map (fun x:Nat×Nat=>x.1) (Option.map (fun x=>(a,x)) (ow.getD a none)))=fun a=>if (ow.getD a none).isSome then some a else none:=by
    funext a
    cases ow.getD a none<;>rfl
   rw[this];exact List.Pairwise.filterMap _ (fun a b NX c hc d hd=>by
    simp only[Option.ite_none_right_eq_some,zaH.injEq] at hc hd;omega) zdj
  ·exact⟨mI.range _,rfl⟩
 ·exact⟨mI.range _,rfl⟩
def slotAt (xs:Array Nat):Nat->Nat
 |0=>0
 |i+1=>xs.getD i 0+1
theorem vt{xs:Array Nat}(R:mI xs){i:Nat}(hi:i<=xs.size):SetTable.below xs (slotAt xs i)=i:=by
 obtain⟨h1,h2,h3⟩:=AZ (j:=slotAt xs i) R;generalize SetTable.below xs (slotAt xs i)=p at *;cases i with
 |zero=>
  by_cases z:p=0
  ·exact z
  ·exact absurd (h2 0 (by first|decide|omega) (by first|decide|omega)) (zcI _)
 |succ i=>
  have e:xs.getD i 0=xs[i]'(by first|decide|omega):=by simp[zch,show i<xs.size by first|decide|omega]
  have e':slotAt xs (i+1)=xs[i]'(by first|decide|omega)+1:=by show xs.getD i 0+1=_;rw[e]
  rw[e'] at h2 h3;by_cases z:p<=i
  ·exact absurd (h3 i (by first|decide|omega) z) (by first|decide|omega)
  ·by_cases z2:p=i+1
   ·exact z2
   ·have:=h2 (i+1) (by first|decide|omega) (by first|decide|omega);have:=R.lt (show i+1<xs.size by first|decide|omega) (zb7 i);omega
def IC (w:zdL) (h:Heap) (a:zdJ):Prop:=∃o es ep t,h.get? a=some o/\o.data=.set es ep t/\mI t.place/\(w.params.followText "set-order"=false->t.led=true)
section
variable{prog:zdV}{w:zdL}{A:zdU}{E:zdK->zdT->Prop}{s:zdT}
theorem IC.Bv{h h':Heap}{a:zdJ}(T:IC w h a)(k:∀o,h.get? a=some o->h'.get? a=some o):IC w h' a:=by
 obtain⟨o,es,ep,t,g,r⟩:=T;exact⟨o,es,ep,t,k _ g,r⟩
theorem A0{h:Heap}{a:zdJ}{o:Obj}{es Ga:Array (Int×zdK)}{ep:Nat}{t t':SetTable}(ho:h.get? a=some o)(hd:o.data=.set es ep t)(r:mI t'.place)(l:w.params.followText "set-order"=false->t'.led=true):IC w (h.update a (Obj.putSet Ga t')) a:=by
 have g:=Heap.get?_update_self (Obj.putSet Ga t') ho (by rw[putSet_of Ga t' hd];rfl);rw[putSet_of Ga t' hd] at g;exact⟨_,Ga,ep+1,t',g,rfl,r,l⟩
theorem Ou{a:zdJ}{S:Int->Bool}{n:Nat}{k:Int}{tk:Tok}{Q:Bool->zdT->Prop}(hS:s.heap.SetOf (intKind prog w) a S n)(T:IC w s.heap a)(room:n+1<scanBound)
 (q:∀b h',Heap.SameBut a s.heap h'->h'.SetOf (intKind prog w) a (fun j=>S j ||decide (j=k)) (if S k then n else n+1)->IC w h' a->Q b {s with heap:=h' }) :
 wpAny (model prog w) A (setAddHashed a (.int k tk) ((intKind prog w).hash k)) Q E s:=by
 obtain⟨o,es,ep,t,ho,hex,hd,RW,ID,hb,hf,hn⟩:=id hS;obtain⟨o',Ga,Nk,t',g1,g2,CJ,led⟩:=T;rw[ho] at g1;cases g1;rw[hd] at g2;cases g2;have hk:(intKind prog w).is k (.int k tk)=true:=intKind_is _ _ _ _;unfold setAddHashed setAddHashedIn;refine zdO (zdM (wpAny_setState_of ho hd hf ?_));dsimp only;rw[byScan_of rfl hb RW];simp only[↓reduceIte];unfold setAddByScan;refine zdM (zdM (wpAny_rule (zdM (wpAny_setScan_of hk ho hd hf RW ?_))));cases hr:List.findIdx? (fun e=>(intKind prog w).is k e.2) es.toList with
 |some j=>
  dsimp only;obtain⟨hj,hpj,_⟩:=List.findIdx?_eq_some_iff_getElem.mp hr;have sk:S k=true:=(ID k).mpr ⟨es.toList[j],zao hj,hpj⟩;refine zdN (zdN (q false s.heap (Heap.SameBut.refl a s.heap) ?_ ⟨o,es,ep,t,ho,hd,CJ,led⟩));rw[sk];refine PyProof.Rows.SetOf_congr hS (fun j=>?_) rfl;by_cases z:j=k
  ·rw[z,sk];rfl
  ·rw[decide_eq_false z,zdx]
 |none=>
  dsimp only;have sk:S k=false:=by
   cases z:S k with
   |false=>rfl
   |true=>
    obtain⟨e,he,hp⟩:=(ID k).mp z;have:=List.findIdx?_eq_none_iff.mp hr e he;rw[hp] at this;cases this
  have gw:∀(b:Bool) {s1:zdT} {R:Unit->zdT->Prop},R () s1->wpAny (model prog w) A (match b with |true=>rule "set.scan.the-table-gave-way" |false=>pure ()) R E s1:=fun b s1 R h=>by
   cases b
   ·exact zdN h
   ·exact wpAny_rule h
  have pm:=layNew_perm t es ((intKind prog w).hash k) (.int k tk);have ft:=layNew_fits t es ((intKind prog w).hash k) (.int k tk);obtain⟨r1,l1⟩:=CI (es:=es) (h:=(intKind prog w).hash k) (x:=.int k tk) CJ;generalize layNew t es ((intKind prog w).hash k) (.int k tk)=L at pm ft r1 l1 ⊢;obtain⟨e1,t1,wd,gv⟩:=L;dsimp only at pm ft r1 l1 ⊢;rw[Array.toList_push] at pm;have YG:ElemsOf (intKind prog w) e1.toList:=(RW.push hk rfl).perm pm;have YH:∀j,(S j ||decide (j=k))=true↔∃e∈e1.toList,(intKind prog w).is j e.2=true:=mem_push_iff hk ID pm;have z1:e1.size=n+1:=by
   rw[<- zaN,pm.length_eq,zau,zaN,hn];rfl
  have b1:e1.size<scanBound:=by rw[z1];exact room
  refine zdM (gw _ ?_);have fin:∀(u:SetTable),u.fits e1.size=true->mI u.place->u.led=t.led->wpAny (model prog w) A (do
   storeSet a e1 u
   if (!wd&&u.tooFull)=true then do
    (match (relayAll u e1 (SetTable.grown e1.size)).2.2 with |true=>rule "set.scan.the-table-gave-way" |false=>pure ())
    storeSet a (relayAll u e1 (SetTable.grown e1.size)).1 (relayAll u e1 (SetTable.grown e1.size)).2.1
    pure (some true)
    else pure (some true)) (fun r s1=>wpAny (model prog w) A (match r with |some added=>pure added |none=>setAddHashedIn a (.int k tk) ((intKind prog w).hash k) 99999) Q E s1) E s:=by
   intro u fu ru lu;have YI:w.params.followText "set-order"=false->u.led=true:=fun z=>by rw[lu];exact led z
   refine zdM (wpAny_storeSet_of ho hd ?_ (fits_of_scanBound b1));obtain⟨PU,S1⟩:=SetOf_store (knd:=intKind prog w) ho hex hd YG YH b1 fu;have T1:IC w (s.heap.update a (Obj.putSet e1 u)) a:=A0 ho hd ru YI;have k1:=Heap.SameBut.update s.heap a (Obj.putSet e1 u);split
   ·have p2:=relayAll_perm u e1 (SetTable.grown e1.size);have f2:=relayAll_fits u e1 (SetTable.grown e1.size);obtain⟨r2,l2⟩:=Fy (es:=e1) (n:=SetTable.grown e1.size) ru;generalize relayAll u e1 (SetTable.grown e1.size)=L at p2 f2 r2 l2 ⊢;obtain⟨e2,t2,g2⟩:=L;dsimp only at p2 f2 r2 l2 ⊢;have z2:e2.size=e1.size:=by rw[<- zaN,p2.length_eq,zaN]
    have b2:e2.size<scanBound:=by rw[z2];exact b1
    refine zdM (gw _ (zdM (wpAny_storeSet_of PU rfl ?_ (fits_of_scanBound b2))));obtain⟨_,S2⟩:=SetOf_store (knd:=intKind prog w) PU hex rfl (YG.perm p2) (fun j=>(YH j).trans ⟨fun ⟨e,he,y⟩=>⟨e,p2.mem_iff.mpr he,y⟩,fun ⟨e,he,y⟩=>⟨e,p2.mem_iff.mp he,y⟩⟩) b2 f2;rw[z2,z1] at S2;refine zdN (zdN (q true _ (k1.trans (Heap.SameBut.update _ a _)) ?_ (A0 PU rfl r2 fun z=>by rw[l2];exact YI z)));rw[sk];exact S2
   ·rw[z1] at S1;refine zdN (zdN (q true _ k1 ?_ T1));rw[sk];exact S1
  split
  ·refine zdM ?_;rw[hashByValue_scannable 8 rfl];exact zdN (fin t1 ft r1 l1)
  ·exact zdM (zdN (fin t1 ft r1 l1))
end
abbrev yI (ns:List Int) (i:Nat):List Int:=firstMet (fun i=>ns.getD i 0) i
section
variable{prog:zdV}{w:zdL}{A:zdU}{E:zdK->zdT->Prop}{s:zdT}
theorem Ll{R:Result->zdT->Prop}{I:zdJ}{fp wr:List zdJ}{G:Array GenState->Array GenState->Prop}{n:Nat}{P:Nat->zdK->Prop}{St:Nat->zdT->Prop}{ns:List Int}(W:WalksS prog w A.in1 I fp wr G n P St)(S:zdJ)(YJ:S ∉ fp)
 (hv:∀i v,P i v->∃t,v=.int (ns.getD i 0) t) (hb:n+1<scanBound):∀(k i:Nat) (s:zdT),n-i=k->i<=n->St i s->
  s.heap.SetOf (intKind prog w) S (fun j=>(yI ns i).any (·==j)) (yI ns i).length->IC w s.heap S->
  (∀s',Moved (S::wr) G s s'->s'.heap.SetOf (intKind prog w) S (fun j=>(yI ns n).any (·==j)) (yI ns n).length->IC w s'.heap S->R (.ok (.ret .none)) s')->
  codeAny (model prog w) A (.builtin "set.update.loop" ⟨[.ref S,.ref I],[]⟩) R s:=by
 have nw:S ∉ wr:=fun z=>YJ (W.sub _ z);have up:∀b∈wr,b∈S::wr:=fun b z=>zae _ z;intro k
 induction k with
 |zero=>
  intro i s ek hi st hS T q;obtain rfl:i=n:=by first|decide|omega
  refine codeAny_builtin F.entry_set_update_loop ?_;rw[Around.under_plainId F.plain_set_update_loop _];refine zdM (W.done s _ _ st fun s' m=>zdN (q s' (m.mono up) ?_ (T.Bv fun o e=>m.heap S o nw e)));obtain⟨o,es,ep,t,g,r⟩:=hS;exact⟨o,es,ep,t,m.heap S _ nw g,r⟩
 |succ k ih=>
  intro i s ek hi st hS T q;have lt:i<n:=by first|decide|omega
  refine codeAny_builtin F.entry_set_update_loop ?_;rw[Around.under_plainId F.plain_set_update_loop _];refine zdM (W.item i s _ _ lt st fun v s' hP ud m=>?_);obtain⟨t,rfl⟩:=hv i v hP;have S1:s'.heap.SetOf (intKind prog w) S (fun j=>(yI ns i).any (·==j)) (yI ns i).length:=by
   obtain⟨o,es,ep,tb,g,r⟩:=hS;exact⟨o,es,ep,tb,m.heap S _ nw g,r⟩
  refine zdM (zdO ?_);unfold setAdd;refine zdO (zdM ((intKind prog w).pyHash (k:=ns.getD i 0) (intKind_is _ _ _ _) ?_));have rm:(yI ns i).length+1<scanBound:=by have:(yI ns i).length<=i:=firstMet_length_le (fun i=>ns.getD i 0) i;omega
  refine Ou (s:={s' with toks:=s'.toks+1}) S1 (T.Bv fun o e=>m.heap S o nw e) rm fun b h' kp S2 T2=>?_;have S3:h'.SetOf (intKind prog w) S (fun j=>(yI ns (i+1)).any (·==j)) (yI ns (i+1)).length:=SetOf_congr S2 (fun j=>by unfold yI;rw[firstMet_succ,step_any]) (by unfold yI;rw[firstMet_succ,step_length]);refine zdN ⟨plainId_quiet F.plain_set_update_loop _,ih (i+1) _ (by first|decide|omega) lt (W.frame _ s' _ _ ud (zcb _) fun b hb o e=>?_) S3 T2 fun s2 m2 S4 T4=>?_⟩
  ·rw[kp.2 b fun z=>YJ (z▸hb)];exact e
  ·refine q s2 (Moved.trans W.gtrans ((m.mono up).then_heap (zcb _) fun b o hb e=>?_) m2) S4 T4;rw[kp.2 b fun z=>hb (z▸zaB)];exact e
theorem Lm(a:zdK){Q₁:zdK->zdT->Prop}
 (h:∀led:Bool,(w.params.followText "set-order"=false->led=true)->Q₁ (.ref s.heap.objs.size) {s with heap:=s.heap.push {cls:=.type "set",dict:=none,data:=.set #[] 0 (.fresh 0 0 led)} }) :
 codeAny (model prog w) A (.call (.builtin "set.__new__") ⟨[.type "set",a],[]⟩) (wants Q₁ E) s:=by
 refine codeAny_of_tree ?_;refine zdM (wpAny_of_eq (F.newCall_set_1 a) (zdN ⟨plainId_quiet F.plain_set_new _,codeAny_builtin F.entry_set_new ?_⟩));rw[Around.under_plainId F.plain_set_new _];unfold Builtin.«set.__new__» Builtin.Frozenset.newClass;have sub:=sub_set_self;obtain⟨hp,g,d,tk,os⟩:=s;dsimp only
 wp_walk
 refine wpAny_askSetting (zdN ?_);dsimp only;simp only[newObj];refine zdM (wpAny_alloc (zdN (zdN (h _ fun z=>?_))));show (!w.params.followText "set-order")=true;rw[z];rfl
set_option maxHeartbeats 3200000 in
theorem Fz{l:zdJ}{items:Array zdK}{ns:List Int}{Q:zdK->zdT->Prop}(hh:A.handled=none)(hl:s.heap.IsList l items)(hi:IntsAre items.toList ns)(hb:items.size+1<scanBound)
 (q:∀(h':Heap) (tk:Nat),h'.SetOf (intKind prog w) s.heap.objs.size (fun j=>(yI ns items.size).any (·==j)) (yI ns items.size).length->IC w h' s.heap.objs.size->(∀b o,s.heap.get? b=some o->h'.get? b=some o)->Q (.ref s.heap.objs.size) {s with heap:=h',toks:=tk}) :
 wpAny (model prog w) A (call (.type "set") [.ref l]) Q E s:=by
 obtain⟨c,tl,abt⟩:=F.called_set.mro;have YK:=F.called_set.made;have N2:=F.called_set.sub;refine wpAny_call (codeAny_of_tree (zdN ⟨Code.quiet_builtin _ (by decide +kernel),codeAny_builtin F.entry_type_call ?_⟩));rw[Around.under_plain (weight_type_call_type "set" [.ref l] []) rfl];have x1:=F.called_set.notType;have x2:=F.called_set.canCreate;have x3:=F.typeCall_set_1 (.ref l)
 repeat (any_goals (first |assumption |wp_step))
 refine codeAny_mono (Lm (.ref l) (E:=E) (Q₁:=fun obj s1=>∃led:Bool,(w.params.followText "set-order"=false->led=true)/\obj=.ref s.heap.objs.size/\s1={s with heap:=s.heap.push {cls:=.type "set",dict:=none,data:=.set #[] 0 (.fresh 0 0 led)} }) fun led z=>⟨led,z,rfl,rfl⟩) fun r s1 hr=>?_;rcases r with e |fl
 ·exact hr
 rcases fl with obj |_ |_ |_
 all_goals (try exact hr.elim)
 obtain⟨led,ld,rfl,rfl⟩:=hr;generalize eo:({cls:=.type "set",dict:=none,data:=.set #[] 0 (.fresh 0 0 led)}:Obj)=o0 at *;have g0:(s.heap.push o0).get? s.heap.objs.size=some o0:=Heap.get?_push_size _ (by rw[<- eo];rfl);have ty:Shared.TypeIs {s with heap:=s.heap.push o0} (.ref s.heap.objs.size) "set":=⟨_,g0,by rw[<- eo]⟩
 have y1:=F.called_set.init.lookup;have y2:=F.called_set.init.bind (.ref s.heap.objs.size)
 repeat (any_goals (first |assumption |wp_step))
 refine codeAny_mono (codeAny_call_builtin (R:=wants (fun r s2=>r=.none/\∃h' tk,s2={s with heap:=h',toks:=tk}/\h'.SetOf (intKind prog w) s.heap.objs.size (fun j=>(yI ns items.size).any (·==j)) (yI ns items.size).length/\IC w h' s.heap.objs.size/\∀b o,s.heap.get? b=some o->h'.get? b=some o) E) F.called_set.init.plain F.entry_set_init (check_set_init_1 ty ?_)) fun r2 s2 PV=>?_
 ·obtain⟨ol,gl,cl,nl,dl⟩:=hl;obtain⟨abu,YL,YM,Wt⟩:=ol;simp only at cl dl;subst cl;subst dl;have lS:l<s.heap.objs.size:=Heap.lt_size gl;have gl':=Heap.get?_push_of_some o0 gl;have n1:=F.sub_list_set;have n2:=F.sub_list_frozenset;have n3:(Value.type "list"==Value.type "dict")=false:=by decide
  have YN:(s.heap.push o0).IsList l items:=⟨_,gl',rfl,nl,rfl⟩
  have YO:(s.heap.push o0).get? s.heap.objs.size=some {cls:=.type "set",dict:=none,data:=.set #[] 0 (.fresh 0 0 led)}:=by rw[eo];exact g0
  unfold Builtin.«set.__init__» noKeywords Builtin.Frozenset.updateFrom;generalize hPI:pyIter=PI
  wp_walk
  subst hPI;refine wpAny_pyIter_list YN (zdM (wpAny_runValue ?_));have hA:A.in1.in1.in1.handled=none:=by simp[hh]
  have nI:l≠(s.heap.push o0).objs.size:=by rw[Heap.size_push];exact zat (zb0 lS)
  have nS:s.heap.objs.size ∉ [(s.heap.push o0).objs.size,l]:=by
   rw[Heap.size_push];simp only[zag,zaT,or_false,not_or];exact⟨zat (zb7 _),za2 lS⟩
  refine Ll ((Walks.list hA _ l nI items).toS) s.heap.objs.size nS (fun i v e=>IntsAre.int_at hi i v (by rw[zaU];exact e)) hb (items.size-0) 0 _ (by first|decide|omega) (zaI _) ⟨⟨_,Heap.get?_push_size _ rfl,rfl,rfl⟩,YN.push _⟩ ?_ ?_ ?_
  ·exact SetOf_congr ((setObjOf_fresh (knd:=intKind prog w) led).setOf (Heap.get?_push_of_some _ YO) (by unfold scanBound;omega)) (fun _=>rfl) rfl
  ·exact⟨_,_,_,_,Heap.get?_push_of_some _ YO,rfl,mI.nil,ld⟩
  ·intro s' m S1 T1;obtain⟨h',g',d',Hf,UP⟩:=s';obtain rfl:g'=s.gens:=m.gens;obtain rfl:d'=s.drawn:=m.drawn;obtain rfl:UP=s.os:=m.os;refine zdN (zdN ⟨rfl,h',Hf,rfl,S1,T1,fun b o e=>m.heap b o (fun z=>?_) (Heap.get?_push_of_some _ (Heap.get?_push_of_some _ e))⟩);have lb:=Heap.lt_size e;simp only[zag,zaT,or_false] at z;rw[Heap.size_push] at z;rcases z with z |z
   ·rw[z] at lb;exact absurd lb (za1 _)
   ·rw[z] at lb;exact absurd lb (Nat.not_lt.mpr (zcb _))
 ·rcases r2 with e |fl
  ·exact PV
  rcases fl with v |_ |_ |_
  all_goals (try exact PV.elim)
  obtain⟨rfl,h',tk,rfl,S1,T1,kp⟩:=PV
  repeat (any_goals (first |assumption |wp_step))
  exact q _ _ S1 T1 kp
end
theorem iB:Slot "set_iterator" "__next__" "set_iterator.__next__":=.of (owner:="set_iterator") (n:="__next__") (by rw[typeLookup_type,builtinLookup_eq_fast];kernel_rfl) (by decide +kernel) (by decide +kernel) (by decide +kernel) (.inl (by decide +kernel)) (by rw[isSubtype_type];kernel_rfl)
theorem qk:entryFor table "set_iterator.__next__"=some Builtin.«set_iterator.__next__»:=entryFor_of_tree (by kernel_rfl)
theorem tU(a:zdK):argsOk "set_iterator.__next__" ⟨[a],[]⟩:=by unfold argsOk;kernel_rfl
theorem IE:entryFor table "set.__iter__"=some Builtin.«frozenset.__iter__»:=entryFor_alias (id':="frozenset.__iter__") (by kernel_rfl) rfl (by decide +kernel) (by kernel_rfl)
def iN (h:Heap) (a:zdJ) (es:Array (Int×zdK)) (ep:Nat) (t:SetTable):Prop:=∃o,h.get? a=some o/\o.ExactSet/\o.data=.set es ep t/\t.fits es.size=true
def A1 (h:Heap) (I a:zdJ) (f0:zdK) (i n ep:Nat):Prop:=h.get? I=some {cls:=.type "set_iterator",dict:=none,data:=.fields #[f0,.int i 0,.ref a,.int n 0,.int ep 0],slots:=#[]}
theorem iN.Bv{h h':Heap}{a:zdJ}{es:Array (Int×zdK)}{ep:Nat}{t:SetTable}(x:iN h a es ep t)(e:∀o,h.get? a=some o->h'.get? a=some o):iN h' a es ep t:=by obtain⟨o,g,r⟩:=x;exact⟨o,e _ g,r⟩
section
variable{prog:zdV}{w:zdL}{A:zdU}{E:zdK->zdT->Prop}{s:zdT}{I a:zdJ}{f0:zdK}{i n ep:Nat}{es:Array (Int×zdK)}{t:SetTable}
theorem DQ{Q:Option zdK->zdT->Prop}{slot nx:Nat}{z:zdK}(x:A1 s.heap I a (.int slot 0) i es.size ep)(y:iN s.heap a es ep t)
 (hn:∀(E:zdK->zdT->Prop) (R:Option (zdK×Nat)->zdT->Prop),R (some (z,nx)) s->wpAny (model prog w) A.in1 (setNext a slot i ep) R E s)
 (q:∀h',A1 h' I a (.int nx 0) (i+1) es.size ep->Heap.SameBut I s.heap h'->Q (some z) {s with heap:=h' }):wpAny (model prog w) A (pyNext (.ref I)) Q E s:=by
 have ty:s.TypeIs (.ref I) "set_iterator":=⟨_,x,rfl⟩
 obtain⟨o,g,c,d,f⟩:=y;unfold pyNext;refine zdM (wpAny_attempt (wpAny_callSpecial?_slot (name:=zac "__next__") ty iB (wpAny_call_entry iB ty qk ?_ (tU _))));unfold Builtin.«set_iterator.__next__»;refine zdM (m:=slotArgs "__next__" 0 _) (zdN (zdM (wpAny_fieldsOf x rfl ?_)));refine zdM (zdM (wpAny_setState_of g d f (zdN ?_)));dsimp only;rw[if_neg (by simp)];refine zdM (show wpAny _ _ (setNext a (slot:Int).toNat (i:Int).toNat (ep:Int).toNat) _ _ _ from hn _ _ ?_);refine zdM (wpAny_setField_rec x (by simp) fun h1 g1 k1=>zdM (wpAny_setField_rec g1 (by simp) fun h2 g2 k2=>zdN ⟨_,rfl,zdN (q h2 ?_ (k1.trans k2))⟩));unfold A1;rw[g2];simp[rawInt]
theorem xy{Q:Option zdK->zdT->Prop}(hA:A.handled=none)(h0:Heap.ExtBut I s.heap s.heap)
 (q:∀h',Heap.ExtBut I s.heap h'->Q none {s with heap:=h' }):wpAny (model prog w) A.in1 (do raiseNew (<- newExc (.type "StopIteration") [])) (fun (fin:PySem.Fin) s'=>∃v,fin=.done (.ret v)/\wpAny (model prog w) A (pure (some v)) Q E s')
  (fun e s'=>wpAny (model prog w) A (do if <- isInstance e (.type "StopIteration") then pure none else throw e) Q E s') s:=by
 refine zdM ?_;simp only[newExc,newTuple];refine zdM (wpAny_newObj_type (zdM (m:=firstArgMember _ _) (wpAny_of_eq (a:=Value.none) (by first |rfl |(simp only[firstArgMember];rfl)) (wpAny_newObj_type ?_ (by size_fits)))) (by size_fits));simp only[raiseNew];refine zdM (wpAny_handled ?_);rw[show A.in1.handled=none from hA];refine zdM (zdN (wpAny_throw (zdM ?_)));refine wpAny_isInstance (T:="StopIteration") (b:=true) ⟨_,Heap.get?_push_size _ rfl,rfl⟩ isSubtype_stop ?_;exact zdN (q _ ((h0.push _).push _))
theorem IF{Q:Option zdK->zdT->Prop}{slot:Nat}(hA:A.handled=none)(x:A1 s.heap I a (.int slot 0) i es.size ep)(y:iN s.heap a es ep t)
 (hn:∀(E:zdK->zdT->Prop) (R:Option (zdK×Nat)->zdT->Prop),R none s->wpAny (model prog w) A.in1 (setNext a slot i ep) R E s)
 (q:∀h',Heap.ExtBut I s.heap h'->Q none {s with heap:=h' }):wpAny (model prog w) A (pyNext (.ref I)) Q E s:=by
 have ty:s.TypeIs (.ref I) "set_iterator":=⟨_,x,rfl⟩
 obtain⟨o,g,c,d,f⟩:=y;unfold pyNext;refine zdM (wpAny_attempt (wpAny_callSpecial?_slot (name:=zac "__next__") ty iB (wpAny_call_entry iB ty qk ?_ (tU _))));unfold Builtin.«set_iterator.__next__»;refine zdM (m:=slotArgs "__next__" 0 _) (zdN (zdM (wpAny_fieldsOf x rfl ?_)));refine zdM (zdM (wpAny_setState_of g d f (zdN ?_)));dsimp only;rw[if_neg (by simp)];refine zdM (show wpAny _ _ (setNext a (slot:Int).toNat (i:Int).toNat (ep:Int).toNat) _ _ _ from hn _ _ ?_);refine zdM (wpAny_setField_rec x (by simp) fun h1 g1 k1=>?_);exact xy (s:={s with heap:=h1}) hA (Heap.SameBut.refl I h1).extBut fun h' e=>q h' fun b o n z=>e b o n (k1.extBut b o n z)
theorem Ln{Q:Option zdK->zdT->Prop}{p:zdJ}{op:Obj}{pl:Array zdK}{np k:Nat}{e:Int×zdK}(x:A1 s.heap I a (.ref p) i es.size ep)(y:iN s.heap a es ep t)(hp:s.heap.get? p=some op)(dp:op.data=.seq pl np)(hk:pl[i]?=some (.int k 0))(he:es[k]?=some e)
 (q:∀h',A1 h' I a (.ref p) (i+1) es.size ep->Heap.SameBut I s.heap h'->Q (some e.2) {s with heap:=h' }):wpAny (model prog w) A (pyNext (.ref I)) Q E s:=by
 have ty:s.TypeIs (.ref I) "set_iterator":=⟨_,x,rfl⟩
 obtain⟨o,g,c,d,f⟩:=y;unfold pyNext;refine zdM (wpAny_attempt (wpAny_callSpecial?_slot (name:=zac "__next__") ty iB (wpAny_call_entry iB ty qk ?_ (tU _))));unfold Builtin.«set_iterator.__next__»;refine zdM (m:=slotArgs "__next__" 0 _) (zdN (zdM (wpAny_fieldsOf x rfl ?_)));refine zdM (zdM (wpAny_setState_of g d f (zdN ?_)));dsimp only;rw[if_neg (by simp)];refine zdM ?_;unfold seqItems?;refine zdM (wpAny_load hp ?_);rw[dp];refine zdN ?_;dsimp only;rw[zaZ,hk];dsimp only;refine zdM ?_;unfold setNextDrawn;refine zdM (wpAny_setState_of g d f ?_);dsimp only;rw[zaZ,zaZ,if_neg (by simp),he];dsimp only;refine zdN (zdM (wpAny_setField_rec x (by simp) fun h2 g2 k2=>zdN ⟨_,rfl,zdN (q h2 ?_ k2)⟩));unfold A1;rw[g2];simp[rawInt]
theorem Ov{Q:Option zdK->zdT->Prop}{p:zdJ}{op:Obj}{pl:Array zdK}{np:Nat}(hA:A.handled=none)(x:A1 s.heap I a (.ref p) i es.size ep)(y:iN s.heap a es ep t)(hp:s.heap.get? p=some op)(dp:op.data=.seq pl np)(hk:pl[i]?=none)
 (q:∀h',Heap.ExtBut I s.heap h'->Q none {s with heap:=h' }):wpAny (model prog w) A (pyNext (.ref I)) Q E s:=by
 have ty:s.TypeIs (.ref I) "set_iterator":=⟨_,x,rfl⟩
 obtain⟨o,g,c,d,f⟩:=y;unfold pyNext;refine zdM (wpAny_attempt (wpAny_callSpecial?_slot (name:=zac "__next__") ty iB (wpAny_call_entry iB ty qk ?_ (tU _))));unfold Builtin.«set_iterator.__next__»;refine zdM (m:=slotArgs "__next__" 0 _) (zdN (zdM (wpAny_fieldsOf x rfl ?_)));refine zdM (zdM (wpAny_setState_of g d f (zdN ?_)));dsimp only;rw[if_neg (by simp)];refine zdM ?_;unfold seqItems?;refine zdM (wpAny_load hp ?_);rw[dp];refine zdN ?_;dsimp only;rw[zaZ,hk];refine zdM (wpAny_setField_rec x (by simp) fun h1 g1 k1=>zdM (wpAny_setField_rec g1 (by simp) fun h2 g2 k2=>?_));exact xy (s:={s with heap:=h2}) hA (Heap.SameBut.refl I h2).extBut fun h' e=>q h' fun b o n z=>e b o n ((k1.trans k2).extBut b o n z)
end
theorem vv{α:Type}{l:List α}{i:Nat}(h:i<l.length):(l[i]::l.eraseIdx i).Perm l:=by
 rw[List.eraseIdx_eq_take_drop_succ];refine List.perm_middle.symm.trans ?_;rw[List.getElem_cons_drop,zb4]
theorem Lo{α:Type}(f:Nat->Nat):∀(n k:Nat) (l:List α) (o:Array α),n=l.length->(pickOrder.go f n k l o).toList.Perm (o.toList++l):=by
 intro n
 induction n with
 |zero=>
  intro k l o e;have:l=[]:=zbI.mp e.symm;subst this;unfold pickOrder.go;rw[zba]
 |succ n ih=>
  intro k l o e;unfold pickOrder.go;have lt:f k%l.length<l.length:=Nat.mod_lt _ (by first|decide|omega);rw[zaa lt];dsimp only;refine(ih _ _ _ (by rw[zdv,if_pos lt];omega)).trans ?_;rw[Array.toList_push,za0];refine List.Perm.append_left _ ?_;exact vv lt
theorem q0{α:Type}(f:Nat->Nat)(xs:Array α):(pickOrder f xs).toList.Perm xs.toList:=by
 have:=Lo f xs.size 0 xs.toList #[] (by simp);unfold pickOrder;simpa using this
section
variable{prog:zdV}{w:zdL}{A:zdU}{E:zdK->zdT->Prop}{s:zdT}{I a:zdJ}{f0:zdK}{i n ep:Nat}{es:Array (Int×zdK)}{t:SetTable}
theorem CK{src:Source}{m:Nat}{Q:Nat->zdT->Prop}(hm:0<m)(q:∀j d,j<m->Q j {s with drawn:=d}):wpAny (model prog w) A (choose src m) Q E s:=fun Γ p _=>by
 unfold choose;rw[Sem.wp_choose];exact⟨za2 hm,q _ _ (Nat.mod_lt _ hm)⟩
theorem FC:∀(m:Nat) (xs:List Nat) (s:zdT) (R:List Nat->zdT->Prop),m=xs.length->(∀ys d,ys.Perm xs->R ys {s with drawn:=d})->wpAny (model prog w) A (drawOrder m xs) R E s:=by
 intro m
 induction m with
 |zero=>
  intro xs s R e q;have:xs=[]:=zbI.mp e.symm;subst this;unfold drawOrder;exact zdN (q [] s.drawn .nil)
 |succ m ih=>
  intro xs s R e q;cases xs with
  |nil=>cases e
  |cons x r=>
   unfold drawOrder;refine zdM (CK (by simp) fun j d hj=>?_);rw[zaa hj];dsimp only;refine zdM (ih _ _ _ (by rw[zdv,if_pos hj];simp at e ⊢;omega) fun ys d2 pm=>zdN (q _ d2 ?_));exact(List.Perm.cons _ pm).trans (vv hj)
theorem tV{Q:Bool->zdT->Prop}(q:Q (w.params.followText "set-order") s):wpAny (model prog w) A setsByText Q E s:=by
 unfold setsByText;exact zdM (wpAny_askSetting (zdN q))
theorem DR{slot:Nat}{R:Option (zdK×Nat)->zdT->Prop}(b:w.params.followText "set-order"=true)(y:iN s.heap a es ep t)(q:R (((pickOrder (w.params.setOrder a ep) es)[i]?).map fun e=>(e.2,slot)) s):wpAny (model prog w) A (setNext a slot i ep) R E s:=by
 obtain⟨o,g,c,d,f⟩:=y;unfold setNext;refine zdM (wpAny_setState_of g d f (zdM (tV ?_)));rw[b];simp only[bne_self_eq_false,if_true,if_false,zaF];refine zdM ?_;unfold setWalk;refine zdM (wpAny_setState_of g d f (zdM (tV ?_)));rw[b];simp only[if_true];exact zdM (wpAny_askSetting (zdN (zdN q)))
theorem IG{slot:Nat}{R:Option (zdK×Nat)->zdT->Prop}(b:w.params.followText "set-order"=false)(dr:(!t.plain&&decide (es.size>1))=false)(led:t.led=true)(y:iN s.heap a es ep t)(q:R (match es[SetTable.below t.place slot]?,t.place[SetTable.below t.place slot]? with |some (_,x),some j=>some (x,j+1) |_,_=>none) s):wpAny (model prog w) A (setNext a slot i ep) R E s:=by
 obtain⟨o,g,c,d,f⟩:=y;unfold setNext;refine zdM (wpAny_setState_of g d f (zdM (tV ?_)));dsimp only;rw[b];simp only[if_false,zaF];show wpAny _ _ (if (!t.plain&&decide (es.size>1))=true then _ else _) _ _ _;rw[if_neg (by rw[dr];exact zar)];refine zdM (show wpAny _ _ (if (!t.led && !es.isEmpty)=true then unsupported "set:maker-not-led" else pure ()) _ _ _ from ?_);rw[led];exact zdN (zdN q)
theorem IH{Q:zdK->zdT->Prop}(hb:es.size<scanBound)(y:iN s.heap a es ep t)(CJ:mI t.place)(led:w.params.followText "set-order"=false->t.led=true)
 (q:∀(f0:zdK) (h':Heap) (d:_),(∀b o,s.heap.get? b=some o->h'.get? b=some o)->s.heap.objs.size<=h'.objs.size->
  ((∃sl:Nat,f0=.int sl 0/\w.params.followText "set-order"=true)\/(f0=.int 0 0/\w.params.followText "set-order"=false/\(!t.plain&&decide (es.size>1))=false)\/∃(p:zdJ) (od:List Nat),f0=.ref p/\p<h'.objs.size/\s.heap.objs.size<=p/\od.Perm (zaC es.size)/\∃op np,h'.get? p=some op/\op.data=.seq (od.map fun (k:Nat)=>rawInt k).toArray np)->
  Q (.ref h'.objs.size) {s with heap:=h'.push {cls:=.type "set_iterator",dict:=none,data:=.fields #[f0,.int 0 0,.ref a,.int es.size 0,.int ep 0],slots:=#[]},drawn:=d}) :
 wpAny (model prog w) A (pyIter (.ref a)) Q E s:=by
 have ty:s.TypeIs (.ref a) "set":=by obtain⟨o,g,c,_⟩:=y;exact⟨o,g,c.1⟩
 obtain⟨o,g,c,d,f⟩:=id y;refine wpAny_pyIter_slot ty F.slot_set_iter (wpAny_call_entry F.slot_set_iter ty IE ?_ (F.args_set_iter_1 _));unfold Builtin.«frozenset.__iter__»;refine zdM (m:=Builtin.Frozenset.slot0 "__iter__" _) (zdN (zdM (zdM (zdM (wpAny_setState_of g d f (zdN (zdN ?_)))))));refine zdM ?_;unfold setDrawn;refine zdM (wpAny_setState_of g d f (zdM (tV (zdN ?_))));have fin:∀(f0:zdK) (h':Heap) (dr:Drawn),(∀b o,s.heap.get? b=some o->h'.get? b=some o)->s.heap.objs.size<=h'.objs.size->
  ((∃sl:Nat,f0=.int sl 0/\w.params.followText "set-order"=true)\/(f0=.int 0 0/\w.params.followText "set-order"=false/\(!t.plain&&decide (es.size>1))=false)\/∃(p:zdJ) (od:List Nat),f0=.ref p/\p<h'.objs.size/\s.heap.objs.size<=p/\od.Perm (zaC es.size)/\∃op np,h'.get? p=some op/\op.data=.seq (od.map fun (k:Nat)=>rawInt k).toArray np)->
  wpAny (model prog w) A.in1 (do
   let e <- setEpoch a
   let v <- newFields "set_iterator" [f0,rawInt 0,.ref a,rawInt es.size,rawInt e]
   ret v) (fun fin s'=>∃v,fin=.done (.ret v)/\∃T' r,s'.TypeIs v T'/\typeLookup (.type T') (zac "__next__")=pure (some r)/\Q v s') E {s with heap:=h',drawn:=dr}:=by
  intro f0 h' dr kp le md;refine zdM (wpAny_setEpoch_of (kp a o g) d f ?_);refine zdM (wpAny_newObj_type (zdN ⟨_,rfl, "set_iterator",_,⟨_,Heap.get?_push_size _ rfl,rfl⟩,iB.lookup,?_⟩));simpa[rawInt] using q f0 h' dr kp le md
 show wpAny _ _ (if (!w.params.followText "set-order"&&(!t.plain&&decide (es.size>1)))=true then _ else _) _ _ _;by_cases z:(!w.params.followText "set-order"&&(!t.plain&&decide (es.size>1)))=true
 ·rw[if_pos z];have zs:es.size<=zdR:=fits_of_scanBound hb;refine zdM (FC _ _ _ _ (by simp) fun ys dr pm=>?_);refine zdM ?_;simp only[newTuple];refine wpAny_newObj_type ?_ (by show (zbn _).size<=zdR;rw[zas,zad,pm.length_eq,zbE];exact zs);exact fin (.ref s.heap.objs.size) _ dr (fun b o e=>Heap.get?_push_of_some _ e) (by rw[Heap.size_push];exact zcb _) (.inr (.inr ⟨_,ys,rfl,by rw[Heap.size_push];exact zb7 _,zaj _,pm,_,_,Heap.get?_push_size _ rfl,rfl⟩))
 ·rw[if_neg z];refine zdM (zdN (fin (.int 0 0) s.heap s.drawn (fun b o e=>e) (zaj _) ?_));cases b:w.params.followText "set-order" with
  |true=>exact .inl ⟨0,rfl,rfl⟩
  |false=>
   rw[b] at z;exact .inr (.inl ⟨rfl,rfl,by simpa using z⟩)
theorem DS:Slot "set_iterator" "__iter__" "set_iterator.__iter__":=.of (owner:="set_iterator") (n:="__iter__") (by rw[typeLookup_type,builtinLookup_eq_fast];kernel_rfl) (by decide +kernel) (by decide +kernel) (by decide +kernel) (.inl (by decide +kernel)) (by rw[isSubtype_type];kernel_rfl)
theorem II:entryFor table "set_iterator.__iter__"=some Builtin.«dict_keyiterator.__iter__»:=entryFor_alias (id':="dict_keyiterator.__iter__") (by kernel_rfl) rfl (by decide +kernel) (by kernel_rfl)
theorem Lp(a:zdK):argsOk "set_iterator.__iter__" ⟨[a],[]⟩:=by unfold argsOk;kernel_rfl
theorem yJ{Q:zdK->zdT->Prop}(x:A1 s.heap I a f0 i n ep)(q:Q (.ref I) s):wpAny (model prog w) A (pyIter (.ref I)) Q E s:=by
 have ty:s.TypeIs (.ref I) "set_iterator":=⟨_,x,rfl⟩
 refine wpAny_pyIter_slot ty DS (wpAny_call_entry DS ty II ?_ (Lp _));exact zdN ⟨_,rfl, "set_iterator",_,ty,iB.lookup,q⟩
theorem A1.Bv{h h':Heap}(x:A1 h I a f0 i n ep)(e:∀o,h.get? I=some o->h'.get? I=some o):A1 h' I a f0 i n ep:=e _ x
theorem Lq(hA:A.handled=none)(ne:a≠I)(b:w.params.followText "set-order"=true)(sl:Nat):Walks prog w A I [I,a] [I] es.size (fun i v=>∃e,(pickOrder (w.params.setOrder a ep) es)[i]?=some e/\v=e.2) (fun i h=>A1 h I a (.int sl 0) i es.size ep/\iN h a es ep t) where
 sub:=fun b hb=>zag.mpr (.inl (zan.mp hb))
 frame:=fun _ _ _ z k=>⟨z.1.Bv fun o e=>k I (by simp) o e,z.2.Bv fun o e=>k a (by simp) o e⟩
 item:=fun i s Q E hi z q=>by
  have lt:i<(pickOrder (w.params.setOrder a ep) es).size:=by
   have:=(q0 (w.params.setOrder a ep) es).length_eq;simp at this;omega
  refine DQ z.1 z.2 (z:=(pickOrder (w.params.setOrder a ep) es)[i].2) (nx:=sl) (fun E R r=>DR b z.2 (by rw[zaE lt];exact r)) fun h' x k=>q _ h' s.toks ⟨_,zaE lt,rfl⟩ ⟨x,z.2.Bv fun o e=>k.extBut a o ne e⟩ fun c o nc e=>k.extBut c o (fun h=>nc (by simp[h])) e
 done:=fun s Q E z q=>by
  have sz:(pickOrder (w.params.setOrder a ep) es).size=es.size:=by
   have:=(q0 (w.params.setOrder a ep) es).length_eq;simpa using this
  exact IF hA z.1 z.2 (fun E R r=>DR b z.2 (by rw[zbX (by first|decide|omega)];exact r)) fun h' x=>q h' s.toks fun c o nc e=>x c o (fun h=>nc (by simp[h])) e
 self:=fun _ _ _ _ z q=>yJ z.1 q
theorem Ow(hA:A.handled=none)(ne:a≠I)(b:w.params.followText "set-order"=false)(dr:(!t.plain&&decide (es.size>1))=false)(led:t.led=true)(CJ:mI t.place)(fit:t.fits es.size=true):Walks prog w A I [I,a] [I] es.size (fun i v=>∃e,es[i]?=some e/\v=e.2) (fun i h=>A1 h I a (.int (slotAt t.place i) 0) i es.size ep/\iN h a es ep t) where
 sub:=fun b hb=>zag.mpr (.inl (zan.mp hb))
 frame:=fun _ _ _ z k=>⟨z.1.Bv fun o e=>k I (by simp) o e,z.2.Bv fun o e=>k a (by simp) o e⟩
 item:=fun i s Q E hi z q=>by
  have zs:t.place.size=es.size:=by simp only[SetTable.fits,za5,beq_iff_eq] at fit;exact fit.1
  have lt:i<t.place.size:=by first|decide|omega
  have bs:=vt CJ (zbz lt);refine DQ z.1 z.2 (z:=es[i].2) (nx:=t.place[i]+1) (fun E R r=>IG b dr led z.2 (by rw[bs,zaE hi,zaE lt];exact r)) fun h' x k=>q _ h' s.toks ⟨_,zaE hi,rfl⟩ ⟨?_,z.2.Bv fun o e=>k.extBut a o ne e⟩ fun c o nc e=>k.extBut c o (fun h=>nc (by simp[h])) e;have:slotAt t.place (i+1)=t.place[i]+1:=by show t.place.getD i 0+1=_;simp[zch,lt]
  rw[this];exact x
 done:=fun s Q E z q=>by
  have zs:t.place.size=es.size:=by simp only[SetTable.fits,za5,beq_iff_eq] at fit;exact fit.1
  have bs:=vt CJ (zc0 zs.symm);exact IF hA z.1 z.2 (fun E R r=>IG b dr led z.2 (by rw[bs,zbX (zaj _)];exact r)) fun h' x=>q h' s.toks fun c o nc e=>x c o (fun h=>nc (by simp[h])) e
 self:=fun _ _ _ _ z q=>yJ z.1 q
theorem IJ(hA:A.handled=none)(ne:a≠I){p:zdJ}(np:p≠I){od:List Nat}(pm:od.Perm (zaC es.size)){m:Nat}{op:Obj}(Mi:op.data=.seq (od.map fun (k:Nat)=>rawInt k).toArray m):Walks prog w A I [I,a,p] [I] es.size (fun i v=>∃e,(od.filterMap (es[·]?)).toArray[i]?=some e/\v=e.2) (fun i h=>A1 h I a (.ref p) i es.size ep/\iN h a es ep t/\h.get? p=some op) where
 sub:=fun b hb=>zag.mpr (.inl (zan.mp hb))
 frame:=fun _ _ _ z k=>⟨z.1.Bv fun o e=>k I (by simp) o e,z.2.1.Bv fun o e=>k a (by simp) o e,k p (by simp) _ z.2.2⟩
 item:=fun i s Q E hi z q=>by
  have lo:od.length=es.size:=by rw[pm.length_eq,zbE]
  have Rn:od[i]?=some (od[i]'(by first|decide|omega)):=zaa (by first|decide|omega);have lk:od[i]'(by first|decide|omega)<es.size:=zbv.mp (pm.mem_iff.mp (zao _));refine Ln z.1 z.2.1 z.2.2 Mi (k:=od[i]'(by first|decide|omega)) (e:=es[od[i]'(by first|decide|omega)]) (by simp[Rn,rawInt]) (zaE lk) fun h' x k=>q _ h' s.toks ⟨_,?_,rfl⟩ ⟨x,z.2.1.Bv fun o e=>k.extBut a o ne e,k.extBut p _ np z.2.2⟩ fun c o nc e=>k.extBut c o (fun h=>nc (by simp[h])) e;have key:∀(l:List Nat),(∀x∈l,x<es.size)->∀(j:Nat) (hj:j<l.length) (h2:l[j]<es.size),(l.filterMap (es[·]?))[j]?=some es[l[j]]:=by
   intro l
   induction l with
   |nil=>intro _ j hj;simp at hj
   |cons x r ih=>
    intro hl j hj h2;rw[List.filterMap_cons_some (zaE (hl x (by simp)))];cases j with
    |zero=>rfl
    |succ j=>exact ih (fun y hy=>hl y (by simp[hy])) j (by simpa using hj) h2
  rw[List.getElem?_toArray];exact key od (fun x hx=>zbv.mp (pm.mem_iff.mp hx)) i (by first|decide|omega) lk
 done:=fun s Q E z q=>by
  have lo:od.length=es.size:=by rw[pm.length_eq,zbE]
  exact Ov hA z.1 z.2.1 z.2.2 Mi (by simp;omega) fun h' x=>q h' s.toks fun c o nc e=>x c o (fun h=>nc (by simp[h])) e
 self:=fun _ _ _ _ z q=>yJ z.1 q
end
section
variable{prog:zdV}{w:zdL}{A:zdU}{E:zdK->zdT->Prop}{s:zdT}{I a:zdJ}{f0:zdK}{i n ep:Nat}{es:Array (Int×zdK)}{t:SetTable}
theorem IK{Q:Bool->zdT->Prop}(ty:s.TypeIs (.ref a) "set")(q:Q false s):wpAny (model prog w) A (Builtin.List.listLengthHint (.ref a)) Q E s:=by
 unfold Builtin.List.listLengthHint;refine zdM (wpAny_specialOf ty F.slot_set_len.lookup ?_);generalize YQ:("set.__len__":String)=id0
 wp_delta
 rw[show splitId id0=some ("set", "__len__") from by subst YQ;decide +kernel];subst YQ;refine zdM (wpAny_isInstance (T:="set") (b:=true) ty (by rw[isSubtype_type];kernel_rfl) ?_);refine wpAny_ite_split (fun z=>absurd z (by decide)) fun _=>?_;refine wpAny_ite_split (fun _=>?_) fun z=>absurd (by decide +kernel) z;exact zdM (wpAny_typeOf ty (zdN q))
theorem CL{Lr:Array (Int×zdK)}{acc:Array zdK}(h:ItemsOf (fun i v=>∃e,Lr[i]?=some e/\v=e.2) acc Lr.size):acc.toList=Lr.toList.map (·.2):=by
 refine zcV fun j=>?_;by_cases hj:j<Lr.size
 ·have lj:j<acc.size:=by rw[h.1];exact hj
  obtain⟨e,e1,e2⟩:=h.2 j acc[j] (zaE lj);rw[zaU,zaE lj,e2,zal,zaU,e1];rfl
 ·rw[zaX (by have:=h.1;simp;omega),zaX (by simp;omega)]
theorem Ls{R:Result->zdT->Prop}{S:zdJ}{c₀:Nat}{res:zdK}(hA:A.handled=none)(hb:es.size<scanBound)(y:iN s.heap a es ep t)(CJ:mI t.place)(led:w.params.followText "set-order"=false->t.led=true)(RX:S≠a)(hS:s.heap.get? S=some {cls:=.type "list",data:=.seq #[] c₀})
 (hR:∀h' tk dr acc c,(∀b o,b≠S->s.heap.get? b=some o->h'.get? b=some o)->h'.get? S=some {cls:=.type "list",dict:=none,data:=.seq acc c,slots:=#[]}->acc.toList.Perm (es.toList.map (·.2))->R (.ok (.ret res)) {s with heap:=h',toks:=tk,drawn:=dr}) :
 wpAny (model prog w) A.in1 (Builtin.List.listExtendWith (.ref S) (.ref a) res)
  (fun fin s'=>match fin with |.done f=>R (.ok f) s' |.again c'=>c'.quiet=true/\codeAny (model prog w) A c' R s') (fun e s'=>R (.error e) s') s:=by
 have ty:s.TypeIs (.ref a) "set":=by obtain⟨o,g,c,_⟩:=y;exact⟨o,g,c.1⟩
 have fit:t.fits es.size=true:=by obtain⟨o,g,c,d,f⟩:=y;exact f
 have hs:es.size<=zdR:=fits_of_scanBound hb;unfold Builtin.List.listExtendWith;refine zdM (wpAny_typeOf ty ?_);have h1:Builtin.List.listSameRef (.ref S) (.ref a)=false:=by simp[Builtin.List.listSameRef,RX]
 simp only[h1,show (Value.type "set"==Value.type "list")=false by decide,show (Value.type "set"==Value.type "tuple")=false by decide,zdx,zaF,if_false];refine zdM (IH hb y CJ led fun f0 h1 dr kp le md=>?_);have lS:=Heap.lt_size hS;have la:a<s.heap.objs.size:=by obtain⟨o,g,_⟩:=y;exact Heap.lt_size g
 have nI:a≠h1.objs.size:=zat (zay la le);have nS:S≠h1.objs.size:=zat (zay lS le);generalize eo:({cls:=.type "set_iterator",dict:=none,data:=.fields #[f0,.int 0 0,.ref a,.int es.size 0,.int ep 0],slots:=#[]}:Obj)=oI;have MB:∀b o,s.heap.get? b=some o->(h1.push oI).get? b=some o:=fun b o e=>Heap.get?_push_of_some _ (kp b o e);have gI:(h1.push oI).get? h1.objs.size=some oI:=Heap.get?_push_size _ (by rw[<- eo];rfl);have loop:∀(h2:Heap) (c₁ tk:Nat),(∀b o,b≠S->(h1.push oI).get? b=some o->h2.get? b=some o)->h2.get? S=some {cls:=.type "list",data:=.seq #[] c₁}->
  codeAny (model prog w) A (.builtin "list.extend.loop" ⟨[.ref S,.ref h1.objs.size,res],[]⟩) R {s with heap:=h2,toks:=tk,drawn:=dr}:=by
  intro h2 c₁ tk k2 g2;have y2:iN h2 a es ep t:=y.Bv fun o e=>k2 a o RX.symm (MB a o e);have Cc:A1 h2 h1.objs.size a f0 0 es.size ep:=by
   unfold A1;rw[k2 _ _ nS.symm gI,<- eo];rfl
  have fin:∀(s':zdT) (acc:Array zdK) (c:Nat) (Lr:Array (Int×zdK)),Lr.toList.Perm es.toList->Moved [S,h1.objs.size] (fun a b=>b=a) {s with heap:=h2,toks:=tk,drawn:=dr} s'->s'.heap.get? S=some {cls:=.type "list",dict:=none,data:=.seq acc c,slots:=#[]}->ItemsOf (fun i v=>∃e,Lr[i]?=some e/\v=e.2) acc es.size->R (.ok (.ret res)) s':=by
   intro s' acc c Lr pm m g ia;have zo:Lr.size=es.size:=by have:=pm.length_eq;simpa using this
   rw[Moved.eq_with m];refine hR s'.heap s'.toks dr acc c (fun b o nb e=>m.heap b o (fun z=>?_) (k2 b o nb (MB b o e))) g ?_
   ·rcases zag.mp z with z |z
    ·exact nb z
    ·have lb:=Heap.lt_size e;rw[zan.mp z] at lb;exact absurd (zay lb le) (za1 _)
   ·rw[CL (by rw[zo];exact ia)];exact pm.map _
  rcases md with ⟨sl,rfl,b⟩ |⟨rfl,b,dw⟩ |⟨p,od,rfl,lp,gp,pm,op,np,hp,dp⟩
  ·refine codeAny_extend_loopS (Lq (A:=A.in1) (ep:=ep) (t:=t) hA nI b sl).toS hs S (by simp only[zag,zaT,or_false,not_or];exact⟨nS,RX⟩) res es.size 0 _ #[] c₁ rfl (zaI _) ⟨Cc,y2⟩ g2 (ItemsOf.nil _) fun s' acc c m g ia=>fin s' acc c _ (q0 _ _) m g ia
  ·refine codeAny_extend_loopS (Ow (A:=A.in1) (ep:=ep) hA nI b dw (led b) CJ fit).toS hs S (by simp only[zag,zaT,or_false,not_or];exact⟨nS,RX⟩) res es.size 0 _ #[] c₁ rfl (zaI _) ⟨Cc,y2⟩ g2 (ItemsOf.nil _) fun s' acc c m g ia=>fin s' acc c _ (List.Perm.refl _) m g ia
  ·have YR:S≠p:=zat (zay lS gp);refine codeAny_extend_loopS (IJ (A:=A.in1) (ep:=ep) (t:=t) hA nI (zat lp) pm dp).toS hs S (by simp only[zag,zaT,or_false,not_or];exact⟨nS,RX,YR⟩) res es.size 0 _ #[] c₁ rfl (zaI _) ⟨Cc,y2,k2 p _ YR.symm (Heap.get?_push_of_some _ hp)⟩ g2 (ItemsOf.nil _) fun s' acc c m g ia=>fin s' acc c _ ?_ m g ia;refine(pm.filterMap _).trans ?_;rw[filterMap_getElem?_range]
 refine zdM (zdO (IK (s:={s with heap:=h1.push oI,drawn:=dr}) (by obtain⟨o,g,c⟩:=ty;exact⟨o,MB a o g,c⟩) ?_));have gS:=MB S _ hS;refine wpAny_ite_split (fun _=>?_) (fun _=>zdN ⟨plainId_quiet F.plain_extend_loop _,loop _ c₀ s.toks (fun b o _ e=>e) gS⟩);refine zdM (wpAny_rule (zdM ?_));show wpAny _ _ (updateSeq S (·.push .none) >>= fun _=>updateSeq S (·.pop)) _ _ _;refine zdM (wpAny_updateSeq gS rfl ?_);have g2:=Heap.get?_update_self (Obj.mapSeq (·.push Value.none)) gS rfl;refine wpAny_updateSeq (hz:=by seq_fits) g2 rfl ?_;have g3:=Heap.get?_update_self (Obj.mapSeq (·.pop)) g2 rfl;exact zdN ⟨plainId_quiet F.plain_extend_loop _,loop _ _ s.toks (fun b o nb e=>(Heap.get?_update_other _ _ nb.symm).trans ((Heap.get?_update_other _ _ nb.symm).trans e)) g3⟩
theorem A2{Q:List zdK->zdT->Prop}(hA:A.handled=none)(hb:es.size<scanBound)(y:iN s.heap a es ep t)(CJ:mI t.place)(led:w.params.followText "set-order"=false->t.led=true)
 (q:∀h' tk dr vs,(∀b o,s.heap.get? b=some o->h'.get? b=some o)->s.heap.objs.size<=h'.objs.size->vs.Perm (es.toList.map (·.2))->Q vs {s with heap:=h',toks:=tk,drawn:=dr}):wpAny (model prog w) A (collect (.ref a)) Q E s:=by
 have la:a<s.heap.objs.size:=by obtain⟨o,g,_⟩:=y;exact Heap.lt_size g
 unfold collect;refine zdM (wpAny_runValue (codeAny_builtin entry_proto_collect' ?_));rw[Around.under_plainId zcO _];show wpAny _ A.in1 (newList [] >>= fun l=>again (.builtin "list.__iadd__" ⟨[l,.ref a],[]⟩)) _ _ s;refine zdM (wpAny_newObj_type (zdN ⟨plainId_quiet zbU _,codeAny_builtin entry_list_iadd' ?_⟩));rw[Around.under_plainId zbU _];have g1:(s.heap.push {cls:=.type "list",data:=.seq ([]:List zdK).toArray}).get? s.heap.objs.size=some {cls:=.type "list",data:=.seq #[]}:=Heap.get?_push_size _ rfl;refine wpAny_mono (Ls (s:={s with heap:=s.heap.push {cls:=.type "list",data:=.seq ([]:List zdK).toArray} }) (R:=fun r s'=>∃h' tk dr acc c,r=.ok (.ret (.ref s.heap.objs.size))/\s'={s with heap:=h',toks:=tk,drawn:=dr}/\(∀b o,s.heap.get? b=some o->h'.get? b=some o)/\h'.get? s.heap.objs.size=some {cls:=.type "list",dict:=none,data:=.seq acc c,slots:=#[]}/\acc.toList.Perm (es.toList.map (·.2)))
  hA hb (y.Bv fun o e=>Heap.get?_push_of_some _ e) CJ led (za2 la) g1 fun h' tk dr acc c kp g pm=>⟨h',tk,dr,acc,c,rfl,rfl,fun b o e=>kp b o (zat (Heap.lt_size e)) (Heap.get?_push_of_some _ e),g,pm⟩) (fun fin s' x=>?_) fun e s' x=>?_
 ·have done:∀ {h' tk dr acc c},(∀b o,s.heap.get? b=some o->h'.get? b=some o)->h'.get? s.heap.objs.size=some {cls:=.type "list",dict:=none,data:=.seq acc c,slots:=#[]}->acc.toList.Perm (es.toList.map (·.2))->wpAny (model prog w) A (do
   match (<- load s.heap.objs.size).data with
   |.seq xs _=>pure xs.toList
   |_=>unsupported "internal:collect") Q E {s with heap:=h',toks:=tk,drawn:=dr}:=by
   intro h' tk dr acc c kp g pm;exact zdM (wpAny_load g (zdN (q h' tk dr _ kp (zbz (Heap.lt_size g)) pm)))
  cases fin with
  |done f=>
   obtain⟨h',tk,dr,acc,c,e,rfl,kp,g,pm⟩:=x;cases e;exact done kp g pm
  |again c1=>
   refine⟨x.1,codeAny_mono x.2 fun r s2 z=>?_⟩;obtain⟨h',tk,dr,acc,c,rfl,rfl,kp,g,pm⟩:=z;exact done kp g pm
 ·obtain⟨_,_,_,_,_,z,_⟩:=x;cases z
end
def DT (w:zdL) (p:zdJ) (ns:List Int):Heap->Prop:=fun h=>∃es ep t ks,iN h p es ep t/\mI t.place/\(w.params.followText "set-order"=false->t.led=true)/\es.size<scanBound/\IntsAre (es.toList.map (·.2)) ks/\ks.Nodup/\∀k,k∈ks↔k∈ns
theorem A3(val:Nat->Int):∀i,(firstMet val i).Nodup:=by
 intro i
 induction i with
 |zero=>rw[firstMet_zero];exact List.nodup_nil
 |succ i ih=>
  rw[firstMet_succ];unfold step_dedup;split
  ·exact ih
  ·rename_i z;rw[zbF];refine⟨ih,by simp,fun a ha b hb=>?_⟩;rw[zan.mp hb];intro e;exact z (by rw[<- e];exact zbu.mpr ⟨a,ha,by simp⟩)
theorem yK(ns:List Int)(k:Int):k∈yI ns ns.length↔k∈ns:=by
 have h:=firstMet_any (fun i=>ns.getD i 0) ns.length k;have e:(zaC ns.length).map (fun i=>ns.getD i 0)=ns:=by
  refine zcV fun j=>?_;rw[zal];by_cases hj:j<ns.length
  ·rw[zdB hj,zaa hj];simp[zaf,hj]
  ·rw[zaX (by simp;omega),zaX (by first|decide|omega)];rfl
 rw[e] at h;have m:∀l:List Int,l.any (·==k)=decide (k∈l):=fun l=>by
  induction l with
  |nil=>rfl
  |cons x r ih=>
   rw[zbH,ih];by_cases z:x=k
   ·subst z;simp
   ·simp[z,Ne.symm z]
 rw[m,m] at h;exact⟨fun z=>of_decide_eq_true (h▸decide_eq_true z),fun z=>of_decide_eq_true (h.symm▸decide_eq_true z)⟩
theorem wg{prog:zdV}{w:zdL}:∀ {l:List (Int×zdK)},ElemsOf (intKind prog w) l->∃ks,IntsAre (l.map (·.2)) ks/\∀k,k∈ks↔∃e∈l,(intKind prog w).is k e.2=true:=by
 intro l
 induction l with
 |nil=>exact fun _=>⟨[],.nil,fun k=>by simp⟩
 |cons e r ih=>
  intro h;obtain⟨ks,h1,h2⟩:=ih h.tail;obtain⟨⟨k,hk,_⟩,_⟩:=h.head;obtain⟨t,ht⟩:=Value.isInt_shape (k:=k) (v:=e.2) hk;refine⟨k::ks,?_,fun j=>?_⟩
  ·rw[zaq,ht];exact .cons _ _ h1
  ·rw[zag,h2]
   constructor
   ·rintro (rfl |⟨x,hx,y⟩)
    ·exact⟨e,by simp,hk⟩
    ·exact⟨x,by simp[hx],y⟩
   ·rintro ⟨x,hx,y⟩
    rcases zag.mp hx with rfl |hx
    ·exact .inl ((intKind prog w).inj _ _ _ y hk)
    ·exact .inr ⟨x,hx,y⟩
theorem IntsAre.perm{vs us:List zdK}{ks:List Int}(pm:vs.Perm us)(h:IntsAre us ks):∃js,IntsAre vs js/\js.Perm ks:=by
 induction pm generalizing ks with
 |nil=>exact⟨ks,h,.refl _⟩
 |cons x _ ih=>
  cases h with
  |cons n t h=>
   obtain⟨js,h1,h2⟩:=ih h;exact⟨n::js,.cons _ _ h1,h2.cons _⟩
 |swap x y l=>
  cases h with
  |cons n t h=>
   cases h with
   |cons m u h=>exact⟨m::n::_,.cons _ _ (.cons _ _ h),.swap _ _ _⟩
 |trans _ _ Wq Wr=>
  obtain⟨js,h1,h2⟩:=Wr h;obtain⟨is,h3,h4⟩:=Wq h1;exact⟨is,h3,h4.trans h2⟩
theorem IL{α:Type}[DecidableEq α]:∀(xs ys:List α),xs.Nodup->(∀x∈xs,x∈ys)->xs.length<=ys.length:=by
 intro xs
 induction xs with
 |nil=>exact fun _ _ _=>zaI _
 |cons x r ih=>
  intro ys h q;obtain⟨nx,nr⟩:=zam.mp h;have hx:=q x (by simp);have:=ih (ys.erase x) nr fun y hy=>(zcB (fun e:y=x=>nx (e▸hy))).mpr (q y (by simp[hy]));have l:=zce hx;have p:=zbY hx;rw[zai];lia
theorem Ox{α:Type}[DecidableEq α]:∀(xs ys:List α),xs.Nodup->(∀x∈xs,x∈ys)->ys.length<=xs.length->ys.Nodup:=by
 intro xs
 induction xs with
 |nil=>
  intro ys _ _ l;have:ys=[]:=zbI.mp (Nat.le_zero.mp l);rw[this];exact List.nodup_nil
 |cons x r ih=>
  intro ys h q l;obtain⟨nx,nr⟩:=zam.mp h;have hx:=q x (by simp);have le:=zce hx;have p:=zbY hx;rw[zai] at l;have sub:∀y∈r,y∈ys.erase x:=fun y hy=>(zcB (fun e:y=x=>nx (e▸hy))).mpr (q y (by simp[hy]));have n2:=ih (ys.erase x) nr sub (by lia);refine(List.perm_cons_erase hx).nodup_iff.mpr (zam.mpr ⟨fun z=>?_,n2⟩);have:=IL (x::r) (ys.erase x) h fun y hy=>(zag.mp hy).elim (fun e=>e▸z) (sub y);rw[zai] at this;lia
theorem sj{ks:List Int}(h:ks.Pairwise (·<=·))(nd:ks.Nodup):ks.Pairwise (· < ·):=(h.and nd).imp fun ⟨a,b⟩=>by first|decide|omega
section
variable{X:Cx}
theorem FD(hc:X.calm=true):gV X (.type "set") (fun xs H Q=>∃(l:zdJ) (ns:List Int),xs=[.ref l]/\fU X.K H l (ns.map V.int)/\ns.length<4000/\∀p,H p=none->Q (.ref p) (upd H p (.ext (DT X.w p ns)))):=by
 intro pins s σ H xs us Q I r h;obtain⟨l,ns,rfl,hq,l4,q⟩:=h;obtain⟨u,rfl,ru⟩:=vals1 r;cases ru;obtain⟨aY,r',pl,hz⟩:=I.list hq;have ia:=intsAre_of r';have li:aY.length=ns.length:=by rw[<- r'.length,zad]
 have hA:X.A.handled=none:=I.ok.hd hc;have sb:scanBound=4096:=rfl;refine Fz (items:=aY.toArray) (ns:=ns) hA pl.isList (by simpa using ia) (by rw[sb,zas];lia) fun h' tk hS T kp=>?_;have ez:aY.toArray.size=ns.length:=by rw[zas,li]
 rw[ez] at hS;obtain⟨o,es,ep,t,ho,hex,hd,RW,ID,hb,hf,hn⟩:=hS;obtain⟨o',Ga,Nk,t',g1,g2,CJ,led⟩:=T;rw[ho] at g1;cases g1;rw[hd] at g2;cases g2;obtain⟨ks,k1,k2⟩:=wg RW;have mem:∀k,k∈ks↔k∈yI ns ns.length:=fun k=>by
  rw[k2,<- ID k,zbu]
  constructor
  ·rintro ⟨x,hx,e⟩
   have:x=k:=by simpa using e
   rw[<- this];exact hx
  ·exact fun hx=>⟨k,hx,by simp⟩
 have lk:ks.length=(yI ns ns.length).length:=by
  have:=IntsAre.length k1;rw[zad,zaN,hn] at this;exact this.symm
 have nd:ks.Nodup:=by
  exact Ox _ _ (A3 _ _) (fun k hk=>(mem k).mpr hk) (by lia)
 refine⟨.ref s.heap.objs.size,_,I.laid (t':=tk) kp (zaj _) (show ck X.prog X.w _ h' _ (.ext (DT X.w s.heap.objs.size ns)) from ⟨⟨es,ep,t,ks,⟨o,ho,hex,hd,hf⟩,CJ,led,hb,k1,nd,fun k=>(mem k).trans (yK ns k)⟩,⟨o,ho⟩,?_⟩),rfl,q _ (I.cc.fresh (zaj _))⟩
 rintro h1 h2 ⟨es,ep,t,ks,y,r⟩ k
 exact⟨es,ep,t,ks,y.Bv k,r⟩
theorem A4{A:zdU}{E:zdK->zdT->Prop}{prog:zdV}{w:zdL}{s:zdT}{vs:List zdK}{ks:List Int}{Q:zdK->zdT->Prop}(ia:IntsAre vs ks)(Wk:vs.length<64)
 (q:∀(h':Heap) (out:List zdK) (js:List Int) (e:Nat),(∀b o,s.heap.get? b=some o->h'.get? b=some o)->IntsAre out js->js.Perm ks->js.Pairwise (·<=·)->h'.get? s.heap.objs.size=some (seqObj "list" out.toArray e)->Q (.ref s.heap.objs.size) {s with heap:=h' }) :
 wpAny (model prog w) A (do let l <- newList vs;let _ <- holding [l] (call (.builtin "list.sort") [l] []);ret l) (fun fin s'=>∃v,fin=.done (.ret v)/\Q v s') E s:=by
 refine zdM (wpAny_newList ?_ (by rw[sizeLine_eq];omega));have g:(s.heap.push (seqObj "list" vs.toArray 0)).get? s.heap.objs.size=some (seqObj "list" vs.toArray 0):=Heap.get?_push_size _ rfl;refine zdM (zdO (wpAny_call_entry slot_list_sort ⟨_,g,rfl⟩ entry_list_sort (list_sort_tree g ia Wk fun out js a1 a2 a3=>⟨_,rfl,?_⟩) (args_list_sort _)));obtain⟨e,at_⟩:=sortedHeap_at (out:=out) g;refine zdN ⟨_,rfl,q _ out.toList js e (fun b o z=>?_) a1 a2 a3 (by simpa using at_)⟩;have lb:=Heap.lt_size z;rw[sortedHeap_old (zat lb) (by rw[size_push'];exact zb0 lb),Heap.get?_push_ne _ _ _ (zat lb)];exact z
theorem wj(hc:X.calm=true):gV X (.builtin "sorted") (fun xs H Q=>∃(p:zdJ) (ns:List Int),xs=[.ref p]/\H p=some (.ext (DT X.w p ns))/\ns.length<64/\∀(l:zdJ) (ks:List Int),H l=none->ks.Pairwise (· < ·)->(∀k,k∈ks↔k∈ns)->Q (.ref l) (upd H l (.lst (ks.map V.int)))):=by
 intro pins s σ H xs us Q I r h;obtain⟨p,ns,rfl,hp,YS,q⟩:=h;obtain⟨u,rfl,ru⟩:=vals1 r;cases ru;have hA:X.A.handled=none:=I.ok.hd hc;obtain⟨⟨es,ep,t,ks,y,CJ,led,hb,ia,nd,mem⟩, -⟩:=(show ck X.prog X.w H s.heap p (.ext (DT X.w p ns)) from I.cc p _ hp)
 have lk:ks.length<=ns.length:=IL _ _ nd fun k hk=>(mem k).mp hk;refine Calls.call_function_entry kind_sorted plain_sorted entry_sorted (args_sorted1 _) ?_;unfold Builtin.«sorted»;refine zdM (m:=checkCount "sorted" 1 1 _) (zdN ?_);refine zdM (A2 (A:=X.A.in1) hA hb y CJ led fun h' tk dr vs kp le pm=>?_);obtain⟨js,j1,j2⟩:=IntsAre.perm pm ia;have lv:vs.length=js.length:=IntsAre.length j1;refine A4 (s:={s with heap:=h',toks:=tk,drawn:=dr}) j1 (by rw[lv,j2.length_eq];lia) fun h2 out is e MB i1 i2 i3 g=>?_;have Wu:is.Perm ks:=i2.trans j2;have I2:Inv X pins σ (upd H h'.objs.size (.lst (is.map V.int))) {s with heap:=h2,toks:=tk,drawn:=dr}:=by
  have:=I.laid (t':=tk) (a:=h'.objs.size) (o:=.lst (is.map V.int)) (h':=h2) (fun b o z=>MB b o (kp b o z)) le (show ck X.prog X.w _ h2 _ (.lst (is.map V.int)) from ⟨by rw[zad,Wu.length_eq];have:zdR=2 ^ 24:=rfl;lia,out,e,nj i1,by simpa[seqObj] using g⟩);exact⟨this.ok,this.os,this.bare,this.base,this.loc,this.cell,this.free,this.lQ,this.pin,this.cc,this.len⟩
 exact⟨.ref h'.objs.size,_,I2,rfl,q _ is (I.cc.fresh le) (sj i3 (Wu.nodup_iff.mpr nd)) fun k=>Wu.mem_iff.trans (mem k)⟩
theorem A5{prog:zdV}{w:zdL}{A:zdU}{E:zdK->zdT->Prop}{s:zdT}{T:String}{r d:zdJ}{n:Nat}{P:Nat->zdK->Prop}{OK:Heap->Prop}{Q:List zdK->zdT->Prop}(K:PySem.W.KdlSrc prog w T r d n P OK)(hA:A.handled=none)(ok:OK s.heap)(hn:n<=zdR)
 (q:∀h' tk acc,(∀b o,s.heap.get? b=some o->h'.get? b=some o)->s.heap.objs.size<=h'.objs.size->ItemsOf P acc n->Q acc.toList {s with heap:=h',toks:=tk}):wpAny (model prog w) A (collect (.ref r)) Q E s:=by
 obtain⟨lr,ld⟩:=K.there _ ok;unfold collect;refine zdM (wpAny_runValue (codeAny_builtin entry_proto_collect' ?_));rw[Around.under_plainId zcO _];show wpAny _ A.in1 (newList [] >>= fun l=>again (.builtin "list.__iadd__" ⟨[l,.ref r],[]⟩)) _ _ s;refine zdM (wpAny_newObj_type (zdN ⟨plainId_quiet zbU _,codeAny_builtin entry_list_iadd' ?_⟩));rw[Around.under_plainId zbU _];have g1:(s.heap.push {cls:=.type "list",data:=.seq ([]:List zdK).toArray}).get? s.heap.objs.size=some {cls:=.type "list",data:=.seq #[]}:=Heap.get?_push_size _ rfl;refine wpAny_mono (PySem.W.kdl_extend (s:={s with heap:=s.heap.push {cls:=.type "list",data:=.seq ([]:List zdK).toArray} }) (R:=fun r s'=>∃h' tk acc c,r=.ok (.ret (.ref s.heap.objs.size))/\s'={s with heap:=h',toks:=tk}/\(∀b o,s.heap.get? b=some o->h'.get? b=some o)/\h'.get? s.heap.objs.size=some {cls:=.type "list",dict:=none,data:=.seq acc c,slots:=#[]}/\ItemsOf P acc n)
  K hA (K.keep _ _ ok fun b _ o e=>Heap.get?_push_of_some _ e) s.heap.objs.size (za2 lr) (za2 ld) _ 0 g1 (fun h' tk acc c kp g ia=>⟨h',tk,acc,c,rfl,rfl,fun b o e=>kp b o (zat (Heap.lt_size e)) (Heap.get?_push_of_some _ e),g,ia⟩) hn) (fun fin s' x=>?_) fun e s' x=>?_
 ·have done:∀ {h' tk acc c},(∀b o,s.heap.get? b=some o->h'.get? b=some o)->h'.get? s.heap.objs.size=some {cls:=.type "list",dict:=none,data:=.seq acc c,slots:=#[]}->ItemsOf P acc n->wpAny (model prog w) A (do
   match (<- load s.heap.objs.size).data with
   |.seq xs _=>pure xs.toList
   |_=>unsupported "internal:collect") Q E {s with heap:=h',toks:=tk}:=by
   intro h' tk acc c kp g ia;exact zdM (wpAny_load g (zdN (q h' tk _ kp (zbz (Heap.lt_size g)) ia)))
  cases fin with
  |done f=>
   obtain⟨h',tk,acc,c,e,rfl,kp,g,ia⟩:=x;cases e;exact done kp g ia
  |again c1=>
   refine⟨x.1,codeAny_mono x.2 fun r s2 z=>?_⟩;obtain⟨h',tk,acc,c,rfl,rfl,kp,g,ia⟩:=z;exact done kp g ia
 ·obtain⟨_,_,_,_,z,_⟩:=x;cases z
theorem ql(hc:X.calm=true):gV X (.builtin "sorted") (fun xs H Q=>∃(d:zdJ) (kvs:List (Int×V)),xs=[.ref d]/\H d=some (.dK (kvs.map kI))/\kvs.length<64/\∀(l:zdJ) (ks:List Int),H l=none->ks.Pairwise (· < ·)->ks.Perm (kvs.map (·.1))->Q (.ref l) (upd H l (.lst (ks.map V.int)))):=by
 intro pins s σ H xs us Q I r h;obtain⟨d,kvs,rfl,hd,YS,q⟩:=h;obtain⟨u,rfl,ru⟩:=vals1 r;cases ru;have hA:X.A.handled=none:=I.ok.hd hc;obtain⟨z,sy,vs,rel,dd⟩:=xi I.cc hd;obtain⟨ep,dat⟩:=dd.dictAt;have lv:vs.length=kvs.length:=by rw[<- rel.length,zad]
 have line:zdR=2 ^ 24:=rfl;have nd:(kvs.map (·.1)).Nodup:=by
  obtain⟨_,_,_,_,_,_,_,nd⟩:=id dat;rw[<- DM rel,za3] at nd;have e:(kvs.map ((fun x:Key×V=>x.1) ∘ kI))=(kvs.map (·.1)).map (Sum.inl:Int->Key):=by rw[za3];rfl
  rw[e] at nd;exact List.Pairwise.of_map (R:=(·≠·)) (S:=(·≠·)) _ (fun a b h z=>h (by rw[z])) nd
 refine Calls.call_function_entry kind_sorted plain_sorted entry_sorted (args_sorted1 _) ?_;unfold Builtin.«sorted»;refine zdM (m:=checkCount "sorted" 1 1 _) (zdN ?_);refine zdM (A5 (A:=X.A.in1) (PySem.W.kdl_dict (kvs:=vs) (ep:=ep) sy) hA dat (by lia) fun h' tk acc kp le ia=>?_);have ea:IntsAre acc.toList (kvs.map (·.1)):=by
  have key:∀(l:List zdK) (m:List Int),l.length=m.length->(∀(i:Nat) (v:zdK) (k:Int),l[i]?=some v->m[i]?=some k->∃t,v=.int k t)->IntsAre l m:=by
   intro l
   induction l with
   |nil=>
    intro m e _;cases m with
    |nil=>exact .nil
    |cons _ _=>cases e
   |cons v l ih=>
    intro m e h;cases m with
    |nil=>cases e
    |cons k m=>
     obtain⟨t,rfl⟩:=h 0 v k rfl rfl;exact .cons _ _ (ih m (by simpa using e) fun i v k e1 e2=>h (i+1) v k e1 e2)
  refine key _ _ (by rw[zaN,ia.1,zad,lv]) fun i v k e1 e2=>?_;rw[zaU] at e1;obtain⟨k',x,h1,h2⟩:=ia.2 i v e1;rw[zal] at e2;obtain⟨kv,h3,rfl⟩:=zaD.mp e2;obtain⟨h4,_⟩:=Paired.AW rel (i:=i) (a:=kI kv) (b:=(k',x)) (by rw[zal,h3];rfl) h1;cases (show Sum.inl kv.1=k' from h4);rcases cf (show pC (.inl kv.1) v=true from h2) with ⟨j,t,e4,e5⟩ |⟨y,t,e4,e5⟩
  ·cases e4;exact⟨t,e5⟩
  ·cases e4
 refine A4 (s:={s with heap:=h',toks:=tk}) ea (by rw[IntsAre.length ea,zad];exact YS) fun h2 out is e MB i1 i2 i3 g=>?_;refine⟨.ref h'.objs.size,_,I.laid (t':=tk) (a:=h'.objs.size) (o:=.lst (is.map V.int)) (h':=h2) (fun b o z=>MB b o (kp b o z)) le (show ck X.prog X.w _ h2 _ (.lst (is.map V.int)) from ⟨by rw[zad,i2.length_eq,zad];lia,out,e,nj i1,by simpa[seqObj] using g⟩),rfl,q _ is (I.cc.fresh le) (sj i3 (i2.nodup_iff.mpr nd)) i2⟩
end
theorem IM{K:zab}{H:Hp}(s:PG.bo){v:V}(r:Rep K H (eF s) v):∃a ys,v=.ref a/\cF K H a (.str (xk s.wd) :: .int s.row::ys):=by
 cases s<;>(simp only[eF,Rep.bj,aQ.aO,Rep.bQ,Rep.bw] at r;obtain⟨a,ys,rfl,hS,_,_,rfl,rfl,_,_,rfl,rfl,_⟩:=r;exact⟨a,_,rfl,hS⟩)
theorem xA{K:zab}{a D:zdJ}{xs:List V}{te:TE}{Q:VK}{r:St}{H:Hp}{ss:List PG.bo}(hS:fU K H a xs)(rs:aQ K H (ss.map eF) xs)(hl:xs.length<=16000000)(hD:H D=none)
 (step:∀(p:zdJ) (w0:V) (k:Int) (ys:List V) H2,cF K H2 p (w0 :: .int k::ys)->∀R:VK,R (.int k) H2->te (some (.ref p)::r) H2 R)
 (q:∀H2,aq H H2->H2 D=some (.lst ((ss.map (·.row)).map V.int))->Q (.ref D) H2):jW (BE K a) D (eG 0) oR te Q (none::r) (upd H D (.lst [])):=by
 have lx:xs.length=ss.length:=by rw[rs.length,zad]
 refine oV (fun i ys _=>ys=((ss.take i).map (·.row)).map V.int) hS hl hD (by simp) (fun i x ys H2 hx s2 h2 ly p2 R hR=>?_) (fun ys H2 s2 h2 p2=>q H2 s2 ?_)
 ·have li:i<ss.length:=by have:=(zah.mp hx).1;lia
  obtain⟨v',Bq,rv⟩:=rs.get (i:=i) (d:=eF ss[i]) (by rw[zal,zaa li];rfl);rw[hx] at Bq;cases Bq;obtain⟨p,zs,rfl,hp⟩:=IM _ rv;refine step p _ _ _ H2 (s2.br hp) R (hR _ _ (.refl _) ?_);show ys++[V.int ss[i].row]=((ss.take (i+1)).map (·.row)).map V.int;rw[p2,List.take_succ,zaa li,zaw,zaw];rfl
 ·have p2:ys=((ss.take xs.length).map (·.row)).map V.int:=p2;rw[lx,za6] at p2;rw[<- p2];exact h2
theorem A6(ss:List PG.bo)(x:Int):((ss.map (·.row)).map V.int++[V.int x])[0]?=some (V.int (PG.aB ss x)):=by
 cases ss<;>rfl
theorem Lu{K:zab}{H:Hp}:∀ {us:List V} {ws:List (Int×List PG.Rg)},us.length=ws.length->(∀j (hj:j<us.length),∃w,ws[j]?=some w/\jS K H us[j] w)->c5 K H us ws:=by
 intro us
 induction us with
 |nil=>
  intro ws e _;cases ws with
  |nil=>exact .nil
  |cons _ _=>cases e
 |cons u us ih=>
  intro ws e h;cases ws with
  |nil=>cases e
  |cons w ws=>
   obtain⟨w',e1,h1⟩:=h 0 (by simp);cases e1;exact .cons h1 (ih (by simpa using e) fun j hj=>h (j+1) (by simpa using hj))
theorem CM{α:Type}{m:List (Int×α)}(d:α)(nd:(m.map (·.1)).Nodup){ks:List Int}(p:ks.Perm (m.map (·.1))):(ks.map fun k=>(k,(bg m k).getD d)).Perm m:=by
 refine(p.map _).trans ?_;rw[za3];have:m.map ((fun k=>(k,(bg m k).getD d)) ∘ fun x=>x.1)=m:=by
  refine(zbq fun e he=>?_).trans (zcG m);simp only[Function.comp];rw[nG nd he];rfl
 rw[this]
def PX (d:zdJ) (o:Obj) (kvs:List (Int×V)):It:=
 ⟨fun i H=>H d=some (.qH o (.dK (kvs.map kI)))/\i<kvs.length,fun i H x H'=>H'=H/\∃kv,kvs[i]?=some kv/\x=.int kv.1,fun i H=>H d=some (.qH o (.dK (kvs.map kI)))/\kvs.length<=i⟩
theorem FE{P:zdV}{w:zdL}{K:zab}{tg:Expr}{d it:zdJ}{o:Obj}{kvs:List (Int×V)}{es:Array DictEntry}{ep:Nat}(hx:o.ExactDict)(hd:o.data=.dict es ep)(ez:es.size=kvs.length)(ev:∀(i:Nat) (hi:i<es.size),∃kv t,kvs[i]?=some kv/\es[i].key=.int kv.1 t) :
 Turn P w K tg (PX d o kvs) [it] it (fun i h=>h.IsKeyIter it d i es.size ep) where
 mem:=by simp
 obj:=fun i h st b hb=>by
  obtain⟨oi,eo,c,dd⟩:=st;have z:b=it:=by simpa using hb
  subst z;exact⟨oi,eo,fun v z=>by rw[dd] at z;cases z⟩
 keep:=fun i h h' st k=>st.at fun o x=>k it (by simp) o x
 item:=by
  intro X hP hw hK hc i pins s σ H E I hf st hg;subst hP hw hK;obtain⟨hH,hi⟩:=hg;rw[<- ez] at hi;obtain⟨f0,f1,f2,f3,f4,f5⟩:=hf it (by simp);obtain⟨kv,t,e1,e2⟩:=ev i hi;have go:s.heap.get? d=some o:=(show ck X.prog X.w H s.heap d (.qH o (.dK (kvs.map kI))) from I.cc d _ hH).1;refine HB st ⟨o,go,hx,hd⟩ hi fun h' ud sb=>?_;obtain⟨oi,eo,c,dd⟩:=id ud;refine⟨_,rfl,Dg (s:={s with heap:=h' }) (n:="dict_keyiterator") eo c dd (by decide) ⟨.int kv.1,H,I.turned (t':=s.toks) (fun b o hb e=>sb.extBut b o hb e) f0 f1 f3 f4 f5,⟨t,e2⟩,⟨rfl,kv,e1,rfl⟩,ud,fun b hb=>(hf b hb).1⟩⟩
 done:=by
  intro X hP hw hK hc i pins s σ H E I hf st hg;subst hP hw hK;obtain⟨hH,hi⟩:=hg;rw[<- ez] at hi;obtain⟨f0,f1,f2,f3,f4,f5⟩:=hf it (by simp);have go:s.heap.get? d=some o:=(show ck X.prog X.w H s.heap d (.qH o (.dK (kvs.map kI))) from I.cc d _ hH).1;exact KP (I.ok.hd hc) st ⟨o,go,hx,hd⟩ hi fun h' eb=>⟨rfl,I.turned (t':=s.toks) (fun b o hb e=>eb b o hb e) f0 f1 f3 f4 f5⟩
 self:=fun _ _ _ _ _ st h=>wpAny_pyIter_keyiter st h
def DU (tl:TE):TI:=fun σ H R=>tl σ H fun x H1=>∃d kvs,x=.ref d/\H1 d=some (.dK (kvs.map kI))/\∀o,R (PX d o kvs) (upd H1 d (.qH o (.dK (kvs.map kI))))
section
variable{X:Cx}{tg l:Expr}{tl:TE}
theorem Lv(hl:PE X l tl):PI X tg l (DU tl):=by
 intro pins s σ H R I h;refine cS (hl pins s σ H _ I h) fun v s1 zqz=>?_;obtain⟨x,H1,I1,r1,q1⟩:=zqz;obtain⟨d,kvs,rfl,hd,q⟩:=q1;cases r1;obtain⟨z,sy,vs,rel,dd⟩:=xi I1.cc hd;obtain⟨ep,dat⟩:=dd.dictAt;obtain⟨o,es,ho,hx,YT,hk,hp,hn⟩:=id dat;have lv:vs.length=kvs.length:=by rw[<- rel.length,zad]
 have ez:es.size=kvs.length:=by rw[<- lv,<- hp.length];simp
 refine HA sy ⟨o,ho,hx,YT⟩ ?_;have I2:=tG (ob:=.qH o (.dK (kvs.map kI))) (h':=s1.heap) (t':=s1.toks) I1 (by rw[hd];exact True.intro) ⟨rfl,fun _ _=>rfl⟩ ⟨o,ho⟩ ⟨ho,z,sy,vs,rel,dd⟩;have I3:=I2.kept (t':=s1.toks) (h':=s1.heap.push {cls:=.type "dict_keyiterator",data:=.fields #[.ref d,.int 0 0,.int es.size 0,.int ep 0]}) fun b o e=>Heap.get?_push_of_some _ e;refine⟨s1.heap.objs.size,[s1.heap.objs.size],_,PX d o kvs,_,rfl,I3,FE hx YT ez (fun i hi=>?_),⟨_,Heap.get?_push_size _ rfl,rfl,rfl⟩,fun b hb=>?_,q o⟩
 ·have li:i<kvs.length:=by lia
  have YU:i<vs.length:=by lia
  obtain⟨h1,_⟩:=hp.get? (e:=es[i]) (k:=vs[i].1) (v:=vs[i].2) (i:=i) (by simp[hi]) (zaa YU);obtain⟨h4,_⟩:=Paired.AW rel (i:=i) (a:=kI kvs[i]) (b:=vs[i]) (by rw[zal,zaa li];rfl) (zaa YU);rw[<- h4] at h1;rcases cf (show pC (.inl kvs[i].1) es[i].key=true from h1) with ⟨j,t,e4,e5⟩ |⟨y,t,e4,e5⟩
  ·cases e4;exact⟨kvs[i],t,zaa li,e5⟩
  ·cases e4
 ·have e:b=s1.heap.objs.size:=by simpa using hb
  subst e;exact I2.wa (zaj _) (I2.cc.fresh (zaj _))
end
theorem DV{X:Cx}:nU X (compareOp .IsNot) (fun x y H Q=>∃a b,x=.bl a/\y=.bl b/\Q (.bl (!decide (a=b))) H):=by
 intro pins s σ H x y v u Q I rx ry h;obtain⟨a,b,rfl,rfl,q⟩:=h;cases rx;cases ry;refine wpAny_isNot_plain rfl (bJ I q ?_);cases a<;>cases b<;>rfl
theorem IP{tl:TE}{g:TG}{tb:TS}{D:Ends}{σ:St}{H:Hp} (h:∀U:It->Hp->Prop,(∀J H1,(∃W:Nat->Nat->St->Hp->Prop,(∃m,W 0 m σ H1)/\∀i m σ H,W i m σ H->
 (J.stop i H/\D.nx σ H)\/(J.go i H/\∃N:St->Hp->Prop,(∀σ' H',N σ' H'->∃m',m'<m/\W (i+1) m' σ' H')/\∀x H',J.zS i H x H'->g x σ H' fun σ2 H2=>tb {D with nx:=N,ct:=N,bk:=D.nx} σ2 H2))->U J H1)->DU tl σ H U):Ex (DU tl) g tb D σ H:=h _ fun _ _ x=>x
theorem IQ{d:zdJ}{o:Obj}{kvs:List (Int×V)}{g:TG}{tb:TS}{D:Ends}{σ:St}{H:Hp}(Pv:Nat->St->Hp->Prop)(h0:Pv 0 σ H)(hl:∀i σ H,i<=kvs.length->Pv i σ H->H d=some (.qH o (.dK (kvs.map kI))))
 (hs:∀i kv σ H,kvs[i]?=some kv->Pv i σ H->g (.int kv.1) σ H fun σ2 H2=>tb {D with nx:=Pv (i+1),ct:=Pv (i+1),bk:=D.nx} σ2 H2) (hd:∀σ H,Pv kvs.length σ H->D.nx σ H) :
 ∃W:Nat->Nat->St->Hp->Prop,(∃m,W 0 m σ H)/\∀i m σ H,W i m σ H->
  ((PX d o kvs).stop i H/\D.nx σ H)\/((PX d o kvs).go i H/\∃N:St->Hp->Prop,(∀σ' H',N σ' H'->∃m',m'<m/\W (i+1) m' σ' H')/\∀x H',(PX d o kvs).zS i H x H'->g x σ H' fun σ2 H2=>tb {D with nx:=N,ct:=N,bk:=D.nx} σ2 H2):=by
 refine⟨fun i m σ H=>m=kvs.length-i/\i<=kvs.length/\Pv i σ H,⟨kvs.length,by simp,zaI _,h0⟩,?_⟩
 rintro i m σ H ⟨rfl,hi,p⟩
 have q:=hl i σ H hi p;by_cases jR:i<kvs.length
 ·refine .inr ⟨⟨q,jR⟩,Pv (i+1),fun σ' H' p'=>⟨kvs.length-(i+1),by lia,rfl,jR,p'⟩,fun x H' y=>?_⟩;obtain⟨rfl,kv,e,rfl⟩:=y;exact hs i kv σ H' e p
 ·have e:i=kvs.length:=by lia
  subst e;exact .inl ⟨⟨q,zaj _⟩,hd σ H p⟩
theorem eK.f{H:Hp}{a:zdJ}{kvs:List (Key×V)}{k:Key}{o:Obj}(e:H a=some (.qH o (.dK kvs))):eK H a (kV k) (c0 kvs k):=.inl ⟨kvs,k,.inr ⟨o,e⟩,rfl,rfl⟩
section
variable(K:zab)
inductive DW(vs:List V)(H:Hp)(Q:VK)(E:XK):Prop
 |mk (d:zdJ) (wv:V) (kvs:List (Int×V)) (m:List (Int×List Rg)) (q:Int×List Rg) (e:vs=[.ref d,wv]) (hd:H d=some (.dK (kvs.map kI))) (rel:RelM K H kvs m) (hw:jS K H wv q) (len:∀u,bg m q.1=some u->u.length=q.2.length) (Bw:q.2.length<=10) (k:∀b H',aq H H'->(b=true↔yH m q)->Q (.bl b) H')
inductive IS(C:zdJ)(vs:List V)(H:Hp)(Q:VK)(E:XK):Prop
 |mk (ch pa:zdJ) (pr:Prog) (us:List V) (ms:List (Int×List Rg)) (e:vs=[.ref ch,.ref pa]) (co:DB K C H ch pr) (sd:Lj pr) (hp:fU K H pa us) (wo:c5 K H us ms) (rise:kJ ms) (mf:∀e∈ms,fE pr.ay e.2/\Bu pr e.1) (gc:ms.length<=50) (k:∀b H',aq H H'->(b=true↔Fx pr ms)->Q (.bl b) H')
inductive A7(vs:List V)(H:Hp)(Q:VK)(E:XK):Prop
 |mk (v:V) (pa:zdJ) (pr:Prog) (us:List V) (ms:List (Int×List Rg)) (e:vs=[v,.ref pa]) (rp:Rep K H (hX pr) v) (sd:Lj pr) (hp:fU K H pa us) (wo:c5 K H us ms) (rise:kJ ms) (mf:∀e∈ms,fE pr.ay e.2/\Bu pr e.1) (gc:ms.length<=50) (k:∀b H',aq H H'->(b=true↔Fx pr ms)->Q (.bl b) H')
end
theorem tW{m:List (Int×List Rg)}(h:kJ m):(m.map (·.1)).Nodup:=zaL.mpr (h.imp fun h=>by lia)
theorem xB{K:zab}{H:Hp}{us:List V}{ws:List (Int×List Rg)}(h:c5 K H us ws):∃ps:List (zdJ×Key×V),us=ps.map (fun q=>V.ref q.1)/\(∀q∈ps,cF K H q.1 [kV q.2.1,q.2.2])/\∃kvs:List (Int×V),ps.map (fun q=>(q.2.1,q.2.2))=kvs.map kI/\RelM K H kvs ws:=by
 induction h with
 |nil=>exact⟨[],rfl,(fun q hq=>by cases hq),[],rfl,.nil⟩
 |@cons v w us ws a _ ih=>
  obtain⟨ps,e1,e2,kvs,e3,e4⟩:=ih;obtain⟨x,u,rfl,h1,h2⟩:=a;refine⟨(x,.inl w.1,u)::ps,by rw[e1];rfl,fun q hq=>?_,(w.1,u)::kvs,by rw[zaq,zaq,e3];rfl,.cons ⟨rfl,h2⟩ e4⟩;rcases zag.mp hq with rfl |hq
  ·exact h1
  ·exact e2 q hq
theorem IT{kvs:List (Int×V)}(h:(kvs.map (·.1)).Nodup):((kvs.map kI).map (·.1)).Nodup:=by
 have h2:=zaL.mp h;refine zaL.mpr (zaL.mpr (h2.imp fun h z=>h ?_));exact Sum.inl.inj z
theorem c5.app{K:zab}{H:Hp}{us vs:List V}{ws xs:List (Int×List Rg)}(h:c5 K H us ws)(k:c5 K H vs xs):c5 K H (us++vs) (ws++xs):=by
 induction h with
 |nil=>exact k
 |cons a _ ih=>exact .cons a ih
theorem tX{pr:Prog}{ms:List (Int×List Rg)}(rise:kJ ms):Fx pr ms↔yH ms (aB pr.body 0,one (pr.ay.map (·.first)))/\∀e∈ms,∀(i:Nat) (hi:i<(aE pr.body).length) (hf:i<(aK pr.body 0).length),(aE pr.body)[i].row=e.1->∀q∈dD pr.ay e.2 (aK pr.body 0)[i].2.2 (aE pr.body)[i],yH ms q:=by
 constructor
 ·exact fun h=>⟨h.first,fun e he i hi hf er q hq=>h.sS e.1 e.2 (qi rise he) i hi hf er q hq⟩
 ·rintro ⟨h1,h2⟩
  exact⟨h1,fun r u e i hi hf er q hq=>h2 (r,u) (get_mem e) i hi hf er q hq⟩
end L2
namespace PySem
open Sem (wp)
open AutoSeq1 (wpAny_loadPart')
theorem mJ(l:zdJ)(items:Array zdK)(n:Nat)(TH:Option zdJ)(sl:Array (Option zdK)) :
 Meets (Builtin.«enumerate.__new__» ⟨[.type "enumerate",.ref l],[]⟩) (fun _ R s=>s.heap.get? l=some {cls:=.type "tuple",dict:=TH,data:=.seq items n,slots:=sl}/\
  R (.ok (.ret (.ref (s.heap.push {cls:=.type "tuple_iterator",data:=.fields #[.ref l,.int 0 0]}).objs.size)))
   {s with heap:=(s.heap.push {cls:=.type "tuple_iterator",data:=.fields #[.ref l,.int 0 0]}).push {cls:=.type "enumerate",data:=.fields #[.none,.bool false,.ref s.heap.objs.size,rawInt 0,.none,.none]} }):=
 .of_wp fun prog w A R s h=>by
  obtain⟨hp,g,d,tk,os⟩:=s;obtain⟨hl,h⟩:=h;have N2:=sub_enumerate;have hL:Heap.IsTuple (Shared.heap ⟨hp,g,d,tk,os⟩) l items:=⟨_,hl,rfl,n,rfl⟩
  wp_walk using wpAny_loadPart' hl
  refine wpAny_stack_any fun st=>zdN ?_;split
  ·rename_i c _ _ _ _ _;cases (c==Value.type "enumerate")
   ·wp_walk using wpAny_loadPart' hl,wpAny_pyIter_tuple hL
    exact⟨_,rfl,h⟩
   ·wp_walk using wpAny_loadPart' hl,wpAny_pyIter_tuple hL
    exact⟨_,rfl,h⟩
  ·wp_walk using wpAny_loadPart' hl,wpAny_pyIter_tuple hL
   exact⟨_,rfl,h⟩
section
variable{prog:zdV}{w:zdL}{A:zdU}{E:zdK->zdT->Prop}{s:zdT}
theorem mK{l:zdJ}{items:Array zdK}{Q:zdK->zdT->Prop}(hL:s.heap.IsTuple l items)
 (h:∀h',IsEnum h' (s.heap.objs.size+1) s.heap.objs.size 0 .none->h'.IsTupleIter s.heap.objs.size l 0->h'.objs.size=s.heap.objs.size+2->
  (∀b o,s.heap.get? b=some o->h'.get? b=some o)->Q (.ref (s.heap.objs.size+1)) {s with heap:=h' }) :
 wpAny (model prog w) A (call (.type "enumerate") [.ref l]) Q E s:=by
 obtain⟨⟨c,TH,dt,sl⟩,hl,hc,n,hd⟩:=hL;replace hc:c=.type "tuple":=hc;replace hd:dt=.seq items n:=hd;subst hc hd;refine callType_new F.called_enumerate (by decide) (F.typeCall_enumerate_1 _) (F.newCall_enumerate_1 _) (fun obj=>F.args_object_init_2 obj _) F.entry_enumerate_new
  (mJ l items n TH sl) ⟨hl,?_⟩
 have hz:(s.heap.push {cls:=.type "tuple_iterator",data:=.fields #[.ref l,.int 0 0]}).objs.size=s.heap.objs.size+1:=Heap.size_push ..;show _/\_;rw[hz];have he:IsEnum ((s.heap.push {cls:=.type "tuple_iterator",data:=.fields #[.ref l,.int 0 0]}).push
  {cls:=.type "enumerate",data:=.fields #[.none,.bool false,.ref s.heap.objs.size,rawInt 0,.none,.none]}) (s.heap.objs.size+1) s.heap.objs.size 0 .none:=by
  have:=Heap.get?_push_size (s.heap.push {cls:=.type "tuple_iterator",data:=.fields #[.ref l,.int 0 0]})
   (o:={cls:=.type "enumerate",data:=.fields #[.none,.bool false,.ref s.heap.objs.size,rawInt 0,.none,.none]}) rfl
  rw[hz] at this;exact this
 refine⟨⟨_,he,rfl⟩,h _ he ⟨_,Heap.get?_push_of_some _ (Heap.get?_push_size _ rfl),rfl,rfl⟩ (by rw[Heap.size_push,hz]) fun b o x=>Heap.get?_push_of_some _ (Heap.get?_push_of_some _ x)⟩
end
end PySem
namespace L2
open PySem PySem.Spec PyProof.Rows
theorem Oy{prog:zdV}{w:zdL}{A:zdU}(hh:A.handled=none)(it l:zdJ)(B4:l≠it)(items:Array zdK) :
 Draws prog w A it [it,l] items.size (fun i x=>items[i]?=some x) (fun i h=>h.IsTupleIter it l i/\h.IsTuple l items) where
 live:=fun i h st=>by obtain⟨⟨o,e,_⟩,_⟩:=st;exact⟨o,e⟩
 frame:=fun i h h' st k=>by
  obtain⟨⟨o,e,r⟩,o2,e2,r2⟩:=st;exact⟨⟨o,k it (by simp) _ e,r⟩,o2,k l (by simp) _ e2,r2⟩
 item:=fun i s Q E hi st hQ=>by
  obtain⟨h1,h2⟩:=st;refine L3.jC h1 h2 (zaE hi) fun h' h1' sb=>?_;obtain⟨o2,e2,r2⟩:=h2;exact hQ _ h' s.toks (zaE hi) ⟨h1',o2,(sb.2 l B4).trans e2,r2⟩ sb
 done:=fun s Q E st hQ=>L3.gC hh st.1 st.2 (zbX (zaj _)) hQ
def MC (K:zab) (a:zdJ):It:=
 ⟨fun i H=>∃xs x,cF K H a xs/\xs[i]?=some x,fun i H x H'=>∃p y,x=.ref p/\H p=none/\H'=upd H p (.tup [.int i,y])/\∀xs,cF K H a xs->xs[i]?=some y,fun i H=>∃xs,cF K H a xs/\xs.length<=i⟩
theorem CN{P:zdV}{w:zdL}{K:zab}{elts:List Expr}{x1}{pos:Pos}(a e it:zdJ)(B4:e≠it) :
 Turn P w K (.Tuple elts x1 pos) (MC K a) [e,it] e (fun i h=>(∃old,IsEnum h e it i old)/\h.IsTupleIter it a i) where
 mem:=by simp
 obj:=fun i h st b hb=>by
  obtain⟨⟨old,he⟩,o,eo,c,d⟩:=st;rcases zag.mp hb with rfl |hb
  ·exact⟨_,he,fun v z=>by cases (show Data.fields _=Data.cell v from z)⟩
  ·have z:b=it:=by simpa using hb
   subst z;exact⟨o,eo,fun v z=>by rw[d] at z;cases z⟩
 keep:=fun i h h' st k=>⟨st.1.elim fun old he=>⟨old,k e (by simp) _ he⟩,st.2.at fun o x=>k it (by simp) o x⟩
 item:=by
  intro X hP hw hK hc i pins s σ H E I hf st hg;subst hP hw hK;obtain⟨xs,x,hq,hx⟩:=hg;obtain⟨⟨old,he⟩,hit⟩:=st;obtain⟨aY,rv,p,hz⟩:=I.tuple hq;have p:s.heap.IsTuple a aY.toArray:=p;obtain⟨u,hu,ru⟩:=rv.get hx;have nai:a≠it:=fun z=>by
   obtain⟨o,e1,c1,_⟩:=id p;obtain⟨o2,e2,c2,_⟩:=id hit;rw[z,e2] at e1;cases e1;rw[c2] at c1;exact absurd (Value.type.inj c1) (by decide)
  have nae:a≠e:=fun z=>by
   obtain⟨o,e1,c1,_⟩:=id p;have h2:s.heap.get? e=_:=he;rw[z,h2] at e1;cases e1;exact absurd (Value.type.inj c1) (by decide)
  have li:i<aY.toArray.size:=by have:=(zah.mp hu).1;simpa using this
  refine wpAny_pyNext_enum_itemD (Oy (A:=X.A.in1) (show X.A.in1.handled=none from I.ok.hd hc) it a nai aY.toArray) he ⟨hit,p⟩ li B4 (by simp[B4,Ne.symm nae]) fun y h' tk hy ho hs' hT hsz hk=>?_;have eu:y=u:=by
   have:aY.toArray[i]?=some u:=by simpa using hu
   rw[this] at hy;exact(zaH.inj hy).symm
  subst eu;refine⟨_,rfl,?_⟩;refine wpAny_letOwnedTupleGo_enum ho fun h2 B5 sb=>?_;have GQ:e<s.heap.objs.size:=Heap.lt_size he;have GR:it<s.heap.objs.size:=by obtain⟨_,x,_⟩:=hit;exact Heap.lt_size x
  have I1:Inv X pins σ H {s with heap:=h2,toks:=tk+1}:=I.jn (t':=tk+1) (fun b o hb q=>(sb.2 b fun z=>hb (by simp[z])).trans (hk b o (fun z=>hb (by simp[z])) (fun z=>hb (by simp[z])) q)) hf;have fr:H s.heap.objs.size=none:=I.cc.fresh (zaj _);obtain⟨g0,g1,g2,g3,g4,g5⟩:=I.wa (zaj _) fr;have GS:h2.get? s.heap.objs.size=some {cls:=.type "tuple",data:=.seq #[.int i tk,y]}:=(sb.2 _ (za2 GQ)).trans hT;have I2:=I1.told (o:=.tup [.int i,x]) fr I.sz g1 g4 g5 ⟨(show (2:Nat)<=zdR by decide),[.int i tk,y],.cons ⟨_,rfl⟩ (.cons ru .nil),⟨_,GS,rfl,_,rfl⟩⟩;refine⟨.ref s.heap.objs.size,_,I2,rfl,⟨_,x,rfl,fr,rfl,fun ys hy=>by rw[I.nh hy hq];exact hx⟩,⟨⟨_,by exact_mod_cast B5⟩,hs'.1.at fun o q=>(sb.2 it (Ne.symm B4)).trans q⟩,fun b hb=>?_⟩;rw[aD ?_]
  ·exact(hf b hb).1
  ·rcases zag.mp hb with rfl |hb
   ·exact zat GQ
   ·have z:b=it:=by simpa using hb
    subst z;exact zat GR
 done:=by
  intro X hP hw hK hc i pins s σ H E I hf st hg;subst hP hw hK;obtain⟨xs,hq,hx⟩:=hg;obtain⟨⟨old,he⟩,hit⟩:=st;obtain⟨aY,rv,p,hz⟩:=I.tuple hq;have p:s.heap.IsTuple a aY.toArray:=p;have hl:=rv.length;have hT:s.TypeIs (.ref e) "enumerate":=⟨_,he,rfl⟩
  unfold pyNext;refine zdM (wpAny_attempt (wpAny_callSpecial?_slot (name:=zac "__next__") hT zcP
   (wpAny_call_entry zcP hT PySem.F.entry_enumerate_next ?_ (PySem.F.args_enumerate_next_1 _))))
  show wpAny _ _ (field (.ref e) 2 >>= _) _ _ _;refine zdM (wpAny_field he rfl (x:=.ref it) rfl ?_);refine zdM (L3.gC (I.ok.hd hc) hit p (by simp;lia) fun h' x he' hx'=>?_);obtain⟨o,ho,hc⟩:=hx';refine zdM (wpAny_isInstance (T:="StopIteration") (b:=true) ⟨o,ho,hc⟩ isSubtype_stop ?_);exact zdN ⟨rfl,I.jn (t':=s.toks) (fun b o hb q=>he' b o (fun z=>hb (by simp[z])) q) hf⟩
 self:=fun _ _ _ _ _ st h=>st.1.elim fun _ he=>wpAny_pyIter_enum he h
def IU (K:zab) (ta:TA):TI:=fun σ H R=>ta σ H fun vs H1=>∃a,vs=[.ref a]/\(∃xs,cF K H1 a xs)/\R (MC K a) H1
theorem IV{X:Cx}{elts:List Expr}{x1}{tp:Pos}{a:Expr}{ta:TA}{p pos:Pos}(hg:Gl X "enumerate")(hm:X.mg "enumerate"=none)(ha:PA X [a] ta)(hs:zdP [a] X.env=[(false,eval a X.env)]:=by rfl) :
 PI X (.Tuple elts x1 tp) (.Call (.Name "enumerate" p) [a] [] pos) (IU X.K ta):=by
 intro pins s σ H R I h;refine Call_ (kU I hg hm PyProof.Rows.Boot.«enumerate» (zaY (cS (ha pos pins s σ H _ I h) fun us s1 zqz=>?_) hs rfl));obtain⟨vs,H1,I1,r1,q1⟩:=zqz;obtain⟨l,e,⟨xs,hq⟩,q⟩:=q1;subst e;cases r1 with
 |cons r rr=>
  cases rr;cases (show _=Value.ref l from r);obtain⟨aY,rv,p,hz⟩:=I1.tuple hq;refine mK (show s1.heap.IsTuple l aY.toArray from p) fun h' he hit hsz hk=>?_;refine wpAny_pyIter_enum he ?_;have fr:∀b,s1.heap.objs.size<=b->H1 b=none:=fun b hb=>I1.cc.fresh hb;refine⟨s1.heap.objs.size+1,[s1.heap.objs.size+1,s1.heap.objs.size],_,_,H1,rfl,I1.kept (t':=s1.toks) hk,CN l _ _ (Nat.succ_ne_self _),⟨⟨_,he⟩,hit⟩,fun b hb=>?_,q⟩;have qQ:s1.heap.objs.size<=b:=by
   rcases zag.mp hb with rfl |hb
   ·exact zcb _
   ·have z:b=s1.heap.objs.size:=by simpa using hb
    rw[z];exact zaj _
  exact I1.wa qQ (fr b qQ)
theorem FF{K:zab}{a:zdJ}{xs:List V}{g:TG}{tb:TS}{D:Ends}{σ:St}{H:Hp}(Pv:Nat->St->Hp->Prop)(h0:Pv 0 σ H)(hl:∀i σ H,i<=xs.length->Pv i σ H->cF K H a xs)
 (hs:∀i x σ H p,xs[i]?=some x->Pv i σ H->H p=none->g (.ref p) σ (upd H p (.tup [.int i,x])) fun σ2 H2=>tb {D with nx:=Pv (i+1),ct:=Pv (i+1),bk:=D.nx} σ2 H2) (hd:∀σ H,Pv xs.length σ H->D.nx σ H) :
 ∃W:Nat->Nat->St->Hp->Prop,(∃m,W 0 m σ H)/\∀i m σ H,W i m σ H->
  ((MC K a).stop i H/\D.nx σ H)\/((MC K a).go i H/\∃N:St->Hp->Prop,(∀σ' H',N σ' H'->∃m',m'<m/\W (i+1) m' σ' H')/\∀x H',(MC K a).zS i H x H'->g x σ H' fun σ2 H2=>tb {D with nx:=N,ct:=N,bk:=D.nx} σ2 H2):=by
 refine⟨fun i m σ H=>m=xs.length-i/\i<=xs.length/\Pv i σ H,⟨xs.length,by simp,zaI _,h0⟩,?_⟩
 rintro i m σ H ⟨rfl,hi,p⟩
 have q:=hl i σ H hi p;by_cases jR:i<xs.length
 ·refine .inr ⟨⟨xs,xs[i],q,by simp[jR]⟩,Pv (i+1),fun σ' H' p'=>⟨xs.length-(i+1),by lia,rfl,jR,p'⟩,fun x H' y=>?_⟩;obtain⟨pp,v,rfl,hn,rfl,y⟩:=y;exact hs i v σ H pp (y xs q) p hn
 ·have e:i=xs.length:=by lia
  subst e;exact .inl ⟨⟨xs,q,zaj _⟩,hd σ H p⟩
theorem IW{K:zab}{ta:TA}{g:TG}{tb:TS}{D:Ends}{σ:St}{H:Hp} (h:∀U:zdJ->Hp->Prop,(∀a H1,(∃W:Nat->Nat->St->Hp->Prop,(∃m,W 0 m σ H1)/\∀i m σ H,W i m σ H->
 ((MC K a).stop i H/\D.nx σ H)\/((MC K a).go i H/\∃N:St->Hp->Prop,(∀σ' H',N σ' H'->∃m',m'<m/\W (i+1) m' σ' H')/\∀x H',(MC K a).zS i H x H'->g x σ H' fun σ2 H2=>tb {D with nx:=N,ct:=N,bk:=D.nx} σ2 H2))->U a H1)->
 ta σ H fun vs H1=>∃a,vs=[.ref a]/\(∃xs,cF K H1 a xs)/\U a H1):Ex (IU K ta) g tb D σ H:=h _ fun _ _ x=>x
open PG
inductive mL(ms:List (Int×List Rg))(k:Nat):List (Int×List Rg)->Prop
 |out:mL ms k (ms.take k++ms.drop (k+1))
 |lo (e:Int×List Rg) (i:Nat) (r r':Rg) (hk:ms[k]?=some e) (hi:e.2[i]?=some r) (lt:r.1<r.2) (h:r'=(r.1+1,r.2)\/r'=(r.1,r.2-1)):mL ms k (ms.take k++[(e.1,e.2.take i++[r']++e.2.drop (i+1))]++ms.drop (k+1))
theorem nL{α:Type}{l:List α}{i:Nat}(h:i<l.length)(x:α):(l.take i++[x]++l.drop (i+1)).length=l.length:=by
 simp only[zau,zbk,za4,zai,zaz];lia
theorem o9{α:Type}{l:List α}{i:Nat}(h:i<l.length)(x:α)(j:Nat):(l.take i++[x]++l.drop (i+1))[j]?=if j=i then some x else l[j]?:=by
 have e:l.take i++[x]++l.drop (i+1)=l.set i x:=by
  rw[List.set_eq_take_append_cons_drop,if_pos h,za0];rfl
 rw[e,zcU];by_cases z:i=j
 ·rw[if_pos z,if_pos h,if_pos z.symm]
 ·rw[if_neg z,if_neg (Ne.symm z)]
theorem IX{α:Type}{l:List α}{i:Nat}{x:α}(hx:x∈l.take i++l.drop (i+1)):∃j,j≠i/\l[j]?=some x:=by
 rcases zak.mp hx with h |h
 ·obtain⟨j,hj,e⟩:=zaG.mp h;rw[zbk] at hj;refine⟨j,by lia,?_⟩;rw[List.getElem_take] at e;rw[zaa (by lia),e]
 ·obtain⟨j,hj,e⟩:=zaG.mp h;rw[za4] at hj;refine⟨i+1+j,by lia,?_⟩;rw[zcW] at e;rw[zaa (by lia),e]
theorem DX{m:List (Int×List Rg)}(h:kJ m){i j:Nat}{a b:Int×List Rg}(ha:m[i]?=some a)(hb:m[j]?=some b)(e:a.1=b.1):i=j:=by
 obtain⟨h1,rfl⟩:=zah.mp ha;obtain⟨h2,rfl⟩:=zah.mp hb;rcases zb1 i j with z |z |z
 ·have:=zaK.mp h i j h1 h2 z;lia
 ·exact z
 ·have:=zaK.mp h j i h2 h1 z;lia
theorem DY{pr:Prog}{ms m:List (Int×List Rg)}(mn:yE pr ms)(rise:kJ ms){k:Nat}(hk:k<ms.length)(h:mL ms k m):kJ m/\(∀e∈m,fE pr.ay e.2/\Bu pr e.1)/\¬Fx pr m/\m.length<=ms.length:=by
 have ek:=zaa hk;have mem:ms[k]∈ms:=zao hk;have Iw:=mn.Iw _ _ (qi rise mem);have sub:(ms.take k++ms.drop (k+1)).Sublist ms:=by
  have h2:(ms.take k++ms.drop k).Sublist ms:=by rw[zb4];exact List.Sublist.refl _
  refine List.Sublist.trans (List.Sublist.append (List.Sublist.refl _) ?_) h2;rw[zbP hk];exact zdi _ _
 cases h with
 |out=>
  refine⟨List.Pairwise.sublist sub rise,fun e he=>mn.mf e (sub.subset he),fun c=>?_,sub.length_le⟩;obtain⟨u,e1,_⟩:=Iw _ c;obtain⟨j,hj,e2⟩:=IX (get_mem e1);exact hj (DX rise e2 ek rfl)
 |lo e i r r' YV hi lt h=>
  rw[ek] at YV;cases YV;have li:=(zah.mp hi).1;obtain⟨vV,kn⟩:=mn.mf _ mem;refine⟨?_,fun e he=>?_,fun c=>?_,by rw[nL hk];exact zaj _⟩
  ·refine zaK.mpr fun a b ha hb NX=>?_;have la:=ha;have lb:=hb;rw[nL hk] at la lb;have key:∀(j:Nat) (hj:j<(ms.take k++[(ms[k].1,ms[k].2.take i++[r']++ms[k].2.drop (i+1))]++ms.drop (k+1)).length) (lj:j<ms.length),((ms.take k++[(ms[k].1,ms[k].2.take i++[r']++ms[k].2.drop (i+1))]++ms.drop (k+1))[j]).1=ms[j].1:=fun j hj lj=>by
    have:=o9 hk (ms[k].1,ms[k].2.take i++[r']++ms[k].2.drop (i+1)) j;rw[zaa hj] at this;by_cases z:j=k
    ·rw[if_pos z] at this;subst z;rw[zaH.inj this]
    ·rw[if_neg z,zaa lj] at this;rw[zaH.inj this]
   rw[key a ha la,key b hb lb];exact zaK.mp rise a b la lb NX
  ·rw[za0] at he;rcases zak.mp he with he |he
   ·exact mn.mf e (List.mem_of_mem_take he)
   rcases zak.mp he with he |he
   ·rw[zan.mp he];refine⟨⟨⟨by rw[nL li];exact vV.bd.1,fun j x b e1 e2=>?_⟩,fun x hx=>?_⟩,kn⟩
    ·rw[o9 li] at e1;split at e1
     ·rename_i z;cases e1;rw[z] at e2;have:=vV.bd.2 i r b hi e2;unfold zx at this ⊢;rcases h with rfl |rfl<;>simp only<;>lia
     ·exact vV.bd.2 j x b e1 e2
    ·obtain⟨j,e1⟩:=zdp.mp hx;rw[o9 li] at e1;split at e1
     ·cases e1;rcases h with rfl |rfl<;>simp only<;>lia
     ·exact vV.le x (zav e1)
   ·exact mn.mf e (List.mem_of_mem_drop he)
  ·obtain⟨u,e1,sb⟩:=Iw _ c;obtain⟨j,e2⟩:=zdp.mp (get_mem e1);rw[o9 hk] at e2;split at e2
   ·cases e2;have:=sb.2 i r r' hi (by rw[o9 li,if_pos rfl]);rcases h with rfl |rfl<;>simp only at this<;>lia
   ·rename_i z;exact z (DX rise e2 ek rfl)
section
variable{K:zab}{H H':Hp}
theorem c5.take{us:List V}{ws:List (Int×List Rg)}(h:c5 K H us ws):∀k,c5 K H (us.take k) (ws.take k):=by
 induction h with
 |nil=>intro k;rw[zdy,zdy];exact .nil
 |cons a _ ih=>
  intro k;cases k with
  |zero=>exact .nil
  |succ k=>exact .cons a (ih k)
theorem c5.drop{us:List V}{ws:List (Int×List Rg)}(h:c5 K H us ws):∀k,c5 K H (us.drop k) (ws.drop k):=by
 induction h with
 |nil=>intro k;rw[List.drop_nil,List.drop_nil];exact .nil
 |cons a b ih=>
  intro k;cases k with
  |zero=>exact .cons a b
  |succ k=>exact ih k
theorem qd.cut{us:List V}{rs:List Rg}(h:qd K H us rs){i:Nat}(hi:i<us.length){v:V}{r:Rg}(g:cm K H v r):qd K H (us.take i++[v]++us.drop (i+1)) (rs.take i++[r]++rs.drop (i+1)):=by
 have li:i<rs.length:=by have:=h.1;lia
 refine⟨by rw[nL hi,nL li];exact h.1,fun j hj=>?_⟩;have lj:=hj;rw[nL hi] at lj;have e:=o9 hi v j;rw[zaa hj] at e;rw[o9 li];by_cases z:j=i
 ·rw[if_pos z] at e ⊢;exact⟨r,rfl,by rw[zaH.inj e];exact g⟩
 ·rw[if_neg z] at e ⊢;rw[zaa lj] at e;rw[zaH.inj e];exact h.2 j lj
theorem yM(us:List V)(k:Nat):kA us none (some (k:Int))=us.take k:=by
 unfold kA;rw[HT.pG,HT.tF,List.drop_zero,Nat.sub_zero];by_cases z:k<=us.length
 ·rw[zdd z]
 ·rw[zc2 (by lia),zbs (zaj _),zbs (by lia)]
theorem rf(us:List V)(k:Nat):kA us (some ((k:Int)+1)) none=us.drop (k+1):=by
 unfold kA;rw[HT.pG,show (k:Int)+1=((k+1:Nat):Int) by lia,HT.tF];by_cases z:k+1<=us.length
 ·rw[zdd z];exact zbs (by rw[za4];lia)
 ·rw[zc2 (by lia),zdk (zaj _),zdk (by lia),zdy]
def rg (K:zab) (H:Hp) (L:zdJ) (v:V) (m:List (Int×List Rg)):Prop:=∃a us,v=.ref a/\a≠L/\H a=some (.lst us)/\c5 K H us m
theorem rg.mono{L:zdJ}{v:V}{m:List (Int×List Rg)}(h:rg K H L v m)(s:aq H H'):rg K H' L v m:=by
 obtain⟨a,us,e,n,h1,h2⟩:=h;exact⟨a,us,e,n,s _ _ h1,h2.map fun v w h=>h.mono s⟩
theorem rg.gB{L:zdJ}{v:V}{m:List (Int×List Rg)}(h:rg K H L v m){ys:List V}(hL:H L=some (.lst ys))(u:bc L H H'):rg K H' L v m:=by
 obtain⟨a,us,e,n,h1,h2⟩:=h;exact⟨a,us,e,n,u _ _ n h1,h2.map fun v w h=>h.gB hL u⟩
end
section
variable(K:zab)
inductive Oz(vs:List V)(H:Hp)(Q:VK)(E:XK):Prop
 |mk (pa:zdJ) (us:List V) (ms:List (Int×List Rg)) (k:Nat) (e:vs=[.ref pa,.int k]) (hp:fU K H pa us) (wo:c5 K H us ms) (gc:ms.length<=50) (hk:k<ms.length) (Bw:∀e∈ms,e.2.length<=10) (q:∀(L:zdJ) (ls:List V) H',aq H H'->H L=none->H' L=some (.lst ls)->ls.length<=21->(∀v∈ls,∃m,rg K H' L v m/\mL ms k m)->Q (.ref L) H')
end
theorem Lw{X:Cx}(hu:X.A.units+64<cLine):nU X (compareOp .NotEq) (fun x y H Q=>∃l,Rep X.K H (.tup l) x/\Rep X.K H (.tup l) y/\(Dp.tup l).deep<=60/\Q (.bl false) H):=by
 intro pins s σ H x y v u Q I rx ry h;obtain⟨l,h1,h2,hd,q⟩:=h;rw[Rep.bj] at h1 h2;obtain⟨p,xs,rfl,q1,w1⟩:=h1;obtain⟨p',Vp,rfl,q2,w2⟩:=h2;cases (show v=Value.ref p from rx);cases (show u=Value.ref p' from ry);obtain⟨aY,v1,t1,_⟩:=I.tuple q1;obtain⟨its',v2,t2,_⟩:=I.tuple q2;unfold Dp.deep at hd;have items:=mz I w1 w2 v1 v2 (A:=X.A.in1) (by show X.A.units+1+_<_;lia);have n1:aY.length=its'.length:=by rw[<- v1.length,<- v2.length,w1.length,w2.length]
 refine SeqAt.RcNeAt.tuples (e:=fun _=>true) t1 t2 (by lia) (fun j h1 h2=>items j aY[j] its'[j] (by simp at h1;simp[h1]) (by simp at h2;simp[h2])) _ _ _ _ ?_;rw[all_true];have:(aY.toArray.size==its'.toArray.size)=true:=by simp[n1]
 rw[this];exact⟨.bl false,H,I,rfl,q⟩
end L2
section
set_option maxHeartbeats 4000000
namespace IY
open PySem L2
def top (i:Nat):Stmt:=PySem.Challenge.pw_everyrow_k35_whole_least_ranges.main.body.getD i (.Pass ⟨0,0,0,0⟩)
abbrev CO:Stmt:=top 2
abbrev jF:Stmt:=top 3
abbrev mM:Stmt:=top 4
abbrev kb:Stmt:=top 5
abbrev rh:Stmt:=top 6
abbrev mN:Stmt:=top 7
abbrev iZ:Stmt:=top 8
abbrev rj:Stmt:=top 11
abbrev pd:Stmt:=top 12
abbrev pe:Stmt:=top 13
abbrev mO:Stmt:=top 15
abbrev jG:Stmt:=top 16
abbrev jH:Stmt:=top 17
abbrev pf:Stmt:=top 18
abbrev rq:Stmt:=top 19
abbrev ke:Stmt:=top 20
abbrev lA:Stmt:=top 21
abbrev ik:Stmt:=top 22
abbrev i5:Stmt:=top 23
abbrev kg:Stmt:=top 24
abbrev i6:Stmt:=top 25
abbrev ip:Stmt:=top 26
abbrev fH:Stmt:=top 27
abbrev jI:Stmt:=top 28
abbrev rA:Stmt:=top 29
abbrev ph:Stmt:=top 30
abbrev lC:Stmt:=top 31
abbrev mP:Stmt:=top 33
abbrev lD:Stmt:=top 34
abbrev lE:Stmt:=top 35
abbrev mQ:Stmt:=top 36
abbrev vw:Stmt:=top 37
abbrev lF:Stmt:=top 38
abbrev mR:Stmt:=top 39
abbrev lG:Stmt:=top 40
abbrev lH:Stmt:=top 41
abbrev mS:Stmt:=top 42
abbrev IZ:Stmt:=top 43
abbrev cK:Stmt:=inClass (top 10) 0
theorem DZ:ba ["program"] ["program"] (aI CO):=⟨rfl,rfl,rfl,by decide +kernel,rfl,by decide +kernel,by decide +kernel⟩
theorem lY:ba ["body", "behind", "told", "place", "statement", "after", "inner"] ["body", "behind"] (aI jF):=⟨rfl,rfl,rfl,by decide +kernel,rfl,by decide +kernel,by decide +kernel⟩
theorem qm:ba ["body", "behind"] ["body", "behind"] (aI mM):=⟨rfl,rfl,rfl,by decide +kernel,rfl,by decide +kernel,by decide +kernel⟩
theorem mT:ba ["statement", "after"] ["statement", "after"] (aI kb):=⟨rfl,rfl,rfl,by decide +kernel,rfl,by decide +kernel,by decide +kernel⟩
theorem vx:ba ["statement", "after", "word"] ["statement", "after"] (aI rh):=⟨rfl,rfl,rfl,by decide +kernel,rfl,by decide +kernel,by decide +kernel⟩
theorem qo:ba ["statement"] ["statement"] (aI mN):=⟨rfl,rfl,rfl,by decide +kernel,rfl,by decide +kernel,by decide +kernel⟩
theorem kK:ba ["body", "found", "statement", "inner"] ["body"] (aI iZ):=⟨rfl,rfl,rfl,by decide +kernel,rfl,by decide +kernel,by decide +kernel⟩
theorem vy:ba ["chart", "row"] ["chart", "row"] (aI rj):=⟨rfl,rfl,rfl,by decide +kernel,rfl,by decide +kernel,by decide +kernel⟩
theorem sr:ba ["chart", "parts"] ["chart", "parts"] (aI pd):=⟨rfl,rfl,rfl,by decide +kernel,rfl,by decide +kernel,by decide +kernel⟩
theorem su:ba ["chart", "named"] ["chart", "named"] (aI pe):=⟨rfl,rfl,rfl,by decide +kernel,rfl,by decide +kernel,by decide +kernel⟩
theorem qp:ba ["program", "row", "ranges"] ["program", "row", "ranges"] (aI mO):=⟨rfl,rfl,rfl,by decide +kernel,rfl,by decide +kernel,by decide +kernel⟩
theorem lZ:ba ["program", "chart", "found", "waiting", "row", "way", "before", "both"] ["program"] (aI jG):=⟨rfl,rfl,rfl,by decide +kernel,rfl,by decide +kernel,by decide +kernel⟩
theorem l3:ba ["program", "paper"] ["program", "paper"] (aI jH):=⟨rfl,rfl,rfl,by decide +kernel,rfl,by decide +kernel,by decide +kernel⟩
theorem sv:ba ["e", "named", "kind", "left", "right", "products"] ["e", "named"] (aI pf):=⟨rfl,rfl,rfl,by decide +kernel,rfl,by decide +kernel,by decide +kernel⟩
theorem vz:ba ["chart", "row", "ranges", "word", "statement", "named"] ["chart", "row", "ranges"] (aI rq):=⟨rfl,rfl,rfl,by decide +kernel,rfl,by decide +kernel,by decide +kernel⟩
theorem mU:ba ["size"] ["size"] (aI ke):=⟨rfl,rfl,rfl,by decide +kernel,rfl,by decide +kernel,by decide +kernel⟩
theorem oh:ba ["worths", "size"] ["worths", "size"] (aI lA):=⟨rfl,rfl,rfl,by decide +kernel,rfl,by decide +kernel,by decide +kernel⟩
theorem j0:ba ["chart", "row", "ranges", "told", "way", "truth", "narrowed"] ["chart", "row", "ranges"] (aI ik):=⟨rfl,rfl,rfl,by decide +kernel,rfl,by decide +kernel,by decide +kernel⟩
theorem kL:ba ["chart", "row", "truth", "ranges", "statement", "sign", "named", "left", "right", "name", "narrowed"] ["chart", "row", "truth", "ranges"] (aI i5):=⟨rfl,rfl,rfl,by decide +kernel,rfl,by decide +kernel,by decide +kernel⟩
theorem mV:ba ["sign", "truth", "left", "right"] ["sign", "truth", "left", "right"] (aI kg):=⟨rfl,rfl,rfl,by decide +kernel,rfl,by decide +kernel,by decide +kernel⟩
theorem kM:ba ["sign", "truth", "own", "left", "right"] ["sign", "truth", "own", "left", "right"] (aI i6):=⟨rfl,rfl,rfl,by decide +kernel,rfl,by decide +kernel,by decide +kernel⟩
theorem j3:ba ["sign", "truth", "own", "left", "right"] ["sign", "truth", "own", "left", "right"] (aI ip):=⟨rfl,rfl,rfl,by decide +kernel,rfl,by decide +kernel,by decide +kernel⟩
theorem iO:ba ["truth", "own", "near", "far", "low", "high"] ["truth", "own", "near", "far"] (aI fH):=⟨rfl,rfl,rfl,by decide +kernel,rfl,by decide +kernel,by decide +kernel⟩
theorem l6:ba ["chart"] ["chart"] (aI jI):=⟨rfl,rfl,rfl,by decide +kernel,rfl,by decide +kernel,by decide +kernel⟩
theorem vA:ba ["one", "other"] ["one", "other"] (aI rA):=⟨rfl,rfl,rfl,by decide +kernel,rfl,by decide +kernel,by decide +kernel⟩
theorem sA:ba ["chart", "paper", "rows", "by_row", "entry"] ["chart", "paper"] (aI ph):=⟨rfl,rfl,rfl,by decide +kernel,rfl,by decide +kernel,by decide +kernel⟩
theorem om:ba ["by_row", "way"] ["by_row", "way"] (aI lC):=⟨rfl,rfl,rfl,by decide +kernel,rfl,by decide +kernel,by decide +kernel⟩
theorem qr:ba ["state", "many", "found"] ["state", "many"] (aI mP):=⟨rfl,rfl,rfl,by decide +kernel,rfl,by decide +kernel,by decide +kernel⟩
theorem oo:ba ["script", "k", "cell", "small"] ["script", "k"] (aI lD):=⟨rfl,rfl,rfl,by decide +kernel,rfl,by decide +kernel,by decide +kernel⟩
theorem ou:ba ["script", "state", "names", "boxes", "name", "size"] ["script"] (aI lE):=⟨rfl,rfl,rfl,by decide +kernel,rfl,by decide +kernel,by decide +kernel⟩
theorem qt:ba ["state", "boxes"] ["state", "boxes"] (aI mQ):=⟨rfl,rfl,rfl,by decide +kernel,rfl,by decide +kernel,by decide +kernel⟩
theorem xC:ba ["state", "boxes", "sign", "leaf", "other"] ["state", "boxes"] (aI vw):=⟨rfl,rfl,rfl,by decide +kernel,rfl,by decide +kernel,by decide +kernel⟩
theorem ox:ba ["state", "boxes", "row", "kind"] ["state", "boxes", "row"] (aI lF):=⟨rfl,rfl,rfl,by decide +kernel,rfl,by decide +kernel,by decide +kernel⟩
theorem qu:ba ["script", "boxes", "root", "pile", "seconds", "row", "k", "state", "kind", "sides", "word", "bodies"] ["script", "boxes"] (aI mR):=⟨rfl,rfl,rfl,by decide +kernel,rfl,by decide +kernel,by decide +kernel⟩
theorem oy:ba ["program", "first", "found", "again", "row", "there", "ranges", "old", "new"] ["program"] (aI lG):=⟨rfl,rfl,rfl,by decide +kernel,rfl,by decide +kernel,by decide +kernel⟩
theorem oA:ba ["program", "paper", "known", "first", "due", "row", "there", "ranges", "one", "other"] ["program", "paper"] (aI lH):=⟨rfl,rfl,rfl,by decide +kernel,rfl,by decide +kernel,by decide +kernel⟩
theorem qv:ba ["paper", "k", "row", "ranges", "found", "at", "low", "high", "pair"] ["paper", "k"] (aI mS):=⟨rfl,rfl,rfl,by decide +kernel,rfl,by decide +kernel,by decide +kernel⟩
theorem I0:ba ["script", "boxes", "program", "twin", "due", "found", "at", "less"] ["script"] (aI IZ):=⟨rfl,rfl,rfl,by decide +kernel,rfl,by decide +kernel,by decide +kernel⟩
theorem oB:ba ["self", "program", "boxes", "body"] ["self", "program"] (aI cK):=⟨rfl,rfl,rfl,by decide +kernel,rfl,by decide +kernel,by decide +kernel⟩
set_option genInjectivity false in
structure Ad where
 rC:zdJ
 qw:zdS
 cW:zdJ
 c7:zdS
 dJ:zdJ
 dN:zdS
 dW:zdJ
 eP:zdS
 jq:zdJ
 jJ:zdS
 eQ:zdJ
 fh:zdS
 cg:zdJ
 cy:zdS
 kN:zdJ
 lI:zdS
 jK:zdJ
 j4:zdS
 jL:zdJ
 j5:zdS
 iP:zdJ
 jg:zdS
 eR:zdJ
 fR:zdS
 eS:zdJ
 fS:zdS
 fV:zdJ
 gb:zdS
 kO:zdJ
 lJ:zdS
 fO:zdJ
 gE:zdS
 gF:zdJ
 iC:zdS
 dG:zdJ
 d9:zdS
 dR:zdJ
 fi:zdS
 fP:zdJ
 gG:zdS
 dS:zdJ
 fj:zdS
 dH:zdJ
 ef:zdS
 cJ:zdJ
 dh:zdS
 eT:zdJ
 fT:zdS
 kP:zdJ
 lK:zdS
 jM:zdJ
 j6:zdS
 gH:zdJ
 iD:zdS
 iQ:zdJ
 jh:zdS
 gJ:zdJ
 iE:zdS
 gK:zdJ
 iF:zdS
 iR:zdJ
 ji:zdS
 mW:zdJ
 nM:zdS
 gM:zdJ
 iG:zdS
 iS:zdJ
 jj:zdS
 gN:zdJ
 iH:zdS
 gO:zdJ
 iI:zdS
 iT:zdJ
 jk:zdS
 D0:zdJ
 rE:zdS
 cL:zdJ
 kh:zdS
 aR:zdJ
set_option genInjectivity false in
structure Tx(K:zab)(mg:Str->Option zdK)(t:Ad):Prop where
 rF:bU K mg "flow" CO ["program"] t.rC t.qw
 bX:bU K mg "flow_of_body" jF ["body", "behind"] t.cW t.c7
 bt:bU K mg "first_row" mM ["body", "behind"] t.dJ t.dN
 dX:bU K mg "behind_body" kb ["statement", "after"] t.dW t.eP
 jr:bU K mg "ways_of" rh ["statement", "after"] t.jq t.jJ
 dq:bU K mg "bodies_in" mN ["statement"] t.eQ t.fh
 bR:bU K mg "statements_in" iZ ["body"] t.cg t.cy
 jt:bU K mg "word_at" rj ["chart", "row"] t.kN t.lI
 dO:bU K mg "by_names" pd ["chart", "parts"] t.jK t.j4
 dP:bU K mg "in_order" pe ["chart", "named"] t.jL t.j5
 du:bU K mg "ways_from" mO ["program", "row", "ranges"] t.iP t.jg
 bY:bU K mg "least_ranges" jG ["program"] t.eR t.fR
 bZ:bU K mg "right_ranges" jH ["program", "paper"] t.eS t.fS
 bD:bU K mg "range_by" pf ["e", "named"] t.fV t.gb
 c8:bU K mg "ways_by" rq ["chart", "row", "ranges"] t.kO t.lJ
 cB:bU K mg "whole_range" ke ["size"] t.fO t.gE
 fk:bU K mg "rest_range" lA ["worths", "size"] t.gF t.iC
 cQ:bU K mg "condition_ways" ik ["chart", "row", "ranges"] t.dG t.d9
 c9:bU K mg "ranges_behind" i5 ["chart", "row", "truth", "ranges"] t.dR t.fi
 dY:bU K mg "may_be_gone" kg ["sign", "truth", "left", "right"] t.fP t.gG
 da:bU K mg "narrowed_left" i6 ["sign", "truth", "own", "left", "right"] t.dS t.fj
 cR:bU K mg "narrowed_right" ip ["sign", "truth", "own", "left", "right"] t.dH t.ef
 bA:bU K mg "narrowed_by_equal" fH ["truth", "own", "near", "far"] t.cJ t.dh
 b8:bU K mg "first_ranges" jI ["chart"] t.eT t.fT
 ju:bU K mg "spanned" rA ["one", "other"] t.kP t.lK
 iq:bU K mg "is_right" ph ["chart", "paper"] t.jM t.j6
 cM:bU K mg "leads_into" lC ["by_row", "way"] t.gH t.iD
 ar:bU K mg "_law_take" mP ["state", "many"] t.iQ t.jh
 bS:bU K mg "_law_state" lD ["script", "k"] t.gJ t.iE
 cN:bU K mg "_law_boxes" lE ["script"] t.gK t.iF
 bu:bU K mg "_law_leaf" mQ ["state", "boxes"] t.iR t.ji
 cX:bU K mg "_law_e" vw ["state", "boxes"] t.mW t.nM
 fo:bU K mg "_law_plain" lF ["state", "boxes", "row"] t.gM t.iG
 dv:bU K mg "_law_body" mR ["script", "boxes"] t.iS t.jj
 fw:bU K mg "_law_least" lG ["program"] t.gN t.iH
 cO:bU K mg "_law_right" lH ["program", "paper"] t.gO t.iI
 dy:bU K mg "_law_less" mS ["paper", "k"] t.iT t.jk
 Ea:bU K mg "law" IZ ["script"] t.D0 t.rE
 jl:JI K "__init__" "Chart.__init__" cK t.cL t.kh
 lL:Binds K t.kh ["self", "program"] []
 cw:Mb K t.aR
 vB:mg "Chart"=some (.ref t.aR)
 mX:Mk K t.aR t.cL
 eU:jx K t.aR "names"
 eV:jx K t.aR "sizes"
 cY:jx K t.aR "first"
 cb:jx K t.aR "statements"
 fQ:jx K t.aR "ways"
 yN:∃u,mg "END"=some u/\RelV (.int 0) u
 l7:mg "len"=none
 yO:mg "range"=none
 Eb:mg "int"=none
 mY:mg "dict"=none
 vC:mg "list"=none
 iJ:mg "tuple"=none
 Ec:mg "all"=none
 Ja:mg "any"=none
 qx:mg "max"=none
 oC:mg "min"=none
 lM:mg "isinstance"=none
 j7:mg "enumerate"=none
 sC:mg "zip"=none
 kQ:mg "sorted"=none
 Jb:mg "set"=none
end IY
end
section
set_option maxHeartbeats 4000000
namespace IY
open PySem L2
local macro_rules | `(tactic|walk_at "rd")=>`(tactic|((try dsimp only[ wX,wQ,Er,wR,Px,Ep,wV,PF,EK,PD,xb,ni,EE,uk,ui,PB,rU,ue,uf,zP,rO,BB,Et,BA,vZ,pM,Ah,uB,uC,uD,uF,uG,uH,uI,uJ,uK,uL,tK,tL,tM,tO,tP,GJ,Es,wU,zQ,eG,Ai,Aj,zbA,pN,pO,uN,pQ,pS,qb,pT,Ak,GP,uS,uO,uP,Pu,zbp,zbt,zai,zaz,uQ,uR,yn,yo,pP]);(try simp only[ wX,wQ,Er,wR,Px,Ep,wV,PF,EK,PD,xb,ni,EE,uk,ui,PB,rU,ue,uf,BY,BZ,zP,rO,BB,Et,BA,vZ,pM,Ah,uB,uC,uD,uF,uG,uH,uI,uJ,uK,uL,tK,tL,tM,tO,tP,GJ,Es,wU,zQ,eG,GI,NT,Ai,Aj,GK,xY,uM,B0,B1,zbA,pN,pO,uN,pQ,pS,qb,pT,Ak,GP,uS,uO,uP,Pu,zba,zbp,zbt,xZ,x8,true_and,and_true,zai,zaz,ya,uQ,uR,yn,yo,pP,zdH,zdI,zc3,zdz,and_self])))
section
variable{P:zdV}{w:zdL}{K:zab}{mg:Str->Option zdK}{base:Heap}{t:Ad}
theorem mZ(T:Tx K mg t):bM P w K mg base fZ 1 t.fO t.gE ["size"] (Fe K):=by
 refine T.cB.F.kZ mU (fun vs H Q E h=>?_) (fun eA A outer s H vs Q E hr h=>?_)
 ·obtain⟨_,rfl,_⟩:=h;rfl
 obtain⟨size,rfl,q⟩:=h;have nd:=mU.nd;refine⟨_,[some (.int size)],(au (aH (bf (aa ak (aa (bC oM (pv 0) ak) ah dA) aZ)))),rfl,?_⟩;walk_at "rd";intro p hp;exact q _ _ (aq.new hp _) (.new rfl)
theorem wk(T:Tx K mg t):bM P w K mg base fZ 2 t.gF t.iC ["worths", "size"] (HD K):=by
 have ki:=mZ (P:=P) (w:=w) (base:=base) T;refine T.fk.F.kZ oh (fun vs H Q E h=>?_) (fun eA A outer s H vs Q E hr h=>?_)
 ·obtain⟨_,_,_,rfl,_⟩:=h;rfl
 obtain⟨_,r,size,rfl,⟨a,rfl,ha⟩,h0,h1,q⟩:=h;have nd:=oh.nd;refine⟨_,[some (.ref a),some (.int size)],(ao (bB (aM cD (bC tm (av ax (pv 0) ak aj) (pv 1)) (bC tm (av ax (pv 0) ak aj) (pv 1)) (aS _))
 (au (aH (bf (aa (bC oN (av ax (pv 0) ak aj) (pv 1)) (aa (bC oN (av ax (pv 0) ak aj) (pv 1)) ah dA) dA))))
 aW)
 (au (aH (aA ki (hr.mono (by first|decide|omega)) rfl T.cB.m T.cB.F.kp T.cB.b .nil aN (aa (pv 1) ah ae))))),rfl,?_⟩
 unfold PG.k8 at q;walk_at "rd";refine mh ha ⟨_,_,rfl,rfl,⟨h0,by lia⟩,mi ha ⟨_,_,rfl,rfl,⟨h0,by lia⟩,rfl,eC (fun e=>?_) (fun e=>?_)⟩⟩
 ·rw[if_pos (V.int.inj e)] at q;exact mh ha ⟨_,_,rfl,rfl,h0,mi ha ⟨_,_,rfl,rfl,h0,fun p hp=>q _ _ (aq.new hp _) (.new rfl)⟩⟩
 ·rw[if_neg (fun z=>e (congrArg V.int z))] at q;exact⟨size,rfl,q⟩
theorem vD(T:Tx K mg t):bM P w K mg base fZ 1 t.fP t.gG ["sign", "truth", "left", "right"] (RA K):=by
 refine T.dY.F.kZ mV (fun vs H Q E h=>?_) (fun eA A outer s H vs Q E hr h=>?_)
 ·obtain⟨_,_,_,_,_,_,rfl,_⟩:=h;rfl
 obtain⟨sg,truth,_,_,l,r,rfl,⟨la,rfl,hl⟩,⟨ra,rfl,xu⟩,q⟩:=h;have nd:=mV.nd;refine⟨_,[some (.str (S sg)),some (.bl truth),some (.ref la),some (.ref ra)],(ao (bB (PW.pt (pw_and (aM cD (pv 0) bG (aS _)) (pw_and1 (gY (pv 1)))))
 (au (aH (gm nV (av ax (pv 2) ak aj) (av ax (pv 3) ak aj) (aS _))))
 aW)
 (ao (bB (aM cD (pv 0) bG (aS _))
 (au (aH (gm QL (av ax (pv 2) ak aj) (av ax (pv 3) ak aj) (aS _))))
 aW)
 (ao (bB (gY (pv 1))
 (au (aH (gm Gi (bh (jm rfl) rfl T.qx PyProof.Rows.Boot.«max» (aa (av ax (pv 2) ak aj) (aa (av ax (pv 3) ak aj) ah aG) aG)) (bh (gZ rfl) rfl T.oC PyProof.Rows.Boot.«min» (aa (av ax (pv 2) ak aj) (aa (av ax (pv 3) ak aj) ah aG) aG)) (aS _))))
 aW)
 (au (aH (Np (Fd cD (av ax (pv 2) ak aj) (av ax (pv 2) ak aj) (av ax (pv 3) ak aj) (av ax (pv 3) ak aj)))))))),rfl,?_⟩
 have l1:(S sg=zac "<")↔sg=[60]:=by rw[show (zac "<":Str)=S [60] from rfl,pU]
 walk_at "rd";by_cases e:sg=[60]
 ·rw[decide_eq_true e] at q;cases truth with
  |true=>exact(if_pos (l1.mpr e)).mpr ((if_pos rfl).mpr (mh hl (mi xu ⟨_,_,rfl,rfl,q⟩)))
  |false=>exact(if_pos (l1.mpr e)).mpr ((if_neg zar).mpr ((if_pos (l1.mpr e)).mpr (mi hl (mh xu ⟨_,_,rfl,rfl,q⟩))))
 ·rw[decide_eq_false e] at q;refine(if_neg (fun z=>e (l1.mp z))).mpr ((if_neg zar).mpr ((if_neg (fun z=>e (l1.mp z))).mpr ?_));cases truth with
  |true=>
   refine(if_pos rfl).mpr (mh hl (mh xu ⟨_,_,rfl,mi hl (mi xu ⟨_,_,rfl,?_⟩)⟩));rw[max2,min2];exact q
  |false=>
   refine(if_neg zar).mpr (mh hl (mi hl ⟨rfl,?_⟩));replace q:Q (V.bl (!(decide (l.1=l.2)&&decide (l.2=r.1)&&decide (r.1=r.2)))) H:=q;by_cases e1:l.1=l.2
   ·refine(if_pos (congrArg V.int e1)).mpr (mh xu ⟨rfl,?_⟩);rw[decide_eq_true e1,zca] at q;by_cases e2:l.2=r.1
    ·refine(if_pos (congrArg V.int e2)).mpr (mi xu ⟨rfl,?_⟩);rw[decide_eq_true e2,zca] at q;rw[show decide (V.int r.1=V.int r.2)=decide (r.1=r.2) from decide_eq_decide.mpr ⟨V.int.inj,congrArg V.int⟩];exact q
    ·rw[decide_eq_false e2] at q;exact(if_neg (fun z=>e2 (V.int.inj z))).mpr q
   ·rw[decide_eq_false e1] at q;exact(if_neg (fun z=>e1 (V.int.inj z))).mpr q
theorem iU(T:Tx K mg t):bM P w K mg base fZ 1 t.cJ t.dh ["truth", "own", "near", "far"] (N5 K):=by
 refine T.bA.F.kZ iO (fun vs H Q E h=>?_) (fun eA A outer s H vs Q E hr h=>?_)
 ·obtain⟨_,_,_,_,_,_,_,rfl,_⟩:=h;rfl
 obtain⟨truth,_,_,_,own,near,FY,rfl,⟨oa,rfl,ho⟩,⟨na,rfl,hn⟩,⟨fa,rfl,hf⟩,q⟩:=h;have nd:=iO.nd;refine⟨_,[some (.bl truth),some (.ref oa),some (.ref na),some (.ref fa),none,none],(ao (bB (gY (pv 0))
 (au (aH (bf (aa (bh (jm rfl) rfl T.qx PyProof.Rows.Boot.«max» (aa (av ax (pv 2) ak aj) (aa (av ax (pv 3) ak aj) ah aG) aG)) (aa (bh (gZ rfl) rfl T.oC PyProof.Rows.Boot.«min» (aa (av ax (pv 2) ak aj) (aa (av ax (pv 3) ak aj) ah aG) aG)) ah aT) aT))))
 aW)
 (ao (bB (aM QK (av ax (pv 3) ak aj) (av ax (pv 3) ak aj) (aS _))
 (au (aH (pv 1)))
 aW)
 (ao (aP (i:=4) nd rfl (zap rfl) (ub (aM cD (av ax (pv 1) ak aj) (av ax (pv 3) ak aj) (aS _)) (bC gh (av ax (pv 1) ak aj) ak) (av ax (pv 1) ak aj)))
 (ao (aP (i:=5) nd rfl (zap rfl) (ub (aM cD (av ax (pv 1) ak aj) (av ax (pv 3) ak aj) (aS _)) (bC oM (av ax (pv 1) ak aj) ak) (av ax (pv 1) ak aj)))
 (au (aH (bf (aa (pv 4) (aa (pv 5) ah ae) ae)))))))),rfl,?_⟩
 refine aw fun U1 gf=>?_;walk_at "rd";cases truth with
 |true=>
  refine(if_pos rfl).mpr (mh hn (mh hf ⟨_,_,rfl,mi hn (mi hf ⟨_,_,rfl,fun p hp=>?_⟩)⟩));rw[max2,min2];exact q _ _ (aq.new hp _) (.new rfl)
 |false=>
  refine(if_neg zar).mpr ((gf _ _).mpr ?_);unfold Ay PG.lg at q;simp only[zaF,if_false] at q;walk_at "rd";refine mh hf (mi hf ⟨rfl,?_⟩);by_cases e:FY.1=FY.2
  ·rw[if_pos e] at q;refine(if_pos (congrArg V.int e)).mpr (mh ho (mh hf ⟨rfl,?_⟩));by_cases e1:own.1=FY.1
   ·rw[if_pos e1] at q;refine(if_pos (congrArg V.int e1)).mpr (mh ho ⟨_,_,rfl,rfl,mi ho (mh hf ⟨rfl,?_⟩)⟩);by_cases e2:own.2=FY.1
    ·rw[if_pos e2] at q;exact(if_pos (congrArg V.int e2)).mpr (mi ho ⟨_,_,rfl,rfl,fun p hp=>q _ _ (aq.new hp _) (.new rfl)⟩)
    ·rw[if_neg e2] at q;exact(if_neg (fun z=>e2 (V.int.inj z))).mpr (mi ho fun p hp=>q _ _ (aq.new hp _) (.new rfl))
   ·rw[if_neg e1] at q;refine(if_neg (fun z=>e1 (V.int.inj z))).mpr (mh ho (mi ho (mh hf ⟨rfl,?_⟩)));by_cases e2:own.2=FY.1
    ·rw[if_pos e2] at q;exact(if_pos (congrArg V.int e2)).mpr (mi ho ⟨_,_,rfl,rfl,fun p hp=>q _ _ (aq.new hp _) (.new rfl)⟩)
    ·rw[if_neg e2] at q;exact(if_neg (fun z=>e2 (V.int.inj z))).mpr (mi ho fun p hp=>q _ _ (aq.new hp _) (.new rfl))
  ·rw[if_neg e] at q;exact(if_neg (fun z=>e (V.int.inj z))).mpr (q _ _ (aq.refl _) ⟨_,rfl,ho⟩)
theorem rG(T:Tx K mg t):bM P w K mg base fZ 2 t.dS t.fj ["sign", "truth", "own", "left", "right"] (N6 K):=by
 have fI:=iU (P:=P) (w:=w) (base:=base) T;refine T.da.F.kZ kM (fun vs H Q E h=>?_) (fun eA A outer s H vs Q E hr h=>?_)
 ·obtain⟨_,_,_,_,_,_,_,_,rfl,_⟩:=h;rfl
 obtain⟨sg,truth,_,_,_,own,l,r,rfl,⟨oa,rfl,ho⟩,⟨la,rfl,hl⟩,⟨ra,rfl,xu⟩,q⟩:=h;have nd:=kM.nd;refine⟨_,[some (.str (S sg)),some (.bl truth),some (.ref oa),some (.ref la),some (.ref ra)],(ao (bB (PW.pt (pw_and (aM cD (pv 0) bG (aS _)) (pw_and1 (gY (pv 1)))))
 (au (aH (bf (aa (av ax (pv 2) ak aj) (aa (bh (gZ rfl) rfl T.oC PyProof.Rows.Boot.«min» (aa (av ax (pv 2) ak aj) (aa (bC oM (av ax (pv 4) ak aj) ak) ah dA) aG)) ah aT) aG))))
 aW)
 (ao (bB (aM cD (pv 0) bG (aS _))
 (au (aH (bf (aa (bh (jm rfl) rfl T.qx PyProof.Rows.Boot.«max» (aa (av ax (pv 2) ak aj) (aa (av ax (pv 4) ak aj) ah aG) aG)) (aa (av ax (pv 2) ak aj) ah aG) aT))))
 aW)
 (au (aH (aA fI (hr.mono (by first|decide|omega)) rfl T.bA.m T.bA.F.kp T.bA.b .nil aN (aa (pv 1) (aa (pv 2) (aa (pv 3) (aa (pv 4) ah ae) ae) ae) ae)))))),rfl,?_⟩
 have l1:(S sg=zac "<")↔sg=[60]:=by rw[show (zac "<":Str)=S [60] from rfl,pU]
 walk_at "rd";by_cases e:sg=[60]
 ·rw[decide_eq_true e] at q;cases truth with
  |true=>
   refine(if_pos (l1.mpr e)).mpr ((if_pos rfl).mpr (mh ho (mi ho (mi xu ⟨_,_,rfl,rfl,_,_,rfl,fun p hp=>?_⟩))));rw[min2];exact q _ _ (aq.new hp _) (.new rfl)
  |false=>
   refine(if_pos (l1.mpr e)).mpr ((if_neg zar).mpr ((if_pos (l1.mpr e)).mpr (mh ho (mh xu ⟨_,_,rfl,mi ho fun p hp=>?_⟩))));rw[max2];exact q _ _ (aq.new hp _) (.new rfl)
 ·rw[decide_eq_false e] at q;exact(if_neg (fun z=>e (l1.mp z))).mpr ((if_neg zar).mpr ((if_neg (fun z=>e (l1.mp z))).mpr ⟨truth,_,_,_,own,l,r,rfl,⟨_,rfl,ho⟩,⟨_,rfl,hl⟩,⟨_,rfl,xu⟩,q⟩))
theorem qy(T:Tx K mg t):bM P w K mg base fZ 2 t.dH t.ef ["sign", "truth", "own", "left", "right"] (N7 K):=by
 have fI:=iU (P:=P) (w:=w) (base:=base) T;refine T.cR.F.kZ j3 (fun vs H Q E h=>?_) (fun eA A outer s H vs Q E hr h=>?_)
 ·obtain⟨_,_,_,_,_,_,_,_,rfl,_⟩:=h;rfl
 obtain⟨sg,truth,_,_,_,own,l,r,rfl,⟨oa,rfl,ho⟩,⟨la,rfl,hl⟩,⟨ra,rfl,xu⟩,q⟩:=h;have nd:=j3.nd;refine⟨_,[some (.str (S sg)),some (.bl truth),some (.ref oa),some (.ref la),some (.ref ra)],(ao (bB (PW.pt (pw_and (aM cD (pv 0) bG (aS _)) (pw_and1 (gY (pv 1)))))
 (au (aH (bf (aa (bh (jm rfl) rfl T.qx PyProof.Rows.Boot.«max» (aa (av ax (pv 2) ak aj) (aa (bC gh (av ax (pv 3) ak aj) ak) ah dA) aG)) (aa (av ax (pv 2) ak aj) ah aG) aT))))
 aW)
 (ao (bB (aM cD (pv 0) bG (aS _))
 (au (aH (bf (aa (av ax (pv 2) ak aj) (aa (bh (gZ rfl) rfl T.oC PyProof.Rows.Boot.«min» (aa (av ax (pv 2) ak aj) (aa (av ax (pv 3) ak aj) ah aG) aG)) ah aT) aG))))
 aW)
 (au (aH (aA fI (hr.mono (by first|decide|omega)) rfl T.bA.m T.bA.F.kp T.bA.b .nil aN (aa (pv 1) (aa (pv 2) (aa (pv 4) (aa (pv 3) ah ae) ae) ae) ae)))))),rfl,?_⟩
 have l1:(S sg=zac "<")↔sg=[60]:=by rw[show (zac "<":Str)=S [60] from rfl,pU]
 walk_at "rd";by_cases e:sg=[60]
 ·rw[decide_eq_true e] at q;cases truth with
  |true=>
   refine(if_pos (l1.mpr e)).mpr ((if_pos rfl).mpr (mh ho (mh hl ⟨_,_,rfl,rfl,_,_,rfl,mi ho fun p hp=>?_⟩)));rw[max2];exact q _ _ (aq.new hp _) (.new rfl)
  |false=>
   refine(if_pos (l1.mpr e)).mpr ((if_neg zar).mpr ((if_pos (l1.mpr e)).mpr (mh ho (mi ho (mi hl ⟨_,_,rfl,fun p hp=>?_⟩)))));rw[min2];exact q _ _ (aq.new hp _) (.new rfl)
 ·rw[decide_eq_false e] at q;exact(if_neg (fun z=>e (l1.mp z))).mpr ((if_neg zar).mpr ((if_neg (fun z=>e (l1.mp z))).mpr ⟨truth,_,_,_,own,r,l,rfl,⟨_,rfl,ho⟩,⟨_,rfl,xu⟩,⟨_,rfl,hl⟩,q⟩))
theorem A8(T:Tx K mg t){n:Nat}(fX:bM P w K mg base fZ n t.fV t.gb ["e", "named"] (K0 K n)) :
 bM P w K mg base fZ (n+1) t.fV t.gb ["e", "named"] (K0 K (n+1)):=by
 refine T.bD.F.kZ sv (fun vs H Q E h=>?_) (fun eA A outer s H vs Q E hr h=>?_)
 ·obtain⟨_,_,_,_,_,rfl,_⟩:=h;rfl
 obtain⟨v,d,tr,kv,f,rfl,hv,hd,ok,ht,h6,q⟩:=h;have nd:=sv.nd;have hu:=i8 hr;refine⟨_,[some v,some (.ref d),none,none,none,none],(ao (aP (i:=2) nd rfl (zap rfl) (av ax (pv 0) ak aj))
 (ao (bB (aM cD (pv 2) bG (aS _))
 (au (aH (bf (aa (av ax (pv 0) ak aj) (aa (av ax (pv 0) ak aj) ah aG) aG))))
 aW)
 (ao (bB (aM cD (pv 2) bG (aS _))
 (au (aH (dc hu (pv 1) (av ax (pv 0) ak aj) (fun _ _=>rfl))))
 aW)
 (ao (aP (i:=3) nd rfl (zap rfl) (aA fX (hr.mono (by first|decide|omega)) rfl T.bD.m T.bD.F.kp T.bD.b .nil aN (aa (av ax (pv 0) ak aj) (aa (pv 1) ah ae) aG)))
 (ao (aP (i:=4) nd rfl (zap rfl) (aA fX (hr.mono (by first|decide|omega)) rfl T.bD.m T.bD.F.kp T.bD.b .nil aN (aa (av ax (pv 0) ak aj) (aa (pv 1) ah ae) aG)))
 (ao (bB (aM cD (pv 2) bG (aS _))
 (au (aH (bf (aa (bC gh (av ax (pv 3) ak aj) (av ax (pv 4) ak aj)) (aa (bC gh (av ax (pv 3) ak aj) (av ax (pv 4) ak aj)) ah dA) dA))))
 aW)
 (ao (bB (aM cD (pv 2) bG (aS _))
 (au (aH (bf (aa (bC oM (av ax (pv 3) ak aj) (av ax (pv 4) ak aj)) (aa (bC oM (av ax (pv 3) ak aj) (av ax (pv 4) ak aj)) ah dA) dA))))
 aW)
 (ao (aP (i:=5) nd rfl (zap rfl) (bE (aa (bC tJ (av ax (pv 3) ak aj) (av ax (pv 4) ak aj)) (aa (bC tJ (av ax (pv 3) ak aj) (av ax (pv 4) ak aj)) (aa (bC tJ (av ax (pv 3) ak aj) (av ax (pv 4) ak aj)) (aa (bC tJ (av ax (pv 3) ak aj) (av ax (pv 4) ak aj)) ah dA) dA) dA) dA)))
 (au (aH (bf (aa (bh (Fb rfl) rfl T.oC PyProof.Rows.Boot.«min» (aa (pv 5) ah ae)) (aa (bh (Fc rfl) rfl T.qx PyProof.Rows.Boot.«max» (aa (pv 5) ah ae)) ah aT) aT)))))))))))),rfl,?_⟩
 have n1:¬("box":Str) = "number":=by decide +kernel
 cases tr with
 |num m=>
  unfold ky at hv;simp only[Rep.bj,aQ.aO,aQ.bO,Rep.bQ,Rep.bw] at hv;obtain⟨a,xs,rfl,hS,_,_,rfl,rfl,_,_,rfl,rfl,rfl⟩:=hv;walk_at "rd";refine aJ hS rfl ?_;walk_at "rd";rw[if_pos trivial];exact aJ hS rfl (aJ hS rfl fun p hp=>q _ _ (aq.new hp _) (.new rfl))
 |box x=>
  unfold ky at hv;simp only[Rep.bj,aQ.aO,aQ.bO,Rep.bQ,Rep.bw] at hv;obtain⟨a,xs,rfl,hS,_,_,rfl,rfl,_,_,rfl,rfl,rfl⟩:=hv;walk_at "rd";refine aJ hS rfl ?_;walk_at "rd";rw[if_neg n1,if_pos trivial];obtain⟨⟨u,e,hR⟩,_⟩:=ok;exact aJ hS rfl ⟨d,u,rfl,eK.s hd e,q _ _ (aq.refl _) hR⟩
 |bin o l r=>
  unfold ky at hv;simp only[Rep.bj,aQ.aO,aQ.bO,Rep.bQ,Rep.bw] at hv;obtain⟨a,xs,rfl,hS,_,_,rfl,rfl,vl,_,rfl,hl,vr,_,rfl,xu,rfl⟩:=hv;obtain⟨ho,ol,or'⟩:=ok;have n2:¬S o = "number":=by rcases ho with rfl |rfl |rfl<;>decide +kernel
  have n3:¬S o = "box":=by rcases ho with rfl |rfl |rfl<;>decide +kernel
  have e1:(S o = "+")↔o=[43]:=by rw[show ("+":Str)=S [43] from rfl,pU]
  have e2:(S o = "-")↔o=[45]:=by rw[show ("-":Str)=S [45] from rfl,pU]
  walk_at "rd";refine aJ hS rfl ?_;walk_at "rd";rw[if_neg n2,if_neg n3];have wl:=Ml ol;have wr:=Ml or';rw[PG.iz] at ht h6;refine aJ hS rfl ⟨vl,d,l,kv,f,rfl,hl,hd,ol,by lia,by lia,fun lv H1 s1 hL=>?_⟩;refine aJ (s1.br hS) rfl ⟨vr,d,r,kv,f,rfl,xu.mono s1,s1 _ _ hd,or'.mono s1,by lia,by lia,fun rv H2 s2 hR=>?_⟩;replace hL:=hL.mono s2;obtain⟨la,rfl,hL⟩:=hL;obtain⟨ra,rfl,hR⟩:=hR;walk_at "rd";have s3:=s1.trans s2;rw[PG.ff,PG.HC] at q;refine eC (fun c=>?_) (fun c=>?_)
  ·rw[if_pos (e1.mp c)] at q;exact mh hL (mh hR ⟨_,_,rfl,rfl,mi hL (mi hR ⟨_,_,rfl,rfl,fun p hp=>q _ _ (s3.trans (aq.new hp _)) (.new rfl)⟩)⟩)
  rw[if_neg (fun z=>c (e1.mpr z))] at q;refine eC (fun c=>?_) (fun c=>?_)
  ·rw[if_pos (e2.mp c)] at q;exact mh hL (mi hR ⟨_,_,rfl,rfl,mi hL (mh hR ⟨_,_,rfl,rfl,fun p hp=>q _ _ (s3.trans (aq.new hp _)) (.new rfl)⟩)⟩)
  rw[if_neg (fun z=>c (e2.mpr z))] at q;have b1:=ym wl.1 (by lia);have b2:=ym wl.2 (by lia);have b3:=ym wr.1 (by lia);have b4:=ym wr.2 (by lia);refine mh hL (mh hR ⟨_,_,rfl,rfl,⟨b1,b3⟩,mh hL (mi hR ⟨_,_,rfl,rfl,⟨b1,b4⟩,mi hL (mh hR ⟨_,_,rfl,rfl,⟨b2,b3⟩,mi hL (mi hR ⟨_,_,rfl,rfl,⟨b2,b4⟩,fun p hp=>?_⟩)⟩)⟩)⟩);have sp:fU K (upd H2 p (.lst ([(PG.ff f l).1*(PG.ff f r).1,(PG.ff f l).1*(PG.ff f r).2,(PG.ff f l).2*(PG.ff f r).1,(PG.ff f l).2*(PG.ff f r).2].map V.int))) p ([(PG.ff f l).1*(PG.ff f r).1,(PG.ff f l).1*(PG.ff f r).2,(PG.ff f l).2*(PG.ff f r).1,(PG.ff f l).2*(PG.ff f r).2].map V.int):=.of ai;refine⟨p,_,rfl,sp,List.cons_ne_nil _ _,fun m1 VN OA=>⟨p,_,rfl,sp,List.cons_ne_nil _ _,fun m2 VO Bt=>fun p2 BX=>?_⟩⟩;refine q _ _ ((s3.trans (aq.new hp _)).trans (aq.new BX _)) ⟨_,rfl,?_⟩;rw[<- PG.KS VN OA,<- PG.KU VO Bt];exact .of ai
theorem lN(T:Tx K mg t):∀n,bM P w K mg base fZ n t.fV t.gb ["e", "named"] (K0 K n)
 |0=>by
  have no:∀vs H Q E,¬K0 K 0 vs H Q E:=fun vs H Q E h=>by cases h;lia
  exact⟨fun vs H Q E h=>absurd h (no vs H Q E),fun A outer s H args us vs Q E _ _ _ _ h=>absurd h (no vs H Q E)⟩
 |n+1=>A8 T (lN T n)
theorem sD(T:Tx K mg t):bM P w K mg base fZ 1 t.jK t.j4 ["chart", "parts"] (xm K t.aR):=by
 refine T.dO.F.kZ sr (fun vs H Q E h=>?_) (fun eA A outer s H vs Q E hr h=>?_)
 ·obtain⟨_,_,_,_,rfl,_⟩:=h;rfl
 obtain⟨p,a,pr,us,rfl,co,ha,lu,nb,lb,q⟩:=h;have nd:=sr.nd;refine⟨_,[some (.ref p),some (.ref a)],(au (aH (Cg rfl rfl T.mY rfl T.sC (aa (g9 (pv 0) rfl) (aa (pv 1) ah ae) Kt)))),rfl,?_⟩;obtain⟨dx,nl,sd,fa,va,st,wy,uu,ws,h1,h2,h3,_⟩:=co.at_;walk_at "rd";simp only[Yu];walk_at "rd";refine⟨p,_,dx,_,.ref nl,rfl,h1,T.cw,T.eU,rfl,?_⟩;refine⟨nl,a,pr.ay.map fun b=>.inr (S b.name),us,rfl,?_,ha,by rw[zad];exact lu,fun d hd=>?_⟩
 ·rw[za3];exact .of h3
 ·rw[vc,oU _ [] (by rw[zbp,rZ _ _ lu];exact names_nodup nb),zbp];exact q d _ (aq.new hd _) hd ai
theorem sE(T:Tx K mg t):bM P w K mg base fZ 1 t.jL t.j5 ["chart", "named"] (xn K t.aR):=by
 refine T.dP.F.kZ su (fun vs H Q E h=>?_) (fun eA A outer s H vs Q E hr h=>?_)
 ·obtain⟨_,_,_,_,_,rfl,_⟩:=h;rfl
 obtain⟨p,d,pr,kvs,us,rfl,co,hd,lu,hv,lb,q⟩:=h;have nd:=su.nd;have hu:=i8 hr;refine⟨_,[some (.ref p),some (.ref d)],(au (aH (bL cP rfl T.iJ PyProof.Rows.Boot.«tuple» (aa (de (own:=["name"]) (ix:=[1]) rfl (by rfl) (by rfl) (bT (g9 (pv 0) rfl)) (fun _ _ _ _=>(aX (i:=0) (by show List.Nodup (["name", "named"]:List Str);decide +kernel) rfl (zap rfl))) (fun _ _ _ _=>cZ) (fun _ _ _ _=>(dc hu (pv 1) (pv 0) (fun _ _=>rfl)))) ah eZ)))),rfl,?_⟩;obtain⟨dx,nl,sd,fa,va,st,wy,uu,ws,h1,h2,h3,_⟩:=co.at_;walk_at "rd";simp only[fJ];walk_at "rd";have ln:(pr.ay.map fun b=>V.str (S b.name)).length=pr.ay.length:=zad ..;refine⟨p,_,dx,_,.ref nl,rfl,h1,T.cw,T.eU,rfl,nl,rfl,⟨_,.of h3⟩,fun D hD=>?_⟩;refine qV (K:=K) (r:=[some (V.ref d)]) (fun i=>us.getD i .bI) (.of h3) (by rw[ln];lia) hD (fun i x H2 hx s2 R hR=>?_) (fun H2 s2 h2=>⟨D,_,rfl,.inl ⟨.of h2,fun l hl=>?_⟩⟩)
 ·have li:i<pr.ay.length:=by have:=(zah.mp hx).1;rw[ln] at this;exact this
  rw[zal,zaa li] at hx;cases hx;have g:=hv i li;have YW:i<us.length:=by lia
  rw[zaa YW] at g;have e:us.getD i .bI=us[i]:=by rw[zaf,zaa YW];rfl
  rw[e] at hR;walk_at "rd";exact⟨d,us[i],rfl,eK.s (s2 _ _ hd) g,hR⟩
 ·have e:(zaC (pr.ay.map fun b=>V.str (S b.name)).length).map (fun i=>us.getD i .bI)=us:=by
   rw[ln,<- lu];have:=jo (fun v:V=>v) V.bI us;rw[zcG] at this;exact this
  rw[e];exact q l _ (s2.trans (aq.new hl _)) (.of ai)
theorem CP(T:Tx K mg t):bM P w K mg base fZ 1 t.kN t.lI ["chart", "row"] (Ar K t.aR):=by
 refine T.jt.F.kZ vy (fun vs H Q E h=>?_) (fun eA A outer s H vs Q E hr h=>?_)
 ·obtain⟨_,_,_,rfl,_⟩:=h;rfl
 obtain⟨p,pr,row,rfl,co,pw,q⟩:=h;have nd:=vy.nd;have hu:=i8 hr;obtain⟨Jc,vE,vF⟩:=T.yN;refine⟨_,[some (.ref p),some (.int row)],(ao (bB (aM cD (pv 1) (tj rfl vE vF) (aS _))
 (au (aH bG))
 aW)
 (au (aH (av ax (dc hu (g9 (pv 0) rfl) (pv 1) (fun _ _=>rfl)) ak aj)))),rfl,?_⟩
 obtain⟨dx,nl,sd,fa,va,st,wy,uu,ws,h1,h2,h3,h4,h5,h6,h7,h8,h9,_⟩:=co.at_;walk_at "rd";rcases q with ⟨rfl,q⟩ |⟨n0,i,hi,er,q⟩
 ·exact(if_pos rfl).mpr q
 ·refine(if_neg n0).mpr ⟨p,_,dx,_,.ref st,rfl,h1,T.cw,T.cb,rfl,?_⟩;have li:i<uu.length:=by lia
  obtain⟨v,hv,rv⟩:=h9.get (i:=i) (d:=eF (PG.aE pr.body)[i]) (by rw[zal,zaa hi];rfl);have g:=p0 _ _ h7 pw i hi v hv;obtain⟨sa,ys,rfl,hs⟩:=ib _ rv;rw[er] at g;exact⟨st,.ref sa,rfl,.inl ⟨_,.inl row,.inl h8,rfl,g.symm⟩,aJ hs (v:=.str (xk (PG.aE pr.body)[i].wd)) (aC (j:=0) rfl) q⟩
theorem rH(T:Tx K mg t):bM P w K mg base fZ 8 t.dR t.fi ["chart", "row", "truth", "ranges"] (Cn K t.aR):=by
 have pj:=sD (P:=P) (w:=w) (base:=base) T;have pk:=sE (P:=P) (w:=w) (base:=base) T;have fX:=lN (P:=P) (w:=w) (base:=base) T 5;have wm:=vD (P:=P) (w:=w) (base:=base) T;have sT:=rG (P:=P) (w:=w) (base:=base) T;have rJ:=qy (P:=P) (w:=w) (base:=base) T;refine T.c9.F.kZ kL (fun vs H Q E h=>?_) (fun eA A outer s H vs Q E hr h=>?_)
 ·obtain⟨_,_,_,_,_,_,_,_,_,_,rfl,_⟩:=h;rfl
 obtain⟨p,_,pr,i,hi,truth,rs,sg,l,r,rfl,co,pw,nb,gc,⟨ra,us,rfl,Wv,Lx⟩,PY,cp,tl,tr,dl,dr,q⟩:=h;have nd:=kL.nd;have hu:=i8 hr;refine⟨_,[some (.ref p),some (.int (PG.aE pr.body)[i].row),some (.bl truth),some (.ref ra),none,none,none,none,none,none,none],(ao (aP (i:=4) nd rfl (zap rfl) (dc hu (g9 (pv 0) rfl) (pv 1) (fun _ _=>rfl)))
 (ao (aP (i:=5) nd rfl (zap rfl) (av ax (pv 4) ak aj))
 (ao (aP (i:=6) nd rfl (zap rfl) (aA pj (hr.mono (by first|decide|omega)) rfl T.dO.m T.dO.F.kp T.dO.b .nil aN (aa (pv 0) (aa (pv 3) ah ae) ae)))
 (ao (aP (i:=7) nd rfl (zap rfl) (aA fX (hr.mono (by first|decide|omega)) rfl T.bD.m T.bD.F.kp T.bD.b .nil aN (aa (av ax (pv 4) ak aj) (aa (pv 6) ah ae) aG)))
 (ao (aP (i:=8) nd rfl (zap rfl) (aA fX (hr.mono (by first|decide|omega)) rfl T.bD.m T.bD.F.kp T.bD.b .nil aN (aa (av ax (pv 4) ak aj) (aa (pv 6) ah ae) aG)))
 (ao (bB (ua (gY (aA wm (hr.mono (by first|decide|omega)) rfl T.dY.m T.dY.F.kp T.dY.b .nil aN (aa (pv 5) (aa (pv 2) (aa (pv 7) (aa (pv 8) ah ae) ae) ae) ae))))
 (au (aH kT))
 aW)
 (ao (bB (aM cD (av ax (av ax (pv 4) ak aj) ak aj) bG (aS _))
 (ao (aP (i:=9) nd rfl (zap rfl) (av ax (av ax (pv 4) ak aj) ak aj))
 (au (nu hu (pv 6) (pv 9) (aA sT (hr.mono (by first|decide|omega)) rfl T.da.m T.da.F.kp T.da.b .nil aN (aa (pv 5) (aa (pv 2) (aa (dc hu (pv 6) (pv 9) (fun _ _=>rfl)) (aa (pv 7) (aa (pv 8) ah ae) ae) aG) ae) ae)) rfl)))
 aW)
 (ao (bB (aM cD (av ax (av ax (pv 4) ak aj) ak aj) bG (aS _))
 (ao (aP (i:=9) nd rfl (zap rfl) (av ax (av ax (pv 4) ak aj) ak aj))
 (au (nu hu (pv 6) (pv 9) (aA rJ (hr.mono (by first|decide|omega)) rfl T.cR.m T.cR.F.kp T.cR.b .nil aN (aa (pv 5) (aa (pv 2) (aa (dc hu (pv 6) (pv 9) (fun _ _=>rfl)) (aa (pv 7) (aa (pv 8) ah ae) ae) aG) ae) ae)) rfl)))
 aW)
 (ao (aP (i:=10) nd rfl (zap rfl) (aA pk (hr.mono (by first|decide|omega)) rfl T.dP.m T.dP.F.kp T.dP.b .nil aN (aa (pv 0) (aa (pv 6) ah ae) ae)))
 (ao (bB (gY (bh (E9 rfl) rfl T.Ja PyProof.Rows.Boot.«any» (aa (de (own:=["part"]) (ix:=[]) rfl (by rfl) (by rfl) (Ge (pv 10)) (fun _ _ _ _=>(aX (i:=0) (by show List.Nodup (["part"]:List Str);decide +kernel) rfl (zap rfl))) (fun _ _ _ _=>cZ) (fun _ _ _ _=>(gm zU (av (bF (K:=K) rfl) (pv 0) ak aj) (av (bF (K:=K) rfl) (pv 0) ak aj) (aS _)))) ah eZ)))
 (au (aH kT))
 aW)
 (au (aH (pv 10))))))))))))),rfl,?_⟩
 obtain⟨dx,nl,sd,fa,OB,st,wy,uu,ws,h1,h2,h3,h4,h5,h6,h7,h8,h9,_⟩:=co.at_;have li:i<uu.length:=by lia
 obtain⟨v,hv,rv⟩:=h9.get (i:=i) (d:=eF (PG.aE pr.body)[i]) (by rw[zal,zaa hi];rfl);have g:=p0 _ _ h7 pw i hi v hv;obtain⟨ta,w0,vl,vr,ys,rfl,hs,hl,xu⟩:=Ci rv cp;refine aw fun U1 gf=>?_;walk_at "rd";refine⟨p,_,dx,_,.ref st,rfl,h1,T.cw,T.cb,rfl,⟨st,.ref ta,rfl,.inl ⟨_,.inl _,.inl h8,rfl,g.symm⟩,(gf _ _).mpr (aw fun U2 jv=>?_)⟩⟩;clear gf;walk_at "rd";refine aJ hs (v:=.str (S sg)) (aC (j:=2) rfl) ((jv _ _).mpr (aw fun U3 jT=>?_));clear jv;have wt:us.length=pr.ay.length:=by rw[Lx.1];exact PY
 walk_at "rd";refine⟨p,ra,pr,us,rfl,co,Wv,wt,nb,gc,fun d H2 s2 hd y2=>(jT _ _).mpr (aw fun U4 lO=>?_)⟩;clear jT;have nm:=(tS.of Lx wt nb).mono s2;walk_at "rd";refine aJ (s2.br hs) (v:=vl) (aC (j:=3) rfl) ⟨vl,d,l,_,_,rfl,hl.mono s2,y2,nm.RE nb tl,by lia,by lia,fun lv H3 s3 hL=>(lO _ _).mpr (aw fun U5 wu=>?_)⟩;clear lO;walk_at "rd";have px:=s2.trans s3;refine aJ (px.br hs) (v:=vr) (aC (j:=4) rfl) ⟨vr,d,r,_,_,rfl,xu.mono px,s3 _ _ y2,(nm.mono s3).RE nb tr,by lia,by lia,fun Mm H4 s4 hR=>(wu _ _).mpr (aw fun U6 Jd=>?_)⟩;clear wu;walk_at "rd";refine⟨sg,truth,_,_,_,_,rfl,hL.mono s4,hR,?_⟩;have OC:=px.trans s4;have MD:∀ {H':Hp} (o:HO),aq H H'->aq H (upd H' d o):=fun o s=>((bc.of s:bc d H _).put o).same hd;refine⟨_,rfl,eC (fun e=>?_) (fun e=>?_)⟩
 ·refine q _ _ OC ?_;unfold PG.cn;rw[if_neg (fun z=>by rw[z] at e;cases e)];rfl
 have e:PG.xq (decide (sg=[60])) truth (PG.ff (PG.cV pr.ay rs) l) (PG.ff (PG.cV pr.ay rs) r)=true:=by simpa using e
 unfold PG.cn at q;rw[if_pos e] at q;have pl:=xt (hl.mono OC) tl.Mo;have pR:=xt (xu.mono OC) tr.Mo;generalize PG.ff (PG.cV pr.ay rs) l=lr at *;generalize PG.ff (PG.cV pr.ay rs) r=rr at *;have OD:(dB pr.ay us).length<=10:=by
  unfold dB;rw[zdD];lia
 have line:zdR=2 ^ 24:=rfl;have YX:∀x,l=.box x->x∈pr.ay.map (·.name):=fun x z=>by rw[z] at tl;exact tl.1
 have inR:∀x,r=.box x->x∈pr.ay.map (·.name):=fun x z=>by rw[z] at tr;exact tr.1
 refine(Jd _ _).mpr (aw fun U7 RY=>?_);clear Jd;have y4:H4 d=some (.dK (dB pr.ay us)):=s4 _ _ (s3 _ _ y2);have next:∀(H5:Hp) (Je:List (Key×V)) (RZ:List PG.Rg) (nv:Option V),aq H H5->bc d H4 H5->H5 d=some (.dK Je)->Je.length<=11->tS K H5 pr.ay Je RZ->cm K H5 lv lr->cm K H5 Mm rr->(∀v H',aq H H'->vf K H' v (PG.qc (PG.RF pr.ay RZ (decide (sg=[60])) truth r lr rr))->Q v H')->
  U7 [some (V.ref p),some (V.int (PG.aE pr.body)[i].row),some (V.bl truth),some (V.ref ra),some (V.ref ta),some (V.str (S sg)),some (V.ref d),some lv,some Mm,nv,none] H5:=by
  intro H5 Je RZ nv s5 u5 y5 k5 n5 l5 r5 q5;refine(RY _ _).mpr (aw fun U8 R0=>?_);clear RY;walk_at "rd";obtain⟨a,TZ,w1,YY,rfl,hS,Jf,Ww⟩:=pR;have YZ:cF K H5 a (.str TZ::w1::YY):=hS.dk y4 u5;have Ed:cF K H5 ta _:=s5.br hs;have last:∀(H6:Hp) (Ly:List (Key×V)) (Ee:List PG.Rg) (nv:Option V),aq H H6->H6 d=some (.dK Ly)->tS K H6 pr.ay Ly Ee->(∀v H',aq H H'->vf K H' v (PG.qc Ee)->Q v H')->
   U8 [some (V.ref p),some (V.int (PG.aE pr.body)[i].row),some (V.bl truth),some (V.ref ra),some (V.ref ta),some (V.str (S sg)),some (V.ref d),some lv,some Mm,nv,none] H6:=by
   intro H6 Ly Ee nv6 s6 y6 n6 q6;refine(R0 _ _).mpr (aw fun U9 R3=>?_);clear R0;walk_at "rd";obtain⟨ws,lw,look,Wx⟩:=n6.list;refine⟨p,d,pr,Ly,ws,rfl,co.mono s6,y6,lw,look,gc,fun na H7 s7 sq=>(R3 _ _).mpr ?_⟩;clear R3;walk_at "rd";simp only[fJ,QF];walk_at "rd";have Wy:=Wx.mono s7;have Wz:ws.length=Ee.length:=Wy.1;refine⟨⟨_,sq⟩,fun D hD=>?_⟩;refine EY (K:=K) (r:=[]) (fun _=>true) (fun j=>.bl (decide ((Ee.getD j (0,0)).1>(Ee.getD j (0,0)).2))) sq (by lia) hD (fun j x hx H8 s8 R hR=>?_) (fun j x hx _ H8 s8 R hR=>?_) (fun H8 s8 h8=>?_)
   ·exact hR _ (aq.refl _)
   ·obtain⟨lj,ex⟩:=zah.mp hx;obtain⟨r2,er,PV⟩:=(Wy.mono s8).2 j lj;rw[ex] at PV;obtain⟨xa,rfl,Y0⟩:=PV;have hR:=hR _ (aq.refl _);rw[zaf,er] at hR;walk_at "rd";exact mh Y0 (mi Y0 ⟨_,_,rfl,rfl,hR⟩)
   ·have e8:((zaC ws.length).filter fun _=>true).map (fun j=>V.bl (decide ((Ee.getD j (0,0)).1>(Ee.getD j (0,0)).2)))=(Ee.map fun q=>decide (q.1>q.2)).map V.bl:=by
     rw[show (zaC ws.length).filter (fun _=>true)=zaC ws.length from List.filter_eq_self.mpr fun _ _=>rfl,Wz,za3];exact jo (fun q:PG.Rg=>V.bl (decide (q.1>q.2))) (0,0) Ee
    rw[e8] at h8;unfold PG.qc at q6;refine⟨D,_,rfl,.of h8,eC (fun e=>?_) (fun e=>?_)⟩
    ·rw[if_pos e] at q6;exact q6 _ _ (s6.trans (s7.trans s8)) rfl
    ·rw[if_neg e] at q6;exact q6 _ _ (s6.trans (s7.trans s8)) ⟨na,ws,rfl,s8.br sq,Wy.mono s8⟩
  refine aJ Ed (v:=.ref a) (aC (j:=4) rfl) (aJ YZ (v:=.str TZ) (aC (j:=0) rfl) ⟨rfl,eC (fun e2=>?_) (fun e2=>?_)⟩)
  ·obtain⟨x,rfl⟩:=Jf.mp (V.str.inj e2);obtain rfl:=Ww x rfl;obtain⟨v0,e0,WA⟩:=n5.at_ nb (inR x rfl);refine aJ Ed (v:=.ref a) (aC (j:=4) rfl) (aJ YZ (v:=.str (S x)) (aC (j:=1) rfl) ⟨d,v0,rfl,eK.s y5 e0,?_⟩);refine⟨sg,truth,_,_,_,_,_,_,rfl,WA,l5,r5,fun v6 H6 s6 h6=>⟨d,_,rfl,sO.k (k:=.inr (S x)) (s6 _ _ y5) (by lia),?_⟩⟩;have u6:bc d H6 (upd H6 d (.dK (putK Je (.inr (S x)) v6))):=(bc.of (aq.refl _)).put _;exact last _ _ _ _ (MD _ (s5.trans s6)) ai (((n5.mono s6).put nb (inR x rfl) h6).dk (s6 _ _ y5) u6) q5
  ·have el:PG.RF pr.ay RZ (decide (sg=[60])) truth r lr rr=RZ:=by
    cases r with
    |box x=>exact absurd (congrArg V.str (Jf.mpr ⟨x,rfl⟩)) e2
    |num _=>rfl
    |bin _ _ _=>rfl
   rw[el] at q5;exact last _ _ _ _ s5 y5 n5 q5
 obtain⟨a,TZ,w1,YY,rfl,hS,Jf,Ww⟩:=pl;have WB:=nm.mono (s3.trans s4);have WC:=hL.mono s4;walk_at "rd";refine aJ (OC.br hs) (v:=.ref a) (aC (j:=3) rfl) (aJ hS (v:=.str TZ) (aC (j:=0) rfl) ⟨rfl,eC (fun e2=>?_) (fun e2=>?_)⟩)
 ·obtain⟨x,rfl⟩:=Jf.mp (V.str.inj e2);obtain rfl:=Ww x rfl;obtain⟨v0,e0,WA⟩:=WB.at_ nb (YX x rfl);refine aJ (OC.br hs) (v:=.ref a) (aC (j:=3) rfl) (aJ hS (v:=.str (S x)) (aC (j:=1) rfl) ⟨d,v0,rfl,eK.s y4 e0,?_⟩);refine⟨sg,truth,_,_,_,_,_,_,rfl,WA,WC,hR,fun v5 H5 s5 h5=>⟨d,_,rfl,sO.k (k:=.inr (S x)) (s5 _ _ y4) (by lia),?_⟩⟩;have u5:bc d H5 (upd H5 d (.dK (putK (dB pr.ay us) (.inr (S x)) v5))):=(bc.of (aq.refl _)).put _;exact next _ _ _ _ (MD _ (OC.trans s5)) ((bc.of s5:bc d H4 H5).put _) ai (by have:=jV (dB pr.ay us) (.inr (S x)) v5;lia) (((WB.mono s5).put nb (YX x rfl) h5).dk (s5 _ _ y4) u5) ((WC.mono s5).dk (s5 _ _ y4) u5) ((hR.mono s5).dk (s5 _ _ y4) u5) q
 ·have el:PG.Mn pr.ay rs (decide (sg=[60])) truth l lr rr=rs:=by
   cases l with
   |box x=>exact absurd (congrArg V.str (Jf.mpr ⟨x,rfl⟩)) e2
   |num _=>rfl
   |bin _ _ _=>rfl
  rw[el] at q;exact next _ _ _ _ OC (.of (aq.refl _)) y4 (by lia) WB WC hR q
theorem A9{K:zab}{ta:TA}{g:TG}{tb:TS}{D:Ends}{σ:St}{H:Hp} (h:∀U:zdJ->zdJ->Hp->Prop,(∀a b H1,(∃W:Nat->Nat->St->Hp->Prop,(∃m,W 0 m σ H1)/\∀i m σ H,W i m σ H->
 ((JM K a b).stop i H/\D.nx σ H)\/((JM K a b).go i H/\∃N:St->Hp->Prop,(∀σ' H',N σ' H'->∃m',m'<m/\W (i+1) m' σ' H')/\∀x H',(JM K a b).zS i H x H'->g x σ H' fun σ2 H2=>tb {D with nx:=N,ct:=N,bk:=D.nx} σ2 H2))->U a b H1)->
 ta σ H fun vs H1=>∃a b,vs=[.ref a,.ref b]/\(∃xs,cF K H1 a xs)/\(∃ys,cF K H1 b ys)/\U a b H1):Ex (Ob K ta) g tb D σ H:=h _ fun _ _ _ x=>x
theorem qA(T:Tx K mg t):bM P w K mg base fZ 9 t.dG t.d9 ["chart", "row", "ranges"] (HH K t.aR):=by
 have sU:=rH (P:=P) (w:=w) (base:=base) T;refine T.cQ.F.kZ j0 (fun vs H Q E h=>?_) (fun eA A outer s H vs Q E hr h=>?_)
 ·obtain⟨_,_,_,_,_,_,_,_,_,_,rfl,_⟩:=h;rfl
 obtain⟨p,rv,pr,i,hi,hf,rs,sg,l,r,rfl,co,ok,Lx,PY,cp,tl,tr,dl,dr,q⟩:=h;have nd:=j0.nd;have hu:=i8 hr;refine⟨_,[some (.ref p),some (.int (PG.aE pr.body)[i].row),some rv,none,none,none,none],(ao (aP (i:=3) nd rfl (zap rfl) (bE ah))
 (ao (eI PassesOwn.never rfl (vd rfl T.sC (aa (dc hu (g9 (pv 0) rfl) (pv 1) (fun _ _=>rfl)) (aa (bf (hV (vs:=[.bl true,.bl false]) (by kernel_rfl))) ah iX) aG)) (BC rfl (bH (aX (i:=4) nd rfl (zap rfl)) (bH (aX (i:=5) nd rfl (zap rfl)) gg)))
 (ao (aP (i:=6) nd rfl (zap rfl) (aA sU (hr.mono (by first|decide|omega)) rfl T.c9.m T.c9.F.kp T.c9.b .nil aN (aa (pv 0) (aa (pv 1) (aa (pv 5) (aa (pv 2) ah ae) ae) ae) ae)))
 (au (bB (aM Dk (pv 6) kT (aS _))
 (au (dF (kB zaA zaO zaP c6 (pv 3) (aa (bf (aa (pv 4) (aa (pv 6) ah ae) ae)) ah iX))))
 aW))))
 (au (aH (pv 3))))),rfl,?_⟩
 refine aw fun U1 gf=>?_;walk_at "rd";intro L hL;have sL:=aq.new hL (.lst []);refine(gf _ _).mpr (aw fun U2 jv=>?_);clear gf;refine A9 fun U hU=>?_;walk_at "rd";have co1:=co.mono sL;obtain⟨dx,fs,wy,wq,g1,g2,g3,g4⟩:=co1.way ok i hi hf;refine⟨p,_,dx,fs,.ref wy,rfl,g1,T.cw,T.fQ,g2,wy,.ref wq,rfl,g3,fun z hz=>?_⟩;have sz:=aq.new hz (.tup [V.bl true,V.bl false]);have s1:=sL.trans sz;have yz:(upd (upd H L (.lst [])) z (.tup [V.bl true,V.bl false])) z=some (.tup [V.bl true,V.bl false]):=ai;have yL:=sz _ _ (ai:(upd H L (.lst [])) L=some (.lst []));have g5:=sz.br g4;clear g1 g3 g4;generalize upd (upd H L (HO.lst [])) z (HO.tup [V.bl true,V.bl false])=H1 at *;generalize (PG.aK pr.body 0)[i].2.2=dI at *;have Y1:cF K H1 z [V.bl true,V.bl false]:=.of yz;refine⟨wq,z,rfl,⟨_,g5⟩,⟨_,Y1⟩,hU _ _ _ (DG (K:=K) (a:=wq) (b:=z) (xs:=dI.map V.int) (ys:=[.bl true,.bl false]) (fun j σ H2=>(∃x4 x5 x6,σ=[some (V.ref p),some (V.int (PG.aE pr.body)[i].row),some rv,some (V.ref L),x4,x5,x6])/\aq H H2/\bc L H1 H2/\∃us,H2 L=some (.lst us)/\us.length<=j/\c5 K H2 us (PG.dZ (PG.cn pr.ay rs sg l r) ((dI.zip [true,false]).take j))) ⟨⟨_,_,_,rfl⟩,s1,.of (aq.refl _),[],yL,zaj _,.nil⟩ (fun j σ H2 _ hv=>⟨g5.gB yL hv.2.2.1,Y1.gB yL hv.2.2.1⟩) ?_ ?_)⟩
 ·rintro j x y σ H2 tp hx hy ⟨⟨x4,x5,x6,rfl⟩,s2,u2,us,yU,lu,wo⟩ ME
  have lj:j<2:=(zah.mp hy).1;obtain⟨wv,ew,rfl⟩:∃wv,dI[j]?=some wv/\x=.int wv:=by
   rw[zal] at hx;obtain⟨wv,ew,e⟩:=zaD.mp hx;exact⟨wv,ew,e.symm⟩
  obtain⟨b,eb,rfl⟩:∃b,[true,false][j]?=some b/\y=.bl b:=by
   rcases(by lia:j=0\/j=1) with rfl |rfl
   ·exact⟨true,rfl,(zaH.inj hy).symm⟩
   ·exact⟨false,rfl,(zaH.inj hy).symm⟩
  have s3:=s2.Vq ME (.tup [V.int wv,V.bl b]);have u3:=u2.new ME (.tup [V.int wv,V.bl b]);have n3:=aq.new ME (.tup [V.int wv,V.bl b]);have y3:(upd H2 tp (.tup [V.int wv,V.bl b])) tp=some (.tup [V.int wv,V.bl b]):=ai;replace yU:=n3 _ _ yU;replace wo:=wo.map fun v w h=>h.mono n3;clear n3;generalize upd H2 tp (.tup [V.int wv,V.bl b])=H3 at *;have tk:(dI.zip [true,false]).take (j+1)=(dI.zip [true,false]).take j++[(wv,b)]:=by
   rw[List.take_succ,zbO (z:=(wv,b)) |>.mpr ⟨ew,eb⟩];rfl
  refine⟨tp,_,rfl,.of y3,rfl,_,_,rfl,_,_,rfl,rfl,?_⟩;simp only[zbA];walk_at "rd";refine⟨p,rv,pr,i,hi,b,rs,sg,l,r,rfl,co.mono s3,ok.pw,ok.nb,ok.gc,Lx.mono s3,PY,cp,tl,tr,dl,dr,fun v H4 s4 ho=>?_⟩;have Y2:=s3.trans s4;have y4:=s4 _ _ yU;replace wo:=wo.map fun v w h=>h.mono s4;rw[tk,PG.Az];have line:zdR=2 ^ 24:=rfl;cases hb:PG.cn pr.ay rs sg l r b with
  |none=>
   rw[hb] at ho;cases (show v=.bI from ho);refine(if_pos rfl).mpr ⟨⟨_,_,_,rfl⟩,Y2,u3.trans (.of s4),us,y4,by lia,?_⟩;rw[Option.map_none,Option.toList_none,zba];exact wo
  |some oZ=>
   rw[hb] at ho;obtain⟨na,ws,rfl,h1,h2⟩:=ho;refine(if_neg (by intro z;cases z)).mpr ⟨.inl ⟨rfl,_,.of y4⟩,fun p1 Bx=>?_⟩;have n5:=aq.new Bx (.tup [V.int wv,V.ref na]);have y5:=n5 _ _ y4;have wy5:jS K (upd H4 p1 (.tup [V.int wv,V.ref na])) (.ref p1) (wv,oZ):=⟨p1,_,rfl,.of ai,na,ws,rfl,n5.br h1,h2.mono n5⟩
   have wo5:=wo.map fun v w h=>h.mono n5;have s5:=Y2.trans n5;have u5:=(u3.trans (.of s4)).trans (.of n5:bc L H4 _);generalize upd H4 p1 (.tup [V.int wv,V.ref na])=H5 at *;refine⟨L,us,_,rfl,rfl,y5,by lia,⟨_,_,_,rfl⟩,((bc.of s5:bc L H H5).put _).same hL,u5.put _,_,ai,by rw[zau];exact Nat.add_le_add_right lu 1,?_⟩;have uu:bc L H5 (upd H5 L (.lst (us++[V.ref p1]))):=(bc.refl L H5).put _;exact(wo5.snoc wy5).map fun v w h=>h.gB y5 uu
 ·rintro σ H2 ⟨⟨x4,x5,x6,rfl⟩,s2,u2,us,yU,lu,wo⟩
  refine(jv _ _).mpr ?_;walk_at "rd";refine q _ us _ s2 hL yU ?_;rw[zbs (by rw[zbW,zad];exact zaj _)] at wo;exact wo
theorem Ba{ss:List PG.bo}{vs:List V}(l:vs.length=ss.length):(zaC ss.length).map (fun i=>((Sum.inl (ss.getD i (.stop 0)).row:Key),vs.getD i .bI))=ja ss vs:=by
 apply zcr
 ·simp[ja,l]
 ·intro i h1 h2;simp at h1;simp[ja,h1,l]
theorem yP{fl:List PG.d7}{vs:List V}(l:vs.length=fl.length):(zaC fl.length).map (fun i=>((Sum.inl (fl.getD i (0,.stop,[])).1:Key),vs.getD i .bI))=zbf (fun r v=>(Sum.inl r.1,v)) fl vs:=by
 apply zcr
 ·simp[l]
 ·intro i h1 h2;simp at h1;simp[h1,l]
theorem Bb{fl:List PG.d7}{vs:List V}(l:vs.length=fl.length):(zbf (fun r v=>((Sum.inl r.1:Key),v)) fl vs).map (·.1)=fl.map fun r=>(Sum.inl r.1:Key):=by
 apply zcr
 ·simp[l]
 ·intro i h1 h2;simp
theorem Ef{K:zab}{H:Hp}:∀ {fl:List PG.d7} {us:List V},aQ K H (fl.map hZ) us->∃ws:List V,ws.length=fl.length/\∀i (hi:i<fl.length),∃a q,us[i]?=some (.ref a)/\ws[i]?=some (.ref q)/\cF K H a [.int fl[i].1,.str (xk fl[i].2.1),.ref q]/\cF K H q (fl[i].2.2.map V.int)
 |[],us,_=>⟨[],rfl,fun i hi=>by simp at hi⟩
 |r::fl,us,h=>by
  have h0:=h;rw[zaq,aQ.aO] at h;obtain⟨v,tl,rfl,h1,h2⟩:=h;obtain⟨ws,l,hw⟩:=Ef h2;obtain⟨a,q,e,s1,s2⟩:=Hd h0 (i:=0) (y:=v) rfl (by simp);refine⟨.ref q::ws,by simp[l],fun i hi=>?_⟩;cases i with
  |zero=>exact⟨a,q,by rw[e];rfl,rfl,s1,s2⟩
  |succ i=>
   obtain⟨a',q',e1,e2,e3,e4⟩:=hw i (by simpa using hi);exact⟨a',q',by simpa using e1,by simpa using e2,by simpa using e3,by simpa using e4⟩
theorem CQ{b:List PG.bo}(pw:(PG.aE b).Pairwise fun a b=>a.row<b.row):((PG.aK b 0).map fun r=>(Sum.inl r.1:Key)).Nodup:=by
 have e:(PG.aK b 0).map (fun r=>(Sum.inl r.1:Key))=(PG.aE b).map fun s=>(Sum.inl s.row:Key):=by
  have h:((PG.aK b 0).map fun r=>(r.1,r.2.1))=(PG.aE b).map fun x=>(x.row,x.wd):=by rw[PG.dU,PG.fe]
  have h2:=congrArg (List.map fun r:Int×PG.Wd=>(Sum.inl r.1:Key)) h;rw[za3,za3] at h2;exact h2
 rw[e];exact uX pw
theorem m5{K:zab}{H:Hp}{B:zdJ}{bs:List PG.cE}(r:Rep K H (.lst (bs.map jz)) (.ref B)):∃xs,fU K H B xs/\xs.length=bs.length/\∀i x,xs[i]?=some x->∃a,x=.ref a/\cF K H a [.str (S (bs.getD i ⟨[],0,0⟩).name),.int (bs.getD i ⟨[],0,0⟩).size,.int (bs.getD i ⟨[],0,0⟩).first]:=by
 rw[Rep.bq] at r;obtain⟨_,xs,e,q,rs⟩:=r;cases e;have lx:xs.length=bs.length:=by rw[rs.length,zad]
 refine⟨xs,q,lx,fun i x hx=>?_⟩;have li:i<bs.length:=by have:=(zah.mp hx).1;lia
 obtain⟨v,hv,rv⟩:=rs.get (i:=i) (d:=jz bs[i]) (by rw[zal,zaa li];rfl);rw[hx] at hv;cases hv;have eg:bs.getD i ⟨[],0,0⟩=bs[i]:=by rw[zaf,zaa li];rfl
 rw[eg];simp only[jz,Rep.bj,aQ.aO,aQ.bO,Rep.bQ,Rep.bw] at rv;obtain⟨a,ys,rfl,hS,_,_,rfl,rfl,_,_,rfl,rfl,_,_,rfl,rfl,rfl⟩:=rv;exact⟨a,rfl,hS⟩
theorem jN{kvs:List (Key×V)}(h:(kvs.map (·.1)).Nodup):hJ [] kvs=kvs:=by
 have:=oU kvs [] (by simpa using h);simpa using this
theorem kj(T:Tx K mg t)(eW:bM P w K mg base fZ 1 t.dJ t.dN ["body", "behind"] (pX K))(i7:bM P w K mg base fZ 7 t.cg t.cy ["body"] (ny K 5))(OE:bM P w K mg base fZ 8 t.rC t.qw ["program"] (G0 K)) :
 bM P w K mg base fZ 9 t.cL t.kh ["self", "program"] (DC K t.aR):=by
 refine T.jl.kZ oB (fun vs H Q E h=>?_) (fun eA A outer s H vs Q E hr h=>?_)
 ·obtain⟨_,_,_,_,rfl,_⟩:=h;rfl
 obtain⟨p,dx,v,pr,rfl,hp,MF,rp,hd,hf,pw,nb,lb,q⟩:=h;have nd:=oB.nd;obtain⟨Jc,vE,vF⟩:=T.yN;refine⟨_,[some (.ref p),some v,none,none],(ao (aP (i:=2) nd rfl (zap rfl) (av ax (pv 1) ak aj))
 (ao (aP (i:=3) nd rfl (zap rfl) (av ax (pv 1) ak aj))
 (ao (um (pv 0) (de (own:=["box"]) (ix:=[]) rfl (by rfl) (by rfl) (bT (pv 2)) (fun _ _ _ _=>(aX (i:=0) (by show List.Nodup (["box"]:List Str);decide +kernel) rfl (zap rfl))) (fun _ _ _ _=>cZ) (fun _ _ _ _=>(av (bF (K:=K) rfl) (pv 0) ak aj))) rfl)
 (ao (um (pv 0) (bL (jB rfl) rfl T.mY PyProof.Rows.Boot.«dict» (aa (de (own:=["box"]) (ix:=[]) rfl (by rfl) (by rfl) (bT (pv 2)) (fun _ _ _ _=>(aX (i:=0) (by show List.Nodup (["box"]:List Str);decide +kernel) rfl (zap rfl))) (fun _ _ _ _=>cZ) (fun _ _ _ _=>(bf (aa (av (bF (K:=K) rfl) (pv 0) ak aj) (aa (av (bF (K:=K) rfl) (pv 0) ak aj) ah aG) aG)))) ah eZ)) rfl)
 (ao (um (pv 0) (bf (aa (aA eW (hr.mono (by first|decide|omega)) rfl T.bt.m T.bt.F.kp T.bt.b .nil aN (aa (pv 3) (aa (tj rfl vE vF) ah ae) ae)) (aa (bL cP rfl T.iJ PyProof.Rows.Boot.«tuple» (aa (de (own:=["box"]) (ix:=[]) rfl (by rfl) (by rfl) (bT (pv 2)) (fun _ _ _ _=>(aX (i:=0) (by show List.Nodup (["box"]:List Str);decide +kernel) rfl (zap rfl))) (fun _ _ _ _=>cZ) (fun _ _ _ _=>(av (bF (K:=K) rfl) (pv 0) ak aj))) ah eZ)) ah aT) aT)) rfl)
 (ao (um (pv 0) (bL (jB rfl) rfl T.mY PyProof.Rows.Boot.«dict» (aa (de (own:=["statement"]) (ix:=[]) rfl (by rfl) (by rfl) (bT (aA i7 (hr.mono (by first|decide|omega)) rfl T.bR.m T.bR.F.kp T.bR.b .nil aN (aa (pv 3) ah ae))) (fun _ _ _ _=>(aX (i:=0) (by show List.Nodup (["statement"]:List Str);decide +kernel) rfl (zap rfl))) (fun _ _ _ _=>cZ) (fun _ _ _ _=>(bf (aa (av (bF (K:=K) rfl) (pv 0) ak aj) (aa (pv 0) ah ae) aG)))) ah eZ)) rfl)
 (au (um (pv 0) (bL (jB rfl) rfl T.mY PyProof.Rows.Boot.«dict» (aa (de (own:=["told"]) (ix:=[]) rfl (by rfl) (by rfl) (bT (aA OE (hr.mono (by first|decide|omega)) rfl T.rF.m T.rF.F.kp T.rF.b .nil aN (aa (pv 1) ah ae))) (fun _ _ _ _=>(aX (i:=0) (by show List.Nodup (["told"]:List Str);decide +kernel) rfl (zap rfl))) (fun _ _ _ _=>cZ) (fun _ _ _ _=>(bf (aa (av (bF (K:=K) rfl) (pv 0) ak aj) (aa (av (bF (K:=K) rfl) (pv 0) ak aj) ah aG) aG)))) ah eZ)) rfl)))))))),rfl,?_⟩
 have line:zdR=2 ^ 24:=rfl;have WD:=rp;unfold hX at WD;rw[Rep.bj] at WD;obtain⟨pa,Y3,rfl,MG,tY⟩:=WD;rw[aQ.aO] at tY;obtain⟨v1,t1,rfl,JP,tY⟩:=tY;rw[aQ.aO] at tY;obtain⟨v2,t2,rfl,OF,tY⟩:=tY;obtain⟨bb,_,rfl,_⟩:=Rep.bq.mp OF;obtain⟨bx,_,rfl,_⟩:=Rep.bq.mp JP;refine aw fun U1 gf=>?_;walk_at "rd";refine aJ MG (v:=.ref bx) (aC (j:=0) rfl) ((gf _ _).mpr (aw fun U2 jv=>?_));clear gf;walk_at "rd";refine aJ MG (v:=.ref bb) (aC (j:=1) rfl) ((jv _ _).mpr (aw fun U3 jT=>?_));clear jv;walk_at "rd";simp only[uk,fJ];walk_at "rd";obtain⟨xs1,Y4,lx1,g1⟩:=m5 JP;refine⟨⟨_,Y4⟩,fun D1 MH=>qV (K:=K) (r:=[]) (fun i=>.str (S (pr.ay.getD i ⟨[],0,0⟩).name)) Y4 (by lia) MH (fun i x H2 hx s2 R hR=>?_) (fun H2 s2 h2=>⟨p,_,dx,[],rfl,s2 _ _ hp,T.cw,T.eU,by decide,(jT _ _).mpr (aw fun U4 lO=>?_)⟩)⟩
 ·obtain⟨a,rfl,ha⟩:=g1 i x hx;walk_at "rd";exact aJ (s2.br ha) (v:=.str (S (pr.ay.getD i ⟨[],0,0⟩).name)) (aC (j:=0) rfl) hR
 clear jT;rw[lx1,jo (fun b:PG.cE=>V.str (S b.name))] at h2;have BX:=s2 _ _ hp;have n1:D1≠p:=(aF hp MH).symm;have u3:a0 (·=p) H (upd H2 p (.ins t.aR dx [("names",.ref D1)])):=(a0.of s2).trans (a0.refl.put (O:=(·=p)) rfl _);have xD:(upd H2 p (.ins t.aR dx [("names",.ref D1)])) p=some (.ins t.aR dx [("names",.ref D1)]):=ai;have d1:(upd H2 p (.ins t.aR dx [("names",.ref D1)])) D1=some (.lst (pr.ay.map fun b=>.str (S b.name))):=by rw[aD n1];exact h2
 rw[show j8 (zac "names") (V.ref D1) []=[(zac "names",V.ref D1)] from rfl];generalize upd H2 p (.ins t.aR dx [("names",.ref D1)])=H3 at *;walk_at "rd";simp only[uk,fJ];walk_at "rd";have pr3:=nA hp u3 _ _ JP;obtain⟨xs3,Y5,lx3,g3⟩:=m5 pr3;refine⟨⟨_,Y5⟩,fun D2 kS=>oW (K:=K) (r:=[]) (fun i=>(.inr (S (pr.ay.getD i ⟨[],0,0⟩).name),.int (pr.ay.getD i ⟨[],0,0⟩).size)) Y5 (by lia) kS (fun i x H2 hx s2 R hR=>?_) (fun ps H4 s4 h4 E5 ep=>⟨D2,ps,rfl,.of h4,fun q hq=>.of (E5 q hq),?_,fun D3 vG=>⟨p,_,dx,_,rfl,aq.new vG _ _ _ (s4 _ _ xD),T.cw,T.eV,by simp,(lO _ _).mpr (aw fun U5 wu=>?_)⟩⟩)⟩
 ·obtain⟨a,rfl,ha⟩:=g3 i x hx;walk_at "rd";exact aJ (s2.br ha) (v:=.str (S (pr.ay.getD i ⟨[],0,0⟩).name)) (aC (j:=0) rfl) (aJ (s2.br ha) (v:=.int (pr.ay.getD i ⟨[],0,0⟩).size) (aC (j:=1) rfl) hR)
 ·have:=congrArg zaR ep;simp only[zad,zbE] at this;lia
 clear lO;have ek:ps.map (fun q=>(q.2.1,q.2.2))=pr.ay.map fun b=>(Sum.inr (S b.name),V.int b.size):=by
  rw[show (fun q:zdJ×Key×V=>(q.2.1,q.2.2))=(·.2) from rfl,ep,lx3,jo (fun b:PG.cE=>((Sum.inr (S b.name):Key),V.int b.size))]
 have nk:((pr.ay.map fun b=>((Sum.inr (S b.name):Key),V.int b.size)).map (·.1)).Nodup:=by
  rw[za3];refine zaL.mpr ((zaL.mp nb).imp fun {a b} NX e=>NX ?_);exact pU.mp (Sum.inr.inj e)
 rw[ek,jN nk,show j8 (zac "sizes") (V.ref D3) [(zac "names",V.ref D1)]=[(zac "names",V.ref D1),(zac "sizes",V.ref D3)] from rfl];have Y6:=s4.trans (aq.new vG (.dK (pr.ay.map fun b=>(Sum.inr (S b.name),V.int b.size))));have d3:(upd H4 D3 (.dK (pr.ay.map fun b=>(Sum.inr (S b.name),V.int b.size)))) D3=some (.dK (pr.ay.map fun b=>(Sum.inr (S b.name),V.int b.size))):=ai;generalize upd H4 D3 (.dK (pr.ay.map fun b=>(Sum.inr (S b.name),V.int b.size)))=H5 at *;have n3:D3≠p:=fY d3 (Y6 _ _ xD) (by intro z;cases z);have u6:a0 (·=p) H3 (upd H5 p (.ins t.aR dx [(zac "names",V.ref D1),(zac "sizes",V.ref D3)])):=(a0.of Y6).trans (a0.refl.put (O:=(·=p)) rfl _);have CS:(upd H5 p (.ins t.aR dx [(zac "names",V.ref D1),(zac "sizes",V.ref D3)])) p=some (.ins t.aR dx [(zac "names",V.ref D1),(zac "sizes",V.ref D3)]):=ai;have d3:(upd H5 p (.ins t.aR dx [(zac "names",V.ref D1),(zac "sizes",V.ref D3)])) D3=some (.dK (pr.ay.map fun b=>(Sum.inr (S b.name),V.int b.size))):=by rw[aD n3];exact d3
 generalize upd H5 p (.ins t.aR dx [(zac "names",V.ref D1),(zac "sizes",V.ref D3)])=H6 at *;have d1:=u6 _ _ n1 d1;have u6:=u3.trans u6;have pr6:=nA hp u6 _ _ JP;have pb6:=nA hp u6 _ _ OF;walk_at "rd";simp only[uk,fJ];walk_at "rd";have lbd:=ic pr.body;obtain⟨xs6,Y7,lx6,g6⟩:=m5 pr6;refine⟨bb,pr.body,0,rfl,pb6,by lia,⟨_,Y7⟩,fun D4 hD4=>qV (K:=K) (r:=[]) (fun i=>.int (pr.ay.getD i ⟨[],0,0⟩).first) Y7 (by lia) hD4 (fun i x H2 hx s2 R hR=>?_) (fun H7 s7 h7=>⟨D4,_,rfl,.inl ⟨.of h7,fun D5 Y8 D6 T3=>⟨p,_,dx,_,rfl,aq.new T3 _ _ _ (aq.new Y8 _ _ _ (s7 _ _ CS)),T.cw,T.cY,by simp,(wu _ _).mpr (aw fun U6 Jd=>?_)⟩⟩⟩)⟩
 ·obtain⟨a,rfl,ha⟩:=g6 i x hx;walk_at "rd";exact aJ (s2.br ha) (v:=.int (pr.ay.getD i ⟨[],0,0⟩).first) (aC (j:=2) rfl) hR
 clear wu;rw[show j8 (zac "first") (V.ref D6) [(zac "names",V.ref D1),(zac "sizes",V.ref D3)]=[(zac "names",V.ref D1),(zac "sizes",V.ref D3),(zac "first",V.ref D6)] from rfl];rw[lx6,jo (fun b:PG.cE=>V.int b.first)] at T3 ⊢;have s8:=s7.trans ((aq.new Y8 (.tup (pr.ay.map fun b=>V.int b.first))).trans (aq.new T3 (.tup [V.int (PG.aB pr.body 0),V.ref D5])));have d5:(upd (upd H7 D5 (.tup (pr.ay.map fun b=>V.int b.first))) D6 (.tup [V.int (PG.aB pr.body 0),V.ref D5])) D5=some (.tup (pr.ay.map fun b=>V.int b.first)):=aq.new T3 _ _ _ ai;have d6:(upd (upd H7 D5 (.tup (pr.ay.map fun b=>V.int b.first))) D6 (.tup [V.int (PG.aB pr.body 0),V.ref D5])) D6=some (.tup [V.int (PG.aB pr.body 0),V.ref D5]):=ai;generalize upd (upd H7 D5 (.tup (pr.ay.map fun b=>V.int b.first))) D6 (.tup [V.int (PG.aB pr.body 0),V.ref D5])=H8 at *;have FZ:=s8 _ _ CS;have n5:D5≠p:=fY d5 FZ (by intro z;cases z);have n6:D6≠p:=fY d6 FZ (by intro z;cases z);have u9:a0 (·=p) H6 (upd H8 p (.ins t.aR dx [(zac "names",V.ref D1),(zac "sizes",V.ref D3),(zac "first",V.ref D6)])):=(a0.of s8).trans (a0.refl.put (O:=(·=p)) rfl _);have zG:(upd H8 p (.ins t.aR dx [(zac "names",V.ref D1),(zac "sizes",V.ref D3),(zac "first",V.ref D6)])) p=some (.ins t.aR dx [(zac "names",V.ref D1),(zac "sizes",V.ref D3),(zac "first",V.ref D6)]):=ai;have d5:(upd H8 p (.ins t.aR dx [(zac "names",V.ref D1),(zac "sizes",V.ref D3),(zac "first",V.ref D6)])) D5=some (.tup (pr.ay.map fun b=>V.int b.first)):=by rw[aD n5];exact d5
 have d6:(upd H8 p (.ins t.aR dx [(zac "names",V.ref D1),(zac "sizes",V.ref D3),(zac "first",V.ref D6)])) D6=some (.tup [V.int (PG.aB pr.body 0),V.ref D5]):=by rw[aD n6];exact d6
 generalize upd H8 p (.ins t.aR dx [(zac "names",V.ref D1),(zac "sizes",V.ref D3),(zac "first",V.ref D6)])=H9 at *;have d1:=u9 _ _ n1 d1;have d3:=u9 _ _ n3 d3;have u9:=u6.trans u9;have pb9:=nA hp u9 _ _ OF;walk_at "rd";simp only[uk,fJ];walk_at "rd";refine⟨bb,pr.body,H9,rfl,aq.refl _,pb9,by lia,hf,fun Bw us Bc wx WE P0 Qa=>?_⟩;have sl:=qa pr.body;have wt:us.length=(PG.aE pr.body).length:=by rw[Qa.length,zad]
 refine⟨Bw,rfl,⟨_,.of P0⟩,fun D7 hD7=>oW (K:=K) (r:=[]) (fun i=>(.inl ((PG.aE pr.body).getD i (.stop 0)).row,us.getD i .bI)) (.of P0) (by lia) hD7 (fun i x H2 hx s2 R hR=>?_) (fun ps MI tZ Rx E5 ep=>⟨D7,ps,rfl,.of Rx,fun q hq=>.of (E5 q hq),?_,fun D8 Y9=>⟨p,_,dx,_,rfl,aq.new Y9 _ _ _ (tZ _ _ (wx _ _ zG)),T.cw,T.cb,by simp,(Jd _ _).mpr ?_⟩⟩)⟩
 ·have li:i<(PG.aE pr.body).length:=by have:=(zah.mp hx).1;lia
  obtain⟨v',Bq,rv⟩:=Qa.get (i:=i) (d:=eF (PG.aE pr.body)[i]) (by rw[zal,zaa li];rfl);rw[hx] at Bq;cases Bq;have e1:(PG.aE pr.body).getD i (.stop 0)=(PG.aE pr.body)[i]:=by rw[zaf,zaa li];rfl
  have e2:us.getD i .bI=x:=by rw[zaf,hx];rfl
  rw[e1,e2] at hR;obtain⟨sa,ys,rfl,hs⟩:=ib _ rv;walk_at "rd";exact aJ ((wx.trans s2).br hs) (v:=.int (PG.aE pr.body)[i].row) (aC (j:=1) rfl) hR
 ·have:=congrArg zaR ep;simp only[zad,zbE] at this;lia
 clear Jd;have ek:ps.map (fun q=>(q.2.1,q.2.2))=ja (PG.aE pr.body) us:=by
  rw[show (fun q:zdJ×Key×V=>(q.2.1,q.2.2))=(·.2) from rfl,ep,wt,Ba wt]
 have nk:((ja (PG.aE pr.body) us).map (·.1)).Nodup:=by
  rw[uW _ _ wt];exact uX pw
 rw[ek,jN nk,show j8 (zac "statements") (V.ref D8) [(zac "names",V.ref D1),(zac "sizes",V.ref D3),(zac "first",V.ref D6)]=[(zac "names",V.ref D1),(zac "sizes",V.ref D3),(zac "first",V.ref D6),(zac "statements",V.ref D8)] from rfl];have By:=(wx.trans tZ).trans (aq.new Y9 (.dK (ja (PG.aE pr.body) us)));have d8:(upd MI D8 (.dK (ja (PG.aE pr.body) us))) D8=some (.dK (ja (PG.aE pr.body) us)):=ai;generalize upd MI D8 (.dK (ja (PG.aE pr.body) us))=Lz at *;have Jg:=By _ _ zG;have n8:D8≠p:=fY d8 Jg (by intro z;cases z);have Jh:a0 (·=p) H9 (upd Lz p (.ins t.aR dx [(zac "names",V.ref D1),(zac "sizes",V.ref D3),(zac "first",V.ref D6),(zac "statements",V.ref D8)])):=(a0.of By).trans (a0.refl.put (O:=(·=p)) rfl _);have CT:(upd Lz p (.ins t.aR dx [(zac "names",V.ref D1),(zac "sizes",V.ref D3),(zac "first",V.ref D6),(zac "statements",V.ref D8)])) p=some (.ins t.aR dx [(zac "names",V.ref D1),(zac "sizes",V.ref D3),(zac "first",V.ref D6),(zac "statements",V.ref D8)]):=ai;have d8:(upd Lz p (.ins t.aR dx [(zac "names",V.ref D1),(zac "sizes",V.ref D3),(zac "first",V.ref D6),(zac "statements",V.ref D8)])) D8=some (.dK (ja (PG.aE pr.body) us)):=by rw[aD n8];exact d8
 generalize upd Lz p (.ins t.aR dx [(zac "names",V.ref D1),(zac "sizes",V.ref D3),(zac "first",V.ref D6),(zac "statements",V.ref D8)])=Qb at *;have d1:=Jh _ _ n1 d1;have d3:=Jh _ _ n3 d3;have d5:=Jh _ _ n5 d5;have d6:=Jh _ _ n6 d6;have r13:=mF zG Jh _ _ Qa;have Jh:=u9.trans Jh;have WG:=nA hp Jh _ _ rp;walk_at "rd";simp only[uk,fJ];walk_at "rd";refine⟨_,pr,rfl,WG,hd,hf,fun l14 fv yQ LA abS Qc Za=>?_⟩;obtain⟨ws,T5,Zb⟩:=Ef Za;have lfv:fv.length=(PG.aK pr.body 0).length:=by rw[Za.length,zad]
 have Zc:(PG.aK pr.body 0).length=(PG.aE pr.body).length:=by
  have h1:=congrArg zaR (PG.dU pr.body 0);rw[zad] at h1;lia
 refine⟨l14,rfl,⟨_,.of Qc⟩,fun D9 hD9=>oW (K:=K) (r:=[]) (fun i=>(.inl ((PG.aK pr.body 0).getD i (0,.stop,[])).1,ws.getD i .bI)) (.of Qc) (by lia) hD9 (fun i x H2 hx s2 R hR=>?_) (fun ps CU MJ Vm E5 ep=>⟨D9,ps,rfl,.of Vm,fun q hq=>.of (E5 q hq),?_,fun OG OH=>⟨p,_,dx,_,rfl,aq.new OH _ _ _ (MJ _ _ (LA _ _ CT)),T.cw,T.fQ,by simp,?_⟩⟩)⟩
 ·have li:i<(PG.aK pr.body 0).length:=by have:=(zah.mp hx).1;lia
  obtain⟨a,qq,e1,e2,q1,q2⟩:=Zb i li;rw[hx] at e1;cases e1;have g1:(PG.aK pr.body 0).getD i (0,.stop,[])=(PG.aK pr.body 0)[i]:=by rw[zaf,zaa li];rfl
  have g2:ws.getD i .bI=V.ref qq:=by rw[zaf,e2];rfl
  rw[g1,g2] at hR;walk_at "rd";exact aJ (s2.br q1) (v:=.int (PG.aK pr.body 0)[i].1) (aC (j:=0) rfl) (aJ (s2.br q1) (v:=.ref qq) (aC (j:=2) rfl) hR)
 ·have:=congrArg zaR ep;simp only[zad,zbE] at this;lia
 have ek:ps.map (fun q=>(q.2.1,q.2.2))=zbf (fun r v=>(Sum.inl r.1,v)) (PG.aK pr.body 0) ws:=by
  rw[show (fun q:zdJ×Key×V=>(q.2.1,q.2.2))=(·.2) from rfl,ep,lfv,yP T5]
 have nk:((zbf (fun r v=>((Sum.inl r.1:Key),v)) (PG.aK pr.body 0) ws).map (·.1)).Nodup:=by
  rw[Bb T5];exact CQ pw
 rw[ek,jN nk,show j8 (zac "ways") (V.ref OG) [(zac "names",V.ref D1),(zac "sizes",V.ref D3),(zac "first",V.ref D6),(zac "statements",V.ref D8)]=[(zac "names",V.ref D1),(zac "sizes",V.ref D3),(zac "first",V.ref D6),(zac "statements",V.ref D8),(zac "ways",V.ref OG)] from rfl];have MK:=(LA.trans MJ).trans (aq.new OH (.dK (zbf (fun r v=>(Sum.inl r.1,v)) (PG.aK pr.body 0) ws)));have R4:=MJ.trans (aq.new OH (.dK (zbf (fun r v=>(Sum.inl r.1,v)) (PG.aK pr.body 0) ws)));have Zd:(upd CU OG (.dK (zbf (fun r v=>(Sum.inl r.1,v)) (PG.aK pr.body 0) ws))) OG=some (.dK (zbf (fun r v=>(Sum.inl r.1,v)) (PG.aK pr.body 0) ws)):=ai;generalize upd CU OG (.dK (zbf (fun r v=>(Sum.inl r.1,v)) (PG.aK pr.body 0) ws))=Qd at *;have OI:=MK _ _ CT;have n10:OG≠p:=fY Zd OI (by intro z;cases z);have put:∀fs,a0 (·=p) Qd (upd Qd p (.ins t.aR dx fs)):=fun fs=>a0.refl.put (O:=(·=p)) rfl _;have uE:=fun fs=>(a0.of MK).trans (put fs);have uA:=fun fs=>Jh.trans (uE fs);refine q _ (fun b o n e=>uA _ b o n e) ⟨⟨dx,D1,D3,D6,D5,D8,OG,us,ws,ai,uA _ _ _ (fY MF hp (by intro z;cases z)) MF,uE _ _ _ n1 d1,uE _ _ _ n3 d3,uE _ _ _ n6 d6,uE _ _ _ n5 d5,wt,uE _ _ _ n8 d8,mF CT (uE _) _ _ r13,T5,put _ _ _ n10 Zd,fun i hi=>?_⟩⟩;obtain⟨a,qq,e1,e2,q1,q2⟩:=Zb i hi;refine⟨qq,e2,?_⟩;have q2:=R4.br q2;rcases q2 with (q2 |⟨o,q2⟩) |q2
 ·exact .inl (.inl (put _ _ _ (fY q2 OI (by intro z;cases z)) q2))
 ·exact .inl (.inr ⟨o,put _ _ _ (fY q2 OI (by intro z;cases z)) q2⟩)
 ·exact .inr q2
theorem Eg:∀w:PG.Wd,UX (V.str (xk w)) [V.str (zac "must"),V.str (zac "if"),V.str (zac "while")]=decide (w=.fD\/w=.ifs\/w=.fK):=by
 intro w;cases w<;>decide +kernel
theorem R5:∀w:PG.Wd,(xk w=zac "ask")↔w=.ask:=by
 intro w;cases w<;>decide +kernel
theorem R6:∀w:PG.Wd,(xk w=zac "put")↔w=.put:=by
 intro w;cases w<;>decide +kernel
theorem OJ{st:PG.bo}(h:st.wd=.ask):∃k b,st=.ask k b:=by
 cases st<;>first |exact⟨_,_,rfl⟩ |cases h
theorem OL{st:PG.bo}(h:st.wd=.put):∃k b e,st=.put k b e:=by
 cases st<;>first |exact⟨_,_,_,rfl⟩ |cases h
theorem FG{H:Hp}{k:Int}{b:W}{v:V}(h:Rep K H (eF (.ask k b)) v):∃a,v=.ref a/\cF K H a [.str "ask",.int k,.str (S b)]:=by
 simp only[eF,Rep.bj,aQ.aO,aQ.bO,Rep.bQ,Rep.bw] at h;obtain⟨a,ys,rfl,hS,_,_,rfl,rfl,_,_,rfl,rfl,_,_,rfl,rfl,rfl⟩:=h;exact⟨a,rfl,hS⟩
theorem FI{H:Hp}{k:Int}{b:W}{e:PM.Tr}{v:V}(h:Rep K H (eF (.put k b e)) v):∃a u,v=.ref a/\cF K H a [.str "put",.int k,.str (S b),u]/\Rep K H (ky e) u:=by
 simp only[eF,Rep.bj,aQ.aO,aQ.bO,Rep.bQ,Rep.bw] at h;obtain⟨a,ys,rfl,hS,_,_,rfl,rfl,_,_,rfl,rfl,_,_,rfl,rfl,u,_,rfl,ru,rfl⟩:=h;exact⟨a,u,rfl,hS,ru⟩
theorem Dl(vals:List Int)(j:Nat)(x:Int):(vals.map V.int).set j (.int x)=(vals.set j x).map V.int:=by
 rw[List.map_set]
theorem FJ{bs:List PG.cE}(bp:∀b∈bs,0<b.size)(x:W):0<lU bs x:=by
 unfold lU;cases e:bs[mG bs x]? with
 |none=>decide
 |some b=>exact bp b (zav e)
theorem Ji:∀sm:PG.bo,¬xk sm.wd=zac "end":=fun sm=>by cases sm<;>(simp only[PG.bo.wd];decide +kernel)
theorem LB{bs:List PG.cE}{rs:List PG.Rg}{st:PG.bo}(h:st.wd=.fD\/st.wd=.ifs\/st.wd=.fK)(po:K3 bs rs st):∃sg l r,As st=some (sg,l,r)/\xr bs rs l/\xr bs rs r/\PG.iz l<=4/\PG.iz r<=4/\∀ws,PG.dD bs rs ws st=PG.dZ (PG.cn bs rs sg l r) (ws.zip [true,false]):=by
 cases st<;>simp only[PG.bo.wd,reduceCtorEq,or_self,or_false,false_or] at h<;>exact⟨_,_,_,rfl,po.1,po.2.1,po.2.2.1,po.2.2.2,fun _=>rfl⟩
theorem Jj{bs:List PG.cE}(bp:∀b∈bs,b.size<=1000)(x:W):lU bs x<=1000:=by
 unfold lU;cases e:bs[mG bs x]? with
 |none=>decide
 |some b=>exact bp b (zav e)
theorem pA(T:Tx K mg t):bM P w K mg base fZ 10 t.kO t.lJ ["chart", "row", "ranges"] (HI K t.aR):=by
 have FK:=CP (P:=P) (w:=w) (base:=base) T;have pj:=sD (P:=P) (w:=w) (base:=base) T;have pk:=sE (P:=P) (w:=w) (base:=base) T;have rK:=qA (P:=P) (w:=w) (base:=base) T;have ki:=mZ (P:=P) (w:=w) (base:=base) T;have yR:=wk (P:=P) (w:=w) (base:=base) T;have fX:=lN (P:=P) (w:=w) (base:=base) T 5;refine T.c8.F.kZ vz (fun vs H Q E h=>?_) (fun eA A outer s H vs Q E hr h=>?_)
 ·obtain⟨_,_,_,_,_,rfl,_⟩:=h;rfl
 obtain⟨p,rv,pr,row,rs,rfl,co,ok,Lx,PY,bp,q⟩:=h;have nd:=vz.nd;have hu:=i8 hr;refine⟨_,[some (.ref p),some (.int row),some rv,none,none,none],(ao (aP (i:=3) nd rfl (zap rfl) (aA FK (hr.mono (by first|decide|omega)) rfl T.jt.m T.jt.F.kp T.jt.b .nil aN (aa (pv 0) (aa (pv 1) ah ae) ae)))
 (ao (bB (aM cD (pv 3) bG (aS _))
 (au (aH (bE ah)))
 aW)
 (ao (bB (aM EJ (pv 3) (bf (hV (vs:=[.str "must",.str "if",.str "while"]) (by kernel_rfl))) rfl)
 (au (aH (aA rK (hr.mono (by first|decide|omega)) rfl T.cQ.m T.cQ.F.kp T.cQ.b .nil aN (aa (pv 0) (aa (pv 1) (aa (pv 2) ah ae) ae) ae))))
 aW)
 (ao (aP (i:=4) nd rfl (zap rfl) (dc hu (g9 (pv 0) rfl) (pv 1) (fun _ _=>rfl)))
 (ao (aP (i:=5) nd rfl (zap rfl) (aA pj (hr.mono (by first|decide|omega)) rfl T.dO.m T.dO.F.kp T.dO.b .nil aN (aa (pv 0) (aa (pv 2) ah ae) ae)))
 (ao (bB (aM cD (pv 3) bG (aS _))
 (au (nu hu (pv 5) (av ax (pv 4) ak aj) (aA ki (hr.mono (by first|decide|omega)) rfl T.cB.m T.cB.F.kp T.cB.b .nil aN (aa (dc hu (g9 (pv 0) rfl) (av ax (pv 4) ak aj) (fun _ _=>rfl)) ah aG)) rfl))
 (au (bB (aM cD (pv 3) bG (aS _))
 (au (nu hu (pv 5) (av ax (pv 4) ak aj) (aA yR (hr.mono (by first|decide|omega)) rfl T.fk.m T.fk.F.kp T.fk.b .nil aN (aa (aA fX (hr.mono (by first|decide|omega)) rfl T.bD.m T.bD.F.kp T.bD.b .nil aN (aa (av ax (pv 4) ak aj) (aa (pv 5) ah ae) aG)) (aa (dc hu (g9 (pv 0) rfl) (av ax (pv 4) ak aj) (fun _ _=>rfl)) ah aG) aT)) rfl))
 aW)))
 (au (aH (bE (aa (bf (aa (av ax (dc hu (g9 (pv 0) rfl) (pv 1) (fun _ _=>rfl)) ak aj) (aa (aA pk (hr.mono (by first|decide|omega)) rfl T.dP.m T.dP.F.kp T.dP.b .nil aN (aa (pv 0) (aa (pv 5) ah ae) ae)) ah aT) aG)) ah iX)))))))))),rfl,?_⟩
 refine aw fun U1 gf=>?_;walk_at "rd";rcases q with ⟨rfl,q⟩ |⟨n0,i,hi,hf,er,po,w0,q⟩
 ·refine⟨p,pr,0,rfl,co,ok.pw,.inl ⟨rfl,(gf _ _).mpr ?_⟩⟩;refine aw fun U2 jv=>?_;walk_at "rd";exact(if_pos trivial).mpr fun L hL=>q L _ (aq.new hL _) hL ai
 subst er;refine⟨p,pr,_,rfl,co,ok.pw,.inr ⟨n0,i,hi,rfl,(gf _ _).mpr (aw fun U2 jv=>?_)⟩⟩;clear gf;walk_at "rd";refine(if_neg ?_).mpr ((jv _ _).mpr (aw fun U3 jT=>?_))
 ·exact Ji _
 clear jv;walk_at "rd";intro z hz;have sz:=aq.new hz (HO.tup [V.str (zac "must"),V.str (zac "if"),V.str (zac "while")]);refine⟨z,_,rfl,.inr (.of ai),rfl,rfl,_,rfl,eC (fun e=>?_) (fun e=>?_)⟩
 ·have e:=e;simp only[zaF,if_false,Eg,decide_eq_true_eq] at e;obtain⟨sg,l,r,cp,tl,tr,dl,dr,ew⟩:=LB e po;rw[ew] at q;exact⟨p,rv,pr,i,hi,hf,rs,sg,l,r,rfl,co.mono sz,ok,Lx.mono sz,PY,cp,tl,tr,dl,dr,fun L us H' s' hL' y w'=>q L us H' (sz.trans s') (sz.free hL') y w'⟩
 have e0:=e;simp only[zaF,if_false,Eg,decide_eq_true_eq] at e0;refine(jT _ _).mpr (aw fun U4 lO=>?_);clear jT e;obtain⟨dx,nl,sd,fa,OB,st,wy,uu,ws,h1,h2,h3,h4,h5,h6,h7,h8,h9,_⟩:=co.at_;have li:i<uu.length:=by lia
 obtain⟨v,hv,Eh⟩:=h9.get (i:=i) (d:=eF (PG.aE pr.body)[i]) (by rw[zal,zaa hi];rfl);have g:=p0 _ _ h7 ok.pw i hi v hv;walk_at "rd";refine⟨p,_,dx,_,.ref st,rfl,sz _ _ h1,T.cw,T.cb,rfl,⟨st,v,rfl,.inl ⟨_,.inl _,.inl (sz _ _ h8),rfl,g.symm⟩,(lO _ _).mpr (aw fun U5 wu=>?_)⟩⟩;clear lO;obtain⟨ra,us,rfl,Wv,Ze⟩:=Lx;have wt:us.length=pr.ay.length:=by rw[Ze.1];exact PY
 walk_at "rd";refine⟨p,ra,pr,us,rfl,co.mono sz,sz.br Wv,wt,ok.nb,ok.gc,fun d H2 s2' hd2 y2=>(wu _ _).mpr (aw fun U6 Jd=>?_)⟩;clear wu;have s2:=sz.trans s2';have hd:=sz.free hd2;have nm:=(tS.of Ze wt ok.nb).mono s2;have fin:∀(H5:Hp) (kvs:List (Key×V)) (Ee:List PG.Rg),aq H H5->H5 d=some (.dK kvs)->tS K H5 pr.ay kvs Ee->PG.dD pr.ay rs (PG.aK pr.body 0)[i].2.2 (PG.aE pr.body)[i]=[((PG.aK pr.body 0)[i].2.2.getD 0 0,Ee)]->
  U6 [some (V.ref p),some (V.int (PG.aE pr.body)[i].row),some (V.ref ra),some (V.str (xk (PG.aE pr.body)[i].wd)),some v,some (V.ref d)] H5:=by
  intro H5 kvs Ee s5 y5 n5 es;rw[es] at q;refine(Jd _ _).mpr ?_;clear Jd;walk_at "rd";obtain⟨dx,fs,wy,wq,g1,g2,g3,g4⟩:=(co.mono s5).way ok i hi hf;have e0:(PG.aK pr.body 0)[i].2.2[0]?=some ((PG.aK pr.body 0)[i].2.2.getD 0 0):=by rw[zaf,zaa w0];rfl
  have qq:xc ((PG.aK pr.body 0)[i].2.2.map V.int) ((0:Nat):Int)=some (V.int ((PG.aK pr.body 0)[i].2.2.getD 0 0)):=aC (by rw[zal,e0];rfl);obtain⟨Zf,lw,look,Wx⟩:=n5.list;refine⟨p,_,dx,fs,.ref wy,rfl,g1,T.cw,T.fQ,g2,wy,.ref wq,rfl,g3,aJ g4 (v:=.int ((PG.aK pr.body 0)[i].2.2.getD 0 0)) qq ?_⟩;refine⟨p,d,pr,kvs,Zf,rfl,co.mono s5,y5,lw,look,ok.gc,fun a H6 s6 sq p1 Bx p2 BX=>?_⟩;have n1:=aq.new Bx (HO.tup [V.int ((PG.aK pr.body 0)[i].2.2.getD 0 0),V.ref a]);have n2:=aq.new BX (HO.lst [V.ref p1]);have h1:(upd H6 p1 (HO.tup [V.int ((PG.aK pr.body 0)[i].2.2.getD 0 0),V.ref a])) p1=some (HO.tup [V.int ((PG.aK pr.body 0)[i].2.2.getD 0 0),V.ref a]):=ai;exact q p2 _ _ (((s5.trans s6).trans n1).trans n2) (((s5.trans s6).trans n1).free BX) ai (.cons ⟨p1,_,rfl,.of (n2 _ _ h1),a,Zf,rfl,n2.br (n1.br sq),(Wx.mono s6).mono (n1.trans n2)⟩ .nil)
 have OD:(dB pr.ay us).length<zdR:=by
  have line:zdR=2 ^ 24:=rfl;have:=ok.gc;unfold dB;rw[zdD];lia
 have R7:∀ {H3:Hp} (o:HO),aq H H3->aq H (upd H3 d o):=fun o s3=>((bc.of s3:bc d H _).put o).same hd;walk_at "rd";refine eC (fun e=>?_) (fun e=>?_)
 ·obtain⟨k,b,R8⟩:=OJ ((R5 _).mp e);rw[R8] at Eh po;obtain⟨va,rfl,hT⟩:=FG Eh;refine⟨p,_,dx,_,.ref sd,rfl,s2 _ _ h1,T.cw,T.eV,rfl,aJ (s2.br hT) (v:=.str (S b)) (aC (j:=2) rfl) ⟨sd,.int (lU pr.ay b),rfl,.inl ⟨_,.inr (S b),.inl (s2 _ _ h4),rfl,(Au ok.nb po).symm⟩,?_⟩⟩;refine⟨_,rfl,fun v3 H3 s3 h3=>aJ ((s2.trans s3).br hT) (v:=.str (S b)) (aC (j:=2) rfl) ⟨d,_,rfl,sO.k (k:=.inr (S b)) (s3 _ _ y2) OD,?_⟩⟩;exact fin _ _ _ (R7 _ (s2.trans s3)) ai (((nm.mono s3).put ok.nb po h3).dk (s3 _ _ y2) ((bc.refl d H3).put _)) (by rw[R8];rfl)
 refine eC (fun e2=>?_) (fun e2=>?_)
 ·obtain⟨k,b,tr,R8⟩:=OL ((R6 _).mp e2);rw[R8] at Eh po;obtain⟨va,u,rfl,hT,ru⟩:=FI Eh;refine aJ (s2.br hT) (v:=u) (aC (j:=3) rfl) ⟨u,d,tr,_,_,rfl,ru.mono s2,y2,nm.RE ok.nb po.2.1,by have:=po.2.2;lia,by have:=po.2.2;lia,fun x3 H3 s3 h3=>?_⟩;have px:=s2.trans s3;refine⟨p,_,dx,_,.ref sd,rfl,px _ _ h1,T.cw,T.eV,rfl,aJ (px.br hT) (v:=.str (S b)) (aC (j:=2) rfl) ⟨sd,.int (lU pr.ay b),rfl,.inl ⟨_,.inr (S b),.inl (px _ _ h4),rfl,(Au ok.nb po.1).symm⟩,?_⟩⟩;refine⟨_,_,_,rfl,h3,FJ (fun b hb=>(bp b hb).1) b,Jj (fun b hb=>(bp b hb).2) b,fun v4 H4 s4 h5'=>aJ ((px.trans s4).br hT) (v:=.str (S b)) (aC (j:=2) rfl) ⟨d,_,rfl,sO.k (k:=.inr (S b)) (s4 _ _ (s3 _ _ y2)) OD,?_⟩⟩;exact fin _ _ _ (R7 _ (px.trans s4)) ai ((((nm.mono s3).mono s4).put ok.nb po.1 h5').dk (s4 _ _ (s3 _ _ y2)) ((bc.refl d H4).put _)) (by rw[R8];rfl)
 have es:PG.dD pr.ay rs (PG.aK pr.body 0)[i].2.2 (PG.aE pr.body)[i]=[((PG.aK pr.body 0)[i].2.2.getD 0 0,rs)]:=by
  have a1:(PG.aE pr.body)[i].wd≠.ask:=fun z=>e ((R5 _).mpr z);have a2:(PG.aE pr.body)[i].wd≠.put:=fun z=>e2 ((R6 _).mpr z);generalize (PG.aE pr.body)[i]=sm at a1 a2 e0;cases sm<;>first |rfl |(exact absurd rfl a1) |(exact absurd rfl a2) |(exact absurd (by simp[PG.bo.wd]) e0)
 exact fin _ _ _ s2 y2 nm es
theorem rL:∀s:PG.bo,(V.str (xk s.wd)=V.str (zac "while"))↔s.wd=.fK:=by
 intro s;cases s<;>simp only[PG.bo.wd]<;>decide +kernel
theorem yS:∀s:PG.bo,(V.str (xk s.wd)=V.str (zac "if"))↔s.wd=.ifs:=by
 intro s;cases s<;>simp only[PG.bo.wd]<;>decide +kernel
theorem Ei:∀s:PG.bo,(V.str (xk s.wd)=V.str (zac "stop"))↔s.wd=.stop:=by
 intro s;cases s<;>simp only[PG.bo.wd]<;>decide +kernel
theorem Ej{K:zab}{H:Hp}{d0 d1 d2 d3 d4 d5:Dp}{xs:List V}{ds:List Dp}(h:aQ K H (d0::d1::d2::d3::d4::d5::ds) xs):∃v0 v1 v2 v3 v4 v5 r,xs=v0::v1::v2::v3::v4::v5::r/\Rep K H d5 v5/\aQ K H ds r:=by
 rw[aQ.aO] at h;obtain⟨v0,t0,rfl,_,h⟩:=h;rw[aQ.aO] at h;obtain⟨v1,t1,rfl,_,h⟩:=h;rw[aQ.aO] at h;obtain⟨v2,t2,rfl,_,h⟩:=h;rw[aQ.aO] at h;obtain⟨v3,t3,rfl,_,h⟩:=h;rw[aQ.aO] at h;obtain⟨v4,t4,rfl,_,h⟩:=h;rw[aQ.aO] at h;obtain⟨v5,t5,rfl,e5,h⟩:=h;exact⟨v0,v1,v2,v3,v4,v5,t5,rfl,e5,h⟩
theorem gP(T:Tx K mg t):bM P w K mg base fZ 1 t.dJ t.dN ["body", "behind"] (pX K):=by
 refine T.bt.F.kZ qm (fun vs H Q E h=>?_) (fun eA A outer s H vs Q E hr h=>?_)
 ·obtain⟨_,_,_,rfl,_⟩:=h;rfl
 obtain⟨b,body,x,rfl,rb,lb,q⟩:=h;have nd:=qm.nd;refine⟨_,[some (V.ref b),some (V.int x)],(ao (bB (zV (pv 0) (fun _=>rfl))
 (au (aH (av ax (av bP (pv 0) ak aj) ak aj)))
 aW)
 (au (aH (pv 1)))),rfl,?_⟩
 walk_at "rd";rw[Rep.bq] at rb;obtain⟨_,xs,e,hx,rs⟩:=rb;cases e;have line:zdR=2 ^ 24:=rfl;cases body with
 |nil=>
  rw[zbr,aQ.bO] at rs;subst rs;exact⟨false,.inl ⟨_,hx,rfl⟩,q⟩
 |cons st r=>
  rw[zaq,aQ.aO] at rs;obtain⟨v,t,rfl,rv,rs⟩:=rs;obtain⟨a,ys,rfl,hs⟩:=ib st rv;refine⟨true,.inl ⟨_,hx,rfl⟩,?_⟩;refine(if_pos rfl).mpr (cx (v:=.ref a) hx (aC (j:=0) rfl) ?_);exact aJ hs (v:=.int st.row) (aC (j:=1) rfl) q
theorem vH(T:Tx K mg t):bM P w K mg base fZ 1 t.dW t.eP ["statement", "after"] (uU K):=by
 refine T.dX.F.kZ mT (fun vs H Q E h=>?_) (fun eA A outer s H vs Q E hr h=>?_)
 ·obtain⟨_,_,_,rfl,_⟩:=h;rfl
 obtain⟨v,st,x,rfl,rv,q⟩:=h;have nd:=mT.nd;refine⟨_,[some v,some (V.int x)],(ao (bB (aM cD (av ax (pv 0) ak aj) bG (aS _))
 (au (aH (av ax (pv 0) ak aj)))
 aW)
 (au (aH (pv 1)))),rfl,?_⟩
 obtain⟨a,ys,rfl,hs⟩:=ib st rv;walk_at "rd";refine aJ hs (aC (j:=0) rfl) ⟨rfl,eC (fun e=>?_) (fun e=>?_)⟩
 ·have ew:=(rL st).mp e;refine aJ hs (v:=.int st.row) (aC (j:=1) rfl) ?_;cases st<;>first |exact q |cases ew
 ·have ew:st.wd≠.fK:=fun z=>e ((rL st).mpr z);cases st<;>first |exact q |exact absurd rfl ew
theorem qB(T:Tx K mg t):bM P w K mg base fZ 1 t.eQ t.fh ["statement"] (pY K):=by
 refine T.dq.F.kZ qo (fun vs H Q E h=>?_) (fun eA A outer s H vs Q E hr h=>?_)
 ·obtain⟨_,_,_,rfl,_⟩:=h;rfl
 obtain⟨v,st,H0,rfl,rv,s0,q⟩:=h;have nd:=qo.nd;refine⟨_,[some v],(ao (bB (aM cD (av ax (pv 0) ak aj) bG (aS _))
 (au (aH (bE (aa (av ax (pv 0) ak aj) (aa (av ax (pv 0) ak aj) ah aG) aG))))
 aW)
 (ao (bB (aM cD (av ax (pv 0) ak aj) bG (aS _))
 (au (aH (bE (aa (av ax (pv 0) ak aj) ah aG))))
 aW)
 (au (aH (bE ah))))),rfl,?_⟩
 obtain⟨a,ys,rfl,hs⟩:=ib st rv;have hs:=s0.br hs;walk_at "rd";refine aJ hs (aC (j:=0) rfl) ⟨rfl,eC (fun e=>?_) (fun e=>aJ hs (aC (j:=0) rfl) ⟨rfl,eC (fun e2=>?_) (fun e2=>?_)⟩)⟩
 ·have ew:=(yS st).mp e;cases st<;>first |(exfalso;cases ew;done) |skip
  rename_i k sg l r x y;rw[eF,Rep.bj] at rv;obtain⟨_,xs,e0,hx,rs⟩:=rv;cases e0;obtain⟨v0,v1,v2,v3,v4,v5,rr,rfl,r5,rs⟩:=Ej rs;rw[aQ.aO] at rs;obtain⟨v6,t6,rfl,r6,_⟩:=rs;refine aJ (s0.br hx) (v:=v5) (aC (j:=5) rfl) (aJ (s0.br hx) (v:=v6) (aC (j:=6) rfl) fun p hp=>?_);rw[cG] at r5 r6;exact q p _ _ (aq.new hp _) hp ai (.cons r5 (.cons r6 .nil))
 ·have ew:=(rL st).mp e2;cases st<;>first |(exfalso;cases ew;done) |skip
  rename_i k sg l r x;rw[eF,Rep.bj] at rv;obtain⟨_,xs,e0,hx,rs⟩:=rv;cases e0;obtain⟨v0,v1,v2,v3,v4,v5,rr,rfl,r5,rs⟩:=Ej rs;refine aJ (s0.br hx) (v:=v5) (aC (j:=5) rfl) fun p hp=>?_;rw[cG] at r5;exact q p _ _ (aq.new hp _) hp ai (.cons r5 .nil)
 ·intro p hp;have e1:st.wd≠.ifs:=fun z=>e ((yS st).mpr z);have Qe:st.wd≠.fK:=fun z=>e2 ((rL st).mpr z);refine q p [] _ (aq.new hp _) hp ai ?_;cases st<;>first |exact .nil |exact absurd rfl e1 |exact absurd rfl Qe
theorem CV(T:Tx K mg t):bM P w K mg base fZ 2 t.jq t.jJ ["statement", "after"] (B7 K):=by
 have eW:bM P w K mg base fZ 1 t.dJ t.dN ["body", "behind"] (pX K):=gP T;refine T.jr.F.kZ vx (fun vs H Q E h=>?_) (fun eA A outer s H vs Q E hr h=>?_)
 ·obtain⟨_,_,_,rfl,_⟩:=h;rfl
 obtain⟨v,st,x,rfl,rv,hl,q⟩:=h;have nd:=vx.nd;obtain⟨Jc,vE,vF⟩:=T.yN;refine⟨_,[some v,some (V.int x),none],(ao (aP (i:=2) nd rfl (zap rfl) (av ax (pv 0) ak aj))
 (ao (bB (aM cD (pv 2) bG (aS _))
 (au (aH (bf (aa (tj rfl vE vF) ah ae))))
 aW)
 (ao (bB (aM cD (pv 2) bG (aS _))
 (au (aH (bf (aa (aA eW (hr.mono (by first|decide|omega)) rfl T.bt.m T.bt.F.kp T.bt.b .nil aN (aa (av ax (pv 0) ak aj) (aa (pv 1) ah ae) aG)) (aa (aA eW (hr.mono (by first|decide|omega)) rfl T.bt.m T.bt.F.kp T.bt.b .nil aN (aa (av ax (pv 0) ak aj) (aa (pv 1) ah ae) aG)) ah aT) aT))))
 aW)
 (ao (bB (aM cD (pv 2) bG (aS _))
 (au (aH (bf (aa (aA eW (hr.mono (by first|decide|omega)) rfl T.bt.m T.bt.F.kp T.bt.b .nil aN (aa (av ax (pv 0) ak aj) (aa (av ax (pv 0) ak aj) ah aG) aG)) (aa (pv 1) ah ae) aT))))
 aW)
 (au (aH (bf (aa (pv 1) ah ae)))))))),rfl,?_⟩
 obtain⟨a,ys,rfl,hs⟩:=ib st rv;refine aw fun U1 gf=>?_;walk_at "rd";refine aJ hs (aC (j:=0) rfl) ((gf _ _).mpr ?_);walk_at "rd";have Jk:∀b∈aU st,b.length<=100000:=hl;refine eC (fun e=>?_) (fun e=>eC (fun e1=>?_) (fun e1=>eC (fun e2=>?_) (fun e2=>?_)))
 ·have ew:=(Ei st).mp (by rw[e]);cases st<;>first |(exfalso;cases ew;done) |skip
  intro p hp;exact q _ _ (aq.new hp _) (Rep.new hp (.cons (Rep.bw.mpr rfl) .nil))
 ·have ew:=(yS st).mp (by rw[e1]);cases st<;>first |(exfalso;cases ew;done) |skip
  rename_i k sg l r y z;rw[eF,Rep.bj] at rv;obtain⟨_,xs,e0,hx,rs⟩:=rv;cases e0;obtain⟨v0,v1,v2,v3,v4,v5,rr,rfl,r5,rs⟩:=Ej rs;rw[aQ.aO] at rs;obtain⟨v6,t6,rfl,r6,_⟩:=rs;rw[cG] at r5 r6;obtain⟨a5,_,rfl,_⟩:=Rep.bq.mp r5;obtain⟨a6,_,rfl,_⟩:=Rep.bq.mp r6;refine aJ hx (v:=.ref a5) (aC (j:=5) rfl) ⟨a5,y,x,rfl,r5,Jk y (by simp[aU]),aJ hx (v:=.ref a6) (aC (j:=6) rfl) ⟨a6,z,x,rfl,r6,Jk z (by simp[aU]),fun p hp=>?_⟩⟩;exact q _ _ (aq.new hp _) (Rep.new hp (.cons (Rep.bw.mpr rfl) (.cons (Rep.bw.mpr rfl) .nil)))
 ·have ew:=(rL st).mp (by rw[e2]);cases st<;>first |(exfalso;cases ew;done) |skip
  rename_i k sg l r y;rw[eF,Rep.bj] at rv;obtain⟨_,xs,e0,hx,rs⟩:=rv;cases e0;obtain⟨v0,v1,v2,v3,v4,v5,rr,rfl,r5,rs⟩:=Ej rs;rw[cG] at r5;obtain⟨a5,_,rfl,_⟩:=Rep.bq.mp r5;refine aJ hx (v:=.ref a5) (aC (j:=5) rfl) (aJ hs (v:=.int k) (aC (j:=1) rfl) ⟨a5,y,k,rfl,r5,Jk y (by simp[aU]),fun p hp=>?_⟩);exact q _ _ (aq.new hp _) (Rep.new hp (.cons (Rep.bw.mpr rfl) (.cons (Rep.bw.mpr rfl) .nil)))
 ·intro p hp;have n1:st.wd≠.stop:=fun z=>e (V.str.inj ((Ei st).mpr z));have n2:st.wd≠.ifs:=fun z=>e1 (V.str.inj ((yS st).mpr z));have n3:st.wd≠.fK:=fun z=>e2 (V.str.inj ((rL st).mpr z));have ew:mD st x=[x]:=by
   cases st<;>first |rfl |exact absurd rfl n1 |exact absurd rfl n2 |exact absurd rfl n3
  rw[ew] at q;exact q _ _ (aq.new hp _) (Rep.new hp (.cons (Rep.bw.mpr rfl) .nil))
theorem Jl{K:zab}{Oo:zdJ->Prop}{H:Hp}{ds es:List Dp}{vs us:List V}(a:eM K Oo H ds vs)(b:eM K Oo H es us):eM K Oo H (ds++es) (vs++us):=fun H2 u=>(a H2 u).append (b H2 u)
theorem xE{K:zab}{H:Hp}:∀(n:Nat) {ds:List PG.bo} {vs:List V},aQ K H (ds.map eF) vs->aQ K H ((ds.drop n).map eF) (vs.drop n)
 |0,_,_,h=>h
 |n+1,[],vs,h=>by
  rw[zbr,aQ.bO] at h;subst h;exact .nil
 |n+1,d::ds,vs,h=>by
  rw[zaq,aQ.aO] at h;obtain⟨v,t,rfl,_,h⟩:=h;exact xE n h
theorem Jm(T:Tx K mg t){n:Nat}(jO:bM P w K mg base fZ (n+2) t.cW t.c7 ["body", "behind"] (pZ K n)) :
 bM P w K mg base fZ (n+3) t.cW t.c7 ["body", "behind"] (pZ K (n+1)):=by
 have eW:bM P w K mg base fZ 1 t.dJ t.dN ["body", "behind"] (pX K):=gP T;have FL:bM P w K mg base fZ 2 t.jq t.jJ ["statement", "after"] (B7 K):=CV T;have m6:bM P w K mg base fZ 1 t.eQ t.fh ["statement"] (pY K):=qB T;have wA:bM P w K mg base fZ 1 t.dW t.eP ["statement", "after"] (uU K):=vH T;refine T.bX.F.kZ lY (fun vs H Q E h=>?_) (fun eA A outer s H vs Q E hr h=>?_)
 ·obtain⟨_,_,_,rfl,_⟩:=h;rfl
 obtain⟨b,body,x,rfl,rb,hd,hf,q⟩:=h;have nd:=lY.nd;refine⟨_,[some (V.ref b),some (V.int x),none,none,none,none,none],(ao (aP (i:=2) nd rfl (zap rfl) (bE ah))
 (ao (eI PassesOwn.never rfl (Ku rfl T.j7 (aa (pv 0) ah ae)) (BC rfl (bH (aX (i:=3) nd rfl (zap rfl)) (bH (aX (i:=4) nd rfl (zap rfl)) gg)))
 (ao (aP (i:=5) nd rfl (zap rfl) (aA eW (hr.mono (by first|decide|omega)) rfl T.bt.m T.bt.F.kp T.bt.b .nil aN (aa (gu kX (pv 0) (jc (bC gh (pv 3) ak)) jb) (aa (pv 1) ah ae) aG)))
 (ao (dF (kB zaA zaO zaP c6 (pv 2) (aa (bf (aa (av ax (pv 4) ak aj) (aa (av ax (pv 4) ak aj) (aa (aA FL (hr.mono (by first|decide|omega)) rfl T.jr.m T.jr.F.kp T.jr.b .nil aN (aa (pv 4) (aa (pv 5) ah ae) ae)) ah aT) aG) aG)) ah iX)))
 (au (eI PassesOwn.never rfl (bT (aA m6 (hr.mono (by first|decide|omega)) rfl T.dq.m T.dq.F.kp T.dq.b .nil aN (aa (pv 4) ah ae))) (aX (i:=6) nd rfl (zap rfl))
 (au (dF (kB zaA zc5 zc6 xf (pv 2) (aa (aA jO (hr.mono (by first|decide|omega)) rfl T.bX.m T.bX.F.kp T.bX.b .nil aN (aa (pv 6) (aa (aA wA (hr.mono (by first|decide|omega)) rfl T.dX.m T.dX.F.kp T.dX.b .nil aN (aa (pv 4) (aa (pv 5) ah ae) ae)) ah aT) ae)) ah aT)))))))))
 (au (aH (pv 2))))),rfl,?_⟩
 have line:zdR=2 ^ 24:=rfl;rw[Rep.bq] at rb;obtain⟨_,xs,e,hx,rs⟩:=rb;cases e;have lx:xs.length=body.length:=by rw[rs.length,zad]
 have lb:=ic body;refine aw fun U1 gf=>?_;walk_at "rd";intro tl T7;have s1:=aq.new T7 (.lst []);have y1:(upd H tl (.lst [])) tl=some (.lst []):=ai;generalize upd H tl (.lst [])=H1 at *;refine(gf _ _).mpr (aw fun U2 jv=>?_);clear gf;walk_at "rd";obtain⟨Pv,jP⟩:∃Pv:Nat->St->Hp->Prop,∀i σ H2,Pv i σ H2↔∃(z3 z4 z5 z6:Option V) (pre:List PG.d7) (us:List V),σ=[some (V.ref b),some (V.int x),some (V.ref tl),z3,z4,z5,z6]/\aq H H2/\H2 tl=some (.lst us)/\eM K (·=tl) H2 (pre.map hZ) us/\us.length=pre.length/\pre++PG.aK (body.drop i) x=PG.aK body x:=⟨_,fun _ _ _=>Iff.rfl⟩
 refine⟨_,rfl,⟨xs,s1.seq hx⟩,GU (K:=K) (a:=b) (xs:=xs) Pv ((jP _ _ _).mpr ⟨none,none,none,none,[],[],rfl,s1,y1,.nil,rfl,rfl⟩) (fun i σ H2 _ hv=>?_) ?_ ?_⟩
 ·obtain⟨_,_,_,_,_,_,_,s2,_⟩:=(jP _ _ _).mp hv;exact s2.seq hx
 ·intro i y σ H2 tp hi hv ME;obtain⟨z3,z4,z5,z6,pre,us,rfl,s2,y2,f2,lu,ep⟩:=(jP _ _ _).mp hv;clear hv;have done:=fun σ H7=>(jP (i+1) σ H7).mpr;have li:i<body.length:=by have:=(zah.mp hi).1;lia
  obtain⟨v,hv,rv⟩:=rs.get (i:=i) (d:=eF body[i]) (by rw[zal,zaa li];rfl);rw[hi] at hv;cases hv;have ed:body.drop i=body[i]::body.drop (i+1):=zbP li;rw[ed,PG.aK,GX] at ep;have mem:body[i]∈body:=zao li;obtain⟨fm,dm⟩:=qU body _ mem;generalize Df:body[i]=st at *;have s3:=s2.trans (aq.new ME (.tup [V.int i,y]));have n3:tl≠tp:=aF y2 ME;have y3:=aq.new ME (.tup [V.int i,y]) _ _ y2;have f3:=f2.up (.of (aq.new ME (.tup [V.int i,y])));have t3:(upd H2 tp (.tup [V.int i,y])) tp=some (.tup [V.int i,y]):=ai;generalize upd H2 tp (.tup [V.int i,y])=H3 at *;obtain⟨sa,ys,rfl,hs⟩:=ib st rv;refine⟨tp,_,rfl,.of t3,rfl,_,_,rfl,_,_,rfl,rfl,?_⟩;refine aw fun U3 jT=>?_;walk_at "rd";refine⟨_,rfl,b,_,rfl,s3.seq hx,fun p4 OM=>?_⟩;have ec:kA xs (some ((i:Int)+1)) none=xs.drop (i+1):=by
   unfold kA;rw[HT.pG,show (i:Int)+1=((i+1:Nat):Int) by lia,HT.tF];rw[show min (i+1) xs.length=i+1 by lia];exact zbs (by rw[za4];lia)
  rw[ec];have s4:=s3.trans (aq.new OM (.lst (xs.drop (i+1))));have y4:=aq.new OM (.lst (xs.drop (i+1))) _ _ y3;have f4:=f3.up (.of (aq.new OM (.lst (xs.drop (i+1)))));have l4:(upd H3 p4 (.lst (xs.drop (i+1)))) p4=some (.lst (xs.drop (i+1))):=ai;generalize upd H3 p4 (.lst (xs.drop (i+1)))=H4 at *;have rd4:Rep K H4 (.lst ((body.drop (i+1)).map eF)) (.ref p4):=Rep.bq.mpr ⟨p4,_,rfl,.of l4,xE (i+1) (rs.mono s4)⟩;refine⟨p4,body.drop (i+1),x,rfl,rd4,by rw[za4];lia,(jT _ _).mpr (aw fun U4 lO=>?_)⟩;clear jT;generalize PG.aB (body.drop (i+1)) x=af at *;have yT:=(show cF K H4 sa _ from s4.br hs)
  walk_at "rd";refine⟨.inl ⟨rfl,_,.of y4⟩,aJ yT (v:=.int st.row) (aC (j:=1) rfl) (aJ yT (v:=.str (xk st.wd)) (aC (j:=0) rfl) ?_)⟩;have sh:GY st:=fun bb Kk=>by
   have:=(k0 st bb Kk).1;have:=ic bb;lia
  refine⟨.ref sa,st,af,rfl,rv.mono s4,sh,fun u H5 s5 ru p6 CS=>?_⟩;have y5:=s5 _ _ y4;have f5:=f4.up (.of s5);have fu:Fix K (·=tl) H5 (.tup ((mD st af).map .int)) u:=NW y5 (by rw[Kw];exact qT _) ru;have n6:p6≠tl:=(aF y5 CS).symm;have s6:=aq.new CS (.tup [V.int st.row,V.str (xk st.wd),u]);have ft:Fix K (·=tl) (upd H5 p6 (.tup [V.int st.row,V.str (xk st.wd),u])) (hZ (st.row,st.wd,mD st af)) (.ref p6):=Fix.tup ai n6 (.cons .int (.cons .str (.cons (fu.up (.of s6)) .nil)));have f6:=f5.up (.of s6);have y6:=s6 _ _ y5;have ON:=(s4.trans s5).trans s6;generalize upd H5 p6 (.tup [V.int st.row,V.str (xk st.wd),u])=H6 at *;have ab0:pre.length<=1000:=by
   have h1:=congrArg zaR ep;have h2:=congrArg zaR (PG.dU body x);simp only[zau,zad,zai] at h1 h2;lia
  refine⟨tl,us,_,rfl,rfl,y6,by lia,?_⟩;have s7:aq H (upd H6 tl (.lst (us++[V.ref p6]))):=fun z o e=>by rw[aD (aF e T7)];exact ON z o e
  have f7:=(f6.snoc ft).up (a0.refl.put (O:=(·=tl)) rfl (.lst (us++[V.ref p6])));have y7:(upd H6 tl (.lst (us++[V.ref p6]))) tl=some (.lst (us++[V.ref p6])):=ai;generalize upd H6 tl (.lst (us++[V.ref p6]))=H7 at *;refine(lO _ _).mpr ?_;clear lO;refine eL fun U hU=>?_;walk_at "rd";refine⟨.ref sa,st,H,rfl,rv,s7,fun l8 bv H8 s8 Qf y8 r8=>⟨l8,rfl,⟨bv,.of y8⟩,hU _ _ ?_⟩⟩;have WH:bv.length=(aU st).length:=by rw[r8.length,zad]
  have l8t:l8≠tl:=fun z=>by rw[z,y7] at Qf;cases Qf
  obtain⟨Pw,sF⟩:∃Pw:Nat->St->Hp->Prop,∀j σ H9,Pw j σ H9↔∃(z6:Option V) (us:List V) (Be:List PG.d7),σ=[some (V.ref b),some (V.int x),some (V.ref tl),some (V.int i),some (V.ref sa),some (V.int af),z6]/\aq H H9/\(∀z o,z≠tl->H8 z=some o->H9 z=some o)/\H9 tl=some (.lst us)/\eM K (·=tl) H9 (Be.map hZ) us/\us.length=Be.length/\
   Be++((aU st).drop j).flatMap (fun bb=>PG.aK bb (gA st af))=pre++(st.row,st.wd,mD st af)::(aU st).flatMap (fun bb=>PG.aK bb (gA st af)):=⟨_,fun _ _ _=>Iff.rfl⟩
  refine eJ (K:=K) (a:=l8) (xs:=bv) Pw ((sF _ _ _).mpr ⟨z6,_,pre++[(st.row,st.wd,mD st af)],rfl,s7.trans s8,fun z o _ e=>e,s8 _ _ y7,by rw[zaw];exact f7.up (.of s8),by simp[lu],by simp⟩) (fun j σ H9 _ hv=>?_) ?_ ?_
  ·obtain⟨_,_,_,_,_,k9,_⟩:=(sF _ _ _).mp hv;exact .of (k9 _ _ l8t y8)
  ·intro j y σ H9 hj hv;obtain⟨z6',F0,Be,rfl,s9,k9,y9,f9,WI,e9⟩:=(sF _ _ _).mp hv;clear hv;have lj:j<(aU st).length:=by have:=(zah.mp hj).1;lia
   obtain⟨v,hv,rb⟩:=r8.get (i:=j) (d:=.lst ((aU st)[j].map eF)) (by rw[zal,zaa lj];rfl);rw[hj] at hv;cases hv;have mj:(aU st)[j]∈aU st:=zao lj;obtain⟨fb,db⟩:=k0 st _ mj;have ej:(aU st).drop j=(aU st)[j]::(aU st).drop (j+1):=zbP lj;rw[ej,List.flatMap_cons] at e9;generalize (aU st)[j]=bb at *;obtain⟨ab,_,rfl,_⟩:=Rep.bq.mp rb;walk_at "rd";refine⟨.inl ⟨rfl,_,.of y9⟩,.ref sa,st,af,rfl,rv.mono s9,?_⟩;refine⟨ab,bb,_,rfl,rb.mono s9,by lia,by lia,fun Bw LC Bc wx WE P0 Qa=>?_⟩;have R9:=wx _ _ y9;have WJ:=f9.up (.of wx);have g10:eM K (·=tl) Bc ((PG.aK bb (gA st af)).map hZ) LC:=Kx R9 (xl _) Qa;have Bw:LC.length=(PG.aK bb (gA st af)).length:=by rw[Qa.length,zad]
   have tot:Be.length+(PG.aK bb (gA st af)).length<=2000:=by
    have h1:=congrArg zaR e9;have h2:=congrArg zaR ep;have h3:=congrArg zaR (PG.dU body x);simp only[zau,zad,zai] at h1 h2 h3;lia
   refine⟨tl,_,F0,LC,rfl,rfl,R9,P0,by lia,?_⟩;refine(sF _ _ _).mpr ⟨_,F0++LC,Be++PG.aK bb (gA st af),rfl,fun z o e=>?_,fun z o nz e=>?_,ai,?_,by simp[WI,Bw],by rw[<- e9];simp⟩
   ·rw[aD (aF e T7)];exact wx _ _ (s9 _ _ e)
   ·rw[aD nz];exact wx _ _ (k9 z o nz e)
   ·rw[zaw];exact(Jl WJ g10).up (a0.refl.put (O:=(·=tl)) rfl _)
  ·intro σ H9 hv;obtain⟨z6',F0,Be,rfl,s9,k9,y9,f9,WI,e9⟩:=(sF _ _ _).mp hv;rw[WH,zc4,List.flatMap_nil,zba] at e9;refine done _ _ ⟨_,_,_,_,Be,F0,rfl,s9,y9,f9,WI,?_⟩;rw[e9,<- ep];simp
 ·intro σ H2 hv;obtain⟨z3,z4,z5,z6,pre,us,rfl,s2,y2,f2,lu,ep⟩:=(jP _ _ _).mp hv;rw[lx,zc4,PG.aK,zba] at ep;refine(jv _ _).mpr ?_;walk_at "rd";rw[ep] at f2;exact q tl us H2 s2 T7 y2 f2.B6
theorem xF(T:Tx K mg t):∀n,bM P w K mg base fZ (n+2) t.cW t.c7 ["body", "behind"] (pZ K n)
 |0=>by
  have no:∀vs H Q E,¬pZ K 0 vs H Q E:=fun vs H Q E h=>by cases h;lia
  exact⟨fun vs H Q E h=>absurd h (no vs H Q E),fun A outer s H args us vs Q E _ _ _ _ h=>absurd h (no vs H Q E)⟩
 |n+1=>Jm T (xF T n)
theorem yV(T:Tx K mg t):bM P w K mg base fZ 8 t.rC t.qw ["program"] (G0 K):=by
 have jO:=xF (P:=P) (w:=w) (base:=base) T 5;refine T.rF.F.kZ DZ (fun vs H Q E h=>?_) (fun eA A outer s H vs Q E hr h=>?_)
 ·obtain⟨_,_,rfl,_⟩:=h;rfl
 obtain⟨v,pr,rfl,rp,hd,hf,q⟩:=h;have nd:=DZ.nd;obtain⟨Jc,vE,vF⟩:=T.yN;refine⟨_,[some v],(au (aH (aA jO (hr.mono (by first|decide|omega)) rfl T.bX.m T.bX.F.kp T.bX.b .nil aN (aa (av ax (pv 0) ak aj) (aa (tj rfl vE vF) ah ae) aG)))),rfl,?_⟩;unfold hX at rp;rw[Rep.bj] at rp;obtain⟨a,xs,rfl,hx,rs⟩:=rp;rw[aQ.aO] at rs;obtain⟨v1,t1,rfl,r1,rs⟩:=rs;rw[aQ.aO] at rs;obtain⟨v2,t2,rfl,r2,rs⟩:=rs;obtain⟨b,_,rfl,_⟩:=Rep.bq.mp r2;walk_at "rd";refine aJ hx (v:=.ref b) (aC (j:=1) rfl) ?_;exact⟨b,pr.body,0,rfl,r2,by lia,hf,fun l us H' s' hl y r=>q l us H' s' hl y r⟩
theorem Jn(T:Tx K mg t){n:Nat}(i7:bM P w K mg base fZ (n+2) t.cg t.cy ["body"] (ny K n)) :
 bM P w K mg base fZ (n+3) t.cg t.cy ["body"] (ny K (n+1)):=by
 have m6:bM P w K mg base fZ 1 t.eQ t.fh ["statement"] (pY K):=qB T;refine T.bR.F.kZ kK (fun vs H Q E h=>?_) (fun eA A outer s H vs Q E hr h=>?_)
 ·obtain⟨_,_,_,rfl,_⟩:=h;rfl
 obtain⟨b,body,H0,rfl,s0,rb,hd,hf,q⟩:=h;have nd:=kK.nd;refine⟨_,[some (V.ref b),none,none,none],(ao (aP (i:=1) nd rfl (zap rfl) (bE ah))
 (ao (eI PassesOwn.never rfl (bT (pv 0)) (aX (i:=2) nd rfl (zap rfl))
 (ao (dF (kB zaA zaO zaP c6 (pv 1) (aa (pv 2) ah ae)))
 (au (eI PassesOwn.never rfl (bT (aA m6 (hr.mono (by first|decide|omega)) rfl T.dq.m T.dq.F.kp T.dq.b .nil aN (aa (pv 2) ah ae))) (aX (i:=3) nd rfl (zap rfl))
 (au (dF (kB zaA zc5 zc6 xf (pv 1) (aa (aA i7 (hr.mono (by first|decide|omega)) rfl T.bR.m T.bR.F.kp T.bR.b .nil aN (aa (pv 3) ah ae)) ah aT))))))))
 (au (aH (pv 1))))),rfl,?_⟩
 have line:zdR=2 ^ 24:=rfl;rw[Rep.bq] at rb;obtain⟨_,xs,e,hx,rs⟩:=rb;cases e;have lx:xs.length=body.length:=by rw[rs.length,zad]
 have lb:=ic body;have sl:=qa body;refine aw fun U1 gf=>?_;walk_at "rd";intro d T8;have s1:=aq.new T8 (.lst []);have y1:(upd H d (.lst [])) d=some (.lst []):=ai;generalize upd H d (.lst [])=H1 at *;refine(gf _ _).mpr (aw fun U2 jv=>?_);clear gf;refine eL fun U hU=>?_;walk_at "rd";refine⟨⟨xs,(s0.trans s1).seq hx⟩,hU _ _ ?_⟩;clear hU;obtain⟨Pv,jP,OO⟩:=YE fun (i:Nat) (σ:St) (H3:Hp) zq=>∀(z2 z3:Option V) (us:List V),σ=[some (V.ref b),some (V.ref d),z2,z3]->aq H H3->us.length=(PG.aE (body.take i)).length->H3 d=some (.lst us)->aQ K H0 ((PG.aE (body.take i)).map eF) us->zq;refine eJ (K:=K) (a:=b) (xs:=xs) Pv ((jP _ _ _ fun _ zk=>zk none none [] rfl s1 rfl y1 .nil)) (fun i σ H3 _ hv=>?_) ?_ ?_
 ·refine OO _ _ _ hv _ fun _ _ _ _ s3 _ _ _=>?_;exact(s0.trans s3).seq hx
 ·intro i y σ H3 hi hv;refine OO _ _ _ hv _ fun z2 z3 us WK s3 lu y3 r3=>?_;subst WK;clear hv;have done:=fun σ H7=>jP (i+1) σ H7;have li:i<body.length:=by have:=(zah.mp hi).1;lia
  obtain⟨v,hv,rv⟩:=rs.get (i:=i) (d:=eF body[i]) (by rw[zal,zaa li];rfl);rw[hi] at hv;cases hv;have mem:body[i]∈body:=zao li;obtain⟨fm,dm⟩:=qU body _ mem;have et:PG.aE (body.take (i+1))=PG.aE (body.take i)++body[i]::(aU body[i]).flatMap PG.aE:=by
   rw[zcs li,mE,Hc,Ky]
  rw[et] at done;have eb:PG.aE body=(PG.aE (body.take i)++body[i]::(aU body[i]).flatMap PG.aE)++PG.aE (body.drop (i+1)):=by
   rw[<- et,<- mE,zb4]
  rw[eb] at sl;have sl:(PG.aE (body.take i)++body[i]::(aU body[i]).flatMap PG.aE).length<=1000:=by
   rw[zau] at sl;lia
  generalize body[i]=st at *;generalize PG.aE (body.take i)=pre at *;simp only[eG,zbA];refine aw fun U3 jT=>?_;walk_at "rd";refine⟨.inl ⟨rfl,_,.of y3⟩,d,us,y,rfl,rfl,y3,by simp only[zau,zai] at sl;lia,(jT _ _).mpr ?_⟩;clear jT;have y4:(upd H3 d (.lst (us++[y]))) d=some (.lst (us++[y])):=ai;have s4:aq H (upd H3 d (.lst (us++[y]))):=fun z o e=>by rw[aD (aF e T8)];exact s3 z o e
  generalize upd H3 d (.lst (us++[y]))=H4 at *;refine eL fun U hU=>?_;walk_at "rd";refine⟨y,st,H0,rfl,rv,s0.trans s4,fun p bv H5 Zg hp h5 rc=>⟨p,rfl,⟨_,.of h5⟩,hU _ _ ?_⟩⟩;clear hU;have s5:=s4.trans Zg;have y5:=Zg _ _ y4;have npd:p≠d:=(aF y4 hp).symm;have WH:bv.length=(aU st).length:=by rw[rc.length,zad]
  obtain⟨Pw,sF,OP⟩:=YE fun (j:Nat) (σ:St) (H6:Hp) zq=>∀(z3:Option V) (F0:List V),σ=[some (V.ref b),some (V.ref d),some y,z3]->aq H H6->H6 p=some (.lst bv)->F0.length=(pre++st::((aU st).take j).flatMap PG.aE).length->H6 d=some (.lst F0)->aQ K H0 ((pre++st::((aU st).take j).flatMap PG.aE).map eF) F0->zq;refine eJ (K:=K) (a:=p) (xs:=bv) Pw ((sF _ _ _ fun _ zk=>zk z3 (us++[y]) rfl s5 h5 (by simp[lu]) y5 ?_)) (fun j σ H6 _ hv=>?_) ?_ ?_
  ·rw[List.take_zero,List.flatMap_nil,zaw];exact r3.append (.cons rv .nil)
  ·refine OP _ _ _ hv _ fun _ _ _ _ h6 _ _ _=>?_;exact .of h6
  ·intro j y' σ H6 hj hv;refine OP _ _ _ hv _ fun z3' F0 WK s6 h6 WL y6 r6=>?_;subst WK;clear hv;have ML:=fun σ H7=>sF (j+1) σ H7;have lj:j<(aU st).length:=by have:=(zah.mp hj).1;lia
   obtain⟨v,hv,Zh⟩:=rc.get (i:=j) (d:=.lst ((aU st)[j].map eF)) (by rw[zal,zaa lj];rfl);rw[hj] at hv;cases hv;have mj:(aU st)[j]∈aU st:=zao lj;obtain⟨fb,db⟩:=k0 st _ mj;have ej:((aU st).take (j+1)).flatMap PG.aE=((aU st).take j).flatMap PG.aE++PG.aE (aU st)[j]:=by
    rw[zcs lj,zdE];simp
   have ea:(aU st).flatMap PG.aE=((aU st).take j).flatMap PG.aE++PG.aE (aU st)[j]++((aU st).drop (j+1)).flatMap PG.aE:=by
    rw[<- ej,<- zdE,zb4]
   rw[ej] at ML;rw[ea] at sl;generalize (aU st)[j]=bb at *;generalize ((aU st).take j).flatMap PG.aE=mid at *;generalize ((aU st).drop (j+1)).flatMap PG.aE=rest at *;have QU:(pre++st::mid).length+(PG.aE bb).length<=1000:=by
    simp only[zau,zai] at sl ⊢;lia
   obtain⟨ab,_,rfl,_⟩:=Rep.bq.mp Zh;simp only[eG,zbA];walk_at "rd";refine⟨.inl ⟨rfl,_,.of y6⟩,ab,bb,H0,rfl,s0.trans s6,Zh,by lia,by lia,fun d2 Aq H7 s7 hd2 y7 r7=>?_⟩;have l2:Aq.length=(PG.aE bb).length:=by rw[r7.length,zad]
   refine⟨d,d2,_,_,rfl,rfl,s7 _ _ y6,y7,by lia,?_⟩;refine ML _ _ (fun _ zk=>zk _ (F0++Aq) rfl (fun z o e=>by rw[aD (aF e T8)];exact s7 _ _ (s6 z o e)) (by rw[aD npd];exact s7 _ _ h6) (by simp only[zau,zai] at *;lia) ai ?_);rw[show pre++st::(mid++PG.aE bb)=(pre++st::mid)++PG.aE bb by simp,zaw];exact r6.append r7
  ·intro σ H6 hv;refine OP _ _ _ hv _ fun z3' F0 WM s6 h6 WL y6 r6=>?_;subst WM;rw[WH,za6] at WL r6;exact done _ _ (fun _ zk=>zk _ _ F0 rfl s6 WL y6 r6)
 ·intro σ H3 hv;refine OO _ _ _ hv _ fun z2 z3 us WM s3 lu y3 r3=>?_;subst WM;rw[lx,za6] at lu r3;refine(jv _ _).mpr ?_;walk_at "rd";exact q d us H3 s3 T8 y3 r3
theorem nN(T:Tx K mg t):∀n,bM P w K mg base fZ (n+2) t.cg t.cy ["body"] (ny K n)
 |0=>by
  have no:∀vs H Q E,¬ny K 0 vs H Q E:=fun vs H Q E h=>by cases h;lia
  exact⟨fun vs H Q E h=>absurd h (no vs H Q E),fun A outer s H args us vs Q E _ _ _ _ h=>absurd h (no vs H Q E)⟩
 |n+1=>Jn T (nN T n)
theorem qC(T:Tx K mg t):bM P w K mg base fZ 11 t.iP t.jg ["program", "row", "ranges"] (Cp K):=by
 have g1:=gP (P:=P) (w:=w) (base:=base) T;have g2:=nN (P:=P) (w:=w) (base:=base) T 5;have g3:=yV (P:=P) (w:=w) (base:=base) T;have gQ:=kj (P:=P) (w:=w) (base:=base) T g1 g2 g3;have kR:=pA (P:=P) (w:=w) (base:=base) T;refine T.du.F.kZ qp (fun vs H Q E h=>?_) (fun eA A outer s H vs Q E hr h=>?_)
 ·obtain⟨_,_,_,_,_,rfl,_⟩:=h;rfl
 obtain⟨F1,rv,pr,row,rs,rfl,hp,hd,hf,ok,Lx,ll,bp,q⟩:=h;have nd:=qp.nd;refine⟨_,[some F1,some (.int row),some rv],(au (aH (aA kR (hr.mono (by first|decide|omega)) rfl T.c8.m T.c8.F.kp T.c8.b .nil aN (aa (xP T.mX gQ (hr.mono (by first|decide|omega)) rfl T.vB T.lL .nil aN (aa (pv 0) ah ae)) (aa (pv 1) (aa (pv 2) ah ae) ae) aT)))),rfl,?_⟩;walk_at "rd";intro p dx MM MF ne;have s1:aq H (upd (upd H dx (.own p)) p (.ins t.aR dx [])):=(aq.new MF _).trans (aq.new (by rw[aD ne.symm];exact MM) _);refine⟨p,dx,F1,pr,rfl,ai,by rw[aD ne];exact ai,hp.mono s1,hd,hf,ok.pw,ok.nb,ok.gc,fun H2 u2 co=>⟨rfl,?_⟩⟩;have s2:aq H H2:=((bc.of s1).trans u2).same MM;refine⟨p,rv,pr,row,rs,rfl,co,ok,Lx.mono s2,ll,bp,?_⟩;rcases q with ⟨e,q⟩ |⟨n0,i,hi,Yv,er,po,w0,q⟩
 ·exact .inl ⟨e,fun L H3 s3 h3 y3=>q L H3 (s2.trans s3) (s2.free h3) y3⟩
 ·exact .inr ⟨n0,i,hi,Yv,er,po,w0,fun L us H3 s3 h3 y3 w3=>q L us H3 (s2.trans s3) (s2.free h3) y3 w3⟩
theorem ma(T:Tx K mg t):bM P w K mg base fZ 1 t.eT t.fT ["chart"] (Ip K t.aR):=by
 refine T.b8.F.kZ l6 (fun vs H Q E h=>?_) (fun eA A outer s H vs Q E hr h=>?_)
 ·obtain⟨_,_,rfl,_⟩:=h;rfl
 obtain⟨ch,pr,rfl,co,gc,q⟩:=h;have nd:=l6.nd;refine⟨_,[some (.ref ch)],(au (aH (bL cP rfl T.iJ PyProof.Rows.Boot.«tuple» (aa (de (own:=["first"]) (ix:=[]) rfl (by rfl) (by rfl) (Ge (av ax (g9 (pv 0) rfl) ak aj)) (fun _ _ _ _=>(aX (i:=0) (by show List.Nodup (["first"]:List Str);decide +kernel) rfl (zap rfl))) (fun _ _ _ _=>cZ) (fun _ _ _ _=>(bf (aa (pv 0) (aa (pv 0) ah ae) ae)))) ah eZ)))),rfl,?_⟩;walk_at "rd";simp only[fJ];walk_at "rd";obtain⟨OQ,nl,sd,fa,OB,st,wy,uu,ws,h1,h2,h3,h4,h5,h6,_⟩:=co.at_;refine⟨ch,_,OQ,_,.ref fa,rfl,h1,T.cw,T.cY,rfl,?_⟩;walk_at "rd";refine aJ (.of h5) (v:=.ref OB) (aC (j:=1) rfl) ⟨OB,rfl,⟨_,.of h6⟩,fun D hD=>?_⟩;have e6:(pr.ay.map fun b=>V.int b.first).length=pr.ay.length:=zad ..;refine E8 (K:=K) (fun τ=>∃x,τ=[x]) (fun i ys H2=>∀j (hj:j<ys.length),∃r,(one (pr.ay.map (·.first)))[j]?=some r/\cm K H2 ys[j] r) (.of h6) (by rw[e6];lia) hD ⟨none,rfl⟩ (fun j hj=>by simp at hj) ?_ ?_
 ·rintro i x ys τ H2 hx ⟨x0,rfl⟩ s2 kS ly pv R hR
  rw[zal] at hx;obtain⟨b,hb,rfl⟩:=zaD.mp hx;walk_at "rd";intro p hp;have er:(one (pr.ay.map (·.first)))[i]?=some (b.first,b.first):=by
   unfold one;rw[zal,zal,hb];rfl
  refine hR _ _ _ ⟨_,rfl⟩ (aq.new hp _) fun j hj=>?_;have vG:=aq.new hp (.tup [.int b.first,.int b.first]) _ _ kS;have g3:cm K (upd H2 p (.tup [.int b.first,.int b.first])) (.ref p) (b.first,b.first):=cm.new rfl;by_cases z:j<ys.length
  ·obtain⟨r1,e1,g1⟩:=pv j z;refine⟨r1,e1,?_⟩;rw[za9 z];exact(g1.mono (aq.new hp _)).gB vG ((bc.refl _ _).put _)
  ·have:j=ys.length:=by simp at hj;lia
   subst this;refine⟨_,by rw[ly];exact er,?_⟩;rw[za8 (zaj _)];simp only[zbT,zbg];exact g3.gB vG ((bc.refl _ _).put _)
 ·intro ys H2 s2 kS ly pv;refine⟨D,ys,rfl,.inl ⟨.of kS,fun l hl=>q _ _ (s2.trans (aq.new hl _)) ⟨l,ys,rfl,.of ai,?_,fun j hj=>let ⟨r,er,g⟩:=pv j hj;⟨r,er,g.mono (aq.new hl _)⟩⟩⟩⟩;rw[ly,e6];unfold one;rw[zad,zad]
theorem CW(T:Tx K mg t):bM P w K mg base fZ 1 t.kP t.lK ["one", "other"] (Li K):=by
 refine T.ju.F.kZ vA (fun vs H Q E h=>?_) (fun eA A outer s H vs Q E hr h=>?_)
 ·obtain⟨_,_,_,_,rfl,_⟩:=h;rfl
 obtain⟨v,u,ra,rb,rfl,hv,hu',ll,Bw,q⟩:=h;have nd:=vA.nd;refine⟨_,[some v,some u],(au (aH (bL cP rfl T.iJ PyProof.Rows.Boot.«tuple» (aa (de (own:=["a", "b"]) (ix:=[]) rfl (by rfl) (by rfl) (vd rfl T.sC (aa (pv 0) (aa (pv 1) ah ae) ae)) (fun _ _ _ _=>(jf (K:=K) rfl 2 rfl (bH (aX (i:=0) (by show List.Nodup (["a", "b"]:List Str);decide +kernel) rfl (zap rfl)) (bH (aX (i:=1) (by show List.Nodup (["a", "b"]:List Str);decide +kernel) rfl (zap rfl)) gg)))) (fun _ _ _ _=>cZ) (fun _ _ _ _=>(bf (aa (bh (gZ rfl) rfl T.oC PyProof.Rows.Boot.«min» (aa (av (bF (K:=K) rfl) (pv 0) ak aj) (aa (av (bF (K:=K) rfl) (pv 1) ak aj) ah aG) aG)) (aa (bh (jm rfl) rfl T.qx PyProof.Rows.Boot.«max» (aa (av (bF (K:=K) rfl) (pv 0) ak aj) (aa (av (bF (K:=K) rfl) (pv 1) ak aj) ah aG) aG)) ah aT) aT)))) ah eZ)))),rfl,?_⟩;walk_at "rd";simp only[fJ];walk_at "rd";obtain⟨a,xs,rfl,ha,lx,gx⟩:=hv;obtain⟨b,ys,rfl,hb,ly,gy⟩:=hu';refine⟨a,b,rfl,⟨_,ha⟩,⟨_,hb⟩,fun D hD=>?_⟩;refine vq (K:=K) (fun τ=>∃x y,τ=[x,y]) (fun i zs H2=>∀j (hj:j<zs.length),∃r,(dQ ra rb)[j]?=some r/\cm K H2 zs[j] r) ha hb (by lia) (by lia) hD ⟨none,none,rfl⟩ (fun j hj=>by simp at hj) ?_ ?_
 ·rintro i x y zs τ H2 p hx hy ⟨x0,y0,rfl⟩ s2 kS lz pv hp R hR
  obtain⟨hi,rfl⟩:=zah.mp hx;obtain⟨sG,rfl⟩:=zah.mp hy;obtain⟨r1,MN,a1,ex,h1⟩:=gx i hi;obtain⟨r2,JQ,a2,ey,h2⟩:=gy i sG;have s3:=aq.new hp (.tup [xs[i],ys[i]]);refine⟨p,_,rfl,.of ai,rfl,?_⟩;generalize upd H2 p (.tup [xs[i],ys[i]])=H3 at *;have px:=s2.trans s3;walk_at "rd";rw[ex,ey];refine⟨_,_,rfl,_,_,rfl,rfl,mh (px.br h1) ?_⟩;refine mh (px.br h2) ?_;refine⟨_,_,rfl,?_⟩;refine mi (px.br h1) ?_;refine mi (px.br h2) ?_;refine⟨_,_,rfl,fun p5 OR=>?_⟩;have ea:(if r2.1<r1.1 then r2.1 else r1.1)=min r1.1 r2.1:=by split<;>lia
  have eb:(if r2.2>r1.2 then r2.2 else r1.2)=max r1.2 r2.2:=by split<;>lia
  rw[ea,eb];have er:(dQ ra rb)[i]?=some (min r1.1 r2.1,max r1.2 r2.2):=by
   unfold dQ;have ez:(ra.zip rb)[i]?=some (r1,r2):=zbO.mpr ⟨MN,JQ⟩;rw[zal,ez];rfl
  refine hR _ _ _ ⟨_,_,rfl⟩ (s3.trans (aq.new OR _)) fun j hj=>?_;have vG:=aq.new OR (.tup [.int (min r1.1 r2.1),.int (max r1.2 r2.2)]) _ _ (s3 _ _ kS);have g3:cm K (upd H3 p5 (.tup [.int (min r1.1 r2.1),.int (max r1.2 r2.2)])) (.ref p5) (min r1.1 r2.1,max r1.2 r2.2):=cm.new rfl;by_cases z:j<zs.length
  ·obtain⟨r1,e1,g1⟩:=pv j z;refine⟨r1,e1,?_⟩;rw[za9 z];exact(g1.mono (s3.trans (aq.new OR _))).gB vG ((bc.refl _ _).put _)
  ·have:j=zs.length:=by simp at hj;lia
   subst this;refine⟨_,by rw[lz];exact er,?_⟩;rw[za8 (zaj _)];simp only[zbT,zbg];exact g3.gB vG ((bc.refl _ _).put _)
 ·intro zs H2 s2 kS lz pv;refine⟨D,zs,rfl,.inl ⟨.of kS,fun l hl=>q _ _ (s2.trans (aq.new hl _)) ⟨l,zs,rfl,.of ai,?_,fun j hj=>let ⟨r,er,g⟩:=pv j hj;⟨r,er,g.mono (aq.new hl _)⟩⟩⟩⟩;rw[lz,span_len ll];lia
theorem sV(T:Tx K mg t):bM P w K mg base fZ 12 t.eR t.fR ["program"] (AY K):=by
 have g1:=gP (P:=P) (w:=w) (base:=base) T;have g2:=nN (P:=P) (w:=w) (base:=base) T 5;have g3:=yV (P:=P) (w:=w) (base:=base) T;have gQ:=kj (P:=P) (w:=w) (base:=base) T g1 g2 g3;have kR:=pA (P:=P) (w:=w) (base:=base) T;have jQ:=ma (P:=P) (w:=w) (base:=base) T;have FN:=CW (P:=P) (w:=w) (base:=base) T;refine T.bY.F.kZ lZ (fun vs H Q E h=>?_) (fun eA A outer s H vs Q E hr h=>?_)
 ·obtain⟨_,_,rfl,_,_,_⟩:=h;rfl
 obtain⟨F1,pr,rfl,rp,sd,q⟩:=h;have nd:=lZ.nd;have hu:=i8 hr;have dr:=sd.dr;have ok:=dr.ok;have line:zdR=2 ^ 24:=rfl;refine⟨_,[some F1,none,none,none,none,none,none,none],(ao (aP (i:=1) nd rfl (zap rfl) (xP T.mX gQ (hr.mono (by first|decide|omega)) rfl T.vB T.lL .nil aN (aa (pv 0) ah ae)))
 (ao (aP (i:=2) nd rfl (zap rfl) (Dt (Af (av ax (g9 (pv 1) rfl) ak aj) (aA jQ (hr.mono (by first|decide|omega)) rfl T.b8.m T.b8.F.kp T.b8.b .nil aN (aa (pv 1) ah ae)) Ds) rfl rfl (by simp) (by decide)))
 (ao (aP (i:=3) nd rfl (zap rfl) (bE (aa (av ax (g9 (pv 1) rfl) ak aj) ah aG)))
 (ao (zR PassesOwn.never (zV (pv 3) (fun _=>rfl))
 (ao (aP (i:=4) nd rfl (zap rfl) (xU zaA zcv zcw BV (pv 3)))
 (au (eI PassesOwn.never rfl (bT (aA kR (hr.mono (by first|decide|omega)) rfl T.c8.m T.c8.F.kp T.c8.b .nil aN (aa (pv 1) (aa (pv 4) (aa (dc hu (pv 2) (pv 4) (fun _ _=>rfl)) ah aG) ae) ae))) (aX (i:=5) nd rfl (zap rfl))
 (ao (aP (i:=6) nd rfl (zap rfl) (GC hu (pv 2) (av ax (pv 5) ak aj) ⟨rfl,rfl,rfl,rfl⟩))
 (ao (aP (i:=7) nd rfl (zap rfl) (ub (aM Nv (pv 6) kT (aS _)) (av ax (pv 5) ak aj) (aA FN (hr.mono (by first|decide|omega)) rfl T.ju.m T.ju.F.kp T.ju.b .nil aN (aa (pv 6) (aa (av ax (pv 5) ak aj) ah aG) ae))))
 (au (bB (aM (yh (B3 hr)) (pv 7) (pv 6) (aS _))
 (ao (nu hu (pv 2) (av ax (pv 5) ak aj) (pv 7) rfl)
 (au (dF (kB zaA zaO zaP c6 (pv 3) (aa (av ax (pv 5) ak aj) ah aG)))))
 aW))))))))
 (au (aH (bh (yC rfl) rfl T.kQ PyProof.Rows.Boot.«sorted» (aa (Fw (pv 2)) ah aT)))))))),rfl,?_⟩
 refine aw fun U1 gf=>?_;walk_at "rd";intro ch dx MM MF ne;have s1:aq H (upd (upd H dx (.own ch)) ch (.ins t.aR dx [])):=(aq.new MF _).trans (aq.new (by rw[aD ne.symm];exact MM) _);refine⟨ch,dx,F1,pr,rfl,ai,by rw[aD ne];exact ai,rp.mono s1,dr.dep,dr.gc,ok.pw,ok.nb,ok.gc,fun H2 u2 co=>⟨rfl,(gf _ _).mpr (aw fun U2 jv=>?_)⟩⟩;clear gf;have s2:aq H H2:=((bc.of s1).trans u2).same MM;clear s1 u2;walk_at "rd";unfold Gy oQ;walk_at "rd";intro F hF;have e3:=aq.new hF (.dK []);have yF:(upd H2 F (.dK [])) F=some (.dK []):=ai;have WN:=co.mono e3;generalize upd H2 F (.dK [])=H3 at *;obtain⟨OQ,nl,Zi,fa,OB,st,wy,uu,ws,h1,h2,h3,h4,h5,h6,_⟩:=WN.at_;refine⟨ch,_,OQ,_,.ref fa,rfl,h1,T.cw,T.cY,rfl,?_⟩;refine aJ (.of h5) (v:=.int (PG.aB pr.body 0)) (aC (j:=0) rfl) ⟨ch,pr,rfl,WN,ok.gc,fun rv H4 s4 r4=>?_⟩;unfold oQ;refine⟨s4 _ _ yF,[(.inl (PG.aB pr.body 0),rv)],rfl,by simp,?_⟩;rw[show hJ [] [((.inl (PG.aB pr.body 0):Key),rv)]=[(PG.aB pr.body 0,rv)].map kI from rfl];have Zj:=s4 _ _ yF;have r5:dC K (upd H4 F (.dK ([(PG.aB pr.body 0,rv)].map kI))) rv _:=r4.dk Zj ((bc.refl _ _).put _);have s5:aq H2 (upd H4 F (.dK ([(PG.aB pr.body 0,rv)].map kI))):=((bc.of (e3.trans s4)).put _).same hF;have Qg:(upd H4 F (.dK ([(PG.aB pr.body 0,rv)].map kI))) F=_:=ai;generalize upd H4 F (.dK ([(PG.aB pr.body 0,rv)].map kI))=H5 at *;clear h1 h2 h3 h4 h5 h6 WN Zj yF e3 s4 r4;refine(jv _ _).mpr (aw fun U3 jT=>?_);clear jv;have Zk:=co.mono s5;obtain⟨OQ,nl,Zi,fa,OB,st,wy,uu,ws,h1,h2,h3,h4,h5,h6,_⟩:=Zk.at_;walk_at "rd";refine⟨ch,_,OQ,_,.ref fa,rfl,h1,T.cw,T.cY,rfl,?_⟩;refine aJ (.of h5) (v:=.int (PG.aB pr.body 0)) (aC (j:=0) rfl) fun W hW=>(jT _ _).mpr (aw fun U4 lO=>?_);clear jT h1 h2 h3 h4 h5 h6 Zk;have e6:=aq.new hW (.lst [V.int (PG.aB pr.body 0)]);have yW:(upd H5 W (.lst [V.int (PG.aB pr.body 0)])) W=some (.lst ([PG.aB pr.body 0].map V.int)):=ai;have Zl:=e6 _ _ Qg;have r6:=r5.mono e6;have s6:=s5.trans e6;have fW:H2 W=none:=s5.free hW;have WO:F≠W:=aF Qg hW;generalize upd H5 W (.lst [V.int (PG.aB pr.body 0)])=H6 at *;clear Qg r5 s5 e6 hW;obtain⟨f,hf⟩:∃f:List PG.Rg->Nat,f=fun rs=>1+vT rs:=⟨_,rfl⟩
 obtain⟨MX,Qh,MXl⟩:∃MX:Nat,((PG.aE pr.body).length+1)*37=MX/\MX<=1517:=⟨_,rfl,by have:=sd.len;lia⟩
 refine Ht fun Bd OS=>?_;walk_at "rd";obtain⟨Iv,CY⟩:∃Iv:Nat->St->Hp->Prop,∀m σ Hx,Iv m σ Hx↔∃(z4 z5 z6 z7:Option V) (kvs:List (Int×V)) (mm:List (Int×List PG.Rg)) (w:List Int),σ=[some F1,some (.ref ch),some (.ref F),some (.ref W),z4,z5,z6,z7]/\aq H2 Hx/\Hx F=some (.dK (kvs.map kI))/\Hx W=some (.lst (w.map V.int))/\RelM K Hx kvs mm/\LI pr mm w/\Ir pr mm/\m=2*(MX-ig f mm)+w.length:=⟨_,fun _ _ _=>Iff.rfl⟩
 refine⟨Iv,⟨_,(CY _ _ _).mpr ⟨none,none,none,none,_,[(PG.aB pr.body 0,one (pr.ay.map (·.first)))],[PG.aB pr.body 0],rfl,s6,Zl,yW,.cons ⟨rfl,r6⟩ .nil,LI.one dr.size (si pr),Ir.one,rfl⟩⟩,?_⟩;clear r6 s6 Zl yW;intro m σ Hx hv;obtain⟨z4,z5,z6,z7,kvs,mm,w,rfl,sx,LG,Qi,rel,li,OT,rfl⟩:=(CY _ _ _).mp hv;clear hv;have gc:=li.lm.gc sd.gc dr.size;rw[<- hf,Qh] at gc;have lw:=li.lm.many;rw[<- hf] at lw;walk_at "rd";rcases List.eq_nil_or_concat w with rfl |⟨w1,r,rfl⟩
 ·refine⟨false,.inl ⟨_,.of Qi,rfl⟩,(if_neg (by decide)).mpr ((lO _ _).mpr ?_)⟩;clear lO OS CY;walk_at "rd";unfold RO;walk_at "rd";have lk:kvs.length=mm.length:=by have:=congrArg zaR rel.keys;rwa [zad,zad] at this
  have WQ:=sd.len;have nmm:kvs≠[]:=fun z=>by
   obtain⟨u,e,_⟩:=li.lm.first;rw[z] at lk;rw[zbI.mp lk.symm] at e;cases e
  refine⟨F,_,rfl,LG,fun pv Zm=>⟨pv,F,kvs,rfl,ai,(aq.new Zm _) _ _ LG,nmm,by lia,fun L RP ps H9 s9 hL pm pw pa yL=>?_⟩⟩;have sn:=aq.new Zm (.ext (tQ pv F));have Zn:=s2.trans (sx.trans sn);have Jo:=rel.mono (H':=H9) fun v rs h=>h.mono (sn.trans s9);obtain⟨ms,r1,p1⟩:=Paired.RU pm Jo;have ek:RP.map (·.1)=ms.map (·.1):=RelM.keys r1;have rise:kJ ms:=by
   have:(ms.map (·.1)).Pairwise (· < ·):=by rw[<- ek];exact zaL.mpr pw
   exact zaL.mp this
  have eg:∀k,bg ms k=bg mm k:=fun k=>AX p1 ((p1.map _).nodup_iff.mpr li.lm.nd) k;exact q L _ ms H9 (Zn.trans s9) (Zn.free hL) yL (CH pa r1) rise ⟨li.Ot.congr fun k=>(eg k).symm,fun k u e=>OT k u (by rw[<- eg];exact e),fun e he=>li.lm.mf e (p1.mem_iff.mp he)⟩
 ·rw[List.concat_eq_append] at *;refine⟨true,.inl ⟨_,.of Qi,by simp⟩,(if_pos rfl).mpr ⟨fun σ' H'=>∃m',m'<2*(MX-ig f mm)+(w1++[r]).length/\Iv m' σ' H',fun _ _ h=>h,OS _ _ _ ?_⟩⟩;clear OS lO;refine aw fun V1 MO=>?_;walk_at "rd";rw[zaw] at Qi;refine⟨.inl ⟨rfl,_,.of Qi⟩,W,_,.int r,rfl,rfl,Qi,by simp,(MO _ _).mpr ?_⟩;clear MO;rw[show (w1.map V.int++[r].map V.int).dropLast=w1.map V.int by simp];have k7:∀v rs,dC K Hx v rs->dC K (upd Hx W (.lst (w1.map V.int))) v rs:=fun v rs h=>h.gB Qi ((bc.refl _ _).put _);have OU:(upd Hx W (.lst (w1.map V.int))) F=_:=(aD WO).trans LG;have Zo:(upd Hx W (.lst (w1.map V.int))) W=_:=ai;have s7:aq H2 (upd Hx W (.lst (w1.map V.int))):=((bc.of sx).put _).same fW;have Sa:=rel.mono k7;generalize upd Hx W (.lst (w1.map V.int))=H7 at *;obtain⟨rs,er⟩:=li.lm.wait r (by simp);obtain⟨Eh,oZ,ek,OV,WR⟩:∃v u,bg kvs r=some v/\bg mm r=some u/\dC K H7 v u:=by
   rcases Sa.get r with h |h
   ·rw[er] at h;cases h.2
   ·exact h
  rw[er] at OV;cases OV;have vV:=(li.lm.mf _ (get_mem er)).1;have OW:=vV.TY dr.size;have lj:=li.pop er;have ll:rs.length=pr.ay.length:=vV.bd.1;have vk:c0 (kvs.map kI) (.inl r)=some Eh:=by rw[iY];exact ek
  refine eL fun U hU=>?_;walk_at "rd";have loop:∀(L:zdJ) (us:List V) (dI:List (Int×List PG.Rg)) (H8:Hp),aq H7 H8->H7 L=none->H8 L=some (.lst us)->c5 K H8 us dI->(∀p∈dI,fE pr.ay p.2/\Bu pr p.1/\CG pr p.1 p.2)->(∀(i:Nat) (hi:i<(PG.aE pr.body).length) (hf:i<(PG.aK pr.body 0).length),(PG.aE pr.body)[i].row=r->PG.dD pr.ay rs (PG.aK pr.body 0)[i].2.2 (PG.aE pr.body)[i]=dI)->U L H8:=by
   intro L us dI H8 s8 hL yL wo WS hw;refine hU _ _ ?_;clear hU;have Sb:L≠F:=(aF OU hL).symm;have nLW:L≠W:=(aF Zo hL).symm;have wt:=wo.len;obtain⟨Pv,jP⟩:∃Pv:Nat->St->Hp->Prop,∀j σ Hy,Pv j σ Hy↔∃(z5 z6 z7:Option V) (km:List (Int×V)) (m2:List (Int×List PG.Rg)) (w2:List Int),σ=[some F1,some (.ref ch),some (.ref F),some (.ref W),some (.int r),z5,z6,z7]/\aq H2 Hy/\Hy L=some (.lst us)/\Hy F=some (.dK (km.map kI))/\Hy W=some (.lst (w2.map V.int))/\RelM K Hy km m2/\c5 K Hy us dI/\LJ pr r rs (dI.take j) m2 w2/\Ir pr m2/\2*(MX-ig f m2)+w2.length<=2*(MX-ig f mm)+w1.length:=⟨_,fun _ _ _=>Iff.rfl⟩
   refine eJ (K:=K) (a:=L) (xs:=us) Pv ((jP _ _ _).mpr ⟨_,_,_,kvs,mm,w1,rfl,s7.trans s8,yL,s8 _ _ OU,s8 _ _ Zo,Sa.mono fun v rs h=>h.mono s8,wo,lj,OT,zaj _⟩) ?_ ?_ ?_
   ·intro j σ Hy hj hv;obtain⟨_,_,_,_,_,_,_,_,h,_⟩:=(jP _ _ _).mp hv;exact .of h
   ·intro j x σ Hy hx hv;obtain⟨z5,z6,z7,km,m2,w2,rfl,sy,WT,F2,T9,vI,Ua,MP,Jp,Zp⟩:=(jP _ _ _).mp hv;clear hv;obtain⟨wq,LH,a1,u1,rfl,hT,hR⟩:=Ua.get hx;have tk:dI.take (j+1)=dI.take j++[wq]:=by rw[zbG,LH];rfl
    obtain⟨OX,WU,Ub⟩:=WS wq (zav LH);have OY:=MP.lm.gc sd.gc dr.size;rw[<- hf,Qh] at OY;have Wz:=MP.lm.many;rw[<- hf] at Wz;have lk2:km.length=m2.length:=by have:=congrArg zaR vI.keys;rwa [zad,zad] at this
    have WQ:=sd.len;have OA:∀ {H':Hp} {Q':VK},cF K H' a1 [.int wq.1,u1]->Q' (.int wq.1) H'->me K (.ref a1) (.int 0) H' Q':=fun h q=>aJ h (v:=.int wq.1) (aC (j:=0) rfl) q;have Bt:∀ {H':Hp} {Q':VK},cF K H' a1 [.int wq.1,u1]->Q' u1 H'->me K (.ref a1) (.int 1) H' Q':=fun h q=>aJ h (v:=u1) (aC (j:=1) rfl) q;refine aw fun V2 Sd=>?_;walk_at "rd";unfold GA;walk_at "rd";refine⟨.inl ⟨_,.inl F2⟩,OA hT ⟨_,eK.k (k:=.inl wq.1) F2,(Sd _ _).mpr (aw fun V3 Se=>?_)⟩⟩;clear Sd;rw[iY];have fin:∀(Hz:Hp) (both before:V) (vb:List PG.Rg) (ob:Option (List PG.Rg)),aq Hy Hz->dC K Hz both vb->vf K Hz before ob->bg m2 wq.1=ob->fE pr.ay vb->Sub wq.2 vb->CG pr wq.1 vb->(∀u,ob=some u->Sub u vb)->V3 [some F1,some (.ref ch),some (.ref F),some (.ref W),some (.int r),some (.ref a1),some before,some both] Hz:=by
     intro Hz both before vb ob sz rb ro eo inv Sf clv WV;refine(Se _ _).mpr ?_;clear Se;refine KR fun UB Qj=>?_;walk_at "rd";refine⟨_,_,rb.rep,ro.rep,Im _,MA _,?_⟩;rw[Il];refine⟨_,rfl,?_⟩;by_cases z:some vb=ob
     ·rw[decide_eq_true z];refine(if_neg (by decide)).mpr ((jP _ _ _).mpr ⟨_,_,_,km,m2,w2,rfl,sy.trans sz,sz _ _ WT,sz _ _ F2,sz _ _ T9,vI.mono fun v rs h=>h.mono sz,Ua.map fun v w h=>h.mono sz,?_,Jp,Zp⟩);rw[tk];exact MP.skip (by rw[eo,<- z]) Sf
     ·rw[decide_eq_false z];refine(if_pos (by decide)).mpr ((Qj _ _).mpr ?_);clear Qj;have Zq:=sz.br hT;have Jq:=sz _ _ F2;have yWz:=sz _ _ T9;have Uc:=sz _ _ WT;obtain⟨Zr,lt⟩:=MP.put inv WU Sf fun u e=>⟨WV u (by rw[<- eo];exact e),fun y=>z (by rw[<- y,<- eo,e])⟩
      rw[<- hf] at lt;have WW:=Zr.lm.gc sd.gc dr.size;rw[<- hf,Qh] at WW;refine aw fun V4 Zt=>?_;walk_at "rd";refine OA Zq ⟨F,_,rfl,sO.k (k:=.inl wq.1) Jq (by rw[zad];lia),(Zt _ _).mpr ?_⟩;clear Zt;rw[Io];have u8:bc F Hz (upd Hz F (.dK ((eE km wq.1 both).map kI))):=(bc.refl _ _).put _;have WX:(upd Hz F (.dK ((eE km wq.1 both).map kI))) F=_:=ai;have Ud:=u8 _ _ WO.symm yWz;have yL9:=u8 _ _ Sb Uc;have hT9:=Zq.dk Jq u8;have Jo:=(((vI.mono fun v rs h=>h.mono sz).mono fun v rs h=>h.dk Jq u8).put (k:=wq.1) (rb.dk Jq u8))
      have WY:=(Ua.map fun v w h=>h.mono sz).map fun v w h=>h.dk Jq u8;have s9:aq H2 (upd Hz F (.dK ((eE km wq.1 both).map kI))):=((bc.of (sy.trans sz)).put _).same hF;generalize upd Hz F (.dK ((eE km wq.1 both).map kI))=H9 at *;walk_at "rd";refine⟨.inl ⟨rfl,_,.of Ud⟩,OA hT9 ⟨W,_,_,rfl,rfl,Ud,by rw[zad];lia,?_⟩⟩;have sW:bc W H9 (upd H9 W (.lst (w2.map V.int++[V.int wq.1]))):=(bc.refl _ _).put _;refine(jP _ _ _).mpr ⟨_,_,_,eE km wq.1 both,eE m2 wq.1 vb,w2++[wq.1],rfl,((bc.of s9).put _).same fW,sW _ _ nLW yL9,sW _ _ WO WX,?_,Jo.mono fun v rs h=>h.gB Ud sW,WY.map fun v w h=>h.gB Ud sW,?_,Jp.put clv,?_⟩
      ·rw[ai,zaw];rfl
      ·rw[tk];exact Zr
      ·rw[zau,zbL];lia
    rcases vI.get wq.1 with ⟨ek,em⟩ |⟨v9,u9,ek,em,r9⟩
    ·rw[ek];walk_at "rd";refine Bt hT ?_;exact fin Hy u1 .bI wq.2 none (aq.refl _) hR rfl em OX (Sub.refl _) Ub fun u e=>by cases e
    ·rw[ek];have WZ:=(MP.lm.mf _ (get_mem em)).1;have l9:u9.length=wq.2.length:=WZ.bd.1.trans OX.bd.1.symm;have n9:v9≠.bI:=fun z=>by obtain⟨_,_,e,_⟩:=r9;rw[z] at e;cases e
     walk_at "rd";refine(if_neg n9).mpr (Bt hT ⟨v9,u1,u9,wq.2,rfl,r9,hR,l9,by rw[WZ.bd.1];exact ok.gc,fun v' Zu Zv r8'=>?_⟩);exact fin Zu v' v9 _ (some u9) Zv r8' (show dC K Zu v9 u9 from r9.mono Zv) em (DL WZ OX) (HU l9) ((Jp _ _ em).span Ub) fun u e=>by cases e;exact Cu l9
   ·intro σ Hy hv;obtain⟨z5,z6,z7,km,m2,w2,rfl,sy,WT,F2,T9,vI,Ua,MP,Jp,Zp⟩:=(jP _ _ _).mp hv;rw[wt,za6] at MP;refine⟨_,?_,(CY _ _ _).mpr ⟨_,_,_,_,km,m2,w2,rfl,sy,F2,T9,vI,MP.done hw,Jp,rfl⟩⟩;rw[zau,zbL];lia
  clear hU;refine⟨F,Eh,rfl,?_,ch,Eh,pr,r,rs,rfl,co.mono s7,ok,WR,ll,?_,?_⟩
  ·rw[<- vk];exact eK.k (k:=.inl r) OU
  ·intro b hb;have:=dr.size b hb;lia
  ·rcases(li.lm.mf _ (get_mem er)).2 with e0 |⟨OZ,Df,AV⟩
   ·have e0:r=0:=e0;refine .inl ⟨e0,fun L H8 s8 hL yL=>⟨L,rfl,⟨_,.of yL⟩,loop L [] [] H8 s8 hL yL .nil (fun p hp=>by cases hp) fun i hi hf e=>?_⟩⟩;have:=ok.pos _ (zao hi);lia
   ·have AV:OZ.row=r:=AV;obtain⟨i,hi,rfl⟩:=zaG.mp Df;have FO:i<(PG.aK pr.body 0).length:=by
     have:=(sR pr.body 0).length;lia
    have own:=PG.je pr.body _ dr.own (zao hi);have O0:=Paired.AW (sR pr.body 0) (zaa hi) (zaa FO);refine .inr ⟨?_,i,hi,FO,AV,yD own OW,qh O0,fun L us H8 s8 hL yL wo=>⟨L,rfl,⟨_,.of yL⟩,loop L us _ H8 s8 hL yL wo (fun p hp=>⟨nF vV ok.nb own (fun b hb=>by have:=dr.size b hb;lia) p hp,xx p hp,(OT _ _ er).way dr vV AV p hp⟩) fun i2 sG Sg e=>?_⟩⟩
    ·have:=ok.pos _ (zao hi);lia
    ·have:i2=i:=by
      have pw:=ok.pw;rw[zaK] at pw;rcases zb1 i2 i with h |h |h
      ·have:=pw i2 i sG hi h;lia
      ·exact h
      ·have:=pw i i2 hi sG h;lia
     subst this;rfl
end
end IY
end
section
set_option maxHeartbeats 4000000
namespace IY
open PySem L2
local macro_rules | `(tactic|walk_at "rd")=>`(tactic|simp only[ wX,wQ,Er,wR,Px,Ep,wV,PF,EK,PD,xb,ni,EE,uk,ui,PB,rU,ue,uf,BY,BZ,zP,rO,BB,Et,BA,vZ,pM,Ah,uB,uC,uD,uF,uG,uH,uI,uJ,uK,uL,GJ,Es,wU,zQ,eG,GI,NT,Ai,Aj,GK,xY,uM,B0,B1,zbA,pN,pO,uN,pQ,pS,pT,Ak,GP,uS,uO,uP,Pu,zba,zbp,zbt,xZ,x8,true_and,and_true,zai,zaz,ya,uQ,uR,pP,zdH,zdI,zc3,zdz,and_self])
section
variable{P:zdV}{w:zdL}{K:zab}{mg:Str->Option zdK}{base:Heap}{t:Ad}
theorem FP{K:zab}{H:Hp}{D a b:zdJ}{xs ys:List V}{ra rb:List PG.Rg}{Q:VK}(ha:cF K H a xs)(rx:qd K H xs ra)(hb:cF K H b ys)(ry:qd K H ys rb)(ll:ra.length=rb.length)(Bw:ra.length<=10)(hD:H D=none)
 (q:∀zs H2,aq H H2->H2 D=some (.lst zs)->qd K H2 zs (dQ ra rb)->Q (.ref D) H2) :
 jW (JM K a b) D (zP K 2 (rO (eG 0) (rO (eG 1) BB))) oR (Kc (lR (QT (fun xs H Q=>∃i j,xs=[V.int i,V.int j]/\Q (.int (if j<i then j else i)) H) (lR (Gg (me K) (dM 0) (tC (V.int 0))) (lR (Gg (me K) (dM 1) (tC (V.int 0))) BM))) (lR (QT (fun xs H Q=>∃i j,xs=[V.int i,V.int j]/\Q (.int (if j>i then j else i)) H) (lR (Gg (me K) (dM 0) (tC (V.int 1))) (lR (Gg (me K) (dM 1) (tC (V.int 1))) BM))) BM))) Q [none,none] (upd H D (.lst [])):=by
 obtain⟨lx,gx⟩:=rx;obtain⟨ly,gy⟩:=ry;refine vq (K:=K) (fun τ=>∃x y,τ=[x,y]) (fun i zs H2=>∀j (hj:j<zs.length),∃r,(dQ ra rb)[j]?=some r/\cm K H2 zs[j] r) ha hb (by lia) (by lia) hD ⟨none,none,rfl⟩ (fun j hj=>by simp at hj) ?_ ?_
 ·rintro i x y zs τ H2 p hx hy ⟨x0,y0,rfl⟩ s2 kS lz pv hp R hR
  obtain⟨hi,rfl⟩:=zah.mp hx;obtain⟨sG,rfl⟩:=zah.mp hy;obtain⟨r1,MN,a1,ex,h1⟩:=gx i hi;obtain⟨r2,JQ,a2,ey,h2⟩:=gy i sG;have s3:=aq.new hp (.tup [xs[i],ys[i]]);refine⟨p,_,rfl,.of ai,rfl,?_⟩;generalize upd H2 p (.tup [xs[i],ys[i]])=H3 at *;have px:=s2.trans s3;walk_at "rd";rw[ex,ey];refine⟨_,_,rfl,_,_,rfl,rfl,mh (px.br h1) ?_⟩;refine mh (px.br h2) ?_;refine⟨_,_,rfl,?_⟩;refine mi (px.br h1) ?_;refine mi (px.br h2) ?_;refine⟨_,_,rfl,fun p5 OR=>?_⟩;have ea:(if r2.1<r1.1 then r2.1 else r1.1)=min r1.1 r2.1:=by split<;>lia
  have eb:(if r2.2>r1.2 then r2.2 else r1.2)=max r1.2 r2.2:=by split<;>lia
  rw[ea,eb];have er:(dQ ra rb)[i]?=some (min r1.1 r2.1,max r1.2 r2.2):=by
   unfold dQ;have ez:(ra.zip rb)[i]?=some (r1,r2):=zbO.mpr ⟨MN,JQ⟩;rw[zal,ez];rfl
  refine hR _ _ _ ⟨_,_,rfl⟩ (s3.trans (aq.new OR _)) fun j hj=>?_;have vG:=aq.new OR (.tup [.int (min r1.1 r2.1),.int (max r1.2 r2.2)]) _ _ (s3 _ _ kS);have g3:cm K (upd H3 p5 (.tup [.int (min r1.1 r2.1),.int (max r1.2 r2.2)])) (.ref p5) (min r1.1 r2.1,max r1.2 r2.2):=cm.new rfl;by_cases z:j<zs.length
  ·obtain⟨r1,e1,g1⟩:=pv j z;refine⟨r1,e1,?_⟩;rw[za9 z];exact(g1.mono (s3.trans (aq.new OR _))).gB vG ((bc.refl _ _).put _)
  ·have:j=zs.length:=by simp at hj;lia
   subst this;refine⟨_,by rw[lz];exact er,?_⟩;rw[za8 (zaj _)];simp only[zbT,zbg];exact g3.gB vG ((bc.refl _ _).put _)
 ·intro zs H2 s2 kS lz pv;exact q zs H2 s2 kS ⟨by rw[lz,span_len ll];lia,pv⟩
theorem vJ{K:zab}{H:Hp}{D B:zdJ}{MQ:List V}{bs:List PG.cE}{r:St}{Q:VK}(hB:fU K H B MQ)(lB:MQ.length=bs.length)(O1:∀(i:Nat) (x:V),MQ[i]?=some x->∃a,x=.ref a/\cF K H a [.str (S (bs.getD i ⟨[],0,0⟩).name),.int (bs.getD i ⟨[],0,0⟩).size,.int (bs.getD i ⟨[],0,0⟩).first])(gc:bs.length<=10)(hD:H D=none)
 (q:∀ys H2,aq H H2->H2 D=some (.lst ys)->qd K H2 ys (one (bs.map (·.first)))->Q (.ref D) H2) :
 jW (BE K B) D (eG 0) oR (Kc (lR (Gg (me K) (dM 0) (tC (V.int 2))) (lR (Gg (me K) (dM 0) (tC (V.int 2))) BM))) Q (none::r) (upd H D (.lst [])):=by
 have line:zdR=2 ^ 24:=rfl;refine nD (K:=K) (fun τ=>∃x,τ=x::r) (fun i ys H2=>∀j (hj:j<ys.length),∃z,(one (bs.map (·.first)))[j]?=some z/\cm K H2 ys[j] z) hB (by lia) hD ⟨none,rfl⟩ (fun j hj=>by simp at hj) ?_ ?_
 ·rintro i x ys τ H2 hx ⟨x0,rfl⟩ s2 kS ly pv R hR
  obtain⟨a,rfl,ha⟩:=O1 i x hx;have li:i<bs.length:=by have:=(zah.mp hx).1;lia
  have eb:bs.getD i ⟨[],0,0⟩=bs[i]:=by rw[zaf,zaa li];rfl
  rw[eb] at ha;walk_at "rd";refine aJ (s2.br ha) (v:=.int bs[i].first) (aC (j:=2) rfl) (aJ (s2.br ha) (v:=.int bs[i].first) (aC (j:=2) rfl) fun p hp=>?_);have er:(one (bs.map (·.first)))[i]?=some (bs[i].first,bs[i].first):=by
   unfold one;rw[zal,zal,zaa li];rfl
  refine hR _ _ _ ⟨_,rfl⟩ (aq.new hp _) fun j hj=>?_;have vG:=aq.new hp (.tup [.int bs[i].first,.int bs[i].first]) _ _ kS;have g3:cm K (upd H2 p (.tup [.int bs[i].first,.int bs[i].first])) (.ref p) (bs[i].first,bs[i].first):=cm.new rfl;by_cases z:j<ys.length
  ·obtain⟨r1,e1,g1⟩:=pv j z;refine⟨r1,e1,?_⟩;rw[za9 z];exact(g1.mono (aq.new hp _)).gB vG ((bc.refl _ _).put _)
  ·have:j=ys.length:=by simp at hj;lia
   subst this;refine⟨_,by rw[ly];exact er,?_⟩;rw[za8 (zaj _)];simp only[zbT,zbg];exact g3.gB vG ((bc.refl _ _).put _)
 ·intro ys H2 s2 kS ly pv;exact q ys H2 s2 kS ⟨by rw[ly,lB];unfold one;rw[zad,zad],pv⟩
theorem wB(T:Tx K mg t):bM P w K mg base fZ 12 t.gN t.iH ["program"] (AY K):=by
 have m7:=qC (P:=P) (w:=w) (base:=base) T;refine T.fw.F.kZ oy (fun vs H Q E h=>?_) (fun eA A outer s H vs Q E hr h=>?_)
 ·obtain⟨_,_,rfl,_,_,_⟩:=h;rfl
 obtain⟨F1,pr,rfl,Sh,sd,q⟩:=h;have nd:=oy.nd;have hu:=i8 hr;have dr:=sd.dr;have ok:=dr.ok;have line:zdR=2 ^ 24:=rfl;refine⟨_,[some F1,none,none,none,none,none,none,none,none],(ao (aP (i:=1) nd rfl (zap rfl) (av bP (bC j9 (de (own:=["one"]) (ix:=[]) rfl (by rfl) (by rfl) (bT (av ax (pv 0) ak aj)) (fun _ _ _ _=>(aX (i:=0) (by show List.Nodup (["one"]:List Str);decide +kernel) rfl (zap rfl))) (fun _ _ _ _=>cZ) (fun _ _ _ _=>(av (bF (K:=K) rfl) (pv 0) ak aj))) (bE (aa ak ah aZ))) ak aj))
 (ao (aP (i:=2) nd rfl (Or.inr rfl) (Dt (Af (pv 1) (bL cP rfl T.iJ PyProof.Rows.Boot.«tuple» (aa (de (own:=["box"]) (ix:=[]) rfl (by rfl) (by rfl) (bT (av ax (pv 0) ak aj)) (fun _ _ _ _=>(aX (i:=0) (by show List.Nodup (["box"]:List Str);decide +kernel) rfl (zap rfl))) (fun _ _ _ _=>cZ) (fun _ _ _ _=>(bf (aa (av (bF (K:=K) rfl) (pv 0) ak aj) (aa (av (bF (K:=K) rfl) (pv 0) ak aj) ah aG) aG)))) ah eZ)) Ds) rfl rfl (by simp) (by decide)))
 (ao (aP (i:=3) nd rfl (zap rfl) jw)
 (ao (zR PassesOwn.never (gY (pv 3))
 (ao (aP (i:=3) nd rfl (zap rfl) jw)
 (au (eI PassesOwn.never rfl (bT (bh (ql rfl) rfl T.kQ PyProof.Rows.Boot.«sorted» (aa (pv 2) ah ae))) (aX (i:=4) nd rfl (zap rfl))
 (au (eI PassesOwn.never rfl (bT (aA m7 (hr.mono (by first|decide|omega)) rfl T.du.m T.du.F.kp T.du.b .nil aN (aa (pv 0) (aa (pv 4) (aa (dc hu (pv 2) (pv 4) (fun _ _=>rfl)) ah aG) ae) ae))) (jf (K:=K) rfl 2 rfl (bH (aX (i:=5) nd rfl (zap rfl)) (bH (aX (i:=6) nd rfl (zap rfl)) gg)))
 (ao (aP (i:=7) nd rfl (zap rfl) (GD hu (pv 2) (pv 5) (pv 6) ⟨rfl,rfl,rfl,rfl⟩))
 (ao (aP (i:=8) nd rfl (zap rfl) (bL cP rfl T.iJ PyProof.Rows.Boot.«tuple» (aa (de (own:=["a", "b"]) (ix:=[]) rfl (by rfl) (by rfl) (vd rfl T.sC (aa (pv 7) (aa (pv 6) ah ae) ae)) (fun _ _ _ _=>(jf (K:=K) rfl 2 rfl (bH (aX (i:=0) (by show List.Nodup (["a", "b"]:List Str);decide +kernel) rfl (zap rfl)) (bH (aX (i:=1) (by show List.Nodup (["a", "b"]:List Str);decide +kernel) rfl (zap rfl)) gg)))) (fun _ _ _ _=>cZ) (fun _ _ _ _=>(bf (aa (bh (gZ rfl) rfl T.oC PyProof.Rows.Boot.«min» (aa (av (bF (K:=K) rfl) (pv 0) ak aj) (aa (av (bF (K:=K) rfl) (pv 1) ak aj) ah aG) aG)) (aa (bh (jm rfl) rfl T.qx PyProof.Rows.Boot.«max» (aa (av (bF (K:=K) rfl) (pv 0) ak aj) (aa (av (bF (K:=K) rfl) (pv 1) ak aj) ah aG) aG)) ah aT) aT)))) ah eZ)))
 (ao (aP (i:=3) nd rfl (zap rfl) (L7 (pv 3) (L7 (Gd (xj hu (pv 5) (pv 2))) (xN (gm (yh (B3 hr)) (pv 8) (pv 7) (aS _))))))
 (au (nu hu (pv 2) (pv 5) (pv 8) rfl)))))))))))
 (au (aH (de (own:=["row"]) (ix:=[2]) rfl (by rfl) (by rfl) (bT (bh (ql rfl) rfl T.kQ PyProof.Rows.Boot.«sorted» (aa (pv 2) ah ae))) (fun _ _ _ _=>(aX (i:=0) (by show List.Nodup (["row", "found"]:List Str);decide +kernel) rfl (zap rfl))) (fun _ _ _ _=>cZ) (fun _ _ _ _=>(bf (aa (pv 0) (aa (dc hu (pv 1) (pv 0) (fun _ _=>rfl)) ah aG) ae)))))))))),rfl,?_⟩
 have rp:=Sh;unfold hX at rp;rw[Rep.bj] at rp;obtain⟨pa,Y3,rfl,MG,tY⟩:=rp;rw[aQ.aO] at tY;obtain⟨v1,t1,rfl,JP,tY⟩:=tY;rw[aQ.aO] at tY;obtain⟨v2,t2,rfl,OF,tY⟩:=tY;rw[aQ.bO] at tY;subst tY;obtain⟨bb,ys,rfl,Kk,Si⟩:=Rep.bq.mp OF;obtain⟨B,_,rfl,_⟩:=Rep.bq.mp JP;obtain⟨MQ,hB,lB,O1⟩:=m5 JP;have LK:=ok.gc;have lys:ys.length=pr.body.length:=by rw[Si.length,zad]
 have lb:pr.body.length<=(PG.aE pr.body).length:=by
  rw[qa];exact ic pr.body
 have WQ:=sd.len;refine aw fun U1 gf=>?_;walk_at "rd";simp only[fJ];walk_at "rd";refine aJ MG (v:=.ref bb) (aC (j:=1) rfl) ⟨bb,rfl,⟨_,Kk⟩,fun D1 MH=>xA (ss:=pr.body) Kk Si (by lia) MH (fun p w0 k ys H2 hp R hR=>?_) (fun H2 s2 Sj p3 xD=>?_)⟩
 ·walk_at "rd";exact aJ hp (aC (j:=1) rfl) hR
 have s3:=aq.new xD (.lst [V.int 0]);have y3:(upd H2 p3 (.lst [V.int 0])) p3=_:=ai;have yj:=s2.trans s3;have Sk:=s3 _ _ Sj;generalize upd H2 p3 (.lst [V.int 0])=H3 at *;refine⟨D1,p3,_,_,rfl,rfl,Sk,y3,by rw[zad,zad];simp only[zai,zaz];lia,fun Lt Sl=>?_⟩;have s4:=aq.new Sl (.lst ((pr.body.map (·.row)).map V.int++[V.int 0]));have Sm:(upd H3 Lt (.lst ((pr.body.map (·.row)).map V.int++[V.int 0]))) Lt=_:=ai;have vW:=yj.trans s4;generalize upd H3 Lt (.lst ((pr.body.map (·.row)).map V.int++[V.int 0]))=H4 at *;refine cx (.of Sm) (v:=V.int (PG.aB pr.body 0)) (aC (j:=0) (A6 pr.body 0)) ((gf _ _).mpr (aw fun U2 jv=>?_));clear gf s2 s3 yj s4 y3 Sj Sk Sm MH xD Sl;walk_at "rd";unfold Gy oQ;walk_at "rd";intro F hF;have e5:=aq.new hF (.dK []);have Qg:(upd H4 F (.dK [])) F=some (.dK []):=ai;have LL:=vW.trans e5;generalize upd H4 F (.dK [])=H5 at *;simp only[fJ];walk_at "rd";refine aJ (LL.br MG) (v:=.ref B) (aC (j:=0) rfl) ⟨B,rfl,⟨_,LL.seq hB⟩,fun D2 kS=>vJ (LL.seq hB) lB (fun i x e=>let ⟨a,e1,e2⟩:=O1 i x e;⟨a,e1,LL.br e2⟩) LK kS fun us H6 s6 y6 ru=>?_⟩;refine⟨D2,us,rfl,.inl ⟨.of y6,fun l hl=>?_⟩⟩;have e7:=aq.new hl (.tup us);have ra:dC K (upd H6 l (.tup us)) (.ref l) (one (pr.ay.map (·.first))):=⟨l,us,rfl,.of ai,ru.mono e7⟩
 have W0:=s6.trans e7;generalize upd H6 l (.tup us)=H7 at *;unfold oQ;have OU:=W0 _ _ Qg;refine⟨OU,[(.inl (PG.aB pr.body 0),.ref l)],rfl,by simp,?_⟩;rw[show hJ [] [((.inl (PG.aB pr.body 0):Key),V.ref l)]=[(PG.aB pr.body 0,V.ref l)].map kI from rfl];have r8:dC K (upd H7 F (.dK ([(PG.aB pr.body 0,V.ref l)].map kI))) (.ref l) _:=ra.dk OU ((bc.refl _ _).put _);have s8:aq H (upd H7 F (.dK ([(PG.aB pr.body 0,V.ref l)].map kI))):=((bc.of (vW.trans (e5.trans W0))).put _).same (vW.free hF);have Zw:(upd H7 F (.dK ([(PG.aB pr.body 0,V.ref l)].map kI))) F=_:=ai;generalize upd H7 F (.dK ([(PG.aB pr.body 0,V.ref l)].map kI))=H8 at *;have fF:H F=none:=vW.free hF;clear OU Qg ra e5 e7 W0 s6 LL y6 ru hl hF vW kS;refine(jv _ _).mpr (aw fun U3 jT=>?_);clear jv;walk_at "rd";refine(jT _ _).mpr (aw fun U4 lO=>?_);clear jT;obtain⟨f,hf⟩:∃f:List PG.Rg->Nat,f=fun rs=>1+vT rs:=⟨_,rfl⟩
 obtain⟨MX,Qh⟩:∃MX:Nat,((PG.aE pr.body).length+1)*37=MX:=⟨_,rfl⟩
 refine Ht fun Bd OS=>?_;walk_at "rd";obtain⟨Iv,CY⟩:∃Iv:Nat->St->Hp->Prop,∀m σ Hx,Iv m σ Hx↔∃(z4 z5 z6 z7 z8:Option V) (kvs:List (Int×V)) (mm:List (Int×List PG.Rg)) (ag:Bool),σ=[some (.ref pa),some (.int (PG.aB pr.body 0)),some (.ref F),some (.bl ag),z4,z5,z6,z7,z8]/\aq H Hx/\Hx F=some (.dK (kvs.map kI))/\RelM K Hx kvs mm/\LN pr mm/\(ag=false->∀r u,bg mm r=some u->Mu pr mm r u)/\m=2*(MX-ig f mm)+ag.toNat:=⟨_,fun _ _ _=>Iff.rfl⟩
 refine⟨Iv,⟨_,(CY _ _ _).mpr ⟨none,none,none,none,none,_,[(PG.aB pr.body 0,one (pr.ay.map (·.first)))],true,rfl,s8,Zw,.cons ⟨rfl,r8⟩ .nil,LN.one dr.size (si pr),(fun z=>by cases z),rfl⟩⟩,?_⟩;clear r8 s8 Zw;intro m σ Hx hv;obtain⟨z4,z5,z6,z7,z8,kvs,mm,ag,rfl,sx,LG,rel,ln,sS,rfl⟩:=(CY _ _ _).mp hv;clear hv;have gc:=ln.lm.gc sd.gc dr.size;rw[<- hf,Qh] at gc;have lk:kvs.length=mm.length:=by have:=congrArg zaR rel.keys;rwa [zad,zad] at this
 walk_at "rd";cases ag with
 |false=>
  refine(lO _ _).mpr ?_;clear lO OS CY;walk_at "rd";simp only[fJ];walk_at "rd";refine⟨F,kvs,rfl,LG,by lia,fun l ks hl pw pm=>⟨⟨_,.of ai⟩,fun D hD=>?_⟩⟩;have e1:=aq.new hl (.lst (ks.map V.int));have yl:(upd Hx l (.lst (ks.map V.int))) l=_:=ai;have W7:=e1 _ _ LG;have O2:=rel.mono (H':=upd Hx l (.lst (ks.map V.int))) fun v rs h=>h.mono e1;have MR:=sx.trans e1;generalize upd Hx l (.lst (ks.map V.int))=H1 at *;rw[show kvs.map (fun x=>x.1)=mm.map (·.1) from rel.keys] at pm;have Ue:=CM [] ln.nd pm;obtain⟨ms,MS⟩:∃ms,(ks.map fun k=>(k,(bg mm k).getD []))=ms:=⟨_,rfl⟩
  rw[MS] at Ue;have lks:ks.length=mm.length:=by rw[pm.length_eq,zad]
  refine nD (K:=K) (fun τ=>∃x,τ=[x,some (V.ref F)]) (fun i ys H2=>∀j (hj:j<ys.length),∃w,ms[j]?=some w/\jS K H2 ys[j] w) (.of yl) (by rw[zad];lia) hD ⟨none,rfl⟩ (fun j hj=>by simp at hj) ?_ ?_
  ·rintro i x ys τ H2 hx ⟨x0,rfl⟩ s2 kS ly pv R hR
   rw[zal] at hx;obtain⟨k,hk,rfl⟩:=zaD.mp hx;obtain⟨u,eu⟩:∃u,bg mm k=some u:=by
    obtain⟨e,he,rfl⟩:=zaJ.mp (pm.mem_iff.mp (zav hk));exact⟨_,nG ln.nd he⟩
   obtain⟨v,u',ek,TX,rv⟩:∃v u,bg kvs k=some v/\bg mm k=some u/\dC K H1 v u:=by
    rcases O2.get k with h |h
    ·rw[eu] at h;cases h.2
    ·exact h
   rw[eu] at TX;cases TX;walk_at "rd";refine⟨F,v,rfl,?_,fun p hp=>?_⟩
   ·have:c0 (kvs.map kI) (.inl k)=some v:=by rw[iY];exact ek
    rw[<- this];exact eK.k (k:=.inl k) (s2 _ _ W7)
   have ew:ms[i]?=some (k,u):=by rw[<- MS,zal,hk];simp[eu]
   refine hR _ _ _ ⟨_,rfl⟩ (aq.new hp _) fun j hj=>?_;have vG:=aq.new hp (.tup [.int k,v]) _ _ kS;have g3:jS K (upd H2 p (.tup [.int k,v])) (.ref p) (k,u):=⟨p,v,rfl,.of ai,(rv.mono s2).mono (aq.new hp _)⟩
   by_cases z:j<ys.length
   ·obtain⟨r1,e1,g1⟩:=pv j z;refine⟨r1,e1,?_⟩;rw[za9 z];exact(g1.mono (aq.new hp _)).gB vG ((bc.refl _ _).put _)
   ·have:j=ys.length:=by simp at hj;lia
    subst this;refine⟨_,by rw[ly];exact ew,?_⟩;rw[za8 (zaj _)];simp only[zbT,zbg];exact g3.gB vG ((bc.refl _ _).put _)
  ·intro ys H2 s2 kS ly pv;have eg:∀k,bg ms k=bg mm k:=fun k=>AX Ue ((Ue.map _).nodup_iff.mpr ln.nd) k;refine q D ys ms H2 (MR.trans s2) (MR.free hD) kS (Lu (by rw[ly,<- MS,zad,zad]) pv) ?_ ⟨Fx.congr ⟨ln.first,sS rfl⟩ fun k=>(eg k).symm,fun k u e=>ln.Iw k u (by rw[<- eg];exact e),fun e he=>ln.mf e (Ue.mem_iff.mp he)⟩;rw[<- MS];exact zaL.mpr pw
 |true=>
  refine⟨fun σ' H'=>∃m',m'<2*(MX-ig f mm)+true.toNat/\Iv m' σ' H',fun _ _ h=>h,OS _ _ _ ?_⟩;clear OS lO;refine aw fun V1 MO=>?_;walk_at "rd";refine(MO _ _).mpr ?_;clear MO;refine eL fun U hU=>?_;walk_at "rd";refine⟨F,kvs,rfl,LG,by lia,fun l ks hl pw pm=>⟨⟨_,.of ai⟩,hU _ _ ?_⟩⟩;clear hU;rw[show kvs.map (fun x=>x.1)=mm.map (·.1) from rel.keys] at pm;have e1:=aq.new hl (.lst (ks.map V.int));have yl:(upd Hx l (.lst (ks.map V.int))) l=_:=ai;have W7:=e1 _ _ LG;have nlF:l≠F:=(aF LG hl).symm;have O2:=rel.mono (H':=upd Hx l (.lst (ks.map V.int))) fun v rs h=>h.mono e1;have MR:=sx.trans e1;generalize upd Hx l (.lst (ks.map V.int))=H1 at *;obtain⟨Pv,jP⟩:∃Pv:Nat->St->Hp->Prop,∀i σ Hy,Pv i σ Hy↔∃(z4 z5 z6 z7 z8:Option V) (km:List (Int×V)) (m2:List (Int×List PG.Rg)) (ag:Bool),σ=[some (.ref pa),some (.int (PG.aB pr.body 0)),some (.ref F),some (.bl ag),z4,z5,z6,z7,z8]/\aq H Hy/\Hy l=some (.lst (ks.map V.int))/\Hy F=some (.dK (km.map kI))/\RelM K Hy km m2/\RD pr mm m2 ag/\∀j k,j<i->ks[j]?=some k->ag=false->∀u,bg mm k=some u->Mu pr mm k u:=⟨_,fun _ _ _=>Iff.rfl⟩
  refine eJ (K:=K) (a:=l) (xs:=ks.map V.int) Pv ((jP _ _ _).mpr ⟨_,_,_,_,_,kvs,mm,false,rfl,MR,yl,W7,O2,RD.of ln,fun j k hj=>absurd hj (zcI _)⟩) ?_ ?_ ?_
  ·intro j σ Hy hj hv;obtain⟨_,_,_,_,_,_,_,_,_,_,h,_⟩:=(jP _ _ _).mp hv;exact .of h
  ·intro i x σ Hy hx hv;obtain⟨z4,z5,z6,z7,z8,km,m2,ag,rfl,sy,Zx,F2,vI,rd,cv⟩:=(jP _ _ _).mp hv;clear hv;rw[zal] at hx;obtain⟨r,hk,rfl⟩:=zaD.mp hx;obtain⟨u0,eu0⟩:∃u,bg mm r=some u:=by
    obtain⟨e,he,rfl⟩:=zaJ.mp (pm.mem_iff.mp (zav hk));exact⟨_,nG ln.nd he⟩
   obtain⟨rs,er,_⟩:=rd.gr r u0 eu0;obtain⟨Eh,oZ,ek,OV,WR⟩:∃v u,bg km r=some v/\bg m2 r=some u/\dC K Hy v u:=by
    rcases vI.get r with h |h
    ·rw[er] at h;cases h.2
    ·exact h
   rw[er] at OV;cases OV;have vV:=(rd.ln.mf _ (get_mem er)).1;have OW:=vV.TY dr.size;have ll:rs.length=pr.ay.length:=vV.bd.1;have vk:c0 (km.map kI) (.inl r)=some Eh:=by rw[iY];exact ek
   refine eL fun U hU=>?_;walk_at "rd";have loop:∀(L:zdJ) (us:List V) (dI:List (Int×List PG.Rg)) (H8:Hp),aq Hy H8->Hy L=none->H8 L=some (.lst us)->c5 K H8 us dI->(∀p∈dI,fE pr.ay p.2/\Bu pr p.1/\CG pr p.1 p.2)->(∀(i:Nat) (hi:i<(PG.aE pr.body).length) (hf:i<(PG.aK pr.body 0).length),(PG.aE pr.body)[i].row=r->PG.dD pr.ay rs (PG.aK pr.body 0)[i].2.2 (PG.aE pr.body)[i]=dI)->U L H8:=by
    intro L us dI H8 s8 hL yL wo WS hw;refine hU _ _ ?_;clear hU;have Sb:L≠F:=(aF F2 hL).symm;have wt:=wo.len;obtain⟨Pw,sF⟩:∃Pw:Nat->St->Hp->Prop,∀j σ Hz,Pw j σ Hz↔∃(z5 z6 z7 z8:Option V) (vK:List (Int×V)) (m3:List (Int×List PG.Rg)) (LO:Bool),σ=[some (.ref pa),some (.int (PG.aB pr.body 0)),some (.ref F),some (.bl LO),some (.int r),z5,z6,z7,z8]/\aq H Hz/\Hz l=some (.lst (ks.map V.int))/\Hz L=some (.lst us)/\Hz F=some (.dK (vK.map kI))/\RelM K Hz vK m3/\c5 K Hz us dI/\RD pr mm m3 LO/\(ag=true->LO=true)/\∀q∈dI.take j,yH m3 q:=⟨_,fun _ _ _=>Iff.rfl⟩
    refine eJ (K:=K) (a:=L) (xs:=us) Pw ((sF _ _ _).mpr ⟨_,_,_,_,km,m2,ag,rfl,sy.trans s8,s8 _ _ Zx,yL,s8 _ _ F2,vI.mono fun v rs h=>h.mono s8,wo,rd,id,fun q hq=>by simp at hq⟩) ?_ ?_ ?_
    ·intro j σ Hz hj hv;obtain⟨_,_,_,_,_,_,_,_,_,_,h,_⟩:=(sF _ _ _).mp hv;exact .of h
    ·intro j x σ Hz hx hv;obtain⟨z5,z6,z7,z8,vK,m3,LO,rfl,sz,W8,Uc,Jq,Bf,W9,Qk,Xa,Ug⟩:=(sF _ _ _).mp hv;clear hv;obtain⟨wq,LH,a1,u1,rfl,hT,hR⟩:=W9.get hx;have tk:dI.take (j+1)=dI.take j++[wq]:=by rw[zbG,LH];rfl
     obtain⟨OX,WU,Ub⟩:=WS wq (zav LH);have lk3:vK.length=m3.length:=by have:=congrArg zaR Bf.keys;rwa [zad,zad] at this
     have aci:=Qk.ln.lm.gc sd.gc dr.size;walk_at "rd";refine⟨a1,_,rfl,hT,rfl,_,_,rfl,_,_,rfl,rfl,?_⟩;obtain⟨ov,eov,Zy⟩:∃ov,(c0 (vK.map kI) (.inl wq.1)).getD u1=ov/\dC K Hz ov (ij m3 wq):=by
      refine⟨_,rfl,?_⟩;rw[iY];unfold ij;rcases Bf.get wq.1 with ⟨h1,h2⟩ |⟨v9,u9,h1,h2,h3⟩
      ·rw[h1,h2];exact hR
      ·rw[h1,h2];exact h3
     have Bg:(ij m3 wq).length=wq.2.length:=by
      unfold ij;cases e:bg m3 wq.1 with
      |none=>rfl
      |some u=>exact((Qk.ln.mf _ (get_mem e)).1.bd.1).trans OX.bd.1.symm
     unfold GB;walk_at "rd";refine⟨.inl ⟨_,.inl Jq⟩,_,eK.k (k:=.inl wq.1) Jq,?_⟩;rw[eov];simp only[fJ];have Xb:=Zy;have Uh:=hR;obtain⟨oa,LP,rfl,MT,rox⟩:=Zy;obtain⟨na,LQ,rfl,MU,rnx⟩:=hR;refine⟨oa,na,rfl,⟨_,MT⟩,⟨_,MU⟩,fun D2 kS=>FP MT rox MU rnx Bg (by rw[Bg,OX.bd.1];exact LK) kS fun zs H9 s9 y9 rz=>?_⟩;refine⟨D2,zs,rfl,.inl ⟨.of y9,fun l2 PH=>?_⟩⟩;have Ui:=aq.new PH (.tup zs);have rn:dC K (upd H9 l2 (.tup zs)) (.ref l2) (dQ (ij m3 wq) wq.2):=⟨l2,zs,rfl,.of ai,rz.mono Ui⟩
     have wx:=s9.trans Ui;generalize upd H9 l2 (.tup zs)=Bc at *;have Jr:=wx _ _ Jq;obtain⟨Zz,cvq,grq⟩:=Qk.Ws OX WU Ub;have fin:∀b,(LO ||yG m3 wq)=b->∃a H4,V.ref F=V.ref a/\sO Bc a (V.int wq.1) (V.ref l2) H4/\Pw (j+1) [some (V.ref pa),some (V.int (PG.aB pr.body 0)),some (V.ref F),some (V.bl b),some (V.int r),some (V.int wq.1),some (V.ref na),some (V.ref oa),some (V.ref l2)] H4:=by
      intro b hb;rw[hb] at Zz;refine⟨F,_,rfl,sO.k (k:=.inl wq.1) Jr (by rw[zad];lia),?_⟩;rw[Io];have u8:bc F Bc (upd Bc F (.dK ((eE vK wq.1 (V.ref l2)).map kI))):=(bc.refl _ _).put _;have WX:(upd Bc F (.dK ((eE vK wq.1 (V.ref l2)).map kI))) F=_:=ai;have Jo:=(((Bf.mono fun v rs h=>h.mono wx).mono fun v rs h=>h.dk Jr u8).put (k:=wq.1) (rn.dk Jr u8))
      have WY:=(W9.map fun v w h=>h.mono wx).map fun v w h=>h.dk Jr u8;have tZ:aq H (upd Bc F (.dK ((eE vK wq.1 (V.ref l2)).map kI))):=((bc.of (sz.trans wx)).put _).same fF;refine(sF _ _ _).mpr ⟨_,_,_,_,eE vK wq.1 (.ref l2),qj m3 wq,b,rfl,tZ,u8 _ _ nlF (wx _ _ W8),u8 _ _ Sb (wx _ _ Uc),WX,Jo,WY,Zz,(fun e=>by rw[<- hb,Xa e];rfl),fun q hq=>?_⟩;rw[tk] at hq;rcases zak.mp hq with hq |hq
      ·exact(Ug q hq).grow grq
      ·rw[zan.mp hq];exact cvq
     by_cases za:LO=true
     ·rw[if_pos za];exact fin true (by rw[za];rfl)
     ·rw[if_neg za];have za:LO=false:=by simpa using za
      unfold xW;walk_at "rd";refine⟨F,_,rfl,eK.k (k:=.inl wq.1) Jr,?_⟩;rw[iY];rcases Bf.get wq.1 with ⟨h1,h2⟩ |⟨v9,u9,h1,h2,h3⟩
      ·rw[h1];refine(if_pos rfl).mpr (fin true ?_);rw[za];unfold yG;rw[h2];rfl
      ·rw[h1];refine(if_neg (by simp)).mpr ⟨_,_,rn.rep,(show vf K Bc (V.ref oa) (some (ij m3 wq)) from Xb.mono wx).rep,Im _,MA _,?_⟩;rw[Il];refine fin _ ?_;rw[za];unfold yG;rw[h2];by_cases y:dQ (ij m3 wq) wq.2=ij m3 wq
       ·rw[y];simp
       ·simp[y]
    ·intro σ Hz hv;obtain⟨z5,z6,z7,z8,vK,m3,LO,rfl,sz,W8,Uc,Jq,Bf,W9,Qk,Xa,Ug⟩:=(sF _ _ _).mp hv;rw[wt,za6] at Ug;refine(jP _ _ _).mpr ⟨_,_,_,_,_,vK,m3,LO,rfl,sz,W8,Jq,Bf,Qk,fun j k hj Xc e u eu=>?_⟩;have ea:ag=false:=by
      cases y:ag with
      |false=>rfl
      |true=>rw[Xa y] at e;cases e
     by_cases hji:j=i
     ·subst hji;rw[hk] at Xc;cases Xc;have e2:=rd.same ea;rw[e2] at er;rw[er] at eu;cases eu;intro i2 sG Sg JQ q hq;rw[hw i2 sG Sg JQ] at hq;have:=Ug q hq;rw[Qk.same e] at this;exact this
     ·exact cv j k (by lia) Xc ea u eu
   clear hU;refine⟨F,Eh,rfl,?_,.ref pa,Eh,pr,r,rs,rfl,Sh.mono sy,dr.dep,dr.gc,ok,WR,ll,?_,?_⟩
   ·rw[<- vk];exact eK.k (k:=.inl r) F2
   ·intro b hb;have:=dr.size b hb;lia
   ·rcases(rd.ln.mf _ (get_mem er)).2 with e0 |⟨OZ,Df,AV⟩
    ·have e0:r=0:=e0;refine .inl ⟨e0,fun L H8 s8 hL yL=>⟨L,rfl,⟨_,.of yL⟩,loop L [] [] H8 s8 hL yL .nil (fun p hp=>by cases hp) fun i hi hf e=>?_⟩⟩;have:=ok.pos _ (zao hi);lia
    ·have AV:OZ.row=r:=AV;obtain⟨i,hi,rfl⟩:=zaG.mp Df;have FO:i<(PG.aK pr.body 0).length:=by
      have:=(sR pr.body 0).length;lia
     have own:=PG.je pr.body _ dr.own (zao hi);have O0:=Paired.AW (sR pr.body 0) (zaa hi) (zaa FO);refine .inr ⟨?_,i,hi,FO,AV,yD own OW,qh O0,fun L us H8 s8 hL yL wo=>⟨L,rfl,⟨_,.of yL⟩,loop L us _ H8 s8 hL yL wo (fun p hp=>⟨nF vV ok.nb own (fun b hb=>by have:=dr.size b hb;lia) p hp,xx p hp,(rd.ln.Iw _ _ er).way dr vV AV p hp⟩) fun i2 sG Sg e=>?_⟩⟩
     ·have:=ok.pos _ (zao hi);lia
     ·have:i2=i:=by
       have pw:=ok.pw;rw[zaK] at pw;rcases zb1 i2 i with h |h |h
       ·have:=pw i2 i sG hi h;lia
       ·exact h
       ·have:=pw i i2 hi sG h;lia
      subst this;rfl
  ·intro σ Hy hv;obtain⟨z4,z5,z6,z7,z8,km,m2,ag,rfl,sy,Zx,F2,vI,rd,cv⟩:=(jP _ _ _).mp hv;clear hv;have OY:=rd.ln.lm.gc sd.gc dr.size;rw[<- hf,Qh] at OY;refine⟨_,?_,(CY _ _ _).mpr ⟨_,_,_,_,_,km,m2,ag,rfl,sy,F2,vI,rd.ln,fun e k u eu=>?_,rfl⟩⟩
   ·cases ag with
    |true=>
     have:=rd.more rfl;rw[<- hf] at this;simp only[Bool.toNat_true];lia
    |false=>
     rw[rd.same rfl];simp only[Bool.toNat_true,Bool.toNat_false];lia
   ·have e2:=rd.same e;rw[e2] at eu ⊢;have hk:k∈ks:=pm.mem_iff.mpr (zaJ.mpr ⟨_,get_mem eu,rfl⟩);obtain⟨j,hj,ej⟩:=zaG.mp hk;exact cv j k (by rw[zad];exact hj) (by rw[zaa hj,ej]) e u eu
theorem wC(T:Tx K mg t):bM P w K mg base fZ 1 t.gH t.iD ["by_row", "way"] (DW K):=by
 refine T.cM.F.kZ om (fun vs H Q E h=>?_) (fun eA A outer s H vs Q E hr h=>?_)
 ·obtain⟨_,_,_,_,_,rfl,_,_,_,_,_,_⟩:=h;rfl
 obtain⟨d,wv,kvs,m,wq,rfl,hd,rel,hw,len,Bw,k⟩:=h;have nd:=om.nd;have hu:=i8 hr;have line:zdR=2 ^ 24:=rfl;obtain⟨a1,u1,rfl,hT,hR⟩:=hw;refine⟨_,[some (.ref d),some (.ref a1)],(au (aH (Bz (Gd (NQ hu (av ax (pv 1) ak aj) (pv 0))) (xN (bh (Al rfl) rfl T.Ec PyProof.Rows.Boot.«all» (aa (de (own:=["a", "b"]) (ix:=[]) rfl (by rfl) (by rfl) (vd rfl T.sC (aa (dc hu (pv 0) (av ax (pv 1) ak aj) (fun _ _=>rfl)) (aa (av ax (pv 1) ak aj) ah aG) aG)) (fun _ _ _ _=>(jf (K:=K) rfl 2 rfl (bH (aX (i:=0) (by show List.Nodup (["a", "b"]:List Str);decide +kernel) rfl (zap rfl)) (bH (aX (i:=1) (by show List.Nodup (["a", "b"]:List Str);decide +kernel) rfl (zap rfl)) gg)))) (fun _ _ _ _=>cZ) (fun _ _ _ _=>(Bz (gm Gi (av (bF (K:=K) rfl) (pv 0) ak aj) (av (bF (K:=K) rfl) (pv 1) ak aj) (aS _)) (xN (gm Gi (av (bF (K:=K) rfl) (pv 1) ak aj) (av (bF (K:=K) rfl) (pv 0) ak aj) (aS _)))))) ah eZ)))))),rfl,?_⟩;walk_at "rd";unfold Q6;walk_at "rd";refine aJ hT (v:=.int wq.1) (aC (j:=0) rfl) ⟨d,_,rfl,eK.k (k:=.inl wq.1) hd,?_⟩;rw[iY];rcases rel.get wq.1 with ⟨h1,h2⟩ |⟨v9,u9,h1,h2,h3⟩
 ·rw[h1];refine(if_neg (by simp)).mpr (k false H (aq.refl _) ⟨fun z=>(by cases z),fun ⟨u,e,_⟩=>by rw[h2] at e;cases e⟩)
 rw[h1];refine(if_pos (by simp)).mpr ?_;simp only[fJ];unfold Ob;walk_at "rd";have vk:c0 (kvs.map kI) (.inl wq.1)=some v9:=by rw[iY];exact h1
 have ll:=len u9 h2;obtain⟨oa,LP,rfl,MT,lo,go⟩:=h3;obtain⟨na,LQ,rfl,MU,ln,gn⟩:=hR;refine aJ hT (v:=.int wq.1) (aC (j:=0) rfl) ⟨d,.ref oa,rfl,by rw[<- vk];exact eK.k (k:=.inl wq.1) hd,aJ hT (v:=.ref na) (aC (j:=1) rfl) ⟨oa,na,rfl,⟨_,MT⟩,⟨_,MU⟩,fun D hD=>?_⟩⟩;have Sn:∀ {Hq:Hp} {p:zdJ} {r:PG.Rg} {Q':VK},cF K Hq p [.int r.1,.int r.2]->Q' (.int r.1) Hq->me K (.ref p) (.int 0) Hq Q':=fun h q=>aJ h (aC (j:=0) rfl) q;have Sq:∀ {Hq:Hp} {p:zdJ} {r:PG.Rg} {Q':VK},cF K Hq p [.int r.1,.int r.2]->Q' (.int r.2) Hq->me K (.ref p) (.int 1) Hq Q':=fun h q=>aJ h (aC (j:=1) rfl) q;refine vq (K:=K) (fun τ=>∃x y,τ=[x,y]) (fun i zs H2=>∃bs:List Bool,zs=bs.map V.bl/\∀j (hj:j<bs.length),∃a b,u9[j]?=some a/\wq.2[j]?=some b/\bs[j]=(decide (a.1<=b.1)&&decide (b.2<=a.2))) MT MU (by lia) (by lia) hD ⟨none,none,rfl⟩ ⟨[],rfl,fun j hj=>by simp at hj⟩ ?_ ?_
 ·rintro i x y zs τ H2 p hx hy ⟨x0,y0,rfl⟩ s2 kS lz ⟨bs,rfl,pv⟩ hp R hR
  obtain⟨hi,rfl⟩:=zah.mp hx;obtain⟨sG,rfl⟩:=zah.mp hy;obtain⟨r1,MN,b1,ex,g1⟩:=go i hi;obtain⟨r2,JQ,b2,ey,g2⟩:=gn i sG;have s3:=aq.new hp (.tup [LP[i],LQ[i]]);refine⟨p,_,rfl,.of ai,rfl,?_⟩;generalize upd H2 p (.tup [LP[i],LQ[i]])=H3 at *;have px:=s2.trans s3;walk_at "rd";rw[ex,ey];refine⟨_,_,rfl,_,_,rfl,rfl,Sn (px.br g1) (Sn (px.br g2) ?_)⟩;rw[zad] at lz;have fin:∀b:Bool,b=(decide (r1.1<=r2.1)&&decide (r2.2<=r1.2))->R [some (V.ref b1),some (V.ref b2)] (.bl b) H3:=fun b eb=>hR _ _ _ ⟨_,_,rfl⟩ s3 ⟨bs++[b],by simp,fun j hj=>by
   by_cases z:j<bs.length
   ·rw[za9 z];exact pv j z
   ·have:j=bs.length:=by simp at hj;lia
    subst this;rw[za8 (zaj _)];simp only[zbT,zbg];exact⟨r1,r2,by rw[lz];exact MN,by rw[lz];exact JQ,eb⟩⟩
  by_cases z:r1.1<=r2.1
  ·refine⟨_,_,rfl,rfl,_,rfl,(if_pos (decide_eq_true z)).mpr (Sq (px.br g2) (Sq (px.br g1) ⟨_,_,rfl,rfl,fin _ ?_⟩))⟩;rw[decide_eq_true z,zca]
  ·refine⟨_,_,rfl,rfl,_,rfl,(if_neg (fun y=>z (of_decide_eq_true y))).mpr (fin false ?_)⟩;rw[decide_eq_false z,zdm]
 ·rintro zs H2 s2 kS lz ⟨bs,rfl,pv⟩
  rw[zad] at lz;refine⟨D,bs,rfl,.of kS,k _ H2 s2 ⟨fun z=>⟨u9,h2,ll.symm,fun i x y e1 e2=>?_⟩,fun ⟨u,e,_,sb⟩=>?_⟩⟩
  ·have hi:i<bs.length:=by have:=(zah.mp e2).1;lia
   obtain⟨a,b,e3,e4,e5⟩:=pv i hi;rw[e1] at e4;cases e4;rw[e2] at e3;cases e3;have:=zbK.mp z bs[i] (zao hi);rw[e5] at this;simpa using this
  ·rw[h2] at e;cases e;refine zbK.mpr fun b hb=>?_;obtain⟨i,hi,rfl⟩:=zaG.mp hb;obtain⟨a,b,e3,e4,e5⟩:=pv i hi;have:=sb i b a e4 e3;rw[e5];simp[this.1,this.2]
theorem Bh(T:Tx K mg t):bM P w K mg base fZ 11 t.jM t.j6 ["chart", "paper"] (IS K t.aR):=by
 have kR:=pA (P:=P) (w:=w) (base:=base) T;have jQ:=ma (P:=P) (w:=w) (base:=base) T;have qD:=wC (P:=P) (w:=w) (base:=base) T;refine T.iq.F.kZ sA (fun vs H Q E h=>?_) (fun eA A outer s H vs Q E hr h=>?_)
 ·obtain⟨_,_,_,_,_,rfl,_,_,_,_,_,_,_,_⟩:=h;rfl
 obtain⟨ch,pa,pr,us,ms,rfl,co,sd,hp,wo,rise,mf,gc,k⟩:=h;have nd:=sA.nd;have hu:=i8 hr;have dr:=sd.dr;have ok:=dr.ok;have line:zdR=2 ^ 24:=rfl;have wt:=wo.len;refine⟨_,[some (.ref ch),some (.ref pa),none,none,none],(ao (Kq (i:=2) nd rfl (zap rfl) (own:=["entry"]) (ix:=[]) rfl (by rfl) (by rfl) (bT (pv 1)) (fun _ _ _ _=>(aX (i:=0) (by show List.Nodup (["entry"]:List Str);decide +kernel) rfl (zap rfl))) (fun _ _ _ _=>cZ) (fun _ _ _ _=>(av (bF (K:=K) rfl) (pv 0) ak aj)))
 (ao (bB (aM (yh (B3 hr)) (pv 2) (bh (wj rfl) rfl T.kQ PyProof.Rows.Boot.«sorted» (aa (bL (FD rfl) rfl T.Jb PyProof.Rows.Boot.«set» (aa (pv 2) ah ae)) ah aT)) (aS _))
 (au (aH jw))
 aW)
 (ao (aP (i:=3) nd rfl (Or.inr rfl) (bL (jB rfl) rfl T.mY PyProof.Rows.Boot.«dict» (aa (pv 1) ah ae)))
 (ao (bB (ua (gY (aA qD (hr.mono (by first|decide|omega)) rfl T.cM.m T.cM.F.kp T.cM.b .nil aN (aa (pv 3) (aa (bf (aa (av ax (g9 (pv 0) rfl) ak aj) (aa (aA jQ (hr.mono (by first|decide|omega)) rfl T.b8.m T.b8.F.kp T.b8.b .nil aN (aa (pv 0) ah ae)) ah aT) aG)) ah iX) ae))))
 (au (aH jw))
 aW)
 (ao (eI PassesOwn.never rfl (bT (pv 1)) (aX (i:=4) nd rfl (zap rfl))
 (au (bB (ua (gY (bh (Al rfl) rfl T.Ec PyProof.Rows.Boot.«all» (aa (de (own:=["way"]) (ix:=[3]) rfl (by rfl) (by rfl) (bT (aA kR (hr.mono (by first|decide|omega)) rfl T.c8.m T.c8.F.kp T.c8.b .nil aN (aa (pv 0) (aa (av ax (pv 4) ak aj) (aa (av ax (pv 4) ak aj) ah aG) aG) ae))) (fun _ _ _ _=>(aX (i:=0) (by show List.Nodup (["way", "by_row"]:List Str);decide +kernel) rfl (zap rfl))) (fun _ _ _ _=>cZ) (fun _ _ _ _=>(aA qD (hr.mono (by first|decide|omega)) rfl T.cM.m T.cM.F.kp T.cM.b .nil aN (aa (pv 1) (aa (pv 0) ah ae) ae)))) ah eZ))))
 (au (aH jw))
 aW)))
 (au (aH jw))))))),rfl,?_⟩
 refine aw fun U1 gf=>?_;walk_at "rd";simp only[fJ];walk_at "rd";refine⟨⟨_,hp⟩,fun D hD=>?_⟩;refine nD (K:=K) (fun τ=>∃x,τ=[x]) (fun i ys H2=>ys=(ms.take i).map fun e=>V.int e.1) hp (by lia) hD ⟨none,rfl⟩ (by simp) ?_ ?_
 ·rintro i x ys τ H2 hx ⟨x0,rfl⟩ s2 kS ly rfl R hR
  obtain⟨e,ew,a,u,rfl,hT,ZA⟩:=wo.get hx;walk_at "rd";refine aJ (s2.br hT) (v:=.int e.1) (aC (j:=0) rfl) (hR _ _ _ ⟨_,rfl⟩ (aq.refl _) ?_);rw[zbG,ew,zaw];rfl
 intro ys H2 s2 kS ly ZC;rw[wt,za6] at ZC;subst ZC;refine(gf _ _).mpr (aw fun U2 jv=>?_);clear gf;have Xd:(ms.map fun e=>V.int e.1)=(ms.map (·.1)).map V.int:=by rw[za3];rfl
 rw[Xd] at kS;have pwr:(ms.map (·.1)).Pairwise (· < ·):=zaL.mpr rise;generalize Sr:ms.map (·.1)=rows at *;have O3:rows.length=ms.length:=by rw[<- Sr,zad]
 walk_at "rd";refine⟨D,rows,rfl,.of kS,by lia,fun p xD=>⟨p,rows,rfl,ai,by lia,fun l ks hl pw mem=>?_⟩⟩;have eks:ks=rows:=by
  have key:∀ {a b:List Int},a.Pairwise (· < ·)->b.Pairwise (· < ·)->(∀k,k∈a↔k∈b)->a=b:=by
   intro a
   induction a with
   |nil=>
    intro b _ _ h;cases b with
    |nil=>rfl
    |cons x r=>exact absurd ((h x).mpr (by simp)) (by simp)
   |cons x r ih=>
    intro b ha hb h;rw[zbc] at ha;cases b with
    |nil=>exact absurd ((h x).mp (by simp)) (by simp)
    |cons y t=>
     rw[zbc] at hb;have Wo:x=y:=by
      rcases zag.mp ((h x).mp (by simp)) with e |e
      ·exact e
      ·rcases zag.mp ((h y).mpr (by simp)) with e2 |e2
       ·exact e2.symm
       ·have:=hb.1 x e;have:=ha.1 y e2;lia
     subst Wo;rw[ih ha.2 hb.2 fun e=>?_]
     constructor
     ·intro he;rcases zag.mp ((h e).mp (by simp[he])) with rfl |z
      ·have:=ha.1 _ he;lia
      ·exact z
     ·intro he;rcases zag.mp ((h e).mpr (by simp[he])) with rfl |z
      ·have:=hb.1 _ he;lia
      ·exact z
  exact key pw pwr mem
 subst eks;generalize e4:upd (upd H2 p _) l _=H3;have s3:aq H2 H3:=by rw[<- e4];exact(aq.new xD _).trans (aq.new hl _)
 have yl:H3 l=some (.lst (ks.map V.int)):=by rw[<- e4];exact ai
 clear e4;have vG:=s3 _ _ kS;refine⟨_,_,Rep.bq.mpr ⟨D,_,rfl,.of vG,qW ks⟩,Rep.bq.mpr ⟨l,_,rfl,.of yl,qW ks⟩,Av _,Av _,?_⟩;rw[eqv_refl];refine⟨_,rfl,(if_neg (by decide)).mpr ((jv _ _).mpr (aw fun U3 jT=>?_))⟩;clear jv;have MV:=s2.trans s3;walk_at "rd";obtain⟨ps,Xe,E5,kvs,Ss,rel⟩:=xB wo;have ZD:kvs.length=ms.length:=by have:=congrArg zaR rel.keys;rwa [zad,zad] at this
 have lps:ps.length=kvs.length:=by have:=congrArg zaR Ss;rwa [zad,zad] at this
 have Xf:((kvs.map kI).map (·.1)).Nodup:=IT (by rw[rel.keys];exact tW rise);refine⟨pa,ps,rfl,by rw[<- Xe];exact MV.seq hp,fun q hq=>MV.br (E5 q hq),by lia,fun d MD=>?_⟩;rw[Ss,jN Xf];have e5:=aq.new MD (.dK (kvs.map kI));have yd:(upd H3 d (.dK (kvs.map kI))) d=_:=ai;have vW:=MV.trans e5;generalize upd H3 d (.dK (kvs.map kI))=H4 at *;refine(jT _ _).mpr (aw fun U4 lO=>?_);clear jT s3 vG yl e5 MD hl xD kS hD s2;have Xg:=co.mono vW;have len:∀(q:Int×List PG.Rg),q.2.length=pr.ay.length->∀u,bg ms q.1=some u->u.length=q.2.length:=fun q hq u e=>by rw[hq];exact((mf _ (get_mem e)).1.bd.1)
 obtain⟨OQ,nl,Zi,fa,OB,st,wy,uu,ws,h1,h2,h3,h4,h5,h6,_⟩:=Xg.at_;walk_at "rd";refine⟨ch,_,OQ,_,.ref fa,rfl,h1,T.cw,T.cY,rfl,?_⟩;refine aJ (.of h5) (v:=.int (PG.aB pr.body 0)) (aC (j:=0) rfl) ⟨ch,pr,rfl,Xg,ok.gc,fun rv H5 s5 r5 p6 CS=>?_⟩;have e6:=aq.new CS (.tup [.int (PG.aB pr.body 0),rv]);have w6:jS K (upd H5 p6 (.tup [.int (PG.aB pr.body 0),rv])) (.ref p6) (PG.aB pr.body 0,one (pr.ay.map (·.first))):=⟨p6,rv,rfl,.of ai,r5.mono e6⟩
 have ON:=s5.trans e6;generalize upd H5 p6 (.tup [.int (PG.aB pr.body 0),rv])=H6 at *;have l1:(one (pr.ay.map (·.first))).length=pr.ay.length:=by unfold one;rw[zad,zad]
 refine⟨d,.ref p6,kvs,ms,(PG.aB pr.body 0,one (pr.ay.map (·.first))),rfl,ON _ _ yd,rel.mono fun v rs h=>h.mono (vW.trans ON),w6,len _ l1,by rw[l1];exact ok.gc,fun b H7 s7 hb=>?_⟩;have Xh:=(vW.trans ON).trans s7;have yd7:=s7 _ _ (ON _ _ yd);clear w6 e6 ON s5 r5 CS s7 h1 h2 h3 h4 h5 h6 Xg yd vW MV;cases b with
 |false=>
  refine⟨_,rfl,(if_pos rfl).mpr (k false H7 Xh ⟨fun z=>(by cases z),fun c=>?_⟩)⟩;have:=hb.mpr ((tX rise).mp c).1;cases this
 |true=>
  refine⟨_,rfl,(if_neg (by decide)).mpr ((lO _ _).mpr (aw fun U5 wu=>?_))⟩;clear lO;have first:=hb.mp rfl;clear hb;refine eL fun U hU=>?_;walk_at "rd";refine⟨⟨_,Xh.seq hp⟩,hU _ _ ?_⟩;clear hU;obtain⟨Cw,LR⟩:∃Cw:Int×List PG.Rg->Prop,∀e,Cw e↔∀(i:Nat) (hi:i<(PG.aE pr.body).length) (hf:i<(PG.aK pr.body 0).length),(PG.aE pr.body)[i].row=e.1->∀q∈PG.dD pr.ay e.2 (PG.aK pr.body 0)[i].2.2 (PG.aE pr.body)[i],yH ms q:=⟨_,fun _=>Iff.rfl⟩
  obtain⟨Pv,jP⟩:∃Pv:Nat->St->Hp->Prop,∀i σ Hy,Pv i σ Hy↔∃(z4:Option V),σ=[some (.ref ch),some (.ref pa),some (.ref D),some (.ref d),z4]/\aq H Hy/\Hy d=some (.dK (kvs.map kI))/\∀e∈ms.take i,Cw e:=⟨_,fun _ _ _=>Iff.rfl⟩
  refine eJ (K:=K) (a:=pa) (xs:=us) Pv ((jP _ _ _).mpr ⟨none,rfl,Xh,yd7,fun e he=>by simp at he⟩) ?_ ?_ ?_
  ·intro j σ Hy hj hv;obtain⟨_,_,h,_⟩:=(jP _ _ _).mp hv;exact h.seq hp
  ·intro j x σ Hy hx hv;obtain⟨z4,rfl,sy,MW,cv⟩:=(jP _ _ _).mp hv;clear hv;obtain⟨e,ee,a,u,rfl,Xi,Uh⟩:=wo.get hx;have hT:=sy.br Xi;have hR:=Uh.mono sy;have tk:ms.take (j+1)=ms.take j++[e]:=by rw[zbG,ee];rfl
   obtain⟨vV,kn⟩:=mf e (zav ee);have OW:=vV.TY dr.size;have ll:e.2.length=pr.ay.length:=vV.bd.1;have Xj:RelM K Hy kvs ms:=rel.mono fun v rs h=>h.mono sy;walk_at "rd";simp only[fJ];walk_at "rd";have loop:∀(L:zdJ) (ws:List V) (dI:List (Int×List PG.Rg)) (H8:Hp),aq Hy H8->H8 L=some (.lst ws)->c5 K H8 ws dI->(∀p∈dI,p.2.length=pr.ay.length)->dI.length<=1000->(Cw e↔∀p∈dI,yH ms p)->∀D2,H8 D2=none->jW (BE K L) D2 (eG 0) oR (Gk (DW K) [] E0 (lR (dM 1) (lR (dM 0) BM))) (fun x H1=>∃p bs,[x]=[V.ref p]/\fU K H1 p (List.map V.bl bs)/\if (!bs.all id)=true then Q (V.bl false) H1 else Pv (j+1) [some (V.ref ch),some (V.ref pa),some (V.ref D),some (V.ref d),some (V.ref a)] H1) [none,some (V.ref d)] (upd H8 D2 (.lst [])):=by
    intro L ws dI H8 s8 yL JR wl ZE hw D2 kS;have T5:=JR.len;refine nD (K:=K) (fun τ=>∃x,τ=[x,some (V.ref d)]) (fun i ys H2=>∃bs:List Bool,ys=bs.map V.bl/\∀i (hi:i<bs.length),∃p,dI[i]?=some p/\(bs[i]=true↔yH ms p)) (.of yL) (by lia) kS ⟨none,rfl⟩ ⟨[],rfl,fun j hj=>by simp at hj⟩ ?_ ?_
    ·rintro i x ys τ H2 hx ⟨x0,rfl⟩ s2 vG ly ⟨bs,rfl,pv⟩ R hR9
     obtain⟨p,ep,hwp⟩:=JR.get hx;have ZF:=s8.trans s2;walk_at "rd";refine⟨d,x,kvs,ms,p,rfl,ZF _ _ MW,Xj.mono fun v rs h=>h.mono ZF,hwp.mono s2,len p (wl p (zav ep)),by rw[wl p (zav ep)];exact ok.gc,fun b H9 s9 hb=>hR9 _ _ _ ⟨_,rfl⟩ s9 ⟨bs++[b],by simp,fun i2 sG=>?_⟩⟩;rw[zad] at ly;by_cases z:i2<bs.length
     ·rw[za9 z];exact pv i2 z
     ·have:i2=bs.length:=by simp at sG;lia
      subst this;rw[za8 (zaj _)];simp only[zbT,zbg];exact⟨p,by rw[ly];exact ep,hb⟩
    ·rintro ys H2 s2 vG ly ⟨bs,rfl,pv⟩
     rw[zad] at ly;refine⟨D2,bs,rfl,.of vG,?_⟩;have all:bs.all id=true↔Cw e:=by
      rw[hw,zbK]
      constructor
      ·intro z p hp;obtain⟨i,hi,rfl⟩:=zaG.mp hp;have sG:i<bs.length:=by lia
       obtain⟨p,e1,e2⟩:=pv i sG;rw[zaa hi] at e1;cases e1;exact e2.mp (z _ (zao sG))
      ·intro z b hb;obtain⟨i,hi,rfl⟩:=zaG.mp hb;obtain⟨p,e1,e2⟩:=pv i hi;exact e2.mpr (z p (zav e1))
     have s0:=(sy.trans s8).trans s2;cases zb:bs.all id with
     |false=>
      refine(if_pos rfl).mpr (k false H2 s0 ⟨fun z=>(by cases z),fun c=>?_⟩);have:=all.mpr ((LR e).mpr fun i hi hf er q hq=>((tX rise).mp c).2 e (zav ee) i hi hf er q hq);rw[zb] at this;cases this
     |true=>
      refine(if_neg (by decide)).mpr ((jP _ _ _).mpr ⟨_,rfl,s0,s2 _ _ (s8 _ _ MW),fun e2 B5=>?_⟩);rw[tk] at B5;rcases zak.mp B5 with h |h
      ·exact cv e2 h
      ·rw[zan.mp h];exact all.mp zb
   refine aJ hT (v:=.int e.1) (aC (j:=0) rfl) (aJ hT (v:=u) (aC (j:=1) rfl) ⟨ch,u,pr,e.1,e.2,rfl,co.mono sy,ok,hR,ll,?_,?_⟩)
   ·intro b hb;have:=dr.size b hb;lia
   ·rcases kn with e0 |⟨OZ,Df,AV⟩
    ·refine .inl ⟨e0,fun L H8 s8 hL yL=>⟨L,rfl,⟨_,.of yL⟩,loop L [] [] H8 s8 yL .nil (fun p hp=>by cases hp) (by simp) ⟨(fun _ p hp=>by cases hp),fun _=>(LR e).mpr fun i hi hf er=>?_⟩⟩⟩;have:=ok.pos _ (zao hi);lia
    ·obtain⟨i,hi,rfl⟩:=zaG.mp Df;have FO:i<(PG.aK pr.body 0).length:=by
      have:=(sR pr.body 0).length;lia
     have own:=PG.je pr.body _ dr.own (zao hi);have O0:=Paired.AW (sR pr.body 0) (zaa hi) (zaa FO);refine .inr ⟨?_,i,hi,FO,AV,yD own OW,qh O0,fun L us H8 s8 hL yL JR=>⟨L,rfl,⟨_,.of yL⟩,loop L us _ H8 s8 yL JR (fun p hp=>(nF vV ok.nb own (fun b hb=>by have:=dr.size b hb;lia) p hp).bd.1) (zax (AA _ _ _ _) (by decide)) ?_⟩⟩
     ·have:=ok.pos _ (zao hi);lia
     ·rw[LR]
      constructor
      ·exact fun h=>h i hi FO AV
      ·intro h i2 sG Sg e2;have:i2=i:=by
        have pw:=ok.pw;rw[zaK] at pw;rcases zb1 i2 i with h |h |h
        ·have:=pw i2 i sG hi h;lia
        ·exact h
        ·have:=pw i i2 hi sG h;lia
       subst this;exact h
  ·intro σ Hy hv;obtain⟨z4,rfl,sy,MW,cv⟩:=(jP _ _ _).mp hv;refine(wu _ _).mpr ?_;walk_at "rd";rw[wt,za6] at cv;exact k true Hy sy ⟨fun _=>(tX rise).mpr ⟨first,fun e he=>(LR e).mp (cv e he)⟩,fun _=>rfl⟩
theorem sX(T:Tx K mg t):bM P w K mg base fZ 12 t.eS t.fS ["program", "paper"] (A7 K):=by
 have g1:=gP (P:=P) (w:=w) (base:=base) T;have g2:=nN (P:=P) (w:=w) (base:=base) T 5;have g3:=yV (P:=P) (w:=w) (base:=base) T;have gQ:=kj (P:=P) (w:=w) (base:=base) T g1 g2 g3;have CZ:=Bh (P:=P) (w:=w) (base:=base) T;refine T.bZ.F.kZ l3 (fun vs H Q E h=>?_) (fun eA A outer s H vs Q E hr h=>?_)
 ·obtain⟨_,_,_,_,_,rfl,_,_,_,_,_,_,_,_⟩:=h;rfl
 obtain⟨v,pa,pr,us,ms,rfl,rp,sd,hp,wo,rise,mf,gc,k⟩:=h;have nd:=l3.nd;have dr:=sd.dr;have ok:=dr.ok;refine⟨_,[some v,some (.ref pa)],(au (aH (aA CZ (hr.mono (by first|decide|omega)) rfl T.iq.m T.iq.F.kp T.iq.b .nil aN (aa (xP T.mX gQ (hr.mono (by first|decide|omega)) rfl T.vB T.lL .nil aN (aa (pv 0) ah ae)) (aa (pv 1) ah ae) aT)))),rfl,?_⟩;walk_at "rd";intro ch dx MM MF ne;have s1:aq H (upd (upd H dx (.own ch)) ch (.ins t.aR dx [])):=(aq.new MF _).trans (aq.new (by rw[aD ne.symm];exact MM) _);refine⟨ch,dx,v,pr,rfl,ai,by rw[aD ne];exact ai,rp.mono s1,dr.dep,dr.gc,ok.pw,ok.nb,ok.gc,fun H2 u2 co=>⟨rfl,?_⟩⟩;have s2:aq H H2:=((bc.of s1).trans u2).same MM;exact⟨ch,pa,pr,us,ms,rfl,co,sd,s2.seq hp,wo.map fun v w h=>h.mono s2,rise,mf,gc,fun b H3 s3 hb=>k b H3 (s2.trans s3) hb⟩
end
end IY
end
section
set_option maxHeartbeats 4000000
namespace IY
open PySem L2
local macro_rules | `(tactic|walk_at "rd")=>`(tactic|((try dsimp only[ wX,wQ,Er,wR,Px,Ep,wV,PF,EK,PD,xb,ni,EE,uk,ui,PB,rU,ue,uf,zP,rO,BB,Et,BA,vZ,pM,Ah,uB,uC,uD,uF,uG,uH,uI,uJ,uK,uL,tK,tL,tM,tO,tP,GJ,Es,wU,zQ,eG,Ai,Aj,zbA,pN,pO,uN,pQ,pS,qb,pT,Ak,GP,uS,uO,uP,Pu,zbp,zbt,zai,zaz,uQ,uR,yn,yo,pP]);(try simp only[ wX,wQ,Er,wR,Px,Ep,wV,PF,EK,PD,xb,ni,EE,uk,ui,PB,rU,ue,uf,BY,BZ,zP,rO,BB,Et,BA,vZ,pM,Ah,uB,uC,uD,uF,uG,uH,uI,uJ,uK,uL,tK,tL,tM,tO,tP,GJ,Es,wU,zQ,eG,GI,NT,Ai,Aj,GK,xY,uM,B0,B1,zbA,pN,pO,uN,pQ,pS,qb,pT,Ak,GP,uS,uO,uP,Pu,zba,zbp,zbt,xZ,x8,true_and,and_true,zai,zaz,ya,uQ,uR,yn,yo,pP,zdH,zdI,zc3,zdz,and_self])))
section
variable{P:zdV}{w:zdL}{K:zab}{mg:Str->Option zdK}{base:Heap}{t:Ad}
theorem wD(T:Tx K mg t):bM P w K mg base fZ 12 t.gO t.iI ["program", "paper"] (A7 K):=by
 have m7:=qC (P:=P) (w:=w) (base:=base) T;refine T.cO.F.kZ oA (fun vs H Q E h=>?_) (fun eA A outer s H vs Q E hr h=>?_)
 ·obtain⟨_,_,_,_,_,rfl,_,_,_,_,_,_,_,_⟩:=h;rfl
 obtain⟨F1,pp,pr,us,ms,rfl,Sh,sd,hp,wo,rise,mf,gc,k⟩:=h;have nd:=oA.nd;have hu:=i8 hr;have dr:=sd.dr;have ok:=dr.ok;have line:zdR=2 ^ 24:=rfl;have wt:=wo.len;refine⟨_,[some F1,some (.ref pp),none,none,none,none,none,none,none,none],(ao (aP (i:=2) nd rfl (zap rfl) (bL (jB rfl) rfl T.mY PyProof.Rows.Boot.«dict» (aa (pv 1) ah ae)))
 (ao (aP (i:=3) nd rfl (zap rfl) (av bP (bC j9 (de (own:=["one"]) (ix:=[]) rfl (by rfl) (by rfl) (bT (av ax (pv 0) ak aj)) (fun _ _ _ _=>(aX (i:=0) (by show List.Nodup (["one"]:List Str);decide +kernel) rfl (zap rfl))) (fun _ _ _ _=>cZ) (fun _ _ _ _=>(av (bF (K:=K) rfl) (pv 0) ak aj))) (bE (aa ak ah aZ))) ak aj))
 (ao (aP (i:=4) nd rfl (zap rfl) (bE (aa (bf (aa (pv 3) (aa (bL cP rfl T.iJ PyProof.Rows.Boot.«tuple» (aa (de (own:=["box"]) (ix:=[]) rfl (by rfl) (by rfl) (bT (av ax (pv 0) ak aj)) (fun _ _ _ _=>(aX (i:=0) (by show List.Nodup (["box"]:List Str);decide +kernel) rfl (zap rfl))) (fun _ _ _ _=>cZ) (fun _ _ _ _=>(bf (aa (av (bF (K:=K) rfl) (pv 0) ak aj) (aa (av (bF (K:=K) rfl) (pv 0) ak aj) ah aG) aG)))) ah eZ)) ah aT) ae)) ah iX)))
 (ao (eI PassesOwn.never rfl (Lv (pv 2)) (aX (i:=5) nd rfl (zap rfl))
 (au (aP (i:=4) nd rfl (zap rfl) (bC j9 (pv 4) (aA m7 (hr.mono (by first|decide|omega)) rfl T.du.m T.du.F.kp T.du.b .nil aN (aa (pv 0) (aa (pv 5) (aa (dc hu (pv 2) (pv 5) (fun _ _=>rfl)) ah aG) ae) ae))))))
 (ao (eI PassesOwn.never rfl (bT (pv 4)) (jf (K:=K) rfl 2 rfl (bH (aX (i:=6) nd rfl (zap rfl)) (bH (aX (i:=7) nd rfl (zap rfl)) gg)))
 (ao (bB (Nn (xj hu (pv 6) (pv 2)))
 (au (aH jw))
 aW)
 (au (eI PassesOwn.never rfl (vd rfl T.sC (aa (dc hu (pv 2) (pv 6) (fun _ _=>rfl)) (aa (pv 7) ah ae) aG)) (jf (K:=K) rfl 2 rfl (bH (aX (i:=8) nd rfl (zap rfl)) (bH (aX (i:=9) nd rfl (zap rfl)) gg)))
 (au (bB (PW.pt (pw_or (aM zU (av ax (pv 8) ak aj) (av ax (pv 9) ak aj) (aS _)) (pw_or1 (aM nV (av ax (pv 8) ak aj) (av ax (pv 9) ak aj) (aS _)))))
 (au (aH jw))
 aW))))))
 (au (aH jw))))))),rfl,?_⟩
 have rp:=Sh;unfold hX at rp;rw[Rep.bj] at rp;obtain⟨pa,Y3,rfl,MG,tY⟩:=rp;rw[aQ.aO] at tY;obtain⟨v1,t1,rfl,JP,tY⟩:=tY;rw[aQ.aO] at tY;obtain⟨v2,t2,rfl,OF,tY⟩:=tY;rw[aQ.bO] at tY;subst tY;obtain⟨bb,ys,rfl,Kk,Si⟩:=Rep.bq.mp OF;obtain⟨B,_,rfl,_⟩:=Rep.bq.mp JP;obtain⟨MQ,hB,lB,O1⟩:=m5 JP;have LK:=ok.gc;have lys:ys.length=pr.body.length:=by rw[Si.length,zad]
 have lb:pr.body.length<=(PG.aE pr.body).length:=by
  rw[qa];exact ic pr.body
 have WQ:=sd.len;refine aw fun U0 Su=>?_;walk_at "rd";obtain⟨ps,Xe,E5,kvs,Ss,rel⟩:=xB wo;have ZD:kvs.length=ms.length:=by have:=congrArg zaR rel.keys;rwa [zad,zad] at this
 have lps:ps.length=kvs.length:=by have:=congrArg zaR Ss;rwa [zad,zad] at this
 have Xf:((kvs.map kI).map (·.1)).Nodup:=IT (by rw[rel.keys];exact tW rise);refine⟨pp,ps,rfl,by rw[<- Xe];exact hp,E5,by lia,fun d MD=>?_⟩;rw[Ss,jN Xf];have Ql:=aq.new MD (.dK (kvs.map kI));have ZG:(upd H d (.dK (kvs.map kI))) d=_:=ai;generalize upd H d (.dK (kvs.map kI))=H0 at *;refine(Su _ _).mpr (aw fun U1 gf=>?_);clear Su;walk_at "rd";simp only[fJ];walk_at "rd";refine aJ (Ql.br MG) (v:=.ref bb) (aC (j:=1) rfl) ⟨bb,rfl,⟨_,Ql.seq Kk⟩,fun D1 MH=>xA (ss:=pr.body) (Ql.seq Kk) (Si.mono Ql) (by lia) MH (fun p w0 k ys H2 hp R hR=>?_) (fun H2 s2 Sj p3 xD=>?_)⟩
 ·walk_at "rd";exact aJ hp (aC (j:=1) rfl) hR
 have s3:=aq.new xD (.lst [V.int 0]);have y3:(upd H2 p3 (.lst [V.int 0])) p3=_:=ai;have yj:=(Ql.trans s2).trans s3;have Sk:=s3 _ _ Sj;have ZH:=s3 _ _ (s2 _ _ ZG);generalize upd H2 p3 (.lst [V.int 0])=H3 at *;refine⟨D1,p3,_,_,rfl,rfl,Sk,y3,by rw[zad,zad];simp only[zai,zaz];lia,fun Lt Sl=>?_⟩;have s4:=aq.new Sl (.lst ((pr.body.map (·.row)).map V.int++[V.int 0]));have Sm:(upd H3 Lt (.lst ((pr.body.map (·.row)).map V.int++[V.int 0]))) Lt=_:=ai;have vW:=yj.trans s4;have ZI:=s4 _ _ ZH;generalize upd H3 Lt (.lst ((pr.body.map (·.row)).map V.int++[V.int 0]))=H4 at *;refine cx (.of Sm) (v:=V.int (PG.aB pr.body 0)) (aC (j:=0) (A6 pr.body 0)) ((gf _ _).mpr (aw fun U2 jv=>?_));clear gf s2 s3 yj s4 y3 Sj Sk Sm MH xD Sl ZH Ql ZG;walk_at "rd";simp only[fJ];walk_at "rd";refine aJ (vW.br MG) (v:=.ref B) (aC (j:=0) rfl) ⟨B,rfl,⟨_,vW.seq hB⟩,fun D2 kS=>vJ (vW.seq hB) lB (fun i x e=>let ⟨a,e1,e2⟩:=O1 i x e;⟨a,e1,vW.br e2⟩) LK kS fun Sv H6 s6 y6 ru=>?_⟩;refine⟨D2,Sv,rfl,.inl ⟨.of y6,fun l hl p8 FZ p9 zG=>?_⟩⟩;have e7:=aq.new hl (.tup Sv);have ra:dC K (upd H6 l (.tup Sv)) (.ref l) (one (pr.ay.map (·.first))):=⟨l,Sv,rfl,.of ai,ru.mono e7⟩
 have Xk:=s6.trans e7;generalize upd H6 l (.tup Sv)=H7 at *;have e8:=aq.new FZ (.tup [V.int (PG.aB pr.body 0),V.ref l]);have w8:jS K (upd H7 p8 (.tup [V.int (PG.aB pr.body 0),V.ref l])) (.ref p8) (PG.aB pr.body 0,one (pr.ay.map (·.first))):=⟨p8,.ref l,rfl,.of ai,ra.mono e8⟩
 generalize upd H7 p8 (.tup [V.int (PG.aB pr.body 0),V.ref l])=H8 at *;have e9:=aq.new zG (.lst [V.ref p8]);have y9:(upd H8 p9 (.lst [V.ref p8])) p9=_:=ai;have w9:=w8.mono e9;have ZJ:=vW.trans (Xk.trans (e8.trans e9));have Uj:=(Xk.trans (e8.trans e9)) _ _ ZI;generalize upd H8 p9 (.lst [V.ref p8])=H9 at *;clear e7 e8 e9 Xk w8 ra hl FZ zG y6 ru s6 ZI kS vW;refine(jv _ _).mpr (aw fun U3 jT=>?_);clear jv;have l1:(one (pr.ay.map (·.first))).length=pr.ay.length:=by unfold one;rw[zad,zad]
 have len:∀(q:Int×List PG.Rg),q.2.length=pr.ay.length->∀u,bg ms q.1=some u->u.length=q.2.length:=fun q hq u e=>by rw[hq];exact((mf _ (get_mem e)).1.bd.1)
 obtain⟨Cw,LR⟩:∃Cw:Int×List PG.Rg->Prop,∀e,Cw e↔∀(i:Nat) (hi:i<(PG.aE pr.body).length) (hf:i<(PG.aK pr.body 0).length),(PG.aE pr.body)[i].row=e.1->∀q∈PG.dD pr.ay e.2 (PG.aK pr.body 0)[i].2.2 (PG.aE pr.body)[i],yH ms q:=⟨_,fun _=>Iff.rfl⟩
 refine IP fun U hU=>?_;unfold DU;walk_at "rd";refine⟨d,kvs,rfl,Uj,fun o=>hU _ _ ?_⟩;clear hU;have sW:bc d H9 (upd H9 d (.qH o (.dK (kvs.map kI)))):=(bc.refl _ _).put _;have Xl:aq H (upd H9 d (.qH o (.dK (kvs.map kI)))):=((bc.of ZJ).put _).same MD;have Xm:(upd H9 d (.qH o (.dK (kvs.map kI)))) d=_:=ai;have ZK:p9≠d:=fun z=>by rw[z,Uj] at y9;cases y9
 have P0:=sW _ _ ZK y9;have w10:=w9.dk Uj sW;generalize upd H9 d (.qH o (.dK (kvs.map kI)))=Bc at *;clear w9 y9 Uj ZJ sW ZK;obtain⟨Pv,jP⟩:∃Pv:Nat->St->Hp->Prop,∀i σ Hy,Pv i σ Hy↔∃(z5 z6 z7 z8 z9:Option V) (LD:zdJ) (wv:List V) (dl:List (Int×List PG.Rg)),σ=[some (.ref pa),some (.ref pp),some (.ref d),some (.int (PG.aB pr.body 0)),some (.ref LD),z5,z6,z7,z8,z9]/\aq H Hy/\Hy d=some (.qH o (.dK (kvs.map kI)))/\Hy LD=some (.lst wv)/\c5 K Hy wv dl/\(∀p∈dl,p.2.length=pr.ay.length)/\dl.length<=1+2*i/\((∀p∈dl,yH ms p)↔yH ms (PG.aB pr.body 0,one (pr.ay.map (·.first)))/\∀e∈ms.take i,Cw e):=⟨_,fun _ _ _=>Iff.rfl⟩
 refine IQ (d:=d) (o:=o) (kvs:=kvs) Pv ((jP _ _ _).mpr ⟨none,none,none,none,none,p9,_,[_],rfl,Xl,Xm,P0,.cons w10 .nil,fun p hp=>by rw[zan.mp hp];exact l1,by simp,by simp⟩) ?_ ?_ ?_
 ·intro j σ Hy hj hv;obtain⟨_,_,_,_,_,_,_,_,_,_,h,_⟩:=(jP _ _ _).mp hv;exact h
 ·intro j kv σ Hy hx hv;obtain⟨z5,z6,z7,z8,z9,LD,wv,dl,rfl,sy,MW,F3,Sw,ld,fd,iff⟩:=(jP _ _ _).mp hv;clear hv;have lj:j<ms.length:=by have:=(zah.mp hx).1;lia
  obtain⟨e1,rv⟩:=Paired.AW rel hx (zaa lj);have ee:=zaa lj;have tk:ms.take (j+1)=ms.take j++[ms[j]]:=by rw[zbG,ee];rfl
  generalize ms[j]=e at *;have e1:kv.1=e.1:=e1;have Eh:dC K Hy kv.2 e.2:=(show dC K H kv.2 e.2 from rv).mono sy;obtain⟨vV,kn⟩:=mf e (zav ee);have OW:=vV.TY dr.size;have ll:e.2.length=pr.ay.length:=vV.bd.1;have vk:c0 (kvs.map kI) (.inl kv.1)=some kv.2:=by
   rw[iY];exact nG (by rw[rel.keys];exact tW rise) (zav hx)
  walk_at "rd";have loop:∀(L:zdJ) (ws:List V) (dI:List (Int×List PG.Rg)) (H8:Hp),aq Hy H8->H8 L=some (.lst ws)->c5 K H8 ws dI->(∀p∈dI,p.2.length=pr.ay.length)->dI.length<=2->(Cw e↔∀p∈dI,yH ms p)->∀p,H8 p=none->Pv (j+1) [some (V.ref pa),some (V.ref pp),some (V.ref d),some (V.int (PG.aB pr.body 0)),some (V.ref p),some (V.int kv.1),z6,z7,z8,z9] (upd H8 p (.lst (wv++ws))):=by
   intro L ws dI H8 s8 yL JR wl w2 hw p zG;have e9:=aq.new zG (.lst (wv++ws));refine(jP _ _ _).mpr ⟨_,_,_,_,_,p,wv++ws,dl++dI,rfl,(sy.trans s8).trans e9,e9 _ _ (s8 _ _ MW),ai,?_,fun q hq=>(zak.mp hq).elim (ld q) (wl q),by rw[zau];lia,?_⟩
   ·exact(Sw.map fun v w h=>h.mono (s8.trans e9)).app (JR.map fun v w h=>h.mono e9)
   ·rw[tk]
    constructor
    ·intro h;obtain⟨x1,x2⟩:=iff.mp fun p hp=>h p (zak.mpr (.inl hp));exact⟨x1,fun e2 B5=>(zak.mp B5).elim (x2 e2) fun z=>by rw[zan.mp z];exact hw.mpr fun p hp=>h p (zak.mpr (.inr hp))⟩
    ·rintro ⟨x1,x2⟩ p hp
     rcases zak.mp hp with hp |hp
     ·exact iff.mpr ⟨x1,fun e2 B5=>x2 e2 (zak.mpr (.inl B5))⟩ p hp
     ·exact hw.mp (x2 e (zak.mpr (.inr (by simp)))) p hp
  have ZL:=Sw.len;refine⟨d,kv.2,rfl,by rw[<- vk];exact eK.f (k:=.inl kv.1) MW,.ref pa,kv.2,pr,kv.1,e.2,rfl,Sh.mono sy,dr.dep,dr.gc,ok,Eh,ll,?_,?_⟩
  ·intro b hb;have:=dr.size b hb;lia
  ·rw[e1];rcases kn with e0 |⟨OZ,Df,AV⟩
   ·refine .inl ⟨e0,fun L H8 s8 hL yL=>⟨LD,L,wv,[],rfl,rfl,s8 _ _ F3,yL,by simp only[zaz];lia,fun p zG=>?_⟩⟩;rw[<- e1];refine loop L [] [] H8 s8 yL .nil (fun p hp=>by cases hp) (by simp) ⟨(fun _ p hp=>by cases hp),fun _=>(LR e).mpr fun i hi hf er=>?_⟩ p zG;have:=ok.pos _ (zao hi);lia
   ·obtain⟨i,hi,rfl⟩:=zaG.mp Df;have FO:i<(PG.aK pr.body 0).length:=by
     have:=(sR pr.body 0).length;lia
    have own:=PG.je pr.body _ dr.own (zao hi);have O0:=Paired.AW (sR pr.body 0) (zaa hi) (zaa FO);refine .inr ⟨?_,i,hi,FO,AV,yD own OW,qh O0,fun L us H8 s8 hL yL JR=>?_⟩
    ·have:=ok.pos _ (zao hi);lia
    ·have lw:=JR.len;have l2:=AA pr.ay e.2 (PG.aK pr.body 0)[i].2.2 (PG.aE pr.body)[i];refine⟨LD,L,wv,us,rfl,rfl,s8 _ _ F3,yL,by lia,fun p zG=>?_⟩;rw[<- e1];refine loop L us _ H8 s8 yL JR (fun p hp=>(nF vV ok.nb own (fun b hb=>by have:=dr.size b hb;lia) p hp).bd.1) l2 ?_ p zG;rw[LR]
     constructor
     ·exact fun h=>h i hi FO AV
     ·intro h i2 sG Sg e2;have:i2=i:=by
       have pw:=ok.pw;rw[zaK] at pw;rcases zb1 i2 i with h |h |h
       ·have:=pw i2 i sG hi h;lia
       ·exact h
       ·have:=pw i i2 hi sG h;lia
      subst this;exact h
 ·intro σ Hy hv;obtain⟨z5,z6,z7,z8,z9,LD,wv,dl,rfl,sy,MW,F3,Sw,ld,fd,iff⟩:=(jP _ _ _).mp hv;clear hv jP;rw[ZD,za6] at iff;have main:(∀p∈dl,yH ms p)↔Fx pr ms:=by
   rw[tX rise,iff];exact⟨fun h=>⟨h.1,fun e he=>(LR e).mp (h.2 e he)⟩,fun h=>⟨h.1,fun e he=>(LR e).mpr (h.2 e he)⟩⟩
  refine(jT _ _).mpr (aw fun U4 lO=>?_);clear jT;refine eL fun U hU=>?_;walk_at "rd";refine⟨⟨_,.of F3⟩,hU _ _ ?_⟩;clear hU;have ZL:=Sw.len;obtain⟨Pw,sF⟩:∃Pw:Nat->St->Hp->Prop,∀i σ Hz,Pw i σ Hz↔∃(z5 z6 z7 z8 z9:Option V),σ=[some (.ref pa),some (.ref pp),some (.ref d),some (.int (PG.aB pr.body 0)),some (.ref LD),z5,z6,z7,z8,z9]/\aq Hy Hz/\∀p∈dl.take i,yH ms p:=⟨_,fun _ _ _=>Iff.rfl⟩
  refine eJ (K:=K) (a:=LD) (xs:=wv) Pw ((sF _ _ _).mpr ⟨_,_,_,_,_,rfl,aq.refl _,fun p hp=>by simp at hp⟩) ?_ ?_ ?_
  ·intro j σ Hz hj hv;obtain⟨_,_,_,_,_,_,h,_⟩:=(sF _ _ _).mp hv;exact .of (h _ _ F3)
  ·intro j x σ Hz hx hv;obtain⟨y5,y6,y7,y8,y9,rfl,sz,cv⟩:=(sF _ _ _).mp hv;clear hv;obtain⟨wq,LH,a1,u1,rfl,Xi,Uh⟩:=Sw.get hx;have hT:=sz.br Xi;have hR:=Uh.mono sz;have tk:dl.take (j+1)=dl.take j++[wq]:=by rw[zbG,LH];rfl
   have lq:=ld wq (zav LH);have Bf:RelM K Hz kvs ms:=rel.mono fun v rs h=>h.mono (sy.trans sz);have ZM:=sz _ _ MW;have no:¬yH ms wq->∀Hq,aq Hz Hq->Q (.bl false) Hq:=fun h Hq sq=>k false Hq ((sy.trans sz).trans sq) ⟨fun z=>(by cases z),fun c=>absurd (main.mpr c wq (zav LH)) h⟩;walk_at "rd";refine⟨a1,_,rfl,hT,rfl,_,_,rfl,_,_,rfl,rfl,?_⟩;unfold xW;walk_at "rd";refine⟨d,_,rfl,eK.f (k:=.inl wq.1) ZM,?_⟩;rw[iY];rcases Bf.get wq.1 with ⟨h1,h2⟩ |⟨v9,u9,h1,h2,h3⟩
   ·rw[h1];exact(if_pos (by simp)).mpr (no (fun ⟨u,e,_⟩=>by rw[h2] at e;cases e) Hz (aq.refl _))
   rw[h1];refine(if_neg (by simp)).mpr ?_;have vk:c0 (kvs.map kI) (.inl wq.1)=some v9:=by rw[iY];exact h1
   have ll:=len wq lq u9 h2;obtain⟨oa,LP,rfl,MT,lo,go⟩:=h3;obtain⟨na,LQ,rfl,MU,ln,gn⟩:=hR;refine A9 fun U hU=>?_;walk_at "rd";refine⟨d,.ref oa,rfl,by rw[<- vk];exact eK.f (k:=.inl wq.1) ZM,oa,na,rfl,⟨_,MT⟩,⟨_,MU⟩,hU _ _ _ ?_⟩;clear hU;have Sn:∀ {Hq:Hp} {p:zdJ} {r:PG.Rg} {Q':VK},cF K Hq p [.int r.1,.int r.2]->Q' (.int r.1) Hq->me K (.ref p) (.int 0) Hq Q':=fun h q=>aJ h (aC (j:=0) rfl) q;have Sq:∀ {Hq:Hp} {p:zdJ} {r:PG.Rg} {Q':VK},cF K Hq p [.int r.1,.int r.2]->Q' (.int r.2) Hq->me K (.ref p) (.int 1) Hq Q':=fun h q=>aJ h (aC (j:=1) rfl) q;obtain⟨Pz,Sx⟩:∃Pz:Nat->St->Hp->Prop,∀i σ Hq,Pz i σ Hq↔∃(w8 w9:Option V),σ=[some (.ref pa),some (.ref pp),some (.ref d),some (.int (PG.aB pr.body 0)),some (.ref LD),y5,some (.int wq.1),some (.ref na),w8,w9]/\aq Hz Hq/\∀(i2:Nat) (x y:PG.Rg),i2<i->wq.2[i2]?=some x->u9[i2]?=some y->y.1<=x.1/\x.2<=y.2:=⟨_,fun _ _ _=>Iff.rfl⟩
   refine DG (K:=K) (a:=oa) (b:=na) (xs:=LP) (ys:=LQ) Pz ((Sx _ _ _).mpr ⟨_,_,rfl,aq.refl _,fun i2 x y h=>absurd h (zcI _)⟩) ?_ ?_ ?_
   ·intro i σ Hq hi hv;obtain⟨_,_,_,h,_⟩:=(Sx _ _ _).mp hv;exact⟨h.br MT,h.br MU⟩
   ·intro i x y σ Hq p hx hy hv zG;obtain⟨w8,w9,rfl,sq,wi⟩:=(Sx _ _ _).mp hv;clear hv;obtain⟨hi,rfl⟩:=zah.mp hx;obtain⟨sG,rfl⟩:=zah.mp hy;obtain⟨r1,MN,b1,ex,g1⟩:=go i hi;obtain⟨r2,JQ,b2,ey,g2⟩:=gn i sG;have s3:=aq.new zG (.tup [LP[i],LQ[i]]);have y3:(upd Hq p (.tup [LP[i],LQ[i]])) p=some (.tup [LP[i],LQ[i]]):=ai;generalize upd Hq p (.tup [LP[i],LQ[i]])=H3 at *;rw[ex,ey] at y3;have px:=sq.trans s3;refine⟨p,_,rfl,.of y3,rfl,_,_,rfl,_,_,rfl,rfl,?_⟩;simp only[zbA];walk_at "rd";have bad:¬(r1.1<=r2.1/\r2.2<=r1.2)->Q (.bl false) H3:=fun h=>no (fun ⟨u,eu,_,sb⟩=>by
     rw[h2] at eu;cases eu;exact h (sb i r2 r1 JQ MN)) H3 px
    refine Sn (px.br g1) (Sn (px.br g2) ?_);refine⟨_,_,rfl,rfl,_,rfl,?_⟩;by_cases c1:r2.1<r1.1
    ·refine(if_pos (by simpa using c1)).mpr ?_;exact(if_pos trivial).mpr (bad (fun h=>by lia))
    refine(if_neg (by simpa using c1)).mpr ?_;refine Sq (px.br g1) (Sq (px.br g2) ?_);refine⟨_,_,rfl,rfl,_,rfl,?_⟩;by_cases c2:r1.2<r2.2
    ·refine(if_pos (by simpa using c2)).mpr ?_;exact bad (fun h=>by lia)
    refine(if_neg (by simpa using c2)).mpr ?_;refine(Sx _ _ _).mpr ⟨_,_,rfl,px,fun i2 x y hl e1 e2=>?_⟩;rcases Nat.lt_succ_iff_lt_or_eq.mp hl with hl |rfl
    ·exact wi i2 x y hl e1 e2
    ·rw[JQ] at e1;rw[MN] at e2;cases e1;cases e2;exact⟨by lia,by lia⟩
   ·intro σ Hq hv;obtain⟨w8,w9,rfl,sq,wi⟩:=(Sx _ _ _).mp hv;refine(sF _ _ _).mpr ⟨_,_,_,_,_,rfl,sz.trans sq,fun p hp=>?_⟩;rw[tk] at hp;rcases zak.mp hp with hp |hp
    ·exact cv p hp
    ·rw[zan.mp hp];refine⟨u9,h2,ll.symm,fun i x y e1 e2=>wi i x y ?_ e1 e2⟩;have h1:=(zah.mp e1).1;have h2:=(zah.mp e2).1;lia
  ·intro σ Hz hv;obtain⟨y5,y6,y7,y8,y9,rfl,sz,cv⟩:=(sF _ _ _).mp hv;refine(lO _ _).mpr ?_;walk_at "rd";rw[ZL,za6] at cv;exact k true Hz (sy.trans sz) ⟨fun _=>main.mp cv,fun _=>rfl⟩
theorem yX(T:Tx K mg t):bM P w K mg base fZ 1 t.iT t.jk ["paper", "k"] (Oz K):=by
 refine T.dy.F.kZ qv (fun vs H Q E h=>?_) (fun eA A outer s H vs Q E hr h=>?_)
 ·obtain⟨_,_,_,_,rfl,_,_,_,_,_,_⟩:=h;rfl
 obtain⟨pp,us,ms,k,rfl,hp,wo,gc,hk,Bw,q⟩:=h;have nd:=qv.nd;have hu:=i8 hr;have line:zdR=2 ^ 24:=rfl;have wt:=wo.len;refine⟨_,[some (.ref pp),some (.int k),none,none,none,none,none,none,none],(ao (qI (av bP (pv 0) (pv 1) yf) (jf (K:=K) rfl 2 rfl (bH (aX (i:=2) nd rfl (zap rfl)) (bH (aX (i:=3) nd rfl (zap rfl)) gg))))
 (ao (aP (i:=4) nd rfl (zap rfl) (bE (aa (bC j9 (gu kX (pv 0) jb (jc (pv 1))) (gu kX (pv 0) (jc (bC gh (pv 1) ak)) jb)) ah dA)))
 (ao (eI PassesOwn.never rfl (IV rfl T.j7 (aa (pv 3) ah ae)) (jf (K:=K) rfl 2 rfl (bH (aX (i:=5) nd rfl (zap rfl)) (bH (jf (K:=K) rfl 2 rfl (bH (aX (i:=6) nd rfl (zap rfl)) (bH (aX (i:=7) nd rfl (zap rfl)) gg))) gg)))
 (au (bB (aM nV (pv 6) (pv 7) (aS _))
 (au (eI PassesOwn.never rfl (bT (bE (aa (bf (aa (bC gh (pv 6) ak) (aa (pv 7) ah ae) dA)) (aa (bf (aa (pv 6) (aa (bC oM (pv 7) ak) ah dA) ae)) ah iX) iX))) (aX (i:=8) nd rfl (zap rfl))
 (au (dF (kB zaA zaO zaP c6 (pv 4) (aa (bC j9 (bC j9 (gu kX (pv 0) jb (jc (pv 1))) (bE (aa (bf (aa (pv 2) (aa (bC DD (bC DD (gu DE (pv 3) jb (jc (pv 5))) (bf (aa (pv 8) ah ae))) (gu DE (pv 3) (jc (bC gh (pv 5) ak)) jb)) ah dA) ae)) ah iX))) (gu kX (pv 0) (jc (bC gh (pv 1) ak)) jb)) ah dA))))))
 aW)))
 (au (aH (pv 4)))))),rfl,?_⟩
 have ZN:k<us.length:=by lia
 obtain⟨e,ee,wy⟩:=wo.get (zaa ZN);obtain⟨ea,ev,ex,hea,ra⟩:=wy;have acz:=Bw e (zav ee);obtain⟨rr,LS,rfl,Uk,ro⟩:=ra;refine aw fun U1 gf=>?_;walk_at "rd";refine cx hp (v:=.ref ea) (aC (j:=k) (by rw[zaa ZN,ex])) ?_;refine⟨ea,_,rfl,hea,rfl,_,_,rfl,_,_,rfl,rfl,(gf _ _).mpr (aw fun U2 jv=>?_)⟩;clear gf;simp only[zbA];walk_at "rd";refine⟨_,rfl,pp,us,rfl,hp,fun p1 Bx=>?_⟩;rw[yM];have s1:=aq.new Bx (.lst (us.take k));have y1:(upd H p1 (.lst (us.take k))) p1=_:=ai;generalize upd H p1 (.lst (us.take k))=H1 at *;refine⟨_,rfl,pp,us,rfl,s1.seq hp,fun p2 BX=>?_⟩;rw[rf];have s2:=aq.new BX (.lst (us.drop (k+1)));have y2:(upd H1 p2 (.lst (us.drop (k+1)))) p2=_:=ai;have JS:=s2 _ _ y1;have By:=s1.trans s2;generalize upd H1 p2 (.lst (us.drop (k+1)))=H2 at *;have lt1:(us.take k).length<=50:=by rw[zbk];lia
 have lt2:(us.drop (k+1)).length<=50:=by rw[za4];lia
 refine⟨p1,p2,_,_,rfl,rfl,JS,y2,by lia,fun p3 xD L hL=>?_⟩;have s3:=aq.new xD (.lst (us.take k++us.drop (k+1)));have y3:(upd H2 p3 (.lst (us.take k++us.drop (k+1)))) p3=_:=ai;have yj:=By.trans s3;generalize upd H2 p3 (.lst (us.take k++us.drop (k+1)))=H3 at *;have s4:=aq.new hL (.lst [V.ref p3]);have y4:(upd H3 L (.lst [V.ref p3])) L=_:=ai;have vW:=yj.trans s4;have y34:=s4 _ _ y3;have n3:p3≠L:=aF y3 hL;have fL:H L=none:=yj.free hL;generalize upd H3 L (.lst [V.ref p3])=H4 at *;refine(jv _ _).mpr (aw fun U3 jT=>?_);clear jv s1 s2 By s3 yj s4 y1 JS y2 y3 Bx BX xD hL;have w0:rg K H4 L (.ref p3) (ms.take k++ms.drop (k+1)):=⟨p3,_,rfl,n3,y34,((wo.map fun v w h=>h.mono vW).take k).app ((wo.map fun v w h=>h.mono vW).drop (k+1))⟩
 refine IW fun U hU=>?_;walk_at "rd";refine⟨rr,rfl,⟨_,vW.br Uk⟩,hU _ _ ?_⟩;clear hU;obtain⟨Pv,jP⟩:∃Pv:Nat->St->Hp->Prop,∀i σ Hy,Pv i σ Hy↔∃(z5 z6 z7 z8:Option V) (ls:List V),σ=[some (.ref pp),some (.int k),some (.int e.1),some (.ref rr),some (.ref L),z5,z6,z7,z8]/\aq H Hy/\Hy L=some (.lst ls)/\ls.length<=1+2*i/\∀v∈ls,∃m,rg K Hy L v m/\mL ms k m:=⟨_,fun _ _ _=>Iff.rfl⟩
 have lru:=ro.1;refine FF (K:=K) (a:=rr) (xs:=LS) Pv ((jP _ _ _).mpr ⟨none,none,none,none,_,rfl,vW,y4,by simp,fun v hv=>⟨_,by rw[zan.mp hv];exact w0,.out⟩⟩) ?_ ?_ ?_
 ·intro i σ Hq hi hv;obtain⟨_,_,_,_,_,_,h,_⟩:=(jP _ _ _).mp hv;exact h.br Uk
 ·intro i x σ Hq p hx hv TC;obtain⟨z5,z6,z7,z8,ls,rfl,sq,yL,lls,Qm⟩:=(jP _ _ _).mp hv;clear hv;obtain⟨hi,rfl⟩:=zah.mp hx;obtain⟨r,er,b,ex1,g1⟩:=ro.2 i hi;have s5:=aq.new TC (.tup [V.int i,LS[i]]);have y5:(upd Hq p (.tup [V.int i,LS[i]])) p=_:=ai;have Xn:=s5 _ _ yL;have LL:=sq.trans s5;have O4:∀v∈ls,∃m,rg K (upd Hq p (.tup [V.int i,LS[i]])) L v m/\mL ms k m:=fun v hv=>let ⟨m,h1,h2⟩:=Qm v hv;⟨m,h1.mono s5,h2⟩;generalize upd Hq p (.tup [V.int i,LS[i]])=H5 at *;rw[ex1] at y5;refine⟨p,_,rfl,.of y5,rfl,_,_,rfl,_,_,rfl,b,_,rfl,LL.br g1,rfl,_,_,rfl,_,_,rfl,rfl,rfl,?_⟩;simp only[zbA];rw[vZ];walk_at "rd";by_cases c:¬r.1<r.2
  ·refine(if_neg c).mpr ?_;exact(jP _ _ _).mpr ⟨_,_,_,_,ls,rfl,LL,Xn,by lia,O4⟩
  have c:r.1<r.2:=by lia
  refine(if_pos c).mpr ?_;refine eL fun U hU=>?_;walk_at "rd";intro p6 CS p7 ZO l8 Qf;have s6:=aq.new CS (.tup [V.int (r.1+1),V.int r.2]);have g6:cm K (upd H5 p6 (.tup [V.int (r.1+1),V.int r.2])) (.ref p6) (r.1+1,r.2):=cm.new rfl;generalize upd H5 p6 (.tup [V.int (r.1+1),V.int r.2])=H6 at *;have s7:=aq.new ZO (.tup [V.int r.1,V.int (r.2-1)]);have g7:cm K (upd H6 p7 (.tup [V.int r.1,V.int (r.2-1)])) (.ref p7) (r.1,r.2-1):=cm.new rfl;have ZP:=g6.mono s7;generalize upd H6 p7 (.tup [V.int r.1,V.int (r.2-1)])=H7 at *;have s8:=aq.new Qf (.lst [V.ref p6,V.ref p7]);have y8:(upd H7 l8 (.lst [V.ref p6,V.ref p7])) l8=_:=ai;have Xo:=(s6.trans s7) _ _ Xn;have nL8:l8≠L:=(aF Xo Qf).symm;have ZQ:=s8 _ _ Xo;have Xp:=(s6.trans s7).trans s8;have Xq:=LL.trans Xp;have Xr:∀v∈ls,∃m,rg K (upd H7 l8 (.lst [V.ref p6,V.ref p7])) L v m/\mL ms k m:=fun v hv=>let ⟨m,h1,h2⟩:=O4 v hv;⟨m,h1.mono Xp,h2⟩;have gx:∀(j:Nat) (x:V),[V.ref p6,V.ref p7][j]?=some x->∃r',(r'=(r.1+1,r.2)\/r'=(r.1,r.2-1))/\cm K (upd H7 l8 (.lst [V.ref p6,V.ref p7])) x r':=fun j x e=>by
   rcases(by have:=(zah.mp e).1;simp at this;lia:j=0\/j=1) with rfl |rfl
   ·cases e;exact⟨_,.inl rfl,ZP.mono s8⟩
   ·cases e;exact⟨_,.inr rfl,g7.mono s8⟩
  generalize upd H7 l8 (.lst [V.ref p6,V.ref p7])=H8 at *;refine⟨⟨_,.of y8⟩,hU _ _ ?_⟩;clear hU g6 ZP g7 s6 s7 s8 Xo Qm O4 Xn CS ZO Qf Xp;obtain⟨Pw,sF⟩:∃Pw:Nat->St->Hp->Prop,∀j σ Hz,Pw j σ Hz↔∃(y8:Option V) (lz:List V),σ=[some (.ref pp),some (.int k),some (.int e.1),some (.ref rr),some (.ref L),some (.int i),some (.int r.1),some (.int r.2),y8]/\aq H Hz/\bc L H8 Hz/\Hz L=some (.lst lz)/\lz.length<=1+2*i+j/\∀v∈lz,∃m,rg K Hz L v m/\mL ms k m:=⟨_,fun _ _ _=>Iff.rfl⟩
  refine eJ (K:=K) (a:=l8) (xs:=[V.ref p6,V.ref p7]) Pw ((sF _ _ _).mpr ⟨_,ls,rfl,Xq,.refl _ _,ZQ,by lia,Xr⟩) ?_ ?_ ?_
  ·intro j σ Hz hj hv;obtain⟨_,_,_,_,u,_⟩:=(sF _ _ _).mp hv;exact .of (u _ _ nL8 y8)
  ·intro j x σ Hz hx hv;obtain⟨w8,lz,rfl,sz,uz,yz,ZR,hz⟩:=(sF _ _ _).mp hv;clear hv;obtain⟨r',OV,gr'⟩:=gx j x hx;have gz:=gr'.gB ZQ uz;have lj:=(zah.mp hx).1;simp only[zai,zaz] at lj;simp only[eG,zbA];walk_at "rd";refine⟨.inl ⟨rfl,_,.of yz⟩,_,rfl,pp,us,rfl,sz.seq hp,fun q1 OA=>?_⟩;rw[yM];have t1:=aq.new OA (.lst (us.take k));have v1:(upd Hz q1 (.lst (us.take k))) q1=_:=ai;generalize upd Hz q1 (.lst (us.take k))=G1 at *;refine⟨_,rfl,rr,LS,rfl,(sz.trans t1).br Uk,fun q2 G2 t2 v2 q3 hq3=>?_⟩;rw[yM] at v2;have t3:=aq.new hq3 (.tup [x]);have v3:(upd G2 q3 (.tup [x])) q3=_:=ai;have t13:=t1.trans (t2.trans t3);have v13:=(t2.trans t3) _ _ v1;have v23:=t3.br v2;generalize upd G2 q3 (.tup [x])=G3 at *;have lr1:(LS.take i).length<=10:=by rw[zbk];lia
   have lr2:(LS.drop (i+1)).length<=10:=by rw[za4];lia
   refine⟨q2,q3,_,_,rfl,rfl,v23,.of v3,by simp only[zai,zaz];lia,fun q4 G4 t4 v4=>?_⟩;have ZS:=t13.trans t4;have v14:=t4 _ _ v13;refine⟨_,rfl,rr,LS,rfl,(sz.trans ZS).br Uk,fun q5 G5 t5 v5=>?_⟩;rw[rf] at v5;refine⟨q4,q5,_,_,rfl,rfl,t5.br v4,v5,by rw[zau];simp only[zai,zaz];lia,fun q6 G6 t6 v6 q7 hq7 q8 hq8=>?_⟩;have Xs:=ZS.trans (t5.trans t6);have v16:=(t5.trans t6) _ _ v14;have ra6:dC K G6 (.ref q6) (e.2.take i++[r']++e.2.drop (i+1)):=⟨q6,_,rfl,v6,qd.cut (ro.mono (sz.trans Xs)) hi (gz.mono Xs)⟩
   have t7:=aq.new hq7 (.tup [V.int e.1,V.ref q6]);have wy7:jS K (upd G6 q7 (.tup [V.int e.1,V.ref q6])) (.ref q7) (e.1,e.2.take i++[r']++e.2.drop (i+1)):=⟨q7,_,rfl,.of ai,ra6.mono t7⟩
   generalize upd G6 q7 (.tup [V.int e.1,V.ref q6])=G7 at *;have t8:=aq.new hq8 (.lst [V.ref q7]);have v8:(upd G7 q8 (.lst [V.ref q7])) q8=_:=ai;have wy8:=wy7.mono t8;have v18:=(t7.trans t8) _ _ v16;have t18:=Xs.trans (t7.trans t8);generalize upd G7 q8 (.lst [V.ref q7])=G8 at *;refine⟨q1,q8,_,_,rfl,rfl,v18,v8,by simp only[zai,zaz];lia,fun q9 hq9=>?_⟩;have t9:=aq.new hq9 (.lst (us.take k++[V.ref q7]));have v9:(upd G8 q9 (.lst (us.take k++[V.ref q7]))) q9=_:=ai;have wy9:=wy8.mono t9;have ZT:=t18.trans t9;generalize upd G8 q9 (.lst (us.take k++[V.ref q7]))=G9 at *;refine⟨_,rfl,pp,us,rfl,(sz.trans ZT).seq hp,fun JT Xt=>?_⟩;rw[rf];have Xu:=aq.new Xt (.lst (us.drop (k+1)));have v10:(upd G9 JT (.lst (us.drop (k+1)))) JT=_:=ai;have Xv:=wy9.mono Xu;have Xw:=Xu _ _ v9;have O5:=ZT.trans Xu;generalize upd G9 JT (.lst (us.drop (k+1)))=ZU at *;refine⟨q9,JT,_,_,rfl,rfl,Xw,v10,by rw[zau];simp only[zai,zaz];lia,fun Qn Sy=>?_⟩;have Xx:=aq.new Sy (.lst (us.take k++[V.ref q7]++us.drop (k+1)));have v11:(upd ZU Qn (.lst (us.take k++[V.ref q7]++us.drop (k+1)))) Qn=_:=ai;have Xy:=Xv.mono Xx;have O6:=(O5.trans Xx) _ _ yz;have n11:Qn≠L:=(aF (O5 _ _ yz) Sy).symm;have LU:=O5.trans Xx;generalize upd ZU Qn (.lst (us.take k++[V.ref q7]++us.drop (k+1)))=G11 at *;refine⟨L,lz,_,rfl,rfl,O6,by lia,(sF _ _ _).mpr ⟨_,lz++[.ref Qn],rfl,((bc.of (sz.trans LU)).put _).same fL,(uz.trans (.of LU)).put _,ai,by rw[zau];simp only[zai,zaz];lia,fun v hv=>?_⟩⟩;rcases zak.mp hv with hv |hv
   ·obtain⟨m,h1,h2⟩:=hz v hv;exact⟨m,(h1.mono LU).gB O6 ((bc.refl _ _).put _),h2⟩
   ·rw[zan.mp hv];have wz:=wo.map fun v w h=>h.mono (sz.trans LU);refine⟨_,rg.gB ⟨Qn,_,rfl,n11,v11,((wz.take k).app (.cons Xy .nil)).app (wz.drop (k+1))⟩ O6 ((bc.refl _ _).put _),.lo e i r r' ee er c OV⟩
  ·intro σ Hz hv;obtain⟨w8,lz,rfl,sz,uz,yz,ZR,hz⟩:=(sF _ _ _).mp hv;exact(jP _ _ _).mpr ⟨_,_,_,_,lz,rfl,sz,yz,by simp only[zai,zaz] at ZR;lia,hz⟩
 ·intro σ Hq hv;obtain⟨z5,z6,z7,z8,ls,rfl,sq,yL,lls,Qm⟩:=(jP _ _ _).mp hv;refine(jT _ _).mpr ?_;walk_at "rd";exact q L ls Hq sq fL yL (by lia) Qm
theorem fz(T:Tx K mg t):bM P w K mg base fZ 1 t.iQ t.jh ["state", "many"] RK:=by
 refine T.ar.F.kZ qr (fun vs H Q E h=>?_) (fun eA A outer s H vs Q E hr h=>?_)
 ·obtain⟨_,_,_,rfl,_,_,_,_⟩:=h;rfl
 obtain⟨s0,many,⟨n,m⟩,rfl,hs,h0,h1,q⟩:=h;unfold qZ at hs;have nd:=qr.nd;refine⟨_,[some (.ref s0),some (.int many),none],(ao (bB (aM cD (av bP (pv 0) ak aj) ak (aS _))
 (ao (qI (bC oN (bC uh (bC gh (av bP (pv 0) ak aj) ak) ak) ak) (uc (pv 0) ak set_list))
 (ao (qI (bC oN (bC uh (av bP (pv 0) ak aj) (av bP (pv 0) ak aj)) ak) (uc (pv 0) ak set_list))
 (au (aH (bC oN (bC tm (bC oN (bC uh (av bP (pv 0) ak aj) ak) ak) ak) (pv 1))))))
 aW)
 (ao (aP (i:=2) nd rfl (zap rfl) (bC oN (av bP (pv 0) ak aj) (pv 1)))
 (ao (qI (bC tm (av bP (pv 0) ak aj) (pv 1)) (uc (pv 0) ak set_list))
 (au (aH (pv 2)))))),rfl,?_⟩
 refine aw fun U1 gf=>?_;walk_at "rd";refine cx (.of hs) (v:=.int m) (aC (j:=1) rfl) ⟨rfl,eC (fun e=>?_) (fun e=>?_)⟩
 ·refine cx (.of hs) (v:=.int n) (aC (j:=0) rfl) ⟨_,_,rfl,rfl,_,_,rfl,rfl,mulR (by decide) (by decide),_,_,rfl,rfl,(by decide:(0:Int)<2147483647),s0,_,0,0,rfl,rfl,hs,rfl,?_⟩;dsimp only;have b1:=zbB ((n+1)*48271) (show (2147483647:Int)≠0 by decide);have b2:=zbm ((n+1)*48271) (show (0:Int)<2147483647 by decide);generalize hx:(n+1)*48271%2147483647=x at *;have y1:(upd H s0 (.lst ([V.int n,V.int m].set 0 (V.int x)))) s0=some (.lst [V.int x,V.int m]):=ai;refine cx (.of y1) (v:=.int x) (aC (j:=0) rfl) (cx (.of y1) (v:=.int x) (aC (j:=0) rfl) ⟨_,_,rfl,rfl,mulR (by lia) (by lia),_,_,rfl,rfl,(by decide:(0:Int)<2147483629),s0,_,0,0,rfl,rfl,y1,rfl,?_⟩);dsimp only;have c1:=zbB (x*x) (show (2147483629:Int)≠0 by decide);have c2:=zbm (x*x) (show (0:Int)<2147483629 by decide);have hm:PQ n=x*x%2147483629:=by unfold PQ;rw[hx]
  generalize x*x%2147483629=y at *;have y2:(upd (upd H s0 (.lst ([V.int n,V.int m].set 0 (V.int x)))) s0 (.lst ([V.int x,V.int m].set 0 (V.int y)))) s0=some (.lst [V.int y,V.int m]):=ai;refine cx (.of y2) (v:=.int y) (aC (j:=0) rfl) ⟨_,_,rfl,rfl,mulR (by decide) (by decide),_,_,rfl,rfl,(by decide:(0:Int)<2147483587),_,_,rfl,rfl,⟨by decide,by decide⟩,_,_,rfl,rfl,h0,?_⟩;exact q _ (y,m) _ (by rw[tk,if_pos (show m=1 by simpa using e)];show (PQ n*69621%2147483587/8%many,(PQ n,m))=_;rw[hm]) (zbB _ (by lia)) (zbm _ h0) (((bc.refl s0 H).put _).put _) y2
 ·refine(gf _ _).mpr ?_;walk_at "rd";refine cx (.of hs) (v:=.int n) (aC (j:=0) rfl) ⟨_,_,rfl,rfl,h0,cx (.of hs) (v:=.int n) (aC (j:=0) rfl) ⟨_,_,rfl,rfl,⟨h0,by lia⟩,s0,_,0,0,rfl,rfl,hs,rfl,?_⟩⟩;exact q _ (n/many,m) _ (by rw[tk,if_neg (show ¬m=1 by simpa using e)]) (zbB _ (by lia)) (zbm _ h0) ((bc.refl s0 H).put _) ai
theorem ko(T:Tx K mg t):bM P w K mg base fZ 1 t.gJ t.iE ["script", "k"] (HW K):=by
 refine T.bS.F.kZ oo (fun vs H Q E h=>?_) (fun eA A outer s H vs Q E hr h=>?_)
 ·obtain⟨_,_,_,rfl,_,_,_,_⟩:=h;rfl
 obtain⟨a,ns,k,rfl,hS,Ul,k63,q⟩:=h;have nd:=oo.nd;refine⟨_,[some (.ref a),some (.int k),none,none],(ao (aP (i:=2) nd rfl (zap rfl) ak)
 (ao (bB (aM nV (pv 1) (bh cA rfl T.l7 PyProof.Rows.Boot.«len» (aa (pv 0) ah ae)) (aS _))
 (au (aP (i:=2) nd rfl (zap rfl) (av bP (pv 0) (pv 1) yf)))
 aW)
 (ao (aP (i:=3) nd rfl (zap rfl) (bL rY rfl T.Eb PyProof.Rows.Boot.«int» (aa (gm nV (pv 2) (bC Nu ak ak) (aS _)) ah GL)))
 (au (aH (bE (aa (bC gh (pv 2) (bC uh (bC uh ak (pv 1)) (pv 3))) (aa (pv 3) ah ae) dA))))))),rfl,?_⟩
 refine aw fun U1 gf=>?_;walk_at "rd";refine(gf _ _).mpr (aw fun U2 jv=>?_);clear gf;have fin:∀cell:Int,ns.getD k 0=cell->U2 [some (.ref a),some (.int k),some (.int cell),none] H:=by
  intro cell wO;refine(jv _ _).mpr (aw fun U3 jT=>?_);clear jv;walk_at "rd";refine⟨⟨by decide,by decide,by decide⟩,_,rfl,(jT _ _).mpr ?_⟩;clear jT;obtain⟨m,hm,m0,m1⟩:∃m:Int,(if decide (cell<10 ^ Int.toNat 18)=true then 1 else 0)=m/\0<=m/\m<=1:=⟨_,rfl,by split<;>decide,by split<;>decide⟩
  rw[hm];walk_at "rd";refine⟨mulR (by lia) (by lia),mulR (by lia) (by lia),fun p hp=>q p _ (aq.new hp _) hp ?_⟩;show upd H p _ p=_;rw[ai];have Ui:((10:Int) ^ Int.toNat 18)=10 ^ 18:=rfl;rw[Ui] at hm;simp only[decide_eq_true_eq] at hm;unfold Mv;rw[wO,hm]
 walk_at "rd";refine⟨a,_,rfl,.inl hS,eC (fun e=>?_) (fun e=>fin 0 ?_)⟩
 rotate_left
 ·rw[zaf,zaX]
  ·rfl
  ·simp only[decide_eq_false_iff_not,zad] at e;lia
 have lk:k<ns.length:=by
  simp only[decide_eq_true_eq,zad] at e;lia
 exact cx hS (v:=.int ns[k]) (aC (by rw[zal,zaa lk];rfl)) (fin _ (by rw[zaf,zaa lk];rfl))
theorem lP(T:Tx K mg t):bM P w K mg base fZ 2 t.iR t.ji ["state", "boxes"] (La K):=by
 have aV:=fz (P:=P) (w:=w) (K:=K) (base:=base) T;refine T.bu.F.kZ qt (fun vs H Q E h=>?_) (fun eA A outer s H vs Q E hr h=>?_)
 ·obtain⟨_,_,_,_,rfl,_,_,_⟩:=h;rfl
 obtain⟨s0,B,bs,z,rfl,hs,hB,q⟩:=h;have nd:=qt.nd;refine⟨_,[some (.ref s0),some (.ref B)],(ao (bB (PW.pt (pw_and (aM (qR (i8 hr)) (pv 1) (bE ah) (aS _)) (pw_and1 (aM zU (aA aV (hr.mono (by first|decide|omega)) rfl T.ar.m T.ar.F.kp T.ar.b .nil aN (aa (pv 0) (aa ak ah aZ) ae)) ak (aS _)))))
 (au (aH (bf (aa bG (aa (av ax (av bP (pv 1) (aA aV (hr.mono (by first|decide|omega)) rfl T.ar.m T.ar.F.kp T.ar.b .nil aN (aa (pv 0) (aa (bh cA rfl T.l7 PyProof.Rows.Boot.«len» (aa (pv 1) ah ae)) ah aT) ae)) iy) ak aj) ah aG) aZ))))
 aW)
 (au (aH (bf (aa bG (aa (av bP (bE (aa (aA aV (hr.mono (by first|decide|omega)) rfl T.ar.m T.ar.F.kp T.ar.b .nil aN (aa (pv 0) (aa ak ah aZ) ae)) (aa (aA aV (hr.mono (by first|decide|omega)) rfl T.ar.m T.ar.F.kp T.ar.b .nil aN (aa (pv 0) (aa ak ah aZ) ae)) ah aT) aT)) (aA aV (hr.mono (by first|decide|omega)) rfl T.ar.m T.ar.F.kp T.ar.b .nil aN (aa (pv 0) (aa ak ah aZ) ae)) iy) ah aG) aZ))))),rfl,?_⟩
 refine aw fun U1 gf=>?_;have num:∀H1 z1,bK bs z=Cy z1->bc s0 H H1->qZ H1 s0 z1->U1 [some (.ref s0),some (.ref B)] H1:=by
  intro H1 z1 el u1 Ao;refine(gf _ _).mpr ?_;clear gf;walk_at "rd";refine⟨s0,4,_,rfl,Ao,by decide,by decide,fun x2 z2 H2 q2 a2 b2 u2 vQ=>?_⟩;refine⟨s0,12,_,rfl,vQ,by decide,by decide,fun x3 z3 H3 q3 a3 b3 u3 vR p hp=>?_⟩;refine⟨s0,2,_,rfl,vR.new hp _,by decide,by decide,fun x5 z5 H5 q5 a5 b5 u5 Ed=>?_⟩;obtain⟨y,ez,ey,y0,y1⟩:∃y:Int,xc [V.int x2,V.int x3] x5=some (V.int y)/\(if x5=0 then x2 else x3)=y/\0<=y/\y<1000:=by
   obtain rfl |rfl:x5=0\/x5=1:=by lia
   ·exact⟨x2,aC (j:=0) rfl,rfl,a2,by lia⟩
   ·exact⟨x3,aC (j:=1) rfl,rfl,a3,by lia⟩
  have Sz:=(((u1.trans u2).trans u3).new hp _).trans u5;refine cx (.of (u5 _ _ (vR.ne hp) ai)) ez fun p6 CS=>?_;exact q _ (.num y) _ _ (by rw[el,K8 q2 q3 q5,ey]) (Sz.new CS _) (Ed.new CS _) (Own.tup (.cons .str (.cons .int .nil)) (Sz.lT Ed.nn) CS) ⟨y0,y1⟩ (zaj _)
 walk_at "rd";intro p1 Bx;obtain⟨xs,hx,lx⟩:=nE hB;have s1:=aq.new Bx (.lst []);refine⟨B,p1,xs,rfl,rfl,s1.seq hx,.of ai,eC (fun e=>?_) (fun e=>?_)⟩
 ·have l0:0<bs.length:=by
   rw[<- lx];cases xs with
   |nil=>cases e
   |cons _ _=>simp
  have Ao:=hs.same s1;have SA:=hB.same s1;generalize upd H p1 (.lst [])=H1 at *;refine⟨s0,3,_,rfl,Ao,by decide,by decide,fun x2 z2 H2 q2 a2 b2 u2 vQ=>⟨_,_,rfl,rfl,_,rfl,eC (fun e2=>?_) (fun e2=>?_)⟩⟩
  ·have bn:bs≠[]:=fun z=>by rw[z] at l0;cases l0
   obtain⟨ys,hy,ly⟩:=nE (SA.up u2);have Bw:=hB.2;refine⟨B,ys,rfl,.inl hy,s0,_,_,rfl,vQ,by lia,by lia,fun x3 z3 H3 q3 a3 b3 u3 vR=>((SA.up u2).up u3).pick a3 (by lia) fun p4 OM=>?_⟩;have Ek:=((bc.of s1).trans u2).trans u3;exact q _ (.box _) _ _ (Fm bn q2 (by simpa using e2) (by rw[ly] at q3;exact q3)) (Ek.new OM _) (vR.new OM _) (Own.tup (.cons .str (.cons .str .nil)) (Ek.lT vR.nn) OM) (qY a3 (by lia)) (zaj _)
  ·exact num H2 _ (Fl (fun z=>by rw[z] at l0;cases l0) q2 (by simpa using e2)) ((bc.of s1).trans u2) vQ
 ·exact num _ _ (Fj (by
   cases bs with
   |nil=>rfl
   |cons _ _=>
    cases xs with
    |nil=>cases lx
    |cons _ _=>exact absurd rfl e)) (.of s1) (hs.same s1)
theorem xG(T:Tx K mg t):bM P w K mg base fZ 3 t.mW t.nM ["state", "boxes"] (We K):=by
 have aV:=fz (P:=P) (w:=w) (K:=K) (base:=base) T;have eX:=lP (P:=P) (w:=w) (K:=K) (base:=base) T;refine T.cX.F.kZ xC (fun vs H Q E h=>?_) (fun eA A outer s H vs Q E hr h=>?_)
 ·obtain⟨_,_,_,_,rfl,_,_,_⟩:=h;rfl
 obtain⟨s0,B,bs,z,rfl,hs,hB,q⟩:=h;have nd:=xC.nd;refine⟨_,[some (.ref s0),some (.ref B),none,none,none],(ao (aP (i:=2) nd rfl (zap rfl) (av xR bG (aA aV (hr.mono (by first|decide|omega)) rfl T.ar.m T.ar.F.kp T.ar.b .nil aN (aa (pv 0) (aa ak ah aZ) ae)) iy))
 (ao (aP (i:=3) nd rfl (zap rfl) (aA eX (hr.mono (by first|decide|omega)) rfl T.bu.m T.bu.F.kp T.bu.b .nil aN (aa (pv 0) (aa (pv 1) ah ae) ae)))
 (ao (bB (aM cD (aA aV (hr.mono (by first|decide|omega)) rfl T.ar.m T.ar.F.kp T.ar.b .nil aN (aa (pv 0) (aa ak ah aZ) ae)) ak (aS _))
 (au (aH (pv 3)))
 aW)
 (ao (aP (i:=4) nd rfl (zap rfl) (bf (aa (pv 2) (aa (pv 3) (aa (aA eX (hr.mono (by first|decide|omega)) rfl T.bu.m T.bu.F.kp T.bu.b .nil aN (aa (pv 0) (aa (pv 1) ah ae) ae)) ah aT) ae) ae)))
 (ao (bB (aM zU (aA aV (hr.mono (by first|decide|omega)) rfl T.ar.m T.ar.F.kp T.ar.b .nil aN (aa (pv 0) (aa ak ah aZ) ae)) ak (aS _))
 (au (aH (pv 4)))
 aW)
 (au (aH (bf (aa (av xR bG (aA aV (hr.mono (by first|decide|omega)) rfl T.ar.m T.ar.F.kp T.ar.b .nil aN (aa (pv 0) (aa ak ah aZ) ae)) iy) (aa (aA eX (hr.mono (by first|decide|omega)) rfl T.bu.m T.bu.F.kp T.bu.b .nil aN (aa (pv 0) (aa (pv 1) ah ae) ae)) (aa (pv 4) ah ae) aT) aG))))))))),rfl,?_⟩
 have s1:∀x:Int,0<=x->x<3->∃c:Nat,xc (zac "+-*").cps.toList x=some c/\RJ x=[c]/\[c]∈([[43],[45],[42]]:List W):=by
  intro x h0 h1;obtain rfl |rfl |rfl:x=0\/x=1\/x=2:=by lia
  ·exact⟨43,by decide +kernel,rfl,by decide⟩
  ·exact⟨45,by decide +kernel,rfl,by decide⟩
  ·exact⟨42,by decide +kernel,rfl,by decide⟩
 have s2:∀x:Int,0<=x->x<2->∃c:Nat,xc (zac "-+").cps.toList x=some c/\V9 x=[c]/\[c]∈([[43],[45],[42]]:List W):=by
  intro x h0 h1;obtain rfl |rfl:x=0\/x=1:=by lia
  ·exact⟨45,by decide +kernel,rfl,by decide⟩
  ·exact⟨43,by decide +kernel,rfl,by decide⟩
 refine aw fun U1 gf=>?_;walk_at "rd";refine⟨s0,3,_,rfl,hs,by decide,by decide,fun x1 z1 H1 q1 a1 b1 u1 Ao=>?_⟩;obtain⟨c,ec,ek,oc⟩:=s1 x1 a1 b1;refine⟨_,_,c,rfl,rfl,by decide +kernel,ec,(gf _ _).mpr (aw fun U2 jv=>?_)⟩;clear gf;walk_at "rd";refine⟨s0,B,bs,_,rfl,Ao,hB.up u1,fun v2 t2 z2 H2 q2 u2 vQ f2 o2 d2=>(jv _ _).mpr (aw fun U3 jT=>?_)⟩;clear jv;have Xz:=(hB.up u1).up u2;replace f2:=f2.back (u1.lT Ao.nn);walk_at "rd";refine⟨s0,2,_,rfl,vQ,by decide,by decide,fun x3 z3 H3 q3 a3 b3 u3 vR=>⟨rfl,eC (fun e=>?_) (fun e=>?_)⟩⟩
 ·exact q _ _ _ _ (Wa q1 q2 q3 (by simpa using e)) ((u1.trans u2).trans u3) vR (f2.up u3 hs.nn) ⟨o2,zax d2 (by decide)⟩
 refine(jT _ _).mpr (aw fun U4 lO=>?_);clear jT;have ZV:=Xz.up u3;replace f2:=f2.up u3 hs.nn;have Ek:=(u1.trans u2).trans u3;walk_at "rd";refine⟨s0,B,bs,_,rfl,vR,ZV,fun v4 t4 z4 H4 q4 u4 yT f4 o4 d4 p hp=>(lO _ _).mpr (aw fun U5 wu=>?_)⟩;clear lO;have El:=Ek.trans u4;have f5:Own K H _ (ky (.bin [c] t2 t4)) (.ref p):=Own.tup (.cons .str (.cons (f2.up u4 hs.nn) (.cons (f4.back (Ek.lT vR.nn)) .nil))) (El.lT yT.nn) hp;have Ed:=yT.new hp (.tup [V.str (S [c]),v2,v4]);have Sz:=El.new hp (.tup [V.str (S [c]),v2,v4]);have hB5:=(ZV.up u4).same (aq.new hp (.tup [V.str (S [c]),v2,v4]));have o5:PG.gX bs (.bin [c] t2 t4):=⟨oc,o2,o4⟩
 have d5:PG.iz (.bin [c] t2 t4)<=1:=by rw[PG.iz];lia
 change vZ _ _ _ _ _ (upd H4 p (.tup [V.str (S [c]),v2,v4]))
 generalize upd H4 p (.tup [V.str (S [c]),v2,v4])=H5 at *;walk_at "rd";refine⟨s0,3,_,rfl,Ed,by decide,by decide,fun x6 z6 H6 q6 a6 b6 u6 LV=>⟨_,_,rfl,rfl,_,rfl,eC (fun e6=>?_) (fun e6=>?_)⟩⟩
 ·exact q _ _ _ _ (by rw[<- ek];exact Wb q1 q2 q3 (by simpa using e) q4 q6 (by simpa using e6)) (Sz.trans u6) LV (f5.up u6 hs.nn) ⟨o5,by lia⟩
 refine(wu _ _).mpr ?_;clear wu;walk_at "rd";refine⟨s0,2,_,rfl,LV,by decide,by decide,fun x7 z7 H7 q7 a7 b7 u7 LW=>?_⟩;obtain⟨c2,ec2,ek2,oc2⟩:=s2 x7 a7 b7;refine⟨_,_,c2,rfl,rfl,by decide +kernel,ec2,s0,B,bs,_,rfl,LW,(hB5.up u6).up u7,fun v8 t8 z8 H8 q8 u8 LX f8 o8 d8 p9 zG=>?_⟩;have XA:=(Sz.trans u6).trans u7;refine q _ (.bin [c2] t8 (.bin [c] t2 t4)) _ _ (by rw[<- ek,<- ek2];exact Wc q1 q2 q3 (by simpa using e) q4 q6 (by simpa using e6) q7 q8) ((XA.trans u8).new zG _) (LX.new zG _) (Own.tup (.cons .str (.cons (f8.back (XA.lT LW.nn)) (.cons (((f5.up u6 hs.nn).up u7 hs.nn).up u8 hs.nn) .nil))) ((XA.trans u8).lT LX.nn) zG) ⟨⟨oc2,o8,o5⟩,?_⟩;rw[PG.iz];lia
theorem wF(T:Tx K mg t):bM P w K mg base fZ 2 t.gK t.iF ["script"] (HX K):=by
 have aV:=fz (P:=P) (w:=w) (K:=K) (base:=base) T;have gR:=ko (P:=P) (w:=w) (K:=K) (base:=base) T;refine T.cN.F.kZ ou (fun vs H Q E h=>?_) (fun eA A outer s H vs Q E hr h=>?_)
 ·obtain⟨_,_,rfl,_,_,_⟩:=h;rfl
 obtain⟨sa,XB,rfl,hS,Ul,q⟩:=h;have nd:=ou.nd;refine⟨_,[some (.ref sa),none,none,none,none,none],(ao (aP (i:=1) nd rfl (zap rfl) (aA gR (hr.mono (by first|decide|omega)) rfl T.bS.m T.bS.F.kp T.bS.b .nil aN (aa (pv 0) (aa ak ah aZ) ae)))
 (ao (aP (i:=2) nd rfl (zap rfl) (av bP (bE (aa (bE (hV (vs:=[.str "a",.str "ab",.str "b"]) (by kernel_rfl))) (aa (bE (hV (vs:=[.str "xx",.str "x",.str "boxes"]) (by kernel_rfl))) ah yg) yg)) (aA aV (hr.mono (by first|decide|omega)) rfl T.ar.m T.ar.F.kp T.ar.b .nil aN (aa (pv 1) (aa ak ah aZ) ae)) iy))
 (ao (aP (i:=3) nd rfl (zap rfl) (bE ah))
 (ao (eI PassesOwn.never rfl (bT (gu kX (pv 2) jb (jc (aA aV (hr.mono (by first|decide|omega)) rfl T.ar.m T.ar.F.kp T.ar.b .nil aN (aa (pv 1) (aa ak ah aZ) ae))))) (aX (i:=4) nd rfl (zap rfl))
 (ao (aP (i:=5) nd rfl (zap rfl) (bC gh ak (aA aV (hr.mono (by first|decide|omega)) rfl T.ar.m T.ar.F.kp T.ar.b .nil aN (aa (pv 1) (aa (av bP (bE (hV (vs:=[.int 3,.int 9]) (by kernel_rfl))) (aA aV (hr.mono (by first|decide|omega)) rfl T.ar.m T.ar.F.kp T.ar.b .nil aN (aa (pv 1) (aa ak ah aZ) ae)) iy) ah aG) ae))))
 (au (dF (kB zaA zaO zaP c6 (pv 3) (aa (bf (aa (pv 4) (aa (pv 5) (aa (aA aV (hr.mono (by first|decide|omega)) rfl T.ar.m T.ar.F.kp T.ar.b .nil aN (aa (pv 1) (aa (pv 5) ah ae) ae)) ah aT) ae) ae)) ah iX))))))
 (au (aH (pv 3))))))),rfl,?_⟩
 have TF:=H;refine aw fun U0 Su=>?_;walk_at "rd";refine⟨sa,XB,0,rfl,hS,Ul,by decide,fun s0 H0 sH ml hs=>(Su _ _).mpr (aw fun U1 gf=>?_)⟩;clear Su TF;walk_at "rd";intro p1 Bx p2 BX p3 xD;have Ao:=hs.new Bx (.lst [V.str (zac "a"),V.str (zac "ab"),V.str (zac "b")]);have u1:=(bc.refl s0 H0).new Bx (.lst [V.str (zac "a"),V.str (zac "ab"),V.str (zac "b")]);have y1:(upd H0 p1 (.lst [V.str (zac "a"),V.str (zac "ab"),V.str (zac "b")])) p1=_:=ai;have n1:=hs.ne Bx;generalize upd H0 p1 (.lst [V.str (zac "a"),V.str (zac "ab"),V.str (zac "b")])=H1 at *;have vQ:=Ao.new BX (.lst [V.str (zac "xx"),V.str (zac "x"),V.str (zac "boxes")]);have u2:=u1.new BX (.lst [V.str (zac "xx"),V.str (zac "x"),V.str (zac "boxes")]);have y2:(upd H1 p2 (.lst [V.str (zac "xx"),V.str (zac "x"),V.str (zac "boxes")])) p2=_:=ai;have ZW:=aq.new BX (.lst [V.str (zac "xx"),V.str (zac "x"),V.str (zac "boxes")]) _ _ y1;have n2:=Ao.ne BX;generalize upd H1 p2 (.lst [V.str (zac "xx"),V.str (zac "x"),V.str (zac "boxes")])=H2 at *;have vR:=vQ.new xD (.lst [V.ref p1,V.ref p2]);have u3:=u2.new xD (.lst [V.ref p1,V.ref p2]);have y3:(upd H2 p3 (.lst [V.ref p1,V.ref p2])) p3=_:=ai;have ZX:=aq.new xD (.lst [V.ref p1,V.ref p2]) _ _ ZW;have ZY:=aq.new xD (.lst [V.ref p1,V.ref p2]) _ _ y2;have n3:=vQ.ne xD;generalize upd H2 p3 (.lst [V.ref p1,V.ref p2])=H3 at *;refine⟨s0,2,_,rfl,vR,by decide,by decide,fun x4 z4 H4 q4 a4 b4 u4 yT=>?_⟩;have El:=u3.trans u4;have main:∀(pn:zdJ) (LY:List W),K9 (Mv XB 0)=LY->LY.length=3->LY.Nodup->pn≠s0->H4 pn=some (.lst (LY.map fun x=>V.str (S x)))->U1 [some (V.ref sa),some (V.ref s0),some (V.ref pn),none,none,none] H4:=by
  intro pn LY enm l4 ndn npn TC;clear y1 y2 ZW y3 ZX ZY;refine(gf _ _).mpr (aw fun U2 jv=>?_);clear gf;walk_at "rd";intro B hB;refine(jv _ _).mpr (aw fun U3 jT=>?_);clear jv;have nB:=yT.ne hB;have Ed:=yT.new hB (.lst []);have s5:=aq.new hB (.lst []);have y5:(upd H4 B (.lst [])) B=some (.lst []):=ai;generalize upd H4 B (.lst [])=H5 at *;refine eL fun U hU=>?_;walk_at "rd";refine⟨s0,4,_,rfl,Ed,by decide,by decide,fun x6 z6 H6 q6 a6 b6 u6 LV=>?_⟩;refine⟨_,rfl,pn,_,rfl,.of (u6 _ _ npn (s5 _ _ TC)),fun pl oO=>?_⟩;refine⟨pl,rfl,⟨_,.of ai⟩,hU _ _ ?_⟩;clear hU;rw[Oc _ a6,<- List.map_take];have l4':(LY.take x6.toNat).length<=4:=by rw[zbk];lia
  have XC:(LY.take x6.toNat).Nodup:=List.Nodup.sublist (zcS _ _) ndn;have eD0:Oi XB=(AO (LY.take x6.toNat) z6).1:=by unfold Oi;rw[q4,enm,q6]
  generalize LY.take x6.toNat=ns at *;have XD:=LV.ne oO;have ZZ:=u6 _ _ nB y5;have nlB:pl≠B:=(aF ZZ oO).symm;have s7:=aq.new oO (.lst (ns.map fun x=>V.str (S x)));have LW:=LV.same s7;have y7:(upd H6 pl (.lst (ns.map fun x=>V.str (S x)))) pl=_:=ai;have yB:=s7 _ _ ZZ;have u7:a0 (fun b=>b=s0\/b=B) H4 (upd H6 pl (.lst (ns.map fun x=>V.str (S x)))):=((a0.of s5).trans (a0.one u6 (.inl rfl))).trans (.of s7);generalize upd H6 pl (.lst (ns.map fun x=>V.str (S x)))=H7 at *;have line:zdR=2 ^ 24:=rfl;refine eJ (K:=K) (a:=pl) (xs:=ns.map fun x=>V.str (S x)) (fun i σ H8=>∃(z3 z4:Option V) (bs:List PG.cE) (xs:List V) (zi:Zs),AO ns z6=(bs++(AO (ns.drop i) zi).1,(AO (ns.drop i) zi).2)/\σ=[some (V.ref sa),some (V.ref s0),some (V.ref pn),some (V.ref B),z3,z4]/\a0 (fun b=>b=s0\/b=B) H4 H8/\qZ H8 s0 zi/\H8 pl=some (.lst (ns.map fun x=>V.str (S x)))/\H8 B=some (.lst xs)/\eM K (fun b=>b=s0\/b=B) H8 (bs.map jz) xs/\xs.length=i/\bs.map (·.name)=ns.take i/\∀b∈bs,2<=b.size/\b.size<=10/\0<=b.first/\b.first<b.size) ?_ ?_ ?_ ?_
  ·exact⟨none,none,[],[],_,rfl,rfl,u7,LW,y7,yB,eM.nil,rfl,rfl,fun b hb=>by cases hb⟩
  ·rintro i σ H8 hi ⟨z3,z4,bs,xs,zi,ez,rfl,u8,LX,y8,Um,f8,lx,eb,sz⟩
   exact .of y8
  ·rintro i x σ H8 hx ⟨z3,z4,bs,xs,zi,ez,rfl,u8,LX,y8,Um,f8,lx,eb,sz⟩
   rw[zal] at hx;cases hn:ns[i]? with
   |none=>rw[hn] at hx;cases hx
   |some nm=>
    rw[hn] at hx;cases hx;refine aw fun U4 lO=>?_;walk_at "rd";intro pq JU;have sq:=aq.new JU (.lst [V.int 3,V.int 9]);have yq:(upd H8 pq (.lst [V.int 3,V.int 9])) pq=_:=ai;have hsq:=LX.same sq;have nq:=LX.ne JU;have yBq:=sq _ _ Um;have fq:=f8.up (.of sq);have uq:=u8.trans (.of sq);have ypq:=sq _ _ y8;generalize upd H8 pq (.lst [V.int 3,V.int 9])=Hq at *;refine⟨s0,2,_,rfl,hsq,by decide,by decide,fun xz zz Hz qz az bz uz hsz=>?_⟩;obtain⟨my,emy,ekm,my0,my1⟩:∃my:Int,xc [V.int 3,V.int 9] xz=some (.int my)/\(if xz=0 then 3 else 9)=my/\0<my/\my<=9:=by
     obtain rfl |rfl:xz=0\/xz=1:=by lia
     ·exact⟨3,rfl,rfl,by decide,by decide⟩
     ·exact⟨9,rfl,rfl,by decide,by decide⟩
    refine cx (.of (uz _ _ nq yq)) emy ⟨s0,my,_,rfl,hsz,my0,by lia,fun x9 z9 H9 q9 a9 b9 u9 Uo=>⟨_,_,rfl,rfl,(lO _ _).mpr ?_⟩⟩;clear lO;walk_at "rd";have Z0:=u9 _ _ nB (uz _ _ nB yBq);have f9:=(fq.up (a0.one uz (.inl rfl))).up (a0.one u9 (.inl rfl));refine⟨.inl ⟨rfl,_,.of Z0⟩,s0,_,_,rfl,Uo,by lia,by lia,fun yv zF Bc JT XE XF sW LZ p hp=>?_⟩;have SD:=sW _ _ nB Z0;have WJ:=f9.up (a0.one sW (.inl rfl));have tZ:=aq.new hp (.tup [V.str (S nm),V.int (2+x9),V.int yv]);have npB:p≠B:=(aF SD hp).symm;have li:i<ns.length:=(zah.mp hn).1;have fp:Fix K (fun b=>b=s0\/b=B) (upd Bc p (.tup [V.str (S nm),V.int (2+x9),V.int yv])) (jz ⟨nm,2+x9,yv⟩) (.ref p):=Fix.tup ai (fun z=>z.elim (LZ.ne hp) npB) (.cons .str (.cons .int (.cons .int .nil)));have f11:=(WJ.up (.of tZ)).snoc fp;refine⟨B,xs,_,rfl,rfl,tZ _ _ SD,by lia,_,_,bs++[⟨nm,2+x9,yv⟩],xs++[.ref p],zF,?_,rfl,?_,?_,?_,ai,?_,by simp[lx],?_,?_⟩
    ·rw[ez,show ns.drop i=nm::ns.drop (i+1) by rw[zbP li];congr 1;rw[zaa li] at hn;exact zaH.inj hn];simp only[AO,qz,ekm,q9,JT,za0,zbt,zbp]
    ·exact((((uq.trans (a0.one uz (.inl rfl))).trans (a0.one u9 (.inl rfl))).trans (a0.one sW (.inl rfl))).trans (.of tZ)).put (.inr rfl) _
    ·show upd _ B _ s0=_;rw[aD nB.symm];exact LZ.same tZ
    ·rw[aD nlB];exact tZ _ _ (sW _ _ XD (u9 _ _ XD (uz _ _ XD ypq)))
    ·rw[zaw];exact f11.up (a0.refl.put (.inr rfl) _)
    ·rw[zaw,eb,zbG,hn];rfl
    ·intro b hb;rcases zak.mp hb with hb |hb
     ·exact sz b hb
     ·rw[zan.mp hb];exact⟨by show 2<=2+x9;lia,by show 2+x9<=10;lia,XE,XF⟩
  ·rintro σ H8 ⟨z3,z4,bs,xs,zi,ez,rfl,u8,LX,y8,Um,f8,lx,eb,sz⟩
   refine(jT _ _).mpr ?_;walk_at "rd";rw[zad,za6] at eb;have lbs:bs.length<=4:=by
    have:=congrArg zaR eb;rw[zad] at this;lia
   have fB:H0 B=none:=by
    cases z:H0 B with
    |none=>rfl
    |some o=>exact absurd rfl (aF (El B o nB z) hB)
   have Xq:aq H H8:=fun b o e=>by
    have e0:=sH b o e;have nb:b≠s0:=fun z=>by rw[z,ml] at e;cases e
    have e4:=El b o nb e0;exact u8 b o (fun z=>z.elim nb fun z=>aF e4 hB z) e4
   exact q B bs H8 (by rw[eD0,ez,zad,zc4];simp[AO]) Xq (sH.free fB) (Rep.bq.mpr ⟨B,xs,rfl,.of Um,f8.B6⟩) ⟨by rw[eb];exact XC,lbs,sz⟩
 obtain rfl |rfl:x4=0\/x4=1:=by lia
 ·exact cx (.of (u4 _ _ n3 y3)) (v:=.ref p1) (aC (j:=0) rfl) (main p1 [[97],[97,98],[98]] (by unfold K9;rw[q4];rfl) rfl (by decide) n1 (u4 _ _ n1 ZX))
 ·exact cx (.of (u4 _ _ n3 y3)) (v:=.ref p2) (aC (j:=1) rfl) (main p2 [[120,120],[120],[98,111,120,101,115]] (by unfold K9;rw[q4];rfl) rfl (by decide) n2 (u4 _ _ n2 ZY))
theorem wG(T:Tx K mg t):bM P w K mg base fZ 4 t.gM t.iG ["state", "boxes", "row"] (HY K):=by
 have aV:=fz (P:=P) (w:=w) (K:=K) (base:=base) T;have eX:=lP (P:=P) (w:=w) (K:=K) (base:=base) T;have m8:=xG (P:=P) (w:=w) (K:=K) (base:=base) T;refine T.fo.F.kZ ox (fun vs H Q E h=>?_) (fun eA A outer s H vs Q E hr h=>?_)
 ·obtain⟨_,_,_,_,_,rfl,_,_,_⟩:=h;rfl
 obtain⟨s0,B,bs,row,z,rfl,hs,hB,q⟩:=h;have nd:=ox.nd;refine⟨_,[some (.ref s0),some (.ref B),some (.int row),none],(ao (aP (i:=3) nd rfl (zap rfl) (aA aV (hr.mono (by first|decide|omega)) rfl T.ar.m T.ar.F.kp T.ar.b .nil aN (aa (pv 0) (aa ak ah aZ) ae)))
 (ao (bB (PW.pt (pw_and (aM (qR (i8 hr)) (pv 1) (bE ah) (aS _)) (pw_and1 (aM nV (pv 3) ak (aS _)))))
 (au (aH (bf (aa bG (aa (pv 2) (aa (av ax (av bP (pv 1) (aA aV (hr.mono (by first|decide|omega)) rfl T.ar.m T.ar.F.kp T.ar.b .nil aN (aa (pv 0) (aa (bh cA rfl T.l7 PyProof.Rows.Boot.«len» (aa (pv 1) ah ae)) ah aT) ae)) iy) ak aj) ah aG) ae) aZ))))
 aW)
 (ao (bB (PW.pt (pw_and (aM (qR (i8 hr)) (pv 1) (bE ah) (aS _)) (pw_and1 (aM nV (pv 3) ak (aS _)))))
 (au (aH (bf (aa bG (aa (pv 2) (aa (av ax (av bP (pv 1) (aA aV (hr.mono (by first|decide|omega)) rfl T.ar.m T.ar.F.kp T.ar.b .nil aN (aa (pv 0) (aa (bh cA rfl T.l7 PyProof.Rows.Boot.«len» (aa (pv 1) ah ae)) ah aT) ae)) iy) ak aj) (aa (aA m8 (hr.mono (by first|decide|omega)) rfl T.cX.m T.cX.F.kp T.cX.b .nil aN (aa (pv 0) (aa (pv 1) ah ae) ae)) ah aT) aG) ae) aZ))))
 aW)
 (ao (bB (aM cD (pv 3) ak (aS _))
 (au (aH (bf (aa bG (aa (pv 2) (aa (av xR bG (aA aV (hr.mono (by first|decide|omega)) rfl T.ar.m T.ar.F.kp T.ar.b .nil aN (aa (pv 0) (aa ak ah aZ) ae)) iy) (aa (aA eX (hr.mono (by first|decide|omega)) rfl T.bu.m T.bu.F.kp T.bu.b .nil aN (aa (pv 0) (aa (pv 1) ah ae) ae)) (aa (aA m8 (hr.mono (by first|decide|omega)) rfl T.cX.m T.cX.F.kp T.cX.b .nil aN (aa (pv 0) (aa (pv 1) ah ae) ae)) ah aT) aT) aG) ae) aZ))))
 aW)
 (ao (bB (PW.pt (pw_and (aM cD (pv 3) ak (aS _)) (pw_and1 (aM cD (aA aV (hr.mono (by first|decide|omega)) rfl T.ar.m T.ar.F.kp T.ar.b .nil aN (aa (pv 0) (aa ak ah aZ) ae)) ak (aS _)))))
 (au (aH (bf (aa bG (aa (pv 2) ah ae) aZ))))
 aW)
 (au (aH (bf (aa bG (aa (pv 2) (aa (aA m8 (hr.mono (by first|decide|omega)) rfl T.cX.m T.cX.F.kp T.cX.b .nil aN (aa (pv 0) (aa (pv 1) ah ae) ae)) ah aT) ae) aZ))))))))),rfl,?_⟩
 have Bw:=hB.2;refine aw fun U1 gf=>?_;walk_at "rd";refine⟨s0,9,_,rfl,hs,by decide,by decide,fun kd z1 H1 q1 a1 b1 u1 Ao=>(gf _ _).mpr (aw fun U2 jv=>?_)⟩;clear gf;have pos:∀ {xs:List V} {Hx:Hp},fU K Hx B xs->xs.length=bs.length->(!xs.isEmpty)=true->0<bs.length:=by
  intro xs Hx _ lx e;rw[<- lx];cases xs with
  |nil=>cases e
  |cons _ _=>simp
 have nn:∀ {xs:List V},xs.length=bs.length->bs≠[]->(!xs.isEmpty)=true:=by
  intro xs lx hb;cases xs with
  |nil=>cases bs with
   |nil=>exact absurd rfl hb
   |cons _ _=>cases lx
  |cons _ _=>rfl
 have MY:∀Hx,¬(bs≠[]/\kd<3)->bc s0 H Hx->qZ Hx s0 z1->U2 [some (.ref s0),some (.ref B),some (.int row),some (.int kd)] Hx:=by
  intro Hx n3 ux hsx;have Z1:=hB.up ux;refine(jv _ _).mpr (aw fun U3 jT=>?_);clear jv;have MZ:∀Hy,¬(bs≠[]/\kd<6)->bc s0 H Hy->qZ Hy s0 z1->U3 [some (.ref s0),some (.ref B),some (.int row),some (.int kd)] Hy:=by
   intro Hy n6 uy JV;have Z3:=hB.up uy;refine(jT _ _).mpr (aw fun U4 lO=>?_);clear jT;walk_at "rd";refine eC (fun e=>?_) (fun e=>?_)
   ·refine⟨s0,2,_,rfl,JV,by decide,by decide,fun x2 z2 H2 q2 a2 b2 u2 vQ=>?_⟩;obtain⟨c,ec,ek,oc⟩:∃c:Nat,xc (zac "<=").cps.toList x2=some c/\Mw x2=[c]/\[c]∈PG.Mh:=by
     obtain rfl |rfl:x2=0\/x2=1:=by lia
     ·exact⟨60,by decide +kernel,rfl,by decide⟩
     ·exact⟨61,by decide +kernel,rfl,by decide⟩
    have uz:=uy.trans u2;refine⟨_,_,c,rfl,rfl,by decide +kernel,ec,s0,B,bs,_,rfl,vQ,Z3.up u2,fun v3 t3 z3 H3 q3 u3 vR f3 o3 d3=>⟨s0,B,bs,_,rfl,vR,(Z3.up u2).up u3,fun v4 t4 z4 H4 q4 u4 yT f4 o4 p hp=>?_⟩⟩;have Ek:=uz.trans u3;have El:=Ek.trans u4;exact q _ (.fD row [c] t3 t4) _ _ (by rw[<- ek];exact AL q1 n3 n6 (by simpa using e) q2 q3 q4) (El.new hp _) (yT.new hp _) (Own.tup (.cons .str (.cons .int (.cons .str (.cons ((f3.back (uz.lT vQ.nn)).up u4 hs.nn) (.cons (f4.back (Ek.lT vR.nn)) .nil))))) (El.lT yT.nn) hp) ⟨oc,⟨o3,zax d3 (by decide)⟩,o4⟩ trivial rfl
   ·refine(lO _ _).mpr (aw fun U5 wu=>?_);clear lO;have say:∀Hz zz,(∀t4 z4,eD bs zz=(t4,z4)->fG bs row z=(.say row t4,z4))->bc s0 H Hz->qZ Hz s0 zz->U5 [some (.ref s0),some (.ref B),some (.int row),some (.int kd)] Hz:=by
     intro Hz zz ed uz hsz;refine(wu _ _).mpr ?_;clear wu;walk_at "rd";refine⟨s0,B,bs,_,rfl,hsz,hB.up uz,fun v4 t4 z4 H4 q4 u4 yT f4 o4 p hp=>?_⟩;have El:=uz.trans u4;exact q _ (.say row t4) _ _ (ed _ _ q4) (El.new hp _) (yT.new hp _) (Own.tup (.cons .str (.cons .int (.cons (f4.back (uz.lT hsz.nn)) .nil))) (El.lT yT.nn) hp) o4 trivial rfl
    walk_at "rd";refine eC (fun e7=>?_) (fun e5=>say _ _ (fun t4 z4 h4=>CB q1 n3 n6 (by simpa using e) (by simpa using e5) h4) uy JV);refine⟨s0,3,_,rfl,JV,by decide,by decide,fun x2 z2 H2 q2 a2 b2 u2 vQ=>⟨rfl,eC (fun e3=>fun p hp=>?_) (fun e3=>say _ _ (fun t4 z4 h4=>AN q1 n3 n6 (by simpa using e7) q2 (by simpa using e3) h4) (uy.trans u2) vQ)⟩⟩;have Z4:=uy.trans u2;exact q _ (.stop row) _ _ (AM q1 n3 n6 (by simpa using e7) q2 (by simpa using e3)) (Z4.new hp _) (vQ.new hp _) (Own.tup (.cons .str (.cons .int .nil)) (Z4.lT vQ.nn) hp) trivial trivial rfl
  walk_at "rd";intro p1 Bx;obtain⟨xs,hx,lx⟩:=nE Z1;have s1:=aq.new Bx (.lst []);have O7:=ux.trans (bc.of s1);have C0:=hsx.same s1;have L0:=Z1.same s1;have ye:fU K (upd Hx p1 (.lst [])) p1 []:=.of ai;generalize upd Hx p1 (.lst [])=H1 at *;refine⟨B,p1,xs,rfl,rfl,s1.seq hx,ye,eC (fun e=>?_) (fun e=>MZ _ (fun c=>e (nn lx c.1)) O7 C0)⟩;refine eC (fun e2=>?_) (fun e2=>MZ _ (fun c=>by simp at e2;have:=c.2;lia) O7 C0);have l0:=pos hx lx e;refine⟨B,xs,rfl,.inl (s1.seq hx),s0,_,_,rfl,C0,by lia,by lia,fun x3 z3 H3 q3 a3 b3 u3 vR=>(L0.up u3).pick a3 (by lia) ?_⟩;refine⟨s0,B,bs,_,rfl,vR,L0.up u3,fun v4 t4 z4 H4 q4 u4 yT f4 o4 p hp=>?_⟩;have Ek:=O7.trans u3;have El:=Ek.trans u4;exact q _ (.put row _ t4) _ _ (CA q1 (fun z=>by rw[z] at l0;cases l0) (fun c=>n3 ⟨(fun z=>by rw[z] at l0;cases l0),c⟩) (by simpa using e2) (by rw[lx] at q3;exact q3) q4) (El.new hp _) (yT.new hp _) (Own.tup (.cons .str (.cons .int (.cons .str (.cons (f4.back (Ek.lT vR.nn)) .nil)))) (El.lT yT.nn) hp) ⟨qY a3 (by lia),o4⟩ trivial rfl
 walk_at "rd";intro p1 Bx;have SA:=hB.up u1;obtain⟨xs,hx,lx⟩:=nE SA;have s1:=aq.new Bx (.lst []);have O7:=u1.trans (bc.of s1);have C0:=Ao.same s1;have L0:=SA.same s1;have ye:fU K (upd H1 p1 (.lst [])) p1 []:=.of ai;generalize upd H1 p1 (.lst [])=H2 at *;refine⟨B,p1,xs,rfl,rfl,s1.seq hx,ye,eC (fun e=>?_) (fun e=>MY _ (fun c=>e (nn lx c.1)) O7 C0)⟩;refine eC (fun e2=>?_) (fun e2=>MY _ (fun c=>by simp at e2;have:=c.2;lia) O7 C0);have l0:=pos hx lx e;refine⟨B,xs,rfl,.inl (s1.seq hx),s0,_,_,rfl,C0,by lia,by lia,fun x3 z3 H3 q3 a3 b3 u3 vR=>(L0.up u3).pick a3 (by lia) fun p hp=>?_⟩;have Ek:=O7.trans u3;exact q _ (.ask row _) _ _ (Cz q1 (fun z=>by rw[z] at l0;cases l0) (by simpa using e2) (by rw[lx] at q3;exact q3)) (Ek.new hp _) (vR.new hp _) (Own.tup (.cons .str (.cons .int (.cons .str .nil))) (Ek.lT vR.nn) hp) (qY a3 (by lia)) trivial rfl
theorem yY(T:Tx K mg t):bM P w K mg base fZ 6 t.iS t.jj ["script", "boxes"] (Lb K 26):=by
 have aV:=fz (P:=P) (w:=w) (K:=K) (base:=base) T;have gR:=ko (P:=P) (w:=w) (K:=K) (base:=base) T;have eX:=lP (P:=P) (w:=w) (K:=K) (base:=base) T;have m8:=xG (P:=P) (w:=w) (K:=K) (base:=base) T;have yZ:=wG (P:=P) (w:=w) (K:=K) (base:=base) T;refine T.dv.F.kZ qu (fun vs H Q E h=>?_) (fun eA A outer s H vs Q E hr h=>?_)
 ·obtain⟨_,_,_,_,rfl,_,_,_,_,_⟩:=h;rfl
 obtain⟨sa,B,ns,bs,rfl,hS,Ul,rB,l4,q⟩:=h;have nd:=qu.nd;refine⟨_,[some (.ref sa),some (.ref B),none,none,none,none,none,none,none,none,none,none],(ao (aP (i:=2) nd rfl (zap rfl) (bE ah))
 (ao (aP (i:=3) nd rfl (zap rfl) (bE (aa (pv 2) ah ae)))
 (ao (aP (i:=4) nd rfl (zap rfl) (bE (aa kT ah aZ)))
 (ao (aP (i:=5) nd rfl (zap rfl) (bh cA rfl T.l7 PyProof.Rows.Boot.«len» (aa (pv 1) ah ae)))
 (ao (eI PassesOwn.never rfl (Ew rfl T.yO (aa ak (aa (bh (gZ rfl) rfl T.oC PyProof.Rows.Boot.«min» (aa (bh cA rfl T.l7 PyProof.Rows.Boot.«len» (aa (pv 0) ah ae)) (aa ak ah aZ) aT)) ah aT) aZ)) (aX (i:=6) nd rfl (zap rfl))
 (ao (aP (i:=7) nd rfl (zap rfl) (aA gR (hr.mono (by first|decide|omega)) rfl T.bS.m T.bS.F.kp T.bS.b .nil aN (aa (pv 0) (aa (pv 6) ah ae) ae)))
 (ao (aP (i:=5) nd rfl (zap rfl) (bC gh (pv 5) ak))
 (ao (aP (i:=8) nd rfl (zap rfl) (aA aV (hr.mono (by first|decide|omega)) rfl T.ar.m T.ar.F.kp T.ar.b .nil aN (aa (pv 7) (aa ak ah aZ) ae)))
 (au (bB (PW.pt (pw_and (aM nV (pv 8) ak (aS _)) (pw_and1 (aM nV (bh cA rfl T.l7 PyProof.Rows.Boot.«len» (aa (pv 3) ah ae)) ak (aS _)))))
 (ao (aP (i:=9) nd rfl (zap rfl) (bE (aa (aA eX (hr.mono (by first|decide|omega)) rfl T.bu.m T.bu.F.kp T.bu.b .nil aN (aa (pv 7) (aa (pv 1) ah ae) ae)) (aa (aA m8 (hr.mono (by first|decide|omega)) rfl T.cX.m T.cX.F.kp T.cX.b .nil aN (aa (pv 7) (aa (pv 1) ah ae) ae)) ah aT) aT)))
 (ao (bB (aM cD (aA aV (hr.mono (by first|decide|omega)) rfl T.ar.m T.ar.F.kp T.ar.b .nil aN (aa (pv 7) (aa ak ah aZ) ae)) ak (aS _))
 (au (dF (xU zaA PySem.F.slot_list_reverse PySem.F.type_list_reverse BW (pv 9))))
 aW)
 (ao (aP (i:=10) nd rfl (zap rfl) (av bP (bE (hV (vs:=[.str "if",.str "while",.str "if"]) (by kernel_rfl))) (pv 8) yf))
 (ao (aP (i:=11) nd rfl (zap rfl) (gu kX (bE (aa (bE ah) (aa (bE ah) ah yg) yg)) jb (jc (bC gh ak (bL rY rfl T.Eb PyProof.Rows.Boot.«int» (aa (gm cD (pv 10) bG (aS _)) ah GL))))))
 (ao (dF (kB zaA zaO zaP c6 (av bP (pv 3) (wW qJ ak) Dv) (aa (bL cP rfl T.iJ PyProof.Rows.Boot.«tuple» (aa (bC j9 (bC j9 (bE (aa (pv 10) (aa (pv 5) (aa (av xR bG (aA aV (hr.mono (by first|decide|omega)) rfl T.ar.m T.ar.F.kp T.ar.b .nil aN (aa (pv 7) (aa ak ah aZ) ae)) iy) ah aG) ae) ae)) (pv 9)) (pv 11)) ah dA)) ah aT)))
 (ao (dF (kB zaA zaO zaP c6 (pv 3) (aa (av bP (pv 11) ak aj) ah aG)))
 (au (dF (kB zaA zaO zaP c6 (pv 4) (aa (av bP (bC j9 (pv 11) (bE (aa kT ah aZ))) ak aj) ah aG))))))))))
 (au (bB (PW.pt (pw_and (aM cD (pv 8) ak (aS _)) (pw_and1 (aM Dk (av bP (pv 4) (wW qJ ak) Dv) kT (aS _)))))
 (ao (qI (av bP (pv 4) (wW qJ ak) Dv) (uc (pv 3) (wW qJ ak) set_list))
 (au (qI kT (uc (pv 4) (wW qJ ak) set_list))))
 (au (bB (PW.pt (pw_and (aM nV (pv 8) ak (aS _)) (pw_and1 (aM zU (bh cA rfl T.l7 PyProof.Rows.Boot.«len» (aa (pv 3) ah ae)) ak (aS _)))))
 (ao (dF (xU zaA zcv zcw BV (pv 3)))
 (au (dF (xU zaA zcv zcw BV (pv 4)))))
 (au (dF (kB zaA zaO zaP c6 (av bP (pv 3) (wW qJ ak) Dv) (aa (aA yZ (hr.mono (by first|decide|omega)) rfl T.fo.m T.fo.F.kp T.fo.b .nil aN (aa (pv 7) (aa (pv 1) (aa (pv 5) ah ae) ae) ae)) ah aT))))))))))))))
 (au (aH (pv 2)))))))),rfl,?_⟩
 have line:zdR=2 ^ 24:=rfl;refine aw fun U1 gf=>?_;walk_at "rd";intro R hR;refine(gf _ _).mpr (aw fun U2 jv=>?_);clear gf;walk_at "rd";intro pl oO;refine(jv _ _).mpr (aw fun U3 jT=>?_);clear jv;walk_at "rd";intro sc Ct;refine(jT _ _).mpr (aw fun U4 lO=>?_);clear jT;walk_at "rd";obtain⟨_,MQ,eB,O1,XG⟩:=Rep.bq.mp rB;cases eB;have lbx:MQ.length=bs.length:=by rw[XG.length,zad]
 have s1:=aq.new hR (.lst []);have y1:(upd H R (.lst [])) R=some (.lst []):=ai;have Z5:=s1.free oO;have n2:pl≠R:=(aF y1 oO).symm;generalize upd H R (.lst [])=H1 at *;have s2:=aq.new oO (.lst [V.ref R]);have y2:(upd H1 pl (.lst [V.ref R])) pl=some (.lst [V.ref R]):=ai;have JS:=s2 _ _ y1;have Z6:=(s1.trans s2).free Ct;have n1:pl≠sc:=aF y2 Ct;have n3:sc≠R:=(aF JS Ct).symm;generalize upd H1 pl (.lst [V.ref R])=H2 at *;have s3:=aq.new Ct (.lst [V.bI]);have y3:(upd H2 sc (.lst [V.bI])) sc=some (.lst [V.bI]):=ai;have Qo:=s3 _ _ JS;have Z7:=s3 _ _ y2;have MV:=(s1.trans s2).trans s3;generalize upd H2 sc (.lst [V.bI])=H3 at *;have Z8:PZ K bs bs.length bs.length R pl sc H H3 [] [] R [] [.bI] []:=PZ.one hR Z5 Z6 n1 n2 n3 MV Qo Z7 y3;clear Qo Z7 y3 JS y2 y1 oO Ct s1 s2 s3 n1 n2 n3 Z5 Z6;refine⟨B,MQ,rfl,.inl (MV.seq O1),(lO _ _).mpr (aw fun U5 wu=>?_)⟩;clear lO;rw[lbx];refine HM fun U hU=>?_;walk_at "rd";refine⟨sa,_,rfl,.inl (MV.seq hS),_,_,rfl,_,_,rfl,⟨by decide,by decide,?_,?_⟩,hU _ _ _ ?_⟩
 ·rw[zad];split<;>lia
 ·rw[zad];split<;>lia
 clear hU;obtain⟨n,hn,n25⟩:∃n:Nat,((if (26:Int)<((ns.map V.int).length:Int) then (26:Int) else ((ns.map V.int).length:Int))-1).toNat=n/\n<=25:=⟨_,rfl,by split<;>lia⟩
 rw[hn];obtain⟨Iv,CY⟩:∃Iv:Nat->St->Hp->Prop,∀i σ Hx,Iv i σ Hx↔∃(z6 z7 z8 z9 zF Js:Option V) (o:List (List PG.bo×PG.dE)) (cur:List PG.bo) (p:zdJ) (ps:List zdJ) (ss vs:List V),σ=[some (.ref sa),some (.ref B),some (.ref R),some (.ref pl),some (.ref sc),some (.int (bs.length+i)),z6,z7,z8,z9,zF,Js]/\PZ K bs bs.length (bs.length+i) R pl sc H Hx o cur p ps ss vs/\CC bs ns i=(o,cur):=⟨_,fun _ _ _=>Iff.rfl⟩
 refine Ez (lo:=1) (n:=n) Iv ((CY _ _ _).mpr ⟨none,none,none,none,none,none,[],[],R,[],[.bI],[],by simp,by simpa using Z8,rfl⟩) (fun i σ Hx hi hv=>?_) (fun σ Hx hv=>?_)
 ·obtain⟨z6,z7,z8,z9,zF,Js,o,cur,p,ps,ss,vs,rfl,pz,ez⟩:=(CY _ _ _).mp hv;clear hv Z8;obtain⟨ep,es⟩:=pz.V0;have gc:=pz.gc;have lo:=pz.len;refine aw fun V1 MO=>?_;walk_at "rd";refine⟨sa,ns,i+1,by rw[show (1:Int)+i=((i+1:Nat):Int) by lia],pz.sm.seq hS,Ul,by lia,fun s0 H4 s4 f4 yT=>(MO _ _).mpr (aw fun V2 Sd=>?_)⟩;clear MO;have pz4:=pz.same s4;have bx4:jA K (·=s0) H4 B bs:=⟨fun H' u=>(rB.mono pz.sm).mono fun b x e=>u b x (aF e f4) (s4 b x e),by lia⟩
  walk_at "rd";refine(Sd _ _).mpr (aw fun V3 Se=>?_);clear Sd;walk_at "rd";refine⟨s0,10,_,rfl,yT,by decide,by decide,fun kd z5 H5 q5 a5 b5 u5 Ed=>(Se _ _).mpr ?_⟩;clear Se;have s5:aq Hx H5:=((bc.of s4).trans u5).same f4;have JW:=pz.same s5;have XH:=bx4.up u5;have nso:s0 ∉ cC pl sc p ps ss:=fun z=>pz.lT _ z f4;have fin:∀(z9 zF Js:Option V) (H':Hp) (o:List (List PG.bo×PG.dE)) (cur:List PG.bo) (p:zdJ) (ps:List zdJ) (ss vs:List V),PZ K bs bs.length (bs.length+i+1) R pl sc H H' o cur p ps ss vs->CC bs ns (i+1)=(o,cur)->Iv (i+1) [some (.ref sa),some (.ref B),some (.ref R),some (.ref pl),some (.ref sc),some (.int (bs.length+i+1)),some (.int (1+i)),some (.ref s0),some (.int kd),z9,zF,Js] H':=by
   intro z9 zF Js H' o cur p ps ss vs pz ezn;refine(CY _ _ _).mpr ⟨some (.int (1+i)),some (.ref s0),some (.int kd),z9,zF,Js,o,cur,p,ps,ss,vs,?_,?_,ezn⟩
   ·rw[show (bs.length:Int)+((i+1:Nat):Int)=bs.length+i+1 by lia]
   ·rw[show (bs.length:Int)+((i+1:Nat):Int)=bs.length+i+1 by lia];exact pz
  clear CY;have SE:CC bs ns (i+1)=lW bs (bs.length+i+1) (Mv ns (i+1)) (o,cur):=by rw[CC,ez]
  have XI:∀ {v:V} {HZ:List V},ss=v::HZ->v=.bI->sf o=false:=fun e n=>pz.pa.top e n;obtain⟨v0,zH,rfl⟩:∃v0 zH,ss=v0::zH:=by
   cases ss with
   |nil=>simp at es
   |cons v0 zH=>exact⟨v0,zH,rfl⟩
  have O8:=JW.oO;have SF:=JW.Ct;have yp:=JW.hp;rw[rev_last] at O8;rw[zbh] at SF;have Lg:((ps.reverse.map V.ref++[V.ref p]:List V).length)=o.length+1:=by rw[zau,zad,zcc,ep];rfl
  refine vn fun UA UB XJ Qj=>?_;have Ri:¬(kd<3/\o.length<4)->UB [some (.ref sa),some (.ref B),some (.ref R),some (.ref pl),some (.ref sc),some (.int (bs.length+i+1)),some (.int (1+i)),some (.ref s0),some (.int kd),z9,zF,Js] H5:=by
   intro n1;refine(Qj _ _).mpr ?_;clear Qj XJ;refine vn fun UC UD XM XN=>?_;have O9:¬(kd=3/\sf o=true)->UD [some (.ref sa),some (.ref B),some (.ref R),some (.ref pl),some (.ref sc),some (.int (bs.length+i+1)),some (.int (1+i)),some (.ref s0),some (.int kd),z9,zF,Js] H5:=by
    intro n2;refine(XN _ _).mpr ?_;clear XN XM;refine vn fun UE UF XO XQ=>?_;have Pa:¬(kd<5/\o≠[])->UF [some (.ref sa),some (.ref B),some (.ref R),some (.ref pl),some (.ref sc),some (.int (bs.length+i+1)),some (.int (1+i)),some (.ref s0),some (.int kd),z9,zF,Js] H5:=by
     intro n3;refine(XQ _ _).mpr ?_;clear XQ XO;walk_at "rd";refine⟨1,rfl,cx (.of O8) (mr _ _) ⟨.inl ⟨rfl,_,.of yp⟩,s0,B,bs,_,_,rfl,Ed,XH,fun v st z6 H6 q6 u6 LV os ow pn er=>?_⟩⟩;have Z9:=pz.same (((bc.of s4).trans (u5.trans u6)).same f4);exact⟨p,vs,v,rfl,rfl,Z9.hp,by lia,fin _ _ _ _ _ _ _ _ _ _ (Z9.add (os _ JW.lT) ow pn er) (SE.trans (AQ q5 n1 n2 n3 q6))⟩
    walk_at "rd";refine eC (fun e=>⟨pl,_,rfl,.inl (.of O8),eC (fun e2=>(XO _ _).mpr ?_) (fun e2=>Pa (fun c=>e2 (by rw[Lg];have:=zcL.mpr c.2;(try simp only[decide_eq_true_eq]);lia)))⟩) (fun e=>(if_neg (by decide)).mpr (Pa fun c=>e (by have:=c.1;first |exact this |(simp only[decide_eq_true_eq];exact this))));clear Pa XO XQ;rw[Lg] at e2;obtain⟨q1,vU,rfl⟩:∃q1 vU,ps=q1::vU:=by
     cases ps with
     |nil=>simp at ep;simp[<- ep] at e2
     |cons q1 vU=>exact⟨q1,vU,rfl⟩
    obtain⟨v1,HZ,JO,es1,no,pzp⟩:=JW.Wg rfl;cases es1;refine aw fun W1 M0=>?_;walk_at "rd";refine⟨.inl ⟨rfl,_,.of O8⟩,pl,_,.ref p,rfl,rfl,O8,by simp,(M0 _ _).mpr ?_⟩;clear M0;rw[zdw];have XR:sc≠pl:=fun z=>by
     have:=JW.nd;unfold cC at this;rw[z] at this;simp at this
    have L4:(upd H5 pl (.lst ((q1::vU).reverse.map V.ref))) sc=some (.lst (zH.reverse++[v0])):=by rw[aD XR];exact SF
    walk_at "rd";refine⟨.inl ⟨rfl,_,.of L4⟩,sc,_,v0,rfl,rfl,L4,by simp,?_⟩;rw[zdw];exact fin _ _ _ _ _ _ _ _ _ _ pzp.more (SE.trans (Fo q5 n1 n2 ⟨by simpa using e,no⟩))
   walk_at "rd";refine eC (fun e=>⟨1,rfl,cx (.of SF) (mr _ _) (eC (fun ev=>O9 (fun c=>by rw[XI rfl ev] at c;cases c.2)) (fun nv=>(XM _ _).mpr ?_))⟩) (fun e=>(if_neg (by decide)).mpr (O9 fun c=>e (by have:=c.1;first |exact this |(simp only[decide_eq_true_eq];exact this))));clear O9 XM XN;obtain⟨b,rfl,tpe,pze⟩:=JW.Wf rfl nv;refine aw fun W1 M0=>?_;walk_at "rd";refine⟨1,rfl,cx (.of SF) (mr _ _) ⟨1,rfl,pl,_,_,_,rfl,rfl,O8,HQ (by rw[Lg];lia),(M0 _ _).mpr ?_⟩⟩;clear M0;rw[AH];have XR:sc≠pl:=fun z=>by
    have:=JW.nd;unfold cC at this;rw[z] at this;simp at this
   have L4:(upd H5 pl (.lst (ps.reverse.map V.ref++[.ref b]))) sc=some (.lst (zH.reverse++[.ref b])):=by rw[aD XR];exact SF
   walk_at "rd";refine⟨1,rfl,sc,_,_,_,rfl,rfl,L4,HQ (by simp),?_⟩;rw[AH];rw[rev_last,zbh] at pze;exact fin _ _ _ _ _ _ _ _ _ _ pze.more (SE.trans (Fp q5 n1 ⟨by simpa using e,tpe⟩))
  walk_at "rd";refine eC (fun e=>⟨pl,_,rfl,.inl (.of O8),eC (fun e2=>(XJ _ _).mpr ?_) (fun e2=>Ri (fun c=>e2 (by rw[Lg];have:=c.2;(try simp only[decide_eq_true_eq]);lia)))⟩) (fun e=>(if_neg (by decide)).mpr (Ri fun c=>e (by have:=c.1;first |exact this |(simp only[decide_eq_true_eq];exact this))));clear Ri XJ Qj;rw[Lg] at e2;have lo3:o.length<=3:=by lia
  refine aw fun W1 M0=>?_;walk_at "rd";refine⟨s0,B,bs,_,rfl,Ed,XH,fun v6 t6 z6 H6 q6 u6 LV f6 o6 d6=>⟨s0,B,bs,_,rfl,LV,XH.up u6,fun v7 t7 z7 H7 q7 u7 LW f7 o7 p8 FZ=>(M0 _ _).mpr ?_⟩⟩;clear M0;have XS:=u6.trans u7;replace f6:=f6.up u7 Ed.nn;replace f7:=f7.back (u6.lT LV.nn);have n8:=LW.ne FZ;have LX:=LW.new FZ (.lst [v6,v7]);have y8:(upd H7 p8 (.lst [v6,v7])) p8=some (.lst [v6,v7]):=ai;have e8:=aq.new FZ (.lst [v6,v7]);have oS:∀a,(a∈cC pl sc p ps (v0::zH)\/a=s0)->H5 a≠none:=fun a ha=>ha.elim (JW.lT a) fun z=>by rw[z];exact Ed.nn
  have g8:∀a,((a∈cC pl sc p ps (v0::zH)\/a=s0)\/a=p8)->(a∈cC pl sc p ps (v0::zH)\/a=s0)\/H7 a=none:=fun a h=>h.imp id fun z=>by rw[z];exact FZ
  have F6:=((f6 _ oS).grow g8).up (.of e8);have F7:=((f7 _ oS).grow g8).up (.of e8);clear f6 f7 oS g8;have s8:aq Hx (upd H7 p8 (.lst [v6,v7])):=((((bc.of s4).trans u5).trans XS).trans (.of e8)).same f4;have n8o:p8 ∉ cC pl sc p ps (v0::zH):=fun z=>(XS.lT LW.nn) _ (JW.lT _ z) FZ;generalize upd H7 p8 (.lst [v6,v7])=H8 at *;refine aw fun W2 hW2=>?_;have main:∀(Hy:Hp) (va vb:V) (ta tb:PM.Tr) (x9:Int) (z9:Zs),tk z7 2=(x9,z9)->(if x9=1 then t7 else t6)=ta->(if x9=1 then t6 else t7)=tb->aq Hx Hy->qZ Hy s0 z9->Hy p8=some (.lst [va,vb])->Fix K (fun a=>a∈cC pl sc p ps (v0::zH)\/a=s0) Hy (ky ta) va->Fix K (fun a=>a∈cC pl sc p ps (v0::zH)\/a=s0) Hy (ky tb) vb->AE bs ta->AE bs tb->W2 [some (.ref sa),some (.ref B),some (.ref R),some (.ref pl),some (.ref sc),some (.int (bs.length+i+1)),some (.int (1+i)),some (.ref s0),some (.int kd),some (.ref p8),zF,Js] Hy:=by
   intro Hy va vb ta tb x9 z9 q9 ea eb sy JV yy fa fb oa ob;refine(hW2 _ _).mpr (aw fun W3 hW3=>?_);clear hW2 F6 F7;walk_at "rd";intro pw hpw;have ew:=aq.new hpw (.lst [V.str (zac "if"),V.str (zac "while"),V.str (zac "if")]);have yw:(upd Hy pw (.lst [V.str (zac "if"),V.str (zac "while"),V.str (zac "if")])) pw=_:=ai;replace JV:=JV.same ew;replace yy:=ew _ _ yy;replace sy:=sy.trans ew;replace fa:=fa.up (.of ew);replace fb:=fb.up (.of ew);generalize upd Hy pw (.lst [V.str (zac "if"),V.str (zac "while"),V.str (zac "if")])=Hw at *;obtain⟨wd,ewd,hwd⟩:∃wd:Str,xc [V.str (zac "if"),V.str (zac "while"),V.str (zac "if")] kd=some (.str wd)/\((wd = "if"/\kd≠1)\/(wd = "while"/\kd=1)):=by
    obtain rfl |rfl |rfl:kd=0\/kd=1\/kd=2:=by lia
    ·exact⟨_,rfl,.inl ⟨rfl,by decide⟩⟩
    ·exact⟨_,rfl,.inr ⟨rfl,rfl⟩⟩
    ·exact⟨_,rfl,.inl ⟨rfl,by decide⟩⟩
   refine cx (.of yw) ewd ((hW3 _ _).mpr (aw fun W4 Up=>?_));clear hW3 yw ewd ew hpw;walk_at "rd";intro b0 SG b1 KN pb hpb;have fb0:Hx b0=none:=sy.free SG;have n0s:=JV.ne SG;have e0:=aq.new SG (.lst []);have y0:(upd Hw b0 (.lst [])) b0=some (.lst []):=ai;have w1:Hw b1=none:=e0.free KN;have n01:b0≠b1:=aF y0 KN;have gW:∀a,((a∈cC pl sc p ps (v0::zH)\/a=s0)\/a=b0\/a=b1)->(a∈cC pl sc p ps (v0::zH)\/a=s0)\/Hw a=none:=fun a h=>h.imp id fun z=>z.elim (fun z=>by rw[z];exact SG) fun z=>by rw[z];exact w1
   have FA:=fa.grow gW;have FB:=fb.grow gW;clear fa fb gW;have fb1:Hx b1=none:=sy.free w1;have n1s:=JV.ne w1;generalize upd Hw b0 (.lst [])=Hv at *;have e1:=aq.new KN (.lst []);have y1:(upd Hv b1 (.lst [])) b1=some (.lst []):=ai;generalize upd Hv b1 (.lst [])=Hu at *;have Qe:=aq.new hpb (.lst [V.ref b0,V.ref b1]);have yb:(upd Hu pb (.lst [V.ref b0,V.ref b1])) pb=_:=ai;have Qp:=(e0.trans e1).trans Qe;have sb:=sy.trans Qp;have JJ:=JV.same Qp;replace yy:=Qp _ _ yy;replace y0:=Qe _ _ (e1 _ _ y0);replace y1:=Qe _ _ y1;replace FA:=FA.up (.of Qp);replace FB:=FB.up (.of Qp);generalize upd Hu pb (.lst [V.ref b0,V.ref b1])=Hb at *;clear e0 e1 Qe Qp hpb SG KN w1 sy JV;rcases hwd with ⟨rfl,ek⟩ |⟨rfl,ek⟩
   ·rw[show (decide ((zac "if":Str)=zac "if"))=true by decide +kernel];refine⟨_,rfl,_,rfl,pb,_,rfl,.of yb,fun pq JU=>(Up _ _).mpr ?_⟩;clear Up;rw[show kA [V.ref b0,V.ref b1] none (some (1+if true=true then 1 else 0))=[V.ref b0,V.ref b1] by rfl];have eq5:=aq.new JU (.lst [V.ref b0,V.ref b1]);have yq:(upd Hb pq (.lst [V.ref b0,V.ref b1])) pq=_:=ai;have SH:=JJ.ne JU;have fq:Hx pq=none:=sb.free JU;replace JJ:=JJ.same eq5;replace sb:=sb.trans eq5;replace yy:=eq5 _ _ yy;replace y0:=eq5 _ _ y0;replace y1:=eq5 _ _ y1;replace FA:=FA.up (.of eq5);replace FB:=FB.up (.of eq5);generalize upd Hb pq (.lst [V.ref b0,V.ref b1])=Hq at *;refine aw fun W5 SI=>?_;walk_at "rd";have SJ:=pz.same sb;have Jt:=SJ.oO;rw[rev_last] at Jt;refine⟨1,rfl,cx (.of Jt) (mr _ _) ⟨.inl ⟨rfl,_,.of SJ.hp⟩,s0,2,_,rfl,JJ,by decide,by decide,fun yv zF Bc JT XE XF sW LZ=>?_⟩⟩;obtain⟨c,ec,XT,oc⟩:∃c:Nat,xc (zac "<=").cps.toList yv=some c/\Mw yv=[c]/\[c]∈PG.Mh:=by
     obtain rfl |rfl:yv=0\/yv=1:=by lia
     ·exact⟨60,by decide +kernel,rfl,by decide⟩
     ·exact⟨61,by decide +kernel,rfl,by decide⟩
    refine⟨_,_,c,rfl,rfl,by decide +kernel,ec,?_⟩;intro SK Pb;generalize Pc:upd Bc SK _=MI;have tZ:=gL Pc Pb;have XU:=PN Pc;clear Pc;refine⟨SK,p8,_,_,rfl,rfl,XU,tZ _ _ (sW _ _ n8 yy),by simp only[zai,zaz];lia,fun SM Jg=>?_⟩;generalize Pd:upd MI SM _=Lz;have By:=gL Pd Jg;have JS:=PN Pd;clear Pd;refine⟨SM,pq,_,_,rfl,rfl,JS,By _ _ (tZ _ _ (sW _ _ SH yq)),by simp only[zau,zai,zaz];lia,fun SN CT=>?_⟩;generalize Pe:upd Lz SN _=Qb;have yj:=gL Pe CT;have Qo:=PN Pe;clear Pe;refine⟨SN,_,rfl,.inl ⟨.of Qo,fun FQ Ju=>?_⟩⟩;generalize Pf:upd Qb FQ _=yQ;have LA:=gT Pf Ju;have Qc:yQ FQ=some (.tup ([V.str (zac "if"),V.int (bs.length+i+1),V.str (S [c])]++[va,vb]++[V.ref b0,V.ref b1])):=by rw[<- Pf];exact ai
    clear Pf;have Bi:=((tZ.trans By).trans yj).trans LA;have KZ:∀b x,b≠s0->Hq b=some x->yQ b=some x:=fun b x n e=>Bi _ _ (sW b x n e);have sx:aq Hx yQ:=fun b x e=>KZ b x (fun z=>by rw[z,f4] at e;cases e) (sb b x e);have SO:a0 (fun a=>(a∈cC pl sc p ps (v0::zH)\/a=s0)\/a=b0\/a=b1) Hq yQ:=(a0.one sW (.inl (.inr rfl))).trans (.of Bi);have C1:=pz.same sx;have Jv:=C1.oO;have Jw:=C1.Ct;have Pg:=KZ _ _ SH yq;have XW:pq≠p:=fun z=>pz.lT p (aL.mpr (.inr (.inr (.inl rfl)))) (by rw[<- z];exact fq);have Ph:pq≠pl:=fun z=>pz.lT pl (aL.mpr (.inl rfl)) (by rw[<- z];exact fq);have Pj:=pz.nd;unfold cC at Pj;rw[zam,zam,zam] at Pj;obtain⟨SQ,XX,_,_⟩:=Pj;have m1:pl≠p:=fun z=>SQ (by rw[z];simp);have m2:sc≠p:=fun z=>XX (by rw[z];simp);have m3:sc≠pl:=fun z=>SQ (by rw[z];simp);have PO:=(pz.RI ((FA.up SO).sub fun a h=>(Mt h).imp .inl id) ((FB.up SO).sub fun a h=>(Mt h).imp .inl id) oc oa ob lo3 sx fb0 fb1 n01 (((((bc.of sb).trans sW).trans (.of ((tZ.trans By).trans yj))).same f4).free Ju) (KZ _ _ n0s y0) (KZ _ _ n1s y1) Qc)
    refine⟨p,vs,_,rfl,rfl,C1.hp,by lia,(SI _ _).mpr (aw fun W6 SR=>?_)⟩;clear SI;have z1:(upd yQ p (.lst (vs++[V.ref FQ]))) pl=_:=(aD m1).trans Jv;have z2:(upd yQ p (.lst (vs++[V.ref FQ]))) sc=_:=(aD m2).trans Jw;have z3:(upd yQ p (.lst (vs++[V.ref FQ]))) pq=_:=(aD XW).trans Pg;walk_at "rd";generalize upd yQ p (.lst (vs++[V.ref FQ]))=CU at *;refine⟨.inl ⟨rfl,_,.of z1⟩,cx (.of z3) (v:=.ref b0) (aC (j:=0) rfl) ⟨pl,_,_,rfl,rfl,z1,by rw[rev_last,Lg];lia,(SR _ _).mpr ?_⟩⟩;clear SR;have x2:(upd CU pl (.lst ((p::ps).reverse.map V.ref++[V.ref b0]))) sc=_:=(aD m3).trans z2;have x3:(upd CU pl (.lst ((p::ps).reverse.map V.ref++[V.ref b0]))) pq=_:=(aD Ph).trans z3;walk_at "rd";generalize upd CU pl (.lst ((p::ps).reverse.map V.ref++[V.ref b0]))=Qd at *;refine⟨.inl ⟨rfl,_,.of x2⟩,fun XY Pk=>?_⟩;have SS:=aq.new Pk (.lst [V.bI]);refine⟨pq,XY,_,_,rfl,rfl,SS _ _ x3,ai,by simp only[zai,zaz];lia,fun p18 Pl=>?_⟩;have SU:=SS.trans (aq.new Pl (.lst ([V.ref b0,V.ref b1]++[V.bI])));refine cx (.of ai) (v:=.ref b1) (aC (j:=1) rfl) ⟨sc,_,_,rfl,rfl,SU _ _ x2,by rw[zcc,es];lia,fin _ _ _ _ _ _ _ _ _ _ (PO.same (AI SU)) (by rw[<- XT];exact SE.trans (Ia q5 ⟨by simpa using e,by lia⟩ q6 q7 q9 JT ea eb ek))⟩
   ·rw[show (decide ((zac "while":Str)=zac "if"))=false by decide +kernel];refine⟨_,rfl,_,rfl,pb,_,rfl,.of yb,fun pq JU=>(Up _ _).mpr ?_⟩;clear Up;rw[show kA [V.ref b0,V.ref b1] none (some (1+if false=true then 1 else 0))=[V.ref b0] by rfl];have eq5:=aq.new JU (.lst [V.ref b0]);have yq:(upd Hb pq (.lst [V.ref b0])) pq=_:=ai;have SH:=JJ.ne JU;have fq:Hx pq=none:=sb.free JU;replace JJ:=JJ.same eq5;replace sb:=sb.trans eq5;replace yy:=eq5 _ _ yy;replace y0:=eq5 _ _ y0;replace y1:=eq5 _ _ y1;replace FA:=FA.up (.of eq5);replace FB:=FB.up (.of eq5);generalize upd Hb pq (.lst [V.ref b0])=Hq at *;refine aw fun W5 SI=>?_;walk_at "rd";have SJ:=pz.same sb;have Jt:=SJ.oO;rw[rev_last] at Jt;refine⟨1,rfl,cx (.of Jt) (mr _ _) ⟨.inl ⟨rfl,_,.of SJ.hp⟩,s0,2,_,rfl,JJ,by decide,by decide,fun yv zF Bc JT XE XF sW LZ=>?_⟩⟩;obtain⟨c,ec,XT,oc⟩:∃c:Nat,xc (zac "<=").cps.toList yv=some c/\Mw yv=[c]/\[c]∈PG.Mh:=by
     obtain rfl |rfl:yv=0\/yv=1:=by lia
     ·exact⟨60,by decide +kernel,rfl,by decide⟩
     ·exact⟨61,by decide +kernel,rfl,by decide⟩
    refine⟨_,_,c,rfl,rfl,by decide +kernel,ec,?_⟩;intro SK Pb;generalize Pc:upd Bc SK _=MI;have tZ:=gL Pc Pb;have XU:=PN Pc;clear Pc;refine⟨SK,p8,_,_,rfl,rfl,XU,tZ _ _ (sW _ _ n8 yy),by simp only[zai,zaz];lia,fun SM Jg=>?_⟩;generalize Pd:upd MI SM _=Lz;have By:=gL Pd Jg;have JS:=PN Pd;clear Pd;refine⟨SM,pq,_,_,rfl,rfl,JS,By _ _ (tZ _ _ (sW _ _ SH yq)),by simp only[zau,zai,zaz];lia,fun SN CT=>?_⟩;generalize Pe:upd Lz SN _=Qb;have yj:=gL Pe CT;have Qo:=PN Pe;clear Pe;refine⟨SN,_,rfl,.inl ⟨.of Qo,fun FQ Ju=>?_⟩⟩;generalize Pf:upd Qb FQ _=yQ;have LA:=gT Pf Ju;have Qc:yQ FQ=some (.tup ([V.str (zac "while"),V.int (bs.length+i+1),V.str (S [c])]++[va,vb]++[V.ref b0])):=by rw[<- Pf];exact ai
    clear Pf;have Bi:=((tZ.trans By).trans yj).trans LA;have KZ:∀b x,b≠s0->Hq b=some x->yQ b=some x:=fun b x n e=>Bi _ _ (sW b x n e);have sx:aq Hx yQ:=fun b x e=>KZ b x (fun z=>by rw[z,f4] at e;cases e) (sb b x e);have SO:a0 (fun a=>(a∈cC pl sc p ps (v0::zH)\/a=s0)\/a=b0\/a=b1) Hq yQ:=(a0.one sW (.inl (.inr rfl))).trans (.of Bi);have C1:=pz.same sx;have Jv:=C1.oO;have Jw:=C1.Ct;have Pg:=KZ _ _ SH yq;have XW:pq≠p:=fun z=>pz.lT p (aL.mpr (.inr (.inr (.inl rfl)))) (by rw[<- z];exact fq);have Ph:pq≠pl:=fun z=>pz.lT pl (aL.mpr (.inl rfl)) (by rw[<- z];exact fq);have Pj:=pz.nd;unfold cC at Pj;rw[zam,zam,zam] at Pj;obtain⟨SQ,XX,_,_⟩:=Pj;have m1:pl≠p:=fun z=>SQ (by rw[z];simp);have m2:sc≠p:=fun z=>XX (by rw[z];simp);have m3:sc≠pl:=fun z=>SQ (by rw[z];simp);have PO:=(pz.RH ((FA.up SO).sub fun a h=>(Ms h).imp .inl .inl) ((FB.up SO).sub fun a h=>(Ms h).imp .inl .inl) oc oa ob lo3 sx fb0 (((((bc.of sb).trans sW).trans (.of ((tZ.trans By).trans yj))).same f4).free Ju) (KZ _ _ n0s y0) Qc)
    refine⟨p,vs,_,rfl,rfl,C1.hp,by lia,(SI _ _).mpr (aw fun W6 SR=>?_)⟩;clear SI;have z1:(upd yQ p (.lst (vs++[V.ref FQ]))) pl=_:=(aD m1).trans Jv;have z2:(upd yQ p (.lst (vs++[V.ref FQ]))) sc=_:=(aD m2).trans Jw;have z3:(upd yQ p (.lst (vs++[V.ref FQ]))) pq=_:=(aD XW).trans Pg;walk_at "rd";generalize upd yQ p (.lst (vs++[V.ref FQ]))=CU at *;refine⟨.inl ⟨rfl,_,.of z1⟩,cx (.of z3) (v:=.ref b0) (aC (j:=0) rfl) ⟨pl,_,_,rfl,rfl,z1,by rw[rev_last,Lg];lia,(SR _ _).mpr ?_⟩⟩;clear SR;have x2:(upd CU pl (.lst ((p::ps).reverse.map V.ref++[V.ref b0]))) sc=_:=(aD m3).trans z2;have x3:(upd CU pl (.lst ((p::ps).reverse.map V.ref++[V.ref b0]))) pq=_:=(aD Ph).trans z3;walk_at "rd";generalize upd CU pl (.lst ((p::ps).reverse.map V.ref++[V.ref b0]))=Qd at *;refine⟨.inl ⟨rfl,_,.of x2⟩,fun XY Pk=>?_⟩;have SS:=aq.new Pk (.lst [V.bI]);refine⟨pq,XY,_,_,rfl,rfl,SS _ _ x3,ai,by simp only[zai,zaz];lia,fun p18 Pl=>?_⟩;have SU:=SS.trans (aq.new Pl (.lst ([V.ref b0]++[V.bI])));refine cx (.of ai) (v:=.bI) (aC (j:=1) rfl) ⟨sc,_,_,rfl,rfl,SU _ _ x2,by rw[zcc,es];lia,fin _ _ _ _ _ _ _ _ _ _ (PO.same (AI SU)) (by rw[<- XT];exact SE.trans (Fq q5 ⟨by simpa using e,by lia⟩ q6 q7 q9 JT ea eb ek))⟩
  walk_at "rd";refine⟨s0,2,_,rfl,LX,by decide,by decide,fun x9 z9 H9 q9 a9 b9 u9 Uo=>⟨rfl,eC (fun e9=>?_) (fun e9=>?_)⟩⟩
  ·have y9:=u9 _ _ n8 y8;refine⟨.inl ⟨rfl,_,.of y9⟩,p8,_,rfl,rfl,y9,?_⟩;have XZ:aq Hx (upd H9 p8 (.lst [v6,v7].reverse)):=fun b x e=>by
    have e8':=s8 b x e;have nb:b≠s0:=fun z=>by rw[z,f4] at e;cases e
    have nb8:b≠p8:=fun z=>by
     have:=s5 b x e;rw[z] at this;exact(XS.lT LW.nn) _ (by rw[this];simp) FZ
    rw[aD nb8];exact u9 b x nb e8'
   have X0:qZ (upd H9 p8 (.lst [v6,v7].reverse)) s0 z9:=by
    show upd _ p8 _ s0=_;rw[aD n8.symm];exact Uo
   have SV:a0 (fun a=>(a∈cC pl sc p ps (v0::zH)\/a=s0)\/a=p8) H8 (upd H9 p8 (.lst [v6,v7].reverse)):=(a0.one u9 (.inl (.inr rfl))).put (.inr rfl) _;exact main _ v7 v6 t7 t6 x9 z9 q9 (if_pos (by simpa using e9)) (if_pos (by simpa using e9)) XZ X0 ai ((F7.up SV).sub fun a h=>.inl h) ((F6.up SV).sub fun a h=>.inl h) o7 ⟨o6,zax d6 (by decide)⟩
  ·have XZ:aq Hx H9:=fun b x e=>u9 b x (fun z=>by rw[z,f4] at e;cases e) (s8 b x e);have SV:a0 (fun a=>(a∈cC pl sc p ps (v0::zH)\/a=s0)\/a=p8) H8 H9:=a0.one u9 (.inl (.inr rfl));exact main _ v6 v7 t6 t7 x9 z9 q9 (if_neg (by simpa using e9)) (if_neg (by simpa using e9)) XZ Uo (u9 _ _ n8 y8) ((F6.up SV).sub fun a h=>.inl h) ((F7.up SV).sub fun a h=>.inl h) ⟨o6,zax d6 (by decide)⟩ o7
 ·obtain⟨z6,z7,z8,z9,zF,Js,o,cur,p,ps,ss,vs,rfl,pz,ez⟩:=(CY _ _ _).mp hv;refine(wu _ _).mpr ?_;walk_at "rd";have zk:=pz.zk;exact q R _ Hx (by unfold Mx;rw[show min ns.length 26-1=n by rw[<- hn,zad];split<;>lia,ez]) pz.sm hR pz.close ⟨zk.ok,zk.rise,fun x hx=>⟨(zk.rows x hx).1,by have:=(zk.rows x hx).2;lia⟩,zk.dep,by lia⟩
theorem Jx{pr:PG.Prog}{ms:List (Int×List PG.Rg)}(h:yE pr ms)(r:kJ ms):ms.length<=(PG.aE pr.body).length+1:=by
 have:=PG.qX (ms.map (·.1)) (0::(PG.aE pr.body).map (·.row)) (tW r) fun x hx=>by
  obtain⟨e,he,rfl⟩:=zaJ.mp hx;rcases(h.mf e he).2 with z |⟨s,hs,e2⟩
  ·rw[z];simp
  ·exact zae _ (zaJ.mpr ⟨s,hs,e2⟩)
 simpa using this
theorem Jy{pr:PG.Prog}{ms:List (Int×List PG.Rg)}(h:yE pr ms):0<ms.length:=by
 obtain⟨u,e,_⟩:=h.Ot.first;exact zbY (get_mem e)
theorem Pn(T:Tx K mg t):bM P w K mg base fZ 30 t.D0 t.rE ["script"] (Dw K):=by
 have aV:=fz (P:=P) (w:=w) (K:=K) (base:=base) T;have gR:=ko (P:=P) (w:=w) (K:=K) (base:=base) T;have qE:=wF (P:=P) (w:=w) (K:=K) (base:=base) T;have sI:=yY (P:=P) (w:=w) (K:=K) (base:=base) T;have m9:=sV (P:=P) (w:=w) (base:=base) T;have ng:=sX (P:=P) (w:=w) (base:=base) T;have zc:=wB (P:=P) (w:=w) (base:=base) T;have qF:=wD (P:=P) (w:=w) (base:=base) T;have sJ:=yX (P:=P) (w:=w) (base:=base) T;refine T.Ea.F.kZ I0 (fun vs H Q E h=>?_) (fun eA A outer s H vs Q E hr h=>?_)
 ·obtain⟨_,_,rfl,_⟩:=h;rfl
 obtain⟨a,ns,rfl,hS,SW,q⟩:=h;have nd:=I0.nd;have hu:=i8 hr;have line:zdR=2 ^ 24:=rfl;refine⟨_,[some (V.ref a),none,none,none,none,none,none,none],(ao (aP (i:=1) nd rfl (zap rfl) (aA qE (hr.mono (by first|decide|omega)) rfl T.cN.m T.cN.F.kp T.cN.b .nil aN (aa (pv 0) ah ae)))
 (ao (aP (i:=2) nd rfl (zap rfl) (bf (aa (pv 1) (aa (aA sI (hr.mono (by first|decide|omega)) rfl T.dv.m T.dv.F.kp T.dv.b .nil aN (aa (pv 0) (aa (pv 1) ah ae) ae)) ah aT) ae)))
 (ao (aP (i:=3) nd rfl (zap rfl) (bf (aa (aA qE (hr.mono (by first|decide|omega)) rfl T.cN.m T.cN.F.kp T.cN.b .nil aN (aa (pv 0) ah ae)) (aa (aA sI (hr.mono (by first|decide|omega)) rfl T.dv.m T.dv.F.kp T.dv.b .nil aN (aa (pv 0) (aa (pv 1) ah ae) ae)) ah aT) aT)))
 (ao (aP (i:=4) nd rfl (zap rfl) (aA zc (hr.mono (by first|decide|omega)) rfl T.fw.m T.fw.F.kp T.fw.b .nil aN (aa (pv 3) ah ae)))
 (ao (aP (i:=5) nd rfl (zap rfl) (aA m9 (hr.mono (by first|decide|omega)) rfl T.bY.m T.bY.F.kp T.bY.b .nil aN (aa (pv 2) ah ae)))
 (ao (bB (PW.pt (pw_or (ua (gY (bh GH rfl T.lM PyProof.Rows.Boot.«isinstance» (aa (pv 5) (aa (J0 (v:=.ty "list") rfl T.vC PyProof.Rows.Boot.«list» rfl) ah ae) ae)))) (pw_or (aM (yh (B3 hr)) (pv 5) (pv 4) (aS _)) (pw_or1 (aM (Lw (B3 hr)) (pv 2) (pv 3) (aS _))))))
 (au (aH jw))
 aW)
 (ao (bB (PW.pt (pw_or (aM DV (aA ng (hr.mono (by first|decide|omega)) rfl T.bZ.m T.bZ.F.kp T.bZ.b .nil aN (aa (pv 2) (aa (bL pK rfl T.vC PyProof.Rows.Boot.«list» (aa (pv 5) ah ae)) ah aT) ae)) jw (aS _)) (pw_or1 (ua (gY (aA qF (hr.mono (by first|decide|omega)) rfl T.cO.m T.cO.F.kp T.cO.b .nil aN (aa (pv 2) (aa (pv 5) ah ae) ae)))))))
 (au (aH jw))
 aW)
 (ao (aP (i:=6) nd rfl (zap rfl) (aA aV (hr.mono (by first|decide|omega)) rfl T.ar.m T.ar.F.kp T.ar.b .nil aN (aa (aA gR (hr.mono (by first|decide|omega)) rfl T.bS.m T.bS.F.kp T.bS.b .nil aN (aa (pv 0) (aa ak ah aZ) ae)) (aa (bh cA rfl T.l7 PyProof.Rows.Boot.«len» (aa (pv 4) ah ae)) ah aT) aT)))
 (ao (eI PassesOwn.never rfl (bT (bC j9 (aA sJ (hr.mono (by first|decide|omega)) rfl T.dy.m T.dy.F.kp T.dy.b .nil aN (aa (pv 4) (aa (pv 6) ah ae) ae)) (aA sJ (hr.mono (by first|decide|omega)) rfl T.dy.m T.dy.F.kp T.dy.b .nil aN (aa (pv 4) (aa (bC oM (bh cA rfl T.l7 PyProof.Rows.Boot.«len» (aa (pv 4) ah ae)) ak) ah dA) ae)))) (aX (i:=7) nd rfl (zap rfl))
 (au (bB (PW.pt (pw_or (aM DV (aA ng (hr.mono (by first|decide|omega)) rfl T.bZ.m T.bZ.F.kp T.bZ.b .nil aN (aa (pv 2) (aa (bL pK rfl T.vC PyProof.Rows.Boot.«list» (aa (pv 7) ah ae)) ah aT) ae)) jw (aS _)) (pw_or1 (gY (aA qF (hr.mono (by first|decide|omega)) rfl T.cO.m T.cO.F.kp T.cO.b .nil aN (aa (pv 2) (aa (pv 7) ah ae) ae))))))
 (au (aH jw))
 aW)))
 (ao (dF (kB zaA zaO zaP c6 (pv 5) (aa (bf (aa ak (aa (bf ah) ah iX) aZ)) ah iX)))
 (au (aH (Bz (gm (NU (B3 hr)) (aA m9 (hr.mono (by first|decide|omega)) rfl T.bY.m T.bY.F.kp T.bY.b .nil aN (aa (pv 2) ah ae)) (pv 4) (aS _)) (xN (gm (Lc (B3 hr)) (pv 2) (pv 3) (aS _)))))))))))))))),rfl,?_⟩
 refine aw fun U1 gf=>?_;walk_at "rd";refine⟨a,ns,rfl,hS,SW,fun B bs H1 ebs s1 hB rB bk=>(gf _ _).mpr (aw fun U2 jv=>?_)⟩;clear gf;have Jz:=bk.gc;walk_at "rd";refine⟨a,B,ns,bs,rfl,s1.seq hS,SW,rB,Jz,fun R body H2 ebd s2 hR rR zk pp hpp=>(jv _ _).mpr (aw fun U3 jT=>?_)⟩;clear jv;have e3:=aq.new hpp (.tup [V.ref B,V.ref R]);have y3:(upd H2 pp (.tup [V.ref B,V.ref R])) pp=_:=ai;have X1:=(rB.mono s2).mono e3;have rp:Rep K (upd H2 pp (.tup [V.ref B,V.ref R])) (hX ⟨bs,body⟩) (.ref pp):=Rep.bj.mpr ⟨pp,_,rfl,.of y3,.cons X1 (.cons (rR.mono e3) .nil)⟩;have s3:=s1.trans (s2.trans e3);generalize upd H2 pp (.tup [V.ref B,V.ref R])=H3 at *;walk_at "rd";refine⟨a,ns,rfl,s3.seq hS,SW,fun B2 F4 H4 SX s4 Xz rB2 bk2=>?_⟩;refine⟨a,B,ns,bs,rfl,(s3.trans s4).seq hS,SW,X1.mono s4,Jz,fun R2 iV H5 SY s5 ZA rR2 zk2 tw htw=>(jT _ _).mpr (aw fun U4 lO=>?_)⟩;clear jT;have e6:=aq.new htw (.tup [V.ref B2,V.ref R2]);have y6:(upd H5 tw (.tup [V.ref B2,V.ref R2])) tw=_:=ai;have eb2:F4=bs:=SX.trans ebs.symm;have ed2:iV=body:=SY.trans ebd.symm;subst eb2 ed2;have rt:Rep K (upd H5 tw (.tup [V.ref B2,V.ref R2])) (hX ⟨F4,iV⟩) (.ref tw):=Rep.bj.mpr ⟨tw,_,rfl,.of y6,.cons ((rB2.mono s5).mono e6) (.cons (rR2.mono e6) .nil)⟩;have X2:=s4.trans (s5.trans e6);have s6:=s3.trans X2;have rp6:=rp.mono X2;generalize upd H5 tw (.tup [V.ref B2,V.ref R2])=H6 at *;have rise:(PG.aE iV).Pairwise (fun a b=>a.row<b.row):=zaL.mp zk.rise;have O3:(PG.aE iV).length<=25:=by
  have:=PG.vi zk.rise zk.rows;unfold PG.cI at this;rw[zad] at this;lia
 have Zc:(PG.fC iV).length=(PG.aE iV).length:=by rw[<- PG.fe,zad]
 have ok:E6 ⟨F4,iV⟩:=⟨rise,bk.nb,by show F4.length<=10;lia,fun st Df=>by
  have:=(zk.rows st.row (zaJ.mpr ⟨st,Df,rfl⟩)).1;lia⟩
 have dr:KO ⟨F4,iV⟩:=⟨ok,zk.dep,by show (PG.fC iV).length<=1000;lia,zk.ok,bk.size⟩
 have sd:Lj ⟨F4,iV⟩:=⟨dr,Jz,by show (PG.aE iV).length<=40;lia⟩
 have aaq:(PG.aE (PG.Prog.mk F4 iV).body).length<=25:=O3;have ady:(PG.Prog.mk F4 iV).ay.length<=4:=Jz;have deep:=Ld dr;rw[show (Dp.tup [.lst ((PG.Prog.mk F4 iV).ay.map jz),.lst ((PG.Prog.mk F4 iV).body.map eF)])=hX ⟨F4,iV⟩ from rfl] at deep;clear rise zk bk zk2 bk2 e3 e6 rB rR rp rB2 rR2 X1 O3 Zc Jz ebs SX ebd SY s1 s2 s4 s5 hB Xz hR ZA hpp htw y3 y6 s3 X2;generalize PG.Prog.mk F4 iV=pr at *;obtain⟨dl,edl⟩:∃dl,hX pr=.tup dl:=⟨_,rfl⟩
 walk_at "rd";refine⟨.ref tw,pr,rfl,rt,sd,fun LD us ms H7 s7 nLD F3 wo rise mn=>(lO _ _).mpr (aw fun U5 wu=>?_)⟩;clear lO;walk_at "rd";refine⟨.ref pp,pr,rfl,rp6.mono s7,sd,fun LF Aq FR H8 s8 Sb Uq X3 S0 mn2=>(wu _ _).mpr (aw fun U6 Jd=>?_)⟩;clear wu;have MS:FR=ms:=mn2.eq mn S0 rise;subst MS;have adA:=s8 _ _ F3;have JR:=wo.map fun v w h=>h.mono s8;have gc:=Jx mn rise;have pos:=Jy mn;have wt:=wo.len;have adB:=X3.len;have rt7:=rt.mono s7;have Qq:=rp6.mono s7;have rD:∀ {H':Hp},aq H7 H'->Rep K H' (.lst (FR.map Fg)) (.ref LD):=fun s'=>Rep.bq.mpr ⟨LD,us,rfl,.of (s' _ _ F3),(wo.map fun v w h=>h.mono s').rep⟩;have Ur:∀ {H':Hp},aq H7 H'->Rep K H' (.tup dl) (.ref pp)/\Rep K H' (.tup dl) (.ref tw):=fun {H'} s'=>by rw[<- edl];exact⟨Qq.mono s',rt7.mono s'⟩
 rw[edl] at deep;walk_at "rd";refine⟨.ref LF, "list",_,true,rfl,.lst Uq,by kernel_rfl,(if_neg (by decide)).mpr ?_⟩;refine⟨_,_,Rep.bq.mpr ⟨LF,Aq,rfl,.of Uq,X3.rep⟩,rD s8,DI _,DI _,?_⟩;rw[eqv_refl];refine⟨_,rfl,(if_neg (by decide)).mpr ⟨dl,(Ur s8).1,(Ur s8).2,deep,(if_neg (by decide)).mpr ((Jd _ _).mpr (aw fun U7 RY=>?_))⟩⟩;clear Jd;walk_at "rd";refine⟨LF,Aq,rfl,.inl (.of Uq),fun c1 TJ=>?_⟩;have s9:=aq.new TJ (.lst Aq);have y9:(upd H8 c1 (.lst Aq)) c1=_:=ai;have S5:=X3.map fun v w h=>h.mono s9;have s79:=s8.trans s9;have X4:=s9 _ _ Uq;generalize upd H8 c1 (.lst Aq)=H9 at *;refine⟨.ref pp,c1,pr,Aq,FR,rfl,Qq.mono s79,sd,.of y9,S5,rise,mn.mf,by lia,fun b Bc wx hb=>?_⟩;rw[hb.mpr mn.Ot];refine⟨_,_,rfl,rfl,?_⟩;have S6:=s79.trans wx;have M3:=wx _ _ X4;refine⟨.ref pp,LF,pr,Aq,FR,rfl,Qq.mono S6,sd,.of M3,S5.map fun v w h=>h.mono wx,rise,mn.mf,by lia,fun b MI tZ hb=>?_⟩;rw[hb.mpr mn.Ot];refine⟨_,rfl,(if_neg (by decide)).mpr ((RY _ _).mpr (aw fun U8 R0=>?_))⟩;clear RY;have Po:=S6.trans tZ;have S7:=tZ _ _ M3;have X5:=s6.trans (s7.trans Po);have s8b:=(s9.trans wx).trans tZ;walk_at "rd";refine⟨a,ns,26,rfl,X5.seq hS,SW,by decide,fun OZ Lz By f12 X6=>⟨LD,us,rfl,.inl (.of ((Po.trans By) _ _ F3)),OZ,_,_,rfl,X6,by lia,by lia,fun x z' Qb _ x0 x1 Jh _=>(R0 _ _).mpr (aw fun U9 R3=>?_)⟩⟩;clear R0;have M4:aq MI Qb:=((bc.of By).trans Jh).same f12;have Pp:=Po.trans M4;have S8:=M4 _ _ S7;obtain⟨k1,rfl⟩:=Int.eq_ofNat_of_zero_le x0;have hk1:k1<FR.length:=by lia
 have Bw:∀e∈FR,e.2.length<=10:=fun e he=>by have:=(mn.mf e he).1.bd.1;lia
 refine eL fun U hU=>?_;walk_at "rd";refine⟨LD,us,FR,k1,rfl,.of (Pp _ _ F3),wo.map fun v w h=>h.mono Pp,by lia,hk1,Bw,fun L1 M5 yQ LA nL1 yL1 ll1 S9=>?_⟩;have L5:=Pp.trans LA;refine⟨LD,us,rfl,.inl (.of (L5 _ _ F3)),?_⟩;refine⟨LD,us,FR,FR.length-1,by rw[wt,show ((FR.length:Int)-1)=((FR.length-1:Nat):Int) by lia],.of (L5 _ _ F3),wo.map fun v w h=>h.mono L5,by lia,by lia,Bw,fun L2 M6 CU MJ nL2 yL2 ll2 Ta=>?_⟩;have X7:=L5.trans MJ;refine⟨L1,L2,M5,M6,rfl,rfl,MJ _ _ yL1,yL2,by lia,fun L3 hL3=>?_⟩;have MK:=aq.new hL3 (.lst (M5++M6));have y16:(upd CU L3 (.lst (M5++M6))) L3=_:=ai;have Qm:∀v∈M5++M6,∃c C2 m,v=.ref c/\(upd CU L3 (.lst (M5++M6))) c=some (.lst C2)/\c5 K (upd CU L3 (.lst (M5++M6))) C2 m/\kJ m/\(∀e∈m,fE pr.ay e.2/\Bu pr e.1)/\¬Fx pr m/\m.length<=FR.length:=fun v hv=>by
  rcases zak.mp hv with hv |hv
  ·obtain⟨m,h1,h2⟩:=S9 v hv;obtain⟨c,C2,rfl,_,h3,h4⟩:=h1.mono (MJ.trans MK);exact⟨c,C2,m,rfl,h3,h4,DY mn rise hk1 h2⟩
  ·obtain⟨m,h1,h2⟩:=Ta v hv;obtain⟨c,C2,rfl,_,h3,h4⟩:=h1.mono MK;exact⟨c,C2,m,rfl,h3,h4,DY mn rise (by lia) h2⟩
 have Pq:=X7.trans MK;have Tb:=((LA.trans MJ).trans MK) _ _ S8;generalize upd CU L3 (.lst (M5++M6))=Qd at *;refine⟨L3,rfl,⟨_,.of y16⟩,hU _ _ ?_⟩;clear hU S9 Ta yL1 yL2 nL1 nL2 MK hL3;obtain⟨Pv,jP⟩:∃Pv:Nat->St->Hp->Prop,∀i σ Hx,Pv i σ Hx↔∃(z7:Option V),σ=[some (.ref a),some (.ref B),some (.ref pp),some (.ref tw),some (.ref LD),some (.ref LF),some (.int k1),z7]/\aq Qd Hx:=⟨_,fun _ _ _=>Iff.rfl⟩
 refine eJ (K:=K) (a:=L3) (xs:=M5++M6) Pv ((jP _ _ _).mpr ⟨_,rfl,aq.refl _⟩) ?_ ?_ ?_
 ·intro i σ Hx hi hv;obtain⟨_,_,h⟩:=(jP _ _ _).mp hv;exact .of (h _ _ y16)
 ·intro i v σ Hx hx hv;obtain⟨z7,rfl,sx⟩:=(jP _ _ _).mp hv;clear hv;obtain⟨c,C2,m,rfl,yc,w9,r9,i9,n9,l9⟩:=Qm v (zav hx);simp only[eG,zbA];walk_at "rd";refine⟨c,C2,rfl,.inl (.of (sx _ _ yc)),fun c2 NC=>?_⟩;have t1:=aq.new NC (.lst C2);have v1:(upd Hx c2 (.lst C2)) c2=_:=ai;have MR:=sx.trans t1;generalize upd Hx c2 (.lst C2)=G1 at *;refine⟨.ref pp,c2,pr,C2,m,rfl,Qq.mono (Pq.trans MR),sd,.of v1,w9.map fun v w h=>h.mono MR,r9,i9,by lia,fun b G2 t2 hb=>?_⟩;have eb:b=false:=by cases b with
   |false=>rfl
   |true=>exact absurd (hb.mp rfl) n9
  subst eb;refine⟨_,_,rfl,rfl,?_⟩;have Us:=MR.trans t2;refine⟨.ref pp,c,pr,C2,m,rfl,Qq.mono (Pq.trans Us),sd,.of (Us _ _ yc),w9.map fun v w h=>h.mono Us,r9,i9,by lia,fun b G3 t3 hb=>?_⟩;have eb:b=false:=by cases b with
   |false=>rfl
   |true=>exact absurd (hb.mp rfl) n9
  subst eb;refine⟨_,rfl,(if_neg (by decide)).mpr ?_⟩;exact(jP _ _ _).mpr ⟨_,rfl,Us.trans t3⟩
 ·intro σ Hx hv;obtain⟨z7,rfl,sx⟩:=(jP _ _ _).mp hv;refine(R3 _ _).mpr (aw fun U10 Tc=>?_);clear R3;have Td:=sx _ _ Tb;have s7x:=Pq.trans sx;walk_at "rd";refine⟨.inl ⟨rfl,_,.of Td⟩,fun e1 he1 e2 B5=>?_⟩;have t12:=(aq.new he1 (.tup [])).trans (aq.new B5 (.tup [V.int 99,V.ref e1]));have X8:=t12 _ _ Td;generalize upd (upd Hx e1 (.tup [])) e2 (.tup [V.int 99,V.ref e1])=G5 at *;refine⟨LF,_,_,rfl,rfl,X8,by lia,(Tc _ _).mpr ?_⟩;clear Tc;have s7e:aq H7 (upd G5 LF (.lst (Aq++[V.ref e2]))):=((bc.of (s7x.trans t12)).put _).same Sb;generalize upd G5 LF (.lst (Aq++[V.ref e2]))=G6 at *;walk_at "rd";refine⟨.ref pp,pr,rfl,Qq.mono s7e,sd,fun L9 C2 ms9 G7 t7 _ y9 w9 Te mn9=>?_⟩;have MS:ms9=FR:=mn9.eq mn Te rise;subst MS;have X9:=s7e.trans t7;refine⟨_,_,Rep.bq.mpr ⟨L9,C2,rfl,.of y9,w9.rep⟩,rD X9,DI _,DI _,?_⟩;rw[eqv_refl];exact⟨true,rfl,(if_pos rfl).mpr ⟨dl,(Ur X9).1,(Ur X9).2,deep,q _⟩⟩
end
end IY
end
section
set_option maxHeartbeats 4000000
namespace IY
open PySem L2
section
variable{P:zdV}{w:zdL}{K:zab}{mg:Str->Option zdK}{base:Heap}
theorem all_mk{l:PySem.W.OpenLaw}{h:Heap}{fa:zdJ}(X:K.In h)(G:h.Ns zdQ mg)(hfa:mg "law"=some (.ref fa))
 {rC cW dJ dW jq eQ cg kN jK jL iP eR eS fV kO fO gF dG dR fP dS dH cJ eT kP jM gH iQ gJ gK iR mW gM iS gN gO iT D0:zdJ}
 {aR:zdJ}
 {cL:zdJ} {wH oE:Option zdJ} {wI:Array (Option zdK)} {wJ oF oG oH kx oJ:zdK}
 {Tf:_}
 (Pr:FH K "flow" CO rC)
 (vL:FH K "flow_of_body" jF cW)
 (Bj:FH K "first_row" mM dJ)
 (wK:FH K "behind_body" kb dW)
 (FT:FH K "ways_of" rh jq)
 (Bk:FH K "bodies_in" mN eQ)
 (sY:FH K "statements_in" iZ cg)
 (FU:FH K "word_at" rj kN)
 (C3:FH K "by_names" pd jK)
 (C4:FH K "in_order" pe jL)
 (Bl:FH K "ways_from" mO iP)
 (vM:FH K "least_ranges" jG eR)
 (vN:FH K "right_ranges" jH eS)
 (C5:FH K "range_by" pf fV)
 (FV:FH K "ways_by" rq kO)
 (wL:FH K "whole_range" ke fO)
 (zd:FH K "rest_range" lA gF)
 (rM:FH K "condition_ways" ik dG)
 (sZ:FH K "ranges_behind" i5 dR)
 (wM:FH K "may_be_gone" kg fP)
 (tf:FH K "narrowed_left" i6 dS)
 (rN:FH K "narrowed_right" ip dH)
 (nT:FH K "narrowed_by_equal" fH cJ)
 (vO:FH K "first_ranges" jI eT)
 (FW:FH K "spanned" rA kP)
 (C6:FH K "is_right" ph jM)
 (ze:FH K "leads_into" lC gH)
 (Bm:FH K "_law_take" mP iQ)
 (zf:FH K "_law_state" lD gJ)
 (zg:FH K "_law_boxes" lE gK)
 (Bn:FH K "_law_leaf" mQ iR)
 (JA:FH K "_law_e" vw mW)
 (zh:FH K "_law_plain" lF gM)
 (Bo:FH K "_law_body" mR iS)
 (zj:FH K "_law_least" lG gN)
 (zl:FH K "_law_right" lH gO)
 (Bp:FH K "_law_less" mS iT)
 (M7:FH K "law" IZ D0)
 (L6:zaS K zdQ "Chart"=some (some (.ref aR)))
 (JB:zct K aR Str.empty=true)
 (JC:zcm K aR=true)
 (JD:zcY K aR=true)
 (JE:zaW K (.ref aR) "__setattr__"=some (some (.builtin "object.__setattr__")))
 (zm:zaW K (.ref aR) "__init__"=some (some (.ref cL)))
 (zp:K.lookup cL=some ⟨wJ,wH,.func (zbD "__init__" "Chart.__init__" (jU cK) (iu cK) (aI cK) .none oF oG oH oE kx oJ),wI⟩)
 (zr:zci K kx "Chart.__init__"=true)
 (zt:zbR K (.ref cL)=true)
 (zu:PySem.W.isFn K (.ref cL)=true)
 (mX:zdg K aR=true)
 (JF:zbR K (.ref aR)=true)
 (eU:zaW K (.ref aR) "names"=some none)
 (eV:zaW K (.ref aR) "sizes"=some none)
 (cY:zaW K (.ref aR) "first"=some none)
 (cb:zaW K (.ref aR) "statements"=some none)
 (fQ:zaW K (.ref aR) "ways"=some none)
 (Tg:zaS K zdQ "END"=some (some (.int 0 Tf)))
 (l7:zaS K zdQ "len"=some none)
 (yO:zaS K zdQ "range"=some none)
 (Eb:zaS K zdQ "int"=some none)
 (mY:zaS K zdQ "dict"=some none)
 (vC:zaS K zdQ "list"=some none)
 (iJ:zaS K zdQ "tuple"=some none)
 (Ec:zaS K zdQ "all"=some none)
 (Ja:zaS K zdQ "any"=some none)
 (qx:zaS K zdQ "max"=some none)
 (oC:zaS K zdQ "min"=some none)
 (lM:zaS K zdQ "isinstance"=some none)
 (j7:zaS K zdQ "enumerate"=some none)
 (sC:zaS K zdQ "zip"=some none)
 (kQ:zaS K zdQ "sorted"=some none)
 (Jb:zaS K zdQ "set"=some none)
 : ∃fd:zdS,(∀(s:zdT) (v:zdK),BindsTo s fd ⟨[v],[]⟩ [("script",v)])/\∀base:Heap,K.In base->base.Ns zdQ mg->bM l.prog w K mg base fZ 30 fa fd ["script"] (Dw K):=by
 have e:=hfa.symm.trans (zcR X G M7.1);cases e;obtain⟨qw,rF⟩:=lV X G Pr (ps:=["program"]) fun _ _ _ _ _ _=>KQ fun _=>rfl;obtain⟨c7,bX⟩:=lV X G vL (ps:=["body", "behind"]) fun _ _ _ _ _ _=>we fun _ _=>rfl;obtain⟨dN,bt⟩:=lV X G Bj (ps:=["body", "behind"]) fun _ _ _ _ _ _=>we fun _ _=>rfl;obtain⟨eP,dX⟩:=lV X G wK (ps:=["statement", "after"]) fun _ _ _ _ _ _=>we fun _ _=>rfl;obtain⟨jJ,jr⟩:=lV X G FT (ps:=["statement", "after"]) fun _ _ _ _ _ _=>we fun _ _=>rfl;obtain⟨fh,dq⟩:=lV X G Bk (ps:=["statement"]) fun _ _ _ _ _ _=>KQ fun _=>rfl;obtain⟨cy,bR⟩:=lV X G sY (ps:=["body"]) fun _ _ _ _ _ _=>KQ fun _=>rfl;obtain⟨lI,jt⟩:=lV X G FU (ps:=["chart", "row"]) fun _ _ _ _ _ _=>we fun _ _=>rfl;obtain⟨j4,dO⟩:=lV X G C3 (ps:=["chart", "parts"]) fun _ _ _ _ _ _=>we fun _ _=>rfl;obtain⟨j5,dP⟩:=lV X G C4 (ps:=["chart", "named"]) fun _ _ _ _ _ _=>we fun _ _=>rfl;obtain⟨jg,du⟩:=lV X G Bl (ps:=["program", "row", "ranges"]) fun _ _ _ _ _ _=>TN fun _ _ _=>rfl;obtain⟨fR,bY⟩:=lV X G vM (ps:=["program"]) fun _ _ _ _ _ _=>KQ fun _=>rfl;obtain⟨fS,bZ⟩:=lV X G vN (ps:=["program", "paper"]) fun _ _ _ _ _ _=>we fun _ _=>rfl;obtain⟨gb,bD⟩:=lV X G C5 (ps:=["e", "named"]) fun _ _ _ _ _ _=>we fun _ _=>rfl;obtain⟨lJ,c8⟩:=lV X G FV (ps:=["chart", "row", "ranges"]) fun _ _ _ _ _ _=>TN fun _ _ _=>rfl;obtain⟨gE,cB⟩:=lV X G wL (ps:=["size"]) fun _ _ _ _ _ _=>KQ fun _=>rfl;obtain⟨iC,fk⟩:=lV X G zd (ps:=["worths", "size"]) fun _ _ _ _ _ _=>we fun _ _=>rfl;obtain⟨d9,cQ⟩:=lV X G rM (ps:=["chart", "row", "ranges"]) fun _ _ _ _ _ _=>TN fun _ _ _=>rfl;obtain⟨fi,c9⟩:=lV X G sZ (ps:=["chart", "row", "truth", "ranges"]) fun _ _ _ _ _ _=>VT fun _ _ _ _=>rfl;obtain⟨gG,dY⟩:=lV X G wM (ps:=["sign", "truth", "left", "right"]) fun _ _ _ _ _ _=>VT fun _ _ _ _=>rfl;obtain⟨fj,da⟩:=lV X G tf (ps:=["sign", "truth", "own", "left", "right"]) fun _ _ _ _ _ _=>Yw fun _ _ _ _ _=>rfl;obtain⟨ef,cR⟩:=lV X G rN (ps:=["sign", "truth", "own", "left", "right"]) fun _ _ _ _ _ _=>Yw fun _ _ _ _ _=>rfl;obtain⟨dh,bA⟩:=lV X G nT (ps:=["truth", "own", "near", "far"]) fun _ _ _ _ _ _=>VT fun _ _ _ _=>rfl;obtain⟨fT,b8⟩:=lV X G vO (ps:=["chart"]) fun _ _ _ _ _ _=>KQ fun _=>rfl;obtain⟨lK,ju⟩:=lV X G FW (ps:=["one", "other"]) fun _ _ _ _ _ _=>we fun _ _=>rfl;obtain⟨j6,iq⟩:=lV X G C6 (ps:=["chart", "paper"]) fun _ _ _ _ _ _=>we fun _ _=>rfl;obtain⟨iD,cM⟩:=lV X G ze (ps:=["by_row", "way"]) fun _ _ _ _ _ _=>we fun _ _=>rfl;obtain⟨jh,ar⟩:=lV X G Bm (ps:=["state", "many"]) fun _ _ _ _ _ _=>we fun _ _=>rfl;obtain⟨iE,bS⟩:=lV X G zf (ps:=["script", "k"]) fun _ _ _ _ _ _=>we fun _ _=>rfl;obtain⟨iF,cN⟩:=lV X G zg (ps:=["script"]) fun _ _ _ _ _ _=>KQ fun _=>rfl;obtain⟨ji,bu⟩:=lV X G Bn (ps:=["state", "boxes"]) fun _ _ _ _ _ _=>we fun _ _=>rfl;obtain⟨nM,cX⟩:=lV X G JA (ps:=["state", "boxes"]) fun _ _ _ _ _ _=>we fun _ _=>rfl;obtain⟨iG,fo⟩:=lV X G zh (ps:=["state", "boxes", "row"]) fun _ _ _ _ _ _=>TN fun _ _ _=>rfl;obtain⟨jj,dv⟩:=lV X G Bo (ps:=["script", "boxes"]) fun _ _ _ _ _ _=>we fun _ _=>rfl;obtain⟨iH,fw⟩:=lV X G zj (ps:=["program"]) fun _ _ _ _ _ _=>KQ fun _=>rfl;obtain⟨iI,cO⟩:=lV X G zl (ps:=["program", "paper"]) fun _ _ _ _ _ _=>we fun _ _=>rfl;obtain⟨jk,dy⟩:=lV X G Bp (ps:=["paper", "k"]) fun _ _ _ _ _ _=>we fun _ _=>rfl;obtain⟨rE,Ea⟩:=lV X G M7 (ps:=["script"]) fun _ _ _ _ _ _=>KQ fun _=>rfl;have jl:=Gw (st:=cK) zp zr zt;have zv:=jl.binds (ps:=["self", "program"]) fun _ _ _ _ _ _=>we fun _ _=>rfl
 let t:Ad:=⟨rC,
  qw,
  cW,
  c7,
  dJ,
  dN,
  dW,
  eP,
  jq,
  jJ,
  eQ,
  fh,
  cg,
  cy,
  kN,
  lI,
  jK,
  j4,
  jL,
  j5,
  iP,
  jg,
  eR,
  fR,
  eS,
  fS,
  fV,
  gb,
  kO,
  lJ,
  fO,
  gE,
  gF,
  iC,
  dG,
  d9,
  dR,
  fi,
  fP,
  gG,
  dS,
  fj,
  dH,
  ef,
  cJ,
  dh,
  eT,
  fT,
  kP,
  lK,
  jM,
  j6,
  gH,
  iD,
  iQ,
  jh,
  gJ,
  iE,
  gK,
  iF,
  iR,
  ji,
  mW,
  nM,
  gM,
  iG,
  iS,
  jj,
  gN,
  iH,
  gO,
  iI,
  iT,
  jk,
  fa,
  rE,
  cL,
  zbD "__init__" "Chart.__init__" (jU cK) (iu cK) (aI cK) .none oF oG oH oE kx oJ,
  aR⟩
 have T:Tx K mg t:=⟨rF,
  bX,
  bt,
  dX,
  jr,
  dq,
  bR,
  jt,
  dO,
  dP,
  du,
  bY,
  bZ,
  bD,
  c8,
  cB,
  fk,
  cQ,
  c9,
  dY,
  da,
  cR,
  bA,
  b8,
  ju,
  iq,
  cM,
  ar,
  bS,
  cN,
  bu,
  cX,
  fo,
  dv,
  fw,
  cO,
  dy,
  Ea,
  jl,
  zv,
  ⟨JB,JC,JD,JE⟩,
  zcR X G L6,
  ⟨mX,zm,zu,JF⟩,
  eU,
  eV,
  cY,
  cb,
  fQ,
  ⟨_,zcR X G Tg,_,rfl⟩,
  zaM X G l7,
  zaM X G yO,
  zaM X G Eb,
  zaM X G mY,
  zaM X G vC,
  zaM X G iJ,
  zaM X G Ec,
  zaM X G Ja,
  zaM X G qx,
  zaM X G oC,
  zaM X G lM,
  zaM X G j7,
  zaM X G sC,
  zaM X G kQ,
  zaM X G Jb⟩
 obtain⟨_,_,_,_,_,_,_,_,_,z,_⟩:=Ea.F.ex;exact⟨t.rE,fun s v=>by rw[show t.rE=_ from z];exact .of_eq rfl,fun base _ _=>Pn T⟩
theorem walk{l:PySem.W.OpenLaw}{q:zdV}{loose:List Str}{XP:(Str->Option zdK)->Heap->Prop}{YP:zdL->Heap->Prop}{d:DefRec}{K:Params->zab}(hn:l.most=some 63)(Q1:d.params.defaults=[])
 (hY:∀(w:zdL) (h:Heap),YP w h->(K w.params).In h)
 (F:∀(w:zdL) (mg:Str->Option zdK) (fa:zdJ) (h:Heap),(K w.params).In h->h.Ns zdQ mg->mg d.name=some (.ref fa)->
  ∃fd:zdS,(∀(s:zdT) (u:zdK),BindsTo s fd ⟨[u],[]⟩ [("script",u)])/\∀base:Heap,(K w.params).In base->base.Ns zdQ mg->bM l.prog w (K w.params) mg base fZ 30 fa fd ["script"] (Dw (K w.params))) :
 PySem.W.WalkO q loose XP YP l.row.toRowW d [] (fun f vs=>PySem.call f vs):=
 L2.Kl (n:=63) (k:=30) (x:="script") (CX:=fun _=>fZ) (sp:=fun w=>Dw (K w.params)) hn (by decide) Q1 ⟨rfl,by decide,by decide⟩ hY F (fun _ _ a ns hl _ hS=>⟨a,ns,rfl,hS,hl,fun _=>rfl⟩) fun _ _ _ _ _ z=>z
end
end IY
end
structure PySem.W.Fast:Prop where(tw3874735622553431836 tw3000031054595621727 tw14805809644270548065 tw7686627439463508660 tw10262939138108445620 tw1574170868730957119 tw12590235797602215430 tw16487440446503320269 tw12207298330613070679 tw9133760558750145669 tw1998341550218625170 tw15303156544840326511 tw361393626134107083 tw6290779984644471282 tw3229816872614999419 tw10830415707334449912 tw16803972785543174493 tw9091091577639412036 tw2856881909724951677 tw15556216042319949354 tw9776615910098818382 tw7057583894580501885 tw9949017585078340539 tw15803286817095163870 tw883132983055055341 tw17087093139562776299 tw17369407546035313352 tw4103484764306061163 tw2372353855769611474 tw13582670862798036305 tw10573964729888746929 tw6347177013367862217 tw10483545655601395631 tw12020384132211404558 tw15133067076163825761 tw8776865614735360304 tw707804809683825584 tw1135000235675924483 tw11945907448790220968 tw7141469332868488343 tw15365742889535610655 tw2723379178628979282 tw10738610131363120192 tw13523900397008174973 tw9966103565987964990 tw15893303584758217212 tw1845116412495974749 tw11495064338316414020 tw14139865421124821836 tw4720590859234391446 tw14607011690602786566 tw16992909157948979063 tw11228296124194764611 tw6738129694419899147 tw2233352649805315480 tw4935093520837371544 tw6451924400180523894 tw12245772784653742631 tw4796247765656046787 tw3889460643116948909 tw9488851339402412186 tw7517337958144393038 tw8652975916993825234 tw14893071386073089696 tw16303260475281731170 tw12441484428883028218 tw11307504931941607803 tw10355812486349604746 tw15591531037716327948 tw18071466944962170046 tw659121240754589849 tw17104465801705760830 tw3155609645243796182 tw17689010577388351677 tw13317383919878942002 tw804434531818554331 tw3306455109121658443 tw18147852723587025876 tw18069167594000566345 tw18257506058361322633 tw9907765407915746578 tw2309854818587793131 tw12310687903912426368 tw2778886928172963086 tw18327204560127266791 tw6845097169529829667 tw2900668338036517284 tw1942133809281157788 tw4082837591642947948 tw2853951080264006560 tw7749542252518588236 tw6413992810961336345 tw17538236869093351252 tw10855888139192227761 tw2619479909823828141 tw17795714608564056398 tw16751917699774050943 tw12021230872219898244 tw2901770456193307896 tw14833548841056484020 tw1865379664439298829 tw5417424639739953095 tw17455501037882763295 tw8855621515239357658 tw12413350666843032310 tw12492589817831134794 tw10210839728505592624 tw10331989252966053021 tw8338524656692727767 tw361835454136848760 tw10344659710778257541 tw10802969286675203079 tw1373664089060859039 tw2343632583513612204 tw12471280507499132201 tw1449325262274489710 tw7584591390946319918 tw10931439028306024330 tw8912422504244080985 tw9259370742550846944 tw2330147198983717730 tw7613757773411953286 tw486303799914534112 tw4796092023136100863 tw12808101045365846102 tw17569774218464449767 tw13258461562090597252 tw14401700533978444903 tw13552846254852216304 tw3453269122047877224 tw292657413298304746 tw17670094090714426117 tw13164508165320344246 tw1885517934013507121 tw3154644507945442378 tw18295567916805459991 tw2147163888048805553 tw6660190872391487095 tw1566512956111903184 tw12296080812524998476 tw230564706427875031 tw1784469525989011508 tw16660243435312171697 tw4034539294987381454 tw3504439115416724560 tw17123889081090403872 tw8394654086599353090 tw18378888394069711680 tw16342062304121927219 tw14726699454689038327 tw10725915069307740240 tw5781139420013974818 tw12150532978994068323 tw3702920230766338488 tw9951080366116230034 tw6015540778259363683 tw16911113585975453754 tw18390393105824906832 tw5678882709805022627:True)
end
open PySem PySem.W PyProof.Rows
set_option maxRecDepth 100000 in
set_option maxHeartbeats 0 in
theorem PySem.Challenge.cw_everyrow_k35_whole_least_ranges_holds : PySem.Challenge.rw_everyrow_k35_whole_least_ranges.Holds := by
 w_on; o_law; k_head; (case hw=>w_witness2)
 k_fill
 refine IY.walk (l:=PySem.Challenge.rw_everyrow_k35_whole_least_ranges) rfl rfl (fun w h Y=>PySem.W.kIn_of Y) ?F
 case F=>
   intro w mg fa h KX G Q2
   refine' IY.all_mk KX G Q2 ?_ ?_ ?_ ?_ ?_ ?_ ?_ ?_ ?_ ?_ ?_ ?_ ?_ ?_ ?_ ?_ ?_ ?_ ?_ ?_ ?_ ?_ ?_ ?_ ?_ ?_ ?_ ?_ ?_ ?_ ?_ ?_ ?_ ?_ ?_ ?_ ?_ ?_ ?_ ?_ ?_ ?_ ?_ ?_ ?_ ?_ ?_ ?_ ?_ ?_ ?_ ?_ ?_ ?_ ?_ ?_ ?_ ?_ ?_ ?_ ?_ ?_ ?_ ?_ ?_ ?_ ?_ ?_ ?_ ?_ ?_
   rotate_left 50
   iterate 38 (refine' L2.FH.of ?a ?l ?c ?k; (case a=>k_is); (case l=>k_is); (case c=>k_is); (case k=>k_is))
   iterate 33 (k_is)
