import PyProof.Rows.All
import Wide.All
import OpenK.AllK
import Wide.FinOn
import Lean
import PyProof.EqAt
import PyProof.EqKinds
import PyProof.TupleCall
import PyProof.AttrMiss
import PyProof.IsiH_list
import PyProof.ZipIter
import PyProof.P3In
import PySem.Challenge.RW_everyrow_k38_whole_no_run_leaves_ranges
set_option compiler.extract_closed false
set_option Elab.async false
set_option linter.all false
set_option maxRecDepth 100000
open PySem.W renaming Frag->zaa,mg_none_of->zaO,findIn->zaP,nsIn->zaU,emptyDict->za9,instObj->zbs,fnOf->zbt,keepIn->zbM,codeIn->zb9,hasDictIn->zcc,plainGet->zch,mg_of->zcA,methodObj->zcF,plainOver->zcG,takerIn->zcZ,makesIn->zc0,cellsFrom_some->zc3,lookIn->zda
open List renaming getElem?_eq_getElem->zab,mem_cons_of_mem->zad,length_map->zae,getD_eq_getElem?_getD->zaf,mem_cons->zag,getElem?_map->zah,mem_append->zai,nodup_cons->zaj,length_cons->zak,getElem?_eq_some_iff->zal,mem_singleton->zan,getElem_mem->zao,length_append->zap,map_cons->zar,size_toArray->zat,mem_cons_self->zav,map_append->zax,range->zaz,mem_append_right->zaE,mem_map->zaF,mem_of_getElem?->zaG,map_map->zaN,length_nil->zaQ,not_mem_nil->zaR,length_set->zaT,length->zaV,reverse_cons->zaW,pairwise_map->zaX,length_singleton->zaY,pairwise_cons->za1,getElem_map->za5,mem_iff_getElem->za6,zipWith->za8,append_nil->zba,pairwise_iff_getElem->zbb,lookup_cons->zbc,getElem_append_left->zbd,nodup_append->zbe,append_assoc->zbf,find?_cons->zbg,getElem?_set_self->zbi,toArray->zbj,mem_filterMap->zbk,getElem_append_right->zbl,mem_append_left->zbn,getElem?_set_ne->zbo,nil_append->zbp,pairwise_append->zbq,getElem?_of_mem->zbr,length_range->zbu,any_cons->zbv,filterMap_cons->zbw,getElem_of_mem->zby,mem_range->zbz,cons_append->zbA,any_eq_true->zbB,map_nil->zbD,forIn_cons->zbE,length_zip->zbF,getElem?_append_right->zbG,sum_cons->zbH,getElem?_append_left->zbJ,getElem?_zip_eq_some->zbK,lookup->zbL,getElem_inj->zbN,take_length->zbQ,getElem?_range->zbR,map_congr_left->zbS,length_eq_zero_iff->zbT,range_succ->zbU,take_of_length_le->zbV,getElem_singleton->zbW,forIn_nil->zbY,length_drop->zb1,length_reverse->zb3,getLast?_eq_getElem?->zb5,mem_of_find?_eq_some->zb6,drop_eq_getElem_cons->zb7,replicate->zb8,flatMap_cons->zcb,length_take->zcd,zipIdx_cons->zce,ext_getElem->zcf,take_succ_eq_append_getElem->zcg,eraseIdxIfInBounds_toArray->zck,of_mem_zip->zcl,zipIdx_nil->zcn,length_zipWith->zcs,set->zct,filter_append->zcv,nodup_iff_pairwise_ne->zcz,getElem?_set->zcD,take_add_one->zcE,mem_or_eq_of_mem_set->zcH,mem_flatMap->zcK,drop_length->zcL,getElem?_replicate->zcO,getElem?_cons_succ->zcP,pairwise_singleton->zcR,mem_filter->zcV,head?_drop->zcW,find?_some->zcX,any_append->zcY,zipWith_cons_cons->zc1,drop_of_length_le->zc2,length_replicate->zc5,length_filter_le->zc6,getElem?_eq_none->zc7,drop_drop->zc8,take_append_drop->zc9,drop_eq_nil_iff->zdb,dropLast_concat->zdd,length_pos_iff->zde,flatMap_append->zdf,map_id'->zdh
open PySem.Str renaming ofString->zac
open Nat renaming le_refl->zam,le_trans->zau,ne_of_lt->zaw,lt_of_lt_of_le->zaB,pow_le_pow_right->zaD,zero_le->zaM,lt_irrefl->za7,ne_of_gt->zbC,le_of_lt->zbX,mul_le_mul_right->zb2,mul_le_mul_left->zb4,sub_self->zco,succ_pos->zcp,lt_of_le_of_lt->zcu,lt_succ_of_lt->zcB,lt_trichotomy->zcC,le_of_eq->zcI,le_mul_of_pos_right->zcQ,le_succ->zdj,pow_add->zdl
open Or renaming inl->zaq
open Bool renaming false_ne_true->zas,false_eq_true->zay,eq_iff_iff->za0,and_eq_true->za4,or_eq_true->zcm,false_or->zcw,true_and->zcx
open PySem.F renaming plainAttrs_list->zaA,slot_list_append->zaJ,type_list_append->zaK,slot_list_pop->zbZ,type_list_pop->zb0,slot_dict_get->zcj,slot_list_extend->zcM,type_list_extend->zcN,args_dict_get_2->zcS,plainAttrs_dict->zcT,slot_dict_items->zcU,entry_dict_get->zc4
open Option renaming map_eq_some_iff->zaC,some->zaH,map_some->zaL,getD_some->zbO,isSome_map->zca,isSome_iff_exists->zcJ,none->zdk
open Int renaming le_refl->zaI,emod_lt_of_pos->za2,emod_nonneg->zbh,toNat_natCast->zbI,le_trans->zbP,emod_add_mul_ediv->zci,mul_le_mul_of_nonneg_right->zcq,mul_le_mul_of_nonpos_right->zcr,mul_comm->zdi
open PyProof.Rows renaming callWith_type1->zaS,slot_tuple_getitem->zbm
open Array renaming getElem?_toList->zaZ,getD_eq_getD_getElem?->za3,length_toList->zbx,perm_iff_toList_perm->zcy,getD->zdc,toList->zdg
open PySem renaming Addr->zdm,Value->zdn,World->zdo,wpAny_bind->zdp,wpAny_pure->zdq,wpAny_holding->zdr,starEach->zds,mainGlobals->zdt,sizeLine->zdu,FuncData->zdv,Shared->zdw,Around->zdx,Program->zdy
noncomputable section
namespace L2
open PySem PySem.Spec PyProof.Rows
abbrev Key:=Sum Int Str
def rq:Key->zdn->Bool
 |.inl k,v=>Value.isInt k v
 |.inr x,v=>Value.isStrOf x v
def S4 (w:zdo):Key->Int
 |.inl k=>hashInt k
 |.inr x=>hashStr w x
theorem cZ:∀ {k:Key} {v:zdn},rq k v=true->(∃i t,k=Sum.inl i/\v=Value.int i t)\/(∃x t,k=Sum.inr x/\v=Value.str x t)
 |.inl i,v,h=>by
  obtain⟨t,e⟩:=Value.isInt_shape (k:=i) (v:=v) h;exact .inl ⟨i,t,rfl,e⟩
 |.inr x,v,h=>by
  obtain⟨t,e⟩:=Value.isStrOf_shape (x:=x) (v:=v) h;exact .inr ⟨x,t,rfl,e⟩
theorem C6(i:Int)(t:Tok):rq (.inl i) (.int i t)=true:=by simp[rq,Value.isInt]
theorem C7(x:Str)(t:Tok):rq (.inr x) (.str x t)=true:=by simp[rq,Value.isStrOf]
theorem L9(a b:Int):decide ((Sum.inl a:Key)=Sum.inl b)=(a==b):=by
 by_cases e:a=b
 ·subst e;simp
 ·have h:¬(Sum.inl a:Key)=Sum.inl b:=fun q=>e (Sum.inl.inj q);rw[decide_eq_false h];exact(beq_eq_false_iff_ne.mpr e).symm
theorem Ma(a b:Str):decide ((Sum.inr a:Key)=Sum.inr b)=decide (a=b):=by
 by_cases e:a=b
 ·subst e;simp
 ·have h:¬(Sum.inr a:Key)=Sum.inr b:=fun q=>e (Sum.inr.inj q);rw[decide_eq_false h,decide_eq_false e]
theorem Mb(a:Int)(b:Str):decide ((Sum.inl a:Key)=Sum.inr b)=false:=decide_eq_false (fun q=>nomatch q)
theorem Mc(a:Str)(b:Int):decide ((Sum.inr a:Key)=Sum.inl b)=false:=decide_eq_false (fun q=>nomatch q)
def bX (prog:zdy) (w:zdo):PySem.KeyKind prog w Key where
 is:=rq
 hash:=S4 w
 inj:=fun v a b ha hb=>by
  rcases cZ ha with ⟨i,t,rfl,rfl⟩ |⟨x,t,rfl,rfl⟩
  ·rcases cZ hb with ⟨j,u,rfl,e⟩ |⟨y,u,rfl,e⟩
   ·injection e with e1 _;rw[e1]
   ·exact nomatch e
  ·rcases cZ hb with ⟨j,u,rfl,e⟩ |⟨y,u,rfl,e⟩
   ·exact nomatch e
   ·injection e with e1 _;rw[e1]
 byValue:=fun k v h=>by
  rcases cZ h with ⟨i,t,rfl,rfl⟩ |⟨x,t,rfl,rfl⟩<;>rfl
 pyHash:=fun hv h=>by
  rcases cZ hv with ⟨i,t,rfl,rfl⟩ |⟨x,t,rfl,rfl⟩
  ·exact wpAny_pyHash_int h
  ·exact wpAny_pyHash_str h
 eqBool:=fun hu hv h=>by
  rcases cZ hu with ⟨i,t,rfl,rfl⟩ |⟨x,t,rfl,rfl⟩
  ·rcases cZ hv with ⟨j,u,rfl,rfl⟩ |⟨y,u,rfl,rfl⟩
   ·rw[L9] at h;exact wpAny_eqBool_int h
   ·rw[Mb] at h;exact SeqAt.EqAt.int_str i t y u _ _ _ _ h
  ·rcases cZ hv with ⟨j,u,rfl,rfl⟩ |⟨y,u,rfl,rfl⟩
   ·rw[Mc] at h;exact SeqAt.EqAt.str_int x t j u _ _ _ _ h
   ·rw[Ma] at h;exact wpAny_eqBool_str h
 «strs»:=fun k x t v h=>by
  rcases cZ h with ⟨i,u,rfl,e⟩ |⟨y,u,rfl,e⟩
  ·exact nomatch e
  ·injection e with e1 _
   subst e1;cases v<;>rfl
theorem ym(prog:zdy)(w:zdo)(i:Int)(t:Tok):(bX prog w).is (.inl i) (.int i t)=true:=C6 i t
theorem yn(prog:zdy)(w:zdo)(x:Str)(t:Tok):(bX prog w).is (.inr x) (.str x t)=true:=C7 x t
inductive V where
 |bO |bl (b:Bool) |int (i:Int) |str (x:Str) |BE (b:Array UInt8) |R6 (b:UInt64) |ref (a:zdm) |ty (n:String)
 deriving DecidableEq
def RelV:V->zdn->Prop
 |.bO,u=>u=Value.none
 |.bl b,u=>u=Value.bool b
 |.int i,u=>∃t,u=Value.int i t
 |.str x,u=>∃t,u=Value.str x t
 |.BE b,u=>∃t,u=Value.bytes b t
 |.R6 b,u=>∃t,u=Value.float b t
 |.ref a,u=>u=Value.ref a
 |.ty n,u=>u=Value.type n
abbrev Vals:List V->List zdn->Prop:=Paired RelV
theorem Vals.length{xs:List V}{us:List zdn}(r:Vals xs us):xs.length=us.length:=Paired.length r
theorem Vals.get:∀ {xs:List V} {us:List zdn} {i:Nat} {x:V},Vals xs us->xs[i]?=some x->∃u,us[i]?=some u/\RelV x u
 |_,_,_,_,.nil,e=>by simp at e
 |_,_,0,_,.cons r _,e=>by simp at e;subst e;exact⟨_,rfl,r⟩
 |_,_,i+1,x,.cons _ t,e=>by
  obtain⟨u,h1,h2⟩:=Vals.get (i:=i) (x:=x) t (by simpa using e);exact⟨u,by simpa using h1,h2⟩
theorem Vals.set{x:V}{u:zdn}(r:RelV x u):∀ {xs:List V} {us:List zdn} (i:Nat),Vals xs us->Vals (xs.set i x) (us.set i u)
 |_,_,_,.nil=>.nil
 |_,_,0,.cons _ t=>.cons r t
 |_,_,i+1,.cons q t=>.cons q (Vals.set r i t)
theorem Vals.append:∀ {xs ys:List V} {us ws:List zdn},Vals xs us->Vals ys ws->Vals (xs++ys) (us++ws)
 |_,_,_,_,.nil,s=>s
 |_,_,_,_,.cons r t,s=>.cons r (Vals.append t s)
theorem Vals.take:∀ {xs:List V} {us:List zdn} (n:Nat),Vals xs us->Vals (xs.take n) (us.take n)
 |_,_,0,_=>.nil
 |_,_,_+1,.nil=>.nil
 |_,_,n+1,.cons r t=>.cons r (Vals.take n t)
theorem Vals.drop:∀ {xs:List V} {us:List zdn} (n:Nat),Vals xs us->Vals (xs.drop n) (us.drop n)
 |_,_,0,r=>r
 |_,_,_+1,.nil=>.nil
 |_,_,n+1,.cons _ t=>Vals.drop n t
def nT:Option V->Option zdn->Prop
 |some v,some u=>RelV v u
 |none,none=>True
 |_,_=>False
def KV {κ:Type}:List (κ×V)->List (κ×zdn)->Prop:=Paired fun (p:κ×V) (q:κ×zdn)=>p.1=q.1/\RelV p.2 q.2
def kV:Key->V
 |.inl i=>.int i
 |.inr x=>.str x
inductive HO where
 |lst (xs:List V)
 |tup (xs:List V)
 |dK (kvs:List (Key×V)) |dT (kvs:List (List Key×V))
 |set (S:Int->Bool) (n:Nat)
 |ins (C dx:zdm) (fs:List (Str×V))
 |own (x:zdm)
 |xd (fs:List (Str×V))
 |met (f x:zdm)
 |R7 (lo hi:Int)
 |EM (o:Obj) (u:HO)
 |Iq (ps:Array zdn)
 |ext (φ:Heap->Prop)
abbrev Hp:=zdm->Option HO
def upd (H:Hp) (a:zdm) (o:HO):Hp:=fun b=>if b=a then some o else H b
theorem aq{H:Hp}{a:zdm}{o:HO}:upd H a o a=some o:=by unfold upd;rw[if_pos rfl]
theorem aE{H:Hp}{a b:zdm}{o:HO}(h:b≠a):upd H a o b=H b:=by unfold upd;rw[if_neg h]
theorem bP{H:Hp}{a b:zdm}{o u:HO}(h:H a=some o)(h':H b=some u)(d:o≠u):a≠b:=by
 intro e;subst e;rw[h] at h';exact d (zaH.inj h')
theorem aH{H:Hp}{a b:zdm}{o:HO}(h:H a=some o)(h':H b=none):a≠b:=by
 intro e;subst e;rw[h] at h';cases h'
section
variable(P:zdy)(w:zdo)
def dP (H:Hp) (h:Heap) (a:zdm):HO->Prop
 |.lst xs=>xs.length<=zdu/\∃(bq:List zdn) (n:Nat),Vals xs bq/\h.get? a=some {cls:=.type "list",data:=.seq bq.toArray n}
 |.tup xs=>xs.length<=zdu/\∃bq:List zdn,Vals xs bq/\IsTup h a bq.toArray
 |.dK kvs=>kvs.length<=zdu/\(a==sysModules)=false/\∃vs,KV kvs vs/\h.DictOf (bX P w) a vs
 |.dT kvs=>kvs.length<=zdu/\(a==sysModules)=false/\∃xs:List (List Key×zdm×zdn),
  Paired (fun (p:List Key×V) (q:List Key×zdm×zdn)=>p.1=q.1/\H q.2.1=some (.tup (p.1.map kV))/\RelV p.2 q.2.2) kvs xs/\
  ∃o es ep,h.get? a=some o/\o.ExactDict/\o.data=.dict es ep/\es.toList=xs.map (entryOfKey (tupleKind (bX P w)))/\(xs.map (·.1)).Nodup
 |.set S n=>h.SetOf (intKind P w) a S n
 |.ins C dx fs=>H dx=some (.own a)/\fs.length<=1000/\dx≠a/\h.get? a=some (zbs C dx)/\
  ∃mA,h.Ns1 dx mA/\(∀f,nT (fs.lookup f) (mA f))/\PySem.Within mA (fs.map (·.1))
 |.own _=>∃o,h.get? a=some o
 |.xd fs=>∃mA,h.Ns1 a mA/\∀f,nT (fs.lookup f) (mA f)
 |.R7 lo hi=>∃t u v,h.get? a=some {cls:=.type "range",data:=.fields #[.int lo t,.int hi u,.int 1 v]}
 |.EM o u=>h.get? a=some o/\dP H h a u
 |.Iq ps=>h.get? a=some {cls:=.none,data:=.fields ps}
 |.met f x=>h.get? a=some (zcF (.ref f) (.ref x))
 |.ext φ=>φ h/\(∃o,h.get? a=some o)/\∀h1 h2:Heap,φ h1->(∀o,h1.get? a=some o->h2.get? a=some o)->φ h2
def oJ (H:Hp) (h:Heap):Prop:=∀a o,H a=some o->dP P w H h a o
end
section
variable{P:zdy}{w:zdo}{H H':Hp}{h h':Heap}{a:zdm}{o:HO}
theorem dP.lt(x:dP P w H h a o):a<h.objs.size:=by
 cases o with
 |lst xs=>obtain⟨_,_,_,_,e⟩:=x;exact Heap.lt_size e
 |tup xs=>obtain⟨_,_,_,p⟩:=x;exact p.lt
 |dK kvs=>obtain⟨_,_,_,_,o,_,_,e,_⟩:=x;exact Heap.lt_size e
 |dT kvs=>obtain⟨_,_,_,_,o,_,_,e,_⟩:=x;exact Heap.lt_size e
 |set S n=>obtain⟨o,_,_,_,e,_⟩:=x;exact Heap.lt_size e
 |ins C dx fs=>obtain⟨_,_,_,e,_⟩:=x;exact Heap.lt_size e
 |own y=>obtain⟨_,e⟩:=x;exact Heap.lt_size e
 |xd fs=>obtain⟨_,⟨_,_,_,e,_⟩,_⟩:=x;exact Heap.lt_size e
 |R7 lo hi=>obtain⟨_,_,_,e⟩:=x;exact Heap.lt_size e
 |EM ob u=>obtain⟨e,_⟩:=x;exact Heap.lt_size e
 |Iq ps=>exact Heap.lt_size (show h.get? a=some _ from x)
 |met f y=>exact Heap.lt_size (show h.get? a=some _ from x)
 |ext φ=>obtain⟨_,⟨_,e⟩,_⟩:=x;exact Heap.lt_size e
theorem Paired.wR{α β:Type}{F G:α->β->Prop}:∀ {l₁:List α} {l₂:List β},Paired F l₁ l₂->(∀a b,F a b->G a b)->Paired G l₁ l₂
 |_,_,.nil,_=>.nil
 |_,_,.cons r t,f=>.cons (f _ _ r) (Paired.wR t f)
theorem dP.yo(x:dP P w H h a o)(k:∀b u,(b=a\/H b=some (.own a))->h.get? b=some u->h'.get? b=some u)
 (ho:∀b,H b=some (.own a)->H' b=some (.own a)) (ht:∀b xs,H b=some (.tup xs)->H' b=some (.tup xs)):dP P w H' h' a o:=by
 induction o with
 |lst xs=>obtain⟨z,bq,n,r,e⟩:=x;exact⟨z,bq,n,r,k _ _ (.inl rfl) e⟩
 |tup xs=>obtain⟨z,bq,r,ob,e,c⟩:=x;exact⟨z,bq,r,ob,k _ _ (.inl rfl) e,c⟩
 |dK kvs=>obtain⟨z,y,vs,r,ob,es,ep,e,c⟩:=x;exact⟨z,y,vs,r,ob,es,ep,k _ _ (.inl rfl) e,c⟩
 |dT kvs=>
  obtain⟨z,y,xs,r,ob,es,ep,e,c⟩:=x;exact⟨z,y,xs,Paired.wR r fun p q z=>⟨z.1,ht _ _ z.2.1,z.2.2⟩,ob,es,ep,k _ _ (.inl rfl) e,c⟩
 |set S n=>obtain⟨ob,es,ep,t,e,c⟩:=x;exact⟨ob,es,ep,t,k _ _ (.inl rfl) e,c⟩
 |ins C dx fs=>
  obtain⟨d,z,ne,e,mA,⟨od,es,ep,e2,c⟩,r⟩:=x;exact⟨ho _ d,z,ne,k _ _ (.inl rfl) e,mA,⟨od,es,ep,k _ _ (.inr d) e2,c⟩,r⟩
 |own y=>obtain⟨ob,e⟩:=x;exact⟨ob,k _ _ (.inl rfl) e⟩
 |xd fs=>obtain⟨mA,⟨od,es,ep,e,c⟩,r⟩:=x;exact⟨mA,⟨od,es,ep,k _ _ (.inl rfl) e,c⟩,r⟩
 |R7 lo hi=>obtain⟨t,u,v,e⟩:=x;exact⟨t,u,v,k _ _ (.inl rfl) e⟩
 |EM ob u ih=>obtain⟨e,q⟩:=x;exact⟨k _ _ (.inl rfl) e,ih q⟩
 |Iq ps=>
  have e:h.get? a=some {cls:=.none,data:=.fields ps}:=x;show h'.get? a=some {cls:=.none,data:=.fields ps};exact k a _ (.inl rfl) e
 |met f y=>
  have e:h.get? a=some (zcF (.ref f) (.ref y)):=x;show h'.get? a=some (zcF (.ref f) (.ref y));exact k a _ (.inl rfl) e
 |ext φ=>obtain⟨p,⟨o,e⟩,st⟩:=x;exact⟨st _ _ p fun o q=>k _ _ (.inl rfl) q,⟨o,k _ _ (.inl rfl) e⟩,st⟩
theorem oJ.lt(x:oJ P w H h)(e:H a=some o):a<h.objs.size:=(x a o e).lt
theorem oJ.fresh(x:oJ P w H h)(e:h.objs.size<=a):H a=none:=by
 cases q:H a with
 |none=>rfl
 |some u=>exact absurd (zaB (x.lt q) e) (za7 _)
theorem oJ.kept(x:oJ P w H h)(k:∀b u,h.get? b=some u->h'.get? b=some u):oJ P w H h':=fun a o e=>
 (x a o e).yo (fun b u _ q=>k b u q) (fun _ q=>q) fun _ _ q=>q
theorem oJ.laid(x:oJ P w H h)(k:∀b u,h.get? b=some u->h'.get? b=some u)(hp:h.objs.size<=a)(new:dP P w (upd H a o) h' a o):oJ P w (upd H a o) h':=fun b u e=>by
 have hn:=x.fresh hp;by_cases hb:b=a
 ·subst hb;rw[aq] at e;cases e;exact new
 ·rw[aE hb] at e;exact(x b u e).yo (fun c v _ q=>k c v q) (fun c q=>by rw[aE (aH q hn)];exact q) fun c xs q=>by rw[aE (aH q hn)];exact q
end
def Rd (H:Hp) (a:zdm) (u:HO):Prop:=H a=some u\/∃o,H a=some (.EM o u)
theorem Rd.ok{P:zdy}{w:zdo}{H:Hp}{h:Heap}{a:zdm}{u:HO}(r:Rd H a u)(x:oJ P w H h):dP P w H h a u:=by
 rcases r with r |⟨o,r⟩
 ·exact x a u r
 ·obtain⟨_,q⟩:=x a _ r;exact q
def O4:Option HO->Prop
 |some (.lst _)=>True
 |some (.dK _)=>True
 |some (.dT _)=>True
 |some (.set _ _)=>True
 |some (.ins _ _ _)=>True
 |some (.ext _)=>True
 |_=>False
section
variable{P:zdy}{w:zdo}{H:Hp}{h h':Heap}{x e:zdm}{o':HO}
theorem oJ.write(ok:oJ P w H h)(mu:O4 (H x))(he:e=x\/H e=some (.own x))(k:∀b u,b≠e->h.get? b=some u->h'.get? b=some u)(Oy:∃u,h'.get? e=some u)
 (new:dP P w (upd H x o') h' x o'):oJ P w (upd H x o') h':=fun b u q=>by
 have O5:∀c y,H c=some (.own y)->c≠x:=fun c y r z=>by subst z;rw[r] at mu;exact mu
 have S5:∀c xs,H c=some (.tup xs)->c≠x:=fun c xs r z=>by subst z;rw[r] at mu;exact mu
 by_cases hb:b=x
 ·subst hb;rw[aq] at q;cases q;exact new
 ·rw[aE hb] at q;by_cases Md:b=e
  ·have q':H b=some (.own x):=by
    rcases he with z |z
    ·exact absurd (Md.trans z) hb
    ·rw[Md];exact z
   rw[q] at q';cases q';obtain⟨v,hv⟩:=Oy;exact⟨v,by rw[Md];exact hv⟩
  ·refine(ok b u q).yo (fun c v hc r=>k c v ?_ r) (fun c r=>by rw[aE (O5 c b r)];exact r) fun c xs r=>by rw[aE (S5 c xs r)];exact r
   rcases hc with rfl |hc
   ·exact Md
   ·rintro rfl
    rcases he with z |z
    ·exact O5 c b hc z
    ·rw[hc] at z;cases z;exact hb rfl
end
structure Un(fs ex:List zdm)(H H':Hp)(h h':Heap):Prop where
 keep:∀b o,h.get? b=some o->H b=none->b ∉ fs->b ∉ ex->h'.get? b=some o
 slot:∀b o,h.get? b=some o->H b=none->b∈fs->b ∉ ex->∃sl,h'.get? b=some {o with slots:=sl}
 free:∀b o,h.get? b=some o->H b=none->b ∉ ex->H' b=none
 there:∀b o,h.get? b=some o->b ∉ ex->∃o',h'.get? b=some o'
 qm:∀b xs,H b=some (.tup xs)->H' b=some (.tup xs)
 pk:∀b o u,H b=some (.EM o u)->H' b=some (.EM o u)
 qo:∀b ps,H b=some (.Iq ps)->∃more,H' b=some (.Iq (ps++more))
section
variable{fs Me ex WB:List zdm}{H H1 H2:Hp}{h h1 h2 h':Heap}{a x e:zdm}{o:HO}
theorem Un.any(u:Un fs ex H H1 h h1){b:zdm}{ob:Obj}(q:h.get? b=some ob)(n:H b=none)(hx:b ∉ ex):∃sl,h1.get? b=some {ob with slots:=sl}:=by
 by_cases hb:b∈fs
 ·exact u.slot b ob q n hb hx
 ·exact⟨ob.slots,u.keep b ob q n hb hx⟩
theorem Un.trans(a:Un fs ex H H1 h h1)(b:Un fs ex H1 H2 h1 h2):Un fs ex H H2 h h2 where
 keep:=fun c ob q n hc hx=>b.keep c ob (a.keep c ob q n hc hx) (a.free c ob q n hx) hc hx
 slot:=fun c ob q n hc hx=>by
  obtain⟨sl,e1⟩:=a.slot c ob q n hc hx;obtain⟨S6,e2⟩:=b.slot c _ e1 (a.free c ob q n hx) hc hx;exact⟨S6,e2⟩
 free:=fun c ob q n hx=>by
  obtain⟨o',e1⟩:=a.there c ob q hx;exact b.free c o' e1 (a.free c ob q n hx) hx
 there:=fun c ob q hx=>by
  obtain⟨o',e1⟩:=a.there c ob q hx;exact b.there c o' e1 hx
 qm:=fun c xs q=>b.qm c xs (a.qm c xs q)
 pk:=fun c ob xs q=>b.pk c ob xs (a.pk c ob xs q)
 qo:=fun c ps q=>by
  obtain⟨m1,e1⟩:=a.qo c ps q;obtain⟨m2,e2⟩:=b.qo c _ e1;exact⟨m1++m2,by rw[e2,Array.append_assoc]⟩
theorem Un.kept(k:∀b u,h.get? b=some u->h'.get? b=some u):Un fs ex H H h h':=
 ⟨fun b ob q _ _ _=>k b ob q,fun b ob q _ _ _=>⟨ob.slots,k b ob q⟩,fun _ _ _ n _=>n,fun b ob q _=>⟨ob,k b ob q⟩,fun _ _ q=>q,fun _ _ _ q=>q,fun _ ps q=>⟨#[],by rw[q];simp⟩⟩
theorem Un.refl:Un fs ex H H h h:=Un.kept fun _ _ q=>q
theorem Un.laid(k:∀b u,h.get? b=some u->h'.get? b=some u)(hp:h.objs.size<=a)(hn:H a=none):Un fs ex H (upd H a o) h h' where
 keep:=fun b u q _ _ _=>k b u q
 slot:=fun b u q _ _ _=>⟨u.slots,k b u q⟩
 free:=fun b u q n _=>by rw[aE (zaw (zaB (Heap.lt_size q) hp))];exact n
 there:=fun b u q _=>⟨u,k b u q⟩
 qm:=fun b xs q=>by rw[aE (aH q hn)];exact q
 pk:=fun b u xs q=>by rw[aE (aH q hn)];exact q
 qo:=fun b ps q=>⟨#[],by rw[aE (aH q hn),q];simp⟩
theorem Un.write(mu:O4 (H x))(he:e=x\/H e=some (.own x))(k:∀b u,b≠e->h.get? b=some u->h'.get? b=some u)(Oy:∃u,h'.get? e=some u):Un fs ex H (upd H x o) h h':=by
 have hx:∀b,H b=none->b≠x:=fun b n z=>by subst z;rw[n] at mu;exact mu
 have hb:∀b,H b=none->b≠e:=fun b n z=>by
  subst z;rcases he with r |r
  ·exact hx b n r
  ·rw[n] at r;cases r
 have hm:∀b u,H b=some u->¬O4 (some u)->b≠x:=fun b u q nm z=>by subst z;rw[q] at mu;exact nm mu
 refine⟨fun b u q n _ _=>k b u (hb b n) q,fun b u q n _ _=>⟨u.slots,k b u (hb b n) q⟩,fun b u q n _=>by rw[aE (hx b n)];exact n,fun b u q _=>?_,
  fun b xs q=>by rw[aE (hm b _ q fun z=>z)];exact q,fun b u xs q=>by rw[aE (hm b _ q fun z=>z)];exact q,fun b ps q=>⟨#[],by rw[aE (hm b _ q fun z=>z),q];simp⟩⟩
 by_cases Md:b=e
 ·subst Md;exact Oy
 ·exact⟨u,k b u Md q⟩
theorem Un.mono(u:Un fs ex H H1 h h1)(hs:∀b∈fs,b∈Me)(hx:∀b∈ex,b∈WB):Un Me WB H H1 h h1:=
 ⟨fun b ob q n hb he=>u.keep b ob q n (fun z=>hb (hs b z)) fun z=>he (hx b z),fun _ _ q n _ he=>u.any q n fun z=>he (hx _ z),fun b ob q n he=>u.free b ob q n fun z=>he (hx b z),fun b ob q he=>u.there b ob q fun z=>he (hx b z),u.qm,u.pk,u.qo⟩
end
def R8 (h:Heap) (H:Hp):List zdm:=(zaz h.objs.size).filter fun a=>(H a).isSome
def wU (h:Heap) (H:Hp):Heap:=PySem.W.hideAll h (R8 h H)
theorem C8(h:Heap)(H:Hp):(wU h H).objs.size=h.objs.size:=PySem.W.hideAll_size _ _
theorem EN{h:Heap}{H:Hp}{b:zdm}{o:Obj}(e:h.get? b=some o)(n:H b=none):(wU h H).get? b=some o:=
 PySem.W.hideAll_get _ e fun hm=>by
  have q:(H b).isSome=true:=(zcV.mp hm).2;rw[n] at q;simp at q
theorem IM{h:Heap}{H:Hp}{b:zdm}{o:Obj}(e:(wU h H).get? b=some o):h.get? b=some o/\H b=none:=by
 have e':h.get? b=some o:=PySem.W.of_hideAll (R8 h H) e;refine⟨e',?_⟩;cases q:H b with
 |none=>rfl
 |some x=>
  have hm:b∈R8 h H:=zcV.mpr ⟨zbz.mpr (Heap.lt_size e'),by simp[q]⟩;have z:(wU h H).get? b=none:=PySem.W.hideAll_none (R8 h H) hm;rw[z] at e;cases e
def IP (g h:Heap) (L:zdm):List (zdm×Obj):=(zaz h.objs.size).filterMap fun a=>if a=L\/(g.get? a).isSome=true then none else (h.get? a).map fun o=>(a,o)
def rest (g h:Heap) (L d:zdm):List (zdm×Obj):=(IP g h L).filter fun p=>decide (p.1≠d)
structure Mod(K:zaa)(mg:Str->Option zdn)(base:Heap):Prop where
 R9:K.In base
 glob:base.Ns zdt mg
 blt:∃mb,base.Ns builtinsNs mb/\∀x:Str,x≠"__name__"->mb x=bootBuiltins x
 nolimit:base.NoLimit
structure Cx where
 prog:zdy
 w:zdo
 K:zaa
 mg:Str->Option zdn
 base:Heap
 A:zdx
 N:List Str
 s₀:zdw
 H₀:Hp
 env:Env
 outer:List Env
 stack:List Env
 ex:List zdm
 fn:Str->Bool
 calm:Bool
 pn:List (zdm×Obj)
 xe:zdn->zdw->Prop
def iS (l:List Env):List zdm:=l.filterMap (·.frame)
abbrev Cx.fs (X:Cx):List zdm:=iS X.outer
def Sa (sc:Scope) (x:Str):Prop:=sc.names.lookup x=some .local\/sc.names.lookup x=some .cell\/sc.names.lookup x=some .free
def Loc (sc:Scope) (x:Str):Prop:=sc.names.lookup x=some .local\/sc.names.lookup x=some .cell
def Look (env:Env) (h:Heap) (m:Str->Option zdn) (x:Str) (u:zdn):Prop:=
 (env.kindOf x=some .local/\m x=some u)\/((env.kindOf x=some .cell\/env.kindOf x=some .free)/\∃c,env.cells.lookup x=some c/\h.IsCell c (some u))
structure Cx.Ok(X:Cx):Prop where
 mod:Mod X.K X.mg X.base
 kind:X.env.scope.kind=.function
 glob:X.env.globals=zdt
 blt:X.env.builtins=builtinsNs
 above:X.s₀.heap.objs.size<=X.env.locals
 inj:∀x y c,X.env.cells.lookup x=some c->X.env.cells.lookup y=some c->x=y
 has:∀x,(X.env.kindOf x=some .cell\/X.env.kindOf x=some .free)->∃c,X.env.cells.lookup x=some c
 O6:∀x c,X.fn x=true->X.env.cells.lookup x=some c->X.s₀.heap.objs.size<=c
 hd:X.calm=true->X.A.handled=none
 frames:X.A.frames=some X.stack
 Sb:X.stack=X.outer\/(X.stack=X.env::X.outer/\X.env.frame=some X.env.locals)
 WC:∀b∈X.ex,b≠X.env.locals/\∀x c,X.env.cells.lookup x=some c->c≠b
 bs:∀b o,X.base.get? b=some o->X.s₀.heap.get? b=some o/\X.H₀ b=none
 EO:X.base.objs.size<=X.s₀.heap.objs.size
 ER:∀b o,X.base.get? b=some o->b ∉ X.ex
 IQ:∀b∈X.ex,b ∉ X.fs
 qp:X.s₀.heap.FunFrames X.base X.outer
 K8:∀b∈X.fs,X.H₀ b=none
structure Inv(X:Cx)(pins:List (zdm×Obj))(σ:List (Option V))(H:Hp)(s:zdw):Prop where
 ok:X.Ok
 os:s.os=X.s₀.os
 bare:AllBare s.gens
 base:Un X.fs X.ex X.H₀ H X.s₀.heap s.heap
 loc:∃m,s.heap.Ns X.env.locals m/\∀(i:Nat) (x:Str) (v:V),X.N[i]?=some x->σ[i]?=some (some v)->Sa X.env.scope x->∃u,RelV v u/\Look X.env s.heap m x u
 cell:∀x c,X.env.cells.lookup x=some c->∃v,s.heap.IsCell c v
 free:H X.env.locals=none
 mf:∀x c,X.env.cells.lookup x=some c->H c=none
 pin:∀p∈X.pn++pins,s.heap.get? p.1=some p.2/\H p.1=none/\p.1≠X.env.locals/\p.1 ∉ X.fs/\∀v,p.2.data≠.cell v
 da:oJ X.prog X.w H s.heap
 len:σ.length=X.N.length
section
variable{X:Cx}{pins:List (zdm×Obj)}{σ:List (Option V)}{H H':Hp}{s:zdw}{h':Heap}
theorem Cx.Ok.S7(ok:X.Ok){b:zdm}{o:Obj}(e:X.base.get? b=some o):b ∉ X.fs:=fun hb=>by
 have:=(ok.qp.mem hb).1;rw[e] at this;cases this
theorem Inv.bs(I:Inv X pins σ H s):∀b o,X.base.get? b=some o->s.heap.get? b=some o/\H b=none:=fun b o e=>
 ⟨I.base.keep b o (I.ok.bs b o e).1 (I.ok.bs b o e).2 (I.ok.S7 e) (I.ok.ER b o e),I.base.free b o (I.ok.bs b o e).1 (I.ok.bs b o e).2 (I.ok.ER b o e)⟩
theorem Inv.bk(I:Inv X pins σ H s):∀b o,X.base.get? b=some o->s.heap.get? b=some o:=fun b o e=>(I.bs b o e).1
theorem Inv.mod(I:Inv X pins σ H s):Mod X.K X.mg X.base:=I.ok.mod
theorem Inv.ES(I:Inv X pins σ H s):X.K.In s.heap:=I.ok.mod.R9.keeps I.bk
theorem Inv.fr(I:Inv X pins σ H s):∃m,Fr X.base X.env.locals s.heap m:=
 let ⟨m,hn,_⟩:=I.loc
 ⟨m,hn,I.bk,zau I.ok.EO I.ok.above⟩
theorem Inv.lt(I:Inv X pins σ H s):X.env.locals<s.heap.objs.size:=let ⟨_,hn,_⟩:=I.loc;hn.lt
theorem Inv.sz(I:Inv X pins σ H s):X.s₀.heap.objs.size<=s.heap.objs.size:=zau I.ok.above (zbX I.lt)
theorem Inv.S8(I:Inv X pins σ H s){a:zdm}(h:s.heap.objs.size<=a):a ∉ X.fs:=fun hb=>by
 obtain⟨_,o,ho,_⟩:=I.ok.qp.mem hb;exact absurd (zaB (Heap.lt_size ho) (zau I.sz h)) (za7 _)
theorem Inv.Mf(I:Inv X pins σ H s):∀x c,X.env.cells.lookup x=some c->c≠X.env.locals:=fun x c e z=>by
 obtain⟨v,o,ho,hd⟩:=I.cell x c e;obtain⟨m,⟨o',es,ep,Mg,BF,_⟩,_⟩:=I.loc;rw[z,Mg] at ho;cases ho;rw[BF] at hd;cases hd
theorem Inv.qp(I:Inv X pins σ H s):s.heap.FunFrames X.base X.outer:=by
 have all:∀(l:List Env),(∀b∈iS l,b∈X.fs)->X.s₀.heap.FunFrames X.base l->s.heap.FunFrames X.base l:=by
  intro l
  induction l with
  |nil=>intro _ _;trivial
  |cons env r ih=>
   intro hs hl;obtain⟨hk,⟨L,o,hf,hn,ho,hd⟩,hr⟩:=hl;have hL:L∈X.fs:=hs L (by unfold iS;rw[zbw,hf];exact zav);obtain⟨sl,e⟩:=I.base.slot L o ho (I.ok.K8 L hL) hL fun z=>I.ok.IQ L z hL;exact⟨hk,⟨L,_,hf,hn,e,hd⟩,ih (fun b hb=>hs b (by unfold iS;rw[zbw,hf];exact zad _ hb)) hr⟩
 exact all X.outer (fun _ hb=>hb) I.ok.qp
theorem Inv.stack(I:Inv X pins σ H s):s.heap.FunFrames X.base X.stack:=by
 rcases I.ok.Sb with e |⟨e,hf⟩
 ·rw[e];exact I.qp
 ·rw[e];obtain⟨m,hn,_⟩:=I.loc;refine .cons (by rw[I.ok.kind];decide) hf hn ?_ I.qp;exact Heap.get?_none_of_le (zau I.ok.EO I.ok.above)
theorem Inv.wV(I:Inv X pins σ H s):∀b∈iS X.stack,b∈X.env.locals::X.fs:=fun b hb=>by
 rcases I.ok.Sb with e |⟨e,hf⟩
 ·rw[e] at hb;exact zad _ hb
 ·rw[e] at hb;unfold iS at hb;rw[zbw,hf] at hb;exact hb
theorem Inv.BG(I:Inv X pins σ H s):∀b∈iS X.stack,H b=none:=fun b hb=>by
 rcases zag.mp (I.wV b hb) with e |hb
 ·rw[e];exact I.free
 ·obtain⟨_,o,ho,_⟩:=I.ok.qp.mem hb;exact I.base.free b o ho (I.ok.K8 b hb) fun z=>I.ok.IQ b z hb
theorem Inv.step{g':Array GenState}{t':Nat}{d':Drawn}{ch:List zdm}(I:Inv X pins σ H s)
 (Ir:∀b∈ch,(b∈X.ex\/X.s₀.heap.objs.size<=b)/\b≠X.env.locals/\(∀x c,X.env.cells.lookup x=some c->c≠b)/\∀p∈X.pn++pins,p.1≠b)
 (keep:∀b o,b≠X.env.locals->b ∉ X.fs->b ∉ ch->s.heap.get? b=some o->H b=none->h'.get? b=some o)
 (slot:∀b o,b≠X.env.locals->b∈X.fs->b ∉ ch->s.heap.get? b=some o->H b=none->∃sl,h'.get? b=some {o with slots:=sl}) (free:∀b o,b ∉ ch->s.heap.get? b=some o->H b=none->H' b=none)
 (there:∀b o,b ∉ ch->s.heap.get? b=some o->∃o',h'.get? b=some o')
 (qm:∀b xs,H b=some (.tup xs)->H' b=some (.tup xs)) (pk:∀b o u,H b=some (.EM o u)->H' b=some (.EM o u)) (qo:∀b ps,H b=some (.Iq ps)->∃more,H' b=some (.Iq (ps++more)))
 (ns:∀m,s.heap.Ns X.env.locals m->h'.Ns X.env.locals m) (da:oJ X.prog X.w H' h') (hg:AllBare g') :
 Inv X pins σ H' {s with heap:=h',gens:=g',drawn:=d',toks:=t' }:=by
 have WD:∀b o,X.s₀.heap.get? b=some o->b≠X.env.locals:=fun b o e=>zaw (zaB (Heap.lt_size e) I.ok.above);have Sd:∀b o,X.s₀.heap.get? b=some o->b ∉ X.ex->b ∉ ch:=fun b o e hx hb=>by
  rcases(Ir b hb).1 with z |z
  ·exact hx z
  ·exact absurd (zaB (Heap.lt_size e) z) (za7 _)
 have cellK:∀x c,X.env.cells.lookup x=some c->∀v,s.heap.IsCell c v->h'.IsCell c v:=fun x c e v ⟨o,ho,hd⟩=>by
  have O7:c ∉ ch:=fun z=>(Ir c z).2.2.1 x c e rfl;by_cases hc:c∈X.fs
  ·obtain⟨sl,q⟩:=slot c o (I.Mf x c e) hc O7 ho (I.mf x c e);exact⟨_,q,hd⟩
  ·exact⟨o,keep c o (I.Mf x c e) hc O7 ho (I.mf x c e),hd⟩
 refine⟨I.ok,I.os,hg,⟨fun b o e n hb hx=>?_,fun b o e n hb hx=>?_,fun b o e n hx=>?_,fun b o e hx=>?_,fun b xs e=>qm b xs (I.base.qm b xs e),fun b o xs e=>pk b o xs (I.base.pk b o xs e),fun b ps e=>?_⟩,?_,fun x c e=>?_,?_,fun x c e=>?_,fun p hp=>?_,da,I.len⟩
 ·exact keep b o (WD b o e) hb (Sd b o e hx) (I.base.keep b o e n hb hx) (I.base.free b o e n hx)
 ·obtain⟨sl,e1⟩:=I.base.slot b o e n hb hx;obtain⟨S6,e2⟩:=slot b _ (WD b o e) hb (Sd b o e hx) e1 (I.base.free b o e n hx);exact⟨S6,e2⟩
 ·obtain⟨o',e1⟩:=I.base.there b o e hx;exact free b o' (Sd b o e hx) e1 (I.base.free b o e n hx)
 ·obtain⟨o',e1⟩:=I.base.there b o e hx;exact there b o' (Sd b o e hx) e1
 ·obtain⟨m1,e1⟩:=I.base.qo b ps e;obtain⟨m2,e2⟩:=qo b _ e1;exact⟨m1++m2,by rw[e2,Array.append_assoc]⟩
 ·obtain⟨m,hn,hl⟩:=I.loc;refine⟨m,ns m hn,fun i x v e1 e2 e3=>?_⟩;obtain⟨u,r,l⟩:=hl i x v e1 e2 e3;refine⟨u,r,?_⟩;rcases l with l |⟨k,c,e,z⟩
  ·exact .inl l
  ·exact .inr ⟨k,c,e,cellK x c e _ z⟩
 ·obtain⟨v,z⟩:=I.cell x c e;exact⟨v,cellK x c e v z⟩
 ·obtain⟨m,⟨o,_,_,ho,_⟩,_⟩:=I.loc;exact free _ o (fun z=>(Ir _ z).2.1 rfl) ho I.free
 ·obtain⟨v,o,ho,hd⟩:=I.cell x c e;exact free c o (fun z=>(Ir c z).2.2.1 x c e rfl) ho (I.mf x c e)
 ·obtain⟨e,n,ne,nf,d⟩:=I.pin p hp;have O7:p.1 ∉ ch:=fun z=>(Ir p.1 z).2.2.2 p hp rfl;exact⟨keep p.1 p.2 ne nf O7 e n,free p.1 p.2 O7 e n,ne,nf,d⟩
theorem Inv.un{t':Nat}(I:Inv X pins σ H s)(u:Un X.fs [] H H' s.heap h')(da:oJ X.prog X.w H' h'):Inv X pins σ H' {s with heap:=h',toks:=t' }:=by
 obtain⟨m,⟨o,es,ep,ho,r⟩,_⟩:=id I.loc;obtain⟨sl,hL⟩:=u.any ho I.free (by simp);exact I.step (g':=s.gens) (d':=s.drawn) (ch:=[]) (fun _ z=>nomatch z) (fun b o _ hb _ e n=>u.keep b o e n hb (by simp)) (fun b o _ hb _ e n=>u.slot b o e n hb (by simp)) (fun b o _ e n=>u.free b o e n (by simp)) (fun b o _ e=>u.there b o e (by simp)) u.qm u.pk u.qo (fun m' hm=>by
  obtain⟨o',S9,O8,Mg,r'⟩:=hm;rw[ho] at Mg;cases Mg;exact⟨_,S9,O8,hL,r'⟩) da I.bare
theorem Inv.call{g':Array GenState}{t':Nat}{d':Drawn}{ch:List zdm}(I:Inv X pins σ H s)(u:Un (iS X.stack) ch H H' s.heap h')(da:oJ X.prog X.w H' h')(hg:AllBare g')
 (Ir:∀b∈ch,(b∈X.ex\/X.s₀.heap.objs.size<=b)/\b≠X.env.locals/\(∀x c,X.env.cells.lookup x=some c->c≠b)/\∀p∈X.pn++pins,p.1≠b) :
 Inv X pins σ H' {s with heap:=h',gens:=g',drawn:=d',toks:=t' }:=by
 obtain⟨m,⟨o,es,ep,ho,r⟩,_⟩:=id I.loc;obtain⟨sl,hL⟩:=u.any ho I.free fun z=>(Ir _ z).2.1 rfl;exact I.step (ch:=ch) Ir (fun b o hL hb hc e n=>u.keep b o e n (fun z=>(zag.mp (I.wV b z)).elim hL hb) hc) (fun b o _ _ hc e n=>u.any e n hc) (fun b o hc e n=>u.free b o e n hc) (fun b o hc e=>u.there b o e hc) u.qm u.pk u.qo (fun m' hm=>by
  obtain⟨o',S9,O8,Mg,r'⟩:=hm;rw[ho] at Mg;cases Mg;exact⟨_,S9,O8,hL,r'⟩) da hg
theorem Inv.turned{t':Nat}{it:zdm}(I:Inv X pins σ H s)(k:∀b o,b≠it->s.heap.get? b=some o->h'.get? b=some o)(hn:H it=none)(hL:it≠X.env.locals)
 (h1:it∈X.ex\/X.s₀.heap.objs.size<=it) (h2:∀x c,X.env.cells.lookup x=some c->c≠it) (h3:∀p∈X.pn++pins,p.1≠it):Inv X pins σ H {s with heap:=h',toks:=t' }:=by
 have O9:∀b u,H b=some u->b≠it:=fun b u e z=>by rw[z,hn] at e;cases e
 refine I.step (g':=s.gens) (d':=s.drawn) (ch:=[it]) (fun b hb=>?_) (fun b o _ _ hc e _=>k b o (fun z=>hc (by simp[z])) e) (fun b o _ _ hc e _=>⟨o.slots,k b o (fun z=>hc (by simp[z])) e⟩) (fun _ _ _ _ n=>n)
  (fun b o hc e=>⟨o,k b o (fun z=>hc (by simp[z])) e⟩) (fun _ _ e=>e) (fun _ _ _ e=>e) (fun b ps e=>⟨#[],by rw[e];simp⟩) (fun m hm=>?_) (fun b u e=>?_) I.bare
 ·have e:b=it:=by simpa using hb
  subst e;exact⟨h1,hL,h2,h3⟩
 ·obtain⟨o,es,ep,ho,r⟩:=hm;exact⟨o,es,ep,k _ o (Ne.symm hL) ho,r⟩
 ·refine(I.da b u e).yo (fun c v hc q=>k c v ?_ q) (fun _ q=>q) fun _ _ q=>q;rcases hc with z |z
  ·rw[z];exact O9 b u e
  ·exact O9 c _ z
theorem Inv.tok(I:Inv X pins σ H s)(t:Nat):Inv X pins σ H {s with toks:=t}:=I.un (h':=s.heap) (t':=t) Un.refl I.da
theorem Inv.kept{t':Nat}(I:Inv X pins σ H s)(k:∀b u,s.heap.get? b=some u->h'.get? b=some u):Inv X pins σ H {s with heap:=h',toks:=t' }:=I.un (Un.kept k) (I.da.kept k)
theorem Inv.laid{a:zdm}{o:HO}{t':Nat}(I:Inv X pins σ H s)(k:∀b u,s.heap.get? b=some u->h'.get? b=some u)(hp:s.heap.objs.size<=a)(new:dP X.prog X.w (upd H a o) h' a o) :
 Inv X pins σ (upd H a o) {s with heap:=h',toks:=t' }:=I.un (Un.laid k hp (I.da.fresh hp)) (I.da.laid k hp new)
theorem Inv.write{x e:zdm}{o:HO}{t':Nat}(I:Inv X pins σ H s)(mu:O4 (H x))(he:e=x\/H e=some (.own x))(k:∀b u,b≠e->s.heap.get? b=some u->h'.get? b=some u)(Oy:∃u,h'.get? e=some u)
 (new:dP X.prog X.w (upd H x o) h' x o):Inv X pins σ (upd H x o) {s with heap:=h',toks:=t' }:=I.un (Un.write mu he k Oy) (I.da.write mu he k Oy new)
theorem Inv.BH{BJ:List (zdm×Obj)}(I:Inv X pins σ H s)(h:∀p∈BJ,s.heap.get? p.1=some p.2/\H p.1=none/\p.1≠X.env.locals/\p.1 ∉ X.fs/\∀v,p.2.data≠.cell v):Inv X BJ σ H s:=
 ⟨I.ok,I.os,I.bare,I.base,I.loc,I.cell,I.free,I.mf,fun p hp=>(zai.mp hp).elim (fun z=>I.pin p (zbn _ z)) (h p),I.da,I.len⟩
theorem yr{N:List Str}(hN:N.Nodup){i j:Nat}{x:Str}(a:N[i]?=some x)(b:N[j]?=some x):i=j:=by
 obtain⟨h1,e1⟩:=zal.mp a;obtain⟨h2,e2⟩:=zal.mp b;exact(zbN hN).mp (e1.trans e2.symm)
theorem vN{M:Model}{A:zdx}{E:zdn->zdw->Prop}{i:Nat}{x:Str}{v:V}{u:zdn}{Q:Unit->zdw->Prop}(I:Inv X pins σ H s)(hN:X.N.Nodup)(hi:X.N[i]?=some x)(hx:Loc X.env.scope x)(r:RelV v u)
 (h:∀s',Inv X pins (σ.set i (some v)) H s'->(∃a,Heap.SameBut a s.heap s'.heap/\(a=X.env.locals\/X.env.cells.lookup x=some a))->Q () s') (hf:X.fn x=true\/X.env.scope.names.lookup x=some .local:=by first |exact .inl rfl |exact .inr rfl |assumption):wpAny M A (storeName X.env x u) Q E s:=by
 obtain⟨m,hn,hl⟩:=id I.loc;have Ta:(X.env.scope.kind==.class ||(X.env.scope.kind==.module&&X.env.locals != X.env.globals))=false:=by rw[I.ok.kind];rfl
 have Pa:i<σ.length:=by rw[I.len];exact(zal.mp hi).1
 have Mf:=I.Mf;have tracked:∀ {a:zdm} {h':Heap},(∃o,s.heap.get? a=some o/\H a=none)->Heap.SameBut a s.heap h'->oJ X.prog X.w H h':=fun {a h'} ha hs b ob e=>by
  obtain⟨_,_,mh⟩:=ha;refine(I.da b ob e).yo (fun c w' hc q=>(hs.2 c ?_).trans q) (fun _ q=>q) fun _ _ q=>q
  rintro rfl
  rcases hc with rfl |hc
  ·rw[mh] at e;cases e
  ·rw[mh] at hc;cases hc
 rcases hx with hk |hk
 ·refine wpAny_storeName_local hk hn (fun h' Y5 hs=>?_) Ta;obtain⟨oL,_,_,Pb,_⟩:=id hn;refine h _ ⟨I.ok,I.os,I.bare,⟨fun b o e n hb hx=>?_,fun b o e n hb hx=>?_,I.base.free,fun b o e hx=>?_,I.base.qm,I.base.pk,I.base.qo⟩,⟨_,Y5,fun j y v' e1 e2 e3=>?_⟩,fun y c e=>?_,I.free,I.mf,fun p hp=>?_,tracked ⟨oL,Pb,I.free⟩ hs,by simpa using I.len⟩ ⟨_,hs,.inl rfl⟩
  ·exact(hs.2 b (zaw (zaB (Heap.lt_size e) I.ok.above))).trans (I.base.keep b o e n hb hx)
  ·obtain⟨sl,e1⟩:=I.base.slot b o e n hb hx;exact⟨sl,(hs.2 b (zaw (zaB (Heap.lt_size e) I.ok.above))).trans e1⟩
  ·obtain⟨o',e1⟩:=I.base.there b o e hx;exact⟨o',(hs.2 b (zaw (zaB (Heap.lt_size e) I.ok.above))).trans e1⟩
  ·by_cases hj:j=i
   ·subst hj;rw[hi] at e1;cases e1;rw[zbi Pa] at e2;cases e2;exact⟨u,r,.inl ⟨hk,by simp⟩⟩
   ·rw[zbo (Ne.symm hj)] at e2;obtain⟨u',r',q⟩:=hl j y v' e1 e2 e3;refine⟨u',r',?_⟩;rcases q with ⟨k,e⟩ |⟨k,c,e,z⟩
    ·refine .inl ⟨k,?_⟩;have:y≠x:=fun e=>hj (yr hN e1 (e▸hi));simp[this,e]
    ·exact .inr ⟨k,c,e,z.sameBut hs (Mf y c e)⟩
  ·obtain⟨w',z⟩:=I.cell y c e;exact⟨w',z.sameBut hs (Mf y c e)⟩
  ·obtain⟨e,n,ne,nf,d⟩:=I.pin p hp;exact⟨(hs.2 p.1 ne).trans e,n,ne,nf,d⟩
 ·have Pc:X.fn x=true:=by
   rcases hf with z |z
   ·exact z
   ·rw[z] at hk;cases hk
  obtain⟨c,hc⟩:=I.ok.has x (.inl hk);obtain⟨w',z⟩:=I.cell x c hc;refine wpAny_storeName_cell I.ok.kind hk hc z (fun h' Pd hs=>?_);obtain⟨oc,WE,Tb⟩:=id z;refine h {s with heap:=h' } ⟨I.ok,I.os,I.bare,⟨fun b o e n hb hx=>?_,fun b o e n hb hx=>?_,I.base.free,fun b o e hx=>?_,I.base.qm,I.base.pk,I.base.qo⟩,⟨m,hn.sameBut hs (Ne.symm (Mf x c hc)),fun j y v' e1 e2 e3=>?_⟩,fun y c' e=>?_,I.free,I.mf,fun p hp=>?_,tracked ⟨oc,WE,I.mf x c hc⟩ hs,by simpa using I.len⟩ ⟨c,hs,.inr hc⟩
  ·exact(hs.2 b (zaw (zaB (Heap.lt_size e) (I.ok.O6 x c Pc hc)))).trans (I.base.keep b o e n hb hx)
  ·obtain⟨sl,e1⟩:=I.base.slot b o e n hb hx;exact⟨sl,(hs.2 b (zaw (zaB (Heap.lt_size e) (I.ok.O6 x c Pc hc)))).trans e1⟩
  ·obtain⟨o',e1⟩:=I.base.there b o e hx;exact⟨o',(hs.2 b (zaw (zaB (Heap.lt_size e) (I.ok.O6 x c Pc hc)))).trans e1⟩
  ·by_cases hj:j=i
   ·subst hj;rw[hi] at e1;cases e1;rw[zbi Pa] at e2;cases e2;exact⟨u,r,.inr ⟨.inl hk,c,hc,Pd⟩⟩
   ·rw[zbo (Ne.symm hj)] at e2;obtain⟨u',r',q⟩:=hl j y v' e1 e2 e3;refine⟨u',r',?_⟩;rcases q with q |⟨k,c',e,z'⟩
    ·exact .inl q
    ·refine .inr ⟨k,c',e,z'.sameBut hs ?_⟩
     rintro rfl
     exact hj (yr hN e1 (I.ok.inj _ _ _ e hc▸hi))
  ·by_cases WG:c'=c
   ·subst WG;exact⟨_,Pd⟩
   ·obtain⟨w2,z2⟩:=I.cell y c' e;exact⟨w2,z2.sameBut hs WG⟩
  ·obtain⟨e,n,ne,nf,d⟩:=I.pin p hp;refine⟨(hs.2 p.1 ?_).trans e,n,ne,nf,d⟩;intro q;rw[q,WE] at e;have q':oc=p.2:=zaH.inj e;exact d w' (by rw[<- q'];exact Tb)
theorem yt{M:Model}{A:zdx}{E:zdn->zdw->Prop}{i:Nat}{x:Str}{v:V}{u:zdn}{Q:Unit->zdw->Prop}(I:Inv X pins σ H s)(hN:X.N.Nodup)(hi:X.N[i]?=some x)(hx:Loc X.env.scope x)(r:RelV v u)
 (h:∀s',Inv X pins (σ.set i (some v)) H s'->Q () s') (hf:X.fn x=true\/X.env.scope.names.lookup x=some .local:=by first |exact .inl rfl |exact .inr rfl |assumption):wpAny M A (storeName X.env x u) Q E s:=
 vN I hN hi hx r (fun s' I' _=>h s' I') hf
theorem Inv.Pe{s':zdw}{ch:List zdm}(I:Inv X pins σ H s)(ho:s'.os=s.os)(u:Un (iS X.stack) ch H H' s.heap s'.heap)(da:oJ X.prog X.w H' s'.heap)(hg:AllBare s'.gens)
 (Ir:∀b∈ch,(b∈X.ex\/X.s₀.heap.objs.size<=b)/\b≠X.env.locals/\(∀x c,X.env.cells.lookup x=some c->c≠b)/\∀p∈X.pn++pins,p.1≠b):Inv X pins σ H' s':=by
 obtain⟨h',g',d',t',o'⟩:=s';have e:o'=s.os:=ho;subst e;exact I.call (g':=g') (t':=t') (d':=d') u da hg Ir
end
abbrev XK:=zdn->Option zdm->Hp->Prop
abbrev St:=List (Option V)
abbrev VK:=V->Hp->Prop
abbrev TE:=St->Hp->VK->Prop
abbrev TT:=St->Hp->(Bool->Hp->Prop)->Prop
abbrev TA:=St->Hp->(List V->Hp->Prop)->Prop
structure Ends where
 nx:St->Hp->Prop
 rt:VK
 bk:St->Hp->Prop:=fun _ _=>False
 ct:St->Hp->Prop:=fun _ _=>False
abbrev TS:=Ends->St->Hp->Prop
def EP (X:Cx) (pins:List (zdm×Obj)) (σ:St) (Q:VK) (u:zdn) (s':zdw):Prop:=∃v H',Inv X pins σ H' s'/\RelV v u/\Q v H'
def TP (X:Cx) (pins:List (zdm×Obj)) (σ:St) (Q:Bool->Hp->Prop) (b:Bool) (s':zdw):Prop:=∃H',Inv X pins σ H' s'/\Q b H'
def AP (X:Cx) (pins:List (zdm×Obj)) (σ:St) (Q:List V->Hp->Prop) (us:List zdn) (s':zdw):Prop:=∃vs H',Inv X pins σ H' s'/\Vals vs us/\Q vs H'
def SP (X:Cx) (pins:List (zdm×Obj)) (D:Ends) (f:Flow) (s':zdw):Prop:=
 match f with
 |.next=>∃σ' H',Inv X pins σ' H' s'/\D.nx σ' H'
 |.brk=>∃σ' H',Inv X pins σ' H' s'/\D.bk σ' H'
 |.cont=>∃σ' H',Inv X pins σ' H' s'/\D.ct σ' H'
 |.ret u=>∃v σ' H',Inv X pins σ' H' s'/\RelV v u/\D.rt v H'
def PE (X:Cx) (e:Expr) (t:TE):Prop:=
 ∀(pins:List (zdm×Obj)) (s:zdw) (σ:St) (H:Hp) (Q:VK),Inv X pins σ H s->t σ H Q->wpAny (model X.prog X.w) X.A (eval e X.env) (EP X pins σ Q) X.xe s
def PT (X:Cx) (e:Expr) (t:TT):Prop:=
 ∀(pins:List (zdm×Obj)) (s:zdw) (σ:St) (H:Hp) (Q:Bool->Hp->Prop),Inv X pins σ H s->t σ H Q->wpAny (model X.prog X.w) X.A (isTrue e X.env (eval e X.env)) (TP X pins σ Q) X.xe s
def PW (X:Cx) (e:Expr) (t:TT):Prop:=
 ∀(whole:Sem zdn) (pins:List (zdm×Obj)) (s:zdw) (σ:St) (H:Hp) (Q:Bool->Hp->Prop),Inv X pins σ H s->t σ H Q->wpAny (model X.prog X.w) X.A (isTrue e X.env whole) (TP X pins σ Q) X.xe s
theorem PW.pt{X:Cx}{e:Expr}{t:TT}(h:PW X e t):PT X e t:=h _
def PA (X:Cx) (es:List Expr) (t:TA):Prop:=
 ∀(pos:Pos) (pins:List (zdm×Obj)) (s:zdw) (σ:St) (H:Hp) (Q:List V->Hp->Prop),Inv X pins σ H s->t σ H Q->wpAny (model X.prog X.w) X.A (spliced (backTo pos (zds es X.env))) (AP X pins σ Q) X.xe s
def PS (X:Cx) (st:Stmt) (t:TS):Prop:=
 ∀(pins:List (zdm×Obj)) (s:zdw) (σ:St) (H:Hp) (D:Ends),Inv X pins σ H s->t D σ H->wpAny (model X.prog X.w) X.A (exec st X.env) (SP X pins D) X.xe s
def BK (X:Cx) (st:List Stmt) (t:TS):Prop:=
 ∀(pins:List (zdm×Obj)) (s:zdw) (σ:St) (H:Hp) (D:Ends),Inv X pins σ H s->t D σ H->wpAny (model X.prog X.w) X.A (execs st X.env) (SP X pins D) X.xe s
theorem dw{α:Type}{t:Sem α}{Q Q':α->zdw->Prop}{M:Model}{A:zdx}{E:zdn->zdw->Prop}{s:zdw}(h:wpAny M A t Q E s)(hQ:∀a s,Q a s->Q' a s):wpAny M A t Q' E s:=wpAny_mono h hQ fun _ _ x=>x
section
variable{X:Cx}
theorem bin{a b:Expr}{ta tb:TE}(ha:PE X a ta)(hb:PE X b tb){pins:List (zdm×Obj)}{s:zdw}{σ:St}{H:Hp}{R:V->V->Hp->Prop}(I:Inv X pins σ H s)(h:ta σ H fun x H1=>tb σ H1 fun y H2=>R x y H2)
 {α:Type} {Q:α->zdw->Prop} {f:zdn->zdn->Sem α}
 (hf:∀v u s2 x y H2,Inv X pins σ H2 s2->RelV x v->RelV y u->R x y H2->wpAny (model X.prog X.w) X.A (f v u) Q X.xe s2) :
 wpAny (model X.prog X.w) X.A (eval a X.env) (fun v s₁=>wpAny (model X.prog X.w) X.A (eval b X.env) (fun u s₂=>wpAny (model X.prog X.w) X.A (f v u) Q X.xe s₂) X.xe s₁) X.xe s:=by
 refine dw (ha pins s σ H _ I h) fun v s1 zqz=>?_;obtain⟨x,H1,I1,r1,q1⟩:=zqz;refine dw (hb pins s1 σ H1 _ I1 q1) fun u s2 zqz=>?_;obtain⟨y,H2,I2,r2,q2⟩:=zqz;exact hf v u s2 x y H2 I2 r1 r2 q2
def WH (Q:V->Prop):Option (Option V)->Prop
 |some (some v)=>Q v
 |_=>False
theorem Mh{Q:V->Prop}:∀ {o:Option (Option V)},WH Q o->∃v,o=some (some v)/\Q v
 |some (some v),h=>⟨v,rfl,h⟩
 |some none,h=>h.elim
 |none,h=>h.elim
def fY (i:Nat):TE:=fun σ H Q=>WH (fun v=>Q v H) σ[i]?
def tC (v:V):TE:=fun _ H Q=>Q v H
theorem Mi{i:Nat}{x:Str}{pos:Pos}(hN:X.N[i]?=some x)(hv:Sa X.env.scope x)(hd:(x==("__debug__":Str))=false:=by decide)(ET:(x==("__classdict__":Str))=false:=by decide):PE X (.Name x pos) (fY i):=by
 intro pins s σ H Q I h;obtain⟨v,e,h⟩:=Mh h;obtain⟨m,hn,hl⟩:=I.loc;obtain⟨u,r,l⟩:=hl i x v hN e hv;have fin:EP X pins σ Q u s:=⟨v,H,I,r,h⟩
 rcases l with ⟨hk,hm⟩ |⟨hk,c,hc,BL⟩
 ·exact wpAny_Name (wpAny_loadName_local I.ok.kind hk hn hm fin) hd
 ·rcases hk with hk |hk
  ·exact wpAny_Name (wpAny_loadName_cell I.ok.kind hk hc BL fin) hd
  ·exact wpAny_Name (wpAny_loadName_free I.ok.kind hk hc BL fin ET) hd
theorem ai{i j pos}:PE X (.Constant (.int i) j pos) (tC (.int i)):=fun _ _ _ H _ I h=>wpAny_Constant_int ⟨.int i,H,I.tok _,⟨_,rfl⟩,h⟩
theorem rz{b j pos}:PE X (.Constant (.bool b) j pos) (tC (.bl b)):=fun _ _ _ H _ I h=>Constant_bool ⟨.bl b,H,I,rfl,h⟩
theorem gA{j pos}:PE X (.Constant .none j pos) (tC .bO):=fun _ _ _ H _ I h=>Constant_none ⟨.bO,H,I,rfl,h⟩
theorem bw{x j pos}:PE X (.Constant (.str x) j pos) (tC (.str x)):=fun _ _ _ H _ I h=>Calls.Constant_str ⟨.str x,H,I.tok _,⟨_,rfl⟩,h⟩
def Gl (X:Cx) (x:Str):Prop:=X.env.kindOf x=some .globalImplicit
theorem wW{E:zdn->zdw->Prop}{pins:List (zdm×Obj)}{s:zdw}{σ:St}{H:Hp}{x:Str}{u:zdn}{pos:Pos}{Q:zdn->zdw->Prop}(I:Inv X pins σ H s)(hg:Gl X x)(hm:X.mg x=some u)(h:Q u s)
 (hd:(x==("__debug__":Str))=false:=by decide):wpAny (model X.prog X.w) X.A (eval (.Name x pos) X.env) Q E s:=
 Calls.Name_function_global I.ok.kind hg (Calls.loadGlobal_global (by rw[I.ok.glob];exact I.mod.glob.keeps I.bk) hm h) hd
theorem mi{E:zdn->zdw->Prop}{pins:List (zdm×Obj)}{s:zdw}{σ:St}{H:Hp}{x:Str}{u:zdn}{pos:Pos}{Q:zdn->zdw->Prop}(I:Inv X pins σ H s)(hg:Gl X x)(hm:X.mg x=none)(hv:bootBuiltins x=some u)(h:Q u s)
 (hn:x≠"__name__":=by decide) (hd:(x==("__debug__":Str))=false:=by decide):wpAny (model X.prog X.w) X.A (eval (.Name x pos) X.env) Q E s:=by
 obtain⟨mb,h1,h2⟩:=I.mod.blt;exact Calls.Name_function_global I.ok.kind hg (Calls.loadGlobal_builtin (by rw[I.ok.glob];exact I.mod.glob.keeps I.bk) hm (by rw[I.ok.blt];exact h1.keeps I.bk) ((h2 x hn).trans hv) h) hd
theorem sJ{x:Str}{v:V}{u:zdn}{pos:Pos}(hg:Gl X x)(hm:X.mg x=some u)(r:RelV v u)(hd:(x==("__debug__":Str))=false:=by decide):PE X (.Name x pos) (tC v):=
 fun _ _ _ H _ I h=>wW I hg hm ⟨v,H,I,r,h⟩ hd
variable{a b:Expr}{ta tb:TE}{pos:Pos}
def PC (X:Cx) (op:CmpOp) (a b:Expr) (t:TE):Prop:=
 ∀(pins:List (zdm×Obj)) (s:zdw) (σ:St) (H:Hp) (Q:VK),Inv X pins σ H s->t σ H Q->
  wpAny (model X.prog X.w) X.A (eval a X.env) (fun v s₁=>wpAny (model X.prog X.w) X.A (eval b X.env) (fun u s₂=>wpAny (model X.prog X.w) X.A (compareOp op v u) (EP X pins σ Q) X.xe s₂) X.xe s₁) X.xe s
def tB (t:TE):TT:=fun σ H Q=>t σ H fun x H1=>∃c,x=.bl c/\Q c H1
theorem EU{op:CmpOp}{t:TE}(h:PC X op a b t)(h1:behindInMarks op b=false:=by first |exact EW _ (by decide) (by decide) |rfl):PE X (.Compare a [op] [b] pos) t:=fun pins s σ H Q I hw=>wpAny_Compare1 (h pins s σ H Q I hw) h1
theorem Mj{op:CmpOp}{t:TE}(h:PC X op a b t)(h1:behindInMarks op b=false:=by first |exact EW _ (by decide) (by decide) |rfl):PT X (.Compare a [op] [b] pos) (tB t):=by
 intro pins s σ H Q I hw;refine wpAny_isTrue_Compare1 (dw (h pins s σ H _ I hw) fun v s1 h1=>dw h1 fun u s2 h2=>dw h2 fun c s3 zqz=>?_) h1;obtain⟨x,H1,I1,r1,q1⟩:=zqz;obtain⟨d,rfl,q⟩:=q1;cases r1;exact wpAny_truthy_bool ⟨H1,I1,q⟩
theorem gO{e:Expr}{t:TE}(h:PE X e t)(he:∀whole,isTrue e X.env whole=(do let v <- whole;standAt e.pos;holding [v] (truthy v)):=by intro _;rfl):PT X e (tB t):=by
 intro pins s σ H Q I hw;refine isTrue_plain (dw (h pins s σ H _ I hw) fun v s1 zqz=>?_) (he _);obtain⟨x,H1,I1,r1,q1⟩:=zqz;obtain⟨d,rfl,q⟩:=q1;cases r1;exact wpAny_truthy_bool ⟨H1,I1,q⟩
variable{tA Se:TT}{rest:List Expr}
def Ml (t u:TT):TT:=fun σ H Q=>t σ H fun c H1=>if c=true then u σ H1 Q else Q false H1
def Tc (t u:TT):TT:=fun σ H Q=>t σ H fun c H1=>if c=true then Q true H1 else u σ H1 Q
def Pf (t:TT):TT:=fun σ H Q=>t σ H fun c H1=>Q (!c) H1
theorem pw_and1(ha:PT X a tA):PW X (.BoolOp .And [a] pos) tA:=by
 intro wh pins s σ H Q I h;refine isTrue_and (dw (ha pins s σ H Q I h) fun c s1 e=>?_);cases c with
 |true=>exact isTrue_and_nil e
 |false=>exact e
theorem pw_or1(ha:PT X a tA):PW X (.BoolOp .Or [a] pos) tA:=by
 intro wh pins s σ H Q I h;refine isTrue_or (dw (ha pins s σ H Q I h) fun c s1 e=>?_);cases c with
 |false=>exact isTrue_or_nil e
 |true=>exact e
theorem pw_and(ha:PT X a tA)(hb:PW X (.BoolOp .And (b::rest) pos) Se):PW X (.BoolOp .And (a::b::rest) pos) (Ml tA Se):=by
 intro wh pins s σ H Q I h;refine isTrue_and (dw (ha pins s σ H _ I h) fun c s1 zqz=>?_);obtain⟨H1,I1,q1⟩:=zqz;cases c with
 |true=>exact hb wh pins s1 σ H1 Q I1 q1
 |false=>exact⟨H1,I1,q1⟩
theorem pw_or(ha:PT X a tA)(hb:PW X (.BoolOp .Or (b::rest) pos) Se):PW X (.BoolOp .Or (a::b::rest) pos) (Tc tA Se):=by
 intro wh pins s σ H Q I h;refine isTrue_or (dw (ha pins s σ H _ I h) fun c s1 zqz=>?_);obtain⟨H1,I1,q1⟩:=zqz;cases c with
 |true=>exact⟨H1,I1,q1⟩
 |false=>exact hb wh pins s1 σ H1 Q I1 q1
theorem Au(ha:PT X a tA):PT X (.UnaryOp .Not a pos) (Pf tA):=by
 intro pins s σ H Q I h;exact isTrue_not (ha pins s σ H (fun c H1=>Q (!c) H1) I h)
def EX (ta tb:TE):TE:=fun σ H Q=>ta σ H fun x H1=>∃c,x=.bl c/\if c=true then tb σ H1 Q else Q (.bl false) H1
def Mn (ta tb:TE):TE:=fun σ H Q=>ta σ H fun x H1=>∃c,x=.bl c/\if c=true then Q (.bl true) H1 else tb σ H1 Q
def EY (ta:TE):TE:=fun σ H Q=>ta σ H fun x H1=>∃c,x=.bl c/\Q (.bl (!c)) H1
theorem wX{op}{t:TE}(h:PE X a t):PE X (.BoolOp op [a] pos) t:=fun pins s σ H Q I hw=>BoolOp_one (h pins s σ H Q I hw)
theorem Av(ha:PE X a ta)(hb:PE X (.BoolOp .And (b::rest) pos) tb):PE X (.BoolOp .And (a::b::rest) pos) (EX ta tb):=by
 intro pins s σ H Q I h;refine BoolOp_and (dw (ha pins s σ H _ I h) fun v s1 zqz=>?_);obtain⟨x,H1,I1,r1,q1⟩:=zqz;obtain⟨c,rfl,q1⟩:=q1;cases r1;refine wpAny_truthy_bool ?_;cases c with
 |true=>exact hb pins s1 σ H1 Q I1 q1
 |false=>exact⟨.bl false,H1,I1,rfl,q1⟩
theorem Pg(ha:PE X a ta)(hb:PE X (.BoolOp .Or (b::rest) pos) tb):PE X (.BoolOp .Or (a::b::rest) pos) (Mn ta tb):=by
 intro pins s σ H Q I h;refine BoolOp_or (dw (ha pins s σ H _ I h) fun v s1 zqz=>?_);obtain⟨x,H1,I1,r1,q1⟩:=zqz;obtain⟨c,rfl,q1⟩:=q1;cases r1;refine wpAny_truthy_bool ?_;cases c with
 |false=>exact hb pins s1 σ H1 Q I1 q1
 |true=>exact⟨.bl true,H1,I1,rfl,q1⟩
theorem Mo(ha:PE X a ta):PE X (.UnaryOp .Not a pos) (EY ta):=by
 intro pins s σ H Q I h;refine UnaryOp_ (dw (ha pins s σ H _ I h) fun v s1 zqz=>?_);obtain⟨x,H1,I1,r1,q1⟩:=zqz;obtain⟨c,rfl,q1⟩:=q1;cases r1;exact not_of (wpAny_truthy_bool ⟨.bl (!c),H1,I1,rfl,q1⟩)
def Td (t:TT) (ta tb:TE):TE:=fun σ H Q=>t σ H fun c H1=>if c=true then ta σ H1 Q else tb σ H1 Q
theorem tw{c:Expr}(hc:PT X c tA)(ha:PE X a ta)(hb:PE X b tb):PE X (.IfExp c a b pos) (Td tA ta tb):=by
 intro pins s σ H Q I h;refine wpAny_IfExp (dw (hc pins s σ H _ I h) fun d s1 zqz=>?_);obtain⟨H1,I1,q1⟩:=zqz;cases d with
 |true=>exact ha pins s1 σ H1 Q I1 q1
 |false=>exact hb pins s1 σ H1 Q I1 q1
end
def fF (K:zaa) (H:Hp) (a:zdm) (xs:List V):Prop:=
 Rd H a (.lst xs)\/
  ∃(o:Obj) (bq:Array zdn) (n:Nat),K.lookup a=some o/\o.cls=.type "list"/\o.dict=none/\o.data=.seq bq n/\bq.size<=zdu/\Vals xs bq.toList
def bS (K:zaa) (H:Hp) (a:zdm) (xs:List V):Prop:=
 Rd H a (.tup xs)\/
  ∃(o:Obj) (bq:Array zdn) (n:Nat),K.lookup a=some o/\o.cls=.type "tuple"/\o.data=.seq bq n/\bq.size<=zdu/\Vals xs bq.toList
def Te:zdn->Option V
 |.none=>some .bO
 |.bool b=>some (.bl b)
 |.int i _=>some (.int i)
 |.str x _=>some (.str x)
 |.bytes b _=>some (.BE b)
 |.float b _=>some (.R6 b)
 |.ref a=>some (.ref a)
 |.type n=>some (.ty n)
 |_=>none
theorem RelV.abs{x:V}{u:zdn}(r:RelV x u):Te u=some x:=by
 cases x with
 |bO=>cases r;rfl
 |bl _=>cases r;rfl
 |int _=>obtain⟨t,rfl⟩:=r;rfl
 |str _=>obtain⟨t,rfl⟩:=r;rfl
 |BE _=>obtain⟨t,rfl⟩:=r;rfl
 |R6 _=>obtain⟨t,rfl⟩:=r;rfl
 |ref _=>cases r;rfl
 |ty _=>cases r;rfl
theorem RelV.inj{x y:V}{u:zdn}(r:RelV x u)(q:RelV y u):x=y:=zaH.inj (r.abs.symm.trans q.abs)
theorem Vals.inj:∀ {xs ys:List V} {us:List zdn},Vals xs us->Vals ys us->xs=ys
 |_,_,_,.nil,.nil=>rfl
 |_,_,_,.cons r t,.cons r' t'=>by rw[r.inj r',Vals.inj t t']
section
variable{X:Cx}{pins:List (zdm×Obj)}{σ:St}{H:Hp}{s:zdw}{a:zdm}{xs ys:List V}
theorem fF.of{K:zaa}(h:H a=some (.lst xs)):fF K H a xs:=.inl (.inl h)
theorem bS.of{K:zaa}(h:H a=some (.tup xs)):bS K H a xs:=.inl (.inl h)
theorem Inv.list(I:Inv X pins σ H s)(h:fF X.K H a xs):∃bq:List zdn,Vals xs bq/\PlainL s.heap a bq.toArray/\xs.length<=zdu:=by
 rcases h with h |⟨o,bq,n,hk,hc,hd,hs,hz,r⟩
 ·obtain⟨z,bq,n,r,e⟩:=h.ok I.da;exact⟨bq,r,⟨_,n,e,rfl,rfl,rfl⟩,z⟩
 ·refine⟨bq.toList,r,⟨o,n,I.ES a o hk,hc,hd,by simpa using hs⟩,?_⟩;have e:=r.length;simp only[zbx] at e;lia
theorem Inv.tuple(I:Inv X pins σ H s)(h:bS X.K H a xs):∃bq:List zdn,Vals xs bq/\IsTup s.heap a bq.toArray/\xs.length<=zdu:=by
 rcases h with h |⟨o,bq,n,hk,hc,hs,hz,r⟩
 ·obtain⟨z,bq,r,p⟩:=h.ok I.da;exact⟨bq,r,p,z⟩
 ·refine⟨bq.toList,r,⟨o,I.ES a o hk,hc,n,by simpa using hs⟩,?_⟩;have e:=r.length;simp only[zbx] at e;lia
theorem Inv.yu(I:Inv X pins σ H s)(h:fF X.K H a xs)(h':fF X.K H a ys):xs=ys:=by
 obtain⟨bq,r,⟨o,n,e,_,_,d⟩,_⟩:=I.list h;obtain⟨its',r',⟨o',n',e',_,_,d'⟩,_⟩:=I.list h';rw[e] at e';cases e';rw[d] at d'
 injection d' with d1 _
 have:bq=its':=by simpa using congrArg zdg d1
 subst this;exact r.inj r'
theorem Inv.qr(I:Inv X pins σ H s)(h:bS X.K H a xs)(h':bS X.K H a ys):xs=ys:=by
 obtain⟨bq,r,⟨o,e,_,n,d⟩,_⟩:=I.tuple h;obtain⟨its',r',⟨o',e',_,n',d'⟩,_⟩:=I.tuple h';rw[e] at e';cases e';rw[d] at d'
 injection d' with d1 _
 have:bq=its':=by simpa using congrArg zdg d1
 subst this;exact r.inj r'
end
abbrev Cx.vm (X:Cx) (E:zdn->zdw->Prop):Cx:={X with xe:=E}
abbrev Cx.Ph (X:Cx):Cx:=X.vm fun _ _=>False
theorem Cx.Ok.vm{X:Cx}(ok:X.Ok)(E:zdn->zdw->Prop):(X.vm E).Ok:=
 ⟨ok.mod,ok.kind,ok.glob,ok.blt,ok.above,ok.inj,ok.has,ok.O6,ok.hd,ok.frames,ok.Sb,ok.WC,ok.bs,ok.EO,ok.ER,ok.IQ,ok.qp,ok.K8⟩
theorem Cx.Ok.mn{X:Cx}{E:zdn->zdw->Prop}(ok:(X.vm E).Ok):X.Ok:=
 ⟨ok.mod,ok.kind,ok.glob,ok.blt,ok.above,ok.inj,ok.has,ok.O6,ok.hd,ok.frames,ok.Sb,ok.WC,ok.bs,ok.EO,ok.ER,ok.IQ,ok.qp,ok.K8⟩
section
variable{X:Cx}{pins:List (zdm×Obj)}{σ:St}{H:Hp}{s:zdw}{E:zdn->zdw->Prop}
theorem Inv.vm(I:Inv X pins σ H s)(E:zdn->zdw->Prop):Inv (X.vm E) pins σ H s:=⟨I.ok.vm E,I.os,I.bare,I.base,I.loc,I.cell,I.free,I.mf,I.pin,I.da,I.len⟩
theorem Inv.mn(I:Inv (X.vm E) pins σ H s):Inv X pins σ H s:=⟨I.ok.mn,I.os,I.bare,I.base,I.loc,I.cell,I.free,I.mf,I.pin,I.da,I.len⟩
theorem SP.mn{D:Ends}{f:Flow}{s':zdw}(h:SP (X.vm E) pins D f s'):SP X pins D f s':=by
 cases f with
 |next=>obtain⟨σ',H',I,q⟩:=h;exact⟨σ',H',I.mn,q⟩
 |brk=>obtain⟨σ',H',I,q⟩:=h;exact⟨σ',H',I.mn,q⟩
 |cont=>obtain⟨σ',H',I,q⟩:=h;exact⟨σ',H',I.mn,q⟩
 |ret u=>obtain⟨v,σ',H',I,r,q⟩:=h;exact⟨v,σ',H',I.mn,r,q⟩
theorem BK.Ph{st:List Stmt}{t:TS}(h:BK X.Ph st t):BK X st t:=fun pins s σ H D I hw=>
 wpAny_mono (h pins s σ H D (I.vm _) hw) (fun _ _ q=>q.mn) fun _ _ z=>False.elim z
end
section
variable{X:Cx}{st:Stmt}{rest:List Stmt}{t u:TS}{e:Expr}{te:TE}{pos:Pos}
def EZ:TS:=fun D σ H=>D.nx σ H
def IS (t u:TS):TS:=fun D σ H=>t {D with nx:=u D} σ H
theorem aR:BK X [] EZ:=fun _ _ σ H _ I h=>wpAny_execs_nil ⟨σ,H,I,h⟩
theorem ao(h1:PS X st t)(h2:BK X rest u):BK X (st::rest) (IS t u):=by
 intro pins s σ H D I h;refine wpAny_execs_cons (dw (h1 pins s σ H {D with nx:=u D} I h) fun f s1 q=>?_);cases f with
 |next=>
  obtain⟨σ',H',I',q⟩:=q;exact h2 pins s1 σ' H' D I' q
 |ret v=>exact q
 |brk=>exact q
 |cont=>exact q
theorem aw(h1:PS X st t):BK X [st] t:=by
 intro pins s σ H D I h;refine wpAny_execs_cons (dw (h1 pins s σ H D I h) fun f s1 q=>?_);cases f with
 |next=>exact wpAny_execs_nil q
 |ret v=>exact q
 |brk=>exact q
 |cont=>exact q
def E1:TS:=fun D σ H=>D.bk σ H
def K9:TS:=fun D σ H=>D.ct σ H
theorem Inv.quiet{pins:List (zdm×Obj)}{σ:St}{H:Hp}{s:zdw}(I:Inv X pins σ H s):interactive X.env=false:=by simp[interactive,I.ok.kind]
def E2 (te:TE):TS:=fun D σ H=>te σ H fun _ H1=>D.nx σ H1
theorem e7(he:PE X e te)(hs:swapsWith e none pos.line X.env=pure false:=by rfl):PS X (.Expr e pos) (E2 te):=by
 intro pins s σ H D I h;exact wpAny_Expr_any (dw (he pins s σ H _ I h) fun v s1 ⟨x,H1,I1,r1,q1⟩=>⟨σ,H1,I1,q1⟩) I.quiet hs
def Mp (te:TE):TS:=fun D σ H=>te σ H D.rt
theorem aI(he:PE X e te):PS X (.Return (some e) pos) (Mp te):=by
 intro pins s σ H D I h;exact wpAny_Return_some (dw (he pins s σ H _ I h) fun v s1 ⟨x,H1,I1,r1,q1⟩=>⟨x,σ,H1,I1,r1,q1⟩)
def La:TS:=fun D _ H=>D.rt .bO H
def C9 (c:TT) (t u:TS):TS:=fun D σ H=>c σ H fun b H1=>if b=true then t D σ H1 else u D σ H1
theorem bo{c:Expr}{a b:List Stmt}{tc:TT}(hc:PT X c tc)(ha:BK X a t)(hb:BK X b u):PS X (.If c a b pos) (C9 tc t u):=by
 intro pins s σ H D I h;refine wpAny_If (dw (hc pins s σ H _ I h) fun d s1 zqz=>?_);obtain⟨H1,I1,q1⟩:=zqz;cases d with
 |true=>exact ha pins s1 σ H1 D I1 q1
 |false=>exact hb pins s1 σ H1 D I1 q1
end
abbrev TG:=V->St->Hp->(St->Hp->Prop)->Prop
abbrev IT:=List V->St->Hp->(St->Hp->Prop)->Prop
def PG (X:Cx) (target:Expr) (t:TG):Prop:=
 ∀(pins:List (zdm×Obj)) (s:zdw) (σ:St) (H:Hp) (v:V) (u:zdn) (Q:St->Hp->Prop),Inv X pins σ H s->RelV v u->t v σ H Q->
  wpAny (model X.prog X.w) X.A (assign target X.env u) (fun _ s'=>∃σ' H',Inv X pins σ' H' s'/\Q σ' H') X.xe s
def Pj (X:Cx) (ts:List Expr) (t:IT):Prop:=
 ∀(pins:List (zdm×Obj)) (s:zdw) (σ:St) (H:Hp) (vs:List V) (us:List zdn) (Q:St->Hp->Prop),Inv X pins σ H s->Vals vs us->t vs σ H Q->
  wpAny (model X.prog X.w) X.A (assignInOrder ((assignEach ts X.env).map (·.2)) us) (fun _ s'=>∃σ' H',Inv X pins σ' H' s'/\Q σ' H') X.xe s
abbrev Mq:=V->V->V->Hp->(Hp->Prop)->Prop
def Pk (X:Cx) (t:Mq):Prop:=
 ∀(pins:List (zdm×Obj)) (s:zdw) (σ:St) (H:Hp) (o i v:V) (ov iv u:zdn) (Q:Hp->Prop),Inv X pins σ H s->RelV o ov->RelV i iv->RelV v u->t o i v H Q->
  wpAny (model X.prog X.w) X.A (setItem ov iv u) (fun _ s'=>∃H',Inv X pins σ H' s'/\Q H') X.xe s
abbrev Y6:=V->V->Hp->VK->Prop
section
variable{X:Cx}{pos:Pos}
def jn (i:Nat):TG:=fun v σ H Q=>Q (σ.set i (some v)) H
theorem bH{i:Nat}{x:Str}(hN:X.N.Nodup)(hi:X.N[i]?=some x)(hx:Loc X.env.scope x)(hf:X.fn x=true\/X.env.scope.names.lookup x=some .local:=by first |exact .inl rfl |exact .inr rfl |assumption):PG X (.Name x pos) (jn i):=by
 intro pins s σ H v u Q I r h;exact wpAny_assign_Name (yt I hN hi hx r (fun s' I'=>⟨_,H,I',h⟩) hf)
def Mr:IT:=fun vs σ H Q=>vs=[]/\Q σ H
def E3 (t:TG) (u:IT):IT:=fun vs σ H Q=>∃v r,vs=v::r/\t v σ H fun σ' H'=>u r σ' H' Q
theorem sM:Pj X [] Mr:=by
 intro pins s σ H vs us Q I r h;obtain⟨e,h⟩:=h;subst e;cases r;exact assignInOrder_nil ⟨σ,H,I,h⟩
theorem iG{e:Expr}{es:List Expr}{t:TG}{u:IT}(h1:PG X e t)(h2:Pj X es u)
 (hs:(assignEach (e::es) X.env).map (·.2)=assign e X.env::(assignEach es X.env).map (·.2):=by rfl):Pj X (e::es) (E3 t u):=by
 intro pins s σ H vs us Q I r h;obtain⟨v,vr,e1,h⟩:=h;subst e1;cases r with
 |cons r rr=>
  rw[hs];refine assignInOrder_cons (dw (h1 pins s σ H _ _ _ I r h) fun _ s1 zqz=>?_);obtain⟨σ1,H1,I1,q1⟩:=zqz;exact h2 pins s1 σ1 H1 _ _ Q I1 rr q1
def IU (K:zaa) (n:Nat) (t:IT):TG:=fun v σ H Q=>∃a xs,v=.ref a/\bS K H a xs/\xs.length=n/\t xs σ H Q
theorem wY{es:List Expr}{k:Nat}{t:IT}{n:Nat}(hc:X.calm=true)(h:Pj X es t)
 (hn:(assignEach es X.env).length=n:=by rfl) (Ez:(assignEach es X.env).findIdx? (·.1)=none:=by rfl):PG X (.Tuple es k pos) (IU X.K n t):=by
 intro pins s σ H v u Q I r hw;obtain⟨a,xs,e1,hq,hl,hw⟩:=hw;subst e1;cases r;obtain⟨bq,rv,ht,hz⟩:=I.tuple hq;refine assign_Tuple_tuple (I.ok.hd hc) ht (by simp[hn,<- hl,rv.length]) Ez fun h' hx=>?_;have I1:Inv X pins σ H {s with heap:=h' }:=I.kept (t':=s.toks) fun b o e=>hx b o (zaw (Heap.lt_size e)) e;exact h pins _ σ H xs _ Q I1 (by simpa using rv) hw
def Ms (to ti:TE) (t:Mq):TG:=fun v σ H Q=>to σ H fun o H1=>ti σ H1 fun i H2=>t o i v H2 fun H3=>Q σ H3
theorem tF{o i:Expr}{to ti:TE}{t:Mq}(ho:PE X o to)(hi:PE X i ti)(hs:Pk X t)
 (ha:∀v,assign (.Subscript o i pos) X.env v=(do
  let ov <- holding [v] (eval o X.env)
  let iv <- holding [v,ov] (eval i X.env)
  standAt pos
  holding [v,ov,iv] (setItem ov iv v)
  release [v,ov,iv] []):=by intro _;rfl):PG X (.Subscript o i pos) (Ms to ti t):=by
 intro pins s σ H v u Q I r h;rw[ha];refine zdp (zdr (dw (ho pins s σ H _ I h) fun ov s1 zqz=>?_));obtain⟨x,H1,I1,r1,q1⟩:=zqz;refine zdp (zdr (dw (hi pins s1 σ H1 _ I1 q1) fun iv s2 zqz=>?_));obtain⟨y,H2,I2,r2,q2⟩:=zqz;refine zdp (wpAny_standAt (zdp (zdr (dw (hs pins s2 σ H2 x y v ov iv u _ I2 r1 r2 r q2) fun _ s3 zqz=>?_))));obtain⟨H3,I3,q3⟩:=zqz;exact wpAny_release ⟨σ,H3,I3,q3⟩
def E4 (te:TE) (g:TG):TS:=fun D σ H=>te σ H fun x H1=>g x σ H1 D.nx
theorem qt{tg e:Expr}{te:TE}{g:TG}(he:PE X e te)(hg:PG X tg g)(hs:swapsWithSole [tg] e pos.line X.env=pure false:=by rfl)(hw:swappedStores [tg] e X.env=pure none:=by rfl)
 (h1:(assignEach [tg] X.env).map (·.2)=[assign tg X.env]:=by rfl):PS X (.Assign [tg] e pos) (E4 te g):=by
 intro pins s σ H D I h;refine wpAny_Assign_stores (dw (he pins s σ H _ I h) fun v s1 zqz=>?_) hs hw;obtain⟨x,H1,I1,r1,q1⟩:=zqz;rw[h1];exact dw (hg pins s1 σ H1 x v _ I1 r1 q1) fun _ s2 q=>q
theorem aQ{i:Nat}{x:Str}{e:Expr}{te:TE}{pos':Pos}(hN:X.N.Nodup)(hi:X.N[i]?=some x)(hx:Loc X.env.scope x)(he:PE X e te)(hs:swapsWith e (some (.Name x pos')) pos.line X.env=pure false:=by rfl)(hf:X.fn x=true\/X.env.scope.names.lookup x=some .local:=by first |exact .inl rfl |exact .inr rfl |assumption) :
 PS X (.Assign [.Name x pos'] e pos) (E4 te (jn i)):=by
 intro pins s σ H D I h;refine wpAny_Assign_Name (dw (he pins s σ H _ I h) fun v s1 zqz=>?_) hs;obtain⟨y,H1,I1,r1,q1⟩:=zqz;exact yt I1 hN hi hx r1 (fun s2 I2=>⟨_,H1,I2,q1⟩) hf
def Pl (i:Nat) (te:TE) (ti:Y6):TS:=fun D σ H=>∃x,σ[i]?=some (some x)/\te σ H fun y H1=>ti x y H1 fun z H2=>D.nx (σ.set i (some z)) H2
end
section
variable{X:Cx}{pos:Pos}
def Aw (c:TT) (tb:TS):TS:=fun D σ H=>∃W:Nat->St->Hp->Prop,(∃m,W m σ H)/\∀m σ H,W m σ H->
 c σ H fun b H1=>if b=true then ∃N:St->Hp->Prop,(∀σ' H',N σ' H'->∃m',m'<m/\W m' σ' H')/\tb {D with nx:=N,ct:=N,bk:=D.nx} σ H1 else D.nx σ H1
theorem E5{c:Expr}{body:List Stmt}{tc:TT}{tb:TS}(hp:PassesOwn (model X.prog X.w) X.A X.env X.xe)(hc:PT X c tc)(hb:BK X body tb):PS X (.While c body [] pos) (Aw tc tb):=by
 intro pins s σ H D I h;obtain⟨W,⟨m0,w0⟩,turn⟩:=h;refine wpAny_While (codeAny_whileLoop (fun n s'=>∃σ' H',Inv X pins σ' H' s'/\W n σ' H') ?_ m0 ⟨σ,H,I,w0⟩)
 rintro n s1 ⟨σ1,H1,I1,w1⟩
 refine wpAny_passesOwn hp (dw (hc pins s1 σ1 H1 _ I1 (turn n σ1 H1 w1)) fun b s2 zqz=>?_);obtain⟨H2,I2,q2⟩:=zqz;cases b with
 |true=>
  obtain⟨N,hN,q2⟩:=q2;rw[if_pos rfl];refine wpAny_passesOwn hp (dw (hb pins s2 σ1 H2 _ I2 q2) fun f s3 q3=>?_);cases f with
  |next=>
   obtain⟨σ3,H3,I3,n3⟩:=q3;obtain⟨m',hm,w3⟩:=hN σ3 H3 n3;exact⟨m',hm,σ3,H3,I3,w3⟩
  |cont=>
   obtain⟨σ3,H3,I3,n3⟩:=q3;obtain⟨m',hm,w3⟩:=hN σ3 H3 n3;exact⟨m',hm,σ3,H3,I3,w3⟩
  |brk=>exact q3
  |ret v=>exact q3
 |false=>
  rw[if_neg zas];exact wpAny_execs_nil ⟨σ1,H2,I2,q2⟩
end
structure It where
 go:Nat->Hp->Prop
 wZ:Nat->Hp->V->Hp->Prop
 stop:Nat->Hp->Prop
def px (X:Cx) (pins:List (zdm×Obj)) (H:Hp) (b:zdm):Prop:=
 H b=none/\b≠X.env.locals/\b ∉ X.fs/\(b∈X.ex\/X.s₀.heap.objs.size<=b)/\(∀x c,X.env.cells.lookup x=some c->c≠b)/\∀p∈X.pn++pins,p.1≠b
theorem Inv.Ax{X:Cx}{pins:List (zdm×Obj)}{σ:St}{H H':Hp}{s:zdw}{b:zdm}(I:Inv X pins σ H s)(hb:s.heap.objs.size<=b)(hn:H' b=none):px X pins H' b:=by
 refine⟨hn,zbC (zaB I.lt hb),I.S8 hb,.inr (zau I.sz hb),fun x c e z=>?_,fun p hp z=>?_⟩
 ·obtain⟨v,q⟩:=I.cell x c e;exact absurd (zaB q.lt (by rw[z];exact hb)) (za7 _)
 ·exact absurd (zaB (Heap.lt_size (I.pin p hp).1) (by rw[z];exact hb)) (za7 _)
structure Turn(P:zdy)(w:zdo)(K:zaa)(tg:Expr)(J:It)(fp:List zdm)(it:zdm)(tn:Nat->Heap->Prop):Prop where
 mem:it∈fp
 obj:∀i h,tn i h->∀b∈fp,∃o,h.get? b=some o/\∀v,o.data≠.cell v
 keep:∀i h h',tn i h->(∀b∈fp,∀o,h.get? b=some o->h'.get? b=some o)->tn i h'
 item:∀(X:Cx),X.prog=P->X.w=w->X.K=K->X.calm=true->∀(i:Nat) (pins:List (zdm×Obj)) (s:zdw) (σ:St) (H:Hp) (E:zdn->zdw->Prop),Inv X pins σ H s->(∀b∈fp,px X pins H b)->tn i s.heap->J.go i H->
  wpAny (model P w) X.A (pyNext (.ref it)) (fun r s1=>∃u,r=some u/\
   wpAny (model P w) X.A (letOwnedTupleGo tg (.ref it) u) (fun _ s2=>∃x H',Inv X pins σ H' s2/\RelV x u/\J.wZ i H x H'/\tn (i+1) s2.heap/\∀b∈fp,H' b=none) E s1) E s
 done:∀(X:Cx),X.prog=P->X.w=w->X.K=K->X.calm=true->∀(i:Nat) (pins:List (zdm×Obj)) (s:zdw) (σ:St) (H:Hp) (E:zdn->zdw->Prop),Inv X pins σ H s->(∀b∈fp,px X pins H b)->tn i s.heap->J.stop i H->
  wpAny (model P w) X.A (pyNext (.ref it)) (fun r s1=>r=none/\Inv X pins σ H s1) E s
 self:∀(A:zdx) (i:Nat) (s:zdw) (Q:zdn->zdw->Prop) (E:zdn->zdw->Prop),tn i s.heap->Q (.ref it) s->wpAny (model P w) A (pyIter (.ref it)) Q E s
abbrev TI:=St->Hp->(It->Hp->Prop)->Prop
def WI (X:Cx) (pins:List (zdm×Obj)) (σ:St) (tg:Expr) (R:It->Hp->Prop) (Tf:zdn) (s2:zdw):Prop:=
 ∃(it:zdm) (fp:List zdm) (tn:Nat->Heap->Prop) (J:It) (H':Hp),Tf=.ref it/\Inv X pins σ H' s2/\Turn X.prog X.w X.K tg J fp it tn/\tn 0 s2.heap/\(∀b∈fp,px X pins H' b)/\R J H'
def PI (X:Cx) (tg iter:Expr) (wi:TI):Prop:=
 ∀(pins:List (zdm×Obj)) (s:zdw) (σ:St) (H:Hp) (R:It->Hp->Prop),Inv X pins σ H s->wi σ H R->
  wpAny (model X.prog X.w) X.A (eval iter X.env) (fun v s1=>wpAny (model X.prog X.w) X.A (pyIter v) (WI X pins σ tg R) X.xe s1) X.xe s
theorem E6{M:Model}{A:zdx}{E:zdn->zdw->Prop}{s:zdw}{tg:Expr}{it:zdm}{u:zdn}{o:Obj}{n:String}{vs:Array zdn}{Q:Unit->zdw->Prop}(ho:s.heap.get? it=some o)(hc:o.cls=.type n)(hd:o.data=.fields vs)
 (hn:["enumerate", "zip", "dict_itemiterator", "dict_reverseitemiterator", "odict_iterator", "itertools.zip_longest", "itertools.pairwise"].contains n=false) (hQ:Q () s):wpAny M A (letOwnedTupleGo tg (.ref it) u) Q E s:=by
 unfold letOwnedTupleGo;cases tg<;>first
  |exact zdq hQ
  |(cases u<;>first
     |exact zdq hQ
     |(refine zdp (wpAny_load ho ?_)
       rw[hc,hd];show wpAny M A (if (["enumerate", "zip", "dict_itemiterator", "dict_reverseitemiterator", "odict_iterator", "itertools.zip_longest", "itertools.pairwise"].contains n&&vs[0]?==some (rawInt _))=true then _ else _) Q E s;rw[if_neg (by intro h;rw[hn,Bool.false_and] at h;cases h)];exact zdq hQ))
def EA (K:zaa) (a:zdm):It:=
 ⟨fun i H=>∃xs x,fF K H a xs/\xs[i]?=some x,fun i H x H'=>H'=H/\∀xs,fF K H a xs->xs[i]?=some x,fun i H=>∃xs,fF K H a xs/\xs.length<=i⟩
def E7 (K:zaa) (a:zdm):It:=
 ⟨fun i H=>∃xs x,bS K H a xs/\xs[i]?=some x,fun i H x H'=>H'=H/\∀xs,bS K H a xs->xs[i]?=some x,fun i H=>∃xs,bS K H a xs/\xs.length<=i⟩
def yv (lo:Int) (n:Nat):It:=⟨fun i _=>i<n,fun i H x H'=>H'=H/\x=.int (lo+i),fun i _=>n<=i⟩
theorem Dc{P:zdy}{w:zdo}{K:zaa}{tg:Expr}(a it:zdm):Turn P w K tg (EA K a) [it] it (fun i h=>h.IsListIter it a i) where
 mem:=by simp
 obj:=fun i h st b hb=>by
  have e:b=it:=by simpa using hb
  subst e;obtain⟨o,e,c,d⟩:=st;exact⟨o,e,fun v z=>by rw[d] at z;cases z⟩
 keep:=fun i h h' st k=>st.at fun o e=>k it (by simp) o e
 item:=by
  intro X hP hw hK hc i pins s σ H E I hf st hg;subst hP hw hK;obtain⟨xs,x,hq,hx⟩:=hg;obtain⟨bq,rv,p,hz⟩:=I.list hq;obtain⟨u,hu,ru⟩:=rv.get hx;obtain⟨f0,f1,f2,f3,f4,f5⟩:=hf it (by simp);refine wpAny_pyNext_list_item st p.isList (x:=u) (by simpa using hu) fun h' Ai sb=>?_;have I1:Inv X pins σ H {s with heap:=h' }:=I.turned (t':=s.toks) (fun b o hb e=>(sb.2 b hb).trans e) f0 f1 f3 f4 f5;obtain⟨o,e,c,d⟩:=id Ai;exact⟨u,rfl,E6 (s:={s with heap:=h' }) e c d (by decide) ⟨x,H,I1,ru,⟨rfl,fun ys hy=>by rw[I.yu hy hq];exact hx⟩,Ai,fun b hb=>(hf b hb).1⟩⟩
 done:=by
  intro X hP hw hK hc i pins s σ H E I hf st hg;subst hP hw hK;obtain⟨xs,hq,hx⟩:=hg;obtain⟨bq,rv,p,hz⟩:=I.list hq;obtain⟨f0,f1,f2,f3,f4,f5⟩:=hf it (by simp);have hl:=rv.length;exact wpAny_pyNext_list_end (I.ok.hd hc) st p.isList (by simp;lia) fun h' eb=>⟨rfl,I.turned (t':=s.toks) (fun b o hb e=>eb b o hb e) f0 f1 f3 f4 f5⟩
 self:=fun _ _ _ _ _ st h=>wpAny_pyIter_listiter st h
theorem Ay{P:zdy}{w:zdo}{K:zaa}{tg:Expr}(a it:zdm):Turn P w K tg (E7 K a) [it] it (fun i h=>h.IsTupleIter it a i) where
 mem:=by simp
 obj:=fun i h st b hb=>by
  have e:b=it:=by simpa using hb
  subst e;obtain⟨o,e,c,d⟩:=st;exact⟨o,e,fun v z=>by rw[d] at z;cases z⟩
 keep:=fun i h h' st k=>st.at fun o e=>k it (by simp) o e
 item:=by
  intro X hP hw hK hc i pins s σ H E I hf st hg;subst hP hw hK;obtain⟨xs,x,hq,hx⟩:=hg;obtain⟨bq,rv,p,hz⟩:=I.tuple hq;obtain⟨u,hu,ru⟩:=rv.get hx;obtain⟨f0,f1,f2,f3,f4,f5⟩:=hf it (by simp);refine wpAny_pyNext_tuple_item st (show s.heap.IsTuple a bq.toArray from p) (x:=u) (by simpa using hu) fun h' Ai sb=>?_;have I1:Inv X pins σ H {s with heap:=h' }:=I.turned (t':=s.toks) (fun b o hb e=>(sb.2 b hb).trans e) f0 f1 f3 f4 f5;obtain⟨o,e,c,d⟩:=id Ai;exact⟨u,rfl,E6 (s:={s with heap:=h' }) e c d (by decide) ⟨x,H,I1,ru,⟨rfl,fun ys hy=>by rw[I.qr hy hq];exact hx⟩,Ai,fun b hb=>(hf b hb).1⟩⟩
 done:=by
  intro X hP hw hK hc i pins s σ H E I hf st hg;subst hP hw hK;obtain⟨xs,hq,hx⟩:=hg;obtain⟨bq,rv,p,hz⟩:=I.tuple hq;obtain⟨f0,f1,f2,f3,f4,f5⟩:=hf it (by simp);have hl:=rv.length;exact wpAny_pyNext_tuple_end (I.ok.hd hc) st (show s.heap.IsTuple a bq.toArray from p) (by simp;lia) fun h' eb=>⟨rfl,I.turned (t':=s.toks) (fun b o hb e=>eb b o hb e) f0 f1 f3 f4 f5⟩
 self:=fun _ _ _ _ _ st h=>wpAny_pyIter_tupleiter st h
theorem Az{P:zdy}{w:zdo}{K:zaa}{tg:Expr}(it:zdm)(lo:Int)(n:Nat):Turn P w K tg (yv lo n) [it] it (fun i h=>IsRangeIter h it (lo+(i:Nat)*1) ((n:Int)-(i:Nat)) 1) where
 mem:=by simp
 obj:=fun i h st b hb=>by
  have e:b=it:=by simpa using hb
  subst e;exact⟨_,st,fun v z=>by
   have z':Data.fields _=Data.cell v:=z;cases z'⟩
 keep:=fun i h h' st k=>k it (by simp) _ st
 item:=by
  intro X hP hw hK hc i pins s σ H E I hf st hg;subst hP hw hK;obtain⟨f0,f1,f2,f3,f4,f5⟩:=hf it (by simp);have W:=Walks.range (prog:=X.prog) (w:=X.w) (I.ok.hd hc) it lo 1 n;refine W.item i s _ _ hg st fun v h' tk hv Ai kk=>?_;obtain⟨t,rfl⟩:=hv;have I1:Inv X pins σ H {s with heap:=h',toks:=tk}:=I.turned (fun b o hb e=>kk b o (by simpa using hb) e) f0 f1 f3 f4 f5;refine⟨_,rfl,E6 (s:={s with heap:=h',toks:=tk}) (n:="range_iterator") Ai rfl rfl (by decide) ⟨.int (lo+i),H,I1,⟨t,?_⟩,⟨rfl,rfl⟩,Ai,fun b hb=>(hf b hb).1⟩⟩;rw[Int.mul_one]
 done:=by
  intro X hP hw hK hc i pins s σ H E I hf st hg;subst hP hw hK;obtain⟨f0,f1,f2,f3,f4,f5⟩:=hf it (by simp);exact wpAny_pyNext_range_end (I.ok.hd hc) st (by have:n<=i:=hg;lia) fun h' eb=>⟨rfl,I.turned (t':=s.toks) (fun b o hb e=>eb b o hb e) f0 f1 f3 f4 f5⟩
 self:=fun _ _ _ _ _ st h=>wpAny_pyIter_rangeiter st h
section
variable{X:Cx}{tg:Expr}
def BM (K:zaa) (tl:TE):TI:=fun σ H R=>tl σ H fun x H1=>∃a,x=.ref a/\(∃xs,fF K H1 a xs)/\R (EA K a) H1
def IV (K:zaa) (tl:TE):TI:=fun σ H R=>tl σ H fun x H1=>∃a,x=.ref a/\(∃xs,bS K H1 a xs)/\R (E7 K a) H1
theorem fG{l:Expr}{tl:TE}(hl:PE X l tl):PI X tg l (BM X.K tl):=by
 intro pins s σ H R I h;refine dw (hl pins s σ H _ I h) fun v s1 zqz=>?_;obtain⟨x,H1,I1,r1,q1⟩:=zqz;obtain⟨a,e,⟨xs,hq⟩,q⟩:=q1;subst e;cases r1;obtain⟨bq,rv,p,hz⟩:=I1.list hq;refine wpAny_pyIter_list p.isList ?_;refine⟨s1.heap.objs.size,[s1.heap.objs.size],_,_,H1,rfl,I1.kept (t':=s1.toks) fun b o e=>Heap.get?_push_of_some _ e,Dc a _,⟨_,Heap.get?_push_size _ rfl,rfl,rfl⟩,fun b hb=>?_,q⟩;have e:b=s1.heap.objs.size:=by simpa using hb
 subst e;exact I1.Ax (zam _) (I1.da.fresh (zam _))
theorem tG{l:Expr}{tl:TE}(hl:PE X l tl):PI X tg l (IV X.K tl):=by
 intro pins s σ H R I h;refine dw (hl pins s σ H _ I h) fun v s1 zqz=>?_;obtain⟨x,H1,I1,r1,q1⟩:=zqz;obtain⟨a,e,⟨xs,hq⟩,q⟩:=q1;subst e;cases r1;obtain⟨bq,rv,p,hz⟩:=I1.tuple hq;refine wpAny_pyIter_tuple (show s1.heap.IsTuple a bq.toArray from p) ?_;refine⟨s1.heap.objs.size,[s1.heap.objs.size],_,_,H1,rfl,I1.kept (t':=s1.toks) fun b o e=>Heap.get?_push_of_some _ e,Ay a _,⟨_,Heap.get?_push_size _ rfl,rfl,rfl⟩,fun b hb=>?_,q⟩;have e:b=s1.heap.objs.size:=by simpa using hb
 subst e;exact I1.Ax (zam _) (I1.da.fresh (zam _))
theorem yx{pins:List (zdm×Obj)}{σ:St}{H:Hp}{s:zdw}{R:It->Hp->Prop}{E:zdn->zdw->Prop}{lo hi:Int}{t u v:Tok}{tk:Nat}(I:Inv X pins σ H s)(h1 : -(2 ^ 62)<=lo)(h2:lo<2 ^ 62)(h3 : -(2 ^ 62)<=hi)(h4:hi<2 ^ 62)
 (q:R (yv lo (hi-lo).toNat) H):wpAny (model X.prog X.w) X.A (pyIter (.ref s.heap.objs.size)) (WI X pins σ tg R) E {s with heap:=s.heap.push {cls:=.type "range",data:=.fields #[.int lo t,.int hi u,.int 1 v]},toks:=tk}:=by
 refine wpAny_pyIter_range (IsRange.new ..) (small_one h1 h2 h3 h4) ?_;have I1:Inv X pins σ H {s with heap:=s.heap.push {cls:=.type "range",data:=.fields #[.int lo t,.int hi u,.int 1 v]},toks:=tk}:=I.kept fun b o e=>Heap.get?_push_of_some _ e;refine⟨(s.heap.push {cls:=.type "range",data:=.fields #[.int lo t,.int hi u,.int 1 v]}).objs.size,[(s.heap.push {cls:=.type "range",data:=.fields #[.int lo t,.int hi u,.int 1 v]}).objs.size],_,_,H,rfl,
  I1.kept (t':=tk) fun b o e=>Heap.get?_push_of_some _ e,Az _ lo (hi-lo).toNat,?_,fun b hb=>?_,q⟩
 ·have e1:lo+((0:Nat):Int)*1=lo:=by simp
  have e2:(((hi-lo).toNat:Nat):Int)-((0:Nat):Int)=Builtin.Range.rangeSize lo hi 1:=by rw[rangeSize_one];split<;>lia
  show IsRangeIter _ _ (lo+((0:Nat):Int)*1) ((((hi-lo).toNat:Nat):Int)-((0:Nat):Int)) 1;rw[e1,e2];exact Heap.get?_push_size _ rfl
 ·have e:b=(s.heap.push {cls:=.type "range",data:=.fields #[.int lo t,.int hi u,.int 1 v]}).objs.size:=by simpa using hb
  subst e;exact I1.Ax (zam _) (I1.da.fresh (zam _))
def BN (ta:TA):TI:=fun σ H R=>ta σ H fun vs H1=>∃j:Int,vs=[.int j]/\-(2 ^ 62)<=j/\j<2 ^ 62/\R (yv 0 j.toNat) H1
def BO (ta:TA):TI:=fun σ H R=>ta σ H fun vs H1=>∃i j:Int,vs=[.int i,.int j]/\(-(2 ^ 62)<=i/\i<2 ^ 62/\-(2 ^ 62)<=j/\j<2 ^ 62)/\R (yv i (j-i).toNat) H1
theorem vO{a:Expr}{ta:TA}{p pos:Pos}(hg:Gl X "range")(hm:X.mg "range"=none)(ha:PA X [a] ta)(hs:zds [a] X.env=[(false,eval a X.env)]:=by rfl):PI X tg (.Call (.Name "range" p) [a] [] pos) (BN ta):=by
 intro pins s σ H R I h;refine Call_ (mi I hg hm boot_range (zaS (dw (ha pos pins s σ H _ I h) fun us s1 zqz=>?_) hs rfl));obtain⟨vs,H1,I1,r1,q1⟩:=zqz;obtain⟨j,e,q1,q2,q⟩:=q1;subst e;cases r1 with
 |cons r rr=>
  cases rr;obtain⟨t,rfl⟩:=r;exact call_range_1 (yx I1 (by lia) (by lia) q1 q2 (by simpa using q))
theorem vP{a b:Expr}{ta:TA}{p pos:Pos}(hg:Gl X "range")(hm:X.mg "range"=none)(ha:PA X [a,b] ta)(hs:zds [a,b] X.env=[(false,eval a X.env),(false,eval b X.env)]:=by rfl)(u0:zds [b] X.env=[(false,eval b X.env)]:=by rfl) :
 PI X tg (.Call (.Name "range" p) [a,b] [] pos) (BO ta):=by
 intro pins s σ H R I h;refine Call_ (mi I hg hm boot_range (zaS (dw (ha pos pins s σ H _ I h) fun us s1 ⟨vs,H1,I1,r1,q1⟩=>?_) (by rw[hs,u0]) (by rw[u0];rfl)));obtain⟨i,j,e,⟨q1,q2,q3,q4⟩,q⟩:=q1;subst e;cases r1 with
 |cons r rr=>
  cases rr with
  |cons r' rr=>
   cases rr;obtain⟨t,rfl⟩:=r;obtain⟨t',rfl⟩:=r';exact call_range_2 (yx I1 q1 q2 q3 q4 q)
def Dd (wi:TI) (g:TG) (tb:TS):TS:=fun D σ H=>wi σ H fun J H1=>∃W:Nat->Nat->St->Hp->Prop,(∃m,W 0 m σ H1)/\∀i m σ H,W i m σ H->
 (J.stop i H/\D.nx σ H)\/(J.go i H/\∃N:St->Hp->Prop,(∀σ' H',N σ' H'->∃m',m'<m/\W (i+1) m' σ' H')/\∀x H',J.wZ i H x H'->g x σ H' fun σ2 H2=>tb {D with nx:=N,ct:=N,bk:=D.nx} σ2 H2)
def tH (fp:List zdm) (h:Heap):List (zdm×Obj):=fp.filterMap fun b=>(h.get? b).map fun o=>(b,o)
theorem kX{fp:List zdm}{h:Heap}{b:zdm}{o:Obj}(hb:b∈fp)(e:h.get? b=some o):(b,o)∈tH fp h:=zbk.mpr ⟨b,hb,by rw[e];rfl⟩
theorem De{fp:List zdm}{h:Heap}{p:zdm×Obj}(hp:p∈tH fp h):p.1∈fp/\h.get? p.1=some p.2:=by
 obtain⟨b,hb,e⟩:=zbk.mp hp;cases q:h.get? b with
 |none=>rw[q] at e;cases e
 |some o=>
  rw[q] at e;have e':(b,o)=p:=zaH.inj e;subst e';exact⟨hb,q⟩
theorem Inv.pinned{pins:List (zdm×Obj)}{σ:St}{H:Hp}{s:zdw}{fp:List zdm}(I:Inv X pins σ H s)(hf:∀b∈fp,px X pins H b)(ho:∀b∈fp,∃o,s.heap.get? b=some o/\∀v,o.data≠.cell v):Inv X (pins++tH fp s.heap) σ H s:=
 I.BH fun p hp=>(zai.mp hp).elim (fun z=>I.pin p (zaE _ z)) fun z=>by
  obtain⟨hb,e⟩:=De z;obtain⟨f0,f1,f2,_⟩:=hf p.1 hb;obtain⟨o,e',d⟩:=ho p.1 hb;rw[e] at e';cases e';exact⟨e,f0,f1,f2,d⟩
theorem Inv.pA{pins pl:List (zdm×Obj)}{σ:St}{H:Hp}{s:zdw}(I:Inv X (pins++pl) σ H s):Inv X pins σ H s:=I.BH fun p hp=>I.pin p (zaE _ (zbn _ hp))
theorem jo{iter:Expr}{body:List Stmt}{wi:TI}{g:TG}{tb:TS}{pos:Pos}(hp:PassesOwn (model X.prog X.w) X.A X.env X.xe)(hc:X.calm=true)(hi:PI X tg iter wi)(hg:PG X tg g)(hb:BK X body tb)
 (hs:∀x,foldedSetIterable iter X.env x=pure x:=by intro _;rfl):PS X (.For tg iter body [] pos) (Dd wi g tb):=by
 intro pins s σ H D I h;refine wpAny_For (dw (hi pins s σ H _ I h) fun v s1 h1=>dw h1 fun Tf s2 h2=>?_) hs;obtain⟨it,fp,tn,J,H2,e,I2,T,Oz,f2,W,⟨m0,w0⟩,turn⟩:=h2;subst e;have stat:∀ {H':Hp},(∀b∈fp,H' b=none)->∀b∈fp,px X pins H' b:=fun hn b hb=>⟨hn b hb,(f2 b hb).2⟩
 refine codeAny_forLoop_any (fun n s'=>∃i σ' H',Inv X pins σ' H' s'/\tn i s'.heap/\(∀b∈fp,H' b=none)/\W i n σ' H') ?_ m0 ⟨0,σ,H2,I2,Oz,fun b hb=>(f2 b hb).1,w0⟩
 rintro n s3 ⟨i,σ3,H3,I3,Lb,Pn,w3⟩
 rcases turn i n σ3 H3 w3 with ⟨stop,qn⟩ |⟨go,N,hN,step⟩
 ·refine wpAny_passesOwn hp (dw (T.done X rfl rfl rfl hc i pins s3 σ3 H3 X.xe I3 (stat Pn) Lb stop) fun r s4 zqz=>?_);obtain⟨hr,I4⟩:=zqz;subst hr;exact wpAny_execs_nil ⟨σ3,H3,I4,qn⟩
 ·refine wpAny_passesOwn hp (dw (T.item X rfl rfl rfl hc i pins s3 σ3 H3 X.xe I3 (stat Pn) Lb go) fun r s4 zqz=>?_);obtain⟨u,hr,h4⟩:=zqz;subst hr;refine wpAny_passesOwn hp (dw h4 fun _ s5 zqz=>?_);obtain⟨x,H5,I5,r5,y5,Mu,Th⟩:=zqz;have Ti:=I5.pinned (stat Th) (T.obj _ _ Mu);refine wpAny_passesOwn hp (dw (hg _ s5 σ3 H5 x u _ Ti r5 (step x H5 y5)) fun _ s6 zqz=>?_);obtain⟨σ6,H6,I6,q6⟩:=zqz;refine wpAny_passesOwn hp (dw (hb _ s6 σ6 H6 _ I6 q6) fun f s7 q7=>?_);have again:∀ {σ7:St} {H7:Hp},Inv X (pins++tH fp s5.heap) σ7 H7 s7->N σ7 H7->∃m,m<n/\∃i σ' H',Inv X pins σ' H' s7/\tn i s7.heap/\(∀b∈fp,H' b=none)/\W i m σ' H':=fun {σ7 H7} I7 n7=>by
   obtain⟨m',hm,w7⟩:=hN σ7 H7 n7;refine⟨m',hm,i+1,σ7,H7,I7.pA,T.keep _ _ _ Mu fun b hb o e=>(I7.pin (b,o) (zaE _ (zaE _ (kX hb e)))).1,fun b hb=>?_,w7⟩;obtain⟨o,e,d⟩:=T.obj _ _ Mu b hb;exact(I7.pin (b,o) (zaE _ (zaE _ (kX hb e)))).2.1
  cases f with
  |next=>obtain⟨σ7,H7,I7,n7⟩:=q7;exact again I7 n7
  |cont=>obtain⟨σ7,H7,I7,n7⟩:=q7;exact again I7 n7
  |brk=>obtain⟨σ7,H7,I7,q7⟩:=q7;exact⟨σ7,H7,I7.pA,q7⟩
  |ret v=>obtain⟨x7,σ7,H7,I7,r7,q7⟩:=q7;exact⟨x7,σ7,H7,I7.pA,r7,q7⟩
end
theorem km{K:zaa}{a:zdm}{xs:List V}{g:TG}{tb:TS}{D:Ends}{σ:St}{H:Hp}(Pv:Nat->St->Hp->Prop)(h0:Pv 0 σ H)(hl:∀i σ H,i<=xs.length->Pv i σ H->fF K H a xs)
 (hs:∀i x σ H,xs[i]?=some x->Pv i σ H->g x σ H fun σ2 H2=>tb {D with nx:=Pv (i+1),ct:=Pv (i+1),bk:=D.nx} σ2 H2) (hd:∀σ H,Pv xs.length σ H->D.nx σ H) :
 ∃W:Nat->Nat->St->Hp->Prop,(∃m,W 0 m σ H)/\∀i m σ H,W i m σ H->
  ((EA K a).stop i H/\D.nx σ H)\/((EA K a).go i H/\∃N:St->Hp->Prop,(∀σ' H',N σ' H'->∃m',m'<m/\W (i+1) m' σ' H')/\∀x H',(EA K a).wZ i H x H'->g x σ H' fun σ2 H2=>tb {D with nx:=N,ct:=N,bk:=D.nx} σ2 H2):=by
 refine⟨fun i m σ H=>m=xs.length-i/\i<=xs.length/\Pv i σ H,⟨xs.length,by simp,zaM _,h0⟩,?_⟩
 rintro i m σ H ⟨rfl,hi,p⟩
 have q:=hl i σ H hi p;by_cases jL:i<xs.length
 ·refine .inr ⟨⟨xs,xs[i],q,by simp[jL]⟩,Pv (i+1),fun σ' H' p'=>⟨xs.length-(i+1),by lia,rfl,jL,p'⟩,fun x H' y=>?_⟩;obtain⟨e,y⟩:=y;subst e;exact hs i x σ _ (y xs q) p
 ·have e:i=xs.length:=by lia
  subst e;exact .inl ⟨⟨xs,q,zam _⟩,hd σ H p⟩
theorem IW{K:zaa}{a:zdm}{xs:List V}{g:TG}{tb:TS}{D:Ends}{σ:St}{H:Hp}(Pv:Nat->St->Hp->Prop)(h0:Pv 0 σ H)(hl:∀i σ H,i<=xs.length->Pv i σ H->bS K H a xs)
 (hs:∀i x σ H,xs[i]?=some x->Pv i σ H->g x σ H fun σ2 H2=>tb {D with nx:=Pv (i+1),ct:=Pv (i+1),bk:=D.nx} σ2 H2) (hd:∀σ H,Pv xs.length σ H->D.nx σ H) :
 ∃W:Nat->Nat->St->Hp->Prop,(∃m,W 0 m σ H)/\∀i m σ H,W i m σ H->
  ((E7 K a).stop i H/\D.nx σ H)\/((E7 K a).go i H/\∃N:St->Hp->Prop,(∀σ' H',N σ' H'->∃m',m'<m/\W (i+1) m' σ' H')/\∀x H',(E7 K a).wZ i H x H'->g x σ H' fun σ2 H2=>tb {D with nx:=N,ct:=N,bk:=D.nx} σ2 H2):=by
 refine⟨fun i m σ H=>m=xs.length-i/\i<=xs.length/\Pv i σ H,⟨xs.length,by simp,zaM _,h0⟩,?_⟩
 rintro i m σ H ⟨rfl,hi,p⟩
 have q:=hl i σ H hi p;by_cases jL:i<xs.length
 ·refine .inr ⟨⟨xs,xs[i],q,by simp[jL]⟩,Pv (i+1),fun σ' H' p'=>⟨xs.length-(i+1),by lia,rfl,jL,p'⟩,fun x H' y=>?_⟩;obtain⟨e,y⟩:=y;subst e;exact hs i x σ _ (y xs q) p
 ·have e:i=xs.length:=by lia
  subst e;exact .inl ⟨⟨xs,q,zam _⟩,hd σ H p⟩
theorem vQ{lo:Int}{n:Nat}{g:TG}{tb:TS}{D:Ends}{σ:St}{H:Hp}(Pv:Nat->St->Hp->Prop)(h0:Pv 0 σ H)
 (hs:∀i σ H,i<n->Pv i σ H->g (.int (lo+i)) σ H fun σ2 H2=>tb {D with nx:=Pv (i+1),ct:=Pv (i+1),bk:=D.nx} σ2 H2) (hd:∀σ H,Pv n σ H->D.nx σ H) :
 ∃W:Nat->Nat->St->Hp->Prop,(∃m,W 0 m σ H)/\∀i m σ H,W i m σ H->
  ((yv lo n).stop i H/\D.nx σ H)\/((yv lo n).go i H/\∃N:St->Hp->Prop,(∀σ' H',N σ' H'->∃m',m'<m/\W (i+1) m' σ' H')/\∀x H',(yv lo n).wZ i H x H'->g x σ H' fun σ2 H2=>tb {D with nx:=N,ct:=N,bk:=D.nx} σ2 H2):=by
 refine⟨fun i m σ H=>m=n-i/\i<=n/\Pv i σ H,⟨n,by simp,zaM _,h0⟩,?_⟩
 rintro i m σ H ⟨rfl,hi,p⟩
 by_cases jL:i<n
 ·refine .inr ⟨jL,Pv (i+1),fun σ' H' p'=>⟨n-(i+1),by lia,rfl,jL,p'⟩,fun x H' y=>?_⟩;obtain⟨e,y⟩:=y;subst e y;exact hs i σ _ jL p
 ·have e:i=n:=by lia
  subst e;exact .inl ⟨zam _,hd σ H p⟩
abbrev R2:=V->V->Hp->VK->Prop
def ql (X:Cx) (f:zdn->zdn->Sem zdn) (r:R2):Prop:=
 ∀(pins:List (zdm×Obj)) (s:zdw) (σ:St) (H:Hp) (x y:V) (v u:zdn) (Q:VK),Inv X pins σ H s->RelV x v->RelV y u->r x y H Q->
  wpAny (model X.prog X.w) X.A (f v u) (EP X pins σ Q) X.xe s
def Tj (X:Cx) (f:zdn->Sem zdn) (r:V->Hp->VK->Prop):Prop:=
 ∀(pins:List (zdm×Obj)) (s:zdw) (σ:St) (H:Hp) (x:V) (v:zdn) (Q:VK),Inv X pins σ H s->RelV x v->r x H Q->
  wpAny (model X.prog X.w) X.A (f v) (EP X pins σ Q) X.xe s
def lS (X:Cx) (f:zdn) (r:List V->Hp->VK->Prop):Prop:=
 ∀(pins:List (zdm×Obj)) (s:zdw) (σ:St) (H:Hp) (xs:List V) (us:List zdn) (Q:VK),Inv X pins σ H s->Vals xs us->r xs H Q->
  wpAny (model X.prog X.w) X.A (call f us) (EP X pins σ Q) X.xe s
def Tn (X:Cx) (r:V->Hp->(Bool->Hp->Prop)->Prop):Prop:=
 ∀(pins:List (zdm×Obj)) (s:zdw) (σ:St) (H:Hp) (x:V) (v:zdn) (Q:Bool->Hp->Prop),Inv X pins σ H s->RelV x v->r x H Q->
  wpAny (model X.prog X.w) X.A (truthy v) (TP X pins σ Q) X.xe s
def Po (r:R2) (ta tb:TE):TE:=fun σ H Q=>ta σ H fun x H1=>tb σ H1 fun y H2=>r x y H2 Q
def To (r:V->Hp->VK->Prop) (ta:TE):TE:=fun σ H Q=>ta σ H fun x H1=>r x H1 Q
def rI (C:Int->Int->Prop) (g:Int->Int->V):R2:=fun x y H Q=>∃i j,x=.int i/\y=.int j/\C i j/\Q (g i j) H
def IX (g:Int->Int->V):R2:=fun x y H Q=>∃i j,x=.int i/\y=.int j/\Q (g i j) H
def rU (g:Int->V):V->Hp->VK->Prop:=fun x H Q=>∃i,x=.int i/\Q (g i) H
section
variable{X:Cx}{a b c:Expr}{ta tb tc:TE}{pos:Pos}
theorem Mv(ha:PE X a ta)(hb:PE X b tb){pins:List (zdm×Obj)}{s:zdw}{σ:St}{H:Hp}{R:V->V->Hp->Prop}(I:Inv X pins σ H s)
 (h:ta σ H fun x H1=>tb σ H1 fun y H2=>R x y H2) {Q:zdn->zdw->Prop} {f:zdn->zdn->Sem zdn}
 (hf:∀v u s2 x y H2,Inv X pins σ H2 s2->RelV x v->RelV y u->R x y H2->wpAny (model X.prog X.w) X.A (f v u) Q X.xe s2) :
 wpAny (model X.prog X.w) X.A (eval a X.env) (fun v s₁=>wpAny (model X.prog X.w) X.A (eval b X.env) (fun u s₂=>wpAny (model X.prog X.w) X.A (f v u) Q X.xe s₂) X.xe s₁) X.xe s:=by
 refine dw (ha pins s σ H _ I h) fun v s1 zqz=>?_;obtain⟨x,H1,I1,r1,q1⟩:=zqz;refine dw (hb pins s1 σ H1 _ I1 q1) fun u s2 zqz=>?_;obtain⟨y,H2,I2,r2,q2⟩:=zqz;exact hf v u s2 x y H2 I2 r1 r2 q2
theorem bT{op:Operator}{r:R2}(ho:ql X (binaryOp op) r)(ha:PE X a ta)(hb:PE X b tb):PE X (.BinOp a op b pos) (Po r ta tb):=by
 intro pins s σ H Q I h;exact wpAny_BinOp (Mv ha hb I h fun v u s2 x y H2 I2 rx ry q=>ho pins s2 σ H2 x y v u Q I2 rx ry q)
theorem vR{op:UnaryOp}{r:V->Hp->VK->Prop}(ho:Tj X (unaryOp op) r)(ha:PE X a ta):PE X (.UnaryOp op a pos) (To r ta):=by
 intro pins s σ H Q I h;exact UnaryOp_ (dw (ha pins s σ H _ I h) fun v s1 ⟨x,H1,I1,r1,q1⟩=>ho pins s1 σ H1 x v Q I1 r1 q1)
theorem Pp{f:zdn->zdn->Sem zdn}{C:Int->Int->Prop}{g:Int->Int->Int}
 (rule:∀(i j:Int) (t u:Tok) (s:zdw) (Q:zdn->zdw->Prop) (E:zdn->zdw->Prop),C i j->Q (.int (g i j) s.toks) {s with toks:=s.toks+1}->wpAny (model X.prog X.w) X.A (f (.int i t) (.int j u)) Q E s) :
 ql X f (rI C fun i j=>.int (g i j)):=by
 intro pins s σ H x y v u Q I rx ry h;obtain⟨i,j,rfl,rfl,hc,q⟩:=h;obtain⟨t,rfl⟩:=rx;obtain⟨t',rfl⟩:=ry;exact rule i j t t' s _ _ hc ⟨.int (g i j),H,I.tok _,⟨_,rfl⟩,q⟩
theorem Pq{f:zdn->zdn->Sem zdn}{g:Int->Int->Int}
 (rule:∀(i j:Int) (t u:Tok) (s:zdw) (Q:zdn->zdw->Prop) (E:zdn->zdw->Prop),Q (.int (g i j) s.toks) {s with toks:=s.toks+1}->wpAny (model X.prog X.w) X.A (f (.int i t) (.int j u)) Q E s) :
 ql X f (IX fun i j=>.int (g i j)):=by
 intro pins s σ H x y v u Q I rx ry h;obtain⟨i,j,rfl,rfl,q⟩:=h;obtain⟨t,rfl⟩:=rx;obtain⟨t',rfl⟩:=ry;exact rule i j t t' s _ _ ⟨.int (g i j),H,I.tok _,⟨_,rfl⟩,q⟩
theorem IY{f:zdn->zdn->Sem zdn}{g:Int->Int->Bool}
 (rule:∀(i j:Int) (t u:Tok) (s:zdw) (Q:zdn->zdw->Prop) (E:zdn->zdw->Prop),Q (.bool (g i j)) s->wpAny (model X.prog X.w) X.A (f (.int i t) (.int j u)) Q E s) :
 ql X f (IX fun i j=>.bl (g i j)):=by
 intro pins s σ H x y v u Q I rx ry h;obtain⟨i,j,rfl,rfl,q⟩:=h;obtain⟨t,rfl⟩:=rx;obtain⟨t',rfl⟩:=ry;exact rule i j t t' s _ _ ⟨.bl (g i j),H,I,rfl,q⟩
def Pr (i j:Int):Prop:=0<j/\j<1073741824
def Tp (i j:Int):Prop:=0<=j/\j<=1000000/\i.natAbs<2 ^ 64
def IZ (i j:Int):Prop:=(-(2 ^ 64)<i/\i<2 ^ 64)\/(-(2 ^ 64)<j/\j<2 ^ 64)
theorem IZ.ok{i j:Int}(h:IZ i j):IntMulOk i j:=by
 rcases h with ⟨h1,h2⟩ |⟨h1,h2⟩
 ·exact .of_left (intBits_le_64 h1 h2)
 ·exact .of_right (intBits_le_64 h1 h2)
theorem jq:ql X (binaryOp .Add) (IX fun i j=>.int (i+j)):=Pq fun _ _ _ _ _ _ _ q=>add_int q
theorem qu:ql X (binaryOp .Sub) (IX fun i j=>.int (i-j)):=Pq fun _ _ _ _ _ _ _ q=>sub_int q
theorem tI:ql X (binaryOp .Mult) (rI IZ fun i j=>.int (i*j)):=Pp fun _ _ _ _ _ _ _ hc q=>mul_int q hc.ok
theorem sN:ql X (binaryOp .FloorDiv) (rI Pr fun i j=>.int (i/j)):=Pp fun i j _ _ _ _ _ hc q=>by
 have h1:(0:Int)<j:=hc.1;have h2:j<1073741824:=hc.2;exact floordiv_int (by lia) (by rw[Int.fdiv_eq_ediv_of_nonneg i (by lia)];exact q) (.inl (PyProof.noPylong_small (by lia)))
theorem kY:ql X (binaryOp .Mod) (rI (fun _ j=>0<j) fun i j=>.int (i%j)):=Pp fun i j _ _ _ _ _ hc q=>by
 have h1:(0:Int)<j:=hc;exact mod_int' (by lia) (by rw[Int.fmod_eq_emod_of_nonneg i (by lia)];exact q)
theorem Mw:ql X (binaryOp .Pow) (rI Tp fun i j=>.int (i ^ j.toNat)):=Pp fun _ _ _ _ _ _ _ hc q=>pow_int_small hc.1 hc.2.1 hc.2.2 q
theorem Y7{f:zdn->Sem zdn}{g:Int->Int}
 (rule:∀(i:Int) (t:Tok) (s:zdw) (Q:zdn->zdw->Prop) (E:zdn->zdw->Prop),Q (.int (g i) s.toks) {s with toks:=s.toks+1}->wpAny (model X.prog X.w) X.A (f (.int i t)) Q E s) :
 Tj X f (rU fun i=>.int (g i)):=by
 intro pins s σ H x v Q I rx h;obtain⟨i,rfl,q⟩:=h;obtain⟨t,rfl⟩:=rx;exact rule i t s _ _ ⟨.int (g i),H,I.tok _,⟨_,rfl⟩,q⟩
theorem qv:Tj X (unaryOp .USub) (rU fun i=>.int (-i)):=Y7 fun _ _ _ _ _ q=>neg_int q
end
def Df:V->V->Bool
 |.bO,.bO=>true |.bO,.int _=>true |.int _,.bO=>true |.bO,.bl _=>true |.bl _,.bO=>true |.bO,.str _=>true |.str _,.bO=>true
 |.int _,.int _=>true |.bl _,.bl _=>true |.str _,.str _=>true |.BE _,.BE _=>true
 |.int _,.str _=>true |.str _,.int _=>true |.bl _,.str _=>true |.str _,.bl _=>true
 |_,_=>false
def WJ:R2:=fun x y H Q=>Df x y=true/\Q (.bl (decide (x=y))) H
def WK:R2:=fun x y H Q=>Df x y=true/\Q (.bl (!decide (x=y))) H
theorem BP{i j:Int}:decide (V.int i=V.int j)=(i==j):=by
 rw[za0];simp
theorem E8{i j:Bool}:decide (V.bl i=V.bl j)=(i==j):=by
 rw[za0];simp
theorem BQ{i j:Str}:decide (V.str i=V.str j)=(i==j):=by
 rw[za0];simp
theorem BR{i j:Array UInt8}:decide (V.BE i=V.BE j)=(i.toList==j.toList):=by
 rw[za0];cases i;cases j;simp
section
variable{X:Cx}{a b c:Expr}{ta tb tc:TE}{pos:Pos}
theorem bV{pins:List (zdm×Obj)}{σ:St}{H:Hp}{s:zdw}{Q:VK}{k k':Bool}(I:Inv X pins σ H s)(q:Q (.bl k) H)(e:k=k'):EP X pins σ Q (.bool k') s:=by
 subst e;exact⟨.bl k,H,I,rfl,q⟩
theorem bL:ql X (compareOp .Eq) WJ:=by
 intro pins s σ H x y v u Q I rx ry h;obtain⟨hs,q⟩:=h;cases x with
 |bO=>
  cases rx;cases y with
  |bO=>cases ry;exact PySem.EqNone.eq_none_none (bV I q (by simp))
  |bl j=>cases ry;exact PySem.EqNone.eq_none_bool (bV I q (by simp))
  |int j=>obtain⟨t',rfl⟩:=ry;exact PySem.EqNone.eq_none_int (bV I q (by simp))
  |str j=>obtain⟨t',rfl⟩:=ry;exact PySem.EqNone.eq_none_str (bV I q (by simp))
  |_=>exact absurd (show false=true from hs) zas
 |bl i=>
  cases rx;cases y with
  |bO=>cases ry;exact PySem.EqNone.eq_bool_none (bV I q (by simp))
  |bl j=>cases ry;exact eq_bool (bV I q E8)
  |str j=>obtain⟨t',rfl⟩:=ry;exact PySem.EqMixed.eq_bool_str (bV I q (by simp))
  |_=>exact absurd (show false=true from hs) zas
 |int i=>
  obtain⟨t,rfl⟩:=rx;cases y with
  |bO=>cases ry;exact PySem.EqNone.eq_int_none (bV I q (by simp))
  |int j=>obtain⟨t',rfl⟩:=ry;exact eq_int (bV I q BP)
  |str j=>obtain⟨t',rfl⟩:=ry;exact PySem.EqMixed.eq_int_str (bV I q (by simp))
  |_=>exact absurd (show false=true from hs) zas
 |str i=>
  obtain⟨t,rfl⟩:=rx;cases y with
  |bO=>cases ry;exact PySem.EqNone.eq_str_none (bV I q (by simp))
  |bl j=>cases ry;exact PySem.EqMixed.eq_str_bool (bV I q (by simp))
  |int j=>obtain⟨t',rfl⟩:=ry;exact PySem.EqMixed.eq_str_int (bV I q (by simp))
  |str j=>obtain⟨t',rfl⟩:=ry;exact eq_str (bV I q BQ)
  |_=>exact absurd (show false=true from hs) zas
 |BE i=>
  obtain⟨t,rfl⟩:=rx;cases y with
  |BE j=>obtain⟨t',rfl⟩:=ry;exact PySem.W.eq_bytes (bV I q BR)
  |_=>exact absurd (show false=true from hs) zas
 |_=>cases y<;>exact absurd (show false=true from hs) zas
theorem Pt:ql X (compareOp .NotEq) WK:=by
 intro pins s σ H x y v u Q I rx ry h;obtain⟨hs,q⟩:=h;cases x with
 |bO=>
  cases rx;cases y with
  |bO=>cases ry;exact PySem.EqNone.ne_none_none (bV I q (by simp))
  |bl j=>cases ry;exact PySem.EqNone.ne_none_bool (bV I q (by simp))
  |int j=>obtain⟨t',rfl⟩:=ry;exact PySem.EqNone.ne_none_int (bV I q (by simp))
  |str j=>obtain⟨t',rfl⟩:=ry;exact PySem.EqNone.ne_none_str (bV I q (by simp))
  |_=>exact absurd (show false=true from hs) zas
 |bl i=>
  cases rx;cases y with
  |bO=>cases ry;exact PySem.EqNone.ne_bool_none (bV I q (by simp))
  |bl j=>cases ry;exact ne_bool (bV I q (congrArg not E8))
  |str j=>obtain⟨t',rfl⟩:=ry;exact PySem.EqMixed.ne_bool_str (bV I q (by simp))
  |_=>exact absurd (show false=true from hs) zas
 |int i=>
  obtain⟨t,rfl⟩:=rx;cases y with
  |bO=>cases ry;exact PySem.EqNone.ne_int_none (bV I q (by simp))
  |int j=>obtain⟨t',rfl⟩:=ry;exact ne_int (bV I q (congrArg not BP))
  |str j=>obtain⟨t',rfl⟩:=ry;exact PySem.EqMixed.ne_int_str (bV I q (by simp))
  |_=>exact absurd (show false=true from hs) zas
 |str i=>
  obtain⟨t,rfl⟩:=rx;cases y with
  |bO=>cases ry;exact PySem.EqNone.ne_str_none (bV I q (by simp))
  |bl j=>cases ry;exact PySem.EqMixed.ne_str_bool (bV I q (by simp))
  |int j=>obtain⟨t',rfl⟩:=ry;exact PySem.EqMixed.ne_str_int (bV I q (by simp))
  |str j=>obtain⟨t',rfl⟩:=ry;exact ne_str (bV I q (congrArg not BQ))
  |_=>exact absurd (show false=true from hs) zas
 |BE i=>
  obtain⟨t,rfl⟩:=rx;cases y with
  |BE j=>obtain⟨t',rfl⟩:=ry;exact PySem.W.ne_bytes (bV I q (congrArg not BR))
  |_=>exact absurd (show false=true from hs) zas
 |_=>cases y<;>exact absurd (show false=true from hs) zas
theorem og:ql X (compareOp .Lt) (IX fun i j=>.bl (decide (i<j))):=IY fun _ _ _ _ _ _ _ q=>lt_int q
theorem Pu:ql X (compareOp .LtE) (IX fun i j=>.bl (decide (i<=j))):=IY fun _ _ _ _ _ _ _ q=>le_int q
theorem yA:ql X (compareOp .Gt) (IX fun i j=>.bl (decide (j<i))):=IY fun _ _ _ _ _ _ _ q=>gt_int q
theorem Px:ql X (compareOp .GtE) (IX fun i j=>.bl (decide (j<=i))):=IY fun _ _ _ _ _ _ _ q=>ge_int q
theorem AA:ql X (compareOp .Is) (fun x y H Q=>y=.bO/\Q (.bl (decide (x=.bO))) H):=by
 intro pins s σ H x y v u Q I rx ry h;obtain⟨rfl,q⟩:=h;cases ry;refine is_none_gen (bV I q ?_);cases x<;>first
  |(cases rx;rfl)
  |(obtain⟨t,rfl⟩:=rx;rfl)
theorem BS:ql X (compareOp .IsNot) (fun x y H Q=>y=.bO/\Q (.bl (!decide (x=.bO))) H):=by
 intro pins s σ H x y v u Q I rx ry h;obtain⟨rfl,q⟩:=h;cases ry;refine isnot_none_gen (bV I q ?_);cases x<;>first
  |(cases rx;rfl)
  |(obtain⟨t,rfl⟩:=rx;rfl)
theorem aO(b:Expr){op:CmpOp}(h:op≠.In:=by decide)(h2:op≠.NotIn:=by decide):behindInMarks op b=false:=by
 have e1:(op==CmpOp.In)=false:=by cases op<;>first |rfl |exact absurd rfl h
 have e2:(op==CmpOp.NotIn)=false:=by cases op<;>first |rfl |exact absurd rfl h2
 cases b<;>simp[behindInMarks,e1,e2]
theorem fH{op:CmpOp}{r:R2}(ho:ql X (compareOp op) r)(ha:PE X a ta)(hb:PE X b tb)(hm:behindInMarks op b=false):PE X (.Compare a [op] [b] pos) (Po r ta tb):=by
 intro pins s σ H Q I h;exact wpAny_Compare1 (Mv ha hb I h fun v u s2 x y H2 I2 rx ry q=>ho pins s2 σ H2 x y v u Q I2 rx ry q) hm
def BU (t:TE):TT:=fun σ H Q=>t σ H fun x H'=>∃k,x=.bl k/\Q k H'
theorem aK{op:CmpOp}{r:R2}(ho:ql X (compareOp op) r)(ha:PE X a ta)(hb:PE X b tb)(hm:behindInMarks op b=false):PT X (.Compare a [op] [b] pos) (BU (Po r ta tb)):=by
 intro pins s σ H Q I h;refine wpAny_isTrue_Compare1 (dw (ha pins s σ H _ I h) fun v s1 zqz=>?_) hm;obtain⟨x,H1,I1,r1,q1⟩:=zqz;refine dw (hb pins s1 σ H1 _ I1 q1) fun u s2 zqz=>?_;obtain⟨y,H2,I2,r2,q2⟩:=zqz;refine dw (ho pins s2 σ H2 x y v u _ I2 r1 r2 q2) fun c s3 zqz=>?_;obtain⟨z,H3,I3,r3,k,e,q3⟩:=zqz;subst e;cases r3;exact wpAny_truthy_bool ⟨H3,I3,q3⟩
def E9 (r r':R2) (ta tb tc:TE):TE:=fun σ H Q=>ta σ H fun x H1=>tb σ H1 fun y H2=>r x y H2 fun z H3=>∃k,z=.bl k/\
 (if k=true then tc σ H3 fun w' H4=>r' y w' H4 Q else Q (.bl false) H3)
def Py (K:zaa) (x:V) (H:Hp) (k:Bool):Prop:=
 match x with
 |.bO=>k=false
 |.bl b=>k=b
 |.int i=>k=(i != 0)
 |.str y=>y.length<=zdu/\k=((y.length:Int) != 0)
 |.BE y=>y.size<=zdu/\k=((y.size:Int) != 0)
 |.ref p=>(∃xs,fF K H p xs/\k = !xs.isEmpty)\/(∃xs,bS K H p xs/\k = !xs.isEmpty)\/∃kvs,H p=some (.dK kvs)/\k = !kvs.isEmpty
 |_=>False
theorem AB{κ:Type}{kvs:List (κ×V)}{vs:List (κ×zdn)}(r:KV kvs vs):(!vs.isEmpty) = !kvs.isEmpty:=by
 cases r<;>rfl
theorem tJ{xs:List V}{bq:List zdn}(r:Vals xs bq):(!bq.toArray.isEmpty) = !xs.isEmpty:=by
 cases r<;>simp
theorem qw:(zdu:Nat)<2 ^ 63:=by rw[sizeLine_eq];decide
theorem Mx:Tn X (fun x H Q=>∃k,Py X.K x H k/\Q k H):=by
 intro pins s σ H x v Q I rx h;obtain⟨k,e,q⟩:=h;have hl:=qw;have hs:zdu=16777216:=sizeLine_eq;cases x with
 |bO=>
  cases rx;have e':k=false:=e;subst e';exact truthy_none ⟨H,I,q⟩
 |bl b=>
  cases rx;have e':k=b:=e;subst e';exact wpAny_truthy_bool ⟨H,I,q⟩
 |int i=>
  obtain⟨t,rfl⟩:=rx;have e':k=(i != 0):=e;subst e';exact PySem.P.truthy_int ⟨H,I,q⟩
 |str y=>
  obtain⟨t,rfl⟩:=rx;obtain⟨hy,e'⟩:y.length<=zdu/\k=((y.length:Int) != 0):=e;subst e';exact PySem.P.truthy_str (by lia) ⟨H,I.tok _,q⟩
 |BE y=>
  obtain⟨t,rfl⟩:=rx;obtain⟨hy,e'⟩:y.size<=zdu/\k=((y.size:Int) != 0):=e;subst e';exact PySem.W.truthy_bytes (by lia) ⟨H,I.tok _,q⟩
 |ref p=>
  cases rx;have e':(∃xs,fF X.K H p xs/\k = !xs.isEmpty)\/(∃xs,bS X.K H p xs/\k = !xs.isEmpty)\/∃kvs,H p=some (.dK kvs)/\k = !kvs.isEmpty:=e;rcases e' with ⟨xs,hx,e'⟩ |⟨xs,hx,e'⟩ |⟨kvs,hx,e'⟩
  ·subst e';obtain⟨bq,r,pl,hz⟩:=I.list hx;have hlen:=r.length;exact wpAny_truthy_list pl.isList (by simp only[zat];lia) ⟨H,I.tok _,by rw[tJ r];exact q⟩
  ·subst e';obtain⟨bq,r,pl,hz⟩:=I.tuple hx;have hlen:=r.length;exact truthy_tuple pl (by simp only[zat];lia) ⟨H,I.tok _,by rw[tJ r];exact q⟩
  ·subst e';obtain⟨hz,hS,vs,r,m⟩:kvs.length<=zdu/\(p==sysModules)=false/\∃vs,KV kvs vs/\s.heap.DictOf (bX X.prog X.w) p vs:=I.da p _ hx;have hlen:kvs.length=vs.length:=Paired.length r;exact wpAny_truthy_dict hS m (by lia) ⟨H,I.tok _,by rw[AB r];exact q⟩
 |_=>exact(show False from e).elim
theorem yC(ha:PE X a ta)(he:∀whole,isTrue a X.env whole=(do let v <- whole;standAt a.pos;holding [v] (truthy v))) :
 PT X a (fun σ H Q=>ta σ H fun x H'=>∃k,Py X.K x H' k/\Q k H'):=by
 intro pins s σ H Q I h;exact isTrue_plain (dw (ha pins s σ H _ I h) fun v s1 ⟨x,H1,I1,r1,q1⟩=>Mx pins s1 σ H1 x v Q I1 r1 q1) (he _)
theorem vals1{x:V}{us:List zdn}(r:Vals [x] us):∃u,us=[u]/\RelV x u:=by
 cases r with
 |cons r1 r2=>cases r2;exact⟨_,rfl,r1⟩
theorem vals2{x y:V}{us:List zdn}(r:Vals [x,y] us):∃u w',us=[u,w']/\RelV x u/\RelV y w':=by
 cases r with
 |cons r1 r2=>
  cases r2 with
  |cons r3 r4=>cases r4;exact⟨_,_,rfl,r1,r3⟩
theorem ko(hc:X.calm=true):lS X (.builtin "max") (fun xs H Q=>∃i j,xs=[.int i,.int j]/\Q (.int (if j>i then j else i)) H):=by
 intro pins s σ H xs us Q I r h;obtain⟨i,j,rfl,q⟩:=h;obtain⟨u,w',rfl,⟨t,rfl⟩,⟨t',rfl⟩⟩:=vals2 r;refine max_two_ints (I.ok.hd hc) fun h' tk k=>⟨_,H,I.kept k,?_,q⟩
 by_cases hj:j>i
 ·rw[if_pos hj,if_pos hj];exact⟨_,rfl⟩
 ·rw[if_neg hj,if_neg hj];exact⟨_,rfl⟩
theorem je(hc:X.calm=true):lS X (.builtin "min") (fun xs H Q=>∃i j,xs=[.int i,.int j]/\Q (.int (if j<i then j else i)) H):=by
 intro pins s σ H xs us Q I r h;obtain⟨i,j,rfl,q⟩:=h;obtain⟨u,w',rfl,⟨t,rfl⟩,⟨t',rfl⟩⟩:=vals2 r;refine min_two_ints (I.ok.hd hc) fun h' tk k=>⟨_,H,I.kept k,?_,q⟩
 by_cases hj:j<i
 ·rw[if_pos hj,if_pos hj];exact⟨_,rfl⟩
 ·rw[if_neg hj,if_neg hj];exact⟨_,rfl⟩
end
structure Dh(h:Heap)(x dx C:zdm)(mA:Str->Option zdn):Prop where
 obj:h.get? x=some (zbs C dx)
 ns:h.Ns1 dx mA
 ne:dx≠x
theorem Di{h:Heap}{dx:zdm}{mA:Str->Option zdn}(n:h.Ns1 dx mA):∃od,h.get? dx=some od/\∀name,zda name od=some (mA name):=by
 obtain⟨o,es,ep,ho,hd,hk,_,hm⟩:=n;refine⟨o,ho,fun name=>?_⟩;have e:=hm name;unfold nsFind findBy at e;rw[<- Array.find?_toList] at e;unfold zda;rw[hd];dsimp only;split
 ·rename_i y q;rw[q] at e;exact congrArg some e
 ·rename_i q;rw[q] at e;have a:es.toList.any (·.refKey)=false:=by
   rw[List.any_eq_false];intro y hy;obtain⟨z,t,Tq⟩:=hk y (Array.mem_toList_iff.mp hy);simp[DictEntry.refKey,Tq]
  have a':¬es.toList.any (·.refKey)=true:=by rw[a];exact zas
  rw[if_neg a'];exact congrArg some e
theorem Dh.look{h:Heap}{x dx C:zdm}{mA:Str->Option zdn}(I:Dh h x dx C mA):∃od,PySem.W.InstAt h x (zbs C dx) C (some od)/\∀name,zda name od=some (mA name):=
 let ⟨od,ho,hl⟩:=Di I.ns
 ⟨od,⟨I.obj,rfl,rfl,ho⟩,hl⟩
section
variable{prog:zdy}{w:zdo}{A:zdx}{E:zdn->zdw->Prop}{s:zdw}{K:zaa}{x dx C f:zdm}{mA:Str->Option zdn}{name:Str}{v:zdn}
theorem get_map{expr:Bool}{Q:zdn->zdw->Prop}(X:K.In s.heap)(I:Dh s.heap x dx C mA)(hg:zch K C name=true)(hh:zcc K C=true)
 (ha:zaP K (.ref C) name=some none) (hv:mA name=some v) (Iu:PySem.W.handedIn v=true) (h:Q v {s with toks:=s.toks+1}) :
 wpAny (model prog w) A (getAttr (.ref x) name expr) Q E s:=by
 obtain⟨od,J,hl⟩:=I.look;exact PySem.W.get_value X J (PySem.W.plainGet_of hg).1 (PySem.W.findObj_own hh ha rfl (by rw[hl,hv])) Iu h
theorem w4{ns:List Str}{Q:Unit->zdw->Prop}(X:K.In s.heap)(I:Dh s.heap x dx C mA)
 (hs:zaP K (.ref C) "__setattr__"=some (some (.builtin "object.__setattr__"))) (hp:zcG K C=true) (ht:zcZ K C name=some none) (hh:zcc K C=true)
 (hw:PySem.Within mA ns) (hsz:ns.length<=zdu)
 (h:∀h',Dh h' x dx C (fun y=>if y=name then some v else mA y)->Heap.SameBut dx s.heap h'->Q () {s with heap:=h',toks:=s.toks+2}) :
 wpAny (model prog w) A (setAttr (.ref x) name v) Q E s:=by
 obtain⟨od,J,hl⟩:=I.look;refine PySem.W.set_plain X J hs (PySem.W.osa_open (s:={s with toks:=s.toks+1}) (r:=none) X J hp ht fun b=>?_);obtain⟨cd,hc,BF⟩:=PySem.W.any_some hh;have hx:s.heap.get? x=some ⟨.ref C,some dx,.plain, #[]⟩:=I.obj;refine zdp (zdq (zdp (zdp (wpAny_loadPart hx (zdp (PySem.W.Looks.here (s:={s with toks:=s.toks+1}) (PySem.W.looks_clsIn X hc) ?_))))));rw[BF];refine zdq (a:=some dx) (zdp (zdq (zdp ?_)));refine wpAny_nsSet1 (s:={s with toks:=s.toks+1}) I.ns fun h' Sf u0=>?_;obtain⟨oD,esD,epD,Y8,Y9,Za⟩:=Sf.count (PySem.Within.cons name v hw);refine zdp (wpAny_lookBehind Y8 (by rw[Y9];exact pastItsLine_dict (zau Za (by rw[zak];lia))) ?_);exact zdq (h _ ⟨(u0.2 _ (Ne.symm I.ne)).trans I.obj,Sf,I.ne⟩ u0)
theorem Fb{R:Result->zdw->Prop}{vs:List zdn}{kw:List (Str×zdn)}(X:K.In s.heap)(hm:zc0 K C=true)
 (hi:zaP K (.ref C) "__init__"=some (some (.ref f))) (hf:PySem.W.typeIn K (.ref f)=some (.type "function"))
 (h:codeAny (model prog w) (A.under (.builtin "type.__call__" ⟨.ref C::vs,kw⟩)) (.call (.ref f) ⟨.ref (s.heap.objs.size+1)::vs,kw⟩) (PySem.W.InitBack (s.heap.objs.size+1) R)
  {s with heap:=(s.heap.push za9).push (zbs C s.heap.objs.size)}) :
 codeAny (model prog w) A (.call (.ref C) ⟨vs,kw⟩) R s:=by
 obtain⟨hh,g,d,t,os⟩:=s;exact PySem.W.make_core (PySem.W.makes_of X hm) (PySem.W.looks_findIn X hi) (fun self=>PySem.W.bind_fn X self hf) (.inl rfl) h
end
def jM (f:Str) (v:V):List (Str×V)->List (Str×V)
 |[]=>[(f,v)]
 |(g,x)::r=>if g=f then (g,v)::r else (g,x)::jM f v r
theorem rA(f g:Str)(v:V):∀fs:List (Str×V),(jM f v fs).lookup g=if g=f then some v else fs.lookup g
 |[]=>by
  show zbL g [(f,v)]=_;by_cases h:g=f
  ·have hb:(g==f)=true:=beq_iff_eq.mpr h;simp only[zbL,hb,if_pos h]
  ·have hb:(g==f)=false:=beq_eq_false_iff_ne.mpr h;simp only[zbL,hb,if_neg h]
 |(k,x)::r=>by
  have ih:=rA f g v r;rw[show jM f v ((k,x)::r)=(if k=f then (k,v)::r else (k,x)::jM f v r) from rfl];by_cases hk:k=f
  ·rw[if_pos hk];by_cases h:g=k
   ·have hb:(g==k)=true:=beq_iff_eq.mpr h;simp only[zbL,hb,if_pos (h.trans hk)]
   ·have hb:(g==k)=false:=beq_eq_false_iff_ne.mpr h;simp only[zbL,hb,if_neg (fun e:g=f=>h (e.trans hk.symm))]
  ·rw[if_neg hk];by_cases h:g=k
   ·have hb:(g==k)=true:=beq_iff_eq.mpr h;simp only[zbL,hb,if_neg (fun e:g=f=>hk (h.symm.trans e))]
   ·have hb:(g==k)=false:=beq_eq_false_iff_ne.mpr h;simp only[zbL,hb];exact ih
theorem qx(f:Str)(v:V):∀fs:List (Str×V),f∈(jM f v fs).map (·.1)/\∀g,g∈fs.map (·.1)->g∈(jM f v fs).map (·.1)
 |[]=>⟨by simp[jM],fun g h=>by simp at h⟩
 |(k,x)::r=>by
  obtain⟨i1,i2⟩:=qx f v r;rw[show jM f v ((k,x)::r)=(if k=f then (k,v)::r else (k,x)::jM f v r) from rfl];by_cases hk:k=f
  ·rw[if_pos hk];subst hk;exact⟨by simp,fun g h=>by simpa using h⟩
  ·rw[if_neg hk];refine⟨?_,fun g h=>?_⟩
   ·rw[zar];exact zad _ i1
   ·rw[zar] at h ⊢;rcases zag.mp h with e |e
    ·exact zag.mpr (.inl e)
    ·exact zad _ (i2 g e)
theorem rC(f:Str)(v:V):∀fs:List (Str×V),(jM f v fs).length<=fs.length+1
 |[]=>by simp[jM]
 |(k,x)::r=>by
  have ih:=rC f v r;rw[show jM f v ((k,x)::r)=(if k=f then (k,v)::r else (k,x)::jM f v r) from rfl];by_cases hk:k=f
  ·rw[if_pos hk,zak,zak];lia
  ·rw[if_neg hk,zak,zak];lia
theorem nT.some_of{v:V}{o:Option zdn}(r:nT (some v) o):∃u,o=some u/\RelV v u:=by
 cases o with
 |none=>exact(show False from r).elim
 |some u=>exact⟨u,rfl,r⟩
theorem Dj{v:V}{u:zdn}(r:RelV v u):PySem.W.handedIn u=true:=by
 cases v with
 |bO=>cases (show u=Value.none from r);rfl
 |bl b=>cases (show u=Value.bool b from r);rfl
 |int i=>obtain⟨t,e⟩:=(show ∃t,u=Value.int i t from r);cases e;rfl
 |str x=>obtain⟨t,e⟩:=(show ∃t,u=Value.str x t from r);cases e;rfl
 |BE b=>obtain⟨t,e⟩:=(show ∃t,u=Value.bytes b t from r);cases e;rfl
 |R6 b=>obtain⟨t,e⟩:=(show ∃t,u=Value.float b t from r);cases e;rfl
 |ref a=>cases (show u=Value.ref a from r);rfl
 |ty n=>cases (show u=Value.type n from r);rfl
section
variable{P:zdy}{w:zdo}{H H':Hp}{h h':Heap}{a C dx:zdm}{fs Me:List (Str×V)}
theorem BV(da:oJ P w H h)(e:H a=some (.ins C dx fs)):∃mA,Dh h a dx C mA/\(∀f,nT (fs.lookup f) (mA f))/\PySem.Within mA (fs.map (·.1))/\fs.length<=1000/\H dx=some (.own a):=by
 obtain⟨d,z,ne,ob,mA,n,r,q⟩:=(show dP P w H h a (.ins C dx fs) from da a _ e)
 exact⟨mA,⟨ob,n,ne⟩,r,q,z,d⟩
end
structure Lc(K:zaa)(C:zdm):Prop where
 pg:zch K C Str.empty=true
 hd:zcc K C=true
 po:zcG K C=true
 sa:zaP K (.ref C) "__setattr__"=some (some (.builtin "object.__setattr__"))
theorem Lc.get{K:zaa}{C:zdm}(c:Lc K C)(f:Str):zch K C f=true:=c.pg
def iT (K:zaa) (C:zdm) (f:Str):Prop:=zaP K (.ref C) f=some none
theorem iT.Pz{K:zaa}{C:zdm}{f:Str}(n:iT K C f):zcZ K C f=some none:=by
 unfold zcZ;rw[show zaP K (.ref C) f=some none from n];rfl
section
variable{X:Cx}{pins:List (zdm×Obj)}{σ:St}{H:Hp}{s:zdw}{a C dx:zdm}{fs:List (Str×V)}{f:Str}{v:V}{A:zdx}{E:zdn->zdw->Prop}
theorem AD{b:Bool}{Q:zdn->zdw->Prop}(I:Inv X pins σ H s)(e:H a=some (.ins C dx fs))(c:Lc X.K C)(n:iT X.K C f)(l:fs.lookup f=some v)
 (h:∀u s',Inv X pins σ H s'->RelV v u->Q u s'):wpAny (model X.prog X.w) A (getAttr (.ref a) f b) Q E s:=by
 obtain⟨mA,O,r,_,_,_⟩:=BV I.da e;obtain⟨u,hu,ru⟩:=nT.some_of (v:=v) (o:=mA f) (by rw[<- l];exact r f);exact get_map I.ES O (c.get f) c.hd n hu (Dj ru) (h u _ (I.tok _) ru)
theorem AE{y:V}{u:zdn}{Q:Unit->zdw->Prop}(I:Inv X pins σ H s)(e:H a=some (.ins C dx fs))(c:Lc X.K C)(n:iT X.K C f)(hl:fs.length<1000)(ry:RelV y u)
 (h:∀s',Inv X pins σ (upd H a (.ins C dx (jM f y fs))) s'->Q () s'):wpAny (model X.prog X.w) A (setAttr (.ref a) f u) Q E s:=by
 obtain⟨mA,O,r,wi,_,ho⟩:=BV I.da e;have hz:(fs.map (·.1)).length<=zdu:=by rw[zae,sizeLine_eq];lia
 refine w4 I.ES O c.sa c.po n.Pz c.hd wi hz fun h' O' sb=>h _ ?_;have hd:∃o,h'.get? dx=some o:=let ⟨o,_,_,e',_⟩:=O'.ns;⟨o,e'⟩;refine I.write (x:=a) (e:=dx) (by rw[e];exact True.intro) (.inr ho) (fun b q hb z=>(sb.2 b hb).trans z) hd ?_;refine⟨by rw[aE O.ne];exact ho,?_,O.ne,O'.obj,_,O'.ns,fun g=>?_,fun g hg=>?_⟩
 ·have:=rC f y fs;lia
 ·show nT ((jM f y fs).lookup g) (if g=f then some u else mA g);rw[rA];by_cases q:g=f
  ·rw[if_pos q,if_pos q];exact ry
  ·rw[if_neg q,if_neg q];exact r g
 ·by_cases q:g=f
  ·rw[q];exact(qx f y fs).1
  ·refine(qx f y fs).2 g (wi g fun z=>hg ?_);show (if g=f then some u else mA g)=none;rw[if_neg q];exact z
theorem Inv.made(I:Inv X pins σ H s):Inv X pins σ (upd (upd H s.heap.objs.size (.own (s.heap.objs.size+1))) (s.heap.objs.size+1) (.ins C s.heap.objs.size []))
 {s with heap:=(s.heap.push za9).push (zbs C s.heap.objs.size)}:=by
 have e1:(s.heap.push za9).get? s.heap.objs.size=some za9:=Heap.get?_push_size s.heap rfl;have e2:((s.heap.push za9).push (zbs C s.heap.objs.size)).get? (s.heap.objs.size+1)=some (zbs C s.heap.objs.size):=by
  have:=Heap.get?_push_size (s.heap.push za9) (o:=zbs C s.heap.objs.size) rfl
  rwa [Heap.size_push] at this
 have e3:(s.heap.push za9).Ns s.heap.objs.size (fun _=>none):=⟨za9, #[],_,e1,rfl,(fun e he=>absurd he (by simp)),fun _=>rfl⟩
 have I1:=I.laid (a:=s.heap.objs.size) (o:=.own (s.heap.objs.size+1)) (h':=s.heap.push za9) (t':=s.toks) (fun b u q=>Heap.get?_push_of_some _ q) (zam _) ⟨_,e1⟩;refine I1.laid (a:=s.heap.objs.size+1) (o:=.ins C s.heap.objs.size []) (t':=s.toks) (fun b u q=>Heap.get?_push_of_some _ q) (zcI (Heap.size_push _ _)) ?_;have ne:s.heap.objs.size≠s.heap.objs.size+1:=zaw (Nat.lt_succ_self _);refine⟨by rw[aE ne,aq],zaM _,ne,e2,fun _=>none,(Heap.Ns1.of_empty e3).at fun o q=>Heap.get?_push_of_some _ q,fun _=>True.intro,fun y hy=>absurd rfl hy⟩
theorem I0{prog:zdy}{w:zdo}{env:Env}{e:Expr}{f:Str}{pos:Pos}{s:zdw}{Q:zdn->zdw->Prop}(hb:attributeBase e f env (eval e env)=eval e env)
 (h:wpAny (model prog w) A (eval e env) (fun o s₁=>wpAny (model prog w) A (getAttr o f true) Q E s₁) E s):wpAny (model prog w) A (eval (.Attribute e f pos) env) Q E s:=
 Attribute_any_ h (by rw[arm_eval_Attribute,hb])
end
def My (K:zaa) (ta:TE) (f:Str):TE:=fun σ H Q=>ta σ H fun x H1=>∃a C dx fs v,x=.ref a/\H1 a=some (.ins C dx fs)/\Lc K C/\iT K C f/\fs.lookup f=some v/\Q v H1
def yE (K:zaa) (ta tv:TE) (f:Str):TS:=fun D σ H=>tv σ H fun y H1=>ta σ H1 fun x H2=>∃a C dx fs,x=.ref a/\H2 a=some (.ins C dx fs)/\Lc K C/\iT K C f/\fs.length<1000/\
 D.nx σ (upd H2 a (.ins C dx (jM f y fs)))
def BW (K:zaa) (ta tv:TE) (rd:V->V->Hp->VK->Prop) (f:Str):TS:=fun D σ H=>ta σ H fun x H1=>∃a C dx fs v,x=.ref a/\H1 a=some (.ins C dx fs)/\Lc K C/\iT K C f/\fs.lookup f=some v/\
 tv σ H1 fun y H2=>rd v y H2 fun z H3=>∃Iw Me,H3 a=some (.ins C Iw Me)/\Me.length<1000/\D.nx σ (upd H3 a (.ins C Iw (jM f z Me)))
section
variable{X:Cx}{o e value:Expr}{f:Str}{pos pos' Ts:Pos}{ta tv:TE}
theorem dW(he:PE X e ta)(hb:attributeBase e f X.env (eval e X.env)=eval e X.env):PE X (.Attribute e f pos) (My X.K ta f):=by
 intro pins s σ H Q I h;refine I0 hb (dw (he pins s σ H _ I h) fun u s1 zqz=>?_);obtain⟨x,H1,I1,rx,a,C,dx,fs,v,ex,ea,c,n,l,q⟩:=zqz;subst ex;obtain rfl:u=Value.ref a:=rx;exact AD I1 ea c n l fun u' s2 I2 ru=>⟨v,H1,I2,ru,q⟩
theorem tK(ha:PE X o ta)(hv:PE X value tv)(hs:swapsWith value (some (.Attribute o f pos')) pos.line X.env=pure false):PS X (.Assign [.Attribute o f pos'] value pos) (yE X.K ta tv f):=by
 intro pins s σ H D I h;refine plainObj_wpAny_Assign_Attribute (dw (hv pins s σ H _ I h) fun u s1 zqz=>?_) hs;obtain⟨y,H1,I1,ry,q⟩:=zqz;refine dw (ha pins s1 σ H1 _ I1 q) fun ov s2 zqz=>?_;obtain⟨x,H2,I2,rx,a,C,dx,fs,ex,ea,c,n,l,q2⟩:=zqz;subst ex;obtain rfl:ov=Value.ref a:=rx;exact AE I2 ea c n l ry fun s3 I3=>⟨σ,_,I3,q2⟩
end
structure hZ(k:Nat)(A:zdx):Prop where
 hd:A.handled=none
 dp:A.depth+3*k+5<recursionLimit
 un:A.units+16*k+200<cLine
theorem hZ.mono{j k:Nat}{A:zdx}(r:hZ k A)(h:j<=k):hZ j A:=⟨r.hd,by have:=r.dp;lia,by have:=r.un;lia⟩
theorem hZ.deeper{k:Nat}{A:zdx}(r:hZ (k+1) A)(env:Env):hZ k (A.deeper env):=
 ⟨r.hd,by have:=r.dp;show A.depth+1+3*k+5<_;lia,by have:=r.un;show A.units+3+16*k+200<_;lia⟩
theorem hZ.in1{k:Nat}{A:zdx}(r:hZ (k+1) A):hZ k A.in1:=
 ⟨r.hd,by have:=r.dp;show A.depth+3*k+5<_;lia,by have:=r.un;show A.units+1+16*k+200<_;lia⟩
theorem AF{A:zdx}{C:zdm}{us:List zdn}{kw:List (Str×zdn)}:(A.under (.builtin "type.__call__" ⟨.ref C::us,kw⟩)).depth=A.depth+1:=by
 first |rfl |simp[Around.under,Code.weight,Code.isCreation,Code.isGuard,Code.isCaller,Code.frames,Code.isFrame,guardIds]
theorem AG{A:zdx}{C:zdm}{us:List zdn}{kw:List (Str×zdn)}:(A.under (.builtin "type.__call__" ⟨.ref C::us,kw⟩)).units=A.units+1:=by
 first |rfl |simp[Around.under,Code.cUnits,Code.frames,Code.isFrame]
theorem hZ.make{k:Nat}{A:zdx}(r:hZ (k+1) A)(C:zdm)(us:List zdn)(kw:List (Str×zdn)):hZ k (A.under (.builtin "type.__call__" ⟨.ref C::us,kw⟩)):=
 ⟨r.hd,by have:=r.dp;rw[AF];lia,by have:=r.un;rw[AG];lia⟩
theorem hZ.depth{k:Nat}{A:zdx}(r:hZ k A):A.depth<recursionLimit:=by have:=r.dp;lia
theorem hZ.units{k:Nat}{A:zdx}(r:hZ k A):A.units+64<cLine:=by have:=r.un;lia
def Mz:TA:=fun _ H Q=>Q [] H
def BX (ta:TE) (tr:TA):TA:=fun σ H Q=>ta σ H fun x H1=>tr σ H1 fun xs H2=>Q (x::xs) H2
section
variable{X:Cx}{e:Expr}{es:List Expr}{te:TE}{t:TA}{pos:Pos}
theorem aj:PA X [] Mz:=fun _ _ _ _ H Q I h=>Calls.spliced_nil ⟨[],H,I,.nil,h⟩
theorem ae(ha:PE X e te)(hr:PA X es t)(hs:zds (e::es) X.env=(false,eval e X.env)::zds es X.env:=by rfl):PA X (e::es) (BX te t):=by
 intro pos pins s σ H Q I h;rw[hs];show wpAny _ _ (spliced ((false,eval e X.env)::backTo pos (zds es X.env))) _ _ s;refine Calls.spliced_cons (dw (ha pins s σ H _ I h) fun u s1 zqz=>?_);obtain⟨x,H1,I1,r1,q1⟩:=zqz;exact dw (hr pos pins s1 σ H1 _ I1 q1) fun us s2 ⟨xs,H2,I2,r2,q2⟩=>⟨x::xs,H2,I2,.cons r1 r2,q2⟩
def MA (t:TA):TE:=fun σ H Q=>t σ H fun xs H1=>xs.length<=zdu/\∀p,H1 p=none->Q (.ref p) (upd H1 p (.tup xs))
def PB (t:TA):TE:=fun σ H Q=>t σ H fun xs H1=>xs.length<=zdu/\∀p,H1 p=none->Q (.ref p) (upd H1 p (.lst xs))
theorem bt{x1}(h:PA X es t):PE X (.Tuple es x1 pos) (MA t):=by
 intro pins s σ H Q I hq;refine wpAny_Tuple_spliced (dw (h pos pins s σ H _ I hq) fun us s1 ⟨xs,H1,I1,r,z,q⟩=>⟨by rw[<- r.length];exact z,?_⟩);have hf:H1 s1.heap.objs.size=none:=I1.da.fresh (zam _);refine⟨.ref s1.heap.objs.size,upd H1 s1.heap.objs.size (.tup xs),I1.laid (t':=s1.toks) (fun b u e=>Heap.get?_push_of_some _ e) (zam _) ?_,rfl,q _ hf⟩;exact⟨z,us,r,⟨_,Heap.get?_push_size _ rfl,rfl,_,rfl⟩⟩
theorem bJ(h:PA X es t):PE X (.List es pos) (PB t):=by
 intro pins s σ H Q I hq;refine wpAny_List_spliced (dw (h pos pins s σ H _ I hq) fun us s1 ⟨xs,H1,I1,r,z,q⟩=>⟨by rw[<- r.length];exact z,?_⟩);have hf:H1 s1.heap.objs.size=none:=I1.da.fresh (zam _);refine⟨.ref s1.heap.objs.size,upd H1 s1.heap.objs.size (.lst xs),I1.laid (t':=s1.toks) (fun b u e=>Heap.get?_push_of_some _ e) (zam _) ?_,rfl,q _ hf⟩;exact⟨z,us,0,r,Heap.get?_push_size _ rfl⟩
end
abbrev Sp:=List V->Hp->VK->XK->Prop
abbrev AH:=List Env->Hp->zdw->XK->zdn->zdw->Prop
structure vn(P:zdy)(w:zdo)(K:zaa)(mg:Str->Option zdn)(base:Heap)(A:zdx)(outer:List Env)(s:zdw)(H:Hp):Prop where
 frames:A.frames=some outer
 mod:Mod K mg base
 bs:∀b o,base.get? b=some o->s.heap.get? b=some o/\H b=none
 EO:base.objs.size<=s.heap.objs.size
 qp:s.heap.FunFrames base outer
 K8:∀b∈iS outer,H b=none
 da:oJ P w H s.heap
 bare:AllBare s.gens
def CE (outer:List Env) (P:zdy) (w:zdo) (H:Hp) (s:zdw) (Q:VK) (u:zdn) (s':zdw):Prop:=
 ∃v H',s'.os=s.os/\AllBare s'.gens/\Un (iS outer) [] H H' s.heap s'.heap/\oJ P w H' s'.heap/\RelV v u/\Q v H'
def CR (CX:AH) (outer:List Env) (P:zdy) (w:zdo) (H:Hp) (s:zdw) (Q:VK) (E:XK) (r:Result) (s':zdw):Prop:=
 match r with
 |.ok (.ret u)=>CE outer P w H s Q u s'
 |.ok _=>False
 |.error e=>CX outer H s E e s'
structure bB(P:zdy)(w:zdo)(K:zaa)(mg:Str->Option zdn)(base:Heap)(CX:AH)(k:Nat)(f:zdm)(fd:zdv)(ps:List Str)(sp:Sp):Prop where
 len:∀vs H Q E,sp vs H Q E->vs.length=ps.length
 run:∀(A:zdx) (outer:List Env) (s:zdw) (H:Hp) (args:Args) (us:List zdn) (vs:List V) (Q:VK) (E:XK),hZ k A->vn P w K mg base A outer s H->BindsTo s fd args (ps.zip us)->Vals vs us->sp vs H Q E->
  codeAny (model P w) A (.call (.ref f) args) (CR CX outer P w H s Q E) s
theorem bB.mono{P:zdy}{w:zdo}{K:zaa}{mg:Str->Option zdn}{base:Heap}{CX:AH}{j k:Nat}{f:zdm}{fd:zdv}{ps:List Str}{sp:Sp}(F:bB P w K mg base CX j f fd ps sp)(h:j<=k) :
 bB P w K mg base CX k f fd ps sp:=⟨F.len,fun A outer s H args us vs Q E hr=>F.run A outer s H args us vs Q E (hr.mono h)⟩
theorem bB.imp{P:zdy}{w:zdo}{K:zaa}{mg:Str->Option zdn}{base:Heap}{CX:AH}{k:Nat}{f:zdm}{fd:zdv}{ps:List Str}{sp WL:Sp}(F:bB P w K mg base CX k f fd ps sp)
 (h:∀vs H Q E,WL vs H Q E->sp vs H Q E):bB P w K mg base CX k f fd ps WL:=
 ⟨fun vs H Q E q=>F.len vs H Q E (h _ _ _ _ q),fun A outer s H args us vs Q E hr he hb hv hs=>F.run A outer s H args us vs Q E hr he hb hv (h _ _ _ _ hs)⟩
theorem vn.make{P:zdy}{w:zdo}{K:zaa}{mg:Str->Option zdn}{base:Heap}{A:zdx}{outer:List Env}{s:zdw}{H:Hp}(e:vn P w K mg base A outer s H)(C:zdm)(us:List zdn)(kw:List (Str×zdn)) :
 vn P w K mg base (A.under (.builtin "type.__call__" ⟨.ref C::us,kw⟩)) outer s H:=⟨by first |exact e.frames |(simpa[Around.under,Code.envs,Code.isFrame,pushEnvs] using e.frames),e.mod,e.bs,e.EO,e.qp,e.K8,e.da,e.bare⟩
theorem vn.in1{P:zdy}{w:zdo}{K:zaa}{mg:Str->Option zdn}{base:Heap}{A:zdx}{outer:List Env}{s:zdw}{H:Hp}(e:vn P w K mg base A outer s H) :
 vn P w K mg base A.in1 outer s H:=⟨e.frames,e.mod,e.bs,e.EO,e.qp,e.K8,e.da,e.bare⟩
section
variable{X:Cx}{pins:List (zdm×Obj)}{σ:St}{H:Hp}{s s':zdw}
theorem Inv.PD(I:Inv X pins σ H s):vn X.prog X.w X.K X.mg X.base X.A X.stack s H:=
 ⟨I.ok.frames,I.ok.mod,I.bs,zau I.ok.EO I.sz,I.stack,I.BG,I.da,I.bare⟩
theorem Inv.after{Q:VK}{u:zdn}(I:Inv X pins σ H s)(h:CE X.stack X.prog X.w H s Q u s'):EP X pins σ Q u s':=by
 obtain⟨v,H',os,bare,un,da,r,q⟩:=h;obtain⟨hh,g,d,t,Zb⟩:=s';obtain rfl:Zb=s.os:=os;exact⟨v,H',I.call (h':=hh) (g':=g) (d':=d) (t':=t) (ch:=[]) un da bare (fun b z=>absurd z (by simp)),r,q⟩
end
def Ld (sp:Sp) (vS:List V) (E:XK) (t:TA):TE:=fun σ H Q=>t σ H fun vs H1=>sp (vs++vS) H1 Q E
def Le (C:zdm) (m:Str) (sp:Sp) (vS:List V) (E:XK) (ta:TE) (t:TA):TE:=fun σ H Q=>ta σ H fun x H1=>∃a dx fs,x=.ref a/\H1 a=some (.ins C dx fs)/\fs.lookup m=none/\
 t σ H1 fun vs H2=>sp (x::(vs++vS)) H2 Q E
def Fc (C:zdm) (sp:Sp) (vS:List V) (E:XK) (t:TA):TE:=fun σ H Q=>t σ H fun vs H1=>∀x dx,H1 x=none->H1 dx=none->dx≠x->
 sp (.ref x::(vs++vS)) (upd (upd H1 dx (.own x)) x (.ins C dx [])) (fun v H2=>v=.bO/\Q (.ref x) H2) E
def Binds (K:zaa) (fd:zdv) (ps:List Str) (ds:List zdn):Prop:=
 ∀(s:zdw) (us:List zdn),K.In s.heap->(us++ds).length=ps.length->BindsTo s fd ⟨us,[]⟩ (ps.zip (us++ds))
theorem Binds.all{K:zaa}{fd:zdv}{ps:List Str}(h:∀us:List zdn,us.length=ps.length->bindArgs fd ⟨us,[]⟩=pure (ps.zip us)):Binds K fd ps []:=fun s us _ hl=>by
 rw[zba] at hl ⊢;exact .of_eq (h us hl)
def Passes (CX:AH) (X:Cx) (E:XK):Prop:=∀(pins:List (zdm×Obj)) (σ:St) (H:Hp) (s:zdw) (e:zdn) (s':zdw),Inv X pins σ H s->CX X.stack H s E e s'->X.xe e s'
section
variable{X:Cx}{CX:AH}{k:Nat}{f C:zdm}{fd:zdv}{ps:List Str}{sp:Sp}{vS:List V}{ds:List zdn}{E:XK}{x m:Str}{p pos apos:Pos}{e o:Expr}{es:List Expr}{ta:TE}{t:TA}
theorem MB{pins:List (zdm×Obj)}{σ:St}{H:Hp}{s:zdw}{Q:VK}{us:List zdn}{vs:List V}(F:bB X.prog X.w X.K X.mg X.base CX k f fd ps sp)(hr:hZ k X.A)(hb:Binds X.K fd ps ds)(hd:Vals vS ds)(hx:Passes CX X E)
 (I:Inv X pins σ H s) (r:Vals vs us) (h:sp (vs++vS) H Q E):wpAny (model X.prog X.w) X.A (call (.ref f) us) (EP X pins σ Q) X.xe s:=by
 have r2:Vals (vs++vS) (us++ds):=r.append hd;have hl:(us++ds).length=ps.length:=by rw[<- r2.length];exact F.len _ _ _ _ h
 refine wpAny_call (codeAny_mono (F.run X.A X.stack s H ⟨us,[]⟩ (us++ds) (vs++vS) Q E hr I.PD (hb s us I.ES hl) r2 h) fun r s' hq=>?_);cases r with
 |error e=>exact hx pins σ H s e s' I hq
 |ok fl=>
  cases fl with
  |ret u=>exact I.after hq
  |next=>exact False.elim hq
  |brk=>exact False.elim hq
  |cont=>exact False.elim hq
theorem aD(F:bB X.prog X.w X.K X.mg X.base CX k f fd ps sp)(hr:hZ k X.A)(hg:Gl X x)(hm:X.mg x=some (.ref f))(hk:zbM X.K (.ref f)=true)(hb:Binds X.K fd ps ds)(hd:Vals vS ds)(hx:Passes CX X E)
 (ha:PA X (e::es) t) (MC:(x==("__debug__":Str))=false:=by decide) (he:zds (e::es) X.env=(false,eval e X.env)::zds es X.env:=by rfl) (oK:(backTo pos (zds es X.env)).any (·.1)=false:=by rfl) :
 PE X (.Call (.Name x p) (e::es) [] pos) (Ld sp vS E t):=by
 intro pins s σ H Q I h;refine wpAny_Call_Name_kw (wW I hg hm ?_ MC);refine PySem.W.callWith_K (h₀:=X.base) I.ok.mod.R9 hk (dw (ha pos pins s σ H _ I h) fun us s1 ⟨vs,H1,I1,r,q⟩=>⟨I1.ES,?_⟩) he oK;exact MB F hr hb hd hx I1 r q
structure Mk(K:zaa)(C f:zdm):Prop where
 makes:zc0 K C=true
 init:zaP K (.ref C) "__init__"=some (some (.ref f))
 fn:PySem.W.isFn K (.ref f)=true
 kp:zbM K (.ref C)=true
theorem Fd{pins:List (zdm×Obj)}{σ:St}{H:Hp}{s:zdw}{Q:VK}{us:List zdn}{vs:List V}(M:Mk X.K C f)(F:bB X.prog X.w X.K X.mg X.base CX k f fd ps sp)(hr:hZ (k+1) X.A)(hb:Binds X.K fd ps ds)(hd:Vals vS ds)
 (hx:Passes CX X E) (I:Inv X pins σ H s) (r:Vals vs us)
 (h:∀x dx,H x=none->H dx=none->dx≠x->sp (.ref x::(vs++vS)) (upd (upd H dx (.own x)) x (.ins C dx [])) (fun v H2=>v=.bO/\Q (.ref x) H2) E) :
 wpAny (model X.prog X.w) X.A (call (.ref C) us) (EP X pins σ Q) X.xe s:=by
 have hq:=h (s.heap.objs.size+1) s.heap.objs.size (I.da.fresh (zdj _)) (I.da.fresh (zam _)) (zaw (Nat.lt_succ_self _));have I2:=Inv.made (C:=C) I;have r2:Vals (V.ref (s.heap.objs.size+1)::(vs++vS)) (Value.ref (s.heap.objs.size+1)::(us++ds)):=.cons rfl (r.append hd);have hl:(Value.ref (s.heap.objs.size+1)::us++ds).length=ps.length:=by
  have e:=r2.length;rw[F.len _ _ _ _ hq] at e;exact e.symm
 refine wpAny_call (Fb (f:=f) I.ES M.makes M.init (beq_iff_eq.mp M.fn) (codeAny_mono (F.run _ X.stack _ _ ⟨Value.ref (s.heap.objs.size+1)::us,[]⟩ (Value.ref (s.heap.objs.size+1)::(us++ds)) _ _ E (hr.make C us [])
  (I2.PD.make C us []) (hb _ (Value.ref (s.heap.objs.size+1)::us) I2.ES hl) r2 hq) fun r s' EB=>?_))
 cases r with
 |error e=>exact hx pins σ _ _ e s' I2 EB
 |ok fl=>
  cases fl with
  |ret u=>
   obtain⟨v,H',I3,rv,ev,q3⟩:=I2.after EB;subst ev;exact⟨rv,⟨V.ref (s.heap.objs.size+1),H',I3,rfl,q3⟩⟩
  |next=>exact False.elim EB
  |brk=>exact False.elim EB
  |cont=>exact False.elim EB
theorem sO(M:Mk X.K C f)(F:bB X.prog X.w X.K X.mg X.base CX k f fd ps sp)(hr:hZ (k+1) X.A)(hg:Gl X x)(hm:X.mg x=some (.ref C))(hb:Binds X.K fd ps ds)(hd:Vals vS ds)(hx:Passes CX X E)
 (ha:PA X (e::es) t) (MC:(x==("__debug__":Str))=false:=by decide) (he:zds (e::es) X.env=(false,eval e X.env)::zds es X.env:=by rfl) (oK:(backTo pos (zds es X.env)).any (·.1)=false:=by rfl) :
 PE X (.Call (.Name x p) (e::es) [] pos) (Fc C sp vS E t):=by
 intro pins s σ H Q I h;refine wpAny_Call_Name_kw (wW I hg hm ?_ MC);refine PySem.W.callWith_K (h₀:=X.base) I.ok.mod.R9 M.kp (dw (ha pos pins s σ H _ I h) fun us s1 ⟨vs,H1,I1,r,q⟩=>⟨I1.ES,?_⟩) he oK;exact Fd M F hr hb hd hx I1 r q
end
structure bc(N P:List Str)(sc:Scope):Prop where
 kind:sc.kind=.function
 co:sc.isCoroutine=false
 gen:sc.isGenerator=false
 nd:N.Nodup
 pre:N.take P.length=P
 par:∀x∈P,sc.names.lookup x=some .local\/sc.names.lookup x=some .cell
 MD:∀y∈sc.names,y.2≠.free
theorem vT{kindOf:Str->Option NameKind}{x:Str}:∀ {binds:List (Str×zdn)} {m:Str->Option zdn},(∀v,(x,v) ∉ binds)->bindL kindOf binds m x=m x
 |[],_,_=>rfl
 |(n,v)::r,m,h=>by
  unfold bindL;rw[vT fun w hw=>h w (zad _ hw)];split
  ·have:x≠n:=by rintro rfl;exact h v zav
   simp[this]
  ·rfl
theorem vU{kindOf:Str->Option NameKind}{x:Str}:∀ {binds:List (Str×zdn)} {m:Str->Option zdn},(∀v,(x,v) ∉ binds)->bindC kindOf binds m x=m x
 |[],_,_=>rfl
 |(n,v)::r,m,h=>by
  unfold bindC;rw[vU fun w hw=>h w (zad _ hw)];split
  ·rfl
  ·have:x≠n:=by rintro rfl;exact h v zav
   simp[this]
theorem vV{kindOf:Str->Option NameKind}{x:Str}{v:zdn}:∀ {P:List Str} {vs:List zdn} {i:Nat} {m:Str->Option zdn},P.Nodup->P[i]?=some x->vs[i]?=some v->kindOf x=some .local->
 bindL kindOf (P.zip vs) m x=some v
 |[],_,_,_,_,h,_,_=>by simp at h
 |_::_,[],_,_,_,_,h,_=>by simp at h
 |p::P,w::vs,0,m,nd,h1,h2,hk=>by
  simp at h1 h2;subst h1;subst h2;show bindL kindOf ((p,w)::P.zip vs) m p=_;unfold bindL;rw[vT fun v hv=>(zaj.mp nd).1 (zcl hv).1,if_pos hk];simp
 |p::P,w::vs,i+1,m,nd,h1,h2,hk=>by
  show bindL kindOf ((p,w)::P.zip vs) m x=_;unfold bindL;exact vV (i:=i) (zaj.mp nd).2 (by simpa using h1) (by simpa using h2) hk
theorem vW{kindOf:Str->Option NameKind}{x:Str}{v:zdn}:∀ {P:List Str} {vs:List zdn} {i:Nat} {m:Str->Option zdn},P.Nodup->P[i]?=some x->vs[i]?=some v->kindOf x≠some .local->
 bindC kindOf (P.zip vs) m x=some v
 |[],_,_,_,_,h,_,_=>by simp at h
 |_::_,[],_,_,_,_,h,_=>by simp at h
 |p::P,w::vs,0,m,nd,h1,h2,hk=>by
  simp at h1 h2;subst h1;subst h2;show bindC kindOf ((p,w)::P.zip vs) m p=_;unfold bindC;rw[vU fun v hv=>(zaj.mp nd).1 (zcl hv).1,if_neg hk];simp
 |p::P,w::vs,i+1,m,nd,h1,h2,hk=>by
  show bindC kindOf ((p,w)::P.zip vs) m x=_;unfold bindC;exact vW (i:=i) (zaj.mp nd).2 (by simpa using h1) (by simpa using h2) hk
def start (N:List Str) (vs:List V):St:=vs.map some++zb8 (N.length-vs.length) none
def vo (CX:AH) (P:zdy) (w:zdo) (K:zaa) (mg:Str->Option zdn) (base:Heap) (N:List Str) (qual:Str) (scope:Scope) (f:zdm) (cd:zdn) (A:zdx) (outer:List Env) (s:zdw) (H:Hp) (E:XK):Cx where
 prog:=P
 w:=w
 K:=K
 mg:=mg
 base:=base
 A:=A.deeper (envOfC qual scope s.heap.objs.size f cd)
 N:=N
 s₀:=s
 H₀:=H
 env:=envOfC qual scope s.heap.objs.size f cd
 outer:=outer
 stack:=envOfC qual scope s.heap.objs.size f cd::outer
 ex:=[]
 calm:=true
 fn:=fun _=>true
 pn:=[]
 xe:=fun e s'=>wpAny (model P w) (A.deeper (envOfC qual scope s.heap.objs.size f cd)) (leaving (envOfC qual scope s.heap.objs.size f cd) e) (fun _ Tt=>CX outer H s E e Tt) (fun e' Tt=>CX outer H s E e' Tt) s'
theorem yG{sc:Scope}{n:Nat}{x:Str}(h:sc.names.lookup x=some .cell):∃c,(cellsFrom n sc.names []).lookup x=some c:=by
 have q:=zc3 sc.names n [] (.inl h);exact zcJ.mp q
theorem Dl{CX:AH}{P:zdy}{w:zdo}{K:zaa}{mg:Str->Option zdn}{base:Heap}{N ps:List Str}{qual:Str}{scope:Scope}{f:zdm}{cd:zdn}{A:zdx}{outer:List Env}{s s1:zdw}{H:Hp}{E:XK}{us:List zdn}{vs:List V}
 (S:bc N ps scope) (hd:A.handled=none) (e0:vn P w K mg base A outer s H) (hl:vs.length=ps.length) (r:Vals vs us)
 (x:InCallC s s.heap.objs.size (bindL (envOfC qual scope s.heap.objs.size f cd).kindOf (ps.zip us) fun _=>none) (cellsFrom (s.heap.objs.size+1) scope.names []) (bindC (envOfC qual scope s.heap.objs.size f cd).kindOf (ps.zip us) fun _=>none) s1) :
 Inv (vo CX P w K mg base N qual scope f cd A outer s H E) [] (start N vs) H s1:=by
 have oK:ps.length<=N.length:=by have:=congrArg zaV S.pre;rw[zcd] at this;lia
 obtain⟨h1,tk,rfl,hk⟩:=x.done;have PF:∀b:zdm,b ∉ (vo CX P w K mg base N qual scope f cd A outer s H E).ex:=fun b z=>absurd (show b∈([]:List zdm) from z) (by simp);refine⟨⟨e0.mod,S.kind,rfl,rfl,zam _,fun y z c h1 h2=>?_,fun y hy=>?_,fun y c _ h=>?_,fun _=>hd,Around.frames_deeper e0.frames,.inr ⟨rfl,rfl⟩,fun b z=>absurd z (PF b),e0.bs,e0.EO,fun b _ _=>PF b,fun b z=>absurd z (PF b),e0.qp,e0.K8⟩,
  rfl,e0.bare,Un.kept hk,⟨_,x.toInCall.ns,fun i y v h1 h2 h3=>?_⟩,fun y c h=>⟨_,x.cell y c h⟩,e0.da.fresh (zam _),fun y c h=>?_,fun p hp=>absurd (show p∈([]:List (zdm×Obj)) from hp) (by simp),e0.da.kept hk,?_⟩
 ·exact name_of_addr x.apart (PySem.mem_of_lookup h1) (PySem.mem_of_lookup h2)
 ·have hy:scope.names.lookup y=some .cell\/scope.names.lookup y=some .free:=hy;rcases hy with hy |hy
  ·exact yG hy
  ·exact absurd rfl (S.MD _ (PySem.mem_of_lookup hy))
 ·exact zbX (x.above y c (PySem.mem_of_lookup h))
 ·have hi:i<vs.length:=by
   unfold start at h2;by_cases hi:i<vs.length
   ·exact hi
   ·rw[zbG (by simpa using hi)] at h2;rw[zcO] at h2;split at h2<;>cases h2
  have ha:vs[i]?=some v:=by
   unfold start at h2;rw[zbJ (by simpa using hi),zah] at h2;cases e:vs[i]? with
   |none=>rw[e] at h2;cases h2
   |some a=>rw[e] at h2;cases h2;rfl
  obtain⟨u,hu,rv⟩:=r.get ha;have hp:ps[i]?=some y:=by
   rw[<- S.pre,List.getElem?_take_of_lt (by lia)];exact h1
  have WM:ps.Nodup:=by rw[<- S.pre];exact S.nd.sublist (List.take_sublist _ _)
  refine⟨u,rv,?_⟩;rcases S.par y (zaG hp) with k |k
  ·exact .inl ⟨k,vV WM hp hu k⟩
  ·obtain⟨c,e⟩:=yG (n:=s.heap.objs.size+1) k;refine .inr ⟨.inl k,c,e,?_⟩;have q:=x.cell y c e;rw[vW WM hp hu (by show scope.names.lookup y≠_;rw[k];decide)] at q;exact q
 ·exact e0.da.fresh (zbX (x.above y c (PySem.mem_of_lookup h)))
 ·unfold start;show _=N.length;rw[zap,zae,zc5];lia
theorem PH{CX:AH}{P:zdy}{w:zdo}{K:zaa}{mg:Str->Option zdn}{base:Heap}{k:Nat}{f:zdm}{name qual:Str}{params:Arguments}{body:List Stmt}{scope:Scope}{dV kV doc pm eK ct oc:zdn}{an od:Option zdm}
 {Iy:Array (Option zdn)} {N ps:List Str} {sp:Sp} (lk:K.lookup f=some ⟨oc,od,.func (zbt name qual params body scope dV kV doc pm an eK ct),Iy⟩) (ET:zb9 K eK qual=true) (S:bc N ps scope)
 (len:∀vs H Q E,sp vs H Q E->vs.length=ps.length)
 (yH:∀(A:zdx) (outer:List Env) (s:zdw) (H:Hp) (vs:List V) (Q:VK) (E:XK),hZ k (A.deeper (envOfC qual scope s.heap.objs.size f eK))->sp vs H Q E->
  ∃t,BK (vo CX P w K mg base N qual scope f eK A outer s H E) body t/\t {nx:=fun _ H'=>Q .bO H',rt:=Q} (start N vs) H) :
 bB P w K mg base CX (k+1) f (zbt name qual params body scope dV kV doc pm an eK ct) ps sp:=by
 refine⟨len,fun A outer s H args us vs Q E hr e0 hb r Lf=>?_⟩;have hl:=len _ _ _ _ Lf;have KX:K.In s.heap:=e0.mod.R9.keeps fun b o e=>(e0.bs b o e).1;have lim:s.heap.NoLimit:=e0.mod.nolimit.keeps fun b o e=>(e0.bs b o e).1;have PJ:∀y∈ps.zip us,scope.names.lookup y.1=some .local\/(scope.names.lookup y.1=some .cell/\((cellsFrom (s.heap.objs.size+1) scope.names []).lookup y.1).isSome=true):=fun ⟨n,v⟩ hy=>by
  rcases S.par n (zcl hy).1 with q |q
  ·exact .inl q
  ·exact .inr ⟨q,zc3 _ _ _ (.inl q)⟩
 refine codeAny_call_function hr.depth (KX _ _ lk) rfl S.co S.gen rfl (PySem.W.codeRec_of KX ET) (hb _ _ _ _ ?_);refine wpAny_newFunctionEnv_cells S.kind PJ fun env he s1 x=>?_;subst he;refine⟨lim.keeps x.toInCall.keep,codeAny_func ?_⟩;obtain⟨t,ht,hq⟩:=yH A outer s H vs Q E (hr.deeper _) Lf;have I:Inv (vo CX P w K mg base N qual scope f eK A outer s H E) [] (start N vs) H s1:=Dl S hr.hd e0 hl r x;refine wpAny_mono (ht [] s1 (start N vs) H _ I hq) (fun fl s' hs=>?_) fun e s' hs=>hs;have fin:∀ {σ':St} {H':Hp} {v:V} {u:zdn},Inv (vo CX P w K mg base N qual scope f eK A outer s H E) [] σ' H' s'->RelV v u->Q v H'->CE outer P w H s Q u s':=
  fun {σ' H' v u} J rv q=>⟨v,H',J.os,J.bare,J.base,J.da,rv,q⟩
 cases fl with
 |ret u=>
  obtain⟨v,σ',H',J,rv,q⟩:=hs;exact fin J rv q
 |next=>
  obtain⟨σ',H',J,q⟩:=hs;exact fin (v:=V.bO) (u:=Value.none) J rfl q
 |brk=>
  obtain⟨_,_,_,q⟩:=hs;exact False.elim q
 |cont=>
  obtain⟨_,_,_,q⟩:=hs;exact False.elim q
section
variable{X:Cx}{x:Str}{p pos:Pos}{e:Expr}{es:List Expr}{t:TA}{id T:String}{r:List V->Hp->VK->Prop}
def Tu (r:List V->Hp->VK->Prop) (t:TA):TE:=fun σ H Q=>t σ H fun vs H1=>r vs H1 Q
theorem bF(hc:lS X (.builtin id) r)(hg:Gl X x)(hm:X.mg x=none)(hv:bootBuiltins x=some (.builtin id))(ha:PA X (e::es) t)(hn:x≠"__name__":=by decide)(MC:(x==("__debug__":Str))=false:=by decide)
 (he:zds (e::es) X.env=(false,eval e X.env)::zds es X.env:=by rfl) (oK:(backTo pos (zds es X.env)).any (·.1)=false:=by rfl):PE X (.Call (.Name x p) (e::es) [] pos) (Tu r t):=by
 intro pins s σ H Q I h;refine wpAny_Call_Name_kw (mi I hg hm hv ?_ hn MC);exact PyProof.Rows.callWith_builtin1 (dw (ha pos pins s σ H _ I h) fun us s1 ⟨vs,H1,I1,r1,q1⟩=>hc pins s1 σ H1 vs us Q I1 r1 q1) he oK
theorem c6(hc:lS X (.type T) r)(hg:Gl X x)(hm:X.mg x=none)(hv:bootBuiltins x=some (.type T))(ha:PA X (e::es) t)(hn:x≠"__name__":=by decide)(MC:(x==("__debug__":Str))=false:=by decide)
 (he:zds (e::es) X.env=(false,eval e X.env)::zds es X.env:=by rfl) (oK:(backTo pos (zds es X.env)).any (·.1)=false:=by rfl):PE X (.Call (.Name x p) (e::es) [] pos) (Tu r t):=by
 intro pins s σ H Q I h;refine wpAny_Call_Name_kw (mi I hg hm hv ?_ hn MC);exact zaS (dw (ha pos pins s σ H _ I h) fun us s1 ⟨vs,H1,I1,r1,q1⟩=>hc pins s1 σ H1 vs us Q I1 r1 q1) he oK
end
end L2
namespace HT
open PySem PyProof.Rows
section
variable{prog:zdy}{w:zdo}{A:zdx}{E:zdn->zdw->Prop}{s:zdw}
def fV (n d:Nat):Option Int->Nat
 |none=>d
 |some v=>if v<0 then (v+(n:Int)).toNat else min v.toNat n
theorem tL(n d:Nat):fV n d none=d:=rfl
theorem w5(n d k:Nat):fV n d (some (k:Int))=min k n:=by
 show (if (k:Int)<0 then ((k:Int)+(n:Int)).toNat else min (k:Int).toNat n)=min k n;rw[if_neg (by lia),zbI]
theorem Fe(n d:Nat)(hd:d<=n)(o:Option Int):fV n d o<=n:=by
 cases o with
 |none=>exact hd
 |some v=>
  show (if v<0 then (v+(n:Int)).toNat else min v.toNat n)<=n;by_cases hv:v<0
  ·rw[if_pos hv];lia
  ·rw[if_neg hv];exact Nat.min_le_right _ _
theorem BY(v:Int)(n d:Nat):(if v<0 then max (v+(n:Int)) 0 else min v (n:Int))=((fV n d (some v):Nat):Int):=by
 show (if v<0 then max (v+(n:Int)) 0 else min v (n:Int))=(((if v<0 then (v+(n:Int)).toNat else min v.toNat n):Nat):Int);by_cases hv:v<0
 ·simp only[if_pos hv];lia
 ·simp only[if_neg hv];lia
theorem AI(lo hi:Option Int)(n:Nat):Builtin.Slice.sliceAdjust lo hi 1 (n:Int)=(((fV n 0 lo:Nat):Int),((fV n n hi:Nat):Int)):=by
 have h1:¬((1:Int)<0):=by lia
 unfold Builtin.Slice.sliceAdjust;simp only[h1,if_false];refine Prod.ext ?_ ?_
 ·cases lo with
  |none=>rfl
  |some v=>exact BY v n 0
 ·cases hi with
  |none=>rfl
  |some v=>exact BY v n n
theorem AJ(i j:Nat):Builtin.Slice.slicePlaces (i:Int) (j:Int) 1=j-i:=by
 unfold Builtin.Slice.slicePlaces;have h1:(1:Int)>0:=by lia
 simp only[h1,if_true,Int.ediv_one];split<;>lia
theorem tM{v:zdn}{o:Option Int}{Q:Option Int->zdw->Prop}(p:IsPart v o)(h:Q o s):wpAny (model prog w) A (Builtin.Slice.slicePartIndex v) Q E s:=by
 cases p with
 |none=>exact slicePart_none h
 |int i t=>exact slicePart_int h
theorem kx{sl:zdm}{vl vu:zdn}{lo hi:Option Int}{n:Nat}{Q:Int×Int×Nat->zdw->Prop}(hs:s.heap.IsSliceOf sl vl vu .none)(pl:IsPart vl lo)(pu:IsPart vu hi)
 (h:Q (((fV n 0 lo:Nat):Int),1,fV n n hi-fV n 0 lo) s):wpAny (model prog w) A (Builtin.Slice.sliceApplied (.ref sl) (pure (n:Int))) Q E s:=by
 obtain⟨os,ME,Sg,PK⟩:=id hs;unfold Builtin.Slice.sliceApplied Builtin.Slice.sliceFields;refine zdp (zdp (wpAny_field ME PK (x:=vl) rfl (zdp (wpAny_field ME PK (x:=vu) rfl (zdp (wpAny_field ME PK (x:=.none) rfl (zdq ?_)))))));refine zdp (slicePart_none ?_);show wpAny _ _ (if ((1:Int)==0)=true then _ else _) _ _ s;rw[if_neg (by decide)];refine zdp (tM pl (zdp (tM pu (zdp (zdq ?_)))));show wpAny _ _ (match Builtin.Slice.sliceAdjust lo hi 1 (n:Int) with |(lo,hi)=>pure (lo,(1:Int),Builtin.Slice.slicePlaces lo hi 1)) _ _ s;rw[AI lo hi n];show wpAny _ _ (pure (((fV n 0 lo:Nat):Int),(1:Int),Builtin.Slice.slicePlaces ((fV n 0 lo:Nat):Int) ((fV n n hi:Nat):Int) 1)) _ _ s;rw[AJ];exact zdq h
theorem Ff(xs:Array zdn)(i k:Nat):((zaz k).filterMap fun (m:Nat)=>xs[((i:Int)+(m:Int)*1).toNat]?).toArray=((xs.toList.drop i).take k).toArray:=by
 have e:(fun (m:Nat)=>xs[((i:Int)+(m:Int)*1).toNat]?)=fun m=>xs[i+m]?:=by
  funext m
  have:((i:Int)+(m:Int)*1).toNat=i+m:=by lia
  rw[this]
 rw[e];have:=pick_run xs i k;rw[List.filterMap_map] at this;have e2:((fun x=>xs[x]?) ∘ fun x=>i+x)=fun m=>xs[i+m]?:=rfl;rw[e2] at this;rw[this]
theorem pB{t sl:zdm}{items:Array zdn}{vl vu:zdn}{lo hi:Option Int}{Q:zdn->zdw->Prop}(ht:IsTup s.heap t items)(hs:s.heap.IsSliceOf sl vl vu .none)(pl:IsPart vl lo)(pu:IsPart vu hi)
 (hw:¬(fV items.size 0 lo=0/\fV items.size items.size hi=items.size))
 (h:Q (.ref s.heap.objs.size) {s with heap:=s.heap.push {cls:=.type "tuple",data:=.seq ((items.toList.drop (fV items.size 0 lo)).take (fV items.size items.size hi-fV items.size 0 lo)).toArray} })
 (hsz:items.size<=zdu):wpAny (model prog w) A (getItem (.ref t) (.ref sl)) Q E s:=by
 have BZ:sizeOk (.seq ((items.toList.drop (fV items.size 0 lo)).take (fV items.size items.size hi-fV items.size 0 lo)).toArray):=by
  show ((items.toList.drop (fV items.size 0 lo)).take (fV items.size items.size hi-fV items.size 0 lo)).toArray.size<=zdu;rw[zat,zcd,zb1,zbx];lia
 have hj:fV items.size items.size hi<=items.size:=Fe _ _ (zam _) hi;obtain⟨os,ME,Sg,PK⟩:=id hs;have Tv:s.TypeIs (.ref sl) "slice":=⟨os,ME,Sg⟩
 unfold getItem
 try with_reducible refine zdr ?_
 first |refine zdp (zdq ?_) |skip
 refine zdp (wpAny_sequenceKey ht.typeIs (by decide) ?_);refine zdp (wpAny_callSpecial?_slot (name:=zac "__getitem__") ht.typeIs zbm
  (wpAny_call_entry zbm ht.typeIs entry_tuple_getitem ?_ (args_tuple_getitem _ _)))
 show wpAny _ _ (Builtin.Tuple.tupleItemsOf (.ref t) >>= _) _ _ s;refine zdp (tupleItemsOf_ ht ?_);refine zdp (wpAny_typeOf Tv ?_);rw[if_pos (by decide)];refine zdp (kx hs pl pu ?_);have Zc:¬((((fV items.size 0 lo:Nat):Int)==0&&(1:Int)==1&&(fV items.size items.size hi-fV items.size 0 lo)==items.size)=true):=by
  intro q;rw[za4,za4] at q;have q1:((fV items.size 0 lo:Nat):Int)=0:=eq_of_beq q.1.1;have q2:fV items.size items.size hi-fV items.size 0 lo=items.size:=eq_of_beq q.2;exact hw ⟨by lia,by lia⟩
 show wpAny _ _ (if (((fV items.size 0 lo:Nat):Int)==0&&(1:Int)==1&&(fV items.size items.size hi-fV items.size 0 lo)==items.size)=true then _ else _) _ _ s;rw[if_neg Zc,Ff]
 first
  |exact zdp (m:=Builtin.Tuple.tupleExact _) (wpAny_newObj_type (zdq ⟨_,rfl,zdq h⟩) BZ)
  |exact zdp (m:=Builtin.Tuple.tupleExact _) (wpAny_newObj_type (zdp (zdq (zdq ⟨_,rfl,zdq h⟩))) BZ)
  |exact zdp (zdp (m:=Builtin.Tuple.tupleExact _) (wpAny_newObj_type (zdq (zdq ⟨_,rfl,zdq h⟩)) BZ))
  |exact zdp (zdp (m:=Builtin.Tuple.tupleExact _) (wpAny_newObj_type (zdq ⟨_,rfl,zdq h⟩) BZ))
end
end HT
namespace L2
open PySem PySem.Spec PyProof.Rows
abbrev TO:=St->Hp->(Option Int->Hp->Prop)->Prop
def PO (X:Cx) (e:Option Expr) (t:TO):Prop:=
 ∀(pins:List (zdm×Obj)) (s:zdw) (σ:St) (H:Hp) (Q:Option Int->Hp->Prop),Inv X pins σ H s->t σ H Q->
  wpAny (model X.prog X.w) X.A (evalPart e X.env) (fun u s'=>∃o H',Inv X pins σ H' s'/\IsPart u o/\Q o H') X.xe s
def w6:TO:=fun _ H Q=>Q none H
def Fh (t:TE):TO:=fun σ H Q=>t σ H fun x H1=>∃i,x=.int i/\Q (some i) H1
section
variable{X:Cx}{e:Expr}{te:TE}{lo hi:Option Expr}{tl th:TO}{pos p2:Pos}
theorem sP:PO X none w6:=by
 intro pins s σ H Q I h;rw[evalPart_none];exact zdq ⟨none,H,I,.none,h⟩
theorem sQ(h:PE X e te):PO X (some e) (Fh te):=by
 intro pins s σ H Q I hw;rw[evalPart_some];refine dw (h pins s σ H _ I hw) fun u s1 zqz=>?_;obtain⟨x,H1,I1,r1,q1⟩:=zqz;obtain⟨i,rfl,q⟩:=q1;obtain⟨t,rfl⟩:=r1;exact⟨some i,H1,I1,.int i t,q⟩
def PL (X:Cx) (r:V->Option Int->Option Int->Hp->VK->Prop):Prop:=
 ∀(pins:List (zdm×Obj)) (s:zdw) (σ:St) (H:Hp) (x:V) (v vl vu:zdn) (lo hi:Option Int) (sl:zdm) (Q:VK),Inv X pins σ H s->RelV x v->s.heap.IsSliceOf sl vl vu .none->IsPart vl lo->IsPart vu hi->r x lo hi H Q->
  ∃T id,typeLookup (.type T) "__getitem__"=pure (some (.builtin id))/\s.TypeIs v T/\wpAny (model X.prog X.w) X.A (getItem v (.ref sl)) (EP X pins σ Q) X.xe s
def Tw (r:V->Option Int->Option Int->Hp->VK->Prop) (te:TE) (tl th:TO):TE:=fun σ H Q=>te σ H fun x H1=>tl σ H1 fun l H2=>th σ H2 fun u H3=>r x l u H3 Q
theorem pC{r:V->Option Int->Option Int->Hp->VK->Prop}(hr:PL X r)(he:PE X e te)(hl:PO X lo tl)(hu:PO X hi th):PE X (.Subscript e (.Slice lo hi none p2) pos) (Tw r te tl th):=by
 intro pins s σ H Q I h;refine Subscript_ (dw (he pins s σ H _ I h) fun v s1 zqz=>?_);obtain⟨x,H1,I1,r1,q1⟩:=zqz;refine wpAny_Slice (dw (hl pins s1 σ H1 _ I1 q1) fun vl s2 zqz=>?_);obtain⟨l,H2,I2,pl,q2⟩:=zqz;refine dw (hu pins s2 σ H2 _ I2 q2) fun vu s3 zqz=>?_;obtain⟨u,H3,I3,pu,q3⟩:=zqz;rw[evalPart_none];refine zdq ?_;have I4:Inv X pins σ H3 {s3 with heap:=s3.heap.push {cls:=.type "slice",data:=.fields #[vl,vu,.none]} }:=I3.kept (t':=s3.toks) fun b ob q=>Heap.get?_push_of_some _ q;obtain⟨T,id,hT,ht,hg⟩:=hr pins {s3 with heap:=s3.heap.push {cls:=.type "slice",data:=.fields #[vl,vu,.none]} } σ H3 x v vl vu l u s3.heap.objs.size Q I4 r1 (Heap.IsSliceOf.new ..) pl pu q3;show wpAny (model X.prog X.w) X.A (subscriptTail e (.Slice lo hi none p2) v (.ref s3.heap.objs.size)) (EP X pins σ Q) X.xe {s3 with heap:=s3.heap.push {cls:=.type "slice",data:=.fields #[vl,vu,.none]} };exact tail_any (ops:=[.ref s3.heap.objs.size,v]) ht hT hg (by with_unfolding_all rfl)
def ma (xs:List V) (lo hi:Option Int):List V:=(xs.drop (HT.fV xs.length 0 lo)).take (HT.fV xs.length xs.length hi-HT.fV xs.length 0 lo)
theorem rD(xs:List V)(lo hi:Option Int):(ma xs lo hi).length<=xs.length:=by
 unfold ma;rw[zcd,zb1];lia
def Tz (K:zaa):V->Option Int->Option Int->Hp->VK->Prop:=fun x lo hi H Q=>∃a xs,x=.ref a/\bS K H a xs/\
 ¬(HT.fV xs.length 0 lo=0/\HT.fV xs.length xs.length hi=xs.length)/\∀p,H p=none->Q (.ref p) (upd H p (.tup (ma xs lo hi)))
theorem MF:PL X (Tz X.K):=by
 intro pins s σ H x v vl vu lo hi sl Q I rx hs pl pu h;obtain⟨a,xs,rfl,hx,hw,q⟩:=h;cases rx;obtain⟨bq,r,ht,hz⟩:=I.tuple hx;have hlen:bq.toArray.size=xs.length:=by rw[zat];exact r.length.symm
 refine⟨"tuple",_,zbm.lookup,ht.typeIs,?_⟩;refine HT.pB ht hs pl pu (by rw[hlen];exact hw) ?_ (by rw[hlen];exact hz);rw[hlen];refine⟨.ref s.heap.objs.size,_,I.laid (t':=s.toks) (o:=.tup (ma xs lo hi)) (fun b ob q=>Heap.get?_push_of_some _ q) (zam _) ?_,rfl,q _ (I.da.fresh (zam _))⟩;exact⟨zau (rD xs lo hi) hz,_,(r.drop (HT.fV xs.length 0 lo)).take (HT.fV xs.length xs.length hi-HT.fV xs.length 0 lo),IsTup.new _ _⟩
theorem Vals.bu{xs:List V}{us:List zdn}(r:Vals xs us):us=[]↔xs=[]:=by
 cases r with
 |nil=>simp
 |cons _ _=>simp
end
def Fi (n:Nat) (i:Int):Option Nat:=if 0<=i then (if i<n then some i.toNat else none) else if -(n:Int)<=i then some (i+n).toNat else none
def vd {α:Type} (xs:List α) (i:Int):Option α:=(Fi xs.length i).bind fun j=>xs[j]?
theorem B0{n:Nat}{i:Int}{j:Nat}(h:Fi n i=some j):seqIndex? i n=some j/\j<n/\-(n:Int)<=i/\i<n:=by
 unfold Fi at h;by_cases h0:0<=i
 ·rw[if_pos h0] at h;by_cases h1:i<n
  ·rw[if_pos h1] at h;have e:i.toNat=j:=zaH.inj h;exact⟨by rw[seqIndex_of h0 h1,e],by lia,by lia,h1⟩
  ·rw[if_neg h1] at h;cases h
 ·rw[if_neg h0] at h;by_cases h1 : -(n:Int)<=i
  ·rw[if_pos h1] at h;have e:(i+n).toNat=j:=zaH.inj h;exact⟨by rw[seqIndex_neg (by lia) h1,e],by lia,h1,by lia⟩
  ·rw[if_neg h1] at h;cases h
theorem w8{α:Type}{xs:List α}{i:Int}{v:α}(h:vd xs i=some v):∃j,seqIndex? i xs.length=some j/\xs[j]?=some v/\j<xs.length/\-(xs.length:Int)<=i/\i<xs.length:=by
 unfold vd at h;cases e:Fi xs.length i with
 |none=>rw[e] at h;cases h
 |some j=>
  rw[e] at h;obtain⟨h1,h2,h3,h4⟩:=B0 e;exact⟨j,h1,h,h2,h3,h4⟩
theorem aC{α:Type}{xs:List α}{j:Nat}{v:α}(h:xs[j]?=some v):vd xs (j:Int)=some v:=by
 have hj:j<xs.length:=(zal.mp h).1;have e:Fi xs.length (j:Int)=some j:=by
  unfold Fi;rw[if_pos (by lia),if_pos (by lia)];simp
 unfold vd;rw[e];exact h
theorem mq{α:Type}(xs:List α)(v:α):vd (xs++[v]) (-1)=some v:=by
 have hl:(xs++[v]).length=xs.length+1:=by simp
 have e:Fi (xs++[v]).length (-1)=some xs.length:=by
  unfold Fi;rw[hl,if_neg (by decide),if_pos (by lia)]
  congr 1
  lia
 unfold vd;rw[e];show (xs++[v])[xs.length]?=some v;simp
def pE (b:Expr):Prop:=∀o i,subscripted b false o i=operate [o,i] (getItem o i)
def PN (X:Cx) (r:R2):Prop:=
 ∀(value slice:Expr) (pins:List (zdm×Obj)) (s:zdw) (σ:St) (H:Hp) (x y:V) (v u:zdn) (Q:VK),Inv X pins σ H s->RelV x v->RelV y u->r x y H Q->
  subscripted slice false v u=operate [v,u] (getItem v u)->wpAny (model X.prog X.w) X.A (subscriptTail value slice v u) (EP X pins σ Q) X.xe s
def WN (X:Cx) (id:String) (r:V->List V->Hp->VK->Prop):Prop:=
 ∀(pins:List (zdm×Obj)) (s:zdw) (σ:St) (H:Hp) (x:V) (xs:List V) (v:zdn) (us:List zdn) (Q:VK),Inv X pins σ H s->RelV x v->Vals xs us->r x xs H Q->
  wpAny (model X.prog X.w) X.A (call (.builtin id) (v::us)) (EP X pins σ Q) X.xe s
section
variable{X:Cx}{a b:Expr}{ta tb:TE}{pos:Pos}
theorem aA{r:R2}(hr:PN X r)(ha:PE X a ta)(hb:PE X b tb)(hs:pE b):PE X (.Subscript a b pos) (Po r ta tb):=by
 intro pins s σ H Q I h;exact Subscript_ (Mv ha hb I h fun v u s2 x y H2 I2 rx ry q=>hr a b pins s2 σ H2 x y v u Q I2 rx ry q (hs _ _))
def MG (K:zaa):R2:=fun x y H Q=>∃p xs i v,x=.ref p/\y=.int i/\fF K H p xs/\vd xs i=some v/\Q v H
def w9 (K:zaa):R2:=fun x y H Q=>∃p xs i v,x=.ref p/\y=.int i/\bS K H p xs/\vd xs i=some v/\Q v H
def TB:R2:=fun x y H Q=>∃z i c,x=.str z/\y=.int i/\z.length<=zdu/\vd z.cps.toList i=some c/\Q (.str ⟨#[c]⟩) H
theorem cx:PN X (MG X.K):=by
 intro value slice pins s σ H x y v u Q I rx ry h hs;obtain⟨p,xs,i,z,rfl,rfl,hq,he,q⟩:=h;cases rx;obtain⟨t,rfl⟩:=ry;obtain⟨bq,r,pl,hz⟩:=I.list hq;obtain⟨j,h1,h2,h3,h4,h5⟩:=w8 he;obtain⟨w,ew,Dm⟩:=r.get h2;have hl:=r.length;have hn:=qw;have fin:EP X pins σ Q w s:=⟨z,H,I,Dm,q⟩
 by_cases h0:0<=i
 ·have hj:i.toNat=j:=by
   rw[seqIndex_of h0 h5] at h1;exact zaH.inj h1
  exact item_listR pl.isList h0 (by lia) (by rw[hj];simpa using ew) fin hs
 ·have hj:(i+(bq.toArray.size:Int)).toNat=j:=by
   rw[seqIndex_neg (by lia) h4] at h1;rw[zat,<- hl];exact zaH.inj h1
  exact subscriptTail_builtinR (x:=w) pl.isList.typeIs slot_list_getitem.lookup
   (wpAny_getItem_list_neg (Q:=fun r s'=>r=w/\EP X pins σ Q r s') pl.isList (by lia) (by rw[zat]<;>lia) (by lia) (by rw[hj];simpa using ew) ⟨rfl,fin⟩) hs
theorem ay:PN X (w9 X.K):=by
 intro value slice pins s σ H x y v u Q I rx ry h hs;obtain⟨p,xs,i,z,rfl,rfl,hq,he,q⟩:=h;cases rx;obtain⟨t,rfl⟩:=ry;obtain⟨bq,r,pl,hz⟩:=I.tuple hq;obtain⟨j,h1,h2,h3,h4,h5⟩:=w8 he;obtain⟨w,ew,Dm⟩:=r.get h2;have hl:=r.length;have hn:=qw;have fin:EP X pins σ Q w s:=⟨z,H,I,Dm,q⟩
 exact subscriptTail_builtinR (x:=w) pl.typeIs slot_tuple_getitem.lookup
  (getItem_tuple (j:=j) (Q:=fun r s'=>r=w/\EP X pins σ Q r s') pl (by lia) (by lia) (by rw[zat,<- hl];exact h1) (by simpa using ew) ⟨rfl,fin⟩) hs
theorem xb:PN X TB:=by
 intro value slice pins s σ H x y v u Q I rx ry h hs;obtain⟨z,i,c,rfl,rfl,hz,he,q⟩:=h;obtain⟨t,rfl⟩:=rx;obtain⟨t',rfl⟩:=ry;obtain⟨j,h1,h2,h3,h4,h5⟩:=w8 he;have hl:z.cps.toList.length=z.length:=by simp[Str.length]
 rw[hl] at h1 h4 h5;have hn:=qw;exact tail_any (typeIs_str s z t) slot_str_getitem.lookup (getItem_str (c:=c) (by
  have e1:decide (i < -(2 ^ 63:Int))=false:=decide_eq_false (by lia);have e2:decide (i ≥ 2 ^ 63)=false:=decide_eq_false (by lia);rw[e1,e2,Bool.or_false]) (by rw[h1];simpa using h2) ⟨.str ⟨#[c]⟩,H,I.tok _,⟨_,rfl⟩,q⟩) hs
theorem AK(bq:List zdn)(n j:Nat)(u:zdn):Obj.mapSeq (·.setIfInBounds j u) {cls:=.type "list",data:=.seq bq.toArray n}={cls:=.type "list",data:=.seq (bq.set j u).toArray n}:=by
 simp[Obj.mapSeq]
theorem Inv.lst{pins:List (zdm×Obj)}{σ:St}{H:Hp}{s:zdw}{p:zdm}{xs:List V}(I:Inv X pins σ H s)(h:H p=some (.lst xs)) :
 ∃(bq:List zdn) (n:Nat),Vals xs bq/\s.heap.get? p=some {cls:=.type "list",data:=.seq bq.toArray n}/\xs.length<=zdu:=by
 obtain⟨z,bq,n,r,e⟩:=I.da p _ h;exact⟨bq,n,r,e,z⟩
theorem Inv.MH{pins:List (zdm×Obj)}{σ:St}{H:Hp}{s:zdw}{p:zdm}{xs ys:List V}{bq its':List zdn}{n n':Nat}{f:Obj->Obj}(I:Inv X pins σ H s)(h:H p=some (.lst xs))
 (ho:s.heap.get? p=some {cls:=.type "list",data:=.seq bq.toArray n}) (hf:f {cls:=.type "list",data:=.seq bq.toArray n}={cls:=.type "list",data:=.seq its'.toArray n' }) (r:Vals ys its') (hz:ys.length<=zdu) (t:Nat) :
 Inv X pins σ (upd H p (.lst ys)) {s with heap:=s.heap.update p f,toks:=t}:=by
 have e:(s.heap.update p f).get? p=some {cls:=.type "list",data:=.seq its'.toArray n' }:=by
  rw[Heap.get?_update_self f ho (by rw[hf]<;>rfl),hf]
 refine I.write (x:=p) (e:=p) (by rw[h];trivial) (.inl rfl) (fun b u hb q=>(Heap.get?_update_other _ _ (Ne.symm hb)).trans q) ⟨_,e⟩ ?_;exact⟨hz,its',n',r,e⟩
def PQ:V->V->V->Hp->(Hp->Prop)->Prop:=fun o i v H Q=>∃p xs k j,o=.ref p/\i=.int k/\H p=some (.lst xs)/\Fi xs.length k=some j/\Q (upd H p (.lst (xs.set j v)))
theorem set_list:Pk X PQ:=by
 intro pins s σ H o i v ov iv u Q I ro ri rv h;obtain⟨p,xs,k,j,rfl,rfl,hp,hj,q⟩:=h;cases ro;obtain⟨t,rfl⟩:=ri;obtain⟨bq,n,r,ho,hz⟩:=I.lst hp;obtain⟨h1,h2,h3,h4⟩:=B0 hj;have hl:=r.length;have hn:=qw;have I':Inv X pins σ (upd H p (.lst (xs.set j v))) {s with heap:=s.heap.update p (Obj.mapSeq (·.setIfInBounds j u))}:=
  I.MH hp ho (AK bq n j u) (r.set rv j) (by rw[zaT];exact hz) s.toks
 by_cases h0:0<=k
 ·have hk:k.toNat=j:=by
   rw[seqIndex_of h0 h4] at h1;exact zaH.inj h1
  exact PySem.W.ki_setAt ho h0 (by lia) (by rw[zat,<- hl];exact h4) (by rw[hk];exact⟨_,I',q⟩)
 ·have hk:(k+(bq.toArray.size:Int)).toNat=j:=by
   rw[seqIndex_neg (by lia) h3] at h1;rw[zat,<- hl];exact zaH.inj h1
  exact PySem.W.ki_setBack ho (by lia) (by rw[zat,<- hl];exact h3) (by lia) (by rw[hk];exact⟨_,I',q⟩)
theorem xc(lo hi:Option Int)(n:Nat):(sliceBounds lo hi none n).1=((HT.fV n 0 lo:Nat):Int)/\(sliceBounds lo hi none n).2.1=((HT.fV n n hi:Nat):Int)/\(sliceBounds lo hi none n).2.2=1:=by
 refine⟨?_,?_,rfl⟩
 ·cases lo with
  |none=>simp[sliceBounds,HT.fV]
  |some i=>
   simp only[sliceBounds,HT.fV,Option.getD_none,show (1:Int)>0 by decide,if_true];by_cases h:i<0
   ·simp only[h,if_true]<;>lia
   ·simp only[h,if_false]<;>lia
 ·cases hi with
  |none=>simp[sliceBounds,HT.fV]
  |some i=>
   simp only[sliceBounds,HT.fV,Option.getD_none,show (1:Int)>0 by decide,if_true];by_cases h:i<0
   ·simp only[h,if_true]<;>lia
   ·simp only[h,if_false]<;>lia
theorem vp(bq:List zdn)(lo hi:Option Int):slicePick bq.toArray lo hi none=((bq.drop (HT.fV bq.length 0 lo)).take (HT.fV bq.length bq.length hi-HT.fV bq.length 0 lo)).toArray:=by
 obtain⟨h1,h2,h3⟩:=xc lo hi bq.toArray.size;unfold slicePick;rw[h1,h2,h3];simp only[sliceRange_one,pick_run,zat]<;>rfl
def TC (K:zaa):V->Option Int->Option Int->Hp->VK->Prop:=fun x lo hi H Q=>∃a xs,x=.ref a/\fF K H a xs/\∀p,H p=none->Q (.ref p) (upd H p (.lst (ma xs lo hi)))
theorem xf:PL X (TC X.K):=by
 intro pins s σ H x v vl vu lo hi sl Q I rx hs pl pu h;obtain⟨a,xs,rfl,hx,q⟩:=h;cases rx;obtain⟨bq,r,ht,hz⟩:=I.list hx;have hlen:=r.length;refine⟨"list",_,slot_list_getitem.lookup,ht.isList.typeIs,?_⟩;refine wpAny_getItem_list_slice ht.isList hs pl pu .none (by simp) ?_ (by rw[zat]<;>lia);rw[vp,<- hlen];refine⟨.ref s.heap.objs.size,_,I.laid (t':=s.toks) (o:=.lst (ma xs lo hi)) (fun b ob q=>Heap.get?_push_of_some _ q) (zam _) ?_,rfl,q _ (I.da.fresh (zam _))⟩;exact⟨zau (rD xs lo hi) hz,_,0,(r.drop (HT.fV xs.length 0 lo)).take (HT.fV xs.length xs.length hi-HT.fV xs.length 0 lo),Heap.get?_push_size _ rfl⟩
def rE:V->Bool
 |.bO=>true
 |.bl _=>true
 |.int _=>true
 |.str _=>true
 |_=>false
def Lg:V->V->Bool
 |.bO,.bO=>true
 |.bl a,.bl b=>a==b
 |.bl a,.int b=>(if a then 1 else 0)==b
 |.int a,.bl b=>a==(if b then 1 else 0)
 |.int a,.int b=>a==b
 |.str a,.str b=>a==b
 |_,_=>false
theorem MJ{A:zdx}{s:zdw}{y x:V}{u v:zdn}(ry:RelV y u)(rx:RelV x v)(fy:rE y=true)(fx:rE x=true):SeqAt.EqAt A s u v (Lg y x):=by
 cases y with
 |bO=>
  cases ry;cases x with
  |bO=>cases rx;exact SeqAt.EqAt.same _
  |bl b=>cases rx;exact SeqAt.EqAt.none_bool b
  |int b=>obtain⟨t,rfl⟩:=rx;exact SeqAt.EqAt.none_int b t
  |str b=>obtain⟨t,rfl⟩:=rx;exact SeqAt.EqAt.none_str b t
  |_=>exact absurd (show false=true from fx) zas
 |bl a=>
  cases ry;cases x with
  |bO=>cases rx;exact SeqAt.EqAt.bool_none a
  |bl b=>cases rx;exact SeqAt.EqAt.bool_bool a b
  |int b=>obtain⟨t,rfl⟩:=rx;exact SeqAt.EqAt.bool_int a b t
  |str b=>obtain⟨t,rfl⟩:=rx;exact SeqAt.EqAt.bool_str a b t
  |_=>exact absurd (show false=true from fx) zas
 |int a=>
  obtain⟨t',rfl⟩:=ry;cases x with
  |bO=>cases rx;exact SeqAt.EqAt.int_none a t'
  |bl b=>cases rx;exact SeqAt.EqAt.int_bool a t' b
  |int b=>obtain⟨t,rfl⟩:=rx;exact SeqAt.EqAt.int_int a t' b t
  |str b=>obtain⟨t,rfl⟩:=rx;exact SeqAt.EqAt.int_str a t' b t
  |_=>exact absurd (show false=true from fx) zas
 |str a=>
  obtain⟨t',rfl⟩:=ry;cases x with
  |bO=>cases rx;exact SeqAt.EqAt.str_none a t'
  |bl b=>cases rx;exact SeqAt.EqAt.str_bool a t' b
  |int b=>obtain⟨t,rfl⟩:=rx;exact SeqAt.EqAt.str_int a t' b t
  |str b=>obtain⟨t,rfl⟩:=rx;exact SeqAt.EqAt.str_str a t' b t
  |_=>exact absurd (show false=true from fx) zas
 |_=>exact absurd (show false=true from fy) zas
def Ja (x:V) (u:zdn):Bool:=match u with
 |.none=>Lg .bO x
 |.bool b=>Lg (.bl b) x
 |.int i _=>Lg (.int i) x
 |.str z _=>Lg (.str z) x
 |_=>false
theorem Fj{x y:V}{u:zdn}(r:RelV y u)(f:rE y=true):Ja x u=Lg y x:=by
 cases y with
 |bO=>cases r;rfl
 |bl b=>cases r;rfl
 |int i=>obtain⟨t,rfl⟩:=r;rfl
 |str z=>obtain⟨t,rfl⟩:=r;rfl
 |_=>exact absurd (show false=true from f) zas
theorem xg{x:V}:∀ {xs:List V} {us:List zdn},Vals xs us->xs.all rE=true->us.any (Ja x)=xs.any fun y=>Lg y x
 |_,_,.nil,_=>rfl
 |y::xs,u::us,.cons r t,f=>by
  rw[List.all_cons,za4] at f;rw[zbv,zbv,Fj r f.1,xg t f.2]
theorem tO{A:zdx}{s:zdw}{x:V}{v:zdn}(rx:RelV x v)(fx:rE x=true):∀ {xs:List V} {us:List zdn},Vals xs us->xs.all rE=true->∀u∈us,SeqAt.EqAt A s u v (Ja x u)
 |_,_,.nil,_=>fun u hu=>by cases hu
 |y::xs,u::us,.cons r t,f=>fun u' hu=>by
  rw[List.all_cons,za4] at f;rcases zag.mp hu with rfl |hu
  ·rw[Fj r f.1];exact MJ r rx f.1 fx
  ·exact tO rx fx t f.2 u' hu
def TF (x:V) (xs:List V):Bool:=xs.any fun y=>Lg y x
def Zd (K:zaa) (neg:Bool):R2:=fun x y H Q=>∃p xs,y=.ref p/\(fF K H p xs\/bS K H p xs)/\rE x=true/\xs.all rE=true/\Q (.bl (if neg then !TF x xs else TF x xs)) H
theorem qy:ql X (compareOp .In) (Zd X.K false):=by
 intro pins s σ H x y v u Q I rx ry h;obtain⟨p,xs,rfl,hq,fx,fs,q⟩:=h;cases ry;rcases hq with hq |hq
 ·obtain⟨bq,r,pl,hz⟩:=I.list hq;refine SeqAt.in_listAt (Ja x) pl.isList (fun w hw=>tO rx fx r fs w (by simpa using hw)) ⟨.bl _,H,I,rfl,?_⟩;rw[show bq.toArray.any (Ja x)=bq.any (Ja x) by simp,xg r fs];exact q
 ·obtain⟨bq,r,pl,hz⟩:=I.tuple hq;refine SeqAt.in_tupleAt (Ja x) pl (fun w hw=>tO rx fx r fs w (by simpa using hw)) ⟨.bl _,H,I,rfl,?_⟩;rw[show bq.toArray.any (Ja x)=bq.any (Ja x) by simp,xg r fs];exact q
theorem cD:lS X (.builtin "len") (fun xs H Q=>∃p ys,xs=[.ref p]/\(fF X.K H p ys\/bS X.K H p ys)/\Q (.int ys.length) H):=by
 intro pins s σ H xs us Q I r h;obtain⟨p,ys,rfl,hq,q⟩:=h;obtain⟨u,rfl,rx⟩:=vals1 r;cases rx;have hn:=qw;rcases hq with hq |hq
 ·obtain⟨bq,r',pl,hz⟩:=I.list hq;have hlen:=r'.length;exact Calls.call_len_list pl.isList (by simp only[zat]<;>lia) ⟨.int ys.length,H,I.tok _,⟨s.toks+1,by rw[zat,hlen]⟩,q⟩
 ·obtain⟨bq,r',pl,hz⟩:=I.tuple hq;have hlen:=r'.length;exact len_tuple pl (by simp only[zat]<;>lia) ⟨.int ys.length,H,I.tok _,⟨s.toks+1,by rw[zat,hlen]⟩,q⟩
theorem dN:lS X (.type "tuple") (fun xs H Q=>∃p ys,xs=[.ref p]/\((fF X.K H p ys/\∀l,H l=none->Q (.ref l) (upd H l (.tup ys)))\/(bS X.K H p ys/\Q (.ref p) H))):=by
 intro pins s σ H xs us Q I r h;obtain⟨p,ys,rfl,h⟩:=h;obtain⟨u,rfl,rx⟩:=vals1 r;cases rx;rcases h with ⟨hq,q⟩ |⟨hq,q⟩
 ·obtain⟨bq,r',pl,hz⟩:=I.list hq;have hlen:=r'.length;refine call_tuple_list pl.isList (fun h' kp=>?_) (by simp only[zat]<;>lia);have I1:Inv X pins σ H {s with heap:=h' }:=I.kept (t':=s.toks) kp;have I2:Inv X pins σ (upd H h'.objs.size (.tup ys)) {s with heap:=h'.push {cls:=.type "tuple",data:=.seq bq.toArray} }:=
   I1.laid (t':=s.toks) (fun b o e=>Heap.get?_push_of_some _ e) (zam _) (show dP X.prog X.w _ _ _ (.tup ys) from ⟨hz,bq,r',IsTup.new _ _⟩)
  exact⟨.ref h'.objs.size,_,I2,rfl,q _ (I1.da.fresh (zam _))⟩
 ·obtain⟨bq,r',pl,hz⟩:=I.tuple hq;exact call_tuple_same pl ⟨.ref p,H,I,rfl,q⟩
def TH (K:zaa) (T:String) (x:V) (H:Hp):Prop:=match x with
 |.str _=>T = "str"
 |.int _=>T = "int"
 |.ref p=>(T = "list"/\∃xs,fF K H p xs)\/(T = "tuple"/\∃o,K.lookup p=some o/\o.cls=.type "tuple"/\o.dict=none)\/
  (T = "dict"/\((∃kvs,H p=some (.dK kvs))\/∃kvs,H p=some (.dT kvs)))\/(T = "set"/\∃S n,H p=some (.set S n))
 |_=>False
theorem Fl{pins:List (zdm×Obj)}{σ:St}{H:Hp}{s:zdw}{T:String}{x:V}{v:zdn}(I:Inv X pins σ H s)(r:RelV x v)(ty:TH X.K T x H) :
 s.TypeIs v T/\∀a,v=.ref a->∃ob,s.heap.get? a=some ob/\ob.dict=none:=by
 cases x with
 |str z=>
  obtain⟨t,rfl⟩:=r;cases (show T = "str" from ty);exact⟨typeIs_str s z t,fun _ e=>nomatch e⟩
 |int i=>
  obtain⟨t,rfl⟩:=r;cases (show T = "int" from ty);exact⟨typeIs_int s i t,fun _ e=>nomatch e⟩
 |ref p=>
  cases r;rcases ty with ⟨rfl,xs,hq⟩ |⟨rfl,o,hk,hc,hd⟩ |⟨rfl,hk⟩ |⟨rfl,S,n,hk⟩
  ·obtain⟨bq,_,pl,_⟩:=I.list hq;refine⟨pl.isList.typeIs,fun a e=>?_⟩;cases e;obtain⟨o,n,e,c,hd,_⟩:=pl;exact⟨o,e,hd⟩
  ·refine⟨⟨o,I.ES p o hk,hc⟩,fun a e=>?_⟩;cases e;exact⟨o,I.ES _ o hk,hd⟩
  ·have z:∃o,s.heap.get? p=some o/\o.ExactDict:=by
    rcases hk with ⟨kvs,hk⟩ |⟨kvs,hk⟩
    ·obtain⟨_,_,_,_,o,_,_,e,ex,_⟩:=I.da p _ hk;exact⟨o,e,ex⟩
    ·obtain⟨_,_,_,_,o,_,_,e,ex,_⟩:=I.da p _ hk;exact⟨o,e,ex⟩
   obtain⟨o,e,ex⟩:=z;refine⟨⟨o,e,ex.1⟩,fun a e2=>?_⟩;cases e2;exact⟨o,e,ex.2.1⟩
  ·obtain⟨o,_,_,_,e,ex,_⟩:=I.da p _ hk;refine⟨⟨o,e,ex.1⟩,fun a e2=>?_⟩;cases e2;exact⟨o,e,ex.2.1⟩
 |_=>exact False.elim ty
def MK (K:zaa) (T:String) (r:V->List V->Hp->VK->Prop) (to:TE):TE:=fun σ H Q=>to σ H fun x H1=>TH K T x H1/\r x [] H1 Q
def TJ (K:zaa) (T:String) (r:V->List V->Hp->VK->Prop) (to:TE) (t:TA):TE:=fun σ H Q=>to σ H fun x H1=>TH K T x H1/\t σ H1 fun xs H2=>r x xs H2 Q
variable{o e:Expr}{es:List Expr}{to:TE}{t:TA}{name:Str}{apos ky:Pos}{T id:String}{r:V->List V->Hp->VK->Prop}
theorem xh(pa:PlainAttrs T)(slot:Slot T name id)(TK:typeOf (.builtin id)=pure (.type "method_descriptor"))(hm:WN X id r)(ho:PE X o to)
 (yI:attributeBase o name X.env (eval o X.env)=eval o X.env:=by rfl) (yJ:(apos.endLine==ky.line)=true:=by rfl):PE X (.Call (.Attribute o name apos) [] [] ky) (MK X.K T r to):=by
 intro pins s σ H Q I h;refine wpAny_Call_method0_late yI yJ (dw (ho pins s σ H _ I h) fun v s1 zqz=>?_);obtain⟨x,H1,I1,r1,ty,q1⟩:=zqz;obtain⟨h1,h2⟩:=Fl I1 r1 ty;exact⟨T,id,pa,slot,TK,h1,h2,Calls.callWith_builtin rfl (PySem.evalArgs_none (hm pins s1 σ H1 x [] v [] Q I1 r1 .nil q1))⟩
theorem lT(pa:PlainAttrs T)(slot:Slot T name id)(TK:typeOf (.builtin id)=pure (.type "method_descriptor"))(hm:WN X id r)(ho:PE X o to)(ha:PA X (e::es) t)
 (yI:attributeBase o name X.env (eval o X.env)=eval o X.env:=by rfl)
 (TL:((backTo ky (zds (e::es) X.env)).all (fun x=>!x.1)&&(backToKw ky (keywordEach [] X.env)).all (fun x=>x.1.isSome)
  && decide ((e::es).length+([]:List Keyword).length+(if ([]:List Keyword).isEmpty then 0 else 1)<30))=true:=by rfl)
 (yJ:(apos.endLine==ky.line)=true:=by rfl) (hs:zds (e::es) X.env=(false,eval e X.env)::zds es X.env:=by rfl) (ML:(backTo ky (zds es X.env)).any (·.1)=false:=by rfl) :
 PE X (.Call (.Attribute o name apos) (e::es) [] ky) (TJ X.K T r to t):=by
 intro pins s σ H Q I h;refine wpAny_Call_method_late yI TL yJ rfl (dw (ho pins s σ H _ I h) fun v s1 zqz=>?_);obtain⟨x,H1,I1,r1,ty,q1⟩:=zqz;obtain⟨h1,h2⟩:=Fl I1 r1 ty;refine⟨T,id,pa,slot,TK,h1,h2,?_⟩;have hA:=ha ky pins s1 σ H1 _ I1 q1;rw[hs] at hA ⊢;refine Calls.callWith_builtin (by show (false ||(backTo ky (zds es X.env)).any (·.1))=false;rw[ML]<;>rfl) (Calls.evalArgs_plain ?_);exact dw hA fun us s2 ⟨vs,H2,I2,r2,q2⟩=>hm pins s2 σ H2 x vs v us Q I2 r1 r2 q2
end
def PR (X:Cx) (id:String) (r:V->List V->Hp->VK->Prop):Prop:=
 ∀(pins:List (zdm×Obj)) (s:zdw) (σ:St) (H:Hp) (x:V) (xs:List V) (v:zdn) (us:List zdn) (Q:VK),Inv X pins σ H s->RelV x v->Vals xs us->r x xs H Q->
  wpAny (model X.prog X.w) X.A (call (.builtin id) (v::us)) (EP X pins σ Q) X.xe s
theorem Vals.one:∀ {x:V} {us:List zdn},Vals [x] us->∃u,us=[u]/\RelV x u
 |_,_,.cons r .nil=>⟨_,rfl,r⟩
theorem Vals.zero:∀ {us:List zdn},Vals [] us->us=[]
 |_,.nil=>rfl
theorem Vals.dropLast{xs:List V}{us:List zdn}(h:Vals xs us):Vals xs.dropLast us.dropLast:=by
 induction h with
 |nil=>exact .nil
 |cons r t ih=>
  cases t with
  |nil=>exact .nil
  |cons q t'=>exact .cons r ih
theorem Vals.eraseIdx:∀ {xs:List V} {us:List zdn} (i:Nat),Vals xs us->Vals (xs.eraseIdx i) (us.eraseIdx i)
 |_,_,_,.nil=>.nil
 |_,_,0,.cons _ t=>t
 |_,_,i+1,.cons r t=>.cons r (Vals.eraseIdx i t)
theorem Vals.reverse{xs:List V}{us:List zdn}(h:Vals xs us):Vals xs.reverse us.reverse:=by
 induction h with
 |nil=>exact .nil
 |cons r t ih=>rw[zaW,zaW];exact Vals.append ih (.cons r .nil)
theorem AL{α:Type}(l:List α):l.eraseIdx (l.length-1)=l.dropLast:=by
 induction l with
 |nil=>rfl
 |cons a r ih=>
  cases r with
  |nil=>rfl
  |cons b r=>
   have e:(a::b::r).length-1=((b::r).length-1)+1:=by
    have h1:(a::b::r).length=r.length+2:=rfl;have h2:(b::r).length=r.length+1:=rfl;lia
   rw[e,List.eraseIdx_cons_succ,ih]
   all_goals rfl
theorem vX{α:Type}:∀(l:List α) (i:Nat),(l.eraseIdx i).length<=l.length
 |[],_=>zam _
 |_::_,0=>zdj _
 |_::r,i+1=>Nat.succ_le_succ (vX r i)
section
variable{X:Cx}{pins:List (zdm×Obj)}{σ:St}{H:Hp}{s:zdw}{l b:zdm}{xs ys zs:List V}
theorem Inv.Fm{bq its':List zdn}{n:Nat}{f:Array zdn->Array zdn}{t':Nat}(I:Inv X pins σ H s)(hH:H l=some (.lst xs))
 (e:s.heap.get? l=some {cls:=.type "list",data:=.seq bq.toArray n}) (hf:f bq.toArray=its'.toArray) (hv:Vals ys its') (hz:ys.length<=zdu) :
 Inv X pins σ (upd H l (.lst ys)) {s with heap:=s.heap.update l (Obj.mapSeq f),toks:=t' }:=by
 have q:=PySem.IsL.update e f;rw[hf] at q;refine I.write (x:=l) (e:=l) (by rw[hH];exact trivial) (.inl rfl) (fun b' u hb hu=>(Heap.get?_update_other s.heap (Obj.mapSeq f) (Ne.symm hb)).trans hu) ⟨_,q⟩ ?_;exact⟨hz,its',_,hv,q⟩
theorem Inv.TM{bq:List zdn}{t':Nat}(I:Inv X pins σ H s)(hv:Vals ys bq)(hz:ys.length<=zdu) :
 Inv X pins σ (upd H s.heap.objs.size (.lst ys)) {s with heap:=s.heap.push {cls:=.type "list",data:=.seq bq.toArray},toks:=t' }:=
 I.laid (fun _ _ q=>Heap.get?_push_of_some _ q) (zam _) ⟨hz,bq,0,hv,Heap.get?_push_size _ rfl⟩
theorem Inv.fresh(I:Inv X pins σ H s):H s.heap.objs.size=none:=I.da.fresh (zam _)
theorem Inv.yK(I:Inv X pins σ H s)(hH:H l=some (.lst xs)):xs.length<=zdu/\∃(bq:List zdn) (n:Nat),Vals xs bq/\xs.length=bq.length/\s.heap.get? l=some {cls:=.type "list",data:=.seq bq.toArray n}:=by
 obtain⟨z,bq,n,r,e⟩:=I.da l _ hH;exact⟨z,bq,n,r,r.length,e⟩
theorem Fn{n:Nat}(h:n<=zdu):Builtin.List.listTooLong n=false:=by
 unfold Builtin.List.listTooLong;exact decide_eq_false (by lia)
end
section
variable{X:Cx}
def Jb:V->List V->Hp->VK->Prop:=fun x vs H Q=>∃l xs y,x=.ref l/\vs=[y]/\H l=some (.lst xs)/\xs.length<zdu/\Q .bO (upd H l (.lst (xs++[y])))
theorem eQ:PR X "list.append" Jb:=by
 intro pins s σ H x vs v us Q I rx rv h;obtain⟨l,xs,y,rfl,rfl,hH,hz,q⟩:=h;cases rx;obtain⟨u,rfl,ru⟩:=rv.one;obtain⟨z,bq,n,r,hl,e⟩:=I.yK hH;refine call_meets F.slot_list_append ⟨_,e,rfl⟩ F.entry_list_append (F.args_list_append_2 _ _) (PySem.list_append l bq.toArray n u (by rw[zat];lia)) ⟨e,?_⟩;refine⟨.bO,_,I.Fm (its':=bq++[u]) hH e (by simp) (r.append (.cons ru .nil)) ?_,rfl,q⟩;rw[zap,zaY];lia
def Jc:V->List V->Hp->VK->Prop:=fun x vs H Q=>∃l b xs zs,x=.ref l/\vs=[.ref b]/\H l=some (.lst xs)/\H b=some (.lst zs)/\xs.length+zs.length<=zdu/\Q .bO (upd H l (.lst (xs++zs)))
theorem vY:PR X "list.extend" Jc:=by
 intro pins s σ H x vs v us Q I rx rv h;obtain⟨l,b,xs,zs,rfl,rfl,hH,hB,hz,q⟩:=h;cases rx;obtain⟨u,rfl,ru⟩:=rv.one;cases ru;obtain⟨z,bq,n,r,hl,e⟩:=I.yK hH;obtain⟨z2,tP,n2,r2,Sh,e2⟩:=I.yK hB;have hsz:bq.toArray.size+tP.toArray.size<=zdu:=by rw[zat,zat];lia
 have PU:¬(!bq.toArray.isEmpty&&Builtin.List.listTooLong (bq.toArray.size+tP.toArray.size))=true:=by
  rw[Fn hsz,Bool.and_false];exact zas
 refine call_meets F.slot_list_extend ⟨_,e,rfl⟩ F.entry_list_extend (F.args_list_extend_2 _ _)
  (AutoSeq1.list_extend_list_list_0 l bq.toArray n b tP.toArray n2 PU (by rw[zat];lia) (by lia)) ⟨e,e2,?_⟩
 refine⟨.bO,_,I.Fm (its':=bq++tP) hH e (by simp) (r.append r2) ?_,rfl,q⟩;rw[zap];lia
def TN:V->List V->Hp->VK->Prop:=fun x vs H Q=>∃l xs y,x=.ref l/\vs=[]/\H l=some (.lst xs)/\xs[xs.length-1]?=some y/\Q y (upd H l (.lst xs.dropLast))
theorem AM:PR X "list.pop" TN:=by
 intro pins s σ H x vs v us Q I rx rv h;obtain⟨l,xs,y,rfl,rfl,hH,hy,q⟩:=h;cases rx;have TQ:=rv.zero;subst TQ;obtain⟨z,bq,n,r,hl,e⟩:=I.yK hH;obtain⟨u,hu,ru⟩:=r.get hy;have TR:bq.toArray[bq.toArray.size-1]?=some u:=by
  show bq.toArray[bq.length-1]?=some u;rw[<- zaZ,<- hl];exact hu
 refine call_meets F.slot_list_pop ⟨_,e,rfl⟩ F.entry_list_pop (F.args_list_pop_1 _) (MeetsSeq.list_pop_last l bq.toArray n u TR (by rw[zat];lia)) ⟨e,?_⟩;refine⟨y,_,I.Fm (its':=bq.dropLast) hH e ?_ r.dropLast ?_,ru,q⟩
 ·show bq.toArray.eraseIdxIfInBounds (bq.toArray.size-1)=bq.dropLast.toArray;rw[zat,zck,AL]
 ·rw[List.length_dropLast];lia
def MM:V->List V->Hp->VK->Prop:=fun x vs H Q=>∃l xs i k y,x=.ref l/\vs=[.int i]/\H l=some (.lst xs)/\-(2 ^ 63)<=i/\i<2 ^ 63/\seqIndex? i xs.length=some k/\xs[k]?=some y/\Q y (upd H l (.lst (xs.eraseIdx k)))
theorem Fo:PR X "list.pop" MM:=by
 intro pins s σ H x vs v us Q I rx rv h;obtain⟨l,xs,i,k,y,rfl,rfl,hH,h1,h2,hk,hy,q⟩:=h;cases rx;obtain⟨u,rfl,ru⟩:=rv.one;obtain⟨t,rfl⟩:=ru;obtain⟨z,bq,n,r,hl,e⟩:=I.yK hH;obtain⟨w,hw,Dm⟩:=r.get hy;refine call_meets F.slot_list_pop ⟨_,e,rfl⟩ F.entry_list_pop (F.args_list_pop_2 _ _)
  (MeetsSeq.list_pop_at l bq.toArray n i t k w (fitsIndex_both h1 h2) (by rw[zat,<- hl];exact hk) (by rw[<- zaZ];exact hw) (by rw[zat];lia)) ⟨e,?_⟩
 refine⟨y,_,I.Fm (its':=bq.eraseIdx k) hH e ?_ (r.eraseIdx k) ?_,Dm,q⟩
 ·show bq.toArray.eraseIdxIfInBounds k=(bq.eraseIdx k).toArray;rw[zck]
 ·have:=vX xs k;lia
def Fp:V->List V->Hp->VK->Prop:=fun x vs H Q=>∃l xs,x=.ref l/\vs=[]/\H l=some (.lst xs)/\Q .bO (upd H l (.lst xs.reverse))
theorem AN:PR X "list.reverse" Fp:=by
 intro pins s σ H x vs v us Q I rx rv h;obtain⟨l,xs,rfl,rfl,hH,q⟩:=h;cases rx;have TQ:=rv.zero;subst TQ;obtain⟨z,bq,n,r,hl,e⟩:=I.yK hH;refine call_meets F.slot_list_reverse ⟨_,e,rfl⟩ F.entry_list_reverse (F.args_list_reverse_1 _) (AutoSeq1.list_reverse_list_0 l bq.toArray n (by rw[zat];lia)) ⟨e,?_⟩;refine⟨.bO,_,I.Fm (its':=bq.reverse) hH e (by simp) r.reverse ?_,rfl,q⟩;rw[zb3];lia
def TU:R2:=fun x y H Q=>∃l b xs zs,x=.ref l/\y=.ref b/\H l=some (.lst xs)/\H b=some (.lst zs)/\xs.length+zs.length<=zdu/\∀p,H p=none->Q (.ref p) (upd H p (.lst (xs++zs)))
theorem AO:ql X (binaryOp .Add) TU:=by
 intro pins s σ H x y v u Q I rx ry h;obtain⟨l,b,xs,zs,rfl,rfl,hH,hB,hz,q⟩:=h;cases rx;cases ry;obtain⟨z,bq,n,r,hl,e⟩:=I.yK hH;obtain⟨z2,tP,n2,r2,Sh,e2⟩:=I.yK hB;refine PySem.P.add_list e e2 ?_ (by rw[zat,zat];lia);have ea:bq.toArray++tP.toArray=(bq++tP).toArray:=by simp
 rw[ea];exact⟨.ref _,_,I.TM (t':=s.toks) (r.append r2) (by rw[zap];lia),rfl,q _ I.fresh⟩
end
end L2
namespace WO
open PySem PySem.W PySem.Calls PyProof.Rows
theorem rX{P:Params}{h:Heap}:∀(ns:List Int) (vs:List zdn),WellAll P h vs (ns.map WData.int)->IntsAre vs ns:=by
 intro ns
 induction ns with
 |nil=>
  intro vs w;rw[zbD] at w;cases w;exact .nil
 |cons n ns ih=>
  intro vs w;rw[zar] at w;cases w with
  |cons a b=>
   cases a;exact .cons _ _ (ih _ b)
theorem Dn{l:OpenLaw}{n:Nat}(hn:l.most=some n){P:Params}{h:Heap}{args:List WData}{vals:List zdn}
 (Jd:l.row.toRowW.claim.pre args=true) (TV:WellAll P h vals args) :
 ∃a vs ns,vals=[Value.ref a]/\args=[WData.list (ns.map WData.int)]/\h.get? a=some {cls:=.type "list",data:=.seq vs.toArray}/\IntsAre vs ns/\ns.length<=n:=by
 have Ze:WShape.hasAll [] args [.list .int]=true:=(pre_splitW Jd).1;have hc:l.pre.holds [] {args:=args}=true:=(pre_splitW Jd).2;obtain⟨d,r,rfl,h1,h2⟩:=hasAllW_cons Ze;obtain rfl:=hasAllW_nil h2;obtain⟨xs,rfl,h3⟩:=hasW_list h1;obtain⟨ns,rfl⟩:=items_int h3;have hlen:ns.length<=n:=by
  unfold OpenLaw.pre at hc;have h4:(WTm.not (.lt (.lit (.int (n:Int))) (.len (.arg 0)))).holds [] {args:=[.list (ns.map .int)]}=true:=by
   have h4:=(holds_andW hc).1;rw[hn] at h4;exact h4
  have h5:=condW_of h4 (w_not (w_lt w_lit (w_len_list (w_arg rfl))));rw[zae] at h5;refine Nat.le_of_not_lt fun q=>?_;have q':(n:Int)<((ns.length:Nat):Int):=by lia
  first
   |(rw[decide_eq_true q'] at h5;exact absurd h5 (by decide))
   |(simp at h5;lia)
 cases TV with
 |cons w1 w2=>
  cases w2;cases w1 with
  |list ho MN=>exact⟨_,_,ns,rfl,rfl,ho,rX ns _ MN,hlen⟩
theorem Dq(l:OpenLaw)(args:List WData):l.row.toRowW.claim.post args (.bool true) args=true:=
 postW_of (r:=l.row.toRowW) (X:=(true==true))
  (show WShape.has [] (.bool true) .bool=true by first |rfl |decide |simp[WShape.has,WShape.arms,WShape.armsAll])
  (show (WTm.eq .res (.lit (.bool true))).value [] {args:=args,res:=some (.bool true),after:=args}=some (.bool (true==true)) from w_eq_bool (w_res rfl) w_lit) rfl
theorem yM{l:OpenLaw}{n:Nat}{q:zdy}{loose:List Str}{XP:(Str->Option zdn)->Heap->Prop}{YP:zdo->Heap->Prop}{d:DefRec}
 (hn:l.most=some n) (PV:d.params.defaults=[])
 (call:∀(w:zdo) (s₀ s₁:zdw) (mg mb:Str->Option zdn) (fa:zdm) (o:Obj) (pm cd doc:zdn) (a:zdm) (vs:List zdn) (ns:List Int),
  Ground q loose [] XP w s₀ mg mb s₁.heap->YP w s₁.heap->
  s₁.heap.get? fa=some o->o.data=.func (docDef d.name d.params d.body d.scope pm cd doc)->s₁.heap.CodeRec cd d.name->mg d.name=some (.ref fa)->
  s₁.heap.get? a=some {cls:=.type "list",data:=.seq vs.toArray}->IntsAre vs ns->ns.length<=n->s₁.gens = #[]->
  codeAny (model l.prog w) callerA (.call (.ref fa) ⟨[.ref a],[]⟩) (fun r s'=>r=.ok (.ret (.bool true))/\OldK s₁.heap s'.heap/\s'.os=s₁.os/\AllBare s'.gens) s₁) :
 WalkO q loose XP YP l.row.toRowW d [] (fun f vs=>PySem.call f vs):=by
 intro w s₀ s₁ mg mb G Y fa o pm cd doc dV kV ho hd ET hD PX hg args vals as Jd Zf hrd TV hlo;obtain rfl:dV=.none:=Dflts.none hD PV;obtain rfl:kV=.none:=Dflts.noKw hD;obtain⟨a,vs,ns,rfl,rfl,MO,hints,hlen⟩:=Dn hn Jd TV;refine enter_call (codeAny_mono (call w s₀ s₁ mg mb fa o pm cd doc a vs ns G Y ho (fd_plain hd) ET PX MO hints hlen hg) fun r s' hq=>?_);obtain⟨rfl,h2,h3,h4⟩:=hq;exact⟨.inl ⟨.bool true,.bool true,[],rfl,fun _=>rfl,.bool true,Dq l _,fun _=>⟨List.Pairwise.nil,fun _ hm=>(nomatch hm)⟩⟩,h2,h3,h4⟩
end WO
namespace L2
open PySem PySem.Spec PyProof.Rows
theorem vZ:∀ {vs:List zdn} {ns:List Int},IntsAre vs ns->Vals (ns.map V.int) vs
 |_,_,.nil=>.nil
 |_,_,.cons n t h=>.cons ⟨t,rfl⟩ (vZ h)
def MP (H:Hp):Prop:=∀b,H b=none\/∃o xs,H b=some (.EM o (.lst xs))
theorem Fq{P:zdy}{w:zdo}{K:zaa}{mg mb:Str->Option zdn}{CX:AH}{k:Nat}{fa a:zdm}{fd:zdv}{x:Str}{sp:Sp}{s₁:zdw}{vs:List zdn}{ns:List Int}
 (KX:K.In s₁.heap) (Si:s₁.heap.Ns zdt mg) (hb:s₁.heap.Ns builtinsNs mb) (TX:∀x:Str,x≠"__name__"->mb x=bootBuiltins x) (TY:s₁.heap.NoLimit) (hg:s₁.gens = #[])
 (ha:s₁.heap.get? a=some {cls:=.type "list",data:=.seq vs.toArray}) (hi:IntsAre vs ns) (hl:ns.length<=zdu) (hr:hZ k callerA)
 (F:∀base:Heap,K.In base->base.Ns zdt mg->bB P w K mg base CX k fa fd [x] sp) (PY:∀(s:zdw) (u:zdn),BindsTo s fd ⟨[u],[]⟩ [(x,u)])
 (Lf:∀H:Hp,MP H->fF K H a (ns.map V.int)->sp [.ref a] H (fun v _=>v=.bl true) fun _ _ _=>False)
 (TZ:∀H e s',CX [] H s₁ (fun _ _ _=>False) e s'->False) :
 codeAny (model P w) callerA (.call (.ref fa) ⟨[.ref a],[]⟩) (fun r s'=>r=.ok (.ret (.bool true))/\OldK s₁.heap s'.heap/\s'.os=s₁.os/\AllBare s'.gens) s₁:=by
 have rv:=vZ hi;have T1:=hi.length;have core:∀H:Hp,MP H->fF K H a (ns.map V.int)->oJ P w H s₁.heap->(∀b,H b≠none->b=a)->(H a≠none->K.lookup a=none)->
  codeAny (model P w) callerA (.call (.ref fa) ⟨[.ref a],[]⟩) (fun r s'=>r=.ok (.ret (.bool true))/\OldK s₁.heap s'.heap/\s'.os=s₁.os/\AllBare s'.gens) s₁:=by
  intro H hO hS da hA hK;have B1:∀ {b:zdm} {o:Obj},s₁.heap.get? b=some o->H b=none->(wU s₁.heap H).get? b=some o:=fun e n=>EN e n;have PF:∀ {b:zdm} {o:Obj} {es:Array DictEntry} {ep:Nat},s₁.heap.get? b=some o->o.data=.dict es ep->H b=none:=fun {b o es ep} e d=>by
   cases q:H b with
   |none=>rfl
   |some u=>
    have e':b=a:=hA b (by rw[q];simp);subst e';rw[ha] at e;cases e;have d':Data.seq vs.toArray _=Data.dict es ep:=d;cases d'
  have Sj:∀ {b:zdm} {m:Str->Option zdn},s₁.heap.Ns b m->(wU s₁.heap H).Ns b m:=fun {b m} ⟨o,es,ep,e,d,r⟩=>⟨o,es,ep,B1 e (PF e d),d,r⟩
  have WQ:K.In (wU s₁.heap H):=fun b o e=>B1 (KX b o e) (by
   cases q:H b with
   |none=>rfl
   |some u=>
    have e':b=a:=hA b (by rw[q];simp);subst e';rw[hK (by rw[q];simp)] at e;cases e)
  have hM:Mod K mg (wU s₁.heap H):=⟨WQ,Sj Si,⟨mb,Sj hb,TX⟩,let ⟨mc,h1,h2⟩:=TY;⟨mc,Sj h1,h2⟩⟩
  have e0:vn P w K mg (wU s₁.heap H) callerA [] s₁ H:=⟨rfl,hM,fun b o e=>IM e,zcI (C8 _ _),trivial,fun b hb=>absurd (show b∈([]:List zdm) from hb) (by simp),da,.of_eq hg⟩
  refine codeAny_mono ((F _ WQ (Sj Si)).run callerA [] s₁ H ⟨[.ref a],[]⟩ [.ref a] [.ref a] _ _ hr e0 (PY s₁ (.ref a)) (.cons rfl .nil) (Lf H hO hS)) fun r s' h=>?_;cases r with
  |error e=>exact(TZ H e s' h).elim
  |ok fl=>
   cases fl with
   |next=>exact False.elim h
   |brk=>exact False.elim h
   |cont=>exact False.elim h
   |ret u=>
    obtain⟨v,H',os,bare,un,T2,r',q⟩:=h;have q':v=.bl true:=q;subst q';obtain rfl:u=Value.bool true:=r';refine⟨rfl,OldK.of_keep fun b o e=>?_,os,bare⟩;cases q:H b with
    |none=>exact un.keep b o e q (by intro z;exact absurd (show b∈([]:List zdm) from z) (by simp)) (by simp)
    |some u=>
     rcases hO b with z |⟨ob,xs,z⟩
     ·rw[q] at z;cases z
     ·have z2:=un.pk b ob _ z;obtain⟨e1,_⟩:=da b _ z;obtain⟨e2,_⟩:=T2 b _ z2;rw[e] at e1;cases e1;exact e2
 cases hk:K.lookup a with
 |some o=>
  have e:=KX a o hk;rw[ha] at e;cases e;refine core (fun _=>none) (fun _=>.inl rfl) (.inr ⟨_,vs.toArray,_,hk,rfl,rfl,rfl,by rw[zat,T1];exact hl,by simpa using rv⟩) (fun b u z=>by have z':(none:Option HO)=some u:=z;cases z') (fun b z=>absurd rfl z) fun z=>absurd rfl z
 |none=>
  refine core (fun b=>if b=a then some (.EM {cls:=.type "list",data:=.seq vs.toArray} (.lst (ns.map V.int))) else none) (fun b=>?_) (.inl (.inr ⟨{cls:=.type "list",data:=.seq vs.toArray},if_pos rfl⟩)) (fun b u z=>?_) (fun b z=>?_) fun _=>hk
  ·by_cases hb:b=a
   ·exact .inr ⟨_,_,if_pos hb⟩
   ·exact .inl (if_neg hb)
  ·by_cases hb:b=a
   ·have z':=(if_pos hb).symm.trans z;cases z';subst hb;exact⟨ha,by rw[zae];exact hl,vs,_,rv,ha⟩
   ·have z':=(if_neg hb).symm.trans z;cases z'
  ·by_cases hb:b=a
   ·exact hb
   ·exact absurd (if_neg hb) z
theorem Je{l:PySem.W.OpenLaw}{n k:Nat}{q:zdy}{loose:List Str}{XP:(Str->Option zdn)->Heap->Prop}{YP:zdo->Heap->Prop}{d:DefRec}{K:Params->zaa}{CX:zdo->AH}{sp:zdo->Sp}{x:Str}
 (hn:l.most=some n) (Sf:n<=zdu) (PV:d.params.defaults=[]) (hr:hZ k callerA)
 (hY:∀(w:zdo) (h:Heap),YP w h->(K w.params).In h)
 (F:∀(w:zdo) (mg:Str->Option zdn) (fa:zdm) (h:Heap),(K w.params).In h->h.Ns zdt mg->mg d.name=some (.ref fa)->
  ∃fd:zdv,(∀(s:zdw) (u:zdn),BindsTo s fd ⟨[u],[]⟩ [(x,u)])/\
   ∀base:Heap,(K w.params).In base->base.Ns zdt mg->bB l.prog w (K w.params) mg base (CX w) k fa fd [x] (sp w))
 (Lf:∀(w:zdo) (H:Hp) (a:zdm) (ns:List Int),ns.length<=n->MP H->fF (K w.params) H a (ns.map V.int)->sp w [.ref a] H (fun v _=>v=.bl true) fun _ _ _=>False)
 (TZ:∀(w:zdo) (H:Hp) (s:zdw) (e:zdn) (s':zdw),CX w [] H s (fun _ _ _=>False) e s'->False) :
 PySem.W.WalkO q loose XP YP l.row.toRowW d [] (fun f vs=>PySem.call f vs):=by
 refine WO.yM hn PV fun w s₀ s₁ mg mb fa o pm cd doc a vs ns G Y ho hd ET PX MO hints hlen hg=>?_;have KX:=hY w _ Y;obtain⟨fd,hb,hF⟩:=F w mg fa _ KX G.T.g PX;exact Fq KX G.T.g G.T.b G.T.builtins G.T.nolimit hg MO hints (zau hlen Sf) hr hF hb (fun H hO hS=>Lf w H a ns hlen hO hS) fun H e s'=>TZ w H s₁ e s'
def inClass (s:Stmt) (j:Nat):Stmt:=match s with
 |.ClassDef _ _ _ body _ _ _ _ _ _ _=>body.getD j (.Pass ⟨0,0,0,0⟩)
 |_=>.Pass ⟨0,0,0,0⟩
def jO (s:Stmt):Arguments:=match s with
 |.FunctionDef _ a _ _ _ _ _ _ _ _=>a
 |_=>{posonlyargs:=[],args:=[],vararg:=none,kwonlyargs:=[],kw_defaults:=[],kwarg:=none,defaults:=[]}
def ip (s:Stmt):List Stmt:=match s with
 |.FunctionDef _ _ b _ _ _ _ _ _ _=>b
 |_=>[]
def aM (s:Stmt):Scope:=match s with
 |.FunctionDef _ _ _ _ _ _ sc _ _ _=>sc
 |_=>{kind:=.function,names:=[],isGenerator:=false,isCoroutine:=false}
abbrev eS:AH:=fun _ _ _ _ _ _=>False
abbrev E0:XK:=fun _ _ _=>False
theorem aP{X:Cx}:Passes eS X E0:=fun _ _ _ _ _ _ _ h=>h.elim
structure Iz(K:zaa)(x qual:Str)(st:Stmt)(f:zdm)(fd:zdv):Prop where
 ex:∃(oc:zdn) (od:Option zdm) (kV doc pm:zdn) (an:Option zdm) (eK ct:zdn) (Iy:Array (Option zdn)),
  fd=zbt x qual (jO st) (ip st) (aM st) .none kV doc pm an eK ct/\K.lookup f=some ⟨oc,od,.func fd,Iy⟩/\zb9 K eK qual=true
 kp:zbM K (.ref f)=true
section
variable{P:zdy}{w:zdo}{K:zaa}{mg:Str->Option zdn}{base:Heap}
theorem Iz.ok{x qual:Str}{st:Stmt}{f:zdm}{fd:zdv}{N ps:List Str}{k:Nat}{sp:Sp}(F:Iz K x qual st f fd)(S:bc N ps (aM st))(len:∀vs H Q E,sp vs H Q E->vs.length=ps.length)
 (yH:∀(eK:zdn) (A:zdx) (outer:List Env) (s:zdw) (H:Hp) (vs:List V) (Q:VK) (E:XK),hZ k (A.deeper (envOfC qual (aM st) s.heap.objs.size f eK))->sp vs H Q E->
  ∃t,BK (vo eS P w K mg base N qual (aM st) f eK A outer s H E).Ph (ip st) t/\t {nx:=fun _ H'=>Q .bO H',rt:=Q} (start N vs) H):bB P w K mg base eS (k+1) f fd ps sp:=by
 obtain⟨oc,od,kV,doc,pm,an,eK,ct,Iy,rfl,lk,ET⟩:=F.ex;refine PH lk ET S len fun A outer s H vs Q E hr Lf=>?_;obtain⟨t,h,q⟩:=yH eK A outer s H vs Q E hr Lf;exact⟨t,h.Ph,q⟩
theorem Iz.binds{x qual:Str}{st:Stmt}{f:zdm}{fd:zdv}{ps:List Str}(F:Iz K x qual st f fd)
 (h:∀(kV doc pm:zdn) (an:Option zdm) (eK ct:zdn) (us:List zdn),us.length=ps.length->bindArgs (zbt x qual (jO st) (ip st) (aM st) .none kV doc pm an eK ct) ⟨us,[]⟩=pure (ps.zip us)):Binds K fd ps []:=by
 obtain⟨oc,od,kV,doc,pm,an,eK,ct,Iy,rfl,lk,ET⟩:=F.ex;exact .all (h kV doc pm an eK ct)
theorem Fs{x qual:Str}{st:Stmt}{f:zdm}{oc:zdn}{od an:Option zdm}{Iy:Array (Option zdn)}{kV doc pm eK ct:zdn}(l:K.lookup f=some ⟨oc,od,.func (zbt x qual (jO st) (ip st) (aM st) .none kV doc pm an eK ct),Iy⟩)
 (c:zb9 K eK qual=true) (k:zbM K (.ref f)=true):Iz K x qual st f (zbt x qual (jO st) (ip st) (aM st) .none kV doc pm an eK ct):=⟨⟨oc,od,kV,doc,pm,an,eK,ct,Iy,rfl,l,c⟩,k⟩
end
theorem gd{A:zdx}{k:Nat}(hr:hZ k A):A.units+1<cLine:=zcu (Nat.add_le_add_left (by decide:1<=64) _) hr.units
theorem Dr{n:Nat}(h:n<=1000):n<zdu:=zcu h (by decide)
section
variable{X:Cx}
theorem pv(i:Nat){x:Str}{pos:Pos}(hN:X.N[i]?=some x:=by rfl)(hv:Sa X.env.scope x:=by first |exact zaq rfl |exact Or.inr (zaq rfl) |exact Or.inr (Or.inr rfl))(hd:(x==("__debug__":Str))=false:=by decide)
 (ET:(x==("__classdict__":Str))=false:=by decide):PE X (.Name x pos) (fY i):=Mi hN hv hd ET
end
theorem cM{c A B:Prop}[Decidable c](h1:c->A)(h2:¬c->B):if c then A else B:=by
 by_cases h:c
 ·rw[if_pos h];exact h1 h
 ·rw[if_neg h];exact h2 h
def ar (H H':Hp):Prop:=∀b o,H b=some o->H' b=some o
theorem ar.refl(H:Hp):ar H H:=fun _ _ h=>h
theorem ar.trans{H H1 H2:Hp}(a:ar H H1)(b:ar H1 H2):ar H H2:=fun c o h=>b c o (a c o h)
theorem ar.free{H H':Hp}(e:ar H H'){l:zdm}(h:H' l=zdk):H l=zdk:=by
 cases q:H l with
 |none=>rfl
 |some o=>
  rw[e l o q] at h;cases h
theorem ar.seq{K:zaa}{H H':Hp}{a:zdm}{xs:List V}(e:ar H H')(h:fF K H a xs):fF K H' a xs:=by
 rcases h with (h |⟨o,h⟩) |h
 ·exact .inl (.inl (e _ _ h))
 ·exact .inl (.inr ⟨o,e _ _ h⟩)
 ·exact .inr h
section
variable{κ:Type}[DecidableEq κ]
def cB (kvs:List (κ×V)) (k:κ):Option V:=(kvs.find? fun kv=>decide (kv.1=k)).map (·.2)
def putK (kvs:List (κ×V)) (k:κ) (v:V):List (κ×V):=
 if (kvs.any fun kv=>decide (kv.1=k))=true then kvs.map (fun kv=>if kv.1=k then (kv.1,v) else kv) else kvs++[(k,v)]
theorem cG{p:κ×V}{r:List (κ×V)}{k:κ}(e:p.1=k):cB (p::r) k=some p.2:=by simp[cB,zbg,e]
theorem cH{p:κ×V}{r:List (κ×V)}{k:κ}(e:¬p.1=k):cB (p::r) k=cB r k:=by simp[cB,zbg,e]
theorem jr(k:κ):∀kvs:List (κ×V),(kvs.any fun kv=>decide (kv.1=k))=(cB kvs k).isSome
 |[]=>rfl
 |p::r=>by
  rw[zbv];by_cases e:p.1=k
  ·simp only[cG e,decide_eq_true e,Bool.true_or,Option.isSome_some]
  ·rw[cH e,decide_eq_false e,zcw];exact jr k r
theorem yN(k j:κ)(y:V):∀kvs:List (κ×V),cB (kvs.map fun kv=>if kv.1=k then (kv.1,y) else kv) j=(cB kvs j).map fun x=>if j=k then y else x
 |[]=>rfl
 |p::r=>by
  have ih:=yN k j y r;rw[zar];by_cases h:p.1=k
  ·rw[if_pos h];by_cases e:p.1=j
   ·rw[cG (p:=(p.1,y)) e,cG e,zaL,if_pos (e.symm.trans h)]
   ·rw[cH (p:=(p.1,y)) e,cH e,ih]
  ·rw[if_neg h];by_cases e:p.1=j
   ·rw[cG (p:=p) e,cG e,zaL,if_neg (fun z=>h (e.trans z))]
   ·rw[cH (p:=p) e,cH e,ih]
theorem wb(k j:κ)(y:V):∀kvs:List (κ×V),cB kvs k=none->cB (kvs++[(k,y)]) j=if j=k then some y else cB kvs j
 |[],_=>by
  by_cases e:k=j
  ·rw[if_pos e.symm];exact cG (p:=(k,y)) e
  ·rw[if_neg (fun z=>e z.symm)];exact cH (p:=(k,y)) e
 |p::r,hn=>by
  rw[zbA];have hk:¬p.1=k:=fun z=>by rw[cG z] at hn;cases hn
  rw[cH hk] at hn;have ih:=wb k j y r hn;by_cases e:p.1=j
  ·rw[cG e,cG e,if_neg (fun z=>hk (e.trans z))]
  ·rw[cH e,cH e,ih]
theorem pF(kvs:List (κ×V))(k j:κ)(y:V):cB (putK kvs k y) j=if j=k then some y else cB kvs j:=by
 unfold putK;by_cases a:(kvs.any fun kv=>decide (kv.1=k))=true
 ·rw[if_pos a,yN];rw[jr] at a;by_cases e:j=k
  ·obtain⟨x,hx⟩:=zcJ.mp a;rw[if_pos e,e,hx,zaL,if_pos rfl]
  ·rw[if_neg e];cases cB kvs j with
   |none=>rfl
   |some x=>rw[zaL,if_neg e]
 ·rw[if_neg a];refine wb k j y kvs ?_;rw[jr] at a;cases q:cB kvs k with
  |none=>rfl
  |some x=>rw[q] at a;exact(a rfl).elim
theorem jP(kvs:List (κ×V))(k:κ)(v:V):(putK kvs k v).length<=kvs.length+1:=by
 unfold putK;split
 ·rw[zae];lia
 ·rw[zap,zak,zaQ];lia
theorem nT.jf{o:Option V}{u:Option zdn}(r:nT o u):o.isSome=u.isSome:=by
 cases o with
 |none=>cases u with
  |none=>rfl
  |some _=>exact(show False from r).elim
 |some _=>cases u with
  |none=>exact(show False from r).elim
  |some _=>rfl
theorem nT.getD{o:Option V}{u:Option zdn}{d:V}{d':zdn}(r:nT o u)(rd:RelV d d'):RelV (o.getD d) (u.getD d'):=by
 cases o with
 |none=>cases u with
  |none=>exact rd
  |some _=>exact(show False from r).elim
 |some _=>cases u with
  |none=>exact(show False from r).elim
  |some _=>exact r
theorem KV.val{kvs:List (κ×V)}{vs:List (κ×zdn)}(r:KV kvs vs)(k:κ):nT (cB kvs k) (valueAt vs k):=by
 unfold KV at r
 induction r with
 |nil=>exact True.intro
 |@cons p q ps qs h t ih=>
  obtain⟨h1,h2⟩:=h;by_cases e:p.1=k
  ·have e':q.1=k:=h1.symm.trans e;have b:valueAt (q::qs) k=some q.2:=by simp[valueAt,zbg,e']
   rw[cG e,b];exact h2
  ·have e':¬q.1=k:=fun z=>e (h1.trans z);have b:valueAt (q::qs) k=valueAt qs k:=by simp[valueAt,zbg,e']
   rw[cH e,b];exact ih
theorem KV.any{kvs:List (κ×V)}{vs:List (κ×zdn)}(r:KV kvs vs)(k:κ):(kvs.any fun kv=>decide (kv.1=k))=vs.any fun kv=>decide (kv.1=k):=by
 unfold KV at r
 induction r with
 |nil=>rfl
 |cons h t ih=>rw[zbv,zbv,ih,h.1]
theorem KV.MQ{kvs:List (κ×V)}{vs:List (κ×zdn)}(r:KV kvs vs)(k:κ){y:V}{u:zdn}(ry:RelV y u) :
 KV (kvs.map fun kv=>if kv.1=k then (kv.1,y) else kv) (vs.map fun kv=>if kv.1=k then (kv.1,u) else kv):=by
 unfold KV at r ⊢
 induction r with
 |nil=>exact .nil
 |@cons p q ps qs h t ih=>
  rw[zar,zar];refine .cons ?_ ih;obtain⟨h1,h2⟩:=h;by_cases e:p.1=k
  ·rw[if_pos e,if_pos (h1.symm.trans e)];exact⟨h1,ry⟩
  ·rw[if_neg e,if_neg (fun z=>e (h1.trans z))];exact⟨h1,h2⟩
theorem KV.put{kvs:List (κ×V)}{vs:List (κ×zdn)}(r:KV kvs vs)(k:κ){y:V}{u:zdn}(ry:RelV y u):KV (putK kvs k y) (stored vs k u):=by
 unfold putK stored;rw[r.any k];by_cases e:(vs.any fun kv=>decide (kv.1=k))=true
 ·rw[if_pos e,if_pos e];exact r.MQ k ry
 ·rw[if_neg e,if_neg e];exact Paired.snoc r ⟨rfl,ry⟩
theorem KV.length{kvs:List (κ×V)}{vs:List (κ×zdn)}(r:KV kvs vs):kvs.length=vs.length:=Paired.length r
end
theorem pG{P:zdy}{w:zdo}{k:Key}{u:zdn}(r:RelV (kV k) u):(bX P w).is k u=true:=by
 cases k with
 |inl i=>obtain⟨t,e⟩:=(show ∃t,u=Value.int i t from r);subst e;exact ym P w i t
 |inr x=>obtain⟨t,e⟩:=(show ∃t,u=Value.str x t from r);subst e;exact yn P w x t
theorem wc{P:zdy}{w:zdo}:∀ {ks:List Key} {us:List zdn},Vals (ks.map kV) us->ItemsAre (bX P w) ks us
 |[],_,r=>by rw[zbD] at r;cases r;exact .nil
 |k::ks,_,r=>by
  rw[zar] at r;cases r with
  |cons h t=>exact .cons (pG h) (wc t)
abbrev KT (H:Hp):List (List Key×V)->List (List Key×zdm×zdn)->Prop:=Paired fun p q=>p.1=q.1/\H q.2.1=some (.tup (p.1.map kV))/\RelV p.2 q.2.2
theorem KT.val{H:Hp}{kvs:List (List Key×V)}{xs:List (List Key×zdm×zdn)}(r:KT H kvs xs)(k:List Key):nT (cB kvs k) ((atKey xs k).map (·.2)):=by
 induction r with
 |nil=>exact True.intro
 |@cons p q ps qs h t ih=>
  obtain⟨h1,_,h2⟩:=h;by_cases e:p.1=k
  ·have e':q.1=k:=h1.symm.trans e;have b:atKey (q::qs) k=some q.2:=by simp[atKey,zbg,e']
   rw[cG e,b];exact h2
  ·have e':¬q.1=k:=fun z=>e (h1.trans z);have b:atKey (q::qs) k=atKey qs k:=by simp[atKey,zbg,e']
   rw[cH e,b];exact ih
theorem KT.MQ{H:Hp}{kvs:List (List Key×V)}{xs:List (List Key×zdm×zdn)}(r:KT H kvs xs)(k:List Key){y:V}{u:zdn}(ry:RelV y u) :
 KT H (kvs.map fun kv=>if kv.1=k then (kv.1,y) else kv) (xs.map (putAt k u)):=by
 induction r with
 |nil=>exact .nil
 |@cons p q ps qs h t ih=>
  rw[zar,zar];refine .cons ?_ ih;obtain⟨h1,h2,h3⟩:=h;unfold putAt;by_cases e:p.1=k
  ·rw[if_pos e,if_pos (h1.symm.trans e)];exact⟨h1,h2,ry⟩
  ·rw[if_neg e,if_neg (fun z=>e (h1.trans z))];exact⟨h1,h2,h3⟩
theorem KT.put{H:Hp}{kvs:List (List Key×V)}{xs:List (List Key×zdm×zdn)}(r:KT H kvs xs)(k:List Key){b:zdm}{y:V}{u:zdn}(hb:H b=some (.tup (k.map kV)))(ry:RelV y u) :
 KT H (putK kvs k y) (storedH xs k b u):=by
 have e:(kvs.any fun kv=>decide (kv.1=k))=(atKey xs k).isSome:=by
  rw[jr,(r.val k).jf,zca]
 unfold putK storedH;rw[e];by_cases q:(atKey xs k).isSome=true
 ·rw[if_pos q,if_pos q];exact r.MQ k ry
 ·rw[if_neg q,if_neg q];exact Paired.snoc r ⟨rfl,hb,ry⟩
theorem KT.keeps{H H':Hp}{kvs:List (List Key×V)}{xs:List (List Key×zdm×zdn)}(r:KT H kvs xs)(ht:∀b ys,H b=some (.tup ys)->H' b=some (.tup ys)):KT H' kvs xs:=
 Paired.wR r fun _ _ z=>⟨z.1,ht _ _ z.2.1,z.2.2⟩
section
variable{P:zdy}{w:zdo}{H:Hp}{h:Heap}{a:zdm}
theorem Lh{u:HO}(ok:oJ P w H h)(e:Rd H a u):dP P w H h a u:=e.ok ok
theorem tQ{kvs:List (Key×V)}(ok:oJ P w H h)(e:Rd H a (.dK kvs)):kvs.length<=zdu/\(a==sysModules)=false/\∃vs,KV kvs vs/\h.DictOf (bX P w) a vs:=
 show dP P w H h a (.dK kvs) from Lh ok e
theorem B2{kvs:List (Key×V)}(ok:oJ P w H h)(e:H a=some (.dK kvs)):kvs.length<=zdu/\(a==sysModules)=false/\∃vs,KV kvs vs/\h.DictOf (bX P w) a vs:=tQ ok (.inl e)
theorem qz{ks:List Key}(ok:oJ P w H h)(e:H a=some (.tup (ks.map kV))):(tupleKind (bX P w)).is h ks a:=by
 obtain⟨_,bq,r,o,h1,h2,n,h3⟩:=(show dP P w H h a (.tup (ks.map kV)) from ok a _ e)
 exact⟨o,bq.toArray,n,h1,h2,h3,by simpa using wc r⟩
theorem tR{kvs:List (List Key×V)}(ok:oJ P w H h)(e:Rd H a (.dT kvs)):kvs.length<=zdu/\(a==sysModules)=false/\
 ∃xs,KT H kvs xs/\h.DictOfH (tupleKind (bX P w)) a xs:=by
 obtain⟨z,y,xs,r,o,es,ep,h1,h2,h3,h4,h5⟩:=(show dP P w H h a (.dT kvs) from Lh ok e)
 refine⟨z,y,xs,r,o,es,ep,h1,h2,h3,h4,fun x hx=>?_,h5⟩;have all:∀ {l:List (List Key×V)} {m:List (List Key×zdm×zdn)},KT H l m->∀x∈m,(tupleKind (bX P w)).is h x.1 x.2.1:=by
  intro l m q
  induction q with
  |nil=>intro x hx;exact nomatch hx
  |@cons p q ps qs hq t ih=>
   intro x hx;rcases zag.mp hx with e |hx
   ·subst e;exact qz ok (by rw[<- hq.1];exact hq.2.1)
   ·exact ih x hx
 exact all r x hx
theorem P0{kvs:List (List Key×V)}(ok:oJ P w H h)(e:H a=some (.dT kvs)):kvs.length<=zdu/\(a==sysModules)=false/\
 ∃xs,KT H kvs xs/\h.DictOfH (tupleKind (bX P w)) a xs:=tR ok (.inl e)
end
def ia (H:Hp) (a:zdm) (y:V) (r:Option V):Prop:=
 (∃kvs k,Rd H a (.dK kvs)/\y=kV k/\r=cB kvs k)\/∃kvs k b,Rd H a (.dT kvs)/\y=.ref b/\H b=some (.tup (k.map kV))/\r=cB kvs k
def vq (H:Hp) (a:zdm) (y v:V) (H':Hp):Prop:=
 (∃kvs k,H a=some (.dK kvs)/\y=kV k/\kvs.length<zdu/\H'=upd H a (.dK (putK kvs k v)))\/
 ∃kvs k b,H a=some (.dT kvs)/\y=.ref b/\H b=some (.tup (k.map kV))/\kvs.length<zdu/\H'=upd H a (.dT (putK kvs k v))
theorem ia.k{H:Hp}{a:zdm}{kvs:List (Key×V)}{k:Key}(e:H a=some (.dK kvs)):ia H a (kV k) (cB kvs k):=.inl ⟨kvs,k,.inl e,rfl,rfl⟩
theorem vq.k{H:Hp}{a:zdm}{kvs:List (Key×V)}{k:Key}{v:V}(e:H a=some (.dK kvs))(hl:kvs.length<zdu):vq H a (kV k) v (upd H a (.dK (putK kvs k v))):=.inl ⟨kvs,k,e,rfl,hl,rfl⟩
section
variable{X:Cx}{pins:List (zdm×Obj)}{σ:St}{H:Hp}{s:zdw}{a:zdm}{y v:V}{u r:zdn}{o:Option V}{A:zdx}{E:zdn->zdw->Prop}
theorem Inv.big(I:Inv X pins σ H s):sysModules<s.heap.objs.size:=by
 have h:zdt<s.heap.objs.size:=(I.mod.glob.keeps I.bk).lt;exact Nat.lt_trans (by decide) h
theorem Ds{Q:zdn->zdw->Prop}(hu:A.units+1<cLine)(I:Inv X pins σ H s)(g:ia H a y (some v))(ry:RelV y u)(h:∀w' s',Inv X pins σ H s'->RelV v w'->Q w' s') :
 wpAny (model X.prog X.w) A (getItem (.ref a) u) Q E s:=by
 rcases g with ⟨kvs,k,e,ey,l⟩ |⟨kvs,k,b,e,ey,eb,l⟩
 ·subst ey;obtain⟨z,hd,vs,rel,dd⟩:=tQ I.da e;obtain⟨w',hw,Dm⟩:=nT.some_of (v:=v) (o:=valueAt vs k) (by rw[l];exact rel.val k);exact wpAny_getItem_of (pG ry) dd.mapOf hw (h w' _ (I.tok _) Dm)
 ·subst ey;cases (show u=Value.ref b from ry);obtain⟨z,hd,xs,rel,dd⟩:=tR I.da e;obtain⟨w',hw,Dm⟩:=nT.some_of (v:=v) (o:=(atKey xs k).map (·.2)) (by rw[l];exact rel.val k);obtain⟨p,hp,Aj⟩:=zaC.mp hw;refine wpAny_getItem_heap (tupleKind_room_in1 hu) (qz I.da eb) dd hp ?_;rw[Aj];exact h w' _ (I.tok _) Dm
theorem T3{Q:zdn->zdw->Prop}(hu:A.units+1<cLine)(I:Inv X pins σ H s)(g:ia H a y o)(ry:RelV y u)(h:∀s',Inv X pins σ H s'->Q (.bool o.isSome) s') :
 wpAny (model X.prog X.w) A (compareOp .In u (.ref a)) Q E s:=by
 rcases g with ⟨kvs,k,e,ey,l⟩ |⟨kvs,k,b,e,ey,eb,l⟩
 ·subst ey;obtain⟨z,hd,vs,rel,dd⟩:=tQ I.da e;refine wpAny_in_of (pG ry) hd dd.mapOf ?_;rw[<- (rel.val k).jf,<- l];exact h _ (I.tok _)
 ·subst ey;cases (show u=Value.ref b from ry);obtain⟨z,hd,xs,rel,dd⟩:=tR I.da e;refine wpAny_in_heap (tupleKind_room_in1 hu) (qz I.da eb) hd dd ?_;have q:=(rel.val k).jf;rw[zca] at q;rw[<- q,<- l];exact h _ (I.tok _)
theorem Jf{Q:zdn->zdw->Prop}(hu:A.units+1<cLine)(I:Inv X pins σ H s)(g:ia H a y o)(ry:RelV y u)(h:∀s',Inv X pins σ H s'->Q (.bool (!o.isSome)) s') :
 wpAny (model X.prog X.w) A (compareOp .NotIn u (.ref a)) Q E s:=by
 rcases g with ⟨kvs,k,e,ey,l⟩ |⟨kvs,k,b,e,ey,eb,l⟩
 ·subst ey;obtain⟨z,hd,vs,rel,dd⟩:=tQ I.da e;refine wpAny_notIn_of (pG ry) hd dd.mapOf ?_;rw[<- (rel.val k).jf,<- l];exact h _ (I.tok _)
 ·subst ey;cases (show u=Value.ref b from ry);obtain⟨z,hd,xs,rel,dd⟩:=tR I.da e;refine wpAny_notIn_heap (tupleKind_room_in1 hu) (qz I.da eb) hd dd ?_;have q:=(rel.val k).jf;rw[zca] at q;rw[<- q,<- l];exact h _ (I.tok _)
theorem xi{h':Heap}{t':Nat}{ob:HO}(I:Inv X pins σ H s)(mu:O4 (H a))(hs:Heap.SameBut a s.heap h')(he:∃q,h'.get? a=some q)(new:dP X.prog X.w (upd H a ob) h' a ob) :
 Inv X pins σ (upd H a ob) {s with heap:=h',toks:=t' }:=
 I.write (x:=a) (e:=a) mu (.inl rfl) (fun b q hb z=>(hs.2 b hb).trans z) he new
theorem xj{P:zdy}{w:zdo}{H':Hp}{h':Heap}{kvs:List (Key×V)}{vs:List (Key×zdn)}(z:kvs.length<=zdu)(hd:(a==sysModules)=false)(rel:KV kvs vs)(dd:h'.DictOf (bX P w) a vs) :
 dP P w H' h' a (.dK kvs):=⟨z,hd,vs,rel,dd⟩
theorem Dt{H':Hp}{Q:Unit->zdw->Prop}(hu:A.units+1<cLine)(I:Inv X pins σ H s)(g:vq H a y v H')(ry:RelV y u)(rv:RelV v r)(h:∀s',Inv X pins σ H' s'->Q () s') :
 wpAny (model X.prog X.w) A (setItem (.ref a) u r) Q E s:=by
 rcases g with ⟨kvs,k,e,ey,l,eH⟩ |⟨kvs,k,b,e,ey,eb,l,eH⟩
 ·subst ey eH;obtain⟨z,hd,vs,rel,dd⟩:=B2 I.da e;have hz:vs.length<=zdu:=by rw[<- rel.length];exact z
  have hl:(putK kvs k v).length<=zdu:=by have:=jP kvs k v;lia
  refine wpAny_setItem_pairs (hsz:=hz) (pG ry) dd fun h' MR hs=>h _ ?_;have he:∃q,h'.get? a=some q:=let ⟨q,_,_,hq,_⟩:=MR;⟨q,hq⟩;exact xi I (by rw[e];exact True.intro) hs he (xj hl hd (rel.put k rv) MR)
 ·subst ey eH;cases (show u=Value.ref b from ry);obtain⟨z,hd,xs,rel,dd⟩:=P0 I.da e;have hz:xs.length<=zdu:=by rw[<- Paired.length rel];exact z
  have hl:(putK kvs k v).length<=zdu:=by have:=jP kvs k v;lia
  refine wpAny_setItem_heap (hsz:=hz) (tupleKind_room_in1 hu) (qz I.da eb) dd fun h' MR hs=>h _ ?_;obtain⟨q,es,ep,hq,h2,h3,h4,_,h5⟩:=MR;refine xi I (by rw[e];exact True.intro) hs ⟨q,hq⟩ ⟨hl,hd,_,(rel.put k eb rv).keeps fun c ys ec=>?_,q,es,ep,hq,h2,h3,h4,h5⟩;rw[aE (bP ec e (fun z=>nomatch z))];exact ec
end
def Qa (i:Expr):Prop:=∀ov iv,subscripted i false ov iv=operate [ov,iv] (getItem ov iv)
theorem Jg{prog:zdy}{w:zdo}{A:zdx}{E:zdn->zdw->Prop}{s:zdw}{env:Env}{value slice:Expr}{pos:Pos}{T id:String}{Q:zdn->zdw->Prop}
 (hl:typeLookup (.type T) "__getitem__"=pure (some (.builtin id))) (hs:Qa slice)
 (h:wpAny (model prog w) A (eval value env) (fun o s₁=>wpAny (model prog w) A (eval slice env) (fun i s₂=>s₂.TypeIs o T/\wpAny (model prog w) A (getItem o i) Q E s₂) E s₁) E s) :
 wpAny (model prog w) A (eval (.Subscript value slice pos) env) Q E s:=by
 refine Subscript_ (wpAny_mono h (fun o s₁ h₁=>wpAny_mono h₁ (fun i s₂ h₂=>?_) fun _ _ x=>x) fun _ _ x=>x);obtain⟨hT,h₂⟩:=h₂;unfold subscriptTail;refine zdp ?_;rw[getitemInPython_of_ne hT.not_modules];refine zdp (wpAny_specialOf hT hl ?_);have fin:wpAny (model prog w) A (subscripted slice false o i) (fun r s₃=>wpAny (model prog w) A (letTemporaryGo value o r >>= fun _=>pure r) Q E s₃) E s₂:=by
  rw[hs o i];exact wpAny_operating (wpAny_mono h₂ (fun r s₃ h₃=>zdp (wpAny_letTemporaryGo (zdq h₃))) fun _ _ x=>x)
 first
  |exact zdq (zdp fin)
  |exact zdp (zdq (zdp fin))
  |exact zdp fin
theorem yO{X:Cx}{pins:List (zdm×Obj)}{σ:St}{H:Hp}{s:zdw}{a:zdm}{y:V}{o:Option V}(I:Inv X pins σ H s)(g:ia H a y o):s.TypeIs (.ref a) "dict":=by
 rcases g with ⟨kvs,k,e,_,_⟩ |⟨kvs,k,b,e,_,_,_⟩
 ·obtain⟨_,_,vs,_,dd⟩:=tQ I.da e;exact dd.typeIs
 ·obtain⟨_,_,xs,_,dd⟩:=tR I.da e;exact dd.typeIs
def Li (td ty:TE):TE:=fun σ H Q=>td σ H fun x H1=>ty σ H1 fun y H2=>∃a v,x=.ref a/\ia H2 a y (some v)/\Q v H2
def MS (ty td:TE):TE:=fun σ H Q=>ty σ H fun y H1=>td σ H1 fun x H2=>∃a o,x=.ref a/\ia H2 a y o/\Q (.bl o.isSome) H2
def B3 (ty td:TE):TE:=fun σ H Q=>ty σ H fun y H1=>td σ H1 fun x H2=>∃a o,x=.ref a/\ia H2 a y o/\Q (.bl (!o.isSome)) H2
def Lj (td ty tv:TE):TS:=fun D σ H=>tv σ H fun v H1=>td σ H1 fun x H2=>ty σ H2 fun y H3=>∃a H4,x=.ref a/\vq H3 a y v H4/\D.nx σ H4
section
variable{X:Cx}{o i e value:Expr}{pos pos' Ts:Pos}{td ty tv:TE}
theorem cf(hu:X.A.units+1<cLine)(ho:PE X o td)(hi:PE X i ty)(hs:Qa i):PE X (.Subscript o i pos) (Li td ty):=by
 intro pins s σ H Q I h;refine Jg PySem.F.slot_dict_getitem.lookup hs (dw (ho pins s σ H _ I h) fun u s1 zqz=>?_);obtain⟨x,H1,I1,rx,q1⟩:=zqz;refine dw (hi pins s1 σ H1 _ I1 q1) fun iv s2 zqz=>?_;obtain⟨y,H2,I2,ry,a,v,ex,g,q2⟩:=zqz;subst ex;obtain rfl:u=Value.ref a:=rx;exact⟨yO I2 g,Ds hu I2 g ry fun w' s3 I3 Dm=>⟨v,H2,I3,Dm,q2⟩⟩
theorem Ft(hu:X.A.units+1<cLine)(hi:PE X i ty)(ho:PE X o td):PC X .In i o (MS ty td):=by
 intro pins s σ H Q I h;refine dw (hi pins s σ H _ I h) fun iv s1 zqz=>?_;obtain⟨y,H1,I1,ry,q1⟩:=zqz;refine dw (ho pins s1 σ H1 _ I1 q1) fun u s2 zqz=>?_;obtain⟨x,H2,I2,rx,a,ov,ex,g,q2⟩:=zqz;subst ex;obtain rfl:u=Value.ref a:=rx;exact T3 hu I2 g ry fun s3 I3=>⟨.bl ov.isSome,H2,I3,rfl,q2⟩
theorem Du(hu:X.A.units+1<cLine)(hi:PE X i ty)(ho:PE X o td):PC X .NotIn i o (B3 ty td):=by
 intro pins s σ H Q I h;refine dw (hi pins s σ H _ I h) fun iv s1 zqz=>?_;obtain⟨y,H1,I1,ry,q1⟩:=zqz;refine dw (ho pins s1 σ H1 _ I1 q1) fun u s2 zqz=>?_;obtain⟨x,H2,I2,rx,a,ov,ex,g,q2⟩:=zqz;subst ex;obtain rfl:u=Value.ref a:=rx;exact Jf hu I2 g ry fun s3 I3=>⟨.bl (!ov.isSome),H2,I3,rfl,q2⟩
theorem kZ(hu:X.A.units+1<cLine)(ho:PE X o td)(hi:PE X i ty)(hv:PE X value tv)(hs:swapsWith value (some (.Subscript o i pos')) pos.line X.env=pure false) :
 PS X (.Assign [.Subscript o i pos'] value pos) (Lj td ty tv):=by
 intro pins s σ H D I h;refine wpAny_Assign_Subscript (dw (hv pins s σ H _ I h) fun r s1 zqz=>?_) hs;obtain⟨v,H1,I1,rv,q1⟩:=zqz;refine dw (ho pins s1 σ H1 _ I1 q1) fun u s2 zqz=>?_;obtain⟨x,H2,I2,rx,q2⟩:=zqz;refine dw (hi pins s2 σ H2 _ I2 q2) fun iv s3 zqz=>?_;obtain⟨y,H3,I3,ry,a,H4,ex,g,q3⟩:=zqz;subst ex;obtain rfl:u=Value.ref a:=rx;exact Dt hu I3 g ry rv fun s4 I4=>⟨σ,H4,I4,q3⟩
end
theorem Fu{P:zdy}{w:zdo}{H:Hp}(h:Heap)(hb:sysModules<h.objs.size):dP P w H (h.push {cls:=.type "dict",data:=.dict #[]}) h.objs.size (.dK []):=
 ⟨zaM _,beq_eq_false_iff_ne.mpr (Ne.symm (zaw hb)),[],.nil,Heap.DictOf.new h⟩
def MT:TE:=fun _ H Q=>∀p,H p=none->Q (.ref p) (upd H p (.dK []))
def tS:List (TE×TE)->St->Hp->(List (V×V)->Hp->Prop)->Prop
 |[],_,H,Q=>Q [] H
 |(tk,tv)::r,σ,H,Q=>tk σ H fun x H1=>tv σ H1 fun y H2=>tS r σ H2 fun ps H3=>Q ((x,y)::ps) H3
abbrev VV:List (V×V)->List (zdn×zdn)->Prop:=Paired fun p q=>RelV p.1 q.1/\RelV p.2 q.2
def Sk (X:Cx) (pos:Pos) (keys:List (Option Expr)) (values:List Expr) (Jh:List (TE×TE)):Prop:=
 ∀(pins:List (zdm×Obj)) (s:zdw) (σ:St) (H:Hp) (Q:List (V×V)->Hp->Prop),Inv X pins σ H s->tS Jh σ H Q->
  wpAny (model X.prog X.w) X.A (evalPairs (pairTrees keys values X.env pos)) (fun vs s'=>∃ps H',Inv X pins σ H' s'/\VV ps vs/\Q ps H') X.xe s
theorem Ji{X:Cx}{pos:Pos}:Sk X pos [] [] []:=fun pins s σ H Q I h=>pairTrees_nil_walk ⟨[],H,I,.nil,h⟩
theorem Fv{X:Cx}{pos:Pos}{k v:Expr}{ks:List (Option Expr)}{vs:List Expr}{tk tv:TE}{Jh:List (TE×TE)}(hk:PE X k tk)(hv:PE X v tv)(hr:Sk X pos ks vs Jh) :
 Sk X pos (some k::ks) (v::vs) ((tk,tv)::Jh):=fun pins s σ H Q I h=>
 pairTrees_cons_walk (dw (hk pins s σ H _ I h) fun u s1 ⟨x,H1,I1,rx,q1⟩=>dw (hv pins s1 σ H1 _ I1 q1) fun w2 s2 ⟨y,H2,I2,ry,q2⟩=>
  dw (hr pins s2 σ H2 _ I2 q2) fun ws s3 ⟨ps,H3,I3,rel,q3⟩=>⟨(x,y)::ps,H3,I3,.cons ⟨rx,ry⟩ rel,q3⟩)
def iU (kvs more:List (Key×V)):List (Key×V):=more.foldl (fun acc kv=>putK acc kv.1 kv.2) kvs
theorem KV.merge:∀ {more:List (Key×V)} {rs:List (Key×zdn)} {kvs:List (Key×V)} {vs:List (Key×zdn)},KV more rs->KV kvs vs->KV (iU kvs more) (merged vs rs):=by
 intro more rs kvs vs r;unfold KV at r
 induction r generalizing kvs vs with
 |nil=>intro q;exact q
 |@cons p q ps qs h t ih=>
  intro r0;have e:KV (putK kvs p.1 p.2) (stored vs q.1 q.2):=by
   have:=r0.put p.1 h.2;rw[<- h.1];exact this
  exact ih e
theorem iq:∀(more kvs:List (Key×V)),(iU kvs more).length<=kvs.length+more.length
 |[],kvs=>by show kvs.length<=kvs.length+0;lia
 |p::r,kvs=>by
  have h1:=iq r (putK kvs p.1 p.2);have h2:=jP kvs p.1 p.2;show (iU (putK kvs p.1 p.2) r).length<=_;rw[zak];lia
theorem tT{P:zdy}{w:zdo}:∀ {kvs:List (Key×V)} {ws:List (zdn×zdn)},VV (kvs.map fun kv=>(kV kv.1,kv.2)) ws->∃rs,Carries (bX P w) ws rs/\KV kvs rs
 |[],_,r=>by rw[zbD] at r;cases r;exact⟨[],True.intro,.nil⟩
 |p::kvs,_,r=>by
  rw[zar] at r;cases r with
  |@cons a b as bs h t=>
   obtain⟨rs,c,q⟩:=tT (P:=P) (w:=w) t;obtain⟨b1,b2⟩:=b;exact⟨(p.1,b2)::rs,⟨pG h.1,rfl,c⟩,.cons ⟨rfl,h.2⟩ q⟩
def Lk (Jh:List (TE×TE)):TE:=fun σ H Q=>∀p,H p=none->tS Jh σ (upd H p (.dK [])) fun ps H2=>H2 p=some (.dK [])/\∃kvs:List (Key×V),ps=kvs.map (fun kv=>(kV kv.1,kv.2))/\kvs.length<=15/\Q (.ref p) (upd H2 p (.dK (iU [] kvs)))
theorem Jj{X:Cx}{pos:Pos}{keys:List (Option Expr)}{values:List Expr}{Jh:List (TE×TE)}(h:Sk X pos keys values Jh)(MN:keys.all (·.isSome)=true)(hl:keys.length=values.length)(h0:keys≠[])
 (T4:keys.length<=15):PE X (.Dict keys values pos) (Lk Jh):=by
 intro pins s σ H Q I q;have hn:=I.da.fresh (zam s.heap.objs.size);have I1:=I.laid (a:=s.heap.objs.size) (o:=.dK []) (h':=s.heap.push {cls:=.type "dict",data:=.dict #[]}) (t':=s.toks) (fun _ _ q=>Heap.get?_push_of_some _ q) (zam _) (Fu s.heap I.big);refine wpAny_Dict_walk (knd:=bX X.prog X.w) MN hl h0 T4 (dw (h pins _ σ _ _ I1 (q _ hn)) fun ws s2 zqz=>?_);obtain⟨ps,H2,I2,rel,e,kvs,ep,lk,q2⟩:=zqz;subst ep;obtain⟨rs,c,rk⟩:=tT (P:=X.prog) (w:=X.w) rel;obtain⟨z,hd,vs0,r0,dd⟩:=B2 I2.da e;cases r0;refine⟨rs,c,dd,fun h' MR hs=>⟨.ref s.heap.objs.size,_,?_,rfl,q2⟩⟩;have hz:(iU [] kvs).length<=zdu:=by
  have h1:=iq kvs [];rw[zaQ] at h1;rw[sizeLine_eq];lia
 have he:∃q,h'.get? s.heap.objs.size=some q:=let ⟨q,_,_,hq,_⟩:=MR;⟨q,hq⟩;exact xi I2 (by rw[e];exact True.intro) hs he (xj hz hd (rk.merge .nil) MR)
structure M1(X:Cx)(o:Expr)(m:Str)(apos:Pos)(e:Expr)(ky:Pos):Prop where
 base:attributeBase o m X.env (eval o X.env)=eval o X.env
 i3:((backTo ky (zds [e] X.env)).all (fun x=>!x.1)&&(backToKw ky (keywordEach [] X.env)).all (fun x=>x.1.isSome)
  && decide (([e]:List Expr).length+([]:List Keyword).length+(if ([]:List Keyword).isEmpty then 0 else 1)<30))=true
 line:(apos.endLine==ky.line)=true
 trees:backTo ky (zds [e] X.env)=[(false,eval e X.env)]
def WR (H:Hp) (a:zdm):Prop:=(∃kvs,Rd H a (.dK kvs))\/∃kvs,Rd H a (.dT kvs)
theorem MU{X:Cx}{pins:List (zdm×Obj)}{σ:St}{H:Hp}{s:zdw}{a:zdm}(I:Inv X pins σ H s)(d:WR H a) :
 s.TypeIs (.ref a) "dict"/\(∀b,Value.ref a=.ref b->∃ob,s.heap.get? b=some ob/\ob.dict=none)/\(a==sysModules)=false:=by
 rcases d with ⟨kvs,e⟩ |⟨kvs,e⟩
 ·obtain⟨_,hd,vs,_,dd⟩:=tQ I.da e;refine⟨dd.typeIs,fun b q=>?_,hd⟩;cases q;obtain⟨ob,_,_,h1,h2,_⟩:=dd;exact⟨ob,h1,h2.2.1⟩
 ·obtain⟨_,hd,xs,_,dd⟩:=tR I.da e;refine⟨dd.typeIs,fun b q=>?_,hd⟩;cases q;obtain⟨ob,_,_,h1,h2,_⟩:=dd;exact⟨ob,h1,h2.2.1⟩
section
variable{X:Cx}{pins:List (zdm×Obj)}{σ:St}{H:Hp}{s:zdw}{a:zdm}{y d:V}{u r:zdn}{o:Option V}{A:zdx}{E:zdn->zdw->Prop}
theorem MV{Q:zdn->zdw->Prop}(hu:A.units+1<cLine)(I:Inv X pins σ H s)(g:ia H a y o)(ry:RelV y u)(h:∀w' s',Inv X pins σ H s'->RelV (o.getD .bO) w'->Q w' s') :
 wpAny (model X.prog X.w) A (call (.builtin "dict.get") [.ref a,u]) Q E s:=by
 rcases g with ⟨kvs,k,e,ey,l⟩ |⟨kvs,k,b,e,ey,eb,l⟩
 ·subst ey;obtain⟨z,hd,vs,rel,dd⟩:=tQ I.da e;refine call_meetsIn zcj dd.typeIs zc4 (zcS _ _) (meets_dict_get (bX X.prog X.w) a (pG ry) hd) ⟨_,dd.mapOf,h _ _ (I.tok _) ?_⟩;rw[l];exact(rel.val k).getD rfl
 ·subst ey;cases (show u=Value.ref b from ry);obtain⟨z,hd,xs,rel,dd⟩:=tR I.da e;refine call_meetsIn zcj dd.typeIs zc4 (zcS _ _) (meetsH_dict_get (tupleKind (bX X.prog X.w)) a b hd) ⟨tupleKind_room_in1 hu,k,xs,qz I.da eb,dd,h _ _ (I.tok _) ?_⟩;rw[l];exact(rel.val k).getD rfl
end
def Fw (td ty:TE):TE:=fun σ H Q=>td σ H fun x H1=>∃a,x=.ref a/\WR H1 a/\ty σ H1 fun y H2=>∃o,ia H2 a y o/\Q (o.getD .bO) H2
section
variable{X:Cx}{o e f:Expr}{apos ky:Pos}{td ty tx:TE}
theorem Fx(hu:X.A.units+1<cLine)(ho:PE X o td)(he:PE X e ty)(m:M1 X o "get" apos e ky):PE X (.Call (.Attribute o "get" apos) [e] [] ky) (Fw td ty):=by
 intro pins s σ H Q I h;refine wpAny_Call_method m.base m.i3 m.line zcT zcj PySem.F.type_dict_get (dw (ho pins s σ H _ I h) fun u s1 zqz=>?_);obtain⟨x,H1,I1,rx,a,ex,d,q1⟩:=zqz;subst ex;obtain rfl:u=Value.ref a:=rx;obtain⟨t1,t2,_⟩:=MU I1 d;refine⟨t1,t2,?_⟩;rw[m.trees];refine Calls.callWith_builtin rfl (Calls.evalArgs_plain (Calls.spliced_cons (dw (he pins s1 σ H1 _ I1 q1) fun iv s2 ⟨y,H2,I2,ry,ov,g,q2⟩=>Calls.spliced_nil ?_)));exact MV hu I2 g ry fun w' s3 I3 Dm=>⟨_,H2,I3,Dm,q2⟩
end
def qA (env:Env):List (Str×NameKind)->List (Str×zdm)->List (Str×zdm)
 |[],cs=>cs
 |(n,k)::r,cs=>qA env r (if k==.free then (n,(env.cells.lookup n).getD 0)::cs else cs)
theorem rY{scope:Scope}{env:Env}(h:∀p∈scope.names,p.2=.free->∃c,env.cells.lookup p.1=some c):closureFor scope env=pure (qA env scope.names []):=by
 have all:∀(l:List (Str×NameKind)) (cs:List (Str×zdm)),(∀p∈l,p.2=.free->∃c,env.cells.lookup p.1=some c)->
  (forIn l cs fun (x:Str×NameKind) (r:List (Str×zdm))=>if (x.2==NameKind.free)=true then do let a <- cellOf env x.1;pure (ForInStep.yield ((x.1,a)::r)) else (pure (ForInStep.yield r):Sem _))=pure (qA env l cs):=by
  intro l
  induction l with
  |nil=>intro cs _;rfl
  |cons p r ih=>
   intro cs hp;obtain⟨n,k⟩:=p;rw[zbE];by_cases hk:k=.free
   ·subst hk;obtain⟨c,e⟩:=hp (n,.free) zav rfl;have e1:cellOf env n=pure c:=by unfold cellOf;rw[e]
    simp only[beq_self_eq_true,if_true,e1,pure_bind];rw[ih _ fun p OA=>hp p (zad _ OA)];simp[qA,e]
   ·have hb:(k==NameKind.free)=false:=by simpa using hk
    simp only[hb,zay,if_false,pure_bind];rw[ih _ fun p OA=>hp p (zad _ OA)];simp[qA,hb]
 simp only[closureFor];rw[all scope.names [] h];simp
theorem pH{env:Env}{x:Str}{c:zdm}:∀ {l:List (Str×NameKind)} {cs:List (Str×zdm)},(∀p∈l,p.2=.free->∃c,env.cells.lookup p.1=some c)->(∀x c,cs.lookup x=some c->env.cells.lookup x=some c)->
 (qA env l cs).lookup x=some c->env.cells.lookup x=some c
 |[],_,_,h,e=>h x c e
 |(n,k)::r,cs,hp,h,e=>by
  unfold qA at e;refine pH (fun p q=>hp p (zad _ q)) ?_ e;intro y d q;by_cases hk:k=.free
  ·subst hk;obtain⟨c',e'⟩:=hp (n,.free) zav rfl;simp only[beq_self_eq_true,if_true] at q;rw[zbc] at q;cases hy:y==n with
   |true=>
    rw[hy] at q;have:y=n:=by simpa using hy
    subst this;simp only at e';rw[e'] at q ⊢;exact q
   |false=>rw[hy] at q;exact h y d q
  ·have hb:(k==NameKind.free)=false:=by simpa using hk
   simp only[hb,zay,if_false] at q;exact h y d q
theorem tU{env:Env}{x:Str}:∀ {l:List (Str×NameKind)} {cs:List (Str×zdm)},((∃c,cs.lookup x=some c)\/(x,NameKind.free)∈l)->∃c,(qA env l cs).lookup x=some c
 |[],_,h=>by
  rcases h with h |h
  ·exact h
  ·exact absurd h (by simp)
 |(n,k)::r,cs,h=>by
  unfold qA
  apply tU
  rcases h with ⟨c,h⟩ |h
  ·left
   by_cases hk:k=.free
   ·subst hk;simp only[beq_self_eq_true,if_true];rw[zbc];cases hy:x==n with
    |true=>exact⟨_,rfl⟩
    |false=>exact⟨c,h⟩
   ·have hb:(k==NameKind.free)=false:=by simpa using hk
    simp only[hb,zay,if_false];exact⟨c,h⟩
  ·rcases zag.mp h with e |h
   ·injection e with e1 e2
    subst e1;subst e2
    left
    simp only[beq_self_eq_true,if_true];rw[zbc];simp
   ·exact .inr h
theorem mv{scope:Scope}{env:Env}{x:Str}:(relabel scope env).names.lookup x=(scope.names.lookup x).map fun k=>if (k==NameKind.free&&env.scope.kind==.function&&env.kindOf x==some .cell)=true then .cell else k:=by
 unfold relabel;show zbL x (scope.names.map _)=_;generalize scope.names=l
 induction l with
 |nil=>rfl
 |cons p r ih=>
  obtain⟨n,k⟩:=p;rw[zar,zbc (as:=r)];show zbL x ((if (k==NameKind.free&&env.scope.kind==.function&&env.kindOf n==some .cell)=true then (n,NameKind.cell) else (n,k))::_)=_;cases hx:x==n with
  |true=>
   have e:x=n:=by simpa using hx
   subst e;by_cases hc:(k==NameKind.free&&env.scope.kind==.function&&env.kindOf x==some .cell)=true
   ·rw[if_pos hc];simp only[zbc,beq_self_eq_true,zaL];rw[if_pos hc]
   ·rw[if_neg hc];simp only[zbc,beq_self_eq_true,zaL];rw[if_neg hc]
  |false=>
   by_cases hc:(k==NameKind.free&&env.scope.kind==.function&&env.kindOf n==some .cell)=true
   ·rw[if_pos hc];simp only[zbc,hx];exact ih
   ·rw[if_neg hc];simp only[zbc,hx];exact ih
theorem mem_of_lookup{x:Str}{k:NameKind}:∀ {l:List (Str×NameKind)},l.lookup x=some k->(x,k)∈l
 |[],h=>by simp at h
 |(n,j)::r,h=>by
  rw[zbc] at h;cases hx:x==n with
  |true=>
   rw[hx] at h;have e:x=n:=by simpa using hx
   cases h;subst e;exact zav
  |false=>rw[hx] at h;exact zad _ (mem_of_lookup h)
def i5 (sc out:Scope):Bool:=
 (sc.names.all fun p=>p.2 != .cell&&(p.2 != .free ||out.names.lookup p.1==some .cell ||out.names.lookup p.1==some .free)&&(p.2 != .local ||sc.names.lookup p.1==some .local))&&decide (sc.kind=.function)
def sR (sc out:Scope) (N:List Str) (ix:List Nat):Bool:=
 ix.all fun i=>sc.names.lookup (N.getD i "")==some .free&&(out.names.lookup (N.getD i "")==some .cell ||out.names.lookup (N.getD i "")==some .free)
def Fy (σ:St) (ix:List Nat):St:=ix.map fun i=>σ.getD i none
abbrev B4 (N:List Str) (ix:List Nat):List Str:=ix.map fun i=>N.getD i ""
def js (X:Cx) (scope:Scope) (own:List Str) (ix:List Nat) (C:zdm) (s₀:zdw) (H₀:Hp) (ex:List zdm):Cx where
 prog:=X.prog
 w:=X.w
 K:=X.K
 mg:=X.mg
 base:=X.base
 A:=X.A
 N:=own++B4 X.N ix
 s₀:=s₀
 H₀:=H₀
 env:=compEnvC scope (qA X.env scope.names []) C X.env
 outer:=X.stack
 stack:=X.stack
 ex:=ex
 fn:=fun _=>false
 calm:=X.calm
 pn:=[]
 xe:=fun _ _=>False
section
variable{X:Cx}{pins:List (zdm×Obj)}{σ:St}{H:Hp}{s:zdw}
theorem mw{sc out:Scope}(h:i5 sc out=true):∀p∈sc.names,p.2≠.cell/\(p.2=.free->out.names.lookup p.1=some .cell\/out.names.lookup p.1=some .free)/\(p.2=.local->sc.names.lookup p.1=some .local):=by
 intro p hp;unfold i5 at h;rw[za4] at h;have:=List.all_eq_true.mp h.1 p hp;simp only[za4,zcm,bne_iff_ne,beq_iff_eq,ne_eq] at this;obtain⟨⟨h1,h2⟩,h3⟩:=this;refine⟨h1,fun e=>?_,fun e=>?_⟩
 ·rcases h2 with (h2 |h2) |h2
  ·exact absurd e h2
  ·exact .inl h2
  ·exact .inr h2
 ·rcases h3 with h3 |h3
  ·exact absurd e h3
  ·exact h3
theorem k0{sc out:Scope}(h:i5 sc out=true):sc.kind=.function:=by
 unfold i5 at h;rw[za4] at h;exact of_decide_eq_true h.2
theorem Jk{scope:Scope}{own:List Str}{ix:List Nat}{ex:List zdm}(I:Inv X pins σ H s)(hf:i5 scope X.env.scope=true)(hx:∀b∈ex,px X pins H b/\b<s.heap.objs.size):(js X scope own ix s.heap.objs.size s H ex).Ok:=by
 have fits:=(mw hf)
 have mh:∀p∈scope.names,p.2=.free->∃c,X.env.cells.lookup p.1=some c:=fun p hp e=>I.ok.has p.1 ((fits p hp).2.1 e);have sub:∀ {x:Str} {c:zdm},(qA X.env scope.names []).lookup x=some c->X.env.cells.lookup x=some c:=fun {x c} e=>pH mh (fun x c e=>by simp at e) e;refine⟨I.ok.mod,(show scope.kind=.function from k0 hf),I.ok.glob,I.ok.blt,zam _,fun x y c a b=>I.ok.inj x y c (sub a) (sub b),fun x hk=>?_,fun x c e=>(by cases e),I.ok.hd,I.ok.frames,.inl rfl,fun b hb=>⟨zaw (hx b hb).2,fun x c e=>(hx b hb).1.2.2.2.2.1 x c (sub e)⟩,I.bs,zau I.ok.EO I.sz,fun b o e hb=>?_,fun b hb hs=>?_,I.stack,I.BG⟩
 ·refine tU (.inr ?_);have OB:(relabel scope X.env).names.lookup x=some .cell\/(relabel scope X.env).names.lookup x=some .free:=hk;rw[mv] at OB;cases q:scope.names.lookup x with
  |none=>rw[q] at OB;rcases OB with z |z<;>cases z
  |some k=>
   have hm:=mem_of_lookup q;by_cases T5:k=.free
   ·subst T5;exact hm
   ·rw[q] at OB;have hb:(k==NameKind.free)=false:=by simpa using T5
    simp only[zaL,hb,Bool.false_and,zay,if_false,zaH.injEq] at OB;rcases OB with z |z
    ·exact absurd z (fits _ hm).1
    ·exact absurd z T5
 ·rcases(hx b hb).1.2.2.2.1 with z |z
  ·exact I.ok.ER b o e z
  ·exact absurd (zaB (Heap.lt_size e) (zau I.ok.EO z)) (za7 _)
 ·rcases zag.mp (I.wV b hs) with z |z
  ·exact(hx b hb).1.2.1 z
  ·exact(hx b hb).1.2.2.1 z
theorem Fz{scope:Scope}{own:List Str}{ix:List Nat}{ex:List zdm}{h':Heap}{tk:Nat}(I:Inv X pins σ H s)(hf:i5 scope X.env.scope=true)(hc:sR scope X.env.scope X.N ix=true)(hx:∀b∈ex,px X pins H b/\b<s.heap.objs.size)
 (hn:h'.Ns s.heap.objs.size fun _=>none) (hk:∀b o,s.heap.get? b=some o->h'.get? b=some o):Inv (js X scope own ix s.heap.objs.size s H ex) [] (zb8 own.length none++Fy σ ix) H {s with heap:=h',toks:=tk}:=by
 have fits:=(mw hf)
 have mh:∀p∈scope.names,p.2=.free->∃c,X.env.cells.lookup p.1=some c:=fun p hp e=>I.ok.has p.1 ((fits p hp).2.1 e);have sub:∀ {x:Str} {c:zdm},(qA X.env scope.names []).lookup x=some c->X.env.cells.lookup x=some c:=fun {x c} e=>pH mh (fun x c e=>by simp at e) e;refine⟨Jk I hf hx,rfl,I.bare,Un.kept hk,⟨_,hn,fun i x v e1 e2 e3=>?_⟩,fun x c e=>?_,I.da.fresh (zam _),fun x c e=>I.mf x c (sub e),fun p hp=>absurd (show p∈([]:List (zdm×Obj))++[] from hp) (by simp),I.da.kept hk,?_⟩
 ·have e1:(own++B4 X.N ix)[i]?=some x:=e1;by_cases hi:i<own.length
  ·rw[zbJ (by simpa using hi),zcO,if_pos hi] at e2;cases e2
  ·have Qb:own.length<=i:=Nat.le_of_not_lt hi;rw[zbG (by simpa using Qb),zc5] at e2;rw[zbG Qb] at e1;unfold Fy at e2;unfold B4 at e1;rw[zah] at e1 e2;cases q:ix[i-own.length]? with
   |none=>rw[q] at e2;cases e2
   |some j=>
    rw[q] at e1 e2;simp only[zaL,zaH.injEq] at e1 e2;have hj:j∈ix:=zaG q;have fit:=List.all_eq_true.mp hc j hj;simp only[za4,zcm,beq_iff_eq] at fit;rw[e1] at fit;have ej:σ[j]?=some (some v):=by
     rw[zaf] at e2;cases r:σ[j]? with
     |none=>rw[r] at e2;cases e2
     |some z=>rw[r] at e2;simp only[zbO] at e2;rw[e2]
    have Zg:j<X.N.length:=by rw[<- I.len];exact(zal.mp ej).1
    have en:X.N[j]?=some x:=by
     rw[zaf] at e1;rw[zab Zg] at e1 ⊢;simp only[zbO] at e1;rw[e1]
    obtain⟨m,hm,hl⟩:=I.loc;have hv:Sa X.env.scope x:=by
     rcases fit.2 with z |z
     ·exact .inr (.inl z)
     ·exact .inr (.inr z)
    obtain⟨u,r,l⟩:=hl j x v en ej hv;refine⟨u,r,.inr ⟨?_,?_⟩⟩
    ·show (relabel scope X.env).names.lookup x=some .cell\/(relabel scope X.env).names.lookup x=some .free;rw[mv,fit.1];simp only[zaL];split
     ·exact .inl rfl
     ·exact .inr rfl
    ·rcases l with ⟨k1,_⟩ |⟨_,c,ec,BL⟩
     ·have k1:X.env.scope.names.lookup x=some .local:=k1;rcases fit.2 with z |z<;>(rw[z] at k1;cases k1)
     ·obtain⟨c',e'⟩:∃c,(qA X.env scope.names []).lookup x=some c:=tU (.inr (mem_of_lookup fit.1));have:=sub e';rw[ec] at this;cases this;exact⟨c,e',BL.keeps hk⟩
 ·obtain⟨v,z⟩:=I.cell x c (sub e);exact⟨v,z.keeps hk⟩
 ·show (zb8 own.length none++Fy σ ix).length=(own++B4 X.N ix).length;simp[Fy]
theorem comp_back{scope:Scope}{own:List Str}{ix:List Nat}{ex:List zdm}{τ:St}{H':Hp}{s':zdw}{BJ:List (zdm×Obj)}(I:Inv X pins σ H s)(hx:∀b∈ex,px X pins H b/\b<s.heap.objs.size)
 (I':Inv (js X scope own ix s.heap.objs.size s H ex) BJ τ H' s'):Inv X pins σ H' s'/\H' s.heap.objs.size=none/\s.heap.objs.size≠X.env.locals/\X.s₀.heap.objs.size<=s.heap.objs.size/\(∀x c,X.env.cells.lookup x=some c->c≠s.heap.objs.size)/\∀p∈X.pn++pins,p.1≠s.heap.objs.size:=by
 refine⟨I.Pe (ch:=ex) I'.os I'.base I'.da I'.bare fun b hb=>?_,I'.free,zbC I.lt,I.sz,fun x c e z=>?_,fun p hp z=>?_⟩
 ·obtain⟨f0,f1,f2,f3,f4,f5⟩:=(hx b hb).1;exact⟨f3,f1,f4,f5⟩
 ·obtain⟨v,q⟩:=I.cell x c e;exact absurd q.lt (by rw[z];exact za7 _)
 ·exact absurd (Heap.lt_size (I.pin p hp).1) (by rw[z];exact za7 _)
end
def OC (X:Cx) (ifs:List Expr) (t:TT):Prop:=
 ∀(pins:List (zdm×Obj)) (s:zdw) (σ:St) (H:Hp) (Q:Bool->Hp->Prop),Inv X pins σ H s->t σ H Q->
  wpAny (model X.prog X.w) X.A (forIn ifs true fun c r=>if r=true then do let ok <- isTrue c X.env (eval c X.env);pure (ForInStep.yield ok) else pure (ForInStep.yield r)) (TP X pins σ Q) X.xe s
def rZ:TT:=fun _ H Q=>Q true H
theorem gm{X:Cx}:OC X [] rZ:=fun _ _ _ H _ I h=>wpAny_tests_nil ⟨H,I,h⟩
theorem B5{X:Cx}{c:Expr}{t:TT}(h:PT X c t):OC X [c] t:=fun pins s σ H Q I q=>wpAny_tests_one (h pins s σ H Q I q)
def lU (J:It) (D:zdm) (g:TG) (tc:TT) (te:TE) (Q:VK) (τ:St) (H:Hp):Prop:=∃W:Nat->Nat->St->Hp->Prop,(∃m,W 0 m τ H)/\∀i m τ H,W i m τ H->
 (J.stop i H/\Q (.ref D) H)\/(J.go i H/\∃N:St->Hp->Prop,(∀τ' H',N τ' H'->∃m',m'<m/\W (i+1) m' τ' H')/\∀x H',J.wZ i H x H'->g x τ H' fun τ2 H2=>tc τ2 H2 fun b H3=>if b=true then
  te τ2 H3 fun y H4=>∃ys,H4 D=some (.lst ys)/\ys.length<zdu/\N τ2 (upd H4 D (.lst (ys++[y]))) else N τ2 H3)
def iH (wi:TI) (k:Nat) (ix:List Nat) (g:TG) (tc:TT) (te:TE):TE:=fun σ H Q=>wi σ H fun J H1=>∀D,H1 D=none->lU J D g tc te Q (zb8 k none++Fy σ ix) (upd H1 D (.lst []))
section
variable{X:Cx}{tg iter elt:Expr}{ifs:List Expr}{scope:Scope}{pos:Pos}{own:List Str}{ix:List Nat}{wi:TI}{g:TG}{tc:TT}{te:TE}
theorem Dv{it D:zdm}{fp:List zdm}{tn:Nat->Heap->Prop}{J:It}{Q:VK}{R:Result->zdw->Prop}{s:zdw}{τ:St}{H:Hp}(rF:X.calm=true)(Zh:X.xe=fun _ _=>False)(WS:X.pn=[])(T:Turn X.prog X.w X.K tg J fp it tn)
 (he:PE X elt te) (hg:PG X tg g) (ht:OC X ifs tc) (I:Inv X [] τ H s) (WT:∀b∈fp,px X [] H b) (h0:tn 0 s.heap) (hW:lU J D g tc te Q τ H)
 (hR:∀τ' H' s',Inv X [] τ' H' s'->Q (.ref D) H'->R (.ok .next) s') :
 codeAny (model X.prog X.w) X.A (.compLoop (.ListComp elt [⟨tg,iter,ifs,0⟩] scope pos) 0 (.ref it) (.ref D) X.env) R s:=by
 obtain⟨W,⟨m0,w0⟩,turn⟩:=hW;have no:∀ {E:zdn->zdw->Prop} (e:zdn) (s':zdw),X.xe e s'->E e s':=fun e s' z=>by rw[Zh] at z;exact z.elim
 have stat:∀ {H':Hp},(∀b∈fp,H' b=none)->∀b∈fp,px X [] H' b:=fun hn b hb=>⟨hn b hb,(WT b hb).2⟩
 refine codeAny_loop rfl (fun n s'=>∃i τ' H',Inv X [] τ' H' s'/\tn i s'.heap/\(∀b∈fp,H' b=none)/\W i n τ' H') (fun n s3 hI=>?_) m0 ⟨0,τ,H,I,h0,fun b hb=>(WT b hb).1,w0⟩;obtain⟨i,τ3,H3,I3,Lb,Pn,w3⟩:=hI;show wpAny _ X.A ((compTurn (.ListComp elt [⟨tg,iter,ifs,0⟩] scope pos) 0 (.ref it) (.ref D) X.env).onRaise (fun x=>do noteFrame x X.env;theTreesLotGoes x)) _ _ s3;refine wpAny_noted ?_;rw[compTurn_list];refine zdp (wpAny_standAt (zdp ?_));rcases turn i n τ3 H3 w3 with ⟨stop,q⟩ |⟨go,N,hN,step⟩
 ·refine wpAny_mono (T.done X rfl rfl rfl rF i [] s3 τ3 H3 X.xe I3 (stat Pn) Lb stop) (fun r s4 zqz=>?_) no;obtain⟨hr,I4⟩:=zqz;subst hr;exact zdq (hR τ3 H3 s4 I4 q)
 ·refine wpAny_mono (T.item X rfl rfl rfl rF i [] s3 τ3 H3 X.xe I3 (stat Pn) Lb go) (fun r s4 zqz=>?_) no;obtain⟨u,hr,h4⟩:=zqz;subst hr;refine zdp (wpAny_mono h4 (fun _ s5 zqz=>?_) no);obtain⟨x,H5,I5,r5,y5,Mu,Th⟩:=zqz;have Ti:=I5.pinned (stat Th) (T.obj _ _ Mu);refine zdp (wpAny_mono (hg _ s5 τ3 H5 x u _ Ti r5 (step x H5 y5)) (fun _ s6 zqz=>?_) no);obtain⟨τ6,H6,I6,q6⟩:=zqz;refine zdp (wpAny_mono (ht _ s6 τ6 H6 _ I6 q6) (fun b s7 zqz=>?_) no);obtain⟨H7,I7,q7⟩:=zqz;have again:∀ {τ7:St} {H7:Hp} {s7:zdw},Inv X ([]++tH fp s5.heap) τ7 H7 s7->N τ7 H7->∃m,m<n/\∃i σ' H',Inv X [] σ' H' s7/\tn i s7.heap/\(∀b∈fp,H' b=none)/\W i m σ' H':=fun {τ7 H7 s7} I7 n7=>by
   obtain⟨m',hm,w7⟩:=hN τ7 H7 n7;refine⟨m',hm,i+1,τ7,H7,I7.pA,T.keep _ _ _ Mu fun b hb o e=>(I7.pin (b,o) (zaE _ (zaE _ (kX hb e)))).1,fun b hb=>?_,w7⟩;obtain⟨o,e,d⟩:=T.obj _ _ Mu b hb;exact(I7.pin (b,o) (zaE _ (zaE _ (kX hb e)))).2.1
  cases b with
  |false=>exact zdq ⟨rfl,again I7 q7⟩
  |true=>
   refine zdp (zdp (wpAny_mono (he _ s7 τ6 H7 _ I7 q7) (fun v s8 ⟨y,H8,I8,r8,ys,hD,hl,q8⟩=>zdp ?_) no));refine wpAny_mono (eQ _ s8 τ6 H8 (.ref D) [y] (.ref D) [v] (fun _ H'=>N τ6 H') I8 rfl (.cons r8 .nil) ⟨D,ys,y,rfl,rfl,hD,hl,q8⟩) (fun _ s9 zqz=>?_) no;obtain⟨_,H9,I9,_,q9⟩:=zqz;exact zdq (zdq ⟨rfl,again I9 q9⟩)
theorem yP{pins:List (zdm×Obj)}{s:zdw}{σ:St}{H:Hp}{Q:VK}{use:Option (zdn->Sem Unit)}{Q':zdn->zdw->Prop}(rF:X.calm=true)(hf:i5 scope X.env.scope=true)(hc:sR scope X.env.scope X.N ix=true)
 (hi:PI X tg iter wi) (hg:∀C s₀ H₀ ex,PG (js X scope own ix C s₀ H₀ ex) tg g) (ht:∀C s₀ H₀ ex,OC (js X scope own ix C s₀ H₀ ex) ifs tc) (he:∀C s₀ H₀ ex,PE (js X scope own ix C s₀ H₀ ex) elt te)
 (I:Inv X pins σ H s) (h:iH wi own.length ix g tc te σ H Q)
 (hU:∀(D C:zdm) (H':Hp) (s':zdw) (m:Str->Option zdn),Inv X pins σ H' s'->Q (.ref D) H'->s'.heap.Ns C m->H' C=none->C≠X.env.locals->X.s₀.heap.objs.size<=C->(∀x c,X.env.cells.lookup x=some c->c≠C)->(∀p∈X.pn++pins,p.1≠C)->compPost (model X.prog X.w) X.A X.xe use Q' (.ref D) C (.ok .next) s')
 (hs:∀x,foldedSetIterable iter X.env x=pure x) :
 wpAny (model X.prog X.w) X.A (comprehension (.ListComp elt [⟨tg,iter,ifs,0⟩] scope pos) scope X.env (firstIterPos [⟨tg,iter,ifs,0⟩] pos) (newList []) false (eval iter X.env) use) Q' X.xe s:=by
 have fits:=(mw hf)
 have mh:∀p∈scope.names,p.2=.free->∃c,X.env.cells.lookup p.1=some c:=fun p hp e=>I.ok.has p.1 ((fits p hp).2.1 e);refine wpAny_comprehension_free (use:=use) rfl hs (rY mh) (k0 hf) (fun x hx=>(fits x hx).2.2) ?_;refine dw (hi pins s σ H _ I h) fun v s1 h1=>dw h1 fun Tf s2 h2=>?_;obtain⟨it,fp,tn,J,H2,e,I2,T,Oz,f2,hW⟩:=h2;subst e;refine wpAny_newObj_type (hd:=by size_fits) ?_;have hD:H2 s2.heap.objs.size=none:=I2.da.fresh (zam _);have I3:Inv X pins σ (upd H2 s2.heap.objs.size (.lst [])) {s2 with heap:=s2.heap.push {cls:=.type "list",dict:=none,data:=.seq ([]:List zdn).toArray} }:=
  I2.laid (t':=s2.toks) (fun b u e=>Heap.get?_push_of_some _ e) (zam _) ⟨zaM _,[],0,.nil,Heap.get?_push_size _ rfl⟩
 have W3:=hW s2.heap.objs.size hD;have WU:∀b∈fp,b<s2.heap.objs.size:=fun b hb=>let ⟨o,e,_⟩:=T.obj _ _ Oz b hb;Heap.lt_size e;have Qc:∀b∈fp,px X pins (upd H2 s2.heap.objs.size (.lst [])) b/\b<(s2.heap.push {cls:=.type "list",dict:=none,data:=.seq ([]:List zdn).toArray}).objs.size:=fun b hb=>
  ⟨⟨by rw[aE (zaw (WU b hb))];exact(f2 b hb).1,(f2 b hb).2⟩,by rw[Heap.size_push];exact zcB (WU b hb)⟩
 have Lb:tn 0 (s2.heap.push {cls:=.type "list",dict:=none,data:=.seq ([]:List zdn).toArray}):=T.keep _ _ _ Oz fun b _ o e=>Heap.get?_push_of_some _ e;generalize ve:({s2 with heap:=s2.heap.push {cls:=.type "list",dict:=none,data:=.seq ([]:List zdn).toArray} }:zdw)=s3 at I3;generalize hH3:upd H2 s2.heap.objs.size (.lst [])=H3 at I3 W3 Qc;have eh:s2.heap.push {cls:=.type "list",dict:=none,data:=.seq ([]:List zdn).toArray}=s3.heap:=by rw[<- ve]
 rw[eh] at Qc Lb;refine wpAny_newFunctionEnv (fun x hx=>(fits x hx).1) (by intro y hy;simp at hy) (fun h4 Si xk=>?_) (k0 hf);have kept:∀b o,s3.heap.get? b=some o->h4.get? b=some o:=fun b o e=>xk.extBut b o (zaw (Heap.lt_size e)) (Heap.get?_push_of_some _ e);have I4:=Fz (own:=own) (tk:=s3.toks+([]:List (Str×zdn)).length) I3 hf hc Qc Si kept;have Zi:∀b∈fp,px (js X scope own ix s3.heap.objs.size s3 H3 fp) [] H3 b:=fun b hb=>by
  obtain⟨⟨f0,f1,Zj,f3,f4,f5⟩,lt⟩:=Qc b hb;refine⟨f0,zaw lt,fun z=>?_,.inl hb,fun x c e=>f4 x c (pH mh (fun x c e=>by simp at e) e),fun p hp=>absurd (show p∈([]:List (zdm×Obj))++[] from hp) (by simp)⟩;rcases zag.mp (I3.wV b z) with z |z
  ·exact f1 z
  ·exact Zj z
 have WV:tn 0 h4:=T.keep _ _ _ Lb fun b _ o e=>kept b o e;have loop:=Dv (X:=js X scope own ix s3.heap.objs.size s3 H3 fp) (iter:=iter) (scope:=scope) (pos:=pos) (R:=compPost (model X.prog X.w) X.A X.xe use Q' (.ref s2.heap.objs.size) s3.heap.objs.size) rF rfl rfl T (he _ _ _ _) (hg _ _ _ _) (ht _ _ _ _) I4 Zi WV W3
  (fun τ' H' s' I' q=>by
   obtain⟨J1,J2,J3,J4,J5,J6⟩:=comp_back I3 Qc I';obtain⟨m,hm,_⟩:=I'.loc;exact hU _ _ H' s' m J1 q hm J2 J3 J4 J5 J6)
 exact codeAny_compStart_list loop (T.self X.A 0 _ _ _ WV loop)
theorem fI(rF:X.calm=true)(hf:i5 scope X.env.scope=true)(hc:sR scope X.env.scope X.N ix=true)
 (hi:PI X tg iter wi) (hg:∀C s₀ H₀ ex,PG (js X scope own ix C s₀ H₀ ex) tg g) (ht:∀C s₀ H₀ ex,OC (js X scope own ix C s₀ H₀ ex) ifs tc) (he:∀C s₀ H₀ ex,PE (js X scope own ix C s₀ H₀ ex) elt te)
 (hs:∀x,foldedSetIterable iter X.env x=pure x:=by intro _;rfl):PE X (.ListComp elt [⟨tg,iter,ifs,0⟩] scope pos) (iH wi own.length ix g tc te):=by
 intro pins s σ H Q I h;rw[eval_ListComp];refine yP (use:=none) rF hf hc hi hg ht he I h (fun D C H' s' m I' q hm n1 n2 n3 n4 n5=>?_) hs;refine⟨m,hm,fun h' sb=>⟨.ref D,H',?_,rfl,q⟩⟩;exact I'.turned (t':=s'.toks) (it:=C) (fun b o hb e=>sb.extBut b o hb e) n1 (Ne.symm (Ne.symm n2)) (.inr n3) n4 n5
theorem Jl{i:Nat}{y:Str}{py Qd:Pos}(hN:X.N.Nodup)(Zk:X.N[i]?=some y)(hy:Loc X.env.scope y)(rF:X.calm=true)(hf:i5 scope X.env.scope=true)(hc:sR scope X.env.scope X.N ix=true)
 (hi:PI X tg iter wi) (hg:∀C s₀ H₀ ex,PG (js X scope own ix C s₀ H₀ ex) tg g) (ht:∀C s₀ H₀ ex,OC (js X scope own ix C s₀ H₀ ex) ifs tc) (he:∀C s₀ H₀ ex,PE (js X scope own ix C s₀ H₀ ex) elt te)
 (Zl:swapsWith (.ListComp elt [⟨tg,iter,ifs,0⟩] scope pos) (some (.Name y py)) Qd.line X.env=pure true:=by rfl)
 (hs:∀x,foldedSetIterable iter X.env x=pure x:=by intro _;rfl) (Pc:X.fn y=true\/X.env.scope.names.lookup y=some .local:=by first |exact .inl rfl |exact .inr rfl |assumption) :
 PS X (.Assign [.Name y py] (.ListComp elt [⟨tg,iter,ifs,0⟩] scope pos) Qd) (E4 (iH wi own.length ix g tc te) (jn i)):=by
 intro pins s σ H D I h;rw[exec_Assign_Name_used _ _ _ _ Zl];refine zdp (wpAny_standAt (zdp ?_));show wpAny _ _ (do let _ <- comprehension (.ListComp elt [⟨tg,iter,ifs,0⟩] scope pos) scope X.env _ (newList []) false (eval iter X.env) (some (assign (.Name y py) X.env))) _ _ s;refine zdp (wpAny_mono (yP (use:=some (assign (.Name y py) X.env)) (Q':=fun _ s'=>SP X pins D .next s') rF hf hc hi hg ht he I h (fun L C H' s' m I' q hm n1 n2 n3 n4 n5=>?_) hs) (fun _ s' hq=>zdq (zdq hq)) fun _ _ e=>e);show wpAny _ _ (assign (.Name y py) X.env (.ref L)) _ _ _;refine wpAny_assign_Name (vN I' hN Zk hy (v:=.ref L) rfl (fun s2 I2 zqz=>?_) Pc);obtain⟨a,sb,ha⟩:=zqz;have Zm:C≠a:=by
  rcases ha with rfl |ha
  ·exact n2
  ·exact fun z=>n4 y a ha z.symm
 refine⟨m,hm.sameBut sb Zm,fun h' Zn=>⟨_,H',?_,q⟩⟩;exact I2.turned (t':=s2.toks) (it:=C) (fun b o hb e=>Zn.extBut b o hb e) n1 n2 (.inr n3) n4 n5
end
inductive Dp where
 |bO |bl (b:Bool) |int (i:Int) |str (x:Str) |tup (l:List Dp) |lst (l:List Dp)
mutual
def Rep (K:zaa) (H:Hp):Dp->V->Prop
 |.bO,v=>v=.bO
 |.bl b,v=>v=.bl b
 |.int i,v=>v=.int i
 |.str x,v=>v=.str x
 |.tup l,v=>∃a xs,v=.ref a/\bS K H a xs/\aN K H l xs
 |.lst l,v=>∃a xs,v=.ref a/\fF K H a xs/\aN K H l xs
def aN (K:zaa) (H:Hp):List Dp->List V->Prop
 |[],vs=>vs=[]
 |d::ds,vs=>∃v r,vs=v::r/\Rep K H d v/\aN K H ds r
end
mutual
def Dp.deep:Dp->Nat
 |.tup l=>Dp.FC l+1
 |.lst l=>Dp.FC l+1
 |_=>0
def Dp.FC:List Dp->Nat
 |[]=>0
 |d::ds=>max d.deep (Dp.FC ds)
end
theorem ar.bj{K:zaa}{H H':Hp}{a:zdm}{xs:List V}(e:ar H H')(h:bS K H a xs):bS K H' a xs:=by
 rcases h with (h |⟨o,h⟩) |h
 ·exact .inl (.inl (e _ _ h))
 ·exact .inl (.inr ⟨o,e _ _ h⟩)
 ·exact .inr h
mutual
theorem Rep.mono{K:zaa}{H H':Hp}(e:ar H H'):∀ {d:Dp} {v:V},Rep K H d v->Rep K H' d v
 |.bO,_,h=>h
 |.bl _,_,h=>h
 |.int _,_,h=>h
 |.str _,_,h=>h
 |.tup l,_,h=>by
  unfold Rep at h ⊢;obtain⟨a,xs,e1,e2,e3⟩:=h;exact⟨a,xs,e1,e.bj e2,aN.mono e e3⟩
 |.lst l,_,h=>by
  unfold Rep at h ⊢;obtain⟨a,xs,e1,e2,e3⟩:=h;exact⟨a,xs,e1,e.seq e2,aN.mono e e3⟩
theorem aN.mono{K:zaa}{H H':Hp}(e:ar H H'):∀ {ds:List Dp} {vs:List V},aN K H ds vs->aN K H' ds vs
 |[],_,h=>h
 |d::ds,_,h=>by
  unfold aN at h ⊢;obtain⟨v,r,e1,e2,e3⟩:=h;exact⟨v,r,e1,Rep.mono e e2,aN.mono e e3⟩
end
theorem aN.length{K:zaa}{H:Hp}:∀ {ds:List Dp} {vs:List V},aN K H ds vs->vs.length=ds.length
 |[],_,h=>by unfold aN at h;rw[h];rfl
 |d::ds,_,h=>by
  unfold aN at h;obtain⟨v,r,e1,_,e3⟩:=h;rw[e1,zak,zak,aN.length e3]
theorem aN.get{K:zaa}{H:Hp}:∀ {ds:List Dp} {vs:List V} {i:Nat} {d:Dp},aN K H ds vs->ds[i]?=some d->∃v,vs[i]?=some v/\Rep K H d v
 |[],_,_,_,_,e=>by simp at e
 |d::ds,_,0,_,h,e=>by
  unfold aN at h;obtain⟨v,r,e1,e2,e3⟩:=h;simp only[List.getElem?_cons_zero,zaH.injEq] at e;subst e;exact⟨v,by rw[e1];rfl,e2⟩
 |d::ds,_,i+1,d',h,e=>by
  unfold aN at h;obtain⟨v,r,e1,e2,e3⟩:=h;rw[zcP] at e;obtain⟨v',h1,h2⟩:=aN.get e3 e;exact⟨v',by rw[e1,zcP];exact h1,h2⟩
theorem aN.append{K:zaa}{H:Hp}:∀ {ds es:List Dp} {vs us:List V},aN K H ds vs->aN K H es us->aN K H (ds++es) (vs++us)
 |[],_,_,_,h,h'=>by unfold aN at h;rw[h];exact h'
 |d::ds,_,_,_,h,h'=>by
  unfold aN at h;obtain⟨v,r,e1,e2,e3⟩:=h;rw[e1];show aN K H (d::(ds++_)) (v::(r++_));unfold aN;exact⟨v,_,rfl,e2,aN.append e3 h'⟩
theorem aN.nil{K:zaa}{H:Hp}:aN K H [] []:=by unfold aN;rfl
theorem aN.cons{K:zaa}{H:Hp}{d:Dp}{ds:List Dp}{v:V}{vs:List V}(h:Rep K H d v)(h':aN K H ds vs):aN K H (d::ds) (v::vs):=by unfold aN;exact⟨v,vs,rfl,h,h'⟩
theorem Rep.a0{K:zaa}{H:Hp}{l:List Dp}{v:V}:Rep K H (.tup l) v↔∃a xs,v=.ref a/\bS K H a xs/\aN K H l xs:=by unfold Rep;exact Iff.rfl
theorem Rep.bE{K:zaa}{H:Hp}{l:List Dp}{v:V}:Rep K H (.lst l) v↔∃a xs,v=.ref a/\fF K H a xs/\aN K H l xs:=by unfold Rep;exact Iff.rfl
theorem Rep.bg{K:zaa}{H:Hp}{i:Int}{v:V}:Rep K H (.int i) v↔v=.int i:=by unfold Rep;exact Iff.rfl
theorem Rep.br{K:zaa}{H:Hp}{x:Str}{v:V}:Rep K H (.str x) v↔v=.str x:=by unfold Rep;exact Iff.rfl
theorem Rep.oM{K:zaa}{H:Hp}{b:Bool}{v:V}:Rep K H (.bl b) v↔v=.bl b:=by unfold Rep;exact Iff.rfl
theorem Rep.nF{K:zaa}{H:Hp}{v:V}:Rep K H .bO v↔v=.bO:=by unfold Rep;exact Iff.rfl
theorem aN.bu{K:zaa}{H:Hp}{vs:List V}:aN K H [] vs↔vs=[]:=by unfold aN;exact Iff.rfl
theorem aN.aJ{K:zaa}{H:Hp}{d:Dp}{ds:List Dp}{vs:List V}:aN K H (d::ds) vs↔∃v r,vs=v::r/\Rep K H d v/\aN K H ds r:=by conv=>lhs;unfold aN
theorem ar.new{H:Hp}{p:zdm}(h:H p=none)(o:HO):ar H (upd H p o):=fun b u q=>by rw[aE (aH q h)];exact q
section
variable{X:Cx}
def Ll (K:zaa) (b:Bool):R2:=fun x y H Q=>∃d,Rep K H d x/\Rep K H d y/\d.deep<=150/\Q (.bl b) H
end
section
variable{X:Cx}
def Qe (i j:Int):Prop:=i.natAbs<2 ^ 4000/\j.natAbs<2 ^ 4000
theorem bits_le{i:Int}(h:i.natAbs<2 ^ 4000):Builtin.Int.intBits i<=2 ^ 20:=zau (intBits_le h) (by decide)
theorem pI:ql X (binaryOp .Mult) (rI Qe fun i j=>.int (i*j)):=Pp fun _ _ _ _ _ _ _ hc q=>mul_int q (IntMulOk.of_bits (bits_le hc.1) (bits_le hc.2))
end
structure bW(K:zaa)(mg:Str->Option zdn)(x:Str)(st:Stmt)(ps:List Str)(f:zdm)(fd:zdv):Prop where
 F:Iz K x x st f fd
 b:Binds K fd ps []
 m:mg x=some (.ref f)
end L2
namespace L2
open PySem PySem.Spec PyProof.Rows
theorem Qf{g:Int->Int->V}{i j:Int}{H:Hp}{Q:VK}:IX g (.int i) (.int j) H Q↔Q (g i j) H:=⟨fun ⟨_,_,e1,e2,q⟩=>by cases e1;cases e2;exact q,fun q=>⟨_,_,rfl,rfl,q⟩⟩
theorem T7{C:Int->Int->Prop}{g:Int->Int->V}{i j:Int}{H:Hp}{Q:VK}:rI C g (.int i) (.int j) H Q↔C i j/\Q (g i j) H:=⟨fun ⟨_,_,e1,e2,c,q⟩=>by cases e1;cases e2;exact⟨c,q⟩,fun q=>⟨_,_,rfl,rfl,q⟩⟩
theorem FD{a:V}{r:St}{H:Hp}{Q:VK}:(fY 0 (some a::r) H Q)=(Q a H):=rfl
theorem FE{a:Option V}{r:St}{H:Hp}{Q:VK}:(fY 1 (a::r) H Q)=(fY 0 r H Q):=rfl
theorem FF{a:Option V}{r:St}{H:Hp}{Q:VK}:(fY 2 (a::r) H Q)=(fY 1 r H Q):=rfl
theorem FG{a:Option V}{r:St}{H:Hp}{Q:VK}:(fY 3 (a::r) H Q)=(fY 2 r H Q):=rfl
theorem FI{a:Option V}{r:St}{H:Hp}{Q:VK}:(fY 4 (a::r) H Q)=(fY 3 r H Q):=rfl
theorem FJ{a:Option V}{r:St}{H:Hp}{Q:VK}:(fY 5 (a::r) H Q)=(fY 4 r H Q):=rfl
theorem FK{a:Option V}{r:St}{H:Hp}{Q:VK}:(fY 6 (a::r) H Q)=(fY 5 r H Q):=rfl
theorem FL{a:Option V}{r:St}{H:Hp}{Q:VK}:(fY 7 (a::r) H Q)=(fY 6 r H Q):=rfl
theorem FN{a:Option V}{r:St}{H:Hp}{Q:VK}:(fY 8 (a::r) H Q)=(fY 7 r H Q):=rfl
theorem FO{a:Option V}{r:St}{H:Hp}{Q:VK}:(fY 9 (a::r) H Q)=(fY 8 r H Q):=rfl
theorem Qg{v:V}{σ:St}{H:Hp}{Q:VK}:(tC v σ H Q)=(Q v H):=rfl
theorem Lm{r:R2}{ta tb:TE}{σ:St}{H:Hp}{Q:VK}:(Po r ta tb σ H Q)=(ta σ H fun x H1=>tb σ H1 fun y H2=>r x y H2 Q):=rfl
theorem Qh{b:Bool}{p:Bool->Prop}:(∃k,V.bl b=.bl k/\p k)↔p b:=⟨fun ⟨_,e,q⟩=>by cases e;exact q,fun q=>⟨_,rfl,q⟩⟩
theorem MW{b:Int}{p:Int->Prop}:(∃k,V.int b=.int k/\p k)↔p b:=⟨fun ⟨_,e,q⟩=>by cases e;exact q,fun q=>⟨_,rfl,q⟩⟩
theorem MY{b:zdm}{p:zdm->Prop}:(∃k,V.ref b=.ref k/\p k)↔p b:=⟨fun ⟨_,e,q⟩=>by cases e;exact q,fun q=>⟨_,rfl,q⟩⟩
theorem B6{t:TE}{σ:St}{H:Hp}{Q:Bool->Hp->Prop}:(BU t σ H Q)=(t σ H fun x H'=>∃k,x=.bl k/\Q k H'):=rfl
theorem Ln{x y:V}{H:Hp}{Q:VK}:(WJ x y H Q)=(Df x y=true/\Q (.bl (decide (x=y))) H):=rfl
theorem Lo{x y:V}{H:Hp}{Q:VK}:(WK x y H Q)=(Df x y=true/\Q (.bl (!decide (x=y))) H):=rfl
theorem MZ{i j:Int}:(V.int i=V.int j)=(i=j):=by simp
theorem M0{i j:Str}:(V.str i=V.str j)=(i=j):=by simp
theorem Jm{c:Prop}[Decidable c]{A B:Prop}:(if decide c=true then A else B)↔if c then A else B:=by simp
theorem FP{c:Prop}[Decidable c]{A B:Prop}:(if (!decide c)=true then A else B)↔if c then B else A:=by by_cases h:c<;>simp[h]
theorem aG{K:zaa}{p:zdm}{i:Int}{H:Hp}{Q:VK}{xs:List V}{v:V}(h:bS K H p xs)(hv:vd xs i=some v)(q:Q v H):w9 K (.ref p) (.int i) H Q:=⟨p,xs,i,v,rfl,rfl,h,hv,q⟩
theorem cT{K:zaa}{p:zdm}{i:Int}{H:Hp}{Q:VK}{xs:List V}{v:V}(h:fF K H p xs)(hv:vd xs i=some v)(q:Q v H):MG K (.ref p) (.int i) H Q:=⟨p,xs,i,v,rfl,rfl,h,hv,q⟩
section
variable{P:zdy}{w:zdo}{K:zaa}{mg:Str->Option zdn}{base:Heap}
theorem Iz.j4{x qual:Str}{st:Stmt}{f:zdm}{fd:zdv}{N ps:List Str}{k:Nat}{sp:Sp}(F:Iz K x qual st f fd)(S:bc N ps (aM st))(len:∀vs H Q E,sp vs H Q E->vs.length=ps.length)
 (yH:∀(eK:zdn) (A:zdx) (outer:List Env) (s:zdw) (H:Hp) (vs:List V) (Q:VK) (E:XK),hZ k (A.deeper (envOfC qual (aM st) s.heap.objs.size f eK))->sp vs H Q E->
  ∃t σ,BK (vo eS P w K mg base N qual (aM st) f eK A outer s H E).Ph (ip st) t/\L2.start N vs=σ/\t {nx:=fun _ H'=>Q .bO H',rt:=Q} σ H):bB P w K mg base eS (k+1) f fd ps sp:=
 F.ok S len fun eK A outer s H vs Q E hr h=>let ⟨t,_,h1,h2,h3⟩:=yH eK A outer s H vs Q E hr h;⟨t,h1,by rw[h2];exact h3⟩
end
theorem B7{sp:Sp}{vS:List V}{E:XK}{t:TA}{σ:St}{H:Hp}{Q:VK}:(Ld sp vS E t σ H Q)=(t σ H fun vs H1=>sp (vs++vS) H1 Q E):=rfl
theorem B8{ta:TE}{tr:TA}{σ:St}{H:Hp}{Q:List V->Hp->Prop}:(BX ta tr σ H Q)=(ta σ H fun x H1=>tr σ H1 fun xs H2=>Q (x::xs) H2):=rfl
theorem FQ{σ:St}{H:Hp}{Q:List V->Hp->Prop}:(Mz σ H Q)=(Q [] H):=rfl
theorem FR{t:TA}{σ:St}{H:Hp}{Q:VK}:(MA t σ H Q)=(t σ H fun xs H1=>xs.length<=zdu/\∀p,H1 p=none->Q (.ref p) (upd H1 p (.tup xs))):=rfl
theorem FT{t:TA}{σ:St}{H:Hp}{Q:VK}:(PB t σ H Q)=(t σ H fun xs H1=>xs.length<=zdu/\∀p,H1 p=none->Q (.ref p) (upd H1 p (.lst xs))):=rfl
theorem Jn{n:Nat}(h:n<=1000):n<=zdu:=zbX (Dr h)
theorem ar.T8{H H1:Hp}(s:ar H H1){p:zdm}(h:H1 p=none)(o:HO):ar H (upd H1 p o):=s.trans (ar.new h o)
theorem Rep.new{K:zaa}{H:Hp}{p:zdm}{vs:List V}{ds:List Dp}(h:H p=none)(r:aN K H ds vs):Rep K (upd H p (.tup vs)) (.tup ds) (.ref p):=Rep.a0.mpr ⟨p,vs,rfl,.of aq,r.mono (ar.new h _)⟩
theorem Jo{i j:Int}:Df (.int i) (.int j)=true:=rfl
theorem Jp{i j:Str}:Df (.str i) (.str j)=true:=rfl
theorem Jq{n:Nat}(h:n<=1000):(n<=zdu)=True:=eq_true (Jn h)
theorem FU{i j:Int}:(Pr i j)=(0<j/\j<1073741824):=rfl
theorem FV{CX:AH}{P:zdy}{w:zdo}{K:zaa}{mg:Str->Option zdn}{base:Heap}{N:List Str}{qual:Str}{scope:Scope}{f:zdm}{cd:zdn}{A:zdx}{outer:List Env}{s:zdw}{H:Hp}{E:XK}:(vo CX P w K mg base N qual scope f cd A outer s H E).K=K:=rfl
theorem B9{X:Cx}{scope:Scope}{own:List Str}{ix:List Nat}{C:zdm}{s₀:zdw}{H₀:Hp}{ex:List zdm}:(js X scope own ix C s₀ H₀ ex).K=X.K:=rfl
theorem mulR{z b:Int}(h1 : -18446744073709551616<b)(h2:b<18446744073709551616):IZ z b:=.inr ⟨h1,h2⟩
theorem nG{x:Str}{pos:Pos}:pE (.Name x pos):=fun _ _=>rfl
theorem ag{c:Const}{k:Nat}{pos:Pos}:pE (.Constant c k pos):=fun _ _=>rfl
theorem iu{f:Expr}{as:List Expr}{ks:List Keyword}{pos:Pos}:pE (.Call f as ks pos):=fun _ _=>rfl
theorem Ca{a:Expr}{op:UnaryOp}{pos:Pos}:pE (.UnaryOp op a pos):=fun _ _=>rfl
theorem gB{a b:Expr}{op:Operator}{pos:Pos}{es:List Expr}{env:Env}:zds (.BinOp a op b pos::es) env=(false,eval (.BinOp a op b pos) env)::zds es env:=rfl
theorem ah{x:Str}{pos:Pos}{es:List Expr}{env:Env}:zds (.Name x pos::es) env=(false,eval (.Name x pos) env)::zds es env:=rfl
theorem bf{c:Const}{k:Nat}{pos:Pos}{es:List Expr}{env:Env}:zds (.Constant c k pos::es) env=(false,eval (.Constant c k pos) env)::zds es env:=rfl
theorem aL{a b:Expr}{pos:Pos}{es:List Expr}{env:Env}:zds (.Subscript a b pos::es) env=(false,eval (.Subscript a b pos) env)::zds es env:=rfl
theorem aY{f:Expr}{as:List Expr}{ks:List Keyword}{pos:Pos}{es:List Expr}{env:Env}:zds (.Call f as ks pos::es) env=(false,eval (.Call f as ks pos) env)::zds es env:=rfl
theorem Jr{a:Expr}{x:Str}{pos:Pos}{es:List Expr}{env:Env}:zds (.Attribute a x pos::es) env=(false,eval (.Attribute a x pos) env)::zds es env:=rfl
theorem xl{as:List Expr}{pos:Pos}{es:List Expr}{env:Env}:zds (.List as pos::es) env=(false,eval (.List as pos) env)::zds es env:=rfl
theorem oN{as:List Expr}{k}{pos:Pos}{es:List Expr}{env:Env}:zds (.Tuple as k pos::es) env=(false,eval (.Tuple as k pos) env)::zds es env:=rfl
theorem FW{a:Expr}{ops:List CmpOp}{cs:List Expr}{pos:Pos}{es:List Expr}{env:Env}:zds (.Compare a ops cs pos::es) env=(false,eval (.Compare a ops cs pos) env)::zds es env:=rfl
theorem iw{a:Expr}{gs:List Comprehension}{sc:Scope}{pos:Pos}{es:List Expr}{env:Env}:zds (.ListComp a gs sc pos::es) env=(false,eval (.ListComp a gs sc pos) env)::zds es env:=rfl
def FX:Expr->Option V
 |.Constant (.int i) _ _=>some (.int i)
 |.Constant (.str x) _ _=>some (.str x)
 |.Constant (.bool b) _ _=>some (.bl b)
 |.Constant .none _ _=>some .bO
 |_=>none
def FY (vs:List V):TA:=fun _ H Q=>Q vs H
theorem eT{X:Cx}:∀ {es:List Expr} {vs:List V},es.map FX=vs.map some->PA X es (FY vs)
 |[],[],_=>aj
 |[],_::_,h=>by cases h
 |_::_,[],h=>by cases h
 |e::es,v::vs,h=>by
  rw[zar,zar] at h
  injection h with h1 h2
  have ih:=eT (X:=X) h2;have one:∀ {e:Expr} {v:V},PE X e (tC v)->(zds (e::es) X.env=(false,eval e X.env)::zds es X.env)->PA X (e::es) (FY (v::vs)):=fun he hs pos pins s σ H Q I q=>ae he ih hs pos pins s σ H Q I q;unfold FX at h1;split at h1
  ·cases h1;exact one ai bf
  ·cases h1;exact one bw bf
  ·cases h1;exact one rz bf
  ·cases h1;exact one gA bf
  ·cases h1
theorem Cb{vs:List V}{σ:St}{H:Hp}{Q:List V->Hp->Prop}:(FY vs σ H Q)=(Q vs H):=rfl
theorem Cc{td ty:TE}{σ:St}{H:Hp}{Q:VK}:(Li td ty σ H Q)=(td σ H fun x H1=>ty σ H1 fun y H2=>∃a v,x=.ref a/\ia H2 a y (some v)/\Q v H2):=rfl
theorem yQ{σ:St}{H:Hp}{Q:VK}:(MT σ H Q)=(∀p,H p=none->Q (.ref p) (upd H p (.dK []))):=rfl
theorem Cd{td ty tv:TE}{D:Ends}{σ:St}{H:Hp}:(Lj td ty tv D σ H)=(tv σ H fun v H1=>td σ H1 fun x H2=>ty σ H2 fun y H3=>∃a H4,x=.ref a/\vq H3 a y v H4/\D.nx σ H4):=rfl
theorem Lp{r:List V->Hp->VK->Prop}{t:TA}{σ:St}{H:Hp}{Q:VK}:(Tu r t σ H Q)=(t σ H fun vs H1=>r vs H1 Q):=rfl
theorem Qi{t:TE}{σ:St}{H:Hp}{Q:Bool->Hp->Prop}:(tB t σ H Q)=(t σ H fun x H1=>∃c,x=.bl c/\Q c H1):=rfl
theorem FZ{t:TT}{σ:St}{H:Hp}{Q:Bool->Hp->Prop}:(Pf t σ H Q)=(t σ H fun c H1=>Q (!c) H1):=rfl
theorem ia.s{H:Hp}{a:zdm}{kvs:List (Key×V)}{x:Str}{v:V}(e:H a=some (.dK kvs))(h:cB kvs (Sum.inr x)=some v):ia H a (.str x) (some v):=by
 have:=ia.k (k:=Sum.inr x) e;rw[h] at this;exact this
end L2
namespace PM
abbrev W:=List Nat
inductive Tr where
 |num (n:Int) |box (x:W) |bin (o:W) (l r:Tr)
 deriving DecidableEq
def isLetter (c:Nat):Bool:=decide (97<=c)&&decide (c<=122)
def yR (c:Nat):Bool:=decide (48<=c)&&decide (c<=57)
def kind (c:Nat):Nat:=if isLetter c then 0 else if yR c then 1 else 2
def fc (st:List W×Nat) (c:Nat):List W×Nat:=
 if kind c≠2/\kind c=st.2 then (st.1.dropLast++[st.1.getLastD []++[c]],kind c) else (st.1++[[c]],kind c)
def F0 (w:W):List W×Nat:=w.foldl fc ([],3)
def pieces (w:W):List W:=(F0 w).1
def Js:List W:=[[98,111,120],[97,115,107],[112,117,116],[115,97,121],[105,102],[101,108,115,101],[119,104,105,108,101],[109,117,115,116],[115,116,111,112],[101,110,100]]
def isName (p:W):Bool:=decide (1<=p.length)&&decide (p.length<=8)&&p.all isLetter && !Js.contains p
def isNumber (p:W):Bool:=decide (1<=p.length)&&decide (p.length<=3)&&p.all yR&&(decide (p=[48]) || !decide (p.head?=some 48))
def xm (p:W):Int:=p.foldl (fun (a:Int) (c:Nat)=>a*10+((c:Int)-48)) 0
abbrev P:=List W->Option (Tr×List W)
def Ce (sub:P):P
 |[]=>none
 |p::r=>if isNumber p then some (.num (xm p),r) else if isName p then some (.box p,r) else if p=[40] then
  (match sub r with
  |some (e,q::r')=>if q=[41] then some (e,r') else none
  |_=>none) else none
theorem AQ(sub:P)(p:W)(r:List W):Ce sub (p::r)=if isNumber p then some (.num (xm p),r) else if isName p then some (.box p,r) else if p=[40] then
 (match sub r with
 |some (e,q::r')=>if q=[41] then some (e,r') else none
 |_=>none) else none:=rfl
def yS (ops:List W) (f:P):Nat->Tr->List W->Option (Tr×List W)
 |0,e,ps=>some (e,ps)
 |_+1,e,[]=>some (e,[])
 |k+1,e,p::r=>if p∈ops then (match f r with
  |none=>none
  |some (e2,r')=>yS ops f k (.bin p e e2) r') else some (e,p::r)
def we (f:P):P:=fun ps=>match f ps with
 |none=>none
 |some (e,r)=>yS [[42]] f r.length e r
def M3 (f:P):P:=fun ps=>match we f ps with
 |none=>none
 |some (e,r)=>yS [[43],[45]] (we f) r.length e r
def factor:Nat->P
 |0=>Ce fun _=>none
 |n+1=>Ce (M3 (factor n))
def loop (ops:List W) (f:P) (e:Tr) (ps:List W):Option (Tr×List W):=yS ops f ps.length e ps
theorem Dw{ops:List W}{f:P}{e:Tr}{p:W}{r:List W}(h:p ∉ ops):loop ops f e (p::r)=some (e,p::r):=by
 unfold loop;rw[zak];unfold yS;rw[if_neg h]
theorem Jt(f:P)(ps:List W):M3 f ps=match we f ps with
 |none=>none
 |some (e,r)=>loop [[43],[45]] (we f) e r:=rfl
def Zo (p:W):Bool:=isNumber p ||isName p
def M4:List W:=[[43],[45],[42]]
def step (p:W):Nat×Bool->Option (Nat×Bool)
 |(d,true)=>if p=[40] then (if d+1>5 then none else some (d+1,true)) else if Zo p then some (d,false) else none
 |(d,false)=>if p=[41] then (if d=0 then none else some (d-1,false)) else if p∈M4 then some (d,true) else none
def yg (_:List W):Prop:=True
def WW (r:List W):Prop:=r=[]\/∃q t,r=q::t/\q≠[42]
def RF (n:Nat) (t:Tr) (L:List W):Prop:=∀rest,factor n (L++rest)=some (t,rest)
def RP (n:Nat) (t:Tr) (L:List W):Prop:=∀rest,we (factor n) (L++rest)=loop [[42]] (factor n) t rest
def RS (n:Nat) (t:Tr) (L:List W):Prop:=∀rest,WW rest->M3 (factor n) (L++rest)=loop [[43],[45]] (we (factor n)) t rest
theorem Ju{n:Nat}{t:Tr}{rest:List W}(h:WW rest):loop [[42]] (factor n) t rest=some (t,rest):=by
 rcases h with rfl |⟨q,r,rfl,hq⟩
 ·rfl
 ·exact Dw (by simpa using hq)
theorem RP.s{n:Nat}{t:Tr}{L:List W}(h:RP n t L):RS n t L:=fun rest hn=>by rw[Jt,h rest,Ju hn]
theorem yT(n:Nat)(p:W)(r:List W)(h:isNumber p=true\/isName p=true):factor n (p::r)=if isNumber p then some (.num (xm p),r) else some (.box p,r):=by
 have key:∀sub:P,Ce sub (p::r)=if isNumber p then some (.num (xm p),r) else some (.box p,r):=fun sub=>by
  rw[AQ];by_cases h1:isNumber p=true
  ·rw[if_pos h1,if_pos h1]
  ·rw[if_neg h1,if_neg h1,if_pos (h.resolve_left h1)]
 cases n with
 |zero=>exact key _
 |succ n=>exact key _
theorem RF.box{n:Nat}{p:W}(h:isName p=true)(h':isNumber p=false):RF n (.box p) [p]:=fun rest=>by
 show factor n (p::rest)=_;rw[yT n p rest (.inr h),if_neg (by rw[h'];simp)]
def put (b:Bool) (w:W):W:=if b then [40]++w++[41] else w
def T9 (w:W):Prop:=∀c∈w,c≠43/\c≠45/\c≠42
end PM
namespace L2
open PySem PySem.Spec PyProof.Rows
section
variable{P:zdy}{w:zdo}{H H':Hp}{h h' B:Heap}{a:zdm}{o:HO}
theorem dP.there(x:dP P w H h a o):∃ob,h.get? a=some ob:=by
 induction o with
 |lst xs=>obtain⟨_,_,_,_,e⟩:=x;exact⟨_,e⟩
 |tup xs=>obtain⟨_,_,_,_,e,_⟩:=x;exact⟨_,e⟩
 |dK kvs=>obtain⟨_,_,_,_,o,_,_,e,_⟩:=x;exact⟨_,e⟩
 |dT kvs=>obtain⟨_,_,_,_,o,_,_,e,_⟩:=x;exact⟨_,e⟩
 |set S n=>obtain⟨o,_,_,_,e,_⟩:=x;exact⟨_,e⟩
 |ins C dx fs=>obtain⟨_,_,_,e,_⟩:=x;exact⟨_,e⟩
 |own y=>exact x
 |xd fs=>obtain⟨_,⟨_,_,_,e,_⟩,_⟩:=x;exact⟨_,e⟩
 |R7 lo hi=>obtain⟨_,_,_,e⟩:=x;exact⟨_,e⟩
 |EM ob u=>obtain⟨e,_⟩:=x;exact⟨_,e⟩
 |Iq ps=>exact⟨_,(show h.get? a=some _ from x)⟩
 |met f y=>exact⟨_,(show h.get? a=some _ from x)⟩
 |ext φ=>obtain⟨_,e,_⟩:=x;exact e
end
section
variable{X:Cx}{pins:List (zdm×Obj)}{σ:St}{H:Hp}{s:zdw}{x:zdm}
theorem Inv.told{o:HO}(I:Inv X pins σ H s)(n:H x=none)(h0:X.s₀.heap.objs.size<=x)(hL:x≠X.env.locals)(hc:∀y c,X.env.cells.lookup y=some c->c≠x)(hp:∀p∈X.pn++pins,p.1≠x)(ok:dP X.prog X.w (upd H x o) s.heap x o):Inv X pins σ (upd H x o) s:=by
 have nx:∀b u,X.s₀.heap.get? b=some u->b≠x:=fun b u e=>zaw (zaB (Heap.lt_size e) h0);refine⟨I.ok,I.os,I.bare,⟨I.base.keep,I.base.slot,fun b u e n' hx=>?_,I.base.there,fun b xs e=>?_,fun b ob u e=>?_,fun b ps e=>?_⟩,I.loc,I.cell,?_,fun y c e=>?_,fun p OA=>?_,fun b u e=>?_,I.len⟩
 ·rw[aE (nx b u e)];exact I.base.free b u e n' hx
 ·have:=I.base.qm b xs e;rw[aE (aH this n)];exact this
 ·have:=I.base.pk b ob u e;rw[aE (aH this n)];exact this
 ·obtain⟨m,e1⟩:=I.base.qo b ps e;exact⟨m,by rw[aE (aH e1 n)];exact e1⟩
 ·rw[aE (Ne.symm hL)];exact I.free
 ·rw[aE (hc y c e)];exact I.mf y c e
 ·obtain⟨a,b,c⟩:=I.pin p OA;exact⟨a,by rw[aE (hp p OA)];exact b,c⟩
 ·by_cases hb:b=x
  ·subst hb;rw[aq] at e;cases e;exact ok
  ·rw[aE hb] at e;exact(I.da b u e).yo (fun _ _ _ q=>q) (fun c q=>by rw[aE (aH q n)];exact q) fun c xs q=>by rw[aE (aH q n)];exact q
end
def Zp (z:Str):It:=⟨fun i _=>i<z.cps.size,fun i H x H'=>H'=H/\∃c,z.cps[i]?=some c/\x=.str ⟨#[c]⟩,fun i _=>z.cps.size<=i⟩
section
variable{X:Cx}{tg:Expr}
def Qj (tl:TE):TI:=fun σ H R=>tl σ H fun x H1=>∃z,x=.str z/\R (Zp z) H1
end
abbrev W:=PM.W
def S (w:W):Str:=⟨w.toArray⟩
def sv (w:W):V:=.str (S w)
theorem kz{a b:W}:S a=S b↔a=b:=⟨fun h=>by have:=congrArg (fun z:Str=>z.cps.toList) h;simpa[S] using this,fun h=>by rw[h]⟩
def jN:PM.Tr->Dp
 |.num n=>.tup [.str "number",.int n]
 |.box x=>.tup [.str "box",.str (S x)]
 |.bin o l r=>.tup [.str (S o),jN l,jN r]
def aZ (p:zdm) (H H':Hp):Prop:=∀b o,b≠p->H b=some o->H' b=some o
theorem aZ.refl(p:zdm)(H:Hp):aZ p H H:=fun _ _ _ h=>h
theorem aZ.trans{p:zdm}{H H1 H2:Hp}(a:aZ p H H1)(b:aZ p H1 H2):aZ p H H2:=fun c o n h=>b c o n (a c o n h)
theorem aZ.of{p:zdm}{H H':Hp}(s:ar H H'):aZ p H H':=fun b o _ h=>s b o h
theorem aZ.put{p:zdm}{H H1:Hp}(a:aZ p H H1)(o:HO):aZ p H (upd H1 p o):=fun b u n h=>by rw[aE n];exact a b u n h
theorem aZ.new{p q:zdm}{H H1:Hp}(a:aZ p H H1)(h:H1 q=none)(o:HO):aZ p H (upd H1 q o):=fun b u n e=>by rw[aE (aH (a b u n e) h)];exact a b u n e
theorem aZ.same{p:zdm}{H H':Hp}(a:aZ p H H')(h:H p=none):ar H H':=fun b o e=>a b o (aH e h) e
structure WX(CP:zdm)(H:Hp)(p l dx:zdm)(ps:List W)(k:Nat):Prop where
 ins:H p=some (.ins CP dx [("pieces",.ref l),("place",.int k)])
 own:H dx=some (.own p)
 lst:H l=some (.lst (ps.map sv))
 le:k<=ps.length
 pos:∀q∈ps,q≠[]
 len:∀q∈ps,q.length<=60
 many:ps.length<=60
theorem WX.nd{CP p l dx:zdm}{H:Hp}{ps:List W}{k:Nat}(o:WX CP H p l dx ps k):dx≠p:=bP o.own o.ins (by intro z;cases z)
theorem Rep.gC{K:zaa}{H H':Hp}{p C dx:zdm}{fs:List (Str×V)}(hp:H p=some (.ins C dx fs))(u:aZ p H H'):(∀(d:Dp) (v:V),Rep K H d v->Rep K H' d v)/\∀(ds:List Dp) (vs:List V),aN K H ds vs->aN K H' ds vs:=by
 have st:∀a xs,bS K H a xs->bS K H' a xs:=fun a xs h=>by
  rcases h with (h |⟨o,h⟩) |h
  ·exact .inl (.inl (u _ _ (bP h hp (by intro z;cases z)) h))
  ·exact .inl (.inr ⟨o,u _ _ (bP h hp (by intro z;cases z)) h⟩)
  ·exact .inr h
 have sl:∀a xs,fF K H a xs->fF K H' a xs:=fun a xs h=>by
  rcases h with (h |⟨o,h⟩) |h
  ·exact .inl (.inl (u _ _ (bP h hp (by intro z;cases z)) h))
  ·exact .inl (.inr ⟨o,u _ _ (bP h hp (by intro z;cases z)) h⟩)
  ·exact .inr h
 refine⟨fun d=>?_,fun ds=>?_⟩
 ·exact Dp.rec (motive_1:=fun d=>∀v,Rep K H d v->Rep K H' d v) (motive_2:=fun ds=>∀vs,aN K H ds vs->aN K H' ds vs)
   (fun v h=>by rw[Rep.nF] at h ⊢;exact h) (fun b v h=>by rw[Rep.oM] at h ⊢;exact h) (fun i v h=>by rw[Rep.bg] at h ⊢;exact h) (fun x v h=>by rw[Rep.br] at h ⊢;exact h)
   (fun l ih v h=>by rw[Rep.a0] at h ⊢;obtain⟨a,xs,e,q,r⟩:=h;exact⟨a,xs,e,st a xs q,ih xs r⟩)
   (fun l ih v h=>by rw[Rep.bE] at h ⊢;obtain⟨a,xs,e,q,r⟩:=h;exact⟨a,xs,e,sl a xs q,ih xs r⟩)
   (fun vs h=>by rw[aN.bu] at h ⊢;exact h)
   (fun d ds i1 i2 vs h=>by rw[aN.aJ] at h ⊢;obtain⟨v,r,e,x,y⟩:=h;exact⟨v,r,e,i1 v x,i2 r y⟩) d
 ·exact Dp.rec_1 (motive_1:=fun d=>∀v,Rep K H d v->Rep K H' d v) (motive_2:=fun ds=>∀vs,aN K H ds vs->aN K H' ds vs)
   (fun v h=>by rw[Rep.nF] at h ⊢;exact h) (fun b v h=>by rw[Rep.oM] at h ⊢;exact h) (fun i v h=>by rw[Rep.bg] at h ⊢;exact h) (fun x v h=>by rw[Rep.br] at h ⊢;exact h)
   (fun l ih v h=>by rw[Rep.a0] at h ⊢;obtain⟨a,xs,e,q,r⟩:=h;exact⟨a,xs,e,st a xs q,ih xs r⟩)
   (fun l ih v h=>by rw[Rep.bE] at h ⊢;obtain⟨a,xs,e,q,r⟩:=h;exact⟨a,xs,e,sl a xs q,ih xs r⟩)
   (fun vs h=>by rw[aN.bu] at h ⊢;exact h)
   (fun d ds i1 i2 vs h=>by rw[aN.aJ] at h ⊢;obtain⟨v,r,e,x,y⟩:=h;exact⟨v,r,e,i1 v x,i2 r y⟩) ds
mutual
def Dp.py:Dp->PyData
 |.bO=>.none
 |.bl b=>.bool b
 |.int i=>.int i
 |.str x=>.str x
 |.tup l=>.tuple (Dp.sS l)
 |.lst l=>.list (Dp.sS l)
def Dp.sS:List Dp->List PyData
 |[]=>[]
 |d::r=>d.py::Dp.sS r
end
section
variable{X:Cx}{pins:List (zdm×Obj)}{σ:St}{H:Hp}{s:zdw}
mutual
theorem mx(I:Inv X pins σ H s):∀ {d:Dp} {v:V} {u:zdn},Rep X.K H d v->RelV v u->∃as,Reads s.heap u d.py as
 |.bO,v,u,h,r=>by rw[Rep.nF] at h;subst h;cases (show u=Value.none from r);exact⟨_,.none⟩
 |.bl b,v,u,h,r=>by rw[Rep.oM] at h;subst h;cases (show u=Value.bool b from r);exact⟨_,.bool b⟩
 |.int i,v,u,h,r=>by rw[Rep.bg] at h;subst h;obtain⟨t,rfl⟩:=(show ∃t,u=Value.int i t from r);exact⟨_,.int i t⟩
 |.str x,v,u,h,r=>by rw[Rep.br] at h;subst h;obtain⟨t,rfl⟩:=(show ∃t,u=Value.str x t from r);exact⟨_,.str x t⟩
 |.tup l,v,u,h,r=>by
  rw[Rep.a0] at h;obtain⟨p,xs,rfl,q,w⟩:=h;cases (show u=Value.ref p from r);obtain⟨bq,v1,t1,_⟩:=I.tuple q;obtain⟨as,ra⟩:=qB I w v1;obtain⟨o,h1,h2,n,h3⟩:=t1;unfold Dp.py;exact⟨as,.tuple h1 h2 h3 (by simpa using ra)⟩
 |.lst l,v,u,h,r=>by
  rw[Rep.bE] at h;obtain⟨p,xs,rfl,q,w⟩:=h;cases (show u=Value.ref p from r);obtain⟨bq,v1,t1,_⟩:=I.list q;obtain⟨as,ra⟩:=qB I w v1;obtain⟨o,h1,h2,n,h3⟩:=t1.isList;unfold Dp.py;exact⟨_,.list h1 h2 h3 (by simpa using ra)⟩
theorem qB(I:Inv X pins σ H s):∀ {ds:List Dp} {vs:List V} {us:List zdn},aN X.K H ds vs->Vals vs us->∃as,ReadsAll s.heap us (Dp.sS ds) as
 |[],_,_,h,r=>by rw[aN.bu] at h;subst h;cases r;unfold Dp.sS;exact⟨_,.nil⟩
 |d::ds,_,_,h,r=>by
  rw[aN.aJ] at h;obtain⟨v,vs,rfl,x,y⟩:=h;cases r with
  |cons r1 r2=>
   obtain⟨a,ra⟩:=mx I x r1;obtain⟨b,rb⟩:=qB I y r2;unfold Dp.sS;exact⟨_,.cons ra rb⟩
end
end
section
variable{X:Cx}
def Qk (K:zaa) (neg:Bool):R2:=fun x y H Q=>∃d e,Rep K H d x/\Rep K H e y/\SeqAt.shaped d.py=true/\SeqAt.shaped e.py=true/\Q (.bl (if neg then !PyData.eqv d.py e.py else PyData.eqv d.py e.py)) H
theorem M5(hu:X.A.units+64<cLine):ql X (compareOp .Eq) (Qk X.K false):=by
 intro pins s σ H x y v u Q I rx ry h;obtain⟨d,e,h1,h2,s1,s2,q⟩:=h;obtain⟨as,ra⟩:=mx I h1 rx;obtain⟨bs,rb⟩:=mx I h2 ry;exact eq_dataH ra rb s1 s2 hu ⟨.bl (PyData.eqv d.py e.py),H,I,rfl,q⟩
theorem M6(hu:X.A.units+64<cLine):ql X (compareOp .NotEq) (Qk X.K true):=by
 intro pins s σ H x y v u Q I rx ry h;obtain⟨d,e,h1,h2,s1,s2,q⟩:=h;obtain⟨as,ra⟩:=mx I h1 rx;obtain⟨bs,rb⟩:=mx I h2 ry;exact ne_dataH ra rb s1 s2 hu ⟨.bl (!PyData.eqv d.py e.py),H,I,rfl,q⟩
end
mutual
theorem eqv_refl:∀d:Dp,PyData.eqv d.py d.py=true
 |.bO=>rfl
 |.bl b=>by simp[Dp.py,PyData.eqv]
 |.int i=>by simp[Dp.py,PyData.eqv]
 |.str x=>by simp[Dp.py,PyData.eqv]
 |.tup l=>by simp only[Dp.py,PyData.eqv];exact qC l
 |.lst l=>by simp only[Dp.py,PyData.eqv];exact qC l
theorem qC:∀l:List Dp,PyData.eqvAll (Dp.sS l) (Dp.sS l)=true
 |[]=>rfl
 |d::r=>by simp only[Dp.sS,PyData.eqvAll,eqv_refl d,qC r,Bool.and_true]
end
theorem aB{t u:TS}{D:Ends}{σ:St}{H:Hp}(h:∀U:St->Hp->Prop,(∀σ' H',U σ' H'↔u D σ' H')->t {D with nx:=U} σ H):IS t u D σ H:=h (u D) fun _ _=>Iff.rfl
theorem Ql{A:zdx}{k:Nat}(hr:hZ k A):A.units+64<cLine:=hr.units
end L2
namespace L2
open PySem
theorem F1{ta:TA}{g:TG}{tb:TS}{D:Ends}{σ:St}{H:Hp} (h:∀U:Int->Hp->Prop,(∀j H1,(∃W:Nat->Nat->St->Hp->Prop,(∃m,W 0 m σ H1)/\∀i m σ H,W i m σ H->
 ((yv 0 j.toNat).stop i H/\D.nx σ H)\/((yv 0 j.toNat).go i H/\∃N:St->Hp->Prop,(∀σ' H',N σ' H'->∃m',m'<m/\W (i+1) m' σ' H')/\∀x H',(yv 0 j.toNat).wZ i H x H'->g x σ H' fun σ2 H2=>tb {D with nx:=N,ct:=N,bk:=D.nx} σ2 H2))->U j H1)->
 ta σ H fun vs H1=>∃j:Int,vs=[.int j]/\-(2 ^ 62)<=j/\j<2 ^ 62/\U j H1):Dd (BN ta) g tb D σ H:=h _ fun _ _ x=>x
def Cf (K:zaa):Sp:=fun vs H Q _=>∃(a:zdm) (ns:List Int),vs=[.ref a]/\fF K H a (ns.map .int)/\ns.length<=63/\∀H',Q (.bl true) H'
open PyProof.Rows PySem.Spec
section
variable{X:Cx}{pins:List (zdm×Obj)}{σ:St}{H:Hp}{s:zdw}{h':Heap}
theorem Inv.nI{t':Nat}{fp:List zdm}(I:Inv X pins σ H s)(k:∀b o,b ∉ fp->s.heap.get? b=some o->h'.get? b=some o)(hf:∀b∈fp,px X pins H b):Inv X pins σ H {s with heap:=h',toks:=t' }:=by
 have O9:∀b u,H b=some u->b ∉ fp:=fun b u e z=>by rw[(hf b z).1] at e;cases e
 refine I.step (g':=s.gens) (d':=s.drawn) (ch:=fp) (fun b hb=>?_) (fun b o _ _ hc e _=>k b o hc e) (fun b o _ _ hc e _=>⟨o.slots,k b o hc e⟩) (fun _ _ _ _ n=>n)
  (fun b o hc e=>⟨o,k b o hc e⟩) (fun _ _ e=>e) (fun _ _ _ e=>e) (fun b ps e=>⟨#[],by rw[e];simp⟩) (fun m hm=>?_) (fun b u e=>?_) I.bare
 ·obtain⟨_,f1,_,f3,f4,f5⟩:=hf b hb;exact⟨f3,f1,f4,f5⟩
 ·obtain⟨o,es,ep,ho,r⟩:=hm;exact⟨o,es,ep,k _ o (fun z=>(hf _ z).2.1 rfl) ho,r⟩
 ·refine(I.da b u e).yo (fun c v hc q=>k c v ?_ q) (fun _ q=>q) fun _ _ q=>q;rcases hc with z |z
  ·rw[z];exact O9 b u e
  ·exact O9 c _ z
end
def Qm (K:zaa) (a:zdm):It:=
 ⟨fun i H=>∃xs x,fF K H a xs/\xs[i]?=some x,fun i H x H'=>∃p y,x=.ref p/\H p=none/\H'=upd H p (.tup [.int i,y])/\∀xs,fF K H a xs->xs[i]?=some y,fun i H=>∃xs,fF K H a xs/\xs.length<=i⟩
theorem Dx{P:zdy}{w:zdo}{K:zaa}{elts:List Expr}{x1}{pos:Pos}(a e it:zdm)(Jv:e≠it) :
 Turn P w K (.Tuple elts x1 pos) (Qm K a) [e,it] e (fun i h=>(∃old,IsEnum h e it i old)/\h.IsListIter it a i) where
 mem:=by simp
 obj:=fun i h st b hb=>by
  obtain⟨⟨old,he⟩,o,eo,c,d⟩:=st;rcases zag.mp hb with rfl |hb
  ·exact⟨_,he,fun v z=>by cases (show Data.fields _=Data.cell v from z)⟩
  ·have z:b=it:=by simpa using hb
   subst z;exact⟨o,eo,fun v z=>by rw[d] at z;cases z⟩
 keep:=fun i h h' st k=>⟨st.1.elim fun old he=>⟨old,k e (by simp) _ he⟩,st.2.at fun o x=>k it (by simp) o x⟩
 item:=by
  intro X hP hw hK hc i pins s σ H E I hf st hg;subst hP hw hK;obtain⟨xs,x,hq,hx⟩:=hg;obtain⟨⟨old,he⟩,hit⟩:=st;obtain⟨bq,rv,p,hz⟩:=I.list hq;obtain⟨u,hu,ru⟩:=rv.get hx;refine wpAny_pyNext_enum_item he hit p.isList (x:=u) (by simpa using hu) Jv fun h' ho M7 hT hsz hk=>?_;refine⟨_,rfl,?_⟩;refine wpAny_letOwnedTupleGo_enum ho fun h2 Sl sb=>?_;have Qn:e<s.heap.objs.size:=Heap.lt_size he;have Qo:it<s.heap.objs.size:=by obtain⟨_,x,_⟩:=hit;exact Heap.lt_size x
  have I1:Inv X pins σ H {s with heap:=h2,toks:=s.toks+1}:=I.nI (t':=s.toks+1) (fun b o hb q=>(sb.2 b fun z=>hb (by simp[z])).trans (hk b o (fun z=>hb (by simp[z])) (fun z=>hb (by simp[z])) q)) hf;have fr:H s.heap.objs.size=none:=I.da.fresh (zam _);obtain⟨g0,g1,g2,g3,g4,g5⟩:=I.Ax (zam _) fr;have M8:h2.get? s.heap.objs.size=some {cls:=.type "tuple",data:=.seq #[.int i s.toks,u]}:=(sb.2 _ (zbC Qn)).trans hT;have I2:=I1.told (o:=.tup [.int i,x]) fr I.sz g1 g4 g5 ⟨(show (2:Nat)<=zdu by decide),[.int i s.toks,u],.cons ⟨_,rfl⟩ (.cons ru .nil),⟨_,M8,rfl,_,rfl⟩⟩;refine⟨.ref s.heap.objs.size,_,I2,rfl,⟨_,x,rfl,fr,rfl,fun ys hy=>by rw[I.yu hy hq];exact hx⟩,⟨⟨_,by exact_mod_cast Sl⟩,M7.at fun o q=>(sb.2 it (Ne.symm Jv)).trans q⟩,fun b hb=>?_⟩;rw[aE ?_]
  ·exact(hf b hb).1
  ·rcases zag.mp hb with rfl |hb
   ·exact zaw Qn
   ·have z:b=it:=by simpa using hb
    subst z;exact zaw Qo
 done:=by
  intro X hP hw hK hc i pins s σ H E I hf st hg;subst hP hw hK;obtain⟨xs,hq,hx⟩:=hg;obtain⟨⟨old,he⟩,hit⟩:=st;obtain⟨bq,rv,p,hz⟩:=I.list hq;have hl:=rv.length;exact wpAny_pyNext_enum_end (I.ok.hd hc) he hit p.isList (by simp;lia) fun h' eb=>⟨rfl,I.nI (t':=s.toks) (fun b o hb q=>eb b o (fun z=>hb (by simp[z])) q) hf⟩
 self:=fun _ _ _ _ _ st h=>st.1.elim fun _ he=>wpAny_pyIter_enum he h
def Qp (K:zaa) (ta:TA):TI:=fun σ H R=>ta σ H fun vs H1=>∃a,vs=[.ref a]/\(∃xs,fF K H1 a xs)/\R (Qm K a) H1
theorem Jw{X:Cx}{elts:List Expr}{x1}{tp:Pos}{a:Expr}{ta:TA}{p pos:Pos}(hg:Gl X "enumerate")(hm:X.mg "enumerate"=none)(ha:PA X [a] ta)(hs:zds [a] X.env=[(false,eval a X.env)]:=by rfl) :
 PI X (.Tuple elts x1 tp) (.Call (.Name "enumerate" p) [a] [] pos) (Qp X.K ta):=by
 intro pins s σ H R I h;refine Call_ (mi I hg hm PyProof.Rows.Boot.«enumerate» (zaS (dw (ha pos pins s σ H _ I h) fun us s1 zqz=>?_) hs rfl));obtain⟨vs,H1,I1,r1,q1⟩:=zqz;obtain⟨l,e,⟨xs,hq⟩,q⟩:=q1;subst e;cases r1 with
 |cons r rr=>
  cases rr;cases (show _=Value.ref l from r);obtain⟨bq,rv,p,hz⟩:=I1.list hq;refine call_enumerate_list p.isList fun h' he hit hsz hk=>?_;refine wpAny_pyIter_enum he ?_;have fr:∀b,s1.heap.objs.size<=b->H1 b=none:=fun b hb=>I1.da.fresh hb;refine⟨s1.heap.objs.size+1,[s1.heap.objs.size+1,s1.heap.objs.size],_,_,H1,rfl,I1.kept (t':=s1.toks) hk,Dx l _ _ (Nat.succ_ne_self _),⟨⟨_,he⟩,hit⟩,fun b hb=>?_,q⟩;have sT:s1.heap.objs.size<=b:=by
   rcases zag.mp hb with rfl |hb
   ·exact zdj _
   ·have z:b=s1.heap.objs.size:=by simpa using hb
    rw[z];exact zam _
  exact I1.Ax sT (fr b sT)
theorem F2{K:zaa}{a:zdm}{xs:List V}{g:TG}{tb:TS}{D:Ends}{σ:St}{H:Hp}(Pv:Nat->St->Hp->Prop)(h0:Pv 0 σ H)(hl:∀i σ H,i<=xs.length->Pv i σ H->fF K H a xs)
 (hs:∀i x σ H p,xs[i]?=some x->Pv i σ H->H p=none->g (.ref p) σ (upd H p (.tup [.int i,x])) fun σ2 H2=>tb {D with nx:=Pv (i+1),ct:=Pv (i+1),bk:=D.nx} σ2 H2) (hd:∀σ H,Pv xs.length σ H->D.nx σ H) :
 ∃W:Nat->Nat->St->Hp->Prop,(∃m,W 0 m σ H)/\∀i m σ H,W i m σ H->
  ((Qm K a).stop i H/\D.nx σ H)\/((Qm K a).go i H/\∃N:St->Hp->Prop,(∀σ' H',N σ' H'->∃m',m'<m/\W (i+1) m' σ' H')/\∀x H',(Qm K a).wZ i H x H'->g x σ H' fun σ2 H2=>tb {D with nx:=N,ct:=N,bk:=D.nx} σ2 H2):=by
 refine⟨fun i m σ H=>m=xs.length-i/\i<=xs.length/\Pv i σ H,⟨xs.length,by simp,zaM _,h0⟩,?_⟩
 rintro i m σ H ⟨rfl,hi,p⟩
 have q:=hl i σ H hi p;by_cases jL:i<xs.length
 ·refine .inr ⟨⟨xs,xs[i],q,by simp[jL]⟩,Pv (i+1),fun σ' H' p'=>⟨xs.length-(i+1),by lia,rfl,jL,p'⟩,fun x H' y=>?_⟩;obtain⟨pp,v,rfl,hn,rfl,y⟩:=y;exact hs i v σ H pp (y xs q) p hn
 ·have e:i=xs.length:=by lia
  subst e;exact .inl ⟨⟨xs,q,zam _⟩,hd σ H p⟩
theorem rG{X:Cx}:lS X (.type "int") (fun xs H Q=>∃b:Bool,xs=[.bl b]/\Q (.int (if b then 1 else 0)) H):=by
 intro pins s σ H xs us Q I r h;obtain⟨b,rfl,q⟩:=h;obtain⟨u,rfl,ru⟩:=vals1 r;cases (show u=Value.bool b from ru);exact PySem.call_int_bool ⟨.int (if b then 1 else 0),H,I.tok _,⟨_,rfl⟩,q⟩
def Qq (K:zaa) (n:Nat) (t:IT):TG:=fun v σ H Q=>∃a xs,v=.ref a/\fF K H a xs/\xs.length=n/\t xs σ H Q
open PySem.SeqAt
theorem qD{X:Cx}(hu:X.A.units+1<cLine):ql X (compareOp .NotEq) (fun x y H Q=>∃a b xs,x=.ref a/\y=.ref b/\fF X.K H a xs/\fF X.K H b []/\Q (.bl (!xs.isEmpty)) H):=by
 intro pins s σ H x y v u Q I rx ry h;obtain⟨a,b,xs,rfl,rfl,h1,h2,q⟩:=h;cases (show v=Value.ref a from rx);cases (show u=Value.ref b from ry);obtain⟨bq,v1,p1,_⟩:=I.list h1;obtain⟨its',v2,p2,_⟩:=I.list h2;cases v2;cases xs with
 |nil=>
  cases v1;exact(RcNeAt.lists (e:=fun _=>true) p1.isList p2.isList rfl (by lia) (fun j h1=>absurd h1 (by simp))) _ _ _ _ ⟨.bl false,H,I,rfl,q⟩
 |cons z zs=>
  cases v1;exact(RcNeAt.lists_lengths p1.isList p2.isList (by simp) (by lia)) _ _ _ _ ⟨.bl true,H,I,rfl,q⟩
def fZ (val:W->Int):PM.Tr->Int
 |.num n=>n
 |.box x=>val x
 |.bin o l r=>if o=[43] then fZ val l+fZ val r else if o=[45] then fZ val l-fZ val r else fZ val l*fZ val r
theorem kA{K:zaa}{tl:TE}{g:TG}{tb:TS}{D:Ends}{σ:St}{H:Hp} (h:∀U:zdm->Hp->Prop,(∀a H1,(∃W:Nat->Nat->St->Hp->Prop,(∃m,W 0 m σ H1)/\∀i m σ H,W i m σ H->
 ((EA K a).stop i H/\D.nx σ H)\/((EA K a).go i H/\∃N:St->Hp->Prop,(∀σ' H',N σ' H'->∃m',m'<m/\W (i+1) m' σ' H')/\∀x H',(EA K a).wZ i H x H'->g x σ H' fun σ2 H2=>tb {D with nx:=N,ct:=N,bk:=D.nx} σ2 H2))->U a H1)->
 tl σ H fun x H1=>∃a,x=.ref a/\(∃xs,fF K H1 a xs)/\U a H1):Dd (BM K tl) g tb D σ H:=h _ fun _ _ x=>x
theorem Cg{a:Option V}{r:St}{H:Hp}{Q:VK}:(fY 10 (a::r) H Q)=(fY 9 r H Q):=rfl
theorem Ci{a:Option V}{r:St}{H:Hp}{Q:VK}:(fY 11 (a::r) H Q)=(fY 10 r H Q):=rfl
theorem Cj{a:Option V}{r:St}{H:Hp}{Q:VK}:(fY 12 (a::r) H Q)=(fY 11 r H Q):=rfl
def Ua (z:Str):Prop:=PM.T9 z.cps.toList
theorem Ua.one{a:Str}(ha:Ua a){c:Nat}(hc:c∈a.cps.toList):Ua ⟨#[c]⟩:=fun x hx=>by
 have:x=c:=by simpa using hx
 rw[this];exact ha c hc
theorem kB{X:Cx}(hu:X.A.units+1<cLine):ql X (compareOp .Eq) (fun x y H Q=>∃a b xs,x=.ref a/\y=.ref b/\fF X.K H a xs/\fF X.K H b []/\Q (.bl xs.isEmpty) H):=by
 intro pins s σ H x y v u Q I rx ry h;obtain⟨a,b,xs,rfl,rfl,h1,h2,q⟩:=h;cases (show v=Value.ref a from rx);cases (show u=Value.ref b from ry);obtain⟨bq,v1,p1,_⟩:=I.list h1;obtain⟨its',v2,p2,_⟩:=I.list h2;cases v2;cases xs with
 |nil=>
  cases v1;exact(RcAt.lists (e:=fun _=>true) p1.isList p2.isList rfl (by lia) (fun j h1=>absurd h1 (by simp))) _ _ _ _ ⟨.bl true,H,I,rfl,q⟩
 |cons z zs=>
  cases v1;exact(RcAt.lists_lengths p1.isList p2.isList (by simp) (by lia)) _ _ _ _ ⟨.bl false,H,I,rfl,q⟩
end L2
namespace PG
open PM (W Tr)
structure ck where
 name:W
 size:Int
 first:Int
inductive bh where
 |ask (k:Int) (b:W)
 |put (k:Int) (b:W) (e:Tr)
 |say (k:Int) (e:Tr)
 |cg (k:Int) (sg:W) (l r:Tr)
 |stop (k:Int)
 |ifs (k:Int) (sg:W) (l r:Tr) (a b:List bh)
 |eD (k:Int) (sg:W) (l r:Tr) (a:List bh)
def bh.row:bh->Int
 |.ask k _=>k |.put k _ _=>k |.say k _=>k |.cg k _ _ _=>k |.stop k=>k |.ifs k _ _ _ _ _=>k |.eD k _ _ _ _=>k
inductive Wd where
 |ask |put |say |cg |stop |ifs |eD |IA |fin
 deriving DecidableEq
def bh.wd:bh->Wd
 |.ask _ _=>.ask |.put _ _ _=>.put |.say _ _=>.say |.cg _ _ _ _=>.cg |.stop _=>.stop |.ifs _ _ _ _ _ _=>.ifs |.eD _ _ _ _ _=>.eD
def pick {α:Type} (d:α) (l:List α) (n:Int):α:=l.getD n.toNat d
def Ak:List W:=[[60],[61]]
structure Frame where
 kind:Nat
 body:List bh
 k:Int:=0
 sg:W:=[]
 l:Tr:=.num 0
 r:Tr:=.num 0
 first:List bh:=[]
abbrev Row:=Int×Wd
def number (n:Nat) (rows:List Row) (mode:Int):Int:=
 if mode=2 then n+1+20*rows.length else if mode=3 then n+1+(rows.filter fun r=>r.2≠.IA/\r.2≠.fin).length else n+1+rows.length
structure Prog where
 av:List ck
 body:List bh
end PG
namespace PG
open PM (W Tr)
mutual
def iI:bh->List Row
 |.ifs k _ _ _ a b=>(k,.ifs)::(dQ a++dQ b)
 |.eD k _ _ _ a=>(k,.eD)::dQ a
 |.ask k _=>[(k,.ask)]
 |.put k _ _=>[(k,.put)]
 |.say k _=>[(k,.say)]
 |.cg k _ _ _=>[(k,.cg)]
 |.stop k=>[(k,.stop)]
def dQ:List bh->List Row
 |[]=>[]
 |s::r=>iI s++dQ r
end
end PG
namespace PG
open PM (W Tr)
abbrev cU:=Int×Wd×List Int
def aW:List bh->Int->Int
 |[],x=>x
 |s::_,_=>s.row
mutual
def eM:bh->Int->List cU
 |.ifs k _ _ _ a b,x=>(k,.ifs,[aW a x,aW b x])::(aF a x++aF b x)
 |.eD k _ _ _ a,x=>(k,.eD,[aW a k,x])::aF a k
 |.ask k _,x=>[(k,.ask,[x])]
 |.put k _ _,x=>[(k,.put,[x])]
 |.say k _,x=>[(k,.say,[x])]
 |.cg k _ _ _,x=>[(k,.cg,[x])]
 |.stop k,_=>[(k,.stop,[0])]
def aF:List bh->Int->List cU
 |[],_=>[]
 |s::r,x=>eM s (aW r x)++aF r x
end
mutual
theorem Dy:∀(s:bh) (x:Int),(eM s x).map (fun r=>(r.1,r.2.1))=iI s
 |.ifs k _ _ _ a b,x=>by simp[eM,iI,eU a x,eU b x]
 |.eD k _ _ _ a,x=>by simp[eM,iI,eU a k]
 |.ask k _,x=>rfl
 |.put k _ _,x=>rfl
 |.say k _,x=>rfl
 |.cg k _ _ _,x=>rfl
 |.stop k,_=>rfl
theorem eU:∀(b:List bh) (x:Int),(aF b x).map (fun r=>(r.1,r.2.1))=dQ b
 |[],_=>rfl
 |s::r,x=>by simp[aF,dQ,Dy s _,eU r x]
end
inductive Tg where
 |row (k:Int) |side (k:Int) (b:Bool) |cg (k:Int) |fin
 deriving DecidableEq
end PG
namespace PG
open PM (W Tr)
mutual
def Lq:bh->List Row->Prop
 |.ifs k _ _ _ a b,rs=>(∃ra n,lV a ra/\b=[]/\rs=(k,.ifs)::(ra++[(n,.fin)]))\/(∃ra rb n m,lV a ra/\lV b rb/\rs=(k,.ifs)::(ra++(n,.IA)::(rb++[(m,.fin)])))
 |.eD k _ _ _ a,rs=>∃ra n,lV a ra/\rs=(k,.eD)::(ra++[(n,.fin)])
 |.ask k _,rs=>rs=[(k,.ask)]
 |.put k _ _,rs=>rs=[(k,.put)]
 |.say k _,rs=>rs=[(k,.say)]
 |.cg k _ _ _,rs=>rs=[(k,.cg)]
 |.stop k,rs=>rs=[(k,.stop)]
def lV:List bh->List Row->Prop
 |[],rs=>rs=[]
 |s::r,rs=>∃r1 r2,Lq s r1/\lV r r2/\rs=r1++r2
end
theorem lV.one{s:bh}{rs:List Row}(h:Lq s rs):lV [s] rs:=by
 rw[lV];exact⟨rs,[],h,by rw[lV],by simp⟩
theorem lV.nil:lV [] []:=by rw[lV]
mutual
def ic:bh->Nat
 |.ifs _ _ _ _ a b=>max (dD a) (dD b)+1
 |.eD _ _ _ _ a=>dD a+1
 |_=>0
def dD:List bh->Nat
 |[]=>0
 |s::r=>max (ic s) (dD r)
end
theorem pJ:∀a b:List bh,dD (a++b)=max (dD a) (dD b)
 |[],b=>by simp[dD]
 |s::r,b=>by
  show dD (s::(r++b))=_;rw[dD,dD,pJ r b,Nat.max_assoc]
theorem tV(s:bh):dD [s]=ic s:=by rw[dD,dD];simp
end PG
namespace PG
open PM (W Tr)
section
variable(nm:W->Prop)(ex:Tr->Prop)(sg:W->Prop)
mutual
def Dz:bh->Prop
 |.ask _ b=>nm b
 |.put _ b e=>nm b/\ex e
 |.say _ e=>ex e
 |.cg _ s l r=>sg s/\ex l/\ex r
 |.stop _=>True
 |.ifs _ s l r a b=>sg s/\ex l/\ex r/\xn a/\xn b
 |.eD _ s l r a=>sg s/\ex l/\ex r/\xn a
def xn:List bh->Prop
 |[]=>True
 |s::r=>Dz s/\xn r
end
end
section
variable{nm:W->Prop}{ex:Tr->Prop}{sg:W->Prop}
section
end
end
def dX:Tr->Nat
 |.bin _ l r=>max (dX l) (dX r)+1
 |_=>0
end PG
namespace PG
open PM (W Tr)
inductive Mt where
 |op (IA fin:Option Nat)
 |back (i:Nat)
 deriving DecidableEq
abbrev Mm:=Nat->Option Mt
def Mm.set (m:Mm) (i:Nat) (x:Mt):Mm:=fun j=>if j=i then some x else m j
end PG
namespace PG
open PM (W Tr)
def At (R:List Row) (i:Nat) (rs:List Row):Prop:=∀j,j<rs.length->R[i+j]?=rs[j]?
theorem At.left{R:List Row}{i:Nat}{a b:List Row}(h:At R i (a++b)):At R i a:=fun j hj=>by
 rw[h j (by rw[zap];lia),zbJ hj]
theorem At.head{R:List Row}{i:Nat}{x:Row}{b:List Row}(h:At R i (x::b)):R[i]?=some x:=by
 have:=h 0 (by simp);simpa using this
end PG
namespace PG
open PM (W Tr)
mutual
def cN:bh->List bh
 |.ifs k sg l r a b=>.ifs k sg l r a b::(ax a++ax b)
 |.eD k sg l r a=>.eD k sg l r a::ax a
 |s=>[s]
def ax:List bh->List bh
 |[]=>[]
 |s::r=>cN s++ax r
end
mutual
theorem DA:∀s:bh,(cN s).map (fun x=>(x.row,x.wd))=iI s
 |.ifs k sg l r a b=>by
  rw[cN,iI,zar,zax,fJ a,fJ b];rfl
 |.eD k sg l r a=>by
  rw[cN,iI,zar,fJ a];rfl
 |.ask k _=>rfl
 |.put k _ _=>rfl
 |.say k _=>rfl
 |.cg k _ _ _=>rfl
 |.stop k=>rfl
theorem fJ:∀b:List bh,(ax b).map (fun x=>(x.row,x.wd))=dQ b
 |[]=>rfl
 |s::r=>by simp[ax,dQ,DA s,fJ r]
end
end PG
namespace PG
open PM (W Tr)
theorem F3{α:Type}(d:α){l:List α}{i:Int}(h0:0<=i)(h1:i<l.length):pick d l i∈l:=by
 unfold pick;have lt:i.toNat<l.length:=by lia
 rw[zaf,zab lt];exact zao lt
section
variable{nm:W->Prop}{ex:Tr->Prop}{sg:W->Prop}
mutual
theorem Jx:∀(s x:bh),Dz nm ex sg s->x∈cN s->Dz nm ex sg x
 |.ifs k s l r a b,x,h,m=>by
  rw[cN] at m;rcases zag.mp m with rfl |m
  ·exact h
  ·rw[Dz] at h;rcases zai.mp m with m |m
   ·exact iy a x h.2.2.2.1 m
   ·exact iy b x h.2.2.2.2 m
 |.eD k s l r a,x,h,m=>by
  rw[cN] at m;rcases zag.mp m with rfl |m
  ·exact h
  ·rw[Dz] at h;exact iy a x h.2.2.2 m
 |.ask k b,x,h,m=>by simp only[cN,zan] at m;subst m;exact h
 |.put k b e,x,h,m=>by simp only[cN,zan] at m;subst m;exact h
 |.say k e,x,h,m=>by simp only[cN,zan] at m;subst m;exact h
 |.cg k s l r,x,h,m=>by simp only[cN,zan] at m;subst m;exact h
 |.stop k,x,h,m=>by simp only[cN,zan] at m;subst m;exact h
theorem iy:∀(b:List bh) (x:bh),xn nm ex sg b->x∈ax b->Dz nm ex sg x
 |[],x,_,m=>by simp[ax] at m
 |s::r,x,h,m=>by
  rw[ax] at m;rw[xn] at h;rcases zai.mp m with m |m
  ·exact Jx s x h.1 m
  ·exact iy r x h.2 m
end
end
end PG
namespace PG
open PM (W Tr)
def dc (bs:List ck):Tr->Prop
 |.num n=>0<=n/\n<1000
 |.box x=>x∈bs.map (·.name)
 |.bin o l r=>o∈([[43],[45],[42]]:List W)/\dc bs l/\dc bs r
end PG
namespace PG
def k6 (r:cU):Prop:=0<r.2.2.length/\(r.2.1=.ifs\/r.2.1=.eD->1<r.2.2.length)
mutual
theorem DB:∀(s:bh) (x:Int),∀r∈eM s x,k6 r
 |.ifs k sg l r a b,x,y,h=>by
  rw[eM] at h;simp only[zag,zai] at h;rcases h with rfl |h |h
  ·simp[k6]
  ·exact jg a x y h
  ·exact jg b x y h
 |.eD k sg l r a,x,y,h=>by
  rw[eM] at h;simp only[zag] at h;rcases h with rfl |h
  ·simp[k6]
  ·exact jg a k y h
 |.ask k _,x,y,h=>by simp[eM] at h;subst h;simp[k6]
 |.put k _ _,x,y,h=>by simp[eM] at h;subst h;simp[k6]
 |.say k _,x,y,h=>by simp[eM] at h;subst h;simp[k6]
 |.cg k _ _ _,x,y,h=>by simp[eM] at h;subst h;simp[k6]
 |.stop k,x,y,h=>by simp[eM] at h;subst h;simp[k6]
theorem jg:∀(b:List bh) (x:Int),∀r∈aF b x,k6 r
 |[],x,y,h=>by simp[aF] at h
 |s::r,x,y,h=>by
  rw[aF,zai] at h;rcases h with h |h
  ·exact DB s _ y h
  ·exact jg r x y h
end
end PG
namespace PG
theorem kC:∀(b:List bh) (x:Int),aW b x=x\/∃t∈ax b,t.row=aW b x
 |[],x=>.inl rfl
 |s::r,x=>.inr ⟨s,by rw[ax];exact zbn _ (by cases s<;>simp[cN]),rfl⟩
mutual
theorem F4:∀(s:bh) (x:Int),∀r∈eM s x,∀w∈r.2.2,w=0\/w=x\/∃t∈cN s,t.row=w
 |.ifs k sg l r a b,x,y,h,w,hw=>by
  rw[eM] at h;simp only[zag,zai] at h;rw[cN];rcases h with rfl |h |h
  ·simp only[zag,List.mem_nil_iff,or_false] at hw;rcases hw with rfl |rfl
   ·rcases kC a x with e |⟨t,ht,e⟩
    ·exact .inr (.inl e)
    ·exact .inr (.inr ⟨t,by simp[ht],e⟩)
   ·rcases kC b x with e |⟨t,ht,e⟩
    ·exact .inr (.inl e)
    ·exact .inr (.inr ⟨t,by simp[ht],e⟩)
  ·rcases kD a x y h w hw with e |e |⟨t,ht,e⟩
   ·exact .inl e
   ·exact .inr (.inl e)
   ·exact .inr (.inr ⟨t,by simp[ht],e⟩)
  ·rcases kD b x y h w hw with e |e |⟨t,ht,e⟩
   ·exact .inl e
   ·exact .inr (.inl e)
   ·exact .inr (.inr ⟨t,by simp[ht],e⟩)
 |.eD k sg l r a,x,y,h,w,hw=>by
  rw[eM] at h;simp only[zag] at h;rw[cN];have self:w=k->∃t∈(bh.eD k sg l r a::ax a),t.row=w:=fun e=>⟨_,zav ..,e.symm⟩
  rcases h with rfl |h
  ·simp only[zag,List.mem_nil_iff,or_false] at hw;rcases hw with rfl |rfl
   ·rcases kC a k with e |⟨t,ht,e⟩
    ·exact .inr (.inr (self e))
    ·exact .inr (.inr ⟨t,by simp[ht],e⟩)
   ·exact .inr (.inl rfl)
  ·rcases kD a k y h w hw with e |e |⟨t,ht,e⟩
   ·exact .inl e
   ·exact .inr (.inr (self e))
   ·exact .inr (.inr ⟨t,by simp[ht],e⟩)
 |.ask k _,x,y,h,w,hw=>by simp[eM] at h;subst h;simp at hw;exact .inr (.inl hw)
 |.put k _ _,x,y,h,w,hw=>by simp[eM] at h;subst h;simp at hw;exact .inr (.inl hw)
 |.say k _,x,y,h,w,hw=>by simp[eM] at h;subst h;simp at hw;exact .inr (.inl hw)
 |.cg k _ _ _,x,y,h,w,hw=>by simp[eM] at h;subst h;simp at hw;exact .inr (.inl hw)
 |.stop k,x,y,h,w,hw=>by simp[eM] at h;subst h;simp at hw;exact .inl hw
theorem kD:∀(b:List bh) (x:Int),∀r∈aF b x,∀w∈r.2.2,w=0\/w=x\/∃t∈ax b,t.row=w
 |[],x,y,h,_,_=>by simp[aF] at h
 |s::r,x,y,h,w,hw=>by
  rw[aF,zai] at h;rw[ax];rcases h with h |h
  ·rcases F4 s _ y h w hw with e |e |⟨t,ht,e⟩
   ·exact .inl e
   ·rcases kC r x with e2 |⟨t,ht,e2⟩
    ·exact .inr (.inl (e.trans e2))
    ·exact .inr (.inr ⟨t,zaE _ ht,e2.trans e.symm⟩)
   ·exact .inr (.inr ⟨t,zbn _ ht,e⟩)
  ·rcases kD r x y h w hw with e |e |⟨t,ht,e⟩
   ·exact .inl e
   ·exact .inr (.inl e)
   ·exact .inr (.inr ⟨t,zaE _ ht,e⟩)
end
def Jy (b:List bh) (row:Int):Nat:=(ax b).findIdx (fun s=>s.row==row)
theorem Ck{b:List bh}(pw:(ax b).Pairwise (fun a b=>a.row<b.row))(i:Nat)(hi:i<(ax b).length):Jy b (ax b)[i].row=i:=by
 unfold Jy;rw[List.findIdx_eq hi];refine⟨by simp,fun j hj=>?_⟩;have:=zbb.mp pw j i (by lia) hi hj;simp only[beq_eq_false_iff_ne,ne_eq];lia
inductive jt where
 |on |out |cg (row:Int) |fin
deriving DecidableEq
structure WZ where
 rows:List Int
 Ub:List Int
 fin:jt
section
variable(ask:Int->Bool)(step:Int->List Int->Int->Option (Int×List Int)×Option Int)
def take1 (a:Bool) (ie:List Int):Option (Int×List Int):=if a then (match ie with |[]=>none |f::r=>some (f,r)) else some (0,ie)
end
end PG
namespace L2
open PySem
def nU:PG.Wd->Str
 |.ask=>"ask" |.put=>"put" |.say=>"say" |.cg=>"must" |.stop=>"stop" |.ifs=>"if" |.eD=>"while" |.IA=>"else" |.fin=>"end"
mutual
def dY:PG.bh->Dp
 |.ask k b=>.tup [.str "ask",.int k,.str (S b)]
 |.put k b e=>.tup [.str "put",.int k,.str (S b),jN e]
 |.say k e=>.tup [.str "say",.int k,jN e]
 |.cg k sg l r=>.tup [.str "must",.int k,.str (S sg),jN l,jN r]
 |.stop k=>.tup [.str "stop",.int k]
 |.ifs k sg l r a b=>.tup [.str "if",.int k,.str (S sg),jN l,jN r,.lst (DC a),.lst (DC b)]
 |.eD k sg l r a=>.tup [.str "while",.int k,.str (S sg),jN l,jN r,.lst (DC a)]
def DC:List PG.bh->List Dp
 |[]=>[]
 |s::r=>dY s::DC r
end
theorem cy:∀l:List PG.bh,DC l=l.map dY
 |[]=>rfl
 |s::r=>by rw[DC,cy r];rfl
def ju (b:PG.ck):Dp:=.tup [.str (S b.name),.int b.size,.int b.first]
def j5 (p:PG.Prog):Dp:=.tup [.lst (p.av.map ju),.lst (p.body.map dY)]
def Qr (r:PG.Row):Dp:=.lst [.int r.1,.str (nU r.2)]
def Qs:PG.Tg->Dp
 |.row k=>.tup [.str "row",.int k]
 |.side k b=>.tup [.str "side",.int k,.bl b]
 |.cg k=>.tup [.str "must",.int k]
 |.fin=>.tup [.str "end"]
def aU (O:zdm->Prop) (H H':Hp):Prop:=∀b o,¬O b->H b=some o->H' b=some o
def Fix (K:zaa) (O:zdm->Prop) (H:Hp) (d:Dp) (v:V):Prop:=∀H',aU O H H'->Rep K H' d v
def dv (K:zaa) (O:zdm->Prop) (H:Hp) (ds:List Dp) (vs:List V):Prop:=∀H',aU O H H'->aN K H' ds vs
section
variable{K:zaa}{O O':zdm->Prop}{H H1 H2:Hp}{d:Dp}{ds:List Dp}{v:V}{vs:List V}{p:zdm}{o:HO}
theorem aU.refl:aU O H H:=fun _ _ _ e=>e
theorem aU.trans(a:aU O H H1)(b:aU O H1 H2):aU O H H2:=fun c u n e=>b c u n (a c u n e)
theorem aU.of(s:ar H H1):aU O H H1:=fun b u _ e=>s b u e
theorem aU.mono(a:aU O H H1)(i:∀b,O b->O' b):aU O' H H1:=fun b u n e=>a b u (fun z=>n (i b z)) e
theorem aU.one(a:aZ p H H1)(hp:O p):aU O H H1:=fun b u n e=>a b u (fun z=>n (by rw[z];exact hp)) e
theorem aU.put(a:aU O H H1)(hp:O p)(u:HO):aU O H (upd H1 p u):=fun b w n e=>by rw[aE (fun z=>n (by rw[z];exact hp))];exact a b w n e
theorem aU.new(a:aU O H H1)(hp:H1 p=none)(u:HO):aU O H (upd H1 p u):=fun b w n e=>by rw[aE (aH (a b w n e) hp)];exact a b w n e
theorem Fix.up(f:Fix K O H d v)(u:aU O H H1):Fix K O H1 d v:=fun H2 u2=>f H2 (u.trans u2)
theorem dv.up(f:dv K O H ds vs)(u:aU O H H1):dv K O H1 ds vs:=fun H2 u2=>f H2 (u.trans u2)
theorem Fix.rep(f:Fix K O H d v):Rep K H d v:=f H .refl
theorem dv.AR(f:dv K O H ds vs):aN K H ds vs:=f H .refl
theorem Fix.sub(f:Fix K O H d v)(i:∀b,O' b->O b):Fix K O' H d v:=fun H2 u=>f H2 (u.mono i)
theorem dv.sub(f:dv K O H ds vs)(i:∀b,O' b->O b):dv K O' H ds vs:=fun H2 u=>f H2 (u.mono i)
theorem dv.nil:dv K O H [] []:=fun _ _=>.nil
theorem dv.cons(a:Fix K O H d v)(b:dv K O H ds vs):dv K O H (d::ds) (v::vs):=fun H2 u=>.cons (a H2 u) (b H2 u)
theorem dv.snoc(b:dv K O H ds vs)(a:Fix K O H d v):dv K O H (ds++[d]) (vs++[v]):=fun H2 u=>(b H2 u).append (.cons (a H2 u) .nil)
theorem Fix.int{i:Int}:Fix K O H (.int i) (.int i):=fun _ _=>Rep.bg.mpr rfl
theorem Fix.str{x:Str}:Fix K O H (.str x) (.str x):=fun _ _=>Rep.br.mpr rfl
theorem Fix.bl{x:Bool}:Fix K O H (.bl x) (.bl x):=fun _ _=>Rep.oM.mpr rfl
theorem Fix.tup(h:H p=some (.tup vs))(n:¬O p)(f:dv K O H ds vs):Fix K O H (.tup ds) (.ref p):=fun H2 u=>Rep.a0.mpr ⟨p,vs,rfl,.of (u p _ n h),f H2 u⟩
theorem Fix.lst(h:H p=some (.lst vs))(n:¬O p)(f:dv K O H ds vs):Fix K O H (.lst ds) (.ref p):=fun H2 u=>Rep.bE.mpr ⟨p,vs,rfl,.of (u p _ n h),f H2 u⟩
end
structure F5(K:zaa)(H:Hp)(D S:zdm)(sc:List Int)(p:Nat):Prop where
 mz:H D=some (.lst [.ref S,.int p])
 AS:H S=some (.lst (sc.map .int))
 ne:S≠D
 len:sc.length<=63
end L2
namespace L2
open PySem
theorem F5.same{K:zaa}{H H':Hp}{D S:zdm}{sc:List Int}{p:Nat}(d:F5 K H D S sc p)(s:ar H H'):F5 K H' D S sc p:=⟨s _ _ d.mz,s _ _ d.AS,d.ne,d.len⟩
theorem fF.gC{K:zaa}{H H':Hp}{D a:zdm}{xs:List V}(h:fF K H a xs)(u:aZ D H H')(n:a≠D):fF K H' a xs:=by
 rcases h with (h |⟨o,h⟩) |h
 ·exact .inl (.inl (u _ _ n h))
 ·exact .inl (.inr ⟨o,u _ _ n h⟩)
 ·exact .inr h
theorem Cn{a:Option V}{r:St}{H:Hp}{Q:VK}:(fY 13 (a::r) H Q)=(fY 12 r H Q):=rfl
theorem Co{a:Option V}{r:St}{H:Hp}{Q:VK}:(fY 14 (a::r) H Q)=(fY 13 r H Q):=rfl
def iJ (K:zaa) (O:zdm->Prop) (H:Hp) (B:zdm) (bs:List PG.ck):Prop:=Fix K O H (.lst (bs.map ju)) (.ref B)/\bs.length<=10
def Own (K:zaa) (H0 H:Hp) (d:Dp) (v:V):Prop:=∀O:zdm->Prop,(∀b,O b->H0 b≠none)->Fix K O H d v
section
variable{K:zaa}{O:zdm->Prop}{H0 H H1:Hp}{d:Dp}{v:V}{D B:zdm}{bs:List PG.ck}
theorem Own.up(f:Own K H0 H d v)(u:aZ D H H1)(hD:H0 D≠none):Own K H0 H1 d v:=fun O hO=>by
 have:=f (fun b=>O b\/b=D) (fun b hb=>hb.elim (hO b) (fun e=>e▸hD));exact(this.up (aU.one u (.inr rfl))).sub fun b hb=>.inl hb
theorem Own.same(f:Own K H0 H d v)(s:ar H H1):Own K H0 H1 d v:=fun O hO=>(f O hO).up (.of s)
theorem Own.back{Sm:Hp}(f:Own K H0 H d v)(h:∀b,Sm b≠none->H0 b≠none):Own K Sm H d v:=fun O hO=>f O fun b hb=>h b (hO b hb)
theorem iJ.up(f:iJ K (·=D) H B bs)(u:aZ D H H1):iJ K (·=D) H1 B bs:=⟨f.1.up (aU.one u rfl),f.2⟩
theorem iJ.same(f:iJ K (·=D) H B bs)(s:ar H H1):iJ K (·=D) H1 B bs:=⟨f.1.up (.of s),f.2⟩
theorem aZ.jQ(u:aZ D H H1)(hD:H1 D≠none):∀b,H b≠none->H1 b≠none:=fun b hb=>by
 by_cases e:b=D
 ·rw[e];exact hD
 ·cases z:H b with
  |none=>exact absurd z hb
  |some o=>rw[u b o e z];simp
theorem iJ.list(f:iJ K O H B bs):∃xs,fF K H B xs/\xs.length=bs.length/\∀(i:Nat) (b:PG.ck),bs[i]?=some b->∃a ys,xs[i]?=some (.ref a)/\bS K H a ys/\ys=[.str (S b.name),.int b.size,.int b.first]:=by
 have r:=f.1.rep;rw[Rep.bE] at r;obtain⟨a,xs,e,q,rs⟩:=r;cases e;refine⟨xs,q,by rw[rs.length,zae],fun i b hb=>?_⟩;obtain⟨v,hv,rv⟩:=rs.get (i:=i) (d:=ju b) (by rw[zah,hb];rfl);unfold ju at rv;rw[Rep.a0] at rv;obtain⟨a2,ys,rfl,q2,r2⟩:=rv;refine⟨a2,ys,hv,q2,?_⟩;rw[aN.aJ] at r2;obtain⟨v1,t1,rfl,e1,r2⟩:=r2;rw[aN.aJ] at r2;obtain⟨v2,t2,rfl,e2,r2⟩:=r2;rw[aN.aJ] at r2;obtain⟨v3,t3,rfl,e3,r2⟩:=r2;rw[aN.bu] at r2;subst r2;rw[Rep.br] at e1;rw[Rep.bg] at e2 e3;subst e1 e2 e3;rfl
end
def oO (K:zaa) (H0 H:Hp) (ds:List Dp) (vs:List V):Prop:=∀O:zdm->Prop,(∀b,O b->H0 b≠none)->dv K O H ds vs
section
variable{K:zaa}{H0 H H1:Hp}{d:Dp}{v:V}{ds:List Dp}{vs:List V}{D p:zdm}
theorem oO.nil:oO K H0 H [] []:=fun _ _=>dv.nil
theorem oO.cons(a:Own K H0 H d v)(b:oO K H0 H ds vs):oO K H0 H (d::ds) (v::vs):=fun O h=>dv.cons (a O h) (b O h)
theorem Own.int{i:Int}:Own K H0 H (.int i) (.int i):=fun _ _=>Fix.int
theorem Own.str{x:Str}:Own K H0 H (.str x) (.str x):=fun _ _=>Fix.str
theorem Own.bl{x:Bool}:Own K H0 H (.bl x) (.bl x):=fun _ _=>Fix.bl
theorem oO.same(f:oO K H0 H ds vs)(s:ar H H1):oO K H0 H1 ds vs:=fun O hO=>(f O hO).up (.of s)
end
theorem iJ.pick{K:zaa}{O:zdm->Prop}{H:Hp}{B:zdm}{bs:List PG.ck}(f:iJ K O H B bs){i:Int}(h0:0<=i)(h1:i<bs.length){Q:VK}(q:Q (.str (S (PG.pick ⟨[],0,0⟩ bs i).name)) H) :
 MG K (.ref B) (.int i) H (fun x H1=>w9 K x (.int 0) H1 Q):=by
 obtain⟨xs,hx,_,get⟩:=f.list;have lt:i.toNat<bs.length:=by lia
 have e:bs[i.toNat]?=some (PG.pick ⟨[],0,0⟩ bs i):=by
  unfold PG.pick;rw[zaf,zab lt];rfl
 obtain⟨a,ys,hy,q2,rfl⟩:=get _ _ e;have ei:i=((i.toNat:Nat):Int):=by lia
 refine cT hx (v:=.ref a) (by rw[ei];exact aC hy) (aG q2 (v:=.str (S (PG.pick ⟨[],0,0⟩ bs i).name)) (aC (j:=0) rfl) q)
theorem oO.up{K:zaa}{H0 H H1:Hp}{ds:List Dp}{vs:List V}{D:zdm}(f:oO K H0 H ds vs)(u:aZ D H H1)(hD:H0 D≠none):oO K H0 H1 ds vs:=fun O hO=>by
 have:=f (fun b=>O b\/b=D) (fun b hb=>hb.elim (hO b) (fun e=>e▸hD));exact(this.up (aU.one u (.inr rfl))).sub fun b hb=>.inl hb
theorem oO.snoc{K:zaa}{H0 H:Hp}{d:Dp}{v:V}{ds:List Dp}{vs:List V}(b:oO K H0 H ds vs)(a:Own K H0 H d v):oO K H0 H (ds++[d]) (vs++[v]):=fun O h=>dv.snoc (b O h) (a O h)
def Zs:Nat->Str
 |0=>"all"
 |1=>"if"
 |2=>"else"
 |_=>"while"
structure jR(K:zaa)(Oo:zdm->Prop)(H:Hp)(f:PG.Frame)(a b:zdm)(hd fi:V)(xs:List V):Prop where
 fr:H a=some (.lst [.str (Zs f.kind),.ref b,hd,fi])
 bd:H b=some (.lst xs)
 ok:dv K Oo H (f.body.map dY) xs
 Qt:f.kind≠0->∃c ys,hd=.ref c/\H c=some (.tup ys)/\¬Oo c/\dv K Oo H [.str (if f.kind=3 then "while" else "if"),.int f.k,.str (S f.sg),jN f.l,jN f.r] ys
 Qu:f.kind=2->Fix K Oo H (.lst (f.first.map dY)) fi
 len:xs.length=f.body.length
abbrev Sn:=PG.Frame×zdm×zdm
def wg (D P R:zdm) (iS:List Sn):List zdm:=D::P::R::iS.flatMap fun x=>[x.2.1,x.2.2]
def O (D P R:zdm) (iS:List Sn) (E:List zdm):zdm->Prop:=fun b=>b∈wg D P R iS\/b∈E
structure yh(K:zaa)(H:Hp)(D S:zdm)(sc:List Int)(p:Nat)(B:zdm)(bs:List PG.ck)(P R:zdm)(iS:List Sn)(rows:List PG.Row)(E:List zdm):Prop where
 mz:F5 K H D S sc p
 box:Fix K (O D P R iS E) H (.lst (bs.map ju)) (.ref B)
 i3:bs.length<=10
 M9:H P=some (.lst (iS.reverse.map fun x=>.ref x.2.1))
 frames:∀x∈iS,∃hd fi xs,jR K (O D P R iS E) H x.1 x.2.1 x.2.2 hd fi xs
 rows:∃EC,H R=some (.lst EC)/\dv K (O D P R iS E) H (rows.map Qr) EC/\EC.length=rows.length
 nd:(wg D P R iS).Nodup
 nS:S ∉ wg D P R iS
section
variable{K:zaa}{H H':Hp}{D S B P R:zdm}{sc:List Int}{p p':Nat}{bs:List PG.ck}{iS:List Sn}{rows:List PG.Row}{E E':List zdm}
theorem jR.up{Oo:zdm->Prop}{f:PG.Frame}{a b:zdm}{hd fi:V}{xs:List V}(x:jR K Oo H f a b hd fi xs)(u:aU Oo H H')(ha:H' a=H a)(hb:H' b=H b):jR K Oo H' f a b hd fi xs:=
 ⟨ha.trans x.fr,hb.trans x.bd,x.ok.up u,fun z=>let ⟨c,ys,e,h,n,g⟩:=x.Qt z;⟨c,ys,e,u _ _ n h,n,g.up u⟩,fun z=>(x.Qu z).up u,x.len⟩
theorem jR.sub{O1 O2:zdm->Prop}{f:PG.Frame}{a b:zdm}{hd fi:V}{xs:List V}(x:jR K O1 H f a b hd fi xs)(i:∀c,O2 c->O1 c):jR K O2 H f a b hd fi xs:=
 ⟨x.fr,x.bd,x.ok.sub i,fun z=>let ⟨c,ys,e,h,n,g⟩:=x.Qt z;⟨c,ys,e,h,fun w=>n (i c w),g.sub i⟩,fun z=>(x.Qu z).sub i,x.len⟩
theorem yh.ne(s:yh K H D S sc p B bs P R iS rows E):D≠P/\D≠R/\P≠R/\∀x∈iS,x.2.1≠D/\x.2.2≠D/\x.2.1≠P/\x.2.2≠P/\x.2.1≠R/\x.2.2≠R:=by
 have nd:=s.nd;unfold wg at nd;rw[zaj,zaj,zaj] at nd;obtain⟨h1,h2,h3,h4⟩:=nd;simp only[zag,not_or] at h1 h2;refine⟨h1.1,h1.2.1,h2.1,fun x hx=>?_⟩;have m1:x.2.1∈iS.flatMap fun x=>[x.2.1,x.2.2]:=zcK.mpr ⟨x,hx,by simp⟩;have m2:x.2.2∈iS.flatMap fun x=>[x.2.1,x.2.2]:=zcK.mpr ⟨x,hx,by simp⟩;exact⟨fun e=>h1.2.2 (e▸m1),fun e=>h1.2.2 (e▸m2),fun e=>h2.2 (e▸m1),fun e=>h2.2 (e▸m2),fun e=>h3 (e▸m1),fun e=>h3 (e▸m2)⟩
theorem yh.jQ(s:yh K H D S sc p B bs P R iS rows E):∀b,b∈wg D P R iS->H b≠none:=fun b hb=>by
 unfold wg at hb;simp only[zag,zcK] at hb;rcases hb with rfl |rfl |rfl |⟨x,hx,hb⟩
 ·rw[s.mz.mz];simp
 ·rw[s.M9];simp
 ·obtain⟨EC,h,_⟩:=s.rows;rw[h];simp
 ·obtain⟨hd,fi,xs,fa⟩:=s.frames x hx;simp only[zaR,or_false] at hb;rcases hb with rfl |rfl
  ·rw[fa.fr];simp
  ·rw[fa.bd];simp
theorem yh.draw(s:yh K H D S sc p B bs P R iS rows E)(u:aZ D H H')(dk:F5 K H' D S sc p'):yh K H' D S sc p' B bs P R iS rows E:=by
 obtain⟨n1,n2,n3,n4⟩:=s.ne;have uS:aU (O D P R iS E) H H':=aU.one u (.inl (by simp[wg]));refine⟨dk,s.box.up uS,s.i3,u _ _ n1.symm s.M9,fun x hx=>?_,?_,s.nd,s.nS⟩
 ·obtain⟨hd,fi,xs,fa⟩:=s.frames x hx;obtain⟨m1,m2,_⟩:=n4 x hx;exact⟨hd,fi,xs,fa.up uS ((u _ _ m1 fa.fr).trans fa.fr.symm) ((u _ _ m2 fa.bd).trans fa.bd.symm)⟩
 ·obtain⟨EC,h,f,l⟩:=s.rows;exact⟨EC,u _ _ n2.symm h,f.up uS,l⟩
theorem yh.same(s:yh K H D S sc p B bs P R iS rows E)(e:ar H H'):yh K H' D S sc p B bs P R iS rows E:=s.draw (.of e) (s.mz.same e)
theorem yh.av(s:yh K H D S sc p B bs P R iS rows E):iJ K (·=D) H B bs:=⟨s.box.sub fun b hb=>.inl (by rw[show b=D from hb];simp[wg]),s.i3⟩
theorem yh.row(s:yh K H D S sc p B bs P R iS rows E){EC:List V}(hR:H R=some (.lst EC)){k:Int}{w:PG.Wd}{q:zdm}(hq:H q=some (.lst [.int k,.str (nU w)]))(nq:¬O D P R iS E q):yh K (upd H R (.lst (EC++[.ref q]))) D S sc p B bs P R iS (rows++[(k,w)]) E:=by
 obtain⟨n1,n2,n3,n4⟩:=s.ne;have mR:R∈wg D P R iS:=by simp[wg]
 have uS:aU (O D P R iS E) H (upd H R (.lst (EC++[.ref q]))):=aU.refl.put (.inl mR) _;have Zt:S≠R:=fun e=>s.nS (by rw[e];exact mR);refine⟨⟨by rw[aE n2];exact s.mz.mz,by rw[aE Zt];exact s.mz.AS,s.mz.ne,s.mz.len⟩,s.box.up uS,s.i3,by rw[aE n3];exact s.M9,fun x hx=>?_,?_,s.nd,s.nS⟩
 ·obtain⟨hd,fi,xs,fa⟩:=s.frames x hx;obtain⟨_,_,_,_,m1,m2⟩:=n4 x hx;exact⟨hd,fi,xs,fa.up uS (aE m1) (aE m2)⟩
 ·obtain⟨Zu,h,f,l⟩:=s.rows;rw[hR] at h;cases h;refine⟨_,aq,?_,by simp[l]⟩;rw[zax];exact(f.up uS).snoc (Fix.lst (by rw[aE (fun e=>nq (.inl (by rw[e];exact mR)))];exact hq) nq (.cons .int (.cons .str .nil)))
theorem yh.push(s:yh K H D S sc p B bs P R iS rows E){f:PG.Frame}{a b:zdm}{hd fi:V}{xs:List V}(fa:jR K (O D P R iS E) H f a b hd fi xs)(ha:a ∉ wg D P R iS)(hb:b ∉ wg D P R iS)(Zv:a≠b)(Zw:S≠a)(Zx:S≠b)(ea:a∈E)(eb:b∈E) :
 yh K (upd H P (.lst ((iS.reverse.map fun x=>.ref x.2.1)++[.ref a]))) D S sc p B bs P R ((f,a,b)::iS) rows E:=by
 obtain⟨n1,n2,n3,n4⟩:=s.ne;have mP:P∈wg D P R iS:=by simp[wg]
 have uS:aU (O D P R iS E) H (upd H P (.lst ((iS.reverse.map fun x=>.ref x.2.1)++[.ref a]))):=aU.refl.put (.inl mP) _;have j:∀c,O D P R ((f,a,b)::iS) E c->O D P R iS E c:=fun c hc=>by
  simp only[O,wg,zag,zcb,zbA,zbp] at hc ⊢;rcases hc with (h |h |h |h |h |h) |h
  ·exact .inl (.inl h)
  ·exact .inl (.inr (.inl h))
  ·exact .inl (.inr (.inr (.inl h)))
  ·exact .inr (by rw[h];exact ea)
  ·exact .inr (by rw[h];exact eb)
  ·exact .inl (.inr (.inr (.inr h)))
  ·exact .inr h
 have Zy:S≠P:=fun e=>s.nS (by rw[e];exact mP);unfold wg at ha hb;simp only[zag,not_or] at ha hb;have nd:=s.nd;unfold wg at nd;simp only[zaj,zag,not_or] at nd;obtain⟨⟨d1,d2,d5⟩,⟨p1,p4⟩,r3,fl⟩:=nd;have nS:=s.nS;unfold wg at nS;simp only[zag,not_or] at nS;refine⟨⟨by rw[aE n1];exact s.mz.mz,by rw[aE Zy];exact s.mz.AS,s.mz.ne,s.mz.len⟩,(s.box.up uS).sub j,s.i3,by rw[aq,zaW,zax];rfl,fun x hx=>?_,?_,?_,?_⟩
 ·rcases zag.mp hx with rfl |hx
  ·exact⟨hd,fi,xs,(fa.up uS (aE ha.2.1) (aE hb.2.1)).sub j⟩
  ·obtain⟨hd,fi,Zz,fa⟩:=s.frames x hx;obtain⟨_,_,k3,k4,_,_⟩:=n4 x hx;exact⟨hd,fi,Zz,(fa.up uS (aE k3) (aE k4)).sub j⟩
 ·obtain⟨EC,h,g,l⟩:=s.rows;exact⟨EC,by rw[aE n3.symm];exact h,(g.up uS).sub j,l⟩
 ·unfold wg;rw[zcb];simp only[zbA,zbp,zaj,zag,not_or];exact⟨⟨d1,d2,fun e=>ha.1 e.symm,fun e=>hb.1 e.symm,d5⟩,⟨p1,fun e=>ha.2.1 e.symm,fun e=>hb.2.1 e.symm,p4⟩,⟨fun e=>ha.2.2.1 e.symm,fun e=>hb.2.2.1 e.symm,r3⟩,⟨Zv,ha.2.2.2⟩,hb.2.2.2,fl⟩
 ·unfold wg;rw[zcb];simp only[zbA,zbp,zag,not_or];exact⟨nS.1,nS.2.1,nS.2.2.1,Zw,Zx,nS.2.2.2⟩
end
theorem cm{X:Cx}{K:zaa}(h:X.K=K):PN X (w9 K):=h▸ay
def Kept (D:zdm) (H H':Hp):Prop:=aZ D H H'/\∀b,H b≠none->H' b≠none
theorem Kept.up{D:zdm}{H H1 H2:Hp}(k:Kept D H H1)(u:aZ D H1 H2)(hD:H2 D≠none):Kept D H H2:=⟨k.1.trans u,fun b hb=>u.jQ hD b (k.2 b hb)⟩
theorem Kept.same{D:zdm}{H H1 H2:Hp}(k:Kept D H H1)(s:ar H1 H2):Kept D H H2:=⟨k.1.trans (.of s),fun b hb=>by
 have:=k.2 b hb;cases z:H1 b with
 |none=>exact absurd z this
 |some o=>rw[s _ _ z];simp⟩
theorem Kept.put{D q:zdm}{H H1:Hp}(k:Kept D H H1)(hq:H q=none)(o:HO):Kept D H (upd H1 q o):=⟨fun b u n e=>by rw[aE (aH e hq)];exact k.1 b u n e,fun b hb=>by
 by_cases z:b=q
 ·rw[z,aq];simp
 ·rw[aE z];exact k.2 b hb⟩
def aV:PG.bh->List (List PG.bh)
 |.ifs _ _ _ _ a b=>[a,b]
 |.eD _ _ _ _ a=>[a]
 |_=>[]
def gP (s:PG.bh) (x:Int):Int:=match s with
 |.eD k _ _ _ _=>k
 |_=>x
def mB (s:PG.bh) (x:Int):List Int:=match s with
 |.stop _=>[0]
 |.ifs _ _ _ _ a b=>[PG.aW a x,PG.aW b x]
 |.eD k _ _ _ a=>[PG.aW a k,x]
 |_=>[x]
theorem F8(s:PG.bh)(x:Int):PG.eM s x=(s.row,s.wd,mB s x)::((aV s).flatMap fun b=>PG.aF b (gP s x)):=by
 cases s<;>simp[PG.eM,PG.bh.row,PG.bh.wd,mB,aV,gP]
def gQ (r:PG.cU):Dp:=.tup [.int r.1,.str (nU r.2.1),.tup (r.2.2.map .int)]
section
variable(K:zaa)
def nJ:Sp:=fun vs H Q _=>∃(b:zdm) (body:List PG.bh) (x:Int),vs=[.ref b,.int x]/\Rep K H (.lst (body.map dY)) (.ref b)/\body.length<=100000/\Q (.int (PG.aW body x)) H
def yV:Sp:=fun vs H Q _=>∃(v:V) (st:PG.bh) (x:Int),vs=[v,.int x]/\Rep K H (dY st) v/\Q (.int (gP st x)) H
def tW:Sp:=fun vs H Q _=>∃(v:V) (st:PG.bh) (H0:Hp),vs=[v]/\Rep K H0 (dY st) v/\ar H0 H/\∀l us H',ar H H'->H l=none->H' l=some (.lst us)->aN K H0 ((aV st).map fun b=>.lst (b.map dY)) us->Q (.ref l) H'
end
theorem gI{K:zaa}{H:Hp}:∀(s:PG.bh) {v:V},Rep K H (dY s) v->∃a ys,v=.ref a/\bS K H a (.str (nU s.wd) :: .int s.row::ys):=by
 intro s v h;have key:∃ds,dY s=.tup (.str (nU s.wd) :: .int s.row::ds):=by
  cases s<;>exact⟨_,by rw[dY];rfl⟩
 obtain⟨ds,e⟩:=key;rw[e,Rep.a0] at h;obtain⟨a,xs,rfl,q,r⟩:=h;rw[aN.aJ] at r;obtain⟨v1,t1,rfl,e1,r⟩:=r;rw[aN.aJ] at r;obtain⟨v2,t2,rfl,e2,_⟩:=r;rw[Rep.br] at e1;rw[Rep.bg] at e2;subst e1 e2;exact⟨a,t2,rfl,q⟩
section
variable(K:zaa)
def F9 (st:PG.bh):Prop:=∀b∈aV st,b.length<=100000
def Ga:Sp:=fun vs H Q _=>∃(v:V) (st:PG.bh) (x:Int),vs=[v,.int x]/\Rep K H (dY st) v/\F9 st/\∀u H',ar H H'->Rep K H' (.tup ((mB st x).map .int)) u->Q u H'
end
mutual
def Jz:Dp->Bool
 |.lst _=>false
 |.tup l=>se l
 |_=>true
def se:List Dp->Bool
 |[]=>true
 |d::r=>Jz d&&se r
end
section
variable{K:zaa}{H H':Hp}{tl:zdm}{xs:List V}
mutual
theorem yX(h:H tl=some (.lst xs))(u:aU (·=tl) H H'):∀(d:Dp) (v:V),Jz d=true->Rep K H d v->Rep K H' d v
 |.bO,v,_,r=>by rw[Rep.nF] at r ⊢;exact r
 |.bl b,v,_,r=>by rw[Rep.oM] at r ⊢;exact r
 |.int b,v,_,r=>by rw[Rep.bg] at r ⊢;exact r
 |.str b,v,_,r=>by rw[Rep.br] at r ⊢;exact r
 |.lst l,v,e,_=>by rw[Jz] at e;cases e
 |.tup l,v,e,r=>by
  rw[Jz] at e;rw[Rep.a0] at r ⊢;obtain⟨a,ys,rfl,q,rs⟩:=r;refine⟨a,ys,rfl,?_,qE h u l ys e rs⟩;rcases q with (q |⟨o,q⟩) |q
  ·exact .inl (.inl (u _ _ (bP q h (by intro z;cases z)) q))
  ·exact .inl (.inr ⟨o,u _ _ (bP q h (by intro z;cases z)) q⟩)
  ·exact .inr q
theorem qE(h:H tl=some (.lst xs))(u:aU (·=tl) H H'):∀(ds:List Dp) (vs:List V),se ds=true->aN K H ds vs->aN K H' ds vs
 |[],vs,_,r=>by rw[aN.bu] at r ⊢;exact r
 |d::ds,vs,e,r=>by
  rw[se,za4] at e;rw[aN.aJ] at r ⊢;obtain⟨v,t,rfl,r1,r2⟩:=r;exact⟨v,t,rfl,yX h u d v e.1 r1,qE h u ds t e.2 r2⟩
end
theorem JA(h:H tl=some (.lst xs)){ds:List Dp}{vs:List V}(e:se ds=true)(r:aN K H ds vs):dv K (·=tl) H ds vs:=fun _ u=>qE h u ds vs e r
theorem Na(h:H tl=some (.lst xs)){d:Dp}{v:V}(e:Jz d=true)(r:Rep K H d v):Fix K (·=tl) H d v:=fun _ u=>yX h u d v e r
end
theorem qF:∀l:List Int,se (l.map .int)=true
 |[]=>by simp[se]
 |i::r=>by rw[zar,se,qF r];simp[Jz]
theorem Gb(r:PG.cU):Jz (gQ r)=true:=by simp[gQ,Jz,se,qF]
theorem wj:∀l:List PG.cU,se (l.map gQ)=true
 |[]=>by simp[se]
 |r::l=>by rw[zar,se,Gb,wj l];rfl
section
variable(K:zaa)
def sU (n:Nat):Sp:=fun vs H Q _=>∃(b:zdm) (body:List PG.bh) (x:Int),vs=[.ref b,.int x]/\Rep K H (.lst (body.map dY)) (.ref b)/\PG.dD body<n/\(PG.dQ body).length<=1000/\
 ∀l us H',ar H H'->H l=none->H' l=some (.lst us)->aN K H' ((PG.aF body x).map gQ) us->Q (.ref l) H'
end
mutual
theorem k8:∀(s:PG.bh) (b:List PG.bh),b∈aV s->(PG.dQ b).length+1<=(PG.iI s).length/\PG.dD b+1<=PG.ic s
 |.ifs k _ _ _ x y,b,h=>by
  simp only[aV,zag,zaR,or_false] at h;rw[PG.iI,PG.ic];simp only[zak,zap];rcases h with rfl |rfl<;>lia
 |.eD k _ _ _ x,b,h=>by
  simp only[aV,zag,zaR,or_false] at h;rw[PG.iI,PG.ic];simp only[zak];subst h;lia
 |.ask _ _,b,h=>by cases h
 |.put _ _ _,b,h=>by cases h
 |.say _ _,b,h=>by cases h
 |.cg _ _ _ _,b,h=>by cases h
 |.stop _,b,h=>by cases h
end
theorem qG:∀(l:List PG.bh) (s:PG.bh),s∈l->(PG.iI s).length<=(PG.dQ l).length/\PG.ic s<=PG.dD l
 |[],s,h=>by cases h
 |a::r,s,h=>by
  rw[PG.dQ,PG.dD,zap];rcases zag.mp h with rfl |h
  ·lia
  ·have:=qG r s h;lia
theorem DD(s:PG.bh):1<=(PG.iI s).length:=by cases s<;>simp[PG.iI]
theorem kE:∀l:List PG.bh,l.length<=(PG.dQ l).length
 |[]=>zaM _
 |s::r=>by
  rw[PG.dQ,zap,zak];have:=DD s;have:=kE r;lia
section
variable(K:zaa)
def xo:Sp:=fun vs H Q _=>∃(v:V) (pr:PG.Prog),vs=[v]/\Rep K H (j5 pr) v/\PG.dD pr.body<=4/\(PG.dQ pr.body).length<=1000/\
 ∀l us H',ar H H'->H l=none->H' l=some (.lst us)->aN K H' ((PG.aF pr.body 0).map gQ) us->Q (.ref l) H'
end
end L2
namespace L2
open PySem
structure Uc(K:zaa)(H H2:Hp)(tl:zdm)(H3:Hp)(us:List V)(pre:List PG.Tg):Prop where
 s:ar H H3
 u:aU (·=tl) H2 H3
 y:H3 tl=some (.lst us)
 f:dv K (·=tl) H3 (pre.map Qs) us
 l:us.length=pre.length
section
variable{K:zaa}{H H2 H3 H4:Hp}{tl p:zdm}{us vs:List V}{pre:List PG.Tg}{ds:List Dp}{g:PG.Tg}
theorem Uc.same(a:Uc K H H2 tl H3 us pre)(s:ar H3 H4):Uc K H H2 tl H4 us pre:=⟨a.s.trans s,a.u.trans (.of s),s _ _ a.y,a.f.up (.of s),a.l⟩
end
theorem Gd:∀w:PG.Wd,(V.str (nU w)=V.str (zac "must"))↔w=.cg:=by
 intro w;cases w<;>decide +kernel
theorem DE{K:zaa}{a D:zdm}{xs:List V}{tc:TT}{te:TE}{Q:VK}{r:St}{H:Hp}(p:Nat->Bool)(f:Nat->V)(hS:bS K H a xs)(hl:xs.length<=16000000)(hD:H D=none)
 (test:∀i x,xs[i]?=some x->∀H2,ar H H2->∀R:Bool->Hp->Prop,(∀H3,ar H2 H3->R (p i) H3)->tc (some x::r) H2 R)
 (step:∀i x,xs[i]?=some x->p i=true->∀H2,ar H H2->∀R:VK,(∀H3,ar H2 H3->R (f i) H3)->te (some x::r) H2 R)
 (q:∀H2,ar H H2->H2 D=some (.lst (((zaz xs.length).filter p).map f))->Q (.ref D) H2):lU (E7 K a) D (jn 0) tc te Q (none::r) (upd H D (.lst [])):=by
 refine⟨fun i m τ H2=>m=xs.length-i/\i<=xs.length/\(∃x,τ=x::r)/\ar H H2/\H2 D=some (.lst (((zaz i).filter p).map f)),⟨xs.length,by simp,zaM _,⟨none,rfl⟩,ar.new hD _,by rw[aq];simp⟩,?_⟩
 rintro i m τ H2 ⟨rfl,hi,⟨x,rfl⟩,s2,h2⟩
 by_cases jL:i<xs.length
 ·refine .inr ⟨⟨xs,xs[i],s2.bj hS,by simp[jL]⟩,fun τ' H'=>(∃x,τ'=x::r)/\ar H H'/\H' D=some (.lst (((zaz (i+1)).filter p).map f)),fun τ' H' ⟨h1,h3,h4⟩=>⟨xs.length-(i+1),by lia,rfl,jL,h1,h3,h4⟩,fun y H' hy=>?_⟩;obtain⟨rfl,hy⟩:=hy;have ey:=hy _ (s2.bj hS);simp only[jn,zct];refine test i y ey _ s2 _ fun H3 s3=>?_;have JB:=s2.trans s3;have h3:=s3 _ _ h2;rw[zbU,zcv,zax];cases hp:p i with
  |false=>
   rw[if_neg zas];exact⟨⟨_,rfl⟩,JB,by rw[h3];simp[hp]⟩
  |true=>
   rw[if_pos rfl];refine step i y ey hp _ JB _ fun H4 s4=>⟨_,s4 _ _ h3,?_,⟨_,rfl⟩,?_,?_⟩
   ·have h1:(((zaz i).filter p).map f).length<=i:=by
     rw[zae];exact zau (zc6 _ _) (by rw[zbu];lia)
    have:zdu=2 ^ 24:=rfl;lia
   ·intro b o e;rw[aE (aH e hD)];exact s4 _ _ (JB _ _ e)
   ·rw[aq];simp[hp]
 ·have e:i=xs.length:=by lia
  subst e;exact .inl ⟨⟨xs,s2.bj hS,zam _⟩,q H2 s2 h2⟩
def Qv:Option Nat->V
 |none=>.bO
 |some e=>.int e
def ZA (A:Nat->zdm) (p:Nat):Option PG.Mt->Option V
 |none=>none
 |some (.back q)=>some (.int q)
 |some (.op _ _)=>some (.ref (A p))
structure Lr(H:Hp)(d:zdm)(m:PG.Mm)(A:Nat->zdm)(Hx:Hp)(kvs:List (Key×V)):Prop where
 s:ar H Hx
 dn:H d=none
 dd:Hx d=some (.dK kvs)
 at_:∀p:Nat,cB kvs (.inl (p:Int))=ZA A p (m p)
 ls:∀p e f,m p=some (.op e f)->Hx (A p)=some (.lst [Qv e,Qv f])/\H (A p)=none
 inj:∀p q e f e' f',m p=some (.op e f)->m q=some (.op e' f')->A p=A q->p=q
section
variable{H Hx H':Hp}{d b:zdm}{m:PG.Mm}{A:Nat->zdm}{kvs:List (Key×V)}{o:HO}
theorem Lr.ne(t:Lr H d m A Hx kvs){p:Nat}{e f:Option Nat}(h:m p=some (.op e f)):A p≠d:=bP (t.ls p e f h).1 t.dd (by intro z;cases z)
theorem Lr.same(t:Lr H d m A Hx kvs)(s:ar Hx H'):Lr H d m A H' kvs:=⟨t.s.trans s,t.dn,s _ _ t.dd,t.at_,fun p e f h=>⟨s _ _ (t.ls p e f h).1,(t.ls p e f h).2⟩,t.inj⟩
theorem Lr.put(t:Lr H d m A Hx kvs)(hb:H b=none)(nd:b≠d)(nl:∀p e f,m p=some (.op e f)->A p≠b)(o:HO):Lr H d m A (upd Hx b o) kvs:=
 ⟨fun z u e=>by rw[aE (aH e hb)];exact t.s z u e,t.dn,by rw[aE nd.symm];exact t.dd,t.at_,fun p e f h=>⟨by rw[aE (nl p e f h)];exact(t.ls p e f h).1,(t.ls p e f h).2⟩,t.inj⟩
end
structure tX(K:zaa)(H:Hp)(tl:zdm)(H3:Hp)(us:List V)(ds:List Dp):Prop where
 s:ar H H3
 y:H3 tl=some (.lst us)
 f:dv K (·=tl) H3 ds us
 l:us.length=ds.length
section
variable{K:zaa}{H H3 H4:Hp}{tl p p1 p2:zdm}{us vs:List V}{ds es:List Dp}{d:Dp}{v:V}
theorem tX.new(h:H tl=none):tX K H tl (upd H tl (.lst [])) [] []:=⟨ar.new h _,aq,.nil,rfl⟩
theorem tX.same(a:tX K H tl H3 us ds)(s:ar H3 H4):tX K H tl H4 us ds:=⟨a.s.trans s,s _ _ a.y,a.f.up (.of s),a.l⟩
theorem tX.push(a:tX K H tl H3 us ds)(ht:H tl=none)(fv:Fix K (·=tl) H3 d v):tX K H tl (upd H3 tl (.lst (us++[v]))) (us++[v]) (ds++[d]):=by
 have uu:aU (·=tl) H3 (upd H3 tl (.lst (us++[v]))):=aU.refl.put (O:=(·=tl)) rfl _;exact⟨fun z o e=>by rw[aE (aH e ht)];exact a.s z o e,aq,(a.f.snoc fv).up uu,by simp[a.l]⟩
theorem tX.row(a:tX K H tl H3 us ds)(ht:H tl=none){k:Int}{w:PG.Wd}{ws:List Int}(h1:H3 p1=none)(h2:(upd H3 p1 (.tup (ws.map V.int))) p2=none) :
 (upd (upd H3 p1 (.tup (ws.map V.int))) p2 (.tup [.int k,.str (nU w),.ref p1])) tl=some (.lst us)/\
 tX K H tl (upd (upd (upd H3 p1 (.tup (ws.map V.int))) p2 (.tup [.int k,.str (nU w),.ref p1])) tl (.lst (us++[.ref p2]))) (us++[.ref p2]) (ds++[gQ (k,w,ws)]):=by
 have s1:=ar.new h1 (.tup (ws.map V.int));have a1:=a.same s1;have t1:(upd H3 p1 (.tup (ws.map V.int))) p1=some (.tup (ws.map V.int)):=aq;have n1:p1≠tl:=(aH a.y h1).symm;generalize upd H3 p1 (.tup (ws.map V.int))=H5 at *;have s2:=ar.new h2 (.tup [.int k,.str (nU w),.ref p1]);have a2:=a1.same s2;have t2:(upd H5 p2 (.tup [.int k,.str (nU w),.ref p1])) p2=some (.tup [.int k,.str (nU w),.ref p1]):=aq;have n2:p2≠tl:=(aH a1.y h2).symm;have t1:=s2 _ _ t1;generalize upd H5 p2 (.tup [.int k,.str (nU w),.ref p1])=H6 at *;refine⟨a2.y,a2.push ht (Fix.tup t2 n2 (.cons .int (.cons .str (.cons (Fix.tup t1 n1 ?_) .nil))))⟩;have allI:∀l:List Int,dv K (·=tl) H6 (l.map Dp.int) (l.map V.int):=fun l=>by
  induction l with
  |nil=>exact .nil
  |cons i r ih=>exact .cons .int ih
 exact allI ws
end
theorem AU{kvs:List (Key×V)}{k:Key}{v:V}(h:k ∉ kvs.map (·.1)):putK kvs k v=kvs++[(k,v)]:=by
 unfold putK;rw[if_neg];intro z;rw[zbB] at z;obtain⟨x,hx,e⟩:=z;exact h (zaF.mpr ⟨x,hx,of_decide_eq_true e⟩)
theorem oP:∀(more kvs:List (Key×V)),((kvs++more).map (·.1)).Nodup->iU kvs more=kvs++more
 |[],kvs,_=>by simp[iU]
 |p::r,kvs,h=>by
  have hp:p.1 ∉ kvs.map (·.1):=fun z=>by
   rw[zax,zbe] at h;exact h.2.2 _ z _ (by simp) rfl
  show iU (putK kvs p.1 p.2) r=_;rw[AU hp,oP r _ (by rw[zbf];exact h),zbf];rfl
def gJ (ss:List PG.bh) (vs:List V):List (Key×V):=za8 (fun s v=>(Sum.inl s.row,v)) ss vs
theorem tY:∀(ss:List PG.bh) (vs:List V),vs.length=ss.length->(gJ ss vs).map (·.1)=ss.map fun s=>(Sum.inl s.row:Key)
 |[],[],_=>rfl
 |[],_::_,h=>by simp at h
 |_::_,[],h=>by simp at h
 |s::ss,v::vs,h=>by
  show _::(gJ ss vs).map (·.1)=_;rw[tY ss vs (by simpa using h)];rfl
theorem tZ{ss:List PG.bh}(h:ss.Pairwise fun a b=>a.row<b.row):(ss.map fun s=>(Sum.inl s.row:Key)).Nodup:=by
 refine zaX.mpr (h.imp fun {a b} Sq e=>?_);have:=Sum.inl.inj e;lia
theorem jv:∀(ss:List PG.bh) (vs:List V),vs.length=ss.length->ss.Pairwise (fun a b=>a.row<b.row)->∀i (hi:i<ss.length) v,vs[i]?=some v->cB (gJ ss vs) (.inl ss[i].row)=some v
 |[],_,_,_,i,hi,_,_=>by simp at hi
 |_::_,[],h,_,_,_,_,_=>by simp at h
 |s::ss,v::vs,h,hp,0,hi,u,hu=>by
  simp at hu;subst hu;show cB ((_,v)::gJ ss vs) _=_;exact cG rfl
 |s::ss,v::vs,h,hp,i+1,hi,u,hu=>by
  rw[za1] at hp;have lt:=hp.1 (ss[i]'(by simpa using hi)) (zao _);show cB ((.inl s.row,v)::gJ ss vs) (.inl (ss[i]'(by simpa using hi)).row)=_;rw[cH (fun e=>by have e:=Sum.inl.inj e;lia)];exact jv ss vs (by simpa using h) hp.2 i (by simpa using hi) u (by simpa using hu)
theorem JC(s:PG.bh):PG.cN s=s::(aV s).flatMap PG.ax:=by
 cases s<;>simp[PG.cN,aV]
section
variable(K:zaa)
def lg (n:Nat):Sp:=fun vs H Q _=>∃(b:zdm) (body:List PG.bh) (H0:Hp),vs=[.ref b]/\ar H0 H/\Rep K H0 (.lst (body.map dY)) (.ref b)/\PG.dD body<n/\(PG.dQ body).length<=1000/\
 ∀l us H',ar H H'->H l=none->H' l=some (.lst us)->aN K H0 ((PG.ax body).map dY) us->Q (.ref l) H'
end
theorem Ge{K:zaa}{tl:TE}{g:TG}{tb:TS}{D:Ends}{σ:St}{H:Hp} (h:∀U:zdm->Hp->Prop,(∀a H1,(∃W:Nat->Nat->St->Hp->Prop,(∃m,W 0 m σ H1)/\∀i m σ H,W i m σ H->
 ((E7 K a).stop i H/\D.nx σ H)\/((E7 K a).go i H/\∃N:St->Hp->Prop,(∀σ' H',N σ' H'->∃m',m'<m/\W (i+1) m' σ' H')/\∀x H',(E7 K a).wZ i H x H'->g x σ H' fun σ2 H2=>tb {D with nx:=N,ct:=N,bk:=D.nx} σ2 H2))->U a H1)->
 tl σ H fun x H1=>∃a,x=.ref a/\(∃xs,bS K H1 a xs)/\U a H1):Dd (IV K tl) g tb D σ H:=h _ fun _ _ x=>x
theorem mC:∀a b:List PG.bh,PG.ax (a++b)=PG.ax a++PG.ax b
 |[],b=>by simp[PG.ax]
 |s::r,b=>by
  show PG.ax (s::(r++b))=_;rw[PG.ax,PG.ax,mC r b,zbf]
theorem Gf(s:PG.bh):PG.ax [s]=PG.cN s:=by rw[PG.ax,PG.ax,zba]
theorem yY(b:List PG.bh):(PG.ax b).length=(PG.dQ b).length:=by rw[<- PG.fJ,zae]
end L2
namespace HT
open PySem PySem.Spec PyProof.Rows
section
variable{prog:zdy}{w:zdo}{A:zdx}{E:zdn->zdw->Prop}{s:zdw}
theorem nV{t sl:zdm}{items:Array zdn}{vl vu:zdn}{lo hi:Option Int}{Q:zdn->zdw->Prop}(ht:IsTup s.heap t items)(hs:s.heap.IsSliceOf sl vl vu .none)(pl:IsPart vl lo)(pu:IsPart vu hi)
 (hw:fV items.size 0 lo=0/\fV items.size items.size hi=items.size) (h:Q (.ref t) s):wpAny (model prog w) A (getItem (.ref t) (.ref sl)) Q E s:=by
 have hj:fV items.size items.size hi<=items.size:=Fe _ _ (zam _) hi;obtain⟨os,ME,Sg,PK⟩:=id hs;have Tv:s.TypeIs (.ref sl) "slice":=⟨os,ME,Sg⟩
 unfold getItem
 try with_reducible refine zdr ?_
 first |refine zdp (zdq ?_) |skip
 refine zdp (wpAny_sequenceKey ht.typeIs (by decide) ?_);refine zdp (wpAny_callSpecial?_slot (name:=zac "__getitem__") ht.typeIs zbm
  (wpAny_call_entry zbm ht.typeIs entry_tuple_getitem ?_ (args_tuple_getitem _ _)))
 show wpAny _ _ (Builtin.Tuple.tupleItemsOf (.ref t) >>= _) _ _ s;refine zdp (tupleItemsOf_ ht ?_);refine zdp (wpAny_typeOf Tv ?_);rw[if_pos (by decide)];refine zdp (kx hs pl pu ?_);have Ud:((((fV items.size 0 lo:Nat):Int)==0&&(1:Int)==1&&(fV items.size items.size hi-fV items.size 0 lo)==items.size)=true):=by
  rw[hw.1,hw.2];simp
 show wpAny _ _ (if (((fV items.size 0 lo:Nat):Int)==0&&(1:Int)==1&&(fV items.size items.size hi-fV items.size 0 lo)==items.size)=true then _ else _) _ _ s;rw[if_pos Ud];refine zdp (m:=Builtin.Tuple.tupleIsExact _) ?_;unfold Builtin.Tuple.tupleIsExact;refine zdp (wpAny_typeOf ht.typeIs (zdq ?_));rw[if_pos (by simp)]
 first
  |exact zdp (wpAny_rule (zdq ⟨_,rfl,zdq h⟩))
  |exact zdp (zdq (zdq ⟨_,rfl,zdq h⟩))
end
end HT
namespace L2
open PySem PySem.Spec PyProof.Rows
def Qw (K:zaa):V->Option Int->Option Int->Hp->VK->Prop:=fun x lo hi H Q=>∃a xs,x=.ref a/\bS K H a xs/\
 ((HT.fV xs.length 0 lo=0/\HT.fV xs.length xs.length hi=xs.length)->Q (.ref a) H)/\
 (¬(HT.fV xs.length 0 lo=0/\HT.fV xs.length xs.length hi=xs.length)->∀p,H p=none->Q (.ref p) (upd H p (.tup (ma xs lo hi))))
theorem JD{X:Cx}:PL X (Qw X.K):=by
 intro pins s σ H x v vl vu lo hi sl Q I rx hs pl pu h;obtain⟨a,xs,rfl,hx,h1,h2⟩:=h;by_cases hw:HT.fV xs.length 0 lo=0/\HT.fV xs.length xs.length hi=xs.length
 ·cases rx;obtain⟨bq,r,ht,hz⟩:=I.tuple hx;have hlen:bq.toArray.size=xs.length:=by rw[zat];exact r.length.symm
  refine⟨"tuple",_,zbm.lookup,ht.typeIs,?_⟩;exact HT.nV ht hs pl pu (by rw[hlen];exact hw) ⟨.ref a,H,I,rfl,h1 hw⟩
 ·exact MF pins s σ H (.ref a) v vl vu lo hi sl Q I rx hs pl pu ⟨a,xs,rfl,hx,hw,h2 hw⟩
def iV {α β γ:Type} (R:α->β->γ->Prop):List α->List β->List γ->Prop
 |[],[],[]=>True
 |a::as,b::bs,c::cs=>R a b c/\iV R as bs cs
 |_,_,_=>False
section
variable{α β γ:Type}{R S:α->β->γ->Prop}
theorem iV.bu{bs:List β}{cs:List γ}:iV R [] bs cs↔bs=[]/\cs=[]:=by
 cases bs<;>cases cs<;>simp[iV]
theorem iV.aJ{a:α}{as:List α}{bs:List β}{cs:List γ}:iV R (a::as) bs cs↔∃b OD c OE,bs=b::OD/\cs=c::OE/\R a b c/\iV R as OD OE:=by
 constructor
 ·intro h;cases bs with
  |nil=>simp[iV] at h
  |cons b bs=>
   cases cs with
   |nil=>simp[iV] at h
   |cons c cs=>exact⟨b,bs,c,cs,rfl,rfl,h.1,h.2⟩
 ·rintro ⟨b,OD,c,OE,rfl,rfl,h1,h2⟩
  exact⟨h1,h2⟩
theorem iV.length:∀ {as:List α} {bs:List β} {cs:List γ},iV R as bs cs->bs.length=as.length/\cs.length=as.length
 |[],_,_,h=>by obtain⟨rfl,rfl⟩:=iV.bu.mp h;exact⟨rfl,rfl⟩
 |a::as,_,_,h=>by
  obtain⟨b,OD,c,OE,rfl,rfl,_,h2⟩:=iV.aJ.mp h;have:=iV.length h2;simp[this]
theorem iV.imp:∀ {as:List α} {bs:List β} {cs:List γ},iV R as bs cs->(∀a b c,a∈as->c∈cs->R a b c->S a b c)->iV S as bs cs
 |[],_,_,h,_=>by obtain⟨rfl,rfl⟩:=iV.bu.mp h;trivial
 |a::as,_,_,h,f=>by
  obtain⟨b,OD,c,OE,rfl,rfl,h1,h2⟩:=iV.aJ.mp h;exact⟨f a b c (zav ..) (zav ..) h1,h2.imp fun a' b' c' m1 m2=>f a' b' c' (zad _ m1) (zad _ m2)⟩
theorem iV.snoc:∀ {as:List α} {bs:List β} {cs:List γ} {a:α} {b:β} {c:γ},iV R as bs cs->R a b c->iV R (as++[a]) (bs++[b]) (cs++[c])
 |[],_,_,a,b,c,h,r=>by obtain⟨rfl,rfl⟩:=iV.bu.mp h;exact⟨r,trivial⟩
 |x::as,_,_,a,b,c,h,r=>by
  obtain⟨b',OD,c',OE,rfl,rfl,h1,h2⟩:=iV.aJ.mp h;exact⟨h1,iV.snoc h2 r⟩
end
theorem t9{K:zaa}{a D:zdm}{xs:List V}{te:TE}{Q:VK}{r:St}{H:Hp}(Pv:Nat->List V->Hp->Prop)(hS:fF K H a xs)(hl:xs.length<=16000000)(hD:H D=none)(h0:Pv 0 [] (upd H D (.lst [])))
 (step:∀i x ys H2,xs[i]?=some x->ar H H2->H2 D=some (.lst ys)->ys.length=i->Pv i ys H2->∀R:VK,(∀v H3,ar H2 H3->Pv (i+1) (ys++[v]) (upd H3 D (.lst (ys++[v])))->R v H3)->te (some x::r) H2 R)
 (q:∀ys H2,ar H H2->H2 D=some (.lst ys)->Pv xs.length ys H2->Q (.ref D) H2):lU (EA K a) D (jn 0) rZ te Q (none::r) (upd H D (.lst [])):=by
 refine⟨fun i m τ H2=>m=xs.length-i/\i<=xs.length/\(∃x,τ=x::r)/\ar H H2/\∃ys,H2 D=some (.lst ys)/\ys.length=i/\Pv i ys H2,⟨xs.length,by simp,zaM _,⟨none,rfl⟩,ar.new hD _,[],aq,rfl,h0⟩,?_⟩
 rintro i m τ H2 ⟨rfl,hi,⟨x,rfl⟩,s2,ys,h2,ly,p2⟩
 by_cases jL:i<xs.length
 ·refine .inr ⟨⟨xs,xs[i],s2.seq hS,by simp[jL]⟩,fun τ' H'=>(∃x,τ'=x::r)/\ar H H'/\∃ys,H' D=some (.lst ys)/\ys.length=i+1/\Pv (i+1) ys H',fun τ' H' ⟨h1,h3,h4⟩=>⟨xs.length-(i+1),by lia,rfl,jL,h1,h3,h4⟩,fun y H' hy=>?_⟩;obtain⟨rfl,hy⟩:=hy;have ey:=hy _ (s2.seq hS);simp only[jn,zct,rZ];rw[if_pos trivial];refine step i y ys _ ey s2 h2 ly p2 _ fun v H3 s3 p3=>⟨ys,s3 _ _ h2,?_,⟨_,rfl⟩,?_,ys++[v],aq,by simp[ly],p3⟩
  ·have:zdu=2 ^ 24:=rfl;lia
  ·intro b o e;rw[aE (aH e hD)];exact s3 _ _ (s2 _ _ e)
 ·have e:i=xs.length:=by lia
  subst e;exact .inl ⟨⟨xs,s2.seq hS,zam _⟩,q ys H2 s2 h2 p2⟩
theorem Gg{K:zaa}{H:Hp}{fl:List PG.cU}{fv:List V}(g2:aN K H (fl.map gQ) fv){i:Nat}{y:V}(hi:fv[i]?=some y)(li:i<fl.length) :
 ∃a p,y=.ref a/\bS K H a [.int fl[i].1,.str (nU fl[i].2.1),.ref p]/\bS K H p (fl[i].2.2.map V.int):=by
 obtain⟨v',Iu,rv⟩:=g2.get (i:=i) (d:=gQ fl[i]) (by rw[zah,zab li];rfl);rw[hi] at Iu;cases Iu;unfold gQ at rv;rw[Rep.a0] at rv;obtain⟨a,xs,rfl,hx,rs⟩:=rv;rw[aN.aJ] at rs;obtain⟨v1,t1,rfl,r1,rs⟩:=rs;rw[aN.aJ] at rs;obtain⟨v2,t2,rfl,r2,rs⟩:=rs;rw[aN.aJ] at rs;obtain⟨v3,t3,rfl,r3,rs⟩:=rs;rw[aN.bu] at rs;rw[Rep.bg] at r1;rw[Rep.br] at r2;obtain⟨p,ys,rfl,hp,ry⟩:=Rep.a0.mp r3;subst r1 r2 rs;have key:∀ {l:List Int} {ys:List V},aN K H (l.map Dp.int) ys->ys=l.map V.int:=by
  intro l
  induction l with
  |nil=>intro ys h;rw[zbD,aN.bu] at h;exact h
  |cons i r ih=>
   intro ys h;rw[zar,aN.aJ] at h;obtain⟨v,t,rfl,h1,h2⟩:=h;rw[Rep.bg] at h1;rw[h1,ih h2];rfl
 rw[key ry] at hp;exact⟨a,p,rfl,hx,hp⟩
end L2
namespace L3
open PySem PyProof.Rows
theorem JE:typeLookup (.type "list") "keys"=pure none:=by rw[typeLookup_type,builtinLookup_eq_fast];kernel_rfl
theorem JF:typeLookup (.type "list") "__getattr__"=pure none:=by rw[typeLookup_type,builtinLookup_eq_fast];kernel_rfl
section
variable{prog:zdy}{w:zdo}{A:zdx}{E:zdn->zdw->Prop}
theorem Gh(a:zdm)(u:Tok){hp:Heap}{g:Array GenState}{d:Drawn}{tk:Nat}{os:OsState}{bq:Array zdn}{n:Nat}{sl:Array (Option zdn)}{Q:Fin->zdw->Prop}(hx:hp.get? a=some ⟨.type "list",none,.seq bq n,sl⟩)(hA:A.handled=none)
 (h:∀h' JG e,Heap.NewAttrErr hp h' e (.ref a) "keys"->E (.ref e) ⟨h',g,d,JG,os⟩) :
 wpAny (model prog w) A (Builtin.«object.__getattribute__» ⟨[.ref a,.str "keys" u],[]⟩) Q E ⟨hp,g,d,tk,os⟩:=by
 have hT:(⟨hp,g,d,tk,os⟩:zdw).TypeIs (.ref a) "list":=⟨_,hx,rfl⟩
 have f4:=JE;unfold Builtin.«object.__getattribute__»
 repeat (any_goals (first |assumption |wp_step))
 exact wpAny_raiseAttrError hA h (attrMsg_fits (by decide +kernel) (by size_fits))
theorem DF(a:zdm){s:zdw}{bq:Array zdn}{n:Nat}{sl:Array (Option zdn)}{Q:Option zdn->zdw->Prop}(hx:s.heap.get? a=some ⟨.type "list",none,.seq bq n,sl⟩)(hA:A.handled=none)
 (h:∀h' tk,(∀b ob,s.heap.get? b=some ob->h'.get? b=some ob)->Q none {s with heap:=h',toks:=tk}):wpAny (model prog w) A (getAttr? (.ref a) "keys") Q E s:=by
 obtain⟨hp,g,d,tk,os⟩:=s;have hT:∀JG,(⟨hp,g,d,JG,os⟩:zdw).TypeIs (.ref a) "list":=fun _=>⟨_,hx,rfl⟩
 have f1:=sub_AttributeError;have f2:=F.slot_list_getattribute.lookup;have f3:=F.slot_list_getattribute.bind (.ref a);have f5:=JF;unfold getAttr? getAttrBy? getAttrBy
 repeat (any_goals (first |assumption |exact hT _ |wp_step))
 all_goals
  refine codeAny_call_builtin F.slot_list_getattribute.plain F.entry_list_ga (F.slot_list_getattribute.check _ _ _ _ _ _ _ _ (show (⟨hp,g,d,tk+1,os⟩:zdw).TypeIs (.ref a) "list" from ⟨_,hx,rfl⟩) (F.args_list_getattribute_2 _ _) ?_)
 all_goals
  refine Gh a tk hx hA fun h' JG e ne=>?_
 all_goals
  obtain⟨t',u',he⟩:=ne.there;show wpAny _ _ (getattributeRaised _ _ _ _ _ _ _) _ _ _;unfold getattributeRaised
  repeat (any_goals (first |assumption |wp_step))
 all_goals exact h _ _ ne.keeps
theorem lh:entryFor table "dict.update.loop"=some Builtin.«dict.update.loop»:=entryFor_of_tree (by kernel_rfl)
theorem fh:plainId "dict.update.loop"=true:=by decide +kernel
theorem yZ{κ:Type}[DecidableEq κ](knd:KeyKind prog w κ)(d it l:zdm)(items:Array zdn)(res:zdn)(hA:A.handled=none)(Jv:it≠d){R:Result->zdw->Prop}:∀(r:List (zdm×κ×zdn×zdn)) (i:Nat) (j:Int) (u:Tok) (kvs:List (κ×zdn)) (s:zdw),
 items.toList.drop i=r.map (fun q=>Value.ref q.1)->(∀q∈r,s.heap.IsTuple q.1 #[q.2.2.1,q.2.2.2]/\knd.is q.2.1 q.2.2.1=true)->s.heap.IsListIter it l i->s.heap.IsList l items->s.heap.DictOf knd d kvs->kvs.length+r.length<=zdu->
 (∀h' tk,h'.DictOf knd d (merged kvs (r.map fun q=>(q.2.1,q.2.2.2)))->(∀b o,b≠d->b≠it->s.heap.get? b=some o->h'.get? b=some o)->R (.ok (.ret res)) {s with heap:=h',toks:=tk})->
 codeAny (model prog w) A (.builtin "dict.update.loop" ⟨[.ref d,.ref it,.int j u,res],[]⟩) R s
 |[],i,j,u,kvs,s,hi,hp,hit,hl,hd,hz,hR=>by
  refine codeAny_builtin lh ?_;rw[Around.under_plainId fh _];show wpAny _ A.in1 (pyNext (.ref it) >>= _) _ _ s;refine zdp (wpAny_pyNext_list_end hA hit hl (by rw[<- zaZ];rw[zbD] at hi;exact zc7 (zdb.mp hi)) fun h' ext=>?_);show wpAny _ _ (Builtin.Dict.addKeywords d [] >>= _) _ _ _;refine zdp (zdq (zdq (hR h' s.toks ?_ fun b o _ h2 e=>?_)))
  ·obtain⟨o,es,ep,ho,rest⟩:=hd;exact⟨o,es,ep,ext d o Jv.symm ho,rest⟩
  ·exact ext b o h2 e
 |q::r,i,j,u,kvs,s,hi,hp,hit,hl,hd,hz,hR=>by
  have hx:items[i]?=some (Value.ref q.1):=by
   rw[<- zaZ,<- zcW,hi];rfl
  refine codeAny_builtin lh ?_;rw[Around.under_plainId fh _];show wpAny _ A.in1 (pyNext (.ref it) >>= _) _ _ s;refine zdp (wpAny_pyNext_list_item hit hl hx fun h' M7 sb=>?_);obtain⟨⟨oq,Ue,Ug,nq,ZC⟩,kq⟩:=hp q (zav ..);have ZD:q.1≠it:=fun z=>by
   obtain⟨oi,Nb,Qx,_⟩:=hit;rw[z,Nb] at Ue;cases Ue;rw[Qx] at Ug;exact absurd (Value.type.inj Ug) (by decide)
  have Qy:h'.get? q.1=some oq:=(sb.2 _ ZD).trans Ue;have BF:h'.DictOf knd d kvs:=by
   obtain⟨o,es,ep,ho,rest⟩:=hd;exact⟨o,es,ep,(sb.2 d Jv.symm).trans ho,rest⟩
  show wpAny _ A.in1 (holding [Value.ref q.1] _ >>= _) _ _ _;refine zdp (zdr (zdp (wpAny_tryCatch ?_)));unfold Builtin.Dict.pairItems;refine zdp (wpAny_typeOf (T:="tuple") ⟨oq,Qy,Ug⟩ ?_);rw[if_pos (by decide)];refine zdp (wpAny_seqItems (s:={s with heap:=h' }) Qy ZC (zdq ?_));show wpAny _ A.in1 (holding [q.2.2.1,q.2.2.2] (dictSet d q.2.2.1 q.2.2.2)) _ _ _;refine zdr (wpAny_dictSet_pairs (s:={s with heap:=h' }) kq BF (fun h2 hd2 Nc=>?_) (by simp only[zak] at hz;lia));refine zdq ⟨plainId_quiet fh _,?_⟩;refine yZ knd d it l items res hA Jv r (i+1) (j+1) _ _ _ ?_ (fun p Uh=>?_) ?_ ?_ hd2 ?_ fun h3 tk Ui keep=>hR h3 tk Ui fun b o n1 n2 e=>keep b o n1 n2 ?_
  ·rw[<- zc8,hi];rfl
  ·obtain⟨⟨op,Qz,Uj,np,Uk⟩,kp⟩:=hp p (zad _ Uh);refine⟨⟨op,?_,Uj,np,Uk⟩,kp⟩;have n1:p.1≠it:=fun z=>by
    obtain⟨oi,Nb,Qx,_⟩:=hit;rw[z,Nb] at Qz;cases Qz;rw[Qx] at Uj;exact absurd (Value.type.inj Uj) (by decide)
   have n2:p.1≠d:=fun z=>by
    obtain⟨od,_,_,Ul,_,JH,_⟩:=hd;rw[z,Ul] at Qz;cases Qz;rw[JH] at Uk;cases Uk
   exact(Nc.2 _ n2).trans ((sb.2 _ n1).trans Qz)
  ·obtain⟨oi,Nb,rest⟩:=M7;exact⟨oi,(Nc.2 _ Jv).trans Nb,rest⟩
  ·obtain⟨ol,QA,Um,nl,Uo⟩:=hl;have n1:l≠it:=fun z=>by
    obtain⟨oi,Nb,Qx,_⟩:=hit;rw[z,Nb] at QA;cases QA;rw[Qx] at Um;exact absurd (Value.type.inj Um) (by decide)
   have n2:l≠d:=fun z=>by
    obtain⟨od,_,_,Ul,_,JH,_⟩:=hd;rw[z,Ul] at QA;cases QA;rw[JH] at Uo;cases Uo
   exact⟨ol,(Nc.2 _ n2).trans ((sb.2 _ n1).trans QA),Um,nl,Uo⟩
  ·have:=stored_length_le kvs q.2.1 q.2.2.2;simp only[zak] at hz;lia
  ·exact(Nc.2 _ n1).trans ((sb.2 _ n2).trans e)
theorem dict_list{κ:Type}[DecidableEq κ](knd:KeyKind prog w κ)(l:zdm){s:zdw}{items:Array zdn}{n:Nat}{sl:Array (Option zdn)}{Q:zdn->zdw->Prop}(hA:A.handled=none)(r:List (zdm×κ×zdn×zdn))(hx:s.heap.get? l=some ⟨.type "list",none,.seq items n,sl⟩)
 (hi:items.toList=r.map (fun q=>Value.ref q.1)) (hp:∀q∈r,s.heap.IsTuple q.1 #[q.2.2.1,q.2.2.2]/\knd.is q.2.1 q.2.2.1=true) (hz:r.length<=zdu)
 (h:∀h' tk,h'.DictOf knd s.heap.objs.size (merged [] (r.map fun q=>(q.2.1,q.2.2.2)))->(∀b o,s.heap.get? b=some o->h'.get? b=some o)->Q (.ref s.heap.objs.size) {s with heap:=h',toks:=tk}) :
 wpAny (model prog w) A (call (.type "dict") [.ref l]) Q E s:=by
 refine callType_codes (Q₁:=fun obj s₁=>obj=.ref s.heap.objs.size/\s₁={s with heap:=s.heap.push {cls:=.type "dict",data:=.dict #[]} }) F.kt_called_dict (F.kt_typeCall_dict_1 _) F.entry_dict_init (kt_code_dict_new _ ⟨rfl,rfl⟩) ?_
 rintro obj s₁ ⟨rfl,rfl⟩
 have AV:(s.heap.push {cls:=.type "dict",data:=.dict #[]}).DictOf knd s.heap.objs.size []:=Heap.DictOf.new s.heap;have oh:∀b o,s.heap.get? b=some o->(s.heap.push {cls:=.type "dict",data:=.dict #[]}).get? b=some o:=fun b o e=>Heap.get?_push_of_some _ e;refine⟨AV.typeIs,F.args_dict_init_2 _ _,?_⟩;unfold Builtin.«dict.__init__»;refine zdp ?_;unfold Builtin.Dict.selfAndRest;refine zdp (wpAny_notOrdered_dict AV.typeIs ?_);show wpAny _ _ (pure (s.heap.objs.size,[Value.ref l])) _ _ _;refine zdq ?_;show wpAny _ _ (Builtin.Dict.updateFrom "dict.__init__" s.heap.objs.size (.ref l) [] .none) _ _ _;unfold Builtin.Dict.updateFrom;refine zdp (wpAny_typeOf (T:="list") ⟨_,oh _ _ hx,rfl⟩ ?_);rw[if_pos (by decide)];refine zdp (DF (n:=n) (sl:=sl) l (oh _ _ hx) hA fun h2 Up om=>?_);rw[if_pos (show (none:Option zdn).isNone=true from rfl)];refine zdp (wpAny_rule ?_);have Sh:h2.IsList l items:=⟨_,om _ _ (oh _ _ hx),rfl,n,rfl⟩
 have hd2:h2.DictOf knd s.heap.objs.size []:=by
  obtain⟨o,es,ep,ho,rest⟩:=AV;exact⟨o,es,ep,om _ _ ho,rest⟩
 refine zdp (wpAny_pyIter_list (s:={s with heap:=h2,toks:=Up}) Sh ?_);have Cp:∀b o,h2.get? b=some o->(h2.push {cls:=.type "list_iterator",data:=.fields #[.ref l,.int 0 0]}).get? b=some o:=fun b o e=>Heap.get?_push_of_some _ e;have nd:h2.objs.size≠s.heap.objs.size:=by
  obtain⟨o,es,ep,ho,_⟩:=hd2;exact fun e=>absurd (Heap.lt_size ho) (by rw[e];exact za7 _)
 refine zdq ⟨plainId_quiet fh _,?_⟩;refine yZ (A:=A.in1) knd s.heap.objs.size h2.objs.size l items .none hA nd r 0 0 _ [] _ (by simpa using hi) (fun q hq=>?_) ⟨_,Heap.get?_push_size _ rfl,rfl,rfl⟩ ?_ ?_ (by simpa using hz) fun h4 Uq Ur Gi=>?_
 ·obtain⟨⟨o,ho,rest⟩,kq⟩:=hp q hq;exact⟨⟨o,Cp _ _ (om _ _ (oh _ _ ho)),rest⟩,kq⟩
 ·obtain⟨o,ho,rest⟩:=Sh;exact⟨o,Cp _ _ ho,rest⟩
 ·obtain⟨o,es,ep,ho,rest⟩:=hd2;exact⟨o,es,ep,Cp _ _ ho,rest⟩
 ·refine⟨rfl,h h4 Uq Ur fun b o e=>Gi b o (fun z=>?_) (fun z=>?_) (Cp _ _ (om _ _ (oh _ _ e)))⟩
  ·rw[z] at e;exact absurd (Heap.lt_size e) (za7 _)
  ·have:=Heap.lt_size (om _ _ (oh _ _ e));rw[z] at this;exact absurd this (za7 _)
end
end L3
namespace L2
open PySem PyProof.Rows
theorem lA{X:Cx}(hc:X.calm=true):lS X (.type "dict") (fun xs H Q=>∃(a:zdm) (ps:List (zdm×Key×V)),xs=[.ref a]/\fF X.K H a (ps.map fun q=>V.ref q.1)/\(∀q∈ps,bS X.K H q.1 [kV q.2.1,q.2.2])/\ps.length<=zdu/\
 ∀p,H p=none->Q (.ref p) (upd H p (.dK (iU [] (ps.map fun q=>(q.2.1,q.2.2)))))):=by
 intro pins s σ H xs us Q I r h;obtain⟨a,ps,rfl,ha,hp,hz,q⟩:=h;obtain⟨u,rfl,ru⟩:=vals1 r;cases (show u=Value.ref a from ru);obtain⟨bq,v1,t1,_⟩:=I.list ha;obtain⟨⟨cls,dct,dat,sl⟩,n,e1,W0,W7,za⟩:=t1;simp only at W0 W7 za;subst W0 W7 za;have mk:∀(l:List (zdm×Key×V)) (us:List zdn),Vals (l.map fun q=>V.ref q.1) us->(∀q∈l,bS X.K H q.1 [kV q.2.1,q.2.2])->∃r:List (zdm×Key×zdn×zdn),us=r.map (fun q=>Value.ref q.1)/\r.length=l.length/\
  (∀q∈r,s.heap.IsTuple q.1 #[q.2.2.1,q.2.2.2]/\(bX X.prog X.w).is q.2.1 q.2.2.1=true)/\KV (l.map fun q=>(q.2.1,q.2.2)) (r.map fun q=>(q.2.1,q.2.2.2)):=by
  intro l
  induction l with
  |nil=>intro us v _;cases v;exact⟨[],rfl,rfl,fun _ z=>(by cases z),.nil⟩
  |cons x l ih=>
   intro us v hp;rw[zar] at v;cases v with
   |cons v1 v2=>
    obtain⟨r,e,lr,hr,kv⟩:=ih _ v2 (fun q hq=>hp q (zad _ hq));obtain⟨tP,w1,tu,_⟩:=I.tuple (hp x (zav ..));obtain⟨ku,vu,rfl,rk,rv⟩:=vals2 w1;cases v1;obtain⟨o,ho,ZE,no,ZF⟩:=tu;refine⟨(x.1,x.2.1,ku,vu)::r,by rw[e];rfl,by simp[lr],fun q hq=>?_,.cons ⟨rfl,rv⟩ kv⟩;rcases zag.mp hq with rfl |hq
    ·exact⟨⟨o,ho,ZE,no,ZF⟩,pG rk⟩
    ·exact hr q hq
 obtain⟨r',er,lr,hr,kv⟩:=mk ps bq v1 hp;refine L3.dict_list (bX X.prog X.w) a (I.ok.hd hc) r' e1 (by simpa using er) hr (by lia) fun h' tk dd keep=>?_;have hn:=I.da.fresh (zam s.heap.objs.size);have hb:(s.heap.objs.size==sysModules)=false:=beq_eq_false_iff_ne.mpr (Ne.symm (zaw I.big));refine⟨.ref s.heap.objs.size,_,I.laid keep (zam _) (xj ?_ hb (kv.merge .nil) dd),rfl,q _ hn⟩;have h1:=iq (ps.map fun q=>(q.2.1,q.2.2)) [];rw[zaQ,zae] at h1;lia
end L2
namespace L3
open PySem PyProof.Rows
section
variable{prog:zdy}{w:zdo}{A:zdx}{E:zdn->zdw->Prop}{s:zdw}
theorem jw{j tp:zdm}{k:Nat}{bq:Array zdn}{v:zdn}{Q:zdn->zdw->Prop}(hj:s.heap.IsTupleIter j tp k)(ht:s.heap.IsTuple tp bq)(hv:bq[k]?=some v)
 (hQ:∀h',h'.IsTupleIter j tp (k+1)->Heap.SameBut j s.heap h'->Q v {s with heap:=h' }):wpAny (model prog w) A (Builtin.SmallTypes.nextOf (.ref j)) Q E s:=by
 obtain⟨oj,gj,cj,dj⟩:=id hj;obtain⟨ot,gt,_,nt,dt⟩:=ht;unfold Builtin.SmallTypes.nextOf;refine zdp (wpAny_callSpecial?_slot (name:=zac "__next__") hj.typeIs F.slot_tuple_iterator_next (wpAny_call_entry F.slot_tuple_iterator_next hj.typeIs F.entry_tuple_iterator_next ?_ (F.args_tuple_iterator_next_1 _)));show wpAny _ _ (field (.ref j) 0 >>= _) _ _ s;refine zdp (wpAny_field gj dj (x:=.ref tp) rfl ?_);show wpAny _ _ (if (Value.ref tp==Value.none)=true then _ else _) _ _ s;rw[if_neg (show ¬((Value.ref tp==Value.none)=true) from zas)];show wpAny _ _ (field (.ref j) 1 >>= _) _ _ s;refine zdp (wpAny_field gj dj (x:=.int k 0) rfl ?_);show wpAny _ _ (seqItems? (.ref tp) >>= _) _ _ s;refine zdp (wpAny_seqItems gt dt ?_);simp only[zbI,hv];refine zdp (wpAny_setField gj dj (by simp) (zdq ⟨v,rfl,zdq (hQ _ ?_ (Heap.SameBut.update ..))⟩));exact⟨_,Heap.get?_update_self _ gj (Obj.isFreed_of_fields (Obj.data_mapFields dj _)),(Obj.cls_mapFields ..).trans cj,by rw[Obj.data_mapFields dj];simp[rawInt]⟩
abbrev oo (h:Heap) (z ti to:zdm) (f g:zdn):Prop:=h.get? z=some {cls:=.type "zip",dict:=none,data:=.fields #[f,g,.bool false,.ref ti,.ref to],slots:=#[]}
theorem zb{z ti to T:zdm}{u:Tok}{o:Obj}{g:Bool}{R:Bool->zdw->Prop}(hz:oo s.heap z ti to (.int T u) (.bool g))(hT:s.heap.get? T=some o)
 (h:∀h₀,oo h₀ z ti to (.int T u) (.bool true)->Heap.SameBut z s.heap h₀->R false {s with heap:=h₀}):wpAny (model prog w) A (Builtin.SmallTypes.ownedTupleIsFree (.ref z)) R E s:=by
 unfold Builtin.SmallTypes.ownedTupleIsFree;refine zdp (wpAny_field hz rfl (x:=.int T u) rfl ?_);show wpAny _ _ (loadIfAlive (T:Int).toNat >>= _) _ _ _;refine zdp ?_;have alive:∀ {R:Option Obj->zdw->Prop},R (some o) s->wpAny (model prog w) A (loadIfAlive (T:Int).toNat) R E s:=fun h=>by
  rw[zbI];intro Γ p hp;unfold loadIfAlive;rw[Sem.wp_loadIfAlive,hT];exact h
 refine alive ?_;rw[if_neg (by simp)];refine zdp (wpAny_field hz rfl (x:=.bool g) rfl ?_);cases g with
 |false=>
  rw[if_pos (by decide)];exact zdp (wpAny_setField_rec hz (by simp) fun h₀ Cq sb=>zdq (h h₀ Cq sb))
 |true=>
  rw[if_neg (by decide)];exact zdq (h s.heap hz (Heap.SameBut.refl _ _))
theorem AW{z ti to j1 j2 l tp T:zdm}{xs ys:Array zdn}{i:Nat}{u:Tok}{o:Obj}{g:Bool}{x y:zdn}{Q:zdn->zdw->Prop}(hz:oo s.heap z ti to (.int T u) (.bool g))(hT:s.heap.get? T=some o)(hI:IsPair s.heap ti (.ref j1) (.ref j2))
 (h1:s.heap.IsListIter j1 l i) (h2:s.heap.IsTupleIter j2 tp i) (hl:s.heap.IsList l xs) (ht:s.heap.IsTuple tp ys) (Al:z≠j1) (JI:z≠j2) (Ls:j1≠j2) (hx:xs[i]?=some x) (hy:ys[i]?=some y)
 (hQ:∀h',oo h' z ti to (.int T u) (.bool true)->h'.IsListIter j1 l (i+1)->h'.IsTupleIter j2 tp (i+1)->IsPair h' s.heap.objs.size x y->h'.objs.size=s.heap.objs.size+1->
  (∀c o,c≠z->c≠j1->c≠j2->s.heap.get? c=some o->h'.get? c=some o)->Q (.ref s.heap.objs.size) {s with heap:=h' }) :
 wpAny (model prog w) A (Builtin.«zip.__next__» ⟨[.ref z],[]⟩) (fun fin s'=>∃v,fin=.done (.ret v)/\Q v s') E s:=by
 have lz:l≠z:=fun e=>by
  obtain⟨q,gq,cq,_⟩:=hl;rw[e,hz] at gq;cases gq;exact absurd (Value.type.inj cq) (by decide)
 have lj1:l≠j1:=fun e=>by
  obtain⟨q,gq,cq,_⟩:=hl;obtain⟨r,gr,cr,_⟩:=h1;rw[e,gr] at gq;cases gq;rw[cr] at cq;exact absurd (Value.type.inj cq) (by decide)
 have tz:tp≠z:=fun e=>by
  obtain⟨q,gq,cq,_⟩:=ht;rw[e,hz] at gq;cases gq;exact absurd (Value.type.inj cq) (by decide)
 have Us:tp≠j1:=fun e=>by
  obtain⟨q,gq,cq,_⟩:=ht;obtain⟨r,gr,cr,_⟩:=h1;rw[e,gr] at gq;cases gq;rw[cr] at cq;exact absurd (Value.type.inj cq) (by decide)
 show wpAny _ _ (field (.ref z) 2 >>= _) _ _ _;refine zdp (wpAny_field hz rfl (x:=.bool false) rfl ?_);show wpAny _ _ (field (.ref z) 3 >>= _) _ _ _;refine zdp (wpAny_field hz rfl (x:=.ref ti) rfl ?_);refine zdp (wpAny_seqItems hI rfl ?_);show wpAny _ _ (Builtin.SmallTypes.ownedTupleIsFree (.ref z) >>= _) _ _ _;refine zdp (zb hz hT fun h₀ Cq ou=>?_);dsimp only;rw[if_neg zas];refine zdp ?_;simp only[List.forIn_toArray,zbE,zbY];refine zdp (zdp (zdr ?_));show wpAny _ _ (Builtin.SmallTypes.nextOf (.ref j1) >>= _) _ _ _;refine zdp (wpAny_nextOf_list_item (s:={s with heap:=h₀}) (h1.extBut ou.extBut Al.symm) (hl.extBut ou.extBut lz) hx fun h₂ QB cQ=>zdq ?_);refine zdq ?_;refine zdp (zdp (zdr ?_));show wpAny _ _ (Builtin.SmallTypes.nextOf (.ref j2) >>= _) _ _ _;have Ut:h₂.IsTupleIter j2 tp i:=by
  obtain⟨q,gq,rest⟩:=h2;exact⟨q,cQ.extBut _ _ Ls.symm (ou.extBut _ _ JI.symm gq),rest⟩
 have Uu:h₂.IsTuple tp ys:=(ht.extBut ou.extBut tz).extBut cQ.extBut Us;refine zdp (jw (s:={s with heap:=h₂}) Ut Uu hy fun h₃ QC dE=>zdq ?_);refine zdq (zdq ?_);show wpAny _ _ (newTuple [x,y] >>= _) _ _ _;have hsz:h₃.objs.size=s.heap.objs.size:=by rw[dE.1,cQ.1,ou.1]
 refine zdp (wpAny_newTuple (s:={s with heap:=h₃}) ?_);refine zdq ⟨_,rfl,?_⟩;show Q (.ref h₃.objs.size) _;have hp:IsPair (h₃.push {cls:=.type "tuple",data:=.seq #[x,y]}) h₃.objs.size x y:=Heap.get?_push_size _ rfl;have za:(h₃.push {cls:=.type "tuple",data:=.seq #[x,y]}).objs.size=h₃.objs.size+1:=Heap.size_push ..;rw[hsz] at hp za ⊢;have up:∀c o,h₃.get? c=some o->(h₃.push {cls:=.type "tuple",data:=.seq #[x,y]}).get? c=some o:=fun c o e=>Heap.get?_push_of_some _ e;refine hQ _ (up _ _ (dE.extBut _ _ JI (cQ.extBut _ _ Al Cq))) ?_ ?_ hp za fun c o c1 c2 c3 e=>up _ _ (dE.extBut _ _ c3 (cQ.extBut _ _ c2 (ou.extBut _ _ c1 e)))
 ·obtain⟨q,gq,rest⟩:=QB;exact⟨q,up _ _ (dE.extBut _ _ Ls gq),rest⟩
 ·obtain⟨q,gq,rest⟩:=QC;exact⟨q,up _ _ gq,rest⟩
theorem DG{z ti to j1 j2 l T:zdm}{xs:Array zdn}{i:Nat}{u:Tok}{o:Obj}{g:Bool}{Q:Fin->zdw->Prop}(hA:A.handled=none)(hz:oo s.heap z ti to (.int T u) (.bool g))(hT:s.heap.get? T=some o)(hI:IsPair s.heap ti (.ref j1) (.ref j2))
 (h1:s.heap.IsListIter j1 l i) (hl:s.heap.IsList l xs) (Al:z≠j1) (hx:xs[i]?=none)
 (hE:∀h' e,(∀c o,c≠z->c≠j1->s.heap.get? c=some o->h'.get? c=some o)->(∃o,h'.get? e=some o/\o.cls=.type "StopIteration")->E (.ref e) {s with heap:=h' }) :
 wpAny (model prog w) A (Builtin.«zip.__next__» ⟨[.ref z],[]⟩) Q E s:=by
 have lz:l≠z:=fun e=>by
  obtain⟨q,gq,cq,_⟩:=hl;rw[e,hz] at gq;cases gq;exact absurd (Value.type.inj cq) (by decide)
 show wpAny _ _ (field (.ref z) 2 >>= _) _ _ _;refine zdp (wpAny_field hz rfl (x:=.bool false) rfl ?_);show wpAny _ _ (field (.ref z) 3 >>= _) _ _ _;refine zdp (wpAny_field hz rfl (x:=.ref ti) rfl ?_);refine zdp (wpAny_seqItems hI rfl ?_);show wpAny _ _ (Builtin.SmallTypes.ownedTupleIsFree (.ref z) >>= _) _ _ _;refine zdp (zb hz hT fun h₀ Cq ou=>?_);dsimp only;rw[if_neg zas];refine zdp ?_;simp only[List.forIn_toArray,zbE,zbY];refine zdp (zdp (zdr ?_));show wpAny _ _ (Builtin.SmallTypes.nextOf (.ref j1) >>= _) _ _ _;exact zdp (wpAny_nextOf_list_end (s:={s with heap:=h₀}) hA (h1.extBut ou.extBut Al.symm) (hl.extBut ou.extBut lz) hx fun h₂ e cQ he=>hE h₂ e (fun c o c1 c2 q=>cQ _ _ c2 (ou.extBut _ _ c1 q)) he)
theorem AX{z ti to j1 j2 l tp:zdm}{xs ys:Array zdn}{i:Nat}{a b x y:zdn}{Q:zdn->zdw->Prop}(hz:oo s.heap z ti to .none (.bool false))(hO:IsPair s.heap to a b)(hI:IsPair s.heap ti (.ref j1) (.ref j2))
 (h1:s.heap.IsListIter j1 l i) (h2:s.heap.IsTupleIter j2 tp i) (hl:s.heap.IsList l xs) (ht:s.heap.IsTuple tp ys) (Al:z≠j1) (JI:z≠j2) (QD:z≠to) (Gj:to≠j1) (Gk:to≠j2) (Ls:j1≠j2) (JJ:tp≠to) (hx:xs[i]?=some x) (hy:ys[i]?=some y)
 (hQ:∀h',oo h' z ti to (rawInt s.heap.objs.size) (.bool false)->h'.IsListIter j1 l (i+1)->h'.IsTupleIter j2 tp (i+1)->IsPair h' s.heap.objs.size x y->h'.objs.size=s.heap.objs.size+1->
  (∀c o,c≠z->c≠to->c≠j1->c≠j2->s.heap.get? c=some o->h'.get? c=some o)->Q (.ref s.heap.objs.size) {s with heap:=h' }) :
 wpAny (model prog w) A (Builtin.«zip.__next__» ⟨[.ref z],[]⟩) (fun fin s'=>∃v,fin=.done (.ret v)/\Q v s') E s:=by
 have lz:l≠z:=fun e=>by
  obtain⟨q,gq,cq,_⟩:=hl;rw[e,hz] at gq;cases gq;exact absurd (Value.type.inj cq) (by decide)
 have tz:tp≠z:=fun e=>by
  obtain⟨q,gq,cq,_⟩:=ht;rw[e,hz] at gq;cases gq;exact absurd (Value.type.inj cq) (by decide)
 have Us:tp≠j1:=fun e=>by
  obtain⟨q,gq,cq,_⟩:=ht;obtain⟨r,gr,cr,_⟩:=h1;rw[e,gr] at gq;cases gq;rw[cr] at cq;exact absurd (Value.type.inj cq) (by decide)
 show wpAny _ _ (field (.ref z) 2 >>= _) _ _ _;refine zdp (wpAny_field hz rfl (x:=.bool false) rfl ?_);show wpAny _ _ (field (.ref z) 3 >>= _) _ _ _;refine zdp (wpAny_field hz rfl (x:=.ref ti) rfl ?_);refine zdp (wpAny_seqItems hI rfl ?_);show wpAny _ _ (Builtin.SmallTypes.ownedTupleIsFree (.ref z) >>= _) _ _ _;refine zdp ?_;unfold Builtin.SmallTypes.ownedTupleIsFree;refine zdp (wpAny_field hz rfl (x:=.none) rfl (zdq ?_));simp only[if_true];refine zdp (wpAny_rule ?_);refine zdp (wpAny_field hz rfl (x:=.ref to) rfl ?_);refine zdp (wpAny_setField_rec hz (by simp) fun h₁ z₁ dF=>?_);replace z₁:oo h₁ z ti to .ellipsis (.bool false):=z₁;refine zdp ?_;simp only[zce,zcn,zbE,zbY];refine zdp (zdp (wpAny_onRaise ?_));show wpAny _ _ (Builtin.SmallTypes.nextOf (.ref j1) >>= _) _ _ _;refine zdp (wpAny_nextOf_list_item (h1.extBut dF.extBut Al.symm) (hl.extBut dF.extBut lz) hx fun h₂ k₂ cQ=>zdq ?_);have o₂:IsPair h₂ to a b:=cQ.extBut _ _ Gj (dF.extBut _ _ QD.symm hO);refine zdp (wpAny_seqItems o₂ rfl ?_);refine zdp (wpAny_updateSeq_pair o₂ fun h₃ o₃ dE=>?_);replace o₃:IsPair h₃ to x b:=o₃;refine zdp (wpAny_letGo (zdq ?_));refine zdp (zdp (wpAny_onRaise ?_));show wpAny _ _ (Builtin.SmallTypes.nextOf (.ref j2) >>= _) _ _ _;have Ut:h₃.IsTupleIter j2 tp i:=by
  obtain⟨q,gq,rest⟩:=h2;exact⟨q,dE.extBut _ _ Gk.symm (cQ.extBut _ _ Ls.symm (dF.extBut _ _ JI.symm gq)),rest⟩
 have Uu:h₃.IsTuple tp ys:=((ht.extBut dF.extBut tz).extBut cQ.extBut Us).extBut dE.extBut JJ;refine zdp (jw Ut Uu hy fun h₄ k₄ jS=>zdq ?_);have o₄:IsPair h₄ to x b:=jS.extBut _ _ Gk o₃;refine zdp (wpAny_seqItems o₄ rfl ?_);refine zdp (wpAny_updateSeq_pair o₄ fun h₅ o₅ jT=>?_);replace o₅:IsPair h₅ to x y:=o₅;refine zdp (wpAny_letGo (zdq (zdq ?_)));refine zdp (wpAny_seqItems o₅ rfl ?_);refine zdp (wpAny_newTuple ?_);have hsz:h₅.objs.size=s.heap.objs.size:=by rw[jT.1,jS.1,dE.1,cQ.1,dF.1]
 have z₅:oo h₅ z ti to .ellipsis (.bool false):=jT.extBut _ _ QD (jS.extBut _ _ JI (dE.extBut _ _ QD (cQ.extBut _ _ Al z₁)));have kp:∀c o,c≠z->c≠to->c≠j1->c≠j2->s.heap.get? c=some o->h₅.get? c=some o:=fun c o c1 c2 c3 c4 e=>jT.extBut _ _ c2 (jS.extBut _ _ c4 (dE.extBut _ _ c2 (cQ.extBut _ _ c3 (dF.extBut _ _ c1 e))));have QE:z<h₅.objs.size:=Heap.lt_size z₅;show wpAny _ _ (Builtin.SmallTypes.ownedTupleHandOut (.ref z) (.ref h₅.objs.size) >>= _) _ _ _;refine zdp ?_;unfold Builtin.SmallTypes.ownedTupleHandOut;have z₆:oo (h₅.push {cls:=.type "tuple",data:=.seq #[x,y]}) z ti to .ellipsis (.bool false):=Heap.get?_push_of_some _ z₅;refine zdp (wpAny_setField_rec z₆ (by simp) fun h₇ z₇ ua=>?_);replace z₇:oo h₇ z ti to (rawInt h₅.objs.size) (.bool false):=z₇;refine wpAny_setField_rec z₇ (by simp) fun h₈ z₈ ub=>?_;replace z₈:oo h₈ z ti to (rawInt h₅.objs.size) (.bool false):=z₈;have up:∀c o,c≠z->h₅.get? c=some o->h₈.get? c=some o:=fun c o c1 e=>ub.extBut _ _ c1 (ua.extBut _ _ c1 (Heap.get?_push_of_some _ e));have t₈:IsPair h₈ h₅.objs.size x y:=ub.extBut _ _ (zbC QE) (ua.extBut _ _ (zbC QE) (Heap.get?_push_size _ rfl));have n₈:h₈.objs.size=h₅.objs.size+1:=by rw[ub.1,ua.1,Heap.size_push]
 rw[hsz] at z₈ t₈ n₈;refine zdq ⟨_,rfl,?_⟩;show Q (.ref h₅.objs.size) _;rw[hsz];refine hQ h₈ z₈ ?_ ?_ t₈ n₈ fun c o c1 c2 c3 c4 e=>up c o c1 (kp c o c1 c2 c3 c4 e)
 ·obtain⟨q,gq,rest⟩:=k₂;exact⟨q,up _ _ Al.symm (jT.extBut _ _ Gj.symm (jS.extBut _ _ Ls (dE.extBut _ _ Gj.symm gq))),rest⟩
 ·obtain⟨q,gq,rest⟩:=k₄;exact⟨q,up _ _ JI.symm (jT.extBut _ _ Gk.symm gq),rest⟩
theorem DH{z ti to j1 j2 l:zdm}{xs:Array zdn}{i:Nat}{Q:Fin->zdw->Prop}(hA:A.handled=none)(hz:oo s.heap z ti to .none (.bool false))(hI:IsPair s.heap ti (.ref j1) (.ref j2))
 (h1:s.heap.IsListIter j1 l i) (hl:s.heap.IsList l xs) (Al:z≠j1) (hx:xs[i]?=none)
 (hE:∀h' e,(∀c o,c≠z->c≠j1->s.heap.get? c=some o->h'.get? c=some o)->(∃o,h'.get? e=some o/\o.cls=.type "StopIteration")->E (.ref e) {s with heap:=h' }) :
 wpAny (model prog w) A (Builtin.«zip.__next__» ⟨[.ref z],[]⟩) Q E s:=by
 have lz:l≠z:=fun e=>by
  obtain⟨q,gq,cq,_⟩:=hl;rw[e,hz] at gq;cases gq;exact absurd (Value.type.inj cq) (by decide)
 show wpAny _ _ (field (.ref z) 2 >>= _) _ _ _;refine zdp (wpAny_field hz rfl (x:=.bool false) rfl ?_);show wpAny _ _ (field (.ref z) 3 >>= _) _ _ _;refine zdp (wpAny_field hz rfl (x:=.ref ti) rfl ?_);refine zdp (wpAny_seqItems hI rfl ?_);show wpAny _ _ (Builtin.SmallTypes.ownedTupleIsFree (.ref z) >>= _) _ _ _;refine zdp ?_;unfold Builtin.SmallTypes.ownedTupleIsFree;refine zdp (wpAny_field hz rfl (x:=.none) rfl (zdq ?_));simp only[if_true];refine zdp (wpAny_rule ?_);refine zdp (wpAny_field hz rfl (x:=.ref to) rfl ?_);refine zdp (wpAny_setField_rec hz (by simp) fun h₁ z₁ dF=>?_);replace z₁:oo h₁ z ti to .ellipsis (.bool false):=z₁;refine zdp ?_;simp only[zce,zcn,zbE,zbY];refine zdp (zdp (wpAny_onRaise ?_));show wpAny _ _ (Builtin.SmallTypes.nextOf (.ref j1) >>= _) _ _ _;refine zdp (wpAny_nextOf_list_end hA (h1.extBut dF.extBut Al.symm) (hl.extBut dF.extBut lz) hx fun h₂ e cQ he=>?_);obtain⟨oe,ge,ce⟩:=he;have z₂:oo h₂ z ti to .ellipsis (.bool false):=cQ _ _ Al z₁;have ez:e≠z:=fun q=>by subst q;rw[z₂] at ge;cases ge;simp at ce
 exact wpAny_setField_rec z₂ (by simp) fun h₃ _ dE=>hE h₃ e (fun c o c1 c3 q=>dE.extBut _ _ c1 (cQ _ _ c3 (dF.extBut _ _ c1 q))) ⟨oe,dE.extBut _ _ ez ge,ce⟩
structure OF(z ti to j1 j2 l tp:zdm):Prop where
 ZG:z≠ti
 QD:z≠to
 Al:z≠j1
 JI:z≠j2
 Uv:ti≠to
 Uw:ti≠j1
 Ux:ti≠j2
 Gj:to≠j1
 Gk:to≠j2
 Ls:j1≠j2
 Sr:l≠to
 JJ:tp≠to
structure IB(h:Heap)(z ti to j1 j2 l tp:zdm)(xs ys:Array zdn)(i:Nat):Prop where
 zip:(∃a b,oo h z ti to .none (.bool false)/\IsPair h to a b)\/∃(T:zdm) (u:Tok) (a b:zdn) (g:Bool),oo h z ti to (.int T u) (.bool g)/\IsPair h T a b
 ins:IsPair h ti (.ref j1) (.ref j2)
 ED:h.IsListIter j1 l i
 JK:h.IsTupleIter j2 tp i
 ls:h.IsList l xs
 tu:h.IsTuple tp ys
theorem lB{h:Heap}{a b:zdm}{o o':Obj}{c c':String}(e:h.get? a=some o)(e':h.get? b=some o')(hc:o.cls=.type c)(Pd:o'.cls=.type c')(n:c≠c'):a≠b:=fun q=>by
 rw[q,e'] at e;cases e;rw[hc] at Pd;exact n (Value.type.inj Pd)
theorem Gm{z ti to j1 j2 l tp:zdm}{xs ys:Array zdn}{i:Nat}{x y:zdn}{Q:Option zdn->zdw->Prop}(ap:OF z ti to j1 j2 l tp)(st:IB s.heap z ti to j1 j2 l tp xs ys i)(hx:xs[i]?=some x)(hy:ys[i]?=some y)
 (hQ:∀h',IB h' z ti to j1 j2 l tp xs ys (i+1)->IsPair h' s.heap.objs.size x y->(∀c o,c≠z->c≠to->c≠j1->c≠j2->s.heap.get? c=some o->h'.get? c=some o)->Q (some (.ref s.heap.objs.size)) {s with heap:=h' }) :
 wpAny (model prog w) A (pyNext (.ref z)) Q E s:=by
 have zT:s.TypeIs (.ref z) "zip":=by
  rcases st.zip with ⟨a,b,hz,_⟩ |⟨T,u,a,b,g,hz,_⟩
  ·exact⟨_,hz,rfl⟩
  ·exact⟨_,hz,rfl⟩
 obtain⟨o1,g1,c1,_⟩:=st.ED;obtain⟨o2,g2,c2,_⟩:=st.JK;obtain⟨ol,gl,cl,_⟩:=st.ls;obtain⟨ot,gt,ct,_⟩:=st.tu;obtain⟨oz,gz,cz⟩:=zT;have lk:∀h',(∀c o,c≠z->c≠to->c≠j1->c≠j2->s.heap.get? c=some o->h'.get? c=some o)->IsPair h' ti (.ref j1) (.ref j2)/\h'.IsList l xs/\h'.IsTuple tp ys:=fun h' k=>by
  refine⟨k _ _ ap.ZG.symm ap.Uv ap.Uw ap.Ux st.ins,?_,?_⟩
  ·obtain⟨q,gq,rest⟩:=st.ls;exact⟨q,k _ _ (lB gl gz cl cz (by decide)) ap.Sr (lB gl g1 cl c1 (by decide)) (lB gl g2 cl c2 (by decide)) gq,rest⟩
  ·obtain⟨q,gq,rest⟩:=st.tu;exact⟨q,k _ _ (lB gt gz ct cz (by decide)) ap.JJ (lB gt g1 ct c1 (by decide)) (lB gt g2 ct c2 (by decide)) gq,rest⟩
 unfold pyNext;refine zdp (wpAny_attempt (wpAny_callSpecial?_slot (name:=zac "__next__") ⟨oz,gz,cz⟩ F.slot_zip_next (wpAny_call_entry F.slot_zip_next ⟨oz,gz,cz⟩ F.entry_zip_next ?_ (F.args_zip_next_1 _))));rcases st.zip with ⟨a,b,hz,hO⟩ |⟨T,u,a,b,g,hz,hT⟩
 ·refine AX hz hO st.ins st.ED st.JK st.ls st.tu ap.Al ap.JI ap.QD ap.Gj ap.Gk ap.Ls ap.JJ hx hy fun h' q1 q2 q3 q4 q5 q6=>zdq ?_;obtain⟨k1,k2,k3⟩:=lk h' q6;exact hQ h' ⟨.inr ⟨_,_,x,y,false,q1,q4⟩,k1,q2,q3,k2,k3⟩ q4 q6
 ·refine AW hz hT st.ins st.ED st.JK st.ls st.tu ap.Al ap.JI ap.Ls hx hy fun h' q1 q2 q3 q4 q5 q6=>zdq ?_;have W8:∀c o,c≠z->c≠to->c≠j1->c≠j2->s.heap.get? c=some o->h'.get? c=some o:=fun c o a1 _ a3 a4 e=>q6 c o a1 a3 a4 e;obtain⟨k1,k2,k3⟩:=lk h' W8;exact hQ h' ⟨.inr ⟨T,u,a,b,true,q1,q6 _ _ (lB hT gz rfl cz (by decide)) (lB hT g1 rfl c1 (by decide)) (lB hT g2 rfl c2 (by decide)) hT⟩,k1,q2,q3,k2,k3⟩ q4 W8
theorem JL{z ti to j1 j2 l tp:zdm}{xs ys:Array zdn}{i:Nat}{Q:Option zdn->zdw->Prop}(hA:A.handled=none)(ap:OF z ti to j1 j2 l tp)(st:IB s.heap z ti to j1 j2 l tp xs ys i)(hx:xs[i]?=none)
 (hQ:∀h',(∀c o,c≠z->c≠j1->s.heap.get? c=some o->h'.get? c=some o)->Q none {s with heap:=h' }):wpAny (model prog w) A (pyNext (.ref z)) Q E s:=by
 have zT:s.TypeIs (.ref z) "zip":=by
  rcases st.zip with ⟨a,b,hz,_⟩ |⟨T,u,a,b,g,hz,_⟩
  ·exact⟨_,hz,rfl⟩
  ·exact⟨_,hz,rfl⟩
 unfold pyNext;refine zdp (wpAny_attempt (wpAny_callSpecial?_slot (name:=zac "__next__") zT F.slot_zip_next (wpAny_call_entry F.slot_zip_next zT F.entry_zip_next ?_ (F.args_zip_next_1 _))));rcases st.zip with ⟨a,b,hz,hO⟩ |⟨T,u,a,b,g,hz,hT⟩
 ·refine DH hA hz st.ins st.ED st.ls ap.Al hx fun h' e k he=>?_;obtain⟨oe,ge,ce⟩:=he;refine zdp (wpAny_isInstance (T:="StopIteration") (b:=true) ⟨oe,ge,ce⟩ isSubtype_stop ?_);exact zdq (hQ _ k)
 ·refine DG hA hz hT st.ins st.ED st.ls ap.Al hx fun h' e k he=>?_;obtain⟨oe,ge,ce⟩:=he;refine zdp (wpAny_isInstance (T:="StopIteration") (b:=true) ⟨oe,ge,ce⟩ isSubtype_stop ?_);exact zdq (hQ _ k)
theorem IB.but{h h':Heap}{z ti to j1 j2 l tp d:zdm}{xs ys:Array zdn}{i:Nat}(st:IB h z ti to j1 j2 l tp xs ys i)(sb:Heap.SameBut d h h')(dn:∀a o,h.get? a=some o->(∀es n,o.data≠.dict es n)->a≠d):IB h' z ti to j1 j2 l tp xs ys i:=by
 have k:∀a o,h.get? a=some o->(∀es n,o.data≠.dict es n)->h'.get? a=some o:=fun a o e n=>sb.extBut _ _ (dn a o e n) e;refine⟨?_,k _ _ st.ins (by intro es n q;cases q),?_,?_,?_,?_⟩
 ·rcases st.zip with ⟨a,b,hz,hO⟩ |⟨T,u,a,b,g,hz,hT⟩
  ·exact .inl ⟨a,b,k _ _ hz (by intro es n q;cases q),k _ _ hO (by intro es n q;cases q)⟩
  ·exact .inr ⟨T,u,a,b,g,k _ _ hz (by intro es n q;cases q),k _ _ hT (by intro es n q;cases q)⟩
 ·obtain⟨o,go,hc,hd⟩:=st.ED;exact⟨o,k _ _ go (by intro es n q;rw[hd] at q;cases q),hc,hd⟩
 ·obtain⟨o,go,hc,hd⟩:=st.JK;exact⟨o,k _ _ go (by intro es n q;rw[hd] at q;cases q),hc,hd⟩
 ·obtain⟨o,go,hc,n',hd⟩:=st.ls;exact⟨o,k _ _ go (by intro es n q;rw[hd] at q;cases q),hc,n',hd⟩
 ·obtain⟨o,go,hc,n',hd⟩:=st.tu;exact⟨o,k _ _ go (by intro es n q;rw[hd] at q;cases q),hc,n',hd⟩
theorem Cr{κ:Type}[DecidableEq κ](knd:KeyKind prog w κ)(d z ti to j1 j2 l tp:zdm)(xs ys:Array zdn)(res:zdn)(hA:A.handled=none)(ap:OF z ti to j1 j2 l tp)(W9:d≠to){R:Result->zdw->Prop}:∀(r:List (κ×zdn×zdn)) (i:Nat) (j:Int) (u:Tok) (kvs:List (κ×zdn)) (s:zdw),
 xs.toList.drop i=r.map (·.2.1)->ys.toList.drop i=r.map (·.2.2)->(∀q∈r,knd.is q.1 q.2.1=true)->IB s.heap z ti to j1 j2 l tp xs ys i->s.heap.DictOf knd d kvs->kvs.length+r.length<=zdu->
 (∀h' tk,h'.DictOf knd d (merged kvs (r.map fun q=>(q.1,q.2.2)))->(∀b o,b≠d->b≠z->b≠to->b≠j1->b≠j2->s.heap.get? b=some o->h'.get? b=some o)->R (.ok (.ret res)) {s with heap:=h',toks:=tk})->
 codeAny (model prog w) A (.builtin "dict.update.loop" ⟨[.ref d,.ref z,.int j u,res],[]⟩) R s
 |[],i,j,u,kvs,s,hi,hk,hp,st,hd,hz,hR=>by
  refine codeAny_builtin lh ?_;rw[Around.under_plainId fh _];show wpAny _ A.in1 (pyNext (.ref z) >>= _) _ _ s;have dn:∀a o,s.heap.get? a=some o->(∀es n,o.data≠.dict es n)->a≠d:=fun a o e n q=>by
   obtain⟨od,_,_,QF,_,JH,_⟩:=hd;rw[q,QF] at e;cases e;exact n _ _ JH
  refine zdp (JL hA ap st (by rw[<- zaZ];rw[zbD] at hi;exact zc7 (zdb.mp hi)) fun h' kp=>?_);show wpAny _ _ (Builtin.Dict.addKeywords d [] >>= _) _ _ _;refine zdp (zdq (zdq (hR h' s.toks ?_ fun b o _ c1 _ c3 _ e=>kp b o c1 c3 e)));have dz:d≠z:=by
   rcases st.zip with ⟨a,b,gz,_⟩ |⟨T,u,a,b,g,gz,_⟩
   ·exact(dn _ _ gz (by intro es n q;cases q)).symm
   ·exact(dn _ _ gz (by intro es n q;cases q)).symm
  have dj:d≠j1:=by
   obtain⟨o,go,hc,BF⟩:=st.ED;exact(dn _ _ go (by intro es n q;rw[BF] at q;cases q)).symm
  obtain⟨o,es,ep,ho,rest⟩:=hd;exact⟨o,es,ep,kp d o dz dj ho,rest⟩
 |q::r,i,j,u,kvs,s,hi,hk,hp,st,hd,hz,hR=>by
  have hx:xs[i]?=some q.2.1:=by
   rw[<- zaZ,<- zcW,hi];rfl
  have hy:ys[i]?=some q.2.2:=by
   rw[<- zaZ,<- zcW,hk];rfl
  have dn:∀a o,s.heap.get? a=some o->(∀es n,o.data≠.dict es n)->a≠d:=fun a o e n q=>by
   obtain⟨od,_,_,QF,_,JH,_⟩:=hd;rw[q,QF] at e;cases e;exact n _ _ JH
  have dz:d≠z:=by
   rcases st.zip with ⟨a,b,gz,_⟩ |⟨T,u,a,b,g,gz,_⟩
   ·exact(dn _ _ gz (by intro es n q;cases q)).symm
   ·exact(dn _ _ gz (by intro es n q;cases q)).symm
  have ZH:d≠j1:=by
   obtain⟨o,go,hc,BF⟩:=st.ED;exact(dn _ _ go (by intro es n q;rw[BF] at q;cases q)).symm
  have ZI:d≠j2:=by
   obtain⟨o,go,hc,BF⟩:=st.JK;exact(dn _ _ go (by intro es n q;rw[BF] at q;cases q)).symm
  refine codeAny_builtin lh ?_;rw[Around.under_plainId fh _];show wpAny _ A.in1 (pyNext (.ref z) >>= _) _ _ s;refine zdp (Gm ap st hx hy fun h' Ai pr kp=>?_);have BF:h'.DictOf knd d kvs:=by
   obtain⟨o,es,ep,ho,rest⟩:=hd;exact⟨o,es,ep,kp d o dz W9 ZH ZI ho,rest⟩
  show wpAny _ A.in1 (holding [Value.ref s.heap.objs.size] _ >>= _) _ _ _;refine zdp (zdr (zdp (wpAny_tryCatch ?_)));unfold Builtin.Dict.pairItems;refine zdp (wpAny_typeOf (T:="tuple") ⟨_,pr,rfl⟩ ?_);rw[if_pos (by decide)];refine zdp (wpAny_seqItems (s:={s with heap:=h' }) pr rfl (zdq ?_));show wpAny _ A.in1 (holding [q.2.1,q.2.2] (dictSet d q.2.1 q.2.2)) _ _ _;refine zdr (wpAny_dictSet_pairs (s:={s with heap:=h' }) (hp q (zav ..)) BF (fun h2 hd2 Nc=>?_) (by simp only[zak] at hz;lia));refine zdq ⟨plainId_quiet fh _,?_⟩;refine Cr knd d z ti to j1 j2 l tp xs ys res hA ap W9 r (i+1) (j+1) _ _ _ ?_ ?_ (fun p Uh=>hp p (zad _ Uh)) (Ai.but Nc fun a o e n w=>?_) hd2 ?_ fun h3 tk Ui keep=>hR h3 tk Ui fun b o n1 n2 n3 n4 n5 e=>keep b o n1 n2 n3 n4 n5 ?_
  ·rw[<- zc8,hi];rfl
  ·rw[<- zc8,hk];rfl
  ·obtain⟨od,_,_,QF,_,JH,_⟩:=BF;rw[w,QF] at e;cases e;exact n _ _ JH
  ·have:=stored_length_le kvs q.1 q.2.2;simp only[zak] at hz;lia
  ·exact(Nc.2 _ n1).trans (kp b o n2 n3 n4 n5 e)
theorem Gn:typeLookup (.type "zip") "keys"=pure none:=by rw[typeLookup_type,builtinLookup_eq_fast];kernel_rfl
theorem Gp:typeLookup (.type "zip") "__getattr__"=pure none:=by rw[typeLookup_type,builtinLookup_eq_fast];kernel_rfl
theorem xp:entryFor table "zip.__getattribute__"=some Builtin.«object.__getattribute__»:=entryFor_alias (id':="object.__getattribute__") (by kernel_rfl) (by first |rfl |decide +kernel) (by decide +kernel) (by kernel_rfl)
theorem DI(a:zdm)(u:Tok){hp:Heap}{g:Array GenState}{d:Drawn}{tk:Nat}{os:OsState}{vs:Array zdn}{Q:Fin->zdw->Prop}(hx:hp.get? a=some ⟨.type "zip",none,.fields vs, #[]⟩)(hA:A.handled=none)
 (h:∀h' JG e,Heap.NewAttrErr hp h' e (.ref a) "keys"->E (.ref e) ⟨h',g,d,JG,os⟩) :
 wpAny (model prog w) A (Builtin.«object.__getattribute__» ⟨[.ref a,.str "keys" u],[]⟩) Q E ⟨hp,g,d,tk,os⟩:=by
 have hT:(⟨hp,g,d,tk,os⟩:zdw).TypeIs (.ref a) "zip":=⟨_,hx,rfl⟩
 have f4:=Gn;unfold Builtin.«object.__getattribute__»
 repeat (any_goals (first |assumption |wp_step))
 exact wpAny_raiseAttrError hA h (attrMsg_fits (by decide +kernel) (by size_fits))
theorem AY(a:zdm){s:zdw}{vs:Array zdn}{Q:Option zdn->zdw->Prop}(hx:s.heap.get? a=some ⟨.type "zip",none,.fields vs, #[]⟩)(hA:A.handled=none)
 (h:∀h' tk,(∀b ob,s.heap.get? b=some ob->h'.get? b=some ob)->Q none {s with heap:=h',toks:=tk}):wpAny (model prog w) A (getAttr? (.ref a) "keys") Q E s:=by
 obtain⟨hp,g,d,tk,os⟩:=s;have hT:∀JG,(⟨hp,g,d,JG,os⟩:zdw).TypeIs (.ref a) "zip":=fun _=>⟨_,hx,rfl⟩
 have f1:=sub_AttributeError;have f2:=F.slot_zip_getattribute.lookup;have f3:=F.slot_zip_getattribute.bind (.ref a);have f5:=Gp;unfold getAttr? getAttrBy? getAttrBy
 repeat (any_goals (first |assumption |exact hT _ |wp_step))
 all_goals
  refine codeAny_call_builtin F.slot_zip_getattribute.plain xp (F.slot_zip_getattribute.check _ _ _ _ _ _ _ _ (show (⟨hp,g,d,tk+1,os⟩:zdw).TypeIs (.ref a) "zip" from ⟨_,hx,rfl⟩) (F.args_zip_getattribute_2 _ _) ?_)
 all_goals
  refine DI a tk hx hA fun h' JG e ne=>?_
 all_goals
  obtain⟨t',u',he⟩:=ne.there;show wpAny _ _ (getattributeRaised _ _ _ _ _ _ _) _ _ _;unfold getattributeRaised
  repeat (any_goals (first |assumption |wp_step))
 all_goals exact h _ _ ne.keeps
end
abbrev zA (h:Heap) (l:zdm):Heap:=h.push {cls:=.type "list_iterator",data:=.fields #[.ref l,.int 0 0]}
abbrev zB (h:Heap) (l tp:zdm):Heap:=(zA h l).push {cls:=.type "tuple_iterator",data:=.fields #[.ref tp,.int 0 0]}
abbrev zC (h:Heap) (l tp:zdm):Heap:=(zB h l tp).push {cls:=.type "tuple",data:=.seq #[.ref h.objs.size,.ref (zA h l).objs.size]}
abbrev zD (h:Heap) (l tp:zdm):Heap:=(zC h l tp).push {cls:=.type "tuple",data:=.seq #[.none,.none]}
abbrev zE (h:Heap) (l tp:zdm):Heap:=(zD h l tp).push {cls:=.type "zip",data:=.fields #[.none,.bool false,.bool false,.ref (zB h l tp).objs.size,.ref (zC h l tp).objs.size]}
theorem Gq(l tp:zdm)(xs ys:Array zdn):Meets (Builtin.«zip.__new__» ⟨[.type "zip",.ref l,.ref tp],[]⟩) (fun _ R s=>s.heap.IsList l xs/\s.heap.IsTuple tp ys/\R (.ok (.ret (.ref (zD s.heap l tp).objs.size))) {s with heap:=zE s.heap l tp}):=
 .of_wp fun prog w A R s h=>by
  obtain⟨hp,g,d,tk,os⟩:=s;obtain⟨g1,g2,h⟩:=h;have Uy:=sub_zip;have k1:Heap.IsList (Shared.heap ⟨hp,g,d,tk,os⟩) l xs:=g1;have k2:Heap.IsTuple (Shared.heap ⟨hp.push {cls:=.type "list_iterator",data:=.fields #[.ref l,.int 0 0]},g,d,tk,os⟩) tp ys:=by
   obtain⟨o,go,rest⟩:=g2;exact⟨o,Heap.get?_push_of_some _ go,rest⟩
  wp_walk using wpAny_pyIter_list k1,wpAny_pyIter_tuple k2
  exact⟨_,rfl,h⟩
section
variable{prog:zdy}{w:zdo}{A:zdx}{E:zdn->zdw->Prop}{s:zdw}
theorem JM(n l tp:Nat)(h1:l<n)(h2:tp<n):OF (n+4) (n+2) (n+3) n (n+1) l tp:=by
 constructor<;>(show (_:Nat)≠_;lia)
theorem AZ{l tp:zdm}{xs ys:Array zdn}{Q:zdn->zdw->Prop}(hl:s.heap.IsList l xs)(ht:s.heap.IsTuple tp ys)
 (h:∀h',OF (s.heap.objs.size+4) (s.heap.objs.size+2) (s.heap.objs.size+3) s.heap.objs.size (s.heap.objs.size+1) l tp->IB h' (s.heap.objs.size+4) (s.heap.objs.size+2) (s.heap.objs.size+3) s.heap.objs.size (s.heap.objs.size+1) l tp xs ys 0->
  oo h' (s.heap.objs.size+4) (s.heap.objs.size+2) (s.heap.objs.size+3) .none (.bool false)->(∀c o,s.heap.get? c=some o->h'.get? c=some o)->Q (.ref (s.heap.objs.size+4)) {s with heap:=h' }) :
 wpAny (model prog w) A (call (.type "zip") [.ref l,.ref tp]) Q E s:=by
 refine callType_new F.called_zip (by decide) (F.typeCall_zip_2 _ _) (F.newCall_zip_2 _ _) (fun obj=>F.args_object_init_3 obj _ _) F.entry_zip_new (Gq l tp xs ys) ⟨hl,ht,?_⟩;have z1:(zA s.heap l).objs.size=s.heap.objs.size+1:=Heap.size_push ..;have z2:(zB s.heap l tp).objs.size=s.heap.objs.size+2:=by rw[Heap.size_push,z1]
 have z3:(zC s.heap l tp).objs.size=s.heap.objs.size+3:=by rw[Heap.size_push,z2]
 have z4:(zD s.heap l tp).objs.size=s.heap.objs.size+4:=by rw[Heap.size_push,z3]
 have g5:(zE s.heap l tp).get? (zD s.heap l tp).objs.size=some _:=Heap.get?_push_size _ rfl;have g4:(zE s.heap l tp).get? (zC s.heap l tp).objs.size=some _:=Heap.get?_push_of_some _ (Heap.get?_push_size _ rfl);have g3:(zE s.heap l tp).get? (zB s.heap l tp).objs.size=some _:=Heap.get?_push_of_some _ (Heap.get?_push_of_some _ (Heap.get?_push_size _ rfl));have g2:(zE s.heap l tp).get? (zA s.heap l).objs.size=some _:=Heap.get?_push_of_some _ (Heap.get?_push_of_some _ (Heap.get?_push_of_some _ (Heap.get?_push_size _ rfl)));have g1:(zE s.heap l tp).get? s.heap.objs.size=some _:=Heap.get?_push_of_some _ (Heap.get?_push_of_some _ (Heap.get?_push_of_some _ (Heap.get?_push_of_some _ (Heap.get?_push_size _ rfl))));have up:∀c o,s.heap.get? c=some o->(zE s.heap l tp).get? c=some o:=fun c o e=>Heap.get?_push_of_some _ (Heap.get?_push_of_some _ (Heap.get?_push_of_some _ (Heap.get?_push_of_some _ (Heap.get?_push_of_some _ e))));show _/\_;rw[z2,z3,z4] at g5;rw[z1,z2] at g3;rw[z3] at g4;rw[z1] at g2;rw[z4];obtain⟨ol,gl,rl⟩:=id hl;obtain⟨ot,gt,rt⟩:=id ht;have ll:=Heap.lt_size gl;have lt:=Heap.lt_size gt;refine⟨⟨_,g5,rfl⟩,h _ (JM _ _ _ ll lt) ⟨.inl ⟨_,_,g5,g4⟩,g3,⟨_,g1,rfl,rfl⟩,⟨_,g2,rfl,rfl⟩,⟨ol,up _ _ gl,rl⟩,⟨ot,up _ _ gt,rt⟩⟩ g5 up⟩
theorem Gr{κ:Type}[DecidableEq κ](knd:KeyKind prog w κ)(z ti to j1 j2 l tp:zdm){xs ys:Array zdn}{Q:zdn->zdw->Prop}(hA:A.handled=none)(ap:OF z ti to j1 j2 l tp)(st:IB s.heap z ti to j1 j2 l tp xs ys 0)(gz:oo s.heap z ti to .none (.bool false))(r:List (κ×zdn×zdn))
 (hi:xs.toList=r.map (·.2.1)) (hk:ys.toList=r.map (·.2.2)) (hp:∀q∈r,knd.is q.1 q.2.1=true) (hz:r.length<=zdu) (Sr:to<s.heap.objs.size)
 (h:∀h' tk,h'.DictOf knd s.heap.objs.size (merged [] (r.map fun q=>(q.1,q.2.2)))->(∀b o,b≠z->b≠to->b≠j1->b≠j2->s.heap.get? b=some o->h'.get? b=some o)->Q (.ref s.heap.objs.size) {s with heap:=h',toks:=tk}) :
 wpAny (model prog w) A (call (.type "dict") [.ref z]) Q E s:=by
 refine callType_codes (Q₁:=fun obj s₁=>obj=.ref s.heap.objs.size/\s₁={s with heap:=s.heap.push {cls:=.type "dict",data:=.dict #[]} }) F.kt_called_dict (F.kt_typeCall_dict_1 _) F.entry_dict_init (kt_code_dict_new _ ⟨rfl,rfl⟩) ?_
 rintro obj s₁ ⟨rfl,rfl⟩
 have AV:(s.heap.push {cls:=.type "dict",data:=.dict #[]}).DictOf knd s.heap.objs.size []:=Heap.DictOf.new s.heap;have oh:∀b o,s.heap.get? b=some o->(s.heap.push {cls:=.type "dict",data:=.dict #[]}).get? b=some o:=fun b o e=>Heap.get?_push_of_some _ e;refine⟨AV.typeIs,F.args_dict_init_2 _ _,?_⟩;unfold Builtin.«dict.__init__»;refine zdp ?_;unfold Builtin.Dict.selfAndRest;refine zdp (wpAny_notOrdered_dict AV.typeIs ?_);show wpAny _ _ (pure (s.heap.objs.size,[Value.ref z])) _ _ _;refine zdq ?_;show wpAny _ _ (Builtin.Dict.updateFrom "dict.__init__" s.heap.objs.size (.ref z) [] .none) _ _ _;unfold Builtin.Dict.updateFrom;refine zdp (wpAny_typeOf (T:="zip") ⟨_,oh _ _ gz,rfl⟩ ?_);rw[if_pos (by decide)];refine zdp (AY z (oh _ _ gz) hA fun h2 Up om=>?_);rw[if_pos (show (none:Option zdn).isNone=true from rfl)];refine zdp (wpAny_rule ?_);have up:∀b o,s.heap.get? b=some o->h2.get? b=some o:=fun b o e=>om _ _ (oh _ _ e);have hd2:h2.DictOf knd s.heap.objs.size []:=by
  obtain⟨o,es,ep,ho,rest⟩:=AV;exact⟨o,es,ep,om _ _ ho,rest⟩
 refine zdp (wpAny_pyIter_zip (s:={s with heap:=h2,toks:=Up}) (up _ _ gz) ?_);refine zdq ⟨plainId_quiet fh _,?_⟩;have Oz:IB h2 z ti to j1 j2 l tp xs ys 0:=by
  refine⟨?_,up _ _ st.ins,?_,?_,?_,?_⟩
  ·rcases st.zip with ⟨a,b,e1,e2⟩ |⟨T,u,a,b,g,e1,e2⟩
   ·exact .inl ⟨a,b,up _ _ e1,up _ _ e2⟩
   ·exact .inr ⟨T,u,a,b,g,up _ _ e1,up _ _ e2⟩
  ·obtain⟨o,go,rest⟩:=st.ED;exact⟨o,up _ _ go,rest⟩
  ·obtain⟨o,go,rest⟩:=st.JK;exact⟨o,up _ _ go,rest⟩
  ·obtain⟨o,go,rest⟩:=st.ls;exact⟨o,up _ _ go,rest⟩
  ·obtain⟨o,go,rest⟩:=st.tu;exact⟨o,up _ _ go,rest⟩
 refine Cr (A:=A.in1) knd s.heap.objs.size z ti to j1 j2 l tp xs ys .none hA ap (zbC Sr) r 0 0 _ [] _ (by simpa using hi) (by simpa using hk) hp Oz hd2 (by simpa using hz) fun h4 Uq Ur Gi=>?_;refine⟨rfl,h h4 Uq Ur fun b o n1 n2 n3 n4 e=>Gi b o (fun w=>?_) n1 n2 n3 n4 (up _ _ e)⟩;rw[w] at e;exact absurd (Heap.lt_size e) (za7 _)
end
end L3
namespace L2
open PySem PyProof.Rows
theorem A0(c n k:Nat)(h:c<n):c≠n+k:=by lia
def Xa (K:zaa) (t:TA):TE:=fun σ H Q=>t σ H fun xs H1=>∃(a b:zdm) (ks:List Key) (vs:List V),xs=[.ref a,.ref b]/\fF K H1 a (ks.map kV)/\bS K H1 b vs/\vs.length=ks.length/\∀p,H1 p=none->Q (.ref p) (upd H1 p (.dK (iU [] (ks.zip vs))))
theorem A1{X:Cx}(hc:X.calm=true){ea eb:Expr}{p1 p2 QG DJ:Pos}{t:TA}(ZJ:Gl X "dict")(Uz:X.mg "dict"=none)(ZK:Gl X "zip")(UG:X.mg "zip"=none)(ha:PA X [ea,eb] t)
 (he:zds [ea,eb] X.env=(false,eval ea X.env)::zds [eb] X.env:=by rfl) (oK:(backTo DJ (zds [eb] X.env)).any (·.1)=false:=by rfl)
 (Sl:zds [.Call (.Name "zip" p2) [ea,eb] [] DJ] X.env=(false,eval (.Call (.Name "zip" p2) [ea,eb] [] DJ) X.env)::zds [] X.env:=by rfl) :
 PE X (.Call (.Name "dict" p1) [.Call (.Name "zip" p2) [ea,eb] [] DJ] [] QG) (Xa X.K t):=by
 intro pins s σ H Q I h;refine wpAny_Call_Name_kw (mi I ZJ Uz PyProof.Rows.Boot.«dict» ?_ (by decide) (by decide));refine zaS ?_ Sl rfl;rw[Sl];show wpAny _ _ (spliced ((false,eval (.Call (.Name "zip" p2) [ea,eb] [] DJ) X.env)::backTo QG (zds [] X.env))) _ _ s;refine Calls.spliced_cons ?_;refine wpAny_Call_Name_kw (mi I ZK UG PyProof.Rows.Boot.«zip» ?_ (by decide) (by decide));refine zaS (dw (ha DJ pins s σ H _ I h) fun us s1 zqz=>?_) he oK;obtain⟨xs,H1,I1,r1,q1⟩:=zqz;obtain⟨a,b,ks,vs,rfl,ZL,EE,lk,q⟩:=q1;obtain⟨u1,u2,rfl,ZM,ZN⟩:=vals2 r1;cases (show u1=Value.ref a from ZM);cases (show u2=Value.ref b from ZN);obtain⟨UH,v1,t1,z1⟩:=I1.list ZL;obtain⟨tP,v2,t2,z2⟩:=I1.tuple EE;have mk:∀(ks:List Key) (vs:List V) (Ss Nd:List zdn),Vals (ks.map kV) Ss->Vals vs Nd->vs.length=ks.length->∃r:List (Key×zdn×zdn),Ss=r.map (·.2.1)/\Nd=r.map (·.2.2)/\(∀q∈r,(bX X.prog X.w).is q.1 q.2.1=true)/\KV (ks.zip vs) (r.map fun q=>(q.1,q.2.2))/\r.length=ks.length:=by
  intro ks
  induction ks with
  |nil=>
   intro vs Ss Nd w1 w2 l;have:vs=[]:=zbT.mp l;subst this;cases w1;cases w2;exact⟨[],rfl,rfl,fun _ z=>(by cases z),.nil,rfl⟩
  |cons k ks ih=>
   intro vs Ss Nd w1 w2 l;cases vs with
   |nil=>simp at l
   |cons v vs=>
    rw[zar] at w1;cases w1 with
    |@cons _ ku _ ZO ZP ZQ=>
     cases w2 with
     |@cons _ vu _ ZR ZS ZT=>
      obtain⟨r,e1,e2,h3,h4,h5⟩:=ih vs ZO ZR ZQ ZT (by simpa using l);refine⟨(k,ku,vu)::r,by rw[e1];rfl,by rw[e2];rfl,fun q hq=>?_,.cons ⟨rfl,ZS⟩ h4,by simp[h5]⟩;rcases zag.mp hq with rfl |hq
      ·exact pG ZP
      ·exact h3 q hq
 obtain⟨r,e1,e2,ZU,kv,lr⟩:=mk ks vs UH tP v1 v2 lk;rw[zae] at z1;refine L3.AZ t1.isList (show s1.heap.IsTuple b tP.toArray from t2) fun h' ap st gz keep=>?_;refine Calls.spliced_nil ?_;have big:(s1.heap.objs.size+4:Nat)<h'.objs.size:=Heap.lt_size gz;have hle:s1.heap.objs.size<=h'.objs.size:=by lia
 refine L3.Gr (s:={s1 with heap:=h' }) (bX X.prog X.w) _ _ _ _ _ a b (I1.ok.hd hc) ap st gz r (by simpa using e1) (by simpa using e2) ZU (by lia) (show (s1.heap.objs.size+3:Nat)<h'.objs.size by lia) fun h2 tk dd om=>?_;have hn:=I1.da.fresh hle;have hb:(h'.objs.size==sysModules)=false:=beq_eq_false_iff_ne.mpr (Ne.symm (zaw (zaB I1.big hle)));refine⟨.ref h'.objs.size,_,I1.laid (fun c o e=>om c o ?_ ?_ ?_ ?_ (keep c o e)) hle (xj ?_ hb (kv.merge .nil) dd),rfl,q _ hn⟩
 ·have lc:(c:Nat)<s1.heap.objs.size:=Heap.lt_size e;exact A0 _ _ _ lc
 ·have lc:(c:Nat)<s1.heap.objs.size:=Heap.lt_size e;exact A0 _ _ _ lc
 ·have lc:(c:Nat)<s1.heap.objs.size:=Heap.lt_size e;exact zaw lc
 ·have lc:(c:Nat)<s1.heap.objs.size:=Heap.lt_size e;exact A0 _ _ _ lc
 ·have h1:=iq (ks.zip vs) [];rw[zaQ,zbF] at h1;lia
section
variable{K:zaa}{H H':Hp}{p C dx:zdm}{fs:List (Str×V)}
mutual
theorem nK(h:H p=some (.ins C dx fs))(u:aU (·=p) H H'):∀(d:Dp) (v:V),Rep K H d v->Rep K H' d v
 |.bO,v,r=>by rw[Rep.nF] at r ⊢;exact r
 |.bl b,v,r=>by rw[Rep.oM] at r ⊢;exact r
 |.int b,v,r=>by rw[Rep.bg] at r ⊢;exact r
 |.str b,v,r=>by rw[Rep.br] at r ⊢;exact r
 |.lst l,v,r=>by
  rw[Rep.bE] at r ⊢;obtain⟨a,ys,rfl,q,rs⟩:=r;refine⟨a,ys,rfl,?_,kF h u l ys rs⟩;rcases q with (q |⟨o,q⟩) |q
  ·exact .inl (.inl (u _ _ (bP q h (by intro z;cases z)) q))
  ·exact .inl (.inr ⟨o,u _ _ (bP q h (by intro z;cases z)) q⟩)
  ·exact .inr q
 |.tup l,v,r=>by
  rw[Rep.a0] at r ⊢;obtain⟨a,ys,rfl,q,rs⟩:=r;refine⟨a,ys,rfl,?_,kF h u l ys rs⟩;rcases q with (q |⟨o,q⟩) |q
  ·exact .inl (.inl (u _ _ (bP q h (by intro z;cases z)) q))
  ·exact .inl (.inr ⟨o,u _ _ (bP q h (by intro z;cases z)) q⟩)
  ·exact .inr q
theorem kF(h:H p=some (.ins C dx fs))(u:aU (·=p) H H'):∀(ds:List Dp) (vs:List V),aN K H ds vs->aN K H' ds vs
 |[],vs,r=>by rw[aN.bu] at r ⊢;exact r
 |d::ds,vs,r=>by
  rw[aN.aJ] at r ⊢;obtain⟨v,t,rfl,r1,r2⟩:=r;exact⟨v,t,rfl,nK h u d v r1,kF h u ds t r2⟩
end
end
theorem oQ{K:zaa}{a D:zdm}{xs:List V}{te:TE}{Q:VK}{r:St}{H:Hp}(kf:Nat->Key×V)(hS:fF K H a xs)(hl:xs.length<=16000000)(hD:H D=none)
 (step:∀i x H2,xs[i]?=some x->ar H H2->∀R:VK,(∀p,H2 p=none->R (.ref p) (upd H2 p (.tup [kV (kf i).1,(kf i).2])))->te (some x::r) H2 R)
 (q:∀(ps:List (zdm×Key×V)) H2,ar H H2->H2 D=some (.lst (ps.map fun q=>V.ref q.1))->(∀q∈ps,H2 q.1=some (.tup [kV q.2.1,q.2.2]))->ps.map (·.2)=(zaz xs.length).map kf->Q (.ref D) H2) :
 lU (EA K a) D (jn 0) rZ te Q (none::r) (upd H D (.lst [])):=by
 refine t9 (K:=K) (fun i ys H2=>∃ps:List (zdm×Key×V),ys=ps.map (fun q=>V.ref q.1)/\(∀q∈ps,H2 q.1=some (.tup [kV q.2.1,q.2.2]))/\ps.map (·.2)=(zaz i).map kf) hS hl hD ⟨[],rfl,fun _ z=>(by cases z),rfl⟩ ?_ ?_
 ·rintro i x ys H2 hx s2 Nf ly ⟨ps,rfl,JN,ep⟩ R hR
  refine step i x H2 hx s2 R fun p hp=>hR _ _ (ar.new hp _) ⟨ps++[(p,kf i)],by simp,fun q hq=>?_,by rw[zax,ep,zbU,zax];rfl⟩;have pD:D≠p:=aH Nf hp;rcases zai.mp hq with hq |hq
  ·have e:=JN q hq;rw[aE (bP e Nf (by intro z;cases z))];exact ar.new hp _ _ _ e
  ·rw[zan.mp hq];show upd (upd H2 p _) D _ p=_;rw[aE pD.symm,aq]
 ·rintro ys H2 s2 Nf ⟨ps,rfl,JN,ep⟩
  exact q ps H2 s2 Nf JN ep
theorem qH{K:zaa}{a D:zdm}{xs:List V}{te:TE}{Q:VK}{r:St}{H:Hp}(f:Nat->V)(hS:fF K H a xs)(hl:xs.length<=16000000)(hD:H D=none)
 (step:∀i x H2,xs[i]?=some x->ar H H2->∀R:VK,R (f i) H2->te (some x::r) H2 R)
 (q:∀H2,ar H H2->H2 D=some (.lst ((zaz xs.length).map f))->Q (.ref D) H2):lU (EA K a) D (jn 0) rZ te Q (none::r) (upd H D (.lst [])):=by
 refine t9 (K:=K) (fun i ys H2=>ys=(zaz i).map f) hS hl hD rfl ?_ ?_
 ·rintro i x ys H2 hx s2 Nf ly rfl R hR
  exact step i x H2 hx s2 R (hR _ _ (ar.refl _) (by rw[zbU,zax];rfl))
 ·rintro ys H2 s2 Nf rfl
  exact q H2 s2 Nf
structure si(K:zaa)(C:zdm)(H:Hp)(p:zdm)(pr:PG.Prog):Prop where
 at_:∃(dx nl sd fa va st wy:zdm) (us ws:List V),H p=some (.ins C dx [("names",.ref nl),("sizes",.ref sd),("first",.ref fa),("statements",.ref st),("ways",.ref wy)])/\H dx=some (.own p)/\
  H nl=some (.lst (pr.av.map fun b=>.str (S b.name)))/\H sd=some (.dK (pr.av.map fun b=>(.inr (S b.name),.int b.size)))/\
  H fa=some (.tup [.int (PG.aW pr.body 0),.ref va])/\H va=some (.tup (pr.av.map fun b=>.int b.first))/\
  us.length=(PG.ax pr.body).length/\H st=some (.dK (gJ (PG.ax pr.body) us))/\aN K H ((PG.ax pr.body).map dY) us/\
  ws.length=(PG.aF pr.body 0).length/\H wy=some (.dK (za8 (fun r v=>(Sum.inl r.1,v)) (PG.aF pr.body 0) ws))/\∀i (hi:i<(PG.aF pr.body 0).length),∃q,ws[i]?=some (.ref q)/\bS K H q ((PG.aF pr.body 0)[i].2.2.map V.int)
section
variable(K:zaa)(C:zdm)
def JO:Sp:=fun vs H Q _=>∃(p dx:zdm) (v:V) (pr:PG.Prog),vs=[.ref p,v]/\H p=some (.ins C dx [])/\H dx=some (.own p)/\Rep K H (j5 pr) v/\PG.dD pr.body<=4/\(PG.dQ pr.body).length<=1000/\(PG.ax pr.body).Pairwise (fun a b=>a.row<b.row)/\(pr.av.map (·.name)).Nodup/\pr.av.length<=10/\
 ∀H',aZ p H H'->si K C H' p pr->Q .bO H'
end
end L2
namespace L2
open PySem
def JP (kvs:List (Key×V)) (x:W):Int:=match cB kvs (.inr (S x)) with
 |some (.int i)=>i
 |_=>0
def EF (kvs:List (Key×V)):PM.Tr->Prop
 |.num n=>n.natAbs<=2 ^ 12
 |.box x=>∃i:Int,cB kvs (.inr (S x))=some (.int i)/\i.natAbs<=2 ^ 12
 |.bin o l r=>(o=[43]\/o=[45]\/o=[42])/\EF kvs l/\EF kvs r
theorem Gs{kvs:List (Key×V)}{x:W}{i:Int}(h:cB kvs (.inr (S x))=some (.int i)):JP kvs x=i:=by
 unfold JP;rw[h]
theorem iz{a b:Int}{m n:Nat}(ha:a.natAbs<=2 ^ m)(hb:b.natAbs<=2 ^ n):(a*b).natAbs<=2 ^ (m+n):=by
 rw[Int.natAbs_mul,zdl];exact Nat.mul_le_mul ha hb
theorem pK{kvs:List (Key×V)}:∀ {t:PM.Tr},EF kvs t->(fZ (JP kvs) t).natAbs<=2 ^ (14*2 ^ PG.dX t)
 |.num n,h=>by
  rw[EF] at h;rw[fZ];simp only[PG.dX];exact zau h (zaD (by decide) (by decide))
 |.box x,h=>by
  rw[EF] at h;obtain⟨i,e,hi⟩:=h;rw[fZ,Gs e];simp only[PG.dX];exact zau hi (zaD (by decide) (by decide))
 |.bin o l r,h=>by
  rw[EF] at h;have hl:=pK h.2.1;have hr:=pK h.2.2;have one:∀a b:Nat,1<=2 ^ max a b:=fun a b=>Nat.one_le_two_pow;have ml:(fZ (JP kvs) l).natAbs<=2 ^ (14*2 ^ max (PG.dX l) (PG.dX r)):=zau hl (zaD (by decide) (zb4 _ (zaD (by decide) (Nat.le_max_left _ _))));have mr:(fZ (JP kvs) r).natAbs<=2 ^ (14*2 ^ max (PG.dX l) (PG.dX r)):=zau hr (zaD (by decide) (zb4 _ (zaD (by decide) (Nat.le_max_right _ _))));rw[PG.dX,show 14*2 ^ (max (PG.dX l) (PG.dX r)+1)=14*2 ^ max (PG.dX l) (PG.dX r)+14*2 ^ max (PG.dX l) (PG.dX r) by rw[Nat.pow_succ];lia];have IC:14<=14*2 ^ max (PG.dX l) (PG.dX r):=zcQ _ (one _ _);generalize 14*2 ^ max (PG.dX l) (PG.dX r)=k at *;have two:2<=2 ^ k:=zau (by decide:2<=2 ^ 1) (zaD (by decide) (by lia));rw[zdl];have b2:2*2 ^ k<=2 ^ k*2 ^ k:=zb2 _ two;have ab:=zau (Nat.add_le_add ml mr) (by rw[<- Nat.two_mul];exact b2);rw[fZ];split
  ·exact zau (Int.natAbs_add_le _ _) ab
  ·split
   ·rw[Int.sub_eq_add_neg];refine zau (Int.natAbs_add_le _ _) ?_;rw[Int.natAbs_neg];exact ab
   ·rw[Int.natAbs_mul];exact Nat.mul_le_mul ml mr
theorem qI{a:Int}{d:Nat}(h:a.natAbs<=2 ^ (14*2 ^ d))(hd:d<=6):a.natAbs<2 ^ 4000:=by
 refine zcu h (Nat.pow_lt_pow_right (by decide) ?_);have:2 ^ d<=2 ^ 6:=zaD (by decide) hd;lia
section
variable(K:zaa)
def Su (n:Nat):Sp:=fun vs H Q _=>∃(v:V) (d:zdm) (tr:PM.Tr) (kvs:List (Key×V)),vs=[v,.ref d]/\Rep K H (jN tr) v/\H d=some (.dK kvs)/\EF kvs tr/\PG.dX tr<n/\PG.dX tr<=6/\∀H',ar H H'->Q (.int (fZ (JP kvs) tr)) H'
end
theorem si.mono{K:zaa}{C p:zdm}{H H':Hp}{pr:PG.Prog}(c:si K C H p pr)(s:ar H H'):si K C H' p pr:=by
 obtain⟨dx,nl,sd,fa,va,st,wy,us,ws,h1,h2,h3,h4,h5,h6,h7,h8,h9,Ng,JQ,Nh⟩:=c.at_;exact⟨⟨dx,nl,sd,fa,va,st,wy,us,ws,s _ _ h1,s _ _ h2,s _ _ h3,s _ _ h4,s _ _ h5,s _ _ h6,h7,s _ _ h8,h9.mono s,Ng,s _ _ JQ,fun i hi=>let ⟨q,e,r⟩:=Nh i hi;⟨q,e,s.bj r⟩⟩⟩
theorem jh{α β:Type}(g:α->β)(d:α)(l:List α):(zaz l.length).map (fun i=>g (l.getD i d))=l.map g:=by
 apply zcf
 ·simp
 ·intro i h1 h2;simp at h1 h2;simp[h2]
def cv (bs:List PG.ck) (vs:List V):List (Key×V):=za8 (fun b v=>(Sum.inr (S b.name),v)) bs vs
theorem ud:∀(bs:List PG.ck) (vs:List V),(bs.map fun b=>(Sum.inr (S b.name):Key)).zip vs=cv bs vs
 |[],vs=>by simp[cv]
 |b::bs,[]=>by simp[cv]
 |b::bs,v::vs=>by
  show _::(bs.map fun b=>(Sum.inr (S b.name):Key)).zip vs=_::cv bs vs;rw[ud bs vs]
theorem rH:∀(bs:List PG.ck) (vs:List V),vs.length=bs.length->(cv bs vs).map (·.1)=bs.map fun b=>(Sum.inr (S b.name):Key)
 |[],[],_=>rfl
 |[],_::_,h=>by simp at h
 |_::_,[],h=>by simp at h
 |b::bs,v::vs,h=>by
  show _::(cv bs vs).map (·.1)=_;rw[rH bs vs (by simpa using h)];rfl
theorem names_nodup{bs:List PG.ck}(nb:(bs.map (·.name)).Nodup):(bs.map fun b=>(Sum.inr (S b.name):Key)).Nodup:=by
 refine zaX.mpr ((zaX.mp nb).imp fun {a b} Sq e=>Sq ?_);exact kz.mp (Sum.inr.inj e)
theorem ig:∀(bs:List PG.ck) (vs:List V),vs.length=bs.length->(bs.map (·.name)).Nodup->∀i (hi:i<bs.length) v,vs[i]?=some v->cB (cv bs vs) (.inr (S bs[i].name))=some v
 |[],_,_,_,i,hi,_,_=>by simp at hi
 |_::_,[],h,_,_,_,_,_=>by simp at h
 |b::bs,v::vs,h,nb,0,hi,u,hu=>by
  simp at hu;subst hu;show cB ((_,v)::cv bs vs) _=_;exact cG rfl
 |b::bs,v::vs,h,nb,i+1,hi,u,hu=>by
  rw[zar,zaj] at nb;have mem:(bs[i]'(by simpa using hi)).name∈bs.map (·.name):=zaF.mpr ⟨_,zao _,rfl⟩;show cB ((.inr (S b.name),v)::cv bs vs) (.inr (S (bs[i]'(by simpa using hi)).name))=_;rw[cH (fun e=>by have e:=kz.mp (Sum.inr.inj e);exact nb.1 (e▸mem))];exact ig bs vs (by simpa using h) nb.2 i (by simpa using hi) u (by simpa using hu)
section
variable(K:zaa)(C:zdm)
def DK:Sp:=fun vs H Q _=>∃(p a:zdm) (pr:PG.Prog) (us:List V),vs=[.ref p,.ref a]/\si K C H p pr/\bS K H a us/\us.length=pr.av.length/\(pr.av.map (·.name)).Nodup/\pr.av.length<=10/\
 ∀d H',ar H H'->H d=none->H' d=some (.dK (cv pr.av us))->Q (.ref d) H'
def DL:Sp:=fun vs H Q _=>∃(p d:zdm) (pr:PG.Prog) (kvs:List (Key×V)) (us:List V),vs=[.ref p,.ref d]/\si K C H p pr/\H d=some (.dK kvs)/\us.length=pr.av.length/\(∀i (hi:i<pr.av.length),cB kvs (.inr (S pr.av[i].name))=us[i]?)/\pr.av.length<=10/\
 ∀a H',ar H H'->bS K H' a us->Q (.ref a) H'
def Gu:Sp:=fun vs H Q _=>∃(p:zdm) (pr:PG.Prog) (row:Int),vs=[.ref p,.int row]/\si K C H p pr/\(PG.ax pr.body).Pairwise (fun a b=>a.row<b.row)/\
 ((row=0/\Q (.str "end") H)\/(row≠0/\∃i,∃hi:i<(PG.ax pr.body).length,(PG.ax pr.body)[i].row=row/\Q (.str (nU (PG.ax pr.body)[i].wd)) H))
end
def jx:PG.bh->Option (W×PM.Tr×PM.Tr)
 |.cg _ sg l r=>some (sg,l,r)
 |.ifs _ sg l r _ _=>some (sg,l,r)
 |.eD _ sg l r _=>some (sg,l,r)
 |_=>none
def cn (sg:W) (a b:Int):Bool:=if sg=[60] then decide (a<b) else decide (a=b)
def wv (bs:List PG.ck) (vals:List Int) (e:PM.Tr):Int:=fZ (JP (cv bs (vals.map V.int))) e
abbrev A2 (bs:List PG.ck) (vals:List Int) (e:PM.Tr):Prop:=EF (cv bs (vals.map V.int)) e/\PG.dX e<=2
theorem ue{K:zaa}{H:Hp}{st:PG.bh}{v:V}{sg:W}{l r:PM.Tr}(h:Rep K H (dY st) v)(c:jx st=some (sg,l,r)):∃a w0 vl vr ys,v=.ref a/\bS K H a (w0 :: .int st.row :: .str (S sg)::vl::vr::ys)/\Rep K H (jN l) vl/\Rep K H (jN r) vr:=by
 have key:∃w ds,dY st=.tup (.str w :: .int st.row :: .str (S sg)::jN l::jN r::ds):=by
  cases st<;>simp only[jx,zaH.injEq,Prod.mk.injEq,reduceCtorEq] at c<;>obtain⟨rfl,rfl,rfl⟩:=c<;>exact⟨_,_,by rw[dY];rfl⟩
 obtain⟨w0,ds,e⟩:=key;rw[e,Rep.a0] at h;obtain⟨a,xs,rfl,q,rs⟩:=h;rw[aN.aJ] at rs;obtain⟨v0,t0,rfl,_,rs⟩:=rs;rw[aN.aJ] at rs;obtain⟨v1,t1,rfl,e1,rs⟩:=rs;rw[aN.aJ] at rs;obtain⟨v2,t2,rfl,e2,rs⟩:=rs;rw[aN.aJ] at rs;obtain⟨v3,t3,rfl,e3,rs⟩:=rs;rw[aN.aJ] at rs;obtain⟨v4,t4,rfl,e4,rs⟩:=rs;rw[Rep.bg] at e1;rw[Rep.br] at e2;subst e1 e2;exact⟨a,v0,v3,v4,t4,rfl,q,e3,e4⟩
def de (K:zaa) (H:Hp) (sa:zdm) (row:Int) (vals:List Int):Prop:=∃va,bS K H sa [.int row,.ref va]/\bS K H va (vals.map V.int)
theorem de.mono{K:zaa}{H H':Hp}{sa:zdm}{row:Int}{vals:List Int}(h:de K H sa row vals)(s:ar H H'):de K H' sa row vals:=let ⟨va,h1,h2⟩:=h;⟨va,s.bj h1,s.bj h2⟩
structure pL(pr:PG.Prog):Prop where
 pw:(PG.ax pr.body).Pairwise (fun a b=>a.row<b.row)
 nb:(pr.av.map (·.name)).Nodup
 i3:pr.av.length<=10
 pos:∀s∈PG.ax pr.body,0<s.row
section
variable(K:zaa)(C:zdm)
def JR:Sp:=fun vs H Q _=>∃(p sa:zdm) (pr:PG.Prog) (vals:List Int) (i:Nat) (hi:i<(PG.ax pr.body).length) (sg:W) (l r:PM.Tr),vs=[.ref p,.ref sa]/\si K C H p pr/\pL pr/\de K H sa (PG.ax pr.body)[i].row vals/\vals.length=pr.av.length/\jx (PG.ax pr.body)[i]=some (sg,l,r)/\A2 pr.av vals l/\A2 pr.av vals r/\
 ∀H',ar H H'->Q (.bl (cn sg (wv pr.av vals l) (wv pr.av vals r))) H'
end
theorem wm:∀(fl:List PG.cU) (vs:List V),vs.length=fl.length->fl.Pairwise (fun a b=>a.1<b.1)->∀i (hi:i<fl.length) v,vs[i]?=some v->cB (za8 (fun r v=>((Sum.inl r.1:Key),v)) fl vs) (.inl fl[i].1)=some v
 |[],_,_,_,i,hi,_,_=>by simp at hi
 |_::_,[],h,_,_,_,_,_=>by simp at h
 |s::ss,v::vs,h,hp,0,hi,u,hu=>by
  simp at hu;subst hu;rw[zc1];exact cG rfl
 |s::ss,v::vs,h,hp,i+1,hi,u,hu=>by
  rw[za1] at hp;have lt:=hp.1 (ss[i]'(by simpa using hi)) (zao _);rw[zc1];show cB _ (Sum.inl (ss[i]'(by simpa using hi)).1:Key)=_;rw[cH (fun e=>by have e:=Sum.inl.inj e;lia)];exact wm ss vs (by simpa using h) hp.2 i (by simpa using hi) u (by simpa using hu)
theorem mD(b:List PG.bh)(i:Nat)(hi:i<(PG.ax b).length):∃hf:i<(PG.aF b 0).length,(PG.aF b 0)[i].1=(PG.ax b)[i].row/\(PG.aF b 0)[i].2.1=(PG.ax b)[i].wd:=by
 have e:((PG.aF b 0).map fun r=>(r.1,r.2.1))=(PG.ax b).map fun x=>(x.row,x.wd):=by rw[PG.eU,PG.fJ]
 have l:=congrArg zaV e;rw[zae,zae] at l;have hf:i<(PG.aF b 0).length:=by lia
 refine⟨hf,?_⟩;have h1:((PG.aF b 0).map fun r=>(r.1,r.2.1))[i]?=((PG.ax b).map fun x=>(x.row,x.wd))[i]?:=by rw[e]
 rw[zah,zah,zab hf,zab hi] at h1;have h1:=zaH.inj h1;exact⟨congrArg Prod.fst h1,congrArg Prod.snd h1⟩
theorem DM{b:List PG.bh}(pw:(PG.ax b).Pairwise fun a b=>a.row<b.row):(PG.aF b 0).Pairwise fun a b=>a.1<b.1:=by
 have e:((PG.aF b 0).map fun r=>(r.1,r.2.1))=(PG.ax b).map fun x=>(x.row,x.wd):=by rw[PG.eU,PG.fJ]
 have h:((PG.ax b).map fun x=>(x.row,x.wd)).Pairwise fun a b=>a.1<b.1:=zaX.mpr pw;rw[<- e,zaX] at h;exact h
theorem si.way{K:zaa}{C p:zdm}{H:Hp}{pr:PG.Prog}(c:si K C H p pr)(ok:pL pr)(i:Nat)(hi:i<(PG.ax pr.body).length)(hf:i<(PG.aF pr.body 0).length):∃dx fs wy q,H p=some (.ins C dx fs)/\fs.lookup (zac "ways")=some (V.ref wy)/\ia H wy (.int (PG.ax pr.body)[i].row) (some (.ref q))/\bS K H q ((PG.aF pr.body 0)[i].2.2.map V.int):=by
 obtain⟨dx,nl,sd,fa,va,st,wy,us,ws,h1,h2,h3,h4,h5,h6,h7,h8,h9,Ng,JQ,Nh⟩:=c.at_;obtain⟨q,e,hq⟩:=Nh i hf;obtain⟨Xb,e1,_⟩:=mD pr.body i hi;have g:=wm _ _ Ng (DM ok.pw) i hf _ e;rw[e1] at g;exact⟨dx,_,wy,q,h1,rfl,.inl ⟨_,.inl _,.inl JQ,rfl,g.symm⟩,hq⟩
def lW (K:zaa) (H:Hp):Option (Int×List Int)->V->Prop
 |none,v=>v=.bO
 |some x,v=>∃a,v=.ref a/\de K H a x.1 x.2
def cb (bs:List PG.ck) (st:PG.bh) (ws:List Int) (vals:List Int):Option (Int×List Int):=match jx st with
 |none=>none
 |some (sg,l,r)=>if cn sg (wv bs vals l) (wv bs vals r) then some (ws.getD 0 0,vals) else if st.wd=.cg then none else some (ws.getD 1 0,vals)
section
variable(K:zaa)(C:zdm)
def DN:Sp:=fun vs H Q _=>∃(p sa:zdm) (pr:PG.Prog) (vals:List Int) (i:Nat) (hi:i<(PG.ax pr.body).length) (hf:i<(PG.aF pr.body 0).length) (sg:W) (l r:PM.Tr),vs=[.ref p,.ref sa]/\si K C H p pr/\pL pr/\de K H sa (PG.ax pr.body)[i].row vals/\vals.length=pr.av.length/\jx (PG.ax pr.body)[i]=some (sg,l,r)/\A2 pr.av vals l/\A2 pr.av vals r/\
 0<(PG.aF pr.body 0)[i].2.2.length/\((PG.ax pr.body)[i].wd≠.cg->1<(PG.aF pr.body 0)[i].2.2.length)/\
 ∀v H',ar H H'->lW K H' (cb pr.av (PG.ax pr.body)[i] (PG.aF pr.body 0)[i].2.2 vals) v->Q v H'
end
open PyProof.Rows
def gf (bs:List PG.ck) (x:W):Nat:=(bs.map (·.name)).idxOf x
def oR (bs:List PG.ck) (vals:List Int) (x:W) (v:Int):List Int:=vals.set (gf bs x) v
def df (bs:List PG.ck) (x:W):Int:=((bs[gf bs x]?).map (·.size)).getD 1
def fc (bs:List PG.ck) (st:PG.bh) (ws vals:List Int) (fig:Int):Option (Int×List Int)×Option Int:=match st with
 |.ask _ b=>(some (ws.getD 0 0,oR bs vals b (fig%df bs b)),none)
 |.put _ b e=>(some (ws.getD 0 0,oR bs vals b (wv bs vals e%df bs b)),none)
 |.say _ e=>(some (ws.getD 0 0,vals),some (wv bs vals e))
 |.stop _=>(some (ws.getD 0 0,vals),none)
 |st=>(cb bs st ws vals,none)
def Cs (bs:List PG.ck) (vals:List Int):PG.bh->Prop
 |.ask _ b=>b∈bs.map (·.name)
 |.put _ b e=>b∈bs.map (·.name)/\A2 bs vals e
 |.say _ e=>A2 bs vals e
 |.cg _ _ l r=>A2 bs vals l/\A2 bs vals r
 |.ifs _ _ l r _ _=>A2 bs vals l/\A2 bs vals r
 |.eD _ _ l r _=>A2 bs vals l/\A2 bs vals r
 |.stop _=>True
def Gv:Option Int->V
 |none=>.bO
 |some n=>.int n
theorem mE{bs:List PG.ck}{x:W}(h:x∈bs.map (·.name)):∃hi:gf bs x<bs.length,bs[gf bs x].name=x:=by
 have l:gf bs x<(bs.map (·.name)).length:=List.idxOf_lt_length_iff.mpr h;have e:(bs.map (·.name))[gf bs x]=x:=List.getElem_idxOf l;rw[zae] at l;rw[za5] at e;exact⟨l,e⟩
theorem A3{bs:List PG.ck}{vs:List V}(l:vs.length=bs.length)(nb:(bs.map (·.name)).Nodup){x:W}(h:x∈bs.map (·.name))(v:V)(i:Nat)(hi:i<bs.length) :
 cB (putK (cv bs vs) (.inr (S x)) v) (.inr (S bs[i].name))=(vs.set (gf bs x) v)[i]?:=by
 obtain⟨hx,ex⟩:=mE h;rw[pF];by_cases e:i=gf bs x
 ·subst e;rw[if_pos (by rw[ex]),zbi (by lia)]
 ·have ne:bs[i].name≠x:=fun z=>e (by
   have p1:=zbb.mp nb;rw[<- ex] at z;rcases zcC i (gf bs x) with lt |eq |gt
   ·exact absurd (by rw[za5,za5];exact z) (p1 i (gf bs x) (by simpa using hi) (by simpa using hx) lt)
   ·exact eq
   ·exact absurd (by rw[za5,za5];exact z.symm) (p1 (gf bs x) i (by simpa using hx) (by simpa using hi) gt))
  rw[if_neg (fun z=>ne (kz.mp (Sum.inr.inj z))),zbo (fun z=>e z.symm)];have li:i<vs.length:=by lia
  rw[ig bs vs l nb i hi vs[i] (zab li),zab li]
theorem pM{bs:List PG.ck}(nb:(bs.map (·.name)).Nodup){x:W}(h:x∈bs.map (·.name)):cB (bs.map fun b=>((Sum.inr (S b.name):Key),V.int b.size)) (.inr (S x))=some (.int (df bs x)):=by
 obtain⟨hx,ex⟩:=mE h;have e:(bs.map fun b=>((Sum.inr (S b.name):Key),V.int b.size))=cv bs (bs.map fun b=>V.int b.size):=by
  unfold cv;rw[List.zipWith_map_right,List.zipWith_self]
 rw[e];have:=ig bs (bs.map fun b=>V.int b.size) (by simp) nb (gf bs x) hx (.int bs[gf bs x].size) (by rw[zah,zab hx];rfl);rw[ex] at this;rw[this];unfold df;rw[zab hx];rfl
section
variable(K:zaa)(C:zdm)
def Gw:Sp:=fun vs H Q _=>∃(p sa:zdm) (fv:V) (pr:PG.Prog) (vals:List Int) (fig:Int) (i:Nat) (hi:i<(PG.ax pr.body).length) (hf:i<(PG.aF pr.body 0).length),vs=[.ref p,.ref sa,fv]/\si K C H p pr/\pL pr/\(∀b∈pr.av,0<b.size)/\de K H sa (PG.ax pr.body)[i].row vals/\vals.length=pr.av.length/\
 ((PG.ax pr.body)[i].wd=.ask->fv=.int fig)/\Cs pr.av vals (PG.ax pr.body)[i]/\0<(PG.aF pr.body 0)[i].2.2.length/\((PG.ax pr.body)[i].wd=.ifs\/(PG.ax pr.body)[i].wd=.eD->1<(PG.aF pr.body 0)[i].2.2.length)/\
 ∀q sv H',ar H H'->bS K H' q [sv,Gv (fc pr.av (PG.ax pr.body)[i] (PG.aF pr.body 0)[i].2.2 vals fig).2]->lW K H' (fc pr.av (PG.ax pr.body)[i] (PG.aF pr.body 0)[i].2.2 vals fig).1 sv->Q (.ref q) H'
end
open PySem.Spec
def QH (K:zaa):V->Option Int->Option Int->Hp->VK->Prop:=fun x lo hi H Q=>∃a xs,x=.ref a/\bS K H a xs/\∀p H',ar H H'->bS K H' p (ma xs lo hi)->Q (.ref p) H'
theorem JS{X:Cx}:PL X (QH X.K):=by
 intro pins s σ H x v vl vu lo hi sl Q I rx hs pl pu h;obtain⟨a,xs,rfl,hx,q⟩:=h;refine JD pins s σ H _ v vl vu lo hi sl Q I rx hs pl pu ⟨a,xs,rfl,hx,fun e=>q _ _ (ar.refl _) ?_,fun _ p hp=>q _ _ (ar.new hp _) (.of aq)⟩;have:ma xs lo hi=xs:=by
  unfold ma;rw[e.1,e.2];simp
 rw[this];exact hx
def UI:PG.bh->Prop
 |.cg _ sg _ _=>sg∈PG.Ak
 |.ifs _ sg _ _ _ _=>sg∈PG.Ak
 |.eD _ sg _ _ _=>sg∈PG.Ak
 |_=>True
section
variable(K:zaa)
def Ni:Sp:=fun vs H Q _=>∃(v:V) (sa:zdm) (fv:V) (pr:PG.Prog) (vals:List Int) (fig:Int) (i:Nat) (hi:i<(PG.ax pr.body).length) (hf:i<(PG.aF pr.body 0).length),vs=[v,.ref sa,fv]/\Rep K H (j5 pr) v/\PG.dD pr.body<=4/\(PG.dQ pr.body).length<=1000/\pL pr/\(∀b∈pr.av,0<b.size)/\de K H sa (PG.ax pr.body)[i].row vals/\vals.length=pr.av.length/\
 ((PG.ax pr.body)[i].wd=.ask->fv=.int fig)/\Cs pr.av vals (PG.ax pr.body)[i]/\0<(PG.aF pr.body 0)[i].2.2.length/\((PG.ax pr.body)[i].wd=.ifs\/(PG.ax pr.body)[i].wd=.eD->1<(PG.aF pr.body 0)[i].2.2.length)/\
 ∀q sv H',ar H H'->bS K H' q [sv,Gv (fc pr.av (PG.ax pr.body)[i] (PG.aF pr.body 0)[i].2.2 vals fig).2]->lW K H' (fc pr.av (PG.ax pr.body)[i] (PG.aF pr.body 0)[i].2.2 vals fig).1 sv->Q (.ref q) H'
def DO:Sp:=fun vs H Q _=>∃(v:V) (pr:PG.Prog),vs=[v]/\Rep K H (j5 pr) v/\PG.dD pr.body<=4/\(PG.dQ pr.body).length<=1000/\pL pr/\
 ∀a H',ar H H'->de K H' a (PG.aW pr.body 0) (pr.av.map (·.first))->Q (.ref a) H'
end
theorem bS.gC{K:zaa}{H H':Hp}{D a:zdm}{xs ys:List V}(h:bS K H a xs)(hD:H D=some (.lst ys))(u:aZ D H H'):bS K H' a xs:=by
 rcases h with (q |⟨o,q⟩) |q
 ·exact .inl (.inl (u _ _ (bP q hD (by intro z;cases z)) q))
 ·exact .inl (.inr ⟨o,u _ _ (bP q hD (by intro z;cases z)) q⟩)
 ·exact .inr q
theorem xq{bs:List PG.ck}{vals:List Int}(lv:vals.length=bs.length)(nb:(bs.map (·.name)).Nodup)(hv:∀v∈vals,v.natAbs<=2 ^ 12):∀e:PM.Tr,PG.dc bs e->EF (cv bs (vals.map V.int)) e
 |.num n,h=>by rw[PG.dc] at h;rw[EF];lia
 |.box x,h=>by
  rw[PG.dc] at h;rw[EF];obtain⟨hx,ex⟩:=mE h;have li:gf bs x<vals.length:=by lia
  refine⟨vals[gf bs x],?_,hv _ (zao li)⟩;have:=ig bs (vals.map V.int) (by simpa using lv) nb (gf bs x) hx (.int vals[gf bs x]) (by rw[zah,zab li];rfl);rw[ex] at this;exact this
 |.bin o l r,h=>by
  rw[PG.dc] at h;rw[EF];exact⟨by simpa using h.1,xq lv nb hv l h.2.1,xq lv nb hv r h.2.2⟩
theorem Nj{bs:List PG.ck}{vals:List Int}(lv:vals.length=bs.length)(nb:(bs.map (·.name)).Nodup)(hv:∀v∈vals,v.natAbs<=2 ^ 12){st:PG.bh}(h:PG.Dz (·∈bs.map (·.name)) (fun e=>PG.dc bs e/\PG.dX e<=2) (·∈PG.Ak) st):Cs bs vals st/\UI st:=by
 have k:∀e,(PG.dc bs e/\PG.dX e<=2)->A2 bs vals e:=fun e h=>⟨xq lv nb hv e h.1,h.2⟩
 cases st<;>rw[PG.Dz] at h
 ·exact⟨h,trivial⟩
 ·exact⟨⟨h.1,k _ h.2⟩,trivial⟩
 ·exact⟨k _ h,trivial⟩
 ·exact⟨⟨k _ h.2.1,k _ h.2.2⟩,h.1⟩
 ·exact⟨trivial,trivial⟩
 ·exact⟨⟨k _ h.2.1,k _ h.2.2.1⟩,h.1⟩
 ·exact⟨⟨k _ h.2.1,k _ h.2.2.1⟩,h.1⟩
theorem lW.keep{K:zaa}{H H':Hp}{o:Option (Int×List Int)}{v:V}(h:lW K H o v)(s:ar H H'):lW K H' o v:=by
 cases o with
 |none=>exact h
 |some x=>obtain⟨a,e,sa⟩:=h;exact⟨a,e,sa.mono s⟩
section
variable{K:zaa}{H H':Hp}{p C dx a:zdm}{fs:List (Str×V)}{xs:List V}
theorem bS.ins(h:bS K H a xs)(hp:H p=some (.ins C dx fs))(u:aZ p H H'):bS K H' a xs:=by
 rcases h with (q |⟨o,q⟩) |q
 ·exact .inl (.inl (u _ _ (bP q hp (by intro z;cases z)) q))
 ·exact .inl (.inr ⟨o,u _ _ (bP q hp (by intro z;cases z)) q⟩)
 ·exact .inr q
theorem fF.ins(h:fF K H a xs)(hp:H p=some (.ins C dx fs))(u:aZ p H H'):fF K H' a xs:=by
 rcases h with (q |⟨o,q⟩) |q
 ·exact .inl (.inl (u _ _ (bP q hp (by intro z;cases z)) q))
 ·exact .inl (.inr ⟨o,u _ _ (bP q hp (by intro z;cases z)) q⟩)
 ·exact .inr q
theorem de.ins{row:Int}{vals:List Int}(h:de K H a row vals)(hp:H p=some (.ins C dx fs))(u:aZ p H H'):de K H' a row vals:=let ⟨va,h1,h2⟩:=h;⟨va,h1.ins hp u,h2.ins hp u⟩
theorem si.ins{CC ch:zdm}{pr:PG.Prog}(c:si K CC H ch pr)(hp:H p=some (.ins C dx fs))(n:ch≠p)(u:aZ p H H'):si K CC H' ch pr:=by
 obtain⟨dx,nl,sd,fa,va,st,wy,us,ws,h1,h2,h3,h4,h5,h6,h7,h8,h9,Ng,JQ,Nh⟩:=c.at_;have k:∀ {b:zdm} {o:HO},H b=some o->(∀C dx fs,o≠.ins C dx fs)->H' b=some o:=fun e no=>u _ _ (bP e hp (no _ _ _)) e;exact⟨⟨dx,nl,sd,fa,va,st,wy,us,ws,u _ _ n h1,k h2 (by intro _ _ _ z;cases z),k h3 (by intro _ _ _ z;cases z),k h4 (by intro _ _ _ z;cases z),k h5 (by intro _ _ _ z;cases z),k h6 (by intro _ _ _ z;cases z),h7,k h8 (by intro _ _ _ z;cases z),kF hp (aU.one u rfl) _ _ h9,Ng,k JQ (by intro _ _ _ z;cases z),fun i hi=>let ⟨q,e,r⟩:=Nh i hi;⟨q,e,r.ins hp u⟩⟩⟩
end
theorem Nk{tc:TT}{tb:TS}{D:Ends}{σ:St}{H:Hp}(h:∀B:TS,(∀D σ H,tb D σ H->B D σ H)->Aw tc B D σ H):Aw tc tb D σ H:=h tb fun _ _ _ x=>x
def QI:PG.jt->List V
 |.on=>[.str "on"]
 |.out=>[.str "out"]
 |.cg r=>[.str "must",.int r]
 |.fin=>[.str "end"]
def uf (K:zaa) (H:Hp):Option PG.jt->V->Prop
 |none,v=>v=.bO
 |some e,v=>∃a,v=.ref a/\bS K H a (QI e)
theorem uf.mono{K:zaa}{H H':Hp}{e:Option PG.jt}{v:V}(h:uf K H e v)(s:ar H H'):uf K H' e v:=by
 cases e with
 |none=>exact h
 |some x=>obtain⟨a,e,q⟩:=h;exact⟨a,e,s.bj q⟩
theorem uf.ins{K:zaa}{H H':Hp}{p C dx:zdm}{fs:List (Str×V)}{e:Option PG.jt}{v:V}(h:uf K H e v)(hp:H p=some (.ins C dx fs))(u:aZ p H H'):uf K H' e v:=by
 cases e with
 |none=>exact h
 |some x=>obtain⟨a,e,q⟩:=h;exact⟨a,e,q.ins hp u⟩
def Sv (ch fl:zdm) (n:Nat) (sa:zdm) (ev:V):List (Str×V):=[("chart",.ref ch),("figures",.ref fl),("taken",.int n),("standing",.ref sa),("end",ev)]
structure EG(K:zaa)(CC CW:zdm)(H:Hp)(wk ch fl:zdm)(pr:PG.Prog)(ie:List Int)(n:Nat)(row:Int)(vals:List Int)(e:Option PG.jt):Prop where
 at_:∃(dx sa:zdm) (ev:V),H wk=some (.ins CW dx (Sv ch fl n sa ev))/\de K H sa row vals/\uf K H e ev
 Xc:si K CC H ch pr
 Xd:fF K H fl (ie.map V.int)
 QJ:ch≠wk
theorem EG.mono{K:zaa}{CC CW:zdm}{H H':Hp}{wk ch fl:zdm}{pr:PG.Prog}{ie:List Int}{n:Nat}{row:Int}{vals:List Int}{e:Option PG.jt}(h:EG K CC CW H wk ch fl pr ie n row vals e)(s:ar H H'):EG K CC CW H' wk ch fl pr ie n row vals e:=
 let ⟨dx,sa,ev,h1,h2,h3⟩:=h.at_
 ⟨⟨dx,sa,ev,s _ _ h1,h2.mono s,h3.mono s⟩,h.Xc.mono s,s.seq h.Xd,h.QJ⟩
theorem EG.put{K:zaa}{CC CW:zdm}{H:Hp}{wk ch fl dx sa Sw:zdm}{pr:PG.Prog}{ie:List Int}{n n':Nat}{row QK:Int}{vals Lu:List Int}{e e':Option PG.jt}{ev Sx:V}(h:EG K CC CW H wk ch fl pr ie n row vals e)(hw:H wk=some (.ins CW dx (Sv ch fl n sa ev)))
 (hs:de K H Sw QK Lu) (he:uf K H e' Sx):EG K CC CW (upd H wk (.ins CW dx (Sv ch fl n' Sw Sx))) wk ch fl pr ie n' QK Lu e':=by
 have u:aZ wk H (upd H wk (.ins CW dx (Sv ch fl n' Sw Sx))):=(aZ.refl _ _).put _;exact⟨⟨dx,Sw,Sx,aq,hs.ins hw u,he.ins hw u⟩,h.Xc.ins hw h.QJ u,h.Xd.ins hw u,h.QJ⟩
theorem EG.lst{K:zaa}{CC CW:zdm}{H H':Hp}{wk ch fl rl:zdm}{pr:PG.Prog}{ie:List Int}{n:Nat}{row:Int}{vals:List Int}{e:Option PG.jt}{xs:List V}(h:EG K CC CW H wk ch fl pr ie n row vals e)(hr:H rl=some (.lst xs))(u:aZ rl H H')(c:si K CC H' ch pr)(f:fF K H' fl (ie.map V.int)):EG K CC CW H' wk ch fl pr ie n row vals e:=by
 obtain⟨dx,sa,ev,h1,⟨va,h2,h3⟩,h4⟩:=h.at_;refine⟨⟨dx,sa,ev,u _ _ (bP h1 hr (by intro z;cases z)) h1,⟨va,h2.gC hr u,h3.gC hr u⟩,?_⟩,c,f,h.QJ⟩;cases e with
 |none=>exact h4
 |some x=>obtain⟨a,e,q⟩:=h4;exact⟨a,e,q.gC hr u⟩
def JT (b:List PG.bh) (row:Int):PG.bh:=((PG.ax b)[PG.Jy b row]?).getD (.stop 0)
def Nl (b:List PG.bh) (row:Int):List Int:=(((PG.aF b 0)[PG.Jy b row]?).map (·.2.2)).getD []
def UJ (b:List PG.bh) (row:Int):Bool:=decide ((JT b row).wd=.ask)
def Ct (pr:PG.Prog) (row:Int) (vals:List Int) (f:Int):Option (Int×List Int)×Option Int:=fc pr.av (JT pr.body row) (Nl pr.body row) vals f
theorem JU{b:List PG.bh}(pw:(PG.ax b).Pairwise (fun a b=>a.row<b.row))(i:Nat)(hi:i<(PG.ax b).length):JT b (PG.ax b)[i].row=(PG.ax b)[i]:=by
 unfold JT;rw[PG.Ck pw i hi,zab hi];rfl
theorem JV{b:List PG.bh}(pw:(PG.ax b).Pairwise (fun a b=>a.row<b.row))(i:Nat)(hi:i<(PG.ax b).length)(hf:i<(PG.aF b 0).length):Nl b (PG.ax b)[i].row=(PG.aF b 0)[i].2.2:=by
 unfold Nl;rw[PG.Ck pw i hi,zab hf];rfl
structure xr(pr:PG.Prog)(row:Int)(vals:List Int):Prop where
 row:row=0\/∃i,∃hi:i<(PG.ax pr.body).length,(PG.ax pr.body)[i].row=row
 len:vals.length=pr.av.length
 small:∀v∈vals,v.natAbs<=2 ^ 12
structure vt(pr:PG.Prog):Prop where
 ok:pL pr
 dep:PG.dD pr.body<=4
 i3:(PG.dQ pr.body).length<=1000
 own:PG.xn (·∈pr.av.map (·.name)) (fun e=>PG.dc pr.av e/\PG.dX e<=2) (·∈PG.Ak) pr.body
 size:∀b∈pr.av,2<=b.size/\b.size<=10/\0<=b.first/\b.first<b.size
theorem JW{pr:PG.Prog}{w:Int}(h:w=0\/w=0\/∃t∈PG.ax pr.body,t.row=w):w=0\/∃i,∃hi:i<(PG.ax pr.body).length,(PG.ax pr.body)[i].row=w:=by
 rcases h with h |h |⟨t,ht,e⟩
 ·exact .inl h
 ·exact .inl h
 ·obtain⟨i,hi,e2⟩:=za6.mp ht;exact .inr ⟨i,hi,by rw[e2];exact e⟩
theorem zc{pr:PG.Prog}(d:vt pr){x:W}(h:x∈pr.av.map (·.name)):2<=df pr.av x/\df pr.av x<=10:=by
 obtain⟨hx,_⟩:=mE h;unfold df;rw[zab hx];have:=d.size _ (zao hx);exact⟨this.1,this.2.1⟩
theorem xr.step{pr:PG.Prog}(d:vt pr){i:Nat}(hi:i<(PG.ax pr.body).length)(hf:i<(PG.aF pr.body 0).length){vals:List Int}{f:Int}(lv:vals.length=pr.av.length)(sm:∀v∈vals,v.natAbs<=2 ^ 12){x:Int×List Int}{s:Option Int}
 (h:fc pr.av (PG.ax pr.body)[i] (PG.aF pr.body 0)[i].2.2 vals f=(some x,s)):xr pr x.1 x.2:=by
 have Gx:=PG.iy pr.body _ d.own (zao hi);obtain⟨w0,w1⟩:=PG.jg pr.body 0 _ (zao hf);have UK:=PG.kD pr.body 0 _ (zao hf);obtain⟨_,_,ew⟩:=mD pr.body i hi;rw[ew] at w1;generalize (PG.aF pr.body 0)[i].2.2=ws at *;generalize (PG.ax pr.body)[i]=st at *;have r0:∀j,j<ws.length->ws.getD j 0=0\/∃i,∃hi:i<(PG.ax pr.body).length,(PG.ax pr.body)[i].row=ws.getD j 0:=fun j hj=>by
  rw[zaf,zab hj];exact JW (UK _ (zao hj))
 have set:∀(b:W) (z:Int),b∈pr.av.map (·.name)->(oR pr.av vals b (z%df pr.av b)).length=pr.av.length/\∀v∈oR pr.av vals b (z%df pr.av b),v.natAbs<=2 ^ 12:=fun b z hb=>by
  unfold oR;refine⟨by rw[zaT];exact lv,fun v hv=>?_⟩;rcases zcH hv with hv |rfl
  ·exact sm v hv
  ·have:=zc d hb;have m1:=zbh z (b:=df pr.av b) (by lia);have m2:=za2 z (b:=df pr.av b) (by lia);lia
 have cs:cb pr.av st ws vals=some x->(st.wd=.cg\/st.wd=.ifs\/st.wd=.eD)->xr pr x.1 x.2:=by
  intro e hw;unfold cb at e;split at e
  ·cases e
  ·split at e
   ·cases e;exact⟨r0 0 w0,lv,sm⟩
   ·split at e
    ·cases e
    ·rename_i nm;cases e;exact⟨r0 1 (w1 (hw.resolve_left nm)),lv,sm⟩
 have Sy:∀(y:Int×List Int) (s':Option Int),(some y,s')=(some x,s)->xr pr y.1 y.2->xr pr x.1 x.2:=fun y s' e h=>by cases e;exact h
 cases st<;>rw[PG.Dz] at Gx
 ·exact Sy _ _ h ⟨r0 0 w0,(set _ _ Gx).1,(set _ _ Gx).2⟩
 ·exact Sy _ _ h ⟨r0 0 w0,(set _ _ Gx.1).1,(set _ _ Gx.1).2⟩
 ·exact Sy _ _ h ⟨r0 0 w0,lv,sm⟩
 ·exact cs (congrArg Prod.fst h) (.inl rfl)
 ·exact Sy _ _ h ⟨r0 0 w0,lv,sm⟩
 ·exact cs (congrArg Prod.fst h) (.inr (.inl rfl))
 ·exact cs (congrArg Prod.fst h) (.inr (.inr rfl))
section
variable(K:zaa)(CC CW:zdm)
def Gy (H:Hp) (q:zdm) (o:PG.WZ):Prop:=∃(r s e:zdm),bS K H q [.ref r,.ref s,.ref e]/\H r=some (.lst (o.rows.map V.int))/\H s=some (.lst (o.Ub.map V.int))/\r≠s/\bS K H e (QI o.fin)
end
theorem bS.dk{K:zaa}{H H':Hp}{D a:zdm}{xs:List V}{kvs:List (Key×V)}(h:bS K H a xs)(hD:H D=some (.dK kvs))(u:aZ D H H'):bS K H' a xs:=by
 rcases h with (q |⟨o,q⟩) |q
 ·exact .inl (.inl (u _ _ (bP q hD (by intro z;cases z)) q))
 ·exact .inl (.inr ⟨o,u _ _ (bP q hD (by intro z;cases z)) q⟩)
 ·exact .inr q
theorem de.gC{K:zaa}{H H':Hp}{D a:zdm}{ys:List V}{row:Int}{vals:List Int}(h:de K H a row vals)(hD:H D=some (.lst ys))(u:aZ D H H'):de K H' a row vals:=let ⟨va,h1,h2⟩:=h;⟨va,h1.gC hD u,h2.gC hD u⟩
theorem Gy.mono{K:zaa}{H H':Hp}{q:zdm}{o:PG.WZ}(h:Gy K H q o)(s:ar H H'):Gy K H' q o:=let ⟨r,t,e,h1,h2,h3,h4,h5⟩:=h;⟨r,t,e,s.bj h1,s _ _ h2,s _ _ h3,h4,s.bj h5⟩
section
variable{sa sb sc:Int}{a b c g:Int}{l:List Int}
def cK (sa:Nat):List Int:=[6,7]++(zb8 sa [8,9]).flatten++[8,11]
end
section
variable{K:zaa}{H H1:Hp}{p:zdm}{vs:List V}{ds:List Dp}
theorem gT(e:upd H p (.tup vs)=H1)(hp:H p=none):ar H H1:=e▸ar.new hp _
theorem gL(e:upd H p (.lst vs)=H1)(hp:H p=none):ar H H1:=e▸ar.new hp _
theorem OG(e:upd H p (.lst vs)=H1):H1 p=some (.lst vs):=e▸aq
end
section
variable{prog:zdy}{w:zdo}
def Nm (prog:zdy) (w:zdo) (h:Heap) (x:Key×List Key) (a:zdm):Prop:=∃(o:Obj) (n:Nat) (u:zdn) (b:zdm),h.get? a=some o/\o.cls=.type "tuple"/\o.data=.seq #[u,.ref b] n/\rq x.1 u=true/\IsTupleKey (bX prog w) h x.2 b
theorem Nm.one{h:Heap}{a:zdm}{x y:Key×List Key}(hx:Nm prog w h x a)(hy:Nm prog w h y a):x=y:=by
 obtain⟨o,n,u,b,e,_,d,i,t⟩:=hx;obtain⟨o',n',u',b',e',_,d',i',t'⟩:=hy;rw[e] at e';cases e';rw[d] at d'
 injection d' with d1 _
 have d1:=congrArg zdg d1;simp only[List.cons.injEq,Value.ref.injEq,and_true] at d1;obtain⟨rfl,rfl⟩:=d1;exact Prod.ext ((bX prog w).inj _ _ _ i i') (t.inj t')
variable{A:zdx}{E:zdn->zdw->Prop}{s:zdw}
end
def tN (b:Bool):Int:=if b then 1 else 0
theorem Nn{a b:Bool}:(tN a==tN b)=(a==b):=by cases a<;>cases b<;>rfl
structure KH(κ:Type)[DecidableEq κ] where
 knd:∀(P:zdy) (w:zdo),HeapKind P w κ
 on:zaa->Hp->κ->zdm->Prop
 up:∀ {K:zaa} {H H':Hp} {x:κ} {a:zdm},(∀b ys,bS K H b ys->bS K H' b ys)->on K H x a->on K H' x a
 of:∀ {X:Cx} {pins:List (zdm×Obj)} {σ:St} {H:Hp} {s:zdw} {x:κ} {a:zdm},Inv X pins σ H s->on X.K H x a->(knd X.prog X.w).is s.heap x a
 room:∀ {P:zdy} {w:zdo} {A:zdx},A.units+16<cLine->(knd P w).room A.in1
section
variable{κ:Type}[DecidableEq κ](J:KH κ)
def Lv (P:zdy) (w:zdo) (a:zdm) (xs:List (κ×zdm×zdn)):Heap->Prop:=fun h=>∃o es ep,h.get? a=some o/\o.ExactDict/\o.data=.dict es ep/\es.toList=xs.map (entryOfKey (J.knd P w))
abbrev KS (K:zaa) (H:Hp):List (κ×V)->List (κ×zdm×zdn)->Prop:=Paired fun p q=>p.1=q.1/\J.on K H p.1 q.2.1/\RelV p.2 q.2.2
structure DS(P:zdy)(w:zdo)(K:zaa)(H:Hp)(a:zdm)(kvs:List (κ×V)):Prop where
 len:kvs.length<=zdu
 sys:(a==sysModules)=false
 at_:∃xs,H a=some (.ext (Lv J P w a xs))/\KS J K H kvs xs/\(xs.map (·.1)).Nodup
variable{J}
section
variable{K:zaa}{H H':Hp}{kvs:List (κ×V)}{xs:List (κ×zdm×zdn)}
theorem KS.val(r:KS J K H kvs xs)(k:κ):nT (cB kvs k) ((atKey xs k).map (·.2)):=by
 induction r with
 |nil=>exact True.intro
 |@cons p q ps qs h t ih=>
  by_cases e:p.1=k
  ·rw[cG e,show atKey (q::qs) k=some q.2 by simp[atKey,h.1.symm.trans e]];exact h.2.2
  ·have e':¬q.1=k:=fun z=>e (h.1.trans z);rw[cH e,show atKey (q::qs) k=atKey qs k by simp[atKey,e']];exact ih
theorem KS.put(r:KS J K H kvs xs)(k:κ){b:zdm}{y:V}{u:zdn}(hb:J.on K H k b)(ry:RelV y u):KS J K H (putK kvs k y) (storedH xs k b u):=by
 have e:(kvs.any fun kv=>decide (kv.1=k))=(atKey xs k).isSome:=by rw[jr,(r.val k).jf,zca]
 unfold putK storedH;rw[e];by_cases q:(atKey xs k).isSome=true
 ·rw[if_pos q,if_pos q];clear e q
  induction r with
  |nil=>exact .nil
  |@cons p q ps qs h t ih=>
   refine .cons ?_ ih;dsimp only;unfold putAt;by_cases e:p.1=k
   ·rw[if_pos e];rw[if_pos (h.1.symm.trans e)];exact⟨h.1,h.2.1,ry⟩
   ·rw[if_neg e];rw[if_neg fun z=>e (h.1.trans z)];exact h
 ·rw[if_neg q,if_neg q];exact Paired.snoc r ⟨rfl,hb,ry⟩
theorem KS.up(r:KS J K H kvs xs)(t:∀b ys,bS K H b ys->bS K H' b ys):KS J K H' kvs xs:=Paired.wR r fun _ _ z=>⟨z.1,J.up t z.2.1,z.2.2⟩
end
section
variable{X:Cx}{pins:List (zdm×Obj)}{σ:St}{H:Hp}{s:zdw}{a b:zdm}{v:V}{u r:zdn}{A:zdx}{E:zdn->zdw->Prop}{kvs:List (κ×V)}{k:κ}
theorem bS.ext{K:zaa}{H:Hp}{a c:zdm}{φ:Heap->Prop}{o:HO}{ys:List V}(h:bS K H c ys)(e:H a=some (.ext φ)):bS K (upd H a o) c ys:=by
 rcases h with (q |⟨o',q⟩) |q
 ·exact .inl (.inl (by rw[aE (bP q e (by intro z;cases z))];exact q))
 ·exact .inl (.inr ⟨o',by rw[aE (bP q e (by intro z;cases z))];exact q⟩)
 ·exact .inr q
end
theorem DS.UL{P:zdy}{w:zdo}{K:zaa}{H H':Hp}{a:zdm}{kvs:List (κ×V)}(d:DS J P w K H a kvs)(e:∀o,H a=some o->H' a=some o)(t:∀b ys,bS K H b ys->bS K H' b ys):DS J P w K H' a kvs:=⟨d.len,d.sys,let ⟨xs,h,r,nd⟩:=d.at_;⟨xs,e _ h,r.up t,nd⟩⟩
theorem DS.mono{P:zdy}{w:zdo}{K:zaa}{H H':Hp}{a:zdm}{kvs:List (κ×V)}(d:DS J P w K H a kvs)(s:ar H H'):DS J P w K H' a kvs:=d.UL (fun o h=>s _ _ h) fun b ys q=>s.bj q
section
variable{X:Cx}{o i value:Expr}{pos pos':Pos}{td ty tv:TE}
def Gz (J:KH κ) (P:zdy) (w:zdo):TE:=fun _ H Q=>∀p,H p=none->(p==sysModules)=false->Q (.ref p) (upd H p (.ext (Lv J P w p [])))
def GA (J:KH κ) (P:zdy) (w:zdo) (K:zaa) (td ty tv:TE):TS:=fun D σ H=>tv σ H fun v H1=>td σ H1 fun x H2=>ty σ H2 fun y H3=>∃(a b:zdm) (kvs:List (κ×V)) (k:κ),x=.ref a/\y=.ref b/\DS J P w K H3 a kvs/\J.on K H3 k b/\kvs.length<zdu/\
 ∀H4,DS J P w K H4 a (putK kvs k v)->(∃φ,H4=upd H3 a (.ext φ))->D.nx σ H4
def GB (J:KH κ) (P:zdy) (w:zdo) (K:zaa) (td ty:TE):TE:=fun σ H Q=>td σ H fun x H1=>ty σ H1 fun y H2=>∃(a b:zdm) (kvs:List (κ×V)) (k:κ) (v:V),x=.ref a/\y=.ref b/\DS J P w K H2 a kvs/\J.on K H2 k b/\cB kvs k=some v/\Q v H2
end
end
abbrev A4:=Key×List Key
def wt (h:Heap) (d:zdm) (es:Array DictEntry) (ep:Nat):Prop:=∃o,h.get? d=some o/\o.ExactDict/\o.data=.dict es ep
section
variable{prog:zdy}{w:zdo}{A:zdx}{E:zdn->zdw->Prop}{s:zdw}{d it:zdm}{es:Array DictEntry}{ep i:Nat}
theorem wt.ty(x:wt s.heap d es ep):s.TypeIs (.ref d) "dict":=let ⟨o,g,c,_⟩:=x;⟨o,g,c.1⟩
theorem wt.UL{h h':Heap}(x:wt h d es ep)(e:∀o,h.get? d=some o->h'.get? d=some o):wt h' d es ep:=let ⟨o,g,r⟩:=x;⟨o,e _ g,r⟩
end
end L2
namespace PG
section
variable{β:Type}(ask:Int->Bool)(step:Int->List Int->Int->Option (Int×List Int)×Option Int)(tg:Int×List Int->List β)
abbrev dR:=Int×List Int
def yg (x:dR×List Int):Option (dR×List Int):=if x.1.1=0 then none else match take1 (ask x.1.1) x.2 with
 |none=>none
 |some (f,r)=>(step x.1.1 x.1.2 f).1.map fun y=>(y,r)
inductive Met:dR×List Int->β->Prop
 |here {s t}:t∈tg s.1->Met s t
 |on {s s' t}:yg ask step s=some s'->Met s' t->Met s t
variable{ask step tg}
theorem qJ{s:dR}{l:List Int}(h0:s.1≠0)(ha:ask s.1=false):yg ask step (s,l)=(step s.1 s.2 0).1.map fun y=>(y,l):=by
 unfold yg;rw[if_neg h0];simp only[take1,ha,zay,if_false]
theorem JX{s:dR}{f:Int}{l:List Int}(h0:s.1≠0)(ha:ask s.1=true):yg ask step (s,f::l)=(step s.1 s.2 f).1.map fun y=>(y,l):=by
 unfold yg;rw[if_neg h0];simp only[take1,ha,if_true]
theorem GC{s:dR}{l:List Int}(h0:s.1=0):yg ask step (s,l)=none:=by
 unfold yg;rw[if_pos h0]
structure MI(ask:Int->Bool)(step:Int->List Int->Int->Option (Int×List Int)×Option Int)(tg:Int×List Int->List β)(s0:dR×List Int)(ms:List β)(seen:List dR)(s:dR×List Int):Prop where
 a:∀t,Met ask step tg s0 t->t∈ms\/Met ask step tg s t
 b:∀t∈ms,Met ask step tg s0 t
 c:∀t,Met ask step tg s t->Met ask step tg s0 t
 d:∀x∈seen,(∀t∈tg x,t∈ms)/\x.1≠0/\ask x.1=false/\∀y,(step x.1 x.2 0).1=some y->y∈seen\/y=s.1
variable{s0 s s':dR×List Int}{ms Np:List β}{seen:List dR}
theorem JY(h:yg ask step s=none){t:β}(m:Met ask step tg s t):t∈tg s.1:=by
 cases m with
 |here m=>exact m
 |on e _=>rw[h] at e;cases e
theorem MI.fin(h:MI ask step tg s0 ms seen s)(hm:∀t,t∈Np↔t∈ms\/t∈tg s.1)(he:yg ask step s=none\/s.1∈seen)(t:β):t∈Np↔Met ask step tg s0 t:=by
 rw[hm];refine⟨fun z=>z.elim (h.b t) fun z=>h.c t (.here z),fun z=>?_⟩;rcases h.a t z with z |z
 ·exact .inl z
 rcases he with he |he
 ·exact .inr (JY he z)
 ·have key:∀s' t,Met ask step tg s' t->s'.1∈seen->t∈ms:=by
   intro s' t m
   induction m with
   |here m=>exact fun q=>(h.d _ q).1 _ m
   |@on a b t e _ ih=>
    intro q;obtain⟨_,h0,ha,hs⟩:=h.d _ q;obtain⟨a1,a2⟩:=a;rw[qJ h0 ha] at e;obtain⟨y,hy,rfl⟩:=zaC.mp e;rcases hs y hy with q2 |rfl
    ·exact ih q2
    ·exact ih he
  exact .inl (key _ _ z he)
theorem MI.next(h:MI ask step tg s0 ms seen s)(hm:∀t,t∈Np↔t∈ms\/t∈tg s.1)(hn:yg ask step s=some s'\/yg ask step s=none/\s'=s) :
 (∀t,Met ask step tg s0 t->t∈Np\/Met ask step tg s' t)/\(∀t∈Np,Met ask step tg s0 t)/\∀t,Met ask step tg s' t->Met ask step tg s0 t:=by
 refine⟨fun t m=>?_,fun t m=>?_,fun t m=>?_⟩
 ·rw[hm];rcases h.a t m with z |z
  ·exact .inl (.inl z)
  ·rcases hn with hn |⟨hn,rfl⟩
   ·cases z with
    |here z=>exact .inl (.inr z)
    |on e z=>rw[hn] at e;cases e;exact .inr z
   ·exact .inr z
 ·rcases(hm t).mp m with z |z
  ·exact h.b t z
  ·exact h.c t (.here z)
 ·rcases hn with hn |⟨hn,rfl⟩
  ·exact h.c t (.on hn m)
  ·exact h.c t m
structure Seg(ask:Int->Bool)(step:Int->List Int->Int->Option (Int×List Int)×Option Int)(s:dR)(g:List dR):Prop where
 head:g[0]?=some s
 mid:∀i (h:i+1<g.length),g[i].1≠0/\ask g[i].1=false/\(step g[i].1 g[i].2 0).1=some g[i+1]
 last:∀x,g.getLast?=some x->x.1=0\/ask x.1=true\/(step x.1 x.2 0).1=none\/∃y∈g,(step x.1 x.2 0).1=some y
section
variable{s:dR}{g:List dR}{l:List Int}
theorem Seg.nx(h:Seg ask step s g)(i:Nat)(hi:i+1<g.length):yg ask step (g[i],l)=some (g[i+1],l):=by
 obtain⟨h0,ha,e⟩:=h.mid i hi;rw[qJ h0 ha,e];rfl
theorem Seg.up(h:Seg ask step s g):∀(i:Nat) (hi:i<g.length) (t:β),Met ask step tg (g[i],l) t->Met ask step tg (s,l) t
 |0,hi,t,m=>by
  have:=h.head;rw[zab hi] at this;cases this;exact m
 |i+1,hi,t,m=>h.up i (by lia) t (.on (h.nx i hi) m)
theorem Seg.met(h:Seg ask step s g){x:dR}(hx:x∈g){t:β}(ht:t∈tg x):Met ask step tg (s,l) t:=by
 obtain⟨i,hi,rfl⟩:=za6.mp hx;exact h.up i hi t (.here ht)
theorem Seg.JZ{x:dR}(hx:g.getLast?=some x):∃hi:g.length-1<g.length,g[g.length-1]=x:=by
 rw[zb5] at hx;exact zal.mp hx
theorem Seg.all(h:Seg ask step s g){t:β}(m:Met ask step tg (s,l) t):(∃x∈g,t∈tg x)\/∃x s',g.getLast?=some x/\x.1≠0/\ask x.1=true/\yg ask step (x,l)=some s'/\Met ask step tg s' t:=by
 have key:∀s' t,Met ask step tg s' t->s'.2=l->s'.1∈g->(∃x∈g,t∈tg x)\/∃x s',g.getLast?=some x/\x.1≠0/\ask x.1=true/\yg ask step (x,l)=some s'/\Met ask step tg s' t:=by
  intro s' t m
  induction m with
  |here m=>exact fun _ q=>.inl ⟨_,q,m⟩
  |@on a b t e mm ih=>
   intro el q;obtain⟨a1,a2⟩:=a;simp only at el q;subst el;obtain⟨i,hi,rfl⟩:=za6.mp q;by_cases hl:i+1<g.length
   ·rw[h.nx i hl] at e;cases e;exact ih rfl (zao hl)
   ·have ei:g.length-1=i:=by lia
    have hx:g.getLast?=some g[i]:=by rw[zb5,ei,zab hi]
    by_cases h0:g[i].1=0
    ·rw[GC h0] at e;cases e
    cases ha:ask g[i].1 with
    |true=>exact .inr ⟨_,_,hx,h0,ha,e,mm⟩
    |false=>
     rw[qJ h0 ha] at e;rcases h.last _ hx with z |z |z |⟨y,hy,z⟩
     ·exact absurd z h0
     ·rw[ha] at z;cases z
     ·rw[z] at e;cases e
     ·rw[z] at e;cases e;exact ih rfl hy
 refine key _ _ m rfl ?_;exact List.mem_iff_getElem?.mpr ⟨0,h.head⟩
end
structure LI(ask:Int->Bool)(step:Int->List Int->Int->Option (Int×List Int)×Option Int)(tg:Int×List Int->List β)(s0:dR×List Int)(ms:List β)(o:Option dR)(l:List Int):Prop where
 a:∀t,Met ask step tg s0 t->t∈ms\/∃s,o=some s/\Met ask step tg (s,l) t
 b:∀t∈ms,Met ask step tg s0 t
 c:∀s t,o=some s->Met ask step tg (s,l) t->Met ask step tg s0 t
theorem LI.fin{l:List Int}(h:LI ask step tg s0 ms none l)(t:β):t∈ms↔Met ask step tg s0 t:=⟨h.b t,fun z=>(h.a t z).elim (fun z=>z) fun ⟨_,e,_⟩=>by cases e⟩
section
variable{s x y:dR}{g:List dR}{l r:List Int}{f:Int}
theorem LI.on(h:LI ask step tg s0 ms (some s) l)(q:Seg ask step s g)(hm:∀t,t∈Np↔t∈ms\/∃x∈g,t∈tg x)(hx:g.getLast?=some x)(h0:x.1≠0)(ha:ask x.1=true)(hl:l=f::r)(hy:(step x.1 x.2 f).1=some y):LI ask step tg s0 Np (some y) r:=by
 subst hl;have e:yg ask step (x,f::r)=some (y,r):=by rw[JX h0 ha,hy];rfl
 refine⟨fun t m=>?_,fun t m=>?_,fun s' t e' m=>?_⟩
 ·rw[hm];rcases h.a t m with z |⟨_,z,m⟩
  ·exact .inl (.inl z)
  ·cases z;rcases q.all m with z |⟨x',s',Xe,_,_,e',m'⟩
   ·exact .inl (.inr z)
   ·rw[hx] at Xe;cases Xe;rw[e] at e';cases e';exact .inr ⟨y,rfl,m'⟩
 ·rcases(hm t).mp m with z |⟨x,hx,ht⟩
  ·exact h.b t z
  ·exact h.c _ t rfl (q.met hx ht)
 ·cases e';obtain⟨hi,e1⟩:=Seg.JZ hx;exact h.c _ t rfl (q.up _ hi t (by rw[e1];exact .on e m))
end
structure TI(ask:Int->Bool)(step:Int->List Int->Int->Option (Int×List Int)×Option Int)(s:dR)(g:List dR)(o:Option dR):Prop where
 nil:g=[]->o=some s
 head:g≠[]->g[0]?=some s
 mid:∀i (h:i+1<g.length),g[i].1≠0/\ask g[i].1=false/\(step g[i].1 g[i].2 0).1=some g[i+1]
 last:∀x,g.getLast?=some x->x.1≠0/\ask x.1=false/\(step x.1 x.2 0).1=o
section
variable{s x:dR}{g:List dR}{o:Option dR}
theorem TI.QL(h:TI ask step s g (some x)):(g++[x])[0]?=some s/\∀i (hi:i+1<(g++[x]).length),(g++[x])[i].1≠0/\ask (g++[x])[i].1=false/\(step (g++[x])[i].1 (g++[x])[i].2 0).1=some (g++[x])[i+1]:=by
 refine⟨?_,fun i hi=>?_⟩
 ·cases g with
  |nil=>exact h.nil rfl
  |cons a r=>exact h.head (by simp)
 ·simp only[zap,zaY] at hi;have l1:i<g.length:=by lia
  rw[zbd l1];by_cases hl:i+1<g.length
  ·rw[zbd hl];exact h.mid i hl
  ·have ei:g.length-1=i:=by lia
   have hx:g.getLast?=some g[i]:=by rw[zb5,ei,zab l1]
   obtain⟨a,b,c⟩:=h.last _ hx;refine⟨a,b,?_⟩;rw[c,zbl (by lia)];simp
theorem TI.push(h:TI ask step s g (some x))(h0:x.1≠0)(ha:ask x.1=false):TI ask step s (g++[x]) (step x.1 x.2 0).1:=
 ⟨fun e=>(by simp at e),fun _=>h.QL.1,h.QL.2,fun y hy=>by simp only[List.getLast?_append,List.getLast?_singleton,Option.some_or,zaH.injEq] at hy;subst hy;exact⟨h0,ha,rfl⟩⟩
theorem TI.fin(h:TI ask step s g o)(ho:o=zdk\/∃x∈g,o=some x):Seg ask step s g:=by
 have ne:g≠[]:=fun e=>by
  have:=h.nil e;subst e;rcases ho with rfl |⟨x,hx,_⟩
  ·cases this
  ·cases hx
 refine⟨h.head ne,h.mid,fun y hy=>.inr (.inr ?_)⟩;obtain⟨_,_,c⟩:=h.last y hy;rcases ho with rfl |⟨x,hx,rfl⟩
 ·exact .inl c
 ·exact .inr ⟨x,hx,c⟩
end
end
theorem wu{α:Type}[DecidableEq α]:∀(xs ys:List α),xs.Nodup->(∀x∈xs,x∈ys)->xs.length<=ys.length
 |[],ys,_,_=>zaM _
 |x::r,ys,h,q=>by
  obtain⟨nx,nr⟩:=zaj.mp h;have hx:=q x (zav ..);have:=wu r (ys.erase x) nr fun y hy=>(List.mem_erase_of_ne (fun e:y=x=>nx (e▸hy))).mpr (q y (zad _ hy));have l:=List.length_erase_of_mem hx;have p:=List.length_pos_of_mem hx;simp only[zak];lia
def rJ:List Int->List Int->Prop
 |[],[]=>True
 |s::r,v::t=>(0<=v/\v<s)/\rJ r t
 |[],_::_=>False
 |_::_,[]=>False
theorem rJ.len:∀ {ss vs:List Int},rJ ss vs->vs.length=ss.length
 |[],[],_=>rfl
 |s::r,v::t,h=>by
  rw[rJ] at h;simp[h.2.len]
 |[],v::t,h=>by rw[rJ] at h;exact h.elim
 |s::r,[],h=>by rw[rJ] at h;exact h.elim
theorem rJ.set:∀ {ss vs:List Int} (i:Nat) (v:Int),rJ ss vs->(∀s,ss[i]?=some s->0<=v/\v<s)->rJ ss (vs.set i v)
 |[],[],i,v,h,_=>h
 |s::r,u::t,0,v,h,q=>by
  rw[rJ] at h;rw[List.set_cons_zero,rJ];exact⟨q s rfl,h.2⟩
 |s::r,u::t,i+1,v,h,q=>by
  rw[rJ] at h;rw[List.set_cons_succ,rJ];exact⟨h.1,h.2.set i v fun z hz=>q z (by simpa using hz)⟩
 |[],u::t,i,v,h,q=>by rw[rJ] at h;exact h.elim
 |s::r,[],i,v,h,q=>by rw[rJ] at h;exact h.elim
end PG
namespace L2
open PySem
def FH (K:zaa) (x:Str) (st:Stmt) (f:zdm):Prop:=zaU K zdt x=some (some (.ref f))/\∃fd,Iz K x x st f fd
theorem FH.of{K:zaa}{x:Str}{st:Stmt}{f:zdm}{oc:zdn}{od an:Option zdm}{Iy:Array (Option zdn)}{kV doc pm eK ct:zdn}(a:zaU K zdt x=some (some (.ref f)))(l:K.lookup f=some ⟨oc,od,.func (zbt x x (jO st) (ip st) (aM st) .none kV doc pm an eK ct),Iy⟩)
 (c:zb9 K eK x=true) (k:zbM K (.ref f)=true):FH K x st f:=⟨a,_,Fs l c k⟩
theorem J0{α:Type}{P:List α->Prop}(h:∀a,P [a])(us:List α)(e:us.length=1):P us:=match us,e with |[a],_=>h a
theorem vf{α:Type}{P:List α->Prop}(h:∀a b,P [a,b])(us:List α)(e:us.length=2):P us:=match us,e with |[a,b],_=>h a b
theorem OH{α:Type}{P:List α->Prop}(h:∀a b c,P [a,b,c])(us:List α)(e:us.length=3):P us:=match us,e with |[a,b,c],_=>h a b c
theorem UM{α:Type}{P:List α->Prop}(h:∀a b c d,P [a,b,c,d])(us:List α)(e:us.length=4):P us:=match us,e with |[a,b,c,d],_=>h a b c d
theorem UN{α:Type}{P:List α->Prop}(h:∀a b c d f,P [a,b,c,d,f])(us:List α)(e:us.length=5):P us:=match us,e with |[a,b,c,d,f],_=>h a b c d f
theorem ki{K:zaa}{mg:Str->Option zdn}{h:Heap}{x:Str}{st:Stmt}{f:zdm}{ps:List Str}(X:K.In h)(G:h.Ns zdt mg)(q:FH K x st f)
 (b:∀(kV doc pm:zdn) (an:Option zdm) (eK ct:zdn) (us:List zdn),us.length=ps.length->bindArgs (zbt x x (jO st) (ip st) (aM st) .none kV doc pm an eK ct) ⟨us,[]⟩=pure (ps.zip us)):∃fd,bW K mg x st ps f fd:=
 let ⟨a,fd,F⟩:=q
 ⟨fd,F,F.binds b,zcA X G a⟩
theorem GD{CX:AH}{P:zdy}{w:zdo}{K:zaa}{mg:Str->Option zdn}{base:Heap}{N:List Str}{qual:Str}{scope:Scope}{f:zdm}{cd:zdn}{A:zdx}{outer:List Env}{s:zdw}{H:Hp}{E:XK}:(vo CX P w K mg base N qual scope f cd A outer s H E).prog=P:=rfl
theorem GF{CX:AH}{P:zdy}{w:zdo}{K:zaa}{mg:Str->Option zdn}{base:Heap}{N:List Str}{qual:Str}{scope:Scope}{f:zdm}{cd:zdn}{A:zdx}{outer:List Env}{s:zdw}{H:Hp}{E:XK}:(vo CX P w K mg base N qual scope f cd A outer s H E).w=w:=rfl
theorem Cu{tt:TT}{a b:TS}{D:Ends}{σ:St}{H:Hp}(h:∀U:St->Hp->Prop,(∀σ' H',U σ' H'↔a D σ' H')->tt σ H fun c H1=>if c=true then U σ H1 else b D σ H1):C9 tt a b D σ H:=h (a D) fun _ _=>Iff.rfl
def zd:PG.Tg->List Key
 |.row k=>[.inr "row",.inl k]
 |.side k b=>[.inr "side",.inl k,.inl (tN b)]
 |.cg k=>[.inr "must",.inl k]
 |.fin=>[.inr "end"]
theorem DP{a b:PG.Tg}(h:zd a=zd b):a=b:=by
 have s1:(zac "row":Str)≠zac "must":=by decide +kernel
 cases a<;>cases b<;>simp only[zd,List.cons.injEq,Sum.inl.injEq,Sum.inr.injEq,and_true,reduceCtorEq,and_false] at h
 ·rw[h.2]
 ·exact absurd h.1 s1
 ·obtain⟨_,rfl,e⟩:=h;have e:=(beq_iff_eq (α:=Int)).mpr e;rw[Nn] at e;rw[beq_iff_eq.mp e]
 ·exact absurd h.1.symm s1
 ·rw[h.2]
 ·rfl
def DQ (s:PG.dR):A4:=(.inl s.1,s.2.map .inl)
theorem GG{a b:PG.dR}(h:DQ a=DQ b):a=b:=by
 obtain⟨a1,a2⟩:=a;obtain⟨b1,b2⟩:=b;simp only[DQ,Prod.mk.injEq,Sum.inl.injEq] at h;obtain⟨rfl,h⟩:=h;have h:=(List.map_inj_right (fun x y (e:(Sum.inl x:Key)=.inl y)=>Sum.inl.inj e)).mp h;rw[h]
section
variable{κ:Type}[DecidableEq κ]{J:KH κ}{P:zdy}{w:zdo}{K:zaa}{H H':Hp}{a b p C dx:zdm}{kvs:List (κ×V)}{φ:Heap->Prop}{fs:List (Str×V)}{xs:List V}
theorem DS.UO(d:DS J P w K H a kvs):∃φ,H a=some (.ext φ):=let ⟨xs,h,_⟩:=d.at_;⟨_,h⟩
theorem DS.ins(d:DS J P w K H a kvs)(hp:H p=some (.ins C dx fs))(u:aZ p H H'):DS J P w K H' a kvs:=by
 obtain⟨φ,e⟩:=d.UO;exact d.UL (fun o h=>u _ _ (bP e hp (by intro z;cases z)) h) fun b ys q=>q.ins hp u
theorem bS.A5(h:bS K H a xs)(hb:H b=some (.ext φ))(u:aZ b H H'):bS K H' a xs:=by
 rcases h with (q |⟨o',q⟩) |q
 ·exact .inl (.inl (u _ _ (bP q hb (by intro z;cases z)) q))
 ·exact .inl (.inr ⟨o',u _ _ (bP q hb (by intro z;cases z)) q⟩)
 ·exact .inr q
theorem de.ext{row:Int}{vals:List Int}(h:de K H a row vals)(hb:H b=some (.ext φ))(u:aZ b H H'):de K H' a row vals:=let ⟨va,h1,h2⟩:=h;⟨va,h1.A5 hb u,h2.A5 hb u⟩
theorem uf.ext{e:Option PG.jt}{v:V}(h:uf K H e v)(hb:H b=some (.ext φ))(u:aZ b H H'):uf K H' e v:=by
 cases e with
 |none=>exact h
 |some x=>obtain⟨a,e,q⟩:=h;exact⟨a,e,q.A5 hb u⟩
theorem EG.ext{CC CW wk ch fl:zdm}{pr:PG.Prog}{ie:List Int}{n:Nat}{row:Int}{vals:List Int}{e:Option PG.jt}(h:EG K CC CW H wk ch fl pr ie n row vals e)(hb:H b=some (.ext φ))(u:aZ b H H')(c:si K CC H' ch pr)(f:fF K H' fl (ie.map V.int)):EG K CC CW H' wk ch fl pr ie n row vals e:=by
 obtain⟨dx,sa,ev,h1,h2,h3⟩:=h.at_;exact⟨⟨dx,sa,ev,u _ _ (bP h1 hb (by intro z;cases z)) h1,h2.ext hb u,h3.ext hb u⟩,c,f,h.QJ⟩
end
def oT (pr:PG.Prog):List Int:=pr.av.map (·.size)
structure DR(pr:PG.Prog)(s:PG.dR):Prop where
 ok:xr pr s.1 s.2
 inv:PG.rJ (oT pr) s.2
theorem rJ.oR{pr:PG.Prog}(d:vt pr){vals:List Int}(h:PG.rJ (oT pr) vals){b:W}(hb:b∈pr.av.map (·.name))(z:Int):PG.rJ (oT pr) (oR pr.av vals b (z%df pr.av b)):=by
 refine h.set _ _ fun s hs=>?_;obtain⟨hx,_⟩:=mE hb;have e:df pr.av b=s:=by
  unfold df;rw[oT,zah,zab hx] at hs;rw[zab hx];exact zaH.inj hs
 have:=zc d hb;rw[e] at this ⊢;exact⟨zbh z (by lia),za2 z (by lia)⟩
theorem rJ.step{pr:PG.Prog}(d:vt pr){st:PG.bh}(ok:PG.Dz (·∈pr.av.map (·.name)) (fun e=>PG.dc pr.av e/\PG.dX e<=2) (·∈PG.Ak) st){ws vals:List Int}{f:Int}(h:PG.rJ (oT pr) vals){x:PG.dR}(e:(fc pr.av st ws vals f).1=some x):PG.rJ (oT pr) x.2:=by
 have cs:cb pr.av st ws vals=some x->PG.rJ (oT pr) x.2:=by
  intro e;unfold cb at e;split at e
  ·cases e
  ·split at e
   ·cases e;exact h
   ·split at e
    ·cases e
    ·cases e;exact h
 cases st<;>rw[PG.Dz] at ok
 ·cases e;exact rJ.oR d h ok _
 ·cases e;exact rJ.oR d h ok.1 _
 ·cases e;exact h
 ·exact cs e
 ·cases e;exact h
 ·exact cs e
 ·exact cs e
theorem GH{pr:PG.Prog}(ok:pL pr){i:Nat}(hi:i<(PG.ax pr.body).length)(hf:i<(PG.aF pr.body 0).length)(vals:List Int)(f:Int):Ct pr (PG.ax pr.body)[i].row vals f=fc pr.av (PG.ax pr.body)[i] (PG.aF pr.body 0)[i].2.2 vals f:=by
 unfold Ct;rw[JU ok.pw i hi,JV ok.pw i hi hf]
theorem DR.next{pr:PG.Prog}(d:vt pr){s x:PG.dR}(h:DR pr s)(h0:s.1≠0){f:Int}(e:(Ct pr s.1 s.2 f).1=some x):DR pr x:=by
 obtain⟨row,vals⟩:=s;obtain⟨i,hi,rfl⟩:=h.ok.row.resolve_left h0;obtain⟨hf,_,_⟩:=mD pr.body i hi;rw[GH d.ok hi hf] at e;refine⟨?_,rJ.step d (PG.iy pr.body _ d.own (zao hi)) h.inv e⟩;rcases hs:fc pr.av (PG.ax pr.body)[i] (PG.aF pr.body 0)[i].2.2 vals f with ⟨o,sd⟩
 rw[hs] at e;exact xr.step d hi hf h.ok.len h.ok.small (by rw[hs];exact congrArg (·,sd) e)
theorem DR.nx{pr:PG.Prog}(d:vt pr){s s':PG.dR×List Int}(h:DR pr s.1)(e:PG.yg (UJ pr.body) (Ct pr) s=some s'):DR pr s'.1:=by
 unfold PG.yg at e;split at e
 ·cases e
 ·rename_i h0;split at e
  ·cases e
  ·obtain⟨y,hy,rfl⟩:=zaC.mp e;exact h.next d h0 hy
structure mF(K:zaa)(H:Hp)(md:zdm)(pr:PG.Prog):Prop where
 at_:∃(B d8 wy fa:zdm) (us:List V) (kvs:List (Key×V)),fF K H md [.ref B,.ref d8,.ref wy,.ref fa]/\Rep K H (.lst (pr.av.map ju)) (.ref B)/\H d8=some (.dK (gJ (PG.ax pr.body) us))/\us.length=(PG.ax pr.body).length/\aN K H ((PG.ax pr.body).map dY) us/\
  H wy=some (.dK kvs)/\(∀i (hi:i<(PG.aF pr.body 0).length),∃y,cB kvs (.inl (PG.aF pr.body 0)[i].1)=some (.ref y)/\bS K H y ((PG.aF pr.body 0)[i].2.2.map V.int))/\de K H fa (PG.aW pr.body 0) (pr.av.map (·.first))
theorem mF.mono{K:zaa}{H H':Hp}{md:zdm}{pr:PG.Prog}(m:mF K H md pr)(s:ar H H'):mF K H' md pr:=by
 obtain⟨B,d8,wy,fa,us,kvs,h1,h2,h3,h4,h5,h6,h7,h8⟩:=m.at_;exact⟨⟨B,d8,wy,fa,us,kvs,s.seq h1,h2.mono s,s _ _ h3,h4,h5.mono s,s _ _ h6,fun i hi=>let ⟨y,e,k⟩:=h7 i hi;⟨y,e,s.bj k⟩,h8.mono s⟩⟩
theorem mF.row{K:zaa}{H:Hp}{md:zdm}{pr:PG.Prog}(m:mF K H md pr)(ok:pL pr){i:Nat}(hi:i<(PG.ax pr.body).length)(hf:i<(PG.aF pr.body 0).length) :
 ∃(B d8 wy fa ta y:zdm) (us ys:List V) (kvs:List (Key×V)),fF K H md [.ref B,.ref d8,.ref wy,.ref fa]/\Rep K H (.lst (pr.av.map ju)) (.ref B)/\H d8=some (.dK (gJ (PG.ax pr.body) us))/\cB (gJ (PG.ax pr.body) us) (.inl (PG.ax pr.body)[i].row)=some (.ref ta)/\Rep K H (dY (PG.ax pr.body)[i]) (.ref ta)/\bS K H ta (.str (nU (PG.ax pr.body)[i].wd)::ys)/\
  H wy=some (.dK kvs)/\cB kvs (.inl (PG.ax pr.body)[i].row)=some (.ref y)/\bS K H y ((PG.aF pr.body 0)[i].2.2.map V.int):=by
 obtain⟨B,d8,wy,fa,us,kvs,h1,h2,h3,h4,h5,h6,h7,h8⟩:=m.at_;obtain⟨v,hv,rv⟩:=h5.get (i:=i) (d:=dY (PG.ax pr.body)[i]) (by rw[zah,zab hi];rfl);have g:=jv _ _ h4 ok.pw i hi v hv;obtain⟨ta,ys,rfl,ZV⟩:=gI _ rv;obtain⟨y,e,k⟩:=h7 i hf;obtain⟨_,e1,_⟩:=mD pr.body i hi;rw[e1] at e;exact⟨B,d8,wy,fa,ta,y,us,_,kvs,h1,h2,h3,g,rv,ZV,h6,e,k⟩
section
variable(P:zdy)(w:zdo)(K:zaa)(CC:zdm)
def GI (H:Hp) (l:zdm) (us:List V) (ts:List PG.Tg):Prop:=H l=some (.lst us)/\aN K H (ts.map Qs) us
def wx (H:Hp) (g:List PG.dR) (us:List V):Prop:=Paired (fun (s:PG.dR) v=>∃a,v=.ref a/\de K H a s.1 s.2) g us
end
theorem wx.mono{K:zaa}{H H':Hp}{g:List PG.dR}{us:List V}(h:wx K H g us)(s:ar H H'):wx K H' g us:=Paired.wR h fun _ _ ⟨a,e,q⟩=>⟨a,e,q.mono s⟩
theorem GI.mono{K:zaa}{H H':Hp}{l:zdm}{us:List V}{ts:List PG.Tg}(h:GI K H l us ts)(s:ar H H'):GI K H' l us ts:=⟨s _ _ h.1,h.2.mono s⟩
open PyProof.Rows
theorem ze{J:It}{D:zdm}{g:TG}{te:TE}{Q:VK}{τ0:St}{H:Hp}(G:St->Prop)(xs:List V)(Pv:Nat->List V->Hp->Prop)
 (go:∀i H2,ar H H2->i<xs.length->J.go i H2) (stop:∀H2,ar H H2->J.stop xs.length H2) (wZ:∀i H2 x H3,ar H H2->i<xs.length->J.wZ i H2 x H3->H3=H2/\xs[i]?=some x)
 (hl:xs.length<=16000000) (hD:H D=none) (g0:G τ0) (h0:Pv 0 [] (upd H D (.lst [])))
 (step:∀i x ys τ H2,xs[i]?=some x->G τ->ar H H2->H2 D=some (.lst ys)->ys.length=i->Pv i ys H2->∀R:St->VK,(∀τ' v H3,G τ'->ar H2 H3->Pv (i+1) (ys++[v]) (upd H3 D (.lst (ys++[v])))->R τ' v H3)->g x τ H2 fun τ' H'=>te τ' H' (R τ'))
 (q:∀ys H2,ar H H2->H2 D=some (.lst ys)->ys.length=xs.length->Pv xs.length ys H2->Q (.ref D) H2):lU J D g rZ te Q τ0 (upd H D (.lst [])):=by
 refine⟨fun i m τ H2=>m=xs.length-i/\i<=xs.length/\G τ/\ar H H2/\∃ys,H2 D=some (.lst ys)/\ys.length=i/\Pv i ys H2,⟨xs.length,by simp,zaM _,g0,ar.new hD _,[],aq,rfl,h0⟩,?_⟩
 rintro i m τ H2 ⟨rfl,hi,gt,s2,ys,h2,ly,p2⟩
 by_cases jL:i<xs.length
 ·refine .inr ⟨go i H2 s2 jL,fun τ' H'=>G τ'/\ar H H'/\∃ys,H' D=some (.lst ys)/\ys.length=i+1/\Pv (i+1) ys H',fun τ' H' ⟨h1,h3,h4⟩=>⟨xs.length-(i+1),by lia,rfl,jL,h1,h3,h4⟩,fun y H' hy=>?_⟩;obtain⟨rfl,ey⟩:=wZ i H2 y H' s2 jL hy;simp only[rZ,if_true];refine step i y ys τ _ ey gt s2 h2 ly p2 (fun τ' v H4=>_) fun τ' v H3 OI s3 p3=>⟨ys,s3 _ _ h2,?_,OI,?_,ys++[v],aq,by simp[ly],p3⟩
  ·have:zdu=2 ^ 24:=rfl;lia
  ·intro b o e;rw[aE (aH e hD)];exact s3 _ _ (s2 _ _ e)
 ·have e:i=xs.length:=by lia
  subst e;exact .inl ⟨stop H2 s2,q ys H2 s2 h2 ly p2⟩
theorem wz{K:zaa}{a D:zdm}{xs:List V}{g:TG}{te:TE}{Q:VK}{τ0:St}{H:Hp}(G:St->Prop)(Pv:Nat->List V->Hp->Prop)(hS:bS K H a xs)
 (hl:xs.length<=16000000) (hD:H D=none) (g0:G τ0) (h0:Pv 0 [] (upd H D (.lst [])))
 (step:∀i x ys τ H2,xs[i]?=some x->G τ->ar H H2->H2 D=some (.lst ys)->ys.length=i->Pv i ys H2->∀R:St->VK,(∀τ' v H3,G τ'->ar H2 H3->Pv (i+1) (ys++[v]) (upd H3 D (.lst (ys++[v])))->R τ' v H3)->g x τ H2 fun τ' H'=>te τ' H' (R τ'))
 (q:∀ys H2,ar H H2->H2 D=some (.lst ys)->ys.length=xs.length->Pv xs.length ys H2->Q (.ref D) H2):lU (E7 K a) D g rZ te Q τ0 (upd H D (.lst [])):=
 ze G xs Pv (fun i H2 s2 h=>⟨xs,xs[i],s2.bj hS,by simp[h]⟩) (fun H2 s2=>⟨xs,s2.bj hS,zam _⟩) (fun i H2 x H3 s2 h y=>⟨y.1,y.2 _ (s2.bj hS)⟩) hl hD g0 h0 step q
open PySem.Spec
def GJ (a:zdm) (o:Obj):HO:=.ext fun h=>h.get? a=some o
section
variable{P:zdy}{w:zdo}{H:Hp}{h:Heap}{a:zdm}{o:Obj}
theorem GJ.get(x:oJ P w H h)(e:H a=some (GJ a o)):h.get? a=some o:=(x a _ e).1
theorem GJ.ok{H':Hp}(e:h.get? a=some o):dP P w H' h a (GJ a o):=⟨e,⟨o,e⟩,fun _ _ p k=>k _ p⟩
end
def QM (y name qual:Str) (params:Arguments) (body:Expr) (scope:Scope) (H:Hp) (fo cc:zdm) (Nq:Obj) (vc:V):Prop:=
 ∃(c':zdm) (pm UP uc:zdn) (oc:Obj) (vs:Array zdn) (tk:Nat),H fo=some (GJ fo (PySem.W.kla_obj name qual params body scope [(y,cc)] pm c' UP))/\H c'=some (GJ c' oc)/\oc.data=.fields vs/\vs[1]?=some (.str qual tk)/\
  H cc=some (GJ cc Nq)/\Nq.data=.cell (some uc)/\RelV vc uc
def TabOk (qual:Str) (lp:Pos) (H:Hp) (ps:Array zdn):Prop:=
 ps = #[]\/∃(c':zdm) (oc:Obj) (vs:Array zdn) (tk:Nat),ps = #[rawInt lp.line,rawInt lp.col,.ref c']/\H c'=some (GJ c' oc)/\oc.data=.fields vs/\vs[1]?=some (.str qual tk)
def Nr (H:Hp) (P:zdm) (ps:Array zdn) (c':zdm) (oc:Obj) (fo:zdm) (ob:Obj):Hp:=upd (upd (upd H P (.Iq ps)) c' (GJ c' oc)) fo (GJ fo ob)
section
variable{H:Hp}{P:zdm}{ps:Array zdn}{c':zdm}{oc:Obj}{fo:zdm}{ob:Obj}
theorem Nr.keep(hF:H fo=none)(hc:H c'=some (GJ c' oc)\/H c'=none){b:zdm}{o:HO}(n:b≠P)(e:H b=some o):Nr H P ps c' oc fo ob b=some o:=by
 unfold Nr;rw[aE (aH e hF)];by_cases z:b=c'
 ·subst z;rcases hc with q |q
  ·rw[aq,<- q,e]
  ·rw[q] at e;cases e
 ·rw[aE z,aE n,e]
end
def Nt:Expr->Arguments
 |.Lambda p _ _ _=>p
 |_=>{posonlyargs:=[],args:=[],vararg:=none,kwonlyargs:=[],kw_defaults:=[],kwarg:=none,defaults:=[]}
def J7:Expr->Expr
 |.Lambda _ b _ _=>b
 |e=>e
def GK:Expr->Scope
 |.Lambda _ _ s _=>s
 |_=>{kind:=.function,names:=[],isGenerator:=false,isCoroutine:=false}
def Nu (y qual:Str) (l:Expr) (H:Hp) (fo cc:zdm) (Nq:Obj) (vc:V):Prop:=QM y "<lambda>" qual (Nt l) (J7 l) (GK l) H fo cc Nq vc
theorem J8{K:zaa}{H H':Hp}{g:List PG.dR}{us:List V}(h:wx K H g us)(f:∀a row vals,de K H a row vals->de K H' a row vals):wx K H' g us:=Paired.wR h fun _ _ ⟨a,e,q⟩=>⟨a,e,f _ _ _ q⟩
abbrev vg:=List (PG.dR×List Int)
def A6 (led:PG.dR->List PG.dR):Nat->vg->PG.dR->List Int->vg×Option (List PG.dR)
 |0,f,_,_=>(f,none)
 |n+1,f,s,g=>if s∈f.map (·.1) then (f,none) else match led s with
  |[t]=>A6 led n (f++[(s,g)]) t g
  |l=>(f++[(s,g)],some l)
def mG (K:zaa) (H:Hp) (f:vg) (kvs:List (A4×V)):Prop:=Paired (fun (x:PG.dR×List Int) (kv:A4×V)=>kv.1=DQ x.1/\∃a,kv.2=.ref a/\bS K H a (x.2.map V.int)) f kvs
section
variable{K:zaa}{H H':Hp}
theorem mG.imp{f:vg}{kvs:List (A4×V)}(h:mG K H f kvs)(t:∀a xs,bS K H a xs->bS K H' a xs):mG K H' f kvs:=Paired.wR h fun _ _ ⟨e,a,e2,q⟩=>⟨e,a,e2,t _ _ q⟩
theorem mG.UQ:∀ {f:vg} {kvs:List (A4×V)},mG K H f kvs->∀s:PG.dR,(cB kvs (DQ s)).isSome=decide (s∈f.map (·.1))
 |[],_,h,s=>by cases h;rfl
 |x::r,_,h,s=>by
  cases h with
  |@cons _ kv _ _ a b=>
   obtain⟨k,v⟩:=kv;obtain⟨e,_⟩:=a;simp only at e;subst e;by_cases z:x.1=s
   ·rw[cG (by rw[z]),zar,z];simp
   ·rw[cH (fun y=>z (GG y)),mG.UQ b s,zar];simp[Ne.symm z]
theorem mG.len{f:vg}{kvs:List (A4×V)}(h:mG K H f kvs):kvs.length=f.length:=(Paired.length h).symm
theorem mG.put{f:vg}{kvs:List (A4×V)}(h:mG K H f kvs){s:PG.dR}{g:List Int}{a:zdm}(n:s ∉ f.map (·.1))(q:bS K H a (g.map V.int)):mG K H (f++[(s,g)]) (putK kvs (DQ s) (.ref a)):=by
 unfold putK;rw[jr,h.UQ,decide_eq_false n,if_neg zas];exact Paired.snoc h ⟨rfl,a,rfl,q⟩
end
theorem Nu.mono{y qual:Str}{l:Expr}{H H':Hp}{fo cc:zdm}{Nq:Obj}{vc:V}(h:Nu y qual l H fo cc Nq vc)(s:ar H H'):Nu y qual l H' fo cc Nq vc:=by
 obtain⟨c',pm,UP,uc,oc,vs,tk,g1,g2,d2,q2,g3,d3,rc⟩:=h;exact⟨c',pm,UP,uc,oc,vs,tk,s _ _ g1,s _ _ g2,d2,q2,s _ _ g3,d3,rc⟩
section
variable{K:zaa}{H H':Hp}{p:zdm}{φ:Heap->Prop}
mutual
theorem Cv(h:H p=some (.ext φ))(u:aZ p H H'):∀(d:Dp) (v:V),Rep K H d v->Rep K H' d v
 |.bO,v,r=>by rw[Rep.nF] at r ⊢;exact r
 |.bl b,v,r=>by rw[Rep.oM] at r ⊢;exact r
 |.int b,v,r=>by rw[Rep.bg] at r ⊢;exact r
 |.str b,v,r=>by rw[Rep.br] at r ⊢;exact r
 |.lst l,v,r=>by
  rw[Rep.bE] at r ⊢;obtain⟨a,ys,rfl,q,rs⟩:=r;refine⟨a,ys,rfl,?_,mH h u l ys rs⟩;rcases q with (q |⟨o,q⟩) |q
  ·exact .inl (.inl (u _ _ (bP q h (by intro z;cases z)) q))
  ·exact .inl (.inr ⟨o,u _ _ (bP q h (by intro z;cases z)) q⟩)
  ·exact .inr q
 |.tup l,v,r=>by
  rw[Rep.a0] at r ⊢;obtain⟨a,ys,rfl,q,rs⟩:=r;exact⟨a,ys,rfl,q.A5 h u,mH h u l ys rs⟩
theorem mH(h:H p=some (.ext φ))(u:aZ p H H'):∀(ds:List Dp) (vs:List V),aN K H ds vs->aN K H' ds vs
 |[],vs,r=>by rw[aN.bu] at r ⊢;exact r
 |d::ds,vs,r=>by
  rw[aN.aJ] at r ⊢;obtain⟨v,t,rfl,r1,r2⟩:=r;exact⟨v,t,rfl,Cv h u d v r1,mH h u ds t r2⟩
end
theorem si.ext{C ch:zdm}{pr:PG.Prog}(c:si K C H ch pr)(h:H p=some (.ext φ))(u:aZ p H H'):si K C H' ch pr:=by
 obtain⟨dx,nl,sd,fa,va,st,wy,us,ws,h1,h2,h3,h4,h5,h6,h7,h8,h9,Ng,JQ,Nh⟩:=c.at_;have k:∀ {b:zdm} {o:HO},H b=some o->(∀ψ,o≠.ext ψ)->H' b=some o:=fun {b o} e n=>u _ _ (bP e h (n φ)) e;exact⟨⟨dx,nl,sd,fa,va,st,wy,us,ws,k h1 (fun _ z=>by cases z),k h2 (fun _ z=>by cases z),k h3 (fun _ z=>by cases z),k h4 (fun _ z=>by cases z),k h5 (fun _ z=>by cases z),k h6 (fun _ z=>by cases z),h7,k h8 (fun _ z=>by cases z),mH h u _ _ h9,Ng,k JQ (fun _ z=>by cases z),fun i hi=>let ⟨q,e,r⟩:=Nh i hi;⟨q,e,r.A5 h u⟩⟩⟩
end
end L2
namespace L2
open PySem PySem.Spec PyProof.Rows
def Cw (g:List Int):Option (List PG.dR)->List (List Int×List PG.dR)
 |none=>[]
 |some l=>[(g,l)]
def Cy (led:PG.dR->List PG.dR) (n:Nat):vg->vg->vg×List (List Int×List PG.dR)
 |f,[]=>(f,[])
 |f,(s,g)::r=>((Cy led n (A6 led n f s g).1 r).1,Cw g (A6 led n f s g).2++(Cy led n (A6 led n f s g).1 r).2)
section
variable{led:PG.dR->List PG.dR}{S:PG.dR->Prop}
structure GL(S:PG.dR->Prop)(f:vg):Prop where
 nd:(f.map (·.1)).Nodup
 Cz:∀x∈f,S x.1
theorem GL.nil:GL S []:=⟨List.nodup_nil,fun x h=>by cases h⟩
theorem GL.put{f:vg}{s:PG.dR}{g:List Int}(h:GL S f)(n:s ∉ f.map (·.1))(hs:S s):GL S (f++[(s,g)]):=by
 refine⟨?_,fun x hx=>?_⟩
 ·rw[zax];exact zbe.mpr ⟨h.nd,by simp,fun a ha b hb=>by rw[zar,zbD,zan] at hb;rw[hb];exact fun y=>n (by rw[<- show a=s from y];exact ha)⟩
 ·rcases zai.mp hx with hx |hx
  ·exact h.Cz x hx
  ·rw[zan.mp hx];exact hs
structure Nv(S:PG.dR->Prop)(m:Nat)(as:List (List Int×List PG.dR)):Prop where
 Cz:∀a∈as,∀x∈a.2,S x
 len:∀a∈as,a.1.length<=m
theorem Nv.nil{m:Nat}:Nv S m []:=⟨fun a h=>(by cases h),fun a h=>(by cases h)⟩
theorem GN(li:∀s,S s->∀x∈led s,S x){m:Nat}:∀(n:Nat) (f:vg) (s:PG.dR) (g:List Int),GL S f->S s->g.length<=m->GL S (A6 led n f s g).1/\Nv S m (Cw g (A6 led n f s g).2)/\f.length+(Cw g (A6 led n f s g).2).length<=(A6 led n f s g).1.length
 |0,f,s,g,h,_,_=>⟨h,.nil,zam _⟩
 |n+1,f,s,g,h,hs,hg=>by
  rw[A6];split
  ·exact⟨h,.nil,zam _⟩
  ·rename_i hn;have h1:=h.put (g:=g) hn hs;split
   ·rename_i t e;have:=GN li n (f++[(s,g)]) t g h1 (li s hs t (by rw[e];exact zan.mpr rfl)) hg;refine⟨this.1,this.2.1,?_⟩;have:=this.2.2;rw[zap,zaY] at this;lia
   ·refine⟨h1,⟨fun a ha x hx=>?_,fun a ha=>?_⟩,?_⟩
    ·rw[zan.mp ha] at hx;exact li s hs x hx
    ·rw[zan.mp ha];exact hg
    ·rw[zap];exact zam _
end
section
variable(K:zaa)
def lC (H:Hp) (as:List (List Int×List PG.dR)) (us:List V):Prop:=Paired (fun (a:List Int×List PG.dR) (v:V)=>∃ta ga la vv,v=.ref ta/\bS K H ta [.ref ga,.ref la]/\bS K H ga (a.1.map V.int)/\H la=some (.lst vv)/\wx K H a.2 vv) as us
end
section
variable{K:zaa}{H H':Hp}
theorem lC.imp{as:List (List Int×List PG.dR)}{us:List V}(h:lC K H as us)(t:∀a xs,bS K H a xs->bS K H' a xs)(l:∀a xs,H a=some (.lst xs)->H' a=some (.lst xs)):lC K H' as us:=
 Paired.wR h fun _ _ ⟨ta,ga,la,vv,e,q1,q2,q3,q4⟩=>⟨ta,ga,la,vv,e,t _ _ q1,t _ _ q2,l _ _ q3,J8 q4 fun a row vals ⟨va,h1,h2⟩=>⟨va,t _ _ h1,t _ _ h2⟩⟩
theorem lC.mono{as:List (List Int×List PG.dR)}{us:List V}(h:lC K H as us)(s:ar H H'):lC K H' as us:=h.imp (fun a xs q=>s.bj q) fun a xs q=>s _ _ q
theorem lC.ext{as:List (List Int×List PG.dR)}{us:List V}{D:zdm}{φ:Heap->Prop}(h:lC K H as us)(hD:H D=some (.ext φ))(u:aZ D H H'):lC K H' as us:=h.imp (fun a xs q=>q.A5 hD u) fun a xs q=>u _ _ (bP q hD (by intro z;cases z)) q
end
def Kp (H H':Hp):Prop:=∀b o,H b=some o->(∀ps,o≠.Iq ps)->H' b=some o
section
variable{K:zaa}{H H':Hp}
theorem Kp.same(s:ar H H'):Kp H H':=fun b o e _=>s b o e
end
section
variable(P:zdy)(w:zdo)(K:zaa)(CC:zdm)
def Nw (H:Hp) (lv:vg) (us:List V):Prop:=Paired (fun (x:PG.dR×List Int) (v:V)=>∃ta ga sa,v=.ref ta/\bS K H ta [.ref ga,.ref sa]/\bS K H ga (x.2.map V.int)/\de K H sa x.1.1 x.1.2) lv us
end
section
variable{K:zaa}{H H':Hp}
theorem Nw.imp{lv:vg}{us:List V}(h:Nw K H lv us)(t:∀a xs,bS K H a xs->bS K H' a xs):Nw K H' lv us:=
 Paired.wR h fun _ _ ⟨ta,ga,sa,e,q1,q2,va,q3,q4⟩=>⟨ta,ga,sa,e,t _ _ q1,t _ _ q2,va,t _ _ q3,t _ _ q4⟩
end
theorem TabOk.up{H H':Hp}{qual:Str}{lp:Pos}{ps:Array zdn}(h:TabOk qual lp H ps)(k:∀b φ,H b=some (.ext φ)->H' b=some (.ext φ)):TabOk qual lp H' ps:=by
 rcases h with h |⟨c',oc,vs,tk,e,h1,h2,h3⟩
 ·exact .inl h
 ·exact .inr ⟨c',oc,vs,tk,e,k _ _ h1,h2,h3⟩
section
variable{prog:zdy}{w:zdo}{A:zdx}{E:zdn->zdw->Prop}{s:zdw}{d it:zdm}{es:Array DictEntry}{ep i:Nat}
theorem zf(d:zdm)(hd:(d==sysModules)=false) :
 MeetsIn prog w (Builtin.«dict.items» ⟨[.ref d],[]⟩) (fun _ R s=>(∃es ep,wt s.heap d es ep)/\R (.ok (.ret (.ref s.heap.objs.size))) {s with heap:=s.heap.push {cls:=.type "dict_items",data:=.fields #[.ref d]} }):=
 .of_wp fun A R s ⟨⟨es,ep,en⟩,h⟩=>by
  unfold Builtin.«dict.items»;refine zdp ?_;unfold Builtin.Dict.noArgs;refine zdp (wpAny_notOrdered_dict en.ty ?_);show wpAny _ _ (pure d) _ _ s;refine zdq ?_;show wpAny _ _ (Builtin.Dict.showsAll d >>= _) _ _ s;unfold Builtin.Dict.showsAll;rw[if_neg (by rw[hd];exact zas)];refine zdp (zdq ?_);exact zdp (wpAny_newObj_type (zdq ⟨_,rfl,h⟩))
end
def EV (ps:List (zdm×V)) (es:Array DictEntry):Prop:=Paired (fun (p:zdm×V) (e:DictEntry)=>e.key=.ref p.1/\RelV p.2 e.val) ps es.toList
theorem EV.size{ps:List (zdm×V)}{es:Array DictEntry}(h:EV ps es):es.size=ps.length:=by rw[<- zbx];exact(Paired.length h).symm
section
variable{κ:Type}[DecidableEq κ](J:KH κ)
def sV (p d:zdm):Heap->Prop:=fun h=>h.IsItemsView p d
variable{J}
end
section
variable(P:zdy)(w:zdo)(K:zaa)(CC:zdm)
def ug (H:Hp):Option (List Int)->Option V->Prop
 |none,r=>r=none
 |some g,r=>∃a,r=some (.ref a)/\bS K H a (g.map V.int)
def wA (H:Hp) (M:PG.Tg->Option (List Int)) (kvs:List (List Key×V)):Prop:=∀t,ug K H (M t) (cB kvs (zd t))
end
section
variable{K:zaa}{H H':Hp}
theorem ug.imp{o:Option (List Int)}{r:Option V}(h:ug K H o r)(t:∀a xs,bS K H a xs->bS K H' a xs):ug K H' o r:=by
 cases o with
 |none=>exact h
 |some y=>obtain⟨a,h1,h2⟩:=h;exact⟨a,h1,t _ _ h2⟩
theorem wA.imp{M:PG.Tg->Option (List Int)}{kvs:List (List Key×V)}(h:wA K H M kvs)(t:∀a xs,bS K H a xs->bS K H' a xs):wA K H' M kvs:=fun g=>(h g).imp t
theorem wA.put{M:PG.Tg->Option (List Int)}{kvs:List (List Key×V)}{t:PG.Tg}{g:List Int}{a:zdm}(h:wA K H M kvs)(n:M t=none)(q:bS K H a (g.map V.int)):wA K H (fun u=>(M u).or (if u=t then some g else none)) (putK kvs (zd t) (.ref a)):=fun u=>by
 show ug K H ((M u).or (if u=t then some g else none)) _;rw[pF];by_cases e:u=t
 ·subst e;rw[n,if_pos rfl,if_pos rfl];exact⟨a,rfl,q⟩
 ·rw[if_neg e,if_neg (fun z=>e (DP z)),Option.or_none];exact h u
theorem mF.ext{md p:zdm}{pr:PG.Prog}{φ:Heap->Prop}(m:mF K H md pr)(h:H p=some (.ext φ))(u:aZ p H H'):mF K H' md pr:=by
 obtain⟨B,d8,wy,fa,us,kvs,h1,h2,h3,h4,h5,h6,h7,h8⟩:=m.at_;refine⟨⟨B,d8,wy,fa,us,kvs,?_,Cv h u _ _ h2,u _ _ (bP h3 h (by intro z;cases z)) h3,h4,mH h u _ _ h5,u _ _ (bP h6 h (by intro z;cases z)) h6,fun i hi=>let ⟨y,e,k⟩:=h7 i hi;⟨y,e,k.A5 h u⟩,h8.ext h u⟩⟩;rcases h1 with (q |⟨o,q⟩) |q
 ·exact .inl (.inl (u _ _ (bP q h (by intro z;cases z)) q))
 ·exact .inl (.inr ⟨o,u _ _ (bP q h (by intro z;cases z)) q⟩)
 ·exact .inr q
end
theorem Xf{α β γ:Type}(F:α->β->γ->Prop->Prop):∃X:α->β->γ->Prop,(∀a b c,(∀zq,F a b c zq->zq)->X a b c)/\∀a b c,X a b c->∀zq,F a b c zq->zq:=⟨fun a b c=>∀zq,F a b c zq->zq,fun _ _ _ h=>h,fun _ _ _ h=>h⟩
def nA (a:Int):List Int->Int
 |[]=>a
 |d::r=>nA (10*a+d+1) r
def Dg (g:List Int):Prop:=∀d∈g,0<=d/\d<=9
section
variable(led:PG.dR->List PG.dR)(s0:PG.dR)
inductive Cm:PG.dR->List Int->Prop
 |start:Cm s0 []
 |one {s t g}:Cm s g->led s=[t]->Cm t g
 |many {s t g} {i:Nat}:Cm s g->(led s).length≠1->(led s)[i]?=some t->Cm t (g++[(i:Int)])
end
section
variable{led:PG.dR->List PG.dR}{s0:PG.dR}
theorem Cm.Cz{S:PG.dR->Prop}(li:∀s,S s->∀x∈led s,S x)(h0:S s0){s:PG.dR}{g:List Int}(h:Cm led s0 s g):S s:=by
 induction h with
 |start=>exact h0
 |one _ e ih=>exact li _ ih _ (by rw[e];exact zan.mpr rfl)
 |many _ _ e ih=>exact li _ ih _ (zaG e)
structure BI(led:PG.dR->List PG.dR)(s0:PG.dR)(k:Nat)(f l:vg)(as:List (List Int×List PG.dR)):Prop where
 Xg:f.Pairwise fun x y=>nA 0 x.2<=nA 0 y.2
 fl:∀x∈f,∀y∈l,nA 0 x.2<=nA 0 y.2
 ll:l.Pairwise fun x y=>nA 0 x.2<nA 0 y.2
 al:∀a∈as,∀y∈l,nA 0 a.1<nA 0 y.2
 aa:as.Pairwise fun a b=>nA 0 a.1<nA 0 b.1
 fk:∀x∈f,x.2.length<=k
 lk:∀x∈l,x.2.length=k
 ak:∀a∈as,a.1.length=k
 sf:∀x∈f,Cm led s0 x.1 x.2
 sl:∀x∈l,Cm led s0 x.1 x.2
 sa:∀a∈as,∃s,Cm led s0 s a.1/\a.2=led s/\(led s).length≠1
 c1:∀x∈f,∀t,led x.1=[t]->(∃y∈f,y.1=t/\nA 0 y.2<=nA 0 x.2)\/(t,x.2)∈l
 c2:∀x∈f,(led x.1).length≠1->∀(i:Nat) t,(led x.1)[i]?=some t->(∃y∈f,y.1=t/\nA 0 y.2<=nA 0 (x.2++[(i:Int)]))\/(t,x.2++[(i:Int)])∈l\/(x.2,led x.1)∈as
 st:(∃y∈f,y.1=s0/\nA 0 y.2<=0)\/(s0,[])∈l
section
variable{k:Nat}{f r:vg}{s:PG.dR}{g:List Int}{as:List (List Int×List PG.dR)}
theorem BI.skip(h:BI led s0 k f ((s,g)::r) as)(hs:s∈f.map (·.1)):BI led s0 k f r as:=by
 obtain⟨y,hy,ey⟩:=zaF.mp hs;have ny:=h.fl y hy (s,g) (zav ..);refine⟨h.Xg,fun x hx z hz=>h.fl x hx z (zad _ hz),(za1.mp h.ll).2,fun a ha z hz=>h.al a ha z (zad _ hz),h.aa,h.fk,fun x hx=>h.lk x (zad _ hx),h.ak,h.sf,fun x hx=>h.sl x (zad _ hx),h.sa,fun x hx t e=>?_,fun x hx n i t e=>?_,?_⟩
 ·rcases h.c1 x hx t e with z |z
  ·exact .inl z
  ·rcases zag.mp z with z |z
   ·cases z;exact .inl ⟨y,hy,ey,ny⟩
   ·exact .inr z
 ·rcases h.c2 x hx n i t e with z |z |z
  ·exact .inl z
  ·rcases zag.mp z with z |z
   ·cases z;exact .inl ⟨y,hy,ey,ny⟩
   ·exact .inr (.inl z)
  ·exact .inr (.inr z)
 ·rcases h.st with z |z
  ·exact .inl z
  ·rcases zag.mp z with z |z
   ·cases z;exact .inl ⟨y,hy,ey,ny⟩
   ·exact .inr z
theorem BI.put(h:BI led s0 k f ((s,g)::r) as){l:vg}{bs:List (List Int×List PG.dR)}(hl:l=r/\bs=[(g,led s)]/\(led s).length≠1\/∃t,led s=[t]/\l=(t,g)::r/\bs=[]):BI led s0 k (f++[(s,g)]) l (as++bs):=by
 have hg:=zav (a:=(s,g)) (l:=r);obtain⟨gr,rr⟩:=za1.mp h.ll;have inr:∀x∈r,x∈l:=fun x hx=>by
  rcases hl with ⟨rfl,_⟩ |⟨t,_,rfl,_⟩
  ·exact hx
  ·exact zad _ hx
 have Nx:∀x∈l,x∈r\/x.2=g/\led s=[x.1]:=fun x hx=>by
  rcases hl with ⟨rfl,_⟩ |⟨t,e,rfl,_⟩
  ·exact .inl hx
  ·rcases zag.mp hx with rfl |hx
   ·exact .inr ⟨rfl,e⟩
   ·exact .inl hx
 have bin:∀a∈bs,a=(g,led s)/\l=r/\(led s).length≠1:=fun a ha=>by
  rcases hl with ⟨e,rfl,n⟩ |⟨t,e,rfl,rfl⟩
  ·exact⟨zan.mp ha,e,n⟩
  ·cases ha
 have nf:∀x∈f++[(s,g)],nA 0 x.2<=nA 0 g:=fun x hx=>by
  rcases zai.mp hx with hx |hx
  ·exact h.fl x hx _ hg
  ·rw[zan.mp hx];exact zaI _
 have ng:∀y∈l,nA 0 g<=nA 0 y.2:=fun y hy=>by
  rcases Nx y hy with z |⟨z,_⟩
  ·exact Int.le_of_lt (gr y z)
  ·rw[z];exact zaI _
 have me:(s,g)∈f++[(s,g)]:=zaE _ (zan.mpr rfl);have up:∀ {P:PG.dR×List Int->Prop},(∃y∈f,P y)->∃y∈f++[(s,g)],P y:=fun ⟨y,hy,p⟩=>⟨y,zbn _ hy,p⟩
 refine⟨zbq.mpr ⟨h.Xg,zcR _ _,fun x hx y hy=>?_⟩,fun x hx y hy=>zbP (nf x hx) (ng y hy),?_,?_,?_,?_,?_,?_,?_,?_,?_,fun x hx t e=>?_,fun x hx n i t e=>?_,?_⟩
 ·rw[zan.mp hy];exact h.fl x hx _ hg
 ·rcases hl with ⟨rfl,_⟩ |⟨t,_,rfl,_⟩
  ·exact rr
  ·exact za1.mpr ⟨fun y hy=>gr y hy,rr⟩
 ·intro a ha y hy;rcases zai.mp ha with ha |ha
  ·exact Int.lt_of_lt_of_le (h.al a ha _ hg) (ng y hy)
  ·obtain⟨rfl,rfl,_⟩:=bin a ha;exact gr y hy
 ·refine zbq.mpr ⟨h.aa,?_,fun a ha b hb=>?_⟩
  ·rcases hl with ⟨_,rfl,_⟩ |⟨_,_,_,rfl⟩
   ·exact zcR _ _
   ·exact .nil
  ·rw[(bin b hb).1];exact h.al a ha _ hg
 ·intro x hx;rcases zai.mp hx with hx |hx
  ·exact h.fk x hx
  ·rw[zan.mp hx];exact zcI (h.lk _ hg)
 ·intro x hx;rcases Nx x hx with z |⟨z,_⟩
  ·exact h.lk x (zad _ z)
  ·rw[z];exact h.lk _ hg
 ·intro a ha;rcases zai.mp ha with ha |ha
  ·exact h.ak a ha
  ·rw[(bin a ha).1];exact h.lk _ hg
 ·intro x hx;rcases zai.mp hx with hx |hx
  ·exact h.sf x hx
  ·rw[zan.mp hx];exact h.sl _ hg
 ·intro x hx;rcases Nx x hx with z |⟨z,e⟩
  ·exact h.sl x (zad _ z)
  ·rw[z];exact .one (h.sl _ hg) e
 ·intro a ha;rcases zai.mp ha with ha |ha
  ·exact h.sa a ha
  ·obtain⟨rfl,_,n⟩:=bin a ha;exact⟨s,h.sl _ hg,rfl,n⟩
 ·rcases zai.mp hx with hx |hx
  ·rcases h.c1 x hx t e with z |z
   ·exact .inl (up z)
   ·rcases zag.mp z with z |z
    ·cases z;exact .inl ⟨_,me,rfl,zaI _⟩
    ·exact .inr (inr _ z)
  ·rw[zan.mp hx] at e ⊢;rcases hl with ⟨_,_,n⟩ |⟨t',e',rfl,_⟩
   ·exact absurd (by rw[show led s=[t] from e];rfl) n
   ·rw[show led s=[t] from e] at e';cases e';exact .inr (zav ..)
 ·rcases zai.mp hx with hx |hx
  ·rcases h.c2 x hx n i t e with z |z |z
   ·exact .inl (up z)
   ·rcases zag.mp z with z |z
    ·cases z;exact .inl ⟨_,me,rfl,zaI _⟩
    ·exact .inr (.inl (inr _ z))
   ·exact .inr (.inr (zbn _ z))
  ·rw[zan.mp hx] at n ⊢;rcases hl with ⟨_,rfl,_⟩ |⟨t',e',_⟩
   ·exact .inr (.inr (zaE _ (zan.mpr rfl)))
   ·exact absurd (by rw[show led s=[t'] from e'];rfl) n
 ·rcases h.st with z |z
  ·exact .inl (up z)
  ·rcases zag.mp z with z |z
   ·cases z;exact .inl ⟨_,me,rfl,zaI _⟩
   ·exact .inr (inr _ z)
end
variable{S:PG.dR->Prop}{M:Nat}
theorem BI.A6(li:∀s,S s->∀x∈led s,S x)(hM:∀f:vg,GL S f->f.length<=M){k:Nat}:∀(n:Nat) (f r:vg) (s:PG.dR) (g:List Int) (as:List (List Int×List PG.dR)),M<f.length+n->GL S f->S s->BI led s0 k f ((s,g)::r) as->BI led s0 k (A6 led n f s g).1 r (as++Cw g (A6 led n f s g).2)
 |0,f,r,s,g,as,hn,o,_,_=>absurd (hM f o) (by lia)
 |n+1,f,r,s,g,as,hn,o,hs,h=>by
  rw[L2.A6];split
  ·rename_i UR;show BI led s0 k f r (as++[]);rw[zba];exact h.skip UR
  ·rename_i UR;have o1:=o.put (g:=g) UR hs;split
   ·rename_i t e;have h2:=h.put (l:=(t,g)::r) (bs:=[]) (.inr ⟨t,e,rfl,rfl⟩);rw[zba] at h2;exact BI.A6 li hM n _ r t g as (by rw[zap,zaY];lia) o1 (li s hs t (by rw[e];exact zan.mpr rfl)) h2
   ·rename_i l1 ne;refine h.put (.inl ⟨rfl,rfl,fun z=>?_⟩);obtain⟨t,e⟩:=List.length_eq_one_iff.mp z;exact ne t e
theorem BI.all(li:∀s,S s->∀x∈led s,S x)(hM:∀f:vg,GL S f->f.length<=M){k n:Nat}(hn:M<n):∀(l f:vg) (as:List (List Int×List PG.dR)),GL S f->(∀x∈l,S x.1)->BI led s0 k f l as->BI led s0 k (Cy led n f l).1 [] (as++(Cy led n f l).2)
 |[],f,as,_,_,h=>by
  show BI led s0 k f [] (as++[]);rw[zba];exact h
 |(s,g)::r,f,as,o,hl,h=>by
  have h1:=BI.A6 li hM n f r s g as (by lia) o (hl _ (zav ..)) h;have o1:=(GN li (m:=g.length) n f s g o (hl _ (zav ..)) (zam _)).1;have:=BI.all li hM hn r _ _ o1 (fun x hx=>hl x (zad _ hx)) h1;rw[zbf] at this;exact this
end
def rK (N:zdm->Prop) (H:Hp) (P:List Int->Prop) (us:List V):Prop:=∀u∈us,∃a ie,u=.ref a/\N a/\H a=some (.lst (ie.map V.int))/\Dg ie/\P ie
theorem rK.nil{N:zdm->Prop}{H:Hp}{P:List Int->Prop}:rK N H P []:=fun u h=>by cases h
theorem rK.snoc{N:zdm->Prop}{H:Hp}{P:List Int->Prop}{us:List V}(h:rK N H P us){a:zdm}{ie:List Int}(n:N a)(y:H a=some (.lst (ie.map V.int)))(d:Dg ie)(p:P ie):rK N H P (us++[.ref a]):=fun u hu=>by
 rcases zai.mp hu with hu |hu
 ·exact h u hu
 ·rw[zan.mp hu];exact⟨a,ie,rfl,n,y,d,p⟩
theorem rK.keep{N M:zdm->Prop}{H H':Hp}{P:List Int->Prop}{us:List V}(h:rK N H P us)(k:∀a xs,N a->H a=some (.lst xs)->M a/\H' a=some (.lst xs)):rK M H' P us:=fun u hu=>by
 obtain⟨a,f,e,n,y,d⟩:=h u hu;exact⟨a,f,e,(k a _ n y).1,(k a _ n y).2,d⟩
end L2
namespace PG
open PM
structure Dk where
 cs:List Int
 gs:List Bool
 pos:Int
 left:Int
 row:Int
 gap:Int
def draw (d:Dk) (many:Int):Int×Dk:=
 if d.cs=[] then ((d.pos*d.pos*7+d.pos/3)%many,{d with pos:=d.pos+1})
 else if d.gs.getD (d.pos%d.cs.length).toNat false=true then (d.cs.getD (d.pos%d.cs.length).toNat 0%many,{d with pos:=d.pos+1,cs:=d.cs.set (d.pos%d.cs.length).toNat (d.cs.getD (d.pos%d.cs.length).toNat 0/many)})
 else ((d.cs.getD (d.pos%d.cs.length).toNat 0%2147483629+62233*(d.pos+1))*48271%2147483629*((d.cs.getD (d.pos%d.cs.length).toNat 0%2147483629+62233*(d.pos+1))*48271%2147483629)%2147483587*69621%2147483579/8%many,{d with pos:=d.pos+1})
structure lD(d d':Dk):Prop where
 left:d'.left=d.left
 row:d'.row=d.row
 gap:d'.gap=d.gap
theorem lD.refl{d:Dk}:lD d d:=⟨rfl,rfl,rfl⟩
theorem lD.trans{a b c:Dk}(h:lD a b)(h2:lD b c):lD a c:=⟨h2.left.trans h.left,h2.row.trans h.row,h2.gap.trans h.gap⟩
structure Lw(bs:List ck)(n:Nat)(d:Dk)(x:Tr×Dk):Prop where
 own:dc bs x.1
 dep:dX x.1<=n
 same:lD d x.2
structure lX(d:Dk)(l:List bh)(d':Dk):Prop where
 rows:∀s∈l,d.row<s.row/\s.row<=d'.row
 pw:l.Pairwise fun a b=>a.row<b.row
 up:d.row<=d'.row
 cnt:(l.length:Int)=d.left-d'.left
 nn:0<=d'.left
 gap:d'.gap=d.gap
theorem lX.nil{d d':Dk}(s:lD d d')(h:0<=d.left):lX d [] d':=⟨fun s h=>(by cases h),.nil,by rw[s.row];exact zaI _,by rw[s.left];simp,by rw[s.left];exact h,s.gap⟩
theorem lX.app{d d1 d2:Dk}{a b:List bh}(h:lX d a d1)(q:lX d1 b d2):lX d (a++b) d2:=by
 refine⟨fun s hs=>?_,zbq.mpr ⟨h.pw,q.pw,fun s hs t ht=>?_⟩,zbP h.up q.up,?_,q.nn,q.gap.trans h.gap⟩
 ·rcases zai.mp hs with hs |hs
  ·have:=h.rows s hs;have:=q.up;lia
  ·have:=q.rows s hs;have:=h.up;lia
 ·have:=h.rows s hs;have:=q.rows t ht;lia
 ·have:=h.cnt;have:=q.cnt;rw[zap];lia
theorem lX.pre{d d0 d1:Dk}{a:List bh}(h:lX d0 a d1)(s:lD d d0):lX d a d1:=⟨fun x hx=>by have:=h.rows x hx;rw[s.row] at this;exact this,h.pw,by have:=h.up;rw[s.row] at this;exact this,by rw[<- s.left];exact h.cnt,h.nn,h.gap.trans s.gap⟩
theorem lX.post{d d1 d2:Dk}{a:List bh}(h:lX d a d1)(e1:d2.left=d1.left)(e2:d1.row<=d2.row)(e3:d2.gap=d1.gap):lX d a d2:=⟨fun x hx=>by have:=h.rows x hx;lia,h.pw,by have:=h.up;lia,by rw[e1];exact h.cnt,by rw[e1];exact h.nn,e3.trans h.gap⟩
theorem Lw.two{bs:List ck}{d:Dk}{x:Tr×Dk}(h:Lw bs 1 d x):dc bs x.1/\dX x.1<=2:=⟨h.own,zau h.dep (by decide)⟩
theorem mC:∀(a b:List bh),ax (a++b)=ax a++ax b
 |[],b=>rfl
 |s::r,b=>by
  show cN s++ax (r++b)=(cN s++ax r)++ax b;rw[mC r b,zbf]
def sB:Nat->Int
 |0=>30
 |n+1=>30+8*sB n
end PG
namespace L2
open PySem PySem.Spec PyProof.Rows
structure DT(H:Hp)(D C G:zdm)(d:PG.Dk):Prop where
 mz:H D=some (.lst [.ref C,.int d.pos,.ref G,.int d.left,.int d.row,.int d.gap])
 cs:H C=some (.lst (d.cs.map V.int))
 gs:H G=some (.lst (d.gs.map V.bl))
 US:D≠C
 UT:D≠G
 Xh:C≠G
 len:d.cs.length<=63
 gl:d.gs.length=d.cs.length
 pos:0<=d.pos
abbrev O2 (D C:zdm):zdm->Prop:=fun b=>b=D\/b=C
section
variable{H H':Hp}{D C G:zdm}{d:PG.Dk}
theorem DT.same(h:DT H D C G d)(s:ar H H'):DT H' D C G d:=⟨s _ _ h.mz,s _ _ h.cs,s _ _ h.gs,h.US,h.UT,h.Xh,h.len,h.gl,h.pos⟩
theorem DT.put(h:DT H D C G d){d':PG.Dk}(u:aZ D H H')(y:H' D=some (.lst [.ref C,.int d'.pos,.ref G,.int d'.left,.int d'.row,.int d'.gap]))(e1:d'.cs=d.cs)(e2:d'.gs=d.gs)(p:0<=d'.pos):DT H' D C G d':=by
 refine⟨y,?_,?_,h.US,h.UT,h.Xh,?_,?_,p⟩
 ·rw[e1];exact u _ _ h.US.symm h.cs
 ·rw[e2];exact u _ _ h.UT.symm h.gs
 ·rw[e1];exact h.len
 ·rw[e1,e2];exact h.gl
end
structure ID(D C:zdm)(H H':Hp):Prop where
 u:aU (O2 D C) H H'
 jQ:∀b,H b≠none->H' b≠none
section
variable{K:zaa}{H0 H H1 H2:Hp}{D C:zdm}
theorem ID.refl:ID D C H H:=⟨.refl,fun _ h=>h⟩
theorem ID.trans(a:ID D C H H1)(b:ID D C H1 H2):ID D C H H2:=⟨a.u.trans b.u,fun z h=>b.jQ z (a.jQ z h)⟩
theorem ID.put(o:HO){p:zdm}(hp:p=D\/p=C):ID D C H (upd H p o):=⟨aU.refl.put hp o,fun b h=>by
 by_cases z:b=p
 ·subst z;rw[aq];simp
 ·rw[aE z];exact h⟩
theorem ID.get(a:ID D C H H1){b:zdm}{o:HO}(h:H b=some o)(n1:b≠D)(n2:b≠C):H1 b=some o:=a.u b o (fun z=>z.elim n1 n2) h
end
def mI (K:zaa) (H:Hp) (ss:List PG.bh) (fl:List PG.cU) (ps:List V):Prop:=∀(i:Nat) (s:PG.bh) (f:PG.cU),ss[i]?=some s->fl[i]?=some f->∃p u wl,ps[i]?=some (.ref p)/\bS K H p [u,.ref wl]/\Rep K H (dY s) u/\H wl=some (.lst (f.2.2.map V.int))
structure UU(K:zaa)(H:Hp)(md:zdm)(pr:PG.Prog):Prop where
 at_:∃(F N Z fa:zdm) (ps:List V),H md=some (.lst [.ref F,.ref N,.ref Z,.ref fa])/\ps.length=(PG.ax pr.body).length/\H F=some (.dK (gJ (PG.ax pr.body) ps))/\mI K H (PG.ax pr.body) (PG.aF pr.body 0) ps/\H N=some (.lst (pr.av.map fun b=>V.str (S b.name)))/\H Z=some (.lst (pr.av.map fun b=>V.int b.size))/\de K H fa (PG.aW pr.body 0) (pr.av.map (·.first))
theorem mI.mono{K:zaa}{H H':Hp}{ss:List PG.bh}{fl:List PG.cU}{ps:List V}(h:mI K H ss fl ps)(s:ar H H'):mI K H' ss fl ps:=fun i x f e1 e2=>by
 obtain⟨p,u,wl,h1,h2,h3,h4⟩:=h i x f e1 e2;exact⟨p,u,wl,h1,s.bj h2,h3.mono s,s _ _ h4⟩
theorem UU.mono{K:zaa}{H H':Hp}{md:zdm}{pr:PG.Prog}(h:UU K H md pr)(s:ar H H'):UU K H' md pr:=by
 obtain⟨F,N,Z,fa,ps,h1,h2,h3,h4,h5,h6,h7⟩:=h.at_;exact⟨⟨F,N,Z,fa,ps,s _ _ h1,h2,s _ _ h3,h4.mono s,s _ _ h5,s _ _ h6,h7.mono s⟩⟩
theorem mI.nil{K:zaa}{H:Hp}:mI K H [] [] []:=fun i s f e=>by simp at e
theorem mI.one{K:zaa}{H:Hp}{s:PG.bh}{f:PG.cU}{p wl:zdm}{u:V}(h1:bS K H p [u,.ref wl])(h2:Rep K H (dY s) u)(h3:H wl=some (.lst (f.2.2.map V.int))):mI K H [s] [f] [.ref p]:=fun i x g e1 e2=>by
 cases i with
 |zero=>cases e1;cases e2;exact⟨p,u,wl,rfl,h1,h2,h3⟩
 |succ i=>simp at e1
theorem J9{kvs:List (Key×V)}{vs:List (Key×zdn)}(r:KV kvs vs):kvs.map (·.1)=vs.map (·.1):=by
 unfold KV at r
 induction r with
 |nil=>rfl
 |cons h _ ih=>rw[zar,zar,h.1,ih]
section
variable{X:Cx}
theorem DU(hc:X.calm=true):lS X (.builtin "any") (fun xs H Q=>∃(p:zdm) (bs:List Bool),xs=[.ref p]/\fF X.K H p (bs.map V.bl)/\Q (.bl (bs.any id)) H):=by
 intro pins s σ H xs us Q I r h;obtain⟨p,bs,rfl,hl,q⟩:=h;obtain⟨u,rfl,ru⟩:=vals1 r;cases (show u=Value.ref p from ru);obtain⟨bq,rv,pl,_⟩:=I.list hl;have jL:p<s.heap.objs.size:=let ⟨_,_,e,_⟩:=pl;Heap.lt_size e;have ln:bq.toArray.size=bs.length:=by rw[zat,<- rv.length,zae]
 refine call_any_walk (wpAny_pyIter_list pl.isList ?_);refine⟨s.heap.objs.size,_,_,_,_,_,fun i=>bs.getD i false,rfl,Walks.list (show X.A.in1.handled=none from I.ok.hd hc) _ p (zaw jL) bq.toArray,⟨⟨_,Heap.get?_push_size _ rfl,rfl,rfl⟩,pl.isList.push _⟩,fun i v s' Q' E' hv hq=>?_,fun h' tk hk=>?_⟩
 ·have Iu:bq[i]?=some v:=by simpa using hv
  have li:i<bs.length:=by
   have:=(zal.mp Iu).1;rw[zat] at ln;lia
  obtain⟨u,hu,ru⟩:=rv.get (i:=i) (x:=.bl bs[i]) (by rw[zah,zab li];rfl);rw[Iu] at hu;cases hu;cases (show v=Value.bool bs[i] from ru);have hq:Q' (bs.getD i false) s':=hq;rw[zaf,zab li] at hq;exact zdq hq
 ·refine⟨.bl (bs.any id),H,I.kept (h':=h') (t':=tk) (fun b o e=>hk b o ?_ (Heap.get?_push_of_some _ e)),?_,q⟩
  ·simpa using zaw (Heap.lt_size e)
  ·show Value.bool ((zaz bq.toArray.size).any fun i=>bs.getD i false)=Value.bool (bs.any id);rw[ln]
   congr 1
   rw[za0,zbB,zbB]
   constructor
   ·rintro ⟨i,hi,h⟩
    have hi:=zbz.mp hi;rw[zaf,zab hi] at h;exact⟨_,zao hi,h⟩
   ·rintro ⟨x,hx,h⟩
    obtain⟨i,hi,rfl⟩:=zby hx;exact⟨i,zbz.mpr hi,by rw[zaf,zab hi];exact h⟩
theorem sW{bq:List zdn}{ns:List Int}(rv:Vals (ns.map V.int) bq){i:Nat}{v:zdn}(hv:bq[i]?=some v):∃t,v=.int (ns.getD i 0) t:=by
 have li:i<ns.length:=by
  have:=(zal.mp hv).1;have l1:=rv.length;rw[zae] at l1;lia
 obtain⟨u,hu,t,rfl⟩:=rv.get (i:=i) (x:=.int ns[i]) (by rw[zah,zab li];rfl);rw[hv] at hu;cases hu;exact⟨t,by rw[zaf,zab li];rfl⟩
theorem DV(hc:X.calm=true):lS X (.builtin "min") (fun xs H Q=>∃(p:zdm) (ns:List Int),xs=[.ref p]/\fF X.K H p (ns.map V.int)/\ns≠[]/\∀m,m∈ns->(∀x∈ns,m<=x)->Q (.int m) H):=by
 intro pins s σ H xs us Q I r h;obtain⟨p,ns,rfl,hl,n0,q⟩:=h;obtain⟨u,rfl,ru⟩:=vals1 r;cases (show u=Value.ref p from ru);obtain⟨bq,rv,pl,_⟩:=I.list hl;have jL:p<s.heap.objs.size:=let ⟨_,_,e,_⟩:=pl;Heap.lt_size e;have ln:bq.toArray.size=ns.length:=by rw[zat,<- rv.length,zae]
 have np:=zde.mpr n0;refine call_min_walk (wpAny_pyIter_list pl.isList ?_);refine⟨s.heap.objs.size,_,_,_,_,_,_,rfl,Walks.list (show X.A.in1.handled=none from I.ok.hd hc) _ p (zaw jL) bq.toArray,⟨⟨_,Heap.get?_push_size _ rfl,rfl,rfl⟩,pl.isList.push _⟩,?_,by lia,CmpOf.ints_lt (fun i=>ns.getD i 0) fun i v hv=>sW rv (by simpa using hv),fun v h' tk hv hk=>?_⟩
 ·intro b hb;simp only[zag,zaR,or_false] at hb;rcases hb with rfl |rfl
  ·exact Heap.lt_size (Heap.get?_push_size _ rfl)
  ·exact zaB jL (by rw[Heap.size_push];lia)
 ·obtain⟨b1,b2⟩:=argBest_lt (fun i=>ns.getD i 0) (bq.toArray.size-1);have hv:bq[argBest (fun i j=>decide (ns.getD i 0<ns.getD j 0)) (bq.toArray.size-1)]?=some v:=by simpa using hv
  obtain⟨t,rfl⟩:=sW rv hv;refine⟨.int _,H,I.kept (h':=h') (t':=tk) (fun b o e=>hk b o ?_ (Heap.get?_push_of_some _ e)),(show ∃u,Value.int _ t=Value.int _ u from ⟨t,rfl⟩),q _ ?_ fun x hx=>?_⟩
  ·simpa using zaw (Heap.lt_size e)
  ·have li:argBest (fun i j=>decide (ns.getD i 0<ns.getD j 0)) (bq.toArray.size-1)<ns.length:=by lia
   rw[zaf,zab li];exact zao li
  ·obtain⟨i,hi,rfl⟩:=zby hx;have:=b2 i (by lia);rw[zaf (l:=ns) (i:=i),zab hi] at this;exact this
theorem DW(hc:X.calm=true):lS X (.builtin "max") (fun xs H Q=>∃(p:zdm) (ns:List Int),xs=[.ref p]/\fF X.K H p (ns.map V.int)/\ns≠[]/\∀m,m∈ns->(∀x∈ns,x<=m)->Q (.int m) H):=by
 intro pins s σ H xs us Q I r h;obtain⟨p,ns,rfl,hl,n0,q⟩:=h;obtain⟨u,rfl,ru⟩:=vals1 r;cases (show u=Value.ref p from ru);obtain⟨bq,rv,pl,_⟩:=I.list hl;have jL:p<s.heap.objs.size:=let ⟨_,_,e,_⟩:=pl;Heap.lt_size e;have ln:bq.toArray.size=ns.length:=by rw[zat,<- rv.length,zae]
 have np:=zde.mpr n0;refine call_max_walk (wpAny_pyIter_list pl.isList ?_);refine⟨s.heap.objs.size,_,_,_,_,_,_,rfl,Walks.list (show X.A.in1.handled=none from I.ok.hd hc) _ p (zaw jL) bq.toArray,⟨⟨_,Heap.get?_push_size _ rfl,rfl,rfl⟩,pl.isList.push _⟩,?_,by lia,CmpOf.ints_gt (fun i=>ns.getD i 0) fun i v hv=>sW rv (by simpa using hv),fun v h' tk hv hk=>?_⟩
 ·intro b hb;simp only[zag,zaR,or_false] at hb;rcases hb with rfl |rfl
  ·exact Heap.lt_size (Heap.get?_push_size _ rfl)
  ·exact zaB jL (by rw[Heap.size_push];lia)
 ·obtain⟨b1,b2⟩:=argBest_gt (fun i=>ns.getD i 0) (bq.toArray.size-1);have hv:bq[argBest (fun i j=>decide (ns.getD i 0>ns.getD j 0)) (bq.toArray.size-1)]?=some v:=by simpa using hv
  obtain⟨t,rfl⟩:=sW rv hv;refine⟨.int _,H,I.kept (h':=h') (t':=tk) (fun b o e=>hk b o ?_ (Heap.get?_push_of_some _ e)),(show ∃u,Value.int _ t=Value.int _ u from ⟨t,rfl⟩),q _ ?_ fun x hx=>?_⟩
  ·simpa using zaw (Heap.lt_size e)
  ·have li:argBest (fun i j=>decide (ns.getD i 0>ns.getD j 0)) (bq.toArray.size-1)<ns.length:=by lia
   rw[zaf,zab li];exact zao li
  ·obtain⟨i,hi,rfl⟩:=zby hx;have:=b2 i (by lia);rw[zaf (l:=ns) (i:=i),zab hi] at this;exact this
def xt (r:R2) (ta tb tc td:TE):TE:=fun σ H Q=>ta σ H fun x H1=>tb σ H1 fun y H2=>r x y H2 fun z H3=>∃k,z=.bl k/\
 (if k=true then tc σ H3 fun y2 H4=>r y y2 H4 fun z2 H5=>∃k2,z2=.bl k2/\(if k2=true then td σ H5 fun y3 H6=>r y2 y3 H6 Q else Q (.bl false) H5) else Q (.bl false) H3)
theorem DX{a b c d:Expr}{ta tb tc td:TE}{pos:Pos}{op:CmpOp}{r:R2}(ho:ql X (compareOp op) r)(ha:PE X a ta)(hb:PE X b tb)(hc:PE X c tc)(hd:PE X d td)
 (hm:lastMarks [op,op,op] [b,c,d]=false:=by with_unfolding_all rfl):PE X (.Compare a [op,op,op] [b,c,d] pos) (xt r ta tb tc td):=by
 intro pins s σ H Q I h;refine Compare_chain (dw (ha pins s σ H _ I h) fun v s1 z1=>?_) hm;obtain⟨x,H1,I1,r1,q1⟩:=z1;refine chain_link (dw (hb pins s1 σ H1 _ I1 q1) fun u s2 z2=>?_);obtain⟨y,H2,I2,r2,q2⟩:=z2;refine dw (ho pins s2 σ H2 x y v u _ I2 r1 r2 q2) fun f s3 z3=>?_;obtain⟨z,H3,I3,r3,k,e,q3⟩:=z3;subst e;cases r3;refine wpAny_truthy_bool ?_;cases k with
 |false=>exact ite_ff ⟨.bl false,H3,I3,rfl,q3⟩
 |true=>
  refine ite_tt (chain_link (dw (hc pins s3 σ H3 _ I3 q3) fun u2 s4 z4=>?_));obtain⟨y2,H4,I4,r4,q4⟩:=z4;refine dw (ho pins s4 σ H4 y y2 u u2 _ I4 r2 r4 q4) fun f2 s5 z5=>?_;obtain⟨z',H5,I5,r5,k2,e2,q5⟩:=z5;subst e2;cases r5;refine wpAny_truthy_bool ?_;cases k2 with
  |false=>exact ite_ff ⟨.bl false,H5,I5,rfl,q5⟩
  |true=>exact ite_tt (chain_last (dw (hd pins s5 σ H5 _ I5 q5) fun u3 s6 ⟨y3,H6,I6,r6,q6⟩=>ho pins s6 σ H6 y2 y3 u2 u3 Q I6 r4 r6 q6))
end
end L2
namespace PG
open PM (W Tr)
abbrev Rg:=Int×Int
def sj (a b c d:Int):Int:=min (min a b) (min c d)
def sk (a b c d:Int):Int:=max (max a b) (max c d)
def GO (o:W) (l r:Rg):Rg:=if o=[43] then (l.1+r.1,l.2+r.2) else if o=[45] then (l.1-r.2,l.2-r.1) else (sj (l.1*r.1) (l.1*r.2) (l.2*r.1) (l.2*r.2),sk (l.1*r.1) (l.1*r.2) (l.2*r.1) (l.2*r.2))
def gn (f:W->Rg):Tr->Rg
 |.num n=>(n,n)
 |.box b=>f b
 |.bin o l r=>GO o (gn f l) (gn f r)
def oU (r:Rg) (size:Int):Rg:=if r.1/size=r.2/size then (r.1%size,r.2%size) else (0,size-1)
def wB (lt truth:Bool) (l r:Rg):Bool:=
 if lt then (if truth then decide (l.1<r.2) else decide (l.2 ≥ r.1)) else if truth then decide (max l.1 r.1<=min l.2 r.2) else !(decide (l.1=l.2)&&decide (l.2=r.1)&&decide (r.1=r.2))
def eZ (lt truth left:Bool) (own bq:Rg):Rg:=
 if lt then (if truth then (if left then (own.1,min own.2 (bq.2-1)) else (max own.1 (bq.1+1),own.2)) else if left then (max own.1 bq.1,own.2) else (own.1,min own.2 bq.2))
 else if truth then (max own.1 bq.1,min own.2 bq.2)
 else if bq.1=bq.2 then (if own.1=bq.1 then own.1+1 else own.1,if own.2=bq.1 then own.2-1 else own.2) else own
theorem Ka{a b c d m:Int}(h:m∈[a,b,c,d])(q:∀x∈[a,b,c,d],m<=x):m=sj a b c d:=by
 have h1:=q a (by simp);have h2:=q b (by simp);have h3:=q c (by simp);have h4:=q d (by simp);simp only[zag,zaR,or_false] at h;unfold sj;rcases h with rfl |rfl |rfl |rfl<;>lia
theorem Kb{a b c d m:Int}(h:m∈[a,b,c,d])(q:∀x∈[a,b,c,d],x<=m):m=sk a b c d:=by
 have h1:=q a (by simp);have h2:=q b (by simp);have h3:=q c (by simp);have h4:=q d (by simp);simp only[zag,zaR,or_false] at h;unfold sk;rcases h with rfl |rfl |rfl |rfl<;>lia
end PG
namespace L2
open PySem
def cV (K:zaa) (H:Hp) (v:V) (r:PG.Rg):Prop:=∃a,v=.ref a/\bS K H a [.int r.1,.int r.2]
theorem cV.mono{K:zaa}{H H':Hp}{v:V}{r:PG.Rg}(h:cV K H v r)(s:ar H H'):cV K H' v r:=let ⟨a,e,q⟩:=h;⟨a,e,s.bj q⟩
theorem cV.new{K:zaa}{H H':Hp}{p:zdm}{r:PG.Rg}(e:upd H p (.tup [.int r.1,.int r.2])=H'):cV K H' (.ref p) r:=⟨p,rfl,.of (e▸aq)⟩
theorem mJ{K:zaa}{H:Hp}{a:zdm}{x y:Int}{Q:VK}(h:bS K H a [.int x,.int y])(q:Q (.int x) H):w9 K (.ref a) (.int 0) H Q:=aG h (v:=.int x) (aC (j:=0) rfl) q
theorem mK{K:zaa}{H:Hp}{a:zdm}{x y:Int}{Q:VK}(h:bS K H a [.int x,.int y])(q:Q (.int y) H):w9 K (.ref a) (.int 1) H Q:=aG h (v:=.int y) (aC (j:=1) rfl) q
theorem max2(i j:Int):(if j>i then j else i)=max i j:=by split<;>lia
theorem min2(i j:Int):(if j<i then j else i)=min i j:=by split<;>lia
def pN (truth:Bool) (own near EH:PG.Rg):PG.Rg:=if truth then (max near.1 EH.1,min near.2 EH.2) else PG.eZ false false true own EH
def mL (lt truth:Bool) (own l r:PG.Rg):PG.Rg:=if lt then PG.eZ true truth true own r else pN truth own l r
def mM (lt truth:Bool) (own l r:PG.Rg):PG.Rg:=if lt then PG.eZ true truth false own l else pN truth own r l
section
variable(K:zaa)
def DY:Sp:=fun vs H Q _=>∃size:Int,vs=[.int size]/\∀v H',ar H H'->cV K H' v (0,size-1)->Q v H'
def GP:Sp:=fun vs H Q _=>∃(v:V) (r:PG.Rg) (size:Int),vs=[v,.int size]/\cV K H v r/\0<size/\size<=1000/\∀v H',ar H H'->cV K H' v (PG.oU r size)->Q v H'
def QN:Sp:=fun vs H Q _=>∃(sg:W) (truth:Bool) (lv rv:V) (l r:PG.Rg),vs=[.str (S sg),.bl truth,lv,rv]/\cV K H lv l/\cV K H rv r/\Q (.bl (PG.wB (decide (sg=[60])) truth l r)) H
def Ny:Sp:=fun vs H Q _=>∃(truth:Bool) (ov nv fv:V) (own near EH:PG.Rg),vs=[.bl truth,ov,nv,fv]/\cV K H ov own/\cV K H nv near/\cV K H fv EH/\∀v H',ar H H'->cV K H' v (pN truth own near EH)->Q v H'
def Nz:Sp:=fun vs H Q _=>∃(sg:W) (truth:Bool) (ov lv rv:V) (own l r:PG.Rg),vs=[.str (S sg),.bl truth,ov,lv,rv]/\cV K H ov own/\cV K H lv l/\cV K H rv r/\∀v H',ar H H'->cV K H' v (mL (decide (sg=[60])) truth own l r)->Q v H'
def NB:Sp:=fun vs H Q _=>∃(sg:W) (truth:Bool) (ov lv rv:V) (own l r:PG.Rg),vs=[.str (S sg),.bl truth,ov,lv,rv]/\cV K H ov own/\cV K H lv l/\cV K H rv r/\∀v H',ar H H'->cV K H' v (mM (decide (sg=[60])) truth own l r)->Q v H'
end
def QO (k:Nat) (r:PG.Rg):Prop:=r.1.natAbs<=k/\r.2.natAbs<=k
def CA (K:zaa) (H:Hp) (kvs:List (Key×V)) (f:W->PG.Rg):PM.Tr->Prop
 |.num n=>n.natAbs<=2 ^ 12
 |.box x=>(∃v,cB kvs (.inr (S x))=some v/\cV K H v (f x))/\QO (2 ^ 12) (f x)
 |.bin o l r=>(o=[43]\/o=[45]\/o=[42])/\CA K H kvs f l/\CA K H kvs f r
theorem CA.mono{K:zaa}{H H':Hp}{kvs:List (Key×V)}{f:W->PG.Rg}(s:ar H H'):∀ {t:PM.Tr},CA K H kvs f t->CA K H' kvs f t
 |.num n,h=>h
 |.box x,h=>let ⟨⟨v,e,r⟩,b⟩:=h;⟨⟨v,e,r.mono s⟩,b⟩
 |.bin o l r,h=>⟨h.1,CA.mono s h.2.1,CA.mono s h.2.2⟩
theorem Kc(a b c d:Int):PG.sj a b c d=a\/PG.sj a b c d=b\/PG.sj a b c d=c\/PG.sj a b c d=d:=by unfold PG.sj;lia
theorem Kd(a b c d:Int):PG.sk a b c d=a\/PG.sk a b c d=b\/PG.sk a b c d=c\/PG.sk a b c d=d:=by unfold PG.sk;lia
def Lx (f:W->PG.Rg):PM.Tr->Prop
 |.num n=>n.natAbs<=2 ^ 12
 |.box x=>QO (2 ^ 12) (f x)
 |.bin _ l r=>Lx f l/\Lx f r
theorem A7{f:W->PG.Rg}:∀ {t:PM.Tr},Lx f t->QO (2 ^ (14*2 ^ PG.dX t)) (PG.gn f t)
 |.num n,h=>by
  rw[Lx] at h;have:n.natAbs<=2 ^ (14*2 ^ PG.dX (.num n)):=zau h (zaD (by decide) (by simp only[PG.dX];decide));exact⟨this,this⟩
 |.box x,h=>by
  rw[Lx] at h;have k:2 ^ 12<=2 ^ (14*2 ^ PG.dX (.box x)):=zaD (by decide) (by simp only[PG.dX];decide);exact⟨zau h.1 k,zau h.2 k⟩
 |.bin o l r,h=>by
  rw[Lx] at h;have hl:=A7 h.1;have hr:=A7 h.2;have one:∀a b:Nat,1<=2 ^ max a b:=fun a b=>Nat.one_le_two_pow;have kl:2 ^ (14*2 ^ PG.dX l)<=2 ^ (14*2 ^ max (PG.dX l) (PG.dX r)):=zaD (by decide) (zb4 _ (zaD (by decide) (Nat.le_max_left _ _)));have kr:2 ^ (14*2 ^ PG.dX r)<=2 ^ (14*2 ^ max (PG.dX l) (PG.dX r)):=zaD (by decide) (zb4 _ (zaD (by decide) (Nat.le_max_right _ _)));rw[PG.dX,show 14*2 ^ (max (PG.dX l) (PG.dX r)+1)=14*2 ^ max (PG.dX l) (PG.dX r)+14*2 ^ max (PG.dX l) (PG.dX r) by rw[Nat.pow_succ];lia];have IC:14<=14*2 ^ max (PG.dX l) (PG.dX r):=zcQ _ (one _ _);have l1:=zau hl.1 kl;have l2:=zau hl.2 kl;have r1:=zau hr.1 kr;have r2:=zau hr.2 kr;clear kl kr hl hr;generalize 14*2 ^ max (PG.dX l) (PG.dX r)=k at *;have two:2<=2 ^ k:=zau (by decide:2<=2 ^ 1) (zaD (by decide) (by lia));have b2:2*2 ^ k<=2 ^ k*2 ^ k:=zb2 _ two;rw[<- zdl] at b2;rw[PG.gn,PG.GO];have m11:=iz l1 r1;have m12:=iz l1 r2;have m21:=iz l2 r1;have m22:=iz l2 r2;split
  ·exact⟨by show (_+_:Int).natAbs<=_;lia,by show (_+_:Int).natAbs<=_;lia⟩
  ·split
   ·exact⟨by show (_-_:Int).natAbs<=_;lia,by show (_-_:Int).natAbs<=_;lia⟩
   ·refine⟨?_,?_⟩
    ·show (PG.sj _ _ _ _).natAbs<=_;rcases Kc ((PG.gn f l).1*(PG.gn f r).1) ((PG.gn f l).1*(PG.gn f r).2) ((PG.gn f l).2*(PG.gn f r).1) ((PG.gn f l).2*(PG.gn f r).2) with e |e |e |e<;>rw[e]<;>assumption
    ·show (PG.sk _ _ _ _).natAbs<=_;rcases Kd ((PG.gn f l).1*(PG.gn f r).1) ((PG.gn f l).1*(PG.gn f r).2) ((PG.gn f l).2*(PG.gn f r).1) ((PG.gn f l).2*(PG.gn f r).2) with e |e |e |e<;>rw[e]<;>assumption
theorem CA.u{K:zaa}{H:Hp}{kvs:List (Key×V)}{f:W->PG.Rg}:∀ {t:PM.Tr},CA K H kvs f t->Lx f t
 |.num n,h=>h
 |.box x,h=>h.2
 |.bin o l r,h=>⟨CA.u h.2.1,CA.u h.2.2⟩
theorem Ly{K:zaa}{H:Hp}{kvs:List (Key×V)}{f:W->PG.Rg}{t:PM.Tr}(h:CA K H kvs f t):QO (2 ^ (14*2 ^ PG.dX t)) (PG.gn f t):=A7 h.u
section
variable(K:zaa)
def Ke (n:Nat):Sp:=fun vs H Q _=>∃(v:V) (d:zdm) (tr:PM.Tr) (kvs:List (Key×V)) (f:W->PG.Rg),vs=[v,.ref d]/\Rep K H (jN tr) v/\H d=some (.dK kvs)/\CA K H kvs f tr/\PG.dX tr<n/\PG.dX tr<=6/\∀u H',ar H H'->cV K H' u (PG.gn f tr)->Q u H'
end
end L2
namespace L3
open PySem PyProof.Rows
section
variable{prog:zdy}{w:zdo}{A:zdx}{E:zdn->zdw->Prop}{s:zdw}
theorem mN{j tp:zdm}{k:Nat}{bq:Array zdn}{Q:zdn->zdw->Prop}(hh:A.handled=none)(hj:s.heap.IsTupleIter j tp k)(ht:s.heap.IsTuple tp bq)(hv:bq[k]?=none)
 (hE:∀h' e,Heap.ExtBut j s.heap h'->(∃o,h'.get? e=some o/\o.cls=.type "StopIteration")->E (.ref e) {s with heap:=h' }):wpAny (model prog w) A (Builtin.SmallTypes.nextOf (.ref j)) Q E s:=by
 obtain⟨oj,gj,cj,dj⟩:=id hj;obtain⟨ot,gt,_,nt,dt⟩:=ht;unfold Builtin.SmallTypes.nextOf;refine zdp (wpAny_callSpecial?_slot (name:=zac "__next__") hj.typeIs F.slot_tuple_iterator_next (wpAny_call_entry F.slot_tuple_iterator_next hj.typeIs F.entry_tuple_iterator_next ?_ (F.args_tuple_iterator_next_1 _)));show wpAny _ _ (field (.ref j) 0 >>= _) _ _ s;refine zdp (wpAny_field gj dj (x:=.ref tp) rfl ?_);show wpAny _ _ (if (Value.ref tp==Value.none)=true then _ else _) _ _ s;rw[if_neg (show ¬((Value.ref tp==Value.none)=true) from zas)];show wpAny _ _ (field (.ref j) 1 >>= _) _ _ s;refine zdp (wpAny_field gj dj (x:=.int k 0) rfl ?_);show wpAny _ _ (seqItems? (.ref tp) >>= _) _ _ s;refine zdp (wpAny_seqItems gt dt ?_);simp only[zbI,hv];refine zdp (wpAny_rule (zdp (wpAny_setField gj dj (by simp) ?_)));show wpAny _ _ (newExc (.type "StopIteration") [] >>= _) _ _ _;refine zdp ?_;simp only[newExc,newTuple];refine zdp (wpAny_newObj_type ?_ (by size_fits));refine zdp (m:=firstArgMember _ _) (wpAny_of_eq (a:=Value.none) (by first |rfl |(simp only[firstArgMember];rfl)) ?_);refine wpAny_newObj_type ?_ (by size_fits);simp only[raiseNew];refine zdp (wpAny_handled ?_)
 first |rw[show A.in1.handled=none from hh] |rw[hh]
 refine zdp (zdq (wpAny_throw ?_));exact hE _ _ (((Heap.SameBut.update ..).extBut.push _).push _) ⟨_,Heap.get?_push_size _ rfl,rfl⟩
theorem GQ{h h':Heap}{j tp:zdm}{k:Nat}(hj:h.IsTupleIter j tp k)(up:∀o,h.get? j=some o->h'.get? j=some o):h'.IsTupleIter j tp k:=by
 obtain⟨q,gq,rest⟩:=hj;exact⟨q,up _ gq,rest⟩
theorem QP{h h':Heap}{tp:zdm}{ys:Array zdn}(hj:h.IsTuple tp ys)(up:∀o,h.get? tp=some o->h'.get? tp=some o):h'.IsTuple tp ys:=by
 obtain⟨q,gq,rest⟩:=hj;exact⟨q,up _ gq,rest⟩
theorem Kf{z ti to j1 j2 l tp:zdm}{xs ys:Array zdn}{i:Nat}{a b x y:zdn}{Q:zdn->zdw->Prop}(D:ZipApart z ti to j1 j2 l tp)(hz:oo s.heap z ti to .none (.bool false))(hO:IsPair s.heap to a b)(hI:IsPair s.heap ti (.ref j1) (.ref j2))
 (h1:s.heap.IsTupleIter j1 l i) (h2:s.heap.IsTupleIter j2 tp i) (hl:s.heap.IsTuple l xs) (ht:s.heap.IsTuple tp ys) (hx:xs[i]?=some x) (hy:ys[i]?=some y)
 (hQ:∀h',oo h' z ti to (rawInt s.heap.objs.size) (.bool false)->IsPair h' to x y->h'.IsTupleIter j1 l (i+1)->h'.IsTupleIter j2 tp (i+1)->IsPair h' s.heap.objs.size x y->h'.objs.size=s.heap.objs.size+1->
  (∀c o,c≠z->c≠to->c≠j1->c≠j2->s.heap.get? c=some o->h'.get? c=some o)->Q (.ref s.heap.objs.size) {s with heap:=h' }) :
 wpAny (model prog w) A (Builtin.«zip.__next__» ⟨[.ref z],[]⟩) (fun fin s'=>∃v,fin=.done (.ret v)/\Q v s') E s:=by
 show wpAny _ _ (field (.ref z) 2 >>= _) _ _ _;refine zdp (wpAny_field hz rfl (x:=.bool false) rfl ?_);show wpAny _ _ (field (.ref z) 3 >>= _) _ _ _;refine zdp (wpAny_field hz rfl (x:=.ref ti) rfl ?_);refine zdp (wpAny_seqItems hI rfl ?_);show wpAny _ _ (Builtin.SmallTypes.ownedTupleIsFree (.ref z) >>= _) _ _ _;refine zdp ?_;unfold Builtin.SmallTypes.ownedTupleIsFree;refine zdp (wpAny_field hz rfl (x:=.none) rfl (zdq ?_));simp only[if_true];refine zdp (wpAny_rule ?_);refine zdp (wpAny_field hz rfl (x:=.ref to) rfl ?_);refine zdp (wpAny_setField_rec hz (by simp) fun h₁ z₁ dF=>?_);replace z₁:oo h₁ z ti to .ellipsis (.bool false):=z₁;refine zdp ?_;simp only[zce,zcn,zbE,zbY];refine zdp (zdp (wpAny_onRaise ?_));show wpAny _ _ (Builtin.SmallTypes.nextOf (.ref j1) >>= _) _ _ _;refine zdp (jw (GQ h1 fun o e=>dF.extBut _ _ D.i1z e) (QP hl fun o e=>dF.extBut _ _ D.l1z e) hx fun h₂ k₂ cQ=>zdq ?_);have o₂:IsPair h₂ to a b:=cQ.extBut _ _ D.TOi1 (dF.extBut _ _ D.TOz hO);refine zdp (wpAny_seqItems o₂ rfl ?_);refine zdp (wpAny_updateSeq_pair o₂ fun h₃ o₃ dE=>?_);replace o₃:IsPair h₃ to x b:=o₃;refine zdp (wpAny_letGo (zdq ?_));refine zdp (zdp (wpAny_onRaise ?_));show wpAny _ _ (Builtin.SmallTypes.nextOf (.ref j2) >>= _) _ _ _;refine zdp (jw (GQ h2 fun o e=>dE.extBut _ _ D.TOi2.symm (cQ.extBut _ _ D.i12.symm (dF.extBut _ _ D.i2z e))) (QP ht fun o e=>dE.extBut _ _ D.l2TO (cQ.extBut _ _ D.l2i1 (dF.extBut _ _ D.l2z e))) hy fun h₄ k₄ jS=>zdq ?_);have o₄:IsPair h₄ to x b:=jS.extBut _ _ D.TOi2 o₃;refine zdp (wpAny_seqItems o₄ rfl ?_);refine zdp (wpAny_updateSeq_pair o₄ fun h₅ o₅ jT=>?_);replace o₅:IsPair h₅ to x y:=o₅;refine zdp (wpAny_letGo (zdq (zdq ?_)));refine zdp (wpAny_seqItems o₅ rfl ?_);refine zdp (wpAny_newTuple ?_);have hsz:h₅.objs.size=s.heap.objs.size:=by rw[jT.1,jS.1,dE.1,cQ.1,dF.1]
 have z₅:oo h₅ z ti to .ellipsis (.bool false):=jT.extBut _ _ D.TOz.symm (jS.extBut _ _ D.i2z.symm (dE.extBut _ _ D.TOz.symm (cQ.extBut _ _ D.i1z.symm z₁)));have kp:∀c o,c≠z->c≠to->c≠j1->c≠j2->s.heap.get? c=some o->h₅.get? c=some o:=fun c o c1 c2 c3 c4 e=>jT.extBut _ _ c2 (jS.extBut _ _ c4 (dE.extBut _ _ c2 (cQ.extBut _ _ c3 (dF.extBut _ _ c1 e))));have QE:z<h₅.objs.size:=Heap.lt_size z₅;show wpAny _ _ (Builtin.SmallTypes.ownedTupleHandOut (.ref z) (.ref h₅.objs.size) >>= _) _ _ _;refine zdp ?_;unfold Builtin.SmallTypes.ownedTupleHandOut;have z₆:oo (h₅.push {cls:=.type "tuple",data:=.seq #[x,y]}) z ti to .ellipsis (.bool false):=Heap.get?_push_of_some _ z₅;refine zdp (wpAny_setField_rec z₆ (by simp) fun h₇ z₇ ua=>?_);replace z₇:oo h₇ z ti to (rawInt h₅.objs.size) (.bool false):=z₇;refine wpAny_setField_rec z₇ (by simp) fun h₈ z₈ ub=>?_;replace z₈:oo h₈ z ti to (rawInt h₅.objs.size) (.bool false):=z₈;have up:∀c o,c≠z->h₅.get? c=some o->h₈.get? c=some o:=fun c o c1 e=>ub.extBut _ _ c1 (ua.extBut _ _ c1 (Heap.get?_push_of_some _ e));have t₈:IsPair h₈ h₅.objs.size x y:=ub.extBut _ _ (zbC QE) (ua.extBut _ _ (zbC QE) (Heap.get?_push_size _ rfl));have n₈:h₈.objs.size=h₅.objs.size+1:=by rw[ub.1,ua.1,Heap.size_push]
 rw[hsz] at z₈ t₈ n₈;refine zdq ⟨_,rfl,?_⟩;show Q (.ref h₅.objs.size) _;rw[hsz];exact hQ h₈ z₈ (up _ _ D.TOz o₅) (GQ k₂ fun o e=>up _ _ D.i1z (jT.extBut _ _ D.TOi1.symm (jS.extBut _ _ D.i12 (dE.extBut _ _ D.TOi1.symm e)))) (GQ k₄ fun o e=>up _ _ D.i2z (jT.extBut _ _ D.TOi2.symm e)) t₈ n₈ fun c o c1 c2 c3 c4 e=>up c o c1 (kp c o c1 c2 c3 c4 e)
theorem NC{z ti to j1 j2 l tp:zdm}{xs ys:Array zdn}{i:Nat}{a b:zdn}{Q:Fin->zdw->Prop}(hh:A.handled=none)(D:ZipApart z ti to j1 j2 l tp)(hz:oo s.heap z ti to .none (.bool false))(hO:IsPair s.heap to a b)(hI:IsPair s.heap ti (.ref j1) (.ref j2))
 (h1:s.heap.IsTupleIter j1 l i) (h2:s.heap.IsTupleIter j2 tp i) (hl:s.heap.IsTuple l xs) (ht:s.heap.IsTuple tp ys) (ND:xs[i]?=none\/ys[i]?=none)
 (hE:∀h' e,(∀c o,c≠z->c≠to->c≠j1->c≠j2->s.heap.get? c=some o->h'.get? c=some o)->(∃o,h'.get? e=some o/\o.cls=.type "StopIteration")->E (.ref e) {s with heap:=h' }) :
 wpAny (model prog w) A (Builtin.«zip.__next__» ⟨[.ref z],[]⟩) Q E s:=by
 show wpAny _ _ (field (.ref z) 2 >>= _) _ _ _;refine zdp (wpAny_field hz rfl (x:=.bool false) rfl ?_);show wpAny _ _ (field (.ref z) 3 >>= _) _ _ _;refine zdp (wpAny_field hz rfl (x:=.ref ti) rfl ?_);refine zdp (wpAny_seqItems hI rfl ?_);show wpAny _ _ (Builtin.SmallTypes.ownedTupleIsFree (.ref z) >>= _) _ _ _;refine zdp ?_;unfold Builtin.SmallTypes.ownedTupleIsFree;refine zdp (wpAny_field hz rfl (x:=.none) rfl (zdq ?_));simp only[if_true];refine zdp (wpAny_rule ?_);refine zdp (wpAny_field hz rfl (x:=.ref to) rfl ?_);refine zdp (wpAny_setField_rec hz (by simp) fun h₁ z₁ dF=>?_);replace z₁:oo h₁ z ti to .ellipsis (.bool false):=z₁;refine zdp ?_;simp only[zce,zcn,zbE,zbY];refine zdp (zdp (wpAny_onRaise ?_));show wpAny _ _ (Builtin.SmallTypes.nextOf (.ref j1) >>= _) _ _ _;cases hx:xs[i]? with
 |none=>
  refine zdp (mN hh (GQ h1 fun o e=>dF.extBut _ _ D.i1z e) (QP hl fun o e=>dF.extBut _ _ D.l1z e) hx fun h₂ e cQ he=>?_);obtain⟨oe,ge,ce⟩:=he;have z₂:oo h₂ z ti to .ellipsis (.bool false):=cQ _ _ D.i1z.symm z₁;have ez:e≠z:=fun q=>by subst q;rw[z₂] at ge;cases ge;simp at ce
  exact wpAny_setField_rec z₂ (by simp) fun h₃ _ dE=>hE h₃ e (fun c o c1 _ c3 _ q=>dE.extBut _ _ c1 (cQ _ _ c3 (dF.extBut _ _ c1 q))) ⟨oe,dE.extBut _ _ ez ge,ce⟩
 |some x=>
  have hy:ys[i]?=none:=by
   rcases ND with h |h
   ·rw[hx] at h;cases h
   ·exact h
  refine zdp (jw (GQ h1 fun o e=>dF.extBut _ _ D.i1z e) (QP hl fun o e=>dF.extBut _ _ D.l1z e) hx fun h₂ k₂ cQ=>zdq ?_);have o₂:IsPair h₂ to a b:=cQ.extBut _ _ D.TOi1 (dF.extBut _ _ D.TOz hO);refine zdp (wpAny_seqItems o₂ rfl ?_);refine zdp (wpAny_updateSeq_pair o₂ fun h₃ o₃ dE=>?_);refine zdp (wpAny_letGo (zdq ?_));refine zdp (zdp (wpAny_onRaise ?_));show wpAny _ _ (Builtin.SmallTypes.nextOf (.ref j2) >>= _) _ _ _;refine zdp (mN hh (GQ h2 fun o e=>dE.extBut _ _ D.TOi2.symm (cQ.extBut _ _ D.i12.symm (dF.extBut _ _ D.i2z e))) (QP ht fun o e=>dE.extBut _ _ D.l2TO (cQ.extBut _ _ D.l2i1 (dF.extBut _ _ D.l2z e))) hy fun h₄ e jS he=>?_);obtain⟨oe,ge,ce⟩:=he;have z₄:oo h₄ z ti to .ellipsis (.bool false):=jS _ _ D.i2z.symm (dE.extBut _ _ D.TOz.symm (cQ.extBut _ _ D.i1z.symm z₁));have ez:e≠z:=fun q=>by subst q;rw[z₄] at ge;cases ge;simp at ce
  exact wpAny_setField_rec z₄ (by simp) fun h₅ _ jT=>hE h₅ e (fun c o c1 c2 c3 c4 q=>jT.extBut _ _ c1 (jS _ _ c4 (dE.extBut _ _ c2 (cQ.extBut _ _ c3 (dF.extBut _ _ c1 q))))) ⟨oe,jT.extBut _ _ ez ge,ce⟩
structure Sz(h:Heap)(z ti to j1 j2 l tp:zdm)(i:Nat):Prop where
 zip:oo h z ti to .none (.bool false)
 out:∃a b,IsPair h to a b
 ins:IsPair h ti (.ref j1) (.ref j2)
 ED:h.IsTupleIter j1 l i
 JK:h.IsTupleIter j2 tp i
theorem GR{z ti to j1 j2 l tp:zdm}{xs ys:Array zdn}{i:Nat}{x y:zdn}{Q:Option zdn->zdw->Prop}(D:ZipApart z ti to j1 j2 l tp)(st:Sz s.heap z ti to j1 j2 l tp i)(hl:s.heap.IsTuple l xs)(ht:s.heap.IsTuple tp ys)(hx:xs[i]?=some x)(hy:ys[i]?=some y)
 (hQ:∀h',oo h' z ti to (rawInt s.heap.objs.size) (.bool false)->IsPair h' to x y->IsPair h' ti (.ref j1) (.ref j2)->h'.IsTupleIter j1 l (i+1)->h'.IsTupleIter j2 tp (i+1)->IsPair h' s.heap.objs.size x y->h'.objs.size=s.heap.objs.size+1->
  (∀c o,c≠z->c≠to->c≠j1->c≠j2->s.heap.get? c=some o->h'.get? c=some o)->Q (some (.ref s.heap.objs.size)) {s with heap:=h' }) :
 wpAny (model prog w) A (pyNext (.ref z)) Q E s:=by
 obtain⟨hz,⟨a,b,hO⟩,hI,h1,h2⟩:=st;have hT:s.TypeIs (.ref z) "zip":=⟨_,hz,rfl⟩
 unfold pyNext;exact zdp (wpAny_attempt (wpAny_callSpecial?_slot (name:=zac "__next__") hT F.slot_zip_next (wpAny_call_entry F.slot_zip_next hT F.entry_zip_next
  (Kf D hz hO hI h1 h2 hl ht hx hy fun h' a1 a2 a3 a4 a5 a6 a7=>zdq (hQ h' a1 a2 (a7 _ _ D.TIz D.TITO D.TIi1 D.TIi2 hI) a3 a4 a5 a6 a7)) (F.args_zip_next_1 _))))
theorem Kg{z ti to j1 j2 l tp:zdm}{xs ys:Array zdn}{i:Nat}{Q:Option zdn->zdw->Prop}(hh:A.handled=none)(D:ZipApart z ti to j1 j2 l tp)(st:Sz s.heap z ti to j1 j2 l tp i)(hl:s.heap.IsTuple l xs)(ht:s.heap.IsTuple tp ys)(ND:xs[i]?=none\/ys[i]?=none)
 (hQ:∀h',(∀c o,c≠z->c≠to->c≠j1->c≠j2->s.heap.get? c=some o->h'.get? c=some o)->Q none {s with heap:=h' }):wpAny (model prog w) A (pyNext (.ref z)) Q E s:=by
 obtain⟨hz,⟨a,b,hO⟩,hI,h1,h2⟩:=st;have hT:s.TypeIs (.ref z) "zip":=⟨_,hz,rfl⟩
 unfold pyNext;refine zdp (wpAny_attempt (wpAny_callSpecial?_slot (name:=zac "__next__") hT F.slot_zip_next (wpAny_call_entry F.slot_zip_next hT F.entry_zip_next (NC hh D hz hO hI h1 h2 hl ht ND fun h' e hk he=>?_) (F.args_zip_next_1 _))));obtain⟨o,ho,hc⟩:=he;refine zdp (wpAny_isInstance (T:="StopIteration") (b:=true) ⟨o,ho,hc⟩ isSubtype_stop ?_);exact zdq (hQ _ hk)
end
abbrev tA (h:Heap) (l:zdm):Heap:=h.push {cls:=.type "tuple_iterator",data:=.fields #[.ref l,.int 0 0]}
abbrev tB (h:Heap) (l tp:zdm):Heap:=(tA h l).push {cls:=.type "tuple_iterator",data:=.fields #[.ref tp,.int 0 0]}
abbrev tC (h:Heap) (l tp:zdm):Heap:=(tB h l tp).push {cls:=.type "tuple",data:=.seq #[.ref h.objs.size,.ref (tA h l).objs.size]}
abbrev tD (h:Heap) (l tp:zdm):Heap:=(tC h l tp).push {cls:=.type "tuple",data:=.seq #[.none,.none]}
abbrev tE (h:Heap) (l tp:zdm):Heap:=(tD h l tp).push {cls:=.type "zip",data:=.fields #[.none,.bool false,.bool false,.ref (tB h l tp).objs.size,.ref (tC h l tp).objs.size]}
theorem DZ(l tp:zdm)(xs ys:Array zdn):Meets (Builtin.«zip.__new__» ⟨[.type "zip",.ref l,.ref tp],[]⟩) (fun _ R s=>s.heap.IsTuple l xs/\s.heap.IsTuple tp ys/\R (.ok (.ret (.ref (tD s.heap l tp).objs.size))) {s with heap:=tE s.heap l tp}):=
 .of_wp fun prog w A R s h=>by
  obtain⟨hp,g,d,tk,os⟩:=s;obtain⟨g1,g2,h⟩:=h;have Uy:=sub_zip;have k1:Heap.IsTuple (Shared.heap ⟨hp,g,d,tk,os⟩) l xs:=g1;have k2:Heap.IsTuple (Shared.heap ⟨hp.push {cls:=.type "tuple_iterator",data:=.fields #[.ref l,.int 0 0]},g,d,tk,os⟩) tp ys:=by
   obtain⟨o,go,rest⟩:=g2;exact⟨o,Heap.get?_push_of_some _ go,rest⟩
  wp_walk using wpAny_pyIter_tuple k1,wpAny_pyIter_tuple k2
  exact⟨_,rfl,h⟩
section
variable{prog:zdy}{w:zdo}{A:zdx}{E:zdn->zdw->Prop}{s:zdw}
theorem A8(n l tp:Nat)(h1:l<n)(h2:tp<n):ZipApart (n+4) (n+2) (n+3) n (n+1) l tp:=by
 constructor<;>(show (_:Nat)≠_;lia)
theorem A9{l tp:zdm}{xs ys:Array zdn}{Q:zdn->zdw->Prop}(hl:s.heap.IsTuple l xs)(ht:s.heap.IsTuple tp ys)
 (h:∀h',ZipApart (s.heap.objs.size+4) (s.heap.objs.size+2) (s.heap.objs.size+3) s.heap.objs.size (s.heap.objs.size+1) l tp->Sz h' (s.heap.objs.size+4) (s.heap.objs.size+2) (s.heap.objs.size+3) s.heap.objs.size (s.heap.objs.size+1) l tp 0->
  (∀c o,s.heap.get? c=some o->h'.get? c=some o)->Q (.ref (s.heap.objs.size+4)) {s with heap:=h' }) :
 wpAny (model prog w) A (call (.type "zip") [.ref l,.ref tp]) Q E s:=by
 refine callType_new F.called_zip (by decide) (F.typeCall_zip_2 _ _) (F.newCall_zip_2 _ _) (fun obj=>F.args_object_init_3 obj _ _) F.entry_zip_new (DZ l tp xs ys) ⟨hl,ht,?_⟩;have z1:(tA s.heap l).objs.size=s.heap.objs.size+1:=Heap.size_push ..;have z2:(tB s.heap l tp).objs.size=s.heap.objs.size+2:=by rw[Heap.size_push,z1]
 have z3:(tC s.heap l tp).objs.size=s.heap.objs.size+3:=by rw[Heap.size_push,z2]
 have z4:(tD s.heap l tp).objs.size=s.heap.objs.size+4:=by rw[Heap.size_push,z3]
 have g5:(tE s.heap l tp).get? (tD s.heap l tp).objs.size=some _:=Heap.get?_push_size _ rfl;have g4:(tE s.heap l tp).get? (tC s.heap l tp).objs.size=some _:=Heap.get?_push_of_some _ (Heap.get?_push_size _ rfl);have g3:(tE s.heap l tp).get? (tB s.heap l tp).objs.size=some _:=Heap.get?_push_of_some _ (Heap.get?_push_of_some _ (Heap.get?_push_size _ rfl));have g2:(tE s.heap l tp).get? (tA s.heap l).objs.size=some _:=Heap.get?_push_of_some _ (Heap.get?_push_of_some _ (Heap.get?_push_of_some _ (Heap.get?_push_size _ rfl)));have g1:(tE s.heap l tp).get? s.heap.objs.size=some _:=Heap.get?_push_of_some _ (Heap.get?_push_of_some _ (Heap.get?_push_of_some _ (Heap.get?_push_of_some _ (Heap.get?_push_size _ rfl))));have up:∀c o,s.heap.get? c=some o->(tE s.heap l tp).get? c=some o:=fun c o e=>Heap.get?_push_of_some _ (Heap.get?_push_of_some _ (Heap.get?_push_of_some _ (Heap.get?_push_of_some _ (Heap.get?_push_of_some _ e))));show _/\_;rw[z2,z3,z4] at g5;rw[z1,z2] at g3;rw[z3] at g4;rw[z1] at g2;rw[z4];obtain⟨ol,gl,rl⟩:=id hl;obtain⟨ot,gt,rt⟩:=id ht;exact⟨⟨_,g5,rfl⟩,h _ (A8 _ _ _ (Heap.lt_size gl) (Heap.lt_size gt)) ⟨g5,⟨_,_,g4⟩,g3,⟨_,g1,rfl,rfl⟩,⟨_,g2,rfl,rfl⟩⟩ up⟩
end
end L3
namespace L2
open PySem PySem.Spec PyProof.Rows
def Kh (K:zaa) (a b:zdm):It:=
 ⟨fun i H=>∃xs ys x y,bS K H a xs/\bS K H b ys/\xs[i]?=some x/\ys[i]?=some y,
  fun i H x H'=>∃p u v,x=.ref p/\H p=none/\H'=upd H p (.tup [u,v])/\(∀xs,bS K H a xs->xs[i]?=some u)/\∀ys,bS K H b ys->ys[i]?=some v,
  fun i H=>∃xs ys,bS K H a xs/\bS K H b ys/\(xs.length<=i\/ys.length<=i)⟩
theorem GS{P:zdy}{w:zdo}{K:zaa}{elts:List Expr}{x1}{pos:Pos}(a b z ti to j1 j2:zdm)(D:ZipApart z ti to j1 j2 a b) :
 Turn P w K (.Tuple elts x1 pos) (Kh K a b) [z,ti,to,j1,j2] z (fun i h=>L3.Sz h z ti to j1 j2 a b i) where
 mem:=by simp
 obj:=fun i h st c hc=>by
  obtain⟨hz,⟨u,v,hO⟩,hI,⟨o1,e1,c1,d1⟩,⟨o2,e2,c2,d2⟩⟩:=st;simp only[zag,zaR,or_false] at hc;rcases hc with rfl |rfl |rfl |rfl |rfl
  ·exact⟨_,hz,fun v z=>by cases (show Data.fields _=Data.cell v from z)⟩
  ·exact⟨_,hI,fun v z=>by cases (show Data.seq _=Data.cell v from z)⟩
  ·exact⟨_,hO,fun v z=>by cases (show Data.seq _=Data.cell v from z)⟩
  ·exact⟨o1,e1,fun v z=>by rw[d1] at z;cases z⟩
  ·exact⟨o2,e2,fun v z=>by rw[d2] at z;cases z⟩
 keep:=fun i h h' st k=>⟨k z (by simp) _ st.zip,st.out.elim fun u ⟨v,hO⟩=>⟨u,v,k to (by simp) _ hO⟩,k ti (by simp) _ st.ins,L3.GQ st.ED fun o x=>k j1 (by simp) o x,L3.GQ st.JK fun o x=>k j2 (by simp) o x⟩
 item:=by
  intro X hP hw hK hc i pins s σ H E I hf st hg;subst hP hw hK;obtain⟨xs,ys,x,y,hq,EB,hx,hy⟩:=hg;obtain⟨bq,rv,p,hz⟩:=I.tuple hq;obtain⟨its',Lz,p',Xi⟩:=I.tuple EB;obtain⟨u,hu,ru⟩:=rv.get hx;obtain⟨v,hv,ZW⟩:=Lz.get hy;have lz:z<s.heap.objs.size:=Heap.lt_size st.zip;have lti:ti<s.heap.objs.size:=Heap.lt_size st.ins;have Sr:to<s.heap.objs.size:=by obtain⟨_,_,e⟩:=st.out;exact Heap.lt_size e
  have l1:j1<s.heap.objs.size:=by obtain⟨_,e,_⟩:=st.ED;exact Heap.lt_size e
  have l2:j2<s.heap.objs.size:=by obtain⟨_,e,_⟩:=st.JK;exact Heap.lt_size e
  refine L3.GR D st (show s.heap.IsTuple a bq.toArray from p) (show s.heap.IsTuple b its'.toArray from p') (x:=u) (y:=v) (by simpa using hu) (by simpa using hv) fun h' a1 a2 a3 a4 a5 a6 a7 a8=>?_;refine⟨_,rfl,?_⟩;refine wpAny_letOwnedTupleGo_zip (s:={s with heap:=h' }) a1 fun h2 ZX sb=>?_;have I1:Inv X pins σ H {s with heap:=h2}:=I.nI (t':=s.toks) (fun c o hb q=>(sb.2 c fun e=>hb (by simp[e])).trans (a8 c o (fun e=>hb (by simp[e])) (fun e=>hb (by simp[e])) (fun e=>hb (by simp[e])) (fun e=>hb (by simp[e])) q)) hf;have fr:H s.heap.objs.size=none:=I.da.fresh (zam _);obtain⟨g0,g1,g2,g3,g4,g5⟩:=I.Ax (zam _) fr;have M8:h2.get? s.heap.objs.size=some {cls:=.type "tuple",data:=.seq #[u,v]}:=(sb.2 _ (zbC lz)).trans a6;have I2:=I1.told (o:=.tup [x,y]) fr I.sz g1 g4 g5 ⟨(show (2:Nat)<=zdu by decide),[u,v],.cons ru (.cons ZW .nil),⟨_,M8,rfl,_,rfl⟩⟩;refine⟨.ref s.heap.objs.size,_,I2,rfl,⟨_,x,y,rfl,fr,rfl,fun zs UW=>by rw[I.qr UW hq];exact hx,fun zs UW=>by rw[I.qr UW EB];exact hy⟩,⟨ZX,⟨u,v,(sb.2 to D.TOz).trans a2⟩,(sb.2 ti D.TIz).trans a3,L3.GQ a4 fun o q=>(sb.2 j1 D.i1z).trans q,L3.GQ a5 fun o q=>(sb.2 j2 D.i2z).trans q⟩,fun c hb=>?_⟩;rw[aE ?_]
  ·exact(hf c hb).1
  ·simp only[zag,zaR,or_false] at hb;rcases hb with rfl |rfl |rfl |rfl |rfl<;>exact zaw (by assumption)
 done:=by
  intro X hP hw hK hc i pins s σ H E I hf st hg;subst hP hw hK;obtain⟨xs,ys,hq,EB,hl⟩:=hg;obtain⟨bq,rv,p,hz⟩:=I.tuple hq;obtain⟨its',Lz,p',Xi⟩:=I.tuple EB;have e1:=rv.length;have e2:=Lz.length;exact L3.Kg (I.ok.hd hc) D st (show s.heap.IsTuple a bq.toArray from p) (show s.heap.IsTuple b its'.toArray from p') (by simp;lia) fun h' eb=>⟨rfl,I.nI (t':=s.toks) (fun c o hb q=>eb c o (fun e=>hb (by simp[e])) (fun e=>hb (by simp[e])) (fun e=>hb (by simp[e])) (fun e=>hb (by simp[e])) q) hf⟩
 self:=fun _ _ _ _ _ st h=>wpAny_pyIter_zip st.zip h
def QQ (K:zaa) (ta:TA):TI:=fun σ H R=>ta σ H fun vs H1=>∃a b,vs=[.ref a,.ref b]/\(∃xs,bS K H1 a xs)/\(∃ys,bS K H1 b ys)/\R (Kh K a b) H1
theorem GU{X:Cx}{elts:List Expr}{x1}{tp:Pos}{a b:Expr}{ta:TA}{p pos:Pos}(hg:Gl X "zip")(hm:X.mg "zip"=none)(ha:PA X [a,b] ta)(hs:zds [a,b] X.env=(false,eval a X.env)::zds [b] X.env:=by rfl)(hn:((backTo pos (zds [b] X.env)).any fun x=>x.1)=false:=by rfl) :
 PI X (.Tuple elts x1 tp) (.Call (.Name "zip" p) [a,b] [] pos) (QQ X.K ta):=by
 intro pins s σ H R I h;refine Call_ (mi I hg hm PyProof.Rows.Boot.«zip» (zaS (dw (ha pos pins s σ H _ I h) fun us s1 zqz=>?_) hs hn));obtain⟨vs,H1,I1,r1,q1⟩:=zqz;obtain⟨l,l',e,⟨xs,hq⟩,⟨ys,EB⟩,q⟩:=q1;subst e;cases r1 with
 |cons r rr=>
  cases rr with
  |cons r' rr=>
   cases rr;cases (show _=Value.ref l from r);cases (show _=Value.ref l' from r');obtain⟨bq,rv,p,hz⟩:=I1.tuple hq;obtain⟨its',Lz,p',Xi⟩:=I1.tuple EB;refine L3.A9 (show s1.heap.IsTuple l bq.toArray from p) (show s1.heap.IsTuple l' its'.toArray from p') fun h' D st hk=>?_;refine wpAny_pyIter_zip (s:={s1 with heap:=h' }) st.zip ?_;have fr:∀b,s1.heap.objs.size<=b->H1 b=none:=fun b hb=>I1.da.fresh hb;refine⟨s1.heap.objs.size+4,[s1.heap.objs.size+4,s1.heap.objs.size+2,s1.heap.objs.size+3,s1.heap.objs.size,s1.heap.objs.size+1],_,_,H1,rfl,I1.kept (t':=s1.toks) hk,GS l l' _ _ _ _ _ D,st,fun b hb=>?_,q⟩;have sT:s1.heap.objs.size<=b:=by
    simp only[zag,zaR,or_false] at hb;rcases hb with rfl |rfl |rfl |rfl |rfl<;>first |exact zam _ |exact Nat.le_add_right _ _
   exact I1.Ax sT (fr b sT)
theorem Ki{K:zaa}{a b:zdm}{xs ys:List V}{g:TG}{tb:TS}{D:Ends}{σ:St}{H:Hp}(Pv:Nat->St->Hp->Prop)(h0:Pv 0 σ H)(hl:∀i σ H,i<=min xs.length ys.length->Pv i σ H->bS K H a xs/\bS K H b ys)
 (hs:∀i x y σ H p,xs[i]?=some x->ys[i]?=some y->Pv i σ H->H p=none->g (.ref p) σ (upd H p (.tup [x,y])) fun σ2 H2=>tb {D with nx:=Pv (i+1),ct:=Pv (i+1),bk:=D.nx} σ2 H2) (hd:∀σ H,Pv (min xs.length ys.length) σ H->D.nx σ H) :
 ∃W:Nat->Nat->St->Hp->Prop,(∃m,W 0 m σ H)/\∀i m σ H,W i m σ H->
  ((Kh K a b).stop i H/\D.nx σ H)\/((Kh K a b).go i H/\∃N:St->Hp->Prop,(∀σ' H',N σ' H'->∃m',m'<m/\W (i+1) m' σ' H')/\∀x H',(Kh K a b).wZ i H x H'->g x σ H' fun σ2 H2=>tb {D with nx:=N,ct:=N,bk:=D.nx} σ2 H2):=by
 refine⟨fun i m σ H=>m=min xs.length ys.length-i/\i<=min xs.length ys.length/\Pv i σ H,⟨_,rfl,zaM _,h0⟩,?_⟩
 rintro i m σ H ⟨rfl,hi,p⟩
 obtain⟨q,q'⟩:=hl i σ H hi p;by_cases jL:i<min xs.length ys.length
 ·have l1:i<xs.length:=by lia
  have l2:i<ys.length:=by lia
  refine .inr ⟨⟨xs,ys,xs[i],ys[i],q,q',by simp[l1],by simp[l2]⟩,Pv (i+1),fun σ' H' p'=>⟨min xs.length ys.length-(i+1),by lia,rfl,jL,p'⟩,fun x H' y=>?_⟩;obtain⟨pp,u,v,rfl,hn,rfl,y1,y2⟩:=y;exact hs i u v σ H pp (y1 xs q) (y2 ys q') p hn
 ·have e:i=min xs.length ys.length:=by lia
  subst e;exact .inl ⟨⟨xs,ys,q,q',by lia⟩,hd σ H p⟩
end L2
namespace PG
open PM (W Tr)
def kj (bs:List ck) (x:W):Nat:=bs.findIdx fun b=>decide (b.name=x)
def eE (bs:List ck) (rs:List Rg) (x:W):Rg:=rs.getD (kj bs x) (0,0)
def fX (bs:List ck) (rs:List Rg) (x:W) (r:Rg):List Rg:=rs.set (kj bs x) r
theorem uh{bs:List ck}(nb:(bs.map (·.name)).Nodup){i:Nat}(hi:i<bs.length):kj bs bs[i].name=i:=by
 unfold kj;rw[List.findIdx_eq (by simpa using hi)];refine⟨by simp,fun j hj=>?_⟩;have h:=zbb.mp nb j i (by simp;lia) (by simp;lia) hj;exact decide_eq_false (by simpa using h)
end PG
namespace L2
open PySem
def sX (K:zaa) (H:Hp) (bs:List PG.ck) (kvs:List (Key×V)) (rs:List PG.Rg):Prop:=rs.length=bs.length/\∀i (hi:i<bs.length),∃v,cB kvs (.inr (S bs[i].name))=some v/\∃r,rs[i]?=some r/\cV K H v r
theorem sX.mono{K:zaa}{H H':Hp}{bs:List PG.ck}{kvs:List (Key×V)}{rs:List PG.Rg}(h:sX K H bs kvs rs)(s:ar H H'):sX K H' bs kvs rs:=
 ⟨h.1,fun i hi=>let ⟨v,e,r,er,q⟩:=h.2 i hi;⟨v,e,r,er,q.mono s⟩⟩
def sY (bs:List PG.ck) (rs:List PG.Rg):PM.Tr->Prop
 |.num n=>n.natAbs<=2 ^ 12
 |.box x=>x∈bs.map (·.name)/\QO (2 ^ 12) (PG.eE bs rs x)
 |.bin o l r=>(o=[43]\/o=[45]\/o=[42])/\sY bs rs l/\sY bs rs r
theorem sX.at_{K:zaa}{H:Hp}{bs:List PG.ck}{kvs:List (Key×V)}{rs:List PG.Rg}(h:sX K H bs kvs rs)(nb:(bs.map (·.name)).Nodup){x:W}(hx:x∈bs.map (·.name)):∃v,cB kvs (.inr (S x))=some v/\cV K H v (PG.eE bs rs x):=by
 obtain⟨b,hb,rfl⟩:=zaF.mp hx;obtain⟨i,hi,rfl⟩:=zby hb;obtain⟨v,e,r,er,q⟩:=h.2 i hi;refine⟨v,e,?_⟩;unfold PG.eE;rw[PG.uh nb hi,zaf,er];exact q
theorem sX.QR{K:zaa}{H:Hp}{bs:List PG.ck}{kvs:List (Key×V)}{rs:List PG.Rg}(h:sX K H bs kvs rs)(nb:(bs.map (·.name)).Nodup):∀ {t:PM.Tr},sY bs rs t->CA K H kvs (PG.eE bs rs) t
 |.num n,q=>q
 |.box x,q=>⟨h.at_ nb q.1,q.2⟩
 |.bin o l r,q=>⟨q.1,sX.QR h nb q.2.1,sX.QR h nb q.2.2⟩
theorem sX.put{K:zaa}{H:Hp}{bs:List PG.ck}{kvs:List (Key×V)}{rs:List PG.Rg}(h:sX K H bs kvs rs)(nb:(bs.map (·.name)).Nodup){x:W}(hx:x∈bs.map (·.name)){v:V}{r:PG.Rg}(hv:cV K H v r):sX K H bs (putK kvs (.inr (S x)) v) (PG.fX bs rs x r):=by
 obtain⟨b,hb,rfl⟩:=zaF.mp hx;obtain⟨j,hj,rfl⟩:=zby hb;unfold PG.fX;rw[PG.uh nb hj];refine⟨by rw[zaT];exact h.1,fun i hi=>?_⟩;by_cases e:i=j
 ·subst e;exact⟨v,by rw[pF,if_pos rfl],r,by rw[zbi (by rw[h.1];exact hi)],hv⟩
 ·obtain⟨u,e1,r1,er,q⟩:=h.2 i hi;refine⟨u,?_,r1,by rw[zbo (Ne.symm e)];exact er,q⟩;rw[pF,if_neg fun z=>e ?_]
  ·exact e1
  ·have z:=kz.mp (Sum.inr.inj z);have l:i<(bs.map (·.name)).length:=by simpa using hi
   have:=PG.uh nb hi;rw[<- PG.uh nb hi,<- PG.uh nb hj,z]
end L2
namespace PG
open PM (W Tr)
def OK (bs:List ck) (rs:List Rg) (lt truth:Bool) (t:Tr) (a b:Rg):List Rg:=match t with
 |.box x=>fX bs rs x (L2.mL lt truth (eE bs rs x) a b)
 |_=>rs
def QS (bs:List ck) (rs:List Rg) (lt truth:Bool) (t:Tr) (a b:Rg):List Rg:=match t with
 |.box x=>fX bs rs x (L2.mM lt truth (eE bs rs x) a b)
 |_=>rs
def rL (rs:List Rg):Option (List Rg):=if (rs.map fun q=>decide (q.1>q.2)).any id then none else some rs
def bR (bs:List ck) (rs:List Rg) (sg:W) (l r:Tr) (truth:Bool):Option (List Rg):=
 if wB (decide (sg=[60])) truth (gn (eE bs rs) l) (gn (eE bs rs) r) then
  rL (QS bs (OK bs rs (decide (sg=[60])) truth l (gn (eE bs rs) l) (gn (eE bs rs) r)) (decide (sg=[60])) truth r (gn (eE bs rs) l) (gn (eE bs rs) r))
 else none
end PG
namespace L2
open PySem
def xu (K:zaa) (H:Hp) (us:List V) (rs:List PG.Rg):Prop:=us.length=rs.length/\∀i (hi:i<us.length),∃r,rs[i]?=some r/\cV K H us[i] r
theorem xu.mono{K:zaa}{H H':Hp}{us:List V}{rs:List PG.Rg}(h:xu K H us rs)(s:ar H H'):xu K H' us rs:=⟨h.1,fun i hi=>let ⟨r,e,q⟩:=h.2 i hi;⟨r,e,q.mono s⟩⟩
def dO (K:zaa) (H:Hp) (v:V) (rs:List PG.Rg):Prop:=∃a us,v=.ref a/\bS K H a us/\xu K H us rs
theorem dO.mono{K:zaa}{H H':Hp}{v:V}{rs:List PG.Rg}(h:dO K H v rs)(s:ar H H'):dO K H' v rs:=let ⟨a,us,e,q,r⟩:=h;⟨a,us,e,s.bj q,r.mono s⟩
def pO (K:zaa) (H:Hp) (v:V):Option (List PG.Rg)->Prop
 |none=>v=.bO
 |some rs=>dO K H v rs
theorem pO.mono{K:zaa}{H H':Hp}{v:V}:∀ {o:Option (List PG.Rg)},pO K H v o->ar H H'->pO K H' v o
 |none,h,_=>h
 |some _,h,s=>dO.mono h s
theorem sX.of{K:zaa}{H:Hp}{bs:List PG.ck}{us:List V}{rs:List PG.Rg}(h:xu K H us rs)(lu:us.length=bs.length)(nb:(bs.map (·.name)).Nodup):sX K H bs (cv bs us) rs:=
 ⟨by rw[<- h.1];exact lu,fun i hi=>by
  obtain⟨r,er,q⟩:=h.2 i (by lia);exact⟨us[i],ig bs us lu nb i hi _ (zab (by lia)),r,er,q⟩⟩
theorem sX.list{K:zaa}{H:Hp}{bs:List PG.ck}{kvs:List (Key×V)}{rs:List PG.Rg}(h:sX K H bs kvs rs):∃us,us.length=bs.length/\(∀i (hi:i<bs.length),cB kvs (.inr (S bs[i].name))=us[i]?)/\xu K H us rs:=by
 refine⟨(zaz bs.length).map fun i=>(cB kvs (.inr (S (bs.getD i ⟨[],0,0⟩).name))).getD .bO,by simp,fun i hi=>?_,by simp[h.1],fun i hi=>?_⟩
 ·obtain⟨v,e,_⟩:=h.2 i hi;rw[zah,zbR hi];simp only[zaL,zaf,zab hi,zbO,e]
 ·have Qb:i<bs.length:=by simpa using hi
  obtain⟨v,e,r,er,q⟩:=h.2 i Qb;refine⟨r,er,?_⟩;simp only[za5,List.getElem_range,zaf,zab Qb,zbO,e];exact q
section
variable(K:zaa)(C:zdm)
def Ba:Sp:=fun vs H Q _=>∃(p:zdm) (rv:V) (pr:PG.Prog) (i:Nat) (hi:i<(PG.ax pr.body).length) (truth:Bool) (rs:List PG.Rg) (sg:W) (l r:PM.Tr),vs=[.ref p,.int (PG.ax pr.body)[i].row,.bl truth,rv]/\si K C H p pr/\(PG.ax pr.body).Pairwise (fun a b=>a.row<b.row)/\(pr.av.map (·.name)).Nodup/\pr.av.length<=10/\dO K H rv rs/\rs.length=pr.av.length/\
 jx (PG.ax pr.body)[i]=some (sg,l,r)/\sY pr.av rs l/\sY pr.av rs r/\PG.dX l<=4/\PG.dX r<=4/\∀v H',ar H H'->pO K H' v (PG.bR pr.av rs sg l r truth)->Q v H'
end
theorem cV.dk{K:zaa}{H H':Hp}{D:zdm}{v:V}{r:PG.Rg}{kvs:List (Key×V)}(h:cV K H v r)(hD:H D=some (.dK kvs))(u:aZ D H H'):cV K H' v r:=let ⟨a,e,q⟩:=h;⟨a,e,q.dk hD u⟩
theorem sX.dk{K:zaa}{H H':Hp}{D:zdm}{bs:List PG.ck}{kv kvs:List (Key×V)}{rs:List PG.Rg}(h:sX K H bs kv rs)(hD:H D=some (.dK kvs))(u:aZ D H H'):sX K H' bs kv rs:=
 ⟨h.1,fun i hi=>let ⟨v,e,r,er,q⟩:=h.2 i hi;⟨v,e,r,er,q.dk hD u⟩⟩
theorem wC{K:zaa}{H:Hp}{t:PM.Tr}{v:V}(h:Rep K H (jN t) v)(ok:∀o l r,t=.bin o l r->S o≠"box"):∃a w0 w1 ys,v=.ref a/\bS K H a (.str w0::w1::ys)/\(w0 = "box"↔∃x,t=.box x)/\∀x,t=.box x->w1=.str (S x):=by
 cases t with
 |num m=>
  unfold jN at h;simp only[Rep.a0,aN.aJ,aN.bu,Rep.br,Rep.bg] at h;obtain⟨a,xs,rfl,hS,_,_,rfl,rfl,_,_,rfl,rfl,rfl⟩:=h;exact⟨a,_,_,_,rfl,hS,⟨fun z=>absurd z (by decide +kernel),fun ⟨x,z⟩=>by cases z⟩,fun x z=>by cases z⟩
 |box x=>
  unfold jN at h;simp only[Rep.a0,aN.aJ,aN.bu,Rep.br,Rep.bg] at h;obtain⟨a,xs,rfl,hS,_,_,rfl,rfl,_,_,rfl,rfl,rfl⟩:=h;exact⟨a,_,_,_,rfl,hS,⟨fun _=>⟨x,rfl⟩,fun _=>rfl⟩,fun y z=>by cases z;rfl⟩
 |bin o l r=>
  unfold jN at h;simp only[Rep.a0,aN.aJ,aN.bu,Rep.br,Rep.bg] at h;obtain⟨a,xs,rfl,hS,_,_,rfl,rfl,vl,_,rfl,hl,vr,_,rfl,vh,rfl⟩:=h;exact⟨a,_,_,_,rfl,hS,⟨fun z=>absurd z (ok o l r rfl),fun ⟨x,z⟩=>by cases z⟩,fun x z=>by cases z⟩
theorem sY.LA{bs:List PG.ck}{rs:List PG.Rg}{t:PM.Tr}(h:sY bs rs t)(o:W)(l r:PM.Tr)(e:t=.bin o l r):S o≠"box":=by
 subst e;obtain⟨ho,_⟩:=h;rcases ho with rfl |rfl |rfl<;>decide +kernel
end L2
namespace PG
def dy (f:Bool->Option (List Rg)) (ws:List (Int×Bool)):List (Int×List Rg):=ws.filterMap fun w=>(f w.2).map fun r=>(w.1,r)
theorem zg(f:Bool->Option (List Rg))(ws:List (Int×Bool))(w:Int×Bool):dy f (ws++[w])=dy f ws++((f w.2).map fun r=>(w.1,r)).toList:=by
 unfold dy;rw[List.filterMap_append];cases h:f w.2<;>simp[h]
end PG
namespace L2
open PySem
theorem cV.gC{K:zaa}{H H':Hp}{D:zdm}{v:V}{r:PG.Rg}{ys:List V}(h:cV K H v r)(hD:H D=some (.lst ys))(u:aZ D H H'):cV K H' v r:=let ⟨a,e,q⟩:=h;⟨a,e,q.gC hD u⟩
theorem dO.gC{K:zaa}{H H':Hp}{D:zdm}{v:V}{rs:List PG.Rg}{ys:List V}(h:dO K H v rs)(hD:H D=some (.lst ys))(u:aZ D H H'):dO K H' v rs:=
 let ⟨a,us,e,q,l,r⟩:=h;⟨a,us,e,q.gC hD u,l,fun i hi=>let ⟨r1,e1,q1⟩:=r i hi;⟨r1,e1,q1.gC hD u⟩⟩
def oV (K:zaa) (H:Hp) (v:V) (w:Int×List PG.Rg):Prop:=∃a u,v=.ref a/\bS K H a [.int w.1,u]/\dO K H u w.2
theorem oV.mono{K:zaa}{H H':Hp}{v:V}{w:Int×List PG.Rg}(h:oV K H v w)(s:ar H H'):oV K H' v w:=let ⟨a,u,e,q,r⟩:=h;⟨a,u,e,s.bj q,r.mono s⟩
theorem oV.gC{K:zaa}{H H':Hp}{D:zdm}{v:V}{w:Int×List PG.Rg}{ys:List V}(h:oV K H v w)(hD:H D=some (.lst ys))(u:aZ D H H'):oV K H' v w:=let ⟨a,x,e,q,r⟩:=h;⟨a,x,e,q.gC hD u,r.gC hD u⟩
inductive jy(K:zaa)(H:Hp):List V->List (Int×List PG.Rg)->Prop
 |nil:jy K H [] []
 |cons {v w us ws}:oV K H v w->jy K H us ws->jy K H (v::us) (w::ws)
theorem jy.map{K:zaa}{H H':Hp}{us:List V}{ws:List (Int×List PG.Rg)}(h:jy K H us ws)(f:∀v w,oV K H v w->oV K H' v w):jy K H' us ws:=by
 induction h with
 |nil=>exact .nil
 |cons a _ ih=>exact .cons (f _ _ a) ih
theorem jy.snoc{K:zaa}{H:Hp}{us:List V}{ws:List (Int×List PG.Rg)}{v:V}{w:Int×List PG.Rg}(h:jy K H us ws)(q:oV K H v w):jy K H (us++[v]) (ws++[w]):=by
 induction h with
 |nil=>exact .cons q .nil
 |cons a _ ih=>exact .cons a ih
theorem jy.len{K:zaa}{H:Hp}{us:List V}{ws:List (Int×List PG.Rg)}(h:jy K H us ws):us.length=ws.length:=by
 induction h with
 |nil=>rfl
 |cons a _ ih=>simp[ih]
section
variable(K:zaa)(C:zdm)
def GV:Sp:=fun vs H Q _=>∃(p:zdm) (rv:V) (pr:PG.Prog) (i:Nat) (hi:i<(PG.ax pr.body).length) (hf:i<(PG.aF pr.body 0).length) (rs:List PG.Rg) (sg:W) (l r:PM.Tr),vs=[.ref p,.int (PG.ax pr.body)[i].row,rv]/\si K C H p pr/\pL pr/\dO K H rv rs/\rs.length=pr.av.length/\
 jx (PG.ax pr.body)[i]=some (sg,l,r)/\sY pr.av rs l/\sY pr.av rs r/\PG.dX l<=4/\PG.dX r<=4/\∀L us H',ar H H'->H L=none->H' L=some (.lst us)->jy K H' us (PG.dy (PG.bR pr.av rs sg l r) ((PG.aF pr.body 0)[i].2.2.zip [true,false]))->Q (.ref L) H'
end
end L2
namespace PG
open PM (W Tr)
def eF (bs:List ck) (rs:List Rg) (ws:List Int):bh->List (Int×List Rg)
 |.ask _ b=>[(ws.getD 0 0,fX bs rs b (0,L2.df bs b-1))]
 |.put _ b e=>[(ws.getD 0 0,fX bs rs b (oU (gn (eE bs rs) e) (L2.df bs b)))]
 |.cg _ sg l r=>dy (bR bs rs sg l r) (ws.zip [true,false])
 |.ifs _ sg l r _ _=>dy (bR bs rs sg l r) (ws.zip [true,false])
 |.eD _ sg l r _=>dy (bR bs rs sg l r) (ws.zip [true,false])
 |_=>[(ws.getD 0 0,rs)]
end PG
namespace L2
open PySem
def Kj (bs:List PG.ck) (rs:List PG.Rg):PG.bh->Prop
 |.ask _ b=>b∈bs.map (·.name)
 |.put _ b e=>b∈bs.map (·.name)/\sY bs rs e/\PG.dX e<=4
 |.cg _ _ l r=>sY bs rs l/\sY bs rs r/\PG.dX l<=4/\PG.dX r<=4
 |.ifs _ _ l r _ _=>sY bs rs l/\sY bs rs r/\PG.dX l<=4/\PG.dX r<=4
 |.eD _ _ l r _=>sY bs rs l/\sY bs rs r/\PG.dX l<=4/\PG.dX r<=4
 |_=>True
section
variable(K:zaa)(C:zdm)
def GW:Sp:=fun vs H Q _=>∃(p:zdm) (rv:V) (pr:PG.Prog) (row:Int) (rs:List PG.Rg),vs=[.ref p,.int row,rv]/\si K C H p pr/\pL pr/\dO K H rv rs/\rs.length=pr.av.length/\(∀b∈pr.av,0<b.size/\b.size<=1000)/\
 ((row=0/\∀L H',ar H H'->H L=none->H' L=some (.lst [])->Q (.ref L) H')\/
  (row≠0/\∃(i:Nat) (hi:i<(PG.ax pr.body).length) (hf:i<(PG.aF pr.body 0).length),(PG.ax pr.body)[i].row=row/\Kj pr.av rs (PG.ax pr.body)[i]/\0<(PG.aF pr.body 0)[i].2.2.length/\
   ∀L us H',ar H H'->H L=none->H' L=some (.lst us)->jy K H' us (PG.eF pr.av rs (PG.aF pr.body 0)[i].2.2 (PG.ax pr.body)[i])->Q (.ref L) H'))
end
def rM (H:Hp) (s:zdm):Prop:=∃n m:Int,H s=some (.lst [.int n,.int m])
theorem rM.same{H H':Hp}{s:zdm}(h:rM H s)(e:ar H H'):rM H' s:=let ⟨n,m,q⟩:=h;⟨n,m,e _ _ q⟩
def zh (bs:List PG.ck):PM.Tr->Prop
 |.num n=>0<=n/\n<1000
 |.box x=>x∈bs.map (·.name)
 |.bin o l r=>(o=[43]\/o=[45]\/o=[42])/\zh bs l/\zh bs r
def QT (bs:List PG.ck) (rs:List PG.Rg):Prop:=rs.length=bs.length/\∀r∈rs,0<=r.1/\r.1<=10/\0<=r.2/\r.2<=10
def UX (bs:List PG.ck) (sg:W) (l r:PM.Tr):Prop:=(sg=[60]\/sg=[61])/\zh bs l/\zh bs r/\PG.dX l<=2/\PG.dX r<=2
def Xj (row:Int) (b:List PG.bh):Prop:=b=[]\/b=[.say (row+1) (.num 1)]
def ZY (row:Int) (b:List PG.bh):Prop:=b=[]\/b=[.stop (row+3)]
def QU (bs:List PG.ck) (row:Int):PG.bh->Prop
 |.ask k b=>k=row/\b∈bs.map (·.name)
 |.put k b e=>k=row/\b∈bs.map (·.name)/\zh bs e/\PG.dX e<=2
 |.say k e=>k=row/\zh bs e/\PG.dX e<=2
 |.stop k=>k=row
 |.cg k sg l r=>k=row/\UX bs sg l r
 |.eD k sg l r a=>k=row/\UX bs sg l r/\Xj row a
 |.ifs k sg l r a b=>k=row/\UX bs sg l r/\Xj row a/\ZY row b
theorem zh.g{bs:List PG.ck}{rs:List PG.Rg}(h:QT bs rs):∀ {t:PM.Tr},zh bs t->sY bs rs t
 |.num n,q=>by unfold zh at q;unfold sY;lia
 |.box x,q=>by
  refine⟨q,?_⟩;unfold PG.eE;rw[zaf];cases e:rs[PG.kj bs x]? with
  |none=>exact⟨by decide,by decide⟩
  |some r=>
   have:=h.2 r (zaG e);exact⟨by show r.1.natAbs<=_;lia,by show r.2.natAbs<=_;lia⟩
 |.bin o l r,q=>⟨q.1,zh.g h q.2.1,zh.g h q.2.2⟩
def QV (K:zaa) (s:zdm) (H:Hp) (B:zdm) (bs:List PG.ck):Prop:=B≠s/\bs.length<=10/\∃xs,H B=some (.lst xs)/\dv K (·=s) H (bs.map ju) xs
theorem QV.av{K:zaa}{s B:zdm}{H:Hp}{bs:List PG.ck}(h:QV K s H B bs):iJ K (·=s) H B bs:=let ⟨n,l,xs,e,f⟩:=h;⟨Fix.lst e n f,l⟩
theorem QV.up{K:zaa}{s B:zdm}{H H1:Hp}{bs:List PG.ck}(h:QV K s H B bs)(u:aZ s H H1):QV K s H1 B bs:=let ⟨n,l,xs,e,f⟩:=h;⟨n,l,xs,u _ _ n e,f.up (aU.one u rfl)⟩
section
variable(K:zaa)(C:zdm)
def UY:Sp:=fun vs H Q _=>∃(s:zdm) (many:Int),vs=[.ref s,.int many]/\rM H s/\0<many/\many<=1000/\∀x H',0<=x->x<many->aZ s H H'->rM H' s->Q (.int x) H'
def nW (r:PG.Rg):Dp:=.tup [.int r.1,.int r.2]
def Bb (rs:List PG.Rg):Dp:=.tup (rs.map nW)
def D0:PM.Tr->List PM.Tr
 |.bin o l r=>.bin o l r::(D0 l++D0 r)
 |t=>[t]
def oW:Sp:=fun vs H Q _=>∃(pv rv:V) (pr:PG.Prog) (row:Int) (rs:List PG.Rg),vs=[pv,.int row,rv]/\Rep K H (j5 pr) pv/\PG.dD pr.body<=4/\(PG.dQ pr.body).length<=1000/\pL pr/\dO K H rv rs/\rs.length=pr.av.length/\(∀b∈pr.av,0<b.size/\b.size<=1000)/\
 ((row=0/\∀L H',ar H H'->H L=none->H' L=some (.lst [])->Q (.ref L) H')\/
  (row≠0/\∃(i:Nat) (hi:i<(PG.ax pr.body).length) (hf:i<(PG.aF pr.body 0).length),(PG.ax pr.body)[i].row=row/\Kj pr.av rs (PG.ax pr.body)[i]/\0<(PG.aF pr.body 0)[i].2.2.length/\
   ∀L us H',ar H H'->H L=none->H' L=some (.lst us)->jy K H' us (PG.eF pr.av rs (PG.aF pr.body 0)[i].2.2 (PG.ax pr.body)[i])->Q (.ref L) H'))
end
theorem cV.rep{K:zaa}{H:Hp}{r:PG.Rg}{v:V}(h:cV K H v r):Rep K H (nW r) v:=by
 obtain⟨a,rfl,q⟩:=h;exact Rep.a0.mpr ⟨a,_,rfl,q,.cons (Rep.bg.mpr rfl) (.cons (Rep.bg.mpr rfl) .nil)⟩
theorem CB{K:zaa}{H:Hp}{α:Type}{f:α->Dp}:∀ {rs:List α} {us:List V},us.length=rs.length->(∀i (hi:i<us.length),∃r,rs[i]?=some r/\Rep K H (f r) us[i])->aN K H (rs.map f) us
 |[],[],_,_=>.nil
 |r::rs,u::us,l,h=>by
  refine .cons ?_ (CB (by simpa using l) fun i hi=>?_)
  ·obtain⟨q,e,p⟩:=h 0 (by simp);cases e;exact p
  ·obtain⟨q,e,p⟩:=h (i+1) (by simp;lia);exact⟨q,by simpa using e,by simpa using p⟩
theorem dO.rep{K:zaa}{H:Hp}{rs:List PG.Rg}{v:V}(h:dO K H v rs):Rep K H (Bb rs) v:=by
 obtain⟨a,us,rfl,q,l,r⟩:=h;exact Rep.a0.mpr ⟨a,_,rfl,q,CB l fun i hi=>let ⟨x,e,p⟩:=r i hi;⟨x,e,p.rep⟩⟩
def Bc (w:Int×List PG.Rg):Dp:=.tup [.int w.1,Bb w.2]
theorem jy.rep{K:zaa}{H:Hp}{us:List V}{ws:List (Int×List PG.Rg)}(h:jy K H us ws):aN K H (ws.map Bc) us:=by
 induction h with
 |nil=>exact .nil
 |cons a _ ih=>
  refine .cons ?_ ih;obtain⟨p,u,rfl,q,r⟩:=a;exact Rep.a0.mpr ⟨p,_,rfl,q,.cons (Rep.bg.mpr rfl) (.cons r.rep .nil)⟩
open PyProof.Rows
theorem rM.ne{H:Hp}{s p:zdm}(h:rM H s)(hp:H p=none):p≠s:=by
 obtain⟨n,m,e⟩:=h;exact(aH e hp).symm
theorem rM.new{H:Hp}{s p:zdm}(h:rM H s)(hp:H p=none)(o:HO):rM (upd H p o) s:=h.same (ar.new hp o)
theorem nM{K:zaa}{H:Hp}{O:zdm->Prop}{B:zdm}{bs:List PG.ck}(h:iJ K O H B bs):∃xs,fF K H B xs/\xs.length=bs.length:=let ⟨xs,a,b,_⟩:=h.list;⟨xs,a,b⟩
theorem qK{bs:List PG.ck}{i:Int}(h0:0<=i)(h1:i<bs.length):(PG.pick ⟨[],0,0⟩ bs i).name∈bs.map (·.name):=zaF.mpr ⟨_,PG.F3 _ h0 h1,rfl⟩
theorem sY.u{bs:List PG.ck}{rs:List PG.Rg}:∀ {t:PM.Tr},sY bs rs t->Lx (PG.eE bs rs) t
 |.num n,h=>h
 |.box x,h=>h.2
 |.bin o l r,h=>⟨sY.u h.2.1,sY.u h.2.2⟩
theorem dO.get{K:zaa}{H:Hp}{bs:List PG.ck}{rs:List PG.Rg}{rv:V}(h:dO K H rv rs)(ll:rs.length=bs.length){x:W}(hx:x∈bs.map (·.name)){Q:VK}(q:∀u,cV K H u (PG.eE bs rs x)->Q u H):w9 K rv (.int (PG.kj bs x)) H Q:=by
 obtain⟨a,us,rfl,hS,l,g⟩:=h;have lt:PG.kj bs x<bs.length:=by
  unfold PG.kj;rw[List.findIdx_lt_length];obtain⟨b,hb,e⟩:=zaF.mp hx;exact⟨b,hb,by simp[e]⟩
 obtain⟨r,er,hr⟩:=g (PG.kj bs x) (by lia);refine aG hS (v:=us[PG.kj bs x]) (aC (zab (by lia))) (q _ ?_);unfold PG.eE;rw[zaf,er];exact hr
theorem NF(xs:List V){x:Int}(h:0<=x):ma xs none (some x)=xs.take x.toNat:=by
 obtain⟨j,rfl⟩:∃j:Nat,x=j:=⟨x.toNat,by lia⟩
 unfold ma;rw[HT.tL,HT.w5,List.drop_zero,Nat.sub_zero,zbI];by_cases h:j<=xs.length
 ·rw[Nat.min_eq_left h]
 ·rw[Nat.min_eq_right (by lia),zbQ,zbV (by lia)]
theorem GX(xs:List V)(j:Nat):ma xs (some (j:Int)) none=xs.drop j:=by
 unfold ma;rw[HT.tL,HT.w5];by_cases h:j<=xs.length
 ·rw[Nat.min_eq_left h,zbV (by rw[zb1];lia)]
 ·rw[Nat.min_eq_right (by lia),zc2 (by lia),zc2 (by lia),List.take_nil]
structure ui(H:Hp)(ps:List zdm)(rs:List PG.Rg):Prop where
 l:ps.length=rs.length
 nd:ps.Nodup
 at_:∀j (hj:j<ps.length),∃r,rs[j]?=some r/\H ps[j]=some (.lst [.int r.1,.int r.2])
theorem ui.up{H H':Hp}{ps:List zdm}{rs:List PG.Rg}(h:ui H ps rs)(u:∀p o,p∈ps->H p=some o->H' p=some o):ui H' ps rs:=
 ⟨h.l,h.nd,fun j hj=>let ⟨r,e,q⟩:=h.at_ j hj;⟨r,e,u _ _ (zao hj) q⟩⟩
theorem ui.put{H H':Hp}{ps:List zdm}{rs:List PG.Rg}(h:ui H ps rs){j:Nat}(hj:j<ps.length){r:PG.Rg}(u:aZ ps[j] H H')(e:H' ps[j]=some (.lst [.int r.1,.int r.2])):ui H' ps (rs.set j r):=by
 refine⟨by rw[zaT];exact h.l,h.nd,fun i hi=>?_⟩;have lj:j<rs.length:=by rw[<- h.l];exact hj
 by_cases z:i=j
 ·subst z;exact⟨r,by rw[zbi lj],e⟩
 ·obtain⟨r1,e1,q1⟩:=h.at_ i hi;refine⟨r1,by rw[zbo (Ne.symm z)];exact e1,u _ _ (fun y=>z ?_) q1⟩;exact(zbN h.nd).mp y
theorem ui.snoc{H:Hp}{ps:List zdm}{rs:List PG.Rg}(h:ui H ps rs){p:zdm}{r:PG.Rg}(np:p ∉ ps)(e:H p=some (.lst [.int r.1,.int r.2])):ui H (ps++[p]) (rs++[r]):=by
 refine⟨by simp[h.l],zbe.mpr ⟨h.nd,by simp,fun a ha b hb=>?_⟩,fun i hi=>?_⟩
 ·rw[zan.mp hb];exact fun z=>np (z▸ha)
 ·by_cases z:i<ps.length
  ·obtain⟨r1,e1,q1⟩:=h.at_ i z;exact⟨r1,by rw[zbJ (by rw[<- h.l];exact z)];exact e1,by rw[zbd z];exact q1⟩
  ·have:i=ps.length:=by simp at hi;lia
   subst this;exact⟨r,by rw[zbG (by rw[h.l];exact zam _),h.l];simp,by rw[zbl (zam _)];simp only[zco,zbW];exact e⟩
theorem xu.put{K:zaa}{H:Hp}{us:List V}{rs:List PG.Rg}(h:xu K H us rs){j:Nat}{v:V}{r:PG.Rg}(g:cV K H v r):xu K H (us.set j v) (rs.set j r):=by
 refine⟨by rw[zaT,zaT];exact h.1,fun i hi=>?_⟩;rw[zaT] at hi;by_cases z:j=i
 ·subst z;exact⟨r,by rw[zbi (by rw[<- h.1];exact hi)],by rw[List.getElem_set_self];exact g⟩
 ·obtain⟨r1,e1,q1⟩:=h.2 i hi;exact⟨r1,by rw[zbo z];exact e1,by rw[List.getElem_set_ne z];exact q1⟩
theorem ui.nil{H:Hp}:ui H [] []:=⟨rfl,List.nodup_nil,fun j hj=>by simp at hj⟩
theorem Be:∀rs:List PG.Rg,PyData.canLayAll0 (Dp.sS (rs.map nW))=true/\PyData.depthAll (Dp.sS (rs.map nW))<=1
 |[]=>by simp[Dp.sS,PyData.canLayAll0,PyData.depthAll]
 |r::rs=>by
  obtain⟨h1,h2⟩:=Be rs;simp only[zar,nW,Dp.sS,Dp.py,PyData.canLayAll0,PyData.depthAll,PyData.canLay0,PyData.depth,h1];exact⟨rfl,by lia⟩
theorem GY:∀ws:List (Int×List PG.Rg),PyData.canLayAll0 (Dp.sS (ws.map Bc))=true/\PyData.depthAll (Dp.sS (ws.map Bc))<=3
 |[]=>by simp[Dp.sS,PyData.canLayAll0,PyData.depthAll]
 |w::ws=>by
  obtain⟨h1,h2⟩:=GY ws;obtain⟨r1,r2⟩:=Be w.2;simp only[zar,Bc,Bb,Dp.sS,Dp.py,PyData.canLayAll0,PyData.depthAll,PyData.canLay0,PyData.depth,h1,r1];exact⟨rfl,by lia⟩
theorem LB(ws:List (Int×List PG.Rg)):SeqAt.shaped (Dp.lst (ws.map Bc)).py=true:=by
 obtain⟨h1,h2⟩:=GY ws;unfold SeqAt.shaped;rw[Dp.py,PyData.canLay0,h1,zcx,decide_eq_true_iff,PyData.depth];lia
theorem QU.UQ{bs:List PG.ck}{row:Int}{st:PG.bh}(h:QU bs row st):∃r,PG.cN st=st::r/\(∀s∈r,row<s.row/\s.row<=row+3)/\r.Pairwise (fun a b=>a.row<b.row)/\r.length<=2/\PG.ic st<=1:=by
 cases st with
 |eD k sg a b i=>
  obtain⟨rfl,_,hi⟩:=h;rcases hi with rfl |rfl
  ·exact⟨[],by simp[PG.cN,PG.ax],by simp,by simp,by simp,by simp[PG.ic,PG.dD]⟩
  ·exact⟨_,by simp[PG.cN,PG.ax];rfl,by simp[PG.bh.row];lia,by simp,by simp,by simp[PG.ic,PG.dD]⟩
 |ifs k sg a b i e=>
  obtain⟨rfl,_,hi,he⟩:=h;rcases hi with rfl |rfl<;>rcases he with rfl |rfl
  ·exact⟨[],by simp[PG.cN,PG.ax],by simp,by simp,by simp,by simp[PG.ic,PG.dD]⟩
  ·exact⟨_,by simp[PG.cN,PG.ax];rfl,by simp[PG.bh.row];lia,by simp,by simp,by simp[PG.ic,PG.dD]⟩
  ·exact⟨_,by simp[PG.cN,PG.ax];rfl,by simp[PG.bh.row];lia,by simp,by simp,by simp[PG.ic,PG.dD]⟩
  ·exact⟨[.say (k+1) (.num 1),.stop (k+3)],by simp[PG.cN,PG.ax],by simp[PG.bh.row];lia,by simp[PG.bh.row],by simp,by simp[PG.ic,PG.dD]⟩
 |_=>exact⟨[],by simp[PG.cN],by simp,by simp,by simp,by simp[PG.ic]⟩
theorem zi(bs:List PG.ck)(rs:List PG.Rg)(ws:List Int)(st:PG.bh):(PG.eF bs rs ws st).length<=2:=by
 have h:∀f,(PG.dy f (ws.zip [true,false])).length<=2:=fun f=>by
  unfold PG.dy;refine zau (List.length_filterMap_le _ _) ?_;rw[zbF];exact Nat.min_le_right _ _
 cases st<;>first |exact h _ |simp[PG.eF]
theorem zh.sub{bs:List PG.ck}:∀ {t:PM.Tr},zh bs t->∀x∈D0 t,zh bs x/\PG.dX x<=PG.dX t/\∀o l r,x=.bin o l r->S o≠"box"/\S o≠"number"
 |.num n,h,x,hx=>by
  rw[D0,zan] at hx
  ·subst hx;exact⟨h,zam _,fun o l r e=>by cases e⟩
  ·intro o l r z;cases z
 |.box n,h,x,hx=>by
  rw[D0,zan] at hx
  ·subst hx;exact⟨h,zam _,fun o l r e=>by cases e⟩
  ·intro o l r z;cases z
 |.bin o l r,h,x,hx=>by
  rw[D0,zag,zai] at hx;rcases hx with rfl |hx |hx
  ·refine⟨h,zam _,fun o' l' r' e=>?_⟩;cases e;rcases h.1 with rfl |rfl |rfl<;>exact⟨by decide +kernel,by decide +kernel⟩
  ·obtain⟨a,b,c⟩:=zh.sub h.2.1 x hx;exact⟨a,by rw[PG.dX];lia,c⟩
  ·obtain⟨a,b,c⟩:=zh.sub h.2.2 x hx;exact⟨a,by rw[PG.dX];lia,c⟩
open PySem.W
inductive Ev{α:Type}(lt:Nat->Nat->Bool)(n:Nat):KasT α->α->Prop
 |ret (a:α):Ev lt n (.ret a) a
 |ask {i j:Nat} {k:Bool->KasT α} {a:α}:i<n->j<n->i≠j->Ev lt n (k (lt i j)) a->Ev lt n (.ask i j k) a
theorem Ev.wp{α:Type}{lt:Nat->Nat->Bool}{n:Nat}{cmp:Nat->Nat->(Bool->zdw->Prop)->zdw->Prop}{s:zdw}(hc:∀i j,i<n->j<n->i≠j->∀C:Bool->zdw->Prop,C (lt i j) s->cmp i j C s){t:KasT α}{a:α}{Q:α->zdw->Prop}(e:Ev lt n t a)(q:Q a s):t.kasWp cmp Q s:=by
 induction e with
 |ret a=>exact q
 |ask hi hj hn _ ih=>exact hc _ _ hi hj hn _ (ih q)
theorem Ev.bind{α β:Type}{lt:Nat->Nat->Bool}{n:Nat}{t:KasT α}{a:α}{f:α->KasT β}{b:β}(e:Ev lt n t a)(h:Ev lt n (f a) b):Ev lt n (t.bind f) b:=by
 induction e with
 |ret a=>exact h
 |ask hi hj hn _ ih=>exact .ask hi hj hn (ih h)
section
variable{key:Nat->Int}{n:Nat}
abbrev klt (key:Nat->Int):Nat->Nat->Bool:=fun i j=>decide (key i<key j)
def kk (key:Nat->Int) (p:Array Nat) (i:Nat):Int:=key (p.getD i 0)
def Pm (n:Nat) (p:Array Nat):Prop:=p.toList.Perm (zaz n)
theorem Pm.size{p:Array Nat}(h:Pm n p):p.size=n:=by have:=List.Perm.length_eq h;simpa using this
theorem Pm.lt{p:Array Nat}(h:Pm n p){i:Nat}(hi:i<n):p.getD i 0<n:=by
 have hs:=h.size;have e:p.getD i 0=p[i]'(by lia):=by simp[zdc,show i<p.size by lia]
 rw[e];have:p[i]'(by lia)∈zaz n:=(List.Perm.mem_iff h).mp (by simp);exact zbz.mp this
theorem Pm.un{p:Array Nat}(h:Pm n p){i j:Nat}(hi:i<n)(hj:j<n)(e:i≠j):p.getD i 0≠p.getD j 0:=fun z=>e (by
 have hs:=h.size;have e1:p.getD i 0=p.toList[i]'(by simp;lia):=by simp[zdc,show i<p.size by lia]
 have e2:p.getD j 0=p.toList[j]'(by simp;lia):=by simp[zdc,show j<p.size by lia]
 rw[e1,e2] at z;have nd:p.toList.Nodup:=(List.Perm.nodup_iff h).mpr List.nodup_range;exact(zbN nd).mp z)
theorem Pm.ne{p:Array Nat}(h:Pm n p)(inj:∀i j,i<n->j<n->key i=key j->i=j){i j:Nat}(hi:i<n)(hj:j<n)(e:kk key p i=kk key p j):i=j:=by
 have:=inj _ _ (h.lt hi) (h.lt hj) e;exact Classical.byContradiction fun z=>h.un hi hj z this
theorem GZ{p:Array Nat}{m:Nat}(hm:m<=p.size)(i:Nat)(hi:i<m):kk key (kas_rev p 0 m) i=kk key p (m-1-i):=by
 have e:=getElem?_mirror_all (i:=0) hm i;unfold kk kas_rev;rw[za3,e,if_pos ⟨zaM _,hi⟩,za3,Nat.zero_add]
theorem Pm.rev{p:Array Nat}(h:Pm n p)(i j:Nat):Pm n (kas_rev p i j):=(zcy.mp (mirror_perm p i j _)).trans h
theorem Bf{p:Array Nat}(h:Pm n p):∀(f a:Nat),1<=a->a+f<=n->∃m,Ev (klt key) n (kas_asc p f a) m/\a<=m/\m<=a+f/\(∀i,a<=i->i<m->kk key p (i-1)<=kk key p i)/\(m=a+f\/kk key p m<kk key p (m-1))
 |0,a,_,_=>⟨a,.ret _,zam _,zam _,fun i h1 h2=>by lia,.inl rfl⟩
 |f+1,a,h1,h2=>by
  by_cases c:key (p.getD a 0)<key (p.getD (a-1) 0)
  ·refine⟨a,.ask (h.lt (by lia)) (h.lt (by lia)) (h.un (by lia) (by lia) (by lia)) ?_,zam _,by lia,fun i h1 h2=>by lia,.inr c⟩;rw[klt,decide_eq_true c,if_pos rfl];exact .ret _
  ·obtain⟨m,e,l1,l2,s,t⟩:=Bf h f (a+1) (by lia) (by lia);refine⟨m,.ask (h.lt (by lia)) (h.lt (by lia)) (h.un (by lia) (by lia) (by lia)) ?_,by lia,by lia,fun i h1 h2=>?_,by rcases t with t |t;exact .inl (by lia);exact .inr t⟩
   ·rw[klt,decide_eq_false c,if_neg (by decide)];exact e
   ·by_cases z:i=a
    ·subst z;exact Int.not_lt.mp c
    ·exact s i (by lia) h2
theorem CD{p:Array Nat}(h:Pm n p)(inj:∀i j,i<n->j<n->key i=key j->i=j):∀(f a:Nat),1<=a->a+f<=n->∃m,Ev (klt key) n (kas_desc f p a 0) (p,m,0)/\a<=m/\m<=a+f/\∀i,a<=i->i<m->kk key p i<kk key p (i-1)
 |0,a,_,_=>⟨a,.ret _,zam _,zam _,fun i h1 h2=>by lia⟩
 |f+1,a,h1,h2=>by
  by_cases c:key (p.getD a 0)<key (p.getD (a-1) 0)
  ·obtain⟨m,e,l1,l2,s⟩:=CD h inj f (a+1) (by lia) (by lia);refine⟨m,.ask (h.lt (by lia)) (h.lt (by lia)) (h.un (by lia) (by lia) (by lia)) ?_,by lia,by lia,fun i h1 h2=>?_⟩
   ·rw[klt,decide_eq_true c,if_pos rfl,if_neg (by decide)];exact e
   ·by_cases z:i=a
    ·subst z;exact c
    ·exact s i (by lia) h2
  ·refine⟨a,.ask (h.lt (by lia)) (h.lt (by lia)) (h.un (by lia) (by lia) (by lia)) ?_,zam _,by lia,fun i h1 h2=>by lia⟩;rw[klt,decide_eq_false c,if_neg (by decide)];refine .ask (h.lt (by lia)) (h.lt (by lia)) (h.un (by lia) (by lia) (by lia)) ?_;have d:key (p.getD (a-1) 0)<key (p.getD a 0):=by
    have:=fun z=>h.ne inj (i:=a-1) (j:=a) (by lia) (by lia) z;unfold kk at this;lia
   rw[klt,decide_eq_true d,if_pos rfl];exact .ret _
def So (key:Nat->Int) (p:Array Nat) (m:Nat):Prop:=∀i j,i<=j->j<m->kk key p i<=kk key p j
theorem sZ{p:Array Nat}{m:Nat}(h:∀i,1<=i->i<m->kk key p (i-1)<=kk key p i):So key p m:=by
 intro i j ZZ
 induction j with
 |zero=>intro _;rw[show i=0 by lia];exact zaI _
 |succ j ih=>
  intro hj;by_cases z:i=j+1
  ·rw[z];exact zaI _
  ·exact zbP (ih (by lia) (by lia)) (h (j+1) (by lia) hj)
theorem Kk{p:Array Nat}(h:Pm n p){m:Nat}(h1:1<=m)(h2:m<=n)(d:∀i,1<=i->i<m->kk key p i<kk key p (i-1)):∃r,Ev (klt key) n (kas_tail3 m n p) (r,kas_rev p 0 m)/\m<=r/\r<=n/\So key (kas_rev p 0 m) r:=by
 obtain⟨r,e,l1,l2,s,_⟩:=Bf (key:=key) (h.rev 0 m) (n-m) m h1 (by lia);have hs:=h.size;refine⟨r,e.bind (.ret _),l1,by lia,sZ fun i a b=>?_⟩;by_cases z:i<m
 ·rw[GZ (by lia) i z,GZ (by lia) (i-1) (by lia)];have:=d (m-1-(i-1)) (by lia) (by lia);rw[show m-1-(i-1)-1=m-1-i by lia] at this;exact Int.le_of_lt this
 ·exact s i (by lia) b
theorem G0{p:Array Nat}(h:Pm n p)(inj:∀i j,i<n->j<n->key i=key j->i=j)(h1:1<=n):∃m p',Ev (klt key) n (kas_count n p) (m,p')/\Pm n p'/\1<=m/\m<=n/\So key p' m:=by
 obtain⟨m,e,l1,l2,s,t⟩:=Bf (key:=key) h (n-1) 1 (zam _) (by lia);by_cases c:m=n
 ·refine⟨m,p,e.bind ?_,h,l1,by lia,sZ fun i a b=>s i a b⟩;rw[if_pos (by simp[c])];exact .ret _
 ·have t:kk key p m<kk key p (m-1):=t.resolve_left (by lia);by_cases c2:m>1
  ·have sm:So key p m:=sZ fun i a b=>s i a b;refine⟨m,p,e.bind ?_,h,l1,by lia,sm⟩;rw[if_neg (by simp[c]),if_pos c2];refine .ask (h.lt (by lia)) (h.lt (by lia)) (h.un (by lia) (by lia) (by lia)) ?_;have d:key (p.getD 0 0)<key (p.getD (m-1) 0):=by
    have a1:=sm 0 (m-1) (by lia) (by lia);have a2:=fun z=>h.ne inj (i:=0) (j:=m-1) (by lia) (by lia) z;unfold kk at a1 a2;have:key (p.getD 0 0)≠key (p.getD (m-1) 0):=fun z=>by have:=a2 z;lia
    lia
   rw[klt,decide_eq_true d,if_pos rfl];exact .ret _
  ·have em:m=1:=by lia
   subst em;obtain⟨r,e2,k1,k2,s2⟩:=CD h inj (n-2) 2 (by lia) (by lia);obtain⟨r2,e3,k3,k4,s3⟩:=Kk (key:=key) h (m:=r) (by lia) (by lia) fun i a b=>by
    by_cases z:i=1
    ·subst z;exact t
    ·exact s2 i (by lia) b
   refine⟨r2,_,e.bind ?_,h.rev 0 r,by lia,k4,s3⟩;rw[if_neg (by simp[c]),if_neg (by lia)];unfold kas_descPart;refine Ev.bind e2 ?_;rw[if_neg (by simp)];exact e3
theorem uj{p:Array Nat}(h:Pm n p){k:Nat}(hk:k<n)(so:So key p k):∀(f l r:Nat),l<=r->r<=k->r-l<=f->(∀i,i<l->kk key p i<=kk key p k)->(∀i,r<=i->i<k->kk key p k<kk key p i)->∃m,Ev (klt key) n (kas_place p k f l r) m/\m<=k/\(∀i,i<m->kk key p i<=kk key p k)/\∀i,m<=i->i<k->kk key p k<kk key p i
 |0,l,r,a,b,c,d,e=>⟨l,.ret _,by lia,d,fun i x y=>e i (by lia) y⟩
 |f+1,l,r,a,b,c,d,e=>by
  unfold kas_place;by_cases z:l ≥ r
  ·rw[if_pos z];exact⟨l,.ret _,by lia,d,fun i x y=>e i (by lia) y⟩
  ·rw[if_neg z];by_cases g:key (p.getD k 0)<key (p.getD ((l+r)/2) 0)
   ·obtain⟨m,v,w1,w2,w3⟩:=uj h hk so f l ((l+r)/2) (by lia) (by lia) (by lia) d fun i x y=>by
     have:=so ((l+r)/2) i x y;unfold kk at this ⊢;lia
    refine⟨m,.ask (h.lt hk) (h.lt (by lia)) (h.un hk (by lia) (by lia)) ?_,w1,w2,w3⟩;rw[klt,decide_eq_true g,if_pos rfl];exact v
   ·obtain⟨m,v,w1,w2,w3⟩:=uj h hk so f ((l+r)/2+1) r (by lia) b (by lia) (fun i x=>by
     have:=so i ((l+r)/2) (by lia) (by lia);unfold kk at this ⊢;lia) e
    refine⟨m,.ask (h.lt hk) (h.lt (by lia)) (h.un hk (by lia) (by lia)) ?_,w1,w2,w3⟩;rw[klt,decide_eq_false g,if_neg (by decide)];exact v
theorem G1{p:Array Nat}{k m:Nat}(hk:k<p.size)(hm:m<=k)(i:Nat):kk key (bubble p k (k-m)) i=if i=m then kk key p k else if m<i/\i<=k then kk key p (i-1) else kk key p i:=by
 have e:=getElem?_bubble hk (k-m) (by lia) i;rw[show k-(k-m)=m by lia] at e;unfold kk;rw[za3,e];by_cases c:i=m
 ·rw[if_pos c,if_pos c,za3]
 ·rw[if_neg c,if_neg c];by_cases d:m<i/\i<=k
  ·rw[if_pos d,if_pos d,za3]
  ·rw[if_neg d,if_neg d,za3]
theorem G2:∀(f k:Nat) (p:Array Nat),Pm n p->k+f=n->So key p k->∃p',Ev (klt key) n (kas_bin f p k) p'/\Pm n p'/\So key p' n
 |0,k,p,h,e,s=>⟨p,.ret _,h,by rw[<- e];exact s⟩
 |f+1,k,p,h,e,s=>by
  obtain⟨m,v,w1,w2,w3⟩:=uj h (k:=k) (by lia) s k 0 k (zaM _) (zam _) (by lia) (fun i x=>by lia) (fun i x y=>by lia);have hs:=h.size;obtain⟨p',e1,e2,e3⟩:=G2 f (k+1) (bubble p k (k-m)) ((zcy.mp (bubble_perm p k _)).trans h) (by lia) (sZ fun i a b=>by
   rw[G1 (by lia) w1,G1 (by lia) w1];have q1:=w2 (i-1);have q2:=w3 (i-1);have q3:=s (i-1) i (by lia);have q4:=s (i-1-1) (i-1) (by lia);have q5:=w2 i;split
   ·split
    ·lia
    ·split<;>lia
   ·split
    ·split
     ·lia
     ·split
      ·lia
      ·lia
    ·split
     ·lia
     ·split
      ·lia
      ·lia)
  exact⟨p',Ev.bind v e1,e2,e3⟩
theorem Kl(inj:∀i j,i<n->j<n->key i=key j->i=j)(h1:1<=n):∃p,Ev (klt key) n (kas_sort n) p/\Pm n p/\So key p n:=by
 obtain⟨m,p,e,h,l1,l2,s⟩:=G0 (key:=key) (p:=zbj (zaz n)) (show Pm n _ from by unfold Pm;exact List.Perm.refl _) inj h1;by_cases c:m<n
 ·rw[show m=max m 1 by lia] at s;obtain⟨p',e1,e2,e3⟩:=G2 (key:=key) (n-max m 1) (max m 1) p h (by lia) s;refine⟨p',Ev.bind e ?_,e2,e3⟩;rw[if_pos c];exact e1
 ·refine⟨p,Ev.bind e ?_,h,by rw[show n=m by lia];exact s⟩;rw[if_neg c];exact .ret _
end
section
variable{prog:zdy}{w:zdo}{A:zdx}{E:zdn->zdw->Prop}{s:zdw}
structure zj(h:Heap)(vs:List zdn)(ks:List Int):Prop where
 len:vs.length=ks.length
 nd:ks.Nodup
 at_:∀(i:Nat) (k:Int),ks[i]?=some k->∃p t x,vs[i]?=some (.ref p)/\h.get? p=some ({cls:=.type "tuple",data:=.seq #[.int k t,x]}:Obj)
theorem zj.mono{h h':Heap}{vs:List zdn}{ks:List Int}(T:zj h vs ks){a:zdm}{o:Obj}(ha:h.get? a=some (seqObj "list" vs.toArray n))(k:∀b o,b≠a->h.get? b=some o->h'.get? b=some o):zj h' vs ks:=⟨T.len,T.nd,fun i x e=>by
 obtain⟨p,t,y,e1,e2⟩:=T.at_ i x e;exact⟨p,t,y,e1,k p _ (fun z=>by
  subst z;rw[ha] at e2;have:=congrArg Obj.cls (zaH.inj e2);simp[seqObj] at this) e2⟩⟩
def lY (ks:List Int) (i:Nat):Int:=ks.getD i 0
theorem NG{vs:List zdn}{ks:List Int}(T:zj s.heap vs ks){i j:Nat}(hi:i<vs.length)(hj:j<vs.length)(ne:i≠j){C:Bool->zdw->Prop}(h:C (klt (lY ks) i j) s):kas_cmp prog w A (tuples' true) (pairsOf vs) i j C s:=by
 have li:i<ks.length:=by rw[<- T.len];exact hi
 have lj:j<ks.length:=by rw[<- T.len];exact hj
 obtain⟨p,t,x,e1,e2⟩:=T.at_ i _ (zab li);obtain⟨q,u,y,e3,e4⟩:=T.at_ j _ (zab lj);have k1:lY ks i=ks[i]:=by unfold lY;rw[zaf,zab li];rfl
 have k2:lY ks j=ks[j]:=by unfold lY;rw[zaf,zab lj];rfl
 have nk:ks[i]≠ks[j]:=fun z=>ne ((zbN T.nd).mp z);rw[klt,k1,k2] at h;unfold kas_cmp;rw[kas_item_eq,kas_item_eq,zaf,zaf,e1,e3];show wpAny (model prog w) A (keyLt' (tuples' true) (.ref p) (.ref q)) C (fun _ _=>False) s;refine kat_lt e2 rfl e4 rfl ?_;show KatLex prog w A true _ C [(.int ks[i] t,.int ks[j] u),(x,y)] 0 s;refine kat_cons (wpAny_eqBool_int ?_);rw[show (ks[i]==ks[j])=false from beq_eq_false_iff_ne.mpr nk];exact kat_no (oneLt_int h)
theorem G3{h:Heap}{vs:List zdn}{ks:List Int}(T:zj h vs ks):∃fs:List zdn,fs.length=ks.length/\KatTups h vs fs/\∀v∈fs,∃k t,v=Value.int k t:=by
 obtain⟨l,nd,at_⟩:=T;clear nd
 induction vs generalizing ks with
 |nil=>cases ks with
  |nil=>exact⟨[],rfl,.nil,fun v h=>by cases h⟩
  |cons _ _=>cases l
 |cons v r ih=>cases ks with
  |nil=>cases l
  |cons k m=>
   obtain⟨fs,l1,t1,q1⟩:=ih (Nat.succ.inj l) fun i x e=>at_ (i+1) x e;obtain⟨p,t,x,e1,e2⟩:=at_ 0 k rfl;cases e1;refine⟨.int k t::fs,by simp[l1],.cons e2 rfl rfl rfl t1,fun v hv=>?_⟩;rcases zag.mp hv with rfl |hv
   ·exact⟨_,_,rfl⟩
   ·exact q1 v hv
theorem Bg{a:zdm}{vs:List zdn}{ks:List Int}{n:Nat}{P:PySem.Fin->zdw->Prop}(ho:s.heap.get? a=some (seqObj "list" vs.toArray n))(T:zj s.heap vs ks)(Z0:vs.length<64)
 (h:∀p:Array Nat,Pm vs.length p->So (lY ks) p vs.length->P (.done (.ret .none)) {s with heap:=sortedHeap s.heap a vs (zbj (p.toList.map fun i=>vs.getD i Value.none))}) :
 wpAny (model prog w) A (Builtin.«list.sort» ⟨[.ref a],[]⟩) P E s:=by
 rw[list_sort_plain];have ha:a<s.heap.objs.size:=Heap.lt_size ho;refine zdp (listItems_at ho rfl ?_);refine zdp (listUpdate_at ho rfl ?_);obtain⟨e1,Xk⟩:∃e1,(s.heap.update a (Obj.mapSeq fun _=>#[])).get? a=some (seqObj "list" #[] e1):=⟨_,get?_update_seq ho (fun _=>#[])⟩
 refine zdp (seqEpoch_at Xk rfl ?_);refine zdp (wpAny_newTuple ?_);refine zdp (wpAny_newList ?_);refine zdr ?_;have QW:(((s.heap.update a (Obj.mapSeq fun _=>#[])).push (seqObj "tuple" vs.toArray 0)).push (seqObj "list" #[] 0)).get? a=some (seqObj "list" #[] e1):=by
  rw[Heap.get?_push_ne _ _ _ (by rw[size_push',Heap.size_update];exact zaw (zcB ha)),Heap.get?_push_ne _ _ _ (by rw[Heap.size_update];exact zaw ha)];exact Xk
 have T6:zj (((s.heap.update a (Obj.mapSeq fun _=>#[])).push (seqObj "tuple" vs.toArray 0)).push (seqObj "list" #[] 0)) vs ks:=T.mono (o:=seqObj "list" #[] 0) ho fun b o nb e=>by
  have jL:b<s.heap.objs.size:=Heap.lt_size e;rw[Heap.get?_push_ne _ _ _ (by rw[size_push',Heap.size_update];exact zaw (zcB jL)),Heap.get?_push_ne _ _ _ (by rw[Heap.size_update];exact zaw jL),Heap.get?_update_ne _ _ _ _ nb];exact e
 show wpAny (model prog w) A _ P E {s with heap:=((s.heap.update a (Obj.mapSeq fun _=>#[])).push (seqObj "tuple" vs.toArray 0)).push (seqObj "list" #[] 0)};dsimp only;have inj:∀i j,i<vs.length->j<vs.length->lY ks i=lY ks j->i=j:=fun i j hi hj e=>by
  have li:i<ks.length:=by rw[<- T.len];exact hi
  have lj:j<ks.length:=by rw[<- T.len];exact hj
  unfold lY at e;rw[zaf,zaf,zab li,zab lj] at e;exact(zbN T.nd).mp e
 by_cases h2:vs.toArray.size<2
 ·rw[if_pos h2,if_pos h2];refine zdp (zdq ?_);rw[StateT.run_pure];refine zdp (zdq ?_);dsimp only;refine zdp (seqEpoch_at QW rfl ?_);have hsz:vs.toArray.size=vs.length:=by simp
  have eo:(arrOf (SortSt.mk' general' (vs.toArray.zip vs.toArray) #[] 7 none)).map (·.2)=zbj ((zbj (zaz vs.length)).toList.map fun i=>vs.getD i Value.none):=by
   show (vs.toArray.zip vs.toArray).map (·.2)=_;have hl:vs.length<2:=by rw[<- hsz];exact h2
   clear h ho QW T6 inj T h2 hsz;cases vs with
   |nil=>simp
   |cons x r=>cases r with
    |nil=>simp[zbU]
    |cons y r=>simp at hl;lia
  refine zdp (listUpdate_at QW rfl ?_ (hsz2:=by rw[Array.size_map];show (pairsOf vs).size<=_;rw[pairsOf_size,sizeLine_eq];omega));simp only[bne_self_eq_false,zay,if_false];rw[eo];refine zdq (h (zbj (zaz vs.length)) (List.Perm.refl _) fun i j ZZ hj=>?_);have:i=j:=by lia
  subst this;exact zaI _
 ·rw[if_neg h2,if_neg h2];have l2:2<=vs.length:=by simp at h2;exact h2
  obtain⟨fs,lf,kt,ft⟩:=G3 T6;refine zdp (kat_kind (s:={s with heap:=((s.heap.update a (Obj.mapSeq fun _=>#[])).push (seqObj "tuple" vs.toArray 0)).push (seqObj "list" #[] 0)}) (T:=Value.type "int") kt (by rw[lf,<- T.len];lia) (fun v hv=>by obtain⟨k,t,rfl⟩:=ft v hv;exact .now) (by decide) ?_);obtain⟨p,ev,pm,so⟩:=Kl (key:=lY ks) inj (by lia);have QX:SortSt.mk' (tuples' true) (vs.toArray.zip vs.toArray) #[] 7 none=kas_st (tuples' true) (pairsOf vs) (zbj (zaz vs.length)):=by
   have e:=kas_range (pairsOf vs);rw[pairsOf_size] at e;show SortSt.mk' (tuples' true) (pairsOf vs) #[] 7 none=SortSt.mk' (tuples' true) ((zbj (zaz vs.length)).map (kas_item (pairsOf vs))) #[] 7 none;rw[e]
  have run:=kas_runs (prog:=prog) (w:=w) (A:=A) (E:=E) (κ:=tuples' true) (it:=pairsOf vs) (s:={s with heap:=((s.heap.update a (Obj.mapSeq fun _=>#[])).push (seqObj "tuple" vs.toArray 0)).push (seqObj "list" #[] 0)})
   (Q:=fun _ Ai s'=>arrOf Ai=p.map (kas_item (pairsOf vs))/\failedOf Ai=none/\s'={s with heap:=((s.heap.update a (Obj.mapSeq fun _=>#[])).push (seqObj "tuple" vs.toArray 0)).push (seqObj "list" #[] 0)})
   (G:=fun p' s'=>p'=p/\s'={s with heap:=((s.heap.update a (Obj.mapSeq fun _=>#[])).push (seqObj "tuple" vs.toArray 0)).push (seqObj "list" #[] 0)})
   l2 Z0 (fun p' Ai s' a1 a2 a3 a4=>by obtain⟨rfl,rfl⟩:=a4;exact⟨a2,a3,rfl⟩) (ev.wp (fun i j hi hj ne C hC=>NG (s:={s with heap:=((s.heap.update a (Obj.mapSeq fun _=>#[])).push (seqObj "tuple" vs.toArray 0)).push (seqObj "list" #[] 0)}) T6 hi hj ne hC) ⟨rfl,rfl⟩)
  rw[<- QX] at run;refine zdp (wpAny_mono run ?_ fun _ _ e=>e)
  rintro ⟨⟨⟩,Ai⟩ s' ⟨Z1,hf,rfl⟩
  dsimp only;have UZ:(arrOf Ai).map (·.2)=zbj (p.toList.map fun i=>vs.getD i Value.none):=by
   apply Array.toList_inj.mp
   rw[Z1,Array.map_map,Array.toList_map];exact zbS fun i _=>by show (kas_item (pairsOf vs) i).2=_;rw[kas_item_eq]
  have hsz:(zbj (p.toList.map fun i=>vs.getD i Value.none)).size=vs.length:=by rw[zat,zae,zbx,pm.size]
  rw[UZ];refine zdp (seqEpoch_at QW rfl ?_);refine zdp (listUpdate_at QW rfl ?_ (zaM _) (zau (zcI hsz) (by rw[sizeLine_eq];omega)));rw[hf];simp only[bne_self_eq_false,zay,if_false];exact zdq (h p pm so)
end
open PySem.Spec
def LC (H N:Hp):Hp:=fun b=>match N b with
 |some o=>some o
 |none=>H b
theorem xv{H N:Hp}{b:zdm}{o:HO}(h:N b=some o):LC H N b=some o:=by unfold LC;rw[h]
theorem xw{H N:Hp}{b:zdm}(h:N b=none):LC H N b=H b:=by unfold LC;rw[h]
section
variable{X:Cx}{pins:List (zdm×Obj)}{σ:St}{H N:Hp}{s:zdw}{h':Heap}
theorem kG(h:∀b o,H b=some o->N b=none):ar H (LC H N):=fun b o e=>by rw[xw (h b o e)];exact e
theorem Inv.QY{t':Nat}(I:Inv X pins σ H s)(k:∀b u,s.heap.get? b=some u->h'.get? b=some u)(hp:∀b o,N b=some o->s.heap.objs.size<=b/\dP X.prog X.w (LC H N) h' b o):Inv X pins σ (LC H N) {s with heap:=h',toks:=t' }:=by
 have nn:∀b,b<s.heap.objs.size->N b=none:=fun b hb=>by
  cases e:N b with
  |none=>rfl
  |some o=>exact absurd (hp b o e).1 (Nat.not_le.mpr hb)
 have nH:∀b o,H b=some o->N b=none:=fun b o e=>nn b (I.da.lt e);refine I.un ⟨fun b u q _ _ _=>k b u q,fun b u q _ _ _=>⟨u.slots,k b u q⟩,fun b u q n _=>by rw[xw (nn b (Heap.lt_size q))];exact n,fun b u q _=>⟨u,k b u q⟩,fun b xs q=>kG nH _ _ q,fun b u xs q=>kG nH _ _ q,fun b ps q=>⟨#[],by rw[kG nH _ _ q];simp⟩⟩ fun b u e=>?_;cases hb:N b with
 |some o=>
  rw[xv hb] at e;cases e;exact(hp b _ hb).2
 |none=>
  rw[xw hb] at e;exact(I.da b u e).yo (fun c v _ q=>k c v q) (fun c q=>kG nH _ _ q) fun c xs q=>kG nH _ _ q
end
theorem Paired.G4{α β:Type}{F:α->β->Prop}{l1:List α}{l2:List β}(r:Paired F l1 l2){i:Nat}{a:α}{b:β}(h1:l1[i]?=some a)(h2:l2[i]?=some b):F a b:=by
 induction r generalizing i with
 |nil=>cases h1
 |cons h _ ih=>
  cases i with
  |zero=>cases h1;cases h2;exact h
  |succ i=>exact ih h1 h2
theorem wD:∀l:List zdm,Vals (l.map V.ref) (l.map Value.ref)
 |[]=>.nil
 |_::r=>.cons rfl (wD r)
theorem CF{α:Type}:∀ {l:List (zdm×α)},(l.map (·.1)).Nodup->∀q∈l,l.find? (fun z=>z.1==q.1)=some q
 |a::r,nd,q,hq=>by
  rcases zag.mp hq with rfl |hq
  ·simp
  ·rw[zar,zaj] at nd;have:(a.1==q.1)=false:=beq_eq_false_iff_ne.mpr fun z=>nd.1 (zaF.mpr ⟨q,hq,z.symm⟩);rw[zbg,this];exact CF nd.2 q hq
section
variable{X:Cx}{e:Expr}{to:TE}{apos ky:Pos}
def QZ (to:TE):TE:=fun σ H Q=>to σ H fun x H1=>∃d kvs,x=.ref d/\H1 d=some (.dK kvs)/\∀p,H1 p=none->Q (.ref p) (upd H1 p (.ext (sV p d)))
theorem Ea(ho:PE X e to)(yI:attributeBase e "items" X.env (eval e X.env)=eval e X.env:=by rfl)(yJ:(apos.endLine==ky.line)=true:=by rfl):PE X (.Call (.Attribute e "items" apos) [] [] ky) (QZ to):=by
 intro pins s σ H Q I h;refine wpAny_Call_method0_late yI yJ (dw (ho pins s σ H _ I h) fun v s1 zqz=>?_);obtain⟨x,H1,I1,r1,q1⟩:=zqz;obtain⟨d,kvs,rfl,hd,q⟩:=q1;cases r1;obtain⟨z,sy,vs,rel,o,es,ep,h1,h2,h3,h4⟩:=B2 I1.da hd;refine⟨"dict", "dict.items",zcT,zcU,PySem.F.type_dict_items,⟨o,h1,h2.1⟩,fun a e2=>by cases e2;exact⟨o,h1,h2.2.1⟩,Calls.callWith_builtin rfl (PySem.evalArgs_none ?_)⟩;refine call_meetsIn zcU ⟨o,h1,h2.1⟩ PySem.F.entry_dict_items (PySem.F.args_dict_items_1 _) (zf d sy) ⟨⟨es,ep,o,h1,h2,h3⟩,?_⟩;refine⟨.ref s1.heap.objs.size,_,I1.laid (a:=s1.heap.objs.size) (o:=.ext (sV s1.heap.objs.size d)) (t':=s1.toks) (fun _ _ q=>Heap.get?_push_of_some _ q) (zam _) ⟨⟨_,Heap.get?_push_size _ rfl,rfl,rfl⟩,⟨_,Heap.get?_push_size _ rfl⟩,fun g1 g2 p1 kp=>?_⟩,rfl,q _ (I1.da.fresh (zam _))⟩;obtain⟨ob,e1,e2⟩:=p1;exact⟨ob,kp ob e1,e2⟩
end
def xx (H:Hp) (ps:List zdm) (kvs:List (Int×V)):Prop:=ps.length=kvs.length/\∀(i:Nat) (p:zdm) (kv:Int×V),ps[i]?=some p->kvs[i]?=some kv->H p=some (.tup [.int kv.1,kv.2])
def kI (kv:Int×V):Key×V:=(.inl kv.1,kv.2)
theorem xy{X:Cx}(hc:X.calm=true):lS X (.builtin "sorted") (fun xs H Q=>∃(p d:zdm) (kvs:List (Int×V)),xs=[.ref p]/\H p=some (.ext (sV p d))/\H d=some (.dK (kvs.map kI))/\kvs≠[]/\kvs.length<64/\
 ∀(l:zdm) (pj:List (Int×V)) (ps:List zdm) (H':Hp),ar H H'->H l=none->pj.Perm kvs->pj.Pairwise (fun a b=>a.1<b.1)->xx H' ps pj->H' l=some (.lst (ps.map V.ref))->Q (.ref l) H'):=by
 intro pins s σ H xs us Q I r h;obtain⟨p,d,kvs,rfl,hp,hd,Jv,hl,q⟩:=h;obtain⟨u,rfl,ru⟩:=vals1 r;cases (show u=Value.ref p from ru);obtain⟨z,sy,vs,rel,dd⟩:=B2 I.da hd;have hA:X.A.handled=none:=I.ok.hd hc;obtain⟨ep,dat⟩:=dd.dictAt;have hv:s.heap.IsItemsView p d:=(I.da p _ hp).1;have lv:vs.length=kvs.length:=by rw[<- rel.length,zae]
 have line:zdu=2 ^ 24:=rfl;refine Calls.call_function_entry kind_sorted plain_sorted entry_sorted (args_sorted1 _) ?_;unfold Builtin.«sorted»;refine zdp (m:=checkCount "sorted" 1 1 _) (zdq ?_);refine zdp (kdx_collect (A:=X.A.in1) (knd:=bX X.prog X.w) (kvs:=vs) (ep:=ep) hA hv dat (by lia) fun h' tk as kp la G=>?_);have la:as.length=kvs.length:=by rw[la,lv]
 have nd:(kvs.map (·.1)).Nodup:=by
  obtain⟨_,_,_,_,_,_,_,nd⟩:=dat;rw[<- J9 rel,zaN] at nd;have e:(kvs.map ((fun x:Key×V=>x.1) ∘ kI))=(kvs.map (·.1)).map (Sum.inl:Int->Key):=by rw[zaN];rfl
  rw[e] at nd;exact List.Pairwise.of_map (R:=(·≠·)) (S:=(·≠·)) _ (fun a b h z=>h (by rw[z])) nd
 have pairs:∀(j:Nat) (hj:j<kvs.length),∃t x,h'.get? (as[j]'(by lia))=some ({cls:=.type "tuple",data:=.seq #[.int kvs[j].1 t,x]}:Obj)/\RelV kvs[j].2 x:=fun j hj=>by
  obtain⟨key,k,x,e1,e2,e3⟩:=G.pairs j _ (zab (by lia));have hr:=Paired.G4 rel (i:=j) (a:=kI kvs[j]) (b:=(k,x)) (by rw[zah,zab hj];rfl) e1;obtain⟨h1,h2⟩:=hr;cases (show Sum.inl kvs[j].1=k from h1);rcases cZ (show rq (.inl kvs[j].1) key=true from e2) with ⟨i,t,e4,e5⟩ |⟨x,t,e4,e5⟩
  ·cases e4;subst e5;exact⟨t,x,e3,h2⟩
  ·cases e4
 have Z2:as.Nodup:=G.rise.imp zaw;have Xl:s.heap.objs.size<=h'.objs.size:=by
  have h0:0<as.length:=by
   rw[la];cases kvs with
   |nil=>exact absurd rfl Jv
   |cons _ _=>exact zcp _
  exact zbX (Nat.lt_trans (G.above _ (zao h0)) (G.there (zao h0)))
 refine zdp (wpAny_newList ?_ (by rw[zae,la];lia));have Pb:(h'.push (seqObj "list" (as.map Value.ref).toArray 0)).get? h'.objs.size=some (seqObj "list" (as.map Value.ref).toArray 0):=Heap.get?_push_size _ rfl;have T:zj (h'.push (seqObj "list" (as.map Value.ref).toArray 0)) (as.map Value.ref) (kvs.map (·.1)):=⟨by rw[zae,zae,la],nd,fun j k e=>by
  rw[zah] at e;obtain⟨kv,e1,rfl⟩:=zaC.mp e;obtain⟨hj,rfl⟩:=zal.mp e1;obtain⟨t,x,e2,_⟩:=pairs j hj;exact⟨_,t,x,by rw[zah,zab (by lia)];rfl,Heap.get?_push_of_some _ e2⟩⟩
 refine zdp (zdr (wpAny_call_entry slot_list_sort ⟨_,Pb,rfl⟩ entry_list_sort (Bg Pb T (by rw[zae,la];exact hl) fun pm Q0 so=>⟨_,rfl,?_⟩) (args_list_sort _)));rw[zae,la] at Q0 so;have Z3:=Q0.size;obtain⟨pl,Q1⟩:∃pl,pl=pm.toList:=⟨_,rfl⟩
 have NH:pl.length=kvs.length:=by rw[Q1,zbx,Z3]
 have Q2:∀i∈pl,i<kvs.length:=fun i hi=>by rw[Q1] at hi;exact zbz.mp ((List.Perm.mem_iff Q0).mp hi)
 have Km:∀(i:Nat) (hi:i<pl.length),pm.getD i 0=pl[i]:=fun i hi=>by subst Q1;simp[zdc,show i<pm.size by lia]
 have eo:(pl.map fun i=>(as.map Value.ref).getD i Value.none)=(pl.map fun i=>as.getD i 0).map Value.ref:=by
  rw[zaN];refine zbS fun i hi=>?_;have:=Q2 i hi;simp only[Function.comp,zaf,zah,zab (show i<as.length by lia)];rfl
 rw[<- Q1,eo];obtain⟨N,eN⟩:∃N:Hp,N=fun b=>if b=h'.objs.size then some (HO.lst ((pl.map fun i=>as.getD i 0).map V.ref)) else ((as.zip kvs).find? (fun z=>z.1==b)).map fun q=>HO.tup [.int q.2.1,q.2.2]:=⟨_,rfl⟩
 have Q3:(as.zip kvs).map (·.1)=as:=by rw[List.map_fst_zip (by lia)]
 have NL:N h'.objs.size=some (HO.lst ((pl.map fun i=>as.getD i 0).map V.ref)):=by rw[eN];exact if_pos rfl
 have alt:∀(j:Nat) (hj:j<as.length),as[j]<h'.objs.size:=fun j hj=>G.there (zao hj);have NA:∀(j:Nat) (hj:j<kvs.length),N (as[j]'(by lia))=some (HO.tup [.int kvs[j].1,kvs[j].2]):=fun j hj=>by
  rw[eN];simp only;rw[if_neg (zaw (alt j (by lia)))];have:=CF (l:=as.zip kvs) (by rw[Q3];exact Z2) (as[j]'(by lia),kvs[j]) (za6.mpr ⟨j,by rw[zbF];lia,by rw[List.getElem_zip]⟩);simp only at this;rw[this];rfl
 have old:∀b o,h'.get? b=some o->(sortedHeap (h'.push (seqObj "list" (as.map Value.ref).toArray 0)) h'.objs.size (as.map Value.ref) (zbj ((pl.map fun i=>as.getD i 0).map Value.ref))).get? b=some o:=fun b o e=>by
  have h2:=Heap.lt_size e;rw[sortedHeap_old (zaw h2) (by rw[size_push'];lia),Heap.get?_push_ne _ _ _ (zaw h2)];exact e
 obtain⟨O8,Z4⟩:=sortedHeap_at (out:=zbj ((pl.map fun i=>as.getD i 0).map Value.ref)) Pb;have I2:=I.QY (t':=tk) (N:=N) (fun b o e=>old b o (kp b o e)) fun b o e=>by
  by_cases hb:b=h'.objs.size
  ·subst hb;rw[NL] at e;cases e;refine⟨Xl,show dP X.prog X.w _ _ _ (.lst _) from ⟨by rw[zae,zae,NH];lia,(pl.map fun i=>as.getD i 0).map Value.ref,O8,wD _,by simpa[seqObj] using Z4⟩⟩
  ·rw[eN] at e;simp only at e;rw[if_neg hb] at e;obtain⟨z,hz,rfl⟩:=zaC.mp e;have hm:=zb6 hz;have Va:z.1=b:=by have:=zcX hz;simpa using this
   obtain⟨j,hj,ej⟩:=za6.mp hm;rw[List.getElem_zip] at ej;rw[zbF] at hj;subst ej;simp only at Va ⊢;subst Va;obtain⟨t,x,e2,e3⟩:=pairs j (by lia);exact⟨zbX (G.above _ (zao _)),show dP X.prog X.w _ _ _ (.tup _) from ⟨by simp only[zak,zaQ];lia,[.int kvs[j].1 t,x],.cons ⟨t,rfl⟩ (.cons e3 .nil),⟨_,old _ _ e2,rfl,0,rfl⟩⟩⟩
 have sH:ar H (LC H N):=kG fun b o e=>by
  have hb:=I.da.lt e;cases e2:N b with
  |none=>rfl
  |some o2=>
   rw[eN] at e2;simp only at e2;rw[if_neg (by lia)] at e2;obtain⟨z,hz,_⟩:=zaC.mp e2;have hm:=zb6 hz;have Va:z.1=b:=by have:=zcX hz;simpa using this
   have:=G.above z.1 (by have:=List.mem_map_of_mem (f:=(·.1)) hm;rw[Q3] at this;exact this);lia
 have gk:∀i∈pl,lY (kvs.map (·.1)) i=(kvs.getD i (0,.bO)).1:=fun i hi=>by
  have:=Q2 i hi;unfold lY;simp only[zaf,zah,zab this];rfl
 refine zdq ⟨_,rfl,.ref h'.objs.size,_,I2,rfl,q _ (pl.map fun i=>kvs.getD i (0,.bO)) (pl.map fun i=>as.getD i 0) _ sH (I.da.fresh Xl) ?_ ?_ ⟨by rw[zae,zae],fun i p kv e1 e2=>?_⟩ (xv NL)⟩
 ·have h1:(pl.map fun i=>kvs.getD i (0,.bO)).Perm ((zaz kvs.length).map fun i=>kvs.getD i (0,.bO)):=by rw[Q1];exact List.Perm.map _ Q0
  rw[jh (fun x=>x) (0,V.bO) kvs,zdh] at h1;exact h1
 ·rw[zbb];intro i j hi hj lt;rw[zae] at hi hj;rw[za5,za5];have h1:=so i j (zbX lt) (by lia);unfold kk at h1;rw[Km i hi,Km j hj,gk _ (zao hi),gk _ (zao hj)] at h1;have h2:pl[i]≠pl[j]:=by
   have:=Q0.un (i:=i) (j:=j) (by lia) (by lia) (zaw lt);rw[Km i hi,Km j hj] at this;exact this
  have a1:=Q2 _ (zao hi);have a2:=Q2 _ (zao hj);have h3:(kvs.getD pl[i] (0,.bO)).1≠(kvs.getD pl[j] (0,.bO)).1:=fun z=>by
   rw[zaf,zaf,zab a1,zab a2] at z;have:=(zbN nd (i:=pl[i]) (j:=pl[j]) (h₀:=by rw[zae];exact a1) (h₁:=by rw[zae];exact a2)).mp (by rw[za5,za5];exact z);exact h2 this
  lia
 ·rw[zah] at e1 e2;obtain⟨j,ej,rfl⟩:=zaC.mp e1;rw[ej] at e2;cases e2;have hj:=Q2 j (zaG ej);have:=NA j hj;simp only;rw[zaf,zaf,zab hj,zab (show j<as.length by lia)];exact xv this
open PG
open PM (W Tr)
def In (r:Rg) (v:Int):Prop:=r.1<=v/\v<=r.2
def gR (rs:List Rg) (vals:List Int):Prop:=vals.length=rs.length/\∀(i:Nat) (v:Int) (r:Rg),vals[i]?=some v->rs[i]?=some r->In r v
theorem Nx{a b x y:Int}(h1:a<=x)(h2:x<=b):min (a*y) (b*y)<=x*y/\x*y<=max (a*y) (b*y):=by
 by_cases hy:0<=y
 ·have e1:=zcq h1 hy;have e2:=zcq h2 hy;exact⟨zbP (Int.min_le_left _ _) e1,zbP e2 (Int.le_max_right _ _)⟩
 ·have hy:y<=0:=by lia
  have e1:=zcr h1 hy;have e2:=zcr h2 hy;exact⟨zbP (Int.min_le_right _ _) e2,zbP e1 (Int.le_max_left _ _)⟩
theorem NI{l r:Rg}{x y:Int}(h1:In l x)(h2:In r y):In (sj (l.1*r.1) (l.1*r.2) (l.2*r.1) (l.2*r.2),sk (l.1*r.1) (l.1*r.2) (l.2*r.1) (l.2*r.2)) (x*y):=by
 obtain⟨a1,a2⟩:=Nx (y:=y) h1.1 h1.2;obtain⟨b1,b2⟩:=Nx (y:=l.1) h2.1 h2.2;obtain⟨c1,c2⟩:=Nx (y:=l.2) h2.1 h2.2;rw[zdi r.1,zdi r.2,zdi y] at b1 b2 c1 c2;unfold In sj sk;simp only;generalize l.1*r.1=p1 at *;generalize l.1*r.2=p2 at *;generalize l.2*r.1=p3 at *;generalize l.2*r.2=p4 at *;generalize l.1*y=p5 at *;generalize l.2*y=p6 at *;generalize x*y=p7 at *
 constructor<;>lia
theorem iK{bs:List ck}{x:W}(h:x∈bs.map (·.name)):kj bs x<bs.length:=by
 unfold kj;obtain⟨b,hb,rfl⟩:=zaF.mp h;exact List.findIdx_lt_length_of_exists ⟨b,hb,by simp⟩
theorem Q4{bs:List ck}{x:W}(h:x∈bs.map (·.name)):(bs[kj bs x]'(iK h)).name=x:=by
 have:=List.findIdx_getElem (p:=fun b:ck=>decide (b.name=x)) (xs:=bs) (w:=iK h);exact of_decide_eq_true this
theorem qL{bs:List ck}{vals:List Int}{x:W}(l:vals.length=bs.length)(nb:(bs.map (·.name)).Nodup)(h:x∈bs.map (·.name)):wv bs vals (.box x)=vals.getD (kj bs x) 0:=by
 have hi:=iK h;have e:=ig bs (vals.map V.int) (by rw[zae];exact l) nb (kj bs x) hi (V.int (vals.getD (kj bs x) 0)) (by rw[zah,zaf,zab (by lia)];rfl);rw[Q4 h] at e;show JP _ x=_;unfold JP;rw[e]
theorem gR.at_{bs:List ck}{rs:List Rg}{vals:List Int}{x:W}(h:gR rs vals)(l:vals.length=bs.length)(hx:x∈bs.map (·.name)):In (eE bs rs x) (vals.getD (kj bs x) 0):=by
 have hi:=iK hx;have l2:=h.1;unfold eE;rw[zaf,zaf,zab (show kj bs x<vals.length by lia),zab (show kj bs x<rs.length by lia)];exact h.2 _ _ _ (zab (by lia)) (zab (by lia))
theorem mO{bs:List ck}{rs:List Rg}{vals:List Int}(h:gR rs vals)(l:vals.length=bs.length)(nb:(bs.map (·.name)).Nodup):∀ {t:Tr},dc bs t->In (gn (eE bs rs) t) (wv bs vals t)
 |.num n,_=>⟨zaI _,zaI _⟩
 |.box x,q=>by
  rw[qL l nb q];exact h.at_ l q
 |.bin o a b,q=>by
  have h1:=mO h l nb q.2.1;have h2:=mO h l nb q.2.2;have e:wv bs vals (.bin o a b)=if o=[43] then wv bs vals a+wv bs vals b else if o=[45] then wv bs vals a-wv bs vals b else wv bs vals a*wv bs vals b:=rfl
  rw[e,gn,GO];by_cases c:o=[43]
  ·rw[if_pos c,if_pos c];unfold In at *;simp only;lia
  ·rw[if_neg c,if_neg c];by_cases d:o=[45]
   ·rw[if_pos d,if_pos d];unfold In at *;simp only;lia
   ·rw[if_neg d,if_neg d];exact NI h1 h2
theorem CG{r:Rg}{v size:Int}(h:In r v)(hs:0<size):In (oU r size) (v%size):=by
 unfold oU;by_cases c:r.1/size=r.2/size
 ·rw[if_pos c];have q1:=Int.ediv_le_ediv hs h.1;have q2:=Int.ediv_le_ediv hs h.2;have e0:v/size=r.1/size:=by lia
  have e1:=zci r.1 size;have e2:=zci r.2 size;have e3:=zci v size;rw[<- c] at e2;rw[e0] at e3;unfold In at *;simp only;generalize size*(r.1/size)=z at *;lia
 ·rw[if_neg c];have h1:=zbh v (show size≠0 by lia);have h2:=za2 v hs;unfold In;simp only;lia
theorem zl{bs:List ck}{rs:List Rg}{vals:List Int}{x:W}{r:Rg}(h:gR rs vals)(hr:In r (vals.getD (kj bs x) 0)):gR (fX bs rs x r) vals:=by
 refine⟨by unfold fX;rw[zaT];exact h.1,fun i v q e1 e2=>?_⟩;unfold fX at e2;rw[zcD] at e2;by_cases c:kj bs x=i
 ·rw[if_pos c] at e2;have hi:=(zal.mp e1).1;rw[if_pos (by rw[<- h.1];lia)] at e2;cases e2;rw[c,zaf,e1] at hr;exact hr
 ·rw[if_neg c] at e2;exact h.2 i v q e1 e2
theorem zm{bs:List ck}{rs:List Rg}{vals:List Int}{x:W}{r:Rg}{v:Int}(h:gR rs vals)(hr:In r v):gR (fX bs rs x r) (vals.set (kj bs x) v):=by
 refine⟨by unfold fX;rw[zaT,zaT];exact h.1,fun i u q e1 e2=>?_⟩;unfold fX at e2;rw[zcD] at e1 e2;by_cases c:kj bs x=i
 ·rw[if_pos c] at e1 e2;by_cases d:kj bs x<vals.length
  ·rw[if_pos d] at e1;rw[if_pos (by rw[<- h.1];exact d)] at e2;cases e1;cases e2;exact hr
  ·rw[if_neg d] at e1;cases e1
 ·rw[if_neg c] at e1 e2;exact h.2 i u q e1 e2
theorem zo{rs:List Rg}{vals:List Int}(h:gR rs vals):rL rs=some rs:=by
 unfold rL;rw[if_neg];intro z;obtain⟨b,hb,e⟩:=zbB.mp z;obtain⟨q,hq,rfl⟩:=zaF.mp hb;obtain⟨i,hi,rfl⟩:=zby hq;have:=h.2 i (vals[i]'(by have:=h.1;lia)) rs[i] (zab _) (zab hi);have e:decide (rs[i].1>rs[i].2)=true:=e;have e:=of_decide_eq_true e;unfold In at this;lia
theorem G5{sg:W}{truth:Bool}{l r:Rg}{a b:Int}(h1:In l a)(h2:In r b)(c:cn sg a b=truth):wB (decide (sg=[60])) truth l r=true:=by
 unfold In at h1 h2;unfold cn at c;unfold wB;by_cases s:sg=[60]
 ·rw[if_pos s] at c;rw[decide_eq_true s,if_pos rfl];cases truth
  ·have:=of_decide_eq_false c;rw[if_neg (by decide)];exact decide_eq_true (by lia)
  ·have:=of_decide_eq_true c;rw[if_pos rfl];exact decide_eq_true (by lia)
 ·rw[if_neg s] at c;rw[decide_eq_false s,if_neg (by decide)];cases truth
  ·have:=of_decide_eq_false c;rw[if_neg (by decide)];by_cases x1:l.1=l.2
   ·by_cases x2:l.2=r.1
    ·have x3:¬r.1=r.2:=fun z=>this (by lia);simp[x3]
    ·simp[x2]
   ·simp[x1]
  ·have:=of_decide_eq_true c;rw[if_pos rfl];exact decide_eq_true (by lia)
theorem Kn{sg:W}{truth:Bool}{own l r:Rg}{a b:Int}(h0:In own a)(h1:In l a)(h2:In r b)(c:cn sg a b=truth):In (mL (decide (sg=[60])) truth own l r) a:=by
 unfold In at *;unfold cn at c;unfold mL;by_cases s:sg=[60]
 ·rw[if_pos s] at c;rw[decide_eq_true s,if_pos rfl];cases truth
  ·have:=of_decide_eq_false c;simp only[eZ,if_true,zay,if_false];lia
  ·have:=of_decide_eq_true c;simp only[eZ,if_true];lia
 ·rw[if_neg s] at c;rw[decide_eq_false s,if_neg (by decide)];cases truth
  ·have:=of_decide_eq_false c;simp only[pN,eZ,if_true,zay,if_false];by_cases y:r.1=r.2
   ·rw[if_pos y];simp only
    constructor
    ·split<;>lia
    ·split<;>lia
   ·rw[if_neg y];exact h0
  ·have:=of_decide_eq_true c;simp only[pN,if_true];lia
theorem Ko{sg:W}{truth:Bool}{own l r:Rg}{a b:Int}(h0:In own b)(h1:In l a)(h2:In r b)(c:cn sg a b=truth):In (mM (decide (sg=[60])) truth own l r) b:=by
 unfold In at *;unfold cn at c;unfold mM;by_cases s:sg=[60]
 ·rw[if_pos s] at c;rw[decide_eq_true s,if_pos rfl];cases truth
  ·have:=of_decide_eq_false c;simp only[eZ,if_true,zay,if_false];lia
  ·have:=of_decide_eq_true c;simp only[eZ,if_true,zay,if_false];lia
 ·rw[if_neg s] at c;rw[decide_eq_false s,if_neg (by decide)];cases truth
  ·have:=of_decide_eq_false c;simp only[pN,eZ,if_true,zay,if_false];by_cases y:l.1=l.2
   ·rw[if_pos y];simp only
    constructor
    ·split<;>lia
    ·split<;>lia
   ·rw[if_neg y];exact h0
  ·have:=of_decide_eq_true c;simp only[pN,if_true];lia
theorem Bh{bs:List ck}{rs:List Rg}{vals:List Int}{sg:W}{l r:Tr}{truth:Bool}(h:gR rs vals)(lv:vals.length=bs.length)(nb:(bs.map (·.name)).Nodup)(ol:dc bs l)(or:dc bs r)(c:cn sg (wv bs vals l) (wv bs vals r)=truth):∃uk,bR bs rs sg l r truth=some uk/\gR uk vals:=by
 have h1:=mO h lv nb ol;have h2:=mO h lv nb or;unfold bR;rw[if_pos (G5 h1 h2 c)];have hL:gR (OK bs rs (decide (sg=[60])) truth l (gn (eE bs rs) l) (gn (eE bs rs) r)) vals:=by
  cases l with
  |box x=>
   refine zl h ?_;have e:=qL lv nb ol;rw[e] at c h1;have:=Kn (h.at_ lv ol) h1 h2 c;exact this
  |num n=>exact h
  |bin o a b=>exact h
 have hR:gR (QS bs (OK bs rs (decide (sg=[60])) truth l (gn (eE bs rs) l) (gn (eE bs rs) r)) (decide (sg=[60])) truth r (gn (eE bs rs) l) (gn (eE bs rs) r)) vals:=by
  cases r with
  |box x=>
   refine zl hL ?_;have e:=qL lv nb or;rw[e] at c h2;have:=Ko (hL.at_ lv or) h1 h2 c;exact this
  |num n=>exact hL
  |bin o a b=>exact hL
 exact⟨_,zo hR,hR⟩
end L2
namespace L2
open PySem PG
open PM (W Tr)
theorem mQ(bs:List ck)(x:W):gf bs x=kj bs x:=by
 unfold gf kj;rw[List.idxOf,List.findIdx_map]
 congr 1
 funext b
 exact za0.mpr (by simp[Function.comp])
def G6 (ws:List Int):bh->Prop
 |.cg ..=>∃a,ws=[a]
 |.ifs ..=>∃a b,ws=[a,b]
 |.eD ..=>∃a b,ws=[a,b]
 |_=>0<ws.length
abbrev Eb (bs:List ck):bh->Prop:=Dz (·∈bs.map (·.name)) (fun e=>dc bs e/\dX e<=2) (·∈Ak)
theorem wF{bs:List ck}{rs:List Rg}{vals:List Int}{sg:W}{l r:Tr}{a b:Int}(h:gR rs vals)(lv:vals.length=bs.length)(nb:(bs.map (·.name)).Nodup)(ol:dc bs l)(or:dc bs r):∃q∈dy (bR bs rs sg l r) ([a,b].zip [true,false]),q.1=(if cn sg (wv bs vals l) (wv bs vals r) then a else b)/\gR q.2 vals:=by
 obtain⟨uk,e,h'⟩:=Bh (sg:=sg) (truth:=cn sg (wv bs vals l) (wv bs vals r)) h lv nb ol or rfl;refine⟨(if cn sg (wv bs vals l) (wv bs vals r) then a else b,uk),?_,rfl,h'⟩;unfold dy;rw[zbk];cases c:cn sg (wv bs vals l) (wv bs vals r) with
 |true=>rw[c] at e;exact⟨(a,true),by simp,by simp[e]⟩
 |false=>rw[c] at e;exact⟨(b,false),by simp,by simp[e]⟩
theorem CH{bs:List ck}{rs:List Rg}{vals ws:List Int}{st:bh}{fig:Int}(h:gR rs vals)(lv:vals.length=bs.length)(nb:(bs.map (·.name)).Nodup)(own:Eb bs st)(sz:∀b∈bs,0<b.size)(lw:G6 ws st){x:Int×List Int}(e:(fc bs st ws vals fig).1=some x):∃q∈eF bs rs ws st,q.1=x.1/\gR q.2 x.2:=by
 have sB:∀b∈bs.map (·.name),0<df bs b:=fun b hb=>by
  unfold df;rw[mQ,zab (iK hb)];exact sz _ (zao _)
 cases st with
 |ask k b=>
  cases e;have hs:=sB b own;refine⟨_,zan.mpr rfl,rfl,?_⟩;unfold oR;rw[mQ];refine zm h ?_;have h1:=zbh fig (show df bs b≠0 by lia);have h2:=za2 fig hs;unfold In;simp only;lia
 |put k b t=>
  cases e;have hs:=sB b own.1;refine⟨_,zan.mpr rfl,rfl,?_⟩;unfold oR;rw[mQ];exact zm h (CG (mO h lv nb own.2.1) hs)
 |say k t=>
  cases e;exact⟨_,zan.mpr rfl,rfl,h⟩
 |stop k=>
  cases e;exact⟨_,zan.mpr rfl,rfl,h⟩
 |cg k sg l r=>
  obtain⟨a,rfl⟩:=lw;have e:cb bs (.cg k sg l r) [a] vals=some x:=e;unfold cb at e;simp only[jx] at e;by_cases c:cn sg (wv bs vals l) (wv bs vals r)=true
  ·rw[if_pos c] at e;cases e;obtain⟨uk,e',h'⟩:=Bh (sg:=sg) h lv nb own.2.1.1 own.2.2.1 c;refine⟨(a,uk),?_,rfl,h'⟩;show _∈dy _ _;unfold dy;rw[zbk];exact⟨(a,true),by simp,by simp[e']⟩
  ·rw[if_neg c,if_pos (show (bh.cg k sg l r).wd=Wd.cg from rfl)] at e;cases e
 |ifs k sg l r p q=>
  obtain⟨a,b,rfl⟩:=lw;have e:cb bs (.ifs k sg l r p q) [a,b] vals=some x:=e;unfold cb at e;simp only[jx] at e;obtain⟨q,hq,e1,h'⟩:=wF (sg:=sg) (a:=a) (b:=b) h lv nb own.2.1.1 own.2.2.1.1;refine⟨q,hq,?_⟩;by_cases c:cn sg (wv bs vals l) (wv bs vals r)=true
  ·rw[if_pos c] at e e1;cases e;exact⟨e1,h'⟩
  ·rw[if_neg c,if_neg (show ¬(_:Wd)=Wd.cg from fun z=>by cases z)] at e;rw[if_neg c] at e1;cases e;exact⟨e1,h'⟩
 |eD k sg l r p=>
  obtain⟨a,b,rfl⟩:=lw;have e:cb bs (.eD k sg l r p) [a,b] vals=some x:=e;unfold cb at e;simp only[jx] at e;obtain⟨q,hq,e1,h'⟩:=wF (sg:=sg) (a:=a) (b:=b) h lv nb own.2.1.1 own.2.2.1.1;refine⟨q,hq,?_⟩;by_cases c:cn sg (wv bs vals l) (wv bs vals r)=true
  ·rw[if_pos c] at e e1;cases e;exact⟨e1,h'⟩
  ·rw[if_neg c,if_neg (show ¬(_:Wd)=Wd.cg from fun z=>by cases z)] at e;rw[if_neg c] at e1;cases e;exact⟨e1,h'⟩
def one (vals:List Int):List Rg:=vals.map fun v=>(v,v)
theorem kH(vals:List Int):gR (one vals) vals:=⟨by unfold one;rw[zae],fun i v r e1 e2=>by
 unfold one at e2;rw[zah,e1] at e2;cases e2;exact⟨zaI _,zaI _⟩⟩
theorem Bi{bs:List ck}{vals:List Int}{x:W}(l:vals.length=bs.length)(h:x∈bs.map (·.name)):eE bs (one vals) x=(vals.getD (kj bs x) 0,vals.getD (kj bs x) 0):=by
 unfold eE one;have hi:=iK h;rw[zaf,zah,zaf,zab (show kj bs x<vals.length by lia)];rfl
theorem zp{bs:List ck}{vals:List Int}(l:vals.length=bs.length)(nb:(bs.map (·.name)).Nodup):∀ {t:Tr},dc bs t->gn (eE bs (one vals)) t=(wv bs vals t,wv bs vals t)
 |.num n,_=>rfl
 |.box x,q=>by
  rw[qL l nb q];exact Bi l q
 |.bin o a b,q=>by
  have h1:=zp l nb q.2.1;have h2:=zp l nb q.2.2;have e:wv bs vals (.bin o a b)=if o=[43] then wv bs vals a+wv bs vals b else if o=[45] then wv bs vals a-wv bs vals b else wv bs vals a*wv bs vals b:=rfl
  rw[e,gn,GO,h1,h2];by_cases c:o=[43]
  ·rw[if_pos c,if_pos c]
  ·rw[if_neg c,if_neg c];by_cases d:o=[45]
   ·rw[if_pos d,if_pos d]
   ·rw[if_neg d,if_neg d];unfold sj sk;simp
theorem CI{bs:List ck}{vals:List Int}{x:W}(v:Int):fX bs (one vals) x (v,v)=one (vals.set (kj bs x) v):=by
 unfold fX one;rw[List.map_set]
theorem zr{bs:List ck}{vals:List Int}{x:W}(l:vals.length=bs.length)(h:x∈bs.map (·.name)):fX bs (one vals) x (vals.getD (kj bs x) 0,vals.getD (kj bs x) 0)=one vals:=by
 rw[CI]
 congr 1
 have hi:=iK h;rw[zaf,zab (show kj bs x<vals.length by lia)];exact List.set_getElem_self _
theorem um{bs:List ck}{vals:List Int}{sg:W}{l r:Tr}{truth:Bool}(lv:vals.length=bs.length)(nb:(bs.map (·.name)).Nodup)(WY:sg∈Ak)(ol:dc bs l)(or:dc bs r):bR bs (one vals) sg l r truth=if cn sg (wv bs vals l) (wv bs vals r)=truth then some (one vals) else none:=by
 have h1:=zp lv nb ol;have h2:=zp lv nb or;by_cases c:cn sg (wv bs vals l) (wv bs vals r)=truth
 ·rw[if_pos c];obtain⟨uk,e,h'⟩:=Bh (sg:=sg) (kH vals) lv nb ol or c;have hh:=mO (kH vals) lv nb ol;have Z5:=mO (kH vals) lv nb or;unfold bR;rw[if_pos (G5 hh Z5 c),h1,h2];have nL:∀a b:Int,cn sg a b=truth->mL (decide (sg=[60])) truth (a,a) (a,a) (b,b)=(a,a):=fun a b c=>by
   unfold cn at c;unfold mL;by_cases s:sg=[60]
   ·rw[if_pos s] at c;rw[decide_eq_true s,if_pos rfl];cases truth
    ·have:=of_decide_eq_false c;simp only[eZ,if_true,zay,if_false,Prod.mk.injEq];lia
    ·have:=of_decide_eq_true c;simp only[eZ,if_true,Prod.mk.injEq];lia
   ·rw[if_neg s] at c;rw[decide_eq_false s,if_neg (by decide)];cases truth
    ·have:=of_decide_eq_false c;simp only[pN,eZ,if_true,zay,if_false,this]
    ·have:=of_decide_eq_true c;simp only[pN,if_true,Prod.mk.injEq];lia
  have nR:∀a b:Int,cn sg a b=truth->mM (decide (sg=[60])) truth (b,b) (a,a) (b,b)=(b,b):=fun a b c=>by
   unfold cn at c;unfold mM;by_cases s:sg=[60]
   ·rw[if_pos s] at c;rw[decide_eq_true s,if_pos rfl];cases truth
    ·have:=of_decide_eq_false c;simp only[eZ,if_true,zay,if_false,Prod.mk.injEq];lia
    ·have:=of_decide_eq_true c;simp only[eZ,if_true,zay,if_false,Prod.mk.injEq];lia
   ·rw[if_neg s] at c;rw[decide_eq_false s,if_neg (by decide)];cases truth
    ·have:=of_decide_eq_false c;have:=fun z=>this (Eq.symm z);simp only[pN,eZ,if_true,zay,if_false];rw[if_neg this,if_neg this]
    ·have:=of_decide_eq_true c;simp only[pN,if_true,Prod.mk.injEq];lia
  have eL:OK bs (one vals) (decide (sg=[60])) truth l (wv bs vals l,wv bs vals l) (wv bs vals r,wv bs vals r)=one vals:=by
   cases l with
   |box x=>
    have e:=qL lv nb ol;rw[e] at c ⊢;show fX bs (one vals) x _=_;rw[Bi lv ol,nL _ _ c];exact zr lv ol
   |num n=>rfl
   |bin o a b=>rfl
  rw[eL];have eR:QS bs (one vals) (decide (sg=[60])) truth r (wv bs vals l,wv bs vals l) (wv bs vals r,wv bs vals r)=one vals:=by
   cases r with
   |box x=>
    have e:=qL lv nb or;rw[e] at c ⊢;show fX bs (one vals) x _=_;rw[Bi lv or,nR _ _ c];exact zr lv or
   |num n=>rfl
   |bin o a b=>rfl
  rw[eR];exact zo (kH vals)
 ·rw[if_neg c];unfold bR;rw[if_neg];rw[h1,h2];intro z;refine c ?_;unfold wB at z;unfold cn;by_cases s:sg=[60]
  ·rw[decide_eq_true s,if_pos rfl] at z;rw[if_pos s];cases truth
   ·rw[if_neg (by decide)] at z;have:=of_decide_eq_true z;exact decide_eq_false (by simp only at this;lia)
   ·rw[if_pos rfl] at z;have:=of_decide_eq_true z;exact decide_eq_true this
  ·rw[decide_eq_false s,if_neg (by decide)] at z;rw[if_neg s];cases truth
   ·rw[if_neg (by decide)] at z;refine decide_eq_false fun y=>?_;simp[y] at z
   ·rw[if_pos rfl] at z;have:=of_decide_eq_true z;exact decide_eq_true (by simp only at this;lia)
end L2
namespace L2
open PySem PG
open PM (W Tr)
theorem G7{bs:List ck}{vals ws:List Int}{st:bh}{fig:Int}(lv:vals.length=bs.length)(nb:(bs.map (·.name)).Nodup)(own:Eb bs st)(lw:G6 ws st)(ne:st.wd≠.ask):eF bs (one vals) ws st=match (fc bs st ws vals fig).1 with |none=>[] |some x=>[(x.1,one x.2)]:=by
 have cond:∀(sg:W) (l r:Tr) (a b:Int),sg∈Ak->dc bs l->dc bs r->dy (bR bs (one vals) sg l r) ([a,b].zip [true,false])=[(if cn sg (wv bs vals l) (wv bs vals r) then a else b,one vals)]:=fun sg l r a b hs ol or=>by
  show List.filterMap (fun w=>(bR bs (one vals) sg l r w.2).map fun q=>(w.1,q)) [(a,true),(b,false)]=_;rw[zbw,zbw,List.filterMap_nil];simp only[um lv nb hs ol or];cases c:cn sg (wv bs vals l) (wv bs vals r)<;>simp
 cases st with
 |ask k b=>exact absurd rfl ne
 |put k b t=>
  show [_]=[_];rw[zp lv nb own.2.1];unfold oU oR;rw[if_pos rfl,CI,mQ]
 |say k t=>rfl
 |stop k=>rfl
 |cg k sg l r=>
  obtain⟨a,rfl⟩:=lw;show List.filterMap (fun w=>(bR bs (one vals) sg l r w.2).map fun q=>(w.1,q)) [(a,true)]=match cb bs (.cg k sg l r) [a] vals with |none=>[] |some x=>[(x.1,one x.2)]
  rw[zbw,List.filterMap_nil];simp only[um lv nb own.1 own.2.1.1 own.2.2.1];unfold cb;simp only[jx];cases c:cn sg (wv bs vals l) (wv bs vals r) with
  |true=>simp
  |false=>
   rw[if_neg (by decide),if_neg (by decide),if_pos (show (bh.cg k sg l r).wd=Wd.cg from rfl)];rfl
 |ifs k sg l r p q=>
  obtain⟨a,b,rfl⟩:=lw;show dy _ _=match cb bs (.ifs k sg l r p q) [a,b] vals with |none=>[] |some x=>[(x.1,one x.2)]
  rw[cond sg l r a b own.1 own.2.1.1 own.2.2.1.1];unfold cb;simp only[jx];cases c:cn sg (wv bs vals l) (wv bs vals r) with
  |true=>simp
  |false=>
   rw[if_neg (by decide),if_neg (by decide),if_neg (show ¬(bh.ifs k sg l r p q).wd=Wd.cg from fun z=>by cases z)];rfl
 |eD k sg l r p=>
  obtain⟨a,b,rfl⟩:=lw;show dy _ _=match cb bs (.eD k sg l r p) [a,b] vals with |none=>[] |some x=>[(x.1,one x.2)]
  rw[cond sg l r a b own.1 own.2.1.1 own.2.2.1.1];unfold cb;simp only[jx];cases c:cn sg (wv bs vals l) (wv bs vals r) with
  |true=>simp
  |false=>
   rw[if_neg (by decide),if_neg (by decide),if_neg (show ¬(bh.eD k sg l r p).wd=Wd.cg from fun z=>by cases z)];rfl
def xA (b:ck) (r:Rg):Prop:=0<=r.1/\r.2<=b.size-1
def LD (bs:List ck) (rs:List Rg):Prop:=rs.length=bs.length/\∀(i:Nat) (r:Rg) (b:ck),rs[i]?=some r->bs[i]?=some b->xA b r
structure jz(bs:List ck)(rs:List Rg):Prop where
 bd:LD bs rs
 le:∀r∈rs,r.1<=r.2
theorem LD.at_{bs:List ck}{rs:List Rg}(h:LD bs rs){x:W}(hx:x∈bs.map (·.name)):xA (bs[kj bs x]'(iK hx)) (eE bs rs x):=by
 have hi:=iK hx;have l:=h.1;refine h.2 (kj bs x) _ _ ?_ (zab hi);unfold eE;rw[zaf,zab (show kj bs x<rs.length by lia)];rfl
theorem LD.put{bs:List ck}{rs:List Rg}(h:LD bs rs){x:W}(hx:x∈bs.map (·.name)){r:Rg}(hr:xA (bs[kj bs x]'(iK hx)) r):LD bs (fX bs rs x r):=by
 refine⟨by unfold fX;rw[zaT];exact h.1,fun i q b e1 e2=>?_⟩;unfold fX at e1;rw[zcD] at e1;by_cases c:kj bs x=i
 ·rw[if_pos c] at e1;subst c;by_cases d:kj bs x<rs.length
  ·rw[if_pos d] at e1;cases e1;rw[zab (iK hx)] at e2;cases e2;exact hr
  ·rw[if_neg d] at e1;cases e1
 ·rw[if_neg c] at e1;exact h.2 i q b e1 e2
theorem Kq{b:ck}{lt truth:Bool}{own l r:Rg}(h1:xA b own)(h2:xA b l):xA b (mL lt truth own l r):=by
 unfold xA mL pN eZ at *;cases lt<;>cases truth<;>simp only[if_true,zay,if_false]
 ·split
  ·simp only
   constructor
   ·split<;>lia
   ·split<;>lia
  ·exact h1
 ·lia
 ·lia
 ·lia
theorem Kr{b:ck}{lt truth:Bool}{own l r:Rg}(h1:xA b own)(h2:xA b r):xA b (mM lt truth own l r):=by
 unfold xA mM pN eZ at *;cases lt<;>cases truth<;>simp only[if_true,zay,if_false]
 ·split
  ·simp only
   constructor
   ·split<;>lia
   ·split<;>lia
  ·exact h1
 ·lia
 ·lia
 ·lia
theorem NJ{rs uk:List Rg}(h:rL rs=some uk):uk=rs/\∀r∈rs,r.1<=r.2:=by
 unfold rL at h;split at h
 ·cases h
 ·cases h;refine⟨rfl,fun r hr=>Classical.byContradiction fun z=>?_⟩;rename_i c;exact c (zbB.mpr ⟨true,zaF.mpr ⟨r,hr,decide_eq_true (by lia)⟩,rfl⟩)
theorem Ec{bs:List ck}{rs uk:List Rg}{sg:W}{l r:Tr}{truth:Bool}(h:LD bs rs)(ol:dc bs l)(or:dc bs r)(e:bR bs rs sg l r truth=some uk):jz bs uk:=by
 unfold bR at e;split at e
 ·obtain⟨rfl,le⟩:=NJ e;refine⟨?_,le⟩;have hL:LD bs (OK bs rs (decide (sg=[60])) truth l (gn (eE bs rs) l) (gn (eE bs rs) r)):=by
   cases l with
   |box x=>exact h.put ol (Kq (h.at_ ol) (h.at_ ol))
   |num n=>exact h
   |bin o a b=>exact h
  cases r with
  |box x=>exact hL.put or (Kr (hL.at_ or) (h.at_ or))
  |num n=>exact hL
  |bin o a b=>exact hL
 ·cases e
theorem jz.low{bs:List ck}{rs:List Rg}(h:jz bs rs):gR rs (rs.map (·.1)):=⟨zae ..,fun i v r e1 e2=>by
 rw[zah,e2] at e1;cases e1;exact⟨zaI _,h.le r (zaG e2)⟩⟩
theorem jz.put{bs:List ck}{rs:List Rg}(h:jz bs rs){x:W}(hx:x∈bs.map (·.name)){r:Rg}(hr:xA (bs[kj bs x]'(iK hx)) r)(hl:r.1<=r.2):jz bs (fX bs rs x r):=⟨h.bd.put hx hr,fun q hq=>by
 unfold fX at hq;rcases zcH hq with hq |rfl
 ·exact h.le q hq
 ·exact hl⟩
theorem zt{bs:List ck}{x:W}(hx:x∈bs.map (·.name)):df bs x=(bs[kj bs x]'(iK hx)).size:=by
 unfold df;rw[mQ,zab (iK hx)];rfl
theorem wG{bs:List ck}{rs:List Rg}{ws:List Int}{st:bh}(h:jz bs rs)(nb:(bs.map (·.name)).Nodup)(own:Eb bs st)(sz:∀b∈bs,0<b.size):∀q∈eF bs rs ws st,jz bs q.2:=by
 have cond:∀(sg:W) (l r:Tr),dc bs l->dc bs r->∀q∈dy (bR bs rs sg l r) (ws.zip [true,false]),jz bs q.2:=fun sg l r ol or q hq=>by
  unfold dy at hq;obtain⟨w,_,e⟩:=zbk.mp hq;obtain⟨uk,e1,rfl⟩:=zaC.mp e;exact Ec h.bd ol or e1
 intro q hq;cases st with
 |ask k b=>
  cases zan.mp hq;have hs:=sz _ (zao (iK own));have:=zt own;exact h.put own ⟨zaI _,by simp only;lia⟩ (by simp only;lia)
 |put k b t=>
  cases zan.mp hq;have hs:=sz _ (zao (iK own.1));have es:=zt own.1;have lv:(rs.map (·.1)).length=bs.length:=by rw[zae];exact h.bd.1
  have r1:=mO h.low lv nb own.2.1;rw[es];have r2:=CG r1 hs;refine h.put own.1 ?_ (zbP r2.1 r2.2);unfold oU xA;split
  ·simp only;have h1:=zbh (gn (eE bs rs) t).1 (show (bs[kj bs b]'(iK own.1)).size≠0 by lia);have h2:=za2 (gn (eE bs rs) t).2 hs;lia
  ·simp only;lia
 |say k t=>cases zan.mp hq;exact h
 |stop k=>cases zan.mp hq;exact h
 |cg k sg l r=>exact cond sg l r own.2.1.1 own.2.2.1 q hq
 |ifs k sg l r p q2=>exact cond sg l r own.2.1.1 own.2.2.1.1 q hq
 |eD k sg l r p=>exact cond sg l r own.2.1.1 own.2.2.1.1 q hq
theorem Paired.app{α β:Type}{F:α->β->Prop}{a1 a2:List α}{b1 b2:List β}(h1:Paired F a1 b1)(h2:Paired F a2 b2):Paired F (a1++a2) (b1++b2):=by
 induction h1 with
 |nil=>exact h2
 |cons h _ ih=>exact .cons h ih
mutual
theorem Vb:∀(s:bh) (x:Int),Paired (fun (s:bh) (f:cU)=>G6 f.2.2 s) (cN s) (eM s x)
 |.ifs k sg l r a b,x=>by
  rw[cN,eM];exact .cons ⟨_,_,rfl⟩ (L2.Paired.app (vw a x) (vw b x))
 |.eD k sg l r a,x=>by
  rw[cN,eM];exact .cons ⟨_,_,rfl⟩ (vw a k)
 |.ask k _,x=>.cons (zcp _) .nil
 |.put k _ _,x=>.cons (zcp _) .nil
 |.say k _,x=>.cons (zcp _) .nil
 |.cg k _ _ _,x=>.cons ⟨_,rfl⟩ .nil
 |.stop k,x=>.cons (zcp _) .nil
theorem vw:∀(b:List bh) (x:Int),Paired (fun (s:bh) (f:cU)=>G6 f.2.2 s) (ax b) (aF b x)
 |[],x=>.nil
 |s::r,x=>by
  rw[ax,aF];exact L2.Paired.app (Vb s _) (vw r x)
end
end L2
namespace L2
open PySem PG
open PM (W Tr)
section
variable{α β:Type}
def bU (m:List (Int×α)) (k:Int):Option α:=(m.find? fun e=>decide (e.1=k)).map (·.2)
def gS (m:List (Int×α)) (k:Int) (v:α):List (Int×α):=if (m.any fun e=>decide (e.1=k))=true then m.map (fun e=>if e.1=k then (e.1,v) else e) else m++[(k,v)]
theorem cR{p:Int×α}{r:List (Int×α)}{k:Int}(e:p.1=k):bU (p::r) k=some p.2:=by simp[bU,zbg,e]
theorem dg{p:Int×α}{r:List (Int×α)}{k:Int}(e:¬p.1=k):bU (p::r) k=bU r k:=by simp[bU,zbg,e]
theorem lE(k:Int):∀m:List (Int×α),(m.any fun e=>decide (e.1=k))=(bU m k).isSome
 |[]=>rfl
 |p::r=>by
  rw[zbv];by_cases e:p.1=k
  ·simp only[cR e,decide_eq_true e,Bool.true_or,Option.isSome_some]
  ·rw[dg e,decide_eq_false e,zcw];exact lE k r
theorem mS{m:List (Int×α)}{k:Int}(v:α)(h:bU m k=none):gS m k v=m++[(k,v)]:=by
 unfold gS;rw[lE,h];exact if_neg (by simp)
theorem kJ{m:List (Int×α)}{k:Int}{u:α}(v:α)(h:bU m k=some u):gS m k v=m.map fun e=>if e.1=k then (e.1,v) else e:=by
 unfold gS;rw[lE,h];exact if_pos rfl
theorem zu(k j:Int)(y:α):∀m:List (Int×α),bU (m.map fun e=>if e.1=k then (e.1,y) else e) j=(bU m j).map fun x=>if j=k then y else x
 |[]=>rfl
 |p::r=>by
  have ih:=zu k j y r;rw[zar];by_cases h:p.1=k
  ·rw[if_pos h];by_cases e:p.1=j
   ·rw[cR (p:=(p.1,y)) e,cR e,zaL,if_pos (e.symm.trans h)]
   ·rw[dg (p:=(p.1,y)) e,dg e,ih]
  ·rw[if_neg h];by_cases e:p.1=j
   ·rw[cR (p:=p) e,cR e,zaL,if_neg (fun z=>h (e.trans z))]
   ·rw[dg (p:=p) e,dg e,ih]
theorem zv(k j:Int)(y:α):∀m:List (Int×α),bU m k=none->bU (m++[(k,y)]) j=if j=k then some y else bU m j
 |[],_=>by
  by_cases e:k=j
  ·rw[if_pos e.symm];exact cR (p:=(k,y)) e
  ·rw[if_neg (fun z=>e z.symm)];exact dg (p:=(k,y)) e
 |p::r,hn=>by
  rw[zbA];have hk:¬p.1=k:=fun z=>by rw[cR z] at hn;cases hn
  rw[dg hk] at hn;have ih:=zv k j y r hn;by_cases e:p.1=j
  ·rw[cR e,cR e,if_neg (fun z=>hk (e.trans z))]
  ·rw[dg e,dg e,ih]
theorem pP(m:List (Int×α))(k j:Int)(y:α):bU (gS m k y) j=if j=k then some y else bU m j:=by
 cases q:bU m k with
 |none=>rw[mS y q];exact zv k j y m q
 |some u=>
  rw[kJ y q,zu];by_cases e:j=k
  ·rw[if_pos e,e,q,zaL,if_pos rfl]
  ·rw[if_neg e];cases bU m j with
   |none=>rfl
   |some x=>rw[zaL,if_neg e]
theorem get_mem{m:List (Int×α)}{k:Int}{u:α}(h:bU m k=some u):(k,u)∈m:=by
 unfold bU at h;obtain⟨e,he,rfl⟩:=zaC.mp h;have h1:=zb6 he;have h2:e.1=k:=by have:=zcX he;simpa using this
 rw[<- h2];exact h1
theorem CJ:∀ {m:List (Int×α)} {k:Int} {u:α},(m.map (·.1)).Nodup->(k,u)∈m->bU m k=some u
 |p::r,k,u,nd,h=>by
  rw[zar,zaj] at nd;rcases zag.mp h with rfl |h
  ·exact cR rfl
  ·rw[dg fun z=>nd.1 (zaF.mpr ⟨_,h,z.symm⟩)];exact CJ nd.2 h
theorem xB{m:List (Int×α)}{k:Int}{u:α}(v:α)(h:bU m k=some u):(gS m k v).map (·.1)=m.map (·.1):=by
 rw[kJ v h,zaN];refine zbS fun e _=>?_;simp only[Function.comp];split<;>rfl
theorem get_none{m:List (Int×α)}{k:Int}(h:bU m k=none):k ∉ m.map (·.1):=fun z=>by
 obtain⟨e,he,rfl⟩:=zaF.mp z;have:=lE e.1 m;rw[h] at this;simp at this;exact this e.1 e.2 he rfl
theorem NK{m:List (Int×α)}{k:Int}(v:α)(nd:(m.map (·.1)).Nodup):((gS m k v).map (·.1)).Nodup:=by
 cases q:bU m k with
 |some u=>rw[xB v q];exact nd
 |none=>
  rw[mS v q,zax,zbe];refine⟨nd,by simp,fun a ha b hb z=>get_none q ?_⟩;have e2:b=k:=by simpa using hb
  rw[z,e2] at ha;exact ha
theorem Ks{m:List (Int×α)}{k:Int}{v:α}{e:Int×α}(h:e∈gS m k v):e∈m\/e=(k,v):=by
 unfold gS at h;split at h
 ·obtain⟨x,hx,rfl⟩:=zaF.mp h;by_cases z:x.1=k
  ·rw[if_pos z,z];exact .inr rfl
  ·rw[if_neg z];exact .inl hx
 ·rcases zai.mp h with h |h
  ·exact .inl h
  ·exact .inr (zan.mp h)
def j6 (f:α->Nat) (m:List (Int×α)):Nat:=(m.map fun e=>f e.2).sum
theorem Kt{f:α->Nat}{m:List (Int×α)}{k:Int}(v:α)(h:bU m k=none):j6 f (gS m k v)=j6 f m+f v:=by
 rw[mS v h];unfold j6;rw[zax,List.sum_append];simp
theorem CK{f:α->Nat}:∀ {m:List (Int×α)} {k:Int} {u:α} (v:α),(m.map (·.1)).Nodup->bU m k=some u->j6 f (gS m k v)+f u=j6 f m+f v
 |[],k,u,v,_,h=>by cases h
 |p::r,k,u,v,nd,h=>by
  rw[kJ v h];rw[zar,zaj] at nd;by_cases e:p.1=k
  ·rw[cR e] at h;cases h;have er:(r.map fun e=>if e.1=k then (e.1,v) else e)=r:=by
    refine(zbS fun x hx=>?_).trans (zdh r);rw[if_neg fun z=>nd.1 (zaF.mpr ⟨x,hx,by rw[z,e]⟩)]
   rw[zar,if_pos e,er];unfold j6;rw[zar,zar,zbH,zbH];simp only;lia
  ·rw[dg e] at h;have ih:=CK (f:=f) v nd.2 h;rw[kJ v h] at ih;rw[zar,if_neg e];unfold j6 at ih ⊢;rw[zar,zar,zbH,zbH];lia
theorem G8{f:α->Nat}{B:Nat}:∀ {m:List (Int×α)},(∀e∈m,f e.2<=B)->j6 f m<=m.length*B
 |[],_=>by simp[j6]
 |p::r,h=>by
  have ih:=G8 (f:=f) (B:=B) (m:=r) fun e he=>h e (zad _ he);have:=h p (zav ..);unfold j6 at ih ⊢;rw[zar,zbH,zak,Nat.succ_mul];lia
theorem Paired.gS{R:Int×α->Int×β->Prop}(hR:∀a b,R a b->a.1=b.1){m:List (Int×α)}{n:List (Int×β)}{k:Int}{v:α}{u:β}(h:Paired R m n)(hv:R (k,v) (k,u)):Paired R (L2.gS m k v) (L2.gS n k u):=by
 have eg:(bU m k).isSome=(bU n k).isSome:=by
  rw[<- lE,<- lE]
  induction h with
  |nil=>rfl
  |cons a _ ih=>rw[zbv,zbv,ih,hR _ _ a]
 have mp:Paired R (m.map fun e=>if e.1=k then (e.1,v) else e) (n.map fun e=>if e.1=k then (e.1,u) else e):=by
  clear eg
  induction h with
  |nil=>exact .nil
  |cons a _ ih=>
   rename_i x y _ _ _;rw[zar,zar];refine .cons ?_ ih;by_cases e:x.1=k
   ·rw[if_pos e,if_pos (by rw[<- hR _ _ a];exact e),e,<- hR _ _ a,e];exact hv
   ·rw[if_neg e,if_neg (by rw[<- hR _ _ a];exact e)];exact a
 cases q:bU m k with
 |none=>
  have q2:bU n k=none:=by cases z:bU n k with
   |none=>rfl
   |some _=>rw[q,z] at eg;cases eg
  rw[mS v q,mS u q2];exact L2.Paired.app h (.cons hv .nil)
 |some x=>
  obtain⟨y,q2⟩:∃y,bU n k=some y:=by cases z:bU n k with
   |some y=>exact⟨y,rfl⟩
   |none=>rw[q,z] at eg;cases eg
  rw[kJ v q,kJ u q2];exact mp
theorem Paired.bU{R:Int×α->Int×β->Prop}(hR:∀a b,R a b->a.1=b.1){m:List (Int×α)}{n:List (Int×β)}(k:Int)(h:Paired R m n):(L2.bU m k=none/\L2.bU n k=none)\/∃v u,L2.bU m k=some v/\L2.bU n k=some u/\R (k,v) (k,u):=by
 induction h with
 |nil=>exact .inl ⟨rfl,rfl⟩
 |cons a _ ih=>
  rename_i x y _ _ _;have e1:=hR _ _ a;by_cases e:x.1=k
  ·refine .inr ⟨x.2,y.2,cR e,cR (by rw[<- e1];exact e),?_⟩;have e2:y.1=k:=by rw[<- e1];exact e
   have h1:(k,x.2)=x:=Prod.ext e.symm rfl;have h2:(k,y.2)=y:=Prod.ext e2.symm rfl;rw[h1,h2];exact a
  ·rw[dg e,dg (by rw[<- e1];exact e)];exact ih
end
def mT (a b:List Rg):List Rg:=(a.zip b).map fun z=>(min z.1.1 z.2.1,max z.1.2 z.2.2)
def Sub (a b:List Rg):Prop:=a.length=b.length/\∀(i:Nat) (x y:Rg),a[i]?=some x->b[i]?=some y->y.1<=x.1/\x.2<=y.2
theorem Sub.refl(a:List Rg):Sub a a:=⟨rfl,fun i x y e1 e2=>by rw[e1] at e2;cases e2;exact⟨zaI _,zaI _⟩⟩
theorem Sub.trans{a b c:List Rg}(h:Sub a b)(k:Sub b c):Sub a c:=⟨h.1.trans k.1,fun i x z e1 e3=>by
 have hi:i<b.length:=by have:=(zal.mp e1).1;rw[<- h.1];exact this
 have h1:=h.2 i x _ e1 (zab hi);have h2:=k.2 i _ z (zab hi) e3;lia⟩
theorem gR.sub{a b:List Rg}{vals:List Int}(h:gR a vals)(k:Sub a b):gR b vals:=⟨h.1.trans k.1,fun i v r e1 e2=>by
 have hi:i<a.length:=by have:=(zal.mp e2).1;rw[k.1];exact this
 have h1:=h.2 i v _ e1 (zab hi);have h2:=k.2 i _ r (zab hi) e2;unfold In at h1 ⊢;lia⟩
theorem span_len{a b:List Rg}(h:a.length=b.length):(mT a b).length=a.length:=by unfold mT;rw[zae,zbF];lia
theorem tf{a b:List Rg}{i:Nat}{z:Rg}(e:(mT a b)[i]?=some z):∃x y,a[i]?=some x/\b[i]?=some y/\z=(min x.1 y.1,max x.2 y.2):=by
 unfold mT at e;rw[zah] at e;obtain⟨q,hq,rfl⟩:=zaC.mp e;obtain⟨h1,h2⟩:=zbK.mp hq;exact⟨q.1,q.2,h1,h2,rfl⟩
theorem NM{a b:List Rg}(h:a.length=b.length):Sub a (mT a b):=⟨(span_len h).symm,fun i x z e1 e2=>by
 obtain⟨x',y',h1,h2,rfl⟩:=tf e2;rw[e1] at h1;cases h1;simp only;lia⟩
theorem NN{a b:List Rg}(h:a.length=b.length):Sub b (mT a b):=⟨by rw[span_len h,h],fun i y z e1 e2=>by
 obtain⟨x',y',h1,h2,rfl⟩:=tf e2;rw[e1] at h2;cases h2;simp only;lia⟩
theorem Ku{bs:List ck}{a b:List Rg}(ha:jz bs a)(hb:jz bs b):jz bs (mT a b):=by
 have l:a.length=b.length:=ha.bd.1.trans hb.bd.1.symm;refine⟨⟨by rw[span_len l,ha.bd.1],fun i r bx e1 e2=>?_⟩,fun r hr=>?_⟩
 ·obtain⟨x,y,h1,h2,rfl⟩:=tf e1;have:=ha.bd.2 i x bx h1 e2;have:=hb.bd.2 i y bx h2 e2;unfold xA at *;simp only;lia
 ·obtain⟨i,hi⟩:=zbr hr;obtain⟨x,y,h1,h2,rfl⟩:=tf hi;have:=ha.le x (zaG h1);simp only;lia
def Am (rs:List Rg):Nat:=(rs.map fun r=>(r.2-r.1).toNat).sum
theorem G9:∀ {a b:List Rg},Sub a b->(∀r∈a,r.1<=r.2)->(∀r∈b,r.1<=r.2)->Am a<=Am b/\(a≠b->Am a<Am b)
 |[],[],_,_,_=>⟨zam _,fun z=>absurd rfl z⟩
 |[],_::_,h,_,_=>by have:=h.1;simp at this
 |_::_,[],h,_,_=>by have:=h.1;simp at this
 |x::a,y::b,h,ha,hb=>by
  have ih:=G9 (a:=a) (b:=b) ⟨by have:=h.1;simpa using this,fun i p q e1 e2=>h.2 (i+1) p q (by simpa using e1) (by simpa using e2)⟩ (fun r hr=>ha r (zad _ hr)) (fun r hr=>hb r (zad _ hr));have h0:=h.2 0 x y rfl rfl;have hx:=ha x (zav ..);have hy:=hb y (zav ..);unfold Am at ih ⊢;rw[zar,zar,zbH,zbH];refine⟨by lia,fun ne=>?_⟩;by_cases e:a=b
  ·have:x≠y:=fun z=>ne (by rw[z,e]);have e2:¬(x.1=y.1/\x.2=y.2):=fun z=>this (Prod.ext z.1 z.2);lia
  ·have:=ih.2 e;lia
theorem Ha{B:Nat}:∀ {rs:List Rg},(∀r∈rs,(r.2-r.1).toNat<=B)->Am rs<=rs.length*B
 |[],_=>by simp[Am]
 |x::r,h=>by
  have ih:=Ha (rs:=r) fun e he=>h e (zad _ he);have:=h x (zav ..);unfold Am at ih ⊢;rw[zar,zbH,zak,Nat.succ_mul];lia
def Q5 (pr:Prog) (m:List (Int×List Rg)) (r:Int) (rs:List Rg):Prop:=∀(i:Nat) (hi:i<(ax pr.body).length) (hf:i<(aF pr.body 0).length),(ax pr.body)[i].row=r->∀q∈eF pr.av rs (aF pr.body 0)[i].2.2 (ax pr.body)[i],∃u,bU m q.1=some u/\Sub q.2 u
def OL (pr:Prog) (r:Int):Prop:=r=0\/∃s∈ax pr.body,s.row=r
structure LM(pr:Prog)(m:List (Int×List Rg))(w:List Int):Prop where
 nd:(m.map (·.1)).Nodup
 Cz:∀e∈m,jz pr.av e.2/\OL pr e.1
 first:∃u,bU m (aW pr.body 0)=some u/\Sub (one (pr.av.map (·.first))) u
 wait:∀r∈w,∃u,bU m r=some u
 many:w.length<=j6 (fun rs=>1+Am rs) m
structure LI(pr:Prog)(m:List (Int×List Rg))(w:List Int):Prop where
 lm:LM pr m w
 Ed:∀r u,bU m r=some u->r∈w\/Q5 pr m r u
structure LJ(pr:Prog)(r:Int)(rs:List Rg)(done:List (Int×List Rg))(m:List (Int×List Rg))(w:List Int):Prop where
 lm:LM pr m w
 Ed:∀r' u,r'≠r->bU m r'=some u->r'∈w\/Q5 pr m r' u
 own:r∈w\/bU m r=some rs
 Vc:∀q∈done,∃u,bU m q.1=some u/\Sub q.2 u
theorem Q5.grow{pr:Prog}{m m':List (Int×List Rg)}{r:Int}{rs:List Rg}(h:Q5 pr m r rs)(g:∀k u,bU m k=some u->∃u',bU m' k=some u'/\Sub u u'):Q5 pr m' r rs:=fun i hi hf e q hq=>by
 obtain⟨u,h1,h2⟩:=h i hi hf e q hq;obtain⟨u',h3,h4⟩:=g _ _ h1;exact⟨u',h3,h2.trans h4⟩
theorem LJ.put{pr:Prog}{r:Int}{rs:List Rg}{done m:List (Int×List Rg)}{w:List Int}(h:LJ pr r rs done m w){q:Int×List Rg}{v:List Rg}(hv:jz pr.av v)(hk:OL pr q.1)(hq:Sub q.2 v)(ho:∀u,bU m q.1=some u->Sub u v/\u≠v) :
 LJ pr r rs (done++[q]) (gS m q.1 v) (w++[q.1])/\j6 (fun rs=>1+Am rs) m<j6 (fun rs=>1+Am rs) (gS m q.1 v):=by
 have g:∀k u,bU m k=some u->∃u',bU (gS m q.1 v) k=some u'/\Sub u u':=fun k u e=>by
  rw[pP];by_cases z:k=q.1
  ·rw[if_pos z];rw[z] at e;exact⟨v,rfl,(ho u e).1⟩
  ·rw[if_neg z];exact⟨u,e,Sub.refl u⟩
 have lt:j6 (fun rs=>1+Am rs) m<j6 (fun rs=>1+Am rs) (gS m q.1 v):=by
  cases e:bU m q.1 with
  |none=>rw[Kt v e];lia
  |some u=>
   have h1:=CK (f:=fun rs=>1+Am rs) v h.lm.nd e;have h2:=(G9 (ho u e).1 (h.lm.Cz _ (get_mem e)).1.le hv.le).2 (ho u e).2;lia
 refine⟨⟨⟨NK v h.lm.nd,fun e he=>?_,?_,fun x hx=>?_,?_⟩,fun r' u ne e=>?_,?_,fun x hx=>?_⟩,lt⟩
 ·rcases Ks he with he |rfl
  ·exact h.lm.Cz e he
  ·exact⟨hv,hk⟩
 ·obtain⟨u,h1,h2⟩:=h.lm.first;obtain⟨u',h3,h4⟩:=g _ _ h1;exact⟨u',h3,h2.trans h4⟩
 ·rcases zai.mp hx with hx |hx
  ·obtain⟨u,hu⟩:=h.lm.wait x hx;obtain⟨u',h3,_⟩:=g _ _ hu;exact⟨u',h3⟩
  ·rw[zan.mp hx,pP,if_pos rfl];exact⟨v,rfl⟩
 ·have:=h.lm.many;rw[zap,zaY];lia
 ·rw[pP] at e;by_cases z:r'=q.1
  ·exact .inl (zai.mpr (.inr (by rw[z];simp)))
  ·rw[if_neg z] at e;exact(h.Ed r' u ne e).imp (fun x=>zai.mpr (.inl x)) fun c=>c.grow g
 ·by_cases z:r=q.1
  ·exact .inl (zai.mpr (.inr (by rw[z];simp)))
  ·rw[pP,if_neg z];exact h.own.imp (fun x=>zai.mpr (.inl x)) fun x=>x
 ·rcases zai.mp hx with hx |hx
  ·obtain⟨u,h1,h2⟩:=h.Vc x hx;obtain⟨u',h3,h4⟩:=g _ _ h1;exact⟨u',h3,h2.trans h4⟩
  ·rw[zan.mp hx,pP,if_pos rfl];exact⟨v,rfl,hq⟩
theorem LJ.skip{pr:Prog}{r:Int}{rs:List Rg}{done m:List (Int×List Rg)}{w:List Int}(h:LJ pr r rs done m w){q:Int×List Rg}{u:List Rg}(e:bU m q.1=some u)(s:Sub q.2 u):LJ pr r rs (done++[q]) m w:=
 ⟨h.lm,h.Ed,h.own,fun x hx=>by
  rcases zai.mp hx with hx |hx
  ·exact h.Vc x hx
  ·rw[zan.mp hx];exact⟨u,e,s⟩⟩
theorem LI.pop{pr:Prog}{m:List (Int×List Rg)}{w:List Int}{r:Int}{rs:List Rg}(h:LI pr m (w++[r]))(e:bU m r=some rs):LJ pr r rs [] m w:=
 ⟨⟨h.lm.nd,h.lm.Cz,h.lm.first,fun x hx=>h.lm.wait x (zai.mpr (.inl hx)),by have:=h.lm.many;rw[zap] at this;lia⟩,
  fun r' u ne e'=>(h.Ed r' u e').imp (fun z=>(zai.mp z).elim id fun z=>absurd (zan.mp z) ne) id,.inr e,fun q hq=>by cases hq⟩
theorem LJ.done{pr:Prog}{m:List (Int×List Rg)}{w:List Int}{r:Int}{rs:List Rg}{iW:List (Int×List Rg)}(h:LJ pr r rs iW m w)(hw:∀(i:Nat) (hi:i<(ax pr.body).length) (hf:i<(aF pr.body 0).length),(ax pr.body)[i].row=r->eF pr.av rs (aF pr.body 0)[i].2.2 (ax pr.body)[i]=iW):LI pr m w:=
 ⟨h.lm,fun r' u e=>by
  by_cases z:r'=r
  ·rcases h.own with o |o
   ·exact .inl (by rw[z];exact o)
   ·rw[z,o] at e;cases e;refine .inr fun i hi hf er q hq=>?_;rw[z] at er;rw[hw i hi hf er] at hq;exact h.Vc q hq
  ·exact h.Ed r' u z e⟩
theorem kC{bs:List ck}(sz:∀b∈bs,2<=b.size/\b.size<=10/\0<=b.first/\b.first<b.size):jz bs (one (bs.map (·.first))):=by
 refine⟨⟨by unfold one;rw[zae,zae],fun i r b e1 e2=>?_⟩,fun r hr=>?_⟩
 ·unfold one at e1;rw[zah,zah,e2] at e1;cases e1;have:=sz b (zaG e2);unfold xA;simp only;lia
 ·unfold one at hr;obtain⟨v,_,rfl⟩:=zaF.mp hr;exact zaI _
theorem LI.one{pr:Prog}(sz:∀b∈pr.av,2<=b.size/\b.size<=10/\0<=b.first/\b.first<b.size)(hk:OL pr (aW pr.body 0)):LI pr [(aW pr.body 0,L2.one (pr.av.map (·.first)))] [aW pr.body 0]:=
 ⟨⟨by simp,fun e he=>by rw[zan.mp he];exact⟨kC sz,hk⟩,⟨_,cR rfl,Sub.refl _⟩,fun r hr=>⟨_,cR (zan.mp hr).symm⟩,by simp[j6]⟩,fun r u e=>by
  by_cases z:aW pr.body 0=r
  ·exact .inl (by rw[z];simp)
  ·rw[dg z] at e;cases e⟩
theorem LM.i3{pr:Prog}{m:List (Int×List Rg)}{w:List Int}(h:LM pr m w)(i3:pr.av.length<=4)(sz:∀b∈pr.av,2<=b.size/\b.size<=10/\0<=b.first/\b.first<b.size):m.length<=(ax pr.body).length+1/\j6 (fun rs=>1+Am rs) m<=((ax pr.body).length+1)*37:=by
 have l:m.length<=(ax pr.body).length+1:=by
  have:=wu (m.map (·.1)) (0::(ax pr.body).map (·.row)) h.nd fun x hx=>by
   obtain⟨e,he,rfl⟩:=zaF.mp hx;rcases(h.Cz e he).2 with z |⟨s,hs,e2⟩
   ·rw[z];simp
   ·exact zad _ (zaF.mpr ⟨s,hs,e2⟩)
  simpa using this
 refine⟨l,zau (G8 (B:=37) fun e he=>?_) (zb2 _ l)⟩;have hr:=(h.Cz e he).1;have:=Ha (B:=9) (rs:=e.2) fun r vh=>by
  obtain⟨i,hi⟩:=zbr vh;have jL:i<pr.av.length:=by have:=(zal.mp hi).1;rw[hr.bd.1] at this;exact this
  have h1:=hr.bd.2 i r _ hi (zab jL);have h2:=sz _ (zao jL);unfold xA at h1;lia
 have l2:e.2.length=pr.av.length:=hr.bd.1;have:e.2.length*9<=4*9:=zb2 _ (by lia);lia
end L2
namespace PG
open PM (W Tr)
inductive gD where
 |eD (k:Int) (sg:W) (l r:Tr)
 |if1 (k:Int) (sg:W) (l r:Tr)
 |if2 (k:Int) (sg:W) (l r:Tr) (a:List bh)
def gD.fill:gD->List bh->bh
 |.eD k sg l r,b=>.eD k sg l r b
 |.if1 k sg l r,b=>.ifs k sg l r b []
 |.if2 k sg l r a,b=>.ifs k sg l r a b
def cw:List (List bh×gD)->List bh->List bh
 |[],b=>b
 |(s,h)::o,b=>cw o (s++[h.fill b])
def cK (b:List bh):List Int:=(ax b).map (·.row)
theorem uo:∀a b:List bh,ax (a++b)=ax a++ax b
 |[],b=>by simp[ax]
 |s::r,b=>by
  show ax (s::(r++b))=_;rw[ax,ax,uo r b,zbf]
theorem kK(a b:List bh):cK (a++b)=cK a++cK b:=by unfold cK;rw[uo,zax]
theorem Ee(h:gD)(a b:List bh):cK [h.fill (a++b)]=cK [h.fill a]++cK b:=by
 cases h<;>simp[gD.fill,cK,ax,cN,uo,bh.row]
theorem ur:∀(o:List (List bh×gD)) (a b:List bh),cK (cw o (a++b))=cK (cw o a)++cK b
 |[],a,b=>kK a b
 |(s,h)::o,a,b=>by
  rw[cw,cw];have gen:∀(o:List (List bh×gD)) (x y:List bh) (c:List Int),cK x=cK y++c->cK (cw o x)=cK (cw o y)++c:=by
   intro o
   induction o with
   |nil=>exact fun x y c h=>h
   |cons q o ih=>
    intro x y c e;obtain⟨s,h⟩:=q;rw[cw,cw];refine ih _ _ _ ?_;rw[kK,kK,zbf]
    congr 1
    cases h<;>simp only[gD.fill,cK,ax,cN,zba,zar,zax]<;>(unfold cK at e;rw[e];simp[bh.row])
  refine gen o _ _ _ ?_;rw[kK,kK,zbf,Ee]
section
variable{nm:W->Prop}{ex:Tr->Prop}{sg:W->Prop}
theorem xC:∀ {a b:List bh},xn nm ex sg (a++b)↔xn nm ex sg a/\xn nm ex sg b
 |[],b=>by simp[xn]
 |s::r,b=>by
  show xn nm ex sg (s::(r++b))↔_;rw[xn,xn,xC (a:=r),and_assoc]
theorem zw:∀ {o:List (List bh×gD)} {a b:List bh},xn nm ex sg (cw o a)->(xn nm ex sg a->xn nm ex sg b)->xn nm ex sg (cw o b)
 |[],a,b,h,k=>k h
 |(s,h)::o,a,b,q,k=>by
  rw[cw] at q ⊢;refine zw q fun z=>?_;rw[xC] at z ⊢;refine⟨z.1,?_⟩;have z2:=z.2;cases h with
  |eD k1 SA l r=>exact⟨⟨z2.1.1,z2.1.2.1,z2.1.2.2.1,k z2.1.2.2.2⟩,trivial⟩
  |if1 k1 SA l r=>exact⟨⟨z2.1.1,z2.1.2.1,z2.1.2.2.1,k z2.1.2.2.2.1,z2.1.2.2.2.2⟩,trivial⟩
  |if2 k1 SA l r a1=>exact⟨⟨z2.1.1,z2.1.2.1,z2.1.2.2.1,z2.1.2.2.2.1,k z2.1.2.2.2.2⟩,trivial⟩
end
theorem wH:∀(o:List (List bh×gD)) {x y:List bh} {m:Nat},dD x<=max (dD y) m->dD (cw o x)<=max (dD (cw o y)) (m+o.length)
 |[],x,y,m,h=>h
 |(s,h)::o,x,y,m,q=>by
  rw[cw,cw];have:=wH o (x:=s++[h.fill x]) (y:=s++[h.fill y]) (m:=m+1) (by
   rw[pJ,pJ,tV,tV];cases h<;>simp only[gD.fill,ic,dD]<;>lia)
  rw[zak];lia
theorem uv:∀ {l:List Int} {a b:Int},l.Pairwise (· < ·)->(∀x∈l,a<x/\x<=b)->(l.length:Int)<=max 0 (b-a)
 |[],a,b,_,_=>by simp;lia
 |x::r,a,b,p,h=>by
  rw[za1] at p;have h1:=h x (zav ..);have:=uv (a:=x) (b:=b) p.2 fun y hy=>⟨p.1 y hy,(h y (zad _ hy)).2⟩
  rw[zak];lia
structure IE(nm:W->Prop)(ex:Tr->Prop)(sg:W->Prop)(r0 row:Int)(body:List bh):Prop where
 ok:xn nm ex sg body
 rise:(cK body).Pairwise (· < ·)
 rows:∀x∈cK body,r0<x/\x<=row
 dep:dD body<=4
 le:r0<=row
theorem IE.nil{nm:W->Prop}{ex:Tr->Prop}{sg:W->Prop}{r0:Int}:IE nm ex sg r0 r0 []:=⟨trivial,by simp[cK,ax],by simp[cK,ax],by simp[dD],zaI _⟩
theorem IE.more{nm:W->Prop}{ex:Tr->Prop}{sg:W->Prop}{r0 row:Int}{body:List bh}(h:IE nm ex sg r0 row body):IE nm ex sg r0 (row+1) body:=
 ⟨h.ok,h.rise,fun x hx=>⟨(h.rows x hx).1,by have:=(h.rows x hx).2;lia⟩,h.dep,by have:=h.le;lia⟩
theorem IE.add{nm:W->Prop}{ex:Tr->Prop}{sg:W->Prop}{r0 row:Int}{o:List (List bh×gD)}{cur:List bh}{st:bh}(h:IE nm ex sg r0 row (cw o cur))(hs:Dz nm ex sg st)(hr:cK [st]=[row+1])(hd:ic st+o.length<=4):IE nm ex sg r0 (row+1) (cw o (cur++[st])):=by
 have e:cK (cw o (cur++[st]))=cK (cw o cur)++[row+1]:=by rw[ur,hr]
 refine⟨zw h.ok fun z=>xC.mpr ⟨z,hs,trivial⟩,?_,?_,?_,by have:=h.le;lia⟩
 ·rw[e,zbq];refine⟨h.rise,by simp,fun a ha b hb=>?_⟩;rw[zan.mp hb];have:=(h.rows a ha).2;lia
 ·intro x hx;rw[e] at hx;have:=h.le;rcases zai.mp hx with hx |hx
  ·have:=h.rows x hx;lia
  ·rw[zan.mp hx];lia
 ·have:=wH o (x:=cur++[st]) (y:=cur) (m:=ic st) (by rw[pJ,tV];lia);have:=h.dep;lia
theorem Bj{st:bh}(h:∀k s l r a b,st≠.ifs k s l r a b)(h2:∀k s l r a,st≠.eD k s l r a):cK [st]=[st.row]/\ic st=0:=by
 cases st with
 |ifs k s l r a b=>exact absurd rfl (h _ _ _ _ _ _)
 |eD k s l r a=>exact absurd rfl (h2 _ _ _ _ _)
 |_=>exact⟨by simp[cK,ax,cN],by simp[ic]⟩
theorem zx(h:gD)(e:∀k sg l r a,h=.if2 k sg l r a->a=[]):ic (h.fill [])=1/\cK [h.fill []]=[(h.fill []).row]:=by
 cases h with
 |if2 k sg l r a=>cases e _ _ _ _ _ rfl;exact⟨by simp[gD.fill,ic,dD],by simp[gD.fill,cK,ax,cN]⟩
 |_=>exact⟨by simp[gD.fill,ic,dD],by simp[gD.fill,cK,ax,cN]⟩
end PG
namespace L2
open PySem PyProof.Rows
section
variable{K:zaa}{D D' O:zdm->Prop}{H0 H H1:Hp}{d:Dp}{v:V}{s p:zdm}
theorem Fix.grow(f:Fix K D H d v)(h:∀a,D' a->D a\/H a=none):Fix K D' H d v:=fun H2 u=>f H2 fun b o n e=>u b o (fun z=>(h b z).elim n fun z=>by rw[z] at e;cases e) e
theorem dv.grow{ds:List Dp}{vs:List V}(f:dv K D H ds vs)(h:∀a,D' a->D a\/H a=none):dv K D' H ds vs:=fun H2 u=>f H2 fun b o n e=>u b o (fun z=>(h b z).elim n fun z=>by rw[z] at e;cases e) e
theorem Own.tup{ds:List Dp}{vs:List V}(h:oO K H0 H ds vs)(dm:∀b,H0 b≠none->H b≠none)(hp:H p=none):Own K H0 (upd H p (.tup vs)) (.tup ds) (.ref p):=fun O hO=>Fix.tup aq (fun z=>dm p (hO p z) hp) ((h O hO).up (.of (ar.new hp _)))
theorem rM.nn(h:rM H s):H s≠none:=let ⟨_,_,e⟩:=h;by rw[e];simp
theorem ar.jQ(h:ar H H1):∀b,H b≠none->H1 b≠none:=fun b hb=>by
 cases z:H b with
 |none=>exact absurd z hb
 |some o=>rw[h b o z];simp
end
structure Z6(bs:List PG.ck):Prop where
 nb:(bs.map (·.name)).Nodup
 i3:bs.length<=4
 size:∀b∈bs,2<=b.size/\b.size<=10/\0<=b.first/\b.first<b.size
abbrev zy (bs:List PG.ck) (e:PM.Tr):Prop:=PG.dc bs e/\PG.dX e<=2
def Plain:PG.bh->Prop
 |.ifs ..=>False
 |.eD ..=>False
 |_=>True
theorem Plain.rows{st:PG.bh}(h:Plain st):PG.cK [st]=[st.row]/\PG.ic st=0:=PG.Bj (fun _ _ _ _ _ _ z=>by rw[z] at h;exact h) (fun _ _ _ _ _ z=>by rw[z] at h;exact h)
abbrev Xm (bs:List PG.ck):Int->Int->List PG.bh->Prop:=PG.IE (·∈bs.map (·.name)) (zy bs) (·∈PG.Ak)
section
variable(K:zaa)
def Hc:Sp:=fun vs H Q _=>∃(a:zdm) (ns:List Int) (k:Nat),vs=[.ref a,.int k]/\fF K H a (ns.map V.int)/\ns.length<=63/\k<=63/\∀s H',ar H H'->H s=none->rM H' s->Q (.ref s) H'
def Hd:Sp:=fun vs H Q _=>∃(a:zdm) (ns:List Int),vs=[.ref a]/\fF K H a (ns.map V.int)/\ns.length<=63/\∀B bs H',ar H H'->H B=none->Rep K H' (.lst (bs.map ju)) (.ref B)->Z6 bs->Q (.ref B) H'
def Kv:Sp:=fun vs H Q _=>∃(s B:zdm) (bs:List PG.ck),vs=[.ref s,.ref B]/\rM H s/\iJ K (·=s) H B bs/\∀v t H',aZ s H H'->rM H' s->Own K H H' (jN t) v->PG.dc bs t->PG.dX t<=0->Q v H'
def Vd:Sp:=fun vs H Q _=>∃(s B:zdm) (bs:List PG.ck),vs=[.ref s,.ref B]/\rM H s/\iJ K (·=s) H B bs/\∀v t H',aZ s H H'->rM H' s->Own K H H' (jN t) v->zy bs t->Q v H'
def He:Sp:=fun vs H Q _=>∃(s B:zdm) (bs:List PG.ck) (row:Int),vs=[.ref s,.ref B,.int row]/\rM H s/\iJ K (·=s) H B bs/\∀v st H',aZ s H H'->rM H' s->Own K H H' (dY st) v->Eb bs st->Plain st->st.row=row->Q v H'
def Kw:Sp:=fun vs H Q _=>∃(a B:zdm) (ns:List Int) (bs:List PG.ck),vs=[.ref a,.ref B]/\fF K H a (ns.map V.int)/\ns.length<=63/\Rep K H (.lst (bs.map ju)) (.ref B)/\bs.length<=4/\
 ∀R (body:List PG.bh) H',ar H H'->H R=none->Rep K H' (.lst (body.map dY)) (.ref R)->Xm bs bs.length (bs.length+25) body->Q (.ref R) H'
end
section
variable(K:zaa)(D:zdm->Prop)(H:Hp)
inductive i6:List (List PG.bh×PG.gD)->zdm->List zdm->List V->Prop
 |root {p:zdm}:i6 [] p [] [.bO]
 |eD {o yi k sg l r p q c ps ss vs vl vr}:H q=some (.lst (vs++[.ref c]))->dv K D H (yi.map dY) vs->¬D c->H c=some (.tup [.str "while",.int k,.str (S sg),vl,vr,.ref p])->Fix K D H (jN l) vl->Fix K D H (jN r) vr->i6 o q ps ss->i6 ((yi,.eD k sg l r)::o) p (q::ps) (.bO::ss)
 |if1 {o yi k sg l r p q c b ps ss vs vl vr}:H q=some (.lst (vs++[.ref c]))->dv K D H (yi.map dY) vs->¬D c->H c=some (.tup [.str "if",.int k,.str (S sg),vl,vr,.ref p,.ref b])->Fix K D H (jN l) vl->Fix K D H (jN r) vr->H b=some (.lst [])->i6 o q ps ss->i6 ((yi,.if1 k sg l r)::o) p (q::ps) (.ref b::ss)
 |if2 {o yi k sg l r a p q c va ps ss vs vl vr}:H q=some (.lst (vs++[.ref c]))->dv K D H (yi.map dY) vs->¬D c->H c=some (.tup [.str "if",.int k,.str (S sg),vl,vr,va,.ref p])->Fix K D H (jN l) vl->Fix K D H (jN r) vr->Fix K D H (.lst (a.map dY)) va->i6 o q ps ss->i6 ((yi,.if2 k sg l r a)::o) p (q::ps) (.bO::ss)
end
section
variable{K:zaa}{D D':zdm->Prop}{H H1:Hp}{o:List (List PG.bh×PG.gD)}{p:zdm}{ps:List zdm}{ss:List V}
theorem i6.len(h:i6 K D H o p ps ss):ps.length=o.length/\ss.length=o.length+1:=by
 induction h with
 |root=>exact⟨rfl,rfl⟩
 |eD _ _ _ _ _ _ _ ih=>exact⟨by rw[zak,zak,ih.1],by rw[zak,zak,ih.2]⟩
 |if1 _ _ _ _ _ _ _ _ ih=>exact⟨by rw[zak,zak,ih.1],by rw[zak,zak,ih.2]⟩
 |if2 _ _ _ _ _ _ _ _ ih=>exact⟨by rw[zak,zak,ih.1],by rw[zak,zak,ih.2]⟩
theorem i6.up(h:i6 K D H o p ps ss)(u:aU D H H1)(h1:∀q∈ps,H1 q=H q)(h2:∀b,V.ref b∈ss->H1 b=H b):i6 K D H1 o p ps ss:=by
 induction h with
 |root=>exact .root
 |eD a b c d e f g ih=>exact .eD (by rw[h1 _ (zav ..)];exact a) (b.up u) c (u _ _ c d) (e.up u) (f.up u) (ih (fun q hq=>h1 q (zad _ hq)) fun b hb=>h2 b (zad _ hb))
 |if1 a b c d e f x g ih=>exact .if1 (by rw[h1 _ (zav ..)];exact a) (b.up u) c (u _ _ c d) (e.up u) (f.up u) (by rw[h2 _ (zav ..)];exact x) (ih (fun q hq=>h1 q (zad _ hq)) fun b hb=>h2 b (zad _ hb))
 |if2 a b c d e f x g ih=>exact .if2 (by rw[h1 _ (zav ..)];exact a) (b.up u) c (u _ _ c d) (e.up u) (f.up u) (x.up u) (ih (fun q hq=>h1 q (zad _ hq)) fun b hb=>h2 b (zad _ hb))
theorem i6.grow(h:i6 K D H o p ps ss)(g:∀a,D' a->D a\/H a=none):i6 K D' H o p ps ss:=by
 have nc:∀ {c:zdm} {u:HO},¬D c->H c=some u->¬D' c:=fun n e z=>(g _ z).elim n fun z=>by rw[z] at e;cases e
 induction h with
 |root=>exact .root
 |eD a b c d e f _ ih=>exact .eD a (b.grow g) (nc c d) d (e.grow g) (f.grow g) ih
 |if1 a b c d e f x _ ih=>exact .if1 a (b.grow g) (nc c d) d (e.grow g) (f.grow g) x ih
 |if2 a b c d e f x _ ih=>exact .if2 a (b.grow g) (nc c d) d (e.grow g) (f.grow g) (x.grow g) ih
theorem i6.jQ(h:i6 K D H o p ps ss):(∀q∈ps,H q≠none)/\∀b,V.ref b∈ss->H b≠none:=by
 have nn:∀ {q:zdm} {u:HO},H q=some u->H q≠none:=fun e z=>by rw[e] at z;cases z
 induction h with
 |root=>exact⟨fun q hq=>(by cases hq),fun b hb=>(by simp at hb)⟩
 |eD a _ _ _ _ _ _ ih=>exact⟨fun q hq=>(zag.mp hq).elim (fun e=>e▸nn a) (ih.1 q),fun b hb=>(zag.mp hb).elim (fun e=>by cases e) (ih.2 b)⟩
 |if1 a _ _ _ _ _ x _ ih=>exact⟨fun q hq=>(zag.mp hq).elim (fun e=>e▸nn a) (ih.1 q),fun b hb=>(zag.mp hb).elim (fun e=>by cases e;exact nn x) (ih.2 b)⟩
 |if2 a _ _ _ _ _ _ _ ih=>exact⟨fun q hq=>(zag.mp hq).elim (fun e=>e▸nn a) (ih.1 q),fun b hb=>(zag.mp hb).elim (fun e=>by cases e) (ih.2 b)⟩
theorem i6.same(h:i6 K D H o p ps ss)(s:ar H H1):i6 K D H1 o p ps ss:=by
 have e:∀ {q:zdm},H q≠none->H1 q=H q:=fun {q} n=>by
  cases z:H q with
  |none=>exact absurd z n
  |some u=>exact s _ _ z
 exact h.up (.of s) (fun q hq=>e (h.jQ.1 q hq)) fun b hb=>e (h.jQ.2 b hb)
def rootOf (p:zdm):List zdm->zdm
 |[]=>p
 |q::ps=>rootOf q ps
theorem i6.close(h:i6 K D H o p ps ss):∀ {cur:List PG.bh} {vs:List V},H p=some (.lst vs)->aN K H (cur.map dY) vs->Rep K H (.lst ((PG.cw o cur).map dY)) (.ref (rootOf p ps)):=by
 induction h with
 |root=>
  intro cur vs h1 h2;exact Rep.bE.mpr ⟨_,vs,rfl,.of h1,h2⟩
 |eD a b c d e f g ih=>
  intro cur vs h1 h2;rw[PG.cw,rootOf];refine ih a ?_;rw[zax];refine b.AR.append (.cons ?_ .nil);unfold PG.gD.fill dY;rw[cy];exact Rep.a0.mpr ⟨_,_,rfl,.of d,.cons (Rep.br.mpr rfl) (.cons (Rep.bg.mpr rfl) (.cons (Rep.br.mpr rfl) (.cons e.rep (.cons f.rep (.cons (Rep.bE.mpr ⟨_,vs,rfl,.of h1,h2⟩) .nil)))))⟩
 |if1 a b c d e f x g ih=>
  intro cur vs h1 h2;rw[PG.cw,rootOf];refine ih a ?_;rw[zax];refine b.AR.append (.cons ?_ .nil);unfold PG.gD.fill dY;rw[cy,cy];exact Rep.a0.mpr ⟨_,_,rfl,.of d,.cons (Rep.br.mpr rfl) (.cons (Rep.bg.mpr rfl) (.cons (Rep.br.mpr rfl) (.cons e.rep (.cons f.rep (.cons (Rep.bE.mpr ⟨_,vs,rfl,.of h1,h2⟩) (.cons (Rep.bE.mpr ⟨_,[],rfl,.of x,.nil⟩) .nil))))))⟩
 |if2 a b c d e f x g ih=>
  intro cur vs h1 h2;rw[PG.cw,rootOf];refine ih a ?_;rw[zax];refine b.AR.append (.cons ?_ .nil);unfold PG.gD.fill dY;rw[cy,cy];exact Rep.a0.mpr ⟨_,_,rfl,.of d,.cons (Rep.br.mpr rfl) (.cons (Rep.bg.mpr rfl) (.cons (Rep.br.mpr rfl) (.cons e.rep (.cons f.rep (.cons x.rep (.cons (Rep.bE.mpr ⟨_,vs,rfl,.of h1,h2⟩) .nil))))))⟩
end
theorem Hf{ta:TA}{g:TG}{tb:TS}{D:Ends}{σ:St}{H:Hp} (h:∀U:Int->Int->Hp->Prop,(∀i0 j H1,(∃W:Nat->Nat->St->Hp->Prop,(∃m,W 0 m σ H1)/\∀i m σ H,W i m σ H->
 ((yv i0 (j-i0).toNat).stop i H/\D.nx σ H)\/((yv i0 (j-i0).toNat).go i H/\∃N:St->Hp->Prop,(∀σ' H',N σ' H'->∃m',m'<m/\W (i+1) m' σ' H')/\∀x H',(yv i0 (j-i0).toNat).wZ i H x H'->g x σ H' fun σ2 H2=>tb {D with nx:=N,ct:=N,bk:=D.nx} σ2 H2))->U i0 j H1)->
 ta σ H fun vs H1=>∃i j:Int,vs=[.int i,.int j]/\(-(2 ^ 62)<=i/\i<2 ^ 62/\-(2 ^ 62)<=j/\j<2 ^ 62)/\U i j H1):Dd (BO ta) g tb D σ H:=h _ fun _ _ _ x=>x
def rN (ss:List V):List zdm:=ss.filterMap fun v=>match v with |.ref b=>some b |_=>none
theorem gU{ss:List V}{b:zdm}:b∈rN ss↔V.ref b∈ss:=by
 unfold rN;rw[zbk]
 constructor
 ·rintro ⟨v,hv,e⟩
  cases v with
  |ref c=>cases e;exact hv
  |_=>cases e
 ·exact fun h=>⟨_,h,rfl⟩
theorem pQ(b:zdm)(ss:List V):rN (.ref b::ss)=b::rN ss:=rfl
def cJ (pl sc p:zdm) (ps:List zdm) (ss:List V):List zdm:=pl::sc::p::(ps++rN ss)
theorem aT{pl sc p a:zdm}{ps:List zdm}{ss:List V}:a∈cJ pl sc p ps ss↔a=pl\/a=sc\/a=p\/a∈ps\/V.ref a∈ss:=by
 unfold cJ;simp only[zag,zai,gU]
structure PZ(K:zaa)(bs:List PG.ck)(r0 row:Int)(R pl sc:zdm)(H0 H:Hp)(o:List (List PG.bh×PG.gD))(cur:List PG.bh)(p:zdm)(ps:List zdm)(ss vs:List V):Prop where
 oK:H pl=some (.lst ((p::ps).reverse.map V.ref))
 Bk:H sc=some (.lst ss.reverse)
 hp:H p=some (.lst vs)
 nd:(cJ pl sc p ps ss).Nodup
 fx:dv K (·∈cJ pl sc p ps ss) H (cur.map dY) vs
 pa:i6 K (·∈cJ pl sc p ps ss) H o p ps ss
 rt:rootOf p ps=R
 zk:Xm bs r0 row (PG.cw o cur)
 len:o.length<=4
 sm:ar H0 H
 fr:∀a∈cJ pl sc p ps ss,H0 a=none
section
variable{K:zaa}{bs:List PG.ck}{r0 row:Int}{R pl sc:zdm}{H0 H H1:Hp}{o:List (List PG.bh×PG.gD)}{cur:List PG.bh}{p:zdm}{ps:List zdm}{ss vs:List V}
theorem PZ.jQ(h:PZ K bs r0 row R pl sc H0 H o cur p ps ss vs):∀a∈cJ pl sc p ps ss,H a≠none:=fun a ha=>by
 rcases aT.mp ha with rfl |rfl |rfl |ha |ha
 ·rw[h.oK];simp
 ·rw[h.Bk];simp
 ·rw[h.hp];simp
 ·exact h.pa.jQ.1 a ha
 ·exact h.pa.jQ.2 a ha
theorem PZ.same(h:PZ K bs r0 row R pl sc H0 H o cur p ps ss vs)(s:ar H H1):PZ K bs r0 row R pl sc H0 H1 o cur p ps ss vs:=
 ⟨s _ _ h.oK,s _ _ h.Bk,s _ _ h.hp,h.nd,h.fx.up (.of s),h.pa.same s,h.rt,h.zk,h.len,h.sm.trans s,h.fr⟩
theorem PZ.more(h:PZ K bs r0 row R pl sc H0 H o cur p ps ss vs):PZ K bs r0 (row+1) R pl sc H0 H o cur p ps ss vs:=
 ⟨h.oK,h.Bk,h.hp,h.nd,h.fx,h.pa,h.rt,h.zk.more,h.len,h.sm,h.fr⟩
theorem zz:∀b:List PG.bh,b.length<=(PG.cK b).length
 |[]=>zaM _
 |s::r=>by
  have ih:=zz r;unfold PG.cK at ih ⊢;rw[zae] at ih ⊢;rw[PG.ax,zap,zak];have:0<(PG.cN s).length:=by cases s<;>simp[PG.cN]
  lia
theorem PZ.i3(h:PZ K bs r0 row R pl sc H0 H o cur p ps ss vs):(vs.length:Int)<=max 0 (row-r0):=by
 have h1:=PG.uv h.zk.rise h.zk.rows;have h2:=PG.ur o [] cur;rw[zbp] at h2;have h3:=congrArg zaV h2;rw[zap] at h3;have h4:=zz cur;have h5:=h.fx.AR.length;rw[zae] at h5;lia
theorem PZ.Ve(h:PZ K bs r0 row R pl sc H0 H o cur p ps ss vs):ps.length=o.length/\ss.length=o.length+1:=h.pa.len
theorem LF{D:zdm->Prop}{a b c:zdm}{x y z:HO}(ha:D a)(hb:D b)(hc:D c):aU D H (upd (upd (upd H a x) b y) c z):=((aU.refl.put ha x).put hb y).put hc z
theorem PZ.add(h:PZ K bs r0 row R pl sc H0 H o cur p ps ss vs){st:PG.bh}{v:V}(f:Fix K (·∈cJ pl sc p ps ss) H (dY st) v)(ow:Eb bs st)(pn:Plain st)(hr:st.row=row+1):PZ K bs r0 (row+1) R pl sc H0 (upd H p (.lst (vs++[v]))) o (cur++[st]) p ps ss (vs++[v]):=by
 have nd:=h.nd;unfold cJ at nd;rw[zaj,zaj,zaj] at nd;obtain⟨n1,n2,n3,_⟩:=nd;have e1:pl≠p:=fun z=>n1 (by rw[z];simp);have e2:sc≠p:=fun z=>n2 (by rw[z];simp);have u:aU (·∈cJ pl sc p ps ss) H (upd H p (.lst (vs++[v]))):=aU.refl.put (aT.mpr (.inr (.inr (.inl rfl)))) _;obtain⟨Z7,rd⟩:=pn.rows;refine⟨by rw[aE e1];exact h.oK,by rw[aE e2];exact h.Bk,aq,h.nd,?_,h.pa.up u (fun q hq=>?_) (fun b hb=>?_),h.rt,h.zk.add ow (by rw[Z7,hr]) (by have:=h.len;lia),h.len,fun b x e=>?_,h.fr⟩
 ·rw[zax];exact(h.fx.snoc f).up u
 ·exact aE fun z=>n3 (by rw[<- z];exact zai.mpr (.inl hq))
 ·exact aE fun z=>n3 (by rw[<- z];exact zai.mpr (.inr (gU.mpr hb)))
 ·rw[aE fun z=>by rw[z,h.fr p (aT.mpr (.inr (.inr (.inl rfl))))] at e;cases e];exact h.sm b x e
theorem PZ.Q6(h:PZ K bs r0 row R pl sc H0 H o cur p ps ss vs){sg:W}{l r:PM.Tr}{vl vr:V}{b0 c:zdm}(fl:Fix K (·∈cJ pl sc b0 (p::ps) (.bO::ss)) H1 (jN l) vl)(fr:Fix K (·∈cJ pl sc b0 (p::ps) (.bO::ss)) H1 (jN r) vr)(Vf:sg∈PG.Ak)(ol:zy bs l)(or:zy bs r)(lt:o.length<=3)
 (s:ar H H1) (nb:H b0=none) (nc:H c=none) (hb:H1 b0=some (.lst [])) (hc:H1 c=some (.tup [.str "while",.int (row+1),.str (S sg),vl,vr,.ref b0])) :
 PZ K bs r0 (row+1) R pl sc H0 (upd (upd (upd H1 p (.lst (vs++[.ref c]))) pl (.lst ((p::ps).reverse.map V.ref++[.ref b0]))) sc (.lst (ss.reverse++[.bO]))) ((cur,.eD (row+1) sg l r)::o) [] b0 (p::ps) (.bO::ss) []:=by
 have An:b0 ∉ cJ pl sc p ps ss:=fun z=>h.jQ _ z nb;have SD:c≠b0:=fun z=>by rw[z,hb] at hc;cases hc
 have SE:c ∉ cJ pl sc p ps ss:=fun z=>h.jQ _ z nc;have mo:∀a,a∈cJ pl sc b0 (p::ps) (.bO::ss)↔a∈cJ pl sc p ps ss\/a=b0:=fun a=>by
  rw[aT,aT];simp only[zag,reduceCtorEq,false_or]
  constructor
  ·rintro (z |z |z |(z |z) |z)
   ·exact .inl (.inl z)
   ·exact .inl (.inr (.inl z))
   ·exact .inr z
   ·exact .inl (.inr (.inr (.inl z)))
   ·exact .inl (.inr (.inr (.inr (.inl z))))
   ·exact .inl (.inr (.inr (.inr (.inr z))))
  ·rintro ((z |z |z |z |z) |z)
   ·exact .inl z
   ·exact .inr (.inl z)
   ·exact .inr (.inr (.inr (.inl (.inl z))))
   ·exact .inr (.inr (.inr (.inl (.inr z))))
   ·exact .inr (.inr (.inr (.inr z)))
   ·exact .inr (.inr (.inl z))
 have gr:∀a,a∈cJ pl sc b0 (p::ps) (.bO::ss)->a∈cJ pl sc p ps ss\/H a=none:=fun a ha=>((mo a).mp ha).imp id fun z=>by rw[z];exact nb
 have nd:=h.nd;unfold cJ at nd;rw[zaj,zaj,zaj] at nd;obtain⟨n1,n2,n3,n4⟩:=nd;have e1:pl≠p:=fun z=>n1 (by rw[z];simp);have e2:sc≠p:=fun z=>n2 (by rw[z];simp);have e3:pl≠sc:=fun z=>n1 (by rw[z];simp);have mp:p∈cJ pl sc p ps ss:=aT.mpr (.inr (.inr (.inl rfl)));have Hg:pl∈cJ pl sc p ps ss:=aT.mpr (.inl rfl);have Hh:sc∈cJ pl sc p ps ss:=aT.mpr (.inr (.inl rfl));have u:aU (·∈cJ pl sc b0 (p::ps) (.bO::ss)) H1 (upd (upd (upd H1 p (.lst (vs++[.ref c]))) pl (.lst ((p::ps).reverse.map V.ref++[.ref b0]))) sc (.lst (ss.reverse++[.bO]))):=LF ((mo _).mpr (.inl mp)) ((mo _).mpr (.inl Hg)) ((mo _).mpr (.inl Hh));have sT:b0≠p/\b0≠pl/\b0≠sc:=⟨fun z=>An (by rw[z];exact mp),fun z=>An (by rw[z];exact Hg),fun z=>An (by rw[z];exact Hh)⟩
 have keep:∀a,a≠p->a≠pl->a≠sc->(upd (upd (upd H1 p (.lst (vs++[.ref c]))) pl (.lst ((p::ps).reverse.map V.ref++[.ref b0]))) sc (.lst (ss.reverse++[.bO]))) a=H1 a:=fun a x y z=>by rw[aE z,aE y,aE x]
 have up1:aU (·∈cJ pl sc b0 (p::ps) (.bO::ss)) H H1:=.of s;refine⟨?_,?_,?_,?_,.nil,?_,h.rt,?_,by rw[zak];lia,?_,?_⟩
 ·rw[aE e3,aq,zaW (a:=b0),zax];rfl
 ·rw[aq,zaW]
 ·rw[keep b0 sT.1 sT.2.1 sT.2.2];exact hb
 ·have:cJ pl sc b0 (p::ps) (.bO::ss)=pl::sc::b0::(p::(ps++rN ss)):=rfl;rw[this,zaj,zaj,zaj,zaj];refine⟨fun z=>?_,fun z=>?_,fun z=>?_,n3,n4⟩
  ·rcases zag.mp z with z |z
   ·exact e3 z
   ·rcases zag.mp z with z |z
    ·exact sT.2.1 z.symm
    ·exact n1 (zad _ z)
  ·rcases zag.mp z with z |z
   ·exact sT.2.2 z.symm
   ·exact n2 z
  ·exact An (by unfold cJ;exact zad _ (zad _ z))
 ·refine .eD (c:=c) (vs:=vs) ?_ ((h.fx.grow gr).up (up1.trans u)) (fun z=>((mo c).mp z).elim SE SD) ?_ (fl.up u) (fr.up u) (((h.pa.grow gr).same s).up u (fun q hq=>?_) fun b hb=>?_)
  ·rw[aE e2.symm,aE e1.symm,aq]
  ·exact u c _ (fun z=>((mo c).mp z).elim SE SD) hc
  ·have Ao:q∈ps++rN ss:=zai.mpr (.inl hq);exact keep q (fun z=>n3 (by rw[<- z];exact Ao)) (fun z=>n1 (by rw[<- z];simp[hq])) (fun z=>n2 (by rw[<- z];simp[hq]))
  ·have Ao:b∈ps++rN ss:=zai.mpr (.inr (gU.mpr hb));exact keep b (fun z=>n3 (by rw[<- z];exact Ao)) (fun z=>n1 (by rw[<- z];exact zad _ (zad _ Ao))) (fun z=>n2 (by rw[<- z];exact zad _ Ao))
 ·rw[PG.cw];obtain⟨d1,d2⟩:=PG.zx (.eD (row+1) sg l r) (fun _ _ _ _ _ z=>by cases z);exact h.zk.add ⟨Vf,ol,or,trivial⟩ d2 (by rw[d1];lia)
 ·intro b x e;have hx:=s b x (h.sm b x e);have no:b ∉ cJ pl sc p ps ss:=fun z=>by rw[h.fr b z] at e;cases e
  rw[keep b (fun z=>no (by rw[z];exact mp)) (fun z=>no (by rw[z];exact Hg)) (fun z=>no (by rw[z];exact Hh))];exact hx
 ·intro a ha;rcases(mo a).mp ha with ha |rfl
  ·exact h.fr a ha
  ·exact h.sm.free nb
theorem PZ.Q7(h:PZ K bs r0 row R pl sc H0 H o cur p ps ss vs){sg:W}{l r:PM.Tr}{vl vr:V}{b0 b1 c:zdm}(fl:Fix K (·∈cJ pl sc b0 (p::ps) (.ref b1::ss)) H1 (jN l) vl)(fr:Fix K (·∈cJ pl sc b0 (p::ps) (.ref b1::ss)) H1 (jN r) vr)(Vf:sg∈PG.Ak)(ol:zy bs l)(or:zy bs r)(lt:o.length<=3)
 (s:ar H H1) (nb:H b0=none) (Vg:H b1=none) (ne:b0≠b1) (nc:H c=none) (hb:H1 b0=some (.lst [])) (EE:H1 b1=some (.lst [])) (hc:H1 c=some (.tup [.str "if",.int (row+1),.str (S sg),vl,vr,.ref b0,.ref b1])) :
 PZ K bs r0 (row+1) R pl sc H0 (upd (upd (upd H1 p (.lst (vs++[.ref c]))) pl (.lst ((p::ps).reverse.map V.ref++[.ref b0]))) sc (.lst (ss.reverse++[.ref b1]))) ((cur,.if1 (row+1) sg l r)::o) [] b0 (p::ps) (.ref b1::ss) []:=by
 have An:b0 ∉ cJ pl sc p ps ss:=fun z=>h.jQ _ z nb;have zF:b1 ∉ cJ pl sc p ps ss:=fun z=>h.jQ _ z Vg;have SD:c≠b0:=fun z=>by rw[z,hb] at hc;cases hc
 have Vh:c≠b1:=fun z=>by rw[z,EE] at hc;cases hc
 have SE:c ∉ cJ pl sc p ps ss:=fun z=>h.jQ _ z nc;have mo:∀a,a∈cJ pl sc b0 (p::ps) (.ref b1::ss)↔a∈cJ pl sc p ps ss\/a=b0\/a=b1:=fun a=>by
  rw[aT,aT];simp only[zag,V.ref.injEq]
  constructor
  ·rintro (z |z |z |(z |z) |z |z)
   ·exact .inl (.inl z)
   ·exact .inl (.inr (.inl z))
   ·exact .inr (.inl z)
   ·exact .inl (.inr (.inr (.inl z)))
   ·exact .inl (.inr (.inr (.inr (.inl z))))
   ·exact .inr (.inr z)
   ·exact .inl (.inr (.inr (.inr (.inr z))))
  ·rintro ((z |z |z |z |z) |z |z)
   ·exact .inl z
   ·exact .inr (.inl z)
   ·exact .inr (.inr (.inr (.inl (.inl z))))
   ·exact .inr (.inr (.inr (.inl (.inr z))))
   ·exact .inr (.inr (.inr (.inr (.inr z))))
   ·exact .inr (.inr (.inl z))
   ·exact .inr (.inr (.inr (.inr (.inl z))))
 have gr:∀a,a∈cJ pl sc b0 (p::ps) (.ref b1::ss)->a∈cJ pl sc p ps ss\/H a=none:=fun a ha=>((mo a).mp ha).imp id fun z=>z.elim (fun z=>by rw[z];exact nb) fun z=>by rw[z];exact Vg
 have nd:=h.nd;unfold cJ at nd;rw[zaj,zaj,zaj] at nd;obtain⟨n1,n2,n3,n4⟩:=nd;have e1:pl≠p:=fun z=>n1 (by rw[z];simp);have e2:sc≠p:=fun z=>n2 (by rw[z];simp);have e3:pl≠sc:=fun z=>n1 (by rw[z];simp);have mp:p∈cJ pl sc p ps ss:=aT.mpr (.inr (.inr (.inl rfl)));have Hg:pl∈cJ pl sc p ps ss:=aT.mpr (.inl rfl);have Hh:sc∈cJ pl sc p ps ss:=aT.mpr (.inr (.inl rfl));have u:aU (·∈cJ pl sc b0 (p::ps) (.ref b1::ss)) H1 (upd (upd (upd H1 p (.lst (vs++[.ref c]))) pl (.lst ((p::ps).reverse.map V.ref++[.ref b0]))) sc (.lst (ss.reverse++[.ref b1]))):=LF ((mo _).mpr (.inl mp)) ((mo _).mpr (.inl Hg)) ((mo _).mpr (.inl Hh));have sT:∀b,b ∉ cJ pl sc p ps ss->b≠p/\b≠pl/\b≠sc:=fun b An=>⟨fun z=>An (by rw[z];exact mp),fun z=>An (by rw[z];exact Hg),fun z=>An (by rw[z];exact Hh)⟩
 have keep:∀a,a≠p->a≠pl->a≠sc->(upd (upd (upd H1 p (.lst (vs++[.ref c]))) pl (.lst ((p::ps).reverse.map V.ref++[.ref b0]))) sc (.lst (ss.reverse++[.ref b1]))) a=H1 a:=fun a x y z=>by rw[aE z,aE y,aE x]
 have up1:aU (·∈cJ pl sc b0 (p::ps) (.ref b1::ss)) H H1:=.of s;have Xn:c ∉ cJ pl sc b0 (p::ps) (.ref b1::ss):=fun z=>((mo c).mp z).elim SE fun z=>z.elim SD Vh;refine⟨?_,?_,?_,?_,.nil,?_,h.rt,?_,by rw[zak];lia,?_,?_⟩
 ·rw[aE e3,aq,zaW (a:=b0),zax];rfl
 ·rw[aq,zaW]
 ·rw[keep b0 (sT b0 An).1 (sT b0 An).2.1 (sT b0 An).2.2];exact hb
 ·have:cJ pl sc b0 (p::ps) (.ref b1::ss)=pl::sc::b0::(p::(ps++(b1::rN ss))):=rfl;rw[this,zaj,zaj,zaj,zaj];have m1:∀a,a∈ps++(b1::rN ss)↔a=b1\/a∈ps++rN ss:=fun a=>by
   simp only[zai,zag]
   constructor
   ·rintro (z |z |z)
    ·exact .inr (.inl z)
    ·exact .inl z
    ·exact .inr (.inr z)
   ·rintro (z |z |z)
    ·exact .inr (.inl z)
    ·exact .inl z
    ·exact .inr (.inr z)
  refine⟨fun z=>?_,fun z=>?_,fun z=>?_,fun z=>?_,?_⟩
  ·rcases zag.mp z with z |z
   ·exact e3 z
   ·rcases zag.mp z with z |z
    ·exact(sT b0 An).2.1 z.symm
    ·rcases zag.mp z with z |z
     ·exact e1 z
     ·rcases(m1 _).mp z with z |z
      ·exact(sT b1 zF).2.1 z.symm
      ·exact n1 (zad _ (zad _ z))
  ·rcases zag.mp z with z |z
   ·exact(sT b0 An).2.2 z.symm
   ·rcases zag.mp z with z |z
    ·exact e2 z
    ·rcases(m1 _).mp z with z |z
     ·exact(sT b1 zF).2.2 z.symm
     ·exact n2 (zad _ z)
  ·rcases zag.mp z with z |z
   ·exact(sT b0 An).1 z
   ·rcases(m1 _).mp z with z |z
    ·exact ne z
    ·exact An (by unfold cJ;exact zad _ (zad _ (zad _ z)))
  ·rcases(m1 _).mp z with z |z
   ·exact(sT b1 zF).1 z.symm
   ·exact n3 z
  ·rw[zbe] at n4 ⊢;refine⟨n4.1,zaj.mpr ⟨fun z=>zF (by unfold cJ;simp[z]),n4.2.1⟩,fun a ha b hb e=>?_⟩;rcases zag.mp hb with z |z
   ·exact zF (by rw[<- z,<- e];unfold cJ;simp[ha])
   ·exact n4.2.2 a ha b z e
 ·refine .if1 (c:=c) (vs:=vs) ?_ ((h.fx.grow gr).up (up1.trans u)) Xn ?_ (fl.up u) (fr.up u) ?_ (((h.pa.grow gr).same s).up u (fun q hq=>?_) fun b hb=>?_)
  ·rw[aE e2.symm,aE e1.symm,aq]
  ·exact u c _ Xn hc
  ·rw[keep b1 (sT b1 zF).1 (sT b1 zF).2.1 (sT b1 zF).2.2];exact EE
  ·have Ao:q∈ps++rN ss:=zai.mpr (.inl hq);exact keep q (fun z=>n3 (by rw[<- z];exact Ao)) (fun z=>n1 (by rw[<- z];simp[hq])) (fun z=>n2 (by rw[<- z];simp[hq]))
  ·have Ao:b∈ps++rN ss:=zai.mpr (.inr (gU.mpr hb));exact keep b (fun z=>n3 (by rw[<- z];exact Ao)) (fun z=>n1 (by rw[<- z];exact zad _ (zad _ Ao))) (fun z=>n2 (by rw[<- z];exact zad _ Ao))
 ·rw[PG.cw];obtain⟨d1,d2⟩:=PG.zx (.if1 (row+1) sg l r) (fun _ _ _ _ _ z=>by cases z);exact h.zk.add ⟨Vf,ol,or,trivial,trivial⟩ d2 (by rw[d1];lia)
 ·intro b x e;have hx:=s b x (h.sm b x e);have no:b ∉ cJ pl sc p ps ss:=fun z=>by rw[h.fr b z] at e;cases e
  rw[keep b (fun z=>no (by rw[z];exact mp)) (fun z=>no (by rw[z];exact Hg)) (fun z=>no (by rw[z];exact Hh))];exact hx
 ·intro a ha;rcases(mo a).mp ha with ha |rfl |rfl
  ·exact h.fr a ha
  ·exact h.sm.free nb
  ·exact h.sm.free Vg
theorem LG{pl sc p b0 a:zdm}{ps:List zdm}{ss:List V}(h:a∈cJ pl sc b0 (p::ps) (.bO::ss)):a∈cJ pl sc p ps ss\/a=b0:=by
 rcases aT.mp h with z |z |z |z |z
 ·exact .inl (aT.mpr (.inl z))
 ·exact .inl (aT.mpr (.inr (.inl z)))
 ·exact .inr z
 ·rcases zag.mp z with z |z
  ·exact .inl (aT.mpr (.inr (.inr (.inl z))))
  ·exact .inl (aT.mpr (.inr (.inr (.inr (.inl z)))))
 ·rcases zag.mp z with z |z
  ·cases z
  ·exact .inl (aT.mpr (.inr (.inr (.inr (.inr z)))))
theorem LH{pl sc p b0 b1 a:zdm}{ps:List zdm}{ss:List V}(h:a∈cJ pl sc b0 (p::ps) (.ref b1::ss)):a∈cJ pl sc p ps ss\/a=b0\/a=b1:=by
 rcases aT.mp h with z |z |z |z |z
 ·exact .inl (aT.mpr (.inl z))
 ·exact .inl (aT.mpr (.inr (.inl z)))
 ·exact .inr (.inl z)
 ·rcases zag.mp z with z |z
  ·exact .inl (aT.mpr (.inr (.inr (.inl z))))
  ·exact .inl (aT.mpr (.inr (.inr (.inr (.inl z)))))
 ·rcases zag.mp z with z |z
  ·cases z;exact .inr (.inr rfl)
  ·exact .inl (aT.mpr (.inr (.inr (.inr (.inr z)))))
theorem PZ.IA(h:PZ K bs r0 row R pl sc H0 H o cur p ps ss vs){v:V}{iA:List V}(es:ss=v::iA)(nv:v≠.bO):∃b o',v=.ref b/\PZ K bs r0 row R pl sc H0 (upd (upd H pl (.lst ((b::ps).reverse.map V.ref))) sc (.lst (.bO::iA).reverse)) o' [] b ps (.bO::iA) []:=by
 have nd:=h.nd;have pa:=h.pa;subst es;cases Z8:pa with
 |root=>exact absurd rfl nv
 |eD=>exact absurd rfl nv
 |if2=>exact absurd rfl nv
 |if1 a b1 c d e f x g=>
  rename_i o1 yi k sg l r q c1 b vi IF vl vr;refine⟨b,(yi,.if2 k sg l r cur)::o1,rfl,?_⟩;have mo:∀y,y∈cJ pl sc b (q::vi) (.bO::iA)->y∈cJ pl sc p (q::vi) (.ref b::iA)/\y≠p:=fun y hy=>by
   have hz:y∈cJ pl sc p (q::vi) (.ref b::iA):=by
    rcases aT.mp hy with z |z |z |z |z
    ·exact aT.mpr (.inl z)
    ·exact aT.mpr (.inr (.inl z))
    ·exact aT.mpr (.inr (.inr (.inr (.inr (by rw[z];simp)))))
    ·exact aT.mpr (.inr (.inr (.inr (.inl z))))
    ·exact aT.mpr (.inr (.inr (.inr (.inr ((zag.mp z).elim (fun z=>by cases z) fun z=>zad _ z)))))
   refine⟨hz,fun e=>?_⟩;unfold cJ at nd;rw[zaj,zaj,zaj] at nd;obtain⟨n1,n2,n3,n4⟩:=nd;rw[e] at hy;rcases aT.mp hy with z |z |z |z |z
   ·exact n1 (by rw[<- z];simp)
   ·exact n2 (by rw[<- z];simp)
   ·exact n3 (by rw[z,pQ];simp)
   ·exact n3 (zai.mpr (.inl z))
   ·rcases zag.mp z with z |z
    ·cases z
    ·exact n3 (zai.mpr (.inr (gU.mpr (zad _ z))))
  have gr:∀y,y∈cJ pl sc b (q::vi) (.bO::iA)->y∈cJ pl sc p (q::vi) (.ref b::iA)\/H y=none:=fun y hy=>.inl (mo y hy).1;have Hg:pl∈cJ pl sc b (q::vi) (.bO::iA):=aT.mpr (.inl rfl);have Hh:sc∈cJ pl sc b (q::vi) (.bO::iA):=aT.mpr (.inr (.inl rfl));have u:aU (·∈cJ pl sc b (q::vi) (.bO::iA)) H (upd (upd H pl (.lst ((b::q::vi).reverse.map V.ref))) sc (.lst (.bO::iA).reverse)):=(aU.refl.put Hg _).put Hh _;unfold cJ at nd;rw[zaj,zaj,zaj] at nd;obtain⟨n1,n2,n3,n4⟩:=nd;have e3:pl≠sc:=fun z=>n1 (by rw[z];simp);have kp:∀y,y≠pl->y≠sc->(upd (upd H pl (.lst ((b::q::vi).reverse.map V.ref))) sc (.lst (.bO::iA).reverse)) y=H y:=fun y h1 h2=>by rw[aE h2,aE h1]
  have Xo:b∈(q::vi)++rN (.ref b::iA):=by rw[pQ];simp
  have Xp:b≠pl:=fun z=>n1 (by rw[<- z];exact zad _ (zad _ Xo));have Xq:b≠sc:=fun z=>n2 (by rw[<- z];exact zad _ Xo);have LK:∀y,y∈(q::vi)++rN (.ref b::iA)->y≠pl/\y≠sc:=fun y hy=>⟨fun z=>n1 (by rw[<- z];exact zad _ (zad _ hy)),fun z=>n2 (by rw[<- z];exact zad _ hy)⟩
  have hq:∀y∈q::vi,y≠pl/\y≠sc:=fun y hy=>LK y (zai.mpr (.inl hy));refine⟨by rw[aE e3,aq],by rw[aq],by rw[kp b Xp Xq];exact x,?_,.nil,.if2 (c:=c1) (vs:=IF) (a:=cur) (by rw[kp q (hq q (by simp)).1 (hq q (by simp)).2];exact a) ((b1.grow gr).up u) (fun z=>c (mo c1 z).1) (u c1 _ (fun z=>c (mo c1 z).1) d) ((e.grow gr).up u) ((f.grow gr).up u) ?_ ((g.grow gr).up u (fun y hy=>?_) fun y hy=>?_),h.rt,?_,h.len,fun y o2 e2=>?_,fun y hy=>h.fr y (mo y hy).1⟩
  ·show (pl::sc::b::(q::vi++rN iA)).Nodup;rw[pQ] at n4 n1 n2;have n5:((q::vi)++(b::rN iA)).Nodup:=n4;rw[zbe] at n5;have n6:=zaj.mp n5.2.1;rw[zaj,zaj,zaj];refine⟨fun z=>?_,fun z=>?_,fun z=>?_,?_⟩
   ·rcases zag.mp z with z |z
    ·exact e3 z
    ·rcases zag.mp z with z |z
     ·exact Xp z.symm
     ·rcases zai.mp z with z |z
      ·exact n1 (zad _ (zad _ (zai.mpr (.inl z))))
      ·exact n1 (zad _ (zad _ (zai.mpr (.inr (zad _ z)))))
   ·rcases zag.mp z with z |z
    ·exact Xq z.symm
    ·rcases zai.mp z with z |z
     ·exact n2 (zad _ (zai.mpr (.inl z)))
     ·exact n2 (zad _ (zai.mpr (.inr (zad _ z))))
   ·rcases zai.mp z with z |z
    ·exact n5.2.2 b z b (by simp) rfl
    ·exact n6.1 z
   ·rw[zbe];exact⟨n5.1,n6.2,fun y hy w hw=>n5.2.2 y hy w (zad _ hw)⟩
  ·exact Fix.lst (vs:=vs) (u p _ (fun z=>(mo p z).2 rfl) h.hp) (fun z=>(mo p z).2 rfl) ((h.fx.grow gr).up u)
  ·exact kp y (hq y (zad _ hy)).1 (hq y (zad _ hy)).2
  ·have:=LK y (zai.mpr (.inr (by rw[pQ];exact zad _ (gU.mpr hy))));exact kp y this.1 this.2
  ·exact h.zk
  ·have no:y ∉ cJ pl sc p (q::vi) (.ref b::iA):=fun z=>by rw[h.fr y z] at e2;cases e2
   rw[kp y (fun z=>no (by rw[z];exact aT.mpr (.inl rfl))) (fun z=>no (by rw[z];exact aT.mpr (.inr (.inl rfl))))];exact h.sm y o2 e2
theorem PZ.pop(h:PZ K bs r0 row R pl sc H0 H o cur p ps ss vs){q:zdm}{nX:List zdm}(ep:ps=q::nX):∃v iA o' NO Vi,ss=v::iA/\PZ K bs r0 row R pl sc H0 (upd (upd H pl (.lst ((q::nX).reverse.map V.ref))) sc (.lst iA.reverse)) o' NO q nX iA Vi:=by
 have nd:=h.nd;have pa:=h.pa;subst ep;have main:∀(v:V) (iA:List V) (o':List (List PG.bh×PG.gD)) (hl:PG.gD) (yi:List PG.bh) (IF:List V) (c1:zdm),ss=v::iA->o=(yi,hl)::o'->H q=some (.lst (IF++[.ref c1]))->dv K (·∈cJ pl sc p (q::nX) ss) H (yi.map dY) IF->Fix K (·∈cJ pl sc q nX iA) H (dY (hl.fill cur)) (.ref c1)->i6 K (·∈cJ pl sc p (q::nX) ss) H o' q nX iA->∃v iA o' NO Vi,ss=v::iA/\PZ K bs r0 row R pl sc H0 (upd (upd H pl (.lst ((q::nX).reverse.map V.ref))) sc (.lst iA.reverse)) o' NO q nX iA Vi:=by
  intro v iA o' hl yi IF c1 es eo a b f g;subst es;subst eo;refine⟨v,iA,o',yi++[hl.fill cur],IF++[.ref c1],rfl,?_⟩;have mo:∀y,y∈cJ pl sc q nX iA->y∈cJ pl sc p (q::nX) (v::iA):=fun y hy=>by
   rcases aT.mp hy with z |z |z |z |z
   ·exact aT.mpr (.inl z)
   ·exact aT.mpr (.inr (.inl z))
   ·exact aT.mpr (.inr (.inr (.inr (.inl (by rw[z];simp)))))
   ·exact aT.mpr (.inr (.inr (.inr (.inl (zad _ z)))))
   ·exact aT.mpr (.inr (.inr (.inr (.inr (zad _ z)))))
  have gr:∀y,y∈cJ pl sc q nX iA->y∈cJ pl sc p (q::nX) (v::iA)\/H y=none:=fun y hy=>.inl (mo y hy);have Hg:pl∈cJ pl sc q nX iA:=aT.mpr (.inl rfl);have Hh:sc∈cJ pl sc q nX iA:=aT.mpr (.inr (.inl rfl));have u:aU (·∈cJ pl sc q nX iA) H (upd (upd H pl (.lst ((q::nX).reverse.map V.ref))) sc (.lst iA.reverse)):=(aU.refl.put Hg _).put Hh _;unfold cJ at nd;rw[zaj,zaj,zaj] at nd;obtain⟨n1,n2,n3,n4⟩:=nd;have e3:pl≠sc:=fun z=>n1 (by rw[z];simp);have kp:∀y,y≠pl->y≠sc->(upd (upd H pl (.lst ((q::nX).reverse.map V.ref))) sc (.lst iA.reverse)) y=H y:=fun y h1 h2=>by rw[aE h2,aE h1]
  have LK:∀y,y∈(q::nX)++rN (v::iA)->y≠pl/\y≠sc:=fun y hy=>⟨fun z=>n1 (by rw[<- z];exact zad _ (zad _ hy)),fun z=>n2 (by rw[<- z];exact zad _ hy)⟩
  have sub:∀y,y∈nX++rN iA->y∈(q::nX)++rN (v::iA):=fun y hy=>by
   rcases zai.mp hy with z |z
   ·exact zai.mpr (.inl (zad _ z))
   ·exact zai.mpr (.inr (gU.mpr (zad _ (gU.mp z))))
  have SF:=LK q (by simp);refine⟨by rw[aE e3,aq],by rw[aq],by rw[kp q SF.1 SF.2];exact a,?_,?_,(g.grow gr).up u (fun y hy=>?_) (fun y hy=>?_),h.rt,h.zk,by have:=h.len;rw[zak] at this;lia,fun y o2 e2=>?_,fun y hy=>h.fr y (mo y hy)⟩
  ·unfold cJ;have n5:(q::(nX++rN (v::iA))).Nodup:=n4;obtain⟨n6,n7⟩:=zaj.mp n5;have sl:(rN iA).Sublist (rN (v::iA)):=by
    unfold rN;exact List.Sublist.filterMap _ (List.sublist_cons_self _ _)
   rw[zaj,zaj,zaj];refine⟨fun z=>?_,fun z=>?_,fun z=>?_,List.Nodup.sublist ((List.Sublist.refl _).append sl) n7⟩
   ·rcases zag.mp z with z |z
    ·exact e3 z
    ·rcases zag.mp z with z |z
     ·exact SF.1 z.symm
     ·exact(LK _ (sub _ z)).1 rfl
   ·rcases zag.mp z with z |z
    ·exact SF.2 z.symm
    ·exact(LK _ (sub _ z)).2 rfl
   ·rcases zai.mp z with z |z
    ·exact n6 (zai.mpr (.inl z))
    ·exact n6 (zai.mpr (.inr (sl.subset z)))
  ·rw[zax];exact((b.grow gr).snoc f).up u
  ·have:=LK y (sub y (zai.mpr (.inl hy)));exact kp y this.1 this.2
  ·have:=LK y (sub y (zai.mpr (.inr (gU.mpr hy))));exact kp y this.1 this.2
  ·have no:y ∉ cJ pl sc p (q::nX) (v::iA):=fun z=>by rw[h.fr y z] at e2;cases e2
   rw[kp y (fun z=>no (by rw[z];exact aT.mpr (.inl rfl))) (fun z=>no (by rw[z];exact aT.mpr (.inr (.inl rfl))))];exact h.sm y o2 e2
 have np:∀v iA,ss=v::iA->(∀y,y∈cJ pl sc q nX iA->y∈cJ pl sc p (q::nX) ss/\y≠p/\V.ref y≠v):=fun v iA es y hy=>by
  subst es;have Vj:=nd;unfold cJ at Vj;rw[zaj,zaj,zaj] at Vj;obtain⟨n1,n2,n3,n4⟩:=Vj;have Z9:y∈cJ pl sc p (q::nX) (v::iA):=by
   rcases aT.mp hy with z |z |z |z |z
   ·exact aT.mpr (.inl z)
   ·exact aT.mpr (.inr (.inl z))
   ·exact aT.mpr (.inr (.inr (.inr (.inl (by rw[z];simp)))))
   ·exact aT.mpr (.inr (.inr (.inr (.inl (zad _ z)))))
   ·exact aT.mpr (.inr (.inr (.inr (.inr (zad _ z)))))
  refine⟨Z9,fun e=>?_,fun e=>?_⟩
  ·rw[e] at hy;rcases aT.mp hy with z |z |z |z |z
   ·exact n1 (by rw[<- z];simp)
   ·exact n2 (by rw[<- z];simp)
   ·exact n3 (by rw[z];simp)
   ·exact n3 (zai.mpr (.inl (zad _ z)))
   ·exact n3 (zai.mpr (.inr (gU.mpr (zad _ z))))
  ·rw[<- e] at n1 n2 n3 n4;rw[pQ] at n1 n2 n3 n4;have n5:((q::nX)++(y::rN iA)).Nodup:=n4;rw[zbe] at n5;rcases aT.mp hy with z |z |z |z |z
   ·exact n1 (by rw[<- z];simp)
   ·exact n2 (by rw[<- z];simp)
   ·exact n5.2.2 q (by simp) y (by simp) z.symm
   ·exact n5.2.2 y (zad _ z) y (by simp) rfl
   ·exact(zaj.mp n5.2.1).1 (gU.mpr z)
 cases Z8:pa with
 |eD a b c d e f g=>
  rename_i o1 yi k sg l r c1 Kx IF vl vr;refine main _ _ _ _ _ _ _ rfl rfl a b ?_ g;have n:=np _ _ rfl;have gr:∀y,y∈cJ pl sc q nX Kx->y∈cJ pl sc p (q::nX) (.bO::Kx)\/H y=none:=fun y hy=>.inl (n y hy).1;unfold PG.gD.fill dY;rw[cy];exact Fix.tup d (fun z=>c (n _ z).1) (.cons .str (.cons .int (.cons .str (.cons (e.grow gr) (.cons (f.grow gr) (.cons (Fix.lst h.hp (fun z=>(n _ z).2.1 rfl) (h.fx.grow gr)) .nil))))))
 |if1 a b c d e f x g=>
  rename_i o1 yi k sg l r c1 b1 Kx IF vl vr;refine main _ _ _ _ _ _ _ rfl rfl a b ?_ g;have n:=np _ _ rfl;have gr:∀y,y∈cJ pl sc q nX Kx->y∈cJ pl sc p (q::nX) (.ref b1::Kx)\/H y=none:=fun y hy=>.inl (n y hy).1;unfold PG.gD.fill dY;rw[cy,cy];exact Fix.tup d (fun z=>c (n _ z).1) (.cons .str (.cons .int (.cons .str (.cons (e.grow gr) (.cons (f.grow gr) (.cons (Fix.lst h.hp (fun z=>(n _ z).2.1 rfl) (h.fx.grow gr)) (.cons (Fix.lst x (fun z=>(n _ z).2.2 rfl) .nil) .nil)))))))
 |if2 a b c d e f x g=>
  rename_i o1 yi k sg l r a1 c1 va Kx IF vl vr;refine main _ _ _ _ _ _ _ rfl rfl a b ?_ g;have n:=np _ _ rfl;have gr:∀y,y∈cJ pl sc q nX Kx->y∈cJ pl sc p (q::nX) (.bO::Kx)\/H y=none:=fun y hy=>.inl (n y hy).1;unfold PG.gD.fill dY;rw[cy,cy];exact Fix.tup d (fun z=>c (n _ z).1) (.cons .str (.cons .int (.cons .str (.cons (e.grow gr) (.cons (f.grow gr) (.cons (x.grow gr) (.cons (Fix.lst h.hp (fun z=>(n _ z).2.1 rfl) (h.fx.grow gr)) .nil)))))))
theorem PZ.one(hR:H0 R=none)(oK:H0 pl=none)(Bk:H0 sc=none)(n1:pl≠sc)(n2:pl≠R)(n3:sc≠R)(s:ar H0 H)(e1:H R=some (.lst []))(e2:H pl=some (.lst [.ref R]))(e3:H sc=some (.lst [.bO])):PZ K bs r0 r0 R pl sc H0 H [] [] R [] [.bO] []:=
 ⟨e2,e3,e1,by unfold cJ;simp[rN,n1,n2,n3],.nil,.root,rfl,PG.IE.nil,by simp,s,fun a ha=>by
  rcases aT.mp ha with rfl |rfl |rfl |h |h
  ·exact oK
  ·exact Bk
  ·exact hR
  ·cases h
  ·simp at h⟩
theorem PZ.close(h:PZ K bs r0 row R pl sc H0 H o cur p ps ss vs):Rep K H (.lst ((PG.cw o cur).map dY)) (.ref R):=by
 rw[<- h.rt];exact h.pa.close h.hp h.fx.AR
end
theorem uw{tt:TT}{a b:TS}{D:Ends}{σ:St}{H:Hp}(h:∀U1 U2:St->Hp->Prop,(∀σ' H',U1 σ' H'↔a D σ' H')->(∀σ' H',U2 σ' H'↔b D σ' H')->tt σ H fun c H1=>if c=true then U1 σ H1 else U2 σ H1):C9 tt a b D σ H:=h (a D) (b D) (fun _ _=>Iff.rfl) fun _ _=>Iff.rfl
theorem rev_last(p:zdm)(ps:List zdm):(p::ps).reverse.map V.ref=ps.reverse.map V.ref++[.ref p]:=by rw[zaW,zax];rfl
theorem zG(xs:List V)(a v:V):(xs++[a]).set ((xs++[a]).length-1) v=xs++[v]:=by
 rw[zap,zaY,Nat.add_sub_cancel,List.set_append_right _ _ (zam _),zco];rfl
theorem Hi{n:Nat}(h:0<n):Fi n (-1)=some (n-1):=by
 unfold Fi;rw[if_neg (by decide),if_pos (by lia)];have:(-1+(n:Int)).toNat=n-1:=by lia
 rw[this]
theorem zH{A B:Hp}(s:ar A B){k:zdm}{o:HO}:ar (upd A k o) (upd B k o):=fun b x e=>by
 by_cases z:b=k
 ·rw[z,aq] at e ⊢;exact e
 ·rw[aE z] at e ⊢;exact s b x e
theorem NP(a b:PG.Rg):PyData.eqv (nW a).py (nW b).py=decide (a=b):=by
 obtain⟨a1,a2⟩:=a;obtain⟨b1,b2⟩:=b;rw[za0];simp[nW,Dp.py,Dp.sS,PyData.eqv,PyData.eqvAll,show ∀x y:Int,(x==y)=decide (x=y) from fun x y=>rfl]
theorem Hj:∀a b:List PG.Rg,PyData.eqvAll (Dp.sS (a.map nW)) (Dp.sS (b.map nW))=decide (a=b)
 |[],[]=>rfl
 |[],_::_=>rfl
 |_::_,[]=>rfl
 |x::a,y::b=>by
  show (PyData.eqv (nW x).py (nW y).py&&PyData.eqvAll (Dp.sS (a.map nW)) (Dp.sS (b.map nW)))=_;rw[NP,Hj a b,za0];simp
def NQ:Option (List PG.Rg)->Dp
 |none=>.bO
 |some rs=>Bb rs
theorem NR(a:List PG.Rg)(b:Option (List PG.Rg)):PyData.eqv (Bb a).py (NQ b).py=decide (some a=b):=by
 cases b with
 |none=>rfl
 |some b=>
  show PyData.eqvAll (Dp.sS (a.map nW)) (Dp.sS (b.map nW))=_;rw[Hj,za0];simp
theorem LL(rs:List PG.Rg):SeqAt.shaped (Bb rs).py=true:=by
 obtain⟨h1,h2⟩:=Be rs;unfold SeqAt.shaped;rw[Bb,Dp.py,PyData.canLay0,h1,zcx,decide_eq_true_iff,PyData.depth];lia
theorem Q8(b:Option (List PG.Rg)):SeqAt.shaped (NQ b).py=true:=by
 cases b with
 |none=>rfl
 |some b=>exact LL b
theorem pO.rep{K:zaa}{H:Hp}{v:V}{o:Option (List PG.Rg)}(h:pO K H v o):Rep K H (NQ o) v:=by
 cases o with
 |none=>exact h
 |some rs=>exact dO.rep h
def RmR (K:zaa) (H:Hp) (a:Int×V) (b:Int×List PG.Rg):Prop:=a.1=b.1/\dO K H a.2 b.2
def RelM (K:zaa) (H:Hp) (kvs:List (Int×V)) (m:List (Int×List PG.Rg)):Prop:=Paired (RmR K H) kvs m
theorem RelM.mono{K:zaa}{H H':Hp}{kvs:List (Int×V)}{m:List (Int×List PG.Rg)}(h:RelM K H kvs m)(f:∀v rs,dO K H v rs->dO K H' v rs):RelM K H' kvs m:=by
 unfold RelM at h ⊢
 induction h with
 |nil=>exact .nil
 |cons a _ ih=>exact .cons ⟨a.1,f _ _ a.2⟩ ih
theorem xD(kvs:List (Int×V))(k:Int):cB (kvs.map kI) (.inl k)=bU kvs k:=by
 induction kvs with
 |nil=>rfl
 |cons p r ih=>
  by_cases e:p.1=k
  ·rw[cR e];exact cG (p:=kI p) (by show (Sum.inl p.1:Key)=_;rw[e])
  ·rw[dg e,<- ih];exact cH (p:=kI p) fun z=>e (by injection z)
theorem NS(kvs:List (Int×V))(k:Int)(v:V):putK (kvs.map kI) (.inl k) v=(gS kvs k v).map kI:=by
 unfold putK gS;rw[jr,lE,xD];by_cases h:(bU kvs k).isSome=true
 ·rw[if_pos h,if_pos h,zaN,zaN];refine zbS fun e _=>?_;simp only[Function.comp];by_cases z:e.1=k
  ·rw[if_pos z,if_pos (by show (Sum.inl e.1:Key)=_;rw[z])];rfl
  ·rw[if_neg z,if_neg (fun y=>z (by injection y))]
 ·rw[if_neg h,if_neg h,zax];rfl
theorem dO.tup{K:zaa}{H:Hp}{v:V}{rs:List PG.Rg}(h:dO K H v rs):∃a us,v=.ref a/\bS K H a us/\us.length=rs.length:=let ⟨a,us,e,q,r⟩:=h;⟨a,us,e,q,r.1⟩
section
variable(K:zaa)(C:zdm)
def Hk:Sp:=fun vs H Q _=>∃(p:zdm) (pr:PG.Prog),vs=[.ref p]/\si K C H p pr/\pr.av.length<=10/\∀v H',ar H H'->dO K H' v (one (pr.av.map (·.first)))->Q v H'
def Ky:Sp:=fun vs H Q _=>∃(v u:V) (a b:List PG.Rg),vs=[v,u]/\dO K H v a/\dO K H u b/\a.length=b.length/\a.length<=10/\∀v' H',ar H H'->dO K H' v' (mT a b)->Q v' H'
structure NT(pr:PG.Prog):Prop where
 dr:vt pr
 i3:pr.av.length<=4
 len:(PG.ax pr.body).length<=40
def Hl:Sp:=fun vs H Q _=>∃(v:V) (pr:PG.Prog),vs=[v]/\Rep K H (j5 pr) v/\NT pr/\
 ∀(L:zdm) (ps:List zdm) (pj kvs:List (Int×V)) (m:List (Int×List PG.Rg)) H',ar H H'->H L=none->H' L=some (.lst (ps.map V.ref))->xx H' ps pj->pj.Perm kvs->pj.Pairwise (fun a b=>a.1<b.1)->RelM K H' kvs m->LI pr m []->Q (.ref L) H'
end
theorem jz.Xr{bs:List PG.ck}{rs:List PG.Rg}(h:jz bs rs)(sz:∀b∈bs,2<=b.size/\b.size<=10/\0<=b.first/\b.first<b.size):QT bs rs:=⟨h.bd.1,fun r hr=>by
 obtain⟨i,hi⟩:=zbr hr;have hl:i<bs.length:=by have:=(zal.mp hi).1;rw[h.bd.1] at this;exact this
 have h1:=h.bd.2 i r _ hi (zab hl);have h2:=sz _ (zao hl);have h3:=h.le r hr;unfold xA at h1;lia⟩
theorem pS{bs:List PG.ck}:∀ {t:PM.Tr},PG.dc bs t->zh bs t
 |.num n,h=>h
 |.box x,h=>h
 |.bin o l r,h=>⟨by simpa using h.1,pS h.2.1,pS h.2.2⟩
theorem Hm{bs:List PG.ck}{rs:List PG.Rg}{st:PG.bh}(h:Eb bs st)(r:QT bs rs):Kj bs rs st:=by
 cases st with
 |ask k b=>exact h
 |put k b e=>exact⟨h.1,(pS h.2.1).g r,zau h.2.2 (by decide)⟩
 |say k e=>trivial
 |stop k=>trivial
 |cg k sg a b=>exact⟨(pS h.2.1.1).g r,(pS h.2.2.1).g r,zau h.2.1.2 (by decide),zau h.2.2.2 (by decide)⟩
 |eD k sg a b i=>exact⟨(pS h.2.1.1).g r,(pS h.2.2.1.1).g r,zau h.2.1.2 (by decide),zau h.2.2.1.2 (by decide)⟩
 |ifs k sg a b i e=>exact⟨(pS h.2.1.1).g r,(pS h.2.2.1.1).g r,zau h.2.1.2 (by decide),zau h.2.2.1.2 (by decide)⟩
theorem zI{ws:List Int}{st:PG.bh}(h:G6 ws st):0<ws.length:=by
 cases st with
 |cg k sg l r=>obtain⟨a,rfl⟩:=h;simp
 |ifs k sg l r a b=>obtain⟨a,b,rfl⟩:=h;simp
 |eD k sg l r a=>obtain⟨a,b,rfl⟩:=h;simp
 |_=>exact h
theorem Hn{K:zaa}{a b D:zdm}{xs ys:List V}{g:TG}{te:TE}{Q:VK}{τ0:St}{H:Hp}(G:St->Prop)(Pv:Nat->List V->Hp->Prop)(hx:bS K H a xs)(hy:bS K H b ys)(ll:xs.length=ys.length)
 (hl:xs.length<=16000000) (hD:H D=none) (g0:G τ0) (h0:Pv 0 [] (upd H D (.lst [])))
 (step:∀i x y zs τ H2 p,xs[i]?=some x->ys[i]?=some y->G τ->ar H H2->H2 D=some (.lst zs)->zs.length=i->Pv i zs H2->H2 p=none->∀R:St->VK,(∀τ' v H3,G τ'->ar H2 H3->Pv (i+1) (zs++[v]) (upd H3 D (.lst (zs++[v])))->R τ' v H3)->g (.ref p) τ (upd H2 p (.tup [x,y])) fun τ' H'=>te τ' H' (R τ'))
 (q:∀zs H2,ar H H2->H2 D=some (.lst zs)->zs.length=xs.length->Pv xs.length zs H2->Q (.ref D) H2):lU (Kh K a b) D g rZ te Q τ0 (upd H D (.lst [])):=by
 refine⟨fun i m τ H2=>m=xs.length-i/\i<=xs.length/\G τ/\ar H H2/\∃zs,H2 D=some (.lst zs)/\zs.length=i/\Pv i zs H2,⟨xs.length,by simp,zaM _,g0,ar.new hD _,[],aq,rfl,h0⟩,?_⟩
 rintro i m τ H2 ⟨rfl,hi,gt,s2,zs,h2,ly,p2⟩
 by_cases jL:i<xs.length
 ·have Vk:i<ys.length:=by lia
  refine .inr ⟨⟨xs,ys,xs[i],ys[i],s2.bj hx,s2.bj hy,zab jL,zab Vk⟩,fun τ' H'=>G τ'/\ar H H'/\∃zs,H' D=some (.lst zs)/\zs.length=i+1/\Pv (i+1) zs H',fun τ' H' ⟨h1,h3,h4⟩=>⟨xs.length-(i+1),by lia,rfl,jL,h1,h3,h4⟩,fun y H' TR=>?_⟩;obtain⟨p,u,v,rfl,hp,rfl,e1,e2⟩:=TR;simp only[rZ,if_true];refine step i u v zs τ H2 p (e1 _ (s2.bj hx)) (e2 _ (s2.bj hy)) gt s2 h2 ly p2 hp (fun τ' v H4=>_) fun τ' v H3 OI s3 p3=>⟨zs,s3 _ _ h2,?_,OI,?_,zs++[v],aq,by simp[ly],p3⟩
  ·have:zdu=2 ^ 24:=rfl;lia
  ·intro b o e;rw[aE (aH e hD)];exact s3 _ _ (s2 _ _ e)
 ·have e:i=xs.length:=by lia
  subst e;exact .inl ⟨⟨xs,ys,s2.bj hx,s2.bj hy,.inl (zam _)⟩,q zs H2 s2 h2 ly p2⟩
theorem Kz{X:Cx}{K:zaa}(e:X.K=K)(n:Nat){es:List Expr}{k:Nat}{pos:Pos}{t:IT}(hc:X.calm=true)(h:Pj X es t)
 (hn:(assignEach es X.env).length=n:=by rfl) (Ez:(assignEach es X.env).findIdx? (·.1)=none:=by rfl):PG X (.Tuple es k pos) (IU K n t):=e▸wY hc h hn Ez
theorem dO.dk{K:zaa}{H H':Hp}{D:zdm}{v:V}{rs:List PG.Rg}{kvs:List (Key×V)}(h:dO K H v rs)(hD:H D=some (.dK kvs))(u:aZ D H H'):dO K H' v rs:=by
 obtain⟨a,us,e,q,l,r⟩:=h;exact⟨a,us,e,q.dk hD u,l,fun i hi=>let ⟨x,ex,b,eb,hb⟩:=r i hi;⟨x,ex,b,eb,hb.dk hD u⟩⟩
theorem RelM.keys{K:zaa}{H:Hp}{kvs:List (Int×V)}{m:List (Int×List PG.Rg)}(h:RelM K H kvs m):kvs.map (·.1)=m.map (·.1):=by
 unfold RelM at h
 induction h with
 |nil=>rfl
 |cons a _ ih=>rw[zar,zar,ih,a.1]
theorem RelM.get{K:zaa}{H:Hp}{kvs:List (Int×V)}{m:List (Int×List PG.Rg)}(h:RelM K H kvs m)(k:Int):(bU kvs k=none/\bU m k=none)\/∃v u,bU kvs k=some v/\bU m k=some u/\dO K H v u:=by
 rcases Paired.bU (fun a b h=>h.1) k h with h |⟨v,u,h1,h2,h3⟩
 ·exact .inl h
 ·exact .inr ⟨v,u,h1,h2,h3.2⟩
theorem RelM.put{K:zaa}{H:Hp}{kvs:List (Int×V)}{m:List (Int×List PG.Rg)}(h:RelM K H kvs m){k:Int}{v:V}{u:List PG.Rg}(hv:dO K H v u):RelM K H (gS kvs k v) (gS m k u):=Paired.gS (fun a b h=>h.1) h ⟨rfl,hv⟩
theorem Ho{bs:List PG.ck}{rs:List PG.Rg}{ws:List Int}{st:PG.bh}:∀q∈PG.eF bs rs ws st,q.1∈ws\/q.1=0:=by
 have g0:ws.getD 0 0∈ws\/ws.getD 0 0=0:=by
  cases ws with
  |nil=>exact .inr rfl
  |cons a r=>exact .inl (by simp)
 have cond:∀(f:Bool->Option (List PG.Rg)) (q:Int×List PG.Rg),q∈PG.dy f (ws.zip [true,false])->q.1∈ws\/q.1=0:=fun f q hq=>by
  unfold PG.dy at hq;obtain⟨z,hz,e⟩:=zbk.mp hq;obtain⟨r,_,rfl⟩:=zaC.mp e;exact .inl (zcl hz).1
 intro q hq;cases st with
 |cg k sg l r=>exact cond _ q hq
 |ifs k sg l r a b=>exact cond _ q hq
 |eD k sg l r a=>exact cond _ q hq
 |_=>
  unfold PG.eF at hq;rw[zan.mp hq];exact g0
theorem Ef{pr:PG.Prog}{rs:List PG.Rg}{i:Nat}{hi:i<(PG.ax pr.body).length}{hf:i<(PG.aF pr.body 0).length}:∀q∈PG.eF pr.av rs (PG.aF pr.body 0)[i].2.2 (PG.ax pr.body)[i],OL pr q.1:=fun q hq=>by
 rcases Ho q hq with h |h
 ·rcases PG.kD pr.body 0 _ (zao hf) _ h with h |h |h
  ·exact .inl h
  ·exact .inl h
  ·exact .inr h
 ·exact .inl h
theorem rO(pr:PG.Prog):OL pr (PG.aW pr.body 0):=by
 cases h:pr.body with
 |nil=>exact .inl rfl
 |cons s r=>exact .inr ⟨s,by rw[h,PG.ax];exact zai.mpr (.inl (by cases s<;>simp[PG.cN])),by cases s<;>rfl⟩
theorem jy.get{K:zaa}{H:Hp}{us:List V}{ws:List (Int×List PG.Rg)}(h:jy K H us ws):∀ {i:Nat} {v:V},us[i]?=some v->∃w,ws[i]?=some w/\oV K H v w:=by
 induction h with
 |nil=>intro i v e;cases e
 |cons a _ ih=>
  intro i v e;cases i with
  |zero=>cases e;exact⟨_,rfl,a⟩
  |succ i=>exact ih e
theorem oV.dk{K:zaa}{H H':Hp}{D:zdm}{v:V}{w:Int×List PG.Rg}{kvs:List (Key×V)}(h:oV K H v w)(hD:H D=some (.dK kvs))(u:aZ D H H'):oV K H' v w:=by
 obtain⟨a,u',e,q,r⟩:=h;exact⟨a,u',e,q.dk hD u,r.dk hD u⟩
theorem zJ{J:It}{D:zdm}{g:TG}{tc:TT}{te:TE}{Q:VK}{τ0:St}{H:Hp}(G:St->Prop)(xs:List V)(p:Nat->Bool)
 (go:∀i H2,ar H H2->i<xs.length->J.go i H2) (stop:∀H2,ar H H2->J.stop xs.length H2) (wZ:∀i H2 x H3,ar H H2->i<xs.length->J.wZ i H2 x H3->H3=H2/\xs[i]?=some x)
 (hl:xs.length<=16000000) (hD:H D=none) (g0:G τ0)
 (step:∀i x τ H2,xs[i]?=some x->G τ->ar H H2->∀R:St->Bool->Hp->Prop,(∀τ' H3,G τ'->ar H2 H3->(∃v,∀R':VK,R' v H3->te τ' H3 R')->R τ' (p i) H3)->g x τ H2 fun τ' H'=>tc τ' H' (R τ'))
 (q:∀ys H2,ar H H2->H2 D=some (.lst ys)->ys.length=((zaz xs.length).filter p).length->Q (.ref D) H2):lU J D g tc te Q τ0 (upd H D (.lst [])):=by
 refine⟨fun i m τ H2=>m=xs.length-i/\i<=xs.length/\G τ/\ar H H2/\∃ys,H2 D=some (.lst ys)/\ys.length=((zaz i).filter p).length,⟨xs.length,by simp,zaM _,g0,ar.new hD _,[],aq,rfl⟩,?_⟩
 rintro i m τ H2 ⟨rfl,hi,gt,s2,ys,h2,ly⟩
 by_cases jL:i<xs.length
 ·refine .inr ⟨go i H2 s2 jL,fun τ' H'=>G τ'/\ar H H'/\∃ys,H' D=some (.lst ys)/\ys.length=((zaz (i+1)).filter p).length,fun τ' H' ⟨h1,h3,h4⟩=>⟨xs.length-(i+1),by lia,rfl,jL,h1,h3,h4⟩,fun y H' hy=>?_⟩;obtain⟨rfl,ey⟩:=wZ i H2 y H' s2 jL hy;refine step i y τ _ ey gt s2 (fun τ' b H3=>_) fun τ' H3 OI s3 zqz=>?_;obtain⟨v,hv⟩:=zqz;have lf:((zaz i).filter p).length<=i:=by
   have:=zc6 p (zaz i)
   rwa [zbu] at this
  cases hp:p i with
  |false=>
   rw[if_neg (by decide)];refine⟨OI,s2.trans s3,ys,s3 _ _ h2,?_⟩;rw[zbU,zcv,zap,ly];simp[hp]
  |true=>
   rw[if_pos rfl];refine hv _ ⟨ys,s3 _ _ h2,?_,OI,?_,ys++[v],aq,?_⟩
   ·have:zdu=2 ^ 24:=rfl;lia
   ·intro b o e;rw[aE (aH e hD)];exact s3 _ _ (s2 _ _ e)
   ·rw[zbU,zcv,zap,zap,ly];simp[hp]
 ·have e:i=xs.length:=by lia
  subst e;exact .inl ⟨stop H2 s2,q ys H2 s2 h2 ly⟩
mutual
def mU:PG.bh->Int->Bool
 |.ifs _ _ _ _ a b,k=>ib a k ||ib b k
 |.eD _ _ _ _ a,k=>ib a k
 |_,_=>false
def ib:List PG.bh->Int->Bool
 |[],_=>false
 |s::r,k=>if s.row=k then decide (s.wd=.ask) else mU s k ||ib r k
end
def xE (k:Int) (s:PG.bh):Bool:=decide (s.row=k)&&decide (s.wd=.ask)
theorem Hr{k:Int}{l:List PG.bh}(h:∀s∈l,s.row≠k):l.any (xE k)=false:=by
 rw[List.any_eq_false];intro s hs;unfold xE;rw[decide_eq_false (h s hs)];simp
mutual
theorem Eg(k:Int):∀s:PG.bh,(PG.cN s).Pairwise (fun a b=>a.row<b.row)->∃r,PG.cN s=s::r/\mU s k=r.any (xE k)
 |.ifs k1 sg l r a b,h=>by
  refine⟨PG.ax a++PG.ax b,by rw[PG.cN],?_⟩;rw[PG.cN,za1,zbq] at h;rw[mU,zcY,kL k a h.2.1,kL k b h.2.2.1]
 |.eD k1 sg l r a,h=>by
  refine⟨PG.ax a,by rw[PG.cN],?_⟩;rw[PG.cN,za1] at h;rw[mU,kL k a h.2]
 |.ask _ _,_=>⟨[],by simp[PG.cN],by simp[mU]⟩
 |.put _ _ _,_=>⟨[],by simp[PG.cN],by simp[mU]⟩
 |.say _ _,_=>⟨[],by simp[PG.cN],by simp[mU]⟩
 |.cg _ _ _ _,_=>⟨[],by simp[PG.cN],by simp[mU]⟩
 |.stop _,_=>⟨[],by simp[PG.cN],by simp[mU]⟩
theorem kL(k:Int):∀b:List PG.bh,(PG.ax b).Pairwise (fun a b=>a.row<b.row)->ib b k=(PG.ax b).any (xE k)
 |[],_=>by simp[ib,PG.ax]
 |s::r,h=>by
  rw[PG.ax,zbq] at h;obtain⟨t,e,ea⟩:=Eg k s h.1;rw[ib,PG.ax,zcY,e,zbv,ea,kL k r h.2.1];rw[e,za1] at h;by_cases z:s.row=k
  ·rw[if_pos z,Hr (l:=t) fun x hx=>by have:=h.1.1 x hx;lia,Hr (l:=PG.ax r) fun x hx=>by have:=h.2.2 s (by simp) x hx;lia];unfold xE;rw[decide_eq_true z];simp
  ·rw[if_neg z];have:xE k s=false:=by unfold xE;rw[decide_eq_false z];rfl
   rw[this,zcw]
end
theorem KA{pr:PG.Prog}(ok:pL pr){i:Nat}(hi:i<(PG.ax pr.body).length):ib pr.body (PG.ax pr.body)[i].row=decide ((PG.ax pr.body)[i].wd=.ask):=by
 rw[kL _ _ ok.pw,za0,zbB,decide_eq_true_eq]
 constructor
 ·rintro ⟨s,hs,e⟩
  unfold xE at e;rw[za4,decide_eq_true_eq,decide_eq_true_eq] at e;obtain⟨j,hj,rfl⟩:=za6.mp hs;have:j=i:=by
   have pw:=ok.pw;rw[zbb] at pw;rcases zcC j i with h |h |h
   ·have:=pw j i hj hi h;lia
   ·exact h
   ·have:=pw i j hi hj h;lia
  subst this;exact e.2
 ·intro h;refine⟨_,zao hi,?_⟩;unfold xE;rw[decide_eq_true rfl,decide_eq_true h];rfl
def Bl (rs:List PG.Rg) (vals:List Int) (k:Nat):Bool:=decide (vals.getD k 0<(rs.getD k (0,0)).1) ||decide (vals.getD k 0>(rs.getD k (0,0)).2)
theorem xF{rs:List PG.Rg}{vals:List Int}(l:vals.length=rs.length):((zaz vals.length).filter (Bl rs vals)).length=0↔gR rs vals:=by
 rw[zbT,List.filter_eq_nil_iff]
 constructor
 ·refine fun h=>⟨l,fun i v r e1 e2=>?_⟩
  have hi:=(zal.mp e1).1;have:=h i (zbz.mpr hi);unfold Bl at this;rw[zaf,e1,zaf,e2] at this;simp only[zbO,zcm,decide_eq_true_eq,not_or] at this;unfold In;lia
 ·intro h i hi;have hi:=zbz.mp hi;have h2:i<rs.length:=by lia
  have:=h.2 i _ _ (zab hi) (zab h2);unfold Bl;rw[zaf,zab hi,zaf,zab h2];simp only[zbO,zcm,decide_eq_true_eq,not_or];unfold In at this;lia
section
variable(K:zaa)
def xG (n:Nat):Sp:=fun vs H Q _=>∃(b:zdm) (body:List PG.bh) (k:Int),vs=[.ref b,.int k]/\Rep K H (.lst (body.map dY)) (.ref b)/\PG.dD body<n/\(PG.dQ body).length<=1000/\∀H',ar H H'->Q (.bl (ib body k)) H'
def Hs:Sp:=fun vs H Q _=>∃(rv:V) (va:zdm) (rs:List PG.Rg) (vals:List Int),vs=[rv,.ref va]/\dO K H rv rs/\bS K H va (vals.map V.int)/\vals.length=rs.length/\vals.length<=10/\∀b H',ar H H'->(b=true↔gR rs vals)->Q (.bl b) H'
def NU:Sp:=fun vs H Q _=>∃(L sa:zdm) (us:List V) (iW:List (Int×List PG.Rg)) (row:Int) (vals:List Int),vs=[.ref L,.ref sa]/\H L=some (.lst us)/\jy K H us iW/\iW.length<=2/\de K H sa row vals/\vals.length<=10/\(∀q∈iW,vals.length=q.2.length)/\
 ∀L' Bm H',ar H H'->H' L'=some (.lst Bm)->((∃q∈iW,q.1=row/\gR q.2 vals)->Bm≠[])->Q (.ref L') H'
def zK (H:Hp) (kn:zdm) (m:List (Int×List PG.Rg)):Prop:=∃kvs,H kn=some (.dK kvs)/\∀k u,bU m k=some u->∃v,cB kvs (.inl k)=some v/\dO K H v u
def zL:Sp:=fun vs H Q _=>∃(pv bv:V) (kn sa:zdm) (pr:PG.Prog) (m:List (Int×List PG.Rg)) (i:Nat) (hi:i<(PG.ax pr.body).length) (hf:i<(PG.aF pr.body 0).length) (vals:List Int) (rs:List PG.Rg) (fig:Int),vs=[pv,.ref kn,.ref sa,bv,.bl (decide ((PG.ax pr.body)[i].wd=.ask))]/\Rep K H (j5 pr) pv/\NT pr/\zK K H kn m/\de K H sa (PG.ax pr.body)[i].row vals/\vals.length=pr.av.length/\(∀v∈vals,0<=v/\v<=9)/\
 bU m (PG.ax pr.body)[i].row=some rs/\jz pr.av rs/\gR rs vals/\lW K H (fc pr.av (PG.ax pr.body)[i] (PG.aF pr.body 0)[i].2.2 vals fig).1 bv/\∀H',ar H H'->Q (.bl true) H'
end
def Ap:PG.bh->List (List PG.bh)
 |.ifs _ _ _ _ a b=>[a,b]
 |.eD _ _ _ _ a=>[a]
 |_=>[]
theorem Ht(s:PG.bh)(k:Int):mU s k=(Ap s).any fun b=>ib b k:=by
 cases s<;>simp[mU,Ap]
theorem KC{s:PG.bh}:∀b∈Ap s,PG.dD b<PG.ic s/\(PG.dQ b).length<=(PG.iI s).length:=by
 intro b hb;cases s with
 |ifs k sg l r a c=>
  rw[PG.ic,PG.iI];simp only[Ap,zag,zaR,or_false] at hb;rcases hb with rfl |rfl
  ·exact⟨by lia,by simp only[zak,zap];lia⟩
  ·exact⟨by lia,by simp only[zak,zap];lia⟩
 |eD k sg l r a=>
  rw[PG.ic,PG.iI];simp only[Ap,zag,zaR,or_false] at hb;rw[hb];exact⟨by lia,by simp only[zak];lia⟩
 |_=>cases hb
theorem CL:∀ {b:List PG.bh} {s:PG.bh},s∈b->PG.ic s<=PG.dD b/\(PG.iI s).length<=(PG.dQ b).length
 |x::r,s,h=>by
  rw[PG.dD,PG.dQ,zap];rcases zag.mp h with rfl |h
  ·lia
  ·have:=CL h;lia
theorem Eh{K:zaa}{H:Hp}{st:PG.bh}{v:V}(h:Rep K H (dY st) v):∃a w0 ys,v=.ref a/\bS K H a (.str w0 :: .int st.row::ys)/\aN K H ((Ap st).map fun b=>.lst (b.map dY)) (ys.drop 3)/\decide (w0 = "ask")=decide (st.wd=.ask)/\(Ap st≠[]->w0 = "if"\/w0 = "while"):=by
 have d0:decide (("put":Str) = "ask")=false:=by decide +kernel
 have d1:decide (("say":Str) = "ask")=false:=by decide +kernel
 have d2:decide (("must":Str) = "ask")=false:=by decide +kernel
 have d3:decide (("stop":Str) = "ask")=false:=by decide +kernel
 have d4:decide (("if":Str) = "ask")=false:=by decide +kernel
 have d5:decide (("while":Str) = "ask")=false:=by decide +kernel
 cases st with
 |ask k b=>
  simp only[dY,Rep.a0,aN.aJ,aN.bu,Rep.br,Rep.bg] at h;obtain⟨a,xs,rfl,hS,_,_,rfl,rfl,_,_,rfl,rfl,_,_,rfl,rfl,rfl⟩:=h;exact⟨a,_,_,rfl,hS,.nil,by rw[decide_eq_true rfl];exact(decide_eq_true rfl).symm,fun z=>absurd rfl z⟩
 |put k b e=>
  simp only[dY,Rep.a0,aN.aJ,aN.bu,Rep.br,Rep.bg] at h;obtain⟨a,xs,rfl,hS,_,_,rfl,rfl,_,_,rfl,rfl,_,_,rfl,rfl,_,_,rfl,_,rfl⟩:=h;exact⟨a,_,_,rfl,hS,.nil,d0,fun z=>absurd rfl z⟩
 |say k e=>
  simp only[dY,Rep.a0,aN.aJ,aN.bu,Rep.br,Rep.bg] at h;obtain⟨a,xs,rfl,hS,_,_,rfl,rfl,_,_,rfl,rfl,_,_,rfl,_,rfl⟩:=h;exact⟨a,_,_,rfl,hS,.nil,d1,fun z=>absurd rfl z⟩
 |cg k sg l r=>
  simp only[dY,Rep.a0,aN.aJ,aN.bu,Rep.br,Rep.bg] at h;obtain⟨a,xs,rfl,hS,_,_,rfl,rfl,_,_,rfl,rfl,_,_,rfl,rfl,_,_,rfl,_,_,_,rfl,_,rfl⟩:=h;exact⟨a,_,_,rfl,hS,.nil,d2,fun z=>absurd rfl z⟩
 |stop k=>
  simp only[dY,Rep.a0,aN.aJ,aN.bu,Rep.br,Rep.bg] at h;obtain⟨a,xs,rfl,hS,_,_,rfl,rfl,_,_,rfl,rfl,rfl⟩:=h;exact⟨a,_,_,rfl,hS,.nil,d3,fun z=>absurd rfl z⟩
 |ifs k sg l r x y=>
  unfold dY at h;rw[cy,cy] at h;simp only[Rep.a0,aN.aJ,aN.bu,Rep.br,Rep.bg] at h;obtain⟨a,xs,rfl,hS,_,_,rfl,rfl,_,_,rfl,rfl,_,_,rfl,rfl,_,_,rfl,_,_,_,rfl,_,vx,_,rfl,rx,vy,_,rfl,ry,rfl⟩:=h;exact⟨a,_,_,rfl,hS,.cons rx (.cons ry .nil),d4,fun _=>.inl rfl⟩
 |eD k sg l r x=>
  unfold dY at h;rw[cy] at h;simp only[Rep.a0,aN.aJ,aN.bu,Rep.br,Rep.bg] at h;obtain⟨a,xs,rfl,hS,_,_,rfl,rfl,_,_,rfl,rfl,_,_,rfl,rfl,_,_,rfl,_,_,_,rfl,_,vx,_,rfl,rx,rfl⟩:=h;exact⟨a,_,_,rfl,hS,.cons rx .nil,d5,fun _=>.inr rfl⟩
end L2
namespace L2
open PySem PyProof.Rows
theorem Ei{K:zaa}{H:Hp}{ps:List zdm}{pj:List (Int×V)}(pa:xx H ps pj):∃Z:List (zdm×Key×V),Z.map (fun q=>V.ref q.1)=ps.map V.ref/\(∀q∈Z,bS K H q.1 [kV q.2.1,q.2.2])/\Z.map (fun q=>(q.2.1,q.2.2))=pj.map kI/\Z.length=pj.length:=by
 obtain⟨l,g⟩:=pa;refine⟨(ps.zip pj).map fun z=>(z.1,(Sum.inl z.2.1:Key),z.2.2),?_,fun q hq=>?_,?_,?_⟩
 ·rw[zaN];have:(ps.zip pj).map (fun z=>V.ref z.1)=((ps.zip pj).map (·.1)).map V.ref:=by rw[zaN];rfl
  have e:((fun q:zdm×Key×V=>V.ref q.1) ∘ fun z:zdm×Int×V=>(z.1,(Sum.inl z.2.1:Key),z.2.2))=fun z=>V.ref z.1:=rfl;rw[e,this,List.map_fst_zip (by lia)]
 ·obtain⟨z,hz,rfl⟩:=zaF.mp hq;obtain⟨i,hi⟩:=zbr hz;obtain⟨h1,h2⟩:=zbK.mp hi;exact .of (g i _ _ h1 h2)
 ·rw[zaN];have:(ps.zip pj).map (fun z=>kI z.2)=((ps.zip pj).map (·.2)).map kI:=by rw[zaN];rfl
  have e:((fun q:zdm×Key×V=>(q.2.1,q.2.2)) ∘ fun z:zdm×Int×V=>(z.1,(Sum.inl z.2.1:Key),z.2.2))=fun z=>kI z.2:=rfl;rw[e,this,List.map_snd_zip (by lia)]
 ·rw[zae,zbF];lia
theorem Q9{pj:List (Int×V)}(pw:pj.Pairwise (fun a b=>a.1<b.1)):((pj.map kI).map (·.1)).Nodup:=by
 rw[zaN,zcz,zaX];exact pw.imp fun {a b} h z=>by
  have:(Sum.inl a.1:Key)=Sum.inl b.1:=z
  injection this with z
  lia
theorem Ra{K:zaa}{H:Hp}{kvs pj:List (Int×V)}{m:List (Int×List PG.Rg)}(rel:RelM K H kvs m)(pm:pj.Perm kvs)(pw:pj.Pairwise (fun a b=>a.1<b.1)){k:Int}{u:List PG.Rg}(h:bU m k=some u):∃v,cB (pj.map kI) (.inl k)=some v/\dO K H v u:=by
 rcases rel.get k with z |⟨v,u',h1,h2,h3⟩
 ·rw[h] at z;cases z.2
 ·rw[h] at h2;cases h2;refine⟨v,?_,h3⟩;rw[xD];refine CJ ?_ (pm.mem_iff.mpr (get_mem h1));rw[zcz,zaX];exact pw.imp fun {a b} h=>by lia
theorem zK.mono{K:zaa}{H H':Hp}{kn:zdm}{m:List (Int×List PG.Rg)}(h:zK K H kn m)(s:ar H H'):zK K H' kn m:=by
 obtain⟨kvs,e,g⟩:=h;exact⟨kvs,s _ _ e,fun k u hk=>let ⟨v,h1,h2⟩:=g k u hk;⟨v,h1,h2.mono s⟩⟩
structure vz(pr:PG.Prog)(m:List (Int×List PG.Rg))(row:Int)(vals:List Int):Prop where
 rw_:row=0\/∃i,∃hi:i<(PG.ax pr.body).length,(PG.ax pr.body)[i].row=row
 len:vals.length=pr.av.length
 hold:∃u,bU m row=some u/\jz pr.av u/\gR u vals
theorem vz.small{pr:PG.Prog}{m:List (Int×List PG.Rg)}{row:Int}{vals:List Int}(d:vt pr)(h:vz pr m row vals):∀v∈vals,0<=v/\v<=9:=fun v hv=>by
 obtain⟨u,_,h2,h3⟩:=h.hold;obtain⟨i,hi⟩:=zbr hv;have li:i<pr.av.length:=by rw[<- h.len];exact(zal.mp hi).1
 have lu:i<u.length:=by rw[h2.bd.1];exact li
 have a1:=h3.2 i v _ hi (zab lu);have a2:=h2.bd.2 i _ _ (zab lu) (zab li);have a3:=d.size _ (zao li);unfold L2.In at a1;unfold xA at a2;lia
theorem vz.first{pr:PG.Prog}{m:List (Int×List PG.Rg)}{w:List Int}(li:LI pr m w):vz pr m (PG.aW pr.body 0) (pr.av.map (·.first)):=by
 obtain⟨u,h1,h2⟩:=li.lm.first;have h3:=(li.lm.Cz _ (get_mem h1))
 refine⟨?_,by rw[zae],u,h1,h3.1,(kH _).sub h2⟩;rcases rO pr with h |⟨s,hs,e⟩
 ·exact .inl h
 ·obtain⟨i,hi,rfl⟩:=za6.mp hs;exact .inr ⟨i,hi,e⟩
theorem vz.step{pr:PG.Prog}{m:List (Int×List PG.Rg)}{i:Nat}{hi:i<(PG.ax pr.body).length}{hf:i<(PG.aF pr.body 0).length}{vals:List Int}(d:vt pr)(li:LI pr m [])(h:vz pr m (PG.ax pr.body)[i].row vals){fig:Int}{x:Int×List Int}(e:(fc pr.av (PG.ax pr.body)[i] (PG.aF pr.body 0)[i].2.2 vals fig).1=some x):vz pr m x.1 x.2:=by
 have own:=PG.iy pr.body _ d.own (zao hi);have LN:=Paired.G4 (vw pr.body 0) (zab hi) (zab hf);have Rb:∀b∈pr.av,0<b.size:=fun b hb=>by have:=d.size b hb;lia
 obtain⟨u,h1,h2,h3⟩:=h.hold;have st:=xr.step d hi hf h.len (fun v hv=>by have:=h.small d v hv;lia) (x:=x) (s:=(fc pr.av (PG.ax pr.body)[i] (PG.aF pr.body 0)[i].2.2 vals fig).2) (by rw[<- e]);obtain⟨q,hq,e1,e2⟩:=CH (fig:=fig) h3 h.len d.ok.nb own Rb LN e;rcases li.Ed _ _ h1 with z |c
 ·cases z
 ·obtain⟨u',g1,g2⟩:=c i hi hf rfl q hq;rw[e1] at g1;exact⟨st.row,st.len,u',g1,(li.lm.Cz _ (get_mem g1)).1,e2.sub g2⟩
theorem zK.gC{K:zaa}{H H':Hp}{kn D:zdm}{ys:List V}{m:List (Int×List PG.Rg)}(h:zK K H kn m)(hD:H D=some (.lst ys))(u:aZ D H H'):zK K H' kn m:=by
 obtain⟨kvs,e,g⟩:=h;have ne:kn≠D:=fun z=>by rw[z,hD] at e;cases e
 exact⟨kvs,u _ _ ne e,fun k u' hk=>let ⟨v,h1,h2⟩:=g k u' hk;⟨v,h1,h2.gC hD u⟩⟩
end L2
section
set_option maxHeartbeats 4000000
namespace NV
open PySem L2
def top (i:Nat):Stmt:=PySem.Challenge.pw_everyrow_k38_whole_no_run_leaves_ranges.main.body.getD i (.Pass ⟨0,0,0,0⟩)
abbrev Bn:Stmt:=top 2
abbrev jA:Stmt:=top 3
abbrev mV:Stmt:=top 4
abbrev j7:Stmt:=top 5
abbrev qM:Stmt:=top 6
abbrev mW:Stmt:=top 7
abbrev iX:Stmt:=top 8
abbrev xH:Stmt:=top 10
abbrev qN:Stmt:=top 13
abbrev oX:Stmt:=top 14
abbrev oY:Stmt:=top 15
abbrev xI:Stmt:=top 16
abbrev mX:Stmt:=top 18
abbrev jB:Stmt:=top 19
abbrev oZ:Stmt:=top 20
abbrev qO:Stmt:=top 21
abbrev j8:Stmt:=top 22
abbrev lF:Stmt:=top 23
abbrev ij:Stmt:=top 24
abbrev iY:Stmt:=top 25
abbrev j9:Stmt:=top 26
abbrev iZ:Stmt:=top 27
abbrev ik:Stmt:=top 28
abbrev gb:Stmt:=top 29
abbrev jC:Stmt:=top 30
abbrev qP:Stmt:=top 31
abbrev il:Stmt:=top 33
abbrev Bo:Stmt:=top 34
abbrev qQ:Stmt:=top 35
abbrev gE:Stmt:=top 36
abbrev mY:Stmt:=top 38
abbrev lG:Stmt:=top 39
abbrev lH:Stmt:=top 40
abbrev mZ:Stmt:=top 41
abbrev uB:Stmt:=top 42
abbrev lI:Stmt:=top 43
abbrev m4:Stmt:=top 44
abbrev m5:Stmt:=top 45
abbrev ka:Stmt:=top 46
abbrev o9:Stmt:=top 47
abbrev gV:Stmt:=top 48
abbrev HA:Stmt:=top 49
abbrev cW:Stmt:=inClass (top 12) 0
theorem CM:bc ["program"] ["program"] (aM Bn):=⟨rfl,rfl,rfl,by decide +kernel,rfl,by decide +kernel,by decide +kernel⟩
theorem lZ:bc ["body", "behind", "told", "place", "statement", "after", "inner"] ["body", "behind"] (aM jA):=⟨rfl,rfl,rfl,by decide +kernel,rfl,by decide +kernel,by decide +kernel⟩
theorem pT:bc ["body", "behind"] ["body", "behind"] (aM mV):=⟨rfl,rfl,rfl,by decide +kernel,rfl,by decide +kernel,by decide +kernel⟩
theorem m6:bc ["statement", "after"] ["statement", "after"] (aM j7):=⟨rfl,rfl,rfl,by decide +kernel,rfl,by decide +kernel,by decide +kernel⟩
theorem uC:bc ["statement", "after", "word"] ["statement", "after"] (aM qM):=⟨rfl,rfl,rfl,by decide +kernel,rfl,by decide +kernel,by decide +kernel⟩
theorem pU:bc ["statement"] ["statement"] (aM mW):=⟨rfl,rfl,rfl,by decide +kernel,rfl,by decide +kernel,by decide +kernel⟩
theorem kM:bc ["body", "found", "statement", "inner"] ["body"] (aM iX):=⟨rfl,rfl,rfl,by decide +kernel,rfl,by decide +kernel,by decide +kernel⟩
theorem zM:bc ["e", "values", "kind", "left", "right"] ["e", "values"] (aM xH):=⟨rfl,rfl,rfl,by decide +kernel,rfl,by decide +kernel,by decide +kernel⟩
theorem uD:bc ["chart", "row"] ["chart", "row"] (aM qN):=⟨rfl,rfl,rfl,by decide +kernel,rfl,by decide +kernel,by decide +kernel⟩
theorem rP:bc ["chart", "parts"] ["chart", "parts"] (aM oX):=⟨rfl,rfl,rfl,by decide +kernel,rfl,by decide +kernel,by decide +kernel⟩
theorem rQ:bc ["chart", "named"] ["chart", "named"] (aM oY):=⟨rfl,rfl,rfl,by decide +kernel,rfl,by decide +kernel,by decide +kernel⟩
theorem zN:bc ["chart", "standing", "statement", "values", "left", "right"] ["chart", "standing"] (aM xI):=⟨rfl,rfl,rfl,by decide +kernel,rfl,by decide +kernel,by decide +kernel⟩
theorem pV:bc ["program", "row", "ranges"] ["program", "row", "ranges"] (aM mX):=⟨rfl,rfl,rfl,by decide +kernel,rfl,by decide +kernel,by decide +kernel⟩
theorem l3:bc ["program", "chart", "found", "waiting", "row", "way", "before", "both"] ["program"] (aM jB):=⟨rfl,rfl,rfl,by decide +kernel,rfl,by decide +kernel,by decide +kernel⟩
theorem rS:bc ["e", "named", "kind", "left", "right", "products"] ["e", "named"] (aM oZ):=⟨rfl,rfl,rfl,by decide +kernel,rfl,by decide +kernel,by decide +kernel⟩
theorem uF:bc ["chart", "row", "ranges", "word", "statement", "named"] ["chart", "row", "ranges"] (aM qO):=⟨rfl,rfl,rfl,by decide +kernel,rfl,by decide +kernel,by decide +kernel⟩
theorem m7:bc ["size"] ["size"] (aM j8):=⟨rfl,rfl,rfl,by decide +kernel,rfl,by decide +kernel,by decide +kernel⟩
theorem ox:bc ["worths", "size"] ["worths", "size"] (aM lF):=⟨rfl,rfl,rfl,by decide +kernel,rfl,by decide +kernel,by decide +kernel⟩
theorem jU:bc ["chart", "row", "ranges", "told", "way", "truth", "narrowed"] ["chart", "row", "ranges"] (aM ij):=⟨rfl,rfl,rfl,by decide +kernel,rfl,by decide +kernel,by decide +kernel⟩
theorem kN:bc ["chart", "row", "truth", "ranges", "statement", "sign", "named", "left", "right", "name", "narrowed"] ["chart", "row", "truth", "ranges"] (aM iY):=⟨rfl,rfl,rfl,by decide +kernel,rfl,by decide +kernel,by decide +kernel⟩
theorem m8:bc ["sign", "truth", "left", "right"] ["sign", "truth", "left", "right"] (aM j9):=⟨rfl,rfl,rfl,by decide +kernel,rfl,by decide +kernel,by decide +kernel⟩
theorem kO:bc ["sign", "truth", "own", "left", "right"] ["sign", "truth", "own", "left", "right"] (aM iZ):=⟨rfl,rfl,rfl,by decide +kernel,rfl,by decide +kernel,by decide +kernel⟩
theorem jV:bc ["sign", "truth", "own", "left", "right"] ["sign", "truth", "own", "left", "right"] (aM ik):=⟨rfl,rfl,rfl,by decide +kernel,rfl,by decide +kernel,by decide +kernel⟩
theorem iL:bc ["truth", "own", "near", "far", "low", "high"] ["truth", "own", "near", "far"] (aM gb):=⟨rfl,rfl,rfl,by decide +kernel,rfl,by decide +kernel,by decide +kernel⟩
theorem l6:bc ["chart"] ["chart"] (aM jC):=⟨rfl,rfl,rfl,by decide +kernel,rfl,by decide +kernel,by decide +kernel⟩
theorem uG:bc ["one", "other"] ["one", "other"] (aM qP):=⟨rfl,rfl,rfl,by decide +kernel,rfl,by decide +kernel,by decide +kernel⟩
theorem jW:bc ["program"] ["program"] (aM il):=⟨rfl,rfl,rfl,by decide +kernel,rfl,by decide +kernel,by decide +kernel⟩
theorem CN:bc ["program", "standing", "figure"] ["program", "standing", "figure"] (aM Bo):=⟨rfl,rfl,rfl,by decide +kernel,rfl,by decide +kernel,by decide +kernel⟩
theorem uH:bc ["chart", "standing", "figure", "row", "statement", "word", "values", "said"] ["chart", "standing", "figure"] (aM qQ):=⟨rfl,rfl,rfl,by decide +kernel,rfl,by decide +kernel,by decide +kernel⟩
theorem i4:bc ["chart", "standing", "row"] ["chart", "standing"] (aM gE):=⟨rfl,rfl,rfl,by decide +kernel,rfl,by decide +kernel,by decide +kernel⟩
theorem pW:bc ["state", "many", "found"] ["state", "many"] (aM mY):=⟨rfl,rfl,rfl,by decide +kernel,rfl,by decide +kernel,by decide +kernel⟩
theorem oy:bc ["script", "k", "cell", "small"] ["script", "k"] (aM lG):=⟨rfl,rfl,rfl,by decide +kernel,rfl,by decide +kernel,by decide +kernel⟩
theorem oA:bc ["script", "state", "names", "boxes", "name", "size"] ["script"] (aM lH):=⟨rfl,rfl,rfl,by decide +kernel,rfl,by decide +kernel,by decide +kernel⟩
theorem pX:bc ["state", "boxes"] ["state", "boxes"] (aM mZ):=⟨rfl,rfl,rfl,by decide +kernel,rfl,by decide +kernel,by decide +kernel⟩
theorem wI:bc ["state", "boxes", "sign", "leaf", "other"] ["state", "boxes"] (aM uB):=⟨rfl,rfl,rfl,by decide +kernel,rfl,by decide +kernel,by decide +kernel⟩
theorem oB:bc ["state", "boxes", "row", "kind"] ["state", "boxes", "row"] (aM lI):=⟨rfl,rfl,rfl,by decide +kernel,rfl,by decide +kernel,by decide +kernel⟩
theorem pY:bc ["script", "boxes", "root", "pile", "seconds", "row", "k", "state", "kind", "sides", "word", "bodies"] ["script", "boxes"] (aM m4):=⟨rfl,rfl,rfl,by decide +kernel,rfl,by decide +kernel,by decide +kernel⟩
theorem pZ:bc ["body", "row", "one", "inner"] ["body", "row"] (aM m5):=⟨rfl,rfl,rfl,by decide +kernel,rfl,by decide +kernel,by decide +kernel⟩
theorem m9:bc ["ranges", "values"] ["ranges", "values"] (aM ka):=⟨rfl,rfl,rfl,by decide +kernel,rfl,by decide +kernel,by decide +kernel⟩
theorem rT:bc ["ways", "standing"] ["ways", "standing"] (aM o9):=⟨rfl,rfl,rfl,by decide +kernel,rfl,by decide +kernel,by decide +kernel⟩
theorem jD:bc ["program", "known", "standing", "behind", "asks", "row", "values", "single", "due"] ["program", "known", "standing", "behind", "asks"] (aM gV):=⟨rfl,rfl,rfl,by decide +kernel,rfl,by decide +kernel,by decide +kernel⟩
theorem HB:bc ["script", "boxes", "program", "known", "standing", "figures", "turn", "asks", "figure", "behind"] ["script"] (aM HA):=⟨rfl,rfl,rfl,by decide +kernel,rfl,by decide +kernel,by decide +kernel⟩
theorem oC:bc ["self", "program", "boxes", "body"] ["self", "program"] (aM cW):=⟨rfl,rfl,rfl,by decide +kernel,rfl,by decide +kernel,by decide +kernel⟩
set_option genInjectivity false in
structure Ad where
 nh:zdm
 lJ:zdv
 dh:zdm
 dA:zdv
 c0:zdm
 cX:zdv
 eV:zdm
 fw:zdv
 ji:zdm
 jE:zdv
 fz:zdm
 fK:zdv
 bN:zdm
 bQ:zdv
 lK:zdm
 kP:zdv
 kQ:zdm
 lL:zdv
 jF:zdm
 jX:zdv
 jG:zdm
 jY:zdv
 p0:zdm
 qb:zdv
 iM:zdm
 i7:zdv
 fA:zdm
 gp:zdv
 gF:zdm
 gK:zdv
 kR:zdm
 lM:zdv
 gg:zdm
 gX:zdv
 gY:zdm
 iB:zdv
 dZ:zdm
 fe:zdv
 eO:zdm
 fL:zdv
 gh:zdm
 gZ:zdv
 eP:zdm
 fM:zdv
 d9:zdm
 ff:zdv
 cS:zdm
 dG:zdv
 fC:zdm
 gw:zdv
 kS:zdm
 lN:zdv
 ef:zdm
 fg:zdv
 uI:zdm
 tj:zdv
 kT:zdm
 lO:zdv
 di:zdm
 dU:zdv
 iN:zdm
 i8:zdv
 g7:zdm
 iC:zdv
 g9:zdm
 iD:zdv
 iO:zdm
 i9:zdv
 ni:zdm
 nN:zdv
 hG:zdm
 iE:zdv
 iP:zdm
 ja:zdv
 fD:zdm
 fN:zdv
 gi:zdm
 hJ:zdv
 jH:zdm
 jZ:zdv
 dH:zdm
 eG:zdv
 CO:zdm
 qR:zdv
 cY:zdm
 kb:zdv
 aS:zdm
set_option genInjectivity false in
structure Tx(K:zaa)(mg:Str->Option zdn)(t:Ad):Prop where
 qS:bW K mg "flow" Bn ["program"] t.nh t.lJ
 cu:bW K mg "flow_of_body" jA ["body", "behind"] t.dh t.dA
 bC:bW K mg "first_row" mV ["body", "behind"] t.c0 t.cX
 eW:bW K mg "behind_body" j7 ["statement", "after"] t.eV t.fw
 jj:bW K mg "ways_of" qM ["statement", "after"] t.ji t.jE
 dI:bW K mg "bodies_in" mW ["statement"] t.fz t.fK
 bY:bW K mg "statements_in" iX ["body"] t.bN t.bQ
 cE:bW K mg "worth" xH ["e", "values"] t.lK t.kP
 fO:bW K mg "word_at" qN ["chart", "row"] t.kQ t.lL
 b8:bW K mg "by_names" oX ["chart", "parts"] t.jF t.jX
 cO:bW K mg "in_order" oY ["chart", "named"] t.jG t.jY
 nO:bW K mg "holds" xI ["chart", "standing"] t.p0 t.qb
 dJ:bW K mg "ways_from" mX ["program", "row", "ranges"] t.iM t.i7
 eA:bW K mg "least_ranges" jB ["program"] t.fA t.gp
 bK:bW K mg "range_by" oZ ["e", "named"] t.gF t.gK
 fP:bW K mg "ways_by" qO ["chart", "row", "ranges"] t.kR t.lM
 cF:bW K mg "whole_range" j8 ["size"] t.gg t.gX
 fQ:bW K mg "rest_range" lF ["worths", "size"] t.gY t.iB
 c7:bW K mg "condition_ways" ij ["chart", "row", "ranges"] t.dZ t.fe
 dB:bW K mg "ranges_behind" iY ["chart", "row", "truth", "ranges"] t.eO t.fL
 eX:bW K mg "may_be_gone" j9 ["sign", "truth", "left", "right"] t.gh t.gZ
 dC:bW K mg "narrowed_left" iZ ["sign", "truth", "own", "left", "right"] t.eP t.fM
 c8:bW K mg "narrowed_right" ik ["sign", "truth", "own", "left", "right"] t.d9 t.ff
 bD:bW K mg "narrowed_by_equal" gb ["truth", "own", "near", "far"] t.cS t.dG
 eC:bW K mg "first_ranges" jC ["chart"] t.fC t.gw
 jk:bW K mg "spanned" qP ["one", "other"] t.kS t.lN
 c9:bW K mg "first_standing" il ["program"] t.ef t.fg
 qT:bW K mg "step" Bo ["program", "standing", "figure"] t.uI t.tj
 jl:bW K mg "step_by" qQ ["chart", "standing", "figure"] t.kT t.lO
 cC:bW K mg "behind_condition" gE ["chart", "standing"] t.di t.dU
 au:bW K mg "_law_take" mY ["state", "many"] t.iN t.i8
 bZ:bW K mg "_law_state" lG ["script", "k"] t.g7 t.iC
 fR:bW K mg "_law_boxes" lH ["script"] t.g9 t.iD
 bM:bW K mg "_law_leaf" mZ ["state", "boxes"] t.iO t.i9
 cA:bW K mg "_law_e" uB ["state", "boxes"] t.ni t.nN
 fT:bW K mg "_law_plain" lI ["state", "boxes", "row"] t.hG t.iE
 gM:bW K mg "_law_body" m4 ["script", "boxes"] t.iP t.ja
 dM:bW K mg "_law_asks" m5 ["body", "row"] t.fD t.fN
 bA:bW K mg "_law_within" ka ["ranges", "values"] t.gi t.hJ
 eI:bW K mg "_law_led" o9 ["ways", "standing"] t.jH t.jZ
 cL:bW K mg "_law_step_right" gV ["program", "known", "standing", "behind", "asks"] t.dH t.eG
 CQ:bW K mg "law" HA ["script"] t.CO t.qR
 jb:Iz K "__init__" "Chart.__init__" cW t.cY t.kb
 jc:Binds K t.kb ["self", "program"] []
 bG:Lc K t.aS
 qc:mg "Chart"=some (.ref t.aS)
 kU:Mk K t.aS t.cY
 fE:iT K t.aS "names"
 dq:iT K t.aS "sizes"
 du:iT K t.aS "first"
 bI:iT K t.aS "statements"
 c5:iT K t.aS "ways"
 xJ:∃u,mg "END"=some u/\RelV (.int 0) u
 l7:mg "len"=none
 nP:mg "range"=none
 CS:mg "int"=none
 pd:mg "dict"=none
 jd:mg "tuple"=none
 HC:mg "any"=none
 rV:mg "max"=none
 qd:mg "min"=none
 nj:mg "enumerate"=none
 zO:mg "zip"=none
 uJ:mg "sorted"=none
end NV
end
section
set_option maxHeartbeats 4000000
namespace NV
open PySem L2
local macro_rules | `(tactic|walk_at "rd")=>`(tactic|((try dsimp only[E9,Fc,EX,Mn,EY,Td,Ml,E2,Pl,TJ,MK,Tw,Fh,w6,Le,My,yE,BW,BU,To,rU,Qj,BM,BN,BO,La,E1,K9,IU,E3,Mr,Ms,Ll,IS,C9,B6,Lm,FD,FE,FF,FG,FI,FJ,FK,FL,FN,FO,Cg,Ci,Cj,Cn,Co,Qq,Qg,Mp,EZ,E4,jn,Ln,Lo,zct,B7,B8,FQ,Cb,Cc,yQ,xt,Gz,GA,GB,Cd,Lp,Qi,FZ,FR,FT,Tc,zbp,zbA,zak,zaQ,FU,FV,GD,GF,B9]);(try simp only[E9,Fc,EX,Mn,EY,Td,Ml,E2,Pl,TJ,MK,Tw,Fh,w6,Le,My,yE,BW,BU,To,rU,Qj,BM,BN,BO,La,E1,K9,MW,MY,IU,E3,Mr,Ms,Ll,IS,C9,B6,Lm,FD,FE,FF,FG,FI,FJ,FK,FL,FN,FO,Cg,Ci,Cj,Cn,Co,Qq,Qg,Mp,EZ,E4,jn,Qf,T7,Ln,Lo,Qh,Jm,FP,MZ,M0,zct,B7,B8,FQ,Cb,Cc,yQ,xt,Gz,GA,GB,Cd,Lp,Qi,FZ,FR,FT,Tc,zba,zbp,zbA,Jo,Jp,true_and,and_true,zak,zaQ,Jq,FU,FV,GD,GF,B9,Int.reduceLT,Int.reduceLE,Nat.reduceLeDiff,Nat.reduceAdd,and_self])))
section
variable{P:zdy}{w:zdo}{K:zaa}{mg:Str->Option zdn}{base:Heap}{t:Ad}
theorem fU(T:Tx K mg t):bB P w K mg base eS 1 t.iN t.i8 ["state", "many"] (UY):=by
 refine T.au.F.j4 pW (fun vs H Q E h=>?_) (fun eK A outer s H vs Q E hr h=>?_)
 ·obtain⟨_,_,rfl,_⟩:=h;rfl
 obtain⟨s0,many,rfl,⟨n,m,hs⟩,h0,h1,q⟩:=h;have nd:=pW.nd;refine⟨_,[some (.ref s0),some (.int many),none],(ao (bo (aK bL (aA cx (pv 0) ai ag) ai (aO _))
 (ao (qt (bT kY (bT tI (bT jq (aA cx (pv 0) ai ag) ai) ai) ai) (tF (pv 0) ai set_list))
 (ao (qt (bT kY (bT tI (aA cx (pv 0) ai ag) (aA cx (pv 0) ai ag)) ai) (tF (pv 0) ai set_list))
 (aw (aI (bT kY (bT sN (bT kY (bT tI (aA cx (pv 0) ai ag) ai) ai) ai) (pv 1))))))
 aR)
 (ao (aQ (i:=2) nd rfl (zaq rfl) (bT kY (aA cx (pv 0) ai ag) (pv 1)))
 (ao (qt (bT sN (aA cx (pv 0) ai ag) (pv 1)) (tF (pv 0) ai set_list))
 (aw (aI (pv 2)))))),rfl,?_⟩
 refine aB fun U1 gN=>?_;walk_at "rd";refine cT (.of hs) (v:=.int m) (aC (j:=1) rfl) ⟨rfl,cM (fun e=>?_) (fun e=>?_)⟩
 ·refine cT (.of hs) (v:=.int n) (aC (j:=0) rfl) ⟨_,_,rfl,rfl,_,_,rfl,rfl,mulR (by decide) (by decide),_,_,rfl,rfl,(by decide:(0:Int)<2147483647),s0,_,0,0,rfl,rfl,hs,rfl,?_⟩;dsimp only;have b1:=zbh ((n+1)*48271) (show (2147483647:Int)≠0 by decide);have b2:=za2 ((n+1)*48271) (show (0:Int)<2147483647 by decide);generalize (n+1)*48271%2147483647=x at *;have y1:(upd H s0 (.lst ([V.int n,V.int m].set 0 (V.int x)))) s0=some (.lst [V.int x,V.int m]):=aq;refine cT (.of y1) (v:=.int x) (aC (j:=0) rfl) (cT (.of y1) (v:=.int x) (aC (j:=0) rfl) ⟨_,_,rfl,rfl,mulR (by lia) (by lia),_,_,rfl,rfl,(by decide:(0:Int)<2147483629),s0,_,0,0,rfl,rfl,y1,rfl,?_⟩);dsimp only;have c1:=zbh (x*x) (show (2147483629:Int)≠0 by decide);have c2:=za2 (x*x) (show (0:Int)<2147483629 by decide);generalize x*x%2147483629=y at *;have y2:(upd (upd H s0 (.lst ([V.int n,V.int m].set 0 (V.int x)))) s0 (.lst ([V.int x,V.int m].set 0 (V.int y)))) s0=some (.lst [V.int y,V.int m]):=aq;refine cT (.of y2) (v:=.int y) (aC (j:=0) rfl) ⟨_,_,rfl,rfl,mulR (by decide) (by decide),_,_,rfl,rfl,(by decide:(0:Int)<2147483587),_,_,rfl,rfl,⟨by decide,by decide⟩,_,_,rfl,rfl,h0,?_⟩;exact q _ _ (zbh _ (by lia)) (za2 _ h0) (((aZ.refl s0 H).put _).put _) ⟨_,_,y2⟩
 ·refine(gN _ _).mpr ?_;walk_at "rd";refine cT (.of hs) (v:=.int n) (aC (j:=0) rfl) ⟨_,_,rfl,rfl,h0,cT (.of hs) (v:=.int n) (aC (j:=0) rfl) ⟨_,_,rfl,rfl,⟨h0,by lia⟩,s0,_,0,0,rfl,rfl,hs,rfl,?_⟩⟩;exact q _ _ (zbh _ (by lia)) (za2 _ h0) ((aZ.refl s0 H).put _) ⟨_,_,aq⟩
theorem kc(T:Tx K mg t):bB P w K mg base eS 1 t.g7 t.iC ["script", "k"] (Hc K):=by
 refine T.bZ.F.j4 oy (fun vs H Q E h=>?_) (fun eK A outer s H vs Q E hr h=>?_)
 ·obtain⟨_,_,_,rfl,_⟩:=h;rfl
 obtain⟨a,ns,k,rfl,hS,SG,k63,q⟩:=h;have nd:=oy.nd;refine⟨_,[some (.ref a),some (.int k),none,none],(ao (aQ (i:=2) nd rfl (zaq rfl) ai)
 (ao (bo (aK og (pv 1) (bF cD rfl T.l7 PyProof.Rows.Boot.«len» (ae (pv 0) aj ah)) (aO _))
 (aw (aQ (i:=2) nd rfl (zaq rfl) (aA cx (pv 0) (pv 1) nG)))
 aR)
 (ao (aQ (i:=3) nd rfl (zaq rfl) (c6 rG rfl T.CS PyProof.Rows.Boot.«int» (ae (fH og (pv 2) (bT Mw ai ai) (aO _)) aj FW)))
 (aw (aI (bJ (ae (bT jq (pv 2) (bT tI (bT tI ai (pv 1)) (pv 3))) (ae (pv 3) aj ah) gB))))))),rfl,?_⟩
 refine aB fun U1 gN=>?_;walk_at "rd";refine(gN _ _).mpr (aB fun U2 jm=>?_);clear gN;have fin:∀cell:Int,U2 [some (.ref a),some (.int k),some (.int cell),none] H:=by
  intro cell;refine(jm _ _).mpr (aB fun U3 ke=>?_);clear jm;walk_at "rd";refine⟨⟨by decide,by decide,by decide⟩,_,rfl,(ke _ _).mpr ?_⟩;clear ke;obtain⟨m,hm,m0,m1⟩:∃m:Int,(if decide (cell<10 ^ Int.toNat 18)=true then 1 else 0)=m/\0<=m/\m<=1:=⟨_,rfl,by split<;>decide,by split<;>decide⟩
  rw[hm];walk_at "rd";refine⟨mulR (by lia) (by lia),mulR (by lia) (by lia),fun p hp=>q p _ (ar.new hp _) hp ⟨_,_,aq⟩⟩
 walk_at "rd";refine⟨a,_,rfl,.inl hS,cM (fun e=>?_) (fun e=>fin 0)⟩;have lk:k<ns.length:=by
  simp only[decide_eq_true_eq,zae] at e;lia
 exact cT hS (v:=.int ns[k]) (aC (by rw[zah,zab lk];rfl)) (fin _)
theorem qe(T:Tx K mg t):bB P w K mg base eS 2 t.iO t.i9 ["state", "boxes"] (Kv K):=by
 have aX:=fU (P:=P) (w:=w) (K:=K) (base:=base) T;refine T.bM.F.j4 pX (fun vs H Q E h=>?_) (fun eK A outer s H vs Q E hr h=>?_)
 ·obtain⟨_,_,_,rfl,_⟩:=h;rfl
 obtain⟨s0,B,bs,rfl,hs,hB,q⟩:=h;have nd:=pX.nd;refine⟨_,[some (.ref s0),some (.ref B)],(ao (bo (PW.pt (pw_and (aK (qD (gd hr)) (pv 1) (bJ aj) (aO _)) (pw_and1 (aK yA (aD aX (hr.mono (by first|decide|omega)) rfl T.au.m T.au.F.kp T.au.b .nil aP (ae (pv 0) (ae ai aj bf) ah)) ai (aO _)))))
 (aw (aI (bt (ae bw (ae (aA ay (aA cx (pv 1) (aD aX (hr.mono (by first|decide|omega)) rfl T.au.m T.au.F.kp T.au.b .nil aP (ae (pv 0) (ae (bF cD rfl T.l7 PyProof.Rows.Boot.«len» (ae (pv 1) aj ah)) aj aY) ah)) iu) ai ag) aj aL) bf))))
 aR)
 (aw (aI (bt (ae bw (ae (aA cx (bJ (ae (aD aX (hr.mono (by first|decide|omega)) rfl T.au.m T.au.F.kp T.au.b .nil aP (ae (pv 0) (ae ai aj bf) ah)) (ae (aD aX (hr.mono (by first|decide|omega)) rfl T.au.m T.au.F.kp T.au.b .nil aP (ae (pv 0) (ae ai aj bf) ah)) aj aY) aY)) (aD aX (hr.mono (by first|decide|omega)) rfl T.au.m T.au.F.kp T.au.b .nil aP (ae (pv 0) (ae ai aj bf) ah)) iu) aj aL) bf))))),rfl,?_⟩
 refine aB fun U1 gN=>?_;have num:∀H1,aZ s0 H H1->rM H1 s0->U1 [some (.ref s0),some (.ref B)] H1:=by
  intro H1 u1 za;refine(gN _ _).mpr ?_;clear gN;walk_at "rd";refine⟨s0,4,rfl,za,by decide,by decide,fun x2 H2 a2 b2 u2 u0=>?_⟩;refine⟨s0,12,rfl,u0,by decide,by decide,fun x3 H3 a3 b3 u3 ve p hp=>?_⟩;refine⟨s0,2,rfl,ve.new hp _,by decide,by decide,fun x5 H5 a5 b5 u5 CT=>?_⟩;obtain⟨z,ez,z0,z1⟩:∃z:Int,vd [V.int x2,V.int x3] x5=some (V.int z)/\0<=z/\z<1000:=by
   obtain rfl |rfl:x5=0\/x5=1:=by lia
   ·exact⟨x2,aC (j:=0) rfl,a2,by lia⟩
   ·exact⟨x3,aC (j:=1) rfl,a3,by lia⟩
  have Rc:=(((u1.trans u2).trans u3).new hp _).trans u5;refine cT (.of (u5 _ _ (ve.ne hp) aq)) ez fun p6 KD=>?_;exact q _ (.num z) _ (Rc.new KD _) (CT.new KD _) (Own.tup (.cons .str (.cons .int .nil)) (Rc.jQ CT.nn) KD) ⟨z0,z1⟩ (zam _)
 walk_at "rd";intro p1 Aq;obtain⟨xs,hx,lx⟩:=nM hB;have s1:=ar.new Aq (.lst []);refine⟨B,p1,xs,rfl,rfl,s1.seq hx,.of aq,cM (fun e=>?_) (fun e=>?_)⟩
 ·have za:=hs.same s1;have Rf:=hB.same s1;generalize upd H p1 (.lst [])=H1 at *;refine⟨s0,3,rfl,za,by decide,by decide,fun x2 H2 a2 b2 u2 u0=>⟨_,_,rfl,rfl,_,rfl,cM (fun e2=>?_) (fun e2=>?_)⟩⟩
  ·have l0:0<bs.length:=by
    rw[<- lx];cases xs with
    |nil=>cases e
    |cons _ _=>simp
   obtain⟨ys,hy,ly⟩:=nM (Rf.up u2);have yj:=hB.2;refine⟨B,ys,rfl,.inl hy,s0,_,rfl,u0,by lia,by lia,fun x3 H3 a3 b3 u3 ve=>((Rf.up u2).up u3).pick a3 (by lia) fun p4 NW=>?_⟩;have CU:=((aZ.of s1).trans u2).trans u3;exact q _ (.box _) _ (CU.new NW _) (ve.new NW _) (Own.tup (.cons .str (.cons .str .nil)) (CU.jQ ve.nn) NW) (qK a3 (by lia)) (zam _)
  ·exact num H2 ((aZ.of s1).trans u2) u0
 ·exact num _ (.of s1) (hs.same s1)
theorem wJ(T:Tx K mg t):bB P w K mg base eS 3 t.ni t.nN ["state", "boxes"] (Vd K):=by
 have aX:=fU (P:=P) (w:=w) (K:=K) (base:=base) T;have iQ:=qe (P:=P) (w:=w) (K:=K) (base:=base) T;refine T.cA.F.j4 wI (fun vs H Q E h=>?_) (fun eK A outer s H vs Q E hr h=>?_)
 ·obtain⟨_,_,_,rfl,_⟩:=h;rfl
 obtain⟨s0,B,bs,rfl,hs,hB,q⟩:=h;have nd:=wI.nd;refine⟨_,[some (.ref s0),some (.ref B),none,none,none],(ao (aQ (i:=2) nd rfl (zaq rfl) (aA xb bw (aD aX (hr.mono (by first|decide|omega)) rfl T.au.m T.au.F.kp T.au.b .nil aP (ae (pv 0) (ae ai aj bf) ah)) iu))
 (ao (aQ (i:=3) nd rfl (zaq rfl) (aD iQ (hr.mono (by first|decide|omega)) rfl T.bM.m T.bM.F.kp T.bM.b .nil aP (ae (pv 0) (ae (pv 1) aj ah) ah)))
 (ao (bo (aK bL (aD aX (hr.mono (by first|decide|omega)) rfl T.au.m T.au.F.kp T.au.b .nil aP (ae (pv 0) (ae ai aj bf) ah)) ai (aO _))
 (aw (aI (pv 3)))
 aR)
 (ao (aQ (i:=4) nd rfl (zaq rfl) (bt (ae (pv 2) (ae (pv 3) (ae (aD iQ (hr.mono (by first|decide|omega)) rfl T.bM.m T.bM.F.kp T.bM.b .nil aP (ae (pv 0) (ae (pv 1) aj ah) ah)) aj aY) ah) ah)))
 (ao (bo (aK yA (aD aX (hr.mono (by first|decide|omega)) rfl T.au.m T.au.F.kp T.au.b .nil aP (ae (pv 0) (ae ai aj bf) ah)) ai (aO _))
 (aw (aI (pv 4)))
 aR)
 (aw (aI (bt (ae (aA xb bw (aD aX (hr.mono (by first|decide|omega)) rfl T.au.m T.au.F.kp T.au.b .nil aP (ae (pv 0) (ae ai aj bf) ah)) iu) (ae (aD iQ (hr.mono (by first|decide|omega)) rfl T.bM.m T.bM.F.kp T.bM.b .nil aP (ae (pv 0) (ae (pv 1) aj ah) ah)) (ae (pv 4) aj ah) aY) aL))))))))),rfl,?_⟩
 have SA:∀x:Int,0<=x->x<3->∃c:Nat,vd (zac "+-*").cps.toList x=some c/\[c]∈([[43],[45],[42]]:List W):=by
  intro x h0 h1;obtain rfl |rfl |rfl:x=0\/x=1\/x=2:=by lia
  ·exact⟨43,by decide +kernel,by decide⟩
  ·exact⟨45,by decide +kernel,by decide⟩
  ·exact⟨42,by decide +kernel,by decide⟩
 have sg2:∀x:Int,0<=x->x<3->∃c:Nat,vd (zac "-+*").cps.toList x=some c/\[c]∈([[43],[45],[42]]:List W):=by
  intro x h0 h1;obtain rfl |rfl |rfl:x=0\/x=1\/x=2:=by lia
  ·exact⟨45,by decide +kernel,by decide⟩
  ·exact⟨43,by decide +kernel,by decide⟩
  ·exact⟨42,by decide +kernel,by decide⟩
 refine aB fun U1 gN=>?_;walk_at "rd";refine⟨s0,3,rfl,hs,by decide,by decide,fun x1 H1 a1 b1 u1 za=>?_⟩;obtain⟨c,ec,oc⟩:=SA x1 a1 b1;refine⟨_,_,c,rfl,rfl,by decide +kernel,ec,(gN _ _).mpr (aB fun U2 jm=>?_)⟩;clear gN;walk_at "rd";refine⟨s0,B,bs,rfl,za,hB.up u1,fun v2 t2 H2 u2 u0 f2 o2 d2=>(jm _ _).mpr (aB fun U3 ke=>?_)⟩;clear jm;have hB2:=(hB.up u1).up u2;replace f2:=f2.back (u1.jQ za.nn);walk_at "rd";refine⟨s0,2,rfl,u0,by decide,by decide,fun x3 H3 a3 b3 u3 ve=>⟨rfl,cM (fun e=>?_) (fun e=>?_)⟩⟩
 ·exact q _ _ _ ((u1.trans u2).trans u3) ve (f2.up u3 hs.nn) ⟨o2,zau d2 (by decide)⟩
 refine(ke _ _).mpr (aB fun U4 lP=>?_);clear ke;have Xs:=hB2.up u3;replace f2:=f2.up u3 hs.nn;have CU:=(u1.trans u2).trans u3;walk_at "rd";refine⟨s0,B,bs,rfl,ve,Xs,fun v4 t4 H4 u4 xK f4 o4 d4 p hp=>(lP _ _).mpr (aB fun U5 sr=>?_)⟩;clear lP;have CV:=CU.trans u4;have f5:Own K H _ (jN (.bin [c] t2 t4)) (.ref p):=Own.tup (.cons .str (.cons (f2.up u4 hs.nn) (.cons (f4.back (CU.jQ ve.nn)) .nil))) (CV.jQ xK.nn) hp;have CT:=xK.new hp (.tup [V.str (S [c]),v2,v4]);have Rc:=CV.new hp (.tup [V.str (S [c]),v2,v4]);have hB5:=(Xs.up u4).same (ar.new hp (.tup [V.str (S [c]),v2,v4]));have o5:PG.dc bs (.bin [c] t2 t4):=⟨oc,o2,o4⟩
 have d5:PG.dX (.bin [c] t2 t4)<=1:=by rw[PG.dX];lia
 change C9 _ _ _ _ _ (upd H4 p (.tup [V.str (S [c]),v2,v4]))
 generalize upd H4 p (.tup [V.str (S [c]),v2,v4])=H5 at *;walk_at "rd";refine⟨s0,3,rfl,CT,by decide,by decide,fun x6 H6 a6 b6 u6 KG=>⟨_,_,rfl,rfl,_,rfl,cM (fun e6=>?_) (fun e6=>?_)⟩⟩
 ·exact q _ _ _ (Rc.trans u6) KG (f5.up u6 hs.nn) ⟨o5,by lia⟩
 refine(sr _ _).mpr ?_;clear sr;walk_at "rd";refine⟨s0,3,rfl,KG,by decide,by decide,fun x7 H7 a7 b7 u7 KI=>?_⟩;obtain⟨c2,ec2,oc2⟩:=sg2 x7 a7 b7;refine⟨_,_,c2,rfl,rfl,by decide +kernel,ec2,s0,B,bs,rfl,KI,(hB5.up u6).up u7,fun v8 t8 H8 u8 HD f8 o8 d8 p9 HE=>?_⟩;have Vl:=(Rc.trans u6).trans u7;refine q _ (.bin [c2] t8 (.bin [c] t2 t4)) _ ((Vl.trans u8).new HE _) (HD.new HE _) (Own.tup (.cons .str (.cons (f8.back (Vl.jQ KI.nn)) (.cons (((f5.up u6 hs.nn).up u7 hs.nn).up u8 hs.nn) .nil))) ((Vl.trans u8).jQ HD.nn) HE) ⟨⟨oc2,o8,o5⟩,?_⟩;rw[PG.dX];lia
theorem vA(T:Tx K mg t):bB P w K mg base eS 4 t.hG t.iE ["state", "boxes", "row"] (He K):=by
 have aX:=fU (P:=P) (w:=w) (K:=K) (base:=base) T;have kW:=wJ (P:=P) (w:=w) (K:=K) (base:=base) T;refine T.fT.F.j4 oB (fun vs H Q E h=>?_) (fun eK A outer s H vs Q E hr h=>?_)
 ·obtain⟨_,_,_,_,rfl,_⟩:=h;rfl
 obtain⟨s0,B,bs,row,rfl,hs,hB,q⟩:=h;have nd:=oB.nd;refine⟨_,[some (.ref s0),some (.ref B),some (.int row),none],(ao (aQ (i:=3) nd rfl (zaq rfl) (aD aX (hr.mono (by first|decide|omega)) rfl T.au.m T.au.F.kp T.au.b .nil aP (ae (pv 0) (ae ai aj bf) ah)))
 (ao (bo (PW.pt (pw_and (aK (qD (gd hr)) (pv 1) (bJ aj) (aO _)) (pw_and1 (aK og (pv 3) ai (aO _)))))
 (aw (aI (bt (ae bw (ae (pv 2) (ae (aA ay (aA cx (pv 1) (aD aX (hr.mono (by first|decide|omega)) rfl T.au.m T.au.F.kp T.au.b .nil aP (ae (pv 0) (ae (bF cD rfl T.l7 PyProof.Rows.Boot.«len» (ae (pv 1) aj ah)) aj aY) ah)) iu) ai ag) aj aL) ah) bf))))
 aR)
 (ao (bo (PW.pt (pw_and (aK (qD (gd hr)) (pv 1) (bJ aj) (aO _)) (pw_and1 (aK og (pv 3) ai (aO _)))))
 (aw (aI (bt (ae bw (ae (pv 2) (ae (aA ay (aA cx (pv 1) (aD aX (hr.mono (by first|decide|omega)) rfl T.au.m T.au.F.kp T.au.b .nil aP (ae (pv 0) (ae (bF cD rfl T.l7 PyProof.Rows.Boot.«len» (ae (pv 1) aj ah)) aj aY) ah)) iu) ai ag) (ae (aD kW (hr.mono (by first|decide|omega)) rfl T.cA.m T.cA.F.kp T.cA.b .nil aP (ae (pv 0) (ae (pv 1) aj ah) ah)) aj aY) aL) ah) bf))))
 aR)
 (ao (bo (aK bL (pv 3) ai (aO _))
 (aw (aI (bt (ae bw (ae (pv 2) (ae (aA xb bw (aD aX (hr.mono (by first|decide|omega)) rfl T.au.m T.au.F.kp T.au.b .nil aP (ae (pv 0) (ae ai aj bf) ah)) iu) (ae (aD kW (hr.mono (by first|decide|omega)) rfl T.cA.m T.cA.F.kp T.cA.b .nil aP (ae (pv 0) (ae (pv 1) aj ah) ah)) (ae (aD kW (hr.mono (by first|decide|omega)) rfl T.cA.m T.cA.F.kp T.cA.b .nil aP (ae (pv 0) (ae (pv 1) aj ah) ah)) aj aY) aY) aL) ah) bf))))
 aR)
 (ao (bo (PW.pt (pw_and (aK bL (pv 3) ai (aO _)) (pw_and1 (aK bL (aD aX (hr.mono (by first|decide|omega)) rfl T.au.m T.au.F.kp T.au.b .nil aP (ae (pv 0) (ae ai aj bf) ah)) ai (aO _)))))
 (aw (aI (bt (ae bw (ae (pv 2) aj ah) bf))))
 aR)
 (aw (aI (bt (ae bw (ae (pv 2) (ae (aD kW (hr.mono (by first|decide|omega)) rfl T.cA.m T.cA.F.kp T.cA.b .nil aP (ae (pv 0) (ae (pv 1) aj ah) ah)) aj aY) ah) bf))))))))),rfl,?_⟩
 have yj:=hB.2;refine aB fun U1 gN=>?_;walk_at "rd";refine⟨s0,9,rfl,hs,by decide,by decide,fun kd H1 a1 b1 u1 za=>(gN _ _).mpr (aB fun U2 jm=>?_)⟩;clear gN;have pos:∀ {xs:List V} {Hx:Hp},fF K Hx B xs->xs.length=bs.length->(!xs.isEmpty)=true->0<bs.length:=by
  intro xs Hx _ lx e;rw[<- lx];cases xs with
  |nil=>cases e
  |cons _ _=>simp
 have LO:∀Hx,aZ s0 H Hx->rM Hx s0->U2 [some (.ref s0),some (.ref B),some (.int row),some (.int kd)] Hx:=by
  intro Hx ux hsx;have Xt:=hB.up ux;refine(jm _ _).mpr (aB fun U3 ke=>?_);clear jm;have LP:∀Hy,aZ s0 H Hy->rM Hy s0->U3 [some (.ref s0),some (.ref B),some (.int row),some (.int kd)] Hy:=by
   intro Hy uy IG;have Xu:=hB.up uy;refine(ke _ _).mpr (aB fun U4 lP=>?_);clear ke;walk_at "rd";refine cM (fun e=>?_) (fun e=>?_)
   ·refine⟨s0,2,rfl,IG,by decide,by decide,fun x2 H2 a2 b2 u2 u0=>?_⟩;obtain⟨c,ec,oc⟩:∃c:Nat,vd (zac "<=").cps.toList x2=some c/\[c]∈PG.Ak:=by
     obtain rfl |rfl:x2=0\/x2=1:=by lia
     ·exact⟨60,by decide +kernel,by decide⟩
     ·exact⟨61,by decide +kernel,by decide⟩
    have uz:=uy.trans u2;refine⟨_,_,c,rfl,rfl,by decide +kernel,ec,s0,B,bs,rfl,u0,Xu.up u2,fun v3 t3 H3 u3 ve f3 o3=>⟨s0,B,bs,rfl,ve,(Xu.up u2).up u3,fun v4 t4 H4 u4 xK f4 o4 p hp=>?_⟩⟩;have CU:=uz.trans u3;have CV:=CU.trans u4;exact q _ (.cg row [c] t3 t4) _ (CV.new hp _) (xK.new hp _) (Own.tup (.cons .str (.cons .int (.cons .str (.cons ((f3.back (uz.jQ u0.nn)).up u4 hs.nn) (.cons (f4.back (CU.jQ ve.nn)) .nil))))) (CV.jQ xK.nn) hp) ⟨oc,o3,o4⟩ trivial rfl
   ·refine(lP _ _).mpr (aB fun U5 sr=>?_);clear lP;have say:∀Hz,aZ s0 H Hz->rM Hz s0->U5 [some (.ref s0),some (.ref B),some (.int row),some (.int kd)] Hz:=by
     intro Hz uz hsz;refine(sr _ _).mpr ?_;clear sr;walk_at "rd";refine⟨s0,B,bs,rfl,hsz,hB.up uz,fun v4 t4 H4 u4 xK f4 o4 p hp=>?_⟩;have CV:=uz.trans u4;exact q _ (.say row t4) _ (CV.new hp _) (xK.new hp _) (Own.tup (.cons .str (.cons .int (.cons (f4.back (uz.jQ hsz.nn)) .nil))) (CV.jQ xK.nn) hp) o4 trivial rfl
    walk_at "rd";refine cM (fun e=>?_) (fun e=>say _ uy IG);refine⟨s0,3,rfl,IG,by decide,by decide,fun x2 H2 a2 b2 u2 u0=>⟨rfl,cM (fun e=>fun p hp=>?_) (fun e=>say _ (uy.trans u2) u0)⟩⟩;have Xv:=uy.trans u2;exact q _ (.stop row) _ (Xv.new hp _) (u0.new hp _) (Own.tup (.cons .str (.cons .int .nil)) (Xv.jQ u0.nn) hp) trivial trivial rfl
  walk_at "rd";intro p1 Aq;obtain⟨xs,hx,lx⟩:=nM Xt;have s1:=ar.new Aq (.lst []);have NX:=ux.trans (aZ.of s1);have Bp:=hsx.same s1;have KJ:=Xt.same s1;have ye:fF K (upd Hx p1 (.lst [])) p1 []:=.of aq;generalize upd Hx p1 (.lst [])=H1 at *;refine⟨B,p1,xs,rfl,rfl,s1.seq hx,ye,cM (fun e=>?_) (fun e=>LP _ NX Bp)⟩;refine cM (fun e2=>?_) (fun e2=>LP _ NX Bp);have l0:=pos hx lx e;refine⟨B,xs,rfl,.inl (s1.seq hx),s0,_,rfl,Bp,by lia,by lia,fun x3 H3 a3 b3 u3 ve=>(KJ.up u3).pick a3 (by lia) ?_⟩;refine⟨s0,B,bs,rfl,ve,KJ.up u3,fun v4 t4 H4 u4 xK f4 o4 p hp=>?_⟩;have CU:=NX.trans u3;have CV:=CU.trans u4;exact q _ (.put row _ t4) _ (CV.new hp _) (xK.new hp _) (Own.tup (.cons .str (.cons .int (.cons .str (.cons (f4.back (CU.jQ ve.nn)) .nil)))) (CV.jQ xK.nn) hp) ⟨qK a3 (by lia),o4⟩ trivial rfl
 walk_at "rd";intro p1 Aq;have Rf:=hB.up u1;obtain⟨xs,hx,lx⟩:=nM Rf;have s1:=ar.new Aq (.lst []);have NX:=u1.trans (aZ.of s1);have Bp:=za.same s1;have KJ:=Rf.same s1;have ye:fF K (upd H1 p1 (.lst [])) p1 []:=.of aq;generalize upd H1 p1 (.lst [])=H2 at *;refine⟨B,p1,xs,rfl,rfl,s1.seq hx,ye,cM (fun e=>?_) (fun e=>LO _ NX Bp)⟩;refine cM (fun e2=>?_) (fun e2=>LO _ NX Bp);have l0:=pos hx lx e;refine⟨B,xs,rfl,.inl (s1.seq hx),s0,_,rfl,Bp,by lia,by lia,fun x3 H3 a3 b3 u3 ve=>(KJ.up u3).pick a3 (by lia) fun p hp=>?_⟩;have CU:=NX.trans u3;exact q _ (.ask row _) _ (CU.new hp _) (ve.new hp _) (Own.tup (.cons .str (.cons .int (.cons .str .nil))) (CU.jQ ve.nn) hp) (qK a3 (by lia)) trivial rfl
theorem vB(T:Tx K mg t):bB P w K mg base eS 2 t.g9 t.iD ["script"] (Hd K):=by
 have aX:=fU (P:=P) (w:=w) (K:=K) (base:=base) T;have hV:=kc (P:=P) (w:=w) (K:=K) (base:=base) T;refine T.fR.F.j4 oA (fun vs H Q E h=>?_) (fun eK A outer s H vs Q E hr h=>?_)
 ·obtain⟨_,_,rfl,_⟩:=h;rfl
 obtain⟨sa,ns0,rfl,hS,SG,q⟩:=h;have nd:=oA.nd;refine⟨_,[some (.ref sa),none,none,none,none,none],(ao (aQ (i:=1) nd rfl (zaq rfl) (aD hV (hr.mono (by first|decide|omega)) rfl T.bZ.m T.bZ.F.kp T.bZ.b .nil aP (ae (pv 0) (ae ai aj bf) ah)))
 (ao (aQ (i:=2) nd rfl (zaq rfl) (aA cx (bJ (ae (bJ (eT (vs:=[.str "a",.str "ab",.str "b"]) (by kernel_rfl))) (ae (bJ (eT (vs:=[.str "xx",.str "x",.str "boxes"]) (by kernel_rfl))) aj xl) xl)) (aD aX (hr.mono (by first|decide|omega)) rfl T.au.m T.au.F.kp T.au.b .nil aP (ae (pv 1) (ae ai aj bf) ah)) iu))
 (ao (aQ (i:=3) nd rfl (zaq rfl) (bJ aj))
 (ao (jo PassesOwn.never rfl (fG (pC xf (pv 2) sP (sQ (aD aX (hr.mono (by first|decide|omega)) rfl T.au.m T.au.F.kp T.au.b .nil aP (ae (pv 1) (ae ai aj bf) ah))))) (bH (i:=4) nd rfl (zaq rfl))
 (ao (aQ (i:=5) nd rfl (zaq rfl) (bT jq ai (aD aX (hr.mono (by first|decide|omega)) rfl T.au.m T.au.F.kp T.au.b .nil aP (ae (pv 1) (ae (aA cx (bJ (eT (vs:=[.int 3,.int 9]) (by kernel_rfl))) (aD aX (hr.mono (by first|decide|omega)) rfl T.au.m T.au.F.kp T.au.b .nil aP (ae (pv 1) (ae ai aj bf) ah)) iu) aj aL) ah))))
 (aw (e7 (lT zaA zaJ zaK eQ (pv 3) (ae (bt (ae (pv 4) (ae (pv 5) (ae (aD aX (hr.mono (by first|decide|omega)) rfl T.au.m T.au.F.kp T.au.b .nil aP (ae (pv 1) (ae (pv 5) aj ah) ah)) aj aY) ah) ah)) aj oN))))))
 (aw (aI (pv 3))))))),rfl,?_⟩
 have Sm:=H;refine aB fun U0 Xw=>?_;walk_at "rd";refine⟨sa,ns0,0,rfl,hS,SG,by decide,fun s0 H0 sH mh hs=>(Xw _ _).mpr (aB fun U1 gN=>?_)⟩;clear Xw Sm;walk_at "rd";intro p1 Aq p2 Aj p3 IH;have za:=hs.new Aq (.lst [V.str (zac "a"),V.str (zac "ab"),V.str (zac "b")]);have u1:=(aZ.refl s0 H0).new Aq (.lst [V.str (zac "a"),V.str (zac "ab"),V.str (zac "b")]);have y1:(upd H0 p1 (.lst [V.str (zac "a"),V.str (zac "ab"),V.str (zac "b")])) p1=_:=aq;have n1:=hs.ne Aq;generalize upd H0 p1 (.lst [V.str (zac "a"),V.str (zac "ab"),V.str (zac "b")])=H1 at *;have u0:=za.new Aj (.lst [V.str (zac "xx"),V.str (zac "x"),V.str (zac "boxes")]);have u2:=u1.new Aj (.lst [V.str (zac "xx"),V.str (zac "x"),V.str (zac "boxes")]);have y2:(upd H1 p2 (.lst [V.str (zac "xx"),V.str (zac "x"),V.str (zac "boxes")])) p2=_:=aq;have Xx:=ar.new Aj (.lst [V.str (zac "xx"),V.str (zac "x"),V.str (zac "boxes")]) _ _ y1;have n2:=za.ne Aj;generalize upd H1 p2 (.lst [V.str (zac "xx"),V.str (zac "x"),V.str (zac "boxes")])=H2 at *;have ve:=u0.new IH (.lst [V.ref p1,V.ref p2]);have u3:=u2.new IH (.lst [V.ref p1,V.ref p2]);have y3:(upd H2 p3 (.lst [V.ref p1,V.ref p2])) p3=_:=aq;have Xy:=ar.new IH (.lst [V.ref p1,V.ref p2]) _ _ Xx;have Xz:=ar.new IH (.lst [V.ref p1,V.ref p2]) _ _ y2;have n3:=u0.ne IH;generalize upd H2 p3 (.lst [V.ref p1,V.ref p2])=H3 at *;refine⟨s0,2,rfl,ve,by decide,by decide,fun x4 H4 a4 b4 u4 xK=>?_⟩;have CV:=u3.trans u4;have main:∀(pn:zdm) (NY:List W),NY.length=3->NY.Nodup->pn≠s0->H4 pn=some (.lst (NY.map fun x=>V.str (S x)))->U1 [some (V.ref sa),some (V.ref s0),some (V.ref pn),none,none,none] H4:=by
  intro pn NY l4 ndn npn WS;clear y1 y2 Xx y3 Xy Xz;refine(gN _ _).mpr (aB fun U2 jm=>?_);clear gN;walk_at "rd";intro B hB;refine(jm _ _).mpr (aB fun U3 ke=>?_);clear jm;have nB:=xK.ne hB;have CT:=xK.new hB (.lst []);have s5:=ar.new hB (.lst []);have y5:(upd H4 B (.lst [])) B=some (.lst []):=aq;generalize upd H4 B (.lst [])=H5 at *;refine kA fun U hU=>?_;walk_at "rd";refine⟨s0,4,rfl,CT,by decide,by decide,fun x6 H6 a6 b6 u6 KG=>?_⟩;refine⟨_,rfl,pn,_,rfl,.of (u6 _ _ npn (s5 _ _ WS)),fun pl oK=>?_⟩;refine⟨pl,rfl,⟨_,.of aq⟩,hU _ _ ?_⟩;clear hU;rw[NF _ a6,<- List.map_take];have l4':(NY.take x6.toNat).length<=4:=by rw[zcd];lia
  have Vm:(NY.take x6.toNat).Nodup:=List.Nodup.sublist (List.take_sublist _ _) ndn;generalize NY.take x6.toNat=ns at *;have Vn:=KG.ne oK;have XA:=u6 _ _ nB y5;have nlB:pl≠B:=(aH XA oK).symm;have s7:=ar.new oK (.lst (ns.map fun x=>V.str (S x)));have KI:=KG.same s7;have y7:(upd H6 pl (.lst (ns.map fun x=>V.str (S x)))) pl=_:=aq;have yB:=s7 _ _ XA;have u7:aU (fun b=>b=s0\/b=B) H4 (upd H6 pl (.lst (ns.map fun x=>V.str (S x)))):=((aU.of s5).trans (aU.one u6 (.inl rfl))).trans (.of s7);generalize upd H6 pl (.lst (ns.map fun x=>V.str (S x)))=H7 at *;have line:zdu=2 ^ 24:=rfl;refine km (K:=K) (a:=pl) (xs:=ns.map fun x=>V.str (S x)) (fun i σ H8=>∃(z3 z4:Option V) (bs:List PG.ck) (xs:List V),σ=[some (V.ref sa),some (V.ref s0),some (V.ref pn),some (V.ref B),z3,z4]/\aU (fun b=>b=s0\/b=B) H4 H8/\rM H8 s0/\H8 pl=some (.lst (ns.map fun x=>V.str (S x)))/\H8 B=some (.lst xs)/\dv K (fun b=>b=s0\/b=B) H8 (bs.map ju) xs/\xs.length=i/\bs.map (·.name)=ns.take i/\∀b∈bs,2<=b.size/\b.size<=10/\0<=b.first/\b.first<b.size) ?_ ?_ ?_ ?_
  ·exact⟨none,none,[],[],rfl,u7,KI,y7,yB,dv.nil,rfl,rfl,fun b hb=>by cases hb⟩
  ·rintro i σ H8 hi ⟨z3,z4,bs,xs,rfl,u8,HD,y8,SH,f8,lx,eb,sz⟩
   exact .of y8
  ·rintro i x σ H8 hx ⟨z3,z4,bs,xs,rfl,u8,HD,y8,SH,f8,lx,eb,sz⟩
   rw[zah] at hx;cases hn:ns[i]? with
   |none=>rw[hn] at hx;cases hx
   |some nm=>
    rw[hn] at hx;cases hx;refine aB fun U4 lP=>?_;walk_at "rd";intro pq II;have sq:=ar.new II (.lst [V.int 3,V.int 9]);have yq:(upd H8 pq (.lst [V.int 3,V.int 9])) pq=_:=aq;have hsq:=HD.same sq;have nq:=HD.ne II;have yBq:=sq _ _ SH;have fq:=f8.up (.of sq);have uq:=u8.trans (.of sq);have ypq:=sq _ _ y8;generalize upd H8 pq (.lst [V.int 3,V.int 9])=Hq at *;refine⟨s0,2,rfl,hsq,by decide,by decide,fun xz Hz az bz uz hsz=>?_⟩;obtain⟨my,emy,my0,my1⟩:∃my:Int,vd [V.int 3,V.int 9] xz=some (.int my)/\0<my/\my<=9:=by
     obtain rfl |rfl:xz=0\/xz=1:=by lia
     ·exact⟨3,rfl,by decide,by decide⟩
     ·exact⟨9,rfl,by decide,by decide⟩
    refine cT (.of (uz _ _ nq yq)) emy ⟨s0,my,rfl,hsz,my0,by lia,fun x9 H9 a9 b9 u9 Rh=>⟨_,_,rfl,rfl,(lP _ _).mpr ?_⟩⟩;clear lP;walk_at "rd";have XB:=u9 _ _ nB (uz _ _ nB yBq);have f9:=(fq.up (aU.one uz (.inl rfl))).up (aU.one u9 (.inl rfl));refine⟨.inl ⟨rfl,_,.of XB⟩,s0,_,rfl,Rh,by lia,by lia,fun EI zP Vo Vp uK KL p hp=>?_⟩;have Ri:=uK _ _ nB XB;have Vq:=f9.up (aU.one uK (.inl rfl));have tm:=ar.new hp (.tup [V.str (S nm),V.int (2+x9),V.int EI]);have npB:p≠B:=(aH Ri hp).symm;have li:i<ns.length:=(zal.mp hn).1;have fp:Fix K (fun b=>b=s0\/b=B) (upd zP p (.tup [V.str (S nm),V.int (2+x9),V.int EI])) (ju ⟨nm,2+x9,EI⟩) (.ref p):=Fix.tup aq (fun z=>z.elim (KL.ne hp) npB) (.cons .str (.cons .int (.cons .int .nil)));have f11:=(Vq.up (.of tm)).snoc fp;refine⟨B,xs,_,rfl,rfl,tm _ _ Ri,by lia,_,_,bs++[⟨nm,2+x9,EI⟩],xs++[.ref p],rfl,?_,?_,?_,aq,?_,by simp[lx],?_,?_⟩
    ·exact((((uq.trans (aU.one uz (.inl rfl))).trans (aU.one u9 (.inl rfl))).trans (aU.one uK (.inl rfl))).trans (.of tm)).put (.inr rfl) _
    ·obtain⟨n',m',e'⟩:=KL.same tm;exact⟨n',m',by rw[aE nB.symm];exact e'⟩
    ·rw[aE nlB];exact tm _ _ (uK _ _ Vn (u9 _ _ Vn (uz _ _ Vn ypq)))
    ·rw[zax];exact f11.up (aU.refl.put (.inr rfl) _)
    ·rw[zax,eb,zcE,hn];rfl
    ·intro b hb;rcases zai.mp hb with hb |hb
     ·exact sz b hb
     ·rw[zan.mp hb];exact⟨by show 2<=2+x9;lia,by show 2+x9<=10;lia,Vo,Vp⟩
  ·rintro σ H8 ⟨z3,z4,bs,xs,rfl,u8,HD,y8,SH,f8,lx,eb,sz⟩
   refine(ke _ _).mpr ?_;walk_at "rd";rw[zae,zbQ] at eb;have lbs:bs.length<=4:=by
    have:=congrArg zaV eb;rw[zae] at this;lia
   have fB:H0 B=none:=by
    cases z:H0 B with
    |none=>rfl
    |some o=>exact absurd rfl (aH (CV B o nB z) hB)
   have s08:ar H H8:=fun b o e=>by
    have e0:=sH b o e;have nb:b≠s0:=fun z=>by rw[z,mh] at e;cases e
    have e4:=CV b o nb e0;exact u8 b o (fun z=>z.elim nb fun z=>aH e4 hB z) e4
   exact q B bs H8 s08 (sH.free fB) (Rep.bE.mpr ⟨B,xs,rfl,.of SH,f8.AR⟩) ⟨by rw[eb];exact Vm,lbs,sz⟩
 obtain rfl |rfl:x4=0\/x4=1:=by lia
 ·exact cT (.of (u4 _ _ n3 y3)) (v:=.ref p1) (aC (j:=0) rfl) (main p1 [[97],[97,98],[98]] rfl (by decide) n1 (u4 _ _ n1 Xy))
 ·exact cT (.of (u4 _ _ n3 y3)) (v:=.ref p2) (aC (j:=1) rfl) (main p2 [[120,120],[120],[98,111,120,101,115]] rfl (by decide) n2 (u4 _ _ n2 Xz))
theorem xM(T:Tx K mg t):bB P w K mg base eS 6 t.iP t.ja ["script", "boxes"] (Kw K):=by
 have aX:=fU (P:=P) (w:=w) (K:=K) (base:=base) T;have hV:=kc (P:=P) (w:=w) (K:=K) (base:=base) T;have iQ:=qe (P:=P) (w:=w) (K:=K) (base:=base) T;have kW:=wJ (P:=P) (w:=w) (K:=K) (base:=base) T;have xN:=vA (P:=P) (w:=w) (K:=K) (base:=base) T;refine T.gM.F.j4 pY (fun vs H Q E h=>?_) (fun eK A outer s H vs Q E hr h=>?_)
 ·obtain⟨_,_,_,_,rfl,_⟩:=h;rfl
 obtain⟨sa,B,ns,bs,rfl,hS,SG,rB,l4,q⟩:=h;have nd:=pY.nd;refine⟨_,[some (.ref sa),some (.ref B),none,none,none,none,none,none,none,none,none,none],(ao (aQ (i:=2) nd rfl (zaq rfl) (bJ aj))
 (ao (aQ (i:=3) nd rfl (zaq rfl) (bJ (ae (pv 2) aj ah)))
 (ao (aQ (i:=4) nd rfl (zaq rfl) (bJ (ae gA aj bf)))
 (ao (aQ (i:=5) nd rfl (zaq rfl) (bF cD rfl T.l7 PyProof.Rows.Boot.«len» (ae (pv 1) aj ah)))
 (ao (jo PassesOwn.never rfl (vP rfl T.nP (ae ai (ae (bF (je rfl) rfl T.qd PyProof.Rows.Boot.«min» (ae (bF cD rfl T.l7 PyProof.Rows.Boot.«len» (ae (pv 0) aj ah)) (ae ai aj bf) aY)) aj aY) bf)) (bH (i:=6) nd rfl (zaq rfl))
 (ao (aQ (i:=7) nd rfl (zaq rfl) (aD hV (hr.mono (by first|decide|omega)) rfl T.bZ.m T.bZ.F.kp T.bZ.b .nil aP (ae (pv 0) (ae (pv 6) aj ah) ah)))
 (ao (aQ (i:=5) nd rfl (zaq rfl) (bT jq (pv 5) ai))
 (ao (aQ (i:=8) nd rfl (zaq rfl) (aD aX (hr.mono (by first|decide|omega)) rfl T.au.m T.au.F.kp T.au.b .nil aP (ae (pv 7) (ae ai aj bf) ah)))
 (aw (bo (PW.pt (pw_and (aK og (pv 8) ai (aO _)) (pw_and1 (aK og (bF cD rfl T.l7 PyProof.Rows.Boot.«len» (ae (pv 3) aj ah)) ai (aO _)))))
 (ao (aQ (i:=9) nd rfl (zaq rfl) (bJ (ae (aD kW (hr.mono (by first|decide|omega)) rfl T.cA.m T.cA.F.kp T.cA.b .nil aP (ae (pv 7) (ae (pv 1) aj ah) ah)) (ae (aD iQ (hr.mono (by first|decide|omega)) rfl T.bM.m T.bM.F.kp T.bM.b .nil aP (ae (pv 7) (ae (pv 1) aj ah) ah)) aj aY) aY)))
 (ao (bo (aK bL (aD aX (hr.mono (by first|decide|omega)) rfl T.au.m T.au.F.kp T.au.b .nil aP (ae (pv 7) (ae ai aj bf) ah)) ai (aO _))
 (aw (e7 (xh zaA PySem.F.slot_list_reverse PySem.F.type_list_reverse AN (pv 9))))
 aR)
 (ao (aQ (i:=10) nd rfl (zaq rfl) (aA cx (bJ (eT (vs:=[.str "if",.str "while",.str "if"]) (by kernel_rfl))) (pv 8) nG))
 (ao (aQ (i:=11) nd rfl (zaq rfl) (pC xf (bJ (ae (bJ aj) (ae (bJ aj) aj xl) xl)) sP (sQ (bT jq ai (c6 rG rfl T.CS PyProof.Rows.Boot.«int» (ae (fH bL (pv 10) bw (aO _)) aj FW))))))
 (ao (e7 (lT zaA zaJ zaK eQ (aA cx (pv 3) (vR qv ai) Ca) (ae (c6 dN rfl T.jd PyProof.Rows.Boot.«tuple» (ae (bT AO (bT AO (bJ (ae (pv 10) (ae (pv 5) (ae (aA xb bw (aD aX (hr.mono (by first|decide|omega)) rfl T.au.m T.au.F.kp T.au.b .nil aP (ae (pv 7) (ae ai aj bf) ah)) iu) aj aL) ah) ah)) (pv 9)) (pv 11)) aj gB)) aj aY)))
 (ao (e7 (lT zaA zaJ zaK eQ (pv 3) (ae (aA cx (pv 11) ai ag) aj aL)))
 (aw (e7 (lT zaA zaJ zaK eQ (pv 4) (ae (aA cx (bT AO (pv 11) (bJ (ae gA aj bf))) ai ag) aj aL))))))))))
 (aw (bo (PW.pt (pw_and (aK bL (pv 8) ai (aO _)) (pw_and1 (aK BS (aA cx (pv 4) (vR qv ai) Ca) gA (aO _)))))
 (ao (qt (aA cx (pv 4) (vR qv ai) Ca) (tF (pv 3) (vR qv ai) set_list))
 (aw (qt gA (tF (pv 4) (vR qv ai) set_list))))
 (aw (bo (PW.pt (pw_and (aK og (pv 8) ai (aO _)) (pw_and1 (aK yA (bF cD rfl T.l7 PyProof.Rows.Boot.«len» (ae (pv 3) aj ah)) ai (aO _)))))
 (ao (e7 (xh zaA zbZ zb0 AM (pv 3)))
 (aw (e7 (xh zaA zbZ zb0 AM (pv 4)))))
 (aw (e7 (lT zaA zaJ zaK eQ (aA cx (pv 3) (vR qv ai) Ca) (ae (aD xN (hr.mono (by first|decide|omega)) rfl T.fT.m T.fT.F.kp T.fT.b .nil aP (ae (pv 7) (ae (pv 1) (ae (pv 5) aj ah) ah) ah)) aj aY))))))))))))))
 (aw (aI (pv 2)))))))),rfl,?_⟩
 have line:zdu=2 ^ 24:=rfl;refine aB fun U1 gN=>?_;walk_at "rd";intro R hR;refine(gN _ _).mpr (aB fun U2 jm=>?_);clear gN;walk_at "rd";intro pl oK;refine(jm _ _).mpr (aB fun U3 ke=>?_);clear jm;walk_at "rd";intro sc Bk;refine(ke _ _).mpr (aB fun U4 lP=>?_);clear ke;walk_at "rd";obtain⟨_,XC,eB,hbx,Vr⟩:=Rep.bE.mp rB;cases eB;have lbx:XC.length=bs.length:=by rw[Vr.length,zae]
 have s1:=ar.new hR (.lst []);have y1:(upd H R (.lst [])) R=some (.lst []):=aq;have XD:=s1.free oK;have n2:pl≠R:=(aH y1 oK).symm;generalize upd H R (.lst [])=H1 at *;have s2:=ar.new oK (.lst [V.ref R]);have y2:(upd H1 pl (.lst [V.ref R])) pl=some (.lst [V.ref R]):=aq;have KN:=s2 _ _ y1;have XE:=(s1.trans s2).free Bk;have n1:pl≠sc:=aH y2 Bk;have n3:sc≠R:=(aH KN Bk).symm;generalize upd H1 pl (.lst [V.ref R])=H2 at *;have s3:=ar.new Bk (.lst [V.bO]);have y3:(upd H2 sc (.lst [V.bO])) sc=some (.lst [V.bO]):=aq;have OM:=s3 _ _ KN;have XF:=s3 _ _ y2;have ON:=(s1.trans s2).trans s3;generalize upd H2 sc (.lst [V.bO])=H3 at *;have XG:PZ K bs bs.length bs.length R pl sc H H3 [] [] R [] [.bO] []:=PZ.one hR XD XE n1 n2 n3 ON OM XF y3;clear OM XF y3 KN y2 y1 oK Bk s1 s2 s3 n1 n2 n3 XD XE;refine⟨B,XC,rfl,.inl (ON.seq hbx),(lP _ _).mpr (aB fun U5 sr=>?_)⟩;clear lP;rw[lbx];refine Hf fun U hU=>?_;walk_at "rd";refine⟨sa,_,rfl,.inl (ON.seq hS),_,_,rfl,_,_,rfl,⟨by decide,by decide,?_,?_⟩,hU _ _ _ ?_⟩
 ·rw[zae];split<;>lia
 ·rw[zae];split<;>lia
 clear hU;obtain⟨n,hn,n25⟩:∃n:Nat,((if (26:Int)<((ns.map V.int).length:Int) then (26:Int) else ((ns.map V.int).length:Int))-1).toNat=n/\n<=25:=⟨_,rfl,by split<;>lia⟩
 rw[hn];obtain⟨Iv,Bq⟩:∃Iv:Nat->St->Hp->Prop,∀i σ Hx,Iv i σ Hx↔∃(z6 z7 z8 z9 HF HG:Option V) (o:List (List PG.bh×PG.gD)) (cur:List PG.bh) (p:zdm) (ps:List zdm) (ss vs:List V),σ=[some (.ref sa),some (.ref B),some (.ref R),some (.ref pl),some (.ref sc),some (.int (bs.length+i)),z6,z7,z8,z9,HF,HG]/\PZ K bs bs.length (bs.length+i) R pl sc H Hx o cur p ps ss vs:=⟨_,fun _ _ _=>Iff.rfl⟩
 refine vQ (lo:=1) (n:=n) Iv ((Bq _ _ _).mpr ⟨none,none,none,none,none,none,[],[],R,[],[.bO],[],by simp,by simpa using XG⟩) (fun i σ Hx hi hv=>?_) (fun σ Hx hv=>?_)
 ·obtain⟨z6,z7,z8,z9,HF,HG,o,cur,p,ps,ss,vs,rfl,pz⟩:=(Bq _ _ _).mp hv;clear hv XG;obtain⟨ep,es⟩:=pz.Ve;have i3:=pz.i3;have lo:=pz.len;refine aB fun V1 LQ=>?_;walk_at "rd";refine⟨sa,ns,i+1,by rw[show (1:Int)+i=((i+1:Nat):Int) by lia],pz.sm.seq hS,SG,by lia,fun s0 H4 s4 f4 xK=>(LQ _ _).mpr (aB fun V2 LR=>?_)⟩;clear LQ;have pz4:=pz.same s4;have bx4:iJ K (·=s0) H4 B bs:=⟨fun H' u=>(rB.mono pz.sm).mono fun b x e=>u b x (aH e f4) (s4 b x e),by lia⟩
  walk_at "rd";refine(LR _ _).mpr (aB fun V3 LS=>?_);clear LR;walk_at "rd";refine⟨s0,10,rfl,xK,by decide,by decide,fun kd H5 a5 b5 u5 CT=>(LS _ _).mpr ?_⟩;clear LS;have s5:ar Hx H5:=((aZ.of s4).trans u5).same f4;have IJ:=pz.same s5;have Vs:=bx4.up u5;have nso:s0 ∉ cJ pl sc p ps ss:=fun z=>pz.jQ _ z f4;have fin:∀(z9 HF HG:Option V) (H':Hp) (o:List (List PG.bh×PG.gD)) (cur:List PG.bh) (p:zdm) (ps:List zdm) (ss vs:List V),PZ K bs bs.length (bs.length+i+1) R pl sc H H' o cur p ps ss vs->Iv (i+1) [some (.ref sa),some (.ref B),some (.ref R),some (.ref pl),some (.ref sc),some (.int (bs.length+i+1)),some (.int (1+i)),some (.ref s0),some (.int kd),z9,HF,HG] H':=by
   intro z9 HF HG H' o cur p ps ss vs pz;refine(Bq _ _ _).mpr ⟨some (.int (1+i)),some (.ref s0),some (.int kd),z9,HF,HG,o,cur,p,ps,ss,vs,?_,?_⟩
   ·rw[show (bs.length:Int)+((i+1:Nat):Int)=bs.length+i+1 by lia]
   ·rw[show (bs.length:Int)+((i+1:Nat):Int)=bs.length+i+1 by lia];exact pz
  clear Bq;obtain⟨v0,yk,rfl⟩:∃v0 yk,ss=v0::yk:=by
   cases ss with
   |nil=>simp at es
   |cons v0 yk=>exact⟨v0,yk,rfl⟩
  have NZ:=IJ.oK;have Rj:=IJ.Bk;have yp:=IJ.hp;rw[rev_last] at NZ;rw[zaW] at Rj;have NH:((ps.reverse.map V.ref++[V.ref p]:List V).length)=o.length+1:=by rw[zap,zae,zb3,ep];rfl
  refine uw fun UA UB Vt KO=>?_;have IA:UB [some (.ref sa),some (.ref B),some (.ref R),some (.ref pl),some (.ref sc),some (.int (bs.length+i+1)),some (.int (1+i)),some (.ref s0),some (.int kd),z9,HF,HG] H5:=by
   refine(KO _ _).mpr ?_;clear KO Vt;refine uw fun UC UD Vu Vv=>?_;have N0:UD [some (.ref sa),some (.ref B),some (.ref R),some (.ref pl),some (.ref sc),some (.int (bs.length+i+1)),some (.int (1+i)),some (.ref s0),some (.int kd),z9,HF,HG] H5:=by
    refine(Vv _ _).mpr ?_;clear Vv Vu;refine uw fun UE UF Vw Vx=>?_;have N1:UF [some (.ref sa),some (.ref B),some (.ref R),some (.ref pl),some (.ref sc),some (.int (bs.length+i+1)),some (.int (1+i)),some (.ref s0),some (.int kd),z9,HF,HG] H5:=by
     refine(Vx _ _).mpr ?_;clear Vx Vw;walk_at "rd";refine⟨1,rfl,cT (.of NZ) (mq _ _) ⟨.inl ⟨rfl,_,.of yp⟩,s0,B,bs,_,rfl,CT,Vs,fun v st H6 u6 KG os ow pn er=>?_⟩⟩;have XH:=pz.same (((aZ.of s4).trans (u5.trans u6)).same f4);exact⟨p,vs,v,rfl,rfl,XH.hp,by lia,fin _ _ _ _ _ _ _ _ _ _ (XH.add (os _ IJ.jQ) ow pn er)⟩
    walk_at "rd";refine cM (fun e=>⟨pl,_,rfl,.inl (.of NZ),cM (fun e2=>(Vw _ _).mpr ?_) (fun _=>N1)⟩) (fun _=>(if_neg (by decide)).mpr N1);clear N1 Vw Vx;rw[NH] at e2;obtain⟨q1,vi,rfl⟩:∃q1 vi,ps=q1::vi:=by
     cases ps with
     |nil=>simp at ep;simp[<- ep] at e2
     |cons q1 vi=>exact⟨q1,vi,rfl⟩
    obtain⟨v1,Kx,o1,aax,IF,es1,pzp⟩:=IJ.pop rfl;cases es1;refine aB fun W1 LU=>?_;walk_at "rd";refine⟨.inl ⟨rfl,_,.of NZ⟩,pl,_,.ref p,rfl,rfl,NZ,by simp,(LU _ _).mpr ?_⟩;clear LU;rw[zdd];have Vy:sc≠pl:=fun z=>by
     have:=IJ.nd;unfold cJ at this;rw[z] at this;simp at this
    have KP:(upd H5 pl (.lst ((q1::vi).reverse.map V.ref))) sc=some (.lst (yk.reverse++[v0])):=by rw[aE Vy];exact Rj
    walk_at "rd";refine⟨.inl ⟨rfl,_,.of KP⟩,sc,_,v0,rfl,rfl,KP,by simp,?_⟩;rw[zdd];exact fin _ _ _ _ _ _ _ _ _ _ pzp.more
   walk_at "rd";refine cM (fun e=>⟨1,rfl,cT (.of Rj) (mq _ _) (cM (fun _=>N0) (fun nv=>(Vu _ _).mpr ?_))⟩) (fun _=>(if_neg (by decide)).mpr N0);clear N0 Vu Vv;obtain⟨b,o1,rfl,XI⟩:=IJ.IA rfl nv;refine aB fun W1 LU=>?_;walk_at "rd";refine⟨1,rfl,cT (.of Rj) (mq _ _) ⟨1,rfl,pl,_,_,_,rfl,rfl,NZ,Hi (by rw[NH];lia),(LU _ _).mpr ?_⟩⟩;clear LU;rw[zG];have Vy:sc≠pl:=fun z=>by
    have:=IJ.nd;unfold cJ at this;rw[z] at this;simp at this
   have KP:(upd H5 pl (.lst (ps.reverse.map V.ref++[.ref b]))) sc=some (.lst (yk.reverse++[.ref b])):=by rw[aE Vy];exact Rj
   walk_at "rd";refine⟨1,rfl,sc,_,_,_,rfl,rfl,KP,Hi (by simp),?_⟩;rw[zG];rw[rev_last,zaW] at XI;exact fin _ _ _ _ _ _ _ _ _ _ XI.more
  walk_at "rd";refine cM (fun e=>⟨pl,_,rfl,.inl (.of NZ),cM (fun e2=>(Vt _ _).mpr ?_) (fun _=>IA)⟩) (fun _=>(if_neg (by decide)).mpr IA);clear IA Vt KO;rw[NH] at e2;have XJ:o.length<=3:=by lia
  refine aB fun W1 LU=>?_;walk_at "rd";refine⟨s0,B,bs,rfl,CT,Vs,fun v6 t6 H6 u6 KG f6 o6=>⟨s0,B,bs,rfl,KG,Vs.up u6,fun v7 t7 H7 u7 KI f7 o7 d7 p8 KQ=>(LU _ _).mpr ?_⟩⟩;clear LU;have Vz:=u6.trans u7;replace f6:=f6.up u7 CT.nn;replace f7:=f7.back (u6.jQ KG.nn);have n8:=KI.ne KQ;have HD:=KI.new KQ (.lst [v6,v7]);have y8:(upd H7 p8 (.lst [v6,v7])) p8=some (.lst [v6,v7]):=aq;have e8:=ar.new KQ (.lst [v6,v7]);have oS:∀a,(a∈cJ pl sc p ps (v0::yk)\/a=s0)->H5 a≠none:=fun a ha=>ha.elim (IJ.jQ a) fun z=>by rw[z];exact CT.nn
  have g8:∀a,((a∈cJ pl sc p ps (v0::yk)\/a=s0)\/a=p8)->(a∈cJ pl sc p ps (v0::yk)\/a=s0)\/H7 a=none:=fun a h=>h.imp id fun z=>by rw[z];exact KQ
  have F6:=((f6 _ oS).grow g8).up (.of e8);have F7:=((f7 _ oS).grow g8).up (.of e8);clear f6 f7 oS g8;have s8:ar Hx (upd H7 p8 (.lst [v6,v7])):=((((aZ.of s4).trans u5).trans Vz).trans (.of e8)).same f4;have n8o:p8 ∉ cJ pl sc p ps (v0::yk):=fun z=>(Vz.jQ KI.nn) _ (IJ.jQ _ z) KQ;generalize upd H7 p8 (.lst [v6,v7])=H8 at *;refine aB fun W2 XM=>?_;have main:∀(Hy:Hp) (va vb:V) (ta tb:PM.Tr),ar Hx Hy->rM Hy s0->Hy p8=some (.lst [va,vb])->Fix K (fun a=>a∈cJ pl sc p ps (v0::yk)\/a=s0) Hy (jN ta) va->Fix K (fun a=>a∈cJ pl sc p ps (v0::yk)\/a=s0) Hy (jN tb) vb->zy bs ta->zy bs tb->W2 [some (.ref sa),some (.ref B),some (.ref R),some (.ref pl),some (.ref sc),some (.int (bs.length+i+1)),some (.int (1+i)),some (.ref s0),some (.int kd),some (.ref p8),HF,HG] Hy:=by
   intro Hy va vb ta tb sy IG yy fa fb oa ob;refine(XM _ _).mpr (aB fun W3 XN=>?_);clear XM F6 F7;walk_at "rd";intro pw XO;have ew:=ar.new XO (.lst [V.str (zac "if"),V.str (zac "while"),V.str (zac "if")]);have yw:(upd Hy pw (.lst [V.str (zac "if"),V.str (zac "while"),V.str (zac "if")])) pw=_:=aq;replace IG:=IG.same ew;replace yy:=ew _ _ yy;replace sy:=sy.trans ew;replace fa:=fa.up (.of ew);replace fb:=fb.up (.of ew);generalize upd Hy pw (.lst [V.str (zac "if"),V.str (zac "while"),V.str (zac "if")])=Hw at *;obtain⟨wd,XQ,hwd⟩:∃wd:Str,vd [V.str (zac "if"),V.str (zac "while"),V.str (zac "if")] kd=some (.str wd)/\(wd = "if"\/wd = "while"):=by
    obtain rfl |rfl |rfl:kd=0\/kd=1\/kd=2:=by lia
    ·exact⟨_,rfl,.inl rfl⟩
    ·exact⟨_,rfl,.inr rfl⟩
    ·exact⟨_,rfl,.inl rfl⟩
   refine cT (.of yw) XQ ((XN _ _).mpr (aB fun W4 SI=>?_));clear XN yw XQ ew XO;walk_at "rd";intro b0 Rk b1 EE pb XR;have XS:Hx b0=none:=sy.free Rk;have XT:=IG.ne Rk;have e0:=ar.new Rk (.lst []);have y0:(upd Hw b0 (.lst [])) b0=some (.lst []):=aq;have w1:Hw b1=none:=e0.free EE;have n01:b0≠b1:=aH y0 EE;have gW:∀a,((a∈cJ pl sc p ps (v0::yk)\/a=s0)\/a=b0\/a=b1)->(a∈cJ pl sc p ps (v0::yk)\/a=s0)\/Hw a=none:=fun a h=>h.imp id fun z=>z.elim (fun z=>by rw[z];exact Rk) fun z=>by rw[z];exact w1
   have FA:=fa.grow gW;have FB:=fb.grow gW;clear fa fb gW;have fb1:Hx b1=none:=sy.free w1;have n1s:=IG.ne w1;generalize upd Hw b0 (.lst [])=Hv at *;have e1:=ar.new EE (.lst []);have y1:(upd Hv b1 (.lst [])) b1=some (.lst []):=aq;generalize upd Hv b1 (.lst [])=Hu at *;have OO:=ar.new XR (.lst [V.ref b0,V.ref b1]);have yb:(upd Hu pb (.lst [V.ref b0,V.ref b1])) pb=_:=aq;have OP:=(e0.trans e1).trans OO;have sb:=sy.trans OP;have xk:=IG.same OP;replace yy:=OP _ _ yy;replace y0:=OO _ _ (e1 _ _ y0);replace y1:=OO _ _ y1;replace FA:=FA.up (.of OP);replace FB:=FB.up (.of OP);generalize upd Hu pb (.lst [V.ref b0,V.ref b1])=Hb at *;clear e0 e1 OO OP XR Rk EE w1 sy IG;rcases hwd with rfl |rfl
   ·rw[show (decide ((zac "if":Str)=zac "if"))=true by decide +kernel];refine⟨_,rfl,_,rfl,pb,_,rfl,.of yb,fun pq II=>(SI _ _).mpr ?_⟩;clear SI;rw[show ma [V.ref b0,V.ref b1] none (some (1+if true=true then 1 else 0))=[V.ref b0,V.ref b1] by rfl];have eq5:=ar.new II (.lst [V.ref b0,V.ref b1]);have yq:(upd Hb pq (.lst [V.ref b0,V.ref b1])) pq=_:=aq;have Rl:=xk.ne II;have fq:Hx pq=none:=sb.free II;replace xk:=xk.same eq5;replace sb:=sb.trans eq5;replace yy:=eq5 _ _ yy;replace y0:=eq5 _ _ y0;replace y1:=eq5 _ _ y1;replace FA:=FA.up (.of eq5);replace FB:=FB.up (.of eq5);generalize upd Hb pq (.lst [V.ref b0,V.ref b1])=Hq at *;refine aB fun W5 Rm=>?_;walk_at "rd";have Rn:=pz.same sb;have HH:=Rn.oK;rw[rev_last] at HH;refine⟨1,rfl,cT (.of HH) (mq _ _) ⟨.inl ⟨rfl,_,.of Rn.hp⟩,s0,2,rfl,xk,by decide,by decide,fun EI zP Vo Vp uK KL=>?_⟩⟩;obtain⟨c,ec,oc⟩:∃c:Nat,vd (zac "<=").cps.toList EI=some c/\[c]∈PG.Ak:=by
     obtain rfl |rfl:EI=0\/EI=1:=by lia
     ·exact⟨60,by decide +kernel,by decide⟩
     ·exact⟨61,by decide +kernel,by decide⟩
    refine⟨_,_,c,rfl,rfl,by decide +kernel,ec,?_⟩;intro Ej HI;generalize N2:upd zP Ej _=IK;have tm:=gL N2 HI;have Ro:=OG N2;clear N2;refine⟨Ej,p8,_,_,rfl,rfl,Ro,tm _ _ (uK _ _ n8 yy),by simp only[zak,zaQ];lia,fun HJ Br=>?_⟩;generalize N3:upd IK HJ _=EJ;have zQ:=gL N3 Br;have KN:=OG N3;clear N3;refine⟨HJ,pq,_,_,rfl,rfl,KN,zQ _ _ (tm _ _ (uK _ _ Rl yq)),by simp only[zap,zak,zaQ];lia,fun Rp Bs=>?_⟩;generalize N4:upd EJ Rp _=SJ;have JB:=gL N4 Bs;have OM:=OG N4;clear N4;refine⟨Rp,_,rfl,.inl ⟨.of OM,fun Ek HK=>?_⟩⟩;generalize N5:upd SJ Ek _=yl;have OQ:=gT N5 HK;have OR:yl Ek=some (.tup ([V.str (zac "if"),V.int (bs.length+i+1),V.str (S [c])]++[va,vb]++[V.ref b0,V.ref b1])):=by rw[<- N5];exact aq
    clear N5;have zR:=((tm.trans zQ).trans JB).trans OQ;have IC:∀b x,b≠s0->Hq b=some x->yl b=some x:=fun b x n e=>zR _ _ (uK b x n e);have sx:ar Hx yl:=fun b x e=>IC b x (fun z=>by rw[z,f4] at e;cases e) (sb b x e);have Rq:aU (fun a=>(a∈cJ pl sc p ps (v0::yk)\/a=s0)\/a=b0\/a=b1) Hq yl:=(aU.one uK (.inl (.inr rfl))).trans (.of zR);have Bt:=pz.same sx;have HL:=Bt.oK;have HM:=Bt.Bk;have N6:=IC _ _ Rl yq;have VA:pq≠p:=fun z=>pz.jQ p (aT.mpr (.inr (.inr (.inl rfl)))) (by rw[<- z];exact fq);have N7:pq≠pl:=fun z=>pz.jQ pl (aT.mpr (.inl rfl)) (by rw[<- z];exact fq);have N8:=pz.nd;unfold cJ at N8;rw[zaj,zaj,zaj] at N8;obtain⟨Rr,VB,_,_⟩:=N8;have m1:pl≠p:=fun z=>Rr (by rw[z];simp);have m2:sc≠p:=fun z=>VB (by rw[z];simp);have m3:sc≠pl:=fun z=>Rr (by rw[z];simp);have PO:=(pz.Q7 ((FA.up Rq).sub fun a h=>(LH h).imp .inl id) ((FB.up Rq).sub fun a h=>(LH h).imp .inl id) oc oa ob XJ sx XS fb1 n01 (((((aZ.of sb).trans uK).trans (.of ((tm.trans zQ).trans JB))).same f4).free HK) (IC _ _ XT y0) (IC _ _ n1s y1) OR)
    refine⟨p,vs,_,rfl,rfl,Bt.hp,by lia,(Rm _ _).mpr (aB fun W6 Rt=>?_)⟩;clear Rm;have z1:(upd yl p (.lst (vs++[V.ref Ek]))) pl=_:=(aE m1).trans HL;have z2:(upd yl p (.lst (vs++[V.ref Ek]))) sc=_:=(aE m2).trans HM;have z3:(upd yl p (.lst (vs++[V.ref Ek]))) pq=_:=(aE VA).trans N6;walk_at "rd";generalize upd yl p (.lst (vs++[V.ref Ek]))=IL at *;refine⟨.inl ⟨rfl,_,.of z1⟩,cT (.of z3) (v:=.ref b0) (aC (j:=0) rfl) ⟨pl,_,_,rfl,rfl,z1,by rw[rev_last,NH];lia,(Rt _ _).mpr ?_⟩⟩;clear Rt;have x2:(upd IL pl (.lst ((p::ps).reverse.map V.ref++[V.ref b0]))) sc=_:=(aE m3).trans z2;have x3:(upd IL pl (.lst ((p::ps).reverse.map V.ref++[V.ref b0]))) pq=_:=(aE N7).trans z3;walk_at "rd";generalize upd IL pl (.lst ((p::ps).reverse.map V.ref++[V.ref b0]))=SK at *;refine⟨.inl ⟨rfl,_,.of x2⟩,fun VC N9=>?_⟩;have Ru:=ar.new N9 (.lst [V.bO]);refine⟨pq,VC,_,_,rfl,rfl,Ru _ _ x3,aq,by simp only[zak,zaQ];lia,fun p18 Oa=>?_⟩;have Rv:=Ru.trans (ar.new Oa (.lst ([V.ref b0,V.ref b1]++[V.bO])));refine cT (.of aq) (v:=.ref b1) (aC (j:=1) rfl) ⟨sc,_,_,rfl,rfl,Rv _ _ x2,by rw[zb3,es];lia,fin _ _ _ _ _ _ _ _ _ _ (PO.same (zH Rv))⟩
   ·rw[show (decide ((zac "while":Str)=zac "if"))=false by decide +kernel];refine⟨_,rfl,_,rfl,pb,_,rfl,.of yb,fun pq II=>(SI _ _).mpr ?_⟩;clear SI;rw[show ma [V.ref b0,V.ref b1] none (some (1+if false=true then 1 else 0))=[V.ref b0] by rfl];have eq5:=ar.new II (.lst [V.ref b0]);have yq:(upd Hb pq (.lst [V.ref b0])) pq=_:=aq;have Rl:=xk.ne II;have fq:Hx pq=none:=sb.free II;replace xk:=xk.same eq5;replace sb:=sb.trans eq5;replace yy:=eq5 _ _ yy;replace y0:=eq5 _ _ y0;replace y1:=eq5 _ _ y1;replace FA:=FA.up (.of eq5);replace FB:=FB.up (.of eq5);generalize upd Hb pq (.lst [V.ref b0])=Hq at *;refine aB fun W5 Rm=>?_;walk_at "rd";have Rn:=pz.same sb;have HH:=Rn.oK;rw[rev_last] at HH;refine⟨1,rfl,cT (.of HH) (mq _ _) ⟨.inl ⟨rfl,_,.of Rn.hp⟩,s0,2,rfl,xk,by decide,by decide,fun EI zP Vo Vp uK KL=>?_⟩⟩;obtain⟨c,ec,oc⟩:∃c:Nat,vd (zac "<=").cps.toList EI=some c/\[c]∈PG.Ak:=by
     obtain rfl |rfl:EI=0\/EI=1:=by lia
     ·exact⟨60,by decide +kernel,by decide⟩
     ·exact⟨61,by decide +kernel,by decide⟩
    refine⟨_,_,c,rfl,rfl,by decide +kernel,ec,?_⟩;intro Ej HI;generalize N2:upd zP Ej _=IK;have tm:=gL N2 HI;have Ro:=OG N2;clear N2;refine⟨Ej,p8,_,_,rfl,rfl,Ro,tm _ _ (uK _ _ n8 yy),by simp only[zak,zaQ];lia,fun HJ Br=>?_⟩;generalize N3:upd IK HJ _=EJ;have zQ:=gL N3 Br;have KN:=OG N3;clear N3;refine⟨HJ,pq,_,_,rfl,rfl,KN,zQ _ _ (tm _ _ (uK _ _ Rl yq)),by simp only[zap,zak,zaQ];lia,fun Rp Bs=>?_⟩;generalize N4:upd EJ Rp _=SJ;have JB:=gL N4 Bs;have OM:=OG N4;clear N4;refine⟨Rp,_,rfl,.inl ⟨.of OM,fun Ek HK=>?_⟩⟩;generalize N5:upd SJ Ek _=yl;have OQ:=gT N5 HK;have OR:yl Ek=some (.tup ([V.str (zac "while"),V.int (bs.length+i+1),V.str (S [c])]++[va,vb]++[V.ref b0])):=by rw[<- N5];exact aq
    clear N5;have zR:=((tm.trans zQ).trans JB).trans OQ;have IC:∀b x,b≠s0->Hq b=some x->yl b=some x:=fun b x n e=>zR _ _ (uK b x n e);have sx:ar Hx yl:=fun b x e=>IC b x (fun z=>by rw[z,f4] at e;cases e) (sb b x e);have Rq:aU (fun a=>(a∈cJ pl sc p ps (v0::yk)\/a=s0)\/a=b0\/a=b1) Hq yl:=(aU.one uK (.inl (.inr rfl))).trans (.of zR);have Bt:=pz.same sx;have HL:=Bt.oK;have HM:=Bt.Bk;have N6:=IC _ _ Rl yq;have VA:pq≠p:=fun z=>pz.jQ p (aT.mpr (.inr (.inr (.inl rfl)))) (by rw[<- z];exact fq);have N7:pq≠pl:=fun z=>pz.jQ pl (aT.mpr (.inl rfl)) (by rw[<- z];exact fq);have N8:=pz.nd;unfold cJ at N8;rw[zaj,zaj,zaj] at N8;obtain⟨Rr,VB,_,_⟩:=N8;have m1:pl≠p:=fun z=>Rr (by rw[z];simp);have m2:sc≠p:=fun z=>VB (by rw[z];simp);have m3:sc≠pl:=fun z=>Rr (by rw[z];simp);have PO:=(pz.Q6 ((FA.up Rq).sub fun a h=>(LG h).imp .inl .inl) ((FB.up Rq).sub fun a h=>(LG h).imp .inl .inl) oc oa ob XJ sx XS (((((aZ.of sb).trans uK).trans (.of ((tm.trans zQ).trans JB))).same f4).free HK) (IC _ _ XT y0) OR)
    refine⟨p,vs,_,rfl,rfl,Bt.hp,by lia,(Rm _ _).mpr (aB fun W6 Rt=>?_)⟩;clear Rm;have z1:(upd yl p (.lst (vs++[V.ref Ek]))) pl=_:=(aE m1).trans HL;have z2:(upd yl p (.lst (vs++[V.ref Ek]))) sc=_:=(aE m2).trans HM;have z3:(upd yl p (.lst (vs++[V.ref Ek]))) pq=_:=(aE VA).trans N6;walk_at "rd";generalize upd yl p (.lst (vs++[V.ref Ek]))=IL at *;refine⟨.inl ⟨rfl,_,.of z1⟩,cT (.of z3) (v:=.ref b0) (aC (j:=0) rfl) ⟨pl,_,_,rfl,rfl,z1,by rw[rev_last,NH];lia,(Rt _ _).mpr ?_⟩⟩;clear Rt;have x2:(upd IL pl (.lst ((p::ps).reverse.map V.ref++[V.ref b0]))) sc=_:=(aE m3).trans z2;have x3:(upd IL pl (.lst ((p::ps).reverse.map V.ref++[V.ref b0]))) pq=_:=(aE N7).trans z3;walk_at "rd";generalize upd IL pl (.lst ((p::ps).reverse.map V.ref++[V.ref b0]))=SK at *;refine⟨.inl ⟨rfl,_,.of x2⟩,fun VC N9=>?_⟩;have Ru:=ar.new N9 (.lst [V.bO]);refine⟨pq,VC,_,_,rfl,rfl,Ru _ _ x3,aq,by simp only[zak,zaQ];lia,fun p18 Oa=>?_⟩;have Rv:=Ru.trans (ar.new Oa (.lst ([V.ref b0]++[V.bO])));refine cT (.of aq) (v:=.bO) (aC (j:=1) rfl) ⟨sc,_,_,rfl,rfl,Rv _ _ x2,by rw[zb3,es];lia,fin _ _ _ _ _ _ _ _ _ _ (PO.same (zH Rv))⟩
  walk_at "rd";refine⟨s0,2,rfl,HD,by decide,by decide,fun x9 H9 a9 b9 u9 Rh=>⟨rfl,cM (fun e9=>?_) (fun e9=>?_)⟩⟩
  ·have y9:=u9 _ _ n8 y8;refine⟨.inl ⟨rfl,_,.of y9⟩,p8,_,rfl,rfl,y9,?_⟩;have OS:ar Hx (upd H9 p8 (.lst [v6,v7].reverse)):=fun b x e=>by
    have e8':=s8 b x e;have nb:b≠s0:=fun z=>by rw[z,f4] at e;cases e
    have nb8:b≠p8:=fun z=>by
     have:=s5 b x e;rw[z] at this;exact(Vz.jQ KI.nn) _ (by rw[this];simp) KQ
    rw[aE nb8];exact u9 b x nb e8'
   have VD:rM (upd H9 p8 (.lst [v6,v7].reverse)) s0:=let ⟨n',m',e'⟩:=Rh;⟨n',m',by rw[aE n8.symm];exact e'⟩;have Rw:aU (fun a=>(a∈cJ pl sc p ps (v0::yk)\/a=s0)\/a=p8) H8 (upd H9 p8 (.lst [v6,v7].reverse)):=(aU.one u9 (.inl (.inr rfl))).put (.inr rfl) _;exact main _ v7 v6 t7 t6 OS VD aq ((F7.up Rw).sub fun a h=>.inl h) ((F6.up Rw).sub fun a h=>.inl h) ⟨o7,zau d7 (by decide)⟩ o6
  ·have OS:ar Hx H9:=fun b x e=>u9 b x (fun z=>by rw[z,f4] at e;cases e) (s8 b x e);have Rw:aU (fun a=>(a∈cJ pl sc p ps (v0::yk)\/a=s0)\/a=p8) H8 H9:=aU.one u9 (.inl (.inr rfl));exact main _ v6 v7 t6 t7 OS Rh (u9 _ _ n8 y8) ((F6.up Rw).sub fun a h=>.inl h) ((F7.up Rw).sub fun a h=>.inl h) o6 ⟨o7,zau d7 (by decide)⟩
 ·obtain⟨z6,z7,z8,z9,HF,HG,o,cur,p,ps,ss,vs,rfl,pz⟩:=(Bq _ _ _).mp hv;refine(sr _ _).mpr ?_;walk_at "rd";have zk:=pz.zk;exact q R _ Hx pz.sm hR pz.close ⟨zk.ok,zk.rise,fun x hx=>⟨(zk.rows x hx).1,by have:=(zk.rows x hx).2;lia⟩,zk.dep,by lia⟩
theorem qU:∀s:PG.bh,(V.str (nU s.wd)=V.str (zac "while"))↔s.wd=.eD:=by
 intro s;cases s<;>simp only[PG.bh.wd]<;>decide +kernel
theorem xO:∀s:PG.bh,(V.str (nU s.wd)=V.str (zac "if"))↔s.wd=.ifs:=by
 intro s;cases s<;>simp only[PG.bh.wd]<;>decide +kernel
theorem CY:∀s:PG.bh,(V.str (nU s.wd)=V.str (zac "stop"))↔s.wd=.stop:=by
 intro s;cases s<;>simp only[PG.bh.wd]<;>decide +kernel
theorem CZ{K:zaa}{H:Hp}{d0 d1 d2 d3 d4 d5:Dp}{xs:List V}{ds:List Dp}(h:aN K H (d0::d1::d2::d3::d4::d5::ds) xs):∃v0 v1 v2 v3 v4 v5 r,xs=v0::v1::v2::v3::v4::v5::r/\Rep K H d5 v5/\aN K H ds r:=by
 rw[aN.aJ] at h;obtain⟨v0,t0,rfl,_,h⟩:=h;rw[aN.aJ] at h;obtain⟨v1,t1,rfl,_,h⟩:=h;rw[aN.aJ] at h;obtain⟨v2,t2,rfl,_,h⟩:=h;rw[aN.aJ] at h;obtain⟨v3,t3,rfl,_,h⟩:=h;rw[aN.aJ] at h;obtain⟨v4,t4,rfl,_,h⟩:=h;rw[aN.aJ] at h;obtain⟨v5,t5,rfl,e5,h⟩:=h;exact⟨v0,v1,v2,v3,v4,v5,t5,rfl,e5,h⟩
theorem hX(T:Tx K mg t):bB P w K mg base eS 1 t.c0 t.cX ["body", "behind"] (nJ K):=by
 refine T.bC.F.j4 pT (fun vs H Q E h=>?_) (fun eK A outer s H vs Q E hr h=>?_)
 ·obtain⟨_,_,_,rfl,_⟩:=h;rfl
 obtain⟨b,body,x,rfl,rb,lb,q⟩:=h;have nd:=pT.nd;refine⟨_,[some (V.ref b),some (V.int x)],(ao (bo (yC (pv 0) (fun _=>rfl))
 (aw (aI (aA ay (aA cx (pv 0) ai ag) ai ag)))
 aR)
 (aw (aI (pv 1)))),rfl,?_⟩
 walk_at "rd";rw[Rep.bE] at rb;obtain⟨_,xs,e,hx,rs⟩:=rb;cases e;have line:zdu=2 ^ 24:=rfl;cases body with
 |nil=>
  rw[zbD,aN.bu] at rs;subst rs;exact⟨false,.inl ⟨_,hx,rfl⟩,q⟩
 |cons st r=>
  rw[zar,aN.aJ] at rs;obtain⟨v,t,rfl,rv,rs⟩:=rs;obtain⟨a,ys,rfl,hs⟩:=gI st rv;refine⟨true,.inl ⟨_,hx,rfl⟩,?_⟩;refine(if_pos rfl).mpr (cT (v:=.ref a) hx (aC (j:=0) rfl) ?_);exact aG hs (v:=.int st.row) (aC (j:=1) rfl) q
theorem uL(T:Tx K mg t):bB P w K mg base eS 1 t.eV t.fw ["statement", "after"] (yV K):=by
 refine T.eW.F.j4 m6 (fun vs H Q E h=>?_) (fun eK A outer s H vs Q E hr h=>?_)
 ·obtain⟨_,_,_,rfl,_⟩:=h;rfl
 obtain⟨v,st,x,rfl,rv,q⟩:=h;have nd:=m6.nd;refine⟨_,[some v,some (V.int x)],(ao (bo (aK bL (aA ay (pv 0) ai ag) bw (aO _))
 (aw (aI (aA ay (pv 0) ai ag)))
 aR)
 (aw (aI (pv 1)))),rfl,?_⟩
 obtain⟨a,ys,rfl,hs⟩:=gI st rv;walk_at "rd";refine aG hs (aC (j:=0) rfl) ⟨rfl,cM (fun e=>?_) (fun e=>?_)⟩
 ·have ew:=(qU st).mp e;refine aG hs (v:=.int st.row) (aC (j:=1) rfl) ?_;cases st<;>first |exact q |cases ew
 ·have ew:st.wd≠.eD:=fun z=>e ((qU st).mpr z);cases st<;>first |exact q |exact absurd rfl ew
theorem qf(T:Tx K mg t):bB P w K mg base eS 1 t.fz t.fK ["statement"] (tW K):=by
 refine T.dI.F.j4 pU (fun vs H Q E h=>?_) (fun eK A outer s H vs Q E hr h=>?_)
 ·obtain⟨_,_,_,rfl,_⟩:=h;rfl
 obtain⟨v,st,H0,rfl,rv,s0,q⟩:=h;have nd:=pU.nd;refine⟨_,[some v],(ao (bo (aK bL (aA ay (pv 0) ai ag) bw (aO _))
 (aw (aI (bJ (ae (aA ay (pv 0) ai ag) (ae (aA ay (pv 0) ai ag) aj aL) aL))))
 aR)
 (ao (bo (aK bL (aA ay (pv 0) ai ag) bw (aO _))
 (aw (aI (bJ (ae (aA ay (pv 0) ai ag) aj aL))))
 aR)
 (aw (aI (bJ aj))))),rfl,?_⟩
 obtain⟨a,ys,rfl,hs⟩:=gI st rv;have hs:=s0.bj hs;walk_at "rd";refine aG hs (aC (j:=0) rfl) ⟨rfl,cM (fun e=>?_) (fun e=>aG hs (aC (j:=0) rfl) ⟨rfl,cM (fun e2=>?_) (fun e2=>?_)⟩)⟩
 ·have ew:=(xO st).mp e;cases st<;>first |(exfalso;cases ew;done) |skip
  rename_i k sg l r x y;rw[dY,Rep.a0] at rv;obtain⟨_,xs,e0,hx,rs⟩:=rv;cases e0;obtain⟨v0,v1,v2,v3,v4,v5,rr,rfl,r5,rs⟩:=CZ rs;rw[aN.aJ] at rs;obtain⟨v6,t6,rfl,r6,_⟩:=rs;refine aG (s0.bj hx) (v:=v5) (aC (j:=5) rfl) (aG (s0.bj hx) (v:=v6) (aC (j:=6) rfl) fun p hp=>?_);rw[cy] at r5 r6;exact q p _ _ (ar.new hp _) hp aq (.cons r5 (.cons r6 .nil))
 ·have ew:=(qU st).mp e2;cases st<;>first |(exfalso;cases ew;done) |skip
  rename_i k sg l r x;rw[dY,Rep.a0] at rv;obtain⟨_,xs,e0,hx,rs⟩:=rv;cases e0;obtain⟨v0,v1,v2,v3,v4,v5,rr,rfl,r5,rs⟩:=CZ rs;refine aG (s0.bj hx) (v:=v5) (aC (j:=5) rfl) fun p hp=>?_;rw[cy] at r5;exact q p _ _ (ar.new hp _) hp aq (.cons r5 .nil)
 ·intro p hp;have e1:st.wd≠.ifs:=fun z=>e ((xO st).mpr z);have OO:st.wd≠.eD:=fun z=>e2 ((qU st).mpr z);refine q p [] _ (ar.new hp _) hp aq ?_;cases st<;>first |exact .nil |exact absurd rfl e1 |exact absurd rfl OO
theorem Bu(T:Tx K mg t):bB P w K mg base eS 2 t.ji t.jE ["statement", "after"] (Ga K):=by
 have cI:bB P w K mg base eS 1 t.c0 t.cX ["body", "behind"] (nJ K):=hX T;refine T.jj.F.j4 uC (fun vs H Q E h=>?_) (fun eK A outer s H vs Q E hr h=>?_)
 ·obtain⟨_,_,_,rfl,_⟩:=h;rfl
 obtain⟨v,st,x,rfl,rv,hl,q⟩:=h;have nd:=uC.nd;obtain⟨HN,uM,uN⟩:=T.xJ;refine⟨_,[some v,some (V.int x),none],(ao (aQ (i:=2) nd rfl (zaq rfl) (aA ay (pv 0) ai ag))
 (ao (bo (aK bL (pv 2) bw (aO _))
 (aw (aI (bt (ae (sJ rfl uM uN) aj ah))))
 aR)
 (ao (bo (aK bL (pv 2) bw (aO _))
 (aw (aI (bt (ae (aD cI (hr.mono (by first|decide|omega)) rfl T.bC.m T.bC.F.kp T.bC.b .nil aP (ae (aA ay (pv 0) ai ag) (ae (pv 1) aj ah) aL)) (ae (aD cI (hr.mono (by first|decide|omega)) rfl T.bC.m T.bC.F.kp T.bC.b .nil aP (ae (aA ay (pv 0) ai ag) (ae (pv 1) aj ah) aL)) aj aY) aY))))
 aR)
 (ao (bo (aK bL (pv 2) bw (aO _))
 (aw (aI (bt (ae (aD cI (hr.mono (by first|decide|omega)) rfl T.bC.m T.bC.F.kp T.bC.b .nil aP (ae (aA ay (pv 0) ai ag) (ae (aA ay (pv 0) ai ag) aj aL) aL)) (ae (pv 1) aj ah) aY))))
 aR)
 (aw (aI (bt (ae (pv 1) aj ah)))))))),rfl,?_⟩
 obtain⟨a,ys,rfl,hs⟩:=gI st rv;refine aB fun U1 gN=>?_;walk_at "rd";refine aG hs (aC (j:=0) rfl) ((gN _ _).mpr ?_);walk_at "rd";have HP:∀b∈aV st,b.length<=100000:=hl;refine cM (fun e=>?_) (fun e=>cM (fun e1=>?_) (fun e1=>cM (fun e2=>?_) (fun e2=>?_)))
 ·have ew:=(CY st).mp (by rw[e]);cases st<;>first |(exfalso;cases ew;done) |skip
  intro p hp;exact q _ _ (ar.new hp _) (Rep.new hp (.cons (Rep.bg.mpr rfl) .nil))
 ·have ew:=(xO st).mp (by rw[e1]);cases st<;>first |(exfalso;cases ew;done) |skip
  rename_i k sg l r y z;rw[dY,Rep.a0] at rv;obtain⟨_,xs,e0,hx,rs⟩:=rv;cases e0;obtain⟨v0,v1,v2,v3,v4,v5,rr,rfl,r5,rs⟩:=CZ rs;rw[aN.aJ] at rs;obtain⟨v6,t6,rfl,r6,_⟩:=rs;rw[cy] at r5 r6;obtain⟨a5,_,rfl,_⟩:=Rep.bE.mp r5;obtain⟨a6,_,rfl,_⟩:=Rep.bE.mp r6;refine aG hx (v:=.ref a5) (aC (j:=5) rfl) ⟨a5,y,x,rfl,r5,HP y (by simp[aV]),aG hx (v:=.ref a6) (aC (j:=6) rfl) ⟨a6,z,x,rfl,r6,HP z (by simp[aV]),fun p hp=>?_⟩⟩;exact q _ _ (ar.new hp _) (Rep.new hp (.cons (Rep.bg.mpr rfl) (.cons (Rep.bg.mpr rfl) .nil)))
 ·have ew:=(qU st).mp (by rw[e2]);cases st<;>first |(exfalso;cases ew;done) |skip
  rename_i k sg l r y;rw[dY,Rep.a0] at rv;obtain⟨_,xs,e0,hx,rs⟩:=rv;cases e0;obtain⟨v0,v1,v2,v3,v4,v5,rr,rfl,r5,rs⟩:=CZ rs;rw[cy] at r5;obtain⟨a5,_,rfl,_⟩:=Rep.bE.mp r5;refine aG hx (v:=.ref a5) (aC (j:=5) rfl) (aG hs (v:=.int k) (aC (j:=1) rfl) ⟨a5,y,k,rfl,r5,HP y (by simp[aV]),fun p hp=>?_⟩);exact q _ _ (ar.new hp _) (Rep.new hp (.cons (Rep.bg.mpr rfl) (.cons (Rep.bg.mpr rfl) .nil)))
 ·intro p hp;have n1:st.wd≠.stop:=fun z=>e (V.str.inj ((CY st).mpr z));have n2:st.wd≠.ifs:=fun z=>e1 (V.str.inj ((xO st).mpr z));have n3:st.wd≠.eD:=fun z=>e2 (V.str.inj ((qU st).mpr z));have ew:mB st x=[x]:=by
   cases st<;>first |rfl |exact absurd rfl n1 |exact absurd rfl n2 |exact absurd rfl n3
  rw[ew] at q;exact q _ _ (ar.new hp _) (Rep.new hp (.cons (Rep.bg.mpr rfl) .nil))
theorem HQ{K:zaa}{Oo:zdm->Prop}{H:Hp}{ds es:List Dp}{vs us:List V}(a:dv K Oo H ds vs)(b:dv K Oo H es us):dv K Oo H (ds++es) (vs++us):=fun H2 u=>(a H2 u).append (b H2 u)
theorem wK{K:zaa}{H:Hp}:∀(n:Nat) {ds:List PG.bh} {vs:List V},aN K H (ds.map dY) vs->aN K H ((ds.drop n).map dY) (vs.drop n)
 |0,_,_,h=>h
 |n+1,[],vs,h=>by
  rw[zbD,aN.bu] at h;subst h;exact .nil
 |n+1,d::ds,vs,h=>by
  rw[zar,aN.aJ] at h;obtain⟨v,t,rfl,_,h⟩:=h;exact wK n h
theorem HR(T:Tx K mg t){n:Nat}(jI:bB P w K mg base eS (n+2) t.dh t.dA ["body", "behind"] (sU K n)) :
 bB P w K mg base eS (n+3) t.dh t.dA ["body", "behind"] (sU K (n+1)):=by
 have cI:bB P w K mg base eS 1 t.c0 t.cX ["body", "behind"] (nJ K):=hX T;have El:bB P w K mg base eS 2 t.ji t.jE ["statement", "after"] (Ga K):=Bu T;have nu:bB P w K mg base eS 1 t.fz t.fK ["statement"] (tW K):=qf T;have vC:bB P w K mg base eS 1 t.eV t.fw ["statement", "after"] (yV K):=uL T;refine T.cu.F.j4 lZ (fun vs H Q E h=>?_) (fun eK A outer s H vs Q E hr h=>?_)
 ·obtain⟨_,_,_,rfl,_⟩:=h;rfl
 obtain⟨b,body,x,rfl,rb,hd,hf,q⟩:=h;have nd:=lZ.nd;refine⟨_,[some (V.ref b),some (V.int x),none,none,none,none,none],(ao (aQ (i:=2) nd rfl (zaq rfl) (bJ aj))
 (ao (jo PassesOwn.never rfl (Jw rfl T.nj (ae (pv 0) aj ah)) (wY rfl (iG (bH (i:=3) nd rfl (zaq rfl)) (iG (bH (i:=4) nd rfl (zaq rfl)) sM)))
 (ao (aQ (i:=5) nd rfl (zaq rfl) (aD cI (hr.mono (by first|decide|omega)) rfl T.bC.m T.bC.F.kp T.bC.b .nil aP (ae (pC xf (pv 0) (sQ (bT jq (pv 3) ai)) sP) (ae (pv 1) aj ah) aL)))
 (ao (e7 (lT zaA zaJ zaK eQ (pv 2) (ae (bt (ae (aA ay (pv 4) ai ag) (ae (aA ay (pv 4) ai ag) (ae (aD El (hr.mono (by first|decide|omega)) rfl T.jj.m T.jj.F.kp T.jj.b .nil aP (ae (pv 4) (ae (pv 5) aj ah) ah)) aj aY) aL) aL)) aj oN)))
 (aw (jo PassesOwn.never rfl (fG (aD nu (hr.mono (by first|decide|omega)) rfl T.dI.m T.dI.F.kp T.dI.b .nil aP (ae (pv 4) aj ah))) (bH (i:=6) nd rfl (zaq rfl))
 (aw (e7 (lT zaA zcM zcN vY (pv 2) (ae (aD jI (hr.mono (by first|decide|omega)) rfl T.cu.m T.cu.F.kp T.cu.b .nil aP (ae (pv 6) (ae (aD vC (hr.mono (by first|decide|omega)) rfl T.eW.m T.eW.F.kp T.eW.b .nil aP (ae (pv 4) (ae (pv 5) aj ah) ah)) aj aY) ah)) aj aY)))))))))
 (aw (aI (pv 2))))),rfl,?_⟩
 have line:zdu=2 ^ 24:=rfl;rw[Rep.bE] at rb;obtain⟨_,xs,e,hx,rs⟩:=rb;cases e;have lx:xs.length=body.length:=by rw[rs.length,zae]
 have lb:=kE body;refine aB fun U1 gN=>?_;walk_at "rd";intro tl SM;have s1:=ar.new SM (.lst []);have y1:(upd H tl (.lst [])) tl=some (.lst []):=aq;generalize upd H tl (.lst [])=H1 at *;refine(gN _ _).mpr (aB fun U2 jm=>?_);clear gN;walk_at "rd";obtain⟨Pv,vD⟩:∃Pv:Nat->St->Hp->Prop,∀i σ H2,Pv i σ H2↔∃(z3 z4 z5 z6:Option V) (pre:List PG.cU) (us:List V),σ=[some (V.ref b),some (V.int x),some (V.ref tl),z3,z4,z5,z6]/\ar H H2/\H2 tl=some (.lst us)/\dv K (·=tl) H2 (pre.map gQ) us/\us.length=pre.length/\pre++PG.aF (body.drop i) x=PG.aF body x:=⟨_,fun _ _ _=>Iff.rfl⟩
 refine⟨_,rfl,⟨xs,s1.seq hx⟩,F2 (K:=K) (a:=b) (xs:=xs) Pv ((vD _ _ _).mpr ⟨none,none,none,none,[],[],rfl,s1,y1,.nil,rfl,rfl⟩) (fun i σ H2 _ hv=>?_) ?_ ?_⟩
 ·obtain⟨_,_,_,_,_,_,_,s2,_⟩:=(vD _ _ _).mp hv;exact s2.seq hx
 ·intro i y σ H2 tp hi hv LV;obtain⟨z3,z4,z5,z6,pre,us,rfl,s2,y2,f2,lu,ep⟩:=(vD _ _ _).mp hv;clear hv;have done:=fun σ H7=>(vD (i+1) σ H7).mpr;have li:i<body.length:=by have:=(zal.mp hi).1;lia
  obtain⟨v,hv,rv⟩:=rs.get (i:=i) (d:=dY body[i]) (by rw[zah,zab li];rfl);rw[hi] at hv;cases hv;have ed:body.drop i=body[i]::body.drop (i+1):=zb7 li;rw[ed,PG.aF,F8] at ep;have mem:body[i]∈body:=zao li;obtain⟨fm,dm⟩:=qG body _ mem;generalize Ez:body[i]=st at *;have s3:=s2.trans (ar.new LV (.tup [V.int i,y]));have n3:tl≠tp:=aH y2 LV;have y3:=ar.new LV (.tup [V.int i,y]) _ _ y2;have f3:=f2.up (.of (ar.new LV (.tup [V.int i,y])));have t3:(upd H2 tp (.tup [V.int i,y])) tp=some (.tup [V.int i,y]):=aq;generalize upd H2 tp (.tup [V.int i,y])=H3 at *;obtain⟨sa,ys,rfl,hs⟩:=gI st rv;refine⟨tp,_,rfl,.of t3,rfl,_,_,rfl,_,_,rfl,rfl,?_⟩;refine aB fun U3 ke=>?_;walk_at "rd";refine⟨_,rfl,b,_,rfl,s3.seq hx,fun p4 NW=>?_⟩;have ec:ma xs (some ((i:Int)+1)) none=xs.drop (i+1):=by
   unfold ma;rw[HT.tL,show (i:Int)+1=((i+1:Nat):Int) by lia,HT.w5];rw[show min (i+1) xs.length=i+1 by lia];exact zbV (by rw[zb1];lia)
  rw[ec];have s4:=s3.trans (ar.new NW (.lst (xs.drop (i+1))));have y4:=ar.new NW (.lst (xs.drop (i+1))) _ _ y3;have f4:=f3.up (.of (ar.new NW (.lst (xs.drop (i+1)))));have l4:(upd H3 p4 (.lst (xs.drop (i+1)))) p4=some (.lst (xs.drop (i+1))):=aq;generalize upd H3 p4 (.lst (xs.drop (i+1)))=H4 at *;have rd4:Rep K H4 (.lst ((body.drop (i+1)).map dY)) (.ref p4):=Rep.bE.mpr ⟨p4,_,rfl,.of l4,wK (i+1) (rs.mono s4)⟩;refine⟨p4,body.drop (i+1),x,rfl,rd4,by rw[zb1];lia,(ke _ _).mpr (aB fun U4 lP=>?_)⟩;clear ke;generalize PG.aW (body.drop (i+1)) x=af at *;have xK:=(show bS K H4 sa _ from s4.bj hs)
  walk_at "rd";refine⟨.inl ⟨rfl,_,.of y4⟩,aG xK (v:=.int st.row) (aC (j:=1) rfl) (aG xK (v:=.str (nU st.wd)) (aC (j:=0) rfl) ?_)⟩;have sh:F9 st:=fun bb TX=>by
   have:=(k8 st bb TX).1;have:=kE bb;lia
  refine⟨.ref sa,st,af,rfl,rv.mono s4,sh,fun u H5 s5 ru p6 KD=>?_⟩;have y5:=s5 _ _ y4;have f5:=f4.up (.of s5);have fu:Fix K (·=tl) H5 (.tup ((mB st af).map .int)) u:=Na y5 (by rw[Jz];exact qF _) ru;have n6:p6≠tl:=(aH y5 KD).symm;have s6:=ar.new KD (.tup [V.int st.row,V.str (nU st.wd),u]);have ft:Fix K (·=tl) (upd H5 p6 (.tup [V.int st.row,V.str (nU st.wd),u])) (gQ (st.row,st.wd,mB st af)) (.ref p6):=Fix.tup aq n6 (.cons .int (.cons .str (.cons (fu.up (.of s6)) .nil)));have f6:=f5.up (.of s6);have y6:=s6 _ _ y5;have s46:=(s4.trans s5).trans s6;generalize upd H5 p6 (.tup [V.int st.row,V.str (nU st.wd),u])=H6 at *;have aaJ:pre.length<=1000:=by
   have h1:=congrArg zaV ep;have h2:=congrArg zaV (PG.eU body x);simp only[zap,zae,zak] at h1 h2;lia
  refine⟨tl,us,_,rfl,rfl,y6,by lia,?_⟩;have s7:ar H (upd H6 tl (.lst (us++[V.ref p6]))):=fun z o e=>by rw[aE (aH e SM)];exact s46 z o e
  have f7:=(f6.snoc ft).up (aU.refl.put (O:=(·=tl)) rfl (.lst (us++[V.ref p6])));have y7:(upd H6 tl (.lst (us++[V.ref p6]))) tl=some (.lst (us++[V.ref p6])):=aq;generalize upd H6 tl (.lst (us++[V.ref p6]))=H7 at *;refine(lP _ _).mpr ?_;clear lP;refine kA fun U hU=>?_;walk_at "rd";refine⟨.ref sa,st,H,rfl,rv,s7,fun l8 bv H8 s8 XU y8 r8=>⟨l8,rfl,⟨bv,.of y8⟩,hU _ _ ?_⟩⟩;have VE:bv.length=(aV st).length:=by rw[r8.length,zae]
  have l8t:l8≠tl:=fun z=>by rw[z,y7] at XU;cases XU
  obtain⟨Pw,C0⟩:∃Pw:Nat->St->Hp->Prop,∀j σ H9,Pw j σ H9↔∃(z6:Option V) (us:List V) (zS:List PG.cU),σ=[some (V.ref b),some (V.int x),some (V.ref tl),some (V.int i),some (V.ref sa),some (V.int af),z6]/\ar H H9/\(∀z o,z≠tl->H8 z=some o->H9 z=some o)/\H9 tl=some (.lst us)/\dv K (·=tl) H9 (zS.map gQ) us/\us.length=zS.length/\
   zS++((aV st).drop j).flatMap (fun bb=>PG.aF bb (gP st af))=pre++(st.row,st.wd,mB st af)::(aV st).flatMap (fun bb=>PG.aF bb (gP st af)):=⟨_,fun _ _ _=>Iff.rfl⟩
  refine km (K:=K) (a:=l8) (xs:=bv) Pw ((C0 _ _ _).mpr ⟨z6,_,pre++[(st.row,st.wd,mB st af)],rfl,s7.trans s8,fun z o _ e=>e,s8 _ _ y7,by rw[zax];exact f7.up (.of s8),by simp[lu],by simp⟩) (fun j σ H9 _ hv=>?_) ?_ ?_
  ·obtain⟨_,_,_,_,_,k9,_⟩:=(C0 _ _ _).mp hv;exact .of (k9 _ _ l8t y8)
  ·intro j y σ H9 hj hv;obtain⟨z6',Bm,zS,rfl,s9,k9,y9,f9,VF,e9⟩:=(C0 _ _ _).mp hv;clear hv;have lj:j<(aV st).length:=by have:=(zal.mp hj).1;lia
   obtain⟨v,hv,rb⟩:=r8.get (i:=j) (d:=.lst ((aV st)[j].map dY)) (by rw[zah,zab lj];rfl);rw[hj] at hv;cases hv;have mj:(aV st)[j]∈aV st:=zao lj;obtain⟨fb,db⟩:=k8 st _ mj;have ej:(aV st).drop j=(aV st)[j]::(aV st).drop (j+1):=zb7 lj;rw[ej,zcb] at e9;generalize (aV st)[j]=bb at *;obtain⟨ab,_,rfl,_⟩:=Rep.bE.mp rb;walk_at "rd";refine⟨.inl ⟨rfl,_,.of y9⟩,.ref sa,st,af,rfl,rv.mono s9,?_⟩;refine⟨ab,bb,_,rfl,rb.mono s9,by lia,by lia,fun yj KR zP Bv VG SN LW=>?_⟩;have Rx:=Bv _ _ y9;have Vq:=f9.up (.of Bv);have g10:dv K (·=tl) zP ((PG.aF bb (gP st af)).map gQ) KR:=JA Rx (wj _) LW;have yj:KR.length=(PG.aF bb (gP st af)).length:=by rw[LW.length,zae]
   have tot:zS.length+(PG.aF bb (gP st af)).length<=2000:=by
    have h1:=congrArg zaV e9;have h2:=congrArg zaV ep;have h3:=congrArg zaV (PG.eU body x);simp only[zap,zae,zak] at h1 h2 h3;lia
   refine⟨tl,_,Bm,KR,rfl,rfl,Rx,SN,by lia,?_⟩;refine(C0 _ _ _).mpr ⟨_,Bm++KR,zS++PG.aF bb (gP st af),rfl,fun z o e=>?_,fun z o nz e=>?_,aq,?_,by simp[VF,yj],by rw[<- e9];simp⟩
   ·rw[aE (aH e SM)];exact Bv _ _ (s9 _ _ e)
   ·rw[aE nz];exact Bv _ _ (k9 z o nz e)
   ·rw[zax];exact(HQ Vq g10).up (aU.refl.put (O:=(·=tl)) rfl _)
  ·intro σ H9 hv;obtain⟨z6',Bm,zS,rfl,s9,k9,y9,f9,VF,e9⟩:=(C0 _ _ _).mp hv;rw[VE,zcL,List.flatMap_nil,zba] at e9;refine done _ _ ⟨_,_,_,_,zS,Bm,rfl,s9,y9,f9,VF,?_⟩;rw[e9,<- ep];simp
 ·intro σ H2 hv;obtain⟨z3,z4,z5,z6,pre,us,rfl,s2,y2,f2,lu,ep⟩:=(vD _ _ _).mp hv;rw[lx,zcL,PG.aF,zba] at ep;refine(jm _ _).mpr ?_;walk_at "rd";rw[ep] at f2;exact q tl us H2 s2 SM y2 f2.AR
theorem wL(T:Tx K mg t):∀n,bB P w K mg base eS (n+2) t.dh t.dA ["body", "behind"] (sU K n)
 |0=>by
  have no:∀vs H Q E,¬sU K 0 vs H Q E:=fun vs H Q E h=>by obtain⟨_,_,_,_,_,h,_⟩:=h;lia
  exact⟨fun vs H Q E h=>absurd h (no vs H Q E),fun A outer s H args us vs Q E _ _ _ _ h=>absurd h (no vs H Q E)⟩
 |n+1=>HR T (wL T n)
theorem xP(T:Tx K mg t):bB P w K mg base eS 8 t.nh t.lJ ["program"] (xo K):=by
 have jI:=wL (P:=P) (w:=w) (base:=base) T 5;refine T.qS.F.j4 CM (fun vs H Q E h=>?_) (fun eK A outer s H vs Q E hr h=>?_)
 ·obtain⟨_,_,rfl,_⟩:=h;rfl
 obtain⟨v,pr,rfl,rp,hd,hf,q⟩:=h;have nd:=CM.nd;obtain⟨HN,uM,uN⟩:=T.xJ;refine⟨_,[some v],(aw (aI (aD jI (hr.mono (by first|decide|omega)) rfl T.cu.m T.cu.F.kp T.cu.b .nil aP (ae (aA ay (pv 0) ai ag) (ae (sJ rfl uM uN) aj ah) aL)))),rfl,?_⟩;unfold j5 at rp;rw[Rep.a0] at rp;obtain⟨a,xs,rfl,hx,rs⟩:=rp;rw[aN.aJ] at rs;obtain⟨v1,t1,rfl,r1,rs⟩:=rs;rw[aN.aJ] at rs;obtain⟨v2,t2,rfl,r2,rs⟩:=rs;obtain⟨b,_,rfl,_⟩:=Rep.bE.mp r2;walk_at "rd";refine aG hx (v:=.ref b) (aC (j:=1) rfl) ?_;exact⟨b,pr.body,0,rfl,r2,by lia,hf,fun l us H' s' hl y r=>q l us H' s' hl y r⟩
theorem HS(T:Tx K mg t){n:Nat}(cP:bB P w K mg base eS (n+2) t.bN t.bQ ["body"] (lg K n)) :
 bB P w K mg base eS (n+3) t.bN t.bQ ["body"] (lg K (n+1)):=by
 have nu:bB P w K mg base eS 1 t.fz t.fK ["statement"] (tW K):=qf T;refine T.bY.F.j4 kM (fun vs H Q E h=>?_) (fun eK A outer s H vs Q E hr h=>?_)
 ·obtain⟨_,_,_,rfl,_⟩:=h;rfl
 obtain⟨b,body,H0,rfl,s0,rb,hd,hf,q⟩:=h;have nd:=kM.nd;refine⟨_,[some (V.ref b),none,none,none],(ao (aQ (i:=1) nd rfl (zaq rfl) (bJ aj))
 (ao (jo PassesOwn.never rfl (fG (pv 0)) (bH (i:=2) nd rfl (zaq rfl))
 (ao (e7 (lT zaA zaJ zaK eQ (pv 1) (ae (pv 2) aj ah)))
 (aw (jo PassesOwn.never rfl (fG (aD nu (hr.mono (by first|decide|omega)) rfl T.dI.m T.dI.F.kp T.dI.b .nil aP (ae (pv 2) aj ah))) (bH (i:=3) nd rfl (zaq rfl))
 (aw (e7 (lT zaA zcM zcN vY (pv 1) (ae (aD cP (hr.mono (by first|decide|omega)) rfl T.bY.m T.bY.F.kp T.bY.b .nil aP (ae (pv 3) aj ah)) aj aY))))))))
 (aw (aI (pv 1))))),rfl,?_⟩
 have line:zdu=2 ^ 24:=rfl;rw[Rep.bE] at rb;obtain⟨_,xs,e,hx,rs⟩:=rb;cases e;have lx:xs.length=body.length:=by rw[rs.length,zae]
 have lb:=kE body;have sl:=yY body;refine aB fun U1 gN=>?_;walk_at "rd";intro d SO;have s1:=ar.new SO (.lst []);have y1:(upd H d (.lst [])) d=some (.lst []):=aq;generalize upd H d (.lst [])=H1 at *;refine(gN _ _).mpr (aB fun U2 jm=>?_);clear gN;refine kA fun U hU=>?_;walk_at "rd";refine⟨⟨xs,(s0.trans s1).seq hx⟩,hU _ _ ?_⟩;clear hU;obtain⟨Pv,vD,Ob⟩:=Xf fun (i:Nat) (σ:St) (H3:Hp) zq=>∀(z2 z3:Option V) (us:List V),σ=[some (V.ref b),some (V.ref d),z2,z3]->ar H H3->us.length=(PG.ax (body.take i)).length->H3 d=some (.lst us)->aN K H0 ((PG.ax (body.take i)).map dY) us->zq;refine km (K:=K) (a:=b) (xs:=xs) Pv ((vD _ _ _ fun _ zk=>zk none none [] rfl s1 rfl y1 .nil)) (fun i σ H3 _ hv=>?_) ?_ ?_
 ·refine Ob _ _ _ hv _ fun _ _ _ _ s3 _ _ _=>?_;exact(s0.trans s3).seq hx
 ·intro i y σ H3 hi hv;refine Ob _ _ _ hv _ fun z2 z3 us VH s3 lu y3 r3=>?_;subst VH;clear hv;have done:=fun σ H7=>vD (i+1) σ H7;have li:i<body.length:=by have:=(zal.mp hi).1;lia
  obtain⟨v,hv,rv⟩:=rs.get (i:=i) (d:=dY body[i]) (by rw[zah,zab li];rfl);rw[hi] at hv;cases hv;have mem:body[i]∈body:=zao li;obtain⟨fm,dm⟩:=qG body _ mem;have et:PG.ax (body.take (i+1))=PG.ax (body.take i)++body[i]::(aV body[i]).flatMap PG.ax:=by
   rw[zcg li,mC,Gf,JC]
  rw[et] at done;have eb:PG.ax body=(PG.ax (body.take i)++body[i]::(aV body[i]).flatMap PG.ax)++PG.ax (body.drop (i+1)):=by
   rw[<- et,<- mC,zc9]
  rw[eb] at sl;have sl:(PG.ax (body.take i)++body[i]::(aV body[i]).flatMap PG.ax).length<=1000:=by
   rw[zap] at sl;lia
  generalize body[i]=st at *;generalize PG.ax (body.take i)=pre at *;simp only[jn,zct];refine aB fun U3 ke=>?_;walk_at "rd";refine⟨.inl ⟨rfl,_,.of y3⟩,d,us,y,rfl,rfl,y3,by simp only[zap,zak] at sl;lia,(ke _ _).mpr ?_⟩;clear ke;have y4:(upd H3 d (.lst (us++[y]))) d=some (.lst (us++[y])):=aq;have s4:ar H (upd H3 d (.lst (us++[y]))):=fun z o e=>by rw[aE (aH e SO)];exact s3 z o e
  generalize upd H3 d (.lst (us++[y]))=H4 at *;refine kA fun U hU=>?_;walk_at "rd";refine⟨y,st,H0,rfl,rv,s0.trans s4,fun p bv H5 XW hp h5 rc=>⟨p,rfl,⟨_,.of h5⟩,hU _ _ ?_⟩⟩;clear hU;have s5:=s4.trans XW;have y5:=XW _ _ y4;have npd:p≠d:=(aH y4 hp).symm;have VE:bv.length=(aV st).length:=by rw[rc.length,zae]
  obtain⟨Pw,C0,Oc⟩:=Xf fun (j:Nat) (σ:St) (H6:Hp) zq=>∀(z3:Option V) (Bm:List V),σ=[some (V.ref b),some (V.ref d),some y,z3]->ar H H6->H6 p=some (.lst bv)->Bm.length=(pre++st::((aV st).take j).flatMap PG.ax).length->H6 d=some (.lst Bm)->aN K H0 ((pre++st::((aV st).take j).flatMap PG.ax).map dY) Bm->zq;refine km (K:=K) (a:=p) (xs:=bv) Pw ((C0 _ _ _ fun _ zk=>zk z3 (us++[y]) rfl s5 h5 (by simp[lu]) y5 ?_)) (fun j σ H6 _ hv=>?_) ?_ ?_
  ·rw[List.take_zero,List.flatMap_nil,zax];exact r3.append (.cons rv .nil)
  ·refine Oc _ _ _ hv _ fun _ _ _ _ h6 _ _ _=>?_;exact .of h6
  ·intro j y' σ H6 hj hv;refine Oc _ _ _ hv _ fun z3' Bm VH s6 h6 VI y6 r6=>?_;subst VH;clear hv;have LX:=fun σ H7=>C0 (j+1) σ H7;have lj:j<(aV st).length:=by have:=(zal.mp hj).1;lia
   obtain⟨v,hv,XX⟩:=rc.get (i:=j) (d:=.lst ((aV st)[j].map dY)) (by rw[zah,zab lj];rfl);rw[hj] at hv;cases hv;have mj:(aV st)[j]∈aV st:=zao lj;obtain⟨fb,db⟩:=k8 st _ mj;have ej:((aV st).take (j+1)).flatMap PG.ax=((aV st).take j).flatMap PG.ax++PG.ax (aV st)[j]:=by
    rw[zcg lj,zdf];simp
   have ea:(aV st).flatMap PG.ax=((aV st).take j).flatMap PG.ax++PG.ax (aV st)[j]++((aV st).drop (j+1)).flatMap PG.ax:=by
    rw[<- ej,<- zdf,zc9]
   rw[ej] at LX;rw[ea] at sl;generalize (aV st)[j]=bb at *;generalize ((aV st).take j).flatMap PG.ax=mid at *;generalize ((aV st).drop (j+1)).flatMap PG.ax=rest at *;have sl2:(pre++st::mid).length+(PG.ax bb).length<=1000:=by
    simp only[zap,zak] at sl ⊢;lia
   obtain⟨ab,_,rfl,_⟩:=Rep.bE.mp XX;simp only[jn,zct];walk_at "rd";refine⟨.inl ⟨rfl,_,.of y6⟩,ab,bb,H0,rfl,s0.trans s6,XX,by lia,by lia,fun d2 Nd H7 s7 hd2 y7 r7=>?_⟩;have l2:Nd.length=(PG.ax bb).length:=by rw[r7.length,zae]
   refine⟨d,d2,_,_,rfl,rfl,s7 _ _ y6,y7,by lia,?_⟩;refine LX _ _ (fun _ zk=>zk _ (Bm++Nd) rfl (fun z o e=>by rw[aE (aH e SO)];exact s7 _ _ (s6 z o e)) (by rw[aE npd];exact s7 _ _ h6) (by simp only[zap,zak] at *;lia) aq ?_);rw[show pre++st::(mid++PG.ax bb)=(pre++st::mid)++PG.ax bb by simp,zax];exact r6.append r7
  ·intro σ H6 hv;refine Oc _ _ _ hv _ fun z3' Bm VJ s6 h6 VI y6 r6=>?_;subst VJ;rw[VE,zbQ] at VI r6;exact done _ _ (fun _ zk=>zk _ _ Bm rfl s6 VI y6 r6)
 ·intro σ H3 hv;refine Ob _ _ _ hv _ fun z2 z3 us VJ s3 lu y3 r3=>?_;subst VJ;rw[lx,zbQ] at lu r3;refine(jm _ _).mpr ?_;walk_at "rd";exact q d us H3 s3 SO y3 r3
theorem nQ(T:Tx K mg t):∀n,bB P w K mg base eS (n+2) t.bN t.bQ ["body"] (lg K n)
 |0=>by
  have no:∀vs H Q E,¬lg K 0 vs H Q E:=fun vs H Q E h=>by obtain⟨_,_,_,_,_,_,h,_⟩:=h;lia
  exact⟨fun vs H Q E h=>absurd h (no vs H Q E),fun A outer s H args us vs Q E _ _ _ _ h=>absurd h (no vs H Q E)⟩
 |n+1=>HS T (nQ T n)
theorem zU{ss:List PG.bh}{vs:List V}(l:vs.length=ss.length):(zaz ss.length).map (fun i=>((Sum.inl (ss.getD i (.stop 0)).row:Key),vs.getD i .bO))=gJ ss vs:=by
 apply zcf
 ·simp[gJ,l]
 ·intro i h1 h2;simp at h1;simp[gJ,h1,l]
theorem xQ{fl:List PG.cU}{vs:List V}(l:vs.length=fl.length):(zaz fl.length).map (fun i=>((Sum.inl (fl.getD i (0,.stop,[])).1:Key),vs.getD i .bO))=za8 (fun r v=>(Sum.inl r.1,v)) fl vs:=by
 apply zcf
 ·simp[l]
 ·intro i h1 h2;simp at h1;simp[h1,l]
theorem zV{fl:List PG.cU}{vs:List V}(l:vs.length=fl.length):(za8 (fun r v=>((Sum.inl r.1:Key),v)) fl vs).map (·.1)=fl.map fun r=>(Sum.inl r.1:Key):=by
 apply zcf
 ·simp[l]
 ·intro i h1 h2;simp
theorem C1{K:zaa}{H:Hp}:∀ {fl:List PG.cU} {us:List V},aN K H (fl.map gQ) us->∃ws:List V,ws.length=fl.length/\∀i (hi:i<fl.length),∃a q,us[i]?=some (.ref a)/\ws[i]?=some (.ref q)/\bS K H a [.int fl[i].1,.str (nU fl[i].2.1),.ref q]/\bS K H q (fl[i].2.2.map V.int)
 |[],us,_=>⟨[],rfl,fun i hi=>by simp at hi⟩
 |r::fl,us,h=>by
  have h0:=h;rw[zar,aN.aJ] at h;obtain⟨v,tl,rfl,h1,h2⟩:=h;obtain⟨ws,l,hw⟩:=C1 h2;obtain⟨a,q,e,s1,s2⟩:=Gg h0 (i:=0) (y:=v) rfl (by simp);refine⟨.ref q::ws,by simp[l],fun i hi=>?_⟩;cases i with
  |zero=>exact⟨a,q,by rw[e];rfl,rfl,s1,s2⟩
  |succ i=>
   obtain⟨a',q',e1,e2,e3,e4⟩:=hw i (by simpa using hi);exact⟨a',q',by simpa using e1,by simpa using e2,by simpa using e3,by simpa using e4⟩
theorem Bw{b:List PG.bh}(pw:(PG.ax b).Pairwise fun a b=>a.row<b.row):((PG.aF b 0).map fun r=>(Sum.inl r.1:Key)).Nodup:=by
 have e:(PG.aF b 0).map (fun r=>(Sum.inl r.1:Key))=(PG.ax b).map fun s=>(Sum.inl s.row:Key):=by
  have h:((PG.aF b 0).map fun r=>(r.1,r.2.1))=(PG.ax b).map fun x=>(x.row,x.wd):=by rw[PG.eU,PG.fJ]
  have h2:=congrArg (List.map fun r:Int×PG.Wd=>(Sum.inl r.1:Key)) h;rw[zaN,zaN] at h2;exact h2
 rw[e];exact tZ pw
theorem uO{K:zaa}{H:Hp}{B:zdm}{bs:List PG.ck}(r:Rep K H (.lst (bs.map ju)) (.ref B)):∃xs,fF K H B xs/\xs.length=bs.length/\∀i x,xs[i]?=some x->∃a,x=.ref a/\bS K H a [.str (S (bs.getD i ⟨[],0,0⟩).name),.int (bs.getD i ⟨[],0,0⟩).size,.int (bs.getD i ⟨[],0,0⟩).first]:=by
 rw[Rep.bE] at r;obtain⟨_,xs,e,q,rs⟩:=r;cases e;have lx:xs.length=bs.length:=by rw[rs.length,zae]
 refine⟨xs,q,lx,fun i x hx=>?_⟩;have li:i<bs.length:=by have:=(zal.mp hx).1;lia
 obtain⟨v,hv,rv⟩:=rs.get (i:=i) (d:=ju bs[i]) (by rw[zah,zab li];rfl);rw[hx] at hv;cases hv;have eg:bs.getD i ⟨[],0,0⟩=bs[i]:=by rw[zaf,zab li];rfl
 rw[eg];simp only[ju,Rep.a0,aN.aJ,aN.bu,Rep.br,Rep.bg] at rv;obtain⟨a,ys,rfl,hS,_,_,rfl,rfl,_,_,rfl,rfl,_,_,rfl,rfl,rfl⟩:=rv;exact⟨a,rfl,hS⟩
theorem lQ{kvs:List (Key×V)}(h:(kvs.map (·.1)).Nodup):iU [] kvs=kvs:=by
 have:=oP kvs [] (by simpa using h);simpa using this
theorem iF(T:Tx K mg t)(cI:bB P w K mg base eS 1 t.c0 t.cX ["body", "behind"] (nJ K))(cP:bB P w K mg base eS 7 t.bN t.bQ ["body"] (lg K 5))(uP:bB P w K mg base eS 8 t.nh t.lJ ["program"] (xo K)) :
 bB P w K mg base eS 9 t.cY t.kb ["self", "program"] (JO K t.aS):=by
 refine T.jb.j4 oC (fun vs H Q E h=>?_) (fun eK A outer s H vs Q E hr h=>?_)
 ·obtain⟨_,_,_,_,rfl,_⟩:=h;rfl
 obtain⟨p,dx,v,pr,rfl,hp,wM,rp,hd,hf,pw,nb,lb,q⟩:=h;have nd:=oC.nd;obtain⟨HN,uM,uN⟩:=T.xJ;refine⟨_,[some (.ref p),some v,none,none],(ao (aQ (i:=2) nd rfl (zaq rfl) (aA ay (pv 1) ai ag))
 (ao (aQ (i:=3) nd rfl (zaq rfl) (aA ay (pv 1) ai ag))
 (ao (tK (pv 0) (fI (own:=["box"]) (ix:=[]) rfl (by rfl) (by rfl) (fG (pv 2)) (fun _ _ _ _=>(bH (i:=0) (by show List.Nodup (["box"]:List Str);decide +kernel) rfl (zaq rfl))) (fun _ _ _ _=>gm) (fun _ _ _ _=>(aA (cm (K:=K) rfl) (pv 0) ai ag))) rfl)
 (ao (tK (pv 0) (c6 (lA rfl) rfl T.pd PyProof.Rows.Boot.«dict» (ae (fI (own:=["box"]) (ix:=[]) rfl (by rfl) (by rfl) (fG (pv 2)) (fun _ _ _ _=>(bH (i:=0) (by show List.Nodup (["box"]:List Str);decide +kernel) rfl (zaq rfl))) (fun _ _ _ _=>gm) (fun _ _ _ _=>(bt (ae (aA (cm (K:=K) rfl) (pv 0) ai ag) (ae (aA (cm (K:=K) rfl) (pv 0) ai ag) aj aL) aL)))) aj iw)) rfl)
 (ao (tK (pv 0) (bt (ae (aD cI (hr.mono (by first|decide|omega)) rfl T.bC.m T.bC.F.kp T.bC.b .nil aP (ae (pv 3) (ae (sJ rfl uM uN) aj ah) ah)) (ae (c6 dN rfl T.jd PyProof.Rows.Boot.«tuple» (ae (fI (own:=["box"]) (ix:=[]) rfl (by rfl) (by rfl) (fG (pv 2)) (fun _ _ _ _=>(bH (i:=0) (by show List.Nodup (["box"]:List Str);decide +kernel) rfl (zaq rfl))) (fun _ _ _ _=>gm) (fun _ _ _ _=>(aA (cm (K:=K) rfl) (pv 0) ai ag))) aj iw)) aj aY) aY)) rfl)
 (ao (tK (pv 0) (c6 (lA rfl) rfl T.pd PyProof.Rows.Boot.«dict» (ae (fI (own:=["statement"]) (ix:=[]) rfl (by rfl) (by rfl) (fG (aD cP (hr.mono (by first|decide|omega)) rfl T.bY.m T.bY.F.kp T.bY.b .nil aP (ae (pv 3) aj ah))) (fun _ _ _ _=>(bH (i:=0) (by show List.Nodup (["statement"]:List Str);decide +kernel) rfl (zaq rfl))) (fun _ _ _ _=>gm) (fun _ _ _ _=>(bt (ae (aA (cm (K:=K) rfl) (pv 0) ai ag) (ae (pv 0) aj ah) aL)))) aj iw)) rfl)
 (aw (tK (pv 0) (c6 (lA rfl) rfl T.pd PyProof.Rows.Boot.«dict» (ae (fI (own:=["told"]) (ix:=[]) rfl (by rfl) (by rfl) (fG (aD uP (hr.mono (by first|decide|omega)) rfl T.qS.m T.qS.F.kp T.qS.b .nil aP (ae (pv 1) aj ah))) (fun _ _ _ _=>(bH (i:=0) (by show List.Nodup (["told"]:List Str);decide +kernel) rfl (zaq rfl))) (fun _ _ _ _=>gm) (fun _ _ _ _=>(bt (ae (aA (cm (K:=K) rfl) (pv 0) ai ag) (ae (aA (cm (K:=K) rfl) (pv 0) ai ag) aj aL) aL)))) aj iw)) rfl)))))))),rfl,?_⟩
 have line:zdu=2 ^ 24:=rfl;have VL:=rp;unfold j5 at VL;rw[Rep.a0] at VL;obtain⟨pa,pxs,rfl,XY,OT⟩:=VL;rw[aN.aJ] at OT;obtain⟨v1,t1,rfl,SQ,OT⟩:=OT;rw[aN.aJ] at OT;obtain⟨v2,t2,rfl,VM,OT⟩:=OT;obtain⟨bb,_,rfl,_⟩:=Rep.bE.mp VM;obtain⟨bx,_,rfl,_⟩:=Rep.bE.mp SQ;refine aB fun U1 gN=>?_;walk_at "rd";refine aG XY (v:=.ref bx) (aC (j:=0) rfl) ((gN _ _).mpr (aB fun U2 jm=>?_));clear gN;walk_at "rd";refine aG XY (v:=.ref bb) (aC (j:=1) rfl) ((jm _ _).mpr (aB fun U3 ke=>?_));clear jm;walk_at "rd";simp only[yE,iH];walk_at "rd";obtain⟨xs1,XZ,lx1,g1⟩:=uO SQ;refine⟨⟨_,XZ⟩,fun D1 X0=>qH (K:=K) (r:=[]) (fun i=>.str (S (pr.av.getD i ⟨[],0,0⟩).name)) XZ (by lia) X0 (fun i x H2 hx s2 R hR=>?_) (fun H2 s2 h2=>⟨p,_,dx,[],rfl,s2 _ _ hp,T.bG,T.fE,by decide,(ke _ _).mpr (aB fun U4 lP=>?_)⟩)⟩
 ·obtain⟨a,rfl,ha⟩:=g1 i x hx;walk_at "rd";exact aG (s2.bj ha) (v:=.str (S (pr.av.getD i ⟨[],0,0⟩).name)) (aC (j:=0) rfl) hR
 clear ke;rw[lx1,jh (fun b:PG.ck=>V.str (S b.name))] at h2;have Aj:=s2 _ _ hp;have n1:D1≠p:=(aH hp X0).symm;have u3:aU (·=p) H (upd H2 p (.ins t.aS dx [("names",.ref D1)])):=(aU.of s2).trans (aU.refl.put (O:=(·=p)) rfl _);have IH:(upd H2 p (.ins t.aS dx [("names",.ref D1)])) p=some (.ins t.aS dx [("names",.ref D1)]):=aq;have d1:(upd H2 p (.ins t.aS dx [("names",.ref D1)])) D1=some (.lst (pr.av.map fun b=>.str (S b.name))):=by rw[aE n1];exact h2
 rw[show jM (zac "names") (V.ref D1) []=[(zac "names",V.ref D1)] from rfl];generalize upd H2 p (.ins t.aS dx [("names",.ref D1)])=H3 at *;walk_at "rd";simp only[yE,iH];walk_at "rd";have pr3:=nK hp u3 _ _ SQ;obtain⟨xs3,X1,lx3,g3⟩:=uO pr3;refine⟨⟨_,X1⟩,fun D2 Bx=>oQ (K:=K) (r:=[]) (fun i=>(.inr (S (pr.av.getD i ⟨[],0,0⟩).name),.int (pr.av.getD i ⟨[],0,0⟩).size)) X1 (by lia) Bx (fun i x H2 hx s2 R hR=>?_) (fun ps H4 s4 h4 JN ep=>⟨D2,ps,rfl,.of h4,fun q hq=>.of (JN q hq),?_,fun D3 HU=>⟨p,_,dx,_,rfl,ar.new HU _ _ _ (s4 _ _ IH),T.bG,T.dq,by simp,(lP _ _).mpr (aB fun U5 sr=>?_)⟩⟩)⟩
 ·obtain⟨a,rfl,ha⟩:=g3 i x hx;walk_at "rd";exact aG (s2.bj ha) (v:=.str (S (pr.av.getD i ⟨[],0,0⟩).name)) (aC (j:=0) rfl) (aG (s2.bj ha) (v:=.int (pr.av.getD i ⟨[],0,0⟩).size) (aC (j:=1) rfl) hR)
 ·have:=congrArg zaV ep;simp only[zae,zbu] at this;lia
 clear lP;have ek:ps.map (fun q=>(q.2.1,q.2.2))=pr.av.map fun b=>(Sum.inr (S b.name),V.int b.size):=by
  rw[show (fun q:zdm×Key×V=>(q.2.1,q.2.2))=(·.2) from rfl,ep,lx3,jh (fun b:PG.ck=>((Sum.inr (S b.name):Key),V.int b.size))]
 have nk:((pr.av.map fun b=>((Sum.inr (S b.name):Key),V.int b.size)).map (·.1)).Nodup:=by
  rw[zaN];refine zaX.mpr ((zaX.mp nb).imp fun {a b} Sq e=>Sq ?_);exact kz.mp (Sum.inr.inj e)
 rw[ek,lQ nk,show jM (zac "sizes") (V.ref D3) [(zac "names",V.ref D1)]=[(zac "names",V.ref D1),(zac "sizes",V.ref D3)] from rfl];have X2:=s4.trans (ar.new HU (.dK (pr.av.map fun b=>(Sum.inr (S b.name),V.int b.size))));have d3:(upd H4 D3 (.dK (pr.av.map fun b=>(Sum.inr (S b.name),V.int b.size)))) D3=some (.dK (pr.av.map fun b=>(Sum.inr (S b.name),V.int b.size))):=aq;generalize upd H4 D3 (.dK (pr.av.map fun b=>(Sum.inr (S b.name),V.int b.size)))=H5 at *;have n3:D3≠p:=bP d3 (X2 _ _ IH) (by intro z;cases z);have u6:aU (·=p) H3 (upd H5 p (.ins t.aS dx [(zac "names",V.ref D1),(zac "sizes",V.ref D3)])):=(aU.of X2).trans (aU.refl.put (O:=(·=p)) rfl _);have KD:(upd H5 p (.ins t.aS dx [(zac "names",V.ref D1),(zac "sizes",V.ref D3)])) p=some (.ins t.aS dx [(zac "names",V.ref D1),(zac "sizes",V.ref D3)]):=aq;have d3:(upd H5 p (.ins t.aS dx [(zac "names",V.ref D1),(zac "sizes",V.ref D3)])) D3=some (.dK (pr.av.map fun b=>(Sum.inr (S b.name),V.int b.size))):=by rw[aE n3];exact d3
 generalize upd H5 p (.ins t.aS dx [(zac "names",V.ref D1),(zac "sizes",V.ref D3)])=H6 at *;have d1:=u6 _ _ n1 d1;have u6:=u3.trans u6;have pr6:=nK hp u6 _ _ SQ;have pb6:=nK hp u6 _ _ VM;walk_at "rd";simp only[yE,iH];walk_at "rd";have lbd:=kE pr.body;obtain⟨xs6,X3,lx6,g6⟩:=uO pr6;refine⟨bb,pr.body,0,rfl,pb6,by lia,⟨_,X3⟩,fun D4 hD4=>qH (K:=K) (r:=[]) (fun i=>.int (pr.av.getD i ⟨[],0,0⟩).first) X3 (by lia) hD4 (fun i x H2 hx s2 R hR=>?_) (fun H7 s7 h7=>⟨D4,_,rfl,.inl ⟨.of h7,fun D5 X4 D6 SR=>⟨p,_,dx,_,rfl,ar.new SR _ _ _ (ar.new X4 _ _ _ (s7 _ _ KD)),T.bG,T.du,by simp,(sr _ _).mpr (aB fun U6 Ar=>?_)⟩⟩⟩)⟩
 ·obtain⟨a,rfl,ha⟩:=g6 i x hx;walk_at "rd";exact aG (s2.bj ha) (v:=.int (pr.av.getD i ⟨[],0,0⟩).first) (aC (j:=2) rfl) hR
 clear sr;rw[show jM (zac "first") (V.ref D6) [(zac "names",V.ref D1),(zac "sizes",V.ref D3)]=[(zac "names",V.ref D1),(zac "sizes",V.ref D3),(zac "first",V.ref D6)] from rfl];rw[lx6,jh (fun b:PG.ck=>V.int b.first)] at SR ⊢;have s8:=s7.trans ((ar.new X4 (.tup (pr.av.map fun b=>V.int b.first))).trans (ar.new SR (.tup [V.int (PG.aW pr.body 0),V.ref D5])));have d5:(upd (upd H7 D5 (.tup (pr.av.map fun b=>V.int b.first))) D6 (.tup [V.int (PG.aW pr.body 0),V.ref D5])) D5=some (.tup (pr.av.map fun b=>V.int b.first)):=ar.new SR _ _ _ aq;have d6:(upd (upd H7 D5 (.tup (pr.av.map fun b=>V.int b.first))) D6 (.tup [V.int (PG.aW pr.body 0),V.ref D5])) D6=some (.tup [V.int (PG.aW pr.body 0),V.ref D5]):=aq;generalize upd (upd H7 D5 (.tup (pr.av.map fun b=>V.int b.first))) D6 (.tup [V.int (PG.aW pr.body 0),V.ref D5])=H8 at *;have KQ:=s8 _ _ KD;have n5:D5≠p:=bP d5 KQ (by intro z;cases z);have n6:D6≠p:=bP d6 KQ (by intro z;cases z);have u9:aU (·=p) H6 (upd H8 p (.ins t.aS dx [(zac "names",V.ref D1),(zac "sizes",V.ref D3),(zac "first",V.ref D6)])):=(aU.of s8).trans (aU.refl.put (O:=(·=p)) rfl _);have HE:(upd H8 p (.ins t.aS dx [(zac "names",V.ref D1),(zac "sizes",V.ref D3),(zac "first",V.ref D6)])) p=some (.ins t.aS dx [(zac "names",V.ref D1),(zac "sizes",V.ref D3),(zac "first",V.ref D6)]):=aq;have d5:(upd H8 p (.ins t.aS dx [(zac "names",V.ref D1),(zac "sizes",V.ref D3),(zac "first",V.ref D6)])) D5=some (.tup (pr.av.map fun b=>V.int b.first)):=by rw[aE n5];exact d5
 have d6:(upd H8 p (.ins t.aS dx [(zac "names",V.ref D1),(zac "sizes",V.ref D3),(zac "first",V.ref D6)])) D6=some (.tup [V.int (PG.aW pr.body 0),V.ref D5]):=by rw[aE n6];exact d6
 generalize upd H8 p (.ins t.aS dx [(zac "names",V.ref D1),(zac "sizes",V.ref D3),(zac "first",V.ref D6)])=H9 at *;have d1:=u9 _ _ n1 d1;have d3:=u9 _ _ n3 d3;have u9:=u6.trans u9;have pb9:=nK hp u9 _ _ VM;walk_at "rd";simp only[yE,iH];walk_at "rd";refine⟨bb,pr.body,H9,rfl,ar.refl _,pb9,by lia,hf,fun yj us zP Bv VG SN LW=>?_⟩;have sl:=yY pr.body;have vv:us.length=(PG.ax pr.body).length:=by rw[LW.length,zae]
 refine⟨yj,rfl,⟨_,.of SN⟩,fun D7 X5=>oQ (K:=K) (r:=[]) (fun i=>(.inl ((PG.ax pr.body).getD i (.stop 0)).row,us.getD i .bO)) (.of SN) (by lia) X5 (fun i x H2 hx s2 R hR=>?_) (fun ps IK tm JQ JN ep=>⟨D7,ps,rfl,.of JQ,fun q hq=>.of (JN q hq),?_,fun D8 X6=>⟨p,_,dx,_,rfl,ar.new X6 _ _ _ (tm _ _ (Bv _ _ HE)),T.bG,T.bI,by simp,(Ar _ _).mpr ?_⟩⟩)⟩
 ·have li:i<(PG.ax pr.body).length:=by have:=(zal.mp hx).1;lia
  obtain⟨v',Iu,rv⟩:=LW.get (i:=i) (d:=dY (PG.ax pr.body)[i]) (by rw[zah,zab li];rfl);rw[hx] at Iu;cases Iu;have e1:(PG.ax pr.body).getD i (.stop 0)=(PG.ax pr.body)[i]:=by rw[zaf,zab li];rfl
  have e2:us.getD i .bO=x:=by rw[zaf,hx];rfl
  rw[e1,e2] at hR;obtain⟨sa,ys,rfl,hs⟩:=gI _ rv;walk_at "rd";exact aG ((Bv.trans s2).bj hs) (v:=.int (PG.ax pr.body)[i].row) (aC (j:=1) rfl) hR
 ·have:=congrArg zaV ep;simp only[zae,zbu] at this;lia
 clear Ar;have ek:ps.map (fun q=>(q.2.1,q.2.2))=gJ (PG.ax pr.body) us:=by
  rw[show (fun q:zdm×Key×V=>(q.2.1,q.2.2))=(·.2) from rfl,ep,vv,zU vv]
 have nk:((gJ (PG.ax pr.body) us).map (·.1)).Nodup:=by
  rw[tY _ _ vv];exact tZ pw
 rw[ek,lQ nk,show jM (zac "statements") (V.ref D8) [(zac "names",V.ref D1),(zac "sizes",V.ref D3),(zac "first",V.ref D6)]=[(zac "names",V.ref D1),(zac "sizes",V.ref D3),(zac "first",V.ref D6),(zac "statements",V.ref D8)] from rfl];have zQ:=(Bv.trans tm).trans (ar.new X6 (.dK (gJ (PG.ax pr.body) us)));have d8:(upd IK D8 (.dK (gJ (PG.ax pr.body) us))) D8=some (.dK (gJ (PG.ax pr.body) us)):=aq;generalize upd IK D8 (.dK (gJ (PG.ax pr.body) us))=EJ at *;have Br:=zQ _ _ HE;have n8:D8≠p:=bP d8 Br (by intro z;cases z);have KU:aU (·=p) H9 (upd EJ p (.ins t.aS dx [(zac "names",V.ref D1),(zac "sizes",V.ref D3),(zac "first",V.ref D6),(zac "statements",V.ref D8)])):=(aU.of zQ).trans (aU.refl.put (O:=(·=p)) rfl _);have Bs:(upd EJ p (.ins t.aS dx [(zac "names",V.ref D1),(zac "sizes",V.ref D3),(zac "first",V.ref D6),(zac "statements",V.ref D8)])) p=some (.ins t.aS dx [(zac "names",V.ref D1),(zac "sizes",V.ref D3),(zac "first",V.ref D6),(zac "statements",V.ref D8)]):=aq;have d8:(upd EJ p (.ins t.aS dx [(zac "names",V.ref D1),(zac "sizes",V.ref D3),(zac "first",V.ref D6),(zac "statements",V.ref D8)])) D8=some (.dK (gJ (PG.ax pr.body) us)):=by rw[aE n8];exact d8
 generalize upd EJ p (.ins t.aS dx [(zac "names",V.ref D1),(zac "sizes",V.ref D3),(zac "first",V.ref D6),(zac "statements",V.ref D8)])=SJ at *;have d1:=KU _ _ n1 d1;have d3:=KU _ _ n3 d3;have d5:=KU _ _ n5 d5;have d6:=KU _ _ n6 d6;have r13:=kF HE KU _ _ LW;have KU:=u9.trans KU;have VN:=nK hp KU _ _ rp;walk_at "rd";simp only[yE,iH];walk_at "rd";refine⟨_,pr,rfl,VN,hd,hf,fun l14 fv yl OQ aaZ OR X7=>?_⟩;obtain⟨ws,VO,X8⟩:=C1 X7;have lfv:fv.length=(PG.aF pr.body 0).length:=by rw[X7.length,zae]
 have X9:(PG.aF pr.body 0).length=(PG.ax pr.body).length:=by
  have h1:=congrArg zaV (PG.eU pr.body 0);rw[zae] at h1;lia
 refine⟨l14,rfl,⟨_,.of OR⟩,fun D9 hD9=>oQ (K:=K) (r:=[]) (fun i=>(.inl ((PG.aF pr.body 0).getD i (0,.stop,[])).1,ws.getD i .bO)) (.of OR) (by lia) hD9 (fun i x H2 hx s2 R hR=>?_) (fun ps IL VP T4 JN ep=>⟨D9,ps,rfl,.of T4,fun q hq=>.of (JN q hq),?_,fun Od Oe=>⟨p,_,dx,_,rfl,ar.new Oe _ _ _ (VP _ _ (OQ _ _ Bs)),T.bG,T.c5,by simp,?_⟩⟩)⟩
 ·have li:i<(PG.aF pr.body 0).length:=by have:=(zal.mp hx).1;lia
  obtain⟨a,qq,e1,e2,q1,q2⟩:=X8 i li;rw[hx] at e1;cases e1;have g1:(PG.aF pr.body 0).getD i (0,.stop,[])=(PG.aF pr.body 0)[i]:=by rw[zaf,zab li];rfl
  have g2:ws.getD i .bO=V.ref qq:=by rw[zaf,e2];rfl
  rw[g1,g2] at hR;walk_at "rd";exact aG (s2.bj q1) (v:=.int (PG.aF pr.body 0)[i].1) (aC (j:=0) rfl) (aG (s2.bj q1) (v:=.ref qq) (aC (j:=2) rfl) hR)
 ·have:=congrArg zaV ep;simp only[zae,zbu] at this;lia
 have ek:ps.map (fun q=>(q.2.1,q.2.2))=za8 (fun r v=>(Sum.inl r.1,v)) (PG.aF pr.body 0) ws:=by
  rw[show (fun q:zdm×Key×V=>(q.2.1,q.2.2))=(·.2) from rfl,ep,lfv,xQ VO]
 have nk:((za8 (fun r v=>((Sum.inl r.1:Key),v)) (PG.aF pr.body 0) ws).map (·.1)).Nodup:=by
  rw[zV VO];exact Bw pw
 rw[ek,lQ nk,show jM (zac "ways") (V.ref Od) [(zac "names",V.ref D1),(zac "sizes",V.ref D3),(zac "first",V.ref D6),(zac "statements",V.ref D8)]=[(zac "names",V.ref D1),(zac "sizes",V.ref D3),(zac "first",V.ref D6),(zac "statements",V.ref D8),(zac "ways",V.ref Od)] from rfl];have Ya:=(OQ.trans VP).trans (ar.new Oe (.dK (za8 (fun r v=>(Sum.inl r.1,v)) (PG.aF pr.body 0) ws)));have Ry:=VP.trans (ar.new Oe (.dK (za8 (fun r v=>(Sum.inl r.1,v)) (PG.aF pr.body 0) ws)));have Yb:(upd IL Od (.dK (za8 (fun r v=>(Sum.inl r.1,v)) (PG.aF pr.body 0) ws))) Od=some (.dK (za8 (fun r v=>(Sum.inl r.1,v)) (PG.aF pr.body 0) ws)):=aq;generalize upd IL Od (.dK (za8 (fun r v=>(Sum.inl r.1,v)) (PG.aF pr.body 0) ws))=SK at *;have Of:=Ya _ _ Bs;have n10:Od≠p:=bP Yb Of (by intro z;cases z);have put:∀fs,aU (·=p) SK (upd SK p (.ins t.aS dx fs)):=fun fs=>aU.refl.put (O:=(·=p)) rfl _;have uE:=fun fs=>(aU.of Ya).trans (put fs);have uA:=fun fs=>KU.trans (uE fs);refine q _ (fun b o n e=>uA _ b o n e) ⟨⟨dx,D1,D3,D6,D5,D8,Od,us,ws,aq,uA _ _ _ (bP wM hp (by intro z;cases z)) wM,uE _ _ _ n1 d1,uE _ _ _ n3 d3,uE _ _ _ n6 d6,uE _ _ _ n5 d5,vv,uE _ _ _ n8 d8,kF Bs (uE _) _ _ r13,VO,put _ _ _ n10 Yb,fun i hi=>?_⟩⟩;obtain⟨a,qq,e1,e2,q1,q2⟩:=X8 i hi;refine⟨qq,e2,?_⟩;have q2:=Ry.bj q2;rcases q2 with (q2 |⟨o,q2⟩) |q2
 ·exact .inl (.inl (put _ _ _ (bP q2 Of (by intro z;cases z)) q2))
 ·exact .inl (.inr ⟨o,put _ _ _ (bP q2 Of (by intro z;cases z)) q2⟩)
 ·exact .inr q2
theorem HV(T:Tx K mg t){n:Nat}(j0:bB P w K mg base eS n t.lK t.kP ["e", "values"] (Su K n)) :
 bB P w K mg base eS (n+1) t.lK t.kP ["e", "values"] (Su K (n+1)):=by
 refine T.cE.F.j4 zM (fun vs H Q E h=>?_) (fun eK A outer s H vs Q E hr h=>?_)
 ·obtain⟨_,_,_,_,rfl,_⟩:=h;rfl
 obtain⟨v,d,tr,kv,rfl,hv,hd,ok,ht,h6,q⟩:=h;have nd:=zM.nd;have hu:=gd hr;refine⟨_,[some v,some (.ref d),none,none,none],(ao (aQ (i:=2) nd rfl (zaq rfl) (aA ay (pv 0) ai ag))
 (ao (bo (aK bL (pv 2) bw (aO _))
 (aw (aI (aA ay (pv 0) ai ag)))
 aR)
 (ao (bo (aK bL (pv 2) bw (aO _))
 (aw (aI (cf hu (pv 1) (aA ay (pv 0) ai ag) (fun _ _=>rfl))))
 aR)
 (ao (aQ (i:=3) nd rfl (zaq rfl) (aD j0 (hr.mono (by first|decide|omega)) rfl T.cE.m T.cE.F.kp T.cE.b .nil aP (ae (aA ay (pv 0) ai ag) (ae (pv 1) aj ah) aL)))
 (ao (aQ (i:=4) nd rfl (zaq rfl) (aD j0 (hr.mono (by first|decide|omega)) rfl T.cE.m T.cE.F.kp T.cE.b .nil aP (ae (aA ay (pv 0) ai ag) (ae (pv 1) aj ah) aL)))
 (ao (bo (aK bL (pv 2) bw (aO _))
 (aw (aI (bT jq (pv 3) (pv 4))))
 aR)
 (ao (bo (aK bL (pv 2) bw (aO _))
 (aw (aI (bT qu (pv 3) (pv 4))))
 aR)
 (aw (aI (bT pI (pv 3) (pv 4))))))))))),rfl,?_⟩
 have n1:¬("box":Str) = "number":=by decide +kernel
 cases tr with
 |num m=>
  unfold jN at hv;simp only[Rep.a0,aN.aJ,aN.bu,Rep.br,Rep.bg] at hv;obtain⟨a,xs,rfl,hS,_,_,rfl,rfl,_,_,rfl,rfl,rfl⟩:=hv;walk_at "rd";refine aG hS rfl ?_;walk_at "rd";rw[if_pos trivial];exact aG hS rfl (q _ (ar.refl _))
 |box x=>
  unfold jN at hv;simp only[Rep.a0,aN.aJ,aN.bu,Rep.br,Rep.bg] at hv;obtain⟨a,xs,rfl,hS,_,_,rfl,rfl,_,_,rfl,rfl,rfl⟩:=hv;walk_at "rd";refine aG hS rfl ?_;walk_at "rd";rw[if_neg n1,if_pos trivial];obtain⟨i,e,_⟩:=ok;have q:=q _ (ar.refl _);rw[fZ,Gs e] at q;exact aG hS rfl ⟨d,.int i,rfl,ia.s hd e,q⟩
 |bin o l r=>
  unfold jN at hv;simp only[Rep.a0,aN.aJ,aN.bu,Rep.br,Rep.bg] at hv;obtain⟨a,xs,rfl,hS,_,_,rfl,rfl,vl,_,rfl,hl,vr,_,rfl,vh,rfl⟩:=hv;obtain⟨ho,ol,or'⟩:=ok;have n2:¬S o = "number":=by rcases ho with rfl |rfl |rfl<;>decide +kernel
  have n3:¬S o = "box":=by rcases ho with rfl |rfl |rfl<;>decide +kernel
  have e1:(S o = "+")↔o=[43]:=by rw[show ("+":Str)=S [43] from rfl,kz]
  have e2:(S o = "-")↔o=[45]:=by rw[show ("-":Str)=S [45] from rfl,kz]
  walk_at "rd";refine aG hS rfl ?_;walk_at "rd";rw[if_neg n2,if_neg n3];have wl:=pK ol;have wr:=pK or';rw[PG.dX] at ht h6;refine aG hS rfl ⟨vl,d,l,kv,rfl,hl,hd,ol,by lia,by lia,fun H1 s1=>?_⟩;refine aG (s1.bj hS) rfl ⟨vr,d,r,kv,rfl,vh.mono s1,s1 _ _ hd,or',by lia,by lia,fun H2 s2=>?_⟩;walk_at "rd";have q:=q _ (s1.trans s2);rw[fZ] at q;refine cM (fun c=>?_) (fun c=>?_)
  ·rw[if_pos (e1.mp c)] at q;exact q
  rw[if_neg (fun z=>c (e1.mpr z))] at q;refine cM (fun c=>?_) (fun c=>?_)
  ·rw[if_pos (e2.mp c)] at q;exact q
  rw[if_neg (fun z=>c (e2.mpr z))] at q;exact⟨⟨qI wl (by lia),qI wr (by lia)⟩,q⟩
theorem qV(T:Tx K mg t):∀n,bB P w K mg base eS n t.lK t.kP ["e", "values"] (Su K n)
 |0=>by
  have no:∀vs H Q E,¬Su K 0 vs H Q E:=fun vs H Q E h=>by obtain⟨_,_,_,_,_,_,_,_,h,_⟩:=h;lia
  exact⟨fun vs H Q E h=>absurd h (no vs H Q E),fun A outer s H args us vs Q E _ _ _ _ h=>absurd h (no vs H Q E)⟩
 |n+1=>HV T (qV T n)
theorem j3(T:Tx K mg t):bB P w K mg base eS 1 t.jF t.jX ["chart", "parts"] (DK K t.aS):=by
 refine T.b8.F.j4 rP (fun vs H Q E h=>?_) (fun eK A outer s H vs Q E hr h=>?_)
 ·obtain⟨_,_,_,_,rfl,_⟩:=h;rfl
 obtain⟨p,a,pr,us,rfl,co,ha,lu,nb,lb,q⟩:=h;have nd:=rP.nd;refine⟨_,[some (.ref p),some (.ref a)],(aw (aI (A1 rfl rfl T.pd rfl T.zO (ae (dW (pv 0) rfl) (ae (pv 1) aj ah) Jr)))),rfl,?_⟩;obtain⟨dx,nl,sd,fa,va,st,wy,uu,ws,h1,h2,h3,_⟩:=co.at_;walk_at "rd";simp only[Xa];walk_at "rd";refine⟨p,_,dx,_,.ref nl,rfl,h1,T.bG,T.fE,rfl,?_⟩;refine⟨nl,a,pr.av.map fun b=>.inr (S b.name),us,rfl,?_,ha,by rw[zae];exact lu,fun d hd=>?_⟩
 ·rw[zaN];exact .of h3
 ·rw[ud,oP _ [] (by rw[zbp,rH _ _ lu];exact names_nodup nb),zbp];exact q d _ (ar.new hd _) hd aq
theorem nC(T:Tx K mg t):bB P w K mg base eS 1 t.jG t.jY ["chart", "named"] (DL K t.aS):=by
 refine T.cO.F.j4 rQ (fun vs H Q E h=>?_) (fun eK A outer s H vs Q E hr h=>?_)
 ·obtain⟨_,_,_,_,_,rfl,_⟩:=h;rfl
 obtain⟨p,d,pr,kvs,us,rfl,co,hd,lu,hv,lb,q⟩:=h;have nd:=rQ.nd;have hu:=gd hr;refine⟨_,[some (.ref p),some (.ref d)],(aw (aI (c6 dN rfl T.jd PyProof.Rows.Boot.«tuple» (ae (fI (own:=["name"]) (ix:=[1]) rfl (by rfl) (by rfl) (fG (dW (pv 0) rfl)) (fun _ _ _ _=>(bH (i:=0) (by show List.Nodup (["name", "named"]:List Str);decide +kernel) rfl (zaq rfl))) (fun _ _ _ _=>gm) (fun _ _ _ _=>(cf hu (pv 1) (pv 0) (fun _ _=>rfl)))) aj iw)))),rfl,?_⟩;obtain⟨dx,nl,sd,fa,va,st,wy,uu,ws,h1,h2,h3,_⟩:=co.at_;walk_at "rd";simp only[iH];walk_at "rd";have ln:(pr.av.map fun b=>V.str (S b.name)).length=pr.av.length:=zae ..;refine⟨p,_,dx,_,.ref nl,rfl,h1,T.bG,T.fE,rfl,nl,rfl,⟨_,.of h3⟩,fun D hD=>?_⟩;refine qH (K:=K) (r:=[some (V.ref d)]) (fun i=>us.getD i .bO) (.of h3) (by rw[ln];lia) hD (fun i x H2 hx s2 R hR=>?_) (fun H2 s2 h2=>⟨D,_,rfl,.inl ⟨.of h2,fun l hl=>?_⟩⟩)
 ·have li:i<pr.av.length:=by have:=(zal.mp hx).1;rw[ln] at this;exact this
  rw[zah,zab li] at hx;cases hx;have g:=hv i li;have SS:i<us.length:=by lia
  rw[zab SS] at g;have e:us.getD i .bO=us[i]:=by rw[zaf,zab SS];rfl
  rw[e] at hR;walk_at "rd";exact⟨d,us[i],rfl,ia.s (s2 _ _ hd) g,hR⟩
 ·have e:(zaz (pr.av.map fun b=>V.str (S b.name)).length).map (fun i=>us.getD i .bO)=us:=by
   rw[ln,<- lu];have:=jh (fun v:V=>v) V.bO us;rw[zdh] at this;exact this
  rw[e];exact q l _ (s2.trans (ar.new hl _)) (.of aq)
theorem uQ(T:Tx K mg t):bB P w K mg base eS 1 t.kQ t.lL ["chart", "row"] (Gu K t.aS):=by
 refine T.fO.F.j4 uD (fun vs H Q E h=>?_) (fun eK A outer s H vs Q E hr h=>?_)
 ·obtain⟨_,_,_,rfl,_⟩:=h;rfl
 obtain⟨p,pr,row,rfl,co,pw,q⟩:=h;have nd:=uD.nd;have hu:=gd hr;obtain⟨HN,uM,uN⟩:=T.xJ;refine⟨_,[some (.ref p),some (.int row)],(ao (bo (aK bL (pv 1) (sJ rfl uM uN) (aO _))
 (aw (aI bw))
 aR)
 (aw (aI (aA ay (cf hu (dW (pv 0) rfl) (pv 1) (fun _ _=>rfl)) ai ag)))),rfl,?_⟩
 obtain⟨dx,nl,sd,fa,va,st,wy,uu,ws,h1,h2,h3,h4,h5,h6,h7,h8,h9,_⟩:=co.at_;walk_at "rd";rcases q with ⟨rfl,q⟩ |⟨n0,i,hi,er,q⟩
 ·exact(if_pos rfl).mpr q
 ·refine(if_neg n0).mpr ⟨p,_,dx,_,.ref st,rfl,h1,T.bG,T.bI,rfl,?_⟩;have li:i<uu.length:=by lia
  obtain⟨v,hv,rv⟩:=h9.get (i:=i) (d:=dY (PG.ax pr.body)[i]) (by rw[zah,zab hi];rfl);have g:=jv _ _ h7 pw i hi v hv;obtain⟨sa,ys,rfl,hs⟩:=gI _ rv;rw[er] at g;exact⟨st,.ref sa,rfl,.inl ⟨_,.inl row,.inl h8,rfl,g.symm⟩,aG hs (v:=.str (nU (PG.ax pr.body)[i].wd)) (aC (j:=0) rfl) q⟩
theorem HW(T:Tx K mg t):bB P w K mg base eS 4 t.p0 t.qb ["chart", "standing"] (JR K t.aS):=by
 have gG:=j3 (P:=P) (w:=w) (base:=base) T;have j0:=qV (P:=P) (w:=w) (base:=base) T 3;refine T.nO.F.j4 zN (fun vs H Q E h=>?_) (fun eK A outer s H vs Q E hr h=>?_)
 ·obtain⟨_,_,_,_,_,_,_,_,_,rfl,_⟩:=h;rfl
 obtain⟨p,sa,pr,vals,i,hi,sg,l,r,rfl,co,ok,⟨va,C2,wN⟩,lv,cp,tl,tr,q⟩:=h;have nd:=zN.nd;have hu:=gd hr;refine⟨_,[some (.ref p),some (.ref sa),none,none,none,none],(ao (aQ (i:=2) nd rfl (zaq rfl) (cf hu (dW (pv 0) rfl) (aA ay (pv 1) ai ag) (fun _ _=>rfl)))
 (ao (aQ (i:=3) nd rfl (zaq rfl) (aD gG (hr.mono (by first|decide|omega)) rfl T.b8.m T.b8.F.kp T.b8.b .nil aP (ae (pv 0) (ae (aA ay (pv 1) ai ag) aj aL) ah)))
 (ao (aQ (i:=4) nd rfl (zaq rfl) (aD j0 (hr.mono (by first|decide|omega)) rfl T.cE.m T.cE.F.kp T.cE.b .nil aP (ae (aA ay (pv 2) ai ag) (ae (pv 3) aj ah) aL)))
 (ao (aQ (i:=5) nd rfl (zaq rfl) (aD j0 (hr.mono (by first|decide|omega)) rfl T.cE.m T.cE.F.kp T.cE.b .nil aP (ae (aA ay (pv 2) ai ag) (ae (pv 3) aj ah) aL)))
 (ao (bo (aK bL (aA ay (pv 2) ai ag) bw (aO _))
 (aw (aI (fH og (pv 4) (pv 5) (aO _))))
 aR)
 (aw (aI (fH bL (pv 4) (pv 5) (aO _))))))))),rfl,?_⟩
 obtain⟨dx,nl,sd,fa,wa,st,wy,uu,ws,h1,h2,h3,h4,h5,h6,h7,h8,h9,_⟩:=co.at_;have li:i<uu.length:=by lia
 obtain⟨v,hv,rv⟩:=h9.get (i:=i) (d:=dY (PG.ax pr.body)[i]) (by rw[zah,zab hi];rfl);have g:=jv _ _ h7 ok.pw i hi v hv;obtain⟨ta,w0,vl,vr,ys,rfl,hs,rl,rr⟩:=ue rv cp;generalize (PG.ax pr.body)[i]=sm at *;have e1:(V.str (S sg)=V.str (zac "<"))↔sg=[60]:=by rw[show (zac "<":Str)=S [60] from rfl,V.str.injEq,kz]
 refine aB fun U1 gN=>?_;walk_at "rd";refine⟨p,_,dx,_,.ref st,rfl,h1,T.bG,T.bI,rfl,?_⟩;refine aG C2 (v:=.int sm.row) (aC (j:=0) rfl) ⟨st,.ref ta,rfl,.inl ⟨_,.inl sm.row,.inl h8,rfl,g.symm⟩,(gN _ _).mpr (aB fun U2 jm=>?_)⟩;clear gN;walk_at "rd";refine aG C2 (v:=.ref va) (aC (j:=1) rfl) ⟨p,va,pr,vals.map V.int,rfl,co,wN,by rw[zae];exact lv,ok.nb,ok.i3,fun d H2 s2 hd2 y2=>(jm _ _).mpr (aB fun U3 ke=>?_)⟩;clear jm;walk_at "rd";refine aG (s2.bj hs) (v:=vl) (aC (j:=3) rfl) ⟨vl,d,l,_,rfl,rl.mono s2,y2,tl.1,by have:=tl.2;lia,by have:=tl.2;lia,fun H3 s3=>(ke _ _).mpr (aB fun U4 lP=>?_)⟩;clear ke;walk_at "rd";refine aG ((s2.trans s3).bj hs) (v:=vr) (aC (j:=4) rfl) ⟨vr,d,r,_,rfl,rr.mono (s2.trans s3),s3 _ _ y2,tr.1,by have:=tr.2;lia,by have:=tr.2;lia,fun H4 s4=>(lP _ _).mpr ?_⟩;clear lP;have q:=q _ ((s2.trans s3).trans s4);unfold cn at q;walk_at "rd";refine aG (((s2.trans s3).trans s4).bj hs) (v:=.str (S sg)) (aC (j:=2) rfl) ⟨rfl,cM (fun e=>?_) (fun e=>?_)⟩
 ·rw[if_pos (e1.mp e)] at q;exact q
 ·rw[if_neg (fun z=>e (e1.mpr z))] at q;exact q
theorem nY(T:Tx K mg t):bB P w K mg base eS 5 t.di t.dU ["chart", "standing"] (DN K t.aS):=by
 have KW:=HW (P:=P) (w:=w) (base:=base) T;have qW:=uQ (P:=P) (w:=w) (base:=base) T;refine T.cC.F.j4 i4 (fun vs H Q E h=>?_) (fun eK A outer s H vs Q E hr h=>?_)
 ·obtain⟨_,_,_,_,_,_,_,_,_,_,rfl,_⟩:=h;rfl
 obtain⟨p,sa,pr,vals,i,hi,hf,sg,l,r,rfl,co,ok,Og,lv,cp,tl,tr,w0,w1,q⟩:=h;have nd:=i4.nd;have hu:=gd hr;refine⟨_,[some (.ref p),some (.ref sa),none],(ao (aQ (i:=2) nd rfl (zaq rfl) (aA ay (pv 1) ai ag))
 (ao (bo (gO (aD KW (hr.mono (by first|decide|omega)) rfl T.nO.m T.nO.F.kp T.nO.b .nil aP (ae (pv 0) (ae (pv 1) aj ah) ah)))
 (aw (aI (bt (ae (aA ay (cf hu (dW (pv 0) rfl) (pv 2) (fun _ _=>rfl)) ai ag) (ae (aA ay (pv 1) ai ag) aj aL) aL))))
 aR)
 (ao (bo (aK bL (aD qW (hr.mono (by first|decide|omega)) rfl T.fO.m T.fO.F.kp T.fO.b .nil aP (ae (pv 0) (ae (pv 2) aj ah) ah)) bw (aO _))
 (aw (aI gA))
 aR)
 (aw (aI (bt (ae (aA ay (cf hu (dW (pv 0) rfl) (pv 2) (fun _ _=>rfl)) ai ag) (ae (aA ay (pv 1) ai ag) aj aL) aL))))))),rfl,?_⟩
 obtain⟨va,C2,wN⟩:=id Og;have aa3:=ok.pos _ (zao hi);refine aB fun U1 gN=>?_;walk_at "rd";refine aG C2 (v:=.int (PG.ax pr.body)[i].row) (aC (j:=0) rfl) ((gN _ _).mpr ?_);clear gN;walk_at "rd";refine⟨p,sa,pr,vals,i,hi,sg,l,r,rfl,co,ok,Og,lv,cp,tl,tr,fun H2 s2=>?_⟩;obtain⟨dx,fs,wy,wq,g1,g2,g3,g4⟩:=(co.mono s2).way ok i hi hf;have qq:∀(j:Nat) (x:Int),(PG.aF pr.body 0)[i].2.2[j]?=some x->vd ((PG.aF pr.body 0)[i].2.2.map V.int) (j:Int)=some (V.int x):=fun j x e=>aC (by rw[zah,e];rfl);have back:∀(x:Int) (H3:Hp),ar H2 H3->∀pp,H3 pp=none->lW K (upd H3 pp (.tup [V.int x,V.ref va])) (some (x,vals)) (.ref pp):=fun x H3 s3 pp EK=>⟨pp,rfl,va,.of aq,((s2.trans s3).trans (ar.new EK _)).bj wN⟩
 unfold cb at q;rw[cp] at q;simp only at q;refine⟨_,rfl,cM (fun e=>?_) (fun e=>?_)⟩
 ·rw[if_pos e] at q;have e0:(PG.aF pr.body 0)[i].2.2[0]?=some ((PG.aF pr.body 0)[i].2.2.getD 0 0):=by rw[zaf,zab w0];rfl
  refine⟨p,_,dx,fs,.ref wy,rfl,g1,T.bG,T.c5,g2,wy,.ref wq,rfl,g3,aG g4 (v:=.int ((PG.aF pr.body 0)[i].2.2.getD 0 0)) (qq 0 _ e0) (aG (s2.bj C2) (v:=.ref va) (aC (j:=1) rfl) fun pp EK=>?_)⟩;exact q _ _ (s2.trans (ar.new EK _)) (back _ _ (ar.refl _) pp EK)
 ·rw[if_neg e] at q;refine⟨p,pr,_,rfl,co.mono s2,ok.pw,.inr ⟨by lia,i,hi,rfl,rfl,cM (fun e2=>?_) (fun e2=>?_)⟩⟩
  ·have ew:(PG.ax pr.body)[i].wd=.cg:=(Gd _).mp e2;rw[if_pos ew] at q;exact q _ _ s2 rfl
  ·have ew:(PG.ax pr.body)[i].wd≠.cg:=fun z=>e2 ((Gd _).mpr z);rw[if_neg ew] at q;have w1:=w1 ew;have e1:(PG.aF pr.body 0)[i].2.2[1]?=some ((PG.aF pr.body 0)[i].2.2.getD 1 0):=by rw[zaf,zab w1];rfl
   refine⟨p,_,dx,fs,.ref wy,rfl,g1,T.bG,T.c5,g2,wy,.ref wq,rfl,g3,aG g4 (v:=.int ((PG.aF pr.body 0)[i].2.2.getD 1 0)) (qq 1 _ e1) (aG (s2.bj C2) (v:=.ref va) (aC (j:=1) rfl) fun pp EK=>?_)⟩;exact q _ _ (s2.trans (ar.new EK _)) (back _ _ (ar.refl _) pp EK)
theorem tq:∀w:PG.Wd,TF (V.str (nU w)) [V.str (zac "must"),V.str (zac "if"),V.str (zac "while")]=decide (w=.cg\/w=.ifs\/w=.eD):=by
 intro w;cases w<;>decide +kernel
theorem HX:∀w:PG.Wd,(nU w=zac "ask")↔w=.ask:=by
 intro w;cases w<;>decide +kernel
theorem KY:∀w:PG.Wd,(nU w=zac "put")↔w=.put:=by
 intro w;cases w<;>decide +kernel
theorem Rz:∀w:PG.Wd,(nU w=zac "say")↔w=.say:=by
 intro w;cases w<;>decide +kernel
theorem lW.mono{H H':Hp}{o:Option (Int×List Int)}{v:V}(h:lW K H o v)(s:ar H H'):lW K H' o v:=by
 cases o with
 |none=>exact h
 |some x=>obtain⟨a,e,sa⟩:=h;exact⟨a,e,sa.mono s⟩
theorem cond_of{bs:List PG.ck}{vals:List Int}{st:PG.bh}(h:st.wd=.cg\/st.wd=.ifs\/st.wd=.eD)(po:Cs bs vals st):∃sg l r,jx st=some (sg,l,r)/\A2 bs vals l/\A2 bs vals r/\∀ws fig,fc bs st ws vals fig=(cb bs st ws vals,none):=by
 cases st<;>simp only[PG.bh.wd,reduceCtorEq,or_self,or_false,false_or] at h<;>exact⟨_,_,_,rfl,po.1,po.2,fun _ _=>rfl⟩
theorem HY{st:PG.bh}(h:st.wd=.ask):∃k b,st=.ask k b:=by
 cases st<;>first |exact⟨_,_,rfl⟩ |cases h
theorem HZ{st:PG.bh}(h:st.wd=.put):∃k b e,st=.put k b e:=by
 cases st<;>first |exact⟨_,_,_,rfl⟩ |cases h
theorem Oh{st:PG.bh}(h:st.wd=.say):∃k e,st=.say k e:=by
 cases st<;>first |exact⟨_,_,rfl⟩ |cases h
theorem KZ{st:PG.bh}(h0:¬(st.wd=.cg\/st.wd=.ifs\/st.wd=.eD))(h1:st.wd≠.ask)(h2:st.wd≠.put)(h3:st.wd≠.say):∃k,st=.stop k:=by
 cases st<;>simp only[PG.bh.wd,reduceCtorEq,or_self,or_false,false_or,not_true,not_false_iff,ne_eq] at h0 h1 h2 h3<;>exact⟨_,rfl⟩
theorem wO{H:Hp}{k:Int}{b:W}{v:V}(h:Rep K H (dY (.ask k b)) v):∃a,v=.ref a/\bS K H a [.str "ask",.int k,.str (S b)]:=by
 simp only[dY,Rep.a0,aN.aJ,aN.bu,Rep.br,Rep.bg] at h;obtain⟨a,ys,rfl,hS,_,_,rfl,rfl,_,_,rfl,rfl,_,_,rfl,rfl,rfl⟩:=h;exact⟨a,rfl,hS⟩
theorem wQ{H:Hp}{k:Int}{b:W}{e:PM.Tr}{v:V}(h:Rep K H (dY (.put k b e)) v):∃a u,v=.ref a/\bS K H a [.str "put",.int k,.str (S b),u]/\Rep K H (jN e) u:=by
 simp only[dY,Rep.a0,aN.aJ,aN.bu,Rep.br,Rep.bg] at h;obtain⟨a,ys,rfl,hS,_,_,rfl,rfl,_,_,rfl,rfl,_,_,rfl,rfl,u,_,rfl,ru,rfl⟩:=h;exact⟨a,u,rfl,hS,ru⟩
theorem Em{H:Hp}{k:Int}{e:PM.Tr}{v:V}(h:Rep K H (dY (.say k e)) v):∃a u,v=.ref a/\bS K H a [.str "say",.int k,u]/\Rep K H (jN e) u:=by
 simp only[dY,Rep.a0,aN.aJ,aN.bu,Rep.br,Rep.bg] at h;obtain⟨a,ys,rfl,hS,_,_,rfl,rfl,_,_,rfl,rfl,u,_,rfl,ru,rfl⟩:=h;exact⟨a,u,rfl,hS,ru⟩
theorem w4(vals:List Int)(j:Nat)(x:Int):(vals.map V.int).set j (.int x)=(vals.set j x).map V.int:=by
 rw[List.map_set]
theorem qX{bs:List PG.ck}(bp:∀b∈bs,0<b.size)(x:W):0<df bs x:=by
 unfold df;cases e:bs[gf bs x]? with
 |none=>decide
 |some b=>exact bp b (zaG e)
theorem By(T:Tx K mg t):bB P w K mg base eS 6 t.kT t.lO ["chart", "standing", "figure"] (Gw K t.aS):=by
 have pe:=nY (P:=P) (w:=w) (base:=base) T;have gG:=j3 (P:=P) (w:=w) (base:=base) T;have jJ:=nC (P:=P) (w:=w) (base:=base) T;have j0:=qV (P:=P) (w:=w) (base:=base) T 3;refine T.jl.F.j4 uH (fun vs H Q E h=>?_) (fun eK A outer s H vs Q E hr h=>?_)
 ·obtain⟨_,_,_,_,_,_,_,_,_,rfl,_⟩:=h;rfl
 obtain⟨p,sa,fv,pr,vals,fig,i,hi,hf,rfl,co,ok,bp,Og,lv,RA,po,w0,w1,q⟩:=h;have nd:=uH.nd;have hu:=gd hr;refine⟨_,[some (.ref p),some (.ref sa),some fv,none,none,none,none,none],(ao (aQ (i:=3) nd rfl (zaq rfl) (aA ay (pv 1) ai ag))
 (ao (aQ (i:=4) nd rfl (zaq rfl) (cf hu (dW (pv 0) rfl) (pv 3) (fun _ _=>rfl)))
 (ao (aQ (i:=5) nd rfl (zaq rfl) (aA ay (pv 4) ai ag))
 (ao (bo (aK qy (pv 5) (bt (eT (vs:=[.str "must",.str "if",.str "while"]) (by kernel_rfl))) rfl)
 (aw (aI (bt (ae (aD pe (hr.mono (by first|decide|omega)) rfl T.cC.m T.cC.F.kp T.cC.b .nil aP (ae (pv 0) (ae (pv 1) aj ah) ah)) (ae gA aj bf) aY))))
 aR)
 (ao (aQ (i:=6) nd rfl (zaq rfl) (aD gG (hr.mono (by first|decide|omega)) rfl T.b8.m T.b8.F.kp T.b8.b .nil aP (ae (pv 0) (ae (aA ay (pv 1) ai ag) aj aL) ah)))
 (ao (aQ (i:=7) nd rfl (zaq rfl) gA)
 (ao (bo (aK bL (pv 5) bw (aO _))
 (aw (kZ hu (pv 6) (aA ay (pv 4) ai ag) (bT kY (pv 2) (cf hu (dW (pv 0) rfl) (aA ay (pv 4) ai ag) (fun _ _=>rfl))) rfl))
 (aw (bo (aK bL (pv 5) bw (aO _))
 (aw (kZ hu (pv 6) (aA ay (pv 4) ai ag) (bT kY (aD j0 (hr.mono (by first|decide|omega)) rfl T.cE.m T.cE.F.kp T.cE.b .nil aP (ae (aA ay (pv 4) ai ag) (ae (pv 6) aj ah) aL)) (cf hu (dW (pv 0) rfl) (aA ay (pv 4) ai ag) (fun _ _=>rfl))) rfl))
 (aw (bo (aK bL (pv 5) bw (aO _))
 (aw (aQ (i:=7) nd rfl (zaq rfl) (aD j0 (hr.mono (by first|decide|omega)) rfl T.cE.m T.cE.F.kp T.cE.b .nil aP (ae (aA ay (pv 4) ai ag) (ae (pv 6) aj ah) aL))))
 aR)))))
 (aw (aI (bt (ae (bt (ae (aA ay (cf hu (dW (pv 0) rfl) (pv 3) (fun _ _=>rfl)) ai ag) (ae (aD jJ (hr.mono (by first|decide|omega)) rfl T.cO.m T.cO.F.kp T.cO.b .nil aP (ae (pv 0) (ae (pv 6) aj ah) ah)) aj aY) aL)) (ae (pv 7) aj ah) oN))))))))))),rfl,?_⟩
 obtain⟨va,C2,wN⟩:=id Og;obtain⟨dx,nl,sd,fa,K0,st,wy,uu,ws,h1,h2,h3,h4,h5,h6,h7,h8,h9,_⟩:=co.at_;have li:i<uu.length:=by lia
 obtain⟨v,hv,rv⟩:=h9.get (i:=i) (d:=dY (PG.ax pr.body)[i]) (by rw[zah,zab hi];rfl);have g:=jv _ _ h7 ok.pw i hi v hv;have sel:∃ta ds,v=.ref ta/\bS K H ta (.str (nU (PG.ax pr.body)[i].wd)::ds):=by
  generalize (PG.ax pr.body)[i]=sm at rv;cases sm<;>(rw[dY,Rep.a0] at rv;obtain⟨ta,ys,rfl,hs,rs⟩:=rv;rw[aN.aJ] at rs;obtain⟨v0,t0,rfl,e0,rs⟩:=rs;rw[Rep.br] at e0;subst e0;exact⟨ta,_,rfl,hs⟩)
 obtain⟨ta,ds,rfl,hs⟩:=sel;refine aB fun U1 gN=>?_;walk_at "rd";refine aG C2 (v:=.int (PG.ax pr.body)[i].row) (aC (j:=0) rfl) ((gN _ _).mpr (aB fun U2 jm=>?_));clear gN;walk_at "rd";refine⟨p,_,dx,_,.ref st,rfl,h1,T.bG,T.bI,rfl,⟨st,.ref ta,rfl,.inl ⟨_,.inl _,.inl h8,rfl,g.symm⟩,(jm _ _).mpr (aB fun U3 ke=>?_)⟩⟩;clear jm;walk_at "rd";refine aG hs (v:=.str (nU (PG.ax pr.body)[i].wd)) (aC (j:=0) rfl) ((ke _ _).mpr ?_);clear ke;refine aB fun U4 lP=>?_;walk_at "rd";intro z hz;have sz:=ar.new hz (HO.tup [V.str (zac "must"),V.str (zac "if"),V.str (zac "while")]);refine⟨z,_,rfl,.inr (.of aq),rfl,rfl,_,rfl,cM (fun e=>?_) (fun e=>?_)⟩
 ·have e:=e;simp only[zay,if_false,tq,decide_eq_true_eq] at e;obtain⟨sg,l,r,cp,tl,tr,es⟩:=cond_of e po;rw[es] at q;refine⟨p,sa,pr,vals,i,hi,hf,sg,l,r,rfl,co.mono sz,ok,Og.mono sz,lv,cp,tl,tr,w0,fun nm=>w1 (by rcases e with e |e |e;exact absurd e nm;exact .inl e;exact .inr e),fun v H2 s2 os pp EK=>?_⟩;exact q pp v _ ((sz.trans s2).trans (ar.new EK _)) (.of aq) (lW.mono os (ar.new EK _))
 have e0:=e;simp only[zay,if_false,tq,decide_eq_true_eq] at e0;refine(lP _ _).mpr (aB fun U5 sr=>?_);clear lP e;walk_at "rd";refine aG (sz.bj C2) (v:=.ref va) (aC (j:=1) rfl) ⟨p,va,pr,vals.map V.int,rfl,co.mono sz,sz.bj wN,by rw[zae];exact lv,ok.nb,ok.i3,fun d H2 VQ hd2 y2=>(sr _ _).mpr (aB fun U6 Ar=>?_)⟩;clear sr;have s2:=sz.trans VQ;have hd:=sz.free hd2;walk_at "rd";refine(Ar _ _).mpr (aB fun U7 RB=>?_);clear Ar;have fin:∀(H5:Hp) (kvs:List (Key×V)) (us:List Int) (sd:Option Int),ar H H5->H5 d=some (.dK kvs)->us.length=pr.av.length->(∀i (hi:i<pr.av.length),cB kvs (.inr (S pr.av[i].name))=(us.map V.int)[i]?)->
  fc pr.av (PG.ax pr.body)[i] (PG.aF pr.body 0)[i].2.2 vals fig=(some ((PG.aF pr.body 0)[i].2.2.getD 0 0,us),sd)->
  U7 [some (.ref p),some (.ref sa),some fv,some (.int (PG.ax pr.body)[i].row),some (.ref ta),some (.str (nU (PG.ax pr.body)[i].wd)),some (.ref d),some (Gv sd)] H5:=by
  intro H5 kvs us Yc s5 hd5 lu look es;rw[es] at q;refine(RB _ _).mpr ?_;clear RB;walk_at "rd";obtain⟨dx,fs,wy,wq,g1,g2,g3,g4⟩:=(co.mono s5).way ok i hi hf;have e0:(PG.aF pr.body 0)[i].2.2[0]?=some ((PG.aF pr.body 0)[i].2.2.getD 0 0):=by rw[zaf,zab w0];rfl
  have qq:vd ((PG.aF pr.body 0)[i].2.2.map V.int) ((0:Nat):Int)=some (V.int ((PG.aF pr.body 0)[i].2.2.getD 0 0)):=aC (by rw[zah,e0];rfl);refine⟨p,_,dx,fs,.ref wy,rfl,g1,T.bG,T.c5,g2,wy,.ref wq,rfl,g3,aG g4 (v:=.int ((PG.aF pr.body 0)[i].2.2.getD 0 0)) qq ?_⟩;refine⟨p,d,pr,kvs,us.map V.int,rfl,co.mono s5,hd5,by rw[zae];exact lu,look,ok.i3,fun a H6 s6 sq p1 Aq p2 Aj=>?_⟩;exact q p2 _ _ (((s5.trans s6).trans (ar.new Aq _)).trans (ar.new Aj _)) (.of aq) ⟨p1,rfl,a,(ar.new Aj _).bj (.of aq),((ar.new Aq _).trans (ar.new Aj _)).bj sq⟩
 have En:(cv pr.av (vals.map V.int)).length<zdu:=by
  have line:zdu=2 ^ 24:=rfl;have:=ok.i3;unfold cv;rw[zcs];lia
 have keep:∀i (hi:i<pr.av.length),cB (cv pr.av (vals.map V.int)) (.inr (S pr.av[i].name))=(vals.map V.int)[i]?:=fun i hi=>by
  have li:i<(vals.map V.int).length:=by rw[zae];lia
  rw[ig pr.av (vals.map V.int) (by rw[zae];exact lv) ok.nb i hi _ (zab li),zab li]
 have put:∀(b:W),b∈pr.av.map (·.name)->∀(x:Int),(oR pr.av vals b x).length=pr.av.length/\∀i (hi:i<pr.av.length),cB (putK (cv pr.av (vals.map V.int)) (.inr (S b)) (.int x)) (.inr (S pr.av[i].name))=((oR pr.av vals b x).map V.int)[i]?:=fun b hb x=>by
  refine⟨by unfold oR;rw[zaT];exact lv,fun i hi=>?_⟩;rw[A3 (by rw[zae];exact lv) ok.nb hb,w4];rfl
 have Ia:∀H3 o,ar H H3->ar H (upd H3 d o):=fun H3 o s3=>((aZ.of s3:aZ d H H3).put o).same hd;walk_at "rd";refine cM (fun e=>?_) (fun e=>?_)
 ·obtain⟨k,b,As⟩:=HY ((HX _).mp e);have rv:=rv;rw[As] at rv po;obtain⟨_,ee,hT⟩:=wO rv;cases ee;have efv:=RA ((HX _).mp e);subst efv;obtain⟨l1,l2⟩:=put b po (fig%df pr.av b);refine⟨p,_,dx,_,.ref sd,rfl,s2 _ _ h1,T.bG,T.dq,rfl,aG (s2.bj hT) (v:=.str (S b)) (aC (j:=2) rfl) ⟨sd,.int (df pr.av b),rfl,.inl ⟨_,.inr (S b),.inl (s2 _ _ h4),rfl,(pM ok.nb po).symm⟩,?_⟩⟩;refine⟨_,_,rfl,rfl,qX bp b,aG (s2.bj hT) (v:=.str (S b)) (aC (j:=2) rfl) ⟨d,_,rfl,.inl ⟨_,.inr (S b),y2,rfl,En,rfl⟩,?_⟩⟩;exact fin _ _ _ none (Ia _ _ s2) aq l1 l2 (by rw[As];rfl)
 refine cM (fun e2=>?_) (fun e2=>?_)
 ·obtain⟨k,b,tr,As⟩:=HZ ((KY _).mp e2);have rv:=rv;rw[As] at rv po;obtain⟨_,u,ee,hT,ru⟩:=wQ rv;cases ee;obtain⟨l1,l2⟩:=put b po.1 (wv pr.av vals tr%df pr.av b);refine aG (s2.bj hT) (v:=u) (aC (j:=3) rfl) ⟨u,d,tr,_,rfl,ru.mono s2,y2,po.2.1,by have:=po.2.2;lia,by have:=po.2.2;lia,fun H3 RC=>?_⟩;have s3:=s2.trans RC;refine⟨p,_,dx,_,.ref sd,rfl,s3 _ _ h1,T.bG,T.dq,rfl,aG (s3.bj hT) (v:=.str (S b)) (aC (j:=2) rfl) ⟨sd,.int (df pr.av b),rfl,.inl ⟨_,.inr (S b),.inl (s3 _ _ h4),rfl,(pM ok.nb po.1).symm⟩,?_⟩⟩;refine⟨_,_,rfl,rfl,qX bp b,aG (s3.bj hT) (v:=.str (S b)) (aC (j:=2) rfl) ⟨d,_,rfl,.inl ⟨_,.inr (S b),RC _ _ y2,rfl,En,rfl⟩,?_⟩⟩;exact fin _ _ _ none (Ia _ _ s3) aq l1 l2 (by rw[As];rfl)
 refine cM (fun e3=>?_) (fun e3=>?_)
 ·obtain⟨k,tr,As⟩:=Oh ((Rz _).mp e3);have rv:=rv;rw[As] at rv po;obtain⟨_,u,ee,hT,ru⟩:=Em rv;cases ee;refine aG (s2.bj hT) (v:=u) (aC (j:=2) rfl) ⟨u,d,tr,_,rfl,ru.mono s2,y2,po.1,by have:=po.2;lia,by have:=po.2;lia,fun H3 RC=>?_⟩;exact fin _ _ _ (some _) (s2.trans RC) (RC _ _ y2) lv keep (by rw[As];rfl)
 obtain⟨k,As⟩:=KZ e0 (fun z=>e ((HX _).mpr z)) (fun z=>e2 ((KY _).mpr z)) (fun z=>e3 ((Rz _).mpr z));exact fin _ _ _ none s2 y2 lv keep (by rw[As];rfl)
theorem nD(T:Tx K mg t):bB P w K mg base eS 1 t.gg t.gX ["size"] (DY K):=by
 refine T.cF.F.j4 m7 (fun vs H Q E h=>?_) (fun eK A outer s H vs Q E hr h=>?_)
 ·obtain⟨_,rfl,_⟩:=h;rfl
 obtain⟨size,rfl,q⟩:=h;have nd:=m7.nd;refine⟨_,[some (.int size)],(aw (aI (bt (ae ai (ae (bT qu (pv 0) ai) aj gB) bf)))),rfl,?_⟩;walk_at "rd";intro p hp;exact q _ _ (ar.new hp _) (.new rfl)
theorem vE(T:Tx K mg t):bB P w K mg base eS 2 t.gY t.iB ["worths", "size"] (GP K):=by
 have kg:=nD (P:=P) (w:=w) (base:=base) T;refine T.fQ.F.j4 ox (fun vs H Q E h=>?_) (fun eK A outer s H vs Q E hr h=>?_)
 ·obtain⟨_,_,_,rfl,_⟩:=h;rfl
 obtain⟨_,r,size,rfl,⟨a,rfl,ha⟩,h0,h1,q⟩:=h;have nd:=ox.nd;refine⟨_,[some (.ref a),some (.int size)],(ao (bo (aK bL (bT sN (aA ay (pv 0) ai ag) (pv 1)) (bT sN (aA ay (pv 0) ai ag) (pv 1)) (aO _))
 (aw (aI (bt (ae (bT kY (aA ay (pv 0) ai ag) (pv 1)) (ae (bT kY (aA ay (pv 0) ai ag) (pv 1)) aj gB) gB))))
 aR)
 (aw (aI (aD kg (hr.mono (by first|decide|omega)) rfl T.cF.m T.cF.F.kp T.cF.b .nil aP (ae (pv 1) aj ah))))),rfl,?_⟩
 unfold PG.oU at q;walk_at "rd";refine mJ ha ⟨_,_,rfl,rfl,⟨h0,by lia⟩,mK ha ⟨_,_,rfl,rfl,⟨h0,by lia⟩,rfl,cM (fun e=>?_) (fun e=>?_)⟩⟩
 ·rw[if_pos (V.int.inj e)] at q;exact mJ ha ⟨_,_,rfl,rfl,h0,mK ha ⟨_,_,rfl,rfl,h0,fun p hp=>q _ _ (ar.new hp _) (.new rfl)⟩⟩
 ·rw[if_neg (fun z=>e (congrArg V.int z))] at q;exact⟨size,rfl,q⟩
theorem uR(T:Tx K mg t):bB P w K mg base eS 1 t.gh t.gZ ["sign", "truth", "left", "right"] (QN K):=by
 refine T.eX.F.j4 m8 (fun vs H Q E h=>?_) (fun eK A outer s H vs Q E hr h=>?_)
 ·obtain⟨_,_,_,_,_,_,rfl,_⟩:=h;rfl
 obtain⟨sg,truth,_,_,l,r,rfl,⟨la,rfl,hl⟩,⟨ra,rfl,vh⟩,q⟩:=h;have nd:=m8.nd;refine⟨_,[some (.str (S sg)),some (.bl truth),some (.ref la),some (.ref ra)],(ao (bo (PW.pt (pw_and (aK bL (pv 0) bw (aO _)) (pw_and1 (gO (pv 1)))))
 (aw (aI (fH og (aA ay (pv 2) ai ag) (aA ay (pv 3) ai ag) (aO _))))
 aR)
 (ao (bo (aK bL (pv 0) bw (aO _))
 (aw (aI (fH Px (aA ay (pv 2) ai ag) (aA ay (pv 3) ai ag) (aO _))))
 aR)
 (ao (bo (gO (pv 1))
 (aw (aI (fH Pu (bF (ko rfl) rfl T.rV PyProof.Rows.Boot.«max» (ae (aA ay (pv 2) ai ag) (ae (aA ay (pv 3) ai ag) aj aL) aL)) (bF (je rfl) rfl T.qd PyProof.Rows.Boot.«min» (ae (aA ay (pv 2) ai ag) (ae (aA ay (pv 3) ai ag) aj aL) aL)) (aO _))))
 aR)
 (aw (aI (Mo (DX bL (aA ay (pv 2) ai ag) (aA ay (pv 2) ai ag) (aA ay (pv 3) ai ag) (aA ay (pv 3) ai ag)))))))),rfl,?_⟩
 have l1:(S sg=zac "<")↔sg=[60]:=by rw[show (zac "<":Str)=S [60] from rfl,kz]
 walk_at "rd";by_cases e:sg=[60]
 ·rw[decide_eq_true e] at q;cases truth with
  |true=>exact(if_pos (l1.mpr e)).mpr ((if_pos rfl).mpr (mJ hl (mK vh ⟨_,_,rfl,rfl,q⟩)))
  |false=>exact(if_pos (l1.mpr e)).mpr ((if_neg zas).mpr ((if_pos (l1.mpr e)).mpr (mK hl (mJ vh ⟨_,_,rfl,rfl,q⟩))))
 ·rw[decide_eq_false e] at q;refine(if_neg (fun z=>e (l1.mp z))).mpr ((if_neg zas).mpr ((if_neg (fun z=>e (l1.mp z))).mpr ?_));cases truth with
  |true=>
   refine(if_pos rfl).mpr (mJ hl (mJ vh ⟨_,_,rfl,mK hl (mK vh ⟨_,_,rfl,?_⟩)⟩));rw[max2,min2];exact q
  |false=>
   refine(if_neg zas).mpr (mJ hl (mK hl ⟨rfl,?_⟩));replace q:Q (V.bl (!(decide (l.1=l.2)&&decide (l.2=r.1)&&decide (r.1=r.2)))) H:=q;by_cases e1:l.1=l.2
   ·refine(if_pos (congrArg V.int e1)).mpr (mJ vh ⟨rfl,?_⟩);rw[decide_eq_true e1,zcx] at q;by_cases e2:l.2=r.1
    ·refine(if_pos (congrArg V.int e2)).mpr (mK vh ⟨rfl,?_⟩);rw[decide_eq_true e2,zcx] at q;rw[show decide (V.int r.1=V.int r.2)=decide (r.1=r.2) from decide_eq_decide.mpr ⟨V.int.inj,congrArg V.int⟩];exact q
    ·rw[decide_eq_false e2] at q;exact(if_neg (fun z=>e2 (V.int.inj z))).mpr q
   ·rw[decide_eq_false e1] at q;exact(if_neg (fun z=>e1 (V.int.inj z))).mpr q
theorem iR(T:Tx K mg t):bB P w K mg base eS 1 t.cS t.dG ["truth", "own", "near", "far"] (Ny K):=by
 refine T.bD.F.j4 iL (fun vs H Q E h=>?_) (fun eK A outer s H vs Q E hr h=>?_)
 ·obtain⟨_,_,_,_,_,_,_,rfl,_⟩:=h;rfl
 obtain⟨truth,_,_,_,own,near,EH,rfl,⟨oa,rfl,ho⟩,⟨na,rfl,hn⟩,⟨fa,rfl,hf⟩,q⟩:=h;have nd:=iL.nd;refine⟨_,[some (.bl truth),some (.ref oa),some (.ref na),some (.ref fa),none,none],(ao (bo (gO (pv 0))
 (aw (aI (bt (ae (bF (ko rfl) rfl T.rV PyProof.Rows.Boot.«max» (ae (aA ay (pv 2) ai ag) (ae (aA ay (pv 3) ai ag) aj aL) aL)) (ae (bF (je rfl) rfl T.qd PyProof.Rows.Boot.«min» (ae (aA ay (pv 2) ai ag) (ae (aA ay (pv 3) ai ag) aj aL) aL)) aj aY) aY))))
 aR)
 (ao (bo (aK Pt (aA ay (pv 3) ai ag) (aA ay (pv 3) ai ag) (aO _))
 (aw (aI (pv 1)))
 aR)
 (ao (aQ (i:=4) nd rfl (zaq rfl) (tw (aK bL (aA ay (pv 1) ai ag) (aA ay (pv 3) ai ag) (aO _)) (bT jq (aA ay (pv 1) ai ag) ai) (aA ay (pv 1) ai ag)))
 (ao (aQ (i:=5) nd rfl (zaq rfl) (tw (aK bL (aA ay (pv 1) ai ag) (aA ay (pv 3) ai ag) (aO _)) (bT qu (aA ay (pv 1) ai ag) ai) (aA ay (pv 1) ai ag)))
 (aw (aI (bt (ae (pv 4) (ae (pv 5) aj ah) ah)))))))),rfl,?_⟩
 refine aB fun U1 gN=>?_;walk_at "rd";cases truth with
 |true=>
  refine(if_pos rfl).mpr (mJ hn (mJ hf ⟨_,_,rfl,mK hn (mK hf ⟨_,_,rfl,fun p hp=>?_⟩)⟩));rw[max2,min2];exact q _ _ (ar.new hp _) (.new rfl)
 |false=>
  refine(if_neg zas).mpr ((gN _ _).mpr ?_);unfold pN PG.eZ at q;simp only[zay,if_false] at q;walk_at "rd";refine mJ hf (mK hf ⟨rfl,?_⟩);by_cases e:EH.1=EH.2
  ·rw[if_pos e] at q;refine(if_pos (congrArg V.int e)).mpr (mJ ho (mJ hf ⟨rfl,?_⟩));by_cases e1:own.1=EH.1
   ·rw[if_pos e1] at q;refine(if_pos (congrArg V.int e1)).mpr (mJ ho ⟨_,_,rfl,rfl,mK ho (mJ hf ⟨rfl,?_⟩)⟩);by_cases e2:own.2=EH.1
    ·rw[if_pos e2] at q;exact(if_pos (congrArg V.int e2)).mpr (mK ho ⟨_,_,rfl,rfl,fun p hp=>q _ _ (ar.new hp _) (.new rfl)⟩)
    ·rw[if_neg e2] at q;exact(if_neg (fun z=>e2 (V.int.inj z))).mpr (mK ho fun p hp=>q _ _ (ar.new hp _) (.new rfl))
   ·rw[if_neg e1] at q;refine(if_neg (fun z=>e1 (V.int.inj z))).mpr (mJ ho (mK ho (mJ hf ⟨rfl,?_⟩)));by_cases e2:own.2=EH.1
    ·rw[if_pos e2] at q;exact(if_pos (congrArg V.int e2)).mpr (mK ho ⟨_,_,rfl,rfl,fun p hp=>q _ _ (ar.new hp _) (.new rfl)⟩)
    ·rw[if_neg e2] at q;exact(if_neg (fun z=>e2 (V.int.inj z))).mpr (mK ho fun p hp=>q _ _ (ar.new hp _) (.new rfl))
  ·rw[if_neg e] at q;exact(if_neg (fun z=>e (V.int.inj z))).mpr (q _ _ (ar.refl _) ⟨_,rfl,ho⟩)
theorem qY(T:Tx K mg t):bB P w K mg base eS 2 t.eP t.fM ["sign", "truth", "own", "left", "right"] (Nz K):=by
 have gc:=iR (P:=P) (w:=w) (base:=base) T;refine T.dC.F.j4 kO (fun vs H Q E h=>?_) (fun eK A outer s H vs Q E hr h=>?_)
 ·obtain⟨_,_,_,_,_,_,_,_,rfl,_⟩:=h;rfl
 obtain⟨sg,truth,_,_,_,own,l,r,rfl,⟨oa,rfl,ho⟩,⟨la,rfl,hl⟩,⟨ra,rfl,vh⟩,q⟩:=h;have nd:=kO.nd;refine⟨_,[some (.str (S sg)),some (.bl truth),some (.ref oa),some (.ref la),some (.ref ra)],(ao (bo (PW.pt (pw_and (aK bL (pv 0) bw (aO _)) (pw_and1 (gO (pv 1)))))
 (aw (aI (bt (ae (aA ay (pv 2) ai ag) (ae (bF (je rfl) rfl T.qd PyProof.Rows.Boot.«min» (ae (aA ay (pv 2) ai ag) (ae (bT qu (aA ay (pv 4) ai ag) ai) aj gB) aL)) aj aY) aL))))
 aR)
 (ao (bo (aK bL (pv 0) bw (aO _))
 (aw (aI (bt (ae (bF (ko rfl) rfl T.rV PyProof.Rows.Boot.«max» (ae (aA ay (pv 2) ai ag) (ae (aA ay (pv 4) ai ag) aj aL) aL)) (ae (aA ay (pv 2) ai ag) aj aL) aY))))
 aR)
 (aw (aI (aD gc (hr.mono (by first|decide|omega)) rfl T.bD.m T.bD.F.kp T.bD.b .nil aP (ae (pv 1) (ae (pv 2) (ae (pv 3) (ae (pv 4) aj ah) ah) ah) ah)))))),rfl,?_⟩
 have l1:(S sg=zac "<")↔sg=[60]:=by rw[show (zac "<":Str)=S [60] from rfl,kz]
 walk_at "rd";by_cases e:sg=[60]
 ·rw[decide_eq_true e] at q;cases truth with
  |true=>
   refine(if_pos (l1.mpr e)).mpr ((if_pos rfl).mpr (mJ ho (mK ho (mK vh ⟨_,_,rfl,rfl,_,_,rfl,fun p hp=>?_⟩))));rw[min2];exact q _ _ (ar.new hp _) (.new rfl)
  |false=>
   refine(if_pos (l1.mpr e)).mpr ((if_neg zas).mpr ((if_pos (l1.mpr e)).mpr (mJ ho (mJ vh ⟨_,_,rfl,mK ho fun p hp=>?_⟩))));rw[max2];exact q _ _ (ar.new hp _) (.new rfl)
 ·rw[decide_eq_false e] at q;exact(if_neg (fun z=>e (l1.mp z))).mpr ((if_neg zas).mpr ((if_neg (fun z=>e (l1.mp z))).mpr ⟨truth,_,_,_,own,l,r,rfl,⟨_,rfl,ho⟩,⟨_,rfl,hl⟩,⟨_,rfl,vh⟩,q⟩))
theorem qg(T:Tx K mg t):bB P w K mg base eS 2 t.d9 t.ff ["sign", "truth", "own", "left", "right"] (NB K):=by
 have gc:=iR (P:=P) (w:=w) (base:=base) T;refine T.c8.F.j4 jV (fun vs H Q E h=>?_) (fun eK A outer s H vs Q E hr h=>?_)
 ·obtain⟨_,_,_,_,_,_,_,_,rfl,_⟩:=h;rfl
 obtain⟨sg,truth,_,_,_,own,l,r,rfl,⟨oa,rfl,ho⟩,⟨la,rfl,hl⟩,⟨ra,rfl,vh⟩,q⟩:=h;have nd:=jV.nd;refine⟨_,[some (.str (S sg)),some (.bl truth),some (.ref oa),some (.ref la),some (.ref ra)],(ao (bo (PW.pt (pw_and (aK bL (pv 0) bw (aO _)) (pw_and1 (gO (pv 1)))))
 (aw (aI (bt (ae (bF (ko rfl) rfl T.rV PyProof.Rows.Boot.«max» (ae (aA ay (pv 2) ai ag) (ae (bT jq (aA ay (pv 3) ai ag) ai) aj gB) aL)) (ae (aA ay (pv 2) ai ag) aj aL) aY))))
 aR)
 (ao (bo (aK bL (pv 0) bw (aO _))
 (aw (aI (bt (ae (aA ay (pv 2) ai ag) (ae (bF (je rfl) rfl T.qd PyProof.Rows.Boot.«min» (ae (aA ay (pv 2) ai ag) (ae (aA ay (pv 3) ai ag) aj aL) aL)) aj aY) aL))))
 aR)
 (aw (aI (aD gc (hr.mono (by first|decide|omega)) rfl T.bD.m T.bD.F.kp T.bD.b .nil aP (ae (pv 1) (ae (pv 2) (ae (pv 4) (ae (pv 3) aj ah) ah) ah) ah)))))),rfl,?_⟩
 have l1:(S sg=zac "<")↔sg=[60]:=by rw[show (zac "<":Str)=S [60] from rfl,kz]
 walk_at "rd";by_cases e:sg=[60]
 ·rw[decide_eq_true e] at q;cases truth with
  |true=>
   refine(if_pos (l1.mpr e)).mpr ((if_pos rfl).mpr (mJ ho (mJ hl ⟨_,_,rfl,rfl,_,_,rfl,mK ho fun p hp=>?_⟩)));rw[max2];exact q _ _ (ar.new hp _) (.new rfl)
  |false=>
   refine(if_pos (l1.mpr e)).mpr ((if_neg zas).mpr ((if_pos (l1.mpr e)).mpr (mJ ho (mK ho (mK hl ⟨_,_,rfl,fun p hp=>?_⟩)))));rw[min2];exact q _ _ (ar.new hp _) (.new rfl)
 ·rw[decide_eq_false e] at q;exact(if_neg (fun z=>e (l1.mp z))).mpr ((if_neg zas).mpr ((if_neg (fun z=>e (l1.mp z))).mpr ⟨truth,_,_,_,own,r,l,rfl,⟨_,rfl,ho⟩,⟨_,rfl,vh⟩,⟨_,rfl,hl⟩,q⟩))
theorem zW(T:Tx K mg t){n:Nat}(gH:bB P w K mg base eS n t.gF t.gK ["e", "named"] (Ke K n)) :
 bB P w K mg base eS (n+1) t.gF t.gK ["e", "named"] (Ke K (n+1)):=by
 refine T.bK.F.j4 rS (fun vs H Q E h=>?_) (fun eK A outer s H vs Q E hr h=>?_)
 ·obtain⟨_,_,_,_,_,rfl,_⟩:=h;rfl
 obtain⟨v,d,tr,kv,f,rfl,hv,hd,ok,ht,h6,q⟩:=h;have nd:=rS.nd;have hu:=gd hr;refine⟨_,[some v,some (.ref d),none,none,none,none],(ao (aQ (i:=2) nd rfl (zaq rfl) (aA ay (pv 0) ai ag))
 (ao (bo (aK bL (pv 2) bw (aO _))
 (aw (aI (bt (ae (aA ay (pv 0) ai ag) (ae (aA ay (pv 0) ai ag) aj aL) aL))))
 aR)
 (ao (bo (aK bL (pv 2) bw (aO _))
 (aw (aI (cf hu (pv 1) (aA ay (pv 0) ai ag) (fun _ _=>rfl))))
 aR)
 (ao (aQ (i:=3) nd rfl (zaq rfl) (aD gH (hr.mono (by first|decide|omega)) rfl T.bK.m T.bK.F.kp T.bK.b .nil aP (ae (aA ay (pv 0) ai ag) (ae (pv 1) aj ah) aL)))
 (ao (aQ (i:=4) nd rfl (zaq rfl) (aD gH (hr.mono (by first|decide|omega)) rfl T.bK.m T.bK.F.kp T.bK.b .nil aP (ae (aA ay (pv 0) ai ag) (ae (pv 1) aj ah) aL)))
 (ao (bo (aK bL (pv 2) bw (aO _))
 (aw (aI (bt (ae (bT jq (aA ay (pv 3) ai ag) (aA ay (pv 4) ai ag)) (ae (bT jq (aA ay (pv 3) ai ag) (aA ay (pv 4) ai ag)) aj gB) gB))))
 aR)
 (ao (bo (aK bL (pv 2) bw (aO _))
 (aw (aI (bt (ae (bT qu (aA ay (pv 3) ai ag) (aA ay (pv 4) ai ag)) (ae (bT qu (aA ay (pv 3) ai ag) (aA ay (pv 4) ai ag)) aj gB) gB))))
 aR)
 (ao (aQ (i:=5) nd rfl (zaq rfl) (bJ (ae (bT pI (aA ay (pv 3) ai ag) (aA ay (pv 4) ai ag)) (ae (bT pI (aA ay (pv 3) ai ag) (aA ay (pv 4) ai ag)) (ae (bT pI (aA ay (pv 3) ai ag) (aA ay (pv 4) ai ag)) (ae (bT pI (aA ay (pv 3) ai ag) (aA ay (pv 4) ai ag)) aj gB) gB) gB) gB)))
 (aw (aI (bt (ae (bF (DV rfl) rfl T.qd PyProof.Rows.Boot.«min» (ae (pv 5) aj ah)) (ae (bF (DW rfl) rfl T.rV PyProof.Rows.Boot.«max» (ae (pv 5) aj ah)) aj aY) aY)))))))))))),rfl,?_⟩
 have n1:¬("box":Str) = "number":=by decide +kernel
 cases tr with
 |num m=>
  unfold jN at hv;simp only[Rep.a0,aN.aJ,aN.bu,Rep.br,Rep.bg] at hv;obtain⟨a,xs,rfl,hS,_,_,rfl,rfl,_,_,rfl,rfl,rfl⟩:=hv;walk_at "rd";refine aG hS rfl ?_;walk_at "rd";rw[if_pos trivial];exact aG hS rfl (aG hS rfl fun p hp=>q _ _ (ar.new hp _) (.new rfl))
 |box x=>
  unfold jN at hv;simp only[Rep.a0,aN.aJ,aN.bu,Rep.br,Rep.bg] at hv;obtain⟨a,xs,rfl,hS,_,_,rfl,rfl,_,_,rfl,rfl,rfl⟩:=hv;walk_at "rd";refine aG hS rfl ?_;walk_at "rd";rw[if_neg n1,if_pos trivial];obtain⟨⟨u,e,hR⟩,_⟩:=ok;exact aG hS rfl ⟨d,u,rfl,ia.s hd e,q _ _ (ar.refl _) hR⟩
 |bin o l r=>
  unfold jN at hv;simp only[Rep.a0,aN.aJ,aN.bu,Rep.br,Rep.bg] at hv;obtain⟨a,xs,rfl,hS,_,_,rfl,rfl,vl,_,rfl,hl,vr,_,rfl,vh,rfl⟩:=hv;obtain⟨ho,ol,or'⟩:=ok;have n2:¬S o = "number":=by rcases ho with rfl |rfl |rfl<;>decide +kernel
  have n3:¬S o = "box":=by rcases ho with rfl |rfl |rfl<;>decide +kernel
  have e1:(S o = "+")↔o=[43]:=by rw[show ("+":Str)=S [43] from rfl,kz]
  have e2:(S o = "-")↔o=[45]:=by rw[show ("-":Str)=S [45] from rfl,kz]
  walk_at "rd";refine aG hS rfl ?_;walk_at "rd";rw[if_neg n2,if_neg n3];have wl:=Ly ol;have wr:=Ly or';rw[PG.dX] at ht h6;refine aG hS rfl ⟨vl,d,l,kv,f,rfl,hl,hd,ol,by lia,by lia,fun lv H1 s1 hL=>?_⟩;refine aG (s1.bj hS) rfl ⟨vr,d,r,kv,f,rfl,vh.mono s1,s1 _ _ hd,or'.mono s1,by lia,by lia,fun rv H2 s2 hR=>?_⟩;replace hL:=hL.mono s2;obtain⟨la,rfl,hL⟩:=hL;obtain⟨ra,rfl,hR⟩:=hR;walk_at "rd";have s3:=s1.trans s2;rw[PG.gn,PG.GO] at q;refine cM (fun c=>?_) (fun c=>?_)
  ·rw[if_pos (e1.mp c)] at q;exact mJ hL (mJ hR ⟨_,_,rfl,rfl,mK hL (mK hR ⟨_,_,rfl,rfl,fun p hp=>q _ _ (s3.trans (ar.new hp _)) (.new rfl)⟩)⟩)
  rw[if_neg (fun z=>c (e1.mpr z))] at q;refine cM (fun c=>?_) (fun c=>?_)
  ·rw[if_pos (e2.mp c)] at q;exact mJ hL (mK hR ⟨_,_,rfl,rfl,mK hL (mJ hR ⟨_,_,rfl,rfl,fun p hp=>q _ _ (s3.trans (ar.new hp _)) (.new rfl)⟩)⟩)
  rw[if_neg (fun z=>c (e2.mpr z))] at q;have b1:=qI wl.1 (by lia);have b2:=qI wl.2 (by lia);have b3:=qI wr.1 (by lia);have b4:=qI wr.2 (by lia);refine mJ hL (mJ hR ⟨_,_,rfl,rfl,⟨b1,b3⟩,mJ hL (mK hR ⟨_,_,rfl,rfl,⟨b1,b4⟩,mK hL (mJ hR ⟨_,_,rfl,rfl,⟨b2,b3⟩,mK hL (mK hR ⟨_,_,rfl,rfl,⟨b2,b4⟩,fun p hp=>?_⟩)⟩)⟩)⟩);have sp:fF K (upd H2 p (.lst ([(PG.gn f l).1*(PG.gn f r).1,(PG.gn f l).1*(PG.gn f r).2,(PG.gn f l).2*(PG.gn f r).1,(PG.gn f l).2*(PG.gn f r).2].map V.int))) p ([(PG.gn f l).1*(PG.gn f r).1,(PG.gn f l).1*(PG.gn f r).2,(PG.gn f l).2*(PG.gn f r).1,(PG.gn f l).2*(PG.gn f r).2].map V.int):=.of aq;refine⟨p,_,rfl,sp,List.cons_ne_nil _ _,fun m1 Uz RD=>⟨p,_,rfl,sp,List.cons_ne_nil _ _,fun m2 UG Ao=>fun p2 Aj=>?_⟩⟩;refine q _ _ ((s3.trans (ar.new hp _)).trans (ar.new Aj _)) ⟨_,rfl,?_⟩;rw[<- PG.Ka Uz RD,<- PG.Kb UG Ao];exact .of aq
theorem lR(T:Tx K mg t):∀n,bB P w K mg base eS n t.gF t.gK ["e", "named"] (Ke K n)
 |0=>by
  have no:∀vs H Q E,¬Ke K 0 vs H Q E:=fun vs H Q E h=>by obtain⟨_,_,_,_,_,_,_,_,_,h,_⟩:=h;lia
  exact⟨fun vs H Q E h=>absurd h (no vs H Q E),fun A outer s H args us vs Q E _ _ _ _ h=>absurd h (no vs H Q E)⟩
 |n+1=>zW T (lR T n)
theorem qZ(T:Tx K mg t):bB P w K mg base eS 8 t.eO t.fL ["chart", "row", "truth", "ranges"] (Ba K t.aS):=by
 have gG:=j3 (P:=P) (w:=w) (base:=base) T;have jJ:=nC (P:=P) (w:=w) (base:=base) T;have gH:=lR (P:=P) (w:=w) (base:=base) T 5;have vF:=uR (P:=P) (w:=w) (base:=base) T;have su:=qY (P:=P) (w:=w) (base:=base) T;have q0:=qg (P:=P) (w:=w) (base:=base) T;refine T.dB.F.j4 kN (fun vs H Q E h=>?_) (fun eK A outer s H vs Q E hr h=>?_)
 ·obtain⟨_,_,_,_,_,_,_,_,_,_,rfl,_⟩:=h;rfl
 obtain⟨p,_,pr,i,hi,truth,rs,sg,l,r,rfl,co,pw,nb,i3,⟨ra,us,rfl,OU,Eo⟩,OV,cp,tl,tr,dl,dr,q⟩:=h;have nd:=kN.nd;have hu:=gd hr;refine⟨_,[some (.ref p),some (.int (PG.ax pr.body)[i].row),some (.bl truth),some (.ref ra),none,none,none,none,none,none,none],(ao (aQ (i:=4) nd rfl (zaq rfl) (cf hu (dW (pv 0) rfl) (pv 1) (fun _ _=>rfl)))
 (ao (aQ (i:=5) nd rfl (zaq rfl) (aA ay (pv 4) ai ag))
 (ao (aQ (i:=6) nd rfl (zaq rfl) (aD gG (hr.mono (by first|decide|omega)) rfl T.b8.m T.b8.F.kp T.b8.b .nil aP (ae (pv 0) (ae (pv 3) aj ah) ah)))
 (ao (aQ (i:=7) nd rfl (zaq rfl) (aD gH (hr.mono (by first|decide|omega)) rfl T.bK.m T.bK.F.kp T.bK.b .nil aP (ae (aA ay (pv 4) ai ag) (ae (pv 6) aj ah) aL)))
 (ao (aQ (i:=8) nd rfl (zaq rfl) (aD gH (hr.mono (by first|decide|omega)) rfl T.bK.m T.bK.F.kp T.bK.b .nil aP (ae (aA ay (pv 4) ai ag) (ae (pv 6) aj ah) aL)))
 (ao (bo (Au (gO (aD vF (hr.mono (by first|decide|omega)) rfl T.eX.m T.eX.F.kp T.eX.b .nil aP (ae (pv 5) (ae (pv 2) (ae (pv 7) (ae (pv 8) aj ah) ah) ah) ah))))
 (aw (aI gA))
 aR)
 (ao (bo (aK bL (aA ay (aA ay (pv 4) ai ag) ai ag) bw (aO _))
 (ao (aQ (i:=9) nd rfl (zaq rfl) (aA ay (aA ay (pv 4) ai ag) ai ag))
 (aw (kZ hu (pv 6) (pv 9) (aD su (hr.mono (by first|decide|omega)) rfl T.dC.m T.dC.F.kp T.dC.b .nil aP (ae (pv 5) (ae (pv 2) (ae (cf hu (pv 6) (pv 9) (fun _ _=>rfl)) (ae (pv 7) (ae (pv 8) aj ah) ah) aL) ah) ah)) rfl)))
 aR)
 (ao (bo (aK bL (aA ay (aA ay (pv 4) ai ag) ai ag) bw (aO _))
 (ao (aQ (i:=9) nd rfl (zaq rfl) (aA ay (aA ay (pv 4) ai ag) ai ag))
 (aw (kZ hu (pv 6) (pv 9) (aD q0 (hr.mono (by first|decide|omega)) rfl T.c8.m T.c8.F.kp T.c8.b .nil aP (ae (pv 5) (ae (pv 2) (ae (cf hu (pv 6) (pv 9) (fun _ _=>rfl)) (ae (pv 7) (ae (pv 8) aj ah) ah) aL) ah) ah)) rfl)))
 aR)
 (ao (aQ (i:=10) nd rfl (zaq rfl) (aD jJ (hr.mono (by first|decide|omega)) rfl T.cO.m T.cO.F.kp T.cO.b .nil aP (ae (pv 0) (ae (pv 6) aj ah) ah)))
 (ao (bo (gO (bF (DU rfl) rfl T.HC PyProof.Rows.Boot.«any» (ae (fI (own:=["part"]) (ix:=[]) rfl (by rfl) (by rfl) (tG (pv 10)) (fun _ _ _ _=>(bH (i:=0) (by show List.Nodup (["part"]:List Str);decide +kernel) rfl (zaq rfl))) (fun _ _ _ _=>gm) (fun _ _ _ _=>(fH yA (aA (cm (K:=K) rfl) (pv 0) ai ag) (aA (cm (K:=K) rfl) (pv 0) ai ag) (aO _)))) aj iw)))
 (aw (aI gA))
 aR)
 (aw (aI (pv 10))))))))))))),rfl,?_⟩
 obtain⟨dx,nl,sd,fa,K0,st,wy,uu,ws,h1,h2,h3,h4,h5,h6,h7,h8,h9,_⟩:=co.at_;have li:i<uu.length:=by lia
 obtain⟨v,hv,rv⟩:=h9.get (i:=i) (d:=dY (PG.ax pr.body)[i]) (by rw[zah,zab hi];rfl);have g:=jv _ _ h7 pw i hi v hv;obtain⟨ta,w0,vl,vr,ys,rfl,hs,hl,vh⟩:=ue rv cp;refine aB fun U1 gN=>?_;walk_at "rd";refine⟨p,_,dx,_,.ref st,rfl,h1,T.bG,T.bI,rfl,⟨st,.ref ta,rfl,.inl ⟨_,.inl _,.inl h8,rfl,g.symm⟩,(gN _ _).mpr (aB fun U2 jm=>?_)⟩⟩;clear gN;walk_at "rd";refine aG hs (v:=.str (S sg)) (aC (j:=2) rfl) ((jm _ _).mpr (aB fun U3 ke=>?_));clear jm;have vv:us.length=pr.av.length:=by rw[Eo.1];exact OV
 walk_at "rd";refine⟨p,ra,pr,us,rfl,co,OU,vv,nb,i3,fun d H2 s2 hd y2=>(ke _ _).mpr (aB fun U4 lP=>?_)⟩;clear ke;have nm:=(sX.of Eo vv nb).mono s2;walk_at "rd";refine aG (s2.bj hs) (v:=vl) (aC (j:=3) rfl) ⟨vl,d,l,_,_,rfl,hl.mono s2,y2,nm.QR nb tl,by lia,by lia,fun lv H3 s3 hL=>(lP _ _).mpr (aB fun U5 sr=>?_)⟩;clear lP;walk_at "rd";have C3:=s2.trans s3;refine aG (C3.bj hs) (v:=vr) (aC (j:=4) rfl) ⟨vr,d,r,_,_,rfl,vh.mono C3,s3 _ _ y2,(nm.mono s3).QR nb tr,by lia,by lia,fun Lz H4 s4 hR=>(sr _ _).mpr (aB fun U6 Ar=>?_)⟩;clear sr;walk_at "rd";refine⟨sg,truth,_,_,_,_,rfl,hL.mono s4,hR,?_⟩;have Oi:=C3.trans s4;have Yd:∀ {H':Hp} (o:HO),ar H H'->ar H (upd H' d o):=fun o s=>((aZ.of s:aZ d H _).put o).same hd;refine⟨_,rfl,cM (fun e=>?_) (fun e=>?_)⟩
 ·refine q _ _ Oi ?_;unfold PG.bR;rw[if_neg (fun z=>by rw[z] at e;cases e)];rfl
 have e:PG.wB (decide (sg=[60])) truth (PG.gn (PG.eE pr.av rs) l) (PG.gn (PG.eE pr.av rs) r)=true:=by simpa using e
 unfold PG.bR at q;rw[if_pos e] at q;have pl:=wC (hl.mono Oi) tl.LA;have pR:=wC (vh.mono Oi) tr.LA;generalize PG.gn (PG.eE pr.av rs) l=lr at *;generalize PG.gn (PG.eE pr.av rs) r=rr at *;have En:(cv pr.av us).length<=10:=by
  unfold cv;rw[zcs];lia
 have line:zdu=2 ^ 24:=rfl;have Ye:∀x,l=.box x->x∈pr.av.map (·.name):=fun x z=>by rw[z] at tl;exact tl.1
 have inR:∀x,r=.box x->x∈pr.av.map (·.name):=fun x z=>by rw[z] at tr;exact tr.1
 refine(Ar _ _).mpr (aB fun U7 RB=>?_);clear Ar;have y4:H4 d=some (.dK (cv pr.av us)):=s4 _ _ (s3 _ _ y2);have next:∀(H5:Hp) (Ib:List (Key×V)) (RE:List PG.Rg) (nv:Option V),ar H H5->aZ d H4 H5->H5 d=some (.dK Ib)->Ib.length<=11->sX K H5 pr.av Ib RE->cV K H5 lv lr->cV K H5 Lz rr->(∀v H',ar H H'->pO K H' v (PG.rL (PG.QS pr.av RE (decide (sg=[60])) truth r lr rr))->Q v H')->
  U7 [some (V.ref p),some (V.int (PG.ax pr.body)[i].row),some (V.bl truth),some (V.ref ra),some (V.ref ta),some (V.str (S sg)),some (V.ref d),some lv,some Lz,nv,none] H5:=by
  intro H5 Ib RE nv s5 u5 y5 k5 n5 l5 r5 q5;refine(RB _ _).mpr (aB fun U8 Yf=>?_);clear RB;walk_at "rd";obtain⟨a,SU,w1,Yg,rfl,hS,Ic,VR⟩:=pR;have Yh:bS K H5 a (.str SU::w1::Yg):=hS.dk y4 u5;have CT:bS K H5 ta _:=s5.bj hs;have last:∀(H6:Hp) (K1:List (Key×V)) (C4:List PG.Rg) (nv:Option V),ar H H6->H6 d=some (.dK K1)->sX K H6 pr.av K1 C4->(∀v H',ar H H'->pO K H' v (PG.rL C4)->Q v H')->
   U8 [some (V.ref p),some (V.int (PG.ax pr.body)[i].row),some (V.bl truth),some (V.ref ra),some (V.ref ta),some (V.str (S sg)),some (V.ref d),some lv,some Lz,nv,none] H6:=by
   intro H6 K1 C4 nv6 s6 y6 n6 q6;refine(Yf _ _).mpr (aB fun U9 Yi=>?_);clear Yf;walk_at "rd";obtain⟨ws,lw,look,VS⟩:=n6.list;refine⟨p,d,pr,K1,ws,rfl,co.mono s6,y6,lw,look,i3,fun na H7 s7 sq=>(Yi _ _).mpr ?_⟩;clear Yi;walk_at "rd";simp only[iH,IV];walk_at "rd";have VT:=VS.mono s7;have VU:ws.length=C4.length:=VT.1;refine⟨⟨_,sq⟩,fun D hD=>?_⟩;refine DE (K:=K) (r:=[]) (fun _=>true) (fun j=>.bl (decide ((C4.getD j (0,0)).1>(C4.getD j (0,0)).2))) sq (by lia) hD (fun j x hx H8 s8 R hR=>?_) (fun j x hx _ H8 s8 R hR=>?_) (fun H8 s8 h8=>?_)
   ·exact hR _ (ar.refl _)
   ·obtain⟨lj,ex⟩:=zal.mp hx;obtain⟨r2,er,Yj⟩:=(VT.mono s8).2 j lj;rw[ex] at Yj;obtain⟨xa,rfl,Yk⟩:=Yj;have hR:=hR _ (ar.refl _);rw[zaf,er] at hR;walk_at "rd";exact mJ Yk (mK Yk ⟨_,_,rfl,rfl,hR⟩)
   ·have e8:((zaz ws.length).filter fun _=>true).map (fun j=>V.bl (decide ((C4.getD j (0,0)).1>(C4.getD j (0,0)).2)))=(C4.map fun q=>decide (q.1>q.2)).map V.bl:=by
     rw[show (zaz ws.length).filter (fun _=>true)=zaz ws.length from List.filter_eq_self.mpr fun _ _=>rfl,VU,zaN];exact jh (fun q:PG.Rg=>V.bl (decide (q.1>q.2))) (0,0) C4
    rw[e8] at h8;unfold PG.rL at q6;refine⟨D,_,rfl,.of h8,cM (fun e=>?_) (fun e=>?_)⟩
    ·rw[if_pos e] at q6;exact q6 _ _ (s6.trans (s7.trans s8)) rfl
    ·rw[if_neg e] at q6;exact q6 _ _ (s6.trans (s7.trans s8)) ⟨na,ws,rfl,s8.bj sq,VT.mono s8⟩
  refine aG CT (v:=.ref a) (aC (j:=4) rfl) (aG Yh (v:=.str SU) (aC (j:=0) rfl) ⟨rfl,cM (fun e2=>?_) (fun e2=>?_)⟩)
  ·obtain⟨x,rfl⟩:=Ic.mp (V.str.inj e2);obtain rfl:=VR x rfl;obtain⟨v0,e0,VW⟩:=n5.at_ nb (inR x rfl);refine aG CT (v:=.ref a) (aC (j:=4) rfl) (aG Yh (v:=.str (S x)) (aC (j:=1) rfl) ⟨d,v0,rfl,ia.s y5 e0,?_⟩);refine⟨sg,truth,_,_,_,_,_,_,rfl,VW,l5,r5,fun v6 H6 s6 h6=>⟨d,_,rfl,vq.k (k:=.inr (S x)) (s6 _ _ y5) (by lia),?_⟩⟩;have u6:aZ d H6 (upd H6 d (.dK (putK Ib (.inr (S x)) v6))):=(aZ.of (ar.refl _)).put _;exact last _ _ _ _ (Yd _ (s5.trans s6)) aq (((n5.mono s6).put nb (inR x rfl) h6).dk (s6 _ _ y5) u6) q5
  ·have el:PG.QS pr.av RE (decide (sg=[60])) truth r lr rr=RE:=by
    cases r with
    |box x=>exact absurd (congrArg V.str (Ic.mpr ⟨x,rfl⟩)) e2
    |num _=>rfl
    |bin _ _ _=>rfl
   rw[el] at q5;exact last _ _ _ _ s5 y5 n5 q5
 obtain⟨a,SU,w1,Yg,rfl,hS,Ic,VR⟩:=pl;have VX:=nm.mono (s3.trans s4);have VY:=hL.mono s4;walk_at "rd";refine aG (Oi.bj hs) (v:=.ref a) (aC (j:=3) rfl) (aG hS (v:=.str SU) (aC (j:=0) rfl) ⟨rfl,cM (fun e2=>?_) (fun e2=>?_)⟩)
 ·obtain⟨x,rfl⟩:=Ic.mp (V.str.inj e2);obtain rfl:=VR x rfl;obtain⟨v0,e0,VW⟩:=VX.at_ nb (Ye x rfl);refine aG (Oi.bj hs) (v:=.ref a) (aC (j:=3) rfl) (aG hS (v:=.str (S x)) (aC (j:=1) rfl) ⟨d,v0,rfl,ia.s y4 e0,?_⟩);refine⟨sg,truth,_,_,_,_,_,_,rfl,VW,VY,hR,fun v5 H5 s5 h5=>⟨d,_,rfl,vq.k (k:=.inr (S x)) (s5 _ _ y4) (by lia),?_⟩⟩;have u5:aZ d H5 (upd H5 d (.dK (putK (cv pr.av us) (.inr (S x)) v5))):=(aZ.of (ar.refl _)).put _;exact next _ _ _ _ (Yd _ (Oi.trans s5)) ((aZ.of s5:aZ d H4 H5).put _) aq (by have:=jP (cv pr.av us) (.inr (S x)) v5;lia) (((VX.mono s5).put nb (Ye x rfl) h5).dk (s5 _ _ y4) u5) ((VY.mono s5).dk (s5 _ _ y4) u5) ((hR.mono s5).dk (s5 _ _ y4) u5) q
 ·have el:PG.OK pr.av rs (decide (sg=[60])) truth l lr rr=rs:=by
   cases l with
   |box x=>exact absurd (congrArg V.str (Ic.mpr ⟨x,rfl⟩)) e2
   |num _=>rfl
   |bin _ _ _=>rfl
  rw[el] at q;exact next _ _ _ _ Oi (.of (ar.refl _)) y4 (by lia) VX VY hR q
theorem Ie{K:zaa}{ta:TA}{g:TG}{tb:TS}{D:Ends}{σ:St}{H:Hp} (h:∀U:zdm->zdm->Hp->Prop,(∀a b H1,(∃W:Nat->Nat->St->Hp->Prop,(∃m,W 0 m σ H1)/\∀i m σ H,W i m σ H->
 ((Kh K a b).stop i H/\D.nx σ H)\/((Kh K a b).go i H/\∃N:St->Hp->Prop,(∀σ' H',N σ' H'->∃m',m'<m/\W (i+1) m' σ' H')/\∀x H',(Kh K a b).wZ i H x H'->g x σ H' fun σ2 H2=>tb {D with nx:=N,ct:=N,bk:=D.nx} σ2 H2))->U a b H1)->
 ta σ H fun vs H1=>∃a b,vs=[.ref a,.ref b]/\(∃xs,bS K H1 a xs)/\(∃ys,bS K H1 b ys)/\U a b H1):Dd (QQ K ta) g tb D σ H:=h _ fun _ _ _ x=>x
theorem qh(T:Tx K mg t):bB P w K mg base eS 9 t.dZ t.fe ["chart", "row", "ranges"] (GV K t.aS):=by
 have sA:=qZ (P:=P) (w:=w) (base:=base) T;refine T.c7.F.j4 jU (fun vs H Q E h=>?_) (fun eK A outer s H vs Q E hr h=>?_)
 ·obtain⟨_,_,_,_,_,_,_,_,_,_,rfl,_⟩:=h;rfl
 obtain⟨p,rv,pr,i,hi,hf,rs,sg,l,r,rfl,co,ok,Eo,OV,cp,tl,tr,dl,dr,q⟩:=h;have nd:=jU.nd;have hu:=gd hr;refine⟨_,[some (.ref p),some (.int (PG.ax pr.body)[i].row),some rv,none,none,none,none],(ao (aQ (i:=3) nd rfl (zaq rfl) (bJ aj))
 (ao (jo PassesOwn.never rfl (GU rfl T.zO (ae (cf hu (dW (pv 0) rfl) (pv 1) (fun _ _=>rfl)) (ae (bt (eT (vs:=[.bl true,.bl false]) (by kernel_rfl))) aj oN) aL)) (wY rfl (iG (bH (i:=4) nd rfl (zaq rfl)) (iG (bH (i:=5) nd rfl (zaq rfl)) sM)))
 (ao (aQ (i:=6) nd rfl (zaq rfl) (aD sA (hr.mono (by first|decide|omega)) rfl T.dB.m T.dB.F.kp T.dB.b .nil aP (ae (pv 0) (ae (pv 1) (ae (pv 5) (ae (pv 2) aj ah) ah) ah) ah)))
 (aw (bo (aK BS (pv 6) gA (aO _))
 (aw (e7 (lT zaA zaJ zaK eQ (pv 3) (ae (bt (ae (pv 4) (ae (pv 6) aj ah) ah)) aj oN))))
 aR))))
 (aw (aI (pv 3))))),rfl,?_⟩
 refine aB fun U1 gN=>?_;walk_at "rd";intro L hL;have sL:=ar.new hL (.lst []);refine(gN _ _).mpr (aB fun U2 jm=>?_);clear gN;refine Ie fun U hU=>?_;walk_at "rd";have co1:=co.mono sL;obtain⟨dx,fs,wy,wq,g1,g2,g3,g4⟩:=co1.way ok i hi hf;refine⟨p,_,dx,fs,.ref wy,rfl,g1,T.bG,T.c5,g2,wy,.ref wq,rfl,g3,fun z hz=>?_⟩;have sz:=ar.new hz (.tup [V.bl true,V.bl false]);have s1:=sL.trans sz;have yz:(upd (upd H L (.lst [])) z (.tup [V.bl true,V.bl false])) z=some (.tup [V.bl true,V.bl false]):=aq;have yL:=sz _ _ (aq:(upd H L (.lst [])) L=some (.lst []));have g5:=sz.bj g4;clear g1 g3 g4;generalize upd (upd H L (HO.lst [])) z (HO.tup [V.bl true,V.bl false])=H1 at *;generalize (PG.aF pr.body 0)[i].2.2=iW at *;have Yl:bS K H1 z [V.bl true,V.bl false]:=.of yz;refine⟨wq,z,rfl,⟨_,g5⟩,⟨_,Yl⟩,hU _ _ _ (Ki (K:=K) (a:=wq) (b:=z) (xs:=iW.map V.int) (ys:=[.bl true,.bl false]) (fun j σ H2=>(∃x4 x5 x6,σ=[some (V.ref p),some (V.int (PG.ax pr.body)[i].row),some rv,some (V.ref L),x4,x5,x6])/\ar H H2/\aZ L H1 H2/\∃us,H2 L=some (.lst us)/\us.length<=j/\jy K H2 us (PG.dy (PG.bR pr.av rs sg l r) ((iW.zip [true,false]).take j))) ⟨⟨_,_,_,rfl⟩,s1,.of (ar.refl _),[],yL,zam _,.nil⟩ (fun j σ H2 _ hv=>⟨g5.gC yL hv.2.2.1,Yl.gC yL hv.2.2.1⟩) ?_ ?_)⟩
 ·rintro j x y σ H2 tp hx hy ⟨⟨x4,x5,x6,rfl⟩,s2,u2,us,yU,lu,wo⟩ LV
  have lj:j<2:=(zal.mp hy).1;obtain⟨wv,ew,rfl⟩:∃wv,iW[j]?=some wv/\x=.int wv:=by
   rw[zah] at hx;obtain⟨wv,ew,e⟩:=zaC.mp hx;exact⟨wv,ew,e.symm⟩
  obtain⟨b,eb,rfl⟩:∃b,[true,false][j]?=some b/\y=.bl b:=by
   rcases(by lia:j=0\/j=1) with rfl |rfl
   ·exact⟨true,rfl,(zaH.inj hy).symm⟩
   ·exact⟨false,rfl,(zaH.inj hy).symm⟩
  have s3:=s2.T8 LV (.tup [V.int wv,V.bl b]);have u3:=u2.new LV (.tup [V.int wv,V.bl b]);have n3:=ar.new LV (.tup [V.int wv,V.bl b]);have y3:(upd H2 tp (.tup [V.int wv,V.bl b])) tp=some (.tup [V.int wv,V.bl b]):=aq;replace yU:=n3 _ _ yU;replace wo:=wo.map fun v w h=>h.mono n3;clear n3;generalize upd H2 tp (.tup [V.int wv,V.bl b])=H3 at *;have tk:(iW.zip [true,false]).take (j+1)=(iW.zip [true,false]).take j++[(wv,b)]:=by
   rw[List.take_succ,zbK (z:=(wv,b)) |>.mpr ⟨ew,eb⟩];rfl
  refine⟨tp,_,rfl,.of y3,rfl,_,_,rfl,_,_,rfl,rfl,?_⟩;simp only[zct];walk_at "rd";refine⟨p,rv,pr,i,hi,b,rs,sg,l,r,rfl,co.mono s3,ok.pw,ok.nb,ok.i3,Eo.mono s3,OV,cp,tl,tr,dl,dr,fun v H4 s4 ho=>?_⟩;have Ym:=s3.trans s4;have y4:=s4 _ _ yU;replace wo:=wo.map fun v w h=>h.mono s4;rw[tk,PG.zg];have line:zdu=2 ^ 24:=rfl;cases hb:PG.bR pr.av rs sg l r b with
  |none=>
   rw[hb] at ho;cases (show v=.bO from ho);refine(if_pos rfl).mpr ⟨⟨_,_,_,rfl⟩,Ym,u3.trans (.of s4),us,y4,by lia,?_⟩;rw[Option.map_none,Option.toList_none,zba];exact wo
  |some uk=>
   rw[hb] at ho;obtain⟨na,ws,rfl,h1,h2⟩:=ho;refine(if_neg (by intro z;cases z)).mpr ⟨.inl ⟨rfl,_,.of y4⟩,fun p1 Aq=>?_⟩;have n5:=ar.new Aq (.tup [V.int wv,V.ref na]);have y5:=n5 _ _ y4;have wy5:oV K (upd H4 p1 (.tup [V.int wv,V.ref na])) (.ref p1) (wv,uk):=⟨p1,_,rfl,.of aq,na,ws,rfl,n5.bj h1,h2.mono n5⟩
   have VZ:=wo.map fun v w h=>h.mono n5;have s5:=Ym.trans n5;have u5:=(u3.trans (.of s4)).trans (.of n5:aZ L H4 _);generalize upd H4 p1 (.tup [V.int wv,V.ref na])=H5 at *;refine⟨L,us,_,rfl,rfl,y5,by lia,⟨_,_,_,rfl⟩,((aZ.of s5:aZ L H H5).put _).same hL,u5.put _,_,aq,by rw[zap];exact Nat.add_le_add_right lu 1,?_⟩;have uu:aZ L H5 (upd H5 L (.lst (us++[V.ref p1]))):=(aZ.refl L H5).put _;exact(VZ.snoc wy5).map fun v w h=>h.gC y5 uu
 ·rintro σ H2 ⟨⟨x4,x5,x6,rfl⟩,s2,u2,us,yU,lu,wo⟩
  refine(jm _ _).mpr ?_;walk_at "rd";refine q _ us _ s2 hL yU ?_;rw[zbV (by rw[zbF,zae];exact zam _)] at wo;exact wo
theorem Ig:∀sm:PG.bh,¬nU sm.wd=zac "end":=fun sm=>by cases sm<;>(simp only[PG.bh.wd];decide +kernel)
theorem K2{bs:List PG.ck}{rs:List PG.Rg}{st:PG.bh}(h:st.wd=.cg\/st.wd=.ifs\/st.wd=.eD)(po:Kj bs rs st):∃sg l r,jx st=some (sg,l,r)/\sY bs rs l/\sY bs rs r/\PG.dX l<=4/\PG.dX r<=4/\∀ws,PG.eF bs rs ws st=PG.dy (PG.bR bs rs sg l r) (ws.zip [true,false]):=by
 cases st<;>simp only[PG.bh.wd,reduceCtorEq,or_self,or_false,false_or] at h<;>exact⟨_,_,_,rfl,po.1,po.2.1,po.2.2.1,po.2.2.2,fun _=>rfl⟩
theorem Ih{bs:List PG.ck}(bp:∀b∈bs,b.size<=1000)(x:W):df bs x<=1000:=by
 unfold df;cases e:bs[gf bs x]? with
 |none=>decide
 |some b=>exact bp b (zaG e)
theorem uT(T:Tx K mg t):bB P w K mg base eS 10 t.kR t.lM ["chart", "row", "ranges"] (GW K t.aS):=by
 have qW:=uQ (P:=P) (w:=w) (base:=base) T;have gG:=j3 (P:=P) (w:=w) (base:=base) T;have jJ:=nC (P:=P) (w:=w) (base:=base) T;have rf:=qh (P:=P) (w:=w) (base:=base) T;have kg:=nD (P:=P) (w:=w) (base:=base) T;have xR:=vE (P:=P) (w:=w) (base:=base) T;have gH:=lR (P:=P) (w:=w) (base:=base) T 5;refine T.fP.F.j4 uF (fun vs H Q E h=>?_) (fun eK A outer s H vs Q E hr h=>?_)
 ·obtain⟨_,_,_,_,_,rfl,_⟩:=h;rfl
 obtain⟨p,rv,pr,row,rs,rfl,co,ok,Eo,OV,bp,q⟩:=h;have nd:=uF.nd;have hu:=gd hr;refine⟨_,[some (.ref p),some (.int row),some rv,none,none,none],(ao (aQ (i:=3) nd rfl (zaq rfl) (aD qW (hr.mono (by first|decide|omega)) rfl T.fO.m T.fO.F.kp T.fO.b .nil aP (ae (pv 0) (ae (pv 1) aj ah) ah)))
 (ao (bo (aK bL (pv 3) bw (aO _))
 (aw (aI (bJ aj)))
 aR)
 (ao (bo (aK qy (pv 3) (bt (eT (vs:=[.str "must",.str "if",.str "while"]) (by kernel_rfl))) rfl)
 (aw (aI (aD rf (hr.mono (by first|decide|omega)) rfl T.c7.m T.c7.F.kp T.c7.b .nil aP (ae (pv 0) (ae (pv 1) (ae (pv 2) aj ah) ah) ah))))
 aR)
 (ao (aQ (i:=4) nd rfl (zaq rfl) (cf hu (dW (pv 0) rfl) (pv 1) (fun _ _=>rfl)))
 (ao (aQ (i:=5) nd rfl (zaq rfl) (aD gG (hr.mono (by first|decide|omega)) rfl T.b8.m T.b8.F.kp T.b8.b .nil aP (ae (pv 0) (ae (pv 2) aj ah) ah)))
 (ao (bo (aK bL (pv 3) bw (aO _))
 (aw (kZ hu (pv 5) (aA ay (pv 4) ai ag) (aD kg (hr.mono (by first|decide|omega)) rfl T.cF.m T.cF.F.kp T.cF.b .nil aP (ae (cf hu (dW (pv 0) rfl) (aA ay (pv 4) ai ag) (fun _ _=>rfl)) aj aL)) rfl))
 (aw (bo (aK bL (pv 3) bw (aO _))
 (aw (kZ hu (pv 5) (aA ay (pv 4) ai ag) (aD xR (hr.mono (by first|decide|omega)) rfl T.fQ.m T.fQ.F.kp T.fQ.b .nil aP (ae (aD gH (hr.mono (by first|decide|omega)) rfl T.bK.m T.bK.F.kp T.bK.b .nil aP (ae (aA ay (pv 4) ai ag) (ae (pv 5) aj ah) aL)) (ae (cf hu (dW (pv 0) rfl) (aA ay (pv 4) ai ag) (fun _ _=>rfl)) aj aL) aY)) rfl))
 aR)))
 (aw (aI (bJ (ae (bt (ae (aA ay (cf hu (dW (pv 0) rfl) (pv 1) (fun _ _=>rfl)) ai ag) (ae (aD jJ (hr.mono (by first|decide|omega)) rfl T.cO.m T.cO.F.kp T.cO.b .nil aP (ae (pv 0) (ae (pv 5) aj ah) ah)) aj aY) aL)) aj oN)))))))))),rfl,?_⟩
 refine aB fun U1 gN=>?_;walk_at "rd";rcases q with ⟨rfl,q⟩ |⟨n0,i,hi,hf,er,po,w0,q⟩
 ·refine⟨p,pr,0,rfl,co,ok.pw,.inl ⟨rfl,(gN _ _).mpr ?_⟩⟩;refine aB fun U2 jm=>?_;walk_at "rd";exact(if_pos trivial).mpr fun L hL=>q L _ (ar.new hL _) hL aq
 subst er;refine⟨p,pr,_,rfl,co,ok.pw,.inr ⟨n0,i,hi,rfl,(gN _ _).mpr (aB fun U2 jm=>?_)⟩⟩;clear gN;walk_at "rd";refine(if_neg ?_).mpr ((jm _ _).mpr (aB fun U3 ke=>?_))
 ·exact Ig _
 clear jm;walk_at "rd";intro z hz;have sz:=ar.new hz (HO.tup [V.str (zac "must"),V.str (zac "if"),V.str (zac "while")]);refine⟨z,_,rfl,.inr (.of aq),rfl,rfl,_,rfl,cM (fun e=>?_) (fun e=>?_)⟩
 ·have e:=e;simp only[zay,if_false,tq,decide_eq_true_eq] at e;obtain⟨sg,l,r,cp,tl,tr,dl,dr,ew⟩:=K2 e po;rw[ew] at q;exact⟨p,rv,pr,i,hi,hf,rs,sg,l,r,rfl,co.mono sz,ok,Eo.mono sz,OV,cp,tl,tr,dl,dr,fun L us H' s' hL' y w'=>q L us H' (sz.trans s') (sz.free hL') y w'⟩
 have e0:=e;simp only[zay,if_false,tq,decide_eq_true_eq] at e0;refine(ke _ _).mpr (aB fun U4 lP=>?_);clear ke e;obtain⟨dx,nl,sd,fa,K0,st,wy,uu,ws,h1,h2,h3,h4,h5,h6,h7,h8,h9,_⟩:=co.at_;have li:i<uu.length:=by lia
 obtain⟨v,hv,vj⟩:=h9.get (i:=i) (d:=dY (PG.ax pr.body)[i]) (by rw[zah,zab hi];rfl);have g:=jv _ _ h7 ok.pw i hi v hv;walk_at "rd";refine⟨p,_,dx,_,.ref st,rfl,sz _ _ h1,T.bG,T.bI,rfl,⟨st,v,rfl,.inl ⟨_,.inl _,.inl (sz _ _ h8),rfl,g.symm⟩,(lP _ _).mpr (aB fun U5 sr=>?_)⟩⟩;clear lP;obtain⟨ra,us,rfl,OU,Yn⟩:=Eo;have vv:us.length=pr.av.length:=by rw[Yn.1];exact OV
 walk_at "rd";refine⟨p,ra,pr,us,rfl,co.mono sz,sz.bj OU,vv,ok.nb,ok.i3,fun d H2 VQ hd2 y2=>(sr _ _).mpr (aB fun U6 Ar=>?_)⟩;clear sr;have s2:=sz.trans VQ;have hd:=sz.free hd2;have nm:=(sX.of Yn vv ok.nb).mono s2;have fin:∀(H5:Hp) (kvs:List (Key×V)) (C4:List PG.Rg),ar H H5->H5 d=some (.dK kvs)->sX K H5 pr.av kvs C4->PG.eF pr.av rs (PG.aF pr.body 0)[i].2.2 (PG.ax pr.body)[i]=[((PG.aF pr.body 0)[i].2.2.getD 0 0,C4)]->
  U6 [some (V.ref p),some (V.int (PG.ax pr.body)[i].row),some (V.ref ra),some (V.str (nU (PG.ax pr.body)[i].wd)),some v,some (V.ref d)] H5:=by
  intro H5 kvs C4 s5 y5 n5 es;rw[es] at q;refine(Ar _ _).mpr ?_;clear Ar;walk_at "rd";obtain⟨dx,fs,wy,wq,g1,g2,g3,g4⟩:=(co.mono s5).way ok i hi hf;have e0:(PG.aF pr.body 0)[i].2.2[0]?=some ((PG.aF pr.body 0)[i].2.2.getD 0 0):=by rw[zaf,zab w0];rfl
  have qq:vd ((PG.aF pr.body 0)[i].2.2.map V.int) ((0:Nat):Int)=some (V.int ((PG.aF pr.body 0)[i].2.2.getD 0 0)):=aC (by rw[zah,e0];rfl);obtain⟨Yo,lw,look,VS⟩:=n5.list;refine⟨p,_,dx,fs,.ref wy,rfl,g1,T.bG,T.c5,g2,wy,.ref wq,rfl,g3,aG g4 (v:=.int ((PG.aF pr.body 0)[i].2.2.getD 0 0)) qq ?_⟩;refine⟨p,d,pr,kvs,Yo,rfl,co.mono s5,y5,lw,look,ok.i3,fun a H6 s6 sq p1 Aq p2 Aj=>?_⟩;have n1:=ar.new Aq (HO.tup [V.int ((PG.aF pr.body 0)[i].2.2.getD 0 0),V.ref a]);have n2:=ar.new Aj (HO.lst [V.ref p1]);have h1:(upd H6 p1 (HO.tup [V.int ((PG.aF pr.body 0)[i].2.2.getD 0 0),V.ref a])) p1=some (HO.tup [V.int ((PG.aF pr.body 0)[i].2.2.getD 0 0),V.ref a]):=aq;exact q p2 _ _ (((s5.trans s6).trans n1).trans n2) (((s5.trans s6).trans n1).free Aj) aq (.cons ⟨p1,_,rfl,.of (n2 _ _ h1),a,Yo,rfl,n2.bj (n1.bj sq),(VS.mono s6).mono (n1.trans n2)⟩ .nil)
 have En:(cv pr.av us).length<zdu:=by
  have line:zdu=2 ^ 24:=rfl;have:=ok.i3;unfold cv;rw[zcs];lia
 have Ia:∀ {H3:Hp} (o:HO),ar H H3->ar H (upd H3 d o):=fun o s3=>((aZ.of s3:aZ d H _).put o).same hd;walk_at "rd";refine cM (fun e=>?_) (fun e=>?_)
 ·obtain⟨k,b,As⟩:=HY ((HX _).mp e);rw[As] at vj po;obtain⟨va,rfl,hT⟩:=wO vj;refine⟨p,_,dx,_,.ref sd,rfl,s2 _ _ h1,T.bG,T.dq,rfl,aG (s2.bj hT) (v:=.str (S b)) (aC (j:=2) rfl) ⟨sd,.int (df pr.av b),rfl,.inl ⟨_,.inr (S b),.inl (s2 _ _ h4),rfl,(pM ok.nb po).symm⟩,?_⟩⟩;refine⟨_,rfl,fun v3 H3 s3 h3=>aG ((s2.trans s3).bj hT) (v:=.str (S b)) (aC (j:=2) rfl) ⟨d,_,rfl,vq.k (k:=.inr (S b)) (s3 _ _ y2) En,?_⟩⟩;exact fin _ _ _ (Ia _ (s2.trans s3)) aq (((nm.mono s3).put ok.nb po h3).dk (s3 _ _ y2) ((aZ.refl d H3).put _)) (by rw[As];rfl)
 refine cM (fun e2=>?_) (fun e2=>?_)
 ·obtain⟨k,b,tr,As⟩:=HZ ((KY _).mp e2);rw[As] at vj po;obtain⟨va,u,rfl,hT,ru⟩:=wQ vj;refine aG (s2.bj hT) (v:=u) (aC (j:=3) rfl) ⟨u,d,tr,_,_,rfl,ru.mono s2,y2,nm.QR ok.nb po.2.1,by have:=po.2.2;lia,by have:=po.2.2;lia,fun x3 H3 s3 h3=>?_⟩;have C3:=s2.trans s3;refine⟨p,_,dx,_,.ref sd,rfl,C3 _ _ h1,T.bG,T.dq,rfl,aG (C3.bj hT) (v:=.str (S b)) (aC (j:=2) rfl) ⟨sd,.int (df pr.av b),rfl,.inl ⟨_,.inr (S b),.inl (C3 _ _ h4),rfl,(pM ok.nb po.1).symm⟩,?_⟩⟩;refine⟨_,_,_,rfl,h3,qX (fun b hb=>(bp b hb).1) b,Ih (fun b hb=>(bp b hb).2) b,fun v4 H4 s4 h5'=>aG ((C3.trans s4).bj hT) (v:=.str (S b)) (aC (j:=2) rfl) ⟨d,_,rfl,vq.k (k:=.inr (S b)) (s4 _ _ (s3 _ _ y2)) En,?_⟩⟩;exact fin _ _ _ (Ia _ (C3.trans s4)) aq ((((nm.mono s3).mono s4).put ok.nb po.1 h5').dk (s4 _ _ (s3 _ _ y2)) ((aZ.refl d H4).put _)) (by rw[As];rfl)
 have es:PG.eF pr.av rs (PG.aF pr.body 0)[i].2.2 (PG.ax pr.body)[i]=[((PG.aF pr.body 0)[i].2.2.getD 0 0,rs)]:=by
  have a1:(PG.ax pr.body)[i].wd≠.ask:=fun z=>e ((HX _).mpr z);have a2:(PG.ax pr.body)[i].wd≠.put:=fun z=>e2 ((KY _).mpr z);generalize (PG.ax pr.body)[i]=sm at a1 a2 e0;cases sm<;>first |rfl |(exact absurd rfl a1) |(exact absurd rfl a2) |(exact absurd (by simp[PG.bh.wd]) e0)
 exact fin _ _ _ s2 y2 nm es
theorem K3(T:Tx K mg t)(cI:bB P w K mg base eS 1 t.c0 t.cX ["body", "behind"] (nJ K))(cP:bB P w K mg base eS 7 t.bN t.bQ ["body"] (lg K 5))(uP:bB P w K mg base eS 8 t.nh t.lJ ["program"] (xo K)) :
 bB P w K mg base eS 11 t.uI t.tj ["program", "standing", "figure"] (Ni K):=by
 have eJ:=iF (P:=P) (w:=w) (base:=base) T cI cP uP;have Ep:=By (P:=P) (w:=w) (base:=base) T;refine T.qT.F.j4 CN (fun vs H Q E h=>?_) (fun eK A outer s H vs Q E hr h=>?_)
 ·obtain⟨_,_,_,_,_,_,_,_,_,rfl,_⟩:=h;rfl
 obtain⟨v,sa,fv,pr,vals,fig,i,hi,hf,rfl,rp,hd,OW,ok,bp,Og,lv,RA,po,w0,w1,q⟩:=h;have nd:=CN.nd;refine⟨_,[some v,some (.ref sa),some fv],(aw (aI (aD Ep (hr.mono (by first|decide|omega)) rfl T.jl.m T.jl.F.kp T.jl.b .nil aP (ae (sO T.kU eJ (hr.mono (by first|decide|omega)) rfl T.qc T.jc .nil aP (ae (pv 0) aj ah)) (ae (pv 1) (ae (pv 2) aj ah) ah) aY)))),rfl,?_⟩;walk_at "rd";intro p dx hp wM ne;have s1:ar H (upd (upd H dx (.own p)) p (.ins t.aS dx [])):=(ar.new wM _).trans (ar.new (by rw[aE ne.symm];exact hp) _);refine⟨p,dx,v,pr,rfl,aq,by rw[aE ne];exact aq,rp.mono s1,hd,OW,ok.pw,ok.nb,ok.i3,fun H2 u2 co=>⟨rfl,?_⟩⟩;have s2:ar H H2:=((aZ.of s1).trans u2).same hp;exact⟨p,sa,fv,pr,vals,fig,i,hi,hf,rfl,co,ok,bp,Og.mono s2,lv,RA,po,w0,w1,fun qa sv H3 s3 h1 h2=>q qa sv H3 (s2.trans s3) h1 h2⟩
theorem qi(T:Tx K mg t)(cI:bB P w K mg base eS 1 t.c0 t.cX ["body", "behind"] (nJ K))(cP:bB P w K mg base eS 7 t.bN t.bQ ["body"] (lg K 5))(uP:bB P w K mg base eS 8 t.nh t.lJ ["program"] (xo K)) :
 bB P w K mg base eS 11 t.ef t.fg ["program"] (DO K):=by
 have eJ:=iF (P:=P) (w:=w) (base:=base) T cI cP uP;refine T.c9.F.j4 jW (fun vs H Q E h=>?_) (fun eK A outer s H vs Q E hr h=>?_)
 ·obtain⟨_,_,rfl,_⟩:=h;rfl
 obtain⟨v,pr,rfl,rp,hd,OW,ok,q⟩:=h;have nd:=jW.nd;refine⟨_,[some v],(aw (aI (dW (sO T.kU eJ (hr.mono (by first|decide|omega)) rfl T.qc T.jc .nil aP (ae (pv 0) aj ah)) rfl))),rfl,?_⟩;walk_at "rd";intro p dx hp wM ne;have s1:ar H (upd (upd H dx (.own p)) p (.ins t.aS dx [])):=(ar.new wM _).trans (ar.new (by rw[aE ne.symm];exact hp) _);refine⟨p,dx,v,pr,rfl,aq,by rw[aE ne];exact aq,rp.mono s1,hd,OW,ok.pw,ok.nb,ok.i3,fun H2 u2 co=>⟨rfl,?_⟩⟩;have s2:ar H H2:=((aZ.of s1).trans u2).same hp;obtain⟨Iw,nl,sd,fa,K0,st,wy,uu,ws,h1,h2,h3,h4,h5,h6,_⟩:=co.at_;refine⟨p,_,Iw,_,.ref fa,rfl,h1,T.bG,T.du,rfl,q fa H2 s2 ⟨K0,.of h5,.of ?_⟩⟩;rw[zaN];exact h6
theorem xS(T:Tx K mg t):bB P w K mg base eS 11 t.iM t.i7 ["program", "row", "ranges"] (oW K):=by
 have g1:=hX (P:=P) (w:=w) (base:=base) T;have g2:=nQ (P:=P) (w:=w) (base:=base) T 5;have g3:=xP (P:=P) (w:=w) (base:=base) T;have eJ:=iF (P:=P) (w:=w) (base:=base) T g1 g2 g3;have rg:=uT (P:=P) (w:=w) (base:=base) T;refine T.dJ.F.j4 pV (fun vs H Q E h=>?_) (fun eK A outer s H vs Q E hr h=>?_)
 ·obtain⟨_,_,_,_,_,rfl,_⟩:=h;rfl
 obtain⟨LY,rv,pr,row,rs,rfl,hp,hd,hf,ok,Eo,ll,bp,q⟩:=h;have nd:=pV.nd;refine⟨_,[some LY,some (.int row),some rv],(aw (aI (aD rg (hr.mono (by first|decide|omega)) rfl T.fP.m T.fP.F.kp T.fP.b .nil aP (ae (sO T.kU eJ (hr.mono (by first|decide|omega)) rfl T.qc T.jc .nil aP (ae (pv 0) aj ah)) (ae (pv 1) (ae (pv 2) aj ah) ah) aY)))),rfl,?_⟩;walk_at "rd";intro p dx RG wM ne;have s1:ar H (upd (upd H dx (.own p)) p (.ins t.aS dx [])):=(ar.new wM _).trans (ar.new (by rw[aE ne.symm];exact RG) _);refine⟨p,dx,LY,pr,rfl,aq,by rw[aE ne];exact aq,hp.mono s1,hd,hf,ok.pw,ok.nb,ok.i3,fun H2 u2 co=>⟨rfl,?_⟩⟩;have s2:ar H H2:=((aZ.of s1).trans u2).same RG;refine⟨p,rv,pr,row,rs,rfl,co,ok,Eo.mono s2,ll,bp,?_⟩;rcases q with ⟨e,q⟩ |⟨n0,i,hi,Xb,er,po,w0,q⟩
 ·exact .inl ⟨e,fun L H3 s3 h3 y3=>q L H3 (s2.trans s3) (s2.free h3) y3⟩
 ·exact .inr ⟨n0,i,hi,Xb,er,po,w0,fun L us H3 s3 h3 y3 w3=>q L us H3 (s2.trans s3) (s2.free h3) y3 w3⟩
theorem sC(T:Tx K mg t):bB P w K mg base eS 1 t.fC t.gw ["chart"] (Hk K t.aS):=by
 refine T.eC.F.j4 l6 (fun vs H Q E h=>?_) (fun eK A outer s H vs Q E hr h=>?_)
 ·obtain⟨_,_,rfl,_⟩:=h;rfl
 obtain⟨ch,pr,rfl,co,i3,q⟩:=h;have nd:=l6.nd;refine⟨_,[some (.ref ch)],(aw (aI (c6 dN rfl T.jd PyProof.Rows.Boot.«tuple» (ae (fI (own:=["first"]) (ix:=[]) rfl (by rfl) (by rfl) (tG (aA ay (dW (pv 0) rfl) ai ag)) (fun _ _ _ _=>(bH (i:=0) (by show List.Nodup (["first"]:List Str);decide +kernel) rfl (zaq rfl))) (fun _ _ _ _=>gm) (fun _ _ _ _=>(bt (ae (pv 0) (ae (pv 0) aj ah) ah)))) aj iw)))),rfl,?_⟩;walk_at "rd";simp only[iH];walk_at "rd";obtain⟨Iw,nl,sd,fa,K0,st,wy,uu,ws,h1,h2,h3,h4,h5,h6,_⟩:=co.at_;refine⟨ch,_,Iw,_,.ref fa,rfl,h1,T.bG,T.du,rfl,?_⟩;walk_at "rd";refine aG (.of h5) (v:=.ref K0) (aC (j:=1) rfl) ⟨K0,rfl,⟨_,.of h6⟩,fun D hD=>?_⟩;have e6:(pr.av.map fun b=>V.int b.first).length=pr.av.length:=zae ..;refine wz (K:=K) (fun τ=>∃x,τ=[x]) (fun i ys H2=>∀j (hj:j<ys.length),∃r,(one (pr.av.map (·.first)))[j]?=some r/\cV K H2 ys[j] r) (.of h6) (by rw[e6];lia) hD ⟨none,rfl⟩ (fun j hj=>by simp at hj) ?_ ?_
 ·rintro i x ys τ H2 hx ⟨x0,rfl⟩ s2 Bx ly pv R hR
  rw[zah] at hx;obtain⟨b,hb,rfl⟩:=zaC.mp hx;walk_at "rd";intro p hp;have er:(one (pr.av.map (·.first)))[i]?=some (b.first,b.first):=by
   unfold one;rw[zah,zah,hb];rfl
  refine hR _ _ _ ⟨_,rfl⟩ (ar.new hp _) fun j hj=>?_;have HU:=ar.new hp (.tup [.int b.first,.int b.first]) _ _ Bx;have g3:cV K (upd H2 p (.tup [.int b.first,.int b.first])) (.ref p) (b.first,b.first):=cV.new rfl;by_cases z:j<ys.length
  ·obtain⟨r1,e1,g1⟩:=pv j z;refine⟨r1,e1,?_⟩;rw[zbd z];exact(g1.mono (ar.new hp _)).gC HU ((aZ.refl _ _).put _)
  ·have:j=ys.length:=by simp at hj;lia
   subst this;refine⟨_,by rw[ly];exact er,?_⟩;rw[zbl (zam _)];simp only[zco,zbW];exact g3.gC HU ((aZ.refl _ _).put _)
 ·intro ys H2 s2 Bx ly pv;refine⟨D,ys,rfl,.inl ⟨.of Bx,fun l hl=>q _ _ (s2.trans (ar.new hl _)) ⟨l,ys,rfl,.of aq,?_,fun j hj=>let ⟨r,er,g⟩:=pv j hj;⟨r,er,g.mono (ar.new hl _)⟩⟩⟩⟩;rw[ly,e6];unfold one;rw[zae,zae]
theorem Bz(T:Tx K mg t):bB P w K mg base eS 1 t.kS t.lN ["one", "other"] (Ky K):=by
 refine T.jk.F.j4 uG (fun vs H Q E h=>?_) (fun eK A outer s H vs Q E hr h=>?_)
 ·obtain⟨_,_,_,_,rfl,_⟩:=h;rfl
 obtain⟨v,u,ra,rb,rfl,hv,hu',ll,yj,q⟩:=h;have nd:=uG.nd;refine⟨_,[some v,some u],(aw (aI (c6 dN rfl T.jd PyProof.Rows.Boot.«tuple» (ae (fI (own:=["a", "b"]) (ix:=[]) rfl (by rfl) (by rfl) (GU rfl T.zO (ae (pv 0) (ae (pv 1) aj ah) ah)) (fun _ _ _ _=>(Kz (K:=K) rfl 2 rfl (iG (bH (i:=0) (by show List.Nodup (["a", "b"]:List Str);decide +kernel) rfl (zaq rfl)) (iG (bH (i:=1) (by show List.Nodup (["a", "b"]:List Str);decide +kernel) rfl (zaq rfl)) sM)))) (fun _ _ _ _=>gm) (fun _ _ _ _=>(bt (ae (bF (je rfl) rfl T.qd PyProof.Rows.Boot.«min» (ae (aA (cm (K:=K) rfl) (pv 0) ai ag) (ae (aA (cm (K:=K) rfl) (pv 1) ai ag) aj aL) aL)) (ae (bF (ko rfl) rfl T.rV PyProof.Rows.Boot.«max» (ae (aA (cm (K:=K) rfl) (pv 0) ai ag) (ae (aA (cm (K:=K) rfl) (pv 1) ai ag) aj aL) aL)) aj aY) aY)))) aj iw)))),rfl,?_⟩;walk_at "rd";simp only[iH];walk_at "rd";obtain⟨a,xs,rfl,ha,lx,gx⟩:=hv;obtain⟨b,ys,rfl,hb,ly,gy⟩:=hu';refine⟨a,b,rfl,⟨_,ha⟩,⟨_,hb⟩,fun D hD=>?_⟩;refine Hn (K:=K) (fun τ=>∃x y,τ=[x,y]) (fun i zs H2=>∀j (hj:j<zs.length),∃r,(mT ra rb)[j]?=some r/\cV K H2 zs[j] r) ha hb (by lia) (by lia) hD ⟨none,none,rfl⟩ (fun j hj=>by simp at hj) ?_ ?_
 ·rintro i x y zs τ H2 p hx hy ⟨x0,y0,rfl⟩ s2 Bx lz pv hp R hR
  obtain⟨hi,rfl⟩:=zal.mp hx;obtain⟨SV,rfl⟩:=zal.mp hy;obtain⟨r1,er1,a1,ex,h1⟩:=gx i hi;obtain⟨r2,er2,a2,ey,h2⟩:=gy i SV;have s3:=ar.new hp (.tup [xs[i],ys[i]]);refine⟨p,_,rfl,.of aq,rfl,?_⟩;generalize upd H2 p (.tup [xs[i],ys[i]])=H3 at *;have C3:=s2.trans s3;walk_at "rd";rw[ex,ey];refine⟨_,_,rfl,_,_,rfl,rfl,mJ (C3.bj h1) ?_⟩;refine mJ (C3.bj h2) ?_;refine⟨_,_,rfl,?_⟩;refine mK (C3.bj h1) ?_;refine mK (C3.bj h2) ?_;refine⟨_,_,rfl,fun p5 V0=>?_⟩;have ea:(if r2.1<r1.1 then r2.1 else r1.1)=min r1.1 r2.1:=by split<;>lia
  have eb:(if r2.2>r1.2 then r2.2 else r1.2)=max r1.2 r2.2:=by split<;>lia
  rw[ea,eb];have er:(mT ra rb)[i]?=some (min r1.1 r2.1,max r1.2 r2.2):=by
   unfold mT;have ez:(ra.zip rb)[i]?=some (r1,r2):=zbK.mpr ⟨er1,er2⟩;rw[zah,ez];rfl
  refine hR _ _ _ ⟨_,_,rfl⟩ (s3.trans (ar.new V0 _)) fun j hj=>?_;have HU:=ar.new V0 (.tup [.int (min r1.1 r2.1),.int (max r1.2 r2.2)]) _ _ (s3 _ _ Bx);have g3:cV K (upd H3 p5 (.tup [.int (min r1.1 r2.1),.int (max r1.2 r2.2)])) (.ref p5) (min r1.1 r2.1,max r1.2 r2.2):=cV.new rfl;by_cases z:j<zs.length
  ·obtain⟨r1,e1,g1⟩:=pv j z;refine⟨r1,e1,?_⟩;rw[zbd z];exact(g1.mono (s3.trans (ar.new V0 _))).gC HU ((aZ.refl _ _).put _)
  ·have:j=zs.length:=by simp at hj;lia
   subst this;refine⟨_,by rw[lz];exact er,?_⟩;rw[zbl (zam _)];simp only[zco,zbW];exact g3.gC HU ((aZ.refl _ _).put _)
 ·intro zs H2 s2 Bx lz pv;refine⟨D,zs,rfl,.inl ⟨.of Bx,fun l hl=>q _ _ (s2.trans (ar.new hl _)) ⟨l,zs,rfl,.of aq,?_,fun j hj=>let ⟨r,er,g⟩:=pv j hj;⟨r,er,g.mono (ar.new hl _)⟩⟩⟩⟩;rw[lz,span_len ll];lia
theorem sD(T:Tx K mg t):bB P w K mg base eS 12 t.fA t.gp ["program"] (Hl K):=by
 have g1:=hX (P:=P) (w:=w) (base:=base) T;have g2:=nQ (P:=P) (w:=w) (base:=base) T 5;have g3:=xP (P:=P) (w:=w) (base:=base) T;have eJ:=iF (P:=P) (w:=w) (base:=base) T g1 g2 g3;have rg:=uT (P:=P) (w:=w) (base:=base) T;have uU:=sC (P:=P) (w:=w) (base:=base) T;have Er:=Bz (P:=P) (w:=w) (base:=base) T;refine T.eA.F.j4 l3 (fun vs H Q E h=>?_) (fun eK A outer s H vs Q E hr h=>?_)
 ·obtain⟨_,_,rfl,_⟩:=h;rfl
 obtain⟨LY,pr,rfl,rp,sd,q⟩:=h;have nd:=l3.nd;have hu:=gd hr;have dr:=sd.dr;have ok:=dr.ok;have line:zdu=2 ^ 24:=rfl;refine⟨_,[some LY,none,none,none,none,none,none,none],(ao (aQ (i:=1) nd rfl (zaq rfl) (sO T.kU eJ (hr.mono (by first|decide|omega)) rfl T.qc T.jc .nil aP (ae (pv 0) aj ah)))
 (ao (aQ (i:=2) nd rfl (zaq rfl) (Jj (Fv (aA ay (dW (pv 1) rfl) ai ag) (aD uU (hr.mono (by first|decide|omega)) rfl T.eC.m T.eC.F.kp T.eC.b .nil aP (ae (pv 1) aj ah)) Ji) rfl rfl (by simp) (by decide)))
 (ao (aQ (i:=3) nd rfl (zaq rfl) (bJ (ae (aA ay (dW (pv 1) rfl) ai ag) aj aL)))
 (ao (E5 PassesOwn.never (yC (pv 3) (fun _=>rfl))
 (ao (aQ (i:=4) nd rfl (zaq rfl) (xh zaA zbZ zb0 AM (pv 3)))
 (aw (jo PassesOwn.never rfl (fG (aD rg (hr.mono (by first|decide|omega)) rfl T.fP.m T.fP.F.kp T.fP.b .nil aP (ae (pv 1) (ae (pv 4) (ae (cf hu (pv 2) (pv 4) (fun _ _=>rfl)) aj aL) ah) ah))) (bH (i:=5) nd rfl (zaq rfl))
 (ao (aQ (i:=6) nd rfl (zaq rfl) (Fx hu (pv 2) (aA ay (pv 5) ai ag) ⟨rfl,rfl,rfl,rfl⟩))
 (ao (aQ (i:=7) nd rfl (zaq rfl) (tw (aK AA (pv 6) gA (aO _)) (aA ay (pv 5) ai ag) (aD Er (hr.mono (by first|decide|omega)) rfl T.jk.m T.jk.F.kp T.jk.b .nil aP (ae (pv 6) (ae (aA ay (pv 5) ai ag) aj aL) ah))))
 (aw (bo (aK (M6 (Ql hr)) (pv 7) (pv 6) (aO _))
 (ao (kZ hu (pv 2) (aA ay (pv 5) ai ag) (pv 7) rfl)
 (aw (e7 (lT zaA zaJ zaK eQ (pv 3) (ae (aA ay (pv 5) ai ag) aj aL)))))
 aR))))))))
 (aw (aI (bF (xy rfl) rfl T.uJ PyProof.Rows.Boot.«sorted» (ae (Ea (pv 2)) aj aY)))))))),rfl,?_⟩
 refine aB fun U1 gN=>?_;walk_at "rd";intro ch dx RG wM ne;have s1:ar H (upd (upd H dx (.own ch)) ch (.ins t.aS dx [])):=(ar.new wM _).trans (ar.new (by rw[aE ne.symm];exact RG) _);refine⟨ch,dx,LY,pr,rfl,aq,by rw[aE ne];exact aq,rp.mono s1,dr.dep,dr.i3,ok.pw,ok.nb,ok.i3,fun H2 u2 co=>⟨rfl,(gN _ _).mpr (aB fun U2 jm=>?_)⟩⟩;clear gN;have s2:ar H H2:=((aZ.of s1).trans u2).same RG;clear s1 u2;walk_at "rd";unfold Lk tS;walk_at "rd";intro F hF;have e3:=ar.new hF (.dK []);have yF:(upd H2 F (.dK [])) F=some (.dK []):=aq;have V9:=co.mono e3;generalize upd H2 F (.dK [])=H3 at *;obtain⟨Iw,nl,Yc,fa,K0,st,wy,uu,ws,h1,h2,h3,h4,h5,h6,_⟩:=V9.at_;refine⟨ch,_,Iw,_,.ref fa,rfl,h1,T.bG,T.du,rfl,?_⟩;refine aG (.of h5) (v:=.int (PG.aW pr.body 0)) (aC (j:=0) rfl) ⟨ch,pr,rfl,V9,ok.i3,fun rv H4 s4 r4=>?_⟩;unfold tS;refine⟨s4 _ _ yF,[(.inl (PG.aW pr.body 0),rv)],rfl,by simp,?_⟩;rw[show iU [] [((.inl (PG.aW pr.body 0):Key),rv)]=[(PG.aW pr.body 0,rv)].map kI from rfl];have Yp:=s4 _ _ yF;have r5:dO K (upd H4 F (.dK ([(PG.aW pr.body 0,rv)].map kI))) rv _:=r4.dk Yp ((aZ.refl _ _).put _);have s5:ar H2 (upd H4 F (.dK ([(PG.aW pr.body 0,rv)].map kI))):=((aZ.of (e3.trans s4)).put _).same hF;have Wa:(upd H4 F (.dK ([(PG.aW pr.body 0,rv)].map kI))) F=_:=aq;generalize upd H4 F (.dK ([(PG.aW pr.body 0,rv)].map kI))=H5 at *;clear h1 h2 h3 h4 h5 h6 V9 Yp yF e3 s4 r4;refine(jm _ _).mpr (aB fun U3 ke=>?_);clear jm;have Yq:=co.mono s5;obtain⟨Iw,nl,Yc,fa,K0,st,wy,uu,ws,h1,h2,h3,h4,h5,h6,_⟩:=Yq.at_;walk_at "rd";refine⟨ch,_,Iw,_,.ref fa,rfl,h1,T.bG,T.du,rfl,?_⟩;refine aG (.of h5) (v:=.int (PG.aW pr.body 0)) (aC (j:=0) rfl) fun W hW=>(ke _ _).mpr (aB fun U4 lP=>?_);clear ke h1 h2 h3 h4 h5 h6 Yq;have e6:=ar.new hW (.lst [V.int (PG.aW pr.body 0)]);have yW:(upd H5 W (.lst [V.int (PG.aW pr.body 0)])) W=some (.lst ([PG.aW pr.body 0].map V.int)):=aq;have Yr:=e6 _ _ Wa;have r6:=r5.mono e6;have s6:=s5.trans e6;have fW:H2 W=none:=s5.free hW;have Wb:F≠W:=aH Wa hW;generalize upd H5 W (.lst [V.int (PG.aW pr.body 0)])=H6 at *;clear Wa r5 s5 e6 hW;obtain⟨f,hf⟩:∃f:List PG.Rg->Nat,f=fun rs=>1+Am rs:=⟨_,rfl⟩
 obtain⟨MX,Wc,MXl⟩:∃MX:Nat,((PG.ax pr.body).length+1)*37=MX/\MX<=1517:=⟨_,rfl,by have:=sd.len;lia⟩
 refine Nk fun Bd We=>?_;walk_at "rd";obtain⟨Iv,Bq⟩:∃Iv:Nat->St->Hp->Prop,∀m σ Hx,Iv m σ Hx↔∃(z4 z5 z6 z7:Option V) (kvs:List (Int×V)) (mm:List (Int×List PG.Rg)) (w:List Int),σ=[some LY,some (.ref ch),some (.ref F),some (.ref W),z4,z5,z6,z7]/\ar H2 Hx/\Hx F=some (.dK (kvs.map kI))/\Hx W=some (.lst (w.map V.int))/\RelM K Hx kvs mm/\LI pr mm w/\m=2*(MX-j6 f mm)+w.length:=⟨_,fun _ _ _=>Iff.rfl⟩
 refine⟨Iv,⟨_,(Bq _ _ _).mpr ⟨none,none,none,none,_,[(PG.aW pr.body 0,one (pr.av.map (·.first)))],[PG.aW pr.body 0],rfl,s6,Yr,yW,.cons ⟨rfl,r6⟩ .nil,LI.one dr.size (rO pr),rfl⟩⟩,?_⟩;clear r6 s6 Yr yW;intro m σ Hx hv;obtain⟨z4,z5,z6,z7,kvs,mm,w,rfl,sx,RH,OX,rel,li,rfl⟩:=(Bq _ _ _).mp hv;clear hv;have i3:=li.lm.i3 sd.i3 dr.size;rw[<- hf,Wc] at i3;have lw:=li.lm.many;rw[<- hf] at lw;walk_at "rd";rcases List.eq_nil_or_concat w with rfl |⟨w1,r,rfl⟩
 ·refine⟨false,.inl ⟨_,.of OX,rfl⟩,(if_neg (by decide)).mpr ((lP _ _).mpr ?_)⟩;clear lP We Bq;walk_at "rd";unfold QZ;walk_at "rd";have lk:kvs.length=mm.length:=by have:=congrArg zaV rel.keys;rwa [zae,zae] at this
  have l40:=sd.len;have nmm:kvs≠[]:=fun z=>by
   obtain⟨u,e,_⟩:=li.lm.first;rw[z] at lk;rw[zbT.mp lk.symm] at e;cases e
  refine⟨F,_,rfl,RH,fun pv Ys=>⟨pv,F,kvs,rfl,aq,(ar.new Ys _) _ _ RH,nmm,by lia,fun L pj ps H9 s9 hL pm pw pa yL=>?_⟩⟩;have sn:=ar.new Ys (.ext (sV pv F));have Yt:=s2.trans (sx.trans sn);exact q L ps pj kvs mm H9 (Yt.trans s9) (Yt.free hL) yL pa pm pw (rel.mono fun v rs h=>h.mono (sn.trans s9)) li
 ·rw[List.concat_eq_append] at *;refine⟨true,.inl ⟨_,.of OX,by simp⟩,(if_pos rfl).mpr ⟨fun σ' H'=>∃m',m'<2*(MX-j6 f mm)+(w1++[r]).length/\Iv m' σ' H',fun _ _ h=>h,We _ _ _ ?_⟩⟩;clear We lP;refine aB fun V1 LQ=>?_;walk_at "rd";rw[zax] at OX;refine⟨.inl ⟨rfl,_,.of OX⟩,W,_,.int r,rfl,rfl,OX,by simp,(LQ _ _).mpr ?_⟩;clear LQ;rw[show (w1.map V.int++[r].map V.int).dropLast=w1.map V.int by simp];have k7:∀v rs,dO K Hx v rs->dO K (upd Hx W (.lst (w1.map V.int))) v rs:=fun v rs h=>h.gC OX ((aZ.refl _ _).put _);have Wf:(upd Hx W (.lst (w1.map V.int))) F=_:=(aE Wb).trans RH;have Yu:(upd Hx W (.lst (w1.map V.int))) W=_:=aq;have s7:ar H2 (upd Hx W (.lst (w1.map V.int))):=((aZ.of sx).put _).same fW;have RI:=rel.mono k7;generalize upd Hx W (.lst (w1.map V.int))=H7 at *;obtain⟨rs,er⟩:=li.lm.wait r (by simp);obtain⟨vj,uk,ek,Yv,rsa⟩:∃v u,bU kvs r=some v/\bU mm r=some u/\dO K H7 v u:=by
   rcases RI.get r with h |h
   ·rw[er] at h;cases h.2
   ·exact h
  rw[er] at Yv;cases Yv;have EL:=(li.lm.Cz _ (get_mem er)).1;have rsd:=EL.Xr dr.size;have lj:=li.pop er;have ll:rs.length=pr.av.length:=EL.bd.1;have vk:cB (kvs.map kI) (.inl r)=some vj:=by rw[xD];exact ek
  refine kA fun U hU=>?_;walk_at "rd";have loop:∀(L:zdm) (us:List V) (iW:List (Int×List PG.Rg)) (H8:Hp),ar H7 H8->H7 L=none->H8 L=some (.lst us)->jy K H8 us iW->(∀p∈iW,jz pr.av p.2/\OL pr p.1)->(∀(i:Nat) (hi:i<(PG.ax pr.body).length) (hf:i<(PG.aF pr.body 0).length),(PG.ax pr.body)[i].row=r->PG.eF pr.av rs (PG.aF pr.body 0)[i].2.2 (PG.ax pr.body)[i]=iW)->U L H8:=by
   intro L us iW H8 s8 hL yL wo UK hw;refine hU _ _ ?_;clear hU;have nLF:L≠F:=(aH Wf hL).symm;have nLW:L≠W:=(aH Yu hL).symm;have vv:=wo.len;obtain⟨Pv,vD⟩:∃Pv:Nat->St->Hp->Prop,∀j σ Hy,Pv j σ Hy↔∃(z5 z6 z7:Option V) (sE:List (Int×V)) (m2:List (Int×List PG.Rg)) (w2:List Int),σ=[some LY,some (.ref ch),some (.ref F),some (.ref W),some (.int r),z5,z6,z7]/\ar H2 Hy/\Hy L=some (.lst us)/\Hy F=some (.dK (sE.map kI))/\Hy W=some (.lst (w2.map V.int))/\RelM K Hy sE m2/\jy K Hy us iW/\LJ pr r rs (iW.take j) m2 w2/\2*(MX-j6 f m2)+w2.length<=2*(MX-j6 f mm)+w1.length:=⟨_,fun _ _ _=>Iff.rfl⟩
   refine km (K:=K) (a:=L) (xs:=us) Pv ((vD _ _ _).mpr ⟨_,_,_,kvs,mm,w1,rfl,s7.trans s8,yL,s8 _ _ Wf,s8 _ _ Yu,RI.mono fun v rs h=>h.mono s8,wo,lj,zam _⟩) ?_ ?_ ?_
   ·intro j σ Hy hj hv;obtain⟨_,_,_,_,_,_,_,_,h,_⟩:=(vD _ _ _).mp hv;exact .of h
   ·intro j x σ Hy hx hv;obtain⟨z5,z6,z7,sE,m2,w2,rfl,sy,Wg,OY,SW,Es,SX,LZ,Yw⟩:=(vD _ _ _).mp hv;clear hv;obtain⟨wq,Oj,a1,u1,rfl,hT,hR⟩:=SX.get hx;have tk:iW.take (j+1)=iW.take j++[wq]:=by rw[zcE,Oj];rfl
    obtain⟨Wh,knq⟩:=UK wq (zaG Oj);have Wi:=LZ.lm.i3 sd.i3 dr.size;rw[<- hf,Wc] at Wi;have VU:=LZ.lm.many;rw[<- hf] at VU;have Yx:sE.length=m2.length:=by have:=congrArg zaV Es.keys;rwa [zae,zae] at this
    have l40:=sd.len;have RD:∀ {H':Hp} {Q':VK},bS K H' a1 [.int wq.1,u1]->Q' (.int wq.1) H'->w9 K (.ref a1) (.int 0) H' Q':=fun h q=>aG h (v:=.int wq.1) (aC (j:=0) rfl) q;have Ao:∀ {H':Hp} {Q':VK},bS K H' a1 [.int wq.1,u1]->Q' u1 H'->w9 K (.ref a1) (.int 1) H' Q':=fun h q=>aG h (v:=u1) (aC (j:=1) rfl) q;refine aB fun V2 LR=>?_;walk_at "rd";unfold Fw;walk_at "rd";refine⟨.inl ⟨_,.inl OY⟩,RD hT ⟨_,ia.k (k:=.inl wq.1) OY,(LR _ _).mpr (aB fun V3 LS=>?_)⟩⟩;clear LR;rw[xD];have fin:∀(Hz:Hp) (both before:V) (vb:List PG.Rg) (ob:Option (List PG.Rg)),ar Hy Hz->dO K Hz both vb->pO K Hz before ob->bU m2 wq.1=ob->jz pr.av vb->Sub wq.2 vb->(∀u,ob=some u->Sub u vb)->V3 [some LY,some (.ref ch),some (.ref F),some (.ref W),some (.int r),some (.ref a1),some before,some both] Hz:=by
     intro Hz both before vb ob sz rb ro eo inv RJ Wj;refine(LS _ _).mpr ?_;clear LS;refine Cu fun UB KO=>?_;walk_at "rd";refine⟨_,_,rb.rep,ro.rep,LL _,Q8 _,?_⟩;rw[NR];refine⟨_,rfl,?_⟩;by_cases z:some vb=ob
     ·rw[decide_eq_true z];refine(if_neg (by decide)).mpr ((vD _ _ _).mpr ⟨_,_,_,sE,m2,w2,rfl,sy.trans sz,sz _ _ Wg,sz _ _ OY,sz _ _ SW,Es.mono fun v rs h=>h.mono sz,SX.map fun v w h=>h.mono sz,?_,Yw⟩);rw[tk];exact LZ.skip (by rw[eo,<- z]) RJ
     ·rw[decide_eq_false z];refine(if_pos (by decide)).mpr ((KO _ _).mpr ?_);clear KO;have Yy:=sz.bj hT;have RK:=sz _ _ OY;have yWz:=sz _ _ SW;have yLz:=sz _ _ Wg;obtain⟨Yz,lt⟩:=LZ.put inv knq RJ fun u e=>⟨Wj u (by rw[<- eo];exact e),fun y=>z (by rw[<- y,<- eo,e])⟩
      rw[<- hf] at lt;have Wk:=Yz.lm.i3 sd.i3 dr.size;rw[<- hf,Wc] at Wk;refine aB fun V4 RL=>?_;walk_at "rd";refine RD Yy ⟨F,_,rfl,vq.k (k:=.inl wq.1) RK (by rw[zae];lia),(RL _ _).mpr ?_⟩;clear RL;rw[NS];have u8:aZ F Hz (upd Hz F (.dK ((gS sE wq.1 both).map kI))):=(aZ.refl _ _).put _;have OZ:(upd Hz F (.dK ((gS sE wq.1 both).map kI))) F=_:=aq;have SY:=u8 _ _ Wb.symm yWz;have yL9:=u8 _ _ nLF yLz;have hT9:=Yy.dk RK u8;have Wl:=(((Es.mono fun v rs h=>h.mono sz).mono fun v rs h=>h.dk RK u8).put (k:=wq.1) (rb.dk RK u8))
      have wo9:=(SX.map fun v w h=>h.mono sz).map fun v w h=>h.dk RK u8;have s9:ar H2 (upd Hz F (.dK ((gS sE wq.1 both).map kI))):=((aZ.of (sy.trans sz)).put _).same hF;generalize upd Hz F (.dK ((gS sE wq.1 both).map kI))=H9 at *;walk_at "rd";refine⟨.inl ⟨rfl,_,.of SY⟩,RD hT9 ⟨W,_,_,rfl,rfl,SY,by rw[zae];lia,?_⟩⟩;have uK:aZ W H9 (upd H9 W (.lst (w2.map V.int++[V.int wq.1]))):=(aZ.refl _ _).put _;refine(vD _ _ _).mpr ⟨_,_,_,gS sE wq.1 both,gS m2 wq.1 vb,w2++[wq.1],rfl,((aZ.of s9).put _).same fW,uK _ _ nLW yL9,uK _ _ Wb OZ,?_,Wl.mono fun v rs h=>h.gC SY uK,wo9.map fun v w h=>h.gC SY uK,?_,?_⟩
      ·rw[aq,zax];rfl
      ·rw[tk];exact Yz
      ·rw[zap,zaY];lia
    rcases Es.get wq.1 with ⟨ek,em⟩ |⟨v9,u9,ek,em,r9⟩
    ·rw[ek];walk_at "rd";refine Ao hT ?_;exact fin Hy u1 .bO wq.2 none (ar.refl _) hR rfl em Wh (Sub.refl _) fun u e=>by cases e
    ·rw[ek];have Wm:=(LZ.lm.Cz _ (get_mem em)).1;have l9:u9.length=wq.2.length:=Wm.bd.1.trans Wh.bd.1.symm;have n9:v9≠.bO:=fun z=>by obtain⟨_,_,e,_⟩:=r9;rw[z] at e;cases e
     walk_at "rd";refine(if_neg n9).mpr (Ao hT ⟨v9,u1,u9,wq.2,rfl,r9,hR,l9,by rw[Wm.bd.1];exact ok.i3,fun v' YA YB r8'=>?_⟩);exact fin YA v' v9 _ (some u9) YB r8' (show dO K YA v9 u9 from r9.mono YB) em (Ku Wm Wh) (NN l9) fun u e=>by cases e;exact NM l9
   ·intro σ Hy hv;obtain⟨z5,z6,z7,sE,m2,w2,rfl,sy,Wg,OY,SW,Es,SX,LZ,Yw⟩:=(vD _ _ _).mp hv;rw[vv,zbQ] at LZ;refine⟨_,?_,(Bq _ _ _).mpr ⟨_,_,_,_,sE,m2,w2,rfl,sy,OY,SW,Es,LZ.done hw,rfl⟩⟩;rw[zap,zaY];lia
  clear hU;refine⟨F,vj,rfl,?_,ch,vj,pr,r,rs,rfl,co.mono s7,ok,rsa,ll,?_,?_⟩
  ·rw[<- vk];exact ia.k (k:=.inl r) Wf
  ·intro b hb;have:=dr.size b hb;lia
  ·rcases(li.lm.Cz _ (get_mem er)).2 with e0 |⟨st0,Ez,QX⟩
   ·have e0:r=0:=e0;refine .inl ⟨e0,fun L H8 s8 hL yL=>⟨L,rfl,⟨_,.of yL⟩,loop L [] [] H8 s8 hL yL .nil (fun p hp=>by cases hp) fun i hi hf e=>?_⟩⟩;have:=ok.pos _ (zao hi);lia
   ·have QX:st0.row=r:=QX;obtain⟨i,hi,rfl⟩:=za6.mp Ez;have OW:i<(PG.aF pr.body 0).length:=by
     have:=(vw pr.body 0).length;lia
    have own:=PG.iy pr.body _ dr.own (zao hi);have LN:=Paired.G4 (vw pr.body 0) (zab hi) (zab OW);refine .inr ⟨?_,i,hi,OW,QX,Hm own rsd,zI LN,fun L us H8 s8 hL yL wo=>⟨L,rfl,⟨_,.of yL⟩,loop L us _ H8 s8 hL yL wo (fun p hp=>⟨wG EL ok.nb own (fun b hb=>by have:=dr.size b hb;lia) p hp,Ef p hp⟩) fun i2 SV hf2 e=>?_⟩⟩
    ·have:=ok.pos _ (zao hi);lia
    ·have:i2=i:=by
      have pw:=ok.pw;rw[zbb] at pw;rcases zcC i2 i with h |h |h
      ·have:=pw i2 i SV hi h;lia
      ·exact h
      ·have:=pw i i2 hi SV h;lia
     subst this;rfl
theorem xT(T:Tx K mg t){n:Nat}(nE:bB P w K mg base eS n t.fD t.fN ["body", "row"] (xG K n)) :
 bB P w K mg base eS (n+1) t.fD t.fN ["body", "row"] (xG K (n+1)):=by
 refine T.dM.F.j4 pZ (fun vs H Q E h=>?_) (fun eK A outer s H vs Q E hr h=>?_)
 ·obtain⟨_,_,_,rfl,_⟩:=h;rfl
 obtain⟨b,body,k,rfl,rb,dep,i3,q⟩:=h;have nd:=pZ.nd;refine⟨_,[some (.ref b),some (.int k),none,none],(ao (jo PassesOwn.never rfl (fG (pv 0)) (bH (i:=2) nd rfl (zaq rfl))
 (ao (bo (aK bL (aA ay (pv 2) ai ag) (pv 1) (aO _))
 (aw (aI (fH bL (aA ay (pv 2) ai ag) bw (aO _))))
 aR)
 (aw (jo PassesOwn.never rfl (tG (pC JS (pv 2) (sQ ai) sP)) (bH (i:=3) nd rfl (zaq rfl))
 (aw (bo (PW.pt (pw_and (aK qy (aA ay (pv 2) ai ag) (bJ (eT (vs:=[.str "if",.str "while"]) (by kernel_rfl))) rfl) (pw_and1 (gO (aD nE (hr.mono (by first|decide|omega)) rfl T.dM.m T.dM.F.kp T.dM.b .nil aP (ae (pv 3) (ae (pv 1) aj ah) ah))))))
 (aw (aI rz))
 aR))))))
 (aw (aI rz))),rfl,?_⟩
 obtain⟨_,xs,eB,hb,YC⟩:=Rep.bE.mp rb;cases eB;have lx:xs.length=body.length:=by rw[YC.length,zae]
 refine aB fun U1 gN=>?_;refine kA fun U hU=>?_;walk_at "rd";refine⟨⟨_,hb⟩,hU _ _ ?_⟩;clear hU;obtain⟨Pv,vD⟩:∃Pv:Nat->St->Hp->Prop,∀i σ Hx,Pv i σ Hx↔∃(z2 z3:Option V),σ=[some (.ref b),some (.int k),z2,z3]/\ar H Hx/\ib (body.drop i) k=ib body k:=⟨_,fun _ _ _=>Iff.rfl⟩
 refine km (K:=K) (a:=b) (xs:=xs) Pv ((vD _ _ _).mpr ⟨none,none,rfl,ar.refl _,rfl⟩) ?_ ?_ ?_
 ·intro i σ Hx hi hv;obtain⟨_,_,_,sx,_⟩:=(vD _ _ _).mp hv;exact sx.seq hb
 ·intro i x σ Hx hx hv;obtain⟨z2,z3,rfl,sx,ea⟩:=(vD _ _ _).mp hv;have li:i<body.length:=by have:=(zal.mp hx).1;lia
  obtain⟨v1,RM,vj⟩:=YC.get (i:=i) (d:=dY body[i]) (by rw[zah,zab li];rfl);rw[hx] at RM;cases RM;replace vj:=vj.mono sx;rw[zb7 li] at ea;have mem:=zao li;obtain⟨dS,fS⟩:=CL mem;generalize body[i]=st at *;obtain⟨sa,w0,ys,rfl,hS,EL,ew,hw⟩:=Eh vj;rw[ib] at ea;refine aB fun U2 jm=>?_;walk_at "rd";refine aG hS (v:=.int st.row) (aC (j:=1) rfl) ?_;refine⟨rfl,cM (fun e=>?_) (fun e=>?_)⟩
  ·have e:st.row=k:=by injection e
   rw[if_pos e] at ea;refine aG hS (v:=.str w0) (aC (j:=0) rfl) ⟨rfl,?_⟩;have:=q Hx sx;rw[<- ea,<- ew] at this;have e2:decide (V.str w0=V.str (zac "ask"))=decide (w0 = "ask"):=by
    by_cases z:w0 = "ask"
    ·rw[z];rw[decide_eq_true rfl,decide_eq_true rfl]
    ·rw[decide_eq_false z,decide_eq_false fun y=>z (by injection y)]
   rw[e2];exact this
  ·have e:st.row≠k:=fun z=>e (by rw[z]);rw[if_neg e,Ht] at ea;refine(jm _ _).mpr ?_;clear jm;refine Ge fun U hU=>?_;walk_at "rd";refine⟨_,rfl,sa,_,rfl,hS,fun pc H2 s2 RN=>⟨pc,rfl,⟨_,RN⟩,hU _ _ ?_⟩⟩;clear hU;rw[show (5:Int)=((5:Nat):Int) from rfl,GX] at RN;replace RN:bS K H2 pc (ys.drop 3):=RN;have SS:(ys.drop 3).length=(Ap st).length:=by rw[EL.length,zae]
   obtain⟨Pw,C0⟩:∃Pw:Nat->St->Hp->Prop,∀j σ Hy,Pw j σ Hy↔∃(z3:Option V),σ=[some (.ref b),some (.int k),some (.ref sa),z3]/\ar H2 Hy/\((Ap st).take j).any (fun b=>ib b k)=false:=⟨_,fun _ _ _=>Iff.rfl⟩
   refine IW (K:=K) (a:=pc) (xs:=ys.drop 3) Pw ((C0 _ _ _).mpr ⟨_,rfl,ar.refl _,by simp⟩) ?_ ?_ ?_
   ·intro j σ Hy hj hv;obtain⟨_,_,sy,_⟩:=(C0 _ _ _).mp hv;exact sy.bj RN
   ·intro j x σ Hy hx hv;obtain⟨z3,rfl,sy,en⟩:=(C0 _ _ _).mp hv;have lj:j<(Ap st).length:=by have:=(zal.mp hx).1;lia
    obtain⟨v1,RM,vj⟩:=EL.get (i:=j) (d:=.lst ((Ap st)[j].map dY)) (by rw[zah,zab lj];rfl);rw[hx] at RM;cases RM;have mb:=zao lj;obtain⟨dj,fj⟩:=KC _ mb;obtain⟨lb,lxs,rfl,_⟩:=Rep.bE.mp vj;have wif:=hw (List.ne_nil_of_mem mb);refine Cu fun UB KO=>?_;walk_at "rd";refine aG ((s2.trans sy).bj hS) (v:=.str w0) (aC (j:=0) rfl) fun p3 IH=>⟨p3,_,rfl,.inl (.of aq),rfl,rfl,_,rfl,(if_pos ?_).mpr ?_⟩
    ·rcases wif with rfl |rfl<;>decide +kernel
    have s3:=ar.new IH (.lst [V.str (zac "if"),V.str (zac "while")]);generalize upd Hy p3 (.lst [V.str (zac "if"),V.str (zac "while")])=H3 at *;have tk:((Ap st).take (j+1)).any (fun b=>ib b k)=ib (Ap st)[j] k:=by
     rw[zcE,zab lj,zcY,en];simp
    refine⟨lb,(Ap st)[j],k,rfl,((vj.mono s2).mono sy).mono s3,by lia,by lia,fun H4 s4=>⟨_,rfl,?_⟩⟩;cases ht:ib (Ap st)[j] k with
    |true=>
     refine(if_pos rfl).mpr ((KO _ _).mpr ?_);clear KO;walk_at "rd";have:=q H4 (sx.trans (s2.trans (sy.trans (s3.trans s4))));rw[<- ea] at this;have e1:(Ap st).any (fun b=>ib b k)=true:=zbB.mpr ⟨_,mb,ht⟩;rw[e1] at this;exact this
    |false=>exact(if_neg (by decide)).mpr ((C0 _ _ _).mpr ⟨_,rfl,sy.trans (s3.trans s4),by rw[tk,ht]⟩)
   ·intro σ Hy hv;obtain⟨z3,rfl,sy,en⟩:=(C0 _ _ _).mp hv;rw[SS,zbQ] at en;rw[en,zcw] at ea;exact(vD _ _ _).mpr ⟨_,_,rfl,sx.trans (s2.trans sy),ea⟩
 ·intro σ Hx hv;obtain⟨z2,z3,rfl,sx,ea⟩:=(vD _ _ _).mp hv;refine(gN _ _).mpr ?_;walk_at "rd";rw[lx,zcL] at ea;have:=q Hx sx;rw[<- ea] at this;exact this
theorem zX(T:Tx K mg t):∀n,bB P w K mg base eS n t.fD t.fN ["body", "row"] (xG K n)
 |0=>by
  have no:∀vs H Q E,¬xG K 0 vs H Q E:=fun vs H Q E h=>by obtain⟨_,_,_,_,_,h,_⟩:=h;lia
  exact⟨fun vs H Q E h=>absurd h (no vs H Q E),fun A outer s H args us vs Q E _ _ _ _ h=>absurd h (no vs H Q E)⟩
 |n+1=>xT T (zX T n)
theorem jK(T:Tx K mg t):bB P w K mg base eS 1 t.gi t.hJ ["ranges", "values"] (Hs K):=by
 refine T.bA.F.j4 m9 (fun vs H Q E h=>?_) (fun eK A outer s H vs Q E hr h=>?_)
 ·obtain⟨_,_,_,_,rfl,_⟩:=h;rfl
 obtain⟨rv,va,rs,vals,rfl,Eo,wN,ll,yj,q⟩:=h;have nd:=m9.nd;refine⟨_,[some rv,some (.ref va)],(aw (aI (fH (kB (gd hr)) (fI (own:=["k"]) (ix:=[0,1]) rfl (by rfl) (by rfl) (vO rfl T.nP (ae (bF cD rfl T.l7 PyProof.Rows.Boot.«len» (ae (pv 1) aj ah)) aj aY)) (fun _ _ _ _=>(bH (i:=0) (by show List.Nodup (["k", "ranges", "values"]:List Str);decide +kernel) rfl (zaq rfl))) (fun _ _ _ _=>(B5 (PW.pt (pw_or (aK og (aA (cm (K:=K) rfl) (pv 2) (pv 0) nG) (aA (cm (K:=K) rfl) (aA (cm (K:=K) rfl) (pv 1) (pv 0) nG) ai ag) (aO _)) (pw_or1 (aK yA (aA (cm (K:=K) rfl) (pv 2) (pv 0) nG) (aA (cm (K:=K) rfl) (aA (cm (K:=K) rfl) (pv 1) (pv 0) nG) ai ag) (aO _))))))) (fun _ _ _ _=>(pv 0))) (bJ aj) (aO _)))),rfl,?_⟩;walk_at "rd";simp only[iH];walk_at "rd";obtain⟨ra,us,rfl,OU,lu,gu⟩:=Eo;have lv:(vals.map V.int).length=vals.length:=zae ..;refine⟨va,_,rfl,.inr wN,?_⟩;rw[lv];refine⟨_,rfl,by lia,by lia,fun D hD=>?_⟩;rw[zbI];refine zJ (fun τ=>∃x,τ=[x,some (.ref ra),some (.ref va)]) ((zaz vals.length).map fun k=>V.int (k:Nat)) (Bl rs vals) ?_ ?_ ?_ (by simp;lia) hD ⟨none,rfl⟩ ?_ ?_
 ·intro i H2 s2 h;have hi:i<vals.length:=by simpa using h
  exact hi
 ·intro H2 s2;simp[yv]
 ·intro i H2 x H3 s2 h y;obtain⟨e1,e2⟩:=y;have hi:i<vals.length:=by simpa using h
  exact⟨e1,by rw[zah,zbR hi,e2];simp⟩
 ·rintro i x τ H2 hx ⟨x0,rfl⟩ s2 R hR
  have hi:i<vals.length:=by have:=(zal.mp hx).1;simpa using this
  rw[zah,zbR hi] at hx;cases hx;obtain⟨r,er,a1,ea,h1⟩:=gu i (by lia);have gv:(vals.map V.int)[i]?=some (.int vals[i]):=by rw[zah,zab hi];rfl
  have YD:i<us.length:=by lia
  have eo:Bl rs vals i=(decide (vals[i]<r.1) ||decide (r.2<vals[i])):=by
   unfold Bl;rw[zaf,zab hi,zaf,er];rfl
  have fin:∀b,b=Bl rs vals i->R [some (V.int i),some (.ref ra),some (.ref va)] b H2:=fun b e=>by
   rw[e];exact hR _ _ ⟨_,rfl⟩ (ar.refl _) ⟨.int i,fun R' h=>h⟩
  walk_at "rd";refine aG (s2.bj wN) (v:=.int vals[i]) (aC gv) ?_;refine aG (s2.bj OU) (v:=us[i]) (aC (zab YD)) ?_;rw[ea];refine mJ (s2.bj h1) ?_;refine⟨_,_,rfl,rfl,_,rfl,?_⟩;by_cases z:vals[i]<r.1
  ·rw[decide_eq_true z];exact(if_pos rfl).mpr (fin _ (by rw[eo,decide_eq_true z];rfl))
  ·rw[decide_eq_false z];refine(if_neg (by decide)).mpr ?_;refine aG (s2.bj wN) (v:=.int vals[i]) (aC gv) ?_;refine aG (s2.bj OU) (v:=us[i]) (aC (zab YD)) ?_;rw[ea];refine mK (s2.bj h1) ?_;refine⟨_,_,rfl,rfl,_,rfl,fin _ ?_⟩;rw[eo,decide_eq_false z];rfl
 ·intro ys H2 s2 yD ly;rw[zae,zbu] at ly;refine fun p hp=>⟨D,p,ys,rfl,rfl,.of (ar.new hp _ _ _ yD),.of aq,q _ _ (s2.trans (ar.new hp _)) ?_⟩
  rw[<- xF ll,<- ly];cases ys<;>simp
theorem zY(T:Tx K mg t):bB P w K mg base eS 2 t.jH t.jZ ["ways", "standing"] (NU K):=by
 have eY:=jK (P:=P) (w:=w) (base:=base) T;refine T.eI.F.j4 rT (fun vs H Q E h=>?_) (fun eK A outer s H vs Q E hr h=>?_)
 ·obtain⟨_,_,_,_,_,_,rfl,_⟩:=h;rfl
 obtain⟨L,sa,us,iW,row,vals,rfl,yL,wo,l2,⟨va,C2,wN⟩,yj,lq,q⟩:=h;have nd:=rT.nd;refine⟨_,[some (.ref L),some (.ref sa)],(aw (aI (fI (own:=["way"]) (ix:=[1]) rfl (by rfl) (by rfl) (fG (pv 0)) (fun _ _ _ _=>(bH (i:=0) (by show List.Nodup (["way", "standing"]:List Str);decide +kernel) rfl (zaq rfl))) (fun _ _ _ _=>(B5 (PW.pt (pw_and (aK bL (aA (cm (K:=K) rfl) (pv 0) ai ag) (aA (cm (K:=K) rfl) (pv 1) ai ag) (aO _)) (pw_and1 (gO (aD eY (hr.mono (by first|decide|omega)) rfl T.bA.m T.bA.F.kp T.bA.b .nil aP (ae (aA (cm (K:=K) rfl) (pv 0) ai ag) (ae (aA (cm (K:=K) rfl) (pv 1) ai ag) aj aL) aL)))))))) (fun _ _ _ _=>(pv 0))))),rfl,?_⟩;walk_at "rd";simp only[iH];walk_at "rd";have vv:=wo.len;refine⟨⟨_,.of yL⟩,fun D hD=>?_⟩;obtain⟨p,hp⟩:∃p:Nat->Bool,∀j,p j=true↔∃w,iW[j]?=some w/\w.1=row/\gR w.2 vals:=⟨fun j=>@decide _ (Classical.propDecidable (∃w,iW[j]?=some w/\w.1=row/\gR w.2 vals)),fun j=>by simp⟩
 refine zJ (J:=EA K L) (fun τ=>∃x,τ=[x,some (.ref sa)]) us p (fun i H2 s2 h=>⟨us,us[i],s2.seq (.of yL),by simp[h]⟩) (fun H2 s2=>⟨us,s2.seq (.of yL),zam _⟩) (fun i H2 x H3 s2 h y=>⟨y.1,y.2 _ (s2.seq (.of yL))⟩) (by lia) hD ⟨none,rfl⟩ ?_ ?_
 ·rintro i x τ H2 hx ⟨x0,rfl⟩ s2 R hR
  obtain⟨wq,Oj,a1,u1,rfl,hT,hRs⟩:=wo.get hx;have lw:=lq wq (zaG Oj);walk_at "rd";refine aG (s2.bj hT) (v:=.int wq.1) (aC (j:=0) rfl) ?_;refine aG (s2.bj C2) (v:=.int row) (aC (j:=0) rfl) ?_;refine⟨rfl,cM (fun e=>?_) (fun e=>?_)⟩
  ·have e:wq.1=row:=by injection e
   refine aG (s2.bj hT) (v:=u1) (aC (j:=1) rfl) ?_;refine aG (s2.bj C2) (v:=.ref va) (aC (j:=1) rfl) ⟨u1,va,wq.2,vals,rfl,hRs.mono s2,s2.bj wN,lw,yj,fun b H3 s3 hb=>⟨b,rfl,?_⟩⟩;have eb:b=p i:=za0.mpr (hb.trans ⟨fun h=>(hp i).mpr ⟨wq,Oj,e,h⟩,fun h=>by
    obtain⟨w',e',_,h'⟩:=(hp i).mp h;rw[Oj] at e';cases e';exact h'⟩)
   rw[eb];exact hR _ _ ⟨_,rfl⟩ s3 ⟨_,fun R' h=>h⟩
  ·have eb:false=p i:=by
    cases h:p i with
    |false=>rfl
    |true=>
     obtain⟨w',e',e2,h'⟩:=(hp i).mp h;rw[Oj] at e';cases e';exact absurd (by rw[e2]) e
   rw[eb];exact hR _ _ ⟨_,rfl⟩ (ar.refl _) ⟨_,fun R' h=>h⟩
 ·intro ys H2 s2 yD ly;refine q D ys H2 s2 yD fun ⟨wq,hwq,e1,e2⟩ z=>?_;rw[z] at ly;obtain⟨j,hj⟩:=zbr hwq;have lj:=(zal.mp hj).1;have hm:j∈(zaz us.length).filter p:=by
   rw[zcV,zbz];exact⟨by lia,(hp j).mpr ⟨wq,hj,e1,e2⟩⟩
  rw[zbT.mp ly.symm] at hm;cases hm
theorem pf(T:Tx K mg t):bB P w K mg base eS 13 t.dH t.eG ["program", "known", "standing", "behind", "asks"] (zL K):=by
 have rW:=xS (P:=P) (w:=w) (base:=base) T;have eY:=jK (P:=P) (w:=w) (base:=base) T;have uV:=zY (P:=P) (w:=w) (base:=base) T;refine T.cL.F.j4 jD (fun vs H Q E h=>?_) (fun eK A outer s H vs Q E hr h=>?_)
 ·obtain⟨_,_,_,_,_,_,_,_,_,_,_,_,rfl,_⟩:=h;rfl
 obtain⟨O0,bv,kn,sa,pr,m,i,hi,hf,vals,rs,fig,rfl,rp,sd,⟨kvs,YE,kng⟩,⟨va,C2,wN⟩,lv,sm,er,EL,hold,O3,q⟩:=h;have nd:=jD.nd;have hu:=gd hr;have dr:=sd.dr;have ok:=dr.ok;have own:=PG.iy pr.body _ dr.own (zao hi);have LN:=Paired.G4 (vw pr.body 0) (zab hi) (zab hf);have hr0:=ok.pos _ (zao hi);have Rb:∀b∈pr.av,0<b.size/\b.size<=1000:=fun b hb=>by have:=dr.size b hb;lia
 have Ii:=sd.i3;refine⟨_,[some O0,some (.ref kn),some (.ref sa),some bv,some (.bl (decide ((PG.ax pr.body)[i].wd=.ask))),none,none,none,none],(ao (qt (pv 2) (wY rfl (iG (bH (i:=5) nd rfl (zaq rfl)) (iG (bH (i:=6) nd rfl (zaq rfl)) sM))))
 (ao (bo (PW.pt (pw_or (Mj (Du hu (pv 5) (pv 1))) (pw_or1 (Au (gO (aD eY (hr.mono (by first|decide|omega)) rfl T.bA.m T.bA.F.kp T.bA.b .nil aP (ae (cf hu (pv 1) (pv 5) (fun _ _=>rfl)) (ae (pv 6) aj ah) aL)))))))
 (aw (aI rz))
 aR)
 (ao (aQ (i:=7) nd rfl (zaq rfl) (aD rW (hr.mono (by first|decide|omega)) rfl T.dJ.m T.dJ.F.kp T.dJ.b .nil aP (ae (pv 0) (ae (pv 5) (ae (c6 dN rfl T.jd PyProof.Rows.Boot.«tuple» (ae (fI (own:=["value"]) (ix:=[]) rfl (by rfl) (by rfl) (tG (pv 6)) (fun _ _ _ _=>(bH (i:=0) (by show List.Nodup (["value"]:List Str);decide +kernel) rfl (zaq rfl))) (fun _ _ _ _=>gm) (fun _ _ _ _=>(bt (ae (pv 0) (ae (pv 0) aj ah) ah)))) aj iw)) aj aY) ah) ah)))
 (ao (bo (aK AA (pv 3) gA (aO _))
 (aw (aI (fH (kB (gd hr)) (pv 7) (bJ aj) (aO _))))
 aR)
 (ao (bo (PW.pt (pw_or (aK (kB (gd hr)) (aD uV (hr.mono (by first|decide|omega)) rfl T.eI.m T.eI.F.kp T.eI.b .nil aP (ae (aD rW (hr.mono (by first|decide|omega)) rfl T.dJ.m T.dJ.F.kp T.dJ.b .nil aP (ae (pv 0) (ae (pv 5) (ae (cf hu (pv 1) (pv 5) (fun _ _=>rfl)) aj aL) ah) ah)) (ae (pv 3) aj ah) aY)) (bJ aj) (aO _)) (pw_or1 (aK (kB (gd hr)) (aD uV (hr.mono (by first|decide|omega)) rfl T.eI.m T.eI.F.kp T.eI.b .nil aP (ae (pv 7) (ae (pv 3) aj ah) ah)) (bJ aj) (aO _)))))
 (aw (aI rz))
 aR)
 (ao (aQ (i:=8) nd rfl (zaq rfl) (c6 dN rfl T.jd PyProof.Rows.Boot.«tuple» (ae (fI (own:=["value"]) (ix:=[]) rfl (by rfl) (by rfl) (tG (aA ay (pv 3) ai ag)) (fun _ _ _ _=>(bH (i:=0) (by show List.Nodup (["value"]:List Str);decide +kernel) rfl (zaq rfl))) (fun _ _ _ _=>gm) (fun _ _ _ _=>(bt (ae (pv 0) (ae (pv 0) aj ah) ah)))) aj iw)))
 (aw (aI (Av (fH bL (bF cD rfl T.l7 PyProof.Rows.Boot.«len» (ae (pv 7) aj ah)) ai (aO _)) (wX (Pg (pv 4) (wX (fH (M5 (Ql hr)) (pv 7) (bJ (ae (bt (ae (aA ay (pv 3) ai ag) (ae (pv 8) aj ah) aL)) aj oN)) (aO _)))))))))))))),rfl,?_⟩
 have L0:∀(H':Hp) (Q':VK) (E':XK) (rv:V) (uk:List PG.Rg),ar H H'->dO K H' rv uk->QT pr.av uk->(∀L us S0,ar H' S0->H' L=none->S0 L=some (.lst us)->jy K S0 us (PG.eF pr.av uk (PG.aF pr.body 0)[i].2.2 (PG.ax pr.body)[i])->Q' (.ref L) S0)->oW K [O0,.int (PG.ax pr.body)[i].row,rv] H' Q' E':=by
  intro H' Q' E' rv uk s' Eo hd k';exact⟨O0,rv,pr,_,uk,rfl,rp.mono s',dr.dep,dr.i3,ok,Eo,hd.1,Rb,.inr ⟨by lia,i,hi,hf,rfl,Hm own hd,zI LN,k'⟩⟩
 have L1:=fun {r':List PG.Rg} (h:gR r' vals) {x:Int×List Int} (e:(fc pr.av (PG.ax pr.body)[i] (PG.aF pr.body 0)[i].2.2 vals fig).1=some x)=>CH (fig:=fig) h lv ok.nb own (fun b hb=>(Rb b hb).1) LN e;have ones:=fun (ne:(PG.ax pr.body)[i].wd≠.ask)=>G7 (fig:=fig) lv ok.nb own LN ne;generalize (PG.ax pr.body)[i].row=row at *;refine aB fun U1 gN=>?_;walk_at "rd";refine⟨sa,_,rfl,C2,rfl,?_⟩;walk_at "rd";refine⟨_,_,rfl,_,_,rfl,rfl,(gN _ _).mpr (aB fun U2 jm=>?_)⟩;clear gN;obtain⟨vj,YF,YG⟩:=kng _ _ er;walk_at "rd";unfold B3;walk_at "rd";have YH:ia H kn (.int row) (some vj):=by rw[<- YF];exact ia.k (k:=.inl row) YE
 refine⟨kn,some vj,rfl,YH,?_⟩;refine⟨kn,vj,rfl,YH,vj,va,rs,vals,rfl,YG,wN,lv.trans EL.bd.1.symm,by lia,fun b H2 s2 hb=>⟨b,rfl,?_⟩⟩;rw[hb.mpr hold];refine(if_neg (by decide)).mpr ((jm _ _).mpr (aB fun U3 ke=>?_));clear jm hb;walk_at "rd";simp only[iH];walk_at "rd";refine⟨va,rfl,⟨_,s2.bj wN⟩,fun D hD=>?_⟩;have YI:(vals.map V.int).length=vals.length:=zae ..;have L4:∀(H0:Hp) (D va:zdm) (vals:List Int) (Q':VK),bS K H0 va (vals.map V.int)->vals.length<=10->H0 D=none->(∀l H2,ar H0 H2->dO K H2 (.ref l) (one vals)->Q' (.ref l) H2)->lU (E7 K va) D (jn 0) rZ (MA (BX (fY 0) (BX (fY 0) Mz))) (fun x H1=>∃p ys,[x]=[V.ref p]/\((fF K H1 p ys/\∀(l:zdm),H1 l=none->Q' (V.ref l) (upd H1 l (HO.tup ys)))\/bS K H1 p ys/\Q' (V.ref p) H1)) [none] (upd H0 D (.lst [])):=by
  intro H0 D va vals Q' hv yj hD k';have YI:(vals.map V.int).length=vals.length:=zae ..;refine wz (K:=K) (fun τ=>∃x,τ=[x]) (fun i ys H2=>∀j (hj:j<ys.length),∃r,(one vals)[j]?=some r/\cV K H2 ys[j] r) hv (by lia) hD ⟨none,rfl⟩ (fun j hj=>by simp at hj) ?_ ?_
  ·rintro i x ys τ H2 hx ⟨x0,rfl⟩ s2 Bx ly Wn R hR
   rw[zah] at hx;obtain⟨b,hb,rfl⟩:=zaC.mp hx;walk_at "rd";intro p hp;have er:(one vals)[i]?=some (b,b):=by
    unfold one;rw[zah,hb];rfl
   refine hR _ _ _ ⟨_,rfl⟩ (ar.new hp _) fun j hj=>?_;have HU:=ar.new hp (.tup [.int b,.int b]) _ _ Bx;have g3:cV K (upd H2 p (.tup [.int b,.int b])) (.ref p) (b,b):=cV.new rfl;by_cases z:j<ys.length
   ·obtain⟨r1,e1,g1⟩:=Wn j z;refine⟨r1,e1,?_⟩;rw[zbd z];exact(g1.mono (ar.new hp _)).gC HU ((aZ.refl _ _).put _)
   ·have:j=ys.length:=by simp at hj;lia
    subst this;refine⟨_,by rw[ly];exact er,?_⟩;rw[zbl (zam _)];simp only[zco,zbW];exact g3.gC HU ((aZ.refl _ _).put _)
  ·intro ys H2 s2 Bx ly Wn;refine⟨D,ys,rfl,.inl ⟨.of Bx,fun l hl=>k' l _ (s2.trans (ar.new hl _)) ⟨l,ys,rfl,.of aq,?_,fun j hj=>let ⟨r,er,g⟩:=Wn j hj;⟨r,er,g.mono (ar.new hl _)⟩⟩⟩⟩;rw[ly,YI];unfold one;rw[zae]
 have RO:QT pr.av (one vals):=⟨by unfold one;rw[zae];exact lv,fun r hr=>by
  unfold one at hr;obtain⟨v,hv,rfl⟩:=zaF.mp hr;have:=sm v hv;simp only;lia⟩
 refine L4 _ _ _ _ (fun x H1=>oW K [O0,V.int row,x] H1 (fun x H1=>U3 [some O0,some (V.ref kn),some (V.ref sa),some bv,some (V.bl (decide ((PG.ax pr.body)[i].wd=PG.Wd.ask))),some (V.int row),some (V.ref va),some x,none] H1) E0) (s2.bj wN) (by lia) hD fun l H3 s3 r3=>?_;have ON:=s2.trans s3;refine L0 _ _ _ _ _ ON r3 RO fun L us H4 s4 hL yL wo=>(ke _ _).mpr (aB fun U4 lP=>?_);clear ke;have RQ:=ON.trans s4;have vv:=wo.len;have RR:jz pr.av (one vals):=by
  refine⟨⟨RO.1,fun j r b e1 e2=>?_⟩,fun r hr=>?_⟩
  ·unfold one at e1;rw[zah] at e1;obtain⟨v,hv,rfl⟩:=zaC.mp e1;have hj:j<rs.length:=by rw[EL.bd.1];exact(zal.mp e2).1
   have h1:=hold.2 j v _ hv (zab hj);have h2:=EL.bd.2 j _ b (zab hj) e2;unfold L2.In at h1;unfold xA at h2 ⊢;simp only;lia
  ·unfold one at hr;obtain⟨v,hv,rfl⟩:=zaF.mp hr;exact zaI _
 have stn:(fc pr.av (PG.ax pr.body)[i] (PG.aF pr.body 0)[i].2.2 vals fig).1=none->(PG.ax pr.body)[i].wd≠.ask:=by
  intro e;cases Ez:(PG.ax pr.body)[i] with
  |ask k b=>rw[Ez] at e;cases e
  |_=>intro z;cases z
 have RT:∀r',jz pr.av r'->∀p∈PG.eF pr.av r' (PG.aF pr.body 0)[i].2.2 (PG.ax pr.body)[i],p.2.length=pr.av.length:=fun r' h p hp=>(wG h ok.nb own (fun b hb=>(Rb b hb).1) p hp).bd.1;have RU:∀x,(fc pr.av (PG.ax pr.body)[i] (PG.aF pr.body 0)[i].2.2 vals fig).1=some x->x.2.length=pr.av.length:=fun x e=>(xr.step dr hi hf lv (fun v hv=>by have:=sm v hv;lia) (x:=x) (s:=(fc pr.av (PG.ax pr.body)[i] (PG.aF pr.body 0)[i].2.2 vals fig).2) (by rw[<- e])).len;have Wo:(PG.ax pr.body)[i].wd=.ask->(PG.eF pr.av (one vals) (PG.aF pr.body 0)[i].2.2 (PG.ax pr.body)[i]).length=1:=by
  intro e;cases Ez:(PG.ax pr.body)[i] with
  |ask k b=>rfl
  |_=>rw[Ez] at e;cases e
 generalize YJ:(fc pr.av (PG.ax pr.body)[i] (PG.aF pr.body 0)[i].2.2 vals fig).1=so at *;walk_at "rd";cases so with
 |none=>
  have eb:bv=.bO:=O3;refine(if_pos eb).mpr fun p hp=>?_;rw[ones (stn rfl)] at wo;have e0:us=[]:=by cases wo;rfl
  subst e0;exact⟨L,p,[],rfl,rfl,.of (ar.new hp _ _ _ yL),.of aq,q _ (RQ.trans (ar.new hp _))⟩
 |some x=>
  obtain⟨ba,rfl,RV⟩:=O3;refine(if_neg (by intro z;cases z)).mpr ((lP _ _).mpr (aB fun U5 sr=>?_));clear lP;have lx:=RU x rfl;have w1:=L1 hold rfl;have w2:=L1 (kH vals) rfl;walk_at "rd";refine⟨kn,vj,rfl,?_,L0 _ _ _ vj rs RQ (YG.mono RQ) (EL.Xr dr.size) fun L5 us5 H5 s5 hL5 yL5 VZ=>?_⟩
  ·rw[<- YF];exact ia.k (k:=.inl row) (RQ _ _ YE)
  have YK:=RQ.trans s5;refine⟨L5,ba,us5,_,x.1,x.2,rfl,yL5,VZ,zi _ _ _ _,RV.mono YK,by lia,fun p hp=>lx.trans (RT _ EL p hp).symm,fun L6 Wq H6 s6 yL6 ne6 p7 hp7=>?_⟩;have s7:=ar.new hp7 (.lst []);refine⟨L6,p7,Wq,rfl,rfl,.of (s7 _ _ yL6),.of aq,?_⟩;have n6:Wq.isEmpty=false:=by
   cases Wq with
   |nil=>exact absurd rfl (ne6 w1)
   |cons _ _=>rfl
  rw[n6];have YL:=YK.trans (s6.trans s7);have Wr:=s5.trans (s6.trans s7);generalize upd H6 p7 (.lst [])=H7 at *;refine(if_neg (by decide)).mpr ⟨L,ba,us,_,x.1,x.2,rfl,Wr _ _ yL,wo.map fun v w h=>h.mono Wr,zi _ _ _ _,RV.mono YL,by lia,fun p hp=>lx.trans (RT _ RR p hp).symm,fun L8 Ws H8 s8 yL8 ne8 p9 HE=>?_⟩;have s9:=ar.new HE (.lst []);refine⟨L8,p9,Ws,rfl,rfl,.of (s9 _ _ yL8),.of aq,?_⟩;have n8:Ws.isEmpty=false:=by
   cases Ws with
   |nil=>exact absurd rfl (ne8 w2)
   |cons _ _=>rfl
  rw[n8];have YM:=YL.trans (s8.trans s9);have s49:=Wr.trans (s8.trans s9);generalize upd H8 p9 (.lst [])=H9 at *;refine(if_neg (by decide)).mpr ((sr _ _).mpr (aB fun U6 Ar=>?_));clear sr;obtain⟨YN,EE,YO⟩:=RV.mono YM;walk_at "rd";simp only[iH];walk_at "rd";unfold IV;walk_at "rd";refine aG EE (v:=.ref YN) (aC (j:=1) rfl) ?_;refine⟨YN,rfl,⟨_,YO⟩,fun D2 Bx=>?_⟩;refine L4 _ _ _ _ (fun y H1=>U6 [some O0,some (V.ref kn),some (V.ref sa),some (V.ref ba),some (V.bl (decide ((PG.ax pr.body)[i].wd=PG.Wd.ask))),some (V.int row),some (V.ref va),some (V.ref L),some y] H1) YO (by lia) Bx fun yj zP Bv LW=>(Ar _ _).mpr ?_;clear Ar;have RW:=s49.trans Bv;have RX:=wo.map fun v w h=>h.mono RW;have RY:=RW _ _ yL;have RZ:=YM.trans Bv;have Wt:=Bv.bj EE;walk_at "rd";have l1:us.length=1:=by
   by_cases z:(PG.ax pr.body)[i].wd=.ask
   ·rw[vv,Wo z]
   ·rw[vv,ones z];rfl
  refine⟨L,us,rfl,.inl (.of RY),?_⟩;rw[l1];refine(if_pos rfl).mpr (cM (fun z=>q _ RZ) (fun z=>?_));rw[ones z] at RX;refine aG Wt (v:=.int x.1) (aC (j:=0) rfl) ?_;intro Ej HI HJ Br;have tm:=ar.new HI (.tup [V.int x.1,V.ref yj]);have Ro:(upd zP Ej (.tup [V.int x.1,V.ref yj])) Ej=_:=aq;generalize upd zP Ej (.tup [V.int x.1,V.ref yj])=IK at *;have zQ:=ar.new Br (.lst [V.ref Ej]);have KN:(upd IK HJ (.lst [V.ref Ej])) HJ=_:=aq;have Wu:=zQ _ _ Ro;generalize upd IK HJ (.lst [V.ref Ej])=EJ at *;have C5:=tm.trans zQ;have r1:Rep K EJ (.lst ([(x.1,one x.2)].map Bc)) (.ref L):=Rep.bE.mpr ⟨L,us,rfl,.of (C5 _ _ RY),(RX.map fun v w h=>h.mono C5).rep⟩;have r2:Rep K EJ (.lst ([(x.1,one x.2)].map Bc)) (.ref HJ):=Rep.bE.mpr ⟨HJ,_,rfl,.of KN,.cons (Rep.a0.mpr ⟨Ej,_,rfl,.of Wu,.cons (Rep.bg.mpr rfl) (.cons (LW.mono C5).rep .nil)⟩) .nil⟩;refine⟨_,_,r1,r2,LB _,LB _,?_⟩;rw[eqv_refl];exact q _ (RZ.trans C5)
theorem Ol(T:Tx K mg t):bB P w K mg base eS 30 t.CO t.qR ["script"] (Cf K):=by
 have g1:=hX (P:=P) (w:=w) (base:=base) T;have g2:=nQ (P:=P) (w:=w) (base:=base) T 5;have g3:=xP (P:=P) (w:=w) (base:=base) T;have aX:=fU (P:=P) (w:=w) (K:=K) (base:=base) T;have hV:=kc (P:=P) (w:=w) (K:=K) (base:=base) T;have xU:=vB (P:=P) (w:=w) (K:=K) (base:=base) T;have zZ:=xM (P:=P) (w:=w) (K:=K) (base:=base) T;have uW:=sD (P:=P) (w:=w) (base:=base) T;have rh:=qi (P:=P) (w:=w) (base:=base) T g1 g2 g3;have Om:=K3 (P:=P) (w:=w) (base:=base) T g1 g2 g3;have nE:=zX (P:=P) (w:=w) (base:=base) T 5;have eY:=jK (P:=P) (w:=w) (base:=base) T;have qj:=pf (P:=P) (w:=w) (base:=base) T;refine T.CQ.F.j4 HB (fun vs H Q E h=>?_) (fun eK A outer s H vs Q E hr h=>?_)
 ·obtain⟨_,_,rfl,_⟩:=h;rfl
 obtain⟨a,ns,rfl,hS,Wv,q⟩:=h;have nd:=HB.nd;have hu:=gd hr;have line:zdu=2 ^ 24:=rfl;refine⟨_,[some (V.ref a),none,none,none,none,none,none,none,none,none],(ao (aQ (i:=1) nd rfl (zaq rfl) (aD xU (hr.mono (by first|decide|omega)) rfl T.fR.m T.fR.F.kp T.fR.b .nil aP (ae (pv 0) aj ah)))
 (ao (aQ (i:=2) nd rfl (zaq rfl) (bt (ae (pv 1) (ae (aD zZ (hr.mono (by first|decide|omega)) rfl T.gM.m T.gM.F.kp T.gM.b .nil aP (ae (pv 0) (ae (pv 1) aj ah) ah)) aj aY) ah)))
 (ao (aQ (i:=3) nd rfl (zaq rfl) (c6 (lA rfl) rfl T.pd PyProof.Rows.Boot.«dict» (ae (aD uW (hr.mono (by first|decide|omega)) rfl T.eA.m T.eA.F.kp T.eA.b .nil aP (ae (pv 2) aj ah)) aj aY)))
 (ao (aQ (i:=4) nd rfl (zaq rfl) (aD rh (hr.mono (by first|decide|omega)) rfl T.c9.m T.c9.F.kp T.c9.b .nil aP (ae (pv 2) aj ah)))
 (ao (Jl (i:=5) nd rfl (zaq rfl) (own:=["k"]) (ix:=[0]) rfl (by rfl) (by rfl) (vP rfl T.nP (eT (vs:=[.int 26,.int 56]) (by kernel_rfl))) (fun _ _ _ _=>(bH (i:=0) (by show List.Nodup (["k", "script"]:List Str);decide +kernel) rfl (zaq rfl))) (fun _ _ _ _=>gm) (fun _ _ _ _=>(aD aX (hr.mono (by first|decide|omega)) rfl T.au.m T.au.F.kp T.au.b .nil aP (ae (aD hV (hr.mono (by first|decide|omega)) rfl T.bZ.m T.bZ.F.kp T.bZ.b .nil aP (ae (pv 1) (ae (pv 0) aj ah) ah)) (ae ai aj bf) aY))))
 (ao (jo PassesOwn.never rfl (vO rfl T.nP (ae ai aj bf)) (bH (i:=6) nd rfl (zaq rfl))
 (ao (bo (aK bL (aA ay (pv 4) ai ag) ai (aO _))
 (aw (aI (Av (EU (Ft hu ai (pv 3))) (wX (aD eY (hr.mono (by first|decide|omega)) rfl T.bA.m T.bA.F.kp T.bA.b .nil aP (ae (cf hu (pv 3) ai (fun _ _=>rfl)) (ae (aA ay (pv 4) ai ag) aj aL) aL))))))
 aR)
 (ao (aQ (i:=7) nd rfl (zaq rfl) (aD nE (hr.mono (by first|decide|omega)) rfl T.dM.m T.dM.F.kp T.dM.b .nil aP (ae (aA ay (pv 2) ai ag) (ae (aA ay (pv 4) ai ag) aj aL) aL)))
 (ao (aQ (i:=8) nd rfl (zaq rfl) gA)
 (ao (bo (PW.pt (pw_and (gO (pv 7)) (pw_and1 (aK (kB (gd hr)) (pv 5) (bJ aj) (aO _)))))
 (aw (aI (Av (EU (Ft hu (aA ay (pv 4) ai ag) (pv 3))) (wX (aD eY (hr.mono (by first|decide|omega)) rfl T.bA.m T.bA.F.kp T.bA.b .nil aP (ae (cf hu (pv 3) (aA ay (pv 4) ai ag) (fun _ _=>rfl)) (ae (aA ay (pv 4) ai ag) aj aL) aL))))))
 aR)
 (ao (bo (gO (pv 7))
 (aw (aQ (i:=8) nd rfl (zaq rfl) (lT zaA zbZ zb0 Fo (pv 5) (ae ai aj bf))))
 aR)
 (ao (aQ (i:=9) nd rfl (zaq rfl) (aA ay (aD Om (hr.mono (by first|decide|omega)) rfl T.qT.m T.qT.F.kp T.qT.b .nil aP (ae (pv 2) (ae (pv 4) (ae (pv 8) aj ah) ah) ah)) ai ag))
 (ao (bo (Au (gO (aD qj (hr.mono (by first|decide|omega)) rfl T.cL.m T.cL.F.kp T.cL.b .nil aP (ae (pv 2) (ae (pv 3) (ae (pv 4) (ae (pv 9) (ae (pv 7) aj ah) ah) ah) ah) ah))))
 (aw (aI rz))
 aR)
 (ao (bo (aK AA (pv 9) gA (aO _))
 (aw (aI rz))
 aR)
 (aw (aQ (i:=4) nd rfl (zaq rfl) (pv 9))))))))))))
 (aw (aI rz)))))))),rfl,?_⟩
 refine aB fun U1 gN=>?_;walk_at "rd";refine⟨a,ns,rfl,hS,Wv,fun B bs H1 s1 hB rB bk=>(gN _ _).mpr (aB fun U2 jm=>?_)⟩;clear gN;have Ii:=bk.i3;walk_at "rd";refine⟨a,B,ns,bs,rfl,s1.seq hS,Wv,rB,Ii,fun R body H2 s2 hR rR zk pp EK=>(jm _ _).mpr (aB fun U3 ke=>?_)⟩;clear jm;have e3:=ar.new EK (.tup [V.ref B,V.ref R]);have y3:(upd H2 pp (.tup [V.ref B,V.ref R])) pp=_:=aq;have rp:Rep K (upd H2 pp (.tup [V.ref B,V.ref R])) (j5 ⟨bs,body⟩) (.ref pp):=Rep.a0.mpr ⟨pp,_,rfl,.of y3,.cons ((rB.mono s2).mono e3) (.cons (rR.mono e3) .nil)⟩;have s3:=s1.trans (s2.trans e3);have YQ:=rR.mono e3;generalize upd H2 pp (.tup [V.ref B,V.ref R])=H3 at *;have rise:(PG.ax body).Pairwise (fun a b=>a.row<b.row):=zaX.mp zk.rise;have R0:(PG.ax body).length<=25:=by
  have:=PG.uv zk.rise zk.rows;unfold PG.cK at this;rw[zae] at this;lia
 have X9:(PG.dQ body).length=(PG.ax body).length:=by rw[<- PG.fJ,zae]
 have ok:pL ⟨bs,body⟩:=⟨rise,bk.nb,by show bs.length<=10;lia,fun st Ez=>by
  have:=(zk.rows st.row (zaF.mpr ⟨st,Ez,rfl⟩)).1;lia⟩
 have dr:vt ⟨bs,body⟩:=⟨ok,zk.dep,by show (PG.dQ body).length<=1000;lia,zk.ok,bk.size⟩
 have sd:NT ⟨bs,body⟩:=⟨dr,Ii,by show (PG.ax body).length<=40;lia⟩
 have rR4:Rep K H3 (.lst ((PG.Prog.mk bs body).body.map dY)) (.ref R):=YQ;have YR:(PG.ax (PG.Prog.mk bs body).body).length<=25:=R0;have Ww:(PG.Prog.mk bs body).av.length<=4:=Ii;clear rise zk bk e3 rB rR YQ R0 X9 Ii;generalize PG.Prog.mk bs body=pr at *;walk_at "rd";refine⟨.ref pp,pr,rfl,rp,sd,fun L ps pj kvs m H4 s4 hL yL pa pm pw rel li=>?_⟩;obtain⟨Z,z1,z2,z3,z4⟩:=Ei (K:=K) pa;have Yx:pj.length<=26:=by
  have h1:=pm.length_eq;have h2:=congrArg zaV rel.keys;rw[zae,zae] at h2;have h3:=(li.lm.i3 Ww dr.size).1;lia
 refine⟨L,Z,rfl,by rw[z1];exact .of yL,z2,by lia,fun kn Wx=>?_⟩;rw[z3,lQ (Q9 pw)];have kw:zK K (upd H4 kn (.dK (pj.map kI))) kn m:=⟨_,aq,fun k u hk=>let ⟨v,h1,h2⟩:=Ra rel pm pw hk;⟨v,h1,h2.mono (ar.new Wx _)⟩⟩
 have s5:=s4.trans (ar.new Wx (.dK (pj.map kI)));generalize upd H4 kn (.dK (pj.map kI))=H5 at *;clear z1 z2 z3 z4 Yx pa pm pw rel yL hL s4 Wx;refine(ke _ _).mpr (aB fun U4 lP=>?_);clear ke;walk_at "rd";refine⟨.ref pp,pr,rfl,rp.mono s5,dr.dep,dr.i3,ok,fun sa H6 s6 st6=>(lP _ _).mpr (aB fun U5 sr=>?_)⟩;clear lP;have S1:=s5.trans s6;have s06:=s3.trans S1;have YS:=kw.mono s6;have hd6:=vz.first li;walk_at "rd";simp only[iH];walk_at "rd";refine⟨26,56,rfl,⟨by decide,by decide,by decide,by decide⟩,fun Fg YT=>?_⟩;rw[show ((56:Int)-26).toNat=30 from rfl];show lU (yv 26 30) Fg (jn 0) rZ _ _ [none,some (.ref a)] _;refine ze (J:=yv 26 30) (fun τ=>∃x,τ=[x,some (.ref a)]) ((zaz 30).map fun k=>V.int (26+(k:Nat))) (fun j ys H2=>∃fs:List Int,ys=fs.map V.int/\∀f∈fs,0<=f/\f<10) ?_ ?_ ?_ (by simp) YT ⟨none,rfl⟩ ⟨[],rfl,fun f hf=>by cases hf⟩ ?_ ?_
 ·intro i H2 s2 h;have hi:i<30:=by simpa using h
  exact hi
 ·intro H2 s2;simp[yv]
 ·intro i H2 x H3 s2 h y;obtain⟨e1,e2⟩:=y;have hi:i<30:=by simpa using h
  exact⟨e1,by rw[zah,zbR hi,e2];rfl⟩
 ·rintro i x ys τ H7 hx ⟨x0,rfl⟩ s7 X5 ly ⟨fs,rfl,YU⟩ R' hR'
  have hi:i<30:=by have:=(zal.mp hx).1;simpa using this
  rw[zah,zbR hi] at hx;cases hx;walk_at "rd";refine⟨a,ns,26+i,by simp,(s06.trans s7).seq hS,Wv,by lia,fun s0 H8 s8 f8 HD=>⟨s0,10,rfl,HD,by decide,by decide,fun x9 H9 a9 b9 u9 Rh=>?_⟩⟩;refine hR' _ _ _ ⟨_,rfl⟩ (((aZ.of s8).trans u9).same f8) ⟨fs++[x9],by simp,fun f hf=>?_⟩;rcases zai.mp hf with hf |hf
  ·exact YU f hf
  ·rw[zan.mp hf];exact⟨a9,b9⟩
 ·rintro ys H7 s7 yF ly ⟨fs,rfl,YU⟩
  rw[zae,zae,zbu] at ly;refine(sr _ _).mpr (aB fun U6 Ar=>?_);clear sr;refine F1 fun U hU=>?_;walk_at "rd";refine⟨150,rfl,by decide,by decide,hU _ _ ?_⟩;clear hU;rw[show Int.toNat 150=150 from rfl];obtain⟨Iv,Bq⟩:∃Iv:Nat->St->Hp->Prop,∀i σ Hx,Iv i σ Hx↔∃(z6 z7 z8 z9:Option V) (sb:zdm) (row:Int) (vals gs:List Int),σ=[some (.ref a),some (.ref B),some (.ref pp),some (.ref kn),some (.ref sb),some (.ref Fg),z6,z7,z8,z9]/\ar H6 Hx/\Hx Fg=some (.lst (gs.map V.int))/\gs.length<=30/\de K Hx sb row vals/\vz pr m row vals:=⟨_,fun _ _ _=>Iff.rfl⟩
  refine vQ (lo:=0) (n:=150) Iv ((Bq _ _ _).mpr ⟨none,none,none,none,sa,_,_,fs,rfl,s7,yF,by lia,st6.mono s7,hd6⟩) (fun i σ Hx hi hv=>?_) (fun σ Hx hv=>?_)
  ·obtain⟨z6,z7,z8,z9,sb,row,vals,gs,rfl,sx,RH,YV,stx,wM⟩:=(Bq _ _ _).mp hv;clear hv;have small:=wM.small dr;have kwx:=YS.mono sx;obtain⟨u,eu,YW,Wy⟩:=wM.hold;obtain⟨kvx,ykx,gkx⟩:=kwx;obtain⟨Oq,evx,YX⟩:=gkx _ _ eu;obtain⟨va,xk,wN⟩:=stx;have YY:vals.length=u.length:=wM.len.trans YW.bd.1.symm;have S2:∀ {H':Hp},ar Hx H'->ia H' kn (.int row) (some Oq):=fun {H'} s'=>by
    rw[<- evx];exact ia.k (k:=.inl row) (s' _ _ ykx)
   have yj:vals.length<=10:=by have:=wM.len;lia
   refine aB fun V1 LQ=>?_;walk_at "rd";refine aG xk (v:=.int row) (aC (j:=0) rfl) ⟨rfl,cM (fun e=>?_) (fun e=>?_)⟩
   ·have e:row=0:=by injection e
    subst e;unfold MS;walk_at "rd";refine⟨kn,some Oq,rfl,S2 (ar.refl _),?_⟩;refine⟨kn,Oq,rfl,S2 (ar.refl _),aG xk (v:=.ref va) (aC (j:=1) rfl) ?_⟩;refine⟨Oq,va,u,vals,rfl,YX,wN,YY,yj,fun b H8 s8 hb=>?_⟩;rw[hb.mpr Wy];exact q _
   ·have e:row≠0:=fun z=>e (by rw[z]);refine(LQ _ _).mpr (aB fun V2 LR=>?_);clear LQ;obtain⟨j,hj,ej⟩:=wM.rw_.resolve_left e;have YZ:=S1.trans sx;have S3:j<(PG.aF pr.body 0).length:=by
     have:=(vw pr.body 0).length;lia
    have abO:=dr.dep;have own:=PG.iy pr.body _ dr.own (zao hj);have LN:=Paired.G4 (vw pr.body 0) (zab hj) (zab S3);walk_at "rd";refine aG (YZ.bj (.of y3)) (v:=.ref R) (aC (j:=1) rfl) ?_;refine aG xk (v:=.int row) (aC (j:=0) rfl) ?_;refine⟨R,pr.body,row,rfl,rR4.mono YZ,by lia,dr.i3,fun H8 s8=>(LR _ _).mpr (aB fun V3 LS=>?_)⟩;clear LR;subst ej;rw[KA ok hj];have Y0:=s8 _ _ RH;walk_at "rd";refine(LS _ _).mpr (aB fun V4 RL=>?_);clear LS;have v4:∀H9,ar H8 H9->((PG.ax pr.body)[j].wd=.ask->gs≠[])->V4 [some (.ref a),some (.ref B),some (.ref pp),some (.ref kn),some (.ref sb),some (.ref Fg),some (.int (0+i)),some (.bl (decide ((PG.ax pr.body)[j].wd=PG.Wd.ask))),some .bO,z9] H9:=by
     intro H9 s9 hgs;refine(RL _ _).mpr (aB fun V5 Y1=>?_);clear RL;have OS:=sx.trans (s8.trans s9);have OZ:=s9 _ _ Y0;have R1:∀(zP:Hp) (K4:List Int) (fv:V) (fig:Int),ar H6 zP->zP Fg=some (.lst (K4.map V.int))->K4.length<=30->de K zP sb (PG.ax pr.body)[j].row vals->((PG.ax pr.body)[j].wd=.ask->fv=.int fig)->V5 [some (.ref a),some (.ref B),some (.ref pp),some (.ref kn),some (.ref sb),some (.ref Fg),some (.int (0+i)),some (.bl (decide ((PG.ax pr.body)[j].wd=PG.Wd.ask))),some fv,z9] zP:=by
      intro zP K4 fv fig Bv Wz WA R3 RA;refine(Y1 _ _).mpr (aB fun V6 Y2=>?_);clear Y1;obtain⟨w0,w1⟩:=PG.jg pr.body 0 _ (zao S3);obtain⟨_,_,ew⟩:=mD pr.body j hj;rw[ew] at w1;walk_at "rd";refine⟨.ref pp,sb,fv,pr,vals,fig,j,hj,S3,rfl,rp.mono (S1.trans Bv),dr.dep,dr.i3,ok,fun b hb=>by have:=dr.size b hb;lia,R3,wM.len,RA,(Nj wM.len ok.nb (fun v hv=>by have:=small v hv;lia) own).1,w0,w1,fun qa sv IK tm hqa O3=>?_⟩;refine aG hqa (v:=sv) (aC (j:=0) rfl) ((Y2 _ _).mpr (aB fun V7 Y3=>?_));clear Y2;have Ot:=Bv.trans tm;walk_at "rd";refine⟨.ref pp,sv,kn,sb,pr,m,j,hj,S3,vals,u,fig,rfl,rp.mono (S1.trans Ot),sd,YS.mono Ot,R3.mono tm,wM.len,small,eu,YW,Wy,O3,fun EJ zQ=>⟨_,rfl,?_⟩⟩;refine(if_neg (by decide)).mpr ((Y3 _ _).mpr (aB fun V8 Y4=>?_));clear Y3;walk_at "rd";generalize YJ:(fc pr.av (PG.ax pr.body)[j] (PG.aF pr.body 0)[j].2.2 vals fig).1=so at *;cases so with
      |none=>
       have eb:sv=.bO:=O3;exact(if_pos eb).mpr (q _)
      |some x=>
       obtain⟨ba,rfl,RV⟩:=O3;refine(if_neg (by intro z;cases z)).mpr ((Y4 _ _).mpr ?_);clear Y4;walk_at "rd";exact(Bq _ _ _).mpr ⟨_,_,_,_,ba,x.1,x.2,K4,rfl,Ot.trans zQ,zQ _ _ (tm _ _ Wz),WA,RV.mono zQ,vz.step dr li wM YJ⟩
     walk_at "rd";refine cM (fun z=>?_) (fun z=>R1 H9 gs .bO 0 OS OZ YV ⟨va,(s8.trans s9).bj xk,(s8.trans s9).bj wN⟩ fun z'=>absurd z' z);obtain⟨g0,Ou,rfl⟩:∃g0 Ou,gs=g0::Ou:=by
      cases gs with
      |nil=>exact absurd rfl (hgs z)
      |cons g0 Ou=>exact⟨g0,Ou,rfl⟩
     refine⟨.inl ⟨rfl,_,.of OZ⟩,Fg,_,0,0,.int g0,rfl,rfl,OZ,by decide,by decide,by simp[seqIndex?],rfl,?_⟩;have uK:aZ Fg H9 (upd H9 Fg (.lst (((g0::Ou).map V.int).eraseIdx 0))):=(aZ.refl _ _).put _;refine R1 _ Ou (.int g0) g0 (((aZ.of OS).put _).same YT) aq (by simp at YV;lia) ?_ fun _=>rfl;exact de.gC ⟨va,(s8.trans s9).bj xk,(s8.trans s9).bj wN⟩ OZ uK
    walk_at "rd";refine cM (fun z p9 HE=>?_) (fun z=>v4 H8 (ar.refl _) fun z'=>absurd z' z);have s9:=ar.new HE (.lst []);refine⟨Fg,p9,_,rfl,rfl,.of (s9 _ _ Y0),.of aq,?_⟩;generalize upd H8 p9 (.lst [])=H9 at *;cases gs with
    |cons g0 Ou=>exact(if_neg (by simp)).mpr (v4 H9 s9 fun _=>by simp)
    |nil=>
     refine(if_pos rfl).mpr ?_;have Ov:=s8.trans s9;unfold MS;walk_at "rd";refine aG (Ov.bj xk) (v:=.int (PG.ax pr.body)[j].row) (aC (j:=0) rfl) ?_;refine⟨kn,some Oq,rfl,S2 Ov,?_⟩;refine(if_pos rfl).mpr (aG (Ov.bj xk) (v:=.int (PG.ax pr.body)[j].row) (aC (j:=0) rfl) ?_);refine⟨kn,Oq,rfl,S2 Ov,aG (Ov.bj xk) (v:=.ref va) (aC (j:=1) rfl) ?_⟩;refine⟨Oq,va,u,vals,rfl,YX.mono Ov,Ov.bj wN,YY,yj,fun b H8 s8 hb=>?_⟩;rw[hb.mpr Wy];exact q _
  ·refine(Ar _ _).mpr ?_;obtain⟨z6,z7,z8,z9,sb,row,vals,gs,rfl,_⟩:=(Bq _ _ _).mp hv;walk_at "rd";exact q Hx
end
end NV
end
section
set_option maxHeartbeats 4000000
namespace NV
open PySem L2
section
variable{P:zdy}{w:zdo}{K:zaa}{mg:Str->Option zdn}{base:Heap}
theorem all_mk{l:PySem.W.OpenLaw}{h:Heap}{fa:zdm}(X:K.In h)(G:h.Ns zdt mg)(hfa:mg "law"=some (.ref fa))
 {nh dh c0 eV ji fz bN lK kQ jF jG p0 iM fA gF kR gg gY dZ eO gh eP d9 cS fC kS ef uI kT di iN g7 g9 iO ni hG iP fD gi jH dH CO:zdm}
 {aS:zdm}
 {cY:zdm} {vG oE:Option zdm} {vH:Array (Option zdn)} {vI oF oG oH kh oI:zdn}
 {R4:_}
 (Ow:FH K "flow" Bn nh)
 (uX:FH K "flow_of_body" jA dh)
 (Aa:FH K "first_row" mV c0)
 (vJ:FH K "behind_body" j7 eV)
 (Et:FH K "ways_of" qM ji)
 (Ab:FH K "bodies_in" mW fz)
 (sF:FH K "statements_in" iX bN)
 (K5:FH K "worth" xH lK)
 (Eu:FH K "word_at" qN kQ)
 (BA:FH K "by_names" oX jF)
 (BB:FH K "in_order" oY jG)
 (K6:FH K "holds" xI p0)
 (Ac:FH K "ways_from" mX iM)
 (uY:FH K "least_ranges" jB fA)
 (BC:FH K "range_by" oZ gF)
 (Ew:FH K "ways_by" qO kR)
 (vK:FH K "whole_range" j8 gg)
 (xV:FH K "rest_range" lF gY)
 (rj:FH K "condition_ways" ij dZ)
 (sG:FH K "ranges_behind" iY eO)
 (vL:FH K "may_be_gone" j9 gh)
 (sI:FH K "narrowed_left" iZ eP)
 (rm:FH K "narrowed_right" ik d9)
 (nZ:FH K "narrowed_by_equal" gb cS)
 (uZ:FH K "first_ranges" jC fC)
 (Ex:FH K "spanned" qP kS)
 (rn:FH K "first_standing" il ef)
 (Ox:FH K "step" Bo uI)
 (Ey:FH K "step_by" qQ kT)
 (ph:FH K "behind_condition" gE di)
 (Ae:FH K "_law_take" mY iN)
 (xW:FH K "_law_state" lG g7)
 (xX:FH K "_law_boxes" lH g9)
 (Af:FH K "_law_leaf" mZ iO)
 (Ij:FH K "_law_e" uB ni)
 (xY:FH K "_law_plain" lI hG)
 (Ag:FH K "_law_body" m4 iP)
 (Ah:FH K "_law_asks" m5 fD)
 (vM:FH K "_law_within" ka gi)
 (BD:FH K "_law_led" o9 jH)
 (qk:FH K "_law_step_right" gV dH)
 (L7:FH K "law" HA CO)
 (K7:zaU K zdt "Chart"=some (some (.ref aS)))
 (Ik:zch K aS Str.empty=true)
 (Il:zcc K aS=true)
 (Im:zcG K aS=true)
 (Io:zaP K (.ref aS) "__setattr__"=some (some (.builtin "object.__setattr__")))
 (xZ:zaP K (.ref aS) "__init__"=some (some (.ref cY)))
 (x8:K.lookup cY=some ⟨vI,vG,.func (zbt "__init__" "Chart.__init__" (jO cW) (ip cW) (aM cW) .none oF oG oH oE kh oI),vH⟩)
 (ya:zb9 K kh "Chart.__init__"=true)
 (yc:zbM K (.ref cY)=true)
 (yd:PySem.W.isFn K (.ref cY)=true)
 (kU:zc0 K aS=true)
 (Ip:zbM K (.ref aS)=true)
 (fE:zaP K (.ref aS) "names"=some none)
 (dq:zaP K (.ref aS) "sizes"=some none)
 (du:zaP K (.ref aS) "first"=some none)
 (bI:zaP K (.ref aS) "statements"=some none)
 (c5:zaP K (.ref aS) "ways"=some none)
 (R5:zaU K zdt "END"=some (some (.int 0 R4)))
 (l7:zaU K zdt "len"=some none)
 (nP:zaU K zdt "range"=some none)
 (CS:zaU K zdt "int"=some none)
 (pd:zaU K zdt "dict"=some none)
 (jd:zaU K zdt "tuple"=some none)
 (HC:zaU K zdt "any"=some none)
 (rV:zaU K zdt "max"=some none)
 (qd:zaU K zdt "min"=some none)
 (nj:zaU K zdt "enumerate"=some none)
 (zO:zaU K zdt "zip"=some none)
 (uJ:zaU K zdt "sorted"=some none)
 : ∃fd:zdv,(∀(s:zdw) (v:zdn),BindsTo s fd ⟨[v],[]⟩ [("script",v)])/\∀base:Heap,K.In base->base.Ns zdt mg->bB l.prog w K mg base eS 30 fa fd ["script"] (Cf K):=by
 have e:=hfa.symm.trans (zcA X G L7.1);cases e;obtain⟨lJ,qS⟩:=ki X G Ow (ps:=["program"]) fun _ _ _ _ _ _=>J0 fun _=>rfl;obtain⟨dA,cu⟩:=ki X G uX (ps:=["body", "behind"]) fun _ _ _ _ _ _=>vf fun _ _=>rfl;obtain⟨cX,bC⟩:=ki X G Aa (ps:=["body", "behind"]) fun _ _ _ _ _ _=>vf fun _ _=>rfl;obtain⟨fw,eW⟩:=ki X G vJ (ps:=["statement", "after"]) fun _ _ _ _ _ _=>vf fun _ _=>rfl;obtain⟨jE,jj⟩:=ki X G Et (ps:=["statement", "after"]) fun _ _ _ _ _ _=>vf fun _ _=>rfl;obtain⟨fK,dI⟩:=ki X G Ab (ps:=["statement"]) fun _ _ _ _ _ _=>J0 fun _=>rfl;obtain⟨bQ,bY⟩:=ki X G sF (ps:=["body"]) fun _ _ _ _ _ _=>J0 fun _=>rfl;obtain⟨kP,cE⟩:=ki X G K5 (ps:=["e", "values"]) fun _ _ _ _ _ _=>vf fun _ _=>rfl;obtain⟨lL,fO⟩:=ki X G Eu (ps:=["chart", "row"]) fun _ _ _ _ _ _=>vf fun _ _=>rfl;obtain⟨jX,b8⟩:=ki X G BA (ps:=["chart", "parts"]) fun _ _ _ _ _ _=>vf fun _ _=>rfl;obtain⟨jY,cO⟩:=ki X G BB (ps:=["chart", "named"]) fun _ _ _ _ _ _=>vf fun _ _=>rfl;obtain⟨qb,nO⟩:=ki X G K6 (ps:=["chart", "standing"]) fun _ _ _ _ _ _=>vf fun _ _=>rfl;obtain⟨i7,dJ⟩:=ki X G Ac (ps:=["program", "row", "ranges"]) fun _ _ _ _ _ _=>OH fun _ _ _=>rfl;obtain⟨gp,eA⟩:=ki X G uY (ps:=["program"]) fun _ _ _ _ _ _=>J0 fun _=>rfl;obtain⟨gK,bK⟩:=ki X G BC (ps:=["e", "named"]) fun _ _ _ _ _ _=>vf fun _ _=>rfl;obtain⟨lM,fP⟩:=ki X G Ew (ps:=["chart", "row", "ranges"]) fun _ _ _ _ _ _=>OH fun _ _ _=>rfl;obtain⟨gX,cF⟩:=ki X G vK (ps:=["size"]) fun _ _ _ _ _ _=>J0 fun _=>rfl;obtain⟨iB,fQ⟩:=ki X G xV (ps:=["worths", "size"]) fun _ _ _ _ _ _=>vf fun _ _=>rfl;obtain⟨fe,c7⟩:=ki X G rj (ps:=["chart", "row", "ranges"]) fun _ _ _ _ _ _=>OH fun _ _ _=>rfl;obtain⟨fL,dB⟩:=ki X G sG (ps:=["chart", "row", "truth", "ranges"]) fun _ _ _ _ _ _=>UM fun _ _ _ _=>rfl;obtain⟨gZ,eX⟩:=ki X G vL (ps:=["sign", "truth", "left", "right"]) fun _ _ _ _ _ _=>UM fun _ _ _ _=>rfl;obtain⟨fM,dC⟩:=ki X G sI (ps:=["sign", "truth", "own", "left", "right"]) fun _ _ _ _ _ _=>UN fun _ _ _ _ _=>rfl;obtain⟨ff,c8⟩:=ki X G rm (ps:=["sign", "truth", "own", "left", "right"]) fun _ _ _ _ _ _=>UN fun _ _ _ _ _=>rfl;obtain⟨dG,bD⟩:=ki X G nZ (ps:=["truth", "own", "near", "far"]) fun _ _ _ _ _ _=>UM fun _ _ _ _=>rfl;obtain⟨gw,eC⟩:=ki X G uZ (ps:=["chart"]) fun _ _ _ _ _ _=>J0 fun _=>rfl;obtain⟨lN,jk⟩:=ki X G Ex (ps:=["one", "other"]) fun _ _ _ _ _ _=>vf fun _ _=>rfl;obtain⟨fg,c9⟩:=ki X G rn (ps:=["program"]) fun _ _ _ _ _ _=>J0 fun _=>rfl;obtain⟨tj,qT⟩:=ki X G Ox (ps:=["program", "standing", "figure"]) fun _ _ _ _ _ _=>OH fun _ _ _=>rfl;obtain⟨lO,jl⟩:=ki X G Ey (ps:=["chart", "standing", "figure"]) fun _ _ _ _ _ _=>OH fun _ _ _=>rfl;obtain⟨dU,cC⟩:=ki X G ph (ps:=["chart", "standing"]) fun _ _ _ _ _ _=>vf fun _ _=>rfl;obtain⟨i8,au⟩:=ki X G Ae (ps:=["state", "many"]) fun _ _ _ _ _ _=>vf fun _ _=>rfl;obtain⟨iC,bZ⟩:=ki X G xW (ps:=["script", "k"]) fun _ _ _ _ _ _=>vf fun _ _=>rfl;obtain⟨iD,fR⟩:=ki X G xX (ps:=["script"]) fun _ _ _ _ _ _=>J0 fun _=>rfl;obtain⟨i9,bM⟩:=ki X G Af (ps:=["state", "boxes"]) fun _ _ _ _ _ _=>vf fun _ _=>rfl;obtain⟨nN,cA⟩:=ki X G Ij (ps:=["state", "boxes"]) fun _ _ _ _ _ _=>vf fun _ _=>rfl;obtain⟨iE,fT⟩:=ki X G xY (ps:=["state", "boxes", "row"]) fun _ _ _ _ _ _=>OH fun _ _ _=>rfl;obtain⟨ja,gM⟩:=ki X G Ag (ps:=["script", "boxes"]) fun _ _ _ _ _ _=>vf fun _ _=>rfl;obtain⟨fN,dM⟩:=ki X G Ah (ps:=["body", "row"]) fun _ _ _ _ _ _=>vf fun _ _=>rfl;obtain⟨hJ,bA⟩:=ki X G vM (ps:=["ranges", "values"]) fun _ _ _ _ _ _=>vf fun _ _=>rfl;obtain⟨jZ,eI⟩:=ki X G BD (ps:=["ways", "standing"]) fun _ _ _ _ _ _=>vf fun _ _=>rfl;obtain⟨eG,cL⟩:=ki X G qk (ps:=["program", "known", "standing", "behind", "asks"]) fun _ _ _ _ _ _=>UN fun _ _ _ _ _=>rfl;obtain⟨qR,CQ⟩:=ki X G L7 (ps:=["script"]) fun _ _ _ _ _ _=>J0 fun _=>rfl;have jb:=Fs (st:=cW) x8 ya yc;have yf:=jb.binds (ps:=["self", "program"]) fun _ _ _ _ _ _=>vf fun _ _=>rfl
 let t:Ad:=⟨nh,
  lJ,
  dh,
  dA,
  c0,
  cX,
  eV,
  fw,
  ji,
  jE,
  fz,
  fK,
  bN,
  bQ,
  lK,
  kP,
  kQ,
  lL,
  jF,
  jX,
  jG,
  jY,
  p0,
  qb,
  iM,
  i7,
  fA,
  gp,
  gF,
  gK,
  kR,
  lM,
  gg,
  gX,
  gY,
  iB,
  dZ,
  fe,
  eO,
  fL,
  gh,
  gZ,
  eP,
  fM,
  d9,
  ff,
  cS,
  dG,
  fC,
  gw,
  kS,
  lN,
  ef,
  fg,
  uI,
  tj,
  kT,
  lO,
  di,
  dU,
  iN,
  i8,
  g7,
  iC,
  g9,
  iD,
  iO,
  i9,
  ni,
  nN,
  hG,
  iE,
  iP,
  ja,
  fD,
  fN,
  gi,
  hJ,
  jH,
  jZ,
  dH,
  eG,
  fa,
  qR,
  cY,
  zbt "__init__" "Chart.__init__" (jO cW) (ip cW) (aM cW) .none oF oG oH oE kh oI,
  aS⟩
 have T:Tx K mg t:=⟨qS,
  cu,
  bC,
  eW,
  jj,
  dI,
  bY,
  cE,
  fO,
  b8,
  cO,
  nO,
  dJ,
  eA,
  bK,
  fP,
  cF,
  fQ,
  c7,
  dB,
  eX,
  dC,
  c8,
  bD,
  eC,
  jk,
  c9,
  qT,
  jl,
  cC,
  au,
  bZ,
  fR,
  bM,
  cA,
  fT,
  gM,
  dM,
  bA,
  eI,
  cL,
  CQ,
  jb,
  yf,
  ⟨Ik,Il,Im,Io⟩,
  zcA X G K7,
  ⟨kU,xZ,yd,Ip⟩,
  fE,
  dq,
  du,
  bI,
  c5,
  ⟨_,zcA X G R5,_,rfl⟩,
  zaO X G l7,
  zaO X G nP,
  zaO X G CS,
  zaO X G pd,
  zaO X G jd,
  zaO X G HC,
  zaO X G rV,
  zaO X G qd,
  zaO X G nj,
  zaO X G zO,
  zaO X G uJ⟩
 obtain⟨_,_,_,_,_,_,_,_,_,z,_⟩:=CQ.F.ex;exact⟨t.qR,fun s v=>by rw[show t.qR=_ from z];exact .of_eq rfl,fun base _ _=>Ol T⟩
theorem walk{l:PySem.W.OpenLaw}{q:zdy}{loose:List Str}{XP:(Str->Option zdn)->Heap->Prop}{YP:zdo->Heap->Prop}{d:DefRec}{K:Params->zaa}(hn:l.most=some 63)(PV:d.params.defaults=[])
 (hY:∀(w:zdo) (h:Heap),YP w h->(K w.params).In h)
 (F:∀(w:zdo) (mg:Str->Option zdn) (fa:zdm) (h:Heap),(K w.params).In h->h.Ns zdt mg->mg d.name=some (.ref fa)->
  ∃fd:zdv,(∀(s:zdw) (u:zdn),BindsTo s fd ⟨[u],[]⟩ [("script",u)])/\∀base:Heap,(K w.params).In base->base.Ns zdt mg->bB l.prog w (K w.params) mg base eS 30 fa fd ["script"] (Cf (K w.params))) :
 PySem.W.WalkO q loose XP YP l.row.toRowW d [] (fun f vs=>PySem.call f vs):=
 L2.Je (n:=63) (k:=30) (x:="script") (CX:=fun _=>eS) (sp:=fun w=>Cf (K w.params)) hn (by decide) PV ⟨rfl,by decide,by decide⟩ hY F (fun _ _ a ns hl _ hS=>⟨a,ns,rfl,hS,hl,fun _=>rfl⟩) fun _ _ _ _ _ z=>z
end
end NV
end
namespace PySem.W.Fast
theorem tw4563445919882084959:True:=trivial
theorem tw15633922452296065489:True:=trivial
theorem tw14297535973749066874:True:=trivial
theorem tw9999604337248665429:True:=trivial
theorem tw816562574066009787:True:=trivial
theorem tw7106215839461225270:True:=trivial
theorem tw9594514514002482911:True:=trivial
theorem tw4163121722100068330:True:=trivial
theorem tw13354092196890273539:True:=trivial
theorem tw7111800438302775582:True:=trivial
theorem tw17646802007099318382:True:=trivial
theorem tw807350310110121194:True:=trivial
theorem tw6487588762080034334:True:=trivial
theorem tw12639461997634932115:True:=trivial
theorem tw8416644904793890338:True:=trivial
theorem tw15147636777618073544:True:=trivial
theorem tw13704312473334520227:True:=trivial
theorem tw15068602749331069042:True:=trivial
theorem tw14685297877695102672:True:=trivial
theorem tw16867738917815661187:True:=trivial
theorem tw4366327887445465193:True:=trivial
theorem tw13838951578028033051:True:=trivial
theorem tw3696852235476164243:True:=trivial
theorem tw1659700233332535246:True:=trivial
theorem tw11350113584778608259:True:=trivial
theorem tw14118372011830896901:True:=trivial
theorem tw9709339051218463345:True:=trivial
theorem tw16112998661680197915:True:=trivial
theorem tw11829890433119547096:True:=trivial
theorem tw1320284036074379277:True:=trivial
theorem tw6619011071317108039:True:=trivial
theorem tw10854621503662009099:True:=trivial
theorem tw14749317183974004760:True:=trivial
theorem tw4724640727458815708:True:=trivial
theorem tw1333711092635709983:True:=trivial
theorem tw5926697297404888750:True:=trivial
theorem tw12264666062045206532:True:=trivial
theorem tw1149640001625083312:True:=trivial
theorem tw809951543192652939:True:=trivial
theorem tw4694278200886980213:True:=trivial
theorem tw10293004253416615549:True:=trivial
theorem tw450931344058840268:True:=trivial
theorem tw8889120485968436524:True:=trivial
theorem tw17401823076215188040:True:=trivial
theorem tw9110390936904813166:True:=trivial
theorem tw9954009767290276751:True:=trivial
theorem tw17286715165836311173:True:=trivial
theorem tw11717443048094866735:True:=trivial
theorem tw16798516569701430147:True:=trivial
theorem tw8524080138262329906:True:=trivial
theorem tw10243299794614477514:True:=trivial
theorem tw10708707943993202085:True:=trivial
theorem tw8520674977802563134:True:=trivial
theorem tw8418040059497335029:True:=trivial
theorem tw11208339227676415960:True:=trivial
theorem tw11109501173333380453:True:=trivial
theorem tw1142413919363464464:True:=trivial
theorem tw14389932016923119501:True:=trivial
theorem tw2360473086635770478:True:=trivial
theorem tw14018193615000842362:True:=trivial
theorem tw5390238169986239053:True:=trivial
theorem tw18037731605651943572:True:=trivial
theorem tw9706536514370367897:True:=trivial
theorem tw16417950413490700126:True:=trivial
theorem tw8344572011670318874:True:=trivial
theorem tw13998581063595740970:True:=trivial
theorem tw10688504756379565305:True:=trivial
theorem tw1620069182610670651:True:=trivial
theorem tw1850086995254349983:True:=trivial
theorem tw12498797932493522014:True:=trivial
theorem tw15326184484719989459:True:=trivial
theorem tw15807302603860857046:True:=trivial
theorem tw16331732834061140303:True:=trivial
theorem tw7807743198970156635:True:=trivial
theorem tw652997954022995523:True:=trivial
theorem tw9447358575451073026:True:=trivial
theorem tw9026824843091382375:True:=trivial
theorem tw591936632902853503:True:=trivial
theorem tw16040611494584270105:True:=trivial
theorem tw1938318218311844830:True:=trivial
theorem tw211780913697270840:True:=trivial
theorem tw9144406204300266967:True:=trivial
theorem tw14505626798886147928:True:=trivial
theorem tw16678059625007602197:True:=trivial
theorem tw12690526823443232999:True:=trivial
theorem tw6479025148206557938:True:=trivial
theorem tw18394222201701325808:True:=trivial
theorem tw10047991859644593065:True:=trivial
theorem tw9142039849878925:True:=trivial
theorem tw5102876993622671824:True:=trivial
theorem tw6847174341438932420:True:=trivial
theorem tw18220715551422134442:True:=trivial
theorem tw16077932472509315673:True:=trivial
theorem tw13784109476796355759:True:=trivial
theorem tw13915852806619787999:True:=trivial
theorem tw5803672322601758333:True:=trivial
theorem tw919060877137207771:True:=trivial
theorem tw8359938980105431778:True:=trivial
theorem tw5757077142566594178:True:=trivial
theorem tw16025001573356055652:True:=trivial
theorem tw8553490595627888586:True:=trivial
theorem tw8373500718994797934:True:=trivial
theorem tw3334549114164337513:True:=trivial
theorem tw17458813277262518897:True:=trivial
theorem tw9528701638304550885:True:=trivial
theorem tw399963667493316423:True:=trivial
theorem tw12133973942285181543:True:=trivial
theorem tw6576596118798818720:True:=trivial
theorem tw291615756187450932:True:=trivial
theorem tw16875230940904800062:True:=trivial
theorem tw17484335399141451713:True:=trivial
theorem tw9066427228226949911:True:=trivial
theorem tw18041734758163235121:True:=trivial
theorem tw4885487729200102270:True:=trivial
theorem tw14845944815575479658:True:=trivial
theorem tw6879472134492839344:True:=trivial
theorem tw1143320804271842226:True:=trivial
theorem tw17434298646771956778:True:=trivial
theorem tw14277250956077288763:True:=trivial
theorem tw15869507974764714334:True:=trivial
theorem tw7262848065832648564:True:=trivial
theorem tw10604950939386089938:True:=trivial
theorem tw6711754453837001609:True:=trivial
theorem tw7549628070452431599:True:=trivial
theorem tw3174835897350822888:True:=trivial
theorem tw3490897033871762322:True:=trivial
theorem tw9037902336892754986:True:=trivial
theorem tw2462636339600066516:True:=trivial
theorem tw8382295034875366587:True:=trivial
theorem tw10538699698853689020:True:=trivial
theorem tw9901398432086650957:True:=trivial
theorem tw14576087101266438422:True:=trivial
theorem tw17410907740136575481:True:=trivial
theorem tw2441285248342788677:True:=trivial
theorem tw7332074910332913837:True:=trivial
theorem tw17722948297484935963:True:=trivial
theorem tw17810981528131684160:True:=trivial
theorem tw14422235619062712771:True:=trivial
theorem tw9595591783840551764:True:=trivial
theorem tw2295733175260993619:True:=trivial
theorem tw10581048389655897131:True:=trivial
theorem tw10793965813976592011:True:=trivial
theorem tw12954600177196551012:True:=trivial
theorem tw4321359977838959501:True:=trivial
theorem tw12254124736780663737:True:=trivial
theorem tw14827594093207470473:True:=trivial
theorem tw3615983104441796401:True:=trivial
theorem tw12382372389391035921:True:=trivial
theorem tw16796761444792301124:True:=trivial
theorem tw5242921191703582020:True:=trivial
theorem tw18252932561765069255:True:=trivial
theorem tw3199870084383075042:True:=trivial
theorem tw12051656892793020562:True:=trivial
theorem tw1884798244752887695:True:=trivial
theorem tw12104910347188499652:True:=trivial
theorem tw7499812713523460319:True:=trivial
theorem tw3628400884654822377:True:=trivial
theorem tw11715904862713293104:True:=trivial
theorem tw14891137629278455063:True:=trivial
theorem tw5583571408407341419:True:=trivial
theorem tw11862007940205821037:True:=trivial
theorem tw10648170552910567492:True:=trivial
theorem tw3427006510018447306:True:=trivial
theorem tw12148629298868738326:True:=trivial
theorem tw8071897094384190328:True:=trivial
theorem tw988354508139598625:True:=trivial
theorem tw17090702200683578262:True:=trivial
theorem tw11046818581202982776:True:=trivial
theorem tw1522932402254362142:True:=trivial
theorem tw17996283081619779912:True:=trivial
theorem tw9478560860211372382:True:=trivial
theorem tw10856195656107215203:True:=trivial
theorem tw6549421779997361044:True:=trivial
theorem tw15817681417689661437:True:=trivial
end PySem.W.Fast
end
open PySem PySem.W PyProof.Rows
set_option maxRecDepth 100000 in
set_option maxHeartbeats 0 in
theorem PySem.Challenge.cw_everyrow_k38_whole_no_run_leaves_ranges_holds : PySem.Challenge.rw_everyrow_k38_whole_no_run_leaves_ranges.Holds := by
 w_on; o_law; k_head; (case hw=>w_witness2)
 k_fill
 refine NV.walk (l:=PySem.Challenge.rw_everyrow_k38_whole_no_run_leaves_ranges) rfl rfl (fun w h Y=>PySem.W.kIn_of Y) ?F
 case F=>
   intro w mg fa h KX G PX
   refine' NV.all_mk KX G PX ?_ ?_ ?_ ?_ ?_ ?_ ?_ ?_ ?_ ?_ ?_ ?_ ?_ ?_ ?_ ?_ ?_ ?_ ?_ ?_ ?_ ?_ ?_ ?_ ?_ ?_ ?_ ?_ ?_ ?_ ?_ ?_ ?_ ?_ ?_ ?_ ?_ ?_ ?_ ?_ ?_ ?_ ?_ ?_ ?_ ?_ ?_ ?_ ?_ ?_ ?_ ?_ ?_ ?_ ?_ ?_ ?_ ?_ ?_ ?_ ?_ ?_ ?_ ?_ ?_ ?_ ?_ ?_ ?_ ?_ ?_
   rotate_left 54
   iterate 42 (refine' L2.FH.of ?a ?l ?c ?k; (case a=>k_is); (case l=>k_is); (case c=>k_is); (case k=>k_is))
   iterate 29 (k_is)
