import PyProof.Rows.All
import Wide.All
import OpenK.AllK
import Wide.FinOn
import Lean
import PyProof.EqAt
import PyProof.EqKinds
import PyProof.TupleCall
import PyProof.AttrMiss
import PyProof.IsiH_list
import PyProof.ZipIter
import PyProof.P3In
import PyProof.StrBlockH
import PyProof.StrLawsIn
import PyProof.FString
import PyProof.EnumMake
import PyProof.Draws
import PySem.Challenge.RW_everyrow_k06_whole_programs_read
set_option compiler.extract_closed false
set_option Elab.async false
set_option linter.all false
set_option maxRecDepth 100000
open PySem.W renaming Frag->zaa,nsIn->zay,mg_of->zaL,findIn->zaN,fnOf->zaU,exmOne->zaY,mg_none_of->za3,keepIn->za7,kia_one->za8,kitOne->zbc,codeIn->zbq,emptyDict->zbr,excIn->zbx,instObj->zbI,isFn->zbJ,plainGet->zbZ,hasDictIn->zca,plainOver->zco,hideAll->zcG,makesIn->zcH,plainGet_of->zcO,lookIn->zcS,of_hideAll->zcX,kitx_tuple->zcZ,methodObj->zc2,kitx_list->zc3,takerIn->zdj,cellsFrom_some->zdn,hideAll_get->zdG,callWith_K0->zdH
open PySem.Str renaming ofString->zab
open List renaming getElem?_eq_getElem->zac,mem_singleton->zad,getD_eq_getElem?_getD->zae,length_append->zaf,length_cons->zah,length_map->zai,mem_append->zaj,mem_cons->zak,mem_of_getElem?->zal,mem_cons_of_mem->zam,getElem?_eq_some_iff->zao,replicate->zap,mem_cons_self->zaq,map_cons->zar,getElem?_append_right->zat,getElem?_append_left->zau,length_singleton->zav,map_append->zaw,size_toArray->zax,getElem?_map->zaz,append_nil->zaC,range->zaE,getElem_mem->zaI,mem_map->zaK,length_dropLast->zaO,cons_append->zaQ,mem_append_right->zaR,foldl_cons->zaT,flatten_cons->zaV,append_assoc->zaW,length_eq_zero_iff->zaX,getLast?_eq_getElem?->zaZ,length_take->za0,all_eq_true->za1,length_replicate->za4,nil_append->za5,contains_iff_mem->za6,length_drop->za9,not_mem_nil->zba,mem_flatMap->zbb,nodup_cons->zbd,take_succ_eq_append_getElem->zbg,mem_range->zbh,mem_append_left->zbi,getElem?_set_self->zbj,getLast?_eq_none_iff->zbl,getElem?_set_ne->zbm,dropLast_subset->zbn,take_length->zbo,take_of_length_le->zbp,replicate_succ->zbs,getElem_of_mem->zbt,lookup_cons->zbu,map_map->zbv,getElem_map->zbw,nodup_append->zby,length_set->zbA,find?_cons->zbB,map_nil->zbC,sum_cons->zbD,getLast?_eq_some_iff->zbF,length->zbG,length_nil->zbH,foldl_append->zbK,flatMap_append->zbM,mem_replicate->zbQ,any_cons->zbR,getLastD_eq_getLast?->zbT,drop_eq_getElem_cons->zbU,mem_or_eq_of_mem_set->zbV,lookup->zbW,getElem_inj->zbX,getElem?_replicate->zb1,pairwise_cons->zb3,getElem?_dropLast->zb5,reverse_cons->zb7,length_range->zb8,flatMap_cons->zb9,getLast?_concat->zcc,map_congr_left->zcd,headD_cons->zce,mem_filterMap->zcf,getElem_append_left->zci,getElem_range->zck,nodup_nil->zcl,drop_of_length_le->zcp,flatten_nil->zcq,ext_getElem->zcr,length_filter_le->zcs,mem_filter->zcy,mem_iff_getElem->zcA,pairwise_append->zcB,mem_of_getLast?->zcD,mem_of_mem_drop->zcE,mem_of_mem_take->zcF,eq_nil_of_length_eq_zero->zcI,drop_append_of_le_length->zcJ,filterMap_cons->zcL,length_pos_iff->zcM,map_eq_nil_iff->zcN,drop_zero->zcP,set->zcQ,dropLast_cons_of_ne_nil->zcR,filter_append->zcU,cons->zcV,getLast?_map->zc1,pairwise_iff_getElem->zc4,getElem_append_right->zc5,drop_length->zc8,getElem?_cons_succ->zda,pairwise_singleton->zdb,filter_cons_of_neg->zdc,filter_cons_of_pos->zdd,of_mem_zip->zdf,forIn_cons->zdg,length_eq_one_iff->zdk,append_eq_nil_iff->zdl,getElem_cons_drop->zdm,set_append_right->zdr,take_succ->zds,take_append_drop->zdt,reverse_reverse->zdv,getLast?_append->zdw,extract_toArray->zdx,flatten_append->zdC,length_flatten->zdD,filter_eq_self->zdE,zipWith->zdO,all_map->zdR
open Nat renaming le_refl->zag,le_trans->zaA,zero_le->zaJ,lt_of_lt_of_le->zaM,ne_of_lt->zaS,le_add_right->zbk,lt_irrefl->zbL,le_succ->zbN,le_succ_of_le->zbS,sub_self->zbY,lt_succ_self->zcb,lt_of_le_of_lt->zch,add_sub_cancel_left->zcm,toDigits->zcz,one_le_two_pow->zcW,le_of_lt->zc6,max_eq_left->zdh,min_eq_left->zdi,mul_le_mul_right->zdy,ne_of_gt->zdJ,le_of_eq->zdK,succ_mul->zdL,zero_add->zdM,lt_trans->zdP,succ_pos->zdQ,log2_lt->zdT
open Bool renaming false_ne_true->zan,and_eq_true->zaD,eq_iff_iff->zbz,false_eq_true->zbE,eq_false_or_eq_true->zc7,or_false->zdz,false_or->zdA,true_and->zdB
open Or renaming inl->zas
open PySem.F renaming plainAttrs_list->zaB,slot_list_append->zaG,type_list_append->zaH,plainAttrs_str->zbP,slot_list_pop->zct,type_list_pop->zcu,slot_str_join->zcv,type_str_join->zcw,args_tuple_add_2->zc9,entry_tuple_add->zde,slot_tuple_add->zdo,slot_str_split->zdp,type_str_split->zdq,slot_dict_get->zdu
open Option renaming some->zaF,map_eq_some_iff->zaP,map_some->zbe,isSome_iff_exists->zcg,none->zdS
open Int renaming emod_lt_of_pos->za2,emod_nonneg->zbf,le_refl->zbO,eq_ofNat_of_zero_le->zb2,mul_le_mul_of_nonneg_right->zb4,toNat_natCast->zb6,le_trans->zcj,mul_le_mul_of_nonpos_right->zcC,mul_le_mul_of_nonneg_left->zcK,fdiv_eq_ediv_of_nonneg->zc0,toNat_of_nonneg->zdF,zero_add->zdN
open Array renaming length_toList->zb0,append_assoc->zcT,toList->zdI
open PySem.StrLaws renaming found_one->zcn
open PyProof.Rows renaming slot_tuple_getitem->zcx,callWith_type1->zcY
open PySem renaming Addr->zdU,Value->zdV,World->zdW,wpAny_bind->zdX,wpAny_pure->zdY,wpAny_holding->zdZ,starEach->zd0,mainGlobals->zd1,sizeLine->zd2,FuncData->zd3,Shared->zd4,Around->zd5,Program->zd6
noncomputable section
namespace L2
open PySem PySem.Spec PyProof.Rows
abbrev Key:=Sum Int Str
def xm:Key->zdV->Bool
 |.inl k,v=>Value.isInt k v
 |.inr x,v=>Value.isStrOf x v
def Xl (w:zdW):Key->Int
 |.inl k=>hashInt k
 |.inr x=>hashStr w x
theorem dz:∀ {k:Key} {v:zdV},xm k v=true->(∃i t,k=Sum.inl i/\v=Value.int i t)\/(∃x t,k=Sum.inr x/\v=Value.str x t)
 |.inl i,v,h=>by
  obtain⟨t,e⟩:=Value.isInt_shape (k:=i) (v:=v) h;exact .inl ⟨i,t,rfl,e⟩
 |.inr x,v,h=>by
  obtain⟨t,e⟩:=Value.isStrOf_shape (x:=x) (v:=v) h;exact .inr ⟨x,t,rfl,e⟩
theorem IC(i:Int)(t:Tok):xm (.inl i) (.int i t)=true:=by simp[xm,Value.isInt]
theorem ID(x:Str)(t:Tok):xm (.inr x) (.str x t)=true:=by simp[xm,Value.isStrOf]
theorem QJ(a b:Int):decide ((Sum.inl a:Key)=Sum.inl b)=(a==b):=by
 by_cases e:a=b
 ·subst e;simp
 ·have h:¬(Sum.inl a:Key)=Sum.inl b:=fun q=>e (Sum.inl.inj q);rw[decide_eq_false h];exact(beq_eq_false_iff_ne.mpr e).symm
theorem QK(a b:Str):decide ((Sum.inr a:Key)=Sum.inr b)=decide (a=b):=by
 by_cases e:a=b
 ·subst e;simp
 ·have h:¬(Sum.inr a:Key)=Sum.inr b:=fun q=>e (Sum.inr.inj q);rw[decide_eq_false h,decide_eq_false e]
theorem QL(a:Int)(b:Str):decide ((Sum.inl a:Key)=Sum.inr b)=false:=decide_eq_false (fun q=>nomatch q)
theorem QM(a:Str)(b:Int):decide ((Sum.inr a:Key)=Sum.inl b)=false:=decide_eq_false (fun q=>nomatch q)
def fg (prog:zd6) (w:zdW):PySem.KeyKind prog w Key where
 is:=xm
 hash:=Xl w
 inj:=fun v a b ha hb=>by
  rcases dz ha with ⟨i,t,rfl,rfl⟩ |⟨x,t,rfl,rfl⟩
  ·rcases dz hb with ⟨j,u,rfl,e⟩ |⟨y,u,rfl,e⟩
   ·injection e with e1 _;rw[e1]
   ·exact nomatch e
  ·rcases dz hb with ⟨j,u,rfl,e⟩ |⟨y,u,rfl,e⟩
   ·exact nomatch e
   ·injection e with e1 _;rw[e1]
 byValue:=fun k v h=>by
  rcases dz h with ⟨i,t,rfl,rfl⟩ |⟨x,t,rfl,rfl⟩<;>rfl
 pyHash:=fun hv h=>by
  rcases dz hv with ⟨i,t,rfl,rfl⟩ |⟨x,t,rfl,rfl⟩
  ·exact wpAny_pyHash_int h
  ·exact wpAny_pyHash_str h
 eqBool:=fun hu hv h=>by
  rcases dz hu with ⟨i,t,rfl,rfl⟩ |⟨x,t,rfl,rfl⟩
  ·rcases dz hv with ⟨j,u,rfl,rfl⟩ |⟨y,u,rfl,rfl⟩
   ·rw[QJ] at h;exact wpAny_eqBool_int h
   ·rw[QL] at h;exact SeqAt.EqAt.int_str i t y u _ _ _ _ h
  ·rcases dz hv with ⟨j,u,rfl,rfl⟩ |⟨y,u,rfl,rfl⟩
   ·rw[QM] at h;exact SeqAt.EqAt.str_int x t j u _ _ _ _ h
   ·rw[QK] at h;exact wpAny_eqBool_str h
 «strs»:=fun k x t v h=>by
  rcases dz h with ⟨i,u,rfl,e⟩ |⟨y,u,rfl,e⟩
  ·exact nomatch e
  ·injection e with e1 _
   subst e1;cases v<;>rfl
theorem De(prog:zd6)(w:zdW)(i:Int)(t:Tok):(fg prog w).is (.inl i) (.int i t)=true:=IC i t
theorem Dh(prog:zd6)(w:zdW)(x:Str)(t:Tok):(fg prog w).is (.inr x) (.str x t)=true:=ID x t
inductive V where
 |dh |bl (b:Bool) |int (i:Int) |str (x:Str) |G1 (b:Array UInt8) |QN (b:UInt64) |ref (a:zdU) |ty (n:String)
 deriving DecidableEq
def RelV:V->zdV->Prop
 |.dh,u=>u=Value.none
 |.bl b,u=>u=Value.bool b
 |.int i,u=>∃t,u=Value.int i t
 |.str x,u=>∃t,u=Value.str x t
 |.G1 b,u=>∃t,u=Value.bytes b t
 |.QN b,u=>∃t,u=Value.float b t
 |.ref a,u=>u=Value.ref a
 |.ty n,u=>u=Value.type n
abbrev Vals:List V->List zdV->Prop:=Paired RelV
theorem Vals.length{xs:List V}{us:List zdV}(r:Vals xs us):xs.length=us.length:=Paired.length r
theorem Vals.get:∀ {xs:List V} {us:List zdV} {i:Nat} {x:V},Vals xs us->xs[i]?=some x->∃u,us[i]?=some u/\RelV x u
 |_,_,_,_,.nil,e=>by simp at e
 |_,_,0,_,.cons r _,e=>by simp at e;subst e;exact⟨_,rfl,r⟩
 |_,_,i+1,x,.cons _ t,e=>by
  obtain⟨u,h1,h2⟩:=Vals.get (i:=i) (x:=x) t (by simpa using e);exact⟨u,by simpa using h1,h2⟩
theorem Vals.set{x:V}{u:zdV}(r:RelV x u):∀ {xs:List V} {us:List zdV} (i:Nat),Vals xs us->Vals (xs.set i x) (us.set i u)
 |_,_,_,.nil=>.nil
 |_,_,0,.cons _ t=>.cons r t
 |_,_,i+1,.cons q t=>.cons q (Vals.set r i t)
theorem Vals.append:∀ {xs ys:List V} {us ws:List zdV},Vals xs us->Vals ys ws->Vals (xs++ys) (us++ws)
 |_,_,_,_,.nil,s=>s
 |_,_,_,_,.cons r t,s=>.cons r (Vals.append t s)
theorem Vals.take:∀ {xs:List V} {us:List zdV} (n:Nat),Vals xs us->Vals (xs.take n) (us.take n)
 |_,_,0,_=>.nil
 |_,_,_+1,.nil=>.nil
 |_,_,n+1,.cons r t=>.cons r (Vals.take n t)
theorem Vals.drop:∀ {xs:List V} {us:List zdV} (n:Nat),Vals xs us->Vals (xs.drop n) (us.drop n)
 |_,_,0,r=>r
 |_,_,_+1,.nil=>.nil
 |_,_,n+1,.cons _ t=>Vals.drop n t
def oy:Option V->Option zdV->Prop
 |some v,some u=>RelV v u
 |none,none=>True
 |_,_=>False
def KV {κ:Type}:List (κ×V)->List (κ×zdV)->Prop:=Paired fun (p:κ×V) (q:κ×zdV)=>p.1=q.1/\RelV p.2 q.2
def kV:Key->V
 |.inl i=>.int i
 |.inr x=>.str x
inductive HO where
 |lst (xs:List V)
 |tup (xs:List V)
 |dK (aV:List (Key×V)) |dT (aV:List (List Key×V))
 |set (S:Int->Bool) (n:Nat)
 |ins (C dx:zdU) (fs:List (Str×V))
 |own (x:zdU)
 |xd (fs:List (Str×V))
 |met (f x:zdU)
 |We (lo hi:Int)
 |Ft (o:Obj) (u:HO)
 |Nw (ps:Array zdV)
 |ext (φ:Heap->Prop)
abbrev Hp:=zdU->Option HO
def upd (H:Hp) (a:zdU) (o:HO):Hp:=fun b=>if b=a then some o else H b
theorem aj{H:Hp}{a:zdU}{o:HO}:upd H a o a=some o:=by unfold upd;rw[if_pos rfl]
theorem aq{H:Hp}{a b:zdU}{o:HO}(h:b≠a):upd H a o b=H b:=by unfold upd;rw[if_neg h]
theorem Bz{H:Hp}{a:zdU}{o u:HO}:upd (upd H a o) a u=upd H a u:=by
 funext b;unfold upd;split<;>rfl
theorem cM{H:Hp}{a b:zdU}{o u:HO}(h:H a=some o)(h':H b=some u)(d:o≠u):a≠b:=by
 intro e;subst e;rw[h] at h';exact d (zaF.inj h')
theorem aB{H:Hp}{a b:zdU}{o:HO}(h:H a=some o)(h':H b=none):a≠b:=by
 intro e;subst e;rw[h] at h';cases h'
section
variable(P:zd6)(w:zdW)
def eK (H:Hp) (h:Heap) (a:zdU):HO->Prop
 |.lst xs=>xs.length<=zd2/\∃(aY:List zdV) (n:Nat),Vals xs aY/\h.get? a=some {cls:=.type "list",data:=.seq aY.toArray n}
 |.tup xs=>xs.length<=zd2/\∃aY:List zdV,Vals xs aY/\IsTup h a aY.toArray
 |.dK aV=>aV.length<=zd2/\(a==sysModules)=false/\∃vs,KV aV vs/\h.DictOf (fg P w) a vs
 |.dT aV=>aV.length<=zd2/\(a==sysModules)=false/\∃xs:List (List Key×zdU×zdV),
  Paired (fun (p:List Key×V) (q:List Key×zdU×zdV)=>p.1=q.1/\H q.2.1=some (.tup (p.1.map kV))/\RelV p.2 q.2.2) aV xs/\
  ∃o es ep,h.get? a=some o/\o.ExactDict/\o.data=.dict es ep/\es.toList=xs.map (entryOfKey (tupleKind (fg P w)))/\(xs.map (·.1)).Nodup
 |.set S n=>h.SetOf (intKind P w) a S n
 |.ins C dx fs=>H dx=some (.own a)/\fs.length<=1000/\dx≠a/\h.get? a=some (zbI C dx)/\
  ∃mA,h.Ns1 dx mA/\(∀f,oy (fs.lookup f) (mA f))/\PySem.Within mA (fs.map (·.1))
 |.own _=>∃o,h.get? a=some o
 |.xd fs=>∃mA,h.Ns1 a mA/\∀f,oy (fs.lookup f) (mA f)
 |.We lo hi=>∃t u v,h.get? a=some {cls:=.type "range",data:=.fields #[.int lo t,.int hi u,.int 1 v]}
 |.Ft o u=>h.get? a=some o/\eK H h a u
 |.Nw ps=>h.get? a=some {cls:=.none,data:=.fields ps}
 |.met f x=>h.get? a=some (zc2 (.ref f) (.ref x))
 |.ext φ=>φ h/\(∃o,h.get? a=some o)/\∀h1 h2:Heap,φ h1->(∀o,h1.get? a=some o->h2.get? a=some o)->φ h2
def sD (H:Hp) (h:Heap):Prop:=∀a o,H a=some o->eK P w H h a o
end
section
variable{P:zd6}{w:zdW}{H H':Hp}{h h':Heap}{a:zdU}{o:HO}
theorem eK.lt(x:eK P w H h a o):a<h.objs.size:=by
 cases o with
 |lst xs=>obtain⟨_,_,_,_,e⟩:=x;exact Heap.lt_size e
 |tup xs=>obtain⟨_,_,_,p⟩:=x;exact p.lt
 |dK aV=>obtain⟨_,_,_,_,o,_,_,e,_⟩:=x;exact Heap.lt_size e
 |dT aV=>obtain⟨_,_,_,_,o,_,_,e,_⟩:=x;exact Heap.lt_size e
 |set S n=>obtain⟨o,_,_,_,e,_⟩:=x;exact Heap.lt_size e
 |ins C dx fs=>obtain⟨_,_,_,e,_⟩:=x;exact Heap.lt_size e
 |own y=>obtain⟨_,e⟩:=x;exact Heap.lt_size e
 |xd fs=>obtain⟨_,⟨_,_,_,e,_⟩,_⟩:=x;exact Heap.lt_size e
 |We lo hi=>obtain⟨_,_,_,e⟩:=x;exact Heap.lt_size e
 |Ft ob u=>obtain⟨e,_⟩:=x;exact Heap.lt_size e
 |Nw ps=>exact Heap.lt_size (show h.get? a=some _ from x)
 |met f y=>exact Heap.lt_size (show h.get? a=some _ from x)
 |ext φ=>obtain⟨_,⟨_,e⟩,_⟩:=x;exact Heap.lt_size e
theorem Paired.Di{α β:Type}{F G:α->β->Prop}:∀ {l₁:List α} {l₂:List β},Paired F l₁ l₂->(∀a b,F a b->G a b)->Paired G l₁ l₂
 |_,_,.nil,_=>.nil
 |_,_,.cons r t,f=>.cons (f _ _ r) (Paired.Di t f)
theorem eK.sI(x:eK P w H h a o)(k:∀b u,(b=a\/H b=some (.own a))->h.get? b=some u->h'.get? b=some u)
 (ho:∀b,H b=some (.own a)->H' b=some (.own a)) (ht:∀b xs,H b=some (.tup xs)->H' b=some (.tup xs)):eK P w H' h' a o:=by
 induction o with
 |lst xs=>obtain⟨z,aY,n,r,e⟩:=x;exact⟨z,aY,n,r,k _ _ (.inl rfl) e⟩
 |tup xs=>obtain⟨z,aY,r,ob,e,c⟩:=x;exact⟨z,aY,r,ob,k _ _ (.inl rfl) e,c⟩
 |dK aV=>obtain⟨z,y,vs,r,ob,es,ep,e,c⟩:=x;exact⟨z,y,vs,r,ob,es,ep,k _ _ (.inl rfl) e,c⟩
 |dT aV=>
  obtain⟨z,y,xs,r,ob,es,ep,e,c⟩:=x;exact⟨z,y,xs,Paired.Di r fun p q z=>⟨z.1,ht _ _ z.2.1,z.2.2⟩,ob,es,ep,k _ _ (.inl rfl) e,c⟩
 |set S n=>obtain⟨ob,es,ep,t,e,c⟩:=x;exact⟨ob,es,ep,t,k _ _ (.inl rfl) e,c⟩
 |ins C dx fs=>
  obtain⟨d,z,ne,e,mA,⟨od,es,ep,e2,c⟩,r⟩:=x;exact⟨ho _ d,z,ne,k _ _ (.inl rfl) e,mA,⟨od,es,ep,k _ _ (.inr d) e2,c⟩,r⟩
 |own y=>obtain⟨ob,e⟩:=x;exact⟨ob,k _ _ (.inl rfl) e⟩
 |xd fs=>obtain⟨mA,⟨od,es,ep,e,c⟩,r⟩:=x;exact⟨mA,⟨od,es,ep,k _ _ (.inl rfl) e,c⟩,r⟩
 |We lo hi=>obtain⟨t,u,v,e⟩:=x;exact⟨t,u,v,k _ _ (.inl rfl) e⟩
 |Ft ob u ih=>obtain⟨e,q⟩:=x;exact⟨k _ _ (.inl rfl) e,ih q⟩
 |Nw ps=>
  have e:h.get? a=some {cls:=.none,data:=.fields ps}:=x;show h'.get? a=some {cls:=.none,data:=.fields ps};exact k a _ (.inl rfl) e
 |met f y=>
  have e:h.get? a=some (zc2 (.ref f) (.ref y)):=x;show h'.get? a=some (zc2 (.ref f) (.ref y));exact k a _ (.inl rfl) e
 |ext φ=>obtain⟨p,⟨o,e⟩,st⟩:=x;exact⟨st _ _ p fun o q=>k _ _ (.inl rfl) q,⟨o,k _ _ (.inl rfl) e⟩,st⟩
theorem sD.lt(x:sD P w H h)(e:H a=some o):a<h.objs.size:=(x a o e).lt
theorem sD.fresh(x:sD P w H h)(e:h.objs.size<=a):H a=none:=by
 cases q:H a with
 |none=>rfl
 |some u=>exact absurd (zaM (x.lt q) e) (zbL _)
theorem sD.kept(x:sD P w H h)(k:∀b u,h.get? b=some u->h'.get? b=some u):sD P w H h':=fun a o e=>
 (x a o e).sI (fun b u _ q=>k b u q) (fun _ q=>q) fun _ _ q=>q
theorem sD.laid(x:sD P w H h)(k:∀b u,h.get? b=some u->h'.get? b=some u)(hp:h.objs.size<=a)(new:eK P w (upd H a o) h' a o):sD P w (upd H a o) h':=fun b u e=>by
 have hn:=x.fresh hp;by_cases hb:b=a
 ·subst hb;rw[aj] at e;cases e;exact new
 ·rw[aq hb] at e;exact(x b u e).sI (fun c v _ q=>k c v q) (fun c q=>by rw[aq (aB q hn)];exact q) fun c xs q=>by rw[aq (aB q hn)];exact q
end
def Rd (H:Hp) (a:zdU) (u:HO):Prop:=H a=some u\/∃o,H a=some (.Ft o u)
theorem Rd.ok{P:zd6}{w:zdW}{H:Hp}{h:Heap}{a:zdU}{u:HO}(r:Rd H a u)(x:sD P w H h):eK P w H h a u:=by
 rcases r with r |⟨o,r⟩
 ·exact x a u r
 ·obtain⟨_,q⟩:=x a _ r;exact q
def Wf:Option HO->Prop
 |some (.lst _)=>True
 |some (.dK _)=>True
 |some (.dT _)=>True
 |some (.set _ _)=>True
 |some (.ins _ _ _)=>True
 |some (.ext _)=>True
 |_=>False
section
variable{P:zd6}{w:zdW}{H:Hp}{h h':Heap}{x e:zdU}{o':HO}
theorem sD.write(ok:sD P w H h)(mu:Wf (H x))(he:e=x\/H e=some (.own x))(k:∀b u,b≠e->h.get? b=some u->h'.get? b=some u)(S7:∃u,h'.get? e=some u)
 (new:eK P w (upd H x o') h' x o'):sD P w (upd H x o') h':=fun b u q=>by
 have TN:∀c y,H c=some (.own y)->c≠x:=fun c y r z=>by subst z;rw[r] at mu;exact mu
 have Xm:∀c xs,H c=some (.tup xs)->c≠x:=fun c xs r z=>by subst z;rw[r] at mu;exact mu
 by_cases hb:b=x
 ·subst hb;rw[aj] at q;cases q;exact new
 ·rw[aq hb] at q;by_cases QO:b=e
  ·have q':H b=some (.own x):=by
    rcases he with z |z
    ·exact absurd (QO.trans z) hb
    ·rw[QO];exact z
   rw[q] at q';cases q';obtain⟨v,hv⟩:=S7;exact⟨v,by rw[QO];exact hv⟩
  ·refine(ok b u q).sI (fun c v hc r=>k c v ?_ r) (fun c r=>by rw[aq (TN c b r)];exact r) fun c xs r=>by rw[aq (Xm c xs r)];exact r
   rcases hc with rfl |hc
   ·exact QO
   ·rintro rfl
    rcases he with z |z
    ·exact TN c b hc z
    ·rw[hc] at z;cases z;exact hb rfl
end
structure Un(fs ex:List zdU)(H H':Hp)(h h':Heap):Prop where
 keep:∀b o,h.get? b=some o->H b=none->b ∉ fs->b ∉ ex->h'.get? b=some o
 slot:∀b o,h.get? b=some o->H b=none->b∈fs->b ∉ ex->∃sl,h'.get? b=some {o with slots:=sl}
 free:∀b o,h.get? b=some o->H b=none->b ∉ ex->H' b=none
 there:∀b o,h.get? b=some o->b ∉ ex->∃o',h'.get? b=some o'
 mU:∀b xs,H b=some (.tup xs)->H' b=some (.tup xs)
 oz:∀b o u,H b=some (.Ft o u)->H' b=some (.Ft o u)
 qx:∀b ps,H b=some (.Nw ps)->∃more,H' b=some (.Nw (ps++more))
section
variable{fs Pf ex ZH:List zdU}{H H1 H2:Hp}{h h1 h2 h':Heap}{a x e:zdU}{o:HO}
theorem Un.any(u:Un fs ex H H1 h h1){b:zdU}{ob:Obj}(q:h.get? b=some ob)(n:H b=none)(hx:b ∉ ex):∃sl,h1.get? b=some {ob with slots:=sl}:=by
 by_cases hb:b∈fs
 ·exact u.slot b ob q n hb hx
 ·exact⟨ob.slots,u.keep b ob q n hb hx⟩
theorem Un.trans(a:Un fs ex H H1 h h1)(b:Un fs ex H1 H2 h1 h2):Un fs ex H H2 h h2 where
 keep:=fun c ob q n hc hx=>b.keep c ob (a.keep c ob q n hc hx) (a.free c ob q n hx) hc hx
 slot:=fun c ob q n hc hx=>by
  obtain⟨sl,e1⟩:=a.slot c ob q n hc hx;obtain⟨QP,e2⟩:=b.slot c _ e1 (a.free c ob q n hx) hc hx;exact⟨QP,e2⟩
 free:=fun c ob q n hx=>by
  obtain⟨o',e1⟩:=a.there c ob q hx;exact b.free c o' e1 (a.free c ob q n hx) hx
 there:=fun c ob q hx=>by
  obtain⟨o',e1⟩:=a.there c ob q hx;exact b.there c o' e1 hx
 mU:=fun c xs q=>b.mU c xs (a.mU c xs q)
 oz:=fun c ob xs q=>b.oz c ob xs (a.oz c ob xs q)
 qx:=fun c ps q=>by
  obtain⟨m1,e1⟩:=a.qx c ps q;obtain⟨m2,e2⟩:=b.qx c _ e1;exact⟨m1++m2,by rw[e2,zcT]⟩
theorem Un.kept(k:∀b u,h.get? b=some u->h'.get? b=some u):Un fs ex H H h h':=
 ⟨fun b ob q _ _ _=>k b ob q,fun b ob q _ _ _=>⟨ob.slots,k b ob q⟩,fun _ _ _ n _=>n,fun b ob q _=>⟨ob,k b ob q⟩,fun _ _ q=>q,fun _ _ _ q=>q,fun _ ps q=>⟨#[],by rw[q];simp⟩⟩
theorem Un.refl:Un fs ex H H h h:=Un.kept fun _ _ q=>q
theorem Un.laid(k:∀b u,h.get? b=some u->h'.get? b=some u)(hp:h.objs.size<=a)(hn:H a=none):Un fs ex H (upd H a o) h h' where
 keep:=fun b u q _ _ _=>k b u q
 slot:=fun b u q _ _ _=>⟨u.slots,k b u q⟩
 free:=fun b u q n _=>by rw[aq (zaS (zaM (Heap.lt_size q) hp))];exact n
 there:=fun b u q _=>⟨u,k b u q⟩
 mU:=fun b xs q=>by rw[aq (aB q hn)];exact q
 oz:=fun b u xs q=>by rw[aq (aB q hn)];exact q
 qx:=fun b ps q=>⟨#[],by rw[aq (aB q hn),q];simp⟩
theorem Un.write(mu:Wf (H x))(he:e=x\/H e=some (.own x))(k:∀b u,b≠e->h.get? b=some u->h'.get? b=some u)(S7:∃u,h'.get? e=some u):Un fs ex H (upd H x o) h h':=by
 have hx:∀b,H b=none->b≠x:=fun b n z=>by subst z;rw[n] at mu;exact mu
 have hb:∀b,H b=none->b≠e:=fun b n z=>by
  subst z;rcases he with r |r
  ·exact hx b n r
  ·rw[n] at r;cases r
 have hm:∀b u,H b=some u->¬Wf (some u)->b≠x:=fun b u q nm z=>by subst z;rw[q] at mu;exact nm mu
 refine⟨fun b u q n _ _=>k b u (hb b n) q,fun b u q n _ _=>⟨u.slots,k b u (hb b n) q⟩,fun b u q n _=>by rw[aq (hx b n)];exact n,fun b u q _=>?_,
  fun b xs q=>by rw[aq (hm b _ q fun z=>z)];exact q,fun b u xs q=>by rw[aq (hm b _ q fun z=>z)];exact q,fun b ps q=>⟨#[],by rw[aq (hm b _ q fun z=>z),q];simp⟩⟩
 by_cases QO:b=e
 ·subst QO;exact S7
 ·exact⟨u,k b u QO q⟩
theorem Un.mono(u:Un fs ex H H1 h h1)(hs:∀b∈fs,b∈Pf)(hx:∀b∈ex,b∈ZH):Un Pf ZH H H1 h h1:=
 ⟨fun b ob q n hb he=>u.keep b ob q n (fun z=>hb (hs b z)) fun z=>he (hx b z),fun _ _ q n _ he=>u.any q n fun z=>he (hx _ z),fun b ob q n he=>u.free b ob q n fun z=>he (hx b z),fun b ob q he=>u.there b ob q fun z=>he (hx b z),u.mU,u.oz,u.qx⟩
end
def Ny (h:Heap) (H:Hp):List zdU:=(zaE h.objs.size).filter fun a=>(H a).isSome
def BA (h:Heap) (H:Hp):Heap:=zcG h (Ny h H)
theorem IE(h:Heap)(H:Hp):(BA h H).objs.size=h.objs.size:=PySem.W.hideAll_size _ _
theorem Ks{h:Heap}{H:Hp}{b:zdU}{o:Obj}(e:h.get? b=some o)(n:H b=none):(BA h H).get? b=some o:=
 zdG _ e fun hm=>by
  have q:(H b).isSome=true:=(zcy.mp hm).2;rw[n] at q;simp at q
theorem NL{h:Heap}{H:Hp}{b:zdU}{o:Obj}(e:(BA h H).get? b=some o):h.get? b=some o/\H b=none:=by
 have e':h.get? b=some o:=zcX (Ny h H) e;refine⟨e',?_⟩;cases q:H b with
 |none=>rfl
 |some x=>
  have hm:b∈Ny h H:=zcy.mpr ⟨zbh.mpr (Heap.lt_size e'),by simp[q]⟩;have z:(BA h H).get? b=none:=PySem.W.hideAll_none (Ny h H) hm;rw[z] at e;cases e
def NM (g h:Heap) (L:zdU):List (zdU×Obj):=(zaE h.objs.size).filterMap fun a=>if a=L\/(g.get? a).isSome=true then none else (h.get? a).map fun o=>(a,o)
def rest (g h:Heap) (L d:zdU):List (zdU×Obj):=(NM g h L).filter fun p=>decide (p.1≠d)
structure Mod(K:zaa)(mg:Str->Option zdV)(base:Heap):Prop where
 TQ:K.In base
 glob:base.Ns zd1 mg
 blt:∃mb,base.Ns builtinsNs mb/\∀x:Str,x≠"__name__"->mb x=bootBuiltins x
 nolimit:base.NoLimit
structure Cx where
 prog:zd6
 w:zdW
 K:zaa
 mg:Str->Option zdV
 base:Heap
 A:zd5
 N:List Str
 s₀:zd4
 H₀:Hp
 env:Env
 outer:List Env
 stack:List Env
 ex:List zdU
 fn:Str->Bool
 calm:Bool
 pn:List (zdU×Obj)
 xe:zdV->zd4->Prop
def gp (l:List Env):List zdU:=l.filterMap (·.frame)
abbrev Cx.fs (X:Cx):List zdU:=gp X.outer
def Wg (sc:Scope) (x:Str):Prop:=sc.names.lookup x=some .local\/sc.names.lookup x=some .cell\/sc.names.lookup x=some .free
def Loc (sc:Scope) (x:Str):Prop:=sc.names.lookup x=some .local\/sc.names.lookup x=some .cell
def Look (env:Env) (h:Heap) (m:Str->Option zdV) (x:Str) (u:zdV):Prop:=
 (env.kindOf x=some .local/\m x=some u)\/((env.kindOf x=some .cell\/env.kindOf x=some .free)/\∃c,env.cells.lookup x=some c/\h.IsCell c (some u))
structure Cx.Ok(X:Cx):Prop where
 mod:Mod X.K X.mg X.base
 kind:X.env.scope.kind=.function
 glob:X.env.globals=zd1
 blt:X.env.builtins=builtinsNs
 above:X.s₀.heap.objs.size<=X.env.locals
 inj:∀x y c,X.env.cells.lookup x=some c->X.env.cells.lookup y=some c->x=y
 has:∀x,(X.env.kindOf x=some .cell\/X.env.kindOf x=some .free)->∃c,X.env.cells.lookup x=some c
 TR:∀x c,X.fn x=true->X.env.cells.lookup x=some c->X.s₀.heap.objs.size<=c
 hd:X.calm=true->X.A.handled=none
 frames:X.A.frames=some X.stack
 Wh:X.stack=X.outer\/(X.stack=X.env::X.outer/\X.env.frame=some X.env.locals)
 ZI:∀b∈X.ex,b≠X.env.locals/\∀x c,X.env.cells.lookup x=some c->c≠b
 bs:∀b o,X.base.get? b=some o->X.s₀.heap.get? b=some o/\X.H₀ b=none
 Kt:X.base.objs.size<=X.s₀.heap.objs.size
 Ku:∀b o,X.base.get? b=some o->b ∉ X.ex
 NN:∀b∈X.ex,b ∉ X.fs
 uw:X.s₀.heap.FunFrames X.base X.outer
 Pg:∀b∈X.fs,X.H₀ b=none
structure Inv(X:Cx)(pins:List (zdU×Obj))(σ:List (Option V))(H:Hp)(s:zd4):Prop where
 ok:X.Ok
 os:s.os=X.s₀.os
 bare:AllBare s.gens
 base:Un X.fs X.ex X.H₀ H X.s₀.heap s.heap
 loc:∃m,s.heap.Ns X.env.locals m/\∀(i:Nat) (x:Str) (v:V),X.N[i]?=some x->σ[i]?=some (some v)->Wg X.env.scope x->∃u,RelV v u/\Look X.env s.heap m x u
 cell:∀x c,X.env.cells.lookup x=some c->∃v,s.heap.IsCell c v
 free:H X.env.locals=none
 oA:∀x c,X.env.cells.lookup x=some c->H c=none
 pin:∀p∈X.pn++pins,s.heap.get? p.1=some p.2/\H p.1=none/\p.1≠X.env.locals/\p.1 ∉ X.fs/\∀v,p.2.data≠.cell v
 cJ:sD X.prog X.w H s.heap
 len:σ.length=X.N.length
section
variable{X:Cx}{pins:List (zdU×Obj)}{σ:List (Option V)}{H H':Hp}{s:zd4}{h':Heap}
theorem Cx.Ok.Xn(ok:X.Ok){b:zdU}{o:Obj}(e:X.base.get? b=some o):b ∉ X.fs:=fun hb=>by
 have:=(ok.uw.mem hb).1;rw[e] at this;cases this
theorem Inv.bs(I:Inv X pins σ H s):∀b o,X.base.get? b=some o->s.heap.get? b=some o/\H b=none:=fun b o e=>
 ⟨I.base.keep b o (I.ok.bs b o e).1 (I.ok.bs b o e).2 (I.ok.Xn e) (I.ok.Ku b o e),I.base.free b o (I.ok.bs b o e).1 (I.ok.bs b o e).2 (I.ok.Ku b o e)⟩
theorem Inv.bk(I:Inv X pins σ H s):∀b o,X.base.get? b=some o->s.heap.get? b=some o:=fun b o e=>(I.bs b o e).1
theorem Inv.mod(I:Inv X pins σ H s):Mod X.K X.mg X.base:=I.ok.mod
theorem Inv.sE(I:Inv X pins σ H s):X.K.In s.heap:=I.ok.mod.TQ.keeps I.bk
theorem Inv.fr(I:Inv X pins σ H s):∃m,Fr X.base X.env.locals s.heap m:=
 let ⟨m,hn,_⟩:=I.loc
 ⟨m,hn,I.bk,zaA I.ok.Kt I.ok.above⟩
theorem Inv.lt(I:Inv X pins σ H s):X.env.locals<s.heap.objs.size:=let ⟨_,hn,_⟩:=I.loc;hn.lt
theorem Inv.sz(I:Inv X pins σ H s):X.s₀.heap.objs.size<=s.heap.objs.size:=zaA I.ok.above (zc6 I.lt)
theorem Inv.Xo(I:Inv X pins σ H s){a:zdU}(h:s.heap.objs.size<=a):a ∉ X.fs:=fun hb=>by
 obtain⟨_,o,ho,_⟩:=I.ok.uw.mem hb;exact absurd (zaM (Heap.lt_size ho) (zaA I.sz h)) (zbL _)
theorem Inv.QQ(I:Inv X pins σ H s):∀x c,X.env.cells.lookup x=some c->c≠X.env.locals:=fun x c e z=>by
 obtain⟨v,o,ho,hd⟩:=I.cell x c e;obtain⟨m,⟨o',es,ep,xn,TU,_⟩,_⟩:=I.loc;rw[z,xn] at ho;cases ho;rw[TU] at hd;cases hd
theorem Inv.uw(I:Inv X pins σ H s):s.heap.FunFrames X.base X.outer:=by
 have all:∀(l:List Env),(∀b∈gp l,b∈X.fs)->X.s₀.heap.FunFrames X.base l->s.heap.FunFrames X.base l:=by
  intro l
  induction l with
  |nil=>intro _ _;trivial
  |cons env r ih=>
   intro hs hl;obtain⟨hk,⟨L,o,hf,hn,ho,hd⟩,hr⟩:=hl;have hL:L∈X.fs:=hs L (by unfold gp;rw[zcL,hf];exact zaq);obtain⟨sl,e⟩:=I.base.slot L o ho (I.ok.Pg L hL) hL fun z=>I.ok.NN L z hL;exact⟨hk,⟨L,_,hf,hn,e,hd⟩,ih (fun b hb=>hs b (by unfold gp;rw[zcL,hf];exact zam _ hb)) hr⟩
 exact all X.outer (fun _ hb=>hb) I.ok.uw
theorem Inv.stack(I:Inv X pins σ H s):s.heap.FunFrames X.base X.stack:=by
 rcases I.ok.Wh with e |⟨e,hf⟩
 ·rw[e];exact I.uw
 ·rw[e];obtain⟨m,hn,_⟩:=I.loc;refine .cons (by rw[I.ok.kind];decide) hf hn ?_ I.uw;exact Heap.get?_none_of_le (zaA I.ok.Kt I.ok.above)
theorem Inv.ux(I:Inv X pins σ H s):∀b∈gp X.stack,b∈X.env.locals::X.fs:=fun b hb=>by
 rcases I.ok.Wh with e |⟨e,hf⟩
 ·rw[e] at hb;exact zam _ hb
 ·rw[e] at hb;unfold gp at hb;rw[zcL,hf] at hb;exact hb
theorem Inv.wV(I:Inv X pins σ H s):∀b∈gp X.stack,H b=none:=fun b hb=>by
 rcases zak.mp (I.ux b hb) with e |hb
 ·rw[e];exact I.free
 ·obtain⟨_,o,ho,_⟩:=I.ok.uw.mem hb;exact I.base.free b o ho (I.ok.Pg b hb) fun z=>I.ok.NN b z hb
theorem Inv.step{g':Array GenState}{t':Nat}{d':Drawn}{ch:List zdU}(I:Inv X pins σ H s)
 (IF:∀b∈ch,(b∈X.ex\/X.s₀.heap.objs.size<=b)/\b≠X.env.locals/\(∀x c,X.env.cells.lookup x=some c->c≠b)/\∀p∈X.pn++pins,p.1≠b)
 (keep:∀b o,b≠X.env.locals->b ∉ X.fs->b ∉ ch->s.heap.get? b=some o->H b=none->h'.get? b=some o)
 (slot:∀b o,b≠X.env.locals->b∈X.fs->b ∉ ch->s.heap.get? b=some o->H b=none->∃sl,h'.get? b=some {o with slots:=sl}) (free:∀b o,b ∉ ch->s.heap.get? b=some o->H b=none->H' b=none)
 (there:∀b o,b ∉ ch->s.heap.get? b=some o->∃o',h'.get? b=some o')
 (mU:∀b xs,H b=some (.tup xs)->H' b=some (.tup xs)) (oz:∀b o u,H b=some (.Ft o u)->H' b=some (.Ft o u)) (qx:∀b ps,H b=some (.Nw ps)->∃more,H' b=some (.Nw (ps++more)))
 (ns:∀m,s.heap.Ns X.env.locals m->h'.Ns X.env.locals m) (cJ:sD X.prog X.w H' h') (hg:AllBare g') :
 Inv X pins σ H' {s with heap:=h',gens:=g',drawn:=d',toks:=t' }:=by
 have Wi:∀b o,X.s₀.heap.get? b=some o->b≠X.env.locals:=fun b o e=>zaS (zaM (Heap.lt_size e) I.ok.above);have Wj:∀b o,X.s₀.heap.get? b=some o->b ∉ X.ex->b ∉ ch:=fun b o e hx hb=>by
  rcases(IF b hb).1 with z |z
  ·exact hx z
  ·exact absurd (zaM (Heap.lt_size e) z) (zbL _)
 have cellK:∀x c,X.env.cells.lookup x=some c->∀v,s.heap.IsCell c v->h'.IsCell c v:=fun x c e v ⟨o,ho,hd⟩=>by
  have TV:c ∉ ch:=fun z=>(IF c z).2.2.1 x c e rfl;by_cases hc:c∈X.fs
  ·obtain⟨sl,q⟩:=slot c o (I.QQ x c e) hc TV ho (I.oA x c e);exact⟨_,q,hd⟩
  ·exact⟨o,keep c o (I.QQ x c e) hc TV ho (I.oA x c e),hd⟩
 refine⟨I.ok,I.os,hg,⟨fun b o e n hb hx=>?_,fun b o e n hb hx=>?_,fun b o e n hx=>?_,fun b o e hx=>?_,fun b xs e=>mU b xs (I.base.mU b xs e),fun b o xs e=>oz b o xs (I.base.oz b o xs e),fun b ps e=>?_⟩,?_,fun x c e=>?_,?_,fun x c e=>?_,fun p hp=>?_,cJ,I.len⟩
 ·exact keep b o (Wi b o e) hb (Wj b o e hx) (I.base.keep b o e n hb hx) (I.base.free b o e n hx)
 ·obtain⟨sl,e1⟩:=I.base.slot b o e n hb hx;obtain⟨QP,e2⟩:=slot b _ (Wi b o e) hb (Wj b o e hx) e1 (I.base.free b o e n hx);exact⟨QP,e2⟩
 ·obtain⟨o',e1⟩:=I.base.there b o e hx;exact free b o' (Wj b o e hx) e1 (I.base.free b o e n hx)
 ·obtain⟨o',e1⟩:=I.base.there b o e hx;exact there b o' (Wj b o e hx) e1
 ·obtain⟨m1,e1⟩:=I.base.qx b ps e;obtain⟨m2,e2⟩:=qx b _ e1;exact⟨m1++m2,by rw[e2,zcT]⟩
 ·obtain⟨m,hn,hl⟩:=I.loc;refine⟨m,ns m hn,fun i x v e1 e2 e3=>?_⟩;obtain⟨u,r,l⟩:=hl i x v e1 e2 e3;refine⟨u,r,?_⟩;rcases l with l |⟨k,c,e,z⟩
  ·exact .inl l
  ·exact .inr ⟨k,c,e,cellK x c e _ z⟩
 ·obtain⟨v,z⟩:=I.cell x c e;exact⟨v,cellK x c e v z⟩
 ·obtain⟨m,⟨o,_,_,ho,_⟩,_⟩:=I.loc;exact free _ o (fun z=>(IF _ z).2.1 rfl) ho I.free
 ·obtain⟨v,o,ho,hd⟩:=I.cell x c e;exact free c o (fun z=>(IF c z).2.2.1 x c e rfl) ho (I.oA x c e)
 ·obtain⟨e,n,ne,nf,d⟩:=I.pin p hp;have TV:p.1 ∉ ch:=fun z=>(IF p.1 z).2.2.2 p hp rfl;exact⟨keep p.1 p.2 ne nf TV e n,free p.1 p.2 TV e n,ne,nf,d⟩
theorem Inv.un{t':Nat}(I:Inv X pins σ H s)(u:Un X.fs [] H H' s.heap h')(cJ:sD X.prog X.w H' h'):Inv X pins σ H' {s with heap:=h',toks:=t' }:=by
 obtain⟨m,⟨o,es,ep,ho,r⟩,_⟩:=id I.loc;obtain⟨sl,hL⟩:=u.any ho I.free (by simp);exact I.step (g':=s.gens) (d':=s.drawn) (ch:=[]) (fun _ z=>nomatch z) (fun b o _ hb _ e n=>u.keep b o e n hb (by simp)) (fun b o _ hb _ e n=>u.slot b o e n hb (by simp)) (fun b o _ e n=>u.free b o e n (by simp)) (fun b o _ e=>u.there b o e (by simp)) u.mU u.oz u.qx (fun m' hm=>by
  obtain⟨o',TX,Xp,xn,r'⟩:=hm;rw[ho] at xn;cases xn;exact⟨_,TX,Xp,hL,r'⟩) cJ I.bare
theorem Inv.call{g':Array GenState}{t':Nat}{d':Drawn}{ch:List zdU}(I:Inv X pins σ H s)(u:Un (gp X.stack) ch H H' s.heap h')(cJ:sD X.prog X.w H' h')(hg:AllBare g')
 (IF:∀b∈ch,(b∈X.ex\/X.s₀.heap.objs.size<=b)/\b≠X.env.locals/\(∀x c,X.env.cells.lookup x=some c->c≠b)/\∀p∈X.pn++pins,p.1≠b) :
 Inv X pins σ H' {s with heap:=h',gens:=g',drawn:=d',toks:=t' }:=by
 obtain⟨m,⟨o,es,ep,ho,r⟩,_⟩:=id I.loc;obtain⟨sl,hL⟩:=u.any ho I.free fun z=>(IF _ z).2.1 rfl;exact I.step (ch:=ch) IF (fun b o hL hb hc e n=>u.keep b o e n (fun z=>(zak.mp (I.ux b z)).elim hL hb) hc) (fun b o _ _ hc e n=>u.any e n hc) (fun b o hc e n=>u.free b o e n hc) (fun b o hc e=>u.there b o e hc) u.mU u.oz u.qx (fun m' hm=>by
  obtain⟨o',TX,Xp,xn,r'⟩:=hm;rw[ho] at xn;cases xn;exact⟨_,TX,Xp,hL,r'⟩) cJ hg
theorem Inv.turned{t':Nat}{it:zdU}(I:Inv X pins σ H s)(k:∀b o,b≠it->s.heap.get? b=some o->h'.get? b=some o)(hn:H it=none)(hL:it≠X.env.locals)
 (h1:it∈X.ex\/X.s₀.heap.objs.size<=it) (h2:∀x c,X.env.cells.lookup x=some c->c≠it) (h3:∀p∈X.pn++pins,p.1≠it):Inv X pins σ H {s with heap:=h',toks:=t' }:=by
 have TY:∀b u,H b=some u->b≠it:=fun b u e z=>by rw[z,hn] at e;cases e
 refine I.step (g':=s.gens) (d':=s.drawn) (ch:=[it]) (fun b hb=>?_) (fun b o _ _ hc e _=>k b o (fun z=>hc (by simp[z])) e) (fun b o _ _ hc e _=>⟨o.slots,k b o (fun z=>hc (by simp[z])) e⟩) (fun _ _ _ _ n=>n)
  (fun b o hc e=>⟨o,k b o (fun z=>hc (by simp[z])) e⟩) (fun _ _ e=>e) (fun _ _ _ e=>e) (fun b ps e=>⟨#[],by rw[e];simp⟩) (fun m hm=>?_) (fun b u e=>?_) I.bare
 ·have e:b=it:=by simpa using hb
  subst e;exact⟨h1,hL,h2,h3⟩
 ·obtain⟨o,es,ep,ho,r⟩:=hm;exact⟨o,es,ep,k _ o (Ne.symm hL) ho,r⟩
 ·refine(I.cJ b u e).sI (fun c v hc q=>k c v ?_ q) (fun _ q=>q) fun _ _ q=>q;rcases hc with z |z
  ·rw[z];exact TY b u e
  ·exact TY c _ z
theorem Inv.tok(I:Inv X pins σ H s)(t:Nat):Inv X pins σ H {s with toks:=t}:=I.un (h':=s.heap) (t':=t) Un.refl I.cJ
theorem Inv.kept{t':Nat}(I:Inv X pins σ H s)(k:∀b u,s.heap.get? b=some u->h'.get? b=some u):Inv X pins σ H {s with heap:=h',toks:=t' }:=I.un (Un.kept k) (I.cJ.kept k)
theorem Inv.laid{a:zdU}{o:HO}{t':Nat}(I:Inv X pins σ H s)(k:∀b u,s.heap.get? b=some u->h'.get? b=some u)(hp:s.heap.objs.size<=a)(new:eK X.prog X.w (upd H a o) h' a o) :
 Inv X pins σ (upd H a o) {s with heap:=h',toks:=t' }:=I.un (Un.laid k hp (I.cJ.fresh hp)) (I.cJ.laid k hp new)
theorem Inv.write{x e:zdU}{o:HO}{t':Nat}(I:Inv X pins σ H s)(mu:Wf (H x))(he:e=x\/H e=some (.own x))(k:∀b u,b≠e->s.heap.get? b=some u->h'.get? b=some u)(S7:∃u,h'.get? e=some u)
 (new:eK X.prog X.w (upd H x o) h' x o):Inv X pins σ (upd H x o) {s with heap:=h',toks:=t' }:=I.un (Un.write mu he k S7) (I.cJ.write mu he k S7 new)
theorem Inv.G2{G3:List (zdU×Obj)}(I:Inv X pins σ H s)(h:∀p∈G3,s.heap.get? p.1=some p.2/\H p.1=none/\p.1≠X.env.locals/\p.1 ∉ X.fs/\∀v,p.2.data≠.cell v):Inv X G3 σ H s:=
 ⟨I.ok,I.os,I.bare,I.base,I.loc,I.cell,I.free,I.oA,fun p hp=>(zaj.mp hp).elim (fun z=>I.pin p (zbi _ z)) (h p),I.cJ,I.len⟩
theorem Dj{N:List Str}(hN:N.Nodup){i j:Nat}{x:Str}(a:N[i]?=some x)(b:N[j]?=some x):i=j:=by
 obtain⟨h1,e1⟩:=zao.mp a;obtain⟨h2,e2⟩:=zao.mp b;exact(zbX hN).mp (e1.trans e2.symm)
theorem AI{M:Model}{A:zd5}{E:zdV->zd4->Prop}{i:Nat}{x:Str}{v:V}{u:zdV}{Q:Unit->zd4->Prop}(I:Inv X pins σ H s)(hN:X.N.Nodup)(hi:X.N[i]?=some x)(hx:Loc X.env.scope x)(r:RelV v u)
 (h:∀s',Inv X pins (σ.set i (some v)) H s'->(∃a,Heap.SameBut a s.heap s'.heap/\(a=X.env.locals\/X.env.cells.lookup x=some a))->Q () s') (hf:X.fn x=true\/X.env.scope.names.lookup x=some .local:=by first |exact .inl rfl |exact .inr rfl |assumption):wpAny M A (storeName X.env x u) Q E s:=by
 obtain⟨m,hn,hl⟩:=id I.loc;have Xq:(X.env.scope.kind==.class ||(X.env.scope.kind==.module&&X.env.locals != X.env.globals))=false:=by rw[I.ok.kind];rfl
 have TZ:i<σ.length:=by rw[I.len];exact(zao.mp hi).1
 have QQ:=I.QQ;have tracked:∀ {a:zdU} {h':Heap},(∃o,s.heap.get? a=some o/\H a=none)->Heap.SameBut a s.heap h'->sD X.prog X.w H h':=fun {a h'} ha hs b ob e=>by
  obtain⟨_,_,sJ⟩:=ha;refine(I.cJ b ob e).sI (fun c w' hc q=>(hs.2 c ?_).trans q) (fun _ q=>q) fun _ _ q=>q
  rintro rfl
  rcases hc with rfl |hc
  ·rw[sJ] at e;cases e
  ·rw[sJ] at hc;cases hc
 rcases hx with hk |hk
 ·refine wpAny_storeName_local hk hn (fun h' hn' hs=>?_) Xq;obtain⟨oL,_,_,hoL,_⟩:=id hn;refine h _ ⟨I.ok,I.os,I.bare,⟨fun b o e n hb hx=>?_,fun b o e n hb hx=>?_,I.base.free,fun b o e hx=>?_,I.base.mU,I.base.oz,I.base.qx⟩,⟨_,hn',fun j y v' e1 e2 e3=>?_⟩,fun y c e=>?_,I.free,I.oA,fun p hp=>?_,tracked ⟨oL,hoL,I.free⟩ hs,by simpa using I.len⟩ ⟨_,hs,.inl rfl⟩
  ·exact(hs.2 b (zaS (zaM (Heap.lt_size e) I.ok.above))).trans (I.base.keep b o e n hb hx)
  ·obtain⟨sl,e1⟩:=I.base.slot b o e n hb hx;exact⟨sl,(hs.2 b (zaS (zaM (Heap.lt_size e) I.ok.above))).trans e1⟩
  ·obtain⟨o',e1⟩:=I.base.there b o e hx;exact⟨o',(hs.2 b (zaS (zaM (Heap.lt_size e) I.ok.above))).trans e1⟩
  ·by_cases hj:j=i
   ·subst hj;rw[hi] at e1;cases e1;rw[zbj TZ] at e2;cases e2;exact⟨u,r,.inl ⟨hk,by simp⟩⟩
   ·rw[zbm (Ne.symm hj)] at e2;obtain⟨u',r',q⟩:=hl j y v' e1 e2 e3;refine⟨u',r',?_⟩;rcases q with ⟨k,e⟩ |⟨k,c,e,z⟩
    ·refine .inl ⟨k,?_⟩;have:y≠x:=fun e=>hj (Dj hN e1 (e▸hi));simp[this,e]
    ·exact .inr ⟨k,c,e,z.sameBut hs (QQ y c e)⟩
  ·obtain⟨w',z⟩:=I.cell y c e;exact⟨w',z.sameBut hs (QQ y c e)⟩
  ·obtain⟨e,n,ne,nf,d⟩:=I.pin p hp;exact⟨(hs.2 p.1 ne).trans e,n,ne,nf,d⟩
 ·have T1:X.fn x=true:=by
   rcases hf with z |z
   ·exact z
   ·rw[z] at hk;cases hk
  obtain⟨c,hc⟩:=I.ok.has x (.inl hk);obtain⟨w',z⟩:=I.cell x c hc;refine wpAny_storeName_cell I.ok.kind hk hc z (fun h' S8 hs=>?_);obtain⟨oc,ZJ,Xr⟩:=id z;refine h {s with heap:=h' } ⟨I.ok,I.os,I.bare,⟨fun b o e n hb hx=>?_,fun b o e n hb hx=>?_,I.base.free,fun b o e hx=>?_,I.base.mU,I.base.oz,I.base.qx⟩,⟨m,hn.sameBut hs (Ne.symm (QQ x c hc)),fun j y v' e1 e2 e3=>?_⟩,fun y c' e=>?_,I.free,I.oA,fun p hp=>?_,tracked ⟨oc,ZJ,I.oA x c hc⟩ hs,by simpa using I.len⟩ ⟨c,hs,.inr hc⟩
  ·exact(hs.2 b (zaS (zaM (Heap.lt_size e) (I.ok.TR x c T1 hc)))).trans (I.base.keep b o e n hb hx)
  ·obtain⟨sl,e1⟩:=I.base.slot b o e n hb hx;exact⟨sl,(hs.2 b (zaS (zaM (Heap.lt_size e) (I.ok.TR x c T1 hc)))).trans e1⟩
  ·obtain⟨o',e1⟩:=I.base.there b o e hx;exact⟨o',(hs.2 b (zaS (zaM (Heap.lt_size e) (I.ok.TR x c T1 hc)))).trans e1⟩
  ·by_cases hj:j=i
   ·subst hj;rw[hi] at e1;cases e1;rw[zbj TZ] at e2;cases e2;exact⟨u,r,.inr ⟨.inl hk,c,hc,S8⟩⟩
   ·rw[zbm (Ne.symm hj)] at e2;obtain⟨u',r',q⟩:=hl j y v' e1 e2 e3;refine⟨u',r',?_⟩;rcases q with q |⟨k,c',e,z'⟩
    ·exact .inl q
    ·refine .inr ⟨k,c',e,z'.sameBut hs ?_⟩
     rintro rfl
     exact hj (Dj hN e1 (I.ok.inj _ _ _ e hc▸hi))
  ·by_cases ZK:c'=c
   ·subst ZK;exact⟨_,S8⟩
   ·obtain⟨w2,z2⟩:=I.cell y c' e;exact⟨w2,z2.sameBut hs ZK⟩
  ·obtain⟨e,n,ne,nf,d⟩:=I.pin p hp;refine⟨(hs.2 p.1 ?_).trans e,n,ne,nf,d⟩;intro q;rw[q,ZJ] at e;have q':oc=p.2:=zaF.inj e;exact d w' (by rw[<- q'];exact Xr)
theorem Dl{M:Model}{A:zd5}{E:zdV->zd4->Prop}{i:Nat}{x:Str}{v:V}{u:zdV}{Q:Unit->zd4->Prop}(I:Inv X pins σ H s)(hN:X.N.Nodup)(hi:X.N[i]?=some x)(hx:Loc X.env.scope x)(r:RelV v u)
 (h:∀s',Inv X pins (σ.set i (some v)) H s'->Q () s') (hf:X.fn x=true\/X.env.scope.names.lookup x=some .local:=by first |exact .inl rfl |exact .inr rfl |assumption):wpAny M A (storeName X.env x u) Q E s:=
 AI I hN hi hx r (fun s' I' _=>h s' I') hf
theorem Inv.T2{s':zd4}{ch:List zdU}(I:Inv X pins σ H s)(ho:s'.os=s.os)(u:Un (gp X.stack) ch H H' s.heap s'.heap)(cJ:sD X.prog X.w H' s'.heap)(hg:AllBare s'.gens)
 (IF:∀b∈ch,(b∈X.ex\/X.s₀.heap.objs.size<=b)/\b≠X.env.locals/\(∀x c,X.env.cells.lookup x=some c->c≠b)/\∀p∈X.pn++pins,p.1≠b):Inv X pins σ H' s':=by
 obtain⟨h',g',d',t',o'⟩:=s';have e:o'=s.os:=ho;subst e;exact I.call (g':=g') (t':=t') (d':=d') u cJ hg IF
end
abbrev XK:=zdV->Option zdU->Hp->Prop
abbrev St:=List (Option V)
abbrev VK:=V->Hp->Prop
abbrev TE:=St->Hp->VK->Prop
abbrev TT:=St->Hp->(Bool->Hp->Prop)->Prop
abbrev TA:=St->Hp->(List V->Hp->Prop)->Prop
structure Ends where
 nx:St->Hp->Prop
 rt:VK
 bk:St->Hp->Prop:=fun _ _=>False
 ct:St->Hp->Prop:=fun _ _=>False
abbrev TS:=Ends->St->Hp->Prop
def EP (X:Cx) (pins:List (zdU×Obj)) (σ:St) (Q:VK) (u:zdV) (s':zd4):Prop:=∃v H',Inv X pins σ H' s'/\RelV v u/\Q v H'
def TP (X:Cx) (pins:List (zdU×Obj)) (σ:St) (Q:Bool->Hp->Prop) (b:Bool) (s':zd4):Prop:=∃H',Inv X pins σ H' s'/\Q b H'
def AP (X:Cx) (pins:List (zdU×Obj)) (σ:St) (Q:List V->Hp->Prop) (us:List zdV) (s':zd4):Prop:=∃vs H',Inv X pins σ H' s'/\Vals vs us/\Q vs H'
def SP (X:Cx) (pins:List (zdU×Obj)) (D:Ends) (f:Flow) (s':zd4):Prop:=
 match f with
 |.next=>∃σ' H',Inv X pins σ' H' s'/\D.nx σ' H'
 |.brk=>∃σ' H',Inv X pins σ' H' s'/\D.bk σ' H'
 |.cont=>∃σ' H',Inv X pins σ' H' s'/\D.ct σ' H'
 |.ret u=>∃v σ' H',Inv X pins σ' H' s'/\RelV v u/\D.rt v H'
def PE (X:Cx) (e:Expr) (t:TE):Prop:=
 ∀(pins:List (zdU×Obj)) (s:zd4) (σ:St) (H:Hp) (Q:VK),Inv X pins σ H s->t σ H Q->wpAny (model X.prog X.w) X.A (eval e X.env) (EP X pins σ Q) X.xe s
def PT (X:Cx) (e:Expr) (t:TT):Prop:=
 ∀(pins:List (zdU×Obj)) (s:zd4) (σ:St) (H:Hp) (Q:Bool->Hp->Prop),Inv X pins σ H s->t σ H Q->wpAny (model X.prog X.w) X.A (isTrue e X.env (eval e X.env)) (TP X pins σ Q) X.xe s
def PW (X:Cx) (e:Expr) (t:TT):Prop:=
 ∀(whole:Sem zdV) (pins:List (zdU×Obj)) (s:zd4) (σ:St) (H:Hp) (Q:Bool->Hp->Prop),Inv X pins σ H s->t σ H Q->wpAny (model X.prog X.w) X.A (isTrue e X.env whole) (TP X pins σ Q) X.xe s
theorem PW.pt{X:Cx}{e:Expr}{t:TT}(h:PW X e t):PT X e t:=h _
def PA (X:Cx) (es:List Expr) (t:TA):Prop:=
 ∀(pos:Pos) (pins:List (zdU×Obj)) (s:zd4) (σ:St) (H:Hp) (Q:List V->Hp->Prop),Inv X pins σ H s->t σ H Q->wpAny (model X.prog X.w) X.A (spliced (backTo pos (zd0 es X.env))) (AP X pins σ Q) X.xe s
def PS (X:Cx) (st:Stmt) (t:TS):Prop:=
 ∀(pins:List (zdU×Obj)) (s:zd4) (σ:St) (H:Hp) (D:Ends),Inv X pins σ H s->t D σ H->wpAny (model X.prog X.w) X.A (exec st X.env) (SP X pins D) X.xe s
def Fu (X:Cx) (st:List Stmt) (t:TS):Prop:=
 ∀(pins:List (zdU×Obj)) (s:zd4) (σ:St) (H:Hp) (D:Ends),Inv X pins σ H s->t D σ H->wpAny (model X.prog X.w) X.A (execs st X.env) (SP X pins D) X.xe s
theorem eR{α:Type}{t:Sem α}{Q Q':α->zd4->Prop}{M:Model}{A:zd5}{E:zdV->zd4->Prop}{s:zd4}(h:wpAny M A t Q E s)(hQ:∀a s,Q a s->Q' a s):wpAny M A t Q' E s:=wpAny_mono h hQ fun _ _ x=>x
section
variable{X:Cx}
theorem bin{a b:Expr}{ta tb:TE}(ha:PE X a ta)(hb:PE X b tb){pins:List (zdU×Obj)}{s:zd4}{σ:St}{H:Hp}{R:V->V->Hp->Prop}(I:Inv X pins σ H s)(h:ta σ H fun x H1=>tb σ H1 fun y H2=>R x y H2)
 {α:Type} {Q:α->zd4->Prop} {f:zdV->zdV->Sem α}
 (hf:∀v u s2 x y H2,Inv X pins σ H2 s2->RelV x v->RelV y u->R x y H2->wpAny (model X.prog X.w) X.A (f v u) Q X.xe s2) :
 wpAny (model X.prog X.w) X.A (eval a X.env) (fun v s₁=>wpAny (model X.prog X.w) X.A (eval b X.env) (fun u s₂=>wpAny (model X.prog X.w) X.A (f v u) Q X.xe s₂) X.xe s₁) X.xe s:=by
 refine eR (ha pins s σ H _ I h) fun v s1 zqz=>?_;obtain⟨x,H1,I1,r1,q1⟩:=zqz;refine eR (hb pins s1 σ H1 _ I1 q1) fun u s2 zqz=>?_;obtain⟨y,H2,I2,r2,q2⟩:=zqz;exact hf v u s2 x y H2 I2 r1 r2 q2
def ZL (Q:V->Prop):Option (Option V)->Prop
 |some (some v)=>Q v
 |_=>False
theorem QR{Q:V->Prop}:∀ {o:Option (Option V)},ZL Q o->∃v,o=some (some v)/\Q v
 |some (some v),h=>⟨v,rfl,h⟩
 |some none,h=>h.elim
 |none,h=>h.elim
def gO (i:Nat):TE:=fun σ H Q=>ZL (fun v=>Q v H) σ[i]?
def tC (v:V):TE:=fun _ H Q=>Q v H
theorem QS{i:Nat}{x:Str}{pos:Pos}(hN:X.N[i]?=some x)(hv:Wg X.env.scope x)(hd:(x==("__debug__":Str))=false:=by decide)(IG:(x==("__classdict__":Str))=false:=by decide):PE X (.Name x pos) (gO i):=by
 intro pins s σ H Q I h;obtain⟨v,e,h⟩:=QR h;obtain⟨m,hn,hl⟩:=I.loc;obtain⟨u,r,l⟩:=hl i x v hN e hv;have fin:EP X pins σ Q u s:=⟨v,H,I,r,h⟩
 rcases l with ⟨hk,hm⟩ |⟨hk,c,hc,G4⟩
 ·exact wpAny_Name (wpAny_loadName_local I.ok.kind hk hn hm fin) hd
 ·rcases hk with hk |hk
  ·exact wpAny_Name (wpAny_loadName_cell I.ok.kind hk hc G4 fin) hd
  ·exact wpAny_Name (wpAny_loadName_free I.ok.kind hk hc G4 fin IG) hd
theorem ai{i j pos}:PE X (.Constant (.int i) j pos) (tC (.int i)):=fun _ _ _ H _ I h=>wpAny_Constant_int ⟨.int i,H,I.tok _,⟨_,rfl⟩,h⟩
theorem vA{b j pos}:PE X (.Constant (.bool b) j pos) (tC (.bl b)):=fun _ _ _ H _ I h=>Constant_bool ⟨.bl b,H,I,rfl,h⟩
theorem xo{j pos}:PE X (.Constant .none j pos) (tC .dh):=fun _ _ _ H _ I h=>Constant_none ⟨.dh,H,I,rfl,h⟩
theorem au{x j pos}:PE X (.Constant (.str x) j pos) (tC (.str x)):=fun _ _ _ H _ I h=>Calls.Constant_str ⟨.str x,H,I.tok _,⟨_,rfl⟩,h⟩
def Gl (X:Cx) (x:Str):Prop:=X.env.kindOf x=some .globalImplicit
theorem sL{E:zdV->zd4->Prop}{pins:List (zdU×Obj)}{s:zd4}{σ:St}{H:Hp}{x:Str}{u:zdV}{pos:Pos}{Q:zdV->zd4->Prop}(I:Inv X pins σ H s)(hg:Gl X x)(hm:X.mg x=some u)(h:Q u s)
 (hd:(x==("__debug__":Str))=false:=by decide):wpAny (model X.prog X.w) X.A (eval (.Name x pos) X.env) Q E s:=
 Calls.Name_function_global I.ok.kind hg (Calls.loadGlobal_global (by rw[I.ok.glob];exact I.mod.glob.keeps I.bk) hm h) hd
theorem xp{E:zdV->zd4->Prop}{pins:List (zdU×Obj)}{s:zd4}{σ:St}{H:Hp}{x:Str}{u:zdV}{pos:Pos}{Q:zdV->zd4->Prop}(I:Inv X pins σ H s)(hg:Gl X x)(hm:X.mg x=none)(hv:bootBuiltins x=some u)(h:Q u s)
 (hn:x≠"__name__":=by decide) (hd:(x==("__debug__":Str))=false:=by decide):wpAny (model X.prog X.w) X.A (eval (.Name x pos) X.env) Q E s:=by
 obtain⟨mb,h1,h2⟩:=I.mod.blt;exact Calls.Name_function_global I.ok.kind hg (Calls.loadGlobal_builtin (by rw[I.ok.glob];exact I.mod.glob.keeps I.bk) hm (by rw[I.ok.blt];exact h1.keeps I.bk) ((h2 x hn).trans hv) h) hd
theorem dR{x:Str}{v:V}{u:zdV}{pos:Pos}(hg:Gl X x)(hm:X.mg x=some u)(r:RelV v u)(hd:(x==("__debug__":Str))=false:=by decide):PE X (.Name x pos) (tC v):=
 fun _ _ _ H _ I h=>sL I hg hm ⟨v,H,I,r,h⟩ hd
theorem qh{x:Str}{v:V}{u:zdV}{pos:Pos}(hg:Gl X x)(hm:X.mg x=none)(hv:bootBuiltins x=some u)(r:RelV v u)(hn:x≠"__name__":=by decide)(hd:(x==("__debug__":Str))=false:=by decide):PE X (.Name x pos) (tC v):=
 fun _ _ _ H _ I h=>xp I hg hm hv ⟨v,H,I,r,h⟩ hn hd
variable{a b:Expr}{ta tb:TE}{pos:Pos}
def tB (t:TE):TT:=fun σ H Q=>t σ H fun x H1=>∃c,x=.bl c/\Q c H1
theorem iV{e:Expr}{t:TE}(h:PE X e t)(he:∀whole,isTrue e X.env whole=(do let v <- whole;standAt e.pos;holding [v] (truthy v)):=by intro _;rfl):PT X e (tB t):=by
 intro pins s σ H Q I hw;refine isTrue_plain (eR (h pins s σ H _ I hw) fun v s1 zqz=>?_) (he _);obtain⟨x,H1,I1,r1,q1⟩:=zqz;obtain⟨d,rfl,q⟩:=q1;cases r1;exact wpAny_truthy_bool ⟨H1,I1,q⟩
variable{tA Wk:TT}{rest:List Expr}
def QT (t u:TT):TT:=fun σ H Q=>t σ H fun c H1=>if c=true then u σ H1 Q else Q false H1
def Xs (t u:TT):TT:=fun σ H Q=>t σ H fun c H1=>if c=true then Q true H1 else u σ H1 Q
def T3 (t:TT):TT:=fun σ H Q=>t σ H fun c H1=>Q (!c) H1
theorem pw_and1(ha:PT X a tA):PW X (.BoolOp .And [a] pos) tA:=by
 intro wh pins s σ H Q I h;refine isTrue_and (eR (ha pins s σ H Q I h) fun c s1 e=>?_);cases c with
 |true=>exact isTrue_and_nil e
 |false=>exact e
theorem pw_or1(ha:PT X a tA):PW X (.BoolOp .Or [a] pos) tA:=by
 intro wh pins s σ H Q I h;refine isTrue_or (eR (ha pins s σ H Q I h) fun c s1 e=>?_);cases c with
 |false=>exact isTrue_or_nil e
 |true=>exact e
theorem pw_and(ha:PT X a tA)(hb:PW X (.BoolOp .And (b::rest) pos) Wk):PW X (.BoolOp .And (a::b::rest) pos) (QT tA Wk):=by
 intro wh pins s σ H Q I h;refine isTrue_and (eR (ha pins s σ H _ I h) fun c s1 zqz=>?_);obtain⟨H1,I1,q1⟩:=zqz;cases c with
 |true=>exact hb wh pins s1 σ H1 Q I1 q1
 |false=>exact⟨H1,I1,q1⟩
theorem pw_or(ha:PT X a tA)(hb:PW X (.BoolOp .Or (b::rest) pos) Wk):PW X (.BoolOp .Or (a::b::rest) pos) (Xs tA Wk):=by
 intro wh pins s σ H Q I h;refine isTrue_or (eR (ha pins s σ H _ I h) fun c s1 zqz=>?_);obtain⟨H1,I1,q1⟩:=zqz;cases c with
 |true=>exact⟨H1,I1,q1⟩
 |false=>exact hb wh pins s1 σ H1 Q I1 q1
theorem oB(ha:PT X a tA):PT X (.UnaryOp .Not a pos) (T3 tA):=by
 intro pins s σ H Q I h;exact isTrue_not (ha pins s σ H (fun c H1=>Q (!c) H1) I h)
def Kv (ta tb:TE):TE:=fun σ H Q=>ta σ H fun x H1=>∃c,x=.bl c/\if c=true then tb σ H1 Q else Q (.bl false) H1
def QU (ta tb:TE):TE:=fun σ H Q=>ta σ H fun x H1=>∃c,x=.bl c/\if c=true then Q (.bl true) H1 else tb σ H1 Q
def Kw (ta:TE):TE:=fun σ H Q=>ta σ H fun x H1=>∃c,x=.bl c/\Q (.bl (!c)) H1
theorem xq{op}{t:TE}(h:PE X a t):PE X (.BoolOp op [a] pos) t:=fun pins s σ H Q I hw=>BoolOp_one (h pins s σ H Q I hw)
theorem uy(ha:PE X a ta)(hb:PE X (.BoolOp .And (b::rest) pos) tb):PE X (.BoolOp .And (a::b::rest) pos) (Kv ta tb):=by
 intro pins s σ H Q I h;refine BoolOp_and (eR (ha pins s σ H _ I h) fun v s1 zqz=>?_);obtain⟨x,H1,I1,r1,q1⟩:=zqz;obtain⟨c,rfl,q1⟩:=q1;cases r1;refine wpAny_truthy_bool ?_;cases c with
 |true=>exact hb pins s1 σ H1 Q I1 q1
 |false=>exact⟨.bl false,H1,I1,rfl,q1⟩
theorem T4(ha:PE X a ta)(hb:PE X (.BoolOp .Or (b::rest) pos) tb):PE X (.BoolOp .Or (a::b::rest) pos) (QU ta tb):=by
 intro pins s σ H Q I h;refine BoolOp_or (eR (ha pins s σ H _ I h) fun v s1 zqz=>?_);obtain⟨x,H1,I1,r1,q1⟩:=zqz;obtain⟨c,rfl,q1⟩:=q1;cases r1;refine wpAny_truthy_bool ?_;cases c with
 |false=>exact hb pins s1 σ H1 Q I1 q1
 |true=>exact⟨.bl true,H1,I1,rfl,q1⟩
theorem QV(ha:PE X a ta):PE X (.UnaryOp .Not a pos) (Kw ta):=by
 intro pins s σ H Q I h;refine UnaryOp_ (eR (ha pins s σ H _ I h) fun v s1 zqz=>?_);obtain⟨x,H1,I1,r1,q1⟩:=zqz;obtain⟨c,rfl,q1⟩:=q1;cases r1;exact not_of (wpAny_truthy_bool ⟨.bl (!c),H1,I1,rfl,q1⟩)
def ZM (t:TT) (ta tb:TE):TE:=fun σ H Q=>t σ H fun c H1=>if c=true then ta σ H1 Q else tb σ H1 Q
end
def fH (K:zaa) (H:Hp) (a:zdU) (xs:List V):Prop:=
 Rd H a (.lst xs)\/
  ∃(o:Obj) (aY:Array zdV) (n:Nat),K.lookup a=some o/\o.cls=.type "list"/\o.dict=none/\o.data=.seq aY n/\aY.size<=zd2/\Vals xs aY.toList
def cv (K:zaa) (H:Hp) (a:zdU) (xs:List V):Prop:=
 Rd H a (.tup xs)\/
  ∃(o:Obj) (aY:Array zdV) (n:Nat),K.lookup a=some o/\o.cls=.type "tuple"/\o.data=.seq aY n/\aY.size<=zd2/\Vals xs aY.toList
def Xt:zdV->Option V
 |.none=>some .dh
 |.bool b=>some (.bl b)
 |.int i _=>some (.int i)
 |.str x _=>some (.str x)
 |.bytes b _=>some (.G1 b)
 |.float b _=>some (.QN b)
 |.ref a=>some (.ref a)
 |.type n=>some (.ty n)
 |_=>none
theorem RelV.abs{x:V}{u:zdV}(r:RelV x u):Xt u=some x:=by
 cases x with
 |dh=>cases r;rfl
 |bl _=>cases r;rfl
 |int _=>obtain⟨t,rfl⟩:=r;rfl
 |str _=>obtain⟨t,rfl⟩:=r;rfl
 |G1 _=>obtain⟨t,rfl⟩:=r;rfl
 |QN _=>obtain⟨t,rfl⟩:=r;rfl
 |ref _=>cases r;rfl
 |ty _=>cases r;rfl
theorem RelV.inj{x y:V}{u:zdV}(r:RelV x u)(q:RelV y u):x=y:=zaF.inj (r.abs.symm.trans q.abs)
theorem Vals.inj:∀ {xs ys:List V} {us:List zdV},Vals xs us->Vals ys us->xs=ys
 |_,_,_,.nil,.nil=>rfl
 |_,_,_,.cons r t,.cons r' t'=>by rw[r.inj r',Vals.inj t t']
section
variable{X:Cx}{pins:List (zdU×Obj)}{σ:St}{H:Hp}{s:zd4}{a:zdU}{xs ys:List V}
theorem fH.of{K:zaa}(h:H a=some (.lst xs)):fH K H a xs:=.inl (.inl h)
theorem cv.of{K:zaa}(h:H a=some (.tup xs)):cv K H a xs:=.inl (.inl h)
theorem Inv.list(I:Inv X pins σ H s)(h:fH X.K H a xs):∃aY:List zdV,Vals xs aY/\PlainL s.heap a aY.toArray/\xs.length<=zd2:=by
 rcases h with h |⟨o,aY,n,hk,hc,hd,hs,hz,r⟩
 ·obtain⟨z,aY,n,r,e⟩:=h.ok I.cJ;exact⟨aY,r,⟨_,n,e,rfl,rfl,rfl⟩,z⟩
 ·refine⟨aY.toList,r,⟨o,n,I.sE a o hk,hc,hd,by simpa using hs⟩,?_⟩;have e:=r.length;simp only[zb0] at e;lia
theorem Inv.tuple(I:Inv X pins σ H s)(h:cv X.K H a xs):∃aY:List zdV,Vals xs aY/\IsTup s.heap a aY.toArray/\xs.length<=zd2:=by
 rcases h with h |⟨o,aY,n,hk,hc,hs,hz,r⟩
 ·obtain⟨z,aY,r,p⟩:=h.ok I.cJ;exact⟨aY,r,p,z⟩
 ·refine⟨aY.toList,r,⟨o,I.sE a o hk,hc,n,by simpa using hs⟩,?_⟩;have e:=r.length;simp only[zb0] at e;lia
theorem Inv.Dm(I:Inv X pins σ H s)(h:fH X.K H a xs)(h':fH X.K H a ys):xs=ys:=by
 obtain⟨aY,r,⟨o,n,e,_,_,d⟩,_⟩:=I.list h;obtain⟨its',r',⟨o',n',e',_,_,d'⟩,_⟩:=I.list h';rw[e] at e';cases e';rw[d] at d'
 injection d' with d1 _
 have:aY=its':=by simpa using congrArg zdI d1
 subst this;exact r.inj r'
theorem Inv.IH(I:Inv X pins σ H s)(h:cv X.K H a xs)(h':cv X.K H a ys):xs=ys:=by
 obtain⟨aY,r,⟨o,e,_,n,d⟩,_⟩:=I.tuple h;obtain⟨its',r',⟨o',e',_,n',d'⟩,_⟩:=I.tuple h';rw[e] at e';cases e';rw[d] at d'
 injection d' with d1 _
 have:aY=its':=by simpa using congrArg zdI d1
 subst this;exact r.inj r'
end
abbrev Cx.zS (X:Cx) (E:zdV->zd4->Prop):Cx:={X with xe:=E}
abbrev Cx.T5 (X:Cx):Cx:=X.zS fun _ _=>False
theorem Cx.Ok.zS{X:Cx}(ok:X.Ok)(E:zdV->zd4->Prop):(X.zS E).Ok:=
 ⟨ok.mod,ok.kind,ok.glob,ok.blt,ok.above,ok.inj,ok.has,ok.TR,ok.hd,ok.frames,ok.Wh,ok.ZI,ok.bs,ok.Kt,ok.Ku,ok.NN,ok.uw,ok.Pg⟩
theorem Cx.Ok.oC{X:Cx}{E:zdV->zd4->Prop}(ok:(X.zS E).Ok):X.Ok:=
 ⟨ok.mod,ok.kind,ok.glob,ok.blt,ok.above,ok.inj,ok.has,ok.TR,ok.hd,ok.frames,ok.Wh,ok.ZI,ok.bs,ok.Kt,ok.Ku,ok.NN,ok.uw,ok.Pg⟩
section
variable{X:Cx}{pins:List (zdU×Obj)}{σ:St}{H:Hp}{s:zd4}{E:zdV->zd4->Prop}
theorem Inv.zS(I:Inv X pins σ H s)(E:zdV->zd4->Prop):Inv (X.zS E) pins σ H s:=⟨I.ok.zS E,I.os,I.bare,I.base,I.loc,I.cell,I.free,I.oA,I.pin,I.cJ,I.len⟩
theorem Inv.oC(I:Inv (X.zS E) pins σ H s):Inv X pins σ H s:=⟨I.ok.oC,I.os,I.bare,I.base,I.loc,I.cell,I.free,I.oA,I.pin,I.cJ,I.len⟩
theorem SP.oC{D:Ends}{f:Flow}{s':zd4}(h:SP (X.zS E) pins D f s'):SP X pins D f s':=by
 cases f with
 |next=>obtain⟨σ',H',I,q⟩:=h;exact⟨σ',H',I.oC,q⟩
 |brk=>obtain⟨σ',H',I,q⟩:=h;exact⟨σ',H',I.oC,q⟩
 |cont=>obtain⟨σ',H',I,q⟩:=h;exact⟨σ',H',I.oC,q⟩
 |ret u=>obtain⟨v,σ',H',I,r,q⟩:=h;exact⟨v,σ',H',I.oC,r,q⟩
theorem Fu.T5{st:List Stmt}{t:TS}(h:Fu X.T5 st t):Fu X st t:=fun pins s σ H D I hw=>
 wpAny_mono (h pins s σ H D (I.zS _) hw) (fun _ _ q=>q.oC) fun _ _ z=>False.elim z
end
section
variable{X:Cx}{st:Stmt}{rest:List Stmt}{t u:TS}{e:Expr}{te:TE}{pos:Pos}
def Kx:TS:=fun D σ H=>D.nx σ H
def Fv (t u:TS):TS:=fun D σ H=>t {D with nx:=u D} σ H
theorem aF:Fu X [] Kx:=fun _ _ σ H _ I h=>wpAny_execs_nil ⟨σ,H,I,h⟩
theorem ag(h1:PS X st t)(h2:Fu X rest u):Fu X (st::rest) (Fv t u):=by
 intro pins s σ H D I h;refine wpAny_execs_cons (eR (h1 pins s σ H {D with nx:=u D} I h) fun f s1 q=>?_);cases f with
 |next=>
  obtain⟨σ',H',I',q⟩:=q;exact h2 pins s1 σ' H' D I' q
 |ret v=>exact q
 |brk=>exact q
 |cont=>exact q
theorem ao(h1:PS X st t):Fu X [st] t:=by
 intro pins s σ H D I h;refine wpAny_execs_cons (eR (h1 pins s σ H D I h) fun f s1 q=>?_);cases f with
 |next=>exact wpAny_execs_nil q
 |ret v=>exact q
 |brk=>exact q
 |cont=>exact q
def Ky:TS:=fun D σ H=>D.bk σ H
def Ph:TS:=fun D σ H=>D.ct σ H
theorem Inv.quiet{pins:List (zdU×Obj)}{σ:St}{H:Hp}{s:zd4}(I:Inv X pins σ H s):interactive X.env=false:=by simp[interactive,I.ok.kind]
def Kz (te:TE):TS:=fun D σ H=>te σ H fun _ H1=>D.nx σ H1
theorem ck(he:PE X e te)(hs:swapsWith e none pos.line X.env=pure false:=by rfl):PS X (.Expr e pos) (Kz te):=by
 intro pins s σ H D I h;exact wpAny_Expr_any (eR (he pins s σ H _ I h) fun v s1 ⟨x,H1,I1,r1,q1⟩=>⟨σ,H1,I1,q1⟩) I.quiet hs
def QW (te:TE):TS:=fun D σ H=>te σ H D.rt
theorem aH(he:PE X e te):PS X (.Return (some e) pos) (QW te):=by
 intro pins s σ H D I h;exact wpAny_Return_some (eR (he pins s σ H _ I h) fun v s1 ⟨x,H1,I1,r1,q1⟩=>⟨x,σ,H1,I1,r1,q1⟩)
def Pj:TS:=fun D _ H=>D.rt .dh H
def NO (c:TT) (t u:TS):TS:=fun D σ H=>c σ H fun b H1=>if b=true then t D σ H1 else u D σ H1
theorem aX{c:Expr}{a b:List Stmt}{tc:TT}(hc:PT X c tc)(ha:Fu X a t)(hb:Fu X b u):PS X (.If c a b pos) (NO tc t u):=by
 intro pins s σ H D I h;refine wpAny_If (eR (hc pins s σ H _ I h) fun d s1 zqz=>?_);obtain⟨H1,I1,q1⟩:=zqz;cases d with
 |true=>exact ha pins s1 σ H1 D I1 q1
 |false=>exact hb pins s1 σ H1 D I1 q1
end
abbrev TG:=V->St->Hp->(St->Hp->Prop)->Prop
abbrev Nz:=List V->St->Hp->(St->Hp->Prop)->Prop
def PG (X:Cx) (target:Expr) (t:TG):Prop:=
 ∀(pins:List (zdU×Obj)) (s:zd4) (σ:St) (H:Hp) (v:V) (u:zdV) (Q:St->Hp->Prop),Inv X pins σ H s->RelV v u->t v σ H Q->
  wpAny (model X.prog X.w) X.A (assign target X.env u) (fun _ s'=>∃σ' H',Inv X pins σ' H' s'/\Q σ' H') X.xe s
def S9 (X:Cx) (ts:List Expr) (t:Nz):Prop:=
 ∀(pins:List (zdU×Obj)) (s:zd4) (σ:St) (H:Hp) (vs:List V) (us:List zdV) (Q:St->Hp->Prop),Inv X pins σ H s->Vals vs us->t vs σ H Q->
  wpAny (model X.prog X.w) X.A (assignInOrder ((assignEach ts X.env).map (·.2)) us) (fun _ s'=>∃σ' H',Inv X pins σ' H' s'/\Q σ' H') X.xe s
abbrev QX:=V->V->V->Hp->(Hp->Prop)->Prop
def T6 (X:Cx) (t:QX):Prop:=
 ∀(pins:List (zdU×Obj)) (s:zd4) (σ:St) (H:Hp) (o i v:V) (ov iv u:zdV) (Q:Hp->Prop),Inv X pins σ H s->RelV o ov->RelV i iv->RelV v u->t o i v H Q->
  wpAny (model X.prog X.w) X.A (setItem ov iv u) (fun _ s'=>∃H',Inv X pins σ H' s'/\Q H') X.xe s
abbrev TIp:=V->V->Hp->VK->Prop
section
variable{X:Cx}{pos:Pos}
def jU (i:Nat):TG:=fun v σ H Q=>Q (σ.set i (some v)) H
theorem bh{i:Nat}{x:Str}(hN:X.N.Nodup)(hi:X.N[i]?=some x)(hx:Loc X.env.scope x)(hf:X.fn x=true\/X.env.scope.names.lookup x=some .local:=by first |exact .inl rfl |exact .inr rfl |assumption):PG X (.Name x pos) (jU i):=by
 intro pins s σ H v u Q I r h;exact wpAny_assign_Name (Dl I hN hi hx r (fun s' I'=>⟨_,H,I',h⟩) hf)
def QY:Nz:=fun vs σ H Q=>vs=[]/\Q σ H
def KA (t:TG) (u:Nz):Nz:=fun vs σ H Q=>∃v r,vs=v::r/\t v σ H fun σ' H'=>u r σ' H' Q
theorem mV:S9 X [] QY:=by
 intro pins s σ H vs us Q I r h;obtain⟨e,h⟩:=h;subst e;cases r;exact assignInOrder_nil ⟨σ,H,I,h⟩
theorem cQ{e:Expr}{es:List Expr}{t:TG}{u:Nz}(h1:PG X e t)(h2:S9 X es u)
 (hs:(assignEach (e::es) X.env).map (·.2)=assign e X.env::(assignEach es X.env).map (·.2):=by rfl):S9 X (e::es) (KA t u):=by
 intro pins s σ H vs us Q I r h;obtain⟨v,vr,e1,h⟩:=h;subst e1;cases r with
 |cons r rr=>
  rw[hs];refine assignInOrder_cons (eR (h1 pins s σ H _ _ _ I r h) fun _ s1 zqz=>?_);obtain⟨σ1,H1,I1,q1⟩:=zqz;exact h2 pins s1 σ1 H1 _ _ Q I1 rr q1
def NP (K:zaa) (n:Nat) (t:Nz):TG:=fun v σ H Q=>∃a xs,v=.ref a/\cv K H a xs/\xs.length=n/\t xs σ H Q
theorem Fw{es:List Expr}{k:Nat}{t:Nz}{n:Nat}(hc:X.calm=true)(h:S9 X es t)
 (hn:(assignEach es X.env).length=n:=by rfl) (BB:(assignEach es X.env).findIdx? (·.1)=none:=by rfl):PG X (.Tuple es k pos) (NP X.K n t):=by
 intro pins s σ H v u Q I r hw;obtain⟨a,xs,e1,hq,hl,hw⟩:=hw;subst e1;cases r;obtain⟨aY,rv,ht,hz⟩:=I.tuple hq;refine assign_Tuple_tuple (I.ok.hd hc) ht (by simp[hn,<- hl,rv.length]) BB fun h' hx=>?_;have I1:Inv X pins σ H {s with heap:=h' }:=I.kept (t':=s.toks) fun b o e=>hx b o (zaS (Heap.lt_size e)) e;exact h pins _ σ H xs _ Q I1 (by simpa using rv) hw
def QZ (to ti:TE) (t:QX):TG:=fun v σ H Q=>to σ H fun o H1=>ti σ H1 fun i H2=>t o i v H2 fun H3=>Q σ H3
theorem KC{o i:Expr}{to ti:TE}{t:QX}(ho:PE X o to)(hi:PE X i ti)(hs:T6 X t)
 (ha:∀v,assign (.Subscript o i pos) X.env v=(do
  let ov <- holding [v] (eval o X.env)
  let iv <- holding [v,ov] (eval i X.env)
  standAt pos
  holding [v,ov,iv] (setItem ov iv v)
  release [v,ov,iv] []):=by intro _;rfl):PG X (.Subscript o i pos) (QZ to ti t):=by
 intro pins s σ H v u Q I r h;rw[ha];refine zdX (zdZ (eR (ho pins s σ H _ I h) fun ov s1 zqz=>?_));obtain⟨x,H1,I1,r1,q1⟩:=zqz;refine zdX (zdZ (eR (hi pins s1 σ H1 _ I1 q1) fun iv s2 zqz=>?_));obtain⟨y,H2,I2,r2,q2⟩:=zqz;refine zdX (wpAny_standAt (zdX (zdZ (eR (hs pins s2 σ H2 x y v ov iv u _ I2 r1 r2 r q2) fun _ s3 zqz=>?_))));obtain⟨H3,I3,q3⟩:=zqz;exact wpAny_release ⟨σ,H3,I3,q3⟩
def KD (te:TE) (g:TG):TS:=fun D σ H=>te σ H fun x H1=>g x σ H1 D.nx
theorem uz{tg e:Expr}{te:TE}{g:TG}(he:PE X e te)(hg:PG X tg g)(hs:swapsWithSole [tg] e pos.line X.env=pure false:=by rfl)(hw:swappedStores [tg] e X.env=pure none:=by rfl)
 (h1:(assignEach [tg] X.env).map (·.2)=[assign tg X.env]:=by rfl):PS X (.Assign [tg] e pos) (KD te g):=by
 intro pins s σ H D I h;refine wpAny_Assign_stores (eR (he pins s σ H _ I h) fun v s1 zqz=>?_) hs hw;obtain⟨x,H1,I1,r1,q1⟩:=zqz;rw[h1];exact eR (hg pins s1 σ H1 x v _ I1 r1 q1) fun _ s2 q=>q
theorem aP{i:Nat}{x:Str}{e:Expr}{te:TE}{pos':Pos}(hN:X.N.Nodup)(hi:X.N[i]?=some x)(hx:Loc X.env.scope x)(he:PE X e te)(hs:swapsWith e (some (.Name x pos')) pos.line X.env=pure false:=by rfl)(hf:X.fn x=true\/X.env.scope.names.lookup x=some .local:=by first |exact .inl rfl |exact .inr rfl |assumption) :
 PS X (.Assign [.Name x pos'] e pos) (KD te (jU i)):=by
 intro pins s σ H D I h;refine wpAny_Assign_Name (eR (he pins s σ H _ I h) fun v s1 zqz=>?_) hs;obtain⟨y,H1,I1,r1,q1⟩:=zqz;exact Dl I1 hN hi hx r1 (fun s2 I2=>⟨_,H1,I2,q1⟩) hf
def T7 (i:Nat) (te:TE) (ti:TIp):TS:=fun D σ H=>∃x,σ[i]?=some (some x)/\te σ H fun y H1=>ti x y H1 fun z H2=>D.nx (σ.set i (some z)) H2
end
section
variable{X:Cx}{pos:Pos}
def Q1 (c:TT) (tb:TS):TS:=fun D σ H=>∃W:Nat->St->Hp->Prop,(∃m,W m σ H)/\∀m σ H,W m σ H->
 c σ H fun b H1=>if b=true then ∃N:St->Hp->Prop,(∀σ' H',N σ' H'->∃m',m'<m/\W m' σ' H')/\tb {D with nx:=N,ct:=N,bk:=D.nx} σ H1 else D.nx σ H1
theorem Dn{c:Expr}{body:List Stmt}{tc:TT}{tb:TS}(hp:PassesOwn (model X.prog X.w) X.A X.env X.xe)(hc:PT X c tc)(hb:Fu X body tb):PS X (.While c body [] pos) (Q1 tc tb):=by
 intro pins s σ H D I h;obtain⟨W,⟨m0,w0⟩,turn⟩:=h;refine wpAny_While (codeAny_whileLoop (fun n s'=>∃σ' H',Inv X pins σ' H' s'/\W n σ' H') ?_ m0 ⟨σ,H,I,w0⟩)
 rintro n s1 ⟨σ1,H1,I1,w1⟩
 refine wpAny_passesOwn hp (eR (hc pins s1 σ1 H1 _ I1 (turn n σ1 H1 w1)) fun b s2 zqz=>?_);obtain⟨H2,I2,q2⟩:=zqz;cases b with
 |true=>
  obtain⟨N,hN,q2⟩:=q2;rw[if_pos rfl];refine wpAny_passesOwn hp (eR (hb pins s2 σ1 H2 _ I2 q2) fun f s3 q3=>?_);cases f with
  |next=>
   obtain⟨σ3,H3,I3,n3⟩:=q3;obtain⟨m',hm,w3⟩:=hN σ3 H3 n3;exact⟨m',hm,σ3,H3,I3,w3⟩
  |cont=>
   obtain⟨σ3,H3,I3,n3⟩:=q3;obtain⟨m',hm,w3⟩:=hN σ3 H3 n3;exact⟨m',hm,σ3,H3,I3,w3⟩
  |brk=>exact q3
  |ret v=>exact q3
 |false=>
  rw[if_neg zan];exact wpAny_execs_nil ⟨σ1,H2,I2,q2⟩
end
structure It where
 go:Nat->Hp->Prop
 xr:Nat->Hp->V->Hp->Prop
 stop:Nat->Hp->Prop
def rf (X:Cx) (pins:List (zdU×Obj)) (H:Hp) (b:zdU):Prop:=
 H b=none/\b≠X.env.locals/\b ∉ X.fs/\(b∈X.ex\/X.s₀.heap.objs.size<=b)/\(∀x c,X.env.cells.lookup x=some c->c≠b)/\∀p∈X.pn++pins,p.1≠b
theorem Inv.II{X:Cx}{pins:List (zdU×Obj)}{σ:St}{H H':Hp}{s:zd4}{b:zdU}(I:Inv X pins σ H s)(hb:s.heap.objs.size<=b)(hn:H' b=none):rf X pins H' b:=by
 refine⟨hn,zdJ (zaM I.lt hb),I.Xo hb,.inr (zaA I.sz hb),fun x c e z=>?_,fun p hp z=>?_⟩
 ·obtain⟨v,q⟩:=I.cell x c e;exact absurd (zaM q.lt (by rw[z];exact hb)) (zbL _)
 ·exact absurd (zaM (Heap.lt_size (I.pin p hp).1) (by rw[z];exact hb)) (zbL _)
structure Turn(P:zd6)(w:zdW)(K:zaa)(tg:Expr)(J:It)(fp:List zdU)(it:zdU)(tn:Nat->Heap->Prop):Prop where
 mem:it∈fp
 obj:∀i h,tn i h->∀b∈fp,∃o,h.get? b=some o/\∀v,o.data≠.cell v
 keep:∀i h h',tn i h->(∀b∈fp,∀o,h.get? b=some o->h'.get? b=some o)->tn i h'
 item:∀(X:Cx),X.prog=P->X.w=w->X.K=K->X.calm=true->∀(i:Nat) (pins:List (zdU×Obj)) (s:zd4) (σ:St) (H:Hp) (E:zdV->zd4->Prop),Inv X pins σ H s->(∀b∈fp,rf X pins H b)->tn i s.heap->J.go i H->
  wpAny (model P w) X.A (pyNext (.ref it)) (fun r s1=>∃u,r=some u/\
   wpAny (model P w) X.A (letOwnedTupleGo tg (.ref it) u) (fun _ s2=>∃x H',Inv X pins σ H' s2/\RelV x u/\J.xr i H x H'/\tn (i+1) s2.heap/\∀b∈fp,H' b=none) E s1) E s
 done:∀(X:Cx),X.prog=P->X.w=w->X.K=K->X.calm=true->∀(i:Nat) (pins:List (zdU×Obj)) (s:zd4) (σ:St) (H:Hp) (E:zdV->zd4->Prop),Inv X pins σ H s->(∀b∈fp,rf X pins H b)->tn i s.heap->J.stop i H->
  wpAny (model P w) X.A (pyNext (.ref it)) (fun r s1=>r=none/\Inv X pins σ H s1) E s
 self:∀(A:zd5) (i:Nat) (s:zd4) (Q:zdV->zd4->Prop) (E:zdV->zd4->Prop),tn i s.heap->Q (.ref it) s->wpAny (model P w) A (pyIter (.ref it)) Q E s
abbrev TI:=St->Hp->(It->Hp->Prop)->Prop
def ZN (X:Cx) (pins:List (zdU×Obj)) (σ:St) (tg:Expr) (R:It->Hp->Prop) (Xu:zdV) (s2:zd4):Prop:=
 ∃(it:zdU) (fp:List zdU) (tn:Nat->Heap->Prop) (J:It) (H':Hp),Xu=.ref it/\Inv X pins σ H' s2/\Turn X.prog X.w X.K tg J fp it tn/\tn 0 s2.heap/\(∀b∈fp,rf X pins H' b)/\R J H'
def PI (X:Cx) (tg iter:Expr) (wi:TI):Prop:=
 ∀(pins:List (zdU×Obj)) (s:zd4) (σ:St) (H:Hp) (R:It->Hp->Prop),Inv X pins σ H s->wi σ H R->
  wpAny (model X.prog X.w) X.A (eval iter X.env) (fun v s1=>wpAny (model X.prog X.w) X.A (pyIter v) (ZN X pins σ tg R) X.xe s1) X.xe s
theorem Dq{M:Model}{A:zd5}{E:zdV->zd4->Prop}{s:zd4}{tg:Expr}{it:zdU}{u:zdV}{o:Obj}{n:String}{vs:Array zdV}{Q:Unit->zd4->Prop}(ho:s.heap.get? it=some o)(hc:o.cls=.type n)(hd:o.data=.fields vs)
 (hn:["enumerate", "zip", "dict_itemiterator", "dict_reverseitemiterator", "odict_iterator", "itertools.zip_longest", "itertools.pairwise"].contains n=false) (hQ:Q () s):wpAny M A (letOwnedTupleGo tg (.ref it) u) Q E s:=by
 unfold letOwnedTupleGo;cases tg<;>first
  |exact zdY hQ
  |(cases u<;>first
     |exact zdY hQ
     |(refine zdX (wpAny_load ho ?_)
       rw[hc,hd];show wpAny M A (if (["enumerate", "zip", "dict_itemiterator", "dict_reverseitemiterator", "odict_iterator", "itertools.zip_longest", "itertools.pairwise"].contains n&&vs[0]?==some (rawInt _))=true then _ else _) Q E s;rw[if_neg (by intro h;rw[hn,Bool.false_and] at h;cases h)];exact zdY hQ))
def IJ (K:zaa) (a:zdU):It:=
 ⟨fun i H=>∃xs x,fH K H a xs/\xs[i]?=some x,fun i H x H'=>H'=H/\∀xs,fH K H a xs->xs[i]?=some x,fun i H=>∃xs,fH K H a xs/\xs.length<=i⟩
def NQ (K:zaa) (a:zdU):It:=
 ⟨fun i H=>∃xs x,cv K H a xs/\xs[i]?=some x,fun i H x H'=>H'=H/\∀xs,cv K H a xs->xs[i]?=some x,fun i H=>∃xs,cv K H a xs/\xs.length<=i⟩
def KG (lo:Int) (n:Nat):It:=⟨fun i _=>i<n,fun i H x H'=>H'=H/\x=.int (lo+i),fun i _=>n<=i⟩
theorem IK{P:zd6}{w:zdW}{K:zaa}{tg:Expr}(a it:zdU):Turn P w K tg (IJ K a) [it] it (fun i h=>h.IsListIter it a i) where
 mem:=by simp
 obj:=fun i h st b hb=>by
  have e:b=it:=by simpa using hb
  subst e;obtain⟨o,e,c,d⟩:=st;exact⟨o,e,fun v z=>by rw[d] at z;cases z⟩
 keep:=fun i h h' st k=>st.at fun o e=>k it (by simp) o e
 item:=by
  intro X hP hw hK hc i pins s σ H E I hf st hg;subst hP hw hK;obtain⟨xs,x,hq,hx⟩:=hg;obtain⟨aY,rv,p,hz⟩:=I.list hq;obtain⟨u,hu,ru⟩:=rv.get hx;obtain⟨f0,f1,f2,f3,f4,f5⟩:=hf it (by simp);refine wpAny_pyNext_list_item st p.isList (x:=u) (by simpa using hu) fun h' AJ sb=>?_;have I1:Inv X pins σ H {s with heap:=h' }:=I.turned (t':=s.toks) (fun b o hb e=>(sb.2 b hb).trans e) f0 f1 f3 f4 f5;obtain⟨o,e,c,d⟩:=id AJ;exact⟨u,rfl,Dq (s:={s with heap:=h' }) e c d (by decide) ⟨x,H,I1,ru,⟨rfl,fun ys hy=>by rw[I.Dm hy hq];exact hx⟩,AJ,fun b hb=>(hf b hb).1⟩⟩
 done:=by
  intro X hP hw hK hc i pins s σ H E I hf st hg;subst hP hw hK;obtain⟨xs,hq,hx⟩:=hg;obtain⟨aY,rv,p,hz⟩:=I.list hq;obtain⟨f0,f1,f2,f3,f4,f5⟩:=hf it (by simp);have hl:=rv.length;exact wpAny_pyNext_list_end (I.ok.hd hc) st p.isList (by simp;lia) fun h' eb=>⟨rfl,I.turned (t':=s.toks) (fun b o hb e=>eb b o hb e) f0 f1 f3 f4 f5⟩
 self:=fun _ _ _ _ _ st h=>wpAny_pyIter_listiter st h
theorem Fx{P:zd6}{w:zdW}{K:zaa}{tg:Expr}(a it:zdU):Turn P w K tg (NQ K a) [it] it (fun i h=>h.IsTupleIter it a i) where
 mem:=by simp
 obj:=fun i h st b hb=>by
  have e:b=it:=by simpa using hb
  subst e;obtain⟨o,e,c,d⟩:=st;exact⟨o,e,fun v z=>by rw[d] at z;cases z⟩
 keep:=fun i h h' st k=>st.at fun o e=>k it (by simp) o e
 item:=by
  intro X hP hw hK hc i pins s σ H E I hf st hg;subst hP hw hK;obtain⟨xs,x,hq,hx⟩:=hg;obtain⟨aY,rv,p,hz⟩:=I.tuple hq;obtain⟨u,hu,ru⟩:=rv.get hx;obtain⟨f0,f1,f2,f3,f4,f5⟩:=hf it (by simp);refine wpAny_pyNext_tuple_item st (show s.heap.IsTuple a aY.toArray from p) (x:=u) (by simpa using hu) fun h' AJ sb=>?_;have I1:Inv X pins σ H {s with heap:=h' }:=I.turned (t':=s.toks) (fun b o hb e=>(sb.2 b hb).trans e) f0 f1 f3 f4 f5;obtain⟨o,e,c,d⟩:=id AJ;exact⟨u,rfl,Dq (s:={s with heap:=h' }) e c d (by decide) ⟨x,H,I1,ru,⟨rfl,fun ys hy=>by rw[I.IH hy hq];exact hx⟩,AJ,fun b hb=>(hf b hb).1⟩⟩
 done:=by
  intro X hP hw hK hc i pins s σ H E I hf st hg;subst hP hw hK;obtain⟨xs,hq,hx⟩:=hg;obtain⟨aY,rv,p,hz⟩:=I.tuple hq;obtain⟨f0,f1,f2,f3,f4,f5⟩:=hf it (by simp);have hl:=rv.length;exact wpAny_pyNext_tuple_end (I.ok.hd hc) st (show s.heap.IsTuple a aY.toArray from p) (by simp;lia) fun h' eb=>⟨rfl,I.turned (t':=s.toks) (fun b o hb e=>eb b o hb e) f0 f1 f3 f4 f5⟩
 self:=fun _ _ _ _ _ st h=>wpAny_pyIter_tupleiter st h
theorem Fy{P:zd6}{w:zdW}{K:zaa}{tg:Expr}(it:zdU)(lo:Int)(n:Nat):Turn P w K tg (KG lo n) [it] it (fun i h=>IsRangeIter h it (lo+(i:Nat)*1) ((n:Int)-(i:Nat)) 1) where
 mem:=by simp
 obj:=fun i h st b hb=>by
  have e:b=it:=by simpa using hb
  subst e;exact⟨_,st,fun v z=>by
   have z':Data.fields _=Data.cell v:=z;cases z'⟩
 keep:=fun i h h' st k=>k it (by simp) _ st
 item:=by
  intro X hP hw hK hc i pins s σ H E I hf st hg;subst hP hw hK;obtain⟨f0,f1,f2,f3,f4,f5⟩:=hf it (by simp);have W:=Walks.range (prog:=X.prog) (w:=X.w) (I.ok.hd hc) it lo 1 n;refine W.item i s _ _ hg st fun v h' tk hv AJ kk=>?_;obtain⟨t,rfl⟩:=hv;have I1:Inv X pins σ H {s with heap:=h',toks:=tk}:=I.turned (fun b o hb e=>kk b o (by simpa using hb) e) f0 f1 f3 f4 f5;refine⟨_,rfl,Dq (s:={s with heap:=h',toks:=tk}) (n:="range_iterator") AJ rfl rfl (by decide) ⟨.int (lo+i),H,I1,⟨t,?_⟩,⟨rfl,rfl⟩,AJ,fun b hb=>(hf b hb).1⟩⟩;rw[Int.mul_one]
 done:=by
  intro X hP hw hK hc i pins s σ H E I hf st hg;subst hP hw hK;obtain⟨f0,f1,f2,f3,f4,f5⟩:=hf it (by simp);exact wpAny_pyNext_range_end (I.ok.hd hc) st (by have:n<=i:=hg;lia) fun h' eb=>⟨rfl,I.turned (t':=s.toks) (fun b o hb e=>eb b o hb e) f0 f1 f3 f4 f5⟩
 self:=fun _ _ _ _ _ st h=>wpAny_pyIter_rangeiter st h
section
variable{X:Cx}{tg:Expr}
def G5 (K:zaa) (tl:TE):TI:=fun σ H R=>tl σ H fun x H1=>∃a,x=.ref a/\(∃xs,fH K H1 a xs)/\R (IJ K a) H1
def T8 (K:zaa) (tl:TE):TI:=fun σ H R=>tl σ H fun x H1=>∃a,x=.ref a/\(∃xs,cv K H1 a xs)/\R (NQ K a) H1
theorem fj{l:Expr}{tl:TE}(hl:PE X l tl):PI X tg l (G5 X.K tl):=by
 intro pins s σ H R I h;refine eR (hl pins s σ H _ I h) fun v s1 zqz=>?_;obtain⟨x,H1,I1,r1,q1⟩:=zqz;obtain⟨a,e,⟨xs,hq⟩,q⟩:=q1;subst e;cases r1;obtain⟨aY,rv,p,hz⟩:=I1.list hq;refine wpAny_pyIter_list p.isList ?_;refine⟨s1.heap.objs.size,[s1.heap.objs.size],_,_,H1,rfl,I1.kept (t':=s1.toks) fun b o e=>Heap.get?_push_of_some _ e,IK a _,⟨_,Heap.get?_push_size _ rfl,rfl,rfl⟩,fun b hb=>?_,q⟩;have e:b=s1.heap.objs.size:=by simpa using hb
 subst e;exact I1.II (zag _) (I1.cJ.fresh (zag _))
theorem KI{l:Expr}{tl:TE}(hl:PE X l tl):PI X tg l (T8 X.K tl):=by
 intro pins s σ H R I h;refine eR (hl pins s σ H _ I h) fun v s1 zqz=>?_;obtain⟨x,H1,I1,r1,q1⟩:=zqz;obtain⟨a,e,⟨xs,hq⟩,q⟩:=q1;subst e;cases r1;obtain⟨aY,rv,p,hz⟩:=I1.tuple hq;refine wpAny_pyIter_tuple (show s1.heap.IsTuple a aY.toArray from p) ?_;refine⟨s1.heap.objs.size,[s1.heap.objs.size],_,_,H1,rfl,I1.kept (t':=s1.toks) fun b o e=>Heap.get?_push_of_some _ e,Fx a _,⟨_,Heap.get?_push_size _ rfl,rfl,rfl⟩,fun b hb=>?_,q⟩;have e:b=s1.heap.objs.size:=by simpa using hb
 subst e;exact I1.II (zag _) (I1.cJ.fresh (zag _))
theorem KJ{pins:List (zdU×Obj)}{σ:St}{H:Hp}{s:zd4}{R:It->Hp->Prop}{E:zdV->zd4->Prop}{lo hi:Int}{t u v:Tok}{tk:Nat}(I:Inv X pins σ H s)(h1 : -(2 ^ 62)<=lo)(h2:lo<2 ^ 62)(h3 : -(2 ^ 62)<=hi)(h4:hi<2 ^ 62)
 (q:R (KG lo (hi-lo).toNat) H):wpAny (model X.prog X.w) X.A (pyIter (.ref s.heap.objs.size)) (ZN X pins σ tg R) E {s with heap:=s.heap.push {cls:=.type "range",data:=.fields #[.int lo t,.int hi u,.int 1 v]},toks:=tk}:=by
 refine wpAny_pyIter_range (IsRange.new ..) (small_one h1 h2 h3 h4) ?_;have I1:Inv X pins σ H {s with heap:=s.heap.push {cls:=.type "range",data:=.fields #[.int lo t,.int hi u,.int 1 v]},toks:=tk}:=I.kept fun b o e=>Heap.get?_push_of_some _ e;refine⟨(s.heap.push {cls:=.type "range",data:=.fields #[.int lo t,.int hi u,.int 1 v]}).objs.size,[(s.heap.push {cls:=.type "range",data:=.fields #[.int lo t,.int hi u,.int 1 v]}).objs.size],_,_,H,rfl,
  I1.kept (t':=tk) fun b o e=>Heap.get?_push_of_some _ e,Fy _ lo (hi-lo).toNat,?_,fun b hb=>?_,q⟩
 ·have e1:lo+((0:Nat):Int)*1=lo:=by simp
  have e2:(((hi-lo).toNat:Nat):Int)-((0:Nat):Int)=Builtin.Range.rangeSize lo hi 1:=by rw[rangeSize_one];split<;>lia
  show IsRangeIter _ _ (lo+((0:Nat):Int)*1) ((((hi-lo).toNat:Nat):Int)-((0:Nat):Int)) 1;rw[e1,e2];exact Heap.get?_push_size _ rfl
 ·have e:b=(s.heap.push {cls:=.type "range",data:=.fields #[.int lo t,.int hi u,.int 1 v]}).objs.size:=by simpa using hb
  subst e;exact I1.II (zag _) (I1.cJ.fresh (zag _))
def G6 (ta:TA):TI:=fun σ H R=>ta σ H fun vs H1=>∃j:Int,vs=[.int j]/\-(2 ^ 62)<=j/\j<2 ^ 62/\R (KG 0 j.toNat) H1
def Pl (ta:TA):TI:=fun σ H R=>ta σ H fun vs H1=>∃i j:Int,vs=[.int i,.int j]/\(-(2 ^ 62)<=i/\i<2 ^ 62/\-(2 ^ 62)<=j/\j<2 ^ 62)/\R (KG i (j-i).toNat) H1
theorem qi{a:Expr}{ta:TA}{p pos:Pos}(hg:Gl X "range")(hm:X.mg "range"=none)(ha:PA X [a] ta)(hs:zd0 [a] X.env=[(false,eval a X.env)]:=by rfl):PI X tg (.Call (.Name "range" p) [a] [] pos) (G6 ta):=by
 intro pins s σ H R I h;refine Call_ (xp I hg hm boot_range (zcY (eR (ha pos pins s σ H _ I h) fun us s1 zqz=>?_) hs rfl));obtain⟨vs,H1,I1,r1,q1⟩:=zqz;obtain⟨j,e,q1,q2,q⟩:=q1;subst e;cases r1 with
 |cons r rr=>
  cases rr;obtain⟨t,rfl⟩:=r;exact call_range_1 (KJ I1 (by lia) (by lia) q1 q2 (by simpa using q))
def NR (wi:TI) (g:TG) (tb:TS):TS:=fun D σ H=>wi σ H fun J H1=>∃W:Nat->Nat->St->Hp->Prop,(∃m,W 0 m σ H1)/\∀i m σ H,W i m σ H->
 (J.stop i H/\D.nx σ H)\/(J.go i H/\∃N:St->Hp->Prop,(∀σ' H',N σ' H'->∃m',m'<m/\W (i+1) m' σ' H')/\∀x H',J.xr i H x H'->g x σ H' fun σ2 H2=>tb {D with nx:=N,ct:=N,bk:=D.nx} σ2 H2)
def xt (fp:List zdU) (h:Heap):List (zdU×Obj):=fp.filterMap fun b=>(h.get? b).map fun o=>(b,o)
theorem mW{fp:List zdU}{h:Heap}{b:zdU}{o:Obj}(hb:b∈fp)(e:h.get? b=some o):(b,o)∈xt fp h:=zcf.mpr ⟨b,hb,by rw[e];rfl⟩
theorem IL{fp:List zdU}{h:Heap}{p:zdU×Obj}(hp:p∈xt fp h):p.1∈fp/\h.get? p.1=some p.2:=by
 obtain⟨b,hb,e⟩:=zcf.mp hp;cases q:h.get? b with
 |none=>rw[q] at e;cases e
 |some o=>
  rw[q] at e;have e':(b,o)=p:=zaF.inj e;subst e';exact⟨hb,q⟩
theorem Inv.pinned{pins:List (zdU×Obj)}{σ:St}{H:Hp}{s:zd4}{fp:List zdU}(I:Inv X pins σ H s)(hf:∀b∈fp,rf X pins H b)(ho:∀b∈fp,∃o,s.heap.get? b=some o/\∀v,o.data≠.cell v):Inv X (pins++xt fp s.heap) σ H s:=
 I.G2 fun p hp=>(zaj.mp hp).elim (fun z=>I.pin p (zaR _ z)) fun z=>by
  obtain⟨hb,e⟩:=IL z;obtain⟨f0,f1,f2,_⟩:=hf p.1 hb;obtain⟨o,e',d⟩:=ho p.1 hb;rw[e] at e';cases e';exact⟨e,f0,f1,f2,d⟩
theorem Inv.sM{pins pl:List (zdU×Obj)}{σ:St}{H:Hp}{s:zd4}(I:Inv X (pins++pl) σ H s):Inv X pins σ H s:=I.G2 fun p hp=>I.pin p (zaR _ (zbi _ hp))
theorem jI{iter:Expr}{body:List Stmt}{wi:TI}{g:TG}{tb:TS}{pos:Pos}(hp:PassesOwn (model X.prog X.w) X.A X.env X.xe)(hc:X.calm=true)(hi:PI X tg iter wi)(hg:PG X tg g)(hb:Fu X body tb)
 (hs:∀x,foldedSetIterable iter X.env x=pure x:=by intro _;rfl):PS X (.For tg iter body [] pos) (NR wi g tb):=by
 intro pins s σ H D I h;refine wpAny_For (eR (hi pins s σ H _ I h) fun v s1 h1=>eR h1 fun Xu s2 h2=>?_) hs;obtain⟨it,fp,tn,J,H2,e,I2,T,Pn,f2,W,⟨m0,w0⟩,turn⟩:=h2;subst e;have stat:∀ {H':Hp},(∀b∈fp,H' b=none)->∀b∈fp,rf X pins H' b:=fun hn b hb=>⟨hn b hb,(f2 b hb).2⟩
 refine codeAny_forLoop_any (fun n s'=>∃i σ' H',Inv X pins σ' H' s'/\tn i s'.heap/\(∀b∈fp,H' b=none)/\W i n σ' H') ?_ m0 ⟨0,σ,H2,I2,Pn,fun b hb=>(f2 b hb).1,w0⟩
 rintro n s3 ⟨i,σ3,H3,I3,Po,T9,w3⟩
 rcases turn i n σ3 H3 w3 with ⟨stop,qn⟩ |⟨go,N,hN,step⟩
 ·refine wpAny_passesOwn hp (eR (T.done X rfl rfl rfl hc i pins s3 σ3 H3 X.xe I3 (stat T9) Po stop) fun r s4 zqz=>?_);obtain⟨hr,I4⟩:=zqz;subst hr;exact wpAny_execs_nil ⟨σ3,H3,I4,qn⟩
 ·refine wpAny_passesOwn hp (eR (T.item X rfl rfl rfl hc i pins s3 σ3 H3 X.xe I3 (stat T9) Po go) fun r s4 zqz=>?_);obtain⟨u,hr,h4⟩:=zqz;subst hr;refine wpAny_passesOwn hp (eR h4 fun _ s5 zqz=>?_);obtain⟨x,H5,I5,r5,y5,Q2,Xv⟩:=zqz;have Xw:=I5.pinned (stat Xv) (T.obj _ _ Q2);refine wpAny_passesOwn hp (eR (hg _ s5 σ3 H5 x u _ Xw r5 (step x H5 y5)) fun _ s6 zqz=>?_);obtain⟨σ6,H6,I6,q6⟩:=zqz;refine wpAny_passesOwn hp (eR (hb _ s6 σ6 H6 _ I6 q6) fun f s7 q7=>?_);have again:∀ {σ7:St} {H7:Hp},Inv X (pins++xt fp s5.heap) σ7 H7 s7->N σ7 H7->∃m,m<n/\∃i σ' H',Inv X pins σ' H' s7/\tn i s7.heap/\(∀b∈fp,H' b=none)/\W i m σ' H':=fun {σ7 H7} I7 n7=>by
   obtain⟨m',hm,w7⟩:=hN σ7 H7 n7;refine⟨m',hm,i+1,σ7,H7,I7.sM,T.keep _ _ _ Q2 fun b hb o e=>(I7.pin (b,o) (zaR _ (zaR _ (mW hb e)))).1,fun b hb=>?_,w7⟩;obtain⟨o,e,d⟩:=T.obj _ _ Q2 b hb;exact(I7.pin (b,o) (zaR _ (zaR _ (mW hb e)))).2.1
  cases f with
  |next=>obtain⟨σ7,H7,I7,n7⟩:=q7;exact again I7 n7
  |cont=>obtain⟨σ7,H7,I7,n7⟩:=q7;exact again I7 n7
  |brk=>obtain⟨σ7,H7,I7,q7⟩:=q7;exact⟨σ7,H7,I7.sM,q7⟩
  |ret v=>obtain⟨x7,σ7,H7,I7,r7,q7⟩:=q7;exact⟨x7,σ7,H7,I7.sM,r7,q7⟩
end
theorem mn{K:zaa}{a:zdU}{xs:List V}{g:TG}{tb:TS}{D:Ends}{σ:St}{H:Hp}(Pv:Nat->St->Hp->Prop)(h0:Pv 0 σ H)(hl:∀i σ H,i<=xs.length->Pv i σ H->fH K H a xs)
 (hs:∀i x σ H,xs[i]?=some x->Pv i σ H->g x σ H fun σ2 H2=>tb {D with nx:=Pv (i+1),ct:=Pv (i+1),bk:=D.nx} σ2 H2) (hd:∀σ H,Pv xs.length σ H->D.nx σ H) :
 ∃W:Nat->Nat->St->Hp->Prop,(∃m,W 0 m σ H)/\∀i m σ H,W i m σ H->
  ((IJ K a).stop i H/\D.nx σ H)\/((IJ K a).go i H/\∃N:St->Hp->Prop,(∀σ' H',N σ' H'->∃m',m'<m/\W (i+1) m' σ' H')/\∀x H',(IJ K a).xr i H x H'->g x σ H' fun σ2 H2=>tb {D with nx:=N,ct:=N,bk:=D.nx} σ2 H2):=by
 refine⟨fun i m σ H=>m=xs.length-i/\i<=xs.length/\Pv i σ H,⟨xs.length,by simp,zaJ _,h0⟩,?_⟩
 rintro i m σ H ⟨rfl,hi,p⟩
 have q:=hl i σ H hi p;by_cases iR:i<xs.length
 ·refine .inr ⟨⟨xs,xs[i],q,by simp[iR]⟩,Pv (i+1),fun σ' H' p'=>⟨xs.length-(i+1),by lia,rfl,iR,p'⟩,fun x H' y=>?_⟩;obtain⟨e,y⟩:=y;subst e;exact hs i x σ _ (y xs q) p
 ·have e:i=xs.length:=by lia
  subst e;exact .inl ⟨⟨xs,q,zag _⟩,hd σ H p⟩
theorem NS{K:zaa}{a:zdU}{xs:List V}{g:TG}{tb:TS}{D:Ends}{σ:St}{H:Hp}(Pv:Nat->St->Hp->Prop)(h0:Pv 0 σ H)(hl:∀i σ H,i<=xs.length->Pv i σ H->cv K H a xs)
 (hs:∀i x σ H,xs[i]?=some x->Pv i σ H->g x σ H fun σ2 H2=>tb {D with nx:=Pv (i+1),ct:=Pv (i+1),bk:=D.nx} σ2 H2) (hd:∀σ H,Pv xs.length σ H->D.nx σ H) :
 ∃W:Nat->Nat->St->Hp->Prop,(∃m,W 0 m σ H)/\∀i m σ H,W i m σ H->
  ((NQ K a).stop i H/\D.nx σ H)\/((NQ K a).go i H/\∃N:St->Hp->Prop,(∀σ' H',N σ' H'->∃m',m'<m/\W (i+1) m' σ' H')/\∀x H',(NQ K a).xr i H x H'->g x σ H' fun σ2 H2=>tb {D with nx:=N,ct:=N,bk:=D.nx} σ2 H2):=by
 refine⟨fun i m σ H=>m=xs.length-i/\i<=xs.length/\Pv i σ H,⟨xs.length,by simp,zaJ _,h0⟩,?_⟩
 rintro i m σ H ⟨rfl,hi,p⟩
 have q:=hl i σ H hi p;by_cases iR:i<xs.length
 ·refine .inr ⟨⟨xs,xs[i],q,by simp[iR]⟩,Pv (i+1),fun σ' H' p'=>⟨xs.length-(i+1),by lia,rfl,iR,p'⟩,fun x H' y=>?_⟩;obtain⟨e,y⟩:=y;subst e;exact hs i x σ _ (y xs q) p
 ·have e:i=xs.length:=by lia
  subst e;exact .inl ⟨⟨xs,q,zag _⟩,hd σ H p⟩
theorem AK{lo:Int}{n:Nat}{g:TG}{tb:TS}{D:Ends}{σ:St}{H:Hp}(Pv:Nat->St->Hp->Prop)(h0:Pv 0 σ H)
 (hs:∀i σ H,i<n->Pv i σ H->g (.int (lo+i)) σ H fun σ2 H2=>tb {D with nx:=Pv (i+1),ct:=Pv (i+1),bk:=D.nx} σ2 H2) (hd:∀σ H,Pv n σ H->D.nx σ H) :
 ∃W:Nat->Nat->St->Hp->Prop,(∃m,W 0 m σ H)/\∀i m σ H,W i m σ H->
  ((KG lo n).stop i H/\D.nx σ H)\/((KG lo n).go i H/\∃N:St->Hp->Prop,(∀σ' H',N σ' H'->∃m',m'<m/\W (i+1) m' σ' H')/\∀x H',(KG lo n).xr i H x H'->g x σ H' fun σ2 H2=>tb {D with nx:=N,ct:=N,bk:=D.nx} σ2 H2):=by
 refine⟨fun i m σ H=>m=n-i/\i<=n/\Pv i σ H,⟨n,by simp,zaJ _,h0⟩,?_⟩
 rintro i m σ H ⟨rfl,hi,p⟩
 by_cases iR:i<n
 ·refine .inr ⟨iR,Pv (i+1),fun σ' H' p'=>⟨n-(i+1),by lia,rfl,iR,p'⟩,fun x H' y=>?_⟩;obtain⟨e,y⟩:=y;subst e y;exact hs i σ _ iR p
 ·have e:i=n:=by lia
  subst e;exact .inl ⟨zag _,hd σ H p⟩
abbrev R2:=V->V->Hp->VK->Prop
def nU (X:Cx) (f:zdV->zdV->Sem zdV) (r:R2):Prop:=
 ∀(pins:List (zdU×Obj)) (s:zd4) (σ:St) (H:Hp) (x y:V) (v u:zdV) (Q:VK),Inv X pins σ H s->RelV x v->RelV y u->r x y H Q->
  wpAny (model X.prog X.w) X.A (f v u) (EP X pins σ Q) X.xe s
def Xx (X:Cx) (f:zdV->Sem zdV) (r:V->Hp->VK->Prop):Prop:=
 ∀(pins:List (zdU×Obj)) (s:zd4) (σ:St) (H:Hp) (x:V) (v:zdV) (Q:VK),Inv X pins σ H s->RelV x v->r x H Q->
  wpAny (model X.prog X.w) X.A (f v) (EP X pins σ Q) X.xe s
def gq (X:Cx) (f:zdV) (r:List V->Hp->VK->Prop):Prop:=
 ∀(pins:List (zdU×Obj)) (s:zd4) (σ:St) (H:Hp) (xs:List V) (us:List zdV) (Q:VK),Inv X pins σ H s->Vals xs us->r xs H Q->
  wpAny (model X.prog X.w) X.A (call f us) (EP X pins σ Q) X.xe s
def Xy (X:Cx) (r:V->Hp->(Bool->Hp->Prop)->Prop):Prop:=
 ∀(pins:List (zdU×Obj)) (s:zd4) (σ:St) (H:Hp) (x:V) (v:zdV) (Q:Bool->Hp->Prop),Inv X pins σ H s->RelV x v->r x H Q->
  wpAny (model X.prog X.w) X.A (truthy v) (TP X pins σ Q) X.xe s
def Ub (r:R2) (ta tb:TE):TE:=fun σ H Q=>ta σ H fun x H1=>tb σ H1 fun y H2=>r x y H2 Q
def Xz (r:V->Hp->VK->Prop) (ta:TE):TE:=fun σ H Q=>ta σ H fun x H1=>r x H1 Q
def rI (C:Int->Int->Prop) (g:Int->Int->V):R2:=fun x y H Q=>∃i j,x=.int i/\y=.int j/\C i j/\Q (g i j) H
def NT (g:Int->Int->V):R2:=fun x y H Q=>∃i j,x=.int i/\y=.int j/\Q (g i j) H
def rU (g:Int->V):V->Hp->VK->Prop:=fun x H Q=>∃i,x=.int i/\Q (g i) H
section
variable{X:Cx}{a b c:Expr}{ta tb tc:TE}{pos:Pos}
theorem Q3(ha:PE X a ta)(hb:PE X b tb){pins:List (zdU×Obj)}{s:zd4}{σ:St}{H:Hp}{R:V->V->Hp->Prop}(I:Inv X pins σ H s)
 (h:ta σ H fun x H1=>tb σ H1 fun y H2=>R x y H2) {Q:zdV->zd4->Prop} {f:zdV->zdV->Sem zdV}
 (hf:∀v u s2 x y H2,Inv X pins σ H2 s2->RelV x v->RelV y u->R x y H2->wpAny (model X.prog X.w) X.A (f v u) Q X.xe s2) :
 wpAny (model X.prog X.w) X.A (eval a X.env) (fun v s₁=>wpAny (model X.prog X.w) X.A (eval b X.env) (fun u s₂=>wpAny (model X.prog X.w) X.A (f v u) Q X.xe s₂) X.xe s₁) X.xe s:=by
 refine eR (ha pins s σ H _ I h) fun v s1 zqz=>?_;obtain⟨x,H1,I1,r1,q1⟩:=zqz;refine eR (hb pins s1 σ H1 _ I1 q1) fun u s2 zqz=>?_;obtain⟨y,H2,I2,r2,q2⟩:=zqz;exact hf v u s2 x y H2 I2 r1 r2 q2
theorem aC{op:Operator}{r:R2}(ho:nU X (binaryOp op) r)(ha:PE X a ta)(hb:PE X b tb):PE X (.BinOp a op b pos) (Ub r ta tb):=by
 intro pins s σ H Q I h;exact wpAny_BinOp (Q3 ha hb I h fun v u s2 x y H2 I2 rx ry q=>ho pins s2 σ H2 x y v u Q I2 rx ry q)
theorem sN{op:UnaryOp}{r:V->Hp->VK->Prop}(ho:Xx X (unaryOp op) r)(ha:PE X a ta):PE X (.UnaryOp op a pos) (Xz r ta):=by
 intro pins s σ H Q I h;exact UnaryOp_ (eR (ha pins s σ H _ I h) fun v s1 ⟨x,H1,I1,r1,q1⟩=>ho pins s1 σ H1 x v Q I1 r1 q1)
theorem Uc{f:zdV->zdV->Sem zdV}{C:Int->Int->Prop}{g:Int->Int->Int}
 (rule:∀(i j:Int) (t u:Tok) (s:zd4) (Q:zdV->zd4->Prop) (E:zdV->zd4->Prop),C i j->Q (.int (g i j) s.toks) {s with toks:=s.toks+1}->wpAny (model X.prog X.w) X.A (f (.int i t) (.int j u)) Q E s) :
 nU X f (rI C fun i j=>.int (g i j)):=by
 intro pins s σ H x y v u Q I rx ry h;obtain⟨i,j,rfl,rfl,hc,q⟩:=h;obtain⟨t,rfl⟩:=rx;obtain⟨t',rfl⟩:=ry;exact rule i j t t' s _ _ hc ⟨.int (g i j),H,I.tok _,⟨_,rfl⟩,q⟩
theorem Ud{f:zdV->zdV->Sem zdV}{g:Int->Int->Int}
 (rule:∀(i j:Int) (t u:Tok) (s:zd4) (Q:zdV->zd4->Prop) (E:zdV->zd4->Prop),Q (.int (g i j) s.toks) {s with toks:=s.toks+1}->wpAny (model X.prog X.w) X.A (f (.int i t) (.int j u)) Q E s) :
 nU X f (NT fun i j=>.int (g i j)):=by
 intro pins s σ H x y v u Q I rx ry h;obtain⟨i,j,rfl,rfl,q⟩:=h;obtain⟨t,rfl⟩:=rx;obtain⟨t',rfl⟩:=ry;exact rule i j t t' s _ _ ⟨.int (g i j),H,I.tok _,⟨_,rfl⟩,q⟩
theorem NU{f:zdV->zdV->Sem zdV}{g:Int->Int->Bool}
 (rule:∀(i j:Int) (t u:Tok) (s:zd4) (Q:zdV->zd4->Prop) (E:zdV->zd4->Prop),Q (.bool (g i j)) s->wpAny (model X.prog X.w) X.A (f (.int i t) (.int j u)) Q E s) :
 nU X f (NT fun i j=>.bl (g i j)):=by
 intro pins s σ H x y v u Q I rx ry h;obtain⟨i,j,rfl,rfl,q⟩:=h;obtain⟨t,rfl⟩:=rx;obtain⟨t',rfl⟩:=ry;exact rule i j t t' s _ _ ⟨.bl (g i j),H,I,rfl,q⟩
def Ue (i j:Int):Prop:=0<j/\j<1073741824
def Q4 (i j:Int):Prop:=0<=j/\j<=1000000/\i.natAbs<2 ^ 64
def IM (i j:Int):Prop:=(-(2 ^ 64)<i/\i<2 ^ 64)\/(-(2 ^ 64)<j/\j<2 ^ 64)
theorem IM.ok{i j:Int}(h:IM i j):IntMulOk i j:=by
 rcases h with ⟨h1,h2⟩ |⟨h1,h2⟩
 ·exact .of_left (intBits_le_64 h1 h2)
 ·exact .of_right (intBits_le_64 h1 h2)
theorem Fz(k:Nat):(0:Int)<=2 ^ k:=by
 rw[two_pow_cast];exact Int.natCast_nonneg _
theorem dU:nU X (binaryOp .Add) (NT fun i j=>.int (i+j)):=Ud fun _ _ _ _ _ _ _ q=>add_int q
theorem uA:nU X (binaryOp .Sub) (NT fun i j=>.int (i-j)):=Ud fun _ _ _ _ _ _ _ q=>sub_int q
theorem rj:nU X (binaryOp .Mult) (rI IM fun i j=>.int (i*j)):=Uc fun _ _ _ _ _ _ _ hc q=>mul_int q hc.ok
theorem dA:nU X (binaryOp .FloorDiv) (rI Ue fun i j=>.int (i/j)):=Uc fun i j _ _ _ _ _ hc q=>by
 have h1:(0:Int)<j:=hc.1;have h2:j<1073741824:=hc.2;exact floordiv_int (by lia) (by rw[zc0 i (by lia)];exact q) (.inl (PyProof.noPylong_small (by lia)))
theorem b4:nU X (binaryOp .Mod) (rI (fun _ j=>0<j) fun i j=>.int (i%j)):=Uc fun i j _ _ _ _ _ hc q=>by
 have h1:(0:Int)<j:=hc;exact mod_int' (by lia) (by rw[Int.fmod_eq_emod_of_nonneg i (by lia)];exact q)
theorem FA:nU X (binaryOp .Pow) (rI Q4 fun i j=>.int (i ^ j.toNat)):=Uc fun _ _ _ _ _ _ _ hc q=>pow_int_small hc.1 hc.2.1 hc.2.2 q
theorem Q5:nU X (binaryOp .RShift) (rI (fun _ j=>0<=j) fun i j=>.int (i/2 ^ j.toNat)):=Uc fun i j _ _ _ _ _ hc q=>
 rshift_int hc (by rw[zc0 i (Fz _)];exact q)
theorem unI{f:zdV->Sem zdV}{g:Int->Int}
 (rule:∀(i:Int) (t:Tok) (s:zd4) (Q:zdV->zd4->Prop) (E:zdV->zd4->Prop),Q (.int (g i) s.toks) {s with toks:=s.toks+1}->wpAny (model X.prog X.w) X.A (f (.int i t)) Q E s) :
 Xx X f (rU fun i=>.int (g i)):=by
 intro pins s σ H x v Q I rx h;obtain⟨i,rfl,q⟩:=h;obtain⟨t,rfl⟩:=rx;exact rule i t s _ _ ⟨.int (g i),H,I.tok _,⟨_,rfl⟩,q⟩
theorem mX:Xx X (unaryOp .USub) (rU fun i=>.int (-i)):=unI fun _ _ _ _ _ q=>neg_int q
end
def Dr:V->V->Bool
 |.dh,.dh=>true |.dh,.int _=>true |.int _,.dh=>true |.dh,.bl _=>true |.bl _,.dh=>true |.dh,.str _=>true |.str _,.dh=>true
 |.int _,.int _=>true |.bl _,.bl _=>true |.str _,.str _=>true |.G1 _,.G1 _=>true
 |.int _,.str _=>true |.str _,.int _=>true |.bl _,.str _=>true |.str _,.bl _=>true
 |_,_=>false
def ZO:R2:=fun x y H Q=>Dr x y=true/\Q (.bl (decide (x=y))) H
def ZP:R2:=fun x y H Q=>Dr x y=true/\Q (.bl (!decide (x=y))) H
theorem G7{i j:Int}:decide (V.int i=V.int j)=(i==j):=by
 rw[zbz];simp
theorem KL{i j:Bool}:decide (V.bl i=V.bl j)=(i==j):=by
 rw[zbz];simp
theorem G8{i j:Str}:decide (V.str i=V.str j)=(i==j):=by
 rw[zbz];simp
theorem G9{i j:Array UInt8}:decide (V.G1 i=V.G1 j)=(i.toList==j.toList):=by
 rw[zbz];cases i;cases j;simp
section
variable{X:Cx}{a b c:Expr}{ta tb tc:TE}{pos:Pos}
theorem b6{pins:List (zdU×Obj)}{σ:St}{H:Hp}{s:zd4}{Q:VK}{k k':Bool}(I:Inv X pins σ H s)(q:Q (.bl k) H)(e:k=k'):EP X pins σ Q (.bool k') s:=by
 subst e;exact⟨.bl k,H,I,rfl,q⟩
theorem b7:nU X (compareOp .Eq) ZO:=by
 intro pins s σ H x y v u Q I rx ry h;obtain⟨hs,q⟩:=h;cases x with
 |dh=>
  cases rx;cases y with
  |dh=>cases ry;exact PySem.EqNone.eq_none_none (b6 I q (by simp))
  |bl j=>cases ry;exact PySem.EqNone.eq_none_bool (b6 I q (by simp))
  |int j=>obtain⟨t',rfl⟩:=ry;exact PySem.EqNone.eq_none_int (b6 I q (by simp))
  |str j=>obtain⟨t',rfl⟩:=ry;exact PySem.EqNone.eq_none_str (b6 I q (by simp))
  |_=>exact absurd (show false=true from hs) zan
 |bl i=>
  cases rx;cases y with
  |dh=>cases ry;exact PySem.EqNone.eq_bool_none (b6 I q (by simp))
  |bl j=>cases ry;exact eq_bool (b6 I q KL)
  |str j=>obtain⟨t',rfl⟩:=ry;exact PySem.EqMixed.eq_bool_str (b6 I q (by simp))
  |_=>exact absurd (show false=true from hs) zan
 |int i=>
  obtain⟨t,rfl⟩:=rx;cases y with
  |dh=>cases ry;exact PySem.EqNone.eq_int_none (b6 I q (by simp))
  |int j=>obtain⟨t',rfl⟩:=ry;exact eq_int (b6 I q G7)
  |str j=>obtain⟨t',rfl⟩:=ry;exact PySem.EqMixed.eq_int_str (b6 I q (by simp))
  |_=>exact absurd (show false=true from hs) zan
 |str i=>
  obtain⟨t,rfl⟩:=rx;cases y with
  |dh=>cases ry;exact PySem.EqNone.eq_str_none (b6 I q (by simp))
  |bl j=>cases ry;exact PySem.EqMixed.eq_str_bool (b6 I q (by simp))
  |int j=>obtain⟨t',rfl⟩:=ry;exact PySem.EqMixed.eq_str_int (b6 I q (by simp))
  |str j=>obtain⟨t',rfl⟩:=ry;exact eq_str (b6 I q G8)
  |_=>exact absurd (show false=true from hs) zan
 |G1 i=>
  obtain⟨t,rfl⟩:=rx;cases y with
  |G1 j=>obtain⟨t',rfl⟩:=ry;exact PySem.W.eq_bytes (b6 I q G9)
  |_=>exact absurd (show false=true from hs) zan
 |_=>cases y<;>exact absurd (show false=true from hs) zan
theorem xu:nU X (compareOp .NotEq) ZP:=by
 intro pins s σ H x y v u Q I rx ry h;obtain⟨hs,q⟩:=h;cases x with
 |dh=>
  cases rx;cases y with
  |dh=>cases ry;exact PySem.EqNone.ne_none_none (b6 I q (by simp))
  |bl j=>cases ry;exact PySem.EqNone.ne_none_bool (b6 I q (by simp))
  |int j=>obtain⟨t',rfl⟩:=ry;exact PySem.EqNone.ne_none_int (b6 I q (by simp))
  |str j=>obtain⟨t',rfl⟩:=ry;exact PySem.EqNone.ne_none_str (b6 I q (by simp))
  |_=>exact absurd (show false=true from hs) zan
 |bl i=>
  cases rx;cases y with
  |dh=>cases ry;exact PySem.EqNone.ne_bool_none (b6 I q (by simp))
  |bl j=>cases ry;exact ne_bool (b6 I q (congrArg not KL))
  |str j=>obtain⟨t',rfl⟩:=ry;exact PySem.EqMixed.ne_bool_str (b6 I q (by simp))
  |_=>exact absurd (show false=true from hs) zan
 |int i=>
  obtain⟨t,rfl⟩:=rx;cases y with
  |dh=>cases ry;exact PySem.EqNone.ne_int_none (b6 I q (by simp))
  |int j=>obtain⟨t',rfl⟩:=ry;exact ne_int (b6 I q (congrArg not G7))
  |str j=>obtain⟨t',rfl⟩:=ry;exact PySem.EqMixed.ne_int_str (b6 I q (by simp))
  |_=>exact absurd (show false=true from hs) zan
 |str i=>
  obtain⟨t,rfl⟩:=rx;cases y with
  |dh=>cases ry;exact PySem.EqNone.ne_str_none (b6 I q (by simp))
  |bl j=>cases ry;exact PySem.EqMixed.ne_str_bool (b6 I q (by simp))
  |int j=>obtain⟨t',rfl⟩:=ry;exact PySem.EqMixed.ne_str_int (b6 I q (by simp))
  |str j=>obtain⟨t',rfl⟩:=ry;exact ne_str (b6 I q (congrArg not G8))
  |_=>exact absurd (show false=true from hs) zan
 |G1 i=>
  obtain⟨t,rfl⟩:=rx;cases y with
  |G1 j=>obtain⟨t',rfl⟩:=ry;exact PySem.W.ne_bytes (b6 I q (congrArg not G9))
  |_=>exact absurd (show false=true from hs) zan
 |_=>cases y<;>exact absurd (show false=true from hs) zan
theorem AL:nU X (compareOp .Lt) (NT fun i j=>.bl (decide (i<j))):=NU fun _ _ _ _ _ _ _ q=>lt_int q
theorem xv:nU X (compareOp .LtE) (NT fun i j=>.bl (decide (i<=j))):=NU fun _ _ _ _ _ _ _ q=>le_int q
theorem AM:nU X (compareOp .Gt) (NT fun i j=>.bl (decide (j<i))):=NU fun _ _ _ _ _ _ _ q=>gt_int q
theorem Ug:nU X (compareOp .GtE) (NT fun i j=>.bl (decide (j<=i))):=NU fun _ _ _ _ _ _ _ q=>ge_int q
theorem uB:nU X (compareOp .In) (fun x y H Q=>∃i j,x=.str i/\y=.str j/\Q (.bl (!(Builtin.Str.occurrences j i 0 j.length 1).isEmpty)) H):=by
 intro pins s σ H x y v u Q I rx ry h;obtain⟨i,j,rfl,rfl,q⟩:=h;obtain⟨t,rfl⟩:=rx;obtain⟨t',rfl⟩:=ry;exact in_str (b6 I q rfl)
theorem Q6:nU X (compareOp .Is) (fun x y H Q=>y=.dh/\Q (.bl (decide (x=.dh))) H):=by
 intro pins s σ H x y v u Q I rx ry h;obtain⟨rfl,q⟩:=h;cases ry;refine is_none_gen (b6 I q ?_);cases x<;>first
  |(cases rx;rfl)
  |(obtain⟨t,rfl⟩:=rx;rfl)
theorem nU.or{f:zdV->zdV->Sem zdV}{r r':R2}(h:nU X f r)(h':nU X f r'):nU X f (fun x y H Q=>r x y H Q\/r' x y H Q):=by
 intro pins s σ H x y v u Q I rx ry q;rcases q with q |q
 ·exact h pins s σ H x y v u Q I rx ry q
 ·exact h' pins s σ H x y v u Q I rx ry q
theorem aN(b:Expr){op:CmpOp}(h:op≠.In:=by decide)(h2:op≠.NotIn:=by decide):behindInMarks op b=false:=by
 have e1:(op==CmpOp.In)=false:=by cases op<;>first |rfl |exact absurd rfl h
 have e2:(op==CmpOp.NotIn)=false:=by cases op<;>first |rfl |exact absurd rfl h2
 cases b<;>simp[behindInMarks,e1,e2]
theorem kU{op:CmpOp}{r:R2}(ho:nU X (compareOp op) r)(ha:PE X a ta)(hb:PE X b tb)(hm:behindInMarks op b=false):PE X (.Compare a [op] [b] pos) (Ub r ta tb):=by
 intro pins s σ H Q I h;exact wpAny_Compare1 (Q3 ha hb I h fun v u s2 x y H2 I2 rx ry q=>ho pins s2 σ H2 x y v u Q I2 rx ry q) hm
def Hd (t:TE):TT:=fun σ H Q=>t σ H fun x H'=>∃k,x=.bl k/\Q k H'
theorem az{op:CmpOp}{r:R2}(ho:nU X (compareOp op) r)(ha:PE X a ta)(hb:PE X b tb)(hm:behindInMarks op b=false):PT X (.Compare a [op] [b] pos) (Hd (Ub r ta tb)):=by
 intro pins s σ H Q I h;refine wpAny_isTrue_Compare1 (eR (ha pins s σ H _ I h) fun v s1 zqz=>?_) hm;obtain⟨x,H1,I1,r1,q1⟩:=zqz;refine eR (hb pins s1 σ H1 _ I1 q1) fun u s2 zqz=>?_;obtain⟨y,H2,I2,r2,q2⟩:=zqz;refine eR (ho pins s2 σ H2 x y v u _ I2 r1 r2 q2) fun c s3 zqz=>?_;obtain⟨z,H3,I3,r3,k,e,q3⟩:=zqz;subst e;cases r3;exact wpAny_truthy_bool ⟨H3,I3,q3⟩
def FC (r r':R2) (ta tb tc:TE):TE:=fun σ H Q=>ta σ H fun x H1=>tb σ H1 fun y H2=>r x y H2 fun z H3=>∃k,z=.bl k/\
 (if k=true then tc σ H3 fun w' H4=>r' y w' H4 Q else Q (.bl false) H3)
theorem xw{op Pp:CmpOp}{r r':R2}(ho:nU X (compareOp op) r)(xn:nU X (compareOp Pp) r')(ha:PE X a ta)(hb:PE X b tb)(hc:PE X c tc)
 (hm:lastMarks [op,Pp] [b,c]=false:=by with_unfolding_all rfl):PE X (.Compare a [op,Pp] [b,c] pos) (FC r r' ta tb tc):=by
 intro pins s σ H Q I h;refine Compare_chain (eR (ha pins s σ H _ I h) fun v s1 ⟨x,H1,I1,r1,q1⟩=>chain_link (eR (hb pins s1 σ H1 _ I1 q1) fun u s2 zqz=>?_)) hm;obtain⟨y,H2,I2,r2,q2⟩:=zqz;refine eR (ho pins s2 σ H2 x y v u _ I2 r1 r2 q2) fun d s3 zqz=>?_;obtain⟨z,H3,I3,r3,k,e,q3⟩:=zqz;subst e;cases r3;refine wpAny_truthy_bool ?_;cases k with
 |false=>exact ite_ff ⟨.bl false,H3,I3,rfl,q3⟩
 |true=>exact ite_tt (chain_last (eR (hc pins s3 σ H3 _ I3 q3) fun w' s4 ⟨z',H4,I4,r4,q4⟩=>xn pins s4 σ H4 y z' u w' Q I4 r2 r4 q4))
def Uh (K:zaa) (x:V) (H:Hp) (k:Bool):Prop:=
 match x with
 |.dh=>k=false
 |.bl b=>k=b
 |.int i=>k=(i != 0)
 |.str y=>y.length<=zd2/\k=((y.length:Int) != 0)
 |.G1 y=>y.size<=zd2/\k=((y.size:Int) != 0)
 |.ref p=>(∃xs,fH K H p xs/\k = !xs.isEmpty)\/(∃xs,cv K H p xs/\k = !xs.isEmpty)\/∃aV,H p=some (.dK aV)/\k = !aV.isEmpty
 |_=>False
theorem FD{κ:Type}{aV:List (κ×V)}{vs:List (κ×zdV)}(r:KV aV vs):(!vs.isEmpty) = !aV.isEmpty:=by
 cases r<;>rfl
theorem xx{xs:List V}{aY:List zdV}(r:Vals xs aY):(!aY.toArray.isEmpty) = !xs.isEmpty:=by
 cases r<;>simp
theorem rk:(zd2:Nat)<2 ^ 63:=by rw[sizeLine_eq];decide
theorem Q7:Xy X (fun x H Q=>∃k,Uh X.K x H k/\Q k H):=by
 intro pins s σ H x v Q I rx h;obtain⟨k,e,q⟩:=h;have hl:=rk;have hs:zd2=16777216:=sizeLine_eq;cases x with
 |dh=>
  cases rx;have e':k=false:=e;subst e';exact truthy_none ⟨H,I,q⟩
 |bl b=>
  cases rx;have e':k=b:=e;subst e';exact wpAny_truthy_bool ⟨H,I,q⟩
 |int i=>
  obtain⟨t,rfl⟩:=rx;have e':k=(i != 0):=e;subst e';exact PySem.P.truthy_int ⟨H,I,q⟩
 |str y=>
  obtain⟨t,rfl⟩:=rx;obtain⟨hy,e'⟩:y.length<=zd2/\k=((y.length:Int) != 0):=e;subst e';exact PySem.P.truthy_str (by lia) ⟨H,I.tok _,q⟩
 |G1 y=>
  obtain⟨t,rfl⟩:=rx;obtain⟨hy,e'⟩:y.size<=zd2/\k=((y.size:Int) != 0):=e;subst e';exact PySem.W.truthy_bytes (by lia) ⟨H,I.tok _,q⟩
 |ref p=>
  cases rx;have e':(∃xs,fH X.K H p xs/\k = !xs.isEmpty)\/(∃xs,cv X.K H p xs/\k = !xs.isEmpty)\/∃aV,H p=some (.dK aV)/\k = !aV.isEmpty:=e;rcases e' with ⟨xs,hx,e'⟩ |⟨xs,hx,e'⟩ |⟨aV,hx,e'⟩
  ·subst e';obtain⟨aY,r,pl,hz⟩:=I.list hx;have hlen:=r.length;exact wpAny_truthy_list pl.isList (by simp only[zax];lia) ⟨H,I.tok _,by rw[xx r];exact q⟩
  ·subst e';obtain⟨aY,r,pl,hz⟩:=I.tuple hx;have hlen:=r.length;exact truthy_tuple pl (by simp only[zax];lia) ⟨H,I.tok _,by rw[xx r];exact q⟩
  ·subst e';obtain⟨hz,hS,vs,r,m⟩:aV.length<=zd2/\(p==sysModules)=false/\∃vs,KV aV vs/\s.heap.DictOf (fg X.prog X.w) p vs:=I.cJ p _ hx;have hlen:aV.length=vs.length:=Paired.length r;exact wpAny_truthy_dict hS m (by lia) ⟨H,I.tok _,by rw[FD r];exact q⟩
 |_=>exact(show False from e).elim
theorem oE(ha:PE X a ta)(he:∀whole,isTrue a X.env whole=(do let v <- whole;standAt a.pos;holding [v] (truthy v))) :
 PT X a (fun σ H Q=>ta σ H fun x H'=>∃k,Uh X.K x H' k/\Q k H'):=by
 intro pins s σ H Q I h;exact isTrue_plain (eR (ha pins s σ H _ I h) fun v s1 ⟨x,H1,I1,r1,q1⟩=>Q7 pins s1 σ H1 x v Q I1 r1 q1) (he _)
theorem aT:nU X (binaryOp .Add) (fun x y H Q=>∃i j,x=.str i/\y=.str j/\i.length+j.length<=zd2/\Q (.str (i++j)) H):=by
 intro pins s σ H x y v u Q I rx ry h;obtain⟨i,j,rfl,rfl,hz,q⟩:=h;obtain⟨t,rfl⟩:=rx;obtain⟨t',rfl⟩:=ry;exact add_str (fun t' tk=>⟨.str (i++j),H,I.tok _,⟨_,rfl⟩,q⟩) hz
theorem vals1{x:V}{us:List zdV}(r:Vals [x] us):∃u,us=[u]/\RelV x u:=by
 cases r with
 |cons r1 r2=>cases r2;exact⟨_,rfl,r1⟩
theorem vals2{x y:V}{us:List zdV}(r:Vals [x,y] us):∃u w',us=[u,w']/\RelV x u/\RelV y w':=by
 cases r with
 |cons r1 r2=>
  cases r2 with
  |cons r3 r4=>cases r4;exact⟨_,_,rfl,r1,r3⟩
theorem IP(hc:X.calm=true):gq X (.builtin "max") (fun xs H Q=>∃i j,xs=[.int i,.int j]/\Q (.int (if j>i then j else i)) H):=by
 intro pins s σ H xs us Q I r h;obtain⟨i,j,rfl,q⟩:=h;obtain⟨u,w',rfl,⟨t,rfl⟩,⟨t',rfl⟩⟩:=vals2 r;refine max_two_ints (I.ok.hd hc) fun h' tk k=>⟨_,H,I.kept k,?_,q⟩
 by_cases hj:j>i
 ·rw[if_pos hj,if_pos hj];exact⟨_,rfl⟩
 ·rw[if_neg hj,if_neg hj];exact⟨_,rfl⟩
theorem BC:gq X (.type "str") (fun xs H Q=>∃i,xs=[.int i]/\i.natAbs.log2<1920/\Q (.str (toString i)) H):=by
 intro pins s σ H xs us Q I r h;obtain⟨i,rfl,hz,q⟩:=h;obtain⟨u,rfl,t,rfl⟩:=vals1 r;exact PySem.P.str_of_int hz ⟨.str _,H,I.tok _,⟨_,rfl⟩,q⟩
end
structure FE(h:Heap)(x dx C:zdU)(mA:Str->Option zdV):Prop where
 obj:h.get? x=some (zbI C dx)
 ns:h.Ns1 dx mA
 ne:dx≠x
theorem IQ{h:Heap}{dx:zdU}{mA:Str->Option zdV}(n:h.Ns1 dx mA):∃od,h.get? dx=some od/\∀name,zcS name od=some (mA name):=by
 obtain⟨o,es,ep,ho,hd,hk,_,hm⟩:=n;refine⟨o,ho,fun name=>?_⟩;have e:=hm name;unfold nsFind findBy at e;rw[<- Array.find?_toList] at e;unfold zcS;rw[hd];dsimp only;split
 ·rename_i y q;rw[q] at e;exact congrArg some e
 ·rename_i q;rw[q] at e;have a:es.toList.any (·.refKey)=false:=by
   rw[List.any_eq_false];intro y hy;obtain⟨z,t,XA⟩:=hk y (Array.mem_toList_iff.mp hy);simp[DictEntry.refKey,XA]
  have a':¬es.toList.any (·.refKey)=true:=by rw[a];exact zan
  rw[if_neg a'];exact congrArg some e
theorem FE.look{h:Heap}{x dx C:zdU}{mA:Str->Option zdV}(I:FE h x dx C mA):∃od,PySem.W.InstAt h x (zbI C dx) C (some od)/\∀name,zcS name od=some (mA name):=
 let ⟨od,ho,hl⟩:=IQ I.ns
 ⟨od,⟨I.obj,rfl,rfl,ho⟩,hl⟩
section
variable{prog:zd6}{w:zdW}{A:zd5}{E:zdV->zd4->Prop}{s:zd4}{K:zaa}{x dx C f:zdU}{mA:Str->Option zdV}{name:Str}{v:zdV}
theorem get_map{expr:Bool}{Q:zdV->zd4->Prop}(X:K.In s.heap)(I:FE s.heap x dx C mA)(hg:zbZ K C name=true)(hh:zca K C=true)
 (ha:zaN K (.ref C) name=some none) (hv:mA name=some v) (Wl:PySem.W.handedIn v=true) (h:Q v {s with toks:=s.toks+1}) :
 wpAny (model prog w) A (getAttr (.ref x) name expr) Q E s:=by
 obtain⟨od,J,hl⟩:=I.look;exact PySem.W.get_value X J (zcO hg).1 (PySem.W.findObj_own hh ha rfl (by rw[hl,hv])) Wl h
theorem KN{pl:Sem Bool}{Q:zdV×List zdV->zd4->Prop}(X:K.In s.heap)(I:FE s.heap x dx C mA)(hg:zbZ K C name=true)
 (hf:zaN K (.ref C) name=some (some (.ref f))) (ht:zbJ K (.ref f)=true) (hv:mA name=none) (h:Q (.ref f,[.ref x]) s) :
 wpAny (model prog w) A (getMethod (.ref x) name pl) Q E s:=by
 obtain⟨od,J,hl⟩:=I.look;exact PySem.W.method_fn X J (zcO hg).1 (zcO hg).2 hf (beq_iff_eq.mp ht) (by show (zcS name od).map (·.isSome)=some false;rw[hl,hv];rfl) h
theorem NV{ns:List Str}{Q:Unit->zd4->Prop}(X:K.In s.heap)(I:FE s.heap x dx C mA)
 (hs:zaN K (.ref C) "__setattr__"=some (some (.builtin "object.__setattr__"))) (hp:zco K C=true) (ht:zdj K C name=some none) (hh:zca K C=true)
 (hw:PySem.Within mA ns) (Ui:ns.length<=zd2)
 (h:∀h',FE h' x dx C (fun y=>if y=name then some v else mA y)->Heap.SameBut dx s.heap h'->Q () {s with heap:=h',toks:=s.toks+2}) :
 wpAny (model prog w) A (setAttr (.ref x) name v) Q E s:=by
 obtain⟨od,J,hl⟩:=I.look;refine PySem.W.set_plain X J hs (PySem.W.osa_open (s:={s with toks:=s.toks+1}) (r:=none) X J hp ht fun b=>?_);obtain⟨cd,hc,TU⟩:=PySem.W.any_some hh;have hx:s.heap.get? x=some ⟨.ref C,some dx,.plain, #[]⟩:=I.obj;refine zdX (zdY (zdX (zdX (wpAny_loadPart hx (zdX (PySem.W.Looks.here (s:={s with toks:=s.toks+1}) (PySem.W.looks_clsIn X hc) ?_))))));rw[TU];refine zdY (a:=some dx) (zdX (zdY (zdX ?_)));refine wpAny_nsSet1 (s:={s with toks:=s.toks+1}) I.ns fun h' Wm KO=>?_;obtain⟨oD,esD,epD,hoD,hdD,hcD⟩:=Wm.count (PySem.Within.cons name v hw);refine zdX (wpAny_lookBehind hoD (by rw[hdD];exact pastItsLine_dict (zaA hcD (by rw[zah];lia))) ?_);exact zdY (h _ ⟨(KO.2 _ (Ne.symm I.ne)).trans I.obj,Wm,I.ne⟩ KO)
theorem KP{R:Result->zd4->Prop}{vs:List zdV}{kw:List (Str×zdV)}(X:K.In s.heap)(hm:zcH K C=true)
 (hi:zaN K (.ref C) "__init__"=some (some (.ref f))) (hf:PySem.W.typeIn K (.ref f)=some (.type "function"))
 (h:codeAny (model prog w) (A.under (.builtin "type.__call__" ⟨.ref C::vs,kw⟩)) (.call (.ref f) ⟨.ref (s.heap.objs.size+1)::vs,kw⟩) (PySem.W.InitBack (s.heap.objs.size+1) R)
  {s with heap:=(s.heap.push zbr).push (zbI C s.heap.objs.size)}) :
 codeAny (model prog w) A (.call (.ref C) ⟨vs,kw⟩) R s:=by
 obtain⟨hh,g,d,t,os⟩:=s;exact PySem.W.make_core (PySem.W.makes_of X hm) (PySem.W.looks_findIn X hi) (fun self=>PySem.W.bind_fn X self hf) (.inl rfl) h
end
def mq (f:Str) (v:V):List (Str×V)->List (Str×V)
 |[]=>[(f,v)]
 |(g,x)::r=>if g=f then (g,v)::r else (g,x)::mq f v r
theorem vB(f g:Str)(v:V):∀fs:List (Str×V),(mq f v fs).lookup g=if g=f then some v else fs.lookup g
 |[]=>by
  show zbW g [(f,v)]=_;by_cases h:g=f
  ·have hb:(g==f)=true:=beq_iff_eq.mpr h;simp only[zbW,hb,if_pos h]
  ·have hb:(g==f)=false:=beq_eq_false_iff_ne.mpr h;simp only[zbW,hb,if_neg h]
 |(k,x)::r=>by
  have ih:=vB f g v r;rw[show mq f v ((k,x)::r)=(if k=f then (k,v)::r else (k,x)::mq f v r) from rfl];by_cases hk:k=f
  ·rw[if_pos hk];by_cases h:g=k
   ·have hb:(g==k)=true:=beq_iff_eq.mpr h;simp only[zbW,hb,if_pos (h.trans hk)]
   ·have hb:(g==k)=false:=beq_eq_false_iff_ne.mpr h;simp only[zbW,hb,if_neg (fun e:g=f=>h (e.trans hk.symm))]
  ·rw[if_neg hk];by_cases h:g=k
   ·have hb:(g==k)=true:=beq_iff_eq.mpr h;simp only[zbW,hb,if_neg (fun e:g=f=>hk (h.symm.trans e))]
   ·have hb:(g==k)=false:=beq_eq_false_iff_ne.mpr h;simp only[zbW,hb];exact ih
theorem uC(f:Str)(v:V):∀fs:List (Str×V),f∈(mq f v fs).map (·.1)/\∀g,g∈fs.map (·.1)->g∈(mq f v fs).map (·.1)
 |[]=>⟨by simp[mq],fun g h=>by simp at h⟩
 |(k,x)::r=>by
  obtain⟨i1,i2⟩:=uC f v r;rw[show mq f v ((k,x)::r)=(if k=f then (k,v)::r else (k,x)::mq f v r) from rfl];by_cases hk:k=f
  ·rw[if_pos hk];subst hk;exact⟨by simp,fun g h=>by simpa using h⟩
  ·rw[if_neg hk];refine⟨?_,fun g h=>?_⟩
   ·rw[zar];exact zam _ i1
   ·rw[zar] at h ⊢;rcases zak.mp h with e |e
    ·exact zak.mpr (.inl e)
    ·exact zam _ (i2 g e)
theorem vC(f:Str)(v:V):∀fs:List (Str×V),(mq f v fs).length<=fs.length+1
 |[]=>by simp[mq]
 |(k,x)::r=>by
  have ih:=vC f v r;rw[show mq f v ((k,x)::r)=(if k=f then (k,v)::r else (k,x)::mq f v r) from rfl];by_cases hk:k=f
  ·rw[if_pos hk,zah,zah];lia
  ·rw[if_neg hk,zah,zah];lia
theorem oy.some_of{v:V}{o:Option zdV}(r:oy (some v) o):∃u,o=some u/\RelV v u:=by
 cases o with
 |none=>exact(show False from r).elim
 |some u=>exact⟨u,rfl,r⟩
theorem oy.none_of{o:Option zdV}(r:oy none o):o=none:=by
 cases o with
 |none=>rfl
 |some u=>exact(show False from r).elim
theorem IS{v:V}{u:zdV}(r:RelV v u):PySem.W.handedIn u=true:=by
 cases v with
 |dh=>cases (show u=Value.none from r);rfl
 |bl b=>cases (show u=Value.bool b from r);rfl
 |int i=>obtain⟨t,e⟩:=(show ∃t,u=Value.int i t from r);cases e;rfl
 |str x=>obtain⟨t,e⟩:=(show ∃t,u=Value.str x t from r);cases e;rfl
 |G1 b=>obtain⟨t,e⟩:=(show ∃t,u=Value.bytes b t from r);cases e;rfl
 |QN b=>obtain⟨t,e⟩:=(show ∃t,u=Value.float b t from r);cases e;rfl
 |ref a=>cases (show u=Value.ref a from r);rfl
 |ty n=>cases (show u=Value.type n from r);rfl
section
variable{P:zd6}{w:zdW}{H H':Hp}{h h':Heap}{a C dx:zdU}{fs Pf:List (Str×V)}
theorem wW(cJ:sD P w H h)(e:H a=some (.ins C dx fs)):∃mA,FE h a dx C mA/\(∀f,oy (fs.lookup f) (mA f))/\PySem.Within mA (fs.map (·.1))/\fs.length<=1000/\H dx=some (.own a):=by
 obtain⟨d,z,ne,ob,mA,n,r,q⟩:=(show eK P w H h a (.ins C dx fs) from cJ a _ e)
 exact⟨mA,⟨ob,n,ne⟩,r,q,z,d⟩
end
structure Ke(K:zaa)(C:zdU):Prop where
 pg:zbZ K C Str.empty=true
 hd:zca K C=true
 po:zco K C=true
 sa:zaN K (.ref C) "__setattr__"=some (some (.builtin "object.__setattr__"))
theorem Ke.get{K:zaa}{C:zdU}(c:Ke K C)(f:Str):zbZ K C f=true:=c.pg
def jJ (K:zaa) (C:zdU) (f:Str):Prop:=zaN K (.ref C) f=some none
theorem jJ.Uj{K:zaa}{C:zdU}{f:Str}(n:jJ K C f):zdj K C f=some none:=by
 unfold zdj;rw[show zaN K (.ref C) f=some none from n];rfl
structure Meth(K:zaa)(C:zdU)(m:Str)(f:zdU):Prop where
 at_:zaN K (.ref C) m=some (some (.ref f))
 fn:zbJ K (.ref f)=true
 kp:za7 K (.ref f)=true
section
variable{X:Cx}{pins:List (zdU×Obj)}{σ:St}{H:Hp}{s:zd4}{a C dx:zdU}{fs:List (Str×V)}{f:Str}{v:V}{A:zd5}{E:zdV->zd4->Prop}
theorem xy{b:Bool}{Q:zdV->zd4->Prop}(I:Inv X pins σ H s)(e:H a=some (.ins C dx fs))(c:Ke X.K C)(n:jJ X.K C f)(l:fs.lookup f=some v)
 (h:∀u s',Inv X pins σ H s'->RelV v u->Q u s'):wpAny (model X.prog X.w) A (getAttr (.ref a) f b) Q E s:=by
 obtain⟨mA,O,r,_,_,_⟩:=wW I.cJ e;obtain⟨u,hu,ru⟩:=oy.some_of (v:=v) (o:=mA f) (by rw[<- l];exact r f);exact get_map I.sE O (c.get f) c.hd n hu (IS ru) (h u _ (I.tok _) ru)
theorem FF{m:Str}{g:zdU}{pl:Sem Bool}{Q:zdV×List zdV->zd4->Prop}(I:Inv X pins σ H s)(e:H a=some (.ins C dx fs))(c:Ke X.K C)(k:Meth X.K C m g)(l:fs.lookup m=none)
 (h:Q (.ref g,[.ref a]) s):wpAny (model X.prog X.w) A (getMethod (.ref a) m pl) Q E s:=by
 obtain⟨mA,O,r,_,_,_⟩:=wW I.cJ e;have hn:mA m=none:=oy.none_of (by rw[<- l];exact r m);exact KN I.sE O (c.get m) k.at_ k.fn hn h
theorem xA{y:V}{u:zdV}{Q:Unit->zd4->Prop}(I:Inv X pins σ H s)(e:H a=some (.ins C dx fs))(c:Ke X.K C)(n:jJ X.K C f)(hl:fs.length<1000)(ry:RelV y u)
 (h:∀s',Inv X pins σ (upd H a (.ins C dx (mq f y fs))) s'->Q () s'):wpAny (model X.prog X.w) A (setAttr (.ref a) f u) Q E s:=by
 obtain⟨mA,O,r,wi,_,ho⟩:=wW I.cJ e;have hz:(fs.map (·.1)).length<=zd2:=by rw[zai,sizeLine_eq];lia
 refine NV I.sE O c.sa c.po n.Uj c.hd wi hz fun h' O' sb=>h _ ?_;have hd:∃o,h'.get? dx=some o:=let ⟨o,_,_,e',_⟩:=O'.ns;⟨o,e'⟩;refine I.write (x:=a) (e:=dx) (by rw[e];exact True.intro) (.inr ho) (fun b q hb z=>(sb.2 b hb).trans z) hd ?_;refine⟨by rw[aq O.ne];exact ho,?_,O.ne,O'.obj,_,O'.ns,fun g=>?_,fun g hg=>?_⟩
 ·have:=vC f y fs;lia
 ·show oy ((mq f y fs).lookup g) (if g=f then some u else mA g);rw[vB];by_cases q:g=f
  ·rw[if_pos q,if_pos q];exact ry
  ·rw[if_neg q,if_neg q];exact r g
 ·by_cases q:g=f
  ·rw[q];exact(uC f y fs).1
  ·refine(uC f y fs).2 g (wi g fun z=>hg ?_);show (if g=f then some u else mA g)=none;rw[if_neg q];exact z
theorem Inv.made(I:Inv X pins σ H s):Inv X pins σ (upd (upd H s.heap.objs.size (.own (s.heap.objs.size+1))) (s.heap.objs.size+1) (.ins C s.heap.objs.size []))
 {s with heap:=(s.heap.push zbr).push (zbI C s.heap.objs.size)}:=by
 have e1:(s.heap.push zbr).get? s.heap.objs.size=some zbr:=Heap.get?_push_size s.heap rfl;have e2:((s.heap.push zbr).push (zbI C s.heap.objs.size)).get? (s.heap.objs.size+1)=some (zbI C s.heap.objs.size):=by
  have:=Heap.get?_push_size (s.heap.push zbr) (o:=zbI C s.heap.objs.size) rfl
  rwa [Heap.size_push] at this
 have e3:(s.heap.push zbr).Ns s.heap.objs.size (fun _=>none):=⟨zbr, #[],_,e1,rfl,(fun e he=>absurd he (by simp)),fun _=>rfl⟩
 have I1:=I.laid (a:=s.heap.objs.size) (o:=.own (s.heap.objs.size+1)) (h':=s.heap.push zbr) (t':=s.toks) (fun b u q=>Heap.get?_push_of_some _ q) (zag _) ⟨_,e1⟩;refine I1.laid (a:=s.heap.objs.size+1) (o:=.ins C s.heap.objs.size []) (t':=s.toks) (fun b u q=>Heap.get?_push_of_some _ q) (zdK (Heap.size_push _ _)) ?_;have ne:s.heap.objs.size≠s.heap.objs.size+1:=zaS (zcb _);refine⟨by rw[aq ne,aj],zaJ _,ne,e2,fun _=>none,(Heap.Ns1.of_empty e3).at fun o q=>Heap.get?_push_of_some _ q,fun _=>True.intro,fun y hy=>absurd rfl hy⟩
theorem NW{prog:zd6}{w:zdW}{env:Env}{e:Expr}{f:Str}{pos:Pos}{s:zd4}{Q:zdV->zd4->Prop}(hb:attributeBase e f env (eval e env)=eval e env)
 (h:wpAny (model prog w) A (eval e env) (fun o s₁=>wpAny (model prog w) A (getAttr o f true) Q E s₁) E s):wpAny (model prog w) A (eval (.Attribute e f pos) env) Q E s:=
 Attribute_any_ h (by rw[arm_eval_Attribute,hb])
end
def Q8 (K:zaa) (ta:TE) (f:Str):TE:=fun σ H Q=>ta σ H fun x H1=>∃a C dx fs v,x=.ref a/\H1 a=some (.ins C dx fs)/\Ke K C/\jJ K C f/\fs.lookup f=some v/\Q v H1
def Q9 (K:zaa) (ta tv:TE) (f:Str):TS:=fun D σ H=>tv σ H fun y H1=>ta σ H1 fun x H2=>∃a C dx fs,x=.ref a/\H2 a=some (.ins C dx fs)/\Ke K C/\jJ K C f/\fs.length<1000/\
 D.nx σ (upd H2 a (.ins C dx (mq f y fs)))
def Uk (X:Cx) (op:Operator) (rd:V->V->Hp->VK->Prop):Prop:=
 ∀(pins:List (zdU×Obj)) (s:zd4) (σ:St) (H:Hp) (x y:V) (u v:zdV) (Q:VK),Inv X pins σ H s->RelV x u->RelV y v->rd x y H Q->wpAny (model X.prog X.w) X.A (inplaceOp op u v) (EP X pins σ Q) X.xe s
def BD (K:zaa) (ta tv:TE) (rd:V->V->Hp->VK->Prop) (f:Str):TS:=fun D σ H=>ta σ H fun x H1=>∃a C dx fs v,x=.ref a/\H1 a=some (.ins C dx fs)/\Ke K C/\jJ K C f/\fs.lookup f=some v/\
 tv σ H1 fun y H2=>rd v y H2 fun z H3=>∃Ra Pf,H3 a=some (.ins C Ra Pf)/\Pf.length<1000/\D.nx σ (upd H3 a (.ins C Ra (mq f z Pf)))
section
variable{X:Cx}{o e value:Expr}{f:Str}{pos pos' XB:Pos}{ta tv:TE}
theorem c6(he:PE X e ta)(hb:attributeBase e f X.env (eval e X.env)=eval e X.env):PE X (.Attribute e f pos) (Q8 X.K ta f):=by
 intro pins s σ H Q I h;refine NW hb (eR (he pins s σ H _ I h) fun u s1 zqz=>?_);obtain⟨x,H1,I1,rx,a,C,dx,fs,v,ex,ea,c,n,l,q⟩:=zqz;subst ex;obtain rfl:u=Value.ref a:=rx;exact xy I1 ea c n l fun u' s2 I2 ru=>⟨v,H1,I2,ru,q⟩
theorem xB(ha:PE X o ta)(hv:PE X value tv)(hs:swapsWith value (some (.Attribute o f pos')) pos.line X.env=pure false):PS X (.Assign [.Attribute o f pos'] value pos) (Q9 X.K ta tv f):=by
 intro pins s σ H D I h;refine plainObj_wpAny_Assign_Attribute (eR (hv pins s σ H _ I h) fun u s1 zqz=>?_) hs;obtain⟨y,H1,I1,ry,q⟩:=zqz;refine eR (ha pins s1 σ H1 _ I1 q) fun ov s2 zqz=>?_;obtain⟨x,H2,I2,rx,a,C,dx,fs,ex,ea,c,n,l,q2⟩:=zqz;subst ex;obtain rfl:ov=Value.ref a:=rx;exact xA I2 ea c n l ry fun s3 I3=>⟨σ,_,I3,q2⟩
theorem IT{op:Operator}{rd:V->V->Hp->VK->Prop}(ha:PE X o ta)(hv:PE X value tv)(Rb:Uk X op rd):PS X (.AugAssign (.Attribute o f XB) op value pos) (BD X.K ta tv rd f):=by
 intro pins s σ H D I h;refine wpAny_AugAssign_AttributeAny (eR (ha pins s σ H _ I h) fun ov s1 zqz=>?_);obtain⟨x,H1,I1,rx,a,C,dx,fs,v,ex,ea,c,n,l,q⟩:=zqz;subst ex;obtain rfl:ov=Value.ref a:=rx;refine xy I1 ea c n l fun u s2 I2 ru=>eR (hv pins s2 σ H1 _ I2 q) fun w3 s3 zqz=>?_;obtain⟨y,H2,I3,ry,q3⟩:=zqz;refine eR (Rb pins s3 σ H2 v y u w3 _ I3 ru ry q3) fun w4 s4 zqz=>?_;obtain⟨z,H3,I4,rz,Ra,Pf,ea',l',q4⟩:=zqz;exact xA I4 ea' c n l' rz fun s5 I5=>⟨σ,_,I5,q4⟩
def XC:V->V->Hp->VK->Prop:=fun x y H Q=>∃i j,x=.int i/\y=.int j/\Q (.int (i+j)) H
theorem Rc:Uk X .Add XC:=by
 rintro pins s σ H x y u v Q I rx ry ⟨i,j,rfl,rfl,q⟩
 obtain⟨t,rfl⟩:=(show ∃t,u=Value.int i t from rx)
 obtain⟨t',rfl⟩:=(show ∃t',v=Value.int j t' from ry)
 exact PyProof.Rows.iadd_int ⟨.int (i+j),H,I.tok _,⟨_,rfl⟩,q⟩
end
section
variable{X:Cx}{pins:List (zdU×Obj)}{σ:St}{H:Hp}{s:zd4}{A:zd5}{E:zdV->zd4->Prop}{Q:zdV->zd4->Prop}{c:zdV}{b:Bool}
inductive uD(K:zaa)(H:Hp):V->zdV->Prop where
 |dh:uD K H .dh (.type "NoneType")
 |bl (x:Bool):uD K H (.bl x) (.type "bool")
 |int (i:Int):uD K H (.int i) (.type "int")
 |str (x:Str):uD K H (.str x) (.type "str")
 |QN (x:UInt64):uD K H (.QN x) (.type "float")
 |lst {a:zdU} {xs:List V} (e:H a=some (.lst xs)):uD K H (.ref a) (.type "list")
 |Ft {a:zdU} {o:Obj} {xs:List V} (e:H a=some (.Ft o (.lst xs))):uD K H (.ref a) (.type "list")
 |tup {a:zdU} {xs:List V} (e:H a=some (.tup xs)):uD K H (.ref a) (.type "tuple")
 |dK {a:zdU} {aV:List (Key×V)} (e:H a=some (.dK aV)):uD K H (.ref a) (.type "dict")
 |dT {a:zdU} {aV:List (List Key×V)} (e:H a=some (.dT aV)):uD K H (.ref a) (.type "dict")
 |ins {a C dx:zdU} {fs:List (Str×V)} (e:H a=some (.ins C dx fs)) (cl:Ke K C) (ha:zaN K (.ref C) "__class__"=some (some (.builtin "object.__class__")))
  (hn:PySem.W.specialIn K (.builtin "object.__class__") "__get__"=some (some (.builtin "getset_descriptor.__get__"))) (ZQ:PySem.W.takesIn K (.builtin "object.__class__")=some true)
  (hm:PySem.W.mroIn K C (.type "object")=some true):uD K H (.ref a) (.ref C)
theorem uE{x:V}{u t:zdV}(I:Inv X pins σ H s)(rx:RelV x u)(ty:uD X.K H x t)(e:zbc X.K t c=some b)(h:∀tk,Q (.bool b) {s with toks:=tk}) :
 wpAny (model X.prog X.w) A (call (.builtin "isinstance") [u,c]) Q E s:=by
 cases ty with
 |dh=>cases (show u=Value.none from rx);exact za8 PySem.W.kitx_none I.sE True.intro e (fun z=>nomatch z) h
 |bl y=>cases (show u=Value.bool y from rx);exact za8 PySem.W.kitx_bool I.sE True.intro e (fun z=>nomatch z) h
 |int i=>obtain⟨t,q⟩:=(show ∃t,u=Value.int i t from rx);cases q;exact za8 PySem.W.kitx_int I.sE True.intro e (fun z=>nomatch z) h
 |str y=>obtain⟨t,q⟩:=(show ∃t,u=Value.str y t from rx);cases q;exact za8 PySem.W.kitx_str I.sE True.intro e (fun z=>nomatch z) h
 |QN y=>obtain⟨t,q⟩:=(show ∃t,u=Value.float y t from rx);cases q;exact za8 PySem.W.kitx_float I.sE True.intro e (fun z=>nomatch z) h
 |@lst a xs ea=>
  cases (show u=Value.ref a from rx);obtain⟨_,_,n,_,h1⟩:=(show eK X.prog X.w H s.heap a (.lst xs) from I.cJ a _ ea)
  exact za8 zc3 I.sE ⟨_,h1,rfl⟩ e (fun z=>nomatch z) h
 |@Ft a ob xs ea=>
  cases (show u=Value.ref a from rx);obtain⟨_,_,_,n,_,h1⟩:=(show eK X.prog X.w H s.heap a (.Ft ob (.lst xs)) from I.cJ a _ ea)
  exact za8 zc3 I.sE ⟨_,h1,rfl⟩ e (fun z=>nomatch z) h
 |@tup a xs ea=>
  cases (show u=Value.ref a from rx);obtain⟨_,_,_,p⟩:=(show eK X.prog X.w H s.heap a (.tup xs) from I.cJ a _ ea)
  obtain⟨o,h1,h2,_⟩:=p;exact za8 zcZ I.sE ⟨o,h1,h2⟩ e (fun z=>nomatch z) h
 |@dK a aV ea=>
  cases (show u=Value.ref a from rx);obtain⟨_,_,vs,_,p⟩:=(show eK X.prog X.w H s.heap a (.dK aV) from I.cJ a _ ea)
  obtain⟨o,es,ep,h1,h2,_⟩:=p;exact za8 PySem.W.kitx_dict I.sE ⟨o,h1,h2.1⟩ e (fun z=>nomatch z) h
 |@dT a aV ea=>
  cases (show u=Value.ref a from rx);obtain⟨_,_,xs,_,o,es,ep,h1,h2,_⟩:=(show eK X.prog X.w H s.heap a (.dT aV) from I.cJ a _ ea)
  exact za8 PySem.W.kitx_dict I.sE ⟨o,h1,h2.1⟩ e (fun z=>nomatch z) h
 |@ins a C dx fs ea cl ha hn ZQ hm=>
  cases (show u=Value.ref a from rx);obtain⟨mA,O,_⟩:=wW I.cJ ea;obtain⟨od,J,_⟩:=O.look;exact za8 (PySem.W.kitx_own (cl.get _) cl.hd ha hn ZQ hm) I.sE J e (fun z=>nomatch z) h
end
structure gP(k:Nat)(A:zd5):Prop where
 hd:A.handled=none
 dp:A.depth+3*k+5<recursionLimit
 un:A.units+16*k+200<cLine
theorem gP.mono{j k:Nat}{A:zd5}(r:gP k A)(h:j<=k):gP j A:=⟨r.hd,by have:=r.dp;lia,by have:=r.un;lia⟩
theorem gP.deeper{k:Nat}{A:zd5}(r:gP (k+1) A)(env:Env):gP k (A.deeper env):=
 ⟨r.hd,by have:=r.dp;show A.depth+1+3*k+5<_;lia,by have:=r.un;show A.units+3+16*k+200<_;lia⟩
theorem gP.in1{k:Nat}{A:zd5}(r:gP (k+1) A):gP k A.in1:=
 ⟨r.hd,by have:=r.dp;show A.depth+3*k+5<_;lia,by have:=r.un;show A.units+1+16*k+200<_;lia⟩
theorem FG{A:zd5}{C:zdU}{us:List zdV}{kw:List (Str×zdV)}:(A.under (.builtin "type.__call__" ⟨.ref C::us,kw⟩)).depth=A.depth+1:=by
 first |rfl |simp[Around.under,Code.weight,Code.isCreation,Code.isGuard,Code.isCaller,Code.frames,Code.isFrame,guardIds]
theorem FI{A:zd5}{C:zdU}{us:List zdV}{kw:List (Str×zdV)}:(A.under (.builtin "type.__call__" ⟨.ref C::us,kw⟩)).units=A.units+1:=by
 first |rfl |simp[Around.under,Code.cUnits,Code.frames,Code.isFrame]
theorem gP.make{k:Nat}{A:zd5}(r:gP (k+1) A)(C:zdU)(us:List zdV)(kw:List (Str×zdV)):gP k (A.under (.builtin "type.__call__" ⟨.ref C::us,kw⟩)):=
 ⟨r.hd,by have:=r.dp;rw[FG];lia,by have:=r.un;rw[FI];lia⟩
theorem gP.depth{k:Nat}{A:zd5}(r:gP k A):A.depth<recursionLimit:=by have:=r.dp;lia
theorem gP.units{k:Nat}{A:zd5}(r:gP k A):A.units+64<cLine:=by have:=r.un;lia
def NX:TA:=fun _ H Q=>Q [] H
def Pq (ta:TE) (tr:TA):TA:=fun σ H Q=>ta σ H fun x H1=>tr σ H1 fun xs H2=>Q (x::xs) H2
section
variable{X:Cx}{e:Expr}{es:List Expr}{te:TE}{t:TA}{pos:Pos}
theorem af:PA X [] NX:=fun _ _ _ _ H Q I h=>Calls.spliced_nil ⟨[],H,I,.nil,h⟩
theorem ae(ha:PE X e te)(hr:PA X es t)(hs:zd0 (e::es) X.env=(false,eval e X.env)::zd0 es X.env:=by rfl):PA X (e::es) (Pq te t):=by
 intro pos pins s σ H Q I h;rw[hs];show wpAny _ _ (spliced ((false,eval e X.env)::backTo pos (zd0 es X.env))) _ _ s;refine Calls.spliced_cons (eR (ha pins s σ H _ I h) fun u s1 zqz=>?_);obtain⟨x,H1,I1,r1,q1⟩:=zqz;exact eR (hr pos pins s1 σ H1 _ I1 q1) fun us s2 ⟨xs,H2,I2,r2,q2⟩=>⟨x::xs,H2,I2,.cons r1 r2,q2⟩
def Ul (t:TA):TE:=fun σ H Q=>t σ H fun xs H1=>xs.length<=zd2/\∀p,H1 p=none->Q (.ref p) (upd H1 p (.tup xs))
def Um (t:TA):TE:=fun σ H Q=>t σ H fun xs H1=>xs.length<=zd2/\∀p,H1 p=none->Q (.ref p) (upd H1 p (.lst xs))
theorem bQ{x1}(h:PA X es t):PE X (.Tuple es x1 pos) (Ul t):=by
 intro pins s σ H Q I hq;refine wpAny_Tuple_spliced (eR (h pos pins s σ H _ I hq) fun us s1 ⟨xs,H1,I1,r,z,q⟩=>⟨by rw[<- r.length];exact z,?_⟩);have hf:H1 s1.heap.objs.size=none:=I1.cJ.fresh (zag _);refine⟨.ref s1.heap.objs.size,upd H1 s1.heap.objs.size (.tup xs),I1.laid (t':=s1.toks) (fun b u e=>Heap.get?_push_of_some _ e) (zag _) ?_,rfl,q _ hf⟩;exact⟨z,us,r,⟨_,Heap.get?_push_size _ rfl,rfl,_,rfl⟩⟩
theorem bb(h:PA X es t):PE X (.List es pos) (Um t):=by
 intro pins s σ H Q I hq;refine wpAny_List_spliced (eR (h pos pins s σ H _ I hq) fun us s1 ⟨xs,H1,I1,r,z,q⟩=>⟨by rw[<- r.length];exact z,?_⟩);have hf:H1 s1.heap.objs.size=none:=I1.cJ.fresh (zag _);refine⟨.ref s1.heap.objs.size,upd H1 s1.heap.objs.size (.lst xs),I1.laid (t':=s1.toks) (fun b u e=>Heap.get?_push_of_some _ e) (zag _) ?_,rfl,q _ hf⟩;exact⟨z,us,0,r,Heap.get?_push_size _ rfl⟩
end
abbrev Sp:=List V->Hp->VK->XK->Prop
abbrev Fn:=List Env->Hp->zd4->XK->zdV->zd4->Prop
structure zT(P:zd6)(w:zdW)(K:zaa)(mg:Str->Option zdV)(base:Heap)(A:zd5)(outer:List Env)(s:zd4)(H:Hp):Prop where
 frames:A.frames=some outer
 mod:Mod K mg base
 bs:∀b o,base.get? b=some o->s.heap.get? b=some o/\H b=none
 Kt:base.objs.size<=s.heap.objs.size
 uw:s.heap.FunFrames base outer
 Pg:∀b∈gp outer,H b=none
 cJ:sD P w H s.heap
 bare:AllBare s.gens
def CE (outer:List Env) (P:zd6) (w:zdW) (H:Hp) (s:zd4) (Q:VK) (u:zdV) (s':zd4):Prop:=
 ∃v H',s'.os=s.os/\AllBare s'.gens/\Un (gp outer) [] H H' s.heap s'.heap/\sD P w H' s'.heap/\RelV v u/\Q v H'
def CR (CX:Fn) (outer:List Env) (P:zd6) (w:zdW) (H:Hp) (s:zd4) (Q:VK) (E:XK) (r:Result) (s':zd4):Prop:=
 match r with
 |.ok (.ret u)=>CE outer P w H s Q u s'
 |.ok _=>False
 |.error e=>CX outer H s E e s'
structure a8(P:zd6)(w:zdW)(K:zaa)(mg:Str->Option zdV)(base:Heap)(CX:Fn)(k:Nat)(f:zdU)(fd:zd3)(ps:List Str)(sp:Sp):Prop where
 len:∀vs H Q E,sp vs H Q E->vs.length=ps.length
 run:∀(A:zd5) (outer:List Env) (s:zd4) (H:Hp) (args:Args) (us:List zdV) (vs:List V) (Q:VK) (E:XK),gP k A->zT P w K mg base A outer s H->BindsTo s fd args (ps.zip us)->Vals vs us->sp vs H Q E->
  codeAny (model P w) A (.call (.ref f) args) (CR CX outer P w H s Q E) s
theorem a8.mono{P:zd6}{w:zdW}{K:zaa}{mg:Str->Option zdV}{base:Heap}{CX:Fn}{j k:Nat}{f:zdU}{fd:zd3}{ps:List Str}{sp:Sp}(F:a8 P w K mg base CX j f fd ps sp)(h:j<=k) :
 a8 P w K mg base CX k f fd ps sp:=⟨F.len,fun A outer s H args us vs Q E hr=>F.run A outer s H args us vs Q E (hr.mono h)⟩
theorem a8.imp{P:zd6}{w:zdW}{K:zaa}{mg:Str->Option zdV}{base:Heap}{CX:Fn}{k:Nat}{f:zdU}{fd:zd3}{ps:List Str}{sp ZR:Sp}(F:a8 P w K mg base CX k f fd ps sp)
 (h:∀vs H Q E,ZR vs H Q E->sp vs H Q E):a8 P w K mg base CX k f fd ps ZR:=
 ⟨fun vs H Q E q=>F.len vs H Q E (h _ _ _ _ q),fun A outer s H args us vs Q E hr he hb hv hs=>F.run A outer s H args us vs Q E hr he hb hv (h _ _ _ _ hs)⟩
theorem zT.make{P:zd6}{w:zdW}{K:zaa}{mg:Str->Option zdV}{base:Heap}{A:zd5}{outer:List Env}{s:zd4}{H:Hp}(e:zT P w K mg base A outer s H)(C:zdU)(us:List zdV)(kw:List (Str×zdV)) :
 zT P w K mg base (A.under (.builtin "type.__call__" ⟨.ref C::us,kw⟩)) outer s H:=⟨by first |exact e.frames |(simpa[Around.under,Code.envs,Code.isFrame,pushEnvs] using e.frames),e.mod,e.bs,e.Kt,e.uw,e.Pg,e.cJ,e.bare⟩
theorem zT.in1{P:zd6}{w:zdW}{K:zaa}{mg:Str->Option zdV}{base:Heap}{A:zd5}{outer:List Env}{s:zd4}{H:Hp}(e:zT P w K mg base A outer s H) :
 zT P w K mg base A.in1 outer s H:=⟨e.frames,e.mod,e.bs,e.Kt,e.uw,e.Pg,e.cJ,e.bare⟩
section
variable{X:Cx}{pins:List (zdU×Obj)}{σ:St}{H:Hp}{s s':zd4}
theorem Inv.Uo(I:Inv X pins σ H s):zT X.prog X.w X.K X.mg X.base X.A X.stack s H:=
 ⟨I.ok.frames,I.ok.mod,I.bs,zaA I.ok.Kt I.sz,I.stack,I.wV,I.cJ,I.bare⟩
theorem Inv.after{Q:VK}{u:zdV}(I:Inv X pins σ H s)(h:CE X.stack X.prog X.w H s Q u s'):EP X pins σ Q u s':=by
 obtain⟨v,H',os,bare,un,cJ,r,q⟩:=h;obtain⟨hh,g,d,t,os'⟩:=s';obtain rfl:os'=s.os:=os;exact⟨v,H',I.call (h':=hh) (g':=g) (d':=d) (t':=t) (ch:=[]) un cJ bare (fun b z=>absurd z (by simp)),r,q⟩
end
def Pr (sp:Sp) (wX:List V) (E:XK) (t:TA):TE:=fun σ H Q=>t σ H fun vs H1=>sp (vs++wX) H1 Q E
def KQ (C:zdU) (m:Str) (sp:Sp) (wX:List V) (E:XK) (ta:TE) (t:TA):TE:=fun σ H Q=>ta σ H fun x H1=>∃a dx fs,x=.ref a/\H1 a=some (.ins C dx fs)/\fs.lookup m=none/\
 t σ H1 fun vs H2=>sp (x::(vs++wX)) H2 Q E
def He (C:zdU) (sp:Sp) (wX:List V) (E:XK) (t:TA):TE:=fun σ H Q=>t σ H fun vs H1=>∀x dx,H1 x=none->H1 dx=none->dx≠x->
 sp (.ref x::(vs++wX)) (upd (upd H1 dx (.own x)) x (.ins C dx [])) (fun v H2=>v=.dh/\Q (.ref x) H2) E
def Binds (K:zaa) (fd:zd3) (ps:List Str) (ds:List zdV):Prop:=
 ∀(s:zd4) (us:List zdV),K.In s.heap->(us++ds).length=ps.length->BindsTo s fd ⟨us,[]⟩ (ps.zip (us++ds))
theorem Binds.all{K:zaa}{fd:zd3}{ps:List Str}(h:∀us:List zdV,us.length=ps.length->bindArgs fd ⟨us,[]⟩=pure (ps.zip us)):Binds K fd ps []:=fun s us _ hl=>by
 rw[zaC] at hl ⊢;exact .of_eq (h us hl)
def Passes (CX:Fn) (X:Cx) (E:XK):Prop:=∀(pins:List (zdU×Obj)) (σ:St) (H:Hp) (s:zd4) (e:zdV) (s':zd4),Inv X pins σ H s->CX X.stack H s E e s'->X.xe e s'
section
variable{X:Cx}{CX:Fn}{k:Nat}{f C:zdU}{fd:zd3}{ps:List Str}{sp:Sp}{wX:List V}{ds:List zdV}{E:XK}{x m:Str}{p pos apos:Pos}{e o:Expr}{es:List Expr}{ta:TE}{t:TA}
theorem KR{pins:List (zdU×Obj)}{σ:St}{H:Hp}{s:zd4}{Q:VK}{us:List zdV}{vs:List V}(F:a8 X.prog X.w X.K X.mg X.base CX k f fd ps sp)(hr:gP k X.A)(hb:Binds X.K fd ps ds)(hd:Vals wX ds)(hx:Passes CX X E)
 (I:Inv X pins σ H s) (r:Vals vs us) (h:sp (vs++wX) H Q E):wpAny (model X.prog X.w) X.A (call (.ref f) us) (EP X pins σ Q) X.xe s:=by
 have r2:Vals (vs++wX) (us++ds):=r.append hd;have hl:(us++ds).length=ps.length:=by rw[<- r2.length];exact F.len _ _ _ _ h
 refine wpAny_call (codeAny_mono (F.run X.A X.stack s H ⟨us,[]⟩ (us++ds) (vs++wX) Q E hr I.Uo (hb s us I.sE hl) r2 h) fun r s' hq=>?_);cases r with
 |error e=>exact hx pins σ H s e s' I hq
 |ok fl=>
  cases fl with
  |ret u=>exact I.after hq
  |next=>exact False.elim hq
  |brk=>exact False.elim hq
  |cont=>exact False.elim hq
theorem ax(F:a8 X.prog X.w X.K X.mg X.base CX k f fd ps sp)(hr:gP k X.A)(hg:Gl X x)(hm:X.mg x=some (.ref f))(hk:za7 X.K (.ref f)=true)(hb:Binds X.K fd ps ds)(hd:Vals wX ds)(hx:Passes CX X E)
 (ha:PA X (e::es) t) (KU:(x==("__debug__":Str))=false:=by decide) (he:zd0 (e::es) X.env=(false,eval e X.env)::zd0 es X.env:=by rfl) (Fo:(backTo pos (zd0 es X.env)).any (·.1)=false:=by rfl) :
 PE X (.Call (.Name x p) (e::es) [] pos) (Pr sp wX E t):=by
 intro pins s σ H Q I h;refine wpAny_Call_Name_kw (sL I hg hm ?_ KU);refine PySem.W.callWith_K (h₀:=X.base) I.ok.mod.TQ hk (eR (ha pos pins s σ H _ I h) fun us s1 ⟨vs,H1,I1,r,q⟩=>⟨I1.sE,?_⟩) he Fo;exact KR F hr hb hd hx I1 r q
theorem dW{pl:Sem Bool}(he:PE X o ta)(c:Ke X.K C)(hm:Meth X.K C m f)(F:a8 X.prog X.w X.K X.mg X.base CX k f fd ps sp)(hr:gP k X.A)(hb:Binds X.K fd ps ds)(hd:Vals wX ds)(hx:Passes CX X E)
 (ht:eval (.Call (.Attribute o m apos) [] [] pos) X.env=(do
  let ov <- eval o X.env
  standAt apos.atName
  let (f,first) <- holding [ov] (getMethod ov m pl)
  callWith pos f first (backTo pos (zd0 [] X.env)) (backToKw pos (keywordEach [] X.env))):=by rfl) :
 PE X (.Call (.Attribute o m apos) [] [] pos) (KQ C m sp wX E ta NX):=by
 intro pins s σ H Q I h;refine PySem.W.methodCall_KW (pl:=pl) (eR (he pins s σ H _ I h) fun u s1 zqz=>?_) ht;obtain⟨x,H1,I1,rx,a,dx,fs,ex,ea,l,q⟩:=zqz;subst ex;obtain rfl:u=Value.ref a:=rx;refine FF I1 ea c hm l ?_;exact zdH (first:=[.ref a]) I1.sE hm.kp (KR (us:=[.ref a]) (vs:=[.ref a]) F hr hb hd hx I1 (.cons rfl .nil) q)
structure Mk(K:zaa)(C f:zdU):Prop where
 makes:zcH K C=true
 init:zaN K (.ref C) "__init__"=some (some (.ref f))
 fn:zbJ K (.ref f)=true
 kp:za7 K (.ref C)=true
theorem Ds{pins:List (zdU×Obj)}{σ:St}{H:Hp}{s:zd4}{Q:VK}{us:List zdV}{vs:List V}(M:Mk X.K C f)(F:a8 X.prog X.w X.K X.mg X.base CX k f fd ps sp)(hr:gP (k+1) X.A)(hb:Binds X.K fd ps ds)(hd:Vals wX ds)
 (hx:Passes CX X E) (I:Inv X pins σ H s) (r:Vals vs us)
 (h:∀x dx,H x=none->H dx=none->dx≠x->sp (.ref x::(vs++wX)) (upd (upd H dx (.own x)) x (.ins C dx [])) (fun v H2=>v=.dh/\Q (.ref x) H2) E) :
 wpAny (model X.prog X.w) X.A (call (.ref C) us) (EP X pins σ Q) X.xe s:=by
 have hq:=h (s.heap.objs.size+1) s.heap.objs.size (I.cJ.fresh (zbN _)) (I.cJ.fresh (zag _)) (zaS (zcb _));have I2:=Inv.made (C:=C) I;have r2:Vals (V.ref (s.heap.objs.size+1)::(vs++wX)) (Value.ref (s.heap.objs.size+1)::(us++ds)):=.cons rfl (r.append hd);have hl:(Value.ref (s.heap.objs.size+1)::us++ds).length=ps.length:=by
  have e:=r2.length;rw[F.len _ _ _ _ hq] at e;exact e.symm
 refine wpAny_call (KP (f:=f) I.sE M.makes M.init (beq_iff_eq.mp M.fn) (codeAny_mono (F.run _ X.stack _ _ ⟨Value.ref (s.heap.objs.size+1)::us,[]⟩ (Value.ref (s.heap.objs.size+1)::(us++ds)) _ _ E (hr.make C us [])
  (I2.Uo.make C us []) (hb _ (Value.ref (s.heap.objs.size+1)::us) I2.sE hl) r2 hq) fun r s' Pt=>?_))
 cases r with
 |error e=>exact hx pins σ _ _ e s' I2 Pt
 |ok fl=>
  cases fl with
  |ret u=>
   obtain⟨v,H',I3,rv,ev,q3⟩:=I2.after Pt;subst ev;exact⟨rv,⟨V.ref (s.heap.objs.size+1),H',I3,rfl,q3⟩⟩
  |next=>exact False.elim Pt
  |brk=>exact False.elim Pt
  |cont=>exact False.elim Pt
theorem NY(M:Mk X.K C f)(F:a8 X.prog X.w X.K X.mg X.base CX k f fd ps sp)(hr:gP (k+1) X.A)(hg:Gl X x)(hm:X.mg x=some (.ref C))(hb:Binds X.K fd ps ds)(hd:Vals wX ds)(hx:Passes CX X E)
 (ha:PA X (e::es) t) (KU:(x==("__debug__":Str))=false:=by decide) (he:zd0 (e::es) X.env=(false,eval e X.env)::zd0 es X.env:=by rfl) (Fo:(backTo pos (zd0 es X.env)).any (·.1)=false:=by rfl) :
 PE X (.Call (.Name x p) (e::es) [] pos) (He C sp wX E t):=by
 intro pins s σ H Q I h;refine wpAny_Call_Name_kw (sL I hg hm ?_ KU);refine PySem.W.callWith_K (h₀:=X.base) I.ok.mod.TQ M.kp (eR (ha pos pins s σ H _ I h) fun us s1 ⟨vs,H1,I1,r,q⟩=>⟨I1.sE,?_⟩) he Fo;exact Ds M F hr hb hd hx I1 r q
theorem KW(M:Mk X.K C f)(F:a8 X.prog X.w X.K X.mg X.base CX k f fd ps sp)(hr:gP (k+1) X.A)(hg:Gl X x)(hm:X.mg x=some (.ref C))(hb:Binds X.K fd ps ds)(hd:Vals wX ds)(hx:Passes CX X E)
 (KU:(x==("__debug__":Str))=false:=by decide):PE X (.Call (.Name x p) [] [] pos) (He C sp wX E NX):=by
 intro pins s σ H Q I h;refine wpAny_Call_Name_kw (sL I hg hm ?_ KU);exact zdH I.sE M.kp (Ds (us:=[]) M F hr hb hd hx I .nil h)
end
structure aR(N P:List Str)(sc:Scope):Prop where
 kind:sc.kind=.function
 co:sc.isCoroutine=false
 gen:sc.isGenerator=false
 nd:N.Nodup
 pre:N.take P.length=P
 par:∀x∈P,sc.names.lookup x=some .local\/sc.names.lookup x=some .cell
 Rf:∀y∈sc.names,y.2≠.free
theorem AN{kindOf:Str->Option NameKind}{x:Str}:∀ {binds:List (Str×zdV)} {m:Str->Option zdV},(∀v,(x,v) ∉ binds)->bindL kindOf binds m x=m x
 |[],_,_=>rfl
 |(n,v)::r,m,h=>by
  unfold bindL;rw[AN fun w hw=>h w (zam _ hw)];split
  ·have:x≠n:=by rintro rfl;exact h v zaq
   simp[this]
  ·rfl
theorem AO{kindOf:Str->Option NameKind}{x:Str}:∀ {binds:List (Str×zdV)} {m:Str->Option zdV},(∀v,(x,v) ∉ binds)->bindC kindOf binds m x=m x
 |[],_,_=>rfl
 |(n,v)::r,m,h=>by
  unfold bindC;rw[AO fun w hw=>h w (zam _ hw)];split
  ·rfl
  ·have:x≠n:=by rintro rfl;exact h v zaq
   simp[this]
theorem AQ{kindOf:Str->Option NameKind}{x:Str}{v:zdV}:∀ {P:List Str} {vs:List zdV} {i:Nat} {m:Str->Option zdV},P.Nodup->P[i]?=some x->vs[i]?=some v->kindOf x=some .local->
 bindL kindOf (P.zip vs) m x=some v
 |[],_,_,_,_,h,_,_=>by simp at h
 |_::_,[],_,_,_,_,h,_=>by simp at h
 |p::P,w::vs,0,m,nd,h1,h2,hk=>by
  simp at h1 h2;subst h1;subst h2;show bindL kindOf ((p,w)::P.zip vs) m p=_;unfold bindL;rw[AN fun v hv=>(zbd.mp nd).1 (zdf hv).1,if_pos hk];simp
 |p::P,w::vs,i+1,m,nd,h1,h2,hk=>by
  show bindL kindOf ((p,w)::P.zip vs) m x=_;unfold bindL;exact AQ (i:=i) (zbd.mp nd).2 (by simpa using h1) (by simpa using h2) hk
theorem AR{kindOf:Str->Option NameKind}{x:Str}{v:zdV}:∀ {P:List Str} {vs:List zdV} {i:Nat} {m:Str->Option zdV},P.Nodup->P[i]?=some x->vs[i]?=some v->kindOf x≠some .local->
 bindC kindOf (P.zip vs) m x=some v
 |[],_,_,_,_,h,_,_=>by simp at h
 |_::_,[],_,_,_,_,h,_=>by simp at h
 |p::P,w::vs,0,m,nd,h1,h2,hk=>by
  simp at h1 h2;subst h1;subst h2;show bindC kindOf ((p,w)::P.zip vs) m p=_;unfold bindC;rw[AO fun v hv=>(zbd.mp nd).1 (zdf hv).1,if_neg hk];simp
 |p::P,w::vs,i+1,m,nd,h1,h2,hk=>by
  show bindC kindOf ((p,w)::P.zip vs) m x=_;unfold bindC;exact AR (i:=i) (zbd.mp nd).2 (by simpa using h1) (by simpa using h2) hk
def start (N:List Str) (vs:List V):St:=vs.map some++zap (N.length-vs.length) none
def jK (CX:Fn) (P:zd6) (w:zdW) (K:zaa) (mg:Str->Option zdV) (base:Heap) (N:List Str) (qual:Str) (scope:Scope) (f:zdU) (cd:zdV) (A:zd5) (outer:List Env) (s:zd4) (H:Hp) (E:XK):Cx where
 prog:=P
 w:=w
 K:=K
 mg:=mg
 base:=base
 A:=A.deeper (envOfC qual scope s.heap.objs.size f cd)
 N:=N
 s₀:=s
 H₀:=H
 env:=envOfC qual scope s.heap.objs.size f cd
 outer:=outer
 stack:=envOfC qual scope s.heap.objs.size f cd::outer
 ex:=[]
 calm:=true
 fn:=fun _=>true
 pn:=[]
 xe:=fun e s'=>wpAny (model P w) (A.deeper (envOfC qual scope s.heap.objs.size f cd)) (leaving (envOfC qual scope s.heap.objs.size f cd) e) (fun _ Dt=>CX outer H s E e Dt) (fun e' Dt=>CX outer H s E e' Dt) s'
theorem Du{sc:Scope}{n:Nat}{x:Str}(h:sc.names.lookup x=some .cell):∃c,(cellsFrom n sc.names []).lookup x=some c:=by
 have q:=zdn sc.names n [] (.inl h);exact zcg.mp q
theorem IU{CX:Fn}{P:zd6}{w:zdW}{K:zaa}{mg:Str->Option zdV}{base:Heap}{N ps:List Str}{qual:Str}{scope:Scope}{f:zdU}{cd:zdV}{A:zd5}{outer:List Env}{s s1:zd4}{H:Hp}{E:XK}{us:List zdV}{vs:List V}
 (S:aR N ps scope) (hd:A.handled=none) (e0:zT P w K mg base A outer s H) (hl:vs.length=ps.length) (r:Vals vs us)
 (x:InCallC s s.heap.objs.size (bindL (envOfC qual scope s.heap.objs.size f cd).kindOf (ps.zip us) fun _=>none) (cellsFrom (s.heap.objs.size+1) scope.names []) (bindC (envOfC qual scope s.heap.objs.size f cd).kindOf (ps.zip us) fun _=>none) s1) :
 Inv (jK CX P w K mg base N qual scope f cd A outer s H E) [] (start N vs) H s1:=by
 have Fo:ps.length<=N.length:=by have:=congrArg zbG S.pre;rw[za0] at this;lia
 obtain⟨h1,tk,rfl,hk⟩:=x.done;have Up:∀b:zdU,b ∉ (jK CX P w K mg base N qual scope f cd A outer s H E).ex:=fun b z=>absurd (show b∈([]:List zdU) from z) (by simp);refine⟨⟨e0.mod,S.kind,rfl,rfl,zag _,fun y z c h1 h2=>?_,fun y hy=>?_,fun y c _ h=>?_,fun _=>hd,Around.frames_deeper e0.frames,.inr ⟨rfl,rfl⟩,fun b z=>absurd z (Up b),e0.bs,e0.Kt,fun b _ _=>Up b,fun b z=>absurd z (Up b),e0.uw,e0.Pg⟩,
  rfl,e0.bare,Un.kept hk,⟨_,x.toInCall.ns,fun i y v h1 h2 h3=>?_⟩,fun y c h=>⟨_,x.cell y c h⟩,e0.cJ.fresh (zag _),fun y c h=>?_,fun p hp=>absurd (show p∈([]:List (zdU×Obj)) from hp) (by simp),e0.cJ.kept hk,?_⟩
 ·exact name_of_addr x.apart (PySem.mem_of_lookup h1) (PySem.mem_of_lookup h2)
 ·have hy:scope.names.lookup y=some .cell\/scope.names.lookup y=some .free:=hy;rcases hy with hy |hy
  ·exact Du hy
  ·exact absurd rfl (S.Rf _ (PySem.mem_of_lookup hy))
 ·exact zc6 (x.above y c (PySem.mem_of_lookup h))
 ·have hi:i<vs.length:=by
   unfold start at h2;by_cases hi:i<vs.length
   ·exact hi
   ·rw[zat (by simpa using hi)] at h2;rw[zb1] at h2;split at h2<;>cases h2
  have ha:vs[i]?=some v:=by
   unfold start at h2;rw[zau (by simpa using hi),zaz] at h2;cases e:vs[i]? with
   |none=>rw[e] at h2;cases h2
   |some a=>rw[e] at h2;cases h2;rfl
  obtain⟨u,hu,rv⟩:=r.get ha;have hp:ps[i]?=some y:=by
   rw[<- S.pre,List.getElem?_take_of_lt (by lia)];exact h1
  have ZS:ps.Nodup:=by rw[<- S.pre];exact S.nd.sublist (List.take_sublist _ _)
  refine⟨u,rv,?_⟩;rcases S.par y (zal hp) with k |k
  ·exact .inl ⟨k,AQ ZS hp hu k⟩
  ·obtain⟨c,e⟩:=Du (n:=s.heap.objs.size+1) k;refine .inr ⟨.inl k,c,e,?_⟩;have q:=x.cell y c e;rw[AR ZS hp hu (by show scope.names.lookup y≠_;rw[k];decide)] at q;exact q
 ·exact e0.cJ.fresh (zc6 (x.above y c (PySem.mem_of_lookup h)))
 ·unfold start;show _=N.length;rw[zaf,zai,za4];lia
theorem Pu{CX:Fn}{P:zd6}{w:zdW}{K:zaa}{mg:Str->Option zdV}{base:Heap}{k:Nat}{f:zdU}{name qual:Str}{params:Arguments}{body:List Stmt}{scope:Scope}{dV kV doc pm dM ct oc:zdV}{an od:Option zdU}
 {KY:Array (Option zdV)} {N ps:List Str} {sp:Sp} (lk:K.lookup f=some ⟨oc,od,.func (zaU name qual params body scope dV kV doc pm an dM ct),KY⟩) (IG:zbq K dM qual=true) (S:aR N ps scope)
 (len:∀vs H Q E,sp vs H Q E->vs.length=ps.length)
 (xC:∀(A:zd5) (outer:List Env) (s:zd4) (H:Hp) (vs:List V) (Q:VK) (E:XK),gP k (A.deeper (envOfC qual scope s.heap.objs.size f dM))->sp vs H Q E->
  ∃t,Fu (jK CX P w K mg base N qual scope f dM A outer s H E) body t/\t {nx:=fun _ H'=>Q .dh H',rt:=Q} (start N vs) H) :
 a8 P w K mg base CX (k+1) f (zaU name qual params body scope dV kV doc pm an dM ct) ps sp:=by
 refine⟨len,fun A outer s H args us vs Q E hr e0 hb r IV=>?_⟩;have hl:=len _ _ _ _ IV;have KX:K.In s.heap:=e0.mod.TQ.keeps fun b o e=>(e0.bs b o e).1;have lim:s.heap.NoLimit:=e0.mod.nolimit.keeps fun b o e=>(e0.bs b o e).1;have Uq:∀y∈ps.zip us,scope.names.lookup y.1=some .local\/(scope.names.lookup y.1=some .cell/\((cellsFrom (s.heap.objs.size+1) scope.names []).lookup y.1).isSome=true):=fun ⟨n,v⟩ hy=>by
  rcases S.par n (zdf hy).1 with q |q
  ·exact .inl q
  ·exact .inr ⟨q,zdn _ _ _ (.inl q)⟩
 refine codeAny_call_function hr.depth (KX _ _ lk) rfl S.co S.gen rfl (PySem.W.codeRec_of KX IG) (hb _ _ _ _ ?_);refine wpAny_newFunctionEnv_cells S.kind Uq fun env he s1 x=>?_;subst he;refine⟨lim.keeps x.toInCall.keep,codeAny_func ?_⟩;obtain⟨t,ht,hq⟩:=xC A outer s H vs Q E (hr.deeper _) IV;have I:Inv (jK CX P w K mg base N qual scope f dM A outer s H E) [] (start N vs) H s1:=IU S hr.hd e0 hl r x;refine wpAny_mono (ht [] s1 (start N vs) H _ I hq) (fun fl s' hs=>?_) fun e s' hs=>hs;have fin:∀ {σ':St} {H':Hp} {v:V} {u:zdV},Inv (jK CX P w K mg base N qual scope f dM A outer s H E) [] σ' H' s'->RelV v u->Q v H'->CE outer P w H s Q u s':=
  fun {σ' H' v u} J rv q=>⟨v,H',J.os,J.bare,J.base,J.cJ,rv,q⟩
 cases fl with
 |ret u=>
  obtain⟨v,σ',H',J,rv,q⟩:=hs;exact fin J rv q
 |next=>
  obtain⟨σ',H',J,q⟩:=hs;exact fin (v:=V.dh) (u:=Value.none) J rfl q
 |brk=>
  obtain⟨_,_,_,q⟩:=hs;exact False.elim q
 |cont=>
  obtain⟨_,_,_,q⟩:=hs;exact False.elim q
section
variable{X:Cx}{x:Str}{p pos:Pos}{e:Expr}{es:List Expr}{t:TA}{id T:String}{r:List V->Hp->VK->Prop}
def XD (r:List V->Hp->VK->Prop) (t:TA):TE:=fun σ H Q=>t σ H fun vs H1=>r vs H1 Q
theorem bo(hc:gq X (.builtin id) r)(hg:Gl X x)(hm:X.mg x=none)(hv:bootBuiltins x=some (.builtin id))(ha:PA X (e::es) t)(hn:x≠"__name__":=by decide)(KU:(x==("__debug__":Str))=false:=by decide)
 (he:zd0 (e::es) X.env=(false,eval e X.env)::zd0 es X.env:=by rfl) (Fo:(backTo pos (zd0 es X.env)).any (·.1)=false:=by rfl):PE X (.Call (.Name x p) (e::es) [] pos) (XD r t):=by
 intro pins s σ H Q I h;refine wpAny_Call_Name_kw (xp I hg hm hv ?_ hn KU);exact PyProof.Rows.callWith_builtin1 (eR (ha pos pins s σ H _ I h) fun us s1 ⟨vs,H1,I1,r1,q1⟩=>hc pins s1 σ H1 vs us Q I1 r1 q1) he Fo
theorem f9(hc:gq X (.type T) r)(hg:Gl X x)(hm:X.mg x=none)(hv:bootBuiltins x=some (.type T))(ha:PA X (e::es) t)(hn:x≠"__name__":=by decide)(KU:(x==("__debug__":Str))=false:=by decide)
 (he:zd0 (e::es) X.env=(false,eval e X.env)::zd0 es X.env:=by rfl) (Fo:(backTo pos (zd0 es X.env)).any (·.1)=false:=by rfl):PE X (.Call (.Name x p) (e::es) [] pos) (XD r t):=by
 intro pins s σ H Q I h;refine wpAny_Call_Name_kw (xp I hg hm hv ?_ hn KU);exact zcY (eR (ha pos pins s σ H _ I h) fun us s1 ⟨vs,H1,I1,r1,q1⟩=>hc pins s1 σ H1 vs us Q I1 r1 q1) he Fo
end
end L2
namespace HT
open PySem PyProof.Rows
section
variable{prog:zd6}{w:zdW}{A:zd5}{E:zdV->zd4->Prop}{s:zd4}
theorem NZ{t b:zdU}{vs ws:List zdV}{Q:zdV->zd4->Prop}(ht:IsTup s.heap t vs.toArray)(hb:IsTup s.heap b ws.toArray)(hv:vs≠[])
 (h1:ws=[]->Q (.ref t) s) (h2:ws≠[]->Q (.ref s.heap.objs.size) {s with heap:=s.heap.push {cls:=.type "tuple",data:=.seq (vs++ws).toArray} })
 (Ui:vs.length+ws.length<=zd2):wpAny (model prog w) A (binaryOp .Add (.ref t) (.ref b)) Q E s:=by
 obtain⟨⟨cls,dd,data,sl⟩,ho,hc,n,hd⟩:=id ht;obtain⟨⟨abA,Wn,data2,ZT⟩,IW,ZU,n2,hd2⟩:=id hb;simp only at hc hd ZU hd2;subst hc hd ZU hd2;have e:vs.toArray++ws.toArray=(vs++ws).toArray:=by simp
 by_cases hw:ws=[]
 ·exact concat_meets ⟨_,ho,rfl⟩ ⟨_,IW,rfl⟩ noFill_tuple_add seq_tuple_add zdo zde (zc9 _ _)
   (tuple_addW1 t b vs.toArray ws.toArray n n2 dd Wn sl ZT (by simpa using hv) (by simp[hw])) ⟨ho,IW,h1 hw⟩
 ·refine concat_meets ⟨_,ho,rfl⟩ ⟨_,IW,rfl⟩ noFill_tuple_add seq_tuple_add zdo zde (zc9 _ _)
   (tuple_addW2 t b vs.toArray ws.toArray n n2 dd Wn sl ZT (by simpa using hv) (by simpa using hw) (by rw[zax,zax];exact Ui)) ⟨ho,IW,?_⟩
  rw[e];exact h2 hw
def fG (n d:Nat):Option Int->Nat
 |none=>d
 |some v=>if v<0 then (v+(n:Int)).toNat else min v.toNat n
theorem Dv(n d:Nat):fG n d none=d:=rfl
theorem kW(n d k:Nat):fG n d (some (k:Int))=min k n:=by
 show (if (k:Int)<0 then ((k:Int)+(n:Int)).toNat else min (k:Int).toNat n)=min k n;rw[if_neg (by lia),zb6]
theorem BE(n d:Nat)(hd:d<=n)(o:Option Int):fG n d o<=n:=by
 cases o with
 |none=>exact hd
 |some v=>
  show (if v<0 then (v+(n:Int)).toNat else min v.toNat n)<=n;by_cases hv:v<0
  ·rw[if_pos hv];lia
  ·rw[if_neg hv];exact Nat.min_le_right _ _
theorem Hg(v:Int)(n d:Nat):(if v<0 then max (v+(n:Int)) 0 else min v (n:Int))=((fG n d (some v):Nat):Int):=by
 show (if v<0 then max (v+(n:Int)) 0 else min v (n:Int))=(((if v<0 then (v+(n:Int)).toNat else min v.toNat n):Nat):Int);by_cases hv:v<0
 ·simp only[if_pos hv];lia
 ·simp only[if_neg hv];lia
theorem FJ(lo hi:Option Int)(n:Nat):Builtin.Slice.sliceAdjust lo hi 1 (n:Int)=(((fG n 0 lo:Nat):Int),((fG n n hi:Nat):Int)):=by
 have h1:¬((1:Int)<0):=by lia
 unfold Builtin.Slice.sliceAdjust;simp only[h1,if_false];refine Prod.ext ?_ ?_
 ·cases lo with
  |none=>rfl
  |some v=>exact Hg v n 0
 ·cases hi with
  |none=>rfl
  |some v=>exact Hg v n n
theorem FK(i j:Nat):Builtin.Slice.slicePlaces (i:Int) (j:Int) 1=j-i:=by
 unfold Builtin.Slice.slicePlaces;have h1:(1:Int)>0:=by lia
 simp only[h1,if_true,Int.ediv_one];split<;>lia
theorem xD{v:zdV}{o:Option Int}{Q:Option Int->zd4->Prop}(p:IsPart v o)(h:Q o s):wpAny (model prog w) A (Builtin.Slice.slicePartIndex v) Q E s:=by
 cases p with
 |none=>exact slicePart_none h
 |int i t=>exact slicePart_int h
theorem uF{sl:zdU}{vl vu:zdV}{lo hi:Option Int}{n:Nat}{Q:Int×Int×Nat->zd4->Prop}(hs:s.heap.IsSliceOf sl vl vu .none)(pl:IsPart vl lo)(pu:IsPart vu hi)
 (h:Q (((fG n 0 lo:Nat):Int),1,fG n n hi-fG n 0 lo) s):wpAny (model prog w) A (Builtin.Slice.sliceApplied (.ref sl) (pure (n:Int))) Q E s:=by
 obtain⟨os,Ur,ZV,Wo⟩:=id hs;unfold Builtin.Slice.sliceApplied Builtin.Slice.sliceFields;refine zdX (zdX (wpAny_field Ur Wo (x:=vl) rfl (zdX (wpAny_field Ur Wo (x:=vu) rfl (zdX (wpAny_field Ur Wo (x:=.none) rfl (zdY ?_)))))));refine zdX (slicePart_none ?_);show wpAny _ _ (if ((1:Int)==0)=true then _ else _) _ _ s;rw[if_neg (by decide)];refine zdX (xD pl (zdX (xD pu (zdX (zdY ?_)))));show wpAny _ _ (match Builtin.Slice.sliceAdjust lo hi 1 (n:Int) with |(lo,hi)=>pure (lo,(1:Int),Builtin.Slice.slicePlaces lo hi 1)) _ _ s;rw[FJ lo hi n];show wpAny _ _ (pure (((fG n 0 lo:Nat):Int),(1:Int),Builtin.Slice.slicePlaces ((fG n 0 lo:Nat):Int) ((fG n n hi:Nat):Int) 1)) _ _ s;rw[FK];exact zdY h
theorem KZ(xs:Array zdV)(i k:Nat):((zaE k).filterMap fun (m:Nat)=>xs[((i:Int)+(m:Int)*1).toNat]?).toArray=((xs.toList.drop i).take k).toArray:=by
 have e:(fun (m:Nat)=>xs[((i:Int)+(m:Int)*1).toNat]?)=fun m=>xs[i+m]?:=by
  funext m
  have:((i:Int)+(m:Int)*1).toNat=i+m:=by lia
  rw[this]
 rw[e];have:=pick_run xs i k;rw[List.filterMap_map] at this;have e2:((fun x=>xs[x]?) ∘ fun x=>i+x)=fun m=>xs[i+m]?:=rfl;rw[e2] at this;rw[this]
theorem sO{t sl:zdU}{items:Array zdV}{vl vu:zdV}{lo hi:Option Int}{Q:zdV->zd4->Prop}(ht:IsTup s.heap t items)(hs:s.heap.IsSliceOf sl vl vu .none)(pl:IsPart vl lo)(pu:IsPart vu hi)
 (hw:¬(fG items.size 0 lo=0/\fG items.size items.size hi=items.size))
 (h:Q (.ref s.heap.objs.size) {s with heap:=s.heap.push {cls:=.type "tuple",data:=.seq ((items.toList.drop (fG items.size 0 lo)).take (fG items.size items.size hi-fG items.size 0 lo)).toArray} })
 (Ui:items.size<=zd2):wpAny (model prog w) A (getItem (.ref t) (.ref sl)) Q E s:=by
 have Hh:sizeOk (.seq ((items.toList.drop (fG items.size 0 lo)).take (fG items.size items.size hi-fG items.size 0 lo)).toArray):=by
  show ((items.toList.drop (fG items.size 0 lo)).take (fG items.size items.size hi-fG items.size 0 lo)).toArray.size<=zd2;rw[zax,za0,za9,zb0];lia
 have hj:fG items.size items.size hi<=items.size:=BE _ _ (zag _) hi;obtain⟨os,Ur,ZV,Wo⟩:=id hs;have hTs:s.TypeIs (.ref sl) "slice":=⟨os,Ur,ZV⟩
 unfold getItem
 try with_reducible refine zdZ ?_
 first |refine zdX (zdY ?_) |skip
 refine zdX (wpAny_sequenceKey ht.typeIs (by decide) ?_);refine zdX (wpAny_callSpecial?_slot (name:=zab "__getitem__") ht.typeIs zcx
  (wpAny_call_entry zcx ht.typeIs entry_tuple_getitem ?_ (args_tuple_getitem _ _)))
 show wpAny _ _ (Builtin.Tuple.tupleItemsOf (.ref t) >>= _) _ _ s;refine zdX (tupleItemsOf_ ht ?_);refine zdX (wpAny_typeOf hTs ?_);rw[if_pos (by decide)];refine zdX (uF hs pl pu ?_);have hno:¬((((fG items.size 0 lo:Nat):Int)==0&&(1:Int)==1&&(fG items.size items.size hi-fG items.size 0 lo)==items.size)=true):=by
  intro q;rw[zaD,zaD] at q;have q1:((fG items.size 0 lo:Nat):Int)=0:=eq_of_beq q.1.1;have q2:fG items.size items.size hi-fG items.size 0 lo=items.size:=eq_of_beq q.2;exact hw ⟨by lia,by lia⟩
 show wpAny _ _ (if (((fG items.size 0 lo:Nat):Int)==0&&(1:Int)==1&&(fG items.size items.size hi-fG items.size 0 lo)==items.size)=true then _ else _) _ _ s;rw[if_neg hno,KZ]
 first
  |exact zdX (m:=Builtin.Tuple.tupleExact _) (wpAny_newObj_type (zdY ⟨_,rfl,zdY h⟩) Hh)
  |exact zdX (m:=Builtin.Tuple.tupleExact _) (wpAny_newObj_type (zdX (zdY (zdY ⟨_,rfl,zdY h⟩))) Hh)
  |exact zdX (zdX (m:=Builtin.Tuple.tupleExact _) (wpAny_newObj_type (zdY (zdY ⟨_,rfl,zdY h⟩)) Hh))
  |exact zdX (zdX (m:=Builtin.Tuple.tupleExact _) (wpAny_newObj_type (zdY ⟨_,rfl,zdY h⟩) Hh))
end
end HT
namespace L2
open PySem PySem.Spec PyProof.Rows
abbrev TO:=St->Hp->(Option Int->Hp->Prop)->Prop
def PO (X:Cx) (e:Option Expr) (t:TO):Prop:=
 ∀(pins:List (zdU×Obj)) (s:zd4) (σ:St) (H:Hp) (Q:Option Int->Hp->Prop),Inv X pins σ H s->t σ H Q->
  wpAny (model X.prog X.w) X.A (evalPart e X.env) (fun u s'=>∃o H',Inv X pins σ H' s'/\IsPart u o/\Q o H') X.xe s
def BF:TO:=fun _ H Q=>Q none H
def K0 (t:TE):TO:=fun σ H Q=>t σ H fun x H1=>∃i,x=.int i/\Q (some i) H1
section
variable{X:Cx}{e:Expr}{te:TE}{lo hi:Option Expr}{tl th:TO}{pos p2:Pos}
theorem jX:PO X none BF:=by
 intro pins s σ H Q I h;rw[evalPart_none];exact zdY ⟨none,H,I,.none,h⟩
theorem jY(h:PE X e te):PO X (some e) (K0 te):=by
 intro pins s σ H Q I hw;rw[evalPart_some];refine eR (h pins s σ H _ I hw) fun u s1 zqz=>?_;obtain⟨x,H1,I1,r1,q1⟩:=zqz;obtain⟨i,rfl,q⟩:=q1;obtain⟨t,rfl⟩:=r1;exact⟨some i,H1,I1,.int i t,q⟩
def Pw (X:Cx) (r:V->Option Int->Option Int->Hp->VK->Prop):Prop:=
 ∀(pins:List (zdU×Obj)) (s:zd4) (σ:St) (H:Hp) (x:V) (v vl vu:zdV) (lo hi:Option Int) (sl:zdU) (Q:VK),Inv X pins σ H s->RelV x v->s.heap.IsSliceOf sl vl vu .none->IsPart vl lo->IsPart vu hi->r x lo hi H Q->
  ∃T id,typeLookup (.type T) "__getitem__"=pure (some (.builtin id))/\s.TypeIs v T/\wpAny (model X.prog X.w) X.A (getItem v (.ref sl)) (EP X pins σ Q) X.xe s
theorem Pw.or{r r':V->Option Int->Option Int->Hp->VK->Prop}(h:Pw X r)(h':Pw X r'):Pw X (fun x lo hi H Q=>r x lo hi H Q\/r' x lo hi H Q):=by
 intro pins s σ H x v vl vu lo hi sl Q I rx hs pl pu q;rcases q with q |q
 ·exact h pins s σ H x v vl vu lo hi sl Q I rx hs pl pu q
 ·exact h' pins s σ H x v vl vu lo hi sl Q I rx hs pl pu q
def XE (r:V->Option Int->Option Int->Hp->VK->Prop) (te:TE) (tl th:TO):TE:=fun σ H Q=>te σ H fun x H1=>tl σ H1 fun l H2=>th σ H2 fun u H3=>r x l u H3 Q
theorem ip{r:V->Option Int->Option Int->Hp->VK->Prop}(hr:Pw X r)(he:PE X e te)(hl:PO X lo tl)(hu:PO X hi th):PE X (.Subscript e (.Slice lo hi none p2) pos) (XE r te tl th):=by
 intro pins s σ H Q I h;refine Subscript_ (eR (he pins s σ H _ I h) fun v s1 zqz=>?_);obtain⟨x,H1,I1,r1,q1⟩:=zqz;refine wpAny_Slice (eR (hl pins s1 σ H1 _ I1 q1) fun vl s2 zqz=>?_);obtain⟨l,H2,I2,pl,q2⟩:=zqz;refine eR (hu pins s2 σ H2 _ I2 q2) fun vu s3 zqz=>?_;obtain⟨u,H3,I3,pu,q3⟩:=zqz;rw[evalPart_none];refine zdY ?_;have I4:Inv X pins σ H3 {s3 with heap:=s3.heap.push {cls:=.type "slice",data:=.fields #[vl,vu,.none]} }:=I3.kept (t':=s3.toks) fun b ob q=>Heap.get?_push_of_some _ q;obtain⟨T,id,hT,ht,hg⟩:=hr pins {s3 with heap:=s3.heap.push {cls:=.type "slice",data:=.fields #[vl,vu,.none]} } σ H3 x v vl vu l u s3.heap.objs.size Q I4 r1 (Heap.IsSliceOf.new ..) pl pu q3;show wpAny (model X.prog X.w) X.A (subscriptTail e (.Slice lo hi none p2) v (.ref s3.heap.objs.size)) (EP X pins σ Q) X.xe {s3 with heap:=s3.heap.push {cls:=.type "slice",data:=.fields #[vl,vu,.none]} };exact tail_any (ops:=[.ref s3.heap.objs.size,v]) ht hT hg (by with_unfolding_all rfl)
def xE (xs:List V) (lo hi:Option Int):List V:=(xs.drop (HT.fG xs.length 0 lo)).take (HT.fG xs.length xs.length hi-HT.fG xs.length 0 lo)
theorem vD(xs:List V)(lo hi:Option Int):(xE xs lo hi).length<=xs.length:=by
 unfold xE;rw[za0,za9];lia
def Us (K:zaa):V->Option Int->Option Int->Hp->VK->Prop:=fun x lo hi H Q=>∃a xs,x=.ref a/\cv K H a xs/\
 ¬(HT.fG xs.length 0 lo=0/\HT.fG xs.length xs.length hi=xs.length)/\∀p,H p=none->Q (.ref p) (upd H p (.tup (xE xs lo hi)))
theorem BG:Pw X (Us X.K):=by
 intro pins s σ H x v vl vu lo hi sl Q I rx hs pl pu h;obtain⟨a,xs,rfl,hx,hw,q⟩:=h;cases rx;obtain⟨aY,r,ht,hz⟩:=I.tuple hx;have hlen:aY.toArray.size=xs.length:=by rw[zax];exact r.length.symm
 refine⟨"tuple",_,zcx.lookup,ht.typeIs,?_⟩;refine HT.sO ht hs pl pu (by rw[hlen];exact hw) ?_ (by rw[hlen];exact hz);rw[hlen];refine⟨.ref s.heap.objs.size,_,I.laid (t':=s.toks) (o:=.tup (xE xs lo hi)) (fun b ob q=>Heap.get?_push_of_some _ q) (zag _) ?_,rfl,q _ (I.cJ.fresh (zag _))⟩;exact⟨zaA (vD xs lo hi) hz,_,(r.drop (HT.fG xs.length 0 lo)).take (HT.fG xs.length xs.length hi-HT.fG xs.length 0 lo),IsTup.new _ _⟩
def Px (K:zaa):R2:=fun x y H Q=>∃a b xs ys,x=.ref a/\y=.ref b/\cv K H a xs/\cv K H b ys/\xs≠[]/\xs.length+ys.length<=zd2/\
 (ys=[]->Q (.ref a) H)/\(ys≠[]->∀p,H p=none->Q (.ref p) (upd H p (.tup (xs++ys))))
theorem Vals.aS{xs:List V}{us:List zdV}(r:Vals xs us):us=[]↔xs=[]:=by
 cases r with
 |nil=>simp
 |cons _ _=>simp
theorem Hi:nU X (binaryOp .Add) (Px X.K):=by
 intro pins s σ H x y v u Q I rx ry h;obtain⟨a,b,xs,ys,rfl,rfl,ha,hb,hx,hz,q1,q2⟩:=h;cases rx;cases ry;obtain⟨aY,r1,p1,_⟩:=I.tuple ha;obtain⟨Rh,r2,p2,_⟩:=I.tuple hb;refine HT.NZ p1 p2 (fun z=>hx (r1.aS.mp z)) (fun z=>⟨.ref a,H,I,rfl,q1 (r2.aS.mp z)⟩) (fun z=>?_) (by rw[<- r1.length,<- r2.length];exact hz);refine⟨.ref s.heap.objs.size,_,I.laid (t':=s.toks) (o:=.tup (xs++ys)) (fun b ob q=>Heap.get?_push_of_some _ q) (zag _) ?_,rfl,q2 (fun w=>z (r2.aS.mpr w)) _ (I.cJ.fresh (zag _))⟩;exact⟨by rw[zaf];exact hz,_,r1.append r2,IsTup.new _ _⟩
end
def K1 (n:Nat) (i:Int):Option Nat:=if 0<=i then (if i<n then some i.toNat else none) else if -(n:Int)<=i then some (i+n).toNat else none
def zU {α:Type} (xs:List α) (i:Int):Option α:=(K1 xs.length i).bind fun j=>xs[j]?
theorem Hj{n:Nat}{i:Int}{j:Nat}(h:K1 n i=some j):seqIndex? i n=some j/\j<n/\-(n:Int)<=i/\i<n:=by
 unfold K1 at h;by_cases h0:0<=i
 ·rw[if_pos h0] at h;by_cases h1:i<n
  ·rw[if_pos h1] at h;have e:i.toNat=j:=zaF.inj h;exact⟨by rw[seqIndex_of h0 h1,e],by lia,by lia,h1⟩
  ·rw[if_neg h1] at h;cases h
 ·rw[if_neg h0] at h;by_cases h1 : -(n:Int)<=i
  ·rw[if_pos h1] at h;have e:(i+n).toNat=j:=zaF.inj h;exact⟨by rw[seqIndex_neg (by lia) h1,e],by lia,h1,by lia⟩
  ·rw[if_neg h1] at h;cases h
theorem BH{α:Type}{xs:List α}{i:Int}{v:α}(h:zU xs i=some v):∃j,seqIndex? i xs.length=some j/\xs[j]?=some v/\j<xs.length/\-(xs.length:Int)<=i/\i<xs.length:=by
 unfold zU at h;cases e:K1 xs.length i with
 |none=>rw[e] at h;cases h
 |some j=>
  rw[e] at h;obtain⟨h1,h2,h3,h4⟩:=Hj e;exact⟨j,h1,h,h2,h3,h4⟩
theorem aQ{α:Type}{xs:List α}{j:Nat}{v:α}(h:xs[j]?=some v):zU xs (j:Int)=some v:=by
 have hj:j<xs.length:=(zao.mp h).1;have e:K1 xs.length (j:Int)=some j:=by
  unfold K1;rw[if_pos (by lia),if_pos (by lia)];simp
 unfold zU;rw[e];exact h
theorem xF{α:Type}(xs:List α)(v:α):zU (xs++[v]) (-1)=some v:=by
 have hl:(xs++[v]).length=xs.length+1:=by simp
 have e:K1 (xs++[v]).length (-1)=some xs.length:=by
  unfold K1;rw[hl,if_neg (by decide),if_pos (by lia)]
  congr 1
  lia
 unfold zU;rw[e];show (xs++[v])[xs.length]?=some v;simp
def qj (b:Expr):Prop:=∀o i,subscripted b false o i=operate [o,i] (getItem o i)
def N0 (X:Cx) (r:R2):Prop:=
 ∀(value slice:Expr) (pins:List (zdU×Obj)) (s:zd4) (σ:St) (H:Hp) (x y:V) (v u:zdV) (Q:VK),Inv X pins σ H s->RelV x v->RelV y u->r x y H Q->
  subscripted slice false v u=operate [v,u] (getItem v u)->wpAny (model X.prog X.w) X.A (subscriptTail value slice v u) (EP X pins σ Q) X.xe s
def K2 (X:Cx) (id:String) (r:V->List V->Hp->VK->Prop):Prop:=
 ∀(pins:List (zdU×Obj)) (s:zd4) (σ:St) (H:Hp) (x:V) (xs:List V) (v:zdV) (us:List zdV) (Q:VK),Inv X pins σ H s->RelV x v->Vals xs us->r x xs H Q->
  wpAny (model X.prog X.w) X.A (call (.builtin id) (v::us)) (EP X pins σ Q) X.xe s
section
variable{X:Cx}{a b:Expr}{ta tb:TE}{pos:Pos}
theorem N0.or{r r':R2}(h:N0 X r)(h':N0 X r'):N0 X (fun x y H Q=>r x y H Q\/r' x y H Q):=by
 intro value slice pins s σ H x y v u Q I rx ry q hs;rcases q with q |q
 ·exact h value slice pins s σ H x y v u Q I rx ry q hs
 ·exact h' value slice pins s σ H x y v u Q I rx ry q hs
theorem K2.or{id:String}{r r':V->List V->Hp->VK->Prop}(h:K2 X id r)(h':K2 X id r'):K2 X id (fun x xs H Q=>r x xs H Q\/r' x xs H Q):=by
 intro pins s σ H x xs v us Q I rx rs q;rcases q with q |q
 ·exact h pins s σ H x xs v us Q I rx rs q
 ·exact h' pins s σ H x xs v us Q I rx rs q
theorem aO{r:R2}(hr:N0 X r)(ha:PE X a ta)(hb:PE X b tb)(hs:qj b):PE X (.Subscript a b pos) (Ub r ta tb):=by
 intro pins s σ H Q I h;exact Subscript_ (Q3 ha hb I h fun v u s2 x y H2 I2 rx ry q=>hr a b pins s2 σ H2 x y v u Q I2 rx ry q (hs _ _))
def N1 (K:zaa):R2:=fun x y H Q=>∃p xs i v,x=.ref p/\y=.int i/\fH K H p xs/\zU xs i=some v/\Q v H
def K3 (K:zaa):R2:=fun x y H Q=>∃p xs i v,x=.ref p/\y=.int i/\cv K H p xs/\zU xs i=some v/\Q v H
def XF:R2:=fun x y H Q=>∃z i c,x=.str z/\y=.int i/\z.length<=zd2/\zU z.cps.toList i=some c/\Q (.str ⟨#[c]⟩) H
theorem aW:N0 X (N1 X.K):=by
 intro value slice pins s σ H x y v u Q I rx ry h hs;obtain⟨p,xs,i,z,rfl,rfl,hq,he,q⟩:=h;cases rx;obtain⟨t,rfl⟩:=ry;obtain⟨aY,r,pl,hz⟩:=I.list hq;obtain⟨j,h1,h2,h3,h4,h5⟩:=BH he;obtain⟨w,ew,Py⟩:=r.get h2;have hl:=r.length;have hn:=rk;have fin:EP X pins σ Q w s:=⟨z,H,I,Py,q⟩
 by_cases h0:0<=i
 ·have hj:i.toNat=j:=by
   rw[seqIndex_of h0 h5] at h1;exact zaF.inj h1
  exact item_listR pl.isList h0 (by lia) (by rw[hj];simpa using ew) fin hs
 ·have hj:(i+(aY.toArray.size:Int)).toNat=j:=by
   rw[seqIndex_neg (by lia) h4] at h1;rw[zax,<- hl];exact zaF.inj h1
  exact subscriptTail_builtinR (x:=w) pl.isList.typeIs slot_list_getitem.lookup
   (wpAny_getItem_list_neg (Q:=fun r s'=>r=w/\EP X pins σ Q r s') pl.isList (by lia) (by rw[zax]<;>lia) (by lia) (by rw[hj];simpa using ew) ⟨rfl,fin⟩) hs
theorem bE:N0 X (K3 X.K):=by
 intro value slice pins s σ H x y v u Q I rx ry h hs;obtain⟨p,xs,i,z,rfl,rfl,hq,he,q⟩:=h;cases rx;obtain⟨t,rfl⟩:=ry;obtain⟨aY,r,pl,hz⟩:=I.tuple hq;obtain⟨j,h1,h2,h3,h4,h5⟩:=BH he;obtain⟨w,ew,Py⟩:=r.get h2;have hl:=r.length;have hn:=rk;have fin:EP X pins σ Q w s:=⟨z,H,I,Py,q⟩
 exact subscriptTail_builtinR (x:=w) pl.typeIs slot_tuple_getitem.lookup
  (getItem_tuple (j:=j) (Q:=fun r s'=>r=w/\EP X pins σ Q r s') pl (by lia) (by lia) (by rw[zax,<- hl];exact h1) (by simpa using ew) ⟨rfl,fin⟩) hs
theorem rm:N0 X XF:=by
 intro value slice pins s σ H x y v u Q I rx ry h hs;obtain⟨z,i,c,rfl,rfl,hz,he,q⟩:=h;obtain⟨t,rfl⟩:=rx;obtain⟨t',rfl⟩:=ry;obtain⟨j,h1,h2,h3,h4,h5⟩:=BH he;have hl:z.cps.toList.length=z.length:=by simp[Str.length]
 rw[hl] at h1 h4 h5;have hn:=rk;exact tail_any (typeIs_str s z t) slot_str_getitem.lookup (getItem_str (c:=c) (by
  have e1:decide (i < -(2 ^ 63:Int))=false:=decide_eq_false (by lia);have e2:decide (i ≥ 2 ^ 63)=false:=decide_eq_false (by lia);rw[e1,e2,zdz]) (by rw[h1];simpa using h2) ⟨.str ⟨#[c]⟩,H,I.tok _,⟨_,rfl⟩,q⟩) hs
theorem FL(aY:List zdV)(n j:Nat)(u:zdV):Obj.mapSeq (·.setIfInBounds j u) {cls:=.type "list",data:=.seq aY.toArray n}={cls:=.type "list",data:=.seq (aY.set j u).toArray n}:=by
 simp[Obj.mapSeq]
theorem Inv.lst{pins:List (zdU×Obj)}{σ:St}{H:Hp}{s:zd4}{p:zdU}{xs:List V}(I:Inv X pins σ H s)(h:H p=some (.lst xs)) :
 ∃(aY:List zdV) (n:Nat),Vals xs aY/\s.heap.get? p=some {cls:=.type "list",data:=.seq aY.toArray n}/\xs.length<=zd2:=by
 obtain⟨z,aY,n,r,e⟩:=I.cJ p _ h;exact⟨aY,n,r,e,z⟩
theorem Inv.Ri{pins:List (zdU×Obj)}{σ:St}{H:Hp}{s:zd4}{p:zdU}{xs ys:List V}{aY its':List zdV}{n n':Nat}{f:Obj->Obj}(I:Inv X pins σ H s)(h:H p=some (.lst xs))
 (ho:s.heap.get? p=some {cls:=.type "list",data:=.seq aY.toArray n}) (hf:f {cls:=.type "list",data:=.seq aY.toArray n}={cls:=.type "list",data:=.seq its'.toArray n' }) (r:Vals ys its') (hz:ys.length<=zd2) (t:Nat) :
 Inv X pins σ (upd H p (.lst ys)) {s with heap:=s.heap.update p f,toks:=t}:=by
 have e:(s.heap.update p f).get? p=some {cls:=.type "list",data:=.seq its'.toArray n' }:=by
  rw[Heap.get?_update_self f ho (by rw[hf]<;>rfl),hf]
 refine I.write (x:=p) (e:=p) (by rw[h];trivial) (.inl rfl) (fun b u hb q=>(Heap.get?_update_other _ _ (Ne.symm hb)).trans q) ⟨_,e⟩ ?_;exact⟨hz,its',n',r,e⟩
def Ut:V->V->V->Hp->(Hp->Prop)->Prop:=fun o i v H Q=>∃p xs k j,o=.ref p/\i=.int k/\H p=some (.lst xs)/\K1 xs.length k=some j/\Q (upd H p (.lst (xs.set j v)))
theorem set_list:T6 X Ut:=by
 intro pins s σ H o i v ov iv u Q I ro ri rv h;obtain⟨p,xs,k,j,rfl,rfl,hp,hj,q⟩:=h;cases ro;obtain⟨t,rfl⟩:=ri;obtain⟨aY,n,r,ho,hz⟩:=I.lst hp;obtain⟨h1,h2,h3,h4⟩:=Hj hj;have hl:=r.length;have hn:=rk;have I':Inv X pins σ (upd H p (.lst (xs.set j v))) {s with heap:=s.heap.update p (Obj.mapSeq (·.setIfInBounds j u))}:=
  I.Ri hp ho (FL aY n j u) (r.set rv j) (by rw[zbA];exact hz) s.toks
 by_cases h0:0<=k
 ·have hk:k.toNat=j:=by
   rw[seqIndex_of h0 h4] at h1;exact zaF.inj h1
  exact PySem.W.ki_setAt ho h0 (by lia) (by rw[zax,<- hl];exact h4) (by rw[hk];exact⟨_,I',q⟩)
 ·have hk:(k+(aY.toArray.size:Int)).toNat=j:=by
   rw[seqIndex_neg (by lia) h3] at h1;rw[zax,<- hl];exact zaF.inj h1
  exact PySem.W.ki_setBack ho (by lia) (by rw[zax,<- hl];exact h3) (by lia) (by rw[hk];exact⟨_,I',q⟩)
theorem mY(lo hi:Option Int)(n:Nat):(sliceBounds lo hi none n).1=((HT.fG n 0 lo:Nat):Int)/\(sliceBounds lo hi none n).2.1=((HT.fG n n hi:Nat):Int)/\(sliceBounds lo hi none n).2.2=1:=by
 refine⟨?_,?_,rfl⟩
 ·cases lo with
  |none=>simp[sliceBounds,HT.fG]
  |some i=>
   simp only[sliceBounds,HT.fG,Option.getD_none,show (1:Int)>0 by decide,if_true];by_cases h:i<0
   ·simp only[h,if_true]<;>lia
   ·simp only[h,if_false]<;>lia
 ·cases hi with
  |none=>simp[sliceBounds,HT.fG]
  |some i=>
   simp only[sliceBounds,HT.fG,Option.getD_none,show (1:Int)>0 by decide,if_true];by_cases h:i<0
   ·simp only[h,if_true]<;>lia
   ·simp only[h,if_false]<;>lia
theorem zV(aY:List zdV)(lo hi:Option Int):slicePick aY.toArray lo hi none=((aY.drop (HT.fG aY.length 0 lo)).take (HT.fG aY.length aY.length hi-HT.fG aY.length 0 lo)).toArray:=by
 obtain⟨h1,h2,h3⟩:=mY lo hi aY.toArray.size;unfold slicePick;rw[h1,h2,h3];simp only[sliceRange_one,pick_run,zax]<;>rfl
def XG (K:zaa):V->Option Int->Option Int->Hp->VK->Prop:=fun x lo hi H Q=>∃a xs,x=.ref a/\fH K H a xs/\∀p,H p=none->Q (.ref p) (upd H p (.lst (xE xs lo hi)))
theorem Hk:Pw X (XG X.K):=by
 intro pins s σ H x v vl vu lo hi sl Q I rx hs pl pu h;obtain⟨a,xs,rfl,hx,q⟩:=h;cases rx;obtain⟨aY,r,ht,hz⟩:=I.list hx;have hlen:=r.length;refine⟨"list",_,slot_list_getitem.lookup,ht.isList.typeIs,?_⟩;refine wpAny_getItem_list_slice ht.isList hs pl pu .none (by simp) ?_ (by rw[zax]<;>lia);rw[zV,<- hlen];refine⟨.ref s.heap.objs.size,_,I.laid (t':=s.toks) (o:=.lst (xE xs lo hi)) (fun b ob q=>Heap.get?_push_of_some _ q) (zag _) ?_,rfl,q _ (I.cJ.fresh (zag _))⟩;exact⟨zaA (vD xs lo hi) hz,_,0,(r.drop (HT.fG xs.length 0 lo)).take (HT.fG xs.length xs.length hi-HT.fG xs.length 0 lo),Heap.get?_push_size _ rfl⟩
def sP:V->Bool
 |.dh=>true
 |.bl _=>true
 |.int _=>true
 |.str _=>true
 |_=>false
def Pz:V->V->Bool
 |.dh,.dh=>true
 |.bl a,.bl b=>a==b
 |.bl a,.int b=>(if a then 1 else 0)==b
 |.int a,.bl b=>a==(if b then 1 else 0)
 |.int a,.int b=>a==b
 |.str a,.str b=>a==b
 |_,_=>false
theorem Rj{A:zd5}{s:zd4}{y x:V}{u v:zdV}(ry:RelV y u)(rx:RelV x v)(fy:sP y=true)(fx:sP x=true):SeqAt.EqAt A s u v (Pz y x):=by
 cases y with
 |dh=>
  cases ry;cases x with
  |dh=>cases rx;exact SeqAt.EqAt.same _
  |bl b=>cases rx;exact SeqAt.EqAt.none_bool b
  |int b=>obtain⟨t,rfl⟩:=rx;exact SeqAt.EqAt.none_int b t
  |str b=>obtain⟨t,rfl⟩:=rx;exact SeqAt.EqAt.none_str b t
  |_=>exact absurd (show false=true from fx) zan
 |bl a=>
  cases ry;cases x with
  |dh=>cases rx;exact SeqAt.EqAt.bool_none a
  |bl b=>cases rx;exact SeqAt.EqAt.bool_bool a b
  |int b=>obtain⟨t,rfl⟩:=rx;exact SeqAt.EqAt.bool_int a b t
  |str b=>obtain⟨t,rfl⟩:=rx;exact SeqAt.EqAt.bool_str a b t
  |_=>exact absurd (show false=true from fx) zan
 |int a=>
  obtain⟨t',rfl⟩:=ry;cases x with
  |dh=>cases rx;exact SeqAt.EqAt.int_none a t'
  |bl b=>cases rx;exact SeqAt.EqAt.int_bool a t' b
  |int b=>obtain⟨t,rfl⟩:=rx;exact SeqAt.EqAt.int_int a t' b t
  |str b=>obtain⟨t,rfl⟩:=rx;exact SeqAt.EqAt.int_str a t' b t
  |_=>exact absurd (show false=true from fx) zan
 |str a=>
  obtain⟨t',rfl⟩:=ry;cases x with
  |dh=>cases rx;exact SeqAt.EqAt.str_none a t'
  |bl b=>cases rx;exact SeqAt.EqAt.str_bool a t' b
  |int b=>obtain⟨t,rfl⟩:=rx;exact SeqAt.EqAt.str_int a t' b t
  |str b=>obtain⟨t,rfl⟩:=rx;exact SeqAt.EqAt.str_str a t' b t
  |_=>exact absurd (show false=true from fx) zan
 |_=>exact absurd (show false=true from fy) zan
def FN (x:V) (u:zdV):Bool:=match u with
 |.none=>Pz .dh x
 |.bool b=>Pz (.bl b) x
 |.int i _=>Pz (.int i) x
 |.str z _=>Pz (.str z) x
 |_=>false
theorem K4{x y:V}{u:zdV}(r:RelV y u)(f:sP y=true):FN x u=Pz y x:=by
 cases y with
 |dh=>cases r;rfl
 |bl b=>cases r;rfl
 |int i=>obtain⟨t,rfl⟩:=r;rfl
 |str z=>obtain⟨t,rfl⟩:=r;rfl
 |_=>exact absurd (show false=true from f) zan
theorem sQ{x:V}:∀ {xs:List V} {us:List zdV},Vals xs us->xs.all sP=true->us.any (FN x)=xs.any fun y=>Pz y x
 |_,_,.nil,_=>rfl
 |y::xs,u::us,.cons r t,f=>by
  rw[List.all_cons,zaD] at f;rw[zbR,zbR,K4 r f.1,sQ t f.2]
theorem oF{A:zd5}{s:zd4}{x:V}{v:zdV}(rx:RelV x v)(fx:sP x=true):∀ {xs:List V} {us:List zdV},Vals xs us->xs.all sP=true->∀u∈us,SeqAt.EqAt A s u v (FN x u)
 |_,_,.nil,_=>fun u hu=>by cases hu
 |y::xs,u::us,.cons r t,f=>fun u' hu=>by
  rw[List.all_cons,zaD] at f;rcases zak.mp hu with rfl |hu
  ·rw[K4 r f.1];exact Rj r rx f.1 fx
  ·exact oF rx fx t f.2 u' hu
def Uu (x:V) (xs:List V):Bool:=xs.any fun y=>Pz y x
def XH (K:zaa) (neg:Bool):R2:=fun x y H Q=>∃p xs,y=.ref p/\(fH K H p xs\/cv K H p xs)/\sP x=true/\xs.all sP=true/\Q (.bl (if neg then !Uu x xs else Uu x xs)) H
theorem gY:nU X (compareOp .In) (XH X.K false):=by
 intro pins s σ H x y v u Q I rx ry h;obtain⟨p,xs,rfl,hq,fx,fs,q⟩:=h;cases ry;rcases hq with hq |hq
 ·obtain⟨aY,r,pl,hz⟩:=I.list hq;refine SeqAt.in_listAt (FN x) pl.isList (fun w hw=>oF rx fx r fs w (by simpa using hw)) ⟨.bl _,H,I,rfl,?_⟩;rw[show aY.toArray.any (FN x)=aY.any (FN x) by simp,sQ r fs];exact q
 ·obtain⟨aY,r,pl,hz⟩:=I.tuple hq;refine SeqAt.in_tupleAt (FN x) pl (fun w hw=>oF rx fx r fs w (by simpa using hw)) ⟨.bl _,H,I,rfl,?_⟩;rw[show aY.toArray.any (FN x)=aY.any (FN x) by simp,sQ r fs];exact q
theorem jZ:nU X (compareOp .NotIn) (XH X.K true):=by
 intro pins s σ H x y v u Q I rx ry h;obtain⟨p,xs,rfl,hq,fx,fs,q⟩:=h;cases ry;rcases hq with hq |hq
 ·obtain⟨aY,r,pl,hz⟩:=I.list hq;refine SeqAt.notIn_listAt (FN x) pl.isList (fun w hw=>oF rx fx r fs w (by simpa using hw)) ⟨.bl _,H,I,rfl,?_⟩;rw[show aY.toArray.any (FN x)=aY.any (FN x) by simp,sQ r fs];exact q
 ·obtain⟨aY,r,pl,hz⟩:=I.tuple hq;refine SeqAt.notIn_tupleAt (FN x) pl (fun w hw=>oF rx fx r fs w (by simpa using hw)) ⟨.bl _,H,I,rfl,?_⟩;rw[show aY.toArray.any (FN x)=aY.any (FN x) by simp,sQ r fs];exact q
theorem bB:gq X (.builtin "len") (fun xs H Q=>∃p ys,xs=[.ref p]/\(fH X.K H p ys\/cv X.K H p ys)/\Q (.int ys.length) H):=by
 intro pins s σ H xs us Q I r h;obtain⟨p,ys,rfl,hq,q⟩:=h;obtain⟨u,rfl,rx⟩:=vals1 r;cases rx;have hn:=rk;rcases hq with hq |hq
 ·obtain⟨aY,r',pl,hz⟩:=I.list hq;have hlen:=r'.length;exact Calls.call_len_list pl.isList (by simp only[zax]<;>lia) ⟨.int ys.length,H,I.tok _,⟨s.toks+1,by rw[zax,hlen]⟩,q⟩
 ·obtain⟨aY,r',pl,hz⟩:=I.tuple hq;have hlen:=r'.length;exact len_tuple pl (by simp only[zax]<;>lia) ⟨.int ys.length,H,I.tok _,⟨s.toks+1,by rw[zax,hlen]⟩,q⟩
theorem j1:gq X (.builtin "len") (fun xs H Q=>∃z,xs=[.str z]/\z.length<=zd2/\Q (.int z.length) H):=by
 intro pins s σ H xs us Q I r h;obtain⟨z,rfl,hz,q⟩:=h;obtain⟨u,rfl,t,rfl⟩:=vals1 r;have hn:=rk;exact len_str (by lia) ⟨.int z.length,H,I.tok _,⟨_,rfl⟩,q⟩
theorem gq.or{f:zdV}{r r':List V->Hp->VK->Prop}(h:gq X f r)(h':gq X f r'):gq X f (fun xs H Q=>r xs H Q\/r' xs H Q):=by
 intro pins s σ H xs us Q I rs q;rcases q with q |q
 ·exact h pins s σ H xs us Q I rs q
 ·exact h' pins s σ H xs us Q I rs q
theorem BJ:gq X (.type "list") (fun xs H Q=>∃p ys,xs=[.ref p]/\(fH X.K H p ys\/cv X.K H p ys)/\∀l,H l=none->Q (.ref l) (upd H l (.lst ys))):=by
 intro pins s σ H xs us Q I r h;obtain⟨p,ys,rfl,hq,q⟩:=h;obtain⟨u,rfl,rx⟩:=vals1 r;cases rx;have fin:∀(aY:List zdV),Vals ys aY->ys.length<=zd2->∀(h':Heap) (c':Nat),(∀b o',s.heap.get? b=some o'->h'.get? b=some o')->
  h'.get? s.heap.objs.size=some {cls:=.type "list",dict:=none,data:=.seq aY.toArray c',slots:=#[]}->EP X pins σ Q (.ref s.heap.objs.size) {s with heap:=h' }:=fun aY r' hz h' c' kp e=>
  ⟨.ref s.heap.objs.size,_,I.laid (t':=s.toks) kp (zag _) (show eK X.prog X.w _ h' _ (.lst ys) from ⟨hz,aY,c',r',e⟩),rfl,q _ (I.cJ.fresh (zag _))⟩
 rcases hq with hq |hq
 ·obtain⟨aY,r',pl,hz⟩:=I.list hq;have hlen:=r'.length;obtain⟨o,ho,hc,n,hd⟩:=pl.isList;exact call_list_seq p (.inl rfl) ho hc hd (fun h' c' kp e=>fin aY r' hz h' c' kp e) (by simp only[zax]<;>lia)
 ·obtain⟨aY,r',pl,hz⟩:=I.tuple hq;have hlen:=r'.length;obtain⟨o,ho,hc,n,hd⟩:=pl;exact call_list_seq p (.inr rfl) ho hc hd (fun h' c' kp e=>fin aY r' hz h' c' kp e) (by simp only[zax]<;>lia)
theorem zX:gq X (.type "tuple") (fun xs H Q=>∃p ys,xs=[.ref p]/\((fH X.K H p ys/\∀l,H l=none->Q (.ref l) (upd H l (.tup ys)))\/(cv X.K H p ys/\Q (.ref p) H))):=by
 intro pins s σ H xs us Q I r h;obtain⟨p,ys,rfl,h⟩:=h;obtain⟨u,rfl,rx⟩:=vals1 r;cases rx;rcases h with ⟨hq,q⟩ |⟨hq,q⟩
 ·obtain⟨aY,r',pl,hz⟩:=I.list hq;have hlen:=r'.length;refine call_tuple_list pl.isList (fun h' kp=>?_) (by simp only[zax]<;>lia);have I1:Inv X pins σ H {s with heap:=h' }:=I.kept (t':=s.toks) kp;have I2:Inv X pins σ (upd H h'.objs.size (.tup ys)) {s with heap:=h'.push {cls:=.type "tuple",data:=.seq aY.toArray} }:=
   I1.laid (t':=s.toks) (fun b o e=>Heap.get?_push_of_some _ e) (zag _) (show eK X.prog X.w _ _ _ (.tup ys) from ⟨hz,aY,r',IsTup.new _ _⟩)
  exact⟨.ref h'.objs.size,_,I2,rfl,q _ (I1.cJ.fresh (zag _))⟩
 ·obtain⟨aY,r',pl,hz⟩:=I.tuple hq;exact call_tuple_same pl ⟨.ref p,H,I,rfl,q⟩
def XI (K:zaa) (T:String) (x:V) (H:Hp):Prop:=match x with
 |.str _=>T = "str"
 |.int _=>T = "int"
 |.ref p=>(T = "list"/\∃xs,fH K H p xs)\/(T = "tuple"/\∃o,K.lookup p=some o/\o.cls=.type "tuple"/\o.dict=none)\/
  (T = "dict"/\((∃aV,H p=some (.dK aV))\/∃aV,H p=some (.dT aV)))\/(T = "set"/\∃S n,H p=some (.set S n))
 |_=>False
theorem K5{pins:List (zdU×Obj)}{σ:St}{H:Hp}{s:zd4}{T:String}{x:V}{v:zdV}(I:Inv X pins σ H s)(r:RelV x v)(ty:XI X.K T x H) :
 s.TypeIs v T/\∀a,v=.ref a->∃ob,s.heap.get? a=some ob/\ob.dict=none:=by
 cases x with
 |str z=>
  obtain⟨t,rfl⟩:=r;cases (show T = "str" from ty);exact⟨typeIs_str s z t,fun _ e=>nomatch e⟩
 |int i=>
  obtain⟨t,rfl⟩:=r;cases (show T = "int" from ty);exact⟨typeIs_int s i t,fun _ e=>nomatch e⟩
 |ref p=>
  cases r;rcases ty with ⟨rfl,xs,hq⟩ |⟨rfl,o,hk,hc,hd⟩ |⟨rfl,hk⟩ |⟨rfl,S,n,hk⟩
  ·obtain⟨aY,_,pl,_⟩:=I.list hq;refine⟨pl.isList.typeIs,fun a e=>?_⟩;cases e;obtain⟨o,n,e,c,hd,_⟩:=pl;exact⟨o,e,hd⟩
  ·refine⟨⟨o,I.sE p o hk,hc⟩,fun a e=>?_⟩;cases e;exact⟨o,I.sE _ o hk,hd⟩
  ·have z:∃o,s.heap.get? p=some o/\o.ExactDict:=by
    rcases hk with ⟨aV,hk⟩ |⟨aV,hk⟩
    ·obtain⟨_,_,_,_,o,_,_,e,ex,_⟩:=I.cJ p _ hk;exact⟨o,e,ex⟩
    ·obtain⟨_,_,_,_,o,_,_,e,ex,_⟩:=I.cJ p _ hk;exact⟨o,e,ex⟩
   obtain⟨o,e,ex⟩:=z;refine⟨⟨o,e,ex.1⟩,fun a e2=>?_⟩;cases e2;exact⟨o,e,ex.2.1⟩
  ·obtain⟨o,_,_,_,e,ex,_⟩:=I.cJ p _ hk;refine⟨⟨o,e,ex.1⟩,fun a e2=>?_⟩;cases e2;exact⟨o,e,ex.2.1⟩
 |_=>exact False.elim ty
def Rk (K:zaa) (T:String) (r:V->List V->Hp->VK->Prop) (to:TE):TE:=fun σ H Q=>to σ H fun x H1=>XI K T x H1/\r x [] H1 Q
def Wq (K:zaa) (T:String) (r:V->List V->Hp->VK->Prop) (to:TE) (t:TA):TE:=fun σ H Q=>to σ H fun x H1=>XI K T x H1/\t σ H1 fun xs H2=>r x xs H2 Q
variable{o e:Expr}{es:List Expr}{to:TE}{t:TA}{name:Str}{apos iS:Pos}{T id:String}{r:V->List V->Hp->VK->Prop}
theorem FO(pa:PlainAttrs T)(slot:Slot T name id)(Uv:typeOf (.builtin id)=pure (.type "method_descriptor"))(hm:K2 X id r)(ho:PE X o to)
 (Dw:attributeBase o name X.env (eval o X.env)=eval o X.env:=by rfl) (Dx:(apos.endLine==iS.line)=true:=by rfl):PE X (.Call (.Attribute o name apos) [] [] iS) (Rk X.K T r to):=by
 intro pins s σ H Q I h;refine wpAny_Call_method0_late Dw Dx (eR (ho pins s σ H _ I h) fun v s1 zqz=>?_);obtain⟨x,H1,I1,r1,ty,q1⟩:=zqz;obtain⟨h1,h2⟩:=K5 I1 r1 ty;exact⟨T,id,pa,slot,Uv,h1,h2,Calls.callWith_builtin rfl (PySem.evalArgs_none (hm pins s1 σ H1 x [] v [] Q I1 r1 .nil q1))⟩
theorem gZ(pa:PlainAttrs T)(slot:Slot T name id)(Uv:typeOf (.builtin id)=pure (.type "method_descriptor"))(hm:K2 X id r)(ho:PE X o to)(ha:PA X (e::es) t)
 (Dw:attributeBase o name X.env (eval o X.env)=eval o X.env:=by rfl)
 (Rl:((backTo iS (zd0 (e::es) X.env)).all (fun x=>!x.1)&&(backToKw iS (keywordEach [] X.env)).all (fun x=>x.1.isSome)
  && decide ((e::es).length+([]:List Keyword).length+(if ([]:List Keyword).isEmpty then 0 else 1)<30))=true:=by rfl)
 (Dx:(apos.endLine==iS.line)=true:=by rfl) (hs:zd0 (e::es) X.env=(false,eval e X.env)::zd0 es X.env:=by rfl) (xG:(backTo iS (zd0 es X.env)).any (·.1)=false:=by rfl) :
 PE X (.Call (.Attribute o name apos) (e::es) [] iS) (Wq X.K T r to t):=by
 intro pins s σ H Q I h;refine wpAny_Call_method_late Dw Rl Dx rfl (eR (ho pins s σ H _ I h) fun v s1 zqz=>?_);obtain⟨x,H1,I1,r1,ty,q1⟩:=zqz;obtain⟨h1,h2⟩:=K5 I1 r1 ty;refine⟨T,id,pa,slot,Uv,h1,h2,?_⟩;have hA:=ha iS pins s1 σ H1 _ I1 q1;rw[hs] at hA ⊢;refine Calls.callWith_builtin (by show (false ||(backTo iS (zd0 es X.env)).any (·.1))=false;rw[xG]<;>rfl) (Calls.evalArgs_plain ?_);exact eR hA fun us s2 ⟨vs,H2,I2,r2,q2⟩=>hm pins s2 σ H2 x vs v us Q I2 r1 r2 q2
end
def ZW (X:Cx) (id:String) (r:V->List V->Hp->VK->Prop):Prop:=
 ∀(pins:List (zdU×Obj)) (s:zd4) (σ:St) (H:Hp) (x:V) (xs:List V) (v:zdV) (us:List zdV) (Q:VK),Inv X pins σ H s->RelV x v->Vals xs us->r x xs H Q->
  wpAny (model X.prog X.w) X.A (call (.builtin id) (v::us)) (EP X pins σ Q) X.xe s
theorem Vals.one:∀ {x:V} {us:List zdV},Vals [x] us->∃u,us=[u]/\RelV x u
 |_,_,.cons r .nil=>⟨_,rfl,r⟩
theorem Vals.zero:∀ {us:List zdV},Vals [] us->us=[]
 |_,.nil=>rfl
theorem Vals.dropLast{xs:List V}{us:List zdV}(h:Vals xs us):Vals xs.dropLast us.dropLast:=by
 induction h with
 |nil=>exact .nil
 |cons r t ih=>
  cases t with
  |nil=>exact .nil
  |cons q t'=>exact .cons r ih
theorem Vals.reverse{xs:List V}{us:List zdV}(h:Vals xs us):Vals xs.reverse us.reverse:=by
 induction h with
 |nil=>exact .nil
 |cons r t ih=>rw[zb7,zb7];exact Vals.append ih (.cons r .nil)
theorem Vals.rep{xs:List V}{us:List zdV}(h:Vals xs us):∀k:Nat,Vals (zap k xs).flatten (zap k us).flatten
 |0=>.nil
 |k+1=>by
  rw[zbs,zbs,zaV,zaV];exact Vals.append h (Vals.rep h k)
theorem FP{α:Type}(l:List α):l.eraseIdx (l.length-1)=l.dropLast:=by
 induction l with
 |nil=>rfl
 |cons a r ih=>
  cases r with
  |nil=>rfl
  |cons b r=>
   have e:(a::b::r).length-1=((b::r).length-1)+1:=by
    have h1:(a::b::r).length=r.length+2:=rfl;have h2:(b::r).length=r.length+1:=rfl;lia
   rw[e,List.eraseIdx_cons_succ,ih]
   all_goals rfl
theorem foldl_rep(aY:List zdV):∀(k:Nat) (acc:List zdV),
 List.foldl (fun x1 x2=>x1++x2) acc.toArray (zap k aY.toArray)=(acc++(zap k aY).flatten).toArray
 |0,acc=>by simp
 |k+1,acc=>by
  have e:acc.toArray++aY.toArray=(acc++aY).toArray:=by simp
  have e2:(acc++aY)++(zap k aY).flatten=acc++(zap (k+1) aY).flatten:=by
   rw[zbs,zaV,zaW]
  rw[<- e2,<- foldl_rep aY k (acc++aY),<- e,zbs,zaT]
section
variable{X:Cx}{pins:List (zdU×Obj)}{σ:St}{H:Hp}{s:zd4}{l b:zdU}{xs ys zs:List V}
theorem Inv.Uw{aY its':List zdV}{n:Nat}{f:Array zdV->Array zdV}{t':Nat}(I:Inv X pins σ H s)(hH:H l=some (.lst xs))
 (e:s.heap.get? l=some {cls:=.type "list",data:=.seq aY.toArray n}) (hf:f aY.toArray=its'.toArray) (hv:Vals ys its') (hz:ys.length<=zd2) :
 Inv X pins σ (upd H l (.lst ys)) {s with heap:=s.heap.update l (Obj.mapSeq f),toks:=t' }:=by
 have q:=PySem.IsL.update e f;rw[hf] at q;refine I.write (x:=l) (e:=l) (by rw[hH];exact trivial) (.inl rfl) (fun b' u hb hu=>(Heap.get?_update_other s.heap (Obj.mapSeq f) (Ne.symm hb)).trans hu) ⟨_,q⟩ ?_;exact⟨hz,its',_,hv,q⟩
theorem Inv.Ux{aY:List zdV}{t':Nat}(I:Inv X pins σ H s)(hv:Vals ys aY)(hz:ys.length<=zd2) :
 Inv X pins σ (upd H s.heap.objs.size (.lst ys)) {s with heap:=s.heap.push {cls:=.type "list",data:=.seq aY.toArray},toks:=t' }:=
 I.laid (fun _ _ q=>Heap.get?_push_of_some _ q) (zag _) ⟨hz,aY,0,hv,Heap.get?_push_size _ rfl⟩
theorem Inv.fresh(I:Inv X pins σ H s):H s.heap.objs.size=none:=I.cJ.fresh (zag _)
theorem Inv.K6(I:Inv X pins σ H s)(hH:H l=some (.lst xs)):xs.length<=zd2/\∃(aY:List zdV) (n:Nat),Vals xs aY/\xs.length=aY.length/\s.heap.get? l=some {cls:=.type "list",data:=.seq aY.toArray n}:=by
 obtain⟨z,aY,n,r,e⟩:=I.cJ l _ hH;exact⟨z,aY,n,r,r.length,e⟩
theorem K7{n:Nat}(h:n<=zd2):Builtin.List.listTooLong n=false:=by
 unfold Builtin.List.listTooLong;exact decide_eq_false (by lia)
end
section
variable{X:Cx}
def N2:V->List V->Hp->VK->Prop:=fun x vs H Q=>∃l xs y,x=.ref l/\vs=[y]/\H l=some (.lst xs)/\xs.length<zd2/\Q .dh (upd H l (.lst (xs++[y])))
theorem cg:ZW X "list.append" N2:=by
 intro pins s σ H x vs v us Q I rx rv h;obtain⟨l,xs,y,rfl,rfl,hH,hz,q⟩:=h;cases rx;obtain⟨u,rfl,ru⟩:=rv.one;obtain⟨z,aY,n,r,hl,e⟩:=I.K6 hH;refine call_meets F.slot_list_append ⟨_,e,rfl⟩ F.entry_list_append (F.args_list_append_2 _ _) (PySem.list_append l aY.toArray n u (by rw[zax];lia)) ⟨e,?_⟩;refine⟨.dh,_,I.Uw (its':=aY++[u]) hH e (by simp) (r.append (.cons ru .nil)) ?_,rfl,q⟩;rw[zaf,zav];lia
def XJ:V->List V->Hp->VK->Prop:=fun x vs H Q=>∃l xs y,x=.ref l/\vs=[]/\H l=some (.lst xs)/\xs[xs.length-1]?=some y/\Q y (upd H l (.lst xs.dropLast))
theorem FQ:ZW X "list.pop" XJ:=by
 intro pins s σ H x vs v us Q I rx rv h;obtain⟨l,xs,y,rfl,rfl,hH,hy,q⟩:=h;cases rx;have XM:=rv.zero;subst XM;obtain⟨z,aY,n,r,hl,e⟩:=I.K6 hH;obtain⟨u,hu,ru⟩:=r.get hy;have hy':aY.toArray[aY.toArray.size-1]?=some u:=by
  show aY.toArray[aY.length-1]?=some u;rw[<- Array.getElem?_toList,<- hl];exact hu
 refine call_meets F.slot_list_pop ⟨_,e,rfl⟩ F.entry_list_pop (F.args_list_pop_1 _) (MeetsSeq.list_pop_last l aY.toArray n u hy' (by rw[zax];lia)) ⟨e,?_⟩;refine⟨y,_,I.Uw (its':=aY.dropLast) hH e ?_ r.dropLast ?_,ru,q⟩
 ·show aY.toArray.eraseIdxIfInBounds (aY.toArray.size-1)=aY.dropLast.toArray;rw[zax,List.eraseIdxIfInBounds_toArray,FP]
 ·rw[zaO];lia
def XN:R2:=fun x y H Q=>∃l b xs zs,x=.ref l/\y=.ref b/\H l=some (.lst xs)/\H b=some (.lst zs)/\xs.length+zs.length<=zd2/\∀p,H p=none->Q (.ref p) (upd H p (.lst (xs++zs)))
theorem xH:nU X (binaryOp .Add) XN:=by
 intro pins s σ H x y v u Q I rx ry h;obtain⟨l,b,xs,zs,rfl,rfl,hH,hB,hz,q⟩:=h;cases rx;cases ry;obtain⟨z,aY,n,r,hl,e⟩:=I.K6 hH;obtain⟨z2,Rh,n2,r2,hl2,e2⟩:=I.K6 hB;refine PySem.P.add_list e e2 ?_ (by rw[zax,zax];lia);have ea:aY.toArray++Rh.toArray=(aY++Rh).toArray:=by simp
 rw[ea];exact⟨.ref _,_,I.Ux (t':=s.toks) (r.append r2) (by rw[zaf];lia),rfl,q _ I.fresh⟩
def XO:R2:=fun x y H Q=>∃l k xs,x=.ref l/\y=.int k/\H l=some (.lst xs)/\-(2 ^ 63)<=k/\k<2 ^ 63/\xs.length*k.toNat<=zd2/\
 ∀p,H p=none->Q (.ref p) (upd H p (.lst (zap k.toNat xs).flatten))
theorem len_rep{α:Type}(xs:List α)(k:Nat):(zap k xs).flatten.length=k*xs.length:=by
 induction k with
 |zero=>simp
 |succ k ih=>rw[zbs,zaV,zaf,ih,zdL,Nat.add_comm]
theorem Rm:nU X (binaryOp .Mult) XO:=by
 intro pins s σ H x y v u Q I rx ry h;obtain⟨l,k,xs,rfl,rfl,hH,h1,h2,hz,q⟩:=h;cases rx;obtain⟨t,rfl⟩:=ry;obtain⟨z,aY,n,r,hl,e⟩:=I.K6 hH;have hlen:aY.toArray.size*k.toNat<=zd2:=by rw[zax,<- hl];exact hz
 have XQ:¬aY.toArray.size*k.toNat>(2 ^ 63-1)/8:=by
  have:(zd2:Nat)<=(2 ^ 63-1)/8:=by decide
  lia
 have XR:¬(!Builtin.List.listFitsIndex k)=true:=by
  rw[fitsIndex_both h1 h2];exact zan
 have Uy:¬Builtin.List.listTooLong (aY.toArray.size*k.toNat)=true:=by
  rw[K7 hlen];exact zan
 have XS:List.foldl (fun x1 x2=>x1++x2) #[] (zap (if aY.toArray.isEmpty=true then 0 else k.toNat) aY.toArray)=(zap k.toNat aY).flatten.toArray:=by
  have f0:∀m:Nat,List.foldl (fun x1 x2=>x1++x2) #[] (zap m aY.toArray)=(zap m aY).flatten.toArray:=fun m=>by
   have:=foldl_rep aY m [];rw[za5] at this;exact this
  rw[f0];cases aY with
  |nil=>simp
  |cons a r'=>rw[if_neg (by simp)]
 refine wpAny_binaryOp_repeat_ref (T:="list") (U:="int") (by decide) ⟨_,e,rfl⟩ (fun s'=>typeIs_int s' k t) noFill_list_mul F.fills_int_mul F.slot_int_rmul repeat_list F.slot_int_index.lookup
  (call_meets F.slot_int_rmul (typeIs_int s k t) F.entry_int_rmul (F.args_int_rmul_2 _ _) (int___rmul___int_list k t l aY.toArray n)
   ⟨e,rfl,⟨_,e,rfl⟩,call_meets F.slot_list_mul ⟨_,e,rfl⟩ F.entry_list_mul (F.args_list_mul_2 _ _) (AutoListH.list___mul___list_int_3 l aY.toArray n k t XR XQ Uy) ⟨e,?_⟩⟩)
 rw[XS];exact⟨.ref _,_,I.Ux (t':=s.toks) (r.rep k.toNat) (by rw[len_rep,Nat.mul_comm];exact hz),rfl,q _ I.fresh⟩
end
end L2
namespace ZX
open PySem PySem.W PySem.Calls PyProof.Rows
theorem we{P:Params}{h:Heap}:∀(ns:List Int) (vs:List zdV),WellAll P h vs (ns.map WData.int)->IntsAre vs ns:=by
 intro ns
 induction ns with
 |nil=>
  intro vs w;rw[zbC] at w;cases w;exact .nil
 |cons n ns ih=>
  intro vs w;rw[zar] at w;cases w with
  |cons a b=>
   cases a;exact .cons _ _ (ih _ b)
theorem IX{l:OpenLaw}{n:Nat}(hn:l.most=some n){P:Params}{h:Heap}{args:List WData}{vals:List zdV}
 (N3:l.row.toRowW.claim.pre args=true) (XT:WellAll P h vals args) :
 ∃a vs ns,vals=[Value.ref a]/\args=[WData.list (ns.map WData.int)]/\h.get? a=some {cls:=.type "list",data:=.seq vs.toArray}/\IntsAre vs ns/\ns.length<=n:=by
 have hsh:WShape.hasAll [] args [.list .int]=true:=(pre_splitW N3).1;have hc:l.pre.holds [] {args:=args}=true:=(pre_splitW N3).2;obtain⟨d,r,rfl,h1,h2⟩:=hasAllW_cons hsh;obtain rfl:=hasAllW_nil h2;obtain⟨xs,rfl,h3⟩:=hasW_list h1;obtain⟨ns,rfl⟩:=items_int h3;have hlen:ns.length<=n:=by
  unfold OpenLaw.pre at hc;have h4:(WTm.not (.lt (.lit (.int (n:Int))) (.len (.arg 0)))).holds [] {args:=[.list (ns.map .int)]}=true:=by
   have h4:=(holds_andW hc).1;rw[hn] at h4;exact h4
  have h5:=condW_of h4 (w_not (w_lt w_lit (w_len_list (w_arg rfl))));rw[zai] at h5;refine Nat.le_of_not_lt fun q=>?_;have q':(n:Int)<((ns.length:Nat):Int):=by lia
  first
   |(rw[decide_eq_true q'] at h5;exact absurd h5 (by decide))
   |(simp at h5;lia)
 cases XT with
 |cons w1 w2=>
  cases w2;cases w1 with
  |list ho Rn=>exact⟨_,_,ns,rfl,rfl,ho,we ns _ Rn,hlen⟩
theorem IY(l:OpenLaw)(args:List WData):l.row.toRowW.claim.post args (.bool true) args=true:=
 postW_of (r:=l.row.toRowW) (X:=(true==true))
  (show WShape.has [] (.bool true) .bool=true by first |rfl |decide |simp[WShape.has,WShape.arms,WShape.armsAll])
  (show (WTm.eq .res (.lit (.bool true))).value [] {args:=args,res:=some (.bool true),after:=args}=some (.bool (true==true)) from w_eq_bool (w_res rfl) w_lit) rfl
theorem Dy{l:OpenLaw}{n:Nat}{q:zd6}{loose:List Str}{XP:(Str->Option zdV)->Heap->Prop}{YP:zdW->Heap->Prop}{d:DefRec}
 (hn:l.most=some n) (Uz:d.params.defaults=[])
 (call:∀(w:zdW) (s₀ s₁:zd4) (mg mb:Str->Option zdV) (fa:zdU) (o:Obj) (pm cd doc:zdV) (a:zdU) (vs:List zdV) (ns:List Int),
  Ground q loose [] XP w s₀ mg mb s₁.heap->YP w s₁.heap->
  s₁.heap.get? fa=some o->o.data=.func (docDef d.name d.params d.body d.scope pm cd doc)->s₁.heap.CodeRec cd d.name->mg d.name=some (.ref fa)->
  s₁.heap.get? a=some {cls:=.type "list",data:=.seq vs.toArray}->IntsAre vs ns->ns.length<=n->s₁.gens = #[]->
  codeAny (model l.prog w) callerA (.call (.ref fa) ⟨[.ref a],[]⟩) (fun r s'=>r=.ok (.ret (.bool true))/\OldK s₁.heap s'.heap/\s'.os=s₁.os/\AllBare s'.gens) s₁) :
 WalkO q loose XP YP l.row.toRowW d [] (fun f vs=>PySem.call f vs):=by
 intro w s₀ s₁ mg mb G Y fa o pm cd doc dV kV ho hd IG hD UA hg args vals as N3 abF hrd XT hlo;obtain rfl:dV=.none:=Dflts.none hD Uz;obtain rfl:kV=.none:=Dflts.noKw hD;obtain⟨a,vs,ns,rfl,rfl,Ro,hints,hlen⟩:=IX hn N3 XT;refine enter_call (codeAny_mono (call w s₀ s₁ mg mb fa o pm cd doc a vs ns G Y ho (fd_plain hd) IG UA Ro hints hlen hg) fun r s' hq=>?_);obtain⟨rfl,h2,h3,h4⟩:=hq;exact⟨.inl ⟨.bool true,.bool true,[],rfl,fun _=>rfl,.bool true,IY l _,fun _=>⟨List.Pairwise.nil,fun _ hm=>(nomatch hm)⟩⟩,h2,h3,h4⟩
end ZX
namespace L2
open PySem PySem.Spec PyProof.Rows
theorem AS:∀ {vs:List zdV} {ns:List Int},IntsAre vs ns->Vals (ns.map V.int) vs
 |_,_,.nil=>.nil
 |_,_,.cons n t h=>.cons ⟨t,rfl⟩ (AS h)
def Rp (H:Hp):Prop:=∀b,H b=none\/∃o xs,H b=some (.Ft o (.lst xs))
theorem K8{P:zd6}{w:zdW}{K:zaa}{mg mb:Str->Option zdV}{CX:Fn}{k:Nat}{fa a:zdU}{fd:zd3}{x:Str}{sp:Sp}{s₁:zd4}{vs:List zdV}{ns:List Int}
 (KX:K.In s₁.heap) (Wr:s₁.heap.Ns zd1 mg) (hb:s₁.heap.Ns builtinsNs mb) (UB:∀x:Str,x≠"__name__"->mb x=bootBuiltins x) (XU:s₁.heap.NoLimit) (hg:s₁.gens = #[])
 (ha:s₁.heap.get? a=some {cls:=.type "list",data:=.seq vs.toArray}) (hi:IntsAre vs ns) (hl:ns.length<=zd2) (hr:gP k callerA)
 (F:∀base:Heap,K.In base->base.Ns zd1 mg->a8 P w K mg base CX k fa fd [x] sp) (UC:∀(s:zd4) (u:zdV),BindsTo s fd ⟨[u],[]⟩ [(x,u)])
 (IV:∀H:Hp,Rp H->fH K H a (ns.map V.int)->sp [.ref a] H (fun v _=>v=.bl true) fun _ _ _=>False)
 (XW:∀H e s',CX [] H s₁ (fun _ _ _=>False) e s'->False) :
 codeAny (model P w) callerA (.call (.ref fa) ⟨[.ref a],[]⟩) (fun r s'=>r=.ok (.ret (.bool true))/\OldK s₁.heap s'.heap/\s'.os=s₁.os/\AllBare s'.gens) s₁:=by
 have rv:=AS hi;have XX:=hi.length;have core:∀H:Hp,Rp H->fH K H a (ns.map V.int)->sD P w H s₁.heap->(∀b,H b≠none->b=a)->(H a≠none->K.lookup a=none)->
  codeAny (model P w) callerA (.call (.ref fa) ⟨[.ref a],[]⟩) (fun r s'=>r=.ok (.ret (.bool true))/\OldK s₁.heap s'.heap/\s'.os=s₁.os/\AllBare s'.gens) s₁:=by
  intro H hO hS cJ hA hK;have Hl:∀ {b:zdU} {o:Obj},s₁.heap.get? b=some o->H b=none->(BA s₁.heap H).get? b=some o:=fun e n=>Ks e n;have Up:∀ {b:zdU} {o:Obj} {es:Array DictEntry} {ep:Nat},s₁.heap.get? b=some o->o.data=.dict es ep->H b=none:=fun {b o es ep} e d=>by
   cases q:H b with
   |none=>rfl
   |some u=>
    have e':b=a:=hA b (by rw[q];simp);subst e';rw[ha] at e;cases e;have d':Data.seq vs.toArray _=Data.dict es ep:=d;cases d'
  have Ws:∀ {b:zdU} {m:Str->Option zdV},s₁.heap.Ns b m->(BA s₁.heap H).Ns b m:=fun {b m} ⟨o,es,ep,e,d,r⟩=>⟨o,es,ep,Hl e (Up e d),d,r⟩
  have ZY:K.In (BA s₁.heap H):=fun b o e=>Hl (KX b o e) (by
   cases q:H b with
   |none=>rfl
   |some u=>
    have e':b=a:=hA b (by rw[q];simp);subst e';rw[hK (by rw[q];simp)] at e;cases e)
  have hM:Mod K mg (BA s₁.heap H):=⟨ZY,Ws Wr,⟨mb,Ws hb,UB⟩,let ⟨mc,h1,h2⟩:=XU;⟨mc,Ws h1,h2⟩⟩
  have e0:zT P w K mg (BA s₁.heap H) callerA [] s₁ H:=⟨rfl,hM,fun b o e=>NL e,zdK (IE _ _),trivial,fun b hb=>absurd (show b∈([]:List zdU) from hb) (by simp),cJ,.of_eq hg⟩
  refine codeAny_mono ((F _ ZY (Ws Wr)).run callerA [] s₁ H ⟨[.ref a],[]⟩ [.ref a] [.ref a] _ _ hr e0 (UC s₁ (.ref a)) (.cons rfl .nil) (IV H hO hS)) fun r s' h=>?_;cases r with
  |error e=>exact(XW H e s' h).elim
  |ok fl=>
   cases fl with
   |next=>exact False.elim h
   |brk=>exact False.elim h
   |cont=>exact False.elim h
   |ret u=>
    obtain⟨v,H',os,bare,un,N4,r',q⟩:=h;have q':v=.bl true:=q;subst q';obtain rfl:u=Value.bool true:=r';refine⟨rfl,OldK.of_keep fun b o e=>?_,os,bare⟩;cases q:H b with
    |none=>exact un.keep b o e q (by intro z;exact absurd (show b∈([]:List zdU) from z) (by simp)) (by simp)
    |some u=>
     rcases hO b with z |⟨ob,xs,z⟩
     ·rw[q] at z;cases z
     ·have z2:=un.oz b ob _ z;obtain⟨e1,_⟩:=cJ b _ z;obtain⟨e2,_⟩:=N4 b _ z2;rw[e] at e1;cases e1;exact e2
 cases hk:K.lookup a with
 |some o=>
  have e:=KX a o hk;rw[ha] at e;cases e;refine core (fun _=>none) (fun _=>.inl rfl) (.inr ⟨_,vs.toArray,_,hk,rfl,rfl,rfl,by rw[zax,XX];exact hl,by simpa using rv⟩) (fun b u z=>by have z':(none:Option HO)=some u:=z;cases z') (fun b z=>absurd rfl z) fun z=>absurd rfl z
 |none=>
  refine core (fun b=>if b=a then some (.Ft {cls:=.type "list",data:=.seq vs.toArray} (.lst (ns.map V.int))) else none) (fun b=>?_) (.inl (.inr ⟨{cls:=.type "list",data:=.seq vs.toArray},if_pos rfl⟩)) (fun b u z=>?_) (fun b z=>?_) fun _=>hk
  ·by_cases hb:b=a
   ·exact .inr ⟨_,_,if_pos hb⟩
   ·exact .inl (if_neg hb)
  ·by_cases hb:b=a
   ·have z':=(if_pos hb).symm.trans z;cases z';subst hb;exact⟨ha,by rw[zai];exact hl,vs,_,rv,ha⟩
   ·have z':=(if_neg hb).symm.trans z;cases z'
  ·by_cases hb:b=a
   ·exact hb
   ·exact absurd (if_neg hb) z
theorem N5{l:PySem.W.OpenLaw}{n k:Nat}{q:zd6}{loose:List Str}{XP:(Str->Option zdV)->Heap->Prop}{YP:zdW->Heap->Prop}{d:DefRec}{K:Params->zaa}{CX:zdW->Fn}{sp:zdW->Sp}{x:Str}
 (hn:l.most=some n) (Wm:n<=zd2) (Uz:d.params.defaults=[]) (hr:gP k callerA)
 (hY:∀(w:zdW) (h:Heap),YP w h->(K w.params).In h)
 (F:∀(w:zdW) (mg:Str->Option zdV) (fa:zdU) (h:Heap),(K w.params).In h->h.Ns zd1 mg->mg d.name=some (.ref fa)->
  ∃fd:zd3,(∀(s:zd4) (u:zdV),BindsTo s fd ⟨[u],[]⟩ [(x,u)])/\
   ∀base:Heap,(K w.params).In base->base.Ns zd1 mg->a8 l.prog w (K w.params) mg base (CX w) k fa fd [x] (sp w))
 (IV:∀(w:zdW) (H:Hp) (a:zdU) (ns:List Int),ns.length<=n->Rp H->fH (K w.params) H a (ns.map V.int)->sp w [.ref a] H (fun v _=>v=.bl true) fun _ _ _=>False)
 (XW:∀(w:zdW) (H:Hp) (s:zd4) (e:zdV) (s':zd4),CX w [] H s (fun _ _ _=>False) e s'->False) :
 PySem.W.WalkO q loose XP YP l.row.toRowW d [] (fun f vs=>PySem.call f vs):=by
 refine ZX.Dy hn Uz fun w s₀ s₁ mg mb fa o pm cd doc a vs ns G Y ho hd IG UA Ro hints hlen hg=>?_;have KX:=hY w _ Y;obtain⟨fd,hb,hF⟩:=F w mg fa _ KX G.T.g UA;exact K8 KX G.T.g G.T.b G.T.builtins G.T.nolimit hg Ro hints (zaA hlen Wm) hr hF hb (fun H hO hS=>IV w H a ns hlen hO hS) fun H e s'=>XW w H s₁ e s'
def inClass (s:Stmt) (j:Nat):Stmt:=match s with
 |.ClassDef _ _ _ body _ _ _ _ _ _ _=>body.getD j (.Pass ⟨0,0,0,0⟩)
 |_=>.Pass ⟨0,0,0,0⟩
def cN (s:Stmt):Arguments:=match s with
 |.FunctionDef _ a _ _ _ _ _ _ _ _=>a
 |_=>{posonlyargs:=[],args:=[],vararg:=none,kwonlyargs:=[],kw_defaults:=[],kwarg:=none,defaults:=[]}
def bI (s:Stmt):List Stmt:=match s with
 |.FunctionDef _ _ b _ _ _ _ _ _ _=>b
 |_=>[]
def av (s:Stmt):Scope:=match s with
 |.FunctionDef _ _ _ _ _ _ sc _ _ _=>sc
 |_=>{kind:=.function,names:=[],isGenerator:=false,isCoroutine:=false}
abbrev gI:Fn:=fun _ _ _ _ _ _=>False
abbrev E0:XK:=fun _ _ _=>False
theorem bc{X:Cx}:Passes gI X E0:=fun _ _ _ _ _ _ _ h=>h.elim
structure C5(K:zaa)(x qual:Str)(st:Stmt)(f:zdU)(fd:zd3):Prop where
 ex:∃(oc:zdV) (od:Option zdU) (kV doc pm:zdV) (an:Option zdU) (dM ct:zdV) (KY:Array (Option zdV)),
  fd=zaU x qual (cN st) (bI st) (av st) .none kV doc pm an dM ct/\K.lookup f=some ⟨oc,od,.func fd,KY⟩/\zbq K dM qual=true
 kp:za7 K (.ref f)=true
section
variable{P:zd6}{w:zdW}{K:zaa}{mg:Str->Option zdV}{base:Heap}
theorem C5.ok{x qual:Str}{st:Stmt}{f:zdU}{fd:zd3}{N ps:List Str}{k:Nat}{sp:Sp}(F:C5 K x qual st f fd)(S:aR N ps (av st))(len:∀vs H Q E,sp vs H Q E->vs.length=ps.length)
 (xC:∀(dM:zdV) (A:zd5) (outer:List Env) (s:zd4) (H:Hp) (vs:List V) (Q:VK) (E:XK),gP k (A.deeper (envOfC qual (av st) s.heap.objs.size f dM))->sp vs H Q E->
  ∃t,Fu (jK gI P w K mg base N qual (av st) f dM A outer s H E).T5 (bI st) t/\t {nx:=fun _ H'=>Q .dh H',rt:=Q} (start N vs) H):a8 P w K mg base gI (k+1) f fd ps sp:=by
 obtain⟨oc,od,kV,doc,pm,an,dM,ct,KY,rfl,lk,IG⟩:=F.ex;refine Pu lk IG S len fun A outer s H vs Q E hr IV=>?_;obtain⟨t,h,q⟩:=xC dM A outer s H vs Q E hr IV;exact⟨t,h.T5,q⟩
theorem C5.binds{x qual:Str}{st:Stmt}{f:zdU}{fd:zd3}{ps:List Str}(F:C5 K x qual st f fd)
 (h:∀(kV doc pm:zdV) (an:Option zdU) (dM ct:zdV) (us:List zdV),us.length=ps.length->bindArgs (zaU x qual (cN st) (bI st) (av st) .none kV doc pm an dM ct) ⟨us,[]⟩=pure (ps.zip us)):Binds K fd ps []:=by
 obtain⟨oc,od,kV,doc,pm,an,dM,ct,KY,rfl,lk,IG⟩:=F.ex;exact .all (h kV doc pm an dM ct)
theorem oG{x qual:Str}{st:Stmt}{f:zdU}{oc:zdV}{od an:Option zdU}{KY:Array (Option zdV)}{kV doc pm dM ct:zdV}(l:K.lookup f=some ⟨oc,od,.func (zaU x qual (cN st) (bI st) (av st) .none kV doc pm an dM ct),KY⟩)
 (c:zbq K dM qual=true) (k:za7 K (.ref f)=true):C5 K x qual st f (zaU x qual (cN st) (bI st) (av st) .none kV doc pm an dM ct):=⟨⟨oc,od,kV,doc,pm,an,dM,ct,KY,rfl,l,c⟩,k⟩
end
theorem Hm{A:zd5}{k:Nat}(hr:gP k A):A.units+1<cLine:=zch (Nat.add_le_add_left (by decide:1<=64) _) hr.units
theorem AU{n:Nat}(h:n<=1000):n<zd2:=zch h (by decide)
section
variable{X:Cx}
theorem pv(i:Nat){x:Str}{pos:Pos}(hN:X.N[i]?=some x:=by rfl)(hv:Wg X.env.scope x:=by first |exact zas rfl |exact Or.inr (zas rfl) |exact Or.inr (Or.inr rfl))(hd:(x==("__debug__":Str))=false:=by decide)
 (IG:(x==("__classdict__":Str))=false:=by decide):PE X (.Name x pos) (gO i):=QS hN hv hd IG
end
theorem bW{c A B:Prop}[Decidable c](h1:c->A)(h2:¬c->B):if c then A else B:=by
 by_cases h:c
 ·rw[if_pos h];exact h1 h
 ·rw[if_neg h];exact h2 h
def ar (H H':Hp):Prop:=∀b o,H b=some o->H' b=some o
theorem ar.refl(H:Hp):ar H H:=fun _ _ h=>h
theorem ar.trans{H H1 H2:Hp}(a:ar H H1)(b:ar H1 H2):ar H H2:=fun c o h=>b c o (a c o h)
theorem ar.free{H H':Hp}(e:ar H H'){l:zdU}(h:H' l=zdS):H l=zdS:=by
 cases q:H l with
 |none=>rfl
 |some o=>
  rw[e l o q] at h;cases h
theorem ar.seq{K:zaa}{H H':Hp}{a:zdU}{xs:List V}(e:ar H H')(h:fH K H a xs):fH K H' a xs:=by
 rcases h with (h |⟨o,h⟩) |h
 ·exact .inl (.inl (e _ _ h))
 ·exact .inl (.inr ⟨o,e _ _ h⟩)
 ·exact .inr h
section
variable{κ:Type}[DecidableEq κ]
def dX (aV:List (κ×V)) (k:κ):Option V:=(aV.find? fun kv=>decide (kv.1=k)).map (·.2)
def putK (aV:List (κ×V)) (k:κ) (v:V):List (κ×V):=
 if (aV.any fun kv=>decide (kv.1=k))=true then aV.map (fun kv=>if kv.1=k then (kv.1,v) else kv) else aV++[(k,v)]
theorem dB{p:κ×V}{r:List (κ×V)}{k:κ}(e:p.1=k):dX (p::r) k=some p.2:=by simp[dX,zbB,e]
theorem dC{p:κ×V}{r:List (κ×V)}{k:κ}(e:¬p.1=k):dX (p::r) k=dX r k:=by simp[dX,zbB,e]
theorem mr(k:κ):∀aV:List (κ×V),(aV.any fun kv=>decide (kv.1=k))=(dX aV k).isSome
 |[]=>rfl
 |p::r=>by
  rw[zbR];by_cases e:p.1=k
  ·simp only[dB e,decide_eq_true e,Bool.true_or,Option.isSome_some]
  ·rw[dC e,decide_eq_false e,zdA];exact mr k r
theorem Dz(k j:κ)(y:V):∀aV:List (κ×V),dX (aV.map fun kv=>if kv.1=k then (kv.1,y) else kv) j=(dX aV j).map fun x=>if j=k then y else x
 |[]=>rfl
 |p::r=>by
  have ih:=Dz k j y r;rw[zar];by_cases h:p.1=k
  ·rw[if_pos h];by_cases e:p.1=j
   ·rw[dB (p:=(p.1,y)) e,dB e,zbe,if_pos (e.symm.trans h)]
   ·rw[dC (p:=(p.1,y)) e,dC e,ih]
  ·rw[if_neg h];by_cases e:p.1=j
   ·rw[dB (p:=p) e,dB e,zbe,if_neg (fun z=>h (e.trans z))]
   ·rw[dC (p:=p) e,dC e,ih]
theorem AV(k j:κ)(y:V):∀aV:List (κ×V),dX aV k=none->dX (aV++[(k,y)]) j=if j=k then some y else dX aV j
 |[],_=>by
  by_cases e:k=j
  ·rw[if_pos e.symm];exact dB (p:=(k,y)) e
  ·rw[if_neg (fun z=>e z.symm)];exact dC (p:=(k,y)) e
 |p::r,hn=>by
  rw[zaQ];have hk:¬p.1=k:=fun z=>by rw[dB z] at hn;cases hn
  rw[dC hk] at hn;have ih:=AV k j y r hn;by_cases e:p.1=j
  ·rw[dB e,dB e,if_neg (fun z=>hk (e.trans z))]
  ·rw[dC e,dC e,ih]
theorem xI(aV:List (κ×V))(k j:κ)(y:V):dX (putK aV k y) j=if j=k then some y else dX aV j:=by
 unfold putK;by_cases a:(aV.any fun kv=>decide (kv.1=k))=true
 ·rw[if_pos a,Dz];rw[mr] at a;by_cases e:j=k
  ·obtain⟨x,hx⟩:=zcg.mp a;rw[if_pos e,e,hx,zbe,if_pos rfl]
  ·rw[if_neg e];cases dX aV j with
   |none=>rfl
   |some x=>rw[zbe,if_neg e]
 ·rw[if_neg a];refine AV k j y aV ?_;rw[mr] at a;cases q:dX aV k with
  |none=>rfl
  |some x=>rw[q] at a;exact(a rfl).elim
theorem oy.AW{o:Option V}{u:Option zdV}(r:oy o u):o.isSome=u.isSome:=by
 cases o with
 |none=>cases u with
  |none=>rfl
  |some _=>exact(show False from r).elim
 |some _=>cases u with
  |none=>exact(show False from r).elim
  |some _=>rfl
theorem oy.getD{o:Option V}{u:Option zdV}{d:V}{d':zdV}(r:oy o u)(rd:RelV d d'):RelV (o.getD d) (u.getD d'):=by
 cases o with
 |none=>cases u with
  |none=>exact rd
  |some _=>exact(show False from r).elim
 |some _=>cases u with
  |none=>exact(show False from r).elim
  |some _=>exact r
theorem KV.val{aV:List (κ×V)}{vs:List (κ×zdV)}(r:KV aV vs)(k:κ):oy (dX aV k) (valueAt vs k):=by
 unfold KV at r
 induction r with
 |nil=>exact True.intro
 |@cons p q ps qs h t ih=>
  obtain⟨h1,h2⟩:=h;by_cases e:p.1=k
  ·have e':q.1=k:=h1.symm.trans e;have b:valueAt (q::qs) k=some q.2:=by simp[valueAt,zbB,e']
   rw[dB e,b];exact h2
  ·have e':¬q.1=k:=fun z=>e (h1.trans z);have b:valueAt (q::qs) k=valueAt qs k:=by simp[valueAt,zbB,e']
   rw[dC e,b];exact ih
theorem KV.any{aV:List (κ×V)}{vs:List (κ×zdV)}(r:KV aV vs)(k:κ):(aV.any fun kv=>decide (kv.1=k))=vs.any fun kv=>decide (kv.1=k):=by
 unfold KV at r
 induction r with
 |nil=>rfl
 |cons h t ih=>rw[zbR,zbR,ih,h.1]
theorem KV.Rq{aV:List (κ×V)}{vs:List (κ×zdV)}(r:KV aV vs)(k:κ){y:V}{u:zdV}(ry:RelV y u) :
 KV (aV.map fun kv=>if kv.1=k then (kv.1,y) else kv) (vs.map fun kv=>if kv.1=k then (kv.1,u) else kv):=by
 unfold KV at r ⊢
 induction r with
 |nil=>exact .nil
 |@cons p q ps qs h t ih=>
  rw[zar,zar];refine .cons ?_ ih;obtain⟨h1,h2⟩:=h;by_cases e:p.1=k
  ·rw[if_pos e,if_pos (h1.symm.trans e)];exact⟨h1,ry⟩
  ·rw[if_neg e,if_neg (fun z=>e (h1.trans z))];exact⟨h1,h2⟩
theorem KV.put{aV:List (κ×V)}{vs:List (κ×zdV)}(r:KV aV vs)(k:κ){y:V}{u:zdV}(ry:RelV y u):KV (putK aV k y) (stored vs k u):=by
 unfold putK stored;rw[r.any k];by_cases e:(vs.any fun kv=>decide (kv.1=k))=true
 ·rw[if_pos e,if_pos e];exact r.Rq k ry
 ·rw[if_neg e,if_neg e];exact Paired.snoc r ⟨rfl,ry⟩
theorem KV.length{aV:List (κ×V)}{vs:List (κ×zdV)}(r:KV aV vs):aV.length=vs.length:=Paired.length r
end
theorem K9{P:zd6}{w:zdW}{k:Key}{u:zdV}(r:RelV (kV k) u):(fg P w).is k u=true:=by
 cases k with
 |inl i=>obtain⟨t,e⟩:=(show ∃t,u=Value.int i t from r);subst e;exact De P w i t
 |inr x=>obtain⟨t,e⟩:=(show ∃t,u=Value.str x t from r);subst e;exact Dh P w x t
abbrev KT (H:Hp):List (List Key×V)->List (List Key×zdU×zdV)->Prop:=Paired fun p q=>p.1=q.1/\H q.2.1=some (.tup (p.1.map kV))/\RelV p.2 q.2.2
theorem KT.val{H:Hp}{aV:List (List Key×V)}{xs:List (List Key×zdU×zdV)}(r:KT H aV xs)(k:List Key):oy (dX aV k) ((atKey xs k).map (·.2)):=by
 induction r with
 |nil=>exact True.intro
 |@cons p q ps qs h t ih=>
  obtain⟨h1,_,h2⟩:=h;by_cases e:p.1=k
  ·have e':q.1=k:=h1.symm.trans e;have b:atKey (q::qs) k=some q.2:=by simp[atKey,zbB,e']
   rw[dB e,b];exact h2
  ·have e':¬q.1=k:=fun z=>e (h1.trans z);have b:atKey (q::qs) k=atKey qs k:=by simp[atKey,zbB,e']
   rw[dC e,b];exact ih
theorem KT.Rq{H:Hp}{aV:List (List Key×V)}{xs:List (List Key×zdU×zdV)}(r:KT H aV xs)(k:List Key){y:V}{u:zdV}(ry:RelV y u) :
 KT H (aV.map fun kv=>if kv.1=k then (kv.1,y) else kv) (xs.map (putAt k u)):=by
 induction r with
 |nil=>exact .nil
 |@cons p q ps qs h t ih=>
  rw[zar,zar];refine .cons ?_ ih;obtain⟨h1,h2,h3⟩:=h;unfold putAt;by_cases e:p.1=k
  ·rw[if_pos e,if_pos (h1.symm.trans e)];exact⟨h1,h2,ry⟩
  ·rw[if_neg e,if_neg (fun z=>e (h1.trans z))];exact⟨h1,h2,h3⟩
theorem KT.put{H:Hp}{aV:List (List Key×V)}{xs:List (List Key×zdU×zdV)}(r:KT H aV xs)(k:List Key){b:zdU}{y:V}{u:zdV}(hb:H b=some (.tup (k.map kV)))(ry:RelV y u) :
 KT H (putK aV k y) (storedH xs k b u):=by
 have e:(aV.any fun kv=>decide (kv.1=k))=(atKey xs k).isSome:=by
  rw[mr,(r.val k).AW,Option.isSome_map]
 unfold putK storedH;rw[e];by_cases q:(atKey xs k).isSome=true
 ·rw[if_pos q,if_pos q];exact r.Rq k ry
 ·rw[if_neg q,if_neg q];exact Paired.snoc r ⟨rfl,hb,ry⟩
def FR (H:Hp) (a:zdU) (y:V) (r:Option V):Prop:=
 (∃aV k,Rd H a (.dK aV)/\y=kV k/\r=dX aV k)\/∃aV k b,Rd H a (.dT aV)/\y=.ref b/\H b=some (.tup (k.map kV))/\r=dX aV k
def N6 (H:Hp) (a:zdU) (y v:V) (H':Hp):Prop:=
 (∃aV k,H a=some (.dK aV)/\y=kV k/\aV.length<zd2/\H'=upd H a (.dK (putK aV k v)))\/
 ∃aV k b,H a=some (.dT aV)/\y=.ref b/\H b=some (.tup (k.map kV))/\aV.length<zd2/\H'=upd H a (.dT (putK aV k v))
theorem FR.k{H:Hp}{a:zdU}{aV:List (Key×V)}{k:Key}(e:H a=some (.dK aV)):FR H a (kV k) (dX aV k):=.inl ⟨aV,k,.inl e,rfl,rfl⟩
theorem N6.k{H:Hp}{a:zdU}{aV:List (Key×V)}{k:Key}{v:V}(e:H a=some (.dK aV))(hl:aV.length<zd2):N6 H a (kV k) v (upd H a (.dK (putK aV k v))):=.inl ⟨aV,k,e,rfl,hl,rfl⟩
def UD (td ty:TE):TE:=fun σ H Q=>td σ H fun x H1=>ty σ H1 fun y H2=>∃a v,x=.ref a/\FR H2 a y (some v)/\Q v H2
def UE (td ty tv:TE):TS:=fun D σ H=>tv σ H fun v H1=>td σ H1 fun x H2=>ty σ H2 fun y H3=>∃a H4,x=.ref a/\N6 H3 a y v H4/\D.nx σ H4
def Rr:TE:=fun _ H Q=>∀p,H p=none->Q (.ref p) (upd H p (.dK []))
structure M2(X:Cx)(o:Expr)(m:Str)(apos:Pos)(e f:Expr)(iS:Pos):Prop where
 base:attributeBase o m X.env (eval o X.env)=eval o X.env
 C6:((backTo iS (zd0 [e,f] X.env)).all (fun x=>!x.1)&&(backToKw iS (keywordEach [] X.env)).all (fun x=>x.1.isSome)
  && decide (([e,f]:List Expr).length+([]:List Keyword).length+(if ([]:List Keyword).isEmpty then 0 else 1)<30))=true
 line:(apos.endLine==iS.line)=true
 trees:backTo iS (zd0 [e,f] X.env)=[(false,eval e X.env),(false,eval f X.env)]
def uG (env:Env):List (Str×NameKind)->List (Str×zdU)->List (Str×zdU)
 |[],cs=>cs
 |(n,k)::r,cs=>uG env r (if k==.free then (n,(env.cells.lookup n).getD 0)::cs else cs)
theorem wg{scope:Scope}{env:Env}(h:∀p∈scope.names,p.2=.free->∃c,env.cells.lookup p.1=some c):closureFor scope env=pure (uG env scope.names []):=by
 have all:∀(l:List (Str×NameKind)) (cs:List (Str×zdU)),(∀p∈l,p.2=.free->∃c,env.cells.lookup p.1=some c)->
  (forIn l cs fun (x:Str×NameKind) (r:List (Str×zdU))=>if (x.2==NameKind.free)=true then do let a <- cellOf env x.1;pure (ForInStep.yield ((x.1,a)::r)) else (pure (ForInStep.yield r):Sem _))=pure (uG env l cs):=by
  intro l
  induction l with
  |nil=>intro cs _;rfl
  |cons p r ih=>
   intro cs hp;obtain⟨n,k⟩:=p;rw[zdg];by_cases hk:k=.free
   ·subst hk;obtain⟨c,e⟩:=hp (n,.free) zaq rfl;have e1:cellOf env n=pure c:=by unfold cellOf;rw[e]
    simp only[beq_self_eq_true,if_true,e1,pure_bind];rw[ih _ fun p PB=>hp p (zam _ PB)];simp[uG,e]
   ·have hb:(k==NameKind.free)=false:=by simpa using hk
    simp only[hb,zbE,if_false,pure_bind];rw[ih _ fun p PB=>hp p (zam _ PB)];simp[uG,hb]
 simp only[closureFor];rw[all scope.names [] h];simp
theorem sS{env:Env}{x:Str}{c:zdU}:∀ {l:List (Str×NameKind)} {cs:List (Str×zdU)},(∀p∈l,p.2=.free->∃c,env.cells.lookup p.1=some c)->(∀x c,cs.lookup x=some c->env.cells.lookup x=some c)->
 (uG env l cs).lookup x=some c->env.cells.lookup x=some c
 |[],_,_,h,e=>h x c e
 |(n,k)::r,cs,hp,h,e=>by
  unfold uG at e;refine sS (fun p q=>hp p (zam _ q)) ?_ e;intro y d q;by_cases hk:k=.free
  ·subst hk;obtain⟨c',e'⟩:=hp (n,.free) zaq rfl;simp only[beq_self_eq_true,if_true] at q;rw[zbu] at q;cases hy:y==n with
   |true=>
    rw[hy] at q;have:y=n:=by simpa using hy
    subst this;simp only at e';rw[e'] at q ⊢;exact q
   |false=>rw[hy] at q;exact h y d q
  ·have hb:(k==NameKind.free)=false:=by simpa using hk
   simp only[hb,zbE,if_false] at q;exact h y d q
theorem xJ{env:Env}{x:Str}:∀ {l:List (Str×NameKind)} {cs:List (Str×zdU)},((∃c,cs.lookup x=some c)\/(x,NameKind.free)∈l)->∃c,(uG env l cs).lookup x=some c
 |[],_,h=>by
  rcases h with h |h
  ·exact h
  ·exact absurd h (by simp)
 |(n,k)::r,cs,h=>by
  unfold uG
  apply xJ
  rcases h with ⟨c,h⟩ |h
  ·left
   by_cases hk:k=.free
   ·subst hk;simp only[beq_self_eq_true,if_true];rw[zbu];cases hy:x==n with
    |true=>exact⟨_,rfl⟩
    |false=>exact⟨c,h⟩
   ·have hb:(k==NameKind.free)=false:=by simpa using hk
    simp only[hb,zbE,if_false];exact⟨c,h⟩
  ·rcases zak.mp h with e |h
   ·injection e with e1 e2
    subst e1;subst e2
    left
    simp only[beq_self_eq_true,if_true];rw[zbu];simp
   ·exact .inr h
theorem oH{scope:Scope}{env:Env}{x:Str}:(relabel scope env).names.lookup x=(scope.names.lookup x).map fun k=>if (k==NameKind.free&&env.scope.kind==.function&&env.kindOf x==some .cell)=true then .cell else k:=by
 unfold relabel;show zbW x (scope.names.map _)=_;generalize scope.names=l
 induction l with
 |nil=>rfl
 |cons p r ih=>
  obtain⟨n,k⟩:=p;rw[zar,zbu (as:=r)];show zbW x ((if (k==NameKind.free&&env.scope.kind==.function&&env.kindOf n==some .cell)=true then (n,NameKind.cell) else (n,k))::_)=_;cases hx:x==n with
  |true=>
   have e:x=n:=by simpa using hx
   subst e;by_cases hc:(k==NameKind.free&&env.scope.kind==.function&&env.kindOf x==some .cell)=true
   ·rw[if_pos hc];simp only[zbu,beq_self_eq_true,zbe];rw[if_pos hc]
   ·rw[if_neg hc];simp only[zbu,beq_self_eq_true,zbe];rw[if_neg hc]
  |false=>
   by_cases hc:(k==NameKind.free&&env.scope.kind==.function&&env.kindOf n==some .cell)=true
   ·rw[if_pos hc];simp only[zbu,hx];exact ih
   ·rw[if_neg hc];simp only[zbu,hx];exact ih
theorem mem_of_lookup{x:Str}{k:NameKind}:∀ {l:List (Str×NameKind)},l.lookup x=some k->(x,k)∈l
 |[],h=>by simp at h
 |(n,j)::r,h=>by
  rw[zbu] at h;cases hx:x==n with
  |true=>
   rw[hx] at h;have e:x=n:=by simpa using hx
   cases h;subst e;exact zaq
  |false=>rw[hx] at h;exact zam _ (mem_of_lookup h)
def j3 (sc out:Scope):Bool:=
 (sc.names.all fun p=>p.2 != .cell&&(p.2 != .free ||out.names.lookup p.1==some .cell ||out.names.lookup p.1==some .free)&&(p.2 != .local ||sc.names.lookup p.1==some .local))&&decide (sc.kind=.function)
def wY (sc out:Scope) (N:List Str) (ix:List Nat):Bool:=
 ix.all fun i=>sc.names.lookup (N.getD i "")==some .free&&(out.names.lookup (N.getD i "")==some .cell ||out.names.lookup (N.getD i "")==some .free)
def La (σ:St) (ix:List Nat):St:=ix.map fun i=>σ.getD i none
abbrev Hn (N:List Str) (ix:List Nat):List Str:=ix.map fun i=>N.getD i ""
def kh (X:Cx) (scope:Scope) (own:List Str) (ix:List Nat) (C:zdU) (s₀:zd4) (H₀:Hp) (ex:List zdU):Cx where
 prog:=X.prog
 w:=X.w
 K:=X.K
 mg:=X.mg
 base:=X.base
 A:=X.A
 N:=own++Hn X.N ix
 s₀:=s₀
 H₀:=H₀
 env:=compEnvC scope (uG X.env scope.names []) C X.env
 outer:=X.stack
 stack:=X.stack
 ex:=ex
 fn:=fun _=>false
 calm:=X.calm
 pn:=[]
 xe:=fun _ _=>False
section
variable{X:Cx}{pins:List (zdU×Obj)}{σ:St}{H:Hp}{s:zd4}
theorem oI{sc out:Scope}(h:j3 sc out=true):∀p∈sc.names,p.2≠.cell/\(p.2=.free->out.names.lookup p.1=some .cell\/out.names.lookup p.1=some .free)/\(p.2=.local->sc.names.lookup p.1=some .local):=by
 intro p hp;unfold j3 at h;rw[zaD] at h;have:=za1.mp h.1 p hp;simp only[zaD,Bool.or_eq_true,bne_iff_ne,beq_iff_eq,ne_eq] at this;obtain⟨⟨h1,h2⟩,h3⟩:=this;refine⟨h1,fun e=>?_,fun e=>?_⟩
 ·rcases h2 with (h2 |h2) |h2
  ·exact absurd e h2
  ·exact .inl h2
  ·exact .inr h2
 ·rcases h3 with h3 |h3
  ·exact absurd e h3
  ·exact h3
theorem mZ{sc out:Scope}(h:j3 sc out=true):sc.kind=.function:=by
 unfold j3 at h;rw[zaD] at h;exact of_decide_eq_true h.2
theorem N7{scope:Scope}{own:List Str}{ix:List Nat}{ex:List zdU}(I:Inv X pins σ H s)(hf:j3 scope X.env.scope=true)(hx:∀b∈ex,rf X pins H b/\b<s.heap.objs.size):(kh X scope own ix s.heap.objs.size s H ex).Ok:=by
 have fits:=(oI hf)
 have sJ:∀p∈scope.names,p.2=.free->∃c,X.env.cells.lookup p.1=some c:=fun p hp e=>I.ok.has p.1 ((fits p hp).2.1 e);have sub:∀ {x:Str} {c:zdU},(uG X.env scope.names []).lookup x=some c->X.env.cells.lookup x=some c:=fun {x c} e=>sS sJ (fun x c e=>by simp at e) e;refine⟨I.ok.mod,(show scope.kind=.function from mZ hf),I.ok.glob,I.ok.blt,zag _,fun x y c a b=>I.ok.inj x y c (sub a) (sub b),fun x hk=>?_,fun x c e=>(by cases e),I.ok.hd,I.ok.frames,.inl rfl,fun b hb=>⟨zaS (hx b hb).2,fun x c e=>(hx b hb).1.2.2.2.2.1 x c (sub e)⟩,I.bs,zaA I.ok.Kt I.sz,fun b o e hb=>?_,fun b hb hs=>?_,I.stack,I.wV⟩
 ·refine xJ (.inr ?_);have Ta:(relabel scope X.env).names.lookup x=some .cell\/(relabel scope X.env).names.lookup x=some .free:=hk;rw[oH] at Ta;cases q:scope.names.lookup x with
  |none=>rw[q] at Ta;rcases Ta with z |z<;>cases z
  |some k=>
   have hm:=mem_of_lookup q;by_cases XY:k=.free
   ·subst XY;exact hm
   ·rw[q] at Ta;have hb:(k==NameKind.free)=false:=by simpa using XY
    simp only[zbe,hb,Bool.false_and,zbE,if_false,zaF.injEq] at Ta;rcases Ta with z |z
    ·exact absurd z (fits _ hm).1
    ·exact absurd z XY
 ·rcases(hx b hb).1.2.2.2.1 with z |z
  ·exact I.ok.Ku b o e z
  ·exact absurd (zaM (Heap.lt_size e) (zaA I.ok.Kt z)) (zbL _)
 ·rcases zak.mp (I.ux b hs) with z |z
  ·exact(hx b hb).1.2.1 z
  ·exact(hx b hb).1.2.2.1 z
theorem Lb{scope:Scope}{own:List Str}{ix:List Nat}{ex:List zdU}{h':Heap}{tk:Nat}(I:Inv X pins σ H s)(hf:j3 scope X.env.scope=true)(hc:wY scope X.env.scope X.N ix=true)(hx:∀b∈ex,rf X pins H b/\b<s.heap.objs.size)
 (hn:h'.Ns s.heap.objs.size fun _=>none) (hk:∀b o,s.heap.get? b=some o->h'.get? b=some o):Inv (kh X scope own ix s.heap.objs.size s H ex) [] (zap own.length none++La σ ix) H {s with heap:=h',toks:=tk}:=by
 have fits:=(oI hf)
 have sJ:∀p∈scope.names,p.2=.free->∃c,X.env.cells.lookup p.1=some c:=fun p hp e=>I.ok.has p.1 ((fits p hp).2.1 e);have sub:∀ {x:Str} {c:zdU},(uG X.env scope.names []).lookup x=some c->X.env.cells.lookup x=some c:=fun {x c} e=>sS sJ (fun x c e=>by simp at e) e;refine⟨N7 I hf hx,rfl,I.bare,Un.kept hk,⟨_,hn,fun i x v e1 e2 e3=>?_⟩,fun x c e=>?_,I.cJ.fresh (zag _),fun x c e=>I.oA x c (sub e),fun p hp=>absurd (show p∈([]:List (zdU×Obj))++[] from hp) (by simp),I.cJ.kept hk,?_⟩
 ·have e1:(own++Hn X.N ix)[i]?=some x:=e1;by_cases hi:i<own.length
  ·rw[zau (by simpa using hi),zb1,if_pos hi] at e2;cases e2
  ·have Lc:own.length<=i:=Nat.le_of_not_lt hi;rw[zat (by simpa using Lc),za4] at e2;rw[zat Lc] at e1;unfold La at e2;unfold Hn at e1;rw[zaz] at e1 e2;cases q:ix[i-own.length]? with
   |none=>rw[q] at e2;cases e2
   |some j=>
    rw[q] at e1 e2;simp only[zbe,zaF.injEq] at e1 e2;have hj:j∈ix:=zal q;have fit:=za1.mp hc j hj;simp only[zaD,Bool.or_eq_true,beq_iff_eq] at fit;rw[e1] at fit;have ej:σ[j]?=some (some v):=by
     rw[zae] at e2;cases r:σ[j]? with
     |none=>rw[r] at e2;cases e2
     |some z=>rw[r] at e2;simp only[Option.getD_some] at e2;rw[e2]
    have hjl:j<X.N.length:=by rw[<- I.len];exact(zao.mp ej).1
    have en:X.N[j]?=some x:=by
     rw[zae] at e1;rw[zac hjl] at e1 ⊢;simp only[Option.getD_some] at e1;rw[e1]
    obtain⟨m,hm,hl⟩:=I.loc;have hv:Wg X.env.scope x:=by
     rcases fit.2 with z |z
     ·exact .inr (.inl z)
     ·exact .inr (.inr z)
    obtain⟨u,r,l⟩:=hl j x v en ej hv;refine⟨u,r,.inr ⟨?_,?_⟩⟩
    ·show (relabel scope X.env).names.lookup x=some .cell\/(relabel scope X.env).names.lookup x=some .free;rw[oH,fit.1];simp only[zbe];split
     ·exact .inl rfl
     ·exact .inr rfl
    ·rcases l with ⟨k1,_⟩ |⟨_,c,ec,G4⟩
     ·have k1:X.env.scope.names.lookup x=some .local:=k1;rcases fit.2 with z |z<;>(rw[z] at k1;cases k1)
     ·obtain⟨c',e'⟩:∃c,(uG X.env scope.names []).lookup x=some c:=xJ (.inr (mem_of_lookup fit.1));have:=sub e';rw[ec] at this;cases this;exact⟨c,e',G4.keeps hk⟩
 ·obtain⟨v,z⟩:=I.cell x c (sub e);exact⟨v,z.keeps hk⟩
 ·show (zap own.length none++La σ ix).length=(own++Hn X.N ix).length;simp[La]
theorem comp_back{scope:Scope}{own:List Str}{ix:List Nat}{ex:List zdU}{τ:St}{H':Hp}{s':zd4}{G3:List (zdU×Obj)}(I:Inv X pins σ H s)(hx:∀b∈ex,rf X pins H b/\b<s.heap.objs.size)
 (I':Inv (kh X scope own ix s.heap.objs.size s H ex) G3 τ H' s'):Inv X pins σ H' s'/\H' s.heap.objs.size=none/\s.heap.objs.size≠X.env.locals/\X.s₀.heap.objs.size<=s.heap.objs.size/\(∀x c,X.env.cells.lookup x=some c->c≠s.heap.objs.size)/\∀p∈X.pn++pins,p.1≠s.heap.objs.size:=by
 refine⟨I.T2 (ch:=ex) I'.os I'.base I'.cJ I'.bare fun b hb=>?_,I'.free,zdJ I.lt,I.sz,fun x c e z=>?_,fun p hp z=>?_⟩
 ·obtain⟨f0,f1,f2,f3,f4,f5⟩:=(hx b hb).1;exact⟨f3,f1,f4,f5⟩
 ·obtain⟨v,q⟩:=I.cell x c e;exact absurd q.lt (by rw[z];exact zbL _)
 ·exact absurd (Heap.lt_size (I.pin p hp).1) (by rw[z];exact zbL _)
end
def Tb (X:Cx) (ifs:List Expr) (t:TT):Prop:=
 ∀(pins:List (zdU×Obj)) (s:zd4) (σ:St) (H:Hp) (Q:Bool->Hp->Prop),Inv X pins σ H s->t σ H Q->
  wpAny (model X.prog X.w) X.A (forIn ifs true fun c r=>if r=true then do let ok <- isTrue c X.env (eval c X.env);pure (ForInStep.yield ok) else pure (ForInStep.yield r)) (TP X pins σ Q) X.xe s
def DA:TT:=fun _ H Q=>Q true H
theorem j4{X:Cx}:Tb X [] DA:=fun _ _ _ H _ I h=>wpAny_tests_nil ⟨H,I,h⟩
theorem BK{X:Cx}{c:Expr}{t:TT}(h:PT X c t):Tb X [c] t:=fun pins s σ H Q I q=>wpAny_tests_one (h pins s σ H Q I q)
def nV (J:It) (D:zdU) (g:TG) (tc:TT) (te:TE) (Q:VK) (τ:St) (H:Hp):Prop:=∃W:Nat->Nat->St->Hp->Prop,(∃m,W 0 m τ H)/\∀i m τ H,W i m τ H->
 (J.stop i H/\Q (.ref D) H)\/(J.go i H/\∃N:St->Hp->Prop,(∀τ' H',N τ' H'->∃m',m'<m/\W (i+1) m' τ' H')/\∀x H',J.xr i H x H'->g x τ H' fun τ2 H2=>tc τ2 H2 fun b H3=>if b=true then
  te τ2 H3 fun y H4=>∃ys,H4 D=some (.lst ys)/\ys.length<zd2/\N τ2 (upd H4 D (.lst (ys++[y]))) else N τ2 H3)
def oJ (wi:TI) (k:Nat) (ix:List Nat) (g:TG) (tc:TT) (te:TE):TE:=fun σ H Q=>wi σ H fun J H1=>∀D,H1 D=none->nV J D g tc te Q (zap k none++La σ ix) (upd H1 D (.lst []))
section
variable{X:Cx}{tg iter elt:Expr}{ifs:List Expr}{scope:Scope}{pos:Pos}{own:List Str}{ix:List Nat}{wi:TI}{g:TG}{tc:TT}{te:TE}
theorem IZ{it D:zdU}{fp:List zdU}{tn:Nat->Heap->Prop}{J:It}{Q:VK}{R:Result->zd4->Prop}{s:zd4}{τ:St}{H:Hp}(qG:X.calm=true)(hxe:X.xe=fun _ _=>False)(Tc:X.pn=[])(T:Turn X.prog X.w X.K tg J fp it tn)
 (he:PE X elt te) (hg:PG X tg g) (ht:Tb X ifs tc) (I:Inv X [] τ H s) (ZZ:∀b∈fp,rf X [] H b) (h0:tn 0 s.heap) (hW:nV J D g tc te Q τ H)
 (hR:∀τ' H' s',Inv X [] τ' H' s'->Q (.ref D) H'->R (.ok .next) s') :
 codeAny (model X.prog X.w) X.A (.compLoop (.ListComp elt [⟨tg,iter,ifs,0⟩] scope pos) 0 (.ref it) (.ref D) X.env) R s:=by
 obtain⟨W,⟨m0,w0⟩,turn⟩:=hW;have no:∀ {E:zdV->zd4->Prop} (e:zdV) (s':zd4),X.xe e s'->E e s':=fun e s' z=>by rw[hxe] at z;exact z.elim
 have stat:∀ {H':Hp},(∀b∈fp,H' b=none)->∀b∈fp,rf X [] H' b:=fun hn b hb=>⟨hn b hb,(ZZ b hb).2⟩
 refine codeAny_loop rfl (fun n s'=>∃i τ' H',Inv X [] τ' H' s'/\tn i s'.heap/\(∀b∈fp,H' b=none)/\W i n τ' H') (fun n s3 hI=>?_) m0 ⟨0,τ,H,I,h0,fun b hb=>(ZZ b hb).1,w0⟩;obtain⟨i,τ3,H3,I3,Po,T9,w3⟩:=hI;show wpAny _ X.A ((compTurn (.ListComp elt [⟨tg,iter,ifs,0⟩] scope pos) 0 (.ref it) (.ref D) X.env).onRaise (fun x=>do noteFrame x X.env;theTreesLotGoes x)) _ _ s3;refine wpAny_noted ?_;rw[compTurn_list];refine zdX (wpAny_standAt (zdX ?_));rcases turn i n τ3 H3 w3 with ⟨stop,q⟩ |⟨go,N,hN,step⟩
 ·refine wpAny_mono (T.done X rfl rfl rfl qG i [] s3 τ3 H3 X.xe I3 (stat T9) Po stop) (fun r s4 zqz=>?_) no;obtain⟨hr,I4⟩:=zqz;subst hr;exact zdY (hR τ3 H3 s4 I4 q)
 ·refine wpAny_mono (T.item X rfl rfl rfl qG i [] s3 τ3 H3 X.xe I3 (stat T9) Po go) (fun r s4 zqz=>?_) no;obtain⟨u,hr,h4⟩:=zqz;subst hr;refine zdX (wpAny_mono h4 (fun _ s5 zqz=>?_) no);obtain⟨x,H5,I5,r5,y5,Q2,Xv⟩:=zqz;have Xw:=I5.pinned (stat Xv) (T.obj _ _ Q2);refine zdX (wpAny_mono (hg _ s5 τ3 H5 x u _ Xw r5 (step x H5 y5)) (fun _ s6 zqz=>?_) no);obtain⟨τ6,H6,I6,q6⟩:=zqz;refine zdX (wpAny_mono (ht _ s6 τ6 H6 _ I6 q6) (fun b s7 zqz=>?_) no);obtain⟨H7,I7,q7⟩:=zqz;have again:∀ {τ7:St} {H7:Hp} {s7:zd4},Inv X ([]++xt fp s5.heap) τ7 H7 s7->N τ7 H7->∃m,m<n/\∃i σ' H',Inv X [] σ' H' s7/\tn i s7.heap/\(∀b∈fp,H' b=none)/\W i m σ' H':=fun {τ7 H7 s7} I7 n7=>by
   obtain⟨m',hm,w7⟩:=hN τ7 H7 n7;refine⟨m',hm,i+1,τ7,H7,I7.sM,T.keep _ _ _ Q2 fun b hb o e=>(I7.pin (b,o) (zaR _ (zaR _ (mW hb e)))).1,fun b hb=>?_,w7⟩;obtain⟨o,e,d⟩:=T.obj _ _ Q2 b hb;exact(I7.pin (b,o) (zaR _ (zaR _ (mW hb e)))).2.1
  cases b with
  |false=>exact zdY ⟨rfl,again I7 q7⟩
  |true=>
   refine zdX (zdX (wpAny_mono (he _ s7 τ6 H7 _ I7 q7) (fun v s8 ⟨y,H8,I8,r8,ys,hD,hl,q8⟩=>zdX ?_) no));refine wpAny_mono (cg _ s8 τ6 H8 (.ref D) [y] (.ref D) [v] (fun _ H'=>N τ6 H') I8 rfl (.cons r8 .nil) ⟨D,ys,y,rfl,rfl,hD,hl,q8⟩) (fun _ s9 zqz=>?_) no;obtain⟨_,H9,I9,_,q9⟩:=zqz;exact zdY (zdY ⟨rfl,again I9 q9⟩)
theorem DB{pins:List (zdU×Obj)}{s:zd4}{σ:St}{H:Hp}{Q:VK}{use:Option (zdV->Sem Unit)}{Q':zdV->zd4->Prop}(qG:X.calm=true)(hf:j3 scope X.env.scope=true)(hc:wY scope X.env.scope X.N ix=true)
 (hi:PI X tg iter wi) (hg:∀C s₀ H₀ ex,PG (kh X scope own ix C s₀ H₀ ex) tg g) (ht:∀C s₀ H₀ ex,Tb (kh X scope own ix C s₀ H₀ ex) ifs tc) (he:∀C s₀ H₀ ex,PE (kh X scope own ix C s₀ H₀ ex) elt te)
 (I:Inv X pins σ H s) (h:oJ wi own.length ix g tc te σ H Q)
 (hU:∀(D C:zdU) (H':Hp) (s':zd4) (m:Str->Option zdV),Inv X pins σ H' s'->Q (.ref D) H'->s'.heap.Ns C m->H' C=none->C≠X.env.locals->X.s₀.heap.objs.size<=C->(∀x c,X.env.cells.lookup x=some c->c≠C)->(∀p∈X.pn++pins,p.1≠C)->compPost (model X.prog X.w) X.A X.xe use Q' (.ref D) C (.ok .next) s')
 (hs:∀x,foldedSetIterable iter X.env x=pure x) :
 wpAny (model X.prog X.w) X.A (comprehension (.ListComp elt [⟨tg,iter,ifs,0⟩] scope pos) scope X.env (firstIterPos [⟨tg,iter,ifs,0⟩] pos) (newList []) false (eval iter X.env) use) Q' X.xe s:=by
 have fits:=(oI hf)
 have sJ:∀p∈scope.names,p.2=.free->∃c,X.env.cells.lookup p.1=some c:=fun p hp e=>I.ok.has p.1 ((fits p hp).2.1 e);refine wpAny_comprehension_free (use:=use) rfl hs (wg sJ) (mZ hf) (fun x hx=>(fits x hx).2.2) ?_;refine eR (hi pins s σ H _ I h) fun v s1 h1=>eR h1 fun Xu s2 h2=>?_;obtain⟨it,fp,tn,J,H2,e,I2,T,Pn,f2,hW⟩:=h2;subst e;refine wpAny_newObj_type (hd:=by size_fits) ?_;have hD:H2 s2.heap.objs.size=none:=I2.cJ.fresh (zag _);have I3:Inv X pins σ (upd H2 s2.heap.objs.size (.lst [])) {s2 with heap:=s2.heap.push {cls:=.type "list",dict:=none,data:=.seq ([]:List zdV).toArray} }:=
  I2.laid (t':=s2.toks) (fun b u e=>Heap.get?_push_of_some _ e) (zag _) ⟨zaJ _,[],0,.nil,Heap.get?_push_size _ rfl⟩
 have W3:=hW s2.heap.objs.size hD;have Z0:∀b∈fp,b<s2.heap.objs.size:=fun b hb=>let ⟨o,e,_⟩:=T.obj _ _ Pn b hb;Heap.lt_size e;have UG:∀b∈fp,rf X pins (upd H2 s2.heap.objs.size (.lst [])) b/\b<(s2.heap.push {cls:=.type "list",dict:=none,data:=.seq ([]:List zdV).toArray}).objs.size:=fun b hb=>
  ⟨⟨by rw[aq (zaS (Z0 b hb))];exact(f2 b hb).1,(f2 b hb).2⟩,by rw[Heap.size_push];exact Nat.lt_succ_of_lt (Z0 b hb)⟩
 have Po:tn 0 (s2.heap.push {cls:=.type "list",dict:=none,data:=.seq ([]:List zdV).toArray}):=T.keep _ _ _ Pn fun b _ o e=>Heap.get?_push_of_some _ e;generalize hs3:({s2 with heap:=s2.heap.push {cls:=.type "list",dict:=none,data:=.seq ([]:List zdV).toArray} }:zd4)=s3 at I3;generalize hH3:upd H2 s2.heap.objs.size (.lst [])=H3 at I3 W3 UG;have eh:s2.heap.push {cls:=.type "list",dict:=none,data:=.seq ([]:List zdV).toArray}=s3.heap:=by rw[<- hs3]
 rw[eh] at UG Po;refine wpAny_newFunctionEnv (fun x hx=>(fits x hx).1) (by intro y hy;simp at hy) (fun h4 Wr hsb=>?_) (mZ hf);have kept:∀b o,s3.heap.get? b=some o->h4.get? b=some o:=fun b o e=>hsb.extBut b o (zaS (Heap.lt_size e)) (Heap.get?_push_of_some _ e);have I4:=Lb (own:=own) (tk:=s3.toks+([]:List (Str×zdV)).length) I3 hf hc UG Wr kept;have fp4:∀b∈fp,rf (kh X scope own ix s3.heap.objs.size s3 H3 fp) [] H3 b:=fun b hb=>by
  obtain⟨⟨f0,f1,f2',f3,f4,f5⟩,lt⟩:=UG b hb;refine⟨f0,zaS lt,fun z=>?_,.inl hb,fun x c e=>f4 x c (sS sJ (fun x c e=>by simp at e) e),fun p hp=>absurd (show p∈([]:List (zdU×Obj))++[] from hp) (by simp)⟩;rcases zak.mp (I3.ux b z) with z |z
  ·exact f1 z
  ·exact f2' z
 have Z1:tn 0 h4:=T.keep _ _ _ Po fun b _ o e=>kept b o e;have loop:=IZ (X:=kh X scope own ix s3.heap.objs.size s3 H3 fp) (iter:=iter) (scope:=scope) (pos:=pos) (R:=compPost (model X.prog X.w) X.A X.xe use Q' (.ref s2.heap.objs.size) s3.heap.objs.size) qG rfl rfl T (he _ _ _ _) (hg _ _ _ _) (ht _ _ _ _) I4 fp4 Z1 W3
  (fun τ' H' s' I' q=>by
   obtain⟨J1,J2,J3,J4,J5,J6⟩:=comp_back I3 UG I';obtain⟨m,hm,_⟩:=I'.loc;exact hU _ _ H' s' m J1 q hm J2 J3 J4 J5 J6)
 exact codeAny_compStart_list loop (T.self X.A 0 _ _ _ Z1 loop)
theorem kX(qG:X.calm=true)(hf:j3 scope X.env.scope=true)(hc:wY scope X.env.scope X.N ix=true)
 (hi:PI X tg iter wi) (hg:∀C s₀ H₀ ex,PG (kh X scope own ix C s₀ H₀ ex) tg g) (ht:∀C s₀ H₀ ex,Tb (kh X scope own ix C s₀ H₀ ex) ifs tc) (he:∀C s₀ H₀ ex,PE (kh X scope own ix C s₀ H₀ ex) elt te)
 (hs:∀x,foldedSetIterable iter X.env x=pure x:=by intro _;rfl):PE X (.ListComp elt [⟨tg,iter,ifs,0⟩] scope pos) (oJ wi own.length ix g tc te):=by
 intro pins s σ H Q I h;rw[eval_ListComp];refine DB (use:=none) qG hf hc hi hg ht he I h (fun D C H' s' m I' q hm n1 n2 n3 n4 n5=>?_) hs;refine⟨m,hm,fun h' sb=>⟨.ref D,H',?_,rfl,q⟩⟩;exact I'.turned (t':=s'.toks) (it:=C) (fun b o hb e=>sb.extBut b o hb e) n1 (Ne.symm (Ne.symm n2)) (.inr n3) n4 n5
theorem wZ{i:Nat}{y:Str}{py UH:Pos}(hN:X.N.Nodup)(hiy:X.N[i]?=some y)(hy:Loc X.env.scope y)(qG:X.calm=true)(hf:j3 scope X.env.scope=true)(hc:wY scope X.env.scope X.N ix=true)
 (hi:PI X tg iter wi) (hg:∀C s₀ H₀ ex,PG (kh X scope own ix C s₀ H₀ ex) tg g) (ht:∀C s₀ H₀ ex,Tb (kh X scope own ix C s₀ H₀ ex) ifs tc) (he:∀C s₀ H₀ ex,PE (kh X scope own ix C s₀ H₀ ex) elt te)
 (hsw:swapsWith (.ListComp elt [⟨tg,iter,ifs,0⟩] scope pos) (some (.Name y py)) UH.line X.env=pure true:=by rfl)
 (hs:∀x,foldedSetIterable iter X.env x=pure x:=by intro _;rfl) (T1:X.fn y=true\/X.env.scope.names.lookup y=some .local:=by first |exact .inl rfl |exact .inr rfl |assumption) :
 PS X (.Assign [.Name y py] (.ListComp elt [⟨tg,iter,ifs,0⟩] scope pos) UH) (KD (oJ wi own.length ix g tc te) (jU i)):=by
 intro pins s σ H D I h;rw[exec_Assign_Name_used _ _ _ _ hsw];refine zdX (wpAny_standAt (zdX ?_));show wpAny _ _ (do let _ <- comprehension (.ListComp elt [⟨tg,iter,ifs,0⟩] scope pos) scope X.env _ (newList []) false (eval iter X.env) (some (assign (.Name y py) X.env))) _ _ s;refine zdX (wpAny_mono (DB (use:=some (assign (.Name y py) X.env)) (Q':=fun _ s'=>SP X pins D .next s') qG hf hc hi hg ht he I h (fun L C H' s' m I' q hm n1 n2 n3 n4 n5=>?_) hs) (fun _ s' hq=>zdY (zdY hq)) fun _ _ e=>e);show wpAny _ _ (assign (.Name y py) X.env (.ref L)) _ _ _;refine wpAny_assign_Name (AI I' hN hiy hy (v:=.ref L) rfl (fun s2 I2 zqz=>?_) T1);obtain⟨a,sb,ha⟩:=zqz;have hCa:C≠a:=by
  rcases ha with rfl |ha
  ·exact n2
  ·exact fun z=>n4 y a ha z.symm
 refine⟨m,hm.sameBut sb hCa,fun h' sb'=>⟨_,H',?_,q⟩⟩;exact I2.turned (t':=s2.toks) (it:=C) (fun b o hb e=>sb'.extBut b o hb e) n1 n2 (.inr n3) n4 n5
end
inductive Dp where
 |dh |bl (b:Bool) |int (i:Int) |str (x:Str) |tup (l:List Dp) |lst (l:List Dp)
mutual
def Rep (K:zaa) (H:Hp):Dp->V->Prop
 |.dh,v=>v=.dh
 |.bl b,v=>v=.bl b
 |.int i,v=>v=.int i
 |.str x,v=>v=.str x
 |.tup l,v=>∃a xs,v=.ref a/\cv K H a xs/\aG K H l xs
 |.lst l,v=>∃a xs,v=.ref a/\fH K H a xs/\aG K H l xs
def aG (K:zaa) (H:Hp):List Dp->List V->Prop
 |[],vs=>vs=[]
 |d::ds,vs=>∃v r,vs=v::r/\Rep K H d v/\aG K H ds r
end
mutual
def Dp.deep:Dp->Nat
 |.tup l=>Dp.Ld l+1
 |.lst l=>Dp.Ld l+1
 |_=>0
def Dp.Ld:List Dp->Nat
 |[]=>0
 |d::ds=>max d.deep (Dp.Ld ds)
end
theorem ar.dQ{K:zaa}{H H':Hp}{a:zdU}{xs:List V}(e:ar H H')(h:cv K H a xs):cv K H' a xs:=by
 rcases h with (h |⟨o,h⟩) |h
 ·exact .inl (.inl (e _ _ h))
 ·exact .inl (.inr ⟨o,e _ _ h⟩)
 ·exact .inr h
mutual
theorem Rep.mono{K:zaa}{H H':Hp}(e:ar H H'):∀ {d:Dp} {v:V},Rep K H d v->Rep K H' d v
 |.dh,_,h=>h
 |.bl _,_,h=>h
 |.int _,_,h=>h
 |.str _,_,h=>h
 |.tup l,_,h=>by
  unfold Rep at h ⊢;obtain⟨a,xs,e1,e2,e3⟩:=h;exact⟨a,xs,e1,e.dQ e2,aG.mono e e3⟩
 |.lst l,_,h=>by
  unfold Rep at h ⊢;obtain⟨a,xs,e1,e2,e3⟩:=h;exact⟨a,xs,e1,e.seq e2,aG.mono e e3⟩
theorem aG.mono{K:zaa}{H H':Hp}(e:ar H H'):∀ {ds:List Dp} {vs:List V},aG K H ds vs->aG K H' ds vs
 |[],_,h=>h
 |d::ds,_,h=>by
  unfold aG at h ⊢;obtain⟨v,r,e1,e2,e3⟩:=h;exact⟨v,r,e1,Rep.mono e e2,aG.mono e e3⟩
end
theorem aG.length{K:zaa}{H:Hp}:∀ {ds:List Dp} {vs:List V},aG K H ds vs->vs.length=ds.length
 |[],_,h=>by unfold aG at h;rw[h];rfl
 |d::ds,_,h=>by
  unfold aG at h;obtain⟨v,r,e1,_,e3⟩:=h;rw[e1,zah,zah,aG.length e3]
theorem aG.get{K:zaa}{H:Hp}:∀ {ds:List Dp} {vs:List V} {i:Nat} {d:Dp},aG K H ds vs->ds[i]?=some d->∃v,vs[i]?=some v/\Rep K H d v
 |[],_,_,_,_,e=>by simp at e
 |d::ds,_,0,_,h,e=>by
  unfold aG at h;obtain⟨v,r,e1,e2,e3⟩:=h;simp only[List.getElem?_cons_zero,zaF.injEq] at e;subst e;exact⟨v,by rw[e1];rfl,e2⟩
 |d::ds,_,i+1,d',h,e=>by
  unfold aG at h;obtain⟨v,r,e1,e2,e3⟩:=h;rw[zda] at e;obtain⟨v',h1,h2⟩:=aG.get e3 e;exact⟨v',by rw[e1,zda];exact h1,h2⟩
theorem aG.append{K:zaa}{H:Hp}:∀ {ds es:List Dp} {vs us:List V},aG K H ds vs->aG K H es us->aG K H (ds++es) (vs++us)
 |[],_,_,_,h,h'=>by unfold aG at h;rw[h];exact h'
 |d::ds,_,_,_,h,h'=>by
  unfold aG at h;obtain⟨v,r,e1,e2,e3⟩:=h;rw[e1];show aG K H (d::(ds++_)) (v::(r++_));unfold aG;exact⟨v,_,rfl,e2,aG.append e3 h'⟩
theorem aG.nil{K:zaa}{H:Hp}:aG K H [] []:=by unfold aG;rfl
theorem aG.cons{K:zaa}{H:Hp}{d:Dp}{ds:List Dp}{v:V}{vs:List V}(h:Rep K H d v)(h':aG K H ds vs):aG K H (d::ds) (v::vs):=by unfold aG;exact⟨v,vs,rfl,h,h'⟩
theorem Rep.aZ{K:zaa}{H:Hp}{l:List Dp}{v:V}:Rep K H (.tup l) v↔∃a xs,v=.ref a/\cv K H a xs/\aG K H l xs:=by unfold Rep;exact Iff.rfl
theorem Rep.iq{K:zaa}{H:Hp}{l:List Dp}{v:V}:Rep K H (.lst l) v↔∃a xs,v=.ref a/\fH K H a xs/\aG K H l xs:=by unfold Rep;exact Iff.rfl
theorem Rep.bO{K:zaa}{H:Hp}{i:Int}{v:V}:Rep K H (.int i) v↔v=.int i:=by unfold Rep;exact Iff.rfl
theorem Rep.aK{K:zaa}{H:Hp}{x:Str}{v:V}:Rep K H (.str x) v↔v=.str x:=by unfold Rep;exact Iff.rfl
theorem Rep.rn{K:zaa}{H:Hp}{b:Bool}{v:V}:Rep K H (.bl b) v↔v=.bl b:=by unfold Rep;exact Iff.rfl
theorem Rep.qk{K:zaa}{H:Hp}{v:V}:Rep K H .dh v↔v=.dh:=by unfold Rep;exact Iff.rfl
theorem aG.aS{K:zaa}{H:Hp}{vs:List V}:aG K H [] vs↔vs=[]:=by unfold aG;exact Iff.rfl
theorem aG.aM{K:zaa}{H:Hp}{d:Dp}{ds:List Dp}{vs:List V}:aG K H (d::ds) vs↔∃v r,vs=v::r/\Rep K H d v/\aG K H ds r:=by conv=>lhs;unfold aG
theorem ar.new{H:Hp}{p:zdU}(h:H p=none)(o:HO):ar H (upd H p o):=fun b u q=>by rw[aq (aB q h)];exact q
section
variable{X:Cx}
def PC (K:zaa) (b:Bool):R2:=fun x y H Q=>∃d,Rep K H d x/\Rep K H d y/\d.deep<=150/\Q (.bl b) H
end
section
variable{X:Cx}
theorem sT:gq X (.builtin "isinstance") (fun xs H Q=>∃x T t b,xs=[x,.ty T]/\uD X.K H x t/\zbc X.K t (.type T)=some b/\Q (.bl b) H):=by
 intro pins s σ H xs us Q I r h;obtain⟨x,T,t,b,rfl,ty,e,q⟩:=h;obtain⟨u1,u2,rfl,r1,r2⟩:=vals2 r;cases (show u2=Value.type T from r2);exact uE I r1 ty e fun tk=>⟨.bl b,H,I.tok tk,rfl,q⟩
end
structure cb(K:zaa)(mg:Str->Option zdV)(x:Str)(st:Stmt)(ps:List Str)(f:zdU)(fd:zd3):Prop where
 F:C5 K x x st f fd
 b:Binds K fd ps []
 m:mg x=some (.ref f)
end L2
namespace L2
open PySem PySem.Spec PyProof.Rows
theorem UI{g:Int->Int->V}{i j:Int}{H:Hp}{Q:VK}:NT g (.int i) (.int j) H Q↔Q (g i j) H:=⟨fun ⟨_,_,e1,e2,q⟩=>by cases e1;cases e2;exact q,fun q=>⟨_,_,rfl,rfl,q⟩⟩
theorem XZ{C:Int->Int->Prop}{g:Int->Int->V}{i j:Int}{H:Hp}{Q:VK}:rI C g (.int i) (.int j) H Q↔C i j/\Q (g i j) H:=⟨fun ⟨_,_,e1,e2,c,q⟩=>by cases e1;cases e2;exact⟨c,q⟩,fun q=>⟨_,_,rfl,rfl,q⟩⟩
theorem Le{a:V}{r:St}{H:Hp}{Q:VK}:(gO 0 (some a::r) H Q)=(Q a H):=rfl
theorem Lf{a:Option V}{r:St}{H:Hp}{Q:VK}:(gO 1 (a::r) H Q)=(gO 0 r H Q):=rfl
theorem Lg{a:Option V}{r:St}{H:Hp}{Q:VK}:(gO 2 (a::r) H Q)=(gO 1 r H Q):=rfl
theorem Lh{a:Option V}{r:St}{H:Hp}{Q:VK}:(gO 3 (a::r) H Q)=(gO 2 r H Q):=rfl
theorem Li{a:Option V}{r:St}{H:Hp}{Q:VK}:(gO 4 (a::r) H Q)=(gO 3 r H Q):=rfl
theorem Lj{a:Option V}{r:St}{H:Hp}{Q:VK}:(gO 5 (a::r) H Q)=(gO 4 r H Q):=rfl
theorem Lk{a:Option V}{r:St}{H:Hp}{Q:VK}:(gO 6 (a::r) H Q)=(gO 5 r H Q):=rfl
theorem Ll{a:Option V}{r:St}{H:Hp}{Q:VK}:(gO 7 (a::r) H Q)=(gO 6 r H Q):=rfl
theorem Lm{a:Option V}{r:St}{H:Hp}{Q:VK}:(gO 8 (a::r) H Q)=(gO 7 r H Q):=rfl
theorem Ln{a:Option V}{r:St}{H:Hp}{Q:VK}:(gO 9 (a::r) H Q)=(gO 8 r H Q):=rfl
theorem UJ{v:V}{σ:St}{H:Hp}{Q:VK}:(tC v σ H Q)=(Q v H):=rfl
theorem PD{r:R2}{ta tb:TE}{σ:St}{H:Hp}{Q:VK}:(Ub r ta tb σ H Q)=(ta σ H fun x H1=>tb σ H1 fun y H2=>r x y H2 Q):=rfl
theorem UK{b:Bool}{p:Bool->Prop}:(∃k,V.bl b=.bl k/\p k)↔p b:=⟨fun ⟨_,e,q⟩=>by cases e;exact q,fun q=>⟨_,rfl,q⟩⟩
theorem Rt{b:Int}{p:Int->Prop}:(∃k,V.int b=.int k/\p k)↔p b:=⟨fun ⟨_,e,q⟩=>by cases e;exact q,fun q=>⟨_,rfl,q⟩⟩
theorem Ru{b:zdU}{p:zdU->Prop}:(∃k,V.ref b=.ref k/\p k)↔p b:=⟨fun ⟨_,e,q⟩=>by cases e;exact q,fun q=>⟨_,rfl,q⟩⟩
theorem Ho{t:TE}{σ:St}{H:Hp}{Q:Bool->Hp->Prop}:(Hd t σ H Q)=(t σ H fun x H'=>∃k,x=.bl k/\Q k H'):=rfl
theorem PF{x y:V}{H:Hp}{Q:VK}:(ZO x y H Q)=(Dr x y=true/\Q (.bl (decide (x=y))) H):=rfl
theorem PH{x y:V}{H:Hp}{Q:VK}:(ZP x y H Q)=(Dr x y=true/\Q (.bl (!decide (x=y))) H):=rfl
theorem Rv{i j:Int}:(V.int i=V.int j)=(i=j):=by simp
theorem Rw{i j:Str}:(V.str i=V.str j)=(i=j):=by simp
theorem N8{c:Prop}[Decidable c]{A B:Prop}:(if decide c=true then A else B)↔if c then A else B:=by simp
theorem Lo{c:Prop}[Decidable c]{A B:Prop}:(if (!decide c)=true then A else B)↔if c then B else A:=by by_cases h:c<;>simp[h]
theorem a9{K:zaa}{p:zdU}{i:Int}{H:Hp}{Q:VK}{xs:List V}{v:V}(h:cv K H p xs)(hv:zU xs i=some v)(q:Q v H):K3 K (.ref p) (.int i) H Q:=⟨p,xs,i,v,rfl,rfl,h,hv,q⟩
theorem bp{K:zaa}{p:zdU}{i:Int}{H:Hp}{Q:VK}{xs:List V}{v:V}(h:fH K H p xs)(hv:zU xs i=some v)(q:Q v H):N1 K (.ref p) (.int i) H Q:=⟨p,xs,i,v,rfl,rfl,h,hv,q⟩
section
variable{P:zd6}{w:zdW}{K:zaa}{mg:Str->Option zdV}{base:Heap}
theorem C5.rq{x qual:Str}{st:Stmt}{f:zdU}{fd:zd3}{N ps:List Str}{k:Nat}{sp:Sp}(F:C5 K x qual st f fd)(S:aR N ps (av st))(len:∀vs H Q E,sp vs H Q E->vs.length=ps.length)
 (xC:∀(dM:zdV) (A:zd5) (outer:List Env) (s:zd4) (H:Hp) (vs:List V) (Q:VK) (E:XK),gP k (A.deeper (envOfC qual (av st) s.heap.objs.size f dM))->sp vs H Q E->
  ∃t σ,Fu (jK gI P w K mg base N qual (av st) f dM A outer s H E).T5 (bI st) t/\L2.start N vs=σ/\t {nx:=fun _ H'=>Q .dh H',rt:=Q} σ H):a8 P w K mg base gI (k+1) f fd ps sp:=
 F.ok S len fun dM A outer s H vs Q E hr h=>let ⟨t,_,h1,h2,h3⟩:=xC dM A outer s H vs Q E hr h;⟨t,h1,by rw[h2];exact h3⟩
end
theorem Hr{α β:Type}{f:α->β}{xs:List α}{i:Int}(d:α)(h0:0<=i)(h1:i<xs.length):zU (xs.map f) i=some (f (xs.getD i.toNat d)):=by
 have e:i=((i.toNat:Nat):Int):=by lia
 have h2:i.toNat<xs.length:=by lia
 conv=>lhs;rw[e]
 refine aQ ?_;rw[zaz,zae,zac h2];rfl
theorem Hs{sp:Sp}{wX:List V}{E:XK}{t:TA}{σ:St}{H:Hp}{Q:VK}:(Pr sp wX E t σ H Q)=(t σ H fun vs H1=>sp (vs++wX) H1 Q E):=rfl
theorem Ht{ta:TE}{tr:TA}{σ:St}{H:Hp}{Q:List V->Hp->Prop}:(Pq ta tr σ H Q)=(ta σ H fun x H1=>tr σ H1 fun xs H2=>Q (x::xs) H2):=rfl
theorem Lp{σ:St}{H:Hp}{Q:List V->Hp->Prop}:(NX σ H Q)=(Q [] H):=rfl
theorem Lq{t:TA}{σ:St}{H:Hp}{Q:VK}:(Ul t σ H Q)=(t σ H fun xs H1=>xs.length<=zd2/\∀p,H1 p=none->Q (.ref p) (upd H1 p (.tup xs))):=rfl
theorem Lr{t:TA}{σ:St}{H:Hp}{Q:VK}:(Um t σ H Q)=(t σ H fun xs H1=>xs.length<=zd2/\∀p,H1 p=none->Q (.ref p) (upd H1 p (.lst xs))):=rfl
theorem BL{n:Nat}(h:n<=1000):n<=zd2:=zc6 (AU h)
theorem Ls{K:zaa}{p:zdU}{i:Int}{H:Hp}{Q:VK}{xs:List V}{v:V}(hv:zU xs i=some v)(q:Q v (upd H p (.lst xs))):N1 K (.ref p) (.int i) (upd H p (.lst xs)) Q:=⟨p,xs,i,v,rfl,rfl,.of aj,hv,q⟩
theorem ar.BM{H H1:Hp}(s:ar H H1){p:zdU}(h:H1 p=none)(o:HO):ar H (upd H1 p o):=s.trans (ar.new h o)
theorem Rep.new{K:zaa}{H:Hp}{p:zdU}{vs:List V}{ds:List Dp}(h:H p=none)(r:aG K H ds vs):Rep K (upd H p (.tup vs)) (.tup ds) (.ref p):=Rep.aZ.mpr ⟨p,vs,rfl,.of aj,r.mono (ar.new h _)⟩
theorem N9{i j:Int}:Dr (.int i) (.int j)=true:=rfl
theorem Oa{i j:Str}:Dr (.str i) (.str j)=true:=rfl
theorem Ob{n:Nat}(h:n<=1000):(n<=zd2)=True:=eq_true (BL h)
theorem Lu{i j:Int}:(Ue i j)=(0<j/\j<1073741824):=rfl
theorem Lv{CX:Fn}{P:zd6}{w:zdW}{K:zaa}{mg:Str->Option zdV}{base:Heap}{N:List Str}{qual:Str}{scope:Scope}{f:zdU}{cd:zdV}{A:zd5}{outer:List Env}{s:zd4}{H:Hp}{E:XK}:(jK CX P w K mg base N qual scope f cd A outer s H E).K=K:=rfl
theorem Hu{X:Cx}{scope:Scope}{own:List Str}{ix:List Nat}{C:zdU}{s₀:zd4}{H₀:Hp}{ex:List zdU}:(kh X scope own ix C s₀ H₀ ex).K=X.K:=rfl
theorem mulR{z b:Int}(h1 : -18446744073709551616<b)(h2:b<18446744073709551616):IM z b:=.inr ⟨h1,h2⟩
theorem mulL{z b:Int}(h1 : -18446744073709551616<z)(h2:z<18446744073709551616):IM z b:=.inl ⟨h1,h2⟩
theorem ki{a b:Expr}{op:Operator}{pos:Pos}:qj (.BinOp a op b pos):=fun _ _=>rfl
theorem BN{x:Str}{pos:Pos}:qj (.Name x pos):=fun _ _=>rfl
theorem aw{c:Const}{k:Nat}{pos:Pos}:qj (.Constant c k pos):=fun _ _=>rfl
theorem xK{a:Expr}{op:UnaryOp}{pos:Pos}:qj (.UnaryOp op a pos):=fun _ _=>rfl
theorem Oc{a:Expr}{x:Str}{pos:Pos}:qj (.Attribute a x pos):=fun _ _=>rfl
theorem cz{a b:Expr}{op:Operator}{pos:Pos}{es:List Expr}{env:Env}:zd0 (.BinOp a op b pos::es) env=(false,eval (.BinOp a op b pos) env)::zd0 es env:=rfl
theorem ah{x:Str}{pos:Pos}{es:List Expr}{env:Env}:zd0 (.Name x pos::es) env=(false,eval (.Name x pos) env)::zd0 es env:=rfl
theorem ay{c:Const}{k:Nat}{pos:Pos}{es:List Expr}{env:Env}:zd0 (.Constant c k pos::es) env=(false,eval (.Constant c k pos) env)::zd0 es env:=rfl
theorem bg{a b:Expr}{pos:Pos}{es:List Expr}{env:Env}:zd0 (.Subscript a b pos::es) env=(false,eval (.Subscript a b pos) env)::zd0 es env:=rfl
theorem cD{f:Expr}{as:List Expr}{ks:List Keyword}{pos:Pos}{es:List Expr}{env:Env}:zd0 (.Call f as ks pos::es) env=(false,eval (.Call f as ks pos) env)::zd0 es env:=rfl
theorem sU{a:Expr}{x:Str}{pos:Pos}{es:List Expr}{env:Env}:zd0 (.Attribute a x pos::es) env=(false,eval (.Attribute a x pos) env)::zd0 es env:=rfl
theorem oK{as:List Expr}{pos:Pos}{es:List Expr}{env:Env}:zd0 (.List as pos::es) env=(false,eval (.List as pos) env)::zd0 es env:=rfl
theorem e8{as:List Expr}{k}{pos:Pos}{es:List Expr}{env:Env}:zd0 (.Tuple as k pos::es) env=(false,eval (.Tuple as k pos) env)::zd0 es env:=rfl
theorem Lw{a:Expr}{ops:List CmpOp}{cs:List Expr}{pos:Pos}{es:List Expr}{env:Env}:zd0 (.Compare a ops cs pos::es) env=(false,eval (.Compare a ops cs pos) env)::zd0 es env:=rfl
theorem Hv{a:Expr}{gs:List Comprehension}{sc:Scope}{pos:Pos}{es:List Expr}{env:Env}:zd0 (.ListComp a gs sc pos::es) env=(false,eval (.ListComp a gs sc pos) env)::zd0 es env:=rfl
theorem kY{as:List Expr}{pos:Pos}{es:List Expr}{env:Env}:zd0 (.JoinedStr as pos::es) env=(false,eval (.JoinedStr as pos) env)::zd0 es env:=rfl
def Lx:Expr->Option V
 |.Constant (.int i) _ _=>some (.int i)
 |.Constant (.str x) _ _=>some (.str x)
 |.Constant (.bool b) _ _=>some (.bl b)
 |.Constant .none _ _=>some .dh
 |_=>none
def Ly (vs:List V):TA:=fun _ H Q=>Q vs H
theorem cY{X:Cx}:∀ {es:List Expr} {vs:List V},es.map Lx=vs.map some->PA X es (Ly vs)
 |[],[],_=>af
 |[],_::_,h=>by cases h
 |_::_,[],h=>by cases h
 |e::es,v::vs,h=>by
  rw[zar,zar] at h
  injection h with h1 h2
  have ih:=cY (X:=X) h2;have one:∀ {e:Expr} {v:V},PE X e (tC v)->(zd0 (e::es) X.env=(false,eval e X.env)::zd0 es X.env)->PA X (e::es) (Ly (v::vs)):=fun he hs pos pins s σ H Q I q=>ae he ih hs pos pins s σ H Q I q;unfold Lx at h1;split at h1
  ·cases h1;exact one ai ay
  ·cases h1;exact one au ay
  ·cases h1;exact one vA ay
  ·cases h1;exact one xo ay
  ·cases h1
theorem Hw{vs:List V}{σ:St}{H:Hp}{Q:List V->Hp->Prop}:(Ly vs σ H Q)=(Q vs H):=rfl
theorem HA{td ty:TE}{σ:St}{H:Hp}{Q:VK}:(UD td ty σ H Q)=(td σ H fun x H1=>ty σ H1 fun y H2=>∃a v,x=.ref a/\FR H2 a y (some v)/\Q v H2):=rfl
theorem DC{σ:St}{H:Hp}{Q:VK}:(Rr σ H Q)=(∀p,H p=none->Q (.ref p) (upd H p (.dK []))):=rfl
theorem HB{td ty tv:TE}{D:Ends}{σ:St}{H:Hp}:(UE td ty tv D σ H)=(tv σ H fun v H1=>td σ H1 fun x H2=>ty σ H2 fun y H3=>∃a H4,x=.ref a/\N6 H3 a y v H4/\D.nx σ H4):=rfl
theorem PJ{r:List V->Hp->VK->Prop}{t:TA}{σ:St}{H:Hp}{Q:VK}:(XD r t σ H Q)=(t σ H fun vs H1=>r vs H1 Q):=rfl
theorem UL{t:TE}{σ:St}{H:Hp}{Q:Bool->Hp->Prop}:(tB t σ H Q)=(t σ H fun x H1=>∃c,x=.bl c/\Q c H1):=rfl
theorem Lz{t:TT}{σ:St}{H:Hp}{Q:Bool->Hp->Prop}:(T3 t σ H Q)=(t σ H fun c H1=>Q (!c) H1):=rfl
theorem FR.s{H:Hp}{a:zdU}{aV:List (Key×V)}{x:Str}{v:V}(e:H a=some (.dK aV))(h:dX aV (Sum.inr x)=some v):FR H a (.str x) (some v):=by
 have:=FR.k (k:=Sum.inr x) e;rw[h] at this;exact this
end L2
namespace PM
abbrev W:=List Nat
inductive Tr where
 |num (n:Int) |box (x:W) |bin (o:W) (l r:Tr)
 deriving DecidableEq
def isLetter (c:Nat):Bool:=decide (97<=c)&&decide (c<=122)
def gy (c:Nat):Bool:=decide (48<=c)&&decide (c<=57)
def kind (c:Nat):Nat:=if isLetter c then 0 else if gy c then 1 else 2
def cK (st:List W×Nat) (c:Nat):List W×Nat:=
 if kind c≠2/\kind c=st.2 then (st.1.dropLast++[st.1.getLastD []++[c]],kind c) else (st.1++[[c]],kind c)
def bR (w:W):List W×Nat:=w.foldl cK ([],3)
def pieces (w:W):List W:=(bR w).1
def fq:List W:=[[98,111,120],[97,115,107],[112,117,116],[115,97,121],[105,102],[101,108,115,101],[119,104,105,108,101],[109,117,115,116],[115,116,111,112],[101,110,100]]
def isName (p:W):Bool:=decide (1<=p.length)&&decide (p.length<=8)&&p.all isLetter && !fq.contains p
def isNumber (p:W):Bool:=decide (1<=p.length)&&decide (p.length<=3)&&p.all gy&&(decide (p=[48]) || !decide (p.head?=some 48))
def kj (p:W):Int:=p.foldl (fun (a:Int) (c:Nat)=>a*10+((c:Int)-48)) 0
abbrev P:=List W->Option (Tr×List W)
def sV (sub:P):P
 |[]=>none
 |p::r=>if isNumber p then some (.num (kj p),r) else if isName p then some (.box p,r) else if p=[40] then
  (match sub r with
  |some (e,q::r')=>if q=[41] then some (e,r') else none
  |_=>none) else none
theorem dN(sub:P)(p:W)(r:List W):sV sub (p::r)=if isNumber p then some (.num (kj p),r) else if isName p then some (.box p,r) else if p=[40] then
 (match sub r with
 |some (e,q::r')=>if q=[41] then some (e,r') else none
 |_=>none) else none:=rfl
def jv (ops:List W) (f:P):Nat->Tr->List W->Option (Tr×List W)
 |0,e,ps=>some (e,ps)
 |_+1,e,[]=>some (e,[])
 |k+1,e,p::r=>if p∈ops then (match f r with
  |none=>none
  |some (e2,r')=>jv ops f k (.bin p e e2) r') else some (e,p::r)
def gz (f:P):P:=fun ps=>match f ps with
 |none=>none
 |some (e,r)=>jv [[42]] f r.length e r
def m3 (f:P):P:=fun ps=>match gz f ps with
 |none=>none
 |some (e,r)=>jv [[43],[45]] (gz f) r.length e r
def factor:Nat->P
 |0=>sV fun _=>none
 |n+1=>sV (m3 (factor n))
def expr (w:W):Option Tr:=if 60<w.length then none else match m3 (factor 5) (pieces w) with
 |some (e,[])=>some e
 |_=>none
def Short (f:P):Prop:=∀ps e r,f ps=some (e,r)->r.length<ps.length
theorem BO{ops:List W}{f:P}(h:Short f):∀k e ps e' r,jv ops f k e ps=some (e',r)->r.length<=ps.length
 |0,e,ps,e',r,q=>by simp only[jv,zaF.injEq,Prod.mk.injEq] at q;rw[q.2];exact zag _
 |k+1,e,[],e',r,q=>by simp only[jv,zaF.injEq,Prod.mk.injEq] at q;rw[<- q.2];exact zag _
 |k+1,e,p::t,e',r,q=>by
  unfold jv at q;split at q
  ·split at q
   ·cases q
   ·rename_i e2 r' hf;have h1:=h _ _ _ hf;have h2:=BO h k _ _ _ _ q;rw[zah];lia
  ·simp only[zaF.injEq,Prod.mk.injEq] at q;rw[<- q.2];exact zag _
theorem gQ{f:P}(h:Short f):Short (gz f):=fun ps e r q=>by
 unfold gz at q;split at q
 ·cases q
 ·rename_i e0 r0 hf;exact zch (BO h _ _ _ _ _ q) (h _ _ _ hf)
theorem I0{f:P}(h:Short f):Short (m3 f):=fun ps e r q=>by
 unfold m3 at q;split at q
 ·cases q
 ·rename_i e0 r0 hf;exact zch (BO (gQ h) _ _ _ _ _ q) (gQ h _ _ _ hf)
theorem vE{sub:P}(h:Short sub):Short (sV sub):=fun ps e r q=>by
 cases ps with
 |nil=>cases q
 |cons p t=>
  rw[dN] at q;split at q
  ·simp only[zaF.injEq,Prod.mk.injEq] at q;rw[<- q.2];exact zcb _
  ·split at q
   ·simp only[zaF.injEq,Prod.mk.injEq] at q;rw[<- q.2];exact zcb _
   ·split at q
    ·split at q
     ·rename_i e1 q1 r1 hs;split at q
      ·simp only[zaF.injEq,Prod.mk.injEq] at q;have:=h _ _ _ hs;rw[<- q.2];rw[zah] at this ⊢;lia
      ·cases q
     ·cases q
    ·cases q
theorem cS:∀n,Short (factor n)
 |0=>vE fun _ _ _ q=>by cases q
 |n+1=>vE (I0 (cS n))
theorem AX{ops:List W}{f:P}(h:Short f):∀k j e ps,ps.length<=k->ps.length<=j->jv ops f k e ps=jv ops f j e ps
 |0,0,_,_,_,_=>rfl
 |0,j+1,e,[],_,_=>rfl
 |k+1,0,e,[],_,_=>rfl
 |k+1,j+1,e,[],_,_=>rfl
 |k+1,j+1,e,p::t,hk,hj=>by
  rw[zah] at hk hj;unfold jv;split
  ·split
   ·rfl
   ·rename_i e2 r' hf;have:=h _ _ _ hf;exact AX h k j _ _ (by lia) (by lia)
  ·rfl
def loop (ops:List W) (f:P) (e:Tr) (ps:List W):Option (Tr×List W):=jv ops f ps.length e ps
theorem oM(ops:List W)(f:P)(e:Tr):loop ops f e []=some (e,[]):=rfl
theorem mv{ops:List W}{f:P}{e:Tr}{p:W}{r:List W}(h:p ∉ ops):loop ops f e (p::r)=some (e,p::r):=by
 unfold loop;rw[zah];unfold jv;rw[if_neg h]
theorem sW{ops:List W}{f:P}(hf:Short f){e:Tr}{p:W}{r:List W}(h:p∈ops):loop ops f e (p::r)=match f r with
 |none=>none
 |some (e2,r')=>loop ops f (.bin p e e2) r':=by
 unfold loop;rw[zah]
 conv=>lhs;unfold jv
 rw[if_pos h];cases h1:f r with
 |none=>rfl
 |some x=>
  obtain⟨e2,r'⟩:=x;have:=hf _ _ _ h1;exact AX hf _ _ _ _ (by lia) (zag _)
theorem sX(f:P)(ps:List W):gz f ps=match f ps with
 |none=>none
 |some (e,r)=>loop [[42]] f e r:=rfl
theorem w5(f:P)(ps:List W):m3 f ps=match gz f ps with
 |none=>none
 |some (e,r)=>loop [[43],[45]] (gz f) e r:=rfl
def LA (p:W):Bool:=isNumber p ||isName p
def rA:List W:=[[43],[45],[42]]
def step (p:W):Nat×Bool->Option (Nat×Bool)
 |(d,true)=>if p=[40] then (if d+1>5 then none else some (d+1,true)) else if LA p then some (d,false) else none
 |(d,false)=>if p=[41] then (if d=0 then none else some (d-1,false)) else if p∈rA then some (d,true) else none
def run:List W->Nat×Bool->Option (Nat×Bool)
 |[],s=>some s
 |p::r,s=>match step p s with
  |none=>none
  |some s'=>run r s'
def good (ps:List W):Prop:=run ps (0,true)=some (0,false)
instance (ps:List W):Decidable (good ps):=inferInstanceAs (Decidable (_=_))
theorem oN(p:W)(d:Nat):step p (d,true)=if p=[40] then (if d+1>5 then none else some (d+1,true)) else if LA p then some (d,false) else none:=rfl
theorem rB(p:W)(d:Nat):step p (d,false)=if p=[41] then (if d=0 then none else some (d-1,false)) else if p∈rA then some (d,true) else none:=rfl
theorem oO(p:W)(r:List W)(s:Nat×Bool):run (p::r) s=match step p s with
 |none=>none
 |some s'=>run r s':=rfl
theorem eS{p:W}{r:List W}{s s':Nat×Bool}(h:step p s=some s'):run (p::r) s=run r s':=by rw[oO,h]
theorem jg{p:W}{r:List W}{s:Nat×Bool}(h:step p s=none):run (p::r) s=none:=by rw[oO,h]
structure Walk(d:Nat)(f:P)(nx:List W->Prop):Prop where
 yes:∀ps e r,f ps=some (e,r)->run ps (d,true)=run r (d,false)/\nx r
 no:∀ps,f ps=none->run ps (d,true)≠some (0,false)
theorem ql{d:Nat}{ops:List W}{f:P}{nx:List W->Prop}(hf:Short f)(hw:Walk d f nx)(X0:∀p∈ops,p∈rA) :
 ∀(n:Nat) (ps:List W),ps.length<=n->nx ps->∀e,(∀e' r,loop ops f e ps=some (e',r)->run ps (d,false)=run r (d,false)/\nx r/\(r=[]\/∃q t,r=q::t/\q ∉ ops))/\(loop ops f e ps=none->run ps (d,false)≠some (0,false)):=by
 intro n
 induction n with
 |zero=>
  intro ps hl hn e;have:ps=[]:=zcI (by lia);subst this;rw[oM];exact⟨fun e' r h=>by cases h;exact⟨rfl,hn,.inl rfl⟩,fun h=>by cases h⟩
 |succ n ih=>
  intro ps hl hn e;cases ps with
  |nil=>rw[oM];exact⟨fun e' r h=>by cases h;exact⟨rfl,hn,.inl rfl⟩,fun h=>by cases h⟩
  |cons p t=>
   by_cases hp:p∈ops
   ·have st:step p (d,false)=some (d,true):=by
     have h1:=X0 p hp;have h2:p≠[41]:=by rintro rfl;revert h1;decide
     first |rw[oN] |rw[rB]
     rw[if_neg h2,if_pos h1]
    rw[sW hf hp,eS st];cases h1:f t with
    |none=>exact⟨fun e' r h=>(by cases h),fun _=>hw.no t h1⟩
    |some x=>
     obtain⟨e2,r'⟩:=x;obtain⟨w1,w2⟩:=hw.yes t e2 r' h1;have hs:=hf _ _ _ h1;rw[zah] at hl;rw[w1];exact ih r' (by lia) w2 _
   ·rw[mv hp];exact⟨fun e' r h=>by cases h;exact⟨rfl,hn,.inr ⟨p,t,rfl,hp⟩⟩,fun h=>by cases h⟩
def zY (_:List W):Prop:=True
def X1 (r:List W):Prop:=r=[]\/∃q t,r=q::t/\q≠[42]
def nxS (r:List W):Prop:=r=[]\/∃q t,r=q::t/\q ∉ rA
theorem AY{d:Nat}{f:P}(hf:Short f)(hw:Walk d f zY):Walk d (gz f) X1 where
 yes:=fun ps e r h=>by
  rw[sX] at h;split at h
  ·cases h
  ·rename_i e0 r0 h0;obtain⟨w1,_⟩:=hw.yes _ _ _ h0;obtain⟨a,b,c⟩:=(ql hf hw (ops:=[[42]]) (by decide) _ r0 (zag _) trivial e0).1 e r h;refine⟨w1.trans a,?_⟩;rcases c with c |⟨q,t,c,n⟩
   ·exact .inl c
   ·exact .inr ⟨q,t,c,fun z=>n (by rw[z];exact zad.mpr rfl)⟩
 no:=fun ps h=>by
  rw[sX] at h;split at h
  ·rename_i h0;exact hw.no _ h0
  ·rename_i e0 r0 h0;obtain⟨w1,_⟩:=hw.yes _ _ _ h0;rw[w1];exact(ql hf hw (ops:=[[42]]) (by decide) _ r0 (zag _) trivial e0).2 h
theorem DE{d:Nat}{f:P}(hf:Short f)(hw:Walk d f zY):Walk d (m3 f) nxS where
 yes:=fun ps e r h=>by
  have wp:=AY hf hw;rw[w5] at h;split at h
  ·cases h
  ·rename_i e0 r0 h0;obtain⟨w1,w2⟩:=wp.yes _ _ _ h0;obtain⟨a,b,c⟩:=(ql (gQ hf) wp (ops:=[[43],[45]]) (by decide) _ r0 (zag _) w2 e0).1 e r h;refine⟨w1.trans a,?_⟩;rcases c with c |⟨q,t,c,n⟩
   ·exact .inl c
   ·rcases b with b |⟨q',t',b,n'⟩
    ·exact .inl b
    ·rw[c] at b;cases b;refine .inr ⟨q,t,c,fun z=>?_⟩;simp only[rA,zak,zba,or_false] at z n;rcases z with z |z |z
     ·exact n (.inl z)
     ·exact n (.inr z)
     ·exact n' z
 no:=fun ps h=>by
  have wp:=AY hf hw;rw[w5] at h;split at h
  ·rename_i h0;exact wp.no _ h0
  ·rename_i e0 r0 h0;obtain⟨w1,w2⟩:=wp.yes _ _ _ h0;rw[w1];exact(ql (gQ hf) wp (ops:=[[43],[45]]) (by decide) _ r0 (zag _) w2 e0).2 h
theorem Rx{p:W}(h:LA p=true):p≠[40]:=by rintro rfl;revert h;decide
theorem qm{d:Nat}{sub:P}{p:W}{r:List W}(h:LA p=true):run (p::r) (d,true)=run r (d,false):=by
 refine eS ?_
 first |rw[oN] |rw[rB]
 rw[if_neg (Rx h),if_pos h]
theorem vF:∀(n d:Nat),d+n=5->Walk d (factor n) zY
 |0,d,hd=>by
  have e5:d=5:=by lia
  subst e5;refine⟨fun ps e r h=>⟨?_,trivial⟩,fun ps h=>?_⟩
  ·cases ps with
   |nil=>cases h
   |cons p t=>
    unfold factor at h;rw[dN] at h;split at h
    ·rename_i c;cases h;exact qm (sub:=factor 0) (by simp[LA,c])
    ·split at h
     ·rename_i c;cases h;exact qm (sub:=factor 0) (by simp[LA,c])
     ·split at h<;>cases h
  ·cases ps with
   |nil=>unfold run;simp
   |cons p t=>
    unfold factor at h;rw[dN] at h;split at h
    ·cases h
    ·rename_i c1;split at h
     ·cases h
     ·rename_i c2;have st:step p (5,true)=none:=by
       first |rw[oN] |rw[rB]
       by_cases hp:p=[40]
       ·rw[if_pos hp];rfl
       ·rw[if_neg hp,if_neg (by simp[LA,c1,c2])]
      rw[jg st];simp
 |n+1,d,hd=>by
  have ih:=DE (cS n) (vF n (d+1) (by lia));refine⟨fun ps e r h=>⟨?_,trivial⟩,fun ps h=>?_⟩
  ·cases ps with
   |nil=>cases h
   |cons p t=>
    unfold factor at h;rw[dN] at h;split at h
    ·rename_i c;cases h;exact qm (sub:=factor 0) (by simp[LA,c])
    ·split at h
     ·rename_i c;cases h;exact qm (sub:=factor 0) (by simp[LA,c])
     ·split at h
      ·rename_i hp;subst hp;split at h
       ·rename_i e1 q r1 hs;split at h
        ·rename_i hq;cases h;subst hq;obtain⟨a,_⟩:=ih.yes _ _ _ hs;have st:step [40] (d,true)=some (d+1,true):=by rw[oN,if_pos rfl,if_neg (by lia)]
         have Pn:step [41] (d+1,false)=some (d,false):=by rw[rB,if_pos rfl,if_neg (by lia)];rfl
         rw[eS st,a,eS Pn]
        ·cases h
       ·cases h
      ·cases h
  ·cases ps with
   |nil=>unfold run;simp
   |cons p t=>
    unfold factor at h;rw[dN] at h;split at h
    ·cases h
    ·rename_i c1;split at h
     ·cases h
     ·rename_i c2;split at h
      ·rename_i hp;subst hp;have st:step [40] (d,true)=some (d+1,true):=by rw[oN,if_pos rfl,if_neg (by lia)]
       rw[eS st];cases hs:m3 (factor n) t with
       |none=>exact ih.no _ hs
       |some x=>
        obtain⟨e1,r1⟩:=x;obtain⟨a,b⟩:=ih.yes _ _ _ hs;rw[a];cases r1 with
        |nil=>unfold run;simp
        |cons q r2=>
         rw[hs] at h;have hq:q≠[41]:=by
          intro hq;simp only[hq,if_true] at h;cases h
         have ho:q ∉ rA:=by
          rcases b with b |⟨q',t',b,n'⟩
          ·cases b
          ·cases b;exact n'
         have Pn:step q (d+1,false)=none:=by rw[rB,if_neg hq,if_neg ho]
         rw[jg Pn];simp
      ·rename_i hp;have st:step p (d,true)=none:=by rw[oN,if_neg hp,if_neg (by simp[LA,c1,c2])]
       rw[jg st];simp
theorem LB(w:W):(expr w).isSome=true↔w.length<=60/\good (pieces w):=by
 have ws:=DE (cS 5) (vF 5 0 rfl);unfold expr;by_cases hl:60<w.length
 ·rw[if_pos hl];simp;intro h;lia
 ·rw[if_neg hl];cases h:m3 (factor 5) (pieces w) with
  |none=>
   have:=ws.no _ h;simp[good,this]
  |some x=>
   obtain⟨e,r⟩:=x;obtain⟨a,b⟩:=ws.yes _ _ _ h;cases r with
   |nil=>
    unfold good;rw[a];simp[run];lia
   |cons q t=>
    unfold good;rw[a];have st:step q (0,false)=none:=by
     first |rw[oN] |rw[rB]
     rcases b with b |⟨q',t',b,n⟩
     ·cases b
     ·cases b;by_cases hq:q=[41]
      ·rw[if_pos hq];rfl
      ·rw[if_neg hq,if_neg n]
    rw[jg st];simp
theorem w6(w:W)(c:Nat):bR (w++[c])=cK (bR w) c:=by unfold bR;rw[zbK];rfl
theorem kind_le(c:Nat):kind c<=2:=by
 unfold kind;split
 ·lia
 ·split<;>lia
theorem xM{p:W->Prop}(h0:p [])(h1:∀w c,p w->p (w++[c])):∀w,p w:=fun w=>by
 have:∀r:W,p r.reverse:=fun r=>by
  induction r with
  |nil=>exact h0
  |cons c r ih=>rw[zb7];exact h1 _ c ih
 have h:=this w.reverse;rw[zdv] at h;exact h
theorem wj{α:Type}(ps qs:List α)(h:qs≠[])(d:α):(ps++qs).getLastD d=qs.getLastD d:=by
 rw[zbT,zbT,zdw];cases e:qs.getLast? with
 |none=>rw[zbl] at e;exact absurd e h
 |some x=>rfl
theorem xN(ps:List W):∀(w:W) (qs:List W) (b:Nat),(2<=b\/qs≠[])->w.foldl cK (ps++qs,b)=(ps++(w.foldl cK (qs,b)).1,(w.foldl cK (qs,b)).2)
 |[],_,_,_=>rfl
 |c::w,qs,b,h=>by
  rw[zaT,zaT];by_cases hc:kind c≠2/\kind c=b
  ·have k2:kind c<2:=by
    have:=kind_le c;lia
   have hq:qs≠[]:=h.resolve_left (by lia);have e1:cK (ps++qs,b) c=(ps++(qs.dropLast++[qs.getLastD []++[c]]),kind c):=by
    unfold cK;rw[if_pos hc];simp only[wj ps qs hq,List.dropLast_append_of_ne_nil hq,zaW]
   have e2:cK (qs,b) c=(qs.dropLast++[qs.getLastD []++[c]],kind c):=by unfold cK;rw[if_pos hc]
   rw[e1,e2];exact xN ps w _ _ (.inr (by simp))
  ·have e1:cK (ps++qs,b) c=(ps++(qs++[[c]]),kind c):=by unfold cK;rw[if_neg hc];simp only[zaW]
   have e2:cK (qs,b) c=(qs++[[c]],kind c):=by unfold cK;rw[if_neg hc]
   rw[e1,e2];exact xN ps w _ _ (.inr (by simp))
theorem Ry:∀(w:W),(w.foldl cK ([],2)).1=pieces w
 |[]=>rfl
 |c::w=>by
  unfold pieces bR;rw[zaT,zaT];have e:∀b,2<=b->cK ([],b) c=([[c]],kind c):=fun b hb=>by
   unfold cK;rw[if_neg]
   ·rfl
   ·rintro ⟨h1,h2⟩
    have:=kind_le c;have h2:kind c=b:=h2;lia
  rw[e 2 (by lia),e 3 (by lia)]
theorem kZ(u v:W){c:Nat}(h:kind c=2):pieces (u++c::v)=pieces u++[c]::pieces v:=by
 have e:bR (u++c::v)=v.foldl cK (pieces u++[[c]],2):=by
  unfold bR;rw[zbK,zaT]
  congr 1
  unfold cK;rw[if_neg (by rw[h];simp),h];rfl
 have e2:=xN (pieces u++[[c]]) v [] 2 (.inl (by lia));rw[zaC] at e2;unfold pieces;rw[e,e2];show (pieces u++[[c]])++(v.foldl cK ([],2)).1=_;rw[Ry];simp[pieces]
theorem FT:pieces []=[]:=rfl
theorem FU{k:Nat}(hk:k<2):∀(w:W),w≠[]->(∀c∈w,kind c=k)->bR w=([w],k):=by
 refine xM (fun h=>absurd rfl h) fun w c ih=>?_
 ·intro _ h;have hc:kind c=k:=h c (by simp);rw[w6];by_cases hw:w=[]
  ·subst hw;show cK ([],3) c=_;unfold cK;rw[if_neg (by rw[hc];simp;lia),hc];rfl
  ·rw[ih hw fun c hc=>h c (by simp[hc])];unfold cK;rw[if_pos ⟨by rw[hc];lia,hc⟩,hc];rfl
theorem DF{c:Nat}(h:isLetter c=true):kind c=0:=by unfold kind;rw[if_pos h]
theorem DG{c:Nat}(h:gy c=true):kind c=1:=by
 unfold kind;rw[if_neg,if_pos h];intro hl;simp only[isLetter,gy,zaD,decide_eq_true_eq] at hl h;lia
structure UM(st:List W×Nat)(w:W):Prop where
 flat:st.1.flatten=w
 HC:∀p∈st.1,p≠[]
 last:st.2<2->st.1≠[]
 sort:∀p∈st.1,(∀c∈p,kind c=0)\/(∀c∈p,kind c=1)\/∃c,p=[c]/\kind c=2
 mark:st.1≠[]->∃p,st.1.getLast?=some p/\(st.2<2->∀c∈p,kind c=st.2)
theorem xO{α:Type}{l:List α}{p:α}(h:l.getLast?=some p):l=l.dropLast++[p]:=by
 have Fp:l≠[]:=by rintro rfl;cases h
 rw[List.getLast?_eq_some_getLast Fp] at h;have e:=(List.dropLast_concat_getLast Fp).symm;cases h;exact e
theorem Od:∀(w:W),UM (bR w) w:=by
 refine xM (p:=fun w=>UM (bR w) w) ?_ fun w c ih=>?_
 ·exact⟨rfl,fun _ h=>absurd h (by simp[bR]),fun h=>absurd h (by simp[bR]),fun _ h=>absurd h (by simp[bR]),fun h=>absurd rfl h⟩
 ·rw[w6];unfold cK;split
  ·rename_i hc;obtain⟨h2,hb⟩:=hc;have k2:kind c<2:=by have:=kind_le c;lia
   have Fp:=ih.last (by rw[<- hb];exact k2);obtain⟨p,hp,hm⟩:=ih.mark Fp;have es:=xO hp;have eD:(bR w).1.getLastD []=p:=by rw[zbT,hp];rfl
   have Z2:=hm (by rw[<- hb];exact k2);rw[eD];refine⟨?_,fun q hq=>?_,fun _=>by simp,fun q hq=>?_,fun _=>⟨p++[c],by simp,fun _ x hx=>?_⟩⟩
   ·have f:=ih.flat;rw[es] at f;simp only[zdC,zaV,zcq,zaC] at f ⊢;rw[<- zaW,f]
   ·rcases zaj.mp hq with hq |hq
    ·exact ih.HC q (zbn _ hq)
    ·rw[zad.mp hq];simp
   ·rcases zaj.mp hq with hq |hq
    ·exact ih.sort q (zbn _ hq)
    ·rw[zad.mp hq];have all:∀x∈p++[c],kind x=kind c:=fun x hx=>by
      rcases zaj.mp hx with hx |hx
      ·rw[Z2 x hx,hb]
      ·rw[zad.mp hx]
     have:kind c=0\/kind c=1:=by lia
     rcases this with z |z
     ·exact .inl fun x hx=>by rw[all x hx,z]
     ·exact .inr (.inl fun x hx=>by rw[all x hx,z])
   ·rcases zaj.mp hx with hx |hx
    ·rw[Z2 x hx,hb]
    ·rw[zad.mp hx]
  ·refine⟨?_,fun q hq=>?_,fun _=>by simp,fun q hq=>?_,fun _=>⟨[c],by simp,fun _ x hx=>by rw[zad.mp hx]⟩⟩
   ·simp only[zdC,zaV,zcq,zaC];rw[ih.flat]
   ·rcases zaj.mp hq with hq |hq
    ·exact ih.HC q hq
    ·rw[zad.mp hq];simp
   ·rcases zaj.mp hq with hq |hq
    ·exact ih.sort q hq
    ·rw[zad.mp hq];have:kind c=0\/kind c=1\/kind c=2:=by have:=kind_le c;lia
     rcases this with z |z |z
     ·exact .inl fun x hx=>by rw[zad.mp hx,z]
     ·exact .inr (.inl fun x hx=>by rw[zad.mp hx,z])
     ·exact .inr (.inr ⟨c,rfl,z⟩)
theorem vG:∀ {l:List W},(∀p∈l,p≠[])->l.length<=l.flatten.length
 |[],_=>by simp
 |p::r,h=>by
  have h1:p≠[]:=h p (by simp);have h2:=vG (l:=r) fun q hq=>h q (by simp[hq]);have:0<p.length:=zcM.mpr h1;simp only[zah,zaV,zaf];lia
theorem rC(w:W):(pieces w).length<=w.length:=by
 have:=Od w;have h:=vG this.HC;rw[this.flat] at h;exact h
theorem AZ{w p:W}(h:p∈pieces w):p.length<=w.length:=by
 have f:=(Od w).flat;rw[<- f];have all:∀ {l:List W},p∈l->p.length<=l.flatten.length:=fun {l} hl=>by
  induction l with
  |nil=>cases hl
  |cons a r ih=>
   rw[zaV,zaf];rcases zak.mp hl with rfl |hl
   ·lia
   ·have:=ih hl;lia
 exact all h
def RF (n:Nat) (t:Tr) (L:List W):Prop:=∀rest,factor n (L++rest)=some (t,rest)
def RP (n:Nat) (t:Tr) (L:List W):Prop:=∀rest,gz (factor n) (L++rest)=loop [[42]] (factor n) t rest
def RS (n:Nat) (t:Tr) (L:List W):Prop:=∀rest,X1 rest->m3 (factor n) (L++rest)=loop [[43],[45]] (gz (factor n)) t rest
theorem HD{n:Nat}{t:Tr}{rest:List W}(h:X1 rest):loop [[42]] (factor n) t rest=some (t,rest):=by
 rcases h with rfl |⟨q,r,rfl,hq⟩
 ·rfl
 ·exact mv (by simpa using hq)
theorem RF.p{n:Nat}{t:Tr}{L:List W}(h:RF n t L):RP n t L:=fun rest=>by rw[sX,h rest]
theorem RP.s{n:Nat}{t:Tr}{L:List W}(h:RP n t L):RS n t L:=fun rest hn=>by rw[w5,h rest,HD hn]
theorem vH(n:Nat)(p:W)(r:List W)(h:isNumber p=true\/isName p=true):factor n (p::r)=if isNumber p then some (.num (kj p),r) else some (.box p,r):=by
 have key:∀sub:P,sV sub (p::r)=if isNumber p then some (.num (kj p),r) else some (.box p,r):=fun sub=>by
  rw[dN];by_cases h1:isNumber p=true
  ·rw[if_pos h1,if_pos h1]
  ·rw[if_neg h1,if_neg h1,if_pos (h.resolve_left h1)]
 cases n with
 |zero=>exact key _
 |succ n=>exact key _
theorem RF.num{n:Nat}{p:W}(h:isNumber p=true):RF n (.num (kj p)) [p]:=fun rest=>by
 show factor n (p::rest)=_;rw[vH n p rest (.inl h),if_pos h]
theorem RF.box{n:Nat}{p:W}(h:isName p=true)(h':isNumber p=false):RF n (.box p) [p]:=fun rest=>by
 show factor n (p::rest)=_;rw[vH n p rest (.inr h),if_neg (by rw[h'];simp)]
theorem RP.mul{n:Nat}{l r:Tr}{a b:List W}(hl:RP n l a)(hr:RF n r b):RP n (.bin [42] l r) (a++[42]::b):=fun rest=>by
 have e:a++[42]::b++rest=a++([42]::(b++rest)):=by simp
 rw[e,hl,sW (cS n) (by simp),hr rest]
theorem RS.add{n:Nat}{o:W}{l r:Tr}{a b:List W}(ho:o∈([[43],[45]]:List W))(hl:RS n l a)(hr:RP n r b):RS n (.bin o l r) (a++o::b):=fun rest hn=>by
 have e:a++o::b++rest=a++(o::(b++rest)):=by simp
 have no:o≠[42]:=by rintro rfl;revert ho;decide
 rw[e,hl _ (.inr ⟨_,_,rfl,no⟩),sW (gQ (cS n)) ho,hr rest,HD hn]
theorem RF.br{n:Nat}{t:Tr}{L:List W}(h:RS n t L):RF (n+1) t ([40]::L++[[41]]):=fun rest=>by
 have e:[40]::L++[[41]]++rest=[40]::(L++([41]::rest)):=by simp
 have c1:isNumber [40]=false:=by decide
 have c2:isName [40]=false:=by decide
 rw[e];show sV (m3 (factor n)) _=_;rw[dN,if_neg (by rw[c1];simp),if_neg (by rw[c2];simp),if_pos rfl,h _ (.inr ⟨_,_,rfl,by decide⟩),mv (by decide)];simp
def qH:Tr->Bool
 |.bin o _ _=>decide (o=[43]) ||decide (o=[45])
 |_=>false
def isMul:Tr->Bool
 |.bin o _ _=>decide (o=[42])
 |_=>false
def wm (o:W) (l:Tr) (m:Int):Bool:=(decide (o=[42])&&qH l) ||decide (m%5=1)
def vI (o:W) (r:Tr) (m:Int):Bool:=(qH r ||(decide (o=[42])&&isMul r)) ||decide (m%7=1)
def dig (n:Nat):W:=(zcz 10 n).map Char.toNat
def put (b:Bool) (w:W):W:=if b then [40]++w++[41] else w
def bM:Tr->Int->W
 |.num n,_=>dig n.toNat
 |.box x,_=>x
 |.bin o l r,m=>put (wm o l m) (bM l (m/2))++o++put (vI o r m) (bM r (m/3))
def wo (b:Bool) (w:List W):List W:=if b then [40]::w++[[41]] else w
def toks:Tr->Int->List W
 |.num n,_=>[dig n.toNat]
 |.box x,_=>[x]
 |.bin o l r,m=>wo (wm o l m) (toks l (m/2))++o::wo (vI o r m) (toks r (m/3))
def Kf (b:Bool):Nat:=if b then 1 else 0
def dep:Tr->Int->Nat
 |.bin o l r,m=>max (Kf (wm o l m)+dep l (m/2)) (Kf (vI o r m)+dep r (m/3))
 |_,_=>0
def BP:Tr->Prop
 |.num n=>0<=n/\n<=999
 |.box x=>isName x=true
 |.bin o l r=>(o=[43]\/o=[45]\/o=[42])/\BP l/\BP r
theorem oP:∀n:Nat,n<1000->isNumber (dig n)=true/\kj (dig n)=n:=by
 have:∀n:Fin 1000,isNumber (dig n.1)=true/\kj (dig n.1)=n.1:=by decide +kernel
 exact fun n h=>this ⟨n,h⟩
theorem wq{p:W}(h:isName p=true):isNumber p=false:=by
 cases e:isNumber p with
 |false=>rfl
 |true=>
  simp only[isName,isNumber,zaD,decide_eq_true_eq] at h e;obtain⟨⟨⟨h1,_⟩,h3⟩,_⟩:=h;obtain⟨⟨⟨_,_⟩,e3⟩,_⟩:=e;cases p with
  |nil=>simp at h1
  |cons c r=>
   have a:=za1.mp h3 c (by simp);have b:=za1.mp e3 c (by simp);simp only[isLetter,gy,zaD,decide_eq_true_eq] at a b;lia
theorem mw:∀(t:Tr) (m:Int) (n:Nat),BP t->dep t m<=n->RS n t (toks t m)/\(qH t=false->RP n t (toks t m))/\(qH t=false->isMul t=false->RF n t (toks t m))
 |.num k,m,n,ok,_=>by
  obtain⟨h0,h1⟩:=ok;obtain⟨d1,d2⟩:=oP k.toNat (by lia);have e:kj (dig k.toNat)=k:=by rw[d2];lia
  have:=RF.num (n:=n) d1;rw[e] at this;exact⟨this.p.s,fun _=>this.p,fun _ _=>this⟩
 |.box x,m,n,ok,_=>by
  have:=RF.box (n:=n) ok (wq ok);exact⟨this.p.s,fun _=>this.p,fun _ _=>this⟩
 |.bin o l r,m,n,ok,hd=>by
  obtain⟨ho,LC,LD⟩:=ok;have TU:Kf (wm o l m)+dep l (m/2)<=n/\Kf (vI o r m)+dep r (m/3)<=n:=by unfold dep at hd;lia
  obtain⟨d1,d2⟩:=TU;have fl:wm o l m=true->RF n l (wo (wm o l m) (toks l (m/2))):=fun hb=>by
   rw[hb] at d1 ⊢;obtain⟨k,rfl⟩:∃k,n=k+1:=⟨n-1,by simp only[Kf,if_true] at d1;lia⟩
   have:=mw l (m/2) k LC (by simp only[Kf,if_true] at d1;lia);exact RF.br this.1
  have fr:vI o r m=true->RF n r (wo (vI o r m) (toks r (m/3))):=fun hb=>by
   rw[hb] at d2 ⊢;obtain⟨k,rfl⟩:∃k,n=k+1:=⟨n-1,by simp only[Kf,if_true] at d2;lia⟩
   have:=mw r (m/3) k LD (by simp only[Kf,if_true] at d2;lia);exact RF.br this.1
  have il:=mw l (m/2) n LC (by lia);have ir:=mw r (m/3) n LD (by lia);have ul:wm o l m=false->wo (wm o l m) (toks l (m/2))=toks l (m/2):=fun hb=>by rw[hb];rfl
  have ur:vI o r m=false->wo (vI o r m) (toks r (m/3))=toks r (m/3):=fun hb=>by rw[hb];rfl
  have sl:RS n l (wo (wm o l m) (toks l (m/2))):=by
   cases hb:wm o l m with
   |true=>rw[<- hb];exact(fl hb).p.s
   |false=>exact il.1
  have pr:RP n r (wo (vI o r m) (toks r (m/3))):=by
   cases hb:vI o r m with
   |true=>rw[<- hb];exact(fr hb).p
   |false=>
    refine ir.2.1 ?_;simp only[vI,Bool.or_eq_false_iff] at hb;exact hb.1.1
  by_cases hm:o=[42]
  ·subst hm;have pl:RP n l (wo (wm [42] l m) (toks l (m/2))):=by
    cases hb:wm [42] l m with
    |true=>rw[<- hb];exact(fl hb).p
    |false=>
     refine il.2.1 ?_;simpa[wm] using (by simpa[wm] using hb:qH l=false/\_).1
   have ff:RF n r (wo (vI [42] r m) (toks r (m/3))):=by
    cases hb:vI [42] r m with
    |true=>rw[<- hb];exact fr hb
    |false=>
     have:(qH r=false/\isMul r=false)/\¬m%7=1:=by simpa[vI] using hb
     exact ir.2.2 this.1.1 this.1.2
   have:=RP.mul pl ff;refine⟨this.s,fun _=>this,fun _ h=>?_⟩;simp[isMul] at h
  ·have IW:o∈([[43],[45]]:List W):=by
    rcases ho with rfl |rfl |rfl
    ·simp
    ·simp
    ·exact absurd rfl hm
   have hs:qH (.bin o l r)=true:=by
    rcases ho with rfl |rfl |rfl
    ·rfl
    ·rfl
    ·exact absurd rfl hm
   exact⟨RS.add IW sl pr,fun h=>by (rw[hs] at h;cases h),fun h=>by (rw[hs] at h;cases h)⟩
theorem rD(b:Bool){w:W}{L:List W}(h:pieces w=L):pieces (put b w)=wo b L:=by
 cases b with
 |false=>exact h
 |true=>
  show pieces ([40]++w++[41])=[40]::L++[[41]];have e:[40]++w++[41]=[]++40::(w++41::[]):=by simp
  rw[e,kZ _ _ (by decide),kZ _ _ (by decide),h,FT];simp
theorem vJ{k:Nat}(hk:k<2){w:W}(hw:w≠[])(h:∀c∈w,kind c=k):pieces w=[w]:=by
 unfold pieces;rw[FU hk w hw h]
theorem k6{p:W}(h:isNumber p=true):p≠[]/\∀c∈p,kind c=1:=by
 simp only[isNumber,zaD,decide_eq_true_eq] at h;obtain⟨⟨⟨h1,_⟩,h3⟩,_⟩:=h;exact⟨by rintro rfl;simp at h1,fun c hc=>DG (za1.mp h3 c hc)⟩
theorem name_kind{p:W}(h:isName p=true):p≠[]/\∀c∈p,kind c=0:=by
 simp only[isName,zaD,decide_eq_true_eq] at h;obtain⟨⟨⟨h1,_⟩,h3⟩,_⟩:=h;exact⟨by rintro rfl;simp at h1,fun c hc=>DF (za1.mp h3 c hc)⟩
theorem lR:∀(t:Tr) (m:Int),BP t->pieces (bM t m)=toks t m
 |.num k,m,ok=>by
  obtain⟨h0,h1⟩:=ok;obtain⟨n1,n2⟩:=k6 (oP k.toNat (by lia)).1;exact vJ (by lia) n1 n2
 |.box x,m,ok=>by
  obtain⟨n1,n2⟩:=name_kind ok;exact vJ (by lia) n1 n2
 |.bin o l r,m,ok=>by
  obtain⟨ho,LC,LD⟩:=ok;obtain⟨c,rfl,hc⟩:∃c,o=[c]/\kind c=2:=by
   rcases ho with rfl |rfl |rfl
   ·exact⟨43,rfl,by decide⟩
   ·exact⟨45,rfl,by decide⟩
   ·exact⟨42,rfl,by decide⟩
  have e:bM (.bin [c] l r) m=put (wm [c] l m) (bM l (m/2))++c::put (vI [c] r m) (bM r (m/3)):=by
   show put _ _++[c]++put _ _=_;simp
  rw[e,kZ _ _ hc,rD _ (lR l _ LC),rD _ (lR r _ LD)];rfl
def eH (st:Nat×Nat) (c:Nat):Nat×Nat:=
 let d:=if c=40 then st.1+1 else if c=41 then st.1-1 else st.1
 (d,max st.2 d)
def k9 (w:W):Nat:=(w.foldl eH (0,0)).2
def Rz (w:W):Prop:=∀c∈w,c≠40/\c≠41
theorem qo:∀(w:W) (d x:Nat),Rz w->d<=x->w.foldl eH (d,x)=(d,x)
 |[],_,_,_,_=>rfl
 |c::w,d,x,h,hx=>by
  obtain⟨h1,h2⟩:=h c (by simp);rw[zaT];have e:eH (d,x) c=(d,x):=by simp only[eH,h1,h2,if_false];rw[zdh hx]
  rw[e];exact qo w d x (fun c hc=>h c (by simp[hc])) hx
theorem xP(b:Bool){w:W}{k:Nat}(h:∀d x,d<=x->w.foldl eH (d,x)=(d,max x (d+k)))(d x:Nat)(hx:d<=x):(put b w).foldl eH (d,x)=(d,max x (d+(Kf b+k))):=by
 cases b with
 |false=>
  have:Kf false=0:=rfl;rw[this,zdM];exact h d x hx
 |true=>
  have:Kf true=1:=rfl;show ([40]++w++[41]).foldl eH (d,x)=_;rw[zbK,zbK];have e1:[40].foldl eH (d,x)=(d+1,max x (d+1)):=rfl;rw[e1,h _ _ (by lia)];have e2:∀y,[41].foldl eH (d+1,y)=(d,max y d):=fun y=>by simp[eH]
  rw[e2,this];simp only[Prod.mk.injEq,true_and];lia
theorem A6{k:Nat}(hk:k<2){w:W}(h:∀c∈w,kind c=k):Rz w:=fun c hc=>by
 have:=h c hc
 constructor
 ·rintro rfl
  have e:kind 40=2:=by decide
  lia
 ·rintro rfl
  have e:kind 41=2:=by decide
  lia
theorem lh:∀(t:Tr) (m:Int),BP t->∀d x,d<=x->(bM t m).foldl eH (d,x)=(d,max x (d+dep t m))
 |.num k,m,ok,d,x,hx=>by
  obtain⟨h0,h1⟩:=ok;obtain⟨n1,n2⟩:=k6 (oP k.toNat (by lia)).1;rw[show bM (.num k) m=dig k.toNat from rfl,qo _ _ _ (A6 (by lia) n2) hx];show (d,x)=(d,max x (d+0));rw[zdh (by lia)]
 |.box y,m,ok,d,x,hx=>by
  obtain⟨n1,n2⟩:=name_kind ok;rw[show bM (.box y) m=y from rfl,qo _ _ _ (A6 (by lia) n2) hx];show (d,x)=(d,max x (d+0));rw[zdh (by lia)]
 |.bin o l r,m,ok,d,x,hx=>by
  obtain⟨ho,LC,LD⟩:=ok;have nb:Rz o:=by
   rcases ho with rfl |rfl |rfl<;>intro c hc<;>rw[zad.mp hc]<;>decide
  show (put _ _++o++put _ _).foldl eH (d,x)=_;rw[zbK,zbK,xP _ (lh l _ LC) d x hx,qo o _ _ nb (by lia),xP _ (lh r _ LD) _ _ (by lia)];simp only[Prod.mk.injEq,true_and];show _=max x (d+max _ _);lia
def around:Nat->W->W
 |0,w=>w
 |n+1,w=>put true (around n w)
def BQ:Nat->List W->List W
 |0,w=>w
 |n+1,w=>wo true (BQ n w)
theorem qI{w:W}{L:List W}(h:pieces w=L):∀n,pieces (around n w)=BQ n L
 |0=>h
 |n+1=>rD true (qI h n)
theorem vK{w:W}{k:Nat}(h:∀d x,d<=x->w.foldl eH (d,x)=(d,max x (d+k))):∀n d x,d<=x->(around n w).foldl eH (d,x)=(d,max x (d+(n+k)))
 |0,d,x,hx=>by rw[zdM];exact h d x hx
 |n+1,d,x,hx=>by
  have:=xP true (vK h n) d x hx;rw[show around (n+1) w=put true (around n w) from rfl,this];have e:Kf true=1:=rfl;rw[e,show 1+(n+k)=n+1+k by lia]
theorem RS.around{t:Tr}{L:List W}{k:Nat}(h:RS k t L):∀n,RS (k+n) t (BQ n L)
 |0=>h
 |n+1=>(RF.br (h.around n)).p.s
theorem RS.expr{t:Tr}{w:W}(h:RS 5 t (pieces w))(hl:w.length<=60):expr w=some t:=by
 unfold PM.expr;have:=h [] (.inl rfl);rw[zaC,oM] at this;rw[if_neg (by lia),this]
theorem DH(t:Tr)(m:Int)(ok:BP t)(n:Nat)(hl:(around n (bM t m)).length<=60)(hd:k9 (around n (bM t m))<=5):expr (around n (bM t m))=some t:=by
 have e:k9 (around n (bM t m))=n+dep t m:=by
  unfold k9;rw[vK (lh t m ok) n 0 0 (zag _)];simp
 rw[e] at hd;refine RS.expr ?_ hl;rw[qI (lR t m ok) n];have:=(mw t m (5-n) ok (by lia)).1.around n;rw[show 5-n+n=5 by lia] at this;exact this
theorem Ja{p:W}{r:List W}{s s':Nat×Bool}(h:run (p::r) s=some s'):∃s1,step p s=some s1/\run r s1=some s':=by
 rw[oO] at h;cases e:step p s with
 |none=>rw[e] at h;cases h
 |some s1=>rw[e] at h;exact⟨s1,rfl,h⟩
theorem HE:∀ {A B:List W} {s s1:Nat×Bool},run A s=some s1->run (A++B) s=run B s1
 |[],B,s,s1,h=>by cases h;rfl
 |p::A,B,s,s1,h=>by
  obtain⟨s2,e1,e2⟩:=Ja h;rw[zaQ,eS e1];exact HE e2
def cnt (S:List W):Nat:=(S.filter (fun s=>decide (s≠[40]))).length
def X2 (w:W):Prop:=∀c∈w,c≠43/\c≠45/\c≠42
end PM
namespace L2
open PySem PySem.Spec PyProof.Rows
structure X3(P:zd6)(w:zdW)(outer:List Env)(H:Hp)(s:zd4)(E:XK)(x:zdU)(s':zd4)(cls a0:zdV)(B:Heap)(H':Hp):Prop where
 fl:Heap.FlyingW B outer x cls a0 s'.heap
 os:s'.os=s.os
 bare:AllBare s'.gens
 un:Un (gp outer) [] H H' s.heap s'.heap
 cJ:sD P w H' s'.heap
 old:∀b o,s.heap.get? b=some o->b ∉ gp outer->∃o',B.get? b=some o'
 Ny:∀b u,H' b=some u->∃o,B.get? b=some o
 want:E cls none H'
def km (P:zd6) (w:zdW):Fn:=fun outer H s E e s'=>∃x cls a0 B H',e=.ref x/\X3 P w outer H s E x s' cls a0 B H'
section
variable{P:zd6}{w:zdW}{H H':Hp}{h h' B:Heap}{a:zdU}{o:HO}
theorem eK.there(x:eK P w H h a o):∃ob,h.get? a=some ob:=by
 induction o with
 |lst xs=>obtain⟨_,_,_,_,e⟩:=x;exact⟨_,e⟩
 |tup xs=>obtain⟨_,_,_,_,e,_⟩:=x;exact⟨_,e⟩
 |dK aV=>obtain⟨_,_,_,_,o,_,_,e,_⟩:=x;exact⟨_,e⟩
 |dT aV=>obtain⟨_,_,_,_,o,_,_,e,_⟩:=x;exact⟨_,e⟩
 |set S n=>obtain⟨o,_,_,_,e,_⟩:=x;exact⟨_,e⟩
 |ins C dx fs=>obtain⟨_,_,_,e,_⟩:=x;exact⟨_,e⟩
 |own y=>exact x
 |xd fs=>obtain⟨_,⟨_,_,_,e,_⟩,_⟩:=x;exact⟨_,e⟩
 |We lo hi=>obtain⟨_,_,_,e⟩:=x;exact⟨_,e⟩
 |Ft ob u=>obtain⟨e,_⟩:=x;exact⟨_,e⟩
 |Nw ps=>exact⟨_,(show h.get? a=some _ from x)⟩
 |met f y=>exact⟨_,(show h.get? a=some _ from x)⟩
 |ext φ=>obtain⟨_,e,_⟩:=x;exact e
theorem sD.part(x:sD P w H h)(st:B.StaysIn h)(AJ:B.StaysIn h')(t:∀b u,H b=some u->∃o,B.get? b=some o):sD P w H h':=fun a o e=>by
 refine(x a o e).sI (fun c v hc q=>?_) (fun _ q=>q) fun _ _ q=>q;have tr:∃u,H c=some u:=by
  rcases hc with rfl |hc
  ·exact⟨_,e⟩
  ·exact⟨_,hc⟩
 obtain⟨u,hu⟩:=tr;obtain⟨o',xn⟩:=t c u hu;have:=st c o' xn;rw[q] at this;cases this;exact AJ c _ xn
end
section
variable{X:Cx}{pins:List (zdU×Obj)}{σ:St}{H H':Hp}{s s':zd4}{h':Heap}{E:XK}{x:zdU}{cls a0:zdV}{B:Heap}
theorem X3.move(F:X3 X.prog X.w X.stack H s E x s' cls a0 B H')(I:Inv X pins σ H s)(st:B.StaysIn h')(up:s'.heap.UpToSlots h'):Un (gp X.stack) [] H H' s.heap h'/\sD X.prog X.w H' h':=by
 have fr:∀b∈gp X.stack,∃o,s.heap.get? b=some o/\∀vs,o.data≠.fields vs:=fun b hb=>(I.stack.mem hb).2;have slot:∀b o,s.heap.get? b=some o->H b=none->b∈gp X.stack->∃sl,h'.get? b=some {o with slots:=sl}:=fun b o e n hb=>by
  obtain⟨sl,e1⟩:=F.un.slot b o e n hb (by simp);obtain⟨o',xn,hd⟩:=fr b hb;rw[e] at xn;cases xn;obtain⟨QP,e2⟩:=up b _ e1 hd;exact⟨QP,e2⟩
 refine⟨⟨fun b o e n hb _=>?_,fun b o e n hb _=>slot b o e n hb,fun b o e n hx=>F.un.free b o e n hx,fun b o e _=>?_,F.un.mU,F.un.oz,F.un.qx⟩,F.cJ.part F.fl.1 st F.Ny⟩
 ·obtain⟨o',xn⟩:=F.old b o e hb;have e1:=F.un.keep b o e n hb (by simp);have e2:=F.fl.1 b o' xn;rw[e1] at e2;cases e2;exact st b _ xn
 ·by_cases hb:b∈gp X.stack
  ·obtain⟨sl,e1⟩:=slot b o e (I.wV b hb) hb;exact⟨_,e1⟩
  ·obtain⟨o',xn⟩:=F.old b o e hb;exact⟨o',st b o' xn⟩
theorem Inv.PK(I:Inv X pins σ H s)(hex:X.ex=[])(u:Un (gp X.stack) [] H H' s.heap h'):Un X.fs [] X.H₀ H' X.s₀.heap h':=by
 have nx:∀b,b ∉ X.ex:=fun b=>by rw[hex];simp
 have Wi:∀b o,X.s₀.heap.get? b=some o->b≠X.env.locals:=fun b o e=>zaS (zaM (Heap.lt_size e) I.ok.above);refine⟨fun b o q n hb _=>?_,fun b o q n hb _=>?_,fun b o q n _=>?_,fun b o q _=>?_,fun b xs q=>u.mU b xs (I.base.mU b xs q),fun b ob xs q=>u.oz b ob xs (I.base.oz b ob xs q),fun b ps q=>?_⟩
 ·exact u.keep b o (I.base.keep b o q n hb (nx b)) (I.base.free b o q n (nx b)) (fun z=>(zak.mp (I.ux b z)).elim (Wi b o q) hb) (by simp)
 ·obtain⟨sl,e1⟩:=I.base.slot b o q n hb (nx b);obtain⟨QP,e2⟩:=u.any e1 (I.base.free b o q n (nx b)) (by simp);exact⟨QP,e2⟩
 ·obtain⟨o',e1⟩:=I.base.there b o q (nx b);exact u.free b o' e1 (I.base.free b o q n (nx b)) (by simp)
 ·obtain⟨o',e1⟩:=I.base.there b o q (nx b);exact u.there b o' e1 (by simp)
 ·obtain⟨m1,e1⟩:=I.base.qx b ps q;obtain⟨m2,e2⟩:=u.qx b _ e1;exact⟨m1++m2,by rw[e2,zcT]⟩
theorem Inv.LF(I:Inv X pins σ H s)(hex:X.ex=[])(old:∀b o,s.heap.get? b=some o->b ∉ gp X.stack->∃o',B.get? b=some o'):∀b o,X.s₀.heap.get? b=some o->b ∉ X.fs->∃o',B.get? b=some o':=fun b o e hb=>by
 obtain⟨o',e1⟩:=I.base.there b o e (by rw[hex];simp);exact old b o' e1 fun z=>(zak.mp (I.ux b z)).elim (zaS (zaM (Heap.lt_size e) I.ok.above)) hb
end
section
variable{P:zd6}{w:zdW}{K:zaa}{mg:Str->Option zdV}{base:Heap}{N:List Str}{qual:Str}{scope:Scope}{f:zdU}{cd:zdV}{A:zd5}{outer:List Env}{s₀:zd4}{H₀:Hp}{E:XK}
theorem di:Passes (km P w) (jK (km P w) P w K mg base N qual scope f cd A outer s₀ H₀ E) E:=by
 intro pins σ H s e s' I h;obtain⟨x,cls,a0,B,H',rfl,F⟩:=h;show wpAny _ _ (leaving _ _) _ _ _;refine wpAny_leaves_onW I.ok.frames rfl F.fl fun h' fl up=>?_;obtain⟨u,cJ⟩:=F.move I fl.1 up;exact⟨x,cls,a0,B,H',rfl,fl,F.os.trans I.os,F.bare,I.PK rfl u,cJ,I.LF rfl F.old,F.Ny,F.want⟩
def PL (X:Cx) (E:XK):Prop:=∀(pins:List (zdU×Obj)) (σ:St) (H:Hp) (s:zd4) (h1:Heap) (x:zdU) (cls:zdV) (vs:List zdV),Inv X pins σ H s->Heap.MadeExcOf s.heap h1 x cls vs->E cls none H->X.xe (.ref x) {s with heap:=h1}
theorem du:PL (jK (km P w) P w K mg base N qual scope f cd A outer s₀ H₀ E) E:=by
 intro pins σ H s h1 x cls vs I hx want;have Oe:∀env∈(jK (km P w) P w K mg base N qual scope f cd A outer s₀ H₀ E).stack,∀a,env.frame=some a->a∈gp (jK (km P w) P w K mg base N qual scope f cd A outer s₀ H₀ E).stack:=fun env he a hb=>zcf.mpr ⟨env,he,hb⟩;show wpAny _ _ (leaving _ _) _ _ _;refine wpAny_leaves_madeW (base:=zcG s.heap (gp (jK (km P w) P w K mg base N qual scope f cd A outer s₀ H₀ E).stack)) I.ok.frames rfl (fun b o q=>zcX _ q) (PySem.W.funFrames_hide I.stack Oe) hx fun h' t fl _ _ up=>?_;have Wt:∀b o,s.heap.get? b=some o->b ∉ gp (jK (km P w) P w K mg base N qual scope f cd A outer s₀ H₀ E).stack->(zcG s.heap (gp (jK (km P w) P w K mg base N qual scope f cd A outer s₀ H₀ E).stack)).get? b=some o:=fun b o e hb=>zdG _ e hb;have slot:∀b o,s.heap.get? b=some o->b∈gp (jK (km P w) P w K mg base N qual scope f cd A outer s₀ H₀ E).stack->∃sl,h'.get? b=some {o with slots:=sl}:=fun b o e hb=>by
  obtain⟨o',xn,hd⟩:=(I.stack.mem hb).2;rw[e] at xn;cases xn;exact up b o (hx.keeps b o e) hd
 have Ny:∀b u,H b=some u->∃o,(zcG s.heap (gp (jK (km P w) P w K mg base N qual scope f cd A outer s₀ H₀ E).stack)).get? b=some o:=fun b u e=>by
  obtain⟨o,ho⟩:=(I.cJ b u e).there;refine⟨o,Wt b o ho fun z=>?_⟩;rw[I.wV b z] at e;cases e
 have u:Un (gp (jK (km P w) P w K mg base N qual scope f cd A outer s₀ H₀ E).stack) [] H H s.heap h':=by
  refine⟨fun b o e _ hb _=>fl.1 b o (Wt b o e hb),fun b o e _ hb _=>slot b o e hb,fun _ _ _ n _=>n,fun b o e _=>?_,fun _ _ q=>q,fun _ _ _ q=>q,fun _ ps q=>⟨#[],by rw[q];simp⟩⟩;by_cases hb:b∈gp (jK (km P w) P w K mg base N qual scope f cd A outer s₀ H₀ E).stack
  ·obtain⟨sl,e1⟩:=slot b o e hb;exact⟨_,e1⟩
  ·exact⟨o,fl.1 b o (Wt b o e hb)⟩
 exact⟨x,cls,_,_,H,rfl,fl,I.os,I.bare,I.PK rfl u,I.cJ.part (fun b o q=>zcX _ q) fl.1 Ny,I.LF rfl fun b o e hb=>⟨o,Wt b o e hb⟩,Ny,want⟩
theorem Of:PassesOwn (model P w) (jK (km P w) P w K mg base N qual scope f cd A outer s₀ H₀ E).A (jK (km P w) P w K mg base N qual scope f cd A outer s₀ H₀ E).env (jK (km P w) P w K mg base N qual scope f cd A outer s₀ H₀ E).xe:=PassesOwn.leaving
end
structure wu(K:zaa)(C:zdU):Prop where
 q:zbx K C [.type "ValueError",.type "Exception",.type "BaseException",.type "object"] "ValueError.__new__"=true
theorem wu.obj{K:zaa}{C:zdU}{h:Heap}(c:wu K C)(X:K.In h):∃bm N nm q bs hdct sn sub ab col dd k0 k1 k2 k3 k5 mN,h.get? C=some (excClassObj nm q C N bs bm hdct sn sub ab col dd k0 k1 k2 k3 k5 "ValueError.__new__")/\h.Ns N mN/\mN "__init__"=none/\
 OwnTail h [.type "ValueError",.type "Exception",.type "BaseException",.type "object"] bm:=by
 have q:=c.q;unfold zbx at q;split at q
 ·rename_i dd cd sl ho;split at q
  ·rename_i C' bm k0 k1 k2 k3 n k5 hm hs;simp only[zaD,beq_iff_eq,Bool.not_eq_true'] at q;obtain⟨⟨⟨⟨⟨rfl,rfl⟩,UN⟩,ht⟩,cJ⟩,Wu⟩:=q;obtain⟨nm,bs,mro,ns,qn,hd,sn,sub,ab,col,del⟩:=cd;dsimp only at hm UN cJ Wu;subst hm UN;have hsl:sl = #[k0,k1,k2,k3,some (.builtin "ValueError.__new__"),k5]:=by
    obtain⟨l⟩:=sl;simp only at hs;rw[hs]
   subst hsl;exact⟨bm,ns,nm,qn,bs,hd,sn,sub,ab,col,dd,k0,k1,k2,k3,k5,_,X _ _ ho,.of_isNs (PySem.W.isNs_of_in X cJ),PySem.W.nsMap_none_of_in X cJ Wu,PySem.W.tail_of_in X ht⟩
  ·cases q
 ·cases q
def RA (C:zdU) (E:XK) (ta:TA):TS:=fun _ σ H=>ta σ H fun vs H1=>vs.length<=zd2/\E (.ref C) none H1
section
variable{X:Cx}{C:zdU}{E:XK}{x:Str}{np iS pos:Pos}{e:Expr}{es:List Expr}{ta:TA}
theorem b3(fl:PL X E)(c:wu X.K C)(hg:Gl X x)(hm:X.mg x=some (.ref C))(qG:X.calm=true)(ha:PA X (e::es) ta)(KU:(x==("__debug__":Str))=false:=by decide)
 (he:zd0 (e::es) X.env=(false,eval e X.env)::zd0 es X.env:=by rfl) (Fo:(backTo iS (zd0 es X.env)).any (·.1)=false:=by rfl) :
 PS X (.Raise (some (.Call (.Name x np) (e::es) [] iS)) none pos) (RA C E ta):=by
 intro pins s σ H D I h;obtain⟨bm,N,nm,q,bs,hdct,sn,sub,ab,col,dd,k0,k1,k2,k3,k5,mN,hC,hN,Wu,T⟩:=c.obj I.ok.mod.TQ;refine wpAny_Raise_call_subT (C:=C) (nm:=nm) (q:=q) (N:=N) (bs:=bs) (bm:=bm) (hdct:=hdct) (sn:=sn) (sub:=sub) (ab:=ab) (col:=col) (dd:=dd) (k0:=k0) (k1:=k1) (k2:=k2) (k3:=k3) (k5:=k5)
  PySem.F.excBase_ValueError (mN:=mN) (T.hasType PySem.F.excBase_ValueError.hasBase) (I.ok.hd qG) (by rw[he];show (false ||(backTo iS (zd0 es X.env)).any (·.1))=false;rw[Fo];rfl) Wu (sL I hg hm ⟨rfl,?_⟩ KU)
 have Z3:=ha iS pins s σ H _ I h;rw[he] at Z3 ⊢;refine Calls.evalArgs_plain (wpAny_mono Z3 (fun us s1 ⟨vs,H1,I1,r,hl,q⟩=>⟨rfl,by rw[<- r.length];exact hl,I1.bk _ _ hC,hN.keeps I1.bk,T.keeps I1.bk,fun h' y hm=>?_⟩) fun _ _ y=>y);exact fl pins σ H1 s1 h' y (.ref C) us I1 hm q
end
section
variable{X:Cx}{pins:List (zdU×Obj)}{σ:St}{H:Hp}{s:zd4}{x:zdU}
theorem Inv.told{o:HO}(I:Inv X pins σ H s)(n:H x=none)(h0:X.s₀.heap.objs.size<=x)(hL:x≠X.env.locals)(hc:∀y c,X.env.cells.lookup y=some c->c≠x)(hp:∀p∈X.pn++pins,p.1≠x)(ok:eK X.prog X.w (upd H x o) s.heap x o):Inv X pins σ (upd H x o) s:=by
 have nx:∀b u,X.s₀.heap.get? b=some u->b≠x:=fun b u e=>zaS (zaM (Heap.lt_size e) h0);refine⟨I.ok,I.os,I.bare,⟨I.base.keep,I.base.slot,fun b u e n' hx=>?_,I.base.there,fun b xs e=>?_,fun b ob u e=>?_,fun b ps e=>?_⟩,I.loc,I.cell,?_,fun y c e=>?_,fun p PB=>?_,fun b u e=>?_,I.len⟩
 ·rw[aq (nx b u e)];exact I.base.free b u e n' hx
 ·have:=I.base.mU b xs e;rw[aq (aB this n)];exact this
 ·have:=I.base.oz b ob u e;rw[aq (aB this n)];exact this
 ·obtain⟨m,e1⟩:=I.base.qx b ps e;exact⟨m,by rw[aq (aB e1 n)];exact e1⟩
 ·rw[aq (Ne.symm hL)];exact I.free
 ·rw[aq (hc y c e)];exact I.oA y c e
 ·obtain⟨a,b,c⟩:=I.pin p PB;exact⟨a,by rw[aq (hp p PB)];exact b,c⟩
 ·by_cases hb:b=x
  ·subst hb;rw[aj] at e;cases e;exact ok
  ·rw[aq hb] at e;exact(I.cJ b u e).sI (fun _ _ _ q=>q) (fun c q=>by rw[aq (aB q n)];exact q) fun c xs q=>by rw[aq (aB q n)];exact q
end
def RB (z:Str):It:=⟨fun i _=>i<z.cps.size,fun i H x H'=>H'=H/\∃c,z.cps[i]?=some c/\x=.str ⟨#[c]⟩,fun i _=>z.cps.size<=i⟩
section
variable{P:zd6}{w:zdW}{K:zaa}{tg:Expr}
theorem Jb(z:Str)(t:Tok)(it:zdU):Turn P w K tg (RB z) [it] it (fun i h=>h.IsStrIter it "str_ascii_iterator" z t i) where
 mem:=by simp
 obj:=fun i h st b hb=>by
  have e:b=it:=by simpa using hb
  subst e;obtain⟨o,e,c,d⟩:=st;exact⟨o,e,fun v y=>by rw[d] at y;cases y⟩
 keep:=fun i h h' st k=>let ⟨o,ho,r⟩:=st;⟨o,k it (by simp) o ho,r⟩
 item:=by
  intro X hP hw hK hc i pins s σ H E I hf st hg;subst hP hw hK;obtain⟨f0,f1,f2,f3,f4,f5⟩:=hf it (by simp);have iR:i<z.cps.size:=hg;refine wpAny_pyNext_ascii_item st (c:=z.cps[i]) (by simp[iR]) fun h' AJ sb=>?_;have I1:Inv X pins σ H {s with heap:=h',toks:=s.toks+1}:=I.turned (fun b o hb e=>(sb.2 b hb).trans e) f0 f1 f3 f4 f5;obtain⟨o,e,c,d⟩:=id AJ;exact⟨_,rfl,Dq (s:={s with heap:=h',toks:=s.toks+1}) e c d (by decide) ⟨.str ⟨#[z.cps[i]]⟩,H,I1,⟨_,rfl⟩,⟨rfl,z.cps[i],by simp[iR],rfl⟩,AJ,fun b hb=>(hf b hb).1⟩⟩
 done:=by
  intro X hP hw hK hc i pins s σ H E I hf st hg;subst hP hw hK;obtain⟨f0,f1,f2,f3,f4,f5⟩:=hf it (by simp);have hle:z.cps.size<=i:=hg;exact wpAny_pyNext_ascii_end (I.ok.hd hc) st (by simp[hle]) fun h' eb=>⟨rfl,I.turned (t':=s.toks) (fun b o hb e=>eb b o hb e) f0 f1 f3 f4 f5⟩
 self:=fun _ _ _ _ _ st h=>wpAny_pyIter_striter_ascii st h
theorem Jc(z:Str)(t:Tok)(it:zdU):Turn P w K tg (RB z) [it] it (fun i h=>h.IsStrIter it "str_iterator" z t i) where
 mem:=by simp
 obj:=fun i h st b hb=>by
  have e:b=it:=by simpa using hb
  subst e;obtain⟨o,e,c,d⟩:=st;exact⟨o,e,fun v y=>by rw[d] at y;cases y⟩
 keep:=fun i h h' st k=>let ⟨o,ho,r⟩:=st;⟨o,k it (by simp) o ho,r⟩
 item:=by
  intro X hP hw hK hc i pins s σ H E I hf st hg;subst hP hw hK;obtain⟨f0,f1,f2,f3,f4,f5⟩:=hf it (by simp);have iR:i<z.cps.size:=hg;refine wpAny_pyNext_wide_item st (c:=z.cps[i]) (by simp[iR]) fun h' AJ sb=>?_;have I1:Inv X pins σ H {s with heap:=h',toks:=s.toks+1}:=I.turned (fun b o hb e=>(sb.2 b hb).trans e) f0 f1 f3 f4 f5;obtain⟨o,e,c,d⟩:=id AJ;exact⟨_,rfl,Dq (s:={s with heap:=h',toks:=s.toks+1}) e c d (by decide) ⟨.str ⟨#[z.cps[i]]⟩,H,I1,⟨_,rfl⟩,⟨rfl,z.cps[i],by simp[iR],rfl⟩,AJ,fun b hb=>(hf b hb).1⟩⟩
 done:=by
  intro X hP hw hK hc i pins s σ H E I hf st hg;subst hP hw hK;obtain⟨f0,f1,f2,f3,f4,f5⟩:=hf it (by simp);have hle:z.cps.size<=i:=hg;exact wpAny_pyNext_wide_end (I.ok.hd hc) st (by simp[hle]) fun h' eb=>⟨rfl,I.turned (t':=s.toks) (fun b o hb e=>eb b o hb e) f0 f1 f3 f4 f5⟩
 self:=fun _ _ _ _ _ st h=>wpAny_pyIter_striter_wide st h
end
section
variable{X:Cx}{tg:Expr}
def RC (tl:TE):TI:=fun σ H R=>tl σ H fun x H1=>∃z,x=.str z/\R (RB z) H1
theorem FV{l:Expr}{tl:TE}(hl:PE X l tl):PI X tg l (RC tl):=by
 intro pins s σ H R I h;refine eR (hl pins s σ H _ I h) fun v s1 zqz=>?_;obtain⟨x,H1,I1,r1,q1⟩:=zqz;obtain⟨z,e,q⟩:=q1;subst e;obtain⟨t,rfl⟩:=r1;have fp:∀b∈[s1.heap.objs.size],rf X pins H1 b:=fun b hb=>by
  have e:b=s1.heap.objs.size:=by simpa using hb
  subst e;exact I1.II (zag _) (I1.cJ.fresh (zag _))
 cases ha:z.cps.all (·<128) with
 |false=>exact wpAny_pyIter_wide ha ⟨s1.heap.objs.size,[s1.heap.objs.size],_,_,H1,rfl,I1.kept (t':=s1.toks) fun b o e=>Heap.get?_push_of_some _ e,Jc z t _,⟨_,Heap.get?_push_size _ rfl,rfl,rfl⟩,fp,q⟩
 |true=>exact wpAny_pyIter_ascii ha ⟨s1.heap.objs.size,[s1.heap.objs.size],_,_,H1,rfl,I1.kept (t':=s1.toks) fun b o e=>Heap.get?_push_of_some _ e,Jb z t _,⟨_,Heap.get?_push_size _ rfl,rfl,rfl⟩,fp,q⟩
end
theorem HF{z:Str}{g:TG}{tb:TS}{D:Ends}{σ:St}{H:Hp}(Pv:Nat->St->Hp->Prop)(h0:Pv 0 σ H)
 (hs:∀i c σ H,z.cps.toList[i]?=some c->Pv i σ H->g (.str ⟨#[c]⟩) σ H fun σ2 H2=>tb {D with nx:=Pv (i+1),ct:=Pv (i+1),bk:=D.nx} σ2 H2) (hd:∀σ H,Pv z.length σ H->D.nx σ H) :
 ∃W:Nat->Nat->St->Hp->Prop,(∃m,W 0 m σ H)/\∀i m σ H,W i m σ H->
  ((RB z).stop i H/\D.nx σ H)\/((RB z).go i H/\∃N:St->Hp->Prop,(∀σ' H',N σ' H'->∃m',m'<m/\W (i+1) m' σ' H')/\∀x H',(RB z).xr i H x H'->g x σ H' fun σ2 H2=>tb {D with nx:=N,ct:=N,bk:=D.nx} σ2 H2):=by
 refine⟨fun i m σ H=>m=z.cps.size-i/\i<=z.cps.size/\Pv i σ H,⟨z.cps.size,by simp,zaJ _,h0⟩,?_⟩
 rintro i m σ H ⟨rfl,hi,p⟩
 by_cases iR:i<z.cps.size
 ·refine .inr ⟨iR,Pv (i+1),fun σ' H' p'=>⟨z.cps.size-(i+1),by lia,rfl,iR,p'⟩,fun x H' y=>?_⟩;obtain⟨rfl,c,hc,rfl⟩:=y;exact hs i c σ _ (by simpa using hc) p
 ·have e:i=z.cps.size:=by lia
  subst e;exact .inl ⟨zag _,hd σ H p⟩
def DI (z:Str) (lo hi:Option Int):Str:=⟨((z.cps.toList.drop (HT.fG z.length 0 lo)).take (HT.fG z.length z.length hi-HT.fG z.length 0 lo)).toArray⟩
theorem BE{n d:Nat}(hd:d<=n)(o:Option Int):HT.fG n d o<=n:=by
 cases o with
 |none=>exact hd
 |some i=>
  show (if i<0 then (i+n).toNat else min i.toNat n)<=n;split<;>lia
theorem LG(x:Str)(lo hi:Option Int):Txt.slice x lo hi=DI x lo hi:=by
 have e:(Builtin.Str.strSliceIndices lo hi 1 x.length).filterMap (x.cps[·]?)=(x.cps.toList.drop (HT.fG x.length 0 lo)).take (HT.fG x.length x.length hi-HT.fG x.length 0 lo):=by
  obtain⟨h1,h2,h3⟩:=mY lo hi x.length;have:Builtin.Str.strSliceIndices lo hi 1 x.length=sliceRange (HT.fG x.length 0 lo:Nat) (HT.fG x.length x.length hi:Nat) 1:=by
   rw[<- h1,<- h2];rfl
  rw[this,sliceRange_one,pick_run]
 unfold Txt.slice DI;rw[e];split
 ·rename_i c;have hl:(Builtin.Str.strSliceIndices lo hi 1 x.length).length=x.length:=by
   simp only[beq_self_eq_true,zdB,beq_iff_eq] at c;exact c
  obtain⟨h1,h2,h3⟩:=mY lo hi x.length;have e2:Builtin.Str.strSliceIndices lo hi 1 x.length=sliceRange (HT.fG x.length 0 lo:Nat) (HT.fG x.length x.length hi:Nat) 1:=by
   rw[<- h1,<- h2];rfl
  rw[e2,sliceRange_one,zai,zb8] at hl;have b1:=BE (n:=x.length) (zaJ _) lo;have b2:=BE (n:=x.length) (zag _) hi;have z0:HT.fG x.length 0 lo=0\/x.length=0:=by lia
  have hx:x.cps.toList.length=x.length:=by simp[Str.length]
  have:(x.cps.toList.drop (HT.fG x.length 0 lo)).take (HT.fG x.length x.length hi-HT.fG x.length 0 lo)=x.cps.toList:=by
   rcases z0 with z0 |z0
   ·rw[hl,z0,zcP];exact zbp (by lia)
   ·have:x.cps.toList=[]:=zcI (by lia);rw[this];simp
  rw[this]
 ·rfl
section
variable{X:Cx}
def X4:V->Option Int->Option Int->Hp->VK->Prop:=fun x lo hi H Q=>∃z,x=.str z/\z.length<=zd2/\Q (.str (DI z lo hi)) H
theorem FW:Pw X X4:=by
 intro pins s σ H x v vl vu lo hi sl Q I rx hs pl pu h;obtain⟨z,rfl,hz,q⟩:=h;obtain⟨t,rfl⟩:=rx;obtain⟨o,ho,hc,hd⟩:=hs;refine⟨"str",_,F.slot_str_getitem.lookup,typeIs_str _ _ _,?_⟩;have fin:∀t' k,EP X pins σ Q (.str (Txt.slice z lo hi) t') {s with toks:=k}:=fun t' k=>⟨.str (DI z lo hi),H,I.tok k,⟨t',by rw[LG]⟩,q⟩
 cases pl with
 |none=>
  cases pu with
  |none=>exact wpAny_getItem_str_slice (l:=none) (u:=none) (st:=none) ⟨o,ho,hc,hd⟩ rfl (post_val_or_str ⟨zaA (Txt.slice_le z _ _) hz,fin⟩)
  |int j tj=>exact wpAny_getItem_str_slice (l:=none) (u:=some (j,tj)) (st:=none) ⟨o,ho,hc,hd⟩ rfl (post_val_or_str ⟨zaA (Txt.slice_le z _ _) hz,fin⟩)
 |int i ti=>
  cases pu with
  |none=>exact wpAny_getItem_str_slice (l:=some (i,ti)) (u:=none) (st:=none) ⟨o,ho,hc,hd⟩ rfl (post_val_or_str ⟨zaA (Txt.slice_le z _ _) hz,fin⟩)
  |int j tj=>exact wpAny_getItem_str_slice (l:=some (i,ti)) (u:=some (j,tj)) (st:=none) ⟨o,ho,hc,hd⟩ rfl (post_val_or_str ⟨zaA (Txt.slice_le z _ _) hz,fin⟩)
theorem sY:gq X (.type "int") (fun xs H Q=>∃z n,xs=[.str z]/\PySem.intText? z=some n/\z.length<=640/\Q (.int n) H):=by
 intro pins s σ H xs us Q I r h;obtain⟨z,n,rfl,hn,hl,q⟩:=h;obtain⟨u,rfl,ru⟩:=vals1 r;obtain⟨t,rfl⟩:=ru;exact PySem.W.KIN.call_text hn hl ⟨.int n,H,I.tok _,⟨_,rfl⟩,q⟩
theorem LH(hc:X.calm=true):gq X (.builtin "all") (fun xs H Q=>∃(p:zdU) (bs:List Bool),xs=[.ref p]/\fH X.K H p (bs.map V.bl)/\Q (.bl (bs.all id)) H):=by
 intro pins s σ H xs us Q I r h;obtain⟨p,bs,rfl,hl,q⟩:=h;obtain⟨u,rfl,ru⟩:=vals1 r;cases (show u=Value.ref p from ru);obtain⟨aY,rv,pl,_⟩:=I.list hl;have iR:p<s.heap.objs.size:=by
  obtain⟨o,_,e,_⟩:=pl;exact Heap.lt_size e
 refine call_all_walk (wpAny_pyIter_list pl.isList ?_);have ne:p≠s.heap.objs.size:=zaS iR;refine⟨s.heap.objs.size,_,_,_,_,_,fun i=>bs.getD i true,rfl,Walks.list (show X.A.in1.handled=none from I.ok.hd hc) _ p ne aY.toArray,⟨⟨_,Heap.get?_push_size _ rfl,rfl,rfl⟩,pl.isList.push _⟩,fun i v s' Q' E' hv hq=>?_,fun h' tk hk=>?_⟩
 ·have Wl:aY[i]?=some v:=by simpa using hv
  have hb:∃b,bs[i]?=some b:=by
   have:i<bs.length:=by
    have l1:=rv.length;rw[zai] at l1;have:=(zao.mp Wl).1;lia
   exact⟨bs[i],zac this⟩
  obtain⟨b,hb⟩:=hb;obtain⟨u,hu,ru⟩:=rv.get (i:=i) (x:=.bl b) (by rw[zaz,hb];rfl);rw[Wl] at hu;cases hu;cases (show v=Value.bool b from ru);have e:bs.getD i true=b:=by rw[zae,hb];rfl
  have Pt:Q' (bs.getD i true) s':=hq;rw[e] at Pt;exact zdY Pt
 ·refine⟨.bl (bs.all id),H,I.kept (h':=h') (t':=tk) (fun b o e=>hk b o ?_ (Heap.get?_push_of_some _ e)),?_,q⟩
  ·have:b≠s.heap.objs.size:=zaS (Heap.lt_size e);simpa using this
  ·have ln:aY.toArray.size=bs.length:=by rw[zax,<- rv.length,zai]
   show Value.bool ((zaE aY.toArray.size).all fun i=>bs.getD i true)=Value.bool (bs.all id);rw[ln]
   congr 1
   have key:∀l:List Bool,((zaE l.length).all fun i=>l.getD i true)=l.all id:=fun l=>by
    rw[zbz,za1,za1]
    constructor
    ·intro h x hx;obtain⟨i,hi,rfl⟩:=zbt hx;have:=h i (zbh.mpr hi);rw[zae,zac hi] at this;exact this
    ·intro h i hi;have hi:=zbh.mp hi;rw[zae,zac hi];exact h _ (zaI hi)
   exact key bs
end
theorem LK{J:It}{D:zdU}{tc:TT}{te:TE}{Q:VK}{r:St}{H:Hp}(xs:List V)(p:V->Bool)(f:V->V)(hl:xs.length<=16000000)
 (go:∀i ys,i<xs.length->J.go i (upd H D (.lst ys))) (xr:∀i ys x H',J.xr i (upd H D (.lst ys)) x H'->H'=upd H D (.lst ys)/\xs[i]?=some x) (stop:∀ys,J.stop xs.length (upd H D (.lst ys)))
 (test:∀x∈xs,∀ys (R:Bool->Hp->Prop),R (p x) (upd H D (.lst ys))->tc (some x::r) (upd H D (.lst ys)) R)
 (step:∀x∈xs,p x=true->∀ys (R:VK),R (f x) (upd H D (.lst ys))->te (some x::r) (upd H D (.lst ys)) R)
 (q:Q (.ref D) (upd H D (.lst ((xs.filter p).map f)))):nV J D (jU 0) tc te Q (none::r) (upd H D (.lst [])):=by
 refine⟨fun i m τ H2=>m=xs.length-i/\i<=xs.length/\(∃x,τ=x::r)/\H2=upd H D (.lst (((xs.take i).filter p).map f)),⟨xs.length,by simp,zaJ _,⟨none,rfl⟩,by simp⟩,?_⟩
 rintro i m τ H2 ⟨rfl,hi,⟨x,rfl⟩,rfl⟩
 by_cases iR:i<xs.length
 ·refine .inr ⟨go i _ iR,fun τ' H'=>(∃x,τ'=x::r)/\H'=upd H D (.lst (((xs.take (i+1)).filter p).map f)),fun τ' H' ⟨h1,h2⟩=>⟨xs.length-(i+1),by lia,rfl,iR,h1,h2⟩,fun y H' hy=>?_⟩;obtain⟨rfl,hz⟩:=xr i _ y H' hy;clear hy;have hy:=hz;rw[zac iR] at hy;cases hy;have mem:=zaI iR;simp only[jU,zcQ];refine test _ mem _ _ ?_;rw[zbg iR,zcU,zaw];cases hp:p xs[i] with
  |false=>
   rw[if_neg zan];refine⟨⟨_,rfl⟩,?_⟩;simp[hp]
  |true=>
   rw[if_pos rfl];refine step _ mem hp _ _ ⟨_,aj,?_,⟨_,rfl⟩,?_⟩
   ·have h1:(((xs.take i).filter p).map f).length<=i:=by
     rw[zai];exact zaA (zcs _ _) (by rw[za0];lia)
    have:zd2=2 ^ 24:=rfl;lia
   ·rw[Bz];simp[hp]
 ·have e:i=xs.length:=by lia
  subst e;refine .inl ⟨stop _,?_⟩;rw[zbo];exact q
theorem LL{z:Str}{D:zdU}{tc:TT}{te:TE}{Q:VK}{r:St}{H:Hp}(p:Nat->Bool)(f:Nat->V)(hl:z.length<=16000000)
 (test:∀c∈z.cps.toList,∀ys (R:Bool->Hp->Prop),R (p c) (upd H D (.lst ys))->tc (some (.str ⟨#[c]⟩)::r) (upd H D (.lst ys)) R)
 (step:∀c∈z.cps.toList,p c=true->∀ys (R:VK),R (f c) (upd H D (.lst ys))->te (some (.str ⟨#[c]⟩)::r) (upd H D (.lst ys)) R)
 (q:Q (.ref D) (upd H D (.lst ((z.cps.toList.filter p).map f)))):nV (RB z) D (jU 0) tc te Q (none::r) (upd H D (.lst [])):=by
 have code:∀(c:Nat),(match V.str ⟨#[c]⟩ with |.str y=>y.cps.toList.headD 0 |_=>0)=c:=fun c=>rfl;refine LK (z.cps.toList.map fun c=>V.str ⟨#[c]⟩) (fun x=>p (match x with |.str y=>y.cps.toList.headD 0 |_=>0)) (fun x=>f (match x with |.str y=>y.cps.toList.headD 0 |_=>0)) (by rw[zai];simpa[Str.length] using hl)
  (fun i ys hi=>?_) (fun i ys x H' hy=>?_) (fun ys=>?_) (fun x hx ys R hR=>?_) (fun x hx hp ys R hR=>?_) ?_
 ·show i<z.cps.size;simpa using hi
 ·obtain⟨rfl,c,hc,rfl⟩:=hy;refine⟨rfl,?_⟩;rw[zaz];have:z.cps.toList[i]?=some c:=by simpa using hc
  rw[this];rfl
 ·show z.cps.size<=_;simp
 ·obtain⟨c,hc,rfl⟩:=zaK.mp hx;exact test c hc ys R hR
 ·obtain⟨c,hc,rfl⟩:=zaK.mp hx;exact step c hc hp ys R hR
 ·rw[List.filter_map,zbv];exact q
abbrev W:=PM.W
def S (w:W):Str:=⟨w.toArray⟩
def sv (w:W):V:=.str (S w)
theorem RD(w:W):(S w).cps.toList=w:=rfl
theorem cj(w:W):(S w).length=w.length:=by simp[S,Str.length]
theorem DJ{a b:W}:S a=S b↔a=b:=⟨fun h=>by have:=congrArg (fun z:Str=>z.cps.toList) h;simpa[S] using this,fun h=>by rw[h]⟩
theorem iu(a b:W):S a++S b=S (a++b):=by
 show (⟨a.toArray++b.toArray⟩:Str)=_;simp[S]
theorem gv{a b:W}:sv a=sv b↔a=b:=by unfold sv;rw[V.str.injEq];exact DJ
theorem LN(c:Nat):(⟨#[c]⟩:Str)=S [c]:=rfl
def cV:PM.Tr->Dp
 |.num n=>.tup [.str "number",.int n]
 |.box x=>.tup [.str "box",.str (S x)]
 |.bin o l r=>.tup [.str (S o),cV l,cV r]
def kindS:Nat->Str
 |0=>"letter"
 |1=>"figure"
 |2=>"sign"
 |_=>""
def bH (p:zdU) (H H':Hp):Prop:=∀b o,b≠p->H b=some o->H' b=some o
theorem bH.refl(p:zdU)(H:Hp):bH p H H:=fun _ _ _ h=>h
theorem bH.trans{p:zdU}{H H1 H2:Hp}(a:bH p H H1)(b:bH p H1 H2):bH p H H2:=fun c o n h=>b c o n (a c o n h)
theorem bH.of{p:zdU}{H H':Hp}(s:ar H H'):bH p H H':=fun b o _ h=>s b o h
theorem bH.put{p:zdU}{H H1:Hp}(a:bH p H H1)(o:HO):bH p H (upd H1 p o):=fun b u n h=>by rw[aq n];exact a b u n h
theorem bH.new{p q:zdU}{H H1:Hp}(a:bH p H H1)(h:H1 q=none)(o:HO):bH p H (upd H1 q o):=fun b u n e=>by rw[aq (aB (a b u n e) h)];exact a b u n e
theorem bH.same{p:zdU}{H H':Hp}(a:bH p H H')(h:H p=none):ar H H':=fun b o e=>a b o (aB e h) e
structure sF(CP:zdU)(H:Hp)(p l dx:zdU)(ps:List W)(k:Nat):Prop where
 ins:H p=some (.ins CP dx [("pieces",.ref l),("place",.int k)])
 own:H dx=some (.own p)
 lst:H l=some (.lst (ps.map sv))
 le:k<=ps.length
 pos:∀q∈ps,q≠[]
 len:∀q∈ps,q.length<=60
 many:ps.length<=60
theorem sF.nd{CP p l dx:zdU}{H:Hp}{ps:List W}{k:Nat}(o:sF CP H p l dx ps k):dx≠p:=cM o.own o.ins (by intro z;cases z)
theorem sF.nl{CP p l dx:zdU}{H:Hp}{ps:List W}{k:Nat}(o:sF CP H p l dx ps k):l≠p:=cM o.lst o.ins (by intro z;cases z)
theorem sF.at{CP p l dx:zdU}{H H':Hp}{ps:List W}{k j:Nat}(o:sF CP H p l dx ps k)(u:bH p H H')(e:H' p=some (.ins CP dx [("pieces",.ref l),("place",.int j)]))(hj:j<=ps.length):sF CP H' p l dx ps j:=
 ⟨e,u _ _ o.nd o.own,u _ _ o.nl o.lst,hj,o.pos,o.len,o.many⟩
theorem Rep.lT{K:zaa}{H H':Hp}{p C dx:zdU}{fs:List (Str×V)}(hp:H p=some (.ins C dx fs))(u:bH p H H'):(∀(d:Dp) (v:V),Rep K H d v->Rep K H' d v)/\∀(ds:List Dp) (vs:List V),aG K H ds vs->aG K H' ds vs:=by
 have st:∀a xs,cv K H a xs->cv K H' a xs:=fun a xs h=>by
  rcases h with (h |⟨o,h⟩) |h
  ·exact .inl (.inl (u _ _ (cM h hp (by intro z;cases z)) h))
  ·exact .inl (.inr ⟨o,u _ _ (cM h hp (by intro z;cases z)) h⟩)
  ·exact .inr h
 have sl:∀a xs,fH K H a xs->fH K H' a xs:=fun a xs h=>by
  rcases h with (h |⟨o,h⟩) |h
  ·exact .inl (.inl (u _ _ (cM h hp (by intro z;cases z)) h))
  ·exact .inl (.inr ⟨o,u _ _ (cM h hp (by intro z;cases z)) h⟩)
  ·exact .inr h
 refine⟨fun d=>?_,fun ds=>?_⟩
 ·exact Dp.rec (motive_1:=fun d=>∀v,Rep K H d v->Rep K H' d v) (motive_2:=fun ds=>∀vs,aG K H ds vs->aG K H' ds vs)
   (fun v h=>by rw[Rep.qk] at h ⊢;exact h) (fun b v h=>by rw[Rep.rn] at h ⊢;exact h) (fun i v h=>by rw[Rep.bO] at h ⊢;exact h) (fun x v h=>by rw[Rep.aK] at h ⊢;exact h)
   (fun l ih v h=>by rw[Rep.aZ] at h ⊢;obtain⟨a,xs,e,q,r⟩:=h;exact⟨a,xs,e,st a xs q,ih xs r⟩)
   (fun l ih v h=>by rw[Rep.iq] at h ⊢;obtain⟨a,xs,e,q,r⟩:=h;exact⟨a,xs,e,sl a xs q,ih xs r⟩)
   (fun vs h=>by rw[aG.aS] at h ⊢;exact h)
   (fun d ds i1 i2 vs h=>by rw[aG.aM] at h ⊢;obtain⟨v,r,e,x,y⟩:=h;exact⟨v,r,e,i1 v x,i2 r y⟩) d
 ·exact Dp.rec_1 (motive_1:=fun d=>∀v,Rep K H d v->Rep K H' d v) (motive_2:=fun ds=>∀vs,aG K H ds vs->aG K H' ds vs)
   (fun v h=>by rw[Rep.qk] at h ⊢;exact h) (fun b v h=>by rw[Rep.rn] at h ⊢;exact h) (fun i v h=>by rw[Rep.bO] at h ⊢;exact h) (fun x v h=>by rw[Rep.aK] at h ⊢;exact h)
   (fun l ih v h=>by rw[Rep.aZ] at h ⊢;obtain⟨a,xs,e,q,r⟩:=h;exact⟨a,xs,e,st a xs q,ih xs r⟩)
   (fun l ih v h=>by rw[Rep.iq] at h ⊢;obtain⟨a,xs,e,q,r⟩:=h;exact⟨a,xs,e,sl a xs q,ih xs r⟩)
   (fun vs h=>by rw[aG.aS] at h ⊢;exact h)
   (fun d ds i1 i2 vs h=>by rw[aG.aM] at h ⊢;obtain⟨v,r,e,x,y⟩:=h;exact⟨v,r,e,i1 v x,i2 r y⟩) ds
section
variable(K:zaa)(CP CN:zdU)
def FX (ok:Nat->Bool) (signs:Str):Sp:=fun vs H Q _=>∃w:W,vs=[sv w,.str signs]/\w.length<=1000/\(∀c,decide (c∈signs.cps.toList)=ok c)/\∀H',ar H H'->Q (.bl (w.all ok)) H'
def xQ:Sp:=fun vs H Q _=>∃w:W,vs=[sv w]/\w.length<=16000000/\∀H',ar H H'->Q (.bl (PM.isName w)) H'
def rE:Sp:=fun vs H Q _=>∃w:W,vs=[sv w]/\w.length<=16000000/\∀H',ar H H'->Q (.bl (PM.isNumber w)) H'
def DK:Sp:=fun vs H Q _=>∃c:Nat,vs=[sv [c]]/\Q (.str (kindS (PM.kind c))) H
def xR:Sp:=fun vs H Q _=>∃w:W,vs=[sv w]/\w.length<=60/\∀l H',ar H H'->H l=none->H' l=some (.lst ((PM.pieces w).map sv))->Q (.ref l) H'
def LO:Sp:=fun vs H Q _=>∃(p dx:zdU) (w:W),vs=[.ref p,sv w]/\H p=some (.ins CP dx [])/\H dx=some (.own p)/\w.length<=60/\∀l H',bH p H H'->sF CP H' p l dx (PM.pieces w) 0->Q .dh H'
def sZ:Sp:=fun vs H Q _=>∃(p l dx:zdU) (ps:List W) (k:Nat),vs=[.ref p]/\sF CP H p l dx ps k/\Q (sv ((ps.drop k).headD [])) H
def uH:Sp:=fun vs H Q E=>∃(p l dx:zdU) (ps:List W) (k:Nat),vs=[.ref p]/\sF CP H p l dx ps k/\
 match ps.drop k with
 |[]=>E (.ref CN) none H
 |q::_=>∀H',bH p H H'->sF CP H' p l dx ps (k+1)->Q (sv q) H'
def oQ (f:PM.P) (d:Int):Sp:=fun vs H Q E=>∃(p l dx:zdU) (ps:List W) (k:Nat),vs=[.ref p,.int d]/\sF CP H p l dx ps k/\
 match f (ps.drop k) with
 |none=>∀H',bH p H H'->E (.ref CN) none H'
 |some (t,r)=>∀v H' j,bH p H H'->sF CP H' p l dx ps j->ps.drop j=r->Rep K H' (cV t) v->Q v H'
def Wv:Nat->PM.P
 |0=>fun _=>none
 |n+1=>fun ps=>match PM.m3 (PM.factor n) ps with
  |some (e,q::r)=>if q=[41] then some (e,r) else none
  |_=>none
def uI (n:Nat) (d:Int):Sp:=oQ K CP CN (Wv n) d
def RE:Sp:=fun vs H Q E=>∃w:W,vs=[sv w]/\w.length<=16000000/\
 match PM.expr w with
 |none=>∀H',ar H H'->E (.ref CN) none H'
 |some t=>∀v H',ar H H'->Rep K H' (cV t) v->Q v H'
end
theorem DL(n:Nat)(y:W)(r:List W):PM.factor n (y::r)=if PM.isNumber y then some (.num (PM.kj y),r) else if PM.isName y then some (.box y,r) else if y=[40] then Wv n r else none:=by
 cases n with
 |zero=>
  show PM.sV _ _=_;rw[PM.dN];rfl
 |succ n=>
  show PM.sV _ _=_;rw[PM.dN];rfl
theorem DM{y:W}(h:PM.isNumber y=true):PySem.intText? (S y)=some (PM.kj y):=by
 simp only[PM.isNumber,zaD,decide_eq_true_eq] at h;obtain⟨⟨⟨h1,h2⟩,h3⟩,_⟩:=h;have Ww:∀c∈y,48<=c/\c<=57:=fun c hc=>by
  have:=za1.mp h3 c hc;simpa[PM.gy] using this
 have ne:y≠[]:=by rintro rfl;simp at h1
 have:=PySem.intText_digits (x:=S y) Ww ne (by rw[cj];lia);rw[this]
 congr 1
 have key:∀(l:W),(∀c∈l,48<=c/\c<=57)->∀a:Nat,((l.foldl (fun a c=>a*10+(c-48)) a:Nat):Int)=l.foldl (fun (a:Int) (c:Nat)=>a*10+((c:Int)-48)) (a:Int):=by
  intro l
  induction l with
  |nil=>intro _ a;rfl
  |cons c r ih=>
   intro hc a;rw[zaT,zaT,ih (fun x hx=>hc x (by simp[hx]))]
   congr 1
   have:=(hc c (by simp)).1;lia
 exact key y Ww 0
theorem LP{X:Cx}{P:zd6}{w:zdW}:Passes (km P w) X E0:=fun _ _ _ _ _ _ _ h=>by
 obtain⟨_,_,_,_,_,_,F⟩:=h;exact F.want.elim
section
variable{P:zd6}{w:zdW}{K:zaa}{mg:Str->Option zdV}{base:Heap}
theorem C5.C7{x qual:Str}{st:Stmt}{f:zdU}{fd:zd3}{N ps:List Str}{k:Nat}{sp:Sp}(F:C5 K x qual st f fd)(S:aR N ps (av st))(len:∀vs H Q E,sp vs H Q E->vs.length=ps.length)
 (xC:∀(dM:zdV) (A:zd5) (outer:List Env) (s:zd4) (H:Hp) (vs:List V) (Q:VK) (E:XK),gP k (A.deeper (envOfC qual (av st) s.heap.objs.size f dM))->sp vs H Q E->
  ∃t σ,Fu (jK (km P w) P w K mg base N qual (av st) f dM A outer s H E) (bI st) t/\L2.start N vs=σ/\t {nx:=fun _ H'=>Q .dh H',rt:=Q} σ H):a8 P w K mg base (km P w) (k+1) f fd ps sp:=by
 obtain⟨oc,od,kV,doc,pm,an,dM,ct,KY,rfl,lk,IG⟩:=F.ex;refine Pu lk IG S len fun A outer s H vs Q E hr IV=>?_;obtain⟨t,σ,h,e,q⟩:=xC dM A outer s H vs Q E hr IV;exact⟨t,h,by rw[e];exact q⟩
end
mutual
def Dp.py:Dp->PyData
 |.dh=>.none
 |.bl b=>.bool b
 |.int i=>.int i
 |.str x=>.str x
 |.tup l=>.tuple (Dp.nW l)
 |.lst l=>.list (Dp.nW l)
def Dp.nW:List Dp->List PyData
 |[]=>[]
 |d::r=>d.py::Dp.nW r
end
section
variable{X:Cx}{pins:List (zdU×Obj)}{σ:St}{H:Hp}{s:zd4}
mutual
theorem oR(I:Inv X pins σ H s):∀ {d:Dp} {v:V} {u:zdV},Rep X.K H d v->RelV v u->∃as,Reads s.heap u d.py as
 |.dh,v,u,h,r=>by rw[Rep.qk] at h;subst h;cases (show u=Value.none from r);exact⟨_,.none⟩
 |.bl b,v,u,h,r=>by rw[Rep.rn] at h;subst h;cases (show u=Value.bool b from r);exact⟨_,.bool b⟩
 |.int i,v,u,h,r=>by rw[Rep.bO] at h;subst h;obtain⟨t,rfl⟩:=(show ∃t,u=Value.int i t from r);exact⟨_,.int i t⟩
 |.str x,v,u,h,r=>by rw[Rep.aK] at h;subst h;obtain⟨t,rfl⟩:=(show ∃t,u=Value.str x t from r);exact⟨_,.str x t⟩
 |.tup l,v,u,h,r=>by
  rw[Rep.aZ] at h;obtain⟨p,xs,rfl,q,w⟩:=h;cases (show u=Value.ref p from r);obtain⟨aY,v1,t1,_⟩:=I.tuple q;obtain⟨as,ra⟩:=uJ I w v1;obtain⟨o,h1,h2,n,h3⟩:=t1;unfold Dp.py;exact⟨as,.tuple h1 h2 h3 (by simpa using ra)⟩
 |.lst l,v,u,h,r=>by
  rw[Rep.iq] at h;obtain⟨p,xs,rfl,q,w⟩:=h;cases (show u=Value.ref p from r);obtain⟨aY,v1,t1,_⟩:=I.list q;obtain⟨as,ra⟩:=uJ I w v1;obtain⟨o,h1,h2,n,h3⟩:=t1.isList;unfold Dp.py;exact⟨_,.list h1 h2 h3 (by simpa using ra)⟩
theorem uJ(I:Inv X pins σ H s):∀ {ds:List Dp} {vs:List V} {us:List zdV},aG X.K H ds vs->Vals vs us->∃as,ReadsAll s.heap us (Dp.nW ds) as
 |[],_,_,h,r=>by rw[aG.aS] at h;subst h;cases r;unfold Dp.nW;exact⟨_,.nil⟩
 |d::ds,_,_,h,r=>by
  rw[aG.aM] at h;obtain⟨v,vs,rfl,x,y⟩:=h;cases r with
  |cons r1 r2=>
   obtain⟨a,ra⟩:=oR I x r1;obtain⟨b,rb⟩:=uJ I y r2;unfold Dp.nW;exact⟨_,.cons ra rb⟩
end
end
section
variable{X:Cx}
def UO (K:zaa) (neg:Bool):R2:=fun x y H Q=>∃d e,Rep K H d x/\Rep K H e y/\SeqAt.shaped d.py=true/\SeqAt.shaped e.py=true/\Q (.bl (if neg then !PyData.eqv d.py e.py else PyData.eqv d.py e.py)) H
theorem RG(hu:X.A.units+64<cLine):nU X (compareOp .Eq) (UO X.K false):=by
 intro pins s σ H x y v u Q I rx ry h;obtain⟨d,e,h1,h2,s1,s2,q⟩:=h;obtain⟨as,ra⟩:=oR I h1 rx;obtain⟨bs,rb⟩:=oR I h2 ry;exact eq_dataH ra rb s1 s2 hu ⟨.bl (PyData.eqv d.py e.py),H,I,rfl,q⟩
theorem LQ(hu:X.A.units+64<cLine):nU X (compareOp .NotEq) (UO X.K true):=by
 intro pins s σ H x y v u Q I rx ry h;obtain⟨d,e,h1,h2,s1,s2,q⟩:=h;obtain⟨as,ra⟩:=oR I h1 rx;obtain⟨bs,rb⟩:=oR I h2 ry;exact ne_dataH ra rb s1 s2 hu ⟨.bl (!PyData.eqv d.py e.py),H,I,rfl,q⟩
theorem m6:gq X (.type "str") (fun xs H Q=>(∃i,xs=[.int i]/\i.natAbs.log2<1920/\Q (.str (toString i)) H)\/∃x,xs=[.str x]/\Q (.str x) H):=by
 intro pins s σ H xs us Q I r h;rcases h with h |⟨x,rfl,q⟩
 ·exact BC pins s σ H xs us Q I r h
 ·obtain⟨u,rfl,ru⟩:=vals1 r;obtain⟨t,rfl⟩:=ru;exact P.str_of_str ⟨.str x,H,I,⟨t,rfl⟩,q⟩
end
mutual
theorem eqv_refl:∀d:Dp,PyData.eqv d.py d.py=true
 |.dh=>rfl
 |.bl b=>by simp[Dp.py,PyData.eqv]
 |.int i=>by simp[Dp.py,PyData.eqv]
 |.str x=>by simp[Dp.py,PyData.eqv]
 |.tup l=>by simp only[Dp.py,PyData.eqv];exact uK l
 |.lst l=>by simp only[Dp.py,PyData.eqv];exact uK l
theorem uK:∀l:List Dp,PyData.eqvAll (Dp.nW l) (Dp.nW l)=true
 |[]=>rfl
 |d::r=>by simp only[Dp.nW,PyData.eqvAll,eqv_refl d,uK r,Bool.and_true]
end
theorem aD{t u:TS}{D:Ends}{σ:St}{H:Hp}(h:∀U:St->Hp->Prop,(∀σ' H',U σ' H'↔u D σ' H')->t {D with nx:=U} σ H):Fv t u D σ H:=h (u D) fun _ _=>Iff.rfl
def LR (es:List Expr):Stmt->Stmt
 |.Assign ts (.List _ p) q=>.Assign ts (.List es p) q
 |s=>s
def RH:Stmt->List Expr
 |.Assign _ (.List es _) _=>es
 |_=>[]
theorem RI{A:zd5}{k:Nat}(hr:gP k A):A.units+64<cLine:=hr.units
end L2
namespace L2
open PySem
def stir (cell k:Int):Int:=if 10 ^ 18<=cell then ((cell-10 ^ 18)/2 ^ (28*k).toNat)%2 ^ 28 else
 ((((cell+1013*k+1)*16807%2147483647)*((cell+1013*k+1)*16807%2147483647)%2147483629)*39373%2147483587)/8
theorem iW(cell k:Int):0<=stir cell k/\stir cell k<2 ^ 28:=by
 unfold stir;split
 ·have:=zbf ((cell-10 ^ 18)/2 ^ (28*k).toNat) (show (2 ^ 28:Int)≠0 by decide);have:=za2 ((cell-10 ^ 18)/2 ^ (28*k).toNat) (show (0:Int)<2 ^ 28 by decide);lia
 ·generalize ((((cell+1013*k+1)*16807%2147483647)*((cell+1013*k+1)*16807%2147483647)%2147483629)*39373)=z;lia
def FY:Sp:=fun vs H Q _=>∃cell k:Int,vs=[.int cell,.int k]/\0<=k/\k<=100000/\Q (.int (stir cell k)) H
theorem xS{cell k:Int}{H:Hp}{Q:VK}{E:XK}:FY [.int cell,.int k] H Q E↔0<=k/\k<=100000/\Q (.int (stir cell k)) H:=by
 constructor
 ·rintro ⟨c,k',e,h⟩;cases e;exact h
 ·exact fun h=>⟨_,_,rfl,h⟩
def NA:PM.Tr->Nat
 |.bin _ l r=>NA l+NA r
 |_=>1
def A7:PM.Tr->Nat
 |.bin _ l r=>max (A7 l) (A7 r)+1
 |_=>0
theorem w9(b:Bool)(w:W):(PM.put b w).length<=w.length+2:=by
 cases b with
 |false=>exact zbk _ _
 |true=>show ([40]++w++[41]).length<=_;simp
theorem iX:∀(t:PM.Tr) (m:Int),PM.BP t->(PM.bM t m).length+5<=13*NA t
 |.num k,m,ok=>by
  have d:=(PM.oP k.toNat (by have:=ok.1;have:=ok.2;lia)).1;simp only[PM.isNumber,zaD,decide_eq_true_eq] at d;show (PM.dig k.toNat).length+5<=13;lia
 |.box x,m,ok=>by
  have d:PM.isName x=true:=ok;simp only[PM.isName,zaD,decide_eq_true_eq] at d;show x.length+5<=13;lia
 |.bin o l r,m,ok=>by
  have h1:=iX l (m/2) ok.2.1;have h2:=iX r (m/3) ok.2.2;have ol:o.length=1:=by rcases ok.1 with rfl |rfl |rfl<;>rfl
  show (PM.put _ _++o++PM.put _ _).length+5<=13*(NA l+NA r);rw[zaf,zaf];have p1:=w9 (PM.wm o l m) (PM.bM l (m/2));have p2:=w9 (PM.vI o r m) (PM.bM r (m/3));lia
section
variable(K:zaa)
def tf (n:Nat):Sp:=fun vs H Q _=>∃(v:V) (m:Int) (tr:PM.Tr),vs=[v,.int m]/\Rep K H (cV tr) v/\PM.BP tr/\A7 tr<n/\NA tr<=50/\0<=m/\∀H',ar H H'->Q (sv (PM.bM tr m)) H'
end
def eL (st:Int×Int) (c:Nat):Int×Int:=
 let d:=if c=41 then (if c=40 then st.1+1 else st.1)-1 else (if c=40 then st.1+1 else st.1)
 (d,max st.2 d)
def tm (w:W):Int:=(w.foldl eL (0,0)).2
theorem vL(c:Int):∀(w:W) (d x:Int),w.foldl eL (d+c,x+c)=((w.foldl eL (d,x)).1+c,(w.foldl eL (d,x)).2+c)
 |[],_,_=>rfl
 |a::w,d,x=>by
  rw[zaT,zaT];have e:eL (d+c,x+c) a=((eL (d,x) a).1+c,(eL (d,x) a).2+c):=by
   by_cases h1:a=41<;>by_cases h2:a=40<;>simp only[eL,h1,h2,if_true,if_false]<;>refine Prod.ext ?_ ?_<;>simp<;>lia
  rw[e];exact vL c w _ _
theorem A8:∀(w:W) (d x:Nat),w.length<=d->w.foldl eL ((d:Int),(x:Int))=(((w.foldl PM.eH (d,x)).1:Int),((w.foldl PM.eH (d,x)).2:Int))
 |[],_,_,_=>rfl
 |a::w,d,x,h=>by
  rw[zaT,zaT];have hl:w.length+1<=d:=h;have e:∃d' x':Nat,PM.eH (d,x) a=(d',x')/\eL ((d:Int),(x:Int)) a=((d':Int),(x':Int))/\w.length<=d':=by
   by_cases h1:a=41
   ·subst h1;exact⟨d-1,max x (d-1),rfl,by simp only[eL];refine Prod.ext ?_ ?_<;>simp<;>lia,by lia⟩
   ·by_cases h2:a=40
    ·subst h2;exact⟨d+1,max x (d+1),rfl,by simp only[eL];refine Prod.ext ?_ ?_<;>simp<;>lia,by lia⟩
    ·exact⟨d,max x d,by simp only[PM.eH,h1,h2,if_false],by simp only[eL,h1,h2,if_false];refine Prod.ext ?_ ?_<;>simp<;>lia,by lia⟩
  obtain⟨d',x',e1,e2,e3⟩:=e;rw[e1,e2];exact A8 w d' x' e3
theorem LU{w:W}{k:Nat}(h:∀d x,d<=x->w.foldl PM.eH (d,x)=(d,max x (d+k))):tm w=(PM.k9 w:Int):=by
 have e1:PM.k9 w=k:=by unfold PM.k9;rw[h 0 0 (zag _)];simp
 have e2:=A8 w w.length w.length (zag _);have e3:=vL (w.length:Int) w 0 0;rw[h _ _ (zag _)] at e2;rw[zdN,e2] at e3;have e4:=congrArg Prod.snd e3;simp only at e4;unfold tm;rw[e1];lia
section
variable(K:zaa)
def Jd:Sp:=fun vs H Q _=>∃w:W,vs=[sv w]/\w.length<=16000000/\∀H',ar H H'->Q (.int (tm w)) H'
end
theorem Og{x:W}(h:∀c∈x,c<1114112):PyData.strOk (S x)=true:=by
 unfold PyData.strOk;show x.toArray.all _=true;rw[List.all_toArray,za1];exact fun c hc=>decide_eq_true (h c hc)
theorem LV{X:Cx}:gq X (.builtin "isinstance") (fun xs H Q=>∃a T l b,xs=[.ref a,.ty T]/\cv X.K H a l/\zbc X.K (.type "tuple") (.type T)=some b/\Q (.bl b) H):=by
 intro pins s σ H xs us Q I r h;obtain⟨a,T,l,b,rfl,hS,e,q⟩:=h;cases r with
 |cons r1 r2=>
  cases r2 with
  |cons r3 r4=>
   cases r4;cases (show _=Value.ref a from r1);cases (show _=Value.type T from r3);obtain⟨aY,_,⟨o,h1,h2,_⟩,_⟩:=I.tuple hS;exact za8 zcZ I.sE ⟨o,h1,h2⟩ e (fun z=>nomatch z) fun tk=>⟨.bl b,H,I.tok tk,rfl,q⟩
theorem DN{ta:TA}{g:TG}{tb:TS}{D:Ends}{σ:St}{H:Hp} (h:∀U:Int->Hp->Prop,(∀j H1,(∃W:Nat->Nat->St->Hp->Prop,(∃m,W 0 m σ H1)/\∀i m σ H,W i m σ H->
 ((KG 0 j.toNat).stop i H/\D.nx σ H)\/((KG 0 j.toNat).go i H/\∃N:St->Hp->Prop,(∀σ' H',N σ' H'->∃m',m'<m/\W (i+1) m' σ' H')/\∀x H',(KG 0 j.toNat).xr i H x H'->g x σ H' fun σ2 H2=>tb {D with nx:=N,ct:=N,bk:=D.nx} σ2 H2))->U j H1)->
 ta σ H fun vs H1=>∃j:Int,vs=[.int j]/\-(2 ^ 62)<=j/\j<2 ^ 62/\U j H1):NR (G6 ta) g tb D σ H:=h _ fun _ _ x=>x
def HG (K:zaa):Sp:=fun vs H Q _=>∃(a:zdU) (ns:List Int),vs=[.ref a]/\fH K H a (ns.map .int)/\ns.length<=63/\∀H',Q (.bl true) H'
open PyProof.Rows PySem.Spec
section
variable{X:Cx}{pins:List (zdU×Obj)}{σ:St}{H:Hp}{s:zd4}{h':Heap}
theorem Inv.A9{t':Nat}{fp:List zdU}(I:Inv X pins σ H s)(k:∀b o,b ∉ fp->s.heap.get? b=some o->h'.get? b=some o)(hf:∀b∈fp,rf X pins H b):Inv X pins σ H {s with heap:=h',toks:=t' }:=by
 have TY:∀b u,H b=some u->b ∉ fp:=fun b u e z=>by rw[(hf b z).1] at e;cases e
 refine I.step (g':=s.gens) (d':=s.drawn) (ch:=fp) (fun b hb=>?_) (fun b o _ _ hc e _=>k b o hc e) (fun b o _ _ hc e _=>⟨o.slots,k b o hc e⟩) (fun _ _ _ _ n=>n)
  (fun b o hc e=>⟨o,k b o hc e⟩) (fun _ _ e=>e) (fun _ _ _ e=>e) (fun b ps e=>⟨#[],by rw[e];simp⟩) (fun m hm=>?_) (fun b u e=>?_) I.bare
 ·obtain⟨_,f1,_,f3,f4,f5⟩:=hf b hb;exact⟨f3,f1,f4,f5⟩
 ·obtain⟨o,es,ep,ho,r⟩:=hm;exact⟨o,es,ep,k _ o (fun z=>(hf _ z).2.1 rfl) ho,r⟩
 ·refine(I.cJ b u e).sI (fun c v hc q=>k c v ?_ q) (fun _ q=>q) fun _ _ q=>q;rcases hc with z |z
  ·rw[z];exact TY b u e
  ·exact TY c _ z
end
theorem vM{X:Cx}:gq X (.type "int") (fun xs H Q=>∃b:Bool,xs=[.bl b]/\Q (.int (if b then 1 else 0)) H):=by
 intro pins s σ H xs us Q I r h;obtain⟨b,rfl,q⟩:=h;obtain⟨u,rfl,ru⟩:=vals1 r;cases (show u=Value.bool b from ru);exact PySem.call_int_bool ⟨.int (if b then 1 else 0),H,I.tok _,⟨_,rfl⟩,q⟩
section
variable{prog:zd6}{w:zdW}{A:zd5}{E:zdV->zd4->Prop}{s:zd4}
theorem DO{it l:zdU}{aY:Array zdV}(Fp:l≠it):∀(n i:Nat) (s:zd4) (Q:List zdV->zd4->Prop),s.heap.IsListIter it l i->s.heap.IsList l aY->i+n<=aY.size->
 (∀h',h'.IsListIter it l (i+n)->Heap.SameBut it s.heap h'->Q ((aY.toList.drop i).take n) {s with heap:=h' })->wpAny (model prog w) A (draw (.ref it) n) Q E s
 |0,i,s,Q,a,_,_,q=>by
  show wpAny _ _ (pure []) Q E s;exact zdY (by simpa using q s.heap a (Heap.SameBut.refl ..))
 |n+1,i,s,Q,a,b,le,q=>by
  have lt:i<aY.size:=by lia
  show wpAny _ _ (pyNext (.ref it) >>= _) Q E s;refine zdX (wpAny_pyNext_list_item a b (x:=aY[i]) (by simp[lt]) fun h1 a1 s1=>?_);have b1:h1.IsList l aY:=by
   obtain⟨o,ho,r⟩:=b;exact⟨o,(s1.2 l Fp).trans ho,r⟩
  refine zdX (zdZ (DO Fp n (i+1) _ _ a1 b1 (by lia) fun h2 a2 s2=>zdY ?_));have e:aY.toList.drop i=aY[i]::aY.toList.drop (i+1):=by simp[zbU,lt]
  have z:=q h2 (by rw[show i+(n+1)=i+1+n by lia];exact a2) (s1.trans s2);rw[e,List.take_succ_cons] at z;exact z
theorem FZ{l:zdU}{aY:Array zdV}{ts:List (Bool×(zdV->Sem Unit))}{Q:Unit->zd4->Prop}(hh:A.handled=none)(b:s.heap.IsList l aY)(hn:ts.length=aY.size)(BB:ts.findIdx? (·.1)=none)
 (h:∀h',Heap.ExtBut s.heap.objs.size s.heap h'->wpAny (model prog w) A (assignInOrder (ts.map (·.2)) aY.toList) Q E {s with heap:=h' }):wpAny (model prog w) A (unpack (.ref l) ts) Q E s:=by
 have lt:l≠s.heap.objs.size:=by obtain⟨o,ho,_⟩:=b;exact zaS (Heap.lt_size ho)
 unfold unpack;rw[hn,BB];refine zdX (zdZ ?_);unfold unpackItems;refine zdX ?_;unfold notIterableAtAll;refine zdX (wpAny_specialOf b.typeIs slot_list_iter.lookup ?_);refine zdY ?_;simp only[zbE,if_false];refine zdX (zdZ (wpAny_pyIter_list b ?_));have sI:∀ {h1 h2:Heap},Heap.ExtBut s.heap.objs.size h1 h2->h1.IsList l aY->h2.IsList l aY:=fun {h1 h2} e x=>by
  obtain⟨o,ho,r⟩:=x;exact⟨o,e l o lt ho,r⟩
 have b0:(s.heap.push {cls:=.type "list_iterator",data:=.fields #[.ref l,.int 0 0]}).IsList l aY:=by
  obtain⟨o,ho,r⟩:=b;exact⟨o,Heap.get?_push_of_some _ ho,r⟩
 refine zdX (zdZ (DO lt aY.size 0 _ _ ⟨_,Heap.get?_push_size _ rfl,rfl,rfl⟩ b0 (by lia) fun h1 a1 s1=>?_));have all:List.take aY.size (List.drop 0 aY.toList)=aY.toList:=by
  rw[zcP];exact zbp (by simp)
 rw[all,if_neg (by simp)];have b1:h1.IsList l aY:=sI s1.extBut b0;refine zdX (zdZ (wpAny_pyNext_list_end hh a1 b1 (by simp) fun h2 e2=>?_));simp only[Option.isSome_none,zbE,if_false];exact zdY (h h2 fun c o hc e=>e2 c o hc (s1.extBut c o hc (Heap.get?_push_of_some _ e)))
end
def RJ (K:zaa) (n:Nat) (t:Nz):TG:=fun v σ H Q=>∃a xs,v=.ref a/\fH K H a xs/\xs.length=n/\t xs σ H Q
theorem BR{X:Cx}{es:List Expr}{k}{pos:Pos}{t:Nz}{n:Nat}(hc:X.calm=true)(h:S9 X es t)
 (hn:(assignEach es X.env).length=n:=by rfl) (BB:(assignEach es X.env).findIdx? (·.1)=none:=by rfl):PG X (.Tuple es k pos) (RJ X.K n t):=by
 intro pins s σ H v u Q I r hw;obtain⟨a,xs,rfl,hq,hl,hw⟩:=hw;cases r;obtain⟨aY,rv,hp,_⟩:=I.list hq;rw[assign_Tuple];refine zdX (wpAny_standAt (FZ (I.ok.hd hc) hp.isList (by simp[hn,<- hl,rv.length]) BB fun h' hx=>?_));have I1:Inv X pins σ H {s with heap:=h' }:=I.kept (t':=s.toks) fun b o e=>hx b o (zaS (Heap.lt_size e)) e;exact h pins _ σ H xs _ Q I1 (by simpa using rv) hw
open PySem.SeqAt
theorem uL{X:Cx}(hu:X.A.units+1<cLine):nU X (compareOp .NotEq) (fun x y H Q=>∃a b xs,x=.ref a/\y=.ref b/\fH X.K H a xs/\fH X.K H b []/\Q (.bl (!xs.isEmpty)) H):=by
 intro pins s σ H x y v u Q I rx ry h;obtain⟨a,b,xs,rfl,rfl,h1,h2,q⟩:=h;cases (show v=Value.ref a from rx);cases (show u=Value.ref b from ry);obtain⟨aY,v1,p1,_⟩:=I.list h1;obtain⟨its',v2,p2,_⟩:=I.list h2;cases v2;cases xs with
 |nil=>
  cases v1;exact(RcNeAt.lists (e:=fun _=>true) p1.isList p2.isList rfl (by lia) (fun j h1=>absurd h1 (by simp))) _ _ _ _ ⟨.bl false,H,I,rfl,q⟩
 |cons z zs=>
  cases v1;exact(RcNeAt.lists_lengths p1.isList p2.isList (by simp) (by lia)) _ _ _ _ ⟨.bl true,H,I,rfl,q⟩
def rF (val:W->Int):PM.Tr->Int
 |.num n=>n
 |.box x=>val x
 |.bin o l r=>if o=[43] then rF val l+rF val r else if o=[45] then rF val l-rF val r else rF val l*rF val r
theorem rG:∀ {L:List W} {us:List zdV},Vals (L.map sv) us->∃l:List (Str×Tok),us=strValues l/\l.map (·.1)=L.map S
 |[],us,h=>by
  cases h;exact⟨[],rfl,rfl⟩
 |w::L,us,h=>by
  cases h with
  |cons r t=>
   obtain⟨tk,rfl⟩:=(show ∃t,_=Value.str (S w) t from r)
   obtain⟨l,rfl,e⟩:=rG t;exact⟨(S w,tk)::l,rfl,by rw[zar,zar,e]⟩
theorem F0:∀(L:List W),Builtin.Str.glued (zab "") (L.map S)=S L.flatten
 |[]=>rfl
 |w::L=>by
  have key:∀(L:List W) (acc:W),((L.map S).foldl (fun acc p=>acc++(zab "").cps++p.cps) acc.toArray)=(acc++L.flatten).toArray:=by
   intro L
   induction L with
   |nil=>intro acc;simp
   |cons x r ih=>
    intro acc;rw[zar,zaT];have e:acc.toArray++(zab "").cps++(S x).cps=(acc++x).toArray:=by
     have e0:(zab "").cps = #[]:=rfl;rw[e0];show acc.toArray ++ #[]++x.toArray=_;simp
    rw[e,ih];simp
  show (⟨(L.map S).foldl (fun acc p=>acc++(zab "").cps++p.cps) (S w).cps⟩:Str)=_;have:=key L w;rw[show (S w).cps=w.toArray from rfl,this];rfl
theorem Oh{X:Cx}:K2 X "str.join" (fun x vs H Q=>∃(a:zdU) (L:List W),x=.str (zab "")/\vs=[.ref a]/\fH X.K H a (L.map sv)/\L.flatten.length<=1000000/\Q (sv L.flatten) H):=by
 intro pins s σ H x vs v us Q I rx rv h;obtain⟨a,L,rfl,rfl,hS,hl,q⟩:=h;obtain⟨t,rfl⟩:=(show ∃t,v=Value.str (zab "") t from rx)
 obtain⟨u,rfl,ru⟩:=vals1 rv;cases (show u=Value.ref a from ru);obtain⟨aY,r,p,_⟩:=I.list hS;obtain⟨l,rfl,el⟩:=rG r;have e0:(zab "").length=0:=by decide
 have fold:∀(xs:List Str) (n:Nat),xs.foldl (fun a x=>a+x.length+(zab "").length) n=n+(xs.map (·.length)).sum:=by
  intro xs
  induction xs with
  |nil=>intro n;simp
  |cons y ys ih=>intro n;rw[zaT,ih,zar,zbD,e0];lia
 have X5:((L.map S).map (·.length)).sum=L.flatten.length:=by
  rw[zbv,zdD]
  congr 1
 have hlen:Builtin.Str.tooLong ((l.map (·.1)).toArray.foldl (· + ·.length+(zab "").length) 0)=false:=by
  rw[List.foldl_toArray,el,fold,X5];unfold Builtin.Str.tooLong;rw[decide_eq_false_iff_not];have:zd2=2 ^ 24:=rfl;lia
 have fit:(S L.flatten).length<=zd2:=by
  rw[cj];have:zd2=2 ^ 24:=rfl;lia
 refine call_meets F.slot_str_join (typeIs_str s _ _) F.entry_str_join (F.args_str_join_2 _ _) (meets_str_join_list (zab "") t a l hlen) ⟨p.isList,?_⟩;have BB:∀tk,EP X pins σ Q (.str (S L.flatten) tk) {s with toks:=s.toks+1}:=fun tk=>⟨sv L.flatten,H,I.tok _,⟨_,rfl⟩,q⟩
 have RK:∀tk,EP X pins σ Q (.str (S L.flatten) tk) s:=fun tk=>⟨sv L.flatten,H,I,⟨_,rfl⟩,q⟩
 have eg:Builtin.Str.glued (zab "") (l.map (·.1))=S L.flatten:=by rw[el,F0]
 match l,el,eg with
 |[],el,eg=>
  refine⟨?_,?_⟩
  ·show (Builtin.Str.glued (zab "") []).length<=zd2;decide
  ·have F1:Builtin.Str.glued (zab "") []=S L.flatten:=eg;show wants _ _ (.ok (.ret (.str (Builtin.Str.glued (zab "") []) _))) _;rw[F1];exact BB _
 |[x],el,eg=>
  have F1:Builtin.Str.glued (zab "") [x.1]=S L.flatten:=eg;have e1:Builtin.Str.glued (zab "") [x.1]=x.1:=rfl;have e2:x.1=S L.flatten:=e1.symm.trans F1;simp only[joinMade,Made.post];have:=RK x.2;rw[<- e2] at this;exact this
 |x::y::r,el,eg=>
  have F1:Builtin.Str.glued (zab "") ((x::y::r).map (·.1))=S L.flatten:=eg;refine⟨?_,?_⟩
  ·show (Builtin.Str.glued (zab "") ((x::y::r).map (·.1))).length<=zd2;rw[F1];exact fit
  ·show wants _ _ (.ok (.ret (.str (Builtin.Str.glued (zab "") ((x::y::r).map (·.1))) _))) _;rw[F1];exact BB _
theorem HH(k:Int)(h:0<=k):V.str (zab (toString k))=sv (PM.dig k.toNat):=by
 unfold sv
 congr 1
 have hk:k=((k.toNat:Nat):Int):=by lia
 rw[Str.ofString_eq_toList]
 conv=>lhs;rw[hk]
 show (⟨((toString ((k.toNat:Nat):Int)).toList.map Char.toNat).toArray⟩:Str)=S ((zcz 10 k.toNat).map Char.toNat);have e2:(toString ((k.toNat:Nat):Int)).toList=zcz 10 k.toNat:=by
  show (Nat.repr k.toNat).toList=_;unfold Nat.repr;exact String.toList_ofList
 rw[e2];rfl
theorem oS{K:zaa}{tl:TE}{g:TG}{tb:TS}{D:Ends}{σ:St}{H:Hp} (h:∀U:zdU->Hp->Prop,(∀a H1,(∃W:Nat->Nat->St->Hp->Prop,(∃m,W 0 m σ H1)/\∀i m σ H,W i m σ H->
 ((IJ K a).stop i H/\D.nx σ H)\/((IJ K a).go i H/\∃N:St->Hp->Prop,(∀σ' H',N σ' H'->∃m',m'<m/\W (i+1) m' σ' H')/\∀x H',(IJ K a).xr i H x H'->g x σ H' fun σ2 H2=>tb {D with nx:=N,ct:=N,bk:=D.nx} σ2 H2))->U a H1)->
 tl σ H fun x H1=>∃a,x=.ref a/\(∃xs,fH K H1 a xs)/\U a H1):NR (G5 K tl) g tb D σ H:=h _ fun _ _ x=>x
theorem HI{a:Option V}{r:St}{H:Hp}{Q:VK}:(gO 10 (a::r) H Q)=(gO 9 r H Q):=rfl
theorem HJ{a:Option V}{r:St}{H:Hp}{Q:VK}:(gO 11 (a::r) H Q)=(gO 10 r H Q):=rfl
theorem HK{a:Option V}{r:St}{H:Hp}{Q:VK}:(gO 12 (a::r) H Q)=(gO 11 r H Q):=rfl
theorem Je{J:It}{D:zdU}{tc:TT}{te:TE}{Q:VK}{r:St}{H:Hp}(xs:List V)(p:V->Bool)(f:V->V)(hl:xs.length<=16000000)
 (go:∀i ys,i<xs.length->J.go i (upd H D (.lst ys))) (xr:∀i ys x H',i<xs.length->J.xr i (upd H D (.lst ys)) x H'->H'=upd H D (.lst ys)/\xs[i]?=some x) (stop:∀ys,J.stop xs.length (upd H D (.lst ys)))
 (test:∀x∈xs,∀ys (R:Bool->Hp->Prop),R (p x) (upd H D (.lst ys))->tc (some x::r) (upd H D (.lst ys)) R)
 (step:∀x∈xs,p x=true->∀ys (R:VK),R (f x) (upd H D (.lst ys))->te (some x::r) (upd H D (.lst ys)) R)
 (q:Q (.ref D) (upd H D (.lst ((xs.filter p).map f)))):nV J D (jU 0) tc te Q (none::r) (upd H D (.lst [])):=by
 refine⟨fun i m τ H2=>m=xs.length-i/\i<=xs.length/\(∃x,τ=x::r)/\H2=upd H D (.lst (((xs.take i).filter p).map f)),⟨xs.length,by simp,zaJ _,⟨none,rfl⟩,by simp⟩,?_⟩
 rintro i m τ H2 ⟨rfl,hi,⟨x,rfl⟩,rfl⟩
 by_cases iR:i<xs.length
 ·refine .inr ⟨go i _ iR,fun τ' H'=>(∃x,τ'=x::r)/\H'=upd H D (.lst (((xs.take (i+1)).filter p).map f)),fun τ' H' ⟨h1,h2⟩=>⟨xs.length-(i+1),by lia,rfl,iR,h1,h2⟩,fun y H' hy=>?_⟩;obtain⟨rfl,hz⟩:=xr i _ y H' iR hy;clear hy;have hy:=hz;rw[zac iR] at hy;cases hy;have mem:=zaI iR;simp only[jU,zcQ];refine test _ mem _ _ ?_;rw[zbg iR,zcU,zaw];cases hp:p xs[i] with
  |false=>
   rw[if_neg zan];refine⟨⟨_,rfl⟩,?_⟩;simp[hp]
  |true=>
   rw[if_pos rfl];refine step _ mem hp _ _ ⟨_,aj,?_,⟨_,rfl⟩,?_⟩
   ·have h1:(((xs.take i).filter p).map f).length<=i:=by
     rw[zai];exact zaA (zcs _ _) (by rw[za0];lia)
    have:zd2=2 ^ 24:=rfl;lia
   ·rw[Bz];simp[hp]
 ·have e:i=xs.length:=by lia
  subst e;refine .inl ⟨stop _,?_⟩;rw[zbo];exact q
theorem DP{n:Nat}{D:zdU}{te:TE}{Q:VK}{r:St}{H:Hp}(f:Nat->V)(hl:n<=16000000)
 (step:∀i,i<n->∀ys (R:VK),R (f i) (upd H D (.lst ys))->te (some (.int (i:Nat))::r) (upd H D (.lst ys)) R)
 (q:Q (.ref D) (upd H D (.lst ((zaE n).map f)))):nV (KG 0 n) D (jU 0) DA te Q (none::r) (upd H D (.lst [])):=by
 refine Je ((zaE n).map fun i=>V.int (i:Nat)) (fun _=>true) (fun x=>f (match x with |.int i=>i.toNat |_=>0)) (by simpa using hl)
  (fun i ys hi=>?_) (fun i ys x H' hi hy=>?_) (fun ys=>?_) (fun x hx ys R hR=>hR) (fun x hx _ ys R hR=>?_) ?_
 ·show i<n;simpa using hi
 ·obtain⟨rfl,rfl⟩:=hy;refine⟨rfl,?_⟩;have Lc:i<n:=by simpa using hi
  rw[zaz,List.getElem?_range Lc];simp
 ·show n<=_;simp
 ·obtain⟨i,hi,rfl⟩:=zaK.mp hx;exact step i (zbh.mp hi) ys R hR
 ·rw[zdE.mpr (fun _ _=>rfl),zbv];exact q
def RL (z:Str):Prop:=PM.X2 z.cps.toList
theorem RL.app{a b:Str}(ha:RL a)(hb:RL b):RL (a++b):=fun c hc=>by
 have:c∈a.cps.toList++b.cps.toList:=by
  have e:(a++b).cps=a.cps++b.cps:=rfl;rw[e,Array.toList_append] at hc;exact hc
 rcases zaj.mp this with h |h
 ·exact ha c h
 ·exact hb c h
theorem RL.one{a:Str}(ha:RL a){c:Nat}(hc:c∈a.cps.toList):RL ⟨#[c]⟩:=fun x hx=>by
 have:x=c:=by simpa using hx
 rw[this];exact ha c hc
theorem Jf{X:Cx}(hu:X.A.units+1<cLine):nU X (compareOp .Eq) (fun x y H Q=>∃a b xs,x=.ref a/\y=.ref b/\fH X.K H a xs/\fH X.K H b []/\Q (.bl xs.isEmpty) H):=by
 intro pins s σ H x y v u Q I rx ry h;obtain⟨a,b,xs,rfl,rfl,h1,h2,q⟩:=h;cases (show v=Value.ref a from rx);cases (show u=Value.ref b from ry);obtain⟨aY,v1,p1,_⟩:=I.list h1;obtain⟨its',v2,p2,_⟩:=I.list h2;cases v2;cases xs with
 |nil=>
  cases v1;exact(RcAt.lists (e:=fun _=>true) p1.isList p2.isList rfl (by lia) (fun j h1=>absurd h1 (by simp))) _ _ _ _ ⟨.bl true,H,I,rfl,q⟩
 |cons z zs=>
  cases v1;exact(RcAt.lists_lengths p1.isList p2.isList (by simp) (by lia)) _ _ _ _ ⟨.bl false,H,I,rfl,q⟩
theorem HL{K:zaa}:zbc K (.type "int") (.type "bool")=some false:=by kernel_rfl
theorem UP{K:zaa}:zbc K (.type "str") (.type "bool")=some false:=by kernel_rfl
theorem PN{K:zaa}:zbc K (.type "tuple") (.type "tuple")=some true:=by unfold zbc;rw[if_pos (beq_self_eq_true _)]
end L2
namespace PG
open PM (W Tr)
structure ik where
 name:W
 size:Int
 first:Int
inductive cw where
 |ask (k:Int) (b:W)
 |put (k:Int) (b:W) (e:Tr)
 |say (k:Int) (e:Tr)
 |eI (k:Int) (sg:W) (l r:Tr)
 |stop (k:Int)
 |ifs (k:Int) (sg:W) (l r:Tr) (a b:List cw)
 |iU (k:Int) (sg:W) (l r:Tr) (a:List cw)
def cw.row:cw->Int
 |.ask k _=>k |.put k _ _=>k |.say k _=>k |.eI k _ _ _=>k |.stop k=>k |.ifs k _ _ _ _ _=>k |.iU k _ _ _ _=>k
inductive Wd where
 |ask |put |say |eI |stop |ifs |iU |RM |fin
 deriving DecidableEq
def cw.wd:cw->Wd
 |.ask _ _=>.ask |.put _ _ _=>.put |.say _ _=>.say |.eI _ _ _ _=>.eI |.stop _=>.stop |.ifs _ _ _ _ _ _=>.ifs |.iU _ _ _ _ _=>.iU
def UQ:Nat->Int->Int
 |0,c=>c
 |n+1,c=>UQ n (c/1000003)
def next (sc:List Int) (p:Nat):Int:=
 let many:=max 1 sc.length
 let cell:=if sc=[] then 0 else sc.getD (p%many) 0
 if cell ≥ 10 ^ 18 then UQ (min 60 (p/many)) cell%1000003 else
  let a:=(cell%2147483629+51437*((p:Int)+1)*((p:Int)+3)+1409)%2147483629
  let b:=a*a%2147483587
  let c:=(b*69621+401*(p:Int)+7)%2147483579
  c*c%2147483563/16
def pick {α:Type} (d:α) (l:List α) (n:Int):α:=l.getD n.toNat d
def zZ (sc:List Int) (bs:List ik):Nat->Nat->Tr×Nat
 |0,p=>
  let kind:=next sc p%7
  if bs≠[]/\kind<5 then (.box (pick ⟨[],0,0⟩ bs (next sc (p+1)%bs.length)).name,p+2) else (.num (next sc (p+1)%pick 1 [3,12,1000] (next sc (p+2)%3)),p+3)
 |d+1,p=>
  let kind:=next sc p%7
  if kind<3 then
   let one:=zZ sc bs d (p+1)
   let two:=zZ sc bs d one.2
   (.bin (pick [] [[43],[45],[42]] kind) one.1 two.1,two.2)
  else if bs≠[]/\kind<5 then (.box (pick ⟨[],0,0⟩ bs (next sc (p+1)%bs.length)).name,p+2) else (.num (next sc (p+1)%pick 1 [3,12,1000] (next sc (p+2)%3)),p+3)
def LW:List W:=[[99],[98,98],[97,97,97],[98,111,120,101,115]]
def xT (sc:List Int) (UR:Int):Nat->Nat->Nat->List ik×Nat
 |0,_,p=>([],p)
 |n+1,k,p=>
  let size:=2+next sc p%3
  let r:=xT sc UR n (k+1) (p+2)
  (⟨pick [] LW (((k:Int)-UR)%4),size,next sc (p+1)%size⟩::r.1,r.2)
def Td:List W:=[[60],[61]]
def LX (sc:List Int) (bs:List ik) (k:Int) (p:Nat):cw×Nat:=
 let kind:=next sc p%10
 if bs≠[]/\kind<3 then (.ask k (pick ⟨[],0,0⟩ bs (next sc (p+1)%bs.length)).name,p+2)
 else if bs≠[]/\kind<6 then
  let e:=zZ sc bs 2 (p+2)
  (.put k (pick ⟨[],0,0⟩ bs (next sc (p+1)%bs.length)).name e.1,e.2)
 else if kind=6 then
  let l:=zZ sc bs 1 (p+2)
  let r:=zZ sc bs 1 l.2
  (.eI k (pick [] Td (next sc (p+1)%2)) l.1 r.1,r.2)
 else if kind=7 then
  if next sc (p+1)%3=0 then (.stop k,p+2) else
   let e:=zZ sc bs 2 (p+2)
   (.say k e.1,e.2)
 else
  let e:=zZ sc bs 2 (p+1)
  (.say k e.1,e.2)
structure Frame where
 kind:Nat
 body:List cw
 k:Int:=0
 sg:W:=[]
 l:Tr:=.num 0
 r:Tr:=.num 0
 first:List cw:=[]
def Frame.told (f:Frame):cw:=if f.kind=1 then .ifs f.k f.sg f.l f.r f.body [] else if f.kind=2 then .ifs f.k f.sg f.l f.r f.first f.body else .iU f.k f.sg f.l f.r f.body
def close:List Frame->List Frame
 |f::g::r=>{g with body:=g.body++[f.told]}::r
 |fs=>fs
abbrev Row:=Int×Wd
def number (n:Nat) (rows:List Row) (mode:Int):Int:=
 if mode=2 then n+1+20*rows.length else if mode=3 then n+1+(rows.filter fun r=>r.2≠.RM/\r.2≠.fin).length else n+1+rows.length
structure Walk where
 p:Nat
 jL:List Frame
 rows:List Row
def turn (sc:List Int) (bs:List ik) (mode:Int) (w:Walk):Walk:=
 let k:=number bs.length w.rows mode
 let way:=next sc w.p%12
 if way<2/\w.jL.length>1 then ⟨w.p+1,close w.jL,w.rows++[(k,.fin)]⟩
 else match w.jL with
 |[]=>w
 |f::r=>
  if way=2/\f.kind=1 then ⟨w.p+1,{f with kind:=2,body:=[],first:=f.body}::r,w.rows++[(k,.RM)]⟩
  else if way<6/\w.jL.length<4 then
   let l:=zZ sc bs 1 (w.p+2)
   let e:=zZ sc bs 1 l.2
   let kd:=pick 1 [1,1,3] (way%3)
   ⟨e.2,{kind:=kd,body:=[],k:=k,sg:=pick [] Td (next sc (w.p+1)%2),l:=l.1,r:=e.1}::w.jL,w.rows++[(k,if kd=3 then .iU else .ifs)]⟩
  else
   let s:=LX sc bs k (w.p+1)
   ⟨s.2,{f with body:=f.body++[s.1]}::r,w.rows++[(k,s.1.wd)]⟩
def turns (sc:List Int) (bs:List ik) (mode:Int):Nat->Walk->Walk
 |0,w=>w
 |n+1,w=>turns sc bs mode n (turn sc bs mode w)
def ends (n:Nat) (mode:Int):Nat->Walk->Walk
 |0,w=>w
 |m+1,w=>if w.jL.length>1 then ends n mode m ⟨w.p,close w.jL,w.rows++[(number n w.rows mode,.fin)]⟩ else w
structure Prog where
 bF:List ik
 body:List cw
def HM (sc:List Int) (many:Nat) (p:Nat):Prog×List Row:=
 let bs:=xT sc (next sc p%4) (next sc (p+1)%4).toNat 0 (p+2)
 let w:=ends bs.1.length (next sc bs.2%4) 4 (turns sc bs.1 (next sc bs.2%4) many ⟨bs.2+1,[{kind:=0,body:=[]}],[]⟩)
 (⟨bs.1,(w.jL.head?.map (·.body)).getD []⟩,w.rows)
end PG
namespace PG
open PM (W Tr)
mutual
def xU:cw->List Row
 |.ifs k _ _ _ a b=>(k,.ifs)::(tq a++tq b)
 |.iU k _ _ _ a=>(k,.iU)::tq a
 |.ask k _=>[(k,.ask)]
 |.put k _ _=>[(k,.put)]
 |.say k _=>[(k,.say)]
 |.eI k _ _ _=>[(k,.eI)]
 |.stop k=>[(k,.stop)]
def tq:List cw->List Row
 |[]=>[]
 |s::r=>xU s++tq r
end
end PG
namespace PG
open PM (W Tr)
abbrev j5:=Int×Wd×List Int
def cR:List cw->Int->Int
 |[],x=>x
 |s::_,_=>s.row
mutual
def g6:cw->Int->List j5
 |.ifs k _ _ _ a b,x=>(k,.ifs,[cR a x,cR b x])::(cn a x++cn b x)
 |.iU k _ _ _ a,x=>(k,.iU,[cR a k,x])::cn a k
 |.ask k _,x=>[(k,.ask,[x])]
 |.put k _ _,x=>[(k,.put,[x])]
 |.say k _,x=>[(k,.say,[x])]
 |.eI k _ _ _,x=>[(k,.eI,[x])]
 |.stop k,_=>[(k,.stop,[0])]
def cn:List cw->Int->List j5
 |[],_=>[]
 |s::r,x=>g6 s (cR r x)++cn r x
end
mutual
theorem Jg:∀(s:cw) (x:Int),(g6 s x).map (fun r=>(r.1,r.2.1))=xU s
 |.ifs k _ _ _ a b,x=>by simp[g6,xU,mz a x,mz b x]
 |.iU k _ _ _ a,x=>by simp[g6,xU,mz a k]
 |.ask k _,x=>rfl
 |.put k _ _,x=>rfl
 |.say k _,x=>rfl
 |.eI k _ _ _,x=>rfl
 |.stop k,_=>rfl
theorem mz:∀(b:List cw) (x:Int),(cn b x).map (fun r=>(r.1,r.2.1))=tq b
 |[],_=>rfl
 |s::r,x=>by simp[cn,tq,Jg s _,mz r x]
end
inductive Tg where
 |row (k:Int) |side (k:Int) (b:Bool) |eI (k:Int) |fin
 deriving DecidableEq
end PG
namespace PG
open PM (W Tr)
mutual
def PQ:cw->List Row->Prop
 |.ifs k _ _ _ a b,rs=>(∃ra n,g7 a ra/\b=[]/\rs=(k,.ifs)::(ra++[(n,.fin)]))\/(∃ra rb n m,g7 a ra/\g7 b rb/\rs=(k,.ifs)::(ra++(n,.RM)::(rb++[(m,.fin)])))
 |.iU k _ _ _ a,rs=>∃ra n,g7 a ra/\rs=(k,.iU)::(ra++[(n,.fin)])
 |.ask k _,rs=>rs=[(k,.ask)]
 |.put k _ _,rs=>rs=[(k,.put)]
 |.say k _,rs=>rs=[(k,.say)]
 |.eI k _ _ _,rs=>rs=[(k,.eI)]
 |.stop k,rs=>rs=[(k,.stop)]
def g7:List cw->List Row->Prop
 |[],rs=>rs=[]
 |s::r,rs=>∃r1 r2,PQ s r1/\g7 r r2/\rs=r1++r2
end
theorem g7.app:∀ {a b:List cw} {ra rb:List Row},g7 a ra->g7 b rb->g7 (a++b) (ra++rb)
 |[],b,ra,rb,h,h'=>by
  rw[g7] at h;subst h;exact h'
 |s::r,b,ra,rb,h,h'=>by
  rw[g7] at h;obtain⟨r1,r2,h1,h2,rfl⟩:=h;rw[zaQ,g7];exact⟨r1,r2++rb,h1,g7.app h2 h',by rw[zaW]⟩
theorem g7.one{s:cw}{rs:List Row}(h:PQ s rs):g7 [s] rs:=by
 rw[g7];exact⟨rs,[],h,by rw[g7],by simp⟩
theorem g7.nil:g7 [] []:=by rw[g7]
def vN (n:Nat) (w:Walk):Prop:=(∀f∈w.jL,f.body.length<=n)/\w.rows.length<=n
theorem LY(sc:List Int)(bs:List ik)(mode:Int){n:Nat}{w:Walk}(h:vN n w):vN (n+1) (turn sc bs mode w):=by
 obtain⟨p,jL,rows⟩:=w;obtain⟨h1,h2⟩:=h;simp only at h1 h2;have up:∀f∈jL,f.body.length<=n+1:=fun f hf=>zbS (h1 f hf);have cl:∀l:List Frame,(∀f∈l,f.body.length<=n)->∀f∈close l,f.body.length<=n+1:=by
  intro l hl f hf
  match l,hl,hf with
  |[],_,hf=>cases hf
  |[x],hl,hf=>exact zbS (hl f hf)
  |x::y::r,hl,hf=>
   rcases zak.mp hf with rfl |hf
   ·simp;have:=hl y (by simp);lia
   ·exact zbS (hl f (by simp[hf]))
 unfold turn;simp only;split
 ·exact⟨cl jL h1,by simp;lia⟩
 ·cases jL with
  |nil=>exact⟨up,by simp only;lia⟩
  |cons f r=>
   simp only;split
   ·refine⟨fun x hx=>?_,by simp;lia⟩;rcases zak.mp hx with rfl |hx
    ·simp
    ·exact up x (by simp[hx])
   ·split
    ·refine⟨fun x hx=>?_,by simp;lia⟩;rcases zak.mp hx with rfl |hx
     ·simp
     ·exact up x hx
    ·refine⟨fun x hx=>?_,by simp;lia⟩;rcases zak.mp hx with rfl |hx
     ·have:=h1 f (by simp);simp;lia
     ·exact up x (by simp[hx])
theorem Jh{n:Nat}{w:Walk}(h:vN n w)(k:Int):vN (n+1) ⟨w.p,close w.jL,w.rows++[(k,.fin)]⟩:=by
 obtain⟨h1,h2⟩:=h;refine⟨?_,by simp;lia⟩;intro f hf;obtain⟨p,jL,rows⟩:=w;simp only at h1 hf
 match jL,h1,hf with
 |[],_,hf=>cases hf
 |[x],hl,hf=>exact zbS (hl f hf)
 |x::y::r,hl,hf=>
  rcases zak.mp hf with rfl |hf
  ·have:=hl y (by simp);simp;lia
  ·exact zbS (hl f (by simp[hf]))
mutual
def wx:cw->Nat
 |.ifs _ _ _ _ a b=>max (uM a) (uM b)+1
 |.iU _ _ _ _ a=>uM a+1
 |_=>0
def uM:List cw->Nat
 |[]=>0
 |s::r=>max (wx s) (uM r)
end
end PG
namespace PG
open PM (W Tr)
section
variable(nm:W->Prop)(ex:Tr->Prop)(sg:W->Prop)
mutual
def Oi:cw->Prop
 |.ask _ b=>nm b
 |.put _ b e=>nm b/\ex e
 |.say _ e=>ex e
 |.eI _ s l r=>sg s/\ex l/\ex r
 |.stop _=>True
 |.ifs _ s l r a b=>sg s/\ex l/\ex r/\PR a/\PR b
 |.iU _ s l r a=>sg s/\ex l/\ex r/\PR a
def PR:List cw->Prop
 |[]=>True
 |s::r=>Oi s/\PR r
end
end
section
variable{nm:W->Prop}{ex:Tr->Prop}{sg:W->Prop}
section
end
end
def xV:Tr->Nat
 |.bin _ l r=>max (xV l) (xV r)+1
 |_=>0
theorem Ba(sc:List Int)(bs:List ik)(mode:Int):∀(n m:Nat) {w:Walk},vN m w->vN (m+n) (turns sc bs mode n w)
 |0,m,_,h=>h
 |n+1,m,_,h=>by
  have:=Ba sc bs mode n (m+1) (LY sc bs mode h);rw[show m+(n+1)=m+1+n by lia];exact this
theorem DQ(n:Nat)(mode:Int):∀(k m:Nat) {w:Walk},vN m w->(ends n mode k w).rows.length<=m+k
 |0,m,w,h=>h.2
 |k+1,m,w,h=>by
  unfold ends;split
  ·have:=DQ n mode k (m+1) (Jh h (number n w.rows mode));lia
  ·have:=h.2;lia
theorem xW(sc:List Int)(many p:Nat):(HM sc many p).2.length<=many+4:=by
 unfold HM;simp only;generalize xT sc (next sc p%4) (next sc (p+1)%4).toNat 0 (p+2)=bs;have h0:vN 0 ⟨bs.2+1,[{kind:=0,body:=[]}],[]⟩:=⟨fun f hf=>by rw[zad.mp hf];exact zag _,zag _⟩
 have:=DQ bs.1.length (next sc bs.2%4) 4 _ (Ba sc bs.1 (next sc bs.2%4) many 0 h0);lia
end PG
namespace PG
open PM (W Tr)
inductive Mt where
 |op (RM fin:Option Nat)
 |back (i:Nat)
 deriving DecidableEq
abbrev Mm:=Nat->Option Mt
def Mm.set (m:Mm) (i:Nat) (x:Mt):Mm:=fun j=>if j=i then some x else m j
end PG
namespace PG
open PM (W Tr)
def At (R:List Row) (i:Nat) (rs:List Row):Prop:=∀j,j<rs.length->R[i+j]?=rs[j]?
theorem At.left{R:List Row}{i:Nat}{a b:List Row}(h:At R i (a++b)):At R i a:=fun j hj=>by
 rw[h j (by rw[zaf];lia),zau hj]
theorem At.head{R:List Row}{i:Nat}{x:Row}{b:List Row}(h:At R i (x::b)):R[i]?=some x:=by
 have:=h 0 (by simp);simpa using this
end PG
namespace PG
open PM (W Tr)
mutual
def iw:cw->List cw
 |.ifs k sg l r a b=>.ifs k sg l r a b::(bj a++bj b)
 |.iU k sg l r a=>.iU k sg l r a::bj a
 |s=>[s]
def bj:List cw->List cw
 |[]=>[]
 |s::r=>iw s++bj r
end
mutual
theorem Ji:∀s:cw,(iw s).map (fun x=>(x.row,x.wd))=xU s
 |.ifs k sg l r a b=>by
  rw[iw,xU,zar,zaw,mC a,mC b];rfl
 |.iU k sg l r a=>by
  rw[iw,xU,zar,mC a];rfl
 |.ask k _=>rfl
 |.put k _ _=>rfl
 |.say k _=>rfl
 |.eI k _ _ _=>rfl
 |.stop k=>rfl
theorem mC:∀b:List cw,(bj b).map (fun x=>(x.row,x.wd))=tq b
 |[]=>rfl
 |s::r=>by simp[bj,tq,Ji s,mC r]
end
end PG
namespace PG
open PM (W Tr)
section
variable{nm:W->Prop}{ex:Tr->Prop}{sg:W->Prop}
mutual
theorem Oj:∀(s x:cw),Oi nm ex sg s->x∈iw s->Oi nm ex sg x
 |.ifs k s l r a b,x,h,m=>by
  rw[iw] at m;rcases zak.mp m with rfl |m
  ·exact h
  ·rw[Oi] at h;rcases zaj.mp m with m |m
   ·exact qp a x h.2.2.2.1 m
   ·exact qp b x h.2.2.2.2 m
 |.iU k s l r a,x,h,m=>by
  rw[iw] at m;rcases zak.mp m with rfl |m
  ·exact h
  ·rw[Oi] at h;exact qp a x h.2.2.2 m
 |.ask k b,x,h,m=>by simp only[iw,zad] at m;subst m;exact h
 |.put k b e,x,h,m=>by simp only[iw,zad] at m;subst m;exact h
 |.say k e,x,h,m=>by simp only[iw,zad] at m;subst m;exact h
 |.eI k s l r,x,h,m=>by simp only[iw,zad] at m;subst m;exact h
 |.stop k,x,h,m=>by simp only[iw,zad] at m;subst m;exact h
theorem qp:∀(b:List cw) (x:cw),PR nm ex sg b->x∈bj b->Oi nm ex sg x
 |[],x,_,m=>by simp[bj] at m
 |s::r,x,h,m=>by
  rw[bj] at m;rw[PR] at h;rcases zaj.mp m with m |m
  ·exact Oj s x h.1 m
  ·exact qp r x h.2 m
end
end
end PG
namespace PG
open PM (W Tr)
def DR (bs:List ik):Tr->Prop
 |.num n=>0<=n/\n<1000
 |.box x=>x∈bs.map (·.name)
 |.bin o l r=>o∈([[43],[45],[42]]:List W)/\DR bs l/\DR bs r
end PG
namespace PG
def m7 (r:j5):Prop:=0<r.2.2.length/\(r.2.1=.ifs\/r.2.1=.iU->1<r.2.2.length)
mutual
theorem Jj:∀(s:cw) (x:Int),∀r∈g6 s x,m7 r
 |.ifs k sg l r a b,x,y,h=>by
  rw[g6] at h;simp only[zak,zaj] at h;rcases h with rfl |h |h
  ·simp[m7]
  ·exact mD a x y h
  ·exact mD b x y h
 |.iU k sg l r a,x,y,h=>by
  rw[g6] at h;simp only[zak] at h;rcases h with rfl |h
  ·simp[m7]
  ·exact mD a k y h
 |.ask k _,x,y,h=>by simp[g6] at h;subst h;simp[m7]
 |.put k _ _,x,y,h=>by simp[g6] at h;subst h;simp[m7]
 |.say k _,x,y,h=>by simp[g6] at h;subst h;simp[m7]
 |.eI k _ _ _,x,y,h=>by simp[g6] at h;subst h;simp[m7]
 |.stop k,x,y,h=>by simp[g6] at h;subst h;simp[m7]
theorem mD:∀(b:List cw) (x:Int),∀r∈cn b x,m7 r
 |[],x,y,h=>by simp[cn] at h
 |s::r,x,y,h=>by
  rw[cn,zaj] at h;rcases h with h |h
  ·exact Jj s _ y h
  ·exact mD r x y h
end
end PG
namespace PG
theorem kn:∀(b:List cw) (x:Int),cR b x=x\/∃t∈bj b,t.row=cR b x
 |[],x=>.inl rfl
 |s::r,x=>.inr ⟨s,by rw[bj];exact zbi _ (by cases s<;>simp[iw]),rfl⟩
mutual
theorem LZ:∀(s:cw) (x:Int),∀r∈g6 s x,∀w∈r.2.2,w=0\/w=x\/∃t∈iw s,t.row=w
 |.ifs k sg l r a b,x,y,h,w,hw=>by
  rw[g6] at h;simp only[zak,zaj] at h;rw[iw];rcases h with rfl |h |h
  ·simp only[zak,List.mem_nil_iff,or_false] at hw;rcases hw with rfl |rfl
   ·rcases kn a x with e |⟨t,ht,e⟩
    ·exact .inr (.inl e)
    ·exact .inr (.inr ⟨t,by simp[ht],e⟩)
   ·rcases kn b x with e |⟨t,ht,e⟩
    ·exact .inr (.inl e)
    ·exact .inr (.inr ⟨t,by simp[ht],e⟩)
  ·rcases oT a x y h w hw with e |e |⟨t,ht,e⟩
   ·exact .inl e
   ·exact .inr (.inl e)
   ·exact .inr (.inr ⟨t,by simp[ht],e⟩)
  ·rcases oT b x y h w hw with e |e |⟨t,ht,e⟩
   ·exact .inl e
   ·exact .inr (.inl e)
   ·exact .inr (.inr ⟨t,by simp[ht],e⟩)
 |.iU k sg l r a,x,y,h,w,hw=>by
  rw[g6] at h;simp only[zak] at h;rw[iw];have self:w=k->∃t∈(cw.iU k sg l r a::bj a),t.row=w:=fun e=>⟨_,zaq ..,e.symm⟩
  rcases h with rfl |h
  ·simp only[zak,List.mem_nil_iff,or_false] at hw;rcases hw with rfl |rfl
   ·rcases kn a k with e |⟨t,ht,e⟩
    ·exact .inr (.inr (self e))
    ·exact .inr (.inr ⟨t,by simp[ht],e⟩)
   ·exact .inr (.inl rfl)
  ·rcases oT a k y h w hw with e |e |⟨t,ht,e⟩
   ·exact .inl e
   ·exact .inr (.inr (self e))
   ·exact .inr (.inr ⟨t,by simp[ht],e⟩)
 |.ask k _,x,y,h,w,hw=>by simp[g6] at h;subst h;simp at hw;exact .inr (.inl hw)
 |.put k _ _,x,y,h,w,hw=>by simp[g6] at h;subst h;simp at hw;exact .inr (.inl hw)
 |.say k _,x,y,h,w,hw=>by simp[g6] at h;subst h;simp at hw;exact .inr (.inl hw)
 |.eI k _ _ _,x,y,h,w,hw=>by simp[g6] at h;subst h;simp at hw;exact .inr (.inl hw)
 |.stop k,x,y,h,w,hw=>by simp[g6] at h;subst h;simp at hw;exact .inl hw
theorem oT:∀(b:List cw) (x:Int),∀r∈cn b x,∀w∈r.2.2,w=0\/w=x\/∃t∈bj b,t.row=w
 |[],x,y,h,_,_=>by simp[cn] at h
 |s::r,x,y,h,w,hw=>by
  rw[cn,zaj] at h;rw[bj];rcases h with h |h
  ·rcases LZ s _ y h w hw with e |e |⟨t,ht,e⟩
   ·exact .inl e
   ·rcases kn r x with e2 |⟨t,ht,e2⟩
    ·exact .inr (.inl (e.trans e2))
    ·exact .inr (.inr ⟨t,zaR _ ht,e2.trans e.symm⟩)
   ·exact .inr (.inr ⟨t,zbi _ ht,e⟩)
  ·rcases oT r x y h w hw with e |e |⟨t,ht,e⟩
   ·exact .inl e
   ·exact .inr (.inl e)
   ·exact .inr (.inr ⟨t,zaR _ ht,e⟩)
end
def Ol (b:List cw) (row:Int):Nat:=(bj b).findIdx (fun s=>s.row==row)
theorem HN{b:List cw}(pw:(bj b).Pairwise (fun a b=>a.row<b.row))(i:Nat)(hi:i<(bj b).length):Ol b (bj b)[i].row=i:=by
 unfold Ol;rw[List.findIdx_eq hi];refine⟨by simp,fun j hj=>?_⟩;have:=zc4.mp pw j i (by lia) hi hj;simp only[beq_eq_false_iff_ne,ne_eq];lia
inductive ko where
 |on |out |eI (row:Int) |fin
deriving DecidableEq
structure Z4 where
 rows:List Int
 X6:List Int
 fin:ko
section
variable(ask:Int->Bool)(step:Int->List Int->Int->Option (Int×List Int)×Option Int)
def take1 (a:Bool) (iY:List Int):Option (Int×List Int):=if a then (match iY with |[]=>none |f::r=>some (f,r)) else some (0,iY)
end
end PG
namespace L2
open PySem
def Kg:PG.Wd->Str
 |.ask=>"ask" |.put=>"put" |.say=>"say" |.eI=>"must" |.stop=>"stop" |.ifs=>"if" |.iU=>"while" |.RM=>"else" |.fin=>"end"
mutual
def oU:PG.cw->Dp
 |.ask k b=>.tup [.str "ask",.int k,.str (S b)]
 |.put k b e=>.tup [.str "put",.int k,.str (S b),cV e]
 |.say k e=>.tup [.str "say",.int k,cV e]
 |.eI k sg l r=>.tup [.str "must",.int k,.str (S sg),cV l,cV r]
 |.stop k=>.tup [.str "stop",.int k]
 |.ifs k sg l r a b=>.tup [.str "if",.int k,.str (S sg),cV l,cV r,.lst (tw a),.lst (tw b)]
 |.iU k sg l r a=>.tup [.str "while",.int k,.str (S sg),cV l,cV r,.lst (tw a)]
def tw:List PG.cw->List Dp
 |[]=>[]
 |s::r=>oU s::tw r
end
theorem xX:∀l:List PG.cw,tw l=l.map oU
 |[]=>rfl
 |s::r=>by rw[tw,xX r];rfl
def DT (b:PG.ik):Dp:=.tup [.str (S b.name),.int b.size,.int b.first]
def UT (r:PG.Row):Dp:=.lst [.int r.1,.str (Kg r.2)]
def Om:PG.Tg->Dp
 |.row k=>.tup [.str "row",.int k]
 |.side k b=>.tup [.str "side",.int k,.bl b]
 |.eI k=>.tup [.str "must",.int k]
 |.fin=>.tup [.str "end"]
def bf (O:zdU->Prop) (H H':Hp):Prop:=∀b o,¬O b->H b=some o->H' b=some o
def Fix (K:zaa) (O:zdU->Prop) (H:Hp) (d:Dp) (v:V):Prop:=∀H',bf O H H'->Rep K H' d v
def e9 (K:zaa) (O:zdU->Prop) (H:Hp) (ds:List Dp) (vs:List V):Prop:=∀H',bf O H H'->aG K H' ds vs
section
variable{K:zaa}{O O':zdU->Prop}{H H1 H2:Hp}{d:Dp}{ds:List Dp}{v:V}{vs:List V}{p:zdU}{o:HO}
theorem bf.refl:bf O H H:=fun _ _ _ e=>e
theorem bf.trans(a:bf O H H1)(b:bf O H1 H2):bf O H H2:=fun c u n e=>b c u n (a c u n e)
theorem bf.of(s:ar H H1):bf O H H1:=fun b u _ e=>s b u e
theorem bf.mono(a:bf O H H1)(i:∀b,O b->O' b):bf O' H H1:=fun b u n e=>a b u (fun z=>n (i b z)) e
theorem bf.one(a:bH p H H1)(hp:O p):bf O H H1:=fun b u n e=>a b u (fun z=>n (by rw[z];exact hp)) e
theorem bf.put(a:bf O H H1)(hp:O p)(u:HO):bf O H (upd H1 p u):=fun b w n e=>by rw[aq (fun z=>n (by rw[z];exact hp))];exact a b w n e
theorem bf.new(a:bf O H H1)(hp:H1 p=none)(u:HO):bf O H (upd H1 p u):=fun b w n e=>by rw[aq (aB (a b w n e) hp)];exact a b w n e
theorem Fix.up(f:Fix K O H d v)(u:bf O H H1):Fix K O H1 d v:=fun H2 u2=>f H2 (u.trans u2)
theorem e9.up(f:e9 K O H ds vs)(u:bf O H H1):e9 K O H1 ds vs:=fun H2 u2=>f H2 (u.trans u2)
theorem e9.X7(f:e9 K O H ds vs):aG K H ds vs:=f H .refl
theorem Fix.sub(f:Fix K O H d v)(i:∀b,O' b->O b):Fix K O' H d v:=fun H2 u=>f H2 (u.mono i)
theorem e9.sub(f:e9 K O H ds vs)(i:∀b,O' b->O b):e9 K O' H ds vs:=fun H2 u=>f H2 (u.mono i)
theorem e9.nil:e9 K O H [] []:=fun _ _=>.nil
theorem e9.cons(a:Fix K O H d v)(b:e9 K O H ds vs):e9 K O H (d::ds) (v::vs):=fun H2 u=>.cons (a H2 u) (b H2 u)
theorem e9.snoc(b:e9 K O H ds vs)(a:Fix K O H d v):e9 K O H (ds++[d]) (vs++[v]):=fun H2 u=>(b H2 u).append (.cons (a H2 u) .nil)
theorem Fix.int{i:Int}:Fix K O H (.int i) (.int i):=fun _ _=>Rep.bO.mpr rfl
theorem Fix.str{x:Str}:Fix K O H (.str x) (.str x):=fun _ _=>Rep.aK.mpr rfl
theorem Fix.bl{x:Bool}:Fix K O H (.bl x) (.bl x):=fun _ _=>Rep.rn.mpr rfl
theorem Fix.tup(h:H p=some (.tup vs))(n:¬O p)(f:e9 K O H ds vs):Fix K O H (.tup ds) (.ref p):=fun H2 u=>Rep.aZ.mpr ⟨p,vs,rfl,.of (u p _ n h),f H2 u⟩
theorem Fix.lst(h:H p=some (.lst vs))(n:¬O p)(f:e9 K O H ds vs):Fix K O H (.lst ds) (.ref p):=fun H2 u=>Rep.iq.mpr ⟨p,vs,rfl,.of (u p _ n h),f H2 u⟩
end
structure L0(K:zaa)(H:Hp)(D S:zdU)(sc:List Int)(p:Nat):Prop where
 oW:H D=some (.lst [.ref S,.int p])
 F2:H S=some (.lst (sc.map .int))
 ne:S≠D
 len:sc.length<=63
end L2
namespace L2
open PySem
theorem L0.same{K:zaa}{H H':Hp}{D S:zdU}{sc:List Int}{p:Nat}(d:L0 K H D S sc p)(s:ar H H'):L0 K H' D S sc p:=⟨s _ _ d.oW,s _ _ d.F2,d.ne,d.len⟩
theorem fH.lT{K:zaa}{H H':Hp}{D a:zdU}{xs:List V}(h:fH K H a xs)(u:bH D H H')(n:a≠D):fH K H' a xs:=by
 rcases h with (h |⟨o,h⟩) |h
 ·exact .inl (.inl (u _ _ n h))
 ·exact .inl (.inr ⟨o,u _ _ n h⟩)
 ·exact .inr h
theorem HP{a:Option V}{r:St}{H:Hp}{Q:VK}:(gO 13 (a::r) H Q)=(gO 12 r H Q):=rfl
theorem HQ{a:Option V}{r:St}{H:Hp}{Q:VK}:(gO 14 (a::r) H Q)=(gO 13 r H Q):=rfl
def vO (K:zaa) (O:zdU->Prop) (H:Hp) (B:zdU) (bs:List PG.ik):Prop:=Fix K O H (.lst (bs.map DT)) (.ref B)/\bs.length<=10
def Own (K:zaa) (H0 H:Hp) (d:Dp) (v:V):Prop:=∀O:zdU->Prop,(∀b,O b->H0 b≠none)->Fix K O H d v
section
variable{K:zaa}{O:zdU->Prop}{H0 H H1:Hp}{d:Dp}{v:V}{D B:zdU}{bs:List PG.ik}
theorem Own.up(f:Own K H0 H d v)(u:bH D H H1)(hD:H0 D≠none):Own K H0 H1 d v:=fun O hO=>by
 have:=f (fun b=>O b\/b=D) (fun b hb=>hb.elim (hO b) (fun e=>e▸hD));exact(this.up (bf.one u (.inr rfl))).sub fun b hb=>.inl hb
theorem Own.same(f:Own K H0 H d v)(s:ar H H1):Own K H0 H1 d v:=fun O hO=>(f O hO).up (.of s)
theorem vO.up(f:vO K (·=D) H B bs)(u:bH D H H1):vO K (·=D) H1 B bs:=⟨f.1.up (bf.one u rfl),f.2⟩
theorem vO.same(f:vO K (·=D) H B bs)(s:ar H H1):vO K (·=D) H1 B bs:=⟨f.1.up (.of s),f.2⟩
theorem bH.Kh(u:bH D H H1)(hD:H1 D≠none):∀b,H b≠none->H1 b≠none:=fun b hb=>by
 by_cases e:b=D
 ·rw[e];exact hD
 ·cases z:H b with
  |none=>exact absurd z hb
  |some o=>rw[u b o e z];simp
end
def rH (K:zaa) (H0 H:Hp) (ds:List Dp) (vs:List V):Prop:=∀O:zdU->Prop,(∀b,O b->H0 b≠none)->e9 K O H ds vs
section
variable{K:zaa}{H0 H H1:Hp}{d:Dp}{v:V}{ds:List Dp}{vs:List V}{D p:zdU}
theorem rH.nil:rH K H0 H [] []:=fun _ _=>e9.nil
theorem rH.cons(a:Own K H0 H d v)(b:rH K H0 H ds vs):rH K H0 H (d::ds) (v::vs):=fun O h=>e9.cons (a O h) (b O h)
theorem Own.int{i:Int}:Own K H0 H (.int i) (.int i):=fun _ _=>Fix.int
theorem Own.str{x:Str}:Own K H0 H (.str x) (.str x):=fun _ _=>Fix.str
theorem Own.bl{x:Bool}:Own K H0 H (.bl x) (.bl x):=fun _ _=>Fix.bl
theorem rH.same(f:rH K H0 H ds vs)(s:ar H H1):rH K H0 H1 ds vs:=fun O hO=>(f O hO).up (.of s)
end
theorem rH.up{K:zaa}{H0 H H1:Hp}{ds:List Dp}{vs:List V}{D:zdU}(f:rH K H0 H ds vs)(u:bH D H H1)(hD:H0 D≠none):rH K H0 H1 ds vs:=fun O hO=>by
 have:=f (fun b=>O b\/b=D) (fun b hb=>hb.elim (hO b) (fun e=>e▸hD));exact(this.up (bf.one u (.inr rfl))).sub fun b hb=>.inl hb
theorem rH.snoc{K:zaa}{H0 H:Hp}{d:Dp}{v:V}{ds:List Dp}{vs:List V}(b:rH K H0 H ds vs)(a:Own K H0 H d v):rH K H0 H (ds++[d]) (vs++[v]):=fun O h=>e9.snoc (b O h) (a O h)
def kdS:Nat->Str
 |0=>"all"
 |1=>"if"
 |2=>"else"
 |_=>"while"
structure lq(K:zaa)(Oo:zdU->Prop)(H:Hp)(f:PG.Frame)(a b:zdU)(hd fi:V)(xs:List V):Prop where
 fr:H a=some (.lst [.str (kdS f.kind),.ref b,hd,fi])
 bd:H b=some (.lst xs)
 ok:e9 K Oo H (f.body.map oU) xs
 UU:f.kind≠0->∃c ys,hd=.ref c/\H c=some (.tup ys)/\¬Oo c/\e9 K Oo H [.str (if f.kind=3 then "while" else "if"),.int f.k,.str (S f.sg),cV f.l,cV f.r] ys
 UW:f.kind=2->Fix K Oo H (.lst (f.first.map oU)) fi
 len:xs.length=f.body.length
abbrev Wx:=PG.Frame×zdU×zdU
def zP (D P R:zdU) (gp:List Wx):List zdU:=D::P::R::gp.flatMap fun x=>[x.2.1,x.2.2]
def O (D P R:zdU) (gp:List Wx) (E:List zdU):zdU->Prop:=fun b=>b∈zP D P R gp\/b∈E
structure C8(K:zaa)(H:Hp)(D S:zdU)(sc:List Int)(p:Nat)(B:zdU)(bs:List PG.ik)(P R:zdU)(gp:List Wx)(rows:List PG.Row)(E:List zdU):Prop where
 oW:L0 K H D S sc p
 box:Fix K (O D P R gp E) H (.lst (bs.map DT)) (.ref B)
 C6:bs.length<=10
 jL:H P=some (.lst (gp.reverse.map fun x=>.ref x.2.1))
 frames:∀x∈gp,∃hd fi xs,lq K (O D P R gp E) H x.1 x.2.1 x.2.2 hd fi xs
 rows:∃Ki,H R=some (.lst Ki)/\e9 K (O D P R gp E) H (rows.map UT) Ki/\Ki.length=rows.length
 nd:(zP D P R gp).Nodup
 nS:S ∉ zP D P R gp
section
variable{K:zaa}{H H':Hp}{D S B P R:zdU}{sc:List Int}{p p':Nat}{bs:List PG.ik}{gp:List Wx}{rows:List PG.Row}{E E':List zdU}
theorem lq.up{Oo:zdU->Prop}{f:PG.Frame}{a b:zdU}{hd fi:V}{xs:List V}(x:lq K Oo H f a b hd fi xs)(u:bf Oo H H')(ha:H' a=H a)(hb:H' b=H b):lq K Oo H' f a b hd fi xs:=
 ⟨ha.trans x.fr,hb.trans x.bd,x.ok.up u,fun z=>let ⟨c,ys,e,h,n,g⟩:=x.UU z;⟨c,ys,e,u _ _ n h,n,g.up u⟩,fun z=>(x.UW z).up u,x.len⟩
theorem lq.sub{O1 O2:zdU->Prop}{f:PG.Frame}{a b:zdU}{hd fi:V}{xs:List V}(x:lq K O1 H f a b hd fi xs)(i:∀c,O2 c->O1 c):lq K O2 H f a b hd fi xs:=
 ⟨x.fr,x.bd,x.ok.sub i,fun z=>let ⟨c,ys,e,h,n,g⟩:=x.UU z;⟨c,ys,e,h,fun w=>n (i c w),g.sub i⟩,fun z=>(x.UW z).sub i,x.len⟩
theorem C8.ne(s:C8 K H D S sc p B bs P R gp rows E):D≠P/\D≠R/\P≠R/\∀x∈gp,x.2.1≠D/\x.2.2≠D/\x.2.1≠P/\x.2.2≠P/\x.2.1≠R/\x.2.2≠R:=by
 have nd:=s.nd;unfold zP at nd;rw[zbd,zbd,zbd] at nd;obtain⟨h1,h2,h3,h4⟩:=nd;simp only[zak,not_or] at h1 h2;refine⟨h1.1,h1.2.1,h2.1,fun x hx=>?_⟩;have m1:x.2.1∈gp.flatMap fun x=>[x.2.1,x.2.2]:=zbb.mpr ⟨x,hx,by simp⟩;have m2:x.2.2∈gp.flatMap fun x=>[x.2.1,x.2.2]:=zbb.mpr ⟨x,hx,by simp⟩;exact⟨fun e=>h1.2.2 (e▸m1),fun e=>h1.2.2 (e▸m2),fun e=>h2.2 (e▸m1),fun e=>h2.2 (e▸m2),fun e=>h3 (e▸m1),fun e=>h3 (e▸m2)⟩
theorem C8.Kh(s:C8 K H D S sc p B bs P R gp rows E):∀b,b∈zP D P R gp->H b≠none:=fun b hb=>by
 unfold zP at hb;simp only[zak,zbb] at hb;rcases hb with rfl |rfl |rfl |⟨x,hx,hb⟩
 ·rw[s.oW.oW];simp
 ·rw[s.jL];simp
 ·obtain⟨Ki,h,_⟩:=s.rows;rw[h];simp
 ·obtain⟨hd,fi,xs,fa⟩:=s.frames x hx;simp only[zba,or_false] at hb;rcases hb with rfl |rfl
  ·rw[fa.fr];simp
  ·rw[fa.bd];simp
theorem C8.draw(s:C8 K H D S sc p B bs P R gp rows E)(u:bH D H H')(dk:L0 K H' D S sc p'):C8 K H' D S sc p' B bs P R gp rows E:=by
 obtain⟨n1,n2,n3,n4⟩:=s.ne;have uS:bf (O D P R gp E) H H':=bf.one u (.inl (by simp[zP]));refine⟨dk,s.box.up uS,s.C6,u _ _ n1.symm s.jL,fun x hx=>?_,?_,s.nd,s.nS⟩
 ·obtain⟨hd,fi,xs,fa⟩:=s.frames x hx;obtain⟨m1,m2,_⟩:=n4 x hx;exact⟨hd,fi,xs,fa.up uS ((u _ _ m1 fa.fr).trans fa.fr.symm) ((u _ _ m2 fa.bd).trans fa.bd.symm)⟩
 ·obtain⟨Ki,h,f,l⟩:=s.rows;exact⟨Ki,u _ _ n2.symm h,f.up uS,l⟩
theorem C8.same(s:C8 K H D S sc p B bs P R gp rows E)(e:ar H H'):C8 K H' D S sc p B bs P R gp rows E:=s.draw (.of e) (s.oW.same e)
theorem C8.bF(s:C8 K H D S sc p B bs P R gp rows E):vO K (·=D) H B bs:=⟨s.box.sub fun b hb=>.inl (by rw[show b=D from hb];simp[zP]),s.C6⟩
theorem C8.row(s:C8 K H D S sc p B bs P R gp rows E){Ki:List V}(hR:H R=some (.lst Ki)){k:Int}{w:PG.Wd}{q:zdU}(hq:H q=some (.lst [.int k,.str (Kg w)]))(nq:¬O D P R gp E q):C8 K (upd H R (.lst (Ki++[.ref q]))) D S sc p B bs P R gp (rows++[(k,w)]) E:=by
 obtain⟨n1,n2,n3,n4⟩:=s.ne;have mR:R∈zP D P R gp:=by simp[zP]
 have uS:bf (O D P R gp E) H (upd H R (.lst (Ki++[.ref q]))):=bf.refl.put (.inl mR) _;have nSR:S≠R:=fun e=>s.nS (by rw[e];exact mR);refine⟨⟨by rw[aq n2];exact s.oW.oW,by rw[aq nSR];exact s.oW.F2,s.oW.ne,s.oW.len⟩,s.box.up uS,s.C6,by rw[aq n3];exact s.jL,fun x hx=>?_,?_,s.nd,s.nS⟩
 ·obtain⟨hd,fi,xs,fa⟩:=s.frames x hx;obtain⟨_,_,_,_,m1,m2⟩:=n4 x hx;exact⟨hd,fi,xs,fa.up uS (aq m1) (aq m2)⟩
 ·obtain⟨abU,h,f,l⟩:=s.rows;rw[hR] at h;cases h;refine⟨_,aj,?_,by simp[l]⟩;rw[zaw];exact(f.up uS).snoc (Fix.lst (by rw[aq (fun e=>nq (.inl (by rw[e];exact mR)))];exact hq) nq (.cons .int (.cons .str .nil)))
theorem C8.push(s:C8 K H D S sc p B bs P R gp rows E){f:PG.Frame}{a b:zdU}{hd fi:V}{xs:List V}(fa:lq K (O D P R gp E) H f a b hd fi xs)(ha:a ∉ zP D P R gp)(hb:b ∉ zP D P R gp)(X8:a≠b)(nSa:S≠a)(nSb:S≠b)(ea:a∈E)(eb:b∈E) :
 C8 K (upd H P (.lst ((gp.reverse.map fun x=>.ref x.2.1)++[.ref a]))) D S sc p B bs P R ((f,a,b)::gp) rows E:=by
 obtain⟨n1,n2,n3,n4⟩:=s.ne;have mP:P∈zP D P R gp:=by simp[zP]
 have uS:bf (O D P R gp E) H (upd H P (.lst ((gp.reverse.map fun x=>.ref x.2.1)++[.ref a]))):=bf.refl.put (.inl mP) _;have j:∀c,O D P R ((f,a,b)::gp) E c->O D P R gp E c:=fun c hc=>by
  simp only[O,zP,zak,zb9,zaQ,za5] at hc ⊢;rcases hc with (h |h |h |h |h |h) |h
  ·exact .inl (.inl h)
  ·exact .inl (.inr (.inl h))
  ·exact .inl (.inr (.inr (.inl h)))
  ·exact .inr (by rw[h];exact ea)
  ·exact .inr (by rw[h];exact eb)
  ·exact .inl (.inr (.inr (.inr h)))
  ·exact .inr h
 have nSP:S≠P:=fun e=>s.nS (by rw[e];exact mP);unfold zP at ha hb;simp only[zak,not_or] at ha hb;have nd:=s.nd;unfold zP at nd;simp only[zbd,zak,not_or] at nd;obtain⟨⟨d1,d2,d5⟩,⟨p1,p4⟩,r3,fl⟩:=nd;have nS:=s.nS;unfold zP at nS;simp only[zak,not_or] at nS;refine⟨⟨by rw[aq n1];exact s.oW.oW,by rw[aq nSP];exact s.oW.F2,s.oW.ne,s.oW.len⟩,(s.box.up uS).sub j,s.C6,by rw[aj,zb7,zaw];rfl,fun x hx=>?_,?_,?_,?_⟩
 ·rcases zak.mp hx with rfl |hx
  ·exact⟨hd,fi,xs,(fa.up uS (aq ha.2.1) (aq hb.2.1)).sub j⟩
  ·obtain⟨hd,fi,xs',fa⟩:=s.frames x hx;obtain⟨_,_,k3,k4,_,_⟩:=n4 x hx;exact⟨hd,fi,xs',(fa.up uS (aq k3) (aq k4)).sub j⟩
 ·obtain⟨Ki,h,g,l⟩:=s.rows;exact⟨Ki,by rw[aq n3.symm];exact h,(g.up uS).sub j,l⟩
 ·unfold zP;rw[zb9];simp only[zaQ,za5,zbd,zak,not_or];exact⟨⟨d1,d2,fun e=>ha.1 e.symm,fun e=>hb.1 e.symm,d5⟩,⟨p1,fun e=>ha.2.1 e.symm,fun e=>hb.2.1 e.symm,p4⟩,⟨fun e=>ha.2.2.1 e.symm,fun e=>hb.2.2.1 e.symm,r3⟩,⟨X8,ha.2.2.2⟩,hb.2.2.2,fl⟩
 ·unfold zP;rw[zb9];simp only[zaQ,za5,zak,not_or];exact⟨nS.1,nS.2.1,nS.2.2.1,nSa,nSb,nS.2.2.2⟩
end
theorem F3{K:zaa}{a D:zdU}{xs:List V}{tc:TT}{te:TE}{Q:VK}{r:St}{H:Hp}(p:Nat->Bool)(f:Nat->V)(hS:fH K H a xs)(hl:xs.length<=16000000)(hD:H D=none)
 (test:∀i x,xs[i]?=some x->∀H2,ar H H2->∀R:Bool->Hp->Prop,(∀H3,ar H2 H3->R (p i) H3)->tc (some x::r) H2 R)
 (step:∀i x,xs[i]?=some x->p i=true->∀H2,ar H H2->∀R:VK,(∀H3,ar H2 H3->R (f i) H3)->te (some x::r) H2 R)
 (q:∀H2,ar H H2->H2 D=some (.lst (((zaE xs.length).filter p).map f))->Q (.ref D) H2):nV (IJ K a) D (jU 0) tc te Q (none::r) (upd H D (.lst [])):=by
 refine⟨fun i m τ H2=>m=xs.length-i/\i<=xs.length/\(∃x,τ=x::r)/\ar H H2/\H2 D=some (.lst (((zaE i).filter p).map f)),⟨xs.length,by simp,zaJ _,⟨none,rfl⟩,ar.new hD _,by rw[aj];simp⟩,?_⟩
 rintro i m τ H2 ⟨rfl,hi,⟨x,rfl⟩,s2,h2⟩
 by_cases iR:i<xs.length
 ·refine .inr ⟨⟨xs,xs[i],s2.seq hS,by simp[iR]⟩,fun τ' H'=>(∃x,τ'=x::r)/\ar H H'/\H' D=some (.lst (((zaE (i+1)).filter p).map f)),fun τ' H' ⟨h1,h3,h4⟩=>⟨xs.length-(i+1),by lia,rfl,iR,h1,h3,h4⟩,fun y H' hy=>?_⟩;obtain⟨rfl,hy⟩:=hy;have ey:=hy _ (s2.seq hS);simp only[jU,zcQ];refine test i y ey _ s2 _ fun H3 s3=>?_;have X9:=s2.trans s3;have h3:=s3 _ _ h2;rw[List.range_succ,zcU,zaw];cases hp:p i with
  |false=>
   rw[if_neg zan];exact⟨⟨_,rfl⟩,X9,by rw[h3];simp[hp]⟩
  |true=>
   rw[if_pos rfl];refine step i y ey hp _ X9 _ fun H4 s4=>⟨_,s4 _ _ h3,?_,⟨_,rfl⟩,?_,?_⟩
   ·have h1:(((zaE i).filter p).map f).length<=i:=by
     rw[zai];exact zaA (zcs _ _) (by rw[zb8];lia)
    have:zd2=2 ^ 24:=rfl;lia
   ·intro b o e;rw[aq (aB e hD)];exact s4 _ _ (X9 _ _ e)
   ·rw[aj];simp[hp]
 ·have e:i=xs.length:=by lia
  subst e;exact .inl ⟨⟨xs,s2.seq hS,zag _⟩,q H2 s2 h2⟩
theorem HR{X:Cx}{K:zaa}(h:X.K=K):N0 X (K3 K):=h▸bE
theorem Jk{X:Cx}{K:zaa}(h:X.K=K):nU X (compareOp .NotIn) (XH K true):=h▸jZ
def Kept (D:zdU) (H H':Hp):Prop:=bH D H H'/\∀b,H b≠none->H' b≠none
theorem Kept.up{D:zdU}{H H1 H2:Hp}(k:Kept D H H1)(u:bH D H1 H2)(hD:H2 D≠none):Kept D H H2:=⟨k.1.trans u,fun b hb=>u.Kh hD b (k.2 b hb)⟩
theorem Kept.same{D:zdU}{H H1 H2:Hp}(k:Kept D H H1)(s:ar H1 H2):Kept D H H2:=⟨k.1.trans (.of s),fun b hb=>by
 have:=k.2 b hb;cases z:H1 b with
 |none=>exact absurd z this
 |some o=>rw[s _ _ z];simp⟩
theorem Kept.put{D q:zdU}{H H1:Hp}(k:Kept D H H1)(hq:H q=none)(o:HO):Kept D H (upd H1 q o):=⟨fun b u n e=>by rw[aq (aB e hq)];exact k.1 b u n e,fun b hb=>by
 by_cases z:b=q
 ·rw[z,aj];simp
 ·rw[aq z];exact k.2 b hb⟩
def xY:PG.cw->List (List PG.cw)
 |.ifs _ _ _ _ a b=>[a,b]
 |.iU _ _ _ _ a=>[a]
 |_=>[]
def RO (r:PG.j5):Dp:=.tup [.int r.1,.str (Kg r.2.1),.tup (r.2.2.map .int)]
theorem Jl{K:zaa}{H:Hp}:∀(s:PG.cw) {v:V},Rep K H (oU s) v->∃a ys,v=.ref a/\cv K H a (.str (Kg s.wd) :: .int s.row::ys):=by
 intro s v h;have key:∃ds,oU s=.tup (.str (Kg s.wd) :: .int s.row::ds):=by
  cases s<;>exact⟨_,by rw[oU];rfl⟩
 obtain⟨ds,e⟩:=key;rw[e,Rep.aZ] at h;obtain⟨a,xs,rfl,q,r⟩:=h;rw[aG.aM] at r;obtain⟨v1,t1,rfl,e1,r⟩:=r;rw[aG.aM] at r;obtain⟨v2,t2,rfl,e2,_⟩:=r;rw[Rep.aK] at e1;rw[Rep.bO] at e2;subst e1 e2;exact⟨a,t2,rfl,q⟩
mutual
def NB:Dp->Bool
 |.lst _=>false
 |.tup l=>wz l
 |_=>true
def wz:List Dp->Bool
 |[]=>true
 |d::r=>NB d&&wz r
end
end L2
namespace L2
open PySem
structure Te(K:zaa)(H H2:Hp)(tl:zdU)(H3:Hp)(us:List V)(pre:List PG.Tg):Prop where
 s:ar H H3
 u:bf (·=tl) H2 H3
 y:H3 tl=some (.lst us)
 f:e9 K (·=tl) H3 (pre.map Om) us
 l:us.length=pre.length
section
variable{K:zaa}{H H2 H3 H4:Hp}{tl p:zdU}{us vs:List V}{pre:List PG.Tg}{ds:List Dp}{g:PG.Tg}
theorem Te.same(a:Te K H H2 tl H3 us pre)(s:ar H3 H4):Te K H H2 tl H4 us pre:=⟨a.s.trans s,a.u.trans (.of s),s _ _ a.y,a.f.up (.of s),a.l⟩
theorem Te.app(a:Te K H H2 tl H3 us pre)(ht:H tl=none)(hp:H3 p=none)(hg:Om g=.tup ds)(hv:∀Hx,e9 K (·=tl) Hx ds vs) :
 Te K H H2 tl (upd (upd H3 p (.tup vs)) tl (.lst (us++[.ref p]))) (us++[.ref p]) (pre++[g]):=by
 have b:=a.same (ar.new hp (.tup vs));have np:p≠tl:=(aB a.y hp).symm;have t:(upd H3 p (.tup vs)) p=some (.tup vs):=aj;generalize upd H3 p (.tup vs)=H5 at *;have uu:bf (·=tl) H5 (upd H5 tl (.lst (us++[.ref p]))):=bf.refl.put (O:=(·=tl)) rfl _;refine⟨fun z o e=>by rw[aq (aB e ht)];exact b.s z o e,b.u.trans uu,aj,?_,by simp[a.l]⟩;rw[zaw];refine(b.f.snoc (d:=Om g) (v:=.ref p) ?_).up uu;rw[hg];exact Fix.tup t np (hv _)
end
def UX:Option Nat->V
 |none=>.dh
 |some e=>.int e
def mtV (A:Nat->zdU) (p:Nat):Option PG.Mt->Option V
 |none=>none
 |some (.back q)=>some (.int q)
 |some (.op _ _)=>some (.ref (A p))
structure PU(H:Hp)(d:zdU)(m:PG.Mm)(A:Nat->zdU)(Hx:Hp)(aV:List (Key×V)):Prop where
 s:ar H Hx
 dn:H d=none
 dd:Hx d=some (.dK aV)
 at_:∀p:Nat,dX aV (.inl (p:Int))=mtV A p (m p)
 ls:∀p e f,m p=some (.op e f)->Hx (A p)=some (.lst [UX e,UX f])/\H (A p)=none
 inj:∀p q e f e' f',m p=some (.op e f)->m q=some (.op e' f')->A p=A q->p=q
section
variable{H Hx H':Hp}{d b:zdU}{m:PG.Mm}{A:Nat->zdU}{aV:List (Key×V)}{o:HO}
theorem PU.ne(t:PU H d m A Hx aV){p:Nat}{e f:Option Nat}(h:m p=some (.op e f)):A p≠d:=cM (t.ls p e f h).1 t.dd (by intro z;cases z)
theorem PU.same(t:PU H d m A Hx aV)(s:ar Hx H'):PU H d m A H' aV:=⟨t.s.trans s,t.dn,s _ _ t.dd,t.at_,fun p e f h=>⟨s _ _ (t.ls p e f h).1,(t.ls p e f h).2⟩,t.inj⟩
theorem PU.put(t:PU H d m A Hx aV)(hb:H b=none)(nd:b≠d)(nl:∀p e f,m p=some (.op e f)->A p≠b)(o:HO):PU H d m A (upd Hx b o) aV:=
 ⟨fun z u e=>by rw[aq (aB e hb)];exact t.s z u e,t.dn,by rw[aq nd.symm];exact t.dd,t.at_,fun p e f h=>⟨by rw[aq (nl p e f h)];exact(t.ls p e f h).1,(t.ls p e f h).2⟩,t.inj⟩
end
structure rJ(K:zaa)(H:Hp)(tl:zdU)(H3:Hp)(us:List V)(ds:List Dp):Prop where
 s:ar H H3
 y:H3 tl=some (.lst us)
 f:e9 K (·=tl) H3 ds us
 l:us.length=ds.length
section
variable{K:zaa}{H H3 H4:Hp}{tl p p1 p2:zdU}{us vs:List V}{ds es:List Dp}{d:Dp}{v:V}
theorem rJ.new(h:H tl=none):rJ K H tl (upd H tl (.lst [])) [] []:=⟨ar.new h _,aj,.nil,rfl⟩
theorem rJ.same(a:rJ K H tl H3 us ds)(s:ar H3 H4):rJ K H tl H4 us ds:=⟨a.s.trans s,s _ _ a.y,a.f.up (.of s),a.l⟩
theorem rJ.push(a:rJ K H tl H3 us ds)(ht:H tl=none)(fv:Fix K (·=tl) H3 d v):rJ K H tl (upd H3 tl (.lst (us++[v]))) (us++[v]) (ds++[d]):=by
 have uu:bf (·=tl) H3 (upd H3 tl (.lst (us++[v]))):=bf.refl.put (O:=(·=tl)) rfl _;exact⟨fun z o e=>by rw[aq (aB e ht)];exact a.s z o e,aj,(a.f.snoc fv).up uu,by simp[a.l]⟩
theorem rJ.row(a:rJ K H tl H3 us ds)(ht:H tl=none){k:Int}{w:PG.Wd}{ws:List Int}(h1:H3 p1=none)(h2:(upd H3 p1 (.tup (ws.map V.int))) p2=none) :
 (upd (upd H3 p1 (.tup (ws.map V.int))) p2 (.tup [.int k,.str (Kg w),.ref p1])) tl=some (.lst us)/\
 rJ K H tl (upd (upd (upd H3 p1 (.tup (ws.map V.int))) p2 (.tup [.int k,.str (Kg w),.ref p1])) tl (.lst (us++[.ref p2]))) (us++[.ref p2]) (ds++[RO (k,w,ws)]):=by
 have s1:=ar.new h1 (.tup (ws.map V.int));have a1:=a.same s1;have t1:(upd H3 p1 (.tup (ws.map V.int))) p1=some (.tup (ws.map V.int)):=aj;have n1:p1≠tl:=(aB a.y h1).symm;generalize upd H3 p1 (.tup (ws.map V.int))=H5 at *;have s2:=ar.new h2 (.tup [.int k,.str (Kg w),.ref p1]);have a2:=a1.same s2;have t2:(upd H5 p2 (.tup [.int k,.str (Kg w),.ref p1])) p2=some (.tup [.int k,.str (Kg w),.ref p1]):=aj;have n2:p2≠tl:=(aB a1.y h2).symm;have t1:=s2 _ _ t1;generalize upd H5 p2 (.tup [.int k,.str (Kg w),.ref p1])=H6 at *;refine⟨a2.y,a2.push ht (Fix.tup t2 n2 (.cons .int (.cons .str (.cons (Fix.tup t1 n1 ?_) .nil))))⟩;have allI:∀l:List Int,e9 K (·=tl) H6 (l.map Dp.int) (l.map V.int):=fun l=>by
  induction l with
  |nil=>exact .nil
  |cons i r ih=>exact .cons .int ih
 exact allI ws
end
def vP (ss:List PG.cw) (vs:List V):List (Key×V):=zdO (fun s v=>(Sum.inl s.row,v)) ss vs
theorem DU:∀(ss:List PG.cw) (vs:List V),vs.length=ss.length->ss.Pairwise (fun a b=>a.row<b.row)->∀i (hi:i<ss.length) v,vs[i]?=some v->dX (vP ss vs) (.inl ss[i].row)=some v
 |[],_,_,_,i,hi,_,_=>by simp at hi
 |_::_,[],h,_,_,_,_,_=>by simp at h
 |s::ss,v::vs,h,hp,0,hi,u,hu=>by
  simp at hu;subst hu;show dX ((_,v)::vP ss vs) _=_;exact dB rfl
 |s::ss,v::vs,h,hp,i+1,hi,u,hu=>by
  rw[zb3] at hp;have lt:=hp.1 (ss[i]'(by simpa using hi)) (zaI _);show dX ((.inl s.row,v)::vP ss vs) (.inl (ss[i]'(by simpa using hi)).row)=_;rw[dC (fun e=>by have e:=Sum.inl.inj e;lia)];exact DU ss vs (by simpa using h) hp.2 i (by simpa using hi) u (by simpa using hu)
theorem L1{K:zaa}{tl:TE}{g:TG}{tb:TS}{D:Ends}{σ:St}{H:Hp} (h:∀U:zdU->Hp->Prop,(∀a H1,(∃W:Nat->Nat->St->Hp->Prop,(∃m,W 0 m σ H1)/\∀i m σ H,W i m σ H->
 ((NQ K a).stop i H/\D.nx σ H)\/((NQ K a).go i H/\∃N:St->Hp->Prop,(∀σ' H',N σ' H'->∃m',m'<m/\W (i+1) m' σ' H')/\∀x H',(NQ K a).xr i H x H'->g x σ H' fun σ2 H2=>tb {D with nx:=N,ct:=N,bk:=D.nx} σ2 H2))->U a H1)->
 tl σ H fun x H1=>∃a,x=.ref a/\(∃xs,cv K H1 a xs)/\U a H1):NR (T8 K tl) g tb D σ H:=h _ fun _ _ x=>x
def jM {α β γ:Type} (R:α->β->γ->Prop):List α->List β->List γ->Prop
 |[],[],[]=>True
 |a::as,b::bs,c::cs=>R a b c/\jM R as bs cs
 |_,_,_=>False
section
variable{α β γ:Type}{R S:α->β->γ->Prop}
theorem jM.aS{bs:List β}{cs:List γ}:jM R [] bs cs↔bs=[]/\cs=[]:=by
 cases bs<;>cases cs<;>simp[jM]
theorem jM.aM{a:α}{as:List α}{bs:List β}{cs:List γ}:jM R (a::as) bs cs↔∃b Tf c Th,bs=b::Tf/\cs=c::Th/\R a b c/\jM R as Tf Th:=by
 constructor
 ·intro h;cases bs with
  |nil=>simp[jM] at h
  |cons b bs=>
   cases cs with
   |nil=>simp[jM] at h
   |cons c cs=>exact⟨b,bs,c,cs,rfl,rfl,h.1,h.2⟩
 ·rintro ⟨b,Tf,c,Th,rfl,rfl,h1,h2⟩
  exact⟨h1,h2⟩
theorem jM.length:∀ {as:List α} {bs:List β} {cs:List γ},jM R as bs cs->bs.length=as.length/\cs.length=as.length
 |[],_,_,h=>by obtain⟨rfl,rfl⟩:=jM.aS.mp h;exact⟨rfl,rfl⟩
 |a::as,_,_,h=>by
  obtain⟨b,Tf,c,Th,rfl,rfl,_,h2⟩:=jM.aM.mp h;have:=jM.length h2;simp[this]
theorem jM.imp:∀ {as:List α} {bs:List β} {cs:List γ},jM R as bs cs->(∀a b c,a∈as->c∈cs->R a b c->S a b c)->jM S as bs cs
 |[],_,_,h,_=>by obtain⟨rfl,rfl⟩:=jM.aS.mp h;trivial
 |a::as,_,_,h,f=>by
  obtain⟨b,Tf,c,Th,rfl,rfl,h1,h2⟩:=jM.aM.mp h;exact⟨f a b c (zaq ..) (zaq ..) h1,h2.imp fun a' b' c' m1 m2=>f a' b' c' (zam _ m1) (zam _ m2)⟩
theorem jM.snoc:∀ {as:List α} {bs:List β} {cs:List γ} {a:α} {b:β} {c:γ},jM R as bs cs->R a b c->jM R (as++[a]) (bs++[b]) (cs++[c])
 |[],_,_,a,b,c,h,r=>by obtain⟨rfl,rfl⟩:=jM.aS.mp h;exact⟨r,trivial⟩
 |x::as,_,_,a,b,c,h,r=>by
  obtain⟨b',Tf,c',Th,rfl,rfl,h1,h2⟩:=jM.aM.mp h;exact⟨h1,jM.snoc h2 r⟩
end
def C9:PG.cw->List Dp
 |.ask k b=>[.str "ask",.int k,.str (S b)]
 |.put k b e=>[.str "put",.int k,.str (S b),cV e]
 |.say k e=>[.str "say",.int k,cV e]
 |.eI k sg l r=>[.str "must",.int k,.str (S sg),cV l,cV r]
 |.stop k=>[.str "stop",.int k]
 |.ifs k sg l r _ _=>[.str "if",.int k,.str (S sg),cV l,cV r]
 |.iU k sg l r _=>[.str "while",.int k,.str (S sg),cV l,cV r]
theorem RQ(s:PG.cw):oU s=.tup (C9 s++(xY s).map fun b=>.lst (b.map oU)):=by
 cases s<;>simp[oU,C9,xY,xX]
mutual
theorem L4:∀t:PM.Tr,NB (cV t)=true
 |.num n=>by simp[cV,NB,wz]
 |.box n=>by simp[cV,NB,wz]
 |.bin o l r=>by simp[cV,NB,wz,L4 l,L4 r]
end
theorem HS(s:PG.cw):wz (C9 s)=true:=by cases s<;>simp[C9,wz,NB,L4]
section
variable{K:zaa}{H H':Hp}{O:zdU->Prop}
theorem uN(hO:∀g,O g->∃ys,H g=some (.lst ys))(u:bf O H H'){a:zdU}{ys:List V}(q:cv K H a ys):cv K H' a ys:=by
 rcases q with (q |⟨o,q⟩) |q
 ·exact .inl (.inl (u _ _ (fun z=>by obtain⟨_,e⟩:=hO a z;rw[e] at q;cases q) q))
 ·exact .inl (.inr ⟨o,u _ _ (fun z=>by obtain⟨_,e⟩:=hO a z;rw[e] at q;cases q) q⟩)
 ·exact .inr q
mutual
theorem Jm(hO:∀g,O g->∃ys,H g=some (.lst ys))(u:bf O H H'):∀(d:Dp) (v:V),NB d=true->Rep K H d v->Rep K H' d v
 |.dh,v,_,r=>by rw[Rep.qk] at r ⊢;exact r
 |.bl b,v,_,r=>by rw[Rep.rn] at r ⊢;exact r
 |.int b,v,_,r=>by rw[Rep.bO] at r ⊢;exact r
 |.str b,v,_,r=>by rw[Rep.aK] at r ⊢;exact r
 |.lst l,v,e,_=>by rw[NB] at e;cases e
 |.tup l,v,e,r=>by
  rw[NB] at e;rw[Rep.aZ] at r ⊢;obtain⟨a,ys,rfl,q,rs⟩:=r;exact⟨a,ys,rfl,uN hO u q,iZ hO u l ys e rs⟩
theorem iZ(hO:∀g,O g->∃ys,H g=some (.lst ys))(u:bf O H H'):∀(ds:List Dp) (vs:List V),wz ds=true->aG K H ds vs->aG K H' ds vs
 |[],vs,_,r=>by rw[aG.aS] at r ⊢;exact r
 |d::ds,vs,e,r=>by
  rw[wz,zaD] at e;rw[aG.aM] at r ⊢;obtain⟨v,t,rfl,r1,r2⟩:=r;exact⟨v,t,rfl,Jm hO u d v e.1 r1,iZ hO u ds t e.2 r2⟩
end
end
theorem F4{K:zaa}{a D:zdU}{xs:List V}{te:TE}{Q:VK}{r:St}{H:Hp}(Pv:Nat->List V->Hp->Prop)(hS:fH K H a xs)(hl:xs.length<=16000000)(hD:H D=none)(h0:Pv 0 [] (upd H D (.lst [])))
 (step:∀i x ys H2,xs[i]?=some x->ar H H2->H2 D=some (.lst ys)->ys.length=i->Pv i ys H2->∀R:VK,(∀v H3,ar H2 H3->Pv (i+1) (ys++[v]) (upd H3 D (.lst (ys++[v])))->R v H3)->te (some x::r) H2 R)
 (q:∀ys H2,ar H H2->H2 D=some (.lst ys)->Pv xs.length ys H2->Q (.ref D) H2):nV (IJ K a) D (jU 0) DA te Q (none::r) (upd H D (.lst [])):=by
 refine⟨fun i m τ H2=>m=xs.length-i/\i<=xs.length/\(∃x,τ=x::r)/\ar H H2/\∃ys,H2 D=some (.lst ys)/\ys.length=i/\Pv i ys H2,⟨xs.length,by simp,zaJ _,⟨none,rfl⟩,ar.new hD _,[],aj,rfl,h0⟩,?_⟩
 rintro i m τ H2 ⟨rfl,hi,⟨x,rfl⟩,s2,ys,h2,ly,p2⟩
 by_cases iR:i<xs.length
 ·refine .inr ⟨⟨xs,xs[i],s2.seq hS,by simp[iR]⟩,fun τ' H'=>(∃x,τ'=x::r)/\ar H H'/\∃ys,H' D=some (.lst ys)/\ys.length=i+1/\Pv (i+1) ys H',fun τ' H' ⟨h1,h3,h4⟩=>⟨xs.length-(i+1),by lia,rfl,iR,h1,h3,h4⟩,fun y H' hy=>?_⟩;obtain⟨rfl,hy⟩:=hy;have ey:=hy _ (s2.seq hS);simp only[jU,zcQ,DA];rw[if_pos trivial];refine step i y ys _ ey s2 h2 ly p2 _ fun v H3 s3 p3=>⟨ys,s3 _ _ h2,?_,⟨_,rfl⟩,?_,ys++[v],aj,by simp[ly],p3⟩
  ·have:zd2=2 ^ 24:=rfl;lia
  ·intro b o e;rw[aq (aB e hD)];exact s3 _ _ (s2 _ _ e)
 ·have e:i=xs.length:=by lia
  subst e;exact .inl ⟨⟨xs,s2.seq hS,zag _⟩,q ys H2 s2 h2 p2⟩
end L2
namespace L2
open PySem
theorem HU:∀l:List Int,PyData.canLayAll0 (Dp.nW (l.map Dp.int))=true/\PyData.depthAll (Dp.nW (l.map Dp.int))=0
 |[]=>by simp[Dp.nW,PyData.canLayAll0,PyData.depthAll]
 |i::r=>by
  obtain⟨h1,h2⟩:=HU r;simp[Dp.nW,Dp.py,PyData.canLayAll0,PyData.depthAll,PyData.canLay0,PyData.depth,h1,h2]
section
variable{K:zaa}{H H':Hp}{p C dx:zdU}{fs:List (Str×V)}
mutual
theorem Oq(h:H p=some (.ins C dx fs))(u:bf (·=p) H H'):∀(d:Dp) (v:V),Rep K H d v->Rep K H' d v
 |.dh,v,r=>by rw[Rep.qk] at r ⊢;exact r
 |.bl b,v,r=>by rw[Rep.rn] at r ⊢;exact r
 |.int b,v,r=>by rw[Rep.bO] at r ⊢;exact r
 |.str b,v,r=>by rw[Rep.aK] at r ⊢;exact r
 |.lst l,v,r=>by
  rw[Rep.iq] at r ⊢;obtain⟨a,ys,rfl,q,rs⟩:=r;refine⟨a,ys,rfl,?_,tD h u l ys rs⟩;rcases q with (q |⟨o,q⟩) |q
  ·exact .inl (.inl (u _ _ (cM q h (by intro z;cases z)) q))
  ·exact .inl (.inr ⟨o,u _ _ (cM q h (by intro z;cases z)) q⟩)
  ·exact .inr q
 |.tup l,v,r=>by
  rw[Rep.aZ] at r ⊢;obtain⟨a,ys,rfl,q,rs⟩:=r;refine⟨a,ys,rfl,?_,tD h u l ys rs⟩;rcases q with (q |⟨o,q⟩) |q
  ·exact .inl (.inl (u _ _ (cM q h (by intro z;cases z)) q))
  ·exact .inl (.inr ⟨o,u _ _ (cM q h (by intro z;cases z)) q⟩)
  ·exact .inr q
theorem tD(h:H p=some (.ins C dx fs))(u:bf (·=p) H H'):∀(ds:List Dp) (vs:List V),aG K H ds vs->aG K H' ds vs
 |[],vs,r=>by rw[aG.aS] at r ⊢;exact r
 |d::ds,vs,r=>by
  rw[aG.aM] at r ⊢;obtain⟨v,t,rfl,r1,r2⟩:=r;exact⟨v,t,rfl,Oq h u d v r1,tD h u ds t r2⟩
end
end
theorem mE{K:zaa}{a D:zdU}{xs:List V}{te:TE}{Q:VK}{r:St}{H:Hp}(f:Nat->V)(hS:fH K H a xs)(hl:xs.length<=16000000)(hD:H D=none)
 (step:∀i x H2,xs[i]?=some x->ar H H2->∀R:VK,R (f i) H2->te (some x::r) H2 R)
 (q:∀H2,ar H H2->H2 D=some (.lst ((zaE xs.length).map f))->Q (.ref D) H2):nV (IJ K a) D (jU 0) DA te Q (none::r) (upd H D (.lst [])):=by
 refine F4 (K:=K) (fun i ys H2=>ys=(zaE i).map f) hS hl hD rfl ?_ ?_
 ·rintro i x ys H2 hx s2 Z5 ly rfl R hR
  exact step i x H2 hx s2 R (hR _ _ (ar.refl _) (by rw[List.range_succ,zaw];rfl))
 ·rintro ys H2 s2 Z5 rfl
  exact q H2 s2 Z5
structure Kj(K:zaa)(C:zdU)(H:Hp)(p:zdU)(pr:PG.Prog):Prop where
 at_:∃(dx nl sd fa va st wy:zdU) (us ws:List V),H p=some (.ins C dx [("names",.ref nl),("sizes",.ref sd),("first",.ref fa),("statements",.ref st),("ways",.ref wy)])/\H dx=some (.own p)/\
  H nl=some (.lst (pr.bF.map fun b=>.str (S b.name)))/\H sd=some (.dK (pr.bF.map fun b=>(.inr (S b.name),.int b.size)))/\
  H fa=some (.tup [.int (PG.cR pr.body 0),.ref va])/\H va=some (.tup (pr.bF.map fun b=>.int b.first))/\
  us.length=(PG.bj pr.body).length/\H st=some (.dK (vP (PG.bj pr.body) us))/\aG K H ((PG.bj pr.body).map oU) us/\
  ws.length=(PG.cn pr.body 0).length/\H wy=some (.dK (zdO (fun r v=>(Sum.inl r.1,v)) (PG.cn pr.body 0) ws))/\∀i (hi:i<(PG.cn pr.body 0).length),∃q,ws[i]?=some (.ref q)/\cv K H q ((PG.cn pr.body 0)[i].2.2.map V.int)
end L2
namespace L2
open PySem
def wkv (aV:List (Key×V)) (x:W):Int:=match dX aV (.inr (S x)) with
 |some (.int i)=>i
 |_=>0
theorem Kj.mono{K:zaa}{C p:zdU}{H H':Hp}{pr:PG.Prog}(c:Kj K C H p pr)(s:ar H H'):Kj K C H' p pr:=by
 obtain⟨dx,nl,sd,fa,va,st,wy,us,ws,h1,h2,h3,h4,h5,h6,h7,h8,h9,UY,UZ,U0⟩:=c.at_;exact⟨⟨dx,nl,sd,fa,va,st,wy,us,ws,s _ _ h1,s _ _ h2,s _ _ h3,s _ _ h4,s _ _ h5,s _ _ h6,h7,s _ _ h8,h9.mono s,UY,s _ _ UZ,fun i hi=>let ⟨q,e,r⟩:=U0 i hi;⟨q,e,s.dQ r⟩⟩⟩
def RT (bs:List PG.ik) (vs:List V):List (Key×V):=zdO (fun b v=>(Sum.inr (S b.name),v)) bs vs
def Va:PG.cw->Option (W×PM.Tr×PM.Tr)
 |.eI _ sg l r=>some (sg,l,r)
 |.ifs _ sg l r _ _=>some (sg,l,r)
 |.iU _ sg l r _=>some (sg,l,r)
 |_=>none
def RU (sg:W) (a b:Int):Bool:=if sg=[60] then decide (a<b) else decide (a=b)
def wv (bs:List PG.ik) (vals:List Int) (e:PM.Tr):Int:=rF (wkv (RT bs (vals.map V.int))) e
def gA (K:zaa) (H:Hp) (sa:zdU) (row:Int) (vals:List Int):Prop:=∃va,cv K H sa [.int row,.ref va]/\cv K H va (vals.map V.int)
theorem gA.mono{K:zaa}{H H':Hp}{sa:zdU}{row:Int}{vals:List Int}(h:gA K H sa row vals)(s:ar H H'):gA K H' sa row vals:=by obtain⟨va,h1,h2⟩:=h;exact⟨va,s.dQ h1,s.dQ h2⟩
structure RV(pr:PG.Prog):Prop where
 pw:(PG.bj pr.body).Pairwise (fun a b=>a.row<b.row)
 nb:(pr.bF.map (·.name)).Nodup
 C6:pr.bF.length<=10
 pos:∀s∈PG.bj pr.body,0<s.row
theorem xZ(b:List PG.cw)(i:Nat)(hi:i<(PG.bj b).length):∃hf:i<(PG.cn b 0).length,(PG.cn b 0)[i].1=(PG.bj b)[i].row/\(PG.cn b 0)[i].2.1=(PG.bj b)[i].wd:=by
 have e:((PG.cn b 0).map fun r=>(r.1,r.2.1))=(PG.bj b).map fun x=>(x.row,x.wd):=by rw[PG.mz,PG.mC]
 have l:=congrArg zbG e;rw[zai,zai] at l;have hf:i<(PG.cn b 0).length:=by lia
 refine⟨hf,?_⟩;have h1:((PG.cn b 0).map fun r=>(r.1,r.2.1))[i]?=((PG.bj b).map fun x=>(x.row,x.wd))[i]?:=by rw[e]
 rw[zaz,zaz,zac hf,zac hi] at h1;have h1:=zaF.inj h1;exact⟨congrArg Prod.fst h1,congrArg Prod.snd h1⟩
def L5 (K:zaa) (H:Hp):Option (Int×List Int)->V->Prop
 |none,v=>v=.dh
 |some x,v=>∃a,v=.ref a/\gA K H a x.1 x.2
def oX (bs:List PG.ik) (st:PG.cw) (ws:List Int) (vals:List Int):Option (Int×List Int):=match Va st with
 |none=>none
 |some (sg,l,r)=>if RU sg (wv bs vals l) (wv bs vals r) then some (ws.getD 0 0,vals) else if st.wd=.eI then none else some (ws.getD 1 0,vals)
open PyProof.Rows
def Bb (bs:List PG.ik) (x:W):Nat:=(bs.map (·.name)).idxOf x
def BS (bs:List PG.ik) (vals:List Int) (x:W) (v:Int):List Int:=vals.set (Bb bs x) v
def lB (bs:List PG.ik) (x:W):Int:=((bs[Bb bs x]?).map (·.size)).getD 1
def cK (bs:List PG.ik) (st:PG.cw) (ws vals:List Int) (Ww:Int):Option (Int×List Int)×Option Int:=match st with
 |.ask _ b=>(some (ws.getD 0 0,BS bs vals b (Ww%lB bs b)),none)
 |.put _ b e=>(some (ws.getD 0 0,BS bs vals b (wv bs vals e%lB bs b)),none)
 |.say _ e=>(some (ws.getD 0 0,vals),some (wv bs vals e))
 |.stop _=>(some (ws.getD 0 0,vals),none)
 |st=>(oX bs st ws vals,none)
theorem DV{bs:List PG.ik}{x:W}(h:x∈bs.map (·.name)):∃hi:Bb bs x<bs.length,bs[Bb bs x].name=x:=by
 have l:Bb bs x<(bs.map (·.name)).length:=List.idxOf_lt_length_iff.mpr h;have e:(bs.map (·.name))[Bb bs x]=x:=List.getElem_idxOf l;rw[zai] at l;rw[zbw] at e;exact⟨l,e⟩
theorem bX{H H':Hp}{b:zdU}(s:ar H H')(h:H' b=none):H b=none:=by
 cases z:H b with
 |none=>rfl
 |some o=>rw[s _ _ z] at h;cases h
theorem cv.lT{K:zaa}{H H':Hp}{D a:zdU}{xs ys:List V}(h:cv K H a xs)(hD:H D=some (.lst ys))(u:bH D H H'):cv K H' a xs:=by
 rcases h with (q |⟨o,q⟩) |q
 ·exact .inl (.inl (u _ _ (cM q hD (by intro z;cases z)) q))
 ·exact .inl (.inr ⟨o,u _ _ (cM q hD (by intro z;cases z)) q⟩)
 ·exact .inr q
theorem L5.keep{K:zaa}{H H':Hp}{o:Option (Int×List Int)}{v:V}(h:L5 K H o v)(s:ar H H'):L5 K H' o v:=by
 cases o with
 |none=>exact h
 |some x=>obtain⟨a,e,sa⟩:=h;exact⟨a,e,sa.mono s⟩
section
variable{K:zaa}{H H':Hp}{p C dx a:zdU}{fs:List (Str×V)}{xs:List V}
theorem cv.ins(h:cv K H a xs)(hp:H p=some (.ins C dx fs))(u:bH p H H'):cv K H' a xs:=by
 rcases h with (q |⟨o,q⟩) |q
 ·exact .inl (.inl (u _ _ (cM q hp (by intro z;cases z)) q))
 ·exact .inl (.inr ⟨o,u _ _ (cM q hp (by intro z;cases z)) q⟩)
 ·exact .inr q
theorem fH.ins(h:fH K H a xs)(hp:H p=some (.ins C dx fs))(u:bH p H H'):fH K H' a xs:=by
 rcases h with (q |⟨o,q⟩) |q
 ·exact .inl (.inl (u _ _ (cM q hp (by intro z;cases z)) q))
 ·exact .inl (.inr ⟨o,u _ _ (cM q hp (by intro z;cases z)) q⟩)
 ·exact .inr q
theorem gA.ins{row:Int}{vals:List Int}(h:gA K H a row vals)(hp:H p=some (.ins C dx fs))(u:bH p H H'):gA K H' a row vals:=by obtain⟨va,h1,h2⟩:=h;exact⟨va,h1.ins hp u,h2.ins hp u⟩
theorem Kj.ins{CC ch:zdU}{pr:PG.Prog}(c:Kj K CC H ch pr)(hp:H p=some (.ins C dx fs))(n:ch≠p)(u:bH p H H'):Kj K CC H' ch pr:=by
 obtain⟨dx,nl,sd,fa,va,st,wy,us,ws,h1,h2,h3,h4,h5,h6,h7,h8,h9,UY,UZ,U0⟩:=c.at_;have k:∀ {b:zdU} {o:HO},H b=some o->(∀C dx fs,o≠.ins C dx fs)->H' b=some o:=fun e no=>u _ _ (cM e hp (no _ _ _)) e;exact⟨⟨dx,nl,sd,fa,va,st,wy,us,ws,u _ _ n h1,k h2 (by intro _ _ _ z;cases z),k h3 (by intro _ _ _ z;cases z),k h4 (by intro _ _ _ z;cases z),k h5 (by intro _ _ _ z;cases z),k h6 (by intro _ _ _ z;cases z),h7,k h8 (by intro _ _ _ z;cases z),tD hp (bf.one u rfl) _ _ h9,UY,k UZ (by intro _ _ _ z;cases z),fun i hi=>let ⟨q,e,r⟩:=U0 i hi;⟨q,e,r.ins hp u⟩⟩⟩
end
def Vb:PG.ko->List V
 |.on=>[.str "on"]
 |.out=>[.str "out"]
 |.eI r=>[.str "must",.int r]
 |.fin=>[.str "end"]
def yc (K:zaa) (H:Hp):Option PG.ko->V->Prop
 |none,v=>v=.dh
 |some e,v=>∃a,v=.ref a/\cv K H a (Vb e)
theorem yc.mono{K:zaa}{H H':Hp}{e:Option PG.ko}{v:V}(h:yc K H e v)(s:ar H H'):yc K H' e v:=by
 cases e with
 |none=>exact h
 |some x=>obtain⟨a,e,q⟩:=h;exact⟨a,e,s.dQ q⟩
theorem yc.ins{K:zaa}{H H':Hp}{p C dx:zdU}{fs:List (Str×V)}{e:Option PG.ko}{v:V}(h:yc K H e v)(hp:H p=some (.ins C dx fs))(u:bH p H H'):yc K H' e v:=by
 cases e with
 |none=>exact h
 |some x=>obtain⟨a,e,q⟩:=h;exact⟨a,e,q.ins hp u⟩
def Wy (ch fl:zdU) (n:Nat) (sa:zdU) (ev:V):List (Str×V):=[("chart",.ref ch),("figures",.ref fl),("taken",.int n),("standing",.ref sa),("end",ev)]
structure Kk(K:zaa)(CC CW:zdU)(H:Hp)(wk ch fl:zdU)(pr:PG.Prog)(iY:List Int)(n:Nat)(row:Int)(vals:List Int)(e:Option PG.ko):Prop where
 at_:∃(dx sa:zdU) (ev:V),H wk=some (.ins CW dx (Wy ch fl n sa ev))/\gA K H sa row vals/\yc K H e ev
 Z6:Kj K CC H ch pr
 Z7:fH K H fl (iY.map V.int)
 Vc:ch≠wk
theorem Kk.mono{K:zaa}{CC CW:zdU}{H H':Hp}{wk ch fl:zdU}{pr:PG.Prog}{iY:List Int}{n:Nat}{row:Int}{vals:List Int}{e:Option PG.ko}(h:Kk K CC CW H wk ch fl pr iY n row vals e)(s:ar H H'):Kk K CC CW H' wk ch fl pr iY n row vals e:=
 let ⟨dx,sa,ev,h1,h2,h3⟩:=h.at_
 ⟨⟨dx,sa,ev,s _ _ h1,h2.mono s,h3.mono s⟩,h.Z6.mono s,s.seq h.Z7,h.Vc⟩
theorem Kk.put{K:zaa}{CC CW:zdU}{H:Hp}{wk ch fl dx sa Wz:zdU}{pr:PG.Prog}{iY:List Int}{n n':Nat}{row L6:Int}{vals DW:List Int}{e e':Option PG.ko}{ev WA:V}(h:Kk K CC CW H wk ch fl pr iY n row vals e)(hw:H wk=some (.ins CW dx (Wy ch fl n sa ev)))
 (hs:gA K H Wz L6 DW) (he:yc K H e' WA):Kk K CC CW (upd H wk (.ins CW dx (Wy ch fl n' Wz WA))) wk ch fl pr iY n' L6 DW e':=by
 have u:bH wk H (upd H wk (.ins CW dx (Wy ch fl n' Wz WA))):=(bH.refl _ _).put _;exact⟨⟨dx,Wz,WA,aj,hs.ins hw u,he.ins hw u⟩,h.Z6.ins hw h.Vc u,h.Z7.ins hw u,h.Vc⟩
theorem Kk.lst{K:zaa}{CC CW:zdU}{H H':Hp}{wk ch fl rl:zdU}{pr:PG.Prog}{iY:List Int}{n:Nat}{row:Int}{vals:List Int}{e:Option PG.ko}{xs:List V}(h:Kk K CC CW H wk ch fl pr iY n row vals e)(hr:H rl=some (.lst xs))(u:bH rl H H')(c:Kj K CC H' ch pr)(f:fH K H' fl (iY.map V.int)):Kk K CC CW H' wk ch fl pr iY n row vals e:=by
 obtain⟨dx,sa,ev,h1,⟨va,h2,h3⟩,h4⟩:=h.at_;refine⟨⟨dx,sa,ev,u _ _ (cM h1 hr (by intro z;cases z)) h1,⟨va,h2.lT hr u,h3.lT hr u⟩,?_⟩,c,f,h.Vc⟩;cases e with
 |none=>exact h4
 |some x=>obtain⟨a,e,q⟩:=h4;exact⟨a,e,q.lT hr u⟩
def jN (b:List PG.cw) (row:Int):PG.cw:=((PG.bj b)[PG.Ol b row]?).getD (.stop 0)
def RW (b:List PG.cw) (row:Int):List Int:=(((PG.cn b 0)[PG.Ol b row]?).map (·.2.2)).getD []
def Vd (b:List PG.cw) (row:Int):Bool:=decide ((jN b row).wd=.ask)
def DX (pr:PG.Prog) (row:Int) (vals:List Int) (f:Int):Option (Int×List Int)×Option Int:=cK pr.bF (jN pr.body row) (RW pr.body row) vals f
theorem Ot{b:List PG.cw}(pw:(PG.bj b).Pairwise (fun a b=>a.row<b.row))(i:Nat)(hi:i<(PG.bj b).length):jN b (PG.bj b)[i].row=(PG.bj b)[i]:=by
 unfold jN;rw[PG.HN pw i hi,zac hi];rfl
theorem Ou{b:List PG.cw}(pw:(PG.bj b).Pairwise (fun a b=>a.row<b.row))(i:Nat)(hi:i<(PG.bj b).length)(hf:i<(PG.cn b 0).length):RW b (PG.bj b)[i].row=(PG.cn b 0)[i].2.2:=by
 unfold RW;rw[PG.HN pw i hi,zac hf];rfl
structure DY(pr:PG.Prog)(row:Int)(vals:List Int):Prop where
 row:row=0\/∃i,∃hi:i<(PG.bj pr.body).length,(PG.bj pr.body)[i].row=row
 len:vals.length=pr.bF.length
 small:∀v∈vals,v.natAbs<=2 ^ 12
structure BU(pr:PG.Prog):Prop where
 ok:RV pr
 dep:PG.uM pr.body<=3
 C6:(PG.tq pr.body).length<=1000
 own:PG.PR (·∈pr.bF.map (·.name)) (fun e=>PG.DR pr.bF e/\PG.xV e<=2) (·∈PG.Td) pr.body
 size:∀b∈pr.bF,2<=b.size/\b.size<=10/\0<=b.first/\b.first<b.size
theorem HV{pr:PG.Prog}{w:Int}(h:w=0\/w=0\/∃t∈PG.bj pr.body,t.row=w):w=0\/∃i,∃hi:i<(PG.bj pr.body).length,(PG.bj pr.body)[i].row=w:=by
 rcases h with h |h |⟨t,ht,e⟩
 ·exact .inl h
 ·exact .inl h
 ·obtain⟨i,hi,e2⟩:=zcA.mp ht;exact .inr ⟨i,hi,by rw[e2];exact e⟩
theorem BU.first{pr:PG.Prog}(d:BU pr):DY pr (PG.cR pr.body 0) (pr.bF.map (·.first)):=by
 refine⟨HV (.inr ?_),by simp,fun v hv=>?_⟩
 ·rcases PG.kn pr.body 0 with e |e
  ·exact .inl e
  ·exact .inr e
 ·obtain⟨b,hb,rfl⟩:=zaK.mp hv;have:=d.size b hb;lia
theorem DZ{pr:PG.Prog}(d:BU pr){x:W}(h:x∈pr.bF.map (·.name)):2<=lB pr.bF x/\lB pr.bF x<=10:=by
 obtain⟨hx,_⟩:=DV h;unfold lB;rw[zac hx];have:=d.size _ (zaI hx);exact⟨this.1,this.2.1⟩
theorem DY.step{pr:PG.Prog}(d:BU pr){i:Nat}(hi:i<(PG.bj pr.body).length)(hf:i<(PG.cn pr.body 0).length){vals:List Int}{f:Int}(lv:vals.length=pr.bF.length)(sm:∀v∈vals,v.natAbs<=2 ^ 12){x:Int×List Int}{s:Option Int}
 (h:cK pr.bF (PG.bj pr.body)[i] (PG.cn pr.body 0)[i].2.2 vals f=(some x,s)):DY pr x.1 x.2:=by
 have L7:=PG.qp pr.body _ d.own (zaI hi);obtain⟨w0,w1⟩:=PG.mD pr.body 0 _ (zaI hf);have win:=PG.oT pr.body 0 _ (zaI hf);obtain⟨_,_,ew⟩:=xZ pr.body i hi;rw[ew] at w1;generalize (PG.cn pr.body 0)[i].2.2=ws at *;generalize (PG.bj pr.body)[i]=st at *;have r0:∀j,j<ws.length->ws.getD j 0=0\/∃i,∃hi:i<(PG.bj pr.body).length,(PG.bj pr.body)[i].row=ws.getD j 0:=fun j hj=>by
  rw[zae,zac hj];exact HV (win _ (zaI hj))
 have set:∀(b:W) (z:Int),b∈pr.bF.map (·.name)->(BS pr.bF vals b (z%lB pr.bF b)).length=pr.bF.length/\∀v∈BS pr.bF vals b (z%lB pr.bF b),v.natAbs<=2 ^ 12:=fun b z hb=>by
  unfold BS;refine⟨by rw[zbA];exact lv,fun v hv=>?_⟩;rcases zbV hv with hv |rfl
  ·exact sm v hv
  ·have:=DZ d hb;have m1:=zbf z (b:=lB pr.bF b) (by lia);have m2:=za2 z (b:=lB pr.bF b) (by lia);lia
 have cs:oX pr.bF st ws vals=some x->(st.wd=.eI\/st.wd=.ifs\/st.wd=.iU)->DY pr x.1 x.2:=by
  intro e hw;unfold oX at e;split at e
  ·cases e
  ·split at e
   ·cases e;exact⟨r0 0 w0,lv,sm⟩
   ·split at e
    ·cases e
    ·rename_i nm;cases e;exact⟨r0 1 (w1 (hw.resolve_left nm)),lv,sm⟩
 have Ve:∀(y:Int×List Int) (s':Option Int),(some y,s')=(some x,s)->DY pr y.1 y.2->DY pr x.1 x.2:=fun y s' e h=>by cases e;exact h
 cases st<;>rw[PG.Oi] at L7
 ·exact Ve _ _ h ⟨r0 0 w0,(set _ _ L7).1,(set _ _ L7).2⟩
 ·exact Ve _ _ h ⟨r0 0 w0,(set _ _ L7.1).1,(set _ _ L7.1).2⟩
 ·exact Ve _ _ h ⟨r0 0 w0,lv,sm⟩
 ·exact cs (congrArg Prod.fst h) (.inl rfl)
 ·exact Ve _ _ h ⟨r0 0 w0,lv,sm⟩
 ·exact cs (congrArg Prod.fst h) (.inr (.inl rfl))
 ·exact cs (congrArg Prod.fst h) (.inr (.inr rfl))
section
variable(K:zaa)(CC CW:zdU)
def L8 (H:Hp) (q:zdU) (o:PG.Z4):Prop:=∃(r s e:zdU),cv K H q [.ref r,.ref s,.ref e]/\H r=some (.lst (o.rows.map V.int))/\H s=some (.lst (o.X6.map V.int))/\r≠s/\cv K H e (Vb o.fin)
end
theorem gA.lT{K:zaa}{H H':Hp}{D a:zdU}{ys:List V}{row:Int}{vals:List Int}(h:gA K H a row vals)(hD:H D=some (.lst ys))(u:bH D H H'):gA K H' a row vals:=by obtain⟨va,h1,h2⟩:=h;exact⟨va,h1.lT hD u,h2.lT hD u⟩
theorem D0(l:List Int):SeqAt.shaped (Dp.lst (l.map Dp.int)).py=true:=by
 obtain⟨h1,h2⟩:=HU l;unfold SeqAt.shaped;simp only[Dp.py,Dp.nW,PyData.canLay0,PyData.canLayAll0,PyData.depth,PyData.depthAll,h1,h2,Bool.and_true,zdB,decide_eq_true_iff];lia
theorem L8.mono{K:zaa}{H H':Hp}{q:zdU}{o:PG.Z4}(h:L8 K H q o)(s:ar H H'):L8 K H' q o:=by obtain⟨r,t,e,h1,h2,h3,h4,h5⟩:=h;exact⟨r,t,e,s.dQ h1,s _ _ h2,s _ _ h3,h4,s.dQ h5⟩
inductive Path(pr:PG.Prog):Int->List Int->List Int->List Int->List Int->Int->List Int->List Int->Prop
 |nil {row:Int} {vals left:List Int}:Path pr row vals left [] [] row vals left
 |cons {row f:Int} {vals left r rs ss:List Int} {x:Int×List Int} {s:Option Int} {L6:Int} {DW PV:List Int} (h0:row≠0) (ht:PG.take1 (Vd pr.body row) left=some (f,r)) (hs:DX pr row vals f=(some x,s))
  (h:Path pr x.1 x.2 r rs ss L6 DW PV):Path pr row vals left (row::rs) (s.toList++ss) L6 DW PV
section
variable{pr:PG.Prog}{a a' Z8:Int}{b c b' c' Z9 c'' rs rs' ss Vf:List Int}
theorem Path.app(h:Path pr a b c rs ss a' b' c')(g:Path pr a' b' c' rs' Vf Z8 Z9 c''):Path pr a b c (rs++rs') (ss++Vf) Z8 Z9 c'':=by
 induction h with
 |nil=>exact g
 |cons h0 ht hs _ ih=>rw[zaQ,zaW];exact .cons h0 ht hs (ih g)
end
section
variable{sa sb sc:Int}{a b c g:Int}{l:List Int}
def dY (sa:Nat):List Int:=[6,7]++(zap sa [8,9]).flatten++[8,11]
end
section
variable{K:zaa}{H H1:Hp}{p:zdU}{vs:List V}{ds:List Dp}
theorem gT(e:upd H p (.tup vs)=H1)(hp:H p=none):ar H H1:=e▸ar.new hp _
theorem gL(e:upd H p (.lst vs)=H1)(hp:H p=none):ar H H1:=e▸ar.new hp _
theorem Vg(e:upd H p (.tup vs)=H1)(hp:H p=none)(hr:aG K H ds vs):Rep K H1 (.tup ds) (.ref p):=e▸Rep.new hp hr
theorem Jn(e:upd H p (.lst vs)=H1):H1 p=some (.lst vs):=e▸aj
theorem Ti(e:upd H p (.tup vs)=H1):H1 p=some (.tup vs):=e▸aj
end
theorem rS{K:zaa}{H:Hp}{x:Str}:Rep K H (.str x) (.str x):=Rep.aK.mpr rfl
theorem L9{K:zaa}{H:Hp}{x:Int}:Rep K H (.int x) (.int x):=Rep.bO.mpr rfl
section
variable{prog:zd6}{w:zdW}
def RX (prog:zd6) (w:zdW) (h:Heap) (x:Key×List Key) (a:zdU):Prop:=∃(o:Obj) (n:Nat) (u:zdV) (b:zdU),h.get? a=some o/\o.cls=.type "tuple"/\o.data=.seq #[u,.ref b] n/\xm x.1 u=true/\IsTupleKey (fg prog w) h x.2 b
theorem RX.one{h:Heap}{a:zdU}{x y:Key×List Key}(hx:RX prog w h x a)(hy:RX prog w h y a):x=y:=by
 obtain⟨o,n,u,b,e,_,d,i,t⟩:=hx;obtain⟨o',n',u',b',e',_,d',i',t'⟩:=hy;rw[e] at e';cases e';rw[d] at d'
 injection d' with d1 _
 have d1:=congrArg zdI d1;simp only[zcV.injEq,Value.ref.injEq,and_true] at d1;obtain⟨rfl,rfl⟩:=d1;exact Prod.ext ((fg prog w).inj _ _ _ i i') (t.inj t')
variable{A:zd5}{E:zdV->zd4->Prop}{s:zd4}
end
def tN (b:Bool):Int:=if b then 1 else 0
theorem RY{a b:Bool}:(tN a==tN b)=(a==b):=by cases a<;>cases b<;>rfl
structure KH(κ:Type)[DecidableEq κ] where
 knd:∀(P:zd6) (w:zdW),HeapKind P w κ
 on:zaa->Hp->κ->zdU->Prop
 up:∀ {K:zaa} {H H':Hp} {x:κ} {a:zdU},(∀b ys,cv K H b ys->cv K H' b ys)->on K H x a->on K H' x a
 of:∀ {X:Cx} {pins:List (zdU×Obj)} {σ:St} {H:Hp} {s:zd4} {x:κ} {a:zdU},Inv X pins σ H s->on X.K H x a->(knd X.prog X.w).is s.heap x a
 room:∀ {P:zd6} {w:zdW} {A:zd5},A.units+16<cLine->(knd P w).room A.in1
section
variable{κ:Type}[DecidableEq κ](J:KH κ)
def PX (P:zd6) (w:zdW) (a:zdU) (xs:List (κ×zdU×zdV)):Heap->Prop:=fun h=>∃o es ep,h.get? a=some o/\o.ExactDict/\o.data=.dict es ep/\es.toList=xs.map (entryOfKey (J.knd P w))
abbrev KS (K:zaa) (H:Hp):List (κ×V)->List (κ×zdU×zdV)->Prop:=Paired fun p q=>p.1=q.1/\J.on K H p.1 q.2.1/\RelV p.2 q.2.2
structure DS(P:zd6)(w:zdW)(K:zaa)(H:Hp)(a:zdU)(aV:List (κ×V)):Prop where
 len:aV.length<=zd2
 sys:(a==sysModules)=false
 at_:∃xs,H a=some (.ext (PX J P w a xs))/\KS J K H aV xs/\(xs.map (·.1)).Nodup
variable{J}
section
variable{K:zaa}{H H':Hp}{aV:List (κ×V)}{xs:List (κ×zdU×zdV)}
theorem KS.val(r:KS J K H aV xs)(k:κ):oy (dX aV k) ((atKey xs k).map (·.2)):=by
 induction r with
 |nil=>exact True.intro
 |@cons p q ps qs h t ih=>
  by_cases e:p.1=k
  ·rw[dB e,show atKey (q::qs) k=some q.2 by simp[atKey,h.1.symm.trans e]];exact h.2.2
  ·have e':¬q.1=k:=fun z=>e (h.1.trans z);rw[dC e,show atKey (q::qs) k=atKey qs k by simp[atKey,e']];exact ih
theorem KS.put(r:KS J K H aV xs)(k:κ){b:zdU}{y:V}{u:zdV}(hb:J.on K H k b)(ry:RelV y u):KS J K H (putK aV k y) (storedH xs k b u):=by
 have e:(aV.any fun kv=>decide (kv.1=k))=(atKey xs k).isSome:=by rw[mr,(r.val k).AW,Option.isSome_map]
 unfold putK storedH;rw[e];by_cases q:(atKey xs k).isSome=true
 ·rw[if_pos q,if_pos q];clear e q
  induction r with
  |nil=>exact .nil
  |@cons p q ps qs h t ih=>
   refine .cons ?_ ih;dsimp only;unfold putAt;by_cases e:p.1=k
   ·rw[if_pos e];rw[if_pos (h.1.symm.trans e)];exact⟨h.1,h.2.1,ry⟩
   ·rw[if_neg e];rw[if_neg fun z=>e (h.1.trans z)];exact h
 ·rw[if_neg q,if_neg q];exact Paired.snoc r ⟨rfl,hb,ry⟩
theorem KS.up(r:KS J K H aV xs)(t:∀b ys,cv K H b ys->cv K H' b ys):KS J K H' aV xs:=Paired.Di r fun _ _ z=>⟨z.1,J.up t z.2.1,z.2.2⟩
end
section
variable{X:Cx}{pins:List (zdU×Obj)}{σ:St}{H:Hp}{s:zd4}{a b:zdU}{v:V}{u r:zdV}{A:zd5}{E:zdV->zd4->Prop}{aV:List (κ×V)}{k:κ}
theorem cv.ext{K:zaa}{H:Hp}{a c:zdU}{φ:Heap->Prop}{o:HO}{ys:List V}(h:cv K H c ys)(e:H a=some (.ext φ)):cv K (upd H a o) c ys:=by
 rcases h with (q |⟨o',q⟩) |q
 ·exact .inl (.inl (by rw[aq (cM q e (by intro z;cases z))];exact q))
 ·exact .inl (.inr ⟨o',by rw[aq (cM q e (by intro z;cases z))];exact q⟩)
 ·exact .inr q
end
theorem DS.Ya{P:zd6}{w:zdW}{K:zaa}{H H':Hp}{a:zdU}{aV:List (κ×V)}(d:DS J P w K H a aV)(e:∀o,H a=some o->H' a=some o)(t:∀b ys,cv K H b ys->cv K H' b ys):DS J P w K H' a aV:=⟨d.len,d.sys,let ⟨xs,h,r,nd⟩:=d.at_;⟨xs,e _ h,r.up t,nd⟩⟩
theorem DS.mono{P:zd6}{w:zdW}{K:zaa}{H H':Hp}{a:zdU}{aV:List (κ×V)}(d:DS J P w K H a aV)(s:ar H H'):DS J P w K H' a aV:=d.Ya (fun o h=>s _ _ h) fun b ys q=>s.dQ q
section
variable{X:Cx}{o i value:Expr}{pos pos':Pos}{td ty tv:TE}
def Ma (J:KH κ) (P:zd6) (w:zdW):TE:=fun _ H Q=>∀p,H p=none->(p==sysModules)=false->Q (.ref p) (upd H p (.ext (PX J P w p [])))
def Mb (J:KH κ) (P:zd6) (w:zdW) (K:zaa) (td ty tv:TE):TS:=fun D σ H=>tv σ H fun v H1=>td σ H1 fun x H2=>ty σ H2 fun y H3=>∃(a b:zdU) (aV:List (κ×V)) (k:κ),x=.ref a/\y=.ref b/\DS J P w K H3 a aV/\J.on K H3 k b/\aV.length<zd2/\
 ∀H4,DS J P w K H4 a (putK aV k v)->(∃φ,H4=upd H3 a (.ext φ))->D.nx σ H4
def Mc (J:KH κ) (P:zd6) (w:zdW) (K:zaa) (td ty:TE):TE:=fun σ H Q=>td σ H fun x H1=>ty σ H1 fun y H2=>∃(a b:zdU) (aV:List (κ×V)) (k:κ) (v:V),x=.ref a/\y=.ref b/\DS J P w K H2 a aV/\J.on K H2 k b/\dX aV k=some v/\Q v H2
end
end
abbrev F5:=Key×List Key
def D3 (h:Heap) (d:zdU) (es:Array DictEntry) (ep:Nat):Prop:=∃o,h.get? d=some o/\o.ExactDict/\o.data=.dict es ep
section
variable{prog:zd6}{w:zdW}{A:zd5}{E:zdV->zd4->Prop}{s:zd4}{d it:zdU}{es:Array DictEntry}{ep i:Nat}
theorem D3.Ya{h h':Heap}(x:D3 h d es ep)(e:∀o,h.get? d=some o->h'.get? d=some o):D3 h' d es ep:=by obtain⟨o,g,r⟩:=x;exact⟨o,e _ g,r⟩
theorem D3.lt{h:Heap}(x:D3 h d es ep):d<h.objs.size:=by obtain⟨_,g,_⟩:=x;exact Heap.lt_size g
end
end L2
namespace PG
section
variable{β:Type}(ask:Int->Bool)(step:Int->List Int->Int->Option (Int×List Int)×Option Int)(tg:Int×List Int->List β)
abbrev dP:=Int×List Int
def zY (x:dP×List Int):Option (dP×List Int):=if x.1.1=0 then none else match take1 (ask x.1.1) x.2 with
 |none=>none
 |some (f,r)=>(step x.1.1 x.1.2 f).1.map fun y=>(y,r)
inductive Met:dP×List Int->β->Prop
 |here {s t}:t∈tg s.1->Met s t
 |on {s s' t}:zY ask step s=some s'->Met s' t->Met s t
variable{ask step tg}
theorem uO{s:dP}{l:List Int}(h0:s.1≠0)(ha:ask s.1=false):zY ask step (s,l)=(step s.1 s.2 0).1.map fun y=>(y,l):=by
 unfold zY;rw[if_neg h0];simp only[take1,ha,zbE,if_false]
theorem Ov{s:dP}{f:Int}{l:List Int}(h0:s.1≠0)(ha:ask s.1=true):zY ask step (s,f::l)=(step s.1 s.2 f).1.map fun y=>(y,l):=by
 unfold zY;rw[if_neg h0];simp only[take1,ha,if_true]
theorem Md{s:dP}{l:List Int}(h0:s.1=0):zY ask step (s,l)=none:=by
 unfold zY;rw[if_pos h0]
structure MI(ask:Int->Bool)(step:Int->List Int->Int->Option (Int×List Int)×Option Int)(tg:Int×List Int->List β)(s0:dP×List Int)(ms:List β)(seen:List dP)(s:dP×List Int):Prop where
 a:∀t,Met ask step tg s0 t->t∈ms\/Met ask step tg s t
 b:∀t∈ms,Met ask step tg s0 t
 c:∀t,Met ask step tg s t->Met ask step tg s0 t
 d:∀x∈seen,(∀t∈tg x,t∈ms)/\x.1≠0/\ask x.1=false/\∀y,(step x.1 x.2 0).1=some y->y∈seen\/y=s.1
variable{s0 s s':dP×List Int}{ms RZ:List β}{seen:List dP}
theorem Ow(h:zY ask step s=none){t:β}(m:Met ask step tg s t):t∈tg s.1:=by
 cases m with
 |here m=>exact m
 |on e _=>rw[h] at e;cases e
theorem MI.fin(h:MI ask step tg s0 ms seen s)(hm:∀t,t∈RZ↔t∈ms\/t∈tg s.1)(he:zY ask step s=none\/s.1∈seen)(t:β):t∈RZ↔Met ask step tg s0 t:=by
 rw[hm];refine⟨fun z=>z.elim (h.b t) fun z=>h.c t (.here z),fun z=>?_⟩;rcases h.a t z with z |z
 ·exact .inl z
 rcases he with he |he
 ·exact .inr (Ow he z)
 ·have key:∀s' t,Met ask step tg s' t->s'.1∈seen->t∈ms:=by
   intro s' t m
   induction m with
   |here m=>exact fun q=>(h.d _ q).1 _ m
   |@on a b t e _ ih=>
    intro q;obtain⟨_,h0,ha,hs⟩:=h.d _ q;obtain⟨a1,a2⟩:=a;rw[uO h0 ha] at e;obtain⟨y,hy,rfl⟩:=zaP.mp e;rcases hs y hy with q2 |rfl
    ·exact ih q2
    ·exact ih he
  exact .inl (key _ _ z he)
theorem MI.next(h:MI ask step tg s0 ms seen s)(hm:∀t,t∈RZ↔t∈ms\/t∈tg s.1)(hn:zY ask step s=some s'\/zY ask step s=none/\s'=s) :
 (∀t,Met ask step tg s0 t->t∈RZ\/Met ask step tg s' t)/\(∀t∈RZ,Met ask step tg s0 t)/\∀t,Met ask step tg s' t->Met ask step tg s0 t:=by
 refine⟨fun t m=>?_,fun t m=>?_,fun t m=>?_⟩
 ·rw[hm];rcases h.a t m with z |z
  ·exact .inl (.inl z)
  ·rcases hn with hn |⟨hn,rfl⟩
   ·cases z with
    |here z=>exact .inl (.inr z)
    |on e z=>rw[hn] at e;cases e;exact .inr z
   ·exact .inr z
 ·rcases(hm t).mp m with z |z
  ·exact h.b t z
  ·exact h.c t (.here z)
 ·rcases hn with hn |⟨hn,rfl⟩
  ·exact h.c t (.on hn m)
  ·exact h.c t m
structure Seg(ask:Int->Bool)(step:Int->List Int->Int->Option (Int×List Int)×Option Int)(s:dP)(g:List dP):Prop where
 head:g[0]?=some s
 mid:∀i (h:i+1<g.length),g[i].1≠0/\ask g[i].1=false/\(step g[i].1 g[i].2 0).1=some g[i+1]
 last:∀x,g.getLast?=some x->x.1=0\/ask x.1=true\/(step x.1 x.2 0).1=none\/∃y∈g,(step x.1 x.2 0).1=some y
section
variable{s:dP}{g:List dP}{l:List Int}
theorem Seg.nx(h:Seg ask step s g)(i:Nat)(hi:i+1<g.length):zY ask step (g[i],l)=some (g[i+1],l):=by
 obtain⟨h0,ha,e⟩:=h.mid i hi;rw[uO h0 ha,e];rfl
theorem Seg.up(h:Seg ask step s g):∀(i:Nat) (hi:i<g.length) (t:β),Met ask step tg (g[i],l) t->Met ask step tg (s,l) t
 |0,hi,t,m=>by
  have:=h.head;rw[zac hi] at this;cases this;exact m
 |i+1,hi,t,m=>h.up i (by lia) t (.on (h.nx i hi) m)
theorem Seg.met(h:Seg ask step s g){x:dP}(hx:x∈g){t:β}(ht:t∈tg x):Met ask step tg (s,l) t:=by
 obtain⟨i,hi,rfl⟩:=zcA.mp hx;exact h.up i hi t (.here ht)
theorem Seg.xc{x:dP}(hx:g.getLast?=some x):∃hi:g.length-1<g.length,g[g.length-1]=x:=by
 rw[zaZ] at hx;exact zao.mp hx
theorem Seg.all(h:Seg ask step s g){t:β}(m:Met ask step tg (s,l) t):(∃x∈g,t∈tg x)\/∃x s',g.getLast?=some x/\x.1≠0/\ask x.1=true/\zY ask step (x,l)=some s'/\Met ask step tg s' t:=by
 have key:∀s' t,Met ask step tg s' t->s'.2=l->s'.1∈g->(∃x∈g,t∈tg x)\/∃x s',g.getLast?=some x/\x.1≠0/\ask x.1=true/\zY ask step (x,l)=some s'/\Met ask step tg s' t:=by
  intro s' t m
  induction m with
  |here m=>exact fun _ q=>.inl ⟨_,q,m⟩
  |@on a b t e mm ih=>
   intro el q;obtain⟨a1,a2⟩:=a;simp only at el q;subst el;obtain⟨i,hi,rfl⟩:=zcA.mp q;by_cases hl:i+1<g.length
   ·rw[h.nx i hl] at e;cases e;exact ih rfl (zaI hl)
   ·have ei:g.length-1=i:=by lia
    have hx:g.getLast?=some g[i]:=by rw[zaZ,ei,zac hi]
    by_cases h0:g[i].1=0
    ·rw[Md h0] at e;cases e
    cases ha:ask g[i].1 with
    |true=>exact .inr ⟨_,_,hx,h0,ha,e,mm⟩
    |false=>
     rw[uO h0 ha] at e;rcases h.last _ hx with z |z |z |⟨y,hy,z⟩
     ·exact absurd z h0
     ·rw[ha] at z;cases z
     ·rw[z] at e;cases e
     ·rw[z] at e;cases e;exact ih rfl hy
 refine key _ _ m rfl ?_;exact List.mem_iff_getElem?.mpr ⟨0,h.head⟩
end
structure LI(ask:Int->Bool)(step:Int->List Int->Int->Option (Int×List Int)×Option Int)(tg:Int×List Int->List β)(s0:dP×List Int)(ms:List β)(o:Option dP)(l:List Int):Prop where
 a:∀t,Met ask step tg s0 t->t∈ms\/∃s,o=some s/\Met ask step tg (s,l) t
 b:∀t∈ms,Met ask step tg s0 t
 c:∀s t,o=some s->Met ask step tg (s,l) t->Met ask step tg s0 t
theorem LI.fin{l:List Int}(h:LI ask step tg s0 ms none l)(t:β):t∈ms↔Met ask step tg s0 t:=⟨h.b t,fun z=>(h.a t z).elim (fun z=>z) fun ⟨_,e,_⟩=>by cases e⟩
section
variable{s x y:dP}{g:List dP}{l r:List Int}{f:Int}
theorem LI.on(h:LI ask step tg s0 ms (some s) l)(q:Seg ask step s g)(hm:∀t,t∈RZ↔t∈ms\/∃x∈g,t∈tg x)(hx:g.getLast?=some x)(h0:x.1≠0)(ha:ask x.1=true)(hl:l=f::r)(hy:(step x.1 x.2 f).1=some y):LI ask step tg s0 RZ (some y) r:=by
 subst hl;have e:zY ask step (x,f::r)=some (y,r):=by rw[Ov h0 ha,hy];rfl
 refine⟨fun t m=>?_,fun t m=>?_,fun s' t e' m=>?_⟩
 ·rw[hm];rcases h.a t m with z |⟨_,z,m⟩
  ·exact .inl (.inl z)
  ·cases z;rcases q.all m with z |⟨x',s',WB,_,_,e',m'⟩
   ·exact .inl (.inr z)
   ·rw[hx] at WB;cases WB;rw[e] at e';cases e';exact .inr ⟨y,rfl,m'⟩
 ·rcases(hm t).mp m with z |⟨x,hx,ht⟩
  ·exact h.b t z
  ·exact h.c _ t rfl (q.met hx ht)
 ·cases e';obtain⟨hi,e1⟩:=Seg.xc hx;exact h.c _ t rfl (q.up _ hi t (by rw[e1];exact .on e m))
end
structure TI(ask:Int->Bool)(step:Int->List Int->Int->Option (Int×List Int)×Option Int)(s:dP)(g:List dP)(o:Option dP):Prop where
 nil:g=[]->o=some s
 head:g≠[]->g[0]?=some s
 mid:∀i (h:i+1<g.length),g[i].1≠0/\ask g[i].1=false/\(step g[i].1 g[i].2 0).1=some g[i+1]
 last:∀x,g.getLast?=some x->x.1≠0/\ask x.1=false/\(step x.1 x.2 0).1=o
section
variable{s x:dP}{g:List dP}{o:Option dP}
theorem TI.Vh(h:TI ask step s g (some x)):(g++[x])[0]?=some s/\∀i (hi:i+1<(g++[x]).length),(g++[x])[i].1≠0/\ask (g++[x])[i].1=false/\(step (g++[x])[i].1 (g++[x])[i].2 0).1=some (g++[x])[i+1]:=by
 refine⟨?_,fun i hi=>?_⟩
 ·cases g with
  |nil=>exact h.nil rfl
  |cons a r=>exact h.head (by simp)
 ·simp only[zaf,zav] at hi;have l1:i<g.length:=by lia
  rw[zci l1];by_cases hl:i+1<g.length
  ·rw[zci hl];exact h.mid i hl
  ·have ei:g.length-1=i:=by lia
   have hx:g.getLast?=some g[i]:=by rw[zaZ,ei,zac l1]
   obtain⟨a,b,c⟩:=h.last _ hx;refine⟨a,b,?_⟩;rw[c,zc5 (by lia)];simp
theorem TI.push(h:TI ask step s g (some x))(h0:x.1≠0)(ha:ask x.1=false):TI ask step s (g++[x]) (step x.1 x.2 0).1:=
 ⟨fun e=>(by simp at e),fun _=>h.Vh.1,h.Vh.2,fun y hy=>by simp only[zdw,List.getLast?_singleton,Option.some_or,zaF.injEq] at hy;subst hy;exact⟨h0,ha,rfl⟩⟩
theorem TI.fin(h:TI ask step s g o)(ho:o=zdS\/∃x∈g,o=some x):Seg ask step s g:=by
 have ne:g≠[]:=fun e=>by
  have:=h.nil e;subst e;rcases ho with rfl |⟨x,hx,_⟩
  ·cases this
  ·cases hx
 refine⟨h.head ne,h.mid,fun y hy=>.inr (.inr ?_)⟩;obtain⟨_,_,c⟩:=h.last y hy;rcases ho with rfl |⟨x,hx,rfl⟩
 ·exact .inl c
 ·exact .inr ⟨x,hx,c⟩
end
end
theorem qr{α:Type}[DecidableEq α]:∀(xs ys:List α),xs.Nodup->(∀x∈xs,x∈ys)->xs.length<=ys.length
 |[],ys,_,_=>zaJ _
 |x::r,ys,h,q=>by
  obtain⟨nx,nr⟩:=zbd.mp h;have hx:=q x (zaq ..);have:=qr r (ys.erase x) nr fun y hy=>(List.mem_erase_of_ne (fun e:y=x=>nx (e▸hy))).mpr (q y (zam _ hy));have l:=List.length_erase_of_mem hx;have p:=List.length_pos_of_mem hx;simp only[zah];lia
def rK:List Int->List Int->Prop
 |[],[]=>True
 |s::r,v::t=>(0<=v/\v<s)/\rK r t
 |[],_::_=>False
 |_::_,[]=>False
theorem rK.len:∀ {ss vs:List Int},rK ss vs->vs.length=ss.length
 |[],[],_=>rfl
 |s::r,v::t,h=>by
  rw[rK] at h;simp[h.2.len]
 |[],v::t,h=>by rw[rK] at h;exact h.elim
 |s::r,[],h=>by rw[rK] at h;exact h.elim
theorem rK.set:∀ {ss vs:List Int} (i:Nat) (v:Int),rK ss vs->(∀s,ss[i]?=some s->0<=v/\v<s)->rK ss (vs.set i v)
 |[],[],i,v,h,_=>h
 |s::r,u::t,0,v,h,q=>by
  rw[rK] at h;rw[List.set_cons_zero,rK];exact⟨q s rfl,h.2⟩
 |s::r,u::t,i+1,v,h,q=>by
  rw[rK] at h;rw[List.set_cons_succ,rK];exact⟨h.1,h.2.set i v fun z hz=>q z (by simpa using hz)⟩
 |[],u::t,i,v,h,q=>by rw[rK] at h;exact h.elim
 |s::r,[],i,v,h,q=>by rw[rK] at h;exact h.elim
end PG
namespace L2
open PySem
def FH (K:zaa) (x:Str) (st:Stmt) (f:zdU):Prop:=zay K zd1 x=some (some (.ref f))/\∃fd,C5 K x x st f fd
theorem FH.of{K:zaa}{x:Str}{st:Stmt}{f:zdU}{oc:zdV}{od an:Option zdU}{KY:Array (Option zdV)}{kV doc pm dM ct:zdV}(a:zay K zd1 x=some (some (.ref f)))(l:K.lookup f=some ⟨oc,od,.func (zaU x x (cN st) (bI st) (av st) .none kV doc pm an dM ct),KY⟩)
 (c:zbq K dM x=true) (k:za7 K (.ref f)=true):FH K x st f:=⟨a,_,oG l c k⟩
theorem xf{α:Type}{P:List α->Prop}(h:∀a,P [a])(us:List α)(e:us.length=1):P us:=match us,e with |[a],_=>h a
theorem F6{α:Type}{P:List α->Prop}(h:∀a b,P [a,b])(us:List α)(e:us.length=2):P us:=match us,e with |[a,b],_=>h a b
theorem R0{α:Type}{P:List α->Prop}(h:∀a b c,P [a,b,c])(us:List α)(e:us.length=3):P us:=match us,e with |[a,b,c],_=>h a b c
theorem bn4{α:Type}{P:List α->Prop}(h:∀a b c d,P [a,b,c,d])(us:List α)(e:us.length=4):P us:=match us,e with |[a,b,c,d],_=>h a b c d
theorem mF{K:zaa}{mg:Str->Option zdV}{h:Heap}{x:Str}{st:Stmt}{f:zdU}{ps:List Str}(X:K.In h)(G:h.Ns zd1 mg)(q:FH K x st f)
 (b:∀(kV doc pm:zdV) (an:Option zdU) (dM ct:zdV) (us:List zdV),us.length=ps.length->bindArgs (zaU x x (cN st) (bI st) (av st) .none kV doc pm an dM ct) ⟨us,[]⟩=pure (ps.zip us)):∃fd,cb K mg x st ps f fd:=
 let ⟨a,fd,F⟩:=q
 ⟨fd,F,F.binds b,zaL X G a⟩
theorem Me{CX:Fn}{P:zd6}{w:zdW}{K:zaa}{mg:Str->Option zdV}{base:Heap}{N:List Str}{qual:Str}{scope:Scope}{f:zdU}{cd:zdV}{A:zd5}{outer:List Env}{s:zd4}{H:Hp}{E:XK}:(jK CX P w K mg base N qual scope f cd A outer s H E).prog=P:=rfl
theorem Mf{CX:Fn}{P:zd6}{w:zdW}{K:zaa}{mg:Str->Option zdV}{base:Heap}{N:List Str}{qual:Str}{scope:Scope}{f:zdU}{cd:zdV}{A:zd5}{outer:List Env}{s:zd4}{H:Hp}{E:XK}:(jK CX P w K mg base N qual scope f cd A outer s H E).w=w:=rfl
def D4:PG.Tg->List Key
 |.row k=>[.inr "row",.inl k]
 |.side k b=>[.inr "side",.inl k,.inl (tN b)]
 |.eI k=>[.inr "must",.inl k]
 |.fin=>[.inr "end"]
theorem Jo{a b:PG.Tg}(h:D4 a=D4 b):a=b:=by
 have s1:(zab "row":Str)≠zab "must":=by decide +kernel
 cases a<;>cases b<;>simp only[D4,zcV.injEq,Sum.inl.injEq,Sum.inr.injEq,and_true,reduceCtorEq,and_false] at h
 ·rw[h.2]
 ·exact absurd h.1 s1
 ·obtain⟨_,rfl,e⟩:=h;have e:=(beq_iff_eq (α:=Int)).mpr e;rw[RY] at e;rw[beq_iff_eq.mp e]
 ·exact absurd h.1.symm s1
 ·rw[h.2]
 ·rfl
def Jp (s:PG.dP):F5:=(.inl s.1,s.2.map .inl)
theorem Mg{a b:PG.dP}(h:Jp a=Jp b):a=b:=by
 obtain⟨a1,a2⟩:=a;obtain⟨b1,b2⟩:=b;simp only[Jp,Prod.mk.injEq,Sum.inl.injEq] at h;obtain⟨rfl,h⟩:=h;have h:=(List.map_inj_right (fun x y (e:(Sum.inl x:Key)=.inl y)=>Sum.inl.inj e)).mp h;rw[h]
section
variable{κ:Type}[DecidableEq κ]{J:KH κ}{P:zd6}{w:zdW}{K:zaa}{H H':Hp}{a b p C dx:zdU}{aV:List (κ×V)}{φ:Heap->Prop}{fs:List (Str×V)}{xs:List V}
theorem DS.Yb(d:DS J P w K H a aV):∃φ,H a=some (.ext φ):=by obtain⟨xs,h,_⟩:=d.at_;exact⟨_,h⟩
theorem DS.ins(d:DS J P w K H a aV)(hp:H p=some (.ins C dx fs))(u:bH p H H'):DS J P w K H' a aV:=by
 obtain⟨φ,e⟩:=d.Yb;exact d.Ya (fun o h=>u _ _ (cM e hp (by intro z;cases z)) h) fun b ys q=>q.ins hp u
theorem cv.F7(h:cv K H a xs)(hb:H b=some (.ext φ))(u:bH b H H'):cv K H' a xs:=by
 rcases h with (q |⟨o',q⟩) |q
 ·exact .inl (.inl (u _ _ (cM q hb (by intro z;cases z)) q))
 ·exact .inl (.inr ⟨o',u _ _ (cM q hb (by intro z;cases z)) q⟩)
 ·exact .inr q
theorem gA.ext{row:Int}{vals:List Int}(h:gA K H a row vals)(hb:H b=some (.ext φ))(u:bH b H H'):gA K H' a row vals:=by obtain⟨va,h1,h2⟩:=h;exact⟨va,h1.F7 hb u,h2.F7 hb u⟩
theorem yc.ext{e:Option PG.ko}{v:V}(h:yc K H e v)(hb:H b=some (.ext φ))(u:bH b H H'):yc K H' e v:=by
 cases e with
 |none=>exact h
 |some x=>obtain⟨a,e,q⟩:=h;exact⟨a,e,q.F7 hb u⟩
theorem Kk.ext{CC CW wk ch fl:zdU}{pr:PG.Prog}{iY:List Int}{n:Nat}{row:Int}{vals:List Int}{e:Option PG.ko}(h:Kk K CC CW H wk ch fl pr iY n row vals e)(hb:H b=some (.ext φ))(u:bH b H H')(c:Kj K CC H' ch pr)(f:fH K H' fl (iY.map V.int)):Kk K CC CW H' wk ch fl pr iY n row vals e:=by
 obtain⟨dx,sa,ev,h1,h2,h3⟩:=h.at_;exact⟨⟨dx,sa,ev,u _ _ (cM h1 hb (by intro z;cases z)) h1,h2.ext hb u,h3.ext hb u⟩,c,f,h.Vc⟩
end
def rL (pr:PG.Prog):List Int:=pr.bF.map (·.size)
structure D5(pr:PG.Prog)(s:PG.dP):Prop where
 ok:DY pr s.1 s.2
 inv:PG.rK (rL pr) s.2
theorem rK.first:∀ {bs:List PG.ik},(∀b∈bs,2<=b.size/\b.size<=10/\0<=b.first/\b.first<b.size)->PG.rK (bs.map (·.size)) (bs.map (·.first))
 |[],_=>trivial
 |b::r,h=>by
  simp only[zar,PG.rK];have:=h b (zaq ..);exact⟨⟨by lia,by lia⟩,rK.first fun x hx=>h x (zam _ hx)⟩
theorem D5.first{pr:PG.Prog}(d:BU pr):D5 pr (PG.cR pr.body 0,pr.bF.map (·.first)):=⟨d.first,rK.first d.size⟩
theorem rK.BS{pr:PG.Prog}(d:BU pr){vals:List Int}(h:PG.rK (rL pr) vals){b:W}(hb:b∈pr.bF.map (·.name))(z:Int):PG.rK (rL pr) (BS pr.bF vals b (z%lB pr.bF b)):=by
 refine h.set _ _ fun s hs=>?_;obtain⟨hx,_⟩:=DV hb;have e:lB pr.bF b=s:=by
  unfold lB;rw[rL,zaz,zac hx] at hs;rw[zac hx];exact zaF.inj hs
 have:=DZ d hb;rw[e] at this ⊢;exact⟨zbf z (by lia),za2 z (by lia)⟩
theorem rK.step{pr:PG.Prog}(d:BU pr){st:PG.cw}(ok:PG.Oi (·∈pr.bF.map (·.name)) (fun e=>PG.DR pr.bF e/\PG.xV e<=2) (·∈PG.Td) st){ws vals:List Int}{f:Int}(h:PG.rK (rL pr) vals){x:PG.dP}(e:(cK pr.bF st ws vals f).1=some x):PG.rK (rL pr) x.2:=by
 have cs:oX pr.bF st ws vals=some x->PG.rK (rL pr) x.2:=by
  intro e;unfold oX at e;split at e
  ·cases e
  ·split at e
   ·cases e;exact h
   ·split at e
    ·cases e
    ·cases e;exact h
 cases st<;>rw[PG.Oi] at ok
 ·cases e;exact rK.BS d h ok _
 ·cases e;exact rK.BS d h ok.1 _
 ·cases e;exact h
 ·exact cs e
 ·cases e;exact h
 ·exact cs e
 ·exact cs e
theorem Mh{pr:PG.Prog}(ok:RV pr){i:Nat}(hi:i<(PG.bj pr.body).length)(hf:i<(PG.cn pr.body 0).length)(vals:List Int)(f:Int):DX pr (PG.bj pr.body)[i].row vals f=cK pr.bF (PG.bj pr.body)[i] (PG.cn pr.body 0)[i].2.2 vals f:=by
 unfold DX;rw[Ot ok.pw i hi,Ou ok.pw i hi hf]
theorem D5.next{pr:PG.Prog}(d:BU pr){s x:PG.dP}(h:D5 pr s)(h0:s.1≠0){f:Int}(e:(DX pr s.1 s.2 f).1=some x):D5 pr x:=by
 obtain⟨row,vals⟩:=s;obtain⟨i,hi,rfl⟩:=h.ok.row.resolve_left h0;obtain⟨hf,_,_⟩:=xZ pr.body i hi;rw[Mh d.ok hi hf] at e;refine⟨?_,rK.step d (PG.qp pr.body _ d.own (zaI hi)) h.inv e⟩;rcases hs:cK pr.bF (PG.bj pr.body)[i] (PG.cn pr.body 0)[i].2.2 vals f with ⟨o,sd⟩
 rw[hs] at e;exact DY.step d hi hf h.ok.len h.ok.small (by rw[hs];exact congrArg (·,sd) e)
theorem D5.nx{pr:PG.Prog}(d:BU pr){s s':PG.dP×List Int}(h:D5 pr s.1)(e:PG.zY (Vd pr.body) (DX pr) s=some s'):D5 pr s'.1:=by
 unfold PG.zY at e;split at e
 ·cases e
 ·rename_i h0;split at e
  ·cases e
  ·obtain⟨y,hy,rfl⟩:=zaP.mp e;exact h.next d h0 hy
structure oY(K:zaa)(H:Hp)(md:zdU)(pr:PG.Prog):Prop where
 at_:∃(B d8 wy fa:zdU) (us:List V) (aV:List (Key×V)),fH K H md [.ref B,.ref d8,.ref wy,.ref fa]/\Rep K H (.lst (pr.bF.map DT)) (.ref B)/\H d8=some (.dK (vP (PG.bj pr.body) us))/\us.length=(PG.bj pr.body).length/\aG K H ((PG.bj pr.body).map oU) us/\
  H wy=some (.dK aV)/\(∀i (hi:i<(PG.cn pr.body 0).length),∃y,dX aV (.inl (PG.cn pr.body 0)[i].1)=some (.ref y)/\cv K H y ((PG.cn pr.body 0)[i].2.2.map V.int))/\gA K H fa (PG.cR pr.body 0) (pr.bF.map (·.first))
theorem oY.mono{K:zaa}{H H':Hp}{md:zdU}{pr:PG.Prog}(m:oY K H md pr)(s:ar H H'):oY K H' md pr:=by
 obtain⟨B,d8,wy,fa,us,aV,h1,h2,h3,h4,h5,h6,h7,h8⟩:=m.at_;exact⟨⟨B,d8,wy,fa,us,aV,s.seq h1,h2.mono s,s _ _ h3,h4,h5.mono s,s _ _ h6,fun i hi=>let ⟨y,e,k⟩:=h7 i hi;⟨y,e,s.dQ k⟩,h8.mono s⟩⟩
theorem oY.row{K:zaa}{H:Hp}{md:zdU}{pr:PG.Prog}(m:oY K H md pr)(ok:RV pr){i:Nat}(hi:i<(PG.bj pr.body).length)(hf:i<(PG.cn pr.body 0).length) :
 ∃(B d8 wy fa ta y:zdU) (us ys:List V) (aV:List (Key×V)),fH K H md [.ref B,.ref d8,.ref wy,.ref fa]/\Rep K H (.lst (pr.bF.map DT)) (.ref B)/\H d8=some (.dK (vP (PG.bj pr.body) us))/\dX (vP (PG.bj pr.body) us) (.inl (PG.bj pr.body)[i].row)=some (.ref ta)/\Rep K H (oU (PG.bj pr.body)[i]) (.ref ta)/\cv K H ta (.str (Kg (PG.bj pr.body)[i].wd)::ys)/\
  H wy=some (.dK aV)/\dX aV (.inl (PG.bj pr.body)[i].row)=some (.ref y)/\cv K H y ((PG.cn pr.body 0)[i].2.2.map V.int):=by
 obtain⟨B,d8,wy,fa,us,aV,h1,h2,h3,h4,h5,h6,h7,h8⟩:=m.at_;obtain⟨v,hv,rv⟩:=h5.get (i:=i) (d:=oU (PG.bj pr.body)[i]) (by rw[zaz,zac hi];rfl);have g:=DU _ _ h4 ok.pw i hi v hv;obtain⟨ta,ys,rfl,hta⟩:=Jl _ rv;obtain⟨y,e,k⟩:=h7 i hf;obtain⟨_,e1,_⟩:=xZ pr.body i hi;rw[e1] at e;exact⟨B,d8,wy,fa,ta,y,us,_,aV,h1,h2,h3,g,rv,hta,h6,e,k⟩
section
variable(P:zd6)(w:zdW)(K:zaa)(CC:zdU)
def Mi (H:Hp) (l:zdU) (us:List V) (ts:List PG.Tg):Prop:=H l=some (.lst us)/\aG K H (ts.map Om) us
def Bc (H:Hp) (g:List PG.dP) (us:List V):Prop:=Paired (fun (s:PG.dP) v=>∃a,v=.ref a/\gA K H a s.1 s.2) g us
end
theorem Bc.mono{K:zaa}{H H':Hp}{g:List PG.dP}{us:List V}(h:Bc K H g us)(s:ar H H'):Bc K H' g us:=Paired.Di h fun _ _ ⟨a,e,q⟩=>⟨a,e,q.mono s⟩
theorem Mi.mono{K:zaa}{H H':Hp}{l:zdU}{us:List V}{ts:List PG.Tg}(h:Mi K H l us ts)(s:ar H H'):Mi K H' l us ts:=⟨s _ _ h.1,h.2.mono s⟩
open PyProof.Rows
theorem Mj{J:It}{D:zdU}{g:TG}{te:TE}{Q:VK}{τ0:St}{H:Hp}(G:St->Prop)(xs:List V)(Pv:Nat->List V->Hp->Prop)
 (go:∀i H2,ar H H2->i<xs.length->J.go i H2) (stop:∀H2,ar H H2->J.stop xs.length H2) (xr:∀i H2 x H3,ar H H2->i<xs.length->J.xr i H2 x H3->H3=H2/\xs[i]?=some x)
 (hl:xs.length<=16000000) (hD:H D=none) (g0:G τ0) (h0:Pv 0 [] (upd H D (.lst [])))
 (step:∀i x ys τ H2,xs[i]?=some x->G τ->ar H H2->H2 D=some (.lst ys)->ys.length=i->Pv i ys H2->∀R:St->VK,(∀τ' v H3,G τ'->ar H2 H3->Pv (i+1) (ys++[v]) (upd H3 D (.lst (ys++[v])))->R τ' v H3)->g x τ H2 fun τ' H'=>te τ' H' (R τ'))
 (q:∀ys H2,ar H H2->H2 D=some (.lst ys)->ys.length=xs.length->Pv xs.length ys H2->Q (.ref D) H2):nV J D g DA te Q τ0 (upd H D (.lst [])):=by
 refine⟨fun i m τ H2=>m=xs.length-i/\i<=xs.length/\G τ/\ar H H2/\∃ys,H2 D=some (.lst ys)/\ys.length=i/\Pv i ys H2,⟨xs.length,by simp,zaJ _,g0,ar.new hD _,[],aj,rfl,h0⟩,?_⟩
 rintro i m τ H2 ⟨rfl,hi,gt,s2,ys,h2,ly,p2⟩
 by_cases iR:i<xs.length
 ·refine .inr ⟨go i H2 s2 iR,fun τ' H'=>G τ'/\ar H H'/\∃ys,H' D=some (.lst ys)/\ys.length=i+1/\Pv (i+1) ys H',fun τ' H' ⟨h1,h3,h4⟩=>⟨xs.length-(i+1),by lia,rfl,iR,h1,h3,h4⟩,fun y H' hy=>?_⟩;obtain⟨rfl,ey⟩:=xr i H2 y H' s2 iR hy;simp only[DA,if_true];refine step i y ys τ _ ey gt s2 h2 ly p2 (fun τ' v H4=>_) fun τ' v H3 WC s3 p3=>⟨ys,s3 _ _ h2,?_,WC,?_,ys++[v],aj,by simp[ly],p3⟩
  ·have:zd2=2 ^ 24:=rfl;lia
  ·intro b o e;rw[aq (aB e hD)];exact s3 _ _ (s2 _ _ e)
 ·have e:i=xs.length:=by lia
  subst e;exact .inl ⟨stop H2 s2,q ys H2 s2 h2 ly p2⟩
theorem Jq{K:zaa}{a D:zdU}{xs:List V}{g:TG}{te:TE}{Q:VK}{τ0:St}{H:Hp}(G:St->Prop)(Pv:Nat->List V->Hp->Prop)(hS:fH K H a xs)
 (hl:xs.length<=16000000) (hD:H D=none) (g0:G τ0) (h0:Pv 0 [] (upd H D (.lst [])))
 (step:∀i x ys τ H2,xs[i]?=some x->G τ->ar H H2->H2 D=some (.lst ys)->ys.length=i->Pv i ys H2->∀R:St->VK,(∀τ' v H3,G τ'->ar H2 H3->Pv (i+1) (ys++[v]) (upd H3 D (.lst (ys++[v])))->R τ' v H3)->g x τ H2 fun τ' H'=>te τ' H' (R τ'))
 (q:∀ys H2,ar H H2->H2 D=some (.lst ys)->ys.length=xs.length->Pv xs.length ys H2->Q (.ref D) H2):nV (IJ K a) D g DA te Q τ0 (upd H D (.lst [])):=
 Mj G xs Pv (fun i H2 s2 h=>⟨xs,xs[i],s2.seq hS,by simp[h]⟩) (fun H2 s2=>⟨xs,s2.seq hS,zag _⟩) (fun i H2 x H3 s2 h y=>⟨y.1,y.2 _ (s2.seq hS)⟩) hl hD g0 h0 step q
open PySem.Spec
def Ml (a:zdU) (o:Obj):HO:=.ext fun h=>h.get? a=some o
section
variable{P:zd6}{w:zdW}{H:Hp}{h:Heap}{a:zdU}{o:Obj}
theorem Ml.get(x:sD P w H h)(e:H a=some (Ml a o)):h.get? a=some o:=(x a _ e).1
theorem Ml.ok{H':Hp}(e:h.get? a=some o):eK P w H' h a (Ml a o):=⟨e,⟨o,e⟩,fun _ _ p k=>k _ p⟩
end
def Vi (y name qual:Str) (params:Arguments) (body:Expr) (scope:Scope) (H:Hp) (fo cc:zdU) (R1:Obj) (vc:V):Prop:=
 ∃(c':zdU) (pm Yc uc:zdV) (oc:Obj) (vs:Array zdV) (tk:Nat),H fo=some (Ml fo (PySem.W.kla_obj name qual params body scope [(y,cc)] pm c' Yc))/\H c'=some (Ml c' oc)/\oc.data=.fields vs/\vs[1]?=some (.str qual tk)/\
  H cc=some (Ml cc R1)/\R1.data=.cell (some uc)/\RelV vc uc
def TabOk (qual:Str) (lp:Pos) (H:Hp) (ps:Array zdV):Prop:=
 ps = #[]\/∃(c':zdU) (oc:Obj) (vs:Array zdV) (tk:Nat),ps = #[rawInt lp.line,rawInt lp.col,.ref c']/\H c'=some (Ml c' oc)/\oc.data=.fields vs/\vs[1]?=some (.str qual tk)
def R3 (H:Hp) (P:zdU) (ps:Array zdV) (c':zdU) (oc:Obj) (fo:zdU) (ob:Obj):Hp:=upd (upd (upd H P (.Nw ps)) c' (Ml c' oc)) fo (Ml fo ob)
section
variable{H:Hp}{P:zdU}{ps:Array zdV}{c':zdU}{oc:Obj}{fo:zdU}{ob:Obj}
theorem R3.keep(hF:H fo=none)(hc:H c'=some (Ml c' oc)\/H c'=none){b:zdU}{o:HO}(n:b≠P)(e:H b=some o):R3 H P ps c' oc fo ob b=some o:=by
 unfold R3;rw[aq (aB e hF)];by_cases z:b=c'
 ·subst z;rcases hc with q |q
  ·rw[aj,<- q,e]
  ·rw[q] at e;cases e
 ·rw[aq z,aq n,e]
end
def R4:Expr->Arguments
 |.Lambda p _ _ _=>p
 |_=>{posonlyargs:=[],args:=[],vararg:=none,kwonlyargs:=[],kw_defaults:=[],kwarg:=none,defaults:=[]}
def Ox:Expr->Expr
 |.Lambda _ b _ _=>b
 |e=>e
def Mn:Expr->Scope
 |.Lambda _ _ s _=>s
 |_=>{kind:=.function,names:=[],isGenerator:=false,isCoroutine:=false}
def R5 (y qual:Str) (l:Expr) (H:Hp) (fo cc:zdU) (R1:Obj) (vc:V):Prop:=Vi y "<lambda>" qual (R4 l) (Ox l) (Mn l) H fo cc R1 vc
theorem Oy{K:zaa}{H H':Hp}{g:List PG.dP}{us:List V}(h:Bc K H g us)(f:∀a row vals,gA K H a row vals->gA K H' a row vals):Bc K H' g us:=Paired.Di h fun _ _ ⟨a,e,q⟩=>⟨a,e,f _ _ _ q⟩
abbrev zQ:=List (PG.dP×List Int)
def F8 (led:PG.dP->List PG.dP):Nat->zQ->PG.dP->List Int->zQ×Option (List PG.dP)
 |0,f,_,_=>(f,none)
 |n+1,f,s,g=>if s∈f.map (·.1) then (f,none) else match led s with
  |[t]=>F8 led n (f++[(s,g)]) t g
  |l=>(f++[(s,g)],some l)
def oZ (K:zaa) (H:Hp) (f:zQ) (aV:List (F5×V)):Prop:=Paired (fun (x:PG.dP×List Int) (kv:F5×V)=>kv.1=Jp x.1/\∃a,kv.2=.ref a/\cv K H a (x.2.map V.int)) f aV
section
variable{K:zaa}{H H':Hp}
theorem oZ.imp{f:zQ}{aV:List (F5×V)}(h:oZ K H f aV)(t:∀a xs,cv K H a xs->cv K H' a xs):oZ K H' f aV:=Paired.Di h fun _ _ ⟨e,a,e2,q⟩=>⟨e,a,e2,t _ _ q⟩
theorem oZ.Yd:∀ {f:zQ} {aV:List (F5×V)},oZ K H f aV->∀s:PG.dP,(dX aV (Jp s)).isSome=decide (s∈f.map (·.1))
 |[],_,h,s=>by cases h;rfl
 |x::r,_,h,s=>by
  cases h with
  |@cons _ kv _ _ a b=>
   obtain⟨k,v⟩:=kv;obtain⟨e,_⟩:=a;simp only at e;subst e;by_cases z:x.1=s
   ·rw[dB (by rw[z]),zar,z];simp
   ·rw[dC (fun y=>z (Mg y)),oZ.Yd b s,zar];simp[Ne.symm z]
theorem oZ.len{f:zQ}{aV:List (F5×V)}(h:oZ K H f aV):aV.length=f.length:=(Paired.length h).symm
theorem oZ.put{f:zQ}{aV:List (F5×V)}(h:oZ K H f aV){s:PG.dP}{g:List Int}{a:zdU}(n:s ∉ f.map (·.1))(q:cv K H a (g.map V.int)):oZ K H (f++[(s,g)]) (putK aV (Jp s) (.ref a)):=by
 unfold putK;rw[mr,h.Yd,decide_eq_false n,if_neg zan];exact Paired.snoc h ⟨rfl,a,rfl,q⟩
end
theorem R5.mono{y qual:Str}{l:Expr}{H H':Hp}{fo cc:zdU}{R1:Obj}{vc:V}(h:R5 y qual l H fo cc R1 vc)(s:ar H H'):R5 y qual l H' fo cc R1 vc:=by
 obtain⟨c',pm,Yc,uc,oc,vs,tk,g1,g2,d2,q2,g3,d3,rc⟩:=h;exact⟨c',pm,Yc,uc,oc,vs,tk,s _ _ g1,s _ _ g2,d2,q2,s _ _ g3,d3,rc⟩
section
variable{K:zaa}{H H':Hp}{p:zdU}{φ:Heap->Prop}
mutual
theorem HW(h:H p=some (.ext φ))(u:bH p H H'):∀(d:Dp) (v:V),Rep K H d v->Rep K H' d v
 |.dh,v,r=>by rw[Rep.qk] at r ⊢;exact r
 |.bl b,v,r=>by rw[Rep.rn] at r ⊢;exact r
 |.int b,v,r=>by rw[Rep.bO] at r ⊢;exact r
 |.str b,v,r=>by rw[Rep.aK] at r ⊢;exact r
 |.lst l,v,r=>by
  rw[Rep.iq] at r ⊢;obtain⟨a,ys,rfl,q,rs⟩:=r;refine⟨a,ys,rfl,?_,o5 h u l ys rs⟩;rcases q with (q |⟨o,q⟩) |q
  ·exact .inl (.inl (u _ _ (cM q h (by intro z;cases z)) q))
  ·exact .inl (.inr ⟨o,u _ _ (cM q h (by intro z;cases z)) q⟩)
  ·exact .inr q
 |.tup l,v,r=>by
  rw[Rep.aZ] at r ⊢;obtain⟨a,ys,rfl,q,rs⟩:=r;exact⟨a,ys,rfl,q.F7 h u,o5 h u l ys rs⟩
theorem o5(h:H p=some (.ext φ))(u:bH p H H'):∀(ds:List Dp) (vs:List V),aG K H ds vs->aG K H' ds vs
 |[],vs,r=>by rw[aG.aS] at r ⊢;exact r
 |d::ds,vs,r=>by
  rw[aG.aM] at r ⊢;obtain⟨v,t,rfl,r1,r2⟩:=r;exact⟨v,t,rfl,HW h u d v r1,o5 h u ds t r2⟩
end
theorem Kj.ext{C ch:zdU}{pr:PG.Prog}(c:Kj K C H ch pr)(h:H p=some (.ext φ))(u:bH p H H'):Kj K C H' ch pr:=by
 obtain⟨dx,nl,sd,fa,va,st,wy,us,ws,h1,h2,h3,h4,h5,h6,h7,h8,h9,UY,UZ,U0⟩:=c.at_;have k:∀ {b:zdU} {o:HO},H b=some o->(∀ψ,o≠.ext ψ)->H' b=some o:=fun {b o} e n=>u _ _ (cM e h (n φ)) e;exact⟨⟨dx,nl,sd,fa,va,st,wy,us,ws,k h1 (fun _ z=>by cases z),k h2 (fun _ z=>by cases z),k h3 (fun _ z=>by cases z),k h4 (fun _ z=>by cases z),k h5 (fun _ z=>by cases z),k h6 (fun _ z=>by cases z),h7,k h8 (fun _ z=>by cases z),o5 h u _ _ h9,UY,k UZ (fun _ z=>by cases z),fun i hi=>let ⟨q,e,r⟩:=U0 i hi;⟨q,e,r.F7 h u⟩⟩⟩
end
end L2
namespace L2
open PySem PySem.Spec PyProof.Rows
def HX (g:List Int):Option (List PG.dP)->List (List Int×List PG.dP)
 |none=>[]
 |some l=>[(g,l)]
def HY (led:PG.dP->List PG.dP) (n:Nat):zQ->zQ->zQ×List (List Int×List PG.dP)
 |f,[]=>(f,[])
 |f,(s,g)::r=>((HY led n (F8 led n f s g).1 r).1,HX g (F8 led n f s g).2++(HY led n (F8 led n f s g).1 r).2)
section
variable{led:PG.dP->List PG.dP}{S:PG.dP->Prop}
structure Mo(S:PG.dP->Prop)(f:zQ):Prop where
 nd:(f.map (·.1)).Nodup
 NC:∀x∈f,S x.1
theorem Mo.nil:Mo S []:=⟨zcl,fun x h=>by cases h⟩
theorem Mo.put{f:zQ}{s:PG.dP}{g:List Int}(h:Mo S f)(n:s ∉ f.map (·.1))(hs:S s):Mo S (f++[(s,g)]):=by
 refine⟨?_,fun x hx=>?_⟩
 ·rw[zaw];exact zby.mpr ⟨h.nd,by simp,fun a ha b hb=>by rw[zar,zbC,zad] at hb;rw[hb];exact fun y=>n (by rw[<- show a=s from y];exact ha)⟩
 ·rcases zaj.mp hx with hx |hx
  ·exact h.NC x hx
  ·rw[zad.mp hx];exact hs
structure F9(S:PG.dP->Prop)(m:Nat)(as:List (List Int×List PG.dP)):Prop where
 NC:∀a∈as,∀x∈a.2,S x
 len:∀a∈as,a.1.length<=m
theorem F9.nil{m:Nat}:F9 S m []:=⟨fun a h=>(by cases h),fun a h=>(by cases h)⟩
theorem F9.app{m:Nat}{as bs:List (List Int×List PG.dP)}(h:F9 S m as)(h2:F9 S m bs):F9 S m (as++bs):=⟨fun a ha=>(zaj.mp ha).elim (h.NC a) (h2.NC a),fun a ha=>(zaj.mp ha).elim (h.len a) (h2.len a)⟩
theorem Mp(li:∀s,S s->∀x∈led s,S x){m:Nat}:∀(n:Nat) (f:zQ) (s:PG.dP) (g:List Int),Mo S f->S s->g.length<=m->Mo S (F8 led n f s g).1/\F9 S m (HX g (F8 led n f s g).2)/\f.length+(HX g (F8 led n f s g).2).length<=(F8 led n f s g).1.length
 |0,f,s,g,h,_,_=>⟨h,.nil,zag _⟩
 |n+1,f,s,g,h,hs,hg=>by
  rw[F8];split
  ·exact⟨h,.nil,zag _⟩
  ·rename_i hn;have h1:=h.put (g:=g) hn hs;split
   ·rename_i t e;have:=Mp li n (f++[(s,g)]) t g h1 (li s hs t (by rw[e];exact zad.mpr rfl)) hg;refine⟨this.1,this.2.1,?_⟩;have:=this.2.2;rw[zaf,zav] at this;lia
   ·refine⟨h1,⟨fun a ha x hx=>?_,fun a ha=>?_⟩,?_⟩
    ·rw[zad.mp ha] at hx;exact li s hs x hx
    ·rw[zad.mp ha];exact hg
    ·rw[zaf];exact zag _
end
section
variable(K:zaa)
def nh (H:Hp) (as:List (List Int×List PG.dP)) (us:List V):Prop:=Paired (fun (a:List Int×List PG.dP) (v:V)=>∃ta ga la R6,v=.ref ta/\cv K H ta [.ref ga,.ref la]/\cv K H ga (a.1.map V.int)/\H la=some (.lst R6)/\Bc K H a.2 R6) as us
end
section
variable{K:zaa}{H H':Hp}
theorem nh.imp{as:List (List Int×List PG.dP)}{us:List V}(h:nh K H as us)(t:∀a xs,cv K H a xs->cv K H' a xs)(l:∀a xs,H a=some (.lst xs)->H' a=some (.lst xs)):nh K H' as us:=
 Paired.Di h fun _ _ ⟨ta,ga,la,R6,e,q1,q2,q3,q4⟩=>⟨ta,ga,la,R6,e,t _ _ q1,t _ _ q2,l _ _ q3,Oy q4 fun a row vals ⟨va,h1,h2⟩=>⟨va,t _ _ h1,t _ _ h2⟩⟩
theorem nh.mono{as:List (List Int×List PG.dP)}{us:List V}(h:nh K H as us)(s:ar H H'):nh K H' as us:=h.imp (fun a xs q=>s.dQ q) fun a xs q=>s _ _ q
theorem nh.ext{as:List (List Int×List PG.dP)}{us:List V}{D:zdU}{φ:Heap->Prop}(h:nh K H as us)(hD:H D=some (.ext φ))(u:bH D H H'):nh K H' as us:=h.imp (fun a xs q=>q.F7 hD u) fun a xs q=>u _ _ (cM q hD (by intro z;cases z)) q
end
def Kp (H H':Hp):Prop:=∀b o,H b=some o->(∀ps,o≠.Nw ps)->H' b=some o
section
variable{K:zaa}{H H':Hp}
theorem Kp.same(s:ar H H'):Kp H H':=fun b o e _=>s b o e
end
section
variable(P:zd6)(w:zdW)(K:zaa)(CC:zdU)
def R7 (H:Hp) (lv:zQ) (us:List V):Prop:=Paired (fun (x:PG.dP×List Int) (v:V)=>∃ta ga sa,v=.ref ta/\cv K H ta [.ref ga,.ref sa]/\cv K H ga (x.2.map V.int)/\gA K H sa x.1.1 x.1.2) lv us
end
section
variable{K:zaa}{H H':Hp}
theorem R7.imp{lv:zQ}{us:List V}(h:R7 K H lv us)(t:∀a xs,cv K H a xs->cv K H' a xs):R7 K H' lv us:=
 Paired.Di h fun _ _ ⟨ta,ga,sa,e,q1,q2,va,q3,q4⟩=>⟨ta,ga,sa,e,t _ _ q1,t _ _ q2,va,t _ _ q3,t _ _ q4⟩
end
theorem TabOk.up{H H':Hp}{qual:Str}{lp:Pos}{ps:Array zdV}(h:TabOk qual lp H ps)(k:∀b φ,H b=some (.ext φ)->H' b=some (.ext φ)):TabOk qual lp H' ps:=by
 rcases h with h |⟨c',oc,vs,tk,e,h1,h2,h3⟩
 ·exact .inl h
 ·exact .inr ⟨c',oc,vs,tk,e,k _ _ h1,h2,h3⟩
def EV (ps:List (zdU×V)) (es:Array DictEntry):Prop:=Paired (fun (p:zdU×V) (e:DictEntry)=>e.key=.ref p.1/\RelV p.2 e.val) ps es.toList
theorem EV.size{ps:List (zdU×V)}{es:Array DictEntry}(h:EV ps es):es.size=ps.length:=by rw[<- zb0];exact(Paired.length h).symm
section
variable(P:zd6)(w:zdW)(K:zaa)(CC:zdU)
def yg (H:Hp):Option (List Int)->Option V->Prop
 |none,r=>r=none
 |some g,r=>∃a,r=some (.ref a)/\cv K H a (g.map V.int)
def Be (H:Hp) (M:PG.Tg->Option (List Int)) (aV:List (List Key×V)):Prop:=∀t,yg K H (M t) (dX aV (D4 t))
end
section
variable{K:zaa}{H H':Hp}
theorem yg.imp{o:Option (List Int)}{r:Option V}(h:yg K H o r)(t:∀a xs,cv K H a xs->cv K H' a xs):yg K H' o r:=by
 cases o with
 |none=>exact h
 |some y=>obtain⟨a,h1,h2⟩:=h;exact⟨a,h1,t _ _ h2⟩
theorem Be.imp{M:PG.Tg->Option (List Int)}{aV:List (List Key×V)}(h:Be K H M aV)(t:∀a xs,cv K H a xs->cv K H' a xs):Be K H' M aV:=fun g=>(h g).imp t
theorem Be.put{M:PG.Tg->Option (List Int)}{aV:List (List Key×V)}{t:PG.Tg}{g:List Int}{a:zdU}(h:Be K H M aV)(n:M t=none)(q:cv K H a (g.map V.int)):Be K H (fun u=>(M u).or (if u=t then some g else none)) (putK aV (D4 t) (.ref a)):=fun u=>by
 show yg K H ((M u).or (if u=t then some g else none)) _;rw[xI];by_cases e:u=t
 ·subst e;rw[n,if_pos rfl,if_pos rfl];exact⟨a,rfl,q⟩
 ·rw[if_neg e,if_neg (fun z=>e (Jo z)),Option.or_none];exact h u
theorem oY.ext{md p:zdU}{pr:PG.Prog}{φ:Heap->Prop}(m:oY K H md pr)(h:H p=some (.ext φ))(u:bH p H H'):oY K H' md pr:=by
 obtain⟨B,d8,wy,fa,us,aV,h1,h2,h3,h4,h5,h6,h7,h8⟩:=m.at_;refine⟨⟨B,d8,wy,fa,us,aV,?_,HW h u _ _ h2,u _ _ (cM h3 h (by intro z;cases z)) h3,h4,o5 h u _ _ h5,u _ _ (cM h6 h (by intro z;cases z)) h6,fun i hi=>let ⟨y,e,k⟩:=h7 i hi;⟨y,e,k.F7 h u⟩,h8.ext h u⟩⟩;rcases h1 with (q |⟨o,q⟩) |q
 ·exact .inl (.inl (u _ _ (cM q h (by intro z;cases z)) q))
 ·exact .inl (.inr ⟨o,u _ _ (cM q h (by intro z;cases z)) q⟩)
 ·exact .inr q
end
theorem qJ{X:Cx}{K:zaa}(e:X.K=K):gq X (.builtin "len") (fun xs H Q=>∃p ys,xs=[.ref p]/\(fH K H p ys\/cv K H p ys)/\Q (.int ys.length) H):=e▸bB
section
variable{K:zaa}{H H':Hp}
theorem Kp.trans{H2:Hp}(a:Kp H H')(b:Kp H' H2):Kp H H2:=fun c o e n=>b c o (a c o e n) n
end
end L2
namespace PG
open PM
structure Dk where
 cs:List Int
 gs:List Bool
 pos:Int
 left:Int
 row:Int
 gap:Int
structure rM(d d':Dk):Prop where
 left:d'.left=d.left
 row:d'.row=d.row
 gap:d'.gap=d.gap
theorem rM.refl{d:Dk}:rM d d:=⟨rfl,rfl,rfl⟩
theorem rM.trans{a b c:Dk}(h:rM a b)(h2:rM b c):rM a c:=⟨h2.left.trans h.left,h2.row.trans h.row,h2.gap.trans h.gap⟩
structure Bf(d:Dk)(l:List cw)(d':Dk):Prop where
 rows:∀s∈l,d.row<s.row/\s.row<=d'.row
 pw:l.Pairwise fun a b=>a.row<b.row
 up:d.row<=d'.row
 cnt:(l.length:Int)=d.left-d'.left
 nn:0<=d'.left
 gap:d'.gap=d.gap
theorem Bf.nil{d d':Dk}(s:rM d d')(h:0<=d.left):Bf d [] d':=⟨fun s h=>(by cases h),.nil,by rw[s.row];exact zbO _,by rw[s.left];simp,by rw[s.left];exact h,s.gap⟩
theorem Bf.app{d d1 d2:Dk}{a b:List cw}(h:Bf d a d1)(q:Bf d1 b d2):Bf d (a++b) d2:=by
 refine⟨fun s hs=>?_,zcB.mpr ⟨h.pw,q.pw,fun s hs t ht=>?_⟩,zcj h.up q.up,?_,q.nn,q.gap.trans h.gap⟩
 ·rcases zaj.mp hs with hs |hs
  ·have:=h.rows s hs;have:=q.up;lia
  ·have:=q.rows s hs;have:=h.up;lia
 ·have:=h.rows s hs;have:=q.rows t ht;lia
 ·have:=h.cnt;have:=q.cnt;rw[zaf];lia
open PM (W Tr)
abbrev Rg:=Int×Int
def Ye (a b c d:Int):Int:=min (min a b) (min c d)
def Yf (a b c d:Int):Int:=max (max a b) (max c d)
def Yg (o:W) (l r:Rg):Rg:=if o=[43] then (l.1+r.1,l.2+r.2) else if o=[45] then (l.1-r.2,l.2-r.1) else (Ye (l.1*r.1) (l.1*r.2) (l.2*r.1) (l.2*r.2),Yf (l.1*r.1) (l.1*r.2) (l.2*r.1) (l.2*r.2))
def Oz (f:W->Rg):Tr->Rg
 |.num n=>(n,n)
 |.box b=>f b
 |.bin o l r=>Yg o (Oz f l) (Oz f r)
def R8 (r:Rg) (size:Int):Rg:=if r.1/size=r.2/size then (r.1%size,r.2%size) else (0,size-1)
def Vj (lt truth:Bool) (l r:Rg):Bool:=
 if lt then (if truth then decide (l.1<r.2) else decide (l.2 ≥ r.1)) else if truth then decide (max l.1 r.1<=min l.2 r.2) else !(decide (l.1=l.2)&&decide (l.2=r.1)&&decide (r.1=r.2))
def Ga (lt truth left:Bool) (own aY:Rg):Rg:=
 if lt then (if truth then (if left then (own.1,min own.2 (aY.2-1)) else (max own.1 (aY.1+1),own.2)) else if left then (max own.1 aY.1,own.2) else (own.1,min own.2 aY.2))
 else if truth then (max own.1 aY.1,min own.2 aY.2)
 else if aY.1=aY.2 then (if own.1=aY.1 then own.1+1 else own.1,if own.2=aY.1 then own.2-1 else own.2) else own
end PG
namespace L2
open PySem
def rN (K:zaa) (H:Hp) (v:V) (r:PG.Rg):Prop:=∃a,v=.ref a/\cv K H a [.int r.1,.int r.2]
theorem rN.mono{K:zaa}{H H':Hp}{v:V}{r:PG.Rg}(h:rN K H v r)(s:ar H H'):rN K H' v r:=by obtain⟨a,e,q⟩:=h;exact⟨a,e,s.dQ q⟩
theorem rN.new{K:zaa}{H H':Hp}{p:zdU}{r:PG.Rg}(e:upd H p (.tup [.int r.1,.int r.2])=H'):rN K H' (.ref p) r:=⟨p,rfl,.of (e▸aj)⟩
def Vk (truth:Bool) (own near Yh:PG.Rg):PG.Rg:=if truth then (max near.1 Yh.1,min near.2 Yh.2) else PG.Ga false false true own Yh
def R9 (lt truth:Bool) (own l r:PG.Rg):PG.Rg:=if lt then PG.Ga true truth true own r else Vk truth own l r
def Sb (lt truth:Bool) (own l r:PG.Rg):PG.Rg:=if lt then PG.Ga true truth false own l else Vk truth own r l
def Yi (k:Nat) (r:PG.Rg):Prop:=r.1.natAbs<=k/\r.2.natAbs<=k
def Mq (K:zaa) (H:Hp) (aV:List (Key×V)) (f:W->PG.Rg):PM.Tr->Prop
 |.num n=>n.natAbs<=2 ^ 12
 |.box x=>(∃v,dX aV (.inr (S x))=some v/\rN K H v (f x))/\Yi (2 ^ 12) (f x)
 |.bin o l r=>(o=[43]\/o=[45]\/o=[42])/\Mq K H aV f l/\Mq K H aV f r
theorem Mq.mono{K:zaa}{H H':Hp}{aV:List (Key×V)}{f:W->PG.Rg}(s:ar H H'):∀ {t:PM.Tr},Mq K H aV f t->Mq K H' aV f t
 |.num n,h=>h
 |.box x,h=>let ⟨⟨v,e,r⟩,b⟩:=h;⟨⟨v,e,r.mono s⟩,b⟩
 |.bin o l r,h=>⟨h.1,Mq.mono s h.2.1,Mq.mono s h.2.2⟩
def WD (f:W->PG.Rg):PM.Tr->Prop
 |.num n=>n.natAbs<=2 ^ 12
 |.box x=>Yi (2 ^ 12) (f x)
 |.bin _ l r=>WD f l/\WD f r
theorem Mq.u{K:zaa}{H:Hp}{aV:List (Key×V)}{f:W->PG.Rg}:∀ {t:PM.Tr},Mq K H aV f t->WD f t
 |.num n,h=>h
 |.box x,h=>h.2
 |.bin o l r,h=>⟨Mq.u h.2.1,Mq.u h.2.2⟩
end L2
namespace L3
open PySem PyProof.Rows
abbrev tA (h:Heap) (l:zdU):Heap:=h.push {cls:=.type "tuple_iterator",data:=.fields #[.ref l,.int 0 0]}
abbrev tB (h:Heap) (l tp:zdU):Heap:=(tA h l).push {cls:=.type "tuple_iterator",data:=.fields #[.ref tp,.int 0 0]}
abbrev tC (h:Heap) (l tp:zdU):Heap:=(tB h l tp).push {cls:=.type "tuple",data:=.seq #[.ref h.objs.size,.ref (tA h l).objs.size]}
end L3
namespace PG
open PM (W Tr)
def z6 (bs:List ik) (x:W):Nat:=bs.findIdx fun b=>decide (b.name=x)
def ni (bs:List ik) (rs:List Rg) (x:W):Rg:=rs.getD (z6 bs x) (0,0)
def o6 (bs:List ik) (rs:List Rg) (x:W) (r:Rg):List Rg:=rs.set (z6 bs x) r
theorem yh{bs:List ik}(nb:(bs.map (·.name)).Nodup){i:Nat}(hi:i<bs.length):z6 bs bs[i].name=i:=by
 unfold z6;rw[List.findIdx_eq (by simpa using hi)];refine⟨by simp,fun j hj=>?_⟩;have h:=zc4.mp nb j i (by simp;lia) (by simp;lia) hj;exact decide_eq_false (by simpa using h)
end PG
namespace L2
open PySem
def PY (K:zaa) (H:Hp) (bs:List PG.ik) (aV:List (Key×V)) (rs:List PG.Rg):Prop:=rs.length=bs.length/\∀i (hi:i<bs.length),∃v,dX aV (.inr (S bs[i].name))=some v/\∃r,rs[i]?=some r/\rN K H v r
theorem PY.mono{K:zaa}{H H':Hp}{bs:List PG.ik}{aV:List (Key×V)}{rs:List PG.Rg}(h:PY K H bs aV rs)(s:ar H H'):PY K H' bs aV rs:=
 ⟨h.1,fun i hi=>let ⟨v,e,r,er,q⟩:=h.2 i hi;⟨v,e,r,er,q.mono s⟩⟩
def Tj (bs:List PG.ik) (rs:List PG.Rg):PM.Tr->Prop
 |.num n=>n.natAbs<=2 ^ 12
 |.box x=>x∈bs.map (·.name)/\Yi (2 ^ 12) (PG.ni bs rs x)
 |.bin o l r=>(o=[43]\/o=[45]\/o=[42])/\Tj bs rs l/\Tj bs rs r
theorem PY.at_{K:zaa}{H:Hp}{bs:List PG.ik}{aV:List (Key×V)}{rs:List PG.Rg}(h:PY K H bs aV rs)(nb:(bs.map (·.name)).Nodup){x:W}(hx:x∈bs.map (·.name)):∃v,dX aV (.inr (S x))=some v/\rN K H v (PG.ni bs rs x):=by
 obtain⟨b,hb,rfl⟩:=zaK.mp hx;obtain⟨i,hi,rfl⟩:=zbt hb;obtain⟨v,e,r,er,q⟩:=h.2 i hi;refine⟨v,e,?_⟩;unfold PG.ni;rw[PG.yh nb hi,zae,er];exact q
theorem PY.put{K:zaa}{H:Hp}{bs:List PG.ik}{aV:List (Key×V)}{rs:List PG.Rg}(h:PY K H bs aV rs)(nb:(bs.map (·.name)).Nodup){x:W}(hx:x∈bs.map (·.name)){v:V}{r:PG.Rg}(hv:rN K H v r):PY K H bs (putK aV (.inr (S x)) v) (PG.o6 bs rs x r):=by
 obtain⟨b,hb,rfl⟩:=zaK.mp hx;obtain⟨j,hj,rfl⟩:=zbt hb;unfold PG.o6;rw[PG.yh nb hj];refine⟨by rw[zbA];exact h.1,fun i hi=>?_⟩;by_cases e:i=j
 ·subst e;exact⟨v,by rw[xI,if_pos rfl],r,by rw[zbj (by rw[h.1];exact hi)],hv⟩
 ·obtain⟨u,e1,r1,er,q⟩:=h.2 i hi;refine⟨u,?_,r1,by rw[zbm (Ne.symm e)];exact er,q⟩;rw[xI,if_neg fun z=>e ?_]
  ·exact e1
  ·have z:=DJ.mp (Sum.inr.inj z);have l:i<(bs.map (·.name)).length:=by simpa using hi
   have:=PG.yh nb hi;rw[<- PG.yh nb hi,<- PG.yh nb hj,z]
end L2
namespace PG
open PM (W Tr)
def rgL (bs:List ik) (rs:List Rg) (lt truth:Bool) (t:Tr) (a b:Rg):List Rg:=match t with
 |.box x=>o6 bs rs x (L2.R9 lt truth (ni bs rs x) a b)
 |_=>rs
def rgR (bs:List ik) (rs:List Rg) (lt truth:Bool) (t:Tr) (a b:Rg):List Rg:=match t with
 |.box x=>o6 bs rs x (L2.Sb lt truth (ni bs rs x) a b)
 |_=>rs
def Vl (rs:List Rg):Option (List Rg):=if (rs.map fun q=>decide (q.1>q.2)).any id then none else some rs
def yi (bs:List ik) (rs:List Rg) (sg:W) (l r:Tr) (truth:Bool):Option (List Rg):=
 if Vj (decide (sg=[60])) truth (Oz (ni bs rs) l) (Oz (ni bs rs) r) then
  Vl (rgR bs (rgL bs rs (decide (sg=[60])) truth l (Oz (ni bs rs) l) (Oz (ni bs rs) r)) (decide (sg=[60])) truth r (Oz (ni bs rs) l) (Oz (ni bs rs) r))
 else none
end PG
namespace L2
open PySem
def Gb (K:zaa) (H:Hp) (us:List V) (rs:List PG.Rg):Prop:=us.length=rs.length/\∀i (hi:i<us.length),∃r,rs[i]?=some r/\rN K H us[i] r
theorem Gb.mono{K:zaa}{H H':Hp}{us:List V}{rs:List PG.Rg}(h:Gb K H us rs)(s:ar H H'):Gb K H' us rs:=⟨h.1,fun i hi=>let ⟨r,e,q⟩:=h.2 i hi;⟨r,e,q.mono s⟩⟩
def oq (K:zaa) (H:Hp) (v:V) (rs:List PG.Rg):Prop:=∃a us,v=.ref a/\cv K H a us/\Gb K H us rs
theorem oq.mono{K:zaa}{H H':Hp}{v:V}{rs:List PG.Rg}(h:oq K H v rs)(s:ar H H'):oq K H' v rs:=by obtain⟨a,us,e,q,r⟩:=h;exact⟨a,us,e,s.dQ q,r.mono s⟩
def Mr (K:zaa) (H:Hp) (v:V):Option (List PG.Rg)->Prop
 |none=>v=.dh
 |some rs=>oq K H v rs
theorem Mr.mono{K:zaa}{H H':Hp}{v:V}:∀ {o:Option (List PG.Rg)},Mr K H v o->ar H H'->Mr K H' v o
 |none,h,_=>h
 |some _,h,s=>oq.mono h s
end L2
namespace PG
def Gd (f:Bool->Option (List Rg)) (ws:List (Int×Bool)):List (Int×List Rg):=ws.filterMap fun w=>(f w.2).map fun r=>(w.1,r)
end PG
namespace L2
open PySem
theorem rN.lT{K:zaa}{H H':Hp}{D:zdU}{v:V}{r:PG.Rg}{ys:List V}(h:rN K H v r)(hD:H D=some (.lst ys))(u:bH D H H'):rN K H' v r:=by obtain⟨a,e,q⟩:=h;exact⟨a,e,q.lT hD u⟩
theorem oq.lT{K:zaa}{H H':Hp}{D:zdU}{v:V}{rs:List PG.Rg}{ys:List V}(h:oq K H v rs)(hD:H D=some (.lst ys))(u:bH D H H'):oq K H' v rs:=
 let ⟨a,us,e,q,l,r⟩:=h;⟨a,us,e,q.lT hD u,l,fun i hi=>let ⟨r1,e1,q1⟩:=r i hi;⟨r1,e1,q1.lT hD u⟩⟩
def yj (K:zaa) (H:Hp) (v:V) (w:Int×List PG.Rg):Prop:=∃a u,v=.ref a/\cv K H a [.int w.1,u]/\oq K H u w.2
theorem yj.mono{K:zaa}{H H':Hp}{v:V}{w:Int×List PG.Rg}(h:yj K H v w)(s:ar H H'):yj K H' v w:=by obtain⟨a,u,e,q,r⟩:=h;exact⟨a,u,e,s.dQ q,r.mono s⟩
theorem yj.lT{K:zaa}{H H':Hp}{D:zdU}{v:V}{w:Int×List PG.Rg}{ys:List V}(h:yj K H v w)(hD:H D=some (.lst ys))(u:bH D H H'):yj K H' v w:=by obtain⟨a,x,e,q,r⟩:=h;exact⟨a,x,e,q.lT hD u,r.lT hD u⟩
inductive uP(K:zaa)(H:Hp):List V->List (Int×List PG.Rg)->Prop
 |nil:uP K H [] []
 |cons {v w us ws}:yj K H v w->uP K H us ws->uP K H (v::us) (w::ws)
theorem uP.map{K:zaa}{H H':Hp}{us:List V}{ws:List (Int×List PG.Rg)}(h:uP K H us ws)(f:∀v w,yj K H v w->yj K H' v w):uP K H' us ws:=by
 induction h with
 |nil=>exact .nil
 |cons a _ ih=>exact .cons (f _ _ a) ih
theorem uP.snoc{K:zaa}{H:Hp}{us:List V}{ws:List (Int×List PG.Rg)}{v:V}{w:Int×List PG.Rg}(h:uP K H us ws)(q:yj K H v w):uP K H (us++[v]) (ws++[w]):=by
 induction h with
 |nil=>exact .cons q .nil
 |cons a _ ih=>exact .cons a ih
theorem uP.len{K:zaa}{H:Hp}{us:List V}{ws:List (Int×List PG.Rg)}(h:uP K H us ws):us.length=ws.length:=by
 induction h with
 |nil=>rfl
 |cons a _ ih=>simp[ih]
end L2
namespace PG
open PM (W Tr)
def Sd (bs:List ik) (rs:List Rg) (ws:List Int):cw->List (Int×List Rg)
 |.ask _ b=>[(ws.getD 0 0,o6 bs rs b (0,L2.lB bs b-1))]
 |.put _ b e=>[(ws.getD 0 0,o6 bs rs b (R8 (Oz (ni bs rs) e) (L2.lB bs b)))]
 |.eI _ sg l r=>Gd (yi bs rs sg l r) (ws.zip [true,false])
 |.ifs _ sg l r _ _=>Gd (yi bs rs sg l r) (ws.zip [true,false])
 |.iU _ sg l r _=>Gd (yi bs rs sg l r) (ws.zip [true,false])
 |_=>[(ws.getD 0 0,rs)]
end PG
namespace L2
open PySem
def ND (H:Hp) (s:zdU):Prop:=∃n m:Int,H s=some (.lst [.int n,.int m])
theorem ND.same{H H':Hp}{s:zdU}(h:ND H s)(e:ar H H'):ND H' s:=by obtain⟨n,m,q⟩:=h;exact⟨n,m,e _ _ q⟩
def Ms (bs:List PG.ik):PM.Tr->Prop
 |.num n=>0<=n/\n<1000
 |.box x=>x∈bs.map (·.name)
 |.bin o l r=>(o=[43]\/o=[45]\/o=[42])/\Ms bs l/\Ms bs r
def Yj (bs:List PG.ik) (sg:W) (l r:PM.Tr):Prop:=(sg=[60]\/sg=[61])/\Ms bs l/\Ms bs r/\PG.xV l<=2/\PG.xV r<=2
def InD (row:Int) (b:List PG.cw):Prop:=b=[]\/b=[.say (row+1) (.num 1)]
def ElD (row:Int) (b:List PG.cw):Prop:=b=[]\/b=[.stop (row+3)]
def Vm (bs:List PG.ik) (row:Int):PG.cw->Prop
 |.ask k b=>k=row/\b∈bs.map (·.name)
 |.put k b e=>k=row/\b∈bs.map (·.name)/\Ms bs e/\PG.xV e<=2
 |.say k e=>k=row/\Ms bs e/\PG.xV e<=2
 |.stop k=>k=row
 |.eI k sg l r=>k=row/\Yj bs sg l r
 |.iU k sg l r a=>k=row/\Yj bs sg l r/\InD row a
 |.ifs k sg l r a b=>k=row/\Yj bs sg l r/\InD row a/\ElD row b
def Vn (K:zaa) (s:zdU) (H:Hp) (B:zdU) (bs:List PG.ik):Prop:=B≠s/\bs.length<=10/\∃xs,H B=some (.lst xs)/\e9 K (·=s) H (bs.map DT) xs
theorem Vn.bF{K:zaa}{s B:zdU}{H:Hp}{bs:List PG.ik}(h:Vn K s H B bs):vO K (·=s) H B bs:=by obtain⟨n,l,xs,e,f⟩:=h;exact⟨Fix.lst e n f,l⟩
theorem Vn.up{K:zaa}{s B:zdU}{H H1:Hp}{bs:List PG.ik}(h:Vn K s H B bs)(u:bH s H H1):Vn K s H1 B bs:=by obtain⟨n,l,xs,e,f⟩:=h;exact⟨n,l,xs,u _ _ n e,f.up (bf.one u rfl)⟩
section
variable(K:zaa)(C:zdU)
def Jr:PM.Tr->List PM.Tr
 |.bin o l r=>.bin o l r::(Jr l++Jr r)
 |t=>[t]
end
open PyProof.Rows
theorem ND.ne{H:Hp}{s p:zdU}(h:ND H s)(hp:H p=none):p≠s:=by
 obtain⟨n,m,e⟩:=h;exact(aB e hp).symm
theorem ND.new{H:Hp}{s p:zdU}(h:ND H s)(hp:H p=none)(o:HO):ND (upd H p o) s:=h.same (ar.new hp o)
theorem Tj.u{bs:List PG.ik}{rs:List PG.Rg}:∀ {t:PM.Tr},Tj bs rs t->WD (PG.ni bs rs) t
 |.num n,h=>h
 |.box x,h=>h.2
 |.bin o l r,h=>⟨Tj.u h.2.1,Tj.u h.2.2⟩
theorem oq.get{K:zaa}{H:Hp}{bs:List PG.ik}{rs:List PG.Rg}{rv:V}(h:oq K H rv rs)(ll:rs.length=bs.length){x:W}(hx:x∈bs.map (·.name)){Q:VK}(q:∀u,rN K H u (PG.ni bs rs x)->Q u H):K3 K rv (.int (PG.z6 bs x)) H Q:=by
 obtain⟨a,us,rfl,hS,l,g⟩:=h;have lt:PG.z6 bs x<bs.length:=by
  unfold PG.z6;rw[List.findIdx_lt_length];obtain⟨b,hb,e⟩:=zaK.mp hx;exact⟨b,hb,by simp[e]⟩
 obtain⟨r,er,hr⟩:=g (PG.z6 bs x) (by lia);refine a9 hS (v:=us[PG.z6 bs x]) (aQ (zac (by lia))) (q _ ?_);unfold PG.ni;rw[zae,er];exact hr
theorem Mu(xs:List V){x:Int}(h:0<=x):xE xs none (some x)=xs.take x.toNat:=by
 obtain⟨j,rfl⟩:∃j:Nat,x=j:=⟨x.toNat,by lia⟩
 unfold xE;rw[HT.Dv,HT.kW,zcP,Nat.sub_zero,zb6];by_cases h:j<=xs.length
 ·rw[zdi h]
 ·rw[Nat.min_eq_right (by lia),zbo,zbp (by lia)]
theorem yk(xs:List V)(j:Nat):xE xs (some (j:Int)) none=xs.drop j:=by
 unfold xE;rw[HT.Dv,HT.kW];by_cases h:j<=xs.length
 ·rw[zdi h,zbp (by rw[za9];lia)]
 ·rw[Nat.min_eq_right (by lia),zcp (by lia),zcp (by lia),List.take_nil]
structure ym(H:Hp)(ps:List zdU)(rs:List PG.Rg):Prop where
 l:ps.length=rs.length
 nd:ps.Nodup
 at_:∀j (hj:j<ps.length),∃r,rs[j]?=some r/\H ps[j]=some (.lst [.int r.1,.int r.2])
theorem ym.up{H H':Hp}{ps:List zdU}{rs:List PG.Rg}(h:ym H ps rs)(u:∀p o,p∈ps->H p=some o->H' p=some o):ym H' ps rs:=
 ⟨h.l,h.nd,fun j hj=>let ⟨r,e,q⟩:=h.at_ j hj;⟨r,e,u _ _ (zaI hj) q⟩⟩
theorem ym.put{H H':Hp}{ps:List zdU}{rs:List PG.Rg}(h:ym H ps rs){j:Nat}(hj:j<ps.length){r:PG.Rg}(u:bH ps[j] H H')(e:H' ps[j]=some (.lst [.int r.1,.int r.2])):ym H' ps (rs.set j r):=by
 refine⟨by rw[zbA];exact h.l,h.nd,fun i hi=>?_⟩;have lj:j<rs.length:=by rw[<- h.l];exact hj
 by_cases z:i=j
 ·subst z;exact⟨r,by rw[zbj lj],e⟩
 ·obtain⟨r1,e1,q1⟩:=h.at_ i hi;refine⟨r1,by rw[zbm (Ne.symm z)];exact e1,u _ _ (fun y=>z ?_) q1⟩;exact(zbX h.nd).mp y
theorem ym.snoc{H:Hp}{ps:List zdU}{rs:List PG.Rg}(h:ym H ps rs){p:zdU}{r:PG.Rg}(np:p ∉ ps)(e:H p=some (.lst [.int r.1,.int r.2])):ym H (ps++[p]) (rs++[r]):=by
 refine⟨by simp[h.l],zby.mpr ⟨h.nd,by simp,fun a ha b hb=>?_⟩,fun i hi=>?_⟩
 ·rw[zad.mp hb];exact fun z=>np (z▸ha)
 ·by_cases z:i<ps.length
  ·obtain⟨r1,e1,q1⟩:=h.at_ i z;exact⟨r1,by rw[zau (by rw[<- h.l];exact z)];exact e1,by rw[zci z];exact q1⟩
  ·have:i=ps.length:=by simp at hi;lia
   subst this;exact⟨r,by rw[zat (by rw[h.l];exact zag _),h.l];simp,by rw[zc5 (zag _)];simp only[zbY,List.getElem_singleton];exact e⟩
theorem Gb.put{K:zaa}{H:Hp}{us:List V}{rs:List PG.Rg}(h:Gb K H us rs){j:Nat}{v:V}{r:PG.Rg}(g:rN K H v r):Gb K H (us.set j v) (rs.set j r):=by
 refine⟨by rw[zbA,zbA];exact h.1,fun i hi=>?_⟩;rw[zbA] at hi;by_cases z:j=i
 ·subst z;exact⟨r,by rw[zbj (by rw[<- h.1];exact hi)],by rw[List.getElem_set_self];exact g⟩
 ·obtain⟨r1,e1,q1⟩:=h.2 i hi;exact⟨r1,by rw[zbm z];exact e1,by rw[List.getElem_set_ne z];exact q1⟩
theorem ym.nil{H:Hp}:ym H [] []:=⟨rfl,zcl,fun j hj=>by simp at hj⟩
theorem Vo{K:zaa}:zbc K (.type "str") (.type "tuple")=some false:=by kernel_rfl
theorem Vp{K:zaa}:zbc K (.type "list") (.type "tuple")=some false:=by kernel_rfl
theorem Vm.Yd{bs:List PG.ik}{row:Int}{st:PG.cw}(h:Vm bs row st):∃r,PG.iw st=st::r/\(∀s∈r,row<s.row/\s.row<=row+3)/\r.Pairwise (fun a b=>a.row<b.row)/\r.length<=2/\PG.wx st<=1:=by
 cases st with
 |iU k sg a b i=>
  obtain⟨rfl,_,hi⟩:=h;rcases hi with rfl |rfl
  ·exact⟨[],by simp[PG.iw,PG.bj],by simp,by simp,by simp,by simp[PG.wx,PG.uM]⟩
  ·exact⟨_,by simp[PG.iw,PG.bj];rfl,by simp[PG.cw.row];lia,by simp,by simp,by simp[PG.wx,PG.uM]⟩
 |ifs k sg a b i e=>
  obtain⟨rfl,_,hi,he⟩:=h;rcases hi with rfl |rfl<;>rcases he with rfl |rfl
  ·exact⟨[],by simp[PG.iw,PG.bj],by simp,by simp,by simp,by simp[PG.wx,PG.uM]⟩
  ·exact⟨_,by simp[PG.iw,PG.bj];rfl,by simp[PG.cw.row];lia,by simp,by simp,by simp[PG.wx,PG.uM]⟩
  ·exact⟨_,by simp[PG.iw,PG.bj];rfl,by simp[PG.cw.row];lia,by simp,by simp,by simp[PG.wx,PG.uM]⟩
  ·exact⟨[.say (k+1) (.num 1),.stop (k+3)],by simp[PG.iw,PG.bj],by simp[PG.cw.row];lia,by simp[PG.cw.row],by simp,by simp[PG.wx,PG.uM]⟩
 |_=>exact⟨[],by simp[PG.iw],by simp,by simp,by simp,by simp[PG.wx]⟩
theorem Ms.sub{bs:List PG.ik}:∀ {t:PM.Tr},Ms bs t->∀x∈Jr t,Ms bs x/\PG.xV x<=PG.xV t/\∀o l r,x=.bin o l r->S o≠"box"/\S o≠"number"
 |.num n,h,x,hx=>by
  rw[Jr,zad] at hx
  ·subst hx;exact⟨h,zag _,fun o l r e=>by cases e⟩
  ·intro o l r z;cases z
 |.box n,h,x,hx=>by
  rw[Jr,zad] at hx
  ·subst hx;exact⟨h,zag _,fun o l r e=>by cases e⟩
  ·intro o l r z;cases z
 |.bin o l r,h,x,hx=>by
  rw[Jr,zak,zaj] at hx;rcases hx with rfl |hx |hx
  ·refine⟨h,zag _,fun o' l' r' e=>?_⟩;cases e;rcases h.1 with rfl |rfl |rfl<;>exact⟨by decide +kernel,by decide +kernel⟩
  ·obtain⟨a,b,c⟩:=Ms.sub h.2.1 x hx;exact⟨a,by rw[PG.xV];lia,c⟩
  ·obtain⟨a,b,c⟩:=Ms.sub h.2.2 x hx;exact⟨a,by rw[PG.xV];lia,c⟩
end L2
namespace PG
open PM (W Tr)
inductive wA where
 |iU (k:Int) (sg:W) (l r:Tr)
 |if1 (k:Int) (sg:W) (l r:Tr)
 |if2 (k:Int) (sg:W) (l r:Tr) (a:List cw)
def wA.fill:wA->List cw->cw
 |.iU k sg l r,b=>.iU k sg l r b
 |.if1 k sg l r,b=>.ifs k sg l r b []
 |.if2 k sg l r a,b=>.ifs k sg l r a b
def lU:List (List cw×wA)->List cw->List cw
 |[],b=>b
 |(s,h)::o,b=>lU o (s++[h.fill b])
def dY (b:List cw):List Int:=(bj b).map (·.row)
theorem yq:∀a b:List cw,bj (a++b)=bj a++bj b
 |[],b=>by simp[bj]
 |s::r,b=>by
  show bj (s::(r++b))=_;rw[bj,bj,yq r b,zaW]
theorem mG(a b:List cw):dY (a++b)=dY a++dY b:=by unfold dY;rw[yq,zaw]
theorem Js(h:wA)(a b:List cw):dY [h.fill (a++b)]=dY [h.fill a]++dY b:=by
 cases h<;>simp[wA.fill,dY,bj,iw,yq,cw.row]
theorem Ge:∀(o:List (List cw×wA)) (a b:List cw),dY (lU o (a++b))=dY (lU o a)++dY b
 |[],a,b=>mG a b
 |(s,h)::o,a,b=>by
  rw[lU,lU];have gen:∀(o:List (List cw×wA)) (x y:List cw) (c:List Int),dY x=dY y++c->dY (lU o x)=dY (lU o y)++c:=by
   intro o
   induction o with
   |nil=>exact fun x y c h=>h
   |cons q o ih=>
    intro x y c e;obtain⟨s,h⟩:=q;rw[lU,lU];refine ih _ _ _ ?_;rw[mG,mG,zaW]
    congr 1
    cases h<;>simp only[wA.fill,dY,bj,iw,zaC,zar,zaw]<;>(unfold dY at e;rw[e];simp[cw.row])
  refine gen o _ _ _ ?_;rw[mG,mG,zaW,Js]
theorem D6:∀ {l:List Int} {a b:Int},l.Pairwise (· < ·)->(∀x∈l,a<x/\x<=b)->(l.length:Int)<=max 0 (b-a)
 |[],a,b,_,_=>by simp;lia
 |x::r,a,b,p,h=>by
  rw[zb3] at p;have h1:=h x (zaq ..);have:=D6 (a:=x) (b:=b) p.2 fun y hy=>⟨p.1 y hy,(h y (zam _ hy)).2⟩
  rw[zah];lia
structure WE(nm:W->Prop)(ex:Tr->Prop)(sg:W->Prop)(r0 row:Int)(body:List cw):Prop where
 ok:PR nm ex sg body
 rise:(dY body).Pairwise (· < ·)
 rows:∀x∈dY body,r0<x/\x<=row
 dep:uM body<=4
 le:r0<=row
theorem WE.nil{nm:W->Prop}{ex:Tr->Prop}{sg:W->Prop}{r0:Int}:WE nm ex sg r0 r0 []:=⟨trivial,by simp[dY,bj],by simp[dY,bj],by simp[uM],zbO _⟩
theorem Gf{st:cw}(h:∀k s l r a b,st≠.ifs k s l r a b)(h2:∀k s l r a,st≠.iU k s l r a):dY [st]=[st.row]/\wx st=0:=by
 cases st with
 |ifs k s l r a b=>exact absurd rfl (h _ _ _ _ _ _)
 |iU k s l r a=>exact absurd rfl (h2 _ _ _ _ _)
 |_=>exact⟨by simp[dY,bj,iw],by simp[wx]⟩
end PG
namespace L2
open PySem PySem.Spec PyProof.Rows
def Tn (P:zd6) (w:zdW) (K:zaa) (a:zdU) (aV:List (Key×V)):Prop:=∀h:Heap,K.In h->aV.length<=zd2/\(a==sysModules)=false/\∃vs,KV aV vs/\h.DictOf (fg P w) a vs
def Vq (P:zd6) (w:zdW) (K:zaa) (x y:V) (o:Option V):Prop:=∃a aV k,x=.ref a/\Tn P w K a aV/\y=kV k/\o=dX aV k
def Mv (P:zd6) (w:zdW) (K:zaa) (td ty:TE):TE:=fun σ H Q=>td σ H fun x H1=>ty σ H1 fun y H2=>∃v,Vq P w K x y (some v)/\Q v H2
def BV (P:zd6) (w:zdW) (K:zaa) (td ty tx:TE):TE:=fun σ H Q=>td σ H fun x H1=>∃a aV,x=.ref a/\Tn P w K a aV/\ty σ H1 fun y H2=>tx σ H2 fun z H3=>∃k,y=kV k/\Q ((dX aV k).getD z) H3
section
variable{X:Cx}{o i e f:Expr}{pos apos iS:Pos}{td ty tx:TE}
theorem Jt(ho:PE X o td)(he:PE X e ty)(hf:PE X f tx)(m:M2 X o "get" apos e f iS):PE X (.Call (.Attribute o "get" apos) [e,f] [] iS) (BV X.prog X.w X.K td ty tx):=by
 intro pins s σ H Q I h;refine wpAny_Call_method m.base m.C6 m.line PySem.F.plainAttrs_dict zdu PySem.F.type_dict_get (eR (ho pins s σ H _ I h) fun u s1 zqz=>?_);obtain⟨x,H1,I1,rx,a,aV,ex,dc,q1⟩:=zqz;subst ex;obtain rfl:u=Value.ref a:=rx;obtain⟨_,_,vs,_,dd⟩:=dc _ I1.sE;have Wn:=dd;obtain⟨ob,es,ep,g1,g2,_⟩:=Wn;refine⟨dd.typeIs,fun b q=>by cases q;exact⟨ob,g1,g2.2.1⟩,?_⟩;rw[m.trees];refine Calls.callWith_builtin rfl (Calls.evalArgs_plain (Calls.spliced_cons (eR (he pins s1 σ H1 _ I1 q1) fun iv s2 ⟨y,H2,I2,ry,q2⟩=>Calls.spliced_cons (eR (hf pins s2 σ H2 _ I2 q2) fun fv s3 ⟨z,H3,I3,rz,k,ey,q3⟩=>Calls.spliced_nil ?_))));subst ey;obtain⟨_,hd,vs,rel,dd⟩:=dc _ I3.sE;refine call_meetsIn zdu dd.typeIs PySem.F.entry_dict_get (PySem.F.args_dict_get_3 _ _ _) (meets_dict_get_default (fg X.prog X.w) a (K9 ry) hd fv) ⟨_,dd.mapOf,_,H3,I3.tok _,?_,q3⟩;exact(rel.val k).getD rz
end
inductive Se(P:zd6)(w:zdW):List (Key×V)->List DictEntry->Prop
 |nil:Se P w [] []
 |cons {k v e aV es}:e.hash=(fg P w).hash k->RelV (kV k) e.key->RelV v e.val->Se P w aV es->Se P w ((k,v)::aV) (e::es)
theorem Se.of{P:zd6}{w:zdW}{aV:List (Key×V)}{es:List DictEntry}(h:Se P w aV es):∃vs,KV aV vs/\Pairs (fg P w) es vs/\∀e∈es,∃k,(fg P w).is k e.key=true/\e.hash=(fg P w).hash k:=by
 induction h with
 |nil=>exact⟨[],.nil,.nil,fun e he=>by cases he⟩
 |@cons k v e aV es a b c _ ih=>
  obtain⟨vs,h1,h2,h3⟩:=ih;refine⟨(k,e.val)::vs,.cons ⟨rfl,c⟩ h1,(.cons (K9 b) rfl h2),fun x hx=>?_⟩;rcases zak.mp hx with rfl |hx
  ·exact⟨k,K9 b,a⟩
  ·exact h3 x hx
theorem Tn.mk{P:zd6}{w:zdW}{K:zaa}{a:zdU}{aV:List (Key×V)}{es:Array DictEntry}{ep:Nat}(l:K.lookup a=some ⟨.type "dict",none,.dict es ep, #[]⟩)(ha:(a==sysModules)=false)(hd:Se P w aV es.toList)(nd:(aV.map (·.1)).Nodup)(len:aV.length<=zd2):Tn P w K a aV:=fun h hK=>by
 obtain⟨vs,h1,h2,h3⟩:=hd.of;refine⟨len,ha,vs,h1,_,es,ep,hK _ _ l,⟨rfl,rfl,rfl⟩,rfl,fun e he=>h3 e (by simpa using he),h2,?_⟩;have ek:∀ {l:List (Key×V)} {m:List (Key×zdV)},KV l m->l.map (·.1)=m.map (·.1):=by
  intro l m r;unfold KV at r
  induction r with
  |nil=>rfl
  |cons a _ ih=>rw[zar,zar,ih,a.1]
 rw[<- ek h1];exact nd
open PG
open PM (W Tr)
def In (r:Rg) (v:Int):Prop:=r.1<=v/\v<=r.2
def Mw (rs:List Rg) (vals:List Int):Prop:=vals.length=rs.length/\∀(i:Nat) (v:Int) (r:Rg),vals[i]?=some v->rs[i]?=some r->In r v
theorem WG{a b x y:Int}(h1:a<=x)(h2:x<=b):min (a*y) (b*y)<=x*y/\x*y<=max (a*y) (b*y):=by
 by_cases hy:0<=y
 ·have e1:=zb4 h1 hy;have e2:=zb4 h2 hy;exact⟨zcj (Int.min_le_left _ _) e1,zcj e2 (Int.le_max_right _ _)⟩
 ·have hy:y<=0:=by lia
  have e1:=zcC h1 hy;have e2:=zcC h2 hy;exact⟨zcj (Int.min_le_right _ _) e2,zcj e1 (Int.le_max_left _ _)⟩
theorem Bg{bs:List ik}{x:W}(h:x∈bs.map (·.name)):z6 bs x<bs.length:=by
 unfold z6;obtain⟨b,hb,rfl⟩:=zaK.mp h;exact List.findIdx_lt_length_of_exists ⟨b,hb,by simp⟩
theorem Mw.at_{bs:List ik}{rs:List Rg}{vals:List Int}{x:W}(h:Mw rs vals)(l:vals.length=bs.length)(hx:x∈bs.map (·.name)):In (ni bs rs x) (vals.getD (z6 bs x) 0):=by
 have hi:=Bg hx;have l2:=h.1;unfold ni;rw[zae,zae,zac (show z6 bs x<vals.length by lia),zac (show z6 bs x<rs.length by lia)];exact h.2 _ _ _ (zac (by lia)) (zac (by lia))
end L2
namespace L2
open PySem PG
open PM (W Tr)
def one (vals:List Int):List Rg:=vals.map fun v=>(v,v)
end L2
namespace L2
open PySem PG
open PM (W Tr)
def To (b:ik) (r:Rg):Prop:=0<=r.1/\r.2<=b.size-1
def Tp (bs:List ik) (rs:List Rg):Prop:=rs.length=bs.length/\∀(i:Nat) (r:Rg) (b:ik),rs[i]?=some r->bs[i]?=some b->To b r
structure Ju(bs:List ik)(rs:List Rg):Prop where
 bd:Tp bs rs
 le:∀r∈rs,r.1<=r.2
theorem Tp.at_{bs:List ik}{rs:List Rg}(h:Tp bs rs){x:W}(hx:x∈bs.map (·.name)):To (bs[z6 bs x]'(Bg hx)) (ni bs rs x):=by
 have hi:=Bg hx;have l:=h.1;refine h.2 (z6 bs x) _ _ ?_ (zac hi);unfold ni;rw[zae,zac (show z6 bs x<rs.length by lia)];rfl
theorem Tp.put{bs:List ik}{rs:List Rg}(h:Tp bs rs){x:W}(hx:x∈bs.map (·.name)){r:Rg}(hr:To (bs[z6 bs x]'(Bg hx)) r):Tp bs (o6 bs rs x r):=by
 refine⟨by unfold o6;rw[zbA];exact h.1,fun i q b e1 e2=>?_⟩;unfold o6 at e1;rw[List.getElem?_set] at e1;by_cases c:z6 bs x=i
 ·rw[if_pos c] at e1;subst c;by_cases d:z6 bs x<rs.length
  ·rw[if_pos d] at e1;cases e1;rw[zac (Bg hx)] at e2;cases e2;exact hr
  ·rw[if_neg d] at e1;cases e1
 ·rw[if_neg c] at e1;exact h.2 i q b e1 e2
theorem Ju.put{bs:List ik}{rs:List Rg}(h:Ju bs rs){x:W}(hx:x∈bs.map (·.name)){r:Rg}(hr:To (bs[z6 bs x]'(Bg hx)) r)(hl:r.1<=r.2):Ju bs (o6 bs rs x r):=⟨h.bd.put hx hr,fun q hq=>by
 unfold o6 at hq;rcases zbV hq with hq |rfl
 ·exact h.le q hq
 ·exact hl⟩
theorem Paired.app{α β:Type}{F:α->β->Prop}{a1 a2:List α}{b1 b2:List β}(h1:Paired F a1 b1)(h2:Paired F a2 b2):Paired F (a1++a2) (b1++b2):=by
 induction h1 with
 |nil=>exact h2
 |cons h _ ih=>exact .cons h ih
end L2
namespace L2
open PySem PyProof.Rows
section
variable{K:zaa}{D D' O:zdU->Prop}{H0 H H1:Hp}{d:Dp}{v:V}{s p:zdU}
theorem Fix.grow(f:Fix K D H d v)(h:∀a,D' a->D a\/H a=none):Fix K D' H d v:=fun H2 u=>f H2 fun b o n e=>u b o (fun z=>(h b z).elim n fun z=>by rw[z] at e;cases e) e
theorem e9.grow{ds:List Dp}{vs:List V}(f:e9 K D H ds vs)(h:∀a,D' a->D a\/H a=none):e9 K D' H ds vs:=fun H2 u=>f H2 fun b o n e=>u b o (fun z=>(h b z).elim n fun z=>by rw[z] at e;cases e) e
theorem Own.tup{ds:List Dp}{vs:List V}(h:rH K H0 H ds vs)(dm:∀b,H0 b≠none->H b≠none)(hp:H p=none):Own K H0 (upd H p (.tup vs)) (.tup ds) (.ref p):=fun O hO=>Fix.tup aj (fun z=>dm p (hO p z) hp) ((h O hO).up (.of (ar.new hp _)))
theorem ND.nn(h:ND H s):H s≠none:=by obtain⟨_,_,e⟩:=h;exact by rw[e];simp
theorem ar.Kh(h:ar H H1):∀b,H b≠none->H1 b≠none:=fun b hb=>by
 cases z:H b with
 |none=>exact absurd z hb
 |some o=>rw[h b o z];simp
end
abbrev Yk (bs:List PG.ik) (e:PM.Tr):Prop:=PG.DR bs e/\PG.xV e<=2
def Plain:PG.cw->Prop
 |.ifs ..=>False
 |.iU ..=>False
 |_=>True
theorem Plain.rows{st:PG.cw}(h:Plain st):PG.dY [st]=[st.row]/\PG.wx st=0:=PG.Gf (fun _ _ _ _ _ _ z=>by rw[z] at h;exact h) (fun _ _ _ _ _ z=>by rw[z] at h;exact h)
abbrev ZkB (bs:List PG.ik):Int->Int->List PG.cw->Prop:=PG.WE (·∈bs.map (·.name)) (Yk bs) (·∈PG.Td)
section
variable(K:zaa)(D:zdU->Prop)(H:Hp)
inductive lV:List (List PG.cw×PG.wA)->zdU->List zdU->List V->Prop
 |root {p:zdU}:lV [] p [] [.dh]
 |iU {o P0 k sg l r p q c ps ss vs vl vr}:H q=some (.lst (vs++[.ref c]))->e9 K D H (P0.map oU) vs->¬D c->H c=some (.tup [.str "while",.int k,.str (S sg),vl,vr,.ref p])->Fix K D H (cV l) vl->Fix K D H (cV r) vr->lV o q ps ss->lV ((P0,.iU k sg l r)::o) p (q::ps) (.dh::ss)
 |if1 {o P0 k sg l r p q c b ps ss vs vl vr}:H q=some (.lst (vs++[.ref c]))->e9 K D H (P0.map oU) vs->¬D c->H c=some (.tup [.str "if",.int k,.str (S sg),vl,vr,.ref p,.ref b])->Fix K D H (cV l) vl->Fix K D H (cV r) vr->H b=some (.lst [])->lV o q ps ss->lV ((P0,.if1 k sg l r)::o) p (q::ps) (.ref b::ss)
 |if2 {o P0 k sg l r a p q c va ps ss vs vl vr}:H q=some (.lst (vs++[.ref c]))->e9 K D H (P0.map oU) vs->¬D c->H c=some (.tup [.str "if",.int k,.str (S sg),vl,vr,va,.ref p])->Fix K D H (cV l) vl->Fix K D H (cV r) vr->Fix K D H (.lst (a.map oU)) va->lV o q ps ss->lV ((P0,.if2 k sg l r a)::o) p (q::ps) (.dh::ss)
end
section
variable{K:zaa}{D D':zdU->Prop}{H H1:Hp}{o:List (List PG.cw×PG.wA)}{p:zdU}{ps:List zdU}{ss:List V}
theorem lV.len(h:lV K D H o p ps ss):ps.length=o.length/\ss.length=o.length+1:=by
 induction h with
 |root=>exact⟨rfl,rfl⟩
 |iU _ _ _ _ _ _ _ ih=>exact⟨by rw[zah,zah,ih.1],by rw[zah,zah,ih.2]⟩
 |if1 _ _ _ _ _ _ _ _ ih=>exact⟨by rw[zah,zah,ih.1],by rw[zah,zah,ih.2]⟩
 |if2 _ _ _ _ _ _ _ _ ih=>exact⟨by rw[zah,zah,ih.1],by rw[zah,zah,ih.2]⟩
theorem lV.up(h:lV K D H o p ps ss)(u:bf D H H1)(h1:∀q∈ps,H1 q=H q)(h2:∀b,V.ref b∈ss->H1 b=H b):lV K D H1 o p ps ss:=by
 induction h with
 |root=>exact .root
 |iU a b c d e f g ih=>exact .iU (by rw[h1 _ (zaq ..)];exact a) (b.up u) c (u _ _ c d) (e.up u) (f.up u) (ih (fun q hq=>h1 q (zam _ hq)) fun b hb=>h2 b (zam _ hb))
 |if1 a b c d e f x g ih=>exact .if1 (by rw[h1 _ (zaq ..)];exact a) (b.up u) c (u _ _ c d) (e.up u) (f.up u) (by rw[h2 _ (zaq ..)];exact x) (ih (fun q hq=>h1 q (zam _ hq)) fun b hb=>h2 b (zam _ hb))
 |if2 a b c d e f x g ih=>exact .if2 (by rw[h1 _ (zaq ..)];exact a) (b.up u) c (u _ _ c d) (e.up u) (f.up u) (x.up u) (ih (fun q hq=>h1 q (zam _ hq)) fun b hb=>h2 b (zam _ hb))
theorem lV.grow(h:lV K D H o p ps ss)(g:∀a,D' a->D a\/H a=none):lV K D' H o p ps ss:=by
 have nc:∀ {c:zdU} {u:HO},¬D c->H c=some u->¬D' c:=fun n e z=>(g _ z).elim n fun z=>by rw[z] at e;cases e
 induction h with
 |root=>exact .root
 |iU a b c d e f _ ih=>exact .iU a (b.grow g) (nc c d) d (e.grow g) (f.grow g) ih
 |if1 a b c d e f x _ ih=>exact .if1 a (b.grow g) (nc c d) d (e.grow g) (f.grow g) x ih
 |if2 a b c d e f x _ ih=>exact .if2 a (b.grow g) (nc c d) d (e.grow g) (f.grow g) (x.grow g) ih
theorem lV.Kh(h:lV K D H o p ps ss):(∀q∈ps,H q≠none)/\∀b,V.ref b∈ss->H b≠none:=by
 have nn:∀ {q:zdU} {u:HO},H q=some u->H q≠none:=fun e z=>by rw[e] at z;cases z
 induction h with
 |root=>exact⟨fun q hq=>(by cases hq),fun b hb=>(by simp at hb)⟩
 |iU a _ _ _ _ _ _ ih=>exact⟨fun q hq=>(zak.mp hq).elim (fun e=>e▸nn a) (ih.1 q),fun b hb=>(zak.mp hb).elim (fun e=>by cases e) (ih.2 b)⟩
 |if1 a _ _ _ _ _ x _ ih=>exact⟨fun q hq=>(zak.mp hq).elim (fun e=>e▸nn a) (ih.1 q),fun b hb=>(zak.mp hb).elim (fun e=>by cases e;exact nn x) (ih.2 b)⟩
 |if2 a _ _ _ _ _ _ _ ih=>exact⟨fun q hq=>(zak.mp hq).elim (fun e=>e▸nn a) (ih.1 q),fun b hb=>(zak.mp hb).elim (fun e=>by cases e) (ih.2 b)⟩
theorem lV.same(h:lV K D H o p ps ss)(s:ar H H1):lV K D H1 o p ps ss:=by
 have e:∀ {q:zdU},H q≠none->H1 q=H q:=fun {q} n=>by
  cases z:H q with
  |none=>exact absurd z n
  |some u=>exact s _ _ z
 exact h.up (.of s) (fun q hq=>e (h.Kh.1 q hq)) fun b hb=>e (h.Kh.2 b hb)
def rootOf (p:zdU):List zdU->zdU
 |[]=>p
 |q::ps=>rootOf q ps
end
def WH (ss:List V):List zdU:=ss.filterMap fun v=>match v with |.ref b=>some b |_=>none
theorem OA{ss:List V}{b:zdU}:b∈WH ss↔V.ref b∈ss:=by
 unfold WH;rw[zcf]
 constructor
 ·rintro ⟨v,hv,e⟩
  cases v with
  |ref c=>cases e;exact hv
  |_=>cases e
 ·exact fun h=>⟨_,h,rfl⟩
def Qa (pl sc p:zdU) (ps:List zdU) (ss:List V):List zdU:=pl::sc::p::(ps++WH ss)
theorem HZ{pl sc p a:zdU}{ps:List zdU}{ss:List V}:a∈Qa pl sc p ps ss↔a=pl\/a=sc\/a=p\/a∈ps\/V.ref a∈ss:=by
 unfold Qa;simp only[zak,zaj,OA]
structure PZ(K:zaa)(bs:List PG.ik)(r0 row:Int)(R pl sc:zdU)(H0 H:Hp)(o:List (List PG.cw×PG.wA))(cur:List PG.cw)(p:zdU)(ps:List zdU)(ss vs:List V):Prop where
 Fo:H pl=some (.lst ((p::ps).reverse.map V.ref))
 WI:H sc=some (.lst ss.reverse)
 hp:H p=some (.lst vs)
 nd:(Qa pl sc p ps ss).Nodup
 fx:e9 K (·∈Qa pl sc p ps ss) H (cur.map oU) vs
 pa:lV K (·∈Qa pl sc p ps ss) H o p ps ss
 rt:rootOf p ps=R
 zk:ZkB bs r0 row (PG.lU o cur)
 len:o.length<=4
 sm:ar H0 H
 fr:∀a∈Qa pl sc p ps ss,H0 a=none
section
variable{K:zaa}{bs:List PG.ik}{r0 row:Int}{R pl sc:zdU}{H0 H H1:Hp}{o:List (List PG.cw×PG.wA)}{cur:List PG.cw}{p:zdU}{ps:List zdU}{ss vs:List V}
theorem PZ.Kh(h:PZ K bs r0 row R pl sc H0 H o cur p ps ss vs):∀a∈Qa pl sc p ps ss,H a≠none:=fun a ha=>by
 rcases HZ.mp ha with rfl |rfl |rfl |ha |ha
 ·rw[h.Fo];simp
 ·rw[h.WI];simp
 ·rw[h.hp];simp
 ·exact h.pa.Kh.1 a ha
 ·exact h.pa.Kh.2 a ha
theorem PZ.same(h:PZ K bs r0 row R pl sc H0 H o cur p ps ss vs)(s:ar H H1):PZ K bs r0 row R pl sc H0 H1 o cur p ps ss vs:=
 ⟨s _ _ h.Fo,s _ _ h.WI,s _ _ h.hp,h.nd,h.fx.up (.of s),h.pa.same s,h.rt,h.zk,h.len,h.sm.trans s,h.fr⟩
theorem xW:∀b:List PG.cw,b.length<=(PG.dY b).length
 |[]=>zaJ _
 |s::r=>by
  have ih:=xW r;unfold PG.dY at ih ⊢;rw[zai] at ih ⊢;rw[PG.bj,zaf,zah];have:0<(PG.iw s).length:=by cases s<;>simp[PG.iw]
  lia
theorem PZ.C6(h:PZ K bs r0 row R pl sc H0 H o cur p ps ss vs):(vs.length:Int)<=max 0 (row-r0):=by
 have h1:=PG.D6 h.zk.rise h.zk.rows;have h2:=PG.Ge o [] cur;rw[za5] at h2;have h3:=congrArg zbG h2;rw[zaf] at h3;have h4:=xW cur;have h5:=h.fx.X7.length;rw[zai] at h5;lia
theorem PZ.one(hR:H0 R=none)(Fo:H0 pl=none)(WI:H0 sc=none)(n1:pl≠sc)(n2:pl≠R)(n3:sc≠R)(s:ar H0 H)(e1:H R=some (.lst []))(e2:H pl=some (.lst [.ref R]))(e3:H sc=some (.lst [.dh])):PZ K bs r0 r0 R pl sc H0 H [] [] R [] [.dh] []:=
 ⟨e2,e3,e1,by unfold Qa;simp[WH,n1,n2,n3],.nil,.root,rfl,PG.WE.nil,by simp,s,fun a ha=>by
  rcases HZ.mp ha with rfl |rfl |rfl |h |h
  ·exact Fo
  ·exact WI
  ·exact hR
  ·cases h
  ·simp at h⟩
end
theorem tE{tt:TT}{a b:TS}{D:Ends}{σ:St}{H:Hp}(h:∀U1 U2:St->Hp->Prop,(∀σ' H',U1 σ' H'↔a D σ' H')->(∀σ' H',U2 σ' H'↔b D σ' H')->tt σ H fun c H1=>if c=true then U1 σ H1 else U2 σ H1):NO tt a b D σ H:=h (a D) (b D) (fun _ _=>Iff.rfl) fun _ _=>Iff.rfl
def IsK (K:zaa) (H:Hp) (x:V) (no tu li:Prop):Prop:=((∃z,x=.str z)/\no)\/((∃i,x=.int i)/\no)\/((∃a l,x=.ref a/\cv K H a l)/\tu)\/((∃a l,x=.ref a/\fH K H a l)/\li)
def Vr (K:zaa):List V->Hp->VK->Prop:=fun xs H Q=>∃x,xs=[x,.ty "tuple"]/\IsK K H x (Q (.bl false) H) (Q (.bl true) H) (Q (.bl false) H)
theorem Vs{K:zaa}:zbc K (.type "int") (.type "tuple")=some false:=by kernel_rfl
section
variable{X:Cx}
theorem Sf{T:String}{bs bi bt bl:Bool}(es:∀K,zbc K (.type "str") (.type T)=some bs)(ei:∀K,zbc K (.type "int") (.type T)=some bi)(et:∀K,zbc K (.type "tuple") (.type T)=some bt)(el:∀K,zbc K (.type "list") (.type T)=some bl)(e0:bs=bi) :
 gq X (.builtin "isinstance") (fun xs H Q=>∃x,xs=[x,.ty T]/\IsK X.K H x (Q (.bl bs) H) (Q (.bl bt) H) (Q (.bl bl) H)):=by
 intro pins s σ H xs us Q I r h;obtain⟨x,rfl,h⟩:=h;obtain⟨u1,u2,rfl,r1,r2⟩:=vals2 r;cases (show u2=Value.type T from r2);rcases h with ⟨⟨z,rfl⟩,q⟩ |⟨⟨i,rfl⟩,q⟩ |⟨⟨a,l,rfl,hS⟩,q⟩ |⟨⟨a,l,rfl,hS⟩,q⟩
 ·exact uE I r1 (.str z) (es _) fun tk=>⟨.bl bs,H,I.tok tk,rfl,q⟩
 ·subst e0;exact uE I r1 (.int i) (ei _) fun tk=>⟨.bl bs,H,I.tok tk,rfl,q⟩
 ·cases (show u1=Value.ref a from r1);obtain⟨aY,_,⟨o,h1,h2,_⟩,_⟩:=I.tuple hS;exact za8 zcZ I.sE ⟨o,h1,h2⟩ (et _) (fun z=>nomatch z) fun tk=>⟨.bl bt,H,I.tok tk,rfl,q⟩
 ·cases (show u1=Value.ref a from r1);obtain⟨aY,_,⟨o,n,h1,h2,_⟩,_⟩:=I.list hS;exact za8 zc3 I.sE ⟨o,h1,h2⟩ (el _) (fun z=>nomatch z) fun tk=>⟨.bl bl,H,I.tok tk,rfl,q⟩
theorem Mx:gq X (.builtin "isinstance") (Vr X.K):=Sf (fun _=>Vo) (fun _=>Vs) (fun _=>PN) (fun _=>Vp) rfl
end
def nA (a:Int):List Int->Int
 |[]=>a
 |d::r=>nA (10*a+d+1) r
def Dg (g:List Int):Prop:=∀d∈g,0<=d/\d<=9
section
variable(led:PG.dP->List PG.dP)(s0:PG.dP)
inductive Cm:PG.dP->List Int->Prop
 |start:Cm s0 []
 |one {s t g}:Cm s g->led s=[t]->Cm t g
 |many {s t g} {i:Nat}:Cm s g->(led s).length≠1->(led s)[i]?=some t->Cm t (g++[(i:Int)])
end
section
variable{led:PG.dP->List PG.dP}{s0:PG.dP}
theorem Cm.NC{S:PG.dP->Prop}(li:∀s,S s->∀x∈led s,S x)(h0:S s0){s:PG.dP}{g:List Int}(h:Cm led s0 s g):S s:=by
 induction h with
 |start=>exact h0
 |one _ e ih=>exact li _ ih _ (by rw[e];exact zad.mpr rfl)
 |many _ _ e ih=>exact li _ ih _ (zal e)
structure BI(led:PG.dP->List PG.dP)(s0:PG.dP)(k:Nat)(f l:zQ)(as:List (List Int×List PG.dP)):Prop where
 srt:f.Pairwise fun x y=>nA 0 x.2<=nA 0 y.2
 fl:∀x∈f,∀y∈l,nA 0 x.2<=nA 0 y.2
 ll:l.Pairwise fun x y=>nA 0 x.2<nA 0 y.2
 al:∀a∈as,∀y∈l,nA 0 a.1<nA 0 y.2
 aa:as.Pairwise fun a b=>nA 0 a.1<nA 0 b.1
 fk:∀x∈f,x.2.length<=k
 lk:∀x∈l,x.2.length=k
 ak:∀a∈as,a.1.length=k
 sf:∀x∈f,Cm led s0 x.1 x.2
 sl:∀x∈l,Cm led s0 x.1 x.2
 sa:∀a∈as,∃s,Cm led s0 s a.1/\a.2=led s/\(led s).length≠1
 c1:∀x∈f,∀t,led x.1=[t]->(∃y∈f,y.1=t/\nA 0 y.2<=nA 0 x.2)\/(t,x.2)∈l
 c2:∀x∈f,(led x.1).length≠1->∀(i:Nat) t,(led x.1)[i]?=some t->(∃y∈f,y.1=t/\nA 0 y.2<=nA 0 (x.2++[(i:Int)]))\/(t,x.2++[(i:Int)])∈l\/(x.2,led x.1)∈as
 st:(∃y∈f,y.1=s0/\nA 0 y.2<=0)\/(s0,[])∈l
section
variable{k:Nat}{f r:zQ}{s:PG.dP}{g:List Int}{as:List (List Int×List PG.dP)}
theorem BI.skip(h:BI led s0 k f ((s,g)::r) as)(hs:s∈f.map (·.1)):BI led s0 k f r as:=by
 obtain⟨y,hy,ey⟩:=zaK.mp hs;have ny:=h.fl y hy (s,g) (zaq ..);refine⟨h.srt,fun x hx z hz=>h.fl x hx z (zam _ hz),(zb3.mp h.ll).2,fun a ha z hz=>h.al a ha z (zam _ hz),h.aa,h.fk,fun x hx=>h.lk x (zam _ hx),h.ak,h.sf,fun x hx=>h.sl x (zam _ hx),h.sa,fun x hx t e=>?_,fun x hx n i t e=>?_,?_⟩
 ·rcases h.c1 x hx t e with z |z
  ·exact .inl z
  ·rcases zak.mp z with z |z
   ·cases z;exact .inl ⟨y,hy,ey,ny⟩
   ·exact .inr z
 ·rcases h.c2 x hx n i t e with z |z |z
  ·exact .inl z
  ·rcases zak.mp z with z |z
   ·cases z;exact .inl ⟨y,hy,ey,ny⟩
   ·exact .inr (.inl z)
  ·exact .inr (.inr z)
 ·rcases h.st with z |z
  ·exact .inl z
  ·rcases zak.mp z with z |z
   ·cases z;exact .inl ⟨y,hy,ey,ny⟩
   ·exact .inr z
theorem BI.put(h:BI led s0 k f ((s,g)::r) as){l:zQ}{bs:List (List Int×List PG.dP)}(hl:l=r/\bs=[(g,led s)]/\(led s).length≠1\/∃t,led s=[t]/\l=(t,g)::r/\bs=[]):BI led s0 k (f++[(s,g)]) l (as++bs):=by
 have hg:=zaq (a:=(s,g)) (l:=r);obtain⟨gr,rr⟩:=zb3.mp h.ll;have inr:∀x∈r,x∈l:=fun x hx=>by
  rcases hl with ⟨rfl,_⟩ |⟨t,_,rfl,_⟩
  ·exact hx
  ·exact zam _ hx
 have WG:∀x∈l,x∈r\/x.2=g/\led s=[x.1]:=fun x hx=>by
  rcases hl with ⟨rfl,_⟩ |⟨t,e,rfl,_⟩
  ·exact .inl hx
  ·rcases zak.mp hx with rfl |hx
   ·exact .inr ⟨rfl,e⟩
   ·exact .inl hx
 have bin:∀a∈bs,a=(g,led s)/\l=r/\(led s).length≠1:=fun a ha=>by
  rcases hl with ⟨e,rfl,n⟩ |⟨t,e,rfl,rfl⟩
  ·exact⟨zad.mp ha,e,n⟩
  ·cases ha
 have nf:∀x∈f++[(s,g)],nA 0 x.2<=nA 0 g:=fun x hx=>by
  rcases zaj.mp hx with hx |hx
  ·exact h.fl x hx _ hg
  ·rw[zad.mp hx];exact zbO _
 have ng:∀y∈l,nA 0 g<=nA 0 y.2:=fun y hy=>by
  rcases WG y hy with z |⟨z,_⟩
  ·exact Int.le_of_lt (gr y z)
  ·rw[z];exact zbO _
 have me:(s,g)∈f++[(s,g)]:=zaR _ (zad.mpr rfl);have up:∀ {P:PG.dP×List Int->Prop},(∃y∈f,P y)->∃y∈f++[(s,g)],P y:=fun ⟨y,hy,p⟩=>⟨y,zbi _ hy,p⟩
 refine⟨zcB.mpr ⟨h.srt,zdb _ _,fun x hx y hy=>?_⟩,fun x hx y hy=>zcj (nf x hx) (ng y hy),?_,?_,?_,?_,?_,?_,?_,?_,?_,fun x hx t e=>?_,fun x hx n i t e=>?_,?_⟩
 ·rw[zad.mp hy];exact h.fl x hx _ hg
 ·rcases hl with ⟨rfl,_⟩ |⟨t,_,rfl,_⟩
  ·exact rr
  ·exact zb3.mpr ⟨fun y hy=>gr y hy,rr⟩
 ·intro a ha y hy;rcases zaj.mp ha with ha |ha
  ·exact Int.lt_of_lt_of_le (h.al a ha _ hg) (ng y hy)
  ·obtain⟨rfl,rfl,_⟩:=bin a ha;exact gr y hy
 ·refine zcB.mpr ⟨h.aa,?_,fun a ha b hb=>?_⟩
  ·rcases hl with ⟨_,rfl,_⟩ |⟨_,_,_,rfl⟩
   ·exact zdb _ _
   ·exact .nil
  ·rw[(bin b hb).1];exact h.al a ha _ hg
 ·intro x hx;rcases zaj.mp hx with hx |hx
  ·exact h.fk x hx
  ·rw[zad.mp hx];exact zdK (h.lk _ hg)
 ·intro x hx;rcases WG x hx with z |⟨z,_⟩
  ·exact h.lk x (zam _ z)
  ·rw[z];exact h.lk _ hg
 ·intro a ha;rcases zaj.mp ha with ha |ha
  ·exact h.ak a ha
  ·rw[(bin a ha).1];exact h.lk _ hg
 ·intro x hx;rcases zaj.mp hx with hx |hx
  ·exact h.sf x hx
  ·rw[zad.mp hx];exact h.sl _ hg
 ·intro x hx;rcases WG x hx with z |⟨z,e⟩
  ·exact h.sl x (zam _ z)
  ·rw[z];exact .one (h.sl _ hg) e
 ·intro a ha;rcases zaj.mp ha with ha |ha
  ·exact h.sa a ha
  ·obtain⟨rfl,_,n⟩:=bin a ha;exact⟨s,h.sl _ hg,rfl,n⟩
 ·rcases zaj.mp hx with hx |hx
  ·rcases h.c1 x hx t e with z |z
   ·exact .inl (up z)
   ·rcases zak.mp z with z |z
    ·cases z;exact .inl ⟨_,me,rfl,zbO _⟩
    ·exact .inr (inr _ z)
  ·rw[zad.mp hx] at e ⊢;rcases hl with ⟨_,_,n⟩ |⟨t',e',rfl,_⟩
   ·exact absurd (by rw[show led s=[t] from e];rfl) n
   ·rw[show led s=[t] from e] at e';cases e';exact .inr (zaq ..)
 ·rcases zaj.mp hx with hx |hx
  ·rcases h.c2 x hx n i t e with z |z |z
   ·exact .inl (up z)
   ·rcases zak.mp z with z |z
    ·cases z;exact .inl ⟨_,me,rfl,zbO _⟩
    ·exact .inr (.inl (inr _ z))
   ·exact .inr (.inr (zbi _ z))
  ·rw[zad.mp hx] at n ⊢;rcases hl with ⟨_,rfl,_⟩ |⟨t',e',_⟩
   ·exact .inr (.inr (zaR _ (zad.mpr rfl)))
   ·exact absurd (by rw[show led s=[t'] from e'];rfl) n
 ·rcases h.st with z |z
  ·exact .inl (up z)
  ·rcases zak.mp z with z |z
   ·cases z;exact .inl ⟨_,me,rfl,zbO _⟩
   ·exact .inr (inr _ z)
end
variable{S:PG.dP->Prop}{M:Nat}
theorem BI.F8(li:∀s,S s->∀x∈led s,S x)(hM:∀f:zQ,Mo S f->f.length<=M){k:Nat}:∀(n:Nat) (f r:zQ) (s:PG.dP) (g:List Int) (as:List (List Int×List PG.dP)),M<f.length+n->Mo S f->S s->BI led s0 k f ((s,g)::r) as->BI led s0 k (F8 led n f s g).1 r (as++HX g (F8 led n f s g).2)
 |0,f,r,s,g,as,hn,o,_,_=>absurd (hM f o) (by lia)
 |n+1,f,r,s,g,as,hn,o,hs,h=>by
  rw[L2.F8];split
  ·rename_i Oe;show BI led s0 k f r (as++[]);rw[zaC];exact h.skip Oe
  ·rename_i Oe;have o1:=o.put (g:=g) Oe hs;split
   ·rename_i t e;have h2:=h.put (l:=(t,g)::r) (bs:=[]) (.inr ⟨t,e,rfl,rfl⟩);rw[zaC] at h2;exact BI.F8 li hM n _ r t g as (by rw[zaf,zav];lia) o1 (li s hs t (by rw[e];exact zad.mpr rfl)) h2
   ·rename_i l1 ne;refine h.put (.inl ⟨rfl,rfl,fun z=>?_⟩);obtain⟨t,e⟩:=zdk.mp z;exact ne t e
theorem BI.all(li:∀s,S s->∀x∈led s,S x)(hM:∀f:zQ,Mo S f->f.length<=M){k n:Nat}(hn:M<n):∀(l f:zQ) (as:List (List Int×List PG.dP)),Mo S f->(∀x∈l,S x.1)->BI led s0 k f l as->BI led s0 k (HY led n f l).1 [] (as++(HY led n f l).2)
 |[],f,as,_,_,h=>by
  show BI led s0 k f [] (as++[]);rw[zaC];exact h
 |(s,g)::r,f,as,o,hl,h=>by
  have h1:=BI.F8 li hM n f r s g as (by lia) o (hl _ (zaq ..)) h;have o1:=(Mp li (m:=g.length) n f s g o (hl _ (zaq ..)) (zag _)).1;have:=BI.all li hM hn r _ _ o1 (fun x hx=>hl x (zam _ hx)) h1;rw[zaW] at this;exact this
end
open PySem.Spec
def vQ (N:zdU->Prop) (H:Hp) (P:List Int->Prop) (us:List V):Prop:=∀u∈us,∃a iY,u=.ref a/\N a/\H a=some (.lst (iY.map V.int))/\Dg iY/\P iY
theorem vQ.nil{N:zdU->Prop}{H:Hp}{P:List Int->Prop}:vQ N H P []:=fun u h=>by cases h
theorem vQ.snoc{N:zdU->Prop}{H:Hp}{P:List Int->Prop}{us:List V}(h:vQ N H P us){a:zdU}{iY:List Int}(n:N a)(y:H a=some (.lst (iY.map V.int)))(d:Dg iY)(p:P iY):vQ N H P (us++[.ref a]):=fun u hu=>by
 rcases zaj.mp hu with hu |hu
 ·exact h u hu
 ·rw[zad.mp hu];exact⟨a,iY,rfl,n,y,d,p⟩
theorem vQ.keep{N M:zdU->Prop}{H H':Hp}{P:List Int->Prop}{us:List V}(h:vQ N H P us)(k:∀a xs,N a->H a=some (.lst xs)->M a/\H' a=some (.lst xs)):vQ M H' P us:=fun u hu=>by
 obtain⟨a,f,e,n,y,d⟩:=h u hu;exact⟨a,f,e,(k a _ n y).1,(k a _ n y).2,d⟩
structure Jv(H:Hp)(D C G:zdU)(d:PG.Dk):Prop where
 oW:H D=some (.lst [.ref C,.int d.pos,.ref G,.int d.left,.int d.row,.int d.gap])
 cs:H C=some (.lst (d.cs.map V.int))
 gs:H G=some (.lst (d.gs.map V.bl))
 Yl:D≠C
 Ym:D≠G
 nCG:C≠G
 len:d.cs.length<=63
 gl:d.gs.length=d.cs.length
 pos:0<=d.pos
abbrev O2 (D C:zdU):zdU->Prop:=fun b=>b=D\/b=C
section
variable{H H':Hp}{D C G:zdU}{d:PG.Dk}
theorem Jv.same(h:Jv H D C G d)(s:ar H H'):Jv H' D C G d:=⟨s _ _ h.oW,s _ _ h.cs,s _ _ h.gs,h.Yl,h.Ym,h.nCG,h.len,h.gl,h.pos⟩
theorem Jv.put(h:Jv H D C G d){d':PG.Dk}(u:bH D H H')(y:H' D=some (.lst [.ref C,.int d'.pos,.ref G,.int d'.left,.int d'.row,.int d'.gap]))(e1:d'.cs=d.cs)(e2:d'.gs=d.gs)(p:0<=d'.pos):Jv H' D C G d':=by
 refine⟨y,?_,?_,h.Yl,h.Ym,h.nCG,?_,?_,p⟩
 ·rw[e1];exact u _ _ h.Yl.symm h.cs
 ·rw[e2];exact u _ _ h.Ym.symm h.gs
 ·rw[e1];exact h.len
 ·rw[e1,e2];exact h.gl
end
structure NF(D C:zdU)(H H':Hp):Prop where
 u:bf (O2 D C) H H'
 Kh:∀b,H b≠none->H' b≠none
section
variable{K:zaa}{H0 H H1 H2:Hp}{D C:zdU}
theorem NF.refl:NF D C H H:=⟨.refl,fun _ h=>h⟩
theorem NF.trans(a:NF D C H H1)(b:NF D C H1 H2):NF D C H H2:=⟨a.u.trans b.u,fun z h=>b.Kh z (a.Kh z h)⟩
theorem NF.put(o:HO){p:zdU}(hp:p=D\/p=C):NF D C H (upd H p o):=⟨bf.refl.put hp o,fun b h=>by
 by_cases z:b=p
 ·subst z;rw[aj];simp
 ·rw[aq z];exact h⟩
theorem NF.get(a:NF D C H H1){b:zdU}{o:HO}(h:H b=some o)(n1:b≠D)(n2:b≠C):H1 b=some o:=a.u b o (fun z=>z.elim n1 n2) h
end
def jO (K:zaa) (H:Hp) (ss:List PG.cw) (fl:List PG.j5) (ps:List V):Prop:=∀(i:Nat) (s:PG.cw) (f:PG.j5),ss[i]?=some s->fl[i]?=some f->∃p u wl,ps[i]?=some (.ref p)/\cv K H p [u,.ref wl]/\Rep K H (oU s) u/\H wl=some (.lst (f.2.2.map V.int))
structure Yn(K:zaa)(H:Hp)(md:zdU)(pr:PG.Prog):Prop where
 at_:∃(F N Z fa:zdU) (ps:List V),H md=some (.lst [.ref F,.ref N,.ref Z,.ref fa])/\ps.length=(PG.bj pr.body).length/\H F=some (.dK (vP (PG.bj pr.body) ps))/\jO K H (PG.bj pr.body) (PG.cn pr.body 0) ps/\H N=some (.lst (pr.bF.map fun b=>V.str (S b.name)))/\H Z=some (.lst (pr.bF.map fun b=>V.int b.size))/\gA K H fa (PG.cR pr.body 0) (pr.bF.map (·.first))
theorem jO.mono{K:zaa}{H H':Hp}{ss:List PG.cw}{fl:List PG.j5}{ps:List V}(h:jO K H ss fl ps)(s:ar H H'):jO K H' ss fl ps:=fun i x f e1 e2=>by
 obtain⟨p,u,wl,h1,h2,h3,h4⟩:=h i x f e1 e2;exact⟨p,u,wl,h1,s.dQ h2,h3.mono s,s _ _ h4⟩
theorem Yn.mono{K:zaa}{H H':Hp}{md:zdU}{pr:PG.Prog}(h:Yn K H md pr)(s:ar H H'):Yn K H' md pr:=by
 obtain⟨F,N,Z,fa,ps,h1,h2,h3,h4,h5,h6,h7⟩:=h.at_;exact⟨⟨F,N,Z,fa,ps,s _ _ h1,h2,s _ _ h3,h4.mono s,s _ _ h5,s _ _ h6,h7.mono s⟩⟩
theorem jO.app{K:zaa}{H:Hp}{s1 s2:List PG.cw}{f1 f2:List PG.j5}{p1 p2:List V}(h1:jO K H s1 f1 p1)(h2:jO K H s2 f2 p2)(l1:p1.length=s1.length)(l2:f1.length=s1.length):jO K H (s1++s2) (f1++f2) (p1++p2):=fun i s f e1 e2=>by
 by_cases h:i<s1.length
 ·rw[zau h] at e1;rw[zau (by lia)] at e2;obtain⟨p,u,wl,a,b⟩:=h1 i s f e1 e2;exact⟨p,u,wl,by rw[zau (by lia)];exact a,b⟩
 ·rw[zat (by lia)] at e1;rw[zat (by lia),l2] at e2;obtain⟨p,u,wl,a,b⟩:=h2 _ s f e1 e2;exact⟨p,u,wl,by rw[zat (by lia),l1];exact a,b⟩
theorem jO.nil{K:zaa}{H:Hp}:jO K H [] [] []:=fun i s f e=>by simp at e
theorem jO.one{K:zaa}{H:Hp}{s:PG.cw}{f:PG.j5}{p wl:zdU}{u:V}(h1:cv K H p [u,.ref wl])(h2:Rep K H (oU s) u)(h3:H wl=some (.lst (f.2.2.map V.int))):jO K H [s] [f] [.ref p]:=fun i x g e1 e2=>by
 cases i with
 |zero=>cases e1;cases e2;exact⟨p,u,wl,rfl,h1,h2,h3⟩
 |succ i=>simp at e1
open Builtin Builtin.Str PySem.StrLaws
def aU (c:Nat):W->List W
 |[]=>[[]]
 |x::r=>if x=c then []::aU c r else match aU c r with
  |[]=>[[x]]
  |h::t=>(x::h)::t
def rO (c:Nat):Nat->W->List Nat
 |_,[]=>[]
 |k,x::r=>if x=c then k::rO c (k+1) r else rO c (k+1) r
theorem g8(c:Nat):∀w,aU c w≠[]
 |[]=>by simp[aU]
 |x::r=>by
  unfold aU;split
  ·simp
  ·split<;>simp
theorem Sg(c:Nat)(w:W):∀(r pre:W) (acc:Array Nat) (fr:Nat),w=pre++r->acc.size<=pre.length->fr<=pre.length->
 (forIn (List.range' pre.length (r.length+1)) (acc,fr) (occBody (S w) (S [c]) w.length (w.length+1))).run.fst.toList=acc.toList++rO c pre.length r:=by
 intro r
 induction r with
 |nil=>
  intro pre acc fr e ha hf;subst e;rw[zbH,zdM,List.range'_one,zdg];unfold occBody;rw[if_neg (fun z=>by have q:pre.length+1<=(pre++[]).length:=z.1.2;rw[zaC] at q;lia)];simp[rO]
 |cons x r ih=>
  intro pre acc fr e ha hf;have hw:w.length=pre.length+(r.length+1):=by rw[e,zaf,zah]
  rw[zah,List.range'_succ,zdg];have e2:w=(pre++[x])++r:=by rw[e];simp
  have OB:=ih (pre++[x]);rw[zaf,zav] at OB;have OC:subAt (S w) (S [c]) pre.length=decide (x=c):=by
   unfold subAt;show (w.toArray.extract pre.length (pre.length+1) == #[c])=_;rw[zdx,e];simp[List.extract];by_cases hx:x=c<;>simp[hx]
  unfold rO;by_cases hx:x=c
  ·unfold occBody;rw[if_pos ⟨⟨⟨by show acc.size<w.length+1;lia,hf⟩,by show pre.length+1<=w.length;lia⟩,by rw[OC,hx];simp⟩,if_pos hx];show (forIn _ (acc.push pre.length,pre.length+1) (occBody (S w) (S [c]) w.length (w.length+1))).run.fst.toList=_;rw[OB _ _ e2 (by rw[Array.size_push];lia) (zag _)];simp
  ·unfold occBody;rw[if_neg (fun z=>hx (by have:=z.2;rw[OC] at this;simpa using this)),if_neg hx];exact OB _ _ e2 (by lia) (by lia)
theorem Jw(c:Nat)(w:W):occurrences (S w) (S [c]) 0 (S w).length ((S w).length+1)=rO c 0 w:=by
 rw[occ_eq];have h:=Sg c w w [] #[] 0 rfl (zag _) (zag _);rw[cj];simpa using h
theorem My(c:Nat):∀(r pre:W) (k0:Nat),k0<=pre.length->
 ((k0::(rO c pre.length r).map (·+1)).zip (rO c pre.length r++[(pre++r).length])).map (fun p=>((pre++r).drop p.1).take (p.2-p.1))=((pre.drop k0)++(aU c r).headD [])::(aU c r).tail:=by
 intro r
 induction r with
 |nil=>
  intro pre k0 h;simp only[rO,aU,zbC,za5,zaC,List.zip_cons_cons,List.zip_nil_right,zar,zce,List.tail_cons];rw[zbp (by rw[za9];exact zag _)]
 |cons x r ih=>
  intro pre k0 h;have e2:pre++x::r=(pre++[x])++r:=by simp
  by_cases hx:x=c
  ·have OB:=ih (pre++[x]) (pre.length+1) (by simp);unfold rO aU;rw[if_pos hx,if_pos hx];rw[zaf,zav] at OB;rw[zar,zaQ,List.zip_cons_cons,zar,e2,OB];simp only[zce,zaC,List.tail_cons]
   congr 1
   ·rw[<- e2,zcJ h,List.take_append_of_le_length (by rw[za9];exact zag _)];exact zbp (by rw[za9];exact zag _)
   ·have hn:=g8 c r;cases hs:aU c r with
    |nil=>exact absurd hs hn
    |cons a b=>simp
  ·have OB:=ih (pre++[x]) k0 (by rw[zaf];lia);unfold rO aU;rw[if_neg hx,if_neg hx];rw[zaf,zav] at OB;rw[e2,OB];have hn:=g8 c r;cases hs:aU c r with
   |nil=>exact absurd hs hn
   |cons a b=>
    simp[zcJ h]
theorem D7(c:Nat)(w:W)(h1:c<256):Txt.split (S w) (S [c])=(aU c w).map S:=by
 have key:(if (occurrences (S w) (S [c]) 0 (S w).length ((S w).length+1)).isEmpty=true then [S w] else partsBetween (S w) (occurrences (S w) (S [c]) 0 (S w).length ((S w).length+1)) (S [c]).length)=(aU c w).map S:=by
  rw[Jw];have pg:=My c w [] 0 (zag _);have hb:partsBetween (S w) (rO c 0 w) (S [c]).length=(aU c w).map S:=by
   have hn:=g8 c w;have e3:(aU c w).headD []::(aU c w).tail=aU c w:=by
    cases hs:aU c w with
    |nil=>exact absurd hs hn
    |cons a b=>rfl
   rw[List.drop_nil,za5,za5,e3] at pg;rw[<- pg];unfold partsBetween;rw[zbv];show List.map _ (List.zip (0::List.map (fun x=>x+1) (rO c 0 w)) (rO c 0 w++[w.length]))=_;refine zcd fun p hp=>?_;obtain⟨i,j⟩:=p;show strSub (S w) i j=S _;unfold strSub S;rw[zdx]
  split
  ·rename_i hi;have Lc:rO c 0 w=[]:=by simpa using hi
   rw[<- hb,Lc];show [S w]=[strSub (S w) 0 (S w).length];unfold strSub
   congr 1
   unfold S Str.length;simp
  ·exact hb
 unfold Txt.split;rw[key];split
 ·rename_i hk;have hz:w.length<1\/Builtin.Str.strKind (S w)<Builtin.Str.strKind (S [c]):=by
   rcases Bool.or_eq_true_iff.mp hk with z |z
   ·exact .inl (of_decide_eq_true z)
   ·exact .inr (of_decide_eq_true z)
  rcases hz with hz |hz
  ·have:w=[]:=zaX.mp (by lia);subst this;rfl
  ·exfalso
   have e1:Builtin.Str.strKind (S [c])=1:=by unfold Builtin.Str.strKind;rw[if_pos (by simp[S,h1])]
   have e2:1<=Builtin.Str.strKind (S w):=by unfold Builtin.Str.strKind;split<;>(try split)<;>lia
   lia
 ·rfl
theorem Bh:∀(L:List W) (k:Nat),Vals (L.map sv) (strsFrom k (L.map S))
 |[],_=>.nil
 |w::L,k=>.cons ⟨k,rfl⟩ (Bh L (k+1))
theorem yr(c:Nat):∀w:W,(aU c w).length<=w.length+1
 |[]=>by simp[aU]
 |x::r=>by
  have ih:=yr c r;unfold aU;split
  ·rw[zah,zah];lia
  ·split
   ·simp
   ·rename_i h t e;rw[e] at ih;rw[zah] at ih ⊢;rw[zah];lia
theorem D8{X:Cx}:K2 X "str.split" (fun x vs H Q=>∃(w:W) (c:Nat),x=sv w/\vs=[sv [c]]/\c<256/\w.length<=4000000/\∀a,H a=none->Q (.ref a) (upd H a (.lst ((aU c w).map sv)))):=by
 intro pins s σ H x vs v us Q I rx rv h;obtain⟨w,c,rfl,rfl,hc,hl,q⟩:=h;obtain⟨t,rfl⟩:=(show ∃t,v=Value.str (S w) t from rx)
 obtain⟨u,rfl,ru⟩:=vals1 rv;obtain⟨tu,rfl⟩:=(show ∃t,u=Value.str (S [c]) t from ru)
 have line:zd2=2 ^ 24:=rfl;have IV:=D7 c w hc;have hll:=yr c w;have hw:(S w).length<=zd2:=by rw[cj];lia
 have hy:((S [c]).length==0)=false:=rfl;have fin:∀(aY:List zdV) (k:Nat),Vals ((aU c w).map sv) aY->EP X pins σ Q (.ref s.heap.objs.size) {s with heap:=s.heap.push {cls:=.type "list",data:=.seq aY.toArray},toks:=k}:=fun aY k r=>
  ⟨.ref s.heap.objs.size,_,I.laid (t':=k) (fun b o e=>Heap.get?_push_of_some _ e) (zag _) (show eK X.prog X.w _ _ _ (.lst ((aU c w).map sv)) from ⟨by rw[zai];lia,aY,0,r,Heap.get?_push_size _ rfl⟩),rfl,q _ (I.cJ.fresh (zag _))⟩
 have self:Txt.split (S w) (S [c])=[S w]->Vals ((aU c w).map sv) [Value.str (S w) t]:=fun e=>by
  have e1:(aU c w).map S=[S w]:=IV.symm.trans e;have e2:aU c w=[w]:=by
   cases hs:aU c w with
   |nil=>exact absurd hs (g8 c w)
   |cons a b=>
    rw[hs,zar] at e1;have z1:=DJ.mp (List.head_eq_of_cons_eq e1);have z2:=zcN.mp (List.tail_eq_of_cons_eq e1);rw[z1,z2]
  rw[e2];exact .cons ⟨t,rfl⟩ .nil
 rcases zc7 (decide ((S w).length<(S [c]).length) ||decide (Builtin.Str.strKind (S w)<Builtin.Str.strKind (S [c]))) with h1 |h1
 ·refine call_meets F.slot_str_split (typeIs_str _ _ _) F.entry_str_split (F.args_str_split_2 _ _) (meets_str_split_cannot_occur (S w) (S [c]) t tu h1) ?_;exact fin _ s.toks (self (if_pos h1))
 ·rcases zc7 (occurrences (S w) (S [c]) 0 (S w).length ((S w).length+1)).isEmpty with hf |hf
  ·refine call_meets F.slot_str_split (typeIs_str _ _ _) F.entry_str_split (F.args_str_split_2 _ _) (meets_str_split_not_found (S w) (S [c]) t tu h1 hy hf) ?_;exact fin _ s.toks (self ((if_neg (ne_true_of_eq_false h1)).trans (if_pos hf)))
  ·have e1:partsBetween (S w) (occurrences (S w) (S [c]) 0 (S w).length ((S w).length+1)) (S [c]).length=(aU c w).map S:=
    ((if_neg (ne_true_of_eq_false h1)).trans (if_neg (ne_true_of_eq_false hf))).symm.trans IV
   refine call_meets F.slot_str_split (typeIs_str _ _ _) F.entry_str_split (F.args_str_split_2 _ _) (meets_str_split_sep (S w) (S [c]) t tu h1 hy hf hw (by rw[e1,zai];lia)) ?_;rw[e1];exact fin _ _ (Bh _ _)
def cC (c:Nat):List W->W
 |[]=>[]
 |w::L=>w++(L.map fun x=>c::x).flatten
theorem yt(c:Nat):∀L:List W,(cC c L).length<=L.flatten.length+L.length
 |[]=>zag _
 |w::L=>by
  have:∀L:List W,((L.map fun x=>c::x).flatten).length=L.flatten.length+L.length:=fun L=>by
   induction L with
   |nil=>rfl
   |cons a b ih=>simp only[zar,zaV,zaf,zah,ih];lia
  unfold cC;rw[zaf,this,zaV,zaf,zah];lia
theorem yv{c:Nat}:∀ {L:List W},L≠[]->(∀w∈L,c ∉ w)->aU c (cC c L)=L:=by
 have one:∀(w r:W),c ∉ w->aU c (w++c::r)=w::aU c r:=fun w r h=>by
  induction w with
  |nil=>simp[aU]
  |cons x w ih=>
   have hx:x≠c:=fun z=>h (z▸zaq);rw[zaQ]
   conv=>lhs;unfold aU
   rw[if_neg hx,ih fun z=>h (zam _ z)]
 have last:∀w:W,c ∉ w->aU c w=[w]:=fun w h=>by
  induction w with
  |nil=>rfl
  |cons x w ih=>
   have hx:x≠c:=fun z=>h (z▸zaq);unfold aU;rw[if_neg hx,ih fun z=>h (zam _ z)]
 have all:∀(L:List W) (w:W),c ∉ w->(∀w∈L,c ∉ w)->aU c (w++(L.map fun x=>c::x).flatten)=w::L:=fun L=>by
  induction L with
  |nil=>intro w h _;rw[zbC,zcq,zaC];exact last w h
  |cons a b ih=>
   intro w h hL;rw[zar,zaV,zaQ,one _ _ h,ih a (hL a zaq) fun z hz=>hL z (zam _ hz)]
 intro L h0 h
 match L,h0 with
 |w::L,_=>exact all L w (h w zaq) fun z hz=>h z (zam _ hz)
theorem Gg(c:Nat):∀L:List W,Builtin.Str.glued (S [c]) (L.map S)=S (cC c L)
 |[]=>rfl
 |w::L=>by
  have key:∀(L:List W) (acc:W),((L.map S).foldl (fun acc p=>acc++(S [c]).cps++p.cps) acc.toArray)=(acc++(L.map fun x=>c::x).flatten).toArray:=by
   intro L
   induction L with
   |nil=>intro acc;simp
   |cons x r ih=>
    intro acc;rw[zar,zaT];have e:acc.toArray++(S [c]).cps++(S x).cps=(acc++c::x).toArray:=by
     show acc.toArray ++ #[c]++x.toArray=_;simp
    rw[e,ih];simp
  show (⟨(L.map S).foldl (fun acc p=>acc++(S [c]).cps++p.cps) (S w).cps⟩:Str)=_;rw[show (S w).cps=w.toArray from rfl,key L w];rfl
theorem Mz{X:Cx}:K2 X "str.join" (fun x vs H Q=>∃(a:zdU) (L:List W) (c:Nat),x=sv [c]/\vs=[.ref a]/\fH X.K H a (L.map sv)/\L.flatten.length+L.length<=4000000/\Q (sv (cC c L)) H):=by
 intro pins s σ H x vs v us Q I rx rv h;obtain⟨a,L,c,rfl,rfl,hS,hl,q⟩:=h;obtain⟨t,rfl⟩:=(show ∃t,v=Value.str (S [c]) t from rx)
 obtain⟨u,rfl,ru⟩:=vals1 rv;cases (show u=Value.ref a from ru);obtain⟨aY,r,p,_⟩:=I.list hS;obtain⟨l,rfl,el⟩:=rG r;have line:zd2=2 ^ 24:=rfl;have fold:∀(xs:List Str) (n:Nat),xs.foldl (fun a x=>a+x.length+(S [c]).length) n=n+((xs.map (·.length)).sum+xs.length):=by
  intro xs
  induction xs with
  |nil=>intro n;simp
  |cons y ys ih=>intro n;rw[zaT,ih,zar,zbD,zah,show (S [c]).length=1 from rfl];lia
 have X5:((L.map S).map (·.length)).sum=L.flatten.length:=by
  rw[zbv,zdD]
  congr 1
 have hlen:Builtin.Str.tooLong ((l.map (·.1)).toArray.foldl (· + ·.length+(S [c]).length) 0)=false:=by
  rw[List.foldl_toArray,el,fold,X5,zai];unfold Builtin.Str.tooLong;rw[decide_eq_false_iff_not];lia
 have fit:(S (cC c L)).length<=zd2:=by
  rw[cj];have:=yt c L;lia
 refine call_meets F.slot_str_join (typeIs_str s _ _) F.entry_str_join (F.args_str_join_2 _ _) (meets_str_join_list (S [c]) t a l hlen) ⟨p.isList,?_⟩;have BB:∀tk,EP X pins σ Q (.str (S (cC c L)) tk) {s with toks:=s.toks+1}:=fun tk=>⟨sv (cC c L),H,I.tok _,⟨_,rfl⟩,q⟩
 have RK:∀tk,EP X pins σ Q (.str (S (cC c L)) tk) s:=fun tk=>⟨sv (cC c L),H,I,⟨_,rfl⟩,q⟩
 have eg:Builtin.Str.glued (S [c]) (l.map (·.1))=S (cC c L):=by rw[el,Gg]
 match l,el,eg with
 |[],el,eg=>
  refine⟨?_,?_⟩
  ·show (Builtin.Str.glued (S [c]) []).length<=zd2;have F1:Builtin.Str.glued (S [c]) []=S (cC c L):=eg;rw[F1];exact fit
  ·have F1:Builtin.Str.glued (S [c]) []=S (cC c L):=eg;show wants _ _ (.ok (.ret (.str (Builtin.Str.glued (S [c]) []) _))) _;rw[F1];exact BB _
 |[x],el,eg=>
  have F1:Builtin.Str.glued (S [c]) [x.1]=S (cC c L):=eg;have e1:Builtin.Str.glued (S [c]) [x.1]=x.1:=rfl;have e2:x.1=S (cC c L):=e1.symm.trans F1;simp only[joinMade,Made.post];have:=RK x.2;rw[<- e2] at this;exact this
 |x::y::r,el,eg=>
  have F1:Builtin.Str.glued (S [c]) ((x::y::r).map (·.1))=S (cC c L):=eg;refine⟨?_,?_⟩
  ·show (Builtin.Str.glued (S [c]) ((x::y::r).map (·.1))).length<=zd2;rw[F1];exact fit
  ·show wants _ _ (.ok (.ret (.str (Builtin.Str.glued (S [c]) ((x::y::r).map (·.1))) _))) _;rw[F1];exact BB _
def Yo (te:TE):TE:=fun σ H Q=>te σ H fun x H1=>(∃i:Int,x=.int i/\i.natAbs<2 ^ 64/\Q (.str (zab (toString i))) H1)\/∃z,x=.str z/\z.length<=zd2/\Q (.str z) H1
def Yp:List TE->St->Str->Hp->(Str->Hp->Prop)->Prop
 |[],_,acc,H,R=>R acc H
 |t::ts,σ,acc,H,R=>t σ H fun x H1=>∃y,x=.str y/\(acc++y).length<=zd2/\Yp ts σ (acc++y) H1 R
def tFs (ts:List TE):TE:=fun σ H Q=>Yp ts σ Str.empty H fun z H1=>Q (.str z) H1
inductive Vt(X:Cx):List Expr->List TE->Prop
 |nil:Vt X [] []
 |cons {e es t ts}:PE X e t->Vt X es ts->Vt X (e::es) (t::ts)
section
variable{X:Cx}{e e2:Expr}{es:List Expr}{te:TE}{ts:List TE}{pos:Pos}
theorem tF(he:PE X e te):PE X (.FormattedValue e (-1) none pos) (Yo te):=by
 intro pins s σ H Q I h;refine wpAny_FormattedValue_plain (eR (he pins s σ H _ I h) fun v s1 zq=>?_);obtain⟨x,H1,I1,r,q⟩:=zq;rcases q with ⟨i,rfl,hi,q⟩ |⟨z,rfl,hz,q⟩
 ·obtain⟨t,rfl⟩:=(show ∃t,v=Value.int i t from r)
  have hl:i.natAbs.log2<1920:=by
   by_cases h0:i.natAbs=0
   ·rw[h0];decide
   ·exact zdP ((zdT h0).mpr hi) (by decide)
  exact wpAny_formatField_int hl ⟨.str (zab (toString i)),H1,(I1.tok _).tok _,⟨_,rfl⟩,q⟩
 ·obtain⟨t,rfl⟩:=(show ∃t,v=Value.str z t from r)
  exact wpAny_formatField_str ⟨.str z,H1,I1,⟨_,rfl⟩,q⟩ ⟨.str z,H1,I1.tok _,⟨_,rfl⟩,q⟩ hz
theorem MA(h:Vt X es ts):∀(pins:List (zdU×Obj)) (s:zd4) (σ:St) (H:Hp) (acc:Str) (R:Str->Hp->Prop),Inv X pins σ H s->acc.length<=zd2->Yp ts σ acc H R->
 Joins (model X.prog X.w) X.A X.xe (evalEach es X.env) acc (fun out s1=>out.length<=zd2/\∃H1,Inv X pins σ H1 s1/\R out H1) s:=by
 induction h with
 |nil=>intro pins s σ H acc R I ha h;exact⟨ha,H,I,h⟩
 |cons h1 _ ih=>
  intro pins s σ H acc R I ha h;refine eR (h1 pins s σ H _ I h) fun v s1 zq=>?_;obtain⟨x,H1,I1,r,y,rfl,hy,q⟩:=zq;obtain⟨t,rfl⟩:=(show ∃t,v=Value.str y t from r)
  exact⟨y,t,rfl,hy,ih pins s1 σ H1 _ R I1 hy q⟩
theorem yw{M:Model}{A:zd5}{E:zdV->zd4->Prop}{Q Q':Str->zd4->Prop}(h:∀z s,Q z s->Q' z s):∀(l:List (Sem zdV)) (acc:Str) (s:zd4),Joins M A E l acc Q s->Joins M A E l acc Q' s
 |[],_,_,q=>h _ _ q
 |x::l,acc,s,q=>wpAny_mono q (fun v s1 ⟨y,t,e,hy,z⟩=>⟨y,t,e,hy,yw h l _ s1 z⟩) fun _ _ z=>z
theorem lC{ts:List TE}(h:Vt X (e::e2::es) ts):PE X (.JoinedStr (e::e2::es) pos) (tFs ts):=by
 intro pins s σ H Q I hq;refine wpAny_JoinedStr (yw (fun z s1 zq=>?_) _ _ _ (MA h pins s σ H Str.empty _ I (by decide) hq));obtain⟨hz,H1,I1,q⟩:=zq;exact⟨hz,.str z,H1,I1.tok _,⟨_,rfl⟩,q⟩
end
open AutoSeq1 (wpAny_loadPart')
set_option maxHeartbeats 1000000 in
theorem Jx(l:zdU)(items:Array zdV)(n:Nat)(Yq:Option zdU)(sl:Array (Option zdV))(t:PySem.Tok) :
 Meets (Builtin.«enumerate.__new__» ⟨[.type "enumerate",.ref l],[("start",.int 1 t)]⟩) (fun _ R s=>s.heap.get? l=some {cls:=.type "list",dict:=Yq,data:=.seq items n,slots:=sl}/\
  R (.ok (.ret (.ref (s.heap.push {cls:=.type "list_iterator",data:=.fields #[.ref l,.int 0 0]}).objs.size)))
   {s with heap:=(s.heap.push {cls:=.type "list_iterator",data:=.fields #[.ref l,.int 0 0]}).push {cls:=.type "enumerate",data:=.fields #[.none,.bool false,.ref s.heap.objs.size,rawInt 1,.none,.none]} }):=by
 refine .of_wp fun prog w A R s h=>?_;obtain⟨hp,g,d,tk,os⟩:=s;obtain⟨hl,h⟩:=h;have OC:=sub_enumerate;have hL:Heap.IsList (Shared.heap ⟨hp,g,d,tk,os⟩) l items:=⟨_,hl,rfl,n,rfl⟩
 wp_walk using wpAny_loadPart' hl
 refine wpAny_stack_any fun st=>zdY ?_;split
 ·rename_i c _ _ _ _ _;cases (c==Value.type "enumerate")
  ·wp_walk using wpAny_loadPart' hl,wpAny_pyIter_list hL
   exact⟨_,rfl,h⟩
  ·wp_walk using wpAny_loadPart' hl,wpAny_pyIter_list hL
   exact⟨_,rfl,h⟩
 ·wp_walk using wpAny_loadPart' hl,wpAny_pyIter_list hL
  exact⟨_,rfl,h⟩
theorem Jy{self a:zdV}{kw:List (Str×zdV)}(hl:typeLookup (.type "enumerate") "__init__"=pure (some (.builtin "object.__init__")))(hm:Bind.madeBy (.type "enumerate")=pure (some "enumerate.__new__")) :
 Meets (Builtin.«object.__init__» ⟨[self,a],kw⟩) (fun _ R s=>s.TypeIs self "enumerate"/\R (.ok (.ret .none)) s):=by
 refine Meets.of_wp fun prog w A R s hs=>?_;obtain⟨hT,hq⟩:=hs;have Fp:(some "enumerate.__new__" != some "object.__new__")=true:=by decide
 repeat (any_goals (first |assumption |wp_step))
 exact⟨_,rfl,hq⟩
theorem MB(a v:zdV):checkTypeCall "enumerate" ⟨[a],[("start",v)]⟩=pure ():=by kernel_rfl
theorem MC(a v:zdV):checkBuiltinCall "enumerate.__new__" ⟨[.type "enumerate",a],[("start",v)]⟩=pure ():=by kernel_rfl
theorem MD(a b v:zdV):argsOk "object.__init__" ⟨[a,b],[("start",v)]⟩:=by
 unfold argsOk;rw[signature?_of (id:="object.__init__") (n:=['_', '_', 't', 'i', 'n', 'i', '_', '_']) (o:=['t', 'c', 'e', 'j', 'b', 'o']) (by kernel_rfl) F.owner_object]
 kernel_rfl
section
variable{prog:zd6}{w:zdW}{A:zd5}{E:zdV->zd4->Prop}{s:zd4}
theorem Gh{l:zdU}{items:Array zdV}{t:PySem.Tok}{Q:zdV->zd4->Prop}(hL:s.heap.IsList l items)
 (h:∀h',IsEnum h' (s.heap.objs.size+1) s.heap.objs.size 1 .none->h'.IsListIter s.heap.objs.size l 0->h'.objs.size=s.heap.objs.size+2->
  (∀b o,s.heap.get? b=some o->h'.get? b=some o)->Q (.ref (s.heap.objs.size+1)) {s with heap:=h' }) :
 wpAny (model prog w) A (call (.type "enumerate") [.ref l] [("start",.int 1 t)]) Q E s:=by
 obtain⟨⟨c,Yq,dt,sl⟩,hl,hc,n,hd⟩:=hL;replace hc:c=.type "list":=hc;replace hd:dt=.seq items n:=hd;subst hc hd;have ft:=F.called_enumerate;obtain⟨c,tl,ab8⟩:=ft.mro;have aah:=ft.made;have OC:=ft.sub;have hct:=MB (.ref l) (.int 1 t);refine wpAny_call (codeAny_of_tree ?_);show wpAny _ _ (callAny (.type "enumerate") _) _ _ _;refine zdY ⟨Code.quiet_builtin _ (by decide +kernel),codeAny_builtin F.entry_type_call ?_⟩;rw[Around.under_plain (weight_type_call_type "enumerate" [.ref l] _) (units_type_call_type "enumerate" [.ref l] _)];have h1:=ft.notType;have h2:=ft.canCreate
 repeat (any_goals (first |assumption |wp_step))
 have hz:(s.heap.push {cls:=.type "list_iterator",data:=.fields #[.ref l,.int 0 0]}).objs.size=s.heap.objs.size+1:=Heap.size_push ..;have he:IsEnum ((s.heap.push {cls:=.type "list_iterator",data:=.fields #[.ref l,.int 0 0]}).push
  {cls:=.type "enumerate",data:=.fields #[.none,.bool false,.ref s.heap.objs.size,rawInt 1,.none,.none]}) (s.heap.objs.size+1) s.heap.objs.size 1 .none:=by
  have:=Heap.get?_push_size (s.heap.push {cls:=.type "list_iterator",data:=.fields #[.ref l,.int 0 0]})
   (o:={cls:=.type "enumerate",data:=.fields #[.none,.bool false,.ref s.heap.objs.size,rawInt 1,.none,.none]}) rfl
  rw[hz] at this;exact this
 have Yr:=h _ he ⟨_,Heap.get?_push_of_some _ (Heap.get?_push_size _ rfl),rfl,rfl⟩ (by rw[Heap.size_push,hz]) fun b o x=>Heap.get?_push_of_some _ (Heap.get?_push_of_some _ x);refine codeAny_mono (codeAny_call_builtin ft.plain F.entry_enumerate_new (wpAny_of_eq (MC _ _) (Jx l items n Yq sl t prog w A.in1 (wants (fun obj s1=>obj=.ref (s.heap.objs.size+1)/\s1.TypeIs obj "enumerate"/\Q obj s1) E) s ⟨hl,?_⟩))) fun r s1 hr=>?_
 ·rw[hz];exact⟨rfl,⟨_,he,rfl⟩,Yr⟩
 cases r with
 |error e=>exact hr
 |ok fl=>
  cases fl with
  |ret obj=>
   obtain⟨rfl,hT,hq⟩:=hr;have hli:=ft.init.lookup;have Qb:=ft.init.bind (.ref (s.heap.objs.size+1))
   repeat (any_goals (first |assumption |wp_step))
   refine codeAny_mono (codeAny_call_builtin ft.init.plain F.entry_object_init (ft.init.check _ _ _ _ _ _ _ _ hT (MD _ _ _) (Jy ft.init.lookup ft.made prog w A.in1 (wants (fun r s2=>r=.none/\Q (.ref (s.heap.objs.size+1)) s2) E) s1 ⟨hT,rfl,hq⟩))) fun r2 s2 Ys=>?_;cases r2 with
   |error e=>exact Ys
   |ok fl2=>
    cases fl2 with
    |ret r=>
     obtain⟨rfl,hq⟩:=Ys
     repeat (any_goals (first |assumption |wp_step))
    |_=>exact Ys.elim
  |_=>exact hr.elim
end
theorem Ia{prog:zd6}{w:zdW}{A:zd5}{it:zdU}{fp:List zdU}{n:Nat}{P:Nat->zdV->Prop}{St:Nat->Heap->Prop}(D:Draws prog w A it fp n P St) :
 Draws prog w A it fp (n+1) (fun j x=>∃i,j=i+1/\P i x) (fun j h=>∃i,j=i+1/\St i h) where
 live:=fun j h z=>by obtain⟨i,_,s⟩:=z;exact D.live i h s
 frame:=fun j h h' z k=>by obtain⟨i,e,s⟩:=z;exact⟨i,e,D.frame i h h' s k⟩
 item:=fun j s Q E hj z hQ=>by
  obtain⟨i,e,st⟩:=z;subst e;exact D.item i s Q E (by lia) st fun x h' tk p AJ sb=>hQ x h' tk ⟨i,rfl,p⟩ ⟨i+1,rfl,AJ⟩ sb
 done:=fun s Q E z hE=>by
  obtain⟨i,e,st⟩:=z;cases e;exact D.done s Q E st hE
def ME (K:zaa) (a:zdU):It:=
 ⟨fun i H=>∃xs x,fH K H a xs/\xs[i]?=some x,fun i H x H'=>∃p y,x=.ref p/\H p=none/\H'=upd H p (.tup [.int ((i+1:Nat):Int),y])/\∀xs,fH K H a xs->xs[i]?=some y,fun i H=>∃xs,fH K H a xs/\i=xs.length⟩
theorem Gi{P:zd6}{w:zdW}{K:zaa}{elts:List Expr}{x1}{pos:Pos}(a e it:zdU)(Fp:e≠it) :
 Turn P w K (.Tuple elts x1 pos) (ME K a) [e,it] e (fun i h=>(∃old,IsEnum h e it ((i+1:Nat):Int) old)/\h.IsListIter it a i) where
 mem:=by simp
 obj:=fun i h st b hb=>by
  obtain⟨⟨old,he⟩,o,eo,c,d⟩:=st;rcases zak.mp hb with rfl |hb
  ·exact⟨_,he,fun v z=>by cases (show Data.fields _=Data.cell v from z)⟩
  ·have z:b=it:=by simpa using hb
   subst z;exact⟨o,eo,fun v z=>by rw[d] at z;cases z⟩
 keep:=fun i h h' st k=>⟨st.1.elim fun old he=>⟨old,k e (by simp) _ he⟩,st.2.at fun o x=>k it (by simp) o x⟩
 item:=by
  intro X hP hw hK hc i pins s σ H E I hf st hg;subst hP hw hK;obtain⟨xs,x,hq,hx⟩:=hg;obtain⟨⟨old,he⟩,hit⟩:=st;obtain⟨aY,rv,p,hz⟩:=I.list hq;obtain⟨u,hu,ru⟩:=rv.get hx;have hil:i<aY.length:=(zao.mp hu).1;have Sh:a≠it:=fun z=>by
   subst z;obtain⟨o,h1,h2,_⟩:=p.isList;obtain⟨o',h3,h4,_⟩:=hit;rw[h1] at h3;cases h3;rw[h2] at h4;exact absurd h4 (by decide)
  have nee:e≠a:=fun z=>by
   subst z;obtain⟨o,h1,h2,_⟩:=p.isList;have h3:=zaF.inj (h1.symm.trans he);rw[h3] at h2;exact absurd (show Value.type "enumerate"=Value.type "list" from h2) (by decide)
  have DD:=Ia (Draws.list (prog:=X.prog) (w:=X.w) (A:=X.A.in1) (I.ok.hd hc) it a Sh aY.toArray);refine wpAny_pyNext_enum_itemD (i:=i+1) DD he ⟨i,rfl,hit,p.isList⟩ (by simp;lia) Fp (by simp[Fp,nee]) fun u' h' tk hu' ho AJ hT Ui hk=>?_;obtain⟨i',ei,hpu⟩:=hu';obtain⟨i2,ei2,Yt,_⟩:=AJ;cases ei;cases ei2;have eu:u'=u:=by
   have z:aY.toArray[i]?=some u':=hpu;rw[List.getElem?_toArray,hu] at z;exact(zaF.inj z).symm
  subst eu;refine⟨_,rfl,?_⟩;refine wpAny_letOwnedTupleGo_enum ho fun h2 he2 sb=>?_;have Vu:e<s.heap.objs.size:=Heap.lt_size he;have Vv:it<s.heap.objs.size:=by obtain⟨_,x,_⟩:=hit;exact Heap.lt_size x
  have I1:Inv X pins σ H {s with heap:=h2,toks:=tk+1}:=I.A9 (t':=tk+1) (fun b o hb q=>(sb.2 b fun z=>hb (by simp[z])).trans (hk b o (fun z=>hb (by simp[z])) (fun z=>hb (by simp[z])) q)) hf;have fr:H s.heap.objs.size=none:=I.cJ.fresh (zag _);obtain⟨g0,g1,g2,g3,g4,g5⟩:=I.II (zag _) fr;have Yu:h2.get? s.heap.objs.size=some {cls:=.type "tuple",data:=.seq #[.int ((i+1:Nat):Int) tk,u']}:=(sb.2 _ (zdJ Vu)).trans hT;have I2:=I1.told (o:=.tup [.int ((i+1:Nat):Int),x]) fr I.sz g1 g4 g5 ⟨(show (2:Nat)<=zd2 by decide),[.int ((i+1:Nat):Int) tk,u'],.cons ⟨_,rfl⟩ (.cons ru .nil),⟨_,Yu,rfl,_,rfl⟩⟩;refine⟨.ref s.heap.objs.size,_,I2,rfl,⟨_,x,rfl,fr,rfl,fun ys hy=>by rw[I.Dm hy hq];exact hx⟩,⟨⟨_,by exact_mod_cast he2⟩,Yt.at fun o q=>(sb.2 it (Ne.symm Fp)).trans q⟩,fun b hb=>?_⟩;rw[aq ?_]
  ·exact(hf b hb).1
  ·rcases zak.mp hb with rfl |hb
   ·exact zaS Vu
   ·have z:b=it:=by simpa using hb
    subst z;exact zaS Vv
 done:=by
  intro X hP hw hK hc i pins s σ H E I hf st hg;subst hP hw hK;obtain⟨xs,hq,hx⟩:=hg;obtain⟨⟨old,he⟩,hit⟩:=st;obtain⟨aY,rv,p,hz⟩:=I.list hq;have hl:=rv.length;have Sh:a≠it:=fun z=>by
   subst z;obtain⟨o,h1,h2,_⟩:=p.isList;obtain⟨o',h3,h4,_⟩:=hit;rw[h1] at h3;cases h3;rw[h2] at h4;exact absurd h4 (by decide)
  have DD:=Ia (Draws.list (prog:=X.prog) (w:=X.w) (A:=X.A.in1) (I.ok.hd hc) it a Sh aY.toArray);refine wpAny_pyNext_enum_endD DD he ⟨i,?_,hit,p.isList⟩ fun h' eb=>⟨rfl,I.A9 (t':=s.toks) (fun b o hb q=>eb b o (fun z=>hb (by simp[z])) q) hf⟩
  rw[zax,hx,hl]
 self:=fun _ _ _ _ _ st h=>st.1.elim fun _ he=>wpAny_pyIter_enum he h
def Gj (K:zaa) (ta:TA):TI:=fun σ H R=>ta σ H fun vs H1=>∃a,vs=[.ref a]/\(∃xs,fH K H1 a xs)/\R (ME K a) H1
theorem MF{M:Model}{A:zd5}{E:zdV->zd4->Prop}{s:zd4}{env:Env}{pos:Pos}{T:String}{e:Expr}{rest:List Expr}{Tq:List Keyword}{Q:zdV->zd4->Prop}
 (h:wpAny M A (spliced (backTo pos (zd0 (e::rest) env))) (fun vs s1=>wpAny M A (evalAll ((backToKw pos (keywordEach Tq env)).map (·.2)))
  (fun aV s2=>wpAny M A (call (.type T) vs (((backToKw pos (keywordEach Tq env)).filterMap (·.1)).zip aV)) Q E s2) E s1) E s)
 (he:backTo pos (zd0 (e::rest) env)=(false,eval e env)::backTo pos (zd0 rest env):=by rfl)
 (xG:(backTo pos (zd0 (e::rest) env)).any (·.1)=false:=by rfl)
 (Rn:(backToKw pos (keywordEach Tq env)).all (·.1.isSome)=true:=by rfl)
 (hkw:(backToKw pos (keywordEach Tq env)).any (·.1.isNone)=false:=by rfl) :
 wpAny M A (callWith pos (.type T) [] (backTo pos (zd0 (e::rest) env)) (backToKw pos (keywordEach Tq env))) Q E s:=by
 have h0:wpAny M A (evalArgs (.type T) true (backTo pos (zd0 (e::rest) env)) (backToKw pos (keywordEach Tq env))) (fun a s1=>wpAny M A (call (.type T) ([]++a.pos) a.kw) Q E s1) E s:=by
  rw[he] at h ⊢;exact evalArgs_kwB Rn h
 unfold callWith;refine zdX (zdZ (wpAny_mono h0 (fun a s1 h1=>zdX (wpAny_standAt ?_)) fun _ _ x=>x));simp only[xG,hkw,zdz];refine zdX (zdY ?_);exact zdX (wpAny_mono h1 (fun r s2 hr=>zdX (zdZ (wpAny_point (zdY hr)))) fun _ _ x=>x)
theorem MG{X:Cx}{elts:List Expr}{x1}{tp:Pos}{a:Expr}{ta:TA}{p pos kp np:Pos}{k}(hg:Gl X "enumerate")(hm:X.mg "enumerate"=none)(ha:PA X [a] ta)(hs:zd0 [a] X.env=[(false,eval a X.env)]:=by rfl) :
 PI X (.Tuple elts x1 tp) (.Call (.Name "enumerate" p) [a] [⟨some "start",.Constant (.int 1) k np,kp⟩] pos) (Gj X.K ta):=by
 intro pins s σ H R I h;refine wpAny_Call_Name_kw (xp I hg hm PyProof.Rows.Boot.«enumerate» (MF (eR (ha pos pins s σ H _ I h) fun us s1 zq=>?_) (by rw[hs];rfl) (by rw[hs];rfl)));obtain⟨vs,H1,I1,r1,l,e,⟨xs,hq⟩,q⟩:=zq;subst e;cases r1 with
 |cons r rr=>
  cases rr;cases (show _=Value.ref l from r);refine kws_cons (wpAny_Constant_int ?_);refine kws_nil ?_;obtain⟨aY,rv,p,hz⟩:=I1.list hq;refine Gh p.isList fun h' he hit Ui hk=>?_;refine wpAny_pyIter_enum he ?_;have fr:∀b,s1.heap.objs.size<=b->H1 b=none:=fun b hb=>I1.cJ.fresh hb;refine⟨s1.heap.objs.size+1,[s1.heap.objs.size+1,s1.heap.objs.size],_,_,H1,rfl,I1.kept (t':=s1.toks+1) hk,Gi l _ _ (Nat.succ_ne_self _),⟨⟨_,he⟩,hit⟩,fun b hb=>?_,q⟩;have Ib:s1.heap.objs.size<=b:=by
   rcases zak.mp hb with rfl |hb
   ·exact zbN _
   ·have z:b=s1.heap.objs.size:=by simpa using hb
    rw[z];exact zag _
  exact I1.II Ib (fr b Ib)
theorem Jz{K:zaa}{a:zdU}{xs:List V}{g:TG}{tb:TS}{D:Ends}{σ:St}{H:Hp}(Pv:Nat->St->Hp->Prop)(h0:Pv 0 σ H)(hl:∀i σ H,i<=xs.length->Pv i σ H->fH K H a xs)
 (hs:∀i x σ H p,xs[i]?=some x->Pv i σ H->H p=none->g (.ref p) σ (upd H p (.tup [.int ((i+1:Nat):Int),x])) fun σ2 H2=>tb {D with nx:=Pv (i+1),ct:=Pv (i+1),bk:=D.nx} σ2 H2) (hd:∀σ H,Pv xs.length σ H->D.nx σ H) :
 ∃W:Nat->Nat->St->Hp->Prop,(∃m,W 0 m σ H)/\∀i m σ H,W i m σ H->
  ((ME K a).stop i H/\D.nx σ H)\/((ME K a).go i H/\∃N:St->Hp->Prop,(∀σ' H',N σ' H'->∃m',m'<m/\W (i+1) m' σ' H')/\∀x H',(ME K a).xr i H x H'->g x σ H' fun σ2 H2=>tb {D with nx:=N,ct:=N,bk:=D.nx} σ2 H2):=by
 refine⟨fun i m σ H=>m=xs.length-i/\i<=xs.length/\Pv i σ H,⟨xs.length,by simp,zaJ _,h0⟩,?_⟩
 rintro i m σ H ⟨rfl,hi,p⟩
 have q:=hl i σ H hi p;by_cases iR:i<xs.length
 ·refine .inr ⟨⟨xs,xs[i],q,by simp[iR]⟩,Pv (i+1),fun σ' H' p'=>⟨xs.length-(i+1),by lia,rfl,iR,p'⟩,fun x H' y=>?_⟩;obtain⟨pp,v,rfl,hn,rfl,y⟩:=y;exact hs i v σ H pp (y xs q) p hn
 ·have e:i=xs.length:=by lia
  subst e;exact .inl ⟨⟨xs,q,rfl⟩,hd σ H p⟩
end L2
namespace PM
def jP:Tr->List W
 |.num _=>[]
 |.box x=>[x]
 |.bin _ l r=>jP l++jP r
def JA:Tr->Prop
 |.bin o l r=>(o=[42]\/o=[43]\/o=[45])/\JA l/\JA r
 |.box x=>isName x=true
 |.num _=>True
def D9 (f:P):Prop:=∀ps e r,f ps=some (e,r)->PG.xV e+r.length<ps.length/\(jP e).length+r.length<=ps.length/\JA e
theorem uQ{ops:List W}{f:P}(h:D9 f)(ho:∀p∈ops,p=[42]\/p=[43]\/p=[45]):∀k e ps e' r,jv ops f k e ps=some (e',r)->JA e->PG.xV e'+r.length<=PG.xV e+ps.length/\(jP e').length+r.length<=(jP e).length+ps.length/\JA e'
 |0,e,ps,e',r,q,hp=>by simp only[jv,zaF.injEq,Prod.mk.injEq] at q;rw[<- q.1,<- q.2];exact⟨zag _,zag _,hp⟩
 |k+1,e,[],e',r,q,hp=>by simp only[jv,zaF.injEq,Prod.mk.injEq] at q;rw[<- q.2,<- q.1];exact⟨zag _,zag _,hp⟩
 |k+1,e,p::t,e',r,q,hp=>by
  unfold jv at q;split at q
  ·rename_i Rb;split at q
   ·cases q
   ·rename_i e2 r' hf;obtain⟨h1,h2,h0⟩:=h _ _ _ hf;obtain⟨h3,h4,h5⟩:=uQ h ho k _ _ _ _ q ⟨ho p Rb,hp,h0⟩;have e1:PG.xV (.bin p e e2)=max (PG.xV e) (PG.xV e2)+1:=rfl;have e3:(jP (.bin p e e2)).length=(jP e).length+(jP e2).length:=by show (jP e++jP e2).length=_;rw[zaf]
    rw[e1] at h3;rw[e3] at h4;rw[zah];exact⟨by lia,by lia,h5⟩
  ·simp only[zaF.injEq,Prod.mk.injEq] at q;rw[<- q.2,<- q.1];exact⟨zag _,zag _,hp⟩
theorem Bi{f:P}(h:D9 f):D9 (gz f):=fun ps e r q=>by
 unfold gz at q;split at q
 ·cases q
 ·rename_i e1 r1 hf;obtain⟨h1,h2,h0⟩:=h _ _ _ hf;obtain⟨h3,h4,h5⟩:=uQ h (fun p hp=>.inl (zad.mp hp)) _ _ _ _ _ q h0;exact⟨by lia,by lia,h5⟩
theorem Ea{f:P}(h:D9 f):D9 (m3 f):=fun ps e r q=>by
 unfold m3 at q;split at q
 ·cases q
 ·rename_i e1 r1 hf;obtain⟨h1,h2,h0⟩:=Bi h _ _ _ hf;obtain⟨h3,h4,h5⟩:=uQ (Bi h) (fun p hp=>.inr (by simpa using hp)) _ _ _ _ _ q h0;exact⟨by lia,by lia,h5⟩
theorem Eb{sub:P}(h:D9 sub):D9 (sV sub):=fun ps e r q=>by
 cases ps with
 |nil=>cases q
 |cons p t=>
  rw[dN] at q;rw[zah];split at q
  ·simp only[zaF.injEq,Prod.mk.injEq] at q;rw[<- q.2,<- q.1];exact⟨by show 0+t.length<_;lia,by show 0+t.length<=_;lia,trivial⟩
  ·split at q
   ·rename_i US;simp only[zaF.injEq,Prod.mk.injEq] at q;rw[<- q.2,<- q.1];exact⟨by show 0+t.length<_;lia,by show 1+t.length<=_;lia,US⟩
   ·split at q
    ·split at q
     ·rename_i e1 q1 r1 hf;split at q
      ·simp only[zaF.injEq,Prod.mk.injEq] at q;rw[<- q.2,<- q.1];obtain⟨h1,h2,h0⟩:=h _ _ _ hf;rw[zah] at h1 h2;exact⟨by lia,by lia,h0⟩
      ·cases q
     ·cases q
    ·cases q
theorem vR:∀n,D9 (factor n)
 |0=>Eb fun _ _ _ q=>by cases q
 |n+1=>Eb (Ea (vR n))
theorem rP{w:W}{t:Tr}(h:expr w=some t):PG.xV t<60/\(jP t).length<=60/\JA t:=by
 unfold expr at h;split at h
 ·cases h
 ·rename_i hl;split at h
  ·rename_i e q;obtain⟨h1,h2,h0⟩:=Ea (vR 5) _ _ _ q;cases h;have:=rC w;rw[zbH] at h1 h2;exact⟨by lia,by lia,h0⟩
  ·cases h
inductive Fm where
 |box (n:W) (a b:Int) |ask (n:W) |put (n:W) (e:Tr) |say (e:Tr) |cond (k sg:W) (l r:Tr) |one (k:W)
 deriving DecidableEq
def nj:W:=[98,111,120]
def rQ:W:=[97,115,107]
def rR:W:=[112,117,116]
def rT:W:=[115,97,121]
def gu:W:=[109,117,115,116]
def jV:W:=[105,102]
def cf:W:=[101,108,115,101]
def bK:W:=[119,104,105,108,101]
def cA:W:=[101,110,100]
def b5:W:=[115,116,111,112]
def z7 (k:W):Nat:=if k=nj then 4 else if k=rQ then 2 else if k=rR then 3 else if k=rT then 2 else if k=gu then 4 else if k=jV then 4 else if k=cf then 1 else if k=bK then 4 else if k=cA then 1 else if k=b5 then 1 else 0
def uR (w:W):Option W:=if isName w then some w else none
def JB (w:W):Option Int:=if isNumber w then some (kj w) else none
def MH (ws:List W):Option Fm:=(uR (ws.getD 1 [])).bind fun n=>(JB (ws.getD 2 [])).bind fun a=>(JB (ws.getD 3 [])).map (.box n a)
def Ec (ws:List W):Option Fm:=if ws.getD 2 []=[60]\/ws.getD 2 []=[61] then (expr (ws.getD 1 [])).bind fun l=>(expr (ws.getD 3 [])).map (.cond (ws.headD []) (ws.getD 2 []) l) else none
def fI (ws:List W):Option Fm:=
 if z7 (ws.headD [])≠ws.length then none
 else if ws.headD []=nj then MH ws
 else if ws.headD []=rQ then (uR (ws.getD 1 [])).map .ask
 else if ws.headD []=rR then (uR (ws.getD 1 [])).bind fun n=>(expr (ws.getD 2 [])).map (.put n)
 else if ws.headD []=rT then (expr (ws.getD 1 [])).map .say
 else if ws.headD []=gu\/ws.headD []=jV\/ws.headD []=bK then Ec ws
 else some (.one (ws.headD []))
def Ts (e:Tr):Prop:=JA e/\PG.xV e<60/\(jP e).length<=60
theorem tG{w:W}{t:Tr}(h:expr w=some t):Ts t:=⟨(rP h).2.2,(rP h).1,(rP h).2.1⟩
def BW:Fm->Prop
 |.box _ _ _=>False
 |.ask n=>isName n=true
 |.put n e=>isName n=true/\Ts e
 |.say e=>Ts e
 |.cond k _ l r=>(k=gu\/k=jV\/k=bK)/\Ts l/\Ts r
 |.one k=>k=b5
def Qc:Fm->Prop
 |.box _ _ _=>True
 |.one k=>k=cf\/k=cA\/k=b5
 |f=>BW f
theorem Ed{w n:W}(h:uR w=some n):n=w/\isName n=true:=by
 unfold uR at h;split at h
 ·rename_i z;cases h;exact⟨rfl,z⟩
 ·cases h
theorem BX{ws:List W}{f:Fm}(hw:ws≠[])(h:fI ws=some f):Qc f:=by
 unfold fI at h;split at h
 ·cases h
 rename_i hc;split at h
 ·unfold MH at h;cases hx:uR (ws.getD 1 []) with
  |none=>rw[hx] at h;cases h
  |some n=>
   rw[hx] at h;cases hy:JB (ws.getD 2 []) with
   |none=>rw[hy] at h;cases h
   |some a=>
    rw[hy] at h;cases hz:JB (ws.getD 3 []) with
    |none=>rw[hz] at h;cases h
    |some b=>rw[hz] at h;cases h;exact trivial
 rename_i nb;split at h
 ·cases hx:uR (ws.getD 1 []) with
  |none=>rw[hx] at h;cases h
  |some n=>rw[hx] at h;cases h;exact(Ed hx).2
 rename_i na;split at h
 ·cases hx:uR (ws.getD 1 []) with
  |none=>rw[hx] at h;cases h
  |some n=>
   rw[hx] at h;cases hy:expr (ws.getD 2 []) with
   |none=>rw[hy] at h;cases h
   |some e=>rw[hy] at h;cases h;exact⟨(Ed hx).2,tG hy⟩
 rename_i np;split at h
 ·cases hy:expr (ws.getD 1 []) with
  |none=>rw[hy] at h;cases h
  |some e=>rw[hy] at h;cases h;exact tG hy
 rename_i ns;split at h
 ·rename_i hk;unfold Ec at h;split at h
  ·cases hx:expr (ws.getD 1 []) with
   |none=>rw[hx] at h;cases h
   |some l=>
    rw[hx] at h;cases hy:expr (ws.getD 3 []) with
    |none=>rw[hy] at h;cases h
    |some r=>rw[hy] at h;cases h;exact⟨hk,tG hx,tG hy⟩
  ·cases h
 rename_i nk;cases h;have hp:z7 (ws.headD [])≠0:=fun z=>hc (by rw[z];intro q;exact hw (zaX.mp q.symm));show ws.headD []=cf\/ws.headD []=cA\/ws.headD []=b5;generalize ws.headD []=k at *;unfold z7 at hp;rw[if_neg nb,if_neg na,if_neg np,if_neg ns,if_neg (fun z=>nk (.inl z)),if_neg (fun z=>nk (.inr (.inl z)))] at hp;by_cases h1:k=cf
 ·exact .inl h1
 rw[if_neg h1,if_neg (fun z=>nk (.inr (.inr z)))] at hp;by_cases h2:k=cA
 ·exact .inr (.inl h2)
 rw[if_neg h2] at hp;by_cases h3:k=b5
 ·exact .inr (.inr h3)
 rw[if_neg h3] at hp;exact absurd rfl hp
inductive Er where
 |Vw |BY |WJ |OD |JC |twice |aai |full |Vx
 deriving DecidableEq
structure Df where
 Ee:List W
 Qd:Bool
 iy:List Bool
def BZ:Fm->List W
 |.ask n=>[n]
 |.put n e=>n::jP e
 |.say e=>jP e
 |.cond _ _ l r=>jP l++jP r
 |_=>[]
def Gk (d:Df) (n:W) (a b:Int):Except Er Df:=
 if d.Qd then .error .BY else if ¬(2<=a/\a<=10/\b<a) then .error .JC else if n∈d.Ee then .error .twice else if d.Ee.length=4 then .error .full else .ok {d with Ee:=d.Ee++[n]}
def mH (d:Df):Except Er Df:=if d.iy.getLast?=some true then .ok {d with iy:=d.iy.dropLast++[false]} else .error .BY
def uT (d:Df):Except Er Df:=if d.iy=[] then .error .BY else .ok {d with iy:=d.iy.dropLast}
def opens:Fm->Option Bool
 |.cond k _ _ _=>if k=jV then some true else if k=bK then some false else none
 |_=>none
def jN (d:Df) (f:Fm):Except Er Df:=
 if (opens f).isSome/\d.iy.length=5 then .error .OD else if ∀n∈BZ f,n∈d.Ee then .ok {d with Qd:=true,iy:=d.iy++(opens f).toList} else .error .Vx
def gB (d:Df):Fm->Except Er Df
 |.box n a b=>Gk d n a b
 |.one k=>if k=cf then mH d else if k=cA then uT d else jN d (.one k)
 |f=>jN d f
def eG:Df->List W->Except Er Df
 |d,[]=>.ok d
 |d,r::rs=>match fI (L2.aU 32 r) with
  |none=>.error .Vw
  |some f=>match gB d f with
   |.error e=>.error e
   |.ok d'=>eG d' rs
end PM
namespace L2
open PySem PySem.Spec PyProof.Rows
def Dd:PM.Fm->Dp
 |.box n a b=>.tup [.str "box",.str (S n),.int a,.int b]
 |.ask n=>.tup [.str "ask",.str (S n)]
 |.put n e=>.tup [.str "put",.str (S n),cV e]
 |.say e=>.tup [.str "say",cV e]
 |.cond k sg l r=>.tup [.str (S k),.str (S sg),cV l,cV r]
 |.one k=>.tup [.str (S k)]
section
variable(K:zaa)(CN:zdU)
def OE:Sp:=fun vs H Q E=>∃w:W,vs=[sv w]/\w.length<=4000000/\match PM.uR w with
 |none=>∀H',ar H H'->E (.ref CN) none H'
 |some _=>∀H',ar H H'->Q (sv w) H'
def Si:Sp:=fun vs H Q E=>∃w:W,vs=[sv w]/\w.length<=4000000/\match PM.JB w with
 |none=>∀H',ar H H'->E (.ref CN) none H'
 |some n=>∀H',ar H H'->Q (.int n) H'
inductive B0(f:List W->Option PM.Fm)(vs:List V)(H:Hp)(Q:VK)(E:XK):Prop
 |mk (a:zdU) (ws:List W):vs=[.ref a]->H a=some (.lst (ws.map sv))->(∀w∈ws,w.length<=4000000)->ws.length=4->(f ws=none->∀H',ar H H'->E (.ref CN) none H')->(∀fm,f ws=some fm->∀v H',ar H H'->Rep K H' (Dd fm) v->Q v H')->B0 f vs H Q E
inductive MJ(vs:List V)(H:Hp)(Q:VK)(E:XK):Prop
 |mk (row:W):vs=[sv row]->row.length<=3000000->(PM.fI (aU 32 row)=none->∀H',ar H H'->E (.ref CN) none H')->(∀fm,PM.fI (aU 32 row)=some fm->∀v H',ar H H'->Rep K H' (Dd fm) v->Q v H')->MJ vs H Q E
inductive mI(n:Nat)(vs:List V)(H:Hp)(Q:VK)(E:XK):Prop
 |mk (v:V) (e:PM.Tr):vs=[v]->Rep K H (cV e) v->PM.JA e->PG.xV e<n->(PM.jP e).length<=100->(∀l H',ar H H'->H l=none->H' l=some (.lst ((PM.jP e).map sv))->Q (.ref l) H')->mI n vs H Q E
end
theorem nt(c:Nat):∀w:W,∀x∈aU c w,x.length<=w.length
 |[],x,h=>by
  cases zad.mp h;exact zag _
 |y::r,x,h=>by
  have ih:=nt c r;unfold aU at h;rw[zah];split at h
  ·rcases zak.mp h with rfl |h
   ·exact zaJ _
   ·have:=ih x h;lia
  ·split at h
   ·cases zad.mp h;exact Nat.succ_le_succ (zaJ _)
   ·rename_i a b e;rcases zak.mp h with rfl |h
    ·have:=ih a (by rw[e];exact zaq);rw[zah];lia
    ·have:=ih x (by rw[e];exact zam _ h);lia
def Ic:List (W×Nat)->W->Nat
 |[],_=>0
 |p::l,k=>if k=p.1 then p.2 else Ic l k
theorem Ef(k:W):∀l:List (W×Nat),((dX (κ:=Key) (l.map fun p=>((.inr (S p.1):Key),V.int p.2)) (.inr (S k))).getD (.int 0))=V.int (Ic l k)
 |[]=>rfl
 |p::l=>by
  have ih:=Ef k l;unfold dX at ih ⊢;rw[zar,zbB];unfold Ic;by_cases h:k=p.1
  ·rw[if_pos h];have:decide ((Sum.inr (S p.1):Key)=Sum.inr (S k))=true:=decide_eq_true (by rw[h]);simp only[this];rfl
  ·rw[if_neg h];have:decide ((Sum.inr (S p.1):Key)=Sum.inr (S k))=false:=decide_eq_false fun z=>h (DJ.mp (Sum.inr.inj z)).symm;simp only[this];exact ih
theorem c7{k:W}{x:Str}{u:W}(e:x=S u):(sv k=V.str x)↔k=u:=by
 rw[e];exact gv
def Yv:List (W×Nat):=[(PM.nj,4),(PM.rQ,2),(PM.rR,3),(PM.rT,2),(PM.gu,4),(PM.jV,4),(PM.cf,1),(PM.bK,4),(PM.cA,1),(PM.b5,1)]
theorem MK(k:W):Ic Yv k=PM.z7 k:=rfl
theorem uU:zab "box"=S PM.nj:=by decide +kernel
theorem Gm:zab "ask"=S PM.rQ:=by decide +kernel
theorem Gn:zab "put"=S PM.rR:=by decide +kernel
theorem Gp:zab "say"=S PM.rT:=by decide +kernel
theorem ML:zab "must"=S PM.gu:=by decide +kernel
theorem MM:zab "if"=S PM.jV:=by decide +kernel
theorem Bj:zab "else"=S PM.cf:=by decide +kernel
theorem lW:zab "while"=S PM.bK:=by decide +kernel
theorem MN:zab "end"=S PM.cA:=by decide +kernel
theorem Bk:zab "stop"=S PM.b5:=by decide +kernel
def sG {α:Type} (F:α->V->Prop) (l:List α) (us:List V):Prop:=us.length=l.length/\∀(i:Nat) x u,l[i]?=some x->us[i]?=some u->F x u
section
variable{α:Type}{F G:α->V->Prop}{l:List α}{us:List V}
theorem sG.nil:sG F [] []:=⟨rfl,fun i x u h=>by cases h⟩
theorem sG.imp(h:sG F l us)(f:∀x u,F x u->G x u):sG G l us:=⟨h.1,fun i x u h1 h2=>f x u (h.2 i x u h1 h2)⟩
theorem sG.snoc{x:α}{u:V}(h:sG F l us)(f:F x u):sG F (l++[x]) (us++[u]):=by
 refine⟨by rw[zaf,zaf,h.1];rfl,fun i y v h1 h2=>?_⟩;by_cases hi:i<l.length
 ·rw[zau hi] at h1;rw[zau (by rw[h.1];exact hi)] at h2;exact h.2 i y v h1 h2
 ·have h3:i<(l++[x]).length:=(zao.mp h1).1;rw[zaf,zav] at h3;have e:i=l.length:=by lia
  subst e;rw[zat (zag _),zbY] at h1;rw[zat (by rw[h.1];exact zag _),h.1,zbY] at h2;cases h1;cases h2;exact f
theorem sG.drop(h:sG F l us):sG F l.dropLast us.dropLast:=by
 refine⟨by rw[zaO,zaO,h.1],fun i x u h1 h2=>?_⟩;have k1:i<l.dropLast.length:=(zao.mp h1).1;have k2:i<us.dropLast.length:=(zao.mp h2).1;rw[zaO] at k1 k2;rw[zb5,if_pos k1] at h1;rw[zb5,if_pos k2] at h2;exact h.2 i x u h1 h2
theorem sG.last{x:α}(h:sG F l us)(hx:l.getLast?=some x):∃u,us.getLast?=some u/\F x u:=by
 rw[zaZ] at hx;have k:l.length-1<l.length:=(zao.mp hx).1;have k2:us.length-1<us.length:=by rw[h.1];exact k
 refine⟨us[us.length-1],by rw[zaZ];exact zac k2,?_⟩;exact h.2 (l.length-1) x _ hx (by rw[<- h.1];exact zac k2)
end
def BdO (O:zdU->Prop) (bx ns L:zdU):Prop:=O L/\L≠bx/\L≠ns
def MO (K:zaa) (H:Hp) (O:zdU->Prop) (bx ns:zdU) (k:Bool) (u:V):Prop:=∃a L x,u=.ref a/\cv K H a [.ref L,x]/\BdO O bx ns L/\if k=true then ∃L2,x=.ref L2/\BdO O bx ns L2 else x=.dh
def OF (K:zaa) (H:Hp) (n:W) (u:V):Prop:=∃a r,u=.ref a/\cv K H a (sv n::r)
structure NG(K:zaa)(CD:zdU)(O:zdU->Prop)(H:Hp)(p bx bd ns:zdU)(d:PM.Df)(m:Nat):Prop where
 own:∀b,O b->∃zs,H b=some (.lst zs)/\zs.length<=m
 WK:O bx
 WL:O bd
 Sj:O ns
 d1:bx≠bd
 d2:bx≠ns
 d3:bd≠ns
 ins:∃dx,H p=some (.ins CD dx [("boxes",.ref bx),("body",.ref bd),("nest",.ref ns)])
 box:∃us,H bx=some (.lst us)/\sG (OF K H) d.Ee us
 aJ:∃ys,H bd=some (.lst ys)/\(ys=[]↔d.Qd=false)
 zR:∃us,H ns=some (.lst us)/\sG (MO K H O bx ns) d.iy us
 nb:d.iy≠[]->d.Qd=true
section
variable{K:zaa}{CD:zdU}{O:zdU->Prop}{H H':Hp}{p bx bd ns:zdU}{d:PM.Df}{m:Nat}
theorem MO.imp{O':zdU->Prop}{k:Bool}{u:V}(h:MO K H O bx ns k u)(t:∀a xs,cv K H a xs->cv K H' a xs)(i:∀b,O b->O' b):MO K H' O' bx ns k u:=by
 obtain⟨a,L,x,e,h1,h2,h3⟩:=h;refine⟨a,L,x,e,t _ _ h1,⟨i _ h2.1,h2.2⟩,?_⟩;cases k with
 |false=>exact h3
 |true=>
  obtain⟨L2,e2,h4⟩:=h3;exact⟨L2,e2,i _ h4.1,h4.2⟩
theorem OF.imp{n:W}{u:V}(h:OF K H n u)(t:∀a xs,cv K H a xs->cv K H' a xs):OF K H' n u:=by
 obtain⟨a,r,e,h1⟩:=h;exact⟨a,r,e,t _ _ h1⟩
theorem NG.mono(h:NG K CD O H p bx bd ns d m)(s:ar H H'):NG K CD O H' p bx bd ns d m where
 own:=fun b hb=>by obtain⟨zs,e,l⟩:=h.own b hb;exact⟨zs,s _ _ e,l⟩
 WK:=h.WK
 WL:=h.WL
 Sj:=h.Sj
 d1:=h.d1
 d2:=h.d2
 d3:=h.d3
 ins:=by obtain⟨dx,e⟩:=h.ins;exact⟨dx,s _ _ e⟩
 box:=by obtain⟨us,e,i⟩:=h.box;exact⟨us,s _ _ e,i.imp fun _ _ z=>z.imp fun _ _=>s.dQ⟩
 aJ:=by obtain⟨us,e,i⟩:=h.aJ;exact⟨us,s _ _ e,i⟩
 zR:=by obtain⟨us,e,i⟩:=h.zR;exact⟨us,s _ _ e,i.imp fun _ _ z=>z.imp (fun _ _=>s.dQ) fun _ z=>z⟩
 nb:=h.nb
theorem NG.mU(h:NG K CD O H p bx bd ns d m){L:zdU}(hL:O L){zs:List V}{a:zdU}{xs:List V}(q:cv K H a xs):cv K (upd H L (.lst zs)) a xs:=by
 obtain⟨ys,e,_⟩:=h.own L hL;exact q.lT e ((bH.refl _ _).put _)
theorem NG.Tt(h:NG K CD O H p bx bd ns d m){L:zdU}(hL:O L):p≠L:=fun z=>by
 obtain⟨zs,e,_⟩:=h.own L hL;obtain⟨dx,e2⟩:=h.ins;rw[z,e] at e2;cases e2
theorem NG.jL{O':zdU->Prop}(h:NG K CD O H p bx bd ns d m)(io:∀b,O b->O' b)(no:∀b,O' b->O b\/H b=some (.lst [])){us:List V}{ks:List Bool}(l:us.length<=m+1)(i:sG (MO K H O' bx ns) ks us)(nb:ks≠[]->d.Qd=true):NG K CD O' (upd H ns (.lst us)) p bx bd ns {d with iy:=ks} (m+1) where
 own:=fun b hb=>by
  by_cases z:b=ns
  ·subst z;exact⟨_,aj,l⟩
  ·rcases no b hb with q |q
   ·obtain⟨ys,e2,l⟩:=h.own b q;exact⟨ys,by rw[aq z];exact e2,by lia⟩
   ·exact⟨[],by rw[aq z];exact q,zaJ _⟩
 WK:=io _ h.WK
 WL:=io _ h.WL
 Sj:=io _ h.Sj
 d1:=h.d1
 d2:=h.d2
 d3:=h.d3
 ins:=by obtain⟨dx,e2⟩:=h.ins;exact⟨dx,by rw[aq (h.Tt h.Sj)];exact e2⟩
 box:=by obtain⟨us,e2,i⟩:=h.box;exact⟨us,by rw[aq h.d2];exact e2,i.imp fun _ _ z=>z.imp fun _ _=>h.mU h.Sj⟩
 aJ:=by obtain⟨us,e2,i⟩:=h.aJ;exact⟨us,by rw[aq h.d3];exact e2,i⟩
 zR:=⟨us,aj,i.imp fun _ _ z=>z.imp (fun _ _=>h.mU h.Sj) fun _ z=>z⟩
 nb:=nb
end
section
variable(K:zaa)
inductive Eg(vs:List V)(H:Hp)(Q:VK)(E:XK):Prop
 |mk (v:V) (f:PM.Fm):vs=[v]->Rep K H (Dd f) v->PM.BW f->(∀l H',ar H H'->H l=none->H' l=some (.lst ((PM.BZ f).map sv))->Q (.ref l) H')->Eg vs H Q E
def Sk (k:W):Nat:=if k=PM.jV then 2 else if k=PM.bK then 1 else 0
end
def uV:PM.Fm->W
 |.box _ _ _=>PM.nj
 |.ask _=>PM.rQ
 |.put _ _=>PM.rR
 |.say _=>PM.rT
 |.cond k _ _ _=>k
 |.one k=>k
theorem JD{K:zaa}{H:Hp}{f:PM.Fm}{v:V}(h:Rep K H (Dd f) v):∃a ys,v=.ref a/\cv K H a (sv (uV f)::ys)/\ys.length<=3:=by
 cases f with
 |box n i j=>
  unfold Dd at h;simp only[Rep.aZ,aG.aM,aG.aS,Rep.aK] at h;obtain⟨a,xs,rfl,hS,_,_,rfl,rfl,_,_,rfl,_,_,_,rfl,_,_,_,rfl,_,rfl⟩:=h;rw[uU] at hS;exact⟨a,_,rfl,hS,by simp⟩
 |ask n=>
  unfold Dd at h;simp only[Rep.aZ,aG.aM,aG.aS,Rep.aK] at h;obtain⟨a,xs,rfl,hS,_,_,rfl,rfl,_,_,rfl,_,rfl⟩:=h;rw[Gm] at hS;exact⟨a,_,rfl,hS,by simp⟩
 |put n e=>
  unfold Dd at h;simp only[Rep.aZ,aG.aM,aG.aS,Rep.aK] at h;obtain⟨a,xs,rfl,hS,_,_,rfl,rfl,_,_,rfl,_,_,_,rfl,_,rfl⟩:=h;rw[Gn] at hS;exact⟨a,_,rfl,hS,by simp⟩
 |say e=>
  unfold Dd at h;simp only[Rep.aZ,aG.aM,aG.aS,Rep.aK] at h;obtain⟨a,xs,rfl,hS,_,_,rfl,rfl,_,_,rfl,_,rfl⟩:=h;rw[Gp] at hS;exact⟨a,_,rfl,hS,by simp⟩
 |cond k sg x y=>
  unfold Dd at h;simp only[Rep.aZ,aG.aM,aG.aS,Rep.aK] at h;obtain⟨a,xs,rfl,hS,_,_,rfl,rfl,_,_,rfl,_,_,_,rfl,_,_,_,rfl,_,rfl⟩:=h;exact⟨a,_,rfl,hS,by simp⟩
 |one k=>
  unfold Dd at h;simp only[Rep.aZ,aG.aM,aG.aS,Rep.aK] at h;obtain⟨a,xs,rfl,hS,_,_,rfl,rfl,rfl⟩:=h;exact⟨a,_,rfl,hS,by simp⟩
theorem Eh{f:PM.Fm}(h:PM.BW f):PM.opens f=if uV f=PM.jV then some true else if uV f=PM.bK then some false else none:=by
 cases f with
 |box n i j=>exact h.elim
 |cond k sg x y=>rfl
 |one k=>
  cases (show k=PM.b5 from h);decide
 |ask n=>show none=if PM.rQ=PM.jV then some true else if PM.rQ=PM.bK then some false else none;decide
 |put n e=>show none=if PM.rR=PM.jV then some true else if PM.rR=PM.bK then some false else none;decide
 |say e=>show none=if PM.rT=PM.jV then some true else if PM.rT=PM.bK then some false else none;decide
theorem Ei{K:zaa}{H:Hp}{a b:zdU}{xs ys:List V}{Q:VK}(h1:cv K H a xs)(h2:cv K H b ys)(ne:xs≠[])(hl:xs.length+ys.length<=zd2)(q:∀c H',ar H H'->cv K H' c (xs++ys)->Q (.ref c) H'):Px K (.ref a) (.ref b) H Q:=by
 refine⟨a,b,xs,ys,rfl,rfl,h1,h2,ne,hl,fun e=>?_,fun _ p hp=>q p _ (ar.new hp _) (.of aj)⟩;refine q a H (ar.refl _) ?_;rw[e,zaC];exact h1
theorem Ej{K:zaa}{H:Hp}{a:zdU}{x:V}{xs:List V}{Q:VK}(h:cv K H a (x::xs))(q:∀c H',ar H H'->cv K H' c xs->Q (.ref c) H'):Us K (.ref a) (some 1) none H Q:=by
 refine⟨a,_,rfl,h,fun z=>?_,fun p hp=>q p _ (ar.new hp _) (.of ?_)⟩
 ·have e:=z.1;unfold HT.fG at e;simp at e
 ·rw[aj,show (1:Int)=((1:Nat):Int) from rfl,yk];rfl
end L2
namespace PM
def Gq:W:=[112,108,97,105,110]
def Vy:Fm->W
 |.box _ _ _=>nj
 |.cond k _ _ _=>if k=gu then Gq else k
 |.one k=>if k=b5 then Gq else k
 |_=>Gq
def lnF:Fm->List W
 |.box n _ _=>[n]
 |f=>BZ f
def okF:Fm->Bool
 |.box _ a b=>decide (2<=a/\a<=10/\b<a)
 |_=>true
theorem Bm:∀(a b:List W) (d:Df),eG d (a++b)=(eG d a).bind fun d'=>eG d' b
 |[],b,d=>rfl
 |r::a,b,d=>by
  rw[zaQ,eG,eG];cases hf:fI (L2.aU 32 r) with
  |none=>rfl
  |some f=>
   cases ht:gB d f with
   |error e=>simp only[ht];rfl
   |ok d'=>simp only[ht];exact Bm a b d'
theorem Ek{a b:List W}{d d':Df}(h:eG d a=.ok d'):eG d (a++b)=eG d' b:=by rw[Bm,h];rfl
theorem Bn{r:W}{f:Fm}{d:Df}(h:fI (L2.aU 32 r)=some f):eG d [r]=gB d f:=by
 rw[eG,h];cases ht:gB d f<;>simp only[ht]<;>rfl
theorem yy:fI (L2.aU 32 cA)=some (.one cA):=by decide +kernel
theorem uW:fI (L2.aU 32 b5)=some (.one b5):=by decide +kernel
theorem Bo:∀(n:Nat) (d:Df),d.iy.length=n->eG d (zap n cA)=.ok {d with iy:=[]}
 |0,d,h=>by
  have e:d.iy=[]:=zaX.mp h;obtain⟨a,b,c⟩:=d;cases e;rfl
 |n+1,d,h=>by
  have ne:d.iy≠[]:=fun z=>by rw[z] at h;cases h
  rw[zbs,eG,yy];have et:gB d (.one cA)=.ok {d with iy:=d.iy.dropLast}:=by
   show (if cA=cf then mH d else if cA=cA then uT d else jN d (.one cA))=_;rw[if_neg (by decide),if_pos rfl];unfold uT;rw[if_neg ne]
  simp only[et];exact Bo n {d with iy:=d.iy.dropLast} (by show d.iy.dropLast.length=n;rw[zaO,h];rfl)
end PM
namespace L2
open PySem PySem.Spec PyProof.Rows
section
variable(K:zaa)
def Yw (_:zaa) (H:Hp) (a:zdU) (w:W) (f:PM.Fm):Prop:=∃n,H a=some (.lst [sv w,sv (PM.Vy f),.ref n,.bl (PM.okF f)])/\H n=some (.lst ((PM.lnF f).map sv))
def Yx (w:W) (f:PM.Fm):Prop:=PM.fI (aU 32 w)=some f/\w.length<=60/\10 ∉ w
end
theorem El{X:Cx}{K:zaa}(hK:X.K=K):K2 X "str.join" (fun x vs H Q=>∃(a:zdU) (L:List W) (c:Nat),x=sv [c]/\vs=[.ref a]/\fH K H a (L.map sv)/\L.flatten.length+L.length<=4000000/\Q (sv (cC c L)) H):=by
 subst hK;exact Mz
theorem MP{X:Cx}{K:zaa}{o e:Expr}{es:List Expr}{to:TE}{t:TA}{name:Str}{apos iS:Pos}{T id:String}{r:V->List V->Hp->VK->Prop}(hK:X.K=K)(pa:PlainAttrs T)(slot:Slot T name id)(Uv:typeOf (.builtin id)=pure (.type "method_descriptor"))(hm:K2 X id r)(ho:PE X o to)(ha:PA X (e::es) t)
 (Dw:attributeBase o name X.env (eval o X.env)=eval o X.env:=by rfl)
 (Rl:((backTo iS (zd0 (e::es) X.env)).all (fun x=>!x.1)&&(backToKw iS (keywordEach [] X.env)).all (fun x=>x.1.isSome)&&decide ((e::es).length+([]:List Keyword).length+(if ([]:List Keyword).isEmpty then 0 else 1)<30))=true:=by rfl)
 (Dx:(apos.endLine==iS.line)=true:=by rfl) (hs:zd0 (e::es) X.env=(false,eval e X.env)::zd0 es X.env:=by rfl) (xG:(backTo iS (zd0 es X.env)).any (·.1)=false:=by rfl) :
 PE X (.Call (.Attribute o name apos) (e::es) [] iS) (Wq K T r to t):=by
 subst hK;exact gZ pa slot Uv hm ho ha Dw Rl Dx hs xG
structure Yy(H:Hp)(st o n b:zdU)(op:List W)(d:PM.Df)(c:Nat):Prop where
 at_:H st=some (.lst [.ref o,.ref n,.ref b])
 yo:H o=some (.lst (op.map sv))
 yn:H n=some (.lst (d.Ee.map sv))
 yb:∃bs:List W,H b=some (.lst (bs.map sv))/\(bs=[]↔d.Qd=false)/\bs.length<=c
 ek:d.iy=op.map fun w=>decide (w=PM.jV)
 on:o≠n
 ob:o≠b
 nb:n≠b
 so:st≠o
 sn:st≠n
 sb:st≠b
 l5:op.length<=5
 ow:∀w∈op,w=PM.jV\/w=PM.bK\/w=PM.cf
 l4:d.Ee.length<=4
theorem Yy.mono{H H':Hp}{st o n b:zdU}{op:List W}{d:PM.Df}{c:Nat}(h:Yy H st o n b op d c)(s:ar H H'):Yy H' st o n b op d c:=
 {h with at_:=s _ _ h.at_,yo:=s _ _ h.yo,yn:=s _ _ h.yn,yb:=by obtain⟨bs,y,z⟩:=h.yb;exact⟨bs,s _ _ y,z⟩}
def Yz (w:W):Prop:=PM.fI (aU 32 w)=none/\w.length<=5100/\10 ∉ w
theorem Bp:∀(L:List W) (k:Nat),(∀r∈L,r.length<=k)->L.flatten.length<=k*L.length
 |[],_,_=>zaJ _
 |r::L,k,h=>by
  have ih:=Bp L k fun x hx=>h x (zam _ hx);have:=h r zaq;rw[zaV,zaf,zah,Nat.mul_succ];lia
def YA:W:=[98,97,100]
inductive RowW(K:zaa)(H:Hp)(v:V)(w:W):Prop
 |bad (l n:zdU):v=.ref l->H l=some (.lst [sv w,sv YA,.ref n,.bl true])->Yz w->RowW K H v w
 |good (l:zdU) (f:PM.Fm):v=.ref l->Yw K H l w f->Yx w f->RowW K H v w
theorem Ie{α:Type}(x:α):∀k:Nat,(zap k [x]).flatten=zap k x
 |0=>rfl
 |k+1=>by rw[zbs,zaV,Ie x k];rfl
theorem RowW.mono{K:zaa}{H H':Hp}{v:V}{w:W}(h:RowW K H v w)(s:ar H H'):RowW K H' v w:=by
 cases h with
 |bad l n e y b=>exact .bad l n e (s _ _ y) b
 |good l f e y b=>obtain⟨n,y1,y2⟩:=y;exact .good l f e ⟨n,s _ _ y1,s _ _ y2⟩ b
end L2
namespace PM
theorem JE{w:W}{c:Nat}(hk:kind c=2):isName (w++[c])=false:=by
 cases h:isName (w++[c]) with
 |false=>rfl
 |true=>
  have:=(name_kind h).2 c (by simp);rw[hk] at this;cases this
theorem Em{w:W}{c:Nat}(hk:kind c=2):isNumber (w++[c])=false:=by
 cases h:isNumber (w++[c]) with
 |false=>rfl
 |true=>
  have:=(k6 h).2 c (by simp);rw[hk] at this;cases this
theorem En:∀ {A B:List W} {s:Nat×Bool},run A s=none->run (A++B) s=none
 |[],_,_,h=>by cases h
 |p::A,B,s,h=>by
  rw[zaQ];rw[oO] at h ⊢;cases e:step p s with
  |none=>rfl
  |some s'=>
   rw[e] at h;exact En (A:=A) h
theorem Ig{w:W}{c:Nat}(h:(expr w).isSome=true)(hk:kind c=2)(h5:c≠40/\c≠41/\c≠42/\c≠43/\c≠45):c ∉ w:=fun hc=>by
 obtain⟨u,v,rfl⟩:=List.append_of_mem hc;have g:=((LB _).mp h).2;unfold good at g;rw[kZ u v hk] at g;cases e:run (pieces u) (0,true) with
 |none=>rw[En e] at g;cases g
 |some s=>
  rw[HE e,oO] at g;have st:step [c] s=none:=by
   obtain⟨d,b⟩:=s;cases b with
   |true=>
    rw[oN,if_neg (fun z=>h5.1 (zcV.inj z).1),if_neg];intro z;unfold LA at z;rw[show isNumber [c]=false from Em (w:=[]) hk,show isName [c]=false from JE (w:=[]) hk] at z;cases z
   |false=>
    rw[rB,if_neg (fun z=>h5.2.1 (zcV.inj z).1),if_neg];unfold rA;simp only[zak,zcV.injEq,and_true,zba,or_false]
    rintro (z |z |z)
    ·exact h5.2.2.2.1 z
    ·exact h5.2.2.2.2 z
    ·exact h5.2.2.1 z
  rw[st] at g;cases g
theorem Ih{x:W}(h:isName x=true){c:Nat}(hk:kind c=2):c ∉ x:=fun hc=>by
 have:=(name_kind h).2 c hc;rw[hk] at this;cases this
theorem qt{x:W}(h:isNumber x=true){c:Nat}(hk:kind c=2):c ∉ x:=fun hc=>by
 have:=(k6 h).2 c hc;rw[hk] at this;cases this
theorem o7{x:W}(h:isName x=true):x.length<=8:=by
 unfold isName at h;simp only[zaD,decide_eq_true_eq] at h;exact h.1.1.2
theorem nv{x:W}(h:isNumber x=true):x.length<=3:=by
 unfold isNumber at h;simp only[zaD,decide_eq_true_eq] at h;exact h.1.1.2
structure NH(ns:List W)(f:Fm):Prop where
 nm:∀n∈BZ f,n∈ns
 tk:∀d,gB d f=jN d f
theorem NH.take{ns:List W}{f:Fm}(h:NH ns f){d:Df}(hn:d.Ee=ns)(hk:opens f=none\/d.iy.length<5):gB d f=.ok {d with Qd:=true,iy:=d.iy++(opens f).toList}:=by
 rw[h.tk];unfold jN;rw[if_neg,if_pos (by rw[hn];exact h.nm)]
 rintro ⟨z,z5⟩
 rcases hk with e |e
 ·rw[e] at z;cases z
 ·lia
end PM
namespace L2
open PySem PySem.Spec PyProof.Rows
def JF (w:W) (f:PM.Fm):Prop:=PM.fI (aU 32 w)=some f/\w.length<=200/\10 ∉ w
theorem MQ{c x:Nat}:∀ {L:List W},x∈cC c L->x=c\/∃w∈L,x∈w
 |[],h=>by cases h
 |w::L,h=>by
  unfold cC at h;rcases zaj.mp h with h |h
  ·exact .inr ⟨w,zaq,h⟩
  ·obtain⟨l,hl,hx⟩:=List.mem_flatten.mp h;obtain⟨y,hy,rfl⟩:=zaK.mp hl;rcases zak.mp hx with e |e
   ·exact .inl e
   ·exact .inr ⟨y,zam _ hy,e⟩
theorem o8{ws:List W}{f:PM.Fm}(h:PM.fI ws=some f)(ne:ws≠[])(h32:∀w∈ws,32 ∉ w/\10 ∉ w)(len:ws.flatten.length+ws.length<=200):JF (cC 32 ws) f:=
 ⟨by rw[yv ne fun w hw=>(h32 w hw).1];exact h,zaA (yt 32 ws) len,fun z=>by
  rcases MQ z with e |⟨w,hw,e⟩
  ·cases e
  ·exact(h32 w hw).2 e⟩
structure DrT(ns:List W)(d:Nat)(t:PM.Tr):Prop where
 ok:PM.BP t
 nm:∀x∈PM.jP t,x∈ns
 ht:A7 t<=d
 lv:NA t<=2 ^ d
structure Kl(ns:List W):Prop where
 ok:∀x∈ns,PM.isName x=true
 nd:ns.Nodup
 C6:ns.length<=4
structure B3(ns:List W)(w:W)(t:PM.Tr):Prop where
 ex:PM.expr w=some t
 nm:∀x∈PM.jP t,x∈ns
 len:w.length<=60
 ht:A7 t<=3
theorem B3.no{ns:List W}{w:W}{t:PM.Tr}(h:B3 ns w t):32 ∉ w/\10 ∉ w:=
 ⟨PM.Ig (by rw[h.ex];rfl) (by decide) (by decide),PM.Ig (by rw[h.ex];rfl) (by decide) (by decide)⟩
theorem MR{x:W}(h:PM.isName x=true):32 ∉ x/\10 ∉ x:=⟨PM.Ih h (by decide),PM.Ih h (by decide)⟩
section
variable{ns:List W}
theorem OG{x:W}(hx:PM.isName x=true)(hm:x∈ns):JF (cC 32 [PM.rQ,x]) (.ask x)/\PM.NH ns (.ask x)/\PM.opens (.ask x)=none:=by
 refine⟨o8 ?_ (by simp) (fun w hw=>?_) ?_,⟨fun n hn=>?_,fun d=>rfl⟩,rfl⟩
 ·show (PM.uR x).map PM.Fm.ask=_;unfold PM.uR;rw[if_pos hx];rfl
 ·simp only[zak,zba,or_false] at hw;rcases hw with rfl |rfl
  ·decide
  ·exact MR hx
 ·have:=PM.o7 hx;simp[PM.rQ];lia
 ·rw[zad.mp hn];exact hm
theorem OH{x e:W}{t:PM.Tr}(hx:PM.isName x=true)(hm:x∈ns)(he:B3 ns e t):JF (cC 32 [PM.rR,x,e]) (.put x t)/\PM.NH ns (.put x t)/\PM.opens (.put x t)=none:=by
 refine⟨o8 ?_ (by simp) (fun w hw=>?_) ?_,⟨fun n hn=>?_,fun d=>rfl⟩,rfl⟩
 ·show ((PM.uR x).bind fun n=>(PM.expr e).map (PM.Fm.put n))=_;unfold PM.uR;rw[if_pos hx,he.ex];rfl
 ·simp only[zak,zba,or_false] at hw;rcases hw with rfl |rfl |rfl
  ·decide
  ·exact MR hx
  ·exact he.no
 ·have:=PM.o7 hx;have:=he.len;simp[PM.rR];lia
 ·rcases zak.mp hn with rfl |hn
  ·exact hm
  ·exact he.nm n hn
theorem OI{e:W}{t:PM.Tr}(he:B3 ns e t):JF (cC 32 [PM.rT,e]) (.say t)/\PM.NH ns (.say t)/\PM.opens (.say t)=none:=by
 refine⟨o8 ?_ (by simp) (fun w hw=>?_) ?_,⟨fun n hn=>he.nm n hn,fun d=>rfl⟩,rfl⟩
 ·show (PM.expr e).map PM.Fm.say=_;rw[he.ex];rfl
 ·simp only[zak,zba,or_false] at hw;rcases hw with rfl |rfl
  ·decide
  ·exact he.no
 ·have:=he.len;simp[PM.rT];lia
theorem Bq(d:PM.Df):PM.gB d (.one PM.b5)=PM.jN d (.one PM.b5):=by
 show (if PM.b5=PM.cf then PM.mH d else if PM.b5=PM.cA then PM.uT d else PM.jN d (.one PM.b5))=_;rw[if_neg (show ¬PM.b5=PM.cf by decide),if_neg (show ¬PM.b5=PM.cA by decide)]
theorem MS:JF PM.b5 (.one PM.b5)/\PM.NH ns (.one PM.b5)/\PM.opens (.one PM.b5)=none:=
 ⟨⟨PM.uW,by decide,by decide⟩,⟨fun n hn=>(by cases hn),fun d=>Bq d⟩,rfl⟩
theorem yz{k l s r:W}{t u:PM.Tr}(hk:k=PM.gu\/k=PM.jV\/k=PM.bK)(hs:s=[60]\/s=[61])(hl:B3 ns l t)(hr:B3 ns r u):JF (cC 32 [k,l,s,r]) (.cond k s t u)/\PM.NH ns (.cond k s t u):=by
 refine⟨o8 ?_ (by simp) (fun w hw=>?_) ?_,⟨fun n hn=>?_,fun d=>rfl⟩⟩
 ·have key:PM.fI [k,l,s,r]=if s=[60]\/s=[61] then (PM.expr l).bind fun x=>(PM.expr r).map (PM.Fm.cond k s x) else none:=by
   rcases hk with rfl |rfl |rfl<;>rfl
  rw[key,if_pos hs,hl.ex,hr.ex];rfl
 ·simp only[zak,zba,or_false] at hw;rcases hw with rfl |rfl |rfl |rfl
  ·rcases hk with rfl |rfl |rfl<;>decide
  ·exact hl.no
  ·rcases hs with rfl |rfl<;>decide
  ·exact hr.no
 ·have h1:=hl.len;have h2:=hr.len;have h3:k.length<=5:=by rcases hk with rfl |rfl |rfl<;>decide
  have h4:s.length<=1:=by rcases hs with rfl |rfl<;>decide
  simp only[zaV,zcq,zaf,zah,zbH];lia
 ·rcases zaj.mp hn with h |h
  ·exact hl.nm n h
  ·exact hr.nm n h
end
theorem OJ:JF PM.cA (.one PM.cA):=⟨PM.yy,by decide,by decide⟩
theorem MT:JF PM.cf (.one PM.cf):=⟨by decide +kernel,by decide,by decide⟩
structure NI(b:W×Int×Int):Prop where
 nm:PM.isName b.1=true
 lo:2<=b.2.1
 hi:b.2.1<=10
 f0:0<=b.2.2
 f1:b.2.2<b.2.1
def xg (b:W×Int×Int):Dp:=.tup [.str (S b.1),.int b.2.1,.int b.2.2]
def Eo (b:W×Int×Int):W:=cC 32 [PM.nj,b.1,PM.dig b.2.1.toNat,PM.dig b.2.2.toNat]
theorem xh{b:W×Int×Int}(h:NI b):JF (Eo b) (.box b.1 b.2.1 b.2.2):=by
 obtain⟨hn,h1,h2,h3,h4⟩:=h;obtain⟨a1,a2⟩:=PM.oP b.2.1.toNat (by lia);obtain⟨b1,b2⟩:=PM.oP b.2.2.toNat (by lia);refine o8 ?_ (by simp) (fun w hw=>?_) ?_
 ·show ((PM.uR b.1).bind fun n=>(PM.JB (PM.dig b.2.1.toNat)).bind fun x=>(PM.JB (PM.dig b.2.2.toNat)).map (PM.Fm.box n x))=_;unfold PM.uR PM.JB;rw[if_pos hn,if_pos a1,if_pos b1,a2,b2,zdF (by lia),zdF h3];rfl
 ·simp only[zak,zba,or_false] at hw;rcases hw with rfl |rfl |rfl |rfl
  ·decide
  ·exact MR hn
  ·exact⟨PM.qt a1 (by decide),PM.qt a1 (by decide)⟩
  ·exact⟨PM.qt b1 (by decide),PM.qt b1 (by decide)⟩
 ·have:=PM.o7 hn;have:=PM.nv a1;have:=PM.nv b1;simp[PM.nj];lia
theorem yA:∀(bs:List (W×Int×Int)) (ns:List W),(∀b∈bs,NI b)->(ns++bs.map (·.1)).Nodup->(ns++bs.map (·.1)).length<=4->PM.eG ⟨ns,false,[]⟩ (bs.map Eo)=.ok ⟨ns++bs.map (·.1),false,[]⟩
 |[],ns,_,_,_=>by rw[zbC,zbC,zaC];rfl
 |b::bs,ns,hb,nd,l4=>by
  have h:=hb b zaq;have e:ns++(b::bs).map (·.1)=(ns++[b.1])++bs.map (·.1):=by simp
  rw[e] at nd l4 ⊢;rw[zar,PM.eG,(xh h).1];have et:PM.gB ⟨ns,false,[]⟩ (.box b.1 b.2.1 b.2.2)=.ok ⟨ns++[b.1],false,[]⟩:=by
   show PM.Gk _ _ _ _=_;unfold PM.Gk;have n1:b.1 ∉ ns:=fun z=>by
    have:=(zby.mp (zby.mp nd).1).2.2 _ z _ zaq;exact this rfl
   have n2:ns.length≠4:=fun z=>by
    rw[zaf,zaf,zav] at l4;lia
   rw[if_neg (by simp),if_neg (fun z=>z ⟨h.lo,h.hi,h.f1⟩),if_neg n1,if_neg n2]
  simp only[et];exact yA bs _ (fun x hx=>hb x (zam _ hx)) nd l4
theorem kW{n d:Nat}{x:Nat}(h:x<=n):HT.fG n d (some (x:Int))=x:=by
 rw[HT.kW,zdi h]
theorem Ii{r:W}{j:Nat}(h:j<=r.length):DI (S r) none (some (j:Int))=S (r.take j):=by
 unfold DI;have l:(S r).length=r.length:=cj r;rw[l,kW h];show (⟨((r.drop 0).take (j-0)).toArray⟩:Str)=_;rfl
theorem JG{r:W}{j:Nat}(h:j<=r.length):DI (S r) (some (j:Int)) none=S (r.drop j):=by
 unfold DI;have l:(S r).length=r.length:=cj r;rw[l,kW h];show (⟨((r.drop j).take (r.length-j)).toArray⟩:Str)=_;rw[zbp (by rw[za9];exact zag _)];rfl
section
variable(K:zaa)
inductive Qe(vs:List V)(H:Hp)(Q:VK)(E:XK):Prop
 |mk (hd:Int) (k m:Nat):vs=[.int hd,.int k,.int m]->k<=900->m<=4->(∀l ns H',ar H H'->H l=none->H' l=some (.lst (ns.map sv))->Kl ns->ns.length=m->Q (.ref l) H')->Qe vs H Q E
inductive OK(vs:List V)(H:Hp)(Q:VK)(E:XK):Prop
 |mk (n:Int) (a:zdU) (ns:List W):vs=[.int n,.ref a]->0<=n->fH K H a (ns.map sv)->Kl ns->(∀v t H',ar H H'->Rep K H' (cV t) v->DrT ns 0 t->Q v H')->OK vs H Q E
inductive MU(m:Nat)(vs:List V)(H:Hp)(Q:VK)(E:XK):Prop
 |mk (cell k:Int) (d:Nat) (a:zdU) (ns:List W):vs=[.int cell,.int k,.int d,.ref a]->0<=k->(k+2)*2 ^ d<=1000->d<m->fH K H a (ns.map sv)->Kl ns->(∀v t H',ar H H'->Rep K H' (cV t) v->DrT ns d t->Q v H')->MU m vs H Q E
inductive Vz(vs:List V)(H:Hp)(Q:VK)(E:XK):Prop
 |mk (cell:Int) (k:Nat) (a:zdU) (ns:List W):vs=[.int cell,.int k,.ref a]->k<=30->fH K H a (ns.map sv)->Kl ns->(∀l w v t H',ar H H'->H' l=some (.lst [sv w,v])->Rep K H' (cV t) v->B3 ns w t->Q (.ref l) H')->Vz vs H Q E
inductive VA(vs:List V)(H:Hp)(Q:VK)(E:XK):Prop
 |mk (hd:Int):vs=[.int hd]->(∀(l:zdU) (us:List V) (bs:List (W×Int×Int)) (H':Hp),ar H H'->H l=none->H' l=some (.lst us)->aG K H' (bs.map xg) us->(∀b∈bs,NI b)->Kl (bs.map (·.1))->Q (.ref l) H')->VA vs H Q E
end
open PG
open PM (W Tr)
section
variable{α β:Type}
def cB (m:List (Int×α)) (k:Int):Option α:=(m.find? fun e=>decide (e.1=k)).map (·.2)
def lX (m:List (Int×α)) (k:Int) (v:α):List (Int×α):=if (m.any fun e=>decide (e.1=k))=true then m.map (fun e=>if e.1=k then (e.1,v) else e) else m++[(k,v)]
theorem dD{p:Int×α}{r:List (Int×α)}{k:Int}(e:p.1=k):cB (p::r) k=some p.2:=by simp[cB,zbB,e]
theorem dZ{p:Int×α}{r:List (Int×α)}{k:Int}(e:¬p.1=k):cB (p::r) k=cB r k:=by simp[cB,zbB,e]
theorem qu(k:Int):∀m:List (Int×α),(m.any fun e=>decide (e.1=k))=(cB m k).isSome
 |[]=>rfl
 |p::r=>by
  rw[zbR];by_cases e:p.1=k
  ·simp only[dD e,decide_eq_true e,Bool.true_or,Option.isSome_some]
  ·rw[dZ e,decide_eq_false e,zdA];exact qu k r
theorem o9{m:List (Int×α)}{k:Int}(v:α)(h:cB m k=none):lX m k v=m++[(k,v)]:=by
 unfold lX;rw[qu,h];exact if_neg (by simp)
theorem mJ{m:List (Int×α)}{k:Int}{u:α}(v:α)(h:cB m k=some u):lX m k v=m.map fun e=>if e.1=k then (e.1,v) else e:=by
 unfold lX;rw[qu,h];exact if_pos rfl
theorem Ep(k j:Int)(y:α):∀m:List (Int×α),cB (m.map fun e=>if e.1=k then (e.1,y) else e) j=(cB m j).map fun x=>if j=k then y else x
 |[]=>rfl
 |p::r=>by
  have ih:=Ep k j y r;rw[zar];by_cases h:p.1=k
  ·rw[if_pos h];by_cases e:p.1=j
   ·rw[dD (p:=(p.1,y)) e,dD e,zbe,if_pos (e.symm.trans h)]
   ·rw[dZ (p:=(p.1,y)) e,dZ e,ih]
  ·rw[if_neg h];by_cases e:p.1=j
   ·rw[dD (p:=p) e,dD e,zbe,if_neg (fun z=>h (e.trans z))]
   ·rw[dZ (p:=p) e,dZ e,ih]
theorem Es(k j:Int)(y:α):∀m:List (Int×α),cB m k=none->cB (m++[(k,y)]) j=if j=k then some y else cB m j
 |[],_=>by
  by_cases e:k=j
  ·rw[if_pos e.symm];exact dD (p:=(k,y)) e
  ·rw[if_neg (fun z=>e z.symm)];exact dZ (p:=(k,y)) e
 |p::r,hn=>by
  rw[zaQ];have hk:¬p.1=k:=fun z=>by rw[dD z] at hn;cases hn
  rw[dZ hk] at hn;have ih:=Es k j y r hn;by_cases e:p.1=j
  ·rw[dD e,dD e,if_neg (fun z=>hk (e.trans z))]
  ·rw[dZ e,dZ e,ih]
theorem tH(m:List (Int×α))(k j:Int)(y:α):cB (lX m k y) j=if j=k then some y else cB m j:=by
 cases q:cB m k with
 |none=>rw[o9 y q];exact Es k j y m q
 |some u=>
  rw[mJ y q,Ep];by_cases e:j=k
  ·rw[if_pos e,e,q,zbe,if_pos rfl]
  ·rw[if_neg e];cases cB m j with
   |none=>rfl
   |some x=>rw[zbe,if_neg e]
theorem get_mem{m:List (Int×α)}{k:Int}{u:α}(h:cB m k=some u):(k,u)∈m:=by
 unfold cB at h;obtain⟨e,he,rfl⟩:=zaP.mp h;have h1:=List.mem_of_find?_eq_some he;have h2:e.1=k:=by have:=List.find?_some he;simpa using this
 rw[<- h2];exact h1
theorem B4{m:List (Int×α)}{k:Int}{u:α}(v:α)(h:cB m k=some u):(lX m k v).map (·.1)=m.map (·.1):=by
 rw[mJ v h,zbv];refine zcd fun e _=>?_;simp only[Function.comp];split<;>rfl
theorem get_none{m:List (Int×α)}{k:Int}(h:cB m k=none):k ∉ m.map (·.1):=fun z=>by
 obtain⟨e,he,rfl⟩:=zaK.mp z;have:=qu e.1 m;rw[h] at this;simp at this;exact this e.1 e.2 he rfl
theorem Sl{m:List (Int×α)}{k:Int}(v:α)(nd:(m.map (·.1)).Nodup):((lX m k v).map (·.1)).Nodup:=by
 cases q:cB m k with
 |some u=>rw[B4 v q];exact nd
 |none=>
  rw[o9 v q,zaw,zby];refine⟨nd,by simp,fun a ha b hb z=>get_none q ?_⟩;have e2:b=k:=by simpa using hb
  rw[z,e2] at ha;exact ha
theorem OL{m:List (Int×α)}{k:Int}{v:α}{e:Int×α}(h:e∈lX m k v):e∈m\/e=(k,v):=by
 unfold lX at h;split at h
 ·obtain⟨x,hx,rfl⟩:=zaK.mp h;by_cases z:x.1=k
  ·rw[if_pos z,z];exact .inr rfl
  ·rw[if_neg z];exact .inl hx
 ·rcases zaj.mp h with h |h
  ·exact .inl h
  ·exact .inr (zad.mp h)
def pd (f:α->Nat) (m:List (Int×α)):Nat:=(m.map fun e=>f e.2).sum
theorem OM{f:α->Nat}{m:List (Int×α)}{k:Int}(v:α)(h:cB m k=none):pd f (lX m k v)=pd f m+f v:=by
 rw[o9 v h];unfold pd;rw[zaw,List.sum_append];simp
theorem Ij{f:α->Nat}:∀ {m:List (Int×α)} {k:Int} {u:α} (v:α),(m.map (·.1)).Nodup->cB m k=some u->pd f (lX m k v)+f u=pd f m+f v
 |[],k,u,v,_,h=>by cases h
 |p::r,k,u,v,nd,h=>by
  rw[mJ v h];rw[zar,zbd] at nd;by_cases e:p.1=k
  ·rw[dD e] at h;cases h;have er:(r.map fun e=>if e.1=k then (e.1,v) else e)=r:=by
    refine(zcd fun x hx=>?_).trans (List.map_id' r);rw[if_neg fun z=>nd.1 (zaK.mpr ⟨x,hx,by rw[z,e]⟩)]
   rw[zar,if_pos e,er];unfold pd;rw[zar,zar,zbD,zbD];simp only;lia
  ·rw[dZ e] at h;have ih:=Ij (f:=f) v nd.2 h;rw[mJ v h] at ih;rw[zar,if_neg e];unfold pd at ih ⊢;rw[zar,zar,zbD,zbD];lia
theorem MV{f:α->Nat}{B:Nat}:∀ {m:List (Int×α)},(∀e∈m,f e.2<=B)->pd f m<=m.length*B
 |[],_=>by simp[pd]
 |p::r,h=>by
  have ih:=MV (f:=f) (B:=B) (m:=r) fun e he=>h e (zam _ he);have:=h p (zaq ..);unfold pd at ih ⊢;rw[zar,zbD,zah,zdL];lia
theorem Paired.lX{R:Int×α->Int×β->Prop}(hR:∀a b,R a b->a.1=b.1){m:List (Int×α)}{n:List (Int×β)}{k:Int}{v:α}{u:β}(h:Paired R m n)(hv:R (k,v) (k,u)):Paired R (L2.lX m k v) (L2.lX n k u):=by
 have eg:(cB m k).isSome=(cB n k).isSome:=by
  rw[<- qu,<- qu]
  induction h with
  |nil=>rfl
  |cons a _ ih=>rw[zbR,zbR,ih,hR _ _ a]
 have mp:Paired R (m.map fun e=>if e.1=k then (e.1,v) else e) (n.map fun e=>if e.1=k then (e.1,u) else e):=by
  clear eg
  induction h with
  |nil=>exact .nil
  |cons a _ ih=>
   rename_i x y _ _ _;rw[zar,zar];refine .cons ?_ ih;by_cases e:x.1=k
   ·rw[if_pos e,if_pos (by rw[<- hR _ _ a];exact e),e,<- hR _ _ a,e];exact hv
   ·rw[if_neg e,if_neg (by rw[<- hR _ _ a];exact e)];exact a
 cases q:cB m k with
 |none=>
  have q2:cB n k=none:=by cases z:cB n k with
   |none=>rfl
   |some _=>rw[q,z] at eg;cases eg
  rw[o9 v q,o9 u q2];exact L2.Paired.app h (.cons hv .nil)
 |some x=>
  obtain⟨y,q2⟩:∃y,cB n k=some y:=by cases z:cB n k with
   |some y=>exact⟨y,rfl⟩
   |none=>rw[q,z] at eg;cases eg
  rw[mJ v q,mJ u q2];exact mp
theorem Paired.cB{R:Int×α->Int×β->Prop}(hR:∀a b,R a b->a.1=b.1){m:List (Int×α)}{n:List (Int×β)}(k:Int)(h:Paired R m n):(L2.cB m k=none/\L2.cB n k=none)\/∃v u,L2.cB m k=some v/\L2.cB n k=some u/\R (k,v) (k,u):=by
 induction h with
 |nil=>exact .inl ⟨rfl,rfl⟩
 |cons a _ ih=>
  rename_i x y _ _ _;have e1:=hR _ _ a;by_cases e:x.1=k
  ·refine .inr ⟨x.2,y.2,dD e,dD (by rw[<- e1];exact e),?_⟩;have e2:y.1=k:=by rw[<- e1];exact e
   have h1:(k,x.2)=x:=Prod.ext e.symm rfl;have h2:(k,y.2)=y:=Prod.ext e2.symm rfl;rw[h1,h2];exact a
  ·rw[dZ e,dZ (by rw[<- e1];exact e)];exact ih
end
def Sub (a b:List Rg):Prop:=a.length=b.length/\∀(i:Nat) (x y:Rg),a[i]?=some x->b[i]?=some y->y.1<=x.1/\x.2<=y.2
theorem Sub.refl(a:List Rg):Sub a a:=⟨rfl,fun i x y e1 e2=>by rw[e1] at e2;cases e2;exact⟨zbO _,zbO _⟩⟩
theorem Sub.trans{a b c:List Rg}(h:Sub a b)(k:Sub b c):Sub a c:=⟨h.1.trans k.1,fun i x z e1 e3=>by
 have hi:i<b.length:=by have:=(zao.mp e1).1;rw[<- h.1];exact this
 have h1:=h.2 i x _ e1 (zac hi);have h2:=k.2 i _ z (zac hi) e3;lia⟩
theorem Mw.sub{a b:List Rg}{vals:List Int}(h:Mw a vals)(k:Sub a b):Mw b vals:=⟨h.1.trans k.1,fun i v r e1 e2=>by
 have hi:i<a.length:=by have:=(zao.mp e2).1;rw[k.1];exact this
 have h1:=h.2 i v _ e1 (zac hi);have h2:=k.2 i _ r (zac hi) e2;unfold In at h1 ⊢;lia⟩
def Gr (rs:List Rg):Nat:=(rs.map fun r=>(r.2-r.1).toNat).sum
theorem MW:∀ {a b:List Rg},Sub a b->(∀r∈a,r.1<=r.2)->(∀r∈b,r.1<=r.2)->Gr a<=Gr b/\(a≠b->Gr a<Gr b)
 |[],[],_,_,_=>⟨zag _,fun z=>absurd rfl z⟩
 |[],_::_,h,_,_=>by have:=h.1;simp at this
 |_::_,[],h,_,_=>by have:=h.1;simp at this
 |x::a,y::b,h,ha,hb=>by
  have ih:=MW (a:=a) (b:=b) ⟨by have:=h.1;simpa using this,fun i p q e1 e2=>h.2 (i+1) p q (by simpa using e1) (by simpa using e2)⟩ (fun r hr=>ha r (zam _ hr)) (fun r hr=>hb r (zam _ hr));have h0:=h.2 0 x y rfl rfl;have hx:=ha x (zaq ..);have hy:=hb y (zaq ..);unfold Gr at ih ⊢;rw[zar,zar,zbD,zbD];refine⟨by lia,fun ne=>?_⟩;by_cases e:a=b
  ·have:x≠y:=fun z=>ne (by rw[z,e]);have e2:¬(x.1=y.1/\x.2=y.2):=fun z=>this (Prod.ext z.1 z.2);lia
  ·have:=ih.2 e;lia
theorem MX{B:Nat}:∀ {rs:List Rg},(∀r∈rs,(r.2-r.1).toNat<=B)->Gr rs<=rs.length*B
 |[],_=>by simp[Gr]
 |x::r,h=>by
  have ih:=MX (rs:=r) fun e he=>h e (zam _ he);have:=h x (zaq ..);unfold Gr at ih ⊢;rw[zar,zbD,zah,zdL];lia
def VB (pr:Prog) (m:List (Int×List Rg)) (r:Int) (rs:List Rg):Prop:=∀(i:Nat) (hi:i<(bj pr.body).length) (hf:i<(cn pr.body 0).length),(bj pr.body)[i].row=r->∀q∈Sd pr.bF rs (cn pr.body 0)[i].2.2 (bj pr.body)[i],∃u,cB m q.1=some u/\Sub q.2 u
def YB (pr:Prog) (r:Int):Prop:=r=0\/∃s∈bj pr.body,s.row=r
structure LM(pr:Prog)(m:List (Int×List Rg))(w:List Int):Prop where
 nd:(m.map (·.1)).Nodup
 NC:∀e∈m,Ju pr.bF e.2/\YB pr e.1
 first:∃u,cB m (cR pr.body 0)=some u/\Sub (one (pr.bF.map (·.first))) u
 wait:∀r∈w,∃u,cB m r=some u
 many:w.length<=pd (fun rs=>1+Gr rs) m
structure LI(pr:Prog)(m:List (Int×List Rg))(w:List Int):Prop where
 lm:LM pr m w
 Sm:∀r u,cB m r=some u->r∈w\/VB pr m r u
structure LJ(pr:Prog)(r:Int)(rs:List Rg)(done:List (Int×List Rg))(m:List (Int×List Rg))(w:List Int):Prop where
 lm:LM pr m w
 Sm:∀r' u,r'≠r->cB m r'=some u->r'∈w\/VB pr m r' u
 own:r∈w\/cB m r=some rs
 cov:∀q∈done,∃u,cB m q.1=some u/\Sub q.2 u
theorem VB.grow{pr:Prog}{m m':List (Int×List Rg)}{r:Int}{rs:List Rg}(h:VB pr m r rs)(g:∀k u,cB m k=some u->∃u',cB m' k=some u'/\Sub u u'):VB pr m' r rs:=fun i hi hf e q hq=>by
 obtain⟨u,h1,h2⟩:=h i hi hf e q hq;obtain⟨u',h3,h4⟩:=g _ _ h1;exact⟨u',h3,h2.trans h4⟩
theorem LJ.put{pr:Prog}{r:Int}{rs:List Rg}{done m:List (Int×List Rg)}{w:List Int}(h:LJ pr r rs done m w){q:Int×List Rg}{v:List Rg}(hv:Ju pr.bF v)(hk:YB pr q.1)(hq:Sub q.2 v)(ho:∀u,cB m q.1=some u->Sub u v/\u≠v) :
 LJ pr r rs (done++[q]) (lX m q.1 v) (w++[q.1])/\pd (fun rs=>1+Gr rs) m<pd (fun rs=>1+Gr rs) (lX m q.1 v):=by
 have g:∀k u,cB m k=some u->∃u',cB (lX m q.1 v) k=some u'/\Sub u u':=fun k u e=>by
  rw[tH];by_cases z:k=q.1
  ·rw[if_pos z];rw[z] at e;exact⟨v,rfl,(ho u e).1⟩
  ·rw[if_neg z];exact⟨u,e,Sub.refl u⟩
 have lt:pd (fun rs=>1+Gr rs) m<pd (fun rs=>1+Gr rs) (lX m q.1 v):=by
  cases e:cB m q.1 with
  |none=>rw[OM v e];lia
  |some u=>
   have h1:=Ij (f:=fun rs=>1+Gr rs) v h.lm.nd e;have h2:=(MW (ho u e).1 (h.lm.NC _ (get_mem e)).1.le hv.le).2 (ho u e).2;lia
 refine⟨⟨⟨Sl v h.lm.nd,fun e he=>?_,?_,fun x hx=>?_,?_⟩,fun r' u ne e=>?_,?_,fun x hx=>?_⟩,lt⟩
 ·rcases OL he with he |rfl
  ·exact h.lm.NC e he
  ·exact⟨hv,hk⟩
 ·obtain⟨u,h1,h2⟩:=h.lm.first;obtain⟨u',h3,h4⟩:=g _ _ h1;exact⟨u',h3,h2.trans h4⟩
 ·rcases zaj.mp hx with hx |hx
  ·obtain⟨u,hu⟩:=h.lm.wait x hx;obtain⟨u',h3,_⟩:=g _ _ hu;exact⟨u',h3⟩
  ·rw[zad.mp hx,tH,if_pos rfl];exact⟨v,rfl⟩
 ·have:=h.lm.many;rw[zaf,zav];lia
 ·rw[tH] at e;by_cases z:r'=q.1
  ·exact .inl (zaj.mpr (.inr (by rw[z];simp)))
  ·rw[if_neg z] at e;exact(h.Sm r' u ne e).imp (fun x=>zaj.mpr (.inl x)) fun c=>c.grow g
 ·by_cases z:r=q.1
  ·exact .inl (zaj.mpr (.inr (by rw[z];simp)))
  ·rw[tH,if_neg z];exact h.own.imp (fun x=>zaj.mpr (.inl x)) fun x=>x
 ·rcases zaj.mp hx with hx |hx
  ·obtain⟨u,h1,h2⟩:=h.cov x hx;obtain⟨u',h3,h4⟩:=g _ _ h1;exact⟨u',h3,h2.trans h4⟩
  ·rw[zad.mp hx,tH,if_pos rfl];exact⟨v,rfl,hq⟩
theorem LJ.skip{pr:Prog}{r:Int}{rs:List Rg}{done m:List (Int×List Rg)}{w:List Int}(h:LJ pr r rs done m w){q:Int×List Rg}{u:List Rg}(e:cB m q.1=some u)(s:Sub q.2 u):LJ pr r rs (done++[q]) m w:=
 ⟨h.lm,h.Sm,h.own,fun x hx=>by
  rcases zaj.mp hx with hx |hx
  ·exact h.cov x hx
  ·rw[zad.mp hx];exact⟨u,e,s⟩⟩
theorem kn{bs:List ik}(sz:∀b∈bs,2<=b.size/\b.size<=10/\0<=b.first/\b.first<b.size):Ju bs (one (bs.map (·.first))):=by
 refine⟨⟨by unfold one;rw[zai,zai],fun i r b e1 e2=>?_⟩,fun r hr=>?_⟩
 ·unfold one at e1;rw[zaz,zaz,e2] at e1;cases e1;have:=sz b (zal e2);unfold To;simp only;lia
 ·unfold one at hr;obtain⟨v,_,rfl⟩:=zaK.mp hr;exact zbO _
theorem LI.one{pr:Prog}(sz:∀b∈pr.bF,2<=b.size/\b.size<=10/\0<=b.first/\b.first<b.size)(hk:YB pr (cR pr.body 0)):LI pr [(cR pr.body 0,L2.one (pr.bF.map (·.first)))] [cR pr.body 0]:=
 ⟨⟨by simp,fun e he=>by rw[zad.mp he];exact⟨kn sz,hk⟩,⟨_,dD rfl,Sub.refl _⟩,fun r hr=>⟨_,dD (zad.mp hr).symm⟩,by simp[pd]⟩,fun r u e=>by
  by_cases z:cR pr.body 0=r
  ·exact .inl (by rw[z];simp)
  ·rw[dZ z] at e;cases e⟩
theorem LM.C6{pr:Prog}{m:List (Int×List Rg)}{w:List Int}(h:LM pr m w)(C6:pr.bF.length<=4)(sz:∀b∈pr.bF,2<=b.size/\b.size<=10/\0<=b.first/\b.first<b.size):m.length<=(bj pr.body).length+1/\pd (fun rs=>1+Gr rs) m<=((bj pr.body).length+1)*37:=by
 have l:m.length<=(bj pr.body).length+1:=by
  have:=qr (m.map (·.1)) (0::(bj pr.body).map (·.row)) h.nd fun x hx=>by
   obtain⟨e,he,rfl⟩:=zaK.mp hx;rcases(h.NC e he).2 with z |⟨s,hs,e2⟩
   ·rw[z];simp
   ·exact zam _ (zaK.mpr ⟨s,hs,e2⟩)
  simpa using this
 refine⟨l,zaA (MV (B:=37) fun e he=>?_) (zdy _ l)⟩;have hr:=(h.NC e he).1;have:=MX (B:=9) (rs:=e.2) fun r yC=>by
  obtain⟨i,hi⟩:=List.getElem?_of_mem yC;have iR:i<pr.bF.length:=by have:=(zao.mp hi).1;rw[hr.bd.1] at this;exact this
  have h1:=hr.bd.2 i r _ hi (zac iR);have h2:=sz _ (zaI iR);unfold To at h1;lia
 have l2:e.2.length=pr.bF.length:=hr.bd.1;have:e.2.length*9<=4*9:=zdy _ (by lia);lia
end L2
namespace L2
open PySem PySem.W PyProof.Rows
section
variable{key:Nat->Int}{n:Nat}
def kk (key:Nat->Int) (p:Array Nat) (i:Nat):Int:=key (p.getD i 0)
def Pm (n:Nat) (p:Array Nat):Prop:=p.toList.Perm (zaE n)
theorem Pm.size{p:Array Nat}(h:Pm n p):p.size=n:=by have:=List.Perm.length_eq h;simpa using this
theorem Pm.lt{p:Array Nat}(h:Pm n p){i:Nat}(hi:i<n):p.getD i 0<n:=by
 have hs:=h.size;have e:p.getD i 0=p[i]'(by lia):=by simp[Array.getD,show i<p.size by lia]
 rw[e];have:p[i]'(by lia)∈zaE n:=(List.Perm.mem_iff h).mp (by simp);exact zbh.mp this
theorem Pm.un{p:Array Nat}(h:Pm n p){i j:Nat}(hi:i<n)(hj:j<n)(e:i≠j):p.getD i 0≠p.getD j 0:=fun z=>e (by
 have hs:=h.size;have e1:p.getD i 0=p.toList[i]'(by simp;lia):=by simp[Array.getD,show i<p.size by lia]
 have e2:p.getD j 0=p.toList[j]'(by simp;lia):=by simp[Array.getD,show j<p.size by lia]
 rw[e1,e2] at z;have nd:p.toList.Nodup:=(List.Perm.nodup_iff h).mpr List.nodup_range;exact(zbX nd).mp z)
theorem Pm.ne{p:Array Nat}(h:Pm n p)(inj:∀i j,i<n->j<n->key i=key j->i=j){i j:Nat}(hi:i<n)(hj:j<n)(e:kk key p i=kk key p j):i=j:=by
 have:=inj _ _ (h.lt hi) (h.lt hj) e;exact Classical.byContradiction fun z=>h.un hi hj z this
end
section
variable{prog:zd6}{w:zdW}{A:zd5}{E:zdV->zd4->Prop}{s:zd4}
structure Sn(h:Heap)(vs:List zdV)(ks:List Int):Prop where
 len:vs.length=ks.length
 nd:ks.Nodup
 at_:∀(i:Nat) (k:Int),ks[i]?=some k->∃p t x,vs[i]?=some (.ref p)/\h.get? p=some ({cls:=.type "tuple",data:=.seq #[.int k t,x]}:Obj)
theorem Sn.mono{h h':Heap}{vs:List zdV}{ks:List Int}(T:Sn h vs ks){a:zdU}{o:Obj}(ha:h.get? a=some (seqObj "list" vs.toArray n))(k:∀b o,b≠a->h.get? b=some o->h'.get? b=some o):Sn h' vs ks:=⟨T.len,T.nd,fun i x e=>by
 obtain⟨p,t,y,e1,e2⟩:=T.at_ i x e;exact⟨p,t,y,e1,k p _ (fun z=>by
  subst z;rw[ha] at e2;have:=congrArg Obj.cls (zaF.inj e2);simp[seqObj] at this) e2⟩⟩
end
def RmR (K:zaa) (H:Hp) (a:Int×V) (b:Int×List PG.Rg):Prop:=a.1=b.1/\oq K H a.2 b.2
def RelM (K:zaa) (H:Hp) (aV:List (Int×V)) (m:List (Int×List PG.Rg)):Prop:=Paired (RmR K H) aV m
theorem RelM.mono{K:zaa}{H H':Hp}{aV:List (Int×V)}{m:List (Int×List PG.Rg)}(h:RelM K H aV m)(f:∀v rs,oq K H v rs->oq K H' v rs):RelM K H' aV m:=by
 unfold RelM at h ⊢
 induction h with
 |nil=>exact .nil
 |cons a _ ih=>exact .cons ⟨a.1,f _ _ a.2⟩ ih
theorem oq.tup{K:zaa}{H:Hp}{v:V}{rs:List PG.Rg}(h:oq K H v rs):∃a us,v=.ref a/\cv K H a us/\us.length=rs.length:=by obtain⟨a,us,e,q,r⟩:=h;exact⟨a,us,e,q,r.1⟩
theorem ON{X:Cx}{K:zaa}(e:X.K=K)(n:Nat){es:List Expr}{k:Nat}{pos:Pos}{t:Nz}(hc:X.calm=true)(h:S9 X es t)
 (hn:(assignEach es X.env).length=n:=by rfl) (BB:(assignEach es X.env).findIdx? (·.1)=none:=by rfl):PG X (.Tuple es k pos) (NP K n t):=e▸Fw hc h hn BB
open PySem.Spec
def VC:W:=[97,108,108]
inductive Qf(H:Hp)(Z:List zdU)(k:Option Bool)(e:zdU):Prop
 |mk (kd:W) (b:zdU) (rest:List V):H e=some (.lst (sv kd :: .ref b::rest))->b∈Z->e ∉ Z->(k=some true↔kd=PM.jV)->(kd=PM.jV->∃o,rest=[.ref o]/\o∈Z)->Qf H Z k e
structure Et(H:Hp)(O:zdU)(Z:List zdU)(yG:List (zdU×Option Bool))(iy:List Bool)(m:Nat):Prop where
 yO:H O=some (.lst (yG.map fun p=>V.ref p.1))
 ek:yG.map (·.2)=none::iy.map some
 en:∀p∈yG,Qf H Z p.2 p.1
 zz:∀z∈Z,∃xs,H z=some (.lst xs)/\xs.length<=m
 nO:O ∉ Z
theorem Qf.keep{H H':Hp}{Z Z':List zdU}{k:Option Bool}{e:zdU}(h:Qf H Z k e)(hk:H' e=H e)(sub:∀z∈Z,z∈Z')(ne:e ∉ Z'):Qf H' Z' k e:=by
 obtain⟨kd,b,rest,y,hb,_,h1,h2⟩:=h;exact .mk kd b rest (by rw[hk];exact y) (sub b hb) ne h1 fun z=>by obtain⟨o,e1,e2⟩:=h2 z;exact⟨o,e1,sub o e2⟩
theorem Qf.no{H:Hp}{Z:List zdU}{k:Option Bool}{e:zdU}(h:Qf H Z k e):e ∉ Z/\∃xs,H e=some (.lst xs):=by
 obtain⟨kd,b,rest,y,_,n,_,_⟩:=h;exact⟨n,_,y⟩
section
variable{H H':Hp}{O:zdU}{Z:List zdU}{yG:List (zdU×Option Bool)}{iy:List Bool}{m:Nat}
theorem Et.same(h:Et H O Z yG iy m)(s:ar H H'):Et H' O Z yG iy m:=
 ⟨s _ _ h.yO,h.ek,fun p hp=>by
  obtain⟨n,xs,y⟩:=(h.en p hp).no;exact(h.en p hp).keep (by rw[y,s _ _ y]) (fun _ z=>z) n,fun z hz=>by obtain⟨xs,y,l⟩:=h.zz z hz;exact⟨xs,s _ _ y,l⟩,h.nO⟩
theorem Et.VD(h:Et H O Z yG iy m){p:zdU×Option Bool}(hp:p∈yG):p.1≠O:=fun z=>by
 obtain⟨kd,b,rest,y,_⟩:=h.en p hp;rw[z,h.yO] at y;cases yG with
 |nil=>cases hp
 |cons q r=>cases y
theorem Et.put(h:Et H O Z yG iy m){b:zdU}(hb:b∈Z){xs:List V}(y:H b=some (.lst xs))(v:V):Et (upd H b (.lst (xs++[v]))) O Z yG iy (m+1):=
 ⟨by rw[aq (show O≠b from fun z=>h.nO (z▸hb))];exact h.yO,h.ek,fun p hp=>(h.en p hp).keep (aq fun z=>(h.en p hp).no.1 (z▸hb)) (fun _ z=>z) (h.en p hp).no.1,fun z hz=>by
  by_cases e:z=b
  ·obtain⟨ys,y2,l⟩:=h.zz b hb;rw[y] at y2;cases y2;exact⟨_,by rw[e,aj],by rw[zaf,zav];lia⟩
  ·obtain⟨ys,y2,l⟩:=h.zz z hz;exact⟨ys,by rw[aq e];exact y2,by lia⟩,h.nO⟩
theorem Et.ne(h:Et H O Z yG iy m):yG≠[]:=fun z=>by
 have:=h.ek;rw[z] at this;cases this
theorem Et.len(h:Et H O Z yG iy m):yG.length=iy.length+1:=by
 have:=congrArg zbG h.ek;rw[zai,zah,zai] at this;exact this
theorem Et.last(h:Et H O Z yG iy m):∃VE e k,yG=VE++[(e,k)]/\Qf H Z k e/\(k=some true↔iy.getLast?=some true):=by
 obtain⟨VE,⟨e,k⟩,hp⟩:∃VE x,yG=VE++[x]:=by
  cases hg:yG.getLast? with
  |none=>exact absurd (zbl.mp hg) h.ne
  |some u=>obtain⟨ys,e⟩:=zbF.mp hg;exact⟨ys,u,e⟩
 refine⟨VE,e,k,hp,h.en (e,k) (by rw[hp];simp),?_⟩;have h2:=congrArg List.getLast? h.ek;rw[hp,zaw,List.map_singleton,zcc] at h2;cases hk:iy.reverse with
 |nil=>
  have:iy=[]:=List.reverse_eq_nil_iff.mp hk;subst this;simp at h2;subst h2;simp
 |cons x r=>
  have e1:iy=r.reverse++[x]:=by rw[<- zdv iy,hk,zb7]
  rw[e1,zaw,List.map_singleton,<- zaQ,zcc] at h2;rw[show k=some x from zaF.inj h2,e1,zcc]
theorem Et.push(h:Et H O Z yG iy m){e b:zdU}{kd:W}{rest:List V}{k:Bool}{Z':List zdU}(sub:∀z∈Z,z∈Z')(new:∀z∈Z',z∈Z\/(H z=some (.lst [])/\z≠O/\∀p∈yG,p.1≠z))(ye:H e=some (.lst (sv kd :: .ref b::rest)))(hb:b∈Z')(ne:e ∉ Z')(nO:e≠O)(hk:k=true↔kd=PM.jV)(ho:kd=PM.jV->∃o,rest=[.ref o]/\o∈Z') :
 Et (upd H O (.lst ((yG++[(e,some k)]).map fun p=>V.ref p.1))) O Z' (yG++[(e,some k)]) (iy++[k]) m:=by
 refine⟨aj,?_,fun p hp=>?_,fun z hz=>?_,fun z=>?_⟩
 ·rw[zaw,h.ek,zaw];rfl
 ·rcases zaj.mp hp with z |z
  ·refine(h.en p z).keep (aq (h.VD z)) sub fun q=>?_;rcases new _ q with w |⟨_,_,w⟩
   ·exact(h.en p z).no.1 w
   ·exact w p z rfl
  ·rw[zad.mp z];exact .mk kd b rest (by rw[aq nO];exact ye) hb ne (by simp[hk]) ho
 ·rcases new z hz with w |⟨w,nz,_⟩
  ·obtain⟨xs,y,l⟩:=h.zz z w;exact⟨xs,by rw[aq (show z≠O from fun q=>h.nO (q▸w))];exact y,l⟩
  ·exact⟨[],by rw[aq nz];exact w,zaJ _⟩
 ·rcases new O z with w |⟨_,w,_⟩
  ·exact h.nO w
  ·exact w rfl
end
theorem B5{K:zaa}{H:Hp}{bs:List (W×Int×Int)}{us:List V}(h:aG K H (bs.map xg) us){i:Nat}{x:V}(hx:us[i]?=some x):∃b a,bs[i]?=some b/\x=.ref a/\cv K H a [sv b.1,.int b.2.1,.int b.2.2]:=by
 induction bs generalizing us i with
 |nil=>
  rw[zbC,aG.aS] at h;subst h;cases hx
 |cons b bs ih=>
  rw[zar,aG.aM] at h;obtain⟨v,vs,rfl,h1,h2⟩:=h;cases i with
  |zero=>
   cases hx;unfold xg at h1;simp only[Rep.aZ,aG.aM,aG.aS,Rep.aK,Rep.bO] at h1;obtain⟨a,xs,rfl,hS,_,_,rfl,rfl,_,_,rfl,rfl,_,_,rfl,rfl,rfl⟩:=h1;exact⟨b,a,rfl,rfl,hS⟩
  |succ i=>exact ih h2 hx
theorem mK{K:zaa}{H:Hp}{ds:List Dp}{us:List V}(h:aG K H ds us):us.length=ds.length:=by
 induction ds generalizing us with
 |nil=>rw[aG.aS] at h;subst h;rfl
 |cons d ds ih=>
  rw[aG.aM] at h;obtain⟨v,vs,rfl,h1,h2⟩:=h;rw[zah,zah,ih h2]
theorem Qg{i:Int}(h1:0<=i)(h2:i<1000):i.natAbs.log2<1920:=by
 by_cases h0:i.natAbs=0
 ·rw[h0];decide
 ·exact zdP ((zdT h0).mpr (show i.natAbs<2 ^ 64 by lia)) (by decide)
end L2
namespace PM
inductive Sa where
 |ask (k:Int) (n:W) |put (k:Int) (n:W) (e:Tr) |say (k:Int) (e:Tr) |eI (k:Int) (sg:W) (l r:Tr) |stop (k:Int)
 |ifs (k:Int) (sg:W) (l r:Tr) (b c:Nat) |iU (k:Int) (sg:W) (l r:Tr) (b:Nat)
def gw:Sa->List Nat
 |.ifs _ _ _ _ b c=>[b,c]
 |.iU _ _ _ _ b=>[b]
 |_=>[]
structure Dc where
 nB:List (W×Int×Int)
 aJ:List (List Sa)
 bP:List (Nat×Option Nat)
def Dc.df (c:Dc):Df:=⟨c.nB.map (·.1),decide (c.aJ.headD []≠[]),c.bP.map (·.2.isSome)⟩
def Dc.top (c:Dc):Nat:=match c.bP.getLast? with
 |some p=>p.1
 |none=>0
def gx (aJ:List (List Sa)) (i:Nat) (s:Sa):List (List Sa):=aJ.set i (aJ.getD i []++[s])
def sH (k:Int) (n:Nat):Fm->Sa
 |.ask x=>.ask k x
 |.put x e=>.put k x e
 |.say e=>.say k e
 |.cond w sg l r=>if w=jV then .ifs k sg l r n (n+1) else if w=bK then .iU k sg l r n else .eI k sg l r
 |_=>.stop k
def uX:Option Bool->Nat
 |some true=>2
 |some false=>1
 |none=>0
def Qh (n:Nat):Option Bool->List (Nat×Option Nat)
 |some true=>[(n,some (n+1))]
 |some false=>[(n,none)]
 |none=>[]
def kq (c:Dc) (k:Int) (f:Fm):Dc:=
 {c with aJ:=gx c.aJ c.top (sH k c.aJ.length f)++zap (uX (opens f)) [],bP:=c.bP++Qh c.aJ.length (opens f)}
def Qi:Option (Nat×Option Nat)->List (Nat×Option Nat)
 |some (_,some x)=>[(x,none)]
 |_=>[]
def dE (c:Dc) (k:Int):Fm->Dc
 |.box n a b=>{c with nB:=c.nB++[(n,a,b)]}
 |.one w=>if w=cf then {c with bP:=c.bP.dropLast++Qi c.bP.getLast? }
  else if w=cA then {c with bP:=c.bP.dropLast} else kq c k (.one w)
 |f=>kq c k f
def dq:Dc->Int->List W->Dc
 |c,_,[]=>c
 |c,k,r::rs=>match fI (L2.aU 32 r) with
  |none=>c
  |some f=>dq (dE c k f) (k+1) rs
structure JH(aJ:List (List Sa)):Prop where
 ne:0<aJ.length
 up:∀(i:Nat) (ss:List Sa),aJ[i]?=some ss->∀b∈ss.flatMap gw,i<b/\b<aJ.length
 uq:∀(i:Nat) (ss:List Sa),aJ[i]?=some ss->(ss.flatMap gw).Nodup
 dj:∀(i j:Nat) (ss tt:List Sa) (x:Nat),aJ[i]?=some ss->aJ[j]?=some tt->x∈ss.flatMap gw->x∈tt.flatMap gw->i=j
structure Dc.Ok(c:Dc):Prop where
 ft:JH c.aJ
 pl:∀p∈c.bP,p.1<c.aJ.length/\∀x,p.2=some x->x<c.aJ.length
 nb:c.bP≠[]->c.aJ.headD []≠[]
theorem fJ(aJ:List (List Sa))(i:Nat)(s:Sa):(gx aJ i s).length=aJ.length:=by unfold gx;rw[zbA]
theorem Dc.Ok.top{c:Dc}(h:c.Ok):c.top<c.aJ.length:=by
 unfold Dc.top;cases e:c.bP.getLast? with
 |none=>exact h.ft.ne
 |some p=>exact(h.pl p (zcD e)).1
theorem JH.add{aJ:List (List Sa)}(h:JH aJ){i:Nat}(hi:i<aJ.length){s:Sa}{m:Nat}(hs:gw s=(zaE m).map (aJ.length + ·)):JH (gx aJ i s++zap m []):=by
 have new:∀b∈gw s,aJ.length<=b/\b<aJ.length+m:=fun b hb=>by
  rw[hs] at hb;obtain⟨j,hj,rfl⟩:=zaK.mp hb;have:=zbh.mp hj;lia
 have nds:(gw s).Nodup:=by
  rw[hs];refine List.Pairwise.map _ (fun a b (e:a≠b)=>?_) List.nodup_range;show aJ.length+a≠aJ.length+b;lia
 have ge:∀(j:Nat) (ss:List Sa),(gx aJ i s++zap m [])[j]?=some ss->(j=i/\ss=aJ[i]++[s])\/(j≠i/\aJ[j]?=some ss)\/ss=[]:=by
  intro j ss e;by_cases hj:j<aJ.length
  ·rw[zau (by rw[fJ];exact hj)] at e;unfold gx at e;by_cases So:j=i
   ·subst So;rw[zbj hj] at e;refine .inl ⟨rfl,?_⟩;rw[<- zaF.inj e,zae,zac hj];rfl
   ·rw[zbm (Ne.symm So)] at e;exact .inr (.inl ⟨So,e⟩)
  ·rw[zat (by rw[fJ];lia)] at e;have:=zal e;exact .inr (.inr (zbQ.mp this).2)
 have old:aJ[i]?=some aJ[i]:=zac hi;have len:(gx aJ i s++zap m []).length=aJ.length+m:=by rw[zaf,fJ,za4]
 have fm:(aJ[i]++[s]).flatMap gw=aJ[i].flatMap gw++gw s:=by rw[zbM];simp
 refine⟨by rw[len];have:=h.ne;lia,fun j ss e b hb=>?_,fun j ss e=>?_,fun j k ss tt x e1 e2 x1 x2=>?_⟩
 ·rw[len];rcases ge j ss e with ⟨rfl,rfl⟩ |⟨_,e⟩ |rfl
  ·rw[fm] at hb;rcases zaj.mp hb with hb |hb
   ·have:=h.up j _ old b hb;lia
   ·have:=new b hb;lia
  ·have:=h.up j ss e b hb;lia
  ·cases hb
 ·rcases ge j ss e with ⟨rfl,rfl⟩ |⟨_,e⟩ |rfl
  ·rw[fm];refine zby.mpr ⟨h.uq j _ old,nds,fun a ha b hb e=>?_⟩;have:=h.up j _ old a ha;have:=new b hb;lia
  ·exact h.uq j ss e
  ·exact zcl
 ·rcases ge j ss e1 with ⟨rfl,rfl⟩ |⟨n1,YC⟩ |rfl
  ·rcases ge k tt e2 with ⟨rfl,rfl⟩ |⟨n2,e2⟩ |rfl
   ·rfl
   ·rw[fm] at x1;rcases zaj.mp x1 with x1 |x1
    ·exact h.dj j k _ tt x old e2 x1 x2
    ·have:=new x x1;have:=h.up k tt e2 x x2;lia
   ·cases x2
  ·rcases ge k tt e2 with ⟨rfl,rfl⟩ |⟨n2,e2⟩ |rfl
   ·rw[fm] at x2;rcases zaj.mp x2 with x2 |x2
    ·exact h.dj j k ss _ x YC old x1 x2
    ·have:=new x x2;have:=h.up j ss YC x x1;lia
   ·exact h.dj j k ss tt x YC e2 x1 x2
   ·cases x2
  ·cases x1
theorem B6{f:Fm}(h:BW f)(k:Int)(n:Nat):gw (sH k n f)=(zaE (uX (opens f))).map (n + ·):=by
 cases f with
 |box a b c=>exact h.elim
 |ask x=>rfl
 |put x e=>rfl
 |say e=>rfl
 |one w=>rfl
 |cond w sg l r=>
  have hk:w=gu\/w=jV\/w=bK:=h.1;rcases hk with rfl |rfl |rfl<;>rfl
theorem uY{α:Type}(l:List (List α)):l.headD []=l.getD 0 []:=by cases l<;>rfl
theorem Eu{aJ:List (List Sa)}{i:Nat}(hi:i<aJ.length)(s:Sa)(t:List (List Sa))(j:Nat)(hj:j<aJ.length):(gx aJ i s++t).getD j []=if j=i then aJ.getD i []++[s] else aJ.getD j []:=by
 rw[zae,zau (by rw[fJ];exact hj)];unfold gx;split
 ·rename_i e;subst e;rw[zbj hj];rfl
 ·rename_i e;rw[zbm (Ne.symm e),zae]
theorem pe{c:Dc}{k:Int}{f:Fm}{d':Df}(h:c.Ok)(fs:BW f)(ht:jN c.df f=.ok d'):(kq c k f).Ok/\(kq c k f).df=d':=by
 have ft:=h.ft.add h.top (B6 fs k c.aJ.length);have len:(gx c.aJ c.top (sH k c.aJ.length f)++zap (uX (opens f)) []).length=c.aJ.length+uX (opens f):=by rw[zaf,fJ,za4]
 have hd:(kq c k f).aJ.headD []≠[]:=by
  rw[uY];show (gx c.aJ c.top (sH k c.aJ.length f)++zap (uX (opens f)) []).getD 0 []≠[];rw[Eu h.top _ _ 0 h.ft.ne];split
  ·simp
  ·rename_i e;rw[<- uY];refine h.nb fun z=>e ?_;show 0=c.top;unfold Dc.top;rw[z];rfl
 have e':d'={c.df with Qd:=true,iy:=c.df.iy++(opens f).toList}:=by
  unfold jN at ht;split at ht
  ·cases ht
  split at ht
  ·exact(Except.ok.inj ht).symm
  ·cases ht
 refine⟨⟨ft,fun p hp=>?_,fun _=>hd⟩,?_⟩
 ·show p.1<(gx c.aJ c.top (sH k c.aJ.length f)++zap (uX (opens f)) []).length/\∀x,p.2=some x->x<(gx c.aJ c.top (sH k c.aJ.length f)++zap (uX (opens f)) []).length;rw[len];rcases zaj.mp hp with hp |hp
  ·have:=h.pl p hp;exact⟨by lia,fun x hx=>by have:=this.2 x hx;lia⟩
  ·cases ho:opens f with
   |none=>rw[ho] at hp;cases hp
   |some b=>
    rw[ho] at hp;cases b with
    |true=>
     rw[zad.mp hp];exact⟨by show c.aJ.length<c.aJ.length+2;lia,fun x hx=>by cases hx;show c.aJ.length+1<c.aJ.length+2;lia⟩
    |false=>
     rw[zad.mp hp];exact⟨by show c.aJ.length<c.aJ.length+1;lia,fun x hx=>by cases hx⟩
 ·rw[e'];show (⟨c.nB.map (·.1),decide ((kq c k f).aJ.headD []≠[]),(c.bP++Qh c.aJ.length (opens f)).map (·.2.isSome)⟩:Df)=_;have e1:decide ((kq c k f).aJ.headD []≠[])=true:=decide_eq_true hd;have e2:(Qh c.aJ.length (opens f)).map (·.2.isSome)=(opens f).toList:=by
   cases opens f with
   |none=>rfl
   |some b=>cases b<;>rfl
  rw[e1,zaw,e2];rfl
theorem nC{c:Dc}{k:Int}{f:Fm}{d':Df}(h:c.Ok)(fa:Qc f)(ht:gB c.df f=.ok d'):(dE c k f).Ok/\(dE c k f).df=d':=by
 cases f with
 |box n a b=>
  have wB:Gk c.df n a b=.ok d':=ht;unfold Gk at wB;split at wB
  ·cases wB
  split at wB
  ·cases wB
  split at wB
  ·cases wB
  split at wB
  ·cases wB
  cases wB;refine⟨⟨h.ft,h.pl,h.nb⟩,?_⟩;show (⟨(c.nB++[(n,a,b)]).map (·.1),_,_⟩:Df)=_;rw[zaw];rfl
 |ask x=>exact pe h fa ht
 |put x e=>exact pe h fa ht
 |say e=>exact pe h fa ht
 |cond w sg l r=>exact pe h fa ht
 |one w=>
  have hw:w=cf\/w=cA\/w=b5:=fa;have wB:(if w=cf then mH c.df else if w=cA then uT c.df else jN c.df (.one w))=.ok d':=ht;have et:dE c k (.one w)=if w=cf then {c with bP:=c.bP.dropLast++Qi c.bP.getLast? } else if w=cA then {c with bP:=c.bP.dropLast} else kq c k (.one w):=rfl
  rw[et];by_cases h1:w=cf
  ·rw[if_pos h1] at wB ⊢;unfold mH at wB;split at wB
   ·rename_i hl;cases wB;have Sq:(c.bP.map (·.2.isSome)).getLast?=some true:=hl;rw[zc1] at Sq;obtain⟨⟨b,o⟩,e1,e2⟩:=zaP.mp Sq;cases o with
    |none=>cases e2
    |some x=>
     rw[e1];have hp:=h.pl _ (zcD e1);refine⟨⟨h.ft,fun p PB=>?_,fun _=>h.nb (fun z=>by rw[z] at e1;cases e1)⟩,?_⟩
     ·rcases zaj.mp PB with q |q
      ·exact h.pl p (zbn _ q)
      ·rw[zad.mp q];exact⟨hp.2 x rfl,fun y hy=>by cases hy⟩
     ·show (⟨_,_,(c.bP.dropLast++[(x,none)]).map (fun p:Nat×Option Nat=>p.2.isSome)⟩:Df)=⟨_,_,(c.bP.map (fun p:Nat×Option Nat=>p.2.isSome)).dropLast++[false]⟩;rw[zaw,List.map_dropLast];rfl
   ·cases wB
  ·rw[if_neg h1] at wB ⊢;by_cases h2:w=cA
   ·rw[if_pos h2] at wB ⊢;unfold uT at wB;split at wB
    ·cases wB
    ·cases wB;refine⟨⟨h.ft,fun p hp=>h.pl p (zbn _ hp),fun z=>h.nb fun q=>z (by show c.bP.dropLast=[];rw[q];rfl)⟩,?_⟩;show (⟨_,_,c.bP.dropLast.map (·.2.isSome)⟩:Df)=⟨_,_,(c.bP.map (·.2.isSome)).dropLast⟩;rw[List.map_dropLast];rfl
   ·rw[if_neg h2] at wB ⊢;exact pe h (show w=b5 from hw.resolve_left h1 |>.resolve_left h2) wB
def reach (aJ:List (List Sa)):Nat->Nat->List Nat
 |0,i=>[i]
 |n+1,i=>i::((aJ.getD i []).flatMap gw).flatMap (reach aJ n)
theorem getD_some{aJ:List (List Sa)}{i x:Nat}(h:x∈(aJ.getD i []).flatMap gw):∃ss,aJ[i]?=some ss/\x∈ss.flatMap gw:=by
 rw[zae] at h;cases e:aJ[i]? with
 |none=>rw[e] at h;cases h
 |some ss=>rw[e] at h;exact⟨ss,rfl,h⟩
theorem tI{aJ:List (List Sa)}(h:JH aJ):∀(n i x:Nat),x∈reach aJ n i->i<=x
 |0,i,x,hx=>by rw[zad.mp hx];exact zag _
 |n+1,i,x,hx=>by
  rcases zak.mp hx with rfl |hx
  ·exact zag _
  ·obtain⟨b,hb,hx⟩:=zbb.mp hx;obtain⟨ss,e,hb⟩:=getD_some hb;have:=(h.up i ss e b hb).1;have:=tI h n b x hx;lia
theorem qv{aJ:List (List Sa)}(h:JH aJ):∀(n i x:Nat),x∈reach aJ n i->x=i\/∃p ss,p∈reach aJ n i/\aJ[p]?=some ss/\x∈ss.flatMap gw
 |0,i,x,hx=>.inl (zad.mp hx)
 |n+1,i,x,hx=>by
  rcases zak.mp hx with rfl |hx
  ·exact .inl rfl
  ·obtain⟨b,hb,hx⟩:=zbb.mp hx;rcases qv h n b x hx with rfl |⟨p,ss,hp,e,hs⟩
   ·obtain⟨ss,e,Ib⟩:=getD_some hb;exact .inr ⟨i,ss,zaq,e,Ib⟩
   ·exact .inr ⟨p,ss,zam _ (zbb.mpr ⟨b,hb,hp⟩),e,hs⟩
theorem Ew{aJ:List (List Sa)}(h:JH aJ){n i a b:Nat}{ss:List Sa}(e:aJ[i]?=some ss)(ha:a∈ss.flatMap gw)(hb:b∈ss.flatMap gw)(ne:a≠b):∀x,x∈reach aJ n a->x∈reach aJ n b->False:=by
 have ia:=(h.up i ss e a ha).1;have ib:=(h.up i ss e b hb).1;intro x
 induction x using Nat.strongRecOn with
 |ind x ih=>
  intro xa xb;rcases qv h n a x xa with rfl |⟨p,sp,hp,ep,VF⟩
  ·rcases qv h n b x xb with z |⟨p,sp,hp,ep,VF⟩
   ·exact ne z
   ·have:=h.dj p i sp ss x ep e VF ha;have:=tI h n b p hp;lia
  ·rcases qv h n b x xb with rfl |⟨p2,sp2,Gs,ep2,YD⟩
   ·have:=h.dj p i sp ss x ep e VF hb;have:=tI h n a p hp;lia
   ·have e1:=h.dj p p2 sp sp2 x ep ep2 VF YD;subst e1;exact ih p (h.up p sp ep x VF).1 hp Gs
theorem ph{aJ:List (List Sa)}(h:JH aJ):∀(n i:Nat),(reach aJ n i).Nodup
 |0,i=>by simp[reach]
 |n+1,i=>by
  rw[reach,zbd];refine⟨fun hx=>?_,?_⟩
  ·obtain⟨b,hb,hx⟩:=zbb.mp hx;obtain⟨ss,e,hb⟩:=getD_some hb;have:=(h.up i ss e b hb).1;have:=tI h n b i hx;lia
  ·show List.Pairwise (·≠·) _;rw[List.pairwise_flatMap];refine⟨fun b _=>ph h n b,?_⟩;cases e:aJ[i]? with
   |none=>rw[zae,e];exact .nil
   |some ss=>
    rw[zae,e];refine List.Pairwise.imp_of_mem ?_ (show List.Pairwise (·≠·) ((some ss).getD []|>.flatMap gw) from h.uq i ss e);intro a b ha hb ne x hx y hy z;subst z;exact Ew h e ha hb ne x hx hy
end PM
namespace L2
open PySem PySem.Spec PyProof.Rows
def JI:PM.Sa->PG.cw
 |.ask k n=>.ask k n
 |.put k n e=>.put k n e
 |.say k e=>.say k e
 |.eI k sg l r=>.eI k sg l r
 |.stop k=>.stop k
 |.ifs k sg l r _ _=>.ifs k sg l r [] []
 |.iU k sg l r _=>.iU k sg l r []
def JJ (f:Nat->List PG.cw):PM.Sa->PG.cw
 |.ask k n=>.ask k n
 |.put k n e=>.put k n e
 |.say k e=>.say k e
 |.eI k sg l r=>.eI k sg l r
 |.stop k=>.stop k
 |.ifs k sg l r b c=>.ifs k sg l r (f b) (f c)
 |.iU k sg l r b=>.iU k sg l r (f b)
def MY (aJ:List (List PM.Sa)):Nat->Nat->List PG.cw
 |0,_=>[]
 |n+1,i=>(aJ.getD i []).map (JJ (MY aJ n))
theorem Qj(f:Nat->List PG.cw)(s:PM.Sa):C9 (JJ f s)=C9 (JI s)/\xY (JJ f s)=(PM.gw s).map f:=by cases s<;>exact⟨rfl,rfl⟩
def ou (K:zaa) (H:Hp) (aE:List zdU) (s:PM.Sa) (v:V):Prop:=∃a hs,v=.ref a/\cv K H a (hs++(PM.gw s).map fun b=>V.ref (aE.getD b 0))/\aG K H (C9 (JI s)) hs
structure vS(K:zaa)(H:Hp)(aE:List zdU)(aJ:List (List PM.Sa)):Prop where
 ln:aE.length=aJ.length
 nd:aE.Nodup
 ct:∀(i:Nat) a ss,aE[i]?=some a->aJ[i]?=some ss->∃us,H a=some (.lst us)/\sG (ou K H aE) ss us
section
variable{K:zaa}{H H':Hp}{aE:List zdU}{aJ:List (List PM.Sa)}
theorem ou.same{s:PM.Sa}{v:V}(h:ou K H aE s v)(m:ar H H'):ou K H' aE s v:=by
 obtain⟨a,hs,e,q,r⟩:=h;exact⟨a,hs,e,m.dQ q,r.mono m⟩
theorem ou.put{s:PM.Sa}{v:V}(h:ou K H aE s v){y:zdU}{xs ys:List V}(hy:H y=some (.lst xs)):ou K (upd H y (.lst ys)) aE s v:=by
 obtain⟨a,hs,e,q,r⟩:=h;have hO:∀g,g=y->∃ys,H g=some (.lst ys):=fun g hg=>⟨xs,by rw[hg];exact hy⟩
 have u:bf (·=y) H (upd H y (.lst ys)):=bf.refl.put (O:=(·=y)) rfl _;exact⟨a,hs,e,uN hO u q,iZ hO u _ _ (HS _) r⟩
theorem ou.more{s:PM.Sa}{v:V}(h:ou K H aE s v)(hb:∀b∈PM.gw s,b<aE.length)(new:List zdU):ou K H (aE++new) s v:=by
 obtain⟨a,hs,e,q,r⟩:=h;refine⟨a,hs,e,?_,r⟩;have:(PM.gw s).map (fun b=>V.ref ((aE++new).getD b 0))=(PM.gw s).map fun b=>V.ref (aE.getD b 0):=zcd fun b h=>by
  rw[zae,zae,zau (hb b h)]
 rw[this];exact q
theorem vS.same(h:vS K H aE aJ)(m:ar H H'):vS K H' aE aJ:=
 ⟨h.ln,h.nd,fun i a ss e1 e2=>by obtain⟨us,y,ix⟩:=h.ct i a ss e1 e2;exact⟨us,m _ _ y,ix.imp fun _ _ z=>z.same m⟩⟩
theorem vS.lists(h:vS K H aE aJ){a:zdU}(ha:a∈aE):∃us,H a=some (.lst us):=by
 obtain⟨i,hi,e⟩:=zbt ha;have e1:aE[i]?=some a:=by rw[zac hi,e]
 obtain⟨us,y,_⟩:=h.ct i a _ e1 (zac (by rw[<- h.ln];exact hi));exact⟨us,y⟩
theorem vS.Qk(h:vS K H aE aJ){y:zdU}{xs ys:List V}(hy:H y=some (.lst xs))(ny:y ∉ aE):vS K (upd H y (.lst ys)) aE aJ:=
 ⟨h.ln,h.nd,fun i a ss e1 e2=>by
  obtain⟨us,y1,ix⟩:=h.ct i a ss e1 e2;exact⟨us,by rw[aq (show a≠y from fun z=>ny (z▸zal e1))];exact y1,ix.imp fun _ _ z=>z.put hy⟩⟩
theorem vS.keep{L:zdU}{xs ys:List V}(h:vS K H aE aJ)(nL:L ∉ aE)(yL:H L=some (.lst xs))(kp:∀y u,y≠L->H y=some u->H' y=some u)(yL':H' L=some (.lst ys)):vS K H' aE aJ:=by
 have hO:∀g,g=L->∃ys,H g=some (.lst ys):=fun g hg=>⟨xs,by rw[hg];exact yL⟩
 have u:bf (·=L) H H':=fun b o nb e=>kp b o nb e;exact⟨h.ln,h.nd,fun i a ss e1 e2=>by
  obtain⟨us,y1,ix⟩:=h.ct i a ss e1 e2;refine⟨us,kp _ _ (fun z=>nL (z▸zal e1)) y1,ix.imp fun _ _ z=>?_⟩;obtain⟨a,hs,e,q,r⟩:=z;exact⟨a,hs,e,uN hO u q,iZ hO u _ _ (HS _) r⟩⟩
theorem vS.add(h:vS K H aE aJ)(ft:PM.JH aJ){i:Nat}{a:zdU}{us:List V}{v:V}{s:PM.Sa}{new:List zdU}(hi:aE[i]?=some a)(ya:H a=some (.lst us))(sa:ou K H (aE++new) s v)(hn:∀y∈new,H y=some (.lst []))(dj:∀y∈new,y ∉ aE)(nn:new.Nodup) :
 vS K (upd H a (.lst (us++[v]))) (aE++new) (PM.gx aJ i s++zap new.length []):=by
 have il:i<aJ.length:=by rw[<- h.ln];exact(zao.mp hi).1
 refine⟨by rw[zaf,zaf,PM.fJ,za4,h.ln],zby.mpr ⟨h.nd,nn,fun x hx y hy e=>dj y hy (e▸hx)⟩,fun j b ss e1 e2=>?_⟩;by_cases hj:j<aJ.length
 ·rw[zau (by rw[h.ln];exact hj)] at e1;rw[zau (by rw[PM.fJ];exact hj)] at e2;unfold PM.gx at e2;by_cases So:j=i
  ·subst So;rw[hi] at e1;cases e1;rw[zbj hj,zae,zac hj] at e2;cases e2;obtain⟨Ql,y2,ix⟩:=h.ct j a _ hi (zac hj);rw[ya] at y2;cases y2;refine⟨_,aj,sG.imp (sG.snoc (F:=ou K H (aE++new)) (⟨ix.1,fun k x u h1 h2=>(ix.2 k x u h1 h2).more (fun b hb=>?_) new⟩) sa) fun _ _ z=>z.put ya⟩;have:=(ft.up j _ (zac hj) b (zbb.mpr ⟨x,zal h1,hb⟩)).2;rw[h.ln];exact this
  ·rw[zbm (Ne.symm So)] at e2;obtain⟨Ql,y2,ix⟩:=h.ct j b ss e1 e2;have X8:b≠a:=fun z=>So (by
    have l1:=(zao.mp e1)
    have l2:=(zao.mp hi)
    exact(zbX h.nd).mp (by rw[l1.2,l2.2,z]))
   refine⟨Ql,by rw[aq X8];exact y2,⟨ix.1,fun k x u h1 h2=>((ix.2 k x u h1 h2).more (fun c hc=>?_) new).put ya⟩⟩;have:=(ft.up j _ e2 c (zbb.mpr ⟨x,zal h1,hc⟩)).2;rw[h.ln];exact this
 ·rw[zat (by rw[h.ln];lia)] at e1;rw[zat (by rw[PM.fJ];lia)] at e2;have mb:=zal e1;have es:=(zbQ.mp (zal e2)).2;subst es;exact⟨[],by rw[aq (show b≠a from fun z=>dj b mb (by rw[z];exact zal hi))];exact hn b mb,sG.nil⟩
theorem Ex{α:Type}{F:α->V->Prop}{g:α->Dp}:∀ {l:List α} {us:List V},sG F l us->(∀x∈l,∀u,F x u->Rep K H (g x) u)->aG K H (l.map g) us
 |[],us,h,_=>by
  have:us=[]:=zaX.mp h.1;rw[this];exact .nil
 |x::l,[],h,_=>by have:=h.1;simp at this
 |x::l,u::us,h,f=>.cons (f x zaq u (h.2 0 x u rfl rfl)) (Ex (F:=F) ⟨by have:=h.1;simpa using this,fun i y w h1 h2=>h.2 (i+1) y w h1 h2⟩ fun y hy=>f y (zam _ hy))
theorem Br{f:Nat->Dp}{g:Nat->V}:∀ {l:List Nat},(∀b∈l,Rep K H (f b) (g b))->aG K H (l.map f) (l.map g)
 |[],_=>.nil
 |b::l,h=>.cons (h b zaq) (Br fun c hc=>h c (zam _ hc))
theorem vS.rep(h:vS K H aE aJ)(ft:PM.JH aJ):∀(n i:Nat),i<aJ.length->aJ.length<=i+n->∀a,aE[i]?=some a->Rep K H (.lst ((MY aJ n i).map oU)) (.ref a)
 |0,i,h1,h2,a,e=>absurd h1 (by lia)
 |n+1,i,h1,h2,a,e=>by
  obtain⟨us,y,ix⟩:=h.ct i a _ e (zac h1);refine Rep.iq.mpr ⟨a,us,rfl,.of y,?_⟩;rw[MY,zae,zac h1,zbv];refine Ex ix fun s hs u hu=>?_;obtain⟨c,hh,rfl,q,r⟩:=hu;show Rep K H (oU (JJ (MY aJ n) s)) (.ref c);rw[RQ,(Qj _ s).1,(Qj _ s).2,zbv];refine Rep.aZ.mpr ⟨c,_,rfl,q,r.append (Br fun b hb=>?_)⟩;have hu:=ft.up i _ (zac h1) b (zbb.mpr ⟨s,hs,hb⟩);have hl:b<aE.length:=by rw[h.ln];exact hu.2
  rw[zae,zac hl];exact vS.rep h ft n b hu.2 (by lia) _ (zac hl)
end
def oV (aE:List zdU):Option Nat->V
 |none=>.dh
 |some x=>.ref (aE.getD x 0)
def Tu (K:zaa) (H:Hp) (aE:List zdU) (p:Nat×Option Nat) (u:V):Prop:=∃a,u=.ref a/\cv K H a [.ref (aE.getD p.1 0),oV aE p.2]
structure uZ(K:zaa)(CD:zdU)(H:Hp)(p bx ns:zdU)(aE:List zdU)(c:PM.Dc)(m:Nat):Prop where
 ok:c.Ok
 ins:∃dx,H p=some (.ins CD dx [("boxes",.ref bx),("body",.ref (aE.getD 0 0)),("nest",.ref ns)])
 box:∃us,H bx=some (.lst us)/\aG K H (c.nB.map xg) us
 zR:∃us,H ns=some (.lst us)/\sG (Tu K H aE) c.bP us
 ct:vS K H aE c.aJ
 d1:bx≠ns
 OO:bx ∉ aE
 Tv:ns ∉ aE
 l4:c.nB.length<=4
 l5:c.bP.length<=5
 sz:∀a∈aE,∃us,H a=some (.lst us)/\us.length<=m
def OP (bx ns:zdU) (aE:List zdU) (y:zdU):Prop:=y=bx\/y=ns\/y∈aE
section
variable{K:zaa}{CD:zdU}{H H':Hp}{p bx ns:zdU}{aE:List zdU}{c:PM.Dc}{m:Nat}
theorem uZ.same(h:uZ K CD H p bx ns aE c m)(s:ar H H'):uZ K CD H' p bx ns aE c m:=
 {h with ins:=by obtain⟨dx,e⟩:=h.ins;exact⟨dx,s _ _ e⟩,box:=by obtain⟨us,e,r⟩:=h.box;exact⟨us,s _ _ e,r.mono s⟩,zR:=by obtain⟨us,e,i⟩:=h.zR;exact⟨us,s _ _ e,i.imp fun _ _ z=>by obtain⟨a,e,q⟩:=z;exact⟨a,e,s.dQ q⟩⟩,ct:=h.ct.same s,sz:=fun a ha=>by obtain⟨us,y,l⟩:=h.sz a ha;exact⟨us,s _ _ y,l⟩}
theorem uZ.Tw(h:uZ K CD H p bx ns aE c m){i:Nat}(hi:i<c.aJ.length):aE[i]?=some (aE.getD i 0)/\aE.getD i 0∈aE:=by
 have hl:i<aE.length:=by rw[h.ct.ln];exact hi
 have e:aE[i]?=some (aE.getD i 0):=by rw[zae,zac hl];rfl
 exact⟨e,zal e⟩
theorem uZ.Tt(h:uZ K CD H p bx ns aE c m){y:zdU}(hy:OP bx ns aE y):p≠y:=fun z=>by
 obtain⟨dx,e⟩:=h.ins;have:∃us,H y=some (.lst us):=by
  rcases hy with rfl |rfl |hy
  ·obtain⟨us,e,_⟩:=h.box;exact⟨us,e⟩
  ·obtain⟨us,e,_⟩:=h.zR;exact⟨us,e⟩
  ·exact h.ct.lists hy
 obtain⟨us,y1⟩:=this;rw[z,y1] at e;cases e
theorem B7{a y:zdU}{xs ys:List V}{zs:List V}(q:cv K H a zs)(hy:H y=some (.lst xs)):cv K (upd H y (.lst ys)) a zs:=q.lT hy ((bH.refl _ _).put _)
theorem kc{y:zdU}{xs ys:List V}{ds:List Dp}{vs:List V}(hn:wz ds=true)(r:aG K H ds vs)(hy:H y=some (.lst xs)):aG K (upd H y (.lst ys)) ds vs:=
 iZ (O:=(·=y)) (fun g hg=>⟨xs,by rw[hg];exact hy⟩) (bf.refl.put (O:=(·=y)) rfl _) _ _ hn r
theorem jw:∀bs:List (W×Int×Int),wz (bs.map xg)=true
 |[]=>rfl
 |b::bs=>by
  have:=jw bs;show (NB (xg b)&&wz (bs.map xg))=true;rw[this];rfl
theorem Tu.more{x:Nat×Option Nat}{u:V}(h:Tu K H aE x u)(h1:x.1<aE.length)(h2:∀y,x.2=some y->y<aE.length)(new:List zdU):Tu K H (aE++new) x u:=by
 obtain⟨a,e,q⟩:=h;refine⟨a,e,?_⟩;have g:∀i,i<aE.length->(aE++new).getD i 0=aE.getD i 0:=fun i hi=>by rw[zae,zae,zau hi]
 rw[g _ h1];cases hx:x.2 with
 |none=>rw[hx] at q;exact q
 |some y=>rw[hx] at q;show cv K H a [_,V.ref ((aE++new).getD y 0)];rw[g _ (h2 y hx)];exact q
end
section
variable(K:zaa)(CD:zdU)
inductive Qm(vs:List V)(H:Hp)(Q:VK)(E:XK):Prop
 |mk (p bx ns:zdU) (aE:List zdU) (c:PM.Dc) (m:Nat):vs=[.ref p]->uZ K CD H p bx ns aE c m->Q (.ref (aE.getD c.top 0)) H->Qm vs H Q E
def VG (aE:List zdU):Option (Nat×Option Nat)->V
 |some q=>oV aE q.2
 |none=>.dh
inductive Qn(vs:List V)(H:Hp)(Q:VK)(E:XK):Prop
 |mk (p bx ns:zdU) (aE:List zdU) (c:PM.Dc) (m:Nat):vs=[.ref p]->uZ K CD H p bx ns aE c m->Q (VG aE c.bP.getLast?) H->Qn vs H Q E
inductive Qo(vs:List V)(H:Hp)(Q:VK)(E:XK):Prop
 |mk (p bx ns:zdU) (aE:List zdU) (c:PM.Dc) (m:Nat):vs=[.ref p]->uZ K CD H p bx ns aE c m->(∀l H',ar H H'->H' l=some (.lst ((c.nB.map (·.1)).map sv))->Q (.ref l) H')->Qo vs H Q E
inductive Qp(vs:List V)(H:Hp)(Q:VK)(E:XK):Prop
 |mk (p dx:zdU):vs=[.ref p]->H p=some (.ins CD dx [])->H dx=some (.own p)->(∀bx bd ns H',H bx=none->H bd=none->H ns=none->bH p H H'->uZ K CD H' p bx ns [bd] ⟨[],[[]],[]⟩ 0->Q .dh H')->Qp vs H Q E
inductive Qq(vs:List V)(H:Hp)(Q:VK)(E:XK):Prop
 |mk (p bx ns:zdU) (aE:List zdU) (c:PM.Dc) (m:Nat) (k:Int) (v:V) (n:W) (a b:Int) (d':PM.Df):vs=[.ref p,.int k,v]->uZ K CD H p bx ns aE c m->Rep K H (xg (n,a,b)) v->PM.Gk c.df n a b=.ok d'->(∀H',bf (OP bx ns aE) H H'->uZ K CD H' p bx ns aE {c with nB:=c.nB++[(n,a,b)]} m->Q .dh H')->Qq vs H Q E
inductive Ey(f:PM.Df->Except PM.Er PM.Df)(g:PM.Dc->List (Nat×Option Nat))(vs:List V)(H:Hp)(Q:VK)(E:XK):Prop
 |mk (p bx ns:zdU) (aE:List zdU) (c:PM.Dc) (m:Nat) (k:Int) (d':PM.Df):vs=[.ref p,.int k]->uZ K CD H p bx ns aE c m->f c.df=.ok d'->({c with bP:=g c}:PM.Dc).Ok->(∀H',bf (OP bx ns aE) H H'->uZ K CD H' p bx ns aE {c with bP:=g c} m->Q .dh H')->Ey f g vs H Q E
inductive Ik(ok:PM.Fm->Prop)(tr:PM.Df->PM.Fm->Except PM.Er PM.Df)(tc:PM.Dc->Int->PM.Fm->PM.Dc)(vs:List V)(H:Hp)(Q:VK)(E:XK):Prop
 |mk (p bx ns:zdU) (aE:List zdU) (c:PM.Dc) (m:Nat) (k:Int) (v:V) (f:PM.Fm) (d':PM.Df):vs=[.ref p,.int k,v]->uZ K CD H p bx ns aE c m->m<=1000->Rep K H (Dd f) v->ok f->tr c.df f=.ok d'->(∀new H',(∀y∈new,H y=none)->bf (OP bx ns aE) H H'->uZ K CD H' p bx ns (aE++new) (tc c k f) (m+1)->Q .dh H')->Ik ok tr tc vs H Q E
inductive MZ(vs:List V)(H:Hp)(Q:VK)(E:XK):Prop
 |mk (k:W):vs=[sv k]->(∀(bs:List zdU) l H',ar H H'->H l=none->H' l=some (.lst (bs.map V.ref))->bs.length=Sk k->bs.Nodup->(∀b∈bs,H b=none/\H' b=some (.lst []))->Q (.ref l) H')->MZ vs H Q E
structure WM(H H':Hp)(v:V)(bx:zdU)(aE:List zdU)(c:PM.Dc):Prop where
 pr:∃a,v=.ref a/\H' a=some (.tup [.ref bx,.ref (aE.getD 0 0)])
 ok:c.Ok
 box:∃us,H' bx=some (.lst us)/\aG K H' (c.nB.map xg) us
 ct:vS K H' aE c.aJ
 OO:bx ∉ aE
 fr:∀a,a=bx\/a∈aE->H a=none
inductive M0(vs:List V)(H:Hp)(Q:VK)(E:XK):Prop
 |mk (text:W) (d:PM.Df):vs=[sv text]->text.length<=3000000->(aU 10 text).length<=80->PM.eG ⟨[],false,[]⟩ (aU 10 text)=.ok d->d.iy=[]->(∀v bx aE H',ar H H'->WM K H H' v bx aE (PM.dq ⟨[],[[]],[]⟩ 1 (aU 10 text))->Q v H')->M0 vs H Q E
end
theorem Sr{f:PM.Fm}(h:PM.BW f)(k:Int)(n:Nat):∃td,Dd f=.tup (.str (S (uV f))::td)/\C9 (JI (PM.sH k n f))=.str (S (uV f)) :: .int k::td/\td.length<=3:=by
 cases f with
 |box a b c=>exact h.elim
 |ask x=>exact⟨[.str (S x)],by show Dp.tup [.str "ask",.str (S x)]=_;rw[Gm];rfl,by show [Dp.str "ask",.int k,.str (S x)]=_;rw[Gm];rfl,by show 1<=3;decide⟩
 |put x e=>exact⟨[.str (S x),cV e],by show Dp.tup [.str "put",.str (S x),cV e]=_;rw[Gn];rfl,by show [Dp.str "put",.int k,.str (S x),cV e]=_;rw[Gn];rfl,by show 2<=3;decide⟩
 |say e=>exact⟨[cV e],by show Dp.tup [.str "say",cV e]=_;rw[Gp];rfl,by show [Dp.str "say",.int k,cV e]=_;rw[Gp];rfl,by show 1<=3;decide⟩
 |one w=>
  cases (show w=PM.b5 from h);exact⟨[],rfl,by show [Dp.str "stop",.int k]=_;rw[Bk];rfl,by decide⟩
 |cond w sg l r=>
  have hk:w=PM.gu\/w=PM.jV\/w=PM.bK:=h.1;refine⟨[.str (S sg),cV l,cV r],rfl,?_,by show 3<=3;decide⟩;rcases hk with rfl |rfl |rfl
  ·show [Dp.str "must",.int k,.str (S sg),cV l,cV r]=_;rw[ML];rfl
  ·show [Dp.str "if",.int k,.str (S sg),cV l,cV r]=_;rw[MM];rfl
  ·show [Dp.str "while",.int k,.str (S sg),cV l,cV r]=_;rw[lW];rfl
theorem Ss{f:PM.Fm}(h:PM.BW f):Sk (uV f)=PM.uX (PM.opens f):=by
 rw[Eh h];unfold Sk;split
 ·rfl
 ·split<;>rfl
theorem Il{f:PM.Fm}(h:PM.BW f)(k:Int){aE bs:List zdU}{n:Nat}(hn:n=aE.length)(hb:bs.length=PM.uX (PM.opens f)):(PM.gw (PM.sH k n f)).map (fun b=>V.ref ((aE++bs).getD b 0))=bs.map V.ref:=by
 rw[PM.B6 h,zbv,<- hb,hn];refine zcr (by simp) fun i h1 h2=>?_;have hi:i<bs.length:=by simpa using h2
 rw[zbw,zck,zbw];show V.ref ((aE++bs).getD (aE.length+i) 0)=_;rw[zae,zat (zbk _ _),zcm,zac hi];rfl
theorem uZ.wC{K:zaa}{CD:zdU}{H:Hp}{p bx ns:zdU}{aE bs:List zdU}{c:PM.Dc}{m:Nat}(h:uZ K CD H p bx ns aE c m){s:PM.Sa}{v:V}{zs:List V}(yL:H (aE.getD c.top 0)=some (.lst zs))(sa:ou K H (aE++bs) s v)(hb:∀y∈bs,H y=some (.lst [])/\y ∉ aE/\y≠bx/\y≠ns)(nn:bs.Nodup)(cJ:({c with aJ:=PM.gx c.aJ c.top s++zap bs.length []}:PM.Dc).Ok) :
 uZ K CD (upd H (aE.getD c.top 0) (.lst (zs++[v]))) p bx ns (aE++bs) {c with aJ:=PM.gx c.aJ c.top s++zap bs.length []} (m+1):=by
 obtain⟨e0,m0⟩:=h.Tw h.ok.top;obtain⟨dx,yp⟩:=h.ins;obtain⟨ub,yx,rx⟩:=h.box;obtain⟨us,yn,ix⟩:=h.zR;have nx:bx≠aE.getD c.top 0:=fun z=>h.OO (by rw[z];exact m0);have nn':ns≠aE.getD c.top 0:=fun z=>h.Tv (by rw[z];exact m0);have g0:(aE++bs).getD 0 0=aE.getD 0 0:=by rw[zae,zae,zau (by rw[h.ct.ln];exact h.ok.ft.ne)]
 refine {h with ok:=cJ,ins:=⟨dx,?_⟩,box:=⟨ub,by rw[aq nx];exact yx,kc (jw _) rx yL⟩,zR:=⟨us,by rw[aq nn'];exact yn,⟨ix.1,fun i x u h1 h2=>?_⟩⟩,ct:=h.ct.add h.ok.ft e0 yL sa (fun y hy=>(hb y hy).1) (fun y hy=>(hb y hy).2.1) nn,OO:=fun z=>?_,Tv:=fun z=>?_,sz:=fun a ha=>?_}
 ·rw[aq (h.Tt (.inr (.inr m0))),g0];exact yp
 ·have hp:=h.ok.pl x (zal h1);obtain⟨a1,e1,q1⟩:=(ix.2 i x u h1 h2).more (by rw[h.ct.ln];exact hp.1) (fun y hy=>by rw[h.ct.ln];exact hp.2 y hy) bs;exact⟨a1,e1,B7 q1 yL⟩
 ·rcases zaj.mp z with z |z
  ·exact h.OO z
  ·exact(hb bx z).2.2.1 rfl
 ·rcases zaj.mp z with z |z
  ·exact h.Tv z
  ·exact(hb ns z).2.2.2 rfl
 ·by_cases ea:a=aE.getD c.top 0
  ·obtain⟨u1,y1,l1⟩:=h.sz _ m0;rw[yL] at y1;cases y1;exact⟨_,by rw[ea,aj],by rw[zaf,zav];lia⟩
  ·rcases zaj.mp ha with z |z
   ·obtain⟨u1,y1,l1⟩:=h.sz a z;exact⟨u1,by rw[aq ea];exact y1,by lia⟩
   ·exact⟨[],by rw[aq ea];exact(hb a z).1,zaJ _⟩
theorem uZ.more{K:zaa}{CD:zdU}{H:Hp}{p bx ns:zdU}{aE:List zdU}{c:PM.Dc}{m m':Nat}(h:uZ K CD H p bx ns aE c m)(l:m<=m'):uZ K CD H p bx ns aE c m':=
 {h with sz:=fun a ha=>by obtain⟨us,y,z⟩:=h.sz a ha;exact⟨us,y,zaA z l⟩}
theorem B3.Qr{ns:List W}{w:W}{t:PM.Tr}(h:B3 ns w t):PM.Ts t:=PM.tG h.ex
def Su:PM.Fm->Prop
 |.put _ e=>A7 e<=3
 |.say e=>A7 e<=3
 |.cond _ sg l r=>(sg=[60]\/sg=[61])/\A7 l<=3/\A7 r<=3
 |_=>True
section
variable(K:zaa)
inductive Qs(vs:List V)(H:Hp)(Q:VK)(E:XK):Prop
 |mk (cell:Int) (k:Nat) (a:zdU) (ns:List W):vs=[.int cell,.int k,.ref a]->k<=200->fH K H a (ns.map sv)->Kl ns->(∀l w f v H',ar H H'->H' l=some (.lst [sv w,v])->JF w f->PM.NH ns f->PM.BW f->Su f->PM.opens f=none->(∀n aE,ou K H' aE (PM.sH k n f) v)->Q (.ref l) H')->Qs vs H Q E
inductive Qt(vs:List V)(H:Hp)(Q:VK)(E:XK):Prop
 |mk (cell:Int) (k:Nat) (a:zdU) (ns:List W):vs=[.int cell,.int k,.ref a]->k<=200->fH K H a (ns.map sv)->Kl ns->(∀l w f u kd v1 v2 v3 v4 (bs:List zdU) H',ar H H'->H' l=some (.lst [sv w,.ref u])->H' u=some (.tup (sv kd::v1::v2::v3::v4::bs.map V.ref))->(∀n,aG K H' (C9 (JI (PM.sH k n f))) [sv kd,v1,v2,v3,v4])->bs.Nodup->(∀b∈bs,H b=none/\H' b=some (.lst []))->((kd=PM.bK/\bs.length=1)\/(kd=PM.jV/\bs.length=2))->JF w f->PM.NH ns f->PM.BW f->Su f->PM.opens f=some (decide (kd=PM.jV))->Q (.ref l) H')->Qt vs H Q E
end
def oL (aE:List zdU):Option Nat->List V
 |none=>[]
 |some y=>[.ref (aE.getD y 0)]
def Km (H:Hp) (aE:List zdU) (x:Nat×Option Nat) (u:V):Prop:=∃e kd,u=.ref e/\H e=some (.lst (sv kd :: .ref (aE.getD x.1 0)::oL aE x.2))/\e ∉ aE/\(x.2.isSome=true↔kd=PM.jV)
structure xi(K:zaa)(H:Hp)(O:zdU)(aE:List zdU)(us:List V)(c:PM.Dc)(m:Nat):Prop where
 ok:c.Ok
 yO:H O=some (.lst us)
 en:sG (Km H aE) ((0,none)::c.bP) us
 ct:vS K H aE c.aJ
 nO:O ∉ aE
 l5:c.bP.length<=5
 sz:∀a∈aE,∃xs,H a=some (.lst xs)/\xs.length<=m
section
variable{K:zaa}{H H':Hp}{O:zdU}{aE bs:List zdU}{us:List V}{c:PM.Dc}{m:Nat}
theorem Km.keep{x:Nat×Option Nat}{u:V}(h:Km H aE x u)(hk:∀e xs,u=.ref e->H e=some (.lst xs)->e ∉ aE->H' e=some (.lst xs)):Km H' aE x u:=by
 obtain⟨e,kd,e1,y,n,i⟩:=h;exact⟨e,kd,e1,hk e _ e1 y n,n,i⟩
theorem Km.more{x:Nat×Option Nat}{u:V}(h:Km H aE x u)(h1:x.1<aE.length)(h2:∀y,x.2=some y->y<aE.length)(nb:∀e,u=.ref e->e ∉ bs):Km H (aE++bs) x u:=by
 obtain⟨e,kd,e1,y,n,i⟩:=h;have g:∀i,i<aE.length->(aE++bs).getD i 0=aE.getD i 0:=fun i hi=>by rw[zae,zae,zau hi]
 refine⟨e,kd,e1,?_,fun z=>(zaj.mp z).elim n (nb e e1),i⟩;rw[y,g _ h1];cases hx:x.2 with
 |none=>rfl
 |some z=>show some (HO.lst (sv kd::_::[V.ref (aE.getD z 0)]))=some (HO.lst (sv kd::_::[V.ref ((aE++bs).getD z 0)]));rw[g _ (h2 z hx)]
theorem xi.VD(h:xi K H O aE us c m){e:zdU}{x:Nat×Option Nat}(he:Km H aE x (.ref e)):e≠O:=fun z=>by
 obtain⟨e',kd,e1,y,_,_⟩:=he;cases e1;rw[z,h.yO] at y;obtain⟨u0,YE⟩:∃u0,us[0]?=some u0:=⟨us[0]'(by rw[h.en.1];exact zdQ _),zac _⟩
 obtain⟨e2,_,e3,_⟩:=h.en.2 0 _ u0 rfl YE;have:us=sv kd::_:=HO.lst.inj (zaF.inj y);rw[this] at YE;cases YE;cases e3
theorem xi.same(h:xi K H O aE us c m)(s:ar H H'):xi K H' O aE us c m:=
 {h with yO:=s _ _ h.yO,en:=h.en.imp fun _ _ z=>z.keep fun e xs _ y _=>s _ _ y,ct:=h.ct.same s,sz:=fun a ha=>by obtain⟨xs,y,l⟩:=h.sz a ha;exact⟨xs,s _ _ y,l⟩}
theorem xi.Tw(h:xi K H O aE us c m){i:Nat}(hi:i<c.aJ.length):aE[i]?=some (aE.getD i 0)/\aE.getD i 0∈aE:=by
 have hl:i<aE.length:=by rw[h.ct.ln];exact hi
 have e:aE[i]?=some (aE.getD i 0):=by rw[zae,zac hl];rfl
 exact⟨e,zal e⟩
theorem Sv(c:PM.Dc):∃x,((0,none)::c.bP).getLast?=some x/\x.1=c.top/\x.2=(c.bP.getLast?.bind (·.2)):=by
 unfold PM.Dc.top;cases e:c.bP.getLast? with
 |none=>
  rw[zbl.mp e];exact⟨(0,none),rfl,rfl,rfl⟩
 |some p=>
  refine⟨p,?_,rfl,rfl⟩;obtain⟨ys,e1⟩:=zbF.mp e;rw[e1,<- zaQ,zcc]
theorem xi.jL(h:xi K H O aE us c m){pl:List (Nat×Option Nat)}{us':List V}(cJ:({c with bP:=pl}:PM.Dc).Ok)(hl:pl.length<=5)(ix:sG (Km H aE) ((0,none)::pl) us')(nu:∀e,V.ref e∈us'->e≠O):xi K (upd H O (.lst us')) O aE us' {c with bP:=pl} m:=
 {h with ok:=cJ,yO:=aj,en:=⟨ix.1,fun i x u h1 h2=>(ix.2 i x u h1 h2).keep fun e xs e1 y _=>by rw[aq (nu e (by rw[<- e1];exact zal h2))];exact y⟩,ct:=h.ct.Qk h.yO h.nO,l5:=hl,sz:=fun a ha=>by obtain⟨xs,y,l⟩:=h.sz a ha;exact⟨xs,by rw[aq (show a≠O from fun z=>h.nO (z▸ha))];exact y,l⟩}
theorem xi.wC(h:xi K H O aE us c m){s:PM.Sa}{v:V}{zs:List V}(yL:H (aE.getD c.top 0)=some (.lst zs))(sa:ou K H (aE++bs) s v)(hb:∀y∈bs,H y=some (.lst [])/\y ∉ aE/\y≠O/\∀e,V.ref e∈us->e≠y)(nn:bs.Nodup)(cJ:({c with aJ:=PM.gx c.aJ c.top s++zap bs.length []}:PM.Dc).Ok) :
 xi K (upd H (aE.getD c.top 0) (.lst (zs++[v]))) O (aE++bs) us {c with aJ:=PM.gx c.aJ c.top s++zap bs.length []} (m+1):=by
 obtain⟨e0,m0⟩:=h.Tw h.ok.top;have nO':O≠aE.getD c.top 0:=fun z=>h.nO (by rw[z];exact m0);refine {h with ok:=cJ,yO:=by rw[aq nO'];exact h.yO,en:=⟨h.en.1,fun i x u h1 h2=>?_⟩,ct:=h.ct.add h.ok.ft e0 yL sa (fun y hy=>(hb y hy).1) (fun y hy=>(hb y hy).2.1) nn,nO:=fun z=>?_,sz:=fun a ha=>?_}
 ·have hx:x.1<aE.length/\∀y,x.2=some y->y<aE.length:=by
   rw[h.ct.ln];rcases zak.mp (zal h1) with rfl |hm
   ·exact⟨h.ok.ft.ne,fun y hy=>by cases hy⟩
   ·exact h.ok.pl x hm
  refine((h.en.2 i x u h1 h2).keep fun e xs e1 y ne=>?_).more hx.1 hx.2 fun e e1 z=>?_
  ·rw[aq (show e≠aE.getD c.top 0 from fun z=>ne (by rw[z];exact m0))];exact y
  ·exact(hb e z).2.2.2 e (by rw[<- e1];exact zal h2) rfl
 ·rcases zaj.mp z with z |z
  ·exact h.nO z
  ·exact(hb O z).2.2.1 rfl
 ·by_cases ea:a=aE.getD c.top 0
  ·obtain⟨u1,y1,l1⟩:=h.sz _ m0;rw[yL] at y1;cases y1;exact⟨_,by rw[ea,aj],by rw[zaf,zav];lia⟩
  ·rcases zaj.mp ha with z |z
   ·obtain⟨u1,y1,l1⟩:=h.sz a z;exact⟨u1,by rw[aq ea];exact y1,by lia⟩
   ·exact⟨[],by rw[aq ea];exact(hb a z).1,zaJ _⟩
theorem xi.Qk(h:xi K H O aE us c m){y:zdU}{xs ys:List V}(hy:H y=some (.lst xs))(nO:y≠O)(nZ:y ∉ aE)(np:∀e,V.ref e∈us->e≠y):xi K (upd H y (.lst ys)) O aE us c m:=
 {h with yO:=by rw[aq (Ne.symm nO)];exact h.yO,en:=⟨h.en.1,fun i x u h1 h2=>(h.en.2 i x u h1 h2).keep fun e xs e1 y1 _=>by rw[aq (np e (by rw[<- e1];exact zal h2))];exact y1⟩,ct:=h.ct.Qk hy nZ,sz:=fun a ha=>by obtain⟨xs,y1,l⟩:=h.sz a ha;exact⟨xs,by rw[aq (show a≠y from fun z=>nZ (z▸ha))];exact y1,l⟩}
theorem xi.more(h:xi K H O aE us c m):xi K H O aE us c (m+1):={h with sz:=fun a ha=>by obtain⟨xs,y,l⟩:=h.sz a ha;exact⟨xs,y,by lia⟩}
end
section
variable(K:zaa)
inductive Qu(vs:List V)(H:Hp)(Q:VK)(E:XK):Prop
 |mk (cell:Int) (k:Nat) (O N:zdU) (aE:List zdU) (us:List V) (c:PM.Dc) (m:Nat):vs=[.int cell,.int k,.ref O,.ref N]->k<=200->m<=100->xi K H O aE us c m->H N=some (.lst (c.df.Ee.map sv))->Kl c.df.Ee->
  (∀w f d' new us' H',JF w f->Su f->(PM.dE c k f).nB=c.nB->PM.gB c.df f=.ok d'->xi K H' O (aE++new) us' (PM.dE c k f) (m+1)->(∀y u,y≠O->y ∉ aE->H y=some u->H' y=some u)->(∀z∈new,H z=none)->(∀e,V.ref e∈us'->V.ref e∈us\/H e=none)->Q (sv w) H')->Qu vs H Q E
end
theorem nD(c:PM.Dc)(k:Int)(w:PM.W):PM.dE c k (.one w)=if w=PM.cf then {c with bP:=c.bP.dropLast++PM.Qi c.bP.getLast? } else if w=PM.cA then {c with bP:=c.bP.dropLast} else PM.kq c k (.one w):=rfl
theorem tJ{f:PM.Fm}(h:PM.BW f){c:PM.Dc}{k:Int}:PM.dE c k f=PM.kq c k f:=by
 cases f with
 |box a b d=>exact h.elim
 |one w=>
  cases (show w=PM.b5 from h);rw[nD,if_neg (show ¬PM.b5=PM.cf by decide),if_neg (show ¬PM.b5=PM.cA by decide)]
 |ask x=>rfl
 |put x e=>rfl
 |say e=>rfl
 |cond w sg l r=>rfl
end L2
namespace PM
theorem u5:∀(a b:List W) (c:Dc) (k:Int) (d':Df),c.Ok->eG c.df a=.ok d'->dq c k (a++b)=dq (dq c k a) (k+a.length) b
 |[],b,c,k,d',h,e=>by
  show dq c k b=dq c (k+(0:Nat)) b;rw[Int.natCast_zero,Int.add_zero]
 |r::a,b,c,k,d',h,e=>by
  rw[eG] at e;rw[zaQ,dq,dq];cases hf:fI (L2.aU 32 r) with
  |none=>rw[hf] at e;cases e
  |some f=>
   rw[hf] at e;cases ht:gB c.df f with
   |error z=>simp only[ht] at e;cases e
   |ok d1=>
    simp only[ht] at e;obtain⟨h1,h2⟩:=nC (k:=k) h (BX (L2.g8 _ _) hf) ht;rw[<- h2] at e;have:=u5 a b _ (k+1) d' h1 e;simp only;rw[this]
    congr 1
    rw[zah];lia
theorem Bs{r:W}{f:Fm}{c:Dc}{k:Int}(h:fI (L2.aU 32 r)=some f):dq c k [r]=dE c k f:=by
 rw[dq,h];rfl
theorem yH:∀(n:Nat) (c:Dc) (k:Int),c.bP.length=n->dq c k (zap n cA)={c with bP:=[]}
 |0,c,k,h=>by
  have e:c.bP=[]:=zaX.mp h;obtain⟨a,b,p⟩:=c;cases e;rfl
 |n+1,c,k,h=>by
  rw[zbs,dq,yy];have et:dE c k (.one cA)={c with bP:=c.bP.dropLast}:=by rw[L2.nD,if_neg (by decide),if_pos rfl]
  simp only[et];exact yH n {c with bP:=c.bP.dropLast} (k+1) (by show c.bP.dropLast.length=n;rw[zaO,h];rfl)
def c0:Dc:=⟨[],[[]],[]⟩
theorem Ez(bs:List (W×Int×Int)):(⟨bs,[[]],[]⟩:Dc).Ok:=by
 refine⟨⟨Nat.zero_lt_one,fun i ss e b hb=>?_,fun i ss e=>?_,fun i j ss tt x e1 e2 x1 x2=>?_⟩,(fun p hp=>by cases hp),fun z=>absurd rfl z⟩
 ·rw[zad.mp (zal e)] at hb;cases hb
 ·rw[zad.mp (zal e)];exact zcl
 ·rw[zad.mp (zal e1)] at x1;cases x1
def NJ (e:Tr):Prop:=JA e/\L2.A7 e<=3
def WN:Sa->Prop
 |.ask _ n=>isName n=true
 |.put _ n e=>isName n=true/\NJ e
 |.say _ e=>NJ e
 |.eI _ sg l r=>(sg=[60]\/sg=[61])/\NJ l/\NJ r
 |.stop _=>True
 |.ifs _ sg l r _ _=>(sg=[60]\/sg=[61])/\NJ l/\NJ r
 |.iU _ sg l r _=>(sg=[60]\/sg=[61])/\NJ l/\NJ r
theorem Sw{f:Fm}(fs:BW f)(fh:L2.Su f)(k:Int)(n:Nat):WN (sH k n f):=by
 cases f with
 |box a b c=>exact fs.elim
 |ask x=>exact fs
 |put x e=>exact⟨fs.1,fs.2.1,fh⟩
 |say e=>exact⟨fs.1,fh⟩
 |one w=>trivial
 |cond w sg l r=>
  have hk:w=gu\/w=jV\/w=bK:=fs.1;rcases hk with rfl |rfl |rfl<;>exact⟨fh.1,⟨fs.2.1.1,fh.2.1⟩,⟨fs.2.2.1,fh.2.2⟩⟩
structure EA(c:Dc)(lv:List Nat):Prop where
 ln:lv.length=c.aJ.length
 l0:lv.getD 0 0=0
 up:∀(i:Nat) (ss:List Sa),c.aJ[i]?=some ss->∀b∈ss.flatMap gw,lv.getD b 0=lv.getD i 0+1
 l5:∀i,lv.getD i 0<=5
 pl:∀(j:Nat) p,c.bP[j]?=some p->lv.getD p.1 0=j+1/\∀x,p.2=some x->lv.getD x 0=j+1
 ks:∀ss∈c.aJ,∀s∈ss,WN s
theorem yI{lv:List Nat}{m x:Nat}(i:Nat):(lv++zap m x).getD i 0=if i<lv.length then lv.getD i 0 else if i<lv.length+m then x else 0:=by
 rw[zae];split
 ·rename_i h;rw[zau h,zae]
 ·rename_i h;rw[zat (by lia)];split
  ·rename_i h2;rw[zb1,if_pos (by lia)];rfl
  ·rename_i h2;rw[zb1,if_neg (by lia)];rfl
theorem EA.top{c:Dc}{lv:List Nat}(h:EA c lv):lv.getD c.top 0=c.bP.length:=by
 unfold Dc.top;cases e:c.bP.getLast? with
 |none=>rw[zbl.mp e];exact h.l0
 |some p=>
  rw[zaZ] at e;have hp:0<c.bP.length:=by
   cases hl:c.bP with
   |nil=>rw[hl] at e;cases e
   |cons=>exact zdQ _
  have:=(h.pl _ p e).1;show lv.getD p.1 0=_;lia
theorem EA.wC{c:Dc}{lv:List Nat}{k:Int}{f:Fm}(ok:c.Ok)(h:EA c lv)(fs:BW f)(fh:L2.Su f)(l5:opens f=none\/c.bP.length<5):∃Sx,EA (kq c k f) Sx:=by
 have ch:=B6 fs k c.aJ.length;have ht:=h.top;have OQ:=ok.top;have hm:uX (opens f)=0\/c.bP.length<5:=l5.imp (fun z=>by rw[z];rfl) id;have ln:(lv++zap (uX (opens f)) (c.bP.length+1)).length=(gx c.aJ c.top (sH k c.aJ.length f)++zap (uX (opens f)) []).length:=by
  rw[zaf,zaf,za4,za4,fJ,h.ln]
 have old:∀i,i<c.aJ.length->(lv++zap (uX (opens f)) (c.bP.length+1)).getD i 0=lv.getD i 0:=fun i hi=>by rw[yI,if_pos (by rw[h.ln];exact hi)]
 have new:∀i,c.aJ.length<=i->i<c.aJ.length+uX (opens f)->(lv++zap (uX (opens f)) (c.bP.length+1)).getD i 0=c.bP.length+1:=fun i h1 h2=>by rw[yI,if_neg (by rw[h.ln];lia),if_pos (by rw[h.ln];lia)]
 have ne:=ok.ft.ne;refine⟨lv++zap (uX (opens f)) (c.bP.length+1),ln,by rw[old 0 ne];exact h.l0,fun i ss e b hb=>?_,fun i=>?_,fun j p e=>?_,fun ss YF s hs=>?_⟩
 ·have e':(gx c.aJ c.top (sH k c.aJ.length f)++zap (uX (opens f)) [])[i]?=some ss:=e;by_cases hi:i<c.aJ.length
  ·have eg:ss=if i=c.top then c.aJ.getD c.top []++[sH k c.aJ.length f] else c.aJ.getD i []:=by
    have:=Eu OQ (sH k c.aJ.length f) (zap (uX (opens f)) []) i hi;rw[zae,e'] at this;exact this
   rw[old i hi];have VH:∀(i':Nat),i'<c.aJ.length->b∈(c.aJ.getD i' []).flatMap gw->(lv++zap (uX (opens f)) (c.bP.length+1)).getD b 0=lv.getD i' 0+1:=fun i' Lc Ib=>by
    obtain⟨Vf,e2,hb2⟩:=getD_some Ib;rw[old b (ok.ft.up i' Vf e2 b hb2).2];exact h.up i' Vf e2 b hb2
   split at eg
   ·rename_i ei;rw[eg,zbM] at hb;rcases zaj.mp hb with hb |hb
    ·rw[ei];exact VH c.top OQ hb
    ·have Ib:b∈gw (sH k c.aJ.length f):=by simpa using hb
     rw[ch] at Ib;obtain⟨q,hq,rfl⟩:=zaK.mp Ib;have:=zbh.mp hq;rw[new _ (zbk _ _) (by lia),ei,ht]
   ·rw[eg] at hb;exact VH i hi hb
  ·rw[zat (by rw[fJ];lia)] at e';rw[(zbQ.mp (zal e')).2] at hb;cases hb
 ·rw[yI];split
  ·exact h.l5 i
  ·split
   ·rcases hm with z |z
    ·rename_i q1 q2;rw[z] at q2;lia
    ·lia
   ·exact zaJ _
 ·have e':(c.bP++Qh c.aJ.length (opens f))[j]?=some p:=e;by_cases hj:j<c.bP.length
  ·rw[zau hj] at e';have hp:=ok.pl p (zal e');have hl:=h.pl j p e';exact⟨by rw[old _ hp.1];exact hl.1,fun x hx=>by rw[old _ (hp.2 x hx)];exact hl.2 x hx⟩
  ·rw[zat (by lia)] at e';cases ho:opens f with
   |none=>rw[ho] at e';cases e'
   |some o=>
    rw[ho] at e' new;cases o with
    |true=>
     have ej:j-c.bP.length=0:=by
      have:=(zao.mp e').1;have:j-c.bP.length<1:=this;lia
     rw[ej] at e';cases e';have:j=c.bP.length:=by lia
     subst this;exact⟨new _ (zag _) (by show _<_+2;lia),fun x hx=>by cases hx;exact new _ (zbk _ _) (by show _+1<_+2;lia)⟩
    |false=>
     have ej:j-c.bP.length=0:=by
      have:=(zao.mp e').1;have:j-c.bP.length<1:=this;lia
     rw[ej] at e';cases e';have:j=c.bP.length:=by lia
     subst this;exact⟨new _ (zag _) (by show _<_+1;lia),fun x hx=>by cases hx⟩
 ·have YG:ss∈gx c.aJ c.top (sH k c.aJ.length f)++zap (uX (opens f)) []:=YF;rcases zaj.mp YG with z |z
  ·unfold gx at z;rcases zbV z with z |rfl
   ·exact h.ks ss z s hs
   ·rcases zaj.mp hs with q |q
    ·rw[zae,zac OQ] at q;exact h.ks _ (zaI OQ) s q
    ·rw[zad.mp q];exact Sw fs fh k _
  ·rw[(zbQ.mp z).2] at hs;cases hs
theorem EA.take{c:Dc}{lv:List Nat}{k:Int}{f:Fm}{d':Df}(ok:c.Ok)(h:EA c lv)(fa:Qc f)(fh:L2.Su f)(l5:c.bP.length<=5)(ht:gB c.df f=.ok d'):∃Sx,EA (dE c k f) Sx:=by
 have wC:BW f->gB c.df f=jN c.df f->dE c k f=kq c k f->∃Sx,EA (dE c k f) Sx:=fun fs e1 e2=>by
  rw[e2];refine h.wC ok fs fh ?_;rw[e1] at ht;unfold jN at ht;split at ht
  ·cases ht
  ·rename_i z;cases ho:opens f with
   |none=>exact .inl rfl
   |some o=>
    refine .inr ?_;have:c.df.iy.length≠5:=fun q=>z ⟨by rw[ho];rfl,q⟩;have e:c.df.iy.length=c.bP.length:=zai _;lia
 cases f with
 |box n a b=>exact⟨lv,h.ln,h.l0,h.up,h.l5,h.pl,h.ks⟩
 |ask x=>exact wC fa rfl rfl
 |put x e=>exact wC fa rfl rfl
 |say e=>exact wC fa rfl rfl
 |cond w sg l r=>exact wC fa rfl rfl
 |one w=>
  have hw:w=cf\/w=cA\/w=b5:=fa;by_cases h1:w=cf
  ·refine⟨lv,?_⟩;rw[L2.nD,if_pos h1];refine⟨h.ln,h.l0,h.up,h.l5,fun j p e=>?_,h.ks⟩;have e':(c.bP.dropLast++Qi c.bP.getLast?)[j]?=some p:=e;by_cases hj:j<c.bP.dropLast.length
   ·rw[zau hj,zb5,if_pos (by rw[zaO] at hj;exact hj)] at e';exact h.pl j p e'
   ·rw[zat (by lia)] at e';cases hl:c.bP.getLast? with
    |none=>rw[hl] at e';cases e'
    |some q=>
     obtain⟨b,o⟩:=q;cases o with
     |none=>rw[hl] at e';cases e'
     |some x=>
      rw[hl] at e';have ej:j-c.bP.dropLast.length=0:=by
       have:=(zao.mp e').1;have:j-c.bP.dropLast.length<1:=this;lia
      rw[ej] at e';cases e';rw[zaZ] at hl;have:=(h.pl _ _ hl).2 x rfl;rw[zaO] at ej hj;refine⟨?_,fun y hy=>by cases hy⟩;show lv.getD x 0=j+1;lia
  ·by_cases h2:w=cA
   ·refine⟨lv,?_⟩;rw[L2.nD,if_neg h1,if_pos h2];refine⟨h.ln,h.l0,h.up,h.l5,fun j p e=>?_,h.ks⟩;have e':c.bP.dropLast[j]?=some p:=e;have hj:=(zao.mp e').1;rw[zaO] at hj;rw[zb5,if_pos hj] at e';exact h.pl j p e'
   ·have e3:w=b5:=(hw.resolve_left h1).resolve_left h2;refine wC e3 ?_ ?_
    ·show (if w=cf then mH c.df else if w=cA then uT c.df else jN c.df (.one w))=_;rw[if_neg h1,if_neg h2]
    ·rw[L2.nD,if_neg h1,if_neg h2]
theorem VI(bs:List (W×Int×Int)):EA ⟨bs,[[]],[]⟩ [0]:=by
 refine⟨rfl,rfl,fun i ss e b hb=>?_,fun i=>?_,fun j p e=>(by cases e),fun ss YF s hs=>?_⟩
 ·rw[zad.mp (zal e)] at hb;cases hb
 ·cases i with
  |zero=>exact zaJ _
  |succ i=>exact zaJ _
 ·rw[zad.mp YF] at hs;cases hs
theorem vT:∀(bs pre:List (W×Int×Int)) (k:Int),(∀b∈bs,L2.NI b)->dq ⟨pre,[[]],[]⟩ k (bs.map L2.Eo)=⟨pre++bs,[[]],[]⟩
 |[],pre,k,_=>by rw[zbC,zaC];rfl
 |b::bs,pre,k,h=>by
  rw[zar,dq,(L2.xh (h b zaq)).1];have:=vT bs (pre++[(b.1,b.2.1,b.2.2)]) (k+1) fun x hx=>h x (zam _ hx);show dq ⟨pre++[(b.1,b.2.1,b.2.2)],[[]],[]⟩ (k+1) (bs.map L2.Eo)=_;rw[this,zaW];rfl
end PM
namespace L2
open PySem PySem.Spec PyProof.Rows
def OR (c:PM.Dc):Dp:=.tup [.lst (c.nB.map xg),.lst ((MY c.aJ c.aJ.length 0).map oU)]
structure BlC(K:zaa)(H5 Hx:Hp)(R N O Bd E0:zdU)(aE:List zdU)(us:List V)(c:PM.Dc)(ws:List W)(bs:List (W×Int×Int))(i:Nat):Prop where
 op:xi K Hx O aE us c i
 yR:Hx R=some (.lst (ws.map sv))
 yN:Hx N=some (.lst ((bs.map (·.1)).map sv))
 rr:PM.eG ⟨[],false,[]⟩ ws=.ok c.df
 rc:PM.dq PM.c0 1 ws=c
 lv:∃lv,PM.EA c lv
 bx:c.nB=bs
 lw:ws.length=bs.length+i
 ok:∀r∈ws,r.length<=200/\10 ∉ r
 zf:∀z∈aE,z=Bd\/H5 z=none
 pf:∀e,V.ref e∈us->e=E0\/H5 e=none
 kp:∀y u,y≠O->y≠Bd->y≠R->H5 y=some u->Hx y=some u
 bz:aE[0]?=some Bd
section
variable(K:zaa)
inductive Qv(vs:List V)(H:Hp)(Q:VK)(E:XK):Prop
 |mk (a:zdU) (cs:List Int) (hd:Int):vs=[.ref a,.int hd]->fH K H a (cs.map .int)->cs.length<=63->(∀l R p ws c d H',ar H H'->H' l=some (.lst [.ref R,p])->H' R=some (.lst (ws.map sv))->ws≠[]->ws.length<=72->PM.eG ⟨[],false,[]⟩ ws=.ok d->d.iy=[]->(∀r∈ws,r.length<=200/\10 ∉ r)->PM.dq PM.c0 1 ws=c->(∃lv,PM.EA c lv)->(∀b∈c.nB,NI b)->Rep K H' (OR c) p->Q (.ref l) H')->Qv vs H Q E
end
theorem RelM.get{K:zaa}{H:Hp}{aV:List (Int×V)}{m:List (Int×List PG.Rg)}(h:RelM K H aV m)(k:Int):(cB aV k=none/\cB m k=none)\/∃v u,cB aV k=some v/\cB m k=some u/\oq K H v u:=by
 rcases Paired.cB (fun a b h=>h.1) k h with h |⟨v,u,h1,h2,h3⟩
 ·exact .inl h
 ·exact .inr ⟨v,u,h1,h2,h3.2⟩
theorem RelM.put{K:zaa}{H:Hp}{aV:List (Int×V)}{m:List (Int×List PG.Rg)}(h:RelM K H aV m){k:Int}{v:V}{u:List PG.Rg}(hv:oq K H v u):RelM K H (lX aV k v) (lX m k u):=Paired.lX (fun a b h=>h.1) h ⟨rfl,hv⟩
theorem uP.get{K:zaa}{H:Hp}{us:List V}{ws:List (Int×List PG.Rg)}(h:uP K H us ws):∀ {i:Nat} {v:V},us[i]?=some v->∃w,ws[i]?=some w/\yj K H v w:=by
 induction h with
 |nil=>intro i v e;cases e
 |cons a _ ih=>
  intro i v e;cases i with
  |zero=>cases e;exact⟨_,rfl,a⟩
  |succ i=>exact ih e
theorem JK{X:Cx}{K:zaa}(e:X.K=K):gq X (.builtin "isinstance") (Vr K):=e▸Mx
theorem EB{J:It}{D:zdU}{g:TG}{tc:TT}{te:TE}{Q:VK}{τ0:St}{H:Hp}(G:St->Prop)(xs:List V)(Pk:V->Prop)
 (go:∀i H2,ar H H2->i<xs.length->J.go i H2) (stop:∀H2,ar H H2->J.stop xs.length H2) (xr:∀i H2 x H3,ar H H2->i<xs.length->J.xr i H2 x H3->H3=H2/\xs[i]?=some x)
 (hl:xs.length<=16000000) (hD:H D=none) (g0:G τ0)
 (step:∀(i:Nat) x τ H2,xs[i]?=some x->G τ->ar H H2->∀R:St->Bool->Hp->Prop,(∀τ' H3 b,G τ'->ar H2 H3->(b=true->Pk x/\∀R':VK,R' x H3->te τ' H3 R')->R τ' b H3)->g x τ H2 fun τ' H'=>tc τ' H' (R τ'))
 (q:∀ys H2,ar H H2->H2 D=some (.lst ys)->ys.length<=xs.length->(∀y∈ys,Pk y)->Q (.ref D) H2):nV J D g tc te Q τ0 (upd H D (.lst [])):=by
 refine⟨fun i m τ H2=>m=xs.length-i/\i<=xs.length/\G τ/\ar H H2/\∃ys,H2 D=some (.lst ys)/\ys.length<=i/\∀y∈ys,Pk y,⟨xs.length,by simp,zaJ _,g0,ar.new hD _,[],aj,zag _,fun y hy=>by cases hy⟩,?_⟩
 rintro i m τ H2 ⟨rfl,hi,gt,s2,ys,h2,ly,YH⟩
 by_cases iR:i<xs.length
 ·refine .inr ⟨go i H2 s2 iR,fun τ' H'=>G τ'/\ar H H'/\∃ys,H' D=some (.lst ys)/\ys.length<=i+1/\∀y∈ys,Pk y,fun τ' H' ⟨h1,h3,h4⟩=>⟨xs.length-(i+1),by lia,rfl,iR,h1,h3,h4⟩,fun y H' hy=>?_⟩;obtain⟨rfl,ey⟩:=xr i H2 y H' s2 iR hy;refine step i y τ _ ey gt s2 (fun τ' b H3=>_) fun τ' H3 b WC s3 hb=>?_;cases b with
  |false=>
   rw[if_neg (by decide)];exact⟨WC,s2.trans s3,ys,s3 _ _ h2,by lia,YH⟩
  |true=>
   rw[if_pos rfl];obtain⟨hp,hv⟩:=hb rfl;refine hv _ ⟨ys,s3 _ _ h2,?_,WC,?_,ys++[y],aj,by rw[zaf,zav];lia,fun z hz=>?_⟩
   ·have:zd2=2 ^ 24:=rfl;lia
   ·intro b o e;rw[aq (aB e hD)];exact s3 _ _ (s2 _ _ e)
   ·rcases zaj.mp hz with z1 |z1
    ·exact YH z z1
    ·rw[zad.mp z1];exact hp
 ·have e:i=xs.length:=by lia
  subst e;exact .inl ⟨stop H2 s2,q ys H2 s2 h2 ly YH⟩
def M1 (K:zaa) (H:Hp) (v:V):Prop:=(∃z,v=.str z)\/(∃i,v=.int i)\/∃a l t,v=.ref a/\cv K H a l/\Rep K H (cV t) v/\PM.JA t/\A7 t<=3
theorem vU{K:zaa}{H:Hp}{t:PM.Tr}{v:V}(r:Rep K H (cV t) v)(h:PM.NJ t):M1 K H v:=by
 refine .inr (.inr ?_);cases t with
 |num n=>
  have r':=r;unfold cV at r';rw[Rep.aZ] at r';obtain⟨a,l,e,hS,_⟩:=r';exact⟨a,l,_,e,hS,r,h.1,h.2⟩
 |box x=>
  have r':=r;unfold cV at r';rw[Rep.aZ] at r';obtain⟨a,l,e,hS,_⟩:=r';exact⟨a,l,_,e,hS,r,h.1,h.2⟩
 |bin o x y=>
  have r':=r;unfold cV at r';rw[Rep.aZ] at r';obtain⟨a,l,e,hS,_⟩:=r';exact⟨a,l,_,e,hS,r,h.1,h.2⟩
theorem M3{K:zaa}{H:Hp}{s:PM.Sa}(hs:PM.WN s){hv:List V}(r:aG K H (C9 (JI s)) hv):(∀v∈hv,M1 K H v)/\(∃i,hv[1]?=some (.int i))/\2<=hv.length/\hv.length<=5/\(PM.gw s≠[]->hv.length=5):=by
 have one:∀ {z:Str} {v:V},Rep K H (.str z) v->M1 K H v:=fun {z v} q=>.inl ⟨z,Rep.aK.mp q⟩;have int:∀ {i:Int} {v:V},Rep K H (.int i) v->v=.int i:=fun q=>Rep.bO.mp q;have yJ:∀ {a b:V} {l:List V},M1 K H a->M1 K H b->(∀v∈l,M1 K H v)->∀v∈a::b::l,M1 K H v:=fun h1 h2 h3 v hv=>by
  rcases zak.mp hv with rfl |hv
  ·exact h1
  ·rcases zak.mp hv with rfl |hv
   ·exact h2
   ·exact h3 v hv
 have M4:∀ {a:V} {l:List V},M1 K H a->(∀v∈l,M1 K H v)->∀v∈a::l,M1 K H v:=fun h1 h3 v hv=>by
  rcases zak.mp hv with rfl |hv
  ·exact h1
  ·exact h3 v hv
 have nil:∀v∈([]:List V),M1 K H v:=fun v hv=>by cases hv
 cases s with
 |ask k n=>
  simp only[JI,C9,aG.aM,aG.aS] at r;obtain⟨v1,_,rfl,r1,v2,_,rfl,r2,v3,_,rfl,r3,rfl⟩:=r;exact⟨yJ (one r1) (.inr (.inl ⟨_,int r2⟩)) (M4 (one r3) nil),⟨k,by rw[int r2];rfl⟩,by show 2<=3;decide,by show 3<=5;decide,fun z=>absurd rfl z⟩
 |put k n e=>
  simp only[JI,C9,aG.aM,aG.aS] at r;obtain⟨v1,_,rfl,r1,v2,_,rfl,r2,v3,_,rfl,r3,v4,_,rfl,r4,rfl⟩:=r;exact⟨yJ (one r1) (.inr (.inl ⟨_,int r2⟩)) (yJ (one r3) (vU r4 hs.2) nil),⟨k,by rw[int r2];rfl⟩,by show 2<=4;decide,by show 4<=5;decide,fun z=>absurd rfl z⟩
 |say k e=>
  simp only[JI,C9,aG.aM,aG.aS] at r;obtain⟨v1,_,rfl,r1,v2,_,rfl,r2,v3,_,rfl,r3,rfl⟩:=r;exact⟨yJ (one r1) (.inr (.inl ⟨_,int r2⟩)) (M4 (vU r3 hs) nil),⟨k,by rw[int r2];rfl⟩,by show 2<=3;decide,by show 3<=5;decide,fun z=>absurd rfl z⟩
 |stop k=>
  simp only[JI,C9,aG.aM,aG.aS] at r;obtain⟨v1,_,rfl,r1,v2,_,rfl,r2,rfl⟩:=r;exact⟨yJ (one r1) (.inr (.inl ⟨_,int r2⟩)) nil,⟨k,by rw[int r2];rfl⟩,by show 2<=2;decide,by show 2<=5;decide,fun z=>absurd rfl z⟩
 |eI k sg l r2=>
  simp only[JI,C9,aG.aM,aG.aS] at r;obtain⟨v1,_,rfl,r1,v2,_,rfl,q2,v3,_,rfl,r3,v4,_,rfl,r4,v5,_,rfl,r5,rfl⟩:=r;exact⟨yJ (one r1) (.inr (.inl ⟨_,int q2⟩)) (yJ (one r3) (vU r4 hs.2.1) (M4 (vU r5 hs.2.2) nil)),⟨k,by rw[int q2];rfl⟩,by show 2<=5;decide,by show 5<=5;decide,fun z=>absurd rfl z⟩
 |ifs k sg l r2 b c=>
  simp only[JI,C9,aG.aM,aG.aS] at r;obtain⟨v1,_,rfl,r1,v2,_,rfl,q2,v3,_,rfl,r3,v4,_,rfl,r4,v5,_,rfl,r5,rfl⟩:=r;exact⟨yJ (one r1) (.inr (.inl ⟨_,int q2⟩)) (yJ (one r3) (vU r4 hs.2.1) (M4 (vU r5 hs.2.2) nil)),⟨k,by rw[int q2];rfl⟩,by show 2<=5;decide,by show 5<=5;decide,fun _=>rfl⟩
 |iU k sg l r2 b=>
  simp only[JI,C9,aG.aM,aG.aS] at r;obtain⟨v1,_,rfl,r1,v2,_,rfl,q2,v3,_,rfl,r3,v4,_,rfl,r4,v5,_,rfl,r5,rfl⟩:=r;exact⟨yJ (one r1) (.inr (.inl ⟨_,int q2⟩)) (yJ (one r3) (vU r4 hs.2.1) (M4 (vU r5 hs.2.2) nil)),⟨k,by rw[int q2];rfl⟩,by show 2<=5;decide,by show 5<=5;decide,fun _=>rfl⟩
section
variable(K:zaa)
inductive M5(n:Nat)(vs:List V)(H:Hp)(Q:VK)(E:XK):Prop
 |mk (v:V) (t:PM.Tr):vs=[v]->Rep K H (cV t) v->PM.JA t->A7 t<n->(∀H',ar H H'->Q (.bl true) H')->M5 n vs H Q E
inductive EC(n:Nat)(vs:List V)(H:Hp)(Q:VK)(E:XK):Prop
 |mk (L:zdU) (aE:List zdU) (c:PM.Dc) (lv:List Nat) (i:Nat) (zs:List V):vs=[.ref (aE.getD i 0),.ref L]->c.Ok->PM.EA c lv->vS K H aE c.aJ->i<c.aJ.length->6<=lv.getD i 0+n->L ∉ aE->H L=some (.lst zs)->zs.length+(PM.reach c.aJ n i).length<=1000->(∀ss∈c.aJ,ss.length<=100)->(∀H',(∀y u,y≠L->H y=some u->H' y=some u)->H' L=some (.lst (zs++(PM.reach c.aJ n i).map fun j=>V.ref (aE.getD j 0)))->Q (.bl true) H')->EC n vs H Q E
end
theorem xj{x:W}(h:PM.isName x=true):PyData.strOk (S x)=true:=Og fun c hc=>by
 simp only[PM.isName,zaD] at h;have:=za1.mp h.1.2 c hc;simp only[PM.isLetter,zaD,decide_eq_true_eq] at this;lia
theorem Gu:∀t:PM.Tr,PM.JA t->PyData.canLay0 (cV t).py=true/\(cV t).py.depth<=A7 t+1
 |.num n,_=>by
  have e:PyData.strOk (zab "number")=true:=by decide +kernel
  simp[cV,Dp.py,Dp.nW,PyData.canLay0,PyData.canLayAll0,PyData.depth,PyData.depthAll,e]
 |.box x,ok=>by
  have e:PyData.strOk (zab "box")=true:=by decide +kernel
  have e2:=xj (show PM.isName x=true from ok);simp[cV,Dp.py,Dp.nW,PyData.canLay0,PyData.canLayAll0,PyData.depth,PyData.depthAll,e,e2]
 |.bin o l r,ok=>by
  obtain⟨ho,LC,LD⟩:=ok;obtain⟨l1,l2⟩:=Gu l LC;obtain⟨r1,r2⟩:=Gu r LD;have e2:PyData.strOk (S o)=true:=by rcases ho with rfl |rfl |rfl<;>decide +kernel
  refine⟨by simp[cV,Dp.py,Dp.nW,PyData.canLay0,PyData.canLayAll0,e2,l1,r1],?_⟩;simp only[cV,Dp.py,Dp.nW,PyData.depth,PyData.depthAll,A7];lia
theorem pj{t:PM.Tr}(h:PM.NJ t):PyData.canLay0 (cV t).py=true/\(cV t).py.depth<=4:=by
 obtain⟨h1,h2⟩:=Gu t h.1;exact⟨h1,by have:=h.2;lia⟩
theorem M6{sg:W}(h:sg=[60]\/sg=[61]):PyData.strOk (S sg)=true:=by rcases h with rfl |rfl<;>decide +kernel
theorem Im{f:Nat->List PG.cw}{s:PM.Sa}{D:Nat}(hs:PM.WN s)(hb:∀b∈PM.gw s,PyData.canLayAll0 (Dp.nW (tw (f b)))=true/\PyData.depthAll (Dp.nW (tw (f b)))<=D):(oU (JJ f s)).py.canLay0=true/\(oU (JJ f s)).py.depth<=max 6 (D+2):=by
 cases s with
 |ask k n=>
  have e:=xj (show PM.isName n=true from hs);simp only[JJ,oU,Dp.py,Dp.nW,PyData.canLay0,PyData.canLayAll0,PyData.depth,PyData.depthAll,e];exact⟨by decide +kernel,by lia⟩
 |put k n x=>
  have e:=xj hs.1;obtain⟨l1,l2⟩:=pj hs.2;simp only[JJ,oU,Dp.py,Dp.nW,PyData.canLay0,PyData.canLayAll0,PyData.depth,PyData.depthAll,e,l1];exact⟨by decide +kernel,by lia⟩
 |say k x=>
  obtain⟨l1,l2⟩:=pj hs;simp only[JJ,oU,Dp.py,Dp.nW,PyData.canLay0,PyData.canLayAll0,PyData.depth,PyData.depthAll,l1];exact⟨by decide +kernel,by lia⟩
 |stop k=>
  simp only[JJ,oU,Dp.py,Dp.nW,PyData.canLay0,PyData.canLayAll0,PyData.depth,PyData.depthAll];exact⟨by decide +kernel,by lia⟩
 |eI k sg l r=>
  have e:=M6 hs.1;obtain⟨l1,l2⟩:=pj hs.2.1;obtain⟨r1,r2⟩:=pj hs.2.2;simp only[JJ,oU,Dp.py,Dp.nW,PyData.canLay0,PyData.canLayAll0,PyData.depth,PyData.depthAll,e,l1,r1];exact⟨by decide +kernel,by lia⟩
 |ifs k sg l r b c=>
  have e:=M6 hs.1;obtain⟨l1,l2⟩:=pj hs.2.1;obtain⟨r1,r2⟩:=pj hs.2.2;obtain⟨a1,a2⟩:=hb b (by simp[PM.gw]);obtain⟨b1,b2⟩:=hb c (by simp[PM.gw]);simp only[JJ,oU,Dp.py,Dp.nW,PyData.canLay0,PyData.canLayAll0,PyData.depth,PyData.depthAll,e,l1,r1,a1,b1];exact⟨by decide +kernel,by lia⟩
 |iU k sg l r b=>
  have e:=M6 hs.1;obtain⟨l1,l2⟩:=pj hs.2.1;obtain⟨r1,r2⟩:=pj hs.2.2;obtain⟨a1,a2⟩:=hb b (by simp[PM.gw]);simp only[JJ,oU,Dp.py,Dp.nW,PyData.canLay0,PyData.canLayAll0,PyData.depth,PyData.depthAll,e,l1,r1,a1];exact⟨by decide +kernel,by lia⟩
theorem Io{D:Nat}:∀ {l:List PG.cw},(∀s∈l,(oU s).py.canLay0=true/\(oU s).py.depth<=D)->PyData.canLayAll0 (Dp.nW (tw l))=true/\PyData.depthAll (Dp.nW (tw l))<=D
 |[],_=>by simp[tw,Dp.nW,PyData.canLayAll0,PyData.depthAll]
 |s::l,h=>by
  obtain⟨a1,a2⟩:=h s zaq;obtain⟨b1,b2⟩:=Io fun x hx=>h x (zam _ hx);simp only[tw,Dp.nW,PyData.canLayAll0,PyData.depthAll,a1,b1];exact⟨rfl,by lia⟩
theorem Ip{c:PM.Dc}{lv:List Nat}(h:PM.EA c lv):∀(n i:Nat),PyData.canLayAll0 (Dp.nW (tw (MY c.aJ n i)))=true/\PyData.depthAll (Dp.nW (tw (MY c.aJ n i)))<=2*(5-lv.getD i 0)+6
 |0,i=>by
  have:MY c.aJ 0 i=[]:=rfl;rw[this];exact⟨rfl,zaJ _⟩
 |n+1,i=>by
  refine Io fun s hs=>?_;rw[MY] at hs;obtain⟨x,hx,rfl⟩:=zaK.mp hs;rw[zae] at hx;cases e:c.aJ[i]? with
  |none=>rw[e] at hx;cases hx
  |some ss=>
   rw[e] at hx;have hk:=h.ks ss (zal e) x hx;have IF:∀b∈PM.gw x,lv.getD b 0=lv.getD i 0+1:=fun b hb=>h.up i ss e b (zbb.mpr ⟨x,hx,hb⟩);by_cases hc:PM.gw x=[]
   ·obtain⟨a1,a2⟩:=Im (f:=MY c.aJ n) (D:=0) hk (fun b hb=>by rw[hc] at hb;cases hb);exact⟨a1,by lia⟩
   ·obtain⟨b0,hb0⟩:=List.exists_mem_of_ne_nil _ hc;have l6:=h.l5 b0;have e0:=IF b0 hb0;obtain⟨a1,a2⟩:=Im (f:=MY c.aJ n) (D:=2*(5-(lv.getD i 0+1))+6) hk (fun b hb=>by
     obtain⟨q1,q2⟩:=Ip h n b;rw[IF b hb] at q2;exact⟨q1,q2⟩)
    exact⟨a1,by lia⟩
theorem Iq:∀ {bs:List (W×Int×Int)},(∀b∈bs,NI b)->PyData.canLayAll0 (Dp.nW (bs.map xg))=true/\PyData.depthAll (Dp.nW (bs.map xg))<=1
 |[],_=>by simp[Dp.nW,PyData.canLayAll0,PyData.depthAll]
 |b::bs,h=>by
  obtain⟨h1,h2⟩:=Iq (bs:=bs) fun x hx=>h x (zam _ hx);have e:=xj (h b zaq).nm;simp only[zar,xg,Dp.nW,Dp.py,PyData.canLayAll0,PyData.depthAll,PyData.canLay0,PyData.depth,e,h1];exact⟨rfl,by lia⟩
theorem Gv{c:PM.Dc}{lv:List Nat}(h:PM.EA c lv)(hb:∀b∈c.nB,NI b):SeqAt.shaped (OR c).py=true:=by
 obtain⟨a1,a2⟩:=Iq hb;obtain⟨b1,b2⟩:=Ip h c.aJ.length 0;rw[xX] at b1 b2;unfold SeqAt.shaped OR;simp only[Dp.py,Dp.nW,PyData.canLay0,PyData.canLayAll0,PyData.depth,PyData.depthAll,a1,b1];simp only[Bool.and_self,zdB,decide_eq_true_eq];lia
theorem WM.rep{K:zaa}{H H':Hp}{v:V}{bx:zdU}{aE:List zdU}{c:PM.Dc}(h:WM K H H' v bx aE c):Rep K H' (OR c) v:=by
 obtain⟨a,rfl,y⟩:=h.pr;obtain⟨us,yb,rb⟩:=h.box;have il:0<aE.length:=by rw[h.ct.ln];exact h.ok.ft.ne
 have ei:aE[0]?=some (aE.getD 0 0):=by rw[zae,zac il];rfl
 exact Rep.aZ.mpr ⟨a,_,rfl,.of y,.cons (Rep.iq.mpr ⟨bx,us,rfl,.of yb,rb⟩) (.cons (h.ct.rep h.ok.ft _ 0 h.ok.ft.ne (by lia) _ ei) .nil)⟩
end L2
namespace PM
theorem take_size{c:Dc}{k:Int}{f:Fm}{M:Nat}(h:∀ss∈c.aJ,ss.length<=M):(∀ss∈(dE c k f).aJ,ss.length<=M+1)/\(dE c k f).aJ.length<=c.aJ.length+2:=by
 have up:∀ss∈c.aJ,ss.length<=M+1:=fun ss hs=>zbS (h ss hs);have wC:∀g,(∀ss∈(kq c k g).aJ,ss.length<=M+1)/\(kq c k g).aJ.length<=c.aJ.length+2:=fun g=>by
  refine⟨fun ss hs=>?_,?_⟩
  ·have hs':ss∈gx c.aJ c.top (sH k c.aJ.length g)++zap (uX (opens g)) []:=hs;rcases zaj.mp hs' with z |z
   ·unfold gx at z;rcases zbV z with z |rfl
    ·exact up ss z
    ·rw[zaf,zav,zae];cases e:c.aJ[c.top]? with
     |none=>show 0+1<=M+1;lia
     |some s0=>have:=h s0 (zal e);show s0.length+1<=M+1;lia
   ·rw[(zbQ.mp z).2];exact zaJ _
  ·show (gx c.aJ c.top (sH k c.aJ.length g)++zap (uX (opens g)) []).length<=_;rw[zaf,fJ,za4];have:uX (opens g)<=2:=by
    cases opens g with
    |none=>exact zaJ _
    |some b=>cases b<;>decide
   lia
 cases f with
 |box n a b=>exact⟨up,zbk _ _⟩
 |ask x=>exact wC _
 |put x e=>exact wC _
 |say e=>exact wC _
 |cond w sg l r=>exact wC _
 |one w=>
  rw[L2.nD];split
  ·exact⟨up,zbk _ _⟩
  ·split
   ·exact⟨up,zbk _ _⟩
   ·exact wC _
theorem Bt:∀(ws:List W) (c:Dc) (k:Int) (M:Nat),(∀ss∈c.aJ,ss.length<=M)->(∀ss∈(dq c k ws).aJ,ss.length<=M+ws.length)/\(dq c k ws).aJ.length<=c.aJ.length+2*ws.length
 |[],c,k,M,h=>⟨h,zag _⟩
 |r::ws,c,k,M,h=>by
  rw[dq];cases hf:fI (L2.aU 32 r) with
  |none=>exact⟨fun ss hs=>zaA (h ss hs) (zbk _ _),zbk _ _⟩
  |some f=>
   obtain⟨a,b⟩:=take_size (k:=k) (f:=f) h;obtain⟨a2,b2⟩:=Bt ws (dE c k f) (k+1) (M+1) a;rw[zah];exact⟨fun ss hs=>by have:=a2 ss hs;lia,by simp only;lia⟩
theorem yK{aJ:List (List Sa)}(h:JH aJ):∀(n i:Nat),i<aJ.length->∀x∈reach aJ n i,x<aJ.length
 |0,i,hi,x,hx=>by rw[zad.mp hx];exact hi
 |n+1,i,hi,x,hx=>by
  rcases zak.mp hx with rfl |hx
  ·exact hi
  ·obtain⟨b,hb,hx⟩:=zbb.mp hx;obtain⟨ss,e,hb⟩:=getD_some hb;exact yK h n b (h.up i ss e b hb).2 x hx
theorem JL{aJ:List (List Sa)}(h:JH aJ)(n:Nat){i:Nat}(hi:i<aJ.length):(reach aJ n i).length<=aJ.length:=by
 have:=PG.qr (reach aJ n i) (zaE aJ.length) (ph h n i) fun x hx=>zbh.mpr (yK h n i hi x hx)
 rwa [zb8] at this
end PM
namespace L2
open PySem PySem.Spec PyProof.Rows
theorem Gw{K:zaa}{H:Hp}{bx:zdU}{aE:List zdU}{aJ:List (List PM.Sa)}(ct:vS K H aE aJ)(ft:PM.JH aJ)(nb:bx ∉ aE)(n:Nat):(bx::(PM.reach aJ n 0).map fun j=>aE.getD j 0).Nodup/\∀a∈bx::(PM.reach aJ n 0).map (fun j=>aE.getD j 0),a=bx\/a∈aE:=by
 have hm:∀j∈PM.reach aJ n 0,j<aE.length:=fun j hj=>by rw[ct.ln];exact PM.yK ft n 0 ft.ne j hj
 have mem:∀j∈PM.reach aJ n 0,aE.getD j 0∈aE:=fun j hj=>by
  rw[zae,zac (hm j hj)];exact zaI _
 refine⟨zbd.mpr ⟨fun z=>?_,?_⟩,fun a ha=>?_⟩
 ·obtain⟨j,hj,e⟩:=zaK.mp z;exact nb (e▸mem j hj)
 ·show List.Pairwise (·≠·) _;rw[List.pairwise_map];refine List.Pairwise.imp_of_mem ?_ (PM.ph ft n 0);intro a b ha hb ne e;rw[zae,zae,zac (hm a ha),zac (hm b hb)] at e;exact ne ((zbX ct.nd).mp e)
 ·rcases zak.mp ha with z |z
  ·exact .inl z
  ·obtain⟨j,hj,rfl⟩:=zaK.mp z;exact .inr (mem j hj)
end L2
namespace PM
theorem Ir:∀(ws:List W) (c:Dc) (k:Int),(dq c k ws).nB.length<=c.nB.length+ws.length
 |[],c,k=>zag _
 |r::ws,c,k=>by
  rw[dq,zah];cases hf:fI (L2.aU 32 r) with
  |none=>show c.nB.length<=_;lia
  |some f=>
   have:=Ir ws (dE c k f) (k+1);have h1:(dE c k f).nB.length<=c.nB.length+1:=by
    cases f with
    |box n a b=>show (c.nB++[(n,a,b)]).length<=_;rw[zaf];exact zag _
    |ask x=>exact zbN _
    |put x e=>exact zbN _
    |say e=>exact zbN _
    |cond w sg l r=>exact zbN _
    |one w=>
     rw[L2.nD];split
     ·exact zbN _
     ·split<;>exact zbN _
   simp only;lia
end PM
namespace L2
open PySem
def nX (H:Hp) (a:zdU):List V:=match H a with
 |some (.lst xs)=>xs
 |_=>[]
end L2
section
set_option maxHeartbeats 4000000
namespace Sy
open PySem L2
def top (i:Nat):Stmt:=PySem.Challenge.pw_everyrow_k06_whole_programs_read.main.body.getD i (.Pass ⟨0,0,0,0⟩)
abbrev B8:Stmt:=top 19
abbrev u6:Stmt:=top 20
abbrev pq:Stmt:=top 21
abbrev nE:Stmt:=top 22
abbrev rV:Stmt:=top 23
abbrev px:Stmt:=top 25
abbrev u7:Stmt:=top 26
abbrev rW:Stmt:=top 27
abbrev kr:Stmt:=top 28
abbrev lY:Stmt:=top 29
abbrev ku:Stmt:=top 30
abbrev Gx:Stmt:=top 38
abbrev u9:Stmt:=top 40
abbrev rX:Stmt:=top 41
abbrev i3:Stmt:=top 42
abbrev pz:Stmt:=top 43
abbrev lZ:Stmt:=top 44
abbrev rY:Stmt:=top 45
abbrev rZ:Stmt:=top 46
abbrev l7:Stmt:=top 47
abbrev pA:Stmt:=top 48
abbrev r6:Stmt:=top 49
abbrev i4:Stmt:=top 50
abbrev jQ:Stmt:=top 51
abbrev nF:Stmt:=top 52
abbrev kx:Stmt:=top 54
abbrev pB:Stmt:=top 55
abbrev b8:Stmt:=top 56
abbrev pC:Stmt:=top 57
abbrev pD:Stmt:=top 58
abbrev l8:Stmt:=top 59
abbrev ky:Stmt:=top 60
abbrev pE:Stmt:=top 61
abbrev nG:Stmt:=top 62
abbrev nH:Stmt:=top 63
abbrev ma:Stmt:=top 64
abbrev r9:Stmt:=top 65
abbrev nI:Stmt:=top 66
abbrev nJ:Stmt:=top 67
abbrev pF:Stmt:=top 68
abbrev M7:Stmt:=top 69
abbrev cE:Stmt:=inClass (top 24) 0
abbrev cp:Stmt:=inClass (top 24) 1
abbrev cF:Stmt:=inClass (top 24) 2
abbrev cT:Stmt:=inClass (top 39) 0
abbrev bS:Stmt:=inClass (top 39) 1
abbrev bC:Stmt:=inClass (top 39) 2
abbrev bT:Stmt:=inClass (top 39) 3
theorem ED:aR ["word", "signs"] ["word", "signs"] (av B8):=⟨rfl,rfl,rfl,by decide +kernel,rfl,by decide +kernel,by decide +kernel⟩
theorem yM:aR ["word"] ["word"] (av u6):=⟨rfl,rfl,rfl,by decide +kernel,rfl,by decide +kernel,by decide +kernel⟩
theorem tK:aR ["word"] ["word"] (av pq):=⟨rfl,rfl,rfl,by decide +kernel,rfl,by decide +kernel,by decide +kernel⟩
theorem qK:aR ["word", "pieces", "e"] ["word"] (av nE):=⟨rfl,rfl,rfl,by decide +kernel,rfl,by decide +kernel,by decide +kernel⟩
theorem vV:aR ["e"] ["e"] (av rV):=⟨rfl,rfl,rfl,by decide +kernel,rfl,by decide +kernel,by decide +kernel⟩
theorem tL:aR ["word", "pieces", "before", "sign", "kind"] ["word"] (av px):=⟨rfl,rfl,rfl,by decide +kernel,rfl,by decide +kernel,by decide +kernel⟩
theorem yP:aR ["sign"] ["sign"] (av u7):=⟨rfl,rfl,rfl,by decide +kernel,rfl,by decide +kernel,by decide +kernel⟩
theorem vW:aR ["pieces", "depth", "e", "sign"] ["pieces", "depth"] (av rW):=⟨rfl,rfl,rfl,by decide +kernel,rfl,by decide +kernel,by decide +kernel⟩
theorem nY:aR ["pieces", "depth", "e", "sign"] ["pieces", "depth"] (av kr):=⟨rfl,rfl,rfl,by decide +kernel,rfl,by decide +kernel,by decide +kernel⟩
theorem pG:aR ["pieces", "depth", "piece"] ["pieces", "depth"] (av lY):=⟨rfl,rfl,rfl,by decide +kernel,rfl,by decide +kernel,by decide +kernel⟩
theorem gJ:aR ["pieces", "depth", "e"] ["pieces", "depth"] (av ku):=⟨rfl,rfl,rfl,by decide +kernel,rfl,by decide +kernel,by decide +kernel⟩
theorem Iu:aR ["text", "rows", "draft", "number", "row"] ["text"] (av Gx):=⟨rfl,rfl,rfl,by decide +kernel,rfl,by decide +kernel,by decide +kernel⟩
theorem yQ:aR ["row", "words", "word"] ["row"] (av u9):=⟨rfl,rfl,rfl,by decide +kernel,rfl,by decide +kernel,by decide +kernel⟩
theorem vX:aR ["words"] ["words"] (av rX):=⟨rfl,rfl,rfl,by decide +kernel,rfl,by decide +kernel,by decide +kernel⟩
theorem lE:aR ["words"] ["words"] (av i3):=⟨rfl,rfl,rfl,by decide +kernel,rfl,by decide +kernel,by decide +kernel⟩
theorem tM:aR ["word"] ["word"] (av pz):=⟨rfl,rfl,rfl,by decide +kernel,rfl,by decide +kernel,by decide +kernel⟩
theorem pH:aR ["word"] ["word"] (av lZ):=⟨rfl,rfl,rfl,by decide +kernel,rfl,by decide +kernel,by decide +kernel⟩
theorem vY:aR ["draft", "number", "form", "word"] ["draft", "number", "form"] (av rY):=⟨rfl,rfl,rfl,by decide +kernel,rfl,by decide +kernel,by decide +kernel⟩
theorem vZ:aR ["draft", "number", "box"] ["draft", "number", "box"] (av rZ):=⟨rfl,rfl,rfl,by decide +kernel,rfl,by decide +kernel,by decide +kernel⟩
theorem pI:aR ["size", "first"] ["size", "first"] (av l7):=⟨rfl,rfl,rfl,by decide +kernel,rfl,by decide +kernel,by decide +kernel⟩
theorem tO:aR ["draft", "number", "second"] ["draft", "number"] (av pA):=⟨rfl,rfl,rfl,by decide +kernel,rfl,by decide +kernel,by decide +kernel⟩
theorem v7:aR ["draft", "number"] ["draft", "number"] (av r6):=⟨rfl,rfl,rfl,by decide +kernel,rfl,by decide +kernel,by decide +kernel⟩
theorem lF:aR ["draft", "number", "form", "word", "names", "name", "bodies"] ["draft", "number", "form"] (av i4):=⟨rfl,rfl,rfl,by decide +kernel,rfl,by decide +kernel,by decide +kernel⟩
theorem mL:aR ["form", "word"] ["form"] (av jQ):=⟨rfl,rfl,rfl,by decide +kernel,rfl,by decide +kernel,by decide +kernel⟩
theorem qL:aR ["word"] ["word"] (av nF):=⟨rfl,rfl,rfl,by decide +kernel,rfl,by decide +kernel,by decide +kernel⟩
theorem n8:aR ["script", "k"] ["script", "k"] (av kx):=⟨rfl,rfl,rfl,by decide +kernel,rfl,by decide +kernel,by decide +kernel⟩
theorem tP:aR ["cell", "k", "number"] ["cell", "k"] (av pB):=⟨rfl,rfl,rfl,by decide +kernel,rfl,by decide +kernel,by decide +kernel⟩
theorem qM:aR ["head", "k", "many", "letters", "barred", "size", "stem", "found", "j", "number", "at", "word"] ["head", "k", "many"] (av b8):=⟨rfl,rfl,rfl,by decide +kernel,rfl,by decide +kernel,by decide +kernel⟩
theorem tQ:aR ["number", "names"] ["number", "names"] (av pC):=⟨rfl,rfl,rfl,by decide +kernel,rfl,by decide +kernel,by decide +kernel⟩
theorem tR:aR ["cell", "k", "deep", "names", "number", "sign"] ["cell", "k", "deep", "names"] (av pD):=⟨rfl,rfl,rfl,by decide +kernel,rfl,by decide +kernel,by decide +kernel⟩
theorem pJ:aR ["tree", "more", "left", "right"] ["tree", "more"] (av l8):=⟨rfl,rfl,rfl,by decide +kernel,rfl,by decide +kernel,by decide +kernel⟩
theorem n9:aR ["word", "deep", "most", "sign"] ["word"] (av ky):=⟨rfl,rfl,rfl,by decide +kernel,rfl,by decide +kernel,by decide +kernel⟩
theorem tS:aR ["cell", "k", "names", "tree", "more", "word"] ["cell", "k", "names"] (av pE):=⟨rfl,rfl,rfl,by decide +kernel,rfl,by decide +kernel,by decide +kernel⟩
theorem qN:aR ["head", "names", "boxes", "k", "number", "size"] ["head"] (av nG):=⟨rfl,rfl,rfl,by decide +kernel,rfl,by decide +kernel,by decide +kernel⟩
theorem qO:aR ["cell", "k", "names", "number", "word", "tree", "kind", "name", "other", "sign"] ["cell", "k", "names"] (av nH):=⟨rfl,rfl,rfl,by decide +kernel,rfl,by decide +kernel,by decide +kernel⟩
theorem pK:aR ["cell", "k", "names", "one", "other", "sign"] ["cell", "k", "names"] (av ma):=⟨rfl,rfl,rfl,by decide +kernel,rfl,by decide +kernel,by decide +kernel⟩
theorem v8:aR ["cell", "k", "opened", "names", "number", "row", "told"] ["cell", "k", "opened", "names"] (av r9):=⟨rfl,rfl,rfl,by decide +kernel,rfl,by decide +kernel,by decide +kernel⟩
theorem qP:aR ["script", "head", "boxes", "rows", "body", "opened", "names", "cell"] ["script", "head"] (av nI):=⟨rfl,rfl,rfl,by decide +kernel,rfl,by decide +kernel,by decide +kernel⟩
theorem qQ:aR ["tree"] ["tree"] (av nJ):=⟨rfl,rfl,rfl,by decide +kernel,rfl,by decide +kernel,by decide +kernel⟩
theorem tT:aR ["body", "lists", "told", "trees", "part"] ["body", "lists"] (av pF):=⟨rfl,rfl,rfl,by decide +kernel,rfl,by decide +kernel,by decide +kernel⟩
theorem M8:aR ["script", "rows", "program", "text", "found", "lists", "name", "size", "first", "sizes", "some"] ["script"] (av M7):=⟨rfl,rfl,rfl,by decide +kernel,rfl,by decide +kernel,by decide +kernel⟩
theorem pL:aR ["self", "word"] ["self", "word"] (av cE):=⟨rfl,rfl,rfl,by decide +kernel,rfl,by decide +kernel,by decide +kernel⟩
theorem oa:aR ["self"] ["self"] (av cp):=⟨rfl,rfl,rfl,by decide +kernel,rfl,by decide +kernel,by decide +kernel⟩
theorem pM:aR ["self", "piece"] ["self"] (av cF):=⟨rfl,rfl,rfl,by decide +kernel,rfl,by decide +kernel,by decide +kernel⟩
theorem qR:aR ["self"] ["self"] (av cT):=⟨rfl,rfl,rfl,by decide +kernel,rfl,by decide +kernel,by decide +kernel⟩
theorem kz:aR ["self"] ["self"] (av bS):=⟨rfl,rfl,rfl,by decide +kernel,rfl,by decide +kernel,by decide +kernel⟩
theorem jx:aR ["self"] ["self"] (av bC):=⟨rfl,rfl,rfl,by decide +kernel,rfl,by decide +kernel,by decide +kernel⟩
theorem kA:aR ["self"] ["self"] (av bT):=⟨rfl,rfl,rfl,by decide +kernel,rfl,by decide +kernel,by decide +kernel⟩
@[irreducible] def wD:List Expr:=RH ((bI b8).getD 1 (.Pass ⟨0,0,0,0⟩))
theorem z8:bI b8=[(bI b8).getD 0 (.Pass ⟨0,0,0,0⟩),LR wD ((bI b8).getD 1 (.Pass ⟨0,0,0,0⟩)),(bI b8).getD 2 (.Pass ⟨0,0,0,0⟩),(bI b8).getD 3 (.Pass ⟨0,0,0,0⟩),(bI b8).getD 4 (.Pass ⟨0,0,0,0⟩),(bI b8).getD 5 (.Pass ⟨0,0,0,0⟩),(bI b8).getD 6 (.Pass ⟨0,0,0,0⟩)]:=by kernel_rfl
set_option genInjectivity false in
structure Ad where
 nK:zdU
 mM:zd3
 i5:zdU
 ja:zd3
 fK:zdU
 gb:zd3
 iz:zdU
 jh:zd3
 gR:zdU
 g9:zd3
 hG:zdU
 iA:zd3
 ke:zdU
 kB:zd3
 fM:zdU
 fP:zd3
 d0:zdU
 eM:zd3
 eT:zdU
 fQ:zd3
 c8:zdU
 dv:zd3
 yS:zdU
 xk:zd3
 mO:zdU
 nM:zd3
 kC:zdU
 lG:zd3
 d4:zdU
 fw:zd3
 jy:zdU
 j6:zd3
 gC:zdU
 iB:zd3
 kD:zdU
 lH:zd3
 kE:zdU
 lI:zd3
 gE:zdU
 iC:zd3
 jz:zdU
 j7:zd3
 kF:zdU
 lJ:zd3
 d7:zdU
 fz:zd3
 eO:zdU
 gc:zd3
 iD:zdU
 ji:zd3
 fS:zdU
 gK:zd3
 hJ:zdU
 iE:zd3
 iF:zdU
 jj:zd3
 hV:zdU
 iG:zd3
 fT:zdU
 gd:zd3
 dO:zdU
 d9:zd3
 fU:zdU
 gM:zd3
 jA:zdU
 j8:zd3
 iH:zdU
 jk:zd3
 iI:zdU
 jm:zd3
 gF:zdU
 iJ:zd3
 kG:zdU
 lK:zd3
 iK:zdU
 jn:zd3
 eJ:zdU
 eU:zd3
 fV:zdU
 gf:zd3
 Iv:zdU
 vd:zd3
 cm:zdU
 iL:zd3
 bG:zdU
 cO:zd3
 bJ:zdU
 cL:zd3
 cU:zdU
 mf:zd3
 bU:zdU
 gS:zd3
 bD:zdU
 fW:zd3
 bV:zdU
 gU:zd3
 aI:zdU
 a7:zdU
 nN:zdU
 eV:zdU
 bA:zdU
 eW:zdU
 eX:zdU
 cW:zdU
 jo:zdU
 mh:zdU
 jq:zdU
 mj:zdU
 fX:zdU
 cX:zdU
set_option genInjectivity false in
structure Tx(K:zaa)(mg:Str->Option zdV)(t:Ad):Prop where
 j9:cb K mg "is_of" B8 ["word", "signs"] t.nK t.mM
 gg:cb K mg "is_name" u6 ["word"] t.i5 t.ja
 dG:cb K mg "is_number" pq ["word"] t.fK t.gb
 bN:cb K mg "expression" nE ["word"] t.iz t.jh
 bu:cb K mg "names_in" rV ["e"] t.gR t.g9
 ic:cb K mg "pieces_of" px ["word"] t.hG t.iA
 kf:cb K mg "kind_of" u7 ["sign"] t.ke t.kB
 cP:cb K mg "sum_from" rW ["pieces", "depth"] t.fM t.fP
 cq:cb K mg "product_from" kr ["pieces", "depth"] t.d0 t.eM
 cG:cb K mg "factor_from" lY ["pieces", "depth"] t.eT t.fQ
 c9:cb K mg "bracket_from" ku ["pieces", "depth"] t.c8 t.dv
 nP:cb K mg "read" Gx ["text"] t.yS t.xk
 kg:cb K mg "form_of" u9 ["row"] t.mO t.nM
 jb:cb K mg "box_form" rX ["words"] t.kC t.lG
 cZ:cb K mg "condition_form" i3 ["words"] t.d4 t.fw
 cx:cb K mg "name_from" pz ["word"] t.jy t.j6
 cH:cb K mg "number_from" lZ ["word"] t.gC t.iB
 jc:cb K mg "take_row" rY ["draft", "number", "form"] t.kD t.lH
 jd:cb K mg "take_box" rZ ["draft", "number", "box"] t.kE t.lI
 eY:cb K mg "is_measured" l7 ["size", "first"] t.gE t.iC
 ie:cb K mg "take_else" pA ["draft", "number"] t.jz t.j7
 je:cb K mg "take_end" r6 ["draft", "number"] t.kF t.lJ
 c5:cb K mg "take_statement" i4 ["draft", "number", "form"] t.d7 t.fz
 dw:cb K mg "names_of_form" jQ ["form"] t.eO t.gc
 gh:cb K mg "bodies_for" nF ["word"] t.iD t.ji
 eB:cb K mg "_law_cell_at" kx ["script", "k"] t.fS t.gK
 aA:cb K mg "_law_stir" pB ["cell", "k"] t.hJ t.iE
 gj:cb K mg "_law_names" b8 ["head", "k", "many"] t.iF t.jj
 ij:cb K mg "_law_leaf" pC ["number", "names"] t.hV t.iG
 cy:cb K mg "_law_tree" pD ["cell", "k", "deep", "names"] t.fT t.gd
 bZ:cb K mg "_law_worded" l8 ["tree", "more"] t.dO t.d9
 eE:cb K mg "_law_deepest" ky ["word"] t.fU t.gM
 bY:cb K mg "_law_expr" pE ["cell", "k", "names"] t.jA t.j8
 gk:cb K mg "_law_boxes" nG ["head"] t.iH t.jk
 gm:cb K mg "_law_plain" nH ["cell", "k", "names"] t.iI t.jm
 eZ:cb K mg "_law_opener" ma ["cell", "k", "names"] t.gF t.iJ
 jf:cb K mg "_law_row" r9 ["cell", "k", "opened", "names"] t.kG t.lK
 gn:cb K mg "_law_built" nI ["script", "head"] t.iK t.jn
 b9:cb K mg "_law_whole" nJ ["tree"] t.eJ t.eU
 dH:cb K mg "_law_body" pF ["body", "lists"] t.fV t.gf
 Iw:cb K mg "law" M7 ["script"] t.Iv t.vd
 jr:C5 K "__init__" "Pieces.__init__" cE t.cm t.iL
 z9:Binds K t.iL ["self", "word"] []
 iM:C5 K "ahead" "Pieces.ahead" cp t.bG t.cO
 iN:Binds K t.cO ["self"] []
 iO:Meth K t.aI "ahead" t.bG
 jt:C5 K "take" "Pieces.take" cF t.bJ t.cL
 gG:Binds K t.cL ["self"] []
 gH:Meth K t.aI "take" t.bJ
 ka:C5 K "__init__" "Draft.__init__" cT t.cU t.mf
 B9:Binds K t.mf ["self"] []
 fA:C5 K "innermost" "Draft.innermost" bS t.bU t.gS
 tU:Binds K t.gS ["self"] []
 tV:Meth K t.a7 "innermost" t.bU
 dS:C5 K "second_body" "Draft.second_body" bC t.bD t.fW
 qy:Binds K t.fW ["self"] []
 qz:Meth K t.a7 "second_body" t.bD
 fC:C5 K "box_names" "Draft.box_names" bT t.bV t.gU
 lL:Binds K t.gU ["self"] []
 lM:Meth K t.a7 "box_names" t.bV
 cu:Ke K t.aI
 JM:mg "Pieces"=some (.ref t.aI)
 vf:Mk K t.aI t.cm
 eF:jJ K t.aI "pieces"
 dy:jJ K t.aI "place"
 bL:Ke K t.a7
 M9:mg "Draft"=some (.ref t.a7)
 yT:Mk K t.a7 t.cU
 da:jJ K t.a7 "boxes"
 e6:jJ K t.a7 "body"
 bw:jJ K t.a7 "nest"
 Qw:mg "RowError"=some (.ref t.nN)
 vg:wu K t.eV
 yU:zaY K (.ref t.eV) (.ref t.eV)=some true
 Gy:mg "TooLong"=some (.ref t.eV)
 fD:wu K t.bA
 EE:zaY K (.ref t.bA) (.ref t.bA)=some true
 eQ:mg "NoRow"=some (.ref t.bA)
 mQ:wu K t.eW
 yV:zaY K (.ref t.eW) (.ref t.eW)=some true
 se:mg "NoPlace"=some (.ref t.eW)
 vh:wu K t.eX
 yW:zaY K (.ref t.eX) (.ref t.eX)=some true
 Gz:mg "TooDeep"=some (.ref t.eX)
 pN:wu K t.cW
 tW:zaY K (.ref t.cW) (.ref t.cW)=some true
 Ca:mg "NoMeasure"=some (.ref t.cW)
 Cb:wu K t.jo
 EF:zaY K (.ref t.jo) (.ref t.jo)=some true
 Na:mg "Twice"=some (.ref t.jo)
 GA:wu K t.mh
 Iy:zaY K (.ref t.mh) (.ref t.mh)=some true
 OS:mg "Full"=some (.ref t.mh)
 Cc:wu K t.jq
 EG:zaY K (.ref t.jq) (.ref t.jq)=some true
 Nb:mg "NoBox"=some (.ref t.jq)
 GB:wu K t.mj
 Iz:zaY K (.ref t.mj) (.ref t.mj)=some true
 OT:mg "Open"=some (.ref t.mj)
 yX:∃u,mg "LETTERS"=some u/\RelV (.str "abcdefghijklmnopqrstuvwxyz") u
 yY:∃u,mg "FIGURES"=some u/\RelV (.str "0123456789") u
 EH:mg "NO_NAMES"=some (.ref t.fX)
 nQ:∀H:Hp,cv K H t.fX [.str "box",.str "ask",.str "put",.str "say",.str "if",.str "else",.str "while",.str "must",.str "stop",.str "end"]
 wF:∃u,mg "MOST_LETTERS"=some u/\RelV (.int 8) u
 wG:∃u,mg "MOST_FIGURES"=some u/\RelV (.int 3) u
 Aa:∃u,mg "MOST_SIGNS"=some u/\RelV (.int 60) u
 mS:∃u,mg "MOST_BRACKETS"=some u/\RelV (.int 5) u
 Ce:∃u,mg "MOST_ROWS"=some u/\RelV (.int 80) u
 Ab:∃u,mg "MOST_BOXES"=some u/\RelV (.int 4) u
 Cf:∃u,mg "MOST_DEEP"=some u/\RelV (.int 5) u
 Ac:∃u,mg "LEAST_SIZE"=some u/\RelV (.int 2) u
 Cg:∃u,mg "MOST_SIZE"=some u/\RelV (.int 10) u
 yZ:mg "WORD_COUNTS"=some (.ref t.cX)
 fY:mg "len"=none
 qw:mg "range"=none
 Bu:mg "int"=none
 vi:mg "bool"=none
 EI:mg "str"=none
 GC:mg "list"=none
 tX:mg "tuple"=none
 Nc:mg "all"=none
 Nd:mg "max"=none
 dJ:mg "isinstance"=none
 pO:mg "enumerate"=none
 tY:mg "ValueError"=none
structure Cd(P:zd6)(w:zdW)(K:zaa)(t:Ad):Prop where
 Ae:Tn P w K t.cX [(.inr "box",.int 4),(.inr "ask",.int 2),(.inr "put",.int 3),(.inr "say",.int 2),(.inr "must",.int 4),(.inr "if",.int 4),(.inr "else",.int 1),(.inr "while",.int 4),(.inr "end",.int 1),(.inr "stop",.int 1)]
end Sy
end
section
set_option maxHeartbeats 4000000
namespace Sy
open PySem L2
local macro_rules | `(tactic|walk_at "rd")=>`(tactic|((try dsimp only[FC,He,Kv,QU,Kw,ZM,QT,Kz,T7,Wq,Rk,XE,K0,BF,KQ,Q8,Q9,BD,Hd,Xz,rU,RC,G5,G6,Pl,Pj,Ky,Ph,NP,KA,QY,QZ,PC,Fv,NO,Ho,PD,Le,Lf,Lg,Lh,Li,Lj,Lk,Ll,Lm,Ln,HI,HJ,HK,HP,HQ,RJ,UJ,QW,Kx,KD,jU,PF,PH,zcQ,Hs,Ht,Lp,Hw,HA,DC,Ma,Mb,Mc,Mv,BV,Yo,Gj,HB,PJ,UL,Lz,Lq,Lr,Xs,za5,zaQ,zah,zbH,Lu,Lv,Me,Mf,Hu]);(try simp only[FC,He,Kv,QU,Kw,ZM,QT,Kz,T7,Wq,Rk,XE,K0,BF,KQ,Q8,Q9,BD,Hd,Xz,rU,RC,G5,G6,Pl,Pj,Ky,Ph,Rt,Ru,NP,KA,QY,QZ,PC,Fv,NO,Ho,PD,Le,Lf,Lg,Lh,Li,Lj,Lk,Ll,Lm,Ln,HI,HJ,HK,HP,HQ,RJ,UJ,QW,Kx,KD,jU,UI,XZ,PF,PH,UK,N8,Lo,Rv,Rw,zcQ,Hs,Ht,Lp,Hw,HA,DC,Ma,Mb,Mc,Mv,BV,Yo,Gj,HB,PJ,UL,Lz,Lq,Lr,Xs,zaC,za5,zaQ,N9,Oa,true_and,and_true,zah,zbH,Ob,Lu,Lv,Me,Mf,Hu,Int.reduceLT,Int.reduceLE,Nat.reduceLeDiff,Nat.reduceAdd,and_self])))
section
variable{P:zd6}{w:zdW}{K:zaa}{mg:Str->Option zdV}{base:Heap}{t:Ad}
theorem EJ(T:Tx K mg t)(ok:Nat->Bool)(signs:Str):a8 P w K mg base gI 1 t.nK t.mM ["word", "signs"] (FX ok signs):=by
 refine T.j9.F.rq ED (fun vs H Q E h=>?_) (fun dM A outer s H vs Q E hr h=>?_)
 ·obtain⟨_,rfl,_⟩:=h;rfl
 obtain⟨wd,rfl,hl,cJ,q⟩:=h;have nd:=ED.nd;refine⟨_,[some (sv wd),some (.str signs)],(ao (aH (bo (LH rfl) rfl T.Nc PyProof.Rows.Boot.«all» (ae (kX (own:=["sign"]) (ix:=[1]) rfl (by rfl) (by rfl) (FV (pv 0)) (fun _ _ _ _=>(bh (i:=0) (by show List.Nodup (["sign", "signs"]:List Str);decide +kernel) rfl (zas rfl))) (fun _ _ _ _=>j4) (fun _ _ _ _=>(kU uB (pv 0) (pv 1) rfl))) af Hv)))),rfl,?_⟩;walk_at "rd";refine⟨S wd,rfl,fun D hD=>?_⟩;refine LL (r:=[some (.str signs)]) (fun _=>true) (fun c=>V.bl (ok c)) (by rw[cj];lia) (fun c _ ys R hR=>hR) (fun c hc _ ys R hR=>?_) ?_
 ·walk_at "rd";refine⟨_,_,rfl,rfl,?_⟩;rw[zcn,cJ];exact hR
 ·refine⟨D,wd.map ok,rfl,.of ?_,?_⟩
  ·rw[aj,RD,zdE.mpr (fun _ _=>rfl),zbv];rfl
  ·rw[zdR];exact q _ (ar.new hD _)
theorem y6(c:Nat):decide (c∈(("abcdefghijklmnopqrstuvwxyz":Str)).cps.toList)=PM.isLetter c:=by
 have e:(("abcdefghijklmnopqrstuvwxyz":Str)).cps.toList=(zaE 26).map (97 + ·):=by decide +kernel
 rw[e,zbz,decide_eq_true_eq,zaK];simp only[PM.isLetter,zaD,decide_eq_true_eq]
 constructor
 ·rintro ⟨a,ha,rfl⟩
  have:=zbh.mp ha;lia
 ·rintro ⟨h1,h2⟩
  exact⟨c-97,zbh.mpr (by lia),by lia⟩
theorem y7(c:Nat):decide (c∈(("0123456789":Str)).cps.toList)=PM.gy c:=by
 have e:(("0123456789":Str)).cps.toList=(zaE 10).map (48 + ·):=by decide +kernel
 rw[e,zbz,decide_eq_true_eq,zaK];simp only[PM.gy,zaD,decide_eq_true_eq]
 constructor
 ·rintro ⟨a,ha,rfl⟩
  have:=zbh.mp ha;lia
 ·rintro ⟨h1,h2⟩
  exact⟨c-48,zbh.mpr (by lia),by lia⟩
theorem GD(T:Tx K mg t):a8 P w K mg base gI 1 t.ke t.kB ["sign"] DK:=by
 refine T.kf.F.rq yP (fun vs H Q E h=>?_) (fun dM A outer s H vs Q E hr h=>?_)
 ·obtain⟨_,rfl,_⟩:=h;rfl
 obtain⟨c,rfl,q⟩:=h;have nd:=yP.nd;obtain⟨JN,vj,vk⟩:=T.yX;obtain⟨JO,vm,vn⟩:=T.yY;refine⟨_,[some (sv [c])],(ag (aX (az uB (pv 0) (dR rfl vj vk) rfl)
 (ao (aH au))
 aF)
 (ag (aX (az uB (pv 0) (dR rfl vm vn) rfl)
 (ao (aH au))
 aF)
 (ao (aH au)))),rfl,?_⟩
 walk_at "rd";refine⟨S [c],_,rfl,rfl,?_⟩;rw[<- LN,zcn,y6];unfold PM.kind at q;refine bW (fun hc=>?_) (fun hc=>?_)
 ·rw[if_pos hc] at q;exact q
 rw[if_neg hc] at q;refine⟨S [c],_,rfl,rfl,?_⟩;rw[<- LN,zcn,y7];refine bW (fun hc=>?_) (fun hc=>?_)
 ·rw[if_pos hc] at q;exact q
 ·rw[if_neg hc] at q;exact q
theorem mT{w:W}(h:¬(1<=w.length/\w.length<=8)):PM.isName w=false:=by
 unfold PM.isName;by_cases h1:1<=w.length
 ·by_cases h2:w.length<=8
  ·exact absurd ⟨h1,h2⟩ h
  ·simp[h2]
 ·simp[h1]
theorem in_words(x:W)(l:List W):Uu (sv x) (l.map sv)=l.contains x:=by
 unfold Uu;rw[List.any_map,zbz,List.any_eq_true,za6]
 constructor
 ·rintro ⟨y,hy,e⟩
  have e':decide (S y=S x)=true:=e;rw[decide_eq_true_eq,DJ] at e';rw[<- e'];exact hy
 ·intro h;exact⟨x,h,(show decide (S x=S x)=true from decide_eq_true rfl)⟩
theorem y8(T:Tx K mg t):a8 P w K mg base gI 2 t.i5 t.ja ["word"] xQ:=by
 have Ci:a8 P w K mg base gI 1 t.nK t.mM ["word", "signs"] (FX PM.isLetter "abcdefghijklmnopqrstuvwxyz"):=EJ T _ _;refine T.gg.F.rq yM (fun vs H Q E h=>?_) (fun dM A outer s H vs Q E hr h=>?_)
 ·obtain⟨_,rfl,_⟩:=h;rfl
 obtain⟨wd,rfl,hl,q⟩:=h;have nd:=yM.nd;obtain⟨JN,vj,vk⟩:=T.yX;obtain⟨Nf,y9,za⟩:=T.wF;refine⟨_,[some (sv wd)],(ao (aH (uy (xw xv xv ai (bo j1 rfl T.fY PyProof.Rows.Boot.«len» (ae (pv 0) af ah)) (dR rfl y9 za)) (uy (ax Ci (hr.mono (by first|decide|omega)) rfl T.j9.m T.j9.F.kp T.j9.b .nil bc (ae (pv 0) (ae (dR rfl vj vk) af ah) ah)) (xq (kU jZ (pv 0) (dR (v:=.ref t.fX) rfl T.EH rfl) rfl)))))),rfl,?_⟩;walk_at "rd";have line:zd2=2 ^ 24:=rfl;refine⟨S wd,rfl,by rw[cj];lia,?_⟩;rw[cj];refine bW (fun h1=>?_) (fun h1=>?_)
 ·refine bW (fun h2=>?_) (fun h2=>?_)
  ·refine⟨wd,rfl,by lia,y6,fun H1 s1=>⟨_,rfl,?_⟩⟩;cases ha:wd.all PM.isLetter with
   |false=>
    rw[if_neg zan];have e:PM.isName wd=false:=by unfold PM.isName;rw[ha];simp
    rw[<- e];exact q _ s1
   |true=>
    rw[if_pos rfl];refine⟨t.fX,_,rfl,.inr (T.nQ H1),rfl,rfl,?_⟩;have e:PM.isName wd = !PM.fq.contains wd:=by
     unfold PM.isName;rw[ha,decide_eq_true (show 1<=wd.length by lia),decide_eq_true (show wd.length<=8 by lia)];rfl
    have m:Uu (sv wd) [.str "box",.str "ask",.str "put",.str "say",.str "if",.str "else",.str "while",.str "must",.str "stop",.str "end"]=PM.fq.contains wd:=by
     have l:([.str "box",.str "ask",.str "put",.str "say",.str "if",.str "else",.str "while",.str "must",.str "stop",.str "end"]:List V)=PM.fq.map sv:=by decide +kernel
     rw[l];exact in_words wd _
    have q':=q _ s1;rw[e] at q';rw[m];exact q'
  ·have:=mT (w:=wd) (by lia);have q':=q _ (ar.refl _);rw[this] at q';exact q'
 ·rw[if_neg zan];have:=mT (w:=wd) (by lia);have q':=q _ (ar.refl _);rw[this] at q';exact q'
theorem tZ(T:Tx K mg t):a8 P w K mg base gI 2 t.fK t.gb ["word"] rE:=by
 have Ci:a8 P w K mg base gI 1 t.nK t.mM ["word", "signs"] (FX PM.gy "0123456789"):=EJ T _ _;refine T.dG.F.rq tK (fun vs H Q E h=>?_) (fun dM A outer s H vs Q E hr h=>?_)
 ·obtain⟨_,rfl,_⟩:=h;rfl
 obtain⟨wd,rfl,hl,q⟩:=h;have nd:=tK.nd;obtain⟨JO,vm,vn⟩:=T.yY;obtain⟨Ng,zb,zc⟩:=T.wG;refine⟨_,[some (sv wd)],(ao (aH (uy (xw xv xv ai (bo j1 rfl T.fY PyProof.Rows.Boot.«len» (ae (pv 0) af ah)) (dR rfl zb zc)) (uy (ax Ci (hr.mono (by first|decide|omega)) rfl T.j9.m T.j9.F.kp T.j9.b .nil bc (ae (pv 0) (ae (dR rfl vm vn) af ah) ah)) (xq (T4 (kU b7 (pv 0) au (aN _)) (xq (kU xu (aO rm (pv 0) ai aw) au (aN _))))))))),rfl,?_⟩;walk_at "rd";have line:zd2=2 ^ 24:=rfl;refine⟨S wd,rfl,by rw[cj];lia,?_⟩;rw[cj];refine bW (fun h1=>?_) (fun h1=>?_)
 ·refine bW (fun h2=>?_) (fun h2=>?_)
  ·refine⟨wd,rfl,by lia,y7,fun H1 s1=>⟨_,rfl,?_⟩⟩;have q':=q _ s1;cases ha:wd.all PM.gy with
   |false=>
    rw[if_neg zan];have e:PM.isNumber wd=false:=by unfold PM.isNumber;rw[ha];simp
    rw[e] at q';exact q'
   |true=>
    rw[if_pos rfl];have e:PM.isNumber wd=(decide (wd=[48]) || !decide (wd.head?=some 48)):=by
     unfold PM.isNumber;rw[ha,decide_eq_true (show 1<=wd.length by lia),decide_eq_true (show wd.length<=3 by lia)];rfl
    rw[e] at q';have z:(V.str (zab "0"))=sv [48]:=by decide +kernel
    refine⟨rfl,?_⟩;rw[z];refine bW (fun hz=>?_) (fun hz=>?_)
    ·rw[gv.mp hz] at q';exact q'
    ·rw[decide_eq_false (fun e=>hz (gv.mpr e)),zdA] at q';cases wd with
     |nil=>simp at h1
     |cons c r=>
      refine⟨S (c::r),0,c,rfl,rfl,by rw[cj];lia,aQ (j:=0) rfl,rfl,?_⟩;rw[LN];have e2:decide (V.str (S [c])=sv [48])=decide ((c::r).head?=some 48):=by
       rw[decide_eq_decide];show sv [c]=sv [48]↔_;rw[gv];simp
      rw[e2];exact q'
  ·have e:PM.isNumber wd=false:=by unfold PM.isNumber;simp[show ¬wd.length<=3 by lia]
   have q':=q _ (ar.refl _);rw[e] at q';exact q'
 ·rw[if_neg zan];have e:PM.isNumber wd=false:=by unfold PM.isNumber;simp[show ¬1<=wd.length by lia]
  have q':=q _ (ar.refl _);rw[e] at q';exact q'
theorem Bv{a b:Nat}(ha:a<=3)(hb:b<=3):kindS a=kindS b↔a=b:=by
 have all:∀(a b:Fin 4),kindS a.1=kindS b.1↔a.1=b.1:=by decide +kernel
 exact all ⟨a,by lia⟩ ⟨b,by lia⟩
theorem Cj(T:Tx K mg t):a8 P w K mg base gI 2 t.hG t.iA ["word"] xR:=by
 have JP:a8 P w K mg base gI 1 t.ke t.kB ["sign"] DK:=GD T;refine T.ic.F.rq tL (fun vs H Q E h=>?_) (fun dM A outer s H vs Q E hr h=>?_)
 ·obtain⟨_,rfl,_⟩:=h;rfl
 obtain⟨wd,rfl,hl,q⟩:=h;have nd:=tL.nd;refine⟨_,[some (sv wd),none,none,none,none],(ag (aP (i:=1) nd rfl (zas rfl) (bb af))
 (ag (aP (i:=2) nd rfl (zas rfl) au)
 (ag (jI PassesOwn.never rfl (FV (pv 0)) (bh (i:=3) nd rfl (zas rfl))
 (ag (aP (i:=4) nd rfl (zas rfl) (ax JP (hr.mono (by first|decide|omega)) rfl T.kf.m T.kf.F.kp T.kf.b .nil bc (ae (pv 3) af ah)))
 (ag (aX (PW.pt (pw_and (az xu (pv 4) au (aN _)) (pw_and1 (az b7 (pv 4) (pv 2) (aN _)))))
 (ao (uz (aC aT (aO aW (pv 1) (sN mX ai) xK) (pv 3)) (KC (pv 1) (sN mX ai) set_list)))
 (ao (ck (gZ zaB zaG zaH cg (pv 1) (ae (pv 3) af ah)))))
 (ao (aP (i:=2) nd rfl (zas rfl) (pv 4))))))
 (ao (aH (pv 1)))))),rfl,?_⟩
 walk_at "rd";intro l Nh;refine⟨S wd,rfl,HF (z:=S wd) (fun i σ H2=>∃a b:Option V,σ=[some (sv wd),some (.ref l),some (.str (kindS (PM.bR (wd.take i)).2)),a,b]/\ar H H2/\H2 l=some (.lst ((PM.bR (wd.take i)).1.map sv)))
  ⟨none,none,rfl,ar.new Nh _,aj⟩ ?_ ?_⟩
 ·rintro i c σ H2 hi ⟨a,b,rfl,s2,h2⟩
  have Lc:wd[i]?=some c:=hi;obtain⟨iR,YI⟩:=zao.mp Lc;have tk:wd.take (i+1)=wd.take i++[c]:=by rw[zbg iR,YI]
  have st:PM.bR (wd.take (i+1))=PM.cK (PM.bR (wd.take i)) c:=by rw[tk,PM.w6]
  have ok:=PM.Od (wd.take i);have VJ:(PM.bR (wd.take i)).1.length<=60:=zaA (PM.rC (wd.take i)) (by rw[za0];lia);have YJ:∀p∈(PM.bR (wd.take i)).1,p.length<=60:=fun p hp=>zaA (PM.AZ (w:=wd.take i) hp) (by rw[za0];lia);have k3:(PM.bR (wd.take i)).2<=3:=by
   by_cases e:wd.take i=[]
   ·rw[e];decide
   ·have key:∀w:W,(PM.bR w).2<=3:=PM.xM (by decide) fun w c ih=>by
     rw[PM.w6];unfold PM.cK;have:=PM.kind_le c;split<;>(show PM.kind c<=3;lia)
    exact key _
  generalize PM.bR (wd.take i)=st0 at *;generalize PM.bR (wd.take (i+1))=Ve at *;subst st;obtain⟨ps,b0⟩:=st0;have k2:=PM.kind_le c;have e1:(kindS (PM.kind c)=zab "sign")↔PM.kind c=2:=by
   have:zab "sign"=kindS 2:=rfl;rw[this];exact Bv (by lia) (by lia)
  have e2:(kindS (PM.kind c)=kindS b0)↔PM.kind c=b0:=Bv (by lia) k3;have h2:H2 l=some (.lst (ps.map sv)):=h2;have VJ:ps.length<=60:=VJ;have sI:∀o,ar H (upd H2 l o):=fun o b u e=>by rw[aq (aB e Nh)];exact s2 b u e
  have app:¬(PM.kind c≠2/\PM.kind c=b0)->PM.cK (ps,b0) c=(ps++[[c]],PM.kind c):=fun h=>by unfold PM.cK;rw[if_neg h]
  have sz:(ps.map sv).length<zd2:=AU (by rw[zai];lia);walk_at "rd";refine⟨c,rfl,rfl,?_⟩;refine bW (fun h=>?_) (fun h=>?_)
  ·have hk:=e1.mp (V.str.inj h);rw[if_neg zan,app (by lia)];refine⟨.inl ⟨rfl,_,.of h2⟩,l,_,_,rfl,rfl,h2,sz,_,_,rfl,sI _,?_⟩;rw[aj,zaw];rfl
  have hn:PM.kind c≠2:=fun e=>h (by rw[e1.mpr e]);refine⟨rfl,?_⟩;refine bW (fun h'=>?_) (fun h'=>?_)
  ·have hk:=e2.mp (V.str.inj h');have Fp:ps≠[]:=ok.last (by show b0<2;lia);obtain⟨p,hp,_⟩:=ok.mark Fp;have es:=PM.xO hp;have Fo:p.length<=60:=YJ p (by show p∈ps;rw[show ps=(ps,b0).1 from rfl,es];simp);have eD:ps.getLastD []=p:=by rw[zbT,hp];rfl
   have stp:PM.cK (ps,b0) c=(ps.dropLast++[p++[c]],PM.kind c):=by unfold PM.cK;rw[if_pos ⟨hn,hk⟩,eD]
   have TX:ps=ps.dropLast++[p]:=es;have em:ps.map sv=ps.dropLast.map sv++[sv p]:=(congrArg (List.map sv) TX).trans (by rw[zaw];rfl);rw[stp];refine⟨1,rfl,l,ps.map sv,_,sv p,rfl,rfl,.of h2,?_,S p,_,rfl,rfl,?_,1,rfl,?_⟩
   ·rw[em];exact xF _ _
   ·rw[cj];exact BL (by show p.length+1<=1000;lia)
   ·refine⟨l,ps.map sv,_,(ps.dropLast.map sv).length,rfl,rfl,h2,?_,_,_,rfl,sI _,?_⟩
    ·rw[em,zaf];have:(ps.dropLast.map sv).length<=60:=by rw[zai,zaO];lia
     unfold K1;rw[if_neg (by decide),if_pos (by simp only[zah,zbH];lia)]
     congr 1
     simp only[zah,zbH];lia
    ·rw[aj,em,zaw,zdr _ _ (zag _),zbY];simp only[zcQ,zar,zbC];rw[show (⟨#[c]⟩:Str)=S [c] from rfl,iu];rfl
  ·have hk:PM.kind c≠b0:=fun e=>h' (by rw[e2.mpr e]);rw[app (by lia)];refine⟨.inl ⟨rfl,_,.of h2⟩,l,_,_,rfl,rfl,h2,sz,_,_,rfl,sI _,?_⟩;rw[aj,zaw];rfl
 ·rintro σ H2 ⟨a,b,rfl,s2,h2⟩
  walk_at "rd";refine q l H2 s2 Nh ?_;rw[h2,cj,zbo];rfl
theorem zd(T:Tx K mg t):a8 P w K mg base gI 3 t.cm t.iL ["self", "word"] (LO t.aI):=by
 have EK:a8 P w K mg base gI 2 t.hG t.iA ["word"] xR:=Cj T;refine T.jr.rq pL (fun vs H Q E h=>?_) (fun dM A outer s H vs Q E hr h=>?_)
 ·obtain⟨_,_,_,rfl,_⟩:=h;rfl
 obtain⟨p,dx,wd,rfl,hp,WO,hl,q⟩:=h;have nd:=pL.nd;refine⟨_,[some (.ref p),some (sv wd)],(ag (xB (pv 0) (ax EK (hr.mono (by first|decide|omega)) rfl T.ic.m T.ic.F.kp T.ic.b .nil bc (ae (pv 1) af ah)) rfl)
 (ao (xB (pv 0) ai rfl))),rfl,?_⟩
 walk_at "rd";refine⟨wd,rfl,hl,fun l H1 s1 Nh h1=>?_⟩;have np:p≠l:=aB hp Nh;refine⟨p,_,dx,[],rfl,s1 _ _ hp,T.cu,T.eF,(by decide),p,_,dx,_,rfl,aj,T.cu,T.dy,(by show 1<1000;decide),?_⟩;rw[Bz];have pk:=PM.Od wd;refine q l _ (fun b o n e=>by rw[aq n];exact s1 b o e) ⟨aj,?_,?_,zaJ _,pk.HC,fun x hx=>zaA (PM.AZ hx) hl,zaA (PM.rC wd) hl⟩
 ·rw[aq (cM WO hp (by intro z;cases z))];exact s1 _ _ WO
 ·rw[aq (Ne.symm np)];exact h1
theorem gN(T:Tx K mg t):a8 P w K mg base gI 1 t.bG t.cO ["self"] (sZ t.aI):=by
 refine T.iM.rq oa (fun vs H Q E h=>?_) (fun dM A outer s H vs Q E hr h=>?_)
 ·obtain⟨_,_,_,_,_,rfl,_⟩:=h;rfl
 obtain⟨p,l,dx,ps,k,rfl,o,q⟩:=h;have nd:=oa.nd;refine⟨_,[some (.ref p)],(ag (aX (az b7 (c6 (pv 0) rfl) (bo bB rfl T.fY PyProof.Rows.Boot.«len» (ae (c6 (pv 0) rfl) af sU)) (aN _))
 (ao (aH au))
 aF)
 (ao (aH (aO aW (c6 (pv 0) rfl) (c6 (pv 0) rfl) Oc)))),rfl,?_⟩
 walk_at "rd";refine⟨p,_,dx,_,.int k,rfl,o.ins,T.cu,T.dy,rfl,p,_,dx,_,.ref l,rfl,o.ins,T.cu,T.eF,rfl,l,_,rfl,.inl (.of o.lst),rfl,?_⟩;rw[zai];have le:=o.le;refine bW (fun h=>?_) (fun h=>?_)
 ·have e:k=ps.length:=by have:=V.int.inj h;lia
  rw[e,zc8] at q;exact q
 ·have hk:k<ps.length:=by
   have:¬k=ps.length:=fun e=>h (by rw[e]);lia
  refine⟨p,_,dx,_,.ref l,rfl,o.ins,T.cu,T.eF,rfl,p,_,dx,_,.int k,rfl,o.ins,T.cu,T.dy,rfl,?_⟩;refine bp (.of o.lst) (aQ (by rw[zaz,zac hk];rfl)) ?_;rw[zbU hk] at q;exact q
theorem fZ(T:Tx K mg t):a8 P w K mg base (km P w) 2 t.bJ t.cL ["self"] (uH t.aI t.bA):=by
 have de:a8 P w K mg base gI 1 t.bG t.cO ["self"] (sZ t.aI):=gN T;refine T.jt.C7 pM (fun vs H Q E h=>?_) (fun dM A outer s H vs Q E hr h=>?_)
 ·obtain⟨_,_,_,_,_,rfl,_⟩:=h;rfl
 obtain⟨p,l,dx,ps,k,rfl,o,q⟩:=h;have nd:=pM.nd;refine⟨_,[some (.ref p),none],(ag (aP (i:=1) nd rfl (zas rfl) (dW (pv 0) T.cu T.iO de (hr.mono (by first|decide|omega)) T.iN .nil bc))
 (ag (aX (az b7 (pv 1) au (aN _))
 (ao (b3 du T.fD rfl T.eQ rfl (ae au af ay)))
 aF)
 (ag (IT (pv 0) ai Rc)
 (ao (aH (pv 1)))))),rfl,?_⟩
 walk_at "rd";refine⟨p,dx,_,rfl,o.ins,rfl,p,l,dx,ps,k,rfl,o,rfl,?_⟩;have le:=o.le;cases hd:ps.drop k with
 |nil=>
  rw[hd] at q;refine(if_pos (show sv ([].headD [])=V.str (zab "") from rfl)).mpr ?_;exact⟨by decide,q⟩
 |cons y r=>
  rw[hd] at q;have hk:k<ps.length:=by
   have:=congrArg zbG hd;rw[za9,zah] at this;lia
  have hy:y∈ps:=zcE (i:=k) (by rw[hd];simp);have ne:¬sv y=V.str (zab ""):=by
   have:V.str (zab "")=sv []:=rfl;rw[this,gv];exact o.pos y hy
  rw[zce,if_neg ne];refine⟨p,_,dx,_,.int k,rfl,o.ins,T.cu,T.dy,rfl,?_⟩;refine⟨k,1,rfl,rfl,dx,_,o.ins,(by show 2<1000;decide),?_⟩;have e:mq (zab "place") (V.int ((k:Int)+1)) ([("pieces",V.ref l),("place",V.int k)]:List (Str×V))=([("pieces",V.ref l),("place",V.int ((k+1:Nat):Int))]:List (Str×V)):=by
   have d:¬zab "pieces"=zab "place":=by decide +kernel
   unfold mq;rw[if_neg d];unfold mq;rw[if_pos rfl];rfl
  rw[e];exact q _ ((bH.refl _ _).put _) (o.at ((bH.refl _ _).put _) aj (by lia))
theorem sF.pP{CP p l dx:zdU}{H:Hp}{ps:List W}{k:Nat}{y:W}{r:List W}(o:sF CP H p l dx ps k)(hd:ps.drop k=y::r):k<ps.length/\y∈ps/\ps.drop (k+1)=r:=by
 have hk:k<ps.length:=by
  have:=congrArg zbG hd;rw[za9,zah] at this;lia
 refine⟨hk,zcE (i:=k) (by rw[hd];simp),?_⟩;rw[zbU hk] at hd;exact(zcV.inj hd).2
theorem pQ(T:Tx K mg t){n:Nat}{d:Int}(ze:a8 P w K mg base (km P w) (4*n+4) t.c8 t.dv ["pieces", "depth"] (uI K t.aI t.bA n (d+1))) :
 a8 P w K mg base (km P w) (4*n+5) t.eT t.fQ ["pieces", "depth"] (oQ K t.aI t.bA (PM.factor n) d):=by
 have cI:a8 P w K mg base (km P w) 2 t.bJ t.cL ["self"] (uH t.aI t.bA):=fZ T;have pR:a8 P w K mg base gI 2 t.fK t.gb ["word"] rE:=tZ T;have vo:a8 P w K mg base gI 2 t.i5 t.ja ["word"] xQ:=y8 T;refine T.cG.F.C7 pG (fun vs H Q E h=>?_) (fun dM A outer s H vs Q E hr h=>?_)
 ·obtain⟨_,_,_,_,_,rfl,_⟩:=h;rfl
 obtain⟨p,l,dx,ps,k,rfl,o,q⟩:=h;have nd:=pG.nd;refine⟨_,[some (.ref p),some (.int d),none],(ag (aP (i:=2) nd rfl (zas rfl) (dW (pv 0) T.cu T.gH cI (hr.mono (by first|decide|omega)) T.gG .nil di))
 (ag (aX (iV (ax pR (hr.mono (by first|decide|omega)) rfl T.dG.m T.dG.F.kp T.dG.b .nil bc (ae (pv 2) af ah)))
 (ao (aH (bQ (ae au (ae (f9 sY rfl T.Bu PyProof.Rows.Boot.«int» (ae (pv 2) af ah)) af cD) ay))))
 aF)
 (ag (aX (iV (ax vo (hr.mono (by first|decide|omega)) rfl T.gg.m T.gg.F.kp T.gg.b .nil bc (ae (pv 2) af ah)))
 (ao (aH (bQ (ae au (ae (pv 2) af ah) ay))))
 aF)
 (ag (aX (az xu (pv 2) au (aN _))
 (ao (b3 du T.fD rfl T.eQ rfl (ae au af ay)))
 aF)
 (ao (aH (ax ze (hr.mono (by first|decide|omega)) rfl T.c9.m T.c9.F.kp T.c9.b .nil di (ae (pv 0) (ae (aC dU (pv 1) ai) af cz) ah)))))))),rfl,?_⟩
 walk_at "rd";refine⟨p,dx,_,rfl,o.ins,rfl,p,l,dx,ps,k,rfl,o,?_⟩;cases hd:ps.drop k with
 |nil=>
  rw[hd] at q;have e:PM.factor n []=none:=by cases n<;>rfl
  rw[e] at q;exact q H (bH.refl _ _)
 |cons y r=>
  rw[hd,DL] at q;obtain⟨hk,hy,yC⟩:=sF.pP o hd;intro H1 u1 o1;have yl:=o.len y hy;refine⟨y,rfl,by lia,fun H2 s2=>⟨_,rfl,?_⟩⟩;have u2:bH p H H2:=u1.trans (.of s2);have o2:sF t.aI H2 p l dx ps (k+1):=o1.at (.of s2) (s2 _ _ o1.ins) o1.le;refine bW (fun c1=>?_) (fun c1=>?_)
  ·rw[if_pos c1] at q;refine⟨S y,_,rfl,DM c1,by rw[cj];lia,fun a ha=>?_⟩;refine q _ _ (k+1) (u2.new ha _) (o2.at ((bH.refl _ _).new ha _) (by rw[aq (aB o2.ins ha)];exact o2.ins) o2.le) yC ?_;exact Rep.new ha (.cons (Rep.aK.mpr rfl) (.cons (Rep.bO.mpr rfl) .nil))
  rw[if_neg c1] at q;refine⟨y,rfl,by lia,fun H3 s3=>⟨_,rfl,?_⟩⟩;have u3:bH p H H3:=u2.trans (.of s3);have o3:sF t.aI H3 p l dx ps (k+1):=o2.at (.of s3) (s3 _ _ o2.ins) o2.le;refine bW (fun c2=>?_) (fun c2=>?_)
  ·rw[if_pos c2] at q;intro a ha;refine q _ _ (k+1) (u3.new ha _) (o3.at ((bH.refl _ _).new ha _) (by rw[aq (aB o3.ins ha)];exact o3.ins) o3.le) yC ?_;exact Rep.new ha (.cons (Rep.aK.mpr rfl) (.cons (Rep.aK.mpr rfl) .nil))
  rw[if_neg c2] at q;refine⟨rfl,?_⟩;have z:V.str (zab "(")=sv [40]:=by decide +kernel
  rw[z];refine bW (fun c3=>?_) (fun c3=>?_)
  ·rw[if_pos (gv.mp c3)] at q;refine⟨p,l,dx,ps,k+1,rfl,o3,?_⟩;rw[yC]
   revert q
   cases Wv n r with
   |none=>exact fun q H' u=>q H' (u3.trans u)
   |some x=>exact fun q v H' j u=>q v H' j (u3.trans u)
  ·rw[if_neg (fun e=>c3 (gv.mpr e))] at q;exact⟨by decide,q H3 u3⟩
theorem GF{p l dx CP a:zdU}{H:Hp}{ps:List W}{k:Nat}{o':HO}(o:sF CP H p l dx ps k)(ha:H a=none):sF CP (upd H a o') p l dx ps k:=
 o.at ((bH.refl _ _).new ha _) (by rw[aq (aB o.ins ha)];exact o.ins) o.le
theorem oe(T:Tx K mg t){n:Nat}{d:Int}(qS:a8 P w K mg base (km P w) (4*n+5) t.eT t.fQ ["pieces", "depth"] (oQ K t.aI t.bA (PM.factor n) d)) :
 a8 P w K mg base (km P w) (4*n+6) t.d0 t.eM ["pieces", "depth"] (oQ K t.aI t.bA (PM.gz (PM.factor n)) d):=by
 have cI:a8 P w K mg base (km P w) 2 t.bJ t.cL ["self"] (uH t.aI t.bA):=fZ T;have de:a8 P w K mg base gI 1 t.bG t.cO ["self"] (sZ t.aI):=gN T;refine T.cq.F.C7 nY (fun vs H Q E h=>?_) (fun dM A outer s H vs Q E hr h=>?_)
 ·obtain⟨_,_,_,_,_,rfl,_⟩:=h;rfl
 obtain⟨p,l,dx,ps,k,rfl,o,q⟩:=h;have nd:=nY.nd;refine⟨_,[some (.ref p),some (.int d),none,none],(ag (aP (i:=2) nd rfl (zas rfl) (ax qS (hr.mono (by first|decide|omega)) rfl T.cG.m T.cG.F.kp T.cG.b .nil di (ae (pv 0) (ae (pv 1) af ah) ah)))
 (ag (Dn Of (az b7 (dW (pv 0) T.cu T.iO de (hr.mono (by first|decide|omega)) T.iN .nil bc) au (aN _))
 (ag (aP (i:=3) nd rfl (zas rfl) (dW (pv 0) T.cu T.gH cI (hr.mono (by first|decide|omega)) T.gG .nil di))
 (ao (aP (i:=2) nd rfl (zas rfl) (bQ (ae (pv 3) (ae (pv 2) (ae (ax qS (hr.mono (by first|decide|omega)) rfl T.cG.m T.cG.F.kp T.cG.b .nil di (ae (pv 0) (ae (pv 1) af ah) ah)) af cD) ah) ah))))))
 (ao (aH (pv 2))))),rfl,?_⟩
 walk_at "rd";refine⟨p,l,dx,ps,k,rfl,o,?_⟩;rw[PM.sX] at q;cases hf:PM.factor n (ps.drop k) with
 |none=>
  rw[hf] at q;exact q
 |some x=>
  obtain⟨e0,r0⟩:=x;rw[hf] at q;intro v0 H0 j0 u0 o0 Tz rep0;refine⟨fun m σ H2=>∃(ve:V) (j:Nat) (x:Option V) (e:PM.Tr),m=ps.length-j/\σ=[some (.ref p),some (.int d),some ve,x]/\bH p H H2/\sF t.aI H2 p l dx ps j/\Rep K H2 (cV e) ve/\
   PM.loop [[42]] (PM.factor n) e0 r0=PM.loop [[42]] (PM.factor n) e (ps.drop j),⟨_,v0,j0,none,e0,rfl,rfl,u0,o0,rep0,by rw[Tz]⟩,?_⟩
  rintro m σ H2 ⟨ve,j,x,e,rfl,rfl,u2,o2,rep2,OU⟩
  have qq:match PM.loop [[42]] (PM.factor n) e (ps.drop j) with
   |none=>∀H',bH p H H'->E (Value.ref t.bA) none H'
   |some (t',r)=>∀v H' j,bH p H H'->sF t.aI H' p l dx ps j->ps.drop j=r->Rep K H' (cV t') v->Q v H':=by
   rw[<- OU];exact q
  walk_at "rd";refine⟨p,dx,_,rfl,o2.ins,rfl,p,l,dx,ps,j,rfl,o2,rfl,?_⟩;have z:V.str (zab "*")=sv [42]:=by decide +kernel
  rw[z];cases hd:ps.drop j with
  |nil=>
   refine(if_neg (fun e=>absurd (gv.mp e) (by decide))).mpr ?_;rw[hd,PM.oM] at qq;exact qq ve H2 j u2 o2 hd rep2
  |cons y r=>
   obtain⟨hk,hy,yC⟩:=sF.pP o2 hd;rw[zce];refine bW (fun c=>?_) (fun c=>?_)
   ·have Rb:y∈([[42]]:List W):=by rw[gv.mp c];simp
    refine⟨fun σ' H'=>∃(ve:V) (j':Nat) (x:Option V) (e:PM.Tr),ps.length-j'<ps.length-j/\σ'=[some (.ref p),some (.int d),some ve,x]/\bH p H H'/\sF t.aI H' p l dx ps j'/\Rep K H' (cV e) ve/\
     PM.loop [[42]] (PM.factor n) e0 r0=PM.loop [[42]] (PM.factor n) e (ps.drop j'),?_,?_⟩
    ·rintro σ' H' ⟨ve,j',x,e,a1,a2,a3,a4,a5,a6⟩
     exact⟨_,a1,ve,j',x,e,rfl,a2,a3,a4,a5,a6⟩
    refine⟨p,dx,_,rfl,o2.ins,rfl,p,l,dx,ps,j,rfl,o2,?_⟩;rw[hd];intro H3 u3 o3;refine⟨p,l,dx,ps,j+1,rfl,o3,?_⟩;rw[yC];rw[hd,PM.sW (PM.cS n) Rb] at qq OU;have uu:bH p H H3:=u2.trans u3;cases Sz:(PM.factor n) r with
    |none=>
     rw[Sz] at qq;exact fun H' u=>qq H' (uu.trans u)
    |some z=>
     obtain⟨e2,r2⟩:=z;rw[Sz] at qq OU;intro v2 H4 j2 u4 o4 VL SA a ha;have rv:Rep K H4 (cV e) ve:=(Rep.lT o2.ins (u3.trans u4)).1 _ _ rep2;have sh:=(PM.cS n) _ _ _ Sz;refine⟨.ref a,j2,_,.bin y e e2,?_,rfl,(uu.trans u4).new ha _,GF o4 ha,?_,?_⟩
     ·have e1:=congrArg zbG VL;have e2:=congrArg zbG yC;rw[za9] at e1 e2;have:=o4.le;lia
     ·exact Rep.new ha (.cons (Rep.aK.mpr rfl) (.cons rv (.cons SA .nil)))
     ·rw[OU,VL]
   ·rw[hd,PM.mv (by rw[zad];exact fun e=>c (gv.mpr e))] at qq;exact qq ve H2 j u2 o2 hd rep2
theorem v9(T:Tx K mg t){n:Nat}{d:Int}(pS:a8 P w K mg base (km P w) (4*n+6) t.d0 t.eM ["pieces", "depth"] (oQ K t.aI t.bA (PM.gz (PM.factor n)) d)) :
 a8 P w K mg base (km P w) (4*n+7) t.fM t.fP ["pieces", "depth"] (oQ K t.aI t.bA (PM.m3 (PM.factor n)) d):=by
 have cI:a8 P w K mg base (km P w) 2 t.bJ t.cL ["self"] (uH t.aI t.bA):=fZ T;have de:a8 P w K mg base gI 1 t.bG t.cO ["self"] (sZ t.aI):=gN T;refine T.cP.F.C7 vW (fun vs H Q E h=>?_) (fun dM A outer s H vs Q E hr h=>?_)
 ·obtain⟨_,_,_,_,_,rfl,_⟩:=h;rfl
 obtain⟨p,l,dx,ps,k,rfl,o,q⟩:=h;have nd:=vW.nd;refine⟨_,[some (.ref p),some (.int d),none,none],(ag (aP (i:=2) nd rfl (zas rfl) (ax pS (hr.mono (by first|decide|omega)) rfl T.cq.m T.cq.F.kp T.cq.b .nil di (ae (pv 0) (ae (pv 1) af ah) ah)))
 (ag (Dn Of (az gY (dW (pv 0) T.cu T.iO de (hr.mono (by first|decide|omega)) T.iN .nil bc) (bQ (cY (vs:=[.str "+",.str "-"]) (by kernel_rfl))) rfl)
 (ag (aP (i:=3) nd rfl (zas rfl) (dW (pv 0) T.cu T.gH cI (hr.mono (by first|decide|omega)) T.gG .nil di))
 (ao (aP (i:=2) nd rfl (zas rfl) (bQ (ae (pv 3) (ae (pv 2) (ae (ax pS (hr.mono (by first|decide|omega)) rfl T.cq.m T.cq.F.kp T.cq.b .nil di (ae (pv 0) (ae (pv 1) af ah) ah)) af cD) ah) ah))))))
 (ao (aH (pv 2))))),rfl,?_⟩
 walk_at "rd";refine⟨p,l,dx,ps,k,rfl,o,?_⟩;rw[PM.w5] at q;cases hf:PM.gz (PM.factor n) (ps.drop k) with
 |none=>
  rw[hf] at q;exact q
 |some x=>
  obtain⟨e0,r0⟩:=x;rw[hf] at q;intro v0 H0 j0 u0 o0 Tz rep0;refine⟨fun m σ H2=>∃(ve:V) (j:Nat) (x:Option V) (e:PM.Tr),m=ps.length-j/\σ=[some (.ref p),some (.int d),some ve,x]/\bH p H H2/\sF t.aI H2 p l dx ps j/\Rep K H2 (cV e) ve/\
   PM.loop [[43],[45]] (PM.gz (PM.factor n)) e0 r0=PM.loop [[43],[45]] (PM.gz (PM.factor n)) e (ps.drop j),⟨_,v0,j0,none,e0,rfl,rfl,u0,o0,rep0,by rw[Tz]⟩,?_⟩
  rintro m σ H2 ⟨ve,j,x,e,rfl,rfl,u2,o2,rep2,OU⟩
  have qq:match PM.loop [[43],[45]] (PM.gz (PM.factor n)) e (ps.drop j) with
   |none=>∀H',bH p H H'->E (Value.ref t.bA) none H'
   |some (t',r)=>∀v H' j,bH p H H'->sF t.aI H' p l dx ps j->ps.drop j=r->Rep K H' (cV t') v->Q v H':=by
   rw[<- OU];exact q
  walk_at "rd";refine⟨p,dx,_,rfl,o2.ins,rfl,p,l,dx,ps,j,rfl,o2,?_⟩;intro a1 YK;have TB:=GF (o':=.tup [V.str (zab "+"),V.str (zab "-")]) o2 YK;have WQ:=u2.new YK (.tup [V.str (zab "+"),V.str (zab "-")]);have IA:Rep K (upd H2 a1 (.tup [V.str (zab "+"),V.str (zab "-")])) (cV e) ve:=rep2.mono (ar.new YK _);have z:([V.str (zab "+"),V.str (zab "-")]:List V)=([[43],[45]]:List W).map sv:=by decide +kernel
  refine⟨a1,_,rfl,.inr (.of aj),rfl,rfl,_,rfl,?_⟩;rw[z] at TB WQ IA;rw[if_neg zan,z,in_words];generalize upd H2 a1 (.tup (([[43],[45]]:List W).map sv))=H2' at *;cases hd:ps.drop j with
  |nil=>
   refine(if_neg (by decide)).mpr ?_;rw[hd,PM.oM] at qq;exact qq ve H2' j WQ TB hd IA
  |cons y r=>
   obtain⟨hk,hy,yC⟩:=sF.pP o2 hd;rw[zce];refine bW (fun c=>?_) (fun c=>?_)
   ·have Rb:y∈([[43],[45]]:List W):=za6.mp c;refine⟨fun σ' H'=>∃(ve:V) (j':Nat) (x:Option V) (e:PM.Tr),ps.length-j'<ps.length-j/\σ'=[some (.ref p),some (.int d),some ve,x]/\bH p H H'/\sF t.aI H' p l dx ps j'/\Rep K H' (cV e) ve/\
     PM.loop [[43],[45]] (PM.gz (PM.factor n)) e0 r0=PM.loop [[43],[45]] (PM.gz (PM.factor n)) e (ps.drop j'),?_,?_⟩
    ·rintro σ' H' ⟨ve,j',x,e,a1,a2,a3,a4,a5,a6⟩
     exact⟨_,a1,ve,j',x,e,rfl,a2,a3,a4,a5,a6⟩
    refine⟨p,dx,_,rfl,TB.ins,rfl,p,l,dx,ps,j,rfl,TB,?_⟩;rw[hd];intro H3 u3 o3;refine⟨p,l,dx,ps,j+1,rfl,o3,?_⟩;rw[yC];rw[hd,PM.sW (PM.gQ (PM.cS n)) Rb] at qq OU;have uu:bH p H H3:=WQ.trans u3;cases Sz:(PM.gz (PM.factor n)) r with
    |none=>
     rw[Sz] at qq;exact fun H' u=>qq H' (uu.trans u)
    |some z=>
     obtain⟨e2,r2⟩:=z;rw[Sz] at qq OU;intro v2 H4 j2 u4 o4 VL SA a ha;have rv:Rep K H4 (cV e) ve:=(Rep.lT TB.ins (u3.trans u4)).1 _ _ IA;have sh:=(PM.gQ (PM.cS n)) _ _ _ Sz;refine⟨.ref a,j2,_,.bin y e e2,?_,rfl,(uu.trans u4).new ha _,GF o4 ha,?_,?_⟩
     ·have e1:=congrArg zbG VL;have e2:=congrArg zbG yC;rw[za9] at e1 e2;have:=o4.le;lia
     ·exact Rep.new ha (.cons (Rep.aK.mpr rfl) (.cons rv (.cons SA .nil)))
     ·rw[OU,VL]
   ·rw[hd,PM.mv (fun e=>c (za6.mpr e))] at qq;exact qq ve H2' j WQ TB hd IA
theorem Ck(T:Tx K mg t):a8 P w K mg base (km P w) 4 t.c8 t.dv ["pieces", "depth"] (uI K t.aI t.bA 0 6):=by
 have cI:a8 P w K mg base (km P w) 2 t.bJ t.cL ["self"] (uH t.aI t.bA):=fZ T;have kH:a8 P w K mg base (km P w) 0 t.fM t.fP ["pieces", "depth"] (fun _ _ _ _=>False):=⟨fun vs H Q E h=>h.elim,fun A outer s H args us vs Q E _ _ _ _ h=>h.elim⟩
 refine T.c9.F.C7 gJ (fun vs H Q E h=>?_) (fun dM A outer s H vs Q E hr h=>?_)
 ·obtain⟨_,_,_,_,_,rfl,_⟩:=h;rfl
 obtain⟨p,l,dx,ps,k,rfl,o,q⟩:=h;have nd:=gJ.nd;obtain⟨wH,jR,jS⟩:=T.mS;refine⟨_,[some (.ref p),some (.int 6),none],(ag (aX (az AM (pv 1) (dR rfl jR jS) (aN _))
 (ao (b3 du T.fD rfl T.eQ rfl (ae au af ay)))
 aF)
 (ag (aP (i:=2) nd rfl (zas rfl) (ax kH (hr.mono (by first|decide|omega)) rfl T.cP.m T.cP.F.kp T.cP.b .nil di (ae (pv 0) (ae (pv 1) af ah) ah)))
 (ag (aX (az xu (dW (pv 0) T.cu T.gH cI (hr.mono (by first|decide|omega)) T.gG .nil di) au (aN _))
 (ao (b3 du T.fD rfl T.eQ rfl (ae au af ay)))
 aF)
 (ao (aH (pv 2)))))),rfl,?_⟩
 walk_at "rd";exact(if_pos (by decide)).mpr ⟨by decide,q H (bH.refl _ _)⟩
theorem Ni(n:Nat)(ps:List W):Wv (n+1) ps=match PM.m3 (PM.factor n) ps with
 |some (e,q::r)=>if q=[41] then some (e,r) else none
 |_=>none:=rfl
theorem wI(T:Tx K mg t){n:Nat}{d:Int}(hd:d+n=5)(kH:a8 P w K mg base (km P w) (4*n+7) t.fM t.fP ["pieces", "depth"] (oQ K t.aI t.bA (PM.m3 (PM.factor n)) d)) :
 a8 P w K mg base (km P w) (4*n+8) t.c8 t.dv ["pieces", "depth"] (uI K t.aI t.bA (n+1) d):=by
 have cI:a8 P w K mg base (km P w) 2 t.bJ t.cL ["self"] (uH t.aI t.bA):=fZ T;refine T.c9.F.C7 gJ (fun vs H Q E h=>?_) (fun dM A outer s H vs Q E hr h=>?_)
 ·obtain⟨_,_,_,_,_,rfl,_⟩:=h;rfl
 obtain⟨p,l,dx,ps,k,rfl,o,q⟩:=h;have nd:=gJ.nd;obtain⟨wH,jR,jS⟩:=T.mS;refine⟨_,[some (.ref p),some (.int d),none],(ag (aX (az AM (pv 1) (dR rfl jR jS) (aN _))
 (ao (b3 du T.fD rfl T.eQ rfl (ae au af ay)))
 aF)
 (ag (aP (i:=2) nd rfl (zas rfl) (ax kH (hr.mono (by first|decide|omega)) rfl T.cP.m T.cP.F.kp T.cP.b .nil di (ae (pv 0) (ae (pv 1) af ah) ah)))
 (ag (aX (az xu (dW (pv 0) T.cu T.gH cI (hr.mono (by first|decide|omega)) T.gG .nil di) au (aN _))
 (ao (b3 du T.fD rfl T.eQ rfl (ae au af ay)))
 aF)
 (ao (aH (pv 2)))))),rfl,?_⟩
 walk_at "rd";rw[if_neg (by lia)];refine⟨p,l,dx,ps,k,rfl,o,?_⟩;rw[Ni] at q;cases hf:PM.m3 (PM.factor n) (ps.drop k) with
 |none=>
  rw[hf] at q;exact q
 |some x=>
  obtain⟨e0,r0⟩:=x;rw[hf] at q;intro v0 H0 j0 u0 o0 Tz rep0;refine⟨p,dx,_,rfl,o0.ins,rfl,p,l,dx,ps,j0,rfl,o0,?_⟩;rw[Tz];cases r0 with
  |nil=>exact q H0 u0
  |cons y r=>
   obtain⟨hk,hy,yC⟩:=sF.pP o0 Tz;intro H1 u1 o1;have z:V.str (zab ")")=sv [41]:=by decide +kernel
   refine⟨rfl,?_⟩;rw[z];refine bW (fun c=>?_) (fun c=>?_)
   ·rw[gv.mp c] at q;exact q v0 H1 (j0+1) (u0.trans u1) o1 yC ((Rep.lT o0.ins u1).1 _ _ rep0)
   ·simp only[if_neg (fun e=>c (gv.mpr e))] at q;exact⟨by decide,q H1 (u0.trans u1)⟩
theorem zg(T:Tx K mg t):∀(n:Nat) (d:Int),d+n=5->a8 P w K mg base (km P w) (4*n+7) t.fM t.fP ["pieces", "depth"] (oQ K t.aI t.bA (PM.m3 (PM.factor n)) d)
 |0,d,h=>by
  have e:d=5:=by lia
  subst e;exact v9 T (oe T (pQ T (n:=0) (Ck T)))
 |n+1,d,h=>v9 T (oe T (pQ T (wI T (d:=d+1) (by lia) (zg T n (d+1) (by lia)))))
theorem qT(T:Tx K mg t):a8 P w K mg base (km P w) 28 t.iz t.jh ["word"] (RE K t.bA):=by
 have kH:=zg (P:=P) (w:=w) (base:=base) T 5 0 rfl;have de:a8 P w K mg base gI 1 t.bG t.cO ["self"] (sZ t.aI):=gN T;have Af:a8 P w K mg base gI 3 t.cm t.iL ["self", "word"] (LO t.aI):=zd T;refine T.bN.F.C7 qK (fun vs H Q E h=>?_) (fun dM A outer s H vs Q E hr h=>?_)
 ·obtain⟨_,rfl,_⟩:=h;rfl
 obtain⟨wd,rfl,hl,q⟩:=h;have nd:=qK.nd;obtain⟨OV,Cn,Co⟩:=T.Aa;refine⟨_,[some (sv wd),none,none],(ag (aX (az AM (bo j1 rfl T.fY PyProof.Rows.Boot.«len» (ae (pv 0) af ah)) (dR rfl Cn Co) (aN _))
 (ao (b3 du T.fD rfl T.eQ rfl (ae au af ay)))
 aF)
 (ag (aP (i:=1) nd rfl (zas rfl) (NY T.vf Af (hr.mono (by first|decide|omega)) rfl T.JM T.z9 .nil bc (ae (pv 0) af ah)))
 (ag (aP (i:=2) nd rfl (zas rfl) (ax kH (hr.mono (by first|decide|omega)) rfl T.cP.m T.cP.F.kp T.cP.b .nil di (ae (pv 1) (ae ai af ay) ah)))
 (ag (aX (az xu (dW (pv 1) T.cu T.iO de (hr.mono (by first|decide|omega)) T.iN .nil bc) au (aN _))
 (ao (b3 du T.fD rfl T.eQ rfl (ae au af ay)))
 aF)
 (ao (aH (pv 2))))))),rfl,?_⟩
 walk_at "rd";have line:zd2=2 ^ 24:=rfl;refine⟨S wd,rfl,by rw[cj];lia,?_⟩;rw[cj];unfold PM.expr at q;refine bW (fun c=>?_) (fun c=>?_)
 ·rw[if_pos (by lia)] at q;exact⟨by decide,q H (ar.refl _)⟩
 rw[if_neg (by lia)] at q;intro x dx hx WO ne;have hx1:(upd H dx (.own x)) x=none:=by rw[aq (Ne.symm ne)];exact hx
 refine⟨x,dx,wd,rfl,aj,by rw[aq ne];exact aj,by lia,fun l H1 u1 o1=>⟨rfl,?_⟩⟩;have sm:∀ {H':Hp},bH x (upd (upd H dx (.own x)) x (.ins t.aI dx [])) H'->ar H H':=fun u b o' e=>by
  have n1:b≠x:=aB e hx;have n2:b≠dx:=aB e WO;refine u b o' n1 ?_;rw[aq n1,aq n2];exact e
 refine⟨x,l,dx,PM.pieces wd,0,rfl,o1,?_⟩;rw[zcP];cases hf:PM.m3 (PM.factor 5) (PM.pieces wd) with
 |none=>
  rw[hf] at q;exact fun H' u=>q H' (sm (u1.trans u))
 |some z=>
  obtain⟨e0,r0⟩:=z;rw[hf] at q;intro v H2 j u2 o2 hj rep;refine⟨x,dx,_,rfl,o2.ins,rfl,x,l,dx,_,j,rfl,o2,rfl,?_⟩;rw[hj];have z:V.str (zab "")=sv []:=rfl;cases r0 with
  |nil=>exact(if_pos rfl).mpr (q v H2 (sm (u1.trans u2)) rep)
  |cons y r=>
   obtain⟨_,hy,_⟩:=sF.pP o2 hj;refine(if_neg (fun e=>o2.pos y hy (gv.mp (e.trans z)))).mpr ?_;exact⟨by decide,q H2 (sm (u1.trans u2))⟩
theorem t6(T:Tx K mg t):a8 P w K mg base (km P w) 3 t.jy t.j6 ["word"] (OE t.bA):=by
 have vo:a8 P w K mg base gI 2 t.i5 t.ja ["word"] xQ:=y8 T;refine T.cx.F.C7 tM (fun vs H Q E h=>?_) (fun dM A outer s H vs Q E hr h=>?_)
 ·obtain⟨_,rfl,_⟩:=h;rfl
 obtain⟨wd,rfl,hl,q⟩:=h;have nd:=tM.nd;refine⟨_,[some (sv wd)],(ag (aX (oB (iV (ax vo (hr.mono (by first|decide|omega)) rfl T.gg.m T.gg.F.kp T.gg.b .nil bc (ae (pv 0) af ah))))
 (ao (b3 du T.fD rfl T.eQ rfl (ae au af ay)))
 aF)
 (ao (aH (pv 0)))),rfl,?_⟩
 walk_at "rd";refine⟨wd,rfl,by lia,fun H2 s2=>⟨_,rfl,?_⟩⟩;unfold PM.uR at q;cases hn:PM.isName wd with
 |true=>
  rw[hn] at q;exact q H2 s2
 |false=>
  rw[hn] at q;exact⟨by decide,q H2 s2⟩
theorem zh(T:Tx K mg t):a8 P w K mg base (km P w) 3 t.gC t.iB ["word"] (Si t.bA):=by
 have pR:a8 P w K mg base gI 2 t.fK t.gb ["word"] rE:=tZ T;refine T.cH.F.C7 pH (fun vs H Q E h=>?_) (fun dM A outer s H vs Q E hr h=>?_)
 ·obtain⟨_,rfl,_⟩:=h;rfl
 obtain⟨wd,rfl,hl,q⟩:=h;have nd:=pH.nd;refine⟨_,[some (sv wd)],(ag (aX (oB (iV (ax pR (hr.mono (by first|decide|omega)) rfl T.dG.m T.dG.F.kp T.dG.b .nil bc (ae (pv 0) af ah))))
 (ao (b3 du T.fD rfl T.eQ rfl (ae au af ay)))
 aF)
 (ao (aH (f9 sY rfl T.Bu PyProof.Rows.Boot.«int» (ae (pv 0) af ah))))),rfl,?_⟩
 walk_at "rd";refine⟨wd,rfl,by lia,fun H2 s2=>⟨_,rfl,?_⟩⟩;unfold PM.JB at q;cases hn:PM.isNumber wd with
 |true=>
  rw[hn] at q;have hl3:wd.length<=3:=by
   unfold PM.isNumber at hn;simp only[zaD,decide_eq_true_eq] at hn;exact hn.1.1.2
  exact⟨S wd,_,rfl,DM hn,by rw[cj];lia,q H2 s2⟩
 |false=>
  rw[hn] at q;exact⟨by decide,q H2 s2⟩
theorem EL(T:Tx K mg t):a8 P w K mg base (km P w) 4 t.kC t.lG ["words"] (B0 K t.bA PM.MH):=by
 have lN:=t6 (P:=P) (w:=w) (base:=base) T;have qU:=zh (P:=P) (w:=w) (base:=base) T;refine T.jb.F.C7 vX (fun vs H Q E h=>?_) (fun dM A outer s H vs Q E hr h=>?_)
 ·obtain⟨_,_,rfl,_⟩:=h;rfl
 obtain⟨a,ws,rfl,ya,lw,l4,qn,qs⟩:=h;have nd:=vX.nd;refine⟨_,[some (.ref a)],(ao (aH (bQ (ae au (ae (ax lN (hr.mono (by first|decide|omega)) rfl T.cx.m T.cx.F.kp T.cx.b .nil di (ae (aO aW (pv 0) ai aw) af bg)) (ae (ax qU (hr.mono (by first|decide|omega)) rfl T.cH.m T.cH.F.kp T.cH.b .nil di (ae (aO aW (pv 0) ai aw) af bg)) (ae (ax qU (hr.mono (by first|decide|omega)) rfl T.cH.m T.cH.F.kp T.cH.b .nil di (ae (aO aW (pv 0) ai aw) af bg)) af cD) cD) cD) ay)))),rfl,?_⟩
 match ws,l4 with
 |[k,x,y,z],_=>
  have eb:PM.MH [k,x,y,z]=(PM.uR x).bind fun n=>(PM.JB y).bind fun a=>(PM.JB z).map (.box n a):=rfl;walk_at "rd";refine bp (.of ya) (v:=sv x) (aQ (j:=1) rfl) ⟨x,rfl,lw x (by simp),?_⟩;cases hx:PM.uR x with
  |none=>exact qn (by rw[eb,hx];rfl)
  |some n=>
   have en:n=x:=by
    unfold PM.uR at hx;split at hx
    ·exact(zaF.inj hx).symm
    ·cases hx
   subst en;intro H1 s1;refine bp (.of (s1 _ _ ya)) (v:=sv y) (aQ (j:=2) rfl) ⟨y,rfl,lw y (by simp),?_⟩;cases hy:PM.JB y with
   |none=>exact fun H2 s2=>qn (by rw[eb,hx,hy];rfl) H2 (s1.trans s2)
   |some i=>
    intro H2 s2;refine bp (.of (s2 _ _ (s1 _ _ ya))) (v:=sv z) (aQ (j:=3) rfl) ⟨z,rfl,lw z (by simp),?_⟩;cases hz:PM.JB z with
    |none=>exact fun H3 s3=>qn (by rw[eb,hx,hy,hz];rfl) H3 (s1.trans (s2.trans s3))
    |some j=>
     intro H3 s3 p hp;refine qs (.box n i j) (by rw[eb,hx,hy,hz];rfl) _ _ ((s1.trans (s2.trans s3)).trans (ar.new hp _)) ?_;exact Rep.new hp (.cons (Rep.aK.mpr rfl) (.cons (Rep.aK.mpr rfl) (.cons (Rep.bO.mpr rfl) (.cons (Rep.bO.mpr rfl) .nil))))
theorem t7(T:Tx K mg t):a8 P w K mg base (km P w) 29 t.d4 t.fw ["words"] (B0 K t.bA PM.Ec):=by
 have iP:=qT (P:=P) (w:=w) (base:=base) T;refine T.cZ.F.C7 lE (fun vs H Q E h=>?_) (fun dM A outer s H vs Q E hr h=>?_)
 ·obtain⟨_,_,rfl,_⟩:=h;rfl
 obtain⟨a,ws,rfl,ya,lw,l4,qn,qs⟩:=h;have nd:=lE.nd;refine⟨_,[some (.ref a)],(ag (aX (az jZ (aO aW (pv 0) ai aw) (bQ (cY (vs:=[.str "<",.str "="]) (by kernel_rfl))) rfl)
 (ao (b3 du T.fD rfl T.eQ rfl (ae au af ay)))
 aF)
 (ao (aH (bQ (ae (aO aW (pv 0) ai aw) (ae (aO aW (pv 0) ai aw) (ae (ax iP (hr.mono (by first|decide|omega)) rfl T.bN.m T.bN.F.kp T.bN.b .nil di (ae (aO aW (pv 0) ai aw) af bg)) (ae (ax iP (hr.mono (by first|decide|omega)) rfl T.bN.m T.bN.F.kp T.bN.b .nil di (ae (aO aW (pv 0) ai aw) af bg)) af cD) cD) bg) bg))))),rfl,?_⟩
 match ws,l4 with
 |[k,x,y,z],_=>
  have eb:PM.Ec [k,x,y,z]=if y=[60]\/y=[61] then (PM.expr x).bind fun l=>(PM.expr z).map (.cond k y l) else none:=rfl
  walk_at "rd";refine bp (.of ya) (v:=sv y) (aQ (j:=2) rfl) fun p hp=>?_;have sp:=ar.new hp (.tup [V.str (zab "<"),V.str (zab "=")]);have hl:([V.str (zab "<"),V.str (zab "=")]:List V)=[[60],[61]].map sv:=by decide +kernel
  have iT:cv K (upd H p (.tup [V.str (zab "<"),V.str (zab "=")])) p [V.str (zab "<"),V.str (zab "=")]:=.of aj;generalize upd H p (.tup [V.str (zab "<"),V.str (zab "=")])=H0 at *;refine⟨p,_,rfl,.inr iT,rfl,rfl,_,rfl,?_⟩;rw[hl,in_words];by_cases hy:y=[60]\/y=[61]
  ·have hc:([[60],[61]]:List W).contains y=true:=by rw[za6];simpa using hy
   rw[hc];rw[if_pos hy] at eb;rw[if_neg (show ¬((if true=true then !true else true)=true) by decide)];refine bp (.of (sp _ _ ya)) (v:=sv k) (aQ (j:=0) rfl) (bp (.of (sp _ _ ya)) (v:=sv y) (aQ (j:=2) rfl) (bp (.of (sp _ _ ya)) (v:=sv x) (aQ (j:=1) rfl) ⟨x,rfl,zaA (lw x (by simp)) (by decide),?_⟩));cases hx:PM.expr x with
   |none=>exact fun H1 s1=>qn (by rw[eb,hx];rfl) H1 (sp.trans s1)
   |some e1=>
    intro v1 H1 s1 r1;refine bp (.of (s1 _ _ (sp _ _ ya))) (v:=sv z) (aQ (j:=3) rfl) ⟨z,rfl,zaA (lw z (by simp)) (by decide),?_⟩;cases hz:PM.expr z with
    |none=>exact fun H2 s2=>qn (by rw[eb,hx,hz];rfl) H2 (sp.trans (s1.trans s2))
    |some e2=>
     intro v2 H2 s2 r2 p2 Gs;refine qs (.cond k y e1 e2) (by rw[eb,hx,hz];rfl) _ _ ((sp.trans (s1.trans s2)).trans (ar.new Gs _)) ?_;exact Rep.new Gs (.cons (Rep.aK.mpr rfl) (.cons (Rep.aK.mpr rfl) (.cons (r1.mono s2) (.cons r2 .nil))))
  ·have hc:([[60],[61]]:List W).contains y=false:=by rw[Bool.eq_false_iff];intro z;exact hy (by rw[za6] at z;simpa using z)
   rw[hc];rw[if_neg hy] at eb;rw[if_pos (show (if true=true then !false else false)=true by decide)];exact⟨by decide,qn eb H0 sp⟩
theorem GG(T:Tx K mg t)(C:Cd P w K t):a8 P w K mg base (km P w) 30 t.mO t.nM ["row"] (MJ K t.bA):=by
 have iP:=qT (P:=P) (w:=w) (base:=base) T;have lN:=t6 (P:=P) (w:=w) (base:=base) T;have GH:=EL (P:=P) (w:=w) (base:=base) T;have vp:=t7 (P:=P) (w:=w) (base:=base) T;refine T.kg.F.C7 yQ (fun vs H Q E h=>?_) (fun dM A outer s H vs Q E hr h=>?_)
 ·obtain⟨_,rfl,_⟩:=h;rfl
 obtain⟨row,rfl,lr,qn,qs⟩:=h;have nd:=yQ.nd;refine⟨_,[some (sv row),none,none],(ag (aP (i:=1) nd rfl (zas rfl) (gZ zbP zdp zdq D8 (pv 0) (ae au af ay)))
 (ag (aP (i:=2) nd rfl (zas rfl) (aO aW (pv 1) ai aw))
 (ag (aX (az xu (Jt (dR (v:=.ref t.cX) rfl T.yZ rfl) (pv 2) ai ⟨rfl,rfl,rfl,rfl⟩) (bo bB rfl T.fY PyProof.Rows.Boot.«len» (ae (pv 1) af ah)) (aN _))
 (ao (b3 du T.fD rfl T.eQ rfl (ae au af ay)))
 aF)
 (ag (aX (az b7 (pv 2) au (aN _))
 (ao (aH (ax GH (hr.mono (by first|decide|omega)) rfl T.jb.m T.jb.F.kp T.jb.b .nil di (ae (pv 1) af ah))))
 aF)
 (ag (aX (az b7 (pv 2) au (aN _))
 (ao (aH (bQ (ae au (ae (ax lN (hr.mono (by first|decide|omega)) rfl T.cx.m T.cx.F.kp T.cx.b .nil di (ae (aO aW (pv 1) ai aw) af bg)) af cD) ay))))
 aF)
 (ag (aX (az b7 (pv 2) au (aN _))
 (ao (aH (bQ (ae au (ae (ax lN (hr.mono (by first|decide|omega)) rfl T.cx.m T.cx.F.kp T.cx.b .nil di (ae (aO aW (pv 1) ai aw) af bg)) (ae (ax iP (hr.mono (by first|decide|omega)) rfl T.bN.m T.bN.F.kp T.bN.b .nil di (ae (aO aW (pv 1) ai aw) af bg)) af cD) cD) ay))))
 aF)
 (ag (aX (az b7 (pv 2) au (aN _))
 (ao (aH (bQ (ae au (ae (ax iP (hr.mono (by first|decide|omega)) rfl T.bN.m T.bN.F.kp T.bN.b .nil di (ae (aO aW (pv 1) ai aw) af bg)) af cD) ay))))
 aF)
 (ag (aX (az gY (pv 2) (bQ (cY (vs:=[.str "must",.str "if",.str "while"]) (by kernel_rfl))) rfl)
 (ao (aH (ax vp (hr.mono (by first|decide|omega)) rfl T.cZ.m T.cZ.F.kp T.cZ.b .nil di (ae (pv 1) af ah))))
 aF)
 (ao (aH (bQ (ae (pv 2) af ah)))))))))))),rfl,?_⟩
 walk_at "rd";refine⟨rfl,row,32,rfl,rfl,by decide,by lia,fun a ha=>?_⟩;have Fp:=g8 32 row;have hsm:=nt 32 row;generalize aU 32 row=ws at *;have s0:=ar.new ha (.lst (ws.map sv));have ya:(upd H a (.lst (ws.map sv))) a=some (.lst (ws.map sv)):=aj;generalize upd H a (.lst (ws.map sv))=H0 at *
 match ws,Fp with
 |k::r,_=>
  have wl:∀x∈k::r,x.length<=4000000:=fun x hx=>zaA (hsm x hx) (by lia);have ev:((dX (κ:=Key) [(.inr "box",.int 4),(.inr "ask",.int 2),(.inr "put",.int 3),(.inr "say",.int 2),(.inr "must",.int 4),(.inr "if",.int 4),(.inr "else",.int 1),(.inr "while",.int 4),(.inr "end",.int 1),(.inr "stop",.int 1)] (.inr (S k))).getD (.int 0))=V.int (PM.z7 k):=by
   rw[<- MK,<- Ef,uU,Gm,Gn,Gp,ML,MM,Bj,lW,MN,Bk];rfl
  have ef:PM.fI (k::r)=if PM.z7 k≠r.length+1 then none else if k=PM.nj then PM.MH (k::r) else if k=PM.rQ then (PM.uR (r.getD 0 [])).map .ask else if k=PM.rR then (PM.uR (r.getD 0 [])).bind fun n=>(PM.expr (r.getD 1 [])).map (.put n) else if k=PM.rT then (PM.expr (r.getD 0 [])).map .say else if k=PM.gu\/k=PM.jV\/k=PM.bK then PM.Ec (k::r) else some (.one k):=rfl
  refine bp (.of ya) (v:=sv k) (aQ (j:=0) rfl) ⟨_,_,rfl,C.Ae,.inr (S k),rfl,a,_,rfl,.inl (.of ya),?_⟩;rw[ev,zai,zah];refine⟨rfl,bW (fun hc=>?_) (fun hc=>⟨by decide,qn (by rw[ef,if_pos (fun z=>hc (by rw[z]))]) H0 s0⟩)⟩;have S8:PM.z7 k=r.length+1:=by have:=V.int.inj hc;lia
  rw[if_neg (fun z=>z S8)] at ef;refine⟨rfl,bW (fun h1=>?_) (fun h1=>?_)⟩
  ·have e1:=(c7 uU).mp h1;rw[if_pos e1] at ef;have l4:(k::r).length=4:=by rw[zah,<- S8,e1];rfl
   exact⟨a,k::r,rfl,ya,wl,l4,fun z H1 s1=>qn (ef.trans z) H1 (s0.trans s1),fun fm z v H1 s1 rv=>qs fm (ef.trans z) v H1 (s0.trans s1) rv⟩
  have n1:k≠PM.nj:=fun z=>h1 ((c7 uU).mpr z);rw[if_neg n1] at ef;refine⟨rfl,bW (fun h2=>?_) (fun h2=>?_)⟩
  ·have e2:=(c7 Gm).mp h2;rw[if_pos e2] at ef;have l2:r.length=1:=by
    have z:PM.z7 k=2:=by rw[e2];rfl
    lia
   match r,l2 with
   |[x],_=>
    refine bp (.of ya) (v:=sv x) (aQ (j:=1) rfl) ⟨x,rfl,wl x (by simp),?_⟩;have OW:PM.fI [k,x]=(PM.uR x).map .ask:=ef;cases hx:PM.uR x with
    |none=>exact fun H1 s1=>qn (by rw[OW,hx];rfl) H1 (s0.trans s1)
    |some n=>
     intro H1 s1 p hp;refine qs (.ask x) (by rw[OW,hx];unfold PM.uR at hx;split at hx<;>cases hx;rfl) _ _ ((s0.trans s1).trans (ar.new hp _)) ?_;exact Rep.new hp (.cons (Rep.aK.mpr rfl) (.cons (Rep.aK.mpr rfl) .nil))
  have n2:k≠PM.rQ:=fun z=>h2 ((c7 Gm).mpr z);rw[if_neg n2] at ef;refine⟨rfl,bW (fun h3=>?_) (fun h3=>?_)⟩
  ·have e3:=(c7 Gn).mp h3;rw[if_pos e3] at ef;have l3:r.length=2:=by
    have z:PM.z7 k=3:=by rw[e3];rfl
    lia
   match r,l3 with
   |[x,y],_=>
    refine bp (.of ya) (v:=sv x) (aQ (j:=1) rfl) ⟨x,rfl,wl x (by simp),?_⟩;have OW:PM.fI [k,x,y]=(PM.uR x).bind fun n=>(PM.expr y).map (.put n):=ef;cases hx:PM.uR x with
    |none=>exact fun H1 s1=>qn (by rw[OW,hx];rfl) H1 (s0.trans s1)
    |some n=>
     intro H1 s1;refine bp (.of (s1 _ _ ya)) (v:=sv y) (aQ (j:=2) rfl) ⟨y,rfl,zaA (wl y (by simp)) (by decide),?_⟩;cases hy:PM.expr y with
     |none=>exact fun H2 s2=>qn (by rw[OW,hx,hy];rfl) H2 (s0.trans (s1.trans s2))
     |some e=>
      intro v H2 s2 rv p hp;refine qs (.put x e) (by rw[OW,hx,hy];unfold PM.uR at hx;split at hx<;>cases hx;rfl) _ _ ((s0.trans (s1.trans s2)).trans (ar.new hp _)) ?_;exact Rep.new hp (.cons (Rep.aK.mpr rfl) (.cons (Rep.aK.mpr rfl) (.cons rv .nil)))
  have n3:k≠PM.rR:=fun z=>h3 ((c7 Gn).mpr z);rw[if_neg n3] at ef;refine⟨rfl,bW (fun h4=>?_) (fun h4=>?_)⟩
  ·have e4:=(c7 Gp).mp h4;rw[if_pos e4] at ef;have l2:r.length=1:=by
    have z:PM.z7 k=2:=by rw[e4];rfl
    lia
   match r,l2 with
   |[x],_=>
    refine bp (.of ya) (v:=sv x) (aQ (j:=1) rfl) ⟨x,rfl,zaA (wl x (by simp)) (by decide),?_⟩;have OW:PM.fI [k,x]=(PM.expr x).map .say:=ef;cases hx:PM.expr x with
    |none=>exact fun H1 s1=>qn (by rw[OW,hx];rfl) H1 (s0.trans s1)
    |some e=>
     intro v H1 s1 rv p hp;refine qs (.say e) (by rw[OW,hx];rfl) _ _ ((s0.trans s1).trans (ar.new hp _)) ?_;exact Rep.new hp (.cons (Rep.aK.mpr rfl) (.cons rv .nil))
  have n4:k≠PM.rT:=fun z=>h4 ((c7 Gp).mpr z);rw[if_neg n4] at ef;intro p hp;have sp:=ar.new hp (.tup [V.str (zab "must"),V.str (zab "if"),V.str (zab "while")]);have iT:cv K (upd H0 p (.tup [V.str (zab "must"),V.str (zab "if"),V.str (zab "while")])) p [V.str (zab "must"),V.str (zab "if"),V.str (zab "while")]:=.of aj;have hl:([V.str (zab "must"),V.str (zab "if"),V.str (zab "while")]:List V)=[PM.gu,PM.jV,PM.bK].map sv:=by rw[ML,MM,lW];rfl
  generalize upd H0 p (.tup [V.str (zab "must"),V.str (zab "if"),V.str (zab "while")])=H1 at *;refine⟨p,_,rfl,.inr iT,rfl,rfl,_,rfl,?_⟩;rw[hl,in_words];by_cases hk:k=PM.gu\/k=PM.jV\/k=PM.bK
  ·have YL:([PM.gu,PM.jV,PM.bK]:List W).contains k=true:=by rw[za6];simpa using hk
   rw[YL,if_neg zan,if_pos rfl];rw[if_pos hk] at ef;have l4:(k::r).length=4:=by
    rw[zah,<- S8];rcases hk with z |z |z<;>(rw[z];rfl)
   exact⟨a,k::r,rfl,sp _ _ ya,wl,l4,fun z H2 s2=>qn (ef.trans z) H2 (s0.trans (sp.trans s2)),fun fm z v H2 s2 rv=>qs fm (ef.trans z) v H2 (s0.trans (sp.trans s2)) rv⟩
  ·have YL:([PM.gu,PM.jV,PM.bK]:List W).contains k=false:=by rw[Bool.eq_false_iff];intro z;exact hk (by rw[za6] at z;simpa using z)
   rw[YL,if_neg zan,if_neg zan];rw[if_neg hk] at ef;intro p2 Gs;exact qs (.one k) ef _ _ ((s0.trans sp).trans (ar.new Gs _)) (Rep.new Gs (.cons (Rep.aK.mpr rfl) .nil))
theorem Nj(T:Tx K mg t){n:Nat}(gV:a8 P w K mg base gI n t.gR t.g9 ["e"] (mI K n)) :
 a8 P w K mg base gI (n+1) t.gR t.g9 ["e"] (mI K (n+1)):=by
 refine T.bu.F.rq vV (fun vs H Q E h=>?_) (fun dM A outer s H vs Q E hr h=>?_)
 ·obtain⟨_,_,rfl,_⟩:=h;rfl
 obtain⟨v,tr,rfl,hv,op,ht,hl,q⟩:=h;have nd:=vV.nd;refine⟨_,[some v],(ag (aX (az b7 (aO bE (pv 0) ai aw) au (aN _))
 (ao (aH (bb af)))
 aF)
 (ag (aX (az b7 (aO bE (pv 0) ai aw) au (aN _))
 (ao (aH (bb (ae (aO bE (pv 0) ai aw) af bg))))
 aF)
 (ao (aH (aC xH (ax gV (hr.mono (by first|decide|omega)) rfl T.bu.m T.bu.F.kp T.bu.b .nil bc (ae (aO bE (pv 0) ai aw) af bg)) (ax gV (hr.mono (by first|decide|omega)) rfl T.bu.m T.bu.F.kp T.bu.b .nil bc (ae (aO bE (pv 0) ai aw) af bg))))))),rfl,?_⟩
 have n1:¬("box":Str) = "number":=by decide +kernel
 cases tr with
 |num m=>
  unfold cV at hv;simp only[Rep.aZ,aG.aM,aG.aS,Rep.aK,Rep.bO] at hv;obtain⟨a,xs,rfl,hS,_,_,rfl,rfl,_,_,rfl,rfl,rfl⟩:=hv;walk_at "rd";refine a9 hS rfl ?_;walk_at "rd";rw[if_pos trivial];intro l Nh;exact q l _ (ar.new Nh _) Nh aj
 |box x=>
  unfold cV at hv;simp only[Rep.aZ,aG.aM,aG.aS,Rep.aK,Rep.bO] at hv;obtain⟨a,xs,rfl,hS,_,_,rfl,rfl,_,_,rfl,rfl,rfl⟩:=hv;walk_at "rd";refine a9 hS rfl ?_;walk_at "rd";rw[if_neg n1];refine a9 hS rfl ?_;walk_at "rd";rw[if_pos trivial];refine a9 hS rfl fun l Nh=>?_;exact q l _ (ar.new Nh _) Nh aj
 |bin o l r=>
  unfold cV at hv;simp only[Rep.aZ,aG.aM,aG.aS,Rep.aK,Rep.bO] at hv;obtain⟨a,xs,rfl,hS,_,_,rfl,rfl,vl,_,rfl,Sq,vr,_,rfl,yC,rfl⟩:=hv;obtain⟨ho,ol,or'⟩:=op;have n2:¬S o = "number":=by rcases ho with rfl |rfl |rfl<;>decide +kernel
  have n3:¬S o = "box":=by rcases ho with rfl |rfl |rfl<;>decide +kernel
  have eN:PM.jP (.bin o l r)=PM.jP l++PM.jP r:=rfl;rw[eN] at q hl;rw[zaf] at hl;rw[PG.xV] at ht;walk_at "rd";refine a9 hS rfl ?_;walk_at "rd";rw[if_neg n2];refine a9 hS rfl ?_;walk_at "rd";rw[if_neg n3];refine a9 hS rfl ⟨vl,l,rfl,Sq,ol,by lia,by lia,fun l1 H1 s1 f1 y1=>?_⟩;refine a9 (s1.dQ hS) rfl ⟨vr,r,rfl,yC.mono s1,or',by lia,by lia,fun l2 H2 s2 f2 y2=>?_⟩;refine⟨l1,l2,_,_,rfl,rfl,s2 _ _ y1,y2,by rw[zai,zai];exact zaA hl (by decide),fun l3 f3=>?_⟩;refine q l3 _ ((s1.trans s2).trans (ar.new f3 _)) (bX (s1.trans s2) f3) ?_;rw[aj,zaw]
theorem Bw(T:Tx K mg t):∀n,a8 P w K mg base gI n t.gR t.g9 ["e"] (mI K n)
 |0=>by
  have no:∀vs H Q E,¬mI K 0 vs H Q E:=fun vs H Q E h=>by cases h;lia
  exact⟨fun vs H Q E h=>(no vs H Q E h).elim,fun _ _ _ _ _ _ _ _ _ _ _ _ _ h=>(no _ _ _ _ h).elim⟩
 |n+1=>Nj T (Bw T n)
theorem Ag(T:Tx K mg t):a8 P w K mg base gI 1 t.cU t.mf ["self"] (Qp K t.a7):=by
 refine T.ka.rq qR (fun vs H Q E h=>?_) (fun dM A outer s H vs Q E hr h=>?_)
 ·obtain⟨_,_,rfl,_⟩:=h;rfl
 obtain⟨p,dx,rfl,yp,yd,q⟩:=h;have nd:=qR.nd;refine⟨_,[some (.ref p)],(ag (xB (pv 0) (bb af) rfl)
 (ag (xB (pv 0) (bb af) rfl)
 (ao (xB (pv 0) (bb af) rfl)))),rfl,?_⟩
 walk_at "rd";intro bx fx;have n1:p≠bx:=aB yp fx;refine⟨p,_,dx,[],rfl,by rw[aq n1];exact yp,T.bL,T.da,by decide,fun bd fb=>?_⟩;have n2:bd≠p:=fun z=>by rw[z,aj] at fb;cases fb
 have f2:upd H bx (.lst []) bd=none:=by rw[aq n2] at fb;exact fb
 have n3:bd≠bx:=fun z=>by rw[z,aj] at f2;cases f2
 have f3:H bd=none:=by rw[aq n3] at f2;exact f2
 refine⟨p,_,dx,[("boxes",.ref bx)],rfl,by rw[aq (Ne.symm n2),aj];rfl,T.bL,T.e6,by show 1<1000;decide,fun ns fn=>?_⟩;have n4:ns≠p:=fun z=>by rw[z,aj] at fn;cases fn
 rw[aq n4] at fn;have n5:ns≠bd:=fun z=>by rw[z,aj] at fn;cases fn
 rw[aq n5,aq n4] at fn;have n6:ns≠bx:=fun z=>by rw[z,aj] at fn;cases fn
 rw[aq n6] at fn;refine⟨p,_,dx,[("boxes",.ref bx),("body",.ref bd)],rfl,by rw[aq (Ne.symm n4),aj];rfl,T.bL,T.bw,by show 2<1000;decide,?_⟩;generalize hF:upd _ p _=Hf;have up:bH p H Hf:=fun b o nb e=>by rw[<- hF,aq nb,aq (aB e fn),aq nb,aq (aB e f3),aq nb,aq (aB e fx)];exact e
 have y1:Hf bx=some (.lst []):=by rw[<- hF,aq (Ne.symm n1),aq (Ne.symm n6),aq (Ne.symm n1),aq (Ne.symm n3),aq (Ne.symm n1),aj]
 have y2:Hf bd=some (.lst []):=by rw[<- hF,aq n2,aq (Ne.symm n5),aq n2,aj]
 have y3:Hf ns=some (.lst []):=by rw[<- hF,aq n4,aj]
 have y4:Hf p=some (.ins t.a7 dx [("boxes",.ref bx),("body",.ref bd),("nest",.ref ns)]):=by rw[<- hF,aj];rfl
 refine q bx bd ns Hf fx f3 fn up ?_;refine {ok:=⟨⟨Nat.zero_lt_one,fun i ss e b hb=>?_,fun i ss e=>?_,fun i j ss tt x e1 e2 x1 x2=>?_⟩,(fun p hp=>by cases hp),fun z=>absurd rfl z⟩,ins:=⟨dx,y4⟩,box:=⟨[],y1,.nil⟩,zR:=⟨[],y3,sG.nil⟩,ct:=⟨rfl,by simp,fun i a ss e1 e2=>?_⟩,d1:=Ne.symm n6,OO:=by simpa using Ne.symm n3,Tv:=by simpa using n5,l4:=by show 0<=4;decide,l5:=by show 0<=5;decide,sz:=fun a ha=>by rw[zad.mp ha];exact⟨[],y2,zag _⟩}
 ·have:=zal e;rw[zad.mp this] at hb;cases hb
 ·have:=zal e;rw[zad.mp this];exact zcl
 ·have:=zal e1;rw[zad.mp this] at x1;cases x1
 ·rw[zad.mp (zal e1),zad.mp (zal e2)];exact⟨[],y2,sG.nil⟩
theorem xc{α:Type}{l:List α}{x:α}(h:l.getLast?=some x):zU l (-1)=some x:=by
 obtain⟨ys,e⟩:=zbF.mp h;rw[e];exact xF _ _
theorem si(T:Tx K mg t):a8 P w K mg base gI 1 t.bU t.gS ["self"] (Qm K t.a7):=by
 refine T.fA.rq kz (fun vs H Q E h=>?_) (fun dM A outer s H vs Q E hr h=>?_)
 ·obtain⟨_,_,_,_,_,_,rfl,_⟩:=h;rfl
 obtain⟨p,bx,ns,aE,c,m,rfl,dr,q⟩:=h;have nd:=kz.nd;refine⟨_,[some (.ref p)],(ag (aX (oE (c6 (pv 0) rfl) (fun _=>rfl))
 (ao (aH (aO bE (aO aW (c6 (pv 0) rfl) (sN mX ai) xK) ai aw)))
 aF)
 (ao (aH (c6 (pv 0) rfl)))),rfl,?_⟩
 walk_at "rd";obtain⟨dx,yp⟩:=dr.ins;obtain⟨us,yn,ix⟩:=dr.zR;refine⟨p,_,dx,_,.ref ns,rfl,yp,T.bL,T.bw,rfl,_,.inl ⟨us,.of yn,rfl⟩,?_⟩;unfold PM.Dc.top at q;cases hk:c.bP.getLast? with
 |none=>
  have ek:c.bP=[]:=zbl.mp hk;have eu:us=[]:=zaX.mp (by rw[ix.1,ek];rfl);subst eu;rw[hk] at q;exact⟨p,_,dx,_,_,rfl,yp,T.bL,T.e6,rfl,q⟩
 |some x=>
  rw[hk] at q;obtain⟨u,hu,a,rfl,hS⟩:=ix.last hk;have eu:us.isEmpty=false:=by cases us with
   |nil=>cases hu
   |cons=>rfl
  rw[eu];exact⟨p,_,dx,_,.ref ns,rfl,yp,T.bL,T.bw,rfl,1,rfl,bp (.of yn) (v:=.ref a) (xc hu) (a9 hS rfl q)⟩
theorem wJ(T:Tx K mg t):a8 P w K mg base gI 1 t.bD t.fW ["self"] (Qn K t.a7):=by
 refine T.dS.rq jx (fun vs H Q E h=>?_) (fun dM A outer s H vs Q E hr h=>?_)
 ·obtain⟨_,_,_,_,_,_,rfl,_⟩:=h;rfl
 obtain⟨p,bx,ns,aE,c,m,rfl,dr,q⟩:=h;have nd:=jx.nd;refine⟨_,[some (.ref p)],(ag (aX (oE (c6 (pv 0) rfl) (fun _=>rfl))
 (ao (aH (aO bE (aO aW (c6 (pv 0) rfl) (sN mX ai) xK) ai aw)))
 aF)
 (ao (aH xo))),rfl,?_⟩
 walk_at "rd";obtain⟨dx,yp⟩:=dr.ins;obtain⟨us,yn,ix⟩:=dr.zR;refine⟨p,_,dx,_,.ref ns,rfl,yp,T.bL,T.bw,rfl,_,.inl ⟨us,.of yn,rfl⟩,?_⟩;cases hk:c.bP.getLast? with
 |none=>
  have ek:c.bP=[]:=zbl.mp hk;have eu:us=[]:=zaX.mp (by rw[ix.1,ek];rfl);subst eu;rw[hk] at q;exact q
 |some x=>
  rw[hk] at q;obtain⟨u,hu,a,rfl,hS⟩:=ix.last hk;have eu:us.isEmpty=false:=by cases us with
   |nil=>cases hu
   |cons=>rfl
  rw[eu];exact⟨p,_,dx,_,.ref ns,rfl,yp,T.bL,T.bw,rfl,1,rfl,bp (.of yn) (v:=.ref a) (xc hu) (a9 hS rfl q)⟩
theorem pT(T:Tx K mg t):a8 P w K mg base gI 1 t.bV t.gU ["self"] (Qo K t.a7):=by
 refine T.fC.rq kA (fun vs H Q E h=>?_) (fun dM A outer s H vs Q E hr h=>?_)
 ·obtain⟨_,_,_,_,_,_,rfl,_⟩:=h;rfl
 obtain⟨p,bx,ns,aE,c,m,rfl,dr,q⟩:=h;have nd:=kA.nd;refine⟨_,[some (.ref p)],(ao (aH (kX (own:=["box"]) (ix:=[]) rfl (by rfl) (by rfl) (fj (c6 (pv 0) rfl)) (fun _ _ _ _=>(bh (i:=0) (by show List.Nodup (["box"]:List Str);decide +kernel) rfl (zas rfl))) (fun _ _ _ _=>j4) (fun _ _ _ _=>(aO (HR (K:=K) rfl) (pv 0) ai aw))))),rfl,?_⟩;walk_at "rd";obtain⟨dx,yp⟩:=dr.ins;obtain⟨us,yb,rb⟩:=dr.box;have lu:us.length=c.nB.length:=by rw[mK rb,zai]
 have l4:=dr.l4;refine⟨p,_,dx,_,.ref bx,rfl,yp,T.bL,T.da,rfl,?_⟩;refine⟨bx,rfl,⟨us,.of yb⟩,fun D hD=>?_⟩;refine mE (K:=K) (fun i=>sv ((c.nB.map (·.1)).getD i [])) (.of yb) (by lia) hD (fun i x H2 hx s2 R hR=>?_) (fun H2 s2 y2=>q D H2 s2 ?_)
 ·obtain⟨b,ba,Qb,rfl,sb⟩:=B5 rb hx;walk_at "rd";refine a9 (s2.dQ sb) (v:=sv b.1) (aQ (j:=0) rfl) ?_;have:(c.nB.map (·.1)).getD i []=b.1:=by rw[zae,zaz,Qb];rfl
  rw[this] at hR;exact hR
 ·rw[y2]
  congr 2
  refine zcr (by simp[lu]) fun i h1 h2=>?_;rw[zbw,zck,zbw,zae,zac (by simpa using h2)];rfl
def SD:Sp:=fun vs H Q _=>∃a b:Int,vs=[.int a,.int b]/\Q (.bl (decide (2<=a/\a<=10/\b<a))) H
theorem zi(T:Tx K mg t):a8 P w K mg base gI 1 t.gE t.iC ["size", "first"] SD:=by
 refine T.eY.F.rq pI (fun vs H Q E h=>?_) (fun dM A outer s H vs Q E hr h=>?_)
 ·obtain⟨_,_,rfl,_⟩:=h;rfl
 obtain⟨a,b,rfl,q⟩:=h;have nd:=pI.nd;obtain⟨OX,Cp,Cq⟩:=T.Ac;obtain⟨Qx,EM,EN⟩:=T.Cg;refine⟨_,[some (.int a),some (.int b)],(ao (aH (uy (xw xv xv (dR rfl Cp Cq) (pv 0) (dR rfl EM EN)) (xq (kU AL (pv 1) (pv 0) (aN _)))))),rfl,?_⟩;walk_at "rd";by_cases h1:2<=a
 ·rw[if_pos h1];by_cases h2:a<=10
  ·rw[if_pos h2];have e:decide (2<=a/\a<=10/\b<a)=decide (b<a):=by simp[h1,h2]
   rw[e] at q;exact q
  ·rw[if_neg h2];rw[decide_eq_false (fun z=>h2 z.2.1)] at q;exact q
 ·rw[if_neg h1,if_neg zan];rw[decide_eq_false (fun z=>h1 z.1)] at q;exact q
theorem EO(T:Tx K mg t):a8 P w K mg base (km P w) 2 t.kE t.lI ["draft", "number", "box"] (Qq K t.a7):=by
 have Ah:=zi (P:=P) (w:=w) (base:=base) T;have iQ:=pT (P:=P) (w:=w) (base:=base) T;refine T.jd.F.C7 vZ (fun vs H Q E h=>?_) (fun dM A outer s H vs Q E hr h=>?_)
 ·obtain⟨_,_,_,_,_,_,_,_,_,_,_,_,rfl,_⟩:=h;rfl
 obtain⟨p,bx,ns,aE,c,m,k,v,n,a,b,d',rfl,dr,rv,ht,q⟩:=h;have nd:=vZ.nd;obtain⟨OY,Cr,Cs⟩:=T.Ab;refine⟨_,[some (.ref p),some (.int k),some v],(ag (aX (oE (c6 (pv 0) rfl) (fun _=>rfl))
 (ao (b3 du T.mQ rfl T.se rfl (ae (lC (.cons au (.cons (tF (pv 1)) (.cons au .nil)))) af kY)))
 aF)
 (ag (aX (oB (iV (ax Ah (hr.mono (by first|decide|omega)) rfl T.eY.m T.eY.F.kp T.eY.b .nil bc (ae (aO bE (pv 2) ai aw) (ae (aO bE (pv 2) ai aw) af bg) bg))))
 (ao (b3 du T.pN rfl T.Ca rfl (ae (lC (.cons au (.cons (tF (pv 1)) (.cons au .nil)))) af kY)))
 aF)
 (ag (aX (az gY (aO bE (pv 2) ai aw) (dW (pv 0) T.bL T.lM iQ (hr.mono (by first|decide|omega)) T.lL .nil bc) rfl)
 (ao (b3 du T.Cb rfl T.Na rfl (ae (lC (.cons au (.cons (tF (pv 1)) (.cons au .nil)))) af kY)))
 aF)
 (ag (aX (az b7 (bo bB rfl T.fY PyProof.Rows.Boot.«len» (ae (c6 (pv 0) rfl) af sU)) (dR rfl Cr Cs) (aN _))
 (ao (b3 du T.GA rfl T.OS rfl (ae (lC (.cons au (.cons (tF (pv 1)) (.cons au .nil)))) af kY)))
 aF)
 (ao (ck (gZ zaB zaG zaH cg (c6 (pv 0) rfl) (ae (pv 2) af ah)))))))),rfl,?_⟩
 walk_at "rd";have line:zd2=2 ^ 24:=rfl;obtain⟨dx,yp⟩:=dr.ins;obtain⟨e0,m0⟩:=dr.Tw dr.ok.ft.ne;obtain⟨ys,yb,WR⟩:=dr.ct.ct 0 _ _ e0 (zac dr.ok.ft.ne);have YM:=rv;unfold xg at rv;simp only[Rep.aZ,aG.aM,aG.aS,Rep.aK,Rep.bO] at rv;obtain⟨va,xs,rfl,hS,_,_,rfl,rfl,_,_,rfl,rfl,_,_,rfl,rfl,rfl⟩:=rv;refine⟨p,_,dx,_,_,rfl,yp,T.bL,T.e6,rfl,_,.inl ⟨ys,.of yb,rfl⟩,?_⟩;unfold PM.Gk at ht;split at ht
 ·cases ht
 rename_i YN;split at ht
 ·cases ht
 rename_i hm;split at ht
 ·cases ht
 rename_i hn;split at ht
 ·cases ht
 rename_i h4;have hm:=Decidable.not_not.mp hm;have ey:ys=[]:=by
  have e1:c.aJ.headD []=[]:=by
   have:¬decide (c.aJ.headD []≠[])=true:=YN;simpa using this
  rw[PM.uY,zae,zac dr.ok.ft.ne] at e1;exact zaX.mp (by rw[WR.1];exact zaX.mpr e1)
 subst ey;rw[if_neg (show ¬(!([]:List V).isEmpty)=true by decide)];refine a9 hS (v:=.int a) (aQ (j:=1) rfl) (a9 hS (v:=.int b) (aQ (j:=2) rfl) ⟨a,b,rfl,_,rfl,?_⟩);rw[decide_eq_true hm,if_neg (show ¬(!true)=true by decide)];refine a9 hS (v:=sv n) (aQ (j:=0) rfl) ?_;refine⟨p,dx,_,rfl,yp,rfl,.mk p bx ns aE c m rfl dr fun l H2 s2 yl=>?_⟩;refine⟨l,_,rfl,.inl (.of yl),rfl,by rw[zdR];exact za1.mpr fun _ _=>rfl,_,rfl,?_⟩;rw[if_neg zan,in_words];rw[if_neg (show ¬(c.nB.map (·.1)).contains n=true from fun z=>hn (za6.mp z))];have Kn:=dr.same s2;obtain⟨us,yx,rx⟩:=Kn.box;have lu:us.length=c.nB.length:=by rw[mK rx,zai]
 have l4:=dr.l4;have h4':c.nB.length≠4:=fun z=>h4 (by show (c.nB.map (·.1)).length=4;rw[zai];exact z);refine⟨p,_,dx,_,.ref bx,rfl,s2 _ _ yp,T.bL,T.da,rfl,bx,us,rfl,.inl (.of yx),?_⟩;rw[if_neg (fun z=>h4' (by lia))];refine⟨p,_,dx,_,.ref bx,rfl,s2 _ _ yp,T.bL,T.da,rfl,.inl ⟨rfl,_,.of yx⟩,bx,us,.ref va,rfl,rfl,yx,by lia,?_⟩;refine q _ ((bf.of s2).put (.inl rfl) _) ?_;obtain⟨us3,yn3,ix3⟩:=Kn.zR;refine {Kn with ok:=⟨dr.ok.ft,dr.ok.pl,dr.ok.nb⟩,ins:=⟨dx,by rw[aq (Kn.Tt (.inl rfl))];exact s2 _ _ yp⟩,box:=⟨us++[.ref va],aj,?_⟩,zR:=⟨us3,by rw[aq (Ne.symm Kn.d1)];exact yn3,ix3.imp fun _ _ z=>by obtain⟨a1,e1,q1⟩:=z;exact⟨a1,e1,B7 q1 yx⟩⟩,ct:=Kn.ct.Qk yx Kn.OO,l4:=by show (c.nB++[(n,a,b)]).length<=4;rw[zaf,zav];lia,sz:=fun y hy=>by obtain⟨u1,y1,l1⟩:=Kn.sz y hy;exact⟨u1,by rw[aq (show y≠bx from fun z=>Kn.OO (z▸hy))];exact y1,l1⟩};show aG K _ ((c.nB++[(n,a,b)]).map xg) _;rw[zaw];exact(kc (jw _) rx yx).append (kc (jw [(n,a,b)]) (.cons (YM.mono s2) .nil) yx)
theorem xl{CD:zdU}{H:Hp}{p bx ns:zdU}{aE:List zdU}{c:PM.Dc}{m:Nat}(h:uZ K CD H p bx ns aE c m){us:List V}{pl:List (Nat×Option Nat)}(cJ:({c with bP:=pl}:PM.Dc).Ok)(hl:pl.length<=5)(ix:sG (Tu K H aE) pl us):uZ K CD (upd H ns (.lst us)) p bx ns aE {c with bP:=pl} m:=by
 obtain⟨dx,yp⟩:=h.ins;obtain⟨us0,yn,_⟩:=h.zR;obtain⟨ub,yx,rx⟩:=h.box;exact {h with ok:=cJ,ins:=⟨dx,by rw[aq (h.Tt (.inr (.inl rfl)))];exact yp⟩,box:=⟨ub,by rw[aq h.d1];exact yx,kc (jw _) rx yn⟩,zR:=⟨us,aj,ix.imp fun _ _ z=>by obtain⟨a1,e1,q1⟩:=z;exact⟨a1,e1,B7 q1 yn⟩⟩,ct:=h.ct.Qk yn h.Tv,l5:=hl,sz:=fun y hy=>by obtain⟨u1,y1,l1⟩:=h.sz y hy;exact⟨u1,by rw[aq (show y≠ns from fun z=>h.Tv (z▸hy))];exact y1,l1⟩}
theorem ER(T:Tx K mg t):a8 P w K mg base (km P w) 2 t.kF t.lJ ["draft", "number"] (Ey K t.a7 PM.uT fun c=>c.bP.dropLast):=by
 refine T.je.F.C7 v7 (fun vs H Q E h=>?_) (fun dM A outer s H vs Q E hr h=>?_)
 ·obtain⟨_,_,_,_,_,_,_,_,rfl,_⟩:=h;rfl
 obtain⟨p,bx,ns,aE,c,m,k,d',rfl,dr,ht,cJ,q⟩:=h;have nd:=v7.nd;refine⟨_,[some (.ref p),some (.int k)],(ag (aX (oB (oE (c6 (pv 0) rfl) (fun _=>rfl)))
 (ao (b3 du T.mQ rfl T.se rfl (ae (lC (.cons au (.cons (tF (pv 1)) (.cons au .nil)))) af kY)))
 aF)
 (ao (ck (FO zaB zct zcu FQ (c6 (pv 0) rfl))))),rfl,?_⟩
 walk_at "rd";obtain⟨dx,yp⟩:=dr.ins;obtain⟨us,yn,ix⟩:=dr.zR;refine⟨p,_,dx,_,.ref ns,rfl,yp,T.bL,T.bw,rfl,_,.inl ⟨us,.of yn,rfl⟩,?_⟩;unfold PM.uT at ht;split at ht
 ·cases ht
 rename_i ek;cases hk:c.bP.getLast? with
 |none=>exact absurd (by show c.bP.map _=[];rw[zbl.mp hk];rfl) ek
 |some b=>
  obtain⟨u,hu,fu⟩:=ix.last hk;have ee:us.isEmpty=false:=by cases us with
   |nil=>cases hu
   |cons=>rfl
  rw[ee,if_neg (show ¬(!(!false))=true by decide)];refine⟨p,_,dx,_,.ref ns,rfl,yp,T.bL,T.bw,rfl,.inl ⟨rfl,_,.of yn⟩,ns,us,u,rfl,rfl,yn,by rw[<- zaZ];exact hu,?_⟩;exact q _ (bf.refl.put (.inr (.inl rfl)) _) (xl dr cJ (by rw[zaO];have:=dr.l5;lia) ix.drop)
theorem Ct(T:Tx K mg t):a8 P w K mg base (km P w) 2 t.jz t.j7 ["draft", "number"] (Ey K t.a7 PM.mH fun c=>c.bP.dropLast++PM.Qi c.bP.getLast?):=by
 have qA:=wJ (P:=P) (w:=w) (base:=base) T;refine T.ie.F.C7 tO (fun vs H Q E h=>?_) (fun dM A outer s H vs Q E hr h=>?_)
 ·obtain⟨_,_,_,_,_,_,_,_,rfl,_⟩:=h;rfl
 obtain⟨p,bx,ns,aE,c,m,k,d',rfl,dr,ht,cJ,q⟩:=h;have nd:=tO.nd;refine⟨_,[some (.ref p),some (.int k),none],(ag (aP (i:=2) nd rfl (zas rfl) (dW (pv 0) T.bL T.qz qA (hr.mono (by first|decide|omega)) T.qy .nil bc))
 (ag (aX (az Q6 (pv 2) xo (aN _))
 (ao (b3 du T.mQ rfl T.se rfl (ae (lC (.cons au (.cons (tF (pv 1)) (.cons au .nil)))) af kY)))
 aF)
 (ag (ck (FO zaB zct zcu FQ (c6 (pv 0) rfl)))
 (ao (ck (gZ zaB zaG zaH cg (c6 (pv 0) rfl) (ae (bQ (ae (pv 2) (ae xo af ay) ah)) af e8))))))),rfl,?_⟩
 walk_at "rd";have line:zd2=2 ^ 24:=rfl;obtain⟨dx,yp⟩:=dr.ins;obtain⟨us,yn,ix⟩:=dr.zR;have l5:=dr.l5;have lu:us.length=c.bP.length:=ix.1;unfold PM.mH at ht;split at ht
 rotate_left
 ·cases ht
 rename_i hl;have Sq:(c.bP.map (fun p:Nat×Option Nat=>p.2.isSome)).getLast?=some true:=hl;rw[zc1] at Sq;obtain⟨⟨b,o⟩,e1,e2⟩:=zaP.mp Sq;cases o with
 |none=>cases e2
 |some x=>
  obtain⟨u,hu,fu⟩:=ix.last e1;refine⟨p,dx,_,rfl,yp,rfl,.mk p bx ns aE c m rfl dr ?_⟩;rw[e1,show VG aE (some (b,some x))=V.ref (aE.getD x 0) from rfl];rw[if_neg (fun z=>by cases z)];refine⟨p,_,dx,_,.ref ns,rfl,yp,T.bL,T.bw,rfl,.inl ⟨rfl,_,.of yn⟩,ns,us,u,rfl,rfl,yn,by rw[<- zaZ];exact hu,?_⟩;have YO:({c with bP:=c.bP.dropLast}:PM.Dc).Ok:=⟨dr.ok.ft,fun y hy=>dr.ok.pl y (zbn _ hy),fun _=>dr.ok.nb (fun z=>by rw[z] at e1;cases e1)⟩
  have dr1:=xl dr YO (by rw[zaO];lia) ix.drop;have u1:bf (OP bx ns aE) H (upd H ns (.lst us.dropLast)):=bf.refl.put (.inr (.inl rfl)) _;have yp1:(upd H ns (.lst us.dropLast)) p=some (.ins t.a7 dx [("boxes",.ref bx),("body",.ref (aE.getD 0 0)),("nest",.ref ns)]):=by rw[aq (dr.Tt (.inr (.inl rfl)))];exact yp
  have YQ:(upd H ns (.lst us.dropLast)) ns=some (.lst us.dropLast):=aj;generalize upd H ns (.lst us.dropLast)=H1 at *;refine⟨p,_,dx,_,.ref ns,rfl,yp1,T.bL,T.bw,rfl,.inl ⟨rfl,_,.of YQ⟩,fun g hg=>?_⟩;have sg:=ar.new hg (.tup [V.ref (aE.getD x 0),V.dh]);have ig:cv K (upd H1 g (.tup [V.ref (aE.getD x 0),V.dh])) g [V.ref (aE.getD x 0),V.dh]:=.of aj;have u2:=u1.trans (.of sg);generalize upd H1 g (.tup [V.ref (aE.getD x 0),V.dh])=H2 at *;have Kn:=dr1.same sg;obtain⟨Ql,y2,ix2⟩:=Kn.zR;rw[sg _ _ YQ] at y2;cases y2;refine⟨ns,us.dropLast,.ref g,rfl,rfl,sg _ _ YQ,by rw[zaO];lia,?_⟩;have eP:c.bP.dropLast++PM.Qi c.bP.getLast?=c.bP.dropLast++[(x,none)]:=by rw[e1];rfl
  rw[eP] at q cJ;exact q _ (u2.put (.inr (.inl rfl)) _) (xl (c:={c with bP:=c.bP.dropLast}) Kn cJ (by rw[zaf,zaO];show _+1<=5;lia) (ix2.snoc ⟨g,rfl,ig⟩))
theorem Ai(T:Tx K mg t):a8 P w K mg base gI 1 t.iD t.ji ["word"] MZ:=by
 refine T.gh.F.rq qL (fun vs H Q E h=>?_) (fun dM A outer s H vs Q E hr h=>?_)
 ·obtain⟨_,rfl,_⟩:=h;rfl
 obtain⟨k,rfl,q⟩:=h;have nd:=qL.nd;refine⟨_,[some (sv k)],(ag (aX (az b7 (pv 0) au (aN _))
 (ao (aH (bb (ae (bb af) (ae (bb af) af oK) oK))))
 aF)
 (ag (aX (az b7 (pv 0) au (aN _))
 (ao (aH (bb (ae (bb af) af oK))))
 aF)
 (ao (aH (bb af))))),rfl,?_⟩
 walk_at "rd";refine⟨rfl,bW (fun h1=>?_) (fun h1=>?_)⟩
 ·have e1:=(c7 MM).mp h1;intro b f1 c f2 l f3;have s1:=ar.new f1 (.lst []);have s2:=ar.new f2 (.lst []);have s3:=ar.new f3 (.lst [V.ref b,V.ref c]);have y1:(upd H b (.lst [])) b=some (.lst []):=aj;have y2:(upd (upd H b (.lst [])) c (.lst [])) c=some (.lst []):=aj;refine q [b,c] l _ (s1.trans (s2.trans s3)) (bX (s1.trans s2) f3) aj (by unfold Sk;rw[if_pos e1];rfl) (by simpa using fun z:b=c=>by rw[<- z,aj] at f2;cases f2) fun x hx=>?_;rcases zak.mp hx with rfl |hx
  ·exact⟨f1,s3 _ _ (s2 _ _ y1)⟩
  ·cases zad.mp hx;exact⟨bX s1 f2,s3 _ _ y2⟩
 have n1:k≠PM.jV:=fun z=>h1 ((c7 MM).mpr z);refine⟨rfl,bW (fun h2=>?_) (fun h2=>?_)⟩
 ·have e2:=(c7 lW).mp h2;intro b f1 l f3;have s1:=ar.new f1 (.lst []);have s3:=ar.new f3 (.lst [V.ref b]);have y1:(upd H b (.lst [])) b=some (.lst []):=aj;refine q [b] l _ (s1.trans s3) (bX s1 f3) aj (by unfold Sk;rw[if_neg n1,if_pos e2];rfl) (by simp) fun x hx=>?_;cases zad.mp hx;exact⟨f1,s3 _ _ y1⟩
 have n2:k≠PM.bK:=fun z=>h2 ((c7 lW).mpr z);intro l f3;exact q [] l _ (ar.new f3 _) f3 aj (by unfold Sk;rw[if_neg n1,if_neg n2];rfl) (by simp) fun x hx=>by cases hx
theorem vq(T:Tx K mg t):a8 P w K mg base gI 61 t.eO t.gc ["form"] (Eg K):=by
 have gV:=Bw (P:=P) (w:=w) (base:=base) T 60;refine T.dw.F.rq mL (fun vs H Q E h=>?_) (fun dM A outer s H vs Q E hr h=>?_)
 ·obtain⟨_,_,rfl,_⟩:=h;rfl
 obtain⟨v,f,rfl,rv,Bx,q⟩:=h;have nd:=mL.nd;refine⟨_,[some v,none],(ag (aP (i:=1) nd rfl (zas rfl) (aO bE (pv 0) ai aw))
 (ag (aX (az b7 (pv 1) au (aN _))
 (ao (aH (bb (ae (aO bE (pv 0) ai aw) af bg))))
 aF)
 (ag (aX (az b7 (pv 1) au (aN _))
 (ao (aH (aC xH (bb (ae (aO bE (pv 0) ai aw) af bg)) (ax gV (hr.mono (by first|decide|omega)) rfl T.bu.m T.bu.F.kp T.bu.b .nil bc (ae (aO bE (pv 0) ai aw) af bg)))))
 aF)
 (ag (aX (az b7 (pv 1) au (aN _))
 (ao (aH (ax gV (hr.mono (by first|decide|omega)) rfl T.bu.m T.bu.F.kp T.bu.b .nil bc (ae (aO bE (pv 0) ai aw) af bg))))
 aF)
 (ag (aX (az b7 (pv 1) au (aN _))
 (ao (aH (bb af)))
 aF)
 (ao (aH (aC xH (ax gV (hr.mono (by first|decide|omega)) rfl T.bu.m T.bu.F.kp T.bu.b .nil bc (ae (aO bE (pv 0) ai aw) af bg)) (ax gV (hr.mono (by first|decide|omega)) rfl T.bu.m T.bu.F.kp T.bu.b .nil bc (ae (aO bE (pv 0) ai aw) af bg)))))))))),rfl,?_⟩
 have line:zd2=2 ^ 24:=rfl;walk_at "rd";cases f with
 |box n a b=>exact Bx.elim
 |ask n=>
  unfold Dd at rv;simp only[Rep.aZ,aG.aM,aG.aS,Rep.aK] at rv;obtain⟨a,xs,rfl,hS,_,_,rfl,rfl,_,_,rfl,rfl,rfl⟩:=rv;refine a9 hS rfl ⟨rfl,?_⟩;rw[if_pos rfl];exact a9 hS rfl fun l fl=>q l _ (ar.new fl _) fl aj
 |put n e=>
  unfold Dd at rv;simp only[Rep.aZ,aG.aM,aG.aS,Rep.aK] at rv;obtain⟨a,xs,rfl,hS,_,_,rfl,rfl,_,_,rfl,rfl,ve,_,rfl,re,rfl⟩:=rv;obtain⟨_,o1,o2,o3⟩:=Bx;refine a9 hS rfl ⟨rfl,?_⟩;rw[if_neg (by decide +kernel)];refine⟨rfl,?_⟩;rw[if_pos rfl];refine a9 hS rfl fun l1 f1=>?_;have s1:=ar.new f1 (.lst [V.str (S n)]);have y1:(upd H l1 (.lst [V.str (S n)])) l1=some (.lst [V.str (S n)]):=aj;generalize upd H l1 (.lst [V.str (S n)])=H1 at *;refine a9 (s1.dQ hS) rfl ⟨ve,e,rfl,re.mono s1,o1,o2,by lia,fun l2 H2 s2 f2 y2=>?_⟩;refine⟨l1,l2,_,_,rfl,rfl,s2 _ _ y1,y2,by rw[zai];show 1+_<=_;lia,fun l3 f3=>?_⟩;exact q l3 _ ((s1.trans s2).trans (ar.new f3 _)) (bX (s1.trans s2) f3) aj
 |say e=>
  unfold Dd at rv;simp only[Rep.aZ,aG.aM,aG.aS,Rep.aK] at rv;obtain⟨a,xs,rfl,hS,_,_,rfl,rfl,ve,_,rfl,re,rfl⟩:=rv;obtain⟨o1,o2,o3⟩:=Bx;refine a9 hS rfl ⟨rfl,?_⟩;rw[if_neg (by decide +kernel)];refine⟨rfl,?_⟩;rw[if_neg (by decide +kernel)];refine⟨rfl,?_⟩;rw[if_pos rfl];exact a9 hS rfl ⟨ve,e,rfl,re,o1,o2,by lia,q⟩
 |one k=>
  unfold Dd at rv;simp only[Rep.aZ,aG.aM,aG.aS,Rep.aK] at rv;obtain⟨a,xs,rfl,hS,_,_,rfl,rfl,rfl⟩:=rv;cases (show k=PM.b5 from Bx);rw[<- Bk] at hS;refine a9 hS rfl ⟨rfl,?_⟩;rw[if_neg (by decide +kernel)];refine⟨rfl,?_⟩;rw[if_neg (by decide +kernel)];refine⟨rfl,?_⟩;rw[if_neg (by decide +kernel)];refine⟨rfl,?_⟩;rw[if_pos rfl];exact fun l fl=>q l _ (ar.new fl _) fl aj
 |cond k sg x y=>
  unfold Dd at rv;simp only[Rep.aZ,aG.aM,aG.aS,Rep.aK] at rv;obtain⟨a,xs,rfl,hS,_,_,rfl,rfl,_,_,rfl,rfl,vx,_,rfl,rx,vy,_,rfl,ry,rfl⟩:=rv;obtain⟨hk,⟨o1,o2,o3⟩,p1,p2,p3⟩:=Bx;have no:∀ {z:Str} {u:W},z=S u->u≠PM.gu->u≠PM.jV->u≠PM.bK->¬V.str (S k)=V.str z:=fun e a b c q=>by
   have:=(c7 (k:=k) e).mp q;rcases hk with h |h |h<;>rw[h] at this
   ·exact a this.symm
   ·exact b this.symm
   ·exact c this.symm
  refine a9 hS rfl ⟨rfl,?_⟩;rw[if_neg (no Gm (by decide) (by decide) (by decide))];refine⟨rfl,?_⟩;rw[if_neg (no Gn (by decide) (by decide) (by decide))];refine⟨rfl,?_⟩;rw[if_neg (no Gp (by decide) (by decide) (by decide))];refine⟨rfl,?_⟩;rw[if_neg (no Bk (by decide) (by decide) (by decide))];refine a9 hS rfl ⟨vx,x,rfl,rx,o1,o2,by lia,fun l1 H1 s1 f1 y1=>?_⟩;refine a9 (s1.dQ hS) rfl ⟨vy,y,rfl,ry.mono s1,p1,p2,by lia,fun l2 H2 s2 f2 y2=>?_⟩;refine⟨l1,l2,_,_,rfl,rfl,s2 _ _ y1,y2,by rw[zai,zai];lia,fun l3 f3=>?_⟩;refine q l3 _ ((s1.trans s2).trans (ar.new f3 _)) (bX (s1.trans s2) f3) ?_;rw[aj,<- zaw];rfl
theorem t8(T:Tx K mg t):a8 P w K mg base (km P w) 62 t.d7 t.fz ["draft", "number", "form"] (Ik K t.a7 PM.BW PM.jN PM.kq):=by
 have iQ:=pT (P:=P) (w:=w) (base:=base) T;have t9:=si (P:=P) (w:=w) (base:=base) T;have wK:=vq (P:=P) (w:=w) (base:=base) T;have Cu:=Ai (P:=P) (w:=w) (base:=base) T;refine T.c5.F.C7 lF (fun vs H Q E h=>?_) (fun dM A outer s H vs Q E hr h=>?_)
 ·obtain⟨_,_,_,_,_,_,_,_,_,_,rfl,_⟩:=h;rfl
 obtain⟨p,bx,ns,aE,c,m,k,v,f,d',rfl,dr,lm,rv,Bx,ht,q⟩:=h;have nd:=lF.nd;obtain⟨Qy,ES,ET⟩:=T.Cf;refine⟨_,[some (.ref p),some (.int k),some v,none,none,none,none],(ag (aP (i:=3) nd rfl (zas rfl) (aO bE (pv 2) ai aw))
 (ag (aX (PW.pt (pw_and (az gY (pv 3) (bQ (cY (vs:=[.str "if",.str "while"]) (by kernel_rfl))) rfl) (pw_and1 (az b7 (bo bB rfl T.fY PyProof.Rows.Boot.«len» (ae (c6 (pv 0) rfl) af sU)) (dR rfl ES ET) (aN _)))))
 (ao (b3 du T.vh rfl T.Gz rfl (ae (lC (.cons au (.cons (tF (pv 1)) (.cons au .nil)))) af kY)))
 aF)
 (ag (aP (i:=4) nd rfl (zas rfl) (dW (pv 0) T.bL T.lM iQ (hr.mono (by first|decide|omega)) T.lL .nil bc))
 (ag (jI Of rfl (fj (ax wK (hr.mono (by first|decide|omega)) rfl T.dw.m T.dw.F.kp T.dw.b .nil bc (ae (pv 2) af ah))) (bh (i:=5) nd rfl (zas rfl))
 (ao (aX (az jZ (pv 5) (pv 4) rfl)
 (ao (b3 du T.Cc rfl T.Nb rfl (ae (lC (.cons au (.cons (tF (pv 1)) (.cons au (.cons (tF (pv 5)) (.cons au .nil)))))) af kY)))
 aF)))
 (ag (aP (i:=6) nd rfl (zas rfl) (ax Cu (hr.mono (by first|decide|omega)) rfl T.gh.m T.gh.F.kp T.gh.b .nil bc (ae (pv 3) af ah)))
 (ag (ck (gZ zaB zaG zaH cg (dW (pv 0) T.bL T.tV t9 (hr.mono (by first|decide|omega)) T.tU .nil bc) (ae (aC Hi (aC Hi (bQ (ae (pv 3) (ae (pv 1) af ah) ah)) (ip BG (pv 2) (jY ai) jX)) (f9 zX rfl T.tX PyProof.Rows.Boot.«tuple» (ae (pv 6) af ah))) af cz)))
 (ao (aX (az b7 (pv 3) au (aN _))
 (ao (ck (gZ zaB zaG zaH cg (c6 (pv 0) rfl) (ae (bQ (ae (aO aW (pv 6) ai aw) (ae (aO aW (pv 6) ai aw) af bg) bg)) af e8))))
 (ao (aX (az b7 (pv 3) au (aN _))
 (ao (ck (gZ zaB zaG zaH cg (c6 (pv 0) rfl) (ae (bQ (ae (aO aW (pv 6) ai aw) (ae xo af ay) bg)) af e8))))
 aF)))))))))),rfl,?_⟩
 have line:zd2=2 ^ 24:=rfl;obtain⟨td,et,ehd,ltd⟩:=Sr Bx k c.aJ.length;have YM:=rv;rw[et] at rv;rw[Rep.aZ] at rv;obtain⟨va,xs,rfl,hS,rs⟩:=rv;rw[aG.aM] at rs;obtain⟨x0,ys,rfl,hx0,rys⟩:=rs;rw[Rep.aK] at hx0;subst hx0;have ly:ys.length<=3:=by rw[mK rys];exact ltd
 obtain⟨dx,yp⟩:=dr.ins;obtain⟨us,yn,ix⟩:=dr.zR;have l5:=dr.l5;have lu:us.length=c.bP.length:=ix.1;obtain⟨wL,acF⟩:=PM.pe (k:=k) dr.ok Bx ht;refine aD fun U1 sj=>?_;walk_at "rd";refine a9 hS (v:=sv (uV f)) (aQ (j:=0) rfl) ((sj _ _).mpr (aD fun U2 qV=>?_));clear sj;have ow:=Eh Bx;have YR:¬((PM.opens f).isSome/\c.df.iy.length=5):=fun z=>by
  unfold PM.jN at ht;rw[if_pos z] at ht;cases ht
 have US:∀n∈PM.BZ f,n∈c.df.Ee:=by
  unfold PM.jN at ht;rw[if_neg YR] at ht;split at ht
  ·rename_i z;exact z
  ·cases ht
 have rest:∀H1,ar H H1->U2 [some (.ref p),some (.int k),some (.ref va),some (sv (uV f)),none,none,none] H1:=by
  intro H1 s1;refine(qV _ _).mpr (aD fun U3 wc=>?_);clear qV;walk_at "rd";refine⟨p,dx,_,rfl,s1 _ _ yp,rfl,.mk p bx ns aE c m rfl (dr.same s1) fun nl H2 s2 y2=>?_⟩;refine(wc _ _).mpr (aD fun U4 zj=>?_);clear wc;walk_at "rd";have OZ:=s1.trans s2;refine⟨.ref va,f,rfl,YM.mono OZ,Bx,fun l H3 s3 f3 y3=>⟨l,rfl,⟨_,.of y3⟩,mn (K:=K) (a:=l) (xs:=(PM.BZ f).map sv) (fun i σ H4=>∃x:Option V,σ=[some (.ref p),some (.int k),some (.ref va),some (sv (uV f)),some (.ref nl),x,none]/\ar H3 H4/\∀n∈(PM.BZ f).take i,n∈c.df.Ee) ⟨none,rfl,ar.refl _,fun n hn=>by cases hn⟩ (fun i σ H4 _ z=>by obtain⟨_,_,s4,_⟩:=z;exact .of (s4 _ _ y3)) ?_ ?_⟩⟩
  ·intro i x σ H4 hx z;obtain⟨x0,rfl,s4,Oe⟩:=z;rw[zaz] at hx;obtain⟨n,hn,rfl⟩:=zaP.mp hx;have hi:i<(PM.BZ f).length:=(zao.mp hn).1;have YS:n∈PM.BZ f:=zal hn;walk_at "rd";refine⟨nl,_,rfl,.inl (.of (s4 _ _ (s3 _ _ y2))),rfl,by rw[zdR];exact za1.mpr fun _ _=>rfl,_,rfl,?_⟩;rw[if_pos rfl,in_words];by_cases hc:n∈c.df.Ee
   ·rw[if_neg (by rw[show (c.nB.map (·.1)).contains n=true from za6.mpr hc];decide)];refine⟨_,rfl,s4,fun y hy=>?_⟩;rw[zbg hi] at hy;rcases zaj.mp hy with z |z
    ·exact Oe y z
    ·have e:=zad.mp z;rw[(zao.mp hn).2] at e;rw[e];exact hc
   ·exact absurd (US n YS) hc
  ·intro σ H4 z;obtain⟨x0,rfl,s4,Oe⟩:=z;rw[zai,zbo] at Oe;have YT:=OZ.trans (s3.trans s4);refine(zj _ _).mpr (aD fun U5 Fq=>?_);clear zj;walk_at "rd";refine .mk (uV f) rfl fun bs bl H5 s5 f5 y5 lb YU hb=>?_;refine(Fq _ _).mpr (aD fun U6 Fs=>?_);clear Fq;walk_at "rd";have VM:=YT.trans s5;refine⟨p,dx,_,rfl,VM _ _ yp,rfl,.mk p bx ns aE c m rfl (dr.same VM) ?_⟩;have dr5:=dr.same VM;obtain⟨e0,m0⟩:=dr.Tw dr.ok.top;obtain⟨zs,yL,lz⟩:=dr5.sz _ m0;refine⟨.inl ⟨rfl,_,.of yL⟩,fun g1 h1=>⟨1,rfl,?_⟩⟩;have s6:=ar.new h1 (.tup [sv (uV f),V.int k]);have i6:cv K (upd H5 g1 (.tup [sv (uV f),V.int k])) g1 [sv (uV f),V.int k]:=.of aj;generalize upd H5 g1 (.tup [sv (uV f),V.int k])=H6 at *;refine Ej ((VM.trans s6).dQ hS) fun g2 H7 s7 i7=>?_;refine Ei (s7.dQ i6) i7 (by intro z;cases z) (by show 2+_<=_;lia) fun g3 H8 s8 i8=>?_;refine⟨bl,bs.map V.ref,rfl,.inl ⟨.of ((s6.trans (s7.trans s8)) _ _ y5),fun g4 h4=>?_⟩⟩;have s9:=ar.new h4 (.tup (bs.map V.ref));have i9:cv K (upd H8 g4 (.tup (bs.map V.ref))) g4 (bs.map V.ref):=.of aj;generalize upd H8 g4 (.tup (bs.map V.ref))=H9 at *;have SE:bs.length=PM.uX (PM.opens f):=by rw[lb,Ss Bx]
   have lb2:bs.length<=2:=by rw[lb];unfold Sk;split<;>(try split)<;>lia
   refine Ei (s9.dQ i8) i9 (by intro z;cases z) (by rw[zai,zaf];show 2+_+_<=_;lia) fun g5 Ha sa ia=>?_;have TC:=s6.trans (s7.trans (s8.trans (s9.trans sa)));refine⟨_,zs,.ref g5,rfl,rfl,TC _ _ yL,by lia,(Fs _ _).mpr ?_⟩;clear Fs;have s1a:=VM.trans TC;have dra:=dr5.same TC;have yLa:=TC _ _ yL;have fr:∀y∈bs,H y=none:=fun y hy=>bX YT (hb y hy).1;have saA:ou K Ha (aE++bs) (PM.sH k c.aJ.length f) (.ref g5):=by
    refine⟨g5,sv (uV f) :: .int k::ys,rfl,?_,?_⟩
    ·rw[Il Bx k dr.ct.ln.symm SE];exact ia
    ·rw[ehd];exact .cons (Rep.aK.mpr rfl) (.cons (Rep.bO.mpr rfl) (rys.mono s1a))
   have UB:∀y∈bs,Ha y=some (.lst [])/\y ∉ aE/\y≠bx/\y≠ns:=fun y hy=>by
    refine⟨TC _ _ (hb y hy).2,fun z=>?_,fun z=>?_,fun z=>?_⟩
    ·obtain⟨u1,y1⟩:=dr.ct.lists z;rw[fr y hy] at y1;cases y1
    ·obtain⟨u1,y1,_⟩:=dr.box;rw[<- z,fr y hy] at y1;cases y1
    ·rw[<- z,fr y hy] at yn;cases yn
   have YV:({c with aJ:=PM.gx c.aJ c.top (PM.sH k c.aJ.length f)++zap bs.length []}:PM.Dc).Ok:=by
    rw[SE];exact⟨wL.ft,fun y hy=>wL.pl y (zbi _ hy),fun z=>wL.nb (fun q=>z (zdl.mp q).1)⟩
   have WS:=dra.wC yLa saA UB YU YV;have ub:bf (OP bx ns aE) H (upd Ha (aE.getD c.top 0) (.lst (zs++[.ref g5]))):=(bf.of s1a).put (.inr (.inr m0)) _;have nbl:bl≠aE.getD c.top 0:=fun z=>by
    obtain⟨u1,y1⟩:=dr.ct.lists m0;rw[<- z,bX YT f5] at y1;cases y1
   have SF:(upd Ha (aE.getD c.top 0) (.lst (zs++[.ref g5]))) bl=some (.lst (bs.map V.ref)):=by rw[aq nbl];exact TC _ _ y5
   generalize upd Ha (aE.getD c.top 0) (.lst (zs++[.ref g5]))=Hb at *;obtain⟨dxb,ypb⟩:=WS.ins;obtain⟨Ql,WT,WR⟩:=WS.zR;have lu2:Ql.length=c.bP.length:=WR.1;have eC:PM.kq c k f={c with aJ:=PM.gx c.aJ c.top (PM.sH k c.aJ.length f)++zap bs.length [],bP:=c.bP++PM.Qh c.aJ.length (PM.opens f)}:=by rw[SE];rfl
   have push:∀(o:Bool) (gt:zdU) (Hc:Hp) (x:Nat×Option Nat),PM.opens f=some o->PM.Qh c.aJ.length (some o)=[x]->ar Hb Hc->Tu K Hc (aE++bs) x (.ref gt)->Q .dh (upd Hc ns (.lst (Ql++[.ref gt]))):=by
    intro o gt Hc x ho hx sc hn;refine q bs _ fr ((ub.trans (.of sc)).put (.inr (.inl rfl)) _) ?_;have h5:c.bP.length≠5:=fun z=>YR ⟨by rw[ho];rfl,by show (c.bP.map _).length=5;rw[zai];exact z⟩;have IW:=wL;rw[eC] at IW ⊢;rw[ho,hx] at IW ⊢;exact xl (c:={c with aJ:=PM.gx c.aJ c.top (PM.sH k c.aJ.length f)++zap bs.length []}) (WS.same sc) IW (by rw[zaf,zav];lia) ((WR.imp fun _ _ z=>by obtain⟨a1,e1,q1⟩:=z;exact⟨a1,e1,sc.dQ q1⟩).snoc hn)
   walk_at "rd";refine⟨rfl,bW (fun w1=>?_) (fun w1=>?_)⟩
   ·have e1:=(c7 MM).mp w1;rw[e1,if_pos rfl] at ow;have l2:bs.length=2:=by rw[lb,e1];rfl
    match bs,l2 with
    |[b1,b2],_=>
     refine⟨p,_,dxb,_,.ref ns,rfl,ypb,T.bL,T.bw,rfl,.inl ⟨rfl,_,.of WT⟩,?_⟩;refine bp (.of SF) (v:=.ref b1) (aQ (j:=0) rfl) (bp (.of SF) (v:=.ref b2) (aQ (j:=1) rfl) fun gt ht=>?_);have st:=ar.new ht (.tup [V.ref b1,V.ref b2]);refine⟨ns,Ql,.ref gt,rfl,rfl,st _ _ WT,by lia,push true gt _ (c.aJ.length,some (c.aJ.length+1)) ow rfl st ⟨gt,rfl,?_⟩⟩;have g0:(aE++[b1,b2]).getD c.aJ.length 0=b1:=by rw[<- dr.ct.ln,zae,zat (zag _),zbY];rfl
     have g1:(aE++[b1,b2]).getD (c.aJ.length+1) 0=b2:=by rw[<- dr.ct.ln,zae,zat (zbk _ _),zcm];rfl
     show cv K _ gt [V.ref ((aE++[b1,b2]).getD c.aJ.length 0),V.ref ((aE++[b1,b2]).getD (c.aJ.length+1) 0)];rw[g0,g1];exact .of aj
   have n1:uV f≠PM.jV:=fun z=>w1 ((c7 MM).mpr z);refine⟨rfl,bW (fun w2=>?_) (fun w2=>?_)⟩
   ·have e2:=(c7 lW).mp w2;rw[if_neg n1,e2,if_pos rfl] at ow;have l2:bs.length=1:=by rw[lb,e2];rfl
    match bs,l2 with
    |[b1],_=>
     refine⟨p,_,dxb,_,.ref ns,rfl,ypb,T.bL,T.bw,rfl,.inl ⟨rfl,_,.of WT⟩,?_⟩;refine bp (.of SF) (v:=.ref b1) (aQ (j:=0) rfl) fun gt ht=>?_;have st:=ar.new ht (.tup [V.ref b1,V.dh]);refine⟨ns,Ql,.ref gt,rfl,rfl,st _ _ WT,by lia,push false gt _ (c.aJ.length,none) ow rfl st ⟨gt,rfl,?_⟩⟩;have g0:(aE++[b1]).getD c.aJ.length 0=b1:=by rw[<- dr.ct.ln,zae,zat (zag _),zbY];rfl
     show cv K _ gt [V.ref ((aE++[b1]).getD c.aJ.length 0),V.dh];rw[g0];exact .of aj
   have n2:uV f≠PM.bK:=fun z=>w2 ((c7 lW).mpr z);rw[if_neg n1,if_neg n2] at ow;refine q bs Hb fr ub ?_;rw[eC,ow];have:c.bP++PM.Qh c.aJ.length none=c.bP:=zaC _;rw[this];exact WS
 walk_at "rd";intro g hg;have sg:=ar.new hg (.tup [V.str (zab "if"),V.str (zab "while")]);have iT:cv K (upd H g (.tup [V.str (zab "if"),V.str (zab "while")])) g [V.str (zab "if"),V.str (zab "while")]:=.of aj;have hl:([V.str (zab "if"),V.str (zab "while")]:List V)=[PM.jV,PM.bK].map sv:=by rw[MM,lW];rfl
 generalize upd H g (.tup [V.str (zab "if"),V.str (zab "while")])=H0 at *;refine⟨g,_,rfl,.inr iT,rfl,rfl,_,rfl,?_⟩;rw[hl,in_words,if_neg zan,if_neg zan];have oi:(PM.opens f).isSome=true↔([PM.jV,PM.bK]:List W).contains (uV f)=true:=by
  rw[ow,za6];by_cases h1:uV f=PM.jV
  ·rw[if_pos h1];simp[h1]
  ·rw[if_neg h1];by_cases h2:uV f=PM.bK
   ·rw[if_pos h2];simp[h2]
   ·rw[if_neg h2];simp[h1,h2]
 refine bW (fun hc=>?_) (fun hc=>rest H0 sg);refine⟨p,_,dx,_,.ref ns,rfl,sg _ _ yp,T.bL,T.bw,rfl,ns,us,rfl,.inl (.of (sg _ _ yn)),?_⟩;rw[ix.1];rw[if_neg (fun z=>YR ⟨oi.mpr hc,by show (c.bP.map _).length=5;rw[zai];lia⟩)];exact rest H0 sg
theorem EU(T:Tx K mg t):a8 P w K mg base (km P w) 63 t.kD t.lH ["draft", "number", "form"] (Ik K t.a7 PM.Qc PM.gB PM.dE):=by
 have vt:=t8 (P:=P) (w:=w) (base:=base) T;have GI:=EO (P:=P) (w:=w) (base:=base) T;have EW:=Ct (P:=P) (w:=w) (base:=base) T;have GJ:=ER (P:=P) (w:=w) (base:=base) T;refine T.jc.F.C7 vY (fun vs H Q E h=>?_) (fun dM A outer s H vs Q E hr h=>?_)
 ·obtain⟨_,_,_,_,_,_,_,_,_,_,rfl,_⟩:=h;rfl
 obtain⟨p,bx,ns,aE,c,m,k,v,f,d',rfl,dr,lm,rv,Bx,ht,q⟩:=h;obtain⟨O0,acK⟩:=PM.nC (k:=k) dr.ok Bx ht;have nd:=vY.nd;refine⟨_,[some (.ref p),some (.int k),some v,none],(ag (aP (i:=3) nd rfl (zas rfl) (aO bE (pv 2) ai aw))
 (ao (aX (az b7 (pv 3) au (aN _))
 (ao (ck (ax GI (hr.mono (by first|decide|omega)) rfl T.jd.m T.jd.F.kp T.jd.b .nil di (ae (pv 0) (ae (pv 1) (ae (ip BG (pv 2) (jY ai) jX) af bg) ah) ah))))
 (ao (aX (az b7 (pv 3) au (aN _))
 (ao (ck (ax EW (hr.mono (by first|decide|omega)) rfl T.ie.m T.ie.F.kp T.ie.b .nil di (ae (pv 0) (ae (pv 1) af ah) ah))))
 (ao (aX (az b7 (pv 3) au (aN _))
 (ao (ck (ax GJ (hr.mono (by first|decide|omega)) rfl T.je.m T.je.F.kp T.je.b .nil di (ae (pv 0) (ae (pv 1) af ah) ah))))
 (ao (ck (ax vt (hr.mono (by first|decide|omega)) rfl T.c5.m T.c5.F.kp T.c5.b .nil di (ae (pv 0) (ae (pv 1) (ae (pv 2) af ah) ah) ah))))))))))),rfl,?_⟩
 walk_at "rd";obtain⟨va,ys,rfl,hS,ly⟩:=JD rv;refine a9 hS (v:=sv (uV f)) (aQ (j:=0) rfl) ⟨rfl,?_⟩;have wC:PM.BW f->PM.gB c.df f=PM.jN c.df f->PM.dE c k f=PM.kq c k f->uV f≠PM.cf->uV f≠PM.cA->Dr (sv (uV f)) (V.str (zab "else"))=true/\
  if sv (uV f)=V.str (zab "else") then Ey K t.a7 PM.mH (fun c=>c.bP.dropLast++PM.Qi c.bP.getLast?) [V.ref p,V.int k] H (fun x H1=>Q V.dh H1) E
  else Dr (sv (uV f)) (V.str (zab "end"))=true/\
   if sv (uV f)=V.str (zab "end") then Ey K t.a7 PM.uT (fun c=>c.bP.dropLast) [V.ref p,V.int k] H (fun x H1=>Q V.dh H1) E
   else Ik K t.a7 PM.BW PM.jN PM.kq [V.ref p,V.int k,V.ref va] H (fun x H1=>Q V.dh H1) E:=fun h1 h2 h3 n1 n2=>by
  refine⟨rfl,?_⟩;rw[if_neg (fun z=>n1 ((c7 Bj).mp z))];refine⟨rfl,?_⟩;rw[if_neg (fun z=>n2 ((c7 MN).mp z))];rw[h2] at ht;rw[h3] at q;exact .mk p bx ns aE c m k (.ref va) f d' rfl dr lm rv h1 ht q
 cases f with
 |box n a b=>
  refine bW (fun _=>?_) fun z=>absurd ((c7 uU).mpr rfl) z;refine⟨1,rfl,?_⟩;unfold Dd at rv;simp only[Rep.aZ,aG.aM,aG.aS,Rep.aK,Rep.bO] at rv;obtain⟨_,xs,e,VN,_,_,rfl,rfl,_,_,rfl,rfl,_,_,rfl,rfl,_,_,rfl,rfl,rfl⟩:=rv;cases e;refine Ej VN fun c1 H1 s1 i1=>.mk p bx ns aE c m k (.ref c1) n a b d' rfl (dr.same s1) ?_ ht fun H' u' YW=>?_
  ·unfold xg;rw[Rep.aZ];exact⟨c1,_,rfl,i1,.cons (Rep.aK.mpr rfl) (.cons (Rep.bO.mpr rfl) (.cons (Rep.bO.mpr rfl) .nil))⟩
  ·refine q [] H' (fun y hy=>by cases hy) ((bf.of s1).trans u') ?_;rw[zaC];exact YW.more (zbN _)
 |ask n=>
  refine bW (fun z=>absurd ((c7 uU).mp z) (show PM.rQ≠PM.nj by decide)) fun _=>?_;exact wC Bx rfl rfl (show PM.rQ≠PM.cf by decide) (show PM.rQ≠PM.cA by decide)
 |put n e=>
  refine bW (fun z=>absurd ((c7 uU).mp z) (show PM.rR≠PM.nj by decide)) fun _=>?_;exact wC Bx rfl rfl (show PM.rR≠PM.cf by decide) (show PM.rR≠PM.cA by decide)
 |say e=>
  refine bW (fun z=>absurd ((c7 uU).mp z) (show PM.rT≠PM.nj by decide)) fun _=>?_;exact wC Bx rfl rfl (show PM.rT≠PM.cf by decide) (show PM.rT≠PM.cA by decide)
 |cond c2 sg x y=>
  have hc:c2=PM.gu\/c2=PM.jV\/c2=PM.bK:=Bx.1;have ne:∀u,u≠PM.gu->u≠PM.jV->u≠PM.bK->c2≠u:=fun u a b e z=>by
   rcases hc with h |h |h<;>rw[h] at z
   ·exact a z.symm
   ·exact b z.symm
   ·exact e z.symm
  refine bW (fun z=>absurd ((c7 uU).mp z) (ne PM.nj (by decide) (by decide) (by decide))) fun _=>?_;exact wC Bx rfl rfl (ne PM.cf (by decide) (by decide) (by decide)) (ne PM.cA (by decide) (by decide) (by decide))
 |one w1=>
  have hc:w1=PM.cf\/w1=PM.cA\/w1=PM.b5:=Bx;have et:PM.gB c.df (.one w1)=if w1=PM.cf then PM.mH c.df else if w1=PM.cA then PM.uT c.df else PM.jN c.df (.one w1):=rfl
  have ec:PM.dE c k (.one w1)=if w1=PM.cf then {c with bP:=c.bP.dropLast++PM.Qi c.bP.getLast? } else if w1=PM.cA then {c with bP:=c.bP.dropLast} else PM.kq c k (.one w1):=rfl
  have fin:∀(g:List (Nat×Option Nat)),PM.dE c k (.one w1)={c with bP:=g}->∀H',bf (OP bx ns aE) H H'->uZ K t.a7 H' p bx ns aE {c with bP:=g} m->Q V.dh H':=fun g eg H' u' YW=>by
   refine q [] H' (fun y hy=>by cases hy) u' ?_;rw[zaC,eg];exact YW.more (zbN _)
  rcases hc with h |h |h
  ·subst h;refine bW (fun z=>absurd ((c7 uU).mp z) (show PM.cf≠PM.nj by decide)) fun _=>?_;refine⟨rfl,?_⟩;refine bW (fun _=>?_) fun z=>absurd ((c7 Bj).mpr rfl) z;rw[et,if_pos rfl] at ht;rw[if_pos rfl] at ec;rw[ec] at O0;exact .mk p bx ns aE c m k d' rfl dr ht O0 (fin _ ec)
  ·subst h;refine bW (fun z=>absurd ((c7 uU).mp z) (show PM.cA≠PM.nj by decide)) fun _=>?_;refine⟨rfl,?_⟩;refine bW (fun z=>absurd ((c7 Bj).mp z) (show PM.cA≠PM.cf by decide)) fun _=>?_;refine⟨rfl,?_⟩;refine bW (fun _=>?_) fun z=>absurd ((c7 MN).mpr rfl) z;rw[et,if_neg (by decide),if_pos rfl] at ht;rw[if_neg (by decide),if_pos rfl] at ec;rw[ec] at O0;exact .mk p bx ns aE c m k d' rfl dr ht O0 (fin _ ec)
  ·subst h;refine bW (fun z=>absurd ((c7 uU).mp z) (show PM.b5≠PM.nj by decide)) fun _=>?_;exact wC rfl (by rw[et,if_neg (by decide),if_neg (by decide)]) (by rw[ec,if_neg (by decide),if_neg (by decide)]) (show PM.b5≠PM.cf by decide) (show PM.b5≠PM.cA by decide)
theorem O3(T:Tx K mg t)(C:Cd P w K t):a8 P w K mg base (km P w) 64 t.yS t.xk ["text"] (M0 K):=by
 have JQ:=GG (P:=P) (w:=w) (base:=base) T C;have GK:=EU (P:=P) (w:=w) (base:=base) T;have Cv:=Ag (P:=P) (w:=w) (base:=base) T;refine T.nP.F.C7 Iu (fun vs H Q E h=>?_) (fun dM A outer s H vs Q E hr h=>?_)
 ·obtain⟨_,_,rfl,_⟩:=h;rfl
 obtain⟨text,dF,rfl,lt,h80,rr,hkF,q⟩:=h;have nd:=Iu.nd;obtain⟨Qz,EX,EY⟩:=T.Ce;refine⟨_,[some (sv text),none,none,none,none],(ag (aP (i:=1) nd rfl (zas rfl) (gZ zbP zdp zdq D8 (pv 0) (ae au af ay)))
 (ag (aX (az AM (bo bB rfl T.fY PyProof.Rows.Boot.«len» (ae (pv 1) af ah)) (dR rfl EX EY) (aN _))
 (ao (b3 du T.vg rfl T.Gy rfl (ae au af ay)))
 aF)
 (ag (aP (i:=2) nd rfl (zas rfl) (KW T.yT Cv (hr.mono (by first|decide|omega)) rfl T.M9 T.B9 .nil bc))
 (ag (jI Of rfl (MG rfl T.pO (ae (pv 1) af ah)) (Fw rfl (cQ (bh (i:=3) nd rfl (zas rfl)) (cQ (bh (i:=4) nd rfl (zas rfl)) mV)))
 (ao (ck (ax GK (hr.mono (by first|decide|omega)) rfl T.jc.m T.jc.F.kp T.jc.b .nil di (ae (pv 2) (ae (pv 3) (ae (ax JQ (hr.mono (by first|decide|omega)) rfl T.kg.m T.kg.F.kp T.kg.b .nil di (ae (pv 4) af ah)) af cD) ah) ah)))))
 (ag (aX (oE (c6 (pv 2) rfl) (fun _=>rfl))
 (ao (b3 du T.GB rfl T.OT rfl (ae au af ay)))
 aF)
 (ao (aH (bQ (ae (c6 (pv 2) rfl) (ae (c6 (pv 2) rfl) af sU) sU))))))))),rfl,?_⟩
 have line:zd2=2 ^ 24:=rfl;walk_at "rd";refine⟨rfl,text,10,rfl,rfl,by decide,by lia,fun R fR=>?_⟩;generalize VO:aU 10 text=rows at *;have rsm:∀r∈rows,r.length<=3000000:=fun r hr=>by rw[<- VO] at hr;exact zaA (nt 10 text r hr) lt
 have sR:=ar.new fR (.lst (rows.map sv));have yR:(upd H R (.lst (rows.map sv))) R=some (.lst (rows.map sv)):=aj;generalize upd H R (.lst (rows.map sv))=H0 at *;refine⟨R,_,rfl,.inl (.of yR),?_⟩;rw[zai];rw[if_neg (by lia)];intro p dx fp fdx ne;have fp1:(upd H0 dx (.own p)) p=none:=by rw[aq (Ne.symm ne)];exact fp
 refine .mk p dx rfl aj (by rw[aq ne];exact aj) fun bx bd ns H1 fb1 fb2 fb3 u1 dr=>⟨rfl,?_⟩
 have sm:ar H0 H1:=fun b o e=>by
  have n1:b≠p:=aB e fp;have n2:b≠dx:=aB e fdx;refine u1 b o n1 ?_;rw[aq n1,aq n2];exact e
 have YX:∀b,(upd (upd H0 dx (.own p)) p (.ins t.a7 dx [])) b=none->H0 b=none:=fun b z=>by
  by_cases n1:b=p
  ·rw[n1];exact fp
  ·rw[aq n1] at z;by_cases n2:b=dx
   ·rw[n2];exact fdx
   ·rw[aq n2] at z;exact z
 have hO0:∀b,OP bx ns [bd] b->H0 b=none:=fun b hb=>by
  rcases hb with rfl |rfl |hb
  ·exact YX _ fb1
  ·exact YX _ fb3
  ·rw[zad.mp hb];exact YX _ fb2
 clear u1 fb1 fb2 fb3;refine⟨R,rfl,⟨_,.of (sm _ _ yR)⟩,Jz (K:=K) (a:=R) (xs:=rows.map sv) (fun i σ Hx=>∃(x3 x4:Option V) (aE:List zdU) (c:PM.Dc),σ=[some (sv text),some (.ref R),some (.ref p),x3,x4]/\ar H0 Hx/\(∀b,OP bx ns aE b->H0 b=none)/\uZ K t.a7 Hx p bx ns aE c i/\PM.eG ⟨[],false,[]⟩ rows=PM.eG c.df (rows.drop i)/\PM.dq ⟨[],[[]],[]⟩ 1 rows=PM.dq c ((i+1:Nat):Int) (rows.drop i)) ⟨none,none,[bd],_,rfl,sm,hO0,dr,rfl,rfl⟩ (fun i σ Hx _ z=>by obtain⟨_,_,_,_,_,sx,_⟩:=z;exact .of (sx _ _ yR)) ?_ ?_⟩
 ·intro i x σ Hx g hx z hg;obtain⟨x3,x4,aE,c,rfl,sx,ox,TF,er,ec⟩:=z;rw[zaz] at hx;obtain⟨r,yC,rfl⟩:=zaP.mp hx;have hi:i<rows.length:=(zao.mp yC).1;have ed:rows.drop i=r::rows.drop (i+1):=by rw[zbU hi,(zao.mp yC).2]
  rw[ed] at er ec;have sg:=ar.new hg (.tup [V.int ((i+1:Nat):Int),sv r]);have ig:cv K (upd Hx g (.tup [V.int ((i+1:Nat):Int),sv r])) g [V.int ((i+1:Nat):Int),sv r]:=.of aj;generalize upd Hx g (.tup [V.int ((i+1:Nat):Int),sv r])=Hy at *;walk_at "rd";have sy:=sx.trans sg;rw[rr] at er;refine⟨g,_,rfl,ig,rfl,_,_,rfl,_,_,rfl,rfl,r,rfl,rsm r (zal yC),fun hf H2 s2=>?_,fun f hf v H2 s2 rv=>?_⟩
  ·rw[PM.eG,hf] at er;cases er
  have s02:=sy.trans s2;rw[PM.eG,hf] at er;cases ht:PM.gB c.df f with
  |error e=>simp only[ht] at er;cases er
  |ok d1=>
   simp only[ht] at er;have fa:=PM.BX (g8 _ _) hf;obtain⟨h1,h2⟩:=PM.nC (k:=((i+1:Nat):Int)) TF.ok fa ht;refine .mk p bx ns aE c i ((i+1:Nat):Int) v f d1 rfl (TF.same (sg.trans s2)) (by lia) rv fa ht fun new Hz hn u drz=>⟨_,_,aE++new,_,rfl,fun b o e=>u b o (fun z=>by rw[ox b z] at e;cases e) (s02 _ _ e),fun b hb=>?_,drz,?_,?_⟩
   ·rcases hb with rfl |rfl |hb
    ·exact ox _ (.inl rfl)
    ·exact ox _ (.inr (.inl rfl))
    ·rcases zaj.mp hb with z |z
     ·exact ox b (.inr (.inr z))
     ·exact bX s02 (hn b z)
   ·rw[rr,er,h2]
   ·rw[ec,PM.dq,hf];show PM.dq (PM.dE c ((i+1:Nat):Int) f) (((i+1:Nat):Int)+1) (rows.drop (i+1))=_;rw[show (((i+1:Nat):Int)+1)=((i+1+1:Nat):Int) by lia]
 ·intro σ Hx z;obtain⟨x3,x4,aE,c,rfl,sx,ox,TF,er,ec⟩:=z;rw[zai,zc8,PM.eG] at er;rw[zai,zc8,PM.dq] at ec;walk_at "rd";obtain⟨Ra,yp⟩:=TF.ins;obtain⟨us,yn,ix⟩:=TF.zR;refine⟨p,_,Ra,_,.ref ns,rfl,yp,T.bL,T.bw,rfl,_,.inl ⟨us,.of yn,rfl⟩,?_⟩;rw[rr] at er;have hk:c.bP=[]:=by
   have e1:dF=c.df:=Except.ok.inj er;rw[e1] at hkF;exact zcN.mp hkF
  have eu:us=[]:=zaX.mp (by rw[ix.1,hk];rfl);subst eu;refine⟨p,_,Ra,_,.ref bx,rfl,yp,T.bL,T.da,rfl,p,_,Ra,_,_,rfl,yp,T.bL,T.e6,rfl,fun g hg=>?_⟩;have sg:=ar.new hg (.tup [V.ref bx,V.ref (aE.getD 0 0)]);have dg:=TF.same sg;refine q _ bx aE _ (sR.trans (sx.trans sg)) ?_;rw[ec];exact⟨⟨g,rfl,aj⟩,dg.ok,dg.box,dg.ct,dg.OO,fun a ha=>bX sR (ox a (ha.elim .inl fun z=>.inr (.inr z)))⟩
theorem nR(T:Tx K mg t):a8 P w K mg base gI 1 t.hJ t.iE ["cell", "k"] FY:=by
 refine T.aA.F.rq tP (fun vs H Q E h=>?_) (fun dM A outer s H vs Q E hr h=>?_)
 ·obtain⟨cell,k,rfl,_⟩:=h;rfl
 obtain⟨cell,k,rfl,h0,h1,q⟩:=h;have nd:=tP.nd;refine⟨_,[some (V.int cell),some (V.int k),none],(ag (aX (az Ug (pv 0) (aC FA ai ai) (aN _))
 (ao (aH (aC b4 (aC Q5 (aC uA (pv 0) (aC FA ai ai)) (aC rj ai (pv 1))) (aC FA ai ai))))
 aF)
 (ag (aP (i:=2) nd rfl (zas rfl) (aC b4 (aC rj (aC dU (aC dU (pv 0) (aC rj ai (pv 1))) ai) ai) ai))
 (ag (aP (i:=2) nd rfl (zas rfl) (aC b4 (aC rj (pv 2) (pv 2)) ai))
 (ao (aH (aC dA (aC b4 (aC rj (pv 2) ai) ai) ai)))))),rfl,?_⟩
 walk_at "rd";have p18:Q4 10 18:=⟨by decide,by decide,by decide⟩
 have p28:Q4 2 28:=⟨by decide,by decide,by decide⟩
 refine⟨p18,?_⟩;unfold stir at q;have e18:(10:Int) ^ Int.toNat 18=10 ^ 18:=rfl;have e28:(2:Int) ^ Int.toNat 28=2 ^ 28:=rfl;rw[e18,e28];refine bW (fun hc=>?_) (fun hc=>?_)
 ·rw[if_pos hc] at q;exact⟨p18,mulL (by decide) (by decide),by lia,p28,by decide,q⟩
 ·rw[if_neg hc] at q;have b1:=zbf ((cell+1013*k+1)*16807) (show (2147483647:Int)≠0 by decide);have b2:=za2 ((cell+1013*k+1)*16807) (show (0:Int)<2147483647 by decide);have c1:IM ((cell+1013*k+1)*16807%2147483647) ((cell+1013*k+1)*16807%2147483647):=by
   generalize (cell+1013*k+1)*16807%2147483647=z at b1 b2 ⊢;exact mulL (by lia) (by lia)
  exact⟨mulL (by decide) (by decide),mulR (by decide) (by decide),c1,mulR (by decide) (by decide),q⟩
theorem nT{α:Type}{L:List α}{n:Nat}(hn:L.length=n)(h0:0<n)(c:Int):∃v∈L,zU L (c%n)=some v:=by
 have h1:=zbf c (show (n:Int)≠0 by lia);have h2:=za2 c (show (0:Int)<n by lia);obtain⟨j,hj⟩:=zb2 h1;rw[hj] at h2 ⊢;have hl:j<L.length:=by lia
 exact⟨L[j],zaI hl,aQ (zac hl)⟩
theorem O4{ns:List W}{x:W}(h:x∈ns):∀y∈PM.jP (.box x),y∈ns:=fun y hy=>by rw[zad.mp hy];exact h
theorem VP(T:Tx K mg t):a8 P w K mg base gI 1 t.hV t.iG ["number", "names"] (OK K):=by
 refine T.ij.F.rq tQ (fun vs H Q E h=>?_) (fun dM A outer s H vs Q E hr h=>?_)
 ·obtain⟨_,_,_,rfl,_⟩:=h;rfl
 obtain⟨n,a,ns,rfl,h0,hS,hN,q⟩:=h;have nd:=tQ.nd;refine⟨_,[some (V.int n),some (.ref a)],(ag (aX (PW.pt (pw_and (az b7 (aC b4 (pv 0) ai) ai (aN _)) (pw_and1 (az (uL (Hm hr)) (pv 1) (bb af) (aN _)))))
 (ao (aH (bQ (ae au (ae (aO aW (pv 1) (aC b4 (aC dA (pv 0) ai) (bo bB rfl T.fY PyProof.Rows.Boot.«len» (ae (pv 1) af ah))) ki) af bg) ay))))
 aF)
 (ao (aH (bQ (ae au (ae (aC b4 (aC dA (pv 0) ai) (aO aW (bb (cY (vs:=[.int 10,.int 1000]) (by kernel_rfl))) (aC b4 (aC dA (pv 0) ai) ai) ki)) af cz) ay))))),rfl,?_⟩
 have num:∀H0,ar H H0->∀p,H0 p=none->N1 K (V.ref p) (V.int (n/20%2)) (upd H0 p (.lst [V.int 10,V.int 1000])) fun x H1=>rI (fun _ j=>0<j) (fun i j=>V.int (i%j)) (V.int (n/2)) x H1 fun y H2=>∀p2,H2 p2=none->Q (.ref p2) (upd H2 p2 (.tup [V.str (zab "number"),y])):=fun H0 s0 p hp=>by
  refine Ls (Hr (f:=V.int) (xs:=([10,1000]:List Int)) 1 (by lia) (by show n/20%2<2;lia)) ?_;have pos:0<([10,1000]:List Int).getD (n/20%2).toNat 1/\([10,1000]:List Int).getD (n/20%2).toNat 1<=1000:=by
   have:n/20%2=0\/n/20%2=1:=by lia
   rcases this with z |z<;>rw[z]<;>decide
  generalize ([10,1000]:List Int).getD (n/20%2).toNat 1=g at *;refine⟨_,_,rfl,rfl,pos.1,fun p2 Gs=>?_⟩;have m1:=zbf (n/2) (show g≠0 by lia);have m2:=za2 (n/2) pos.1;exact q _ (.num (n/2%g)) _ ((s0.BM hp _).BM Gs _) (Rep.new Gs (.cons (Rep.aK.mpr rfl) (.cons (Rep.bO.mpr rfl) .nil))) ⟨⟨m1,by lia⟩,fun x hx=>(by cases hx),zag _,zag _⟩
 walk_at "rd";refine bW (fun hc=>?_) (fun hc=>?_)
 ·intro p hp;refine⟨a,p,ns.map sv,rfl,rfl,(ar.new hp _).seq hS,.of aj,?_⟩;have s1:=ar.new hp (.lst []);generalize upd H p (.lst [])=H1 at *;cases he:ns with
  |nil=>
   rw[if_neg (by simp)];exact num H1 s1
  |cons y r=>
   rw[if_pos (by simp)];have hl:(ns.map sv).length=ns.length:=zai _;have lp:0<ns.length:=by rw[he];exact zdQ _
   refine⟨a,ns.map sv,rfl,.inl (s1.seq hS),by rw[hl];lia,?_⟩;rw[hl];obtain⟨v1,VQ,a1⟩:=nT (L:=ns.map sv) (n:=ns.length) hl lp (n/2);obtain⟨x,hx,rfl⟩:=zaK.mp VQ;refine bp (s1.seq hS) a1 fun p2 Gs=>?_;exact q _ (.box x) _ (s1.BM Gs _) (Rep.new Gs (.cons (Rep.aK.mpr rfl) (.cons (Rep.aK.mpr rfl) .nil))) ⟨hN.ok x hx,O4 hx,zag _,zag _⟩
 ·rw[if_neg zan];exact num H (ar.refl _)
theorem VR(T:Tx K mg t){n:Nat}(lO:a8 P w K mg base gI (n+2) t.fT t.gd ["cell", "k", "deep", "names"] (MU K n)) :
 a8 P w K mg base gI (n+3) t.fT t.gd ["cell", "k", "deep", "names"] (MU K (n+1)):=by
 have bq:a8 P w K mg base gI 1 t.hJ t.iE ["cell", "k"] FY:=nR T;have EZ:a8 P w K mg base gI 1 t.hV t.iG ["number", "names"] (OK K):=VP T;refine T.cy.F.rq tR (fun vs H Q E h=>?_) (fun dM A outer s H vs Q E hr h=>?_)
 ·obtain⟨_,_,_,_,_,rfl,_⟩:=h;rfl
 obtain⟨cell,k,d,a,ns,rfl,h0,h1,hd,hS,hN,q⟩:=h;have nd:=tR.nd;refine⟨_,[some (V.int cell),some (V.int k),some (V.int d),some (.ref a),none,none],(ag (aP (i:=4) nd rfl (zas rfl) (ax bq (hr.mono (by first|decide|omega)) rfl T.aA.m T.aA.F.kp T.aA.b .nil bc (ae (pv 0) (ae (pv 1) af ah) ah)))
 (ag (aX (PW.pt (pw_or (az b7 (pv 2) ai (aN _)) (pw_or1 (az b7 (aC b4 (pv 4) ai) ai (aN _)))))
 (ao (aH (ax EZ (hr.mono (by first|decide|omega)) rfl T.ij.m T.ij.F.kp T.ij.b .nil bc (ae (aC dA (pv 4) ai) (ae (pv 3) af ah) cz))))
 aF)
 (ag (aP (i:=5) nd rfl (zas rfl) (aO rm au (aC b4 (aC dA (pv 4) ai) ai) ki))
 (ao (aH (bQ (ae (pv 5) (ae (ax lO (hr.mono (by first|decide|omega)) rfl T.cy.m T.cy.F.kp T.cy.b .nil bc (ae (pv 0) (ae (aC dU (aC rj ai (pv 1)) ai) (ae (aC uA (pv 2) ai) (ae (pv 3) af ah) cz) cz) ah)) (ae (ax lO (hr.mono (by first|decide|omega)) rfl T.cy.m T.cy.F.kp T.cy.b .nil bc (ae (pv 0) (ae (aC dU (aC rj ai (pv 1)) ai) (ae (aC uA (pv 2) ai) (ae (pv 3) af ah) cz) cz) ah)) af cD) cD) ah))))))),rfl,?_⟩
 walk_at "rd";simp only[xS];walk_at "rd";obtain⟨b0,b1⟩:=iW cell k;have hk:k+2<=(k+2)*2 ^ d:=by
  have:(1:Int)<=2 ^ d:=by exact_mod_cast zcW
  have:=zcK this (show 0<=k+2 by lia);lia
 have QA:OK K [V.int (stir cell k/3),V.ref a] H Q E0:=.mk _ a ns rfl (by lia) hS hN fun v t H' s1 r dt=>q v t H' s1 r ⟨dt.ok,dt.nm,zaA dt.ht (zaJ _),zaA dt.lv (by have:=zcW (n:=d);simpa using this)⟩;refine⟨h0,by lia,?_⟩;refine bW (fun hd0=>?_) (fun hd0=>?_)
 ·rw[if_pos trivial];exact QA
 refine bW (fun hm=>QA) (fun hm=>?_);obtain⟨d,rfl⟩:∃d',d=d'+1:=⟨d-1,by lia⟩
 have e1:((d+1:Nat):Int)-1=((d:Nat):Int):=by lia
 rw[e1];have k2:(2*k+2+2)*2 ^ d<=1000/\(2*k+1+2)*2 ^ d<=1000:=by
  have hp:(1:Int)<=2 ^ d:=by exact_mod_cast zcW
  have z1:(k+2)*2 ^ (d+1)=(2*k+2+2)*2 ^ d:=by
   rw[Int.pow_succ,Int.mul_comm (2 ^ d) 2,<- Int.mul_assoc]
   congr 1
   lia
  rw[z1] at h1;have z2:(2*k+1+2)*2 ^ d<=(2*k+2+2)*2 ^ d:=zb4 (by lia) (by lia);lia
 refine⟨_,_,_,rfl,rfl,BL (by decide),Hr (f:=fun c=>c) (xs:=[43,45,42]) 0 (by lia) (by show stir cell k/3%3<3;lia),?_⟩;have op:∃o:W,V.str ⟨#[([43,45,42]:List Nat).getD (stir cell k/3%3).toNat 0]⟩=.str (S o)/\(o=[43]\/o=[45]\/o=[42]):=by
  have:stir cell k/3%3=0\/stir cell k/3%3=1\/stir cell k/3%3=2:=by lia
  rcases this with z |z |z<;>rw[z]
  ·exact⟨[43],rfl,.inl rfl⟩
  ·exact⟨[45],rfl,.inr (.inl rfl)⟩
  ·exact⟨[42],rfl,.inr (.inr rfl)⟩
 obtain⟨o,eo,ho⟩:=op;refine⟨mulL (by decide) (by decide),.mk _ _ d a ns rfl (by lia) k2.2 (by lia) hS hN fun v1 t1 H1 s1 r1 WU=>?_⟩;refine⟨mulL (by decide) (by decide),.mk _ _ d a ns rfl (by lia) k2.1 (by lia) (s1.seq hS) hN fun v2 t2 H2 s2 r2 WV=>fun p hp=>?_⟩;refine q _ (.bin o t1 t2) _ ((s1.trans s2).BM hp _) ?_ ⟨⟨ho,WU.ok,WV.ok⟩,fun x hx=>(zaj.mp hx).elim (WU.nm x) (WV.nm x),?_,?_⟩
 ·refine Rep.new hp (.cons (Rep.aK.mpr eo) (.cons (r1.mono s2) (.cons r2 .nil)))
 ·have h1:=WU.ht;have h2:=WV.ht;show max (A7 t1) (A7 t2)+1<=d+1;lia
 ·have h1:=WU.lv;have h2:=WV.lv;show NA t1+NA t2<=2 ^ (d+1);rw[Nat.pow_succ];lia
theorem Nk(T:Tx K mg t):∀n,a8 P w K mg base gI (n+2) t.fT t.gd ["cell", "k", "deep", "names"] (MU K n)
 |0=>by
  have no:∀vs H Q E,¬MU K 0 vs H Q E:=fun vs H Q E h=>by cases h;lia
  exact⟨fun vs H Q E h=>absurd h (no vs H Q E),fun A outer s H args us vs Q E _ _ _ _ h=>absurd h (no vs H Q E)⟩
 |n+1=>VR T (Nk T n)
theorem JR(T:Tx K mg t){n:Nat}(ju:a8 P w K mg base gI n t.dO t.d9 ["tree", "more"] (tf K n)) :
 a8 P w K mg base gI (n+1) t.dO t.d9 ["tree", "more"] (tf K (n+1)):=by
 refine T.bZ.F.rq pJ (fun vs H Q E h=>?_) (fun dM A outer s H vs Q E hr h=>?_)
 ·obtain⟨_,_,_,rfl,_⟩:=h;rfl
 obtain⟨v,m,tr,rfl,hv,ok,ht,lv,hm,q⟩:=h;have nd:=pJ.nd;refine⟨_,[some v,some (.int m),none,none],(ag (aX (az b7 (bo bB rfl T.fY PyProof.Rows.Boot.«len» (ae (pv 0) af ah)) ai (aN _))
 (ao (aH (f9 m6 rfl T.EI PyProof.Rows.Boot.«str» (ae (aO bE (pv 0) ai aw) af bg))))
 aF)
 (ag (aP (i:=2) nd rfl (zas rfl) (ax ju (hr.mono (by first|decide|omega)) rfl T.bZ.m T.bZ.F.kp T.bZ.b .nil bc (ae (aO bE (pv 0) ai aw) (ae (aC dA (pv 1) ai) af cz) bg)))
 (ag (aP (i:=3) nd rfl (zas rfl) (ax ju (hr.mono (by first|decide|omega)) rfl T.bZ.m T.bZ.F.kp T.bZ.b .nil bc (ae (aO bE (pv 0) ai aw) (ae (aC dA (pv 1) ai) af cz) bg)))
 (ag (aX (PW.pt (pw_or (PW.pt (pw_and (az b7 (aO bE (pv 0) ai aw) au (aN _)) (pw_and1 (az gY (aO bE (aO bE (pv 0) ai aw) ai aw) (bb (cY (vs:=[.str "+",.str "-"]) (by kernel_rfl))) rfl)))) (pw_or1 (az b7 (aC b4 (pv 1) ai) ai (aN _)))))
 (ao (aP (i:=2) nd rfl (zas rfl) (aC aT (aC aT au (pv 2)) au)))
 aF)
 (ag (aX (PW.pt (pw_or (az gY (aO bE (aO bE (pv 0) ai aw) ai aw) (bb (cY (vs:=[.str "+",.str "-"]) (by kernel_rfl))) rfl) (pw_or (PW.pt (pw_and (az b7 (aO bE (pv 0) ai aw) au (aN _)) (pw_and1 (az b7 (aO bE (aO bE (pv 0) ai aw) ai aw) au (aN _))))) (pw_or1 (az b7 (aC b4 (pv 1) ai) ai (aN _))))))
 (ao (aP (i:=3) nd rfl (zas rfl) (aC aT (aC aT au (pv 3)) au)))
 aF)
 (ao (aH (aC aT (aC aT (pv 2) (aO bE (pv 0) ai aw)) (pv 3))))))))),rfl,?_⟩
 have line:zd2=2 ^ 24:=rfl;have lit:V.str (zab "*")=sv [42]/\([V.str (zab "+"),V.str (zab "-")]:List V)=([[43],[45]]:List W).map sv:=by decide +kernel
 have br:∀x:W,zab "("++S x++zab ")"=S (PM.put true x):=fun x=>by
  have e1:zab "("=S [40]:=by decide +kernel
  have e2:zab ")"=S [41]:=by decide +kernel
  rw[e1,e2,iu,iu];rfl
 have l1:(zab "(").length=1:=by decide +kernel
 have l2:(zab ")").length=1:=by decide +kernel
 have brk:∀(x:W) (R:V->Prop),x.length<=1000->R (sv (PM.put true x))->∃i j,zab "("=i/\sv x=V.str j/\i.length+j.length<=zd2/\∃YY YZ,i++j=YY/\zab ")"=YZ/\YY.length+YZ.length<=zd2/\R (V.str (YY++YZ)):=fun x R hx hR=>by
  refine⟨_,S x,rfl,rfl,by rw[l1,cj];lia,_,_,rfl,rfl,?_,?_⟩
  ·have e1:zab "("=S [40]:=by decide +kernel
   rw[e1,iu,cj,l2,zaf];have:([40]:W).length=1:=rfl;lia
  ·rw[br];exact hR
 have wl:=iX tr m ok;cases tr with
 |num k=>
  unfold cV at hv;simp only[Rep.aZ,aG.aM,aG.aS,Rep.aK,Rep.bO] at hv;obtain⟨a,xs,rfl,hS,_,_,rfl,rfl,_,_,rfl,rfl,rfl⟩:=hv;refine aD fun U hU=>?_;walk_at "rd";refine⟨a,_,rfl,.inr hS,?_⟩;refine(if_pos rfl).mpr ?_;obtain⟨k0,k1⟩:0<=k/\k<=999:=ok;refine a9 hS rfl (.inl ⟨k,rfl,?_,?_⟩)
  ·have:k.natAbs<1000:=by lia
   by_cases h0:k.natAbs=0
   ·rw[h0];decide
   ·exact zaM ((zdT h0).mpr (zdP this (by decide:1000<2 ^ 10))) (by decide)
  ·have e:V.str (zab (toString k))=sv (PM.bM (.num k) m):=by
    show _=sv (PM.dig k.toNat);unfold sv
    congr 1
    have hk:k=((k.toNat:Nat):Int):=by lia
    rw[Str.ofString_eq_toList]
    conv=>lhs;rw[hk]
    show (⟨((toString ((k.toNat:Nat):Int)).toList.map Char.toNat).toArray⟩:Str)=S ((zcz 10 k.toNat).map Char.toNat);have e2:(toString ((k.toNat:Nat):Int)).toList=zcz 10 k.toNat:=by
     show (Nat.repr k.toNat).toList=_;unfold Nat.repr;exact String.toList_ofList
    rw[e2];rfl
   rw[e];exact q H (ar.refl _)
 |box x=>
  unfold cV at hv;simp only[Rep.aZ,aG.aM,aG.aS,Rep.aK,Rep.bO] at hv;obtain⟨a,xs,rfl,hS,_,_,rfl,rfl,_,_,rfl,rfl,rfl⟩:=hv;refine aD fun U hU=>?_;walk_at "rd";refine⟨a,_,rfl,.inr hS,?_⟩;refine(if_pos rfl).mpr ?_;exact a9 hS rfl (.inr ⟨S x,rfl,q H (ar.refl _)⟩)
 |bin o l r=>
  unfold cV at hv;simp only[Rep.aZ,aG.aM,aG.aS,Rep.aK] at hv;obtain⟨a,xs,rfl,hS,_,_,rfl,rfl,vl,_,rfl,hl,vr,_,rfl,yC,rfl⟩:=hv;obtain⟨ho,LC,LD⟩:=ok;unfold A7 at ht;unfold NA at lv wl;have wl1:=iX l (m/2) LC;have wl2:=iX r (m/3) LD;have ol:o.length=1:=by rcases ho with rfl |rfl |rfl<;>rfl
  refine aD fun U1 sj=>?_;walk_at "rd";refine⟨a,_,rfl,.inr hS,?_⟩;refine(if_neg (show ¬((3:Nat):Int)=2 by decide)).mpr ?_;refine(sj _ _).mpr (aD fun U2 qV=>?_);walk_at "rd";refine a9 hS rfl ⟨vl,_,l,rfl,hl,LC,by lia,by lia,by lia,fun H1 s1=>?_⟩;refine(qV _ _).mpr (aD fun U3 wc=>?_);walk_at "rd";refine a9 (s1.dQ hS) rfl ⟨vr,_,r,rfl,yC.mono s1,LD,by lia,by lia,by lia,fun H2 s2=>?_⟩;have OZ:=s1.trans s2;have first:∀ {H':Hp} {tr:PM.Tr} {v:V} {R:V->Hp->Prop},Rep K H' (cV tr) v->(∀y:W,(PM.qH tr=([[43],[45]]:List W).contains y)->(PM.isMul tr=decide (y=[42]))->R (sv y) H')->K3 K v (V.int 0) H' R:=fun {H' tr v R} hr hR=>by
   have num:V.str (zab "number")=sv [110,117,109,98,101,114]:=by decide +kernel
   have box:V.str (zab "box")=sv [98,111,120]:=by decide +kernel
   cases tr with
   |num k=>
    unfold cV at hr;simp only[Rep.aZ,aG.aM,aG.aS,Rep.aK,Rep.bO] at hr;obtain⟨a,xs,rfl,hS,_,_,rfl,rfl,_,_,rfl,rfl,rfl⟩:=hr;exact a9 hS rfl (by rw[num];exact hR _ rfl rfl)
   |box x=>
    unfold cV at hr;simp only[Rep.aZ,aG.aM,aG.aS,Rep.aK,Rep.bO] at hr;obtain⟨a,xs,rfl,hS,_,_,rfl,rfl,_,_,rfl,rfl,rfl⟩:=hr;exact a9 hS rfl (by rw[box];exact hR _ rfl rfl)
   |bin o l r=>
    unfold cV at hr;simp only[Rep.aZ,aG.aM,aG.aS,Rep.aK] at hr;obtain⟨a,xs,rfl,hS,_,_,rfl,rfl,_,_,rfl,_,_,_,rfl,_,rfl⟩:=hr;refine a9 hS rfl (hR o ?_ rfl);show (decide (o=[43]) ||decide (o=[45]))=_;simp only[List.contains_cons,List.contains_nil,zdz]
    congr 1<;>rw[zbz]<;>simp
  refine(wc _ _).mpr (aD fun U4 zj=>?_);have QB:∀(lw:W) (H':Hp),ar H H'->lw=PM.put (PM.wm o l m) (PM.bM l (m/2))->U4 [some (.ref a),some (.int m),some (sv lw),some (sv (PM.bM r (m/3)))] H':=fun lw H' s' Y0=>by
   refine(zj _ _).mpr (aD fun U5 Fq=>?_);have pl:=w9 (PM.wm o l m) (PM.bM l (m/2));have pr:=w9 (PM.vI o r m) (PM.bM r (m/3));have QC:∀(Py:W) (H':Hp),ar H H'->Py=PM.put (PM.vI o r m) (PM.bM r (m/3))->U5 [some (.ref a),some (.int m),some (sv lw),some (sv Py)] H':=fun Py H' s' hrw=>by
    refine(Fq _ _).mpr ?_;walk_at "rd";refine a9 (s'.dQ hS) rfl ⟨S lw,S o,rfl,rfl,by rw[cj,cj,Y0];lia,_,S Py,rfl,rfl,?_,?_⟩
    ·rw[iu,cj,cj,zaf,Y0,hrw];lia
    ·rw[iu,iu];have:=q H' s';rw[Y0,hrw];exact this
   walk_at "rd";refine a9 (s'.dQ hS) rfl (first (yC.mono s') fun y hs hmu=>?_);intro p hp;refine⟨p,_,rfl,.inl (.of aj),rfl,rfl,_,rfl,?_⟩;rw[if_neg zan,lit.2,in_words,<- hs];have Dt:ar H (upd H' p (.lst (([[43],[45]]:List W).map sv))):=s'.BM hp _;generalize upd H' p (.lst (([[43],[45]]:List W).map sv))=SG at *;have yes:PM.vI o r m=true->∀H',ar H H'->U5 [some (.ref a),some (.int m),some (sv lw),some (sv (PM.put true (PM.bM r (m/3))))] H':=fun hb H' s'=>QC _ H' s' (by rw[hb]);have no:PM.vI o r m=false->∀H',ar H H'->U5 [some (.ref a),some (.int m),some (sv lw),some (sv (PM.bM r (m/3)))] H':=fun hb H' s'=>QC _ H' s' (by rw[hb];rfl);refine bW (fun c1=>?_) (fun c1=>?_)
   ·rw[if_pos trivial];exact brk _ (fun v=>U5 [some (.ref a),some (.int m),some (sv lw),some v] SG) (by lia) (yes (by simp[PM.vI,c1]) _ Dt)
   have WW:PM.qH r=false:=by simpa using c1
   refine a9 (Dt.dQ hS) rfl ⟨rfl,?_⟩;rw[lit.1];refine bW (fun c2=>?_) (fun c2=>?_)
   ·have eo:o=[42]:=gv.mp c2;refine a9 (Dt.dQ hS) rfl (first (yC.mono Dt) fun y2 KO hm2=>⟨rfl,?_⟩);refine bW (fun c3=>?_) (fun c3=>?_)
    ·rw[if_pos trivial];have:PM.isMul r=true:=by rw[hm2,gv.mp c3];rfl
     exact brk _ (fun v=>U5 [some (.ref a),some (.int m),some (sv lw),some v] SG) (by lia) (yes (by simp[PM.vI,this,eo]) _ Dt)
    ·have hm3:PM.isMul r=false:=by rw[hm2];exact decide_eq_false fun e=>c3 (by rw[e])
     refine bW (fun c4=>?_) (fun c4=>?_)
     ·exact brk _ (fun v=>U5 [some (.ref a),some (.int m),some (sv lw),some v] SG) (by lia) (yes (by simp[PM.vI,c4]) _ Dt)
     ·exact no (by simp[PM.vI,c4,hm3,WW]) _ Dt
   ·have eo:¬o=[42]:=fun e=>c2 (by rw[e];rfl);rw[if_neg zan];refine bW (fun c4=>?_) (fun c4=>?_)
    ·exact brk _ (fun v=>U5 [some (.ref a),some (.int m),some (sv lw),some v] SG) (by lia) (yes (by simp[PM.vI,c4]) _ Dt)
    ·exact no (by simp[PM.vI,c4,eo,WW]) _ Dt
  walk_at "rd";have yes:PM.wm o l m=true->∀H',ar H H'->U4 [some (.ref a),some (.int m),some (sv (PM.put true (PM.bM l (m/2)))),some (sv (PM.bM r (m/3)))] H':=fun hb H' s'=>QB _ H' s' (by rw[hb]);have no:PM.wm o l m=false->∀H',ar H H'->U4 [some (.ref a),some (.int m),some (sv (PM.bM l (m/2))),some (sv (PM.bM r (m/3)))] H':=fun hb H' s'=>QB _ H' s' (by rw[hb];rfl);refine a9 (OZ.dQ hS) rfl ⟨rfl,?_⟩;rw[lit.1];refine bW (fun c2=>?_) (fun c2=>?_)
  ·have eo:o=[42]:=gv.mp c2;refine a9 (OZ.dQ hS) rfl (first (hl.mono OZ) fun y hs hmu=>?_);intro p hp;refine⟨p,_,rfl,.inl (.of aj),rfl,rfl,_,rfl,?_⟩;rw[if_neg zan,lit.2,in_words,<- hs];have Dt:ar H (upd H2 p (.lst (([[43],[45]]:List W).map sv))):=OZ.BM hp _;generalize upd H2 p (.lst (([[43],[45]]:List W).map sv))=SG at *;refine bW (fun c1=>?_) (fun c1=>?_)
   ·rw[if_pos trivial];exact brk _ (fun v=>U4 [some (.ref a),some (.int m),some v,some (sv (PM.bM r (m/3)))] SG) (by lia) (yes (by simp[PM.wm,c1,eo]) _ Dt)
   ·have WW:PM.qH l=false:=by simpa using c1
    refine bW (fun c4=>?_) (fun c4=>?_)
    ·exact brk _ (fun v=>U4 [some (.ref a),some (.int m),some v,some (sv (PM.bM r (m/3)))] SG) (by lia) (yes (by simp[PM.wm,c4]) _ Dt)
    ·exact no (by simp[PM.wm,c4,WW]) _ Dt
  ·have eo:¬o=[42]:=fun e=>c2 (by rw[e];rfl);rw[if_neg zan];refine bW (fun c4=>?_) (fun c4=>?_)
   ·exact brk _ (fun v=>U4 [some (.ref a),some (.int m),some v,some (sv (PM.bM r (m/3)))] H2) (by lia) (yes (by simp[PM.wm,c4]) _ OZ)
   ·exact no (by simp[PM.wm,c4,eo]) _ OZ
theorem zl(T:Tx K mg t):∀n,a8 P w K mg base gI n t.dO t.d9 ["tree", "more"] (tf K n)
 |0=>by
  have no:∀vs H Q E,¬tf K 0 vs H Q E:=fun vs H Q E h=>by cases h;lia
  exact⟨fun vs H Q E h=>absurd h (no vs H Q E),fun A outer s H args us vs Q E _ _ _ _ h=>absurd h (no vs H Q E)⟩
 |n+1=>JR T (zl T n)
theorem GL(T:Tx K mg t):a8 P w K mg base gI 1 t.fU t.gM ["word"] Jd:=by
 refine T.eE.F.rq n9 (fun vs H Q E h=>?_) (fun dM A outer s H vs Q E hr h=>?_)
 ·obtain⟨_,rfl,_⟩:=h;rfl
 obtain⟨wd,rfl,hl,q⟩:=h;have nd:=n9.nd;refine⟨_,[some (sv wd),none,none,none],(ag (aP (i:=1) nd rfl (zas rfl) ai)
 (ag (aP (i:=2) nd rfl (zas rfl) ai)
 (ag (jI PassesOwn.never rfl (FV (pv 0)) (bh (i:=3) nd rfl (zas rfl))
 (ag (aP (i:=1) nd rfl (zas rfl) (aC uA (aC dU (pv 1) (f9 vM rfl T.Bu PyProof.Rows.Boot.«int» (ae (kU b7 (pv 3) au (aN _)) af Lw))) (f9 vM rfl T.Bu PyProof.Rows.Boot.«int» (ae (kU b7 (pv 3) au (aN _)) af Lw))))
 (ao (aP (i:=2) nd rfl (zas rfl) (bo (IP rfl) rfl T.Nd PyProof.Rows.Boot.«max» (ae (pv 2) (ae (pv 1) af ah) ah))))))
 (ao (aH (pv 2)))))),rfl,?_⟩
 walk_at "rd";refine⟨S wd,rfl,HF (z:=S wd) (fun i σ H2=>∃a:Option V,σ=[some (sv wd),some (.int ((wd.take i).foldl eL (0,0)).1),some (.int ((wd.take i).foldl eL (0,0)).2),a]/\H2=H)
  ⟨none,rfl,rfl⟩ ?_ ?_⟩
 ·rintro i c σ H2 hi ⟨a,rfl,rfl⟩
  have Lc:wd[i]?=some c:=hi;obtain⟨iR,YI⟩:=zao.mp Lc;have tk:wd.take (i+1)=wd.take i++[c]:=by rw[zbg iR,YI]
  rw[tk,zbK];generalize (wd.take i).foldl eL (0,0)=st;walk_at "rd";obtain⟨d,m⟩:=st;have e1:(({cps:=#[c]}:Str)=zab "(")↔c=40:=⟨fun e=>by have:=congrArg (fun z:Str=>z.cps.toList) e;injection (this:[c]=[40]),fun e=>by rw[e];rfl⟩
  have e2:(({cps:=#[c]}:Str)=zab ")")↔c=41:=⟨fun e=>by have:=congrArg (fun z:Str=>z.cps.toList) e;injection (this:[c]=[41]),fun e=>by rw[e];rfl⟩
  refine⟨_,rfl,_,rfl,_,_,rfl,some (V.str {cps:=#[c]}),?_⟩;have mx:∀i j:Int,(if j>i then j else i)=max i j:=fun i j=>by split<;>lia
  have ed:(d+if decide (({cps:=#[c]}:Str)=zab "(")=true then (1:Int) else 0)-(if decide (({cps:=#[c]}:Str)=zab ")")=true then (1:Int) else 0)=(eL (d,m) c).1:=by
   simp only[decide_eq_true_eq,e1,e2];by_cases c1:c=40
   ·simp[eL,c1]
   ·by_cases c2:c=41
    ·simp[eL,c2]
    ·simp[eL,c1,c2]
  have em:(eL (d,m) c).2=max m (eL (d,m) c).1:=by
   by_cases c1:c=40
   ·simp[eL,c1]
   ·by_cases c2:c=41
    ·simp[eL,c2]
    ·simp[eL,c1,c2]
  rw[zaT,List.foldl_nil];show [some (sv wd),some (V.int ((d+if decide (({cps:=#[c]}:Str)=zab "(")=true then (1:Int) else 0)-(if decide (({cps:=#[c]}:Str)=zab ")")=true then (1:Int) else 0))),_,_]=_;rw[mx];simp only[ed,em]
 ·rintro σ H2 ⟨a,rfl,rfl⟩
  walk_at "rd";have e:wd.take (S wd).length=wd:=by rw[cj,zbo]
  rw[e];exact q _ (ar.refl _)
theorem QD(T:Tx K mg t):a8 P w K mg base gI 7 t.jA t.j8 ["cell", "k", "names"] (Vz K):=by
 have bq:=nR (P:=P) (w:=w) (base:=base) T;have lO:=Nk (P:=P) (w:=w) (base:=base) T 4;have ju:=zl (P:=P) (w:=w) (base:=base) T 4;have zm:=GL (P:=P) (w:=w) (base:=base) T;refine T.bY.F.rq tS (fun vs H Q E h=>?_) (fun dM A outer s H vs Q E hr h=>?_)
 ·obtain⟨_,_,_,_,rfl,_⟩:=h;rfl
 obtain⟨cell,k,a,ns,rfl,hk,hS,hN,q⟩:=h;have nd:=tS.nd;refine⟨_,[some (.int cell),some (.int k),some (.ref a),none,none,none],(@ag _ _ _ _ _ (@aP _ _ 3 _ _ _ _ nd rfl (zas rfl) (@ax _ _ _ _ _ _ _ _ _ _ _ _ _ _ _ _ lO (hr.mono (by first|decide|omega)) rfl T.cy.m T.cy.F.kp T.cy.b .nil bc (@ae _ _ _ _ _ (pv 0) (@ae _ _ _ _ _ (pv 1) (@ae _ _ _ _ _ (@aC _ _ _ _ _ _ _ _ (@b4 _) (@ax _ _ _ _ _ _ _ _ _ _ _ _ _ _ _ _ bq (hr.mono (by first|decide|omega)) rfl T.aA.m T.aA.F.kp T.aA.b .nil bc (@ae _ _ _ _ _ (pv 0) (@ae _ _ _ _ _ (@aC _ _ _ _ _ _ _ _ (@dU _) (pv 1) (@ai _ _ _ _)) (@af _) (@cz _ _ _ _ _ _)) (@ah _ _ _ _)) (by first |rfl |exact .inl rfl |exact .inr rfl |decide |(intro _;rfl) |assumption) (by first |rfl |exact .inl rfl |exact .inr rfl |decide |(intro _;rfl) |assumption) (by first |rfl |exact .inl rfl |exact .inr rfl |decide |(intro _;rfl) |assumption)) (@ai _ _ _ _)) (@ae _ _ _ _ _ (pv 2) (@af _) (@ah _ _ _ _)) (@cz _ _ _ _ _ _)) (@ah _ _ _ _)) (@ah _ _ _ _)) (by first |rfl |exact .inl rfl |exact .inr rfl |decide |(intro _;rfl) |assumption) (by first |rfl |exact .inl rfl |exact .inr rfl |decide |(intro _;rfl) |assumption) (by first |rfl |exact .inl rfl |exact .inr rfl |decide |(intro _;rfl) |assumption)) (by first |rfl |exact .inl rfl |exact .inr rfl |decide |(intro _;rfl) |assumption) (by first |rfl |exact .inl rfl |exact .inr rfl |decide |(intro _;rfl) |assumption)) (@ag _ _ _ _ _ (@jI _ _ _ _ _ _ _ _ PassesOwn.never rfl (@fj _ _ _ _ (@bb _ _ _ _ (@ae _ _ _ _ _ (@ax _ _ _ _ _ _ _ _ _ _ _ _ _ _ _ _ bq (hr.mono (by first|decide|omega)) rfl T.aA.m T.aA.F.kp T.aA.b .nil bc (@ae _ _ _ _ _ (pv 0) (@ae _ _ _ _ _ (@aC _ _ _ _ _ _ _ _ (@dU _) (pv 1) (@ai _ _ _ _)) (@af _) (@cz _ _ _ _ _ _)) (@ah _ _ _ _)) (by first |rfl |exact .inl rfl |exact .inr rfl |decide |(intro _;rfl) |assumption) (by first |rfl |exact .inl rfl |exact .inr rfl |decide |(intro _;rfl) |assumption) (by first |rfl |exact .inl rfl |exact .inr rfl |decide |(intro _;rfl) |assumption)) (@ae _ _ _ _ _ (@ai _ _ _ _) (@af _) (@ay _ _ _ _ _)) (@cD _ _ _ _ _ _)))) (@bh _ _ 4 _ nd rfl (zas rfl) (by first |rfl |exact .inl rfl |exact .inr rfl |decide |(intro _;rfl) |assumption)) (@ag _ _ _ _ _ (@aP _ _ 5 _ _ _ _ nd rfl (zas rfl) (@ax _ _ _ _ _ _ _ _ _ _ _ _ _ _ _ _ ju (hr.mono (by first|decide|omega)) rfl T.bZ.m T.bZ.F.kp T.bZ.b .nil bc (@ae _ _ _ _ _ (pv 3) (@ae _ _ _ _ _ (pv 4) (@af _) (@ah _ _ _ _)) (@ah _ _ _ _)) (by first |rfl |exact .inl rfl |exact .inr rfl |decide |(intro _;rfl) |assumption) (by first |rfl |exact .inl rfl |exact .inr rfl |decide |(intro _;rfl) |assumption) (by first |rfl |exact .inl rfl |exact .inr rfl |decide |(intro _;rfl) |assumption)) (by first |rfl |exact .inl rfl |exact .inr rfl |decide |(intro _;rfl) |assumption) (by first |rfl |exact .inl rfl |exact .inr rfl |decide |(intro _;rfl) |assumption)) (@ao _ _ _ (@aX _ _ _ _ _ _ _ _ (@PW.pt _ _ _ (@pw_and _ _ _ _ _ _ _ (@az _ _ _ _ _ _ _ _ xv (@bo _ _ _ _ _ _ _ _ _ j1 rfl T.fY PyProof.Rows.Boot.«len» (@ae _ _ _ _ _ (pv 5) (@af _) (@ah _ _ _ _)) (by first |rfl |exact .inl rfl |exact .inr rfl |decide |(intro _;rfl) |assumption) (by first |rfl |exact .inl rfl |exact .inr rfl |decide |(intro _;rfl) |assumption) (by first |rfl |exact .inl rfl |exact .inr rfl |decide |(intro _;rfl) |assumption) (by first |rfl |exact .inl rfl |exact .inr rfl |decide |(intro _;rfl) |assumption)) (@ai _ _ _ _) (aN _)) (@pw_and1 _ _ _ _ (@az _ _ _ _ _ _ _ _ (@AL _) (@ax _ _ _ _ _ _ _ _ _ _ _ _ _ _ _ _ zm (hr.mono (by first|decide|omega)) rfl T.eE.m T.eE.F.kp T.eE.b .nil bc (@ae _ _ _ _ _ (pv 5) (@af _) (@ah _ _ _ _)) (by first |rfl |exact .inl rfl |exact .inr rfl |decide |(intro _;rfl) |assumption) (by first |rfl |exact .inl rfl |exact .inr rfl |decide |(intro _;rfl) |assumption) (by first |rfl |exact .inl rfl |exact .inr rfl |decide |(intro _;rfl) |assumption)) (@ai _ _ _ _) (aN _))))) (@ao _ _ _ (@aH _ _ _ _ (@bb _ _ _ _ (@ae _ _ _ _ _ (pv 5) (@ae _ _ _ _ _ (pv 3) (@af _) (@ah _ _ _ _)) (@ah _ _ _ _))))) (@aF _)))) (by first |rfl |exact .inl rfl |exact .inr rfl |decide |(intro _;rfl) |assumption)) (@ao _ _ _ (@aH _ _ _ _ (@bb _ _ _ _ (@ae _ _ _ _ _ (@au _ _ _ _) (@ae _ _ _ _ _ (@bQ _ _ _ _ _ (@ae _ _ _ _ _ (@au _ _ _ _) (@ae _ _ _ _ _ (@bQ _ _ _ _ _ (@ae _ _ _ _ _ (@au _ _ _ _) (@ae _ _ _ _ _ (@bQ _ _ _ _ _ (@cY _ _ ([.str "number",.int 7]) (by kernel_rfl))) (@ae _ _ _ _ _ (@bQ _ _ _ _ _ (@cY _ _ ([.str "number",.int 7]) (by kernel_rfl))) (@af _) (@e8 _ _ _ _ _)) (@e8 _ _ _ _ _)) (@ay _ _ _ _ _))) (@ae _ _ _ _ _ (@bQ _ _ _ _ _ (@cY _ _ ([.str "number",.int 1]) (by kernel_rfl))) (@af _) (@e8 _ _ _ _ _)) (@e8 _ _ _ _ _)) (@ay _ _ _ _ _))) (@af _) (@e8 _ _ _ _ _)) (@ay _ _ _ _ _))))))),rfl,?_⟩;have line:zd2=2 ^ 24:=rfl;refine aD fun U1 sj=>?_;walk_at "rd";simp only[xS];walk_at "rd";have m4:=zbf (stir cell (k+90)) (show (4:Int)≠0 by decide);have m4':=za2 (stir cell (k+90)) (show (0:Int)<4 by decide);obtain⟨d,hd⟩:=zb2 m4;refine⟨by lia,by lia,?_⟩;rw[hd];rw[hd] at m4';have h8:2 ^ d<=8:=by
  have:d=0\/d=1\/d=2\/d=3:=by lia
  rcases this with rfl |rfl |rfl |rfl<;>decide
 have h8':((2:Int) ^ d)<=8:=by exact_mod_cast h8
 refine .mk cell k d a ns rfl (by lia) (by
  have:=zcK h8' (show (0:Int)<=(k:Int)+2 by lia);lia) (by lia) hS hN fun v tr H1 s1 r1 dt=>(sj _ _).mpr (aD fun U2 qV=>?_)
 clear sj;refine oS fun U6 Fs=>?_;walk_at "rd";simp only[xS];walk_at "rd";refine⟨by lia,by lia,fun pl fl=>?_⟩;obtain⟨b0,_⟩:=iW cell (k+91);generalize stir cell (k+91)=m1 at *;have s2:=ar.new fl (.lst [V.int m1,V.int 0]);have yl:(upd H1 pl (.lst [V.int m1,V.int 0])) pl=some (.lst [V.int m1,V.int 0]):=aj;generalize upd H1 pl (.lst [V.int m1,V.int 0])=H2 at *;refine⟨⟨_,.of yl⟩,Fs _ _ (mn (K:=K) (a:=pl) (xs:=[V.int m1,V.int 0]) (fun i σ Hx=>∃(x4 x5:Option V),σ=[some (.int cell),some (.int k),some (.ref a),some v,x4,x5]/\ar H2 Hx) ⟨none,none,rfl,ar.refl _⟩ (fun i σ Hx _ z=>by obtain⟨_,_,_,sx⟩:=z;exact .of (sx _ _ yl)) ?_ ?_)⟩
 ·intro i x σ Hx hx z;obtain⟨x4,x5,rfl,sx⟩:=z;obtain⟨m,rfl,hm⟩:∃m:Int,x=V.int m/\0<=m:=by
   have:=zal hx;simp only[zak,zba,or_false] at this;rcases this with rfl |rfl
   ·exact⟨_,rfl,b0⟩
   ·exact⟨_,rfl,by decide⟩
  obtain⟨Nx,Ko⟩:∃Nx:St->Hp->Prop,∀σ H',Nx σ H'↔∃(x4 x5:Option V),σ=[some (.int cell),some (.int k),some (.ref a),some v,x4,x5]/\ar H2 H':=⟨_,fun _ _=>Iff.rfl⟩
  simp only[<- Ko];have rx:=r1.mono (s2.trans sx);have wl:=iX tr m dt.ok;have lv:=dt.lv;have ht:=dt.ht;walk_at "rd";refine⟨v,m,tr,rfl,rx,dt.ok,by lia,by lia,hm,fun H3 s3=>?_⟩;refine⟨S (PM.bM tr m),rfl,by rw[cj];lia,?_⟩;rw[cj];refine bW (fun l60=>?_) (fun l60=>?_)
  ·refine⟨PM.bM tr m,rfl,by lia,fun H4 s4=>?_⟩;walk_at "rd";refine bW (fun d6=>fun p hp=>?_) (fun d6=>(Ko _ _).mpr ⟨_,_,rfl,sx.trans (s3.trans s4)⟩);have dI:tm (PM.bM tr m)=(PM.k9 (PM.bM tr m):Int):=LU (PM.lh tr m dt.ok);rw[dI] at d6;refine q p (PM.bM tr m) v tr _ ((s1.trans (s2.trans sx)).trans ((s3.trans s4).BM hp _)) aj (rx.mono ((s3.trans s4).BM hp _)) ⟨PM.DH tr m dt.ok 0 (by show (PM.bM tr m).length<=60;lia) (by show PM.k9 (PM.bM tr m)<=5;lia),dt.nm,by lia,by lia⟩
  ·rw[if_neg zan];exact(Ko _ _).mpr ⟨_,_,rfl,sx.trans s3⟩
 ·intro σ Hx z;obtain⟨x4,x5,rfl,sx⟩:=z;refine(qV _ _).mpr ?_;clear qV;walk_at "rd";intro p1 f1;generalize e1:upd Hx p1 _=A1;have t1:=gT e1 f1;have g1:Rep K A1 (.tup [.str (zab "number"),.int 7]) (.ref p1):=Vg e1 f1 (.cons rS (.cons L9 .nil));clear e1;intro p2 f2;generalize e1:upd A1 p2 _=A2;have t2:=gT e1 f2;have g2:Rep K A2 (.tup [.str (zab "number"),.int 7]) (.ref p2):=Vg e1 f2 (.cons rS (.cons L9 .nil));clear e1;intro p3 f3;generalize e1:upd A2 p3 _=A3;have t3:=gT e1 f3;have g3:Rep K A3 (.tup [.str (zab "*"),.tup [.str (zab "number"),.int 7],.tup [.str (zab "number"),.int 7]]) (.ref p3):=Vg e1 f3 (.cons rS (.cons (g1.mono t2) (.cons g2 .nil)));clear e1;intro p4 f4;generalize e1:upd A3 p4 _=A4;have t4:=gT e1 f4;have g4:Rep K A4 (.tup [.str (zab "number"),.int 1]) (.ref p4):=Vg e1 f4 (.cons rS (.cons L9 .nil));clear e1;intro p5 f5;generalize e1:upd A4 p5 _=A5;have t5:=gT e1 f5;have g5:Rep K A5 (cV (.bin [45] (.bin [42] (.num 7) (.num 7)) (.num 1))) (.ref p5):=Vg e1 f5 (.cons rS (.cons (g3.mono t4) (.cons g4 .nil)));clear e1;intro p6 f6;have e7:V.str (zab "7*7-1")=sv [55,42,55,45,49]:=by decide +kernel
  rw[e7];refine q p6 [55,42,55,45,49] (.ref p5) _ _ ((s1.trans (s2.trans sx)).trans ((((t1.trans t2).trans t3).trans (t4.trans t5)).BM f6 _)) aj (g5.mono (ar.new f6 _)) ⟨by decide +kernel,fun x hx=>?_,by decide,by decide⟩;simp[PM.jP] at hx
theorem tx2{z:Str}{k x:W}(e:z=S (k++[32])):z++S x=S (cC 32 [k,x]):=by
 rw[e,iu]
 congr 1
 simp[cC]
theorem tx3{z b:Str}{k x y:W}(e:z=S (k++[32]))(eb:b=S [32]):z++S x++b++S y=S (cC 32 [k,x,y]):=by
 rw[e,eb,iu,iu,iu]
 congr 1
 simp[cC]
theorem Y1{z b:Str}{k x y u:W}(e:z=S (k++[32]))(eb:b=S [32]):z++S x++b++S y++b++S u=S (cC 32 [k,x,y,u]):=by
 rw[e,eb,iu,iu,iu,iu,iu]
 congr 1
 simp[cC]
theorem VS(T:Tx K mg t):a8 P w K mg base gI 8 t.iI t.jm ["cell", "k", "names"] (Qs K):=by
 have bq:=nR (P:=P) (w:=w) (base:=base) T;have jB:=QD (P:=P) (w:=w) (base:=base) T;refine T.gm.F.rq qO (fun vs H Q E h=>?_) (fun dM A outer s H vs Q E hr h=>?_)
 ·obtain⟨_,_,_,_,rfl,_⟩:=h;rfl
 obtain⟨cell,k,a,ns,rfl,hk,hS,hN,q⟩:=h;have nd:=qO.nd;refine⟨_,[some (.int cell),some (.int k),some (.ref a),none,none,none,none,none,none,none],(@ag _ _ _ _ _ (@aP _ _ 3 _ _ _ _ nd rfl (zas rfl) (@ax _ _ _ _ _ _ _ _ _ _ _ _ _ _ _ _ bq (hr.mono (by first|decide|omega)) rfl T.aA.m T.aA.F.kp T.aA.b .nil bc (@ae _ _ _ _ _ (pv 0) (@ae _ _ _ _ _ (@ai _ _ _ _) (@af _) (@ay _ _ _ _ _)) (@ah _ _ _ _)) (by first |rfl |exact .inl rfl |exact .inr rfl |decide |(intro _;rfl) |assumption) (by first |rfl |exact .inl rfl |exact .inr rfl |decide |(intro _;rfl) |assumption) (by first |rfl |exact .inl rfl |exact .inr rfl |decide |(intro _;rfl) |assumption)) (by first |rfl |exact .inl rfl |exact .inr rfl |decide |(intro _;rfl) |assumption) (by first |rfl |exact .inl rfl |exact .inr rfl |decide |(intro _;rfl) |assumption)) (@ag _ _ _ _ _ (@uz _ _ _ _ _ _ (@ax _ _ _ _ _ _ _ _ _ _ _ _ _ _ _ _ jB (hr.mono (by first|decide|omega)) rfl T.bY.m T.bY.F.kp T.bY.b .nil bc (@ae _ _ _ _ _ (pv 0) (@ae _ _ _ _ _ (@ai _ _ _ _) (@ae _ _ _ _ _ (pv 2) (@af _) (@ah _ _ _ _)) (@ay _ _ _ _ _)) (@ah _ _ _ _)) (by first |rfl |exact .inl rfl |exact .inr rfl |decide |(intro _;rfl) |assumption) (by first |rfl |exact .inl rfl |exact .inr rfl |decide |(intro _;rfl) |assumption) (by first |rfl |exact .inl rfl |exact .inr rfl |decide |(intro _;rfl) |assumption)) (@BR _ _ _ _ _ _ rfl (@cQ _ _ _ _ _ (@bh _ _ 4 _ nd rfl (zas rfl) (by first |rfl |exact .inl rfl |exact .inr rfl |decide |(intro _;rfl) |assumption)) (@cQ _ _ _ _ _ (@bh _ _ 5 _ nd rfl (zas rfl) (by first |rfl |exact .inl rfl |exact .inr rfl |decide |(intro _;rfl) |assumption)) (@mV _) (by first |rfl |exact .inl rfl |exact .inr rfl |decide |(intro _;rfl) |assumption)) (by first |rfl |exact .inl rfl |exact .inr rfl |decide |(intro _;rfl) |assumption)) (by first |rfl |exact .inl rfl |exact .inr rfl |decide |(intro _;rfl) |assumption) (by first |rfl |exact .inl rfl |exact .inr rfl |decide |(intro _;rfl) |assumption)) (by first |rfl |exact .inl rfl |exact .inr rfl |decide |(intro _;rfl) |assumption) (by first |rfl |exact .inl rfl |exact .inr rfl |decide |(intro _;rfl) |assumption) (by first |rfl |exact .inl rfl |exact .inr rfl |decide |(intro _;rfl) |assumption)) (@ag _ _ _ _ _ (@aP _ _ 6 _ _ _ _ nd rfl (zas rfl) (@aC _ _ _ _ _ _ _ _ (@b4 _) (pv 3) (@ai _ _ _ _)) (by first |rfl |exact .inl rfl |exact .inr rfl |decide |(intro _;rfl) |assumption) (by first |rfl |exact .inl rfl |exact .inr rfl |decide |(intro _;rfl) |assumption)) (@ag _ _ _ _ _ (@aX _ _ _ _ _ _ _ _ (@PW.pt _ _ _ (@pw_and _ _ _ _ _ _ _ (@az _ _ _ _ _ _ _ _ (@AL _) (pv 6) (@ai _ _ _ _) (aN _)) (@pw_and1 _ _ _ _ (@az _ _ _ _ _ _ _ _ (uL (Hm hr)) (pv 2) (@bb _ _ _ _ (@af _)) (aN _))))) (@ag _ _ _ _ _ (@aP _ _ 7 _ _ _ _ nd rfl (zas rfl) (@aO _ _ _ _ _ _ _ (@aW _) (pv 2) (@aC _ _ _ _ _ _ _ _ (@b4 _) (@aC _ _ _ _ _ _ _ _ (@dA _) (pv 3) (@ai _ _ _ _)) (@bo _ _ _ _ _ _ _ _ _ (@bB _) rfl T.fY PyProof.Rows.Boot.«len» (@ae _ _ _ _ _ (pv 2) (@af _) (@ah _ _ _ _)) (by first |rfl |exact .inl rfl |exact .inr rfl |decide |(intro _;rfl) |assumption) (by first |rfl |exact .inl rfl |exact .inr rfl |decide |(intro _;rfl) |assumption) (by first |rfl |exact .inl rfl |exact .inr rfl |decide |(intro _;rfl) |assumption) (by first |rfl |exact .inl rfl |exact .inr rfl |decide |(intro _;rfl) |assumption))) (@ki _ _ _ _)) (by first |rfl |exact .inl rfl |exact .inr rfl |decide |(intro _;rfl) |assumption) (by first |rfl |exact .inl rfl |exact .inr rfl |decide |(intro _;rfl) |assumption)) (@ag _ _ _ _ _ (@aX _ _ _ _ _ _ _ _ (@az _ _ _ _ _ _ _ _ (@AL _) (pv 6) (@ai _ _ _ _) (aN _)) (@ao _ _ _ (@aH _ _ _ _ (@bb _ _ _ _ (@ae _ _ _ _ _ (@aC _ _ _ _ _ _ _ _ aT (@au _ _ _ _) (pv 7)) (@ae _ _ _ _ _ (@bQ _ _ _ _ _ (@ae _ _ _ _ _ (@au _ _ _ _) (@ae _ _ _ _ _ (pv 1) (@ae _ _ _ _ _ (pv 7) (@af _) (@ah _ _ _ _)) (@ah _ _ _ _)) (@ay _ _ _ _ _))) (@af _) (@e8 _ _ _ _ _)) (@cz _ _ _ _ _ _))))) (@aF _)) (@ao _ _ _ (@aH _ _ _ _ (@bb _ _ _ _ (@ae _ _ _ _ _ (@aC _ _ _ _ _ _ _ _ aT (@aC _ _ _ _ _ _ _ _ aT (@aC _ _ _ _ _ _ _ _ aT (@au _ _ _ _) (pv 7)) (@au _ _ _ _)) (pv 4)) (@ae _ _ _ _ _ (@bQ _ _ _ _ _ (@ae _ _ _ _ _ (@au _ _ _ _) (@ae _ _ _ _ _ (pv 1) (@ae _ _ _ _ _ (pv 7) (@ae _ _ _ _ _ (pv 5) (@af _) (@ah _ _ _ _)) (@ah _ _ _ _)) (@ah _ _ _ _)) (@ay _ _ _ _ _))) (@af _) (@e8 _ _ _ _ _)) (@cz _ _ _ _ _ _))))))) (@aF _)) (@ag _ _ _ _ _ (@aX _ _ _ _ _ _ _ _ (@az _ _ _ _ _ _ _ _ (@b7 _) (pv 6) (@ai _ _ _ _) (aN _)) (@ao _ _ _ (@aH _ _ _ _ (@bb _ _ _ _ (@ae _ _ _ _ _ (@au _ _ _ _) (@ae _ _ _ _ _ (@bQ _ _ _ _ _ (@ae _ _ _ _ _ (@au _ _ _ _) (@ae _ _ _ _ _ (pv 1) (@af _) (@ah _ _ _ _)) (@ay _ _ _ _ _))) (@af _) (@e8 _ _ _ _ _)) (@ay _ _ _ _ _))))) (@aF _)) (@ag _ _ _ _ _ (@aX _ _ _ _ _ _ _ _ (@az _ _ _ _ _ _ _ _ (@b7 _) (pv 6) (@ai _ _ _ _) (aN _)) (@ag _ _ _ _ _ (@aP _ _ 8 _ _ _ _ nd rfl (zas rfl) (@ax _ _ _ _ _ _ _ _ _ _ _ _ _ _ _ _ jB (hr.mono (by first|decide|omega)) rfl T.bY.m T.bY.F.kp T.bY.b .nil bc (@ae _ _ _ _ _ (pv 0) (@ae _ _ _ _ _ (@ai _ _ _ _) (@ae _ _ _ _ _ (pv 2) (@af _) (@ah _ _ _ _)) (@ay _ _ _ _ _)) (@ah _ _ _ _)) (by first |rfl |exact .inl rfl |exact .inr rfl |decide |(intro _;rfl) |assumption) (by first |rfl |exact .inl rfl |exact .inr rfl |decide |(intro _;rfl) |assumption) (by first |rfl |exact .inl rfl |exact .inr rfl |decide |(intro _;rfl) |assumption)) (by first |rfl |exact .inl rfl |exact .inr rfl |decide |(intro _;rfl) |assumption) (by first |rfl |exact .inl rfl |exact .inr rfl |decide |(intro _;rfl) |assumption)) (@ag _ _ _ _ _ (@aP _ _ 9 _ _ _ _ nd rfl (zas rfl) (@aO _ _ _ _ _ _ _ (@rm _) (@au _ _ _ _) (@aC _ _ _ _ _ _ _ _ (@b4 _) (@ax _ _ _ _ _ _ _ _ _ _ _ _ _ _ _ _ bq (hr.mono (by first|decide|omega)) rfl T.aA.m T.aA.F.kp T.aA.b .nil bc (@ae _ _ _ _ _ (pv 0) (@ae _ _ _ _ _ (@ai _ _ _ _) (@af _) (@ay _ _ _ _ _)) (@ah _ _ _ _)) (by first |rfl |exact .inl rfl |exact .inr rfl |decide |(intro _;rfl) |assumption) (by first |rfl |exact .inl rfl |exact .inr rfl |decide |(intro _;rfl) |assumption) (by first |rfl |exact .inl rfl |exact .inr rfl |decide |(intro _;rfl) |assumption)) (@ai _ _ _ _)) (@ki _ _ _ _)) (by first |rfl |exact .inl rfl |exact .inr rfl |decide |(intro _;rfl) |assumption) (by first |rfl |exact .inl rfl |exact .inr rfl |decide |(intro _;rfl) |assumption)) (@ao _ _ _ (@aH _ _ _ _ (@bb _ _ _ _ (@ae _ _ _ _ _ (@aC _ _ _ _ _ _ _ _ aT (@aC _ _ _ _ _ _ _ _ aT (@aC _ _ _ _ _ _ _ _ aT (@aC _ _ _ _ _ _ _ _ aT (@aC _ _ _ _ _ _ _ _ aT (@au _ _ _ _) (pv 4)) (@au _ _ _ _)) (pv 9)) (@au _ _ _ _)) (@aO _ _ _ _ _ _ _ (@aW _) (pv 8) (@ai _ _ _ _) (@aw _ _ _))) (@ae _ _ _ _ _ (@bQ _ _ _ _ _ (@ae _ _ _ _ _ (@au _ _ _ _) (@ae _ _ _ _ _ (pv 1) (@ae _ _ _ _ _ (pv 9) (@ae _ _ _ _ _ (pv 5) (@ae _ _ _ _ _ (@aO _ _ _ _ _ _ _ (@aW _) (pv 8) (@ai _ _ _ _) (@aw _ _ _)) (@af _) (@bg _ _ _ _ _)) (@ah _ _ _ _)) (@ah _ _ _ _)) (@ah _ _ _ _)) (@ay _ _ _ _ _))) (@af _) (@e8 _ _ _ _ _)) (@cz _ _ _ _ _ _))))))) (@aF _)) (@ao _ _ _ (@aH _ _ _ _ (@bb _ _ _ _ (@ae _ _ _ _ _ (@aC _ _ _ _ _ _ _ _ aT (@au _ _ _ _) (pv 4)) (@ae _ _ _ _ _ (@bQ _ _ _ _ _ (@ae _ _ _ _ _ (@au _ _ _ _) (@ae _ _ _ _ _ (pv 1) (@ae _ _ _ _ _ (pv 5) (@af _) (@ah _ _ _ _)) (@ah _ _ _ _)) (@ay _ _ _ _ _))) (@af _) (@e8 _ _ _ _ _)) (@cz _ _ _ _ _ _))))))))))),rfl,?_⟩;have line:zd2=2 ^ 24:=rfl;have b1:zab " "=S [32]:=by decide +kernel
 refine aD fun U1 sj=>?_;walk_at "rd";refine⟨cell,1,rfl,by decide,by decide,(sj _ _).mpr (aD fun U2 qV=>?_)⟩;clear sj;obtain⟨n0,_⟩:=iW cell 1;generalize stir cell 1=num at *;walk_at "rd";refine .mk cell 3 a ns rfl (by decide) hS hN fun l1 wd v1 t1 H1 s1 y1 r1 e1=>?_;refine⟨l1,_,rfl,.of y1,rfl,_,_,rfl,_,_,rfl,rfl,(qV _ _).mpr (aD fun U3 wc=>?_)⟩;clear qV;have lw:=e1.len;walk_at "rd";refine(wc _ _).mpr (aD fun U4 zj=>?_);clear wc;generalize num%9=kd at *;have fin:∀(wt:W) (f:PM.Fm) (z:Str) (tt:List V) (H2:Hp),ar H H2->z=S wt->(JF wt f/\PM.NH ns f/\PM.opens f=none)->PM.BW f->Su f->(∀n,aG K H2 (C9 (JI (PM.sH k n f))) tt)->∀p,H2 p=none->∀p2,(upd H2 p (.tup tt)) p2=none->Q (.ref p2) (upd (upd H2 p (.tup tt)) p2 (.lst [V.str z,V.ref p])):=fun wt f z tt H2 s2 ez h fs fh rp p fp p2 fp2=>by
  have t1:=ar.new fp (.tup tt);have t2:=ar.new fp2 (.lst [V.str z,V.ref p]);refine q p2 wt f (.ref p) _ (s2.trans (t1.trans t2)) (by rw[aj,ez];rfl) h.1 h.2.1 fs fh h.2.2 fun n aE=>⟨p,tt,rfl,?_,(rp n).mono (t1.trans t2)⟩
  have:PM.gw (PM.sH k n f)=[]:=by rw[PM.B6 fs,h.2.2];rfl
  rw[this,zbC,zaC];exact .of (t2 _ _ aj)
 have lS:(S wd).length<=60:=by rw[cj];exact lw
 have Y2:zab "ask "=S (PM.rQ++[32]):=by decide +kernel
 have Y3:zab "put "=S (PM.rR++[32]):=by decide +kernel
 have Y4:zab "say "=S (PM.rT++[32]):=by decide +kernel
 have VT:zab "must "=S (PM.gu++[32]):=by decide +kernel
 have l1:(zab "ask ").length<=20:=by decide +kernel
 have l2:(zab "put ").length<=20:=by decide +kernel
 have l3:(zab "say ").length<=20:=by decide +kernel
 have l4:(zab "must ").length<=20:=by decide +kernel
 have l5:(zab " ").length<=20:=by decide +kernel
 have rest:∀x7 H2,ar H H2->fH K H2 a (ns.map sv)->Rep K H2 (cV t1) v1->U4 [some (.int cell),some (.int k),some (.ref a),some (.int num),some (sv wd),some v1,some (.int kd),x7,none,none] H2:=by
  intro x7 H2 s2 VN r2;refine(zj _ _).mpr (aD fun U5 Fq=>?_);clear zj;walk_at "rd";refine bW (fun k7=>?_) (fun k7=>?_)
  ·exact fin PM.b5 _ _ _ H2 s2 Bk MS rfl trivial fun n=>.cons rS (.cons L9 .nil)
  refine(Fq _ _).mpr (aD fun U6 Fs=>?_);clear Fq;walk_at "rd";refine bW (fun k8=>?_) (fun k8=>?_)
  ·refine .mk cell 30 a ns rfl (by decide) VN hN fun lb wb vb tb H3 s3 y3 r3 e3=>?_;refine⟨cell,2,rfl,by decide,by decide,_,_,rfl,rfl,(show (0:Int)<2 by decide),?_⟩;obtain⟨sg,RN,asg⟩:=nT (L:=([60,61]:List Nat)) (n:=2) rfl (by decide) (stir cell 2);have el:(zab "<=").cps.toList=[60,61]:=by decide +kernel
   have KO:([sg]:W)=[60]\/([sg]:W)=[61]:=by
    simp only[zak,zba,or_false] at RN;rcases RN with rfl |rfl
    ·exact .inl rfl
    ·exact .inr rfl
   refine⟨_,_,sg,rfl,rfl,by decide +kernel,by rw[el];exact asg,?_⟩;have lb':(S wb).length<=60:=by rw[cj];exact e3.len
   have lg:(S [sg]).length<=1:=by rw[cj];exact zag _
   refine⟨_,S wd,rfl,rfl,by lia,_,_,rfl,rfl,by rw[strLen_append];lia,_,S [sg],rfl,rfl,by rw[strLen_append,strLen_append];lia,_,_,rfl,rfl,by rw[strLen_append,strLen_append,strLen_append];lia,?_⟩;refine bp (.of y3) (v:=sv wb) (aQ (j:=0) rfl) ⟨_,S wb,rfl,rfl,by rw[strLen_append,strLen_append,strLen_append,strLen_append];lia,?_⟩;refine bp (.of y3) (v:=vb) (aQ (j:=1) rfl) ?_;obtain⟨c1,c2⟩:=yz (k:=PM.gu) (.inl rfl) KO e1 e3;exact fin _ _ _ _ H3 (s2.trans s3) (Y1 VT b1) ⟨c1,c2,by show (if PM.gu=PM.jV then some true else if PM.gu=PM.bK then some false else none)=none;decide⟩ ⟨.inl rfl,e1.Qr,e3.Qr⟩ ⟨KO,e1.ht,e3.ht⟩ fun n=>.cons rS (.cons L9 (.cons rS (.cons (r2.mono s3) (.cons r3 .nil))))
  refine(Fs _ _).mpr ?_;clear Fs;walk_at "rd";refine⟨_,S wd,rfl,rfl,by lia,?_⟩;exact fin _ _ _ _ H2 s2 (tx2 Y4) (OI e1) e1.Qr e1.ht fun n=>.cons rS (.cons L9 (.cons r2 .nil))
 walk_at "rd";refine bW (fun k5=>?_) (fun k5=>?_)
 ·intro p0 f0;have s0:=ar.new f0 (.lst []);have y0:(upd H1 p0 (.lst [])) p0=some (.lst []):=aj;generalize upd H1 p0 (.lst [])=WX at *;have WY:fH K WX a (ns.map sv):=(s1.trans s0).seq hS;refine⟨a,p0,ns.map sv,rfl,rfl,WY,.of y0,?_⟩;by_cases he:ns=[]
  ·rw[if_neg (by rw[he];decide)];exact rest none WX (s1.trans s0) WY (r1.mono s0)
  ·rw[if_pos (by cases ns with |nil=>exact absurd rfl he |cons y r=>rfl)];have hl:(ns.map sv).length=ns.length:=zai _;have lp:=zcM.mpr he;refine⟨a,ns.map sv,rfl,.inl WY,by rw[hl];lia,?_⟩;rw[hl];obtain⟨v2,SH,a2⟩:=nT (L:=ns.map sv) (n:=ns.length) hl lp (num/9);obtain⟨x,hx,rfl⟩:=zaK.mp SH;refine bp WY a2 ?_;have nx:=hN.ok x hx;have lx:(S x).length<=8:=by rw[cj];exact PM.o7 nx
   refine bW (fun k2=>?_) (fun k2=>?_)
   ·refine⟨_,S x,rfl,rfl,by lia,?_⟩;exact fin _ _ _ _ WX (s1.trans s0) (tx2 Y2) (OG nx hx) nx trivial fun n=>.cons rS (.cons L9 (.cons rS .nil))
   ·refine⟨_,S x,rfl,rfl,by lia,_,_,rfl,rfl,by rw[strLen_append];lia,_,S wd,rfl,rfl,by rw[strLen_append,strLen_append];lia,?_⟩;exact fin _ _ _ _ WX (s1.trans s0) (tx3 Y3 b1) (OH nx hx e1) ⟨nx,e1.Qr⟩ e1.ht fun n=>.cons rS (.cons L9 (.cons rS (.cons (r1.mono s0) .nil)))
 ·exact rest none H1 s1 (s1.seq hS) r1
theorem VU(T:Tx K mg t):a8 P w K mg base gI 8 t.gF t.iJ ["cell", "k", "names"] (Qt K):=by
 have bq:=nR (P:=P) (w:=w) (base:=base) T;have jB:=QD (P:=P) (w:=w) (base:=base) T;refine T.eZ.F.rq pK (fun vs H Q E h=>?_) (fun dM A outer s H vs Q E hr h=>?_)
 ·obtain⟨_,_,_,_,rfl,_⟩:=h;rfl
 obtain⟨cell,k,a,ns,rfl,hk,hS,hN,q⟩:=h;have nd:=pK.nd;refine⟨_,[some (.int cell),some (.int k),some (.ref a),none,none,none],(@ag _ _ _ _ _ (@aP _ _ 3 _ _ _ _ nd rfl (zas rfl) (@ax _ _ _ _ _ _ _ _ _ _ _ _ _ _ _ _ jB (hr.mono (by first|decide|omega)) rfl T.bY.m T.bY.F.kp T.bY.b .nil bc (@ae _ _ _ _ _ (pv 0) (@ae _ _ _ _ _ (@ai _ _ _ _) (@ae _ _ _ _ _ (pv 2) (@af _) (@ah _ _ _ _)) (@ay _ _ _ _ _)) (@ah _ _ _ _)) (by first |rfl |exact .inl rfl |exact .inr rfl |decide |(intro _;rfl) |assumption) (by first |rfl |exact .inl rfl |exact .inr rfl |decide |(intro _;rfl) |assumption) (by first |rfl |exact .inl rfl |exact .inr rfl |decide |(intro _;rfl) |assumption)) (by first |rfl |exact .inl rfl |exact .inr rfl |decide |(intro _;rfl) |assumption) (by first |rfl |exact .inl rfl |exact .inr rfl |decide |(intro _;rfl) |assumption)) (@ag _ _ _ _ _ (@aP _ _ 4 _ _ _ _ nd rfl (zas rfl) (@ax _ _ _ _ _ _ _ _ _ _ _ _ _ _ _ _ jB (hr.mono (by first|decide|omega)) rfl T.bY.m T.bY.F.kp T.bY.b .nil bc (@ae _ _ _ _ _ (pv 0) (@ae _ _ _ _ _ (@ai _ _ _ _) (@ae _ _ _ _ _ (pv 2) (@af _) (@ah _ _ _ _)) (@ay _ _ _ _ _)) (@ah _ _ _ _)) (by first |rfl |exact .inl rfl |exact .inr rfl |decide |(intro _;rfl) |assumption) (by first |rfl |exact .inl rfl |exact .inr rfl |decide |(intro _;rfl) |assumption) (by first |rfl |exact .inl rfl |exact .inr rfl |decide |(intro _;rfl) |assumption)) (by first |rfl |exact .inl rfl |exact .inr rfl |decide |(intro _;rfl) |assumption) (by first |rfl |exact .inl rfl |exact .inr rfl |decide |(intro _;rfl) |assumption)) (@ag _ _ _ _ _ (@aP _ _ 5 _ _ _ _ nd rfl (zas rfl) (@aO _ _ _ _ _ _ _ (@rm _) (@au _ _ _ _) (@aC _ _ _ _ _ _ _ _ (@b4 _) (@ax _ _ _ _ _ _ _ _ _ _ _ _ _ _ _ _ bq (hr.mono (by first|decide|omega)) rfl T.aA.m T.aA.F.kp T.aA.b .nil bc (@ae _ _ _ _ _ (pv 0) (@ae _ _ _ _ _ (@ai _ _ _ _) (@af _) (@ay _ _ _ _ _)) (@ah _ _ _ _)) (by first |rfl |exact .inl rfl |exact .inr rfl |decide |(intro _;rfl) |assumption) (by first |rfl |exact .inl rfl |exact .inr rfl |decide |(intro _;rfl) |assumption) (by first |rfl |exact .inl rfl |exact .inr rfl |decide |(intro _;rfl) |assumption)) (@ai _ _ _ _)) (@ki _ _ _ _)) (by first |rfl |exact .inl rfl |exact .inr rfl |decide |(intro _;rfl) |assumption) (by first |rfl |exact .inl rfl |exact .inr rfl |decide |(intro _;rfl) |assumption)) (@ag _ _ _ _ _ (@aX _ _ _ _ _ _ _ _ (@az _ _ _ _ _ _ _ _ (@b7 _) (@aC _ _ _ _ _ _ _ _ (@b4 _) (@aC _ _ _ _ _ _ _ _ (@dA _) (@ax _ _ _ _ _ _ _ _ _ _ _ _ _ _ _ _ bq (hr.mono (by first|decide|omega)) rfl T.aA.m T.aA.F.kp T.aA.b .nil bc (@ae _ _ _ _ _ (pv 0) (@ae _ _ _ _ _ (@ai _ _ _ _) (@af _) (@ay _ _ _ _ _)) (@ah _ _ _ _)) (by first |rfl |exact .inl rfl |exact .inr rfl |decide |(intro _;rfl) |assumption) (by first |rfl |exact .inl rfl |exact .inr rfl |decide |(intro _;rfl) |assumption) (by first |rfl |exact .inl rfl |exact .inr rfl |decide |(intro _;rfl) |assumption)) (@ai _ _ _ _)) (@ai _ _ _ _)) (@ai _ _ _ _) (aN _)) (@ao _ _ _ (@aH _ _ _ _ (@bb _ _ _ _ (@ae _ _ _ _ _ (@aC _ _ _ _ _ _ _ _ aT (@aC _ _ _ _ _ _ _ _ aT (@aC _ _ _ _ _ _ _ _ aT (@aC _ _ _ _ _ _ _ _ aT (@aC _ _ _ _ _ _ _ _ aT (@au _ _ _ _) (@aO _ _ _ _ _ _ _ (@aW _) (pv 3) (@ai _ _ _ _) (@aw _ _ _))) (@au _ _ _ _)) (pv 5)) (@au _ _ _ _)) (@aO _ _ _ _ _ _ _ (@aW _) (pv 4) (@ai _ _ _ _) (@aw _ _ _))) (@ae _ _ _ _ _ (@bQ _ _ _ _ _ (@ae _ _ _ _ _ (@au _ _ _ _) (@ae _ _ _ _ _ (pv 1) (@ae _ _ _ _ _ (pv 5) (@ae _ _ _ _ _ (@aO _ _ _ _ _ _ _ (@aW _) (pv 3) (@ai _ _ _ _) (@aw _ _ _)) (@ae _ _ _ _ _ (@aO _ _ _ _ _ _ _ (@aW _) (pv 4) (@ai _ _ _ _) (@aw _ _ _)) (@ae _ _ _ _ _ (@bb _ _ _ _ (@af _)) (@af _) (@oK _ _ _ _)) (@bg _ _ _ _ _)) (@bg _ _ _ _ _)) (@ah _ _ _ _)) (@ah _ _ _ _)) (@ay _ _ _ _ _))) (@af _) (@e8 _ _ _ _ _)) (@cz _ _ _ _ _ _))))) (@aF _)) (@ao _ _ _ (@aH _ _ _ _ (@bb _ _ _ _ (@ae _ _ _ _ _ (@aC _ _ _ _ _ _ _ _ aT (@aC _ _ _ _ _ _ _ _ aT (@aC _ _ _ _ _ _ _ _ aT (@aC _ _ _ _ _ _ _ _ aT (@aC _ _ _ _ _ _ _ _ aT (@au _ _ _ _) (@aO _ _ _ _ _ _ _ (@aW _) (pv 3) (@ai _ _ _ _) (@aw _ _ _))) (@au _ _ _ _)) (pv 5)) (@au _ _ _ _)) (@aO _ _ _ _ _ _ _ (@aW _) (pv 4) (@ai _ _ _ _) (@aw _ _ _))) (@ae _ _ _ _ _ (@bQ _ _ _ _ _ (@ae _ _ _ _ _ (@au _ _ _ _) (@ae _ _ _ _ _ (pv 1) (@ae _ _ _ _ _ (pv 5) (@ae _ _ _ _ _ (@aO _ _ _ _ _ _ _ (@aW _) (pv 3) (@ai _ _ _ _) (@aw _ _ _)) (@ae _ _ _ _ _ (@aO _ _ _ _ _ _ _ (@aW _) (pv 4) (@ai _ _ _ _) (@aw _ _ _)) (@ae _ _ _ _ _ (@bb _ _ _ _ (@af _)) (@ae _ _ _ _ _ (@bb _ _ _ _ (@af _)) (@af _) (@oK _ _ _ _)) (@oK _ _ _ _)) (@bg _ _ _ _ _)) (@bg _ _ _ _ _)) (@ah _ _ _ _)) (@ah _ _ _ _)) (@ay _ _ _ _ _))) (@af _) (@e8 _ _ _ _ _)) (@cz _ _ _ _ _ _))))))))),rfl,?_⟩;have line:zd2=2 ^ 24:=rfl;have b1:zab " "=S [32]:=by decide +kernel
 refine aD fun U1 sj=>?_;walk_at "rd";refine .mk cell 3 a ns rfl (by decide) hS hN fun la wa va ta H1 s1 y1 r1 e1=>(sj _ _).mpr (aD fun U2 qV=>?_);clear sj;walk_at "rd";refine .mk cell 30 a ns rfl (by decide) (s1.seq hS) hN fun lb wb vb tb H2 s2 y2 r2 e2=>(qV _ _).mpr (aD fun U3 wc=>?_);clear qV;walk_at "rd";refine⟨cell,2,rfl,by decide,by decide,_,_,rfl,rfl,(show (0:Int)<2 by decide),?_⟩;obtain⟨sg,RN,asg⟩:=nT (L:=([60,61]:List Nat)) (n:=2) rfl (by decide) (stir cell 2);have el:(zab "<=").cps.toList=[60,61]:=by decide +kernel
 have KO:([sg]:W)=[60]\/([sg]:W)=[61]:=by
  simp only[zak,zba,or_false] at RN;rcases RN with rfl |rfl
  ·exact .inl rfl
  ·exact .inr rfl
 refine⟨_,_,sg,rfl,rfl,by decide +kernel,by rw[el];exact asg,(wc _ _).mpr (aD fun U4 zj=>?_)⟩;clear wc;have WZ:=s2 _ _ y1;have l0:(S wa).length<=60:=by rw[cj];exact e1.len
 have lb':(S wb).length<=60:=by rw[cj];exact e2.len
 have lg:(S [sg]).length<=1:=by rw[cj];exact zag _
 have l1:(zab "while ").length<=20:=by decide +kernel
 have l2:(zab "if ").length<=20:=by decide +kernel
 have l5:(zab " ").length<=20:=by decide +kernel
 have zW:zab "while "=S (PM.bK++[32]):=by decide +kernel
 have zI:zab "if "=S (PM.jV++[32]):=by decide +kernel
 walk_at "rd";refine⟨cell,2,rfl,by decide,by decide,?_⟩;walk_at "rd";refine bW (fun k0=>?_) (fun k0=>?_)
 ·refine bp (.of WZ) (v:=sv wa) (aQ (j:=0) rfl) ⟨_,S wa,rfl,rfl,by lia,_,_,rfl,rfl,by rw[strLen_append];lia,_,S [sg],rfl,rfl,by rw[strLen_append,strLen_append];lia,_,_,rfl,rfl,by rw[strLen_append,strLen_append,strLen_append];lia,?_⟩;refine bp (.of y2) (v:=sv wb) (aQ (j:=0) rfl) ⟨_,S wb,rfl,rfl,by rw[strLen_append,strLen_append,strLen_append,strLen_append];lia,?_⟩;refine bp (.of WZ) (v:=va) (aQ (j:=1) rfl) (bp (.of y2) (v:=vb) (aQ (j:=1) rfl) fun b fb=>?_);generalize g1:upd H2 b _=A1;have t1:=gL g1 fb;have z1:=Jn g1;clear g1;intro u fu;generalize g1:upd A1 u _=A2;have t2:=gT g1 fu;have z2:=Ti g1;clear g1;intro l fl;generalize g1:upd A2 l _=A3;have t3:=gL g1 fl;have z3:=Jn g1;clear g1;obtain⟨c1,c2⟩:=yz (k:=PM.bK) (.inr (.inr rfl)) KO e1 e2;have tt:=t1.trans (t2.trans t3);refine q l _ _ u PM.bK _ _ _ _ [b] A3 ((s1.trans s2).trans tt) (by rw[z3,Y1 zW b1];rfl) (t3 _ _ (by rw[z2,lW];rfl)) (fun n=>?_) (by simp) (fun y hy=>by rw[zad.mp hy];exact⟨bX (s1.trans s2) fb,t3 _ _ (t2 _ _ z1)⟩) (.inl ⟨rfl,rfl⟩) c1 c2 ⟨.inr (.inr rfl),e1.Qr,e2.Qr⟩ ⟨KO,e1.ht,e2.ht⟩ (by show (if PM.bK=PM.jV then some true else if PM.bK=PM.bK then some false else none)=some (decide (PM.bK=PM.jV));decide);show aG K A3 [.str "while",.int k,.str (S [sg]),cV ta,cV tb] _;rw[lW];exact .cons rS (.cons L9 (.cons rS (.cons (r1.mono (s2.trans tt)) (.cons (r2.mono tt) .nil))))
 refine(zj _ _).mpr ?_;clear zj;walk_at "rd";refine bp (.of WZ) (v:=sv wa) (aQ (j:=0) rfl) ⟨_,S wa,rfl,rfl,by lia,_,_,rfl,rfl,by rw[strLen_append];lia,_,S [sg],rfl,rfl,by rw[strLen_append,strLen_append];lia,_,_,rfl,rfl,by rw[strLen_append,strLen_append,strLen_append];lia,?_⟩;refine bp (.of y2) (v:=sv wb) (aQ (j:=0) rfl) ⟨_,S wb,rfl,rfl,by rw[strLen_append,strLen_append,strLen_append,strLen_append];lia,?_⟩;refine bp (.of WZ) (v:=va) (aQ (j:=1) rfl) (bp (.of y2) (v:=vb) (aQ (j:=1) rfl) fun b fb=>?_);generalize g1:upd H2 b _=A1;have t1:=gL g1 fb;have z1:=Jn g1;clear g1;intro c fc;generalize g1:upd A1 c _=A0;have t0:=gL g1 fc;have z0:=Jn g1;clear g1;intro u fu;generalize g1:upd A0 u _=A2;have t2:=gT g1 fu;have z2:=Ti g1;clear g1;intro l fl;generalize g1:upd A2 l _=A3;have t3:=gL g1 fl;have z3:=Jn g1;clear g1;obtain⟨c1,c2⟩:=yz (k:=PM.jV) (.inr (.inl rfl)) KO e1 e2;have tt:=(t1.trans t0).trans (t2.trans t3);have nbc:b≠c:=fun z=>by rw[<- z,z1] at fc;cases fc
 refine q l _ _ u PM.jV _ _ _ _ [b,c] A3 ((s1.trans s2).trans tt) (by rw[z3,Y1 zI b1];rfl) (t3 _ _ (by rw[z2,MM];rfl)) (fun n=>?_) (by simpa using nbc) (fun y hy=>?_) (.inr ⟨rfl,rfl⟩) c1 c2 ⟨.inr (.inl rfl),e1.Qr,e2.Qr⟩ ⟨KO,e1.ht,e2.ht⟩ (by show (if PM.jV=PM.jV then some true else if PM.jV=PM.bK then some false else none)=some (decide (PM.jV=PM.jV));decide)
 ·show aG K A3 [.str "if",.int k,.str (S [sg]),cV ta,cV tb] _;rw[MM];exact .cons rS (.cons L9 (.cons rS (.cons (r1.mono (s2.trans tt)) (.cons (r2.mono tt) .nil))))
 ·rcases zak.mp hy with rfl |hy
  ·exact⟨bX (s1.trans s2) fb,t3 _ _ (t2 _ _ (t0 _ _ z1))⟩
  ·rw[zad.mp hy];exact⟨bX ((s1.trans s2).trans t1) fc,t3 _ _ (t2 _ _ z0)⟩
def By:W:=[97,98,99,100,101,102,103,104,105,106,107,108,109,110,111,112,113,114,115,116,117,118,119,120,121,122]
theorem vv(c:Int):∃x,PM.isLetter x=true/\zU By (c%26)=some x:=by
 obtain⟨x,hx,a⟩:=nT (L:=By) (n:=26) rfl (by decide) c;have all:∀x∈By,PM.isLetter x=true:=by decide
 exact⟨x,all x hx,a⟩
def zo:List W:=[[122,122,97],[122,122,98],[122,122,99],[122,122,100],[122,122,101],[122,122,102],[122,122,103],[122,122,104],[122,122,105]]
theorem O5(ns:List W):∀L:List W,L.Nodup->L.length<=(L.filter fun x=>decide (x ∉ ns)).length+ns.length:=fun L hL=>by
 have e:L.length=(L.filter fun x=>decide (x ∉ ns)).length+(L.filter fun x=>decide (x∈ns)).length:=by
  clear hL
  induction L with
  |nil=>rfl
  |cons a l ih=>
   by_cases h:a∈ns
   ·rw[zdc (by simpa using h),zdd (by simpa using h),zah,zah,ih];lia
   ·rw[zdd (by simpa using h),zdc (by simpa using h),zah,zah,ih];lia
 have sub:(L.filter fun x=>decide (x∈ns)).length<=ns.length:=PG.qr _ ns (hL.sublist List.filter_sublist) fun x hx=>by simpa using (zcy.mp hx).2
 lia
theorem SI(ns:List W):9<=((zaE 9).filter fun n=>decide (zo.getD n [] ∉ ns)).length+ns.length:=by
 have h:=O5 ns zo (by decide);have e:zo=(zaE 9).map fun n=>zo.getD n []:=by decide
 have e2:(zo.filter fun x=>decide (x ∉ ns)).length=((zaE 9).filter fun n=>decide (zo.getD n [] ∉ ns)).length:=by
  conv=>lhs;rw[e]
  rw[List.filter_map,zai];rfl
 rw[e2] at h;exact h
theorem SJ(T:Tx K mg t):a8 P w K mg base gI 2 t.iF t.jj ["head", "k", "many"] Qe:=by
 have bq:=nR (P:=P) (w:=w) (base:=base) T;refine T.gj.F.rq qM (fun vs H Q E h=>?_) (fun dM A outer s H vs Q E hr h=>?_)
 ·obtain⟨_,_,_,rfl,_⟩:=h;rfl
 obtain⟨hd,k,m,rfl,hk,hm,q⟩:=h;have nd:=qM.nd;refine⟨_,[some (.int hd),some (.int k),some (.int m),none,none,none,none,none,none,none,none,none],(by
  rw[z8];exact(@ag _ _ _ _ _ (@aP _ _ 3 _ _ _ _ nd rfl (Or.inr rfl) (@au _ _ _ _) (by first |rfl |exact .inl rfl |exact .inr rfl |decide |(intro _;rfl) |assumption) (by first |rfl |exact .inl rfl |exact .inr rfl |decide |(intro _;rfl) |assumption)) (@ag _ _ _ _ _ (@aP _ _ 4 _ _ _ _ nd rfl (zas rfl) (@bb _ _ _ _ (@cY _ _ ([.str "box",.str "ask",.str "put",.str "say",.str "if",.str "else",.str "while",.str "must",.str "stop",.str "end"]) (by kernel_rfl))) (by first |rfl |exact .inl rfl |exact .inr rfl |decide |(intro _;rfl) |assumption) (by first |rfl |exact .inl rfl |exact .inr rfl |decide |(intro _;rfl) |assumption)) (@ag _ _ _ _ _ (@aP _ _ 5 _ _ _ _ nd rfl (zas rfl) (@aC _ _ _ _ _ _ _ _ (@dU _) (@ai _ _ _ _) (@aC _ _ _ _ _ _ _ _ (@b4 _) (@ax _ _ _ _ _ _ _ _ _ _ _ _ _ _ _ _ bq (hr.mono (by first|decide|omega)) rfl T.aA.m T.aA.F.kp T.aA.b .nil bc (@ae _ _ _ _ _ (pv 0) (@ae _ _ _ _ _ (pv 1) (@af _) (@ah _ _ _ _)) (@ah _ _ _ _)) (by first |rfl |exact .inl rfl |exact .inr rfl |decide |(intro _;rfl) |assumption) (by first |rfl |exact .inl rfl |exact .inr rfl |decide |(intro _;rfl) |assumption) (by first |rfl |exact .inl rfl |exact .inr rfl |decide |(intro _;rfl) |assumption)) (@ai _ _ _ _))) (by first |rfl |exact .inl rfl |exact .inr rfl |decide |(intro _;rfl) |assumption) (by first |rfl |exact .inl rfl |exact .inr rfl |decide |(intro _;rfl) |assumption)) (@ag _ _ _ _ _ (@aP _ _ 6 _ _ _ _ nd rfl (zas rfl) (@gZ _ _ _ _ _ _ _ _ _ _ _ _ zbP zcv zcw Oh (@au _ _ _ _) (@ae _ _ _ _ _ (@kX _ _ _ _ _ _ _ ["j"] ([0,1,3]) _ _ _ _ rfl (by rfl) (by rfl) (@qi _ _ _ _ _ _ rfl T.qw (@ae _ _ _ _ _ (pv 5) (@af _) (@ah _ _ _ _)) (by first |rfl |exact .inl rfl |exact .inr rfl |decide |(intro _;rfl) |assumption)) (fun _ _ _ _=>(@bh _ _ 0 _ (by show List.Nodup (["j", "head", "k", "letters"]:List Str);decide +kernel) rfl (zas rfl) (by first |rfl |exact .inl rfl |exact .inr rfl |decide |(intro _;rfl) |assumption))) (fun _ _ _ _=>(@j4 _)) (fun _ _ _ _=>(@aO _ _ _ _ _ _ _ (@rm _) (pv 3) (@aC _ _ _ _ _ _ _ _ (@b4 _) (@ax _ _ _ _ _ _ _ _ _ _ _ _ _ _ _ _ bq (hr.mono (by first|decide|omega)) rfl T.aA.m T.aA.F.kp T.aA.b .nil bc (@ae _ _ _ _ _ (pv 1) (@ae _ _ _ _ _ (@aC _ _ _ _ _ _ _ _ (@dU _) (@aC _ _ _ _ _ _ _ _ (@dU _) (pv 2) (@ai _ _ _ _)) (pv 0)) (@af _) (@cz _ _ _ _ _ _)) (@ah _ _ _ _)) (by first |rfl |exact .inl rfl |exact .inr rfl |decide |(intro _;rfl) |assumption) (by first |rfl |exact .inl rfl |exact .inr rfl |decide |(intro _;rfl) |assumption) (by first |rfl |exact .inl rfl |exact .inr rfl |decide |(intro _;rfl) |assumption)) (@ai _ _ _ _)) (@ki _ _ _ _))) (by first |rfl |exact .inl rfl |exact .inr rfl |decide |(intro _;rfl) |assumption)) (@af _) (@Hv _ _ _ _ _ _)) (by first |rfl |exact .inl rfl |exact .inr rfl |decide |(intro _;rfl) |assumption) (by first |rfl |exact .inl rfl |exact .inr rfl |decide |(intro _;rfl) |assumption) (by first |rfl |exact .inl rfl |exact .inr rfl |decide |(intro _;rfl) |assumption) (by first |rfl |exact .inl rfl |exact .inr rfl |decide |(intro _;rfl) |assumption) (by first |rfl |exact .inl rfl |exact .inr rfl |decide |(intro _;rfl) |assumption)) (by first |rfl |exact .inl rfl |exact .inr rfl |decide |(intro _;rfl) |assumption) (by first |rfl |exact .inl rfl |exact .inr rfl |decide |(intro _;rfl) |assumption)) (@ag _ _ _ _ _ (@aP _ _ 7 _ _ _ _ nd rfl (Or.inr rfl) (@bb _ _ _ _ (@af _)) (by first |rfl |exact .inl rfl |exact .inr rfl |decide |(intro _;rfl) |assumption) (by first |rfl |exact .inl rfl |exact .inr rfl |decide |(intro _;rfl) |assumption)) (@ag _ _ _ _ _ (@jI _ _ _ _ _ _ _ _ PassesOwn.never rfl (@qi _ _ _ _ _ _ rfl T.qw (@ae _ _ _ _ _ (pv 2) (@af _) (@ah _ _ _ _)) (by first |rfl |exact .inl rfl |exact .inr rfl |decide |(intro _;rfl) |assumption)) (@bh _ _ 8 _ nd rfl (zas rfl) (by first |rfl |exact .inl rfl |exact .inr rfl |decide |(intro _;rfl) |assumption)) (@ag _ _ _ _ _ (@aP _ _ 9 _ _ _ _ nd rfl (zas rfl) (@ax _ _ _ _ _ _ _ _ _ _ _ _ _ _ _ _ bq (hr.mono (by first|decide|omega)) rfl T.aA.m T.aA.F.kp T.aA.b .nil bc (@ae _ _ _ _ _ (pv 0) (@ae _ _ _ _ _ (@aC _ _ _ _ _ _ _ _ (@dU _) (@aC _ _ _ _ _ _ _ _ (@dU _) (pv 1) (@ai _ _ _ _)) (pv 8)) (@af _) (@cz _ _ _ _ _ _)) (@ah _ _ _ _)) (by first |rfl |exact .inl rfl |exact .inr rfl |decide |(intro _;rfl) |assumption) (by first |rfl |exact .inl rfl |exact .inr rfl |decide |(intro _;rfl) |assumption) (by first |rfl |exact .inl rfl |exact .inr rfl |decide |(intro _;rfl) |assumption)) (by first |rfl |exact .inl rfl |exact .inr rfl |decide |(intro _;rfl) |assumption) (by first |rfl |exact .inl rfl |exact .inr rfl |decide |(intro _;rfl) |assumption)) (@ag _ _ _ _ _ (@aP _ _ 10 _ _ _ _ nd rfl (zas rfl) (@aC _ _ _ _ _ _ _ _ (@b4 _) (pv 9) (pv 5)) (by first |rfl |exact .inl rfl |exact .inr rfl |decide |(intro _;rfl) |assumption) (by first |rfl |exact .inl rfl |exact .inr rfl |decide |(intro _;rfl) |assumption)) (@ag _ _ _ _ _ (@aP _ _ 11 _ _ _ _ nd rfl (zas rfl) (@aC _ _ _ _ _ _ _ _ aT (@aC _ _ _ _ _ _ _ _ aT (@ip _ _ _ _ _ _ _ _ _ _ FW (pv 6) (@jX _) (@jY _ _ _ (pv 10))) (@aO _ _ _ _ _ _ _ (@rm _) (pv 3) (@aC _ _ _ _ _ _ _ _ (@b4 _) (@aC _ _ _ _ _ _ _ _ (@dA _) (pv 9) (@ai _ _ _ _)) (@ai _ _ _ _)) (@ki _ _ _ _))) (@ip _ _ _ _ _ _ _ _ _ _ FW (pv 6) (@jY _ _ _ (@aC _ _ _ _ _ _ _ _ (@dU _) (pv 10) (@ai _ _ _ _))) (@jX _))) (by first |rfl |exact .inl rfl |exact .inr rfl |decide |(intro _;rfl) |assumption) (by first |rfl |exact .inl rfl |exact .inr rfl |decide |(intro _;rfl) |assumption)) (@ag _ _ _ _ _ (@aX _ _ _ _ _ _ _ _ (@az _ _ _ _ _ _ _ _ (@b7 _) (@aC _ _ _ _ _ _ _ _ (@b4 _) (@aC _ _ _ _ _ _ _ _ (@dA _) (pv 9) (@ai _ _ _ _)) (@ai _ _ _ _)) (@ai _ _ _ _) (aN _)) (@ao _ _ _ (@aP _ _ 11 _ _ _ _ nd rfl (zas rfl) (@ip _ _ _ _ _ _ _ _ _ _ FW (pv 6) (@jX _) (@jY _ _ _ (@aC _ _ _ _ _ _ _ _ (@dU _) (pv 10) (@ai _ _ _ _)))) (by first |rfl |exact .inl rfl |exact .inr rfl |decide |(intro _;rfl) |assumption) (by first |rfl |exact .inl rfl |exact .inr rfl |decide |(intro _;rfl) |assumption))) (@aF _)) (@ag _ _ _ _ _ (@aX _ _ _ _ _ _ _ _ (@PW.pt _ _ _ (@pw_or _ _ _ _ _ _ _ (@az _ _ _ _ _ _ _ _ (@gY _) (pv 11) (pv 7) rfl) (@pw_or1 _ _ _ _ (@az _ _ _ _ _ _ _ _ (@gY _) (pv 11) (pv 4) rfl)))) (@ao _ _ _ (@aP _ _ 11 _ _ _ _ nd rfl (zas rfl) (@aO _ _ _ _ _ _ _ (@aW _) (@kX _ _ _ _ _ _ _ ["one"] [7] _ _ _ _ rfl (by rfl) (by rfl) (@fj _ _ _ _ (@kX _ _ _ _ _ _ _ ["n"] [3] _ _ _ _ rfl (by rfl) (by rfl) (@qi _ _ _ _ _ _ rfl T.qw (@ae _ _ _ _ _ (@ai _ _ _ _) (@af _) (@ay _ _ _ _ _)) (by first |rfl |exact .inl rfl |exact .inr rfl |decide |(intro _;rfl) |assumption)) (fun _ _ _ _=>(@bh _ _ 0 _ (by show List.Nodup (["n", "letters"]:List Str);decide +kernel) rfl (zas rfl) (by first |rfl |exact .inl rfl |exact .inr rfl |decide |(intro _;rfl) |assumption))) (fun _ _ _ _=>(@j4 _)) (fun _ _ _ _=>(@aC _ _ _ _ _ _ _ _ aT (@au _ _ _ _) (@aO _ _ _ _ _ _ _ (@rm _) (pv 1) (pv 0) (@BN _ _)))) (by first |rfl |exact .inl rfl |exact .inr rfl |decide |(intro _;rfl) |assumption))) (fun _ _ _ _=>(@bh _ _ 0 _ (by show List.Nodup (["one", "found"]:List Str);decide +kernel) rfl (zas rfl) (by first |rfl |exact .inl rfl |exact .inr rfl |decide |(intro _;rfl) |assumption))) (fun _ _ _ _=>(BK (@az _ _ _ _ _ _ _ _ (Jk (K:=K) rfl) (pv 0) (pv 1) rfl))) (fun _ _ _ _=>(pv 0)) (by first |rfl |exact .inl rfl |exact .inr rfl |decide |(intro _;rfl) |assumption)) (@aC _ _ _ _ _ _ _ _ (@b4 _) (@aC _ _ _ _ _ _ _ _ (@dA _) (pv 9) (@ai _ _ _ _)) (@ai _ _ _ _)) (@ki _ _ _ _)) (by first |rfl |exact .inl rfl |exact .inr rfl |decide |(intro _;rfl) |assumption) (by first |rfl |exact .inl rfl |exact .inr rfl |decide |(intro _;rfl) |assumption))) (@aF _)) (@ao _ _ _ (@ck _ _ _ _ (@gZ _ _ _ _ _ _ _ _ _ _ _ _ zaB zaG zaH cg (pv 7) (@ae _ _ _ _ _ (pv 11) (@af _) (@ah _ _ _ _)) (by first |rfl |exact .inl rfl |exact .inr rfl |decide |(intro _;rfl) |assumption) (by first |rfl |exact .inl rfl |exact .inr rfl |decide |(intro _;rfl) |assumption) (by first |rfl |exact .inl rfl |exact .inr rfl |decide |(intro _;rfl) |assumption) (by first |rfl |exact .inl rfl |exact .inr rfl |decide |(intro _;rfl) |assumption) (by first |rfl |exact .inl rfl |exact .inr rfl |decide |(intro _;rfl) |assumption)) (by first |rfl |exact .inl rfl |exact .inr rfl |decide |(intro _;rfl) |assumption)))))))) (by first |rfl |exact .inl rfl |exact .inr rfl |decide |(intro _;rfl) |assumption)) (@ao _ _ _ (@aH _ _ _ _ (pv 7)))))))))),rfl,?_⟩
 have line:zd2=2 ^ 24:=rfl;have elt:(zab "abcdefghijklmnopqrstuvwxyz").cps.toList=By:=by decide +kernel
 have lls:(zab "abcdefghijklmnopqrstuvwxyz").length<=26:=by decide +kernel
 refine aD fun U1 sj=>?_;walk_at "rd";refine(sj _ _).mpr (aD fun U2 qV=>?_);clear sj;generalize zab "abcdefghijklmnopqrstuvwxyz"=LT at *;walk_at "rd";intro pb fb;have el1:([V.str (zab "box"),V.str (zab "ask"),V.str (zab "put"),V.str (zab "say"),V.str (zab "if"),V.str (zab "else"),V.str (zab "while"),V.str (zab "must"),V.str (zab "stop"),V.str (zab "end")]:List V)=PM.fq.map sv:=by decide +kernel
 rw[el1];have s1:=ar.new fb (.lst (PM.fq.map sv));have yb:(upd H pb (.lst (PM.fq.map sv))) pb=some (.lst (PM.fq.map sv)):=aj;generalize upd H pb (.lst (PM.fq.map sv))=H1 at *;refine(qV _ _).mpr (aD fun U3 wc=>?_);clear qV;walk_at "rd";refine⟨hd,k,rfl,by lia,by lia,?_⟩;walk_at "rd";refine(wc _ _).mpr (aD fun U4 zj=>?_);clear wc;have m8:=zbf (stir hd k) (show (8:Int)≠0 by decide);have m8':=za2 (stir hd k) (show (0:Int)<8 by decide);obtain⟨sz,esz,ac3,ac4⟩:∃sz:Nat,1+stir hd k%8=(sz:Int)/\1<=sz/\sz<=8:=⟨(1+stir hd k%8).toNat,by lia,by lia,by lia⟩
 rw[esz];walk_at "rd";refine⟨rfl,?_⟩;simp only[oJ];walk_at "rd";obtain⟨g,hg⟩:∃g:Nat->Nat,∀j:Nat,PM.isLetter (g j)=true/\zU By (stir hd ((k:Int)+1+j)%26)=some (g j):=⟨fun j=>Classical.choose (vv (stir hd ((k:Int)+1+j))),fun j=>Classical.choose_spec (vv (stir hd ((k:Int)+1+j)))⟩
 refine⟨_,rfl,by lia,by lia,fun D hD=>?_⟩;rw[zb6];refine DP (n:=sz) (r:=[some (V.int hd),some (V.int k),some (V.str LT)]) (fun j=>sv [g j]) (by lia) (fun i hi ys R hR=>?_) ?_
 ·walk_at "rd";refine⟨hd,_,rfl,by lia,by lia,_,_,rfl,rfl,(show (0:Int)<26 by decide),_,_,g i,rfl,rfl,by lia,by rw[elt];exact(hg i).2,hR⟩
 have e2:(zaE sz).map (fun j=>sv [g j])=((zaE sz).map fun j=>[g j]).map sv:=by rw[zbv];rfl
 rw[e2];have s2:=s1.trans (ar.new hD (.lst (((zaE sz).map fun j=>[g j]).map sv)));have W0:=ar.new hD (.lst (((zaE sz).map fun j=>[g j]).map sv)) _ _ yb;have yD:(upd H1 D (.lst (((zaE sz).map fun j=>[g j]).map sv))) D=some (.lst (((zaE sz).map fun j=>[g j]).map sv)):=aj;generalize upd H1 D (.lst (((zaE sz).map fun j=>[g j]).map sv))=H2 at *;have ef:((zaE sz).map fun j=>[g j]).flatten=(zaE sz).map g:=by
  generalize zaE sz=L
  induction L with
  |nil=>rfl
  |cons a l ih=>rw[zar,zaV,ih];rfl
 refine⟨D,(zaE sz).map fun j=>[g j],rfl,.of yD,by rw[ef,zai,zb8];lia,?_⟩;rw[ef];obtain⟨jC,W4⟩:∃jC:W,jC=(zaE sz).map g:=⟨_,rfl⟩
 rw[<- W4];have ls:jC.length=sz:=by rw[W4,zai,zb8]
 have ks:∀c∈jC,PM.isLetter c=true:=fun c hc=>by
  rw[W4] at hc;obtain⟨j,_,rfl⟩:=zaK.mp hc;exact(hg j).1
 clear W4 ef yD e2 hg;refine(zj _ _).mpr (aD fun U5 Fq=>?_);clear zj;walk_at "rd";intro F fF;have fF0:H F=none:=bX s2 fF;have s3:=s2.trans (ar.new fF (.lst []));have yb3:=ar.new fF (.lst []) _ _ W0;have yF:(upd H2 F (.lst [])) F=some (.lst []):=aj;have nbF:pb≠F:=fun z=>by rw[<- z,W0] at fF;cases fF
 generalize upd H2 F (.lst [])=H3 at *;refine(Fq _ _).mpr (aD fun U6 Fs=>?_);clear Fq;refine DN fun U hU=>?_;walk_at "rd";refine⟨_,rfl,by lia,by lia,hU _ _ ?_⟩;clear hU;rw[zb6];refine AK (lo:=0) (n:=m) (fun i σ Hx=>∃(ns:List W) (x8 x9 O6 VV:Option V),σ=[some (.int hd),some (.int k),some (.int m),some (.str LT),some (.ref pb),some (.int sz),some (sv jC),some (.ref F),x8,x9,O6,VV]/\Hx F=some (.lst (ns.map sv))/\Hx pb=some (.lst (PM.fq.map sv))/\ns.length=i/\Kl ns/\ar H Hx) ⟨[],none,none,none,none,rfl,yF,yb3,rfl,⟨(fun x hx=>by cases hx),.nil,by decide⟩,s3⟩ ?_ ?_
 ·rintro i σ Hx hi ⟨ns,x8,x9,O6,VV,rfl,yf,yp,li,hN,sx⟩
  obtain⟨Nx,Ko⟩:∃Nx:St->Hp->Prop,∀σ H',Nx σ H'↔∃(ns:List W) (x8 x9 O6 VV:Option V),σ=[some (.int hd),some (.int k),some (.int m),some (.str LT),some (.ref pb),some (.int sz),some (sv jC),some (.ref F),x8,x9,O6,VV]/\H' F=some (.lst (ns.map sv))/\H' pb=some (.lst (PM.fq.map sv))/\ns.length=i+1/\Kl ns/\ar H H':=⟨_,fun _ _=>Iff.rfl⟩
  simp only[<- Ko];rw[zdN];show Fv _ _ _ _ _;refine aD fun V1 QE=>?_;walk_at "rd";refine⟨hd,_,rfl,by lia,by lia,(QE _ _).mpr (aD fun V2 QF=>?_)⟩;clear QE;obtain⟨n0,_⟩:=iW hd ((k:Int)+9+i);generalize stir hd ((k:Int)+9+i)=num at *;walk_at "rd";refine⟨by lia,(QF _ _).mpr (aD fun V3 hV3=>?_)⟩;clear QF;have a0:=zbf num (show (sz:Int)≠0 by lia);have a1:=za2 num (show (0:Int)<(sz:Int) by lia);obtain⟨j,hj⟩:=zb2 a0;rw[hj] at a1 ⊢;walk_at "rd";obtain⟨c,hc,ac⟩:=vv (num/8);refine⟨_,rfl,S jC,rfl,by rw[cj];lia,?_⟩;rw[Ii (by lia)];refine⟨_,_,c,rfl,rfl,by lia,by rw[elt];exact ac,?_⟩;refine⟨S (jC.take j),⟨#[c]⟩,rfl,rfl,by rw[cj,za0];show _+1<=_;lia,_,rfl,S jC,rfl,by rw[cj];lia,?_⟩;rw[show ((j:Int)+1)=((j+1:Nat):Int) by lia,JG (by lia)];refine⟨_,S (jC.drop (j+1)),rfl,rfl,by rw[strLen_append,cj,cj,za0,za9];show _+1+_<=_;lia,?_⟩;have ew:V.str (S (jC.take j)++⟨#[c]⟩++S (jC.drop (j+1)))=sv (jC.take j++[c]++jC.drop (j+1)):=by
   show V.str (S (jC.take j)++S [c]++S (jC.drop (j+1)))=_;rw[iu,iu];rfl
  rw[ew];have k1:∀x∈jC.take j++[c]++jC.drop (j+1),PM.isLetter x=true:=fun x hx=>by
   rcases zaj.mp hx with h |h
   ·rcases zaj.mp h with h |h
    ·exact ks x (zcF h)
    ·rw[zad.mp h];exact hc
   ·exact ks x (zcE h)
  have l1:(jC.take j++[c]++jC.drop (j+1)).length=sz:=by
   rw[zaf,zaf,za0,za9,ls,zav];lia
  refine(hV3 _ _).mpr (aD fun V4 hV4=>?_);clear hV3;have next:∀wd:W,1<=wd.length->wd.length<=8->(∀x∈wd,PM.isLetter x=true)->V4 [some (.int hd),some (.int k),some (.int m),some (.str LT),some (.ref pb),some (.int sz),some (sv jC),some (.ref F),some (.int i),some (.int num),some (.int j),some (sv wd)] Hx:=by
   intro wd w1 w8 kw;refine(hV4 _ _).mpr (aD fun V5 hV5=>?_);clear hV4;have put:∀(w2:W) (H':Hp),PM.isName w2=true->w2 ∉ ns->ar Hx H'->V5 [some (.int hd),some (.int k),some (.int m),some (.str LT),some (.ref pb),some (.int sz),some (sv jC),some (.ref F),some (.int i),some (.int num),some (.int j),some (sv w2)] H':=by
    intro w2 H' n2 nn s';refine(hV5 _ _).mpr ?_;clear hV5;walk_at "rd";refine⟨.inl ⟨rfl,_,.of (s' _ _ yf)⟩,F,_,_,rfl,rfl,s' _ _ yf,by rw[zai];lia,(Ko _ _).mpr ⟨ns++[w2],_,_,_,_,rfl,by rw[aj,zaw];rfl,by rw[aq nbF];exact s' _ _ yp,by rw[zaf,li];rfl,⟨fun x hx=>?_,?_,by rw[zaf,zav];lia⟩,fun y u e=>by rw[aq (aB e fF0)];exact s' _ _ (sx _ _ e)⟩⟩
    ·rcases zaj.mp hx with h |h
     ·exact hN.ok x h
     ·rw[zad.mp h];exact n2
    ·refine zby.mpr ⟨hN.nd,by simp,fun x hx y hy e=>?_⟩;rw[zad.mp hy] at e;exact nn (e▸hx)
   have isn:¬wd∈PM.fq->PM.isName wd=true:=fun h=>by
    unfold PM.isName;simp only[zaD,decide_eq_true_eq,za1,Bool.not_eq_true',List.contains_eq_mem,decide_eq_false_iff_not];exact⟨⟨⟨w1,w8⟩,kw⟩,h⟩
   have fl:∀l:List W,(l.map sv).all sP=true:=fun l=>za1.mpr fun v hv=>by obtain⟨x,_,rfl⟩:=zaK.mp hv;rfl
   refine tE fun W1 W2 hW1 hW2=>?_;have zz:W1 [some (.int hd),some (.int k),some (.int m),some (.str LT),some (.ref pb),some (.int sz),some (sv jC),some (.ref F),some (.int i),some (.int num),some (.int j),some (sv wd)] Hx:=by
    refine(hW1 _ _).mpr ?_;clear hW1 hW2;walk_at "rd";simp only[oJ];walk_at "rd";refine⟨_,rfl,by decide,by decide,fun D1 h1=>?_⟩;refine DP (n:=9) (r:=[some (V.str LT)]) (fun n=>sv [122,122,97+n]) (by decide) (fun n hn ys R hR=>?_) ?_
    ·walk_at "rd";have at9:∀n:Nat,n<9->zU By (n:Int)=some (97+n):=by decide
     refine⟨_,_,97+n,rfl,rfl,by lia,by rw[elt];exact at9 n hn,_,_,rfl,rfl,?_,?_⟩
     ·have:(zab "zz").length=2:=by decide +kernel
      rw[this];show 2+1<=_;lia
     ·have ez:V.str (zab "zz"++⟨#[97+n]⟩)=sv [122,122,97+n]:=by
       rw[show zab "zz"=S [122,122] by decide +kernel];show V.str (S [122,122]++S [97+n])=_;rw[iu];rfl
      rw[ez];exact hR
    have ez:(zaE 9).map (fun n=>sv [122,122,97+n])=zo.map sv:=by decide +kernel
    rw[ez];have t1:=ar.new h1 (.lst (zo.map sv));have y1:(upd Hx D1 (.lst (zo.map sv))) D1=some (.lst (zo.map sv)):=aj;generalize upd Hx D1 (.lst (zo.map sv))=A1 at *;refine⟨D1,rfl,⟨_,.of y1⟩,fun D2 h2=>?_⟩;refine F3 (K:=K) (r:=[some (.ref F)]) (fun n=>decide (zo.getD n [] ∉ ns)) (fun n=>sv (zo.getD n [])) (.of y1) (by decide) h2 (fun n x hx A2 s2 R hR=>?_) (fun n x hx _ A2 s2 R hR=>?_) (fun A2 s2 y2=>?_)
    ·rw[zaz] at hx;obtain⟨u,hu,rfl⟩:=zaP.mp hx;walk_at "rd";refine⟨F,ns.map sv,rfl,.inl (.of (s2 _ _ (t1 _ _ yf))),rfl,fl ns,_,rfl,?_⟩;have eu:zo.getD n []=u:=by rw[zae,hu];rfl
     rw[if_pos rfl,in_words];have:=hR A2 (ar.refl _);rw[eu] at this;have e3:(!ns.contains u)=decide (u ∉ ns):=by by_cases h:u∈ns<;>simp[h]
     rw[e3];exact this
    ·rw[zaz] at hx;obtain⟨u,hu,rfl⟩:=zaP.mp hx;have eu:zo.getD n []=u:=by rw[zae,hu];rfl
     walk_at "rd";have:=hR A2 (ar.refl _);rw[eu] at this;exact this
    ·have l9:(zo.map sv).length=9:=rfl;rw[l9] at y2;have C6:=SI ns;obtain⟨v2,SH,a2⟩:∃v∈(((zaE 9).filter fun n=>decide (zo.getD n [] ∉ ns)).map fun n=>sv (zo.getD n [])),zU (((zaE 9).filter fun n=>decide (zo.getD n [] ∉ ns)).map fun n=>sv (zo.getD n [])) (num/832%2)=some v:=by
      have c0:=zbf (num/832) (show (2:Int)≠0 by decide);have c1:=za2 (num/832) (show (0:Int)<2 by decide);obtain⟨c,hc⟩:=zb2 c0;rw[hc] at c1 ⊢;have hl:c<(((zaE 9).filter fun n=>decide (zo.getD n [] ∉ ns)).map fun n=>sv (zo.getD n [])).length:=by
       rw[zai];have:=hN.C6;lia
      exact⟨_,zaI hl,aQ (zac hl)⟩
     obtain⟨n,hn,rfl⟩:=zaK.mp SH;obtain⟨hr9,hnn⟩:=zcy.mp hn;have zn:∀n<9,PM.isName (zo.getD n [])=true:=by decide
     refine bp (.of y2) a2 ?_;exact put _ A2 (zn n (zbh.mp hr9)) (of_decide_eq_true hnn) (t1.trans s2)
   have skip:¬wd∈ns->¬wd∈PM.fq->W2 [some (.int hd),some (.int k),some (.int m),some (.str LT),some (.ref pb),some (.int sz),some (sv jC),some (.ref F),some (.int i),some (.int num),some (.int j),some (sv wd)] Hx:=fun n1 n2=>(hW2 _ _).mpr (put wd Hx (isn n2) n1 (ar.refl _));walk_at "rd";refine⟨F,ns.map sv,rfl,.inl (.of yf),rfl,fl ns,_,rfl,?_⟩;rw[if_neg zan,in_words];refine bW (fun _=>?_) (fun c1=>?_)
   ·rw[if_pos trivial];exact zz
   ·refine⟨pb,PM.fq.map sv,rfl,.inl (.of yp),rfl,fl _,_,rfl,?_⟩;rw[if_neg zan,in_words];refine bW (fun _=>zz) (fun c2=>skip (fun h=>c1 (by simpa using h)) (fun h=>c2 (by simpa using h)))
  walk_at "rd";refine bW (fun _=>?_) (fun _=>next _ (by lia) (by lia) k1);refine⟨_,rfl,S jC,rfl,by rw[cj];lia,?_⟩;rw[show ((j:Int)+1)=((j+1:Nat):Int) by lia,Ii (by lia)];exact next (jC.take (j+1)) (by rw[za0];lia) (by rw[za0];lia) fun x hx=>ks x (zcF hx)
 ·rintro σ Hx ⟨ns,x8,x9,O6,VV,rfl,yf,yp,li,hN,sx⟩
  refine(Fs _ _).mpr ?_;clear Fs;walk_at "rd";exact q F ns Hx sx fF0 yf hN li
theorem Nl{ns:List W}(h:Kl ns)(n:Nat):Kl (ns.take n):=
 ⟨fun x hx=>h.ok x (zcF hx),h.nd.sublist (List.take_sublist _ _),by rw[za0];have:=h.C6;lia⟩
theorem VW(T:Tx K mg t):a8 P w K mg base gI 3 t.iH t.jk ["head"] (VA K):=by
 have bq:=nR (P:=P) (w:=w) (base:=base) T;have Cw:=SJ (P:=P) (w:=w) (base:=base) T;refine T.gk.F.rq qN (fun vs H Q E h=>?_) (fun dM A outer s H vs Q E hr h=>?_)
 ·obtain⟨_,rfl,_⟩:=h;rfl
 obtain⟨hd,rfl,q⟩:=h;have nd:=qN.nd;refine⟨_,[some (.int hd),none,none,none,none,none],(ag (aP (i:=1) nd rfl (zas rfl) (ip Hk (ax Cw (hr.mono (by first|decide|omega)) rfl T.gj.m T.gj.F.kp T.gj.b .nil bc (ae (pv 0) (ae ai (ae ai af ay) ay) ah)) jX (jY (aC b4 (ax bq (hr.mono (by first|decide|omega)) rfl T.aA.m T.aA.F.kp T.aA.b .nil bc (ae (pv 0) (ae ai af ay) ah)) ai))))
 (ag (aP (i:=2) nd rfl (zas rfl) (bb af))
 (ag (jI PassesOwn.never rfl (qi rfl T.qw (ae (bo bB rfl T.fY PyProof.Rows.Boot.«len» (ae (pv 1) af ah)) af cD)) (bh (i:=3) nd rfl (zas rfl))
 (ag (aP (i:=4) nd rfl (zas rfl) (ax bq (hr.mono (by first|decide|omega)) rfl T.aA.m T.aA.F.kp T.aA.b .nil bc (ae (pv 0) (ae (aC dU ai (pv 3)) af cz) ah)))
 (ag (aP (i:=5) nd rfl (zas rfl) (aO aW (bb (ae ai (ae ai (ae (aC dU ai (aC b4 (aC dA (pv 4) ai) ai)) (ae (aC dU ai (aC b4 (aC dA (pv 4) ai) ai)) af cz) cz) ay) ay)) (aC b4 (pv 4) ai) ki))
 (ao (ck (gZ zaB zaG zaH cg (pv 2) (ae (bQ (ae (aO aW (pv 1) (pv 3) BN) (ae (pv 5) (ae (aO aW (bb (ae ai (ae (aC uA (pv 5) ai) (ae (aC b4 (aC dA (pv 4) ai) (pv 5)) af cz) cz) ay)) (aC b4 (aC dA (pv 4) ai) ai) ki) af bg) ah) bg)) af e8)))))))
 (ao (aH (pv 2)))))),rfl,?_⟩
 have line:zd2=2 ^ 24:=rfl;refine aD fun U1 sj=>?_;walk_at "rd";refine .mk hd 400 4 rfl (by decide) (by decide) fun l0 ns0 H1 s1 _ y1 hN0 l4=>?_;refine⟨hd,500,rfl,by decide,by decide,?_⟩;walk_at "rd";have m5:=zbf (stir hd 500) (show (5:Int)≠0 by decide);refine⟨_,rfl,l0,_,rfl,.of y1,fun N fN=>?_⟩;rw[Mu _ m5,<- List.map_take];have hN:=Nl hN0 (stir hd 500%5).toNat;generalize ns0.take (stir hd 500%5).toNat=ns at *;have s2:=s1.trans (ar.new fN (.lst (ns.map sv)));have yN:(upd H1 N (.lst (ns.map sv))) N=some (.lst (ns.map sv)):=aj;generalize upd H1 N (.lst (ns.map sv))=H2 at *;refine(sj _ _).mpr (aD fun U2 qV=>?_);clear sj;walk_at "rd";intro B fB;have fB0:H B=none:=bX s2 fB;have nNB:N≠B:=fun z=>by rw[<- z,yN] at fB;cases fB
 have VX:rJ K H2 B (upd H2 B (.lst [])) [] []:=rJ.new fB;generalize upd H2 B (.lst [])=H3 at *;refine(qV _ _).mpr (aD fun U3 wc=>?_);clear qV;refine DN fun U hU=>?_;walk_at "rd";refine⟨N,_,rfl,.inl (.of (VX.s _ _ yN)),?_⟩;have l4':=hN.C6;rw[zai];refine⟨_,rfl,by lia,by lia,hU _ _ ?_⟩;clear hU;rw[zb6];refine AK (lo:=0) (n:=ns.length) (fun i σ Hx=>∃(us:List V) (bs:List (W×Int×Int)) (x3 x4 x5:Option V),σ=[some (.int hd),some (.ref N),some (.ref B),x3,x4,x5]/\rJ K H2 B Hx us (bs.map xg)/\(∀b∈bs,NI b)/\bs.map (·.1)=ns.take i) ⟨[],[],none,none,none,rfl,VX,(fun b hb=>by cases hb),rfl⟩ ?_ ?_
 ·rintro i σ Hx hi ⟨us,bs,x3,x4,x5,rfl,acc,hb,eb⟩
  obtain⟨Nx,Ko⟩:∃Nx:St->Hp->Prop,∀σ H',Nx σ H'↔∃(us:List V) (bs:List (W×Int×Int)) (x3 x4 x5:Option V),σ=[some (.int hd),some (.ref N),some (.ref B),x3,x4,x5]/\rJ K H2 B H' us (bs.map xg)/\(∀b∈bs,NI b)/\bs.map (·.1)=ns.take (i+1):=⟨_,fun _ _=>Iff.rfl⟩
  simp only[<- Ko];rw[zdN];show Fv _ _ _ _ _;refine aD fun V1 QE=>?_;walk_at "rd";refine⟨hd,_,rfl,by lia,by lia,(QE _ _).mpr (aD fun V2 QF=>?_)⟩;clear QE;obtain⟨n0,_⟩:=iW hd (520+(i:Int));generalize stir hd (520+(i:Int))=num at *;walk_at "rd";intro p1 f1;have m9:=zbf (num/4) (show (9:Int)≠0 by decide);have m9':=za2 (num/4) (show (0:Int)<9 by decide);obtain⟨v1,VQ,a1⟩:=nT (L:=[V.int 2,V.int 10,V.int (2+num/4%9),V.int (2+num/4%9)]) (n:=4) rfl (by decide) num;obtain⟨size,rfl,z1,z2⟩:∃i:Int,v1=V.int i/\2<=i/\i<=10:=by
   simp only[zak,zba,or_false] at VQ;rcases VQ with rfl |rfl |rfl |rfl<;>exact⟨_,rfl,by lia,by lia⟩
  refine bp (.of aj) a1 ?_;clear VQ a1;have SK:=acc.same (ar.new f1 (.lst [V.int 2,V.int 10,V.int (2+num/4%9),V.int (2+num/4%9)]));generalize upd Hx p1 (.lst [V.int 2,V.int 10,V.int (2+num/4%9),V.int (2+num/4%9)])=A1 at *;refine(QF _ _).mpr ?_;clear QF;walk_at "rd";have ny:=SK.s _ _ yN;have gi:(ns.map sv)[i]?=some (sv ns[i]):=by rw[zaz,zac hi];rfl
  refine⟨.inl ⟨rfl,_,.of SK.y⟩,bp (.of ny) (v:=sv ns[i]) (aQ gi) ⟨by lia,fun p2 f2=>?_⟩⟩;have m0:=zbf (num/64) (show size≠0 by lia);have m1:=za2 (num/64) (show 0<size by lia);obtain⟨v2,SH,a2⟩:=nT (L:=[V.int 0,V.int (size-1),V.int (num/64%size)]) (n:=3) rfl (by decide) (num/1000);obtain⟨fi,rfl,w1,w2⟩:∃i:Int,v2=V.int i/\0<=i/\i<size:=by
   simp only[zak,zba,or_false] at SH;rcases SH with rfl |rfl |rfl<;>exact⟨_,rfl,by lia,by lia⟩
  refine bp (.of aj) a2 fun p3 f3=>?_;clear SH a2;have VY:=SK.same (ar.new f2 (.lst [V.int 0,V.int (size-1),V.int (num/64%size)]));generalize upd A1 p2 (.lst [V.int 0,V.int (size-1),V.int (num/64%size)])=A2 at *;have SM:=VY.same (ar.new f3 (.tup [sv ns[i],V.int size,V.int fi]));have y3:(upd A2 p3 (.tup [sv ns[i],V.int size,V.int fi])) p3=some (.tup [sv ns[i],V.int size,V.int fi]):=aj;have n3:p3≠B:=(aB VY.y f3).symm;generalize upd A2 p3 (.tup [sv ns[i],V.int size,V.int fi])=A3 at *;have lb:bs.length=i:=by
   have:=congrArg zbG eb;rw[zai,za0] at this;lia
  refine⟨B,us,.ref p3,rfl,rfl,SM.y,by rw[SM.l,zai];lia,(Ko _ _).mpr ⟨us++[.ref p3],bs++[(ns[i],size,fi)],_,_,_,rfl,?_,fun b Ib=>?_,?_⟩⟩
  ·have:=SM.push fB (d:=xg (ns[i],size,fi)) (Fix.tup y3 n3 (.cons .str (.cons .int (.cons .int .nil))));rw[zaw];exact this
  ·rcases zaj.mp Ib with h |h
   ·exact hb b h
   ·rw[zad.mp h];exact⟨hN.ok _ (zaI hi),z1,z2,w1,w2⟩
  ·rw[zaw,eb,zds,zac hi];rfl
 ·rintro σ Hx ⟨us,bs,x3,x4,x5,rfl,acc,hb,eb⟩
  refine(wc _ _).mpr ?_;clear wc;walk_at "rd";rw[zbo] at eb;exact q B us bs Hx (s2.trans acc.s) fB0 acc.y (acc.f Hx bf.refl) hb (by rw[eb];exact hN)
theorem SN(T:Tx K mg t):a8 P w K mg base gI 9 t.kG t.lK ["cell", "k", "opened", "names"] (Qu K):=by
 have bq:=nR (P:=P) (w:=w) (base:=base) T;have Cy:=VS (P:=P) (w:=w) (base:=base) T;have Aj:=VU (P:=P) (w:=w) (base:=base) T;refine T.jf.F.rq v8 (fun vs H Q E h=>?_) (fun dM A outer s H vs Q E hr h=>?_)
 ·obtain⟨_,_,_,_,_,_,_,_,rfl,_⟩:=h;rfl
 obtain⟨cell,k,O,N,aE,us,c,m,rfl,hk,hm,op,yN,hN,q⟩:=h;have nd:=v8.nd;refine⟨_,[some (.int cell),some (.int k),some (.ref O),some (.ref N),none,none,none],(@ag _ _ _ _ _ (@aP _ _ 4 _ _ _ _ nd rfl (zas rfl) (@ax _ _ _ _ _ _ _ _ _ _ _ _ _ _ _ _ bq (hr.mono (by first|decide|omega)) rfl T.aA.m T.aA.F.kp T.aA.b .nil bc (@ae _ _ _ _ _ (pv 0) (@ae _ _ _ _ _ (@ai _ _ _ _) (@af _) (@ay _ _ _ _ _)) (@ah _ _ _ _)) (by first |rfl |exact .inl rfl |exact .inr rfl |decide |(intro _;rfl) |assumption) (by first |rfl |exact .inl rfl |exact .inr rfl |decide |(intro _;rfl) |assumption) (by first |rfl |exact .inl rfl |exact .inr rfl |decide |(intro _;rfl) |assumption)) (by first |rfl |exact .inl rfl |exact .inr rfl |decide |(intro _;rfl) |assumption) (by first |rfl |exact .inl rfl |exact .inr rfl |decide |(intro _;rfl) |assumption)) (@ag _ _ _ _ _ (@aX _ _ _ _ _ _ _ _ (@PW.pt _ _ _ (@pw_and _ _ _ _ _ _ _ (@az _ _ _ _ _ _ _ _ (@b7 _) (@aC _ _ _ _ _ _ _ _ (@b4 _) (pv 4) (@ai _ _ _ _)) (@ai _ _ _ _) (aN _)) (@pw_and1 _ _ _ _ (@az _ _ _ _ _ _ _ _ (@b7 _) (@aO _ _ _ _ _ _ _ (@aW _) (@aO _ _ _ _ _ _ _ (@aW _) (pv 2) (@sN _ _ _ _ _ _ mX (@ai _ _ _ _)) (@xK _ _ _)) (@ai _ _ _ _) (@aw _ _ _)) (@au _ _ _ _) (aN _))))) (@ag _ _ _ _ _ (@uz _ _ _ _ _ _ (@bb _ _ _ _ (@ae _ _ _ _ _ (@au _ _ _ _) (@ae _ _ _ _ _ (@aO _ _ _ _ _ _ _ (@aW _) (@aO _ _ _ _ _ _ _ (@aW _) (pv 2) (@sN _ _ _ _ _ _ mX (@ai _ _ _ _)) (@xK _ _ _)) (@ai _ _ _ _) (@aw _ _ _)) (@af _) (@bg _ _ _ _ _)) (@ay _ _ _ _ _))) (KC (pv 2) (@sN _ _ _ _ _ _ mX (@ai _ _ _ _)) set_list) (by first |rfl |exact .inl rfl |exact .inr rfl |decide |(intro _;rfl) |assumption) (by first |rfl |exact .inl rfl |exact .inr rfl |decide |(intro _;rfl) |assumption) (by first |rfl |exact .inl rfl |exact .inr rfl |decide |(intro _;rfl) |assumption)) (@ao _ _ _ (@aH _ _ _ _ (@au _ _ _ _)))) (@aF _)) (@ag _ _ _ _ _ (@aX _ _ _ _ _ _ _ _ (@PW.pt _ _ _ (@pw_and _ _ _ _ _ _ _ (@az _ _ _ _ _ _ _ _ (@b7 _) (@aC _ _ _ _ _ _ _ _ (@b4 _) (pv 4) (@ai _ _ _ _)) (@ai _ _ _ _) (aN _)) (@pw_and1 _ _ _ _ (@az _ _ _ _ _ _ _ _ (@AM _) (@bo _ _ _ _ _ _ _ _ _ (@bB _) rfl T.fY PyProof.Rows.Boot.«len» (@ae _ _ _ _ _ (pv 2) (@af _) (@ah _ _ _ _)) (by first |rfl |exact .inl rfl |exact .inr rfl |decide |(intro _;rfl) |assumption) (by first |rfl |exact .inl rfl |exact .inr rfl |decide |(intro _;rfl) |assumption) (by first |rfl |exact .inl rfl |exact .inr rfl |decide |(intro _;rfl) |assumption) (by first |rfl |exact .inl rfl |exact .inr rfl |decide |(intro _;rfl) |assumption)) (@ai _ _ _ _) (aN _))))) (@ag _ _ _ _ _ (@ck _ _ _ _ (@FO _ _ _ _ _ _ _ _ _ zaB zct zcu FQ (pv 2) (by first |rfl |exact .inl rfl |exact .inr rfl |decide |(intro _;rfl) |assumption) (by first |rfl |exact .inl rfl |exact .inr rfl |decide |(intro _;rfl) |assumption)) (by first |rfl |exact .inl rfl |exact .inr rfl |decide |(intro _;rfl) |assumption)) (@ao _ _ _ (@aH _ _ _ _ (@au _ _ _ _)))) (@aF _)) (@ag _ _ _ _ _ (@aX _ _ _ _ _ _ _ _ (@PW.pt _ _ _ (@pw_and _ _ _ _ _ _ _ (@az _ _ _ _ _ _ _ _ (@AM _) (@aC _ _ _ _ _ _ _ _ (@b4 _) (pv 4) (@ai _ _ _ _)) (@ai _ _ _ _) (aN _)) (@pw_and1 _ _ _ _ (@az _ _ _ _ _ _ _ _ (@AL _) (@bo _ _ _ _ _ _ _ _ _ (@bB _) rfl T.fY PyProof.Rows.Boot.«len» (@ae _ _ _ _ _ (pv 2) (@af _) (@ah _ _ _ _)) (by first |rfl |exact .inl rfl |exact .inr rfl |decide |(intro _;rfl) |assumption) (by first |rfl |exact .inl rfl |exact .inr rfl |decide |(intro _;rfl) |assumption) (by first |rfl |exact .inl rfl |exact .inr rfl |decide |(intro _;rfl) |assumption) (by first |rfl |exact .inl rfl |exact .inr rfl |decide |(intro _;rfl) |assumption)) (@ai _ _ _ _) (aN _))))) (@ag _ _ _ _ _ (@uz _ _ _ _ _ _ (@ax _ _ _ _ _ _ _ _ _ _ _ _ _ _ _ _ Aj (hr.mono (by first|decide|omega)) rfl T.eZ.m T.eZ.F.kp T.eZ.b .nil bc (@ae _ _ _ _ _ (pv 0) (@ae _ _ _ _ _ (pv 1) (@ae _ _ _ _ _ (pv 3) (@af _) (@ah _ _ _ _)) (@ah _ _ _ _)) (@ah _ _ _ _)) (by first |rfl |exact .inl rfl |exact .inr rfl |decide |(intro _;rfl) |assumption) (by first |rfl |exact .inl rfl |exact .inr rfl |decide |(intro _;rfl) |assumption) (by first |rfl |exact .inl rfl |exact .inr rfl |decide |(intro _;rfl) |assumption)) (@BR _ _ _ _ _ _ rfl (@cQ _ _ _ _ _ (@bh _ _ 5 _ nd rfl (zas rfl) (by first |rfl |exact .inl rfl |exact .inr rfl |decide |(intro _;rfl) |assumption)) (@cQ _ _ _ _ _ (@bh _ _ 6 _ nd rfl (zas rfl) (by first |rfl |exact .inl rfl |exact .inr rfl |decide |(intro _;rfl) |assumption)) (@mV _) (by first |rfl |exact .inl rfl |exact .inr rfl |decide |(intro _;rfl) |assumption)) (by first |rfl |exact .inl rfl |exact .inr rfl |decide |(intro _;rfl) |assumption)) (by first |rfl |exact .inl rfl |exact .inr rfl |decide |(intro _;rfl) |assumption) (by first |rfl |exact .inl rfl |exact .inr rfl |decide |(intro _;rfl) |assumption)) (by first |rfl |exact .inl rfl |exact .inr rfl |decide |(intro _;rfl) |assumption) (by first |rfl |exact .inl rfl |exact .inr rfl |decide |(intro _;rfl) |assumption) (by first |rfl |exact .inl rfl |exact .inr rfl |decide |(intro _;rfl) |assumption)) (@ag _ _ _ _ _ (@ck _ _ _ _ (@gZ _ _ _ _ _ _ _ _ _ _ _ _ zaB zaG zaH cg (@aO _ _ _ _ _ _ _ (@aW _) (@aO _ _ _ _ _ _ _ (@aW _) (pv 2) (@sN _ _ _ _ _ _ mX (@ai _ _ _ _)) (@xK _ _ _)) (@ai _ _ _ _) (@aw _ _ _)) (@ae _ _ _ _ _ (pv 6) (@af _) (@ah _ _ _ _)) (by first |rfl |exact .inl rfl |exact .inr rfl |decide |(intro _;rfl) |assumption) (by first |rfl |exact .inl rfl |exact .inr rfl |decide |(intro _;rfl) |assumption) (by first |rfl |exact .inl rfl |exact .inr rfl |decide |(intro _;rfl) |assumption) (by first |rfl |exact .inl rfl |exact .inr rfl |decide |(intro _;rfl) |assumption) (by first |rfl |exact .inl rfl |exact .inr rfl |decide |(intro _;rfl) |assumption)) (by first |rfl |exact .inl rfl |exact .inr rfl |decide |(intro _;rfl) |assumption)) (@ag _ _ _ _ _ (@ck _ _ _ _ (@gZ _ _ _ _ _ _ _ _ _ _ _ _ zaB zaG zaH cg (pv 2) (@ae _ _ _ _ _ (@aC _ _ _ _ _ _ _ _ (@xH _) (@bb _ _ _ _ (@ae _ _ _ _ _ (@aO _ _ _ _ _ _ _ (@bE _) (pv 6) (@ai _ _ _ _) (@aw _ _ _)) (@ae _ _ _ _ _ (@aO _ _ _ _ _ _ _ (@bE _) (pv 6) (@ai _ _ _ _) (@aw _ _ _)) (@af _) (@bg _ _ _ _ _)) (@bg _ _ _ _ _))) (@f9 _ _ _ _ _ _ _ _ _ BJ rfl T.GC PyProof.Rows.Boot.«list» (@ae _ _ _ _ _ (@ip _ _ _ _ _ _ _ _ _ _ BG (pv 6) (@jY _ _ _ (@ai _ _ _ _)) (@jX _)) (@af _) (@bg _ _ _ _ _)) (by first |rfl |exact .inl rfl |exact .inr rfl |decide |(intro _;rfl) |assumption) (by first |rfl |exact .inl rfl |exact .inr rfl |decide |(intro _;rfl) |assumption) (by first |rfl |exact .inl rfl |exact .inr rfl |decide |(intro _;rfl) |assumption) (by first |rfl |exact .inl rfl |exact .inr rfl |decide |(intro _;rfl) |assumption))) (@af _) (@cz _ _ _ _ _ _)) (by first |rfl |exact .inl rfl |exact .inr rfl |decide |(intro _;rfl) |assumption) (by first |rfl |exact .inl rfl |exact .inr rfl |decide |(intro _;rfl) |assumption) (by first |rfl |exact .inl rfl |exact .inr rfl |decide |(intro _;rfl) |assumption) (by first |rfl |exact .inl rfl |exact .inr rfl |decide |(intro _;rfl) |assumption) (by first |rfl |exact .inl rfl |exact .inr rfl |decide |(intro _;rfl) |assumption)) (by first |rfl |exact .inl rfl |exact .inr rfl |decide |(intro _;rfl) |assumption)) (@ao _ _ _ (@aH _ _ _ _ (pv 5)))))) (@aF _)) (@ag _ _ _ _ _ (@uz _ _ _ _ _ _ (@ax _ _ _ _ _ _ _ _ _ _ _ _ _ _ _ _ Cy (hr.mono (by first|decide|omega)) rfl T.gm.m T.gm.F.kp T.gm.b .nil bc (@ae _ _ _ _ _ (pv 0) (@ae _ _ _ _ _ (pv 1) (@ae _ _ _ _ _ (pv 3) (@af _) (@ah _ _ _ _)) (@ah _ _ _ _)) (@ah _ _ _ _)) (by first |rfl |exact .inl rfl |exact .inr rfl |decide |(intro _;rfl) |assumption) (by first |rfl |exact .inl rfl |exact .inr rfl |decide |(intro _;rfl) |assumption) (by first |rfl |exact .inl rfl |exact .inr rfl |decide |(intro _;rfl) |assumption)) (@BR _ _ _ _ _ _ rfl (@cQ _ _ _ _ _ (@bh _ _ 5 _ nd rfl (zas rfl) (by first |rfl |exact .inl rfl |exact .inr rfl |decide |(intro _;rfl) |assumption)) (@cQ _ _ _ _ _ (@bh _ _ 6 _ nd rfl (zas rfl) (by first |rfl |exact .inl rfl |exact .inr rfl |decide |(intro _;rfl) |assumption)) (@mV _) (by first |rfl |exact .inl rfl |exact .inr rfl |decide |(intro _;rfl) |assumption)) (by first |rfl |exact .inl rfl |exact .inr rfl |decide |(intro _;rfl) |assumption)) (by first |rfl |exact .inl rfl |exact .inr rfl |decide |(intro _;rfl) |assumption) (by first |rfl |exact .inl rfl |exact .inr rfl |decide |(intro _;rfl) |assumption)) (by first |rfl |exact .inl rfl |exact .inr rfl |decide |(intro _;rfl) |assumption) (by first |rfl |exact .inl rfl |exact .inr rfl |decide |(intro _;rfl) |assumption) (by first |rfl |exact .inl rfl |exact .inr rfl |decide |(intro _;rfl) |assumption)) (@ag _ _ _ _ _ (@ck _ _ _ _ (@gZ _ _ _ _ _ _ _ _ _ _ _ _ zaB zaG zaH cg (@aO _ _ _ _ _ _ _ (@aW _) (@aO _ _ _ _ _ _ _ (@aW _) (pv 2) (@sN _ _ _ _ _ _ mX (@ai _ _ _ _)) (@xK _ _ _)) (@ai _ _ _ _) (@aw _ _ _)) (@ae _ _ _ _ _ (pv 6) (@af _) (@ah _ _ _ _)) (by first |rfl |exact .inl rfl |exact .inr rfl |decide |(intro _;rfl) |assumption) (by first |rfl |exact .inl rfl |exact .inr rfl |decide |(intro _;rfl) |assumption) (by first |rfl |exact .inl rfl |exact .inr rfl |decide |(intro _;rfl) |assumption) (by first |rfl |exact .inl rfl |exact .inr rfl |decide |(intro _;rfl) |assumption) (by first |rfl |exact .inl rfl |exact .inr rfl |decide |(intro _;rfl) |assumption)) (by first |rfl |exact .inl rfl |exact .inr rfl |decide |(intro _;rfl) |assumption)) (@ao _ _ _ (@aH _ _ _ _ (pv 5))))))))),rfl,?_⟩;have line:zd2=2 ^ 24:=rfl;have l5:=op.l5;have lu:us.length=c.bP.length+1:=op.en.1;obtain⟨x,hx,hx1,TH⟩:=Sv c;obtain⟨ue,W5,e,kd,rfl,ye,ne,Y5⟩:=op.en.last hx;have eme:V.ref e∈us:=zcD W5;have aL:zU us (-1)=some (V.ref e):=by
  obtain⟨ys,e1⟩:=zbF.mp W5;rw[e1];exact xF _ _
 rw[hx1] at ye;obtain⟨e0,m0⟩:=op.Tw op.ok.top;obtain⟨bx,SO,lbx⟩:=op.sz _ m0;have Y6:∀e',V.ref e'∈us->e'≠O:=fun e' he=>by
  obtain⟨i,hi,ei⟩:=zbt he;have hl:i<((0,none)::c.bP:List (Nat×Option Nat)).length:=by rw[<- op.en.1];exact hi
  have h2:=op.en.2 i _ (V.ref e') (zac hl) (by rw[zac hi,ei]);exact op.VD h2
 have edf:c.df.iy.getLast?=some true↔x.2.isSome=true:=by
  show (c.bP.map fun p=>p.2.isSome).getLast?=some true↔_;rw[zc1,TH];cases c.bP.getLast? with
  |none=>simp
  |some p=>simp
 refine aD fun U1 sj=>?_;walk_at "rd";refine⟨cell,0,rfl,by decide,by decide,(sj _ _).mpr (aD fun U2 qV=>?_)⟩;clear sj;obtain⟨n0,_⟩:=iW cell 0;generalize stir cell 0=num at *;refine tE fun A1 A2 Y7 Y8=>?_;have RM:kd=PM.jV->A1 [some (.int cell),some (.int k),some (.ref O),some (.ref N),some (.int num),none,none] H:=by
  intro hif;refine(Y7 _ _).mpr ?_;clear Y7 Y8 qV;have hs:=Y5.mpr hif;have gl:c.df.iy.getLast?=some true:=edf.mpr hs;obtain⟨o,ho⟩:=zcg.mp hs;have hp:c.bP.getLast?=some (c.top,some o):=by
   unfold PM.Dc.top;rw[ho] at TH;cases e1:c.bP.getLast? with
   |none=>rw[e1] at TH;cases TH
   |some p=>
    rw[e1] at TH;obtain⟨a1,a2⟩:=p;have:a2=some o:=TH.symm;rw[this]
  rw[ho] at ye;have Tc:c.bP≠[]:=fun z=>by rw[z] at hp;cases hp
  have kl:=zcM.mpr Tc;walk_at "rd";refine⟨1,rfl,bp (.of op.yO) (v:=V.ref e) aL (bp (.of ye) (v:=V.ref (aE.getD o 0)) (aQ (j:=2) rfl) fun p fp=>?_)⟩;have uX:O≠p:=fun z=>by rw[<- z,op.yO] at fp;cases fp
  have s1:=ar.new fp (.lst [V.str (zab "else"),V.ref (aE.getD o 0)]);have y1:(upd H p (.lst [V.str (zab "else"),V.ref (aE.getD o 0)])) p=some (.lst [sv PM.cf,V.ref (aE.getD o 0)]):=by rw[aj,Bj];rfl
  generalize upd H p (.lst [V.str (zab "else"),V.ref (aE.getD o 0)])=H1 at *;have Kq:=op.same s1;refine⟨1,rfl,O,us, -1,us.length-1,rfl,rfl,Kq.yO,?_,?_⟩
  ·unfold K1;rw[if_neg (by decide),if_pos (by lia)]
   congr 1
   lia
  ·have es:us.set (us.length-1) (V.ref p)=us.dropLast++[V.ref p]:=by
    obtain⟨ys,e1⟩:=zbF.mp W5;rw[e1,List.dropLast_concat,zaf,zav,Nat.add_sub_cancel,zdr _ _ (zag _),zbY];rfl
   rw[es,Bj];have et:PM.dE c k (.one PM.cf)={c with bP:=c.bP.dropLast++[(o,none)]}:=by
    rw[nD,if_pos rfl,hp];rfl
   have tk:PM.gB c.df (.one PM.cf)=.ok {c.df with iy:=c.df.iy.dropLast++[false]}:=by
    show PM.mH c.df=_;unfold PM.mH;rw[if_pos gl]
   have cJ:=(PM.nC (k:=k) op.ok (show PM.Qc (.one PM.cf) from .inl rfl) tk).1;rw[et] at cJ;have npa:p ∉ aE:=fun z=>by obtain⟨u1,y2⟩:=op.ct.lists z;rw[fp] at y2;cases y2
   have Y9:sG (Km H1 aE) ((0,none)::(c.bP.dropLast++[(o,none)])) (us.dropLast++[V.ref p]):=by
    have e1:((0,none)::(c.bP.dropLast++[(o,none)]):List (Nat×Option Nat))=((0,none)::c.bP).dropLast++[(o,none)]:=by
     rw[zcR Tc];rfl
    rw[e1];exact Kq.en.drop.snoc ⟨p,PM.cf,rfl,y1,npa,by show (false=true)↔_;simp;decide⟩
   have mem:∀e',V.ref e'∈us.dropLast++[V.ref p]->V.ref e'∈us\/e'=p:=fun e' he=>by
    rcases zaj.mp he with z |z
    ·exact .inl (zbn _ z)
    ·exact .inr (V.ref.inj (zad.mp z))
   have Kr:=(Kq.jL cJ (by rw[zaf,zaO];show _+1<=5;lia) Y9 fun e' he=>(mem e' he).elim (Y6 e') fun z=>by rw[z];exact Ne.symm uX).more;refine q PM.cf (.one PM.cf) _ [] (us.dropLast++[V.ref p]) _ MT trivial (by rw[et]) tk ?_ (fun y u hO hZ hy=>by rw[aq hO];exact s1 _ _ hy) (fun z hz=>by cases hz) (fun e' he=>(mem e' he).imp id fun z=>by rw[z];exact fp);rw[zaC,et];exact Kr
 have go2:A2 [some (.int cell),some (.int k),some (.ref O),some (.ref N),some (.int num),none,none] H:=by
  refine(Y8 _ _).mpr ((qV _ _).mpr (aD fun U3 wc=>?_));clear Y7 Y8 qV;refine tE fun B1 B2 Za Zb=>?_;have Zc:c.bP≠[]->B1 [some (.int cell),some (.int k),some (.ref O),some (.ref N),some (.int num),none,none] H:=by
   intro Tc;refine(Za _ _).mpr ?_;clear Za Zb wc;walk_at "rd";refine⟨.inl ⟨rfl,_,.of op.yO⟩,O,us,V.ref e,rfl,rfl,op.yO,by rw[<- zaZ];exact W5,?_⟩;rw[MN];have et:PM.dE c k (.one PM.cA)={c with bP:=c.bP.dropLast}:=by
    rw[nD,if_neg (by decide),if_pos rfl]
   have hkn:c.df.iy≠[]:=fun z=>Tc (zcN.mp z);have tk:PM.gB c.df (.one PM.cA)=.ok {c.df with iy:=c.df.iy.dropLast}:=by
    show (if PM.cA=PM.cf then PM.mH c.df else if PM.cA=PM.cA then PM.uT c.df else PM.jN c.df (.one PM.cA))=_;rw[if_neg (by decide),if_pos rfl];unfold PM.uT;rw[if_neg hkn]
   have cJ:=(PM.nC (k:=k) op.ok (show PM.Qc (.one PM.cA) from .inr (.inl rfl)) tk).1;rw[et] at cJ;have Y9:sG (Km H aE) ((0,none)::c.bP.dropLast) us.dropLast:=by
    rw[<- zcR Tc];exact op.en.drop
   have Kr:=(op.jL cJ (by rw[zaO];lia) Y9 fun e' he=>Y6 e' (zbn _ he)).more;refine q PM.cA (.one PM.cA) _ [] us.dropLast _ OJ trivial (by rw[et]) tk ?_ (fun y u hO hZ hy=>by rw[aq hO];exact hy) (fun z hz=>by cases hz) (fun e' he=>.inl (zbn _ he));rw[zaC,et];exact Kr
  have go3:B2 [some (.int cell),some (.int k),some (.ref O),some (.ref N),some (.int num),none,none] H:=by
   refine(Zb _ _).mpr ((wc _ _).mpr (aD fun U4 zj=>?_));clear Za Zb wc;refine tE fun C1 C2 Zd Ze=>?_;have zP:c.bP.length<5->C1 [some (.int cell),some (.int k),some (.ref O),some (.ref N),some (.int num),none,none] H:=by
    intro l5';refine(Zd _ _).mpr ?_;clear Zd Ze zj;refine aD fun D1 SQ=>?_;walk_at "rd";refine .mk cell k N c.df.Ee rfl hk (.of yN) hN fun l w f u NK v1 v2 v3 v4 bs H1 s1 yl yu rhd YU hbs W6 rg sf fs fh ho=>?_;refine⟨l,_,rfl,.of yl,rfl,_,_,rfl,_,_,rfl,rfl,(SQ _ _).mpr (aD fun D2 O7=>?_)⟩;clear SQ;walk_at "rd";have Kq:=op.same s1;have QG:=s1 _ _ SO;have aL1:=aL;refine⟨1,rfl,bp (.of Kq.yO) (v:=V.ref e) aL (bp (.of (s1 _ _ ye)) (v:=V.ref (aE.getD c.top 0)) (aQ (j:=1) rfl) ⟨.inl ⟨rfl,_,.of QG⟩,_,bx,_,rfl,rfl,QG,by lia,(O7 _ _).mpr ?_⟩)⟩;clear O7;have SE:bs.length=PM.uX (PM.opens f):=by
     rw[ho];rcases W6 with ⟨z1,z2⟩ |⟨z1,z2⟩
     ·rw[z1,z2];rfl
     ·rw[z1,z2];rfl
    have fr:∀y∈bs,H y=none:=fun y hy=>(hbs y hy).1;have tk:=sf.take (d:=c.df) rfl (.inr (by show (c.bP.map _).length<5;rw[zai];exact l5'));have BB:=tk;rw[sf.tk] at BB;have wL:=(PM.pe (k:=k) op.ok fs BB).1;have sa1:ou K H1 (aE++bs) (PM.sH k c.aJ.length f) (.ref u):=by
     refine⟨u,[sv NK,v1,v2,v3,v4],rfl,?_,rhd _⟩;rw[Il fs k op.ct.ln.symm SE];exact .of yu
    have XM:∀e',V.ref e'∈us->∃xs,H e'=some (.lst xs):=fun e' he=>by
     obtain⟨i,hi,ei⟩:=zbt he;have hl:i<((0,none)::c.bP:List (Nat×Option Nat)).length:=by rw[<- op.en.1];exact hi
     obtain⟨e2,kd3,e3,y3,_⟩:=op.en.2 i _ (V.ref e') (zac hl) (by rw[zac hi,ei]);cases e3;exact⟨_,y3⟩
    have UB:∀y∈bs,H1 y=some (.lst [])/\y ∉ aE/\y≠O/\∀e',V.ref e'∈us->e'≠y:=fun y hy=>by
     refine⟨(hbs y hy).2,fun z=>?_,fun z=>?_,fun e' he z=>?_⟩
     ·obtain⟨u1,y1⟩:=op.ct.lists z;rw[fr y hy] at y1;cases y1
     ·have:=op.yO;rw[<- z,fr y hy] at this;cases this
     ·obtain⟨xs,y3⟩:=XM e' he;rw[z,fr y hy] at y3;cases y3
    have YV:({c with aJ:=PM.gx c.aJ c.top (PM.sH k c.aJ.length f)++zap bs.length []}:PM.Dc).Ok:=by
     rw[SE];exact⟨wL.ft,fun y hy=>wL.pl y (zbi _ hy),fun z=>wL.nb (fun q=>z (zdl.mp q).1)⟩
    have Kr:=Kq.wC QG sa1 UB YU YV;have nub:u≠aE.getD c.top 0:=fun z=>by rw[z,QG] at yu;cases yu
    have W7:(upd H1 (aE.getD c.top 0) (.lst (bx++[.ref u]))) u=some (.tup (sv NK::v1::v2::v3::v4::bs.map V.ref)):=by rw[aq nub];exact yu
    have kp2:∀y u',y ∉ aE->H y=some u'->(upd H1 (aE.getD c.top 0) (.lst (bx++[.ref u]))) y=some u':=fun y u' hy e1=>by rw[aq (show y≠aE.getD c.top 0 from fun z=>hy (by rw[z];exact m0))];exact s1 _ _ e1
    generalize upd H1 (aE.getD c.top 0) (.lst (bx++[.ref u]))=H2 at *;obtain⟨b1,bt,TJ⟩:∃b1 bt,bs=b1::bt:=by
     cases bs with
     |nil=>rcases W6 with ⟨_,z⟩ |⟨_,z⟩<;>cases z
     |cons b1 bt=>exact⟨b1,bt,rfl⟩
    have lbt:bt.length<=1:=by
     rcases W6 with ⟨_,z⟩ |⟨_,z⟩<;>rw[TJ,zah] at z<;>lia
    have eyu:(sv NK::v1::v2::v3::v4::bs.map V.ref)=sv NK::v1::v2::v3::v4::V.ref b1::bt.map V.ref:=by rw[TJ];rfl
    rw[eyu] at W7;walk_at "rd";refine⟨.inl ⟨rfl,_,.of Kr.yO⟩,a9 (.of W7) (v:=sv NK) (aQ (j:=0) rfl) (a9 (.of W7) (v:=V.ref b1) (aQ (j:=5) rfl) fun p fp=>?_)⟩;generalize g1:upd H2 p _=A1;have t1:=gL g1 fp;have z1:=Jn g1;clear g1;refine⟨6,rfl,u,_,rfl,.of (t1 _ _ W7),?_,fun p2 f2=>?_⟩
    ·rintro ⟨z,_⟩
     have:HT.fG (sv NK::v1::v2::v3::v4::V.ref b1::bt.map V.ref).length 0 (some ((6:Nat):Int))=0:=z;rw[HT.kW] at this;simp only[zah] at this;lia
    rw[show (some (6:Int))=some ((6:Nat):Int) from rfl,yk];show ∃p_1 ys,_;rw[show (sv NK::v1::v2::v3::v4::V.ref b1::bt.map V.ref).drop 6=bt.map V.ref from rfl];generalize g1:upd A1 p2 _=A2;have t2:=gT g1 f2;have z2:=Ti g1;clear g1;refine⟨p2,bt.map V.ref,rfl,.inr (.of z2),fun p3 f3=>?_⟩;generalize g1:upd A2 p3 _=A3;have t3:=gL g1 f3;have z3:=Jn g1;clear g1;refine⟨p,p3,_,_,rfl,rfl,t3 _ _ (t2 _ _ z1),z3,by rw[zai];show 2+bt.length<=_;lia,fun e' fe=>?_⟩;generalize g1:upd A3 e' _=A4;have t4:=gL g1 fe;have z4:=Jn g1;clear g1;have tt:=(t1.trans t2).trans (t3.trans t4);have Zf:=Kr.same tt;have W8:H2 e'=none:=bX ((t1.trans t2).trans t3) fe;refine⟨O,_,_,rfl,rfl,Zf.yO,by rw[lu];lia,?_⟩;have Sh:e' ∉ aE++bs:=fun z=>by
     obtain⟨u1,y1⟩:=Kr.ct.lists z;rw[W8] at y1;cases y1
    have VD:e'≠O:=fun z=>by rw[z,Kr.yO] at W8;cases W8
    have fe0:H e'=none:=by
     cases he:H e' with
     |none=>rfl
     |some u'=>exact absurd (kp2 _ _ (fun z=>Sh (zbi _ z)) he) (by rw[W8];intro z;cases z)
    have g0:(aE++bs).getD c.aJ.length 0=b1:=by rw[<- op.ct.ln,zae,zat (zag _),zbY,TJ];rfl
    obtain⟨x',WB,enx⟩:∃x',PM.Qh c.aJ.length (PM.opens f)=[x']/\Km A4 (aE++bs) x' (.ref e'):=by
     rcases W6 with ⟨q1,q2⟩ |⟨q1,q2⟩
     ·refine⟨(c.aJ.length,none),by rw[ho,q1];rfl,e',NK,rfl,?_,Sh,?_⟩
      ·have:bt=[]:=zaX.mp (by rw[TJ,zah] at q2;lia);rw[z4,this,g0];rfl
      ·rw[q1];show (false=true)↔_;simp;decide
     ·refine⟨(c.aJ.length,some (c.aJ.length+1)),by rw[ho,q1];rfl,e',NK,rfl,?_,Sh,?_⟩
      ·obtain⟨b2,eb2⟩:∃b2,bt=[b2]:=zdk.mp (by rw[TJ,zah] at q2;lia);have g1:(aE++bs).getD (c.aJ.length+1) 0=b2:=by rw[<- op.ct.ln,zae,zat (zbk _ _),zcm,TJ,eb2];rfl
       show A4 e'=some (.lst (sv NK::V.ref ((aE++bs).getD c.aJ.length 0)::[V.ref ((aE++bs).getD (c.aJ.length+1) 0)]));rw[z4,eb2,g0,g1];rfl
      ·rw[q1];show (true=true)↔_;simp
    have eC:PM.kq c k f={c with aJ:=PM.gx c.aJ c.top (PM.sH k c.aJ.length f)++zap bs.length [],bP:=c.bP++[x']}:=by rw[SE,<- WB];rfl
    have IW:=wL;rw[eC] at IW;have mem:∀e2,V.ref e2∈us++[V.ref e']->V.ref e2∈us\/e2=e':=fun e2 he=>by
     rcases zaj.mp he with z |z
     ·exact .inl z
     ·exact .inr (V.ref.inj (zad.mp z))
    have Zg:=Zf.jL (pl:=c.bP++[x']) (us':=us++[V.ref e']) IW (by rw[zaf,zav];lia) (Zf.en.snoc enx) fun e2 he=>(mem e2 he).elim (Y6 e2) fun z=>by rw[z];exact VD
    show Q (sv w) (upd A4 O (.lst (us++[V.ref e'])));refine q w f _ bs (us++[V.ref e']) _ rg fh (by rw[tJ fs];rfl) tk ?_ (fun y u' hO hZ hy=>by rw[aq hO];exact tt _ _ (kp2 _ _ hZ hy)) fr (fun e2 he=>(mem e2 he).imp id fun z=>by rw[z];exact fe0);rw[tJ fs,eC];exact Zg
   have pla:C2 [some (.int cell),some (.int k),some (.ref O),some (.ref N),some (.int num),none,none] H:=by
    refine(Ze _ _).mpr ((zj _ _).mpr (aD fun D1 SQ=>?_));clear Zd Ze zj;walk_at "rd";refine .mk cell k N c.df.Ee rfl hk (.of yN) hN fun l w f v H1 s1 yl rg sf fs fh ho sav=>?_;refine⟨l,_,rfl,.of yl,rfl,_,_,rfl,_,_,rfl,rfl,(SQ _ _).mpr (aD fun D2 O7=>?_)⟩;clear SQ;walk_at "rd";have Kq:=op.same s1;have QG:=s1 _ _ SO;refine⟨1,rfl,bp (.of Kq.yO) (v:=V.ref e) aL (bp (.of (s1 _ _ ye)) (v:=V.ref (aE.getD c.top 0)) (aQ (j:=1) rfl) ⟨.inl ⟨rfl,_,.of QG⟩,_,bx,_,rfl,rfl,QG,by lia,(O7 _ _).mpr ?_⟩)⟩;clear O7;walk_at "rd";have tk:=sf.take (d:=c.df) rfl (.inl ho);have BB:=tk;rw[sf.tk] at BB;have cJ:=(PM.pe (k:=k) op.ok fs BB).1;have et:PM.dE c k f=PM.kq c k f:=tJ fs;have eC:PM.kq c k f={c with aJ:=PM.gx c.aJ c.top (PM.sH k c.aJ.length f)++zap ([]:List zdU).length []}:=by
     unfold PM.kq;rw[ho];show (⟨c.nB,_,c.bP++[]⟩:PM.Dc)=_;rw[zaC];rfl
    rw[eC] at cJ;have Kr:=Kq.wC (bs:=[]) (s:=PM.sH k c.aJ.length f) (v:=v) QG (sav _ _) (fun y hy=>by cases hy) (by simp) cJ;refine q w f _ [] us _ rg fh (by rw[et];rfl) tk ?_ (fun y u hO hZ hy=>by rw[aq (show y≠aE.getD c.top 0 from fun z=>hZ (by rw[z];exact m0))];exact s1 _ _ hy) (fun z hz=>by cases hz) (fun e' he=>.inl he);rw[et,eC];exact Kr
   walk_at "rd";refine bW (fun _=>?_) (fun _=>?_)
   ·refine⟨O,_,rfl,.inl (.of op.yO),?_⟩;rw[lu];exact bW (fun l6=>zP (by lia)) (fun _=>pla)
   ·rw[if_neg zan];exact pla
  walk_at "rd";refine bW (fun _=>?_) (fun _=>?_)
  ·refine⟨O,_,rfl,.inl (.of op.yO),?_⟩;rw[lu];exact bW (fun l6=>Zc (fun z=>by rw[z] at l6;exact absurd l6 (by decide))) (fun _=>go3)
  ·rw[if_neg zan];exact go3
 walk_at "rd";refine bW (fun _=>?_) (fun _=>?_)
 ·refine⟨1,rfl,bp (.of op.yO) (v:=V.ref e) aL (bp (.of ye) (v:=sv kd) (aQ (j:=0) rfl) ⟨rfl,?_⟩)⟩;exact bW (fun z=>RM ((c7 MM).mp z)) (fun _=>go2)
 ·rw[if_neg zan];exact go2
theorem SR(T:Tx K mg t):a8 P w K mg base gI 10 t.iK t.jn ["script", "head"] (Qv K):=by
 have Cz:=VW (P:=P) (w:=w) (base:=base) T;have GN:=SN (P:=P) (w:=w) (base:=base) T;refine T.gn.F.rq qP (fun vs H Q E h=>?_) (fun dM A outer s H vs Q E hr h=>?_)
 ·obtain⟨_,_,_,rfl,_⟩:=h;rfl
 obtain⟨a,cs,hd,rfl,hS,lc,q⟩:=h;have nd:=qP.nd;refine⟨_,[some (.ref a),some (.int hd),none,none,none,none,none,none],(@ag _ _ _ _ _ (@aP _ _ 2 _ _ _ _ nd rfl (zas rfl) (@ax _ _ _ _ _ _ _ _ _ _ _ _ _ _ _ _ Cz (hr.mono (by first|decide|omega)) rfl T.gk.m T.gk.F.kp T.gk.b .nil bc (@ae _ _ _ _ _ (pv 1) (@af _) (@ah _ _ _ _)) (by first |rfl |exact .inl rfl |exact .inr rfl |decide |(intro _;rfl) |assumption) (by first |rfl |exact .inl rfl |exact .inr rfl |decide |(intro _;rfl) |assumption) (by first |rfl |exact .inl rfl |exact .inr rfl |decide |(intro _;rfl) |assumption)) (by first |rfl |exact .inl rfl |exact .inr rfl |decide |(intro _;rfl) |assumption) (by first |rfl |exact .inl rfl |exact .inr rfl |decide |(intro _;rfl) |assumption)) (@ag _ _ _ _ _ (@wZ _ _ _ _ _ _ _ (["name", "size", "first"]) [] _ _ _ _ 3 _ _ _ nd rfl (zas rfl) rfl (by rfl) (by rfl) (@fj _ _ _ _ (pv 2)) (fun _ _ _ _=>(ON (K:=K) rfl 3 rfl (@cQ _ _ _ _ _ (@bh _ _ 0 _ (by show List.Nodup (["name", "size", "first"]:List Str);decide +kernel) rfl (zas rfl) (by first |rfl |exact .inl rfl |exact .inr rfl |decide |(intro _;rfl) |assumption)) (@cQ _ _ _ _ _ (@bh _ _ 1 _ (by show List.Nodup (["name", "size", "first"]:List Str);decide +kernel) rfl (zas rfl) (by first |rfl |exact .inl rfl |exact .inr rfl |decide |(intro _;rfl) |assumption)) (@cQ _ _ _ _ _ (@bh _ _ 2 _ (by show List.Nodup (["name", "size", "first"]:List Str);decide +kernel) rfl (zas rfl) (by first |rfl |exact .inl rfl |exact .inr rfl |decide |(intro _;rfl) |assumption)) (@mV _) (by first |rfl |exact .inl rfl |exact .inr rfl |decide |(intro _;rfl) |assumption)) (by first |rfl |exact .inl rfl |exact .inr rfl |decide |(intro _;rfl) |assumption)) (by first |rfl |exact .inl rfl |exact .inr rfl |decide |(intro _;rfl) |assumption)))) (fun _ _ _ _=>(@j4 _)) (fun _ _ _ _=>(MP (K:=K) rfl zbP zcv zcw (El (K:=K) rfl) (@au _ _ _ _) (@ae _ _ _ _ _ (@bb _ _ _ _ (@ae _ _ _ _ _ (@au _ _ _ _) (@ae _ _ _ _ _ (pv 0) (@ae _ _ _ _ _ (@f9 _ _ _ _ _ _ _ _ _ m6 rfl T.EI PyProof.Rows.Boot.«str» (@ae _ _ _ _ _ (pv 1) (@af _) (@ah _ _ _ _)) (by first |rfl |exact .inl rfl |exact .inr rfl |decide |(intro _;rfl) |assumption) (by first |rfl |exact .inl rfl |exact .inr rfl |decide |(intro _;rfl) |assumption) (by first |rfl |exact .inl rfl |exact .inr rfl |decide |(intro _;rfl) |assumption) (by first |rfl |exact .inl rfl |exact .inr rfl |decide |(intro _;rfl) |assumption)) (@ae _ _ _ _ _ (@f9 _ _ _ _ _ _ _ _ _ m6 rfl T.EI PyProof.Rows.Boot.«str» (@ae _ _ _ _ _ (pv 2) (@af _) (@ah _ _ _ _)) (by first |rfl |exact .inl rfl |exact .inr rfl |decide |(intro _;rfl) |assumption) (by first |rfl |exact .inl rfl |exact .inr rfl |decide |(intro _;rfl) |assumption) (by first |rfl |exact .inl rfl |exact .inr rfl |decide |(intro _;rfl) |assumption) (by first |rfl |exact .inl rfl |exact .inr rfl |decide |(intro _;rfl) |assumption)) (@af _) (@cD _ _ _ _ _ _)) (@cD _ _ _ _ _ _)) (@ah _ _ _ _)) (@ay _ _ _ _ _))) (@af _) (@oK _ _ _ _)))) (by first |rfl |exact .inl rfl |exact .inr rfl |decide |(intro _;rfl) |assumption) (by first |rfl |exact .inl rfl |exact .inr rfl |decide |(intro _;rfl) |assumption) (by first |rfl |exact .inl rfl |exact .inr rfl |decide |(intro _;rfl) |assumption)) (@ag _ _ _ _ _ (@aP _ _ 4 _ _ _ _ nd rfl (zas rfl) (@bb _ _ _ _ (@af _)) (by first |rfl |exact .inl rfl |exact .inr rfl |decide |(intro _;rfl) |assumption) (by first |rfl |exact .inl rfl |exact .inr rfl |decide |(intro _;rfl) |assumption)) (@ag _ _ _ _ _ (@aP _ _ 5 _ _ _ _ nd rfl (zas rfl) (@bb _ _ _ _ (@ae _ _ _ _ _ (@bb _ _ _ _ (@ae _ _ _ _ _ (@au _ _ _ _) (@ae _ _ _ _ _ (pv 4) (@af _) (@ah _ _ _ _)) (@ay _ _ _ _ _))) (@af _) (@oK _ _ _ _))) (by first |rfl |exact .inl rfl |exact .inr rfl |decide |(intro _;rfl) |assumption) (by first |rfl |exact .inl rfl |exact .inr rfl |decide |(intro _;rfl) |assumption)) (@ag _ _ _ _ _ (@wZ _ _ _ _ _ _ _ ["box"] [] _ _ _ _ 6 _ _ _ nd rfl (zas rfl) rfl (by rfl) (by rfl) (@fj _ _ _ _ (pv 2)) (fun _ _ _ _=>(@bh _ _ 0 _ (by show List.Nodup (["box"]:List Str);decide +kernel) rfl (zas rfl) (by first |rfl |exact .inl rfl |exact .inr rfl |decide |(intro _;rfl) |assumption))) (fun _ _ _ _=>(@j4 _)) (fun _ _ _ _=>(@aO _ _ _ _ _ _ _ (@HR _ K rfl) (pv 0) (@ai _ _ _ _) (@aw _ _ _))) (by first |rfl |exact .inl rfl |exact .inr rfl |decide |(intro _;rfl) |assumption) (by first |rfl |exact .inl rfl |exact .inr rfl |decide |(intro _;rfl) |assumption) (by first |rfl |exact .inl rfl |exact .inr rfl |decide |(intro _;rfl) |assumption)) (@ag _ _ _ _ _ (@jI _ _ _ _ _ _ _ _ PassesOwn.never rfl (@fj _ _ _ _ (@ip _ _ _ _ _ _ _ _ _ _ (@Hk _) (pv 0) (@jX _) (@jY _ _ _ (@ai _ _ _ _)))) (@bh _ _ 7 _ nd rfl (zas rfl) (by first |rfl |exact .inl rfl |exact .inr rfl |decide |(intro _;rfl) |assumption)) (@ao _ _ _ (@ck _ _ _ _ (@gZ _ _ _ _ _ _ _ _ _ _ _ _ zaB zaG zaH cg (pv 3) (@ae _ _ _ _ _ (@ax _ _ _ _ _ _ _ _ _ _ _ _ _ _ _ _ GN (hr.mono (by first|decide|omega)) rfl T.jf.m T.jf.F.kp T.jf.b .nil bc (@ae _ _ _ _ _ (pv 7) (@ae _ _ _ _ _ (@aC _ _ _ _ _ _ _ _ (@dU _) (@bo _ _ _ _ _ _ _ _ _ (@bB _) rfl T.fY PyProof.Rows.Boot.«len» (@ae _ _ _ _ _ (pv 3) (@af _) (@ah _ _ _ _)) (by first |rfl |exact .inl rfl |exact .inr rfl |decide |(intro _;rfl) |assumption) (by first |rfl |exact .inl rfl |exact .inr rfl |decide |(intro _;rfl) |assumption) (by first |rfl |exact .inl rfl |exact .inr rfl |decide |(intro _;rfl) |assumption) (by first |rfl |exact .inl rfl |exact .inr rfl |decide |(intro _;rfl) |assumption)) (@ai _ _ _ _)) (@ae _ _ _ _ _ (pv 5) (@ae _ _ _ _ _ (pv 6) (@af _) (@ah _ _ _ _)) (@ah _ _ _ _)) (@cz _ _ _ _ _ _)) (@ah _ _ _ _)) (by first |rfl |exact .inl rfl |exact .inr rfl |decide |(intro _;rfl) |assumption) (by first |rfl |exact .inl rfl |exact .inr rfl |decide |(intro _;rfl) |assumption) (by first |rfl |exact .inl rfl |exact .inr rfl |decide |(intro _;rfl) |assumption)) (@af _) (@cD _ _ _ _ _ _)) (by first |rfl |exact .inl rfl |exact .inr rfl |decide |(intro _;rfl) |assumption) (by first |rfl |exact .inl rfl |exact .inr rfl |decide |(intro _;rfl) |assumption) (by first |rfl |exact .inl rfl |exact .inr rfl |decide |(intro _;rfl) |assumption) (by first |rfl |exact .inl rfl |exact .inr rfl |decide |(intro _;rfl) |assumption) (by first |rfl |exact .inl rfl |exact .inr rfl |decide |(intro _;rfl) |assumption)) (by first |rfl |exact .inl rfl |exact .inr rfl |decide |(intro _;rfl) |assumption))) (by first |rfl |exact .inl rfl |exact .inr rfl |decide |(intro _;rfl) |assumption)) (@ag _ _ _ _ _ (@aX _ _ _ _ _ _ _ _ (@az _ _ _ _ _ _ _ _ (@Jf _ (Hm hr)) (pv 3) (@bb _ _ _ _ (@af _)) (aN _)) (@ag _ _ _ _ _ (@ck _ _ _ _ (@gZ _ _ _ _ _ _ _ _ _ _ _ _ zaB zaG zaH cg (pv 3) (@ae _ _ _ _ _ (@au _ _ _ _) (@af _) (@ay _ _ _ _ _)) (by first |rfl |exact .inl rfl |exact .inr rfl |decide |(intro _;rfl) |assumption) (by first |rfl |exact .inl rfl |exact .inr rfl |decide |(intro _;rfl) |assumption) (by first |rfl |exact .inl rfl |exact .inr rfl |decide |(intro _;rfl) |assumption) (by first |rfl |exact .inl rfl |exact .inr rfl |decide |(intro _;rfl) |assumption) (by first |rfl |exact .inl rfl |exact .inr rfl |decide |(intro _;rfl) |assumption)) (by first |rfl |exact .inl rfl |exact .inr rfl |decide |(intro _;rfl) |assumption)) (@ao _ _ _ (@ck _ _ _ _ (@gZ _ _ _ _ _ _ _ _ _ _ _ _ zaB zaG zaH cg (pv 4) (@ae _ _ _ _ _ (@bQ _ _ _ _ _ (@cY _ _ ([.str "stop",.int 1]) (by kernel_rfl))) (@af _) (@e8 _ _ _ _ _)) (by first |rfl |exact .inl rfl |exact .inr rfl |decide |(intro _;rfl) |assumption) (by first |rfl |exact .inl rfl |exact .inr rfl |decide |(intro _;rfl) |assumption) (by first |rfl |exact .inl rfl |exact .inr rfl |decide |(intro _;rfl) |assumption) (by first |rfl |exact .inl rfl |exact .inr rfl |decide |(intro _;rfl) |assumption) (by first |rfl |exact .inl rfl |exact .inr rfl |decide |(intro _;rfl) |assumption)) (by first |rfl |exact .inl rfl |exact .inr rfl |decide |(intro _;rfl) |assumption)))) (@aF _)) (@ag _ _ _ _ _ (@aP _ _ 3 _ _ _ _ nd rfl (zas rfl) (@aC _ _ _ _ _ _ _ _ (@xH _) (pv 3) (@aC _ _ _ _ _ _ _ _ (@Rm _) (@bb _ _ _ _ (@ae _ _ _ _ _ (@au _ _ _ _) (@af _) (@ay _ _ _ _ _))) (@aC _ _ _ _ _ _ _ _ (@uA _) (@bo _ _ _ _ _ _ _ _ _ (@bB _) rfl T.fY PyProof.Rows.Boot.«len» (@ae _ _ _ _ _ (pv 5) (@af _) (@ah _ _ _ _)) (by first |rfl |exact .inl rfl |exact .inr rfl |decide |(intro _;rfl) |assumption) (by first |rfl |exact .inl rfl |exact .inr rfl |decide |(intro _;rfl) |assumption) (by first |rfl |exact .inl rfl |exact .inr rfl |decide |(intro _;rfl) |assumption) (by first |rfl |exact .inl rfl |exact .inr rfl |decide |(intro _;rfl) |assumption)) (@ai _ _ _ _)))) (by first |rfl |exact .inl rfl |exact .inr rfl |decide |(intro _;rfl) |assumption) (by first |rfl |exact .inl rfl |exact .inr rfl |decide |(intro _;rfl) |assumption)) (@ao _ _ _ (@aH _ _ _ _ (@bb _ _ _ _ (@ae _ _ _ _ _ (pv 3) (@ae _ _ _ _ _ (@bQ _ _ _ _ _ (@ae _ _ _ _ _ (pv 2) (@ae _ _ _ _ _ (pv 4) (@af _) (@ah _ _ _ _)) (@ah _ _ _ _))) (@af _) (@e8 _ _ _ _ _)) (@ah _ _ _ _))))))))))))),rfl,?_⟩;have line:zd2=2 ^ 24:=rfl;refine aD fun U1 sj=>?_;walk_at "rd";refine .mk hd rfl fun Bl us bs H1 s1 _ yB rb hb hN=>(sj _ _).mpr (aD fun U2 qV=>?_);clear sj;have lb4:bs.length<=4:=by have:=hN.C6;rwa [zai] at this
 have R6:us.length=bs.length:=by rw[mK rb,zai]
 walk_at "rd";simp only[oJ];walk_at "rd";refine⟨⟨_,.of yB⟩,fun R fR=>?_⟩;refine Jq (K:=K) (fun τ=>∃x y z,τ=[x,y,z]) (fun i ys H2=>ys=((bs.take i).map Eo).map sv) (.of yB) (by lia) fR ⟨none,none,none,rfl⟩ rfl ?_ ?_
 ·rintro i x ys τ H2 hx ⟨z1,z2,z3,rfl⟩ s2 yR ly rfl RR JS
  obtain⟨b,ba,Qb,rfl,sb⟩:=B5 rb hx;walk_at "rd";have hB:=hb b (zal Qb);have h1:=hB.lo;have h2:=hB.hi;have h3:=hB.f0;have h4:=hB.f1;refine⟨ba,_,rfl,s2.dQ sb,rfl,_,_,rfl,_,_,rfl,_,_,rfl,rfl,rfl,.inl ⟨_,rfl,Qg (by lia) (by lia),.inl ⟨_,rfl,Qg h3 (by lia),fun p fp=>?_⟩⟩⟩;have ew:([V.str (zab "box"),sv b.1,V.str (zab (toString b.2.1)),V.str (zab (toString b.2.2))]:List V)=[PM.nj,b.1,PM.dig b.2.1.toNat,PM.dig b.2.2.toNat].map sv:=by
   rw[HH _ (by lia),HH _ h3,uU];rfl
  rw[ew];have lg:=(xh hB).2.1;refine⟨p,_,32,by rw[show zab " "=S [32] by decide +kernel];rfl,rfl,.of aj,?_,JS _ _ _ ⟨_,_,_,rfl⟩ (ar.new fp _) ?_⟩
  ·obtain⟨a1,_⟩:=PM.oP b.2.1.toNat (by lia);obtain⟨b1,_⟩:=PM.oP b.2.2.toNat (by lia);have:=PM.o7 hB.nm;have:=PM.nv a1;have:=PM.nv b1;simp[PM.nj];lia
  ·have:bs.take (i+1)=bs.take i++[b]:=by rw[zds,Qb];rfl
   rw[this,zaw,zaw];rfl
 intro ys H2 s2 yR ly Zh;rw[R6,zbo] at Zh;rw[Zh] at yR;clear Zh ly;have fR0:H R=none:=bX s1 fR;have W9:=s2 _ _ yB;have nBR:Bl≠R:=fun z=>by rw[<- z,yB] at fR;cases fR
 have rb2:aG K H2 (bs.map xg) us:=rb.mono s2;have VZ:=s1.trans s2;clear s2 rb yB;refine(qV _ _).mpr (aD fun U3 wc=>?_);clear qV;walk_at "rd";intro Bd TK;have V0:H Bd=none:=bX VZ TK;have s3:=ar.new TK (.lst []);have Xa:(upd H2 Bd (.lst [])) Bd=some (.lst []):=aj;generalize upd H2 Bd (.lst [])=H3 at *;refine(wc _ _).mpr (aD fun U4 zj=>?_);clear wc;walk_at "rd";intro E0 fE;have fE0:H E0=none:=bX (VZ.trans s3) fE;have s4:=ar.new fE (.lst [V.str (zab "all"),V.ref Bd]);have yE:(upd H3 E0 (.lst [V.str (zab "all"),V.ref Bd])) E0=some (.lst [V.str (zab "all"),V.ref Bd]):=aj;have nEB:E0≠Bd:=fun z=>by rw[z,Xa] at fE;cases fE
 have nER:E0≠R:=fun z=>by rw[z,s3 _ _ yR] at fE;cases fE
 generalize upd H3 E0 (.lst [V.str (zab "all"),V.ref Bd])=H4 at *;intro O fO;have fO0:H O=none:=bX ((VZ.trans s3).trans s4) fO;have s5:=ar.new fO (.lst [V.ref E0]);have yO:(upd H4 O (.lst [V.ref E0])) O=some (.lst [V.ref E0]):=aj;have nOB:O≠Bd:=fun z=>by rw[z,s4 _ _ Xa] at fO;cases fO
 have Zi:O≠R:=fun z=>by rw[z,s4 _ _ (s3 _ _ yR)] at fO;cases fO
 have nOE:O≠E0:=fun z=>by rw[z,yE] at fO;cases fO
 have Zj:O≠Bl:=fun z=>by rw[z,s4 _ _ (s3 _ _ W9)] at fO;cases fO
 have QH:Bd≠Bl:=fun z=>by rw[z,W9] at TK;cases TK
 generalize upd H4 O (.lst [V.ref E0])=H5 at *;have O8:Bd≠R:=fun z=>by rw[z,yR] at TK;cases TK
 have SS:=s5 _ _ (s4 _ _ Xa);have Zk:=s5 _ _ yE;have Zl:=s5 _ _ (s4 _ _ (s3 _ _ yR));have Xb:=s5 _ _ (s4 _ _ (s3 _ _ W9));have Zm:=rb2.mono ((s3.trans s4).trans s5);have Xc:=VZ.trans ((s3.trans s4).trans s5);clear s3 s4 s5 Xa yE yR W9 rb2 VZ;refine(zj _ _).mpr (aD fun U5 Fq=>?_);clear zj;walk_at "rd";simp only[oJ];walk_at "rd";refine⟨⟨_,.of Xb⟩,fun N fN=>?_⟩;refine mE (K:=K) (r:=[]) (fun i=>sv ((bs.map (·.1)).getD i [])) (.of Xb) (by lia) fN (fun i x Hc hx sc RR JS=>?_) (fun H6 s6 yN=>?_)
 ·obtain⟨b,ba,Qb,rfl,sb⟩:=B5 Zm hx;walk_at "rd";refine a9 (sc.dQ sb) (v:=sv b.1) (aQ (j:=0) rfl) ?_;have:(bs.map (·.1)).getD i []=b.1:=by rw[zae,zaz,Qb];rfl
  rw[this] at JS;exact JS
 have ew:(zaE us.length).map (fun i=>sv ((bs.map (·.1)).getD i []))=(bs.map (·.1)).map sv:=by
  refine zcr (by simp[R6]) fun i h1 h2=>?_;rw[zbw,zck,zbw,zae,zac (by simpa using h2)];rfl
 rw[ew] at yN;have nNO:N≠O:=fun z=>by rw[z,yO] at fN;cases fN
 have nNB:N≠Bd:=fun z=>by rw[z,SS] at fN;cases fN
 have nNR:N≠R:=fun z=>by rw[z,Zl] at fN;cases fN
 have nNE:N≠E0:=fun z=>by rw[z,Zk] at fN;cases fN
 have Zn:=s6 _ _ yO;have SU:=s6 _ _ SS;have yE6:=s6 _ _ Zk;have Zo:=s6 _ _ Zl;have Zp:=Xc.trans s6;have yB6:=s6 _ _ Xb;have rb6:=Zm.mono s6;clear s6 fN Xb Zm SS Zk Zl yO Xc ew;refine(Fq _ _).mpr (aD fun U6 Fs=>?_);clear Fq;refine oS fun U hU=>?_;walk_at "rd";refine⟨63,rfl,a,_,rfl,Zp.seq hS,fun p fp=>?_⟩;obtain⟨ms,em,lm⟩:∃ms:List Int,xE (cs.map V.int) none (some 63)=ms.map V.int/\ms.length<=63:=by
  rw[Mu _ (by decide),<- List.map_take];exact⟨_,rfl,by rw[za0];exact zaA (Nat.min_le_left _ _) (by decide)⟩
 rw[em];have s7:=ar.new fp (.lst (ms.map V.int));have yp:(upd H6 p (.lst (ms.map V.int))) p=some (.lst (ms.map V.int)):=aj;have npO:p≠O:=fun z=>by rw[z,Zn] at fp;cases fp
 have npB:p≠Bd:=fun z=>by rw[z,SU] at fp;cases fp
 have npR:p≠R:=fun z=>by rw[z,Zo] at fp;cases fp
 have yO7:=s7 _ _ Zn;have SV:=s7 _ _ SU;have yE7:=s7 _ _ yE6;have SW:=s7 _ _ Zo;have yN7:=s7 _ _ yN;have yB7:=s7 _ _ yB6;have rb7:=rb6.mono s7;have sH7:=Zp.trans s7;generalize upd H6 p (.lst (ms.map V.int))=H7 at *;clear s7 Zn SU yE6 Zo yN Zp fp;have ndn:(bs.map (·.1)).Nodup:=hN.nd;have rr0:=yA bs [] hb (by rw[za5];exact ndn) (by rw[za5];exact hN.C6);rw[za5] at rr0;have Zq:zab "all"=S VC:=by decide +kernel
 have op0:xi K H7 O [Bd] [V.ref E0] ⟨bs,[[]],[]⟩ 0:=by
  refine⟨PM.Ez bs,yO7,⟨rfl,fun i x u h1 h2=>?_⟩,⟨rfl,by simp,fun i z ss e1 e2=>?_⟩,by simpa using nOB,zaJ _,fun z hz=>by rw[zad.mp hz];exact⟨[],SV,zag _⟩⟩
  ·have m1:=zad.mp (zal h1);have m2:=zad.mp (zal h2);rw[m1,m2];exact⟨E0,VC,rfl,by rw[yE7,Zq];rfl,by simpa using nEB,by show (false=true)↔_;simp;decide⟩
  ·rw[zad.mp (zal e1),zad.mp (zal e2)];exact⟨[],SV,sG.nil⟩
 have okb:∀r∈bs.map Eo,r.length<=200/\10 ∉ r:=fun r hr=>by
  obtain⟨b,hb1,rfl⟩:=zaK.mp hr;exact(xh (hb b hb1)).2
 have rcb:PM.dq PM.c0 1 (bs.map Eo)=⟨bs,[[]],[]⟩:=by
  have:=PM.vT bs [] 1 hb;rw[za5] at this;exact this
 have i0:BlC K H7 H7 R N O Bd E0 [Bd] [V.ref E0] ⟨bs,[[]],[]⟩ (bs.map Eo) bs 0:=
  {op:=op0,yR:=SW,yN:=yN7,rr:=rr0,rc:=rcb,lv:=⟨[0],PM.VI bs⟩,bx:=rfl,lw:=zai _,ok:=okb,zf:=fun z hz=>.inl (zad.mp hz),pf:=fun x hx=>.inl (V.ref.inj (zad.mp hx)),kp:=fun y u _ _ _ e=>e,bz:=rfl}
 refine⟨p,rfl,⟨_,.of yp⟩,hU _ _ (mn (K:=K) (a:=p) (xs:=ms.map V.int) (fun i σ Hx=>∃(aE:List zdU) (us:List V) (c:PM.Dc) (ws:List W) (x7:Option V),σ=[some (.ref a),some (.int hd),some (.ref Bl),some (.ref R),some (.ref Bd),some (.ref O),some (.ref N),x7]/\BlC K H7 Hx R N O Bd E0 aE us c ws bs i) ⟨_,_,_,_,none,rfl,i0⟩ (fun i σ Hx _ z=>by obtain⟨_,_,_,_,_,_,bi⟩:=z;exact .of (bi.kp _ _ npO npB npR yp)) ?_ ?_)⟩
 ·intro i x σ Hx hx z;obtain⟨aE,ue,c,ws,x7,rfl,bi⟩:=z;rw[zaz] at hx;obtain⟨cell,hc,rfl⟩:=zaP.mp hx;have hi:i<ms.length:=(zao.mp hc).1;have lw:=bi.lw;walk_at "rd";refine⟨.inl ⟨rfl,_,.of bi.yR⟩,R,_,rfl,.inl (.of bi.yR),?_⟩;rw[zai];have mB:Bd∈aE:=zal bi.bz;have nZ:∀y u,H7 y=some u->y≠Bd->y ∉ aE:=fun y u e nb z=>by
   rcases bi.zf y z with q |q
   ·exact nb q
   ·rw[e] at q;cases q
  have back:∀z,Hx z=none->H7 z=none:=fun z hz=>by
   cases e:H7 z with
   |none=>rfl
   |some u=>
    by_cases h1:z=O
    ·rw[h1,bi.op.yO] at hz;cases hz
    by_cases h2:z=Bd
    ·obtain⟨xs,y,_⟩:=bi.op.sz Bd mB;rw[h2,y] at hz;cases hz
    by_cases h3:z=R
    ·rw[h3,bi.yR] at hz;cases hz
    rw[bi.kp z u h1 h2 h3 e] at hz;cases hz
  have enm:c.df.Ee=bs.map (·.1):=by show c.nB.map _=_;rw[bi.bx]
  refine .mk cell (ws.length+1) O N aE ue c i rfl (by lia) (by lia) bi.op (by rw[enm];exact bi.yN) (by rw[enm];exact hN) fun wt f d' new us' H8 rg fh ebx tk op8 Zr zf8 pf8=>?_;have nRZ:R ∉ aE:=nZ R _ SW (Ne.symm O8);have yR8:H8 R=some (.lst (ws.map sv)):=Zr _ _ (Ne.symm Zi) nRZ bi.yR;refine⟨R,_,_,rfl,rfl,yR8,by rw[zai];lia,?_⟩;have fa:=PM.BX (g8 _ _) rg.1;obtain⟨N4,SX⟩:=PM.nC (k:=((ws.length+1:Nat):Int)) bi.op.ok fa tk;have zf':∀z∈aE++new,z=Bd\/H7 z=none:=fun z hz=>(zaj.mp hz).elim (bi.zf z) fun q=>.inr (back z (zf8 z q));have pf':∀e,V.ref e∈us'->e=E0\/H7 e=none:=fun e he=>(pf8 e he).elim (bi.pf e) fun q=>.inr (back _ q);have SY:R ∉ aE++new:=fun z=>by
   rcases zf' R z with q |q
   ·exact O8 q.symm
   ·rw[SW] at q;cases q
  have S0:∀e,V.ref e∈us'->e≠R:=fun e he z=>by
   rcases pf' e he with q |q
   ·exact nER (q.symm.trans z)
   ·rw[z,SW] at q;cases q
  obtain⟨lv,CA⟩:=bi.lv;have b0:(aE++new)[0]?=some Bd:=by rw[zau (zao.mp bi.bz).1];exact bi.bz
  refine⟨aE++new,us',PM.dE c ((ws.length+1:Nat):Int) f,ws++[wt],_,rfl,{op:=op8.Qk yR8 (Ne.symm Zi) SY S0,yR:=by rw[aj,zaw];rfl,yN:=by rw[aq nNR];exact Zr _ _ nNO (nZ N _ yN7 nNB) bi.yN,rr:=by rw[PM.Ek bi.rr,PM.Bn rg.1,tk,SX],rc:=?_,lv:=CA.take bi.op.ok fa fh bi.op.l5 tk,bx:=by rw[ebx];exact bi.bx,lw:=by rw[zaf,zav];lia,ok:=fun r hr=>(zaj.mp hr).elim (bi.ok r) fun z=>by rw[zad.mp z];exact rg.2,zf:=zf',pf:=pf',kp:=fun y u h1 h2 h3 e=>by rw[aq h3];exact Zr _ _ h1 (nZ y u e h2) (bi.kp y u h1 h2 h3 e),bz:=b0}⟩;rw[PM.u5 ws [wt] PM.c0 1 _ (PM.Ez []) bi.rr,bi.rc,PM.Bs rg.1]
  congr 1
  lia
 ·intro σ Hx z;obtain⟨aE,ue,c,ws,x7,rfl,bi⟩:=z;rw[zai] at bi;refine(Fs _ _).mpr (aD fun U7 V6=>?_);clear Fs;have lw:=bi.lw;have l5:=bi.op.l5;have lue:ue.length=c.bP.length+1:=bi.op.en.1;have mB:Bd∈aE:=zal bi.bz;have Xd:ar H Hx:=fun y u e=>bi.kp y u (aB e fO0) (aB e V0) (aB e fR0) (sH7 _ _ e);have yBx:Hx Bl=some (.lst us):=bi.kp _ _ (Ne.symm Zj) (Ne.symm QH) nBR yB7;have rbx:aG K Hx (bs.map xg) us:=iZ (O:=fun y=>y=O\/y=Bd\/y=R) (fun g hg=>hg.elim (fun z=>⟨_,z▸yO7⟩) fun z=>z.elim (fun z=>⟨_,z▸SV⟩) fun z=>⟨_,z▸SW⟩) (fun y u ny e=>bi.kp y u (fun z=>ny (.inl z)) (fun z=>ny (.inr (.inl z))) (fun z=>ny (.inr (.inr z))) e) _ _ (jw _) rb7;have aft:∀(Hy:Hp) (O9:List W) (c':PM.Dc) (m':Nat),xi K Hy O aE ue c' m'->Hy R=some (.lst (O9.map sv))->Hy Bl=some (.lst us)->aG K Hy (bs.map xg) us->ar H Hy->O9≠[]->O9.length<=67->(∀r∈O9,r.length<=200/\10 ∉ r)->PM.eG ⟨[],false,[]⟩ O9=.ok c'.df->PM.dq PM.c0 1 O9=c'->(∃lv,PM.EA c' lv)->c'.nB=bs->c'.bP.length=c.bP.length->U7 [some (.ref a),some (.int hd),some (.ref Bl),some (.ref R),some (.ref Bd),some (.ref O),some (.ref N),x7] Hy:=by
   intro Hy O9 c' m' Pp yR' Zs Zt sHy ne lw' ok' rr' rc' Sx bx' lk;refine(V6 _ _).mpr (aD fun U8 V7=>?_);clear V6;walk_at "rd";intro p1 f1;generalize g1:upd Hy p1 _=A1;have t1:=gL g1 f1;have z1:=Jn g1;clear g1;refine⟨O,_,rfl,.inl (.of (t1 _ _ Pp.yO)),?_⟩;rw[lue];refine⟨p1,_,_,rfl,rfl,z1,by lia,by lia,by rw[zav];lia,fun p2 f2=>?_⟩;have ek:(((c.bP.length+1:Nat):Int)-1).toNat=c.bP.length:=by lia
   rw[ek,Ie,show V.str (zab "end")=sv PM.cA by rw[MN];rfl];generalize g1:upd A1 p2 _=A2;have t2:=gL g1 f2;have z2:=Jn g1;clear g1;refine⟨R,p2,_,_,rfl,rfl,t2 _ _ (t1 _ _ yR'),z2,by rw[zai,za4];lia,fun R2 f3=>?_⟩;rw[show zap c.bP.length (sv PM.cA)=(zap c.bP.length PM.cA).map sv by rw[List.map_replicate],<- zaw];generalize g1:upd A2 R2 _=A3;have t3:=gL g1 f3;have z3:=Jn g1;clear g1;refine(V7 _ _).mpr ?_;clear V7;walk_at "rd";intro p4 f4;generalize g1:upd A3 p4 _=A4;have t4:=gT g1 f4;have z4:=Ti g1;clear g1;intro p5 f5;generalize g1:upd A4 p5 _=A5;have t5:=gL g1 f5;have z5:=Jn g1;clear g1;have tt:=(t1.trans t2).trans ((t3.trans t4).trans t5);have Zg:=Pp.same tt;have Y5:c'.df.iy.length=c.bP.length:=by show (c'.bP.map _).length=_;rw[zai];exact lk
   obtain⟨lv,CA⟩:=Sx;refine q p5 R2 (.ref p4) (O9++zap c.bP.length PM.cA) {c' with bP:=[]} _ A5 (sHy.trans tt) z5 (t5 _ _ (t4 _ _ z3)) (by simp[ne]) (by rw[zaf,za4];lia) (by rw[PM.Ek rr'];exact PM.Bo _ _ Y5) rfl (fun r hr=>(zaj.mp hr).elim (ok' r) fun z=>by rw[(zbQ.mp z).2];decide) ?_ ⟨lv,CA.ln,CA.l0,CA.up,CA.l5,fun j p e=>(by cases e),CA.ks⟩ (by show ∀b∈c'.nB,NI b;rw[bx'];exact hb) ?_
   ·rw[PM.u5 O9 _ PM.c0 1 _ (PM.Ez []) rr',rc'];exact PM.yH _ c' _ lk
   ·unfold OR;refine Rep.aZ.mpr ⟨p4,[V.ref Bl,V.ref Bd],rfl,.of (t5 _ _ z4),.cons (Rep.iq.mpr ⟨Bl,us,rfl,.of (tt _ _ Zs),?_⟩) (.cons (Zg.ct.rep Pp.ok.ft _ 0 Pp.ok.ft.ne (by show c'.aJ.length<=0+c'.aJ.length;lia) Bd bi.bz) .nil)⟩;show aG K A5 (c'.nB.map xg) us;rw[bx'];exact Zt.mono tt
  walk_at "rd";intro p0 f0;refine⟨R,p0,_,rfl,rfl,.of (ar.new f0 _ _ _ bi.yR),.of aj,?_⟩;have s0:=ar.new f0 (.lst []);generalize upd Hx p0 (.lst [])=Hz at *;have V8:=s0 _ _ bi.yR;have opz:=bi.op.same s0;have rr:=bi.rr;have rc:=bi.rc;have ok:=bi.ok;have bx:=bi.bx;cases ws with
  |nil=>
   rw[if_pos (show (List.map sv ([]:List W)).isEmpty=true from rfl)];have ec:c=PM.c0:=rc.symm;subst ec;have e0:aE.getD PM.c0.top 0=Bd:=by
    show aE.getD 0 0=Bd;rw[zae,bi.bz];rfl
   have SY:R ∉ aE:=fun z=>by
    rcases bi.zf R z with q |q
    ·exact O8 q.symm
    ·rw[SW] at q;cases q
   have S0:∀e,V.ref e∈ue->e≠R:=fun e he z=>by
    rcases bi.pf e he with q |q
    ·exact nER (q.symm.trans z)
    ·rw[z,SW] at q;cases q
   refine⟨.inl ⟨rfl,_,.of V8⟩,R,_,_,rfl,rfl,V8,by rw[zai];show 0<_;lia,?_⟩;have Kq:=opz.Qk (ys:=([]:List W).map sv++[V.str (zab "stop")]) V8 (Ne.symm Zi) SY S0;have yR1:(upd Hz R (.lst (([]:List W).map sv++[V.str (zab "stop")]))) R=some (.lst ([PM.b5].map sv)):=by rw[aj,Bk];rfl
   have yB1:(upd Hz R (.lst (([]:List W).map sv++[V.str (zab "stop")]))) Bl=some (.lst us):=by rw[aq nBR];exact s0 _ _ yBx
   have rb1:aG K (upd Hz R (.lst (([]:List W).map sv++[V.str (zab "stop")]))) (bs.map xg) us:=kc (jw _) (rbx.mono s0) V8;have sR1:ar H (upd Hz R (.lst (([]:List W).map sv++[V.str (zab "stop")]))):=fun y u e=>by rw[aq (aB e fR0)];exact s0 _ _ (Xd _ _ e)
   generalize upd Hz R (.lst (([]:List W).map sv++[V.str (zab "stop")]))=B1 at *;obtain⟨bx1,SO,lbx⟩:=Kq.sz Bd mB;walk_at "rd";refine⟨.inl ⟨rfl,_,.of SO⟩,fun p1 f1=>?_⟩;generalize g1:upd B1 p1 _=B2;have t1:=gT g1 f1;have z1:=Ti g1;clear g1;have ms0:ms.length<=63:=lm;refine⟨Bd,bx1,_,rfl,rfl,t1 _ _ SO,by lia,?_⟩;have Kr:=Kq.same t1;have tk:PM.gB PM.c0.df (.one PM.b5)=.ok ⟨[],true,[]⟩:=by
    rw[Bq];rfl
   obtain⟨N4,SX⟩:=PM.nC (c:=PM.c0) (k:=1) (PM.Ez []) (show PM.Qc (.one PM.b5) from .inr (.inr rfl)) tk;have eC:PM.dE PM.c0 1 (.one PM.b5)={PM.c0 with aJ:=PM.gx PM.c0.aJ PM.c0.top (.stop 1)++zap ([]:List zdU).length []}:=by
    rw[tJ (show PM.BW (.one PM.b5) from rfl)];rfl
   have wL:=N4;have sa:ou K B2 (aE++[]) (.stop 1) (V.ref p1):=by
    refine⟨p1,[V.str (zab "stop"),V.int 1],rfl,?_,.cons rS (.cons L9 .nil)⟩;exact .of z1
   rw[eC] at wL;have Zu:B2 (aE.getD PM.c0.top 0)=some (.lst bx1):=by rw[e0];exact t1 _ _ SO
   have op3:=Kr.wC (bs:=[]) (s:=.stop 1) (v:=V.ref p1) Zu sa (fun y hy=>by cases hy) (by simp) wL;rw[e0,zaC,<- eC] at op3;obtain⟨lv,CA⟩:=PM.EA.take (c:=PM.c0) (lv:=[0]) (k:=1) (PM.Ez []) (PM.VI []) (show PM.Qc (.one PM.b5) from .inr (.inr rfl)) trivial (zaJ _) tk;refine aft _ [PM.b5] (PM.dE PM.c0 1 (.one PM.b5)) _ op3 (by rw[aq (Ne.symm O8)];exact t1 _ _ yR1) (by rw[aq (Ne.symm QH)];exact t1 _ _ yB1) (kc (jw _) (rb1.mono t1) (t1 _ _ SO)) (fun y u e=>by rw[aq (aB e V0)];exact t1 _ _ (sR1 _ _ e)) (by simp) (by decide) (fun r hr=>by rw[zad.mp hr];decide) ?_ (PM.Bs PM.uW) ⟨lv,CA⟩ ?_ ?_
   ·rw[PM.Bn PM.uW,SX];exact tk
   ·rw[eC];exact bx
   ·rw[eC]
  |cons r0 rs0=>
   rw[if_neg (by simp)];exact aft Hz (r0::rs0) c _ opz V8 (s0 _ _ yBx) (rbx.mono s0) (Xd.trans s0) (by simp) (by lia) ok rr rc bi.lv bx rfl
theorem V9(T:Tx K mg t){n:Nat}(kb:a8 P w K mg base gI n t.eJ t.eU ["tree"] (M5 K n)):a8 P w K mg base gI (n+1) t.eJ t.eU ["tree"] (M5 K (n+1)):=by
 refine T.b9.F.rq qQ (fun vs H Q E h=>?_) (fun dM A outer s H vs Q E hr h=>?_)
 ·obtain⟨_,_,rfl,_⟩:=h;rfl
 obtain⟨v,tr,rfl,rv,ot,ht,q⟩:=h;have nd:=qQ.nd;refine⟨_,[some v],(ag (aX (az b7 (bo bB rfl T.fY PyProof.Rows.Boot.«len» (ae (pv 0) af ah)) ai (aN _))
 (ao (aH (uy (ax kb (hr.mono (by first|decide|omega)) rfl T.b9.m T.b9.F.kp T.b9.b .nil bc (ae (aO bE (pv 0) ai aw) af bg)) (xq (ax kb (hr.mono (by first|decide|omega)) rfl T.b9.m T.b9.F.kp T.b9.b .nil bc (ae (aO bE (pv 0) ai aw) af bg))))))
 aF)
 (ao (aH (QV (bo sT rfl T.dJ PyProof.Rows.Boot.«isinstance» (ae (aO bE (pv 0) ai aw) (ae (qh (v:=.ty "bool") rfl T.vi PyProof.Rows.Boot.«bool» rfl) af ah) bg)))))),rfl,?_⟩
 cases tr with
 |num k=>
  unfold cV at rv;simp only[Rep.aZ,aG.aM,aG.aS,Rep.aK,Rep.bO] at rv;obtain⟨a,xs,rfl,hS,_,_,rfl,rfl,_,_,rfl,rfl,rfl⟩:=rv;walk_at "rd";refine⟨a,_,rfl,.inr hS,?_⟩;refine bW (fun z=>absurd z (show ¬((2:Nat):Int)=3 by decide)) fun _=>?_;exact a9 hS (v:=.int k) (aQ (j:=1) rfl) ⟨_,_,_,_,rfl,.int k,HL,q _ (ar.refl _)⟩
 |box x=>
  unfold cV at rv;simp only[Rep.aZ,aG.aM,aG.aS,Rep.aK,Rep.bO] at rv;obtain⟨a,xs,rfl,hS,_,_,rfl,rfl,_,_,rfl,rfl,rfl⟩:=rv;walk_at "rd";refine⟨a,_,rfl,.inr hS,?_⟩;refine bW (fun z=>absurd z (show ¬((2:Nat):Int)=3 by decide)) fun _=>?_;exact a9 hS (v:=.str (S x)) (aQ (j:=1) rfl) ⟨_,_,_,_,rfl,.str _,UP,q _ (ar.refl _)⟩
 |bin o l r=>
  unfold cV at rv;simp only[Rep.aZ,aG.aM,aG.aS,Rep.aK] at rv;obtain⟨a,xs,rfl,hS,_,_,rfl,rfl,vl,_,rfl,rl,vr,_,rfl,rr,rfl⟩:=rv;have wB:max (A7 l) (A7 r)+1<n+1:=ht;walk_at "rd";refine⟨a,_,rfl,.inr hS,?_⟩;refine bW (fun _=>?_) fun z=>absurd (show ((3:Nat):Int)=3 by decide) z;refine a9 hS (v:=vl) (aQ (j:=1) rfl) (.mk vl l rfl rl ot.2.1 (by lia) fun H1 s1=>⟨true,rfl,?_⟩);rw[if_pos rfl];exact a9 (s1.dQ hS) (v:=vr) (aQ (j:=2) rfl) (.mk vr r rfl (rr.mono s1) ot.2.2 (by lia) fun H2 s2=>q _ (s1.trans s2))
theorem Nm(T:Tx K mg t):∀n,a8 P w K mg base gI n t.eJ t.eU ["tree"] (M5 K n)
 |0=>by
  have no:∀vs H Q E,¬M5 K 0 vs H Q E:=fun vs H Q E h=>by cases h;lia
  exact⟨fun vs H Q E h=>absurd h (no vs H Q E),fun A outer s H args us vs Q E _ _ _ _ h=>absurd h (no vs H Q E)⟩
 |n+1=>V9 T (Nm T n)
theorem S1(T:Tx K mg t){n:Nat}(pU:a8 P w K mg base gI (n+5) t.fV t.gf ["body", "lists"] (EC K n)):a8 P w K mg base gI (n+6) t.fV t.gf ["body", "lists"] (EC K (n+1)):=by
 have kb:=Nm (P:=P) (w:=w) (base:=base) T 4;refine T.dH.F.rq tT (fun vs H Q E h=>?_) (fun dM A outer s H vs Q E hr h=>?_)
 ·obtain⟨_,_,_,_,_,_,rfl,_⟩:=h;rfl
 obtain⟨L,aE,c,lv,i,zs,rfl,ok,CA,ct,hi,hn,nL,yL,lz,Wa,q⟩:=h;have nd:=tT.nd;refine⟨_,[some (.ref (aE.getD i 0)),some (.ref L),none,none,none],(@ag _ _ _ _ _ (@ck _ _ _ _ (@gZ _ _ _ _ _ _ _ _ _ _ _ _ zaB zaG zaH cg (pv 1) (@ae _ _ _ _ _ (pv 0) (@af _) (@ah _ _ _ _)) (by first |rfl |exact .inl rfl |exact .inr rfl |decide |(intro _;rfl) |assumption) (by first |rfl |exact .inl rfl |exact .inr rfl |decide |(intro _;rfl) |assumption) (by first |rfl |exact .inl rfl |exact .inr rfl |decide |(intro _;rfl) |assumption) (by first |rfl |exact .inl rfl |exact .inr rfl |decide |(intro _;rfl) |assumption) (by first |rfl |exact .inl rfl |exact .inr rfl |decide |(intro _;rfl) |assumption)) (by first |rfl |exact .inl rfl |exact .inr rfl |decide |(intro _;rfl) |assumption)) (@ag _ _ _ _ _ (@jI _ _ _ _ _ _ _ _ PassesOwn.never rfl (@fj _ _ _ _ (pv 0)) (@bh _ _ 2 _ nd rfl (zas rfl) (by first |rfl |exact .inl rfl |exact .inr rfl |decide |(intro _;rfl) |assumption)) (@ag _ _ _ _ _ (@wZ _ _ _ _ _ _ _ ["part"] [] _ _ _ _ 3 _ _ _ nd rfl (zas rfl) rfl (by rfl) (by rfl) (KI (pv 2)) (fun _ _ _ _=>(@bh _ _ 0 _ (by show List.Nodup (["part"]:List Str);decide +kernel) rfl (zas rfl) (by first |rfl |exact .inl rfl |exact .inr rfl |decide |(intro _;rfl) |assumption))) (fun _ _ _ _=>(BK (@iV _ _ _ (@bo _ _ _ _ _ _ _ _ _ (JK (K:=K) rfl) rfl T.dJ PyProof.Rows.Boot.«isinstance» (@ae _ _ _ _ _ (pv 0) (@ae _ _ _ _ _ (qh (v:=.ty "tuple") rfl T.tX PyProof.Rows.Boot.«tuple» rfl) (@af _) (@ah _ _ _ _)) (@ah _ _ _ _)) (by first |rfl |exact .inl rfl |exact .inr rfl |decide |(intro _;rfl) |assumption) (by first |rfl |exact .inl rfl |exact .inr rfl |decide |(intro _;rfl) |assumption) (by first |rfl |exact .inl rfl |exact .inr rfl |decide |(intro _;rfl) |assumption) (by first |rfl |exact .inl rfl |exact .inr rfl |decide |(intro _;rfl) |assumption)) (by first |rfl |exact .inl rfl |exact .inr rfl |decide |(intro _;rfl) |assumption)))) (fun _ _ _ _=>(pv 0)) (by first |rfl |exact .inl rfl |exact .inr rfl |decide |(intro _;rfl) |assumption) (by first |rfl |exact .inl rfl |exact .inr rfl |decide |(intro _;rfl) |assumption) (by first |rfl |exact .inl rfl |exact .inr rfl |decide |(intro _;rfl) |assumption)) (@ag _ _ _ _ _ (@aX _ _ _ _ _ _ _ _ (@PW.pt _ _ _ (@pw_or _ _ _ _ _ _ _ (@iV _ _ _ (@bo _ _ _ _ _ _ _ _ _ sT rfl T.dJ PyProof.Rows.Boot.«isinstance» (@ae _ _ _ _ _ (@aO _ _ _ _ _ _ _ (@bE _) (pv 2) (@ai _ _ _ _) (@aw _ _ _)) (@ae _ _ _ _ _ (qh (v:=.ty "bool") rfl T.vi PyProof.Rows.Boot.«bool» rfl) (@af _) (@ah _ _ _ _)) (@bg _ _ _ _ _)) (by first |rfl |exact .inl rfl |exact .inr rfl |decide |(intro _;rfl) |assumption) (by first |rfl |exact .inl rfl |exact .inr rfl |decide |(intro _;rfl) |assumption) (by first |rfl |exact .inl rfl |exact .inr rfl |decide |(intro _;rfl) |assumption) (by first |rfl |exact .inl rfl |exact .inr rfl |decide |(intro _;rfl) |assumption)) (by first |rfl |exact .inl rfl |exact .inr rfl |decide |(intro _;rfl) |assumption)) (@pw_or1 _ _ _ _ (@az _ _ _ _ _ _ _ _ (uL (Hm hr)) (@kX _ _ _ _ _ _ _ ["tree"] [] _ _ _ _ rfl (by rfl) (by rfl) (@fj _ _ _ _ (pv 3)) (fun _ _ _ _=>(@bh _ _ 0 _ (by show List.Nodup (["tree"]:List Str);decide +kernel) rfl (zas rfl) (by first |rfl |exact .inl rfl |exact .inr rfl |decide |(intro _;rfl) |assumption))) (fun _ _ _ _=>(BK (@oB _ _ _ _ (@iV _ _ _ (@ax _ _ _ _ _ _ _ _ _ _ _ _ _ _ _ _ kb (hr.mono (by first|decide|omega)) rfl T.b9.m T.b9.F.kp T.b9.b .nil bc (@ae _ _ _ _ _ (pv 0) (@af _) (@ah _ _ _ _)) (by first |rfl |exact .inl rfl |exact .inr rfl |decide |(intro _;rfl) |assumption) (by first |rfl |exact .inl rfl |exact .inr rfl |decide |(intro _;rfl) |assumption) (by first |rfl |exact .inl rfl |exact .inr rfl |decide |(intro _;rfl) |assumption)) (by first |rfl |exact .inl rfl |exact .inr rfl |decide |(intro _;rfl) |assumption))))) (fun _ _ _ _=>(pv 0)) (by first |rfl |exact .inl rfl |exact .inr rfl |decide |(intro _;rfl) |assumption)) (@bb _ _ _ _ (@af _)) (aN _))))) (@ao _ _ _ (@aH _ _ _ _ (@vA _ _ _ _))) (@aF _)) (@ao _ _ _ (@jI _ _ _ _ _ _ _ _ PassesOwn.never rfl (KI (@ip _ _ _ _ _ _ _ _ _ _ BG (pv 2) (@jY _ _ _ (@ai _ _ _ _)) (@jX _))) (@bh _ _ 4 _ nd rfl (zas rfl) (by first |rfl |exact .inl rfl |exact .inr rfl |decide |(intro _;rfl) |assumption)) (@ao _ _ _ (@aX _ _ _ _ _ _ _ _ (@oB _ _ _ _ (@iV _ _ _ (@ax _ _ _ _ _ _ _ _ _ _ _ _ _ _ _ _ pU (hr.mono (by first|decide|omega)) rfl T.dH.m T.dH.F.kp T.dH.b .nil bc (@ae _ _ _ _ _ (pv 4) (@ae _ _ _ _ _ (pv 1) (@af _) (@ah _ _ _ _)) (@ah _ _ _ _)) (by first |rfl |exact .inl rfl |exact .inr rfl |decide |(intro _;rfl) |assumption) (by first |rfl |exact .inl rfl |exact .inr rfl |decide |(intro _;rfl) |assumption) (by first |rfl |exact .inl rfl |exact .inr rfl |decide |(intro _;rfl) |assumption)) (by first |rfl |exact .inl rfl |exact .inr rfl |decide |(intro _;rfl) |assumption))) (@ao _ _ _ (@aH _ _ _ _ (@vA _ _ _ _))) (@aF _))) (by first |rfl |exact .inl rfl |exact .inr rfl |decide |(intro _;rfl) |assumption))))) (by first |rfl |exact .inl rfl |exact .inr rfl |decide |(intro _;rfl) |assumption)) (@ao _ _ _ (@aH _ _ _ _ (@vA _ _ _ _))))),rfl,?_⟩;have line:zd2=2 ^ 24:=rfl;have il:i<aE.length:=by rw[ct.ln];exact hi
 have ei:aE[i]?=some (aE.getD i 0):=by rw[zae,zac il];rfl
 have mi:aE.getD i 0∈aE:=zal ei;obtain⟨us,yb,ix⟩:=ct.ct i _ _ ei (zac hi);have gD:c.aJ.getD i []=c.aJ[i]:=by rw[zae,zac hi];rfl
 have er:PM.reach c.aJ (n+1) i=i::(c.aJ[i].flatMap PM.gw).flatMap (PM.reach c.aJ n):=by rw[PM.reach,gD]
 rw[er] at q lz;have l1:=Wa _ (zaI hi);refine aD fun U1 sj=>?_;walk_at "rd";refine⟨.inl ⟨rfl,_,.of yL⟩,L,zs,_,rfl,rfl,yL,by lia,(sj _ _).mpr (aD fun U2 qV=>?_)⟩;clear sj;have kp0:∀y u,y≠L->H y=some u->(upd H L (.lst (zs++[V.ref (aE.getD i 0)]))) y=some u:=fun y u ny e=>by rw[aq ny];exact e
 have yL0:(upd H L (.lst (zs++[V.ref (aE.getD i 0)]))) L=some (.lst (zs++[V.ref (aE.getD i 0)])):=aj;have ct0:=ct.Qk (ys:=zs++[V.ref (aE.getD i 0)]) yL nL;generalize upd H L (.lst (zs++[V.ref (aE.getD i 0)]))=H0 at *;have Zv:aE.getD i 0≠L:=fun z=>nL (by rw[<- z];exact mi);refine oS fun U hU=>?_;walk_at "rd";refine⟨⟨_,.of (kp0 _ _ Zv yb)⟩,hU _ _ (mn (K:=K) (a:=aE.getD i 0) (xs:=us) (fun j σ Hx=>∃(x2 x3 x4:Option V),σ=[some (.ref (aE.getD i 0)),some (.ref L),x2,x3,x4]/\(∀y u,y≠L->H y=some u->Hx y=some u)/\vS K Hx aE c.aJ/\Hx L=some (.lst (zs++[V.ref (aE.getD i 0)]++(((c.aJ[i].take j).flatMap PM.gw).flatMap (PM.reach c.aJ n)).map fun j=>V.ref (aE.getD j 0)))) ⟨none,none,none,rfl,kp0,ct0,by rw[yL0];simp⟩ (fun j σ Hx _ z=>by obtain⟨_,_,_,_,kp,_⟩:=z;exact .of (kp _ _ Zv yb)) ?_ ?_)⟩
 ·intro j x σ Hx hx z;obtain⟨x2,x3,x4,rfl,kp,ctx,Xe⟩:=z;have jl:j<us.length:=(zao.mp hx).1;have js:j<c.aJ[i].length:=by rw[<- ix.1];exact jl
  obtain⟨us',y',ix'⟩:=ctx.ct i _ _ ei (zac hi);rw[kp _ _ Zv yb] at y';cases y';have sat:=ix'.2 j _ x (zac js) hx;obtain⟨sx,Xf⟩:∃sx,sx=c.aJ[i][j]:=⟨_,rfl⟩
  rw[<- Xf] at sat;have msx:sx∈c.aJ[i]:=by rw[Xf];exact zaI js
  obtain⟨ta,hs,rfl,hS,rh⟩:=sat;obtain⟨hp1,⟨kk,Gs⟩,hp3,hp4,hp5⟩:=M3 (CA.ks _ (zaI hi) sx msx) rh;have Zw:∀b∈PM.gw sx,b∈c.aJ[i].flatMap PM.gw:=fun b hb=>zbb.mpr ⟨sx,msx,hb⟩;have lch:(PM.gw sx).length<=2:=by cases sx<;>simp[PM.gw]
  obtain⟨Nx,Ko⟩:∃Nx:St->Hp->Prop,∀σ H',Nx σ H'↔∃(x2 x3 x4:Option V),σ=[some (.ref (aE.getD i 0)),some (.ref L),x2,x3,x4]/\(∀y u,y≠L->H y=some u->H' y=some u)/\vS K H' aE c.aJ/\H' L=some (.lst (zs++[V.ref (aE.getD i 0)]++(((c.aJ[i].take (j+1)).flatMap PM.gw).flatMap (PM.reach c.aJ n)).map fun j=>V.ref (aE.getD j 0))):=⟨_,fun _ _=>Iff.rfl⟩
  simp only[<- Ko];show Fv _ _ _ _ _;refine aD fun V1 QE=>?_;walk_at "rd";simp only[oJ];walk_at "rd";refine⟨ta,rfl,⟨_,hS⟩,fun D hD=>EB (J:=NQ K ta) (fun τ=>∃x,τ=[x]) (hs++(PM.gw sx).map fun b=>V.ref (aE.getD b 0)) (fun y=>∃t,Rep K Hx (cV t) y/\PM.JA t/\A7 t<=3) (fun i H2 s2 h=>⟨_,_,s2.dQ hS,zac h⟩) (fun H2 s2=>⟨_,s2.dQ hS,zag _⟩) (fun i H2 x H3 s2 h y=>⟨y.1,y.2 _ (s2.dQ hS)⟩) (by rw[zaf,zai];lia) hD ⟨none,rfl⟩ ?_ ?_⟩
  ·rintro i2 y τ H2 hy ⟨y0,rfl⟩ s2 R hR
   walk_at "rd";have no:R [some y] false H2:=hR _ H2 false ⟨_,rfl⟩ (ar.refl _) fun z=>by cases z
   rcases zaj.mp (zal hy) with my |my
   ·rcases hp1 y my with ⟨z,rfl⟩ |⟨z,rfl⟩ |⟨a1,l1,t1,rfl,q1,r1,o1,h1⟩
    ·exact⟨_,rfl,.inl ⟨⟨z,rfl⟩,false,rfl,no⟩⟩
    ·exact⟨_,rfl,.inr (.inl ⟨⟨z,rfl⟩,false,rfl,no⟩)⟩
    ·refine⟨_,rfl,.inr (.inr (.inl ⟨⟨a1,l1,rfl,s2.dQ q1⟩,true,rfl,hR _ H2 true ⟨_,rfl⟩ (ar.refl _) fun _=>⟨⟨t1,r1,o1,h1⟩,fun R' hR'=>?_⟩⟩))⟩;walk_at "rd";exact hR'
   ·obtain⟨b,hb,rfl⟩:=zaK.mp my;have bl:b<aE.length:=by rw[ct.ln];exact(ok.ft.up i _ (zac hi) b (Zw b hb)).2
    have mb:aE.getD b 0∈aE:=by rw[zae,zac bl];exact zaI bl
    obtain⟨ub,W0⟩:=ctx.lists mb;exact⟨_,rfl,.inr (.inr (.inr ⟨⟨_,ub,rfl,.of (s2 _ _ W0)⟩,false,rfl,no⟩))⟩
  intro ts H2 s2 yD lts hts;refine(QE _ _).mpr (aD fun V2 QF=>?_);clear QE;have VN:=s2.dQ hS;have a1:zU (hs++(PM.gw sx).map fun b=>V.ref (aE.getD b 0)) 1=some (.int kk):=aQ (j:=1) (by rw[zau (by lia)];exact Gs);have rest:∀H3,ar H2 H3->V2 [some (.ref (aE.getD i 0)),some (.ref L),some (.ref ta),some (.ref D),x4] H3:=by
   intro H3 s3;refine(QF _ _).mpr ?_;clear QF;have Zx:=s2.trans s3;refine L1 fun W hW=>?_;walk_at "rd";refine⟨5,rfl,ta,_,rfl,Zx.dQ hS,?_,fun p fp=>?_⟩
   ·rintro ⟨z,_⟩
    have:HT.fG (hs++(PM.gw sx).map fun b=>V.ref (aE.getD b 0)).length 0 (some ((5:Nat):Int))=0:=z;rw[HT.kW,zaf] at this;lia
   rw[show (some (5:Int))=some ((5:Nat):Int) from rfl,yk];have ed:(hs++(PM.gw sx).map fun b=>V.ref (aE.getD b 0)).drop 5=(PM.gw sx).map fun b=>V.ref (aE.getD b 0):=by
    by_cases he:PM.gw sx=[]
    ·rw[he,zbC,zaC,zcp hp4]
    ·rw[<- hp5 he,List.drop_left]
   rw[ed];generalize g1:upd H3 p _=H4;have t4:=gT g1 fp;have z4:=Ti g1;clear g1;have Zy:=Zx.trans t4;have npL:p≠L:=fun z=>by rw[z,Zx _ _ Xe] at fp;cases fp
   have npA:∀H5,vS K H5 aE c.aJ->True:=fun _ _=>trivial;refine⟨p,rfl,⟨_,.of z4⟩,hW _ _ (NS (K:=K) (a:=p) (xs:=(PM.gw sx).map fun b=>V.ref (aE.getD b 0)) (fun m σ Hy=>∃x4:Option V,σ=[some (.ref (aE.getD i 0)),some (.ref L),some (.ref ta),some (.ref D),x4]/\(∀y u,y≠L->H y=some u->Hy y=some u)/\vS K Hy aE c.aJ/\Hy p=some (.tup ((PM.gw sx).map fun b=>V.ref (aE.getD b 0)))/\Hy L=some (.lst (zs++[V.ref (aE.getD i 0)]++((((c.aJ[i].take j).flatMap PM.gw)++(PM.gw sx).take m).flatMap (PM.reach c.aJ n)).map fun j=>V.ref (aE.getD j 0)))) ⟨x4,rfl,fun y u ny e=>Zy _ _ (kp y u ny e),ctx.same Zy,z4,by rw[List.take_zero,zaC];exact Zy _ _ Xe⟩ (fun m σ Hy _ z=>by obtain⟨_,_,_,_,yp,_⟩:=z;exact .of yp) ?_ ?_)⟩
   ·intro m y σ Hy hy z;obtain⟨x5,rfl,Zz,Xg,ypy,Wb⟩:=z;rw[zaz] at hy;obtain⟨b,hb,rfl⟩:=zaP.mp hy;have hbm:=zal hb;have hml:m<(PM.gw sx).length:=(zao.mp hb).1;have hup:=ok.ft.up i _ (zac hi) b (Zw b hbm);have hlb:=CA.up i _ (zac hi) b (Zw b hbm);have etm:(PM.gw sx).take (m+1)=(PM.gw sx).take m++[b]:=by rw[zds,hb];rfl
    have esp:c.aJ[i].flatMap PM.gw=((c.aJ[i].take j).flatMap PM.gw++(PM.gw sx).take m)++b::((PM.gw sx).drop (m+1)++(c.aJ[i].drop (j+1)).flatMap PM.gw):=by
     have e1:c.aJ[i]=c.aJ[i].take j++sx::c.aJ[i].drop (j+1):=by rw[Xf,zdm,zdt]
     have e2:PM.gw sx=(PM.gw sx).take m++b::(PM.gw sx).drop (m+1):=by
      have:b=(PM.gw sx)[m]:=by rw[zac hml] at hb;exact(zaF.inj hb).symm
      rw[this,zdm,zdt]
     conv=>lhs;rw[e1]
     rw[zbM,zb9]
     conv=>lhs;rw[e2]
     simp only[zaW,zaQ]
    have len:((((c.aJ[i].take j).flatMap PM.gw)++(PM.gw sx).take m).flatMap (PM.reach c.aJ n)).length+(PM.reach c.aJ n b).length<=((c.aJ[i].flatMap PM.gw).flatMap (PM.reach c.aJ n)).length:=by
     have key:∀A B:List Nat,(A.flatMap (PM.reach c.aJ n)).length+(PM.reach c.aJ n b).length<=((A++b::B).flatMap (PM.reach c.aJ n)).length:=fun A B=>by
      rw[zbM,zb9,zaf,zaf];lia
     rw[esp];exact key _ _
    rw[zah] at lz;walk_at "rd";refine .mk L aE c lv b _ rfl ok CA Xg hup.2 (by lia) nL Wb (by rw[zaf,zaf,zai,zav];lia) Wa fun H5 TL S2=>?_;refine⟨true,rfl,?_⟩;rw[if_neg (by decide)];have nLl:∀y,y∈aE->y≠L:=fun y hy z=>nL (z▸hy);refine⟨_,rfl,fun y u ny e=>TL y u ny (Zz y u ny e),?_,TL _ _ npL ypy,?_⟩
    ·exact Xg.keep nL Wb TL S2
    ·rw[S2,etm,<- zaW,zbM,zaw,<- zaW];simp
   ·intro σ Hy z;obtain⟨x5,rfl,Zz,Xg,ypy,Wb⟩:=z;refine(Ko _ _).mpr ⟨_,_,_,rfl,Zz,Xg,?_⟩;rw[zai,zbo] at Wb;have et:c.aJ[i].take (j+1)=c.aJ[i].take j++[sx]:=by rw[zbg js,Xf]
    rw[Wb,et,zbM];simp
  walk_at "rd";refine a9 VN a1 ⟨_,_,_,_,rfl,.int kk,HL,?_⟩;rw[if_neg zan];simp only[oJ];walk_at "rd";refine⟨⟨_,.of yD⟩,fun D2 O7=>EB (J:=IJ K D) (fun τ=>∃x,τ=[x]) ts (fun _=>False) (fun i H3 s3 h=>⟨_,_,.of (s3 _ _ yD),zac h⟩) (fun H3 s3=>⟨_,.of (s3 _ _ yD),zag _⟩) (fun i H3 x H4 s3 h y=>⟨y.1,y.2 _ (.of (s3 _ _ yD))⟩) (by rw[zaf,zai] at lts;lia) O7 ⟨none,rfl⟩ ?_ ?_⟩
  ·rintro i2 y τ H3 hy ⟨y0,rfl⟩ s3 R hR
   walk_at "rd";obtain⟨t1,r1,o1,h1⟩:=hts y (zal hy);exact .mk y t1 rfl (r1.mono (s2.trans s3)) o1 (by lia) fun H4 s4=>⟨true,rfl,hR _ H4 false ⟨_,rfl⟩ s4 fun z=>by cases z⟩
  ·intro ys H3 s3 Xh _ hys;have ey:ys=[]:=by
    cases ys with
    |nil=>rfl
    |cons a b=>exact(hys a zaq).elim
   subst ey;intro p fp;refine⟨D2,p,[],rfl,rfl,.of (ar.new fp _ _ _ Xh),.of aj,?_⟩;rw[if_neg (by decide)];exact rest _ (s3.trans (ar.new fp _))
 ·intro σ Hx z;obtain⟨x2,x3,x4,rfl,kp,ctx,Xe⟩:=z;refine(qV _ _).mpr ?_;clear qV;walk_at "rd";refine q Hx kp ?_;rw[Xe,ix.1,zbo,zaW];rfl
theorem IB(T:Tx K mg t):∀n,a8 P w K mg base gI (n+5) t.fV t.gf ["body", "lists"] (EC K n)
 |0=>by
  have no:∀vs H Q E,¬EC K 0 vs H Q E:=fun vs H Q E h=>by
   obtain⟨L,aE,c,lv,i,zs,_,_,CA,_,_,hn,_⟩:=h;have:=CA.l5 i;lia
  exact⟨fun vs H Q E h=>absurd h (no vs H Q E),fun A outer s H args us vs Q E _ _ _ _ h=>absurd h (no vs H Q E)⟩
 |n+1=>S1 T (IB T n)
theorem GO(T:Tx K mg t):a8 P w K mg base gI 1 t.fS t.gK ["script", "k"] (fun vs H Q _=>∃(a:zdU) (ns:List Int) (k:Nat),vs=[.ref a,.int k]/\fH K H a (ns.map .int)/\∀i,Q (.int i) H):=by
 refine T.eB.F.rq n8 (fun vs H Q E h=>?_) (fun dM A outer s H vs Q E hr h=>?_)
 ·obtain⟨_,_,_,rfl,_⟩:=h;rfl
 obtain⟨a,ns,k,rfl,hS,q⟩:=h;have nd:=n8.nd;refine⟨_,[some (.ref a),some (.int k)],(ag (aX (az AL (pv 1) (bo bB rfl T.fY PyProof.Rows.Boot.«len» (ae (pv 0) af ah)) (aN _))
 (ao (aH (aO aW (pv 0) (pv 1) BN)))
 aF)
 (ao (aH ai))),rfl,?_⟩
 walk_at "rd";refine⟨a,_,rfl,.inl hS,?_⟩;refine bW (fun c=>?_) (fun c=>q 0);rw[zai] at c;have hk:k<ns.length:=by lia
 exact bp hS (v:=.int ns[k]) (aQ (by rw[zaz,zac hk];rfl)) (q _)
theorem S3(T:Tx K mg t)(C:Cd P w K t):a8 P w K mg base gI 66 t.Iv t.vd ["script"] (HG K):=by
 have zp:=GO (P:=P) (w:=w) (base:=base) T;have CB:=SR (P:=P) (w:=w) (base:=base) T;have pU:=IB (P:=P) (w:=w) (base:=base) T 6;have Nn:=O3 (P:=P) (w:=w) (base:=base) T C;refine T.Iw.F.rq M8 (fun vs H Q E h=>?_) (fun dM A outer s H vs Q E hr h=>?_)
 ·obtain⟨_,_,rfl,_⟩:=h;rfl
 obtain⟨a,ns,rfl,hS,hl,q⟩:=h;have nd:=M8.nd;refine⟨_,[some (.ref a),none,none,none,none,none,none,none,none,none,none],(@ag _ _ _ _ _ (@uz _ _ _ _ _ _ (@ax _ _ _ _ _ _ _ _ _ _ _ _ _ _ _ _ CB (hr.mono (by first|decide|omega)) rfl T.gn.m T.gn.F.kp T.gn.b .nil bc (@ae _ _ _ _ _ (pv 0) (@ae _ _ _ _ _ (@ax _ _ _ _ _ _ _ _ _ _ _ _ _ _ _ _ zp (hr.mono (by first|decide|omega)) rfl T.eB.m T.eB.F.kp T.eB.b .nil bc (@ae _ _ _ _ _ (pv 0) (@ae _ _ _ _ _ (@ai _ _ _ _) (@af _) (@ay _ _ _ _ _)) (@ah _ _ _ _)) (by first |rfl |exact .inl rfl |exact .inr rfl |decide |(intro _;rfl) |assumption) (by first |rfl |exact .inl rfl |exact .inr rfl |decide |(intro _;rfl) |assumption) (by first |rfl |exact .inl rfl |exact .inr rfl |decide |(intro _;rfl) |assumption)) (@af _) (@cD _ _ _ _ _ _)) (@ah _ _ _ _)) (by first |rfl |exact .inl rfl |exact .inr rfl |decide |(intro _;rfl) |assumption) (by first |rfl |exact .inl rfl |exact .inr rfl |decide |(intro _;rfl) |assumption) (by first |rfl |exact .inl rfl |exact .inr rfl |decide |(intro _;rfl) |assumption)) (@BR _ _ _ _ _ _ rfl (@cQ _ _ _ _ _ (@bh _ _ 1 _ nd rfl (zas rfl) (by first |rfl |exact .inl rfl |exact .inr rfl |decide |(intro _;rfl) |assumption)) (@cQ _ _ _ _ _ (@bh _ _ 2 _ nd rfl (zas rfl) (by first |rfl |exact .inl rfl |exact .inr rfl |decide |(intro _;rfl) |assumption)) (@mV _) (by first |rfl |exact .inl rfl |exact .inr rfl |decide |(intro _;rfl) |assumption)) (by first |rfl |exact .inl rfl |exact .inr rfl |decide |(intro _;rfl) |assumption)) (by first |rfl |exact .inl rfl |exact .inr rfl |decide |(intro _;rfl) |assumption) (by first |rfl |exact .inl rfl |exact .inr rfl |decide |(intro _;rfl) |assumption)) (by first |rfl |exact .inl rfl |exact .inr rfl |decide |(intro _;rfl) |assumption) (by first |rfl |exact .inl rfl |exact .inr rfl |decide |(intro _;rfl) |assumption) (by first |rfl |exact .inl rfl |exact .inr rfl |decide |(intro _;rfl) |assumption)) (@ag _ _ _ _ _ (@aP _ _ 3 _ _ _ _ nd rfl (zas rfl) (MP (K:=K) rfl zbP zcv zcw (El (K:=K) rfl) (@au _ _ _ _) (@ae _ _ _ _ _ (pv 1) (@af _) (@ah _ _ _ _))) (by first |rfl |exact .inl rfl |exact .inr rfl |decide |(intro _;rfl) |assumption) (by first |rfl |exact .inl rfl |exact .inr rfl |decide |(intro _;rfl) |assumption)) (@ag _ _ _ _ _ (@aP _ _ 4 _ _ _ _ nd rfl (zas rfl) (@ax _ _ _ _ _ _ _ _ _ _ _ _ _ _ _ _ Nn (hr.mono (by first|decide|omega)) rfl T.nP.m T.nP.F.kp T.nP.b .nil LP (@ae _ _ _ _ _ (pv 3) (@af _) (@ah _ _ _ _)) (by first |rfl |exact .inl rfl |exact .inr rfl |decide |(intro _;rfl) |assumption) (by first |rfl |exact .inl rfl |exact .inr rfl |decide |(intro _;rfl) |assumption) (by first |rfl |exact .inl rfl |exact .inr rfl |decide |(intro _;rfl) |assumption)) (by first |rfl |exact .inl rfl |exact .inr rfl |decide |(intro _;rfl) |assumption) (by first |rfl |exact .inl rfl |exact .inr rfl |decide |(intro _;rfl) |assumption)) (@ag _ _ _ _ _ (@aX _ _ _ _ _ _ _ _ (@PW.pt _ _ _ (@pw_or _ _ _ _ _ _ _ (@oB _ _ _ _ (@iV _ _ _ (@bo _ _ _ _ _ _ _ _ _ LV rfl T.dJ PyProof.Rows.Boot.«isinstance» (@ae _ _ _ _ _ (pv 4) (@ae _ _ _ _ _ (qh (v:=.ty "tuple") rfl T.tX PyProof.Rows.Boot.«tuple» rfl) (@af _) (@ah _ _ _ _)) (@ah _ _ _ _)) (by first |rfl |exact .inl rfl |exact .inr rfl |decide |(intro _;rfl) |assumption) (by first |rfl |exact .inl rfl |exact .inr rfl |decide |(intro _;rfl) |assumption) (by first |rfl |exact .inl rfl |exact .inr rfl |decide |(intro _;rfl) |assumption) (by first |rfl |exact .inl rfl |exact .inr rfl |decide |(intro _;rfl) |assumption)) (by first |rfl |exact .inl rfl |exact .inr rfl |decide |(intro _;rfl) |assumption))) (@pw_or1 _ _ _ _ (@az _ _ _ _ _ _ _ _ (@LQ _ (RI hr)) (pv 4) (pv 2) (aN _))))) (@ao _ _ _ (@aH _ _ _ _ (@vA _ _ _ _))) (@aF _)) (@ag _ _ _ _ _ (@aP _ _ 5 _ _ _ _ nd rfl (zas rfl) (@bb _ _ _ _ (@ae _ _ _ _ _ (@aO _ _ _ _ _ _ _ (@bE _) (pv 4) (@ai _ _ _ _) (@aw _ _ _)) (@af _) (@bg _ _ _ _ _))) (by first |rfl |exact .inl rfl |exact .inr rfl |decide |(intro _;rfl) |assumption) (by first |rfl |exact .inl rfl |exact .inr rfl |decide |(intro _;rfl) |assumption)) (@ag _ _ _ _ _ (@jI _ _ _ _ _ _ _ _ PassesOwn.never rfl (@fj _ _ _ _ (@aO _ _ _ _ _ _ _ (@bE _) (pv 4) (@ai _ _ _ _) (@aw _ _ _))) (@Fw _ _ _ _ _ _ rfl (@cQ _ _ _ _ _ (@bh _ _ 6 _ nd rfl (zas rfl) (by first |rfl |exact .inl rfl |exact .inr rfl |decide |(intro _;rfl) |assumption)) (@cQ _ _ _ _ _ (@bh _ _ 7 _ nd rfl (zas rfl) (by first |rfl |exact .inl rfl |exact .inr rfl |decide |(intro _;rfl) |assumption)) (@cQ _ _ _ _ _ (@bh _ _ 8 _ nd rfl (zas rfl) (by first |rfl |exact .inl rfl |exact .inr rfl |decide |(intro _;rfl) |assumption)) (@mV _) (by first |rfl |exact .inl rfl |exact .inr rfl |decide |(intro _;rfl) |assumption)) (by first |rfl |exact .inl rfl |exact .inr rfl |decide |(intro _;rfl) |assumption)) (by first |rfl |exact .inl rfl |exact .inr rfl |decide |(intro _;rfl) |assumption)) (by first |rfl |exact .inl rfl |exact .inr rfl |decide |(intro _;rfl) |assumption) (by first |rfl |exact .inl rfl |exact .inr rfl |decide |(intro _;rfl) |assumption)) (@ao _ _ _ (@aX _ _ _ _ _ _ _ _ (@PW.pt _ _ _ (@pw_or _ _ _ _ _ _ _ (@iV _ _ _ (@bo _ _ _ _ _ _ _ _ _ sT rfl T.dJ PyProof.Rows.Boot.«isinstance» (@ae _ _ _ _ _ (pv 7) (@ae _ _ _ _ _ (qh (v:=.ty "bool") rfl T.vi PyProof.Rows.Boot.«bool» rfl) (@af _) (@ah _ _ _ _)) (@ah _ _ _ _)) (by first |rfl |exact .inl rfl |exact .inr rfl |decide |(intro _;rfl) |assumption) (by first |rfl |exact .inl rfl |exact .inr rfl |decide |(intro _;rfl) |assumption) (by first |rfl |exact .inl rfl |exact .inr rfl |decide |(intro _;rfl) |assumption) (by first |rfl |exact .inl rfl |exact .inr rfl |decide |(intro _;rfl) |assumption)) (by first |rfl |exact .inl rfl |exact .inr rfl |decide |(intro _;rfl) |assumption)) (@pw_or1 _ _ _ _ (@iV _ _ _ (@bo _ _ _ _ _ _ _ _ _ sT rfl T.dJ PyProof.Rows.Boot.«isinstance» (@ae _ _ _ _ _ (pv 8) (@ae _ _ _ _ _ (qh (v:=.ty "bool") rfl T.vi PyProof.Rows.Boot.«bool» rfl) (@af _) (@ah _ _ _ _)) (@ah _ _ _ _)) (by first |rfl |exact .inl rfl |exact .inr rfl |decide |(intro _;rfl) |assumption) (by first |rfl |exact .inl rfl |exact .inr rfl |decide |(intro _;rfl) |assumption) (by first |rfl |exact .inl rfl |exact .inr rfl |decide |(intro _;rfl) |assumption) (by first |rfl |exact .inl rfl |exact .inr rfl |decide |(intro _;rfl) |assumption)) (by first |rfl |exact .inl rfl |exact .inr rfl |decide |(intro _;rfl) |assumption))))) (@ao _ _ _ (@aH _ _ _ _ (@vA _ _ _ _))) (@aF _))) (by first |rfl |exact .inl rfl |exact .inr rfl |decide |(intro _;rfl) |assumption)) (@ag _ _ _ _ _ (@aX _ _ _ _ _ _ _ _ (@oB _ _ _ _ (@iV _ _ _ (@ax _ _ _ _ _ _ _ _ _ _ _ _ _ _ _ _ pU (hr.mono (by first|decide|omega)) rfl T.dH.m T.dH.F.kp T.dH.b .nil bc (@ae _ _ _ _ _ (@aO _ _ _ _ _ _ _ (@bE _) (pv 4) (@ai _ _ _ _) (@aw _ _ _)) (@ae _ _ _ _ _ (pv 5) (@af _) (@ah _ _ _ _)) (@bg _ _ _ _ _)) (by first |rfl |exact .inl rfl |exact .inr rfl |decide |(intro _;rfl) |assumption) (by first |rfl |exact .inl rfl |exact .inr rfl |decide |(intro _;rfl) |assumption) (by first |rfl |exact .inl rfl |exact .inr rfl |decide |(intro _;rfl) |assumption)) (by first |rfl |exact .inl rfl |exact .inr rfl |decide |(intro _;rfl) |assumption))) (@ao _ _ _ (@aH _ _ _ _ (@vA _ _ _ _))) (@aF _)) (@ag _ _ _ _ _ (@wZ _ _ _ _ _ _ _ ["some"] [] _ _ _ _ 9 _ _ _ nd rfl (zas rfl) rfl (by rfl) (by rfl) (@fj _ _ _ _ (pv 5)) (fun _ _ _ _=>(@bh _ _ 0 _ (by show List.Nodup (["some"]:List Str);decide +kernel) rfl (zas rfl) (by first |rfl |exact .inl rfl |exact .inr rfl |decide |(intro _;rfl) |assumption))) (fun _ _ _ _=>(@j4 _)) (fun _ _ _ _=>(@bo _ _ _ _ _ _ _ _ _ (qJ (K:=K) rfl) rfl T.fY PyProof.Rows.Boot.«len» (@ae _ _ _ _ _ (pv 0) (@af _) (@ah _ _ _ _)) (by first |rfl |exact .inl rfl |exact .inr rfl |decide |(intro _;rfl) |assumption) (by first |rfl |exact .inl rfl |exact .inr rfl |decide |(intro _;rfl) |assumption) (by first |rfl |exact .inl rfl |exact .inr rfl |decide |(intro _;rfl) |assumption) (by first |rfl |exact .inl rfl |exact .inr rfl |decide |(intro _;rfl) |assumption))) (by first |rfl |exact .inl rfl |exact .inr rfl |decide |(intro _;rfl) |assumption) (by first |rfl |exact .inl rfl |exact .inr rfl |decide |(intro _;rfl) |assumption) (by first |rfl |exact .inl rfl |exact .inr rfl |decide |(intro _;rfl) |assumption)) (@ag _ _ _ _ _ (@jI _ _ _ _ _ _ _ _ PassesOwn.never rfl (@fj _ _ _ _ (pv 5)) (@bh _ _ 10 _ nd rfl (zas rfl) (by first |rfl |exact .inl rfl |exact .inr rfl |decide |(intro _;rfl) |assumption)) (@ao _ _ _ (@ck _ _ _ _ (@gZ _ _ _ _ _ _ _ _ _ _ _ _ zaB zaG zaH cg (pv 10) (@ae _ _ _ _ _ (@ai _ _ _ _) (@af _) (@ay _ _ _ _ _)) (by first |rfl |exact .inl rfl |exact .inr rfl |decide |(intro _;rfl) |assumption) (by first |rfl |exact .inl rfl |exact .inr rfl |decide |(intro _;rfl) |assumption) (by first |rfl |exact .inl rfl |exact .inr rfl |decide |(intro _;rfl) |assumption) (by first |rfl |exact .inl rfl |exact .inr rfl |decide |(intro _;rfl) |assumption) (by first |rfl |exact .inl rfl |exact .inr rfl |decide |(intro _;rfl) |assumption)) (by first |rfl |exact .inl rfl |exact .inr rfl |decide |(intro _;rfl) |assumption))) (by first |rfl |exact .inl rfl |exact .inr rfl |decide |(intro _;rfl) |assumption)) (@ag _ _ _ _ _ (@aX _ _ _ _ _ _ _ _ (@az _ _ _ _ _ _ _ _ (@LQ _ (RI hr)) (@kX _ _ _ _ _ _ _ ["some"] [] _ _ _ _ rfl (by rfl) (by rfl) (@fj _ _ _ _ (pv 5)) (fun _ _ _ _=>(@bh _ _ 0 _ (by show List.Nodup (["some"]:List Str);decide +kernel) rfl (zas rfl) (by first |rfl |exact .inl rfl |exact .inr rfl |decide |(intro _;rfl) |assumption))) (fun _ _ _ _=>(@j4 _)) (fun _ _ _ _=>(@bo _ _ _ _ _ _ _ _ _ (qJ (K:=K) rfl) rfl T.fY PyProof.Rows.Boot.«len» (@ae _ _ _ _ _ (pv 0) (@af _) (@ah _ _ _ _)) (by first |rfl |exact .inl rfl |exact .inr rfl |decide |(intro _;rfl) |assumption) (by first |rfl |exact .inl rfl |exact .inr rfl |decide |(intro _;rfl) |assumption) (by first |rfl |exact .inl rfl |exact .inr rfl |decide |(intro _;rfl) |assumption) (by first |rfl |exact .inl rfl |exact .inr rfl |decide |(intro _;rfl) |assumption))) (by first |rfl |exact .inl rfl |exact .inr rfl |decide |(intro _;rfl) |assumption)) (@kX _ _ _ _ _ _ _ ["size"] [] _ _ _ _ rfl (by rfl) (by rfl) (@fj _ _ _ _ (pv 9)) (fun _ _ _ _=>(@bh _ _ 0 _ (by show List.Nodup (["size"]:List Str);decide +kernel) rfl (zas rfl) (by first |rfl |exact .inl rfl |exact .inr rfl |decide |(intro _;rfl) |assumption))) (fun _ _ _ _=>(@j4 _)) (fun _ _ _ _=>(@aC _ _ _ _ _ _ _ _ (@dU _) (pv 0) (@ai _ _ _ _))) (by first |rfl |exact .inl rfl |exact .inr rfl |decide |(intro _;rfl) |assumption)) (aN _)) (@ao _ _ _ (@aH _ _ _ _ (@vA _ _ _ _))) (@aF _)) (@ao _ _ _ (@aH _ _ _ _ (@kU _ _ _ _ _ _ _ _ (RG (RI hr)) (@ax _ _ _ _ _ _ _ _ _ _ _ _ _ _ _ _ Nn (hr.mono (by first|decide|omega)) rfl T.nP.m T.nP.F.kp T.nP.b .nil LP (@ae _ _ _ _ _ (pv 3) (@af _) (@ah _ _ _ _)) (by first |rfl |exact .inl rfl |exact .inr rfl |decide |(intro _;rfl) |assumption) (by first |rfl |exact .inl rfl |exact .inr rfl |decide |(intro _;rfl) |assumption) (by first |rfl |exact .inl rfl |exact .inr rfl |decide |(intro _;rfl) |assumption)) (pv 2) (aN _)))))))))))))),rfl,?_⟩;have line:zd2=2 ^ 24:=rfl;refine aD fun U1 sj=>?_;walk_at "rd";refine⟨a,ns,0,rfl,hS,fun hd=>?_⟩;refine .mk a ns hd rfl hS hl fun l R pv ws c d H2 s2 yl yR ne lw rr hk ok ZA ⟨lv,CA⟩ hbx rpr=>?_;refine⟨l,_,rfl,.of yl,rfl,_,_,rfl,_,_,rfl,rfl,(sj _ _).mpr (aD fun U2 qV=>?_)⟩;clear sj;have fl:ws.flatten.length+ws.length<=20000:=by
  have:=Bp ws 200 fun r hr=>(ok r hr).1;lia
 walk_at "rd";refine⟨rfl,R,ws,10,by decide +kernel,rfl,.of yR,by lia,(qV _ _).mpr (aD fun U3 wc=>?_)⟩;clear qV;have eg:aU 10 (cC 10 ws)=ws:=yv ne fun r hr=>(ok r hr).2;have lg:=yt 10 ws;have Xi:=Gv CA hbx;have Wc:=PM.Bt ws PM.c0 1 0 (fun ss hs=>by rw[zad.mp hs];exact zag _);rw[ZA] at Wc;have rdq:∀(H0:Hp) (Q0:VK) (E0':XK),(∀v bx aE H',ar H0 H'->WM K H0 H' v bx aE c->Q0 v H')->M0 K [sv (cC 10 ws)] H0 Q0 E0':=fun H0 Q0 E0' h=>by
  refine .mk (cC 10 ws) d rfl (by lia) (by rw[eg];lia) (by rw[eg];exact rr) hk fun v bx aE H' s' rd=>h v bx aE H' s' ?_;rw[eg] at rd;rw[<- ZA];exact rd
 walk_at "rd";refine rdq _ _ _ fun v bx aE H3 s3 rd=>(wc _ _).mpr (aD fun U4 zj=>?_);clear wc;obtain⟨fa,rfl,yf⟩:=rd.pr;have ZC:=rd.rep;have ZD:=rpr.mono s3;walk_at "rd";refine⟨fa,_,_,_,rfl,.of yf,PN,?_⟩;rw[if_neg (by decide)];refine⟨OR c,OR c,ZC,ZD,Xi,Xi,?_⟩;rw[eqv_refl];refine⟨_,rfl,?_⟩;refine bW (fun z=>absurd z (by decide)) fun _=>?_;refine(zj _ _).mpr (aD fun U5 Fq=>?_);clear zj;walk_at "rd";refine a9 (.of yf) (v:=V.ref bx) (aQ (j:=0) rfl) fun LS fL=>?_;generalize g1:upd H3 LS _=H4;have t1:=gL g1 fL;have z1:=Jn g1;clear g1;refine(Fq _ _).mpr (aD fun U6 Fs=>?_);clear Fq;obtain⟨ub,yb,rb⟩:=rd.box;have yb4:=t1 _ _ yb;have rb4:=rb.mono t1;have lub:ub.length<=72:=by
  rw[mK rb,zai,<- ZA];have:=PM.Ir ws PM.c0 1;have h0:PM.c0.nB.length=0:=rfl;lia
 refine oS fun W hW=>?_;walk_at "rd";refine a9 (.of (t1 _ _ yf)) (v:=V.ref bx) (aQ (j:=0) rfl) ⟨bx,rfl,⟨_,.of yb4⟩,hW _ _ (mn (K:=K) (a:=bx) (xs:=ub) (fun j σ Hx=>∃x6 x7 x8:Option V,σ=[some (.ref a),some (.ref R),some pv,some (sv (cC 10 ws)),some (.ref fa),some (.ref LS),x6,x7,x8,none,none]/\Hx=H4) ⟨none,none,none,rfl,rfl⟩ (fun j σ Hx _ z=>by obtain⟨_,_,_,_,rfl⟩:=z;exact .of yb4) ?_ ?_)⟩
 ·intro j x σ Hx hx z;obtain⟨x6,x7,x8,rfl,rfl⟩:=z;obtain⟨b,ba,Qb,rfl,sb⟩:=B5 rb4 hx;walk_at "rd";refine⟨ba,_,rfl,sb,rfl,_,_,rfl,_,_,rfl,_,_,rfl,rfl,_,_,_,_,rfl,.int _,HL,?_⟩;rw[if_neg zan];refine⟨_,_,_,_,rfl,.int _,HL,?_⟩;rw[if_neg zan];exact⟨_,_,_,rfl⟩
 intro σ Hx z;obtain⟨x6,x7,x8,rfl,rfl⟩:=z;refine(Fs _ _).mpr (aD fun U7 V6=>?_);clear Fs;walk_at "rd";have nLa:LS ∉ aE:=fun z=>by
  obtain⟨u1,y1⟩:=rd.ct.lists z;rw[fL] at y1;cases y1
 have ael:=PM.JL rd.ok.ft 6 rd.ok.ft.ne;have h0b:PM.c0.aJ.length=1:=rfl;refine a9 (.of (t1 _ _ yf)) (v:=V.ref (aE.getD 0 0)) (aQ (j:=1) rfl) (.mk LS aE c lv 0 [V.ref bx] rfl rd.ok CA (rd.ct.same t1) rd.ok.ft.ne (by rw[CA.l0];lia) nLa z1 (by rw[zav];have:=Wc.2;lia) (fun ss hs=>by have:=Wc.1 ss hs;lia) fun H5 TL S2=>?_);refine⟨true,rfl,?_⟩;rw[if_neg (by decide)];refine(V6 _ _).mpr (aD fun U8 V7=>?_);clear V6;obtain⟨nA,mA⟩:=Gw rd.ct rd.ok.ft rd.OO 6;have eA:[V.ref bx]++(PM.reach c.aJ 6 0).map (fun j=>V.ref (aE.getD j 0))=(bx::(PM.reach c.aJ 6 0).map fun j=>aE.getD j 0).map V.ref:=by rw[zar,zbv];rfl
 rw[eA] at S2;have lA:(bx::(PM.reach c.aJ 6 0).map fun j=>aE.getD j 0).length<=200:=by rw[zah,zai];have:=Wc.2;lia
 have hX:∀y∈bx::(PM.reach c.aJ 6 0).map (fun j=>aE.getD j 0),y≠LS/\H2 y=none/\H5 y=some (.lst (nX H5 y))/\(nX H5 y).length<=200:=fun y hy=>by
  have hf:=rd.fr y (mA y hy);have h3:∃xs,H3 y=some (.lst xs)/\xs.length<=200:=by
   rcases mA y hy with z |z
   ·rw[z];exact⟨ub,yb,by lia⟩
   ·obtain⟨i,hi,ei⟩:=zbt z;have Ib:i<c.aJ.length:=by rw[<- rd.ct.ln];exact hi
    obtain⟨us,y1,ix⟩:=rd.ct.ct i y _ (by rw[zac hi,ei]) (zac Ib);exact⟨us,y1,by rw[ix.1];have:=Wc.1 _ (zaI Ib);lia⟩
  obtain⟨xs,y3,l3⟩:=h3;have nLS:y≠LS:=fun z=>by rw[z,fL] at y3;cases y3
  have h5:=TL _ _ nLS (t1 _ _ y3);have e5:nX H5 y=xs:=by unfold nX;rw[h5]
  exact⟨nLS,hf,by rw[e5];exact h5,by rw[e5];exact l3⟩
 have Xc:ar H2 H5:=fun y u e=>TL _ _ (fun z=>by have:=s3 _ _ e;rw[z,fL] at this;cases this) (t1 _ _ (s3 _ _ e));generalize bx::(PM.reach c.aJ 6 0).map (fun j=>aE.getD j 0)=A0 at *;walk_at "rd";simp only[oJ];walk_at "rd";have ZE:∀ {i:Nat} {x:V},(A0.map V.ref)[i]?=some x->∃y,A0[i]?=some y/\x=V.ref y:=fun {i x} hx=>by
  rw[zaz] at hx;obtain⟨y,h1,h2⟩:=zaP.mp hx;exact⟨y,h1,h2.symm⟩
 have lAm:(A0.map V.ref).length=A0.length:=zai _;have tab:∀(g:zdU->Int),(zaE (A0.map V.ref).length).map (fun i=>V.int ((A0.map g).getD i 0))=(A0.map g).map V.int:=fun g=>by
  refine zcr (by simp) fun i h1 h2=>?_;rw[zbw,zck,zbw,zae,zac (by simpa using h2)];rfl
 have ZF:∀(g:zdU->Int) {i:Nat} {y:zdU},A0[i]?=some y->(A0.map g).getD i 0=g y:=fun g {i y} h=>by rw[zae,zaz,h];rfl
 refine⟨⟨_,.of S2⟩,fun D hD=>mE (K:=K) (r:=[]) (fun i=>V.int ((A0.map fun y=>((nX H5 y).length:Int)).getD i 0)) (.of S2) (by lia) hD (fun i x Hc hx sc RR JS=>?_) (fun H6 s6 yD=>?_)⟩
 ·obtain⟨y,h1,rfl⟩:=ZE hx;rw[ZF _ h1] at JS;walk_at "rd";exact⟨y,_,rfl,.inl (.of (sc _ _ (hX y (zal h1)).2.2.1)),JS⟩
 rw[tab] at yD;have nDA:D ∉ A0:=fun z=>by have:=(hX D z).2.2.1;rw[hD] at this;cases this
 have ZG:LS ∉ A0:=fun z=>(hX LS z).1 rfl;refine(V7 _ _).mpr (aD fun U9 hU9=>?_);clear V7;have Xj:=s6 _ _ S2;refine oS fun W hW=>?_;walk_at "rd";refine⟨⟨_,.of Xj⟩,hW _ _ (mn (K:=K) (a:=LS) (xs:=A0.map V.ref) (fun j σ Hx=>∃O6:Option V,σ=[some (.ref a),some (.ref R),some pv,some (sv (cC 10 ws)),some (.ref fa),some (.ref LS),x6,x7,x8,some (.ref D),O6]/\(∀y u,y ∉ A0->H6 y=some u->Hx y=some u)/\∀(k:Nat) y,A0[k]?=some y->Hx y=some (.lst (nX H5 y++if k<j then [V.int 0] else []))) ⟨none,rfl,fun y u _ e=>e,fun k y h=>by rw[if_neg (Nat.not_lt_zero _),zaC];exact s6 _ _ (hX y (zal h)).2.2.1⟩ (fun j σ Hx _ z=>by obtain⟨_,_,kp,_⟩:=z;exact .of (kp _ _ ZG Xj)) ?_ ?_)⟩
 ·intro j x σ Hx hx z;obtain⟨O6,rfl,TM,Xk⟩:=z;obtain⟨y,h1,rfl⟩:=ZE hx;have hy:=Xk j y h1;rw[if_neg (zbL _),zaC] at hy;have my:=zal h1;walk_at "rd";refine⟨.inl ⟨rfl,_,.of hy⟩,y,_,_,rfl,rfl,hy,by have:=(hX y my).2.2.2;lia,_,rfl,fun y2 u n2 e=>?_,fun k y2 h2=>?_⟩
  ·rw[aq (show y2≠y from fun z=>n2 (z▸my))];exact TM y2 u n2 e
  ·by_cases e:k=j
   ·subst e;rw[h1] at h2;cases h2;rw[aj,if_pos (zcb _)]
   ·have ny:y2≠y:=fun z=>e (by
     have l1:=zao.mp h1;have l2:=zao.mp h2;exact(zbX nA).mp (by rw[l2.2,l1.2,z]))
    rw[aq ny,Xk k y2 h2];by_cases hk:k<j
    ·rw[if_pos hk,if_pos (Nat.lt_succ_of_lt hk)]
    ·rw[if_neg hk,if_neg (by lia)]
 intro σ Hx z;obtain⟨O6,rfl,TM,Xk⟩:=z;have hA:∀y∈A0,Hx y=some (.lst (nX H5 y++[V.int 0])):=fun y hy=>by
  obtain⟨k,hk,ek⟩:=zbt hy;have:=Xk k y (by rw[zac hk,ek]);rw[if_pos (by rw[lAm];exact hk)] at this;exact this
 have Xd:ar H2 Hx:=fun y u e=>TM y u (fun z=>by rw[(hX y z).2.1] at e;cases e) (s6 _ _ (Xc _ _ e));refine(hU9 _ _).mpr (aD fun Ua hUa=>?_);clear hU9;walk_at "rd";simp only[oJ];walk_at "rd";have E1:∀(Hq:Hp) (l:List Int),aG K Hq (l.map Dp.int) (l.map V.int):=fun Hq l=>by
  induction l with
  |nil=>exact .nil
  |cons i r ih=>exact .cons (Rep.bO.mpr rfl) ih
 refine⟨⟨_,.of (TM _ _ ZG Xj)⟩,fun D1 SQ=>mE (K:=K) (r:=[]) (fun i=>V.int ((A0.map fun y=>((nX H5 y).length:Int)+1).getD i 0)) (.of (TM _ _ ZG Xj)) (by lia) SQ (fun i x Hc hx sc RR JS=>?_) (fun H7 s7 yD1=>?_)⟩
 ·obtain⟨y,h1,rfl⟩:=ZE hx;rw[ZF _ h1] at JS;walk_at "rd";refine⟨y,_,rfl,.inl (.of (sc _ _ (hA y (zal h1)))),?_⟩;rw[zaf,zav];exact JS
 rw[tab] at yD1;walk_at "rd";have yD7:=s7 _ _ (TM _ _ nDA yD);refine⟨⟨_,.of yD7⟩,fun D2 O7=>mE (K:=K) (r:=[]) (fun i=>V.int ((A0.map fun y=>((nX H5 y).length:Int)+1).getD i 0)) (.of yD7) (by rw[zai,zai];lia) O7 (fun i x Hc hx sc RR JS=>?_) (fun H8 s8 Xh=>?_)⟩
 ·rw[zaz] at hx;obtain⟨m,hm,rfl⟩:=zaP.mp hx;rw[zaz] at hm;obtain⟨y,h1,rfl⟩:=zaP.mp hm;rw[ZF _ h1] at JS;walk_at "rd";exact JS
 have lD:((A0.map fun y=>((nX H5 y).length:Int)).map V.int).length=(A0.map V.ref).length:=by rw[zai,zai,zai]
 rw[lD,tab] at Xh;refine⟨.lst ((A0.map fun y=>((nX H5 y).length:Int)+1).map Dp.int),.lst ((A0.map fun y=>((nX H5 y).length:Int)+1).map Dp.int),Rep.iq.mpr ⟨D1,_,rfl,.of (s8 _ _ yD1),E1 _ _⟩,Rep.iq.mpr ⟨D2,_,rfl,.of Xh,E1 _ _⟩,D0 _,D0 _,?_⟩;rw[eqv_refl];refine⟨_,rfl,?_⟩;refine bW (fun z=>absurd z (by decide)) fun _=>?_;refine(hUa _ _).mpr ?_;clear hUa;walk_at "rd";refine rdq _ _ _ fun v2 bx2 aeo H9 s9 rd2=>?_;refine⟨OR c,OR c,rd2.rep,rpr.mono (Xd.trans (s7.trans (s8.trans s9))),Xi,Xi,?_⟩;rw[eqv_refl];exact q _
end
end Sy
end
section
set_option maxHeartbeats 4000000
namespace Sy
open PySem L2
section
variable{P:zd6}{w:zdW}{K:zaa}{mg:Str->Option zdV}{base:Heap}
theorem all_mk{l:PySem.W.OpenLaw}{h:Heap}{fa:zdU}(X:K.In h)(G:h.Ns zd1 mg)(hfa:mg "law"=some (.ref fa))
 {nK i5 fK iz gR hG ke fM d0 eT c8 yS mO kC d4 jy gC kD kE gE jz kF d7 eO iD fS hJ iF hV fT dO fU jA iH iI gF kG iK eJ fV Iv:zdU}
 {aI:zdU}
 {cm:zdU} {zr pV:Option zdU} {zt:Array (Option zdV)} {zu pW pX pY kI pZ:zdV}
 {bG:zdU} {wM og:Option zdU} {wN:Array (Option zdV)} {wO oh oj om jT oo:zdV}
 {bJ:zdU} {zv p7:Option zdU} {zw:Array (Option zdV)} {zx p8 p9 qa kJ qb:zdV}
 {a7:zdU}
 {cU:zdU} {Ak qW:Option zdU} {Al:Array (Option zdV)} {Am qX qY qZ ml q0:zdV}
 {bU:zdU} {sk kK:Option zdU} {sq:Array (Option zdV)} {sr kL kM kN gW kO:zdV}
 {bD:zdU} {qc jD:Option zdU} {qd:Array (Option zdV)} {qe jE jF jG f7 jH:zdV}
 {bV:zdU} {su kP:Option zdU} {sA:Array (Option zdV)} {sC kQ kR kS gX kT:zdV}
 {nN:zdU}
 {eV:zdU}
 {bA:zdU}
 {eW:zdU}
 {eX:zdU}
 {cW:zdU}
 {jo:zdU}
 {mh:zdU}
 {jq:zdU}
 {mj:zdU}
 {JT:_}
 {JU:_}
 {fX:zdU} {E2:Option zdU} {E3:Array (Option zdV)} {GP:Nat} {ua:Array zdV}
 {zy:_}
 {zA:_}
 {CF:_}
 {wQ:_}
 {E4:_}
 {CG:_}
 {E5:_}
 {CH:_}
 {E6:_}
 {cX:zdU} {qf:Array DictEntry} {zB:Nat}
 (Pa:FH K "is_of" B8 nK)
 (JV:FH K "is_name" u6 i5)
 (E7:FH K "is_number" pq fK)
 (CI:FH K "expression" nE iz)
 (GQ:FH K "names_in" rV gR)
 (E8:FH K "pieces_of" px hG)
 (JW:FH K "kind_of" u7 ke)
 (GR:FH K "sum_from" rW fM)
 (zC:FH K "product_from" kr d0)
 (An:FH K "factor_from" lY eT)
 (zD:FH K "bracket_from" ku c8)
 (S4:FH K "read" Gx yS)
 (JX:FH K "form_of" u9 mO)
 (GS:FH K "box_form" rX kC)
 (vw:FH K "condition_form" i3 d4)
 (E9:FH K "name_from" pz jy)
 (Ao:FH K "number_from" lZ gC)
 (GU:FH K "take_row" rY kD)
 (GV:FH K "take_box" rZ kE)
 (Ap:FH K "is_measured" l7 gE)
 (Fb:FH K "take_else" pA jz)
 (GW:FH K "take_end" r6 kF)
 (vz:FH K "take_statement" i4 d7)
 (wR:FH K "names_of_form" jQ eO)
 (CJ:FH K "bodies_for" nF iD)
 (zE:FH K "_law_cell_at" kx fS)
 (Fc:FH K "_law_stir" pB hJ)
 (CK:FH K "_law_names" b8 iF)
 (Fd:FH K "_law_leaf" pC hV)
 (Fe:FH K "_law_tree" pD fT)
 (Aq:FH K "_law_worded" l8 dO)
 (zF:FH K "_law_deepest" ky fU)
 (Ff:FH K "_law_expr" pE jA)
 (CL:FH K "_law_boxes" nG iH)
 (CM:FH K "_law_plain" nH iI)
 (Ar:FH K "_law_opener" ma gF)
 (GX:FH K "_law_row" r9 kG)
 (CO:FH K "_law_built" nI iK)
 (CQ:FH K "_law_whole" nJ eJ)
 (Fg:FH K "_law_body" pF fV)
 (QI:FH K "law" M7 Iv)
 (Np:zay K zd1 "Pieces"=some (some (.ref aI)))
 (JY:zbZ K aI Str.empty=true)
 (JZ:zca K aI=true)
 (J0:zco K aI=true)
 (J7:zaN K (.ref aI) "__setattr__"=some (some (.builtin "object.__setattr__")))
 (As:zaN K (.ref aI) "__init__"=some (some (.ref cm)))
 (Au:K.lookup cm=some ⟨zu,zr,.func (zaU "__init__" "Pieces.__init__" (cN cE) (bI cE) (av cE) .none pW pX pY pV kI pZ),zt⟩)
 (Av:zbq K kI "Pieces.__init__"=true)
 (Aw:za7 K (.ref cm)=true)
 (Ax:zbJ K (.ref cm)=true)
 (vf:zcH K aI=true)
 (J8:za7 K (.ref aI)=true)
 (zG:zaN K (.ref aI) "ahead"=some (some (.ref bG)))
 (zH:K.lookup bG=some ⟨wO,wM,.func (zaU "ahead" "Pieces.ahead" (cN cp) (bI cp) (av cp) .none oh oj om og jT oo),wN⟩)
 (zJ:zbq K jT "Pieces.ahead"=true)
 (qg:za7 K (.ref bG)=true)
 (zK:zbJ K (.ref bG)=true)
 (Ay:zaN K (.ref aI) "take"=some (some (.ref bJ)))
 (Az:K.lookup bJ=some ⟨zx,zv,.func (zaU "take" "Pieces.take" (cN cF) (bI cF) (av cF) .none p8 p9 qa p7 kJ qb),zw⟩)
 (AA:zbq K kJ "Pieces.take"=true)
 (q5:za7 K (.ref bJ)=true)
 (AB:zbJ K (.ref bJ)=true)
 (eF:zaN K (.ref aI) "pieces"=some none)
 (dy:zaN K (.ref aI) "place"=some none)
 (Pb:zay K zd1 "Draft"=some (some (.ref a7)))
 (Nq:zbZ K a7 Str.empty=true)
 (Nr:zca K a7=true)
 (Nt:zco K a7=true)
 (Nu:zaN K (.ref a7) "__setattr__"=some (some (.builtin "object.__setattr__")))
 (CS:zaN K (.ref a7) "__init__"=some (some (.ref cU)))
 (CT:K.lookup cU=some ⟨Am,Ak,.func (zaU "__init__" "Draft.__init__" (cN cT) (bI cT) (av cT) .none qX qY qZ qW ml q0),Al⟩)
 (CU:zbq K ml "Draft.__init__"=true)
 (CV:za7 K (.ref cU)=true)
 (CY:zbJ K (.ref cU)=true)
 (yT:zcH K a7=true)
 (Nv:za7 K (.ref a7)=true)
 (ud:zaN K (.ref a7) "innermost"=some (some (.ref bU)))
 (uf:K.lookup bU=some ⟨sr,sk,.func (zaU "innermost" "Draft.innermost" (cN bS) (bI bS) (av bS) .none kL kM kN kK gW kO),sq⟩)
 (ug:zbq K gW "Draft.innermost"=true)
 (lP:za7 K (.ref bU)=true)
 (uh:zbJ K (.ref bU)=true)
 (qB:zaN K (.ref a7) "second_body"=some (some (.ref bD)))
 (qC:K.lookup bD=some ⟨qe,qc,.func (zaU "second_body" "Draft.second_body" (cN bC) (bI bC) (av bC) .none jE jF jG jD f7 jH),qd⟩)
 (qD:zbq K f7 "Draft.second_body"=true)
 (jW:za7 K (.ref bD)=true)
 (qE:zbJ K (.ref bD)=true)
 (ui:zaN K (.ref a7) "box_names"=some (some (.ref bV)))
 (uj:K.lookup bV=some ⟨sC,su,.func (zaU "box_names" "Draft.box_names" (cN bT) (bI bT) (av bT) .none kQ kR kS kP gX kT),sA⟩)
 (uk:zbq K gX "Draft.box_names"=true)
 (lQ:za7 K (.ref bV)=true)
 (um:zbJ K (.ref bV)=true)
 (da:zaN K (.ref a7) "boxes"=some none)
 (e6:zaN K (.ref a7) "body"=some none)
 (bw:zaN K (.ref a7) "nest"=some none)
 (GY:zay K zd1 "RowError"=some (some (.ref nN)))
 (J9:zay K zd1 "TooLong"=some (some (.ref eV)))
 (vg:zbx K eV [.type "ValueError",.type "Exception",.type "BaseException",.type "object"] "ValueError.__new__"=true)
 (yU:zaY K (.ref eV) (.ref eV)=some true)
 (Pc:zay K zd1 "NoRow"=some (some (.ref bA)))
 (fD:zbx K bA [.type "ValueError",.type "Exception",.type "BaseException",.type "object"] "ValueError.__new__"=true)
 (EE:zaY K (.ref bA) (.ref bA)=some true)
 (Ka:zay K zd1 "NoPlace"=some (some (.ref eW)))
 (mQ:zbx K eW [.type "ValueError",.type "Exception",.type "BaseException",.type "object"] "ValueError.__new__"=true)
 (yV:zaY K (.ref eW) (.ref eW)=some true)
 (Kb:zay K zd1 "TooDeep"=some (some (.ref eX)))
 (vh:zbx K eX [.type "ValueError",.type "Exception",.type "BaseException",.type "object"] "ValueError.__new__"=true)
 (yW:zaY K (.ref eX) (.ref eX)=some true)
 (Fh:zay K zd1 "NoMeasure"=some (some (.ref cW)))
 (pN:zbx K cW [.type "ValueError",.type "Exception",.type "BaseException",.type "object"] "ValueError.__new__"=true)
 (tW:zaY K (.ref cW) (.ref cW)=some true)
 (Pd:zay K zd1 "Twice"=some (some (.ref jo)))
 (Cb:zbx K jo [.type "ValueError",.type "Exception",.type "BaseException",.type "object"] "ValueError.__new__"=true)
 (EF:zaY K (.ref jo) (.ref jo)=some true)
 (S5:zay K zd1 "Full"=some (some (.ref mh)))
 (GA:zbx K mh [.type "ValueError",.type "Exception",.type "BaseException",.type "object"] "ValueError.__new__"=true)
 (Iy:zaY K (.ref mh) (.ref mh)=some true)
 (Pe:zay K zd1 "NoBox"=some (some (.ref jq)))
 (Cc:zbx K jq [.type "ValueError",.type "Exception",.type "BaseException",.type "object"] "ValueError.__new__"=true)
 (EG:zaY K (.ref jq) (.ref jq)=some true)
 (S6:zay K zd1 "Open"=some (some (.ref mj)))
 (GB:zbx K mj [.type "ValueError",.type "Exception",.type "BaseException",.type "object"] "ValueError.__new__"=true)
 (Iz:zaY K (.ref mj) (.ref mj)=some true)
 (Kc:zay K zd1 "LETTERS"=some (some (.str "abcdefghijklmnopqrstuvwxyz" JT)))
 (Kd:zay K zd1 "FIGURES"=some (some (.str "0123456789" JU)))
 (GZ:zay K zd1 "NO_NAMES"=some (some (.ref fX)))
 (G0:K.lookup fX=some ⟨.type "tuple",E2,.seq ua GP,E3⟩)
 (nQ:Vals [.str "box",.str "ask",.str "put",.str "say",.str "if",.str "else",.str "while",.str "must",.str "stop",.str "end"] ua.toList)
 (zL:zay K zd1 "MOST_LETTERS"=some (some (.int 8 zy)))
 (zM:zay K zd1 "MOST_FIGURES"=some (some (.int 3 zA)))
 (CZ:zay K zd1 "MOST_SIGNS"=some (some (.int 60 CF)))
 (wU:zay K zd1 "MOST_BRACKETS"=some (some (.int 5 wQ)))
 (Fi:zay K zd1 "MOST_ROWS"=some (some (.int 80 E4)))
 (C0:zay K zd1 "MOST_BOXES"=some (some (.int 4 CG)))
 (Fj:zay K zd1 "MOST_DEEP"=some (some (.int 5 E5)))
 (C3:zay K zd1 "LEAST_SIZE"=some (some (.int 2 CH)))
 (Fl:zay K zd1 "MOST_SIZE"=some (some (.int 10 E6)))
 (AD:zay K zd1 "WORD_COUNTS"=some (some (.ref cX)))
 (AE:K.lookup cX=some ⟨.type "dict",none,.dict qf zB, #[]⟩)
 (zN:(cX==sysModules)=false)
 (AF:Se l.prog w [(.inr "box",.int 4),(.inr "ask",.int 2),(.inr "put",.int 3),(.inr "say",.int 2),(.inr "must",.int 4),(.inr "if",.int 4),(.inr "else",.int 1),(.inr "while",.int 4),(.inr "end",.int 1),(.inr "stop",.int 1)] qf.toList)
 (fY:zay K zd1 "len"=some none)
 (qw:zay K zd1 "range"=some none)
 (Bu:zay K zd1 "int"=some none)
 (vi:zay K zd1 "bool"=some none)
 (EI:zay K zd1 "str"=some none)
 (GC:zay K zd1 "list"=some none)
 (tX:zay K zd1 "tuple"=some none)
 (Nc:zay K zd1 "all"=some none)
 (Nd:zay K zd1 "max"=some none)
 (dJ:zay K zd1 "isinstance"=some none)
 (pO:zay K zd1 "enumerate"=some none)
 (tY:zay K zd1 "ValueError"=some none)
 : ∃fd:zd3,(∀(s:zd4) (v:zdV),BindsTo s fd ⟨[v],[]⟩ [("script",v)])/\∀base:Heap,K.In base->base.Ns zd1 mg->a8 l.prog w K mg base gI 66 fa fd ["script"] (HG K):=by
 have e:=hfa.symm.trans (zaL X G QI.1);cases e;obtain⟨mM,j9⟩:=mF X G Pa (ps:=["word", "signs"]) fun _ _ _ _ _ _=>F6 fun _ _=>rfl;obtain⟨ja,gg⟩:=mF X G JV (ps:=["word"]) fun _ _ _ _ _ _=>xf fun _=>rfl;obtain⟨gb,dG⟩:=mF X G E7 (ps:=["word"]) fun _ _ _ _ _ _=>xf fun _=>rfl;obtain⟨jh,bN⟩:=mF X G CI (ps:=["word"]) fun _ _ _ _ _ _=>xf fun _=>rfl;obtain⟨g9,bu⟩:=mF X G GQ (ps:=["e"]) fun _ _ _ _ _ _=>xf fun _=>rfl;obtain⟨iA,ic⟩:=mF X G E8 (ps:=["word"]) fun _ _ _ _ _ _=>xf fun _=>rfl;obtain⟨kB,kf⟩:=mF X G JW (ps:=["sign"]) fun _ _ _ _ _ _=>xf fun _=>rfl;obtain⟨fP,cP⟩:=mF X G GR (ps:=["pieces", "depth"]) fun _ _ _ _ _ _=>F6 fun _ _=>rfl;obtain⟨eM,cq⟩:=mF X G zC (ps:=["pieces", "depth"]) fun _ _ _ _ _ _=>F6 fun _ _=>rfl;obtain⟨fQ,cG⟩:=mF X G An (ps:=["pieces", "depth"]) fun _ _ _ _ _ _=>F6 fun _ _=>rfl;obtain⟨dv,c9⟩:=mF X G zD (ps:=["pieces", "depth"]) fun _ _ _ _ _ _=>F6 fun _ _=>rfl;obtain⟨xk,nP⟩:=mF X G S4 (ps:=["text"]) fun _ _ _ _ _ _=>xf fun _=>rfl;obtain⟨nM,kg⟩:=mF X G JX (ps:=["row"]) fun _ _ _ _ _ _=>xf fun _=>rfl;obtain⟨lG,jb⟩:=mF X G GS (ps:=["words"]) fun _ _ _ _ _ _=>xf fun _=>rfl;obtain⟨fw,cZ⟩:=mF X G vw (ps:=["words"]) fun _ _ _ _ _ _=>xf fun _=>rfl;obtain⟨j6,cx⟩:=mF X G E9 (ps:=["word"]) fun _ _ _ _ _ _=>xf fun _=>rfl;obtain⟨iB,cH⟩:=mF X G Ao (ps:=["word"]) fun _ _ _ _ _ _=>xf fun _=>rfl;obtain⟨lH,jc⟩:=mF X G GU (ps:=["draft", "number", "form"]) fun _ _ _ _ _ _=>R0 fun _ _ _=>rfl;obtain⟨lI,jd⟩:=mF X G GV (ps:=["draft", "number", "box"]) fun _ _ _ _ _ _=>R0 fun _ _ _=>rfl;obtain⟨iC,eY⟩:=mF X G Ap (ps:=["size", "first"]) fun _ _ _ _ _ _=>F6 fun _ _=>rfl;obtain⟨j7,ie⟩:=mF X G Fb (ps:=["draft", "number"]) fun _ _ _ _ _ _=>F6 fun _ _=>rfl;obtain⟨lJ,je⟩:=mF X G GW (ps:=["draft", "number"]) fun _ _ _ _ _ _=>F6 fun _ _=>rfl;obtain⟨fz,c5⟩:=mF X G vz (ps:=["draft", "number", "form"]) fun _ _ _ _ _ _=>R0 fun _ _ _=>rfl;obtain⟨gc,dw⟩:=mF X G wR (ps:=["form"]) fun _ _ _ _ _ _=>xf fun _=>rfl;obtain⟨ji,gh⟩:=mF X G CJ (ps:=["word"]) fun _ _ _ _ _ _=>xf fun _=>rfl;obtain⟨gK,eB⟩:=mF X G zE (ps:=["script", "k"]) fun _ _ _ _ _ _=>F6 fun _ _=>rfl;obtain⟨iE,aA⟩:=mF X G Fc (ps:=["cell", "k"]) fun _ _ _ _ _ _=>F6 fun _ _=>rfl;obtain⟨jj,gj⟩:=mF X G CK (ps:=["head", "k", "many"]) fun _ _ _ _ _ _=>R0 fun _ _ _=>rfl;obtain⟨iG,ij⟩:=mF X G Fd (ps:=["number", "names"]) fun _ _ _ _ _ _=>F6 fun _ _=>rfl;obtain⟨gd,cy⟩:=mF X G Fe (ps:=["cell", "k", "deep", "names"]) fun _ _ _ _ _ _=>bn4 fun _ _ _ _=>rfl;obtain⟨d9,bZ⟩:=mF X G Aq (ps:=["tree", "more"]) fun _ _ _ _ _ _=>F6 fun _ _=>rfl;obtain⟨gM,eE⟩:=mF X G zF (ps:=["word"]) fun _ _ _ _ _ _=>xf fun _=>rfl;obtain⟨j8,bY⟩:=mF X G Ff (ps:=["cell", "k", "names"]) fun _ _ _ _ _ _=>R0 fun _ _ _=>rfl;obtain⟨jk,gk⟩:=mF X G CL (ps:=["head"]) fun _ _ _ _ _ _=>xf fun _=>rfl;obtain⟨jm,gm⟩:=mF X G CM (ps:=["cell", "k", "names"]) fun _ _ _ _ _ _=>R0 fun _ _ _=>rfl;obtain⟨iJ,eZ⟩:=mF X G Ar (ps:=["cell", "k", "names"]) fun _ _ _ _ _ _=>R0 fun _ _ _=>rfl;obtain⟨lK,jf⟩:=mF X G GX (ps:=["cell", "k", "opened", "names"]) fun _ _ _ _ _ _=>bn4 fun _ _ _ _=>rfl;obtain⟨jn,gn⟩:=mF X G CO (ps:=["script", "head"]) fun _ _ _ _ _ _=>F6 fun _ _=>rfl;obtain⟨eU,b9⟩:=mF X G CQ (ps:=["tree"]) fun _ _ _ _ _ _=>xf fun _=>rfl;obtain⟨gf,dH⟩:=mF X G Fg (ps:=["body", "lists"]) fun _ _ _ _ _ _=>F6 fun _ _=>rfl;obtain⟨vd,Iw⟩:=mF X G QI (ps:=["script"]) fun _ _ _ _ _ _=>xf fun _=>rfl;have jr:=oG (st:=cE) Au Av Aw;have AG:=jr.binds (ps:=["self", "word"]) fun _ _ _ _ _ _=>F6 fun _ _=>rfl;have iM:=oG (st:=cp) zH zJ qg;have zO:=iM.binds (ps:=["self"]) fun _ _ _ _ _ _=>xf fun _=>rfl;have jt:=oG (st:=cF) Az AA q5;have AH:=jt.binds (ps:=["self"]) fun _ _ _ _ _ _=>xf fun _=>rfl;have ka:=oG (st:=cT) CT CU CV;have C4:=ka.binds (ps:=["self"]) fun _ _ _ _ _ _=>xf fun _=>rfl;have fA:=oG (st:=bS) uf ug lP;have uo:=fA.binds (ps:=["self"]) fun _ _ _ _ _ _=>xf fun _=>rfl;have dS:=oG (st:=bC) qC qD jW;have qF:=dS.binds (ps:=["self"]) fun _ _ _ _ _ _=>xf fun _=>rfl;have fC:=oG (st:=bT) uj uk lQ;have uv:=fC.binds (ps:=["self"]) fun _ _ _ _ _ _=>xf fun _=>rfl
 let t:Ad:=⟨nK,
  mM,
  i5,
  ja,
  fK,
  gb,
  iz,
  jh,
  gR,
  g9,
  hG,
  iA,
  ke,
  kB,
  fM,
  fP,
  d0,
  eM,
  eT,
  fQ,
  c8,
  dv,
  yS,
  xk,
  mO,
  nM,
  kC,
  lG,
  d4,
  fw,
  jy,
  j6,
  gC,
  iB,
  kD,
  lH,
  kE,
  lI,
  gE,
  iC,
  jz,
  j7,
  kF,
  lJ,
  d7,
  fz,
  eO,
  gc,
  iD,
  ji,
  fS,
  gK,
  hJ,
  iE,
  iF,
  jj,
  hV,
  iG,
  fT,
  gd,
  dO,
  d9,
  fU,
  gM,
  jA,
  j8,
  iH,
  jk,
  iI,
  jm,
  gF,
  iJ,
  kG,
  lK,
  iK,
  jn,
  eJ,
  eU,
  fV,
  gf,
  fa,
  vd,
  cm,
  zaU "__init__" "Pieces.__init__" (cN cE) (bI cE) (av cE) .none pW pX pY pV kI pZ,
  bG,
  zaU "ahead" "Pieces.ahead" (cN cp) (bI cp) (av cp) .none oh oj om og jT oo,
  bJ,
  zaU "take" "Pieces.take" (cN cF) (bI cF) (av cF) .none p8 p9 qa p7 kJ qb,
  cU,
  zaU "__init__" "Draft.__init__" (cN cT) (bI cT) (av cT) .none qX qY qZ qW ml q0,
  bU,
  zaU "innermost" "Draft.innermost" (cN bS) (bI bS) (av bS) .none kL kM kN kK gW kO,
  bD,
  zaU "second_body" "Draft.second_body" (cN bC) (bI bC) (av bC) .none jE jF jG jD f7 jH,
  bV,
  zaU "box_names" "Draft.box_names" (cN bT) (bI bT) (av bT) .none kQ kR kS kP gX kT,
  aI,
  a7,
  nN,
  eV,
  bA,
  eW,
  eX,
  cW,
  jo,
  mh,
  jq,
  mj,
  fX,
  cX⟩
 have T:Tx K mg t:=⟨j9,
  gg,
  dG,
  bN,
  bu,
  ic,
  kf,
  cP,
  cq,
  cG,
  c9,
  nP,
  kg,
  jb,
  cZ,
  cx,
  cH,
  jc,
  jd,
  eY,
  ie,
  je,
  c5,
  dw,
  gh,
  eB,
  aA,
  gj,
  ij,
  cy,
  bZ,
  eE,
  bY,
  gk,
  gm,
  eZ,
  jf,
  gn,
  b9,
  dH,
  Iw,
  jr,
  AG,
  iM,
  zO,
  ⟨zG,zK,qg⟩,
  jt,
  AH,
  ⟨Ay,AB,q5⟩,
  ka,
  C4,
  fA,
  uo,
  ⟨ud,uh,lP⟩,
  dS,
  qF,
  ⟨qB,qE,jW⟩,
  fC,
  uv,
  ⟨ui,um,lQ⟩,
  ⟨JY,JZ,J0,J7⟩,
  zaL X G Np,
  ⟨vf,As,Ax,J8⟩,
  eF,
  dy,
  ⟨Nq,Nr,Nt,Nu⟩,
  zaL X G Pb,
  ⟨yT,CS,CY,Nv⟩,
  da,
  e6,
  bw,
  zaL X G GY,
  ⟨vg⟩,
  yU,
  zaL X G J9,
  ⟨fD⟩,
  EE,
  zaL X G Pc,
  ⟨mQ⟩,
  yV,
  zaL X G Ka,
  ⟨vh⟩,
  yW,
  zaL X G Kb,
  ⟨pN⟩,
  tW,
  zaL X G Fh,
  ⟨Cb⟩,
  EF,
  zaL X G Pd,
  ⟨GA⟩,
  Iy,
  zaL X G S5,
  ⟨Cc⟩,
  EG,
  zaL X G Pe,
  ⟨GB⟩,
  Iz,
  zaL X G S6,
  ⟨_,zaL X G Kc,_,rfl⟩,
  ⟨_,zaL X G Kd,_,rfl⟩,
  zaL X G GZ,
  fun _=>.inr ⟨_,_,_,G0,rfl,rfl,by have:=nQ.length;simp only[zah,zbH,zb0] at this;rw[<- this];decide,nQ⟩,
  ⟨_,zaL X G zL,_,rfl⟩,
  ⟨_,zaL X G zM,_,rfl⟩,
  ⟨_,zaL X G CZ,_,rfl⟩,
  ⟨_,zaL X G wU,_,rfl⟩,
  ⟨_,zaL X G Fi,_,rfl⟩,
  ⟨_,zaL X G C0,_,rfl⟩,
  ⟨_,zaL X G Fj,_,rfl⟩,
  ⟨_,zaL X G C3,_,rfl⟩,
  ⟨_,zaL X G Fl,_,rfl⟩,
  zaL X G AD,
  za3 X G fY,
  za3 X G qw,
  za3 X G Bu,
  za3 X G vi,
  za3 X G EI,
  za3 X G GC,
  za3 X G tX,
  za3 X G Nc,
  za3 X G Nd,
  za3 X G dJ,
  za3 X G pO,
  za3 X G tY⟩
 have CDD:Cd l.prog w K t:=⟨Tn.mk AE zN AF (by show List.Nodup ([.inr "box",.inr "ask",.inr "put",.inr "say",.inr "must",.inr "if",.inr "else",.inr "while",.inr "end",.inr "stop"]:List Key);decide +kernel) (by show 10<=zd2;decide)⟩
 obtain⟨_,_,_,_,_,_,_,_,_,z,_⟩:=Iw.F.ex;exact⟨t.vd,fun s v=>by rw[show t.vd=_ from z];exact .of_eq rfl,fun base _ _=>S3 T CDD⟩
theorem walk{l:PySem.W.OpenLaw}{q:zd6}{loose:List Str}{XP:(Str->Option zdV)->Heap->Prop}{YP:zdW->Heap->Prop}{d:DefRec}{K:Params->zaa}(hn:l.most=some 63)(Uz:d.params.defaults=[])
 (hY:∀(w:zdW) (h:Heap),YP w h->(K w.params).In h)
 (F:∀(w:zdW) (mg:Str->Option zdV) (fa:zdU) (h:Heap),(K w.params).In h->h.Ns zd1 mg->mg d.name=some (.ref fa)->
  ∃fd:zd3,(∀(s:zd4) (u:zdV),BindsTo s fd ⟨[u],[]⟩ [("script",u)])/\∀base:Heap,(K w.params).In base->base.Ns zd1 mg->a8 l.prog w (K w.params) mg base gI 66 fa fd ["script"] (HG (K w.params))) :
 PySem.W.WalkO q loose XP YP l.row.toRowW d [] (fun f vs=>PySem.call f vs):=
 L2.N5 (n:=63) (k:=66) (x:="script") (CX:=fun _=>gI) (sp:=fun w=>HG (K w.params)) hn (by decide) Uz ⟨rfl,by decide,by decide⟩ hY F (fun _ _ a ns hl _ hS=>⟨a,ns,rfl,hS,hl,fun _=>rfl⟩) fun _ _ _ _ _ z=>z
end
end Sy
end
namespace PySem.W.Fast
theorem tw2062558231775393367:True:=trivial
theorem tw10523199708076339253:True:=trivial
theorem tw528672979289441048:True:=trivial
theorem tw8623063096300278520:True:=trivial
theorem tw5459151144620882000:True:=trivial
theorem tw5677767340084309637:True:=trivial
theorem tw16258607849599163049:True:=trivial
theorem tw13589983700760072357:True:=trivial
theorem tw11873554543136029006:True:=trivial
theorem tw17624055925356655938:True:=trivial
theorem tw10343961865687816086:True:=trivial
theorem tw14359352922747008307:True:=trivial
theorem tw13019290063330145248:True:=trivial
theorem tw3785938242176748276:True:=trivial
theorem tw4186835389547783057:True:=trivial
theorem tw16121520971481901478:True:=trivial
theorem tw6619214163730276708:True:=trivial
theorem tw16811673178896396008:True:=trivial
theorem tw3497959043486483679:True:=trivial
theorem tw12918072553221497409:True:=trivial
theorem tw9124395368725013526:True:=trivial
theorem tw5715515030705879635:True:=trivial
theorem tw143791014888349685:True:=trivial
theorem tw10724805148268432355:True:=trivial
theorem tw3232892442075027488:True:=trivial
theorem tw11998049625712311040:True:=trivial
theorem tw1728984382002733219:True:=trivial
theorem tw8933701990524033362:True:=trivial
theorem tw3262161434083944262:True:=trivial
theorem tw1756157928907217788:True:=trivial
theorem tw6814779399233385455:True:=trivial
theorem tw995552828965935243:True:=trivial
theorem tw11411797810946124641:True:=trivial
theorem tw10408326262354953256:True:=trivial
theorem tw10030617114600480643:True:=trivial
theorem tw2179045050959843961:True:=trivial
theorem tw7147800471936022613:True:=trivial
theorem tw13633684723000349086:True:=trivial
theorem tw8938559306199538244:True:=trivial
theorem tw10087056547987315060:True:=trivial
theorem tw12168484428090947425:True:=trivial
theorem tw10534610341629529002:True:=trivial
theorem tw9511700561170078560:True:=trivial
theorem tw2425354432063908342:True:=trivial
theorem tw14810972768553675879:True:=trivial
theorem tw3702342286348769965:True:=trivial
theorem tw8445900112483731352:True:=trivial
theorem tw8664302846701085866:True:=trivial
theorem tw8314466267342692212:True:=trivial
theorem tw1440541511298742201:True:=trivial
theorem tw17359015367370738408:True:=trivial
theorem tw8302944369933221289:True:=trivial
theorem tw17256608070250257512:True:=trivial
theorem tw9548796342206614575:True:=trivial
theorem tw13632189196791075180:True:=trivial
theorem tw4825775578776601783:True:=trivial
theorem tw9225916496518143811:True:=trivial
theorem tw8946987785760759300:True:=trivial
theorem tw10874018687891064381:True:=trivial
theorem tw215138321486816590:True:=trivial
theorem tw10003696480997243093:True:=trivial
theorem tw3446624408335470765:True:=trivial
theorem tw1678002787060950880:True:=trivial
theorem tw15142245097450584538:True:=trivial
theorem tw10491236297598108219:True:=trivial
theorem tw7454840164756950613:True:=trivial
theorem tw14450824761758400578:True:=trivial
theorem tw15333250075229216469:True:=trivial
theorem tw7796649043358003007:True:=trivial
theorem tw13048714868593397831:True:=trivial
theorem tw10541860185450078870:True:=trivial
theorem tw4662284356283427253:True:=trivial
theorem tw3159397513188131495:True:=trivial
theorem tw8830246006876584794:True:=trivial
theorem tw10641511916694053014:True:=trivial
theorem tw11307018084466615975:True:=trivial
theorem tw18352739659750005266:True:=trivial
theorem tw14899812955857407896:True:=trivial
theorem tw6176285741183453117:True:=trivial
theorem tw14925021436527732504:True:=trivial
theorem tw2183221127844254137:True:=trivial
theorem tw8094457885659171522:True:=trivial
theorem tw3974324426482650595:True:=trivial
theorem tw10054020396530818526:True:=trivial
theorem tw2821427420264444546:True:=trivial
theorem tw12393238590110933044:True:=trivial
theorem tw15059573774401701576:True:=trivial
theorem tw17232195331627931767:True:=trivial
theorem tw15148667274011515984:True:=trivial
theorem tw17511861910719302942:True:=trivial
theorem tw7362446717974712494:True:=trivial
theorem tw12138106633265288772:True:=trivial
theorem tw7548433546874318822:True:=trivial
theorem tw10454606464248816971:True:=trivial
theorem tw9476680880818812432:True:=trivial
theorem tw8544139975702211408:True:=trivial
theorem tw5211911459325122094:True:=trivial
theorem tw4805188359186184597:True:=trivial
theorem tw6964569313964556132:True:=trivial
theorem tw16172778623181284718:True:=trivial
theorem tw9420947059459603263:True:=trivial
theorem tw685630403503188211:True:=trivial
theorem tw2587333508207201113:True:=trivial
theorem tw10350094426166230642:True:=trivial
theorem tw15617961825827172639:True:=trivial
theorem tw12420100714231383631:True:=trivial
theorem tw11035478594025168384:True:=trivial
theorem tw17025006096247270105:True:=trivial
theorem tw741950565398932967:True:=trivial
theorem tw16582652139826377817:True:=trivial
theorem tw9669458176132215803:True:=trivial
theorem tw10785028400776368906:True:=trivial
theorem tw10053355871406970861:True:=trivial
theorem tw9623102897028187662:True:=trivial
theorem tw14926148019791355808:True:=trivial
theorem tw11610295015101493268:True:=trivial
theorem tw7399339828800384128:True:=trivial
theorem tw8471875644714618933:True:=trivial
theorem tw16967309890736637096:True:=trivial
theorem tw11396235237426536440:True:=trivial
theorem tw4834403302473807855:True:=trivial
theorem tw1725484508477792115:True:=trivial
theorem tw2843763959085095860:True:=trivial
theorem tw6896403447640757926:True:=trivial
theorem tw3061322925712771904:True:=trivial
theorem tw12089560556924489589:True:=trivial
theorem tw13218432055927505241:True:=trivial
theorem tw8136820432760150353:True:=trivial
theorem tw9610543535321884341:True:=trivial
theorem tw3013034945136756846:True:=trivial
theorem tw8441264833582221593:True:=trivial
theorem tw16820894232417363536:True:=trivial
theorem tw5408833401162566724:True:=trivial
theorem tw2249837370198252801:True:=trivial
theorem tw2276522686268476592:True:=trivial
theorem tw6622157500403665290:True:=trivial
theorem tw3397862953229447968:True:=trivial
theorem tw3471087413660717818:True:=trivial
theorem tw6359895992557900239:True:=trivial
theorem tw2703316018862285110:True:=trivial
theorem tw9870700100553302653:True:=trivial
theorem tw15353114892938397004:True:=trivial
theorem tw582673489777432174:True:=trivial
theorem tw647615210507375934:True:=trivial
theorem tw7869693551444799381:True:=trivial
theorem tw18425082547410286088:True:=trivial
theorem tw12760901497431654190:True:=trivial
theorem tw2538747498609267059:True:=trivial
theorem tw5153598325746993977:True:=trivial
theorem tw12611996302322656747:True:=trivial
theorem tw5867128546438325257:True:=trivial
theorem tw16305997463215593765:True:=trivial
theorem tw8108387296424201178:True:=trivial
theorem tw393554098921245085:True:=trivial
theorem tw4538547420131728382:True:=trivial
theorem tw8088214798263358562:True:=trivial
theorem tw7425160561106354872:True:=trivial
theorem tw8997960386854804453:True:=trivial
theorem tw14270040823339782062:True:=trivial
theorem tw14507243576829380334:True:=trivial
theorem tw17061054675123222543:True:=trivial
theorem tw6847380869938324401:True:=trivial
theorem tw16157432337295892209:True:=trivial
theorem tw1839599958641262586:True:=trivial
theorem tw5840763022529953600:True:=trivial
theorem tw9348871880425419895:True:=trivial
theorem tw3398731426825806345:True:=trivial
theorem tw8763921115875772220:True:=trivial
theorem tw14989270055599450143:True:=trivial
theorem tw13039973387447590558:True:=trivial
theorem tw8202498607604613624:True:=trivial
theorem tw14589554183651683866:True:=trivial
theorem tw993799403903410862:True:=trivial
theorem tw18204840254445011859:True:=trivial
theorem tw16689536977931432000:True:=trivial
theorem tw18079765876483979292:True:=trivial
theorem tw2864276717357708549:True:=trivial
theorem tw17742562451238352684:True:=trivial
theorem tw9876358326111190528:True:=trivial
theorem tw5468011527109779780:True:=trivial
theorem tw17080432736136720368:True:=trivial
theorem tw15608271295597452368:True:=trivial
theorem tw483972522521781489:True:=trivial
theorem tw1992966913790224539:True:=trivial
theorem tw5383676425904738398:True:=trivial
theorem tw6754387011218078590:True:=trivial
theorem tw13825718204994008336:True:=trivial
theorem tw17161916392935552456:True:=trivial
theorem tw8718903090391405972:True:=trivial
theorem tw17727575787972328348:True:=trivial
theorem tw7244030633240944107:True:=trivial
theorem tw12934927906990530107:True:=trivial
theorem tw16567379179879224820:True:=trivial
theorem tw8865641941938438705:True:=trivial
theorem tw17459840074201375089:True:=trivial
theorem tw1782518419551344031:True:=trivial
theorem tw13027916097757026569:True:=trivial
theorem tw13026089661602406007:True:=trivial
theorem tw8473651853032258677:True:=trivial
theorem tw6308985674364281917:True:=trivial
theorem tw17803705844803511936:True:=trivial
theorem tw4235523972148539056:True:=trivial
theorem tw9430622832273941543:True:=trivial
theorem tw15546242830415223244:True:=trivial
theorem tw2536539567057880406:True:=trivial
theorem tw3901784239057686039:True:=trivial
theorem tw7845253251344358408:True:=trivial
theorem tw13417044676531933381:True:=trivial
theorem tw5407622202078779039:True:=trivial
theorem tw14177936810626336052:True:=trivial
theorem tw9729878626215567925:True:=trivial
theorem tw2907895148335369926:True:=trivial
theorem tw4720636070623682200:True:=trivial
theorem tw7729696852891358121:True:=trivial
theorem tw12522336729937459979:True:=trivial
theorem tw8580030713238552524:True:=trivial
theorem tw11347781869714539819:True:=trivial
theorem tw7776849857307786381:True:=trivial
theorem tw9210649425608154129:True:=trivial
theorem tw13592311612142751257:True:=trivial
end PySem.W.Fast
end
open PySem PySem.W PyProof.Rows
set_option maxRecDepth 100000 in
set_option maxHeartbeats 0 in
theorem PySem.Challenge.cw_everyrow_k06_whole_programs_read_holds : PySem.Challenge.rw_everyrow_k06_whole_programs_read.Holds := by
 w_on; o_law; k_head; (case hw=>w_witness2)
 k_fill
 refine Sy.walk (l:=PySem.Challenge.rw_everyrow_k06_whole_programs_read) rfl rfl (fun w h Y=>PySem.W.kIn_of Y) ?F
 case F=>
   intro w mg fa h KX G UA
   refine' Sy.all_mk KX G UA ?_ ?_ ?_ ?_ ?_ ?_ ?_ ?_ ?_ ?_ ?_ ?_ ?_ ?_ ?_ ?_ ?_ ?_ ?_ ?_ ?_ ?_ ?_ ?_ ?_ ?_ ?_ ?_ ?_ ?_ ?_ ?_ ?_ ?_ ?_ ?_ ?_ ?_ ?_ ?_ ?_ ?_ ?_ ?_ ?_ ?_ ?_ ?_ ?_ ?_ ?_ ?_ ?_ ?_ ?_ ?_ ?_ ?_ ?_ ?_ ?_ ?_ ?_ ?_ ?_ ?_ ?_ ?_ ?_ ?_ ?_ ?_ ?_ ?_ ?_ ?_ ?_ ?_ ?_ ?_ ?_ ?_ ?_ ?_ ?_ ?_ ?_ ?_ ?_ ?_ ?_ ?_ ?_ ?_ ?_ ?_ ?_ ?_ ?_ ?_ ?_ ?_ ?_ ?_ ?_ ?_ ?_ ?_ ?_ ?_ ?_ ?_ ?_ ?_ ?_ ?_ ?_ ?_ ?_ ?_ ?_ ?_ ?_ ?_ ?_ ?_ ?_ ?_ ?_ ?_ ?_ ?_ ?_ ?_ ?_ ?_ ?_ ?_ ?_ ?_ ?_ ?_ ?_ ?_ ?_ ?_ ?_ ?_ ?_ ?_ ?_ ?_ ?_
   rotate_left 142
   iterate 41 (refine' L2.FH.of ?a ?l ?c ?k; (case a=>k_is); (case l=>k_is); (case c=>k_is); (case k=>k_is))
   iterate 56 (k_is)
   iterate 1 (k_exc)
   iterate 1 (kts_exm)
   iterate 1 (k_is)
   iterate 1 (k_exc)
   iterate 1 (kts_exm)
   iterate 1 (k_is)
   iterate 1 (k_exc)
   iterate 1 (kts_exm)
   iterate 1 (k_is)
   iterate 1 (k_exc)
   iterate 1 (kts_exm)
   iterate 1 (k_is)
   iterate 1 (k_exc)
   iterate 1 (kts_exm)
   iterate 1 (k_is)
   iterate 1 (k_exc)
   iterate 1 (kts_exm)
   iterate 1 (k_is)
   iterate 1 (k_exc)
   iterate 1 (kts_exm)
   iterate 1 (k_is)
   iterate 1 (k_exc)
   iterate 1 (kts_exm)
   iterate 1 (k_is)
   iterate 1 (k_exc)
   iterate 1 (kts_exm)
   iterate 4 (k_is)
   iterate 1 (exact .cons ⟨_,rfl⟩ (.cons ⟨_,rfl⟩ (.cons ⟨_,rfl⟩ (.cons ⟨_,rfl⟩ (.cons ⟨_,rfl⟩ (.cons ⟨_,rfl⟩ (.cons ⟨_,rfl⟩ (.cons ⟨_,rfl⟩ (.cons ⟨_,rfl⟩ (.cons ⟨_,rfl⟩ (.nil)))))))))))
   iterate 11 (k_is)
   iterate 1 (rfl)
   iterate 1 (exact .cons (by rfl) ⟨_,rfl⟩ ⟨_,rfl⟩ (.cons (by rfl) ⟨_,rfl⟩ ⟨_,rfl⟩ (.cons (by rfl) ⟨_,rfl⟩ ⟨_,rfl⟩ (.cons (by rfl) ⟨_,rfl⟩ ⟨_,rfl⟩ (.cons (by rfl) ⟨_,rfl⟩ ⟨_,rfl⟩ (.cons (by rfl) ⟨_,rfl⟩ ⟨_,rfl⟩ (.cons (by rfl) ⟨_,rfl⟩ ⟨_,rfl⟩ (.cons (by rfl) ⟨_,rfl⟩ ⟨_,rfl⟩ (.cons (by rfl) ⟨_,rfl⟩ ⟨_,rfl⟩ (.cons (by rfl) ⟨_,rfl⟩ ⟨_,rfl⟩ (.nil)))))))))))
   iterate 12 (k_is)
