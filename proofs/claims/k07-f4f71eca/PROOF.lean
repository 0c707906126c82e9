import PyProof.Rows.All
import Wide.All
import OpenK.AllK
import Wide.FinOn
import Lean
import PyProof.EqAt
import PyProof.EqKinds
import PyProof.TupleCall
import PyProof.AttrMiss
import PyProof.IsiH_list
import PyProof.ZipIter
import PyProof.P3In
import PyProof.StrBlockH
import PyProof.StrLawsIn
import PyProof.FString
import PyProof.EnumMake
import PyProof.Draws
import PySem.Challenge.RW_everyrow_k07_rows_of_no_form
set_option compiler.extract_closed false
set_option Elab.async false
set_option linter.all false
set_option maxRecDepth 100000
open PySem.W renaming kitOne->zaa,Frag->zab,findIn->zao,exmOne->zat,nsIn->zav,mg_of->zaC,fnOf->zaV,mroIn->zaX,hasDictIn->zaZ,keepIn->za5,mg_none_of->za7,codeIn->zbo,emptyDict->zbp,excIn->zbt,instObj->zbG,isFn->zbH,plainGet->zbW,looks_findIn->zb2,plainOver->zcd,hideAll->zcv,makesIn->zcw,plainGet_of->zcG,lookIn->zcJ,of_hideAll->zcP,callWith_K->zcR,methodObj->zcX,any_some->zc8,takerIn->zdk,cellsFrom_some->zdn,hideAll_get->zdD,callWith_K0->zdE,looks_mroIn->zdF
open PySem.Str renaming ofString->zac
open List renaming mem_singleton->zad,length_append->zae,length_cons->zaf,getElem?_eq_getElem->zag,mem_cons->zai,length_map->zaj,mem_cons_of_mem->zak,mem_append->zam,mem_cons_self->zap,map_cons->zaq,getElem?_eq_some_iff->zar,map_append->zas,size_toArray->zau,length_singleton->zaw,replicate->zax,getD_eq_getElem?_getD->zaz,range->zaA,length_take->zaB,getElem?_map->zaE,mem_map->zaI,mem_append_right->zaJ,getElem_mem->zaK,append_nil->zaN,foldl_cons->zaO,flatten_cons->zaP,length_drop->zaQ,cons_append->zaS,mem_append_left->zaW,contains_iff_mem->za0,length_dropLast->za1,not_mem_nil->za2,replicate_succ->za3,all_eq_true->za4,map_singleton->za6,nil_append->za8,length_nil->zba,length_eq_zero_iff->zbb,getLast?_eq_getElem?->zbf,append_assoc->zbg,nodup_cons->zbh,length_set->zbi,mem_of_getElem?->zbj,take_succ_eq_append_getElem->zbk,mem_of_mem_take->zbl,getElem?_append_right->zbm,take_of_length_le->zbn,getElem?_append_left->zbq,lookup_cons->zbr,length->zbs,mem_range->zbu,find?_cons->zbw,getElem?_set_self->zbx,sum_cons->zby,take_length->zbz,length_replicate->zbA,getLast?_eq_none_iff->zbC,getElem?_set_ne->zbD,map_map->zbE,mem_of_mem_drop->zbF,foldl_append->zbI,length_pos_iff->zbJ,nodup_append->zbQ,getLastD_eq_getLast?->zbR,drop_eq_getElem_cons->zbS,mem_or_eq_of_mem_set->zbT,lookup->zbU,map_nil->zbV,pairwise_cons->zbY,reverse_cons->zb0,any_cons->zb3,headD_cons->zb4,mem_filterMap->zb5,getElem_append_left->zb8,set_cons_succ->zb9,length_range->zcc,getElem_cons_succ->zce,flatten_nil->zci,length_filter_le->zcj,take_append_drop->zck,mem_filter->zco,mem_iff_getElem->zcp,getLast?_concat->zct,dropLast_concat->zcu,eq_nil_of_length_eq_zero->zcx,drop_append_of_le_length->zcy,filterMap_cons->zcA,flatten_append->zcB,getElem_of_mem->zcD,take_succ_cons->zcE,map_congr_left->zcF,drop_zero->zcH,set->zcI,filter_append->zcL,cons->zcM,mem_replicate->zcN,map_take->zcV,flatMap_cons->zcW,pairwise_iff_getElem->zcY,getElem_append_right->zcZ,getLast?_eq_some_iff->zc0,getElem_inj->zc2,mem_flatMap->zc5,getElem_map->zc6,getElem?_replicate->zda,getElem?_cons_succ->zdb,pairwise_singleton->zdc,filter_cons_of_neg->zdd,filter_cons_of_pos->zde,of_mem_zip->zdg,forIn_cons->zdh,drop_of_length_le->zdl,getElem?_dropLast->zdm,set_append_right->zdp,reverse_reverse->zdr,getLast?_append->zds,dropLast_subset->zdt,pairwise_append->zdu,extract_toArray->zdv,length_flatten->zdz,filter_eq_self->zdA,drop_succ_cons->zdB,zipWith->zdK,all_map->zdM
open Nat renaming le_refl->zah,le_trans->zay,lt_of_lt_of_le->zaH,ne_of_lt->zaR,zero_le->zaU,toDigitsCore->zbK,lt_irrefl->zbO,le_succ_of_le->zb1,lt_of_le_of_lt->zb6,toDigits->zb7,lt_succ_self->zch,sub_self->zcq,one_le_two_pow->zcO,digitChar->zcU,le_of_lt->zc1,succ_mul->zc4,max_eq_left->zdi,min_eq_left->zdj,mul_le_mul_right->zdw,ne_of_gt->zdG,le_of_eq->zdH,zero_add->zdI,lt_trans->zdL,log2_lt->zdO
open Bool renaming false_ne_true->zal,and_eq_true->zaD,eq_iff_iff->zbv,false_eq_true->zbB,eq_false_iff->zcb,or_false->zcT,eq_false_or_eq_true->zc7,false_or->zdx,or_eq_true_iff->zdy
open Or renaming inl->zan
open PySem.F renaming plainAttrs_list->zaF,slot_list_append->zaL,type_list_append->zaM,plainAttrs_str->zbe,slot_str_join->zbM,type_str_join->zbN,slot_str_split->zcf,type_str_split->zcg,slot_list_pop->zcl,type_list_pop->zcm,args_tuple_add_2->zc9,entry_tuple_add->zdf,slot_tuple_add->zdo,slot_dict_get->zdq
open Option renaming some->zaG,map_some->za9,map_eq_some_iff->zbd,isSome_iff_exists->zc3,none->zdN
open Int renaming emod_lt_of_pos->zaT,emod_nonneg->zaY,eq_ofNat_of_zero_le->zbc,le_refl->zbL,toNat_natCast->zbP,mul_le_mul_of_nonneg_right->zbZ,le_trans->zcr,mul_le_mul_of_nonpos_right->zcs,mul_le_mul_of_nonneg_left->zcz,toNat_of_nonneg->zcC,fdiv_eq_ediv_of_nonneg->zcS,zero_add->zdJ
open Array renaming length_toList->zbX,append_assoc->zcK,toList_append->zdC
open PySem.StrLaws renaming found_one->zca
open PyProof.Rows renaming slot_tuple_getitem->zcn,callWith_type1->zcQ
open PySem renaming Addr->zdP,Value->zdQ,World->zdR,wpAny_bind->zdS,wpAny_pure->zdT,wpAny_holding->zdU,starEach->zdV,mainGlobals->zdW,sizeLine->zdX,FuncData->zdY,Shared->zdZ,Around->zd0,Program->zd1
noncomputable section
namespace L2
open PySem PySem.Spec PyProof.Rows
abbrev Key:=Sum Int Str
def Ak:Key->zdQ->Bool
 |.inl k,v=>Value.isInt k v
 |.inr x,v=>Value.isStrOf x v
def aar (w:zdR):Key->Int
 |.inl k=>hashInt k
 |.inr x=>hashStr w x
theorem dY:∀ {k:Key} {v:zdQ},Ak k v=true->(∃i t,k=Sum.inl i/\v=Value.int i t)\/(∃x t,k=Sum.inr x/\v=Value.str x t)
 |.inl i,v,h=>by
  obtain⟨t,e⟩:=Value.isInt_shape (k:=i) (v:=v) h;exact .inl ⟨i,t,rfl,e⟩
 |.inr x,v,h=>by
  obtain⟨t,e⟩:=Value.isStrOf_shape (x:=x) (v:=v) h;exact .inr ⟨x,t,rfl,e⟩
theorem Md(i:Int)(t:Tok):Ak (.inl i) (.int i t)=true:=by simp[Ak,Value.isInt]
theorem Me(x:Str)(t:Tok):Ak (.inr x) (.str x t)=true:=by simp[Ak,Value.isStrOf]
theorem UJ(a b:Int):decide ((Sum.inl a:Key)=Sum.inl b)=(a==b):=by
 by_cases e:a=b
 ·subst e;simp
 ·have h:¬(Sum.inl a:Key)=Sum.inl b:=fun q=>e (Sum.inl.inj q);rw[decide_eq_false h];exact(beq_eq_false_iff_ne.mpr e).symm
theorem UK(a b:Str):decide ((Sum.inr a:Key)=Sum.inr b)=decide (a=b):=by
 by_cases e:a=b
 ·subst e;simp
 ·have h:¬(Sum.inr a:Key)=Sum.inr b:=fun q=>e (Sum.inr.inj q);rw[decide_eq_false h,decide_eq_false e]
theorem UL(a:Int)(b:Str):decide ((Sum.inl a:Key)=Sum.inr b)=false:=decide_eq_false (fun q=>nomatch q)
theorem UM(a:Str)(b:Int):decide ((Sum.inr a:Key)=Sum.inl b)=false:=decide_eq_false (fun q=>nomatch q)
def fM (prog:zd1) (w:zdR):PySem.KeyKind prog w Key where
 is:=Ak
 hash:=aar w
 inj:=fun v a b ha hb=>by
  rcases dY ha with ⟨i,t,rfl,rfl⟩ |⟨x,t,rfl,rfl⟩
  ·rcases dY hb with ⟨j,u,rfl,e⟩ |⟨y,u,rfl,e⟩
   ·injection e with e1 _;rw[e1]
   ·exact nomatch e
  ·rcases dY hb with ⟨j,u,rfl,e⟩ |⟨y,u,rfl,e⟩
   ·exact nomatch e
   ·injection e with e1 _;rw[e1]
 byValue:=fun k v h=>by
  rcases dY h with ⟨i,t,rfl,rfl⟩ |⟨x,t,rfl,rfl⟩<;>rfl
 pyHash:=fun hv h=>by
  rcases dY hv with ⟨i,t,rfl,rfl⟩ |⟨x,t,rfl,rfl⟩
  ·exact wpAny_pyHash_int h
  ·exact wpAny_pyHash_str h
 eqBool:=fun hu hv h=>by
  rcases dY hu with ⟨i,t,rfl,rfl⟩ |⟨x,t,rfl,rfl⟩
  ·rcases dY hv with ⟨j,u,rfl,rfl⟩ |⟨y,u,rfl,rfl⟩
   ·rw[UJ] at h;exact wpAny_eqBool_int h
   ·rw[UL] at h;exact SeqAt.EqAt.int_str i t y u _ _ _ _ h
  ·rcases dY hv with ⟨j,u,rfl,rfl⟩ |⟨y,u,rfl,rfl⟩
   ·rw[UM] at h;exact SeqAt.EqAt.str_int x t j u _ _ _ _ h
   ·rw[UK] at h;exact wpAny_eqBool_str h
 «strs»:=fun k x t v h=>by
  rcases dY h with ⟨i,u,rfl,e⟩ |⟨y,u,rfl,e⟩
  ·exact nomatch e
  ·injection e with e1 _
   subst e1;cases v<;>rfl
theorem Gj(prog:zd1)(w:zdR)(i:Int)(t:Tok):(fM prog w).is (.inl i) (.int i t)=true:=Md i t
theorem Gk(prog:zd1)(w:zdR)(x:Str)(t:Tok):(fM prog w).is (.inr x) (.str x t)=true:=Me x t
inductive V where
 |eB |bl (b:Bool) |int (i:Int) |str (x:Str) |KP (b:Array UInt8) |ZF (b:UInt64) |ref (a:zdP) |ty (n:String)
 deriving DecidableEq
def RelV:V->zdQ->Prop
 |.eB,u=>u=Value.none
 |.bl b,u=>u=Value.bool b
 |.int i,u=>∃t,u=Value.int i t
 |.str x,u=>∃t,u=Value.str x t
 |.KP b,u=>∃t,u=Value.bytes b t
 |.ZF b,u=>∃t,u=Value.float b t
 |.ref a,u=>u=Value.ref a
 |.ty n,u=>u=Value.type n
abbrev Vals:List V->List zdQ->Prop:=Paired RelV
theorem Vals.length{xs:List V}{us:List zdQ}(r:Vals xs us):xs.length=us.length:=Paired.length r
theorem Vals.get:∀ {xs:List V} {us:List zdQ} {i:Nat} {x:V},Vals xs us->xs[i]?=some x->∃u,us[i]?=some u/\RelV x u
 |_,_,_,_,.nil,e=>by simp at e
 |_,_,0,_,.cons r _,e=>by simp at e;subst e;exact⟨_,rfl,r⟩
 |_,_,i+1,x,.cons _ t,e=>by
  obtain⟨u,h1,h2⟩:=Vals.get (i:=i) (x:=x) t (by simpa using e);exact⟨u,by simpa using h1,h2⟩
theorem Vals.set{x:V}{u:zdQ}(r:RelV x u):∀ {xs:List V} {us:List zdQ} (i:Nat),Vals xs us->Vals (xs.set i x) (us.set i u)
 |_,_,_,.nil=>.nil
 |_,_,0,.cons _ t=>.cons r t
 |_,_,i+1,.cons q t=>.cons q (Vals.set r i t)
theorem Vals.append:∀ {xs ys:List V} {us ws:List zdQ},Vals xs us->Vals ys ws->Vals (xs++ys) (us++ws)
 |_,_,_,_,.nil,s=>s
 |_,_,_,_,.cons r t,s=>.cons r (Vals.append t s)
theorem Vals.take:∀ {xs:List V} {us:List zdQ} (n:Nat),Vals xs us->Vals (xs.take n) (us.take n)
 |_,_,0,_=>.nil
 |_,_,_+1,.nil=>.nil
 |_,_,n+1,.cons r t=>.cons r (Vals.take n t)
theorem Vals.drop:∀ {xs:List V} {us:List zdQ} (n:Nat),Vals xs us->Vals (xs.drop n) (us.drop n)
 |_,_,0,r=>r
 |_,_,_+1,.nil=>.nil
 |_,_,n+1,.cons _ t=>Vals.drop n t
def r6:Option V->Option zdQ->Prop
 |some v,some u=>RelV v u
 |none,none=>True
 |_,_=>False
def KV {κ:Type}:List (κ×V)->List (κ×zdQ)->Prop:=Paired fun (p:κ×V) (q:κ×zdQ)=>p.1=q.1/\RelV p.2 q.2
def kV:Key->V
 |.inl i=>.int i
 |.inr x=>.str x
inductive HO where
 |lst (xs:List V)
 |tup (xs:List V)
 |dK (bg:List (Key×V)) |dT (bg:List (List Key×V))
 |set (S:Int->Bool) (n:Nat)
 |ins (C dx:zdP) (fs:List (Str×V))
 |own (x:zdP)
 |xd (fs:List (Str×V))
 |met (f x:zdP)
 |ZG (lo hi:Int)
 |Og (o:Obj) (u:HO)
 |RI (ps:Array zdQ)
 |ext (φ:Heap->Prop)
abbrev Hp:=zdP->Option HO
def upd (H:Hp) (a:zdP) (o:HO):Hp:=fun b=>if b=a then some o else H b
theorem aj{H:Hp}{a:zdP}{o:HO}:upd H a o a=some o:=by unfold upd;rw[if_pos rfl]
theorem aq{H:Hp}{a b:zdP}{o:HO}(h:b≠a):upd H a o b=H b:=by unfold upd;rw[if_neg h]
theorem EG{H:Hp}{a:zdP}{o u:HO}:upd (upd H a o) a u=upd H a u:=by
 funext b;unfold upd;split<;>rfl
theorem dg{H:Hp}{a b:zdP}{o u:HO}(h:H a=some o)(h':H b=some u)(d:o≠u):a≠b:=by
 intro e;subst e;rw[h] at h';exact d (zaG.inj h')
theorem aI{H:Hp}{a b:zdP}{o:HO}(h:H a=some o)(h':H b=none):a≠b:=by
 intro e;subst e;rw[h] at h';cases h'
section
variable(P:zd1)(w:zdR)
def fP (H:Hp) (h:Heap) (a:zdP):HO->Prop
 |.lst xs=>xs.length<=zdX/\∃(bp:List zdQ) (n:Nat),Vals xs bp/\h.get? a=some {cls:=.type "list",data:=.seq bp.toArray n}
 |.tup xs=>xs.length<=zdX/\∃bp:List zdQ,Vals xs bp/\IsTup h a bp.toArray
 |.dK bg=>bg.length<=zdX/\(a==sysModules)=false/\∃vs,KV bg vs/\h.DictOf (fM P w) a vs
 |.dT bg=>bg.length<=zdX/\(a==sysModules)=false/\∃xs:List (List Key×zdP×zdQ),
  Paired (fun (p:List Key×V) (q:List Key×zdP×zdQ)=>p.1=q.1/\H q.2.1=some (.tup (p.1.map kV))/\RelV p.2 q.2.2) bg xs/\
  ∃o es ep,h.get? a=some o/\o.ExactDict/\o.data=.dict es ep/\es.toList=xs.map (entryOfKey (tupleKind (fM P w)))/\(xs.map (·.1)).Nodup
 |.set S n=>h.SetOf (intKind P w) a S n
 |.ins C dx fs=>H dx=some (.own a)/\fs.length<=1000/\dx≠a/\h.get? a=some (zbG C dx)/\
  ∃mA,h.Ns1 dx mA/\(∀f,r6 (fs.lookup f) (mA f))/\PySem.Within mA (fs.map (·.1))
 |.own _=>∃o,h.get? a=some o
 |.xd fs=>∃mA,h.Ns1 a mA/\∀f,r6 (fs.lookup f) (mA f)
 |.ZG lo hi=>∃t u v,h.get? a=some {cls:=.type "range",data:=.fields #[.int lo t,.int hi u,.int 1 v]}
 |.Og o u=>h.get? a=some o/\fP H h a u
 |.RI ps=>h.get? a=some {cls:=.none,data:=.fields ps}
 |.met f x=>h.get? a=some (zcX (.ref f) (.ref x))
 |.ext φ=>φ h/\(∃o,h.get? a=some o)/\∀h1 h2:Heap,φ h1->(∀o,h1.get? a=some o->h2.get? a=some o)->φ h2
def wu (H:Hp) (h:Heap):Prop:=∀a o,H a=some o->fP P w H h a o
end
section
variable{P:zd1}{w:zdR}{H H':Hp}{h h':Heap}{a:zdP}{o:HO}
theorem fP.lt(x:fP P w H h a o):a<h.objs.size:=by
 cases o with
 |lst xs=>obtain⟨_,_,_,_,e⟩:=x;exact Heap.lt_size e
 |tup xs=>obtain⟨_,_,_,p⟩:=x;exact p.lt
 |dK bg=>obtain⟨_,_,_,_,o,_,_,e,_⟩:=x;exact Heap.lt_size e
 |dT bg=>obtain⟨_,_,_,_,o,_,_,e,_⟩:=x;exact Heap.lt_size e
 |set S n=>obtain⟨o,_,_,_,e,_⟩:=x;exact Heap.lt_size e
 |ins C dx fs=>obtain⟨_,_,_,e,_⟩:=x;exact Heap.lt_size e
 |own y=>obtain⟨_,e⟩:=x;exact Heap.lt_size e
 |xd fs=>obtain⟨_,⟨_,_,_,e,_⟩,_⟩:=x;exact Heap.lt_size e
 |ZG lo hi=>obtain⟨_,_,_,e⟩:=x;exact Heap.lt_size e
 |Og ob u=>obtain⟨e,_⟩:=x;exact Heap.lt_size e
 |RI ps=>exact Heap.lt_size (show h.get? a=some _ from x)
 |met f y=>exact Heap.lt_size (show h.get? a=some _ from x)
 |ext φ=>obtain⟨_,⟨_,e⟩,_⟩:=x;exact Heap.lt_size e
theorem Paired.Gm{α β:Type}{F G:α->β->Prop}:∀ {l₁:List α} {l₂:List β},Paired F l₁ l₂->(∀a b,F a b->G a b)->Paired G l₁ l₂
 |_,_,.nil,_=>.nil
 |_,_,.cons r t,f=>.cons (f _ _ r) (Paired.Gm t f)
theorem fP.uJ(x:fP P w H h a o)(k:∀b u,(b=a\/H b=some (.own a))->h.get? b=some u->h'.get? b=some u)
 (ho:∀b,H b=some (.own a)->H' b=some (.own a)) (ht:∀b xs,H b=some (.tup xs)->H' b=some (.tup xs)):fP P w H' h' a o:=by
 induction o with
 |lst xs=>obtain⟨z,bp,n,r,e⟩:=x;exact⟨z,bp,n,r,k _ _ (.inl rfl) e⟩
 |tup xs=>obtain⟨z,bp,r,ob,e,c⟩:=x;exact⟨z,bp,r,ob,k _ _ (.inl rfl) e,c⟩
 |dK bg=>obtain⟨z,y,vs,r,ob,es,ep,e,c⟩:=x;exact⟨z,y,vs,r,ob,es,ep,k _ _ (.inl rfl) e,c⟩
 |dT bg=>
  obtain⟨z,y,xs,r,ob,es,ep,e,c⟩:=x;exact⟨z,y,xs,Paired.Gm r fun p q z=>⟨z.1,ht _ _ z.2.1,z.2.2⟩,ob,es,ep,k _ _ (.inl rfl) e,c⟩
 |set S n=>obtain⟨ob,es,ep,t,e,c⟩:=x;exact⟨ob,es,ep,t,k _ _ (.inl rfl) e,c⟩
 |ins C dx fs=>
  obtain⟨d,z,ne,e,mA,⟨od,es,ep,e2,c⟩,r⟩:=x;exact⟨ho _ d,z,ne,k _ _ (.inl rfl) e,mA,⟨od,es,ep,k _ _ (.inr d) e2,c⟩,r⟩
 |own y=>obtain⟨ob,e⟩:=x;exact⟨ob,k _ _ (.inl rfl) e⟩
 |xd fs=>obtain⟨mA,⟨od,es,ep,e,c⟩,r⟩:=x;exact⟨mA,⟨od,es,ep,k _ _ (.inl rfl) e,c⟩,r⟩
 |ZG lo hi=>obtain⟨t,u,v,e⟩:=x;exact⟨t,u,v,k _ _ (.inl rfl) e⟩
 |Og ob u ih=>obtain⟨e,q⟩:=x;exact⟨k _ _ (.inl rfl) e,ih q⟩
 |RI ps=>
  have e:h.get? a=some {cls:=.none,data:=.fields ps}:=x;show h'.get? a=some {cls:=.none,data:=.fields ps};exact k a _ (.inl rfl) e
 |met f y=>
  have e:h.get? a=some (zcX (.ref f) (.ref y)):=x;show h'.get? a=some (zcX (.ref f) (.ref y));exact k a _ (.inl rfl) e
 |ext φ=>obtain⟨p,⟨o,e⟩,st⟩:=x;exact⟨st _ _ p fun o q=>k _ _ (.inl rfl) q,⟨o,k _ _ (.inl rfl) e⟩,st⟩
theorem wu.lt(x:wu P w H h)(e:H a=some o):a<h.objs.size:=(x a o e).lt
theorem wu.fresh(x:wu P w H h)(e:h.objs.size<=a):H a=none:=by
 cases q:H a with
 |none=>rfl
 |some u=>exact absurd (zaH (x.lt q) e) (zbO _)
theorem wu.kept(x:wu P w H h)(k:∀b u,h.get? b=some u->h'.get? b=some u):wu P w H h':=fun a o e=>
 (x a o e).uJ (fun b u _ q=>k b u q) (fun _ q=>q) fun _ _ q=>q
theorem wu.laid(x:wu P w H h)(k:∀b u,h.get? b=some u->h'.get? b=some u)(hp:h.objs.size<=a)(new:fP P w (upd H a o) h' a o):wu P w (upd H a o) h':=fun b u e=>by
 have hn:=x.fresh hp;by_cases hb:b=a
 ·subst hb;rw[aj] at e;cases e;exact new
 ·rw[aq hb] at e;exact(x b u e).uJ (fun c v _ q=>k c v q) (fun c q=>by rw[aq (aI q hn)];exact q) fun c xs q=>by rw[aq (aI q hn)];exact q
end
def Rd (H:Hp) (a:zdP) (u:HO):Prop:=H a=some u\/∃o,H a=some (.Og o u)
theorem Rd.ok{P:zd1}{w:zdR}{H:Hp}{h:Heap}{a:zdP}{u:HO}(r:Rd H a u)(x:wu P w H h):fP P w H h a u:=by
 rcases r with r |⟨o,r⟩
 ·exact x a u r
 ·obtain⟨_,q⟩:=x a _ r;exact q
def ZH:Option HO->Prop
 |some (.lst _)=>True
 |some (.dK _)=>True
 |some (.dT _)=>True
 |some (.set _ _)=>True
 |some (.ins _ _ _)=>True
 |some (.ext _)=>True
 |_=>False
section
variable{P:zd1}{w:zdR}{H:Hp}{h h':Heap}{x e:zdP}{o':HO}
theorem wu.write(ok:wu P w H h)(mu:ZH (H x))(he:e=x\/H e=some (.own x))(k:∀b u,b≠e->h.get? b=some u->h'.get? b=some u)(W0:∃u,h'.get? e=some u)
 (new:fP P w (upd H x o') h' x o'):wu P w (upd H x o') h':=fun b u q=>by
 have Xt:∀c y,H c=some (.own y)->c≠x:=fun c y r z=>by subst z;rw[r] at mu;exact mu
 have aas:∀c xs,H c=some (.tup xs)->c≠x:=fun c xs r z=>by subst z;rw[r] at mu;exact mu
 by_cases hb:b=x
 ·subst hb;rw[aj] at q;cases q;exact new
 ·rw[aq hb] at q;by_cases UN:b=e
  ·have q':H b=some (.own x):=by
    rcases he with z |z
    ·exact absurd (UN.trans z) hb
    ·rw[UN];exact z
   rw[q] at q';cases q';obtain⟨v,hv⟩:=W0;exact⟨v,by rw[UN];exact hv⟩
  ·refine(ok b u q).uJ (fun c v hc r=>k c v ?_ r) (fun c r=>by rw[aq (Xt c b r)];exact r) fun c xs r=>by rw[aq (aas c xs r)];exact r
   rcases hc with rfl |hc
   ·exact UN
   ·rintro rfl
    rcases he with z |z
    ·exact Xt c b hc z
    ·rw[hc] at z;cases z;exact hb rfl
end
structure Un(fs ex:List zdP)(H H':Hp)(h h':Heap):Prop where
 keep:∀b o,h.get? b=some o->H b=none->b ∉ fs->b ∉ ex->h'.get? b=some o
 slot:∀b o,h.get? b=some o->H b=none->b∈fs->b ∉ ex->∃sl,h'.get? b=some {o with slots:=sl}
 free:∀b o,h.get? b=some o->H b=none->b ∉ ex->H' b=none
 there:∀b o,h.get? b=some o->b ∉ ex->∃o',h'.get? b=some o'
 lR:∀b xs,H b=some (.tup xs)->H' b=some (.tup xs)
 qE:∀b o u,H b=some (.Og o u)->H' b=some (.Og o u)
 rX:∀b ps,H b=some (.RI ps)->∃more,H' b=some (.RI (ps++more))
section
variable{fs TH ex ex':List zdP}{H H1 H2:Hp}{h h1 h2 h':Heap}{a x e:zdP}{o:HO}
theorem Un.any(u:Un fs ex H H1 h h1){b:zdP}{ob:Obj}(q:h.get? b=some ob)(n:H b=none)(hx:b ∉ ex):∃sl,h1.get? b=some {ob with slots:=sl}:=by
 by_cases hb:b∈fs
 ·exact u.slot b ob q n hb hx
 ·exact⟨ob.slots,u.keep b ob q n hb hx⟩
theorem Un.trans(a:Un fs ex H H1 h h1)(b:Un fs ex H1 H2 h1 h2):Un fs ex H H2 h h2 where
 keep:=fun c ob q n hc hx=>b.keep c ob (a.keep c ob q n hc hx) (a.free c ob q n hx) hc hx
 slot:=fun c ob q n hc hx=>by
  obtain⟨sl,e1⟩:=a.slot c ob q n hc hx;obtain⟨UO,e2⟩:=b.slot c _ e1 (a.free c ob q n hx) hc hx;exact⟨UO,e2⟩
 free:=fun c ob q n hx=>by
  obtain⟨o',e1⟩:=a.there c ob q hx;exact b.free c o' e1 (a.free c ob q n hx) hx
 there:=fun c ob q hx=>by
  obtain⟨o',e1⟩:=a.there c ob q hx;exact b.there c o' e1 hx
 lR:=fun c xs q=>b.lR c xs (a.lR c xs q)
 qE:=fun c ob xs q=>b.qE c ob xs (a.qE c ob xs q)
 rX:=fun c ps q=>by
  obtain⟨m1,e1⟩:=a.rX c ps q;obtain⟨m2,e2⟩:=b.rX c _ e1;exact⟨m1++m2,by rw[e2,zcK]⟩
theorem Un.kept(k:∀b u,h.get? b=some u->h'.get? b=some u):Un fs ex H H h h':=
 ⟨fun b ob q _ _ _=>k b ob q,fun b ob q _ _ _=>⟨ob.slots,k b ob q⟩,fun _ _ _ n _=>n,fun b ob q _=>⟨ob,k b ob q⟩,fun _ _ q=>q,fun _ _ _ q=>q,fun _ ps q=>⟨#[],by rw[q];simp⟩⟩
theorem Un.refl:Un fs ex H H h h:=Un.kept fun _ _ q=>q
theorem Un.laid(k:∀b u,h.get? b=some u->h'.get? b=some u)(hp:h.objs.size<=a)(hn:H a=none):Un fs ex H (upd H a o) h h' where
 keep:=fun b u q _ _ _=>k b u q
 slot:=fun b u q _ _ _=>⟨u.slots,k b u q⟩
 free:=fun b u q n _=>by rw[aq (zaR (zaH (Heap.lt_size q) hp))];exact n
 there:=fun b u q _=>⟨u,k b u q⟩
 lR:=fun b xs q=>by rw[aq (aI q hn)];exact q
 qE:=fun b u xs q=>by rw[aq (aI q hn)];exact q
 rX:=fun b ps q=>⟨#[],by rw[aq (aI q hn),q];simp⟩
theorem Un.write(mu:ZH (H x))(he:e=x\/H e=some (.own x))(k:∀b u,b≠e->h.get? b=some u->h'.get? b=some u)(W0:∃u,h'.get? e=some u):Un fs ex H (upd H x o) h h':=by
 have hx:∀b,H b=none->b≠x:=fun b n z=>by subst z;rw[n] at mu;exact mu
 have hb:∀b,H b=none->b≠e:=fun b n z=>by
  subst z;rcases he with r |r
  ·exact hx b n r
  ·rw[n] at r;cases r
 have hm:∀b u,H b=some u->¬ZH (some u)->b≠x:=fun b u q nm z=>by subst z;rw[q] at mu;exact nm mu
 refine⟨fun b u q n _ _=>k b u (hb b n) q,fun b u q n _ _=>⟨u.slots,k b u (hb b n) q⟩,fun b u q n _=>by rw[aq (hx b n)];exact n,fun b u q _=>?_,
  fun b xs q=>by rw[aq (hm b _ q fun z=>z)];exact q,fun b u xs q=>by rw[aq (hm b _ q fun z=>z)];exact q,fun b ps q=>⟨#[],by rw[aq (hm b _ q fun z=>z),q];simp⟩⟩
 by_cases UN:b=e
 ·subst UN;exact W0
 ·exact⟨u,k b u UN q⟩
theorem Un.mono(u:Un fs ex H H1 h h1)(hs:∀b∈fs,b∈TH)(hx:∀b∈ex,b∈ex'):Un TH ex' H H1 h h1:=
 ⟨fun b ob q n hb he=>u.keep b ob q n (fun z=>hb (hs b z)) fun z=>he (hx b z),fun _ _ q n _ he=>u.any q n fun z=>he (hx _ z),fun b ob q n he=>u.free b ob q n fun z=>he (hx b z),fun b ob q he=>u.there b ob q fun z=>he (hx b z),u.lR,u.qE,u.rX⟩
end
def Oh (h:Heap) (H:Hp):List zdP:=(zaA h.objs.size).filter fun a=>(H a).isSome
def EH (h:Heap) (H:Hp):Heap:=zcv h (Oh h H)
theorem Mf(h:Heap)(H:Hp):(EH h H).objs.size=h.objs.size:=PySem.W.hideAll_size _ _
theorem Oi{h:Heap}{H:Hp}{b:zdP}{o:Obj}(e:h.get? b=some o)(n:H b=none):(EH h H).get? b=some o:=
 zdD _ e fun hm=>by
  have q:(H b).isSome=true:=(zco.mp hm).2;rw[n] at q;simp at q
theorem RX{h:Heap}{H:Hp}{b:zdP}{o:Obj}(e:(EH h H).get? b=some o):h.get? b=some o/\H b=none:=by
 have e':h.get? b=some o:=zcP (Oh h H) e;refine⟨e',?_⟩;cases q:H b with
 |none=>rfl
 |some x=>
  have hm:b∈Oh h H:=zco.mpr ⟨zbu.mpr (Heap.lt_size e'),by simp[q]⟩;have z:(EH h H).get? b=none:=PySem.W.hideAll_none (Oh h H) hm;rw[z] at e;cases e
structure Mod(K:zab)(mg:Str->Option zdQ)(base:Heap):Prop where
 W4:K.In base
 glob:base.Ns zdW mg
 blt:∃mb,base.Ns builtinsNs mb/\∀x:Str,x≠"__name__"->mb x=bootBuiltins x
 nolimit:base.NoLimit
structure Cx where
 prog:zd1
 w:zdR
 K:zab
 mg:Str->Option zdQ
 base:Heap
 A:zd0
 N:List Str
 s₀:zdZ
 H₀:Hp
 env:Env
 outer:List Env
 stack:List Env
 ex:List zdP
 fn:Str->Bool
 calm:Bool
 pn:List (zdP×Obj)
 xe:zdQ->zdZ->Prop
def gH (l:List Env):List zdP:=l.filterMap (·.frame)
abbrev Cx.fs (X:Cx):List zdP:=gH X.outer
def ZI (sc:Scope) (x:Str):Prop:=sc.names.lookup x=some .local\/sc.names.lookup x=some .cell\/sc.names.lookup x=some .free
def Loc (sc:Scope) (x:Str):Prop:=sc.names.lookup x=some .local\/sc.names.lookup x=some .cell
def Look (env:Env) (h:Heap) (m:Str->Option zdQ) (x:Str) (u:zdQ):Prop:=
 (env.kindOf x=some .local/\m x=some u)\/((env.kindOf x=some .cell\/env.kindOf x=some .free)/\∃c,env.cells.lookup x=some c/\h.IsCell c (some u))
structure Cx.Ok(X:Cx):Prop where
 mod:Mod X.K X.mg X.base
 kind:X.env.scope.kind=.function
 glob:X.env.globals=zdW
 blt:X.env.builtins=builtinsNs
 above:X.s₀.heap.objs.size<=X.env.locals
 inj:∀x y c,X.env.cells.lookup x=some c->X.env.cells.lookup y=some c->x=y
 has:∀x,(X.env.kindOf x=some .cell\/X.env.kindOf x=some .free)->∃c,X.env.cells.lookup x=some c
 RY:∀x c,X.fn x=true->X.env.cells.lookup x=some c->X.s₀.heap.objs.size<=c
 hd:X.calm=true->X.A.handled=none
 frames:X.A.frames=some X.stack
 RJ:X.stack=X.outer\/(X.stack=X.env::X.outer/\X.env.frame=some X.env.locals)
 W5:∀b∈X.ex,b≠X.env.locals/\∀x c,X.env.cells.lookup x=some c->c≠b
 bs:∀b o,X.base.get? b=some o->X.s₀.heap.get? b=some o/\X.H₀ b=none
 Jf:X.base.objs.size<=X.s₀.heap.objs.size
 EI:∀b o,X.base.get? b=some o->b ∉ X.ex
 Gn:∀b∈X.ex,b ∉ X.fs
 r9:X.s₀.heap.FunFrames X.base X.outer
 N6:∀b∈X.fs,X.H₀ b=none
structure Inv(X:Cx)(pins:List (zdP×Obj))(σ:List (Option V))(H:Hp)(s:zdZ):Prop where
 ok:X.Ok
 os:s.os=X.s₀.os
 bare:AllBare s.gens
 base:Un X.fs X.ex X.H₀ H X.s₀.heap s.heap
 loc:∃m,s.heap.Ns X.env.locals m/\∀(i:Nat) (x:Str) (v:V),X.N[i]?=some x->σ[i]?=some (some v)->ZI X.env.scope x->∃u,RelV v u/\Look X.env s.heap m x u
 cell:∀x c,X.env.cells.lookup x=some c->∃v,s.heap.IsCell c v
 free:H X.env.locals=none
 lh:∀x c,X.env.cells.lookup x=some c->H c=none
 pin:∀p∈X.pn++pins,s.heap.get? p.1=some p.2/\H p.1=none/\p.1≠X.env.locals/\p.1 ∉ X.fs/\∀v,p.2.data≠.cell v
 eC:wu X.prog X.w H s.heap
 len:σ.length=X.N.length
section
variable{X:Cx}{pins:List (zdP×Obj)}{σ:List (Option V)}{H H':Hp}{s:zdZ}{h':Heap}
theorem Cx.Ok.aat(ok:X.Ok){b:zdP}{o:Obj}(e:X.base.get? b=some o):b ∉ X.fs:=fun hb=>by
 have:=(ok.r9.mem hb).1;rw[e] at this;cases this
theorem Inv.bs(I:Inv X pins σ H s):∀b o,X.base.get? b=some o->s.heap.get? b=some o/\H b=none:=fun b o e=>
 ⟨I.base.keep b o (I.ok.bs b o e).1 (I.ok.bs b o e).2 (I.ok.aat e) (I.ok.EI b o e),I.base.free b o (I.ok.bs b o e).1 (I.ok.bs b o e).2 (I.ok.EI b o e)⟩
theorem Inv.bk(I:Inv X pins σ H s):∀b o,X.base.get? b=some o->s.heap.get? b=some o:=fun b o e=>(I.bs b o e).1
theorem Inv.mod(I:Inv X pins σ H s):Mod X.K X.mg X.base:=I.ok.mod
theorem Inv.CQ(I:Inv X pins σ H s):X.K.In s.heap:=I.ok.mod.W4.keeps I.bk
theorem Inv.fr(I:Inv X pins σ H s):∃m,Fr X.base X.env.locals s.heap m:=
 let ⟨m,hn,_⟩:=I.loc
 ⟨m,hn,I.bk,zay I.ok.Jf I.ok.above⟩
theorem Inv.lt(I:Inv X pins σ H s):X.env.locals<s.heap.objs.size:=let ⟨_,hn,_⟩:=I.loc;hn.lt
theorem Inv.sz(I:Inv X pins σ H s):X.s₀.heap.objs.size<=s.heap.objs.size:=zay I.ok.above (zc1 I.lt)
theorem Inv.aau(I:Inv X pins σ H s){a:zdP}(h:s.heap.objs.size<=a):a ∉ X.fs:=fun hb=>by
 obtain⟨_,o,ho,_⟩:=I.ok.r9.mem hb;exact absurd (zaH (Heap.lt_size ho) (zay I.sz h)) (zbO _)
theorem Inv.Oj(I:Inv X pins σ H s):∀x c,X.env.cells.lookup x=some c->c≠X.env.locals:=fun x c e z=>by
 obtain⟨v,o,ho,hd⟩:=I.cell x c e;obtain⟨m,⟨o',es,ep,uK,Xu,_⟩,_⟩:=I.loc;rw[z,uK] at ho;cases ho;rw[Xu] at hd;cases hd
theorem Inv.r9(I:Inv X pins σ H s):s.heap.FunFrames X.base X.outer:=by
 have all:∀(l:List Env),(∀b∈gH l,b∈X.fs)->X.s₀.heap.FunFrames X.base l->s.heap.FunFrames X.base l:=by
  intro l
  induction l with
  |nil=>intro _ _;trivial
  |cons env r ih=>
   intro hs hl;obtain⟨hk,⟨L,o,hf,hn,ho,hd⟩,hr⟩:=hl;have hL:L∈X.fs:=hs L (by unfold gH;rw[zcA,hf];exact zap);obtain⟨sl,e⟩:=I.base.slot L o ho (I.ok.N6 L hL) hL fun z=>I.ok.Gn L z hL;exact⟨hk,⟨L,_,hf,hn,e,hd⟩,ih (fun b hb=>hs b (by unfold gH;rw[zcA,hf];exact zak _ hb)) hr⟩
 exact all X.outer (fun _ hb=>hb) I.ok.r9
theorem Inv.stack(I:Inv X pins σ H s):s.heap.FunFrames X.base X.stack:=by
 rcases I.ok.RJ with e |⟨e,hf⟩
 ·rw[e];exact I.r9
 ·rw[e];obtain⟨m,hn,_⟩:=I.loc;refine .cons (by rw[I.ok.kind];decide) hf hn ?_ I.r9;exact Heap.get?_none_of_le (zay I.ok.Jf I.ok.above)
theorem Inv.xM(I:Inv X pins σ H s):∀b∈gH X.stack,b∈X.env.locals::X.fs:=fun b hb=>by
 rcases I.ok.RJ with e |⟨e,hf⟩
 ·rw[e] at hb;exact zak _ hb
 ·rw[e] at hb;unfold gH at hb;rw[zcA,hf] at hb;exact hb
theorem Inv.z7(I:Inv X pins σ H s):∀b∈gH X.stack,H b=none:=fun b hb=>by
 rcases zai.mp (I.xM b hb) with e |hb
 ·rw[e];exact I.free
 ·obtain⟨_,o,ho,_⟩:=I.ok.r9.mem hb;exact I.base.free b o ho (I.ok.N6 b hb) fun z=>I.ok.Gn b z hb
theorem Inv.step{g':Array GenState}{t':Nat}{d':Drawn}{ch:List zdP}(I:Inv X pins σ H s)
 (RK:∀b∈ch,(b∈X.ex\/X.s₀.heap.objs.size<=b)/\b≠X.env.locals/\(∀x c,X.env.cells.lookup x=some c->c≠b)/\∀p∈X.pn++pins,p.1≠b)
 (keep:∀b o,b≠X.env.locals->b ∉ X.fs->b ∉ ch->s.heap.get? b=some o->H b=none->h'.get? b=some o)
 (slot:∀b o,b≠X.env.locals->b∈X.fs->b ∉ ch->s.heap.get? b=some o->H b=none->∃sl,h'.get? b=some {o with slots:=sl}) (free:∀b o,b ∉ ch->s.heap.get? b=some o->H b=none->H' b=none)
 (there:∀b o,b ∉ ch->s.heap.get? b=some o->∃o',h'.get? b=some o')
 (lR:∀b xs,H b=some (.tup xs)->H' b=some (.tup xs)) (qE:∀b o u,H b=some (.Og o u)->H' b=some (.Og o u)) (rX:∀b ps,H b=some (.RI ps)->∃more,H' b=some (.RI (ps++more)))
 (ns:∀m,s.heap.Ns X.env.locals m->h'.Ns X.env.locals m) (eC:wu X.prog X.w H' h') (hg:AllBare g') :
 Inv X pins σ H' {s with heap:=h',gens:=g',drawn:=d',toks:=t' }:=by
 have ZJ:∀b o,X.s₀.heap.get? b=some o->b≠X.env.locals:=fun b o e=>zaR (zaH (Heap.lt_size e) I.ok.above);have ZK:∀b o,X.s₀.heap.get? b=some o->b ∉ X.ex->b ∉ ch:=fun b o e hx hb=>by
  rcases(RK b hb).1 with z |z
  ·exact hx z
  ·exact absurd (zaH (Heap.lt_size e) z) (zbO _)
 have cellK:∀x c,X.env.cells.lookup x=some c->∀v,s.heap.IsCell c v->h'.IsCell c v:=fun x c e v ⟨o,ho,hd⟩=>by
  have Xv:c ∉ ch:=fun z=>(RK c z).2.2.1 x c e rfl;by_cases hc:c∈X.fs
  ·obtain⟨sl,q⟩:=slot c o (I.Oj x c e) hc Xv ho (I.lh x c e);exact⟨_,q,hd⟩
  ·exact⟨o,keep c o (I.Oj x c e) hc Xv ho (I.lh x c e),hd⟩
 refine⟨I.ok,I.os,hg,⟨fun b o e n hb hx=>?_,fun b o e n hb hx=>?_,fun b o e n hx=>?_,fun b o e hx=>?_,fun b xs e=>lR b xs (I.base.lR b xs e),fun b o xs e=>qE b o xs (I.base.qE b o xs e),fun b ps e=>?_⟩,?_,fun x c e=>?_,?_,fun x c e=>?_,fun p hp=>?_,eC,I.len⟩
 ·exact keep b o (ZJ b o e) hb (ZK b o e hx) (I.base.keep b o e n hb hx) (I.base.free b o e n hx)
 ·obtain⟨sl,e1⟩:=I.base.slot b o e n hb hx;obtain⟨UO,e2⟩:=slot b _ (ZJ b o e) hb (ZK b o e hx) e1 (I.base.free b o e n hx);exact⟨UO,e2⟩
 ·obtain⟨o',e1⟩:=I.base.there b o e hx;exact free b o' (ZK b o e hx) e1 (I.base.free b o e n hx)
 ·obtain⟨o',e1⟩:=I.base.there b o e hx;exact there b o' (ZK b o e hx) e1
 ·obtain⟨m1,e1⟩:=I.base.rX b ps e;obtain⟨m2,e2⟩:=rX b _ e1;exact⟨m1++m2,by rw[e2,zcK]⟩
 ·obtain⟨m,hn,hl⟩:=I.loc;refine⟨m,ns m hn,fun i x v e1 e2 e3=>?_⟩;obtain⟨u,r,l⟩:=hl i x v e1 e2 e3;refine⟨u,r,?_⟩;rcases l with l |⟨k,c,e,z⟩
  ·exact .inl l
  ·exact .inr ⟨k,c,e,cellK x c e _ z⟩
 ·obtain⟨v,z⟩:=I.cell x c e;exact⟨v,cellK x c e v z⟩
 ·obtain⟨m,⟨o,_,_,ho,_⟩,_⟩:=I.loc;exact free _ o (fun z=>(RK _ z).2.1 rfl) ho I.free
 ·obtain⟨v,o,ho,hd⟩:=I.cell x c e;exact free c o (fun z=>(RK c z).2.2.1 x c e rfl) ho (I.lh x c e)
 ·obtain⟨e,n,ne,nf,d⟩:=I.pin p hp;have Xv:p.1 ∉ ch:=fun z=>(RK p.1 z).2.2.2 p hp rfl;exact⟨keep p.1 p.2 ne nf Xv e n,free p.1 p.2 Xv e n,ne,nf,d⟩
theorem Inv.un{t':Nat}(I:Inv X pins σ H s)(u:Un X.fs [] H H' s.heap h')(eC:wu X.prog X.w H' h'):Inv X pins σ H' {s with heap:=h',toks:=t' }:=by
 obtain⟨m,⟨o,es,ep,ho,r⟩,_⟩:=id I.loc;obtain⟨sl,hL⟩:=u.any ho I.free (by simp);exact I.step (g':=s.gens) (d':=s.drawn) (ch:=[]) (fun _ z=>nomatch z) (fun b o _ hb _ e n=>u.keep b o e n hb (by simp)) (fun b o _ hb _ e n=>u.slot b o e n hb (by simp)) (fun b o _ e n=>u.free b o e n (by simp)) (fun b o _ e=>u.there b o e (by simp)) u.lR u.qE u.rX (fun m' hm=>by
  obtain⟨o',Xw,ep',uK,r'⟩:=hm;rw[ho] at uK;cases uK;exact⟨_,Xw,ep',hL,r'⟩) eC I.bare
theorem Inv.call{g':Array GenState}{t':Nat}{d':Drawn}{ch:List zdP}(I:Inv X pins σ H s)(u:Un (gH X.stack) ch H H' s.heap h')(eC:wu X.prog X.w H' h')(hg:AllBare g')
 (RK:∀b∈ch,(b∈X.ex\/X.s₀.heap.objs.size<=b)/\b≠X.env.locals/\(∀x c,X.env.cells.lookup x=some c->c≠b)/\∀p∈X.pn++pins,p.1≠b) :
 Inv X pins σ H' {s with heap:=h',gens:=g',drawn:=d',toks:=t' }:=by
 obtain⟨m,⟨o,es,ep,ho,r⟩,_⟩:=id I.loc;obtain⟨sl,hL⟩:=u.any ho I.free fun z=>(RK _ z).2.1 rfl;exact I.step (ch:=ch) RK (fun b o hL hb hc e n=>u.keep b o e n (fun z=>(zai.mp (I.xM b z)).elim hL hb) hc) (fun b o _ _ hc e n=>u.any e n hc) (fun b o hc e n=>u.free b o e n hc) (fun b o hc e=>u.there b o e hc) u.lR u.qE u.rX (fun m' hm=>by
  obtain⟨o',Xw,ep',uK,r'⟩:=hm;rw[ho] at uK;cases uK;exact⟨_,Xw,ep',hL,r'⟩) eC hg
theorem Inv.turned{t':Nat}{it:zdP}(I:Inv X pins σ H s)(k:∀b o,b≠it->s.heap.get? b=some o->h'.get? b=some o)(hn:H it=none)(hL:it≠X.env.locals)
 (h1:it∈X.ex\/X.s₀.heap.objs.size<=it) (h2:∀x c,X.env.cells.lookup x=some c->c≠it) (h3:∀p∈X.pn++pins,p.1≠it):Inv X pins σ H {s with heap:=h',toks:=t' }:=by
 have Xx:∀b u,H b=some u->b≠it:=fun b u e z=>by rw[z,hn] at e;cases e
 refine I.step (g':=s.gens) (d':=s.drawn) (ch:=[it]) (fun b hb=>?_) (fun b o _ _ hc e _=>k b o (fun z=>hc (by simp[z])) e) (fun b o _ _ hc e _=>⟨o.slots,k b o (fun z=>hc (by simp[z])) e⟩) (fun _ _ _ _ n=>n)
  (fun b o hc e=>⟨o,k b o (fun z=>hc (by simp[z])) e⟩) (fun _ _ e=>e) (fun _ _ _ e=>e) (fun b ps e=>⟨#[],by rw[e];simp⟩) (fun m hm=>?_) (fun b u e=>?_) I.bare
 ·have e:b=it:=by simpa using hb
  subst e;exact⟨h1,hL,h2,h3⟩
 ·obtain⟨o,es,ep,ho,r⟩:=hm;exact⟨o,es,ep,k _ o (Ne.symm hL) ho,r⟩
 ·refine(I.eC b u e).uJ (fun c v hc q=>k c v ?_ q) (fun _ q=>q) fun _ _ q=>q;rcases hc with z |z
  ·rw[z];exact Xx b u e
  ·exact Xx c _ z
theorem Inv.tok(I:Inv X pins σ H s)(t:Nat):Inv X pins σ H {s with toks:=t}:=I.un (h':=s.heap) (t':=t) Un.refl I.eC
theorem Inv.kept{t':Nat}(I:Inv X pins σ H s)(k:∀b u,s.heap.get? b=some u->h'.get? b=some u):Inv X pins σ H {s with heap:=h',toks:=t' }:=I.un (Un.kept k) (I.eC.kept k)
theorem Inv.laid{a:zdP}{o:HO}{t':Nat}(I:Inv X pins σ H s)(k:∀b u,s.heap.get? b=some u->h'.get? b=some u)(hp:s.heap.objs.size<=a)(new:fP X.prog X.w (upd H a o) h' a o) :
 Inv X pins σ (upd H a o) {s with heap:=h',toks:=t' }:=I.un (Un.laid k hp (I.eC.fresh hp)) (I.eC.laid k hp new)
theorem Inv.write{x e:zdP}{o:HO}{t':Nat}(I:Inv X pins σ H s)(mu:ZH (H x))(he:e=x\/H e=some (.own x))(k:∀b u,b≠e->s.heap.get? b=some u->h'.get? b=some u)(W0:∃u,h'.get? e=some u)
 (new:fP X.prog X.w (upd H x o) h' x o):Inv X pins σ (upd H x o) {s with heap:=h',toks:=t' }:=I.un (Un.write mu he k W0) (I.eC.write mu he k W0 new)
theorem Inv.KQ{yT:List (zdP×Obj)}(I:Inv X pins σ H s)(h:∀p∈yT,s.heap.get? p.1=some p.2/\H p.1=none/\p.1≠X.env.locals/\p.1 ∉ X.fs/\∀v,p.2.data≠.cell v):Inv X yT σ H s:=
 ⟨I.ok,I.os,I.bare,I.base,I.loc,I.cell,I.free,I.lh,fun p hp=>(zam.mp hp).elim (fun z=>I.pin p (zaW _ z)) (h p),I.eC,I.len⟩
theorem Al{N:List Str}(hN:N.Nodup){i j:Nat}{x:Str}(a:N[i]?=some x)(b:N[j]?=some x):i=j:=by
 obtain⟨h1,e1⟩:=zar.mp a;obtain⟨h2,e2⟩:=zar.mp b;exact(zc2 hN).mp (e1.trans e2.symm)
theorem DW{M:Model}{A:zd0}{E:zdQ->zdZ->Prop}{i:Nat}{x:Str}{v:V}{u:zdQ}{Q:Unit->zdZ->Prop}(I:Inv X pins σ H s)(hN:X.N.Nodup)(hi:X.N[i]?=some x)(hx:Loc X.env.scope x)(r:RelV v u)
 (h:∀s',Inv X pins (σ.set i (some v)) H s'->(∃a,Heap.SameBut a s.heap s'.heap/\(a=X.env.locals\/X.env.cells.lookup x=some a))->Q () s') (hf:X.fn x=true\/X.env.scope.names.lookup x=some .local:=by first |exact .inl rfl |exact .inr rfl |assumption):wpAny M A (storeName X.env x u) Q E s:=by
 obtain⟨m,hn,hl⟩:=id I.loc;have aaw:(X.env.scope.kind==.class ||(X.env.scope.kind==.module&&X.env.locals != X.env.globals))=false:=by rw[I.ok.kind];rfl
 have Xy:i<σ.length:=by rw[I.len];exact(zar.mp hi).1
 have Oj:=I.Oj;have tracked:∀ {a:zdP} {h':Heap},(∃o,s.heap.get? a=some o/\H a=none)->Heap.SameBut a s.heap h'->wu X.prog X.w H h':=fun {a h'} ha hs b ob e=>by
  obtain⟨_,_,wA⟩:=ha;refine(I.eC b ob e).uJ (fun c w' hc q=>(hs.2 c ?_).trans q) (fun _ q=>q) fun _ _ q=>q
  rintro rfl
  rcases hc with rfl |hc
  ·rw[wA] at e;cases e
  ·rw[wA] at hc;cases hc
 rcases hx with hk |hk
 ·refine wpAny_storeName_local hk hn (fun h' hn' hs=>?_) aaw;obtain⟨oL,_,_,ZL,_⟩:=id hn;refine h _ ⟨I.ok,I.os,I.bare,⟨fun b o e n hb hx=>?_,fun b o e n hb hx=>?_,I.base.free,fun b o e hx=>?_,I.base.lR,I.base.qE,I.base.rX⟩,⟨_,hn',fun j y v' e1 e2 e3=>?_⟩,fun y c e=>?_,I.free,I.lh,fun p hp=>?_,tracked ⟨oL,ZL,I.free⟩ hs,by simpa using I.len⟩ ⟨_,hs,.inl rfl⟩
  ·exact(hs.2 b (zaR (zaH (Heap.lt_size e) I.ok.above))).trans (I.base.keep b o e n hb hx)
  ·obtain⟨sl,e1⟩:=I.base.slot b o e n hb hx;exact⟨sl,(hs.2 b (zaR (zaH (Heap.lt_size e) I.ok.above))).trans e1⟩
  ·obtain⟨o',e1⟩:=I.base.there b o e hx;exact⟨o',(hs.2 b (zaR (zaH (Heap.lt_size e) I.ok.above))).trans e1⟩
  ·by_cases hj:j=i
   ·subst hj;rw[hi] at e1;cases e1;rw[zbx Xy] at e2;cases e2;exact⟨u,r,.inl ⟨hk,by simp⟩⟩
   ·rw[zbD (Ne.symm hj)] at e2;obtain⟨u',r',q⟩:=hl j y v' e1 e2 e3;refine⟨u',r',?_⟩;rcases q with ⟨k,e⟩ |⟨k,c,e,z⟩
    ·refine .inl ⟨k,?_⟩;have:y≠x:=fun e=>hj (Al hN e1 (e▸hi));simp[this,e]
    ·exact .inr ⟨k,c,e,z.sameBut hs (Oj y c e)⟩
  ·obtain⟨w',z⟩:=I.cell y c e;exact⟨w',z.sameBut hs (Oj y c e)⟩
  ·obtain⟨e,n,ne,nf,d⟩:=I.pin p hp;exact⟨(hs.2 p.1 ne).trans e,n,ne,nf,d⟩
 ·have Xz:X.fn x=true:=by
   rcases hf with z |z
   ·exact z
   ·rw[z] at hk;cases hk
  obtain⟨c,hc⟩:=I.ok.has x (.inl hk);obtain⟨w',z⟩:=I.cell x c hc;refine wpAny_storeName_cell I.ok.kind hk hc z (fun h' W6 hs=>?_);obtain⟨oc,hoc,aay⟩:=id z;refine h {s with heap:=h' } ⟨I.ok,I.os,I.bare,⟨fun b o e n hb hx=>?_,fun b o e n hb hx=>?_,I.base.free,fun b o e hx=>?_,I.base.lR,I.base.qE,I.base.rX⟩,⟨m,hn.sameBut hs (Ne.symm (Oj x c hc)),fun j y v' e1 e2 e3=>?_⟩,fun y c' e=>?_,I.free,I.lh,fun p hp=>?_,tracked ⟨oc,hoc,I.lh x c hc⟩ hs,by simpa using I.len⟩ ⟨c,hs,.inr hc⟩
  ·exact(hs.2 b (zaR (zaH (Heap.lt_size e) (I.ok.RY x c Xz hc)))).trans (I.base.keep b o e n hb hx)
  ·obtain⟨sl,e1⟩:=I.base.slot b o e n hb hx;exact⟨sl,(hs.2 b (zaR (zaH (Heap.lt_size e) (I.ok.RY x c Xz hc)))).trans e1⟩
  ·obtain⟨o',e1⟩:=I.base.there b o e hx;exact⟨o',(hs.2 b (zaR (zaH (Heap.lt_size e) (I.ok.RY x c Xz hc)))).trans e1⟩
  ·by_cases hj:j=i
   ·subst hj;rw[hi] at e1;cases e1;rw[zbx Xy] at e2;cases e2;exact⟨u,r,.inr ⟨.inl hk,c,hc,W6⟩⟩
   ·rw[zbD (Ne.symm hj)] at e2;obtain⟨u',r',q⟩:=hl j y v' e1 e2 e3;refine⟨u',r',?_⟩;rcases q with q |⟨k,c',e,z'⟩
    ·exact .inl q
    ·refine .inr ⟨k,c',e,z'.sameBut hs ?_⟩
     rintro rfl
     exact hj (Al hN e1 (I.ok.inj _ _ _ e hc▸hi))
  ·by_cases hcc:c'=c
   ·subst hcc;exact⟨_,W6⟩
   ·obtain⟨w2,z2⟩:=I.cell y c' e;exact⟨w2,z2.sameBut hs hcc⟩
  ·obtain⟨e,n,ne,nf,d⟩:=I.pin p hp;refine⟨(hs.2 p.1 ?_).trans e,n,ne,nf,d⟩;intro q;rw[q,hoc] at e;have q':oc=p.2:=zaG.inj e;exact d w' (by rw[<- q'];exact aay)
theorem Am{M:Model}{A:zd0}{E:zdQ->zdZ->Prop}{i:Nat}{x:Str}{v:V}{u:zdQ}{Q:Unit->zdZ->Prop}(I:Inv X pins σ H s)(hN:X.N.Nodup)(hi:X.N[i]?=some x)(hx:Loc X.env.scope x)(r:RelV v u)
 (h:∀s',Inv X pins (σ.set i (some v)) H s'->Q () s') (hf:X.fn x=true\/X.env.scope.names.lookup x=some .local:=by first |exact .inl rfl |exact .inr rfl |assumption):wpAny M A (storeName X.env x u) Q E s:=
 DW I hN hi hx r (fun s' I' _=>h s' I') hf
theorem Inv.TJ{s':zdZ}{ch:List zdP}(I:Inv X pins σ H s)(ho:s'.os=s.os)(u:Un (gH X.stack) ch H H' s.heap s'.heap)(eC:wu X.prog X.w H' s'.heap)(hg:AllBare s'.gens)
 (RK:∀b∈ch,(b∈X.ex\/X.s₀.heap.objs.size<=b)/\b≠X.env.locals/\(∀x c,X.env.cells.lookup x=some c->c≠b)/\∀p∈X.pn++pins,p.1≠b):Inv X pins σ H' s':=by
 obtain⟨h',g',d',t',o'⟩:=s';have e:o'=s.os:=ho;subst e;exact I.call (g':=g') (t':=t') (d':=d') u eC hg RK
end
abbrev XK:=zdQ->Option zdP->Hp->Prop
abbrev St:=List (Option V)
abbrev VK:=V->Hp->Prop
abbrev TE:=St->Hp->VK->Prop
abbrev TT:=St->Hp->(Bool->Hp->Prop)->Prop
abbrev TA:=St->Hp->(List V->Hp->Prop)->Prop
structure Ends where
 nx:St->Hp->Prop
 rt:VK
 bk:St->Hp->Prop:=fun _ _=>False
 ct:St->Hp->Prop:=fun _ _=>False
abbrev TS:=Ends->St->Hp->Prop
def EP (X:Cx) (pins:List (zdP×Obj)) (σ:St) (Q:VK) (u:zdQ) (s':zdZ):Prop:=∃v H',Inv X pins σ H' s'/\RelV v u/\Q v H'
def TP (X:Cx) (pins:List (zdP×Obj)) (σ:St) (Q:Bool->Hp->Prop) (b:Bool) (s':zdZ):Prop:=∃H',Inv X pins σ H' s'/\Q b H'
def AP (X:Cx) (pins:List (zdP×Obj)) (σ:St) (Q:List V->Hp->Prop) (us:List zdQ) (s':zdZ):Prop:=∃vs H',Inv X pins σ H' s'/\Vals vs us/\Q vs H'
def SP (X:Cx) (pins:List (zdP×Obj)) (D:Ends) (f:Flow) (s':zdZ):Prop:=
 match f with
 |.next=>∃σ' H',Inv X pins σ' H' s'/\D.nx σ' H'
 |.brk=>∃σ' H',Inv X pins σ' H' s'/\D.bk σ' H'
 |.cont=>∃σ' H',Inv X pins σ' H' s'/\D.ct σ' H'
 |.ret u=>∃v σ' H',Inv X pins σ' H' s'/\RelV v u/\D.rt v H'
def PE (X:Cx) (e:Expr) (t:TE):Prop:=
 ∀(pins:List (zdP×Obj)) (s:zdZ) (σ:St) (H:Hp) (Q:VK),Inv X pins σ H s->t σ H Q->wpAny (model X.prog X.w) X.A (eval e X.env) (EP X pins σ Q) X.xe s
def PT (X:Cx) (e:Expr) (t:TT):Prop:=
 ∀(pins:List (zdP×Obj)) (s:zdZ) (σ:St) (H:Hp) (Q:Bool->Hp->Prop),Inv X pins σ H s->t σ H Q->wpAny (model X.prog X.w) X.A (isTrue e X.env (eval e X.env)) (TP X pins σ Q) X.xe s
def PW (X:Cx) (e:Expr) (t:TT):Prop:=
 ∀(whole:Sem zdQ) (pins:List (zdP×Obj)) (s:zdZ) (σ:St) (H:Hp) (Q:Bool->Hp->Prop),Inv X pins σ H s->t σ H Q->wpAny (model X.prog X.w) X.A (isTrue e X.env whole) (TP X pins σ Q) X.xe s
theorem PW.pt{X:Cx}{e:Expr}{t:TT}(h:PW X e t):PT X e t:=h _
def PA (X:Cx) (es:List Expr) (t:TA):Prop:=
 ∀(pos:Pos) (pins:List (zdP×Obj)) (s:zdZ) (σ:St) (H:Hp) (Q:List V->Hp->Prop),Inv X pins σ H s->t σ H Q->wpAny (model X.prog X.w) X.A (spliced (backTo pos (zdV es X.env))) (AP X pins σ Q) X.xe s
def PS (X:Cx) (st:Stmt) (t:TS):Prop:=
 ∀(pins:List (zdP×Obj)) (s:zdZ) (σ:St) (H:Hp) (D:Ends),Inv X pins σ H s->t D σ H->wpAny (model X.prog X.w) X.A (exec st X.env) (SP X pins D) X.xe s
def IX (X:Cx) (st:List Stmt) (t:TS):Prop:=
 ∀(pins:List (zdP×Obj)) (s:zdZ) (σ:St) (H:Hp) (D:Ends),Inv X pins σ H s->t D σ H->wpAny (model X.prog X.w) X.A (execs st X.env) (SP X pins D) X.xe s
theorem fA{α:Type}{t:Sem α}{Q Q':α->zdZ->Prop}{M:Model}{A:zd0}{E:zdQ->zdZ->Prop}{s:zdZ}(h:wpAny M A t Q E s)(hQ:∀a s,Q a s->Q' a s):wpAny M A t Q' E s:=wpAny_mono h hQ fun _ _ x=>x
section
variable{X:Cx}
theorem bin{a b:Expr}{ta tb:TE}(ha:PE X a ta)(hb:PE X b tb){pins:List (zdP×Obj)}{s:zdZ}{σ:St}{H:Hp}{R:V->V->Hp->Prop}(I:Inv X pins σ H s)(h:ta σ H fun x H1=>tb σ H1 fun y H2=>R x y H2)
 {α:Type} {Q:α->zdZ->Prop} {f:zdQ->zdQ->Sem α}
 (hf:∀v u s2 x y H2,Inv X pins σ H2 s2->RelV x v->RelV y u->R x y H2->wpAny (model X.prog X.w) X.A (f v u) Q X.xe s2) :
 wpAny (model X.prog X.w) X.A (eval a X.env) (fun v s₁=>wpAny (model X.prog X.w) X.A (eval b X.env) (fun u s₂=>wpAny (model X.prog X.w) X.A (f v u) Q X.xe s₂) X.xe s₁) X.xe s:=by
 refine fA (ha pins s σ H _ I h) fun v s1 zqz=>?_;obtain⟨x,H1,I1,r1,q1⟩:=zqz;refine fA (hb pins s1 σ H1 _ I1 q1) fun u s2 zqz=>?_;obtain⟨y,H2,I2,r2,q2⟩:=zqz;exact hf v u s2 x y H2 I2 r1 r2 q2
def vAt (Q:V->Prop):Option (Option V)->Prop
 |some (some v)=>Q v
 |_=>False
theorem UP{Q:V->Prop}:∀ {o:Option (Option V)},vAt Q o->∃v,o=some (some v)/\Q v
 |some (some v),h=>⟨v,rfl,h⟩
 |some none,h=>h.elim
 |none,h=>h.elim
def fZ (i:Nat):TE:=fun σ H Q=>vAt (fun v=>Q v H) σ[i]?
def tC (v:V):TE:=fun _ H Q=>Q v H
theorem UQ{i:Nat}{x:Str}{pos:Pos}(hN:X.N[i]?=some x)(hv:ZI X.env.scope x)(hd:(x==("__debug__":Str))=false:=by decide)(Mg:(x==("__classdict__":Str))=false:=by decide):PE X (.Name x pos) (fZ i):=by
 intro pins s σ H Q I h;obtain⟨v,e,h⟩:=UP h;obtain⟨m,hn,hl⟩:=I.loc;obtain⟨u,r,l⟩:=hl i x v hN e hv;have fin:EP X pins σ Q u s:=⟨v,H,I,r,h⟩
 rcases l with ⟨hk,hm⟩ |⟨hk,c,hc,KR⟩
 ·exact wpAny_Name (wpAny_loadName_local I.ok.kind hk hn hm fin) hd
 ·rcases hk with hk |hk
  ·exact wpAny_Name (wpAny_loadName_cell I.ok.kind hk hc KR fin) hd
  ·exact wpAny_Name (wpAny_loadName_free I.ok.kind hk hc KR fin Mg) hd
theorem ai{i j pos}:PE X (.Constant (.int i) j pos) (tC (.int i)):=fun _ _ _ H _ I h=>wpAny_Constant_int ⟨.int i,H,I.tok _,⟨_,rfl⟩,h⟩
theorem XA{b j pos}:PE X (.Constant (.bool b) j pos) (tC (.bl b)):=fun _ _ _ H _ I h=>Constant_bool ⟨.bl b,H,I,rfl,h⟩
theorem An{j pos}:PE X (.Constant .none j pos) (tC .eB):=fun _ _ _ H _ I h=>Constant_none ⟨.eB,H,I,rfl,h⟩
theorem au{x j pos}:PE X (.Constant (.str x) j pos) (tC (.str x)):=fun _ _ _ H _ I h=>Calls.Constant_str ⟨.str x,H,I.tok _,⟨_,rfl⟩,h⟩
def Gl (X:Cx) (x:Str):Prop:=X.env.kindOf x=some .globalImplicit
theorem qF{E:zdQ->zdZ->Prop}{pins:List (zdP×Obj)}{s:zdZ}{σ:St}{H:Hp}{x:Str}{u:zdQ}{pos:Pos}{Q:zdQ->zdZ->Prop}(I:Inv X pins σ H s)(hg:Gl X x)(hm:X.mg x=some u)(h:Q u s)
 (hd:(x==("__debug__":Str))=false:=by decide):wpAny (model X.prog X.w) X.A (eval (.Name x pos) X.env) Q E s:=
 Calls.Name_function_global I.ok.kind hg (Calls.loadGlobal_global (by rw[I.ok.glob];exact I.mod.glob.keeps I.bk) hm h) hd
theorem Ao{E:zdQ->zdZ->Prop}{pins:List (zdP×Obj)}{s:zdZ}{σ:St}{H:Hp}{x:Str}{u:zdQ}{pos:Pos}{Q:zdQ->zdZ->Prop}(I:Inv X pins σ H s)(hg:Gl X x)(hm:X.mg x=none)(hv:bootBuiltins x=some u)(h:Q u s)
 (hn:x≠"__name__":=by decide) (hd:(x==("__debug__":Str))=false:=by decide):wpAny (model X.prog X.w) X.A (eval (.Name x pos) X.env) Q E s:=by
 obtain⟨mb,h1,h2⟩:=I.mod.blt;exact Calls.Name_function_global I.ok.kind hg (Calls.loadGlobal_builtin (by rw[I.ok.glob];exact I.mod.glob.keeps I.bk) hm (by rw[I.ok.blt];exact h1.keeps I.bk) ((h2 x hn).trans hv) h) hd
theorem cq{x:Str}{v:V}{u:zdQ}{pos:Pos}(hg:Gl X x)(hm:X.mg x=some u)(r:RelV v u)(hd:(x==("__debug__":Str))=false:=by decide):PE X (.Name x pos) (tC v):=
 fun _ _ _ H _ I h=>qF I hg hm ⟨v,H,I,r,h⟩ hd
theorem RZ{x:Str}{v:V}{u:zdQ}{pos:Pos}(hg:Gl X x)(hm:X.mg x=none)(hv:bootBuiltins x=some u)(r:RelV v u)(hn:x≠"__name__":=by decide)(hd:(x==("__debug__":Str))=false:=by decide):PE X (.Name x pos) (tC v):=
 fun _ _ _ H _ I h=>Ao I hg hm hv ⟨v,H,I,r,h⟩ hn hd
variable{a b:Expr}{ta tb:TE}{pos:Pos}
def tB (t:TE):TT:=fun σ H Q=>t σ H fun x H1=>∃c,x=.bl c/\Q c H1
theorem Ap{e:Expr}{t:TE}(h:PE X e t)(he:∀whole,isTrue e X.env whole=(do let v <- whole;standAt e.pos;holding [v] (truthy v)):=by intro _;rfl):PT X e (tB t):=by
 intro pins s σ H Q I hw;refine isTrue_plain (fA (h pins s σ H _ I hw) fun v s1 zqz=>?_) (he _);obtain⟨x,H1,I1,r1,q1⟩:=zqz;obtain⟨d,rfl,q⟩:=q1;cases r1;exact wpAny_truthy_bool ⟨H1,I1,q⟩
variable{tA ZM:TT}{rest:List Expr}
def UR (t u:TT):TT:=fun σ H Q=>t σ H fun c H1=>if c=true then u σ H1 Q else Q false H1
def tOr (t u:TT):TT:=fun σ H Q=>t σ H fun c H1=>if c=true then Q true H1 else u σ H1 Q
def XB (t:TT):TT:=fun σ H Q=>t σ H fun c H1=>Q (!c) H1
theorem pw_and1(ha:PT X a tA):PW X (.BoolOp .And [a] pos) tA:=by
 intro wh pins s σ H Q I h;refine isTrue_and (fA (ha pins s σ H Q I h) fun c s1 e=>?_);cases c with
 |true=>exact isTrue_and_nil e
 |false=>exact e
theorem pw_or1(ha:PT X a tA):PW X (.BoolOp .Or [a] pos) tA:=by
 intro wh pins s σ H Q I h;refine isTrue_or (fA (ha pins s σ H Q I h) fun c s1 e=>?_);cases c with
 |false=>exact isTrue_or_nil e
 |true=>exact e
theorem pw_and(ha:PT X a tA)(hb:PW X (.BoolOp .And (b::rest) pos) ZM):PW X (.BoolOp .And (a::b::rest) pos) (UR tA ZM):=by
 intro wh pins s σ H Q I h;refine isTrue_and (fA (ha pins s σ H _ I h) fun c s1 zqz=>?_);obtain⟨H1,I1,q1⟩:=zqz;cases c with
 |true=>exact hb wh pins s1 σ H1 Q I1 q1
 |false=>exact⟨H1,I1,q1⟩
theorem pw_or(ha:PT X a tA)(hb:PW X (.BoolOp .Or (b::rest) pos) ZM):PW X (.BoolOp .Or (a::b::rest) pos) (tOr tA ZM):=by
 intro wh pins s σ H Q I h;refine isTrue_or (fA (ha pins s σ H _ I h) fun c s1 zqz=>?_);obtain⟨H1,I1,q1⟩:=zqz;cases c with
 |true=>exact⟨H1,I1,q1⟩
 |false=>exact hb wh pins s1 σ H1 Q I1 q1
theorem EJ(ha:PT X a tA):PT X (.UnaryOp .Not a pos) (XB tA):=by
 intro pins s σ H Q I h;exact isTrue_not (ha pins s σ H (fun c H1=>Q (!c) H1) I h)
def Ol (ta tb:TE):TE:=fun σ H Q=>ta σ H fun x H1=>∃c,x=.bl c/\if c=true then tb σ H1 Q else Q (.bl false) H1
def US (ta tb:TE):TE:=fun σ H Q=>ta σ H fun x H1=>∃c,x=.bl c/\if c=true then Q (.bl true) H1 else tb σ H1 Q
def Om (ta:TE):TE:=fun σ H Q=>ta σ H fun x H1=>∃c,x=.bl c/\Q (.bl (!c)) H1
theorem EK{op}{t:TE}(h:PE X a t):PE X (.BoolOp op [a] pos) t:=fun pins s σ H Q I hw=>BoolOp_one (h pins s σ H Q I hw)
theorem Aq(ha:PE X a ta)(hb:PE X (.BoolOp .And (b::rest) pos) tb):PE X (.BoolOp .And (a::b::rest) pos) (Ol ta tb):=by
 intro pins s σ H Q I h;refine BoolOp_and (fA (ha pins s σ H _ I h) fun v s1 zqz=>?_);obtain⟨x,H1,I1,r1,q1⟩:=zqz;obtain⟨c,rfl,q1⟩:=q1;cases r1;refine wpAny_truthy_bool ?_;cases c with
 |true=>exact hb pins s1 σ H1 Q I1 q1
 |false=>exact⟨.bl false,H1,I1,rfl,q1⟩
theorem XC(ha:PE X a ta)(hb:PE X (.BoolOp .Or (b::rest) pos) tb):PE X (.BoolOp .Or (a::b::rest) pos) (US ta tb):=by
 intro pins s σ H Q I h;refine BoolOp_or (fA (ha pins s σ H _ I h) fun v s1 zqz=>?_);obtain⟨x,H1,I1,r1,q1⟩:=zqz;obtain⟨c,rfl,q1⟩:=q1;cases r1;refine wpAny_truthy_bool ?_;cases c with
 |false=>exact hb pins s1 σ H1 Q I1 q1
 |true=>exact⟨.bl true,H1,I1,rfl,q1⟩
theorem UT(ha:PE X a ta):PE X (.UnaryOp .Not a pos) (Om ta):=by
 intro pins s σ H Q I h;refine UnaryOp_ (fA (ha pins s σ H _ I h) fun v s1 zqz=>?_);obtain⟨x,H1,I1,r1,q1⟩:=zqz;obtain⟨c,rfl,q1⟩:=q1;cases r1;exact not_of (wpAny_truthy_bool ⟨.bl (!c),H1,I1,rfl,q1⟩)
def tIf (t:TT) (ta tb:TE):TE:=fun σ H Q=>t σ H fun c H1=>if c=true then ta σ H1 Q else tb σ H1 Q
end
def gI (K:zab) (H:Hp) (a:zdP) (xs:List V):Prop:=
 Rd H a (.lst xs)\/
  ∃(o:Obj) (bp:Array zdQ) (n:Nat),K.lookup a=some o/\o.cls=.type "list"/\o.dict=none/\o.data=.seq bp n/\bp.size<=zdX/\Vals xs bp.toList
def dF (K:zab) (H:Hp) (a:zdP) (xs:List V):Prop:=
 Rd H a (.tup xs)\/
  ∃(o:Obj) (bp:Array zdQ) (n:Nat),K.lookup a=some o/\o.cls=.type "tuple"/\o.data=.seq bp n/\bp.size<=zdX/\Vals xs bp.toList
def aaA:zdQ->Option V
 |.none=>some .eB
 |.bool b=>some (.bl b)
 |.int i _=>some (.int i)
 |.str x _=>some (.str x)
 |.bytes b _=>some (.KP b)
 |.float b _=>some (.ZF b)
 |.ref a=>some (.ref a)
 |.type n=>some (.ty n)
 |_=>none
theorem RelV.abs{x:V}{u:zdQ}(r:RelV x u):aaA u=some x:=by
 cases x with
 |eB=>cases r;rfl
 |bl _=>cases r;rfl
 |int _=>obtain⟨t,rfl⟩:=r;rfl
 |str _=>obtain⟨t,rfl⟩:=r;rfl
 |KP _=>obtain⟨t,rfl⟩:=r;rfl
 |ZF _=>obtain⟨t,rfl⟩:=r;rfl
 |ref _=>cases r;rfl
 |ty _=>cases r;rfl
theorem RelV.inj{x y:V}{u:zdQ}(r:RelV x u)(q:RelV y u):x=y:=zaG.inj (r.abs.symm.trans q.abs)
theorem Vals.inj:∀ {xs ys:List V} {us:List zdQ},Vals xs us->Vals ys us->xs=ys
 |_,_,_,.nil,.nil=>rfl
 |_,_,_,.cons r t,.cons r' t'=>by rw[r.inj r',Vals.inj t t']
section
variable{X:Cx}{pins:List (zdP×Obj)}{σ:St}{H:Hp}{s:zdZ}{a:zdP}{xs ys:List V}
theorem gI.of{K:zab}(h:H a=some (.lst xs)):gI K H a xs:=.inl (.inl h)
theorem dF.of{K:zab}(h:H a=some (.tup xs)):dF K H a xs:=.inl (.inl h)
theorem Inv.list(I:Inv X pins σ H s)(h:gI X.K H a xs):∃bp:List zdQ,Vals xs bp/\PlainL s.heap a bp.toArray/\xs.length<=zdX:=by
 rcases h with h |⟨o,bp,n,hk,hc,hd,hs,hz,r⟩
 ·obtain⟨z,bp,n,r,e⟩:=h.ok I.eC;exact⟨bp,r,⟨_,n,e,rfl,rfl,rfl⟩,z⟩
 ·refine⟨bp.toList,r,⟨o,n,I.CQ a o hk,hc,hd,by simpa using hs⟩,?_⟩;have e:=r.length;simp only[zbX] at e;lia
theorem Inv.tuple(I:Inv X pins σ H s)(h:dF X.K H a xs):∃bp:List zdQ,Vals xs bp/\IsTup s.heap a bp.toArray/\xs.length<=zdX:=by
 rcases h with h |⟨o,bp,n,hk,hc,hs,hz,r⟩
 ·obtain⟨z,bp,r,p⟩:=h.ok I.eC;exact⟨bp,r,p,z⟩
 ·refine⟨bp.toList,r,⟨o,I.CQ a o hk,hc,n,by simpa using hs⟩,?_⟩;have e:=r.length;simp only[zbX] at e;lia
theorem Inv.Gp(I:Inv X pins σ H s)(h:gI X.K H a xs)(h':gI X.K H a ys):xs=ys:=by
 obtain⟨bp,r,⟨o,n,e,_,_,d⟩,_⟩:=I.list h;obtain⟨its',r',⟨o',n',e',_,_,d'⟩,_⟩:=I.list h';rw[e] at e';cases e';rw[d] at d'
 injection d' with d1 _
 have:bp=its':=by simpa using congrArg Array.toList d1
 subst this;exact r.inj r'
end
abbrev Cx.CS (X:Cx) (E:zdQ->zdZ->Prop):Cx:={X with xe:=E}
abbrev Cx.XD (X:Cx):Cx:=X.CS fun _ _=>False
theorem Cx.Ok.CS{X:Cx}(ok:X.Ok)(E:zdQ->zdZ->Prop):(X.CS E).Ok:=
 ⟨ok.mod,ok.kind,ok.glob,ok.blt,ok.above,ok.inj,ok.has,ok.RY,ok.hd,ok.frames,ok.RJ,ok.W5,ok.bs,ok.Jf,ok.EI,ok.Gn,ok.r9,ok.N6⟩
theorem Cx.Ok.se{X:Cx}{E:zdQ->zdZ->Prop}(ok:(X.CS E).Ok):X.Ok:=
 ⟨ok.mod,ok.kind,ok.glob,ok.blt,ok.above,ok.inj,ok.has,ok.RY,ok.hd,ok.frames,ok.RJ,ok.W5,ok.bs,ok.Jf,ok.EI,ok.Gn,ok.r9,ok.N6⟩
section
variable{X:Cx}{pins:List (zdP×Obj)}{σ:St}{H:Hp}{s:zdZ}{E:zdQ->zdZ->Prop}
theorem Inv.CS(I:Inv X pins σ H s)(E:zdQ->zdZ->Prop):Inv (X.CS E) pins σ H s:=⟨I.ok.CS E,I.os,I.bare,I.base,I.loc,I.cell,I.free,I.lh,I.pin,I.eC,I.len⟩
theorem Inv.se(I:Inv (X.CS E) pins σ H s):Inv X pins σ H s:=⟨I.ok.se,I.os,I.bare,I.base,I.loc,I.cell,I.free,I.lh,I.pin,I.eC,I.len⟩
theorem SP.se{D:Ends}{f:Flow}{s':zdZ}(h:SP (X.CS E) pins D f s'):SP X pins D f s':=by
 cases f with
 |next=>obtain⟨σ',H',I,q⟩:=h;exact⟨σ',H',I.se,q⟩
 |brk=>obtain⟨σ',H',I,q⟩:=h;exact⟨σ',H',I.se,q⟩
 |cont=>obtain⟨σ',H',I,q⟩:=h;exact⟨σ',H',I.se,q⟩
 |ret u=>obtain⟨v,σ',H',I,r,q⟩:=h;exact⟨v,σ',H',I.se,r,q⟩
theorem IX.XD{st:List Stmt}{t:TS}(h:IX X.XD st t):IX X st t:=fun pins s σ H D I hw=>
 wpAny_mono (h pins s σ H D (I.CS _) hw) (fun _ _ q=>q.se) fun _ _ z=>False.elim z
end
section
variable{X:Cx}{st:Stmt}{rest:List Stmt}{t u:TS}{e:Expr}{te:TE}{pos:Pos}
def Oq:TS:=fun D σ H=>D.nx σ H
def Mh (t u:TS):TS:=fun D σ H=>t {D with nx:=u D} σ H
theorem aQ:IX X [] Oq:=fun _ _ σ H _ I h=>wpAny_execs_nil ⟨σ,H,I,h⟩
theorem ag(h1:PS X st t)(h2:IX X rest u):IX X (st::rest) (Mh t u):=by
 intro pins s σ H D I h;refine wpAny_execs_cons (fA (h1 pins s σ H {D with nx:=u D} I h) fun f s1 q=>?_);cases f with
 |next=>
  obtain⟨σ',H',I',q⟩:=q;exact h2 pins s1 σ' H' D I' q
 |ret v=>exact q
 |brk=>exact q
 |cont=>exact q
theorem ao(h1:PS X st t):IX X [st] t:=by
 intro pins s σ H D I h;refine wpAny_execs_cons (fA (h1 pins s σ H D I h) fun f s1 q=>?_);cases f with
 |next=>exact wpAny_execs_nil q
 |ret v=>exact q
 |brk=>exact q
 |cont=>exact q
def Ot:TS:=fun D σ H=>D.bk σ H
def TK:TS:=fun D σ H=>D.ct σ H
theorem Inv.quiet{pins:List (zdP×Obj)}{σ:St}{H:Hp}{s:zdZ}(I:Inv X pins σ H s):interactive X.env=false:=by simp[interactive,I.ok.kind]
def Ou (te:TE):TS:=fun D σ H=>te σ H fun _ H1=>D.nx σ H1
theorem cP(he:PE X e te)(hs:swapsWith e none pos.line X.env=pure false:=by rfl):PS X (.Expr e pos) (Ou te):=by
 intro pins s σ H D I h;refine wpAny_Expr_any (fA (he pins s σ H _ I h) fun v s1 zqz=>?_) I.quiet hs;obtain⟨x,H1,I1,r1,q1⟩:=zqz;exact ⟨σ,H1,I1,q1⟩
def UU (te:TE):TS:=fun D σ H=>te σ H D.rt
theorem aS(he:PE X e te):PS X (.Return (some e) pos) (UU te):=by
 intro pins s σ H D I h;refine wpAny_Return_some (fA (he pins s σ H _ I h) fun v s1 zqz=>?_);obtain⟨x,H1,I1,r1,q1⟩:=zqz;exact ⟨x,σ,H1,I1,r1,q1⟩
def TL:TS:=fun D _ H=>D.rt .eB H
def R0 (c:TT) (t u:TS):TS:=fun D σ H=>c σ H fun b H1=>if b=true then t D σ H1 else u D σ H1
theorem bo{c:Expr}{a b:List Stmt}{tc:TT}(hc:PT X c tc)(ha:IX X a t)(hb:IX X b u):PS X (.If c a b pos) (R0 tc t u):=by
 intro pins s σ H D I h;refine wpAny_If (fA (hc pins s σ H _ I h) fun d s1 zqz=>?_);obtain⟨H1,I1,q1⟩:=zqz;cases d with
 |true=>exact ha pins s1 σ H1 D I1 q1
 |false=>exact hb pins s1 σ H1 D I1 q1
end
abbrev TG:=V->St->Hp->(St->Hp->Prop)->Prop
abbrev RL:=List V->St->Hp->(St->Hp->Prop)->Prop
def PG (X:Cx) (target:Expr) (t:TG):Prop:=
 ∀(pins:List (zdP×Obj)) (s:zdZ) (σ:St) (H:Hp) (v:V) (u:zdQ) (Q:St->Hp->Prop),Inv X pins σ H s->RelV v u->t v σ H Q->
  wpAny (model X.prog X.w) X.A (assign target X.env u) (fun _ s'=>∃σ' H',Inv X pins σ' H' s'/\Q σ' H') X.xe s
def W7 (X:Cx) (ts:List Expr) (t:RL):Prop:=
 ∀(pins:List (zdP×Obj)) (s:zdZ) (σ:St) (H:Hp) (vs:List V) (us:List zdQ) (Q:St->Hp->Prop),Inv X pins σ H s->Vals vs us->t vs σ H Q->
  wpAny (model X.prog X.w) X.A (assignInOrder ((assignEach ts X.env).map (·.2)) us) (fun _ s'=>∃σ' H',Inv X pins σ' H' s'/\Q σ' H') X.xe s
abbrev UW:=V->V->V->Hp->(Hp->Prop)->Prop
def XE (X:Cx) (t:UW):Prop:=
 ∀(pins:List (zdP×Obj)) (s:zdZ) (σ:St) (H:Hp) (o i v:V) (ov iv u:zdQ) (Q:Hp->Prop),Inv X pins σ H s->RelV o ov->RelV i iv->RelV v u->t o i v H Q->
  wpAny (model X.prog X.w) X.A (setItem ov iv u) (fun _ s'=>∃H',Inv X pins σ H' s'/\Q H') X.xe s
abbrev TIp:=V->V->Hp->VK->Prop
section
variable{X:Cx}{pos:Pos}
def mI (i:Nat):TG:=fun v σ H Q=>Q (σ.set i (some v)) H
theorem cF{i:Nat}{x:Str}(hN:X.N.Nodup)(hi:X.N[i]?=some x)(hx:Loc X.env.scope x)(hf:X.fn x=true\/X.env.scope.names.lookup x=some .local:=by first |exact .inl rfl |exact .inr rfl |assumption):PG X (.Name x pos) (mI i):=by
 intro pins s σ H v u Q I r h;exact wpAny_assign_Name (Am I hN hi hx r (fun s' I'=>⟨_,H,I',h⟩) hf)
def UX:RL:=fun vs σ H Q=>vs=[]/\Q σ H
def Ov (t:TG) (u:RL):RL:=fun vs σ H Q=>∃v r,vs=v::r/\t v σ H fun σ' H'=>u r σ' H' Q
theorem uv:W7 X [] UX:=by
 intro pins s σ H vs us Q I r h;obtain⟨e,h⟩:=h;subst e;cases r;exact assignInOrder_nil ⟨σ,H,I,h⟩
theorem eJ{e:Expr}{es:List Expr}{t:TG}{u:RL}(h1:PG X e t)(h2:W7 X es u)
 (hs:(assignEach (e::es) X.env).map (·.2)=assign e X.env::(assignEach es X.env).map (·.2):=by rfl):W7 X (e::es) (Ov t u):=by
 intro pins s σ H vs us Q I r h;obtain⟨v,vr,e1,h⟩:=h;subst e1;cases r with
 |cons r rr=>
  rw[hs];refine assignInOrder_cons (fA (h1 pins s σ H _ _ _ I r h) fun _ s1 zqz=>?_);obtain⟨σ1,H1,I1,q1⟩:=zqz;exact h2 pins s1 σ1 H1 _ _ Q I1 rr q1
def R1 (K:zab) (n:Nat) (t:RL):TG:=fun v σ H Q=>∃a xs,v=.ref a/\dF K H a xs/\xs.length=n/\t xs σ H Q
theorem Ow{es:List Expr}{k:Nat}{t:RL}{n:Nat}(hc:X.calm=true)(h:W7 X es t)
 (hn:(assignEach es X.env).length=n:=by rfl) (IY:(assignEach es X.env).findIdx? (·.1)=none:=by rfl):PG X (.Tuple es k pos) (R1 X.K n t):=by
 intro pins s σ H v u Q I r hw;obtain⟨a,xs,e1,hq,hl,hw⟩:=hw;subst e1;cases r;obtain⟨bp,rv,ht,hz⟩:=I.tuple hq;refine assign_Tuple_tuple (I.ok.hd hc) ht (by simp[hn,<- hl,rv.length]) IY fun h' hx=>?_;have I1:Inv X pins σ H {s with heap:=h' }:=I.kept (t':=s.toks) fun b o e=>hx b o (zaR (Heap.lt_size e)) e;exact h pins _ σ H xs _ Q I1 (by simpa using rv) hw
def UY (to ti:TE) (t:UW):TG:=fun v σ H Q=>to σ H fun o H1=>ti σ H1 fun i H2=>t o i v H2 fun H3=>Q σ H3
theorem Ar{o i:Expr}{to ti:TE}{t:UW}(ho:PE X o to)(hi:PE X i ti)(hs:XE X t)
 (ha:∀v,assign (.Subscript o i pos) X.env v=(do
  let ov <- holding [v] (eval o X.env)
  let iv <- holding [v,ov] (eval i X.env)
  standAt pos
  holding [v,ov,iv] (setItem ov iv v)
  release [v,ov,iv] []):=by intro _;rfl):PG X (.Subscript o i pos) (UY to ti t):=by
 intro pins s σ H v u Q I r h;rw[ha];refine zdS (zdU (fA (ho pins s σ H _ I h) fun ov s1 zqz=>?_));obtain⟨x,H1,I1,r1,q1⟩:=zqz;refine zdS (zdU (fA (hi pins s1 σ H1 _ I1 q1) fun iv s2 zqz=>?_));obtain⟨y,H2,I2,r2,q2⟩:=zqz;refine zdS (wpAny_standAt (zdS (zdU (fA (hs pins s2 σ H2 x y v ov iv u _ I2 r1 r2 r q2) fun _ s3 zqz=>?_))));obtain⟨H3,I3,q3⟩:=zqz;exact wpAny_release ⟨σ,H3,I3,q3⟩
def Ox (te:TE) (g:TG):TS:=fun D σ H=>te σ H fun x H1=>g x σ H1 D.nx
theorem qG{tg e:Expr}{te:TE}{g:TG}(he:PE X e te)(hg:PG X tg g)(hs:swapsWithSole [tg] e pos.line X.env=pure false:=by rfl)(hw:swappedStores [tg] e X.env=pure none:=by rfl)
 (h1:(assignEach [tg] X.env).map (·.2)=[assign tg X.env]:=by rfl):PS X (.Assign [tg] e pos) (Ox te g):=by
 intro pins s σ H D I h;refine wpAny_Assign_stores (fA (he pins s σ H _ I h) fun v s1 zqz=>?_) hs hw;obtain⟨x,H1,I1,r1,q1⟩:=zqz;rw[h1];exact fA (hg pins s1 σ H1 x v _ I1 r1 q1) fun _ s2 q=>q
theorem aM{i:Nat}{x:Str}{e:Expr}{te:TE}{pos':Pos}(hN:X.N.Nodup)(hi:X.N[i]?=some x)(hx:Loc X.env.scope x)(he:PE X e te)(hs:swapsWith e (some (.Name x pos')) pos.line X.env=pure false:=by rfl)(hf:X.fn x=true\/X.env.scope.names.lookup x=some .local:=by first |exact .inl rfl |exact .inr rfl |assumption) :
 PS X (.Assign [.Name x pos'] e pos) (Ox te (mI i)):=by
 intro pins s σ H D I h;refine wpAny_Assign_Name (fA (he pins s σ H _ I h) fun v s1 zqz=>?_) hs;obtain⟨y,H1,I1,r1,q1⟩:=zqz;exact Am I1 hN hi hx r1 (fun s2 I2=>⟨_,H1,I2,q1⟩) hf
def XF (i:Nat) (te:TE) (ti:TIp):TS:=fun D σ H=>∃x,σ[i]?=some (some x)/\te σ H fun y H1=>ti x y H1 fun z H2=>D.nx (σ.set i (some z)) H2
end
section
variable{X:Cx}{pos:Pos}
def UZ (c:TT) (tb:TS):TS:=fun D σ H=>∃W:Nat->St->Hp->Prop,(∃m,W m σ H)/\∀m σ H,W m σ H->
 c σ H fun b H1=>if b=true then ∃N:St->Hp->Prop,(∀σ' H',N σ' H'->∃m',m'<m/\W m' σ' H')/\tb {D with nx:=N,ct:=N,bk:=D.nx} σ H1 else D.nx σ H1
theorem Gq{c:Expr}{body:List Stmt}{tc:TT}{tb:TS}(hp:PassesOwn (model X.prog X.w) X.A X.env X.xe)(hc:PT X c tc)(hb:IX X body tb):PS X (.While c body [] pos) (UZ tc tb):=by
 intro pins s σ H D I h;obtain⟨W,⟨m0,w0⟩,turn⟩:=h;refine wpAny_While (codeAny_whileLoop (fun n s'=>∃σ' H',Inv X pins σ' H' s'/\W n σ' H') ?_ m0 ⟨σ,H,I,w0⟩)
 rintro n s1 ⟨σ1,H1,I1,w1⟩
 refine wpAny_passesOwn hp (fA (hc pins s1 σ1 H1 _ I1 (turn n σ1 H1 w1)) fun b s2 zqz=>?_);obtain⟨H2,I2,q2⟩:=zqz;cases b with
 |true=>
  obtain⟨N,hN,q2⟩:=q2;rw[if_pos rfl];refine wpAny_passesOwn hp (fA (hb pins s2 σ1 H2 _ I2 q2) fun f s3 q3=>?_);cases f with
  |next=>
   obtain⟨σ3,H3,I3,n3⟩:=q3;obtain⟨m',hm,w3⟩:=hN σ3 H3 n3;exact⟨m',hm,σ3,H3,I3,w3⟩
  |cont=>
   obtain⟨σ3,H3,I3,n3⟩:=q3;obtain⟨m',hm,w3⟩:=hN σ3 H3 n3;exact⟨m',hm,σ3,H3,I3,w3⟩
  |brk=>exact q3
  |ret v=>exact q3
 |false=>
  rw[if_neg zal];exact wpAny_execs_nil ⟨σ1,H2,I2,q2⟩
end
structure It where
 go:Nat->Hp->Prop
 Gb:Nat->Hp->V->Hp->Prop
 stop:Nat->Hp->Prop
def vv (X:Cx) (pins:List (zdP×Obj)) (H:Hp) (b:zdP):Prop:=
 H b=none/\b≠X.env.locals/\b ∉ X.fs/\(b∈X.ex\/X.s₀.heap.objs.size<=b)/\(∀x c,X.env.cells.lookup x=some c->c≠b)/\∀p∈X.pn++pins,p.1≠b
theorem Inv.Oy{X:Cx}{pins:List (zdP×Obj)}{σ:St}{H H':Hp}{s:zdZ}{b:zdP}(I:Inv X pins σ H s)(hb:s.heap.objs.size<=b)(hn:H' b=none):vv X pins H' b:=by
 refine⟨hn,zdG (zaH I.lt hb),I.aau hb,.inr (zay I.sz hb),fun x c e z=>?_,fun p hp z=>?_⟩
 ·obtain⟨v,q⟩:=I.cell x c e;exact absurd (zaH q.lt (by rw[z];exact hb)) (zbO _)
 ·exact absurd (zaH (Heap.lt_size (I.pin p hp).1) (by rw[z];exact hb)) (zbO _)
structure Turn(P:zd1)(w:zdR)(K:zab)(tg:Expr)(J:It)(fp:List zdP)(it:zdP)(tn:Nat->Heap->Prop):Prop where
 mem:it∈fp
 obj:∀i h,tn i h->∀b∈fp,∃o,h.get? b=some o/\∀v,o.data≠.cell v
 keep:∀i h h',tn i h->(∀b∈fp,∀o,h.get? b=some o->h'.get? b=some o)->tn i h'
 item:∀(X:Cx),X.prog=P->X.w=w->X.K=K->X.calm=true->∀(i:Nat) (pins:List (zdP×Obj)) (s:zdZ) (σ:St) (H:Hp) (E:zdQ->zdZ->Prop),Inv X pins σ H s->(∀b∈fp,vv X pins H b)->tn i s.heap->J.go i H->
  wpAny (model P w) X.A (pyNext (.ref it)) (fun r s1=>∃u,r=some u/\
   wpAny (model P w) X.A (letOwnedTupleGo tg (.ref it) u) (fun _ s2=>∃x H',Inv X pins σ H' s2/\RelV x u/\J.Gb i H x H'/\tn (i+1) s2.heap/\∀b∈fp,H' b=none) E s1) E s
 done:∀(X:Cx),X.prog=P->X.w=w->X.K=K->X.calm=true->∀(i:Nat) (pins:List (zdP×Obj)) (s:zdZ) (σ:St) (H:Hp) (E:zdQ->zdZ->Prop),Inv X pins σ H s->(∀b∈fp,vv X pins H b)->tn i s.heap->J.stop i H->
  wpAny (model P w) X.A (pyNext (.ref it)) (fun r s1=>r=none/\Inv X pins σ H s1) E s
 self:∀(A:zd0) (i:Nat) (s:zdZ) (Q:zdQ->zdZ->Prop) (E:zdQ->zdZ->Prop),tn i s.heap->Q (.ref it) s->wpAny (model P w) A (pyIter (.ref it)) Q E s
abbrev TI:=St->Hp->(It->Hp->Prop)->Prop
def PIE (X:Cx) (pins:List (zdP×Obj)) (σ:St) (tg:Expr) (R:It->Hp->Prop) (itv:zdQ) (s2:zdZ):Prop:=
 ∃(it:zdP) (fp:List zdP) (tn:Nat->Heap->Prop) (J:It) (H':Hp),itv=.ref it/\Inv X pins σ H' s2/\Turn X.prog X.w X.K tg J fp it tn/\tn 0 s2.heap/\(∀b∈fp,vv X pins H' b)/\R J H'
def PI (X:Cx) (tg iter:Expr) (wi:TI):Prop:=
 ∀(pins:List (zdP×Obj)) (s:zdZ) (σ:St) (H:Hp) (R:It->Hp->Prop),Inv X pins σ H s->wi σ H R->
  wpAny (model X.prog X.w) X.A (eval iter X.env) (fun v s1=>wpAny (model X.prog X.w) X.A (pyIter v) (PIE X pins σ tg R) X.xe s1) X.xe s
theorem KU{M:Model}{A:zd0}{E:zdQ->zdZ->Prop}{s:zdZ}{tg:Expr}{it:zdP}{u:zdQ}{o:Obj}{n:String}{vs:Array zdQ}{Q:Unit->zdZ->Prop}(ho:s.heap.get? it=some o)(hc:o.cls=.type n)(hd:o.data=.fields vs)
 (hn:["enumerate", "zip", "dict_itemiterator", "dict_reverseitemiterator", "odict_iterator", "itertools.zip_longest", "itertools.pairwise"].contains n=false) (hQ:Q () s):wpAny M A (letOwnedTupleGo tg (.ref it) u) Q E s:=by
 unfold letOwnedTupleGo;cases tg<;>first
  |exact zdT hQ
  |(cases u<;>first
     |exact zdT hQ
     |(refine zdS (wpAny_load ho ?_)
       rw[hc,hd];show wpAny M A (if (["enumerate", "zip", "dict_itemiterator", "dict_reverseitemiterator", "odict_iterator", "itertools.zip_longest", "itertools.pairwise"].contains n&&vs[0]?==some (rawInt _))=true then _ else _) Q E s;rw[if_neg (by intro h;rw[hn,Bool.false_and] at h;cases h)];exact zdT hQ))
def N7 (K:zab) (a:zdP):It:=
 ⟨fun i H=>∃xs x,gI K H a xs/\xs[i]?=some x,fun i H x H'=>H'=H/\∀xs,gI K H a xs->xs[i]?=some x,fun i H=>∃xs,gI K H a xs/\xs.length<=i⟩
def Oz (lo:Int) (n:Nat):It:=⟨fun i _=>i<n,fun i H x H'=>H'=H/\x=.int (lo+i),fun i _=>n<=i⟩
theorem Mi{P:zd1}{w:zdR}{K:zab}{tg:Expr}(a it:zdP):Turn P w K tg (N7 K a) [it] it (fun i h=>h.IsListIter it a i) where
 mem:=by simp
 obj:=fun i h st b hb=>by
  have e:b=it:=by simpa using hb
  subst e;obtain⟨o,e,c,d⟩:=st;exact⟨o,e,fun v z=>by rw[d] at z;cases z⟩
 keep:=fun i h h' st k=>st.at fun o e=>k it (by simp) o e
 item:=by
  intro X hP hw hK hc i pins s σ H E I hf st hg;subst hP hw hK;obtain⟨xs,x,hq,hx⟩:=hg;obtain⟨bp,rv,p,hz⟩:=I.list hq;obtain⟨u,hu,ru⟩:=rv.get hx;obtain⟨f0,f1,f2,f3,f4,f5⟩:=hf it (by simp);refine wpAny_pyNext_list_item st p.isList (x:=u) (by simpa using hu) fun h' Gr sb=>?_;have I1:Inv X pins σ H {s with heap:=h' }:=I.turned (t':=s.toks) (fun b o hb e=>(sb.2 b hb).trans e) f0 f1 f3 f4 f5;obtain⟨o,e,c,d⟩:=id Gr;exact⟨u,rfl,KU (s:={s with heap:=h' }) e c d (by decide) ⟨x,H,I1,ru,⟨rfl,fun ys hy=>by rw[I.Gp hy hq];exact hx⟩,Gr,fun b hb=>(hf b hb).1⟩⟩
 done:=by
  intro X hP hw hK hc i pins s σ H E I hf st hg;subst hP hw hK;obtain⟨xs,hq,hx⟩:=hg;obtain⟨bp,rv,p,hz⟩:=I.list hq;obtain⟨f0,f1,f2,f3,f4,f5⟩:=hf it (by simp);have hl:=rv.length;exact wpAny_pyNext_list_end (I.ok.hd hc) st p.isList (by simp;lia) fun h' eb=>⟨rfl,I.turned (t':=s.toks) (fun b o hb e=>eb b o hb e) f0 f1 f3 f4 f5⟩
 self:=fun _ _ _ _ _ st h=>wpAny_pyIter_listiter st h
theorem Jg{P:zd1}{w:zdR}{K:zab}{tg:Expr}(it:zdP)(lo:Int)(n:Nat):Turn P w K tg (Oz lo n) [it] it (fun i h=>IsRangeIter h it (lo+(i:Nat)*1) ((n:Int)-(i:Nat)) 1) where
 mem:=by simp
 obj:=fun i h st b hb=>by
  have e:b=it:=by simpa using hb
  subst e;exact⟨_,st,fun v z=>by
   have z':Data.fields _=Data.cell v:=z;cases z'⟩
 keep:=fun i h h' st k=>k it (by simp) _ st
 item:=by
  intro X hP hw hK hc i pins s σ H E I hf st hg;subst hP hw hK;obtain⟨f0,f1,f2,f3,f4,f5⟩:=hf it (by simp);have W:=Walks.range (prog:=X.prog) (w:=X.w) (I.ok.hd hc) it lo 1 n;refine W.item i s _ _ hg st fun v h' tk hv Gr kk=>?_;obtain⟨t,rfl⟩:=hv;have I1:Inv X pins σ H {s with heap:=h',toks:=tk}:=I.turned (fun b o hb e=>kk b o (by simpa using hb) e) f0 f1 f3 f4 f5;refine⟨_,rfl,KU (s:={s with heap:=h',toks:=tk}) (n:="range_iterator") Gr rfl rfl (by decide) ⟨.int (lo+i),H,I1,⟨t,?_⟩,⟨rfl,rfl⟩,Gr,fun b hb=>(hf b hb).1⟩⟩;rw[Int.mul_one]
 done:=by
  intro X hP hw hK hc i pins s σ H E I hf st hg;subst hP hw hK;obtain⟨f0,f1,f2,f3,f4,f5⟩:=hf it (by simp);exact wpAny_pyNext_range_end (I.ok.hd hc) st (by have:n<=i:=hg;lia) fun h' eb=>⟨rfl,I.turned (t':=s.toks) (fun b o hb e=>eb b o hb e) f0 f1 f3 f4 f5⟩
 self:=fun _ _ _ _ _ st h=>wpAny_pyIter_rangeiter st h
section
variable{X:Cx}{tg:Expr}
def KW (K:zab) (tl:TE):TI:=fun σ H R=>tl σ H fun x H1=>∃a,x=.ref a/\(∃xs,gI K H1 a xs)/\R (N7 K a) H1
theorem qH{l:Expr}{tl:TE}(hl:PE X l tl):PI X tg l (KW X.K tl):=by
 intro pins s σ H R I h;refine fA (hl pins s σ H _ I h) fun v s1 zqz=>?_;obtain⟨x,H1,I1,r1,q1⟩:=zqz;obtain⟨a,e,⟨xs,hq⟩,q⟩:=q1;subst e;cases r1;obtain⟨bp,rv,p,hz⟩:=I1.list hq;refine wpAny_pyIter_list p.isList ?_;refine⟨s1.heap.objs.size,[s1.heap.objs.size],_,_,H1,rfl,I1.kept (t':=s1.toks) fun b o e=>Heap.get?_push_of_some _ e,Mi a _,⟨_,Heap.get?_push_size _ rfl,rfl,rfl⟩,fun b hb=>?_,q⟩;have e:b=s1.heap.objs.size:=by simpa using hb
 subst e;exact I1.Oy (zah _) (I1.eC.fresh (zah _))
theorem OA{pins:List (zdP×Obj)}{σ:St}{H:Hp}{s:zdZ}{R:It->Hp->Prop}{E:zdQ->zdZ->Prop}{lo hi:Int}{t u v:Tok}{tk:Nat}(I:Inv X pins σ H s)(h1 : -(2 ^ 62)<=lo)(h2:lo<2 ^ 62)(h3 : -(2 ^ 62)<=hi)(h4:hi<2 ^ 62)
 (q:R (Oz lo (hi-lo).toNat) H):wpAny (model X.prog X.w) X.A (pyIter (.ref s.heap.objs.size)) (PIE X pins σ tg R) E {s with heap:=s.heap.push {cls:=.type "range",data:=.fields #[.int lo t,.int hi u,.int 1 v]},toks:=tk}:=by
 refine wpAny_pyIter_range (IsRange.new ..) (small_one h1 h2 h3 h4) ?_;have I1:Inv X pins σ H {s with heap:=s.heap.push {cls:=.type "range",data:=.fields #[.int lo t,.int hi u,.int 1 v]},toks:=tk}:=I.kept fun b o e=>Heap.get?_push_of_some _ e;refine⟨(s.heap.push {cls:=.type "range",data:=.fields #[.int lo t,.int hi u,.int 1 v]}).objs.size,[(s.heap.push {cls:=.type "range",data:=.fields #[.int lo t,.int hi u,.int 1 v]}).objs.size],_,_,H,rfl,
  I1.kept (t':=tk) fun b o e=>Heap.get?_push_of_some _ e,Jg _ lo (hi-lo).toNat,?_,fun b hb=>?_,q⟩
 ·have e1:lo+((0:Nat):Int)*1=lo:=by simp
  have e2:(((hi-lo).toNat:Nat):Int)-((0:Nat):Int)=Builtin.Range.rangeSize lo hi 1:=by rw[rangeSize_one];split<;>lia
  show IsRangeIter _ _ (lo+((0:Nat):Int)*1) ((((hi-lo).toNat:Nat):Int)-((0:Nat):Int)) 1;rw[e1,e2];exact Heap.get?_push_size _ rfl
 ·have e:b=(s.heap.push {cls:=.type "range",data:=.fields #[.int lo t,.int hi u,.int 1 v]}).objs.size:=by simpa using hb
  subst e;exact I1.Oy (zah _) (I1.eC.fresh (zah _))
def KY (ta:TA):TI:=fun σ H R=>ta σ H fun vs H1=>∃j:Int,vs=[.int j]/\-(2 ^ 62)<=j/\j<2 ^ 62/\R (Oz 0 j.toNat) H1
def TM (ta:TA):TI:=fun σ H R=>ta σ H fun vs H1=>∃i j:Int,vs=[.int i,.int j]/\(-(2 ^ 62)<=i/\i<2 ^ 62/\-(2 ^ 62)<=j/\j<2 ^ 62)/\R (Oz i (j-i).toNat) H1
theorem qd{a:Expr}{ta:TA}{p pos:Pos}(hg:Gl X "range")(hm:X.mg "range"=none)(ha:PA X [a] ta)(hs:zdV [a] X.env=[(false,eval a X.env)]:=by rfl):PI X tg (.Call (.Name "range" p) [a] [] pos) (KY ta):=by
 intro pins s σ H R I h;refine Call_ (Ao I hg hm boot_range (zcQ (fA (ha pos pins s σ H _ I h) fun us s1 zqz=>?_) hs rfl));obtain⟨vs,H1,I1,r1,q1⟩:=zqz;obtain⟨j,e,q1,q2,q⟩:=q1;subst e;cases r1 with
 |cons r rr=>
  cases rr;obtain⟨t,rfl⟩:=r;exact call_range_1 (OA I1 (by lia) (by lia) q1 q2 (by simpa using q))
def Va (wi:TI) (g:TG) (tb:TS):TS:=fun D σ H=>wi σ H fun J H1=>∃W:Nat->Nat->St->Hp->Prop,(∃m,W 0 m σ H1)/\∀i m σ H,W i m σ H->
 (J.stop i H/\D.nx σ H)\/(J.go i H/\∃N:St->Hp->Prop,(∀σ' H',N σ' H'->∃m',m'<m/\W (i+1) m' σ' H')/\∀x H',J.Gb i H x H'->g x σ H' fun σ2 H2=>tb {D with nx:=N,ct:=N,bk:=D.nx} σ2 H2)
def As (fp:List zdP) (h:Heap):List (zdP×Obj):=fp.filterMap fun b=>(h.get? b).map fun o=>(b,o)
theorem qI{fp:List zdP}{h:Heap}{b:zdP}{o:Obj}(hb:b∈fp)(e:h.get? b=some o):(b,o)∈As fp h:=zb5.mpr ⟨b,hb,by rw[e];rfl⟩
theorem Mj{fp:List zdP}{h:Heap}{p:zdP×Obj}(hp:p∈As fp h):p.1∈fp/\h.get? p.1=some p.2:=by
 obtain⟨b,hb,e⟩:=zb5.mp hp;cases q:h.get? b with
 |none=>rw[q] at e;cases e
 |some o=>
  rw[q] at e;have e':(b,o)=p:=zaG.inj e;subst e';exact⟨hb,q⟩
theorem Inv.pinned{pins:List (zdP×Obj)}{σ:St}{H:Hp}{s:zdZ}{fp:List zdP}(I:Inv X pins σ H s)(hf:∀b∈fp,vv X pins H b)(ho:∀b∈fp,∃o,s.heap.get? b=some o/\∀v,o.data≠.cell v):Inv X (pins++As fp s.heap) σ H s:=
 I.KQ fun p hp=>(zam.mp hp).elim (fun z=>I.pin p (zaJ _ z)) fun z=>by
  obtain⟨hb,e⟩:=Mj z;obtain⟨f0,f1,f2,_⟩:=hf p.1 hb;obtain⟨o,e',d⟩:=ho p.1 hb;rw[e] at e';cases e';exact⟨e,f0,f1,f2,d⟩
theorem Inv.qf{pins pl:List (zdP×Obj)}{σ:St}{H:Hp}{s:zdZ}(I:Inv X (pins++pl) σ H s):Inv X pins σ H s:=I.KQ fun p hp=>I.pin p (zaJ _ (zaW _ hp))
theorem si{iter:Expr}{body:List Stmt}{wi:TI}{g:TG}{tb:TS}{pos:Pos}(hp:PassesOwn (model X.prog X.w) X.A X.env X.xe)(hc:X.calm=true)(hi:PI X tg iter wi)(hg:PG X tg g)(hb:IX X body tb)
 (hs:∀x,foldedSetIterable iter X.env x=pure x:=by intro _;rfl):PS X (.For tg iter body [] pos) (Va wi g tb):=by
 intro pins s σ H D I h;refine wpAny_For (fA (hi pins s σ H _ I h) fun v s1 h1=>fA h1 fun itv s2 h2=>?_) hs;obtain⟨it,fp,tn,J,H2,e,I2,T,TN,f2,W,⟨m0,w0⟩,turn⟩:=h2;subst e;have stat:∀ {H':Hp},(∀b∈fp,H' b=none)->∀b∈fp,vv X pins H' b:=fun hn b hb=>⟨hn b hb,(f2 b hb).2⟩
 refine codeAny_forLoop_any (fun n s'=>∃i σ' H',Inv X pins σ' H' s'/\tn i s'.heap/\(∀b∈fp,H' b=none)/\W i n σ' H') ?_ m0 ⟨0,σ,H2,I2,TN,fun b hb=>(f2 b hb).1,w0⟩
 rintro n s3 ⟨i,σ3,H3,I3,TQ,XG,w3⟩
 rcases turn i n σ3 H3 w3 with ⟨stop,qn⟩ |⟨go,N,hN,step⟩
 ·refine wpAny_passesOwn hp (fA (T.done X rfl rfl rfl hc i pins s3 σ3 H3 X.xe I3 (stat XG) TQ stop) fun r s4 zqz=>?_);obtain⟨hr,I4⟩:=zqz;subst hr;exact wpAny_execs_nil ⟨σ3,H3,I4,qn⟩
 ·refine wpAny_passesOwn hp (fA (T.item X rfl rfl rfl hc i pins s3 σ3 H3 X.xe I3 (stat XG) TQ go) fun r s4 zqz=>?_);obtain⟨u,hr,h4⟩:=zqz;subst hr;refine wpAny_passesOwn hp (fA h4 fun _ s5 zqz=>?_);obtain⟨x,H5,I5,r5,y5,Vb,fr5⟩:=zqz;have I5':=I5.pinned (stat fr5) (T.obj _ _ Vb);refine wpAny_passesOwn hp (fA (hg _ s5 σ3 H5 x u _ I5' r5 (step x H5 y5)) fun _ s6 zqz=>?_);obtain⟨σ6,H6,I6,q6⟩:=zqz;refine wpAny_passesOwn hp (fA (hb _ s6 σ6 H6 _ I6 q6) fun f s7 q7=>?_);have again:∀ {σ7:St} {H7:Hp},Inv X (pins++As fp s5.heap) σ7 H7 s7->N σ7 H7->∃m,m<n/\∃i σ' H',Inv X pins σ' H' s7/\tn i s7.heap/\(∀b∈fp,H' b=none)/\W i m σ' H':=fun {σ7 H7} I7 n7=>by
   obtain⟨m',hm,w7⟩:=hN σ7 H7 n7;refine⟨m',hm,i+1,σ7,H7,I7.qf,T.keep _ _ _ Vb fun b hb o e=>(I7.pin (b,o) (zaJ _ (zaJ _ (qI hb e)))).1,fun b hb=>?_,w7⟩;obtain⟨o,e,d⟩:=T.obj _ _ Vb b hb;exact(I7.pin (b,o) (zaJ _ (zaJ _ (qI hb e)))).2.1
  cases f with
  |next=>obtain⟨σ7,H7,I7,n7⟩:=q7;exact again I7 n7
  |cont=>obtain⟨σ7,H7,I7,n7⟩:=q7;exact again I7 n7
  |brk=>obtain⟨σ7,H7,I7,q7⟩:=q7;exact⟨σ7,H7,I7.qf,q7⟩
  |ret v=>obtain⟨x7,σ7,H7,I7,r7,q7⟩:=q7;exact⟨x7,σ7,H7,I7.qf,r7,q7⟩
end
theorem Au{K:zab}{a:zdP}{xs:List V}{g:TG}{tb:TS}{D:Ends}{σ:St}{H:Hp}(Pv:Nat->St->Hp->Prop)(h0:Pv 0 σ H)(hl:∀i σ H,i<=xs.length->Pv i σ H->gI K H a xs)
 (hs:∀i x σ H,xs[i]?=some x->Pv i σ H->g x σ H fun σ2 H2=>tb {D with nx:=Pv (i+1),ct:=Pv (i+1),bk:=D.nx} σ2 H2) (hd:∀σ H,Pv xs.length σ H->D.nx σ H) :
 ∃W:Nat->Nat->St->Hp->Prop,(∃m,W 0 m σ H)/\∀i m σ H,W i m σ H->
  ((N7 K a).stop i H/\D.nx σ H)\/((N7 K a).go i H/\∃N:St->Hp->Prop,(∀σ' H',N σ' H'->∃m',m'<m/\W (i+1) m' σ' H')/\∀x H',(N7 K a).Gb i H x H'->g x σ H' fun σ2 H2=>tb {D with nx:=N,ct:=N,bk:=D.nx} σ2 H2):=by
 refine⟨fun i m σ H=>m=xs.length-i/\i<=xs.length/\Pv i σ H,⟨xs.length,by simp,zaU _,h0⟩,?_⟩
 rintro i m σ H ⟨rfl,hi,p⟩
 have q:=hl i σ H hi p;by_cases lQ:i<xs.length
 ·refine .inr ⟨⟨xs,xs[i],q,by simp[lQ]⟩,Pv (i+1),fun σ' H' p'=>⟨xs.length-(i+1),by lia,rfl,lQ,p'⟩,fun x H' y=>?_⟩;obtain⟨e,y⟩:=y;subst e;exact hs i x σ _ (y xs q) p
 ·have e:i=xs.length:=by lia
  subst e;exact .inl ⟨⟨xs,q,zah _⟩,hd σ H p⟩
theorem DX{lo:Int}{n:Nat}{g:TG}{tb:TS}{D:Ends}{σ:St}{H:Hp}(Pv:Nat->St->Hp->Prop)(h0:Pv 0 σ H)
 (hs:∀i σ H,i<n->Pv i σ H->g (.int (lo+i)) σ H fun σ2 H2=>tb {D with nx:=Pv (i+1),ct:=Pv (i+1),bk:=D.nx} σ2 H2) (hd:∀σ H,Pv n σ H->D.nx σ H) :
 ∃W:Nat->Nat->St->Hp->Prop,(∃m,W 0 m σ H)/\∀i m σ H,W i m σ H->
  ((Oz lo n).stop i H/\D.nx σ H)\/((Oz lo n).go i H/\∃N:St->Hp->Prop,(∀σ' H',N σ' H'->∃m',m'<m/\W (i+1) m' σ' H')/\∀x H',(Oz lo n).Gb i H x H'->g x σ H' fun σ2 H2=>tb {D with nx:=N,ct:=N,bk:=D.nx} σ2 H2):=by
 refine⟨fun i m σ H=>m=n-i/\i<=n/\Pv i σ H,⟨n,by simp,zaU _,h0⟩,?_⟩
 rintro i m σ H ⟨rfl,hi,p⟩
 by_cases lQ:i<n
 ·refine .inr ⟨lQ,Pv (i+1),fun σ' H' p'=>⟨n-(i+1),by lia,rfl,lQ,p'⟩,fun x H' y=>?_⟩;obtain⟨e,y⟩:=y;subst e y;exact hs i σ _ lQ p
 ·have e:i=n:=by lia
  subst e;exact .inl ⟨zah _,hd σ H p⟩
abbrev R2:=V->V->Hp->VK->Prop
def rF (X:Cx) (f:zdQ->zdQ->Sem zdQ) (r:R2):Prop:=
 ∀(pins:List (zdP×Obj)) (s:zdZ) (σ:St) (H:Hp) (x y:V) (v u:zdQ) (Q:VK),Inv X pins σ H s->RelV x v->RelV y u->r x y H Q->
  wpAny (model X.prog X.w) X.A (f v u) (EP X pins σ Q) X.xe s
def UnR (X:Cx) (f:zdQ->Sem zdQ) (r:V->Hp->VK->Prop):Prop:=
 ∀(pins:List (zdP×Obj)) (s:zdZ) (σ:St) (H:Hp) (x:V) (v:zdQ) (Q:VK),Inv X pins σ H s->RelV x v->r x H Q->
  wpAny (model X.prog X.w) X.A (f v) (EP X pins σ Q) X.xe s
def jW (X:Cx) (f:zdQ) (r:List V->Hp->VK->Prop):Prop:=
 ∀(pins:List (zdP×Obj)) (s:zdZ) (σ:St) (H:Hp) (xs:List V) (us:List zdQ) (Q:VK),Inv X pins σ H s->Vals xs us->r xs H Q->
  wpAny (model X.prog X.w) X.A (call f us) (EP X pins σ Q) X.xe s
def aaF (X:Cx) (r:V->Hp->(Bool->Hp->Prop)->Prop):Prop:=
 ∀(pins:List (zdP×Obj)) (s:zdZ) (σ:St) (H:Hp) (x:V) (v:zdQ) (Q:Bool->Hp->Prop),Inv X pins σ H s->RelV x v->r x H Q->
  wpAny (model X.prog X.w) X.A (truthy v) (TP X pins σ Q) X.xe s
def XH (r:R2) (ta tb:TE):TE:=fun σ H Q=>ta σ H fun x H1=>tb σ H1 fun y H2=>r x y H2 Q
def tUn (r:V->Hp->VK->Prop) (ta:TE):TE:=fun σ H Q=>ta σ H fun x H1=>r x H1 Q
def rI (C:Int->Int->Prop) (g:Int->Int->V):R2:=fun x y H Q=>∃i j,x=.int i/\y=.int j/\C i j/\Q (g i j) H
def R3 (g:Int->Int->V):R2:=fun x y H Q=>∃i j,x=.int i/\y=.int j/\Q (g i j) H
def rU (g:Int->V):V->Hp->VK->Prop:=fun x H Q=>∃i,x=.int i/\Q (g i) H
section
variable{X:Cx}{a b c:Expr}{ta tb tc:TE}{pos:Pos}
theorem Vc(ha:PE X a ta)(hb:PE X b tb){pins:List (zdP×Obj)}{s:zdZ}{σ:St}{H:Hp}{R:V->V->Hp->Prop}(I:Inv X pins σ H s)
 (h:ta σ H fun x H1=>tb σ H1 fun y H2=>R x y H2) {Q:zdQ->zdZ->Prop} {f:zdQ->zdQ->Sem zdQ}
 (hf:∀v u s2 x y H2,Inv X pins σ H2 s2->RelV x v->RelV y u->R x y H2->wpAny (model X.prog X.w) X.A (f v u) Q X.xe s2) :
 wpAny (model X.prog X.w) X.A (eval a X.env) (fun v s₁=>wpAny (model X.prog X.w) X.A (eval b X.env) (fun u s₂=>wpAny (model X.prog X.w) X.A (f v u) Q X.xe s₂) X.xe s₁) X.xe s:=by
 refine fA (ha pins s σ H _ I h) fun v s1 zqz=>?_;obtain⟨x,H1,I1,r1,q1⟩:=zqz;refine fA (hb pins s1 σ H1 _ I1 q1) fun u s2 zqz=>?_;obtain⟨y,H2,I2,r2,q2⟩:=zqz;exact hf v u s2 x y H2 I2 r1 r2 q2
theorem aw{op:Operator}{r:R2}(ho:rF X (binaryOp op) r)(ha:PE X a ta)(hb:PE X b tb):PE X (.BinOp a op b pos) (XH r ta tb):=by
 intro pins s σ H Q I h;exact wpAny_BinOp (Vc ha hb I h fun v u s2 x y H2 I2 rx ry q=>ho pins s2 σ H2 x y v u Q I2 rx ry q)
theorem wB{op:UnaryOp}{r:V->Hp->VK->Prop}(ho:UnR X (unaryOp op) r)(ha:PE X a ta):PE X (.UnaryOp op a pos) (tUn r ta):=by
 intro pins s σ H Q I h;refine UnaryOp_ (fA (ha pins s σ H _ I h) fun v s1 zqz=>?_);obtain⟨x,H1,I1,r1,q1⟩:=zqz;exact ho pins s1 σ H1 x v Q I1 r1 q1
theorem XI{f:zdQ->zdQ->Sem zdQ}{C:Int->Int->Prop}{g:Int->Int->Int}
 (rule:∀(i j:Int) (t u:Tok) (s:zdZ) (Q:zdQ->zdZ->Prop) (E:zdQ->zdZ->Prop),C i j->Q (.int (g i j) s.toks) {s with toks:=s.toks+1}->wpAny (model X.prog X.w) X.A (f (.int i t) (.int j u)) Q E s) :
 rF X f (rI C fun i j=>.int (g i j)):=by
 intro pins s σ H x y v u Q I rx ry h;obtain⟨i,j,rfl,rfl,hc,q⟩:=h;obtain⟨t,rfl⟩:=rx;obtain⟨t',rfl⟩:=ry;exact rule i j t t' s _ _ hc ⟨.int (g i j),H,I.tok _,⟨_,rfl⟩,q⟩
theorem XJ{f:zdQ->zdQ->Sem zdQ}{g:Int->Int->Int}
 (rule:∀(i j:Int) (t u:Tok) (s:zdZ) (Q:zdQ->zdZ->Prop) (E:zdQ->zdZ->Prop),Q (.int (g i j) s.toks) {s with toks:=s.toks+1}->wpAny (model X.prog X.w) X.A (f (.int i t) (.int j u)) Q E s) :
 rF X f (R3 fun i j=>.int (g i j)):=by
 intro pins s σ H x y v u Q I rx ry h;obtain⟨i,j,rfl,rfl,q⟩:=h;obtain⟨t,rfl⟩:=rx;obtain⟨t',rfl⟩:=ry;exact rule i j t t' s _ _ ⟨.int (g i j),H,I.tok _,⟨_,rfl⟩,q⟩
theorem R4{f:zdQ->zdQ->Sem zdQ}{g:Int->Int->Bool}
 (rule:∀(i j:Int) (t u:Tok) (s:zdZ) (Q:zdQ->zdZ->Prop) (E:zdQ->zdZ->Prop),Q (.bool (g i j)) s->wpAny (model X.prog X.w) X.A (f (.int i t) (.int j u)) Q E s) :
 rF X f (R3 fun i j=>.bl (g i j)):=by
 intro pins s σ H x y v u Q I rx ry h;obtain⟨i,j,rfl,rfl,q⟩:=h;obtain⟨t,rfl⟩:=rx;obtain⟨t',rfl⟩:=ry;exact rule i j t t' s _ _ ⟨.bl (g i j),H,I,rfl,q⟩
def XM (i j:Int):Prop:=0<j/\j<1073741824
def Vd (i j:Int):Prop:=0<=j/\j<=1000000/\i.natAbs<2 ^ 64
def Ml (i j:Int):Prop:=(-(2 ^ 64)<i/\i<2 ^ 64)\/(-(2 ^ 64)<j/\j<2 ^ 64)
theorem Ml.ok{i j:Int}(h:Ml i j):IntMulOk i j:=by
 rcases h with ⟨h1,h2⟩ |⟨h1,h2⟩
 ·exact .of_left (intBits_le_64 h1 h2)
 ·exact .of_right (intBits_le_64 h1 h2)
theorem Jh(k:Nat):(0:Int)<=2 ^ k:=by
 rw[two_pow_cast];exact Int.natCast_nonneg _
theorem dR:rF X (binaryOp .Add) (R3 fun i j=>.int (i+j)):=XJ fun _ _ _ _ _ _ _ q=>add_int q
theorem vw:rF X (binaryOp .Sub) (R3 fun i j=>.int (i-j)):=XJ fun _ _ _ _ _ _ _ q=>sub_int q
theorem vz:rF X (binaryOp .Mult) (rI Ml fun i j=>.int (i*j)):=XI fun _ _ _ _ _ _ _ hc q=>mul_int q hc.ok
theorem dZ:rF X (binaryOp .FloorDiv) (rI XM fun i j=>.int (i/j)):=XI fun i j _ _ _ _ _ hc q=>by
 have h1:(0:Int)<j:=hc.1;have h2:j<1073741824:=hc.2;exact floordiv_int (by lia) (by rw[zcS i (by lia)];exact q) (.inl (PyProof.noPylong_small (by lia)))
theorem bS:rF X (binaryOp .Mod) (rI (fun _ j=>0<j) fun i j=>.int (i%j)):=XI fun i j _ _ _ _ _ hc q=>by
 have h1:(0:Int)<j:=hc;exact mod_int' (by lia) (by rw[Int.fmod_eq_emod_of_nonneg i (by lia)];exact q)
theorem Ji:rF X (binaryOp .Pow) (rI Vd fun i j=>.int (i ^ j.toNat)):=XI fun _ _ _ _ _ _ _ hc q=>pow_int_small hc.1 hc.2.1 hc.2.2 q
theorem Ve:rF X (binaryOp .RShift) (rI (fun _ j=>0<=j) fun i j=>.int (i/2 ^ j.toNat)):=XI fun i j _ _ _ _ _ hc q=>
 rshift_int hc (by rw[zcS i (Jh _)];exact q)
theorem unI{f:zdQ->Sem zdQ}{g:Int->Int}
 (rule:∀(i:Int) (t:Tok) (s:zdZ) (Q:zdQ->zdZ->Prop) (E:zdQ->zdZ->Prop),Q (.int (g i) s.toks) {s with toks:=s.toks+1}->wpAny (model X.prog X.w) X.A (f (.int i t)) Q E s) :
 UnR X f (rU fun i=>.int (g i)):=by
 intro pins s σ H x v Q I rx h;obtain⟨i,rfl,q⟩:=h;obtain⟨t,rfl⟩:=rx;exact rule i t s _ _ ⟨.int (g i),H,I.tok _,⟨_,rfl⟩,q⟩
theorem qJ:UnR X (unaryOp .USub) (rU fun i=>.int (-i)):=unI fun _ _ _ _ _ q=>neg_int q
end
def Gs:V->V->Bool
 |.eB,.eB=>true |.eB,.int _=>true |.int _,.eB=>true |.eB,.bl _=>true |.bl _,.eB=>true |.eB,.str _=>true |.str _,.eB=>true
 |.int _,.int _=>true |.bl _,.bl _=>true |.str _,.str _=>true |.KP _,.KP _=>true
 |.int _,.str _=>true |.str _,.int _=>true |.bl _,.str _=>true |.str _,.bl _=>true
 |_,_=>false
def rEq:R2:=fun x y H Q=>Gs x y=true/\Q (.bl (decide (x=y))) H
def rNe:R2:=fun x y H Q=>Gs x y=true/\Q (.bl (!decide (x=y))) H
theorem KZ{i j:Int}:decide (V.int i=V.int j)=(i==j):=by
 rw[zbv];simp
theorem OB{i j:Bool}:decide (V.bl i=V.bl j)=(i==j):=by
 rw[zbv];simp
theorem K0{i j:Str}:decide (V.str i=V.str j)=(i==j):=by
 rw[zbv];simp
theorem K1{i j:Array UInt8}:decide (V.KP i=V.KP j)=(i.toList==j.toList):=by
 rw[zbv];cases i;cases j;simp
section
variable{X:Cx}{a b c:Expr}{ta tb tc:TE}{pos:Pos}
theorem cI{pins:List (zdP×Obj)}{σ:St}{H:Hp}{s:zdZ}{Q:VK}{k k':Bool}(I:Inv X pins σ H s)(q:Q (.bl k) H)(e:k=k'):EP X pins σ Q (.bool k') s:=by
 subst e;exact⟨.bl k,H,I,rfl,q⟩
theorem cC:rF X (compareOp .Eq) rEq:=by
 intro pins s σ H x y v u Q I rx ry h;obtain⟨hs,q⟩:=h;cases x with
 |eB=>
  cases rx;cases y with
  |eB=>cases ry;exact PySem.EqNone.eq_none_none (cI I q (by simp))
  |bl j=>cases ry;exact PySem.EqNone.eq_none_bool (cI I q (by simp))
  |int j=>obtain⟨t',rfl⟩:=ry;exact PySem.EqNone.eq_none_int (cI I q (by simp))
  |str j=>obtain⟨t',rfl⟩:=ry;exact PySem.EqNone.eq_none_str (cI I q (by simp))
  |_=>exact absurd (show false=true from hs) zal
 |bl i=>
  cases rx;cases y with
  |eB=>cases ry;exact PySem.EqNone.eq_bool_none (cI I q (by simp))
  |bl j=>cases ry;exact eq_bool (cI I q OB)
  |str j=>obtain⟨t',rfl⟩:=ry;exact PySem.EqMixed.eq_bool_str (cI I q (by simp))
  |_=>exact absurd (show false=true from hs) zal
 |int i=>
  obtain⟨t,rfl⟩:=rx;cases y with
  |eB=>cases ry;exact PySem.EqNone.eq_int_none (cI I q (by simp))
  |int j=>obtain⟨t',rfl⟩:=ry;exact eq_int (cI I q KZ)
  |str j=>obtain⟨t',rfl⟩:=ry;exact PySem.EqMixed.eq_int_str (cI I q (by simp))
  |_=>exact absurd (show false=true from hs) zal
 |str i=>
  obtain⟨t,rfl⟩:=rx;cases y with
  |eB=>cases ry;exact PySem.EqNone.eq_str_none (cI I q (by simp))
  |bl j=>cases ry;exact PySem.EqMixed.eq_str_bool (cI I q (by simp))
  |int j=>obtain⟨t',rfl⟩:=ry;exact PySem.EqMixed.eq_str_int (cI I q (by simp))
  |str j=>obtain⟨t',rfl⟩:=ry;exact eq_str (cI I q K0)
  |_=>exact absurd (show false=true from hs) zal
 |KP i=>
  obtain⟨t,rfl⟩:=rx;cases y with
  |KP j=>obtain⟨t',rfl⟩:=ry;exact PySem.W.eq_bytes (cI I q K1)
  |_=>exact absurd (show false=true from hs) zal
 |_=>cases y<;>exact absurd (show false=true from hs) zal
theorem Av:rF X (compareOp .NotEq) rNe:=by
 intro pins s σ H x y v u Q I rx ry h;obtain⟨hs,q⟩:=h;cases x with
 |eB=>
  cases rx;cases y with
  |eB=>cases ry;exact PySem.EqNone.ne_none_none (cI I q (by simp))
  |bl j=>cases ry;exact PySem.EqNone.ne_none_bool (cI I q (by simp))
  |int j=>obtain⟨t',rfl⟩:=ry;exact PySem.EqNone.ne_none_int (cI I q (by simp))
  |str j=>obtain⟨t',rfl⟩:=ry;exact PySem.EqNone.ne_none_str (cI I q (by simp))
  |_=>exact absurd (show false=true from hs) zal
 |bl i=>
  cases rx;cases y with
  |eB=>cases ry;exact PySem.EqNone.ne_bool_none (cI I q (by simp))
  |bl j=>cases ry;exact ne_bool (cI I q (congrArg not OB))
  |str j=>obtain⟨t',rfl⟩:=ry;exact PySem.EqMixed.ne_bool_str (cI I q (by simp))
  |_=>exact absurd (show false=true from hs) zal
 |int i=>
  obtain⟨t,rfl⟩:=rx;cases y with
  |eB=>cases ry;exact PySem.EqNone.ne_int_none (cI I q (by simp))
  |int j=>obtain⟨t',rfl⟩:=ry;exact ne_int (cI I q (congrArg not KZ))
  |str j=>obtain⟨t',rfl⟩:=ry;exact PySem.EqMixed.ne_int_str (cI I q (by simp))
  |_=>exact absurd (show false=true from hs) zal
 |str i=>
  obtain⟨t,rfl⟩:=rx;cases y with
  |eB=>cases ry;exact PySem.EqNone.ne_str_none (cI I q (by simp))
  |bl j=>cases ry;exact PySem.EqMixed.ne_str_bool (cI I q (by simp))
  |int j=>obtain⟨t',rfl⟩:=ry;exact PySem.EqMixed.ne_str_int (cI I q (by simp))
  |str j=>obtain⟨t',rfl⟩:=ry;exact ne_str (cI I q (congrArg not K0))
  |_=>exact absurd (show false=true from hs) zal
 |KP i=>
  obtain⟨t,rfl⟩:=rx;cases y with
  |KP j=>obtain⟨t',rfl⟩:=ry;exact PySem.W.ne_bytes (cI I q (congrArg not K1))
  |_=>exact absurd (show false=true from hs) zal
 |_=>cases y<;>exact absurd (show false=true from hs) zal
theorem Aw:rF X (compareOp .Lt) (R3 fun i j=>.bl (decide (i<j))):=R4 fun _ _ _ _ _ _ _ q=>lt_int q
theorem Ax:rF X (compareOp .LtE) (R3 fun i j=>.bl (decide (i<=j))):=R4 fun _ _ _ _ _ _ _ q=>le_int q
theorem Ay:rF X (compareOp .Gt) (R3 fun i j=>.bl (decide (j<i))):=R4 fun _ _ _ _ _ _ _ q=>gt_int q
theorem XN:rF X (compareOp .GtE) (R3 fun i j=>.bl (decide (j<=i))):=R4 fun _ _ _ _ _ _ _ q=>ge_int q
theorem xN:rF X (compareOp .In) (fun x y H Q=>∃i j,x=.str i/\y=.str j/\Q (.bl (!(Builtin.Str.occurrences j i 0 j.length 1).isEmpty)) H):=by
 intro pins s σ H x y v u Q I rx ry h;obtain⟨i,j,rfl,rfl,q⟩:=h;obtain⟨t,rfl⟩:=rx;obtain⟨t',rfl⟩:=ry;exact in_str (cI I q rfl)
theorem Vf:rF X (compareOp .Is) (fun x y H Q=>y=.eB/\Q (.bl (decide (x=.eB))) H):=by
 intro pins s σ H x y v u Q I rx ry h;obtain⟨rfl,q⟩:=h;cases ry;refine is_none_gen (cI I q ?_);cases x<;>first
  |(cases rx;rfl)
  |(obtain⟨t,rfl⟩:=rx;rfl)
theorem rF.or{f:zdQ->zdQ->Sem zdQ}{r r':R2}(h:rF X f r)(h':rF X f r'):rF X f (fun x y H Q=>r x y H Q\/r' x y H Q):=by
 intro pins s σ H x y v u Q I rx ry q;rcases q with q |q
 ·exact h pins s σ H x y v u Q I rx ry q
 ·exact h' pins s σ H x y v u Q I rx ry q
theorem aT(b:Expr){op:CmpOp}(h:op≠.In:=by decide)(h2:op≠.NotIn:=by decide):behindInMarks op b=false:=by
 have e1:(op==CmpOp.In)=false:=by cases op<;>first |rfl |exact absurd rfl h
 have e2:(op==CmpOp.NotIn)=false:=by cases op<;>first |rfl |exact absurd rfl h2
 cases b<;>simp[behindInMarks,e1,e2]
theorem mQ{op:CmpOp}{r:R2}(ho:rF X (compareOp op) r)(ha:PE X a ta)(hb:PE X b tb)(hm:behindInMarks op b=false):PE X (.Compare a [op] [b] pos) (XH r ta tb):=by
 intro pins s σ H Q I h;exact wpAny_Compare1 (Vc ha hb I h fun v u s2 x y H2 I2 rx ry q=>ho pins s2 σ H2 x y v u Q I2 rx ry q) hm
def K2 (t:TE):TT:=fun σ H Q=>t σ H fun x H'=>∃k,x=.bl k/\Q k H'
theorem aH{op:CmpOp}{r:R2}(ho:rF X (compareOp op) r)(ha:PE X a ta)(hb:PE X b tb)(hm:behindInMarks op b=false):PT X (.Compare a [op] [b] pos) (K2 (XH r ta tb)):=by
 intro pins s σ H Q I h;refine wpAny_isTrue_Compare1 (fA (ha pins s σ H _ I h) fun v s1 zqz=>?_) hm;obtain⟨x,H1,I1,r1,q1⟩:=zqz;refine fA (hb pins s1 σ H1 _ I1 q1) fun u s2 zqz=>?_;obtain⟨y,H2,I2,r2,q2⟩:=zqz;refine fA (ho pins s2 σ H2 x y v u _ I2 r1 r2 q2) fun c s3 zqz=>?_;obtain⟨z,H3,I3,r3,k,e,q3⟩:=zqz;subst e;cases r3;exact wpAny_truthy_bool ⟨H3,I3,q3⟩
def Jj (r r':R2) (ta tb tc:TE):TE:=fun σ H Q=>ta σ H fun x H1=>tb σ H1 fun y H2=>r x y H2 fun z H3=>∃k,z=.bl k/\
 (if k=true then tc σ H3 fun w' H4=>r' y w' H4 Q else Q (.bl false) H3)
theorem Az{op W8:CmpOp}{r r':R2}(ho:rF X (compareOp op) r)(uK:rF X (compareOp W8) r')(ha:PE X a ta)(hb:PE X b tb)(hc:PE X c tc)
 (hm:lastMarks [op,W8] [b,c]=false:=by with_unfolding_all rfl):PE X (.Compare a [op,W8] [b,c] pos) (Jj r r' ta tb tc):=by
 intro pins s σ H Q I h;refine Compare_chain (fA (ha pins s σ H _ I h) fun v s1 ⟨x,H1,I1,r1,q1⟩=>chain_link (fA (hb pins s1 σ H1 _ I1 q1) fun u s2 zqz=>?_)) hm;obtain⟨y,H2,I2,r2,q2⟩:=zqz;refine fA (ho pins s2 σ H2 x y v u _ I2 r1 r2 q2) fun d s3 zqz=>?_;obtain⟨z,H3,I3,r3,k,e,q3⟩:=zqz;subst e;cases r3;refine wpAny_truthy_bool ?_;cases k with
 |false=>exact ite_ff ⟨.bl false,H3,I3,rfl,q3⟩
 |true=>exact ite_tt (chain_last (fA (hc pins s3 σ H3 _ I3 q3) fun w' s4 ⟨z',H4,I4,r4,q4⟩=>uK pins s4 σ H4 y z' u w' Q I4 r2 r4 q4))
def XO (K:zab) (x:V) (H:Hp) (k:Bool):Prop:=
 match x with
 |.eB=>k=false
 |.bl b=>k=b
 |.int i=>k=(i != 0)
 |.str y=>y.length<=zdX/\k=((y.length:Int) != 0)
 |.KP y=>y.size<=zdX/\k=((y.size:Int) != 0)
 |.ref p=>(∃xs,gI K H p xs/\k = !xs.isEmpty)\/(∃xs,dF K H p xs/\k = !xs.isEmpty)\/∃bg,H p=some (.dK bg)/\k = !bg.isEmpty
 |_=>False
theorem Jk{κ:Type}{bg:List (κ×V)}{vs:List (κ×zdQ)}(r:KV bg vs):(!vs.isEmpty) = !bg.isEmpty:=by
 cases r<;>rfl
theorem AA{xs:List V}{bp:List zdQ}(r:Vals xs bp):(!bp.toArray.isEmpty) = !xs.isEmpty:=by
 cases r<;>simp
theorem sj:(zdX:Nat)<2 ^ 63:=by rw[sizeLine_eq];decide
theorem Vg:aaF X (fun x H Q=>∃k,XO X.K x H k/\Q k H):=by
 intro pins s σ H x v Q I rx h;obtain⟨k,e,q⟩:=h;have hl:=sj;have hs:zdX=16777216:=sizeLine_eq;cases x with
 |eB=>
  cases rx;have e':k=false:=e;subst e';exact truthy_none ⟨H,I,q⟩
 |bl b=>
  cases rx;have e':k=b:=e;subst e';exact wpAny_truthy_bool ⟨H,I,q⟩
 |int i=>
  obtain⟨t,rfl⟩:=rx;have e':k=(i != 0):=e;subst e';exact PySem.P.truthy_int ⟨H,I,q⟩
 |str y=>
  obtain⟨t,rfl⟩:=rx;obtain⟨hy,e'⟩:y.length<=zdX/\k=((y.length:Int) != 0):=e;subst e';exact PySem.P.truthy_str (by lia) ⟨H,I.tok _,q⟩
 |KP y=>
  obtain⟨t,rfl⟩:=rx;obtain⟨hy,e'⟩:y.size<=zdX/\k=((y.size:Int) != 0):=e;subst e';exact PySem.W.truthy_bytes (by lia) ⟨H,I.tok _,q⟩
 |ref p=>
  cases rx;have e':(∃xs,gI X.K H p xs/\k = !xs.isEmpty)\/(∃xs,dF X.K H p xs/\k = !xs.isEmpty)\/∃bg,H p=some (.dK bg)/\k = !bg.isEmpty:=e;rcases e' with ⟨xs,hx,e'⟩ |⟨xs,hx,e'⟩ |⟨bg,hx,e'⟩
  ·subst e';obtain⟨bp,r,pl,hz⟩:=I.list hx;have hlen:=r.length;exact wpAny_truthy_list pl.isList (by simp only[zau];lia) ⟨H,I.tok _,by rw[AA r];exact q⟩
  ·subst e';obtain⟨bp,r,pl,hz⟩:=I.tuple hx;have hlen:=r.length;exact truthy_tuple pl (by simp only[zau];lia) ⟨H,I.tok _,by rw[AA r];exact q⟩
  ·subst e';obtain⟨hz,hS,vs,r,m⟩:bg.length<=zdX/\(p==sysModules)=false/\∃vs,KV bg vs/\s.heap.DictOf (fM X.prog X.w) p vs:=I.eC p _ hx;have hlen:bg.length=vs.length:=Paired.length r;exact wpAny_truthy_dict hS m (by lia) ⟨H,I.tok _,by rw[Jk r];exact q⟩
 |_=>exact(show False from e).elim
theorem sk(ha:PE X a ta)(he:∀whole,isTrue a X.env whole=(do let v <- whole;standAt a.pos;holding [v] (truthy v))) :
 PT X a (fun σ H Q=>ta σ H fun x H'=>∃k,XO X.K x H' k/\Q k H'):=by
 intro pins s σ H Q I h;refine isTrue_plain (fA (ha pins s σ H _ I h) fun v s1 zqz=>?_) (he _);obtain⟨x,H1,I1,r1,q1⟩:=zqz;exact Vg pins s1 σ H1 x v Q I1 r1 q1
theorem aJ:rF X (binaryOp .Add) (fun x y H Q=>∃i j,x=.str i/\y=.str j/\i.length+j.length<=zdX/\Q (.str (i++j)) H):=by
 intro pins s σ H x y v u Q I rx ry h;obtain⟨i,j,rfl,rfl,hz,q⟩:=h;obtain⟨t,rfl⟩:=rx;obtain⟨t',rfl⟩:=ry;exact add_str (fun t' tk=>⟨.str (i++j),H,I.tok _,⟨_,rfl⟩,q⟩) hz
theorem vals1{x:V}{us:List zdQ}(r:Vals [x] us):∃u,us=[u]/\RelV x u:=by
 cases r with
 |cons r1 r2=>cases r2;exact⟨_,rfl,r1⟩
theorem vals2{x y:V}{us:List zdQ}(r:Vals [x,y] us):∃u w',us=[u,w']/\RelV x u/\RelV y w':=by
 cases r with
 |cons r1 r2=>
  cases r2 with
  |cons r3 r4=>cases r4;exact⟨_,_,rfl,r1,r3⟩
theorem Mn(hc:X.calm=true):jW X (.builtin "max") (fun xs H Q=>∃i j,xs=[.int i,.int j]/\Q (.int (if j>i then j else i)) H):=by
 intro pins s σ H xs us Q I r h;obtain⟨i,j,rfl,q⟩:=h;obtain⟨u,w',rfl,⟨t,rfl⟩,⟨t',rfl⟩⟩:=vals2 r;refine max_two_ints (I.ok.hd hc) fun h' tk k=>⟨_,H,I.kept k,?_,q⟩
 by_cases hj:j>i
 ·rw[if_pos hj,if_pos hj];exact⟨_,rfl⟩
 ·rw[if_neg hj,if_neg hj];exact⟨_,rfl⟩
theorem EL:jW X (.type "str") (fun xs H Q=>∃i,xs=[.int i]/\i.natAbs.log2<1920/\Q (.str (toString i)) H):=by
 intro pins s σ H xs us Q I r h;obtain⟨i,rfl,hz,q⟩:=h;obtain⟨u,rfl,t,rfl⟩:=vals1 r;exact PySem.P.str_of_int hz ⟨.str _,H,I.tok _,⟨_,rfl⟩,q⟩
end
structure Jl(h:Heap)(x dx C:zdP)(mA:Str->Option zdQ):Prop where
 obj:h.get? x=some (zbG C dx)
 ns:h.Ns1 dx mA
 ne:dx≠x
theorem Mo{h:Heap}{dx:zdP}{mA:Str->Option zdQ}(n:h.Ns1 dx mA):∃od,h.get? dx=some od/\∀name,zcJ name od=some (mA name):=by
 obtain⟨o,es,ep,ho,hd,hk,_,hm⟩:=n;refine⟨o,ho,fun name=>?_⟩;have e:=hm name;unfold nsFind findBy at e;rw[<- Array.find?_toList] at e;unfold zcJ;rw[hd];dsimp only;split
 ·rename_i y q;rw[q] at e;exact congrArg some e
 ·rename_i q;rw[q] at e;have a:es.toList.any (·.refKey)=false:=by
   rw[List.any_eq_false];intro y hy;obtain⟨z,t,aaH⟩:=hk y (Array.mem_toList_iff.mp hy);simp[DictEntry.refKey,aaH]
  have a':¬es.toList.any (·.refKey)=true:=by rw[a];exact zal
  rw[if_neg a'];exact congrArg some e
theorem Jl.look{h:Heap}{x dx C:zdP}{mA:Str->Option zdQ}(I:Jl h x dx C mA):∃od,PySem.W.InstAt h x (zbG C dx) C (some od)/\∀name,zcJ name od=some (mA name):=
 let ⟨od,ho,hl⟩:=Mo I.ns
 ⟨od,⟨I.obj,rfl,rfl,ho⟩,hl⟩
section
variable{prog:zd1}{w:zdR}{A:zd0}{E:zdQ->zdZ->Prop}{s:zdZ}{K:zab}{x dx C f:zdP}{mA:Str->Option zdQ}{name:Str}{v:zdQ}
theorem get_map{expr:Bool}{Q:zdQ->zdZ->Prop}(X:K.In s.heap)(I:Jl s.heap x dx C mA)(hg:zbW K C name=true)(hh:zaZ K C=true)
 (ha:zao K (.ref C) name=some none) (hv:mA name=some v) (ZN:PySem.W.handedIn v=true) (h:Q v {s with toks:=s.toks+1}) :
 wpAny (model prog w) A (getAttr (.ref x) name expr) Q E s:=by
 obtain⟨od,J,hl⟩:=I.look;exact PySem.W.get_value X J (zcG hg).1 (PySem.W.findObj_own hh ha rfl (by rw[hl,hv])) ZN h
theorem OC{pl:Sem Bool}{Q:zdQ×List zdQ->zdZ->Prop}(X:K.In s.heap)(I:Jl s.heap x dx C mA)(hg:zbW K C name=true)
 (hf:zao K (.ref C) name=some (some (.ref f))) (ht:zbH K (.ref f)=true) (hv:mA name=none) (h:Q (.ref f,[.ref x]) s) :
 wpAny (model prog w) A (getMethod (.ref x) name pl) Q E s:=by
 obtain⟨od,J,hl⟩:=I.look;exact PySem.W.method_fn X J (zcG hg).1 (zcG hg).2 hf (beq_iff_eq.mp ht) (by show (zcJ name od).map (·.isSome)=some false;rw[hl,hv];rfl) h
theorem R5{ns:List Str}{Q:Unit->zdZ->Prop}(X:K.In s.heap)(I:Jl s.heap x dx C mA)
 (hs:zao K (.ref C) "__setattr__"=some (some (.builtin "object.__setattr__"))) (hp:zcd K C=true) (ht:zdk K C name=some none) (hh:zaZ K C=true)
 (hw:PySem.Within mA ns) (XQ:ns.length<=zdX)
 (h:∀h',Jl h' x dx C (fun y=>if y=name then some v else mA y)->Heap.SameBut dx s.heap h'->Q () {s with heap:=h',toks:=s.toks+2}) :
 wpAny (model prog w) A (setAttr (.ref x) name v) Q E s:=by
 obtain⟨od,J,hl⟩:=I.look;refine PySem.W.set_plain X J hs (PySem.W.osa_open (s:={s with toks:=s.toks+1}) (r:=none) X J hp ht fun b=>?_);obtain⟨cd,hc,Xu⟩:=zc8 hh;have hx:s.heap.get? x=some ⟨.ref C,some dx,.plain, #[]⟩:=I.obj;refine zdS (zdT (zdS (zdS (wpAny_loadPart hx (zdS (PySem.W.Looks.here (s:={s with toks:=s.toks+1}) (PySem.W.looks_clsIn X hc) ?_))))));rw[Xu];refine zdT (a:=some dx) (zdS (zdT (zdS ?_)));refine wpAny_nsSet1 (s:={s with toks:=s.toks+1}) I.ns fun h' ZO TR=>?_;obtain⟨oD,esD,epD,hoD,hdD,hcD⟩:=ZO.count (PySem.Within.cons name v hw);refine zdS (wpAny_lookBehind hoD (by rw[hdD];exact pastItsLine_dict (zay hcD (by rw[zaf];lia))) ?_);exact zdT (h _ ⟨(TR.2 _ (Ne.symm I.ne)).trans I.obj,ZO,I.ne⟩ TR)
theorem OD{R:Result->zdZ->Prop}{vs:List zdQ}{kw:List (Str×zdQ)}(X:K.In s.heap)(hm:zcw K C=true)
 (hi:zao K (.ref C) "__init__"=some (some (.ref f))) (hf:PySem.W.typeIn K (.ref f)=some (.type "function"))
 (h:codeAny (model prog w) (A.under (.builtin "type.__call__" ⟨.ref C::vs,kw⟩)) (.call (.ref f) ⟨.ref (s.heap.objs.size+1)::vs,kw⟩) (PySem.W.InitBack (s.heap.objs.size+1) R)
  {s with heap:=(s.heap.push zbp).push (zbG C s.heap.objs.size)}) :
 codeAny (model prog w) A (.call (.ref C) ⟨vs,kw⟩) R s:=by
 obtain⟨hh,g,d,t,os⟩:=s;exact PySem.W.make_core (PySem.W.makes_of X hm) (zb2 X hi) (fun self=>PySem.W.bind_fn X self hf) (.inl rfl) h
end
def qg (f:Str) (v:V):List (Str×V)->List (Str×V)
 |[]=>[(f,v)]
 |(g,x)::r=>if g=f then (g,v)::r else (g,x)::qg f v r
theorem yU(f g:Str)(v:V):∀fs:List (Str×V),(qg f v fs).lookup g=if g=f then some v else fs.lookup g
 |[]=>by
  show zbU g [(f,v)]=_;by_cases h:g=f
  ·have hb:(g==f)=true:=beq_iff_eq.mpr h;simp only[zbU,hb,if_pos h]
  ·have hb:(g==f)=false:=beq_eq_false_iff_ne.mpr h;simp only[zbU,hb,if_neg h]
 |(k,x)::r=>by
  have ih:=yU f g v r;rw[show qg f v ((k,x)::r)=(if k=f then (k,v)::r else (k,x)::qg f v r) from rfl];by_cases hk:k=f
  ·rw[if_pos hk];by_cases h:g=k
   ·have hb:(g==k)=true:=beq_iff_eq.mpr h;simp only[zbU,hb,if_pos (h.trans hk)]
   ·have hb:(g==k)=false:=beq_eq_false_iff_ne.mpr h;simp only[zbU,hb,if_neg (fun e:g=f=>h (e.trans hk.symm))]
  ·rw[if_neg hk];by_cases h:g=k
   ·have hb:(g==k)=true:=beq_iff_eq.mpr h;simp only[zbU,hb,if_neg (fun e:g=f=>hk (h.symm.trans e))]
   ·have hb:(g==k)=false:=beq_eq_false_iff_ne.mpr h;simp only[zbU,hb];exact ih
theorem xO(f:Str)(v:V):∀fs:List (Str×V),f∈(qg f v fs).map (·.1)/\∀g,g∈fs.map (·.1)->g∈(qg f v fs).map (·.1)
 |[]=>⟨by simp[qg],fun g h=>by simp at h⟩
 |(k,x)::r=>by
  obtain⟨i1,i2⟩:=xO f v r;rw[show qg f v ((k,x)::r)=(if k=f then (k,v)::r else (k,x)::qg f v r) from rfl];by_cases hk:k=f
  ·rw[if_pos hk];subst hk;exact⟨by simp,fun g h=>by simpa using h⟩
  ·rw[if_neg hk];refine⟨?_,fun g h=>?_⟩
   ·rw[zaq];exact zak _ i1
   ·rw[zaq] at h ⊢;rcases zai.mp h with e |e
    ·exact zai.mpr (.inl e)
    ·exact zak _ (i2 g e)
theorem yV(f:Str)(v:V):∀fs:List (Str×V),(qg f v fs).length<=fs.length+1
 |[]=>by simp[qg]
 |(k,x)::r=>by
  have ih:=yV f v r;rw[show qg f v ((k,x)::r)=(if k=f then (k,v)::r else (k,x)::qg f v r) from rfl];by_cases hk:k=f
  ·rw[if_pos hk,zaf,zaf];lia
  ·rw[if_neg hk,zaf,zaf];lia
theorem r6.some_of{v:V}{o:Option zdQ}(r:r6 (some v) o):∃u,o=some u/\RelV v u:=by
 cases o with
 |none=>exact(show False from r).elim
 |some u=>exact⟨u,rfl,r⟩
theorem r6.none_of{o:Option zdQ}(r:r6 none o):o=none:=by
 cases o with
 |none=>rfl
 |some u=>exact(show False from r).elim
theorem Mp{v:V}{u:zdQ}(r:RelV v u):PySem.W.handedIn u=true:=by
 cases v with
 |eB=>cases (show u=Value.none from r);rfl
 |bl b=>cases (show u=Value.bool b from r);rfl
 |int i=>obtain⟨t,e⟩:=(show ∃t,u=Value.int i t from r);cases e;rfl
 |str x=>obtain⟨t,e⟩:=(show ∃t,u=Value.str x t from r);cases e;rfl
 |KP b=>obtain⟨t,e⟩:=(show ∃t,u=Value.bytes b t from r);cases e;rfl
 |ZF b=>obtain⟨t,e⟩:=(show ∃t,u=Value.float b t from r);cases e;rfl
 |ref a=>cases (show u=Value.ref a from r);rfl
 |ty n=>cases (show u=Value.type n from r);rfl
section
variable{P:zd1}{w:zdR}{H H':Hp}{h h':Heap}{a C dx:zdP}{fs TH:List (Str×V)}
theorem EM(eC:wu P w H h)(e:H a=some (.ins C dx fs)):∃mA,Jl h a dx C mA/\(∀f,r6 (fs.lookup f) (mA f))/\PySem.Within mA (fs.map (·.1))/\fs.length<=1000/\H dx=some (.own a):=by
 obtain⟨d,z,ne,ob,mA,n,r,q⟩:=(show fP P w H h a (.ins C dx fs) from eC a _ e)
 exact⟨mA,⟨ob,n,ne⟩,r,q,z,d⟩
end
structure OE(K:zab)(C:zdP):Prop where
 pg:zbW K C Str.empty=true
 hd:zaZ K C=true
 po:zcd K C=true
 sa:zao K (.ref C) "__setattr__"=some (some (.builtin "object.__setattr__"))
theorem OE.get{K:zab}{C:zdP}(c:OE K C)(f:Str):zbW K C f=true:=c.pg
def lT (K:zab) (C:zdP) (f:Str):Prop:=zao K (.ref C) f=some none
theorem lT.XR{K:zab}{C:zdP}{f:Str}(n:lT K C f):zdk K C f=some none:=by
 unfold zdk;rw[show zao K (.ref C) f=some none from n];rfl
structure Meth(K:zab)(C:zdP)(m:Str)(f:zdP):Prop where
 at_:zao K (.ref C) m=some (some (.ref f))
 fn:zbH K (.ref f)=true
 kp:za5 K (.ref f)=true
section
variable{X:Cx}{pins:List (zdP×Obj)}{σ:St}{H:Hp}{s:zdZ}{a C dx:zdP}{fs:List (Str×V)}{f:Str}{v:V}{A:zd0}{E:zdQ->zdZ->Prop}
theorem AB{b:Bool}{Q:zdQ->zdZ->Prop}(I:Inv X pins σ H s)(e:H a=some (.ins C dx fs))(c:OE X.K C)(n:lT X.K C f)(l:fs.lookup f=some v)
 (h:∀u s',Inv X pins σ H s'->RelV v u->Q u s'):wpAny (model X.prog X.w) A (getAttr (.ref a) f b) Q E s:=by
 obtain⟨mA,O,r,_,_,_⟩:=EM I.eC e;obtain⟨u,hu,ru⟩:=r6.some_of (v:=v) (o:=mA f) (by rw[<- l];exact r f);exact get_map I.CQ O (c.get f) c.hd n hu (Mp ru) (h u _ (I.tok _) ru)
theorem Jm{m:Str}{g:zdP}{pl:Sem Bool}{Q:zdQ×List zdQ->zdZ->Prop}(I:Inv X pins σ H s)(e:H a=some (.ins C dx fs))(c:OE X.K C)(k:Meth X.K C m g)(l:fs.lookup m=none)
 (h:Q (.ref g,[.ref a]) s):wpAny (model X.prog X.w) A (getMethod (.ref a) m pl) Q E s:=by
 obtain⟨mA,O,r,_,_,_⟩:=EM I.eC e;have hn:mA m=none:=r6.none_of (by rw[<- l];exact r m);exact OC I.CQ O (c.get m) k.at_ k.fn hn h
theorem AD{y:V}{u:zdQ}{Q:Unit->zdZ->Prop}(I:Inv X pins σ H s)(e:H a=some (.ins C dx fs))(c:OE X.K C)(n:lT X.K C f)(hl:fs.length<1000)(ry:RelV y u)
 (h:∀s',Inv X pins σ (upd H a (.ins C dx (qg f y fs))) s'->Q () s'):wpAny (model X.prog X.w) A (setAttr (.ref a) f u) Q E s:=by
 obtain⟨mA,O,r,wi,_,ho⟩:=EM I.eC e;have hz:(fs.map (·.1)).length<=zdX:=by rw[zaj,sizeLine_eq];lia
 refine R5 I.CQ O c.sa c.po n.XR c.hd wi hz fun h' O' sb=>h _ ?_;have hd:∃o,h'.get? dx=some o:=let ⟨o,_,_,e',_⟩:=O'.ns;⟨o,e'⟩;refine I.write (x:=a) (e:=dx) (by rw[e];exact True.intro) (.inr ho) (fun b q hb z=>(sb.2 b hb).trans z) hd ?_;refine⟨by rw[aq O.ne];exact ho,?_,O.ne,O'.obj,_,O'.ns,fun g=>?_,fun g hg=>?_⟩
 ·have:=yV f y fs;lia
 ·show r6 ((qg f y fs).lookup g) (if g=f then some u else mA g);rw[yU];by_cases q:g=f
  ·rw[if_pos q,if_pos q];exact ry
  ·rw[if_neg q,if_neg q];exact r g
 ·by_cases q:g=f
  ·rw[q];exact(xO f y fs).1
  ·refine(xO f y fs).2 g (wi g fun z=>hg ?_);show (if g=f then some u else mA g)=none;rw[if_neg q];exact z
theorem Inv.made(I:Inv X pins σ H s):Inv X pins σ (upd (upd H s.heap.objs.size (.own (s.heap.objs.size+1))) (s.heap.objs.size+1) (.ins C s.heap.objs.size []))
 {s with heap:=(s.heap.push zbp).push (zbG C s.heap.objs.size)}:=by
 have e1:(s.heap.push zbp).get? s.heap.objs.size=some zbp:=Heap.get?_push_size s.heap rfl;have e2:((s.heap.push zbp).push (zbG C s.heap.objs.size)).get? (s.heap.objs.size+1)=some (zbG C s.heap.objs.size):=by
  have:=Heap.get?_push_size (s.heap.push zbp) (o:=zbG C s.heap.objs.size) rfl
  rwa [Heap.size_push] at this
 have e3:(s.heap.push zbp).Ns s.heap.objs.size (fun _=>none):=⟨zbp, #[],_,e1,rfl,(fun e he=>absurd he (by simp)),fun _=>rfl⟩
 have I1:=I.laid (a:=s.heap.objs.size) (o:=.own (s.heap.objs.size+1)) (h':=s.heap.push zbp) (t':=s.toks) (fun b u q=>Heap.get?_push_of_some _ q) (zah _) ⟨_,e1⟩;refine I1.laid (a:=s.heap.objs.size+1) (o:=.ins C s.heap.objs.size []) (t':=s.toks) (fun b u q=>Heap.get?_push_of_some _ q) (zdH (Heap.size_push _ _)) ?_;have ne:s.heap.objs.size≠s.heap.objs.size+1:=zaR (zch _);refine⟨by rw[aq ne,aj],zaU _,ne,e2,fun _=>none,(Heap.Ns1.of_empty e3).at fun o q=>Heap.get?_push_of_some _ q,fun _=>True.intro,fun y hy=>absurd rfl hy⟩
theorem R6{prog:zd1}{w:zdR}{env:Env}{e:Expr}{f:Str}{pos:Pos}{s:zdZ}{Q:zdQ->zdZ->Prop}(hb:attributeBase e f env (eval e env)=eval e env)
 (h:wpAny (model prog w) A (eval e env) (fun o s₁=>wpAny (model prog w) A (getAttr o f true) Q E s₁) E s):wpAny (model prog w) A (eval (.Attribute e f pos) env) Q E s:=
 Attribute_any_ h (by rw[arm_eval_Attribute,hb])
end
def Vh (K:zab) (ta:TE) (f:Str):TE:=fun σ H Q=>ta σ H fun x H1=>∃a C dx fs v,x=.ref a/\H1 a=some (.ins C dx fs)/\OE K C/\lT K C f/\fs.lookup f=some v/\Q v H1
def Vi (K:zab) (ta tv:TE) (f:Str):TS:=fun D σ H=>tv σ H fun y H1=>ta σ H1 fun x H2=>∃a C dx fs,x=.ref a/\H2 a=some (.ins C dx fs)/\OE K C/\lT K C f/\fs.length<1000/\
 D.nx σ (upd H2 a (.ins C dx (qg f y fs)))
def XS (X:Cx) (op:Operator) (rd:V->V->Hp->VK->Prop):Prop:=
 ∀(pins:List (zdP×Obj)) (s:zdZ) (σ:St) (H:Hp) (x y:V) (u v:zdQ) (Q:VK),Inv X pins σ H s->RelV x u->RelV y v->rd x y H Q->wpAny (model X.prog X.w) X.A (inplaceOp op u v) (EP X pins σ Q) X.xe s
def EN (K:zab) (ta tv:TE) (rd:V->V->Hp->VK->Prop) (f:Str):TS:=fun D σ H=>ta σ H fun x H1=>∃a C dx fs v,x=.ref a/\H1 a=some (.ins C dx fs)/\OE K C/\lT K C f/\fs.lookup f=some v/\
 tv σ H1 fun y H2=>rd v y H2 fun z H3=>∃Vj TH,H3 a=some (.ins C Vj TH)/\TH.length<1000/\D.nx σ (upd H3 a (.ins C Vj (qg f z TH)))
section
variable{X:Cx}{o e value:Expr}{f:Str}{pos pos' Vk:Pos}{ta tv:TE}
theorem dG(he:PE X e ta)(hb:attributeBase e f X.env (eval e X.env)=eval e X.env):PE X (.Attribute e f pos) (Vh X.K ta f):=by
 intro pins s σ H Q I h;refine R6 hb (fA (he pins s σ H _ I h) fun u s1 zqz=>?_);obtain⟨x,H1,I1,rx,a,C,dx,fs,v,ex,ea,c,n,l,q⟩:=zqz;subst ex;obtain rfl:u=Value.ref a:=rx;exact AB I1 ea c n l fun u' s2 I2 ru=>⟨v,H1,I2,ru,q⟩
theorem AE(ha:PE X o ta)(hv:PE X value tv)(hs:swapsWith value (some (.Attribute o f pos')) pos.line X.env=pure false):PS X (.Assign [.Attribute o f pos'] value pos) (Vi X.K ta tv f):=by
 intro pins s σ H D I h;refine plainObj_wpAny_Assign_Attribute (fA (hv pins s σ H _ I h) fun u s1 zqz=>?_) hs;obtain⟨y,H1,I1,ry,q⟩:=zqz;refine fA (ha pins s1 σ H1 _ I1 q) fun ov s2 zqz=>?_;obtain⟨x,H2,I2,rx,a,C,dx,fs,ex,ea,c,n,l,q2⟩:=zqz;subst ex;obtain rfl:ov=Value.ref a:=rx;exact AD I2 ea c n l ry fun s3 I3=>⟨σ,_,I3,q2⟩
theorem Mq{op:Operator}{rd:V->V->Hp->VK->Prop}(ha:PE X o ta)(hv:PE X value tv)(Vl:XS X op rd):PS X (.AugAssign (.Attribute o f Vk) op value pos) (EN X.K ta tv rd f):=by
 intro pins s σ H D I h;refine wpAny_AugAssign_AttributeAny (fA (ha pins s σ H _ I h) fun ov s1 zqz=>?_);obtain⟨x,H1,I1,rx,a,C,dx,fs,v,ex,ea,c,n,l,q⟩:=zqz;subst ex;obtain rfl:ov=Value.ref a:=rx;refine AB I1 ea c n l fun u s2 I2 ru=>fA (hv pins s2 σ H1 _ I2 q) fun w3 s3 zqz=>?_;obtain⟨y,H2,I3,ry,q3⟩:=zqz;refine fA (Vl pins s3 σ H2 v y u w3 _ I3 ru ry q3) fun w4 s4 zqz=>?_;obtain⟨z,H3,I4,rz,Vj,TH,ea',l',q4⟩:=zqz;exact AD I4 ea' c n l' rz fun s5 I5=>⟨σ,_,I5,q4⟩
def aaI:V->V->Hp->VK->Prop:=fun x y H Q=>∃i j,x=.int i/\y=.int j/\Q (.int (i+j)) H
theorem Vm:XS X .Add aaI:=by
 rintro pins s σ H x y u v Q I rx ry ⟨i,j,rfl,rfl,q⟩
 obtain⟨t,rfl⟩:=(show ∃t,u=Value.int i t from rx)
 obtain⟨t',rfl⟩:=(show ∃t',v=Value.int j t' from ry)
 exact PyProof.Rows.iadd_int ⟨.int (i+j),H,I.tok _,⟨_,rfl⟩,q⟩
end
structure g8(k:Nat)(A:zd0):Prop where
 hd:A.handled=none
 dp:A.depth+3*k+5<recursionLimit
 un:A.units+16*k+200<cLine
theorem g8.mono{j k:Nat}{A:zd0}(r:g8 k A)(h:j<=k):g8 j A:=⟨r.hd,by have:=r.dp;lia,by have:=r.un;lia⟩
theorem g8.deeper{k:Nat}{A:zd0}(r:g8 (k+1) A)(env:Env):g8 k (A.deeper env):=
 ⟨r.hd,by have:=r.dp;show A.depth+1+3*k+5<_;lia,by have:=r.un;show A.units+3+16*k+200<_;lia⟩
theorem g8.in1{k:Nat}{A:zd0}(r:g8 (k+1) A):g8 k A.in1:=
 ⟨r.hd,by have:=r.dp;show A.depth+3*k+5<_;lia,by have:=r.un;show A.units+1+16*k+200<_;lia⟩
theorem Jn{A:zd0}{C:zdP}{us:List zdQ}{kw:List (Str×zdQ)}:(A.under (.builtin "type.__call__" ⟨.ref C::us,kw⟩)).depth=A.depth+1:=by
 first |rfl |simp[Around.under,Code.weight,Code.isCreation,Code.isGuard,Code.isCaller,Code.frames,Code.isFrame,guardIds]
theorem Jo{A:zd0}{C:zdP}{us:List zdQ}{kw:List (Str×zdQ)}:(A.under (.builtin "type.__call__" ⟨.ref C::us,kw⟩)).units=A.units+1:=by
 first |rfl |simp[Around.under,Code.cUnits,Code.frames,Code.isFrame]
theorem g8.make{k:Nat}{A:zd0}(r:g8 (k+1) A)(C:zdP)(us:List zdQ)(kw:List (Str×zdQ)):g8 k (A.under (.builtin "type.__call__" ⟨.ref C::us,kw⟩)):=
 ⟨r.hd,by have:=r.dp;rw[Jn];lia,by have:=r.un;rw[Jo];lia⟩
theorem g8.depth{k:Nat}{A:zd0}(r:g8 k A):A.depth<recursionLimit:=by have:=r.dp;lia
theorem g8.units{k:Nat}{A:zd0}(r:g8 k A):A.units+64<cLine:=by have:=r.un;lia
def Mr:TA:=fun _ H Q=>Q [] H
def K3 (ta:TE) (tr:TA):TA:=fun σ H Q=>ta σ H fun x H1=>tr σ H1 fun xs H2=>Q (x::xs) H2
section
variable{X:Cx}{e:Expr}{es:List Expr}{te:TE}{t:TA}{pos:Pos}
theorem af:PA X [] Mr:=fun _ _ _ _ H Q I h=>Calls.spliced_nil ⟨[],H,I,.nil,h⟩
theorem ae(ha:PE X e te)(hr:PA X es t)(hs:zdV (e::es) X.env=(false,eval e X.env)::zdV es X.env:=by rfl):PA X (e::es) (K3 te t):=by
 intro pos pins s σ H Q I h;rw[hs];show wpAny _ _ (spliced ((false,eval e X.env)::backTo pos (zdV es X.env))) _ _ s;refine Calls.spliced_cons (fA (ha pins s σ H _ I h) fun u s1 zqz=>?_);obtain⟨x,H1,I1,r1,q1⟩:=zqz;refine fA (hr pos pins s1 σ H1 _ I1 q1) fun us s2 zqz=>?_;obtain⟨xs,H2,I2,r2,q2⟩:=zqz;exact ⟨x::xs,H2,I2,.cons r1 r2,q2⟩
def XT (t:TA):TE:=fun σ H Q=>t σ H fun xs H1=>xs.length<=zdX/\∀p,H1 p=none->Q (.ref p) (upd H1 p (.tup xs))
def XU (t:TA):TE:=fun σ H Q=>t σ H fun xs H1=>xs.length<=zdX/\∀p,H1 p=none->Q (.ref p) (upd H1 p (.lst xs))
theorem cp{x1}(h:PA X es t):PE X (.Tuple es x1 pos) (XT t):=by
 intro pins s σ H Q I hq;refine wpAny_Tuple_spliced (fA (h pos pins s σ H _ I hq) fun us s1 ⟨xs,H1,I1,r,z,q⟩=>⟨by rw[<- r.length];exact z,?_⟩);have hf:H1 s1.heap.objs.size=none:=I1.eC.fresh (zah _);refine⟨.ref s1.heap.objs.size,upd H1 s1.heap.objs.size (.tup xs),I1.laid (t':=s1.toks) (fun b u e=>Heap.get?_push_of_some _ e) (zah _) ?_,rfl,q _ hf⟩;exact⟨z,us,r,⟨_,Heap.get?_push_size _ rfl,rfl,_,rfl⟩⟩
theorem aU(h:PA X es t):PE X (.List es pos) (XU t):=by
 intro pins s σ H Q I hq;refine wpAny_List_spliced (fA (h pos pins s σ H _ I hq) fun us s1 ⟨xs,H1,I1,r,z,q⟩=>⟨by rw[<- r.length];exact z,?_⟩);have hf:H1 s1.heap.objs.size=none:=I1.eC.fresh (zah _);refine⟨.ref s1.heap.objs.size,upd H1 s1.heap.objs.size (.lst xs),I1.laid (t':=s1.toks) (fun b u e=>Heap.get?_push_of_some _ e) (zah _) ?_,rfl,q _ hf⟩;exact⟨z,us,0,r,Heap.get?_push_size _ rfl⟩
end
abbrev Sp:=List V->Hp->VK->XK->Prop
abbrev IZ:=List Env->Hp->zdZ->XK->zdQ->zdZ->Prop
structure CT(P:zd1)(w:zdR)(K:zab)(mg:Str->Option zdQ)(base:Heap)(A:zd0)(outer:List Env)(s:zdZ)(H:Hp):Prop where
 frames:A.frames=some outer
 mod:Mod K mg base
 bs:∀b o,base.get? b=some o->s.heap.get? b=some o/\H b=none
 Jf:base.objs.size<=s.heap.objs.size
 r9:s.heap.FunFrames base outer
 N6:∀b∈gH outer,H b=none
 eC:wu P w H s.heap
 bare:AllBare s.gens
def CE (outer:List Env) (P:zd1) (w:zdR) (H:Hp) (s:zdZ) (Q:VK) (u:zdQ) (s':zdZ):Prop:=
 ∃v H',s'.os=s.os/\AllBare s'.gens/\Un (gH outer) [] H H' s.heap s'.heap/\wu P w H' s'.heap/\RelV v u/\Q v H'
def CR (CX:IZ) (outer:List Env) (P:zd1) (w:zdR) (H:Hp) (s:zdZ) (Q:VK) (E:XK) (r:Result) (s':zdZ):Prop:=
 match r with
 |.ok (.ret u)=>CE outer P w H s Q u s'
 |.ok _=>False
 |.error e=>CX outer H s E e s'
structure bu(P:zd1)(w:zdR)(K:zab)(mg:Str->Option zdQ)(base:Heap)(CX:IZ)(k:Nat)(f:zdP)(fd:zdY)(ps:List Str)(sp:Sp):Prop where
 len:∀vs H Q E,sp vs H Q E->vs.length=ps.length
 run:∀(A:zd0) (outer:List Env) (s:zdZ) (H:Hp) (args:Args) (us:List zdQ) (vs:List V) (Q:VK) (E:XK),g8 k A->CT P w K mg base A outer s H->BindsTo s fd args (ps.zip us)->Vals vs us->sp vs H Q E->
  codeAny (model P w) A (.call (.ref f) args) (CR CX outer P w H s Q E) s
theorem bu.mono{P:zd1}{w:zdR}{K:zab}{mg:Str->Option zdQ}{base:Heap}{CX:IZ}{j k:Nat}{f:zdP}{fd:zdY}{ps:List Str}{sp:Sp}(F:bu P w K mg base CX j f fd ps sp)(h:j<=k) :
 bu P w K mg base CX k f fd ps sp:=⟨F.len,fun A outer s H args us vs Q E hr=>F.run A outer s H args us vs Q E (hr.mono h)⟩
theorem bu.imp{P:zd1}{w:zdR}{K:zab}{mg:Str->Option zdQ}{base:Heap}{CX:IZ}{k:Nat}{f:zdP}{fd:zdY}{ps:List Str}{sp sp':Sp}(F:bu P w K mg base CX k f fd ps sp)
 (h:∀vs H Q E,sp' vs H Q E->sp vs H Q E):bu P w K mg base CX k f fd ps sp':=
 ⟨fun vs H Q E q=>F.len vs H Q E (h _ _ _ _ q),fun A outer s H args us vs Q E hr he hb hv hs=>F.run A outer s H args us vs Q E hr he hb hv (h _ _ _ _ hs)⟩
theorem CT.make{P:zd1}{w:zdR}{K:zab}{mg:Str->Option zdQ}{base:Heap}{A:zd0}{outer:List Env}{s:zdZ}{H:Hp}(e:CT P w K mg base A outer s H)(C:zdP)(us:List zdQ)(kw:List (Str×zdQ)) :
 CT P w K mg base (A.under (.builtin "type.__call__" ⟨.ref C::us,kw⟩)) outer s H:=⟨by first |exact e.frames |(simpa[Around.under,Code.envs,Code.isFrame,pushEnvs] using e.frames),e.mod,e.bs,e.Jf,e.r9,e.N6,e.eC,e.bare⟩
theorem CT.in1{P:zd1}{w:zdR}{K:zab}{mg:Str->Option zdQ}{base:Heap}{A:zd0}{outer:List Env}{s:zdZ}{H:Hp}(e:CT P w K mg base A outer s H) :
 CT P w K mg base A.in1 outer s H:=⟨e.frames,e.mod,e.bs,e.Jf,e.r9,e.N6,e.eC,e.bare⟩
section
variable{X:Cx}{pins:List (zdP×Obj)}{σ:St}{H:Hp}{s s':zdZ}
theorem Inv.Vn(I:Inv X pins σ H s):CT X.prog X.w X.K X.mg X.base X.A X.stack s H:=
 ⟨I.ok.frames,I.ok.mod,I.bs,zay I.ok.Jf I.sz,I.stack,I.z7,I.eC,I.bare⟩
theorem Inv.after{Q:VK}{u:zdQ}(I:Inv X pins σ H s)(h:CE X.stack X.prog X.w H s Q u s'):EP X pins σ Q u s':=by
 obtain⟨v,H',os,bare,un,eC,r,q⟩:=h;obtain⟨hh,g,d,t,os'⟩:=s';obtain rfl:os'=s.os:=os;exact⟨v,H',I.call (h':=hh) (g':=g) (d':=d) (t':=t) (ch:=[]) un eC bare (fun b z=>absurd z (by simp)),r,q⟩
end
def TU (sp:Sp) (z8:List V) (E:XK) (t:TA):TE:=fun σ H Q=>t σ H fun vs H1=>sp (vs++z8) H1 Q E
def OF (C:zdP) (m:Str) (sp:Sp) (z8:List V) (E:XK) (ta:TE) (t:TA):TE:=fun σ H Q=>ta σ H fun x H1=>∃a dx fs,x=.ref a/\H1 a=some (.ins C dx fs)/\fs.lookup m=none/\
 t σ H1 fun vs H2=>sp (x::(vs++z8)) H2 Q E
def K4 (C:zdP) (sp:Sp) (z8:List V) (E:XK) (t:TA):TE:=fun σ H Q=>t σ H fun vs H1=>∀x dx,H1 x=none->H1 dx=none->dx≠x->
 sp (.ref x::(vs++z8)) (upd (upd H1 dx (.own x)) x (.ins C dx [])) (fun v H2=>v=.eB/\Q (.ref x) H2) E
def Binds (K:zab) (fd:zdY) (ps:List Str) (ds:List zdQ):Prop:=
 ∀(s:zdZ) (us:List zdQ),K.In s.heap->(us++ds).length=ps.length->BindsTo s fd ⟨us,[]⟩ (ps.zip (us++ds))
theorem Binds.all{K:zab}{fd:zdY}{ps:List Str}(h:∀us:List zdQ,us.length=ps.length->bindArgs fd ⟨us,[]⟩=pure (ps.zip us)):Binds K fd ps []:=fun s us _ hl=>by
 rw[zaN] at hl ⊢;exact .of_eq (h us hl)
def Passes (CX:IZ) (X:Cx) (E:XK):Prop:=∀(pins:List (zdP×Obj)) (σ:St) (H:Hp) (s:zdZ) (e:zdQ) (s':zdZ),Inv X pins σ H s->CX X.stack H s E e s'->X.xe e s'
section
variable{X:Cx}{CX:IZ}{k:Nat}{f C:zdP}{fd:zdY}{ps:List Str}{sp:Sp}{z8:List V}{ds:List zdQ}{E:XK}{x m:Str}{p pos apos:Pos}{e o:Expr}{es:List Expr}{ta:TE}{t:TA}
theorem OG{pins:List (zdP×Obj)}{σ:St}{H:Hp}{s:zdZ}{Q:VK}{us:List zdQ}{vs:List V}(F:bu X.prog X.w X.K X.mg X.base CX k f fd ps sp)(hr:g8 k X.A)(hb:Binds X.K fd ps ds)(hd:Vals z8 ds)(hx:Passes CX X E)
 (I:Inv X pins σ H s) (r:Vals vs us) (h:sp (vs++z8) H Q E):wpAny (model X.prog X.w) X.A (call (.ref f) us) (EP X pins σ Q) X.xe s:=by
 have r2:Vals (vs++z8) (us++ds):=r.append hd;have hl:(us++ds).length=ps.length:=by rw[<- r2.length];exact F.len _ _ _ _ h
 refine wpAny_call (codeAny_mono (F.run X.A X.stack s H ⟨us,[]⟩ (us++ds) (vs++z8) Q E hr I.Vn (hb s us I.CQ hl) r2 h) fun r s' hq=>?_);cases r with
 |error e=>exact hx pins σ H s e s' I hq
 |ok fl=>
  cases fl with
  |ret u=>exact I.after hq
  |next=>exact False.elim hq
  |brk=>exact False.elim hq
  |cont=>exact False.elim hq
theorem aF(F:bu X.prog X.w X.K X.mg X.base CX k f fd ps sp)(hr:g8 k X.A)(hg:Gl X x)(hm:X.mg x=some (.ref f))(hk:za5 X.K (.ref f)=true)(hb:Binds X.K fd ps ds)(hd:Vals z8 ds)(hx:Passes CX X E)
 (ha:PA X (e::es) t) (Ms:(x==("__debug__":Str))=false:=by decide) (he:zdV (e::es) X.env=(false,eval e X.env)::zdV es X.env:=by rfl) (Gd:(backTo pos (zdV es X.env)).any (·.1)=false:=by rfl) :
 PE X (.Call (.Name x p) (e::es) [] pos) (TU sp z8 E t):=by
 intro pins s σ H Q I h;refine wpAny_Call_Name_kw (qF I hg hm ?_ Ms);refine zcR (h₀:=X.base) I.ok.mod.W4 hk (fA (ha pos pins s σ H _ I h) fun us s1 ⟨vs,H1,I1,r,q⟩=>⟨I1.CQ,?_⟩) he Gd;exact OG F hr hb hd hx I1 r q
theorem eK{pl:Sem Bool}(he:PE X o ta)(c:OE X.K C)(hm:Meth X.K C m f)(F:bu X.prog X.w X.K X.mg X.base CX k f fd ps sp)(hr:g8 k X.A)(hb:Binds X.K fd ps ds)(hd:Vals z8 ds)(hx:Passes CX X E)
 (ht:eval (.Call (.Attribute o m apos) [] [] pos) X.env=(do
  let ov <- eval o X.env
  standAt apos.atName
  let (f,first) <- holding [ov] (getMethod ov m pl)
  callWith pos f first (backTo pos (zdV [] X.env)) (backToKw pos (keywordEach [] X.env))):=by rfl) :
 PE X (.Call (.Attribute o m apos) [] [] pos) (OF C m sp z8 E ta Mr):=by
 intro pins s σ H Q I h;refine PySem.W.methodCall_KW (pl:=pl) (fA (he pins s σ H _ I h) fun u s1 zqz=>?_) ht;obtain⟨x,H1,I1,rx,a,dx,fs,ex,ea,l,q⟩:=zqz;subst ex;obtain rfl:u=Value.ref a:=rx;refine Jm I1 ea c hm l ?_;exact zdE (first:=[.ref a]) I1.CQ hm.kp (OG (us:=[.ref a]) (vs:=[.ref a]) F hr hb hd hx I1 (.cons rfl .nil) q)
structure Mk(K:zab)(C f:zdP):Prop where
 makes:zcw K C=true
 init:zao K (.ref C) "__init__"=some (some (.ref f))
 fn:zbH K (.ref f)=true
 kp:za5 K (.ref C)=true
theorem Gu{pins:List (zdP×Obj)}{σ:St}{H:Hp}{s:zdZ}{Q:VK}{us:List zdQ}{vs:List V}(M:Mk X.K C f)(F:bu X.prog X.w X.K X.mg X.base CX k f fd ps sp)(hr:g8 (k+1) X.A)(hb:Binds X.K fd ps ds)(hd:Vals z8 ds)
 (hx:Passes CX X E) (I:Inv X pins σ H s) (r:Vals vs us)
 (h:∀x dx,H x=none->H dx=none->dx≠x->sp (.ref x::(vs++z8)) (upd (upd H dx (.own x)) x (.ins C dx [])) (fun v H2=>v=.eB/\Q (.ref x) H2) E) :
 wpAny (model X.prog X.w) X.A (call (.ref C) us) (EP X pins σ Q) X.xe s:=by
 have hq:=h (s.heap.objs.size+1) s.heap.objs.size (I.eC.fresh (Nat.le_succ _)) (I.eC.fresh (zah _)) (zaR (zch _));have I2:=Inv.made (C:=C) I;have r2:Vals (V.ref (s.heap.objs.size+1)::(vs++z8)) (Value.ref (s.heap.objs.size+1)::(us++ds)):=.cons rfl (r.append hd);have hl:(Value.ref (s.heap.objs.size+1)::us++ds).length=ps.length:=by
  have e:=r2.length;rw[F.len _ _ _ _ hq] at e;exact e.symm
 refine wpAny_call (OD (f:=f) I.CQ M.makes M.init (beq_iff_eq.mp M.fn) (codeAny_mono (F.run _ X.stack _ _ ⟨Value.ref (s.heap.objs.size+1)::us,[]⟩ (Value.ref (s.heap.objs.size+1)::(us++ds)) _ _ E (hr.make C us [])
  (I2.Vn.make C us []) (hb _ (Value.ref (s.heap.objs.size+1)::us) I2.CQ hl) r2 hq) fun r s' RM=>?_))
 cases r with
 |error e=>exact hx pins σ _ _ e s' I2 RM
 |ok fl=>
  cases fl with
  |ret u=>
   obtain⟨v,H',I3,rv,ev,q3⟩:=I2.after RM;subst ev;exact⟨rv,⟨V.ref (s.heap.objs.size+1),H',I3,rfl,q3⟩⟩
  |next=>exact False.elim RM
  |brk=>exact False.elim RM
  |cont=>exact False.elim RM
theorem R7(M:Mk X.K C f)(F:bu X.prog X.w X.K X.mg X.base CX k f fd ps sp)(hr:g8 (k+1) X.A)(hg:Gl X x)(hm:X.mg x=some (.ref C))(hb:Binds X.K fd ps ds)(hd:Vals z8 ds)(hx:Passes CX X E)
 (ha:PA X (e::es) t) (Ms:(x==("__debug__":Str))=false:=by decide) (he:zdV (e::es) X.env=(false,eval e X.env)::zdV es X.env:=by rfl) (Gd:(backTo pos (zdV es X.env)).any (·.1)=false:=by rfl) :
 PE X (.Call (.Name x p) (e::es) [] pos) (K4 C sp z8 E t):=by
 intro pins s σ H Q I h;refine wpAny_Call_Name_kw (qF I hg hm ?_ Ms);refine zcR (h₀:=X.base) I.ok.mod.W4 M.kp (fA (ha pos pins s σ H _ I h) fun us s1 ⟨vs,H1,I1,r,q⟩=>⟨I1.CQ,?_⟩) he Gd;exact Gu M F hr hb hd hx I1 r q
theorem OH(M:Mk X.K C f)(F:bu X.prog X.w X.K X.mg X.base CX k f fd ps sp)(hr:g8 (k+1) X.A)(hg:Gl X x)(hm:X.mg x=some (.ref C))(hb:Binds X.K fd ps ds)(hd:Vals z8 ds)(hx:Passes CX X E)
 (Ms:(x==("__debug__":Str))=false:=by decide):PE X (.Call (.Name x p) [] [] pos) (K4 C sp z8 E Mr):=by
 intro pins s σ H Q I h;refine wpAny_Call_Name_kw (qF I hg hm ?_ Ms);exact zdE I.CQ M.kp (Gu (us:=[]) M F hr hb hd hx I .nil h)
end
structure aY(N P:List Str)(sc:Scope):Prop where
 kind:sc.kind=.function
 co:sc.isCoroutine=false
 gen:sc.isGenerator=false
 nd:N.Nodup
 pre:N.take P.length=P
 par:∀x∈P,sc.names.lookup x=some .local\/sc.names.lookup x=some .cell
 Vo:∀y∈sc.names,y.2≠.free
theorem DY{kindOf:Str->Option NameKind}{x:Str}:∀ {binds:List (Str×zdQ)} {m:Str->Option zdQ},(∀v,(x,v) ∉ binds)->bindL kindOf binds m x=m x
 |[],_,_=>rfl
 |(n,v)::r,m,h=>by
  unfold bindL;rw[DY fun w hw=>h w (zak _ hw)];split
  ·have:x≠n:=by rintro rfl;exact h v zap
   simp[this]
  ·rfl
theorem DZ{kindOf:Str->Option NameKind}{x:Str}:∀ {binds:List (Str×zdQ)} {m:Str->Option zdQ},(∀v,(x,v) ∉ binds)->bindC kindOf binds m x=m x
 |[],_,_=>rfl
 |(n,v)::r,m,h=>by
  unfold bindC;rw[DZ fun w hw=>h w (zak _ hw)];split
  ·rfl
  ·have:x≠n:=by rintro rfl;exact h v zap
   simp[this]
theorem D0{kindOf:Str->Option NameKind}{x:Str}{v:zdQ}:∀ {P:List Str} {vs:List zdQ} {i:Nat} {m:Str->Option zdQ},P.Nodup->P[i]?=some x->vs[i]?=some v->kindOf x=some .local->
 bindL kindOf (P.zip vs) m x=some v
 |[],_,_,_,_,h,_,_=>by simp at h
 |_::_,[],_,_,_,_,h,_=>by simp at h
 |p::P,w::vs,0,m,nd,h1,h2,hk=>by
  simp at h1 h2;subst h1;subst h2;show bindL kindOf ((p,w)::P.zip vs) m p=_;unfold bindL;rw[DY fun v hv=>(zbh.mp nd).1 (zdg hv).1,if_pos hk];simp
 |p::P,w::vs,i+1,m,nd,h1,h2,hk=>by
  show bindL kindOf ((p,w)::P.zip vs) m x=_;unfold bindL;exact D0 (i:=i) (zbh.mp nd).2 (by simpa using h1) (by simpa using h2) hk
theorem D3{kindOf:Str->Option NameKind}{x:Str}{v:zdQ}:∀ {P:List Str} {vs:List zdQ} {i:Nat} {m:Str->Option zdQ},P.Nodup->P[i]?=some x->vs[i]?=some v->kindOf x≠some .local->
 bindC kindOf (P.zip vs) m x=some v
 |[],_,_,_,_,h,_,_=>by simp at h
 |_::_,[],_,_,_,_,h,_=>by simp at h
 |p::P,w::vs,0,m,nd,h1,h2,hk=>by
  simp at h1 h2;subst h1;subst h2;show bindC kindOf ((p,w)::P.zip vs) m p=_;unfold bindC;rw[DZ fun v hv=>(zbh.mp nd).1 (zdg hv).1,if_neg hk];simp
 |p::P,w::vs,i+1,m,nd,h1,h2,hk=>by
  show bindC kindOf ((p,w)::P.zip vs) m x=_;unfold bindC;exact D3 (i:=i) (zbh.mp nd).2 (by simpa using h1) (by simpa using h2) hk
def start (N:List Str) (vs:List V):St:=vs.map some++zax (N.length-vs.length) none
def lU (CX:IZ) (P:zd1) (w:zdR) (K:zab) (mg:Str->Option zdQ) (base:Heap) (N:List Str) (qual:Str) (scope:Scope) (f:zdP) (cd:zdQ) (A:zd0) (outer:List Env) (s:zdZ) (H:Hp) (E:XK):Cx where
 prog:=P
 w:=w
 K:=K
 mg:=mg
 base:=base
 A:=A.deeper (envOfC qual scope s.heap.objs.size f cd)
 N:=N
 s₀:=s
 H₀:=H
 env:=envOfC qual scope s.heap.objs.size f cd
 outer:=outer
 stack:=envOfC qual scope s.heap.objs.size f cd::outer
 ex:=[]
 calm:=true
 fn:=fun _=>true
 pn:=[]
 xe:=fun e s'=>wpAny (model P w) (A.deeper (envOfC qual scope s.heap.objs.size f cd)) (leaving (envOfC qual scope s.heap.objs.size f cd) e) (fun _ Gv=>CX outer H s E e Gv) (fun e' Gv=>CX outer H s E e' Gv) s'
theorem Gw{sc:Scope}{n:Nat}{x:Str}(h:sc.names.lookup x=some .cell):∃c,(cellsFrom n sc.names []).lookup x=some c:=by
 have q:=zdn sc.names n [] (.inl h);exact zc3.mp q
theorem Mu{CX:IZ}{P:zd1}{w:zdR}{K:zab}{mg:Str->Option zdQ}{base:Heap}{N ps:List Str}{qual:Str}{scope:Scope}{f:zdP}{cd:zdQ}{A:zd0}{outer:List Env}{s s1:zdZ}{H:Hp}{E:XK}{us:List zdQ}{vs:List V}
 (S:aY N ps scope) (hd:A.handled=none) (e0:CT P w K mg base A outer s H) (hl:vs.length=ps.length) (r:Vals vs us)
 (x:InCallC s s.heap.objs.size (bindL (envOfC qual scope s.heap.objs.size f cd).kindOf (ps.zip us) fun _=>none) (cellsFrom (s.heap.objs.size+1) scope.names []) (bindC (envOfC qual scope s.heap.objs.size f cd).kindOf (ps.zip us) fun _=>none) s1) :
 Inv (lU CX P w K mg base N qual scope f cd A outer s H E) [] (start N vs) H s1:=by
 have Gd:ps.length<=N.length:=by have:=congrArg zbs S.pre;rw[zaB] at this;lia
 obtain⟨h1,tk,rfl,hk⟩:=x.done;have XW:∀b:zdP,b ∉ (lU CX P w K mg base N qual scope f cd A outer s H E).ex:=fun b z=>absurd (show b∈([]:List zdP) from z) (by simp);refine⟨⟨e0.mod,S.kind,rfl,rfl,zah _,fun y z c h1 h2=>?_,fun y hy=>?_,fun y c _ h=>?_,fun _=>hd,Around.frames_deeper e0.frames,.inr ⟨rfl,rfl⟩,fun b z=>absurd z (XW b),e0.bs,e0.Jf,fun b _ _=>XW b,fun b z=>absurd z (XW b),e0.r9,e0.N6⟩,
  rfl,e0.bare,Un.kept hk,⟨_,x.toInCall.ns,fun i y v h1 h2 h3=>?_⟩,fun y c h=>⟨_,x.cell y c h⟩,e0.eC.fresh (zah _),fun y c h=>?_,fun p hp=>absurd (show p∈([]:List (zdP×Obj)) from hp) (by simp),e0.eC.kept hk,?_⟩
 ·exact name_of_addr x.apart (PySem.mem_of_lookup h1) (PySem.mem_of_lookup h2)
 ·have hy:scope.names.lookup y=some .cell\/scope.names.lookup y=some .free:=hy;rcases hy with hy |hy
  ·exact Gw hy
  ·exact absurd rfl (S.Vo _ (PySem.mem_of_lookup hy))
 ·exact zc1 (x.above y c (PySem.mem_of_lookup h))
 ·have hi:i<vs.length:=by
   unfold start at h2;by_cases hi:i<vs.length
   ·exact hi
   ·rw[zbm (by simpa using hi)] at h2;rw[zda] at h2;split at h2<;>cases h2
  have ha:vs[i]?=some v:=by
   unfold start at h2;rw[zbq (by simpa using hi),zaE] at h2;cases e:vs[i]? with
   |none=>rw[e] at h2;cases h2
   |some a=>rw[e] at h2;cases h2;rfl
  obtain⟨u,hu,rv⟩:=r.get ha;have hp:ps[i]?=some y:=by
   rw[<- S.pre,List.getElem?_take_of_lt (by lia)];exact h1
  have ndP:ps.Nodup:=by rw[<- S.pre];exact S.nd.sublist (List.take_sublist _ _)
  refine⟨u,rv,?_⟩;rcases S.par y (zbj hp) with k |k
  ·exact .inl ⟨k,D0 ndP hp hu k⟩
  ·obtain⟨c,e⟩:=Gw (n:=s.heap.objs.size+1) k;refine .inr ⟨.inl k,c,e,?_⟩;have q:=x.cell y c e;rw[D3 ndP hp hu (by show scope.names.lookup y≠_;rw[k];decide)] at q;exact q
 ·exact e0.eC.fresh (zc1 (x.above y c (PySem.mem_of_lookup h)))
 ·unfold start;show _=N.length;rw[zae,zaj,zbA];lia
theorem TV{CX:IZ}{P:zd1}{w:zdR}{K:zab}{mg:Str->Option zdQ}{base:Heap}{k:Nat}{f:zdP}{name qual:Str}{params:Arguments}{body:List Stmt}{scope:Scope}{dV kV doc pm d0 ct oc:zdQ}{an od:Option zdP}
 {OI:Array (Option zdQ)} {N ps:List Str} {sp:Sp} (lk:K.lookup f=some ⟨oc,od,.func (zaV name qual params body scope dV kV doc pm an d0 ct),OI⟩) (Mg:zbo K d0 qual=true) (S:aY N ps scope)
 (len:∀vs H Q E,sp vs H Q E->vs.length=ps.length)
 (AF:∀(A:zd0) (outer:List Env) (s:zdZ) (H:Hp) (vs:List V) (Q:VK) (E:XK),g8 k (A.deeper (envOfC qual scope s.heap.objs.size f d0))->sp vs H Q E->
  ∃t,IX (lU CX P w K mg base N qual scope f d0 A outer s H E) body t/\t {nx:=fun _ H'=>Q .eB H',rt:=Q} (start N vs) H) :
 bu P w K mg base CX (k+1) f (zaV name qual params body scope dV kV doc pm an d0 ct) ps sp:=by
 refine⟨len,fun A outer s H args us vs Q E hr e0 hb r Mv=>?_⟩;have hl:=len _ _ _ _ Mv;have KX:K.In s.heap:=e0.mod.W4.keeps fun b o e=>(e0.bs b o e).1;have lim:s.heap.NoLimit:=e0.mod.nolimit.keeps fun b o e=>(e0.bs b o e).1;have XX:∀y∈ps.zip us,scope.names.lookup y.1=some .local\/(scope.names.lookup y.1=some .cell/\((cellsFrom (s.heap.objs.size+1) scope.names []).lookup y.1).isSome=true):=fun ⟨n,v⟩ hy=>by
  rcases S.par n (zdg hy).1 with q |q
  ·exact .inl q
  ·exact .inr ⟨q,zdn _ _ _ (.inl q)⟩
 refine codeAny_call_function hr.depth (KX _ _ lk) rfl S.co S.gen rfl (PySem.W.codeRec_of KX Mg) (hb _ _ _ _ ?_);refine wpAny_newFunctionEnv_cells S.kind XX fun env he s1 x=>?_;subst he;refine⟨lim.keeps x.toInCall.keep,codeAny_func ?_⟩;obtain⟨t,ht,hq⟩:=AF A outer s H vs Q E (hr.deeper _) Mv;have I:Inv (lU CX P w K mg base N qual scope f d0 A outer s H E) [] (start N vs) H s1:=Mu S hr.hd e0 hl r x;refine wpAny_mono (ht [] s1 (start N vs) H _ I hq) (fun fl s' hs=>?_) fun e s' hs=>hs;have fin:∀ {σ':St} {H':Hp} {v:V} {u:zdQ},Inv (lU CX P w K mg base N qual scope f d0 A outer s H E) [] σ' H' s'->RelV v u->Q v H'->CE outer P w H s Q u s':=
  fun {σ' H' v u} J rv q=>⟨v,H',J.os,J.bare,J.base,J.eC,rv,q⟩
 cases fl with
 |ret u=>
  obtain⟨v,σ',H',J,rv,q⟩:=hs;exact fin J rv q
 |next=>
  obtain⟨σ',H',J,q⟩:=hs;exact fin (v:=V.eB) (u:=Value.none) J rfl q
 |brk=>
  obtain⟨_,_,_,q⟩:=hs;exact False.elim q
 |cont=>
  obtain⟨_,_,_,q⟩:=hs;exact False.elim q
section
variable{X:Cx}{x:Str}{p pos:Pos}{e:Expr}{es:List Expr}{t:TA}{id T:String}{r:List V->Hp->VK->Prop}
def tCB (r:List V->Hp->VK->Prop) (t:TA):TE:=fun σ H Q=>t σ H fun vs H1=>r vs H1 Q
theorem bb(hc:jW X (.builtin id) r)(hg:Gl X x)(hm:X.mg x=none)(hv:bootBuiltins x=some (.builtin id))(ha:PA X (e::es) t)(hn:x≠"__name__":=by decide)(Ms:(x==("__debug__":Str))=false:=by decide)
 (he:zdV (e::es) X.env=(false,eval e X.env)::zdV es X.env:=by rfl) (Gd:(backTo pos (zdV es X.env)).any (·.1)=false:=by rfl):PE X (.Call (.Name x p) (e::es) [] pos) (tCB r t):=by
 intro pins s σ H Q I h;refine wpAny_Call_Name_kw (Ao I hg hm hv ?_ hn Ms);refine PyProof.Rows.callWith_builtin1 (fA (ha pos pins s σ H _ I h) fun us s1 zqz=>?_) he Gd;obtain⟨vs,H1,I1,r1,q1⟩:=zqz;exact hc pins s1 σ H1 vs us Q I1 r1 q1
theorem gJ(hc:jW X (.type T) r)(hg:Gl X x)(hm:X.mg x=none)(hv:bootBuiltins x=some (.type T))(ha:PA X (e::es) t)(hn:x≠"__name__":=by decide)(Ms:(x==("__debug__":Str))=false:=by decide)
 (he:zdV (e::es) X.env=(false,eval e X.env)::zdV es X.env:=by rfl) (Gd:(backTo pos (zdV es X.env)).any (·.1)=false:=by rfl):PE X (.Call (.Name x p) (e::es) [] pos) (tCB r t):=by
 intro pins s σ H Q I h;refine wpAny_Call_Name_kw (Ao I hg hm hv ?_ hn Ms);refine zcQ (fA (ha pos pins s σ H _ I h) fun us s1 zqz=>?_) he Gd;obtain⟨vs,H1,I1,r1,q1⟩:=zqz;exact hc pins s1 σ H1 vs us Q I1 r1 q1
end
end L2
namespace HT
open PySem PyProof.Rows
section
variable{prog:zd1}{w:zdR}{A:zd0}{E:zdQ->zdZ->Prop}{s:zdZ}
theorem R8{t b:zdP}{vs ws:List zdQ}{Q:zdQ->zdZ->Prop}(ht:IsTup s.heap t vs.toArray)(hb:IsTup s.heap b ws.toArray)(hv:vs≠[])
 (h1:ws=[]->Q (.ref t) s) (h2:ws≠[]->Q (.ref s.heap.objs.size) {s with heap:=s.heap.push {cls:=.type "tuple",data:=.seq (vs++ws).toArray} })
 (XQ:vs.length+ws.length<=zdX):wpAny (model prog w) A (binaryOp .Add (.ref t) (.ref b)) Q E s:=by
 obtain⟨⟨cls,dd,data,sl⟩,ho,hc,n,hd⟩:=id ht;obtain⟨⟨ael,ZP,data2,sl2⟩,W9,Xa,n2,hd2⟩:=id hb;simp only at hc hd Xa hd2;subst hc hd Xa hd2;have e:vs.toArray++ws.toArray=(vs++ws).toArray:=by simp
 by_cases hw:ws=[]
 ·exact concat_meets ⟨_,ho,rfl⟩ ⟨_,W9,rfl⟩ noFill_tuple_add seq_tuple_add zdo zdf (zc9 _ _)
   (tuple_addW1 t b vs.toArray ws.toArray n n2 dd ZP sl sl2 (by simpa using hv) (by simp[hw])) ⟨ho,W9,h1 hw⟩
 ·refine concat_meets ⟨_,ho,rfl⟩ ⟨_,W9,rfl⟩ noFill_tuple_add seq_tuple_add zdo zdf (zc9 _ _)
   (tuple_addW2 t b vs.toArray ws.toArray n n2 dd ZP sl sl2 (by simpa using hv) (by simpa using hw) (by rw[zau,zau];exact XQ)) ⟨ho,W9,?_⟩
  rw[e];exact h2 hw
def f9 (n d:Nat):Option Int->Nat
 |none=>d
 |some v=>if v<0 then (v+(n:Int)).toNat else min v.toNat n
theorem Gx(n d:Nat):f9 n d none=d:=rfl
theorem qK(n d k:Nat):f9 n d (some (k:Int))=min k n:=by
 show (if (k:Int)<0 then ((k:Int)+(n:Int)).toNat else min (k:Int).toNat n)=min k n;rw[if_neg (by lia),zbP]
theorem EO(n d:Nat)(hd:d<=n)(o:Option Int):f9 n d o<=n:=by
 cases o with
 |none=>exact hd
 |some v=>
  show (if v<0 then (v+(n:Int)).toNat else min v.toNat n)<=n;by_cases hv:v<0
  ·rw[if_pos hv];lia
  ·rw[if_neg hv];exact Nat.min_le_right _ _
theorem K5(v:Int)(n d:Nat):(if v<0 then max (v+(n:Int)) 0 else min v (n:Int))=((f9 n d (some v):Nat):Int):=by
 show (if v<0 then max (v+(n:Int)) 0 else min v (n:Int))=(((if v<0 then (v+(n:Int)).toNat else min v.toNat n):Nat):Int);by_cases hv:v<0
 ·simp only[if_pos hv];lia
 ·simp only[if_neg hv];lia
theorem Jp(lo hi:Option Int)(n:Nat):Builtin.Slice.sliceAdjust lo hi 1 (n:Int)=(((f9 n 0 lo:Nat):Int),((f9 n n hi:Nat):Int)):=by
 have h1:¬((1:Int)<0):=by lia
 unfold Builtin.Slice.sliceAdjust;simp only[h1,if_false];refine Prod.ext ?_ ?_
 ·cases lo with
  |none=>rfl
  |some v=>exact K5 v n 0
 ·cases hi with
  |none=>rfl
  |some v=>exact K5 v n n
theorem Jq(i j:Nat):Builtin.Slice.slicePlaces (i:Int) (j:Int) 1=j-i:=by
 unfold Builtin.Slice.slicePlaces;have h1:(1:Int)>0:=by lia
 simp only[h1,if_true,Int.ediv_one];split<;>lia
theorem AG{v:zdQ}{o:Option Int}{Q:Option Int->zdZ->Prop}(p:IsPart v o)(h:Q o s):wpAny (model prog w) A (Builtin.Slice.slicePartIndex v) Q E s:=by
 cases p with
 |none=>exact slicePart_none h
 |int i t=>exact slicePart_int h
theorem xP{sl:zdP}{vl vu:zdQ}{lo hi:Option Int}{n:Nat}{Q:Int×Int×Nat->zdZ->Prop}(hs:s.heap.IsSliceOf sl vl vu .none)(pl:IsPart vl lo)(pu:IsPart vu hi)
 (h:Q (((f9 n 0 lo:Nat):Int),1,f9 n n hi-f9 n 0 lo) s):wpAny (model prog w) A (Builtin.Slice.sliceApplied (.ref sl) (pure (n:Int))) Q E s:=by
 obtain⟨os,XY,hcs,ZQ⟩:=id hs;unfold Builtin.Slice.sliceApplied Builtin.Slice.sliceFields;refine zdS (zdS (wpAny_field XY ZQ (x:=vl) rfl (zdS (wpAny_field XY ZQ (x:=vu) rfl (zdS (wpAny_field XY ZQ (x:=.none) rfl (zdT ?_)))))));refine zdS (slicePart_none ?_);show wpAny _ _ (if ((1:Int)==0)=true then _ else _) _ _ s;rw[if_neg (by decide)];refine zdS (AG pl (zdS (AG pu (zdS (zdT ?_)))));show wpAny _ _ (match Builtin.Slice.sliceAdjust lo hi 1 (n:Int) with |(lo,hi)=>pure (lo,(1:Int),Builtin.Slice.slicePlaces lo hi 1)) _ _ s;rw[Jp lo hi n];show wpAny _ _ (pure (((f9 n 0 lo:Nat):Int),(1:Int),Builtin.Slice.slicePlaces ((f9 n 0 lo:Nat):Int) ((f9 n n hi:Nat):Int) 1)) _ _ s;rw[Jq];exact zdT h
theorem OJ(xs:Array zdQ)(i k:Nat):((zaA k).filterMap fun (m:Nat)=>xs[((i:Int)+(m:Int)*1).toNat]?).toArray=((xs.toList.drop i).take k).toArray:=by
 have e:(fun (m:Nat)=>xs[((i:Int)+(m:Int)*1).toNat]?)=fun m=>xs[i+m]?:=by
  funext m
  have:((i:Int)+(m:Int)*1).toNat=i+m:=by lia
  rw[this]
 rw[e];have:=pick_run xs i k;rw[List.filterMap_map] at this;have e2:((fun x=>xs[x]?) ∘ fun x=>i+x)=fun m=>xs[i+m]?:=rfl;rw[e2] at this;rw[this]
theorem wC{t sl:zdP}{items:Array zdQ}{vl vu:zdQ}{lo hi:Option Int}{Q:zdQ->zdZ->Prop}(ht:IsTup s.heap t items)(hs:s.heap.IsSliceOf sl vl vu .none)(pl:IsPart vl lo)(pu:IsPart vu hi)
 (hw:¬(f9 items.size 0 lo=0/\f9 items.size items.size hi=items.size))
 (h:Q (.ref s.heap.objs.size) {s with heap:=s.heap.push {cls:=.type "tuple",data:=.seq ((items.toList.drop (f9 items.size 0 lo)).take (f9 items.size items.size hi-f9 items.size 0 lo)).toArray} })
 (XQ:items.size<=zdX):wpAny (model prog w) A (getItem (.ref t) (.ref sl)) Q E s:=by
 have K6:sizeOk (.seq ((items.toList.drop (f9 items.size 0 lo)).take (f9 items.size items.size hi-f9 items.size 0 lo)).toArray):=by
  show ((items.toList.drop (f9 items.size 0 lo)).take (f9 items.size items.size hi-f9 items.size 0 lo)).toArray.size<=zdX;rw[zau,zaB,zaQ,zbX];lia
 have hj:f9 items.size items.size hi<=items.size:=EO _ _ (zah _) hi;obtain⟨os,XY,hcs,ZQ⟩:=id hs;have hTs:s.TypeIs (.ref sl) "slice":=⟨os,XY,hcs⟩
 unfold getItem
 try with_reducible refine zdU ?_
 first |refine zdS (zdT ?_) |skip
 refine zdS (wpAny_sequenceKey ht.typeIs (by decide) ?_);refine zdS (wpAny_callSpecial?_slot (name:=zac "__getitem__") ht.typeIs zcn
  (wpAny_call_entry zcn ht.typeIs entry_tuple_getitem ?_ (args_tuple_getitem _ _)))
 show wpAny _ _ (Builtin.Tuple.tupleItemsOf (.ref t) >>= _) _ _ s;refine zdS (tupleItemsOf_ ht ?_);refine zdS (wpAny_typeOf hTs ?_);rw[if_pos (by decide)];refine zdS (xP hs pl pu ?_);have hno:¬((((f9 items.size 0 lo:Nat):Int)==0&&(1:Int)==1&&(f9 items.size items.size hi-f9 items.size 0 lo)==items.size)=true):=by
  intro q;rw[zaD,zaD] at q;have q1:((f9 items.size 0 lo:Nat):Int)=0:=eq_of_beq q.1.1;have q2:f9 items.size items.size hi-f9 items.size 0 lo=items.size:=eq_of_beq q.2;exact hw ⟨by lia,by lia⟩
 show wpAny _ _ (if (((f9 items.size 0 lo:Nat):Int)==0&&(1:Int)==1&&(f9 items.size items.size hi-f9 items.size 0 lo)==items.size)=true then _ else _) _ _ s;rw[if_neg hno,OJ]
 first
  |exact zdS (m:=Builtin.Tuple.tupleExact _) (wpAny_newObj_type (zdT ⟨_,rfl,zdT h⟩) K6)
  |exact zdS (m:=Builtin.Tuple.tupleExact _) (wpAny_newObj_type (zdS (zdT (zdT ⟨_,rfl,zdT h⟩))) K6)
  |exact zdS (zdS (m:=Builtin.Tuple.tupleExact _) (wpAny_newObj_type (zdT (zdT ⟨_,rfl,zdT h⟩)) K6))
  |exact zdS (zdS (m:=Builtin.Tuple.tupleExact _) (wpAny_newObj_type (zdT ⟨_,rfl,zdT h⟩) K6))
end
end HT
namespace L2
open PySem PySem.Spec PyProof.Rows
abbrev TO:=St->Hp->(Option Int->Hp->Prop)->Prop
def PO (X:Cx) (e:Option Expr) (t:TO):Prop:=
 ∀(pins:List (zdP×Obj)) (s:zdZ) (σ:St) (H:Hp) (Q:Option Int->Hp->Prop),Inv X pins σ H s->t σ H Q->
  wpAny (model X.prog X.w) X.A (evalPart e X.env) (fun u s'=>∃o H',Inv X pins σ H' s'/\IsPart u o/\Q o H') X.xe s
def ER:TO:=fun _ H Q=>Q none H
def OK (t:TE):TO:=fun σ H Q=>t σ H fun x H1=>∃i,x=.int i/\Q (some i) H1
section
variable{X:Cx}{e:Expr}{te:TE}{lo hi:Option Expr}{tl th:TO}{pos p2:Pos}
theorem fQ:PO X none ER:=by
 intro pins s σ H Q I h;rw[evalPart_none];exact zdT ⟨none,H,I,.none,h⟩
theorem fS(h:PE X e te):PO X (some e) (OK te):=by
 intro pins s σ H Q I hw;rw[evalPart_some];refine fA (h pins s σ H _ I hw) fun u s1 zqz=>?_;obtain⟨x,H1,I1,r1,q1⟩:=zqz;obtain⟨i,rfl,q⟩:=q1;obtain⟨t,rfl⟩:=r1;exact⟨some i,H1,I1,.int i t,q⟩
def TX (X:Cx) (r:V->Option Int->Option Int->Hp->VK->Prop):Prop:=
 ∀(pins:List (zdP×Obj)) (s:zdZ) (σ:St) (H:Hp) (x:V) (v vl vu:zdQ) (lo hi:Option Int) (sl:zdP) (Q:VK),Inv X pins σ H s->RelV x v->s.heap.IsSliceOf sl vl vu .none->IsPart vl lo->IsPart vu hi->r x lo hi H Q->
  ∃T id,typeLookup (.type T) "__getitem__"=pure (some (.builtin id))/\s.TypeIs v T/\wpAny (model X.prog X.w) X.A (getItem v (.ref sl)) (EP X pins σ Q) X.xe s
theorem TX.or{r r':V->Option Int->Option Int->Hp->VK->Prop}(h:TX X r)(h':TX X r'):TX X (fun x lo hi H Q=>r x lo hi H Q\/r' x lo hi H Q):=by
 intro pins s σ H x v vl vu lo hi sl Q I rx hs pl pu q;rcases q with q |q
 ·exact h pins s σ H x v vl vu lo hi sl Q I rx hs pl pu q
 ·exact h' pins s σ H x v vl vu lo hi sl Q I rx hs pl pu q
def tSl (r:V->Option Int->Option Int->Hp->VK->Prop) (te:TE) (tl th:TO):TE:=fun σ H Q=>te σ H fun x H1=>tl σ H1 fun l H2=>th σ H2 fun u H3=>r x l u H3 Q
theorem d4{r:V->Option Int->Option Int->Hp->VK->Prop}(hr:TX X r)(he:PE X e te)(hl:PO X lo tl)(hu:PO X hi th):PE X (.Subscript e (.Slice lo hi none p2) pos) (tSl r te tl th):=by
 intro pins s σ H Q I h;refine Subscript_ (fA (he pins s σ H _ I h) fun v s1 zqz=>?_);obtain⟨x,H1,I1,r1,q1⟩:=zqz;refine wpAny_Slice (fA (hl pins s1 σ H1 _ I1 q1) fun vl s2 zqz=>?_);obtain⟨l,H2,I2,pl,q2⟩:=zqz;refine fA (hu pins s2 σ H2 _ I2 q2) fun vu s3 zqz=>?_;obtain⟨u,H3,I3,pu,q3⟩:=zqz;rw[evalPart_none];refine zdT ?_;have I4:Inv X pins σ H3 {s3 with heap:=s3.heap.push {cls:=.type "slice",data:=.fields #[vl,vu,.none]} }:=I3.kept (t':=s3.toks) fun b ob q=>Heap.get?_push_of_some _ q;obtain⟨T,id,hT,ht,hg⟩:=hr pins {s3 with heap:=s3.heap.push {cls:=.type "slice",data:=.fields #[vl,vu,.none]} } σ H3 x v vl vu l u s3.heap.objs.size Q I4 r1 (Heap.IsSliceOf.new ..) pl pu q3;show wpAny (model X.prog X.w) X.A (subscriptTail e (.Slice lo hi none p2) v (.ref s3.heap.objs.size)) (EP X pins σ Q) X.xe {s3 with heap:=s3.heap.push {cls:=.type "slice",data:=.fields #[vl,vu,.none]} };exact tail_any (ops:=[.ref s3.heap.objs.size,v]) ht hT hg (by with_unfolding_all rfl)
def AH (xs:List V) (lo hi:Option Int):List V:=(xs.drop (HT.f9 xs.length 0 lo)).take (HT.f9 xs.length xs.length hi-HT.f9 xs.length 0 lo)
theorem yW(xs:List V)(lo hi:Option Int):(AH xs lo hi).length<=xs.length:=by
 unfold AH;rw[zaB,zaQ];lia
def XZ (K:zab):V->Option Int->Option Int->Hp->VK->Prop:=fun x lo hi H Q=>∃a xs,x=.ref a/\dF K H a xs/\
 ¬(HT.f9 xs.length 0 lo=0/\HT.f9 xs.length xs.length hi=xs.length)/\∀p,H p=none->Q (.ref p) (upd H p (.tup (AH xs lo hi)))
theorem Jr:TX X (XZ X.K):=by
 intro pins s σ H x v vl vu lo hi sl Q I rx hs pl pu h;obtain⟨a,xs,rfl,hx,hw,q⟩:=h;cases rx;obtain⟨bp,r,ht,hz⟩:=I.tuple hx;have hlen:bp.toArray.size=xs.length:=by rw[zau];exact r.length.symm
 refine⟨"tuple",_,zcn.lookup,ht.typeIs,?_⟩;refine HT.wC ht hs pl pu (by rw[hlen];exact hw) ?_ (by rw[hlen];exact hz);rw[hlen];refine⟨.ref s.heap.objs.size,_,I.laid (t':=s.toks) (o:=.tup (AH xs lo hi)) (fun b ob q=>Heap.get?_push_of_some _ q) (zah _) ?_,rfl,q _ (I.eC.fresh (zah _))⟩;exact⟨zay (yW xs lo hi) hz,_,(r.drop (HT.f9 xs.length 0 lo)).take (HT.f9 xs.length xs.length hi-HT.f9 xs.length 0 lo),IsTup.new _ _⟩
def TY (K:zab):R2:=fun x y H Q=>∃a b xs ys,x=.ref a/\y=.ref b/\dF K H a xs/\dF K H b ys/\xs≠[]/\xs.length+ys.length<=zdX/\
 (ys=[]->Q (.ref a) H)/\(ys≠[]->∀p,H p=none->Q (.ref p) (upd H p (.tup (xs++ys))))
theorem Vals.bE{xs:List V}{us:List zdQ}(r:Vals xs us):us=[]↔xs=[]:=by
 cases r with
 |nil=>simp
 |cons _ _=>simp
theorem K7:rF X (binaryOp .Add) (TY X.K):=by
 intro pins s σ H x y v u Q I rx ry h;obtain⟨a,b,xs,ys,rfl,rfl,ha,hb,hx,hz,q1,q2⟩:=h;cases rx;cases ry;obtain⟨bp,r1,p1,_⟩:=I.tuple ha;obtain⟨Vp,r2,p2,_⟩:=I.tuple hb;refine HT.R8 p1 p2 (fun z=>hx (r1.bE.mp z)) (fun z=>⟨.ref a,H,I,rfl,q1 (r2.bE.mp z)⟩) (fun z=>?_) (by rw[<- r1.length,<- r2.length];exact hz);refine⟨.ref s.heap.objs.size,_,I.laid (t':=s.toks) (o:=.tup (xs++ys)) (fun b ob q=>Heap.get?_push_of_some _ q) (zah _) ?_,rfl,q2 (fun w=>z (r2.bE.mpr w)) _ (I.eC.fresh (zah _))⟩;exact⟨by rw[zae];exact hz,_,r1.append r2,IsTup.new _ _⟩
end
def Mw (n:Nat) (i:Int):Option Nat:=if 0<=i then (if i<n then some i.toNat else none) else if -(n:Int)<=i then some (i+n).toNat else none
def D4 {α:Type} (xs:List α) (i:Int):Option α:=(Mw xs.length i).bind fun j=>xs[j]?
theorem K8{n:Nat}{i:Int}{j:Nat}(h:Mw n i=some j):seqIndex? i n=some j/\j<n/\-(n:Int)<=i/\i<n:=by
 unfold Mw at h;by_cases h0:0<=i
 ·rw[if_pos h0] at h;by_cases h1:i<n
  ·rw[if_pos h1] at h;have e:i.toNat=j:=zaG.inj h;exact⟨by rw[seqIndex_of h0 h1,e],by lia,by lia,h1⟩
  ·rw[if_neg h1] at h;cases h
 ·rw[if_neg h0] at h;by_cases h1 : -(n:Int)<=i
  ·rw[if_pos h1] at h;have e:(i+n).toNat=j:=zaG.inj h;exact⟨by rw[seqIndex_neg (by lia) h1,e],by lia,h1,by lia⟩
  ·rw[if_neg h1] at h;cases h
theorem ES{α:Type}{xs:List α}{i:Int}{v:α}(h:D4 xs i=some v):∃j,seqIndex? i xs.length=some j/\xs[j]?=some v/\j<xs.length/\-(xs.length:Int)<=i/\i<xs.length:=by
 unfold D4 at h;cases e:Mw xs.length i with
 |none=>rw[e] at h;cases h
 |some j=>
  rw[e] at h;obtain⟨h1,h2,h3,h4⟩:=K8 e;exact⟨j,h1,h,h2,h3,h4⟩
theorem bf{α:Type}{xs:List α}{j:Nat}{v:α}(h:xs[j]?=some v):D4 xs (j:Int)=some v:=by
 have hj:j<xs.length:=(zar.mp h).1;have e:Mw xs.length (j:Int)=some j:=by
  unfold Mw;rw[if_pos (by lia),if_pos (by lia)];simp
 unfold D4;rw[e];exact h
theorem AI{α:Type}(xs:List α)(v:α):D4 (xs++[v]) (-1)=some v:=by
 have hl:(xs++[v]).length=xs.length+1:=by simp
 have e:Mw (xs++[v]).length (-1)=some xs.length:=by
  unfold Mw;rw[hl,if_neg (by decide),if_pos (by lia)]
  congr 1
  lia
 unfold D4;rw[e];show (xs++[v])[xs.length]?=some v;simp
def uw (b:Expr):Prop:=∀o i,subscripted b false o i=operate [o,i] (getItem o i)
def R9 (X:Cx) (r:R2):Prop:=
 ∀(value slice:Expr) (pins:List (zdP×Obj)) (s:zdZ) (σ:St) (H:Hp) (x y:V) (v u:zdQ) (Q:VK),Inv X pins σ H s->RelV x v->RelV y u->r x y H Q->
  subscripted slice false v u=operate [v,u] (getItem v u)->wpAny (model X.prog X.w) X.A (subscriptTail value slice v u) (EP X pins σ Q) X.xe s
def OL (X:Cx) (id:String) (r:V->List V->Hp->VK->Prop):Prop:=
 ∀(pins:List (zdP×Obj)) (s:zdZ) (σ:St) (H:Hp) (x:V) (xs:List V) (v:zdQ) (us:List zdQ) (Q:VK),Inv X pins σ H s->RelV x v->Vals xs us->r x xs H Q->
  wpAny (model X.prog X.w) X.A (call (.builtin id) (v::us)) (EP X pins σ Q) X.xe s
section
variable{X:Cx}{a b:Expr}{ta tb:TE}{pos:Pos}
theorem R9.or{r r':R2}(h:R9 X r)(h':R9 X r'):R9 X (fun x y H Q=>r x y H Q\/r' x y H Q):=by
 intro value slice pins s σ H x y v u Q I rx ry q hs;rcases q with q |q
 ·exact h value slice pins s σ H x y v u Q I rx ry q hs
 ·exact h' value slice pins s σ H x y v u Q I rx ry q hs
theorem OL.or{id:String}{r r':V->List V->Hp->VK->Prop}(h:OL X id r)(h':OL X id r'):OL X id (fun x xs H Q=>r x xs H Q\/r' x xs H Q):=by
 intro pins s σ H x xs v us Q I rx rs q;rcases q with q |q
 ·exact h pins s σ H x xs v us Q I rx rs q
 ·exact h' pins s σ H x xs v us Q I rx rs q
theorem aX{r:R2}(hr:R9 X r)(ha:PE X a ta)(hb:PE X b tb)(hs:uw b):PE X (.Subscript a b pos) (XH r ta tb):=by
 intro pins s σ H Q I h;exact Subscript_ (Vc ha hb I h fun v u s2 x y H2 I2 rx ry q=>hr a b pins s2 σ H2 x y v u Q I2 rx ry q (hs _ _))
def Sa (K:zab):R2:=fun x y H Q=>∃p xs i v,x=.ref p/\y=.int i/\gI K H p xs/\D4 xs i=some v/\Q v H
def OM (K:zab):R2:=fun x y H Q=>∃p xs i v,x=.ref p/\y=.int i/\dF K H p xs/\D4 xs i=some v/\Q v H
def aaL:R2:=fun x y H Q=>∃z i c,x=.str z/\y=.int i/\z.length<=zdX/\D4 z.cps.toList i=some c/\Q (.str ⟨#[c]⟩) H
theorem a9:R9 X (Sa X.K):=by
 intro value slice pins s σ H x y v u Q I rx ry h hs;obtain⟨p,xs,i,z,rfl,rfl,hq,he,q⟩:=h;cases rx;obtain⟨t,rfl⟩:=ry;obtain⟨bp,r,pl,hz⟩:=I.list hq;obtain⟨j,h1,h2,h3,h4,h5⟩:=ES he;obtain⟨w,ew,TZ⟩:=r.get h2;have hl:=r.length;have hn:=sj;have fin:EP X pins σ Q w s:=⟨z,H,I,TZ,q⟩
 by_cases h0:0<=i
 ·have hj:i.toNat=j:=by
   rw[seqIndex_of h0 h5] at h1;exact zaG.inj h1
  exact item_listR pl.isList h0 (by lia) (by rw[hj];simpa using ew) fin hs
 ·have hj:(i+(bp.toArray.size:Int)).toNat=j:=by
   rw[seqIndex_neg (by lia) h4] at h1;rw[zau,<- hl];exact zaG.inj h1
  exact subscriptTail_builtinR (x:=w) pl.isList.typeIs slot_list_getitem.lookup
   (wpAny_getItem_list_neg (Q:=fun r s'=>r=w/\EP X pins σ Q r s') pl.isList (by lia) (by rw[zau]<;>lia) (by lia) (by rw[hj];simpa using ew) ⟨rfl,fin⟩) hs
theorem cG:R9 X (OM X.K):=by
 intro value slice pins s σ H x y v u Q I rx ry h hs;obtain⟨p,xs,i,z,rfl,rfl,hq,he,q⟩:=h;cases rx;obtain⟨t,rfl⟩:=ry;obtain⟨bp,r,pl,hz⟩:=I.tuple hq;obtain⟨j,h1,h2,h3,h4,h5⟩:=ES he;obtain⟨w,ew,TZ⟩:=r.get h2;have hl:=r.length;have hn:=sj;have fin:EP X pins σ Q w s:=⟨z,H,I,TZ,q⟩
 exact subscriptTail_builtinR (x:=w) pl.typeIs slot_tuple_getitem.lookup
  (getItem_tuple (j:=j) (Q:=fun r s'=>r=w/\EP X pins σ Q r s') pl (by lia) (by lia) (by rw[zau,<- hl];exact h1) (by simpa using ew) ⟨rfl,fin⟩) hs
theorem sq:R9 X aaL:=by
 intro value slice pins s σ H x y v u Q I rx ry h hs;obtain⟨z,i,c,rfl,rfl,hz,he,q⟩:=h;obtain⟨t,rfl⟩:=rx;obtain⟨t',rfl⟩:=ry;obtain⟨j,h1,h2,h3,h4,h5⟩:=ES he;have hl:z.cps.toList.length=z.length:=by simp[Str.length]
 rw[hl] at h1 h4 h5;have hn:=sj;exact tail_any (typeIs_str s z t) slot_str_getitem.lookup (getItem_str (c:=c) (by
  have e1:decide (i < -(2 ^ 63:Int))=false:=decide_eq_false (by lia);have e2:decide (i ≥ 2 ^ 63)=false:=decide_eq_false (by lia);rw[e1,e2,zcT]) (by rw[h1];simpa using h2) ⟨.str ⟨#[c]⟩,H,I.tok _,⟨_,rfl⟩,q⟩) hs
theorem Js(bp:List zdQ)(n j:Nat)(u:zdQ):Obj.mapSeq (·.setIfInBounds j u) {cls:=.type "list",data:=.seq bp.toArray n}={cls:=.type "list",data:=.seq (bp.set j u).toArray n}:=by
 simp[Obj.mapSeq]
theorem Inv.lst{pins:List (zdP×Obj)}{σ:St}{H:Hp}{s:zdZ}{p:zdP}{xs:List V}(I:Inv X pins σ H s)(h:H p=some (.lst xs)) :
 ∃(bp:List zdQ) (n:Nat),Vals xs bp/\s.heap.get? p=some {cls:=.type "list",data:=.seq bp.toArray n}/\xs.length<=zdX:=by
 obtain⟨z,bp,n,r,e⟩:=I.eC p _ h;exact⟨bp,n,r,e,z⟩
theorem Inv.Vq{pins:List (zdP×Obj)}{σ:St}{H:Hp}{s:zdZ}{p:zdP}{xs ys:List V}{bp its':List zdQ}{n n':Nat}{f:Obj->Obj}(I:Inv X pins σ H s)(h:H p=some (.lst xs))
 (ho:s.heap.get? p=some {cls:=.type "list",data:=.seq bp.toArray n}) (hf:f {cls:=.type "list",data:=.seq bp.toArray n}={cls:=.type "list",data:=.seq its'.toArray n' }) (r:Vals ys its') (hz:ys.length<=zdX) (t:Nat) :
 Inv X pins σ (upd H p (.lst ys)) {s with heap:=s.heap.update p f,toks:=t}:=by
 have e:(s.heap.update p f).get? p=some {cls:=.type "list",data:=.seq its'.toArray n' }:=by
  rw[Heap.get?_update_self f ho (by rw[hf]<;>rfl),hf]
 refine I.write (x:=p) (e:=p) (by rw[h];trivial) (.inl rfl) (fun b u hb q=>(Heap.get?_update_other _ _ (Ne.symm hb)).trans q) ⟨_,e⟩ ?_;exact⟨hz,its',n',r,e⟩
def T1:V->V->V->Hp->(Hp->Prop)->Prop:=fun o i v H Q=>∃p xs k j,o=.ref p/\i=.int k/\H p=some (.lst xs)/\Mw xs.length k=some j/\Q (upd H p (.lst (xs.set j v)))
theorem set_list:XE X T1:=by
 intro pins s σ H o i v ov iv u Q I ro ri rv h;obtain⟨p,xs,k,j,rfl,rfl,hp,hj,q⟩:=h;cases ro;obtain⟨t,rfl⟩:=ri;obtain⟨bp,n,r,ho,hz⟩:=I.lst hp;obtain⟨h1,h2,h3,h4⟩:=K8 hj;have hl:=r.length;have hn:=sj;have I':Inv X pins σ (upd H p (.lst (xs.set j v))) {s with heap:=s.heap.update p (Obj.mapSeq (·.setIfInBounds j u))}:=
  I.Vq hp ho (Js bp n j u) (r.set rv j) (by rw[zbi];exact hz) s.toks
 by_cases h0:0<=k
 ·have hk:k.toNat=j:=by
   rw[seqIndex_of h0 h4] at h1;exact zaG.inj h1
  exact PySem.W.ki_setAt ho h0 (by lia) (by rw[zau,<- hl];exact h4) (by rw[hk];exact⟨_,I',q⟩)
 ·have hk:(k+(bp.toArray.size:Int)).toNat=j:=by
   rw[seqIndex_neg (by lia) h3] at h1;rw[zau,<- hl];exact zaG.inj h1
  exact PySem.W.ki_setBack ho (by lia) (by rw[zau,<- hl];exact h3) (by lia) (by rw[hk];exact⟨_,I',q⟩)
theorem qL(lo hi:Option Int)(n:Nat):(sliceBounds lo hi none n).1=((HT.f9 n 0 lo:Nat):Int)/\(sliceBounds lo hi none n).2.1=((HT.f9 n n hi:Nat):Int)/\(sliceBounds lo hi none n).2.2=1:=by
 refine⟨?_,?_,rfl⟩
 ·cases lo with
  |none=>simp[sliceBounds,HT.f9]
  |some i=>
   simp only[sliceBounds,HT.f9,Option.getD_none,show (1:Int)>0 by decide,if_true];by_cases h:i<0
   ·simp only[h,if_true]<;>lia
   ·simp only[h,if_false]<;>lia
 ·cases hi with
  |none=>simp[sliceBounds,HT.f9]
  |some i=>
   simp only[sliceBounds,HT.f9,Option.getD_none,show (1:Int)>0 by decide,if_true];by_cases h:i<0
   ·simp only[h,if_true]<;>lia
   ·simp only[h,if_false]<;>lia
theorem CU(bp:List zdQ)(lo hi:Option Int):slicePick bp.toArray lo hi none=((bp.drop (HT.f9 bp.length 0 lo)).take (HT.f9 bp.length bp.length hi-HT.f9 bp.length 0 lo)).toArray:=by
 obtain⟨h1,h2,h3⟩:=qL lo hi bp.toArray.size;unfold slicePick;rw[h1,h2,h3];simp only[sliceRange_one,pick_run,zau]<;>rfl
def aaM (K:zab):V->Option Int->Option Int->Hp->VK->Prop:=fun x lo hi H Q=>∃a xs,x=.ref a/\gI K H a xs/\∀p,H p=none->Q (.ref p) (upd H p (.lst (AH xs lo hi)))
theorem ux:TX X (aaM X.K):=by
 intro pins s σ H x v vl vu lo hi sl Q I rx hs pl pu h;obtain⟨a,xs,rfl,hx,q⟩:=h;cases rx;obtain⟨bp,r,ht,hz⟩:=I.list hx;have hlen:=r.length;refine⟨"list",_,slot_list_getitem.lookup,ht.isList.typeIs,?_⟩;refine wpAny_getItem_list_slice ht.isList hs pl pu .none (by simp) ?_ (by rw[zau]<;>lia);rw[CU,<- hlen];refine⟨.ref s.heap.objs.size,_,I.laid (t':=s.toks) (o:=.lst (AH xs lo hi)) (fun b ob q=>Heap.get?_push_of_some _ q) (zah _) ?_,rfl,q _ (I.eC.fresh (zah _))⟩;exact⟨zay (yW xs lo hi) hz,_,0,(r.drop (HT.f9 xs.length 0 lo)).take (HT.f9 xs.length xs.length hi-HT.f9 xs.length 0 lo),Heap.get?_push_size _ rfl⟩
def wD:V->Bool
 |.eB=>true
 |.bl _=>true
 |.int _=>true
 |.str _=>true
 |_=>false
def T2:V->V->Bool
 |.eB,.eB=>true
 |.bl a,.bl b=>a==b
 |.bl a,.int b=>(if a then 1 else 0)==b
 |.int a,.bl b=>a==(if b then 1 else 0)
 |.int a,.int b=>a==b
 |.str a,.str b=>a==b
 |_,_=>false
theorem Vr{A:zd0}{s:zdZ}{y x:V}{u v:zdQ}(ry:RelV y u)(rx:RelV x v)(fy:wD y=true)(fx:wD x=true):SeqAt.EqAt A s u v (T2 y x):=by
 cases y with
 |eB=>
  cases ry;cases x with
  |eB=>cases rx;exact SeqAt.EqAt.same _
  |bl b=>cases rx;exact SeqAt.EqAt.none_bool b
  |int b=>obtain⟨t,rfl⟩:=rx;exact SeqAt.EqAt.none_int b t
  |str b=>obtain⟨t,rfl⟩:=rx;exact SeqAt.EqAt.none_str b t
  |_=>exact absurd (show false=true from fx) zal
 |bl a=>
  cases ry;cases x with
  |eB=>cases rx;exact SeqAt.EqAt.bool_none a
  |bl b=>cases rx;exact SeqAt.EqAt.bool_bool a b
  |int b=>obtain⟨t,rfl⟩:=rx;exact SeqAt.EqAt.bool_int a b t
  |str b=>obtain⟨t,rfl⟩:=rx;exact SeqAt.EqAt.bool_str a b t
  |_=>exact absurd (show false=true from fx) zal
 |int a=>
  obtain⟨t',rfl⟩:=ry;cases x with
  |eB=>cases rx;exact SeqAt.EqAt.int_none a t'
  |bl b=>cases rx;exact SeqAt.EqAt.int_bool a t' b
  |int b=>obtain⟨t,rfl⟩:=rx;exact SeqAt.EqAt.int_int a t' b t
  |str b=>obtain⟨t,rfl⟩:=rx;exact SeqAt.EqAt.int_str a t' b t
  |_=>exact absurd (show false=true from fx) zal
 |str a=>
  obtain⟨t',rfl⟩:=ry;cases x with
  |eB=>cases rx;exact SeqAt.EqAt.str_none a t'
  |bl b=>cases rx;exact SeqAt.EqAt.str_bool a t' b
  |int b=>obtain⟨t,rfl⟩:=rx;exact SeqAt.EqAt.str_int a t' b t
  |str b=>obtain⟨t,rfl⟩:=rx;exact SeqAt.EqAt.str_str a t' b t
  |_=>exact absurd (show false=true from fx) zal
 |_=>exact absurd (show false=true from fy) zal
def Jt (x:V) (u:zdQ):Bool:=match u with
 |.none=>T2 .eB x
 |.bool b=>T2 (.bl b) x
 |.int i _=>T2 (.int i) x
 |.str z _=>T2 (.str z) x
 |_=>false
theorem ON{x y:V}{u:zdQ}(r:RelV y u)(f:wD y=true):Jt x u=T2 y x:=by
 cases y with
 |eB=>cases r;rfl
 |bl b=>cases r;rfl
 |int i=>obtain⟨t,rfl⟩:=r;rfl
 |str z=>obtain⟨t,rfl⟩:=r;rfl
 |_=>exact absurd (show false=true from f) zal
theorem wF{x:V}:∀ {xs:List V} {us:List zdQ},Vals xs us->xs.all wD=true->us.any (Jt x)=xs.any fun y=>T2 y x
 |_,_,.nil,_=>rfl
 |y::xs,u::us,.cons r t,f=>by
  rw[List.all_cons,zaD] at f;rw[zb3,zb3,ON r f.1,wF t f.2]
theorem sr{A:zd0}{s:zdZ}{x:V}{v:zdQ}(rx:RelV x v)(fx:wD x=true):∀ {xs:List V} {us:List zdQ},Vals xs us->xs.all wD=true->∀u∈us,SeqAt.EqAt A s u v (Jt x u)
 |_,_,.nil,_=>fun u hu=>by cases hu
 |y::xs,u::us,.cons r t,f=>fun u' hu=>by
  rw[List.all_cons,zaD] at f;rcases zai.mp hu with rfl |hu
  ·rw[ON r f.1];exact Vr r rx f.1 fx
  ·exact sr rx fx t f.2 u' hu
def X0 (x:V) (xs:List V):Bool:=xs.any fun y=>T2 y x
def rIn (K:zab) (neg:Bool):R2:=fun x y H Q=>∃p xs,y=.ref p/\(gI K H p xs\/dF K H p xs)/\wD x=true/\xs.all wD=true/\Q (.bl (if neg then !X0 x xs else X0 x xs)) H
theorem i4:rF X (compareOp .In) (rIn X.K false):=by
 intro pins s σ H x y v u Q I rx ry h;obtain⟨p,xs,rfl,hq,fx,fs,q⟩:=h;cases ry;rcases hq with hq |hq
 ·obtain⟨bp,r,pl,hz⟩:=I.list hq;refine SeqAt.in_listAt (Jt x) pl.isList (fun w hw=>sr rx fx r fs w (by simpa using hw)) ⟨.bl _,H,I,rfl,?_⟩;rw[show bp.toArray.any (Jt x)=bp.any (Jt x) by simp,wF r fs];exact q
 ·obtain⟨bp,r,pl,hz⟩:=I.tuple hq;refine SeqAt.in_tupleAt (Jt x) pl (fun w hw=>sr rx fx r fs w (by simpa using hw)) ⟨.bl _,H,I,rfl,?_⟩;rw[show bp.toArray.any (Jt x)=bp.any (Jt x) by simp,wF r fs];exact q
theorem mS:rF X (compareOp .NotIn) (rIn X.K true):=by
 intro pins s σ H x y v u Q I rx ry h;obtain⟨p,xs,rfl,hq,fx,fs,q⟩:=h;cases ry;rcases hq with hq |hq
 ·obtain⟨bp,r,pl,hz⟩:=I.list hq;refine SeqAt.notIn_listAt (Jt x) pl.isList (fun w hw=>sr rx fx r fs w (by simpa using hw)) ⟨.bl _,H,I,rfl,?_⟩;rw[show bp.toArray.any (Jt x)=bp.any (Jt x) by simp,wF r fs];exact q
 ·obtain⟨bp,r,pl,hz⟩:=I.tuple hq;refine SeqAt.notIn_tupleAt (Jt x) pl (fun w hw=>sr rx fx r fs w (by simpa using hw)) ⟨.bl _,H,I,rfl,?_⟩;rw[show bp.toArray.any (Jt x)=bp.any (Jt x) by simp,wF r fs];exact q
theorem bq:jW X (.builtin "len") (fun xs H Q=>∃p ys,xs=[.ref p]/\(gI X.K H p ys\/dF X.K H p ys)/\Q (.int ys.length) H):=by
 intro pins s σ H xs us Q I r h;obtain⟨p,ys,rfl,hq,q⟩:=h;obtain⟨u,rfl,rx⟩:=vals1 r;cases rx;have hn:=sj;rcases hq with hq |hq
 ·obtain⟨bp,r',pl,hz⟩:=I.list hq;have hlen:=r'.length;exact Calls.call_len_list pl.isList (by simp only[zau]<;>lia) ⟨.int ys.length,H,I.tok _,⟨s.toks+1,by rw[zau,hlen]⟩,q⟩
 ·obtain⟨bp,r',pl,hz⟩:=I.tuple hq;have hlen:=r'.length;exact len_tuple pl (by simp only[zau]<;>lia) ⟨.int ys.length,H,I.tok _,⟨s.toks+1,by rw[zau,hlen]⟩,q⟩
theorem jj:jW X (.builtin "len") (fun xs H Q=>∃z,xs=[.str z]/\z.length<=zdX/\Q (.int z.length) H):=by
 intro pins s σ H xs us Q I r h;obtain⟨z,rfl,hz,q⟩:=h;obtain⟨u,rfl,t,rfl⟩:=vals1 r;have hn:=sj;exact len_str (by lia) ⟨.int z.length,H,I.tok _,⟨_,rfl⟩,q⟩
theorem jW.or{f:zdQ}{r r':List V->Hp->VK->Prop}(h:jW X f r)(h':jW X f r'):jW X f (fun xs H Q=>r xs H Q\/r' xs H Q):=by
 intro pins s σ H xs us Q I rs q;rcases q with q |q
 ·exact h pins s σ H xs us Q I rs q
 ·exact h' pins s σ H xs us Q I rs q
theorem ET:jW X (.type "list") (fun xs H Q=>∃p ys,xs=[.ref p]/\(gI X.K H p ys\/dF X.K H p ys)/\∀l,H l=none->Q (.ref l) (upd H l (.lst ys))):=by
 intro pins s σ H xs us Q I r h;obtain⟨p,ys,rfl,hq,q⟩:=h;obtain⟨u,rfl,rx⟩:=vals1 r;cases rx;have fin:∀(bp:List zdQ),Vals ys bp->ys.length<=zdX->∀(h':Heap) (c':Nat),(∀b o',s.heap.get? b=some o'->h'.get? b=some o')->
  h'.get? s.heap.objs.size=some {cls:=.type "list",dict:=none,data:=.seq bp.toArray c',slots:=#[]}->EP X pins σ Q (.ref s.heap.objs.size) {s with heap:=h' }:=fun bp r' hz h' c' kp e=>
  ⟨.ref s.heap.objs.size,_,I.laid (t':=s.toks) kp (zah _) (show fP X.prog X.w _ h' _ (.lst ys) from ⟨hz,bp,c',r',e⟩),rfl,q _ (I.eC.fresh (zah _))⟩
 rcases hq with hq |hq
 ·obtain⟨bp,r',pl,hz⟩:=I.list hq;have hlen:=r'.length;obtain⟨o,ho,hc,n,hd⟩:=pl.isList;exact call_list_seq p (.inl rfl) ho hc hd (fun h' c' kp e=>fin bp r' hz h' c' kp e) (by simp only[zau]<;>lia)
 ·obtain⟨bp,r',pl,hz⟩:=I.tuple hq;have hlen:=r'.length;obtain⟨o,ho,hc,n,hd⟩:=pl;exact call_list_seq p (.inr rfl) ho hc hd (fun h' c' kp e=>fin bp r' hz h' c' kp e) (by simp only[zau]<;>lia)
theorem CV:jW X (.type "tuple") (fun xs H Q=>∃p ys,xs=[.ref p]/\((gI X.K H p ys/\∀l,H l=none->Q (.ref l) (upd H l (.tup ys)))\/(dF X.K H p ys/\Q (.ref p) H))):=by
 intro pins s σ H xs us Q I r h;obtain⟨p,ys,rfl,h⟩:=h;obtain⟨u,rfl,rx⟩:=vals1 r;cases rx;rcases h with ⟨hq,q⟩ |⟨hq,q⟩
 ·obtain⟨bp,r',pl,hz⟩:=I.list hq;have hlen:=r'.length;refine call_tuple_list pl.isList (fun h' kp=>?_) (by simp only[zau]<;>lia);have I1:Inv X pins σ H {s with heap:=h' }:=I.kept (t':=s.toks) kp;have I2:Inv X pins σ (upd H h'.objs.size (.tup ys)) {s with heap:=h'.push {cls:=.type "tuple",data:=.seq bp.toArray} }:=
   I1.laid (t':=s.toks) (fun b o e=>Heap.get?_push_of_some _ e) (zah _) (show fP X.prog X.w _ _ _ (.tup ys) from ⟨hz,bp,r',IsTup.new _ _⟩)
  exact⟨.ref h'.objs.size,_,I2,rfl,q _ (I1.eC.fresh (zah _))⟩
 ·obtain⟨bp,r',pl,hz⟩:=I.tuple hq;exact call_tuple_same pl ⟨.ref p,H,I,rfl,q⟩
def tyV (K:zab) (T:String) (x:V) (H:Hp):Prop:=match x with
 |.str _=>T = "str"
 |.int _=>T = "int"
 |.ref p=>(T = "list"/\∃xs,gI K H p xs)\/(T = "tuple"/\∃o,K.lookup p=some o/\o.cls=.type "tuple"/\o.dict=none)\/
  (T = "dict"/\((∃bg,H p=some (.dK bg))\/∃bg,H p=some (.dT bg)))\/(T = "set"/\∃S n,H p=some (.set S n))
 |_=>False
theorem OO{pins:List (zdP×Obj)}{σ:St}{H:Hp}{s:zdZ}{T:String}{x:V}{v:zdQ}(I:Inv X pins σ H s)(r:RelV x v)(ty:tyV X.K T x H) :
 s.TypeIs v T/\∀a,v=.ref a->∃ob,s.heap.get? a=some ob/\ob.dict=none:=by
 cases x with
 |str z=>
  obtain⟨t,rfl⟩:=r;cases (show T = "str" from ty);exact⟨typeIs_str s z t,fun _ e=>nomatch e⟩
 |int i=>
  obtain⟨t,rfl⟩:=r;cases (show T = "int" from ty);exact⟨typeIs_int s i t,fun _ e=>nomatch e⟩
 |ref p=>
  cases r;rcases ty with ⟨rfl,xs,hq⟩ |⟨rfl,o,hk,hc,hd⟩ |⟨rfl,hk⟩ |⟨rfl,S,n,hk⟩
  ·obtain⟨bp,_,pl,_⟩:=I.list hq;refine⟨pl.isList.typeIs,fun a e=>?_⟩;cases e;obtain⟨o,n,e,c,hd,_⟩:=pl;exact⟨o,e,hd⟩
  ·refine⟨⟨o,I.CQ p o hk,hc⟩,fun a e=>?_⟩;cases e;exact⟨o,I.CQ _ o hk,hd⟩
  ·have z:∃o,s.heap.get? p=some o/\o.ExactDict:=by
    rcases hk with ⟨bg,hk⟩ |⟨bg,hk⟩
    ·obtain⟨_,_,_,_,o,_,_,e,ex,_⟩:=I.eC p _ hk;exact⟨o,e,ex⟩
    ·obtain⟨_,_,_,_,o,_,_,e,ex,_⟩:=I.eC p _ hk;exact⟨o,e,ex⟩
   obtain⟨o,e,ex⟩:=z;refine⟨⟨o,e,ex.1⟩,fun a e2=>?_⟩;cases e2;exact⟨o,e,ex.2.1⟩
  ·obtain⟨o,_,_,_,e,ex,_⟩:=I.eC p _ hk;refine⟨⟨o,e,ex.1⟩,fun a e2=>?_⟩;cases e2;exact⟨o,e,ex.2.1⟩
 |_=>exact False.elim ty
def Vs (K:zab) (T:String) (r:V->List V->Hp->VK->Prop) (to:TE):TE:=fun σ H Q=>to σ H fun x H1=>tyV K T x H1/\r x [] H1 Q
def ZR (K:zab) (T:String) (r:V->List V->Hp->VK->Prop) (to:TE) (t:TA):TE:=fun σ H Q=>to σ H fun x H1=>tyV K T x H1/\t σ H1 fun xs H2=>r x xs H2 Q
variable{o e:Expr}{es:List Expr}{to:TE}{t:TA}{name:Str}{apos jU:Pos}{T id:String}{r:V->List V->Hp->VK->Prop}
theorem Ju(pa:PlainAttrs T)(slot:Slot T name id)(X1:typeOf (.builtin id)=pure (.type "method_descriptor"))(hm:OL X id r)(ho:PE X o to)
 (Gy:attributeBase o name X.env (eval o X.env)=eval o X.env:=by rfl) (Gz:(apos.endLine==jU.line)=true:=by rfl):PE X (.Call (.Attribute o name apos) [] [] jU) (Vs X.K T r to):=by
 intro pins s σ H Q I h;refine wpAny_Call_method0_late Gy Gz (fA (ho pins s σ H _ I h) fun v s1 zqz=>?_);obtain⟨x,H1,I1,r1,ty,q1⟩:=zqz;obtain⟨h1,h2⟩:=OO I1 r1 ty;exact⟨T,id,pa,slot,X1,h1,h2,Calls.callWith_builtin rfl (PySem.evalArgs_none (hm pins s1 σ H1 x [] v [] Q I1 r1 .nil q1))⟩
theorem jk(pa:PlainAttrs T)(slot:Slot T name id)(X1:typeOf (.builtin id)=pure (.type "method_descriptor"))(hm:OL X id r)(ho:PE X o to)(ha:PA X (e::es) t)
 (Gy:attributeBase o name X.env (eval o X.env)=eval o X.env:=by rfl)
 (Vt:((backTo jU (zdV (e::es) X.env)).all (fun x=>!x.1)&&(backToKw jU (keywordEach [] X.env)).all (fun x=>x.1.isSome)
  && decide ((e::es).length+([]:List Keyword).length+(if ([]:List Keyword).isEmpty then 0 else 1)<30))=true:=by rfl)
 (Gz:(apos.endLine==jU.line)=true:=by rfl) (hs:zdV (e::es) X.env=(false,eval e X.env)::zdV es X.env:=by rfl) (AJ:(backTo jU (zdV es X.env)).any (·.1)=false:=by rfl) :
 PE X (.Call (.Attribute o name apos) (e::es) [] jU) (ZR X.K T r to t):=by
 intro pins s σ H Q I h;refine wpAny_Call_method_late Gy Vt Gz rfl (fA (ho pins s σ H _ I h) fun v s1 zqz=>?_);obtain⟨x,H1,I1,r1,ty,q1⟩:=zqz;obtain⟨h1,h2⟩:=OO I1 r1 ty;refine⟨T,id,pa,slot,X1,h1,h2,?_⟩;have hA:=ha jU pins s1 σ H1 _ I1 q1;rw[hs] at hA ⊢;refine Calls.callWith_builtin (by show (false ||(backTo jU (zdV es X.env)).any (·.1))=false;rw[AJ]<;>rfl) (Calls.evalArgs_plain ?_);refine fA hA fun us s2 zqz=>?_;obtain⟨vs,H2,I2,r2,q2⟩:=zqz;exact hm pins s2 σ H2 x vs v us Q I2 r1 r2 q2
end
def MtM (X:Cx) (id:String) (r:V->List V->Hp->VK->Prop):Prop:=
 ∀(pins:List (zdP×Obj)) (s:zdZ) (σ:St) (H:Hp) (x:V) (xs:List V) (v:zdQ) (us:List zdQ) (Q:VK),Inv X pins σ H s->RelV x v->Vals xs us->r x xs H Q->
  wpAny (model X.prog X.w) X.A (call (.builtin id) (v::us)) (EP X pins σ Q) X.xe s
theorem Vals.one:∀ {x:V} {us:List zdQ},Vals [x] us->∃u,us=[u]/\RelV x u
 |_,_,.cons r .nil=>⟨_,rfl,r⟩
theorem Vals.zero:∀ {us:List zdQ},Vals [] us->us=[]
 |_,.nil=>rfl
theorem Vals.dropLast{xs:List V}{us:List zdQ}(h:Vals xs us):Vals xs.dropLast us.dropLast:=by
 induction h with
 |nil=>exact .nil
 |cons r t ih=>
  cases t with
  |nil=>exact .nil
  |cons q t'=>exact .cons r ih
theorem Vals.reverse{xs:List V}{us:List zdQ}(h:Vals xs us):Vals xs.reverse us.reverse:=by
 induction h with
 |nil=>exact .nil
 |cons r t ih=>rw[zb0,zb0];exact Vals.append ih (.cons r .nil)
theorem Vals.rep{xs:List V}{us:List zdQ}(h:Vals xs us):∀k:Nat,Vals (zax k xs).flatten (zax k us).flatten
 |0=>.nil
 |k+1=>by
  rw[za3,za3,zaP,zaP];exact Vals.append h (Vals.rep h k)
theorem Jv{α:Type}(l:List α):l.eraseIdx (l.length-1)=l.dropLast:=by
 induction l with
 |nil=>rfl
 |cons a r ih=>
  cases r with
  |nil=>rfl
  |cons b r=>
   have e:(a::b::r).length-1=((b::r).length-1)+1:=by
    have h1:(a::b::r).length=r.length+2:=rfl;have h2:(b::r).length=r.length+1:=rfl;lia
   rw[e,List.eraseIdx_cons_succ,ih]
   all_goals rfl
theorem foldl_rep(bp:List zdQ):∀(k:Nat) (acc:List zdQ),
 List.foldl (fun x1 x2=>x1++x2) acc.toArray (zax k bp.toArray)=(acc++(zax k bp).flatten).toArray
 |0,acc=>by simp
 |k+1,acc=>by
  have e:acc.toArray++bp.toArray=(acc++bp).toArray:=by simp
  have e2:(acc++bp)++(zax k bp).flatten=acc++(zax (k+1) bp).flatten:=by
   rw[za3,zaP,zbg]
  rw[<- e2,<- foldl_rep bp k (acc++bp),<- e,za3,zaO]
section
variable{X:Cx}{pins:List (zdP×Obj)}{σ:St}{H:Hp}{s:zdZ}{l b:zdP}{xs ys zs:List V}
theorem Inv.X2{bp its':List zdQ}{n:Nat}{f:Array zdQ->Array zdQ}{t':Nat}(I:Inv X pins σ H s)(hH:H l=some (.lst xs))
 (e:s.heap.get? l=some {cls:=.type "list",data:=.seq bp.toArray n}) (hf:f bp.toArray=its'.toArray) (hv:Vals ys its') (hz:ys.length<=zdX) :
 Inv X pins σ (upd H l (.lst ys)) {s with heap:=s.heap.update l (Obj.mapSeq f),toks:=t' }:=by
 have q:=PySem.IsL.update e f;rw[hf] at q;refine I.write (x:=l) (e:=l) (by rw[hH];exact trivial) (.inl rfl) (fun b' u hb hu=>(Heap.get?_update_other s.heap (Obj.mapSeq f) (Ne.symm hb)).trans hu) ⟨_,q⟩ ?_;exact⟨hz,its',_,hv,q⟩
theorem Inv.X3{bp:List zdQ}{t':Nat}(I:Inv X pins σ H s)(hv:Vals ys bp)(hz:ys.length<=zdX) :
 Inv X pins σ (upd H s.heap.objs.size (.lst ys)) {s with heap:=s.heap.push {cls:=.type "list",data:=.seq bp.toArray},toks:=t' }:=
 I.laid (fun _ _ q=>Heap.get?_push_of_some _ q) (zah _) ⟨hz,bp,0,hv,Heap.get?_push_size _ rfl⟩
theorem Inv.fresh(I:Inv X pins σ H s):H s.heap.objs.size=none:=I.eC.fresh (zah _)
theorem Inv.OP(I:Inv X pins σ H s)(hH:H l=some (.lst xs)):xs.length<=zdX/\∃(bp:List zdQ) (n:Nat),Vals xs bp/\xs.length=bp.length/\s.heap.get? l=some {cls:=.type "list",data:=.seq bp.toArray n}:=by
 obtain⟨z,bp,n,r,e⟩:=I.eC l _ hH;exact⟨z,bp,n,r,r.length,e⟩
theorem OQ{n:Nat}(h:n<=zdX):Builtin.List.listTooLong n=false:=by
 unfold Builtin.List.listTooLong;exact decide_eq_false (by lia)
end
section
variable{X:Cx}
def Sb:V->List V->Hp->VK->Prop:=fun x vs H Q=>∃l xs y,x=.ref l/\vs=[y]/\H l=some (.lst xs)/\xs.length<zdX/\Q .eB (upd H l (.lst (xs++[y])))
theorem cZ:MtM X "list.append" Sb:=by
 intro pins s σ H x vs v us Q I rx rv h;obtain⟨l,xs,y,rfl,rfl,hH,hz,q⟩:=h;cases rx;obtain⟨u,rfl,ru⟩:=rv.one;obtain⟨z,bp,n,r,hl,e⟩:=I.OP hH;refine call_meets F.slot_list_append ⟨_,e,rfl⟩ F.entry_list_append (F.args_list_append_2 _ _) (PySem.list_append l bp.toArray n u (by rw[zau];lia)) ⟨e,?_⟩;refine⟨.eB,_,I.X2 (its':=bp++[u]) hH e (by simp) (r.append (.cons ru .nil)) ?_,rfl,q⟩;rw[zae,zaw];lia
def aaP:V->List V->Hp->VK->Prop:=fun x vs H Q=>∃l xs y,x=.ref l/\vs=[]/\H l=some (.lst xs)/\xs[xs.length-1]?=some y/\Q y (upd H l (.lst xs.dropLast))
theorem Jw:MtM X "list.pop" aaP:=by
 intro pins s σ H x vs v us Q I rx rv h;obtain⟨l,xs,y,rfl,rfl,hH,hy,q⟩:=h;cases rx;have hus:=rv.zero;subst hus;obtain⟨z,bp,n,r,hl,e⟩:=I.OP hH;obtain⟨u,hu,ru⟩:=r.get hy;have hy':bp.toArray[bp.toArray.size-1]?=some u:=by
  show bp.toArray[bp.length-1]?=some u;rw[<- Array.getElem?_toList,<- hl];exact hu
 refine call_meets F.slot_list_pop ⟨_,e,rfl⟩ F.entry_list_pop (F.args_list_pop_1 _) (MeetsSeq.list_pop_last l bp.toArray n u hy' (by rw[zau];lia)) ⟨e,?_⟩;refine⟨y,_,I.X2 (its':=bp.dropLast) hH e ?_ r.dropLast ?_,ru,q⟩
 ·show bp.toArray.eraseIdxIfInBounds (bp.toArray.size-1)=bp.dropLast.toArray;rw[zau,List.eraseIdxIfInBounds_toArray,Jv]
 ·rw[za1];lia
def Vu:R2:=fun x y H Q=>∃l b xs zs,x=.ref l/\y=.ref b/\H l=some (.lst xs)/\H b=some (.lst zs)/\xs.length+zs.length<=zdX/\∀p,H p=none->Q (.ref p) (upd H p (.lst (xs++zs)))
theorem di:rF X (binaryOp .Add) Vu:=by
 intro pins s σ H x y v u Q I rx ry h;obtain⟨l,b,xs,zs,rfl,rfl,hH,hB,hz,q⟩:=h;cases rx;cases ry;obtain⟨z,bp,n,r,hl,e⟩:=I.OP hH;obtain⟨z2,Vp,n2,r2,hl2,e2⟩:=I.OP hB;refine PySem.P.add_list e e2 ?_ (by rw[zau,zau];lia);have ea:bp.toArray++Vp.toArray=(bp++Vp).toArray:=by simp
 rw[ea];exact⟨.ref _,_,I.X3 (t':=s.toks) (r.append r2) (by rw[zae];lia),rfl,q _ I.fresh⟩
def aaQ:R2:=fun x y H Q=>∃l k xs,x=.ref l/\y=.int k/\H l=some (.lst xs)/\-(2 ^ 63)<=k/\k<2 ^ 63/\xs.length*k.toNat<=zdX/\
 ∀p,H p=none->Q (.ref p) (upd H p (.lst (zax k.toNat xs).flatten))
theorem len_rep{α:Type}(xs:List α)(k:Nat):(zax k xs).flatten.length=k*xs.length:=by
 induction k with
 |zero=>simp
 |succ k ih=>rw[za3,zaP,zae,ih,zc4,Nat.add_comm]
theorem Vv:rF X (binaryOp .Mult) aaQ:=by
 intro pins s σ H x y v u Q I rx ry h;obtain⟨l,k,xs,rfl,rfl,hH,h1,h2,hz,q⟩:=h;cases rx;obtain⟨t,rfl⟩:=ry;obtain⟨z,bp,n,r,hl,e⟩:=I.OP hH;have hlen:bp.toArray.size*k.toNat<=zdX:=by rw[zau,<- hl];exact hz
 have aaR:¬bp.toArray.size*k.toNat>(2 ^ 63-1)/8:=by
  have:(zdX:Nat)<=(2 ^ 63-1)/8:=by decide
  lia
 have aaS:¬(!Builtin.List.listFitsIndex k)=true:=by
  rw[fitsIndex_both h1 h2];exact zal
 have X4:¬Builtin.List.listTooLong (bp.toArray.size*k.toNat)=true:=by
  rw[OQ hlen];exact zal
 have aaT:List.foldl (fun x1 x2=>x1++x2) #[] (zax (if bp.toArray.isEmpty=true then 0 else k.toNat) bp.toArray)=(zax k.toNat bp).flatten.toArray:=by
  have f0:∀m:Nat,List.foldl (fun x1 x2=>x1++x2) #[] (zax m bp.toArray)=(zax m bp).flatten.toArray:=fun m=>by
   have:=foldl_rep bp m [];rw[za8] at this;exact this
  rw[f0];cases bp with
  |nil=>simp
  |cons a r'=>rw[if_neg (by simp)]
 refine wpAny_binaryOp_repeat_ref (T:="list") (U:="int") (by decide) ⟨_,e,rfl⟩ (fun s'=>typeIs_int s' k t) noFill_list_mul F.fills_int_mul F.slot_int_rmul repeat_list F.slot_int_index.lookup
  (call_meets F.slot_int_rmul (typeIs_int s k t) F.entry_int_rmul (F.args_int_rmul_2 _ _) (int___rmul___int_list k t l bp.toArray n)
   ⟨e,rfl,⟨_,e,rfl⟩,call_meets F.slot_list_mul ⟨_,e,rfl⟩ F.entry_list_mul (F.args_list_mul_2 _ _) (AutoListH.list___mul___list_int_3 l bp.toArray n k t aaS aaR X4) ⟨e,?_⟩⟩)
 rw[aaT];exact⟨.ref _,_,I.X3 (t':=s.toks) (r.rep k.toNat) (by rw[len_rep,Nat.mul_comm];exact hz),rfl,q _ I.fresh⟩
end
end L2
namespace Att
open PySem PySem.W PySem.Calls PyProof.Rows
theorem zC{P:Params}{h:Heap}:∀(ns:List Int) (vs:List zdQ),WellAll P h vs (ns.map WData.int)->IntsAre vs ns:=by
 intro ns
 induction ns with
 |nil=>
  intro vs w;rw[zbV] at w;cases w;exact .nil
 |cons n ns ih=>
  intro vs w;rw[zaq] at w;cases w with
  |cons a b=>
   cases a;exact .cons _ _ (ih _ b)
theorem Mx{l:OpenLaw}{n:Nat}(hn:l.most=some n){P:Params}{h:Heap}{args:List WData}{vals:List zdQ}
 (Sd:l.row.toRowW.claim.pre args=true) (hwl:WellAll P h vals args) :
 ∃a vs ns,vals=[Value.ref a]/\args=[WData.list (ns.map WData.int)]/\h.get? a=some {cls:=.type "list",data:=.seq vs.toArray}/\IntsAre vs ns/\ns.length<=n:=by
 have hsh:WShape.hasAll [] args [.list .int]=true:=(pre_splitW Sd).1;have hc:l.pre.holds [] {args:=args}=true:=(pre_splitW Sd).2;obtain⟨d,r,rfl,h1,h2⟩:=hasAllW_cons hsh;obtain rfl:=hasAllW_nil h2;obtain⟨xs,rfl,h3⟩:=hasW_list h1;obtain⟨ns,rfl⟩:=items_int h3;have hlen:ns.length<=n:=by
  unfold OpenLaw.pre at hc;have h4:(WTm.not (.lt (.lit (.int (n:Int))) (.len (.arg 0)))).holds [] {args:=[.list (ns.map .int)]}=true:=by
   have h4:=(holds_andW hc).1;rw[hn] at h4;exact h4
  have h5:=condW_of h4 (w_not (w_lt w_lit (w_len_list (w_arg rfl))));rw[zaj] at h5;refine Nat.le_of_not_lt fun q=>?_;have q':(n:Int)<((ns.length:Nat):Int):=by lia
  first
   |(rw[decide_eq_true q'] at h5;exact absurd h5 (by decide))
   |(simp at h5;lia)
 cases hwl with
 |cons w1 w2=>
  cases w2;cases w1 with
  |list ho Vw=>exact⟨_,_,ns,rfl,rfl,ho,zC ns _ Vw,hlen⟩
theorem My(l:OpenLaw)(args:List WData):l.row.toRowW.claim.post args (.bool true) args=true:=
 postW_of (r:=l.row.toRowW) (X:=(true==true))
  (show WShape.has [] (.bool true) .bool=true by first |rfl |decide |simp[WShape.has,WShape.arms,WShape.armsAll])
  (show (WTm.eq .res (.lit (.bool true))).value [] {args:=args,res:=some (.bool true),after:=args}=some (.bool (true==true)) from w_eq_bool (w_res rfl) w_lit) rfl
theorem GA{l:OpenLaw}{n:Nat}{q:zd1}{loose:List Str}{XP:(Str->Option zdQ)->Heap->Prop}{YP:zdR->Heap->Prop}{d:DefRec}
 (hn:l.most=some n) (X5:d.params.defaults=[])
 (call:∀(w:zdR) (s₀ s₁:zdZ) (mg mb:Str->Option zdQ) (fa:zdP) (o:Obj) (pm cd doc:zdQ) (a:zdP) (vs:List zdQ) (ns:List Int),
  Ground q loose [] XP w s₀ mg mb s₁.heap->YP w s₁.heap->
  s₁.heap.get? fa=some o->o.data=.func (docDef d.name d.params d.body d.scope pm cd doc)->s₁.heap.CodeRec cd d.name->mg d.name=some (.ref fa)->
  s₁.heap.get? a=some {cls:=.type "list",data:=.seq vs.toArray}->IntsAre vs ns->ns.length<=n->s₁.gens = #[]->
  codeAny (model l.prog w) callerA (.call (.ref fa) ⟨[.ref a],[]⟩) (fun r s'=>r=.ok (.ret (.bool true))/\OldK s₁.heap s'.heap/\s'.os=s₁.os/\AllBare s'.gens) s₁) :
 WalkO q loose XP YP l.row.toRowW d [] (fun f vs=>PySem.call f vs):=by
 intro w s₀ s₁ mg mb G Y fa o pm cd doc dV kV ho hd Mg hD X6 hg args vals as Sd aer hrd hwl hlo;obtain rfl:dV=.none:=Dflts.none hD X5;obtain rfl:kV=.none:=Dflts.noKw hD;obtain⟨a,vs,ns,rfl,rfl,Vx,hints,hlen⟩:=Mx hn Sd hwl;refine enter_call (codeAny_mono (call w s₀ s₁ mg mb fa o pm cd doc a vs ns G Y ho (fd_plain hd) Mg X6 Vx hints hlen hg) fun r s' hq=>?_);obtain⟨rfl,h2,h3,h4⟩:=hq;exact⟨.inl ⟨.bool true,.bool true,[],rfl,fun _=>rfl,.bool true,My l _,fun _=>⟨List.Pairwise.nil,fun _ hm=>(nomatch hm)⟩⟩,h2,h3,h4⟩
end Att
namespace L2
open PySem PySem.Spec PyProof.Rows
theorem D5:∀ {vs:List zdQ} {ns:List Int},IntsAre vs ns->Vals (ns.map V.int) vs
 |_,_,.nil=>.nil
 |_,_,.cons n t h=>.cons ⟨t,rfl⟩ (D5 h)
def Vy (H:Hp):Prop:=∀b,H b=none\/∃o xs,H b=some (.Og o (.lst xs))
theorem OR{P:zd1}{w:zdR}{K:zab}{mg mb:Str->Option zdQ}{CX:IZ}{k:Nat}{fa a:zdP}{fd:zdY}{x:Str}{sp:Sp}{s₁:zdZ}{vs:List zdQ}{ns:List Int}
 (KX:K.In s₁.heap) (ZS:s₁.heap.Ns zdW mg) (hb:s₁.heap.Ns builtinsNs mb) (Xb:∀x:Str,x≠"__name__"->mb x=bootBuiltins x) (aaV:s₁.heap.NoLimit) (hg:s₁.gens = #[])
 (ha:s₁.heap.get? a=some {cls:=.type "list",data:=.seq vs.toArray}) (hi:IntsAre vs ns) (hl:ns.length<=zdX) (hr:g8 k callerA)
 (F:∀base:Heap,K.In base->base.Ns zdW mg->bu P w K mg base CX k fa fd [x] sp) (X7:∀(s:zdZ) (u:zdQ),BindsTo s fd ⟨[u],[]⟩ [(x,u)])
 (Mv:∀H:Hp,Vy H->gI K H a (ns.map V.int)->sp [.ref a] H (fun v _=>v=.bl true) fun _ _ _=>False)
 (hCX:∀H e s',CX [] H s₁ (fun _ _ _=>False) e s'->False) :
 codeAny (model P w) callerA (.call (.ref fa) ⟨[.ref a],[]⟩) (fun r s'=>r=.ok (.ret (.bool true))/\OldK s₁.heap s'.heap/\s'.os=s₁.os/\AllBare s'.gens) s₁:=by
 have rv:=D5 hi;have aaX:=hi.length;have core:∀H:Hp,Vy H->gI K H a (ns.map V.int)->wu P w H s₁.heap->(∀b,H b≠none->b=a)->(H a≠none->K.lookup a=none)->
  codeAny (model P w) callerA (.call (.ref fa) ⟨[.ref a],[]⟩) (fun r s'=>r=.ok (.ret (.bool true))/\OldK s₁.heap s'.heap/\s'.os=s₁.os/\AllBare s'.gens) s₁:=by
  intro H hO hS eC hA hK;have K9:∀ {b:zdP} {o:Obj},s₁.heap.get? b=some o->H b=none->(EH s₁.heap H).get? b=some o:=fun e n=>Oi e n;have XW:∀ {b:zdP} {o:Obj} {es:Array DictEntry} {ep:Nat},s₁.heap.get? b=some o->o.data=.dict es ep->H b=none:=fun {b o es ep} e d=>by
   cases q:H b with
   |none=>rfl
   |some u=>
    have e':b=a:=hA b (by rw[q];simp);subst e';rw[ha] at e;cases e;have d':Data.seq vs.toArray _=Data.dict es ep:=d;cases d'
  have ZT:∀ {b:zdP} {m:Str->Option zdQ},s₁.heap.Ns b m->(EH s₁.heap H).Ns b m:=fun {b m} ⟨o,es,ep,e,d,r⟩=>⟨o,es,ep,K9 e (XW e d),d,r⟩
  have hKb:K.In (EH s₁.heap H):=fun b o e=>K9 (KX b o e) (by
   cases q:H b with
   |none=>rfl
   |some u=>
    have e':b=a:=hA b (by rw[q];simp);subst e';rw[hK (by rw[q];simp)] at e;cases e)
  have hM:Mod K mg (EH s₁.heap H):=⟨hKb,ZT ZS,⟨mb,ZT hb,Xb⟩,let ⟨mc,h1,h2⟩:=aaV;⟨mc,ZT h1,h2⟩⟩
  have e0:CT P w K mg (EH s₁.heap H) callerA [] s₁ H:=⟨rfl,hM,fun b o e=>RX e,zdH (Mf _ _),trivial,fun b hb=>absurd (show b∈([]:List zdP) from hb) (by simp),eC,.of_eq hg⟩
  refine codeAny_mono ((F _ hKb (ZT ZS)).run callerA [] s₁ H ⟨[.ref a],[]⟩ [.ref a] [.ref a] _ _ hr e0 (X7 s₁ (.ref a)) (.cons rfl .nil) (Mv H hO hS)) fun r s' h=>?_;cases r with
  |error e=>exact(hCX H e s' h).elim
  |ok fl=>
   cases fl with
   |next=>exact False.elim h
   |brk=>exact False.elim h
   |cont=>exact False.elim h
   |ret u=>
    obtain⟨v,H',os,bare,un,aaY,r',q⟩:=h;have q':v=.bl true:=q;subst q';obtain rfl:u=Value.bool true:=r';refine⟨rfl,OldK.of_keep fun b o e=>?_,os,bare⟩;cases q:H b with
    |none=>exact un.keep b o e q (by intro z;exact absurd (show b∈([]:List zdP) from z) (by simp)) (by simp)
    |some u=>
     rcases hO b with z |⟨ob,xs,z⟩
     ·rw[q] at z;cases z
     ·have z2:=un.qE b ob _ z;obtain⟨e1,_⟩:=eC b _ z;obtain⟨e2,_⟩:=aaY b _ z2;rw[e] at e1;cases e1;exact e2
 cases hk:K.lookup a with
 |some o=>
  have e:=KX a o hk;rw[ha] at e;cases e;refine core (fun _=>none) (fun _=>.inl rfl) (.inr ⟨_,vs.toArray,_,hk,rfl,rfl,rfl,by rw[zau,aaX];exact hl,by simpa using rv⟩) (fun b u z=>by have z':(none:Option HO)=some u:=z;cases z') (fun b z=>absurd rfl z) fun z=>absurd rfl z
 |none=>
  refine core (fun b=>if b=a then some (.Og {cls:=.type "list",data:=.seq vs.toArray} (.lst (ns.map V.int))) else none) (fun b=>?_) (.inl (.inr ⟨{cls:=.type "list",data:=.seq vs.toArray},if_pos rfl⟩)) (fun b u z=>?_) (fun b z=>?_) fun _=>hk
  ·by_cases hb:b=a
   ·exact .inr ⟨_,_,if_pos hb⟩
   ·exact .inl (if_neg hb)
  ·by_cases hb:b=a
   ·have z':=(if_pos hb).symm.trans z;cases z';subst hb;exact⟨ha,by rw[zaj];exact hl,vs,_,rv,ha⟩
   ·have z':=(if_neg hb).symm.trans z;cases z'
  ·by_cases hb:b=a
   ·exact hb
   ·exact absurd (if_neg hb) z
theorem Se{l:PySem.W.OpenLaw}{n k:Nat}{q:zd1}{loose:List Str}{XP:(Str->Option zdQ)->Heap->Prop}{YP:zdR->Heap->Prop}{d:DefRec}{K:Params->zab}{CX:zdR->IZ}{sp:zdR->Sp}{x:Str}
 (hn:l.most=some n) (ZO:n<=zdX) (X5:d.params.defaults=[]) (hr:g8 k callerA)
 (hY:∀(w:zdR) (h:Heap),YP w h->(K w.params).In h)
 (F:∀(w:zdR) (mg:Str->Option zdQ) (fa:zdP) (h:Heap),(K w.params).In h->h.Ns zdW mg->mg d.name=some (.ref fa)->
  ∃fd:zdY,(∀(s:zdZ) (u:zdQ),BindsTo s fd ⟨[u],[]⟩ [(x,u)])/\
   ∀base:Heap,(K w.params).In base->base.Ns zdW mg->bu l.prog w (K w.params) mg base (CX w) k fa fd [x] (sp w))
 (Mv:∀(w:zdR) (H:Hp) (a:zdP) (ns:List Int),ns.length<=n->Vy H->gI (K w.params) H a (ns.map V.int)->sp w [.ref a] H (fun v _=>v=.bl true) fun _ _ _=>False)
 (hCX:∀(w:zdR) (H:Hp) (s:zdZ) (e:zdQ) (s':zdZ),CX w [] H s (fun _ _ _=>False) e s'->False) :
 PySem.W.WalkO q loose XP YP l.row.toRowW d [] (fun f vs=>PySem.call f vs):=by
 refine Att.GA hn X5 fun w s₀ s₁ mg mb fa o pm cd doc a vs ns G Y ho hd Mg X6 Vx hints hlen hg=>?_;have KX:=hY w _ Y;obtain⟨fd,hb,hF⟩:=F w mg fa _ KX G.T.g X6;exact OR KX G.T.g G.T.b G.T.builtins G.T.nolimit hg Vx hints (zay hlen ZO) hr hF hb (fun H hO hS=>Mv w H a ns hlen hO hS) fun H e s'=>hCX w H s₁ e s'
def inClass (s:Stmt) (j:Nat):Stmt:=match s with
 |.ClassDef _ _ _ body _ _ _ _ _ _ _=>body.getD j (.Pass ⟨0,0,0,0⟩)
 |_=>.Pass ⟨0,0,0,0⟩
def dh (s:Stmt):Arguments:=match s with
 |.FunctionDef _ a _ _ _ _ _ _ _ _=>a
 |_=>{posonlyargs:=[],args:=[],vararg:=none,kwonlyargs:=[],kw_defaults:=[],kwarg:=none,defaults:=[]}
def aZ (s:Stmt):List Stmt:=match s with
 |.FunctionDef _ _ b _ _ _ _ _ _ _=>b
 |_=>[]
def aE (s:Stmt):Scope:=match s with
 |.FunctionDef _ _ _ _ _ _ sc _ _ _=>sc
 |_=>{kind:=.function,names:=[],isGenerator:=false,isCoroutine:=false}
abbrev jh:IZ:=fun _ _ _ _ _ _=>False
abbrev E0:XK:=fun _ _ _=>False
theorem bj{X:Cx}:Passes jh X E0:=fun _ _ _ _ _ _ _ h=>h.elim
structure Ge(K:zab)(x qual:Str)(st:Stmt)(f:zdP)(fd:zdY):Prop where
 ex:∃(oc:zdQ) (od:Option zdP) (kV doc pm:zdQ) (an:Option zdP) (d0 ct:zdQ) (OI:Array (Option zdQ)),
  fd=zaV x qual (dh st) (aZ st) (aE st) .none kV doc pm an d0 ct/\K.lookup f=some ⟨oc,od,.func fd,OI⟩/\zbo K d0 qual=true
 kp:za5 K (.ref f)=true
section
variable{P:zd1}{w:zdR}{K:zab}{mg:Str->Option zdQ}{base:Heap}
theorem Ge.ok{x qual:Str}{st:Stmt}{f:zdP}{fd:zdY}{N ps:List Str}{k:Nat}{sp:Sp}(F:Ge K x qual st f fd)(S:aY N ps (aE st))(len:∀vs H Q E,sp vs H Q E->vs.length=ps.length)
 (AF:∀(d0:zdQ) (A:zd0) (outer:List Env) (s:zdZ) (H:Hp) (vs:List V) (Q:VK) (E:XK),g8 k (A.deeper (envOfC qual (aE st) s.heap.objs.size f d0))->sp vs H Q E->
  ∃t,IX (lU jh P w K mg base N qual (aE st) f d0 A outer s H E).XD (aZ st) t/\t {nx:=fun _ H'=>Q .eB H',rt:=Q} (start N vs) H):bu P w K mg base jh (k+1) f fd ps sp:=by
 obtain⟨oc,od,kV,doc,pm,an,d0,ct,OI,rfl,lk,Mg⟩:=F.ex;refine TV lk Mg S len fun A outer s H vs Q E hr Mv=>?_;obtain⟨t,h,q⟩:=AF d0 A outer s H vs Q E hr Mv;exact⟨t,h.XD,q⟩
theorem Ge.binds{x qual:Str}{st:Stmt}{f:zdP}{fd:zdY}{ps:List Str}(F:Ge K x qual st f fd)
 (h:∀(kV doc pm:zdQ) (an:Option zdP) (d0 ct:zdQ) (us:List zdQ),us.length=ps.length->bindArgs (zaV x qual (dh st) (aZ st) (aE st) .none kV doc pm an d0 ct) ⟨us,[]⟩=pure (ps.zip us)):Binds K fd ps []:=by
 obtain⟨oc,od,kV,doc,pm,an,d0,ct,OI,rfl,lk,Mg⟩:=F.ex;exact .all (h kV doc pm an d0 ct)
theorem su{x qual:Str}{st:Stmt}{f:zdP}{oc:zdQ}{od an:Option zdP}{OI:Array (Option zdQ)}{kV doc pm d0 ct:zdQ}(l:K.lookup f=some ⟨oc,od,.func (zaV x qual (dh st) (aZ st) (aE st) .none kV doc pm an d0 ct),OI⟩)
 (c:zbo K d0 qual=true) (k:za5 K (.ref f)=true):Ge K x qual st f (zaV x qual (dh st) (aZ st) (aE st) .none kV doc pm an d0 ct):=⟨⟨oc,od,kV,doc,pm,an,d0,ct,OI,rfl,l,c⟩,k⟩
end
theorem OS{A:zd0}{k:Nat}(hr:g8 k A):A.units+1<cLine:=zb6 (Nat.add_le_add_left (by decide:1<=64) _) hr.units
theorem D6{n:Nat}(h:n<=1000):n<zdX:=zb6 h (by decide)
section
variable{X:Cx}
theorem pv(i:Nat){x:Str}{pos:Pos}(hN:X.N[i]?=some x:=by rfl)(hv:ZI X.env.scope x:=by first |exact zan rfl |exact Or.inr (zan rfl) |exact Or.inr (Or.inr rfl))(hd:(x==("__debug__":Str))=false:=by decide)
 (Mg:(x==("__classdict__":Str))=false:=by decide):PE X (.Name x pos) (fZ i):=UQ hN hv hd Mg
end
theorem cu{c A B:Prop}[Decidable c](h1:c->A)(h2:¬c->B):if c then A else B:=by
 by_cases h:c
 ·rw[if_pos h];exact h1 h
 ·rw[if_neg h];exact h2 h
def ay (H H':Hp):Prop:=∀b o,H b=some o->H' b=some o
theorem ay.refl(H:Hp):ay H H:=fun _ _ h=>h
theorem ay.trans{H H1 H2:Hp}(a:ay H H1)(b:ay H1 H2):ay H H2:=fun c o h=>b c o (a c o h)
theorem ay.free{H H':Hp}(e:ay H H'){l:zdP}(h:H' l=zdN):H l=zdN:=by
 cases q:H l with
 |none=>rfl
 |some o=>
  rw[e l o q] at h;cases h
theorem ay.seq{K:zab}{H H':Hp}{a:zdP}{xs:List V}(e:ay H H')(h:gI K H a xs):gI K H' a xs:=by
 rcases h with (h |⟨o,h⟩) |h
 ·exact .inl (.inl (e _ _ h))
 ·exact .inl (.inr ⟨o,e _ _ h⟩)
 ·exact .inr h
section
variable{κ:Type}[DecidableEq κ]
def eL (bg:List (κ×V)) (k:κ):Option V:=(bg.find? fun kv=>decide (kv.1=k)).map (·.2)
def putK (bg:List (κ×V)) (k:κ) (v:V):List (κ×V):=
 if (bg.any fun kv=>decide (kv.1=k))=true then bg.map (fun kv=>if kv.1=k then (kv.1,v) else kv) else bg++[(k,v)]
theorem d7{p:κ×V}{r:List (κ×V)}{k:κ}(e:p.1=k):eL (p::r) k=some p.2:=by simp[eL,zbw,e]
theorem d9{p:κ×V}{r:List (κ×V)}{k:κ}(e:¬p.1=k):eL (p::r) k=eL r k:=by simp[eL,zbw,e]
theorem qh(k:κ):∀bg:List (κ×V),(bg.any fun kv=>decide (kv.1=k))=(eL bg k).isSome
 |[]=>rfl
 |p::r=>by
  rw[zb3];by_cases e:p.1=k
  ·simp only[d7 e,decide_eq_true e,Bool.true_or,Option.isSome_some]
  ·rw[d9 e,decide_eq_false e,zdx];exact qh k r
theorem GB(k j:κ)(y:V):∀bg:List (κ×V),eL (bg.map fun kv=>if kv.1=k then (kv.1,y) else kv) j=(eL bg j).map fun x=>if j=k then y else x
 |[]=>rfl
 |p::r=>by
  have ih:=GB k j y r;rw[zaq];by_cases h:p.1=k
  ·rw[if_pos h];by_cases e:p.1=j
   ·rw[d7 (p:=(p.1,y)) e,d7 e,za9,if_pos (e.symm.trans h)]
   ·rw[d9 (p:=(p.1,y)) e,d9 e,ih]
  ·rw[if_neg h];by_cases e:p.1=j
   ·rw[d7 (p:=p) e,d7 e,za9,if_neg (fun z=>h (e.trans z))]
   ·rw[d9 (p:=p) e,d9 e,ih]
theorem D7(k j:κ)(y:V):∀bg:List (κ×V),eL bg k=none->eL (bg++[(k,y)]) j=if j=k then some y else eL bg j
 |[],_=>by
  by_cases e:k=j
  ·rw[if_pos e.symm];exact d7 (p:=(k,y)) e
  ·rw[if_neg (fun z=>e z.symm)];exact d9 (p:=(k,y)) e
 |p::r,hn=>by
  rw[zaS];have hk:¬p.1=k:=fun z=>by rw[d7 z] at hn;cases hn
  rw[d9 hk] at hn;have ih:=D7 k j y r hn;by_cases e:p.1=j
  ·rw[d7 e,d7 e,if_neg (fun z=>hk (e.trans z))]
  ·rw[d9 e,d9 e,ih]
theorem AK(bg:List (κ×V))(k j:κ)(y:V):eL (putK bg k y) j=if j=k then some y else eL bg j:=by
 unfold putK;by_cases a:(bg.any fun kv=>decide (kv.1=k))=true
 ·rw[if_pos a,GB];rw[qh] at a;by_cases e:j=k
  ·obtain⟨x,hx⟩:=zc3.mp a;rw[if_pos e,e,hx,za9,if_pos rfl]
  ·rw[if_neg e];cases eL bg j with
   |none=>rfl
   |some x=>rw[za9,if_neg e]
 ·rw[if_neg a];refine D7 k j y bg ?_;rw[qh] at a;cases q:eL bg k with
  |none=>rfl
  |some x=>rw[q] at a;exact(a rfl).elim
theorem r6.D8{o:Option V}{u:Option zdQ}(r:r6 o u):o.isSome=u.isSome:=by
 cases o with
 |none=>cases u with
  |none=>rfl
  |some _=>exact(show False from r).elim
 |some _=>cases u with
  |none=>exact(show False from r).elim
  |some _=>rfl
theorem r6.getD{o:Option V}{u:Option zdQ}{d:V}{d':zdQ}(r:r6 o u)(rd:RelV d d'):RelV (o.getD d) (u.getD d'):=by
 cases o with
 |none=>cases u with
  |none=>exact rd
  |some _=>exact(show False from r).elim
 |some _=>cases u with
  |none=>exact(show False from r).elim
  |some _=>exact r
theorem KV.val{bg:List (κ×V)}{vs:List (κ×zdQ)}(r:KV bg vs)(k:κ):r6 (eL bg k) (valueAt vs k):=by
 unfold KV at r
 induction r with
 |nil=>exact True.intro
 |@cons p q ps qs h t ih=>
  obtain⟨h1,h2⟩:=h;by_cases e:p.1=k
  ·have e':q.1=k:=h1.symm.trans e;have b:valueAt (q::qs) k=some q.2:=by simp[valueAt,zbw,e']
   rw[d7 e,b];exact h2
  ·have e':¬q.1=k:=fun z=>e (h1.trans z);have b:valueAt (q::qs) k=valueAt qs k:=by simp[valueAt,zbw,e']
   rw[d9 e,b];exact ih
theorem KV.any{bg:List (κ×V)}{vs:List (κ×zdQ)}(r:KV bg vs)(k:κ):(bg.any fun kv=>decide (kv.1=k))=vs.any fun kv=>decide (kv.1=k):=by
 unfold KV at r
 induction r with
 |nil=>rfl
 |cons h t ih=>rw[zb3,zb3,ih,h.1]
theorem KV.Vz{bg:List (κ×V)}{vs:List (κ×zdQ)}(r:KV bg vs)(k:κ){y:V}{u:zdQ}(ry:RelV y u) :
 KV (bg.map fun kv=>if kv.1=k then (kv.1,y) else kv) (vs.map fun kv=>if kv.1=k then (kv.1,u) else kv):=by
 unfold KV at r ⊢
 induction r with
 |nil=>exact .nil
 |@cons p q ps qs h t ih=>
  rw[zaq,zaq];refine .cons ?_ ih;obtain⟨h1,h2⟩:=h;by_cases e:p.1=k
  ·rw[if_pos e,if_pos (h1.symm.trans e)];exact⟨h1,ry⟩
  ·rw[if_neg e,if_neg (fun z=>e (h1.trans z))];exact⟨h1,h2⟩
theorem KV.put{bg:List (κ×V)}{vs:List (κ×zdQ)}(r:KV bg vs)(k:κ){y:V}{u:zdQ}(ry:RelV y u):KV (putK bg k y) (stored vs k u):=by
 unfold putK stored;rw[r.any k];by_cases e:(vs.any fun kv=>decide (kv.1=k))=true
 ·rw[if_pos e,if_pos e];exact r.Vz k ry
 ·rw[if_neg e,if_neg e];exact Paired.snoc r ⟨rfl,ry⟩
theorem KV.length{bg:List (κ×V)}{vs:List (κ×zdQ)}(r:KV bg vs):bg.length=vs.length:=Paired.length r
end
theorem OT{P:zd1}{w:zdR}{k:Key}{u:zdQ}(r:RelV (kV k) u):(fM P w).is k u=true:=by
 cases k with
 |inl i=>obtain⟨t,e⟩:=(show ∃t,u=Value.int i t from r);subst e;exact Gj P w i t
 |inr x=>obtain⟨t,e⟩:=(show ∃t,u=Value.str x t from r);subst e;exact Gk P w x t
abbrev KT (H:Hp):List (List Key×V)->List (List Key×zdP×zdQ)->Prop:=Paired fun p q=>p.1=q.1/\H q.2.1=some (.tup (p.1.map kV))/\RelV p.2 q.2.2
theorem KT.val{H:Hp}{bg:List (List Key×V)}{xs:List (List Key×zdP×zdQ)}(r:KT H bg xs)(k:List Key):r6 (eL bg k) ((atKey xs k).map (·.2)):=by
 induction r with
 |nil=>exact True.intro
 |@cons p q ps qs h t ih=>
  obtain⟨h1,_,h2⟩:=h;by_cases e:p.1=k
  ·have e':q.1=k:=h1.symm.trans e;have b:atKey (q::qs) k=some q.2:=by simp[atKey,zbw,e']
   rw[d7 e,b];exact h2
  ·have e':¬q.1=k:=fun z=>e (h1.trans z);have b:atKey (q::qs) k=atKey qs k:=by simp[atKey,zbw,e']
   rw[d9 e,b];exact ih
theorem KT.Vz{H:Hp}{bg:List (List Key×V)}{xs:List (List Key×zdP×zdQ)}(r:KT H bg xs)(k:List Key){y:V}{u:zdQ}(ry:RelV y u) :
 KT H (bg.map fun kv=>if kv.1=k then (kv.1,y) else kv) (xs.map (putAt k u)):=by
 induction r with
 |nil=>exact .nil
 |@cons p q ps qs h t ih=>
  rw[zaq,zaq];refine .cons ?_ ih;obtain⟨h1,h2,h3⟩:=h;unfold putAt;by_cases e:p.1=k
  ·rw[if_pos e,if_pos (h1.symm.trans e)];exact⟨h1,h2,ry⟩
  ·rw[if_neg e,if_neg (fun z=>e (h1.trans z))];exact⟨h1,h2,h3⟩
theorem KT.put{H:Hp}{bg:List (List Key×V)}{xs:List (List Key×zdP×zdQ)}(r:KT H bg xs)(k:List Key){b:zdP}{y:V}{u:zdQ}(hb:H b=some (.tup (k.map kV)))(ry:RelV y u) :
 KT H (putK bg k y) (storedH xs k b u):=by
 have e:(bg.any fun kv=>decide (kv.1=k))=(atKey xs k).isSome:=by
  rw[qh,(r.val k).D8,Option.isSome_map]
 unfold putK storedH;rw[e];by_cases q:(atKey xs k).isSome=true
 ·rw[if_pos q,if_pos q];exact r.Vz k ry
 ·rw[if_neg q,if_neg q];exact Paired.snoc r ⟨rfl,hb,ry⟩
def Jx (H:Hp) (a:zdP) (y:V) (r:Option V):Prop:=
 (∃bg k,Rd H a (.dK bg)/\y=kV k/\r=eL bg k)\/∃bg k b,Rd H a (.dT bg)/\y=.ref b/\H b=some (.tup (k.map kV))/\r=eL bg k
def Sf (H:Hp) (a:zdP) (y v:V) (H':Hp):Prop:=
 (∃bg k,H a=some (.dK bg)/\y=kV k/\bg.length<zdX/\H'=upd H a (.dK (putK bg k v)))\/
 ∃bg k b,H a=some (.dT bg)/\y=.ref b/\H b=some (.tup (k.map kV))/\bg.length<zdX/\H'=upd H a (.dT (putK bg k v))
theorem Jx.k{H:Hp}{a:zdP}{bg:List (Key×V)}{k:Key}(e:H a=some (.dK bg)):Jx H a (kV k) (eL bg k):=.inl ⟨bg,k,.inl e,rfl,rfl⟩
theorem Sf.k{H:Hp}{a:zdP}{bg:List (Key×V)}{k:Key}{v:V}(e:H a=some (.dK bg))(hl:bg.length<zdX):Sf H a (kV k) v (upd H a (.dK (putK bg k v))):=.inl ⟨bg,k,e,rfl,hl,rfl⟩
def X8 (td ty:TE):TE:=fun σ H Q=>td σ H fun x H1=>ty σ H1 fun y H2=>∃a v,x=.ref a/\Jx H2 a y (some v)/\Q v H2
def X9 (td ty tv:TE):TS:=fun D σ H=>tv σ H fun v H1=>td σ H1 fun x H2=>ty σ H2 fun y H3=>∃a H4,x=.ref a/\Sf H3 a y v H4/\D.nx σ H4
def VA:TE:=fun _ H Q=>∀p,H p=none->Q (.ref p) (upd H p (.dK []))
structure M2(X:Cx)(o:Expr)(m:Str)(apos:Pos)(e f:Expr)(jU:Pos):Prop where
 base:attributeBase o m X.env (eval o X.env)=eval o X.env
 Gf:((backTo jU (zdV [e,f] X.env)).all (fun x=>!x.1)&&(backToKw jU (keywordEach [] X.env)).all (fun x=>x.1.isSome)
  && decide (([e,f]:List Expr).length+([]:List Keyword).length+(if ([]:List Keyword).isEmpty then 0 else 1)<30))=true
 line:(apos.endLine==jU.line)=true
 trees:backTo jU (zdV [e,f] X.env)=[(false,eval e X.env),(false,eval f X.env)]
def xQ (env:Env):List (Str×NameKind)->List (Str×zdP)->List (Str×zdP)
 |[],cs=>cs
 |(n,k)::r,cs=>xQ env r (if k==.free then (n,(env.cells.lookup n).getD 0)::cs else cs)
theorem zD{scope:Scope}{env:Env}(h:∀p∈scope.names,p.2=.free->∃c,env.cells.lookup p.1=some c):closureFor scope env=pure (xQ env scope.names []):=by
 have all:∀(l:List (Str×NameKind)) (cs:List (Str×zdP)),(∀p∈l,p.2=.free->∃c,env.cells.lookup p.1=some c)->
  (forIn l cs fun (x:Str×NameKind) (r:List (Str×zdP))=>if (x.2==NameKind.free)=true then do let a <- cellOf env x.1;pure (ForInStep.yield ((x.1,a)::r)) else (pure (ForInStep.yield r):Sem _))=pure (xQ env l cs):=by
  intro l
  induction l with
  |nil=>intro cs _;rfl
  |cons p r ih=>
   intro cs hp;obtain⟨n,k⟩:=p;rw[zdh];by_cases hk:k=.free
   ·subst hk;obtain⟨c,e⟩:=hp (n,.free) zap rfl;have e1:cellOf env n=pure c:=by unfold cellOf;rw[e]
    simp only[beq_self_eq_true,if_true,e1,pure_bind];rw[ih _ fun p GC=>hp p (zak _ GC)];simp[xQ,e]
   ·have hb:(k==NameKind.free)=false:=by simpa using hk
    simp only[hb,zbB,if_false,pure_bind];rw[ih _ fun p GC=>hp p (zak _ GC)];simp[xQ,hb]
 simp only[closureFor];rw[all scope.names [] h];simp
theorem wG{env:Env}{x:Str}{c:zdP}:∀ {l:List (Str×NameKind)} {cs:List (Str×zdP)},(∀p∈l,p.2=.free->∃c,env.cells.lookup p.1=some c)->(∀x c,cs.lookup x=some c->env.cells.lookup x=some c)->
 (xQ env l cs).lookup x=some c->env.cells.lookup x=some c
 |[],_,_,h,e=>h x c e
 |(n,k)::r,cs,hp,h,e=>by
  unfold xQ at e;refine wG (fun p q=>hp p (zak _ q)) ?_ e;intro y d q;by_cases hk:k=.free
  ·subst hk;obtain⟨c',e'⟩:=hp (n,.free) zap rfl;simp only[beq_self_eq_true,if_true] at q;rw[zbr] at q;cases hy:y==n with
   |true=>
    rw[hy] at q;have:y=n:=by simpa using hy
    subst this;simp only at e';rw[e'] at q ⊢;exact q
   |false=>rw[hy] at q;exact h y d q
  ·have hb:(k==NameKind.free)=false:=by simpa using hk
   simp only[hb,zbB,if_false] at q;exact h y d q
theorem AL{env:Env}{x:Str}:∀ {l:List (Str×NameKind)} {cs:List (Str×zdP)},((∃c,cs.lookup x=some c)\/(x,NameKind.free)∈l)->∃c,(xQ env l cs).lookup x=some c
 |[],_,h=>by
  rcases h with h |h
  ·exact h
  ·exact absurd h (by simp)
 |(n,k)::r,cs,h=>by
  unfold xQ
  apply AL
  rcases h with ⟨c,h⟩ |h
  ·left
   by_cases hk:k=.free
   ·subst hk;simp only[beq_self_eq_true,if_true];rw[zbr];cases hy:x==n with
    |true=>exact⟨_,rfl⟩
    |false=>exact⟨c,h⟩
   ·have hb:(k==NameKind.free)=false:=by simpa using hk
    simp only[hb,zbB,if_false];exact⟨c,h⟩
  ·rcases zai.mp h with e |h
   ·injection e with e1 e2
    subst e1;subst e2
    left
    simp only[beq_self_eq_true,if_true];rw[zbr];simp
   ·exact .inr h
theorem sA{scope:Scope}{env:Env}{x:Str}:(relabel scope env).names.lookup x=(scope.names.lookup x).map fun k=>if (k==NameKind.free&&env.scope.kind==.function&&env.kindOf x==some .cell)=true then .cell else k:=by
 unfold relabel;show zbU x (scope.names.map _)=_;generalize scope.names=l
 induction l with
 |nil=>rfl
 |cons p r ih=>
  obtain⟨n,k⟩:=p;rw[zaq,zbr (as:=r)];show zbU x ((if (k==NameKind.free&&env.scope.kind==.function&&env.kindOf n==some .cell)=true then (n,NameKind.cell) else (n,k))::_)=_;cases hx:x==n with
  |true=>
   have e:x=n:=by simpa using hx
   subst e;by_cases hc:(k==NameKind.free&&env.scope.kind==.function&&env.kindOf x==some .cell)=true
   ·rw[if_pos hc];simp only[zbr,beq_self_eq_true,za9];rw[if_pos hc]
   ·rw[if_neg hc];simp only[zbr,beq_self_eq_true,za9];rw[if_neg hc]
  |false=>
   by_cases hc:(k==NameKind.free&&env.scope.kind==.function&&env.kindOf n==some .cell)=true
   ·rw[if_pos hc];simp only[zbr,hx];exact ih
   ·rw[if_neg hc];simp only[zbr,hx];exact ih
theorem mem_of_lookup{x:Str}{k:NameKind}:∀ {l:List (Str×NameKind)},l.lookup x=some k->(x,k)∈l
 |[],h=>by simp at h
 |(n,j)::r,h=>by
  rw[zbr] at h;cases hx:x==n with
  |true=>
   rw[hx] at h;have e:x=n:=by simpa using hx
   cases h;subst e;exact zap
  |false=>rw[hx] at h;exact zak _ (mem_of_lookup h)
def mT (sc out:Scope):Bool:=
 (sc.names.all fun p=>p.2 != .cell&&(p.2 != .free ||out.names.lookup p.1==some .cell ||out.names.lookup p.1==some .free)&&(p.2 != .local ||sc.names.lookup p.1==some .local))&&decide (sc.kind=.function)
def z9 (sc out:Scope) (N:List Str) (ix:List Nat):Bool:=
 ix.all fun i=>sc.names.lookup (N.getD i "")==some .free&&(out.names.lookup (N.getD i "")==some .cell ||out.names.lookup (N.getD i "")==some .free)
def OU (σ:St) (ix:List Nat):St:=ix.map fun i=>σ.getD i none
abbrev La (N:List Str) (ix:List Nat):List Str:=ix.map fun i=>N.getD i ""
def nt (X:Cx) (scope:Scope) (own:List Str) (ix:List Nat) (C:zdP) (s₀:zdZ) (H₀:Hp) (ex:List zdP):Cx where
 prog:=X.prog
 w:=X.w
 K:=X.K
 mg:=X.mg
 base:=X.base
 A:=X.A
 N:=own++La X.N ix
 s₀:=s₀
 H₀:=H₀
 env:=compEnvC scope (xQ X.env scope.names []) C X.env
 outer:=X.stack
 stack:=X.stack
 ex:=ex
 fn:=fun _=>false
 calm:=X.calm
 pn:=[]
 xe:=fun _ _=>False
section
variable{X:Cx}{pins:List (zdP×Obj)}{σ:St}{H:Hp}{s:zdZ}
theorem sC{sc out:Scope}(h:mT sc out=true):∀p∈sc.names,p.2≠.cell/\(p.2=.free->out.names.lookup p.1=some .cell\/out.names.lookup p.1=some .free)/\(p.2=.local->sc.names.lookup p.1=some .local):=by
 intro p hp;unfold mT at h;rw[zaD] at h;have:=za4.mp h.1 p hp;simp only[zaD,Bool.or_eq_true,bne_iff_ne,beq_iff_eq,ne_eq] at this;obtain⟨⟨h1,h2⟩,h3⟩:=this;refine⟨h1,fun e=>?_,fun e=>?_⟩
 ·rcases h2 with (h2 |h2) |h2
  ·exact absurd e h2
  ·exact .inl h2
  ·exact .inr h2
 ·rcases h3 with h3 |h3
  ·exact absurd e h3
  ·exact h3
theorem qM{sc out:Scope}(h:mT sc out=true):sc.kind=.function:=by
 unfold mT at h;rw[zaD] at h;exact of_decide_eq_true h.2
theorem Sg{scope:Scope}{own:List Str}{ix:List Nat}{ex:List zdP}(I:Inv X pins σ H s)(hf:mT scope X.env.scope=true)(hx:∀b∈ex,vv X pins H b/\b<s.heap.objs.size):(nt X scope own ix s.heap.objs.size s H ex).Ok:=by
 have fits:=(sC hf)
 have wA:∀p∈scope.names,p.2=.free->∃c,X.env.cells.lookup p.1=some c:=fun p hp e=>I.ok.has p.1 ((fits p hp).2.1 e);have sub:∀ {x:Str} {c:zdP},(xQ X.env scope.names []).lookup x=some c->X.env.cells.lookup x=some c:=fun {x c} e=>wG wA (fun x c e=>by simp at e) e;refine⟨I.ok.mod,(show scope.kind=.function from qM hf),I.ok.glob,I.ok.blt,zah _,fun x y c a b=>I.ok.inj x y c (sub a) (sub b),fun x hk=>?_,fun x c e=>(by cases e),I.ok.hd,I.ok.frames,.inl rfl,fun b hb=>⟨zaR (hx b hb).2,fun x c e=>(hx b hb).1.2.2.2.2.1 x c (sub e)⟩,I.bs,zay I.ok.Jf I.sz,fun b o e hb=>?_,fun b hb hs=>?_,I.stack,I.z7⟩
 ·refine AL (.inr ?_);have Xc:(relabel scope X.env).names.lookup x=some .cell\/(relabel scope X.env).names.lookup x=some .free:=hk;rw[sA] at Xc;cases q:scope.names.lookup x with
  |none=>rw[q] at Xc;rcases Xc with z |z<;>cases z
  |some k=>
   have hm:=mem_of_lookup q;by_cases hkf:k=.free
   ·subst hkf;exact hm
   ·rw[q] at Xc;have hb:(k==NameKind.free)=false:=by simpa using hkf
    simp only[za9,hb,Bool.false_and,zbB,if_false,zaG.injEq] at Xc;rcases Xc with z |z
    ·exact absurd z (fits _ hm).1
    ·exact absurd z hkf
 ·rcases(hx b hb).1.2.2.2.1 with z |z
  ·exact I.ok.EI b o e z
  ·exact absurd (zaH (Heap.lt_size e) (zay I.ok.Jf z)) (zbO _)
 ·rcases zai.mp (I.xM b hs) with z |z
  ·exact(hx b hb).1.2.1 z
  ·exact(hx b hb).1.2.2.1 z
theorem OV{scope:Scope}{own:List Str}{ix:List Nat}{ex:List zdP}{h':Heap}{tk:Nat}(I:Inv X pins σ H s)(hf:mT scope X.env.scope=true)(hc:z9 scope X.env.scope X.N ix=true)(hx:∀b∈ex,vv X pins H b/\b<s.heap.objs.size)
 (hn:h'.Ns s.heap.objs.size fun _=>none) (hk:∀b o,s.heap.get? b=some o->h'.get? b=some o):Inv (nt X scope own ix s.heap.objs.size s H ex) [] (zax own.length none++OU σ ix) H {s with heap:=h',toks:=tk}:=by
 have fits:=(sC hf)
 have wA:∀p∈scope.names,p.2=.free->∃c,X.env.cells.lookup p.1=some c:=fun p hp e=>I.ok.has p.1 ((fits p hp).2.1 e);have sub:∀ {x:Str} {c:zdP},(xQ X.env scope.names []).lookup x=some c->X.env.cells.lookup x=some c:=fun {x c} e=>wG wA (fun x c e=>by simp at e) e;refine⟨Sg I hf hx,rfl,I.bare,Un.kept hk,⟨_,hn,fun i x v e1 e2 e3=>?_⟩,fun x c e=>?_,I.eC.fresh (zah _),fun x c e=>I.lh x c (sub e),fun p hp=>absurd (show p∈([]:List (zdP×Obj))++[] from hp) (by simp),I.eC.kept hk,?_⟩
 ·have e1:(own++La X.N ix)[i]?=some x:=e1;by_cases hi:i<own.length
  ·rw[zbq (by simpa using hi),zda,if_pos hi] at e2;cases e2
  ·have RN:own.length<=i:=Nat.le_of_not_lt hi;rw[zbm (by simpa using RN),zbA] at e2;rw[zbm RN] at e1;unfold OU at e2;unfold La at e1;rw[zaE] at e1 e2;cases q:ix[i-own.length]? with
   |none=>rw[q] at e2;cases e2
   |some j=>
    rw[q] at e1 e2;simp only[za9,zaG.injEq] at e1 e2;have hj:j∈ix:=zbj q;have fit:=za4.mp hc j hj;simp only[zaD,Bool.or_eq_true,beq_iff_eq] at fit;rw[e1] at fit;have ej:σ[j]?=some (some v):=by
     rw[zaz] at e2;cases r:σ[j]? with
     |none=>rw[r] at e2;cases e2
     |some z=>rw[r] at e2;simp only[Option.getD_some] at e2;rw[e2]
    have hjl:j<X.N.length:=by rw[<- I.len];exact(zar.mp ej).1
    have en:X.N[j]?=some x:=by
     rw[zaz] at e1;rw[zag hjl] at e1 ⊢;simp only[Option.getD_some] at e1;rw[e1]
    obtain⟨m,hm,hl⟩:=I.loc;have hv:ZI X.env.scope x:=by
     rcases fit.2 with z |z
     ·exact .inr (.inl z)
     ·exact .inr (.inr z)
    obtain⟨u,r,l⟩:=hl j x v en ej hv;refine⟨u,r,.inr ⟨?_,?_⟩⟩
    ·show (relabel scope X.env).names.lookup x=some .cell\/(relabel scope X.env).names.lookup x=some .free;rw[sA,fit.1];simp only[za9];split
     ·exact .inl rfl
     ·exact .inr rfl
    ·rcases l with ⟨k1,_⟩ |⟨_,c,ec,KR⟩
     ·have k1:X.env.scope.names.lookup x=some .local:=k1;rcases fit.2 with z |z<;>(rw[z] at k1;cases k1)
     ·obtain⟨c',e'⟩:∃c,(xQ X.env scope.names []).lookup x=some c:=AL (.inr (mem_of_lookup fit.1));have:=sub e';rw[ec] at this;cases this;exact⟨c,e',KR.keeps hk⟩
 ·obtain⟨v,z⟩:=I.cell x c (sub e);exact⟨v,z.keeps hk⟩
 ·show (zax own.length none++OU σ ix).length=(own++La X.N ix).length;simp[OU]
theorem comp_back{scope:Scope}{own:List Str}{ix:List Nat}{ex:List zdP}{τ:St}{H':Hp}{s':zdZ}{yT:List (zdP×Obj)}(I:Inv X pins σ H s)(hx:∀b∈ex,vv X pins H b/\b<s.heap.objs.size)
 (I':Inv (nt X scope own ix s.heap.objs.size s H ex) yT τ H' s'):Inv X pins σ H' s'/\H' s.heap.objs.size=none/\s.heap.objs.size≠X.env.locals/\X.s₀.heap.objs.size<=s.heap.objs.size/\(∀x c,X.env.cells.lookup x=some c->c≠s.heap.objs.size)/\∀p∈X.pn++pins,p.1≠s.heap.objs.size:=by
 refine⟨I.TJ (ch:=ex) I'.os I'.base I'.eC I'.bare fun b hb=>?_,I'.free,zdG I.lt,I.sz,fun x c e z=>?_,fun p hp z=>?_⟩
 ·obtain⟨f0,f1,f2,f3,f4,f5⟩:=(hx b hb).1;exact⟨f3,f1,f4,f5⟩
 ·obtain⟨v,q⟩:=I.cell x c e;exact absurd q.lt (by rw[z];exact zbO _)
 ·exact absurd (Heap.lt_size (I.pin p hp).1) (by rw[z];exact zbO _)
end
def Xd (X:Cx) (ifs:List Expr) (t:TT):Prop:=
 ∀(pins:List (zdP×Obj)) (s:zdZ) (σ:St) (H:Hp) (Q:Bool->Hp->Prop),Inv X pins σ H s->t σ H Q->
  wpAny (model X.prog X.w) X.A (forIn ifs true fun c r=>if r=true then do let ok <- isTrue c X.env (eval c X.env);pure (ForInStep.yield ok) else pure (ForInStep.yield r)) (TP X pins σ Q) X.xe s
def GD:TT:=fun _ H Q=>Q true H
theorem qN{X:Cx}:Xd X [] GD:=fun _ _ _ H _ I h=>wpAny_tests_nil ⟨H,I,h⟩
theorem Sh{X:Cx}{c:Expr}{t:TT}(h:PT X c t):Xd X [c] t:=fun pins s σ H Q I q=>wpAny_tests_one (h pins s σ H Q I q)
def sD (J:It) (D:zdP) (g:TG) (tc:TT) (te:TE) (Q:VK) (τ:St) (H:Hp):Prop:=∃W:Nat->Nat->St->Hp->Prop,(∃m,W 0 m τ H)/\∀i m τ H,W i m τ H->
 (J.stop i H/\Q (.ref D) H)\/(J.go i H/\∃N:St->Hp->Prop,(∀τ' H',N τ' H'->∃m',m'<m/\W (i+1) m' τ' H')/\∀x H',J.Gb i H x H'->g x τ H' fun τ2 H2=>tc τ2 H2 fun b H3=>if b=true then
  te τ2 H3 fun y H4=>∃ys,H4 D=some (.lst ys)/\ys.length<zdX/\N τ2 (upd H4 D (.lst (ys++[y]))) else N τ2 H3)
def yX (wi:TI) (k:Nat) (ix:List Nat) (g:TG) (tc:TT) (te:TE):TE:=fun σ H Q=>wi σ H fun J H1=>∀D,H1 D=none->sD J D g tc te Q (zax k none++OU σ ix) (upd H1 D (.lst []))
section
variable{X:Cx}{tg iter elt:Expr}{ifs:List Expr}{scope:Scope}{pos:Pos}{own:List Str}{ix:List Nat}{wi:TI}{g:TG}{tc:TT}{te:TE}
theorem Mz{it D:zdP}{fp:List zdP}{tn:Nat->Heap->Prop}{J:It}{Q:VK}{R:Result->zdZ->Prop}{s:zdZ}{τ:St}{H:Hp}(uW:X.calm=true)(hxe:X.xe=fun _ _=>False)(hpn:X.pn=[])(T:Turn X.prog X.w X.K tg J fp it tn)
 (he:PE X elt te) (hg:PG X tg g) (ht:Xd X ifs tc) (I:Inv X [] τ H s) (hfp:∀b∈fp,vv X [] H b) (h0:tn 0 s.heap) (hW:sD J D g tc te Q τ H)
 (hR:∀τ' H' s',Inv X [] τ' H' s'->Q (.ref D) H'->R (.ok .next) s') :
 codeAny (model X.prog X.w) X.A (.compLoop (.ListComp elt [⟨tg,iter,ifs,0⟩] scope pos) 0 (.ref it) (.ref D) X.env) R s:=by
 obtain⟨W,⟨m0,w0⟩,turn⟩:=hW;have no:∀ {E:zdQ->zdZ->Prop} (e:zdQ) (s':zdZ),X.xe e s'->E e s':=fun e s' z=>by rw[hxe] at z;exact z.elim
 have stat:∀ {H':Hp},(∀b∈fp,H' b=none)->∀b∈fp,vv X [] H' b:=fun hn b hb=>⟨hn b hb,(hfp b hb).2⟩
 refine codeAny_loop rfl (fun n s'=>∃i τ' H',Inv X [] τ' H' s'/\tn i s'.heap/\(∀b∈fp,H' b=none)/\W i n τ' H') (fun n s3 hI=>?_) m0 ⟨0,τ,H,I,h0,fun b hb=>(hfp b hb).1,w0⟩;obtain⟨i,τ3,H3,I3,TQ,XG,w3⟩:=hI;show wpAny _ X.A ((compTurn (.ListComp elt [⟨tg,iter,ifs,0⟩] scope pos) 0 (.ref it) (.ref D) X.env).onRaise (fun x=>do noteFrame x X.env;theTreesLotGoes x)) _ _ s3;refine wpAny_noted ?_;rw[compTurn_list];refine zdS (wpAny_standAt (zdS ?_));rcases turn i n τ3 H3 w3 with ⟨stop,q⟩ |⟨go,N,hN,step⟩
 ·refine wpAny_mono (T.done X rfl rfl rfl uW i [] s3 τ3 H3 X.xe I3 (stat XG) TQ stop) (fun r s4 zqz=>?_) no;obtain⟨hr,I4⟩:=zqz;subst hr;exact zdT (hR τ3 H3 s4 I4 q)
 ·refine wpAny_mono (T.item X rfl rfl rfl uW i [] s3 τ3 H3 X.xe I3 (stat XG) TQ go) (fun r s4 zqz=>?_) no;obtain⟨u,hr,h4⟩:=zqz;subst hr;refine zdS (wpAny_mono h4 (fun _ s5 zqz=>?_) no);obtain⟨x,H5,I5,r5,y5,Vb,fr5⟩:=zqz;have I5':=I5.pinned (stat fr5) (T.obj _ _ Vb);refine zdS (wpAny_mono (hg _ s5 τ3 H5 x u _ I5' r5 (step x H5 y5)) (fun _ s6 zqz=>?_) no);obtain⟨τ6,H6,I6,q6⟩:=zqz;refine zdS (wpAny_mono (ht _ s6 τ6 H6 _ I6 q6) (fun b s7 zqz=>?_) no);obtain⟨H7,I7,q7⟩:=zqz;have again:∀ {τ7:St} {H7:Hp} {s7:zdZ},Inv X ([]++As fp s5.heap) τ7 H7 s7->N τ7 H7->∃m,m<n/\∃i σ' H',Inv X [] σ' H' s7/\tn i s7.heap/\(∀b∈fp,H' b=none)/\W i m σ' H':=fun {τ7 H7 s7} I7 n7=>by
   obtain⟨m',hm,w7⟩:=hN τ7 H7 n7;refine⟨m',hm,i+1,τ7,H7,I7.qf,T.keep _ _ _ Vb fun b hb o e=>(I7.pin (b,o) (zaJ _ (zaJ _ (qI hb e)))).1,fun b hb=>?_,w7⟩;obtain⟨o,e,d⟩:=T.obj _ _ Vb b hb;exact(I7.pin (b,o) (zaJ _ (zaJ _ (qI hb e)))).2.1
  cases b with
  |false=>exact zdT ⟨rfl,again I7 q7⟩
  |true=>
   refine zdS (zdS (wpAny_mono (he _ s7 τ6 H7 _ I7 q7) (fun v s8 ⟨y,H8,I8,r8,ys,hD,hl,q8⟩=>zdS ?_) no));refine wpAny_mono (cZ _ s8 τ6 H8 (.ref D) [y] (.ref D) [v] (fun _ H'=>N τ6 H') I8 rfl (.cons r8 .nil) ⟨D,ys,y,rfl,rfl,hD,hl,q8⟩) (fun _ s9 zqz=>?_) no;obtain⟨_,H9,I9,_,q9⟩:=zqz;exact zdT (zdT ⟨rfl,again I9 q9⟩)
theorem GF{pins:List (zdP×Obj)}{s:zdZ}{σ:St}{H:Hp}{Q:VK}{use:Option (zdQ->Sem Unit)}{Q':zdQ->zdZ->Prop}(uW:X.calm=true)(hf:mT scope X.env.scope=true)(hc:z9 scope X.env.scope X.N ix=true)
 (hi:PI X tg iter wi) (hg:∀C s₀ H₀ ex,PG (nt X scope own ix C s₀ H₀ ex) tg g) (ht:∀C s₀ H₀ ex,Xd (nt X scope own ix C s₀ H₀ ex) ifs tc) (he:∀C s₀ H₀ ex,PE (nt X scope own ix C s₀ H₀ ex) elt te)
 (I:Inv X pins σ H s) (h:yX wi own.length ix g tc te σ H Q)
 (hU:∀(D C:zdP) (H':Hp) (s':zdZ) (m:Str->Option zdQ),Inv X pins σ H' s'->Q (.ref D) H'->s'.heap.Ns C m->H' C=none->C≠X.env.locals->X.s₀.heap.objs.size<=C->(∀x c,X.env.cells.lookup x=some c->c≠C)->(∀p∈X.pn++pins,p.1≠C)->compPost (model X.prog X.w) X.A X.xe use Q' (.ref D) C (.ok .next) s')
 (hs:∀x,foldedSetIterable iter X.env x=pure x) :
 wpAny (model X.prog X.w) X.A (comprehension (.ListComp elt [⟨tg,iter,ifs,0⟩] scope pos) scope X.env (firstIterPos [⟨tg,iter,ifs,0⟩] pos) (newList []) false (eval iter X.env) use) Q' X.xe s:=by
 have fits:=(sC hf)
 have wA:∀p∈scope.names,p.2=.free->∃c,X.env.cells.lookup p.1=some c:=fun p hp e=>I.ok.has p.1 ((fits p hp).2.1 e);refine wpAny_comprehension_free (use:=use) rfl hs (zD wA) (qM hf) (fun x hx=>(fits x hx).2.2) ?_;refine fA (hi pins s σ H _ I h) fun v s1 h1=>fA h1 fun itv s2 h2=>?_;obtain⟨it,fp,tn,J,H2,e,I2,T,TN,f2,hW⟩:=h2;subst e;refine wpAny_newObj_type (hd:=by size_fits) ?_;have hD:H2 s2.heap.objs.size=none:=I2.eC.fresh (zah _);have I3:Inv X pins σ (upd H2 s2.heap.objs.size (.lst [])) {s2 with heap:=s2.heap.push {cls:=.type "list",dict:=none,data:=.seq ([]:List zdQ).toArray} }:=
  I2.laid (t':=s2.toks) (fun b u e=>Heap.get?_push_of_some _ e) (zah _) ⟨zaU _,[],0,.nil,Heap.get?_push_size _ rfl⟩
 have W3:=hW s2.heap.objs.size hD;have lt3:∀b∈fp,b<s2.heap.objs.size:=fun b hb=>let ⟨o,e,_⟩:=T.obj _ _ TN b hb;Heap.lt_size e;have Ya:∀b∈fp,vv X pins (upd H2 s2.heap.objs.size (.lst [])) b/\b<(s2.heap.push {cls:=.type "list",dict:=none,data:=.seq ([]:List zdQ).toArray}).objs.size:=fun b hb=>
  ⟨⟨by rw[aq (zaR (lt3 b hb))];exact(f2 b hb).1,(f2 b hb).2⟩,by rw[Heap.size_push];exact Nat.lt_succ_of_lt (lt3 b hb)⟩
 have TQ:tn 0 (s2.heap.push {cls:=.type "list",dict:=none,data:=.seq ([]:List zdQ).toArray}):=T.keep _ _ _ TN fun b _ o e=>Heap.get?_push_of_some _ e;generalize hs3:({s2 with heap:=s2.heap.push {cls:=.type "list",dict:=none,data:=.seq ([]:List zdQ).toArray} }:zdZ)=s3 at I3;generalize hH3:upd H2 s2.heap.objs.size (.lst [])=H3 at I3 W3 Ya;have eh:s2.heap.push {cls:=.type "list",dict:=none,data:=.seq ([]:List zdQ).toArray}=s3.heap:=by rw[<- hs3]
 rw[eh] at Ya TQ;refine wpAny_newFunctionEnv (fun x hx=>(fits x hx).1) (by intro y hy;simp at hy) (fun h4 ZS hsb=>?_) (qM hf);have kept:∀b o,s3.heap.get? b=some o->h4.get? b=some o:=fun b o e=>hsb.extBut b o (zaR (Heap.lt_size e)) (Heap.get?_push_of_some _ e);have I4:=OV (own:=own) (tk:=s3.toks+([]:List (Str×zdQ)).length) I3 hf hc Ya ZS kept;have fp4:∀b∈fp,vv (nt X scope own ix s3.heap.objs.size s3 H3 fp) [] H3 b:=fun b hb=>by
  obtain⟨⟨f0,f1,f2',f3,f4,f5⟩,lt⟩:=Ya b hb;refine⟨f0,zaR lt,fun z=>?_,.inl hb,fun x c e=>f4 x c (wG wA (fun x c e=>by simp at e) e),fun p hp=>absurd (show p∈([]:List (zdP×Obj))++[] from hp) (by simp)⟩;rcases zai.mp (I3.xM b z) with z |z
  ·exact f1 z
  ·exact f2' z
 have st4:tn 0 h4:=T.keep _ _ _ TQ fun b _ o e=>kept b o e;have loop:=Mz (X:=nt X scope own ix s3.heap.objs.size s3 H3 fp) (iter:=iter) (scope:=scope) (pos:=pos) (R:=compPost (model X.prog X.w) X.A X.xe use Q' (.ref s2.heap.objs.size) s3.heap.objs.size) uW rfl rfl T (he _ _ _ _) (hg _ _ _ _) (ht _ _ _ _) I4 fp4 st4 W3
  (fun τ' H' s' I' q=>by
   obtain⟨J1,J2,J3,J4,J5,J6⟩:=comp_back I3 Ya I';obtain⟨m,hm,_⟩:=I'.loc;exact hU _ _ H' s' m J1 q hm J2 J3 J4 J5 J6)
 exact codeAny_compStart_list loop (T.self X.A 0 _ _ _ st4 loop)
theorem uy(uW:X.calm=true)(hf:mT scope X.env.scope=true)(hc:z9 scope X.env.scope X.N ix=true)
 (hi:PI X tg iter wi) (hg:∀C s₀ H₀ ex,PG (nt X scope own ix C s₀ H₀ ex) tg g) (ht:∀C s₀ H₀ ex,Xd (nt X scope own ix C s₀ H₀ ex) ifs tc) (he:∀C s₀ H₀ ex,PE (nt X scope own ix C s₀ H₀ ex) elt te)
 (hs:∀x,foldedSetIterable iter X.env x=pure x:=by intro _;rfl):PE X (.ListComp elt [⟨tg,iter,ifs,0⟩] scope pos) (yX wi own.length ix g tc te):=by
 intro pins s σ H Q I h;rw[eval_ListComp];refine GF (use:=none) uW hf hc hi hg ht he I h (fun D C H' s' m I' q hm n1 n2 n3 n4 n5=>?_) hs;refine⟨m,hm,fun h' sb=>⟨.ref D,H',?_,rfl,q⟩⟩;exact I'.turned (t':=s'.toks) (it:=C) (fun b o hb e=>sb.extBut b o hb e) n1 (Ne.symm (Ne.symm n2)) (.inr n3) n4 n5
theorem Lb{i:Nat}{y:Str}{py Yb:Pos}(hN:X.N.Nodup)(hiy:X.N[i]?=some y)(hy:Loc X.env.scope y)(uW:X.calm=true)(hf:mT scope X.env.scope=true)(hc:z9 scope X.env.scope X.N ix=true)
 (hi:PI X tg iter wi) (hg:∀C s₀ H₀ ex,PG (nt X scope own ix C s₀ H₀ ex) tg g) (ht:∀C s₀ H₀ ex,Xd (nt X scope own ix C s₀ H₀ ex) ifs tc) (he:∀C s₀ H₀ ex,PE (nt X scope own ix C s₀ H₀ ex) elt te)
 (hsw:swapsWith (.ListComp elt [⟨tg,iter,ifs,0⟩] scope pos) (some (.Name y py)) Yb.line X.env=pure true:=by rfl)
 (hs:∀x,foldedSetIterable iter X.env x=pure x:=by intro _;rfl) (Xz:X.fn y=true\/X.env.scope.names.lookup y=some .local:=by first |exact .inl rfl |exact .inr rfl |assumption) :
 PS X (.Assign [.Name y py] (.ListComp elt [⟨tg,iter,ifs,0⟩] scope pos) Yb) (Ox (yX wi own.length ix g tc te) (mI i)):=by
 intro pins s σ H D I h;rw[exec_Assign_Name_used _ _ _ _ hsw];refine zdS (wpAny_standAt (zdS ?_));show wpAny _ _ (do let _ <- comprehension (.ListComp elt [⟨tg,iter,ifs,0⟩] scope pos) scope X.env _ (newList []) false (eval iter X.env) (some (assign (.Name y py) X.env))) _ _ s;refine zdS (wpAny_mono (GF (use:=some (assign (.Name y py) X.env)) (Q':=fun _ s'=>SP X pins D .next s') uW hf hc hi hg ht he I h (fun L C H' s' m I' q hm n1 n2 n3 n4 n5=>?_) hs) (fun _ s' hq=>zdT (zdT hq)) fun _ _ e=>e);show wpAny _ _ (assign (.Name y py) X.env (.ref L)) _ _ _;refine wpAny_assign_Name (DW I' hN hiy hy (v:=.ref L) rfl (fun s2 I2 zqz=>?_) Xz);obtain⟨a,sb,ha⟩:=zqz;have hCa:C≠a:=by
  rcases ha with rfl |ha
  ·exact n2
  ·exact fun z=>n4 y a ha z.symm
 refine⟨m,hm.sameBut sb hCa,fun h' sb'=>⟨_,H',?_,q⟩⟩;exact I2.turned (t':=s2.toks) (it:=C) (fun b o hb e=>sb'.extBut b o hb e) n1 n2 (.inr n3) n4 n5
end
inductive Dp where
 |eB |bl (b:Bool) |int (i:Int) |str (x:Str) |tup (l:List Dp) |lst (l:List Dp)
mutual
def Rep (K:zab) (H:Hp):Dp->V->Prop
 |.eB,v=>v=.eB
 |.bl b,v=>v=.bl b
 |.int i,v=>v=.int i
 |.str x,v=>v=.str x
 |.tup l,v=>∃a xs,v=.ref a/\dF K H a xs/\a7 K H l xs
 |.lst l,v=>∃a xs,v=.ref a/\gI K H a xs/\a7 K H l xs
def a7 (K:zab) (H:Hp):List Dp->List V->Prop
 |[],vs=>vs=[]
 |d::ds,vs=>∃v r,vs=v::r/\Rep K H d v/\a7 K H ds r
end
mutual
def Dp.deep:Dp->Nat
 |.tup l=>Dp.OW l+1
 |.lst l=>Dp.OW l+1
 |_=>0
def Dp.OW:List Dp->Nat
 |[]=>0
 |d::ds=>max d.deep (Dp.OW ds)
end
theorem ay.gK{K:zab}{H H':Hp}{a:zdP}{xs:List V}(e:ay H H')(h:dF K H a xs):dF K H' a xs:=by
 rcases h with (h |⟨o,h⟩) |h
 ·exact .inl (.inl (e _ _ h))
 ·exact .inl (.inr ⟨o,e _ _ h⟩)
 ·exact .inr h
mutual
theorem Rep.mono{K:zab}{H H':Hp}(e:ay H H'):∀ {d:Dp} {v:V},Rep K H d v->Rep K H' d v
 |.eB,_,h=>h
 |.bl _,_,h=>h
 |.int _,_,h=>h
 |.str _,_,h=>h
 |.tup l,_,h=>by
  unfold Rep at h ⊢;obtain⟨a,xs,e1,e2,e3⟩:=h;exact⟨a,xs,e1,e.gK e2,a7.mono e e3⟩
 |.lst l,_,h=>by
  unfold Rep at h ⊢;obtain⟨a,xs,e1,e2,e3⟩:=h;exact⟨a,xs,e1,e.seq e2,a7.mono e e3⟩
theorem a7.mono{K:zab}{H H':Hp}(e:ay H H'):∀ {ds:List Dp} {vs:List V},a7 K H ds vs->a7 K H' ds vs
 |[],_,h=>h
 |d::ds,_,h=>by
  unfold a7 at h ⊢;obtain⟨v,r,e1,e2,e3⟩:=h;exact⟨v,r,e1,Rep.mono e e2,a7.mono e e3⟩
end
theorem a7.length{K:zab}{H:Hp}:∀ {ds:List Dp} {vs:List V},a7 K H ds vs->vs.length=ds.length
 |[],_,h=>by unfold a7 at h;rw[h];rfl
 |d::ds,_,h=>by
  unfold a7 at h;obtain⟨v,r,e1,_,e3⟩:=h;rw[e1,zaf,zaf,a7.length e3]
theorem a7.get{K:zab}{H:Hp}:∀ {ds:List Dp} {vs:List V} {i:Nat} {d:Dp},a7 K H ds vs->ds[i]?=some d->∃v,vs[i]?=some v/\Rep K H d v
 |[],_,_,_,_,e=>by simp at e
 |d::ds,_,0,_,h,e=>by
  unfold a7 at h;obtain⟨v,r,e1,e2,e3⟩:=h;simp only[List.getElem?_cons_zero,zaG.injEq] at e;subst e;exact⟨v,by rw[e1];rfl,e2⟩
 |d::ds,_,i+1,d',h,e=>by
  unfold a7 at h;obtain⟨v,r,e1,e2,e3⟩:=h;rw[zdb] at e;obtain⟨v',h1,h2⟩:=a7.get e3 e;exact⟨v',by rw[e1,zdb];exact h1,h2⟩
theorem a7.append{K:zab}{H:Hp}:∀ {ds es:List Dp} {vs us:List V},a7 K H ds vs->a7 K H es us->a7 K H (ds++es) (vs++us)
 |[],_,_,_,h,h'=>by unfold a7 at h;rw[h];exact h'
 |d::ds,_,_,_,h,h'=>by
  unfold a7 at h;obtain⟨v,r,e1,e2,e3⟩:=h;rw[e1];show a7 K H (d::(ds++_)) (v::(r++_));unfold a7;exact⟨v,_,rfl,e2,a7.append e3 h'⟩
theorem a7.nil{K:zab}{H:Hp}:a7 K H [] []:=by unfold a7;rfl
theorem a7.cons{K:zab}{H:Hp}{d:Dp}{ds:List Dp}{v:V}{vs:List V}(h:Rep K H d v)(h':a7 K H ds vs):a7 K H (d::ds) (v::vs):=by unfold a7;exact⟨v,vs,rfl,h,h'⟩
theorem Rep.bV{K:zab}{H:Hp}{l:List Dp}{v:V}:Rep K H (.tup l) v↔∃a xs,v=.ref a/\dF K H a xs/\a7 K H l xs:=by unfold Rep;exact Iff.rfl
theorem Rep.oP{K:zab}{H:Hp}{l:List Dp}{v:V}:Rep K H (.lst l) v↔∃a xs,v=.ref a/\gI K H a xs/\a7 K H l xs:=by unfold Rep;exact Iff.rfl
theorem Rep.cN{K:zab}{H:Hp}{i:Int}{v:V}:Rep K H (.int i) v↔v=.int i:=by unfold Rep;exact Iff.rfl
theorem Rep.a8{K:zab}{H:Hp}{x:Str}{v:V}:Rep K H (.str x) v↔v=.str x:=by unfold Rep;exact Iff.rfl
theorem Rep.vA{K:zab}{H:Hp}{b:Bool}{v:V}:Rep K H (.bl b) v↔v=.bl b:=by unfold Rep;exact Iff.rfl
theorem Rep.wH{K:zab}{H:Hp}{v:V}:Rep K H .eB v↔v=.eB:=by unfold Rep;exact Iff.rfl
theorem a7.bE{K:zab}{H:Hp}{vs:List V}:a7 K H [] vs↔vs=[]:=by unfold a7;exact Iff.rfl
theorem a7.bh{K:zab}{H:Hp}{d:Dp}{ds:List Dp}{vs:List V}:a7 K H (d::ds) vs↔∃v r,vs=v::r/\Rep K H d v/\a7 K H ds r:=by conv=>lhs;unfold a7
theorem ay.new{H:Hp}{p:zdP}(h:H p=none)(o:HO):ay H (upd H p o):=fun b u q=>by rw[aq (aI q h)];exact q
section
variable{X:Cx}
def T3 (K:zab) (b:Bool):R2:=fun x y H Q=>∃d,Rep K H d x/\Rep K H d y/\d.deep<=150/\Q (.bl b) H
end
structure cJ(K:zab)(mg:Str->Option zdQ)(x:Str)(st:Stmt)(ps:List Str)(f:zdP)(fd:zdY):Prop where
 F:Ge K x x st f fd
 b:Binds K fd ps []
 m:mg x=some (.ref f)
end L2
namespace L2
open PySem PySem.Spec PyProof.Rows
theorem Yc{g:Int->Int->V}{i j:Int}{H:Hp}{Q:VK}:R3 g (.int i) (.int j) H Q↔Q (g i j) H:=⟨fun ⟨_,_,e1,e2,q⟩=>by cases e1;cases e2;exact q,fun q=>⟨_,_,rfl,rfl,q⟩⟩
theorem aa1{C:Int->Int->Prop}{g:Int->Int->V}{i j:Int}{H:Hp}{Q:VK}:rI C g (.int i) (.int j) H Q↔C i j/\Q (g i j) H:=⟨fun ⟨_,_,e1,e2,c,q⟩=>by cases e1;cases e2;exact⟨c,q⟩,fun q=>⟨_,_,rfl,rfl,q⟩⟩
theorem OX{a:V}{r:St}{H:Hp}{Q:VK}:(fZ 0 (some a::r) H Q)=(Q a H):=rfl
theorem OY{a:Option V}{r:St}{H:Hp}{Q:VK}:(fZ 1 (a::r) H Q)=(fZ 0 r H Q):=rfl
theorem OZ{a:Option V}{r:St}{H:Hp}{Q:VK}:(fZ 2 (a::r) H Q)=(fZ 1 r H Q):=rfl
theorem O0{a:Option V}{r:St}{H:Hp}{Q:VK}:(fZ 3 (a::r) H Q)=(fZ 2 r H Q):=rfl
theorem O3{a:Option V}{r:St}{H:Hp}{Q:VK}:(fZ 4 (a::r) H Q)=(fZ 3 r H Q):=rfl
theorem O4{a:Option V}{r:St}{H:Hp}{Q:VK}:(fZ 5 (a::r) H Q)=(fZ 4 r H Q):=rfl
theorem O5{a:Option V}{r:St}{H:Hp}{Q:VK}:(fZ 6 (a::r) H Q)=(fZ 5 r H Q):=rfl
theorem O6{a:Option V}{r:St}{H:Hp}{Q:VK}:(fZ 7 (a::r) H Q)=(fZ 6 r H Q):=rfl
theorem O7{a:Option V}{r:St}{H:Hp}{Q:VK}:(fZ 8 (a::r) H Q)=(fZ 7 r H Q):=rfl
theorem O8{a:Option V}{r:St}{H:Hp}{Q:VK}:(fZ 9 (a::r) H Q)=(fZ 8 r H Q):=rfl
theorem Yd{v:V}{σ:St}{H:Hp}{Q:VK}:(tC v σ H Q)=(Q v H):=rfl
theorem T4{r:R2}{ta tb:TE}{σ:St}{H:Hp}{Q:VK}:(XH r ta tb σ H Q)=(ta σ H fun x H1=>tb σ H1 fun y H2=>r x y H2 Q):=rfl
theorem Ye{b:Bool}{p:Bool->Prop}:(∃k,V.bl b=.bl k/\p k)↔p b:=⟨fun ⟨_,e,q⟩=>by cases e;exact q,fun q=>⟨_,rfl,q⟩⟩
theorem VB{b:Int}{p:Int->Prop}:(∃k,V.int b=.int k/\p k)↔p b:=⟨fun ⟨_,e,q⟩=>by cases e;exact q,fun q=>⟨_,rfl,q⟩⟩
theorem VC{b:zdP}{p:zdP->Prop}:(∃k,V.ref b=.ref k/\p k)↔p b:=⟨fun ⟨_,e,q⟩=>by cases e;exact q,fun q=>⟨_,rfl,q⟩⟩
theorem Lc{t:TE}{σ:St}{H:Hp}{Q:Bool->Hp->Prop}:(K2 t σ H Q)=(t σ H fun x H'=>∃k,x=.bl k/\Q k H'):=rfl
theorem T5{x y:V}{H:Hp}{Q:VK}:(rEq x y H Q)=(Gs x y=true/\Q (.bl (decide (x=y))) H):=rfl
theorem T6{x y:V}{H:Hp}{Q:VK}:(rNe x y H Q)=(Gs x y=true/\Q (.bl (!decide (x=y))) H):=rfl
theorem VD{i j:Int}:(V.int i=V.int j)=(i=j):=by simp
theorem VE{i j:Str}:(V.str i=V.str j)=(i=j):=by simp
theorem Si{c:Prop}[Decidable c]{A B:Prop}:(if decide c=true then A else B)↔if c then A else B:=by simp
theorem O9{c:Prop}[Decidable c]{A B:Prop}:(if (!decide c)=true then A else B)↔if c then B else A:=by by_cases h:c<;>simp[h]
theorem bI{K:zab}{p:zdP}{i:Int}{H:Hp}{Q:VK}{xs:List V}{v:V}(h:dF K H p xs)(hv:D4 xs i=some v)(q:Q v H):OM K (.ref p) (.int i) H Q:=⟨p,xs,i,v,rfl,rfl,h,hv,q⟩
theorem bC{K:zab}{p:zdP}{i:Int}{H:Hp}{Q:VK}{xs:List V}{v:V}(h:gI K H p xs)(hv:D4 xs i=some v)(q:Q v H):Sa K (.ref p) (.int i) H Q:=⟨p,xs,i,v,rfl,rfl,h,hv,q⟩
section
variable{P:zd1}{w:zdR}{K:zab}{mg:Str->Option zdQ}{base:Heap}
theorem Ge.uX{x qual:Str}{st:Stmt}{f:zdP}{fd:zdY}{N ps:List Str}{k:Nat}{sp:Sp}(F:Ge K x qual st f fd)(S:aY N ps (aE st))(len:∀vs H Q E,sp vs H Q E->vs.length=ps.length)
 (AF:∀(d0:zdQ) (A:zd0) (outer:List Env) (s:zdZ) (H:Hp) (vs:List V) (Q:VK) (E:XK),g8 k (A.deeper (envOfC qual (aE st) s.heap.objs.size f d0))->sp vs H Q E->
  ∃t σ,IX (lU jh P w K mg base N qual (aE st) f d0 A outer s H E).XD (aZ st) t/\L2.start N vs=σ/\t {nx:=fun _ H'=>Q .eB H',rt:=Q} σ H):bu P w K mg base jh (k+1) f fd ps sp:=
 F.ok S len fun d0 A outer s H vs Q E hr h=>let ⟨t,_,h1,h2,h3⟩:=AF d0 A outer s H vs Q E hr h;⟨t,h1,by rw[h2];exact h3⟩
end
theorem Ld{α β:Type}{f:α->β}{xs:List α}{i:Int}(d:α)(h0:0<=i)(h1:i<xs.length):D4 (xs.map f) i=some (f (xs.getD i.toNat d)):=by
 have e:i=((i.toNat:Nat):Int):=by lia
 have h2:i.toNat<xs.length:=by lia
 conv=>lhs;rw[e]
 refine bf ?_;rw[zaE,zaz,zag h2];rfl
theorem Le{sp:Sp}{z8:List V}{E:XK}{t:TA}{σ:St}{H:Hp}{Q:VK}:(TU sp z8 E t σ H Q)=(t σ H fun vs H1=>sp (vs++z8) H1 Q E):=rfl
theorem Lf{ta:TE}{tr:TA}{σ:St}{H:Hp}{Q:List V->Hp->Prop}:(K3 ta tr σ H Q)=(ta σ H fun x H1=>tr σ H1 fun xs H2=>Q (x::xs) H2):=rfl
theorem Pa{σ:St}{H:Hp}{Q:List V->Hp->Prop}:(Mr σ H Q)=(Q [] H):=rfl
theorem Pb{t:TA}{σ:St}{H:Hp}{Q:VK}:(XT t σ H Q)=(t σ H fun xs H1=>xs.length<=zdX/\∀p,H1 p=none->Q (.ref p) (upd H1 p (.tup xs))):=rfl
theorem Pc{t:TA}{σ:St}{H:Hp}{Q:VK}:(XU t σ H Q)=(t σ H fun xs H1=>xs.length<=zdX/\∀p,H1 p=none->Q (.ref p) (upd H1 p (.lst xs))):=rfl
theorem EU{n:Nat}(h:n<=1000):n<=zdX:=zc1 (D6 h)
theorem Pd{K:zab}{p:zdP}{i:Int}{H:Hp}{Q:VK}{xs:List V}{v:V}(hv:D4 xs i=some v)(q:Q v (upd H p (.lst xs))):Sa K (.ref p) (.int i) (upd H p (.lst xs)) Q:=⟨p,xs,i,v,rfl,rfl,.of aj,hv,q⟩
theorem ay.sE{H H1:Hp}(s:ay H H1){p:zdP}(h:H1 p=none)(o:HO):ay H (upd H1 p o):=s.trans (ay.new h o)
theorem Rep.new{K:zab}{H:Hp}{p:zdP}{vs:List V}{ds:List Dp}(h:H p=none)(r:a7 K H ds vs):Rep K (upd H p (.tup vs)) (.tup ds) (.ref p):=Rep.bV.mpr ⟨p,vs,rfl,.of aj,r.mono (ay.new h _)⟩
theorem Sj{i j:Int}:Gs (.int i) (.int j)=true:=rfl
theorem Sk{i j:Str}:Gs (.str i) (.str j)=true:=rfl
theorem Sl{n:Nat}(h:n<=1000):(n<=zdX)=True:=eq_true (EU h)
theorem Pe{i j:Int}:(XM i j)=(0<j/\j<1073741824):=rfl
theorem Pf{CX:IZ}{P:zd1}{w:zdR}{K:zab}{mg:Str->Option zdQ}{base:Heap}{N:List Str}{qual:Str}{scope:Scope}{f:zdP}{cd:zdQ}{A:zd0}{outer:List Env}{s:zdZ}{H:Hp}{E:XK}:(lU CX P w K mg base N qual scope f cd A outer s H E).K=K:=rfl
theorem Lg{X:Cx}{scope:Scope}{own:List Str}{ix:List Nat}{C:zdP}{s₀:zdZ}{H₀:Hp}{ex:List zdP}:(nt X scope own ix C s₀ H₀ ex).K=X.K:=rfl
theorem mulR{z b:Int}(h1 : -18446744073709551616<b)(h2:b<18446744073709551616):Ml z b:=.inr ⟨h1,h2⟩
theorem mulL{z b:Int}(h1 : -18446744073709551616<z)(h2:z<18446744073709551616):Ml z b:=.inl ⟨h1,h2⟩
theorem jm{a b:Expr}{op:Operator}{pos:Pos}:uw (.BinOp a op b pos):=fun _ _=>rfl
theorem wI{x:Str}{pos:Pos}:uw (.Name x pos):=fun _ _=>rfl
theorem aK{c:Const}{k:Nat}{pos:Pos}:uw (.Constant c k pos):=fun _ _=>rfl
theorem AM{a:Expr}{op:UnaryOp}{pos:Pos}:uw (.UnaryOp op a pos):=fun _ _=>rfl
theorem Sm{a:Expr}{x:Str}{pos:Pos}:uw (.Attribute a x pos):=fun _ _=>rfl
theorem cm{a b:Expr}{op:Operator}{pos:Pos}{es:List Expr}{env:Env}:zdV (.BinOp a op b pos::es) env=(false,eval (.BinOp a op b pos) env)::zdV es env:=rfl
theorem ah{x:Str}{pos:Pos}{es:List Expr}{env:Env}:zdV (.Name x pos::es) env=(false,eval (.Name x pos) env)::zdV es env:=rfl
theorem aC{c:Const}{k:Nat}{pos:Pos}{es:List Expr}{env:Env}:zdV (.Constant c k pos::es) env=(false,eval (.Constant c k pos) env)::zdV es env:=rfl
theorem bJ{a b:Expr}{pos:Pos}{es:List Expr}{env:Env}:zdV (.Subscript a b pos::es) env=(false,eval (.Subscript a b pos) env)::zdV es env:=rfl
theorem bH{f:Expr}{as:List Expr}{ks:List Keyword}{pos:Pos}{es:List Expr}{env:Env}:zdV (.Call f as ks pos::es) env=(false,eval (.Call f as ks pos) env)::zdV es env:=rfl
theorem Yf{a:Expr}{op:UnaryOp}{pos:Pos}{es:List Expr}{env:Env}:zdV (.UnaryOp op a pos::es) env=(false,eval (.UnaryOp op a pos) env)::zdV es env:=rfl
theorem wJ{a:Expr}{x:Str}{pos:Pos}{es:List Expr}{env:Env}:zdV (.Attribute a x pos::es) env=(false,eval (.Attribute a x pos) env)::zdV es env:=rfl
theorem sF{as:List Expr}{pos:Pos}{es:List Expr}{env:Env}:zdV (.List as pos::es) env=(false,eval (.List as pos) env)::zdV es env:=rfl
theorem fK{as:List Expr}{k}{pos:Pos}{es:List Expr}{env:Env}:zdV (.Tuple as k pos::es) env=(false,eval (.Tuple as k pos) env)::zdV es env:=rfl
theorem Pg{a:Expr}{ops:List CmpOp}{cs:List Expr}{pos:Pos}{es:List Expr}{env:Env}:zdV (.Compare a ops cs pos::es) env=(false,eval (.Compare a ops cs pos) env)::zdV es env:=rfl
theorem Lh{a:Expr}{gs:List Comprehension}{sc:Scope}{pos:Pos}{es:List Expr}{env:Env}:zdV (.ListComp a gs sc pos::es) env=(false,eval (.ListComp a gs sc pos) env)::zdV es env:=rfl
theorem oQ{as:List Expr}{pos:Pos}{es:List Expr}{env:Env}:zdV (.JoinedStr as pos::es) env=(false,eval (.JoinedStr as pos) env)::zdV es env:=rfl
def Ph:Expr->Option V
 |.Constant (.int i) _ _=>some (.int i)
 |.Constant (.str x) _ _=>some (.str x)
 |.Constant (.bool b) _ _=>some (.bl b)
 |.Constant .none _ _=>some .eB
 |_=>none
def Pj (vs:List V):TA:=fun _ H Q=>Q vs H
theorem bD{X:Cx}:∀ {es:List Expr} {vs:List V},es.map Ph=vs.map some->PA X es (Pj vs)
 |[],[],_=>af
 |[],_::_,h=>by cases h
 |_::_,[],h=>by cases h
 |e::es,v::vs,h=>by
  rw[zaq,zaq] at h
  injection h with h1 h2
  have ih:=bD (X:=X) h2;have one:∀ {e:Expr} {v:V},PE X e (tC v)->(zdV (e::es) X.env=(false,eval e X.env)::zdV es X.env)->PA X (e::es) (Pj (v::vs)):=fun he hs pos pins s σ H Q I q=>ae he ih hs pos pins s σ H Q I q;unfold Ph at h1;split at h1
  ·cases h1;exact one ai aC
  ·cases h1;exact one au aC
  ·cases h1;exact one XA aC
  ·cases h1;exact one An aC
  ·cases h1
theorem Li{vs:List V}{σ:St}{H:Hp}{Q:List V->Hp->Prop}:(Pj vs σ H Q)=(Q vs H):=rfl
theorem Lj{td ty:TE}{σ:St}{H:Hp}{Q:VK}:(X8 td ty σ H Q)=(td σ H fun x H1=>ty σ H1 fun y H2=>∃a v,x=.ref a/\Jx H2 a y (some v)/\Q v H2):=rfl
theorem GG{σ:St}{H:Hp}{Q:VK}:(VA σ H Q)=(∀p,H p=none->Q (.ref p) (upd H p (.dK []))):=rfl
theorem Lk{td ty tv:TE}{D:Ends}{σ:St}{H:Hp}:(X9 td ty tv D σ H)=(tv σ H fun v H1=>td σ H1 fun x H2=>ty σ H2 fun y H3=>∃a H4,x=.ref a/\Sf H3 a y v H4/\D.nx σ H4):=rfl
theorem T7{r:List V->Hp->VK->Prop}{t:TA}{σ:St}{H:Hp}{Q:VK}:(tCB r t σ H Q)=(t σ H fun vs H1=>r vs H1 Q):=rfl
theorem Yg{t:TE}{σ:St}{H:Hp}{Q:Bool->Hp->Prop}:(tB t σ H Q)=(t σ H fun x H1=>∃c,x=.bl c/\Q c H1):=rfl
theorem Pk{t:TT}{σ:St}{H:Hp}{Q:Bool->Hp->Prop}:(XB t σ H Q)=(t σ H fun c H1=>Q (!c) H1):=rfl
theorem Jx.s{H:Hp}{a:zdP}{bg:List (Key×V)}{x:Str}{v:V}(e:H a=some (.dK bg))(h:eL bg (Sum.inr x)=some v):Jx H a (.str x) (some v):=by
 have:=Jx.k (k:=Sum.inr x) e;rw[h] at this;exact this
end L2
namespace PM
abbrev W:=List Nat
inductive Tr where
 |num (n:Int) |box (x:W) |bin (o:W) (l r:Tr)
 deriving DecidableEq
def isLetter (c:Nat):Bool:=decide (97<=c)&&decide (c<=122)
def g9 (c:Nat):Bool:=decide (48<=c)&&decide (c<=57)
def kind (c:Nat):Nat:=if isLetter c then 0 else if g9 c then 1 else 2
def da (st:List W×Nat) (c:Nat):List W×Nat:=
 if kind c≠2/\kind c=st.2 then (st.1.dropLast++[st.1.getLastD []++[c]],kind c) else (st.1++[[c]],kind c)
def cv (w:W):List W×Nat:=w.foldl da ([],3)
def pieces (w:W):List W:=(cv w).1
def fT:List W:=[[98,111,120],[97,115,107],[112,117,116],[115,97,121],[105,102],[101,108,115,101],[119,104,105,108,101],[109,117,115,116],[115,116,111,112],[101,110,100]]
def isName (p:W):Bool:=decide (1<=p.length)&&decide (p.length<=8)&&p.all isLetter && !fT.contains p
def isNumber (p:W):Bool:=decide (1<=p.length)&&decide (p.length<=3)&&p.all g9&&(decide (p=[48]) || !decide (p.head?=some 48))
def nu (p:W):Int:=p.foldl (fun (a:Int) (c:Nat)=>a*10+((c:Int)-48)) 0
abbrev P:=List W->Option (Tr×List W)
def wK (sub:P):P
 |[]=>none
 |p::r=>if isNumber p then some (.num (nu p),r) else if isName p then some (.box p,r) else if p=[40] then
  (match sub r with
  |some (e,q::r')=>if q=[41] then some (e,r') else none
  |_=>none) else none
theorem eE(sub:P)(p:W)(r:List W):wK sub (p::r)=if isNumber p then some (.num (nu p),r) else if isName p then some (.box p,r) else if p=[40] then
 (match sub r with
 |some (e,q::r')=>if q=[41] then some (e,r') else none
 |_=>none) else none:=rfl
def lq (ops:List W) (f:P):Nat->Tr->List W->Option (Tr×List W)
 |0,e,ps=>some (e,ps)
 |_+1,e,[]=>some (e,[])
 |k+1,e,p::r=>if p∈ops then (match f r with
  |none=>none
  |some (e2,r')=>lq ops f k (.bin p e e2) r') else some (e,p::r)
def hG (f:P):P:=fun ps=>match f ps with
 |none=>none
 |some (e,r)=>lq [[42]] f r.length e r
def qO (f:P):P:=fun ps=>match hG f ps with
 |none=>none
 |some (e,r)=>lq [[43],[45]] (hG f) r.length e r
def factor:Nat->P
 |0=>wK fun _=>none
 |n+1=>wK (qO (factor n))
def expr (w:W):Option Tr:=if 60<w.length then none else match qO (factor 5) (pieces w) with
 |some (e,[])=>some e
 |_=>none
def Short (f:P):Prop:=∀ps e r,f ps=some (e,r)->r.length<ps.length
theorem EW{ops:List W}{f:P}(h:Short f):∀k e ps e' r,lq ops f k e ps=some (e',r)->r.length<=ps.length
 |0,e,ps,e',r,q=>by simp only[lq,zaG.injEq,Prod.mk.injEq] at q;rw[q.2];exact zah _
 |k+1,e,[],e',r,q=>by simp only[lq,zaG.injEq,Prod.mk.injEq] at q;rw[<- q.2];exact zah _
 |k+1,e,p::t,e',r,q=>by
  unfold lq at q;split at q
  ·split at q
   ·cases q
   ·rename_i e2 r' hf;have h1:=h _ _ _ hf;have h2:=EW h k _ _ _ _ q;rw[zaf];lia
  ·simp only[zaG.injEq,Prod.mk.injEq] at q;rw[<- q.2];exact zah _
theorem iy{f:P}(h:Short f):Short (hG f):=fun ps e r q=>by
 unfold hG at q;split at q
 ·cases q
 ·rename_i e0 r0 hf;exact zb6 (EW h _ _ _ _ _ q) (h _ _ _ hf)
theorem MA{f:P}(h:Short f):Short (qO f):=fun ps e r q=>by
 unfold qO at q;split at q
 ·cases q
 ·rename_i e0 r0 hf;exact zb6 (EW (iy h) _ _ _ _ _ q) (iy h _ _ _ hf)
theorem yY{sub:P}(h:Short sub):Short (wK sub):=fun ps e r q=>by
 cases ps with
 |nil=>cases q
 |cons p t=>
  rw[eE] at q;split at q
  ·simp only[zaG.injEq,Prod.mk.injEq] at q;rw[<- q.2];exact zch _
  ·split at q
   ·simp only[zaG.injEq,Prod.mk.injEq] at q;rw[<- q.2];exact zch _
   ·split at q
    ·split at q
     ·rename_i e1 q1 r1 hs;split at q
      ·simp only[zaG.injEq,Prod.mk.injEq] at q;have:=h _ _ _ hs;rw[<- q.2];rw[zaf] at this ⊢;lia
      ·cases q
     ·cases q
    ·cases q
theorem dz:∀n,Short (factor n)
 |0=>yY fun _ _ _ q=>by cases q
 |n+1=>yY (MA (dz n))
theorem D9{ops:List W}{f:P}(h:Short f):∀k j e ps,ps.length<=k->ps.length<=j->lq ops f k e ps=lq ops f j e ps
 |0,0,_,_,_,_=>rfl
 |0,j+1,e,[],_,_=>rfl
 |k+1,0,e,[],_,_=>rfl
 |k+1,j+1,e,[],_,_=>rfl
 |k+1,j+1,e,p::t,hk,hj=>by
  rw[zaf] at hk hj;unfold lq;split
  ·split
   ·rfl
   ·rename_i e2 r' hf;have:=h _ _ _ hf;exact D9 h k j _ _ (by lia) (by lia)
  ·rfl
def loop (ops:List W) (f:P) (e:Tr) (ps:List W):Option (Tr×List W):=lq ops f ps.length e ps
theorem sG(ops:List W)(f:P)(e:Tr):loop ops f e []=some (e,[]):=rfl
theorem qi{ops:List W}{f:P}{e:Tr}{p:W}{r:List W}(h:p ∉ ops):loop ops f e (p::r)=some (e,p::r):=by
 unfold loop;rw[zaf];unfold lq;rw[if_neg h]
theorem wL{ops:List W}{f:P}(hf:Short f){e:Tr}{p:W}{r:List W}(h:p∈ops):loop ops f e (p::r)=match f r with
 |none=>none
 |some (e2,r')=>loop ops f (.bin p e e2) r':=by
 unfold loop;rw[zaf]
 conv=>lhs;unfold lq
 rw[if_pos h];cases h1:f r with
 |none=>rfl
 |some x=>
  obtain⟨e2,r'⟩:=x;have:=hf _ _ _ h1;exact D9 hf _ _ _ _ (by lia) (zah _)
theorem wM(f:P)(ps:List W):hG f ps=match f ps with
 |none=>none
 |some (e,r)=>loop [[42]] f e r:=rfl
theorem Aa(f:P)(ps:List W):qO f ps=match hG f ps with
 |none=>none
 |some (e,r)=>loop [[43],[45]] (hG f) e r:=rfl
def Pl (p:W):Bool:=isNumber p ||isName p
def sH:List W:=[[43],[45],[42]]
def step (p:W):Nat×Bool->Option (Nat×Bool)
 |(d,true)=>if p=[40] then (if d+1>5 then none else some (d+1,true)) else if Pl p then some (d,false) else none
 |(d,false)=>if p=[41] then (if d=0 then none else some (d-1,false)) else if p∈sH then some (d,true) else none
def run:List W->Nat×Bool->Option (Nat×Bool)
 |[],s=>some s
 |p::r,s=>match step p s with
  |none=>none
  |some s'=>run r s'
def good (ps:List W):Prop:=run ps (0,true)=some (0,false)
instance (ps:List W):Decidable (good ps):=inferInstanceAs (Decidable (_=_))
theorem sI(p:W)(d:Nat):step p (d,true)=if p=[40] then (if d+1>5 then none else some (d+1,true)) else if Pl p then some (d,false) else none:=rfl
theorem sJ(p:W)(d:Nat):step p (d,false)=if p=[41] then (if d=0 then none else some (d-1,false)) else if p∈sH then some (d,true) else none:=rfl
theorem qj(p:W)(r:List W)(s:Nat×Bool):run (p::r) s=match step p s with
 |none=>none
 |some s'=>run r s':=rfl
theorem fC{p:W}{r:List W}{s s':Nat×Bool}(h:step p s=some s'):run (p::r) s=run r s':=by rw[qj,h]
theorem kO{p:W}{r:List W}{s:Nat×Bool}(h:step p s=none):run (p::r) s=none:=by rw[qj,h]
structure Walk(d:Nat)(f:P)(nx:List W->Prop):Prop where
 yes:∀ps e r,f ps=some (e,r)->run ps (d,true)=run r (d,false)/\nx r
 no:∀ps,f ps=none->run ps (d,true)≠some (0,false)
theorem uz{d:Nat}{ops:List W}{f:P}{nx:List W->Prop}(hf:Short f)(hw:Walk d f nx)(aa2:∀p∈ops,p∈sH) :
 ∀(n:Nat) (ps:List W),ps.length<=n->nx ps->∀e,(∀e' r,loop ops f e ps=some (e',r)->run ps (d,false)=run r (d,false)/\nx r/\(r=[]\/∃q t,r=q::t/\q ∉ ops))/\(loop ops f e ps=none->run ps (d,false)≠some (0,false)):=by
 intro n
 induction n with
 |zero=>
  intro ps hl hn e;have:ps=[]:=zcx (by lia);subst this;rw[sG];exact⟨fun e' r h=>by cases h;exact⟨rfl,hn,.inl rfl⟩,fun h=>by cases h⟩
 |succ n ih=>
  intro ps hl hn e;cases ps with
  |nil=>rw[sG];exact⟨fun e' r h=>by cases h;exact⟨rfl,hn,.inl rfl⟩,fun h=>by cases h⟩
  |cons p t=>
   by_cases hp:p∈ops
   ·have st:step p (d,false)=some (d,true):=by
     have h1:=aa2 p hp;have h2:p≠[41]:=by rintro rfl;revert h1;decide
     first |rw[sI] |rw[sJ]
     rw[if_neg h2,if_pos h1]
    rw[wL hf hp,fC st];cases h1:f t with
    |none=>exact⟨fun e' r h=>(by cases h),fun _=>hw.no t h1⟩
    |some x=>
     obtain⟨e2,r'⟩:=x;obtain⟨w1,w2⟩:=hw.yes t e2 r' h1;have hs:=hf _ _ _ h1;rw[zaf] at hl;rw[w1];exact ih r' (by lia) w2 _
   ·rw[qi hp];exact⟨fun e' r h=>by cases h;exact⟨rfl,hn,.inr ⟨p,t,rfl,hp⟩⟩,fun h=>by cases h⟩
def CY (_:List W):Prop:=True
def nxP (r:List W):Prop:=r=[]\/∃q t,r=q::t/\q≠[42]
def nxS (r:List W):Prop:=r=[]\/∃q t,r=q::t/\q ∉ sH
theorem Ea{d:Nat}{f:P}(hf:Short f)(hw:Walk d f CY):Walk d (hG f) nxP where
 yes:=fun ps e r h=>by
  rw[wM] at h;split at h
  ·cases h
  ·rename_i e0 r0 h0;obtain⟨w1,_⟩:=hw.yes _ _ _ h0;obtain⟨a,b,c⟩:=(uz hf hw (ops:=[[42]]) (by decide) _ r0 (zah _) trivial e0).1 e r h;refine⟨w1.trans a,?_⟩;rcases c with c |⟨q,t,c,n⟩
   ·exact .inl c
   ·exact .inr ⟨q,t,c,fun z=>n (by rw[z];exact zad.mpr rfl)⟩
 no:=fun ps h=>by
  rw[wM] at h;split at h
  ·rename_i h0;exact hw.no _ h0
  ·rename_i e0 r0 h0;obtain⟨w1,_⟩:=hw.yes _ _ _ h0;rw[w1];exact(uz hf hw (ops:=[[42]]) (by decide) _ r0 (zah _) trivial e0).2 h
theorem GH{d:Nat}{f:P}(hf:Short f)(hw:Walk d f CY):Walk d (qO f) nxS where
 yes:=fun ps e r h=>by
  have wp:=Ea hf hw;rw[Aa] at h;split at h
  ·cases h
  ·rename_i e0 r0 h0;obtain⟨w1,w2⟩:=wp.yes _ _ _ h0;obtain⟨a,b,c⟩:=(uz (iy hf) wp (ops:=[[43],[45]]) (by decide) _ r0 (zah _) w2 e0).1 e r h;refine⟨w1.trans a,?_⟩;rcases c with c |⟨q,t,c,n⟩
   ·exact .inl c
   ·rcases b with b |⟨q',t',b,n'⟩
    ·exact .inl b
    ·rw[c] at b;cases b;refine .inr ⟨q,t,c,fun z=>?_⟩;simp only[sH,zai,za2,or_false] at z n;rcases z with z |z |z
     ·exact n (.inl z)
     ·exact n (.inr z)
     ·exact n' z
 no:=fun ps h=>by
  have wp:=Ea hf hw;rw[Aa] at h;split at h
  ·rename_i h0;exact wp.no _ h0
  ·rename_i e0 r0 h0;obtain⟨w1,w2⟩:=wp.yes _ _ _ h0;rw[w1];exact(uz (iy hf) wp (ops:=[[43],[45]]) (by decide) _ r0 (zah _) w2 e0).2 h
theorem VF{p:W}(h:Pl p=true):p≠[40]:=by rintro rfl;revert h;decide
theorem uA{d:Nat}{sub:P}{p:W}{r:List W}(h:Pl p=true):run (p::r) (d,true)=run r (d,false):=by
 refine fC ?_
 first |rw[sI] |rw[sJ]
 rw[if_neg (VF h),if_pos h]
theorem yZ:∀(n d:Nat),d+n=5->Walk d (factor n) CY
 |0,d,hd=>by
  have e5:d=5:=by lia
  subst e5;refine⟨fun ps e r h=>⟨?_,trivial⟩,fun ps h=>?_⟩
  ·cases ps with
   |nil=>cases h
   |cons p t=>
    unfold factor at h;rw[eE] at h;split at h
    ·rename_i c;cases h;exact uA (sub:=factor 0) (by simp[Pl,c])
    ·split at h
     ·rename_i c;cases h;exact uA (sub:=factor 0) (by simp[Pl,c])
     ·split at h<;>cases h
  ·cases ps with
   |nil=>unfold run;simp
   |cons p t=>
    unfold factor at h;rw[eE] at h;split at h
    ·cases h
    ·rename_i c1;split at h
     ·cases h
     ·rename_i c2;have st:step p (5,true)=none:=by
       first |rw[sI] |rw[sJ]
       by_cases hp:p=[40]
       ·rw[if_pos hp];rfl
       ·rw[if_neg hp,if_neg (by simp[Pl,c1,c2])]
      rw[kO st];simp
 |n+1,d,hd=>by
  have ih:=GH (dz n) (yZ n (d+1) (by lia));refine⟨fun ps e r h=>⟨?_,trivial⟩,fun ps h=>?_⟩
  ·cases ps with
   |nil=>cases h
   |cons p t=>
    unfold factor at h;rw[eE] at h;split at h
    ·rename_i c;cases h;exact uA (sub:=factor 0) (by simp[Pl,c])
    ·split at h
     ·rename_i c;cases h;exact uA (sub:=factor 0) (by simp[Pl,c])
     ·split at h
      ·rename_i hp;subst hp;split at h
       ·rename_i e1 q r1 hs;split at h
        ·rename_i hq;cases h;subst hq;obtain⟨a,_⟩:=ih.yes _ _ _ hs;have st:step [40] (d,true)=some (d+1,true):=by rw[sI,if_pos rfl,if_neg (by lia)]
         have TN:step [41] (d+1,false)=some (d,false):=by rw[sJ,if_pos rfl,if_neg (by lia)];rfl
         rw[fC st,a,fC TN]
        ·cases h
       ·cases h
      ·cases h
  ·cases ps with
   |nil=>unfold run;simp
   |cons p t=>
    unfold factor at h;rw[eE] at h;split at h
    ·cases h
    ·rename_i c1;split at h
     ·cases h
     ·rename_i c2;split at h
      ·rename_i hp;subst hp;have st:step [40] (d,true)=some (d+1,true):=by rw[sI,if_pos rfl,if_neg (by lia)]
       rw[fC st];cases hs:qO (factor n) t with
       |none=>exact ih.no _ hs
       |some x=>
        obtain⟨e1,r1⟩:=x;obtain⟨a,b⟩:=ih.yes _ _ _ hs;rw[a];cases r1 with
        |nil=>unfold run;simp
        |cons q r2=>
         rw[hs] at h;have hq:q≠[41]:=by
          intro hq;simp only[hq,if_true] at h;cases h
         have ho:q ∉ sH:=by
          rcases b with b |⟨q',t',b,n'⟩
          ·cases b
          ·cases b;exact n'
         have TN:step q (d+1,false)=none:=by rw[sJ,if_neg hq,if_neg ho]
         rw[kO TN];simp
      ·rename_i hp;have st:step p (d,true)=none:=by rw[sI,if_neg hp,if_neg (by simp[Pl,c1,c2])]
       rw[kO st];simp
theorem AN(w:W):(expr w).isSome=true↔w.length<=60/\good (pieces w):=by
 have ws:=GH (dz 5) (yZ 5 0 rfl);unfold expr;by_cases hl:60<w.length
 ·rw[if_pos hl];simp;intro h;lia
 ·rw[if_neg hl];cases h:qO (factor 5) (pieces w) with
  |none=>
   have:=ws.no _ h;simp[good,this]
  |some x=>
   obtain⟨e,r⟩:=x;obtain⟨a,b⟩:=ws.yes _ _ _ h;cases r with
   |nil=>
    unfold good;rw[a];simp[run];lia
   |cons q t=>
    unfold good;rw[a];have st:step q (0,false)=none:=by
     first |rw[sI] |rw[sJ]
     rcases b with b |⟨q',t',b,n⟩
     ·cases b
     ·cases b;by_cases hq:q=[41]
      ·rw[if_pos hq];rfl
      ·rw[if_neg hq,if_neg n]
    rw[kO st];simp
theorem Ab(w:W)(c:Nat):cv (w++[c])=da (cv w) c:=by unfold cv;rw[zbI];rfl
theorem kind_le(c:Nat):kind c<=2:=by
 unfold kind;split
 ·lia
 ·split<;>lia
theorem AO{p:W->Prop}(h0:p [])(h1:∀w c,p w->p (w++[c])):∀w,p w:=fun w=>by
 have:∀r:W,p r.reverse:=fun r=>by
  induction r with
  |nil=>exact h0
  |cons c r ih=>rw[zb0];exact h1 _ c ih
 have h:=this w.reverse;rw[zdr] at h;exact h
theorem zE{α:Type}(ps qs:List α)(h:qs≠[])(d:α):(ps++qs).getLastD d=qs.getLastD d:=by
 rw[zbR,zbR,zds];cases e:qs.getLast? with
 |none=>rw[zbC] at e;exact absurd e h
 |some x=>rfl
theorem AQ(ps:List W):∀(w:W) (qs:List W) (b:Nat),(2<=b\/qs≠[])->w.foldl da (ps++qs,b)=(ps++(w.foldl da (qs,b)).1,(w.foldl da (qs,b)).2)
 |[],_,_,_=>rfl
 |c::w,qs,b,h=>by
  rw[zaO,zaO];by_cases hc:kind c≠2/\kind c=b
  ·have k2:kind c<2:=by
    have:=kind_le c;lia
   have hq:qs≠[]:=h.resolve_left (by lia);have e1:da (ps++qs,b) c=(ps++(qs.dropLast++[qs.getLastD []++[c]]),kind c):=by
    unfold da;rw[if_pos hc];simp only[zE ps qs hq,List.dropLast_append_of_ne_nil hq,zbg]
   have e2:da (qs,b) c=(qs.dropLast++[qs.getLastD []++[c]],kind c):=by unfold da;rw[if_pos hc]
   rw[e1,e2];exact AQ ps w _ _ (.inr (by simp))
  ·have e1:da (ps++qs,b) c=(ps++(qs++[[c]]),kind c):=by unfold da;rw[if_neg hc];simp only[zbg]
   have e2:da (qs,b) c=(qs++[[c]],kind c):=by unfold da;rw[if_neg hc]
   rw[e1,e2];exact AQ ps w _ _ (.inr (by simp))
theorem VG:∀(w:W),(w.foldl da ([],2)).1=pieces w
 |[]=>rfl
 |c::w=>by
  unfold pieces cv;rw[zaO,zaO];have e:∀b,2<=b->da ([],b) c=([[c]],kind c):=fun b hb=>by
   unfold da;rw[if_neg]
   ·rfl
   ·rintro ⟨h1,h2⟩
    have:=kind_le c;have h2:kind c=b:=h2;lia
  rw[e 2 (by lia),e 3 (by lia)]
theorem lA(u v:W){c:Nat}(h:kind c=2):pieces (u++c::v)=pieces u++[c]::pieces v:=by
 have e:cv (u++c::v)=v.foldl da (pieces u++[[c]],2):=by
  unfold cv;rw[zbI,zaO]
  congr 1
  unfold da;rw[if_neg (by rw[h];simp),h];rfl
 have e2:=AQ (pieces u++[[c]]) v [] 2 (.inl (by lia));rw[zaN] at e2;unfold pieces;rw[e,e2];show (pieces u++[[c]])++(v.foldl da ([],2)).1=_;rw[VG];simp[pieces]
theorem Jy:pieces []=[]:=rfl
theorem Jz{k:Nat}(hk:k<2):∀(w:W),w≠[]->(∀c∈w,kind c=k)->cv w=([w],k):=by
 refine AO (fun h=>absurd rfl h) fun w c ih=>?_
 ·intro _ h;have hc:kind c=k:=h c (by simp);rw[Ab];by_cases hw:w=[]
  ·subst hw;show da ([],3) c=_;unfold da;rw[if_neg (by rw[hc];simp;lia),hc];rfl
  ·rw[ih hw fun c hc=>h c (by simp[hc])];unfold da;rw[if_pos ⟨by rw[hc];lia,hc⟩,hc];rfl
theorem GI{c:Nat}(h:isLetter c=true):kind c=0:=by unfold kind;rw[if_pos h]
theorem GJ{c:Nat}(h:g9 c=true):kind c=1:=by
 unfold kind;rw[if_neg,if_pos h];intro hl;simp only[isLetter,g9,zaD,decide_eq_true_eq] at hl h;lia
structure Yh(st:List W×Nat)(w:W):Prop where
 flat:st.1.flatten=w
 Ll:∀p∈st.1,p≠[]
 last:st.2<2->st.1≠[]
 sort:∀p∈st.1,(∀c∈p,kind c=0)\/(∀c∈p,kind c=1)\/∃c,p=[c]/\kind c=2
 mark:st.1≠[]->∃p,st.1.getLast?=some p/\(st.2<2->∀c∈p,kind c=st.2)
theorem AR{α:Type}{l:List α}{p:α}(h:l.getLast?=some p):l=l.dropLast++[p]:=by
 have CL:l≠[]:=by rintro rfl;cases h
 rw[List.getLast?_eq_some_getLast CL] at h;have e:=(List.dropLast_concat_getLast CL).symm;cases h;exact e
theorem Sn:∀(w:W),Yh (cv w) w:=by
 refine AO (p:=fun w=>Yh (cv w) w) ?_ fun w c ih=>?_
 ·exact⟨rfl,fun _ h=>absurd h (by simp[cv]),fun h=>absurd h (by simp[cv]),fun _ h=>absurd h (by simp[cv]),fun h=>absurd rfl h⟩
 ·rw[Ab];unfold da;split
  ·rename_i hc;obtain⟨h2,hb⟩:=hc;have k2:kind c<2:=by have:=kind_le c;lia
   have CL:=ih.last (by rw[<- hb];exact k2);obtain⟨p,hp,hm⟩:=ih.mark CL;have es:=AR hp;have eD:(cv w).1.getLastD []=p:=by rw[zbR,hp];rfl
   have hm':=hm (by rw[<- hb];exact k2);rw[eD];refine⟨?_,fun q hq=>?_,fun _=>by simp,fun q hq=>?_,fun _=>⟨p++[c],by simp,fun _ x hx=>?_⟩⟩
   ·have f:=ih.flat;rw[es] at f;simp only[zcB,zaP,zci,zaN] at f ⊢;rw[<- zbg,f]
   ·rcases zam.mp hq with hq |hq
    ·exact ih.Ll q (zdt _ hq)
    ·rw[zad.mp hq];simp
   ·rcases zam.mp hq with hq |hq
    ·exact ih.sort q (zdt _ hq)
    ·rw[zad.mp hq];have all:∀x∈p++[c],kind x=kind c:=fun x hx=>by
      rcases zam.mp hx with hx |hx
      ·rw[hm' x hx,hb]
      ·rw[zad.mp hx]
     have:kind c=0\/kind c=1:=by lia
     rcases this with z |z
     ·exact .inl fun x hx=>by rw[all x hx,z]
     ·exact .inr (.inl fun x hx=>by rw[all x hx,z])
   ·rcases zam.mp hx with hx |hx
    ·rw[hm' x hx,hb]
    ·rw[zad.mp hx]
  ·refine⟨?_,fun q hq=>?_,fun _=>by simp,fun q hq=>?_,fun _=>⟨[c],by simp,fun _ x hx=>by rw[zad.mp hx]⟩⟩
   ·simp only[zcB,zaP,zci,zaN];rw[ih.flat]
   ·rcases zam.mp hq with hq |hq
    ·exact ih.Ll q hq
    ·rw[zad.mp hq];simp
   ·rcases zam.mp hq with hq |hq
    ·exact ih.sort q hq
    ·rw[zad.mp hq];have:kind c=0\/kind c=1\/kind c=2:=by have:=kind_le c;lia
     rcases this with z |z |z
     ·exact .inl fun x hx=>by rw[zad.mp hx,z]
     ·exact .inr (.inl fun x hx=>by rw[zad.mp hx,z])
     ·exact .inr (.inr ⟨c,rfl,z⟩)
theorem za:∀ {l:List W},(∀p∈l,p≠[])->l.length<=l.flatten.length
 |[],_=>by simp
 |p::r,h=>by
  have h1:p≠[]:=h p (by simp);have h2:=za (l:=r) fun q hq=>h q (by simp[hq]);have:0<p.length:=zbJ.mpr h1;simp only[zaf,zaP,zae];lia
theorem vB(w:W):(pieces w).length<=w.length:=by
 have:=Sn w;have h:=za this.Ll;rw[this.flat] at h;exact h
theorem Eb{w p:W}(h:p∈pieces w):p.length<=w.length:=by
 have f:=(Sn w).flat;rw[<- f];have all:∀ {l:List W},p∈l->p.length<=l.flatten.length:=fun {l} hl=>by
  induction l with
  |nil=>cases hl
  |cons a r ih=>
   rw[zaP,zae];rcases zai.mp hl with rfl |hl
   ·lia
   ·have:=ih hl;lia
 exact all h
def RF (n:Nat) (t:Tr) (L:List W):Prop:=∀rest,factor n (L++rest)=some (t,rest)
def RP (n:Nat) (t:Tr) (L:List W):Prop:=∀rest,hG (factor n) (L++rest)=loop [[42]] (factor n) t rest
def RS (n:Nat) (t:Tr) (L:List W):Prop:=∀rest,nxP rest->qO (factor n) (L++rest)=loop [[43],[45]] (hG (factor n)) t rest
theorem Lm{n:Nat}{t:Tr}{rest:List W}(h:nxP rest):loop [[42]] (factor n) t rest=some (t,rest):=by
 rcases h with rfl |⟨q,r,rfl,hq⟩
 ·rfl
 ·exact qi (by simpa using hq)
theorem RF.p{n:Nat}{t:Tr}{L:List W}(h:RF n t L):RP n t L:=fun rest=>by rw[wM,h rest]
theorem RP.s{n:Nat}{t:Tr}{L:List W}(h:RP n t L):RS n t L:=fun rest hn=>by rw[Aa,h rest,Lm hn]
theorem zb(n:Nat)(p:W)(r:List W)(h:isNumber p=true\/isName p=true):factor n (p::r)=if isNumber p then some (.num (nu p),r) else some (.box p,r):=by
 have key:∀sub:P,wK sub (p::r)=if isNumber p then some (.num (nu p),r) else some (.box p,r):=fun sub=>by
  rw[eE];by_cases h1:isNumber p=true
  ·rw[if_pos h1,if_pos h1]
  ·rw[if_neg h1,if_neg h1,if_pos (h.resolve_left h1)]
 cases n with
 |zero=>exact key _
 |succ n=>exact key _
theorem RF.num{n:Nat}{p:W}(h:isNumber p=true):RF n (.num (nu p)) [p]:=fun rest=>by
 show factor n (p::rest)=_;rw[zb n p rest (.inl h),if_pos h]
theorem RF.box{n:Nat}{p:W}(h:isName p=true)(h':isNumber p=false):RF n (.box p) [p]:=fun rest=>by
 show factor n (p::rest)=_;rw[zb n p rest (.inr h),if_neg (by rw[h'];simp)]
theorem RP.mul{n:Nat}{l r:Tr}{a b:List W}(hl:RP n l a)(hr:RF n r b):RP n (.bin [42] l r) (a++[42]::b):=fun rest=>by
 have e:a++[42]::b++rest=a++([42]::(b++rest)):=by simp
 rw[e,hl,wL (dz n) (by simp),hr rest]
theorem RS.add{n:Nat}{o:W}{l r:Tr}{a b:List W}(ho:o∈([[43],[45]]:List W))(hl:RS n l a)(hr:RP n r b):RS n (.bin o l r) (a++o::b):=fun rest hn=>by
 have e:a++o::b++rest=a++(o::(b++rest)):=by simp
 have no:o≠[42]:=by rintro rfl;revert ho;decide
 rw[e,hl _ (.inr ⟨_,_,rfl,no⟩),wL (iy (dz n)) ho,hr rest,Lm hn]
theorem RF.br{n:Nat}{t:Tr}{L:List W}(h:RS n t L):RF (n+1) t ([40]::L++[[41]]):=fun rest=>by
 have e:[40]::L++[[41]]++rest=[40]::(L++([41]::rest)):=by simp
 have c1:isNumber [40]=false:=by decide
 have c2:isName [40]=false:=by decide
 rw[e];show wK (qO (factor n)) _=_;rw[eE,if_neg (by rw[c1];simp),if_neg (by rw[c2];simp),if_pos rfl,h _ (.inr ⟨_,_,rfl,by decide⟩),qi (by decide)];simp
def uY:Tr->Bool
 |.bin o _ _=>decide (o=[43]) ||decide (o=[45])
 |_=>false
def isMul:Tr->Bool
 |.bin o _ _=>decide (o=[42])
 |_=>false
def zF (o:W) (l:Tr) (m:Int):Bool:=(decide (o=[42])&&uY l) ||decide (m%5=1)
def zc (o:W) (r:Tr) (m:Int):Bool:=(uY r ||(decide (o=[42])&&isMul r)) ||decide (m%7=1)
def dig (n:Nat):W:=(zb7 10 n).map Char.toNat
def put (b:Bool) (w:W):W:=if b then [40]++w++[41] else w
def cj:Tr->Int->W
 |.num n,_=>dig n.toNat
 |.box x,_=>x
 |.bin o l r,m=>put (zF o l m) (cj l (m/2))++o++put (zc o r m) (cj r (m/3))
def zG (b:Bool) (w:List W):List W:=if b then [40]::w++[[41]] else w
def toks:Tr->Int->List W
 |.num n,_=>[dig n.toNat]
 |.box x,_=>[x]
 |.bin o l r,m=>zG (zF o l m) (toks l (m/2))++o::zG (zc o r m) (toks r (m/3))
def N8 (b:Bool):Nat:=if b then 1 else 0
def dep:Tr->Int->Nat
 |.bin o l r,m=>max (N8 (zF o l m)+dep l (m/2)) (N8 (zc o r m)+dep r (m/3))
 |_,_=>0
def EX:Tr->Prop
 |.num n=>0<=n/\n<=999
 |.box x=>isName x=true
 |.bin o l r=>(o=[43]\/o=[45]\/o=[42])/\EX l/\EX r
theorem sL:∀n:Nat,n<1000->isNumber (dig n)=true/\nu (dig n)=n:=by
 have:∀n:Fin 1000,isNumber (dig n.1)=true/\nu (dig n.1)=n.1:=by decide +kernel
 exact fun n h=>this ⟨n,h⟩
theorem zH{p:W}(h:isName p=true):isNumber p=false:=by
 cases e:isNumber p with
 |false=>rfl
 |true=>
  simp only[isName,isNumber,zaD,decide_eq_true_eq] at h e;obtain⟨⟨⟨h1,_⟩,h3⟩,_⟩:=h;obtain⟨⟨⟨_,_⟩,e3⟩,_⟩:=e;cases p with
  |nil=>simp at h1
  |cons c r=>
   have a:=za4.mp h3 c (by simp);have b:=za4.mp e3 c (by simp);simp only[isLetter,g9,zaD,decide_eq_true_eq] at a b;lia
theorem qk:∀(t:Tr) (m:Int) (n:Nat),EX t->dep t m<=n->RS n t (toks t m)/\(uY t=false->RP n t (toks t m))/\(uY t=false->isMul t=false->RF n t (toks t m))
 |.num k,m,n,ok,_=>by
  obtain⟨h0,h1⟩:=ok;obtain⟨d1,d2⟩:=sL k.toNat (by lia);have e:nu (dig k.toNat)=k:=by rw[d2];lia
  have:=RF.num (n:=n) d1;rw[e] at this;exact⟨this.p.s,fun _=>this.p,fun _ _=>this⟩
 |.box x,m,n,ok,_=>by
  have:=RF.box (n:=n) ok (zH ok);exact⟨this.p.s,fun _=>this.p,fun _ _=>this⟩
 |.bin o l r,m,n,ok,hd=>by
  obtain⟨ho,So,Sq⟩:=ok;have Xu:N8 (zF o l m)+dep l (m/2)<=n/\N8 (zc o r m)+dep r (m/3)<=n:=by unfold dep at hd;lia
  obtain⟨d1,d2⟩:=Xu;have fl:zF o l m=true->RF n l (zG (zF o l m) (toks l (m/2))):=fun hb=>by
   rw[hb] at d1 ⊢;obtain⟨k,rfl⟩:∃k,n=k+1:=⟨n-1,by simp only[N8,if_true] at d1;lia⟩
   have:=qk l (m/2) k So (by simp only[N8,if_true] at d1;lia);exact RF.br this.1
  have fr:zc o r m=true->RF n r (zG (zc o r m) (toks r (m/3))):=fun hb=>by
   rw[hb] at d2 ⊢;obtain⟨k,rfl⟩:∃k,n=k+1:=⟨n-1,by simp only[N8,if_true] at d2;lia⟩
   have:=qk r (m/3) k Sq (by simp only[N8,if_true] at d2;lia);exact RF.br this.1
  have il:=qk l (m/2) n So (by lia);have ir:=qk r (m/3) n Sq (by lia);have ul:zF o l m=false->zG (zF o l m) (toks l (m/2))=toks l (m/2):=fun hb=>by rw[hb];rfl
  have ur:zc o r m=false->zG (zc o r m) (toks r (m/3))=toks r (m/3):=fun hb=>by rw[hb];rfl
  have sl:RS n l (zG (zF o l m) (toks l (m/2))):=by
   cases hb:zF o l m with
   |true=>rw[<- hb];exact(fl hb).p.s
   |false=>exact il.1
  have pr:RP n r (zG (zc o r m) (toks r (m/3))):=by
   cases hb:zc o r m with
   |true=>rw[<- hb];exact(fr hb).p
   |false=>
    refine ir.2.1 ?_;simp only[zc,Bool.or_eq_false_iff] at hb;exact hb.1.1
  by_cases hm:o=[42]
  ·subst hm;have pl:RP n l (zG (zF [42] l m) (toks l (m/2))):=by
    cases hb:zF [42] l m with
    |true=>rw[<- hb];exact(fl hb).p
    |false=>
     refine il.2.1 ?_;simpa[zF] using (by simpa[zF] using hb:uY l=false/\_).1
   have ff:RF n r (zG (zc [42] r m) (toks r (m/3))):=by
    cases hb:zc [42] r m with
    |true=>rw[<- hb];exact fr hb
    |false=>
     have:(uY r=false/\isMul r=false)/\¬m%7=1:=by simpa[zc] using hb
     exact ir.2.2 this.1.1 this.1.2
   have:=RP.mul pl ff;refine⟨this.s,fun _=>this,fun _ h=>?_⟩;simp[isMul] at h
  ·have W9:o∈([[43],[45]]:List W):=by
    rcases ho with rfl |rfl |rfl
    ·simp
    ·simp
    ·exact absurd rfl hm
   have hs:uY (.bin o l r)=true:=by
    rcases ho with rfl |rfl |rfl
    ·rfl
    ·rfl
    ·exact absurd rfl hm
   exact⟨RS.add W9 sl pr,fun h=>by (rw[hs] at h;cases h),fun h=>by (rw[hs] at h;cases h)⟩
theorem vC(b:Bool){w:W}{L:List W}(h:pieces w=L):pieces (put b w)=zG b L:=by
 cases b with
 |false=>exact h
 |true=>
  show pieces ([40]++w++[41])=[40]::L++[[41]];have e:[40]++w++[41]=[]++40::(w++41::[]):=by simp
  rw[e,lA _ _ (by decide),lA _ _ (by decide),h,Jy];simp
theorem zd{k:Nat}(hk:k<2){w:W}(hw:w≠[])(h:∀c∈w,kind c=k):pieces w=[w]:=by
 unfold pieces;rw[Jz hk w hw h]
theorem oR{p:W}(h:isNumber p=true):p≠[]/\∀c∈p,kind c=1:=by
 simp only[isNumber,zaD,decide_eq_true_eq] at h;obtain⟨⟨⟨h1,_⟩,h3⟩,_⟩:=h;exact⟨by rintro rfl;simp at h1,fun c hc=>GJ (za4.mp h3 c hc)⟩
theorem name_kind{p:W}(h:isName p=true):p≠[]/\∀c∈p,kind c=0:=by
 simp only[isName,zaD,decide_eq_true_eq] at h;obtain⟨⟨⟨h1,_⟩,h3⟩,_⟩:=h;exact⟨by rintro rfl;simp at h1,fun c hc=>GI (za4.mp h3 c hc)⟩
theorem pF:∀(t:Tr) (m:Int),EX t->pieces (cj t m)=toks t m
 |.num k,m,ok=>by
  obtain⟨h0,h1⟩:=ok;obtain⟨n1,n2⟩:=oR (sL k.toNat (by lia)).1;exact zd (by lia) n1 n2
 |.box x,m,ok=>by
  obtain⟨n1,n2⟩:=name_kind ok;exact zd (by lia) n1 n2
 |.bin o l r,m,ok=>by
  obtain⟨ho,So,Sq⟩:=ok;obtain⟨c,rfl,hc⟩:∃c,o=[c]/\kind c=2:=by
   rcases ho with rfl |rfl |rfl
   ·exact⟨43,rfl,by decide⟩
   ·exact⟨45,rfl,by decide⟩
   ·exact⟨42,rfl,by decide⟩
  have e:cj (.bin [c] l r) m=put (zF [c] l m) (cj l (m/2))++c::put (zc [c] r m) (cj r (m/3)):=by
   show put _ _++[c]++put _ _=_;simp
  rw[e,lA _ _ hc,vC _ (pF l _ So),vC _ (pF r _ Sq)];rfl
def eZ (st:Nat×Nat) (c:Nat):Nat×Nat:=
 let d:=if c=40 then st.1+1 else if c=41 then st.1-1 else st.1
 (d,max st.2 d)
def oS (w:W):Nat:=(w.foldl eZ (0,0)).2
def VH (w:W):Prop:=∀c∈w,c≠40/\c≠41
theorem uB:∀(w:W) (d x:Nat),VH w->d<=x->w.foldl eZ (d,x)=(d,x)
 |[],_,_,_,_=>rfl
 |c::w,d,x,h,hx=>by
  obtain⟨h1,h2⟩:=h c (by simp);rw[zaO];have e:eZ (d,x) c=(d,x):=by simp only[eZ,h1,h2,if_false];rw[zdi hx]
  rw[e];exact uB w d x (fun c hc=>h c (by simp[hc])) hx
theorem AS(b:Bool){w:W}{k:Nat}(h:∀d x,d<=x->w.foldl eZ (d,x)=(d,max x (d+k)))(d x:Nat)(hx:d<=x):(put b w).foldl eZ (d,x)=(d,max x (d+(N8 b+k))):=by
 cases b with
 |false=>
  have:N8 false=0:=rfl;rw[this,zdI];exact h d x hx
 |true=>
  have:N8 true=1:=rfl;show ([40]++w++[41]).foldl eZ (d,x)=_;rw[zbI,zbI];have e1:[40].foldl eZ (d,x)=(d+1,max x (d+1)):=rfl;rw[e1,h _ _ (by lia)];have e2:∀y,[41].foldl eZ (d+1,y)=(d,max y d):=fun y=>by simp[eZ]
  rw[e2,this];simp only[Prod.mk.injEq,true_and];lia
theorem Ec{k:Nat}(hk:k<2){w:W}(h:∀c∈w,kind c=k):VH w:=fun c hc=>by
 have:=h c hc
 constructor
 ·rintro rfl
  have e:kind 40=2:=by decide
  lia
 ·rintro rfl
  have e:kind 41=2:=by decide
  lia
theorem oT:∀(t:Tr) (m:Int),EX t->∀d x,d<=x->(cj t m).foldl eZ (d,x)=(d,max x (d+dep t m))
 |.num k,m,ok,d,x,hx=>by
  obtain⟨h0,h1⟩:=ok;obtain⟨n1,n2⟩:=oR (sL k.toNat (by lia)).1;rw[show cj (.num k) m=dig k.toNat from rfl,uB _ _ _ (Ec (by lia) n2) hx];show (d,x)=(d,max x (d+0));rw[zdi (by lia)]
 |.box y,m,ok,d,x,hx=>by
  obtain⟨n1,n2⟩:=name_kind ok;rw[show cj (.box y) m=y from rfl,uB _ _ _ (Ec (by lia) n2) hx];show (d,x)=(d,max x (d+0));rw[zdi (by lia)]
 |.bin o l r,m,ok,d,x,hx=>by
  obtain⟨ho,So,Sq⟩:=ok;have nb:VH o:=by
   rcases ho with rfl |rfl |rfl<;>intro c hc<;>rw[zad.mp hc]<;>decide
  show (put _ _++o++put _ _).foldl eZ (d,x)=_;rw[zbI,zbI,AS _ (oT l _ So) d x hx,uB o _ _ nb (by lia),AS _ (oT r _ Sq) _ _ (by lia)];simp only[Prod.mk.injEq,true_and];show _=max x (d+max _ _);lia
def around:Nat->W->W
 |0,w=>w
 |n+1,w=>put true (around n w)
def EY:Nat->List W->List W
 |0,w=>w
 |n+1,w=>zG true (EY n w)
theorem uZ{w:W}{L:List W}(h:pieces w=L):∀n,pieces (around n w)=EY n L
 |0=>h
 |n+1=>vC true (uZ h n)
theorem ze{w:W}{k:Nat}(h:∀d x,d<=x->w.foldl eZ (d,x)=(d,max x (d+k))):∀n d x,d<=x->(around n w).foldl eZ (d,x)=(d,max x (d+(n+k)))
 |0,d,x,hx=>by rw[zdI];exact h d x hx
 |n+1,d,x,hx=>by
  have:=AS true (ze h n) d x hx;rw[show around (n+1) w=put true (around n w) from rfl,this];have e:N8 true=1:=rfl;rw[e,show 1+(n+k)=n+1+k by lia]
theorem RS.around{t:Tr}{L:List W}{k:Nat}(h:RS k t L):∀n,RS (k+n) t (EY n L)
 |0=>h
 |n+1=>(RF.br (h.around n)).p.s
theorem RS.expr{t:Tr}{w:W}(h:RS 5 t (pieces w))(hl:w.length<=60):expr w=some t:=by
 unfold PM.expr;have:=h [] (.inl rfl);rw[zaN,sG] at this;rw[if_neg (by lia),this]
theorem GK(t:Tr)(m:Int)(ok:EX t)(n:Nat)(hl:(around n (cj t m)).length<=60)(hd:oS (around n (cj t m))<=5):expr (around n (cj t m))=some t:=by
 have e:oS (around n (cj t m))=n+dep t m:=by
  unfold oS;rw[ze (oT t m ok) n 0 0 (zah _)];simp
 rw[e] at hd;refine RS.expr ?_ hl;rw[uZ (pF t m ok) n];have:=(qk t m (5-n) ok (by lia)).1.around n;rw[show 5-n+n=5 by lia] at this;exact this
theorem MB{p:W}{r:List W}{s s':Nat×Bool}(h:run (p::r) s=some s'):∃s1,step p s=some s1/\run r s1=some s':=by
 rw[qj] at h;cases e:step p s with
 |none=>rw[e] at h;cases h
 |some s1=>rw[e] at h;exact⟨s1,rfl,h⟩
theorem EZ:∀ {A B:List W} {s s1:Nat×Bool},run A s=some s1->run (A++B) s=run B s1
 |[],B,s,s1,h=>by cases h;rfl
 |p::A,B,s,s1,h=>by
  obtain⟨s2,e1,e2⟩:=MB h;rw[zaS,fC e1];exact EZ e2
def cnt (S:List W):Nat:=(S.filter (fun s=>decide (s≠[40]))).length
def Yi (w:W):Prop:=∀c∈w,c≠43/\c≠45/\c≠42
theorem MC:∀k<10,48<=(zcU k).toNat/\(zcU k).toNat<=57:=by decide
theorem GL:∀(fuel n:Nat) (acc:List Char),(∀c∈acc,48<=c.toNat/\c.toNat<=57)->∀c∈zbK 10 fuel n acc,48<=c.toNat/\c.toNat<=57
 |0,n,acc,h=>by unfold zbK;exact h
 |fuel+1,n,acc,h=>by
  have h':∀c∈zcU (n%10)::acc,48<=c.toNat/\c.toNat<=57:=fun c hc=>by
   rcases zai.mp hc with rfl |hc
   ·exact MC _ (by lia)
   ·exact h c hc
  unfold zbK;simp only;split
  ·exact h'
  ·exact GL fuel _ _ h'
theorem GN:∀(k fuel n:Nat) (acc:List Char),n<10 ^ (k+1)->(zbK 10 fuel n acc).length<=acc.length+(k+1)
 |k,0,n,acc,_=>by unfold zbK;lia
 |0,fuel+1,n,acc,h=>by
  unfold zbK;simp only;rw[if_pos (by lia)];simp
 |k+1,fuel+1,n,acc,h=>by
  unfold zbK;simp only;split
  ·simp
  ·have e:(10:Nat) ^ (k+1+1)=10*10 ^ (k+1):=by rw[Nat.pow_succ];lia
   have:=GN k fuel (n/10) (zcU (n%10)::acc) (by rw[e] at h;lia);simp only[zaf] at this;lia
theorem Pn(n:Nat)(h:n<10000):Yi (dig n)/\(dig n).length<=10:=by
 refine⟨fun c hc=>?_,?_⟩
 ·unfold dig at hc;obtain⟨d,hd,rfl⟩:=zaI.mp hc;have:=GL _ _ [] (by simp) d hd;lia
 ·unfold dig;rw[zaj];have:=GN 3 (n+1) n [] (by lia);simp only[zba] at this;unfold zb7;lia
end PM
namespace L2
open PySem PySem.Spec PyProof.Rows
structure Fly(P:zd1)(w:zdR)(outer:List Env)(H:Hp)(s:zdZ)(E:XK)(x:zdP)(s':zdZ)(cls a0:zdQ)(B:Heap)(H':Hp):Prop where
 fl:Heap.FlyingW B outer x cls a0 s'.heap
 os:s'.os=s.os
 bare:AllBare s'.gens
 un:Un (gH outer) [] H H' s.heap s'.heap
 eC:wu P w H' s'.heap
 old:∀b o,s.heap.get? b=some o->b ∉ gH outer->∃o',B.get? b=some o'
 Oh:∀b u,H' b=some u->∃o,B.get? b=some o
 want:E cls none H'
def m6 (P:zd1) (w:zdR):IZ:=fun outer H s E e s'=>∃x cls a0 B H',e=.ref x/\Fly P w outer H s E x s' cls a0 B H'
section
variable{P:zd1}{w:zdR}{H H':Hp}{h h' B:Heap}{a:zdP}{o:HO}
theorem fP.there(x:fP P w H h a o):∃ob,h.get? a=some ob:=by
 induction o with
 |lst xs=>obtain⟨_,_,_,_,e⟩:=x;exact⟨_,e⟩
 |tup xs=>obtain⟨_,_,_,_,e,_⟩:=x;exact⟨_,e⟩
 |dK bg=>obtain⟨_,_,_,_,o,_,_,e,_⟩:=x;exact⟨_,e⟩
 |dT bg=>obtain⟨_,_,_,_,o,_,_,e,_⟩:=x;exact⟨_,e⟩
 |set S n=>obtain⟨o,_,_,_,e,_⟩:=x;exact⟨_,e⟩
 |ins C dx fs=>obtain⟨_,_,_,e,_⟩:=x;exact⟨_,e⟩
 |own y=>exact x
 |xd fs=>obtain⟨_,⟨_,_,_,e,_⟩,_⟩:=x;exact⟨_,e⟩
 |ZG lo hi=>obtain⟨_,_,_,e⟩:=x;exact⟨_,e⟩
 |Og ob u=>obtain⟨e,_⟩:=x;exact⟨_,e⟩
 |RI ps=>exact⟨_,(show h.get? a=some _ from x)⟩
 |met f y=>exact⟨_,(show h.get? a=some _ from x)⟩
 |ext φ=>obtain⟨_,e,_⟩:=x;exact e
theorem wu.part(x:wu P w H h)(st:B.StaysIn h)(Gr:B.StaysIn h')(t:∀b u,H b=some u->∃o,B.get? b=some o):wu P w H h':=fun a o e=>by
 refine(x a o e).uJ (fun c v hc q=>?_) (fun _ q=>q) fun _ _ q=>q;have tr:∃u,H c=some u:=by
  rcases hc with rfl |hc
  ·exact⟨_,e⟩
  ·exact⟨_,hc⟩
 obtain⟨u,hu⟩:=tr;obtain⟨o',uK⟩:=t c u hu;have:=st c o' uK;rw[q] at this;cases this;exact Gr c _ uK
end
section
variable{X:Cx}{pins:List (zdP×Obj)}{σ:St}{H H':Hp}{s s':zdZ}{h':Heap}{E:XK}{x:zdP}{cls a0:zdQ}{B:Heap}
theorem Fly.move(F:Fly X.prog X.w X.stack H s E x s' cls a0 B H')(I:Inv X pins σ H s)(st:B.StaysIn h')(up:s'.heap.UpToSlots h'):Un (gH X.stack) [] H H' s.heap h'/\wu X.prog X.w H' h':=by
 have fr:∀b∈gH X.stack,∃o,s.heap.get? b=some o/\∀vs,o.data≠.fields vs:=fun b hb=>(I.stack.mem hb).2;have slot:∀b o,s.heap.get? b=some o->H b=none->b∈gH X.stack->∃sl,h'.get? b=some {o with slots:=sl}:=fun b o e n hb=>by
  obtain⟨sl,e1⟩:=F.un.slot b o e n hb (by simp);obtain⟨o',uK,hd⟩:=fr b hb;rw[e] at uK;cases uK;obtain⟨UO,e2⟩:=up b _ e1 hd;exact⟨UO,e2⟩
 refine⟨⟨fun b o e n hb _=>?_,fun b o e n hb _=>slot b o e n hb,fun b o e n hx=>F.un.free b o e n hx,fun b o e _=>?_,F.un.lR,F.un.qE,F.un.rX⟩,F.eC.part F.fl.1 st F.Oh⟩
 ·obtain⟨o',uK⟩:=F.old b o e hb;have e1:=F.un.keep b o e n hb (by simp);have e2:=F.fl.1 b o' uK;rw[e1] at e2;cases e2;exact st b _ uK
 ·by_cases hb:b∈gH X.stack
  ·obtain⟨sl,e1⟩:=slot b o e (I.z7 b hb) hb;exact⟨_,e1⟩
  ·obtain⟨o',uK⟩:=F.old b o e hb;exact⟨o',st b o' uK⟩
theorem Inv.T8(I:Inv X pins σ H s)(hex:X.ex=[])(u:Un (gH X.stack) [] H H' s.heap h'):Un X.fs [] X.H₀ H' X.s₀.heap h':=by
 have nx:∀b,b ∉ X.ex:=fun b=>by rw[hex];simp
 have ZJ:∀b o,X.s₀.heap.get? b=some o->b≠X.env.locals:=fun b o e=>zaR (zaH (Heap.lt_size e) I.ok.above);refine⟨fun b o q n hb _=>?_,fun b o q n hb _=>?_,fun b o q n _=>?_,fun b o q _=>?_,fun b xs q=>u.lR b xs (I.base.lR b xs q),fun b ob xs q=>u.qE b ob xs (I.base.qE b ob xs q),fun b ps q=>?_⟩
 ·exact u.keep b o (I.base.keep b o q n hb (nx b)) (I.base.free b o q n (nx b)) (fun z=>(zai.mp (I.xM b z)).elim (ZJ b o q) hb) (by simp)
 ·obtain⟨sl,e1⟩:=I.base.slot b o q n hb (nx b);obtain⟨UO,e2⟩:=u.any e1 (I.base.free b o q n (nx b)) (by simp);exact⟨UO,e2⟩
 ·obtain⟨o',e1⟩:=I.base.there b o q (nx b);exact u.free b o' e1 (I.base.free b o q n (nx b)) (by simp)
 ·obtain⟨o',e1⟩:=I.base.there b o q (nx b);exact u.there b o' e1 (by simp)
 ·obtain⟨m1,e1⟩:=I.base.rX b ps q;obtain⟨m2,e2⟩:=u.rX b _ e1;exact⟨m1++m2,by rw[e2,zcK]⟩
theorem Inv.Po(I:Inv X pins σ H s)(hex:X.ex=[])(old:∀b o,s.heap.get? b=some o->b ∉ gH X.stack->∃o',B.get? b=some o'):∀b o,X.s₀.heap.get? b=some o->b ∉ X.fs->∃o',B.get? b=some o':=fun b o e hb=>by
 obtain⟨o',e1⟩:=I.base.there b o e (by rw[hex];simp);exact old b o' e1 fun z=>(zai.mp (I.xM b z)).elim (zaR (zaH (Heap.lt_size e) I.ok.above)) hb
end
section
variable{P:zd1}{w:zdR}{K:zab}{mg:Str->Option zdQ}{base:Heap}{N:List Str}{qual:Str}{scope:Scope}{f:zdP}{cd:zdQ}{A:zd0}{outer:List Env}{s₀:zdZ}{H₀:Hp}{E:XK}
theorem dQ:Passes (m6 P w) (lU (m6 P w) P w K mg base N qual scope f cd A outer s₀ H₀ E) E:=by
 intro pins σ H s e s' I h;obtain⟨x,cls,a0,B,H',rfl,F⟩:=h;show wpAny _ _ (leaving _ _) _ _ _;refine wpAny_leaves_onW I.ok.frames rfl F.fl fun h' fl up=>?_;obtain⟨u,eC⟩:=F.move I fl.1 up;exact⟨x,cls,a0,B,H',rfl,fl,F.os.trans I.os,F.bare,I.T8 rfl u,eC,I.Po rfl F.old,F.Oh,F.want⟩
def T9 (X:Cx) (E:XK):Prop:=∀(pins:List (zdP×Obj)) (σ:St) (H:Hp) (s:zdZ) (h1:Heap) (x:zdP) (cls:zdQ) (vs:List zdQ),Inv X pins σ H s->Heap.MadeExcOf s.heap h1 x cls vs->E cls none H->X.xe (.ref x) {s with heap:=h1}
theorem dS:T9 (lU (m6 P w) P w K mg base N qual scope f cd A outer s₀ H₀ E) E:=by
 intro pins σ H s h1 x cls vs I hx want;have RO:∀env∈(lU (m6 P w) P w K mg base N qual scope f cd A outer s₀ H₀ E).stack,∀a,env.frame=some a->a∈gH (lU (m6 P w) P w K mg base N qual scope f cd A outer s₀ H₀ E).stack:=fun env he a hb=>zb5.mpr ⟨env,he,hb⟩;show wpAny _ _ (leaving _ _) _ _ _;refine wpAny_leaves_madeW (base:=zcv s.heap (gH (lU (m6 P w) P w K mg base N qual scope f cd A outer s₀ H₀ E).stack)) I.ok.frames rfl (fun b o q=>zcP _ q) (PySem.W.funFrames_hide I.stack RO) hx fun h' t fl _ _ up=>?_;have ZU:∀b o,s.heap.get? b=some o->b ∉ gH (lU (m6 P w) P w K mg base N qual scope f cd A outer s₀ H₀ E).stack->(zcv s.heap (gH (lU (m6 P w) P w K mg base N qual scope f cd A outer s₀ H₀ E).stack)).get? b=some o:=fun b o e hb=>zdD _ e hb;have slot:∀b o,s.heap.get? b=some o->b∈gH (lU (m6 P w) P w K mg base N qual scope f cd A outer s₀ H₀ E).stack->∃sl,h'.get? b=some {o with slots:=sl}:=fun b o e hb=>by
  obtain⟨o',uK,hd⟩:=(I.stack.mem hb).2;rw[e] at uK;cases uK;exact up b o (hx.keeps b o e) hd
 have Oh:∀b u,H b=some u->∃o,(zcv s.heap (gH (lU (m6 P w) P w K mg base N qual scope f cd A outer s₀ H₀ E).stack)).get? b=some o:=fun b u e=>by
  obtain⟨o,ho⟩:=(I.eC b u e).there;refine⟨o,ZU b o ho fun z=>?_⟩;rw[I.z7 b z] at e;cases e
 have u:Un (gH (lU (m6 P w) P w K mg base N qual scope f cd A outer s₀ H₀ E).stack) [] H H s.heap h':=by
  refine⟨fun b o e _ hb _=>fl.1 b o (ZU b o e hb),fun b o e _ hb _=>slot b o e hb,fun _ _ _ n _=>n,fun b o e _=>?_,fun _ _ q=>q,fun _ _ _ q=>q,fun _ ps q=>⟨#[],by rw[q];simp⟩⟩;by_cases hb:b∈gH (lU (m6 P w) P w K mg base N qual scope f cd A outer s₀ H₀ E).stack
  ·obtain⟨sl,e1⟩:=slot b o e hb;exact⟨_,e1⟩
  ·exact⟨o,fl.1 b o (ZU b o e hb)⟩
 exact⟨x,cls,_,_,H,rfl,fl,I.os,I.bare,I.T8 rfl u,I.eC.part (fun b o q=>zcP _ q) fl.1 Oh,I.Po rfl fun b o e hb=>⟨o,ZU b o e hb⟩,Oh,want⟩
theorem Sr:PassesOwn (model P w) (lU (m6 P w) P w K mg base N qual scope f cd A outer s₀ H₀ E).A (lU (m6 P w) P w K mg base N qual scope f cd A outer s₀ H₀ E).env (lU (m6 P w) P w K mg base N qual scope f cd A outer s₀ H₀ E).xe:=PassesOwn.leaving
end
structure zJ(K:zab)(C:zdP):Prop where
 q:zbt K C [.type "ValueError",.type "Exception",.type "BaseException",.type "object"] "ValueError.__new__"=true
theorem zJ.obj{K:zab}{C:zdP}{h:Heap}(c:zJ K C)(X:K.In h):∃bm N nm q bs hdct sn sub ab col dd k0 k1 k2 k3 k5 mN,h.get? C=some (excClassObj nm q C N bs bm hdct sn sub ab col dd k0 k1 k2 k3 k5 "ValueError.__new__")/\h.Ns N mN/\mN "__init__"=none/\
 OwnTail h [.type "ValueError",.type "Exception",.type "BaseException",.type "object"] bm:=by
 have q:=c.q;unfold zbt at q;split at q
 ·rename_i dd cd sl ho;split at q
  ·rename_i C' bm k0 k1 k2 k3 n k5 hm hs;simp only[zaD,beq_iff_eq,Bool.not_eq_true'] at q;obtain⟨⟨⟨⟨⟨rfl,rfl⟩,Yj⟩,ht⟩,eC⟩,ZV⟩:=q;obtain⟨nm,bs,mro,ns,qn,hd,sn,sub,ab,col,del⟩:=cd;dsimp only at hm Yj eC ZV;subst hm Yj;have hsl:sl = #[k0,k1,k2,k3,some (.builtin "ValueError.__new__"),k5]:=by
    obtain⟨l⟩:=sl;simp only at hs;rw[hs]
   subst hsl;exact⟨bm,ns,nm,qn,bs,hd,sn,sub,ab,col,dd,k0,k1,k2,k3,k5,_,X _ _ ho,.of_isNs (PySem.W.isNs_of_in X eC),PySem.W.nsMap_none_of_in X eC ZV,PySem.W.tail_of_in X ht⟩
  ·cases q
 ·cases q
def JA (C:zdP) (E:XK) (ta:TA):TS:=fun _ σ H=>ta σ H fun vs H1=>vs.length<=zdX/\E (.ref C) none H1
section
variable{X:Cx}{C:zdP}{E:XK}{x:Str}{np jU pos:Pos}{e:Expr}{es:List Expr}{ta:TA}
theorem cH(fl:T9 X E)(c:zJ X.K C)(hg:Gl X x)(hm:X.mg x=some (.ref C))(uW:X.calm=true)(ha:PA X (e::es) ta)(Ms:(x==("__debug__":Str))=false:=by decide)
 (he:zdV (e::es) X.env=(false,eval e X.env)::zdV es X.env:=by rfl) (Gd:(backTo jU (zdV es X.env)).any (·.1)=false:=by rfl) :
 PS X (.Raise (some (.Call (.Name x np) (e::es) [] jU)) none pos) (JA C E ta):=by
 intro pins s σ H D I h;obtain⟨bm,N,nm,q,bs,hdct,sn,sub,ab,col,dd,k0,k1,k2,k3,k5,mN,hC,hN,ZV,T⟩:=c.obj I.ok.mod.W4;refine wpAny_Raise_call_subT (C:=C) (nm:=nm) (q:=q) (N:=N) (bs:=bs) (bm:=bm) (hdct:=hdct) (sn:=sn) (sub:=sub) (ab:=ab) (col:=col) (dd:=dd) (k0:=k0) (k1:=k1) (k2:=k2) (k3:=k3) (k5:=k5)
  PySem.F.excBase_ValueError (mN:=mN) (T.hasType PySem.F.excBase_ValueError.hasBase) (I.ok.hd uW) (by rw[he];show (false ||(backTo jU (zdV es X.env)).any (·.1))=false;rw[Gd];rfl) ZV (qF I hg hm ⟨rfl,?_⟩ Ms)
 have ha':=ha jU pins s σ H _ I h;rw[he] at ha' ⊢;refine Calls.evalArgs_plain (wpAny_mono ha' (fun us s1 ⟨vs,H1,I1,r,hl,q⟩=>⟨rfl,by rw[<- r.length];exact hl,I1.bk _ _ hC,hN.keeps I1.bk,T.keeps I1.bk,fun h' y hm=>?_⟩) fun _ _ y=>y);exact fl pins σ H1 s1 h' y (.ref C) us I1 hm q
end
abbrev Cx.gM (X:Cx) (x:zdP):Cx:={X with A:=X.A.mark (some (.ref x)),calm:=false,xe:=fun _ _=>False}
theorem Cx.Ok.gM{X:Cx}(ok:X.Ok)(x:zdP):(X.gM x).Ok:=
 ⟨ok.mod,ok.kind,ok.glob,ok.blt,ok.above,ok.inj,ok.has,ok.RY,(fun z=>absurd z zal),ok.frames,ok.RJ,ok.W5,ok.bs,ok.Jf,ok.EI,ok.Gn,ok.r9,ok.N6⟩
theorem Cx.Ok.lB{X:Cx}{x:zdP}(ok:(X.gM x).Ok)(hd:X.calm=true->X.A.handled=none):X.Ok:=
 ⟨ok.mod,ok.kind,ok.glob,ok.blt,ok.above,ok.inj,ok.has,ok.RY,hd,ok.frames,ok.RJ,ok.W5,ok.bs,ok.Jf,ok.EI,ok.Gn,ok.r9,ok.N6⟩
section
variable{X:Cx}{pins:List (zdP×Obj)}{σ:St}{H:Hp}{s:zdZ}{x:zdP}
theorem Inv.gM(I:Inv X pins σ H s)(x:zdP):Inv (X.gM x) pins σ H s:=⟨I.ok.gM x,I.os,I.bare,I.base,I.loc,I.cell,I.free,I.lh,I.pin,I.eC,I.len⟩
theorem Inv.lB(I:Inv (X.gM x) pins σ H s)(hd:X.calm=true->X.A.handled=none):Inv X pins σ H s:=⟨I.ok.lB hd,I.os,I.bare,I.base,I.loc,I.cell,I.free,I.lh,I.pin,I.eC,I.len⟩
theorem SP.lB{D:Ends}{f:Flow}{s':zdZ}(h:SP (X.gM x) pins D f s')(hd:X.calm=true->X.A.handled=none):SP X pins D f s':=by
 cases f with
 |next=>obtain⟨σ',H',I,q⟩:=h;exact⟨σ',H',I.lB hd,q⟩
 |brk=>obtain⟨σ',H',I,q⟩:=h;exact⟨σ',H',I.lB hd,q⟩
 |cont=>obtain⟨σ',H',I,q⟩:=h;exact⟨σ',H',I.lB hd,q⟩
 |ret u=>obtain⟨v,σ',H',I,r,q⟩:=h;exact⟨v,σ',H',I.lB hd,r,q⟩
theorem Inv.told{o:HO}(I:Inv X pins σ H s)(n:H x=none)(h0:X.s₀.heap.objs.size<=x)(hL:x≠X.env.locals)(hc:∀y c,X.env.cells.lookup y=some c->c≠x)(hp:∀p∈X.pn++pins,p.1≠x)(ok:fP X.prog X.w (upd H x o) s.heap x o):Inv X pins σ (upd H x o) s:=by
 have nx:∀b u,X.s₀.heap.get? b=some u->b≠x:=fun b u e=>zaR (zaH (Heap.lt_size e) h0);refine⟨I.ok,I.os,I.bare,⟨I.base.keep,I.base.slot,fun b u e n' hx=>?_,I.base.there,fun b xs e=>?_,fun b ob u e=>?_,fun b ps e=>?_⟩,I.loc,I.cell,?_,fun y c e=>?_,fun p GC=>?_,fun b u e=>?_,I.len⟩
 ·rw[aq (nx b u e)];exact I.base.free b u e n' hx
 ·have:=I.base.lR b xs e;rw[aq (aI this n)];exact this
 ·have:=I.base.qE b ob u e;rw[aq (aI this n)];exact this
 ·obtain⟨m,e1⟩:=I.base.rX b ps e;exact⟨m,by rw[aq (aI e1 n)];exact e1⟩
 ·rw[aq (Ne.symm hL)];exact I.free
 ·rw[aq (hc y c e)];exact I.lh y c e
 ·obtain⟨a,b,c⟩:=I.pin p GC;exact⟨a,by rw[aq (hp p GC)];exact b,c⟩
 ·by_cases hb:b=x
  ·subst hb;rw[aj] at e;cases e;exact ok
  ·rw[aq hb] at e;exact(I.eC b u e).uJ (fun _ _ _ q=>q) (fun c q=>by rw[aq (aI q n)];exact q) fun c xs q=>by rw[aq (aI q n)];exact q
end
abbrev Cx.pinned (X:Cx) (pins:List (zdP×Obj)) (xe:zdQ->zdZ->Prop):Cx:={X with pn:=X.pn++pins,xe:=xe}
theorem Cx.Ok.pinned{X:Cx}(ok:X.Ok)(pins:List (zdP×Obj))(xe:zdQ->zdZ->Prop):(X.pinned pins xe).Ok:=
 ⟨ok.mod,ok.kind,ok.glob,ok.blt,ok.above,ok.inj,ok.has,ok.RY,ok.hd,ok.frames,ok.RJ,ok.W5,ok.bs,ok.Jf,ok.EI,ok.Gn,ok.r9,ok.N6⟩
theorem Cx.Ok.qf{X:Cx}{pins:List (zdP×Obj)}{xe:zdQ->zdZ->Prop}(ok:(X.pinned pins xe).Ok):X.Ok:=
 ⟨ok.mod,ok.kind,ok.glob,ok.blt,ok.above,ok.inj,ok.has,ok.RY,ok.hd,ok.frames,ok.RJ,ok.W5,ok.bs,ok.Jf,ok.EI,ok.Gn,ok.r9,ok.N6⟩
section
variable{X:Cx}{pins yT:List (zdP×Obj)}{σ:St}{H:Hp}{s:zdZ}{xe:zdQ->zdZ->Prop}
theorem Inv.aa5(I:Inv X pins σ H s)(xe:zdQ->zdZ->Prop):Inv (X.pinned pins xe) [] σ H s:=⟨I.ok.pinned pins xe,I.os,I.bare,I.base,I.loc,I.cell,I.free,I.lh,fun p hp=>I.pin p (by rw[zaN] at hp;exact hp),I.eC,I.len⟩
theorem Inv.VI(I:Inv (X.pinned pins xe) yT σ H s):Inv X pins σ H s:=⟨I.ok.qf,I.os,I.bare,I.base,I.loc,I.cell,I.free,I.lh,fun p hp=>I.pin p (zaW _ hp),I.eC,I.len⟩
end
open Builtin Builtin.Getset_descriptor Builtin.ObjectAttr PySem.Calls
structure E1(K:zab)(C:zdP):Prop where
 cl:zaZ K C=true
 ga:zao K (.ref C) "__getattribute__"=some (some (.builtin "BaseException.__getattribute__"))
 gh:zao K (.ref C) "__getattr__"=some none
 ca:zao K (.ref C) "__class__"=some (some (.builtin "object.__class__"))
 ob:zaX K C (.type "object")=some true
 be:zaX K C (.type "BaseException")=some true
def rG (x C:zdP) (h:Heap):Prop:=∃o,h.get? x=some o/\o.cls=.ref C
theorem rG.type{x C:zdP}{h:Heap}{M:Model}(p:rG x C h):PySem.W.Looks M h (typeOf (.ref x)) (.ref C):=by
 obtain⟨o,h1,h2⟩:=p;exact h2▸(PySem.W.Looks.ld h1).andThen .now
section
variable{prog:zd1}{w:zdR}{A:zd0}{E:zdQ->zdZ->Prop}{s:zdZ}{K:zab}{x C:zdP}
theorem Pp{R:Result->zdZ->Prop}{tp:zdQ}(c:E1 K C)(X:K.In s.heap)(p:rG x C s.heap)(fin:R (.ok (.ret (.ref C))) s) :
 codeAny (model prog w) A (.call (.builtin "getset_descriptor.__get__") ⟨[.builtin "object.__class__",.ref x,tp],[]⟩) R s:=by
 obtain⟨h1,g1,d1,t1,o1⟩:=s;have LA:=p.type (M:=model prog w);have LB:=zdF (M:=model prog w) X c.ob;refine codeAny_call_builtin PySem.W.KF.slot_gs.plain PySem.W.KF.entry_gs (PySem.W.KF.slot_gs.check _ _ _ _ _ _ _ _ PySem.W.KF.type_class (PySem.W.KF.args_gs _ _ _) ?go)
 case go=>
  unfold Builtin.«getset_descriptor.__get__» descrGet;rw[PySem.W.dga_obj];refine zdS (zdT ?go2)
  case go2=>
   unfold descrGetter descrCheckInstance descrNameAndClass isInstance;simp only[PySem.W.KF.owner_class]
   repeat lk
   refine⟨Code.quiet_builtin _ (by decide +kernel),codeAny_builtin PySem.W.KF.entry_class ?ZW⟩
   case ZW=>
    unfold Builtin.«object.__class__» shownTypeOf
    repeat lk
    exact fin
theorem JB{tk:Tok}{Q:Fin->zdZ->Prop}(c:E1 K C)(X:K.In s.heap)(p:rG x C s.heap)(fin:Q (.done (.ret (.ref C))) s) :
 wpAny (model prog w) A (Builtin.«object.__getattribute__» ⟨[.ref x,.str "__class__" tk],[]⟩) Q E s:=by
 obtain⟨h1,g1,d1,t1,o1⟩:=s;have LA:=p.type (M:=model prog w);have LB:=zb2 (M:=model prog w) X c.ca;have f1:(⟨h1,g1,d1,t1,o1⟩:zdZ).TypeIs (.builtin "object.__class__") "getset_descriptor":=F.typeOf_object_class;have f2:=F.typeOf_object_class;have f3:=F.slot_gs_get.lookup;have f4:=F.slot_gs_set.lookup
 repeat (any_goals (first |assumption |with_reducible refine LA.at ?_ |with_reducible refine LB.at ?_ |wp_step))
 refine Pp c X p ?_
 repeat (any_goals (first |assumption |wp_step))
theorem JC{M:Model}{v:zdQ}{Q:Unit->zdZ->Prop}(c:E1 K C)(X:K.In s.heap)(p:rG x C s.heap)(fin:Q () s) :
 wpAny M A (checkBuiltinCall "BaseException.__getattribute__" ⟨[.ref x,v],[]⟩) Q E s:=by
 obtain⟨h1,g1,d1,t1,o1⟩:=s;have k1:builtinKind "BaseException.__getattribute__"=some .slot:=by decide +kernel
 have k2:splitId "BaseException.__getattribute__"=some ("BaseException", "__getattribute__"):=by decide +kernel
 have k3:=F.args_bexc_ga (.ref x) v;have LA:=p.type (M:=M);have LB:=zdF (M:=M) X c.be;simp only[checkBuiltinCall,k1,k2];refine zdS ?_;unfold isInstance
 repeat (first |with_reducible refine LA.at ?_ |with_reducible refine LB.at ?_ |wp_step)
 exact fin
theorem MD{tk:Tok}{R:Result->zdZ->Prop}(c:E1 K C)(X:K.In s.heap)(p:rG x C s.heap)(fin:R (.ok (.ret (.ref C))) s) :
 codeAny (model prog w) A (.call (.builtin "BaseException.__getattribute__") ⟨[.ref x,.str "__class__" tk],[]⟩) R s:=
 codeAny_call_builtin F.excAttr_ValueError.ga.plain F.entry_bexc_ga (JC c X p (JB c X p fin))
theorem Ss{tk:Tok}{Q:zdQ->zdZ->Prop}(c:E1 K C)(X:K.In s.heap)(p:rG x C s.heap)(fin:Q (.ref C) s) :
 wpAny (model prog w) A (getAttrBy (.ref x) (.str "__class__" tk) false) Q E s:=by
 obtain⟨h1,g1,d1,t1,o1⟩:=s;have LA:=p.type (M:=model prog w);have LB:=zb2 (M:=model prog w) X c.ga;have LC:=zb2 (M:=model prog w) X c.gh;have b1:=F.excAttr_ValueError.ga.bind (.ref x);have b2:(false&&onTheHeap (Value.builtin "BaseException.__getattribute__"))=false:=rfl;have b3:(Value.builtin "BaseException.__getattribute__"==Value.builtin "object.__getattribute__")=false:=by decide +kernel
 have b4:(onTheHeap (Value.ref C)&&Value.builtin "BaseException.__getattribute__"==Value.builtin "object.__getattribute__")=false:=by rw[b3];exact Bool.and_false _
 repeat (any_goals (first |assumption |with_reducible refine LA.at ?_ |with_reducible refine LB.at ?_ |with_reducible refine LC.at ?_ |wp_step))
 refine MD c X p ?_
 repeat (any_goals (first |assumption |wp_step))
theorem ME{Q:Option zdQ->zdZ->Prop}(c:E1 K C)(X:K.In s.heap)(p:rG x C s.heap)(fin:Q (some (.ref C)) {s with toks:=s.toks+1}) :
 wpAny (model prog w) A (getAttr? (.ref x) "__class__") Q E s:=by
 obtain⟨h1,g1,d1,t1,o1⟩:=s;unfold getAttr? getAttrBy?;have X':K.In (⟨h1,g1,d1,t1+1,o1⟩:zdZ).heap:=X;have p':rG x C (⟨h1,g1,d1,t1+1,o1⟩:zdZ).heap:=p
 repeat (any_goals (first |assumption |with_reducible apply Ss c X' p' |wp_step))
end
theorem GO{K:zab}{x C:zdP}(c:E1 K C):PySem.W.KitX K (.ref x) (.ref C) (rG x C) where
 ty:=fun _ _ _ p=>p.type
 it:=fun _ _ X _=>by
  obtain⟨cd,hc,_⟩:=zc8 c.cl;unfold PySem.W.clsIn at hc;split at hc
  ·rename_i ho;intro A' Q' E' s' k q;unfold isType loadHead;exact zdS (wpAny_loadPart (k _ _ (X _ _ ho)) (zdT q))
  ·cases hc
 ne:=fun h tp dd bp n sl X htp=>by
  obtain⟨cd,hc,_⟩:=zc8 c.cl;refine zcb.mpr fun q=>?_;have e:C=tp:=Value.ref.inj (beq_iff_eq.mp q);subst e;unfold PySem.W.clsIn at hc;split at hc
  ·rename_i ho;have z:=(X _ _ ho).symm.trans htp;cases z
  ·cases hc
 ca:=fun X p k=>ME c X p k
def wN (x C:zdP):HO:=.ext (rG x C)
theorem Su{P:zd1}{w:zdR}{H:Hp}{h:Heap}{x C:zdP}(p:rG x C h):fP P w H h x (wN x C):=by
 refine⟨p,?_,fun h1 h2 q k=>?_⟩
 ·obtain⟨o,h1,_⟩:=p;exact⟨o,h1⟩
 ·obtain⟨o,e1,e2⟩:=q;exact⟨o,k o e1,e2⟩
theorem eM{X:Cx}{K:zab}(hK:X.K=K):jW X (.builtin "isinstance") (fun xs H Q=>∃a C D b,xs=[.ref a,.ref D]/\H a=some (wN a C)/\E1 K C/\zaa K (.ref C) (.ref D)=some b/\Q (.bl b) H):=by
 intro pins s σ H xs us Q I r h;subst hK;obtain⟨a,C,D,b,rfl,hE,hc,e,q⟩:=h;cases r with
 |cons r1 r2=>
  cases r2 with
  |cons r3 r4=>
   cases r4;cases (show _=Value.ref a from r1);cases (show _=Value.ref D from r3);have ok:fP X.prog X.w H s.heap a (wN a C):=I.eC a _ hE;exact PySem.W.kia_one (GO hc) I.CQ ok.1 e (fun z=>nomatch z) fun tk=>⟨.bl b,H,I.tok tk,rfl,q⟩
theorem MF{X:Cx}{K:zab}(hK:X.K=K):jW X (.builtin "isinstance") (fun xs H Q=>∃a C T b,xs=[.ref a,.ty T]/\H a=some (wN a C)/\E1 K C/\zaa K (.ref C) (.type T)=some b/\Q (.bl b) H):=by
 intro pins s σ H xs us Q I r h;subst hK;obtain⟨a,C,T,b,rfl,hE,hc,e,q⟩:=h;cases r with
 |cons r1 r2=>
  cases r2 with
  |cons r3 r4=>
   cases r4;cases (show _=Value.ref a from r1);cases (show _=Value.type T from r3);have ok:fP X.prog X.w H s.heap a (wN a C):=I.eC a _ hE;exact PySem.W.kia_one (GO hc) I.CQ ok.1 e (fun z=>nomatch z) fun tk=>⟨.bl b,H,I.tok tk,rfl,q⟩
def Ends.drop (D:Ends) (i:Nat):Ends:={nx:=fun σ H=>D.nx (σ.set i none) H,rt:=D.rt,bk:=fun σ H=>D.bk (σ.set i none) H,ct:=fun σ H=>D.ct (σ.set i none) H}
section
variable{X:Cx}{pins:List (zdP×Obj)}{σ:St}{H:Hp}{s:zdZ}{x:zdP}
theorem Inv.Yk{o:HO}(I:Inv X pins σ H s)(n:H x=none)(h0:X.s₀.heap.get? x=none)(hL:x≠X.env.locals)(hc:∀y c,X.env.cells.lookup y=some c->c≠x)(hp:∀p∈X.pn++pins,p.1≠x)(ok:fP X.prog X.w (upd H x o) s.heap x o):Inv X pins σ (upd H x o) s:=by
 have away:∀b u,X.s₀.heap.get? b=some u->b≠x:=fun b u e z=>by rw[z,h0] at e;cases e
 refine⟨I.ok,I.os,I.bare,⟨I.base.keep,I.base.slot,fun b u e n' hx=>?_,I.base.there,fun b xs e=>?_,fun b ob u e=>?_,fun b ps e=>?_⟩,I.loc,I.cell,?_,fun y c e=>?_,fun p GC=>?_,fun b u e=>?_,I.len⟩
 ·rw[aq (away b u e)];exact I.base.free b u e n' hx
 ·have z:=I.base.lR b xs e;rw[aq (aI z n)];exact z
 ·have z:=I.base.qE b ob u e;rw[aq (aI z n)];exact z
 ·obtain⟨m,e1⟩:=I.base.rX b ps e;exact⟨m,by rw[aq (aI e1 n)];exact e1⟩
 ·rw[aq (Ne.symm hL)];exact I.free
 ·rw[aq (hc y c e)];exact I.lh y c e
 ·obtain⟨a,b,c⟩:=I.pin p GC;exact⟨a,by rw[aq (hp p GC)];exact b,c⟩
 ·by_cases hb:b=x
  ·subst hb;rw[aj] at e;cases e;exact ok
  ·rw[aq hb] at e;exact(I.eC b u e).uJ (fun _ _ _ q=>q) (fun c q=>by rw[aq (aI q n)];exact q) fun c xs q=>by rw[aq (aI q n)];exact q
theorem Inv.Sv{M:Model}{A:zd0}{E:zdQ->zdZ->Prop}{i:Nat}{n:Str}{pos:Pos}{Q:Unit->zdZ->Prop}(I:Inv X pins σ H s)(hN:X.N.Nodup)(hi:X.N[i]?=some n)(hk:X.env.scope.names.lookup n=some .local)
 (h:∀s',Inv X pins (σ.set i none) H s'->Q () s'):wpAny M A (do bindName X.env n .none;unbindBehindTheSuite X.env n pos) Q E s:=by
 obtain⟨m,hn,hl⟩:=id I.loc;have aa6:(X.env.scope.kind==.class ||(X.env.scope.kind==.module&&X.env.locals != X.env.globals))=false:=by rw[I.ok.kind];rfl
 have lQ:i<σ.length:=by rw[I.len];exact(zar.mp hi).1
 have Oj:=I.Oj;obtain⟨oL,_,_,ZL,_⟩:=id hn;refine wpAny_nameGoes_keeps hk hn aa6 fun h' v hn' hs=>h _ ?_;have under:∀b o,X.s₀.heap.get? b=some o->h'.get? b=s.heap.get? b:=fun b o e=>hs.2 b (zaR (zaH (Heap.lt_size e) I.ok.above));refine⟨I.ok,I.os,I.bare,⟨fun b o e z hb hx=>(under b o e).trans (I.base.keep b o e z hb hx),fun b o e z hb hx=>?_,I.base.free,fun b o e hx=>?_,I.base.lR,I.base.qE,I.base.rX⟩,⟨_,hn',fun j y v' e1 e2 e3=>?_⟩,fun y c e=>?_,I.free,I.lh,fun p hp=>?_,fun b ob e=>?_,by simpa using I.len⟩
 ·obtain⟨sl,e1⟩:=I.base.slot b o e z hb hx;exact⟨sl,(under b o e).trans e1⟩
 ·obtain⟨o',e1⟩:=I.base.there b o e hx;exact⟨o',(under b o e).trans e1⟩
 ·by_cases hj:j=i
  ·subst hj;rw[zbx lQ] at e2;cases e2
  ·rw[zbD (Ne.symm hj)] at e2;obtain⟨u',r',q⟩:=hl j y v' e1 e2 e3;refine⟨u',r',?_⟩;rcases q with ⟨k,e⟩ |⟨k,c,e,z⟩
   ·have ny:y≠n:=fun z=>hj (Al hN e1 (z▸hi));exact .inl ⟨k,by simp[ny,e]⟩
   ·exact .inr ⟨k,c,e,z.sameBut hs (Oj y c e)⟩
 ·obtain⟨w',z⟩:=I.cell y c e;exact⟨w',z.sameBut hs (Oj y c e)⟩
 ·obtain⟨e,z,ne,nf,d⟩:=I.pin p hp;exact⟨(hs.2 p.1 ne).trans e,z,ne,nf,d⟩
 ·refine(I.eC b ob e).uJ (fun c w' hc q=>(hs.2 c ?_).trans q) (fun _ q=>q) fun _ _ q=>q
  rintro rfl
  rcases hc with rfl |hc
  ·rw[I.free] at e;cases e
  ·rw[I.free] at hc;cases hc
end
def Pq (K:zab) (CH:zdP) (i:Nat) (sp:Sp) (ta:TA) (ts:TS):TS:=fun D σ H=>ta σ H fun vs H1=>sp vs H1 (fun _ H2=>D.nx σ H2) fun cls _ H2=>zat K cls (.ref CH)=some true/\
 ∃C,cls=.ref C/\∀y,H2 y=none->ts (D.drop i) (σ.set i (some (.ref y))) (upd H2 y (wN y C))
section
variable{X:Cx}{k i:Nat}{f CH:zdP}{fd:zdY}{ps:List Str}{sp:Sp}{fx cx n:Str}{p pos pos' np aa7 Vk:Pos}{e:Expr}{es:List Expr}{ta:TA}{ts:TS}{b0:Stmt}{Ua:List Stmt}
theorem Pr(hN:X.N.Nodup)(hi:X.N[i]?=some n)(MG:X.env.scope.names.lookup n=some .local)(hex:X.ex=[])(F:bu X.prog X.w X.K X.mg X.base (m6 X.prog X.w) k f fd ps sp)(hr:g8 k X.A)(hg:Gl X fx)(hm:X.mg fx=some (.ref f))(hk:za5 X.K (.ref f)=true)(hb:Binds X.K fd ps [])
 (ha:∀pn xe,PA {X with pn:=pn,xe:=xe} (e::es) ta) (IY:X.stack=X.env::X.outer) (hfr:X.env.frame=some X.env.locals) (hgC:Gl X cx) (hmC:X.mg cx=some (.ref CH)) (hs:∀x,IX (X.gM x) (b0::Ua) ts)
 (Ms:(fx==("__debug__":Str))=false:=by decide) (hdc:(cx==("__debug__":Str))=false:=by decide) (he:zdV (e::es) X.env=(false,eval e X.env)::zdV es X.env:=by rfl) (Gd:(backTo pos (zdV es X.env)).any (·.1)=false:=by rfl)
 (hsw:swapsWith (.Call (.Name fx p) (e::es) [] pos) none pos'.line X.env=pure false:=by rfl) :
 PS X (.Try [.Expr (.Call (.Name fx p) (e::es) [] pos) pos'] [.ExceptHandler (some (.Name cx np)) (some n) (b0::Ua) aa7] [] [] Vk) (Pq X.K CH i sp ta ts):=by
 intro pins s σ H D I h;have hd:X.calm=true->X.A.handled=none:=I.ok.hd;have call:PE (X.pinned pins fun x s'=>∃H1 s1,Inv X pins σ H1 s1/\m6 X.prog X.w X.stack H1 s1 (fun cls _ H2=>zat X.K cls (.ref CH)=some true/\∃C,cls=.ref C/\∀y,H2 y=none->ts (D.drop i) (σ.set i (some (.ref y))) (upd H2 y (wN y C))) x s') (.Call (.Name fx p) (e::es) [] pos)
  (fun σ' H' Q=>σ'=σ/\ta σ H' fun vs H1=>sp vs H1 Q fun cls _ H2=>zat X.K cls (.ref CH)=some true/\∃C,cls=.ref C/\∀y,H2 y=none->ts (D.drop i) (σ.set i (some (.ref y))) (upd H2 y (wN y C))):=by
  intro yT s' σ' H' Q I' h';obtain⟨rfl,h'⟩:=h';refine wpAny_Call_Name_kw (qF I' hg hm ?_ Ms);refine zcR (h₀:=X.base) I'.ok.mod.W4 hk (fA (ha _ _ pos yT s' σ' H' _ I' h') fun us s1 ⟨vs,H1,I1,r,q⟩=>⟨I1.CQ,?_⟩) he Gd;have hl:us.length=ps.length:=by rw[<- r.length];exact F.len _ _ _ _ q
  have bnd:=hb s1 us I1.CQ (by rw[zaN];exact hl);rw[zaN] at bnd;refine wpAny_call (codeAny_mono (F.run X.A X.stack s1 H1 ⟨us,[]⟩ us vs Q _ hr I1.VI.Vn bnd r q) fun r s2 hq=>?_);cases r with
  |error x=>exact⟨H1,s1,I1.VI,hq⟩
  |ok fl=>
   cases fl with
   |ret u=>exact I1.after hq
   |next=>exact False.elim hq
   |brk=>exact False.elim hq
   |cont=>exact False.elim hq
 have body:=ao (cP (pos:=pos') call hsw) [] s σ H {nx:=D.nx,rt:=fun _ _=>False} (I.aa5 _) ⟨rfl,h⟩;refine wpAny_Try_except (wpAny_mono body (fun fl s1 hf=>?_) fun x s1 hx=>?_)
 ·cases fl with
  |next=>
   obtain⟨σ',H',I',q⟩:=hf;exact wpAny_execs_nil ⟨σ',H',I'.VI,q⟩
  |ret u=>obtain⟨_,_,_,_,_,q⟩:=hf;exact False.elim q
  |brk=>obtain⟨_,_,_,q⟩:=hf;exact False.elim q
  |cont=>obtain⟨_,_,_,q⟩:=hf;exact False.elim q
 ·obtain⟨H1,s0,I0,y,cls,a0,B,H',rfl,Y⟩:=hx;obtain⟨aa8,C,rfl,hq⟩:=Y.want;have fl:=Y.fl;have RJ:X.A.frames=some (X.env::X.outer):=by rw[<- IY];exact I.ok.frames
  rw[IY] at fl;refine wpAny_looks_onW RJ hfr fl fun h4 Yl up4=>?_;refine wpAny_landsW Yl fun h5 Pt up5=>?_;have up:=up4.trans up5;have state:∀ {h6:Heap},B.StaysIn h6->s1.heap.UpToSlots h6->Inv X pins σ H' {s1 with heap:=h6}:=fun {h6} st up6=>by
   obtain⟨u,eC⟩:=Y.move I0 st up6;exact I0.TJ (s':={s1 with heap:=h6}) Y.os u eC Y.bare fun b z=>absurd z (by simp)
  have I5:=state Pt.1 up;refine wpAny_handleBy_cons (codeAny_handlers_test (qF (X:=X.gM y) (I5.gM y) hgC hmC ?_ hdc)) (by intro q;cases q);obtain⟨ob,hob,aba⟩:=Pt.there;have LT:PySem.W.Looks (model X.prog X.w) h5 (typeOf (.ref y)) (.ref C):=by
   rw[<- aba];exact(PySem.W.Looks.ld hob).andThen .now
  refine(PySem.W.exm_one (I5.CQ) LT aa8).here ?_;refine codeAny_handlers_suite_as ?_;refine lands_againW Pt fun h6 Pu up6=>?_;have I6:=state Pu.1 (up.trans up6);obtain⟨o6,ho6,abc⟩:=Pu.there;have noB:B.get? y=none:=fl.2.1;have nH:H' y=none:=by
   cases e:H' y with
   |none=>rfl
   |some u=>obtain⟨o,ho⟩:=Y.Oh y u e;rw[noB] at ho;cases ho
  have abd:∃vs,o6.data=.fields vs:=by
   obtain⟨_,_,_,oe,vs,_,_,_,he6,_,hd6,_⟩:=Pu;rw[ho6] at he6;cases he6;exact⟨vs,hd6⟩
  have Ym:∀b∈gH X.stack,b≠y:=fun b hb z=>by
   obtain⟨_,o',uK,hdd⟩:=(I6.stack.mem hb)
   rw[z,ho6] at uK;cases uK;obtain⟨vs,hv⟩:=abd;exact hdd vs hv
  have out:∀b o,s0.heap.get? b=some o->b≠y:=fun b o e z=>by
   by_cases hb:b∈gH X.stack
   ·exact Ym b hb z
   ·obtain⟨o',uK⟩:=Y.old b o e hb;rw[z,noB] at uK;cases uK
  have hL:y≠X.env.locals:=by
   obtain⟨m0,⟨oL,_,_,ZL,_⟩,_⟩:=I0.loc;exact fun z=>out _ _ ZL z.symm
  have hC:∀z c,X.env.cells.lookup z=some c->c≠y:=fun z c e=>by
   obtain⟨_,o',uK,_⟩:=I0.cell z c e;exact out c o' uK
  have hP:∀q∈X.pn++pins,q.1≠y:=fun q RM=>out q.1 _ (I0.pin q RM).1;have h0:X.s₀.heap.get? y=none:=by
   cases e:X.s₀.heap.get? y with
   |none=>rfl
   |some o=>
    obtain⟨o',uK⟩:=I0.base.there y o e (by rw[hex];simp);exact absurd rfl (out y o' uK)
  have I7:=(I6.Yk (o:=wN y C) nH h0 hL hC hP (Su ⟨o6,ho6,abc⟩)).gM y;refine Am (X:=X.gM y) I7 hN hi (.inl MG) (show RelV (.ref y) (.ref y) from rfl) (fun s8 I8=>?_) (.inr MG);refine wpAny_mono (hs y pins s8 (σ.set i (some (.ref y))) (upd H' y (wN y C)) (D.drop i) I8 (hq y nH)) (fun fl s9 q9=>?_) fun _ _ z=>False.elim z;have ZX:=q9.lB hd;cases fl with
  |next=>obtain⟨σ',H9,I9,q⟩:=ZX;exact I9.Sv hN hi MG fun s' I'=>⟨_,_,I',q⟩
  |brk=>obtain⟨σ',H9,I9,q⟩:=ZX;exact I9.Sv hN hi MG fun s' I'=>⟨_,_,I',q⟩
  |cont=>obtain⟨σ',H9,I9,q⟩:=ZX;exact I9.Sv hN hi MG fun s' I'=>⟨_,_,I',q⟩
  |ret u=>obtain⟨v,σ',H9,I9,r,q⟩:=ZX;exact I9.Sv hN hi MG fun s' I'=>⟨v,_,_,I',r,q⟩
end
def VJ (z:Str):It:=⟨fun i _=>i<z.cps.size,fun i H x H'=>H'=H/\∃c,z.cps[i]?=some c/\x=.str ⟨#[c]⟩,fun i _=>z.cps.size<=i⟩
section
variable{P:zd1}{w:zdR}{K:zab}{tg:Expr}
theorem MH(z:Str)(t:Tok)(it:zdP):Turn P w K tg (VJ z) [it] it (fun i h=>h.IsStrIter it "str_ascii_iterator" z t i) where
 mem:=by simp
 obj:=fun i h st b hb=>by
  have e:b=it:=by simpa using hb
  subst e;obtain⟨o,e,c,d⟩:=st;exact⟨o,e,fun v y=>by rw[d] at y;cases y⟩
 keep:=fun i h h' st k=>let ⟨o,ho,r⟩:=st;⟨o,k it (by simp) o ho,r⟩
 item:=by
  intro X hP hw hK hc i pins s σ H E I hf st hg;subst hP hw hK;obtain⟨f0,f1,f2,f3,f4,f5⟩:=hf it (by simp);have lQ:i<z.cps.size:=hg;refine wpAny_pyNext_ascii_item st (c:=z.cps[i]) (by simp[lQ]) fun h' Gr sb=>?_;have I1:Inv X pins σ H {s with heap:=h',toks:=s.toks+1}:=I.turned (fun b o hb e=>(sb.2 b hb).trans e) f0 f1 f3 f4 f5;obtain⟨o,e,c,d⟩:=id Gr;exact⟨_,rfl,KU (s:={s with heap:=h',toks:=s.toks+1}) e c d (by decide) ⟨.str ⟨#[z.cps[i]]⟩,H,I1,⟨_,rfl⟩,⟨rfl,z.cps[i],by simp[lQ],rfl⟩,Gr,fun b hb=>(hf b hb).1⟩⟩
 done:=by
  intro X hP hw hK hc i pins s σ H E I hf st hg;subst hP hw hK;obtain⟨f0,f1,f2,f3,f4,f5⟩:=hf it (by simp);have hle:z.cps.size<=i:=hg;exact wpAny_pyNext_ascii_end (I.ok.hd hc) st (by simp[hle]) fun h' eb=>⟨rfl,I.turned (t':=s.toks) (fun b o hb e=>eb b o hb e) f0 f1 f3 f4 f5⟩
 self:=fun _ _ _ _ _ st h=>wpAny_pyIter_striter_ascii st h
theorem MJ(z:Str)(t:Tok)(it:zdP):Turn P w K tg (VJ z) [it] it (fun i h=>h.IsStrIter it "str_iterator" z t i) where
 mem:=by simp
 obj:=fun i h st b hb=>by
  have e:b=it:=by simpa using hb
  subst e;obtain⟨o,e,c,d⟩:=st;exact⟨o,e,fun v y=>by rw[d] at y;cases y⟩
 keep:=fun i h h' st k=>let ⟨o,ho,r⟩:=st;⟨o,k it (by simp) o ho,r⟩
 item:=by
  intro X hP hw hK hc i pins s σ H E I hf st hg;subst hP hw hK;obtain⟨f0,f1,f2,f3,f4,f5⟩:=hf it (by simp);have lQ:i<z.cps.size:=hg;refine wpAny_pyNext_wide_item st (c:=z.cps[i]) (by simp[lQ]) fun h' Gr sb=>?_;have I1:Inv X pins σ H {s with heap:=h',toks:=s.toks+1}:=I.turned (fun b o hb e=>(sb.2 b hb).trans e) f0 f1 f3 f4 f5;obtain⟨o,e,c,d⟩:=id Gr;exact⟨_,rfl,KU (s:={s with heap:=h',toks:=s.toks+1}) e c d (by decide) ⟨.str ⟨#[z.cps[i]]⟩,H,I1,⟨_,rfl⟩,⟨rfl,z.cps[i],by simp[lQ],rfl⟩,Gr,fun b hb=>(hf b hb).1⟩⟩
 done:=by
  intro X hP hw hK hc i pins s σ H E I hf st hg;subst hP hw hK;obtain⟨f0,f1,f2,f3,f4,f5⟩:=hf it (by simp);have hle:z.cps.size<=i:=hg;exact wpAny_pyNext_wide_end (I.ok.hd hc) st (by simp[hle]) fun h' eb=>⟨rfl,I.turned (t':=s.toks) (fun b o hb e=>eb b o hb e) f0 f1 f3 f4 f5⟩
 self:=fun _ _ _ _ _ st h=>wpAny_pyIter_striter_wide st h
end
section
variable{X:Cx}{tg:Expr}
def VL (tl:TE):TI:=fun σ H R=>tl σ H fun x H1=>∃z,x=.str z/\R (VJ z) H1
theorem JD{l:Expr}{tl:TE}(hl:PE X l tl):PI X tg l (VL tl):=by
 intro pins s σ H R I h;refine fA (hl pins s σ H _ I h) fun v s1 zqz=>?_;obtain⟨x,H1,I1,r1,q1⟩:=zqz;obtain⟨z,e,q⟩:=q1;subst e;obtain⟨t,rfl⟩:=r1;have fp:∀b∈[s1.heap.objs.size],vv X pins H1 b:=fun b hb=>by
  have e:b=s1.heap.objs.size:=by simpa using hb
  subst e;exact I1.Oy (zah _) (I1.eC.fresh (zah _))
 cases ha:z.cps.all (·<128) with
 |false=>exact wpAny_pyIter_wide ha ⟨s1.heap.objs.size,[s1.heap.objs.size],_,_,H1,rfl,I1.kept (t':=s1.toks) fun b o e=>Heap.get?_push_of_some _ e,MJ z t _,⟨_,Heap.get?_push_size _ rfl,rfl,rfl⟩,fp,q⟩
 |true=>exact wpAny_pyIter_ascii ha ⟨s1.heap.objs.size,[s1.heap.objs.size],_,_,H1,rfl,I1.kept (t':=s1.toks) fun b o e=>Heap.get?_push_of_some _ e,MH z t _,⟨_,Heap.get?_push_size _ rfl,rfl,rfl⟩,fp,q⟩
end
theorem Ln{z:Str}{g:TG}{tb:TS}{D:Ends}{σ:St}{H:Hp}(Pv:Nat->St->Hp->Prop)(h0:Pv 0 σ H)
 (hs:∀i c σ H,z.cps.toList[i]?=some c->Pv i σ H->g (.str ⟨#[c]⟩) σ H fun σ2 H2=>tb {D with nx:=Pv (i+1),ct:=Pv (i+1),bk:=D.nx} σ2 H2) (hd:∀σ H,Pv z.length σ H->D.nx σ H) :
 ∃W:Nat->Nat->St->Hp->Prop,(∃m,W 0 m σ H)/\∀i m σ H,W i m σ H->
  ((VJ z).stop i H/\D.nx σ H)\/((VJ z).go i H/\∃N:St->Hp->Prop,(∀σ' H',N σ' H'->∃m',m'<m/\W (i+1) m' σ' H')/\∀x H',(VJ z).Gb i H x H'->g x σ H' fun σ2 H2=>tb {D with nx:=N,ct:=N,bk:=D.nx} σ2 H2):=by
 refine⟨fun i m σ H=>m=z.cps.size-i/\i<=z.cps.size/\Pv i σ H,⟨z.cps.size,by simp,zaU _,h0⟩,?_⟩
 rintro i m σ H ⟨rfl,hi,p⟩
 by_cases lQ:i<z.cps.size
 ·refine .inr ⟨lQ,Pv (i+1),fun σ' H' p'=>⟨z.cps.size-(i+1),by lia,rfl,lQ,p'⟩,fun x H' y=>?_⟩;obtain⟨rfl,c,hc,rfl⟩:=y;exact hs i c σ _ (by simpa using hc) p
 ·have e:i=z.cps.size:=by lia
  subst e;exact .inl ⟨zah _,hd σ H p⟩
def GP (z:Str) (lo hi:Option Int):Str:=⟨((z.cps.toList.drop (HT.f9 z.length 0 lo)).take (HT.f9 z.length z.length hi-HT.f9 z.length 0 lo)).toArray⟩
theorem EO{n d:Nat}(hd:d<=n)(o:Option Int):HT.f9 n d o<=n:=by
 cases o with
 |none=>exact hd
 |some i=>
  show (if i<0 then (i+n).toNat else min i.toNat n)<=n;split<;>lia
theorem Pw(x:Str)(lo hi:Option Int):Txt.slice x lo hi=GP x lo hi:=by
 have e:(Builtin.Str.strSliceIndices lo hi 1 x.length).filterMap (x.cps[·]?)=(x.cps.toList.drop (HT.f9 x.length 0 lo)).take (HT.f9 x.length x.length hi-HT.f9 x.length 0 lo):=by
  obtain⟨h1,h2,h3⟩:=qL lo hi x.length;have:Builtin.Str.strSliceIndices lo hi 1 x.length=sliceRange (HT.f9 x.length 0 lo:Nat) (HT.f9 x.length x.length hi:Nat) 1:=by
   rw[<- h1,<- h2];rfl
  rw[this,sliceRange_one,pick_run]
 unfold Txt.slice GP;rw[e];split
 ·rename_i c;have hl:(Builtin.Str.strSliceIndices lo hi 1 x.length).length=x.length:=by
   simp only[beq_self_eq_true,Bool.true_and,beq_iff_eq] at c;exact c
  obtain⟨h1,h2,h3⟩:=qL lo hi x.length;have e2:Builtin.Str.strSliceIndices lo hi 1 x.length=sliceRange (HT.f9 x.length 0 lo:Nat) (HT.f9 x.length x.length hi:Nat) 1:=by
   rw[<- h1,<- h2];rfl
  rw[e2,sliceRange_one,zaj,zcc] at hl;have b1:=EO (n:=x.length) (zaU _) lo;have b2:=EO (n:=x.length) (zah _) hi;have z0:HT.f9 x.length 0 lo=0\/x.length=0:=by lia
  have hx:x.cps.toList.length=x.length:=by simp[Str.length]
  have:(x.cps.toList.drop (HT.f9 x.length 0 lo)).take (HT.f9 x.length x.length hi-HT.f9 x.length 0 lo)=x.cps.toList:=by
   rcases z0 with z0 |z0
   ·rw[hl,z0,zcH];exact zbn (by lia)
   ·have:x.cps.toList=[]:=zcx (by lia);rw[this];simp
  rw[this]
 ·rfl
section
variable{X:Cx}
def abe:V->Option Int->Option Int->Hp->VK->Prop:=fun x lo hi H Q=>∃z,x=.str z/\z.length<=zdX/\Q (.str (GP z lo hi)) H
theorem AU:TX X abe:=by
 intro pins s σ H x v vl vu lo hi sl Q I rx hs pl pu h;obtain⟨z,rfl,hz,q⟩:=h;obtain⟨t,rfl⟩:=rx;obtain⟨o,ho,hc,hd⟩:=hs;refine⟨"str",_,F.slot_str_getitem.lookup,typeIs_str _ _ _,?_⟩;have fin:∀t' k,EP X pins σ Q (.str (Txt.slice z lo hi) t') {s with toks:=k}:=fun t' k=>⟨.str (GP z lo hi),H,I.tok k,⟨t',by rw[Pw]⟩,q⟩
 cases pl with
 |none=>
  cases pu with
  |none=>exact wpAny_getItem_str_slice (l:=none) (u:=none) (st:=none) ⟨o,ho,hc,hd⟩ rfl (post_val_or_str ⟨zay (Txt.slice_le z _ _) hz,fin⟩)
  |int j tj=>exact wpAny_getItem_str_slice (l:=none) (u:=some (j,tj)) (st:=none) ⟨o,ho,hc,hd⟩ rfl (post_val_or_str ⟨zay (Txt.slice_le z _ _) hz,fin⟩)
 |int i ti=>
  cases pu with
  |none=>exact wpAny_getItem_str_slice (l:=some (i,ti)) (u:=none) (st:=none) ⟨o,ho,hc,hd⟩ rfl (post_val_or_str ⟨zay (Txt.slice_le z _ _) hz,fin⟩)
  |int j tj=>exact wpAny_getItem_str_slice (l:=some (i,ti)) (u:=some (j,tj)) (st:=none) ⟨o,ho,hc,hd⟩ rfl (post_val_or_str ⟨zay (Txt.slice_le z _ _) hz,fin⟩)
def CZ (z:Str) (n:Nat):Str:=⟨(zax n z.cps).foldl (· ++ ·) #[]⟩
theorem jY:rF X (binaryOp .Mult) (fun x y H Q=>∃z n,x=.str z/\y=.int n/\-(2 ^ 63)<=n/\n<2 ^ 31/\z.length*n.toNat<=zdX/\Q (.str (CZ z n.toNat)) H):=by
 intro pins s σ H x y v u Q I rx ry h;obtain⟨z,n,rfl,rfl,h1,h2,hz,q⟩:=h;obtain⟨t,rfl⟩:=rx;obtain⟨t',rfl⟩:=ry;have line:=sj;refine P.mul_str (by
  have e1:decide (n < -(2 ^ 63:Int))=false:=decide_eq_false (by lia);have e2:decide (n ≥ 2 ^ 63)=false:=decide_eq_false (by lia);rw[e1,e2,zcT]) (fun c _=>?_) (fun _ _=>?_) ?_
 ·have hn:0<n:=by lia
  have:(z.length:Int)<=(2 ^ 63-1)/n:=by
   apply Int.le_ediv_of_mul_le hn
   have e:(z.length:Int)*n=((z.length*n.toNat:Nat):Int):=by rw[Int.natCast_mul,zcC (by lia)]
   rw[e];lia
  lia
 ·unfold Builtin.Str.tooLong;simp only[gt_iff_lt,decide_eq_false_iff_not,Nat.not_lt];exact hz
 ·by_cases c1:n<1
  ·rw[if_pos c1];have e:n.toNat=0:=by lia
   rw[e] at q;exact⟨by decide,⟨.str Str.empty,H,I.tok _,⟨_,rfl⟩,q⟩⟩
  ·rw[if_neg c1];by_cases c2:(n==1 ||z.length==0)=true
   ·rw[if_pos c2];have e:CZ z n.toNat=z:=by
     unfold CZ;rcases zdy.mp c2 with c |c
     ·have e1:n.toNat=1:=by have:=beq_iff_eq.mp c;lia
      rw[e1];simp
     ·have e0:z.cps = #[]:=by
       have:z.cps.size=0:=beq_iff_eq.mp c;exact Array.eq_empty_of_size_eq_zero this
      have all:∀k:Nat,(zax k (#[]:Array Nat)).foldl (· ++ ·) #[] = #[]:=fun k=>by
       induction k with
       |zero=>rfl
       |succ k ih=>rw[za3,zaO];exact ih
      obtain⟨cps⟩:=z;simp only at e0;rw[e0,all]
    rw[e] at q;exact⟨.str z,H,I,⟨t,rfl⟩,q⟩
   ·rw[if_neg c2];refine⟨?_,⟨.str (CZ z n.toNat),H,I.tok _,⟨_,rfl⟩,q⟩⟩;show (CZ z n.toNat).length<=zdX;have len:∀(k:Nat) (acc:Array Nat),((zax k z.cps).foldl (· ++ ·) acc).size=acc.size+k*z.cps.size:=fun k=>by
     induction k with
     |zero=>intro acc;simp
     |succ k ih=>intro acc;rw[za3,zaO,ih,Array.size_append,zc4];lia
    show ((zax n.toNat z.cps).foldl (· ++ ·) #[]).size<=zdX;rw[len];have:n.toNat*z.cps.size=z.length*n.toNat:=Nat.mul_comm _ _;simp only[zau,zba];lia
theorem wO:jW X (.type "int") (fun xs H Q=>∃z n,xs=[.str z]/\PySem.intText? z=some n/\z.length<=640/\Q (.int n) H):=by
 intro pins s σ H xs us Q I r h;obtain⟨z,n,rfl,hn,hl,q⟩:=h;obtain⟨u,rfl,ru⟩:=vals1 r;obtain⟨t,rfl⟩:=ru;exact PySem.W.KIN.call_text hn hl ⟨.int n,H,I.tok _,⟨_,rfl⟩,q⟩
theorem Px(hc:X.calm=true):jW X (.builtin "all") (fun xs H Q=>∃(p:zdP) (bs:List Bool),xs=[.ref p]/\gI X.K H p (bs.map V.bl)/\Q (.bl (bs.all id)) H):=by
 intro pins s σ H xs us Q I r h;obtain⟨p,bs,rfl,hl,q⟩:=h;obtain⟨u,rfl,ru⟩:=vals1 r;cases (show u=Value.ref p from ru);obtain⟨bp,rv,pl,_⟩:=I.list hl;have lQ:p<s.heap.objs.size:=by
  obtain⟨o,_,e,_⟩:=pl;exact Heap.lt_size e
 refine call_all_walk (wpAny_pyIter_list pl.isList ?_);have ne:p≠s.heap.objs.size:=zaR lQ;refine⟨s.heap.objs.size,_,_,_,_,_,fun i=>bs.getD i true,rfl,Walks.list (show X.A.in1.handled=none from I.ok.hd hc) _ p ne bp.toArray,⟨⟨_,Heap.get?_push_size _ rfl,rfl,rfl⟩,pl.isList.push _⟩,fun i v s' Q' E' hv hq=>?_,fun h' tk hk=>?_⟩
 ·have ZN:bp[i]?=some v:=by simpa using hv
  have hb:∃b,bs[i]?=some b:=by
   have:i<bs.length:=by
    have l1:=rv.length;rw[zaj] at l1;have:=(zar.mp ZN).1;lia
   exact⟨bs[i],zag this⟩
  obtain⟨b,hb⟩:=hb;obtain⟨u,hu,ru⟩:=rv.get (i:=i) (x:=.bl b) (by rw[zaE,hb];rfl);rw[ZN] at hu;cases hu;cases (show v=Value.bool b from ru);have e:bs.getD i true=b:=by rw[zaz,hb];rfl
  have RM:Q' (bs.getD i true) s':=hq;rw[e] at RM;exact zdT RM
 ·refine⟨.bl (bs.all id),H,I.kept (h':=h') (t':=tk) (fun b o e=>hk b o ?_ (Heap.get?_push_of_some _ e)),?_,q⟩
  ·have:b≠s.heap.objs.size:=zaR (Heap.lt_size e);simpa using this
  ·have ln:bp.toArray.size=bs.length:=by rw[zau,<- rv.length,zaj]
   show Value.bool ((zaA bp.toArray.size).all fun i=>bs.getD i true)=Value.bool (bs.all id);rw[ln]
   congr 1
   have key:∀l:List Bool,((zaA l.length).all fun i=>l.getD i true)=l.all id:=fun l=>by
    rw[zbv,za4,za4]
    constructor
    ·intro h x hx;obtain⟨i,hi,rfl⟩:=zcD hx;have:=h i (zbu.mpr hi);rw[zaz,zag hi] at this;exact this
    ·intro h i hi;have hi:=zbu.mp hi;rw[zaz,zag hi];exact h _ (zaK hi)
   exact key bs
end
theorem Py{J:It}{D:zdP}{tc:TT}{te:TE}{Q:VK}{r:St}{H:Hp}(xs:List V)(p:V->Bool)(f:V->V)(hl:xs.length<=16000000)
 (go:∀i ys,i<xs.length->J.go i (upd H D (.lst ys))) (Gb:∀i ys x H',J.Gb i (upd H D (.lst ys)) x H'->H'=upd H D (.lst ys)/\xs[i]?=some x) (stop:∀ys,J.stop xs.length (upd H D (.lst ys)))
 (test:∀x∈xs,∀ys (R:Bool->Hp->Prop),R (p x) (upd H D (.lst ys))->tc (some x::r) (upd H D (.lst ys)) R)
 (step:∀x∈xs,p x=true->∀ys (R:VK),R (f x) (upd H D (.lst ys))->te (some x::r) (upd H D (.lst ys)) R)
 (q:Q (.ref D) (upd H D (.lst ((xs.filter p).map f)))):sD J D (mI 0) tc te Q (none::r) (upd H D (.lst [])):=by
 refine⟨fun i m τ H2=>m=xs.length-i/\i<=xs.length/\(∃x,τ=x::r)/\H2=upd H D (.lst (((xs.take i).filter p).map f)),⟨xs.length,by simp,zaU _,⟨none,rfl⟩,by simp⟩,?_⟩
 rintro i m τ H2 ⟨rfl,hi,⟨x,rfl⟩,rfl⟩
 by_cases lQ:i<xs.length
 ·refine .inr ⟨go i _ lQ,fun τ' H'=>(∃x,τ'=x::r)/\H'=upd H D (.lst (((xs.take (i+1)).filter p).map f)),fun τ' H' ⟨h1,h2⟩=>⟨xs.length-(i+1),by lia,rfl,lQ,h1,h2⟩,fun y H' hy=>?_⟩;obtain⟨rfl,hz⟩:=Gb i _ y H' hy;clear hy;have hy:=hz;rw[zag lQ] at hy;cases hy;have mem:=zaK lQ;simp only[mI,zcI];refine test _ mem _ _ ?_;rw[zbk lQ,zcL,zas];cases hp:p xs[i] with
  |false=>
   rw[if_neg zal];refine⟨⟨_,rfl⟩,?_⟩;simp[hp]
  |true=>
   rw[if_pos rfl];refine step _ mem hp _ _ ⟨_,aj,?_,⟨_,rfl⟩,?_⟩
   ·have h1:(((xs.take i).filter p).map f).length<=i:=by
     rw[zaj];exact zay (zcj _ _) (by rw[zaB];lia)
    have:zdX=2 ^ 24:=rfl;lia
   ·rw[EG];simp[hp]
 ·have e:i=xs.length:=by lia
  subst e;refine .inl ⟨stop _,?_⟩;rw[zbz];exact q
theorem Pz{z:Str}{D:zdP}{tc:TT}{te:TE}{Q:VK}{r:St}{H:Hp}(p:Nat->Bool)(f:Nat->V)(hl:z.length<=16000000)
 (test:∀c∈z.cps.toList,∀ys (R:Bool->Hp->Prop),R (p c) (upd H D (.lst ys))->tc (some (.str ⟨#[c]⟩)::r) (upd H D (.lst ys)) R)
 (step:∀c∈z.cps.toList,p c=true->∀ys (R:VK),R (f c) (upd H D (.lst ys))->te (some (.str ⟨#[c]⟩)::r) (upd H D (.lst ys)) R)
 (q:Q (.ref D) (upd H D (.lst ((z.cps.toList.filter p).map f)))):sD (VJ z) D (mI 0) tc te Q (none::r) (upd H D (.lst [])):=by
 have code:∀(c:Nat),(match V.str ⟨#[c]⟩ with |.str y=>y.cps.toList.headD 0 |_=>0)=c:=fun c=>rfl;refine Py (z.cps.toList.map fun c=>V.str ⟨#[c]⟩) (fun x=>p (match x with |.str y=>y.cps.toList.headD 0 |_=>0)) (fun x=>f (match x with |.str y=>y.cps.toList.headD 0 |_=>0)) (by rw[zaj];simpa[Str.length] using hl)
  (fun i ys hi=>?_) (fun i ys x H' hy=>?_) (fun ys=>?_) (fun x hx ys R hR=>?_) (fun x hx hp ys R hR=>?_) ?_
 ·show i<z.cps.size;simpa using hi
 ·obtain⟨rfl,c,hc,rfl⟩:=hy;refine⟨rfl,?_⟩;rw[zaE];have:z.cps.toList[i]?=some c:=by simpa using hc
  rw[this];rfl
 ·show z.cps.size<=_;simp
 ·obtain⟨c,hc,rfl⟩:=zaI.mp hx;exact test c hc ys R hR
 ·obtain⟨c,hc,rfl⟩:=zaI.mp hx;exact step c hc hp ys R hR
 ·rw[List.filter_map,zbE];exact q
abbrev W:=PM.W
def S (w:W):Str:=⟨w.toArray⟩
def sv (w:W):V:=.str (S w)
theorem VM(w:W):(S w).cps.toList=w:=rfl
theorem bZ(w:W):(S w).length=w.length:=by simp[S,Str.length]
theorem GQ{a b:W}:S a=S b↔a=b:=⟨fun h=>by have:=congrArg (fun z:Str=>z.cps.toList) h;simpa[S] using this,fun h=>by rw[h]⟩
theorem gb(a b:W):S a++S b=S (a++b):=by
 show (⟨a.toArray++b.toArray⟩:Str)=_;simp[S]
theorem gX{a b:W}:sv a=sv b↔a=b:=by unfold sv;rw[V.str.injEq];exact GQ
theorem PB(c:Nat):(⟨#[c]⟩:Str)=S [c]:=rfl
def mJ:PM.Tr->Dp
 |.num n=>.tup [.str "number",.int n]
 |.box x=>.tup [.str "box",.str (S x)]
 |.bin o l r=>.tup [.str (S o),mJ l,mJ r]
def kindS:Nat->Str
 |0=>"letter"
 |1=>"figure"
 |2=>"sign"
 |_=>""
def bX (p:zdP) (H H':Hp):Prop:=∀b o,b≠p->H b=some o->H' b=some o
theorem bX.refl(p:zdP)(H:Hp):bX p H H:=fun _ _ _ h=>h
theorem bX.trans{p:zdP}{H H1 H2:Hp}(a:bX p H H1)(b:bX p H1 H2):bX p H H2:=fun c o n h=>b c o n (a c o n h)
theorem bX.of{p:zdP}{H H':Hp}(s:ay H H'):bX p H H':=fun b o _ h=>s b o h
theorem bX.put{p:zdP}{H H1:Hp}(a:bX p H H1)(o:HO):bX p H (upd H1 p o):=fun b u n h=>by rw[aq n];exact a b u n h
theorem bX.new{p q:zdP}{H H1:Hp}(a:bX p H H1)(h:H1 q=none)(o:HO):bX p H (upd H1 q o):=fun b u n e=>by rw[aq (aI (a b u n e) h)];exact a b u n e
theorem bX.same{p:zdP}{H H':Hp}(a:bX p H H')(h:H p=none):ay H H':=fun b o e=>a b o (aI e h) e
structure wx(CP:zdP)(H:Hp)(p l dx:zdP)(ps:List W)(k:Nat):Prop where
 ins:H p=some (.ins CP dx [("pieces",.ref l),("place",.int k)])
 own:H dx=some (.own p)
 lst:H l=some (.lst (ps.map sv))
 le:k<=ps.length
 pos:∀q∈ps,q≠[]
 len:∀q∈ps,q.length<=60
 many:ps.length<=60
theorem wx.nd{CP p l dx:zdP}{H:Hp}{ps:List W}{k:Nat}(o:wx CP H p l dx ps k):dx≠p:=dg o.own o.ins (by intro z;cases z)
theorem wx.nl{CP p l dx:zdP}{H:Hp}{ps:List W}{k:Nat}(o:wx CP H p l dx ps k):l≠p:=dg o.lst o.ins (by intro z;cases z)
theorem wx.at{CP p l dx:zdP}{H H':Hp}{ps:List W}{k j:Nat}(o:wx CP H p l dx ps k)(u:bX p H H')(e:H' p=some (.ins CP dx [("pieces",.ref l),("place",.int j)]))(hj:j<=ps.length):wx CP H' p l dx ps j:=
 ⟨e,u _ _ o.nd o.own,u _ _ o.nl o.lst,hj,o.pos,o.len,o.many⟩
theorem Rep.ql{K:zab}{H H':Hp}{p C dx:zdP}{fs:List (Str×V)}(hp:H p=some (.ins C dx fs))(u:bX p H H'):(∀(d:Dp) (v:V),Rep K H d v->Rep K H' d v)/\∀(ds:List Dp) (vs:List V),a7 K H ds vs->a7 K H' ds vs:=by
 have st:∀a xs,dF K H a xs->dF K H' a xs:=fun a xs h=>by
  rcases h with (h |⟨o,h⟩) |h
  ·exact .inl (.inl (u _ _ (dg h hp (by intro z;cases z)) h))
  ·exact .inl (.inr ⟨o,u _ _ (dg h hp (by intro z;cases z)) h⟩)
  ·exact .inr h
 have sl:∀a xs,gI K H a xs->gI K H' a xs:=fun a xs h=>by
  rcases h with (h |⟨o,h⟩) |h
  ·exact .inl (.inl (u _ _ (dg h hp (by intro z;cases z)) h))
  ·exact .inl (.inr ⟨o,u _ _ (dg h hp (by intro z;cases z)) h⟩)
  ·exact .inr h
 refine⟨fun d=>?_,fun ds=>?_⟩
 ·exact Dp.rec (motive_1:=fun d=>∀v,Rep K H d v->Rep K H' d v) (motive_2:=fun ds=>∀vs,a7 K H ds vs->a7 K H' ds vs)
   (fun v h=>by rw[Rep.wH] at h ⊢;exact h) (fun b v h=>by rw[Rep.vA] at h ⊢;exact h) (fun i v h=>by rw[Rep.cN] at h ⊢;exact h) (fun x v h=>by rw[Rep.a8] at h ⊢;exact h)
   (fun l ih v h=>by rw[Rep.bV] at h ⊢;obtain⟨a,xs,e,q,r⟩:=h;exact⟨a,xs,e,st a xs q,ih xs r⟩)
   (fun l ih v h=>by rw[Rep.oP] at h ⊢;obtain⟨a,xs,e,q,r⟩:=h;exact⟨a,xs,e,sl a xs q,ih xs r⟩)
   (fun vs h=>by rw[a7.bE] at h ⊢;exact h)
   (fun d ds i1 i2 vs h=>by rw[a7.bh] at h ⊢;obtain⟨v,r,e,x,y⟩:=h;exact⟨v,r,e,i1 v x,i2 r y⟩) d
 ·exact Dp.rec_1 (motive_1:=fun d=>∀v,Rep K H d v->Rep K H' d v) (motive_2:=fun ds=>∀vs,a7 K H ds vs->a7 K H' ds vs)
   (fun v h=>by rw[Rep.wH] at h ⊢;exact h) (fun b v h=>by rw[Rep.vA] at h ⊢;exact h) (fun i v h=>by rw[Rep.cN] at h ⊢;exact h) (fun x v h=>by rw[Rep.a8] at h ⊢;exact h)
   (fun l ih v h=>by rw[Rep.bV] at h ⊢;obtain⟨a,xs,e,q,r⟩:=h;exact⟨a,xs,e,st a xs q,ih xs r⟩)
   (fun l ih v h=>by rw[Rep.oP] at h ⊢;obtain⟨a,xs,e,q,r⟩:=h;exact⟨a,xs,e,sl a xs q,ih xs r⟩)
   (fun vs h=>by rw[a7.bE] at h ⊢;exact h)
   (fun d ds i1 i2 vs h=>by rw[a7.bh] at h ⊢;obtain⟨v,r,e,x,y⟩:=h;exact⟨v,r,e,i1 v x,i2 r y⟩) ds
section
variable(K:zab)(CP CN:zdP)
def JE (ok:Nat->Bool) (signs:Str):Sp:=fun vs H Q _=>∃w:W,vs=[sv w,.str signs]/\w.length<=1000/\(∀c,decide (c∈signs.cps.toList)=ok c)/\∀H',ay H H'->Q (.bl (w.all ok)) H'
def AV:Sp:=fun vs H Q _=>∃w:W,vs=[sv w]/\w.length<=16000000/\∀H',ay H H'->Q (.bl (PM.isName w)) H'
def vD:Sp:=fun vs H Q _=>∃w:W,vs=[sv w]/\w.length<=16000000/\∀H',ay H H'->Q (.bl (PM.isNumber w)) H'
def GR:Sp:=fun vs H Q _=>∃c:Nat,vs=[sv [c]]/\Q (.str (kindS (PM.kind c))) H
def AW:Sp:=fun vs H Q _=>∃w:W,vs=[sv w]/\w.length<=60/\∀l H',ay H H'->H l=none->H' l=some (.lst ((PM.pieces w).map sv))->Q (.ref l) H'
def PC:Sp:=fun vs H Q _=>∃(p dx:zdP) (w:W),vs=[.ref p,sv w]/\H p=some (.ins CP dx [])/\H dx=some (.own p)/\w.length<=60/\∀l H',bX p H H'->wx CP H' p l dx (PM.pieces w) 0->Q .eB H'
def wQ:Sp:=fun vs H Q _=>∃(p l dx:zdP) (ps:List W) (k:Nat),vs=[.ref p]/\wx CP H p l dx ps k/\Q (sv ((ps.drop k).headD [])) H
def xR:Sp:=fun vs H Q E=>∃(p l dx:zdP) (ps:List W) (k:Nat),vs=[.ref p]/\wx CP H p l dx ps k/\
 match ps.drop k with
 |[]=>E (.ref CN) none H
 |q::_=>∀H',bX p H H'->wx CP H' p l dx ps (k+1)->Q (sv q) H'
def sM (f:PM.P) (d:Int):Sp:=fun vs H Q E=>∃(p l dx:zdP) (ps:List W) (k:Nat),vs=[.ref p,.int d]/\wx CP H p l dx ps k/\
 match f (ps.drop k) with
 |none=>∀H',bX p H H'->E (.ref CN) none H'
 |some (t,r)=>∀v H' j,bX p H H'->wx CP H' p l dx ps j->ps.drop j=r->Rep K H' (mJ t) v->Q v H'
def ZY:Nat->PM.P
 |0=>fun _=>none
 |n+1=>fun ps=>match PM.qO (PM.factor n) ps with
  |some (e,q::r)=>if q=[41] then some (e,r) else none
  |_=>none
def xS (n:Nat) (d:Int):Sp:=sM K CP CN (ZY n) d
def VN:Sp:=fun vs H Q E=>∃w:W,vs=[sv w]/\w.length<=16000000/\
 match PM.expr w with
 |none=>∀H',ay H H'->E (.ref CN) none H'
 |some t=>∀v H',ay H H'->Rep K H' (mJ t) v->Q v H'
end
theorem GS(n:Nat)(y:W)(r:List W):PM.factor n (y::r)=if PM.isNumber y then some (.num (PM.nu y),r) else if PM.isName y then some (.box y,r) else if y=[40] then ZY n r else none:=by
 cases n with
 |zero=>
  show PM.wK _ _=_;rw[PM.eE];rfl
 |succ n=>
  show PM.wK _ _=_;rw[PM.eE];rfl
theorem GU{y:W}(h:PM.isNumber y=true):PySem.intText? (S y)=some (PM.nu y):=by
 simp only[PM.isNumber,zaD,decide_eq_true_eq] at h;obtain⟨⟨⟨h1,h2⟩,h3⟩,_⟩:=h;have ZZ:∀c∈y,48<=c/\c<=57:=fun c hc=>by
  have:=za4.mp h3 c hc;simpa[PM.g9] using this
 have ne:y≠[]:=by rintro rfl;simp at h1
 have:=PySem.intText_digits (x:=S y) ZZ ne (by rw[bZ];lia);rw[this]
 congr 1
 have key:∀(l:W),(∀c∈l,48<=c/\c<=57)->∀a:Nat,((l.foldl (fun a c=>a*10+(c-48)) a:Nat):Int)=l.foldl (fun (a:Int) (c:Nat)=>a*10+((c:Int)-48)) (a:Int):=by
  intro l
  induction l with
  |nil=>intro _ a;rfl
  |cons c r ih=>
   intro hc a;rw[zaO,zaO,ih (fun x hx=>hc x (by simp[hx]))]
   congr 1
   have:=(hc c (by simp)).1;lia
 exact key y ZZ 0
section
variable{P:zd1}{w:zdR}{K:zab}{mg:Str->Option zdQ}{base:Heap}
theorem Ge.Gg{x qual:Str}{st:Stmt}{f:zdP}{fd:zdY}{N ps:List Str}{k:Nat}{sp:Sp}(F:Ge K x qual st f fd)(S:aY N ps (aE st))(len:∀vs H Q E,sp vs H Q E->vs.length=ps.length)
 (AF:∀(d0:zdQ) (A:zd0) (outer:List Env) (s:zdZ) (H:Hp) (vs:List V) (Q:VK) (E:XK),g8 k (A.deeper (envOfC qual (aE st) s.heap.objs.size f d0))->sp vs H Q E->
  ∃t σ,IX (lU (m6 P w) P w K mg base N qual (aE st) f d0 A outer s H E) (aZ st) t/\L2.start N vs=σ/\t {nx:=fun _ H'=>Q .eB H',rt:=Q} σ H):bu P w K mg base (m6 P w) (k+1) f fd ps sp:=by
 obtain⟨oc,od,kV,doc,pm,an,d0,ct,OI,rfl,lk,Mg⟩:=F.ex;refine TV lk Mg S len fun A outer s H vs Q E hr Mv=>?_;obtain⟨t,σ,h,e,q⟩:=AF d0 A outer s H vs Q E hr Mv;exact⟨t,h,by rw[e];exact q⟩
end
mutual
def Dp.py:Dp->PyData
 |.eB=>.none
 |.bl b=>.bool b
 |.int i=>.int i
 |.str x=>.str x
 |.tup l=>.tuple (Dp.Sw l)
 |.lst l=>.list (Dp.Sw l)
def Dp.Sw:List Dp->List PyData
 |[]=>[]
 |d::r=>d.py::Dp.Sw r
end
section
variable{X:Cx}{pins:List (zdP×Obj)}{σ:St}{H:Hp}{s:zdZ}
mutual
theorem AX(I:Inv X pins σ H s):∀ {d:Dp} {v:V} {u:zdQ},Rep X.K H d v->RelV v u->∃as,Reads s.heap u d.py as
 |.eB,v,u,h,r=>by rw[Rep.wH] at h;subst h;cases (show u=Value.none from r);exact⟨_,.none⟩
 |.bl b,v,u,h,r=>by rw[Rep.vA] at h;subst h;cases (show u=Value.bool b from r);exact⟨_,.bool b⟩
 |.int i,v,u,h,r=>by rw[Rep.cN] at h;subst h;obtain⟨t,rfl⟩:=(show ∃t,u=Value.int i t from r);exact⟨_,.int i t⟩
 |.str x,v,u,h,r=>by rw[Rep.a8] at h;subst h;obtain⟨t,rfl⟩:=(show ∃t,u=Value.str x t from r);exact⟨_,.str x t⟩
 |.tup l,v,u,h,r=>by
  rw[Rep.bV] at h;obtain⟨p,xs,rfl,q,w⟩:=h;cases (show u=Value.ref p from r);obtain⟨bp,v1,t1,_⟩:=I.tuple q;obtain⟨as,ra⟩:=xT I w v1;obtain⟨o,h1,h2,n,h3⟩:=t1;unfold Dp.py;exact⟨as,.tuple h1 h2 h3 (by simpa using ra)⟩
 |.lst l,v,u,h,r=>by
  rw[Rep.oP] at h;obtain⟨p,xs,rfl,q,w⟩:=h;cases (show u=Value.ref p from r);obtain⟨bp,v1,t1,_⟩:=I.list q;obtain⟨as,ra⟩:=xT I w v1;obtain⟨o,h1,h2,n,h3⟩:=t1.isList;unfold Dp.py;exact⟨_,.list h1 h2 h3 (by simpa using ra)⟩
theorem xT(I:Inv X pins σ H s):∀ {ds:List Dp} {vs:List V} {us:List zdQ},a7 X.K H ds vs->Vals vs us->∃as,ReadsAll s.heap us (Dp.Sw ds) as
 |[],_,_,h,r=>by rw[a7.bE] at h;subst h;cases r;unfold Dp.Sw;exact⟨_,.nil⟩
 |d::ds,_,_,h,r=>by
  rw[a7.bh] at h;obtain⟨v,vs,rfl,x,y⟩:=h;cases r with
  |cons r1 r2=>
   obtain⟨a,ra⟩:=AX I x r1;obtain⟨b,rb⟩:=xT I y r2;unfold Dp.Sw;exact⟨_,.cons ra rb⟩
end
end
section
variable{X:Cx}
def abf (K:zab) (neg:Bool):R2:=fun x y H Q=>∃d e,Rep K H d x/\Rep K H e y/\SeqAt.shaped d.py=true/\SeqAt.shaped e.py=true/\Q (.bl (if neg then !PyData.eqv d.py e.py else PyData.eqv d.py e.py)) H
theorem VO(hu:X.A.units+64<cLine):rF X (compareOp .Eq) (abf X.K false):=by
 intro pins s σ H x y v u Q I rx ry h;obtain⟨d,e,h1,h2,s1,s2,q⟩:=h;obtain⟨as,ra⟩:=AX I h1 rx;obtain⟨bs,rb⟩:=AX I h2 ry;exact eq_dataH ra rb s1 s2 hu ⟨.bl (PyData.eqv d.py e.py),H,I,rfl,q⟩
theorem qP:jW X (.type "str") (fun xs H Q=>(∃i,xs=[.int i]/\i.natAbs.log2<1920/\Q (.str (toString i)) H)\/∃x,xs=[.str x]/\Q (.str x) H):=by
 intro pins s σ H xs us Q I r h;rcases h with h |⟨x,rfl,q⟩
 ·exact EL pins s σ H xs us Q I r h
 ·obtain⟨u,rfl,ru⟩:=vals1 r;obtain⟨t,rfl⟩:=ru;exact P.str_of_str ⟨.str x,H,I,⟨t,rfl⟩,q⟩
end
mutual
theorem eqv_refl:∀d:Dp,PyData.eqv d.py d.py=true
 |.eB=>rfl
 |.bl b=>by simp[Dp.py,PyData.eqv]
 |.int i=>by simp[Dp.py,PyData.eqv]
 |.str x=>by simp[Dp.py,PyData.eqv]
 |.tup l=>by simp only[Dp.py,PyData.eqv];exact xU l
 |.lst l=>by simp only[Dp.py,PyData.eqv];exact xU l
theorem xU:∀l:List Dp,PyData.eqvAll (Dp.Sw l) (Dp.Sw l)=true
 |[]=>rfl
 |d::r=>by simp only[Dp.Sw,PyData.eqvAll,eqv_refl d,xU r,Bool.and_true]
end
theorem aG{t u:TS}{D:Ends}{σ:St}{H:Hp}(h:∀U:St->Hp->Prop,(∀σ' H',U σ' H'↔u D σ' H')->t {D with nx:=U} σ H):Mh t u D σ H:=h (u D) fun _ _=>Iff.rfl
def AY (es:List Expr):Stmt->Stmt
 |.Assign ts (.List _ p) q=>.Assign ts (.List es p) q
 |s=>s
def JF:Stmt->List Expr
 |.Assign _ (.List es _) _=>es
 |_=>[]
theorem abg{A:zd0}{k:Nat}(hr:g8 k A):A.units+64<cLine:=hr.units
end L2
namespace L2
open PySem
def stir (cell k:Int):Int:=if 10 ^ 18<=cell then ((cell-10 ^ 18)/2 ^ (28*k).toNat)%2 ^ 28 else
 ((((cell+1013*k+1)*16807%2147483647)*((cell+1013*k+1)*16807%2147483647)%2147483629)*39373%2147483587)/8
theorem jZ(cell k:Int):0<=stir cell k/\stir cell k<2 ^ 28:=by
 unfold stir;split
 ·have:=zaY ((cell-10 ^ 18)/2 ^ (28*k).toNat) (show (2 ^ 28:Int)≠0 by decide);have:=zaT ((cell-10 ^ 18)/2 ^ (28*k).toNat) (show (0:Int)<2 ^ 28 by decide);lia
 ·generalize ((((cell+1013*k+1)*16807%2147483647)*((cell+1013*k+1)*16807%2147483647)%2147483629)*39373)=z;lia
def JG:Sp:=fun vs H Q _=>∃cell k:Int,vs=[.int cell,.int k]/\0<=k/\k<=100000/\Q (.int (stir cell k)) H
theorem wR{cell k:Int}{H:Hp}{Q:VK}{E:XK}:JG [.int cell,.int k] H Q E↔0<=k/\k<=100000/\Q (.int (stir cell k)) H:=by
 constructor
 ·rintro ⟨c,k',e,h⟩;cases e;exact h
 ·exact fun h=>⟨_,_,rfl,h⟩
def RQ:PM.Tr->Nat
 |.bin _ l r=>RQ l+RQ r
 |_=>1
def VP:PM.Tr->Nat
 |.bin _ l r=>max (VP l) (VP r)+1
 |_=>0
theorem Ac(b:Bool)(w:W):(PM.put b w).length<=w.length+2:=by
 cases b with
 |false=>exact Nat.le_add_right _ _
 |true=>show ([40]++w++[41]).length<=_;simp
theorem j1:∀(t:PM.Tr) (m:Int),PM.EX t->(PM.cj t m).length+5<=13*RQ t
 |.num k,m,ok=>by
  have d:=(PM.sL k.toNat (by have:=ok.1;have:=ok.2;lia)).1;simp only[PM.isNumber,zaD,decide_eq_true_eq] at d;show (PM.dig k.toNat).length+5<=13;lia
 |.box x,m,ok=>by
  have d:PM.isName x=true:=ok;simp only[PM.isName,zaD,decide_eq_true_eq] at d;show x.length+5<=13;lia
 |.bin o l r,m,ok=>by
  have h1:=j1 l (m/2) ok.2.1;have h2:=j1 r (m/3) ok.2.2;have ol:o.length=1:=by rcases ok.1 with rfl |rfl |rfl<;>rfl
  show (PM.put _ _++o++PM.put _ _).length+5<=13*(RQ l+RQ r);rw[zae,zae];have p1:=Ac (PM.zF o l m) (PM.cj l (m/2));have p2:=Ac (PM.zc o r m) (PM.cj r (m/3));lia
section
variable(K:zab)
def wU (n:Nat):Sp:=fun vs H Q _=>∃(v:V) (m:Int) (tr:PM.Tr),vs=[v,.int m]/\Rep K H (mJ tr) v/\PM.EX tr/\VP tr<n/\RQ tr<=50/\0<=m/\∀H',ay H H'->Q (sv (PM.cj tr m)) H'
end
def fg (st:Int×Int) (c:Nat):Int×Int:=
 let d:=if c=41 then (if c=40 then st.1+1 else st.1)-1 else (if c=40 then st.1+1 else st.1)
 (d,max st.2 d)
def wV (w:W):Int:=(w.foldl fg (0,0)).2
theorem zg(c:Int):∀(w:W) (d x:Int),w.foldl fg (d+c,x+c)=((w.foldl fg (d,x)).1+c,(w.foldl fg (d,x)).2+c)
 |[],_,_=>rfl
 |a::w,d,x=>by
  rw[zaO,zaO];have e:fg (d+c,x+c) a=((fg (d,x) a).1+c,(fg (d,x) a).2+c):=by
   by_cases h1:a=41<;>by_cases h2:a=40<;>simp only[fg,h1,h2,if_true,if_false]<;>refine Prod.ext ?_ ?_<;>simp<;>lia
  rw[e];exact zg c w _ _
theorem Ed:∀(w:W) (d x:Nat),w.length<=d->w.foldl fg ((d:Int),(x:Int))=(((w.foldl PM.eZ (d,x)).1:Int),((w.foldl PM.eZ (d,x)).2:Int))
 |[],_,_,_=>rfl
 |a::w,d,x,h=>by
  rw[zaO,zaO];have hl:w.length+1<=d:=h;have e:∃d' x':Nat,PM.eZ (d,x) a=(d',x')/\fg ((d:Int),(x:Int)) a=((d':Int),(x':Int))/\w.length<=d':=by
   by_cases h1:a=41
   ·subst h1;exact⟨d-1,max x (d-1),rfl,by simp only[fg];refine Prod.ext ?_ ?_<;>simp<;>lia,by lia⟩
   ·by_cases h2:a=40
    ·subst h2;exact⟨d+1,max x (d+1),rfl,by simp only[fg];refine Prod.ext ?_ ?_<;>simp<;>lia,by lia⟩
    ·exact⟨d,max x d,by simp only[PM.eZ,h1,h2,if_false],by simp only[fg,h1,h2,if_false];refine Prod.ext ?_ ?_<;>simp<;>lia,by lia⟩
  obtain⟨d',x',e1,e2,e3⟩:=e;rw[e1,e2];exact Ed w d' x' e3
theorem PD{w:W}{k:Nat}(h:∀d x,d<=x->w.foldl PM.eZ (d,x)=(d,max x (d+k))):wV w=(PM.oS w:Int):=by
 have e1:PM.oS w=k:=by unfold PM.oS;rw[h 0 0 (zah _)];simp
 have e2:=Ed w w.length w.length (zah _);have e3:=zg (w.length:Int) w 0 0;rw[h _ _ (zah _)] at e2;rw[zdJ,e2] at e3;have e4:=congrArg Prod.snd e3;simp only at e4;unfold wV;rw[e1];lia
section
variable(K:zab)
def MK:Sp:=fun vs H Q _=>∃w:W,vs=[sv w]/\w.length<=16000000/\∀H',ay H H'->Q (.int (wV w)) H'
end
theorem GV{ta:TA}{g:TG}{tb:TS}{D:Ends}{σ:St}{H:Hp} (h:∀U:Int->Hp->Prop,(∀j H1,(∃W:Nat->Nat->St->Hp->Prop,(∃m,W 0 m σ H1)/\∀i m σ H,W i m σ H->
 ((Oz 0 j.toNat).stop i H/\D.nx σ H)\/((Oz 0 j.toNat).go i H/\∃N:St->Hp->Prop,(∀σ' H',N σ' H'->∃m',m'<m/\W (i+1) m' σ' H')/\∀x H',(Oz 0 j.toNat).Gb i H x H'->g x σ H' fun σ2 H2=>tb {D with nx:=N,ct:=N,bk:=D.nx} σ2 H2))->U j H1)->
 ta σ H fun vs H1=>∃j:Int,vs=[.int j]/\-(2 ^ 62)<=j/\j<2 ^ 62/\U j H1):Va (KY ta) g tb D σ H:=h _ fun _ _ x=>x
def Lo (K:zab):Sp:=fun vs H Q _=>∃(a:zdP) (ns:List Int),vs=[.ref a]/\gI K H a (ns.map .int)/\ns.length<=63/\∀H',Q (.bl true) H'
open PyProof.Rows PySem.Spec
section
variable{X:Cx}{pins:List (zdP×Obj)}{σ:St}{H:Hp}{s:zdZ}{h':Heap}
theorem Inv.Ee{t':Nat}{fp:List zdP}(I:Inv X pins σ H s)(k:∀b o,b ∉ fp->s.heap.get? b=some o->h'.get? b=some o)(hf:∀b∈fp,vv X pins H b):Inv X pins σ H {s with heap:=h',toks:=t' }:=by
 have Xx:∀b u,H b=some u->b ∉ fp:=fun b u e z=>by rw[(hf b z).1] at e;cases e
 refine I.step (g':=s.gens) (d':=s.drawn) (ch:=fp) (fun b hb=>?_) (fun b o _ _ hc e _=>k b o hc e) (fun b o _ _ hc e _=>⟨o.slots,k b o hc e⟩) (fun _ _ _ _ n=>n)
  (fun b o hc e=>⟨o,k b o hc e⟩) (fun _ _ e=>e) (fun _ _ _ e=>e) (fun b ps e=>⟨#[],by rw[e];simp⟩) (fun m hm=>?_) (fun b u e=>?_) I.bare
 ·obtain⟨_,f1,_,f3,f4,f5⟩:=hf b hb;exact⟨f3,f1,f4,f5⟩
 ·obtain⟨o,es,ep,ho,r⟩:=hm;exact⟨o,es,ep,k _ o (fun z=>(hf _ z).2.1 rfl) ho,r⟩
 ·refine(I.eC b u e).uJ (fun c v hc q=>k c v ?_ q) (fun _ q=>q) fun _ _ q=>q;rcases hc with z |z
  ·rw[z];exact Xx b u e
  ·exact Xx c _ z
end
theorem zh{X:Cx}:jW X (.type "int") (fun xs H Q=>∃b:Bool,xs=[.bl b]/\Q (.int (if b then 1 else 0)) H):=by
 intro pins s σ H xs us Q I r h;obtain⟨b,rfl,q⟩:=h;obtain⟨u,rfl,ru⟩:=vals1 r;cases (show u=Value.bool b from ru);exact PySem.call_int_bool ⟨.int (if b then 1 else 0),H,I.tok _,⟨_,rfl⟩,q⟩
section
variable{prog:zd1}{w:zdR}{A:zd0}{E:zdQ->zdZ->Prop}{s:zdZ}
theorem GW{it l:zdP}{bp:Array zdQ}(CL:l≠it):∀(n i:Nat) (s:zdZ) (Q:List zdQ->zdZ->Prop),s.heap.IsListIter it l i->s.heap.IsList l bp->i+n<=bp.size->
 (∀h',h'.IsListIter it l (i+n)->Heap.SameBut it s.heap h'->Q ((bp.toList.drop i).take n) {s with heap:=h' })->wpAny (model prog w) A (draw (.ref it) n) Q E s
 |0,i,s,Q,a,_,_,q=>by
  show wpAny _ _ (pure []) Q E s;exact zdT (by simpa using q s.heap a (Heap.SameBut.refl ..))
 |n+1,i,s,Q,a,b,le,q=>by
  have lt:i<bp.size:=by lia
  show wpAny _ _ (pyNext (.ref it) >>= _) Q E s;refine zdS (wpAny_pyNext_list_item a b (x:=bp[i]) (by simp[lt]) fun h1 a1 s1=>?_);have b1:h1.IsList l bp:=by
   obtain⟨o,ho,r⟩:=b;exact⟨o,(s1.2 l CL).trans ho,r⟩
  refine zdS (zdU (GW CL n (i+1) _ _ a1 b1 (by lia) fun h2 a2 s2=>zdT ?_));have e:bp.toList.drop i=bp[i]::bp.toList.drop (i+1):=by simp[zbS,lt]
  have z:=q h2 (by rw[show i+(n+1)=i+1+n by lia];exact a2) (s1.trans s2);rw[e,zcE] at z;exact z
theorem JH{l:zdP}{bp:Array zdQ}{ts:List (Bool×(zdQ->Sem Unit))}{Q:Unit->zdZ->Prop}(hh:A.handled=none)(b:s.heap.IsList l bp)(hn:ts.length=bp.size)(IY:ts.findIdx? (·.1)=none)
 (h:∀h',Heap.ExtBut s.heap.objs.size s.heap h'->wpAny (model prog w) A (assignInOrder (ts.map (·.2)) bp.toList) Q E {s with heap:=h' }):wpAny (model prog w) A (unpack (.ref l) ts) Q E s:=by
 have lt:l≠s.heap.objs.size:=by obtain⟨o,ho,_⟩:=b;exact zaR (Heap.lt_size ho)
 unfold unpack;rw[hn,IY];refine zdS (zdU ?_);unfold unpackItems;refine zdS ?_;unfold notIterableAtAll;refine zdS (wpAny_specialOf b.typeIs slot_list_iter.lookup ?_);refine zdT ?_;simp only[zbB,if_false];refine zdS (zdU (wpAny_pyIter_list b ?_));have uJ:∀ {h1 h2:Heap},Heap.ExtBut s.heap.objs.size h1 h2->h1.IsList l bp->h2.IsList l bp:=fun {h1 h2} e x=>by
  obtain⟨o,ho,r⟩:=x;exact⟨o,e l o lt ho,r⟩
 have b0:(s.heap.push {cls:=.type "list_iterator",data:=.fields #[.ref l,.int 0 0]}).IsList l bp:=by
  obtain⟨o,ho,r⟩:=b;exact⟨o,Heap.get?_push_of_some _ ho,r⟩
 refine zdS (zdU (GW lt bp.size 0 _ _ ⟨_,Heap.get?_push_size _ rfl,rfl,rfl⟩ b0 (by lia) fun h1 a1 s1=>?_));have all:List.take bp.size (List.drop 0 bp.toList)=bp.toList:=by
  rw[zcH];exact zbn (by simp)
 rw[all,if_neg (by simp)];have b1:h1.IsList l bp:=uJ s1.extBut b0;refine zdS (zdU (wpAny_pyNext_list_end hh a1 b1 (by simp) fun h2 e2=>?_));simp only[Option.isSome_none,zbB,if_false];exact zdT (h h2 fun c o hc e=>e2 c o hc (s1.extBut c o hc (Heap.get?_push_of_some _ e)))
end
def VQ (K:zab) (n:Nat) (t:RL):TG:=fun v σ H Q=>∃a xs,v=.ref a/\gI K H a xs/\xs.length=n/\t xs σ H Q
theorem E2{X:Cx}{es:List Expr}{k}{pos:Pos}{t:RL}{n:Nat}(hc:X.calm=true)(h:W7 X es t)
 (hn:(assignEach es X.env).length=n:=by rfl) (IY:(assignEach es X.env).findIdx? (·.1)=none:=by rfl):PG X (.Tuple es k pos) (VQ X.K n t):=by
 intro pins s σ H v u Q I r hw;obtain⟨a,xs,rfl,hq,hl,hw⟩:=hw;cases r;obtain⟨bp,rv,hp,_⟩:=I.list hq;rw[assign_Tuple];refine zdS (wpAny_standAt (JH (I.ok.hd hc) hp.isList (by simp[hn,<- hl,rv.length]) IY fun h' hx=>?_));have I1:Inv X pins σ H {s with heap:=h' }:=I.kept (t':=s.toks) fun b o e=>hx b o (zaR (Heap.lt_size e)) e;exact h pins _ σ H xs _ Q I1 (by simpa using rv) hw
open PySem.SeqAt
theorem Ef{X:Cx}(hu:X.A.units+1<cLine):rF X (compareOp .NotEq) (fun x y H Q=>∃a b xs,x=.ref a/\y=.ref b/\gI X.K H a xs/\gI X.K H b []/\Q (.bl (!xs.isEmpty)) H):=by
 intro pins s σ H x y v u Q I rx ry h;obtain⟨a,b,xs,rfl,rfl,h1,h2,q⟩:=h;cases (show v=Value.ref a from rx);cases (show u=Value.ref b from ry);obtain⟨bp,v1,p1,_⟩:=I.list h1;obtain⟨its',v2,p2,_⟩:=I.list h2;cases v2;cases xs with
 |nil=>
  cases v1;exact(RcNeAt.lists (e:=fun _=>true) p1.isList p2.isList rfl (by lia) (fun j h1=>absurd h1 (by simp))) _ _ _ _ ⟨.bl false,H,I,rfl,q⟩
 |cons z zs=>
  cases v1;exact(RcNeAt.lists_lengths p1.isList p2.isList (by simp) (by lia)) _ _ _ _ ⟨.bl true,H,I,rfl,q⟩
theorem GX(z:Str)(n:Nat):(CZ z n).length=z.length*n:=by
 have key:∀(n:Nat) (a:Array Nat),((zax n z.cps).foldl (· ++ ·) a).size=a.size+z.cps.size*n:=by
  intro n
  induction n with
  |zero=>intro a;simp
  |succ n ih=>
   intro a;rw[za3,zaO,ih,Array.size_append,Nat.mul_succ];lia
 show ((zax n z.cps).foldl (· ++ ·) #[]).size=z.cps.size*n;rw[key];simp
def vE (val:W->Int):PM.Tr->Int
 |.num n=>n
 |.box x=>val x
 |.bin o l r=>if o=[43] then vE val l+vE val r else if o=[45] then vE val l-vE val r else vE val l*vE val r
theorem vF:∀ {L:List W} {us:List zdQ},Vals (L.map sv) us->∃l:List (Str×Tok),us=strValues l/\l.map (·.1)=L.map S
 |[],us,h=>by
  cases h;exact⟨[],rfl,rfl⟩
 |w::L,us,h=>by
  cases h with
  |cons r t=>
   obtain⟨tk,rfl⟩:=(show ∃t,_=Value.str (S w) t from r)
   obtain⟨l,rfl,e⟩:=vF t;exact⟨(S w,tk)::l,rfl,by rw[zaq,zaq,e]⟩
theorem JI:∀(L:List W),Builtin.Str.glued (zac "") (L.map S)=S L.flatten
 |[]=>rfl
 |w::L=>by
  have key:∀(L:List W) (acc:W),((L.map S).foldl (fun acc p=>acc++(zac "").cps++p.cps) acc.toArray)=(acc++L.flatten).toArray:=by
   intro L
   induction L with
   |nil=>intro acc;simp
   |cons x r ih=>
    intro acc;rw[zaq,zaO];have e:acc.toArray++(zac "").cps++(S x).cps=(acc++x).toArray:=by
     have e0:(zac "").cps = #[]:=rfl;rw[e0];show acc.toArray ++ #[]++x.toArray=_;simp
    rw[e,ih];simp
  show (⟨(L.map S).foldl (fun acc p=>acc++(zac "").cps++p.cps) (S w).cps⟩:Str)=_;have:=key L w;rw[show (S w).cps=w.toArray from rfl,this];rfl
theorem Sx{X:Cx}:OL X "str.join" (fun x vs H Q=>∃(a:zdP) (L:List W),x=.str (zac "")/\vs=[.ref a]/\gI X.K H a (L.map sv)/\L.flatten.length<=1000000/\Q (sv L.flatten) H):=by
 intro pins s σ H x vs v us Q I rx rv h;obtain⟨a,L,rfl,rfl,hS,hl,q⟩:=h;obtain⟨t,rfl⟩:=(show ∃t,v=Value.str (zac "") t from rx)
 obtain⟨u,rfl,ru⟩:=vals1 rv;cases (show u=Value.ref a from ru);obtain⟨bp,r,p,_⟩:=I.list hS;obtain⟨l,rfl,el⟩:=vF r;have e0:(zac "").length=0:=by decide
 have fold:∀(xs:List Str) (n:Nat),xs.foldl (fun a x=>a+x.length+(zac "").length) n=n+(xs.map (·.length)).sum:=by
  intro xs
  induction xs with
  |nil=>intro n;simp
  |cons y ys ih=>intro n;rw[zaO,ih,zaq,zby,e0];lia
 have tot:((L.map S).map (·.length)).sum=L.flatten.length:=by
  rw[zbE,zdz]
  congr 1
 have hlen:Builtin.Str.tooLong ((l.map (·.1)).toArray.foldl (· + ·.length+(zac "").length) 0)=false:=by
  rw[List.foldl_toArray,el,fold,tot];unfold Builtin.Str.tooLong;rw[decide_eq_false_iff_not];have:zdX=2 ^ 24:=rfl;lia
 have fit:(S L.flatten).length<=zdX:=by
  rw[bZ];have:zdX=2 ^ 24:=rfl;lia
 refine call_meets F.slot_str_join (typeIs_str s _ _) F.entry_str_join (F.args_str_join_2 _ _) (meets_str_join_list (zac "") t a l hlen) ⟨p.isList,?_⟩;have IY:∀tk,EP X pins σ Q (.str (S L.flatten) tk) {s with toks:=s.toks+1}:=fun tk=>⟨sv L.flatten,H,I.tok _,⟨_,rfl⟩,q⟩
 have VR:∀tk,EP X pins σ Q (.str (S L.flatten) tk) s:=fun tk=>⟨sv L.flatten,H,I,⟨_,rfl⟩,q⟩
 have eg:Builtin.Str.glued (zac "") (l.map (·.1))=S L.flatten:=by rw[el,JI]
 match l,el,eg with
 |[],el,eg=>
  refine⟨?_,?_⟩
  ·show (Builtin.Str.glued (zac "") []).length<=zdX;decide
  ·have JJ:Builtin.Str.glued (zac "") []=S L.flatten:=eg;show wants _ _ (.ok (.ret (.str (Builtin.Str.glued (zac "") []) _))) _;rw[JJ];exact IY _
 |[x],el,eg=>
  have JJ:Builtin.Str.glued (zac "") [x.1]=S L.flatten:=eg;have e1:Builtin.Str.glued (zac "") [x.1]=x.1:=rfl;have e2:x.1=S L.flatten:=e1.symm.trans JJ;simp only[joinMade,Made.post];have:=VR x.2;rw[<- e2] at this;exact this
 |x::y::r,el,eg=>
  have JJ:Builtin.Str.glued (zac "") ((x::y::r).map (·.1))=S L.flatten:=eg;refine⟨?_,?_⟩
  ·show (Builtin.Str.glued (zac "") ((x::y::r).map (·.1))).length<=zdX;rw[JJ];exact fit
  ·show wants _ _ (.ok (.ret (.str (Builtin.Str.glued (zac "") ((x::y::r).map (·.1))) _))) _;rw[JJ];exact IY _
theorem E3(k:Int)(h:0<=k):V.str (zac (toString k))=sv (PM.dig k.toNat):=by
 unfold sv
 congr 1
 have hk:k=((k.toNat:Nat):Int):=by lia
 rw[Str.ofString_eq_toList]
 conv=>lhs;rw[hk]
 show (⟨((toString ((k.toNat:Nat):Int)).toList.map Char.toNat).toArray⟩:Str)=S ((zb7 10 k.toNat).map Char.toNat);have e2:(toString ((k.toNat:Nat):Int)).toList=zb7 10 k.toNat:=by
  show (Nat.repr k.toNat).toList=_;unfold Nat.repr;exact String.toList_ofList
 rw[e2];rfl
theorem GY{K:zab}{tl:TE}{g:TG}{tb:TS}{D:Ends}{σ:St}{H:Hp} (h:∀U:zdP->Hp->Prop,(∀a H1,(∃W:Nat->Nat->St->Hp->Prop,(∃m,W 0 m σ H1)/\∀i m σ H,W i m σ H->
 ((N7 K a).stop i H/\D.nx σ H)\/((N7 K a).go i H/\∃N:St->Hp->Prop,(∀σ' H',N σ' H'->∃m',m'<m/\W (i+1) m' σ' H')/\∀x H',(N7 K a).Gb i H x H'->g x σ H' fun σ2 H2=>tb {D with nx:=N,ct:=N,bk:=D.nx} σ2 H2))->U a H1)->
 tl σ H fun x H1=>∃a,x=.ref a/\(∃xs,gI K H1 a xs)/\U a H1):Va (KW K tl) g tb D σ H:=h _ fun _ _ x=>x
theorem Lp{a:Option V}{r:St}{H:Hp}{Q:VK}:(fZ 10 (a::r) H Q)=(fZ 9 r H Q):=rfl
theorem Lq{a:Option V}{r:St}{H:Hp}{Q:VK}:(fZ 11 (a::r) H Q)=(fZ 10 r H Q):=rfl
theorem Lr{a:Option V}{r:St}{H:Hp}{Q:VK}:(fZ 12 (a::r) H Q)=(fZ 11 r H Q):=rfl
theorem ML{J:It}{D:zdP}{tc:TT}{te:TE}{Q:VK}{r:St}{H:Hp}(xs:List V)(p:V->Bool)(f:V->V)(hl:xs.length<=16000000)
 (go:∀i ys,i<xs.length->J.go i (upd H D (.lst ys))) (Gb:∀i ys x H',i<xs.length->J.Gb i (upd H D (.lst ys)) x H'->H'=upd H D (.lst ys)/\xs[i]?=some x) (stop:∀ys,J.stop xs.length (upd H D (.lst ys)))
 (test:∀x∈xs,∀ys (R:Bool->Hp->Prop),R (p x) (upd H D (.lst ys))->tc (some x::r) (upd H D (.lst ys)) R)
 (step:∀x∈xs,p x=true->∀ys (R:VK),R (f x) (upd H D (.lst ys))->te (some x::r) (upd H D (.lst ys)) R)
 (q:Q (.ref D) (upd H D (.lst ((xs.filter p).map f)))):sD J D (mI 0) tc te Q (none::r) (upd H D (.lst [])):=by
 refine⟨fun i m τ H2=>m=xs.length-i/\i<=xs.length/\(∃x,τ=x::r)/\H2=upd H D (.lst (((xs.take i).filter p).map f)),⟨xs.length,by simp,zaU _,⟨none,rfl⟩,by simp⟩,?_⟩
 rintro i m τ H2 ⟨rfl,hi,⟨x,rfl⟩,rfl⟩
 by_cases lQ:i<xs.length
 ·refine .inr ⟨go i _ lQ,fun τ' H'=>(∃x,τ'=x::r)/\H'=upd H D (.lst (((xs.take (i+1)).filter p).map f)),fun τ' H' ⟨h1,h2⟩=>⟨xs.length-(i+1),by lia,rfl,lQ,h1,h2⟩,fun y H' hy=>?_⟩;obtain⟨rfl,hz⟩:=Gb i _ y H' lQ hy;clear hy;have hy:=hz;rw[zag lQ] at hy;cases hy;have mem:=zaK lQ;simp only[mI,zcI];refine test _ mem _ _ ?_;rw[zbk lQ,zcL,zas];cases hp:p xs[i] with
  |false=>
   rw[if_neg zal];refine⟨⟨_,rfl⟩,?_⟩;simp[hp]
  |true=>
   rw[if_pos rfl];refine step _ mem hp _ _ ⟨_,aj,?_,⟨_,rfl⟩,?_⟩
   ·have h1:(((xs.take i).filter p).map f).length<=i:=by
     rw[zaj];exact zay (zcj _ _) (by rw[zaB];lia)
    have:zdX=2 ^ 24:=rfl;lia
   ·rw[EG];simp[hp]
 ·have e:i=xs.length:=by lia
  subst e;refine .inl ⟨stop _,?_⟩;rw[zbz];exact q
theorem AZ{n:Nat}{D:zdP}{te:TE}{Q:VK}{r:St}{H:Hp}(f:Nat->V)(hl:n<=16000000)
 (step:∀i,i<n->∀ys (R:VK),R (f i) (upd H D (.lst ys))->te (some (.int (i:Nat))::r) (upd H D (.lst ys)) R)
 (q:Q (.ref D) (upd H D (.lst ((zaA n).map f)))):sD (Oz 0 n) D (mI 0) GD te Q (none::r) (upd H D (.lst [])):=by
 refine ML ((zaA n).map fun i=>V.int (i:Nat)) (fun _=>true) (fun x=>f (match x with |.int i=>i.toNat |_=>0)) (by simpa using hl)
  (fun i ys hi=>?_) (fun i ys x H' hi hy=>?_) (fun ys=>?_) (fun x hx ys R hR=>hR) (fun x hx _ ys R hR=>?_) ?_
 ·show i<n;simpa using hi
 ·obtain⟨rfl,rfl⟩:=hy;refine⟨rfl,?_⟩;have RN:i<n:=by simpa using hi
  rw[zaE,List.getElem?_range RN];simp
 ·show n<=_;simp
 ·obtain⟨i,hi,rfl⟩:=zaI.mp hx;exact step i (zbu.mp hi) ys R hR
 ·rw[zdA.mpr (fun _ _=>rfl),zbE];exact q
def NoS (z:Str):Prop:=PM.Yi z.cps.toList
theorem NoS.one{a:Str}(ha:NoS a){c:Nat}(hc:c∈a.cps.toList):NoS ⟨#[c]⟩:=fun x hx=>by
 have:x=c:=by simpa using hx
 rw[this];exact ha c hc
theorem MM{X:Cx}(hu:X.A.units+1<cLine):rF X (compareOp .Eq) (fun x y H Q=>∃a b xs,x=.ref a/\y=.ref b/\gI X.K H a xs/\gI X.K H b []/\Q (.bl xs.isEmpty) H):=by
 intro pins s σ H x y v u Q I rx ry h;obtain⟨a,b,xs,rfl,rfl,h1,h2,q⟩:=h;cases (show v=Value.ref a from rx);cases (show u=Value.ref b from ry);obtain⟨bp,v1,p1,_⟩:=I.list h1;obtain⟨its',v2,p2,_⟩:=I.list h2;cases v2;cases xs with
 |nil=>
  cases v1;exact(RcAt.lists (e:=fun _=>true) p1.isList p2.isList rfl (by lia) (fun j h1=>absurd h1 (by simp))) _ _ _ _ ⟨.bl true,H,I,rfl,q⟩
 |cons z zs=>
  cases v1;exact(RcAt.lists_lengths p1.isList p2.isList (by simp) (by lia)) _ _ _ _ ⟨.bl false,H,I,rfl,q⟩
end L2
namespace PG
open PM (W Tr)
structure ji where
 name:W
 size:Int
 first:Int
inductive du where
 |ask (k:Int) (b:W)
 |put (k:Int) (b:W) (e:Tr)
 |say (k:Int) (e:Tr)
 |jn (k:Int) (sg:W) (l r:Tr)
 |stop (k:Int)
 |ifs (k:Int) (sg:W) (l r:Tr) (a b:List du)
 |oU (k:Int) (sg:W) (l r:Tr) (a:List du)
def du.row:du->Int
 |.ask k _=>k |.put k _ _=>k |.say k _=>k |.jn k _ _ _=>k |.stop k=>k |.ifs k _ _ _ _ _=>k |.oU k _ _ _ _=>k
inductive Wd where
 |ask |put |say |jn |stop |ifs |oU |Sy |fin
 deriving DecidableEq
def du.wd:du->Wd
 |.ask _ _=>.ask |.put _ _ _=>.put |.say _ _=>.say |.jn _ _ _ _=>.jn |.stop _=>.stop |.ifs _ _ _ _ _ _=>.ifs |.oU _ _ _ _ _=>.oU
def Yn:Nat->Int->Int
 |0,c=>c
 |n+1,c=>Yn n (c/1000003)
def next (sc:List Int) (p:Nat):Int:=
 let many:=max 1 sc.length
 let cell:=if sc=[] then 0 else sc.getD (p%many) 0
 if cell ≥ 10 ^ 18 then Yn (min 60 (p/many)) cell%1000003 else
  let a:=(cell%2147483629+51437*((p:Int)+1)*((p:Int)+3)+1409)%2147483629
  let b:=a*a%2147483587
  let c:=(b*69621+401*(p:Int)+7)%2147483579
  c*c%2147483563/16
def pick {α:Type} (d:α) (l:List α) (n:Int):α:=l.getD n.toNat d
def C0 (sc:List Int) (bs:List ji):Nat->Nat->Tr×Nat
 |0,p=>
  let kind:=next sc p%7
  if bs≠[]/\kind<5 then (.box (pick ⟨[],0,0⟩ bs (next sc (p+1)%bs.length)).name,p+2) else (.num (next sc (p+1)%pick 1 [3,12,1000] (next sc (p+2)%3)),p+3)
 |d+1,p=>
  let kind:=next sc p%7
  if kind<3 then
   let one:=C0 sc bs d (p+1)
   let two:=C0 sc bs d one.2
   (.bin (pick [] [[43],[45],[42]] kind) one.1 two.1,two.2)
  else if bs≠[]/\kind<5 then (.box (pick ⟨[],0,0⟩ bs (next sc (p+1)%bs.length)).name,p+2) else (.num (next sc (p+1)%pick 1 [3,12,1000] (next sc (p+2)%3)),p+3)
def PF:List W:=[[99],[98,98],[97,97,97],[98,111,120,101,115]]
def A6 (sc:List Int) (Yo:Int):Nat->Nat->Nat->List ji×Nat
 |0,_,p=>([],p)
 |n+1,k,p=>
  let size:=2+next sc p%3
  let r:=A6 sc Yo n (k+1) (p+2)
  (⟨pick [] PF (((k:Int)-Yo)%4),size,next sc (p+1)%size⟩::r.1,r.2)
def Xe:List W:=[[60],[61]]
def PH (sc:List Int) (bs:List ji) (k:Int) (p:Nat):du×Nat:=
 let kind:=next sc p%10
 if bs≠[]/\kind<3 then (.ask k (pick ⟨[],0,0⟩ bs (next sc (p+1)%bs.length)).name,p+2)
 else if bs≠[]/\kind<6 then
  let e:=C0 sc bs 2 (p+2)
  (.put k (pick ⟨[],0,0⟩ bs (next sc (p+1)%bs.length)).name e.1,e.2)
 else if kind=6 then
  let l:=C0 sc bs 1 (p+2)
  let r:=C0 sc bs 1 l.2
  (.jn k (pick [] Xe (next sc (p+1)%2)) l.1 r.1,r.2)
 else if kind=7 then
  if next sc (p+1)%3=0 then (.stop k,p+2) else
   let e:=C0 sc bs 2 (p+2)
   (.say k e.1,e.2)
 else
  let e:=C0 sc bs 2 (p+1)
  (.say k e.1,e.2)
structure Frame where
 kind:Nat
 body:List du
 k:Int:=0
 sg:W:=[]
 l:Tr:=.num 0
 r:Tr:=.num 0
 first:List du:=[]
def Frame.told (f:Frame):du:=if f.kind=1 then .ifs f.k f.sg f.l f.r f.body [] else if f.kind=2 then .ifs f.k f.sg f.l f.r f.first f.body else .oU f.k f.sg f.l f.r f.body
def close:List Frame->List Frame
 |f::g::r=>{g with body:=g.body++[f.told]}::r
 |fs=>fs
abbrev Row:=Int×Wd
def number (n:Nat) (rows:List Row) (mode:Int):Int:=
 if mode=2 then n+1+20*rows.length else if mode=3 then n+1+(rows.filter fun r=>r.2≠.Sy/\r.2≠.fin).length else n+1+rows.length
structure Walk where
 p:Nat
 lV:List Frame
 rows:List Row
def turn (sc:List Int) (bs:List ji) (mode:Int) (w:Walk):Walk:=
 let k:=number bs.length w.rows mode
 let way:=next sc w.p%12
 if way<2/\w.lV.length>1 then ⟨w.p+1,close w.lV,w.rows++[(k,.fin)]⟩
 else match w.lV with
 |[]=>w
 |f::r=>
  if way=2/\f.kind=1 then ⟨w.p+1,{f with kind:=2,body:=[],first:=f.body}::r,w.rows++[(k,.Sy)]⟩
  else if way<6/\w.lV.length<4 then
   let l:=C0 sc bs 1 (w.p+2)
   let e:=C0 sc bs 1 l.2
   let kd:=pick 1 [1,1,3] (way%3)
   ⟨e.2,{kind:=kd,body:=[],k:=k,sg:=pick [] Xe (next sc (w.p+1)%2),l:=l.1,r:=e.1}::w.lV,w.rows++[(k,if kd=3 then .oU else .ifs)]⟩
  else
   let s:=PH sc bs k (w.p+1)
   ⟨s.2,{f with body:=f.body++[s.1]}::r,w.rows++[(k,s.1.wd)]⟩
def turns (sc:List Int) (bs:List ji) (mode:Int):Nat->Walk->Walk
 |0,w=>w
 |n+1,w=>turns sc bs mode n (turn sc bs mode w)
def ends (n:Nat) (mode:Int):Nat->Walk->Walk
 |0,w=>w
 |m+1,w=>if w.lV.length>1 then ends n mode m ⟨w.p,close w.lV,w.rows++[(number n w.rows mode,.fin)]⟩ else w
structure Prog where
 bT:List ji
 body:List du
def Ls (sc:List Int) (many:Nat) (p:Nat):Prog×List Row:=
 let bs:=A6 sc (next sc p%4) (next sc (p+1)%4).toNat 0 (p+2)
 let w:=ends bs.1.length (next sc bs.2%4) 4 (turns sc bs.1 (next sc bs.2%4) many ⟨bs.2+1,[{kind:=0,body:=[]}],[]⟩)
 (⟨bs.1,(w.lV.head?.map (·.body)).getD []⟩,w.rows)
end PG
namespace PG
open PM (W Tr)
mutual
def A7:du->List Row
 |.ifs k _ _ _ a b=>(k,.ifs)::(wW a++wW b)
 |.oU k _ _ _ a=>(k,.oU)::wW a
 |.ask k _=>[(k,.ask)]
 |.put k _ _=>[(k,.put)]
 |.say k _=>[(k,.say)]
 |.jn k _ _ _=>[(k,.jn)]
 |.stop k=>[(k,.stop)]
def wW:List du->List Row
 |[]=>[]
 |s::r=>A7 s++wW r
end
end PG
namespace PG
open PM (W Tr)
abbrev oV:=Int×Wd×List Int
def dv:List du->Int->Int
 |[],x=>x
 |s::_,_=>s.row
mutual
def i5:du->Int->List oV
 |.ifs k _ _ _ a b,x=>(k,.ifs,[dv a x,dv b x])::(cQ a x++cQ b x)
 |.oU k _ _ _ a,x=>(k,.oU,[dv a k,x])::cQ a k
 |.ask k _,x=>[(k,.ask,[x])]
 |.put k _ _,x=>[(k,.put,[x])]
 |.say k _,x=>[(k,.say,[x])]
 |.jn k _ _ _,x=>[(k,.jn,[x])]
 |.stop k,_=>[(k,.stop,[0])]
def cQ:List du->Int->List oV
 |[],_=>[]
 |s::r,x=>i5 s (dv r x)++cQ r x
end
mutual
theorem MN:∀(s:du) (x:Int),(i5 s x).map (fun r=>(r.1,r.2.1))=A7 s
 |.ifs k _ _ _ a b,x=>by simp[i5,A7,qm a x,qm b x]
 |.oU k _ _ _ a,x=>by simp[i5,A7,qm a k]
 |.ask k _,x=>rfl
 |.put k _ _,x=>rfl
 |.say k _,x=>rfl
 |.jn k _ _ _,x=>rfl
 |.stop k,_=>rfl
theorem qm:∀(b:List du) (x:Int),(cQ b x).map (fun r=>(r.1,r.2.1))=wW b
 |[],_=>rfl
 |s::r,x=>by simp[cQ,wW,MN s _,qm r x]
end
inductive Tg where
 |row (k:Int) |side (k:Int) (b:Bool) |jn (k:Int) |fin
 deriving DecidableEq
end PG
namespace PG
open PM (W Tr)
mutual
def Ub:du->List Row->Prop
 |.ifs k _ _ _ a b,rs=>(∃ra n,rH a ra/\b=[]/\rs=(k,.ifs)::(ra++[(n,.fin)]))\/(∃ra rb n m,rH a ra/\rH b rb/\rs=(k,.ifs)::(ra++(n,.Sy)::(rb++[(m,.fin)])))
 |.oU k _ _ _ a,rs=>∃ra n,rH a ra/\rs=(k,.oU)::(ra++[(n,.fin)])
 |.ask k _,rs=>rs=[(k,.ask)]
 |.put k _ _,rs=>rs=[(k,.put)]
 |.say k _,rs=>rs=[(k,.say)]
 |.jn k _ _ _,rs=>rs=[(k,.jn)]
 |.stop k,rs=>rs=[(k,.stop)]
def rH:List du->List Row->Prop
 |[],rs=>rs=[]
 |s::r,rs=>∃r1 r2,Ub s r1/\rH r r2/\rs=r1++r2
end
theorem rH.one{s:du}{rs:List Row}(h:Ub s rs):rH [s] rs:=by
 rw[rH];exact⟨rs,[],h,by rw[rH],by simp⟩
theorem rH.nil:rH [] []:=by rw[rH]
def zi (n:Nat) (w:Walk):Prop:=(∀f∈w.lV,f.body.length<=n)/\w.rows.length<=n
theorem PJ(sc:List Int)(bs:List ji)(mode:Int){n:Nat}{w:Walk}(h:zi n w):zi (n+1) (turn sc bs mode w):=by
 obtain⟨p,lV,rows⟩:=w;obtain⟨h1,h2⟩:=h;simp only at h1 h2;have up:∀f∈lV,f.body.length<=n+1:=fun f hf=>zb1 (h1 f hf);have cl:∀l:List Frame,(∀f∈l,f.body.length<=n)->∀f∈close l,f.body.length<=n+1:=by
  intro l hl f hf
  match l,hl,hf with
  |[],_,hf=>cases hf
  |[x],hl,hf=>exact zb1 (hl f hf)
  |x::y::r,hl,hf=>
   rcases zai.mp hf with rfl |hf
   ·simp;have:=hl y (by simp);lia
   ·exact zb1 (hl f (by simp[hf]))
 unfold turn;simp only;split
 ·exact⟨cl lV h1,by simp;lia⟩
 ·cases lV with
  |nil=>exact⟨up,by simp only;lia⟩
  |cons f r=>
   simp only;split
   ·refine⟨fun x hx=>?_,by simp;lia⟩;rcases zai.mp hx with rfl |hx
    ·simp
    ·exact up x (by simp[hx])
   ·split
    ·refine⟨fun x hx=>?_,by simp;lia⟩;rcases zai.mp hx with rfl |hx
     ·simp
     ·exact up x hx
    ·refine⟨fun x hx=>?_,by simp;lia⟩;rcases zai.mp hx with rfl |hx
     ·have:=h1 f (by simp);simp;lia
     ·exact up x (by simp[hx])
theorem MO{n:Nat}{w:Walk}(h:zi n w)(k:Int):zi (n+1) ⟨w.p,close w.lV,w.rows++[(k,.fin)]⟩:=by
 obtain⟨h1,h2⟩:=h;refine⟨?_,by simp;lia⟩;intro f hf;obtain⟨p,lV,rows⟩:=w;simp only at h1 hf
 match lV,h1,hf with
 |[],_,hf=>cases hf
 |[x],hl,hf=>exact zb1 (hl f hf)
 |x::y::r,hl,hf=>
  rcases zai.mp hf with rfl |hf
  ·have:=hl y (by simp);simp;lia
  ·exact zb1 (hl f (by simp[hf]))
mutual
def zK:du->Nat
 |.ifs _ _ _ _ a b=>max (xV a) (xV b)+1
 |.oU _ _ _ _ a=>xV a+1
 |_=>0
def xV:List du->Nat
 |[]=>0
 |s::r=>max (zK s) (xV r)
end
end PG
namespace PG
open PM (W Tr)
section
variable(nm:W->Prop)(ex:Tr->Prop)(sg:W->Prop)
mutual
def Sz:du->Prop
 |.ask _ b=>nm b
 |.put _ b e=>nm b/\ex e
 |.say _ e=>ex e
 |.jn _ s l r=>sg s/\ex l/\ex r
 |.stop _=>True
 |.ifs _ s l r a b=>sg s/\ex l/\ex r/\Uc a/\Uc b
 |.oU _ s l r a=>sg s/\ex l/\ex r/\Uc a
def Uc:List du->Prop
 |[]=>True
 |s::r=>Sz s/\Uc r
end
end
section
variable{nm:W->Prop}{ex:Tr->Prop}{sg:W->Prop}
section
end
end
def A8:Tr->Nat
 |.bin _ l r=>max (A8 l) (A8 r)+1
 |_=>0
theorem Eg(sc:List Int)(bs:List ji)(mode:Int):∀(n m:Nat) {w:Walk},zi m w->zi (m+n) (turns sc bs mode n w)
 |0,m,_,h=>h
 |n+1,m,_,h=>by
  have:=Eg sc bs mode n (m+1) (PJ sc bs mode h);rw[show m+(n+1)=m+1+n by lia];exact this
theorem GZ(n:Nat)(mode:Int):∀(k m:Nat) {w:Walk},zi m w->(ends n mode k w).rows.length<=m+k
 |0,m,w,h=>h.2
 |k+1,m,w,h=>by
  unfold ends;split
  ·have:=GZ n mode k (m+1) (MO h (number n w.rows mode));lia
  ·have:=h.2;lia
theorem A9(sc:List Int)(many p:Nat):(Ls sc many p).2.length<=many+4:=by
 unfold Ls;simp only;generalize A6 sc (next sc p%4) (next sc (p+1)%4).toNat 0 (p+2)=bs;have h0:zi 0 ⟨bs.2+1,[{kind:=0,body:=[]}],[]⟩:=⟨fun f hf=>by rw[zad.mp hf];exact zah _,zah _⟩
 have:=GZ bs.1.length (next sc bs.2%4) 4 _ (Eg sc bs.1 (next sc bs.2%4) many 0 h0);lia
end PG
namespace PG
open PM (W Tr)
inductive Mt where
 |op (Sy fin:Option Nat)
 |back (i:Nat)
 deriving DecidableEq
abbrev Mm:=Nat->Option Mt
def Mm.set (m:Mm) (i:Nat) (x:Mt):Mm:=fun j=>if j=i then some x else m j
end PG
namespace PG
open PM (W Tr)
def At (R:List Row) (i:Nat) (rs:List Row):Prop:=∀j,j<rs.length->R[i+j]?=rs[j]?
theorem At.left{R:List Row}{i:Nat}{a b:List Row}(h:At R i (a++b)):At R i a:=fun j hj=>by
 rw[h j (by rw[zae];lia),zbq hj]
theorem At.head{R:List Row}{i:Nat}{x:Row}{b:List Row}(h:At R i (x::b)):R[i]?=some x:=by
 have:=h 0 (by simp);simpa using this
end PG
namespace PG
open PM (W Tr)
mutual
def jo:du->List du
 |.ifs k sg l r a b=>.ifs k sg l r a b::(bG a++bG b)
 |.oU k sg l r a=>.oU k sg l r a::bG a
 |s=>[s]
def bG:List du->List du
 |[]=>[]
 |s::r=>jo s++bG r
end
mutual
theorem MP:∀s:du,(jo s).map (fun x=>(x.row,x.wd))=A7 s
 |.ifs k sg l r a b=>by
  rw[jo,A7,zaq,zas,qp a,qp b];rfl
 |.oU k sg l r a=>by
  rw[jo,A7,zaq,qp a];rfl
 |.ask k _=>rfl
 |.put k _ _=>rfl
 |.say k _=>rfl
 |.jn k _ _ _=>rfl
 |.stop k=>rfl
theorem qp:∀b:List du,(bG b).map (fun x=>(x.row,x.wd))=wW b
 |[]=>rfl
 |s::r=>by simp[bG,wW,MP s,qp r]
end
end PG
namespace PG
open PM (W Tr)
section
variable{nm:W->Prop}{ex:Tr->Prop}{sg:W->Prop}
mutual
theorem SA:∀(s x:du),Sz nm ex sg s->x∈jo s->Sz nm ex sg x
 |.ifs k s l r a b,x,h,m=>by
  rw[jo] at m;rcases zai.mp m with rfl |m
  ·exact h
  ·rw[Sz] at h;rcases zam.mp m with m |m
   ·exact uC a x h.2.2.2.1 m
   ·exact uC b x h.2.2.2.2 m
 |.oU k s l r a,x,h,m=>by
  rw[jo] at m;rcases zai.mp m with rfl |m
  ·exact h
  ·rw[Sz] at h;exact uC a x h.2.2.2 m
 |.ask k b,x,h,m=>by simp only[jo,zad] at m;subst m;exact h
 |.put k b e,x,h,m=>by simp only[jo,zad] at m;subst m;exact h
 |.say k e,x,h,m=>by simp only[jo,zad] at m;subst m;exact h
 |.jn k s l r,x,h,m=>by simp only[jo,zad] at m;subst m;exact h
 |.stop k,x,h,m=>by simp only[jo,zad] at m;subst m;exact h
theorem uC:∀(b:List du) (x:du),Uc nm ex sg b->x∈bG b->Sz nm ex sg x
 |[],x,_,m=>by simp[bG] at m
 |s::r,x,h,m=>by
  rw[bG] at m;rw[Uc] at h;rcases zam.mp m with m |m
  ·exact SA s x h.1 m
  ·exact uC r x h.2 m
end
end
end PG
namespace PG
open PM (W Tr)
def G0 (bs:List ji):Tr->Prop
 |.num n=>0<=n/\n<1000
 |.box x=>x∈bs.map (·.name)
 |.bin o l r=>o∈([[43],[45],[42]]:List W)/\G0 bs l/\G0 bs r
end PG
namespace PG
def qQ (r:oV):Prop:=0<r.2.2.length/\(r.2.1=.ifs\/r.2.1=.oU->1<r.2.2.length)
mutual
theorem MQ:∀(s:du) (x:Int),∀r∈i5 s x,qQ r
 |.ifs k sg l r a b,x,y,h=>by
  rw[i5] at h;simp only[zai,zam] at h;rcases h with rfl |h |h
  ·simp[qQ]
  ·exact qr a x y h
  ·exact qr b x y h
 |.oU k sg l r a,x,y,h=>by
  rw[i5] at h;simp only[zai] at h;rcases h with rfl |h
  ·simp[qQ]
  ·exact qr a k y h
 |.ask k _,x,y,h=>by simp[i5] at h;subst h;simp[qQ]
 |.put k _ _,x,y,h=>by simp[i5] at h;subst h;simp[qQ]
 |.say k _,x,y,h=>by simp[i5] at h;subst h;simp[qQ]
 |.jn k _ _ _,x,y,h=>by simp[i5] at h;subst h;simp[qQ]
 |.stop k,x,y,h=>by simp[i5] at h;subst h;simp[qQ]
theorem qr:∀(b:List du) (x:Int),∀r∈cQ b x,qQ r
 |[],x,y,h=>by simp[cQ] at h
 |s::r,x,y,h=>by
  rw[cQ,zam] at h;rcases h with h |h
  ·exact MQ s _ y h
  ·exact qr r x y h
end
end PG
namespace PG
theorem nv:∀(b:List du) (x:Int),dv b x=x\/∃t∈bG b,t.row=dv b x
 |[],x=>.inl rfl
 |s::r,x=>.inr ⟨s,by rw[bG];exact zaW _ (by cases s<;>simp[jo]),rfl⟩
mutual
theorem PK:∀(s:du) (x:Int),∀r∈i5 s x,∀w∈r.2.2,w=0\/w=x\/∃t∈jo s,t.row=w
 |.ifs k sg l r a b,x,y,h,w,hw=>by
  rw[i5] at h;simp only[zai,zam] at h;rw[jo];rcases h with rfl |h |h
  ·simp only[zai,List.mem_nil_iff,or_false] at hw;rcases hw with rfl |rfl
   ·rcases nv a x with e |⟨t,ht,e⟩
    ·exact .inr (.inl e)
    ·exact .inr (.inr ⟨t,by simp[ht],e⟩)
   ·rcases nv b x with e |⟨t,ht,e⟩
    ·exact .inr (.inl e)
    ·exact .inr (.inr ⟨t,by simp[ht],e⟩)
  ·rcases sN a x y h w hw with e |e |⟨t,ht,e⟩
   ·exact .inl e
   ·exact .inr (.inl e)
   ·exact .inr (.inr ⟨t,by simp[ht],e⟩)
  ·rcases sN b x y h w hw with e |e |⟨t,ht,e⟩
   ·exact .inl e
   ·exact .inr (.inl e)
   ·exact .inr (.inr ⟨t,by simp[ht],e⟩)
 |.oU k sg l r a,x,y,h,w,hw=>by
  rw[i5] at h;simp only[zai] at h;rw[jo];have self:w=k->∃t∈(du.oU k sg l r a::bG a),t.row=w:=fun e=>⟨_,zap ..,e.symm⟩
  rcases h with rfl |h
  ·simp only[zai,List.mem_nil_iff,or_false] at hw;rcases hw with rfl |rfl
   ·rcases nv a k with e |⟨t,ht,e⟩
    ·exact .inr (.inr (self e))
    ·exact .inr (.inr ⟨t,by simp[ht],e⟩)
   ·exact .inr (.inl rfl)
  ·rcases sN a k y h w hw with e |e |⟨t,ht,e⟩
   ·exact .inl e
   ·exact .inr (.inr (self e))
   ·exact .inr (.inr ⟨t,by simp[ht],e⟩)
 |.ask k _,x,y,h,w,hw=>by simp[i5] at h;subst h;simp at hw;exact .inr (.inl hw)
 |.put k _ _,x,y,h,w,hw=>by simp[i5] at h;subst h;simp at hw;exact .inr (.inl hw)
 |.say k _,x,y,h,w,hw=>by simp[i5] at h;subst h;simp at hw;exact .inr (.inl hw)
 |.jn k _ _ _,x,y,h,w,hw=>by simp[i5] at h;subst h;simp at hw;exact .inr (.inl hw)
 |.stop k,x,y,h,w,hw=>by simp[i5] at h;subst h;simp at hw;exact .inl hw
theorem sN:∀(b:List du) (x:Int),∀r∈cQ b x,∀w∈r.2.2,w=0\/w=x\/∃t∈bG b,t.row=w
 |[],x,y,h,_,_=>by simp[cQ] at h
 |s::r,x,y,h,w,hw=>by
  rw[cQ,zam] at h;rw[bG];rcases h with h |h
  ·rcases PK s _ y h w hw with e |e |⟨t,ht,e⟩
   ·exact .inl e
   ·rcases nv r x with e2 |⟨t,ht,e2⟩
    ·exact .inr (.inl (e.trans e2))
    ·exact .inr (.inr ⟨t,zaJ _ ht,e2.trans e.symm⟩)
   ·exact .inr (.inr ⟨t,zaW _ ht,e⟩)
  ·rcases sN r x y h w hw with e |e |⟨t,ht,e⟩
   ·exact .inl e
   ·exact .inr (.inl e)
   ·exact .inr (.inr ⟨t,zaJ _ ht,e⟩)
end
def SD (b:List du) (row:Int):Nat:=(bG b).findIdx (fun s=>s.row==row)
theorem Lu{b:List du}(pw:(bG b).Pairwise (fun a b=>a.row<b.row))(i:Nat)(hi:i<(bG b).length):SD b (bG b)[i].row=i:=by
 unfold SD;rw[List.findIdx_eq hi];refine⟨by simp,fun j hj=>?_⟩;have:=zcY.mp pw j i (by lia) hi hj;simp only[beq_eq_false_iff_ne,ne_eq];lia
inductive nB where
 |on |out |jn (row:Int) |fin
deriving DecidableEq
structure Ran where
 rows:List Int
 abk:List Int
 fin:nB
section
variable(ask:Int->Bool)(step:Int->List Int->Int->Option (Int×List Int)×Option Int)
def take1 (a:Bool) (j3:List Int):Option (Int×List Int):=if a then (match j3 with |[]=>none |f::r=>some (f,r)) else some (0,j3)
end
end PG
namespace L2
open PySem
def N9:PG.Wd->Str
 |.ask=>"ask" |.put=>"put" |.say=>"say" |.jn=>"must" |.stop=>"stop" |.ifs=>"if" |.oU=>"while" |.Sy=>"else" |.fin=>"end"
mutual
def G1:PG.du->Dp
 |.ask k b=>.tup [.str "ask",.int k,.str (S b)]
 |.put k b e=>.tup [.str "put",.int k,.str (S b),mJ e]
 |.say k e=>.tup [.str "say",.int k,mJ e]
 |.jn k sg l r=>.tup [.str "must",.int k,.str (S sg),mJ l,mJ r]
 |.stop k=>.tup [.str "stop",.int k]
 |.ifs k sg l r a b=>.tup [.str "if",.int k,.str (S sg),mJ l,mJ r,.lst (SE a),.lst (SE b)]
 |.oU k sg l r a=>.tup [.str "while",.int k,.str (S sg),mJ l,mJ r,.lst (SE a)]
def SE:List PG.du->List Dp
 |[]=>[]
 |s::r=>G1 s::SE r
end
def G2 (b:PG.ji):Dp:=.tup [.str (S b.name),.int b.size,.int b.first]
def Yp (r:PG.Row):Dp:=.lst [.int r.1,.str (N9 r.2)]
def Yq:PG.Tg->Dp
 |.row k=>.tup [.str "row",.int k]
 |.side k b=>.tup [.str "side",.int k,.bl b]
 |.jn k=>.tup [.str "must",.int k]
 |.fin=>.tup [.str "end"]
def bK (O:zdP->Prop) (H H':Hp):Prop:=∀b o,¬O b->H b=some o->H' b=some o
def Fix (K:zab) (O:zdP->Prop) (H:Hp) (d:Dp) (v:V):Prop:=∀H',bK O H H'->Rep K H' d v
def f7 (K:zab) (O:zdP->Prop) (H:Hp) (ds:List Dp) (vs:List V):Prop:=∀H',bK O H H'->a7 K H' ds vs
section
variable{K:zab}{O O':zdP->Prop}{H H1 H2:Hp}{d:Dp}{ds:List Dp}{v:V}{vs:List V}{p:zdP}{o:HO}
theorem bK.refl:bK O H H:=fun _ _ _ e=>e
theorem bK.trans(a:bK O H H1)(b:bK O H1 H2):bK O H H2:=fun c u n e=>b c u n (a c u n e)
theorem bK.of(s:ay H H1):bK O H H1:=fun b u _ e=>s b u e
theorem bK.mono(a:bK O H H1)(i:∀b,O b->O' b):bK O' H H1:=fun b u n e=>a b u (fun z=>n (i b z)) e
theorem bK.one(a:bX p H H1)(hp:O p):bK O H H1:=fun b u n e=>a b u (fun z=>n (by rw[z];exact hp)) e
theorem bK.put(a:bK O H H1)(hp:O p)(u:HO):bK O H (upd H1 p u):=fun b w n e=>by rw[aq (fun z=>n (by rw[z];exact hp))];exact a b w n e
theorem bK.new(a:bK O H H1)(hp:H1 p=none)(u:HO):bK O H (upd H1 p u):=fun b w n e=>by rw[aq (aI (a b w n e) hp)];exact a b w n e
theorem Fix.up(f:Fix K O H d v)(u:bK O H H1):Fix K O H1 d v:=fun H2 u2=>f H2 (u.trans u2)
theorem f7.up(f:f7 K O H ds vs)(u:bK O H H1):f7 K O H1 ds vs:=fun H2 u2=>f H2 (u.trans u2)
theorem f7.abl(f:f7 K O H ds vs):a7 K H ds vs:=f H .refl
theorem Fix.sub(f:Fix K O H d v)(i:∀b,O' b->O b):Fix K O' H d v:=fun H2 u=>f H2 (u.mono i)
theorem f7.sub(f:f7 K O H ds vs)(i:∀b,O' b->O b):f7 K O' H ds vs:=fun H2 u=>f H2 (u.mono i)
theorem f7.nil:f7 K O H [] []:=fun _ _=>.nil
theorem f7.cons(a:Fix K O H d v)(b:f7 K O H ds vs):f7 K O H (d::ds) (v::vs):=fun H2 u=>.cons (a H2 u) (b H2 u)
theorem f7.snoc(b:f7 K O H ds vs)(a:Fix K O H d v):f7 K O H (ds++[d]) (vs++[v]):=fun H2 u=>(b H2 u).append (.cons (a H2 u) .nil)
theorem Fix.int{i:Int}:Fix K O H (.int i) (.int i):=fun _ _=>Rep.cN.mpr rfl
theorem Fix.str{x:Str}:Fix K O H (.str x) (.str x):=fun _ _=>Rep.a8.mpr rfl
theorem Fix.bl{x:Bool}:Fix K O H (.bl x) (.bl x):=fun _ _=>Rep.vA.mpr rfl
theorem Fix.tup(h:H p=some (.tup vs))(n:¬O p)(f:f7 K O H ds vs):Fix K O H (.tup ds) (.ref p):=fun H2 u=>Rep.bV.mpr ⟨p,vs,rfl,.of (u p _ n h),f H2 u⟩
theorem Fix.lst(h:H p=some (.lst vs))(n:¬O p)(f:f7 K O H ds vs):Fix K O H (.lst ds) (.ref p):=fun H2 u=>Rep.oP.mpr ⟨p,vs,rfl,.of (u p _ n h),f H2 u⟩
end
structure PL(K:zab)(H:Hp)(D S:zdP)(sc:List Int)(p:Nat):Prop where
 sO:H D=some (.lst [.ref S,.int p])
 JK:H S=some (.lst (sc.map .int))
 ne:S≠D
 len:sc.length<=63
end L2
namespace L2
open PySem
theorem PL.same{K:zab}{H H':Hp}{D S:zdP}{sc:List Int}{p:Nat}(d:PL K H D S sc p)(s:ay H H'):PL K H' D S sc p:=⟨s _ _ d.sO,s _ _ d.JK,d.ne,d.len⟩
theorem gI.ql{K:zab}{H H':Hp}{D a:zdP}{xs:List V}(h:gI K H a xs)(u:bX D H H')(n:a≠D):gI K H' a xs:=by
 rcases h with (h |⟨o,h⟩) |h
 ·exact .inl (.inl (u _ _ n h))
 ·exact .inl (.inr ⟨o,u _ _ n h⟩)
 ·exact .inr h
theorem Lv{a:Option V}{r:St}{H:Hp}{Q:VK}:(fZ 13 (a::r) H Q)=(fZ 12 r H Q):=rfl
theorem Lw{a:Option V}{r:St}{H:Hp}{Q:VK}:(fZ 14 (a::r) H Q)=(fZ 13 r H Q):=rfl
def zj (K:zab) (O:zdP->Prop) (H:Hp) (B:zdP) (bs:List PG.ji):Prop:=Fix K O H (.lst (bs.map G2)) (.ref B)/\bs.length<=10
def Own (K:zab) (H0 H:Hp) (d:Dp) (v:V):Prop:=∀O:zdP->Prop,(∀b,O b->H0 b≠none)->Fix K O H d v
section
variable{K:zab}{O:zdP->Prop}{H0 H H1:Hp}{d:Dp}{v:V}{D B:zdP}{bs:List PG.ji}
theorem Own.up(f:Own K H0 H d v)(u:bX D H H1)(hD:H0 D≠none):Own K H0 H1 d v:=fun O hO=>by
 have:=f (fun b=>O b\/b=D) (fun b hb=>hb.elim (hO b) (fun e=>e▸hD));exact(this.up (bK.one u (.inr rfl))).sub fun b hb=>.inl hb
theorem Own.same(f:Own K H0 H d v)(s:ay H H1):Own K H0 H1 d v:=fun O hO=>(f O hO).up (.of s)
theorem zj.up(f:zj K (·=D) H B bs)(u:bX D H H1):zj K (·=D) H1 B bs:=⟨f.1.up (bK.one u rfl),f.2⟩
theorem zj.same(f:zj K (·=D) H B bs)(s:ay H H1):zj K (·=D) H1 B bs:=⟨f.1.up (.of s),f.2⟩
theorem bX.Oa(u:bX D H H1)(hD:H1 D≠none):∀b,H b≠none->H1 b≠none:=fun b hb=>by
 by_cases e:b=D
 ·rw[e];exact hD
 ·cases z:H b with
  |none=>exact absurd z hb
  |some o=>rw[u b o e z];simp
end
def vG (K:zab) (H0 H:Hp) (ds:List Dp) (vs:List V):Prop:=∀O:zdP->Prop,(∀b,O b->H0 b≠none)->f7 K O H ds vs
section
variable{K:zab}{H0 H H1:Hp}{d:Dp}{v:V}{ds:List Dp}{vs:List V}{D p:zdP}
theorem vG.nil:vG K H0 H [] []:=fun _ _=>f7.nil
theorem vG.cons(a:Own K H0 H d v)(b:vG K H0 H ds vs):vG K H0 H (d::ds) (v::vs):=fun O h=>f7.cons (a O h) (b O h)
theorem Own.int{i:Int}:Own K H0 H (.int i) (.int i):=fun _ _=>Fix.int
theorem Own.str{x:Str}:Own K H0 H (.str x) (.str x):=fun _ _=>Fix.str
theorem Own.bl{x:Bool}:Own K H0 H (.bl x) (.bl x):=fun _ _=>Fix.bl
theorem vG.same(f:vG K H0 H ds vs)(s:ay H H1):vG K H0 H1 ds vs:=fun O hO=>(f O hO).up (.of s)
end
theorem vG.up{K:zab}{H0 H H1:Hp}{ds:List Dp}{vs:List V}{D:zdP}(f:vG K H0 H ds vs)(u:bX D H H1)(hD:H0 D≠none):vG K H0 H1 ds vs:=fun O hO=>by
 have:=f (fun b=>O b\/b=D) (fun b hb=>hb.elim (hO b) (fun e=>e▸hD));exact(this.up (bK.one u (.inr rfl))).sub fun b hb=>.inl hb
theorem vG.snoc{K:zab}{H0 H:Hp}{d:Dp}{v:V}{ds:List Dp}{vs:List V}(b:vG K H0 H ds vs)(a:Own K H0 H d v):vG K H0 H (ds++[d]) (vs++[v]):=fun O h=>f7.snoc (b O h) (a O h)
def kdS:Nat->Str
 |0=>"all"
 |1=>"if"
 |2=>"else"
 |_=>"while"
structure oW(K:zab)(Oo:zdP->Prop)(H:Hp)(f:PG.Frame)(a b:zdP)(hd fi:V)(xs:List V):Prop where
 fr:H a=some (.lst [.str (kdS f.kind),.ref b,hd,fi])
 bd:H b=some (.lst xs)
 ok:f7 K Oo H (f.body.map G1) xs
 Yr:f.kind≠0->∃c ys,hd=.ref c/\H c=some (.tup ys)/\¬Oo c/\f7 K Oo H [.str (if f.kind=3 then "while" else "if"),.int f.k,.str (S f.sg),mJ f.l,mJ f.r] ys
 Ys:f.kind=2->Fix K Oo H (.lst (f.first.map G1)) fi
 len:xs.length=f.body.length
abbrev Z0:=PG.Frame×zdP×zdP
def CM (D P R:zdP) (gH:List Z0):List zdP:=D::P::R::gH.flatMap fun x=>[x.2.1,x.2.2]
def O (D P R:zdP) (gH:List Z0) (E:List zdP):zdP->Prop:=fun b=>b∈CM D P R gH\/b∈E
structure Gh(K:zab)(H:Hp)(D S:zdP)(sc:List Int)(p:Nat)(B:zdP)(bs:List PG.ji)(P R:zdP)(gH:List Z0)(rows:List PG.Row)(E:List zdP):Prop where
 sO:PL K H D S sc p
 box:Fix K (O D P R gH E) H (.lst (bs.map G2)) (.ref B)
 Gf:bs.length<=10
 lV:H P=some (.lst (gH.reverse.map fun x=>.ref x.2.1))
 frames:∀x∈gH,∃hd fi xs,oW K (O D P R gH E) H x.1 x.2.1 x.2.2 hd fi xs
 rows:∃Ob,H R=some (.lst Ob)/\f7 K (O D P R gH E) H (rows.map Yp) Ob/\Ob.length=rows.length
 nd:(CM D P R gH).Nodup
 nS:S ∉ CM D P R gH
section
variable{K:zab}{H H':Hp}{D S B P R:zdP}{sc:List Int}{p p':Nat}{bs:List PG.ji}{gH:List Z0}{rows:List PG.Row}{E E':List zdP}
theorem oW.up{Oo:zdP->Prop}{f:PG.Frame}{a b:zdP}{hd fi:V}{xs:List V}(x:oW K Oo H f a b hd fi xs)(u:bK Oo H H')(ha:H' a=H a)(hb:H' b=H b):oW K Oo H' f a b hd fi xs:=
 ⟨ha.trans x.fr,hb.trans x.bd,x.ok.up u,fun z=>let ⟨c,ys,e,h,n,g⟩:=x.Yr z;⟨c,ys,e,u _ _ n h,n,g.up u⟩,fun z=>(x.Ys z).up u,x.len⟩
theorem oW.sub{O1 O2:zdP->Prop}{f:PG.Frame}{a b:zdP}{hd fi:V}{xs:List V}(x:oW K O1 H f a b hd fi xs)(i:∀c,O2 c->O1 c):oW K O2 H f a b hd fi xs:=
 ⟨x.fr,x.bd,x.ok.sub i,fun z=>let ⟨c,ys,e,h,n,g⟩:=x.Yr z;⟨c,ys,e,h,fun w=>n (i c w),g.sub i⟩,fun z=>(x.Ys z).sub i,x.len⟩
theorem Gh.ne(s:Gh K H D S sc p B bs P R gH rows E):D≠P/\D≠R/\P≠R/\∀x∈gH,x.2.1≠D/\x.2.2≠D/\x.2.1≠P/\x.2.2≠P/\x.2.1≠R/\x.2.2≠R:=by
 have nd:=s.nd;unfold CM at nd;rw[zbh,zbh,zbh] at nd;obtain⟨h1,h2,h3,h4⟩:=nd;simp only[zai,not_or] at h1 h2;refine⟨h1.1,h1.2.1,h2.1,fun x hx=>?_⟩;have m1:x.2.1∈gH.flatMap fun x=>[x.2.1,x.2.2]:=zc5.mpr ⟨x,hx,by simp⟩;have m2:x.2.2∈gH.flatMap fun x=>[x.2.1,x.2.2]:=zc5.mpr ⟨x,hx,by simp⟩;exact⟨fun e=>h1.2.2 (e▸m1),fun e=>h1.2.2 (e▸m2),fun e=>h2.2 (e▸m1),fun e=>h2.2 (e▸m2),fun e=>h3 (e▸m1),fun e=>h3 (e▸m2)⟩
theorem Gh.Oa(s:Gh K H D S sc p B bs P R gH rows E):∀b,b∈CM D P R gH->H b≠none:=fun b hb=>by
 unfold CM at hb;simp only[zai,zc5] at hb;rcases hb with rfl |rfl |rfl |⟨x,hx,hb⟩
 ·rw[s.sO.sO];simp
 ·rw[s.lV];simp
 ·obtain⟨Ob,h,_⟩:=s.rows;rw[h];simp
 ·obtain⟨hd,fi,xs,fa⟩:=s.frames x hx;simp only[za2,or_false] at hb;rcases hb with rfl |rfl
  ·rw[fa.fr];simp
  ·rw[fa.bd];simp
theorem Gh.draw(s:Gh K H D S sc p B bs P R gH rows E)(u:bX D H H')(dk:PL K H' D S sc p'):Gh K H' D S sc p' B bs P R gH rows E:=by
 obtain⟨n1,n2,n3,n4⟩:=s.ne;have uS:bK (O D P R gH E) H H':=bK.one u (.inl (by simp[CM]));refine⟨dk,s.box.up uS,s.Gf,u _ _ n1.symm s.lV,fun x hx=>?_,?_,s.nd,s.nS⟩
 ·obtain⟨hd,fi,xs,fa⟩:=s.frames x hx;obtain⟨m1,m2,_⟩:=n4 x hx;exact⟨hd,fi,xs,fa.up uS ((u _ _ m1 fa.fr).trans fa.fr.symm) ((u _ _ m2 fa.bd).trans fa.bd.symm)⟩
 ·obtain⟨Ob,h,f,l⟩:=s.rows;exact⟨Ob,u _ _ n2.symm h,f.up uS,l⟩
theorem Gh.same(s:Gh K H D S sc p B bs P R gH rows E)(e:ay H H'):Gh K H' D S sc p B bs P R gH rows E:=s.draw (.of e) (s.sO.same e)
theorem Gh.bT(s:Gh K H D S sc p B bs P R gH rows E):zj K (·=D) H B bs:=⟨s.box.sub fun b hb=>.inl (by rw[show b=D from hb];simp[CM]),s.Gf⟩
theorem Gh.row(s:Gh K H D S sc p B bs P R gH rows E){Ob:List V}(hR:H R=some (.lst Ob)){k:Int}{w:PG.Wd}{q:zdP}(hq:H q=some (.lst [.int k,.str (N9 w)]))(nq:¬O D P R gH E q):Gh K (upd H R (.lst (Ob++[.ref q]))) D S sc p B bs P R gH (rows++[(k,w)]) E:=by
 obtain⟨n1,n2,n3,n4⟩:=s.ne;have mR:R∈CM D P R gH:=by simp[CM]
 have uS:bK (O D P R gH E) H (upd H R (.lst (Ob++[.ref q]))):=bK.refl.put (.inl mR) _;have nSR:S≠R:=fun e=>s.nS (by rw[e];exact mR);refine⟨⟨by rw[aq n2];exact s.sO.sO,by rw[aq nSR];exact s.sO.JK,s.sO.ne,s.sO.len⟩,s.box.up uS,s.Gf,by rw[aq n3];exact s.lV,fun x hx=>?_,?_,s.nd,s.nS⟩
 ·obtain⟨hd,fi,xs,fa⟩:=s.frames x hx;obtain⟨_,_,_,_,m1,m2⟩:=n4 x hx;exact⟨hd,fi,xs,fa.up uS (aq m1) (aq m2)⟩
 ·obtain⟨aeP,h,f,l⟩:=s.rows;rw[hR] at h;cases h;refine⟨_,aj,?_,by simp[l]⟩;rw[zas];exact(f.up uS).snoc (Fix.lst (by rw[aq (fun e=>nq (.inl (by rw[e];exact mR)))];exact hq) nq (.cons .int (.cons .str .nil)))
theorem Gh.push(s:Gh K H D S sc p B bs P R gH rows E){f:PG.Frame}{a b:zdP}{hd fi:V}{xs:List V}(fa:oW K (O D P R gH E) H f a b hd fi xs)(ha:a ∉ CM D P R gH)(hb:b ∉ CM D P R gH)(nab:a≠b)(nSa:S≠a)(nSb:S≠b)(ea:a∈E)(eb:b∈E) :
 Gh K (upd H P (.lst ((gH.reverse.map fun x=>.ref x.2.1)++[.ref a]))) D S sc p B bs P R ((f,a,b)::gH) rows E:=by
 obtain⟨n1,n2,n3,n4⟩:=s.ne;have mP:P∈CM D P R gH:=by simp[CM]
 have uS:bK (O D P R gH E) H (upd H P (.lst ((gH.reverse.map fun x=>.ref x.2.1)++[.ref a]))):=bK.refl.put (.inl mP) _;have j:∀c,O D P R ((f,a,b)::gH) E c->O D P R gH E c:=fun c hc=>by
  simp only[O,CM,zai,zcW,zaS,za8] at hc ⊢;rcases hc with (h |h |h |h |h |h) |h
  ·exact .inl (.inl h)
  ·exact .inl (.inr (.inl h))
  ·exact .inl (.inr (.inr (.inl h)))
  ·exact .inr (by rw[h];exact ea)
  ·exact .inr (by rw[h];exact eb)
  ·exact .inl (.inr (.inr (.inr h)))
  ·exact .inr h
 have nSP:S≠P:=fun e=>s.nS (by rw[e];exact mP);unfold CM at ha hb;simp only[zai,not_or] at ha hb;have nd:=s.nd;unfold CM at nd;simp only[zbh,zai,not_or] at nd;obtain⟨⟨d1,d2,d5⟩,⟨p1,p4⟩,r3,fl⟩:=nd;have nS:=s.nS;unfold CM at nS;simp only[zai,not_or] at nS;refine⟨⟨by rw[aq n1];exact s.sO.sO,by rw[aq nSP];exact s.sO.JK,s.sO.ne,s.sO.len⟩,(s.box.up uS).sub j,s.Gf,by rw[aj,zb0,zas];rfl,fun x hx=>?_,?_,?_,?_⟩
 ·rcases zai.mp hx with rfl |hx
  ·exact⟨hd,fi,xs,(fa.up uS (aq ha.2.1) (aq hb.2.1)).sub j⟩
  ·obtain⟨hd,fi,xs',fa⟩:=s.frames x hx;obtain⟨_,_,k3,k4,_,_⟩:=n4 x hx;exact⟨hd,fi,xs',(fa.up uS (aq k3) (aq k4)).sub j⟩
 ·obtain⟨Ob,h,g,l⟩:=s.rows;exact⟨Ob,by rw[aq n3.symm];exact h,(g.up uS).sub j,l⟩
 ·unfold CM;rw[zcW];simp only[zaS,za8,zbh,zai,not_or];exact⟨⟨d1,d2,fun e=>ha.1 e.symm,fun e=>hb.1 e.symm,d5⟩,⟨p1,fun e=>ha.2.1 e.symm,fun e=>hb.2.1 e.symm,p4⟩,⟨fun e=>ha.2.2.1 e.symm,fun e=>hb.2.2.1 e.symm,r3⟩,⟨nab,ha.2.2.2⟩,hb.2.2.2,fl⟩
 ·unfold CM;rw[zcW];simp only[zaS,za8,zai,not_or];exact⟨nS.1,nS.2.1,nS.2.2.1,nSa,nSb,nS.2.2.2⟩
end
theorem JL{K:zab}{a D:zdP}{xs:List V}{tc:TT}{te:TE}{Q:VK}{r:St}{H:Hp}(p:Nat->Bool)(f:Nat->V)(hS:gI K H a xs)(hl:xs.length<=16000000)(hD:H D=none)
 (test:∀i x,xs[i]?=some x->∀H2,ay H H2->∀R:Bool->Hp->Prop,(∀H3,ay H2 H3->R (p i) H3)->tc (some x::r) H2 R)
 (step:∀i x,xs[i]?=some x->p i=true->∀H2,ay H H2->∀R:VK,(∀H3,ay H2 H3->R (f i) H3)->te (some x::r) H2 R)
 (q:∀H2,ay H H2->H2 D=some (.lst (((zaA xs.length).filter p).map f))->Q (.ref D) H2):sD (N7 K a) D (mI 0) tc te Q (none::r) (upd H D (.lst [])):=by
 refine⟨fun i m τ H2=>m=xs.length-i/\i<=xs.length/\(∃x,τ=x::r)/\ay H H2/\H2 D=some (.lst (((zaA i).filter p).map f)),⟨xs.length,by simp,zaU _,⟨none,rfl⟩,ay.new hD _,by rw[aj];simp⟩,?_⟩
 rintro i m τ H2 ⟨rfl,hi,⟨x,rfl⟩,s2,h2⟩
 by_cases lQ:i<xs.length
 ·refine .inr ⟨⟨xs,xs[i],s2.seq hS,by simp[lQ]⟩,fun τ' H'=>(∃x,τ'=x::r)/\ay H H'/\H' D=some (.lst (((zaA (i+1)).filter p).map f)),fun τ' H' ⟨h1,h3,h4⟩=>⟨xs.length-(i+1),by lia,rfl,lQ,h1,h3,h4⟩,fun y H' hy=>?_⟩;obtain⟨rfl,hy⟩:=hy;have ey:=hy _ (s2.seq hS);simp only[mI,zcI];refine test i y ey _ s2 _ fun H3 s3=>?_;have Xf:=s2.trans s3;have h3:=s3 _ _ h2;rw[List.range_succ,zcL,zas];cases hp:p i with
  |false=>
   rw[if_neg zal];exact⟨⟨_,rfl⟩,Xf,by rw[h3];simp[hp]⟩
  |true=>
   rw[if_pos rfl];refine step i y ey hp _ Xf _ fun H4 s4=>⟨_,s4 _ _ h3,?_,⟨_,rfl⟩,?_,?_⟩
   ·have h1:(((zaA i).filter p).map f).length<=i:=by
     rw[zaj];exact zay (zcj _ _) (by rw[zcc];lia)
    have:zdX=2 ^ 24:=rfl;lia
   ·intro b o e;rw[aq (aI e hD)];exact s4 _ _ (Xf _ _ e)
   ·rw[aj];simp[hp]
 ·have e:i=xs.length:=by lia
  subst e;exact .inl ⟨⟨xs,s2.seq hS,zah _⟩,q H2 s2 h2⟩
theorem Lx{X:Cx}{K:zab}(h:X.K=K):R9 X (OM K):=h▸cG
theorem MR{X:Cx}{K:zab}(h:X.K=K):rF X (compareOp .NotIn) (rIn K true):=h▸mS
def Kept (D:zdP) (H H':Hp):Prop:=bX D H H'/\∀b,H b≠none->H' b≠none
theorem Kept.up{D:zdP}{H H1 H2:Hp}(k:Kept D H H1)(u:bX D H1 H2)(hD:H2 D≠none):Kept D H H2:=⟨k.1.trans u,fun b hb=>u.Oa hD b (k.2 b hb)⟩
theorem Kept.same{D:zdP}{H H1 H2:Hp}(k:Kept D H H1)(s:ay H1 H2):Kept D H H2:=⟨k.1.trans (.of s),fun b hb=>by
 have:=k.2 b hb;cases z:H1 b with
 |none=>exact absurd z this
 |some o=>rw[s _ _ z];simp⟩
theorem Kept.put{D q:zdP}{H H1:Hp}(k:Kept D H H1)(hq:H q=none)(o:HO):Kept D H (upd H1 q o):=⟨fun b u n e=>by rw[aq (aI e hq)];exact k.1 b u n e,fun b hb=>by
 by_cases z:b=q
 ·rw[z,aj];simp
 ·rw[aq z];exact k.2 b hb⟩
def VT (r:PG.oV):Dp:=.tup [.int r.1,.str (N9 r.2.1),.tup (r.2.2.map .int)]
theorem MS{K:zab}{H:Hp}:∀(s:PG.du) {v:V},Rep K H (G1 s) v->∃a ys,v=.ref a/\dF K H a (.str (N9 s.wd) :: .int s.row::ys):=by
 intro s v h;have key:∃ds,G1 s=.tup (.str (N9 s.wd) :: .int s.row::ds):=by
  cases s<;>exact⟨_,by rw[G1];rfl⟩
 obtain⟨ds,e⟩:=key;rw[e,Rep.bV] at h;obtain⟨a,xs,rfl,q,r⟩:=h;rw[a7.bh] at r;obtain⟨v1,t1,rfl,e1,r⟩:=r;rw[a7.bh] at r;obtain⟨v2,t2,rfl,e2,_⟩:=r;rw[Rep.a8] at e1;rw[Rep.cN] at e2;subst e1 e2;exact⟨a,t2,rfl,q⟩
structure TgI(K:zab)(H H2:Hp)(tl:zdP)(H3:Hp)(us:List V)(pre:List PG.Tg):Prop where
 s:ay H H3
 u:bK (·=tl) H2 H3
 y:H3 tl=some (.lst us)
 f:f7 K (·=tl) H3 (pre.map Yq) us
 l:us.length=pre.length
section
variable{K:zab}{H H2 H3 H4:Hp}{tl p:zdP}{us vs:List V}{pre:List PG.Tg}{ds:List Dp}{g:PG.Tg}
theorem TgI.same(a:TgI K H H2 tl H3 us pre)(s:ay H3 H4):TgI K H H2 tl H4 us pre:=⟨a.s.trans s,a.u.trans (.of s),s _ _ a.y,a.f.up (.of s),a.l⟩
end
def Yt:Option Nat->V
 |none=>.eB
 |some e=>.int e
def mtV (A:Nat->zdP) (p:Nat):Option PG.Mt->Option V
 |none=>none
 |some (.back q)=>some (.int q)
 |some (.op _ _)=>some (.ref (A p))
structure Ud(H:Hp)(d:zdP)(m:PG.Mm)(A:Nat->zdP)(Hx:Hp)(bg:List (Key×V)):Prop where
 s:ay H Hx
 dn:H d=none
 dd:Hx d=some (.dK bg)
 at_:∀p:Nat,eL bg (.inl (p:Int))=mtV A p (m p)
 ls:∀p e f,m p=some (.op e f)->Hx (A p)=some (.lst [Yt e,Yt f])/\H (A p)=none
 inj:∀p q e f e' f',m p=some (.op e f)->m q=some (.op e' f')->A p=A q->p=q
section
variable{H Hx H':Hp}{d b:zdP}{m:PG.Mm}{A:Nat->zdP}{bg:List (Key×V)}{o:HO}
theorem Ud.ne(t:Ud H d m A Hx bg){p:Nat}{e f:Option Nat}(h:m p=some (.op e f)):A p≠d:=dg (t.ls p e f h).1 t.dd (by intro z;cases z)
theorem Ud.same(t:Ud H d m A Hx bg)(s:ay Hx H'):Ud H d m A H' bg:=⟨t.s.trans s,t.dn,s _ _ t.dd,t.at_,fun p e f h=>⟨s _ _ (t.ls p e f h).1,(t.ls p e f h).2⟩,t.inj⟩
theorem Ud.put(t:Ud H d m A Hx bg)(hb:H b=none)(nd:b≠d)(nl:∀p e f,m p=some (.op e f)->A p≠b)(o:HO):Ud H d m A (upd Hx b o) bg:=
 ⟨fun z u e=>by rw[aq (aI e hb)];exact t.s z u e,t.dn,by rw[aq nd.symm];exact t.dd,t.at_,fun p e f h=>⟨by rw[aq (nl p e f h)];exact(t.ls p e f h).1,(t.ls p e f h).2⟩,t.inj⟩
end
structure vH(K:zab)(H:Hp)(tl:zdP)(H3:Hp)(us:List V)(ds:List Dp):Prop where
 s:ay H H3
 y:H3 tl=some (.lst us)
 f:f7 K (·=tl) H3 ds us
 l:us.length=ds.length
section
variable{K:zab}{H H3 H4:Hp}{tl p p1 p2:zdP}{us vs:List V}{ds es:List Dp}{d:Dp}{v:V}
theorem vH.new(h:H tl=none):vH K H tl (upd H tl (.lst [])) [] []:=⟨ay.new h _,aj,.nil,rfl⟩
theorem vH.same(a:vH K H tl H3 us ds)(s:ay H3 H4):vH K H tl H4 us ds:=⟨a.s.trans s,s _ _ a.y,a.f.up (.of s),a.l⟩
theorem vH.push(a:vH K H tl H3 us ds)(ht:H tl=none)(fv:Fix K (·=tl) H3 d v):vH K H tl (upd H3 tl (.lst (us++[v]))) (us++[v]) (ds++[d]):=by
 have uu:bK (·=tl) H3 (upd H3 tl (.lst (us++[v]))):=bK.refl.put (O:=(·=tl)) rfl _;exact⟨fun z o e=>by rw[aq (aI e ht)];exact a.s z o e,aj,(a.f.snoc fv).up uu,by simp[a.l]⟩
theorem vH.row(a:vH K H tl H3 us ds)(ht:H tl=none){k:Int}{w:PG.Wd}{ws:List Int}(h1:H3 p1=none)(h2:(upd H3 p1 (.tup (ws.map V.int))) p2=none) :
 (upd (upd H3 p1 (.tup (ws.map V.int))) p2 (.tup [.int k,.str (N9 w),.ref p1])) tl=some (.lst us)/\
 vH K H tl (upd (upd (upd H3 p1 (.tup (ws.map V.int))) p2 (.tup [.int k,.str (N9 w),.ref p1])) tl (.lst (us++[.ref p2]))) (us++[.ref p2]) (ds++[VT (k,w,ws)]):=by
 have s1:=ay.new h1 (.tup (ws.map V.int));have a1:=a.same s1;have t1:(upd H3 p1 (.tup (ws.map V.int))) p1=some (.tup (ws.map V.int)):=aj;have n1:p1≠tl:=(aI a.y h1).symm;generalize upd H3 p1 (.tup (ws.map V.int))=H5 at *;have s2:=ay.new h2 (.tup [.int k,.str (N9 w),.ref p1]);have a2:=a1.same s2;have t2:(upd H5 p2 (.tup [.int k,.str (N9 w),.ref p1])) p2=some (.tup [.int k,.str (N9 w),.ref p1]):=aj;have n2:p2≠tl:=(aI a1.y h2).symm;have t1:=s2 _ _ t1;generalize upd H5 p2 (.tup [.int k,.str (N9 w),.ref p1])=H6 at *;refine⟨a2.y,a2.push ht (Fix.tup t2 n2 (.cons .int (.cons .str (.cons (Fix.tup t1 n1 ?_) .nil))))⟩;have allI:∀l:List Int,f7 K (·=tl) H6 (l.map Dp.int) (l.map V.int):=fun l=>by
  induction l with
  |nil=>exact .nil
  |cons i r ih=>exact .cons .int ih
 exact allI ws
end
def zl (ss:List PG.du) (vs:List V):List (Key×V):=zdK (fun s v=>(Sum.inl s.row,v)) ss vs
theorem G3:∀(ss:List PG.du) (vs:List V),vs.length=ss.length->ss.Pairwise (fun a b=>a.row<b.row)->∀i (hi:i<ss.length) v,vs[i]?=some v->eL (zl ss vs) (.inl ss[i].row)=some v
 |[],_,_,_,i,hi,_,_=>by simp at hi
 |_::_,[],h,_,_,_,_,_=>by simp at h
 |s::ss,v::vs,h,hp,0,hi,u,hu=>by
  simp at hu;subst hu;show eL ((_,v)::zl ss vs) _=_;exact d7 rfl
 |s::ss,v::vs,h,hp,i+1,hi,u,hu=>by
  rw[zbY] at hp;have lt:=hp.1 (ss[i]'(by simpa using hi)) (zaK _);show eL ((.inl s.row,v)::zl ss vs) (.inl (ss[i]'(by simpa using hi)).row)=_;rw[d9 (fun e=>by have e:=Sum.inl.inj e;lia)];exact G3 ss vs (by simpa using h) hp.2 i (by simpa using hi) u (by simpa using hu)
def lW {α β γ:Type} (R:α->β->γ->Prop):List α->List β->List γ->Prop
 |[],[],[]=>True
 |a::as,b::bs,c::cs=>R a b c/\lW R as bs cs
 |_,_,_=>False
section
variable{α β γ:Type}{R S:α->β->γ->Prop}
theorem lW.bE{bs:List β}{cs:List γ}:lW R [] bs cs↔bs=[]/\cs=[]:=by
 cases bs<;>cases cs<;>simp[lW]
theorem lW.bh{a:α}{as:List α}{bs:List β}{cs:List γ}:lW R (a::as) bs cs↔∃b Xg c Xh,bs=b::Xg/\cs=c::Xh/\R a b c/\lW R as Xg Xh:=by
 constructor
 ·intro h;cases bs with
  |nil=>simp[lW] at h
  |cons b bs=>
   cases cs with
   |nil=>simp[lW] at h
   |cons c cs=>exact⟨b,bs,c,cs,rfl,rfl,h.1,h.2⟩
 ·rintro ⟨b,Xg,c,Xh,rfl,rfl,h1,h2⟩
  exact⟨h1,h2⟩
theorem lW.length:∀ {as:List α} {bs:List β} {cs:List γ},lW R as bs cs->bs.length=as.length/\cs.length=as.length
 |[],_,_,h=>by obtain⟨rfl,rfl⟩:=lW.bE.mp h;exact⟨rfl,rfl⟩
 |a::as,_,_,h=>by
  obtain⟨b,Xg,c,Xh,rfl,rfl,_,h2⟩:=lW.bh.mp h;have:=lW.length h2;simp[this]
theorem lW.imp:∀ {as:List α} {bs:List β} {cs:List γ},lW R as bs cs->(∀a b c,a∈as->c∈cs->R a b c->S a b c)->lW S as bs cs
 |[],_,_,h,_=>by obtain⟨rfl,rfl⟩:=lW.bE.mp h;trivial
 |a::as,_,_,h,f=>by
  obtain⟨b,Xg,c,Xh,rfl,rfl,h1,h2⟩:=lW.bh.mp h;exact⟨f a b c (zap ..) (zap ..) h1,h2.imp fun a' b' c' m1 m2=>f a' b' c' (zak _ m1) (zak _ m2)⟩
theorem lW.snoc:∀ {as:List α} {bs:List β} {cs:List γ} {a:α} {b:β} {c:γ},lW R as bs cs->R a b c->lW R (as++[a]) (bs++[b]) (cs++[c])
 |[],_,_,a,b,c,h,r=>by obtain⟨rfl,rfl⟩:=lW.bE.mp h;exact⟨r,trivial⟩
 |x::as,_,_,a,b,c,h,r=>by
  obtain⟨b',Xg,c',Xh,rfl,rfl,h1,h2⟩:=lW.bh.mp h;exact⟨h1,lW.snoc h2 r⟩
end
theorem JM{K:zab}{a D:zdP}{xs:List V}{te:TE}{Q:VK}{r:St}{H:Hp}(Pv:Nat->List V->Hp->Prop)(hS:gI K H a xs)(hl:xs.length<=16000000)(hD:H D=none)(h0:Pv 0 [] (upd H D (.lst [])))
 (step:∀i x ys H2,xs[i]?=some x->ay H H2->H2 D=some (.lst ys)->ys.length=i->Pv i ys H2->∀R:VK,(∀v H3,ay H2 H3->Pv (i+1) (ys++[v]) (upd H3 D (.lst (ys++[v])))->R v H3)->te (some x::r) H2 R)
 (q:∀ys H2,ay H H2->H2 D=some (.lst ys)->Pv xs.length ys H2->Q (.ref D) H2):sD (N7 K a) D (mI 0) GD te Q (none::r) (upd H D (.lst [])):=by
 refine⟨fun i m τ H2=>m=xs.length-i/\i<=xs.length/\(∃x,τ=x::r)/\ay H H2/\∃ys,H2 D=some (.lst ys)/\ys.length=i/\Pv i ys H2,⟨xs.length,by simp,zaU _,⟨none,rfl⟩,ay.new hD _,[],aj,rfl,h0⟩,?_⟩
 rintro i m τ H2 ⟨rfl,hi,⟨x,rfl⟩,s2,ys,h2,ly,p2⟩
 by_cases lQ:i<xs.length
 ·refine .inr ⟨⟨xs,xs[i],s2.seq hS,by simp[lQ]⟩,fun τ' H'=>(∃x,τ'=x::r)/\ay H H'/\∃ys,H' D=some (.lst ys)/\ys.length=i+1/\Pv (i+1) ys H',fun τ' H' ⟨h1,h3,h4⟩=>⟨xs.length-(i+1),by lia,rfl,lQ,h1,h3,h4⟩,fun y H' hy=>?_⟩;obtain⟨rfl,hy⟩:=hy;have ey:=hy _ (s2.seq hS);simp only[mI,zcI,GD];rw[if_pos trivial];refine step i y ys _ ey s2 h2 ly p2 _ fun v H3 s3 p3=>⟨ys,s3 _ _ h2,?_,⟨_,rfl⟩,?_,ys++[v],aj,by simp[ly],p3⟩
  ·have:zdX=2 ^ 24:=rfl;lia
  ·intro b o e;rw[aq (aI e hD)];exact s3 _ _ (s2 _ _ e)
 ·have e:i=xs.length:=by lia
  subst e;exact .inl ⟨⟨xs,s2.seq hS,zah _⟩,q ys H2 s2 h2 p2⟩
section
variable{K:zab}{H H':Hp}{p C dx:zdP}{fs:List (Str×V)}
mutual
theorem SF(h:H p=some (.ins C dx fs))(u:bK (·=p) H H'):∀(d:Dp) (v:V),Rep K H d v->Rep K H' d v
 |.eB,v,r=>by rw[Rep.wH] at r ⊢;exact r
 |.bl b,v,r=>by rw[Rep.vA] at r ⊢;exact r
 |.int b,v,r=>by rw[Rep.cN] at r ⊢;exact r
 |.str b,v,r=>by rw[Rep.a8] at r ⊢;exact r
 |.lst l,v,r=>by
  rw[Rep.oP] at r ⊢;obtain⟨a,ys,rfl,q,rs⟩:=r;refine⟨a,ys,rfl,?_,wX h u l ys rs⟩;rcases q with (q |⟨o,q⟩) |q
  ·exact .inl (.inl (u _ _ (dg q h (by intro z;cases z)) q))
  ·exact .inl (.inr ⟨o,u _ _ (dg q h (by intro z;cases z)) q⟩)
  ·exact .inr q
 |.tup l,v,r=>by
  rw[Rep.bV] at r ⊢;obtain⟨a,ys,rfl,q,rs⟩:=r;refine⟨a,ys,rfl,?_,wX h u l ys rs⟩;rcases q with (q |⟨o,q⟩) |q
  ·exact .inl (.inl (u _ _ (dg q h (by intro z;cases z)) q))
  ·exact .inl (.inr ⟨o,u _ _ (dg q h (by intro z;cases z)) q⟩)
  ·exact .inr q
theorem wX(h:H p=some (.ins C dx fs))(u:bK (·=p) H H'):∀(ds:List Dp) (vs:List V),a7 K H ds vs->a7 K H' ds vs
 |[],vs,r=>by rw[a7.bE] at r ⊢;exact r
 |d::ds,vs,r=>by
  rw[a7.bh] at r ⊢;obtain⟨v,t,rfl,r1,r2⟩:=r;exact⟨v,t,rfl,SF h u d v r1,wX h u ds t r2⟩
end
end
theorem Eh{K:zab}{a D:zdP}{xs:List V}{te:TE}{Q:VK}{r:St}{H:Hp}(f:Nat->V)(hS:gI K H a xs)(hl:xs.length<=16000000)(hD:H D=none)
 (step:∀i x H2,xs[i]?=some x->ay H H2->∀R:VK,R (f i) H2->te (some x::r) H2 R)
 (q:∀H2,ay H H2->H2 D=some (.lst ((zaA xs.length).map f))->Q (.ref D) H2):sD (N7 K a) D (mI 0) GD te Q (none::r) (upd H D (.lst [])):=by
 refine JM (K:=K) (fun i ys H2=>ys=(zaA i).map f) hS hl hD rfl ?_ ?_
 ·rintro i x ys H2 hx s2 hDy ly rfl R hR
  exact step i x H2 hx s2 R (hR _ _ (ay.refl _) (by rw[List.range_succ,zas];rfl))
 ·rintro ys H2 s2 hDy rfl
  exact q H2 s2 hDy
structure Oc(K:zab)(C:zdP)(H:Hp)(p:zdP)(pr:PG.Prog):Prop where
 at_:∃(dx nl sd fa va st wy:zdP) (us ws:List V),H p=some (.ins C dx [("names",.ref nl),("sizes",.ref sd),("first",.ref fa),("statements",.ref st),("ways",.ref wy)])/\H dx=some (.own p)/\
  H nl=some (.lst (pr.bT.map fun b=>.str (S b.name)))/\H sd=some (.dK (pr.bT.map fun b=>(.inr (S b.name),.int b.size)))/\
  H fa=some (.tup [.int (PG.dv pr.body 0),.ref va])/\H va=some (.tup (pr.bT.map fun b=>.int b.first))/\
  us.length=(PG.bG pr.body).length/\H st=some (.dK (zl (PG.bG pr.body) us))/\a7 K H ((PG.bG pr.body).map G1) us/\
  ws.length=(PG.cQ pr.body 0).length/\H wy=some (.dK (zdK (fun r v=>(Sum.inl r.1,v)) (PG.cQ pr.body 0) ws))/\∀i (hi:i<(PG.cQ pr.body 0).length),∃q,ws[i]?=some (.ref q)/\dF K H q ((PG.cQ pr.body 0)[i].2.2.map V.int)
end L2
namespace L2
open PySem
def wkv (bg:List (Key×V)) (x:W):Int:=match eL bg (.inr (S x)) with
 |some (.int i)=>i
 |_=>0
theorem Oc.mono{K:zab}{C p:zdP}{H H':Hp}{pr:PG.Prog}(c:Oc K C H p pr)(s:ay H H'):Oc K C H' p pr:=by
 obtain⟨dx,nl,sd,fa,va,st,wy,us,ws,h1,h2,h3,h4,h5,h6,h7,h8,h9,VU,Yu,Yv⟩:=c.at_;exact⟨⟨dx,nl,sd,fa,va,st,wy,us,ws,s _ _ h1,s _ _ h2,s _ _ h3,s _ _ h4,s _ _ h5,s _ _ h6,h7,s _ _ h8,h9.mono s,VU,s _ _ Yu,fun i hi=>let ⟨q,e,r⟩:=Yv i hi;⟨q,e,s.gK r⟩⟩⟩
def VV (bs:List PG.ji) (vs:List V):List (Key×V):=zdK (fun b v=>(Sum.inr (S b.name),v)) bs vs
def Yw:PG.du->Option (W×PM.Tr×PM.Tr)
 |.jn _ sg l r=>some (sg,l,r)
 |.ifs _ sg l r _ _=>some (sg,l,r)
 |.oU _ sg l r _=>some (sg,l,r)
 |_=>none
def VW (sg:W) (a b:Int):Bool:=if sg=[60] then decide (a<b) else decide (a=b)
def wv (bs:List PG.ji) (vals:List Int) (e:PM.Tr):Int:=vE (wkv (VV bs (vals.map V.int))) e
def hJ (K:zab) (H:Hp) (sa:zdP) (row:Int) (vals:List Int):Prop:=∃va,dF K H sa [.int row,.ref va]/\dF K H va (vals.map V.int)
theorem hJ.mono{K:zab}{H H':Hp}{sa:zdP}{row:Int}{vals:List Int}(h:hJ K H sa row vals)(s:ay H H'):hJ K H' sa row vals:=by obtain⟨va,h1,h2⟩:=h;exact⟨va,s.gK h1,s.gK h2⟩
structure VX(pr:PG.Prog):Prop where
 pw:(PG.bG pr.body).Pairwise (fun a b=>a.row<b.row)
 nb:(pr.bT.map (·.name)).Nodup
 Gf:pr.bT.length<=10
 pos:∀s∈PG.bG pr.body,0<s.row
theorem Ba(b:List PG.du)(i:Nat)(hi:i<(PG.bG b).length):∃hf:i<(PG.cQ b 0).length,(PG.cQ b 0)[i].1=(PG.bG b)[i].row/\(PG.cQ b 0)[i].2.1=(PG.bG b)[i].wd:=by
 have e:((PG.cQ b 0).map fun r=>(r.1,r.2.1))=(PG.bG b).map fun x=>(x.row,x.wd):=by rw[PG.qm,PG.qp]
 have l:=congrArg zbs e;rw[zaj,zaj] at l;have hf:i<(PG.cQ b 0).length:=by lia
 refine⟨hf,?_⟩;have h1:((PG.cQ b 0).map fun r=>(r.1,r.2.1))[i]?=((PG.bG b).map fun x=>(x.row,x.wd))[i]?:=by rw[e]
 rw[zaE,zaE,zag hf,zag hi] at h1;have h1:=zaG.inj h1;exact⟨congrArg Prod.fst h1,congrArg Prod.snd h1⟩
def PN (K:zab) (H:Hp):Option (Int×List Int)->V->Prop
 |none,v=>v=.eB
 |some x,v=>∃a,v=.ref a/\hJ K H a x.1 x.2
def sP (bs:List PG.ji) (st:PG.du) (ws:List Int) (vals:List Int):Option (Int×List Int):=match Yw st with
 |none=>none
 |some (sg,l,r)=>if VW sg (wv bs vals l) (wv bs vals r) then some (ws.getD 0 0,vals) else if st.wd=.jn then none else some (ws.getD 1 0,vals)
open PyProof.Rows
def Ei (bs:List PG.ji) (x:W):Nat:=(bs.map (·.name)).idxOf x
def E4 (bs:List PG.ji) (vals:List Int) (x:W) (v:Int):List Int:=vals.set (Ei bs x) v
def oX (bs:List PG.ji) (x:W):Int:=((bs[Ei bs x]?).map (·.size)).getD 1
def da (bs:List PG.ji) (st:PG.du) (ws vals:List Int) (ZZ:Int):Option (Int×List Int)×Option Int:=match st with
 |.ask _ b=>(some (ws.getD 0 0,E4 bs vals b (ZZ%oX bs b)),none)
 |.put _ b e=>(some (ws.getD 0 0,E4 bs vals b (wv bs vals e%oX bs b)),none)
 |.say _ e=>(some (ws.getD 0 0,vals),some (wv bs vals e))
 |.stop _=>(some (ws.getD 0 0,vals),none)
 |st=>(sP bs st ws vals,none)
theorem G4{bs:List PG.ji}{x:W}(h:x∈bs.map (·.name)):∃hi:Ei bs x<bs.length,bs[Ei bs x].name=x:=by
 have l:Ei bs x<(bs.map (·.name)).length:=List.idxOf_lt_length_iff.mpr h;have e:(bs.map (·.name))[Ei bs x]=x:=List.getElem_idxOf l;rw[zaj] at l;rw[zc6] at e;exact⟨l,e⟩
theorem cn{H H':Hp}{b:zdP}(s:ay H H')(h:H' b=none):H b=none:=by
 cases z:H b with
 |none=>rfl
 |some o=>rw[s _ _ z] at h;cases h
theorem dF.ql{K:zab}{H H':Hp}{D a:zdP}{xs ys:List V}(h:dF K H a xs)(hD:H D=some (.lst ys))(u:bX D H H'):dF K H' a xs:=by
 rcases h with (q |⟨o,q⟩) |q
 ·exact .inl (.inl (u _ _ (dg q hD (by intro z;cases z)) q))
 ·exact .inl (.inr ⟨o,u _ _ (dg q hD (by intro z;cases z)) q⟩)
 ·exact .inr q
theorem PN.keep{K:zab}{H H':Hp}{o:Option (Int×List Int)}{v:V}(h:PN K H o v)(s:ay H H'):PN K H' o v:=by
 cases o with
 |none=>exact h
 |some x=>obtain⟨a,e,sa⟩:=h;exact⟨a,e,sa.mono s⟩
section
variable{K:zab}{H H':Hp}{p C dx a:zdP}{fs:List (Str×V)}{xs:List V}
theorem dF.ins(h:dF K H a xs)(hp:H p=some (.ins C dx fs))(u:bX p H H'):dF K H' a xs:=by
 rcases h with (q |⟨o,q⟩) |q
 ·exact .inl (.inl (u _ _ (dg q hp (by intro z;cases z)) q))
 ·exact .inl (.inr ⟨o,u _ _ (dg q hp (by intro z;cases z)) q⟩)
 ·exact .inr q
theorem gI.ins(h:gI K H a xs)(hp:H p=some (.ins C dx fs))(u:bX p H H'):gI K H' a xs:=by
 rcases h with (q |⟨o,q⟩) |q
 ·exact .inl (.inl (u _ _ (dg q hp (by intro z;cases z)) q))
 ·exact .inl (.inr ⟨o,u _ _ (dg q hp (by intro z;cases z)) q⟩)
 ·exact .inr q
theorem hJ.ins{row:Int}{vals:List Int}(h:hJ K H a row vals)(hp:H p=some (.ins C dx fs))(u:bX p H H'):hJ K H' a row vals:=by obtain⟨va,h1,h2⟩:=h;exact⟨va,h1.ins hp u,h2.ins hp u⟩
theorem Oc.ins{CC ch:zdP}{pr:PG.Prog}(c:Oc K CC H ch pr)(hp:H p=some (.ins C dx fs))(n:ch≠p)(u:bX p H H'):Oc K CC H' ch pr:=by
 obtain⟨dx,nl,sd,fa,va,st,wy,us,ws,h1,h2,h3,h4,h5,h6,h7,h8,h9,VU,Yu,Yv⟩:=c.at_;have k:∀ {b:zdP} {o:HO},H b=some o->(∀C dx fs,o≠.ins C dx fs)->H' b=some o:=fun e no=>u _ _ (dg e hp (no _ _ _)) e;exact⟨⟨dx,nl,sd,fa,va,st,wy,us,ws,u _ _ n h1,k h2 (by intro _ _ _ z;cases z),k h3 (by intro _ _ _ z;cases z),k h4 (by intro _ _ _ z;cases z),k h5 (by intro _ _ _ z;cases z),k h6 (by intro _ _ _ z;cases z),h7,k h8 (by intro _ _ _ z;cases z),wX hp (bK.one u rfl) _ _ h9,VU,k Yu (by intro _ _ _ z;cases z),fun i hi=>let ⟨q,e,r⟩:=Yv i hi;⟨q,e,r.ins hp u⟩⟩⟩
end
def Yx:PG.nB->List V
 |.on=>[.str "on"]
 |.out=>[.str "out"]
 |.jn r=>[.str "must",.int r]
 |.fin=>[.str "end"]
def Bb (K:zab) (H:Hp):Option PG.nB->V->Prop
 |none,v=>v=.eB
 |some e,v=>∃a,v=.ref a/\dF K H a (Yx e)
theorem Bb.mono{K:zab}{H H':Hp}{e:Option PG.nB}{v:V}(h:Bb K H e v)(s:ay H H'):Bb K H' e v:=by
 cases e with
 |none=>exact h
 |some x=>obtain⟨a,e,q⟩:=h;exact⟨a,e,s.gK q⟩
theorem Bb.ins{K:zab}{H H':Hp}{p C dx:zdP}{fs:List (Str×V)}{e:Option PG.nB}{v:V}(h:Bb K H e v)(hp:H p=some (.ins C dx fs))(u:bX p H H'):Bb K H' e v:=by
 cases e with
 |none=>exact h
 |some x=>obtain⟨a,e,q⟩:=h;exact⟨a,e,q.ins hp u⟩
def Z1 (ch fl:zdP) (n:Nat) (sa:zdP) (ev:V):List (Str×V):=[("chart",.ref ch),("figures",.ref fl),("taken",.int n),("standing",.ref sa),("end",ev)]
structure Od(K:zab)(CC CW:zdP)(H:Hp)(wk ch fl:zdP)(pr:PG.Prog)(j3:List Int)(n:Nat)(row:Int)(vals:List Int)(e:Option PG.nB):Prop where
 at_:∃(dx sa:zdP) (ev:V),H wk=some (.ins CW dx (Z1 ch fl n sa ev))/\hJ K H sa row vals/\Bb K H e ev
 ch_:Oc K CC H ch pr
 fl_:gI K H fl (j3.map V.int)
 Yy:ch≠wk
theorem Od.mono{K:zab}{CC CW:zdP}{H H':Hp}{wk ch fl:zdP}{pr:PG.Prog}{j3:List Int}{n:Nat}{row:Int}{vals:List Int}{e:Option PG.nB}(h:Od K CC CW H wk ch fl pr j3 n row vals e)(s:ay H H'):Od K CC CW H' wk ch fl pr j3 n row vals e:=
 let ⟨dx,sa,ev,h1,h2,h3⟩:=h.at_
 ⟨⟨dx,sa,ev,s _ _ h1,h2.mono s,h3.mono s⟩,h.ch_.mono s,s.seq h.fl_,h.Yy⟩
theorem Od.put{K:zab}{CC CW:zdP}{H:Hp}{wk ch fl dx sa Z2:zdP}{pr:PG.Prog}{j3:List Int}{n n':Nat}{row Yz:Int}{vals Ue:List Int}{e e':Option PG.nB}{ev Z3:V}(h:Od K CC CW H wk ch fl pr j3 n row vals e)(hw:H wk=some (.ins CW dx (Z1 ch fl n sa ev)))
 (hs:hJ K H Z2 Yz Ue) (he:Bb K H e' Z3):Od K CC CW (upd H wk (.ins CW dx (Z1 ch fl n' Z2 Z3))) wk ch fl pr j3 n' Yz Ue e':=by
 have u:bX wk H (upd H wk (.ins CW dx (Z1 ch fl n' Z2 Z3))):=(bX.refl _ _).put _;exact⟨⟨dx,Z2,Z3,aj,hs.ins hw u,he.ins hw u⟩,h.ch_.ins hw h.Yy u,h.fl_.ins hw u,h.Yy⟩
theorem Od.lst{K:zab}{CC CW:zdP}{H H':Hp}{wk ch fl rl:zdP}{pr:PG.Prog}{j3:List Int}{n:Nat}{row:Int}{vals:List Int}{e:Option PG.nB}{xs:List V}(h:Od K CC CW H wk ch fl pr j3 n row vals e)(hr:H rl=some (.lst xs))(u:bX rl H H')(c:Oc K CC H' ch pr)(f:gI K H' fl (j3.map V.int)):Od K CC CW H' wk ch fl pr j3 n row vals e:=by
 obtain⟨dx,sa,ev,h1,⟨va,h2,h3⟩,h4⟩:=h.at_;refine⟨⟨dx,sa,ev,u _ _ (dg h1 hr (by intro z;cases z)) h1,⟨va,h2.ql hr u,h3.ql hr u⟩,?_⟩,c,f,h.Yy⟩;cases e with
 |none=>exact h4
 |some x=>obtain⟨a,e,q⟩:=h4;exact⟨a,e,q.ql hr u⟩
def rY (b:List PG.du) (row:Int):PG.du:=((PG.bG b)[PG.SD b row]?).getD (.stop 0)
def VY (b:List PG.du) (row:Int):List Int:=(((PG.cQ b 0)[PG.SD b row]?).map (·.2.2)).getD []
def abn (b:List PG.du) (row:Int):Bool:=decide ((rY b row).wd=.ask)
def Ly (pr:PG.Prog) (row:Int) (vals:List Int) (f:Int):Option (Int×List Int)×Option Int:=da pr.bT (rY pr.body row) (VY pr.body row) vals f
theorem SG{b:List PG.du}(pw:(PG.bG b).Pairwise (fun a b=>a.row<b.row))(i:Nat)(hi:i<(PG.bG b).length):rY b (PG.bG b)[i].row=(PG.bG b)[i]:=by
 unfold rY;rw[PG.Lu pw i hi,zag hi];rfl
theorem SH{b:List PG.du}(pw:(PG.bG b).Pairwise (fun a b=>a.row<b.row))(i:Nat)(hi:i<(PG.bG b).length)(hf:i<(PG.cQ b 0).length):VY b (PG.bG b)[i].row=(PG.cQ b 0)[i].2.2:=by
 unfold VY;rw[PG.Lu pw i hi,zag hf];rfl
structure G5(pr:PG.Prog)(row:Int)(vals:List Int):Prop where
 row:row=0\/∃i,∃hi:i<(PG.bG pr.body).length,(PG.bG pr.body)[i].row=row
 len:vals.length=pr.bT.length
 small:∀v∈vals,v.natAbs<=2 ^ 12
structure E5(pr:PG.Prog):Prop where
 ok:VX pr
 dep:PG.xV pr.body<=3
 Gf:(PG.wW pr.body).length<=1000
 own:PG.Uc (·∈pr.bT.map (·.name)) (fun e=>PG.G0 pr.bT e/\PG.A8 e<=2) (·∈PG.Xe) pr.body
 size:∀b∈pr.bT,2<=b.size/\b.size<=10/\0<=b.first/\b.first<b.size
theorem Lz{pr:PG.Prog}{w:Int}(h:w=0\/w=0\/∃t∈PG.bG pr.body,t.row=w):w=0\/∃i,∃hi:i<(PG.bG pr.body).length,(PG.bG pr.body)[i].row=w:=by
 rcases h with h |h |⟨t,ht,e⟩
 ·exact .inl h
 ·exact .inl h
 ·obtain⟨i,hi,e2⟩:=zcp.mp ht;exact .inr ⟨i,hi,by rw[e2];exact e⟩
theorem E5.first{pr:PG.Prog}(d:E5 pr):G5 pr (PG.dv pr.body 0) (pr.bT.map (·.first)):=by
 refine⟨Lz (.inr ?_),by simp,fun v hv=>?_⟩
 ·rcases PG.nv pr.body 0 with e |e
  ·exact .inl e
  ·exact .inr e
 ·obtain⟨b,hb,rfl⟩:=zaI.mp hv;have:=d.size b hb;lia
theorem G6{pr:PG.Prog}(d:E5 pr){x:W}(h:x∈pr.bT.map (·.name)):2<=oX pr.bT x/\oX pr.bT x<=10:=by
 obtain⟨hx,_⟩:=G4 h;unfold oX;rw[zag hx];have:=d.size _ (zaK hx);exact⟨this.1,this.2.1⟩
theorem G5.step{pr:PG.Prog}(d:E5 pr){i:Nat}(hi:i<(PG.bG pr.body).length)(hf:i<(PG.cQ pr.body 0).length){vals:List Int}{f:Int}(lv:vals.length=pr.bT.length)(sm:∀v∈vals,v.natAbs<=2 ^ 12){x:Int×List Int}{s:Option Int}
 (h:da pr.bT (PG.bG pr.body)[i] (PG.cQ pr.body 0)[i].2.2 vals f=(some x,s)):G5 pr x.1 x.2:=by
 have PQ:=PG.uC pr.body _ d.own (zaK hi);obtain⟨w0,w1⟩:=PG.qr pr.body 0 _ (zaK hf);have win:=PG.sN pr.body 0 _ (zaK hf);obtain⟨_,_,ew⟩:=Ba pr.body i hi;rw[ew] at w1;generalize (PG.cQ pr.body 0)[i].2.2=ws at *;generalize (PG.bG pr.body)[i]=st at *;have r0:∀j,j<ws.length->ws.getD j 0=0\/∃i,∃hi:i<(PG.bG pr.body).length,(PG.bG pr.body)[i].row=ws.getD j 0:=fun j hj=>by
  rw[zaz,zag hj];exact Lz (win _ (zaK hj))
 have set:∀(b:W) (z:Int),b∈pr.bT.map (·.name)->(E4 pr.bT vals b (z%oX pr.bT b)).length=pr.bT.length/\∀v∈E4 pr.bT vals b (z%oX pr.bT b),v.natAbs<=2 ^ 12:=fun b z hb=>by
  unfold E4;refine⟨by rw[zbi];exact lv,fun v hv=>?_⟩;rcases zbT hv with hv |rfl
  ·exact sm v hv
  ·have:=G6 d hb;have m1:=zaY z (b:=oX pr.bT b) (by lia);have m2:=zaT z (b:=oX pr.bT b) (by lia);lia
 have cs:sP pr.bT st ws vals=some x->(st.wd=.jn\/st.wd=.ifs\/st.wd=.oU)->G5 pr x.1 x.2:=by
  intro e hw;unfold sP at e;split at e
  ·cases e
  ·split at e
   ·cases e;exact⟨r0 0 w0,lv,sm⟩
   ·split at e
    ·cases e
    ·rename_i nm;cases e;exact⟨r0 1 (w1 (hw.resolve_left nm)),lv,sm⟩
 have YA:∀(y:Int×List Int) (s':Option Int),(some y,s')=(some x,s)->G5 pr y.1 y.2->G5 pr x.1 x.2:=fun y s' e h=>by cases e;exact h
 cases st<;>rw[PG.Sz] at PQ
 ·exact YA _ _ h ⟨r0 0 w0,(set _ _ PQ).1,(set _ _ PQ).2⟩
 ·exact YA _ _ h ⟨r0 0 w0,(set _ _ PQ.1).1,(set _ _ PQ.1).2⟩
 ·exact YA _ _ h ⟨r0 0 w0,lv,sm⟩
 ·exact cs (congrArg Prod.fst h) (.inl rfl)
 ·exact YA _ _ h ⟨r0 0 w0,lv,sm⟩
 ·exact cs (congrArg Prod.fst h) (.inr (.inl rfl))
 ·exact cs (congrArg Prod.fst h) (.inr (.inr rfl))
section
variable(K:zab)(CC CW:zdP)
def PR (H:Hp) (q:zdP) (o:PG.Ran):Prop:=∃(r s e:zdP),dF K H q [.ref r,.ref s,.ref e]/\H r=some (.lst (o.rows.map V.int))/\H s=some (.lst (o.abk.map V.int))/\r≠s/\dF K H e (Yx o.fin)
end
theorem hJ.ql{K:zab}{H H':Hp}{D a:zdP}{ys:List V}{row:Int}{vals:List Int}(h:hJ K H a row vals)(hD:H D=some (.lst ys))(u:bX D H H'):hJ K H' a row vals:=by obtain⟨va,h1,h2⟩:=h;exact⟨va,h1.ql hD u,h2.ql hD u⟩
theorem PR.mono{K:zab}{H H':Hp}{q:zdP}{o:PG.Ran}(h:PR K H q o)(s:ay H H'):PR K H' q o:=by obtain⟨r,t,e,h1,h2,h3,h4,h5⟩:=h;exact⟨r,t,e,s.gK h1,s _ _ h2,s _ _ h3,h4,s.gK h5⟩
section
variable{sa sb sc:Int}{a b c g:Int}{l:List Int}
def eP (sa:Nat):List Int:=[6,7]++(zax sa [8,9]).flatten++[8,11]
end
section
variable{K:zab}{H H1:Hp}{p:zdP}{vs:List V}{ds:List Dp}
theorem gT(e:upd H p (.tup vs)=H1)(hp:H p=none):ay H H1:=e▸ay.new hp _
theorem gL(e:upd H p (.lst vs)=H1)(hp:H p=none):ay H H1:=e▸ay.new hp _
theorem YB(e:upd H p (.tup vs)=H1)(hp:H p=none)(hr:a7 K H ds vs):Rep K H1 (.tup ds) (.ref p):=e▸Rep.new hp hr
theorem Gi(e:upd H p (.lst vs)=H1):H1 p=some (.lst vs):=e▸aj
theorem gTa(e:upd H p (.tup vs)=H1):H1 p=some (.tup vs):=e▸aj
end
theorem rS{K:zab}{H:Hp}{x:Str}:Rep K H (.str x) (.str x):=Rep.a8.mpr rfl
theorem rI_{K:zab}{H:Hp}{x:Int}:Rep K H (.int x) (.int x):=Rep.cN.mpr rfl
section
variable{prog:zd1}{w:zdR}
def VZ (prog:zd1) (w:zdR) (h:Heap) (x:Key×List Key) (a:zdP):Prop:=∃(o:Obj) (n:Nat) (u:zdQ) (b:zdP),h.get? a=some o/\o.cls=.type "tuple"/\o.data=.seq #[u,.ref b] n/\Ak x.1 u=true/\IsTupleKey (fM prog w) h x.2 b
theorem VZ.one{h:Heap}{a:zdP}{x y:Key×List Key}(hx:VZ prog w h x a)(hy:VZ prog w h y a):x=y:=by
 obtain⟨o,n,u,b,e,_,d,i,t⟩:=hx;obtain⟨o',n',u',b',e',_,d',i',t'⟩:=hy;rw[e] at e';cases e';rw[d] at d'
 injection d' with d1 _
 have d1:=congrArg Array.toList d1;simp only[zcM.injEq,Value.ref.injEq,and_true] at d1;obtain⟨rfl,rfl⟩:=d1;exact Prod.ext ((fM prog w).inj _ _ _ i i') (t.inj t')
variable{A:zd0}{E:zdQ->zdZ->Prop}{s:zdZ}
end
def tN (b:Bool):Int:=if b then 1 else 0
theorem V0{a b:Bool}:(tN a==tN b)=(a==b):=by cases a<;>cases b<;>rfl
structure KH(κ:Type)[DecidableEq κ] where
 knd:∀(P:zd1) (w:zdR),HeapKind P w κ
 on:zab->Hp->κ->zdP->Prop
 up:∀ {K:zab} {H H':Hp} {x:κ} {a:zdP},(∀b ys,dF K H b ys->dF K H' b ys)->on K H x a->on K H' x a
 of:∀ {X:Cx} {pins:List (zdP×Obj)} {σ:St} {H:Hp} {s:zdZ} {x:κ} {a:zdP},Inv X pins σ H s->on X.K H x a->(knd X.prog X.w).is s.heap x a
 room:∀ {P:zd1} {w:zdR} {A:zd0},A.units+16<cLine->(knd P w).room A.in1
section
variable{κ:Type}[DecidableEq κ](J:KH κ)
def Ug (P:zd1) (w:zdR) (a:zdP) (xs:List (κ×zdP×zdQ)):Heap->Prop:=fun h=>∃o es ep,h.get? a=some o/\o.ExactDict/\o.data=.dict es ep/\es.toList=xs.map (entryOfKey (J.knd P w))
abbrev KS (K:zab) (H:Hp):List (κ×V)->List (κ×zdP×zdQ)->Prop:=Paired fun p q=>p.1=q.1/\J.on K H p.1 q.2.1/\RelV p.2 q.2.2
structure DS(P:zd1)(w:zdR)(K:zab)(H:Hp)(a:zdP)(bg:List (κ×V)):Prop where
 len:bg.length<=zdX
 sys:(a==sysModules)=false
 at_:∃xs,H a=some (.ext (Ug J P w a xs))/\KS J K H bg xs/\(xs.map (·.1)).Nodup
variable{J}
section
variable{K:zab}{H H':Hp}{bg:List (κ×V)}{xs:List (κ×zdP×zdQ)}
theorem KS.val(r:KS J K H bg xs)(k:κ):r6 (eL bg k) ((atKey xs k).map (·.2)):=by
 induction r with
 |nil=>exact True.intro
 |@cons p q ps qs h t ih=>
  by_cases e:p.1=k
  ·rw[d7 e,show atKey (q::qs) k=some q.2 by simp[atKey,h.1.symm.trans e]];exact h.2.2
  ·have e':¬q.1=k:=fun z=>e (h.1.trans z);rw[d9 e,show atKey (q::qs) k=atKey qs k by simp[atKey,e']];exact ih
theorem KS.put(r:KS J K H bg xs)(k:κ){b:zdP}{y:V}{u:zdQ}(hb:J.on K H k b)(ry:RelV y u):KS J K H (putK bg k y) (storedH xs k b u):=by
 have e:(bg.any fun kv=>decide (kv.1=k))=(atKey xs k).isSome:=by rw[qh,(r.val k).D8,Option.isSome_map]
 unfold putK storedH;rw[e];by_cases q:(atKey xs k).isSome=true
 ·rw[if_pos q,if_pos q];clear e q
  induction r with
  |nil=>exact .nil
  |@cons p q ps qs h t ih=>
   refine .cons ?_ ih;dsimp only;unfold putAt;by_cases e:p.1=k
   ·rw[if_pos e];rw[if_pos (h.1.symm.trans e)];exact⟨h.1,h.2.1,ry⟩
   ·rw[if_neg e];rw[if_neg fun z=>e (h.1.trans z)];exact h
 ·rw[if_neg q,if_neg q];exact Paired.snoc r ⟨rfl,hb,ry⟩
theorem KS.up(r:KS J K H bg xs)(t:∀b ys,dF K H b ys->dF K H' b ys):KS J K H' bg xs:=Paired.Gm r fun _ _ z=>⟨z.1,J.up t z.2.1,z.2.2⟩
end
section
variable{X:Cx}{pins:List (zdP×Obj)}{σ:St}{H:Hp}{s:zdZ}{a b:zdP}{v:V}{u r:zdQ}{A:zd0}{E:zdQ->zdZ->Prop}{bg:List (κ×V)}{k:κ}
theorem dF.ext{K:zab}{H:Hp}{a c:zdP}{φ:Heap->Prop}{o:HO}{ys:List V}(h:dF K H c ys)(e:H a=some (.ext φ)):dF K (upd H a o) c ys:=by
 rcases h with (q |⟨o',q⟩) |q
 ·exact .inl (.inl (by rw[aq (dg q e (by intro z;cases z))];exact q))
 ·exact .inl (.inr ⟨o',by rw[aq (dg q e (by intro z;cases z))];exact q⟩)
 ·exact .inr q
end
theorem DS.via{P:zd1}{w:zdR}{K:zab}{H H':Hp}{a:zdP}{bg:List (κ×V)}(d:DS J P w K H a bg)(e:∀o,H a=some o->H' a=some o)(t:∀b ys,dF K H b ys->dF K H' b ys):DS J P w K H' a bg:=⟨d.len,d.sys,let ⟨xs,h,r,nd⟩:=d.at_;⟨xs,e _ h,r.up t,nd⟩⟩
theorem DS.mono{P:zd1}{w:zdR}{K:zab}{H H':Hp}{a:zdP}{bg:List (κ×V)}(d:DS J P w K H a bg)(s:ay H H'):DS J P w K H' a bg:=d.via (fun o h=>s _ _ h) fun b ys q=>s.gK q
section
variable{X:Cx}{o i value:Expr}{pos pos':Pos}{td ty tv:TE}
def PU (J:KH κ) (P:zd1) (w:zdR):TE:=fun _ H Q=>∀p,H p=none->(p==sysModules)=false->Q (.ref p) (upd H p (.ext (Ug J P w p [])))
def PV (J:KH κ) (P:zd1) (w:zdR) (K:zab) (td ty tv:TE):TS:=fun D σ H=>tv σ H fun v H1=>td σ H1 fun x H2=>ty σ H2 fun y H3=>∃(a b:zdP) (bg:List (κ×V)) (k:κ),x=.ref a/\y=.ref b/\DS J P w K H3 a bg/\J.on K H3 k b/\bg.length<zdX/\
 ∀H4,DS J P w K H4 a (putK bg k v)->(∃φ,H4=upd H3 a (.ext φ))->D.nx σ H4
def PX (J:KH κ) (P:zd1) (w:zdR) (K:zab) (td ty:TE):TE:=fun σ H Q=>td σ H fun x H1=>ty σ H1 fun y H2=>∃(a b:zdP) (bg:List (κ×V)) (k:κ) (v:V),x=.ref a/\y=.ref b/\DS J P w K H2 a bg/\J.on K H2 k b/\eL bg k=some v/\Q v H2
end
end
abbrev JN:=Key×List Key
def G7 (h:Heap) (d:zdP) (es:Array DictEntry) (ep:Nat):Prop:=∃o,h.get? d=some o/\o.ExactDict/\o.data=.dict es ep
section
variable{prog:zd1}{w:zdR}{A:zd0}{E:zdQ->zdZ->Prop}{s:zdZ}{d it:zdP}{es:Array DictEntry}{ep i:Nat}
theorem G7.via{h h':Heap}(x:G7 h d es ep)(e:∀o,h.get? d=some o->h'.get? d=some o):G7 h' d es ep:=by obtain⟨o,g,r⟩:=x;exact⟨o,e _ g,r⟩
theorem G7.lt{h:Heap}(x:G7 h d es ep):d<h.objs.size:=by obtain⟨_,g,_⟩:=x;exact Heap.lt_size g
end
end L2
namespace PG
section
variable{β:Type}(ask:Int->Bool)(step:Int->List Int->Int->Option (Int×List Int)×Option Int)(tg:Int×List Int->List β)
abbrev eG:=Int×List Int
def CY (x:eG×List Int):Option (eG×List Int):=if x.1.1=0 then none else match take1 (ask x.1.1) x.2 with
 |none=>none
 |some (f,r)=>(step x.1.1 x.1.2 f).1.map fun y=>(y,r)
inductive Met:eG×List Int->β->Prop
 |here {s t}:t∈tg s.1->Met s t
 |on {s s' t}:CY ask step s=some s'->Met s' t->Met s t
variable{ask step tg}
theorem xW{s:eG}{l:List Int}(h0:s.1≠0)(ha:ask s.1=false):CY ask step (s,l)=(step s.1 s.2 0).1.map fun y=>(y,l):=by
 unfold CY;rw[if_neg h0];simp only[take1,ha,zbB,if_false]
theorem SI{s:eG}{f:Int}{l:List Int}(h0:s.1≠0)(ha:ask s.1=true):CY ask step (s,f::l)=(step s.1 s.2 f).1.map fun y=>(y,l):=by
 unfold CY;rw[if_neg h0];simp only[take1,ha,if_true]
theorem PY{s:eG}{l:List Int}(h0:s.1=0):CY ask step (s,l)=none:=by
 unfold CY;rw[if_pos h0]
structure MI(ask:Int->Bool)(step:Int->List Int->Int->Option (Int×List Int)×Option Int)(tg:Int×List Int->List β)(s0:eG×List Int)(ms:List β)(seen:List eG)(s:eG×List Int):Prop where
 a:∀t,Met ask step tg s0 t->t∈ms\/Met ask step tg s t
 b:∀t∈ms,Met ask step tg s0 t
 c:∀t,Met ask step tg s t->Met ask step tg s0 t
 d:∀x∈seen,(∀t∈tg x,t∈ms)/\x.1≠0/\ask x.1=false/\∀y,(step x.1 x.2 0).1=some y->y∈seen\/y=s.1
variable{s0 s s':eG×List Int}{ms V6:List β}{seen:List eG}
theorem SJ(h:CY ask step s=none){t:β}(m:Met ask step tg s t):t∈tg s.1:=by
 cases m with
 |here m=>exact m
 |on e _=>rw[h] at e;cases e
theorem MI.fin(h:MI ask step tg s0 ms seen s)(hm:∀t,t∈V6↔t∈ms\/t∈tg s.1)(he:CY ask step s=none\/s.1∈seen)(t:β):t∈V6↔Met ask step tg s0 t:=by
 rw[hm];refine⟨fun z=>z.elim (h.b t) fun z=>h.c t (.here z),fun z=>?_⟩;rcases h.a t z with z |z
 ·exact .inl z
 rcases he with he |he
 ·exact .inr (SJ he z)
 ·have key:∀s' t,Met ask step tg s' t->s'.1∈seen->t∈ms:=by
   intro s' t m
   induction m with
   |here m=>exact fun q=>(h.d _ q).1 _ m
   |@on a b t e _ ih=>
    intro q;obtain⟨_,h0,ha,hs⟩:=h.d _ q;obtain⟨a1,a2⟩:=a;rw[xW h0 ha] at e;obtain⟨y,hy,rfl⟩:=zbd.mp e;rcases hs y hy with q2 |rfl
    ·exact ih q2
    ·exact ih he
  exact .inl (key _ _ z he)
theorem MI.next(h:MI ask step tg s0 ms seen s)(hm:∀t,t∈V6↔t∈ms\/t∈tg s.1)(hn:CY ask step s=some s'\/CY ask step s=none/\s'=s) :
 (∀t,Met ask step tg s0 t->t∈V6\/Met ask step tg s' t)/\(∀t∈V6,Met ask step tg s0 t)/\∀t,Met ask step tg s' t->Met ask step tg s0 t:=by
 refine⟨fun t m=>?_,fun t m=>?_,fun t m=>?_⟩
 ·rw[hm];rcases h.a t m with z |z
  ·exact .inl (.inl z)
  ·rcases hn with hn |⟨hn,rfl⟩
   ·cases z with
    |here z=>exact .inl (.inr z)
    |on e z=>rw[hn] at e;cases e;exact .inr z
   ·exact .inr z
 ·rcases(hm t).mp m with z |z
  ·exact h.b t z
  ·exact h.c t (.here z)
 ·rcases hn with hn |⟨hn,rfl⟩
  ·exact h.c t (.on hn m)
  ·exact h.c t m
structure Seg(ask:Int->Bool)(step:Int->List Int->Int->Option (Int×List Int)×Option Int)(s:eG)(g:List eG):Prop where
 head:g[0]?=some s
 mid:∀i (h:i+1<g.length),g[i].1≠0/\ask g[i].1=false/\(step g[i].1 g[i].2 0).1=some g[i+1]
 last:∀x,g.getLast?=some x->x.1=0\/ask x.1=true\/(step x.1 x.2 0).1=none\/∃y∈g,(step x.1 x.2 0).1=some y
section
variable{s:eG}{g:List eG}{l:List Int}
theorem Seg.nx(h:Seg ask step s g)(i:Nat)(hi:i+1<g.length):CY ask step (g[i],l)=some (g[i+1],l):=by
 obtain⟨h0,ha,e⟩:=h.mid i hi;rw[xW h0 ha,e];rfl
theorem Seg.up(h:Seg ask step s g):∀(i:Nat) (hi:i<g.length) (t:β),Met ask step tg (g[i],l) t->Met ask step tg (s,l) t
 |0,hi,t,m=>by
  have:=h.head;rw[zag hi] at this;cases this;exact m
 |i+1,hi,t,m=>h.up i (by lia) t (.on (h.nx i hi) m)
theorem Seg.met(h:Seg ask step s g){x:eG}(hx:x∈g){t:β}(ht:t∈tg x):Met ask step tg (s,l) t:=by
 obtain⟨i,hi,rfl⟩:=zcp.mp hx;exact h.up i hi t (.here ht)
theorem Seg.Ae{x:eG}(hx:g.getLast?=some x):∃hi:g.length-1<g.length,g[g.length-1]=x:=by
 rw[zbf] at hx;exact zar.mp hx
theorem Seg.all(h:Seg ask step s g){t:β}(m:Met ask step tg (s,l) t):(∃x∈g,t∈tg x)\/∃x s',g.getLast?=some x/\x.1≠0/\ask x.1=true/\CY ask step (x,l)=some s'/\Met ask step tg s' t:=by
 have key:∀s' t,Met ask step tg s' t->s'.2=l->s'.1∈g->(∃x∈g,t∈tg x)\/∃x s',g.getLast?=some x/\x.1≠0/\ask x.1=true/\CY ask step (x,l)=some s'/\Met ask step tg s' t:=by
  intro s' t m
  induction m with
  |here m=>exact fun _ q=>.inl ⟨_,q,m⟩
  |@on a b t e mm ih=>
   intro el q;obtain⟨a1,a2⟩:=a;simp only at el q;subst el;obtain⟨i,hi,rfl⟩:=zcp.mp q;by_cases hl:i+1<g.length
   ·rw[h.nx i hl] at e;cases e;exact ih rfl (zaK hl)
   ·have ei:g.length-1=i:=by lia
    have hx:g.getLast?=some g[i]:=by rw[zbf,ei,zag hi]
    by_cases h0:g[i].1=0
    ·rw[PY h0] at e;cases e
    cases ha:ask g[i].1 with
    |true=>exact .inr ⟨_,_,hx,h0,ha,e,mm⟩
    |false=>
     rw[xW h0 ha] at e;rcases h.last _ hx with z |z |z |⟨y,hy,z⟩
     ·exact absurd z h0
     ·rw[ha] at z;cases z
     ·rw[z] at e;cases e
     ·rw[z] at e;cases e;exact ih rfl hy
 refine key _ _ m rfl ?_;exact List.mem_iff_getElem?.mpr ⟨0,h.head⟩
end
structure LI(ask:Int->Bool)(step:Int->List Int->Int->Option (Int×List Int)×Option Int)(tg:Int×List Int->List β)(s0:eG×List Int)(ms:List β)(o:Option eG)(l:List Int):Prop where
 a:∀t,Met ask step tg s0 t->t∈ms\/∃s,o=some s/\Met ask step tg (s,l) t
 b:∀t∈ms,Met ask step tg s0 t
 c:∀s t,o=some s->Met ask step tg (s,l) t->Met ask step tg s0 t
theorem LI.fin{l:List Int}(h:LI ask step tg s0 ms none l)(t:β):t∈ms↔Met ask step tg s0 t:=⟨h.b t,fun z=>(h.a t z).elim (fun z=>z) fun ⟨_,e,_⟩=>by cases e⟩
section
variable{s x y:eG}{g:List eG}{l r:List Int}{f:Int}
theorem LI.on(h:LI ask step tg s0 ms (some s) l)(q:Seg ask step s g)(hm:∀t,t∈V6↔t∈ms\/∃x∈g,t∈tg x)(hx:g.getLast?=some x)(h0:x.1≠0)(ha:ask x.1=true)(hl:l=f::r)(hy:(step x.1 x.2 f).1=some y):LI ask step tg s0 V6 (some y) r:=by
 subst hl;have e:CY ask step (x,f::r)=some (y,r):=by rw[SI h0 ha,hy];rfl
 refine⟨fun t m=>?_,fun t m=>?_,fun s' t e' m=>?_⟩
 ·rw[hm];rcases h.a t m with z |⟨_,z,m⟩
  ·exact .inl (.inl z)
  ·cases z;rcases q.all m with z |⟨x',s',hx',_,_,e',m'⟩
   ·exact .inl (.inr z)
   ·rw[hx] at hx';cases hx';rw[e] at e';cases e';exact .inr ⟨y,rfl,m'⟩
 ·rcases(hm t).mp m with z |⟨x,hx,ht⟩
  ·exact h.b t z
  ·exact h.c _ t rfl (q.met hx ht)
 ·cases e';obtain⟨hi,e1⟩:=Seg.Ae hx;exact h.c _ t rfl (q.up _ hi t (by rw[e1];exact .on e m))
end
structure TI(ask:Int->Bool)(step:Int->List Int->Int->Option (Int×List Int)×Option Int)(s:eG)(g:List eG)(o:Option eG):Prop where
 nil:g=[]->o=some s
 head:g≠[]->g[0]?=some s
 mid:∀i (h:i+1<g.length),g[i].1≠0/\ask g[i].1=false/\(step g[i].1 g[i].2 0).1=some g[i+1]
 last:∀x,g.getLast?=some x->x.1≠0/\ask x.1=false/\(step x.1 x.2 0).1=o
section
variable{s x:eG}{g:List eG}{o:Option eG}
theorem TI.YC(h:TI ask step s g (some x)):(g++[x])[0]?=some s/\∀i (hi:i+1<(g++[x]).length),(g++[x])[i].1≠0/\ask (g++[x])[i].1=false/\(step (g++[x])[i].1 (g++[x])[i].2 0).1=some (g++[x])[i+1]:=by
 refine⟨?_,fun i hi=>?_⟩
 ·cases g with
  |nil=>exact h.nil rfl
  |cons a r=>exact h.head (by simp)
 ·simp only[zae,zaw] at hi;have l1:i<g.length:=by lia
  rw[zb8 l1];by_cases hl:i+1<g.length
  ·rw[zb8 hl];exact h.mid i hl
  ·have ei:g.length-1=i:=by lia
   have hx:g.getLast?=some g[i]:=by rw[zbf,ei,zag l1]
   obtain⟨a,b,c⟩:=h.last _ hx;refine⟨a,b,?_⟩;rw[c,zcZ (by lia)];simp
theorem TI.push(h:TI ask step s g (some x))(h0:x.1≠0)(ha:ask x.1=false):TI ask step s (g++[x]) (step x.1 x.2 0).1:=
 ⟨fun e=>(by simp at e),fun _=>h.YC.1,h.YC.2,fun y hy=>by simp only[zds,List.getLast?_singleton,Option.some_or,zaG.injEq] at hy;subst hy;exact⟨h0,ha,rfl⟩⟩
theorem TI.fin(h:TI ask step s g o)(ho:o=zdN\/∃x∈g,o=some x):Seg ask step s g:=by
 have ne:g≠[]:=fun e=>by
  have:=h.nil e;subst e;rcases ho with rfl |⟨x,hx,_⟩
  ·cases this
  ·cases hx
 refine⟨h.head ne,h.mid,fun y hy=>.inr (.inr ?_)⟩;obtain⟨_,_,c⟩:=h.last y hy;rcases ho with rfl |⟨x,hx,rfl⟩
 ·exact .inl c
 ·exact .inr ⟨x,hx,c⟩
end
end
theorem xX{α:Type}[DecidableEq α]:∀(xs ys:List α),xs.Nodup->(∀x∈xs,x∈ys)->xs.length<=ys.length
 |[],ys,_,_=>zaU _
 |x::r,ys,h,q=>by
  obtain⟨nx,nr⟩:=zbh.mp h;have hx:=q x (zap ..);have:=xX r (ys.erase x) nr fun y hy=>(List.mem_erase_of_ne (fun e:y=x=>nx (e▸hy))).mpr (q y (zak _ hy));have l:=List.length_erase_of_mem hx;have p:=List.length_pos_of_mem hx;simp only[zaf];lia
def vI:List Int->List Int->Prop
 |[],[]=>True
 |s::r,v::t=>(0<=v/\v<s)/\vI r t
 |[],_::_=>False
 |_::_,[]=>False
theorem vI.len:∀ {ss vs:List Int},vI ss vs->vs.length=ss.length
 |[],[],_=>rfl
 |s::r,v::t,h=>by
  rw[vI] at h;simp[h.2.len]
 |[],v::t,h=>by rw[vI] at h;exact h.elim
 |s::r,[],h=>by rw[vI] at h;exact h.elim
theorem vI.set:∀ {ss vs:List Int} (i:Nat) (v:Int),vI ss vs->(∀s,ss[i]?=some s->0<=v/\v<s)->vI ss (vs.set i v)
 |[],[],i,v,h,_=>h
 |s::r,u::t,0,v,h,q=>by
  rw[vI] at h;rw[List.set_cons_zero,vI];exact⟨q s rfl,h.2⟩
 |s::r,u::t,i+1,v,h,q=>by
  rw[vI] at h;rw[zb9,vI];exact⟨h.1,h.2.set i v fun z hz=>q z (by simpa using hz)⟩
 |[],u::t,i,v,h,q=>by rw[vI] at h;exact h.elim
 |s::r,[],i,v,h,q=>by rw[vI] at h;exact h.elim
end PG
namespace L2
open PySem
def FH (K:zab) (x:Str) (st:Stmt) (f:zdP):Prop:=zav K zdW x=some (some (.ref f))/\∃fd,Ge K x x st f fd
theorem FH.of{K:zab}{x:Str}{st:Stmt}{f:zdP}{oc:zdQ}{od an:Option zdP}{OI:Array (Option zdQ)}{kV doc pm d0 ct:zdQ}(a:zav K zdW x=some (some (.ref f)))(l:K.lookup f=some ⟨oc,od,.func (zaV x x (dh st) (aZ st) (aE st) .none kV doc pm an d0 ct),OI⟩)
 (c:zbo K d0 x=true) (k:za5 K (.ref f)=true):FH K x st f:=⟨a,_,su l c k⟩
theorem zL{α:Type}{P:List α->Prop}(h:∀a,P [a])(us:List α)(e:us.length=1):P us:=match us,e with |[a],_=>h a
theorem LD{α:Type}{P:List α->Prop}(h:∀a b,P [a,b])(us:List α)(e:us.length=2):P us:=match us,e with |[a,b],_=>h a b
theorem Uh{α:Type}{P:List α->Prop}(h:∀a b c,P [a,b,c])(us:List α)(e:us.length=3):P us:=match us,e with |[a,b,c],_=>h a b c
theorem bn4{α:Type}{P:List α->Prop}(h:∀a b c d,P [a,b,c,d])(us:List α)(e:us.length=4):P us:=match us,e with |[a,b,c,d],_=>h a b c d
theorem qc{K:zab}{mg:Str->Option zdQ}{h:Heap}{x:Str}{st:Stmt}{f:zdP}{ps:List Str}(X:K.In h)(G:h.Ns zdW mg)(q:FH K x st f)
 (b:∀(kV doc pm:zdQ) (an:Option zdP) (d0 ct:zdQ) (us:List zdQ),us.length=ps.length->bindArgs (zaV x x (dh st) (aZ st) (aE st) .none kV doc pm an d0 ct) ⟨us,[]⟩=pure (ps.zip us)):∃fd,cJ K mg x st ps f fd:=
 let ⟨a,fd,F⟩:=q
 ⟨fd,F,F.binds b,zaC X G a⟩
theorem P0{CX:IZ}{P:zd1}{w:zdR}{K:zab}{mg:Str->Option zdQ}{base:Heap}{N:List Str}{qual:Str}{scope:Scope}{f:zdP}{cd:zdQ}{A:zd0}{outer:List Env}{s:zdZ}{H:Hp}{E:XK}:(lU CX P w K mg base N qual scope f cd A outer s H E).prog=P:=rfl
theorem Qa{CX:IZ}{P:zd1}{w:zdR}{K:zab}{mg:Str->Option zdQ}{base:Heap}{N:List Str}{qual:Str}{scope:Scope}{f:zdP}{cd:zdQ}{A:zd0}{outer:List Env}{s:zdZ}{H:Hp}{E:XK}:(lU CX P w K mg base N qual scope f cd A outer s H E).w=w:=rfl
def G8:PG.Tg->List Key
 |.row k=>[.inr "row",.inl k]
 |.side k b=>[.inr "side",.inl k,.inl (tN b)]
 |.jn k=>[.inr "must",.inl k]
 |.fin=>[.inr "end"]
theorem MT{a b:PG.Tg}(h:G8 a=G8 b):a=b:=by
 have s1:(zac "row":Str)≠zac "must":=by decide +kernel
 cases a<;>cases b<;>simp only[G8,zcM.injEq,Sum.inl.injEq,Sum.inr.injEq,and_true,reduceCtorEq,and_false] at h
 ·rw[h.2]
 ·exact absurd h.1 s1
 ·obtain⟨_,rfl,e⟩:=h;have e:=(beq_iff_eq (α:=Int)).mpr e;rw[V0] at e;rw[beq_iff_eq.mp e]
 ·exact absurd h.1.symm s1
 ·rw[h.2]
 ·rfl
def MU (s:PG.eG):JN:=(.inl s.1,s.2.map .inl)
theorem Qb{a b:PG.eG}(h:MU a=MU b):a=b:=by
 obtain⟨a1,a2⟩:=a;obtain⟨b1,b2⟩:=b;simp only[MU,Prod.mk.injEq,Sum.inl.injEq] at h;obtain⟨rfl,h⟩:=h;have h:=(List.map_inj_right (fun x y (e:(Sum.inl x:Key)=.inl y)=>Sum.inl.inj e)).mp h;rw[h]
section
variable{κ:Type}[DecidableEq κ]{J:KH κ}{P:zd1}{w:zdR}{K:zab}{H H':Hp}{a b p C dx:zdP}{bg:List (κ×V)}{φ:Heap->Prop}{fs:List (Str×V)}{xs:List V}
theorem DS.abr(d:DS J P w K H a bg):∃φ,H a=some (.ext φ):=by obtain⟨xs,h,_⟩:=d.at_;exact⟨_,h⟩
theorem DS.ins(d:DS J P w K H a bg)(hp:H p=some (.ins C dx fs))(u:bX p H H'):DS J P w K H' a bg:=by
 obtain⟨φ,e⟩:=d.abr;exact d.via (fun o h=>u _ _ (dg e hp (by intro z;cases z)) h) fun b ys q=>q.ins hp u
theorem dF.JO(h:dF K H a xs)(hb:H b=some (.ext φ))(u:bX b H H'):dF K H' a xs:=by
 rcases h with (q |⟨o',q⟩) |q
 ·exact .inl (.inl (u _ _ (dg q hb (by intro z;cases z)) q))
 ·exact .inl (.inr ⟨o',u _ _ (dg q hb (by intro z;cases z)) q⟩)
 ·exact .inr q
theorem hJ.ext{row:Int}{vals:List Int}(h:hJ K H a row vals)(hb:H b=some (.ext φ))(u:bX b H H'):hJ K H' a row vals:=by obtain⟨va,h1,h2⟩:=h;exact⟨va,h1.JO hb u,h2.JO hb u⟩
theorem Bb.ext{e:Option PG.nB}{v:V}(h:Bb K H e v)(hb:H b=some (.ext φ))(u:bX b H H'):Bb K H' e v:=by
 cases e with
 |none=>exact h
 |some x=>obtain⟨a,e,q⟩:=h;exact⟨a,e,q.JO hb u⟩
theorem Od.ext{CC CW wk ch fl:zdP}{pr:PG.Prog}{j3:List Int}{n:Nat}{row:Int}{vals:List Int}{e:Option PG.nB}(h:Od K CC CW H wk ch fl pr j3 n row vals e)(hb:H b=some (.ext φ))(u:bX b H H')(c:Oc K CC H' ch pr)(f:gI K H' fl (j3.map V.int)):Od K CC CW H' wk ch fl pr j3 n row vals e:=by
 obtain⟨dx,sa,ev,h1,h2,h3⟩:=h.at_;exact⟨⟨dx,sa,ev,u _ _ (dg h1 hb (by intro z;cases z)) h1,h2.ext hb u,h3.ext hb u⟩,c,f,h.Yy⟩
end
def vJ (pr:PG.Prog):List Int:=pr.bT.map (·.size)
structure G9(pr:PG.Prog)(s:PG.eG):Prop where
 ok:G5 pr s.1 s.2
 inv:PG.vI (vJ pr) s.2
theorem vI.first:∀ {bs:List PG.ji},(∀b∈bs,2<=b.size/\b.size<=10/\0<=b.first/\b.first<b.size)->PG.vI (bs.map (·.size)) (bs.map (·.first))
 |[],_=>trivial
 |b::r,h=>by
  simp only[zaq,PG.vI];have:=h b (zap ..);exact⟨⟨by lia,by lia⟩,vI.first fun x hx=>h x (zak _ hx)⟩
theorem G9.first{pr:PG.Prog}(d:E5 pr):G9 pr (PG.dv pr.body 0,pr.bT.map (·.first)):=⟨d.first,vI.first d.size⟩
theorem vI.E4{pr:PG.Prog}(d:E5 pr){vals:List Int}(h:PG.vI (vJ pr) vals){b:W}(hb:b∈pr.bT.map (·.name))(z:Int):PG.vI (vJ pr) (E4 pr.bT vals b (z%oX pr.bT b)):=by
 refine h.set _ _ fun s hs=>?_;obtain⟨hx,_⟩:=G4 hb;have e:oX pr.bT b=s:=by
  unfold oX;rw[vJ,zaE,zag hx] at hs;rw[zag hx];exact zaG.inj hs
 have:=G6 d hb;rw[e] at this ⊢;exact⟨zaY z (by lia),zaT z (by lia)⟩
theorem vI.step{pr:PG.Prog}(d:E5 pr){st:PG.du}(ok:PG.Sz (·∈pr.bT.map (·.name)) (fun e=>PG.G0 pr.bT e/\PG.A8 e<=2) (·∈PG.Xe) st){ws vals:List Int}{f:Int}(h:PG.vI (vJ pr) vals){x:PG.eG}(e:(da pr.bT st ws vals f).1=some x):PG.vI (vJ pr) x.2:=by
 have cs:sP pr.bT st ws vals=some x->PG.vI (vJ pr) x.2:=by
  intro e;unfold sP at e;split at e
  ·cases e
  ·split at e
   ·cases e;exact h
   ·split at e
    ·cases e
    ·cases e;exact h
 cases st<;>rw[PG.Sz] at ok
 ·cases e;exact vI.E4 d h ok _
 ·cases e;exact vI.E4 d h ok.1 _
 ·cases e;exact h
 ·exact cs e
 ·cases e;exact h
 ·exact cs e
 ·exact cs e
theorem Qc{pr:PG.Prog}(ok:VX pr){i:Nat}(hi:i<(PG.bG pr.body).length)(hf:i<(PG.cQ pr.body 0).length)(vals:List Int)(f:Int):Ly pr (PG.bG pr.body)[i].row vals f=da pr.bT (PG.bG pr.body)[i] (PG.cQ pr.body 0)[i].2.2 vals f:=by
 unfold Ly;rw[SG ok.pw i hi,SH ok.pw i hi hf]
theorem G9.next{pr:PG.Prog}(d:E5 pr){s x:PG.eG}(h:G9 pr s)(h0:s.1≠0){f:Int}(e:(Ly pr s.1 s.2 f).1=some x):G9 pr x:=by
 obtain⟨row,vals⟩:=s;obtain⟨i,hi,rfl⟩:=h.ok.row.resolve_left h0;obtain⟨hf,_,_⟩:=Ba pr.body i hi;rw[Qc d.ok hi hf] at e;refine⟨?_,vI.step d (PG.uC pr.body _ d.own (zaK hi)) h.inv e⟩;rcases hs:da pr.bT (PG.bG pr.body)[i] (PG.cQ pr.body 0)[i].2.2 vals f with ⟨o,sd⟩
 rw[hs] at e;exact G5.step d hi hf h.ok.len h.ok.small (by rw[hs];exact congrArg (·,sd) e)
theorem G9.nx{pr:PG.Prog}(d:E5 pr){s s':PG.eG×List Int}(h:G9 pr s.1)(e:PG.CY (abn pr.body) (Ly pr) s=some s'):G9 pr s'.1:=by
 unfold PG.CY at e;split at e
 ·cases e
 ·rename_i h0;split at e
  ·cases e
  ·obtain⟨y,hy,rfl⟩:=zbd.mp e;exact h.next d h0 hy
structure sQ(K:zab)(H:Hp)(md:zdP)(pr:PG.Prog):Prop where
 at_:∃(B d8 wy fa:zdP) (us:List V) (bg:List (Key×V)),gI K H md [.ref B,.ref d8,.ref wy,.ref fa]/\Rep K H (.lst (pr.bT.map G2)) (.ref B)/\H d8=some (.dK (zl (PG.bG pr.body) us))/\us.length=(PG.bG pr.body).length/\a7 K H ((PG.bG pr.body).map G1) us/\
  H wy=some (.dK bg)/\(∀i (hi:i<(PG.cQ pr.body 0).length),∃y,eL bg (.inl (PG.cQ pr.body 0)[i].1)=some (.ref y)/\dF K H y ((PG.cQ pr.body 0)[i].2.2.map V.int))/\hJ K H fa (PG.dv pr.body 0) (pr.bT.map (·.first))
theorem sQ.mono{K:zab}{H H':Hp}{md:zdP}{pr:PG.Prog}(m:sQ K H md pr)(s:ay H H'):sQ K H' md pr:=by
 obtain⟨B,d8,wy,fa,us,bg,h1,h2,h3,h4,h5,h6,h7,h8⟩:=m.at_;exact⟨⟨B,d8,wy,fa,us,bg,s.seq h1,h2.mono s,s _ _ h3,h4,h5.mono s,s _ _ h6,fun i hi=>let ⟨y,e,k⟩:=h7 i hi;⟨y,e,s.gK k⟩,h8.mono s⟩⟩
theorem sQ.row{K:zab}{H:Hp}{md:zdP}{pr:PG.Prog}(m:sQ K H md pr)(ok:VX pr){i:Nat}(hi:i<(PG.bG pr.body).length)(hf:i<(PG.cQ pr.body 0).length) :
 ∃(B d8 wy fa ta y:zdP) (us ys:List V) (bg:List (Key×V)),gI K H md [.ref B,.ref d8,.ref wy,.ref fa]/\Rep K H (.lst (pr.bT.map G2)) (.ref B)/\H d8=some (.dK (zl (PG.bG pr.body) us))/\eL (zl (PG.bG pr.body) us) (.inl (PG.bG pr.body)[i].row)=some (.ref ta)/\Rep K H (G1 (PG.bG pr.body)[i]) (.ref ta)/\dF K H ta (.str (N9 (PG.bG pr.body)[i].wd)::ys)/\
  H wy=some (.dK bg)/\eL bg (.inl (PG.bG pr.body)[i].row)=some (.ref y)/\dF K H y ((PG.cQ pr.body 0)[i].2.2.map V.int):=by
 obtain⟨B,d8,wy,fa,us,bg,h1,h2,h3,h4,h5,h6,h7,h8⟩:=m.at_;obtain⟨v,hv,rv⟩:=h5.get (i:=i) (d:=G1 (PG.bG pr.body)[i]) (by rw[zaE,zag hi];rfl);have g:=G3 _ _ h4 ok.pw i hi v hv;obtain⟨ta,ys,rfl,hta⟩:=MS _ rv;obtain⟨y,e,k⟩:=h7 i hf;obtain⟨_,e1,_⟩:=Ba pr.body i hi;rw[e1] at e;exact⟨B,d8,wy,fa,ta,y,us,_,bg,h1,h2,h3,g,rv,hta,h6,e,k⟩
section
variable(P:zd1)(w:zdR)(K:zab)(CC:zdP)
def Qd (H:Hp) (l:zdP) (us:List V) (ts:List PG.Tg):Prop:=H l=some (.lst us)/\a7 K H (ts.map Yq) us
def Ej (H:Hp) (g:List PG.eG) (us:List V):Prop:=Paired (fun (s:PG.eG) v=>∃a,v=.ref a/\hJ K H a s.1 s.2) g us
end
theorem Ej.mono{K:zab}{H H':Hp}{g:List PG.eG}{us:List V}(h:Ej K H g us)(s:ay H H'):Ej K H' g us:=Paired.Gm h fun _ _ ⟨a,e,q⟩=>⟨a,e,q.mono s⟩
theorem Qd.mono{K:zab}{H H':Hp}{l:zdP}{us:List V}{ts:List PG.Tg}(h:Qd K H l us ts)(s:ay H H'):Qd K H' l us ts:=⟨s _ _ h.1,h.2.mono s⟩
open PyProof.Rows
theorem Qe{J:It}{D:zdP}{g:TG}{te:TE}{Q:VK}{τ0:St}{H:Hp}(G:St->Prop)(xs:List V)(Pv:Nat->List V->Hp->Prop)
 (go:∀i H2,ay H H2->i<xs.length->J.go i H2) (stop:∀H2,ay H H2->J.stop xs.length H2) (Gb:∀i H2 x H3,ay H H2->i<xs.length->J.Gb i H2 x H3->H3=H2/\xs[i]?=some x)
 (hl:xs.length<=16000000) (hD:H D=none) (g0:G τ0) (h0:Pv 0 [] (upd H D (.lst [])))
 (step:∀i x ys τ H2,xs[i]?=some x->G τ->ay H H2->H2 D=some (.lst ys)->ys.length=i->Pv i ys H2->∀R:St->VK,(∀τ' v H3,G τ'->ay H2 H3->Pv (i+1) (ys++[v]) (upd H3 D (.lst (ys++[v])))->R τ' v H3)->g x τ H2 fun τ' H'=>te τ' H' (R τ'))
 (q:∀ys H2,ay H H2->H2 D=some (.lst ys)->ys.length=xs.length->Pv xs.length ys H2->Q (.ref D) H2):sD J D g GD te Q τ0 (upd H D (.lst [])):=by
 refine⟨fun i m τ H2=>m=xs.length-i/\i<=xs.length/\G τ/\ay H H2/\∃ys,H2 D=some (.lst ys)/\ys.length=i/\Pv i ys H2,⟨xs.length,by simp,zaU _,g0,ay.new hD _,[],aj,rfl,h0⟩,?_⟩
 rintro i m τ H2 ⟨rfl,hi,gt,s2,ys,h2,ly,p2⟩
 by_cases lQ:i<xs.length
 ·refine .inr ⟨go i H2 s2 lQ,fun τ' H'=>G τ'/\ay H H'/\∃ys,H' D=some (.lst ys)/\ys.length=i+1/\Pv (i+1) ys H',fun τ' H' ⟨h1,h3,h4⟩=>⟨xs.length-(i+1),by lia,rfl,lQ,h1,h3,h4⟩,fun y H' hy=>?_⟩;obtain⟨rfl,ey⟩:=Gb i H2 y H' s2 lQ hy;simp only[GD,if_true];refine step i y ys τ _ ey gt s2 h2 ly p2 (fun τ' v H4=>_) fun τ' v H3 gt' s3 p3=>⟨ys,s3 _ _ h2,?_,gt',?_,ys++[v],aj,by simp[ly],p3⟩
  ·have:zdX=2 ^ 24:=rfl;lia
  ·intro b o e;rw[aq (aI e hD)];exact s3 _ _ (s2 _ _ e)
 ·have e:i=xs.length:=by lia
  subst e;exact .inl ⟨stop H2 s2,q ys H2 s2 h2 ly p2⟩
theorem MV{K:zab}{a D:zdP}{xs:List V}{g:TG}{te:TE}{Q:VK}{τ0:St}{H:Hp}(G:St->Prop)(Pv:Nat->List V->Hp->Prop)(hS:gI K H a xs)
 (hl:xs.length<=16000000) (hD:H D=none) (g0:G τ0) (h0:Pv 0 [] (upd H D (.lst [])))
 (step:∀i x ys τ H2,xs[i]?=some x->G τ->ay H H2->H2 D=some (.lst ys)->ys.length=i->Pv i ys H2->∀R:St->VK,(∀τ' v H3,G τ'->ay H2 H3->Pv (i+1) (ys++[v]) (upd H3 D (.lst (ys++[v])))->R τ' v H3)->g x τ H2 fun τ' H'=>te τ' H' (R τ'))
 (q:∀ys H2,ay H H2->H2 D=some (.lst ys)->ys.length=xs.length->Pv xs.length ys H2->Q (.ref D) H2):sD (N7 K a) D g GD te Q τ0 (upd H D (.lst [])):=
 Qe G xs Pv (fun i H2 s2 h=>⟨xs,xs[i],s2.seq hS,by simp[h]⟩) (fun H2 s2=>⟨xs,s2.seq hS,zah _⟩) (fun i H2 x H3 s2 h y=>⟨y.1,y.2 _ (s2.seq hS)⟩) hl hD g0 h0 step q
open PySem.Spec
def Qf (a:zdP) (o:Obj):HO:=.ext fun h=>h.get? a=some o
section
variable{P:zd1}{w:zdR}{H:Hp}{h:Heap}{a:zdP}{o:Obj}
theorem Qf.get(x:wu P w H h)(e:H a=some (Qf a o)):h.get? a=some o:=(x a _ e).1
theorem Qf.ok{H':Hp}(e:h.get? a=some o):fP P w H' h a (Qf a o):=⟨e,⟨o,e⟩,fun _ _ p k=>k _ p⟩
end
def YD (y name qual:Str) (params:Arguments) (body:Expr) (scope:Scope) (H:Hp) (fo cc:zdP) (V7:Obj) (vc:V):Prop:=
 ∃(c':zdP) (pm ctv uc:zdQ) (oc:Obj) (vs:Array zdQ) (tk:Nat),H fo=some (Qf fo (PySem.W.kla_obj name qual params body scope [(y,cc)] pm c' ctv))/\H c'=some (Qf c' oc)/\oc.data=.fields vs/\vs[1]?=some (.str qual tk)/\
  H cc=some (Qf cc V7)/\V7.data=.cell (some uc)/\RelV vc uc
def TabOk (qual:Str) (lp:Pos) (H:Hp) (ps:Array zdQ):Prop:=
 ps = #[]\/∃(c':zdP) (oc:Obj) (vs:Array zdQ) (tk:Nat),ps = #[rawInt lp.line,rawInt lp.col,.ref c']/\H c'=some (Qf c' oc)/\oc.data=.fields vs/\vs[1]?=some (.str qual tk)
def V8 (H:Hp) (P:zdP) (ps:Array zdQ) (c':zdP) (oc:Obj) (fo:zdP) (ob:Obj):Hp:=upd (upd (upd H P (.RI ps)) c' (Qf c' oc)) fo (Qf fo ob)
section
variable{H:Hp}{P:zdP}{ps:Array zdQ}{c':zdP}{oc:Obj}{fo:zdP}{ob:Obj}
theorem V8.keep(hF:H fo=none)(hc:H c'=some (Qf c' oc)\/H c'=none){b:zdP}{o:HO}(n:b≠P)(e:H b=some o):V8 H P ps c' oc fo ob b=some o:=by
 unfold V8;rw[aq (aI e hF)];by_cases z:b=c'
 ·subst z;rcases hc with q |q
  ·rw[aj,<- q,e]
  ·rw[q] at e;cases e
 ·rw[aq z,aq n,e]
end
def V9:Expr->Arguments
 |.Lambda p _ _ _=>p
 |_=>{posonlyargs:=[],args:=[],vararg:=none,kwonlyargs:=[],kw_defaults:=[],kwarg:=none,defaults:=[]}
def SK:Expr->Expr
 |.Lambda _ b _ _=>b
 |e=>e
def Qg:Expr->Scope
 |.Lambda _ _ s _=>s
 |_=>{kind:=.function,names:=[],isGenerator:=false,isCoroutine:=false}
def Wa (y qual:Str) (l:Expr) (H:Hp) (fo cc:zdP) (V7:Obj) (vc:V):Prop:=YD y "<lambda>" qual (V9 l) (SK l) (Qg l) H fo cc V7 vc
theorem SM{K:zab}{H H':Hp}{g:List PG.eG}{us:List V}(h:Ej K H g us)(f:∀a row vals,hJ K H a row vals->hJ K H' a row vals):Ej K H' g us:=Paired.Gm h fun _ _ ⟨a,e,q⟩=>⟨a,e,f _ _ _ q⟩
abbrev CO:=List (PG.eG×List Int)
def JP (led:PG.eG->List PG.eG):Nat->CO->PG.eG->List Int->CO×Option (List PG.eG)
 |0,f,_,_=>(f,none)
 |n+1,f,s,g=>if s∈f.map (·.1) then (f,none) else match led s with
  |[t]=>JP led n (f++[(s,g)]) t g
  |l=>(f++[(s,g)],some l)
def sS (K:zab) (H:Hp) (f:CO) (bg:List (JN×V)):Prop:=Paired (fun (x:PG.eG×List Int) (kv:JN×V)=>kv.1=MU x.1/\∃a,kv.2=.ref a/\dF K H a (x.2.map V.int)) f bg
section
variable{K:zab}{H H':Hp}
theorem sS.imp{f:CO}{bg:List (JN×V)}(h:sS K H f bg)(t:∀a xs,dF K H a xs->dF K H' a xs):sS K H' f bg:=Paired.Gm h fun _ _ ⟨e,a,e2,q⟩=>⟨e,a,e2,t _ _ q⟩
theorem sS.in_:∀ {f:CO} {bg:List (JN×V)},sS K H f bg->∀s:PG.eG,(eL bg (MU s)).isSome=decide (s∈f.map (·.1))
 |[],_,h,s=>by cases h;rfl
 |x::r,_,h,s=>by
  cases h with
  |@cons _ kv _ _ a b=>
   obtain⟨k,v⟩:=kv;obtain⟨e,_⟩:=a;simp only at e;subst e;by_cases z:x.1=s
   ·rw[d7 (by rw[z]),zaq,z];simp
   ·rw[d9 (fun y=>z (Qb y)),sS.in_ b s,zaq];simp[Ne.symm z]
theorem sS.len{f:CO}{bg:List (JN×V)}(h:sS K H f bg):bg.length=f.length:=(Paired.length h).symm
theorem sS.put{f:CO}{bg:List (JN×V)}(h:sS K H f bg){s:PG.eG}{g:List Int}{a:zdP}(n:s ∉ f.map (·.1))(q:dF K H a (g.map V.int)):sS K H (f++[(s,g)]) (putK bg (MU s) (.ref a)):=by
 unfold putK;rw[qh,h.in_,decide_eq_false n,if_neg zal];exact Paired.snoc h ⟨rfl,a,rfl,q⟩
end
theorem Wa.mono{y qual:Str}{l:Expr}{H H':Hp}{fo cc:zdP}{V7:Obj}{vc:V}(h:Wa y qual l H fo cc V7 vc)(s:ay H H'):Wa y qual l H' fo cc V7 vc:=by
 obtain⟨c',pm,ctv,uc,oc,vs,tk,g1,g2,d2,q2,g3,d3,rc⟩:=h;exact⟨c',pm,ctv,uc,oc,vs,tk,s _ _ g1,s _ _ g2,d2,q2,s _ _ g3,d3,rc⟩
section
variable{K:zab}{H H':Hp}{p:zdP}{φ:Heap->Prop}
mutual
theorem LF(h:H p=some (.ext φ))(u:bX p H H'):∀(d:Dp) (v:V),Rep K H d v->Rep K H' d v
 |.eB,v,r=>by rw[Rep.wH] at r ⊢;exact r
 |.bl b,v,r=>by rw[Rep.vA] at r ⊢;exact r
 |.int b,v,r=>by rw[Rep.cN] at r ⊢;exact r
 |.str b,v,r=>by rw[Rep.a8] at r ⊢;exact r
 |.lst l,v,r=>by
  rw[Rep.oP] at r ⊢;obtain⟨a,ys,rfl,q,rs⟩:=r;refine⟨a,ys,rfl,?_,sT h u l ys rs⟩;rcases q with (q |⟨o,q⟩) |q
  ·exact .inl (.inl (u _ _ (dg q h (by intro z;cases z)) q))
  ·exact .inl (.inr ⟨o,u _ _ (dg q h (by intro z;cases z)) q⟩)
  ·exact .inr q
 |.tup l,v,r=>by
  rw[Rep.bV] at r ⊢;obtain⟨a,ys,rfl,q,rs⟩:=r;exact⟨a,ys,rfl,q.JO h u,sT h u l ys rs⟩
theorem sT(h:H p=some (.ext φ))(u:bX p H H'):∀(ds:List Dp) (vs:List V),a7 K H ds vs->a7 K H' ds vs
 |[],vs,r=>by rw[a7.bE] at r ⊢;exact r
 |d::ds,vs,r=>by
  rw[a7.bh] at r ⊢;obtain⟨v,t,rfl,r1,r2⟩:=r;exact⟨v,t,rfl,LF h u d v r1,sT h u ds t r2⟩
end
theorem Oc.ext{C ch:zdP}{pr:PG.Prog}(c:Oc K C H ch pr)(h:H p=some (.ext φ))(u:bX p H H'):Oc K C H' ch pr:=by
 obtain⟨dx,nl,sd,fa,va,st,wy,us,ws,h1,h2,h3,h4,h5,h6,h7,h8,h9,VU,Yu,Yv⟩:=c.at_;have k:∀ {b:zdP} {o:HO},H b=some o->(∀ψ,o≠.ext ψ)->H' b=some o:=fun {b o} e n=>u _ _ (dg e h (n φ)) e;exact⟨⟨dx,nl,sd,fa,va,st,wy,us,ws,k h1 (fun _ z=>by cases z),k h2 (fun _ z=>by cases z),k h3 (fun _ z=>by cases z),k h4 (fun _ z=>by cases z),k h5 (fun _ z=>by cases z),k h6 (fun _ z=>by cases z),h7,k h8 (fun _ z=>by cases z),sT h u _ _ h9,VU,k Yu (fun _ z=>by cases z),fun i hi=>let ⟨q,e,r⟩:=Yv i hi;⟨q,e,r.JO h u⟩⟩⟩
end
end L2
namespace L2
open PySem PySem.Spec PyProof.Rows
def LG (g:List Int):Option (List PG.eG)->List (List Int×List PG.eG)
 |none=>[]
 |some l=>[(g,l)]
def LH (led:PG.eG->List PG.eG) (n:Nat):CO->CO->CO×List (List Int×List PG.eG)
 |f,[]=>(f,[])
 |f,(s,g)::r=>((LH led n (JP led n f s g).1 r).1,LG g (JP led n f s g).2++(LH led n (JP led n f s g).1 r).2)
section
variable{led:PG.eG->List PG.eG}{S:PG.eG->Prop}
structure Qh(S:PG.eG->Prop)(f:CO):Prop where
 nd:(f.map (·.1)).Nodup
 Ui:∀x∈f,S x.1
theorem Qh.nil:Qh S []:=⟨List.nodup_nil,fun x h=>by cases h⟩
theorem Qh.put{f:CO}{s:PG.eG}{g:List Int}(h:Qh S f)(n:s ∉ f.map (·.1))(hs:S s):Qh S (f++[(s,g)]):=by
 refine⟨?_,fun x hx=>?_⟩
 ·rw[zas];exact zbQ.mpr ⟨h.nd,by simp,fun a ha b hb=>by rw[zaq,zbV,zad] at hb;rw[hb];exact fun y=>n (by rw[<- show a=s from y];exact ha)⟩
 ·rcases zam.mp hx with hx |hx
  ·exact h.Ui x hx
  ·rw[zad.mp hx];exact hs
structure Wb(S:PG.eG->Prop)(m:Nat)(as:List (List Int×List PG.eG)):Prop where
 Ui:∀a∈as,∀x∈a.2,S x
 len:∀a∈as,a.1.length<=m
theorem Wb.nil{m:Nat}:Wb S m []:=⟨fun a h=>(by cases h),fun a h=>(by cases h)⟩
theorem Qi(li:∀s,S s->∀x∈led s,S x){m:Nat}:∀(n:Nat) (f:CO) (s:PG.eG) (g:List Int),Qh S f->S s->g.length<=m->Qh S (JP led n f s g).1/\Wb S m (LG g (JP led n f s g).2)/\f.length+(LG g (JP led n f s g).2).length<=(JP led n f s g).1.length
 |0,f,s,g,h,_,_=>⟨h,.nil,zah _⟩
 |n+1,f,s,g,h,hs,hg=>by
  rw[JP];split
  ·exact⟨h,.nil,zah _⟩
  ·rename_i hn;have h1:=h.put (g:=g) hn hs;split
   ·rename_i t e;have:=Qi li n (f++[(s,g)]) t g h1 (li s hs t (by rw[e];exact zad.mpr rfl)) hg;refine⟨this.1,this.2.1,?_⟩;have:=this.2.2;rw[zae,zaw] at this;lia
   ·refine⟨h1,⟨fun a ha x hx=>?_,fun a ha=>?_⟩,?_⟩
    ·rw[zad.mp ha] at hx;exact li s hs x hx
    ·rw[zad.mp ha];exact hg
    ·rw[zae];exact zah _
end
section
variable(K:zab)
def qR (H:Hp) (as:List (List Int×List PG.eG)) (us:List V):Prop:=Paired (fun (a:List Int×List PG.eG) (v:V)=>∃ta ga la Wc,v=.ref ta/\dF K H ta [.ref ga,.ref la]/\dF K H ga (a.1.map V.int)/\H la=some (.lst Wc)/\Ej K H a.2 Wc) as us
end
section
variable{K:zab}{H H':Hp}
theorem qR.imp{as:List (List Int×List PG.eG)}{us:List V}(h:qR K H as us)(t:∀a xs,dF K H a xs->dF K H' a xs)(l:∀a xs,H a=some (.lst xs)->H' a=some (.lst xs)):qR K H' as us:=
 Paired.Gm h fun _ _ ⟨ta,ga,la,Wc,e,q1,q2,q3,q4⟩=>⟨ta,ga,la,Wc,e,t _ _ q1,t _ _ q2,l _ _ q3,SM q4 fun a row vals ⟨va,h1,h2⟩=>⟨va,t _ _ h1,t _ _ h2⟩⟩
theorem qR.mono{as:List (List Int×List PG.eG)}{us:List V}(h:qR K H as us)(s:ay H H'):qR K H' as us:=h.imp (fun a xs q=>s.gK q) fun a xs q=>s _ _ q
theorem qR.ext{as:List (List Int×List PG.eG)}{us:List V}{D:zdP}{φ:Heap->Prop}(h:qR K H as us)(hD:H D=some (.ext φ))(u:bX D H H'):qR K H' as us:=h.imp (fun a xs q=>q.JO hD u) fun a xs q=>u _ _ (dg q hD (by intro z;cases z)) q
end
def Kp (H H':Hp):Prop:=∀b o,H b=some o->(∀ps,o≠.RI ps)->H' b=some o
section
variable{K:zab}{H H':Hp}
theorem Kp.same(s:ay H H'):Kp H H':=fun b o e _=>s b o e
end
section
variable(P:zd1)(w:zdR)(K:zab)(CC:zdP)
def We (H:Hp) (lv:CO) (us:List V):Prop:=Paired (fun (x:PG.eG×List Int) (v:V)=>∃ta ga sa,v=.ref ta/\dF K H ta [.ref ga,.ref sa]/\dF K H ga (x.2.map V.int)/\hJ K H sa x.1.1 x.1.2) lv us
end
section
variable{K:zab}{H H':Hp}
theorem We.imp{lv:CO}{us:List V}(h:We K H lv us)(t:∀a xs,dF K H a xs->dF K H' a xs):We K H' lv us:=
 Paired.Gm h fun _ _ ⟨ta,ga,sa,e,q1,q2,va,q3,q4⟩=>⟨ta,ga,sa,e,t _ _ q1,t _ _ q2,va,t _ _ q3,t _ _ q4⟩
end
theorem TabOk.up{H H':Hp}{qual:Str}{lp:Pos}{ps:Array zdQ}(h:TabOk qual lp H ps)(k:∀b φ,H b=some (.ext φ)->H' b=some (.ext φ)):TabOk qual lp H' ps:=by
 rcases h with h |⟨c',oc,vs,tk,e,h1,h2,h3⟩
 ·exact .inl h
 ·exact .inr ⟨c',oc,vs,tk,e,k _ _ h1,h2,h3⟩
def EV (ps:List (zdP×V)) (es:Array DictEntry):Prop:=Paired (fun (p:zdP×V) (e:DictEntry)=>e.key=.ref p.1/\RelV p.2 e.val) ps es.toList
theorem EV.size{ps:List (zdP×V)}{es:Array DictEntry}(h:EV ps es):es.size=ps.length:=by rw[<- zbX];exact(Paired.length h).symm
section
variable(P:zd1)(w:zdR)(K:zab)(CC:zdP)
def Bc (H:Hp):Option (List Int)->Option V->Prop
 |none,r=>r=none
 |some g,r=>∃a,r=some (.ref a)/\dF K H a (g.map V.int)
def Ek (H:Hp) (M:PG.Tg->Option (List Int)) (bg:List (List Key×V)):Prop:=∀t,Bc K H (M t) (eL bg (G8 t))
end
section
variable{K:zab}{H H':Hp}
theorem Bc.imp{o:Option (List Int)}{r:Option V}(h:Bc K H o r)(t:∀a xs,dF K H a xs->dF K H' a xs):Bc K H' o r:=by
 cases o with
 |none=>exact h
 |some y=>obtain⟨a,h1,h2⟩:=h;exact⟨a,h1,t _ _ h2⟩
theorem Ek.imp{M:PG.Tg->Option (List Int)}{bg:List (List Key×V)}(h:Ek K H M bg)(t:∀a xs,dF K H a xs->dF K H' a xs):Ek K H' M bg:=fun g=>(h g).imp t
theorem Ek.put{M:PG.Tg->Option (List Int)}{bg:List (List Key×V)}{t:PG.Tg}{g:List Int}{a:zdP}(h:Ek K H M bg)(n:M t=none)(q:dF K H a (g.map V.int)):Ek K H (fun u=>(M u).or (if u=t then some g else none)) (putK bg (G8 t) (.ref a)):=fun u=>by
 show Bc K H ((M u).or (if u=t then some g else none)) _;rw[AK];by_cases e:u=t
 ·subst e;rw[n,if_pos rfl,if_pos rfl];exact⟨a,rfl,q⟩
 ·rw[if_neg e,if_neg (fun z=>e (MT z)),Option.or_none];exact h u
theorem sQ.ext{md p:zdP}{pr:PG.Prog}{φ:Heap->Prop}(m:sQ K H md pr)(h:H p=some (.ext φ))(u:bX p H H'):sQ K H' md pr:=by
 obtain⟨B,d8,wy,fa,us,bg,h1,h2,h3,h4,h5,h6,h7,h8⟩:=m.at_;refine⟨⟨B,d8,wy,fa,us,bg,?_,LF h u _ _ h2,u _ _ (dg h3 h (by intro z;cases z)) h3,h4,sT h u _ _ h5,u _ _ (dg h6 h (by intro z;cases z)) h6,fun i hi=>let ⟨y,e,k⟩:=h7 i hi;⟨y,e,k.JO h u⟩,h8.ext h u⟩⟩;rcases h1 with (q |⟨o,q⟩) |q
 ·exact .inl (.inl (u _ _ (dg q h (by intro z;cases z)) q))
 ·exact .inl (.inr ⟨o,u _ _ (dg q h (by intro z;cases z)) q⟩)
 ·exact .inr q
end
section
variable{K:zab}{H H':Hp}
theorem Kp.trans{H2:Hp}(a:Kp H H')(b:Kp H' H2):Kp H H2:=fun c o e n=>b c o (a c o e n) n
end
end L2
namespace PG
open PM
structure Dk where
 cs:List Int
 gs:List Bool
 pos:Int
 left:Int
 row:Int
 gap:Int
structure vK(d d':Dk):Prop where
 left:d'.left=d.left
 row:d'.row=d.row
 gap:d'.gap=d.gap
theorem vK.refl{d:Dk}:vK d d:=⟨rfl,rfl,rfl⟩
theorem vK.trans{a b c:Dk}(h:vK a b)(h2:vK b c):vK a c:=⟨h2.left.trans h.left,h2.row.trans h.row,h2.gap.trans h.gap⟩
structure Uj(d:Dk)(l:List du)(d':Dk):Prop where
 rows:∀s∈l,d.row<s.row/\s.row<=d'.row
 pw:l.Pairwise fun a b=>a.row<b.row
 up:d.row<=d'.row
 cnt:(l.length:Int)=d.left-d'.left
 nn:0<=d'.left
 gap:d'.gap=d.gap
theorem Uj.nil{d d':Dk}(s:vK d d')(h:0<=d.left):Uj d [] d':=⟨fun s h=>(by cases h),.nil,by rw[s.row];exact zbL _,by rw[s.left];simp,by rw[s.left];exact h,s.gap⟩
open PM (W Tr)
abbrev Rg:=Int×Int
def abv (a b c d:Int):Int:=min (min a b) (min c d)
def abw (a b c d:Int):Int:=max (max a b) (max c d)
def abx (o:W) (l r:Rg):Rg:=if o=[43] then (l.1+r.1,l.2+r.2) else if o=[45] then (l.1-r.2,l.2-r.1) else (abv (l.1*r.1) (l.1*r.2) (l.2*r.1) (l.2*r.2),abw (l.1*r.1) (l.1*r.2) (l.2*r.1) (l.2*r.2))
def SN (f:W->Rg):Tr->Rg
 |.num n=>(n,n)
 |.box b=>f b
 |.bin o l r=>abx o (SN f l) (SN f r)
def Wf (r:Rg) (size:Int):Rg:=if r.1/size=r.2/size then (r.1%size,r.2%size) else (0,size-1)
def YE (lt truth:Bool) (l r:Rg):Bool:=
 if lt then (if truth then decide (l.1<r.2) else decide (l.2 ≥ r.1)) else if truth then decide (max l.1 r.1<=min l.2 r.2) else !(decide (l.1=l.2)&&decide (l.2=r.1)&&decide (r.1=r.2))
def JQ (lt truth left:Bool) (own bp:Rg):Rg:=
 if lt then (if truth then (if left then (own.1,min own.2 (bp.2-1)) else (max own.1 (bp.1+1),own.2)) else if left then (max own.1 bp.1,own.2) else (own.1,min own.2 bp.2))
 else if truth then (max own.1 bp.1,min own.2 bp.2)
 else if bp.1=bp.2 then (if own.1=bp.1 then own.1+1 else own.1,if own.2=bp.1 then own.2-1 else own.2) else own
end PG
namespace L2
open PySem
def vL (K:zab) (H:Hp) (v:V) (r:PG.Rg):Prop:=∃a,v=.ref a/\dF K H a [.int r.1,.int r.2]
theorem vL.mono{K:zab}{H H':Hp}{v:V}{r:PG.Rg}(h:vL K H v r)(s:ay H H'):vL K H' v r:=by obtain⟨a,e,q⟩:=h;exact⟨a,e,s.gK q⟩
theorem vL.new{K:zab}{H H':Hp}{p:zdP}{r:PG.Rg}(e:upd H p (.tup [.int r.1,.int r.2])=H'):vL K H' (.ref p) r:=⟨p,rfl,.of (e▸aj)⟩
def YF (truth:Bool) (own near far:PG.Rg):PG.Rg:=if truth then (max near.1 far.1,min near.2 far.2) else PG.JQ false false true own far
def Wg (lt truth:Bool) (own l r:PG.Rg):PG.Rg:=if lt then PG.JQ true truth true own r else YF truth own l r
def Wh (lt truth:Bool) (own l r:PG.Rg):PG.Rg:=if lt then PG.JQ true truth false own l else YF truth own r l
def RgB (k:Nat) (r:PG.Rg):Prop:=r.1.natAbs<=k/\r.2.natAbs<=k
def Qj (K:zab) (H:Hp) (bg:List (Key×V)) (f:W->PG.Rg):PM.Tr->Prop
 |.num n=>n.natAbs<=2 ^ 12
 |.box x=>(∃v,eL bg (.inr (S x))=some v/\vL K H v (f x))/\RgB (2 ^ 12) (f x)
 |.bin o l r=>(o=[43]\/o=[45]\/o=[42])/\Qj K H bg f l/\Qj K H bg f r
theorem Qj.mono{K:zab}{H H':Hp}{bg:List (Key×V)}{f:W->PG.Rg}(s:ay H H'):∀ {t:PM.Tr},Qj K H bg f t->Qj K H' bg f t
 |.num n,h=>h
 |.box x,h=>let ⟨⟨v,e,r⟩,b⟩:=h;⟨⟨v,e,r.mono s⟩,b⟩
 |.bin o l r,h=>⟨h.1,Qj.mono s h.2.1,Qj.mono s h.2.2⟩
def Z4 (f:W->PG.Rg):PM.Tr->Prop
 |.num n=>n.natAbs<=2 ^ 12
 |.box x=>RgB (2 ^ 12) (f x)
 |.bin _ l r=>Z4 f l/\Z4 f r
theorem Qj.u{K:zab}{H:Hp}{bg:List (Key×V)}{f:W->PG.Rg}:∀ {t:PM.Tr},Qj K H bg f t->Z4 f t
 |.num n,h=>h
 |.box x,h=>h.2
 |.bin o l r,h=>⟨Qj.u h.2.1,Qj.u h.2.2⟩
end L2
namespace L3
open PySem PyProof.Rows
abbrev tA (h:Heap) (l:zdP):Heap:=h.push {cls:=.type "tuple_iterator",data:=.fields #[.ref l,.int 0 0]}
abbrev tB (h:Heap) (l tp:zdP):Heap:=(tA h l).push {cls:=.type "tuple_iterator",data:=.fields #[.ref tp,.int 0 0]}
abbrev tC (h:Heap) (l tp:zdP):Heap:=(tB h l tp).push {cls:=.type "tuple",data:=.seq #[.ref h.objs.size,.ref (tA h l).objs.size]}
end L3
namespace PG
open PM (W Tr)
def C3 (bs:List ji) (x:W):Nat:=bs.findIdx fun b=>decide (b.name=x)
def qS (bs:List ji) (rs:List Rg) (x:W):Rg:=rs.getD (C3 bs x) (0,0)
def sU (bs:List ji) (rs:List Rg) (x:W) (r:Rg):List Rg:=rs.set (C3 bs x) r
theorem Be{bs:List ji}(nb:(bs.map (·.name)).Nodup){i:Nat}(hi:i<bs.length):C3 bs bs[i].name=i:=by
 unfold C3;rw[List.findIdx_eq (by simpa using hi)];refine⟨by simp,fun j hj=>?_⟩;have h:=zcY.mp nb j i (by simp;lia) (by simp;lia) hj;exact decide_eq_false (by simpa using h)
end PG
namespace L2
open PySem
def Uk (K:zab) (H:Hp) (bs:List PG.ji) (bg:List (Key×V)) (rs:List PG.Rg):Prop:=rs.length=bs.length/\∀i (hi:i<bs.length),∃v,eL bg (.inr (S bs[i].name))=some v/\∃r,rs[i]?=some r/\vL K H v r
theorem Uk.mono{K:zab}{H H':Hp}{bs:List PG.ji}{bg:List (Key×V)}{rs:List PG.Rg}(h:Uk K H bs bg rs)(s:ay H H'):Uk K H' bs bg rs:=
 ⟨h.1,fun i hi=>let ⟨v,e,r,er,q⟩:=h.2 i hi;⟨v,e,r,er,q.mono s⟩⟩
def Xi (bs:List PG.ji) (rs:List PG.Rg):PM.Tr->Prop
 |.num n=>n.natAbs<=2 ^ 12
 |.box x=>x∈bs.map (·.name)/\RgB (2 ^ 12) (PG.qS bs rs x)
 |.bin o l r=>(o=[43]\/o=[45]\/o=[42])/\Xi bs rs l/\Xi bs rs r
theorem Uk.at_{K:zab}{H:Hp}{bs:List PG.ji}{bg:List (Key×V)}{rs:List PG.Rg}(h:Uk K H bs bg rs)(nb:(bs.map (·.name)).Nodup){x:W}(hx:x∈bs.map (·.name)):∃v,eL bg (.inr (S x))=some v/\vL K H v (PG.qS bs rs x):=by
 obtain⟨b,hb,rfl⟩:=zaI.mp hx;obtain⟨i,hi,rfl⟩:=zcD hb;obtain⟨v,e,r,er,q⟩:=h.2 i hi;refine⟨v,e,?_⟩;unfold PG.qS;rw[PG.Be nb hi,zaz,er];exact q
theorem Uk.put{K:zab}{H:Hp}{bs:List PG.ji}{bg:List (Key×V)}{rs:List PG.Rg}(h:Uk K H bs bg rs)(nb:(bs.map (·.name)).Nodup){x:W}(hx:x∈bs.map (·.name)){v:V}{r:PG.Rg}(hv:vL K H v r):Uk K H bs (putK bg (.inr (S x)) v) (PG.sU bs rs x r):=by
 obtain⟨b,hb,rfl⟩:=zaI.mp hx;obtain⟨j,hj,rfl⟩:=zcD hb;unfold PG.sU;rw[PG.Be nb hj];refine⟨by rw[zbi];exact h.1,fun i hi=>?_⟩;by_cases e:i=j
 ·subst e;exact⟨v,by rw[AK,if_pos rfl],r,by rw[zbx (by rw[h.1];exact hi)],hv⟩
 ·obtain⟨u,e1,r1,er,q⟩:=h.2 i hi;refine⟨u,?_,r1,by rw[zbD (Ne.symm e)];exact er,q⟩;rw[AK,if_neg fun z=>e ?_]
  ·exact e1
  ·have z:=GQ.mp (Sum.inr.inj z);have l:i<(bs.map (·.name)).length:=by simpa using hi
   have:=PG.Be nb hi;rw[<- PG.Be nb hi,<- PG.Be nb hj,z]
end L2
namespace PG
open PM (W Tr)
def rgL (bs:List ji) (rs:List Rg) (lt truth:Bool) (t:Tr) (a b:Rg):List Rg:=match t with
 |.box x=>sU bs rs x (L2.Wg lt truth (qS bs rs x) a b)
 |_=>rs
def rgR (bs:List ji) (rs:List Rg) (lt truth:Bool) (t:Tr) (a b:Rg):List Rg:=match t with
 |.box x=>sU bs rs x (L2.Wh lt truth (qS bs rs x) a b)
 |_=>rs
def YG (rs:List Rg):Option (List Rg):=if (rs.map fun q=>decide (q.1>q.2)).any id then none else some rs
def Bf (bs:List ji) (rs:List Rg) (sg:W) (l r:Tr) (truth:Bool):Option (List Rg):=
 if YE (decide (sg=[60])) truth (SN (qS bs rs) l) (SN (qS bs rs) r) then
  YG (rgR bs (rgL bs rs (decide (sg=[60])) truth l (SN (qS bs rs) l) (SN (qS bs rs) r)) (decide (sg=[60])) truth r (SN (qS bs rs) l) (SN (qS bs rs) r))
 else none
end PG
namespace L2
open PySem
def JR (K:zab) (H:Hp) (us:List V) (rs:List PG.Rg):Prop:=us.length=rs.length/\∀i (hi:i<us.length),∃r,rs[i]?=some r/\vL K H us[i] r
theorem JR.mono{K:zab}{H H':Hp}{us:List V}{rs:List PG.Rg}(h:JR K H us rs)(s:ay H H'):JR K H' us rs:=⟨h.1,fun i hi=>let ⟨r,e,q⟩:=h.2 i hi;⟨r,e,q.mono s⟩⟩
def uL (K:zab) (H:Hp) (v:V) (rs:List PG.Rg):Prop:=∃a us,v=.ref a/\dF K H a us/\JR K H us rs
theorem uL.mono{K:zab}{H H':Hp}{v:V}{rs:List PG.Rg}(h:uL K H v rs)(s:ay H H'):uL K H' v rs:=by obtain⟨a,us,e,q,r⟩:=h;exact⟨a,us,e,s.gK q,r.mono s⟩
def Qk (K:zab) (H:Hp) (v:V):Option (List PG.Rg)->Prop
 |none=>v=.eB
 |some rs=>uL K H v rs
theorem Qk.mono{K:zab}{H H':Hp}{v:V}:∀ {o:Option (List PG.Rg)},Qk K H v o->ay H H'->Qk K H' v o
 |none,h,_=>h
 |some _,h,s=>uL.mono h s
end L2
namespace PG
def JS (f:Bool->Option (List Rg)) (ws:List (Int×Bool)):List (Int×List Rg):=ws.filterMap fun w=>(f w.2).map fun r=>(w.1,r)
end PG
namespace L2
open PySem
theorem vL.ql{K:zab}{H H':Hp}{D:zdP}{v:V}{r:PG.Rg}{ys:List V}(h:vL K H v r)(hD:H D=some (.lst ys))(u:bX D H H'):vL K H' v r:=by obtain⟨a,e,q⟩:=h;exact⟨a,e,q.ql hD u⟩
theorem uL.ql{K:zab}{H H':Hp}{D:zdP}{v:V}{rs:List PG.Rg}{ys:List V}(h:uL K H v rs)(hD:H D=some (.lst ys))(u:bX D H H'):uL K H' v rs:=
 let ⟨a,us,e,q,l,r⟩:=h;⟨a,us,e,q.ql hD u,l,fun i hi=>let ⟨r1,e1,q1⟩:=r i hi;⟨r1,e1,q1.ql hD u⟩⟩
def C4 (K:zab) (H:Hp) (v:V) (w:Int×List PG.Rg):Prop:=∃a u,v=.ref a/\dF K H a [.int w.1,u]/\uL K H u w.2
theorem C4.mono{K:zab}{H H':Hp}{v:V}{w:Int×List PG.Rg}(h:C4 K H v w)(s:ay H H'):C4 K H' v w:=by obtain⟨a,u,e,q,r⟩:=h;exact⟨a,u,e,s.gK q,r.mono s⟩
theorem C4.ql{K:zab}{H H':Hp}{D:zdP}{v:V}{w:Int×List PG.Rg}{ys:List V}(h:C4 K H v w)(hD:H D=some (.lst ys))(u:bX D H H'):C4 K H' v w:=by obtain⟨a,x,e,q,r⟩:=h;exact⟨a,x,e,q.ql hD u,r.ql hD u⟩
inductive Bg(K:zab)(H:Hp):List V->List (Int×List PG.Rg)->Prop
 |nil:Bg K H [] []
 |cons {v w us ws}:C4 K H v w->Bg K H us ws->Bg K H (v::us) (w::ws)
theorem Bg.map{K:zab}{H H':Hp}{us:List V}{ws:List (Int×List PG.Rg)}(h:Bg K H us ws)(f:∀v w,C4 K H v w->C4 K H' v w):Bg K H' us ws:=by
 induction h with
 |nil=>exact .nil
 |cons a _ ih=>exact .cons (f _ _ a) ih
theorem Bg.snoc{K:zab}{H:Hp}{us:List V}{ws:List (Int×List PG.Rg)}{v:V}{w:Int×List PG.Rg}(h:Bg K H us ws)(q:C4 K H v w):Bg K H (us++[v]) (ws++[w]):=by
 induction h with
 |nil=>exact .cons q .nil
 |cons a _ ih=>exact .cons a ih
theorem Bg.len{K:zab}{H:Hp}{us:List V}{ws:List (Int×List PG.Rg)}(h:Bg K H us ws):us.length=ws.length:=by
 induction h with
 |nil=>rfl
 |cons a _ ih=>simp[ih]
end L2
namespace PG
open PM (W Tr)
def Wi (bs:List ji) (rs:List Rg) (ws:List Int):du->List (Int×List Rg)
 |.ask _ b=>[(ws.getD 0 0,sU bs rs b (0,L2.oX bs b-1))]
 |.put _ b e=>[(ws.getD 0 0,sU bs rs b (Wf (SN (qS bs rs) e) (L2.oX bs b)))]
 |.jn _ sg l r=>JS (Bf bs rs sg l r) (ws.zip [true,false])
 |.ifs _ sg l r _ _=>JS (Bf bs rs sg l r) (ws.zip [true,false])
 |.oU _ sg l r _=>JS (Bf bs rs sg l r) (ws.zip [true,false])
 |_=>[(ws.getD 0 0,rs)]
end PG
namespace L2
open PySem
def Ul (H:Hp) (s:zdP):Prop:=∃n m:Int,H s=some (.lst [.int n,.int m])
theorem Ul.same{H H':Hp}{s:zdP}(h:Ul H s)(e:ay H H'):Ul H' s:=by obtain⟨n,m,q⟩:=h;exact⟨n,m,e _ _ q⟩
def Ql (bs:List PG.ji):PM.Tr->Prop
 |.num n=>0<=n/\n<1000
 |.box x=>x∈bs.map (·.name)
 |.bin o l r=>(o=[43]\/o=[45]\/o=[42])/\Ql bs l/\Ql bs r
def SgD (bs:List PG.ji) (sg:W) (l r:PM.Tr):Prop:=(sg=[60]\/sg=[61])/\Ql bs l/\Ql bs r/\PG.A8 l<=2/\PG.A8 r<=2
def InD (row:Int) (b:List PG.du):Prop:=b=[]\/b=[.say (row+1) (.num 1)]
def ElD (row:Int) (b:List PG.du):Prop:=b=[]\/b=[.stop (row+3)]
def YH (bs:List PG.ji) (row:Int):PG.du->Prop
 |.ask k b=>k=row/\b∈bs.map (·.name)
 |.put k b e=>k=row/\b∈bs.map (·.name)/\Ql bs e/\PG.A8 e<=2
 |.say k e=>k=row/\Ql bs e/\PG.A8 e<=2
 |.stop k=>k=row
 |.jn k sg l r=>k=row/\SgD bs sg l r
 |.oU k sg l r a=>k=row/\SgD bs sg l r/\InD row a
 |.ifs k sg l r a b=>k=row/\SgD bs sg l r/\InD row a/\ElD row b
def YI (K:zab) (s:zdP) (H:Hp) (B:zdP) (bs:List PG.ji):Prop:=B≠s/\bs.length<=10/\∃xs,H B=some (.lst xs)/\f7 K (·=s) H (bs.map G2) xs
theorem YI.bT{K:zab}{s B:zdP}{H:Hp}{bs:List PG.ji}(h:YI K s H B bs):zj K (·=s) H B bs:=by obtain⟨n,l,xs,e,f⟩:=h;exact⟨Fix.lst e n f,l⟩
theorem YI.up{K:zab}{s B:zdP}{H H1:Hp}{bs:List PG.ji}(h:YI K s H B bs)(u:bX s H H1):YI K s H1 B bs:=by obtain⟨n,l,xs,e,f⟩:=h;exact⟨n,l,xs,u _ _ n e,f.up (bK.one u rfl)⟩
section
variable(K:zab)(C:zdP)
def MW:PM.Tr->List PM.Tr
 |.bin o l r=>.bin o l r::(MW l++MW r)
 |t=>[t]
end
open PyProof.Rows
theorem Ul.ne{H:Hp}{s p:zdP}(h:Ul H s)(hp:H p=none):p≠s:=by
 obtain⟨n,m,e⟩:=h;exact(aI e hp).symm
theorem Ul.new{H:Hp}{s p:zdP}(h:Ul H s)(hp:H p=none)(o:HO):Ul (upd H p o) s:=h.same (ay.new hp o)
theorem Xi.u{bs:List PG.ji}{rs:List PG.Rg}:∀ {t:PM.Tr},Xi bs rs t->Z4 (PG.qS bs rs) t
 |.num n,h=>h
 |.box x,h=>h.2
 |.bin o l r,h=>⟨Xi.u h.2.1,Xi.u h.2.2⟩
theorem uL.get{K:zab}{H:Hp}{bs:List PG.ji}{rs:List PG.Rg}{rv:V}(h:uL K H rv rs)(ll:rs.length=bs.length){x:W}(hx:x∈bs.map (·.name)){Q:VK}(q:∀u,vL K H u (PG.qS bs rs x)->Q u H):OM K rv (.int (PG.C3 bs x)) H Q:=by
 obtain⟨a,us,rfl,hS,l,g⟩:=h;have lt:PG.C3 bs x<bs.length:=by
  unfold PG.C3;rw[List.findIdx_lt_length];obtain⟨b,hb,e⟩:=zaI.mp hx;exact⟨b,hb,by simp[e]⟩
 obtain⟨r,er,hr⟩:=g (PG.C3 bs x) (by lia);refine bI hS (v:=us[PG.C3 bs x]) (bf (zag (by lia))) (q _ ?_);unfold PG.qS;rw[zaz,er];exact hr
theorem E6(xs:List V){x:Int}(h:0<=x):AH xs none (some x)=xs.take x.toNat:=by
 obtain⟨j,rfl⟩:∃j:Nat,x=j:=⟨x.toNat,by lia⟩
 unfold AH;rw[HT.Gx,HT.qK,zcH,Nat.sub_zero,zbP];by_cases h:j<=xs.length
 ·rw[zdj h]
 ·rw[Nat.min_eq_right (by lia),zbz,zbn (by lia)]
theorem wY(xs:List V)(j:Nat):AH xs (some (j:Int)) none=xs.drop j:=by
 unfold AH;rw[HT.Gx,HT.qK];by_cases h:j<=xs.length
 ·rw[zdj h,zbn (by rw[zaQ];lia)]
 ·rw[Nat.min_eq_right (by lia),zdl (by lia),zdl (by lia),List.take_nil]
structure Bh(H:Hp)(ps:List zdP)(rs:List PG.Rg):Prop where
 l:ps.length=rs.length
 nd:ps.Nodup
 at_:∀j (hj:j<ps.length),∃r,rs[j]?=some r/\H ps[j]=some (.lst [.int r.1,.int r.2])
theorem Bh.up{H H':Hp}{ps:List zdP}{rs:List PG.Rg}(h:Bh H ps rs)(u:∀p o,p∈ps->H p=some o->H' p=some o):Bh H' ps rs:=
 ⟨h.l,h.nd,fun j hj=>let ⟨r,e,q⟩:=h.at_ j hj;⟨r,e,u _ _ (zaK hj) q⟩⟩
theorem Bh.put{H H':Hp}{ps:List zdP}{rs:List PG.Rg}(h:Bh H ps rs){j:Nat}(hj:j<ps.length){r:PG.Rg}(u:bX ps[j] H H')(e:H' ps[j]=some (.lst [.int r.1,.int r.2])):Bh H' ps (rs.set j r):=by
 refine⟨by rw[zbi];exact h.l,h.nd,fun i hi=>?_⟩;have lj:j<rs.length:=by rw[<- h.l];exact hj
 by_cases z:i=j
 ·subst z;exact⟨r,by rw[zbx lj],e⟩
 ·obtain⟨r1,e1,q1⟩:=h.at_ i hi;refine⟨r1,by rw[zbD (Ne.symm z)];exact e1,u _ _ (fun y=>z ?_) q1⟩;exact(zc2 h.nd).mp y
theorem Bh.snoc{H:Hp}{ps:List zdP}{rs:List PG.Rg}(h:Bh H ps rs){p:zdP}{r:PG.Rg}(np:p ∉ ps)(e:H p=some (.lst [.int r.1,.int r.2])):Bh H (ps++[p]) (rs++[r]):=by
 refine⟨by simp[h.l],zbQ.mpr ⟨h.nd,by simp,fun a ha b hb=>?_⟩,fun i hi=>?_⟩
 ·rw[zad.mp hb];exact fun z=>np (z▸ha)
 ·by_cases z:i<ps.length
  ·obtain⟨r1,e1,q1⟩:=h.at_ i z;exact⟨r1,by rw[zbq (by rw[<- h.l];exact z)];exact e1,by rw[zb8 z];exact q1⟩
  ·have:i=ps.length:=by simp at hi;lia
   subst this;exact⟨r,by rw[zbm (by rw[h.l];exact zah _),h.l];simp,by rw[zcZ (zah _)];simp only[zcq,List.getElem_singleton];exact e⟩
theorem JR.put{K:zab}{H:Hp}{us:List V}{rs:List PG.Rg}(h:JR K H us rs){j:Nat}{v:V}{r:PG.Rg}(g:vL K H v r):JR K H (us.set j v) (rs.set j r):=by
 refine⟨by rw[zbi,zbi];exact h.1,fun i hi=>?_⟩;rw[zbi] at hi;by_cases z:j=i
 ·subst z;exact⟨r,by rw[zbx (by rw[<- h.1];exact hi)],by rw[List.getElem_set_self];exact g⟩
 ·obtain⟨r1,e1,q1⟩:=h.2 i hi;exact⟨r1,by rw[zbD z];exact e1,by rw[List.getElem_set_ne z];exact q1⟩
theorem Bh.nil{H:Hp}:Bh H [] []:=⟨rfl,List.nodup_nil,fun j hj=>by simp at hj⟩
theorem YH.in_{bs:List PG.ji}{row:Int}{st:PG.du}(h:YH bs row st):∃r,PG.jo st=st::r/\(∀s∈r,row<s.row/\s.row<=row+3)/\r.Pairwise (fun a b=>a.row<b.row)/\r.length<=2/\PG.zK st<=1:=by
 cases st with
 |oU k sg a b i=>
  obtain⟨rfl,_,hi⟩:=h;rcases hi with rfl |rfl
  ·exact⟨[],by simp[PG.jo,PG.bG],by simp,by simp,by simp,by simp[PG.zK,PG.xV]⟩
  ·exact⟨_,by simp[PG.jo,PG.bG];rfl,by simp[PG.du.row];lia,by simp,by simp,by simp[PG.zK,PG.xV]⟩
 |ifs k sg a b i e=>
  obtain⟨rfl,_,hi,he⟩:=h;rcases hi with rfl |rfl<;>rcases he with rfl |rfl
  ·exact⟨[],by simp[PG.jo,PG.bG],by simp,by simp,by simp,by simp[PG.zK,PG.xV]⟩
  ·exact⟨_,by simp[PG.jo,PG.bG];rfl,by simp[PG.du.row];lia,by simp,by simp,by simp[PG.zK,PG.xV]⟩
  ·exact⟨_,by simp[PG.jo,PG.bG];rfl,by simp[PG.du.row];lia,by simp,by simp,by simp[PG.zK,PG.xV]⟩
  ·exact⟨[.say (k+1) (.num 1),.stop (k+3)],by simp[PG.jo,PG.bG],by simp[PG.du.row];lia,by simp[PG.du.row],by simp,by simp[PG.zK,PG.xV]⟩
 |_=>exact⟨[],by simp[PG.jo],by simp,by simp,by simp,by simp[PG.zK]⟩
theorem Ql.sub{bs:List PG.ji}:∀ {t:PM.Tr},Ql bs t->∀x∈MW t,Ql bs x/\PG.A8 x<=PG.A8 t/\∀o l r,x=.bin o l r->S o≠"box"/\S o≠"number"
 |.num n,h,x,hx=>by
  rw[MW,zad] at hx
  ·subst hx;exact⟨h,zah _,fun o l r e=>by cases e⟩
  ·intro o l r z;cases z
 |.box n,h,x,hx=>by
  rw[MW,zad] at hx
  ·subst hx;exact⟨h,zah _,fun o l r e=>by cases e⟩
  ·intro o l r z;cases z
 |.bin o l r,h,x,hx=>by
  rw[MW,zai,zam] at hx;rcases hx with rfl |hx |hx
  ·refine⟨h,zah _,fun o' l' r' e=>?_⟩;cases e;rcases h.1 with rfl |rfl |rfl<;>exact⟨by decide +kernel,by decide +kernel⟩
  ·obtain⟨a,b,c⟩:=Ql.sub h.2.1 x hx;exact⟨a,by rw[PG.A8];lia,c⟩
  ·obtain⟨a,b,c⟩:=Ql.sub h.2.2 x hx;exact⟨a,by rw[PG.A8];lia,c⟩
end L2
namespace PG
open PM (W Tr)
inductive zM where
 |oU (k:Int) (sg:W) (l r:Tr)
 |if1 (k:Int) (sg:W) (l r:Tr)
 |if2 (k:Int) (sg:W) (l r:Tr) (a:List du)
def zM.fill:zM->List du->du
 |.oU k sg l r,b=>.oU k sg l r b
 |.if1 k sg l r,b=>.ifs k sg l r b []
 |.if2 k sg l r a,b=>.ifs k sg l r a b
def pG:List (List du×zM)->List du->List du
 |[],b=>b
 |(s,h)::o,b=>pG o (s++[h.fill b])
def eP (b:List du):List Int:=(bG b).map (·.row)
theorem Bi:∀a b:List du,bG (a++b)=bG a++bG b
 |[],b=>by simp[bG]
 |s::r,b=>by
  show bG (s::(r++b))=_;rw[bG,bG,Bi r b,zbg]
theorem qt(a b:List du):eP (a++b)=eP a++eP b:=by unfold eP;rw[Bi,zas]
theorem MX(h:zM)(a b:List du):eP [h.fill (a++b)]=eP [h.fill a]++eP b:=by
 cases h<;>simp[zM.fill,eP,bG,jo,Bi,du.row]
theorem JT:∀(o:List (List du×zM)) (a b:List du),eP (pG o (a++b))=eP (pG o a)++eP b
 |[],a,b=>qt a b
 |(s,h)::o,a,b=>by
  rw[pG,pG];have gen:∀(o:List (List du×zM)) (x y:List du) (c:List Int),eP x=eP y++c->eP (pG o x)=eP (pG o y)++c:=by
   intro o
   induction o with
   |nil=>exact fun x y c h=>h
   |cons q o ih=>
    intro x y c e;obtain⟨s,h⟩:=q;rw[pG,pG];refine ih _ _ _ ?_;rw[qt,qt,zbg]
    congr 1
    cases h<;>simp only[zM.fill,eP,bG,jo,zaN,zaq,zas]<;>(unfold eP at e;rw[e];simp[du.row])
  refine gen o _ _ _ ?_;rw[qt,qt,zbg,MX]
theorem Hd:∀ {l:List Int} {a b:Int},l.Pairwise (· < ·)->(∀x∈l,a<x/\x<=b)->(l.length:Int)<=max 0 (b-a)
 |[],a,b,_,_=>by simp;lia
 |x::r,a,b,p,h=>by
  rw[zbY] at p;have h1:=h x (zap ..);have:=Hd (a:=x) (b:=b) p.2 fun y hy=>⟨p.1 y hy,(h y (zak _ hy)).2⟩
  rw[zaf];lia
structure Z5(nm:W->Prop)(ex:Tr->Prop)(sg:W->Prop)(r0 row:Int)(body:List du):Prop where
 ok:Uc nm ex sg body
 rise:(eP body).Pairwise (· < ·)
 rows:∀x∈eP body,r0<x/\x<=row
 dep:xV body<=4
 le:r0<=row
theorem Z5.nil{nm:W->Prop}{ex:Tr->Prop}{sg:W->Prop}{r0:Int}:Z5 nm ex sg r0 r0 []:=⟨trivial,by simp[eP,bG],by simp[eP,bG],by simp[xV],zbL _⟩
theorem JU{st:du}(h:∀k s l r a b,st≠.ifs k s l r a b)(h2:∀k s l r a,st≠.oU k s l r a):eP [st]=[st.row]/\zK st=0:=by
 cases st with
 |ifs k s l r a b=>exact absurd rfl (h _ _ _ _ _ _)
 |oU k s l r a=>exact absurd rfl (h2 _ _ _ _ _)
 |_=>exact⟨by simp[eP,bG,jo],by simp[zK]⟩
end PG
namespace L2
open PySem PySem.Spec PyProof.Rows
def Xj (P:zd1) (w:zdR) (K:zab) (a:zdP) (bg:List (Key×V)):Prop:=∀h:Heap,K.In h->bg.length<=zdX/\(a==sysModules)=false/\∃vs,KV bg vs/\h.DictOf (fM P w) a vs
def YJ (P:zd1) (w:zdR) (K:zab) (x y:V) (o:Option V):Prop:=∃a bg k,x=.ref a/\Xj P w K a bg/\y=kV k/\o=eL bg k
def Qm (P:zd1) (w:zdR) (K:zab) (td ty:TE):TE:=fun σ H Q=>td σ H fun x H1=>ty σ H1 fun y H2=>∃v,YJ P w K x y (some v)/\Q v H2
def E7 (P:zd1) (w:zdR) (K:zab) (td ty tx:TE):TE:=fun σ H Q=>td σ H fun x H1=>∃a bg,x=.ref a/\Xj P w K a bg/\ty σ H1 fun y H2=>tx σ H2 fun z H3=>∃k,y=kV k/\Q ((eL bg k).getD z) H3
section
variable{X:Cx}{o i e f:Expr}{pos apos jU:Pos}{td ty tx:TE}
theorem MY(ho:PE X o td)(he:PE X e ty)(hf:PE X f tx)(m:M2 X o "get" apos e f jU):PE X (.Call (.Attribute o "get" apos) [e,f] [] jU) (E7 X.prog X.w X.K td ty tx):=by
 intro pins s σ H Q I h;refine wpAny_Call_method m.base m.Gf m.line PySem.F.plainAttrs_dict zdq PySem.F.type_dict_get (fA (ho pins s σ H _ I h) fun u s1 zqz=>?_);obtain⟨x,H1,I1,rx,a,bg,ex,dc,q1⟩:=zqz;subst ex;obtain rfl:u=Value.ref a:=rx;obtain⟨_,_,vs,_,dd⟩:=dc _ I1.CQ;have ZP:=dd;obtain⟨ob,es,ep,g1,g2,_⟩:=ZP;refine⟨dd.typeIs,fun b q=>by cases q;exact⟨ob,g1,g2.2.1⟩,?_⟩;rw[m.trees];refine Calls.callWith_builtin rfl (Calls.evalArgs_plain (Calls.spliced_cons (fA (he pins s1 σ H1 _ I1 q1) fun iv s2 ⟨y,H2,I2,ry,q2⟩=>Calls.spliced_cons (fA (hf pins s2 σ H2 _ I2 q2) fun fv s3 ⟨z,H3,I3,rz,k,ey,q3⟩=>Calls.spliced_nil ?_))));subst ey;obtain⟨_,hd,vs,rel,dd⟩:=dc _ I3.CQ;refine call_meetsIn zdq dd.typeIs PySem.F.entry_dict_get (PySem.F.args_dict_get_3 _ _ _) (meets_dict_get_default (fM X.prog X.w) a (OT ry) hd fv) ⟨_,dd.mapOf,_,H3,I3.tok _,?_,q3⟩;exact(rel.val k).getD rz
end
inductive Wj(P:zd1)(w:zdR):List (Key×V)->List DictEntry->Prop
 |nil:Wj P w [] []
 |cons {k v e bg es}:e.hash=(fM P w).hash k->RelV (kV k) e.key->RelV v e.val->Wj P w bg es->Wj P w ((k,v)::bg) (e::es)
theorem Wj.of{P:zd1}{w:zdR}{bg:List (Key×V)}{es:List DictEntry}(h:Wj P w bg es):∃vs,KV bg vs/\Pairs (fM P w) es vs/\∀e∈es,∃k,(fM P w).is k e.key=true/\e.hash=(fM P w).hash k:=by
 induction h with
 |nil=>exact⟨[],.nil,.nil,fun e he=>by cases he⟩
 |@cons k v e bg es a b c _ ih=>
  obtain⟨vs,h1,h2,h3⟩:=ih;refine⟨(k,e.val)::vs,.cons ⟨rfl,c⟩ h1,(.cons (OT b) rfl h2),fun x hx=>?_⟩;rcases zai.mp hx with rfl |hx
  ·exact⟨k,OT b,a⟩
  ·exact h3 x hx
theorem Xj.mk{P:zd1}{w:zdR}{K:zab}{a:zdP}{bg:List (Key×V)}{es:Array DictEntry}{ep:Nat}(l:K.lookup a=some ⟨.type "dict",none,.dict es ep, #[]⟩)(ha:(a==sysModules)=false)(hd:Wj P w bg es.toList)(nd:(bg.map (·.1)).Nodup)(len:bg.length<=zdX):Xj P w K a bg:=fun h hK=>by
 obtain⟨vs,h1,h2,h3⟩:=hd.of;refine⟨len,ha,vs,h1,_,es,ep,hK _ _ l,⟨rfl,rfl,rfl⟩,rfl,fun e he=>h3 e (by simpa using he),h2,?_⟩;have ek:∀ {l:List (Key×V)} {m:List (Key×zdQ)},KV l m->l.map (·.1)=m.map (·.1):=by
  intro l m r;unfold KV at r
  induction r with
  |nil=>rfl
  |cons a _ ih=>rw[zaq,zaq,ih,a.1]
 rw[<- ek h1];exact nd
open PG
open PM (W Tr)
def In (r:Rg) (v:Int):Prop:=r.1<=v/\v<=r.2
def Qn (rs:List Rg) (vals:List Int):Prop:=vals.length=rs.length/\∀(i:Nat) (v:Int) (r:Rg),vals[i]?=some v->rs[i]?=some r->In r v
theorem Z6{a b x y:Int}(h1:a<=x)(h2:x<=b):min (a*y) (b*y)<=x*y/\x*y<=max (a*y) (b*y):=by
 by_cases hy:0<=y
 ·have e1:=zbZ h1 hy;have e2:=zbZ h2 hy;exact⟨zcr (Int.min_le_left _ _) e1,zcr e2 (Int.le_max_right _ _)⟩
 ·have hy:y<=0:=by lia
  have e1:=zcs h1 hy;have e2:=zcs h2 hy;exact⟨zcr (Int.min_le_right _ _) e2,zcr e1 (Int.le_max_left _ _)⟩
theorem El{bs:List ji}{x:W}(h:x∈bs.map (·.name)):C3 bs x<bs.length:=by
 unfold C3;obtain⟨b,hb,rfl⟩:=zaI.mp h;exact List.findIdx_lt_length_of_exists ⟨b,hb,by simp⟩
theorem Qn.at_{bs:List ji}{rs:List Rg}{vals:List Int}{x:W}(h:Qn rs vals)(l:vals.length=bs.length)(hx:x∈bs.map (·.name)):In (qS bs rs x) (vals.getD (C3 bs x) 0):=by
 have hi:=El hx;have l2:=h.1;unfold qS;rw[zaz,zaz,zag (show C3 bs x<vals.length by lia),zag (show C3 bs x<rs.length by lia)];exact h.2 _ _ _ (zag (by lia)) (zag (by lia))
end L2
namespace L2
open PySem PG
open PM (W Tr)
def one (vals:List Int):List Rg:=vals.map fun v=>(v,v)
end L2
namespace L2
open PySem PG
open PM (W Tr)
def Xk (b:ji) (r:Rg):Prop:=0<=r.1/\r.2<=b.size-1
def Xl (bs:List ji) (rs:List Rg):Prop:=rs.length=bs.length/\∀(i:Nat) (r:Rg) (b:ji),rs[i]?=some r->bs[i]?=some b->Xk b r
structure MZ(bs:List ji)(rs:List Rg):Prop where
 bd:Xl bs rs
 le:∀r∈rs,r.1<=r.2
theorem Xl.at_{bs:List ji}{rs:List Rg}(h:Xl bs rs){x:W}(hx:x∈bs.map (·.name)):Xk (bs[C3 bs x]'(El hx)) (qS bs rs x):=by
 have hi:=El hx;have l:=h.1;refine h.2 (C3 bs x) _ _ ?_ (zag hi);unfold qS;rw[zaz,zag (show C3 bs x<rs.length by lia)];rfl
theorem Xl.put{bs:List ji}{rs:List Rg}(h:Xl bs rs){x:W}(hx:x∈bs.map (·.name)){r:Rg}(hr:Xk (bs[C3 bs x]'(El hx)) r):Xl bs (sU bs rs x r):=by
 refine⟨by unfold sU;rw[zbi];exact h.1,fun i q b e1 e2=>?_⟩;unfold sU at e1;rw[List.getElem?_set] at e1;by_cases c:C3 bs x=i
 ·rw[if_pos c] at e1;subst c;by_cases d:C3 bs x<rs.length
  ·rw[if_pos d] at e1;cases e1;rw[zag (El hx)] at e2;cases e2;exact hr
  ·rw[if_neg d] at e1;cases e1
 ·rw[if_neg c] at e1;exact h.2 i q b e1 e2
theorem MZ.put{bs:List ji}{rs:List Rg}(h:MZ bs rs){x:W}(hx:x∈bs.map (·.name)){r:Rg}(hr:Xk (bs[C3 bs x]'(El hx)) r)(hl:r.1<=r.2):MZ bs (sU bs rs x r):=⟨h.bd.put hx hr,fun q hq=>by
 unfold sU at hq;rcases zbT hq with hq |rfl
 ·exact h.le q hq
 ·exact hl⟩
end L2
namespace L2
open PySem PyProof.Rows
section
variable{K:zab}{D D' O:zdP->Prop}{H0 H H1:Hp}{d:Dp}{v:V}{s p:zdP}
theorem Fix.grow(f:Fix K D H d v)(h:∀a,D' a->D a\/H a=none):Fix K D' H d v:=fun H2 u=>f H2 fun b o n e=>u b o (fun z=>(h b z).elim n fun z=>by rw[z] at e;cases e) e
theorem f7.grow{ds:List Dp}{vs:List V}(f:f7 K D H ds vs)(h:∀a,D' a->D a\/H a=none):f7 K D' H ds vs:=fun H2 u=>f H2 fun b o n e=>u b o (fun z=>(h b z).elim n fun z=>by rw[z] at e;cases e) e
theorem Own.tup{ds:List Dp}{vs:List V}(h:vG K H0 H ds vs)(dm:∀b,H0 b≠none->H b≠none)(hp:H p=none):Own K H0 (upd H p (.tup vs)) (.tup ds) (.ref p):=fun O hO=>Fix.tup aj (fun z=>dm p (hO p z) hp) ((h O hO).up (.of (ay.new hp _)))
theorem ay.Oa(h:ay H H1):∀b,H b≠none->H1 b≠none:=fun b hb=>by
 cases z:H b with
 |none=>exact absurd z hb
 |some o=>rw[h b o z];simp
end
abbrev abB (bs:List PG.ji) (e:PM.Tr):Prop:=PG.G0 bs e/\PG.A8 e<=2
def Plain:PG.du->Prop
 |.ifs ..=>False
 |.oU ..=>False
 |_=>True
theorem Plain.rows{st:PG.du}(h:Plain st):PG.eP [st]=[st.row]/\PG.zK st=0:=PG.JU (fun _ _ _ _ _ _ z=>by rw[z] at h;exact h) (fun _ _ _ _ _ z=>by rw[z] at h;exact h)
abbrev ZkB (bs:List PG.ji):Int->Int->List PG.du->Prop:=PG.Z5 (·∈bs.map (·.name)) (abB bs) (·∈PG.Xe)
section
variable(K:zab)(D:zdP->Prop)(H:Hp)
inductive pH:List (List PG.du×PG.zM)->zdP->List zdP->List V->Prop
 |root {p:zdP}:pH [] p [] [.eB]
 |oU {o Um k sg l r p q c ps ss vs vl vr}:H q=some (.lst (vs++[.ref c]))->f7 K D H (Um.map G1) vs->¬D c->H c=some (.tup [.str "while",.int k,.str (S sg),vl,vr,.ref p])->Fix K D H (mJ l) vl->Fix K D H (mJ r) vr->pH o q ps ss->pH ((Um,.oU k sg l r)::o) p (q::ps) (.eB::ss)
 |if1 {o Um k sg l r p q c b ps ss vs vl vr}:H q=some (.lst (vs++[.ref c]))->f7 K D H (Um.map G1) vs->¬D c->H c=some (.tup [.str "if",.int k,.str (S sg),vl,vr,.ref p,.ref b])->Fix K D H (mJ l) vl->Fix K D H (mJ r) vr->H b=some (.lst [])->pH o q ps ss->pH ((Um,.if1 k sg l r)::o) p (q::ps) (.ref b::ss)
 |if2 {o Um k sg l r a p q c va ps ss vs vl vr}:H q=some (.lst (vs++[.ref c]))->f7 K D H (Um.map G1) vs->¬D c->H c=some (.tup [.str "if",.int k,.str (S sg),vl,vr,va,.ref p])->Fix K D H (mJ l) vl->Fix K D H (mJ r) vr->Fix K D H (.lst (a.map G1)) va->pH o q ps ss->pH ((Um,.if2 k sg l r a)::o) p (q::ps) (.eB::ss)
end
section
variable{K:zab}{D D':zdP->Prop}{H H1:Hp}{o:List (List PG.du×PG.zM)}{p:zdP}{ps:List zdP}{ss:List V}
theorem pH.len(h:pH K D H o p ps ss):ps.length=o.length/\ss.length=o.length+1:=by
 induction h with
 |root=>exact⟨rfl,rfl⟩
 |oU _ _ _ _ _ _ _ ih=>exact⟨by rw[zaf,zaf,ih.1],by rw[zaf,zaf,ih.2]⟩
 |if1 _ _ _ _ _ _ _ _ ih=>exact⟨by rw[zaf,zaf,ih.1],by rw[zaf,zaf,ih.2]⟩
 |if2 _ _ _ _ _ _ _ _ ih=>exact⟨by rw[zaf,zaf,ih.1],by rw[zaf,zaf,ih.2]⟩
theorem pH.up(h:pH K D H o p ps ss)(u:bK D H H1)(h1:∀q∈ps,H1 q=H q)(h2:∀b,V.ref b∈ss->H1 b=H b):pH K D H1 o p ps ss:=by
 induction h with
 |root=>exact .root
 |oU a b c d e f g ih=>exact .oU (by rw[h1 _ (zap ..)];exact a) (b.up u) c (u _ _ c d) (e.up u) (f.up u) (ih (fun q hq=>h1 q (zak _ hq)) fun b hb=>h2 b (zak _ hb))
 |if1 a b c d e f x g ih=>exact .if1 (by rw[h1 _ (zap ..)];exact a) (b.up u) c (u _ _ c d) (e.up u) (f.up u) (by rw[h2 _ (zap ..)];exact x) (ih (fun q hq=>h1 q (zak _ hq)) fun b hb=>h2 b (zak _ hb))
 |if2 a b c d e f x g ih=>exact .if2 (by rw[h1 _ (zap ..)];exact a) (b.up u) c (u _ _ c d) (e.up u) (f.up u) (x.up u) (ih (fun q hq=>h1 q (zak _ hq)) fun b hb=>h2 b (zak _ hb))
theorem pH.grow(h:pH K D H o p ps ss)(g:∀a,D' a->D a\/H a=none):pH K D' H o p ps ss:=by
 have nc:∀ {c:zdP} {u:HO},¬D c->H c=some u->¬D' c:=fun n e z=>(g _ z).elim n fun z=>by rw[z] at e;cases e
 induction h with
 |root=>exact .root
 |oU a b c d e f _ ih=>exact .oU a (b.grow g) (nc c d) d (e.grow g) (f.grow g) ih
 |if1 a b c d e f x _ ih=>exact .if1 a (b.grow g) (nc c d) d (e.grow g) (f.grow g) x ih
 |if2 a b c d e f x _ ih=>exact .if2 a (b.grow g) (nc c d) d (e.grow g) (f.grow g) (x.grow g) ih
theorem pH.Oa(h:pH K D H o p ps ss):(∀q∈ps,H q≠none)/\∀b,V.ref b∈ss->H b≠none:=by
 have nn:∀ {q:zdP} {u:HO},H q=some u->H q≠none:=fun e z=>by rw[e] at z;cases z
 induction h with
 |root=>exact⟨fun q hq=>(by cases hq),fun b hb=>(by simp at hb)⟩
 |oU a _ _ _ _ _ _ ih=>exact⟨fun q hq=>(zai.mp hq).elim (fun e=>e▸nn a) (ih.1 q),fun b hb=>(zai.mp hb).elim (fun e=>by cases e) (ih.2 b)⟩
 |if1 a _ _ _ _ _ x _ ih=>exact⟨fun q hq=>(zai.mp hq).elim (fun e=>e▸nn a) (ih.1 q),fun b hb=>(zai.mp hb).elim (fun e=>by cases e;exact nn x) (ih.2 b)⟩
 |if2 a _ _ _ _ _ _ _ ih=>exact⟨fun q hq=>(zai.mp hq).elim (fun e=>e▸nn a) (ih.1 q),fun b hb=>(zai.mp hb).elim (fun e=>by cases e) (ih.2 b)⟩
theorem pH.same(h:pH K D H o p ps ss)(s:ay H H1):pH K D H1 o p ps ss:=by
 have e:∀ {q:zdP},H q≠none->H1 q=H q:=fun {q} n=>by
  cases z:H q with
  |none=>exact absurd z n
  |some u=>exact s _ _ z
 exact h.up (.of s) (fun q hq=>e (h.Oa.1 q hq)) fun b hb=>e (h.Oa.2 b hb)
def rootOf (p:zdP):List zdP->zdP
 |[]=>p
 |q::ps=>rootOf q ps
end
def Z7 (ss:List V):List zdP:=ss.filterMap fun v=>match v with |.ref b=>some b |_=>none
theorem SO{ss:List V}{b:zdP}:b∈Z7 ss↔V.ref b∈ss:=by
 unfold Z7;rw[zb5]
 constructor
 ·rintro ⟨v,hv,e⟩
  cases v with
  |ref c=>cases e;exact hv
  |_=>cases e
 ·exact fun h=>⟨_,h,rfl⟩
def Uo (pl sc p:zdP) (ps:List zdP) (ss:List V):List zdP:=pl::sc::p::(ps++Z7 ss)
theorem LK{pl sc p a:zdP}{ps:List zdP}{ss:List V}:a∈Uo pl sc p ps ss↔a=pl\/a=sc\/a=p\/a∈ps\/V.ref a∈ss:=by
 unfold Uo;simp only[zai,zam,SO]
structure PZ(K:zab)(bs:List PG.ji)(r0 row:Int)(R pl sc:zdP)(H0 H:Hp)(o:List (List PG.du×PG.zM))(cur:List PG.du)(p:zdP)(ps:List zdP)(ss vs:List V):Prop where
 Gd:H pl=some (.lst ((p::ps).reverse.map V.ref))
 Z8:H sc=some (.lst ss.reverse)
 hp:H p=some (.lst vs)
 nd:(Uo pl sc p ps ss).Nodup
 fx:f7 K (·∈Uo pl sc p ps ss) H (cur.map G1) vs
 pa:pH K (·∈Uo pl sc p ps ss) H o p ps ss
 rt:rootOf p ps=R
 zk:ZkB bs r0 row (PG.pG o cur)
 len:o.length<=4
 sm:ay H0 H
 fr:∀a∈Uo pl sc p ps ss,H0 a=none
section
variable{K:zab}{bs:List PG.ji}{r0 row:Int}{R pl sc:zdP}{H0 H H1:Hp}{o:List (List PG.du×PG.zM)}{cur:List PG.du}{p:zdP}{ps:List zdP}{ss vs:List V}
theorem PZ.Oa(h:PZ K bs r0 row R pl sc H0 H o cur p ps ss vs):∀a∈Uo pl sc p ps ss,H a≠none:=fun a ha=>by
 rcases LK.mp ha with rfl |rfl |rfl |ha |ha
 ·rw[h.Gd];simp
 ·rw[h.Z8];simp
 ·rw[h.hp];simp
 ·exact h.pa.Oa.1 a ha
 ·exact h.pa.Oa.2 a ha
theorem PZ.same(h:PZ K bs r0 row R pl sc H0 H o cur p ps ss vs)(s:ay H H1):PZ K bs r0 row R pl sc H0 H1 o cur p ps ss vs:=
 ⟨s _ _ h.Gd,s _ _ h.Z8,s _ _ h.hp,h.nd,h.fx.up (.of s),h.pa.same s,h.rt,h.zk,h.len,h.sm.trans s,h.fr⟩
theorem A9:∀b:List PG.du,b.length<=(PG.eP b).length
 |[]=>zaU _
 |s::r=>by
  have ih:=A9 r;unfold PG.eP at ih ⊢;rw[zaj] at ih ⊢;rw[PG.bG,zae,zaf];have:0<(PG.jo s).length:=by cases s<;>simp[PG.jo]
  lia
theorem PZ.Gf(h:PZ K bs r0 row R pl sc H0 H o cur p ps ss vs):(vs.length:Int)<=max 0 (row-r0):=by
 have h1:=PG.Hd h.zk.rise h.zk.rows;have h2:=PG.JT o [] cur;rw[za8] at h2;have h3:=congrArg zbs h2;rw[zae] at h3;have h4:=A9 cur;have h5:=h.fx.abl.length;rw[zaj] at h5;lia
theorem PZ.one(hR:H0 R=none)(Gd:H0 pl=none)(Z8:H0 sc=none)(n1:pl≠sc)(n2:pl≠R)(n3:sc≠R)(s:ay H0 H)(e1:H R=some (.lst []))(e2:H pl=some (.lst [.ref R]))(e3:H sc=some (.lst [.eB])):PZ K bs r0 r0 R pl sc H0 H [] [] R [] [.eB] []:=
 ⟨e2,e3,e1,by unfold Uo;simp[Z7,n1,n2,n3],.nil,.root,rfl,PG.Z5.nil,by simp,s,fun a ha=>by
  rcases LK.mp ha with rfl |rfl |rfl |h |h
  ·exact Gd
  ·exact Z8
  ·exact hR
  ·cases h
  ·simp at h⟩
end
theorem sV{tt:TT}{a b:TS}{D:Ends}{σ:St}{H:Hp}(h:∀U1 U2:St->Hp->Prop,(∀σ' H',U1 σ' H'↔a D σ' H')->(∀σ' H',U2 σ' H'↔b D σ' H')->tt σ H fun c H1=>if c=true then U1 σ H1 else U2 σ H1):R0 tt a b D σ H:=h (a D) (b D) (fun _ _=>Iff.rfl) fun _ _=>Iff.rfl
def nA (a:Int):List Int->Int
 |[]=>a
 |d::r=>nA (10*a+d+1) r
def Dg (g:List Int):Prop:=∀d∈g,0<=d/\d<=9
section
variable(led:PG.eG->List PG.eG)(s0:PG.eG)
inductive Cm:PG.eG->List Int->Prop
 |start:Cm s0 []
 |one {s t g}:Cm s g->led s=[t]->Cm t g
 |many {s t g} {i:Nat}:Cm s g->(led s).length≠1->(led s)[i]?=some t->Cm t (g++[(i:Int)])
end
section
variable{led:PG.eG->List PG.eG}{s0:PG.eG}
theorem Cm.Ui{S:PG.eG->Prop}(li:∀s,S s->∀x∈led s,S x)(h0:S s0){s:PG.eG}{g:List Int}(h:Cm led s0 s g):S s:=by
 induction h with
 |start=>exact h0
 |one _ e ih=>exact li _ ih _ (by rw[e];exact zad.mpr rfl)
 |many _ _ e ih=>exact li _ ih _ (zbj e)
structure BI(led:PG.eG->List PG.eG)(s0:PG.eG)(k:Nat)(f l:CO)(as:List (List Int×List PG.eG)):Prop where
 srt:f.Pairwise fun x y=>nA 0 x.2<=nA 0 y.2
 fl:∀x∈f,∀y∈l,nA 0 x.2<=nA 0 y.2
 ll:l.Pairwise fun x y=>nA 0 x.2<nA 0 y.2
 al:∀a∈as,∀y∈l,nA 0 a.1<nA 0 y.2
 aa:as.Pairwise fun a b=>nA 0 a.1<nA 0 b.1
 fk:∀x∈f,x.2.length<=k
 lk:∀x∈l,x.2.length=k
 ak:∀a∈as,a.1.length=k
 sf:∀x∈f,Cm led s0 x.1 x.2
 sl:∀x∈l,Cm led s0 x.1 x.2
 sa:∀a∈as,∃s,Cm led s0 s a.1/\a.2=led s/\(led s).length≠1
 c1:∀x∈f,∀t,led x.1=[t]->(∃y∈f,y.1=t/\nA 0 y.2<=nA 0 x.2)\/(t,x.2)∈l
 c2:∀x∈f,(led x.1).length≠1->∀(i:Nat) t,(led x.1)[i]?=some t->(∃y∈f,y.1=t/\nA 0 y.2<=nA 0 (x.2++[(i:Int)]))\/(t,x.2++[(i:Int)])∈l\/(x.2,led x.1)∈as
 st:(∃y∈f,y.1=s0/\nA 0 y.2<=0)\/(s0,[])∈l
section
variable{k:Nat}{f r:CO}{s:PG.eG}{g:List Int}{as:List (List Int×List PG.eG)}
theorem BI.skip(h:BI led s0 k f ((s,g)::r) as)(hs:s∈f.map (·.1)):BI led s0 k f r as:=by
 obtain⟨y,hy,ey⟩:=zaI.mp hs;have ny:=h.fl y hy (s,g) (zap ..);refine⟨h.srt,fun x hx z hz=>h.fl x hx z (zak _ hz),(zbY.mp h.ll).2,fun a ha z hz=>h.al a ha z (zak _ hz),h.aa,h.fk,fun x hx=>h.lk x (zak _ hx),h.ak,h.sf,fun x hx=>h.sl x (zak _ hx),h.sa,fun x hx t e=>?_,fun x hx n i t e=>?_,?_⟩
 ·rcases h.c1 x hx t e with z |z
  ·exact .inl z
  ·rcases zai.mp z with z |z
   ·cases z;exact .inl ⟨y,hy,ey,ny⟩
   ·exact .inr z
 ·rcases h.c2 x hx n i t e with z |z |z
  ·exact .inl z
  ·rcases zai.mp z with z |z
   ·cases z;exact .inl ⟨y,hy,ey,ny⟩
   ·exact .inr (.inl z)
  ·exact .inr (.inr z)
 ·rcases h.st with z |z
  ·exact .inl z
  ·rcases zai.mp z with z |z
   ·cases z;exact .inl ⟨y,hy,ey,ny⟩
   ·exact .inr z
theorem BI.put(h:BI led s0 k f ((s,g)::r) as){l:CO}{bs:List (List Int×List PG.eG)}(hl:l=r/\bs=[(g,led s)]/\(led s).length≠1\/∃t,led s=[t]/\l=(t,g)::r/\bs=[]):BI led s0 k (f++[(s,g)]) l (as++bs):=by
 have hg:=zap (a:=(s,g)) (l:=r);obtain⟨gr,rr⟩:=zbY.mp h.ll;have inr:∀x∈r,x∈l:=fun x hx=>by
  rcases hl with ⟨rfl,_⟩ |⟨t,_,rfl,_⟩
  ·exact hx
  ·exact zak _ hx
 have Z6:∀x∈l,x∈r\/x.2=g/\led s=[x.1]:=fun x hx=>by
  rcases hl with ⟨rfl,_⟩ |⟨t,e,rfl,_⟩
  ·exact .inl hx
  ·rcases zai.mp hx with rfl |hx
   ·exact .inr ⟨rfl,e⟩
   ·exact .inl hx
 have bin:∀a∈bs,a=(g,led s)/\l=r/\(led s).length≠1:=fun a ha=>by
  rcases hl with ⟨e,rfl,n⟩ |⟨t,e,rfl,rfl⟩
  ·exact⟨zad.mp ha,e,n⟩
  ·cases ha
 have nf:∀x∈f++[(s,g)],nA 0 x.2<=nA 0 g:=fun x hx=>by
  rcases zam.mp hx with hx |hx
  ·exact h.fl x hx _ hg
  ·rw[zad.mp hx];exact zbL _
 have ng:∀y∈l,nA 0 g<=nA 0 y.2:=fun y hy=>by
  rcases Z6 y hy with z |⟨z,_⟩
  ·exact Int.le_of_lt (gr y z)
  ·rw[z];exact zbL _
 have me:(s,g)∈f++[(s,g)]:=zaJ _ (zad.mpr rfl);have up:∀ {P:PG.eG×List Int->Prop},(∃y∈f,P y)->∃y∈f++[(s,g)],P y:=fun ⟨y,hy,p⟩=>⟨y,zaW _ hy,p⟩
 refine⟨zdu.mpr ⟨h.srt,zdc _ _,fun x hx y hy=>?_⟩,fun x hx y hy=>zcr (nf x hx) (ng y hy),?_,?_,?_,?_,?_,?_,?_,?_,?_,fun x hx t e=>?_,fun x hx n i t e=>?_,?_⟩
 ·rw[zad.mp hy];exact h.fl x hx _ hg
 ·rcases hl with ⟨rfl,_⟩ |⟨t,_,rfl,_⟩
  ·exact rr
  ·exact zbY.mpr ⟨fun y hy=>gr y hy,rr⟩
 ·intro a ha y hy;rcases zam.mp ha with ha |ha
  ·exact Int.lt_of_lt_of_le (h.al a ha _ hg) (ng y hy)
  ·obtain⟨rfl,rfl,_⟩:=bin a ha;exact gr y hy
 ·refine zdu.mpr ⟨h.aa,?_,fun a ha b hb=>?_⟩
  ·rcases hl with ⟨_,rfl,_⟩ |⟨_,_,_,rfl⟩
   ·exact zdc _ _
   ·exact .nil
  ·rw[(bin b hb).1];exact h.al a ha _ hg
 ·intro x hx;rcases zam.mp hx with hx |hx
  ·exact h.fk x hx
  ·rw[zad.mp hx];exact zdH (h.lk _ hg)
 ·intro x hx;rcases Z6 x hx with z |⟨z,_⟩
  ·exact h.lk x (zak _ z)
  ·rw[z];exact h.lk _ hg
 ·intro a ha;rcases zam.mp ha with ha |ha
  ·exact h.ak a ha
  ·rw[(bin a ha).1];exact h.lk _ hg
 ·intro x hx;rcases zam.mp hx with hx |hx
  ·exact h.sf x hx
  ·rw[zad.mp hx];exact h.sl _ hg
 ·intro x hx;rcases Z6 x hx with z |⟨z,e⟩
  ·exact h.sl x (zak _ z)
  ·rw[z];exact .one (h.sl _ hg) e
 ·intro a ha;rcases zam.mp ha with ha |ha
  ·exact h.sa a ha
  ·obtain⟨rfl,_,n⟩:=bin a ha;exact⟨s,h.sl _ hg,rfl,n⟩
 ·rcases zam.mp hx with hx |hx
  ·rcases h.c1 x hx t e with z |z
   ·exact .inl (up z)
   ·rcases zai.mp z with z |z
    ·cases z;exact .inl ⟨_,me,rfl,zbL _⟩
    ·exact .inr (inr _ z)
  ·rw[zad.mp hx] at e ⊢;rcases hl with ⟨_,_,n⟩ |⟨t',e',rfl,_⟩
   ·exact absurd (by rw[show led s=[t] from e];rfl) n
   ·rw[show led s=[t] from e] at e';cases e';exact .inr (zap ..)
 ·rcases zam.mp hx with hx |hx
  ·rcases h.c2 x hx n i t e with z |z |z
   ·exact .inl (up z)
   ·rcases zai.mp z with z |z
    ·cases z;exact .inl ⟨_,me,rfl,zbL _⟩
    ·exact .inr (.inl (inr _ z))
   ·exact .inr (.inr (zaW _ z))
  ·rw[zad.mp hx] at n ⊢;rcases hl with ⟨_,rfl,_⟩ |⟨t',e',_⟩
   ·exact .inr (.inr (zaJ _ (zad.mpr rfl)))
   ·exact absurd (by rw[show led s=[t'] from e'];rfl) n
 ·rcases h.st with z |z
  ·exact .inl (up z)
  ·rcases zai.mp z with z |z
   ·cases z;exact .inl ⟨_,me,rfl,zbL _⟩
   ·exact .inr (inr _ z)
end
variable{S:PG.eG->Prop}{M:Nat}
theorem BI.JP(li:∀s,S s->∀x∈led s,S x)(hM:∀f:CO,Qh S f->f.length<=M){k:Nat}:∀(n:Nat) (f r:CO) (s:PG.eG) (g:List Int) (as:List (List Int×List PG.eG)),M<f.length+n->Qh S f->S s->BI led s0 k f ((s,g)::r) as->BI led s0 k (JP led n f s g).1 r (as++LG g (JP led n f s g).2)
 |0,f,r,s,g,as,hn,o,_,_=>absurd (hM f o) (by lia)
 |n+1,f,r,s,g,as,hn,o,hs,h=>by
  rw[L2.JP];split
  ·rename_i RO;show BI led s0 k f r (as++[]);rw[zaN];exact h.skip RO
  ·rename_i RO;have o1:=o.put (g:=g) RO hs;split
   ·rename_i t e;have h2:=h.put (l:=(t,g)::r) (bs:=[]) (.inr ⟨t,e,rfl,rfl⟩);rw[zaN] at h2;exact BI.JP li hM n _ r t g as (by rw[zae,zaw];lia) o1 (li s hs t (by rw[e];exact zad.mpr rfl)) h2
   ·rename_i l1 ne;refine h.put (.inl ⟨rfl,rfl,fun z=>?_⟩);obtain⟨t,e⟩:=List.length_eq_one_iff.mp z;exact ne t e
theorem BI.all(li:∀s,S s->∀x∈led s,S x)(hM:∀f:CO,Qh S f->f.length<=M){k n:Nat}(hn:M<n):∀(l f:CO) (as:List (List Int×List PG.eG)),Qh S f->(∀x∈l,S x.1)->BI led s0 k f l as->BI led s0 k (LH led n f l).1 [] (as++(LH led n f l).2)
 |[],f,as,_,_,h=>by
  show BI led s0 k f [] (as++[]);rw[zaN];exact h
 |(s,g)::r,f,as,o,hl,h=>by
  have h1:=BI.JP li hM n f r s g as (by lia) o (hl _ (zap ..)) h;have o1:=(Qi li (m:=g.length) n f s g o (hl _ (zap ..)) (zah _)).1;have:=BI.all li hM hn r _ _ o1 (fun x hx=>hl x (zak _ hx)) h1;rw[zbg] at this;exact this
end
open PySem.Spec
def zm (N:zdP->Prop) (H:Hp) (P:List Int->Prop) (us:List V):Prop:=∀u∈us,∃a j3,u=.ref a/\N a/\H a=some (.lst (j3.map V.int))/\Dg j3/\P j3
theorem zm.nil{N:zdP->Prop}{H:Hp}{P:List Int->Prop}:zm N H P []:=fun u h=>by cases h
theorem zm.snoc{N:zdP->Prop}{H:Hp}{P:List Int->Prop}{us:List V}(h:zm N H P us){a:zdP}{j3:List Int}(n:N a)(y:H a=some (.lst (j3.map V.int)))(d:Dg j3)(p:P j3):zm N H P (us++[.ref a]):=fun u hu=>by
 rcases zam.mp hu with hu |hu
 ·exact h u hu
 ·rw[zad.mp hu];exact⟨a,j3,rfl,n,y,d,p⟩
theorem zm.keep{N M:zdP->Prop}{H H':Hp}{P:List Int->Prop}{us:List V}(h:zm N H P us)(k:∀a xs,N a->H a=some (.lst xs)->M a/\H' a=some (.lst xs)):zm M H' P us:=fun u hu=>by
 obtain⟨a,f,e,n,y,d⟩:=h u hu;exact⟨a,f,e,(k a _ n y).1,(k a _ n y).2,d⟩
structure M0(H:Hp)(D C G:zdP)(d:PG.Dk):Prop where
 sO:H D=some (.lst [.ref C,.int d.pos,.ref G,.int d.left,.int d.row,.int d.gap])
 cs:H C=some (.lst (d.cs.map V.int))
 gs:H G=some (.lst (d.gs.map V.bl))
 nDC:D≠C
 nDG:D≠G
 nCG:C≠G
 len:d.cs.length<=63
 gl:d.gs.length=d.cs.length
 pos:0<=d.pos
abbrev O2 (D C:zdP):zdP->Prop:=fun b=>b=D\/b=C
section
variable{H H':Hp}{D C G:zdP}{d:PG.Dk}
theorem M0.same(h:M0 H D C G d)(s:ay H H'):M0 H' D C G d:=⟨s _ _ h.sO,s _ _ h.cs,s _ _ h.gs,h.nDC,h.nDG,h.nCG,h.len,h.gl,h.pos⟩
theorem M0.put(h:M0 H D C G d){d':PG.Dk}(u:bX D H H')(y:H' D=some (.lst [.ref C,.int d'.pos,.ref G,.int d'.left,.int d'.row,.int d'.gap]))(e1:d'.cs=d.cs)(e2:d'.gs=d.gs)(p:0<=d'.pos):M0 H' D C G d':=by
 refine⟨y,?_,?_,h.nDC,h.nDG,h.nCG,?_,?_,p⟩
 ·rw[e1];exact u _ _ h.nDC.symm h.cs
 ·rw[e2];exact u _ _ h.nDG.symm h.gs
 ·rw[e1];exact h.len
 ·rw[e1,e2];exact h.gl
end
structure RT(D C:zdP)(H H':Hp):Prop where
 u:bK (O2 D C) H H'
 Oa:∀b,H b≠none->H' b≠none
section
variable{K:zab}{H0 H H1 H2:Hp}{D C:zdP}
theorem RT.refl:RT D C H H:=⟨.refl,fun _ h=>h⟩
theorem RT.trans(a:RT D C H H1)(b:RT D C H1 H2):RT D C H H2:=⟨a.u.trans b.u,fun z h=>b.Oa z (a.Oa z h)⟩
theorem RT.put(o:HO){p:zdP}(hp:p=D\/p=C):RT D C H (upd H p o):=⟨bK.refl.put hp o,fun b h=>by
 by_cases z:b=p
 ·subst z;rw[aj];simp
 ·rw[aq z];exact h⟩
theorem RT.get(a:RT D C H H1){b:zdP}{o:HO}(h:H b=some o)(n1:b≠D)(n2:b≠C):H1 b=some o:=a.u b o (fun z=>z.elim n1 n2) h
end
def sW (K:zab) (H:Hp) (ss:List PG.du) (fl:List PG.oV) (ps:List V):Prop:=∀(i:Nat) (s:PG.du) (f:PG.oV),ss[i]?=some s->fl[i]?=some f->∃p u wl,ps[i]?=some (.ref p)/\dF K H p [u,.ref wl]/\Rep K H (G1 s) u/\H wl=some (.lst (f.2.2.map V.int))
structure MdF(K:zab)(H:Hp)(md:zdP)(pr:PG.Prog):Prop where
 at_:∃(F N Z fa:zdP) (ps:List V),H md=some (.lst [.ref F,.ref N,.ref Z,.ref fa])/\ps.length=(PG.bG pr.body).length/\H F=some (.dK (zl (PG.bG pr.body) ps))/\sW K H (PG.bG pr.body) (PG.cQ pr.body 0) ps/\H N=some (.lst (pr.bT.map fun b=>V.str (S b.name)))/\H Z=some (.lst (pr.bT.map fun b=>V.int b.size))/\hJ K H fa (PG.dv pr.body 0) (pr.bT.map (·.first))
theorem sW.mono{K:zab}{H H':Hp}{ss:List PG.du}{fl:List PG.oV}{ps:List V}(h:sW K H ss fl ps)(s:ay H H'):sW K H' ss fl ps:=fun i x f e1 e2=>by
 obtain⟨p,u,wl,h1,h2,h3,h4⟩:=h i x f e1 e2;exact⟨p,u,wl,h1,s.gK h2,h3.mono s,s _ _ h4⟩
theorem MdF.mono{K:zab}{H H':Hp}{md:zdP}{pr:PG.Prog}(h:MdF K H md pr)(s:ay H H'):MdF K H' md pr:=by
 obtain⟨F,N,Z,fa,ps,h1,h2,h3,h4,h5,h6,h7⟩:=h.at_;exact⟨⟨F,N,Z,fa,ps,s _ _ h1,h2,s _ _ h3,h4.mono s,s _ _ h5,s _ _ h6,h7.mono s⟩⟩
theorem sW.nil{K:zab}{H:Hp}:sW K H [] [] []:=fun i s f e=>by simp at e
theorem sW.one{K:zab}{H:Hp}{s:PG.du}{f:PG.oV}{p wl:zdP}{u:V}(h1:dF K H p [u,.ref wl])(h2:Rep K H (G1 s) u)(h3:H wl=some (.lst (f.2.2.map V.int))):sW K H [s] [f] [.ref p]:=fun i x g e1 e2=>by
 cases i with
 |zero=>cases e1;cases e2;exact⟨p,u,wl,rfl,h1,h2,h3⟩
 |succ i=>simp at e1
open Builtin Builtin.Str PySem.StrLaws
def av (c:Nat):W->List W
 |[]=>[[]]
 |x::r=>if x=c then []::av c r else match av c r with
  |[]=>[[x]]
  |h::t=>(x::h)::t
def vM (c:Nat):Nat->W->List Nat
 |_,[]=>[]
 |k,x::r=>if x=c then k::vM c (k+1) r else vM c (k+1) r
theorem cU(c:Nat):∀w,av c w≠[]
 |[]=>by simp[av]
 |x::r=>by
  unfold av;split
  ·simp
  ·split<;>simp
theorem Wk(c:Nat)(w:W):∀(r pre:W) (acc:Array Nat) (fr:Nat),w=pre++r->acc.size<=pre.length->fr<=pre.length->
 (forIn (List.range' pre.length (r.length+1)) (acc,fr) (occBody (S w) (S [c]) w.length (w.length+1))).run.fst.toList=acc.toList++vM c pre.length r:=by
 intro r
 induction r with
 |nil=>
  intro pre acc fr e ha hf;subst e;rw[zba,zdI,List.range'_one,zdh];unfold occBody;rw[if_neg (fun z=>by have q:pre.length+1<=(pre++[]).length:=z.1.2;rw[zaN] at q;lia)];simp[vM]
 |cons x r ih=>
  intro pre acc fr e ha hf;have hw:w.length=pre.length+(r.length+1):=by rw[e,zae,zaf]
  rw[zaf,List.range'_succ,zdh];have e2:w=(pre++[x])++r:=by rw[e];simp
  have SQ:=ih (pre++[x]);rw[zae,zaw] at SQ;have SR:subAt (S w) (S [c]) pre.length=decide (x=c):=by
   unfold subAt;show (w.toArray.extract pre.length (pre.length+1) == #[c])=_;rw[zdv,e];simp[List.extract];by_cases hx:x=c<;>simp[hx]
  unfold vM;by_cases hx:x=c
  ·unfold occBody;rw[if_pos ⟨⟨⟨by show acc.size<w.length+1;lia,hf⟩,by show pre.length+1<=w.length;lia⟩,by rw[SR,hx];simp⟩,if_pos hx];show (forIn _ (acc.push pre.length,pre.length+1) (occBody (S w) (S [c]) w.length (w.length+1))).run.fst.toList=_;rw[SQ _ _ e2 (by rw[Array.size_push];lia) (zah _)];simp
  ·unfold occBody;rw[if_neg (fun z=>hx (by have:=z.2;rw[SR] at this;simpa using this)),if_neg hx];exact SQ _ _ e2 (by lia) (by lia)
theorem Na(c:Nat)(w:W):occurrences (S w) (S [c]) 0 (S w).length ((S w).length+1)=vM c 0 w:=by
 rw[occ_eq];have h:=Wk c w w [] #[] 0 rfl (zah _) (zah _);rw[bZ];simpa using h
theorem Qo(c:Nat):∀(r pre:W) (k0:Nat),k0<=pre.length->
 ((k0::(vM c pre.length r).map (·+1)).zip (vM c pre.length r++[(pre++r).length])).map (fun p=>((pre++r).drop p.1).take (p.2-p.1))=((pre.drop k0)++(av c r).headD [])::(av c r).tail:=by
 intro r
 induction r with
 |nil=>
  intro pre k0 h;simp only[vM,av,zbV,za8,zaN,List.zip_cons_cons,List.zip_nil_right,zaq,zb4,List.tail_cons];rw[zbn (by rw[zaQ];exact zah _)]
 |cons x r ih=>
  intro pre k0 h;have e2:pre++x::r=(pre++[x])++r:=by simp
  by_cases hx:x=c
  ·have SQ:=ih (pre++[x]) (pre.length+1) (by simp);unfold vM av;rw[if_pos hx,if_pos hx];rw[zae,zaw] at SQ;rw[zaq,zaS,List.zip_cons_cons,zaq,e2,SQ];simp only[zb4,zaN,List.tail_cons]
   congr 1
   ·rw[<- e2,zcy h,List.take_append_of_le_length (by rw[zaQ];exact zah _)];exact zbn (by rw[zaQ];exact zah _)
   ·have hn:=cU c r;cases hs:av c r with
    |nil=>exact absurd hs hn
    |cons a b=>simp
  ·have SQ:=ih (pre++[x]) k0 (by rw[zae];lia);unfold vM av;rw[if_neg hx,if_neg hx];rw[zae,zaw] at SQ;rw[e2,SQ];have hn:=cU c r;cases hs:av c r with
   |nil=>exact absurd hs hn
   |cons a b=>
    simp[zcy h]
theorem He(c:Nat)(w:W)(h1:c<256):Txt.split (S w) (S [c])=(av c w).map S:=by
 have key:(if (occurrences (S w) (S [c]) 0 (S w).length ((S w).length+1)).isEmpty=true then [S w] else partsBetween (S w) (occurrences (S w) (S [c]) 0 (S w).length ((S w).length+1)) (S [c]).length)=(av c w).map S:=by
  rw[Na];have pg:=Qo c w [] 0 (zah _);have hb:partsBetween (S w) (vM c 0 w) (S [c]).length=(av c w).map S:=by
   have hn:=cU c w;have e3:(av c w).headD []::(av c w).tail=av c w:=by
    cases hs:av c w with
    |nil=>exact absurd hs hn
    |cons a b=>rfl
   rw[List.drop_nil,za8,za8,e3] at pg;rw[<- pg];unfold partsBetween;rw[zbE];show List.map _ (List.zip (0::List.map (fun x=>x+1) (vM c 0 w)) (vM c 0 w++[w.length]))=_;refine zcF fun p hp=>?_;obtain⟨i,j⟩:=p;show strSub (S w) i j=S _;unfold strSub S;rw[zdv]
  split
  ·rename_i hi;have RN:vM c 0 w=[]:=by simpa using hi
   rw[<- hb,RN];show [S w]=[strSub (S w) 0 (S w).length];unfold strSub
   congr 1
   unfold S Str.length;simp
  ·exact hb
 unfold Txt.split;rw[key];split
 ·rename_i hk;have hz:w.length<1\/Builtin.Str.strKind (S w)<Builtin.Str.strKind (S [c]):=by
   rcases zdy.mp hk with z |z
   ·exact .inl (of_decide_eq_true z)
   ·exact .inr (of_decide_eq_true z)
  rcases hz with hz |hz
  ·have:w=[]:=zbb.mp (by lia);subst this;rfl
  ·exfalso
   have e1:Builtin.Str.strKind (S [c])=1:=by unfold Builtin.Str.strKind;rw[if_pos (by simp[S,h1])]
   have e2:1<=Builtin.Str.strKind (S w):=by unfold Builtin.Str.strKind;split<;>(try split)<;>lia
   lia
 ·rfl
theorem Em:∀(L:List W) (k:Nat),Vals (L.map sv) (strsFrom k (L.map S))
 |[],_=>.nil
 |w::L,k=>.cons ⟨k,rfl⟩ (Em L (k+1))
theorem qT(c:Nat):∀w:W,(av c w).length<=w.length+1
 |[]=>by simp[av]
 |x::r=>by
  have ih:=qT c r;unfold av;split
  ·rw[zaf,zaf];lia
  ·split
   ·simp
   ·rename_i h t e;rw[e] at ih;rw[zaf] at ih ⊢;rw[zaf];lia
theorem Bj{X:Cx}:OL X "str.split" (fun x vs H Q=>∃(w:W) (c:Nat),x=sv w/\vs=[sv [c]]/\c<256/\w.length<=4000000/\∀a,H a=none->Q (.ref a) (upd H a (.lst ((av c w).map sv)))):=by
 intro pins s σ H x vs v us Q I rx rv h;obtain⟨w,c,rfl,rfl,hc,hl,q⟩:=h;obtain⟨t,rfl⟩:=(show ∃t,v=Value.str (S w) t from rx)
 obtain⟨u,rfl,ru⟩:=vals1 rv;obtain⟨tu,rfl⟩:=(show ∃t,u=Value.str (S [c]) t from ru)
 have line:zdX=2 ^ 24:=rfl;have Mv:=He c w hc;have hll:=qT c w;have hw:(S w).length<=zdX:=by rw[bZ];lia
 have hy:((S [c]).length==0)=false:=rfl;have fin:∀(bp:List zdQ) (k:Nat),Vals ((av c w).map sv) bp->EP X pins σ Q (.ref s.heap.objs.size) {s with heap:=s.heap.push {cls:=.type "list",data:=.seq bp.toArray},toks:=k}:=fun bp k r=>
  ⟨.ref s.heap.objs.size,_,I.laid (t':=k) (fun b o e=>Heap.get?_push_of_some _ e) (zah _) (show fP X.prog X.w _ _ _ (.lst ((av c w).map sv)) from ⟨by rw[zaj];lia,bp,0,r,Heap.get?_push_size _ rfl⟩),rfl,q _ (I.eC.fresh (zah _))⟩
 have self:Txt.split (S w) (S [c])=[S w]->Vals ((av c w).map sv) [Value.str (S w) t]:=fun e=>by
  have e1:(av c w).map S=[S w]:=Mv.symm.trans e;have e2:av c w=[w]:=by
   cases hs:av c w with
   |nil=>exact absurd hs (cU c w)
   |cons a b=>
    rw[hs,zaq] at e1;have z1:=GQ.mp (List.head_eq_of_cons_eq e1);have z2:=List.map_eq_nil_iff.mp (List.tail_eq_of_cons_eq e1);rw[z1,z2]
  rw[e2];exact .cons ⟨t,rfl⟩ .nil
 rcases zc7 (decide ((S w).length<(S [c]).length) ||decide (Builtin.Str.strKind (S w)<Builtin.Str.strKind (S [c]))) with h1 |h1
 ·refine call_meets F.slot_str_split (typeIs_str _ _ _) F.entry_str_split (F.args_str_split_2 _ _) (meets_str_split_cannot_occur (S w) (S [c]) t tu h1) ?_;exact fin _ s.toks (self (if_pos h1))
 ·rcases zc7 (occurrences (S w) (S [c]) 0 (S w).length ((S w).length+1)).isEmpty with hf |hf
  ·refine call_meets F.slot_str_split (typeIs_str _ _ _) F.entry_str_split (F.args_str_split_2 _ _) (meets_str_split_not_found (S w) (S [c]) t tu h1 hy hf) ?_;exact fin _ s.toks (self ((if_neg (ne_true_of_eq_false h1)).trans (if_pos hf)))
  ·have e1:partsBetween (S w) (occurrences (S w) (S [c]) 0 (S w).length ((S w).length+1)) (S [c]).length=(av c w).map S:=
    ((if_neg (ne_true_of_eq_false h1)).trans (if_neg (ne_true_of_eq_false hf))).symm.trans Mv
   refine call_meets F.slot_str_split (typeIs_str _ _ _) F.entry_str_split (F.args_str_split_2 _ _) (meets_str_split_sep (S w) (S [c]) t tu h1 hy hf hw (by rw[e1,zaj];lia)) ?_;rw[e1];exact fin _ _ (Em _ _)
def cM (c:Nat):List W->W
 |[]=>[]
 |w::L=>w++(L.map fun x=>c::x).flatten
theorem sX(c:Nat):∀L:List W,(cM c L).length<=L.flatten.length+L.length
 |[]=>zah _
 |w::L=>by
  have:∀L:List W,((L.map fun x=>c::x).flatten).length=L.flatten.length+L.length:=fun L=>by
   induction L with
   |nil=>rfl
   |cons a b ih=>simp only[zaq,zaP,zae,zaf,ih];lia
  unfold cM;rw[zae,this,zaP,zae,zaf];lia
theorem j4{c:Nat}:∀ {L:List W},L≠[]->(∀w∈L,c ∉ w)->av c (cM c L)=L:=by
 have one:∀(w r:W),c ∉ w->av c (w++c::r)=w::av c r:=fun w r h=>by
  induction w with
  |nil=>simp[av]
  |cons x w ih=>
   have hx:x≠c:=fun z=>h (z▸zap);rw[zaS]
   conv=>lhs;unfold av
   rw[if_neg hx,ih fun z=>h (zak _ z)]
 have last:∀w:W,c ∉ w->av c w=[w]:=fun w h=>by
  induction w with
  |nil=>rfl
  |cons x w ih=>
   have hx:x≠c:=fun z=>h (z▸zap);unfold av;rw[if_neg hx,ih fun z=>h (zak _ z)]
 have all:∀(L:List W) (w:W),c ∉ w->(∀w∈L,c ∉ w)->av c (w++(L.map fun x=>c::x).flatten)=w::L:=fun L=>by
  induction L with
  |nil=>intro w h _;rw[zbV,zci,zaN];exact last w h
  |cons a b ih=>
   intro w h hL;rw[zaq,zaP,zaS,one _ _ h,ih a (hL a zap) fun z hz=>hL z (zak _ hz)]
 intro L h0 h
 match L,h0 with
 |w::L,_=>exact all L w (h w zap) fun z hz=>h z (zak _ hz)
theorem JV(c:Nat):∀L:List W,Builtin.Str.glued (S [c]) (L.map S)=S (cM c L)
 |[]=>rfl
 |w::L=>by
  have key:∀(L:List W) (acc:W),((L.map S).foldl (fun acc p=>acc++(S [c]).cps++p.cps) acc.toArray)=(acc++(L.map fun x=>c::x).flatten).toArray:=by
   intro L
   induction L with
   |nil=>intro acc;simp
   |cons x r ih=>
    intro acc;rw[zaq,zaO];have e:acc.toArray++(S [c]).cps++(S x).cps=(acc++c::x).toArray:=by
     show acc.toArray ++ #[c]++x.toArray=_;simp
    rw[e,ih];simp
  show (⟨(L.map S).foldl (fun acc p=>acc++(S [c]).cps++p.cps) (S w).cps⟩:Str)=_;rw[show (S w).cps=w.toArray from rfl,key L w];rfl
theorem Qp{X:Cx}:OL X "str.join" (fun x vs H Q=>∃(a:zdP) (L:List W) (c:Nat),x=sv [c]/\vs=[.ref a]/\gI X.K H a (L.map sv)/\L.flatten.length+L.length<=4000000/\Q (sv (cM c L)) H):=by
 intro pins s σ H x vs v us Q I rx rv h;obtain⟨a,L,c,rfl,rfl,hS,hl,q⟩:=h;obtain⟨t,rfl⟩:=(show ∃t,v=Value.str (S [c]) t from rx)
 obtain⟨u,rfl,ru⟩:=vals1 rv;cases (show u=Value.ref a from ru);obtain⟨bp,r,p,_⟩:=I.list hS;obtain⟨l,rfl,el⟩:=vF r;have line:zdX=2 ^ 24:=rfl;have fold:∀(xs:List Str) (n:Nat),xs.foldl (fun a x=>a+x.length+(S [c]).length) n=n+((xs.map (·.length)).sum+xs.length):=by
  intro xs
  induction xs with
  |nil=>intro n;simp
  |cons y ys ih=>intro n;rw[zaO,ih,zaq,zby,zaf,show (S [c]).length=1 from rfl];lia
 have tot:((L.map S).map (·.length)).sum=L.flatten.length:=by
  rw[zbE,zdz]
  congr 1
 have hlen:Builtin.Str.tooLong ((l.map (·.1)).toArray.foldl (· + ·.length+(S [c]).length) 0)=false:=by
  rw[List.foldl_toArray,el,fold,tot,zaj];unfold Builtin.Str.tooLong;rw[decide_eq_false_iff_not];lia
 have fit:(S (cM c L)).length<=zdX:=by
  rw[bZ];have:=sX c L;lia
 refine call_meets F.slot_str_join (typeIs_str s _ _) F.entry_str_join (F.args_str_join_2 _ _) (meets_str_join_list (S [c]) t a l hlen) ⟨p.isList,?_⟩;have IY:∀tk,EP X pins σ Q (.str (S (cM c L)) tk) {s with toks:=s.toks+1}:=fun tk=>⟨sv (cM c L),H,I.tok _,⟨_,rfl⟩,q⟩
 have VR:∀tk,EP X pins σ Q (.str (S (cM c L)) tk) s:=fun tk=>⟨sv (cM c L),H,I,⟨_,rfl⟩,q⟩
 have eg:Builtin.Str.glued (S [c]) (l.map (·.1))=S (cM c L):=by rw[el,JV]
 match l,el,eg with
 |[],el,eg=>
  refine⟨?_,?_⟩
  ·show (Builtin.Str.glued (S [c]) []).length<=zdX;have JJ:Builtin.Str.glued (S [c]) []=S (cM c L):=eg;rw[JJ];exact fit
  ·have JJ:Builtin.Str.glued (S [c]) []=S (cM c L):=eg;show wants _ _ (.ok (.ret (.str (Builtin.Str.glued (S [c]) []) _))) _;rw[JJ];exact IY _
 |[x],el,eg=>
  have JJ:Builtin.Str.glued (S [c]) [x.1]=S (cM c L):=eg;have e1:Builtin.Str.glued (S [c]) [x.1]=x.1:=rfl;have e2:x.1=S (cM c L):=e1.symm.trans JJ;simp only[joinMade,Made.post];have:=VR x.2;rw[<- e2] at this;exact this
 |x::y::r,el,eg=>
  have JJ:Builtin.Str.glued (S [c]) ((x::y::r).map (·.1))=S (cM c L):=eg;refine⟨?_,?_⟩
  ·show (Builtin.Str.glued (S [c]) ((x::y::r).map (·.1))).length<=zdX;rw[JJ];exact fit
  ·show wants _ _ (.ok (.ret (.str (Builtin.Str.glued (S [c]) ((x::y::r).map (·.1))) _))) _;rw[JJ];exact IY _
def Up (te:TE):TE:=fun σ H Q=>te σ H fun x H1=>(∃i:Int,x=.int i/\i.natAbs<2 ^ 64/\Q (.str (zac (toString i))) H1)\/∃z,x=.str z/\z.length<=zdX/\Q (.str z) H1
def YK:List TE->St->Str->Hp->(Str->Hp->Prop)->Prop
 |[],_,acc,H,R=>R acc H
 |t::ts,σ,acc,H,R=>t σ H fun x H1=>∃y,x=.str y/\(acc++y).length<=zdX/\YK ts σ (acc++y) H1 R
def tFs (ts:List TE):TE:=fun σ H Q=>YK ts σ Str.empty H fun z H1=>Q (.str z) H1
inductive YL(X:Cx):List Expr->List TE->Prop
 |nil:YL X [] []
 |cons {e es t ts}:PE X e t->YL X es ts->YL X (e::es) (t::ts)
section
variable{X:Cx}{e e2:Expr}{es:List Expr}{te:TE}{ts:List TE}{pos:Pos}
theorem wZ(he:PE X e te):PE X (.FormattedValue e (-1) none pos) (Up te):=by
 intro pins s σ H Q I h;refine wpAny_FormattedValue_plain (fA (he pins s σ H _ I h) fun v s1 zq=>?_);obtain⟨x,H1,I1,r,q⟩:=zq;rcases q with ⟨i,rfl,hi,q⟩ |⟨z,rfl,hz,q⟩
 ·obtain⟨t,rfl⟩:=(show ∃t,v=Value.int i t from r)
  have hl:i.natAbs.log2<1920:=by
   by_cases h0:i.natAbs=0
   ·rw[h0];decide
   ·exact zdL ((zdO h0).mpr hi) (by decide)
  exact wpAny_formatField_int hl ⟨.str (zac (toString i)),H1,(I1.tok _).tok _,⟨_,rfl⟩,q⟩
 ·obtain⟨t,rfl⟩:=(show ∃t,v=Value.str z t from r)
  exact wpAny_formatField_str ⟨.str z,H1,I1,⟨_,rfl⟩,q⟩ ⟨.str z,H1,I1.tok _,⟨_,rfl⟩,q⟩ hz
theorem Qq(h:YL X es ts):∀(pins:List (zdP×Obj)) (s:zdZ) (σ:St) (H:Hp) (acc:Str) (R:Str->Hp->Prop),Inv X pins σ H s->acc.length<=zdX->YK ts σ acc H R->
 Joins (model X.prog X.w) X.A X.xe (evalEach es X.env) acc (fun out s1=>out.length<=zdX/\∃H1,Inv X pins σ H1 s1/\R out H1) s:=by
 induction h with
 |nil=>intro pins s σ H acc R I ha h;exact⟨ha,H,I,h⟩
 |cons h1 _ ih=>
  intro pins s σ H acc R I ha h;refine fA (h1 pins s σ H _ I h) fun v s1 zq=>?_;obtain⟨x,H1,I1,r,y,rfl,hy,q⟩:=zq;obtain⟨t,rfl⟩:=(show ∃t,v=Value.str y t from r)
  exact⟨y,t,rfl,hy,ih pins s1 σ H1 _ R I1 hy q⟩
theorem Bk{M:Model}{A:zd0}{E:zdQ->zdZ->Prop}{Q Q':Str->zdZ->Prop}(h:∀z s,Q z s->Q' z s):∀(l:List (Sem zdQ)) (acc:Str) (s:zdZ),Joins M A E l acc Q s->Joins M A E l acc Q' s
 |[],_,_,q=>h _ _ q
 |x::l,acc,s,q=>wpAny_mono q (fun v s1 ⟨y,t,e,hy,z⟩=>⟨y,t,e,hy,Bk h l _ s1 z⟩) fun _ _ z=>z
theorem oY{ts:List TE}(h:YL X (e::e2::es) ts):PE X (.JoinedStr (e::e2::es) pos) (tFs ts):=by
 intro pins s σ H Q I hq;refine wpAny_JoinedStr (Bk (fun z s1 zq=>?_) _ _ _ (Qq h pins s σ H Str.empty _ I (by decide) hq));obtain⟨hz,H1,I1,q⟩:=zq;exact⟨hz,.str z,H1,I1.tok _,⟨_,rfl⟩,q⟩
end
open AutoSeq1 (wpAny_loadPart')
set_option maxHeartbeats 1000000 in
theorem Nb(l:zdP)(items:Array zdQ)(n:Nat)(dct:Option zdP)(sl:Array (Option zdQ))(t:PySem.Tok) :
 Meets (Builtin.«enumerate.__new__» ⟨[.type "enumerate",.ref l],[("start",.int 1 t)]⟩) (fun _ R s=>s.heap.get? l=some {cls:=.type "list",dict:=dct,data:=.seq items n,slots:=sl}/\
  R (.ok (.ret (.ref (s.heap.push {cls:=.type "list_iterator",data:=.fields #[.ref l,.int 0 0]}).objs.size)))
   {s with heap:=(s.heap.push {cls:=.type "list_iterator",data:=.fields #[.ref l,.int 0 0]}).push {cls:=.type "enumerate",data:=.fields #[.none,.bool false,.ref s.heap.objs.size,rawInt 1,.none,.none]} }):=by
 refine .of_wp fun prog w A R s h=>?_;obtain⟨hp,g,d,tk,os⟩:=s;obtain⟨hl,h⟩:=h;have SR:=sub_enumerate;have hL:Heap.IsList (Shared.heap ⟨hp,g,d,tk,os⟩) l items:=⟨_,hl,rfl,n,rfl⟩
 wp_walk using wpAny_loadPart' hl
 refine wpAny_stack_any fun st=>zdT ?_;split
 ·rename_i c _ _ _ _ _;cases (c==Value.type "enumerate")
  ·wp_walk using wpAny_loadPart' hl,wpAny_pyIter_list hL
   exact⟨_,rfl,h⟩
  ·wp_walk using wpAny_loadPart' hl,wpAny_pyIter_list hL
   exact⟨_,rfl,h⟩
 ·wp_walk using wpAny_loadPart' hl,wpAny_pyIter_list hL
  exact⟨_,rfl,h⟩
theorem Nc{self a:zdQ}{kw:List (Str×zdQ)}(hl:typeLookup (.type "enumerate") "__init__"=pure (some (.builtin "object.__init__")))(hm:Bind.madeBy (.type "enumerate")=pure (some "enumerate.__new__")) :
 Meets (Builtin.«object.__init__» ⟨[self,a],kw⟩) (fun _ R s=>s.TypeIs self "enumerate"/\R (.ok (.ret .none)) s):=by
 refine Meets.of_wp fun prog w A R s hs=>?_;obtain⟨hT,hq⟩:=hs;have CL:(some "enumerate.__new__" != some "object.__new__")=true:=by decide
 repeat (any_goals (first |assumption |wp_step))
 exact⟨_,rfl,hq⟩
theorem Qr(a v:zdQ):checkTypeCall "enumerate" ⟨[a],[("start",v)]⟩=pure ():=by kernel_rfl
theorem Qs(a v:zdQ):checkBuiltinCall "enumerate.__new__" ⟨[.type "enumerate",a],[("start",v)]⟩=pure ():=by kernel_rfl
theorem Qt(a b v:zdQ):argsOk "object.__init__" ⟨[a,b],[("start",v)]⟩:=by
 unfold argsOk;rw[signature?_of (id:="object.__init__") (n:=['_', '_', 't', 'i', 'n', 'i', '_', '_']) (o:=['t', 'c', 'e', 'j', 'b', 'o']) (by kernel_rfl) F.owner_object]
 kernel_rfl
section
variable{prog:zd1}{w:zdR}{A:zd0}{E:zdQ->zdZ->Prop}{s:zdZ}
theorem JW{l:zdP}{items:Array zdQ}{t:PySem.Tok}{Q:zdQ->zdZ->Prop}(hL:s.heap.IsList l items)
 (h:∀h',IsEnum h' (s.heap.objs.size+1) s.heap.objs.size 1 .none->h'.IsListIter s.heap.objs.size l 0->h'.objs.size=s.heap.objs.size+2->
  (∀b o,s.heap.get? b=some o->h'.get? b=some o)->Q (.ref (s.heap.objs.size+1)) {s with heap:=h' }) :
 wpAny (model prog w) A (call (.type "enumerate") [.ref l] [("start",.int 1 t)]) Q E s:=by
 obtain⟨⟨c,dct,dt,sl⟩,hl,hc,n,hd⟩:=hL;replace hc:c=.type "list":=hc;replace hd:dt=.seq items n:=hd;subst hc hd;have ft:=F.called_enumerate;obtain⟨c,tl,ae4⟩:=ft.mro;have ade:=ft.made;have SR:=ft.sub;have hct:=Qr (.ref l) (.int 1 t);refine wpAny_call (codeAny_of_tree ?_);show wpAny _ _ (callAny (.type "enumerate") _) _ _ _;refine zdT ⟨Code.quiet_builtin _ (by decide +kernel),codeAny_builtin F.entry_type_call ?_⟩;rw[Around.under_plain (weight_type_call_type "enumerate" [.ref l] _) (units_type_call_type "enumerate" [.ref l] _)];have h1:=ft.notType;have h2:=ft.canCreate
 repeat (any_goals (first |assumption |wp_step))
 have hz:(s.heap.push {cls:=.type "list_iterator",data:=.fields #[.ref l,.int 0 0]}).objs.size=s.heap.objs.size+1:=Heap.size_push ..;have he:IsEnum ((s.heap.push {cls:=.type "list_iterator",data:=.fields #[.ref l,.int 0 0]}).push
  {cls:=.type "enumerate",data:=.fields #[.none,.bool false,.ref s.heap.objs.size,rawInt 1,.none,.none]}) (s.heap.objs.size+1) s.heap.objs.size 1 .none:=by
  have:=Heap.get?_push_size (s.heap.push {cls:=.type "list_iterator",data:=.fields #[.ref l,.int 0 0]})
   (o:={cls:=.type "enumerate",data:=.fields #[.none,.bool false,.ref s.heap.objs.size,rawInt 1,.none,.none]}) rfl
  rw[hz] at this;exact this
 have abH:=h _ he ⟨_,Heap.get?_push_of_some _ (Heap.get?_push_size _ rfl),rfl,rfl⟩ (by rw[Heap.size_push,hz]) fun b o x=>Heap.get?_push_of_some _ (Heap.get?_push_of_some _ x);refine codeAny_mono (codeAny_call_builtin ft.plain F.entry_enumerate_new (wpAny_of_eq (Qs _ _) (Nb l items n dct sl t prog w A.in1 (wants (fun obj s1=>obj=.ref (s.heap.objs.size+1)/\s1.TypeIs obj "enumerate"/\Q obj s1) E) s ⟨hl,?_⟩))) fun r s1 hr=>?_
 ·rw[hz];exact⟨rfl,⟨_,he,rfl⟩,abH⟩
 cases r with
 |error e=>exact hr
 |ok fl=>
  cases fl with
  |ret obj=>
   obtain⟨rfl,hT,hq⟩:=hr;have hli:=ft.init.lookup;have YM:=ft.init.bind (.ref (s.heap.objs.size+1))
   repeat (any_goals (first |assumption |wp_step))
   refine codeAny_mono (codeAny_call_builtin ft.init.plain F.entry_object_init (ft.init.check _ _ _ _ _ _ _ _ hT (Qt _ _ _) (Nc ft.init.lookup ft.made prog w A.in1 (wants (fun r s2=>r=.none/\Q (.ref (s.heap.objs.size+1)) s2) E) s1 ⟨hT,rfl,hq⟩))) fun r2 s2 hr2=>?_;cases r2 with
   |error e=>exact hr2
   |ok fl2=>
    cases fl2 with
    |ret r=>
     obtain⟨rfl,hq⟩:=hr2
     repeat (any_goals (first |assumption |wp_step))
    |_=>exact hr2.elim
  |_=>exact hr.elim
end
theorem LL{prog:zd1}{w:zdR}{A:zd0}{it:zdP}{fp:List zdP}{n:Nat}{P:Nat->zdQ->Prop}{St:Nat->Heap->Prop}(D:Draws prog w A it fp n P St) :
 Draws prog w A it fp (n+1) (fun j x=>∃i,j=i+1/\P i x) (fun j h=>∃i,j=i+1/\St i h) where
 live:=fun j h z=>by obtain⟨i,_,s⟩:=z;exact D.live i h s
 frame:=fun j h h' z k=>by obtain⟨i,e,s⟩:=z;exact⟨i,e,D.frame i h h' s k⟩
 item:=fun j s Q E hj z hQ=>by
  obtain⟨i,e,st⟩:=z;subst e;exact D.item i s Q E (by lia) st fun x h' tk p Gr sb=>hQ x h' tk ⟨i,rfl,p⟩ ⟨i+1,rfl,Gr⟩ sb
 done:=fun s Q E z hE=>by
  obtain⟨i,e,st⟩:=z;cases e;exact D.done s Q E st hE
def Qu (K:zab) (a:zdP):It:=
 ⟨fun i H=>∃xs x,gI K H a xs/\xs[i]?=some x,fun i H x H'=>∃p y,x=.ref p/\H p=none/\H'=upd H p (.tup [.int ((i+1:Nat):Int),y])/\∀xs,gI K H a xs->xs[i]?=some y,fun i H=>∃xs,gI K H a xs/\i=xs.length⟩
theorem JX{P:zd1}{w:zdR}{K:zab}{elts:List Expr}{x1}{pos:Pos}(a e it:zdP)(CL:e≠it) :
 Turn P w K (.Tuple elts x1 pos) (Qu K a) [e,it] e (fun i h=>(∃old,IsEnum h e it ((i+1:Nat):Int) old)/\h.IsListIter it a i) where
 mem:=by simp
 obj:=fun i h st b hb=>by
  obtain⟨⟨old,he⟩,o,eo,c,d⟩:=st;rcases zai.mp hb with rfl |hb
  ·exact⟨_,he,fun v z=>by cases (show Data.fields _=Data.cell v from z)⟩
  ·have z:b=it:=by simpa using hb
   subst z;exact⟨o,eo,fun v z=>by rw[d] at z;cases z⟩
 keep:=fun i h h' st k=>⟨st.1.elim fun old he=>⟨old,k e (by simp) _ he⟩,st.2.at fun o x=>k it (by simp) o x⟩
 item:=by
  intro X hP hw hK hc i pins s σ H E I hf st hg;subst hP hw hK;obtain⟨xs,x,hq,hx⟩:=hg;obtain⟨⟨old,he⟩,hit⟩:=st;obtain⟨bp,rv,p,hz⟩:=I.list hq;obtain⟨u,hu,ru⟩:=rv.get hx;have hil:i<bp.length:=(zar.mp hu).1;have nea:a≠it:=fun z=>by
   subst z;obtain⟨o,h1,h2,_⟩:=p.isList;obtain⟨o',h3,h4,_⟩:=hit;rw[h1] at h3;cases h3;rw[h2] at h4;exact absurd h4 (by decide)
  have nee:e≠a:=fun z=>by
   subst z;obtain⟨o,h1,h2,_⟩:=p.isList;have h3:=zaG.inj (h1.symm.trans he);rw[h3] at h2;exact absurd (show Value.type "enumerate"=Value.type "list" from h2) (by decide)
  have DD:=LL (Draws.list (prog:=X.prog) (w:=X.w) (A:=X.A.in1) (I.ok.hd hc) it a nea bp.toArray);refine wpAny_pyNext_enum_itemD (i:=i+1) DD he ⟨i,rfl,hit,p.isList⟩ (by simp;lia) CL (by simp[CL,nee]) fun u' h' tk hu' ho Gr hT XQ hk=>?_;obtain⟨i',ei,hpu⟩:=hu';obtain⟨i2,ei2,abK,_⟩:=Gr;cases ei;cases ei2;have eu:u'=u:=by
   have z:bp.toArray[i]?=some u':=hpu;rw[List.getElem?_toArray,hu] at z;exact(zaG.inj z).symm
  subst eu;refine⟨_,rfl,?_⟩;refine wpAny_letOwnedTupleGo_enum ho fun h2 he2 sb=>?_;have YN:e<s.heap.objs.size:=Heap.lt_size he;have YO:it<s.heap.objs.size:=by obtain⟨_,x,_⟩:=hit;exact Heap.lt_size x
  have I1:Inv X pins σ H {s with heap:=h2,toks:=tk+1}:=I.Ee (t':=tk+1) (fun b o hb q=>(sb.2 b fun z=>hb (by simp[z])).trans (hk b o (fun z=>hb (by simp[z])) (fun z=>hb (by simp[z])) q)) hf;have fr:H s.heap.objs.size=none:=I.eC.fresh (zah _);obtain⟨g0,g1,g2,g3,g4,g5⟩:=I.Oy (zah _) fr;have abL:h2.get? s.heap.objs.size=some {cls:=.type "tuple",data:=.seq #[.int ((i+1:Nat):Int) tk,u']}:=(sb.2 _ (zdG YN)).trans hT;have I2:=I1.told (o:=.tup [.int ((i+1:Nat):Int),x]) fr I.sz g1 g4 g5 ⟨(show (2:Nat)<=zdX by decide),[.int ((i+1:Nat):Int) tk,u'],.cons ⟨_,rfl⟩ (.cons ru .nil),⟨_,abL,rfl,_,rfl⟩⟩;refine⟨.ref s.heap.objs.size,_,I2,rfl,⟨_,x,rfl,fr,rfl,fun ys hy=>by rw[I.Gp hy hq];exact hx⟩,⟨⟨_,by exact_mod_cast he2⟩,abK.at fun o q=>(sb.2 it (Ne.symm CL)).trans q⟩,fun b hb=>?_⟩;rw[aq ?_]
  ·exact(hf b hb).1
  ·rcases zai.mp hb with rfl |hb
   ·exact zaR YN
   ·have z:b=it:=by simpa using hb
    subst z;exact zaR YO
 done:=by
  intro X hP hw hK hc i pins s σ H E I hf st hg;subst hP hw hK;obtain⟨xs,hq,hx⟩:=hg;obtain⟨⟨old,he⟩,hit⟩:=st;obtain⟨bp,rv,p,hz⟩:=I.list hq;have hl:=rv.length;have nea:a≠it:=fun z=>by
   subst z;obtain⟨o,h1,h2,_⟩:=p.isList;obtain⟨o',h3,h4,_⟩:=hit;rw[h1] at h3;cases h3;rw[h2] at h4;exact absurd h4 (by decide)
  have DD:=LL (Draws.list (prog:=X.prog) (w:=X.w) (A:=X.A.in1) (I.ok.hd hc) it a nea bp.toArray);refine wpAny_pyNext_enum_endD DD he ⟨i,?_,hit,p.isList⟩ fun h' eb=>⟨rfl,I.Ee (t':=s.toks) (fun b o hb q=>eb b o (fun z=>hb (by simp[z])) q) hf⟩
  rw[zau,hx,hl]
 self:=fun _ _ _ _ _ st h=>st.1.elim fun _ he=>wpAny_pyIter_enum he h
def JY (K:zab) (ta:TA):TI:=fun σ H R=>ta σ H fun vs H1=>∃a,vs=[.ref a]/\(∃xs,gI K H1 a xs)/\R (Qu K a) H1
theorem Qv{M:Model}{A:zd0}{E:zdQ->zdZ->Prop}{s:zdZ}{env:Env}{pos:Pos}{T:String}{e:Expr}{rest:List Expr}{Qw:List Keyword}{Q:zdQ->zdZ->Prop}
 (h:wpAny M A (spliced (backTo pos (zdV (e::rest) env))) (fun vs s1=>wpAny M A (evalAll ((backToKw pos (keywordEach Qw env)).map (·.2)))
  (fun bg s2=>wpAny M A (call (.type T) vs (((backToKw pos (keywordEach Qw env)).filterMap (·.1)).zip bg)) Q E s2) E s1) E s)
 (he:backTo pos (zdV (e::rest) env)=(false,eval e env)::backTo pos (zdV rest env):=by rfl)
 (AJ:(backTo pos (zdV (e::rest) env)).any (·.1)=false:=by rfl)
 (Vw:(backToKw pos (keywordEach Qw env)).all (·.1.isSome)=true:=by rfl)
 (hkw:(backToKw pos (keywordEach Qw env)).any (·.1.isNone)=false:=by rfl) :
 wpAny M A (callWith pos (.type T) [] (backTo pos (zdV (e::rest) env)) (backToKw pos (keywordEach Qw env))) Q E s:=by
 have h0:wpAny M A (evalArgs (.type T) true (backTo pos (zdV (e::rest) env)) (backToKw pos (keywordEach Qw env))) (fun a s1=>wpAny M A (call (.type T) ([]++a.pos) a.kw) Q E s1) E s:=by
  rw[he] at h ⊢;exact evalArgs_kwB Vw h
 unfold callWith;refine zdS (zdU (wpAny_mono h0 (fun a s1 h1=>zdS (wpAny_standAt ?_)) fun _ _ x=>x));simp only[AJ,hkw,zcT];refine zdS (zdT ?_);exact zdS (wpAny_mono h1 (fun r s2 hr=>zdS (zdU (wpAny_point (zdT hr)))) fun _ _ x=>x)
theorem Qx{X:Cx}{elts:List Expr}{x1}{tp:Pos}{a:Expr}{ta:TA}{p pos kp np:Pos}{k}(hg:Gl X "enumerate")(hm:X.mg "enumerate"=none)(ha:PA X [a] ta)(hs:zdV [a] X.env=[(false,eval a X.env)]:=by rfl) :
 PI X (.Tuple elts x1 tp) (.Call (.Name "enumerate" p) [a] [⟨some "start",.Constant (.int 1) k np,kp⟩] pos) (JY X.K ta):=by
 intro pins s σ H R I h;refine wpAny_Call_Name_kw (Ao I hg hm PyProof.Rows.Boot.«enumerate» (Qv (fA (ha pos pins s σ H _ I h) fun us s1 zq=>?_) (by rw[hs];rfl) (by rw[hs];rfl)));obtain⟨vs,H1,I1,r1,l,e,⟨xs,hq⟩,q⟩:=zq;subst e;cases r1 with
 |cons r rr=>
  cases rr;cases (show _=Value.ref l from r);refine kws_cons (wpAny_Constant_int ?_);refine kws_nil ?_;obtain⟨bp,rv,p,hz⟩:=I1.list hq;refine JW p.isList fun h' he hit XQ hk=>?_;refine wpAny_pyIter_enum he ?_;have fr:∀b,s1.heap.objs.size<=b->H1 b=none:=fun b hb=>I1.eC.fresh hb;refine⟨s1.heap.objs.size+1,[s1.heap.objs.size+1,s1.heap.objs.size],_,_,H1,rfl,I1.kept (t':=s1.toks+1) hk,JX l _ _ (Nat.succ_ne_self _),⟨⟨_,he⟩,hit⟩,fun b hb=>?_,q⟩;have Ja:s1.heap.objs.size<=b:=by
   rcases zai.mp hb with rfl |hb
   ·exact Nat.le_succ _
   ·have z:b=s1.heap.objs.size:=by simpa using hb
    rw[z];exact zah _
  exact I1.Oy Ja (fr b Ja)
theorem Nd{K:zab}{a:zdP}{xs:List V}{g:TG}{tb:TS}{D:Ends}{σ:St}{H:Hp}(Pv:Nat->St->Hp->Prop)(h0:Pv 0 σ H)(hl:∀i σ H,i<=xs.length->Pv i σ H->gI K H a xs)
 (hs:∀i x σ H p,xs[i]?=some x->Pv i σ H->H p=none->g (.ref p) σ (upd H p (.tup [.int ((i+1:Nat):Int),x])) fun σ2 H2=>tb {D with nx:=Pv (i+1),ct:=Pv (i+1),bk:=D.nx} σ2 H2) (hd:∀σ H,Pv xs.length σ H->D.nx σ H) :
 ∃W:Nat->Nat->St->Hp->Prop,(∃m,W 0 m σ H)/\∀i m σ H,W i m σ H->
  ((Qu K a).stop i H/\D.nx σ H)\/((Qu K a).go i H/\∃N:St->Hp->Prop,(∀σ' H',N σ' H'->∃m',m'<m/\W (i+1) m' σ' H')/\∀x H',(Qu K a).Gb i H x H'->g x σ H' fun σ2 H2=>tb {D with nx:=N,ct:=N,bk:=D.nx} σ2 H2):=by
 refine⟨fun i m σ H=>m=xs.length-i/\i<=xs.length/\Pv i σ H,⟨xs.length,by simp,zaU _,h0⟩,?_⟩
 rintro i m σ H ⟨rfl,hi,p⟩
 have q:=hl i σ H hi p;by_cases lQ:i<xs.length
 ·refine .inr ⟨⟨xs,xs[i],q,by simp[lQ]⟩,Pv (i+1),fun σ' H' p'=>⟨xs.length-(i+1),by lia,rfl,lQ,p'⟩,fun x H' y=>?_⟩;obtain⟨pp,v,rfl,hn,rfl,y⟩:=y;exact hs i v σ H pp (y xs q) p hn
 ·have e:i=xs.length:=by lia
  subst e;exact .inl ⟨⟨xs,q,rfl⟩,hd σ H p⟩
end L2
namespace PM
def lC:Tr->List W
 |.num _=>[]
 |.box x=>[x]
 |.bin _ l r=>lC l++lC r
def Oe:Tr->Prop
 |.bin o l r=>(o=[42]\/o=[43]\/o=[45])/\Oe l/\Oe r
 |.box x=>isName x=true
 |.num _=>True
theorem Oe.names:∀ {e:Tr},Oe e->∀x∈lC e,isName x=true
 |.num _,_,x,hx=>by cases hx
 |.box y,h,x,hx=>by cases zad.mp hx;exact h
 |.bin o l r,h,x,hx=>by
  rcases zam.mp hx with z |z
  ·exact Oe.names h.2.1 x z
  ·exact Oe.names h.2.2 x z
def Hg (f:P):Prop:=∀ps e r,f ps=some (e,r)->PG.A8 e+r.length<ps.length/\(lC e).length+r.length<=ps.length/\Oe e
theorem xY{ops:List W}{f:P}(h:Hg f)(ho:∀p∈ops,p=[42]\/p=[43]\/p=[45]):∀k e ps e' r,lq ops f k e ps=some (e',r)->Oe e->PG.A8 e'+r.length<=PG.A8 e+ps.length/\(lC e').length+r.length<=(lC e).length+ps.length/\Oe e'
 |0,e,ps,e',r,q,hp=>by simp only[lq,zaG.injEq,Prod.mk.injEq] at q;rw[<- q.1,<- q.2];exact⟨zah _,zah _,hp⟩
 |k+1,e,[],e',r,q,hp=>by simp only[lq,zaG.injEq,Prod.mk.injEq] at q;rw[<- q.2,<- q.1];exact⟨zah _,zah _,hp⟩
 |k+1,e,p::t,e',r,q,hp=>by
  unfold lq at q;split at q
  ·rename_i Vl;split at q
   ·cases q
   ·rename_i e2 r' hf;obtain⟨h1,h2,h0⟩:=h _ _ _ hf;obtain⟨h3,h4,h5⟩:=xY h ho k _ _ _ _ q ⟨ho p Vl,hp,h0⟩;have e1:PG.A8 (.bin p e e2)=max (PG.A8 e) (PG.A8 e2)+1:=rfl;have e3:(lC (.bin p e e2)).length=(lC e).length+(lC e2).length:=by show (lC e++lC e2).length=_;rw[zae]
    rw[e1] at h3;rw[e3] at h4;rw[zaf];exact⟨by lia,by lia,h5⟩
  ·simp only[zaG.injEq,Prod.mk.injEq] at q;rw[<- q.2,<- q.1];exact⟨zah _,zah _,hp⟩
theorem En{f:P}(h:Hg f):Hg (hG f):=fun ps e r q=>by
 unfold hG at q;split at q
 ·cases q
 ·rename_i e1 r1 hf;obtain⟨h1,h2,h0⟩:=h _ _ _ hf;obtain⟨h3,h4,h5⟩:=xY h (fun p hp=>.inl (zad.mp hp)) _ _ _ _ _ q h0;exact⟨by lia,by lia,h5⟩
theorem Hh{f:P}(h:Hg f):Hg (qO f):=fun ps e r q=>by
 unfold qO at q;split at q
 ·cases q
 ·rename_i e1 r1 hf;obtain⟨h1,h2,h0⟩:=En h _ _ _ hf;obtain⟨h3,h4,h5⟩:=xY (En h) (fun p hp=>.inr (by simpa using hp)) _ _ _ _ _ q h0;exact⟨by lia,by lia,h5⟩
theorem Hi{sub:P}(h:Hg sub):Hg (wK sub):=fun ps e r q=>by
 cases ps with
 |nil=>cases q
 |cons p t=>
  rw[eE] at q;rw[zaf];split at q
  ·simp only[zaG.injEq,Prod.mk.injEq] at q;rw[<- q.2,<- q.1];exact⟨by show 0+t.length<_;lia,by show 0+t.length<=_;lia,trivial⟩
  ·split at q
   ·rename_i hnm;simp only[zaG.injEq,Prod.mk.injEq] at q;rw[<- q.2,<- q.1];exact⟨by show 0+t.length<_;lia,by show 1+t.length<=_;lia,hnm⟩
   ·split at q
    ·split at q
     ·rename_i e1 q1 r1 hf;split at q
      ·simp only[zaG.injEq,Prod.mk.injEq] at q;rw[<- q.2,<- q.1];obtain⟨h1,h2,h0⟩:=h _ _ _ hf;rw[zaf] at h1 h2;exact⟨by lia,by lia,h0⟩
      ·cases q
     ·cases q
    ·cases q
theorem zo:∀n,Hg (factor n)
 |0=>Hi fun _ _ _ q=>by cases q
 |n+1=>Hi (Hh (zo n))
theorem vN{w:W}{t:Tr}(h:expr w=some t):PG.A8 t<60/\(lC t).length<=60/\Oe t:=by
 unfold expr at h;split at h
 ·cases h
 ·rename_i hl;split at h
  ·rename_i e q;obtain⟨h1,h2,h0⟩:=Hh (zo 5) _ _ _ q;cases h;have:=vB w;rw[zba] at h1 h2;exact⟨by lia,by lia,h0⟩
  ·cases h
inductive Fm where
 |box (n:W) (a b:Int) |ask (n:W) |put (n:W) (e:Tr) |say (e:Tr) |cond (k sg:W) (l r:Tr) |one (k:W)
 deriving DecidableEq
def nC:W:=[98,111,120]
def qU:W:=[97,115,107]
def qV:W:=[112,117,116]
def oO:W:=[115,97,121]
def gc:W:=[109,117,115,116]
def jV:W:=[105,102]
def cY:W:=[101,108,115,101]
def bY:W:=[119,104,105,108,101]
def eH:W:=[101,110,100]
def dw:W:=[115,116,111,112]
def lD (k:W):Nat:=if k=nC then 4 else if k=qU then 2 else if k=qV then 3 else if k=oO then 2 else if k=gc then 4 else if k=jV then 4 else if k=cY then 1 else if k=bY then 4 else if k=eH then 1 else if k=dw then 1 else 0
def oN (w:W):Option W:=if isName w then some w else none
def wz (w:W):Option Int:=if isNumber w then some (nu w) else none
def Qy (ws:List W):Option Fm:=(oN (ws.getD 1 [])).bind fun n=>(wz (ws.getD 2 [])).bind fun a=>(wz (ws.getD 3 [])).map (.box n a)
def Hj (ws:List W):Option Fm:=if ws.getD 2 []=[60]\/ws.getD 2 []=[61] then (expr (ws.getD 1 [])).bind fun l=>(expr (ws.getD 3 [])).map (.cond (ws.headD []) (ws.getD 2 []) l) else none
def cL (ws:List W):Option Fm:=
 if lD (ws.headD [])≠ws.length then none
 else if ws.headD []=nC then Qy ws
 else if ws.headD []=qU then (oN (ws.getD 1 [])).map .ask
 else if ws.headD []=qV then (oN (ws.getD 1 [])).bind fun n=>(expr (ws.getD 2 [])).map (.put n)
 else if ws.headD []=oO then (expr (ws.getD 1 [])).map .say
 else if ws.headD []=gc\/ws.headD []=jV\/ws.headD []=bY then Hj ws
 else some (.one (ws.headD []))
def YQ (e:Tr):Prop:=Oe e/\PG.A8 e<60/\(lC e).length<=60
theorem Af{w:W}{t:Tr}(h:expr w=some t):YQ t:=⟨(vN h).2.2,(vN h).1,(vN h).2.1⟩
def Wl:Fm->Prop
 |.box _ _ _=>False
 |.ask n=>isName n=true
 |.put n e=>isName n=true/\YQ e
 |.say e=>YQ e
 |.cond k _ l r=>(k=gc\/k=jV\/k=bY)/\YQ l/\YQ r
 |.one k=>k=dw
def FmA:Fm->Prop
 |.box _ _ _=>True
 |.one k=>k=cY\/k=eH\/k=dw
 |f=>Wl f
theorem Bm{w n:W}(h:oN w=some n):n=w/\isName n=true:=by
 unfold oN at h;split at h
 ·rename_i z;cases h;exact⟨rfl,z⟩
 ·cases h
theorem SS{ws:List W}{f:Fm}(hw:ws≠[])(h:cL ws=some f):FmA f:=by
 unfold cL at h;split at h
 ·cases h
 rename_i hc;split at h
 ·unfold Qy at h;cases hx:oN (ws.getD 1 []) with
  |none=>rw[hx] at h;cases h
  |some n=>
   rw[hx] at h;cases hy:wz (ws.getD 2 []) with
   |none=>rw[hy] at h;cases h
   |some a=>
    rw[hy] at h;cases hz:wz (ws.getD 3 []) with
    |none=>rw[hz] at h;cases h
    |some b=>rw[hz] at h;cases h;exact trivial
 rename_i nb;split at h
 ·cases hx:oN (ws.getD 1 []) with
  |none=>rw[hx] at h;cases h
  |some n=>rw[hx] at h;cases h;exact(Bm hx).2
 rename_i na;split at h
 ·cases hx:oN (ws.getD 1 []) with
  |none=>rw[hx] at h;cases h
  |some n=>
   rw[hx] at h;cases hy:expr (ws.getD 2 []) with
   |none=>rw[hy] at h;cases h
   |some e=>rw[hy] at h;cases h;exact⟨(Bm hx).2,Af hy⟩
 rename_i np;split at h
 ·cases hy:expr (ws.getD 1 []) with
  |none=>rw[hy] at h;cases h
  |some e=>rw[hy] at h;cases h;exact Af hy
 rename_i ns;split at h
 ·rename_i hk;unfold Hj at h;split at h
  ·cases hx:expr (ws.getD 1 []) with
   |none=>rw[hx] at h;cases h
   |some l=>
    rw[hx] at h;cases hy:expr (ws.getD 3 []) with
    |none=>rw[hy] at h;cases h
    |some r=>rw[hy] at h;cases h;exact⟨hk,Af hx,Af hy⟩
  ·cases h
 rename_i nk;cases h;have hp:lD (ws.headD [])≠0:=fun z=>hc (by rw[z];intro q;exact hw (zbb.mp q.symm));show ws.headD []=cY\/ws.headD []=eH\/ws.headD []=dw;generalize ws.headD []=k at *;unfold lD at hp;rw[if_neg nb,if_neg na,if_neg np,if_neg ns,if_neg (fun z=>nk (.inl z)),if_neg (fun z=>nk (.inr (.inl z)))] at hp;by_cases h1:k=cY
 ·exact .inl h1
 rw[if_neg h1,if_neg (fun z=>nk (.inr (.inr z)))] at hp;by_cases h2:k=eH
 ·exact .inr (.inl h2)
 rw[if_neg h2] at hp;by_cases h3:k=dw
 ·exact .inr (.inr h3)
 rw[if_neg h3] at hp;exact absurd rfl hp
inductive Er where
 |nD |uD |w5 |Ag |uE |twice |Hk |full |LN
 deriving DecidableEq
structure Df where
 w6:List W
 Of:Bool
 df:List Bool
def E8:Fm->List W
 |.ask n=>[n]
 |.put n e=>n::lC e
 |.say e=>lC e
 |.cond _ _ l r=>lC l++lC r
 |_=>[]
def Qz (d:Df) (n:W) (a b:Int):Except Er Df:=
 if d.Of then .error .uD else if ¬(2<=a/\a<=10/\b<a) then .error .uE else if n∈d.w6 then .error .twice else if d.w6.length=4 then .error .full else .ok {d with w6:=d.w6++[n]}
def sY (d:Df):Except Er Df:=if d.df.getLast?=some true then .ok {d with df:=d.df.dropLast++[false]} else .error .uD
def C5 (d:Df):Except Er Df:=if d.df=[] then .error .uD else .ok {d with df:=d.df.dropLast}
def opens:Fm->Option Bool
 |.cond k _ _ _=>if k=jV then some true else if k=bY then some false else none
 |_=>none
def rY (d:Df) (f:Fm):Except Er Df:=
 if (opens f).isSome/\d.df.length=5 then .error .Ag else if ∀n∈E8 f,n∈d.w6 then .ok {d with Of:=true,df:=d.df++(opens f).toList} else .error .LN
def nE (d:Df):Fm->Except Er Df
 |.box n a b=>Qz d n a b
 |.one k=>if k=cY then sY d else if k=eH then C5 d else rY d (.one k)
 |f=>rY d f
def dy:Df->List W->Except Er Df
 |d,[]=>.ok d
 |d,r::rs=>match cL (L2.av 32 r) with
  |none=>.error .nD
  |some f=>match nE d f with
   |.error e=>.error e
   |.ok d'=>dy d' rs
def Eo (rows:List W):Option Er:=if 80<rows.length then some .w5 else match dy ⟨[],false,[]⟩ rows with
 |.error e=>some e
 |.ok d=>if d.df=[] then none else some .Hk
end PM
namespace L2
open PySem PySem.Spec PyProof.Rows
def Hl:PM.Fm->Dp
 |.box n a b=>.tup [.str "box",.str (S n),.int a,.int b]
 |.ask n=>.tup [.str "ask",.str (S n)]
 |.put n e=>.tup [.str "put",.str (S n),mJ e]
 |.say e=>.tup [.str "say",mJ e]
 |.cond k sg l r=>.tup [.str (S k),.str (S sg),mJ l,mJ r]
 |.one k=>.tup [.str (S k)]
section
variable(K:zab)(CN:zdP)
def SU:Sp:=fun vs H Q E=>∃w:W,vs=[sv w]/\w.length<=4000000/\match PM.oN w with
 |none=>∀H',ay H H'->E (.ref CN) none H'
 |some _=>∀H',ay H H'->Q (sv w) H'
def Wm:Sp:=fun vs H Q E=>∃w:W,vs=[sv w]/\w.length<=4000000/\match PM.wz w with
 |none=>∀H',ay H H'->E (.ref CN) none H'
 |some n=>∀H',ay H H'->Q (.int n) H'
inductive E9(f:List W->Option PM.Fm)(vs:List V)(H:Hp)(Q:VK)(E:XK):Prop
 |mk (a:zdP) (ws:List W):vs=[.ref a]->H a=some (.lst (ws.map sv))->(∀w∈ws,w.length<=4000000)->ws.length=4->(f ws=none->∀H',ay H H'->E (.ref CN) none H')->(∀fm,f ws=some fm->∀v H',ay H H'->Rep K H' (Hl fm) v->Q v H')->E9 f vs H Q E
inductive QA(vs:List V)(H:Hp)(Q:VK)(E:XK):Prop
 |mk (row:W):vs=[sv row]->row.length<=3000000->(PM.cL (av 32 row)=none->∀H',ay H H'->E (.ref CN) none H')->(∀fm,PM.cL (av 32 row)=some fm->∀v H',ay H H'->Rep K H' (Hl fm) v->Q v H')->QA vs H Q E
inductive qu(n:Nat)(vs:List V)(H:Hp)(Q:VK)(E:XK):Prop
 |mk (v:V) (e:PM.Tr):vs=[v]->Rep K H (mJ e) v->PM.Oe e->PG.A8 e<n->(PM.lC e).length<=100->(∀l H',ay H H'->H l=none->H' l=some (.lst ((PM.lC e).map sv))->Q (.ref l) H')->qu n vs H Q E
end
theorem mU(c:Nat):∀w:W,∀x∈av c w,x.length<=w.length
 |[],x,h=>by
  cases zad.mp h;exact zah _
 |y::r,x,h=>by
  have ih:=mU c r;unfold av at h;rw[zaf];split at h
  ·rcases zai.mp h with rfl |h
   ·exact zaU _
   ·have:=ih x h;lia
  ·split at h
   ·cases zad.mp h;exact Nat.succ_le_succ (zaU _)
   ·rename_i a b e;rcases zai.mp h with rfl |h
    ·have:=ih a (by rw[e];exact zap);rw[zaf];lia
    ·have:=ih x (by rw[e];exact zak _ h);lia
def LO:List (W×Nat)->W->Nat
 |[],_=>0
 |p::l,k=>if k=p.1 then p.2 else LO l k
theorem Hm(k:W):∀l:List (W×Nat),((eL (κ:=Key) (l.map fun p=>((.inr (S p.1):Key),V.int p.2)) (.inr (S k))).getD (.int 0))=V.int (LO l k)
 |[]=>rfl
 |p::l=>by
  have ih:=Hm k l;unfold eL at ih ⊢;rw[zaq,zbw];unfold LO;by_cases h:k=p.1
  ·rw[if_pos h];have:decide ((Sum.inr (S p.1):Key)=Sum.inr (S k))=true:=decide_eq_true (by rw[h]);simp only[this];rfl
  ·rw[if_neg h];have:decide ((Sum.inr (S p.1):Key)=Sum.inr (S k))=false:=decide_eq_false fun z=>h (GQ.mp (Sum.inr.inj z)).symm;simp only[this];exact ih
theorem dH{k:W}{x:Str}{u:W}(e:x=S u):(sv k=V.str x)↔k=u:=by
 rw[e];exact gX
def abM:List (W×Nat):=[(PM.nC,4),(PM.qU,2),(PM.qV,3),(PM.oO,2),(PM.gc,4),(PM.jV,4),(PM.cY,1),(PM.bY,4),(PM.eH,1),(PM.dw,1)]
theorem QB(k:W):LO abM k=PM.lD k:=rfl
theorem xZ:zac "box"=S PM.nC:=by decide +kernel
theorem QC:zac "ask"=S PM.qU:=by decide +kernel
theorem QD:zac "put"=S PM.qV:=by decide +kernel
theorem QE:zac "say"=S PM.oO:=by decide +kernel
theorem Uq:zac "must"=S PM.gc:=by decide +kernel
theorem SV:zac "if"=S PM.jV:=by decide +kernel
theorem Hn:zac "else"=S PM.cY:=by decide +kernel
theorem sZ:zac "while"=S PM.bY:=by decide +kernel
theorem QF:zac "end"=S PM.eH:=by decide +kernel
theorem Ho:zac "stop"=S PM.dw:=by decide +kernel
def Fb {α:Type} (F:α->V->Prop) (l:List α) (us:List V):Prop:=us.length=l.length/\∀(i:Nat) x u,l[i]?=some x->us[i]?=some u->F x u
section
variable{α:Type}{F G:α->V->Prop}{l:List α}{us:List V}
theorem Fb.nil:Fb F [] []:=⟨rfl,fun i x u h=>by cases h⟩
theorem Fb.imp(h:Fb F l us)(f:∀x u,F x u->G x u):Fb G l us:=⟨h.1,fun i x u h1 h2=>f x u (h.2 i x u h1 h2)⟩
theorem Fb.snoc{x:α}{u:V}(h:Fb F l us)(f:F x u):Fb F (l++[x]) (us++[u]):=by
 refine⟨by rw[zae,zae,h.1];rfl,fun i y v h1 h2=>?_⟩;by_cases hi:i<l.length
 ·rw[zbq hi] at h1;rw[zbq (by rw[h.1];exact hi)] at h2;exact h.2 i y v h1 h2
 ·have h3:i<(l++[x]).length:=(zar.mp h1).1;rw[zae,zaw] at h3;have e:i=l.length:=by lia
  subst e;rw[zbm (zah _),zcq] at h1;rw[zbm (by rw[h.1];exact zah _),h.1,zcq] at h2;cases h1;cases h2;exact f
theorem Fb.drop(h:Fb F l us):Fb F l.dropLast us.dropLast:=by
 refine⟨by rw[za1,za1,h.1],fun i x u h1 h2=>?_⟩;have k1:i<l.dropLast.length:=(zar.mp h1).1;have k2:i<us.dropLast.length:=(zar.mp h2).1;rw[za1] at k1 k2;rw[zdm,if_pos k1] at h1;rw[zdm,if_pos k2] at h2;exact h.2 i x u h1 h2
theorem Fb.last{x:α}(h:Fb F l us)(hx:l.getLast?=some x):∃u,us.getLast?=some u/\F x u:=by
 rw[zbf] at hx;have k:l.length-1<l.length:=(zar.mp hx).1;have k2:us.length-1<us.length:=by rw[h.1];exact k
 refine⟨us[us.length-1],by rw[zbf];exact zag k2,?_⟩;exact h.2 (l.length-1) x _ hx (by rw[<- h.1];exact zag k2)
end
def Xm (O:zdP->Prop) (bx ns L:zdP):Prop:=O L/\L≠bx/\L≠ns
def JZ (K:zab) (H:Hp) (O:zdP->Prop) (bx ns:zdP) (k:Bool) (u:V):Prop:=∃a L x,u=.ref a/\dF K H a [.ref L,x]/\Xm O bx ns L/\if k=true then ∃L2,x=.ref L2/\Xm O bx ns L2 else x=.eB
def QG (K:zab) (H:Hp) (n:W) (u:V):Prop:=∃a r,u=.ref a/\dF K H a (sv n::r)
structure xK(K:zab)(CD:zdP)(O:zdP->Prop)(H:Hp)(p bx bd ns:zdP)(d:PM.Df)(m:Nat):Prop where
 own:∀b,O b->∃zs,H b=some (.lst zs)/\zs.length<=m
 Jb:O bx
 RU:O bd
 Ep:O ns
 d1:bx≠bd
 d2:bx≠ns
 d3:bd≠ns
 ins:∃dx,H p=some (.ins CD dx [("boxes",.ref bx),("body",.ref bd),("nest",.ref ns)])
 box:∃us,H bx=some (.lst us)/\Fb (QG K H) d.w6 us
 RV:∃ys,H bd=some (.lst ys)/\(ys=[]↔d.Of=false)
 Jc:∃us,H ns=some (.lst us)/\Fb (JZ K H O bx ns) d.df us
 nb:d.df≠[]->d.Of=true
section
variable{K:zab}{CD:zdP}{O:zdP->Prop}{H H':Hp}{p bx bd ns:zdP}{d:PM.Df}{m:Nat}
theorem JZ.imp{O':zdP->Prop}{k:Bool}{u:V}(h:JZ K H O bx ns k u)(t:∀a xs,dF K H a xs->dF K H' a xs)(i:∀b,O b->O' b):JZ K H' O' bx ns k u:=by
 obtain⟨a,L,x,e,h1,h2,h3⟩:=h;refine⟨a,L,x,e,t _ _ h1,⟨i _ h2.1,h2.2⟩,?_⟩;cases k with
 |false=>exact h3
 |true=>
  obtain⟨L2,e2,h4⟩:=h3;exact⟨L2,e2,i _ h4.1,h4.2⟩
theorem QG.imp{n:W}{u:V}(h:QG K H n u)(t:∀a xs,dF K H a xs->dF K H' a xs):QG K H' n u:=by
 obtain⟨a,r,e,h1⟩:=h;exact⟨a,r,e,t _ _ h1⟩
theorem xK.mono(h:xK K CD O H p bx bd ns d m)(s:ay H H'):xK K CD O H' p bx bd ns d m where
 own:=fun b hb=>by obtain⟨zs,e,l⟩:=h.own b hb;exact⟨zs,s _ _ e,l⟩
 Jb:=h.Jb
 RU:=h.RU
 Ep:=h.Ep
 d1:=h.d1
 d2:=h.d2
 d3:=h.d3
 ins:=by obtain⟨dx,e⟩:=h.ins;exact⟨dx,s _ _ e⟩
 box:=by obtain⟨us,e,i⟩:=h.box;exact⟨us,s _ _ e,i.imp fun _ _ z=>z.imp fun _ _=>s.gK⟩
 RV:=by obtain⟨us,e,i⟩:=h.RV;exact⟨us,s _ _ e,i⟩
 Jc:=by obtain⟨us,e,i⟩:=h.Jc;exact⟨us,s _ _ e,i.imp fun _ _ z=>z.imp (fun _ _=>s.gK) fun _ z=>z⟩
 nb:=h.nb
theorem xK.more{k:Nat}(h:xK K CD O H p bx bd ns d m)(l:m<=k):xK K CD O H p bx bd ns d k:=
 {h with own:=fun b hb=>by obtain⟨zs,e,z⟩:=h.own b hb;exact⟨zs,e,zay z l⟩}
theorem xK.lR(h:xK K CD O H p bx bd ns d m){L:zdP}(hL:O L){zs:List V}{a:zdP}{xs:List V}(q:dF K H a xs):dF K (upd H L (.lst zs)) a xs:=by
 obtain⟨ys,e,_⟩:=h.own L hL;exact q.ql e ((bX.refl _ _).put _)
theorem xK.YR(h:xK K CD O H p bx bd ns d m){L:zdP}(hL:O L):p≠L:=fun z=>by
 obtain⟨zs,e,_⟩:=h.own L hL;obtain⟨dx,e2⟩:=h.ins;rw[z,e] at e2;cases e2
theorem xK.Wn(h:xK K CD O H p bx bd ns d m){L:zdP}(hL:Xm O bx ns L)(hd:d.df=[]->L=bd){zs:List V}{x:V}(e:H L=some (.lst zs)):xK K CD O (upd H L (.lst (zs++[x]))) p bx bd ns {d with Of:=true} (m+1) where
 own:=fun b hb=>by
  by_cases z:b=L
  ·subst z;obtain⟨ys,e2,l⟩:=h.own b hb;rw[e] at e2;cases e2;exact⟨_,aj,by rw[zae,zaw];lia⟩
  ·obtain⟨ys,e2,l⟩:=h.own b hb;exact⟨ys,by rw[aq z];exact e2,by lia⟩
 Jb:=h.Jb
 RU:=h.RU
 Ep:=h.Ep
 d1:=h.d1
 d2:=h.d2
 d3:=h.d3
 ins:=by obtain⟨dx,e2⟩:=h.ins;exact⟨dx,by rw[aq (h.YR hL.1)];exact e2⟩
 box:=by obtain⟨us,e2,i⟩:=h.box;exact⟨us,by rw[aq (Ne.symm hL.2.1)];exact e2,i.imp fun _ _ z=>z.imp fun _ _=>h.lR hL.1⟩
 RV:=by
  obtain⟨us,e2,i⟩:=h.RV;by_cases z:bd=L
  ·subst z;exact⟨_,aj,by simp⟩
  ·refine⟨us,by rw[aq z];exact e2,?_⟩;have:d.Of=true:=h.nb fun q=>z (hd q).symm;rw[this] at i;exact i
 Jc:=by obtain⟨us,e2,i⟩:=h.Jc;exact⟨us,by rw[aq (Ne.symm hL.2.2)];exact e2,i.imp fun _ _ z=>z.imp (fun _ _=>h.lR hL.1) fun _ z=>z⟩
 nb:=fun _=>rfl
theorem xK.boxed(h:xK K CD O H p bx bd ns d m){us:List V}{n:W}{x:V}(e:H bx=some (.lst us))(hx:QG K H n x):xK K CD O (upd H bx (.lst (us++[x]))) p bx bd ns {d with w6:=d.w6++[n]} (m+1) where
 own:=fun b hb=>by
  by_cases z:b=bx
  ·subst z;obtain⟨ys,e2,l⟩:=h.own b hb;rw[e] at e2;cases e2;exact⟨_,aj,by rw[zae,zaw];lia⟩
  ·obtain⟨ys,e2,l⟩:=h.own b hb;exact⟨ys,by rw[aq z];exact e2,by lia⟩
 Jb:=h.Jb
 RU:=h.RU
 Ep:=h.Ep
 d1:=h.d1
 d2:=h.d2
 d3:=h.d3
 ins:=by obtain⟨dx,e2⟩:=h.ins;exact⟨dx,by rw[aq (h.YR h.Jb)];exact e2⟩
 box:=by
  obtain⟨vs,e2,i⟩:=h.box;rw[e] at e2;cases e2;exact⟨_,aj,(i.snoc hx).imp fun _ _ z=>z.imp fun _ _=>h.lR h.Jb⟩
 RV:=by obtain⟨us,e2,i⟩:=h.RV;exact⟨us,by rw[aq (Ne.symm h.d1)];exact e2,i⟩
 Jc:=by obtain⟨us,e2,i⟩:=h.Jc;exact⟨us,by rw[aq (Ne.symm h.d2)];exact e2,i.imp fun _ _ z=>z.imp (fun _ _=>h.lR h.Jb) fun _ z=>z⟩
 nb:=h.nb
theorem xK.lV{O':zdP->Prop}(h:xK K CD O H p bx bd ns d m)(io:∀b,O b->O' b)(no:∀b,O' b->O b\/H b=some (.lst [])){us:List V}{ks:List Bool}(l:us.length<=m+1)(i:Fb (JZ K H O' bx ns) ks us)(nb:ks≠[]->d.Of=true):xK K CD O' (upd H ns (.lst us)) p bx bd ns {d with df:=ks} (m+1) where
 own:=fun b hb=>by
  by_cases z:b=ns
  ·subst z;exact⟨_,aj,l⟩
  ·rcases no b hb with q |q
   ·obtain⟨ys,e2,l⟩:=h.own b q;exact⟨ys,by rw[aq z];exact e2,by lia⟩
   ·exact⟨[],by rw[aq z];exact q,zaU _⟩
 Jb:=io _ h.Jb
 RU:=io _ h.RU
 Ep:=io _ h.Ep
 d1:=h.d1
 d2:=h.d2
 d3:=h.d3
 ins:=by obtain⟨dx,e2⟩:=h.ins;exact⟨dx,by rw[aq (h.YR h.Ep)];exact e2⟩
 box:=by obtain⟨us,e2,i⟩:=h.box;exact⟨us,by rw[aq h.d2];exact e2,i.imp fun _ _ z=>z.imp fun _ _=>h.lR h.Ep⟩
 RV:=by obtain⟨us,e2,i⟩:=h.RV;exact⟨us,by rw[aq h.d3];exact e2,i⟩
 Jc:=⟨us,aj,i.imp fun _ _ z=>z.imp (fun _ _=>h.lR h.Ep) fun _ z=>z⟩
 nb:=nb
end
def Wo (K:zab) (CD:zdP) (ce:PM.Er->zdP) (O:zdP->Prop) (H:Hp) (p bx bd ns:zdP) (m:Nat) (Q:VK) (E:XK):Except PM.Er PM.Df->Prop
 |.error e=>∀H',bK O H H'->E (.ref (ce e)) none H'
 |.ok d'=>∀O' H',(∀b,O' b->O b\/H b=none)->bK O H H'->xK K CD O' H' p bx bd ns d' (m+2)->Q .eB H'
section
variable(K:zab)(CD:zdP)(ce:PM.Er->zdP)
inductive LP(vs:List V)(H:Hp)(Q:VK)(E:XK):Prop
 |mk (O:zdP->Prop) (p bx bd ns:zdP) (d:PM.Df) (m:Nat):vs=[.ref p]->xK K CD O H p bx bd ns d m->(∀L,Xm O bx ns L->(d.df=[]->L=bd)->Q (.ref L) H)->LP vs H Q E
inductive Hq(vs:List V)(H:Hp)(Q:VK)(E:XK):Prop
 |mk (O:zdP->Prop) (p bx bd ns:zdP) (d:PM.Df) (m:Nat):vs=[.ref p]->xK K CD O H p bx bd ns d m->(d.df.getLast?=some true->∀L,Xm O bx ns L->Q (.ref L) H)->(d.df.getLast?≠some true->Q .eB H)->Hq vs H Q E
inductive Bn(vs:List V)(H:Hp)(Q:VK)(E:XK):Prop
 |mk (O:zdP->Prop) (p bx bd ns:zdP) (d:PM.Df) (m:Nat):vs=[.ref p]->xK K CD O H p bx bd ns d m->m<=1000->(∀l H',ay H H'->H l=none->H' l=some (.lst (d.w6.map sv))->Q (.ref l) H')->Bn vs H Q E
inductive Hr(vs:List V)(H:Hp)(Q:VK)(E:XK):Prop
 |mk (p dx:zdP):vs=[.ref p]->H p=some (.ins CD dx [])->H dx=some (.own p)->(∀(O:zdP->Prop) bx bd ns H',(∀b,O b->H b=none)->bX p H H'->xK K CD O H' p bx bd ns ⟨[],false,[]⟩ 0->Q .eB H')->Hr vs H Q E
inductive LQ(vs:List V)(H:Hp)(Q:VK)(E:XK):Prop
 |mk (O:zdP->Prop) (p bx bd ns:zdP) (d:PM.Df) (m:Nat) (k:Int) (v:V) (n:W) (a b:Int):vs=[.ref p,.int k,v]->xK K CD O H p bx bd ns d m->m<=1000->(0<=k/\k<=1000)->Rep K H (.tup [.str (S n),.int a,.int b]) v->Wo K CD ce O H p bx bd ns m Q E (PM.Qz d n a b)->LQ vs H Q E
inductive Bo(f:PM.Df->Except PM.Er PM.Df)(vs:List V)(H:Hp)(Q:VK)(E:XK):Prop
 |mk (O:zdP->Prop) (p bx bd ns:zdP) (d:PM.Df) (m:Nat) (k:Int):vs=[.ref p,.int k]->xK K CD O H p bx bd ns d m->m<=1000->(0<=k/\k<=1000)->Wo K CD ce O H p bx bd ns m Q E (f d)->Bo f vs H Q E
inductive LR(ok:PM.Fm->Prop)(f:PM.Df->PM.Fm->Except PM.Er PM.Df)(vs:List V)(H:Hp)(Q:VK)(E:XK):Prop
 |mk (O:zdP->Prop) (p bx bd ns:zdP) (d:PM.Df) (m:Nat) (k:Int) (v:V) (fm:PM.Fm):vs=[.ref p,.int k,v]->xK K CD O H p bx bd ns d m->m<=1000->(0<=k/\k<=1000)->Rep K H (Hl fm) v->ok fm->Wo K CD ce O H p bx bd ns m Q E (f d fm)->LR ok f vs H Q E
end
theorem LS{k:Int}(h:0<=k/\k<=1000):(zac (toString k)).length<=10:=by
 have e:=V.str.inj (E3 k h.1);rw[e,bZ];exact(PM.Pn k.toNat (by lia)).2
theorem vO{C:zdP}{E:XK}{D:Ends}{x0:Option V}{r:St}{H:Hp}{a b:Str}{k:Int}(hk:0<=k/\k<=1000)(ha:a.length<=1000)(hb:b.length<=1000)(q:E (.ref C) none H) :
 JA C E (K3 (tFs [tC (.str a),Up (fZ 1),tC (.str b)]) Mr) D (x0::some (.int k)::r) H:=by
 have line:zdX=2 ^ 24:=rfl;have ld:=LS hk;have l0:Str.empty.length=0:=rfl;refine⟨a,rfl,by rw[strLen_append,l0];lia,.inl ⟨k,rfl,by lia,zac (toString k),rfl,by rw[strLen_append,strLen_append,l0];lia,b,rfl,by rw[strLen_append,strLen_append,strLen_append,l0];lia,(show 1<=zdX by decide),q⟩⟩
theorem Wq{C:zdP}{E:XK}{D:Ends}{σ:St}{i:Nat}{H:Hp}{a b c n:Str}{k:Int}(hk:0<=k/\k<=1000)(ha:a.length<=1000)(hb:b.length<=1000)(hc:c.length<=1000)(hn:n.length<=1000)
 (h1:∀H Q,Q (.int k) H->fZ 1 σ H Q) (h2:∀H Q,Q (.str n) H->fZ i σ H Q) (q:E (.ref C) none H) :
 JA C E (K3 (tFs [tC (.str a),Up (fZ 1),tC (.str b),Up (fZ i),tC (.str c)]) Mr) D σ H:=by
 have line:zdX=2 ^ 24:=rfl;have ld:=LS hk;have l0:Str.empty.length=0:=rfl;refine⟨a,rfl,by rw[strLen_append,l0];lia,?_⟩;rw[YK,Up];refine h1 _ _ ?_;refine .inl ⟨k,rfl,by lia,zac (toString k),rfl,by rw[strLen_append,strLen_append,l0];lia,b,rfl,by rw[strLen_append,strLen_append,strLen_append,l0];lia,?_⟩;rw[YK,Up];refine h2 _ _ ?_;exact .inr ⟨n,rfl,by lia,n,rfl,by rw[strLen_append,strLen_append,strLen_append,strLen_append,l0];lia,c,rfl,by rw[strLen_append,strLen_append,strLen_append,strLen_append,strLen_append,l0];lia,(show 1<=zdX by decide),q⟩
section
variable(K:zab)
inductive Hs(vs:List V)(H:Hp)(Q:VK)(E:XK):Prop
 |mk (v:V) (f:PM.Fm):vs=[v]->Rep K H (Hl f) v->PM.Wl f->(∀l H',ay H H'->H l=none->H' l=some (.lst ((PM.E8 f).map sv))->Q (.ref l) H')->Hs vs H Q E
def YS (k:W):Nat:=if k=PM.jV then 2 else if k=PM.bY then 1 else 0
inductive QH(vs:List V)(H:Hp)(Q:VK)(E:XK):Prop
 |mk (k:W):vs=[sv k]->(∀(bs:List zdP) l H',ay H H'->H l=none->H' l=some (.lst (bs.map V.ref))->bs.length=YS k->(∀b∈bs,H b=none/\H' b=some (.lst []))->Q (.ref l) H')->QH vs H Q E
end
def Bp:PM.Fm->W
 |.box _ _ _=>PM.nC
 |.ask _=>PM.qU
 |.put _ _=>PM.qV
 |.say _=>PM.oO
 |.cond k _ _ _=>k
 |.one k=>k
theorem Es{K:zab}{H:Hp}{f:PM.Fm}{v:V}(h:Rep K H (Hl f) v):∃a ys,v=.ref a/\dF K H a (sv (Bp f)::ys)/\ys.length<=3:=by
 cases f with
 |box n i j=>
  unfold Hl at h;simp only[Rep.bV,a7.bh,a7.bE,Rep.a8] at h;obtain⟨a,xs,rfl,hS,_,_,rfl,rfl,_,_,rfl,_,_,_,rfl,_,_,_,rfl,_,rfl⟩:=h;rw[xZ] at hS;exact⟨a,_,rfl,hS,by simp⟩
 |ask n=>
  unfold Hl at h;simp only[Rep.bV,a7.bh,a7.bE,Rep.a8] at h;obtain⟨a,xs,rfl,hS,_,_,rfl,rfl,_,_,rfl,_,rfl⟩:=h;rw[QC] at hS;exact⟨a,_,rfl,hS,by simp⟩
 |put n e=>
  unfold Hl at h;simp only[Rep.bV,a7.bh,a7.bE,Rep.a8] at h;obtain⟨a,xs,rfl,hS,_,_,rfl,rfl,_,_,rfl,_,_,_,rfl,_,rfl⟩:=h;rw[QD] at hS;exact⟨a,_,rfl,hS,by simp⟩
 |say e=>
  unfold Hl at h;simp only[Rep.bV,a7.bh,a7.bE,Rep.a8] at h;obtain⟨a,xs,rfl,hS,_,_,rfl,rfl,_,_,rfl,_,rfl⟩:=h;rw[QE] at hS;exact⟨a,_,rfl,hS,by simp⟩
 |cond k sg x y=>
  unfold Hl at h;simp only[Rep.bV,a7.bh,a7.bE,Rep.a8] at h;obtain⟨a,xs,rfl,hS,_,_,rfl,rfl,_,_,rfl,_,_,_,rfl,_,_,_,rfl,_,rfl⟩:=h;exact⟨a,_,rfl,hS,by simp⟩
 |one k=>
  unfold Hl at h;simp only[Rep.bV,a7.bh,a7.bE,Rep.a8] at h;obtain⟨a,xs,rfl,hS,_,_,rfl,rfl,rfl⟩:=h;exact⟨a,_,rfl,hS,by simp⟩
theorem QI{f:PM.Fm}(h:PM.Wl f):PM.opens f=if Bp f=PM.jV then some true else if Bp f=PM.bY then some false else none:=by
 cases f with
 |box n i j=>exact h.elim
 |cond k sg x y=>rfl
 |one k=>
  cases (show k=PM.dw from h);decide
 |ask n=>show none=if PM.qU=PM.jV then some true else if PM.qU=PM.bY then some false else none;decide
 |put n e=>show none=if PM.qV=PM.jV then some true else if PM.qV=PM.bY then some false else none;decide
 |say e=>show none=if PM.oO=PM.jV then some true else if PM.oO=PM.bY then some false else none;decide
theorem J0{f:PM.Fm}(h:PM.Wl f):∀n∈PM.E8 f,PM.isName n=true:=by
 intro n hn;cases f with
 |box n i j=>exact h.elim
 |one k=>cases hn
 |ask x=>cases zad.mp hn;exact h
 |put x e=>
  rcases zai.mp hn with rfl |hn
  ·exact h.1
  ·exact h.2.1.names n hn
 |say e=>exact h.1.names n hn
 |cond k sg x y=>
  rcases zam.mp hn with z |z
  ·exact h.2.1.1.names n z
  ·exact h.2.2.1.names n z
theorem nF{n:W}(h:PM.isName n=true):n.length<=8:=by
 unfold PM.isName at h;simp only[zaD,decide_eq_true_eq] at h;exact h.1.1.2
theorem Ht{K:zab}{H:Hp}{a b:zdP}{xs ys:List V}{Q:VK}(h1:dF K H a xs)(h2:dF K H b ys)(ne:xs≠[])(hl:xs.length+ys.length<=zdX)(q:∀c H',ay H H'->dF K H' c (xs++ys)->Q (.ref c) H'):TY K (.ref a) (.ref b) H Q:=by
 refine⟨a,b,xs,ys,rfl,rfl,h1,h2,ne,hl,fun e=>?_,fun _ p hp=>q p _ (ay.new hp _) (.of aj)⟩;refine q a H (ay.refl _) ?_;rw[e,zaN];exact h1
theorem Hu{K:zab}{H:Hp}{a:zdP}{x:V}{xs:List V}{Q:VK}(h:dF K H a (x::xs))(q:∀c H',ay H H'->dF K H' c xs->Q (.ref c) H'):XZ K (.ref a) (some 1) none H Q:=by
 refine⟨a,_,rfl,h,fun z=>?_,fun p hp=>q p _ (ay.new hp _) (.of ?_)⟩
 ·have e:=z.1;unfold HT.f9 at e;simp at e
 ·rw[aj,show (1:Int)=((1:Nat):Int) from rfl,wY];rfl
inductive YT(ce:PM.Er->zdP)(vs:List V)(H:Hp)(Q:VK)(E:XK):Prop
 |mk (text:W):vs=[sv text]->text.length<=3000000->(∀e,PM.Eo (av 10 text)=some e->∀H',ay H H'->E (.ref (ce e)) none H')->(PM.Eo (av 10 text)=none->∀v H',ay H H'->Q v H')->YT ce vs H Q E
end L2
namespace PM
def cR:Er->Nat
 |.nD=>0
 |.uD=>1
 |.w5=>2
 |.Ag=>3
 |.uE=>4
 |.twice=>5
 |.Hk=>6
 |.full=>7
 |.LN=>8
def J7:W:=[112,108,97,105,110]
def YU:Fm->W
 |.box _ _ _=>nC
 |.cond k _ _ _=>if k=gc then J7 else k
 |.one k=>if k=dw then J7 else k
 |_=>J7
def lnF:Fm->List W
 |.box n _ _=>[n]
 |f=>E8 f
def okF:Fm->Bool
 |.box _ a b=>decide (2<=a/\a<=10/\b<a)
 |_=>true
theorem x6:∀(a b:List W) (d:Df),dy d (a++b)=(dy d a).bind fun d'=>dy d' b
 |[],b,d=>rfl
 |r::a,b,d=>by
  rw[zaS,dy,dy];cases hf:cL (L2.av 32 r) with
  |none=>rfl
  |some f=>
   cases ht:nE d f with
   |error e=>simp only[ht];rfl
   |ok d'=>simp only[ht];exact x6 a b d'
theorem Bq{a b:List W}{d d':Df}(h:dy d a=.ok d'):dy d (a++b)=dy d' b:=by rw[x6,h];rfl
theorem Et{r:W}{f:Fm}{d:Df}(h:cL (L2.av 32 r)=some f):dy d [r]=nE d f:=by
 rw[dy,h];cases ht:nE d f<;>simp only[ht]<;>rfl
theorem Hv:cL (L2.av 32 eH)=some (.one eH):=by decide +kernel
theorem Eu:cL (L2.av 32 dw)=some (.one dw):=by decide +kernel
theorem Ew:∀(n:Nat) (d:Df),d.df.length=n->dy d (zax n eH)=.ok {d with df:=[]}
 |0,d,h=>by
  have e:d.df=[]:=zbb.mp h;obtain⟨a,b,c⟩:=d;cases e;rfl
 |n+1,d,h=>by
  have ne:d.df≠[]:=fun z=>by rw[z] at h;cases h
  rw[za3,dy,Hv];have et:nE d (.one eH)=.ok {d with df:=d.df.dropLast}:=by
   show (if eH=cY then sY d else if eH=eH then C5 d else rY d (.one eH))=_;rw[if_neg (by decide),if_pos rfl];unfold C5;rw[if_neg ne]
  simp only[et];exact Ew n {d with df:=d.df.dropLast} (by show d.df.dropLast.length=n;rw[za1,h];rfl)
end PM
namespace L2
open PySem PySem.Spec PyProof.Rows
def yc (e:Option PM.Er):List V:=match e with
 |none=>[]
 |some e=>(zaA 14).map fun i=>.bl (decide (i=PM.cR e))
section
variable(K:zab)
inductive QJ(vs:List V)(H:Hp)(Q:VK)(E:XK):Prop
 |mk (a:zdP) (rows:List W):vs=[.ref a]->gI K H a (rows.map sv)->rows≠[]->(∀r∈rows,10 ∉ r)->rows.flatten.length+rows.length<=2900000->(∀l H',ay H H'->H' l=some (.lst (yc (PM.Eo rows)))->Q (.ref l) H')->QJ vs H Q E
def abN (_:zab) (H:Hp) (a:zdP) (w:W) (f:PM.Fm):Prop:=∃n,H a=some (.lst [sv w,sv (PM.YU f),.ref n,.bl (PM.okF f)])/\H n=some (.lst ((PM.lnF f).map sv))
def abO (w:W) (f:PM.Fm):Prop:=PM.cL (av 32 w)=some f/\w.length<=60/\10 ∉ w
end
theorem w9{X:Cx}{K:zab}(hK:X.K=K):OL X "str.join" (fun x vs H Q=>∃(a:zdP) (L:List W) (c:Nat),x=sv [c]/\vs=[.ref a]/\gI K H a (L.map sv)/\L.flatten.length+L.length<=4000000/\Q (sv (cM c L)) H):=by
 subst hK;exact Qp
theorem Fc{X:Cx}{K:zab}{o e:Expr}{es:List Expr}{to:TE}{t:TA}{name:Str}{apos jU:Pos}{T id:String}{r:V->List V->Hp->VK->Prop}(hK:X.K=K)(pa:PlainAttrs T)(slot:Slot T name id)(X1:typeOf (.builtin id)=pure (.type "method_descriptor"))(hm:OL X id r)(ho:PE X o to)(ha:PA X (e::es) t)
 (Gy:attributeBase o name X.env (eval o X.env)=eval o X.env:=by rfl)
 (Vt:((backTo jU (zdV (e::es) X.env)).all (fun x=>!x.1)&&(backToKw jU (keywordEach [] X.env)).all (fun x=>x.1.isSome)&&decide ((e::es).length+([]:List Keyword).length+(if ([]:List Keyword).isEmpty then 0 else 1)<30))=true:=by rfl)
 (Gz:(apos.endLine==jU.line)=true:=by rfl) (hs:zdV (e::es) X.env=(false,eval e X.env)::zdV es X.env:=by rfl) (AJ:(backTo jU (zdV es X.env)).any (·.1)=false:=by rfl) :
 PE X (.Call (.Attribute o name apos) (e::es) [] jU) (ZR K T r to t):=by
 subst hK;exact jk pa slot X1 hm ho ha Gy Vt Gz hs AJ
structure StL(H:Hp)(st o n b:zdP)(op:List W)(d:PM.Df)(c:Nat):Prop where
 at_:H st=some (.lst [.ref o,.ref n,.ref b])
 yo:H o=some (.lst (op.map sv))
 yn:H n=some (.lst (d.w6.map sv))
 yb:∃bs:List W,H b=some (.lst (bs.map sv))/\(bs=[]↔d.Of=false)/\bs.length<=c
 ek:d.df=op.map fun w=>decide (w=PM.jV)
 on:o≠n
 ob:o≠b
 nb:n≠b
 so:st≠o
 sn:st≠n
 sb:st≠b
 l5:op.length<=5
 ow:∀w∈op,w=PM.jV\/w=PM.bY\/w=PM.cY
 l4:d.w6.length<=4
theorem StL.mono{H H':Hp}{st o n b:zdP}{op:List W}{d:PM.Df}{c:Nat}(h:StL H st o n b op d c)(s:ay H H'):StL H' st o n b op d c:=
 {h with at_:=s _ _ h.at_,yo:=s _ _ h.yo,yn:=s _ _ h.yn,yb:=by obtain⟨bs,y,z⟩:=h.yb;exact⟨bs,s _ _ y,z⟩}
def QK (z:Str):Bool:=(PM.cL (av 32 z.cps.toList)).isNone&&decide (z.cps.toList.length<=5100)&&decide (10 ∉ z.cps.toList)
def strOf:V->Str
 |.str z=>z
 |_=>zac ""
def yh (w:W):Prop:=PM.cL (av 32 w)=none/\w.length<=5100/\10 ∉ w
theorem Fd{z:Str}(h:QK z=true):yh z.cps.toList:=by
 unfold QK at h;simp only[zaD,decide_eq_true_eq,Option.isNone_iff_eq_none] at h;exact⟨h.1.1,h.1.2,h.2⟩
theorem dJ{H:Hp}{s:zdP}{L:List Str}{vs:List V}{R:V->Hp->Prop}{n:Nat}(k:Nat)(hs:H s=some (.lst (L.map V.str)))(hL:∀z∈L,yh z.cps.toList)(l:L.length=n)(e:vs=(vs.map strOf).map V.str)(hM:∀v∈vs,yh (strOf v).cps.toList)(lM:n+vs.length=k)(lk:k<=1000)
 (q:∀(p:zdP) (H':Hp) (L':List Str),ay H H'->H' p=some (.lst (L'.map V.str))->(∀z∈L',yh z.cps.toList)->L'.length=k->R (.ref p) H'):∀p,H p=none->Vu (.ref s) (.ref p) (upd H p (.lst vs)) R:=fun p fp=>by
 have s1:=ay.new fp (.lst vs);have line:zdX=2 ^ 24:=rfl;refine⟨s,p,L.map V.str,vs,rfl,rfl,s1 _ _ hs,aj,by rw[zaj];lia,fun p2 f2=>?_⟩;refine q p2 _ (L++vs.map strOf) (s1.trans (ay.new f2 _)) (by rw[aj,zas,<- e]) (fun z hz=>?_) (by rw[zae,zaj,l,lM]);rcases zam.mp hz with h |h
 ·exact hL z h
 ·obtain⟨v,hv,rfl⟩:=zaI.mp h;exact hM v hv
theorem e6{vs:List V}(h:vs.all (fun v=>QK (strOf v))=true):∀v∈vs,yh (strOf v).cps.toList:=fun v hv=>Fd (za4.mp h v hv)
theorem QL{z:W}(h:32 ∉ z)(l:60<z.length):PM.cL (av 32 ([115,97,121,32]++z))=none:=by
 have e:([115,97,121,32]++z:W)=cM 32 [PM.oO,z]:=by unfold cM;simp[PM.oO]
 rw[e,j4 (by simp) (fun w hw=>by
  simp only[zai,za2,or_false] at hw;rcases hw with rfl |rfl
  ·decide
  ·exact h)]
 have e2:PM.cL [PM.oO,z]=(PM.expr z).map .say:=rfl;rw[e2];unfold PM.expr;rw[if_pos l];rfl
theorem Ex:∀(L:List W) (k:Nat),(∀r∈L,r.length<=k)->L.flatten.length<=k*L.length
 |[],_,_=>zaU _
 |r::L,k,h=>by
  have ih:=Ex L k fun x hx=>h x (zak _ hx);have:=h r zap;rw[zaP,zae,zaf,Nat.mul_succ];lia
theorem Fe{K:zab}{H:Hp}:∀bs:List Bool,a7 K H (bs.map Dp.bl) (bs.map V.bl)
 |[]=>.nil
 |b::r=>.cons (Rep.vA.mpr rfl) (Fe r)
def abQ:W:=[98,97,100]
inductive RowW(K:zab)(H:Hp)(v:V)(w:W):Prop
 |bad (l n:zdP):v=.ref l->H l=some (.lst [sv w,sv abQ,.ref n,.bl true])->yh w->RowW K H v w
 |good (l:zdP) (f:PM.Fm):v=.ref l->abN K H l w f->abO w f->RowW K H v w
theorem LU{α:Type}(x:α):∀k:Nat,(zax k [x]).flatten=zax k x
 |0=>rfl
 |k+1=>by rw[za3,zaP,LU x k];rfl
theorem RowW.mono{K:zab}{H H':Hp}{v:V}{w:W}(h:RowW K H v w)(s:ay H H'):RowW K H' v w:=by
 cases h with
 |bad l n e y b=>exact .bad l n e (s _ _ y) b
 |good l f e y b=>obtain⟨n,y1,y2⟩:=y;exact .good l f e ⟨n,s _ _ y1,s _ _ y2⟩ b
section
variable(K:zab)
inductive Ur(vs:List V)(H:Hp)(Q:VK)(E:XK):Prop
 |mk (c:Int):vs=[.int c]->(∀w H',ay H H'->yh w->Q (sv w) H')->Ur vs H Q E
end
theorem qv(c:Nat):∀w:PM.W,∀x∈av c w,c ∉ x
 |[],x,h=>by rw[zad.mp h];simp
 |y::r,x,h=>by
  have ih:=qv c r;unfold av at h;split at h
  ·rcases zai.mp h with rfl |h
   ·simp
   ·exact ih x h
  ·rename_i hy;split at h
   ·rw[zad.mp h];simp[Ne.symm hy]
   ·rename_i a b e;rcases zai.mp h with rfl |h
    ·intro z;rcases zai.mp z with z |z
     ·exact hy z.symm
     ·exact ih a (by rw[e];exact zap) z
    ·exact ih x (by rw[e];exact zak _ h)
theorem Ey(c:Nat):∀u v:PM.W,av c (u++c::v)=av c u++av c v
 |[],v=>by simp[av]
 |y::r,v=>by
  have ih:=Ey c r v;rw[zaS,av,av,ih];split
  ·rfl
  ·cases h:av c r with
   |nil=>exact absurd h (cU c r)
   |cons a b=>rfl
theorem Ez(c:Nat):∀u v:PM.W,(av c (u++v)).length+1=(av c u).length+(av c v).length/\((c∈u->(av c u).headD []=(av c (u++v)).headD [])/\(c ∉ u->(av c u).headD []=u/\∃z,(av c (u++v)).headD []=u++z))
 |[],v=>⟨by show (av c v).length+1=1+_;lia,(fun h=>by cases h),fun _=>⟨rfl,_,rfl⟩⟩
 |y::r,v=>by
  obtain⟨h1,h2,h3⟩:=Ez c r v;rw[zaS,av,av];by_cases hy:y=c
  ·rw[if_pos hy,if_pos hy];exact⟨by rw[zaf,zaf];lia,fun _=>rfl,fun h=>absurd (by rw[hy];exact zap) h⟩
  ·rw[if_neg hy,if_neg hy];cases e1:av c r with
   |nil=>exact absurd e1 (cU c r)
   |cons a b=>
    cases e2:av c (r++v) with
    |nil=>exact absurd e2 (cU c _)
    |cons a' b'=>
     rw[e1,e2] at h1 h2 h3;refine⟨by simpa using h1,fun h=>?_,fun h=>?_⟩
     ·have h4:=h2 ((zai.mp h).resolve_left fun z=>hy z.symm);show y::a=y::a';rw[show a=a' from h4]
     ·obtain⟨h4,z,h5⟩:=h3 fun q=>h (zak _ q);exact⟨by show y::a=y::r;rw[show a=r from h4],z,by show y::a'=y::r++z;rw[show a'=r++z from h5];rfl⟩
theorem Br(c:Nat):∀(L:List PM.W) (i:Nat) (hi:i<L.length),((L.set i (L[i]++[c])).map fun x=>c::x).flatten=((L.take (i+1)++[]::L.drop (i+1)).map fun x=>c::x).flatten
 |w::L,0,_=>by simp
 |w::L,i+1,hi=>by
  have ih:=Br c L i (by simpa using hi);simp only[zb9,zce,zcE,zdB,zaS,zaq,zaP];rw[ih]
theorem J8(c:Nat):∀(L:List PM.W) (i:Nat) (hi:i<L.length),cM c (L.set i (L[i]++[c]))=cM c (L.take (i+1)++[]::L.drop (i+1))
 |w::L,0,_=>by simp[cM]
 |w::L,i+1,hi=>by
  have ih:=Br c L i (by simpa using hi);simp only[zb9,zce,zcE,zdB,zaS,cM];rw[ih]
end L2
namespace PM
def Qw:List W:=[nC,qU,qV,oO,gc,jV,cY,bY,eH,dw]
theorem LV{k:W}(h:lD k≠0):k∈Qw:=by
 unfold lD at h;unfold Qw;by_cases h1:k=nC
 ·simp[h1]
 by_cases h2:k=qU
 ·simp[h2]
 by_cases h3:k=qV
 ·simp[h3]
 by_cases h4:k=oO
 ·simp[h4]
 by_cases h5:k=gc
 ·simp[h5]
 by_cases h6:k=jV
 ·simp[h6]
 by_cases h7:k=cY
 ·simp[h7]
 by_cases h8:k=bY
 ·simp[h8]
 by_cases h9:k=eH
 ·simp[h9]
 by_cases h0:k=dw
 ·simp[h0]
 rw[if_neg h1,if_neg h2,if_neg h3,if_neg h4,if_neg h5,if_neg h6,if_neg h7,if_neg h8,if_neg h9,if_neg h0] at h;exact absurd rfl h
theorem SW{u z:W}(h:lD (u++z)≠0)(hz:z≠[]):lD u=0:=by
 have all:∀k∈Qw,∀j<k.length,lD (k.take j)=0:=by decide
 have:=all _ (LV h) u.length (by rw[zae];have:=zbJ.mpr hz;lia)
 rwa [List.take_left] at this
theorem QM{k:W}{c:Nat}(hc:c∈k)(h2:kind c=2):lD k=0:=by
 by_cases h:lD k=0
 ·exact h
 have all:∀k∈Qw,∀c∈k,kind c≠2:=by decide
 exact absurd h2 (all k (LV h) c hc)
theorem tf{ws:List W}{f:Fm}(h:cL ws=some f):lD (ws.headD [])=ws.length:=by
 unfold cL at h;split at h
 ·cases h
 ·rename_i z;exact Decidable.not_not.mp z
theorem uF{ws:List W}(h:lD (ws.headD [])≠ws.length):cL ws=none:=by
 unfold cL;rw[if_pos h]
theorem uG{w:W}{c:Nat}(h:(expr w).isSome=true)(hk:kind c=2):expr (w++[c])=none:=by
 cases e:expr (w++[c]) with
 |none=>rfl
 |some t=>
  have h1:=(AN w).mp h;have h2:=(AN (w++[c])).mp (by rw[e];rfl);have e2:pieces (w++[c])=pieces w++[[c]]:=lA w [] hk;have g1:run (pieces w) (0,true)=some (0,false):=h1.2;have g2:run (pieces w++[[c]]) (0,true)=some (0,false):=by rw[<- e2];exact h2.2
  rw[EZ g1,qj,sJ] at g2;by_cases YV:([c]:W)=[41]
  ·rw[if_pos YV,if_pos rfl] at g2;cases g2
  ·rw[if_neg YV] at g2;by_cases ho:([c]:W)∈sH
   ·rw[if_pos ho] at g2;cases g2
   ·rw[if_neg ho] at g2;cases g2
theorem uH{w:W}{c:Nat}(hk:kind c=2):isName (w++[c])=false:=by
 cases h:isName (w++[c]) with
 |false=>rfl
 |true=>
  have:=(name_kind h).2 c (by simp);rw[hk] at this;cases this
theorem tm{w:W}{c:Nat}(hk:kind c=2):isNumber (w++[c])=false:=by
 cases h:isNumber (w++[c]) with
 |false=>rfl
 |true=>
  have:=(oR h).2 c (by simp);rw[hk] at this;cases this
inductive Wr:List W->Prop
 |box (a b c:W):isName a=true->isNumber b=true->isNumber c=true->Wr [nC,a,b,c]
 |ask (a:W):isName a=true->Wr [qU,a]
 |put (a e:W):isName a=true->(expr e).isSome=true->Wr [qV,a,e]
 |say (e:W):(expr e).isSome=true->Wr [oO,e]
 |cond (k l s r:W):(k=gc\/k=jV\/k=bY)->(s=[60]\/s=[61])->(expr l).isSome=true->(expr r).isSome=true->Wr [k,l,s,r]
 |one (k:W):lD k=1->Wr [k]
theorem SX{ws:List W}{f:Fm}(hw:ws≠[])(h:cL ws=some f):Wr ws:=by
 have hl:=tf h;unfold cL at h;rw[if_neg (fun z=>z hl)] at h;have l4:∀k:W,ws.headD []=k->lD k=4->∃a b c,ws=[k,a,b,c]:=fun k hk h4=>by
  rw[hk,h4] at hl
  match ws,hl with
  |[x,a,b,c],_=>exact⟨a,b,c,by rw[<- hk];rfl⟩
 have l3:∀k:W,ws.headD []=k->lD k=3->∃a b,ws=[k,a,b]:=fun k hk h4=>by
  rw[hk,h4] at hl
  match ws,hl with
  |[x,a,b],_=>exact⟨a,b,by rw[<- hk];rfl⟩
 have l2:∀k:W,ws.headD []=k->lD k=2->∃a,ws=[k,a]:=fun k hk h4=>by
  rw[hk,h4] at hl
  match ws,hl with
  |[x,a],_=>exact⟨a,by rw[<- hk];rfl⟩
 have nm:∀ {a n:W},oN a=some n->isName a=true:=fun {a n} q=>by obtain⟨rfl,z⟩:=Bm q;exact z
 have nb:∀ {a:W} {n:Int},wz a=some n->isNumber a=true:=fun {a n} q=>by
  unfold wz at q;split at q
  ·rename_i z;exact z
  ·cases q
 split at h
 ·rename_i hk;obtain⟨a,b,c,rfl⟩:=l4 _ hk (by decide);have h':((oN a).bind fun n=>(wz b).bind fun x=>(wz c).map (Fm.box n x))=some f:=h;cases e1:oN a with
  |none=>rw[e1] at h';cases h'
  |some n=>
   cases e2:wz b with
   |none=>rw[e1,e2] at h';cases h'
   |some x=>
    cases e3:wz c with
    |none=>rw[e1,e2,e3] at h';cases h'
    |some y=>exact .box a b c (nm e1) (nb e2) (nb e3)
 split at h
 ·rename_i hk;obtain⟨a,rfl⟩:=l2 _ hk (by decide);have h':(oN a).map Fm.ask=some f:=h;cases e1:oN a with
  |none=>rw[e1] at h';cases h'
  |some n=>exact .ask a (nm e1)
 split at h
 ·rename_i hk;obtain⟨a,e,rfl⟩:=l3 _ hk (by decide);have h':((oN a).bind fun n=>(expr e).map (Fm.put n))=some f:=h;cases e1:oN a with
  |none=>rw[e1] at h';cases h'
  |some n=>
   cases e2:expr e with
   |none=>rw[e1,e2] at h';cases h'
   |some t=>exact .put a e (nm e1) (by rw[e2];rfl)
 split at h
 ·rename_i hk;obtain⟨e,rfl⟩:=l2 _ hk (by decide);have h':(expr e).map Fm.say=some f:=h;cases e2:expr e with
  |none=>rw[e2] at h';cases h'
  |some t=>exact .say e (by rw[e2];rfl)
 split at h
 ·rename_i hk;have h4:lD (ws.headD [])=4:=by rcases hk with e |e |e<;>rw[e]<;>decide
  obtain⟨l,s,r,e⟩:=l4 _ rfl h4;generalize ws.headD []=k at *;subst e;have h':(if s=[60]\/s=[61] then (expr l).bind fun x=>(expr r).map (Fm.cond k s x) else none)=some f:=h;split at h'
  ·rename_i hs;cases e1:expr l with
   |none=>rw[e1] at h';cases h'
   |some t=>
    cases e2:expr r with
    |none=>rw[e1,e2] at h';cases h'
    |some t'=>exact .cond k l s r hk hs (by rw[e1];rfl) (by rw[e2];rfl)
  ·cases h'
 rename_i n1 n2 n3 n4 n5;have hc:lD (ws.headD [])<=1:=by
  generalize ws.headD []=k at *;unfold lD;rw[if_neg n1,if_neg n2,if_neg n3,if_neg n4,if_neg (fun z=>n5 (.inl z)),if_neg (fun z=>n5 (.inr (.inl z)))];split
  ·exact zah _
  rw[if_neg (fun z=>n5 (.inr (.inr z)))];split
  ·exact zah _
  split
  ·exact zah _
  ·exact zaU _
 match ws,hl,hc with
 |[],_,_=>exact absurd rfl hw
 |[k],hl,_=>exact .one k hl
 |_::_::_,hl,hc=>rw[hl] at hc;simp at hc
theorem Nf{ws:List W}{f:Fm}(h:cL ws=some f){i:Nat}(hi:i<ws.length){c:Nat}(hk:kind c=2)(YV:c≠41):cL (ws.set i (ws[i]++[c]))=none:=by
 have fm:=SX (fun z=>by rw[z] at hi;exact absurd hi (Nat.not_lt_zero _)) h;have hl:=tf h;cases i with
 |zero=>
  refine uF ?_;rw[zbi];have e:((ws.set 0 (ws[0]++[c])).headD [])=ws[0]++[c]:=by
   match ws,hi with
   |x::r,_=>rfl
  rw[e,QM (c:=c) (by simp) hk];lia
 |succ i=>
  cases fm with
  |one k hk1=>exact absurd hi (by show ¬i+1<1;lia)
  |ask a ha=>
   match i,hi with
   |0,_=>
    show (oN (a++[c])).map Fm.ask=none;unfold oN;rw[uH hk];rfl
   |i+1,hi=>exact absurd hi (by show ¬i+1+1<2;lia)
  |say e he=>
   match i,hi with
   |0,_=>
    show (expr (e++[c])).map Fm.say=none;rw[uG he hk];rfl
   |i+1,hi=>exact absurd hi (by show ¬i+1+1<2;lia)
  |put a e ha he=>
   match i,hi with
   |0,_=>
    show ((oN (a++[c])).bind fun n=>(expr e).map (Fm.put n))=none;unfold oN;rw[uH hk];rfl
   |1,_=>
    show ((oN a).bind fun n=>(expr (e++[c])).map (Fm.put n))=none;rw[uG he hk];cases oN a<;>rfl
   |i+2,hi=>exact absurd hi (by show ¬i+2+1<3;lia)
  |box a b d ha hb hd=>
   match i,hi with
   |0,_=>
    show ((oN (a++[c])).bind fun n=>(wz b).bind fun x=>(wz d).map (Fm.box n x))=none;unfold oN;rw[uH hk];rfl
   |1,_=>
    show ((oN a).bind fun n=>(wz (b++[c])).bind fun x=>(wz d).map (Fm.box n x))=none;have e:wz (b++[c])=none:=by unfold wz;rw[tm hk];rfl
    rw[e];cases oN a<;>rfl
   |2,_=>
    show ((oN a).bind fun n=>(wz b).bind fun x=>(wz (d++[c])).map (Fm.box n x))=none;have e:wz (d++[c])=none:=by unfold wz;rw[tm hk];rfl
    rw[e];cases oN a with
    |none=>rfl
    |some n=>cases wz b<;>rfl
   |i+3,hi=>exact absurd hi (by show ¬i+3+1<4;lia)
  |cond k l s r hk3 hs h1 h2=>
   have key:∀l s r:W,cL [k,l,s,r]=if s=[60]\/s=[61] then (expr l).bind fun x=>(expr r).map (Fm.cond k s x) else none:=fun l s r=>by
    rcases hk3 with rfl |rfl |rfl<;>rfl
   match i,hi with
   |0,_=>
    show cL [k,l++[c],s,r]=none;rw[key,uG h1 hk];split<;>rfl
   |1,_=>
    show cL [k,l,s++[c],r]=none;rw[key,if_neg];rcases hs with rfl |rfl<;>simp
   |2,_=>
    show cL [k,l,s,r++[c]]=none;rw[key,uG h2 hk,if_pos hs];cases expr l<;>rfl
   |i+3,hi=>exact absurd hi (by show ¬i+3+1<4;lia)
end PM
namespace L2
open PM
theorem SY{u v:W}{f:Fm}(h:cL (av 32 (u++v))=some f):cL (av 32 (u++32::v))=none:=by
 have hl:=tf h;obtain⟨h1,h2,h3⟩:=Ez 32 u v;refine uF ?_;rw[Ey];have hd:(av 32 u++av 32 v).headD []=(av 32 u).headD []:=by
  cases e:av 32 u with
  |nil=>exact absurd e (cU 32 u)
  |cons a b=>rfl
 rw[hd,zae];have lp:=zbJ.mpr (cU 32 (u++v));by_cases hu:32∈u
 ·rw[h2 hu,hl];lia
 ·obtain⟨e1,z,e2⟩:=h3 hu;rw[e1];rw[e2] at hl;by_cases hz:z=[]
  ·rw[hz,zaN] at hl;rw[hl];lia
  ·rw[SW (by rw[hl];lia) hz];lia
theorem S0{r:W}{f:Fm}(h:cL (av 32 r)=some f){j:Nat}(h1:1<=j)(h2:j<(av 32 r).length):cL (av 32 (cM 32 ((av 32 r).take j)))=none:=by
 have hl:=tf h;have ne:(av 32 r).take j≠[]:=fun z=>by
  have:=congrArg zbs z;rw[zaB,zba] at this;lia
 rw[j4 ne fun w hw=>qv 32 r w (zbl hw)];refine uF ?_;have hd:((av 32 r).take j).headD []=(av 32 r).headD []:=by
  cases e:av 32 r with
  |nil=>exact absurd e (cU 32 r)
  |cons a b=>
   match j,h1 with
   |j+1,_=>rfl
 rw[hd,hl,zaB];lia
theorem QN{r:W}{f:Fm}(h:cL (av 32 r)=some f){i:Nat}(hi:i<(av 32 r).length){c:Nat}(hk:kind c=2)(YV:c≠41):cL (av 32 (cM 32 ((av 32 r).set i ((av 32 r)[i]++[c]))))=none:=by
 by_cases Ws:c=32
 ·subst Ws;rw[J8 32 _ i hi,j4 (by simp) fun w hw=>?_]
  ·refine uF ?_;have hl:=tf h;have hd:((av 32 r).take (i+1)++[]::(av 32 r).drop (i+1)).headD []=(av 32 r).headD []:=by
    cases e:av 32 r with
    |nil=>exact absurd e (cU 32 r)
    |cons a b=>rfl
   rw[hd,hl,zae,zaf,zaB,zaQ];lia
  ·rcases zam.mp hw with z |z
   ·exact qv 32 r w (zbl z)
   ·rcases zai.mp z with rfl |z
    ·simp
    ·exact qv 32 r w (zbF z)
 ·rw[j4 (fun z=>by have:=congrArg zbs z;rw[zbi,zba] at this;lia) fun w hw=>?_]
  ·exact Nf h hi hk YV
  ·rcases zbT hw with z |rfl
   ·exact qv 32 r w z
   ·intro z;rcases zam.mp z with z |z
    ·exact qv 32 r _ (zaK hi) z
    ·exact Ws (zad.mp z).symm
end L2
namespace PM
theorem Hw:∀ {A B:List W} {s:Nat×Bool},run A s=none->run (A++B) s=none
 |[],_,_,h=>by cases h
 |p::A,B,s,h=>by
  rw[zaS];rw[qj] at h ⊢;cases e:step p s with
  |none=>rfl
  |some s'=>
   rw[e] at h;exact Hw (A:=A) h
theorem LW{w:W}{c:Nat}(h:(expr w).isSome=true)(hk:kind c=2)(h5:c≠40/\c≠41/\c≠42/\c≠43/\c≠45):c ∉ w:=fun hc=>by
 obtain⟨u,v,rfl⟩:=List.append_of_mem hc;have g:=((AN _).mp h).2;unfold good at g;rw[lA u v hk] at g;cases e:run (pieces u) (0,true) with
 |none=>rw[Hw e] at g;cases g
 |some s=>
  rw[EZ e,qj] at g;have st:step [c] s=none:=by
   obtain⟨d,b⟩:=s;cases b with
   |true=>
    rw[sI,if_neg (fun z=>h5.1 (zcM.inj z).1),if_neg];intro z;unfold Pl at z;rw[show isNumber [c]=false from tm (w:=[]) hk,show isName [c]=false from uH (w:=[]) hk] at z;cases z
   |false=>
    rw[sJ,if_neg (fun z=>h5.2.1 (zcM.inj z).1),if_neg];unfold sH;simp only[zai,zcM.injEq,and_true,za2,or_false]
    rintro (z |z |z)
    ·exact h5.2.2.2.1 z
    ·exact h5.2.2.2.2 z
    ·exact h5.2.2.1 z
  rw[st] at g;cases g
theorem LX{x:W}(h:isName x=true){c:Nat}(hk:kind c=2):c ∉ x:=fun hc=>by
 have:=(name_kind h).2 c hc;rw[hk] at this;cases this
theorem uI{x:W}(h:isNumber x=true){c:Nat}(hk:kind c=2):c ∉ x:=fun hc=>by
 have:=(oR h).2 c hc;rw[hk] at this;cases this
theorem nF{x:W}(h:isName x=true):x.length<=8:=by
 unfold isName at h;simp only[zaD,decide_eq_true_eq] at h;exact h.1.1.2
theorem qW{x:W}(h:isNumber x=true):x.length<=3:=by
 unfold isNumber at h;simp only[zaD,decide_eq_true_eq] at h;exact h.1.1.2
structure RW(ns:List W)(f:Fm):Prop where
 nm:∀n∈E8 f,n∈ns
 tk:∀d,nE d f=rY d f
theorem RW.take{ns:List W}{f:Fm}(h:RW ns f){d:Df}(hn:d.w6=ns)(hk:opens f=none\/d.df.length<5):nE d f=.ok {d with Of:=true,df:=d.df++(opens f).toList}:=by
 rw[h.tk];unfold rY;rw[if_neg,if_pos (by rw[hn];exact h.nm)]
 rintro ⟨z,z5⟩
 rcases hk with e |e
 ·rw[e] at z;cases z
 ·lia
end PM
namespace L2
open PySem PySem.Spec PyProof.Rows
def LY (w:W) (f:PM.Fm):Prop:=PM.cL (av 32 w)=some f/\w.length<=200/\10 ∉ w
theorem Bs{c x:Nat}:∀ {L:List W},x∈cM c L->x=c\/∃w∈L,x∈w
 |[],h=>by cases h
 |w::L,h=>by
  unfold cM at h;rcases zam.mp h with h |h
  ·exact .inr ⟨w,zap,h⟩
  ·obtain⟨l,hl,hx⟩:=List.mem_flatten.mp h;obtain⟨y,hy,rfl⟩:=zaI.mp hl;rcases zai.mp hx with e |e
   ·exact .inl e
   ·exact .inr ⟨y,zak _ hy,e⟩
theorem tq{ws:List W}{f:PM.Fm}(h:PM.cL ws=some f)(ne:ws≠[])(Ws:∀w∈ws,32 ∉ w/\10 ∉ w)(len:ws.flatten.length+ws.length<=200):LY (cM 32 ws) f:=
 ⟨by rw[j4 ne fun w hw=>(Ws w hw).1];exact h,zay (sX 32 ws) len,fun z=>by
  rcases Bs z with e |⟨w,hw,e⟩
  ·cases e
  ·exact(Ws w hw).2 e⟩
structure DrT(ns:List W)(d:Nat)(t:PM.Tr):Prop where
 ok:PM.EX t
 nm:∀x∈PM.lC t,x∈ns
 ht:VP t<=d
 lv:RQ t<=2 ^ d
structure Ng(ns:List W):Prop where
 ok:∀x∈ns,PM.isName x=true
 nd:ns.Nodup
 Gf:ns.length<=4
structure J9(ns:List W)(w:W)(t:PM.Tr):Prop where
 ex:PM.expr w=some t
 nm:∀x∈PM.lC t,x∈ns
 len:w.length<=60
theorem J9.no{ns:List W}{w:W}{t:PM.Tr}(h:J9 ns w t):32 ∉ w/\10 ∉ w:=
 ⟨PM.LW (by rw[h.ex];rfl) (by decide) (by decide),PM.LW (by rw[h.ex];rfl) (by decide) (by decide)⟩
theorem QO{x:W}(h:PM.isName x=true):32 ∉ x/\10 ∉ x:=⟨PM.LX h (by decide),PM.LX h (by decide)⟩
section
variable{ns:List W}
theorem S1{x:W}(hx:PM.isName x=true)(hm:x∈ns):LY (cM 32 [PM.qU,x]) (.ask x)/\PM.RW ns (.ask x)/\PM.opens (.ask x)=none:=by
 refine⟨tq ?_ (by simp) (fun w hw=>?_) ?_,⟨fun n hn=>?_,fun d=>rfl⟩,rfl⟩
 ·show (PM.oN x).map PM.Fm.ask=_;unfold PM.oN;rw[if_pos hx];rfl
 ·simp only[zai,za2,or_false] at hw;rcases hw with rfl |rfl
  ·decide
  ·exact QO hx
 ·have:=PM.nF hx;simp[PM.qU];lia
 ·rw[zad.mp hn];exact hm
theorem S2{x e:W}{t:PM.Tr}(hx:PM.isName x=true)(hm:x∈ns)(he:J9 ns e t):LY (cM 32 [PM.qV,x,e]) (.put x t)/\PM.RW ns (.put x t)/\PM.opens (.put x t)=none:=by
 refine⟨tq ?_ (by simp) (fun w hw=>?_) ?_,⟨fun n hn=>?_,fun d=>rfl⟩,rfl⟩
 ·show ((PM.oN x).bind fun n=>(PM.expr e).map (PM.Fm.put n))=_;unfold PM.oN;rw[if_pos hx,he.ex];rfl
 ·simp only[zai,za2,or_false] at hw;rcases hw with rfl |rfl |rfl
  ·decide
  ·exact QO hx
  ·exact he.no
 ·have:=PM.nF hx;have:=he.len;simp[PM.qV];lia
 ·rcases zai.mp hn with rfl |hn
  ·exact hm
  ·exact he.nm n hn
theorem S3{e:W}{t:PM.Tr}(he:J9 ns e t):LY (cM 32 [PM.oO,e]) (.say t)/\PM.RW ns (.say t)/\PM.opens (.say t)=none:=by
 refine⟨tq ?_ (by simp) (fun w hw=>?_) ?_,⟨fun n hn=>he.nm n hn,fun d=>rfl⟩,rfl⟩
 ·show (PM.expr e).map PM.Fm.say=_;rw[he.ex];rfl
 ·simp only[zai,za2,or_false] at hw;rcases hw with rfl |rfl
  ·decide
  ·exact he.no
 ·have:=he.len;simp[PM.oO];lia
theorem Nh(d:PM.Df):PM.nE d (.one PM.dw)=PM.rY d (.one PM.dw):=by
 show (if PM.dw=PM.cY then PM.sY d else if PM.dw=PM.eH then PM.C5 d else PM.rY d (.one PM.dw))=_;rw[if_neg (show ¬PM.dw=PM.cY by decide),if_neg (show ¬PM.dw=PM.eH by decide)]
theorem QP:LY PM.dw (.one PM.dw)/\PM.RW ns (.one PM.dw)/\PM.opens (.one PM.dw)=none:=
 ⟨⟨PM.Eu,by decide,by decide⟩,⟨fun n hn=>(by cases hn),fun d=>Nh d⟩,rfl⟩
theorem Bt{k l s r:W}{t u:PM.Tr}(hk:k=PM.gc\/k=PM.jV\/k=PM.bY)(hs:s=[60]\/s=[61])(hl:J9 ns l t)(hr:J9 ns r u):LY (cM 32 [k,l,s,r]) (.cond k s t u)/\PM.RW ns (.cond k s t u):=by
 refine⟨tq ?_ (by simp) (fun w hw=>?_) ?_,⟨fun n hn=>?_,fun d=>rfl⟩⟩
 ·have key:PM.cL [k,l,s,r]=if s=[60]\/s=[61] then (PM.expr l).bind fun x=>(PM.expr r).map (PM.Fm.cond k s x) else none:=by
   rcases hk with rfl |rfl |rfl<;>rfl
  rw[key,if_pos hs,hl.ex,hr.ex];rfl
 ·simp only[zai,za2,or_false] at hw;rcases hw with rfl |rfl |rfl |rfl
  ·rcases hk with rfl |rfl |rfl<;>decide
  ·exact hl.no
  ·rcases hs with rfl |rfl<;>decide
  ·exact hr.no
 ·have h1:=hl.len;have h2:=hr.len;have h3:k.length<=5:=by rcases hk with rfl |rfl |rfl<;>decide
  have h4:s.length<=1:=by rcases hs with rfl |rfl<;>decide
  simp only[zaP,zci,zae,zaf,zba];lia
 ·rcases zam.mp hn with h |h
  ·exact hl.nm n h
  ·exact hr.nm n h
end
theorem S4:LY PM.eH (.one PM.eH):=⟨PM.Hv,by decide,by decide⟩
theorem QQ:LY PM.cY (.one PM.cY):=⟨by decide +kernel,by decide,by decide⟩
structure YW(b:W×Int×Int):Prop where
 nm:PM.isName b.1=true
 lo:2<=b.2.1
 hi:b.2.1<=10
 f0:0<=b.2.2
 f1:b.2.2<b.2.1
def Wt (b:W×Int×Int):Dp:=.tup [.str (S b.1),.int b.2.1,.int b.2.2]
def QR (b:W×Int×Int):W:=cM 32 [PM.nC,b.1,PM.dig b.2.1.toNat,PM.dig b.2.2.toNat]
theorem Ff{b:W×Int×Int}(h:YW b):LY (QR b) (.box b.1 b.2.1 b.2.2):=by
 obtain⟨hn,h1,h2,h3,h4⟩:=h;obtain⟨a1,a2⟩:=PM.sL b.2.1.toNat (by lia);obtain⟨b1,b2⟩:=PM.sL b.2.2.toNat (by lia);refine tq ?_ (by simp) (fun w hw=>?_) ?_
 ·show ((PM.oN b.1).bind fun n=>(PM.wz (PM.dig b.2.1.toNat)).bind fun x=>(PM.wz (PM.dig b.2.2.toNat)).map (PM.Fm.box n x))=_;unfold PM.oN PM.wz;rw[if_pos hn,if_pos a1,if_pos b1,a2,b2,zcC (by lia),zcC h3];rfl
 ·simp only[zai,za2,or_false] at hw;rcases hw with rfl |rfl |rfl |rfl
  ·decide
  ·exact QO hn
  ·exact⟨PM.uI a1 (by decide),PM.uI a1 (by decide)⟩
  ·exact⟨PM.uI b1 (by decide),PM.uI b1 (by decide)⟩
 ·have:=PM.nF hn;have:=PM.qW a1;have:=PM.qW b1;simp[PM.nC];lia
theorem Bu:∀(bs:List (W×Int×Int)) (ns:List W),(∀b∈bs,YW b)->(ns++bs.map (·.1)).Nodup->(ns++bs.map (·.1)).length<=4->PM.dy ⟨ns,false,[]⟩ (bs.map QR)=.ok ⟨ns++bs.map (·.1),false,[]⟩
 |[],ns,_,_,_=>by rw[zbV,zbV,zaN];rfl
 |b::bs,ns,hb,nd,l4=>by
  have h:=hb b zap;have e:ns++(b::bs).map (·.1)=(ns++[b.1])++bs.map (·.1):=by simp
  rw[e] at nd l4 ⊢;rw[zaq,PM.dy,(Ff h).1];have et:PM.nE ⟨ns,false,[]⟩ (.box b.1 b.2.1 b.2.2)=.ok ⟨ns++[b.1],false,[]⟩:=by
   show PM.Qz _ _ _ _=_;unfold PM.Qz;have n1:b.1 ∉ ns:=fun z=>by
    have:=(zbQ.mp (zbQ.mp nd).1).2.2 _ z _ zap;exact this rfl
   have n2:ns.length≠4:=fun z=>by
    rw[zae,zae,zaw] at l4;lia
   rw[if_neg (by simp),if_neg (fun z=>z ⟨h.lo,h.hi,h.f1⟩),if_neg n1,if_neg n2]
  simp only[et];exact Bu bs _ (fun x hx=>hb x (zak _ hx)) nd l4
theorem qK{n d:Nat}{x:Nat}(h:x<=n):HT.f9 n d (some (x:Int))=x:=by
 rw[HT.qK,zdj h]
theorem Fg{r:W}{j:Nat}(h:j<=r.length):GP (S r) none (some (j:Int))=S (r.take j):=by
 unfold GP;have l:(S r).length=r.length:=bZ r;rw[l,qK h];show (⟨((r.drop 0).take (j-0)).toArray⟩:Str)=_;rfl
theorem EA{r:W}{j:Nat}(h:j<=r.length):GP (S r) (some (j:Int)) none=S (r.drop j):=by
 unfold GP;have l:(S r).length=r.length:=bZ r;rw[l,qK h];show (⟨((r.drop j).take (r.length-j)).toArray⟩:Str)=_;rw[zbn (by rw[zaQ];exact zah _)];rfl
theorem vP(c:Nat):∀w:W,(av c w).flatten.length<=w.length
 |[]=>zah _
 |y::r=>by
  have ih:=vP c r;unfold av;split
  ·rw[zaP,zae,zaf,zba];lia
  ·cases e:av c r with
   |nil=>exact absurd e (cU c r)
   |cons a b=>
    rw[e] at ih;simp only[zaP,zae,zaf] at ih ⊢;lia
theorem Ni{c:Nat}{r:W}(n:Nat):((av c r).take n).flatten.length<=r.length:=by
 have h:=vP c r;rw[<- zck n (av c r),zcB,zae] at h;lia
theorem yi{c:Nat}{r w:W}{x:Nat}(hw:w∈av c r)(hx:x∈w):x∈r:=by
 induction r generalizing w with
 |nil=>rw[zad.mp hw] at hx;exact hx
 |cons y r ih=>
  unfold av at hw;split at hw
  ·rcases zai.mp hw with rfl |hw
   ·cases hx
   ·exact zak _ (ih hw hx)
  ·cases e:av c r with
   |nil=>exact absurd e (cU c r)
   |cons a b=>
    rw[e] at hw ih;rcases zai.mp hw with rfl |hw
    ·rcases zai.mp hx with rfl |hx
     ·exact zap
     ·exact zak _ (ih zap hx)
    ·exact zak _ (ih (zak _ hw) hx)
theorem HA{α:Type}(x:α):∀(L:List (List α)) (j:Nat) (h:j<L.length),(L.set j (L[j]++[x])).flatten.length=L.flatten.length+1
 |a::L,0,_=>by simp;lia
 |a::L,j+1,h=>by
  have:=HA x L j (by simpa using h);simp only[zb9,zce,zaP,zae] at this ⊢;lia
theorem HB{c:Nat}{r:W}{j x:Nat}(jl:j<(av c r).length):((av c r).set j ((av c r)[j]++[x])).flatten.length+((av c r).set j ((av c r)[j]++[x])).length<=2*r.length+2:=by
 rw[HA,zbi];have:=vP c r;have:=qT c r;lia
section
variable(K:zab)
inductive Us(vs:List V)(H:Hp)(Q:VK)(E:XK):Prop
 |mk (hd:Int) (k m:Nat):vs=[.int hd,.int k,.int m]->k<=900->m<=4->(∀l ns H',ay H H'->H l=none->H' l=some (.lst (ns.map sv))->Ng ns->ns.length=m->Q (.ref l) H')->Us vs H Q E
inductive S5(vs:List V)(H:Hp)(Q:VK)(E:XK):Prop
 |mk (n:Int) (a:zdP) (ns:List W):vs=[.int n,.ref a]->0<=n->gI K H a (ns.map sv)->Ng ns->(∀v t H',ay H H'->Rep K H' (mJ t) v->DrT ns 0 t->Q v H')->S5 vs H Q E
inductive QS(m:Nat)(vs:List V)(H:Hp)(Q:VK)(E:XK):Prop
 |mk (cell k:Int) (d:Nat) (a:zdP) (ns:List W):vs=[.int cell,.int k,.int d,.ref a]->0<=k->(k+2)*2 ^ d<=1000->d<m->gI K H a (ns.map sv)->Ng ns->(∀v t H',ay H H'->Rep K H' (mJ t) v->DrT ns d t->Q v H')->QS m vs H Q E
inductive YX(vs:List V)(H:Hp)(Q:VK)(E:XK):Prop
 |mk (cell:Int) (k:Nat) (a:zdP) (ns:List W):vs=[.int cell,.int k,.ref a]->k<=30->gI K H a (ns.map sv)->Ng ns->(∀l w v t H',ay H H'->H' l=some (.lst [sv w,v])->Rep K H' (mJ t) v->J9 ns w t->Q (.ref l) H')->YX vs H Q E
inductive YY(vs:List V)(H:Hp)(Q:VK)(E:XK):Prop
 |mk (hd:Int):vs=[.int hd]->(∀(l:zdP) (us:List V) (bs:List (W×Int×Int)) (H':Hp),ay H H'->H l=none->H' l=some (.lst us)->a7 K H' (bs.map Wt) us->(∀b∈bs,YW b)->Ng (bs.map (·.1))->Q (.ref l) H')->YY vs H Q E
inductive YZ(vs:List V)(H:Hp)(Q:VK)(E:XK):Prop
 |mk (cell:Int) (k:Nat) (a:zdP) (ns:List W):vs=[.int cell,.int k,.ref a]->k<=200->gI K H a (ns.map sv)->Ng ns->(∀l w f v H',ay H H'->H' l=some (.lst [sv w,v])->LY w f->PM.RW ns f->PM.opens f=none->Q (.ref l) H')->YZ vs H Q E
inductive Y0(vs:List V)(H:Hp)(Q:VK)(E:XK):Prop
 |mk (cell:Int) (k:Nat) (a:zdP) (ns:List W):vs=[.int cell,.int k,.ref a]->k<=200->gI K H a (ns.map sv)->Ng ns->(∀l w f u kd v1 v2 v3 v4 b bs H',ay H H'->H' l=some (.lst [sv w,.ref u])->H' u=some (.tup (sv kd::v1::v2::v3::v4 :: .ref b::bs))->H b=none->H' b=some (.lst [])->((kd=PM.bY/\bs=[])\/(kd=PM.jV/\∃c,bs=[.ref c]/\H c=none/\H' c=some (.lst [])))->LY w f->PM.RW ns f->PM.opens f=some (decide (kd=PM.jV))->Q (.ref l) H')->Y0 vs H Q E
inductive Ut(vs:List V)(H:Hp)(Q:VK)(E:XK):Prop
 |mk (r:W) (f:PM.Fm) (kd cell:Int):vs=[sv r,.int kd,.int cell]->LY r f->(∀w H',ay H H'->yh w->Q (sv w) H')->Ut vs H Q E
end
open PG
open PM (W Tr)
section
variable{α β:Type}
def fh (m:List (Int×α)) (k:Int):Option α:=(m.find? fun e=>decide (e.1=k)).map (·.2)
def vQ (m:List (Int×α)) (k:Int) (v:α):List (Int×α):=if (m.any fun e=>decide (e.1=k))=true then m.map (fun e=>if e.1=k then (e.1,v) else e) else m++[(k,v)]
theorem fj{p:Int×α}{r:List (Int×α)}{k:Int}(e:p.1=k):fh (p::r) k=some p.2:=by simp[fh,zbw,e]
theorem gd{p:Int×α}{r:List (Int×α)}{k:Int}(e:¬p.1=k):fh (p::r) k=fh r k:=by simp[fh,zbw,e]
theorem Ah(k:Int):∀m:List (Int×α),(m.any fun e=>decide (e.1=k))=(fh m k).isSome
 |[]=>rfl
 |p::r=>by
  rw[zb3];by_cases e:p.1=k
  ·simp only[fj e,decide_eq_true e,Bool.true_or,Option.isSome_some]
  ·rw[gd e,decide_eq_false e,zdx];exact Ah k r
theorem Bv{m:List (Int×α)}{k:Int}(v:α)(h:fh m k=none):vQ m k v=m++[(k,v)]:=by
 unfold vQ;rw[Ah,h];exact if_neg (by simp)
theorem xa{m:List (Int×α)}{k:Int}{u:α}(v:α)(h:fh m k=some u):vQ m k v=m.map fun e=>if e.1=k then (e.1,v) else e:=by
 unfold vQ;rw[Ah,h];exact if_pos rfl
theorem HC(k j:Int)(y:α):∀m:List (Int×α),fh (m.map fun e=>if e.1=k then (e.1,y) else e) j=(fh m j).map fun x=>if j=k then y else x
 |[]=>rfl
 |p::r=>by
  have ih:=HC k j y r;rw[zaq];by_cases h:p.1=k
  ·rw[if_pos h];by_cases e:p.1=j
   ·rw[fj (p:=(p.1,y)) e,fj e,za9,if_pos (e.symm.trans h)]
   ·rw[gd (p:=(p.1,y)) e,gd e,ih]
  ·rw[if_neg h];by_cases e:p.1=j
   ·rw[fj (p:=p) e,fj e,za9,if_neg (fun z=>h (e.trans z))]
   ·rw[gd (p:=p) e,gd e,ih]
theorem HD(k j:Int)(y:α):∀m:List (Int×α),fh m k=none->fh (m++[(k,y)]) j=if j=k then some y else fh m j
 |[],_=>by
  by_cases e:k=j
  ·rw[if_pos e.symm];exact fj (p:=(k,y)) e
  ·rw[if_neg (fun z=>e z.symm)];exact gd (p:=(k,y)) e
 |p::r,hn=>by
  rw[zaS];have hk:¬p.1=k:=fun z=>by rw[fj z] at hn;cases hn
  rw[gd hk] at hn;have ih:=HD k j y r hn;by_cases e:p.1=j
  ·rw[fj e,fj e,if_neg (fun z=>hk (e.trans z))]
  ·rw[gd e,gd e,ih]
theorem xb(m:List (Int×α))(k j:Int)(y:α):fh (vQ m k y) j=if j=k then some y else fh m j:=by
 cases q:fh m k with
 |none=>rw[Bv y q];exact HD k j y m q
 |some u=>
  rw[xa y q,HC];by_cases e:j=k
  ·rw[if_pos e,e,q,za9,if_pos rfl]
  ·rw[if_neg e];cases fh m j with
   |none=>rfl
   |some x=>rw[za9,if_neg e]
theorem get_mem{m:List (Int×α)}{k:Int}{u:α}(h:fh m k=some u):(k,u)∈m:=by
 unfold fh at h;obtain⟨e,he,rfl⟩:=zbd.mp h;have h1:=List.mem_of_find?_eq_some he;have h2:e.1=k:=by have:=List.find?_some he;simpa using this
 rw[<- h2];exact h1
theorem Fh{m:List (Int×α)}{k:Int}{u:α}(v:α)(h:fh m k=some u):(vQ m k v).map (·.1)=m.map (·.1):=by
 rw[xa v h,zbE];refine zcF fun e _=>?_;simp only[Function.comp];split<;>rfl
theorem get_none{m:List (Int×α)}{k:Int}(h:fh m k=none):k ∉ m.map (·.1):=fun z=>by
 obtain⟨e,he,rfl⟩:=zaI.mp z;have:=Ah e.1 m;rw[h] at this;simp at this;exact this e.1 e.2 he rfl
theorem Wu{m:List (Int×α)}{k:Int}(v:α)(nd:(m.map (·.1)).Nodup):((vQ m k v).map (·.1)).Nodup:=by
 cases q:fh m k with
 |some u=>rw[Fh v q];exact nd
 |none=>
  rw[Bv v q,zas,zbQ];refine⟨nd,by simp,fun a ha b hb z=>get_none q ?_⟩;have e2:b=k:=by simpa using hb
  rw[z,e2] at ha;exact ha
theorem S6{m:List (Int×α)}{k:Int}{v:α}{e:Int×α}(h:e∈vQ m k v):e∈m\/e=(k,v):=by
 unfold vQ at h;split at h
 ·obtain⟨x,hx,rfl⟩:=zaI.mp h;by_cases z:x.1=k
  ·rw[if_pos z,z];exact .inr rfl
  ·rw[if_neg z];exact .inl hx
 ·rcases zam.mp h with h |h
  ·exact .inl h
  ·exact .inr (zad.mp h)
def tw (f:α->Nat) (m:List (Int×α)):Nat:=(m.map fun e=>f e.2).sum
theorem S7{f:α->Nat}{m:List (Int×α)}{k:Int}(v:α)(h:fh m k=none):tw f (vQ m k v)=tw f m+f v:=by
 rw[Bv v h];unfold tw;rw[zas,List.sum_append];simp
theorem LZ{f:α->Nat}:∀ {m:List (Int×α)} {k:Int} {u:α} (v:α),(m.map (·.1)).Nodup->fh m k=some u->tw f (vQ m k v)+f u=tw f m+f v
 |[],k,u,v,_,h=>by cases h
 |p::r,k,u,v,nd,h=>by
  rw[xa v h];rw[zaq,zbh] at nd;by_cases e:p.1=k
  ·rw[fj e] at h;cases h;have er:(r.map fun e=>if e.1=k then (e.1,v) else e)=r:=by
    refine(zcF fun x hx=>?_).trans (List.map_id' r);rw[if_neg fun z=>nd.1 (zaI.mpr ⟨x,hx,by rw[z,e]⟩)]
   rw[zaq,if_pos e,er];unfold tw;rw[zaq,zaq,zby,zby];simp only;lia
  ·rw[gd e] at h;have ih:=LZ (f:=f) v nd.2 h;rw[xa v h] at ih;rw[zaq,if_neg e];unfold tw at ih ⊢;rw[zaq,zaq,zby,zby];lia
theorem QT{f:α->Nat}{B:Nat}:∀ {m:List (Int×α)},(∀e∈m,f e.2<=B)->tw f m<=m.length*B
 |[],_=>by simp[tw]
 |p::r,h=>by
  have ih:=QT (f:=f) (B:=B) (m:=r) fun e he=>h e (zak _ he);have:=h p (zap ..);unfold tw at ih ⊢;rw[zaq,zby,zaf,zc4];lia
end
def Sub (a b:List Rg):Prop:=a.length=b.length/\∀(i:Nat) (x y:Rg),a[i]?=some x->b[i]?=some y->y.1<=x.1/\x.2<=y.2
theorem Sub.refl(a:List Rg):Sub a a:=⟨rfl,fun i x y e1 e2=>by rw[e1] at e2;cases e2;exact⟨zbL _,zbL _⟩⟩
theorem Sub.trans{a b c:List Rg}(h:Sub a b)(k:Sub b c):Sub a c:=⟨h.1.trans k.1,fun i x z e1 e3=>by
 have hi:i<b.length:=by have:=(zar.mp e1).1;rw[<- h.1];exact this
 have h1:=h.2 i x _ e1 (zag hi);have h2:=k.2 i _ z (zag hi) e3;lia⟩
theorem Qn.sub{a b:List Rg}{vals:List Int}(h:Qn a vals)(k:Sub a b):Qn b vals:=⟨h.1.trans k.1,fun i v r e1 e2=>by
 have hi:i<a.length:=by have:=(zar.mp e2).1;rw[k.1];exact this
 have h1:=h.2 i v _ e1 (zag hi);have h2:=k.2 i _ r (zag hi) e2;unfold In at h1 ⊢;lia⟩
def Ka (rs:List Rg):Nat:=(rs.map fun r=>(r.2-r.1).toNat).sum
theorem QU:∀ {a b:List Rg},Sub a b->(∀r∈a,r.1<=r.2)->(∀r∈b,r.1<=r.2)->Ka a<=Ka b/\(a≠b->Ka a<Ka b)
 |[],[],_,_,_=>⟨zah _,fun z=>absurd rfl z⟩
 |[],_::_,h,_,_=>by have:=h.1;simp at this
 |_::_,[],h,_,_=>by have:=h.1;simp at this
 |x::a,y::b,h,ha,hb=>by
  have ih:=QU (a:=a) (b:=b) ⟨by have:=h.1;simpa using this,fun i p q e1 e2=>h.2 (i+1) p q (by simpa using e1) (by simpa using e2)⟩ (fun r hr=>ha r (zak _ hr)) (fun r hr=>hb r (zak _ hr));have h0:=h.2 0 x y rfl rfl;have hx:=ha x (zap ..);have hy:=hb y (zap ..);unfold Ka at ih ⊢;rw[zaq,zaq,zby,zby];refine⟨by lia,fun ne=>?_⟩;by_cases e:a=b
  ·have:x≠y:=fun z=>ne (by rw[z,e]);have e2:¬(x.1=y.1/\x.2=y.2):=fun z=>this (Prod.ext z.1 z.2);lia
  ·have:=ih.2 e;lia
theorem QV{B:Nat}:∀ {rs:List Rg},(∀r∈rs,(r.2-r.1).toNat<=B)->Ka rs<=rs.length*B
 |[],_=>by simp[Ka]
 |x::r,h=>by
  have ih:=QV (rs:=r) fun e he=>h e (zak _ he);have:=h x (zap ..);unfold Ka at ih ⊢;rw[zaq,zby,zaf,zc4];lia
def Y1 (pr:Prog) (m:List (Int×List Rg)) (r:Int) (rs:List Rg):Prop:=∀(i:Nat) (hi:i<(bG pr.body).length) (hf:i<(cQ pr.body 0).length),(bG pr.body)[i].row=r->∀q∈Wi pr.bT rs (cQ pr.body 0)[i].2.2 (bG pr.body)[i],∃u,fh m q.1=some u/\Sub q.2 u
def KnR (pr:Prog) (r:Int):Prop:=r=0\/∃s∈bG pr.body,s.row=r
structure LM(pr:Prog)(m:List (Int×List Rg))(w:List Int):Prop where
 nd:(m.map (·.1)).Nodup
 Ui:∀e∈m,MZ pr.bT e.2/\KnR pr e.1
 first:∃u,fh m (dv pr.body 0)=some u/\Sub (one (pr.bT.map (·.first))) u
 wait:∀r∈w,∃u,fh m r=some u
 many:w.length<=tw (fun rs=>1+Ka rs) m
structure LI(pr:Prog)(m:List (Int×List Rg))(w:List Int):Prop where
 lm:LM pr m w
 Wv:∀r u,fh m r=some u->r∈w\/Y1 pr m r u
structure LJ(pr:Prog)(r:Int)(rs:List Rg)(done:List (Int×List Rg))(m:List (Int×List Rg))(w:List Int):Prop where
 lm:LM pr m w
 Wv:∀r' u,r'≠r->fh m r'=some u->r'∈w\/Y1 pr m r' u
 own:r∈w\/fh m r=some rs
 cov:∀q∈done,∃u,fh m q.1=some u/\Sub q.2 u
theorem Y1.grow{pr:Prog}{m m':List (Int×List Rg)}{r:Int}{rs:List Rg}(h:Y1 pr m r rs)(g:∀k u,fh m k=some u->∃u',fh m' k=some u'/\Sub u u'):Y1 pr m' r rs:=fun i hi hf e q hq=>by
 obtain⟨u,h1,h2⟩:=h i hi hf e q hq;obtain⟨u',h3,h4⟩:=g _ _ h1;exact⟨u',h3,h2.trans h4⟩
theorem LJ.put{pr:Prog}{r:Int}{rs:List Rg}{done m:List (Int×List Rg)}{w:List Int}(h:LJ pr r rs done m w){q:Int×List Rg}{v:List Rg}(hv:MZ pr.bT v)(hk:KnR pr q.1)(hq:Sub q.2 v)(ho:∀u,fh m q.1=some u->Sub u v/\u≠v) :
 LJ pr r rs (done++[q]) (vQ m q.1 v) (w++[q.1])/\tw (fun rs=>1+Ka rs) m<tw (fun rs=>1+Ka rs) (vQ m q.1 v):=by
 have g:∀k u,fh m k=some u->∃u',fh (vQ m q.1 v) k=some u'/\Sub u u':=fun k u e=>by
  rw[xb];by_cases z:k=q.1
  ·rw[if_pos z];rw[z] at e;exact⟨v,rfl,(ho u e).1⟩
  ·rw[if_neg z];exact⟨u,e,Sub.refl u⟩
 have lt:tw (fun rs=>1+Ka rs) m<tw (fun rs=>1+Ka rs) (vQ m q.1 v):=by
  cases e:fh m q.1 with
  |none=>rw[S7 v e];lia
  |some u=>
   have h1:=LZ (f:=fun rs=>1+Ka rs) v h.lm.nd e;have h2:=(QU (ho u e).1 (h.lm.Ui _ (get_mem e)).1.le hv.le).2 (ho u e).2;lia
 refine⟨⟨⟨Wu v h.lm.nd,fun e he=>?_,?_,fun x hx=>?_,?_⟩,fun r' u ne e=>?_,?_,fun x hx=>?_⟩,lt⟩
 ·rcases S6 he with he |rfl
  ·exact h.lm.Ui e he
  ·exact⟨hv,hk⟩
 ·obtain⟨u,h1,h2⟩:=h.lm.first;obtain⟨u',h3,h4⟩:=g _ _ h1;exact⟨u',h3,h2.trans h4⟩
 ·rcases zam.mp hx with hx |hx
  ·obtain⟨u,hu⟩:=h.lm.wait x hx;obtain⟨u',h3,_⟩:=g _ _ hu;exact⟨u',h3⟩
  ·rw[zad.mp hx,xb,if_pos rfl];exact⟨v,rfl⟩
 ·have:=h.lm.many;rw[zae,zaw];lia
 ·rw[xb] at e;by_cases z:r'=q.1
  ·exact .inl (zam.mpr (.inr (by rw[z];simp)))
  ·rw[if_neg z] at e;exact(h.Wv r' u ne e).imp (fun x=>zam.mpr (.inl x)) fun c=>c.grow g
 ·by_cases z:r=q.1
  ·exact .inl (zam.mpr (.inr (by rw[z];simp)))
  ·rw[xb,if_neg z];exact h.own.imp (fun x=>zam.mpr (.inl x)) fun x=>x
 ·rcases zam.mp hx with hx |hx
  ·obtain⟨u,h1,h2⟩:=h.cov x hx;obtain⟨u',h3,h4⟩:=g _ _ h1;exact⟨u',h3,h2.trans h4⟩
  ·rw[zad.mp hx,xb,if_pos rfl];exact⟨v,rfl,hq⟩
theorem LJ.skip{pr:Prog}{r:Int}{rs:List Rg}{done m:List (Int×List Rg)}{w:List Int}(h:LJ pr r rs done m w){q:Int×List Rg}{u:List Rg}(e:fh m q.1=some u)(s:Sub q.2 u):LJ pr r rs (done++[q]) m w:=
 ⟨h.lm,h.Wv,h.own,fun x hx=>by
  rcases zam.mp hx with hx |hx
  ·exact h.cov x hx
  ·rw[zad.mp hx];exact⟨u,e,s⟩⟩
theorem nv{bs:List ji}(sz:∀b∈bs,2<=b.size/\b.size<=10/\0<=b.first/\b.first<b.size):MZ bs (one (bs.map (·.first))):=by
 refine⟨⟨by unfold one;rw[zaj,zaj],fun i r b e1 e2=>?_⟩,fun r hr=>?_⟩
 ·unfold one at e1;rw[zaE,zaE,e2] at e1;cases e1;have:=sz b (zbj e2);unfold Xk;simp only;lia
 ·unfold one at hr;obtain⟨v,_,rfl⟩:=zaI.mp hr;exact zbL _
theorem LI.one{pr:Prog}(sz:∀b∈pr.bT,2<=b.size/\b.size<=10/\0<=b.first/\b.first<b.size)(hk:KnR pr (dv pr.body 0)):LI pr [(dv pr.body 0,L2.one (pr.bT.map (·.first)))] [dv pr.body 0]:=
 ⟨⟨by simp,fun e he=>by rw[zad.mp he];exact⟨nv sz,hk⟩,⟨_,fj rfl,Sub.refl _⟩,fun r hr=>⟨_,fj (zad.mp hr).symm⟩,by simp[tw]⟩,fun r u e=>by
  by_cases z:dv pr.body 0=r
  ·exact .inl (by rw[z];simp)
  ·rw[gd z] at e;cases e⟩
theorem LM.Gf{pr:Prog}{m:List (Int×List Rg)}{w:List Int}(h:LM pr m w)(Gf:pr.bT.length<=4)(sz:∀b∈pr.bT,2<=b.size/\b.size<=10/\0<=b.first/\b.first<b.size):m.length<=(bG pr.body).length+1/\tw (fun rs=>1+Ka rs) m<=((bG pr.body).length+1)*37:=by
 have l:m.length<=(bG pr.body).length+1:=by
  have:=xX (m.map (·.1)) (0::(bG pr.body).map (·.row)) h.nd fun x hx=>by
   obtain⟨e,he,rfl⟩:=zaI.mp hx;rcases(h.Ui e he).2 with z |⟨s,hs,e2⟩
   ·rw[z];simp
   ·exact zak _ (zaI.mpr ⟨s,hs,e2⟩)
  simpa using this
 refine⟨l,zay (QT (B:=37) fun e he=>?_) (zdw _ l)⟩;have hr:=(h.Ui e he).1;have:=QV (B:=9) (rs:=e.2) fun r Bw=>by
  obtain⟨i,hi⟩:=List.getElem?_of_mem Bw;have lQ:i<pr.bT.length:=by have:=(zar.mp hi).1;rw[hr.bd.1] at this;exact this
  have h1:=hr.bd.2 i r _ hi (zag lQ);have h2:=sz _ (zaK lQ);unfold Xk at h1;lia
 have l2:e.2.length=pr.bT.length:=hr.bd.1;have:e.2.length*9<=4*9:=zdw _ (by lia);lia
end L2
namespace L2
open PySem PySem.W PyProof.Rows
section
variable{key:Nat->Int}{n:Nat}
def kk (key:Nat->Int) (p:Array Nat) (i:Nat):Int:=key (p.getD i 0)
def Pm (n:Nat) (p:Array Nat):Prop:=p.toList.Perm (zaA n)
theorem Pm.size{p:Array Nat}(h:Pm n p):p.size=n:=by have:=List.Perm.length_eq h;simpa using this
theorem Pm.lt{p:Array Nat}(h:Pm n p){i:Nat}(hi:i<n):p.getD i 0<n:=by
 have hs:=h.size;have e:p.getD i 0=p[i]'(by lia):=by simp[Array.getD,show i<p.size by lia]
 rw[e];have:p[i]'(by lia)∈zaA n:=(List.Perm.mem_iff h).mp (by simp);exact zbu.mp this
theorem Pm.un{p:Array Nat}(h:Pm n p){i j:Nat}(hi:i<n)(hj:j<n)(e:i≠j):p.getD i 0≠p.getD j 0:=fun z=>e (by
 have hs:=h.size;have e1:p.getD i 0=p.toList[i]'(by simp;lia):=by simp[Array.getD,show i<p.size by lia]
 have e2:p.getD j 0=p.toList[j]'(by simp;lia):=by simp[Array.getD,show j<p.size by lia]
 rw[e1,e2] at z;have nd:p.toList.Nodup:=(List.Perm.nodup_iff h).mpr List.nodup_range;exact(zc2 nd).mp z)
theorem Pm.ne{p:Array Nat}(h:Pm n p)(inj:∀i j,i<n->j<n->key i=key j->i=j){i j:Nat}(hi:i<n)(hj:j<n)(e:kk key p i=kk key p j):i=j:=by
 have:=inj _ _ (h.lt hi) (h.lt hj) e;exact Classical.byContradiction fun z=>h.un hi hj z this
end
section
variable{prog:zd1}{w:zdR}{A:zd0}{E:zdQ->zdZ->Prop}{s:zdZ}
structure Ww(h:Heap)(vs:List zdQ)(ks:List Int):Prop where
 len:vs.length=ks.length
 nd:ks.Nodup
 at_:∀(i:Nat) (k:Int),ks[i]?=some k->∃p t x,vs[i]?=some (.ref p)/\h.get? p=some ({cls:=.type "tuple",data:=.seq #[.int k t,x]}:Obj)
theorem Ww.mono{h h':Heap}{vs:List zdQ}{ks:List Int}(T:Ww h vs ks){a:zdP}{o:Obj}(ha:h.get? a=some (seqObj "list" vs.toArray n))(k:∀b o,b≠a->h.get? b=some o->h'.get? b=some o):Ww h' vs ks:=⟨T.len,T.nd,fun i x e=>by
 obtain⟨p,t,y,e1,e2⟩:=T.at_ i x e;exact⟨p,t,y,e1,k p _ (fun z=>by
  subst z;rw[ha] at e2;have:=congrArg Obj.cls (zaG.inj e2);simp[seqObj] at this) e2⟩⟩
end
def RmR (K:zab) (H:Hp) (a:Int×V) (b:Int×List PG.Rg):Prop:=a.1=b.1/\uL K H a.2 b.2
def RelM (K:zab) (H:Hp) (bg:List (Int×V)) (m:List (Int×List PG.Rg)):Prop:=Paired (RmR K H) bg m
theorem RelM.mono{K:zab}{H H':Hp}{bg:List (Int×V)}{m:List (Int×List PG.Rg)}(h:RelM K H bg m)(f:∀v rs,uL K H v rs->uL K H' v rs):RelM K H' bg m:=by
 unfold RelM at h ⊢
 induction h with
 |nil=>exact .nil
 |cons a _ ih=>exact .cons ⟨a.1,f _ _ a.2⟩ ih
theorem uL.tup{K:zab}{H:Hp}{v:V}{rs:List PG.Rg}(h:uL K H v rs):∃a us,v=.ref a/\dF K H a us/\us.length=rs.length:=by obtain⟨a,us,e,q,r⟩:=h;exact⟨a,us,e,q,r.1⟩
theorem S8{X:Cx}{K:zab}(e:X.K=K)(n:Nat){es:List Expr}{k:Nat}{pos:Pos}{t:RL}(hc:X.calm=true)(h:W7 X es t)
 (hn:(assignEach es X.env).length=n:=by rfl) (IY:(assignEach es X.env).findIdx? (·.1)=none:=by rfl):PG X (.Tuple es k pos) (R1 K n t):=e▸Ow hc h hn IY
open PySem.Spec
def S9:W:=[97,108,108]
inductive Uu(H:Hp)(Z:List zdP)(k:Option Bool)(e:zdP):Prop
 |mk (kd:W) (b:zdP) (rest:List V):H e=some (.lst (sv kd :: .ref b::rest))->b∈Z->e ∉ Z->(k=some true↔kd=PM.jV)->(kd=PM.jV->∃o,rest=[.ref o]/\o∈Z)->Uu H Z k e
structure uM(H:Hp)(O:zdP)(Z:List zdP)(j5:List (zdP×Option Bool))(df:List Bool)(m:Nat):Prop where
 yO:H O=some (.lst (j5.map fun p=>V.ref p.1))
 ek:j5.map (·.2)=none::df.map some
 en:∀p∈j5,Uu H Z p.2 p.1
 zz:∀z∈Z,∃xs,H z=some (.lst xs)/\xs.length<=m
 nO:O ∉ Z
theorem Uu.keep{H H':Hp}{Z Z':List zdP}{k:Option Bool}{e:zdP}(h:Uu H Z k e)(hk:H' e=H e)(sub:∀z∈Z,z∈Z')(ne:e ∉ Z'):Uu H' Z' k e:=by
 obtain⟨kd,b,rest,y,hb,_,h1,h2⟩:=h;exact .mk kd b rest (by rw[hk];exact y) (sub b hb) ne h1 fun z=>by obtain⟨o,e1,e2⟩:=h2 z;exact⟨o,e1,sub o e2⟩
theorem Uu.no{H:Hp}{Z:List zdP}{k:Option Bool}{e:zdP}(h:Uu H Z k e):e ∉ Z/\∃xs,H e=some (.lst xs):=by
 obtain⟨kd,b,rest,y,_,n,_,_⟩:=h;exact⟨n,_,y⟩
section
variable{H H':Hp}{O:zdP}{Z:List zdP}{j5:List (zdP×Option Bool)}{df:List Bool}{m:Nat}
theorem uM.same(h:uM H O Z j5 df m)(s:ay H H'):uM H' O Z j5 df m:=
 ⟨s _ _ h.yO,h.ek,fun p hp=>by
  obtain⟨n,xs,y⟩:=(h.en p hp).no;exact(h.en p hp).keep (by rw[y,s _ _ y]) (fun _ z=>z) n,fun z hz=>by obtain⟨xs,y,l⟩:=h.zz z hz;exact⟨xs,s _ _ y,l⟩,h.nO⟩
theorem uM.more(h:uM H O Z j5 df m):uM H O Z j5 df (m+1):={h with zz:=fun z hz=>by obtain⟨xs,y,l⟩:=h.zz z hz;exact⟨xs,y,by lia⟩}
theorem uM.Y2(h:uM H O Z j5 df m){p:zdP×Option Bool}(hp:p∈j5):p.1≠O:=fun z=>by
 obtain⟨kd,b,rest,y,_⟩:=h.en p hp;rw[z,h.yO] at y;cases j5 with
 |nil=>cases hp
 |cons q r=>cases y
theorem uM.put(h:uM H O Z j5 df m){b:zdP}(hb:b∈Z){xs:List V}(y:H b=some (.lst xs))(v:V):uM (upd H b (.lst (xs++[v]))) O Z j5 df (m+1):=
 ⟨by rw[aq (show O≠b from fun z=>h.nO (z▸hb))];exact h.yO,h.ek,fun p hp=>(h.en p hp).keep (aq fun z=>(h.en p hp).no.1 (z▸hb)) (fun _ z=>z) (h.en p hp).no.1,fun z hz=>by
  by_cases e:z=b
  ·obtain⟨ys,y2,l⟩:=h.zz b hb;rw[y] at y2;cases y2;exact⟨_,by rw[e,aj],by rw[zae,zaw];lia⟩
  ·obtain⟨ys,y2,l⟩:=h.zz z hz;exact⟨ys,by rw[aq e];exact y2,by lia⟩,h.nO⟩
theorem uM.ne(h:uM H O Z j5 df m):j5≠[]:=fun z=>by
 have:=h.ek;rw[z] at this;cases this
theorem uM.len(h:uM H O Z j5 df m):j5.length=df.length+1:=by
 have:=congrArg zbs h.ek;rw[zaj,zaf,zaj] at this;exact this
theorem uM.last(h:uM H O Z j5 df m):∃Bx e k,j5=Bx++[(e,k)]/\Uu H Z k e/\(k=some true↔df.getLast?=some true):=by
 obtain⟨Bx,⟨e,k⟩,hp⟩:∃Bx x,j5=Bx++[x]:=by
  cases hg:j5.getLast? with
  |none=>exact absurd (zbC.mp hg) h.ne
  |some u=>obtain⟨ys,e⟩:=zc0.mp hg;exact⟨ys,u,e⟩
 refine⟨Bx,e,k,hp,h.en (e,k) (by rw[hp];simp),?_⟩;have h2:=congrArg List.getLast? h.ek;rw[hp,zas,za6,zct] at h2;cases hk:df.reverse with
 |nil=>
  have:df=[]:=List.reverse_eq_nil_iff.mp hk;subst this;simp at h2;subst h2;simp
 |cons x r=>
  have e1:df=r.reverse++[x]:=by rw[<- zdr df,hk,zb0]
  rw[e1,zas,za6,<- zaS,zct] at h2;rw[show k=some x from zaG.inj h2,e1,zct]
theorem uM.Sy{Bx:List (zdP×Option Bool)}{e e' o:zdP}{k:Option Bool}(h:uM H O Z (Bx++[(e,k)]) df m)(hn:df≠[])(ho:o∈Z)(fe:H e'=none) :
 uM (upd (upd H e' (.lst [sv PM.cY,.ref o])) O (.lst ((Bx++[(e',some false)]).map fun p=>V.ref p.1))) O Z (Bx++[(e',some false)]) (df.dropLast++[false]) m:=by
 have s:=ay.new fe (.lst [sv PM.cY,.ref o]);have nz:e' ∉ Z:=fun z=>by obtain⟨xs,y,_⟩:=h.zz e' z;rw[fe] at y;cases y
 have nO:e'≠O:=fun z=>by rw[z,h.yO] at fe;cases fe
 have y':(upd H e' (.lst [sv PM.cY,.ref o])) e'=some (.lst [sv PM.cY,.ref o]):=aj;have h':=h.same s;generalize upd H e' (.lst [sv PM.cY,.ref o])=H1 at *;refine⟨aj,?_,fun p hp=>?_,fun z hz=>?_,h.nO⟩
 ·have e1:=congrArg List.dropLast h.ek;rw[zas,za6,zcu] at e1;rw[zas,za6,e1];cases df with
  |nil=>exact absurd rfl hn
  |cons x r=>simp
 ·rcases zam.mp hp with z |z
  ·have GC:p∈Bx++[(e,k)]:=zaW _ z;exact(h'.en p GC).keep (aq (h'.Y2 GC)) (fun _ z=>z) (h'.en p GC).no.1
  ·rw[zad.mp z];exact .mk PM.cY o [] (by rw[aq nO];exact y') ho nz ⟨fun z=>(by cases z),fun z=>absurd z (show ¬PM.cY=PM.jV by decide)⟩ fun z=>absurd z (show ¬PM.cY=PM.jV by decide)
 ·obtain⟨xs,y,l⟩:=h'.zz z hz;exact⟨xs,by rw[aq (show z≠O from fun q=>h.nO (q▸hz))];exact y,l⟩
theorem uM.pop{Bx:List (zdP×Option Bool)}{x:zdP×Option Bool}(h:uM H O Z (Bx++[x]) df m)(hn:df≠[]) :
 uM (upd H O (.lst (Bx.map fun p=>V.ref p.1))) O Z Bx df.dropLast m:=by
 refine⟨aj,?_,fun p hp=>?_,fun z hz=>?_,h.nO⟩
 ·have e1:=congrArg List.dropLast h.ek;rw[zas,za6,zcu] at e1;rw[e1];cases df with
  |nil=>exact absurd rfl hn
  |cons x r=>simp
 ·have GC:p∈Bx++[x]:=zaW _ hp;exact(h.en p GC).keep (aq (h.Y2 GC)) (fun _ z=>z) (h.en p GC).no.1
 ·obtain⟨xs,y,l⟩:=h.zz z hz;exact⟨xs,by rw[aq (show z≠O from fun q=>h.nO (q▸hz))];exact y,l⟩
theorem uM.push(h:uM H O Z j5 df m){e b:zdP}{kd:W}{rest:List V}{k:Bool}{Z':List zdP}(sub:∀z∈Z,z∈Z')(new:∀z∈Z',z∈Z\/(H z=some (.lst [])/\z≠O/\∀p∈j5,p.1≠z))(ye:H e=some (.lst (sv kd :: .ref b::rest)))(hb:b∈Z')(ne:e ∉ Z')(nO:e≠O)(hk:k=true↔kd=PM.jV)(ho:kd=PM.jV->∃o,rest=[.ref o]/\o∈Z') :
 uM (upd H O (.lst ((j5++[(e,some k)]).map fun p=>V.ref p.1))) O Z' (j5++[(e,some k)]) (df++[k]) m:=by
 refine⟨aj,?_,fun p hp=>?_,fun z hz=>?_,fun z=>?_⟩
 ·rw[zas,h.ek,zas];rfl
 ·rcases zam.mp hp with z |z
  ·refine(h.en p z).keep (aq (h.Y2 z)) sub fun q=>?_;rcases new _ q with w |⟨_,_,w⟩
   ·exact(h.en p z).no.1 w
   ·exact w p z rfl
  ·rw[zad.mp z];exact .mk kd b rest (by rw[aq nO];exact ye) hb ne (by simp[hk]) ho
 ·rcases new z hz with w |⟨w,nz,_⟩
  ·obtain⟨xs,y,l⟩:=h.zz z w;exact⟨xs,by rw[aq (show z≠O from fun q=>h.nO (q▸w))];exact y,l⟩
  ·exact⟨[],by rw[aq nz];exact w,zaU _⟩
 ·rcases new O z with w |⟨_,w,_⟩
  ·exact h.nO w
  ·exact w rfl
end
section
variable(K:zab)
inductive Uv(vs:List V)(H:Hp)(Q:VK)(E:XK):Prop
 |mk (cell:Int) (k:Nat) (O N:zdP) (Z:List zdP) (j5:List (zdP×Option Bool)) (d:PM.Df) (m:Nat):vs=[.int cell,.int k,.ref O,.ref N]->k<=200->m<=100->uM H O Z j5 d.df m->d.df.length<=5->H N=some (.lst (d.w6.map sv))->N ∉ Z->N≠O->(∀p∈j5,p.1≠N)->Ng d.w6->
  (∀w f d' Z' Nj H',LY w f->PM.nE d f=.ok d'->d'.w6=d.w6->d'.df.length<=5->uM H' O Z' Nj d'.df (m+1)->(∀y u,y≠O->y ∉ Z->H y=some u->H' y=some u)->(∀z∈Z',z∈Z\/H z=none)->(∀z∈Z,z∈Z')->(∀p∈Nj,p∈j5\/H p.1=none)->Q (sv w) H')->Uv vs H Q E
end
section
variable(K:zab)
inductive Uw(vs:List V)(H:Hp)(Q:VK)(E:XK):Prop
 |mk (a:zdP) (cs:List Int) (hd:Int):vs=[.ref a,.int hd]->gI K H a (cs.map .int)->cs.length<=63->(∀l R p ws H',ay H H'->H' l=some (.lst [.ref R,p])->H' R=some (.lst (ws.map sv))->ws≠[]->ws.length<=72->(∃d,PM.dy ⟨[],false,[]⟩ ws=.ok d)->(∀r∈ws,r.length<=200/\10 ∉ r)->Q (.ref l) H')->Uw vs H Q E
end
theorem QW{K:zab}{H:Hp}{bs:List (W×Int×Int)}{us:List V}(h:a7 K H (bs.map Wt) us){i:Nat}{x:V}(hx:us[i]?=some x):∃b a,bs[i]?=some b/\x=.ref a/\dF K H a [sv b.1,.int b.2.1,.int b.2.2]:=by
 induction bs generalizing us i with
 |nil=>
  rw[zbV,a7.bE] at h;subst h;cases hx
 |cons b bs ih=>
  rw[zaq,a7.bh] at h;obtain⟨v,vs,rfl,h1,h2⟩:=h;cases i with
  |zero=>
   cases hx;unfold Wt at h1;simp only[Rep.bV,a7.bh,a7.bE,Rep.a8,Rep.cN] at h1;obtain⟨a,xs,rfl,hS,_,_,rfl,rfl,_,_,rfl,rfl,_,_,rfl,rfl,rfl⟩:=h1;exact⟨b,a,rfl,rfl,hS⟩
  |succ i=>exact ih h2 hx
theorem Nk{K:zab}{H:Hp}{ds:List Dp}{us:List V}(h:a7 K H ds us):us.length=ds.length:=by
 induction ds generalizing us with
 |nil=>rw[a7.bE] at h;subst h;rfl
 |cons d ds ih=>
  rw[a7.bh] at h;obtain⟨v,vs,rfl,h1,h2⟩:=h;rw[zaf,zaf,ih h2]
theorem uM.oth{H:Hp}{O:zdP}{Z:List zdP}{j5:List (zdP×Option Bool)}{df:List Bool}{m:Nat}(h:uM H O Z j5 df m){y:zdP}{o:HO}(nO:y≠O)(nZ:y ∉ Z)(np:∀p∈j5,p.1≠y):uM (upd H y o) O Z j5 df m:=
 ⟨by rw[aq (Ne.symm nO)];exact h.yO,h.ek,fun p hp=>(h.en p hp).keep (aq (np p hp)) (fun _ z=>z) (h.en p hp).no.1,fun z hz=>by
  obtain⟨xs,y2,l⟩:=h.zz z hz;exact⟨xs,by rw[aq (show z≠y from fun q=>nZ (q▸hz))];exact y2,l⟩,h.nO⟩
theorem Ux{i:Int}(h1:0<=i)(h2:i<1000):i.natAbs.log2<1920:=by
 by_cases h0:i.natAbs=0
 ·rw[h0];decide
 ·exact zdL ((zdO h0).mpr (show i.natAbs<2 ^ 64 by lia)) (by decide)
structure BlI(H5 Hx:Hp)(R N O Bd E0:zdP)(Z:List zdP)(j5:List (zdP×Option Bool))(d:PM.Df)(ws:List W)(nb i:Nat):Prop where
 op:uM Hx O Z j5 d.df i
 k5:d.df.length<=5
 yR:Hx R=some (.lst (ws.map sv))
 yN:Hx N=some (.lst (d.w6.map sv))
 rr:PM.dy ⟨[],false,[]⟩ ws=.ok d
 nm:Ng d.w6
 lw:ws.length=nb+i
 ok:∀r∈ws,r.length<=200/\10 ∉ r
 zf:∀z∈Z,z=Bd\/H5 z=none
 pf:∀p∈j5,p.1=E0\/H5 p.1=none
 kp:∀y u,y≠O->y≠Bd->y≠R->H5 y=some u->Hx y=some u
 bz:Bd∈Z
end L2
namespace PM
theorem QX{d x:Df}{a b:List W}(h:dy d (a++b)=.ok x):∃y,dy d a=.ok y:=by
 rw[x6] at h;cases e:dy d a with
 |error z=>rw[e] at h;cases h
 |ok y=>exact⟨y,rfl⟩
theorem EB:∀ {ws:List W} {d x:Df},dy d ws=.ok x->∀r∈ws,∃f,cL (L2.av 32 r)=some f
 |[],_,_,_,r,hr=>by cases hr
 |w::ws,d,x,h,r,hr=>by
  rw[dy] at h;cases e:cL (L2.av 32 w) with
  |none=>rw[e] at h;cases h
  |some f=>
   rw[e] at h;rcases zai.mp hr with rfl |hr
   ·exact⟨f,e⟩
   ·cases e2:nE d f with
    |error z=>simp only[e2] at h;cases h
    |ok y=>simp only[e2] at h;exact EB h r hr
theorem QY{a b:List W}{w:W}{y:Df}(h:dy ⟨[],false,[]⟩ a=.ok y)(hb:cL (L2.av 32 w)=none)(l:(a++w::b).length<=80):Eo (a++w::b)=some .nD:=by
 unfold Eo;rw[if_neg (by lia),Bq h,dy,hb]
end PM
section
set_option maxHeartbeats 4000000
namespace Wx
open PySem L2
def top (i:Nat):Stmt:=PySem.Challenge.pw_everyrow_k07_rows_of_no_form.main.body.getD i (.Pass ⟨0,0,0,0⟩)
abbrev Fi:Stmt:=top 23
abbrev yk:Stmt:=top 24
abbrev tD:Stmt:=top 25
abbrev qX:Stmt:=top 26
abbrev vR:Stmt:=top 27
abbrev tE:Stmt:=top 29
abbrev ym:Stmt:=top 30
abbrev vS:Stmt:=top 31
abbrev nG:Stmt:=top 32
abbrev pI:Stmt:=top 33
abbrev nI:Stmt:=top 34
abbrev Kb:Stmt:=top 42
abbrev yq:Stmt:=top 44
abbrev vT:Stmt:=top 45
abbrev j6:Stmt:=top 46
abbrev tF:Stmt:=top 47
abbrev pJ:Stmt:=top 48
abbrev vU:Stmt:=top 49
abbrev vV:Stmt:=top 50
abbrev pK:Stmt:=top 51
abbrev tG:Stmt:=top 52
abbrev vW:Stmt:=top 53
abbrev j7:Stmt:=top 54
abbrev lX:Stmt:=top 55
abbrev qY:Stmt:=top 56
abbrev nJ:Stmt:=top 58
abbrev tH:Stmt:=top 59
abbrev cK:Stmt:=top 60
abbrev tI:Stmt:=top 61
abbrev tJ:Stmt:=top 62
abbrev pL:Stmt:=top 63
abbrev nK:Stmt:=top 64
abbrev tK:Stmt:=top 65
abbrev qZ:Stmt:=top 66
abbrev q0:Stmt:=top 67
abbrev pM:Stmt:=top 68
abbrev vX:Stmt:=top 69
abbrev rf:Stmt:=top 70
abbrev bA:Stmt:=top 71
abbrev nM:Stmt:=top 72
abbrev pN:Stmt:=top 73
abbrev QZ:Stmt:=top 74
abbrev c5:Stmt:=inClass (top 28) 0
abbrev cS:Stmt:=inClass (top 28) 1
abbrev c6:Stmt:=inClass (top 28) 2
abbrev dA:Stmt:=inClass (top 43) 0
abbrev cw:Stmt:=inClass (top 43) 1
abbrev bP:Stmt:=inClass (top 43) 2
abbrev cy:Stmt:=inClass (top 43) 3
theorem HE:aY ["word", "signs"] ["word", "signs"] (aE Fi):=⟨rfl,rfl,rfl,by decide +kernel,rfl,by decide +kernel,by decide +kernel⟩
theorem By:aY ["word"] ["word"] (aE yk):=⟨rfl,rfl,rfl,by decide +kernel,rfl,by decide +kernel,by decide +kernel⟩
theorem xc:aY ["word"] ["word"] (aE tD):=⟨rfl,rfl,rfl,by decide +kernel,rfl,by decide +kernel,by decide +kernel⟩
theorem u5:aY ["word", "pieces", "e"] ["word"] (aE qX):=⟨rfl,rfl,rfl,by decide +kernel,rfl,by decide +kernel,by decide +kernel⟩
theorem zp:aY ["e"] ["e"] (aE vR):=⟨rfl,rfl,rfl,by decide +kernel,rfl,by decide +kernel,by decide +kernel⟩
theorem xf:aY ["word", "pieces", "before", "sign", "kind"] ["word"] (aE tE):=⟨rfl,rfl,rfl,by decide +kernel,rfl,by decide +kernel,by decide +kernel⟩
theorem Bz:aY ["sign"] ["sign"] (aE ym):=⟨rfl,rfl,rfl,by decide +kernel,rfl,by decide +kernel,by decide +kernel⟩
theorem zr:aY ["pieces", "depth", "e", "sign"] ["pieces", "depth"] (aE vS):=⟨rfl,rfl,rfl,by decide +kernel,rfl,by decide +kernel,by decide +kernel⟩
theorem rJ:aY ["pieces", "depth", "e", "sign"] ["pieces", "depth"] (aE nG):=⟨rfl,rfl,rfl,by decide +kernel,rfl,by decide +kernel,by decide +kernel⟩
theorem tL:aY ["pieces", "depth", "piece"] ["pieces", "depth"] (aE pI):=⟨rfl,rfl,rfl,by decide +kernel,rfl,by decide +kernel,by decide +kernel⟩
theorem ik:aY ["pieces", "depth", "e"] ["pieces", "depth"] (aE nI):=⟨rfl,rfl,rfl,by decide +kernel,rfl,by decide +kernel,by decide +kernel⟩
theorem L0:aY ["text", "rows", "draft", "number", "row"] ["text"] (aE Kb):=⟨rfl,rfl,rfl,by decide +kernel,rfl,by decide +kernel,by decide +kernel⟩
theorem BA:aY ["row", "words", "word"] ["row"] (aE yq):=⟨rfl,rfl,rfl,by decide +kernel,rfl,by decide +kernel,by decide +kernel⟩
theorem zt:aY ["words"] ["words"] (aE vT):=⟨rfl,rfl,rfl,by decide +kernel,rfl,by decide +kernel,by decide +kernel⟩
theorem oZ:aY ["words"] ["words"] (aE j6):=⟨rfl,rfl,rfl,by decide +kernel,rfl,by decide +kernel,by decide +kernel⟩
theorem xg:aY ["word"] ["word"] (aE tF):=⟨rfl,rfl,rfl,by decide +kernel,rfl,by decide +kernel,by decide +kernel⟩
theorem tM:aY ["word"] ["word"] (aE pJ):=⟨rfl,rfl,rfl,by decide +kernel,rfl,by decide +kernel,by decide +kernel⟩
theorem zu:aY ["draft", "number", "form", "word"] ["draft", "number", "form"] (aE vU):=⟨rfl,rfl,rfl,by decide +kernel,rfl,by decide +kernel,by decide +kernel⟩
theorem zv:aY ["draft", "number", "box"] ["draft", "number", "box"] (aE vV):=⟨rfl,rfl,rfl,by decide +kernel,rfl,by decide +kernel,by decide +kernel⟩
theorem tO:aY ["size", "first"] ["size", "first"] (aE pK):=⟨rfl,rfl,rfl,by decide +kernel,rfl,by decide +kernel,by decide +kernel⟩
theorem xh:aY ["draft", "number", "second"] ["draft", "number"] (aE tG):=⟨rfl,rfl,rfl,by decide +kernel,rfl,by decide +kernel,by decide +kernel⟩
theorem zw:aY ["draft", "number"] ["draft", "number"] (aE vW):=⟨rfl,rfl,rfl,by decide +kernel,rfl,by decide +kernel,by decide +kernel⟩
theorem o5:aY ["draft", "number", "form", "word", "names", "name", "bodies"] ["draft", "number", "form"] (aE j7):=⟨rfl,rfl,rfl,by decide +kernel,rfl,by decide +kernel,by decide +kernel⟩
theorem qw:aY ["form", "word"] ["form"] (aE lX):=⟨rfl,rfl,rfl,by decide +kernel,rfl,by decide +kernel,by decide +kernel⟩
theorem u6:aY ["word"] ["word"] (aE qY):=⟨rfl,rfl,rfl,by decide +kernel,rfl,by decide +kernel,by decide +kernel⟩
theorem rK:aY ["script", "k"] ["script", "k"] (aE nJ):=⟨rfl,rfl,rfl,by decide +kernel,rfl,by decide +kernel,by decide +kernel⟩
theorem xj:aY ["cell", "k", "number"] ["cell", "k"] (aE tH):=⟨rfl,rfl,rfl,by decide +kernel,rfl,by decide +kernel,by decide +kernel⟩
theorem u7:aY ["head", "k", "many", "letters", "barred", "size", "stem", "found", "j", "number", "at", "word"] ["head", "k", "many"] (aE cK):=⟨rfl,rfl,rfl,by decide +kernel,rfl,by decide +kernel,by decide +kernel⟩
theorem xk:aY ["number", "names"] ["number", "names"] (aE tI):=⟨rfl,rfl,rfl,by decide +kernel,rfl,by decide +kernel,by decide +kernel⟩
theorem xl:aY ["cell", "k", "deep", "names", "number", "sign"] ["cell", "k", "deep", "names"] (aE tJ):=⟨rfl,rfl,rfl,by decide +kernel,rfl,by decide +kernel,by decide +kernel⟩
theorem tP:aY ["tree", "more", "left", "right"] ["tree", "more"] (aE pL):=⟨rfl,rfl,rfl,by decide +kernel,rfl,by decide +kernel,by decide +kernel⟩
theorem rL:aY ["word", "deep", "most", "sign"] ["word"] (aE nK):=⟨rfl,rfl,rfl,by decide +kernel,rfl,by decide +kernel,by decide +kernel⟩
theorem xm:aY ["cell", "k", "names", "tree", "more", "word"] ["cell", "k", "names"] (aE tK):=⟨rfl,rfl,rfl,by decide +kernel,rfl,by decide +kernel,by decide +kernel⟩
theorem u9:aY ["head", "names", "boxes", "k", "number", "size"] ["head"] (aE qZ):=⟨rfl,rfl,rfl,by decide +kernel,rfl,by decide +kernel,by decide +kernel⟩
theorem vd:aY ["cell", "k", "names", "number", "word", "tree", "kind", "name", "other", "sign"] ["cell", "k", "names"] (aE q0):=⟨rfl,rfl,rfl,by decide +kernel,rfl,by decide +kernel,by decide +kernel⟩
theorem tQ:aY ["cell", "k", "names", "one", "other", "sign"] ["cell", "k", "names"] (aE pM):=⟨rfl,rfl,rfl,by decide +kernel,rfl,by decide +kernel,by decide +kernel⟩
theorem zx:aY ["cell", "k", "opened", "names", "number", "row", "told"] ["cell", "k", "opened", "names"] (aE vX):=⟨rfl,rfl,rfl,by decide +kernel,rfl,by decide +kernel,by decide +kernel⟩
theorem vf:aY ["script", "head", "boxes", "rows", "body", "opened", "names", "cell"] ["script", "head"] (aE rf):=⟨rfl,rfl,rfl,by decide +kernel,rfl,by decide +kernel,by decide +kernel⟩
theorem zy:aY ["cell", "some", "barred", "word"] ["cell"] (aE bA):=⟨rfl,rfl,rfl,by decide +kernel,rfl,by decide +kernel,by decide +kernel⟩
theorem rM:aY ["rows", "told", "e"] ["rows"] (aE nM):=⟨rfl,rfl,rfl,by decide +kernel,rfl,by decide +kernel,by decide +kernel⟩
theorem tR:aY ["row", "kind", "cell", "words", "at"] ["row", "kind", "cell"] (aE pN):=⟨rfl,rfl,rfl,by decide +kernel,rfl,by decide +kernel,by decide +kernel⟩
theorem Q0:aY ["script", "rows", "program", "at", "kind", "cell"] ["script"] (aE QZ):=⟨rfl,rfl,rfl,by decide +kernel,rfl,by decide +kernel,by decide +kernel⟩
theorem tS:aY ["self", "word"] ["self", "word"] (aE c5):=⟨rfl,rfl,rfl,by decide +kernel,rfl,by decide +kernel,by decide +kernel⟩
theorem rN:aY ["self"] ["self"] (aE cS):=⟨rfl,rfl,rfl,by decide +kernel,rfl,by decide +kernel,by decide +kernel⟩
theorem tT:aY ["self", "piece"] ["self"] (aE c6):=⟨rfl,rfl,rfl,by decide +kernel,rfl,by decide +kernel,by decide +kernel⟩
theorem vg:aY ["self"] ["self"] (aE dA):=⟨rfl,rfl,rfl,by decide +kernel,rfl,by decide +kernel,by decide +kernel⟩
theorem nN:aY ["self"] ["self"] (aE cw):=⟨rfl,rfl,rfl,by decide +kernel,rfl,by decide +kernel,by decide +kernel⟩
theorem lE:aY ["self"] ["self"] (aE bP):=⟨rfl,rfl,rfl,by decide +kernel,rfl,by decide +kernel,by decide +kernel⟩
theorem nQ:aY ["self"] ["self"] (aE cy):=⟨rfl,rfl,rfl,by decide +kernel,rfl,by decide +kernel,by decide +kernel⟩
@[irreducible] def zN:List Expr:=JF ((aZ cK).getD 1 (.Pass ⟨0,0,0,0⟩))
theorem C6:aZ cK=[(aZ cK).getD 0 (.Pass ⟨0,0,0,0⟩),AY zN ((aZ cK).getD 1 (.Pass ⟨0,0,0,0⟩)),(aZ cK).getD 2 (.Pass ⟨0,0,0,0⟩),(aZ cK).getD 3 (.Pass ⟨0,0,0,0⟩),(aZ cK).getD 4 (.Pass ⟨0,0,0,0⟩),(aZ cK).getD 5 (.Pass ⟨0,0,0,0⟩),(aZ cK).getD 6 (.Pass ⟨0,0,0,0⟩)]:=by kernel_rfl
@[irreducible] def C7:List Expr:=JF ((aZ bA).getD 0 (.Pass ⟨0,0,0,0⟩))
@[irreducible] def BB:List Expr:=JF ((aZ bA).getD 14 (.Pass ⟨0,0,0,0⟩))
theorem HF:aZ bA=[AY C7 ((aZ bA).getD 0 (.Pass ⟨0,0,0,0⟩)),(aZ bA).getD 1 (.Pass ⟨0,0,0,0⟩),(aZ bA).getD 2 (.Pass ⟨0,0,0,0⟩),(aZ bA).getD 3 (.Pass ⟨0,0,0,0⟩),(aZ bA).getD 4 (.Pass ⟨0,0,0,0⟩),(aZ bA).getD 5 (.Pass ⟨0,0,0,0⟩),(aZ bA).getD 6 (.Pass ⟨0,0,0,0⟩),(aZ bA).getD 7 (.Pass ⟨0,0,0,0⟩),(aZ bA).getD 8 (.Pass ⟨0,0,0,0⟩),(aZ bA).getD 9 (.Pass ⟨0,0,0,0⟩),(aZ bA).getD 10 (.Pass ⟨0,0,0,0⟩),(aZ bA).getD 11 (.Pass ⟨0,0,0,0⟩),(aZ bA).getD 12 (.Pass ⟨0,0,0,0⟩),(aZ bA).getD 13 (.Pass ⟨0,0,0,0⟩),AY BB ((aZ bA).getD 14 (.Pass ⟨0,0,0,0⟩)),(aZ bA).getD 15 (.Pass ⟨0,0,0,0⟩),(aZ bA).getD 16 (.Pass ⟨0,0,0,0⟩),(aZ bA).getD 17 (.Pass ⟨0,0,0,0⟩),(aZ bA).getD 18 (.Pass ⟨0,0,0,0⟩)]:=by kernel_rfl
set_option genInjectivity false in
structure Ad where
 rh:zdP
 qx:zdY
 j8:zdP
 j9:zdY
 gf:zdP
 gN:zdY
 jq:zdP
 kP:zdY
 iz:zdP
 ja:zdY
 jb:zdP
 jr:zdY
 nh:zdP
 nR:zdY
 gg:zdP
 gk:zdY
 eQ:zdP
 fq:zdY
 fD:zdP
 gm:zdY
 dM:zdP
 dU:zdY
 BC:zdP
 Ai:zdY
 qy:zdP
 rj:zdY
 nT:zdP
 o7:zdY
 eR:zdP
 fU:zdY
 lF:zdP
 mV:zdY
 hV:zdP
 js:zdY
 nU:zdP
 o8:zdY
 nV:zdP
 o9:zdY
 hX:zdP
 jt:zdY
 lG:zdP
 mW:zdY
 nW:zdP
 pd:zdY
 eS:zdP
 fV:zdY
 fz:zdP
 gO:zdY
 ju:zdP
 kQ:zdY
 gn:zdP
 ip:zdY
 jc:zdP
 jv:zdY
 jw:zdP
 kR:zdY
 jd:zdP
 jx:zdY
 gp:zdP
 gP:zdY
 eF:zdP
 eT:zdY
 gq:zdP
 iq:zdY
 lH:zdP
 mX:zdY
 jy:zdP
 kS:zdY
 jz:zdP
 kT:zdY
 ib:zdP
 jA:zdY
 nX:zdP
 pe:zdY
 jB:zdP
 kU:zdY
 nY:zdP
 ph:zdY
 gu:zdP
 iu:zdY
 ic:zdP
 jC:zdY
 L5:zdP
 yr:zdY
 cO:zdP
 jD:zdY
 bU:zdP
 dj:zdY
 bW:zdP
 de:zdY
 dB:zdP
 pO:zdY
 cz:zdP
 iA:zdY
 bQ:zdP
 gv:zdY
 cA:zdP
 iB:zdY
 aR:zdP
 bt:zdP
 aP:zdP
 az:zdP
 aD:zdP
 aA:zdP
 aB:zdP
 ar:zdP
 aN:zdP
 aV:zdP
 aO:zdP
 aW:zdP
 bN:zdP
 cB:zdP
 bO:zdP
 bB:zdP
 gw:zdP
 dC:zdP
set_option genInjectivity false in
structure Tx(K:zab)(mg:Str->Option zdQ)(t:Ad):Prop where
 mY:cJ K mg "is_of" Fi ["word", "signs"] t.rh t.qx
 gQ:cJ K mg "is_name" yk ["word"] t.j8 t.j9
 eA:cJ K mg "is_number" tD ["word"] t.gf t.gN
 ck:cJ K mg "expression" qX ["word"] t.jq t.kP
 bL:cJ K mg "names_in" vR ["e"] t.iz t.ja
 je:cJ K mg "pieces_of" tE ["word"] t.jb t.jr
 ni:cJ K mg "kind_of" ym ["sign"] t.nh t.nR
 dq:cJ K mg "sum_from" vS ["pieces", "depth"] t.gg t.gk
 cT:cJ K mg "product_from" nG ["pieces", "depth"] t.eQ t.fq
 c7:cJ K mg "factor_from" pI ["pieces", "depth"] t.fD t.gm
 dN:cJ K mg "bracket_from" nI ["pieces", "depth"] t.dM t.dU
 yt:cJ K mg "read" Kb ["text"] t.BC t.Ai
 nj:cJ K mg "form_of" yq ["row"] t.qy t.rj
 ka:cJ K mg "box_form" vT ["words"] t.nT t.o7
 dD:cJ K mg "condition_form" j6 ["words"] t.eR t.fU
 cW:cJ K mg "name_from" tF ["word"] t.lF t.mV
 c8:cJ K mg "number_from" pJ ["word"] t.hV t.js
 kb:cJ K mg "take_row" vU ["draft", "number", "form"] t.nU t.o8
 kc:cJ K mg "take_box" vV ["draft", "number", "box"] t.nV t.o9
 fG:cJ K mg "is_measured" pK ["size", "first"] t.hX t.jt
 jf:cJ K mg "take_else" tG ["draft", "number"] t.lG t.mW
 kf:cJ K mg "take_end" vW ["draft", "number"] t.nW t.pd
 dE:cJ K mg "take_statement" j7 ["draft", "number", "form"] t.eS t.fV
 dW:cJ K mg "names_of_form" lX ["form"] t.fz t.gO
 gR:cJ K mg "bodies_for" qY ["word"] t.ju t.kQ
 bF:cJ K mg "_law_cell_at" nJ ["script", "k"] t.gn t.ip
 ax:cJ K mg "_law_stir" tH ["cell", "k"] t.jc t.jv
 gS:cJ K mg "_law_names" cK ["head", "k", "many"] t.jw t.kR
 jg:cJ K mg "_law_leaf" tI ["number", "names"] t.jd t.jx
 cX:cJ K mg "_law_tree" tJ ["cell", "k", "deep", "names"] t.gp t.gP
 cE:cJ K mg "_law_worded" pL ["tree", "more"] t.eF t.eT
 eU:cJ K mg "_law_deepest" nK ["word"] t.gq t.iq
 cD:cJ K mg "_law_expr" tK ["cell", "k", "names"] t.lH t.mX
 gU:cJ K mg "_law_boxes" qZ ["head"] t.jy t.kS
 gV:cJ K mg "_law_plain" q0 ["cell", "k", "names"] t.jz t.kT
 fH:cJ K mg "_law_opener" pM ["cell", "k", "names"] t.ib t.jA
 kg:cJ K mg "_law_row" vX ["cell", "k", "opened", "names"] t.nX t.pe
 gW:cJ K mg "_law_built" rf ["script", "head"] t.jB t.kU
 e8:cJ K mg "_law_bad" bA ["cell"] t.nY t.ph
 eV:cJ K mg "_law_refused" nM ["rows"] t.gu t.iu
 fI:cJ K mg "_law_spoilt" pN ["row", "kind", "cell"] t.ic t.jC
 L6:cJ K mg "law" QZ ["script"] t.L5 t.yr
 kW:Ge K "__init__" "Pieces.__init__" c5 t.cO t.jD
 C8:Binds K t.jD ["self", "word"] []
 jE:Ge K "ahead" "Pieces.ahead" cS t.bU t.dj
 jF:Binds K t.dj ["self"] []
 jG:Meth K t.aR "ahead" t.bU
 kX:Ge K "take" "Pieces.take" c6 t.bW t.de
 ie:Binds K t.de ["self"] []
 ij:Meth K t.aR "take" t.bW
 mZ:Ge K "__init__" "Draft.__init__" dA t.dB t.pO
 Fj:Binds K t.pO ["self"] []
 fW:Ge K "innermost" "Draft.innermost" cw t.cz t.iA
 xn:Binds K t.iA ["self"] []
 xo:Meth K t.bt "innermost" t.cz
 eI:Ge K "second_body" "Draft.second_body" bP t.bQ t.gv
 uN:Binds K t.gv ["self"] []
 uO:Meth K t.bt "second_body" t.bQ
 fX:Ge K "box_names" "Draft.box_names" cy t.cA t.iB
 pj:Binds K t.iB ["self"] []
 pq:Meth K t.bt "box_names" t.cA
 cV:OE K t.aR
 Nl:mg "Pieces"=some (.ref t.aR)
 yv:Mk K t.aR t.cO
 eW:lT K t.aR "pieces"
 dX:lT K t.aR "place"
 cg:OE K t.bt
 Q1:mg "Draft"=some (.ref t.bt)
 BD:Mk K t.bt t.dB
 dO:lT K t.bt "boxes"
 fJ:lT K t.bt "body"
 bM:lT K t.bt "nest"
 HG:mg "RowError"=some (.ref t.aP)
 yw:zJ K t.az
 BE:zat K (.ref t.az) (.ref t.az)=some true
 BF:mg "TooLong"=some (.ref t.az)
 fY:zJ K t.aD
 HH:zat K (.ref t.aD) (.ref t.aD)=some true
 eX:mg "NoRow"=some (.ref t.aD)
 qz:zJ K t.aA
 BG:zat K (.ref t.aA) (.ref t.aA)=some true
 rk:mg "NoPlace"=some (.ref t.aA)
 yy:zJ K t.aB
 BH:zat K (.ref t.aB) (.ref t.aB)=some true
 BJ:mg "TooDeep"=some (.ref t.aB)
 tU:zJ K t.ar
 xp:zat K (.ref t.ar) (.ref t.ar)=some true
 xq:mg "NoMeasure"=some (.ref t.ar)
 Fl:zJ K t.aN
 HI:zat K (.ref t.aN) (.ref t.aN)=some true
 HJ:mg "Twice"=some (.ref t.aN)
 Kc:zJ K t.aV
 L7:zat K (.ref t.aV) (.ref t.aV)=some true
 L8:mg "Full"=some (.ref t.aV)
 Fn:zJ K t.aO
 HK:zat K (.ref t.aO) (.ref t.aO)=some true
 HL:mg "NoBox"=some (.ref t.aO)
 Kd:zJ K t.aW
 L9:zat K (.ref t.aW) (.ref t.aW)=some true
 Ma:mg "Open"=some (.ref t.aW)
 Ke:mg "TooMany"=some (.ref t.bN)
 Nm:mg "NoForm"=some (.ref t.cB)
 Kf:mg "NoneYet"=some (.ref t.bO)
 HM:mg "NoTarget"=some (.ref t.bB)
 BK:zat K (.ref t.aD) (.ref t.aP)=some true
 Q2:E1 K t.aD
 BL:zaa K (.ref t.aD) (.type "ValueError")=some true
 px:zaa K (.ref t.aD) (.ref t.aP)=some true
 kh:zaa K (.ref t.aD) (.ref t.az)=some false
 n8:zaa K (.ref t.aD) (.ref t.aD)=some true
 ki:zaa K (.ref t.aD) (.ref t.aA)=some false
 kj:zaa K (.ref t.aD) (.ref t.aB)=some false
 iC:zaa K (.ref t.aD) (.ref t.ar)=some false
 n9:zaa K (.ref t.aD) (.ref t.aN)=some false
 pP:zaa K (.ref t.aD) (.ref t.aV)=some false
 oa:zaa K (.ref t.aD) (.ref t.aO)=some false
 pQ:zaa K (.ref t.aD) (.ref t.aW)=some false
 km:zaa K (.ref t.aD) (.ref t.bN)=some false
 lY:zaa K (.ref t.aD) (.ref t.cB)=some false
 kn:zaa K (.ref t.aD) (.ref t.bO)=some false
 jH:zaa K (.ref t.aD) (.ref t.bB)=some false
 vY:zat K (.ref t.aA) (.ref t.aP)=some true
 Kg:E1 K t.aA
 vZ:zaa K (.ref t.aA) (.type "ValueError")=some true
 mK:zaa K (.ref t.aA) (.ref t.aP)=some true
 iD:zaa K (.ref t.aA) (.ref t.az)=some false
 ko:zaa K (.ref t.aA) (.ref t.aD)=some false
 iE:zaa K (.ref t.aA) (.ref t.aA)=some true
 iF:zaa K (.ref t.aA) (.ref t.aB)=some false
 gx:zaa K (.ref t.aA) (.ref t.ar)=some false
 kq:zaa K (.ref t.aA) (.ref t.aN)=some false
 lZ:zaa K (.ref t.aA) (.ref t.aV)=some false
 kr:zaa K (.ref t.aA) (.ref t.aO)=some false
 ma:zaa K (.ref t.aA) (.ref t.aW)=some false
 iG:zaa K (.ref t.aA) (.ref t.bN)=some false
 jI:zaa K (.ref t.aA) (.ref t.cB)=some false
 iH:zaa K (.ref t.aA) (.ref t.bO)=some false
 gY:zaa K (.ref t.aA) (.ref t.bB)=some false
 v5:zat K (.ref t.az) (.ref t.aP)=some true
 Kh:E1 K t.az
 v7:zaa K (.ref t.az) (.type "ValueError")=some true
 mL:zaa K (.ref t.az) (.ref t.aP)=some true
 iI:zaa K (.ref t.az) (.ref t.az)=some true
 ku:zaa K (.ref t.az) (.ref t.aD)=some false
 iJ:zaa K (.ref t.az) (.ref t.aA)=some false
 iK:zaa K (.ref t.az) (.ref t.aB)=some false
 gy:zaa K (.ref t.az) (.ref t.ar)=some false
 kx:zaa K (.ref t.az) (.ref t.aN)=some false
 mf:zaa K (.ref t.az) (.ref t.aV)=some false
 ky:zaa K (.ref t.az) (.ref t.aO)=some false
 mh:zaa K (.ref t.az) (.ref t.aW)=some false
 iL:zaa K (.ref t.az) (.ref t.bN)=some false
 jJ:zaa K (.ref t.az) (.ref t.cB)=some false
 iM:zaa K (.ref t.az) (.ref t.bO)=some false
 gZ:zaa K (.ref t.az) (.ref t.bB)=some false
 v8:zat K (.ref t.aB) (.ref t.aP)=some true
 Ki:E1 K t.aB
 v9:zaa K (.ref t.aB) (.type "ValueError")=some true
 mM:zaa K (.ref t.aB) (.ref t.aP)=some true
 iN:zaa K (.ref t.aB) (.ref t.az)=some false
 kz:zaa K (.ref t.aB) (.ref t.aD)=some false
 iO:zaa K (.ref t.aB) (.ref t.aA)=some false
 iP:zaa K (.ref t.aB) (.ref t.aB)=some true
 gz:zaa K (.ref t.aB) (.ref t.ar)=some false
 kA:zaa K (.ref t.aB) (.ref t.aN)=some false
 mi:zaa K (.ref t.aB) (.ref t.aV)=some false
 kB:zaa K (.ref t.aB) (.ref t.aO)=some false
 mj:zaa K (.ref t.aB) (.ref t.aW)=some false
 iQ:zaa K (.ref t.aB) (.ref t.bN)=some false
 jK:zaa K (.ref t.aB) (.ref t.cB)=some false
 iR:zaa K (.ref t.aB) (.ref t.bO)=some false
 g6:zaa K (.ref t.aB) (.ref t.bB)=some false
 rm:zat K (.ref t.ar) (.ref t.aP)=some true
 Fo:E1 K t.ar
 rn:zaa K (.ref t.ar) (.type "ValueError")=some true
 jX:zaa K (.ref t.ar) (.ref t.aP)=some true
 gA:zaa K (.ref t.ar) (.ref t.az)=some false
 iS:zaa K (.ref t.ar) (.ref t.aD)=some false
 gB:zaa K (.ref t.ar) (.ref t.aA)=some false
 gC:zaa K (.ref t.ar) (.ref t.aB)=some false
 e9:zaa K (.ref t.ar) (.ref t.ar)=some true
 iU:zaa K (.ref t.ar) (.ref t.aN)=some false
 jL:zaa K (.ref t.ar) (.ref t.aV)=some false
 iV:zaa K (.ref t.ar) (.ref t.aO)=some false
 jM:zaa K (.ref t.ar) (.ref t.aW)=some false
 gD:zaa K (.ref t.ar) (.ref t.bN)=some false
 g7:zaa K (.ref t.ar) (.ref t.cB)=some false
 gE:zaa K (.ref t.ar) (.ref t.bO)=some false
 fL:zaa K (.ref t.ar) (.ref t.bB)=some false
 BM:zat K (.ref t.aN) (.ref t.aP)=some true
 Q3:E1 K t.aN
 BN:zaa K (.ref t.aN) (.type "ValueError")=some true
 pz:zaa K (.ref t.aN) (.ref t.aP)=some true
 kC:zaa K (.ref t.aN) (.ref t.az)=some false
 og:zaa K (.ref t.aN) (.ref t.aD)=some false
 kD:zaa K (.ref t.aN) (.ref t.aA)=some false
 kE:zaa K (.ref t.aN) (.ref t.aB)=some false
 iW:zaa K (.ref t.aN) (.ref t.ar)=some false
 oh:zaa K (.ref t.aN) (.ref t.aN)=some true
 pR:zaa K (.ref t.aN) (.ref t.aV)=some false
 oj:zaa K (.ref t.aN) (.ref t.aO)=some false
 pS:zaa K (.ref t.aN) (.ref t.aW)=some false
 kF:zaa K (.ref t.aN) (.ref t.bN)=some false
 ml:zaa K (.ref t.aN) (.ref t.cB)=some false
 kG:zaa K (.ref t.aN) (.ref t.bO)=some false
 jN:zaa K (.ref t.aN) (.ref t.bB)=some false
 Fp:zat K (.ref t.aW) (.ref t.aP)=some true
 Ta:E1 K t.aW
 Fq:zaa K (.ref t.aW) (.type "ValueError")=some true
 qA:zaa K (.ref t.aW) (.ref t.aP)=some true
 mn:zaa K (.ref t.aW) (.ref t.az)=some false
 pT:zaa K (.ref t.aW) (.ref t.aD)=some false
 mq:zaa K (.ref t.aW) (.ref t.aA)=some false
 mr:zaa K (.ref t.aW) (.ref t.aB)=some false
 jO:zaa K (.ref t.aW) (.ref t.ar)=some false
 pU:zaa K (.ref t.aW) (.ref t.aN)=some false
 rp:zaa K (.ref t.aW) (.ref t.aV)=some false
 pV:zaa K (.ref t.aW) (.ref t.aO)=some false
 rq:zaa K (.ref t.aW) (.ref t.aW)=some true
 mv:zaa K (.ref t.aW) (.ref t.bN)=some false
 om:zaa K (.ref t.aW) (.ref t.cB)=some false
 mw:zaa K (.ref t.aW) (.ref t.bO)=some false
 kH:zaa K (.ref t.aW) (.ref t.bB)=some false
 Fs:zat K (.ref t.aV) (.ref t.aP)=some true
 Tb:E1 K t.aV
 Ft:zaa K (.ref t.aV) (.type "ValueError")=some true
 qB:zaa K (.ref t.aV) (.ref t.aP)=some true
 my:zaa K (.ref t.aV) (.ref t.az)=some false
 pW:zaa K (.ref t.aV) (.ref t.aD)=some false
 mz:zaa K (.ref t.aV) (.ref t.aA)=some false
 mB:zaa K (.ref t.aV) (.ref t.aB)=some false
 jP:zaa K (.ref t.aV) (.ref t.ar)=some false
 pX:zaa K (.ref t.aV) (.ref t.aN)=some false
 rA:zaa K (.ref t.aV) (.ref t.aV)=some true
 pY:zaa K (.ref t.aV) (.ref t.aO)=some false
 rB:zaa K (.ref t.aV) (.ref t.aW)=some false
 mC:zaa K (.ref t.aV) (.ref t.bN)=some false
 oo:zaa K (.ref t.aV) (.ref t.cB)=some false
 mD:zaa K (.ref t.aV) (.ref t.bO)=some false
 kI:zaa K (.ref t.aV) (.ref t.bB)=some false
 BO:zat K (.ref t.aO) (.ref t.aP)=some true
 Q4:E1 K t.aO
 BP:zaa K (.ref t.aO) (.type "ValueError")=some true
 pA:zaa K (.ref t.aO) (.ref t.aP)=some true
 kJ:zaa K (.ref t.aO) (.ref t.az)=some false
 oq:zaa K (.ref t.aO) (.ref t.aD)=some false
 kK:zaa K (.ref t.aO) (.ref t.aA)=some false
 kL:zaa K (.ref t.aO) (.ref t.aB)=some false
 iX:zaa K (.ref t.aO) (.ref t.ar)=some false
 ot:zaa K (.ref t.aO) (.ref t.aN)=some false
 pZ:zaa K (.ref t.aO) (.ref t.aV)=some false
 ou:zaa K (.ref t.aO) (.ref t.aO)=some true
 qa:zaa K (.ref t.aO) (.ref t.aW)=some false
 kM:zaa K (.ref t.aO) (.ref t.bN)=some false
 mE:zaa K (.ref t.aO) (.ref t.cB)=some false
 kN:zaa K (.ref t.aO) (.ref t.bO)=some false
 jQ:zaa K (.ref t.aO) (.ref t.bB)=some false
 BQ:∃u,mg "LETTERS"=some u/\RelV (.str "abcdefghijklmnopqrstuvwxyz") u
 BR:∃u,mg "FIGURES"=some u/\RelV (.str "0123456789") u
 HN:mg "NO_NAMES"=some (.ref t.gw)
 rC:∀H:Hp,dF K H t.gw [.str "box",.str "ask",.str "put",.str "say",.str "if",.str "else",.str "while",.str "must",.str "stop",.str "end"]
 zO:∃u,mg "MOST_LETTERS"=some u/\RelV (.int 8) u
 zP:∃u,mg "MOST_FIGURES"=some u/\RelV (.int 3) u
 C9:∃u,mg "MOST_SIGNS"=some u/\RelV (.int 60) u
 qC:∃u,mg "MOST_BRACKETS"=some u/\RelV (.int 5) u
 Fu:∃u,mg "MOST_ROWS"=some u/\RelV (.int 80) u
 Dc:∃u,mg "MOST_BOXES"=some u/\RelV (.int 4) u
 Fv:∃u,mg "MOST_DEEP"=some u/\RelV (.int 5) u
 Dd:∃u,mg "LEAST_SIZE"=some u/\RelV (.int 2) u
 Fw:∃u,mg "MOST_SIZE"=some u/\RelV (.int 10) u
 BS:mg "WORD_COUNTS"=some (.ref t.dC)
 eY:mg "len"=none
 rD:mg "range"=none
 EC:mg "int"=none
 HP:mg "str"=none
 Kj:mg "list"=none
 Fx:mg "tuple"=none
 Q5:mg "all"=none
 Q6:mg "max"=none
 bR:mg "isinstance"=none
 tV:mg "enumerate"=none
 rE:mg "ValueError"=none
structure Cd(P:zd1)(w:zdR)(K:zab)(t:Ad):Prop where
 De:Xj P w K t.dC [(.inr "box",.int 4),(.inr "ask",.int 2),(.inr "put",.int 3),(.inr "say",.int 2),(.inr "must",.int 4),(.inr "if",.int 4),(.inr "else",.int 1),(.inr "while",.int 4),(.inr "end",.int 1),(.inr "stop",.int 1)]
end Wx
end
section
set_option maxHeartbeats 4000000
namespace Wx
open PySem L2
local macro_rules | `(tactic|walk_at "rd")=>`(tactic|((try dsimp only[Jj,K4,Ol,US,Om,tIf,UR,Ou,XF,ZR,Vs,tSl,OK,ER,OF,Vh,Vi,EN,K2,tUn,rU,VL,KW,KY,TM,TL,Ot,TK,R1,Ov,UX,UY,T3,Mh,R0,Lc,T4,OX,OY,OZ,O0,O3,O4,O5,O6,O7,O8,Lp,Lq,Lr,Lv,Lw,VQ,Yd,UU,Oq,Ox,mI,T5,T6,zcI,Le,Lf,Pa,Li,Lj,GG,PU,PV,PX,Qm,E7,Up,JY,Lk,T7,Yg,Pk,Pb,Pc,tOr,za8,zaS,zaf,zba,Pe,Pf,P0,Qa,Lg]);(try simp only[Jj,K4,Ol,US,Om,tIf,UR,Ou,XF,ZR,Vs,tSl,OK,ER,OF,Vh,Vi,EN,K2,tUn,rU,VL,KW,KY,TM,TL,Ot,TK,VB,VC,R1,Ov,UX,UY,T3,Mh,R0,Lc,T4,OX,OY,OZ,O0,O3,O4,O5,O6,O7,O8,Lp,Lq,Lr,Lv,Lw,VQ,Yd,UU,Oq,Ox,mI,Yc,aa1,T5,T6,Ye,Si,O9,VD,VE,zcI,Le,Lf,Pa,Li,Lj,GG,PU,PV,PX,Qm,E7,Up,JY,Lk,T7,Yg,Pk,Pb,Pc,tOr,zaN,za8,zaS,Sj,Sk,true_and,and_true,zaf,zba,Sl,Pe,Pf,P0,Qa,Lg,Int.reduceLT,Int.reduceLE,Nat.reduceLeDiff,Nat.reduceAdd,and_self])))
section
variable{P:zd1}{w:zdR}{K:zab}{mg:Str->Option zdQ}{base:Heap}{t:Ad}
theorem HQ(T:Tx K mg t)(ok:Nat->Bool)(signs:Str):bu P w K mg base jh 1 t.rh t.qx ["word", "signs"] (JE ok signs):=by
 refine T.mY.F.uX HE (fun vs H Q E h=>?_) (fun d0 A outer s H vs Q E hr h=>?_)
 ·obtain⟨_,rfl,_⟩:=h;rfl
 obtain⟨wd,rfl,hl,eC,q⟩:=h;have nd:=HE.nd;refine⟨_,[some (sv wd),some (.str signs)],(ao (aS (bb (Px rfl) rfl T.Q5 PyProof.Rows.Boot.«all» (ae (uy (own:=["sign"]) (ix:=[1]) rfl (by rfl) (by rfl) (JD (pv 0)) (fun _ _ _ _=>(cF (i:=0) (by show List.Nodup (["sign", "signs"]:List Str);decide +kernel) rfl (zan rfl))) (fun _ _ _ _=>qN) (fun _ _ _ _=>(mQ xN (pv 0) (pv 1) rfl))) af Lh)))),rfl,?_⟩;walk_at "rd";refine⟨S wd,rfl,fun D hD=>?_⟩;refine Pz (r:=[some (.str signs)]) (fun _=>true) (fun c=>V.bl (ok c)) (by rw[bZ];lia) (fun c _ ys R hR=>hR) (fun c hc _ ys R hR=>?_) ?_
 ·walk_at "rd";refine⟨_,_,rfl,rfl,?_⟩;rw[zca,eC];exact hR
 ·refine⟨D,wd.map ok,rfl,.of ?_,?_⟩
  ·rw[aj,VM,zdA.mpr (fun _ _=>rfl),zbE];rfl
  ·rw[zdM];exact q _ (ay.new hD _)
theorem BU(c:Nat):decide (c∈(("abcdefghijklmnopqrstuvwxyz":Str)).cps.toList)=PM.isLetter c:=by
 have e:(("abcdefghijklmnopqrstuvwxyz":Str)).cps.toList=(zaA 26).map (97 + ·):=by decide +kernel
 rw[e,zbv,decide_eq_true_eq,zaI];simp only[PM.isLetter,zaD,decide_eq_true_eq]
 constructor
 ·rintro ⟨a,ha,rfl⟩
  have:=zbu.mp ha;lia
 ·rintro ⟨h1,h2⟩
  exact⟨c-97,zbu.mpr (by lia),by lia⟩
theorem BV(c:Nat):decide (c∈(("0123456789":Str)).cps.toList)=PM.g9 c:=by
 have e:(("0123456789":Str)).cps.toList=(zaA 10).map (48 + ·):=by decide +kernel
 rw[e,zbv,decide_eq_true_eq,zaI];simp only[PM.g9,zaD,decide_eq_true_eq]
 constructor
 ·rintro ⟨a,ha,rfl⟩
  have:=zbu.mp ha;lia
 ·rintro ⟨h1,h2⟩
  exact⟨c-48,zbu.mpr (by lia),by lia⟩
theorem Kk(T:Tx K mg t):bu P w K mg base jh 1 t.nh t.nR ["sign"] GR:=by
 refine T.ni.F.uX Bz (fun vs H Q E h=>?_) (fun d0 A outer s H vs Q E hr h=>?_)
 ·obtain⟨_,rfl,_⟩:=h;rfl
 obtain⟨c,rfl,q⟩:=h;have nd:=Bz.nd;obtain⟨Nn,yA,yC⟩:=T.BQ;obtain⟨Np,yG,yH⟩:=T.BR;refine⟨_,[some (sv [c])],(ag (bo (aH xN (pv 0) (cq rfl yA yC) rfl)
 (ao (aS au))
 aQ)
 (ag (bo (aH xN (pv 0) (cq rfl yG yH) rfl)
 (ao (aS au))
 aQ)
 (ao (aS au)))),rfl,?_⟩
 walk_at "rd";refine⟨S [c],_,rfl,rfl,?_⟩;rw[<- PB,zca,BU];unfold PM.kind at q;refine cu (fun hc=>?_) (fun hc=>?_)
 ·rw[if_pos hc] at q;exact q
 rw[if_neg hc] at q;refine⟨S [c],_,rfl,rfl,?_⟩;rw[<- PB,zca,BV];refine cu (fun hc=>?_) (fun hc=>?_)
 ·rw[if_pos hc] at q;exact q
 ·rw[if_neg hc] at q;exact q
theorem qD{w:W}(h:¬(1<=w.length/\w.length<=8)):PM.isName w=false:=by
 unfold PM.isName;by_cases h1:1<=w.length
 ·by_cases h2:w.length<=8
  ·exact absurd ⟨h1,h2⟩ h
  ·simp[h2]
 ·simp[h1]
theorem in_words(x:W)(l:List W):X0 (sv x) (l.map sv)=l.contains x:=by
 unfold X0;rw[List.any_map,zbv,List.any_eq_true,za0]
 constructor
 ·rintro ⟨y,hy,e⟩
  have e':decide (S y=S x)=true:=e;rw[decide_eq_true_eq,GQ] at e';rw[<- e'];exact hy
 ·intro h;exact⟨x,h,(show decide (S x=S x)=true from decide_eq_true rfl)⟩
theorem BW(T:Tx K mg t):bu P w K mg base jh 2 t.j8 t.j9 ["word"] AV:=by
 have Fy:bu P w K mg base jh 1 t.rh t.qx ["word", "signs"] (JE PM.isLetter "abcdefghijklmnopqrstuvwxyz"):=HQ T _ _;refine T.gQ.F.uX By (fun vs H Q E h=>?_) (fun d0 A outer s H vs Q E hr h=>?_)
 ·obtain⟨_,rfl,_⟩:=h;rfl
 obtain⟨wd,rfl,hl,q⟩:=h;have nd:=By.nd;obtain⟨Nn,yA,yC⟩:=T.BQ;obtain⟨Q7,BX,BY⟩:=T.zO;refine⟨_,[some (sv wd)],(ao (aS (Aq (Az Ax Ax ai (bb jj rfl T.eY PyProof.Rows.Boot.«len» (ae (pv 0) af ah)) (cq rfl BX BY)) (Aq (aF Fy (hr.mono (by first|decide|omega)) rfl T.mY.m T.mY.F.kp T.mY.b .nil bj (ae (pv 0) (ae (cq rfl yA yC) af ah) ah)) (EK (mQ mS (pv 0) (cq (v:=.ref t.gw) rfl T.HN rfl) rfl)))))),rfl,?_⟩;walk_at "rd";have line:zdX=2 ^ 24:=rfl;refine⟨S wd,rfl,by rw[bZ];lia,?_⟩;rw[bZ];refine cu (fun h1=>?_) (fun h1=>?_)
 ·refine cu (fun h2=>?_) (fun h2=>?_)
  ·refine⟨wd,rfl,by lia,BU,fun H1 s1=>⟨_,rfl,?_⟩⟩;cases ha:wd.all PM.isLetter with
   |false=>
    rw[if_neg zal];have e:PM.isName wd=false:=by unfold PM.isName;rw[ha];simp
    rw[<- e];exact q _ s1
   |true=>
    rw[if_pos rfl];refine⟨t.gw,_,rfl,.inr (T.rC H1),rfl,rfl,?_⟩;have e:PM.isName wd = !PM.fT.contains wd:=by
     unfold PM.isName;rw[ha,decide_eq_true (show 1<=wd.length by lia),decide_eq_true (show wd.length<=8 by lia)];rfl
    have m:X0 (sv wd) [.str "box",.str "ask",.str "put",.str "say",.str "if",.str "else",.str "while",.str "must",.str "stop",.str "end"]=PM.fT.contains wd:=by
     have l:([.str "box",.str "ask",.str "put",.str "say",.str "if",.str "else",.str "while",.str "must",.str "stop",.str "end"]:List V)=PM.fT.map sv:=by decide +kernel
     rw[l];exact in_words wd _
    have q':=q _ s1;rw[e] at q';rw[m];exact q'
  ·have:=qD (w:=wd) (by lia);have q':=q _ (ay.refl _);rw[this] at q';exact q'
 ·rw[if_neg zal];have:=qD (w:=wd) (by lia);have q':=q _ (ay.refl _);rw[this] at q';exact q'
theorem xt(T:Tx K mg t):bu P w K mg base jh 2 t.gf t.gN ["word"] vD:=by
 have Fy:bu P w K mg base jh 1 t.rh t.qx ["word", "signs"] (JE PM.g9 "0123456789"):=HQ T _ _;refine T.eA.F.uX xc (fun vs H Q E h=>?_) (fun d0 A outer s H vs Q E hr h=>?_)
 ·obtain⟨_,rfl,_⟩:=h;rfl
 obtain⟨wd,rfl,hl,q⟩:=h;have nd:=xc.nd;obtain⟨Np,yG,yH⟩:=T.BR;obtain⟨Q8,BZ,B0⟩:=T.zP;refine⟨_,[some (sv wd)],(ao (aS (Aq (Az Ax Ax ai (bb jj rfl T.eY PyProof.Rows.Boot.«len» (ae (pv 0) af ah)) (cq rfl BZ B0)) (Aq (aF Fy (hr.mono (by first|decide|omega)) rfl T.mY.m T.mY.F.kp T.mY.b .nil bj (ae (pv 0) (ae (cq rfl yG yH) af ah) ah)) (EK (XC (mQ cC (pv 0) au (aT _)) (EK (mQ Av (aX sq (pv 0) ai aK) au (aT _))))))))),rfl,?_⟩;walk_at "rd";have line:zdX=2 ^ 24:=rfl;refine⟨S wd,rfl,by rw[bZ];lia,?_⟩;rw[bZ];refine cu (fun h1=>?_) (fun h1=>?_)
 ·refine cu (fun h2=>?_) (fun h2=>?_)
  ·refine⟨wd,rfl,by lia,BV,fun H1 s1=>⟨_,rfl,?_⟩⟩;have q':=q _ s1;cases ha:wd.all PM.g9 with
   |false=>
    rw[if_neg zal];have e:PM.isNumber wd=false:=by unfold PM.isNumber;rw[ha];simp
    rw[e] at q';exact q'
   |true=>
    rw[if_pos rfl];have e:PM.isNumber wd=(decide (wd=[48]) || !decide (wd.head?=some 48)):=by
     unfold PM.isNumber;rw[ha,decide_eq_true (show 1<=wd.length by lia),decide_eq_true (show wd.length<=3 by lia)];rfl
    rw[e] at q';have z:(V.str (zac "0"))=sv [48]:=by decide +kernel
    refine⟨rfl,?_⟩;rw[z];refine cu (fun hz=>?_) (fun hz=>?_)
    ·rw[gX.mp hz] at q';exact q'
    ·rw[decide_eq_false (fun e=>hz (gX.mpr e)),zdx] at q';cases wd with
     |nil=>simp at h1
     |cons c r=>
      refine⟨S (c::r),0,c,rfl,rfl,by rw[bZ];lia,bf (j:=0) rfl,rfl,?_⟩;rw[PB];have e2:decide (V.str (S [c])=sv [48])=decide ((c::r).head?=some 48):=by
       rw[decide_eq_decide];show sv [c]=sv [48]↔_;rw[gX];simp
      rw[e2];exact q'
  ·have e:PM.isNumber wd=false:=by unfold PM.isNumber;simp[show ¬wd.length<=3 by lia]
   have q':=q _ (ay.refl _);rw[e] at q';exact q'
 ·rw[if_neg zal];have e:PM.isNumber wd=false:=by unfold PM.isNumber;simp[show ¬1<=wd.length by lia]
  have q':=q _ (ay.refl _);rw[e] at q';exact q'
theorem ED{a b:Nat}(ha:a<=3)(hb:b<=3):kindS a=kindS b↔a=b:=by
 have all:∀(a b:Fin 4),kindS a.1=kindS b.1↔a.1=b.1:=by decide +kernel
 exact all ⟨a,by lia⟩ ⟨b,by lia⟩
theorem Fz(T:Tx K mg t):bu P w K mg base jh 2 t.jb t.jr ["word"] AW:=by
 have Nq:bu P w K mg base jh 1 t.nh t.nR ["sign"] GR:=Kk T;refine T.je.F.uX xf (fun vs H Q E h=>?_) (fun d0 A outer s H vs Q E hr h=>?_)
 ·obtain⟨_,rfl,_⟩:=h;rfl
 obtain⟨wd,rfl,hl,q⟩:=h;have nd:=xf.nd;refine⟨_,[some (sv wd),none,none,none,none],(ag (aM (i:=1) nd rfl (zan rfl) (aU af))
 (ag (aM (i:=2) nd rfl (zan rfl) au)
 (ag (si PassesOwn.never rfl (JD (pv 0)) (cF (i:=3) nd rfl (zan rfl))
 (ag (aM (i:=4) nd rfl (zan rfl) (aF Nq (hr.mono (by first|decide|omega)) rfl T.ni.m T.ni.F.kp T.ni.b .nil bj (ae (pv 3) af ah)))
 (ag (bo (PW.pt (pw_and (aH Av (pv 4) au (aT _)) (pw_and1 (aH cC (pv 4) (pv 2) (aT _)))))
 (ao (qG (aw aJ (aX a9 (pv 1) (wB qJ ai) AM) (pv 3)) (Ar (pv 1) (wB qJ ai) set_list)))
 (ao (cP (jk zaF zaL zaM cZ (pv 1) (ae (pv 3) af ah)))))
 (ao (aM (i:=2) nd rfl (zan rfl) (pv 4))))))
 (ao (aS (pv 1)))))),rfl,?_⟩
 walk_at "rd";intro l Q9;refine⟨S wd,rfl,Ln (z:=S wd) (fun i σ H2=>∃a b:Option V,σ=[some (sv wd),some (.ref l),some (.str (kindS (PM.cv (wd.take i)).2)),a,b]/\ay H H2/\H2 l=some (.lst ((PM.cv (wd.take i)).1.map sv)))
  ⟨none,none,rfl,ay.new Q9 _,aj⟩ ?_ ?_⟩
 ·rintro i c σ H2 hi ⟨a,b,rfl,s2,h2⟩
  have RN:wd[i]?=some c:=hi;obtain⟨lQ,hci⟩:=zar.mp RN;have tk:wd.take (i+1)=wd.take i++[c]:=by rw[zbk lQ,hci]
  have st:PM.cv (wd.take (i+1))=PM.da (PM.cv (wd.take i)) c:=by rw[tk,PM.Ab]
  have ok:=PM.Sn (wd.take i);have Y3:(PM.cv (wd.take i)).1.length<=60:=zay (PM.vB (wd.take i)) (by rw[zaB];lia);have abU:∀p∈(PM.cv (wd.take i)).1,p.length<=60:=fun p hp=>zay (PM.Eb (w:=wd.take i) hp) (by rw[zaB];lia);have k3:(PM.cv (wd.take i)).2<=3:=by
   by_cases e:wd.take i=[]
   ·rw[e];decide
   ·have key:∀w:W,(PM.cv w).2<=3:=PM.AO (by decide) fun w c ih=>by
     rw[PM.Ab];unfold PM.da;have:=PM.kind_le c;split<;>(show PM.kind c<=3;lia)
    exact key _
  generalize PM.cv (wd.take i)=st0 at *;generalize PM.cv (wd.take (i+1))=YA at *;subst st;obtain⟨ps,b0⟩:=st0;have k2:=PM.kind_le c;have e1:(kindS (PM.kind c)=zac "sign")↔PM.kind c=2:=by
   have:zac "sign"=kindS 2:=rfl;rw[this];exact ED (by lia) (by lia)
  have e2:(kindS (PM.kind c)=kindS b0)↔PM.kind c=b0:=ED (by lia) k3;have h2:H2 l=some (.lst (ps.map sv)):=h2;have Y3:ps.length<=60:=Y3;have uJ:∀o,ay H (upd H2 l o):=fun o b u e=>by rw[aq (aI e Q9)];exact s2 b u e
  have app:¬(PM.kind c≠2/\PM.kind c=b0)->PM.da (ps,b0) c=(ps++[[c]],PM.kind c):=fun h=>by unfold PM.da;rw[if_neg h]
  have sz:(ps.map sv).length<zdX:=D6 (by rw[zaj];lia);walk_at "rd";refine⟨c,rfl,rfl,?_⟩;refine cu (fun h=>?_) (fun h=>?_)
  ·have hk:=e1.mp (V.str.inj h);rw[if_neg zal,app (by lia)];refine⟨.inl ⟨rfl,_,.of h2⟩,l,_,_,rfl,rfl,h2,sz,_,_,rfl,uJ _,?_⟩;rw[aj,zas];rfl
  have hn:PM.kind c≠2:=fun e=>h (by rw[e1.mpr e]);refine⟨rfl,?_⟩;refine cu (fun h'=>?_) (fun h'=>?_)
  ·have hk:=e2.mp (V.str.inj h');have CL:ps≠[]:=ok.last (by show b0<2;lia);obtain⟨p,hp,_⟩:=ok.mark CL;have es:=PM.AR hp;have Gd:p.length<=60:=abU p (by show p∈ps;rw[show ps=(ps,b0).1 from rfl,es];simp);have eD:ps.getLastD []=p:=by rw[zbR,hp];rfl
   have stp:PM.da (ps,b0) c=(ps.dropLast++[p++[c]],PM.kind c):=by unfold PM.da;rw[if_pos ⟨hn,hk⟩,eD]
   have Xw:ps=ps.dropLast++[p]:=es;have em:ps.map sv=ps.dropLast.map sv++[sv p]:=(congrArg (List.map sv) Xw).trans (by rw[zas];rfl);rw[stp];refine⟨1,rfl,l,ps.map sv,_,sv p,rfl,rfl,.of h2,?_,S p,_,rfl,rfl,?_,1,rfl,?_⟩
   ·rw[em];exact AI _ _
   ·rw[bZ];exact EU (by show p.length+1<=1000;lia)
   ·refine⟨l,ps.map sv,_,(ps.dropLast.map sv).length,rfl,rfl,h2,?_,_,_,rfl,uJ _,?_⟩
    ·rw[em,zae];have:(ps.dropLast.map sv).length<=60:=by rw[zaj,za1];lia
     unfold Mw;rw[if_neg (by decide),if_pos (by simp only[zaf,zba];lia)]
     congr 1
     simp only[zaf,zba];lia
    ·rw[aj,em,zas,zdp _ _ (zah _),zcq];simp only[zcI,zaq,zbV];rw[show (⟨#[c]⟩:Str)=S [c] from rfl,gb];rfl
  ·have hk:PM.kind c≠b0:=fun e=>h' (by rw[e2.mpr e]);rw[app (by lia)];refine⟨.inl ⟨rfl,_,.of h2⟩,l,_,_,rfl,rfl,h2,sz,_,_,rfl,uJ _,?_⟩;rw[aj,zas];rfl
 ·rintro σ H2 ⟨a,b,rfl,s2,h2⟩
  walk_at "rd";refine q l H2 s2 Q9 ?_;rw[h2,bZ,zbz];rfl
theorem B5(T:Tx K mg t):bu P w K mg base jh 3 t.cO t.jD ["self", "word"] (PC t.aR):=by
 have HR:bu P w K mg base jh 2 t.jb t.jr ["word"] AW:=Fz T;refine T.kW.uX tS (fun vs H Q E h=>?_) (fun d0 A outer s H vs Q E hr h=>?_)
 ·obtain⟨_,_,_,rfl,_⟩:=h;rfl
 obtain⟨p,dx,wd,rfl,hp,Z9,hl,q⟩:=h;have nd:=tS.nd;refine⟨_,[some (.ref p),some (sv wd)],(ag (AE (pv 0) (aF HR (hr.mono (by first|decide|omega)) rfl T.je.m T.je.F.kp T.je.b .nil bj (ae (pv 1) af ah)) rfl)
 (ao (AE (pv 0) ai rfl))),rfl,?_⟩
 walk_at "rd";refine⟨wd,rfl,hl,fun l H1 s1 Q9 h1=>?_⟩;have np:p≠l:=aI hp Q9;refine⟨p,_,dx,[],rfl,s1 _ _ hp,T.cV,T.eW,(by decide),p,_,dx,_,rfl,aj,T.cV,T.dX,(by show 1<1000;decide),?_⟩;rw[EG];have pk:=PM.Sn wd;refine q l _ (fun b o n e=>by rw[aq n];exact s1 b o e) ⟨aj,?_,?_,zaU _,pk.Ll,fun x hx=>zay (PM.Eb hx) hl,zay (PM.vB wd) hl⟩
 ·rw[aq (dg Z9 hp (by intro z;cases z))];exact s1 _ _ Z9
 ·rw[aq (Ne.symm np)];exact h1
theorem iw(T:Tx K mg t):bu P w K mg base jh 1 t.bU t.dj ["self"] (wQ t.aR):=by
 refine T.jE.uX rN (fun vs H Q E h=>?_) (fun d0 A outer s H vs Q E hr h=>?_)
 ·obtain⟨_,_,_,_,_,rfl,_⟩:=h;rfl
 obtain⟨p,l,dx,ps,k,rfl,o,q⟩:=h;have nd:=rN.nd;refine⟨_,[some (.ref p)],(ag (bo (aH cC (dG (pv 0) rfl) (bb bq rfl T.eY PyProof.Rows.Boot.«len» (ae (dG (pv 0) rfl) af wJ)) (aT _))
 (ao (aS au))
 aQ)
 (ao (aS (aX a9 (dG (pv 0) rfl) (dG (pv 0) rfl) Sm)))),rfl,?_⟩
 walk_at "rd";refine⟨p,_,dx,_,.int k,rfl,o.ins,T.cV,T.dX,rfl,p,_,dx,_,.ref l,rfl,o.ins,T.cV,T.eW,rfl,l,_,rfl,.inl (.of o.lst),rfl,?_⟩;rw[zaj];have le:=o.le;refine cu (fun h=>?_) (fun h=>?_)
 ·have e:k=ps.length:=by have:=V.int.inj h;lia
  rw[e,List.drop_length] at q;exact q
 ·have hk:k<ps.length:=by
   have:¬k=ps.length:=fun e=>h (by rw[e]);lia
  refine⟨p,_,dx,_,.ref l,rfl,o.ins,T.cV,T.eW,rfl,p,_,dx,_,.int k,rfl,o.ins,T.cV,T.dX,rfl,?_⟩;refine bC (.of o.lst) (bf (by rw[zaE,zag hk];rfl)) ?_;rw[zbS hk] at q;exact q
theorem gF(T:Tx K mg t):bu P w K mg base (m6 P w) 2 t.bW t.de ["self"] (xR t.aR t.aD):=by
 have dP:bu P w K mg base jh 1 t.bU t.dj ["self"] (wQ t.aR):=iw T;refine T.kX.Gg tT (fun vs H Q E h=>?_) (fun d0 A outer s H vs Q E hr h=>?_)
 ·obtain⟨_,_,_,_,_,rfl,_⟩:=h;rfl
 obtain⟨p,l,dx,ps,k,rfl,o,q⟩:=h;have nd:=tT.nd;refine⟨_,[some (.ref p),none],(ag (aM (i:=1) nd rfl (zan rfl) (eK (pv 0) T.cV T.jG dP (hr.mono (by first|decide|omega)) T.jF .nil bj))
 (ag (bo (aH cC (pv 1) au (aT _))
 (ao (cH dS T.fY rfl T.eX rfl (ae au af aC)))
 aQ)
 (ag (Mq (pv 0) ai Vm)
 (ao (aS (pv 1)))))),rfl,?_⟩
 walk_at "rd";refine⟨p,dx,_,rfl,o.ins,rfl,p,l,dx,ps,k,rfl,o,rfl,?_⟩;have le:=o.le;cases hd:ps.drop k with
 |nil=>
  rw[hd] at q;refine(if_pos (show sv ([].headD [])=V.str (zac "") from rfl)).mpr ?_;exact⟨by decide,q⟩
 |cons y r=>
  rw[hd] at q;have hk:k<ps.length:=by
   have:=congrArg zbs hd;rw[zaQ,zaf] at this;lia
  have hy:y∈ps:=zbF (i:=k) (by rw[hd];simp);have ne:¬sv y=V.str (zac ""):=by
   have:V.str (zac "")=sv []:=rfl;rw[this,gX];exact o.pos y hy
  rw[zb4,if_neg ne];refine⟨p,_,dx,_,.int k,rfl,o.ins,T.cV,T.dX,rfl,?_⟩;refine⟨k,1,rfl,rfl,dx,_,o.ins,(by show 2<1000;decide),?_⟩;have e:qg (zac "place") (V.int ((k:Int)+1)) ([("pieces",V.ref l),("place",V.int k)]:List (Str×V))=([("pieces",V.ref l),("place",V.int ((k+1:Nat):Int))]:List (Str×V)):=by
   have d:¬zac "pieces"=zac "place":=by decide +kernel
   unfold qg;rw[if_neg d];unfold qg;rw[if_pos rfl];rfl
  rw[e];exact q _ ((bX.refl _ _).put _) (o.at ((bX.refl _ _).put _) aj (by lia))
theorem wx.tW{CP p l dx:zdP}{H:Hp}{ps:List W}{k:Nat}{y:W}{r:List W}(o:wx CP H p l dx ps k)(hd:ps.drop k=y::r):k<ps.length/\y∈ps/\ps.drop (k+1)=r:=by
 have hk:k<ps.length:=by
  have:=congrArg zbs hd;rw[zaQ,zaf] at this;lia
 refine⟨hk,zbF (i:=k) (by rw[hd];simp),?_⟩;rw[zbS hk] at hd;exact(zcM.inj hd).2
theorem tX(T:Tx K mg t){n:Nat}{d:Int}(B6:bu P w K mg base (m6 P w) (4*n+4) t.dM t.dU ["pieces", "depth"] (xS K t.aR t.aD n (d+1))) :
 bu P w K mg base (m6 P w) (4*n+5) t.fD t.gm ["pieces", "depth"] (sM K t.aR t.aD (PM.factor n) d):=by
 have c9:bu P w K mg base (m6 P w) 2 t.bW t.de ["self"] (xR t.aR t.aD):=gF T;have tY:bu P w K mg base jh 2 t.gf t.gN ["word"] vD:=xt T;have yI:bu P w K mg base jh 2 t.j8 t.j9 ["word"] AV:=BW T;refine T.c7.F.Gg tL (fun vs H Q E h=>?_) (fun d0 A outer s H vs Q E hr h=>?_)
 ·obtain⟨_,_,_,_,_,rfl,_⟩:=h;rfl
 obtain⟨p,l,dx,ps,k,rfl,o,q⟩:=h;have nd:=tL.nd;refine⟨_,[some (.ref p),some (.int d),none],(ag (aM (i:=2) nd rfl (zan rfl) (eK (pv 0) T.cV T.ij c9 (hr.mono (by first|decide|omega)) T.ie .nil dQ))
 (ag (bo (Ap (aF tY (hr.mono (by first|decide|omega)) rfl T.eA.m T.eA.F.kp T.eA.b .nil bj (ae (pv 2) af ah)))
 (ao (aS (cp (ae au (ae (gJ wO rfl T.EC PyProof.Rows.Boot.«int» (ae (pv 2) af ah)) af bH) aC))))
 aQ)
 (ag (bo (Ap (aF yI (hr.mono (by first|decide|omega)) rfl T.gQ.m T.gQ.F.kp T.gQ.b .nil bj (ae (pv 2) af ah)))
 (ao (aS (cp (ae au (ae (pv 2) af ah) aC))))
 aQ)
 (ag (bo (aH Av (pv 2) au (aT _))
 (ao (cH dS T.fY rfl T.eX rfl (ae au af aC)))
 aQ)
 (ao (aS (aF B6 (hr.mono (by first|decide|omega)) rfl T.dN.m T.dN.F.kp T.dN.b .nil dQ (ae (pv 0) (ae (aw dR (pv 1) ai) af cm) ah)))))))),rfl,?_⟩
 walk_at "rd";refine⟨p,dx,_,rfl,o.ins,rfl,p,l,dx,ps,k,rfl,o,?_⟩;cases hd:ps.drop k with
 |nil=>
  rw[hd] at q;have e:PM.factor n []=none:=by cases n<;>rfl
  rw[e] at q;exact q H (bX.refl _ _)
 |cons y r=>
  rw[hd,GS] at q;obtain⟨hk,hy,Bw⟩:=wx.tW o hd;intro H1 u1 o1;have yl:=o.len y hy;refine⟨y,rfl,by lia,fun H2 s2=>⟨_,rfl,?_⟩⟩;have u2:bX p H H2:=u1.trans (.of s2);have o2:wx t.aR H2 p l dx ps (k+1):=o1.at (.of s2) (s2 _ _ o1.ins) o1.le;refine cu (fun c1=>?_) (fun c1=>?_)
  ·rw[if_pos c1] at q;refine⟨S y,_,rfl,GU c1,by rw[bZ];lia,fun a ha=>?_⟩;refine q _ _ (k+1) (u2.new ha _) (o2.at ((bX.refl _ _).new ha _) (by rw[aq (aI o2.ins ha)];exact o2.ins) o2.le) Bw ?_;exact Rep.new ha (.cons (Rep.a8.mpr rfl) (.cons (Rep.cN.mpr rfl) .nil))
  rw[if_neg c1] at q;refine⟨y,rfl,by lia,fun H3 s3=>⟨_,rfl,?_⟩⟩;have u3:bX p H H3:=u2.trans (.of s3);have o3:wx t.aR H3 p l dx ps (k+1):=o2.at (.of s3) (s3 _ _ o2.ins) o2.le;refine cu (fun c2=>?_) (fun c2=>?_)
  ·rw[if_pos c2] at q;intro a ha;refine q _ _ (k+1) (u3.new ha _) (o3.at ((bX.refl _ _).new ha _) (by rw[aq (aI o3.ins ha)];exact o3.ins) o3.le) Bw ?_;exact Rep.new ha (.cons (Rep.a8.mpr rfl) (.cons (Rep.a8.mpr rfl) .nil))
  rw[if_neg c2] at q;refine⟨rfl,?_⟩;have z:V.str (zac "(")=sv [40]:=by decide +kernel
  rw[z];refine cu (fun c3=>?_) (fun c3=>?_)
  ·rw[if_pos (gX.mp c3)] at q;refine⟨p,l,dx,ps,k+1,rfl,o3,?_⟩;rw[Bw]
   revert q
   cases ZY n r with
   |none=>exact fun q H' u=>q H' (u3.trans u)
   |some x=>exact fun q v H' j u=>q v H' j (u3.trans u)
  ·rw[if_neg (fun e=>c3 (gX.mpr e))] at q;exact⟨by decide,q H3 u3⟩
theorem Kl{p l dx CP a:zdP}{H:Hp}{ps:List W}{k:Nat}{o':HO}(o:wx CP H p l dx ps k)(ha:H a=none):wx CP (upd H a o') p l dx ps k:=
 o.at ((bX.refl _ _).new ha _) (by rw[aq (aI o.ins ha)];exact o.ins) o.le
theorem rO(T:Tx K mg t){n:Nat}{d:Int}(vh:bu P w K mg base (m6 P w) (4*n+5) t.fD t.gm ["pieces", "depth"] (sM K t.aR t.aD (PM.factor n) d)) :
 bu P w K mg base (m6 P w) (4*n+6) t.eQ t.fq ["pieces", "depth"] (sM K t.aR t.aD (PM.hG (PM.factor n)) d):=by
 have c9:bu P w K mg base (m6 P w) 2 t.bW t.de ["self"] (xR t.aR t.aD):=gF T;have dP:bu P w K mg base jh 1 t.bU t.dj ["self"] (wQ t.aR):=iw T;refine T.cT.F.Gg rJ (fun vs H Q E h=>?_) (fun d0 A outer s H vs Q E hr h=>?_)
 ·obtain⟨_,_,_,_,_,rfl,_⟩:=h;rfl
 obtain⟨p,l,dx,ps,k,rfl,o,q⟩:=h;have nd:=rJ.nd;refine⟨_,[some (.ref p),some (.int d),none,none],(ag (aM (i:=2) nd rfl (zan rfl) (aF vh (hr.mono (by first|decide|omega)) rfl T.c7.m T.c7.F.kp T.c7.b .nil dQ (ae (pv 0) (ae (pv 1) af ah) ah)))
 (ag (Gq Sr (aH cC (eK (pv 0) T.cV T.jG dP (hr.mono (by first|decide|omega)) T.jF .nil bj) au (aT _))
 (ag (aM (i:=3) nd rfl (zan rfl) (eK (pv 0) T.cV T.ij c9 (hr.mono (by first|decide|omega)) T.ie .nil dQ))
 (ao (aM (i:=2) nd rfl (zan rfl) (cp (ae (pv 3) (ae (pv 2) (ae (aF vh (hr.mono (by first|decide|omega)) rfl T.c7.m T.c7.F.kp T.c7.b .nil dQ (ae (pv 0) (ae (pv 1) af ah) ah)) af bH) ah) ah))))))
 (ao (aS (pv 2))))),rfl,?_⟩
 walk_at "rd";refine⟨p,l,dx,ps,k,rfl,o,?_⟩;rw[PM.wM] at q;cases hf:PM.factor n (ps.drop k) with
 |none=>
  rw[hf] at q;exact q
 |some x=>
  obtain⟨e0,r0⟩:=x;rw[hf] at q;intro v0 H0 j0 u0 o0 Xn rep0;refine⟨fun m σ H2=>∃(ve:V) (j:Nat) (x:Option V) (e:PM.Tr),m=ps.length-j/\σ=[some (.ref p),some (.int d),some ve,x]/\bX p H H2/\wx t.aR H2 p l dx ps j/\Rep K H2 (mJ e) ve/\
   PM.loop [[42]] (PM.factor n) e0 r0=PM.loop [[42]] (PM.factor n) e (ps.drop j),⟨_,v0,j0,none,e0,rfl,rfl,u0,o0,rep0,by rw[Xn]⟩,?_⟩
  rintro m σ H2 ⟨ve,j,x,e,rfl,rfl,u2,o2,rep2,Tc⟩
  have qq:match PM.loop [[42]] (PM.factor n) e (ps.drop j) with
   |none=>∀H',bX p H H'->E (Value.ref t.aD) none H'
   |some (t',r)=>∀v H' j,bX p H H'->wx t.aR H' p l dx ps j->ps.drop j=r->Rep K H' (mJ t') v->Q v H':=by
   rw[<- Tc];exact q
  walk_at "rd";refine⟨p,dx,_,rfl,o2.ins,rfl,p,l,dx,ps,j,rfl,o2,rfl,?_⟩;have z:V.str (zac "*")=sv [42]:=by decide +kernel
  rw[z];cases hd:ps.drop j with
  |nil=>
   refine(if_neg (fun e=>absurd (gX.mp e) (by decide))).mpr ?_;rw[hd,PM.sG] at qq;exact qq ve H2 j u2 o2 hd rep2
  |cons y r=>
   obtain⟨hk,hy,Bw⟩:=wx.tW o2 hd;rw[zb4];refine cu (fun c=>?_) (fun c=>?_)
   ·have Vl:y∈([[42]]:List W):=by rw[gX.mp c];simp
    refine⟨fun σ' H'=>∃(ve:V) (j':Nat) (x:Option V) (e:PM.Tr),ps.length-j'<ps.length-j/\σ'=[some (.ref p),some (.int d),some ve,x]/\bX p H H'/\wx t.aR H' p l dx ps j'/\Rep K H' (mJ e) ve/\
     PM.loop [[42]] (PM.factor n) e0 r0=PM.loop [[42]] (PM.factor n) e (ps.drop j'),?_,?_⟩
    ·rintro σ' H' ⟨ve,j',x,e,a1,a2,a3,a4,a5,a6⟩
     exact⟨_,a1,ve,j',x,e,rfl,a2,a3,a4,a5,a6⟩
    refine⟨p,dx,_,rfl,o2.ins,rfl,p,l,dx,ps,j,rfl,o2,?_⟩;rw[hd];intro H3 u3 o3;refine⟨p,l,dx,ps,j+1,rfl,o3,?_⟩;rw[Bw];rw[hd,PM.wL (PM.dz n) Vl] at qq Tc;have uu:bX p H H3:=u2.trans u3;cases Wy:(PM.factor n) r with
    |none=>
     rw[Wy] at qq;exact fun H' u=>qq H' (uu.trans u)
    |some z=>
     obtain⟨e2,r2⟩:=z;rw[Wy] at qq Tc;intro v2 H4 j2 u4 o4 Y4 Wz a ha;have rv:Rep K H4 (mJ e) ve:=(Rep.ql o2.ins (u3.trans u4)).1 _ _ rep2;have sh:=(PM.dz n) _ _ _ Wy;refine⟨.ref a,j2,_,.bin y e e2,?_,rfl,(uu.trans u4).new ha _,Kl o4 ha,?_,?_⟩
     ·have e1:=congrArg zbs Y4;have e2:=congrArg zbs Bw;rw[zaQ] at e1 e2;have:=o4.le;lia
     ·exact Rep.new ha (.cons (Rep.a8.mpr rfl) (.cons rv (.cons Wz .nil)))
     ·rw[Tc,Y4]
   ·rw[hd,PM.qi (by rw[zad];exact fun e=>c (gX.mpr e))] at qq;exact qq ve H2 j u2 o2 hd rep2
theorem zA(T:Tx K mg t){n:Nat}{d:Int}(tZ:bu P w K mg base (m6 P w) (4*n+6) t.eQ t.fq ["pieces", "depth"] (sM K t.aR t.aD (PM.hG (PM.factor n)) d)) :
 bu P w K mg base (m6 P w) (4*n+7) t.gg t.gk ["pieces", "depth"] (sM K t.aR t.aD (PM.qO (PM.factor n)) d):=by
 have c9:bu P w K mg base (m6 P w) 2 t.bW t.de ["self"] (xR t.aR t.aD):=gF T;have dP:bu P w K mg base jh 1 t.bU t.dj ["self"] (wQ t.aR):=iw T;refine T.dq.F.Gg zr (fun vs H Q E h=>?_) (fun d0 A outer s H vs Q E hr h=>?_)
 ·obtain⟨_,_,_,_,_,rfl,_⟩:=h;rfl
 obtain⟨p,l,dx,ps,k,rfl,o,q⟩:=h;have nd:=zr.nd;refine⟨_,[some (.ref p),some (.int d),none,none],(ag (aM (i:=2) nd rfl (zan rfl) (aF tZ (hr.mono (by first|decide|omega)) rfl T.cT.m T.cT.F.kp T.cT.b .nil dQ (ae (pv 0) (ae (pv 1) af ah) ah)))
 (ag (Gq Sr (aH i4 (eK (pv 0) T.cV T.jG dP (hr.mono (by first|decide|omega)) T.jF .nil bj) (cp (bD (vs:=[.str "+",.str "-"]) (by kernel_rfl))) rfl)
 (ag (aM (i:=3) nd rfl (zan rfl) (eK (pv 0) T.cV T.ij c9 (hr.mono (by first|decide|omega)) T.ie .nil dQ))
 (ao (aM (i:=2) nd rfl (zan rfl) (cp (ae (pv 3) (ae (pv 2) (ae (aF tZ (hr.mono (by first|decide|omega)) rfl T.cT.m T.cT.F.kp T.cT.b .nil dQ (ae (pv 0) (ae (pv 1) af ah) ah)) af bH) ah) ah))))))
 (ao (aS (pv 2))))),rfl,?_⟩
 walk_at "rd";refine⟨p,l,dx,ps,k,rfl,o,?_⟩;rw[PM.Aa] at q;cases hf:PM.hG (PM.factor n) (ps.drop k) with
 |none=>
  rw[hf] at q;exact q
 |some x=>
  obtain⟨e0,r0⟩:=x;rw[hf] at q;intro v0 H0 j0 u0 o0 Xn rep0;refine⟨fun m σ H2=>∃(ve:V) (j:Nat) (x:Option V) (e:PM.Tr),m=ps.length-j/\σ=[some (.ref p),some (.int d),some ve,x]/\bX p H H2/\wx t.aR H2 p l dx ps j/\Rep K H2 (mJ e) ve/\
   PM.loop [[43],[45]] (PM.hG (PM.factor n)) e0 r0=PM.loop [[43],[45]] (PM.hG (PM.factor n)) e (ps.drop j),⟨_,v0,j0,none,e0,rfl,rfl,u0,o0,rep0,by rw[Xn]⟩,?_⟩
  rintro m σ H2 ⟨ve,j,x,e,rfl,rfl,u2,o2,rep2,Tc⟩
  have qq:match PM.loop [[43],[45]] (PM.hG (PM.factor n)) e (ps.drop j) with
   |none=>∀H',bX p H H'->E (Value.ref t.aD) none H'
   |some (t',r)=>∀v H' j,bX p H H'->wx t.aR H' p l dx ps j->ps.drop j=r->Rep K H' (mJ t') v->Q v H':=by
   rw[<- Tc];exact q
  walk_at "rd";refine⟨p,dx,_,rfl,o2.ins,rfl,p,l,dx,ps,j,rfl,o2,?_⟩;intro a1 ha1;have Xo:=Kl (o':=.tup [V.str (zac "+"),V.str (zac "-")]) o2 ha1;have u2':=u2.new ha1 (.tup [V.str (zac "+"),V.str (zac "-")]);have Mb:Rep K (upd H2 a1 (.tup [V.str (zac "+"),V.str (zac "-")])) (mJ e) ve:=rep2.mono (ay.new ha1 _);have z:([V.str (zac "+"),V.str (zac "-")]:List V)=([[43],[45]]:List W).map sv:=by decide +kernel
  refine⟨a1,_,rfl,.inr (.of aj),rfl,rfl,_,rfl,?_⟩;rw[z] at Xo u2' Mb;rw[if_neg zal,z,in_words];generalize upd H2 a1 (.tup (([[43],[45]]:List W).map sv))=H2' at *;cases hd:ps.drop j with
  |nil=>
   refine(if_neg (by decide)).mpr ?_;rw[hd,PM.sG] at qq;exact qq ve H2' j u2' Xo hd Mb
  |cons y r=>
   obtain⟨hk,hy,Bw⟩:=wx.tW o2 hd;rw[zb4];refine cu (fun c=>?_) (fun c=>?_)
   ·have Vl:y∈([[43],[45]]:List W):=za0.mp c;refine⟨fun σ' H'=>∃(ve:V) (j':Nat) (x:Option V) (e:PM.Tr),ps.length-j'<ps.length-j/\σ'=[some (.ref p),some (.int d),some ve,x]/\bX p H H'/\wx t.aR H' p l dx ps j'/\Rep K H' (mJ e) ve/\
     PM.loop [[43],[45]] (PM.hG (PM.factor n)) e0 r0=PM.loop [[43],[45]] (PM.hG (PM.factor n)) e (ps.drop j'),?_,?_⟩
    ·rintro σ' H' ⟨ve,j',x,e,a1,a2,a3,a4,a5,a6⟩
     exact⟨_,a1,ve,j',x,e,rfl,a2,a3,a4,a5,a6⟩
    refine⟨p,dx,_,rfl,Xo.ins,rfl,p,l,dx,ps,j,rfl,Xo,?_⟩;rw[hd];intro H3 u3 o3;refine⟨p,l,dx,ps,j+1,rfl,o3,?_⟩;rw[Bw];rw[hd,PM.wL (PM.iy (PM.dz n)) Vl] at qq Tc;have uu:bX p H H3:=u2'.trans u3;cases Wy:(PM.hG (PM.factor n)) r with
    |none=>
     rw[Wy] at qq;exact fun H' u=>qq H' (uu.trans u)
    |some z=>
     obtain⟨e2,r2⟩:=z;rw[Wy] at qq Tc;intro v2 H4 j2 u4 o4 Y4 Wz a ha;have rv:Rep K H4 (mJ e) ve:=(Rep.ql Xo.ins (u3.trans u4)).1 _ _ Mb;have sh:=(PM.iy (PM.dz n)) _ _ _ Wy;refine⟨.ref a,j2,_,.bin y e e2,?_,rfl,(uu.trans u4).new ha _,Kl o4 ha,?_,?_⟩
     ·have e1:=congrArg zbs Y4;have e2:=congrArg zbs Bw;rw[zaQ] at e1 e2;have:=o4.le;lia
     ·exact Rep.new ha (.cons (Rep.a8.mpr rfl) (.cons rv (.cons Wz .nil)))
     ·rw[Tc,Y4]
   ·rw[hd,PM.qi (fun e=>c (za0.mpr e))] at qq;exact qq ve H2' j u2' Xo hd Mb
theorem FA(T:Tx K mg t):bu P w K mg base (m6 P w) 4 t.dM t.dU ["pieces", "depth"] (xS K t.aR t.aD 0 6):=by
 have c9:bu P w K mg base (m6 P w) 2 t.bW t.de ["self"] (xR t.aR t.aD):=gF T;have oy:bu P w K mg base (m6 P w) 0 t.gg t.gk ["pieces", "depth"] (fun _ _ _ _=>False):=⟨fun vs H Q E h=>h.elim,fun A outer s H args us vs Q E _ _ _ _ h=>h.elim⟩
 refine T.dN.F.Gg ik (fun vs H Q E h=>?_) (fun d0 A outer s H vs Q E hr h=>?_)
 ·obtain⟨_,_,_,_,_,rfl,_⟩:=h;rfl
 obtain⟨p,l,dx,ps,k,rfl,o,q⟩:=h;have nd:=ik.nd;obtain⟨zQ,mF,mG⟩:=T.qC;refine⟨_,[some (.ref p),some (.int 6),none],(ag (bo (aH Ay (pv 1) (cq rfl mF mG) (aT _))
 (ao (cH dS T.fY rfl T.eX rfl (ae au af aC)))
 aQ)
 (ag (aM (i:=2) nd rfl (zan rfl) (aF oy (hr.mono (by first|decide|omega)) rfl T.dq.m T.dq.F.kp T.dq.b .nil dQ (ae (pv 0) (ae (pv 1) af ah) ah)))
 (ag (bo (aH Av (eK (pv 0) T.cV T.ij c9 (hr.mono (by first|decide|omega)) T.ie .nil dQ) au (aT _))
 (ao (cH dS T.fY rfl T.eX rfl (ae au af aC)))
 aQ)
 (ao (aS (pv 2)))))),rfl,?_⟩
 walk_at "rd";exact(if_pos (by decide)).mpr ⟨by decide,q H (bX.refl _ _)⟩
theorem Ra(n:Nat)(ps:List W):ZY (n+1) ps=match PM.qO (PM.factor n) ps with
 |some (e,q::r)=>if q=[41] then some (e,r) else none
 |_=>none:=rfl
theorem zR(T:Tx K mg t){n:Nat}{d:Int}(hd:d+n=5)(oy:bu P w K mg base (m6 P w) (4*n+7) t.gg t.gk ["pieces", "depth"] (sM K t.aR t.aD (PM.qO (PM.factor n)) d)) :
 bu P w K mg base (m6 P w) (4*n+8) t.dM t.dU ["pieces", "depth"] (xS K t.aR t.aD (n+1) d):=by
 have c9:bu P w K mg base (m6 P w) 2 t.bW t.de ["self"] (xR t.aR t.aD):=gF T;refine T.dN.F.Gg ik (fun vs H Q E h=>?_) (fun d0 A outer s H vs Q E hr h=>?_)
 ·obtain⟨_,_,_,_,_,rfl,_⟩:=h;rfl
 obtain⟨p,l,dx,ps,k,rfl,o,q⟩:=h;have nd:=ik.nd;obtain⟨zQ,mF,mG⟩:=T.qC;refine⟨_,[some (.ref p),some (.int d),none],(ag (bo (aH Ay (pv 1) (cq rfl mF mG) (aT _))
 (ao (cH dS T.fY rfl T.eX rfl (ae au af aC)))
 aQ)
 (ag (aM (i:=2) nd rfl (zan rfl) (aF oy (hr.mono (by first|decide|omega)) rfl T.dq.m T.dq.F.kp T.dq.b .nil dQ (ae (pv 0) (ae (pv 1) af ah) ah)))
 (ag (bo (aH Av (eK (pv 0) T.cV T.ij c9 (hr.mono (by first|decide|omega)) T.ie .nil dQ) au (aT _))
 (ao (cH dS T.fY rfl T.eX rfl (ae au af aC)))
 aQ)
 (ao (aS (pv 2)))))),rfl,?_⟩
 walk_at "rd";rw[if_neg (by lia)];refine⟨p,l,dx,ps,k,rfl,o,?_⟩;rw[Ra] at q;cases hf:PM.qO (PM.factor n) (ps.drop k) with
 |none=>
  rw[hf] at q;exact q
 |some x=>
  obtain⟨e0,r0⟩:=x;rw[hf] at q;intro v0 H0 j0 u0 o0 Xn rep0;refine⟨p,dx,_,rfl,o0.ins,rfl,p,l,dx,ps,j0,rfl,o0,?_⟩;rw[Xn];cases r0 with
  |nil=>exact q H0 u0
  |cons y r=>
   obtain⟨hk,hy,Bw⟩:=wx.tW o0 Xn;intro H1 u1 o1;have z:V.str (zac ")")=sv [41]:=by decide +kernel
   refine⟨rfl,?_⟩;rw[z];refine cu (fun c=>?_) (fun c=>?_)
   ·rw[gX.mp c] at q;exact q v0 H1 (j0+1) (u0.trans u1) o1 Bw ((Rep.ql o0.ins u1).1 _ _ rep0)
   ·simp only[if_neg (fun e=>c (gX.mpr e))] at q;exact⟨by decide,q H1 (u0.trans u1)⟩
theorem B7(T:Tx K mg t):∀(n:Nat) (d:Int),d+n=5->bu P w K mg base (m6 P w) (4*n+7) t.gg t.gk ["pieces", "depth"] (sM K t.aR t.aD (PM.qO (PM.factor n)) d)
 |0,d,h=>by
  have e:d=5:=by lia
  subst e;exact zA T (rO T (tX T (n:=0) (FA T)))
 |n+1,d,h=>zA T (rO T (tX T (zR T (d:=d+1) (by lia) (B7 T n (d+1) (by lia)))))
theorem vi(T:Tx K mg t):bu P w K mg base (m6 P w) 28 t.jq t.kP ["word"] (VN K t.aD):=by
 have oy:=B7 (P:=P) (w:=w) (base:=base) T 5 0 rfl;have dP:bu P w K mg base jh 1 t.bU t.dj ["self"] (wQ t.aR):=iw T;have Dh:bu P w K mg base jh 3 t.cO t.jD ["self", "word"] (PC t.aR):=B5 T;refine T.ck.F.Gg u5 (fun vs H Q E h=>?_) (fun d0 A outer s H vs Q E hr h=>?_)
 ·obtain⟨_,rfl,_⟩:=h;rfl
 obtain⟨wd,rfl,hl,q⟩:=h;have nd:=u5.nd;obtain⟨Td,FC,FD⟩:=T.C9;refine⟨_,[some (sv wd),none,none],(ag (bo (aH Ay (bb jj rfl T.eY PyProof.Rows.Boot.«len» (ae (pv 0) af ah)) (cq rfl FC FD) (aT _))
 (ao (cH dS T.fY rfl T.eX rfl (ae au af aC)))
 aQ)
 (ag (aM (i:=1) nd rfl (zan rfl) (R7 T.yv Dh (hr.mono (by first|decide|omega)) rfl T.Nl T.C8 .nil bj (ae (pv 0) af ah)))
 (ag (aM (i:=2) nd rfl (zan rfl) (aF oy (hr.mono (by first|decide|omega)) rfl T.dq.m T.dq.F.kp T.dq.b .nil dQ (ae (pv 1) (ae ai af aC) ah)))
 (ag (bo (aH Av (eK (pv 1) T.cV T.jG dP (hr.mono (by first|decide|omega)) T.jF .nil bj) au (aT _))
 (ao (cH dS T.fY rfl T.eX rfl (ae au af aC)))
 aQ)
 (ao (aS (pv 2))))))),rfl,?_⟩
 walk_at "rd";have line:zdX=2 ^ 24:=rfl;refine⟨S wd,rfl,by rw[bZ];lia,?_⟩;rw[bZ];unfold PM.expr at q;refine cu (fun c=>?_) (fun c=>?_)
 ·rw[if_pos (by lia)] at q;exact⟨by decide,q H (ay.refl _)⟩
 rw[if_neg (by lia)] at q;intro x dx hx Z9 ne;have hx1:(upd H dx (.own x)) x=none:=by rw[aq (Ne.symm ne)];exact hx
 refine⟨x,dx,wd,rfl,aj,by rw[aq ne];exact aj,by lia,fun l H1 u1 o1=>⟨rfl,?_⟩⟩;have sm:∀ {H':Hp},bX x (upd (upd H dx (.own x)) x (.ins t.aR dx [])) H'->ay H H':=fun u b o' e=>by
  have n1:b≠x:=aI e hx;have n2:b≠dx:=aI e Z9;refine u b o' n1 ?_;rw[aq n1,aq n2];exact e
 refine⟨x,l,dx,PM.pieces wd,0,rfl,o1,?_⟩;rw[zcH];cases hf:PM.qO (PM.factor 5) (PM.pieces wd) with
 |none=>
  rw[hf] at q;exact fun H' u=>q H' (sm (u1.trans u))
 |some z=>
  obtain⟨e0,r0⟩:=z;rw[hf] at q;intro v H2 j u2 o2 hj rep;refine⟨x,dx,_,rfl,o2.ins,rfl,x,l,dx,_,j,rfl,o2,rfl,?_⟩;rw[hj];have z:V.str (zac "")=sv []:=rfl;cases r0 with
  |nil=>exact(if_pos rfl).mpr (q v H2 (sm (u1.trans u2)) rep)
  |cons y r=>
   obtain⟨_,hy,_⟩:=wx.tW o2 hj;refine(if_neg (fun e=>o2.pos y hy (gX.mp (e.trans z)))).mpr ?_;exact⟨by decide,q H2 (sm (u1.trans u2))⟩
theorem xu(T:Tx K mg t):bu P w K mg base (m6 P w) 3 t.lF t.mV ["word"] (SU t.aD):=by
 have yI:bu P w K mg base jh 2 t.j8 t.j9 ["word"] AV:=BW T;refine T.cW.F.Gg xg (fun vs H Q E h=>?_) (fun d0 A outer s H vs Q E hr h=>?_)
 ·obtain⟨_,rfl,_⟩:=h;rfl
 obtain⟨wd,rfl,hl,q⟩:=h;have nd:=xg.nd;refine⟨_,[some (sv wd)],(ag (bo (EJ (Ap (aF yI (hr.mono (by first|decide|omega)) rfl T.gQ.m T.gQ.F.kp T.gQ.b .nil bj (ae (pv 0) af ah))))
 (ao (cH dS T.fY rfl T.eX rfl (ae au af aC)))
 aQ)
 (ao (aS (pv 0)))),rfl,?_⟩
 walk_at "rd";refine⟨wd,rfl,by lia,fun H2 s2=>⟨_,rfl,?_⟩⟩;unfold PM.oN at q;cases hn:PM.isName wd with
 |true=>
  rw[hn] at q;exact q H2 s2
 |false=>
  rw[hn] at q;exact⟨by decide,q H2 s2⟩
theorem B8(T:Tx K mg t):bu P w K mg base (m6 P w) 3 t.hV t.js ["word"] (Wm t.aD):=by
 have tY:bu P w K mg base jh 2 t.gf t.gN ["word"] vD:=xt T;refine T.c8.F.Gg tM (fun vs H Q E h=>?_) (fun d0 A outer s H vs Q E hr h=>?_)
 ·obtain⟨_,rfl,_⟩:=h;rfl
 obtain⟨wd,rfl,hl,q⟩:=h;have nd:=tM.nd;refine⟨_,[some (sv wd)],(ag (bo (EJ (Ap (aF tY (hr.mono (by first|decide|omega)) rfl T.eA.m T.eA.F.kp T.eA.b .nil bj (ae (pv 0) af ah))))
 (ao (cH dS T.fY rfl T.eX rfl (ae au af aC)))
 aQ)
 (ao (aS (gJ wO rfl T.EC PyProof.Rows.Boot.«int» (ae (pv 0) af ah))))),rfl,?_⟩
 walk_at "rd";refine⟨wd,rfl,by lia,fun H2 s2=>⟨_,rfl,?_⟩⟩;unfold PM.wz at q;cases hn:PM.isNumber wd with
 |true=>
  rw[hn] at q;have hl3:wd.length<=3:=by
   unfold PM.isNumber at hn;simp only[zaD,decide_eq_true_eq] at hn;exact hn.1.1.2
  exact⟨S wd,_,rfl,GU hn,by rw[bZ];lia,q H2 s2⟩
 |false=>
  rw[hn] at q;exact⟨by decide,q H2 s2⟩
theorem HS(T:Tx K mg t):bu P w K mg base (m6 P w) 4 t.nT t.o7 ["words"] (E9 K t.aD PM.Qy):=by
 have pB:=xu (P:=P) (w:=w) (base:=base) T;have vj:=B8 (P:=P) (w:=w) (base:=base) T;refine T.ka.F.Gg zt (fun vs H Q E h=>?_) (fun d0 A outer s H vs Q E hr h=>?_)
 ·obtain⟨_,_,rfl,_⟩:=h;rfl
 obtain⟨a,ws,rfl,ya,lw,l4,qn,qs⟩:=h;have nd:=zt.nd;refine⟨_,[some (.ref a)],(ao (aS (cp (ae au (ae (aF pB (hr.mono (by first|decide|omega)) rfl T.cW.m T.cW.F.kp T.cW.b .nil dQ (ae (aX a9 (pv 0) ai aK) af bJ)) (ae (aF vj (hr.mono (by first|decide|omega)) rfl T.c8.m T.c8.F.kp T.c8.b .nil dQ (ae (aX a9 (pv 0) ai aK) af bJ)) (ae (aF vj (hr.mono (by first|decide|omega)) rfl T.c8.m T.c8.F.kp T.c8.b .nil dQ (ae (aX a9 (pv 0) ai aK) af bJ)) af bH) bH) bH) aC)))),rfl,?_⟩
 match ws,l4 with
 |[k,x,y,z],_=>
  have eb:PM.Qy [k,x,y,z]=(PM.oN x).bind fun n=>(PM.wz y).bind fun a=>(PM.wz z).map (.box n a):=rfl;walk_at "rd";refine bC (.of ya) (v:=sv x) (bf (j:=1) rfl) ⟨x,rfl,lw x (by simp),?_⟩;cases hx:PM.oN x with
  |none=>exact qn (by rw[eb,hx];rfl)
  |some n=>
   have en:n=x:=by
    unfold PM.oN at hx;split at hx
    ·exact(zaG.inj hx).symm
    ·cases hx
   subst en;intro H1 s1;refine bC (.of (s1 _ _ ya)) (v:=sv y) (bf (j:=2) rfl) ⟨y,rfl,lw y (by simp),?_⟩;cases hy:PM.wz y with
   |none=>exact fun H2 s2=>qn (by rw[eb,hx,hy];rfl) H2 (s1.trans s2)
   |some i=>
    intro H2 s2;refine bC (.of (s2 _ _ (s1 _ _ ya))) (v:=sv z) (bf (j:=3) rfl) ⟨z,rfl,lw z (by simp),?_⟩;cases hz:PM.wz z with
    |none=>exact fun H3 s3=>qn (by rw[eb,hx,hy,hz];rfl) H3 (s1.trans (s2.trans s3))
    |some j=>
     intro H3 s3 p hp;refine qs (.box n i j) (by rw[eb,hx,hy,hz];rfl) _ _ ((s1.trans (s2.trans s3)).trans (ay.new hp _)) ?_;exact Rep.new hp (.cons (Rep.a8.mpr rfl) (.cons (Rep.a8.mpr rfl) (.cons (Rep.cN.mpr rfl) (.cons (Rep.cN.mpr rfl) .nil))))
theorem xv(T:Tx K mg t):bu P w K mg base (m6 P w) 29 t.eR t.fU ["words"] (E9 K t.aD PM.Hj):=by
 have jR:=vi (P:=P) (w:=w) (base:=base) T;refine T.dD.F.Gg oZ (fun vs H Q E h=>?_) (fun d0 A outer s H vs Q E hr h=>?_)
 ·obtain⟨_,_,rfl,_⟩:=h;rfl
 obtain⟨a,ws,rfl,ya,lw,l4,qn,qs⟩:=h;have nd:=oZ.nd;refine⟨_,[some (.ref a)],(ag (bo (aH mS (aX a9 (pv 0) ai aK) (cp (bD (vs:=[.str "<",.str "="]) (by kernel_rfl))) rfl)
 (ao (cH dS T.fY rfl T.eX rfl (ae au af aC)))
 aQ)
 (ao (aS (cp (ae (aX a9 (pv 0) ai aK) (ae (aX a9 (pv 0) ai aK) (ae (aF jR (hr.mono (by first|decide|omega)) rfl T.ck.m T.ck.F.kp T.ck.b .nil dQ (ae (aX a9 (pv 0) ai aK) af bJ)) (ae (aF jR (hr.mono (by first|decide|omega)) rfl T.ck.m T.ck.F.kp T.ck.b .nil dQ (ae (aX a9 (pv 0) ai aK) af bJ)) af bH) bH) bJ) bJ))))),rfl,?_⟩
 match ws,l4 with
 |[k,x,y,z],_=>
  have eb:PM.Hj [k,x,y,z]=if y=[60]\/y=[61] then (PM.expr x).bind fun l=>(PM.expr z).map (.cond k y l) else none:=rfl
  walk_at "rd";refine bC (.of ya) (v:=sv y) (bf (j:=2) rfl) fun p hp=>?_;have sp:=ay.new hp (.tup [V.str (zac "<"),V.str (zac "=")]);have hl:([V.str (zac "<"),V.str (zac "=")]:List V)=[[60],[61]].map sv:=by decide +kernel
  have iT:dF K (upd H p (.tup [V.str (zac "<"),V.str (zac "=")])) p [V.str (zac "<"),V.str (zac "=")]:=.of aj;generalize upd H p (.tup [V.str (zac "<"),V.str (zac "=")])=H0 at *;refine⟨p,_,rfl,.inr iT,rfl,rfl,_,rfl,?_⟩;rw[hl,in_words];by_cases hy:y=[60]\/y=[61]
  ·have hc:([[60],[61]]:List W).contains y=true:=by rw[za0];simpa using hy
   rw[hc];rw[if_pos hy] at eb;rw[if_neg (show ¬((if true=true then !true else true)=true) by decide)];refine bC (.of (sp _ _ ya)) (v:=sv k) (bf (j:=0) rfl) (bC (.of (sp _ _ ya)) (v:=sv y) (bf (j:=2) rfl) (bC (.of (sp _ _ ya)) (v:=sv x) (bf (j:=1) rfl) ⟨x,rfl,zay (lw x (by simp)) (by decide),?_⟩));cases hx:PM.expr x with
   |none=>exact fun H1 s1=>qn (by rw[eb,hx];rfl) H1 (sp.trans s1)
   |some e1=>
    intro v1 H1 s1 r1;refine bC (.of (s1 _ _ (sp _ _ ya))) (v:=sv z) (bf (j:=3) rfl) ⟨z,rfl,zay (lw z (by simp)) (by decide),?_⟩;cases hz:PM.expr z with
    |none=>exact fun H2 s2=>qn (by rw[eb,hx,hz];rfl) H2 (sp.trans (s1.trans s2))
    |some e2=>
     intro v2 H2 s2 r2 p2 Rb;refine qs (.cond k y e1 e2) (by rw[eb,hx,hz];rfl) _ _ ((sp.trans (s1.trans s2)).trans (ay.new Rb _)) ?_;exact Rep.new Rb (.cons (Rep.a8.mpr rfl) (.cons (Rep.a8.mpr rfl) (.cons (r1.mono s2) (.cons r2 .nil))))
  ·have hc:([[60],[61]]:List W).contains y=false:=by rw[zcb];intro z;exact hy (by rw[za0] at z;simpa using z)
   rw[hc];rw[if_neg hy] at eb;rw[if_pos (show (if true=true then !false else false)=true by decide)];exact⟨by decide,qn eb H0 sp⟩
theorem Km(T:Tx K mg t)(C:Cd P w K t):bu P w K mg base (m6 P w) 30 t.qy t.rj ["row"] (QA K t.aD):=by
 have jR:=vi (P:=P) (w:=w) (base:=base) T;have pB:=xu (P:=P) (w:=w) (base:=base) T;have Kn:=HS (P:=P) (w:=w) (base:=base) T;have yJ:=xv (P:=P) (w:=w) (base:=base) T;refine T.nj.F.Gg BA (fun vs H Q E h=>?_) (fun d0 A outer s H vs Q E hr h=>?_)
 ·obtain⟨_,rfl,_⟩:=h;rfl
 obtain⟨row,rfl,lr,qn,qs⟩:=h;have nd:=BA.nd;refine⟨_,[some (sv row),none,none],(ag (aM (i:=1) nd rfl (zan rfl) (jk zbe zcf zcg Bj (pv 0) (ae au af aC)))
 (ag (aM (i:=2) nd rfl (zan rfl) (aX a9 (pv 1) ai aK))
 (ag (bo (aH Av (MY (cq (v:=.ref t.dC) rfl T.BS rfl) (pv 2) ai ⟨rfl,rfl,rfl,rfl⟩) (bb bq rfl T.eY PyProof.Rows.Boot.«len» (ae (pv 1) af ah)) (aT _))
 (ao (cH dS T.fY rfl T.eX rfl (ae au af aC)))
 aQ)
 (ag (bo (aH cC (pv 2) au (aT _))
 (ao (aS (aF Kn (hr.mono (by first|decide|omega)) rfl T.ka.m T.ka.F.kp T.ka.b .nil dQ (ae (pv 1) af ah))))
 aQ)
 (ag (bo (aH cC (pv 2) au (aT _))
 (ao (aS (cp (ae au (ae (aF pB (hr.mono (by first|decide|omega)) rfl T.cW.m T.cW.F.kp T.cW.b .nil dQ (ae (aX a9 (pv 1) ai aK) af bJ)) af bH) aC))))
 aQ)
 (ag (bo (aH cC (pv 2) au (aT _))
 (ao (aS (cp (ae au (ae (aF pB (hr.mono (by first|decide|omega)) rfl T.cW.m T.cW.F.kp T.cW.b .nil dQ (ae (aX a9 (pv 1) ai aK) af bJ)) (ae (aF jR (hr.mono (by first|decide|omega)) rfl T.ck.m T.ck.F.kp T.ck.b .nil dQ (ae (aX a9 (pv 1) ai aK) af bJ)) af bH) bH) aC))))
 aQ)
 (ag (bo (aH cC (pv 2) au (aT _))
 (ao (aS (cp (ae au (ae (aF jR (hr.mono (by first|decide|omega)) rfl T.ck.m T.ck.F.kp T.ck.b .nil dQ (ae (aX a9 (pv 1) ai aK) af bJ)) af bH) aC))))
 aQ)
 (ag (bo (aH i4 (pv 2) (cp (bD (vs:=[.str "must",.str "if",.str "while"]) (by kernel_rfl))) rfl)
 (ao (aS (aF yJ (hr.mono (by first|decide|omega)) rfl T.dD.m T.dD.F.kp T.dD.b .nil dQ (ae (pv 1) af ah))))
 aQ)
 (ao (aS (cp (ae (pv 2) af ah)))))))))))),rfl,?_⟩
 walk_at "rd";refine⟨rfl,row,32,rfl,rfl,by decide,by lia,fun a ha=>?_⟩;have CL:=cU 32 row;have hsm:=mU 32 row;generalize av 32 row=ws at *;have s0:=ay.new ha (.lst (ws.map sv));have ya:(upd H a (.lst (ws.map sv))) a=some (.lst (ws.map sv)):=aj;generalize upd H a (.lst (ws.map sv))=H0 at *
 match ws,CL with
 |k::r,_=>
  have wl:∀x∈k::r,x.length<=4000000:=fun x hx=>zay (hsm x hx) (by lia);have ev:((eL (κ:=Key) [(.inr "box",.int 4),(.inr "ask",.int 2),(.inr "put",.int 3),(.inr "say",.int 2),(.inr "must",.int 4),(.inr "if",.int 4),(.inr "else",.int 1),(.inr "while",.int 4),(.inr "end",.int 1),(.inr "stop",.int 1)] (.inr (S k))).getD (.int 0))=V.int (PM.lD k):=by
   rw[<- QB,<- Hm,xZ,QC,QD,QE,Uq,SV,Hn,sZ,QF,Ho];rfl
  have ef:PM.cL (k::r)=if PM.lD k≠r.length+1 then none else if k=PM.nC then PM.Qy (k::r) else if k=PM.qU then (PM.oN (r.getD 0 [])).map .ask else if k=PM.qV then (PM.oN (r.getD 0 [])).bind fun n=>(PM.expr (r.getD 1 [])).map (.put n) else if k=PM.oO then (PM.expr (r.getD 0 [])).map .say else if k=PM.gc\/k=PM.jV\/k=PM.bY then PM.Hj (k::r) else some (.one k):=rfl
  refine bC (.of ya) (v:=sv k) (bf (j:=0) rfl) ⟨_,_,rfl,C.De,.inr (S k),rfl,a,_,rfl,.inl (.of ya),?_⟩;rw[ev,zaj,zaf];refine⟨rfl,cu (fun hc=>?_) (fun hc=>⟨by decide,qn (by rw[ef,if_pos (fun z=>hc (by rw[z]))]) H0 s0⟩)⟩;have W6:PM.lD k=r.length+1:=by have:=V.int.inj hc;lia
  rw[if_neg (fun z=>z W6)] at ef;refine⟨rfl,cu (fun h1=>?_) (fun h1=>?_)⟩
  ·have e1:=(dH xZ).mp h1;rw[if_pos e1] at ef;have l4:(k::r).length=4:=by rw[zaf,<- W6,e1];rfl
   exact⟨a,k::r,rfl,ya,wl,l4,fun z H1 s1=>qn (ef.trans z) H1 (s0.trans s1),fun fm z v H1 s1 rv=>qs fm (ef.trans z) v H1 (s0.trans s1) rv⟩
  have n1:k≠PM.nC:=fun z=>h1 ((dH xZ).mpr z);rw[if_neg n1] at ef;refine⟨rfl,cu (fun h2=>?_) (fun h2=>?_)⟩
  ·have e2:=(dH QC).mp h2;rw[if_pos e2] at ef;have l2:r.length=1:=by
    have z:PM.lD k=2:=by rw[e2];rfl
    lia
   match r,l2 with
   |[x],_=>
    refine bC (.of ya) (v:=sv x) (bf (j:=1) rfl) ⟨x,rfl,wl x (by simp),?_⟩;have Te:PM.cL [k,x]=(PM.oN x).map .ask:=ef;cases hx:PM.oN x with
    |none=>exact fun H1 s1=>qn (by rw[Te,hx];rfl) H1 (s0.trans s1)
    |some n=>
     intro H1 s1 p hp;refine qs (.ask x) (by rw[Te,hx];unfold PM.oN at hx;split at hx<;>cases hx;rfl) _ _ ((s0.trans s1).trans (ay.new hp _)) ?_;exact Rep.new hp (.cons (Rep.a8.mpr rfl) (.cons (Rep.a8.mpr rfl) .nil))
  have n2:k≠PM.qU:=fun z=>h2 ((dH QC).mpr z);rw[if_neg n2] at ef;refine⟨rfl,cu (fun h3=>?_) (fun h3=>?_)⟩
  ·have e3:=(dH QD).mp h3;rw[if_pos e3] at ef;have l3:r.length=2:=by
    have z:PM.lD k=3:=by rw[e3];rfl
    lia
   match r,l3 with
   |[x,y],_=>
    refine bC (.of ya) (v:=sv x) (bf (j:=1) rfl) ⟨x,rfl,wl x (by simp),?_⟩;have Te:PM.cL [k,x,y]=(PM.oN x).bind fun n=>(PM.expr y).map (.put n):=ef;cases hx:PM.oN x with
    |none=>exact fun H1 s1=>qn (by rw[Te,hx];rfl) H1 (s0.trans s1)
    |some n=>
     intro H1 s1;refine bC (.of (s1 _ _ ya)) (v:=sv y) (bf (j:=2) rfl) ⟨y,rfl,zay (wl y (by simp)) (by decide),?_⟩;cases hy:PM.expr y with
     |none=>exact fun H2 s2=>qn (by rw[Te,hx,hy];rfl) H2 (s0.trans (s1.trans s2))
     |some e=>
      intro v H2 s2 rv p hp;refine qs (.put x e) (by rw[Te,hx,hy];unfold PM.oN at hx;split at hx<;>cases hx;rfl) _ _ ((s0.trans (s1.trans s2)).trans (ay.new hp _)) ?_;exact Rep.new hp (.cons (Rep.a8.mpr rfl) (.cons (Rep.a8.mpr rfl) (.cons rv .nil)))
  have n3:k≠PM.qV:=fun z=>h3 ((dH QD).mpr z);rw[if_neg n3] at ef;refine⟨rfl,cu (fun h4=>?_) (fun h4=>?_)⟩
  ·have e4:=(dH QE).mp h4;rw[if_pos e4] at ef;have l2:r.length=1:=by
    have z:PM.lD k=2:=by rw[e4];rfl
    lia
   match r,l2 with
   |[x],_=>
    refine bC (.of ya) (v:=sv x) (bf (j:=1) rfl) ⟨x,rfl,zay (wl x (by simp)) (by decide),?_⟩;have Te:PM.cL [k,x]=(PM.expr x).map .say:=ef;cases hx:PM.expr x with
    |none=>exact fun H1 s1=>qn (by rw[Te,hx];rfl) H1 (s0.trans s1)
    |some e=>
     intro v H1 s1 rv p hp;refine qs (.say e) (by rw[Te,hx];rfl) _ _ ((s0.trans s1).trans (ay.new hp _)) ?_;exact Rep.new hp (.cons (Rep.a8.mpr rfl) (.cons rv .nil))
  have n4:k≠PM.oO:=fun z=>h4 ((dH QE).mpr z);rw[if_neg n4] at ef;intro p hp;have sp:=ay.new hp (.tup [V.str (zac "must"),V.str (zac "if"),V.str (zac "while")]);have iT:dF K (upd H0 p (.tup [V.str (zac "must"),V.str (zac "if"),V.str (zac "while")])) p [V.str (zac "must"),V.str (zac "if"),V.str (zac "while")]:=.of aj;have hl:([V.str (zac "must"),V.str (zac "if"),V.str (zac "while")]:List V)=[PM.gc,PM.jV,PM.bY].map sv:=by rw[Uq,SV,sZ];rfl
  generalize upd H0 p (.tup [V.str (zac "must"),V.str (zac "if"),V.str (zac "while")])=H1 at *;refine⟨p,_,rfl,.inr iT,rfl,rfl,_,rfl,?_⟩;rw[hl,in_words];by_cases hk:k=PM.gc\/k=PM.jV\/k=PM.bY
  ·have hcn:([PM.gc,PM.jV,PM.bY]:List W).contains k=true:=by rw[za0];simpa using hk
   rw[hcn,if_neg zal,if_pos rfl];rw[if_pos hk] at ef;have l4:(k::r).length=4:=by
    rw[zaf,<- W6];rcases hk with z |z |z<;>(rw[z];rfl)
   exact⟨a,k::r,rfl,sp _ _ ya,wl,l4,fun z H2 s2=>qn (ef.trans z) H2 (s0.trans (sp.trans s2)),fun fm z v H2 s2 rv=>qs fm (ef.trans z) v H2 (s0.trans (sp.trans s2)) rv⟩
  ·have hcn:([PM.gc,PM.jV,PM.bY]:List W).contains k=false:=by rw[zcb];intro z;exact hk (by rw[za0] at z;simpa using z)
   rw[hcn,if_neg zal,if_neg zal];rw[if_neg hk] at ef;intro p2 Rb;exact qs (.one k) ef _ _ ((s0.trans sp).trans (ay.new Rb _)) (Rep.new Rb (.cons (Rep.a8.mpr rfl) .nil))
theorem Rc(T:Tx K mg t){n:Nat}(iY:bu P w K mg base jh n t.iz t.ja ["e"] (qu K n)) :
 bu P w K mg base jh (n+1) t.iz t.ja ["e"] (qu K (n+1)):=by
 refine T.bL.F.uX zp (fun vs H Q E h=>?_) (fun d0 A outer s H vs Q E hr h=>?_)
 ·obtain⟨_,_,rfl,_⟩:=h;rfl
 obtain⟨v,tr,rfl,hv,op,ht,hl,q⟩:=h;have nd:=zp.nd;refine⟨_,[some v],(ag (bo (aH cC (aX cG (pv 0) ai aK) au (aT _))
 (ao (aS (aU af)))
 aQ)
 (ag (bo (aH cC (aX cG (pv 0) ai aK) au (aT _))
 (ao (aS (aU (ae (aX cG (pv 0) ai aK) af bJ))))
 aQ)
 (ao (aS (aw di (aF iY (hr.mono (by first|decide|omega)) rfl T.bL.m T.bL.F.kp T.bL.b .nil bj (ae (aX cG (pv 0) ai aK) af bJ)) (aF iY (hr.mono (by first|decide|omega)) rfl T.bL.m T.bL.F.kp T.bL.b .nil bj (ae (aX cG (pv 0) ai aK) af bJ))))))),rfl,?_⟩
 have n1:¬("box":Str) = "number":=by decide +kernel
 cases tr with
 |num m=>
  unfold mJ at hv;simp only[Rep.bV,a7.bh,a7.bE,Rep.a8,Rep.cN] at hv;obtain⟨a,xs,rfl,hS,_,_,rfl,rfl,_,_,rfl,rfl,rfl⟩:=hv;walk_at "rd";refine bI hS rfl ?_;walk_at "rd";rw[if_pos trivial];intro l Q9;exact q l _ (ay.new Q9 _) Q9 aj
 |box x=>
  unfold mJ at hv;simp only[Rep.bV,a7.bh,a7.bE,Rep.a8,Rep.cN] at hv;obtain⟨a,xs,rfl,hS,_,_,rfl,rfl,_,_,rfl,rfl,rfl⟩:=hv;walk_at "rd";refine bI hS rfl ?_;walk_at "rd";rw[if_neg n1];refine bI hS rfl ?_;walk_at "rd";rw[if_pos trivial];refine bI hS rfl fun l Q9=>?_;exact q l _ (ay.new Q9 _) Q9 aj
 |bin o l r=>
  unfold mJ at hv;simp only[Rep.bV,a7.bh,a7.bE,Rep.a8,Rep.cN] at hv;obtain⟨a,xs,rfl,hS,_,_,rfl,rfl,vl,_,rfl,hl',vr,_,rfl,Bw,rfl⟩:=hv;obtain⟨ho,ol,or'⟩:=op;have n2:¬S o = "number":=by rcases ho with rfl |rfl |rfl<;>decide +kernel
  have n3:¬S o = "box":=by rcases ho with rfl |rfl |rfl<;>decide +kernel
  have eN:PM.lC (.bin o l r)=PM.lC l++PM.lC r:=rfl;rw[eN] at q hl;rw[zae] at hl;rw[PG.A8] at ht;walk_at "rd";refine bI hS rfl ?_;walk_at "rd";rw[if_neg n2];refine bI hS rfl ?_;walk_at "rd";rw[if_neg n3];refine bI hS rfl ⟨vl,l,rfl,hl',ol,by lia,by lia,fun l1 H1 s1 f1 y1=>?_⟩;refine bI (s1.gK hS) rfl ⟨vr,r,rfl,Bw.mono s1,or',by lia,by lia,fun l2 H2 s2 f2 y2=>?_⟩;refine⟨l1,l2,_,_,rfl,rfl,s2 _ _ y1,y2,by rw[zaj,zaj];exact zay hl (by decide),fun l3 f3=>?_⟩;refine q l3 _ ((s1.trans s2).trans (ay.new f3 _)) (cn (s1.trans s2) f3) ?_;rw[aj,zas]
theorem EE(T:Tx K mg t):∀n,bu P w K mg base jh n t.iz t.ja ["e"] (qu K n)
 |0=>by
  have no:∀vs H Q E,¬qu K 0 vs H Q E:=fun vs H Q E h=>by cases h;lia
  exact⟨fun vs H Q E h=>(no vs H Q E h).elim,fun _ _ _ _ _ _ _ _ _ _ _ _ _ h=>(no _ _ _ _ h).elim⟩
 |n+1=>Rc T (EE T n)
theorem Di(T:Tx K mg t):bu P w K mg base jh 1 t.dB t.pO ["self"] (Hr K t.bt):=by
 refine T.mZ.uX vg (fun vs H Q E h=>?_) (fun d0 A outer s H vs Q E hr h=>?_)
 ·obtain⟨_,_,rfl,_⟩:=h;rfl
 obtain⟨p,dx,rfl,yp,yd,q⟩:=h;have nd:=vg.nd;refine⟨_,[some (.ref p)],(ag (AE (pv 0) (aU af) rfl)
 (ag (AE (pv 0) (aU af) rfl)
 (ao (AE (pv 0) (aU af) rfl)))),rfl,?_⟩
 walk_at "rd";intro bx fx;have n1:p≠bx:=aI yp fx;refine⟨p,_,dx,[],rfl,by rw[aq n1];exact yp,T.cg,T.dO,by decide,fun bd fb=>?_⟩;have n2:bd≠p:=fun z=>by rw[z,aj] at fb;cases fb
 have f2:upd H bx (.lst []) bd=none:=by rw[aq n2] at fb;exact fb
 have n3:bd≠bx:=fun z=>by rw[z,aj] at f2;cases f2
 have f3:H bd=none:=by rw[aq n3] at f2;exact f2
 refine⟨p,_,dx,[("boxes",.ref bx)],rfl,by rw[aq (Ne.symm n2),aj];rfl,T.cg,T.fJ,by show 1<1000;decide,fun ns fn=>?_⟩;have n4:ns≠p:=fun z=>by rw[z,aj] at fn;cases fn
 rw[aq n4] at fn;have n5:ns≠bd:=fun z=>by rw[z,aj] at fn;cases fn
 rw[aq n5,aq n4] at fn;have n6:ns≠bx:=fun z=>by rw[z,aj] at fn;cases fn
 rw[aq n6] at fn;refine⟨p,_,dx,[("boxes",.ref bx),("body",.ref bd)],rfl,by rw[aq (Ne.symm n4),aj];rfl,T.cg,T.bM,by show 2<1000;decide,?_⟩;generalize hF:upd _ p _=Hf;have up:bX p H Hf:=fun b o nb e=>by rw[<- hF,aq nb,aq (aI e fn),aq nb,aq (aI e f3),aq nb,aq (aI e fx)];exact e
 have y1:Hf bx=some (.lst []):=by rw[<- hF,aq (Ne.symm n1),aq (Ne.symm n6),aq (Ne.symm n1),aq (Ne.symm n3),aq (Ne.symm n1),aj]
 have y2:Hf bd=some (.lst []):=by rw[<- hF,aq n2,aq (Ne.symm n5),aq n2,aj]
 have y3:Hf ns=some (.lst []):=by rw[<- hF,aq n4,aj]
 have y4:Hf p=some (.ins t.bt dx [("boxes",.ref bx),("body",.ref bd),("nest",.ref ns)]):=by rw[<- hF,aj];rfl
 refine q (fun b=>b=bx\/b=bd\/b=ns) bx bd ns _ (fun b hb=>by rcases hb with rfl |rfl |rfl<;>assumption) up ?_;exact {own:=fun b hb=>by rcases hb with rfl |rfl |rfl<;>exact⟨[],by assumption,zah _⟩,Jb:=.inl rfl,RU:=.inr (.inl rfl),Ep:=.inr (.inr rfl),d1:=Ne.symm n3,d2:=Ne.symm n6,d3:=Ne.symm n5,ins:=⟨dx,y4⟩,box:=⟨[],y1,Fb.nil⟩,RV:=⟨[],y2,by simp⟩,Jc:=⟨[],y3,Fb.nil⟩,nb:=fun z=>absurd rfl z}
theorem Ae{α:Type}{l:List α}{x:α}(h:l.getLast?=some x):D4 l (-1)=some x:=by
 obtain⟨ys,e⟩:=zc0.mp h;rw[e];exact AI _ _
theorem wc(T:Tx K mg t):bu P w K mg base jh 1 t.cz t.iA ["self"] (LP K t.bt):=by
 refine T.fW.uX nN (fun vs H Q E h=>?_) (fun d0 A outer s H vs Q E hr h=>?_)
 ·obtain⟨_,_,_,_,_,_,_,rfl,_⟩:=h;rfl
 obtain⟨O,p,bx,bd,ns,d,m,rfl,dr,q⟩:=h;have nd:=nN.nd;refine⟨_,[some (.ref p)],(ag (bo (sk (dG (pv 0) rfl) (fun _=>rfl))
 (ao (aS (aX cG (aX a9 (dG (pv 0) rfl) (wB qJ ai) AM) ai aK)))
 aQ)
 (ao (aS (dG (pv 0) rfl)))),rfl,?_⟩
 walk_at "rd";obtain⟨dx,yp⟩:=dr.ins;obtain⟨us,yn,ix⟩:=dr.Jc;refine⟨p,_,dx,_,.ref ns,rfl,yp,T.cg,T.bM,rfl,_,.inl ⟨us,.of yn,rfl⟩,?_⟩;cases hk:d.df.getLast? with
 |none=>
  have ek:d.df=[]:=zbC.mp hk;have eu:us=[]:=zbb.mp (by rw[ix.1,ek];rfl);subst eu;exact⟨p,_,dx,_,.ref bd,rfl,yp,T.cg,T.fJ,rfl,q bd ⟨dr.RU,Ne.symm dr.d1,dr.d3⟩ fun _=>rfl⟩
 |some k=>
  obtain⟨u,hu,a,L,x,rfl,hS,hL,_⟩:=ix.last hk;have eu:us.isEmpty=false:=by cases us with
   |nil=>cases hu
   |cons=>rfl
  rw[eu];refine⟨p,_,dx,_,.ref ns,rfl,yp,T.cg,T.bM,rfl,1,rfl,bC (.of yn) (v:=.ref a) (Ae hu) (bI hS rfl (q L hL fun z=>?_))⟩;rw[z] at hk;cases hk
theorem zS(T:Tx K mg t):bu P w K mg base jh 1 t.bQ t.gv ["self"] (Hq K t.bt):=by
 refine T.eI.uX lE (fun vs H Q E h=>?_) (fun d0 A outer s H vs Q E hr h=>?_)
 ·obtain⟨_,_,_,_,_,_,_,rfl,_⟩:=h;rfl
 obtain⟨O,p,bx,bd,ns,d,m,rfl,dr,q1,q2⟩:=h;have nd:=lE.nd;refine⟨_,[some (.ref p)],(ag (bo (sk (dG (pv 0) rfl) (fun _=>rfl))
 (ao (aS (aX cG (aX a9 (dG (pv 0) rfl) (wB qJ ai) AM) ai aK)))
 aQ)
 (ao (aS An))),rfl,?_⟩
 walk_at "rd";obtain⟨dx,yp⟩:=dr.ins;obtain⟨us,yn,ix⟩:=dr.Jc;refine⟨p,_,dx,_,.ref ns,rfl,yp,T.cg,T.bM,rfl,_,.inl ⟨us,.of yn,rfl⟩,?_⟩;cases hk:d.df.getLast? with
 |none=>
  have ek:d.df=[]:=zbC.mp hk;have eu:us=[]:=zbb.mp (by rw[ix.1,ek];rfl);subst eu;exact q2 (by rw[hk];intro z;cases z)
 |some k=>
  obtain⟨u,hu,a,L,x,rfl,hS,hL,hx⟩:=ix.last hk;have eu:us.isEmpty=false:=by cases us with
   |nil=>cases hu
   |cons=>rfl
  rw[eu];refine⟨p,_,dx,_,.ref ns,rfl,yp,T.cg,T.bM,rfl,1,rfl,bC (.of yn) (v:=.ref a) (Ae hu) (bI hS rfl ?_)⟩;cases k with
  |true=>
   obtain⟨L2,rfl,h2⟩:=hx;exact q1 hk L2 h2
  |false=>
   cases (show x=.eB from hx);exact q2 (by rw[hk];intro z;cases z)
theorem t6(T:Tx K mg t):bu P w K mg base jh 1 t.cA t.iB ["self"] (Bn K t.bt):=by
 refine T.fX.uX nQ (fun vs H Q E h=>?_) (fun d0 A outer s H vs Q E hr h=>?_)
 ·obtain⟨_,_,_,_,_,_,_,rfl,_⟩:=h;rfl
 obtain⟨O,p,bx,bd,ns,d,m,rfl,dr,lm,q⟩:=h;have nd:=nQ.nd;refine⟨_,[some (.ref p)],(ao (aS (uy (own:=["box"]) (ix:=[]) rfl (by rfl) (by rfl) (qH (dG (pv 0) rfl)) (fun _ _ _ _=>(cF (i:=0) (by show List.Nodup (["box"]:List Str);decide +kernel) rfl (zan rfl))) (fun _ _ _ _=>qN) (fun _ _ _ _=>(aX (Lx (K:=K) rfl) (pv 0) ai aK))))),rfl,?_⟩;walk_at "rd";obtain⟨dx,yp⟩:=dr.ins;obtain⟨us,yb,ix⟩:=dr.box;have lu:us.length<=m:=by
  obtain⟨zs,e,l⟩:=dr.own _ dr.Jb;rw[yb] at e;cases e;exact l
 refine⟨p,_,dx,_,.ref bx,rfl,yp,T.cg,T.dO,rfl,?_⟩;refine⟨bx,rfl,⟨us,.of yb⟩,fun D hD=>?_⟩;refine Eh (K:=K) (fun i=>sv (d.w6.getD i [])) (.of yb) (by lia) hD (fun i x H2 hx s2 R hR=>?_) (fun H2 s2 y2=>q D H2 s2 hD ?_)
 ·have li:i<us.length:=(zar.mp hx).1;have li2:i<d.w6.length:=by rw[<- ix.1];exact li
  obtain⟨a,r,rfl,hS⟩:=ix.2 i d.w6[i] x (zag li2) hx;walk_at "rd";refine bI (s2.gK hS) (v:=sv d.w6[i]) (bf (j:=0) rfl) ?_;rw[zaz,zag li2] at hR;exact hR
 ·rw[y2]
  congr 2
  refine List.ext_getElem (by simp[ix.1]) fun i h1 h2=>?_;simp at h1 h2 ⊢;rw[zag h2];rfl
def Rf (t:Ad):PM.Er->zdP
 |.nD=>t.aD
 |.uD=>t.aA
 |.w5=>t.az
 |.Ag=>t.aB
 |.uE=>t.ar
 |.twice=>t.aN
 |.Hk=>t.aW
 |.full=>t.aV
 |.LN=>t.aO
def WA:Sp:=fun vs H Q _=>∃a b:Int,vs=[.int a,.int b]/\Q (.bl (decide (2<=a/\a<=10/\b<a))) H
theorem B9(T:Tx K mg t):bu P w K mg base jh 1 t.hX t.jt ["size", "first"] WA:=by
 refine T.fG.F.uX tO (fun vs H Q E h=>?_) (fun d0 A outer s H vs Q E hr h=>?_)
 ·obtain⟨_,_,rfl,_⟩:=h;rfl
 obtain⟨a,b,rfl,q⟩:=h;have nd:=tO.nd;obtain⟨Tf,FE,FF⟩:=T.Dd;obtain⟨Uy,HU,HV⟩:=T.Fw;refine⟨_,[some (.int a),some (.int b)],(ao (aS (Aq (Az Ax Ax (cq rfl FE FF) (pv 0) (cq rfl HU HV)) (EK (mQ Aw (pv 1) (pv 0) (aT _)))))),rfl,?_⟩;walk_at "rd";by_cases h1:2<=a
 ·rw[if_pos h1];by_cases h2:a<=10
  ·rw[if_pos h2];have e:decide (2<=a/\a<=10/\b<a)=decide (b<a):=by simp[h1,h2]
   rw[e] at q;exact q
  ·rw[if_neg h2];rw[decide_eq_false (fun z=>h2 z.2.1)] at q;exact q
 ·rw[if_neg h1,if_neg zal];rw[decide_eq_false (fun z=>h1 z.1)] at q;exact q
theorem HW(T:Tx K mg t):bu P w K mg base (m6 P w) 2 t.nV t.o9 ["draft", "number", "box"] (LQ K t.bt (Rf t)):=by
 have Dj:=B9 (P:=P) (w:=w) (base:=base) T;have jS:=t6 (P:=P) (w:=w) (base:=base) T;refine T.kc.F.Gg zv (fun vs H Q E h=>?_) (fun d0 A outer s H vs Q E hr h=>?_)
 ·obtain⟨_,_,_,_,_,_,_,_,_,_,_,_,rfl,_⟩:=h;rfl
 obtain⟨O,p,bx,bd,ns,d,m,k,v,n,a,b,rfl,dr,lm,lk,rv,q⟩:=h;have nd:=zv.nd;obtain⟨Th,FG,FI⟩:=T.Dc;refine⟨_,[some (.ref p),some (.int k),some v],(ag (bo (sk (dG (pv 0) rfl) (fun _=>rfl))
 (ao (cH dS T.qz rfl T.rk rfl (ae (oY (.cons au (.cons (wZ (pv 1)) (.cons au .nil)))) af oQ)))
 aQ)
 (ag (bo (EJ (Ap (aF Dj (hr.mono (by first|decide|omega)) rfl T.fG.m T.fG.F.kp T.fG.b .nil bj (ae (aX cG (pv 2) ai aK) (ae (aX cG (pv 2) ai aK) af bJ) bJ))))
 (ao (cH dS T.tU rfl T.xq rfl (ae (oY (.cons au (.cons (wZ (pv 1)) (.cons au .nil)))) af oQ)))
 aQ)
 (ag (bo (aH i4 (aX cG (pv 2) ai aK) (eK (pv 0) T.cg T.pq jS (hr.mono (by first|decide|omega)) T.pj .nil bj) rfl)
 (ao (cH dS T.Fl rfl T.HJ rfl (ae (oY (.cons au (.cons (wZ (pv 1)) (.cons au .nil)))) af oQ)))
 aQ)
 (ag (bo (aH cC (bb bq rfl T.eY PyProof.Rows.Boot.«len» (ae (dG (pv 0) rfl) af wJ)) (cq rfl FG FI) (aT _))
 (ao (cH dS T.Kc rfl T.L8 rfl (ae (oY (.cons au (.cons (wZ (pv 1)) (.cons au .nil)))) af oQ)))
 aQ)
 (ao (cP (jk zaF zaL zaM cZ (dG (pv 0) rfl) (ae (pv 2) af ah)))))))),rfl,?_⟩
 walk_at "rd";obtain⟨dx,yp⟩:=dr.ins;obtain⟨ys,yb,hb⟩:=dr.RV;simp only[Rep.bV,a7.bh,a7.bE,Rep.a8,Rep.cN] at rv;obtain⟨va,xs,rfl,hS,_,_,rfl,rfl,_,_,rfl,rfl,_,_,rfl,rfl,rfl⟩:=rv;refine⟨p,_,dx,_,.ref bd,rfl,yp,T.cg,T.fJ,rfl,_,.inl ⟨ys,.of yb,rfl⟩,?_⟩;unfold PM.Qz at q;cases Rh:d.Of with
 |true=>
  have e:ys.isEmpty=false:=by
   cases ys with
   |nil=>exact absurd (hb.mp rfl) (by rw[Rh];decide)
   |cons=>rfl
  rw[e,if_pos (show (!false)=true from rfl)];rw[Rh] at q;exact vO lk (by decide) (by decide) (q H bK.refl)
 |false=>
  cases hb.mpr Rh;rw[Rh,if_neg zal] at q;rw[if_neg (show ¬(!([]:List V).isEmpty)=true by decide)];refine bI hS (v:=.int a) (bf (j:=1) rfl) (bI hS (v:=.int b) (bf (j:=2) rfl) ⟨a,b,rfl,_,rfl,?_⟩);by_cases hm:2<=a/\a<=10/\b<a
  ·rw[decide_eq_true hm,if_neg (show ¬(!true)=true by decide)];rw[if_neg (fun z=>z hm)] at q;refine bI hS (v:=sv n) (bf (j:=0) rfl) ?_;refine⟨p,dx,_,rfl,yp,rfl,O,p,bx,bd,ns,d,m,rfl,dr,lm,fun l H2 s2 fl yl=>?_⟩;refine⟨l,_,rfl,.inl (.of yl),rfl,by rw[zdM];exact za4.mpr fun _ _=>rfl,_,rfl,?_⟩;rw[if_neg zal,in_words];have u2:bK O H H2:=.of s2;by_cases hn:n∈d.w6
   ·rw[if_pos hn] at q;rw[if_pos (za0.mpr hn)];exact vO lk (by decide) (by decide) (q H2 u2)
   rw[if_neg hn] at q;rw[if_neg (fun z=>hn (za0.mp z))];have Xp:=dr.mono s2;obtain⟨us,yx,ix⟩:=Xp.box;have lu:us.length<=m:=by
    obtain⟨zs,e,l⟩:=Xp.own _ dr.Jb;rw[yx] at e;cases e;exact l
   refine⟨p,_,dx,_,.ref bx,rfl,s2 _ _ yp,T.cg,T.dO,rfl,bx,us,rfl,.inl (.of yx),?_⟩;rw[ix.1];by_cases h4:d.w6.length=4
   ·rw[if_pos h4] at q;rw[if_pos (by rw[h4];rfl)];exact vO lk (by decide) (by decide) (q H2 u2)
   rw[if_neg h4] at q;rw[if_neg (fun z=>h4 (by lia))];have line:zdX=2 ^ 24:=rfl;refine⟨p,_,dx,_,.ref bx,rfl,s2 _ _ yp,T.cg,T.dO,rfl,.inl ⟨rfl,_,.of yx⟩,bx,us,.ref va,rfl,rfl,yx,by lia,?_⟩;refine q O _ (fun b z=>.inl z) (u2.put dr.Jb _) ?_;have z:=(Xp.boxed yx (n:=n) (x:=.ref va) ⟨va,_,rfl,s2.gK hS⟩).more (k:=m+2) (by lia);rw[Rh] at z;exact z
  ·rw[decide_eq_false hm,if_pos (show (!false)=true from rfl)];rw[if_pos hm] at q;exact vO lk (by decide) (by decide) (q H bK.refl)
theorem HX(T:Tx K mg t):bu P w K mg base (m6 P w) 2 t.nW t.pd ["draft", "number"] (Bo K t.bt (Rf t) PM.C5):=by
 refine T.kf.F.Gg zw (fun vs H Q E h=>?_) (fun d0 A outer s H vs Q E hr h=>?_)
 ·obtain⟨_,_,_,_,_,_,_,_,rfl,_⟩:=h;rfl
 obtain⟨O,p,bx,bd,ns,d,m,k,rfl,dr,lm,lk,q⟩:=h;have nd:=zw.nd;refine⟨_,[some (.ref p),some (.int k)],(ag (bo (EJ (sk (dG (pv 0) rfl) (fun _=>rfl)))
 (ao (cH dS T.qz rfl T.rk rfl (ae (oY (.cons au (.cons (wZ (pv 1)) (.cons au .nil)))) af oQ)))
 aQ)
 (ao (cP (Ju zaF zcl zcm Jw (dG (pv 0) rfl))))),rfl,?_⟩
 walk_at "rd";obtain⟨dx,yp⟩:=dr.ins;obtain⟨us,yn,ix⟩:=dr.Jc;have lu:us.length<=m:=by
  obtain⟨zs,e,l⟩:=dr.own _ dr.Ep;rw[yn] at e;cases e;exact l
 refine⟨p,_,dx,_,.ref ns,rfl,yp,T.cg,T.bM,rfl,_,.inl ⟨us,.of yn,rfl⟩,?_⟩;unfold PM.C5 at q;cases hk:d.df.getLast? with
 |none=>
  have ek:d.df=[]:=zbC.mp hk;have eu:us=[]:=zbb.mp (by rw[ix.1,ek];rfl);subst eu;rw[if_pos ek] at q;rw[if_pos (show (!(!([]:List V).isEmpty))=true from rfl)];exact vO lk (by decide) (by decide) (q H bK.refl)
 |some b=>
  obtain⟨u,hu,fu⟩:=ix.last hk;have ek:d.df≠[]:=fun z=>by rw[z] at hk;cases hk
  rw[if_neg ek] at q;have ee:us.isEmpty=false:=by cases us with
   |nil=>cases hu
   |cons=>rfl
  rw[ee,if_neg (show ¬(!(!false))=true by decide)];refine⟨p,_,dx,_,.ref ns,rfl,yp,T.cg,T.bM,rfl,.inl ⟨rfl,_,.of yn⟩,ns,us,u,rfl,rfl,yn,by rw[<- zbf];exact hu,?_⟩;refine q O _ (fun b z=>.inl z) (bK.refl.put dr.Ep _) ?_;exact(dr.lV (fun _ z=>z) (fun _ z=>.inl z) (by rw[za1];lia) ix.drop (fun _=>dr.nb ek)).more (by lia)
theorem FJ(T:Tx K mg t):bu P w K mg base (m6 P w) 2 t.lG t.mW ["draft", "number"] (Bo K t.bt (Rf t) PM.sY):=by
 have uP:=zS (P:=P) (w:=w) (base:=base) T;refine T.jf.F.Gg xh (fun vs H Q E h=>?_) (fun d0 A outer s H vs Q E hr h=>?_)
 ·obtain⟨_,_,_,_,_,_,_,_,rfl,_⟩:=h;rfl
 obtain⟨O,p,bx,bd,ns,d,m,k,rfl,dr,lm,lk,q⟩:=h;have nd:=xh.nd;refine⟨_,[some (.ref p),some (.int k),none],(ag (aM (i:=2) nd rfl (zan rfl) (eK (pv 0) T.cg T.uO uP (hr.mono (by first|decide|omega)) T.uN .nil bj))
 (ag (bo (aH Vf (pv 2) An (aT _))
 (ao (cH dS T.qz rfl T.rk rfl (ae (oY (.cons au (.cons (wZ (pv 1)) (.cons au .nil)))) af oQ)))
 aQ)
 (ag (cP (Ju zaF zcl zcm Jw (dG (pv 0) rfl)))
 (ao (cP (jk zaF zaL zaM cZ (dG (pv 0) rfl) (ae (cp (ae (pv 2) (ae An af aC) ah)) af fK))))))),rfl,?_⟩
 walk_at "rd";obtain⟨dx,yp⟩:=dr.ins;obtain⟨us,yn,ix⟩:=dr.Jc;have lu:us.length<=m:=by
  obtain⟨zs,e,l⟩:=dr.own _ dr.Ep;rw[yn] at e;cases e;exact l
 refine⟨p,dx,_,rfl,yp,rfl,O,p,bx,bd,ns,d,m,rfl,dr,fun hk L hL=>?_,fun hk=>?_⟩
 ·unfold PM.sY at q;rw[if_pos hk] at q;obtain⟨u,hu,fu⟩:=ix.last hk;have ek:d.df≠[]:=fun z=>by rw[z] at hk;cases hk
  have line:zdX=2 ^ 24:=rfl;rw[if_neg (fun z=>by cases z)];refine⟨p,_,dx,_,.ref ns,rfl,yp,T.cg,T.bM,rfl,.inl ⟨rfl,_,.of yn⟩,ns,us,u,rfl,rfl,yn,by rw[<- zbf];exact hu,?_⟩;have dr1:=dr.lV (fun _ z=>z) (fun _ z=>.inl z) (us:=us.dropLast) (by rw[za1];lia) ix.drop (fun _=>dr.nb ek);have u1:bK O H (upd H ns (.lst us.dropLast)):=bK.refl.put dr.Ep _;have yp1:(upd H ns (.lst us.dropLast)) p=some (.ins t.bt dx [("boxes",.ref bx),("body",.ref bd),("nest",.ref ns)]):=by rw[aq (dr.YR dr.Ep)];exact yp
  have yn1:(upd H ns (.lst us.dropLast)) ns=some (.lst us.dropLast):=aj;generalize upd H ns (.lst us.dropLast)=H1 at *;refine⟨p,_,dx,_,.ref ns,rfl,yp1,T.cg,T.bM,rfl,.inl ⟨rfl,_,.of yn1⟩,fun g hg=>?_⟩;have sg:=ay.new hg (.tup [V.ref L,V.eB]);have ig:dF K (upd H1 g (.tup [V.ref L,V.eB])) g [V.ref L,V.eB]:=.of aj;have u2:=u1.new hg (.tup [V.ref L,V.eB]);generalize upd H1 g (.tup [V.ref L,V.eB])=H2 at *;have Xp:=dr1.mono sg;obtain⟨us2,y2,ix2⟩:=Xp.Jc;rw[sg _ _ yn1] at y2;cases y2;refine⟨ns,us.dropLast,.ref g,rfl,rfl,sg _ _ yn1,by rw[za1];lia,?_⟩;refine q O _ (fun b z=>.inl z) (u2.put dr.Ep _) ?_;exact Xp.lV (fun _ z=>z) (fun _ z=>.inl z) (by rw[zae,za1,zaw];lia) (ix2.snoc ⟨g,L,.eB,rfl,ig,hL,rfl⟩) (fun _=>dr.nb ek)
 ·unfold PM.sY at q;rw[if_neg hk] at q;rw[if_pos rfl];exact vO lk (by decide) (by decide) (q H bK.refl)
theorem Dl(T:Tx K mg t):bu P w K mg base jh 1 t.ju t.kQ ["word"] QH:=by
 refine T.gR.F.uX u6 (fun vs H Q E h=>?_) (fun d0 A outer s H vs Q E hr h=>?_)
 ·obtain⟨_,rfl,_⟩:=h;rfl
 obtain⟨k,rfl,q⟩:=h;have nd:=u6.nd;refine⟨_,[some (sv k)],(ag (bo (aH cC (pv 0) au (aT _))
 (ao (aS (aU (ae (aU af) (ae (aU af) af sF) sF))))
 aQ)
 (ag (bo (aH cC (pv 0) au (aT _))
 (ao (aS (aU (ae (aU af) af sF))))
 aQ)
 (ao (aS (aU af))))),rfl,?_⟩
 walk_at "rd";refine⟨rfl,cu (fun h1=>?_) (fun h1=>?_)⟩
 ·have e1:=(dH SV).mp h1;intro b f1 c f2 l f3;have s1:=ay.new f1 (.lst []);have s2:=ay.new f2 (.lst []);have s3:=ay.new f3 (.lst [V.ref b,V.ref c]);have y1:(upd H b (.lst [])) b=some (.lst []):=aj;have y2:(upd (upd H b (.lst [])) c (.lst [])) c=some (.lst []):=aj;refine q [b,c] l _ (s1.trans (s2.trans s3)) (cn (s1.trans s2) f3) aj (by unfold YS;rw[if_pos e1];rfl) fun x hx=>?_;rcases zai.mp hx with rfl |hx
  ·exact⟨f1,s3 _ _ (s2 _ _ y1)⟩
  ·cases zad.mp hx;exact⟨cn s1 f2,s3 _ _ y2⟩
 have n1:k≠PM.jV:=fun z=>h1 ((dH SV).mpr z);refine⟨rfl,cu (fun h2=>?_) (fun h2=>?_)⟩
 ·have e2:=(dH sZ).mp h2;intro b f1 l f3;have s1:=ay.new f1 (.lst []);have s3:=ay.new f3 (.lst [V.ref b]);have y1:(upd H b (.lst [])) b=some (.lst []):=aj;refine q [b] l _ (s1.trans s3) (cn s1 f3) aj (by unfold YS;rw[if_neg n1,if_pos e2];rfl) fun x hx=>?_;cases zad.mp hx;exact⟨f1,s3 _ _ y1⟩
 have n2:k≠PM.bY:=fun z=>h2 ((dH sZ).mpr z);intro l f3;exact q [] l _ (ay.new f3 _) f3 aj (by unfold YS;rw[if_neg n1,if_neg n2];rfl) fun x hx=>by cases hx
theorem yK(T:Tx K mg t):bu P w K mg base jh 61 t.fz t.gO ["form"] (Hs K):=by
 have iY:=EE (P:=P) (w:=w) (base:=base) T 60;refine T.dW.F.uX qw (fun vs H Q E h=>?_) (fun d0 A outer s H vs Q E hr h=>?_)
 ·obtain⟨_,_,rfl,_⟩:=h;rfl
 obtain⟨v,f,rfl,rv,Jd,q⟩:=h;have nd:=qw.nd;refine⟨_,[some v,none],(ag (aM (i:=1) nd rfl (zan rfl) (aX cG (pv 0) ai aK))
 (ag (bo (aH cC (pv 1) au (aT _))
 (ao (aS (aU (ae (aX cG (pv 0) ai aK) af bJ))))
 aQ)
 (ag (bo (aH cC (pv 1) au (aT _))
 (ao (aS (aw di (aU (ae (aX cG (pv 0) ai aK) af bJ)) (aF iY (hr.mono (by first|decide|omega)) rfl T.bL.m T.bL.F.kp T.bL.b .nil bj (ae (aX cG (pv 0) ai aK) af bJ)))))
 aQ)
 (ag (bo (aH cC (pv 1) au (aT _))
 (ao (aS (aF iY (hr.mono (by first|decide|omega)) rfl T.bL.m T.bL.F.kp T.bL.b .nil bj (ae (aX cG (pv 0) ai aK) af bJ))))
 aQ)
 (ag (bo (aH cC (pv 1) au (aT _))
 (ao (aS (aU af)))
 aQ)
 (ao (aS (aw di (aF iY (hr.mono (by first|decide|omega)) rfl T.bL.m T.bL.F.kp T.bL.b .nil bj (ae (aX cG (pv 0) ai aK) af bJ)) (aF iY (hr.mono (by first|decide|omega)) rfl T.bL.m T.bL.F.kp T.bL.b .nil bj (ae (aX cG (pv 0) ai aK) af bJ)))))))))),rfl,?_⟩
 have line:zdX=2 ^ 24:=rfl;walk_at "rd";cases f with
 |box n a b=>exact Jd.elim
 |ask n=>
  unfold Hl at rv;simp only[Rep.bV,a7.bh,a7.bE,Rep.a8] at rv;obtain⟨a,xs,rfl,hS,_,_,rfl,rfl,_,_,rfl,rfl,rfl⟩:=rv;refine bI hS rfl ⟨rfl,?_⟩;rw[if_pos rfl];exact bI hS rfl fun l fl=>q l _ (ay.new fl _) fl aj
 |put n e=>
  unfold Hl at rv;simp only[Rep.bV,a7.bh,a7.bE,Rep.a8] at rv;obtain⟨a,xs,rfl,hS,_,_,rfl,rfl,_,_,rfl,rfl,ve,_,rfl,re,rfl⟩:=rv;obtain⟨_,o1,o2,o3⟩:=Jd;refine bI hS rfl ⟨rfl,?_⟩;rw[if_neg (by decide +kernel)];refine⟨rfl,?_⟩;rw[if_pos rfl];refine bI hS rfl fun l1 f1=>?_;have s1:=ay.new f1 (.lst [V.str (S n)]);have y1:(upd H l1 (.lst [V.str (S n)])) l1=some (.lst [V.str (S n)]):=aj;generalize upd H l1 (.lst [V.str (S n)])=H1 at *;refine bI (s1.gK hS) rfl ⟨ve,e,rfl,re.mono s1,o1,o2,by lia,fun l2 H2 s2 f2 y2=>?_⟩;refine⟨l1,l2,_,_,rfl,rfl,s2 _ _ y1,y2,by rw[zaj];show 1+_<=_;lia,fun l3 f3=>?_⟩;exact q l3 _ ((s1.trans s2).trans (ay.new f3 _)) (cn (s1.trans s2) f3) aj
 |say e=>
  unfold Hl at rv;simp only[Rep.bV,a7.bh,a7.bE,Rep.a8] at rv;obtain⟨a,xs,rfl,hS,_,_,rfl,rfl,ve,_,rfl,re,rfl⟩:=rv;obtain⟨o1,o2,o3⟩:=Jd;refine bI hS rfl ⟨rfl,?_⟩;rw[if_neg (by decide +kernel)];refine⟨rfl,?_⟩;rw[if_neg (by decide +kernel)];refine⟨rfl,?_⟩;rw[if_pos rfl];exact bI hS rfl ⟨ve,e,rfl,re,o1,o2,by lia,q⟩
 |one k=>
  unfold Hl at rv;simp only[Rep.bV,a7.bh,a7.bE,Rep.a8] at rv;obtain⟨a,xs,rfl,hS,_,_,rfl,rfl,rfl⟩:=rv;cases (show k=PM.dw from Jd);rw[<- Ho] at hS;refine bI hS rfl ⟨rfl,?_⟩;rw[if_neg (by decide +kernel)];refine⟨rfl,?_⟩;rw[if_neg (by decide +kernel)];refine⟨rfl,?_⟩;rw[if_neg (by decide +kernel)];refine⟨rfl,?_⟩;rw[if_pos rfl];exact fun l fl=>q l _ (ay.new fl _) fl aj
 |cond k sg x y=>
  unfold Hl at rv;simp only[Rep.bV,a7.bh,a7.bE,Rep.a8] at rv;obtain⟨a,xs,rfl,hS,_,_,rfl,rfl,_,_,rfl,rfl,vx,_,rfl,rx,vy,_,rfl,ry,rfl⟩:=rv;obtain⟨hk,⟨o1,o2,o3⟩,p1,p2,p3⟩:=Jd;have no:∀ {z:Str} {u:W},z=S u->u≠PM.gc->u≠PM.jV->u≠PM.bY->¬V.str (S k)=V.str z:=fun e a b c q=>by
   have:=(dH (k:=k) e).mp q;rcases hk with h |h |h<;>rw[h] at this
   ·exact a this.symm
   ·exact b this.symm
   ·exact c this.symm
  refine bI hS rfl ⟨rfl,?_⟩;rw[if_neg (no QC (by decide) (by decide) (by decide))];refine⟨rfl,?_⟩;rw[if_neg (no QD (by decide) (by decide) (by decide))];refine⟨rfl,?_⟩;rw[if_neg (no QE (by decide) (by decide) (by decide))];refine⟨rfl,?_⟩;rw[if_neg (no Ho (by decide) (by decide) (by decide))];refine bI hS rfl ⟨vx,x,rfl,rx,o1,o2,by lia,fun l1 H1 s1 f1 y1=>?_⟩;refine bI (s1.gK hS) rfl ⟨vy,y,rfl,ry.mono s1,p1,p2,by lia,fun l2 H2 s2 f2 y2=>?_⟩;refine⟨l1,l2,_,_,rfl,rfl,s2 _ _ y1,y2,by rw[zaj,zaj];lia,fun l3 f3=>?_⟩;refine q l3 _ ((s1.trans s2).trans (ay.new f3 _)) (cn (s1.trans s2) f3) ?_;rw[aj,<- zas];rfl
theorem xw(T:Tx K mg t):bu P w K mg base (m6 P w) 62 t.eS t.fV ["draft", "number", "form"] (LR K t.bt (Rf t) PM.Wl PM.rY):=by
 have jS:=t6 (P:=P) (w:=w) (base:=base) T;have xx:=wc (P:=P) (w:=w) (base:=base) T;have zT:=yK (P:=P) (w:=w) (base:=base) T;have FK:=Dl (P:=P) (w:=w) (base:=base) T;refine T.dE.F.Gg o5 (fun vs H Q E h=>?_) (fun d0 A outer s H vs Q E hr h=>?_)
 ·obtain⟨_,_,_,_,_,_,_,_,_,_,rfl,_⟩:=h;rfl
 obtain⟨O,p,bx,bd,ns,d,m,k,v,f,rfl,dr,lm,lk,rv,Jd,q⟩:=h;have nd:=o5.nd;obtain⟨Uz,HY,HZ⟩:=T.Fv;refine⟨_,[some (.ref p),some (.int k),some v,none,none,none,none],(ag (aM (i:=3) nd rfl (zan rfl) (aX cG (pv 2) ai aK))
 (ag (bo (PW.pt (pw_and (aH i4 (pv 3) (cp (bD (vs:=[.str "if",.str "while"]) (by kernel_rfl))) rfl) (pw_and1 (aH cC (bb bq rfl T.eY PyProof.Rows.Boot.«len» (ae (dG (pv 0) rfl) af wJ)) (cq rfl HY HZ) (aT _)))))
 (ao (cH dS T.yy rfl T.BJ rfl (ae (oY (.cons au (.cons (wZ (pv 1)) (.cons au .nil)))) af oQ)))
 aQ)
 (ag (aM (i:=4) nd rfl (zan rfl) (eK (pv 0) T.cg T.pq jS (hr.mono (by first|decide|omega)) T.pj .nil bj))
 (ag (si Sr rfl (qH (aF zT (hr.mono (by first|decide|omega)) rfl T.dW.m T.dW.F.kp T.dW.b .nil bj (ae (pv 2) af ah))) (cF (i:=5) nd rfl (zan rfl))
 (ao (bo (aH mS (pv 5) (pv 4) rfl)
 (ao (cH dS T.Fn rfl T.HL rfl (ae (oY (.cons au (.cons (wZ (pv 1)) (.cons au (.cons (wZ (pv 5)) (.cons au .nil)))))) af oQ)))
 aQ)))
 (ag (aM (i:=6) nd rfl (zan rfl) (aF FK (hr.mono (by first|decide|omega)) rfl T.gR.m T.gR.F.kp T.gR.b .nil bj (ae (pv 3) af ah)))
 (ag (cP (jk zaF zaL zaM cZ (eK (pv 0) T.cg T.xo xx (hr.mono (by first|decide|omega)) T.xn .nil bj) (ae (aw K7 (aw K7 (cp (ae (pv 3) (ae (pv 1) af ah) ah)) (d4 Jr (pv 2) (fS ai) fQ)) (gJ CV rfl T.Fx PyProof.Rows.Boot.«tuple» (ae (pv 6) af ah))) af cm)))
 (ao (bo (aH cC (pv 3) au (aT _))
 (ao (cP (jk zaF zaL zaM cZ (dG (pv 0) rfl) (ae (cp (ae (aX a9 (pv 6) ai aK) (ae (aX a9 (pv 6) ai aK) af bJ) bJ)) af fK))))
 (ao (bo (aH cC (pv 3) au (aT _))
 (ao (cP (jk zaF zaL zaM cZ (dG (pv 0) rfl) (ae (cp (ae (aX a9 (pv 6) ai aK) (ae An af aC) bJ)) af fK))))
 aQ)))))))))),rfl,?_⟩
 have line:zdX=2 ^ 24:=rfl;obtain⟨va,ys,rfl,hS,ly⟩:=Es rv;obtain⟨dx,yp⟩:=dr.ins;obtain⟨us,yn,ix⟩:=dr.Jc;have lu:us.length<=m:=by
  obtain⟨zs,e,l⟩:=dr.own _ dr.Ep;rw[yn] at e;cases e;exact l
 refine aG fun U1 rZ=>?_;walk_at "rd";refine bI hS (v:=sv (Bp f)) (bf (j:=0) rfl) ((rZ _ _).mpr (aG fun U2 rP=>?_));clear rZ;have ow:=QI Jd;unfold PM.rY at q;have rest:∀H1,ay H H1->¬((PM.opens f).isSome/\d.df.length=5)->U2 [some (.ref p),some (.int k),some (.ref va),some (sv (Bp f)),none,none,none] H1:=by
  intro H1 s1 nd5;rw[if_neg nd5] at q;refine(rP _ _).mpr (aG fun U3 vk=>?_);clear rP;walk_at "rd";refine⟨p,dx,_,rfl,s1 _ _ yp,rfl,O,p,bx,bd,ns,d,m,rfl,dr.mono s1,lm,fun nl H2 s2 f2 y2=>?_⟩;refine(vk _ _).mpr (aG fun U4 zB=>?_);clear vk;walk_at "rd";have Nr:=s1.trans s2;refine⟨.ref va,f,rfl,rv.mono Nr,Jd,fun l H3 s3 f3 y3=>⟨l,rfl,⟨_,.of y3⟩,Au (K:=K) (a:=l) (xs:=(PM.E8 f).map sv) (fun i σ H4=>∃x:Option V,σ=[some (.ref p),some (.int k),some (.ref va),some (sv (Bp f)),some (.ref nl),x,none]/\ay H3 H4/\∀n∈(PM.E8 f).take i,n∈d.w6) ⟨none,rfl,ay.refl _,fun n hn=>by cases hn⟩ (fun i σ H4 _ z=>by obtain⟨_,_,s4,_⟩:=z;exact .of (s4 _ _ y3)) ?_ ?_⟩⟩
  ·intro i x σ H4 hx z;obtain⟨x0,rfl,s4,RO⟩:=z;rw[zaE] at hx;obtain⟨n,hn,rfl⟩:=zbd.mp hx;have hi:i<(PM.E8 f).length:=(zar.mp hn).1;have Y5:n∈PM.E8 f:=zbj hn;walk_at "rd";refine⟨nl,_,rfl,.inl (.of (s4 _ _ (s3 _ _ y2))),rfl,by rw[zdM];exact za4.mpr fun _ _=>rfl,_,rfl,?_⟩;rw[if_pos rfl,in_words];by_cases hc:n∈d.w6
   ·rw[if_neg (by rw[za0.mpr hc];decide)];refine⟨_,rfl,s4,fun y hy=>?_⟩;rw[zbk hi] at hy;rcases zam.mp hy with z |z
    ·exact RO y z
    ·have e:=zad.mp z;rw[(zar.mp hn).2] at e;rw[e];exact hc
   ·have hf:d.w6.contains n=false:=by rw[zcb];intro z;exact hc (za0.mp z)
    rw[if_pos (by rw[hf];rfl)];rw[if_neg (fun z=>hc (z n Y5))] at q;have hl8:=nF (J0 Jd n Y5);refine Wq (n:=S n) lk (by decide) (by decide) (by decide) (by rw[bZ];lia) (fun _ _ z=>z) (fun _ _ z=>z) (q H4 (.of (Nr.trans (s3.trans s4))))
  ·intro σ H4 z;obtain⟨x0,rfl,s4,RO⟩:=z;rw[zaj,zbz] at RO;rw[if_pos RO] at q;have Xq:=Nr.trans (s3.trans s4);refine(zB _ _).mpr (aG fun U5 FL=>?_);clear zB;walk_at "rd";refine⟨Bp f,rfl,fun bs bl H5 s5 f5 y5 lb hb=>?_⟩;refine(FL _ _).mpr (aG fun U6 Je=>?_);clear FL;walk_at "rd";have UA:=Xq.trans s5;refine⟨p,dx,_,rfl,UA _ _ yp,rfl,O,p,bx,bd,ns,d,m,rfl,dr.mono UA,fun L hL hd=>?_⟩;have dr5:=dr.mono UA;obtain⟨zs,yL,lz⟩:=dr5.own L hL.1;refine⟨.inl ⟨rfl,_,.of yL⟩,fun g1 h1=>⟨1,rfl,?_⟩⟩;have s6:=ay.new h1 (.tup [sv (Bp f),V.int k]);have i6:dF K (upd H5 g1 (.tup [sv (Bp f),V.int k])) g1 [sv (Bp f),V.int k]:=.of aj;generalize upd H5 g1 (.tup [sv (Bp f),V.int k])=H6 at *;refine Hu ((UA.trans s6).gK hS) fun g2 H7 s7 i7=>?_;refine Ht (s7.gK i6) i7 (by intro z;cases z) (by show 2+_<=_;lia) fun g3 H8 s8 i8=>?_;refine⟨bl,bs.map V.ref,rfl,.inl ⟨.of ((s6.trans (s7.trans s8)) _ _ y5),fun g4 h4=>?_⟩⟩;have s9:=ay.new h4 (.tup (bs.map V.ref));have i9:dF K (upd H8 g4 (.tup (bs.map V.ref))) g4 (bs.map V.ref):=.of aj;generalize upd H8 g4 (.tup (bs.map V.ref))=H9 at *;have lb2:bs.length<=2:=by rw[lb];unfold YS;split<;>(try split)<;>lia
   refine Ht (s9.gK i8) i9 (by intro z;cases z) (by rw[zaj,zae];show 2+_+_<=_;lia) fun g5 Ha sa ia=>?_;have Xr:=s6.trans (s7.trans (s8.trans (s9.trans sa)));refine⟨L,zs,.ref g5,rfl,rfl,Xr _ _ yL,by lia,(Je _ _).mpr ?_⟩;clear Je;have s1a:=UA.trans Xr;have drb:=(dr5.mono Xr).Wn hL hd (x:=.ref g5) (Xr _ _ yL);have ub:bK O H (upd Ha L (.lst (zs++[.ref g5]))):=(bK.of s1a).put hL.1 _;have nLp:p≠L:=dr5.YR hL.1;have ypb:(upd Ha L (.lst (zs++[.ref g5]))) p=some (.ins t.bt dx [("boxes",.ref bx),("body",.ref bd),("nest",.ref ns)]):=by rw[aq nLp];exact s1a _ _ yp
   have keep:∀b o,b≠L->Ha b=some o->(upd Ha L (.lst (zs++[.ref g5]))) b=some o:=fun b o nb e=>by rw[aq nb];exact e
   have nL:∀b,H b=none->b≠L:=fun b hb z=>by
    obtain⟨zs',e,_⟩:=dr.own L hL.1;rw[<- z,hb] at e;cases e
   have WB:(upd Ha L (.lst (zs++[.ref g5]))) bl=some (.lst (bs.map V.ref)):=keep _ _ (nL _ (cn Xq f5)) (Xr _ _ y5);have Y6:(upd Ha L (.lst (zs++[.ref g5]))) ns=some (.lst us):=keep _ _ (Ne.symm hL.2.2) (s1a _ _ yn);have Xb:∀b∈bs,H b=none/\(upd Ha L (.lst (zs++[.ref g5]))) b=some (.lst []):=fun b Ja=>⟨cn Xq (hb b Ja).1,keep _ _ (nL _ (cn Xq (hb b Ja).1)) (Xr _ _ (hb b Ja).2)⟩
   generalize upd Ha L (.lst (zs++[.ref g5]))=Hb at *;obtain⟨us',y',ixb⟩:=drb.Jc;rw[Y6] at y';cases y';have bdo:∀b∈bs,Xm (fun x=>O x\/x∈bs) bx ns b:=fun b Ja=>⟨.inr Ja,(fun z=>by have:=(Xb b Ja).1;obtain⟨_,e,_⟩:=dr.own _ dr.Jb;rw[z,e] at this;cases this),(fun z=>by have:=(Xb b Ja).1;rw[z,yn] at this;cases this)⟩
   have io:∀x,O x->O x\/x∈bs:=fun _ z=>.inl z;have ixo:Fb (JZ K Hb (fun x=>O x\/x∈bs) bx ns) d.df us:=ixb.imp fun _ _ z=>z.imp (fun _ _ z=>z) io;have push:∀(o:Bool) (gt:zdP) (Hc:Hp),PM.opens f=some o->ay Hb Hc->JZ K Hc (fun x=>O x\/x∈bs) bx ns o (.ref gt)->Q .eB (upd Hc ns (.lst (us++[.ref gt]))):=by
    intro o gt Hc ho sc hn;refine q (fun x=>O x\/x∈bs) _ (fun b Ja=>Ja.elim .inl fun z=>.inr (Xb b z).1) ((ub.trans (.of sc)).put dr.Ep _) ?_;have e:=(drb.mono sc).lV (O':=fun x=>O x\/x∈bs) io (fun b Ja=>Ja.elim .inl fun z=>.inr (sc _ _ (Xb b z).2)) (us:=us++[.ref gt]) (ks:=d.df++[o]) (by rw[zae,zaw];lia) ((ixo.imp fun _ _ z=>z.imp (fun _ _=>sc.gK) fun _ z=>z).snoc hn) fun _=>rfl;rw[ho];exact e
   walk_at "rd";refine⟨rfl,cu (fun w1=>?_) (fun w1=>?_)⟩
   ·have e1:=(dH SV).mp w1;rw[e1,if_pos rfl] at ow;have l2:bs.length=2:=by rw[lb,e1];rfl
    match bs,l2 with
    |[b1,b2],_=>
     refine⟨p,_,dx,_,.ref ns,rfl,ypb,T.cg,T.bM,rfl,.inl ⟨rfl,_,.of Y6⟩,?_⟩;refine bC (.of WB) (v:=.ref b1) (bf (j:=0) rfl) (bC (.of WB) (v:=.ref b2) (bf (j:=1) rfl) fun gt ht=>?_);have st:=ay.new ht (.tup [V.ref b1,V.ref b2]);refine⟨ns,us,.ref gt,rfl,rfl,st _ _ Y6,by lia,push true gt _ ow st ⟨gt,b1,.ref b2,rfl,.of aj,bdo b1 (by simp),b2,rfl,bdo b2 (by simp)⟩⟩
   have n1:Bp f≠PM.jV:=fun z=>w1 ((dH SV).mpr z);refine⟨rfl,cu (fun w2=>?_) (fun w2=>?_)⟩
   ·have e2:=(dH sZ).mp w2;rw[if_neg n1,e2,if_pos rfl] at ow;have l2:bs.length=1:=by rw[lb,e2];rfl
    match bs,l2 with
    |[b1],_=>
     refine⟨p,_,dx,_,.ref ns,rfl,ypb,T.cg,T.bM,rfl,.inl ⟨rfl,_,.of Y6⟩,?_⟩;refine bC (.of WB) (v:=.ref b1) (bf (j:=0) rfl) fun gt ht=>?_;have st:=ay.new ht (.tup [V.ref b1,V.eB]);refine⟨ns,us,.ref gt,rfl,rfl,st _ _ Y6,by lia,push false gt _ ow st ⟨gt,b1,.eB,rfl,.of aj,bdo b1 (by simp),rfl⟩⟩
   have n2:Bp f≠PM.bY:=fun z=>w2 ((dH sZ).mpr z);rw[if_neg n1,if_neg n2] at ow;rw[ow,Option.toList_none,zaN] at q;exact q O Hb (fun b z=>.inl z) ub (drb.more (by lia))
 walk_at "rd";intro g hg;have sg:=ay.new hg (.tup [V.str (zac "if"),V.str (zac "while")]);have iT:dF K (upd H g (.tup [V.str (zac "if"),V.str (zac "while")])) g [V.str (zac "if"),V.str (zac "while")]:=.of aj;have hl:([V.str (zac "if"),V.str (zac "while")]:List V)=[PM.jV,PM.bY].map sv:=by rw[SV,sZ];rfl
 generalize upd H g (.tup [V.str (zac "if"),V.str (zac "while")])=H0 at *;refine⟨g,_,rfl,.inr iT,rfl,rfl,_,rfl,?_⟩;rw[hl,in_words,if_neg zal,if_neg zal];have oi:(PM.opens f).isSome=true↔([PM.jV,PM.bY]:List W).contains (Bp f)=true:=by
  rw[ow,za0];by_cases h1:Bp f=PM.jV
  ·rw[if_pos h1];simp[h1]
  ·rw[if_neg h1];by_cases h2:Bp f=PM.bY
   ·rw[if_pos h2];simp[h2]
   ·rw[if_neg h2];simp[h1,h2]
 refine cu (fun hc=>?_) (fun hc=>rest H0 sg fun z=>hc (oi.mp z.1));refine⟨p,_,dx,_,.ref ns,rfl,sg _ _ yp,T.cg,T.bM,rfl,ns,us,rfl,.inl (.of (sg _ _ yn)),?_⟩;rw[ix.1];by_cases h5:d.df.length=5
 ·rw[if_pos (by rw[h5];rfl)];rw[if_pos ⟨oi.mpr hc,h5⟩] at q;exact vO lk (by decide) (by decide) (q H0 (.of sg))
 ·rw[if_neg (fun z=>h5 (by lia))];exact rest H0 sg fun z=>h5 z.2
theorem Aj{CD:zdP}{ce:PM.Er->zdP}{O:zdP->Prop}{H:Hp}{p bx bd ns:zdP}{m:Nat}{Q:VK}{E:XK}{r:Except PM.Er PM.Df}(h:Wo K CD ce O H p bx bd ns m Q E r):Wo K CD ce O H p bx bd ns m (fun _ H1=>Q .eB H1) E r:=by
 cases r<;>exact h
theorem Ri{CD:zdP}{ce:PM.Er->zdP}{O:zdP->Prop}{H H1:Hp}{p bx bd ns:zdP}{m:Nat}{Q:VK}{E:XK}{r:Except PM.Er PM.Df}(h:Wo K CD ce O H p bx bd ns m Q E r)(s:ay H H1):Wo K CD ce O H1 p bx bd ns m Q E r:=by
 cases r with
 |error e=>exact fun H' u=>h H' ((bK.of s).trans u)
 |ok d=>exact fun O' H' i u dr=>h O' H' (fun b hb=>(i b hb).imp id fun z=>cn s z) ((bK.of s).trans u) dr
theorem Ia(T:Tx K mg t):bu P w K mg base (m6 P w) 63 t.nU t.o8 ["draft", "number", "form"] (LR K t.bt (Rf t) PM.FmA PM.nE):=by
 have yM:=xw (P:=P) (w:=w) (base:=base) T;have Ko:=HW (P:=P) (w:=w) (base:=base) T;have Ib:=FJ (P:=P) (w:=w) (base:=base) T;have Kq:=HX (P:=P) (w:=w) (base:=base) T;refine T.kb.F.Gg zu (fun vs H Q E h=>?_) (fun d0 A outer s H vs Q E hr h=>?_)
 ·obtain⟨_,_,_,_,_,_,_,_,_,_,rfl,_⟩:=h;rfl
 obtain⟨O,p,bx,bd,ns,d,m,k,v,f,rfl,dr,lm,lk,rv,Jd,q⟩:=h;have nd:=zu.nd;refine⟨_,[some (.ref p),some (.int k),some v,none],(ag (aM (i:=3) nd rfl (zan rfl) (aX cG (pv 2) ai aK))
 (ao (bo (aH cC (pv 3) au (aT _))
 (ao (cP (aF Ko (hr.mono (by first|decide|omega)) rfl T.kc.m T.kc.F.kp T.kc.b .nil dQ (ae (pv 0) (ae (pv 1) (ae (d4 Jr (pv 2) (fS ai) fQ) af bJ) ah) ah))))
 (ao (bo (aH cC (pv 3) au (aT _))
 (ao (cP (aF Ib (hr.mono (by first|decide|omega)) rfl T.jf.m T.jf.F.kp T.jf.b .nil dQ (ae (pv 0) (ae (pv 1) af ah) ah))))
 (ao (bo (aH cC (pv 3) au (aT _))
 (ao (cP (aF Kq (hr.mono (by first|decide|omega)) rfl T.kf.m T.kf.F.kp T.kf.b .nil dQ (ae (pv 0) (ae (pv 1) af ah) ah))))
 (ao (cP (aF yM (hr.mono (by first|decide|omega)) rfl T.dE.m T.dE.F.kp T.dE.b .nil dQ (ae (pv 0) (ae (pv 1) (ae (pv 2) af ah) ah) ah))))))))))),rfl,?_⟩
 walk_at "rd";obtain⟨va,ys,rfl,hS,ly⟩:=Es rv;refine bI hS (v:=sv (Bp f)) (bf (j:=0) rfl) ⟨rfl,?_⟩;have Wn:PM.Wl f->PM.nE d f=PM.rY d f->Bp f≠PM.cY->Bp f≠PM.eH->Gs (sv (Bp f)) (V.str (zac "else"))=true/\
  if sv (Bp f)=V.str (zac "else") then Bo K t.bt (Rf t) PM.sY [V.ref p,V.int k] H (fun x H1=>Q V.eB H1) E
  else Gs (sv (Bp f)) (V.str (zac "end"))=true/\
   if sv (Bp f)=V.str (zac "end") then Bo K t.bt (Rf t) PM.C5 [V.ref p,V.int k] H (fun x H1=>Q V.eB H1) E
   else LR K t.bt (Rf t) PM.Wl PM.rY [V.ref p,V.int k,V.ref va] H (fun x H1=>Q V.eB H1) E:=fun h1 h2 n1 n2=>by
  refine⟨rfl,?_⟩;rw[if_neg (fun z=>n1 ((dH Hn).mp z))];refine⟨rfl,?_⟩;rw[if_neg (fun z=>n2 ((dH QF).mp z))];rw[h2] at q;exact⟨O,p,bx,bd,ns,d,m,k,.ref va,f,rfl,dr,lm,lk,rv,h1,Aj q⟩
 cases f with
 |box n a b=>
  refine cu (fun _=>?_) fun z=>absurd ((dH xZ).mpr rfl) z;refine⟨1,rfl,?_⟩;unfold Hl at rv;simp only[Rep.bV,a7.bh,a7.bE,Rep.a8,Rep.cN] at rv;obtain⟨_,xs,e,hS2,_,_,rfl,rfl,_,_,rfl,rfl,_,_,rfl,rfl,_,_,rfl,rfl,rfl⟩:=rv;cases e;refine Hu hS2 fun c H1 s1 i1=>⟨O,p,bx,bd,ns,d,m,k,.ref c,n,a,b,rfl,dr.mono s1,lm,lk,?_,Aj (Ri q s1)⟩
  rw[Rep.bV];exact⟨c,_,rfl,i1,.cons (Rep.a8.mpr rfl) (.cons (Rep.cN.mpr rfl) (.cons (Rep.cN.mpr rfl) .nil))⟩
 |ask n=>
  refine cu (fun z=>absurd ((dH xZ).mp z) (show PM.qU≠PM.nC by decide)) fun _=>?_;exact Wn Jd rfl (show PM.qU≠PM.cY by decide) (show PM.qU≠PM.eH by decide)
 |put n e=>
  refine cu (fun z=>absurd ((dH xZ).mp z) (show PM.qV≠PM.nC by decide)) fun _=>?_;exact Wn Jd rfl (show PM.qV≠PM.cY by decide) (show PM.qV≠PM.eH by decide)
 |say e=>
  refine cu (fun z=>absurd ((dH xZ).mp z) (show PM.oO≠PM.nC by decide)) fun _=>?_;exact Wn Jd rfl (show PM.oO≠PM.cY by decide) (show PM.oO≠PM.eH by decide)
 |cond c sg x y=>
  have hc:c=PM.gc\/c=PM.jV\/c=PM.bY:=Jd.1;have ne:∀u,u≠PM.gc->u≠PM.jV->u≠PM.bY->c≠u:=fun u a b e z=>by
   rcases hc with h |h |h<;>rw[h] at z
   ·exact a z.symm
   ·exact b z.symm
   ·exact e z.symm
  refine cu (fun z=>absurd ((dH xZ).mp z) (ne PM.nC (by decide) (by decide) (by decide))) fun _=>?_;exact Wn Jd rfl (ne PM.cY (by decide) (by decide) (by decide)) (ne PM.eH (by decide) (by decide) (by decide))
 |one c=>
  have hc:c=PM.cY\/c=PM.eH\/c=PM.dw:=Jd;have et:PM.nE d (.one c)=if c=PM.cY then PM.sY d else if c=PM.eH then PM.C5 d else PM.rY d (.one c):=rfl
  rcases hc with h |h |h
  ·subst h;refine cu (fun z=>absurd ((dH xZ).mp z) (show PM.cY≠PM.nC by decide)) fun _=>?_;refine⟨rfl,?_⟩;refine cu (fun _=>?_) fun z=>absurd ((dH Hn).mpr rfl) z;rw[et,if_pos rfl] at q;exact⟨O,p,bx,bd,ns,d,m,k,rfl,dr,lm,lk,Aj q⟩
  ·subst h;refine cu (fun z=>absurd ((dH xZ).mp z) (show PM.eH≠PM.nC by decide)) fun _=>?_;refine⟨rfl,?_⟩;refine cu (fun z=>absurd ((dH Hn).mp z) (show PM.eH≠PM.cY by decide)) fun _=>?_;refine⟨rfl,?_⟩;refine cu (fun _=>?_) fun z=>absurd ((dH QF).mpr rfl) z;rw[et,if_neg (by decide),if_pos rfl] at q;exact⟨O,p,bx,bd,ns,d,m,k,rfl,dr,lm,lk,Aj q⟩
  ·subst h;refine cu (fun z=>absurd ((dH xZ).mp z) (show PM.dw≠PM.nC by decide)) fun _=>?_;exact Wn rfl (by rw[et,if_neg (by decide),if_neg (by decide)]) (show PM.dw≠PM.cY by decide) (show PM.dw≠PM.eH by decide)
theorem Ti(T:Tx K mg t)(C:Cd P w K t):bu P w K mg base (m6 P w) 64 t.BC t.Ai ["text"] (YT (Rf t)):=by
 have Nt:=Km (P:=P) (w:=w) (base:=base) T C;have Kr:=Ia (P:=P) (w:=w) (base:=base) T;have FN:=Di (P:=P) (w:=w) (base:=base) T;refine T.yt.F.Gg L0 (fun vs H Q E h=>?_) (fun d0 A outer s H vs Q E hr h=>?_)
 ·obtain⟨_,rfl,_⟩:=h;rfl
 obtain⟨text,rfl,lt,qe,qo⟩:=h;have nd:=L0.nd;obtain⟨UB,Ic,Ie⟩:=T.Fu;refine⟨_,[some (sv text),none,none,none,none],(ag (aM (i:=1) nd rfl (zan rfl) (jk zbe zcf zcg Bj (pv 0) (ae au af aC)))
 (ag (bo (aH Ay (bb bq rfl T.eY PyProof.Rows.Boot.«len» (ae (pv 1) af ah)) (cq rfl Ic Ie) (aT _))
 (ao (cH dS T.yw rfl T.BF rfl (ae au af aC)))
 aQ)
 (ag (aM (i:=2) nd rfl (zan rfl) (OH T.BD FN (hr.mono (by first|decide|omega)) rfl T.Q1 T.Fj .nil bj))
 (ag (si Sr rfl (Qx rfl T.tV (ae (pv 1) af ah)) (Ow rfl (eJ (cF (i:=3) nd rfl (zan rfl)) (eJ (cF (i:=4) nd rfl (zan rfl)) uv)))
 (ao (cP (aF Kr (hr.mono (by first|decide|omega)) rfl T.kb.m T.kb.F.kp T.kb.b .nil dQ (ae (pv 2) (ae (pv 3) (ae (aF Nt (hr.mono (by first|decide|omega)) rfl T.nj.m T.nj.F.kp T.nj.b .nil dQ (ae (pv 4) af ah)) af bH) ah) ah)))))
 (ag (bo (sk (dG (pv 2) rfl) (fun _=>rfl))
 (ao (cH dS T.Kd rfl T.Ma rfl (ae au af aC)))
 aQ)
 (ao (aS (cp (ae (dG (pv 2) rfl) (ae (dG (pv 2) rfl) af wJ) wJ))))))))),rfl,?_⟩
 have line:zdX=2 ^ 24:=rfl;walk_at "rd";refine⟨rfl,text,10,rfl,rfl,by decide,by lia,fun R fR=>?_⟩;generalize Y7:av 10 text=rows at *;have rsm:∀r∈rows,r.length<=3000000:=fun r hr=>by rw[<- Y7] at hr;exact zay (mU 10 text r hr) lt
 have sR:=ay.new fR (.lst (rows.map sv));have yR:(upd H R (.lst (rows.map sv))) R=some (.lst (rows.map sv)):=aj;generalize upd H R (.lst (rows.map sv))=H0 at *;refine⟨R,_,rfl,.inl (.of yR),?_⟩;rw[zaj];unfold PM.Eo at qe qo;by_cases h80:80<rows.length
 ·rw[if_pos (by lia)];exact⟨(show 1<=zdX by decide),qe .w5 (by rw[if_pos h80]) H0 sR⟩
 rw[if_neg (by lia)];rw[if_neg h80] at qe qo;intro p dx fp fdx ne;have fp1:(upd H0 dx (.own p)) p=none:=by rw[aq (Ne.symm ne)];exact fp
 refine⟨p,dx,rfl,aj,by rw[aq ne];exact aj,fun O bx bd ns H1 hO u1 dr=>⟨rfl,?_⟩⟩;have sm:ay H0 H1:=fun b o e=>by
  have n1:b≠p:=aI e fp;have n2:b≠dx:=aI e fdx;refine u1 b o n1 ?_;rw[aq n1,aq n2];exact e
 have hO0:∀b,O b->H0 b=none:=fun b hb=>by
  have z:=hO b hb;by_cases n1:b=p
  ·rw[n1];exact fp
  ·rw[aq n1] at z;by_cases n2:b=dx
   ·rw[n2];exact fdx
   ·rw[aq n2] at z;exact z
 clear hO u1;refine⟨R,rfl,⟨_,.of (sm _ _ yR)⟩,Nd (K:=K) (a:=R) (xs:=rows.map sv) (fun i σ Hx=>∃(x3 x4:Option V) (O:zdP->Prop) (d:PM.Df),σ=[some (sv text),some (.ref R),some (.ref p),x3,x4]/\ay H0 Hx/\(∀b,O b->H0 b=none)/\xK K t.bt O Hx p bx bd ns d (2*i)/\PM.dy ⟨[],false,[]⟩ rows=PM.dy d (rows.drop i)) ⟨none,none,O,_,rfl,sm,hO0,dr,rfl⟩ (fun i σ Hx _ z=>by obtain⟨_,_,_,_,_,sx,_⟩:=z;exact .of (sx _ _ yR)) ?_ ?_⟩
 ·intro i x σ Hx g hx z hg;obtain⟨x3,x4,O,d,rfl,sx,ox,drx,er⟩:=z;rw[zaE] at hx;obtain⟨r,Bw,rfl⟩:=zbd.mp hx;have hi:i<rows.length:=(zar.mp Bw).1;have ed:rows.drop i=r::rows.drop (i+1):=by rw[zbS hi,(zar.mp Bw).2]
  rw[ed] at er;have sg:=ay.new hg (.tup [V.int ((i+1:Nat):Int),sv r]);have ig:dF K (upd Hx g (.tup [V.int ((i+1:Nat):Int),sv r])) g [V.int ((i+1:Nat):Int),sv r]:=.of aj;generalize upd Hx g (.tup [V.int ((i+1:Nat):Int),sv r])=Hy at *;walk_at "rd";have sy:=sx.trans sg;refine⟨g,_,rfl,ig,rfl,_,_,rfl,_,_,rfl,rfl,r,rfl,rsm r (zbj Bw),fun hf H2 s2=>?_,fun f hf v H2 s2 rv=>?_⟩
  ·refine qe .nD ?_ H2 (sR.trans (sy.trans s2));rw[er,PM.dy,hf]
  have s02:=sy.trans s2;have keep:∀ {Hz:Hp},bK O H2 Hz->ay H0 Hz:=fun u b o e=>u b o (fun z=>by rw[ox b z] at e;cases e) (s02 _ _ e);refine⟨O,p,bx,bd,ns,d,2*i,((i+1:Nat):Int),v,f,rfl,drx.mono (sg.trans s2),by lia,⟨by lia,by lia⟩,rv,PM.SS (cU _ _) hf,?_⟩;rw[PM.dy,hf] at er;cases ht:PM.nE d f with
  |error e=>exact fun Hz u=>qe e (by rw[er];simp only[ht]) Hz (sR.trans (keep u))
  |ok d'=>exact fun O' Hz io u dr'=>⟨_,_,O',d',rfl,keep u,fun b hb=>(io b hb).elim (ox b) fun z=>cn s02 z,dr',by rw[er];simp only[ht]⟩
 ·intro σ Hx z;obtain⟨x3,x4,O,d,rfl,sx,ox,drx,er⟩:=z;rw[zaj,List.drop_length,PM.dy] at er;walk_at "rd";obtain⟨Vj,yp⟩:=drx.ins;obtain⟨us,yn,ix⟩:=drx.Jc;refine⟨p,_,Vj,_,.ref ns,rfl,yp,T.cg,T.bM,rfl,_,.inl ⟨us,.of yn,rfl⟩,?_⟩;rw[er] at qe qo;by_cases hk:d.df=[]
  ·have eu:us=[]:=zbb.mp (by rw[ix.1,hk];rfl);subst eu;refine⟨p,_,Vj,_,.ref bx,rfl,yp,T.cg,T.dO,rfl,p,_,Vj,_,.ref bd,rfl,yp,T.cg,T.fJ,rfl,fun g hg=>qo ?_ _ _ (sR.trans (sx.trans (ay.new hg _)))⟩;simp only[hk,if_true]
  ·have eu:us.isEmpty=false:=by
    cases us with
    |nil=>exact absurd (zbb.mp ix.1.symm) hk
    |cons=>rfl
   rw[eu,if_pos (show (!false)=true from rfl)];exact⟨(show 1<=zdX by decide),qe .Hk (by simp only[hk,if_false]) Hx (sR.trans sx)⟩
theorem m3(T:Tx K mg t):bu P w K mg base jh 1 t.jc t.jv ["cell", "k"] JG:=by
 refine T.ax.F.uX xj (fun vs H Q E h=>?_) (fun d0 A outer s H vs Q E hr h=>?_)
 ·obtain⟨cell,k,rfl,_⟩:=h;rfl
 obtain⟨cell,k,rfl,h0,h1,q⟩:=h;have nd:=xj.nd;refine⟨_,[some (V.int cell),some (V.int k),none],(ag (bo (aH XN (pv 0) (aw Ji ai ai) (aT _))
 (ao (aS (aw bS (aw Ve (aw vw (pv 0) (aw Ji ai ai)) (aw vz ai (pv 1))) (aw Ji ai ai))))
 aQ)
 (ag (aM (i:=2) nd rfl (zan rfl) (aw bS (aw vz (aw dR (aw dR (pv 0) (aw vz ai (pv 1))) ai) ai) ai))
 (ag (aM (i:=2) nd rfl (zan rfl) (aw bS (aw vz (pv 2) (pv 2)) ai))
 (ao (aS (aw dZ (aw bS (aw vz (pv 2) ai) ai) ai)))))),rfl,?_⟩
 walk_at "rd";have p18:Vd 10 18:=⟨by decide,by decide,by decide⟩
 have p28:Vd 2 28:=⟨by decide,by decide,by decide⟩
 refine⟨p18,?_⟩;unfold stir at q;have e18:(10:Int) ^ Int.toNat 18=10 ^ 18:=rfl;have e28:(2:Int) ^ Int.toNat 28=2 ^ 28:=rfl;rw[e18,e28];refine cu (fun hc=>?_) (fun hc=>?_)
 ·rw[if_pos hc] at q;exact⟨p18,mulL (by decide) (by decide),by lia,p28,by decide,q⟩
 ·rw[if_neg hc] at q;have b1:=zaY ((cell+1013*k+1)*16807) (show (2147483647:Int)≠0 by decide);have b2:=zaT ((cell+1013*k+1)*16807) (show (0:Int)<2147483647 by decide);have c1:Ml ((cell+1013*k+1)*16807%2147483647) ((cell+1013*k+1)*16807%2147483647):=by
   generalize (cell+1013*k+1)*16807%2147483647=z at b1 b2 ⊢;exact mulL (by lia) (by lia)
  exact⟨mulL (by decide) (by decide),mulR (by decide) (by decide),c1,mulR (by decide) (by decide),q⟩
structure CF(K:zab)(t:Ad)(C:zdP)(c:Nat):Prop where
 xi:E1 K C
 xr:zat K (.ref C) (.ref t.aP)=some true
 kv:zaa K (.ref C) (.type "ValueError")=some true
 k0:zaa K (.ref C) (.ref t.aD)=some (decide (0=c))
 k1:zaa K (.ref C) (.ref t.aA)=some (decide (1=c))
 k2:zaa K (.ref C) (.ref t.az)=some (decide (2=c))
 k3:zaa K (.ref C) (.ref t.aB)=some (decide (3=c))
 k4:zaa K (.ref C) (.ref t.ar)=some (decide (4=c))
 k5:zaa K (.ref C) (.ref t.aN)=some (decide (5=c))
 k6:zaa K (.ref C) (.ref t.aW)=some (decide (6=c))
 k7:zaa K (.ref C) (.ref t.aV)=some (decide (7=c))
 k8:zaa K (.ref C) (.ref t.aO)=some (decide (8=c))
 k9:zaa K (.ref C) (.ref t.cB)=some (decide (9=c))
 k10:zaa K (.ref C) (.ref t.bO)=some (decide (10=c))
 k11:zaa K (.ref C) (.ref t.bB)=some (decide (11=c))
 k12:zaa K (.ref C) (.ref t.bN)=some (decide (12=c))
theorem Y8(T:Tx K mg t)(e:PM.Er):CF K t (Rf t e) (PM.cR e):=by
 cases e with
 |nD=>exact⟨T.Q2,T.BK,T.BL,T.n8,T.ki,T.kh,T.kj,T.iC,T.n9,T.pQ,T.pP,T.oa,T.lY,T.kn,T.jH,T.km⟩
 |uD=>exact⟨T.Kg,T.vY,T.vZ,T.ko,T.iE,T.iD,T.iF,T.gx,T.kq,T.ma,T.lZ,T.kr,T.jI,T.iH,T.gY,T.iG⟩
 |w5=>exact⟨T.Kh,T.v5,T.v7,T.ku,T.iJ,T.iI,T.iK,T.gy,T.kx,T.mh,T.mf,T.ky,T.jJ,T.iM,T.gZ,T.iL⟩
 |Ag=>exact⟨T.Ki,T.v8,T.v9,T.kz,T.iO,T.iN,T.iP,T.gz,T.kA,T.mj,T.mi,T.kB,T.jK,T.iR,T.g6,T.iQ⟩
 |uE=>exact⟨T.Fo,T.rm,T.rn,T.iS,T.gB,T.gA,T.gC,T.e9,T.iU,T.jM,T.jL,T.iV,T.g7,T.gE,T.fL,T.gD⟩
 |twice=>exact⟨T.Q3,T.BM,T.BN,T.og,T.kD,T.kC,T.kE,T.iW,T.oh,T.pS,T.pR,T.oj,T.ml,T.kG,T.jN,T.kF⟩
 |Hk=>exact⟨T.Ta,T.Fp,T.Fq,T.pT,T.mq,T.mn,T.mr,T.jO,T.pU,T.rq,T.rp,T.pV,T.om,T.mw,T.kH,T.mv⟩
 |full=>exact⟨T.Tb,T.Fs,T.Ft,T.pW,T.mz,T.my,T.mB,T.jP,T.pX,T.rB,T.rA,T.pY,T.oo,T.mD,T.kI,T.mC⟩
 |LN=>exact⟨T.Q4,T.BO,T.BP,T.oq,T.kK,T.kJ,T.kL,T.iX,T.ot,T.qa,T.pZ,T.ou,T.mE,T.kN,T.jQ,T.kM⟩
theorem Ks(T:Tx K mg t):bu P w K mg base jh 1 t.gn t.ip ["script", "k"] (fun vs H Q _=>∃(a:zdP) (ns:List Int) (k:Nat),vs=[.ref a,.int k]/\gI K H a (ns.map .int)/\∀i,Q (.int i) H):=by
 refine T.bF.F.uX rK (fun vs H Q E h=>?_) (fun d0 A outer s H vs Q E hr h=>?_)
 ·obtain⟨_,_,_,rfl,_⟩:=h;rfl
 obtain⟨a,ns,k,rfl,hS,q⟩:=h;have nd:=rK.nd;refine⟨_,[some (.ref a),some (.int k)],(ag (bo (aH Aw (pv 1) (bb bq rfl T.eY PyProof.Rows.Boot.«len» (ae (pv 0) af ah)) (aT _))
 (ao (aS (aX a9 (pv 0) (pv 1) wI)))
 aQ)
 (ao (aS ai))),rfl,?_⟩
 walk_at "rd";refine⟨a,_,rfl,.inl hS,?_⟩;refine cu (fun c=>?_) (fun c=>q 0);rw[zaj] at c;have hk:k<ns.length:=by lia
 exact bC hS (v:=.int ns[k]) (bf (by rw[zaE,zag hk];rfl)) (q _)
theorem Rj{l b:zdP}{xs zs:List V}{H:Hp}{Q:VK}(h1:H l=some (.lst xs))(h2:H b=some (.lst zs))(hl:xs.length+zs.length<=zdX)(q:∀p,H p=none->Q (.ref p) (upd H p (.lst (xs++zs)))):Vu (.ref l) (.ref b) H Q:=⟨l,b,xs,zs,rfl,rfl,h1,h2,hl,q⟩
theorem Tj(T:Tx K mg t)(C:Cd P w K t):bu P w K mg base jh 65 t.gu t.iu ["rows"] (QJ K):=by
 have WC:=Ti (P:=P) (w:=w) (base:=base) T C;refine T.eV.F.uX rM (fun vs H Q E h=>?_) (fun d0 A outer s H vs Q E hr h=>?_)
 ·obtain⟨_,_,rfl,_⟩:=h;rfl
 obtain⟨ra,rows,rfl,hS,ne,nl,lr,q⟩:=h;have nd:=rM.nd;refine⟨_,[some (.ref ra),none,none],(ag (aM (i:=1) nd rfl (zan rfl) (aU af))
 (ag (Pr (i:=2) nd rfl rfl rfl WC (hr.mono (by first|decide|omega)) rfl T.yt.m T.yt.F.kp T.yt.b (fun _ _=>(ae (Fc (K:=K) rfl zbe zbM zbN (w9 (K:=K) rfl) au (ae (pv 0) af ah)) af bH)) rfl rfl rfl T.HG (fun _=>(ag (aM (i:=1) nd rfl (zan rfl) (aU (ae (bb (eM (K:=K) rfl) rfl T.bR PyProof.Rows.Boot.«isinstance» (ae (pv 2) (ae (cq (v:=.ref t.aD) rfl T.eX rfl) af ah) ah)) (ae (bb (eM (K:=K) rfl) rfl T.bR PyProof.Rows.Boot.«isinstance» (ae (pv 2) (ae (cq (v:=.ref t.aA) rfl T.rk rfl) af ah) ah)) (ae (bb (eM (K:=K) rfl) rfl T.bR PyProof.Rows.Boot.«isinstance» (ae (pv 2) (ae (cq (v:=.ref t.az) rfl T.BF rfl) af ah) ah)) (ae (bb (eM (K:=K) rfl) rfl T.bR PyProof.Rows.Boot.«isinstance» (ae (pv 2) (ae (cq (v:=.ref t.aB) rfl T.BJ rfl) af ah) ah)) af bH) bH) bH) bH)))
 (ag (aM (i:=1) nd rfl (zan rfl) (aw di (pv 1) (aU (ae (bb (eM (K:=K) rfl) rfl T.bR PyProof.Rows.Boot.«isinstance» (ae (pv 2) (ae (cq (v:=.ref t.ar) rfl T.xq rfl) af ah) ah)) (ae (bb (eM (K:=K) rfl) rfl T.bR PyProof.Rows.Boot.«isinstance» (ae (pv 2) (ae (cq (v:=.ref t.aN) rfl T.HJ rfl) af ah) ah)) (ae (bb (eM (K:=K) rfl) rfl T.bR PyProof.Rows.Boot.«isinstance» (ae (pv 2) (ae (cq (v:=.ref t.aW) rfl T.Ma rfl) af ah) ah)) (ae (bb (eM (K:=K) rfl) rfl T.bR PyProof.Rows.Boot.«isinstance» (ae (pv 2) (ae (cq (v:=.ref t.aV) rfl T.L8 rfl) af ah) ah)) af bH) bH) bH) bH))))
 (ag (aM (i:=1) nd rfl (zan rfl) (aw di (pv 1) (aU (ae (bb (eM (K:=K) rfl) rfl T.bR PyProof.Rows.Boot.«isinstance» (ae (pv 2) (ae (cq (v:=.ref t.aO) rfl T.HL rfl) af ah) ah)) (ae (bb (eM (K:=K) rfl) rfl T.bR PyProof.Rows.Boot.«isinstance» (ae (pv 2) (ae (cq (v:=.ref t.cB) rfl T.Nm rfl) af ah) ah)) (ae (bb (eM (K:=K) rfl) rfl T.bR PyProof.Rows.Boot.«isinstance» (ae (pv 2) (ae (cq (v:=.ref t.bO) rfl T.Kf rfl) af ah) ah)) (ae (bb (eM (K:=K) rfl) rfl T.bR PyProof.Rows.Boot.«isinstance» (ae (pv 2) (ae (cq (v:=.ref t.bB) rfl T.HM rfl) af ah) ah)) af bH) bH) bH) bH))))
 (ao (aM (i:=1) nd rfl (zan rfl) (aw di (pv 1) (aU (ae (bb (eM (K:=K) rfl) rfl T.bR PyProof.Rows.Boot.«isinstance» (ae (pv 2) (ae (cq (v:=.ref t.bN) rfl T.Ke rfl) af ah) ah)) (ae (UT (bb (MF (K:=K) rfl) rfl T.bR PyProof.Rows.Boot.«isinstance» (ae (pv 2) (ae (RZ (v:=.ty "ValueError") rfl T.rE PyProof.Rows.Boot.«ValueError» rfl) af ah) ah))) af Yf) bH))))))))))
 (ao (aS (pv 1))))),rfl,?_⟩
 have line:zdX=2 ^ 24:=rfl;refine aG fun U1 rZ=>?_;walk_at "rd";intro p hp;have s1:=ay.new hp (.lst []);have y1:(upd H p (.lst [])) p=some (.lst []):=aj;generalize upd H p (.lst [])=H1 at *;refine(rZ _ _).mpr (aG fun U2 rP=>?_);clear rZ;simp only[Pq];walk_at "rd";refine⟨rfl,ra,rows,10,rfl,rfl,s1.seq hS,by lia,?_⟩;have eg:av 10 (cM 10 rows)=rows:=j4 ne nl;have lg:=sX 10 rows;refine⟨cM 10 rows,rfl,by lia,fun e he H2 s2=>?_,fun he v H2 s2=>?_⟩
 ·rw[eg] at he;rw[he] at q;have cf:=Y8 T e;have eq0:yc (some e)=((([V.bl (decide (0=PM.cR e)),V.bl (decide (1=PM.cR e)),V.bl (decide (2=PM.cR e)),V.bl (decide (3=PM.cR e))]++[V.bl (decide (4=PM.cR e)),V.bl (decide (5=PM.cR e)),V.bl (decide (6=PM.cR e)),V.bl (decide (7=PM.cR e))])++[V.bl (decide (8=PM.cR e)),V.bl (decide (9=PM.cR e)),V.bl (decide (10=PM.cR e)),V.bl (decide (11=PM.cR e))])++[V.bl (decide (12=PM.cR e)),V.bl false]):=by
   have n13:decide (13=PM.cR e)=false:=by cases e<;>rfl
   unfold yc;show [V.bl (decide (0=PM.cR e)),V.bl (decide (1=PM.cR e)),V.bl (decide (2=PM.cR e)),V.bl (decide (3=PM.cR e)),V.bl (decide (4=PM.cR e)),V.bl (decide (5=PM.cR e)),V.bl (decide (6=PM.cR e)),V.bl (decide (7=PM.cR e)),V.bl (decide (8=PM.cR e)),V.bl (decide (9=PM.cR e)),V.bl (decide (10=PM.cR e)),V.bl (decide (11=PM.cR e)),V.bl (decide (12=PM.cR e)),V.bl (decide (13=PM.cR e))]=_;rw[n13];rfl
  generalize PM.cR e=c at *;generalize Rf t e=CX at *;refine⟨cf.xr,_,rfl,fun y hy=>?_⟩;have s3:=(s1.trans s2).sE hy (wN y CX);have h3:(upd H2 y (wN y CX)) y=some (wN y CX):=aj;generalize upd H2 y (wN y CX)=H3 at *;refine⟨y,_,_,_,rfl,h3,cf.xi,cf.k0,?_⟩;refine⟨y,_,_,_,rfl,h3,cf.xi,cf.k1,?_⟩;refine⟨y,_,_,_,rfl,h3,cf.xi,cf.k2,?_⟩;refine⟨y,_,_,_,rfl,h3,cf.xi,cf.k3,?_⟩;obtain⟨L1,e1⟩:∃L1:List V,L1=[V.bl (decide (0=c)),V.bl (decide (1=c)),V.bl (decide (2=c)),V.bl (decide (3=c))]:=⟨_,rfl⟩
  obtain⟨L2,e2⟩:∃L2:List V,L2=[V.bl (decide (4=c)),V.bl (decide (5=c)),V.bl (decide (6=c)),V.bl (decide (7=c))]:=⟨_,rfl⟩
  obtain⟨L3,e3⟩:∃L3:List V,L3=[V.bl (decide (8=c)),V.bl (decide (9=c)),V.bl (decide (10=c)),V.bl (decide (11=c))]:=⟨_,rfl⟩
  obtain⟨L4,e4⟩:∃L4:List V,L4=[V.bl (decide (12=c)),V.bl false]:=⟨_,rfl⟩
  have le:L1.length=4/\L2.length=4/\L3.length=4/\L4.length=2:=by rw[e1,e2,e3,e4];exact⟨rfl,rfl,rfl,rfl⟩
  have eq:yc (some e)=(((L1++L2)++L3)++L4):=by rw[e1,e2,e3,e4];exact eq0
  rw[<- e1];intro p4 hp4;have s4:=s3.sE hp4 (.lst L1);have h4:=ay.new hp4 (.lst L1) _ _ h3;have l4:(upd H3 p4 (.lst L1)) p4=some (.lst L1):=aj;generalize upd H3 p4 (.lst L1)=H4 at *;refine⟨y,_,_,_,rfl,h4,cf.xi,cf.k4,?_⟩;refine⟨y,_,_,_,rfl,h4,cf.xi,cf.k5,?_⟩;refine⟨y,_,_,_,rfl,h4,cf.xi,cf.k6,?_⟩;refine⟨y,_,_,_,rfl,h4,cf.xi,cf.k7,?_⟩;rw[<- e2];intro p5 hp5;have s5:=s4.sE hp5 (.lst L2);have h5:=ay.new hp5 (.lst L2) _ _ h4;have l5:=ay.new hp5 (.lst L2) _ _ l4;have m5:(upd H4 p5 (.lst L2)) p5=some (.lst L2):=aj;generalize upd H4 p5 (.lst L2)=H5 at *;refine Rj l5 m5 (by lia) fun p6 hp6=>?_;have s6:=s5.sE hp6 (.lst (L1++L2));have h6:=ay.new hp6 (.lst (L1++L2)) _ _ h5;have l6:(upd H5 p6 (.lst (L1++L2))) p6=some (.lst (L1++L2)):=aj;generalize upd H5 p6 (.lst (L1++L2))=H6 at *;refine⟨y,_,_,_,rfl,h6,cf.xi,cf.k8,?_⟩;refine⟨y,_,_,_,rfl,h6,cf.xi,cf.k9,?_⟩;refine⟨y,_,_,_,rfl,h6,cf.xi,cf.k10,?_⟩;refine⟨y,_,_,_,rfl,h6,cf.xi,cf.k11,?_⟩;rw[<- e3];intro p7 hp7;have s7:=s6.sE hp7 (.lst L3);have h7:=ay.new hp7 (.lst L3) _ _ h6;have l7:=ay.new hp7 (.lst L3) _ _ l6;have m7:(upd H6 p7 (.lst L3)) p7=some (.lst L3):=aj;generalize upd H6 p7 (.lst L3)=H7 at *;refine Rj l7 m7 (by rw[zae];lia) fun p8 hp8=>?_;have s8:=s7.sE hp8 (.lst (L1++L2++L3));have h8:=ay.new hp8 (.lst (L1++L2++L3)) _ _ h7;have l8:(upd H7 p8 (.lst (L1++L2++L3))) p8=some (.lst (L1++L2++L3)):=aj;generalize upd H7 p8 (.lst (L1++L2++L3))=H8 at *;refine⟨y,_,_,_,rfl,h8,cf.xi,cf.k12,?_⟩;refine⟨y,_,_,_,rfl,h8,cf.xi,cf.kv,?_⟩;rw[show (!true)=false from rfl,<- e4];intro p9 hp9;have s9:=s8.sE hp9 (.lst L4);have l9:=ay.new hp9 (.lst L4) _ _ l8;have m9:(upd H8 p9 (.lst L4)) p9=some (.lst L4):=aj;generalize upd H8 p9 (.lst L4)=H9 at *;refine Rj l9 m9 (by rw[zae,zae];lia) fun pa hpa=>?_;show U2 [some (V.ref ra),some (V.ref pa),none] _;refine(rP _ _).mpr ?_;walk_at "rd";exact q _ _ (s9.sE hpa _) (by rw[aj,eq])
 ·rw[eg] at he;rw[he] at q;refine(rP _ _).mpr ?_;walk_at "rd";exact q p H2 (s1.trans s2) (s2 _ _ y1)
theorem kY{α:Type}{L:List α}{n:Nat}(hn:L.length=n)(h0:0<n)(c:Int):∃v∈L,D4 L (c%n)=some v:=by
 have h1:=zaY c (show (n:Int)≠0 by lia);have h2:=zaT c (show (0:Int)<n by lia);obtain⟨j,hj⟩:=zbc h1;rw[hj] at h2 ⊢;have hl:j<L.length:=by lia
 exact⟨L[j],zaK hl,bf (zag hl)⟩
def Tn:List W:=[PM.nC,PM.qU,PM.qV,PM.oO,PM.jV,PM.cY,PM.bY,PM.gc,PM.dw,PM.eH]
theorem WD{H:Hp}{p:zdP}{vs:List V}(y:H p=some (.lst vs))(e:vs=(vs.map strOf).map V.str)(hM:∀v∈vs,yh (strOf v).cps.toList):∃L:List Str,H p=some (.lst (L.map V.str))/\(∀z∈L,yh z.cps.toList)/\L.length=vs.length:=
 ⟨vs.map strOf,by rw[y,<- e],fun z hz=>by obtain⟨v,hv,rfl⟩:=zaI.mp hz;exact hM v hv,by rw[zaj]⟩
theorem Kt{z:Str}{c:Nat}(hz:z=⟨#[c]⟩)(n:Nat):(CZ z n).cps.toList=zax n c:=by
 subst hz;have key:∀(m:Nat) (a:Array Nat),((zax m (#[c]:Array Nat)).foldl (· ++ ·) a).toList=a.toList++zax m c:=by
  intro m
  induction m with
  |zero=>intro a;simp
  |succ m ih=>intro a;rw[za3,zaO,ih,zdC,za3,zbg];rfl
 show ((zax n (#[c]:Array Nat)).foldl (· ++ ·) #[]).toList=_;rw[key];rfl
theorem Mc{z:Str}{c:Nat}(n:Nat)(hz:z=⟨#[c]⟩)(Ws:c≠32)(VU:c≠10)(l:60<n)(l2:n<=5000):yh (strOf (V.str (zac "say "++CZ z n))).cps.toList:=by
 have e:(strOf (V.str (zac "say "++CZ z n))).cps.toList=[115,97,121,32]++zax n c:=by
  show ((zac "say ").cps++(CZ z n).cps).toList=_;rw[zdC,Kt hz];have:(zac "say ").cps.toList=[115,97,121,32]:=by decide +kernel
  rw[this]
 rw[e];refine⟨QL (fun h=>Ws (zcN.mp h).2.symm) (by rw[zbA];exact l),by rw[zae,zbA];show 4+n<=5100;lia,fun h=>?_⟩;rcases zam.mp h with h |h
 ·revert h;decide
 ·exact VU (zcN.mp h).2.symm
theorem WE(T:Tx K mg t):bu P w K mg base jh 2 t.nY t.ph ["cell"] Ur:=by
 have bc:=m3 (P:=P) (w:=w) (base:=base) T;refine T.e8.F.uX zy (fun vs H Q E h=>?_) (fun d0 A outer s H vs Q E hr h=>?_)
 ·obtain⟨_,rfl,_⟩:=h;rfl
 obtain⟨c,rfl,q⟩:=h;have nd:=zy.nd;refine⟨_,[some (.int c),none,none,none],(by
  rw[HF];exact(ag (aM (i:=1) nd rfl (zan rfl) (aU (bD (vs:=[.str "",.str " ",.str " stop",.str "stop ",.str "stop 1",.str "stops",.str "Stop",.str "box",.str "box a",.str "box a 2",.str "box a 2 0 0"]) (by kernel_rfl))))
 (ag (aM (i:=1) nd rfl (zan rfl) (aw di (pv 1) (aU (bD (vs:=[.str "box A 2 0",.str "box 2 a 0",.str "box ask 2 0",.str "box a 02 0",.str "box a 2 -1",.str "box a 2 00"]) (by kernel_rfl)))))
 (ag (aM (i:=1) nd rfl (zan rfl) (aw di (pv 1) (aU (bD (vs:=[.str "box a 1000 0",.str "box abcdefghi 2 0",.str "box a1 2 0",.str "box a b 0",.str "box a 2 b",.str "ask",.str "ask 1"]) (by kernel_rfl)))))
 (ag (aM (i:=1) nd rfl (zan rfl) (aw di (pv 1) (aU (bD (vs:=[.str "ask a b",.str "ask A",.str "ask box",.str "ask abcdefghi",.str "ask a1",.str "put",.str "put a",.str "put 1 a"]) (by kernel_rfl)))))
 (ag (aM (i:=1) nd rfl (zan rfl) (aw di (pv 1) (aU (bD (vs:=[.str "put a 1 2",.str "put say 1",.str "put a 1+",.str "put a (1",.str "put abcdefghi 1",.str "say",.str "say 1 2"]) (by kernel_rfl)))))
 (ag (aM (i:=1) nd rfl (zan rfl) (aw di (pv 1) (aU (bD (vs:=[.str "say 1+",.str "say -1",.str "say +1",.str "say 1000",.str "say 00",.str "say 1--2",.str "say ()",.str "say 1)",.str "say A"]) (by kernel_rfl)))))
 (ag (aM (i:=1) nd rfl (zan rfl) (aw di (pv 1) (aU (bD (vs:=[.str "say a1",.str "say must",.str "say 1a",.str "must",.str "must a",.str "must a <",.str "must a < b c",.str "must a > b"]) (by kernel_rfl)))))
 (ag (aM (i:=1) nd rfl (zan rfl) (aw di (pv 1) (aU (bD (vs:=[.str "must 1 == 1",.str "must 1 <= 2",.str "must 1<2",.str "must 1 < 2 <",.str "if",.str "if 1",.str "if 1 <"]) (by kernel_rfl)))))
 (ag (aM (i:=1) nd rfl (zan rfl) (aw di (pv 1) (aU (bD (vs:=[.str "if 1 < 2 3",.str "if 1<2",.str "if 1 > 2",.str "if not 1 < 2",.str "while",.str "while 1",.str "while 1 <"]) (by kernel_rfl)))))
 (ag (aM (i:=1) nd rfl (zan rfl) (aw di (pv 1) (aU (bD (vs:=[.str "while 1 = 1 1",.str "while 1 != 2",.str "else 1",.str "else if",.str "end 1",.str "ends",.str "elif",.str "# stop"]) (by kernel_rfl)))))
 (ag (aM (i:=1) nd rfl (zan rfl) (aw di (pv 1) (aU (bD (vs:=[.str "let a 1",.str "print 1",.str "say  1",.str "box  a 2 0",.str "ask now a"]) (by kernel_rfl)))))
 (ag (aM (i:=1) nd rfl (zan rfl) (aw di (pv 1) (aU (bD (vs:=[.str "if a1 < 2",.str "while 1) = 2",.str "must end < 1",.str "if 1+ < 2",.str "if A < 1",.str "must zz < 1+",.str "if a.b < 1"]) (by kernel_rfl)))))
 (ag (aM (i:=1) nd rfl (zan rfl) (aw di (pv 1) (aU (bD (vs:=[.str "box a 11 x",.str "box a 0 00",.str "box a 99 1 1",.str "box A 11 0",.str "box a x 99",.str "box a 1",.str "box a +2 0"]) (by kernel_rfl)))))
 (ag (aM (i:=1) nd rfl (zan rfl) (aw di (pv 1) (aU (ae au (ae au (ae (aw aJ (aw aJ au (aw jY au ai)) au) (ae au (ae au af aC) aC) cm) aC) aC))))
 (ag (aM (i:=2) nd rfl (zan rfl) (aU (bD (vs:=[.str "box",.str "ask",.str "put",.str "say",.str "if",.str "else",.str "while",.str "must",.str "stop",.str "end"]) (by kernel_rfl))))
 (ag (aM (i:=3) nd rfl (zan rfl) (aX a9 (pv 2) (aw bS (aF bc (hr.mono (by first|decide|omega)) rfl T.ax.m T.ax.F.kp T.ax.b .nil bj (ae (pv 0) (ae ai af aC) ah)) ai) jm))
 (ag (aM (i:=1) nd rfl (zan rfl) (aw di (pv 1) (aU (ae (aw aJ (aw aJ au (pv 3)) au) (ae (aw aJ au (pv 3)) (ae (aw aJ (aw aJ au (pv 3)) au) (ae (aw aJ au (pv 3)) (ae (aw aJ (aw aJ au (pv 3)) au) af cm) cm) cm) cm) cm))))
 (ag (aM (i:=1) nd rfl (zan rfl) (aw di (pv 1) (aU (ae (aw aJ (aw aJ au (aw jY au ai)) au) (ae (aw aJ (aw aJ (aw aJ au (aw jY au ai)) au) (aw jY au ai)) (ae (aw aJ au (aw jY au ai)) (ae (aw aJ au (aw jY au ai)) af cm) cm) cm) cm))))
 (ao (aS (aX a9 (pv 1) (aw bS (aF bc (hr.mono (by first|decide|omega)) rfl T.ax.m T.ax.F.kp T.ax.b .nil bj (ae (pv 0) (ae ai af aC) ah)) (bb bq rfl T.eY PyProof.Rows.Boot.«len» (ae (pv 1) af ah))) jm)))))))))))))))))))))),rfl,?_⟩
 have line:zdX=2 ^ 24:=rfl;refine aG fun U0 hU0=>?_;walk_at "rd";intro p1 f1;generalize e1:upd H p1 _=H1;have s1:=gL e1 f1;obtain⟨M1,y1,b1,l1⟩:=WD (Gi e1) rfl (e6 (by decide +kernel));have l1:M1.length=11:=l1;clear e1;refine(hU0 _ _).mpr (aG fun U1 rZ=>?_);clear hU0;walk_at "rd";refine dJ 17 y1 b1 l1 rfl (e6 (by decide +kernel)) rfl (by decide) fun p2 H2 M2 s2 y2 b2 l2=>(rZ _ _).mpr (aG fun U2 rP=>?_);clear rZ;walk_at "rd";refine dJ 24 y2 b2 l2 rfl (e6 (by decide +kernel)) rfl (by decide) fun p3 H3 M3 s3 y3 b3 l3=>(rP _ _).mpr (aG fun U3 vk=>?_);clear rP;walk_at "rd";refine dJ 32 y3 b3 l3 rfl (e6 (by decide +kernel)) rfl (by decide) fun p4 H4 M4 s4 y4 b4 l4=>(vk _ _).mpr (aG fun U4 zB=>?_);clear vk;walk_at "rd";refine dJ 39 y4 b4 l4 rfl (e6 (by decide +kernel)) rfl (by decide) fun p5 H5 M5 s5 y5 b5 l5=>(zB _ _).mpr (aG fun U5 FL=>?_);clear zB;walk_at "rd";refine dJ 48 y5 b5 l5 rfl (e6 (by decide +kernel)) rfl (by decide) fun p6 H6 M6 s6 y6 b6 l6=>(FL _ _).mpr (aG fun U6 Je=>?_);clear FL;walk_at "rd";refine dJ 56 y6 b6 l6 rfl (e6 (by decide +kernel)) rfl (by decide) fun p7 H7 M7 s7 y7 b7 l7=>(Je _ _).mpr (aG fun U7 Y9=>?_);clear Je;walk_at "rd";refine dJ 63 y7 b7 l7 rfl (e6 (by decide +kernel)) rfl (by decide) fun p8 H8 M8 s8 y8 b8 l8=>(Y9 _ _).mpr (aG fun U8 Za=>?_);clear Y9;walk_at "rd";refine dJ 70 y8 b8 l8 rfl (e6 (by decide +kernel)) rfl (by decide) fun p9 H9 M9 s9 y9 b9 l9=>(Za _ _).mpr (aG fun U9 hU9=>?_);clear Za;walk_at "rd";refine dJ 78 y9 b9 l9 rfl (e6 (by decide +kernel)) rfl (by decide) fun p10 H10 M10 s10 y10 b10 l10=>(hU9 _ _).mpr (aG fun U10 Zb=>?_);clear hU9;walk_at "rd";refine dJ 83 y10 b10 l10 rfl (e6 (by decide +kernel)) rfl (by decide) fun p11 H11 M11 s11 y11 b11 l11=>(Zb _ _).mpr (aG fun U11 Zc=>?_);clear Zb;walk_at "rd";refine dJ 90 y11 b11 l11 rfl (e6 (by decide +kernel)) rfl (by decide) fun p12 H12 M12 Nr y12 b12 l12=>(Zc _ _).mpr (aG fun U12 Zd=>?_);clear Zc;walk_at "rd";refine dJ 97 y12 b12 l12 rfl (e6 (by decide +kernel)) rfl (by decide) fun p13 H13 M13 Xf y13 b13 l13=>(Zd _ _).mpr (aG fun U13 Ze=>?_);clear Zd;have ab5:=((((s1.trans s2).trans (s3.trans s4)).trans ((s5.trans s6).trans (s7.trans s8))).trans (s9.trans s10)).trans ((s11.trans Nr).trans Xf);clear s1 s2 s3 s4 s5 s6 s7 s8 s9 s10 s11 Nr Xf y1 y2 y3 y4 y5 y6 y7 y8 y9 y10 y11 y12 b1 b2 b3 b4 b5 b6 b7 b8 b9 b10 b11 b12;walk_at "rd";refine⟨_,30,rfl,rfl,by decide,by decide,by decide +kernel,_,_,rfl,rfl,by decide +kernel,_,_,rfl,rfl,by decide +kernel,?_⟩;refine dJ 102 y13 b13 l13 rfl (e6 (by decide +kernel)) rfl (by decide) fun p14 H14 M14 Xq y14 b14 l14=>(Ze _ _).mpr (aG fun U14 Zf=>?_);clear Ze;walk_at "rd";intro g1 f1;have el1:([V.str (zac "box"),V.str (zac "ask"),V.str (zac "put"),V.str (zac "say"),V.str (zac "if"),V.str (zac "else"),V.str (zac "while"),V.str (zac "must"),V.str (zac "stop"),V.str (zac "end")]:List V)=Tn.map sv:=by decide +kernel
 rw[el1];generalize eg:upd H14 g1 _=H15;have UA:=gL eg f1;have y15:=UA _ _ y14;have yg:=Gi eg;clear eg;refine(Zf _ _).mpr (aG fun U15 Zg=>?_);clear Zf;walk_at "rd";refine⟨c,75,rfl,by decide,by decide,?_⟩;obtain⟨v1,WG,a1⟩:=kY (L:=Tn.map sv) (n:=10) rfl (by decide) (stir c 75);obtain⟨wd,hw,rfl⟩:=zaI.mp WG;walk_at "rd";refine bC (.of yg) a1 ?_;refine(Zg _ _).mpr (aG fun U16 Zh=>?_);clear Zg;have lw:(S wd).length<=8:=by
  have all:∀n∈Tn,n.length<=8:=by decide
  rw[bZ];exact all wd hw
 have cb:([V.str (zac "box "++S wd++zac " 2 0"),V.str (zac "ask "++S wd),V.str (zac "put "++S wd++zac " 1"),V.str (zac "say 1+"++S wd),V.str (zac "if "++S wd++zac " < 1")]:List V).all (fun v=>QK (strOf v))=true:=by
  have all:∀wd∈Tn,([V.str (zac "box "++S wd++zac " 2 0"),V.str (zac "ask "++S wd),V.str (zac "put "++S wd++zac " 1"),V.str (zac "say 1+"++S wd),V.str (zac "if "++S wd++zac " < 1")]:List V).all (fun v=>QK (strOf v))=true:=by decide +kernel
  exact all wd hw
 have q1:(zac "box ").length<=20:=by decide +kernel
 have q2:(zac " 2 0").length<=20:=by decide +kernel
 have q3:(zac "ask ").length<=20:=by decide +kernel
 have q4:(zac "put ").length<=20:=by decide +kernel
 have q5:(zac " 1").length<=20:=by decide +kernel
 have q6:(zac "say 1+").length<=20:=by decide +kernel
 have q7:(zac "if ").length<=20:=by decide +kernel
 have q8:(zac " < 1").length<=20:=by decide +kernel
 walk_at "rd";refine⟨_,S wd,rfl,rfl,by lia,_,_,rfl,rfl,by rw[strLen_append];lia,_,S wd,rfl,rfl,by lia,_,S wd,rfl,rfl,by lia,_,_,rfl,rfl,by rw[strLen_append];lia,_,S wd,rfl,rfl,by lia,_,S wd,rfl,rfl,by lia,_,_,rfl,rfl,by rw[strLen_append];lia,?_⟩;refine dJ 107 y15 b14 l14 rfl (e6 cb) rfl (by decide) fun p17 H17 M17 s17 y17 b17 l17=>(Zh _ _).mpr (aG fun U17 Zi=>?_);clear Zh;walk_at "rd";refine⟨_,30,rfl,rfl,by decide,by decide,by decide +kernel,_,_,rfl,rfl,by decide +kernel,_,_,rfl,rfl,by decide +kernel,_,6,rfl,rfl,by decide,by decide,by decide +kernel,_,_,rfl,rfl,by decide +kernel,_,_,rfl,rfl,by decide +kernel,_,6,rfl,rfl,by decide,by decide,by decide +kernel,_,_,rfl,rfl,by decide +kernel,_,900,rfl,rfl,by decide,by decide,by decide +kernel,_,_,rfl,rfl,?g1,_,5000,rfl,rfl,by decide,by decide,by decide +kernel,_,_,rfl,rfl,?g2,?_⟩
 case g1=>rw[GX];decide +kernel
 case g2=>rw[GX];decide +kernel
 refine dJ 111 y17 b17 l17 rfl (fun v hv=>?_) rfl (by decide) fun p18 H18 M18 s18 y18 b18 l18=>(Zi _ _).mpr ?_
 ·simp only[zai,za2,or_false] at hv;rcases hv with rfl |rfl |rfl |rfl
  ·exact Fd (by decide +kernel)
  ·exact Fd (by decide +kernel)
  ·exact Mc (c:=40) 900 (by decide +kernel) (by decide) (by decide) (by decide) (by decide)
  ·exact Mc (c:=57) 5000 (by decide +kernel) (by decide) (by decide) (by decide) (by decide)
 clear Zi;refine⟨c,70,rfl,by decide,by decide,p18,_,rfl,.inl (.of y18),?_⟩;have lz:(M18.map V.str).length=111:=by rw[zaj,l18]
 rw[lz];obtain⟨v2,To,a2⟩:=kY (L:=M18.map V.str) (n:=111) lz (by decide) (stir c 70);obtain⟨z,hz,rfl⟩:=zaI.mp To;refine⟨_,_,rfl,rfl,(show (0:Int)<((111:Nat):Int) by decide),bC (.of y18) a2 ?_⟩;exact q z.cps.toList _ ((ab5.trans Xq).trans (UA.trans (s17.trans s18))) (b18 z hz)
theorem Tp{ns:List W}{x:W}(h:x∈ns):∀y∈PM.lC (.box x),y∈ns:=fun y hy=>by rw[zad.mp hy];exact h
theorem Zj(T:Tx K mg t):bu P w K mg base jh 1 t.jd t.jx ["number", "names"] (S5 K):=by
 refine T.jg.F.uX xk (fun vs H Q E h=>?_) (fun d0 A outer s H vs Q E hr h=>?_)
 ·obtain⟨_,_,_,rfl,_⟩:=h;rfl
 obtain⟨n,a,ns,rfl,h0,hS,hN,q⟩:=h;have nd:=xk.nd;refine⟨_,[some (V.int n),some (.ref a)],(ag (bo (PW.pt (pw_and (aH cC (aw bS (pv 0) ai) ai (aT _)) (pw_and1 (aH (Ef (OS hr)) (pv 1) (aU af) (aT _)))))
 (ao (aS (cp (ae au (ae (aX a9 (pv 1) (aw bS (aw dZ (pv 0) ai) (bb bq rfl T.eY PyProof.Rows.Boot.«len» (ae (pv 1) af ah))) jm) af bJ) aC))))
 aQ)
 (ao (aS (cp (ae au (ae (aw bS (aw dZ (pv 0) ai) (aX a9 (aU (bD (vs:=[.int 10,.int 1000]) (by kernel_rfl))) (aw bS (aw dZ (pv 0) ai) ai) jm)) af cm) aC))))),rfl,?_⟩
 have num:∀H0,ay H H0->∀p,H0 p=none->Sa K (V.ref p) (V.int (n/20%2)) (upd H0 p (.lst [V.int 10,V.int 1000])) fun x H1=>rI (fun _ j=>0<j) (fun i j=>V.int (i%j)) (V.int (n/2)) x H1 fun y H2=>∀p2,H2 p2=none->Q (.ref p2) (upd H2 p2 (.tup [V.str (zac "number"),y])):=fun H0 s0 p hp=>by
  refine Pd (Ld (f:=V.int) (xs:=([10,1000]:List Int)) 1 (by lia) (by show n/20%2<2;lia)) ?_;have pos:0<([10,1000]:List Int).getD (n/20%2).toNat 1/\([10,1000]:List Int).getD (n/20%2).toNat 1<=1000:=by
   have:n/20%2=0\/n/20%2=1:=by lia
   rcases this with z |z<;>rw[z]<;>decide
  generalize ([10,1000]:List Int).getD (n/20%2).toNat 1=g at *;refine⟨_,_,rfl,rfl,pos.1,fun p2 Rb=>?_⟩;have m1:=zaY (n/2) (show g≠0 by lia);have m2:=zaT (n/2) pos.1;exact q _ (.num (n/2%g)) _ ((s0.sE hp _).sE Rb _) (Rep.new Rb (.cons (Rep.a8.mpr rfl) (.cons (Rep.cN.mpr rfl) .nil))) ⟨⟨m1,by lia⟩,fun x hx=>(by cases hx),zah _,zah _⟩
 walk_at "rd";refine cu (fun hc=>?_) (fun hc=>?_)
 ·intro p hp;refine⟨a,p,ns.map sv,rfl,rfl,(ay.new hp _).seq hS,.of aj,?_⟩;have s1:=ay.new hp (.lst []);generalize upd H p (.lst [])=H1 at *;cases he:ns with
  |nil=>
   rw[if_neg (by simp)];exact num H1 s1
  |cons y r=>
   rw[if_pos (by simp)];have hl:(ns.map sv).length=ns.length:=zaj _;have lp:0<ns.length:=by rw[he];exact Nat.succ_pos _
   refine⟨a,ns.map sv,rfl,.inl (s1.seq hS),by rw[hl];lia,?_⟩;rw[hl];obtain⟨v1,WG,a1⟩:=kY (L:=ns.map sv) (n:=ns.length) hl lp (n/2);obtain⟨x,hx,rfl⟩:=zaI.mp WG;refine bC (s1.seq hS) a1 fun p2 Rb=>?_;exact q _ (.box x) _ (s1.sE Rb _) (Rep.new Rb (.cons (Rep.a8.mpr rfl) (.cons (Rep.a8.mpr rfl) .nil))) ⟨hN.ok x hx,Tp hx,zah _,zah _⟩
 ·rw[if_neg zal];exact num H (ay.refl _)
theorem Zk(T:Tx K mg t){n:Nat}(pC:bu P w K mg base jh (n+2) t.gp t.gP ["cell", "k", "deep", "names"] (QS K n)) :
 bu P w K mg base jh (n+3) t.gp t.gP ["cell", "k", "deep", "names"] (QS K (n+1)):=by
 have bc:bu P w K mg base jh 1 t.jc t.jv ["cell", "k"] JG:=m3 T;have Ig:bu P w K mg base jh 1 t.jd t.jx ["number", "names"] (S5 K):=Zj T;refine T.cX.F.uX xl (fun vs H Q E h=>?_) (fun d0 A outer s H vs Q E hr h=>?_)
 ·obtain⟨_,_,_,_,_,rfl,_⟩:=h;rfl
 obtain⟨cell,k,d,a,ns,rfl,h0,h1,hd,hS,hN,q⟩:=h;have nd:=xl.nd;refine⟨_,[some (V.int cell),some (V.int k),some (V.int d),some (.ref a),none,none],(ag (aM (i:=4) nd rfl (zan rfl) (aF bc (hr.mono (by first|decide|omega)) rfl T.ax.m T.ax.F.kp T.ax.b .nil bj (ae (pv 0) (ae (pv 1) af ah) ah)))
 (ag (bo (PW.pt (pw_or (aH cC (pv 2) ai (aT _)) (pw_or1 (aH cC (aw bS (pv 4) ai) ai (aT _)))))
 (ao (aS (aF Ig (hr.mono (by first|decide|omega)) rfl T.jg.m T.jg.F.kp T.jg.b .nil bj (ae (aw dZ (pv 4) ai) (ae (pv 3) af ah) cm))))
 aQ)
 (ag (aM (i:=5) nd rfl (zan rfl) (aX sq au (aw bS (aw dZ (pv 4) ai) ai) jm))
 (ao (aS (cp (ae (pv 5) (ae (aF pC (hr.mono (by first|decide|omega)) rfl T.cX.m T.cX.F.kp T.cX.b .nil bj (ae (pv 0) (ae (aw dR (aw vz ai (pv 1)) ai) (ae (aw vw (pv 2) ai) (ae (pv 3) af ah) cm) cm) ah)) (ae (aF pC (hr.mono (by first|decide|omega)) rfl T.cX.m T.cX.F.kp T.cX.b .nil bj (ae (pv 0) (ae (aw dR (aw vz ai (pv 1)) ai) (ae (aw vw (pv 2) ai) (ae (pv 3) af ah) cm) cm) ah)) af bH) bH) ah))))))),rfl,?_⟩
 walk_at "rd";simp only[wR];walk_at "rd";obtain⟨b0,b1⟩:=jZ cell k;have hk:k+2<=(k+2)*2 ^ d:=by
  have:(1:Int)<=2 ^ d:=by exact_mod_cast zcO
  have:=zcz this (show 0<=k+2 by lia);lia
 have UC:S5 K [V.int (stir cell k/3),V.ref a] H Q E0:=.mk _ a ns rfl (by lia) hS hN fun v t H' s1 r dt=>q v t H' s1 r ⟨dt.ok,dt.nm,zay dt.ht (zaU _),zay dt.lv (by have:=zcO (n:=d);simpa using this)⟩;refine⟨h0,by lia,?_⟩;refine cu (fun hd0=>?_) (fun hd0=>?_)
 ·rw[if_pos trivial];exact UC
 refine cu (fun hm=>UC) (fun hm=>?_);obtain⟨d,rfl⟩:∃d',d=d'+1:=⟨d-1,by lia⟩
 have e1:((d+1:Nat):Int)-1=((d:Nat):Int):=by lia
 rw[e1];have k2:(2*k+2+2)*2 ^ d<=1000/\(2*k+1+2)*2 ^ d<=1000:=by
  have hp:(1:Int)<=2 ^ d:=by exact_mod_cast zcO
  have z1:(k+2)*2 ^ (d+1)=(2*k+2+2)*2 ^ d:=by
   rw[Int.pow_succ,Int.mul_comm (2 ^ d) 2,<- Int.mul_assoc]
   congr 1
   lia
  rw[z1] at h1;have z2:(2*k+1+2)*2 ^ d<=(2*k+2+2)*2 ^ d:=zbZ (by lia) (by lia);lia
 refine⟨_,_,_,rfl,rfl,EU (by decide),Ld (f:=fun c=>c) (xs:=[43,45,42]) 0 (by lia) (by show stir cell k/3%3<3;lia),?_⟩;have op:∃o:W,V.str ⟨#[([43,45,42]:List Nat).getD (stir cell k/3%3).toNat 0]⟩=.str (S o)/\(o=[43]\/o=[45]\/o=[42]):=by
  have:stir cell k/3%3=0\/stir cell k/3%3=1\/stir cell k/3%3=2:=by lia
  rcases this with z |z |z<;>rw[z]
  ·exact⟨[43],rfl,.inl rfl⟩
  ·exact⟨[45],rfl,.inr (.inl rfl)⟩
  ·exact⟨[42],rfl,.inr (.inr rfl)⟩
 obtain⟨o,eo,ho⟩:=op;refine⟨mulL (by decide) (by decide),.mk _ _ d a ns rfl (by lia) k2.2 (by lia) hS hN fun v1 t1 H1 s1 r1 dt1=>?_⟩;refine⟨mulL (by decide) (by decide),.mk _ _ d a ns rfl (by lia) k2.1 (by lia) (s1.seq hS) hN fun v2 t2 H2 s2 r2 dt2=>fun p hp=>?_⟩;refine q _ (.bin o t1 t2) _ ((s1.trans s2).sE hp _) ?_ ⟨⟨ho,dt1.ok,dt2.ok⟩,fun x hx=>(zam.mp hx).elim (dt1.nm x) (dt2.nm x),?_,?_⟩
 ·refine Rep.new hp (.cons (Rep.a8.mpr eo) (.cons (r1.mono s2) (.cons r2 .nil)))
 ·have h1:=dt1.ht;have h2:=dt2.ht;show max (VP t1) (VP t2)+1<=d+1;lia
 ·have h1:=dt1.lv;have h2:=dt2.lv;show RQ t1+RQ t2<=2 ^ (d+1);rw[Nat.pow_succ];lia
theorem Rk(T:Tx K mg t):∀n,bu P w K mg base jh (n+2) t.gp t.gP ["cell", "k", "deep", "names"] (QS K n)
 |0=>by
  have no:∀vs H Q E,¬QS K 0 vs H Q E:=fun vs H Q E h=>by cases h;lia
  exact⟨fun vs H Q E h=>absurd h (no vs H Q E),fun A outer s H args us vs Q E _ _ _ _ h=>absurd h (no vs H Q E)⟩
 |n+1=>Zk T (Rk T n)
theorem Nu(T:Tx K mg t){n:Nat}(kZ:bu P w K mg base jh n t.eF t.eT ["tree", "more"] (wU K n)) :
 bu P w K mg base jh (n+1) t.eF t.eT ["tree", "more"] (wU K (n+1)):=by
 refine T.cE.F.uX tP (fun vs H Q E h=>?_) (fun d0 A outer s H vs Q E hr h=>?_)
 ·obtain⟨_,_,_,rfl,_⟩:=h;rfl
 obtain⟨v,m,tr,rfl,hv,ok,ht,lv,hm,q⟩:=h;have nd:=tP.nd;refine⟨_,[some v,some (.int m),none,none],(ag (bo (aH cC (bb bq rfl T.eY PyProof.Rows.Boot.«len» (ae (pv 0) af ah)) ai (aT _))
 (ao (aS (gJ qP rfl T.HP PyProof.Rows.Boot.«str» (ae (aX cG (pv 0) ai aK) af bJ))))
 aQ)
 (ag (aM (i:=2) nd rfl (zan rfl) (aF kZ (hr.mono (by first|decide|omega)) rfl T.cE.m T.cE.F.kp T.cE.b .nil bj (ae (aX cG (pv 0) ai aK) (ae (aw dZ (pv 1) ai) af cm) bJ)))
 (ag (aM (i:=3) nd rfl (zan rfl) (aF kZ (hr.mono (by first|decide|omega)) rfl T.cE.m T.cE.F.kp T.cE.b .nil bj (ae (aX cG (pv 0) ai aK) (ae (aw dZ (pv 1) ai) af cm) bJ)))
 (ag (bo (PW.pt (pw_or (PW.pt (pw_and (aH cC (aX cG (pv 0) ai aK) au (aT _)) (pw_and1 (aH i4 (aX cG (aX cG (pv 0) ai aK) ai aK) (aU (bD (vs:=[.str "+",.str "-"]) (by kernel_rfl))) rfl)))) (pw_or1 (aH cC (aw bS (pv 1) ai) ai (aT _)))))
 (ao (aM (i:=2) nd rfl (zan rfl) (aw aJ (aw aJ au (pv 2)) au)))
 aQ)
 (ag (bo (PW.pt (pw_or (aH i4 (aX cG (aX cG (pv 0) ai aK) ai aK) (aU (bD (vs:=[.str "+",.str "-"]) (by kernel_rfl))) rfl) (pw_or (PW.pt (pw_and (aH cC (aX cG (pv 0) ai aK) au (aT _)) (pw_and1 (aH cC (aX cG (aX cG (pv 0) ai aK) ai aK) au (aT _))))) (pw_or1 (aH cC (aw bS (pv 1) ai) ai (aT _))))))
 (ao (aM (i:=3) nd rfl (zan rfl) (aw aJ (aw aJ au (pv 3)) au)))
 aQ)
 (ao (aS (aw aJ (aw aJ (pv 2) (aX cG (pv 0) ai aK)) (pv 3))))))))),rfl,?_⟩
 have line:zdX=2 ^ 24:=rfl;have lit:V.str (zac "*")=sv [42]/\([V.str (zac "+"),V.str (zac "-")]:List V)=([[43],[45]]:List W).map sv:=by decide +kernel
 have br:∀x:W,zac "("++S x++zac ")"=S (PM.put true x):=fun x=>by
  have e1:zac "("=S [40]:=by decide +kernel
  have e2:zac ")"=S [41]:=by decide +kernel
  rw[e1,e2,gb,gb];rfl
 have l1:(zac "(").length=1:=by decide +kernel
 have l2:(zac ")").length=1:=by decide +kernel
 have brk:∀(x:W) (R:V->Prop),x.length<=1000->R (sv (PM.put true x))->∃i j,zac "("=i/\sv x=V.str j/\i.length+j.length<=zdX/\∃i_1 j_1,i++j=i_1/\zac ")"=j_1/\i_1.length+j_1.length<=zdX/\R (V.str (i_1++j_1)):=fun x R hx hR=>by
  refine⟨_,S x,rfl,rfl,by rw[l1,bZ];lia,_,_,rfl,rfl,?_,?_⟩
  ·have e1:zac "("=S [40]:=by decide +kernel
   rw[e1,gb,bZ,l2,zae];have:([40]:W).length=1:=rfl;lia
  ·rw[br];exact hR
 have wl:=j1 tr m ok;cases tr with
 |num k=>
  unfold mJ at hv;simp only[Rep.bV,a7.bh,a7.bE,Rep.a8,Rep.cN] at hv;obtain⟨a,xs,rfl,hS,_,_,rfl,rfl,_,_,rfl,rfl,rfl⟩:=hv;refine aG fun U hU=>?_;walk_at "rd";refine⟨a,_,rfl,.inr hS,?_⟩;refine(if_pos rfl).mpr ?_;obtain⟨k0,k1⟩:0<=k/\k<=999:=ok;refine bI hS rfl (.inl ⟨k,rfl,?_,?_⟩)
  ·have:k.natAbs<1000:=by lia
   by_cases h0:k.natAbs=0
   ·rw[h0];decide
   ·exact zaH ((zdO h0).mpr (zdL this (by decide:1000<2 ^ 10))) (by decide)
  ·have e:V.str (zac (toString k))=sv (PM.cj (.num k) m):=by
    show _=sv (PM.dig k.toNat);unfold sv
    congr 1
    have hk:k=((k.toNat:Nat):Int):=by lia
    rw[Str.ofString_eq_toList]
    conv=>lhs;rw[hk]
    show (⟨((toString ((k.toNat:Nat):Int)).toList.map Char.toNat).toArray⟩:Str)=S ((zb7 10 k.toNat).map Char.toNat);have e2:(toString ((k.toNat:Nat):Int)).toList=zb7 10 k.toNat:=by
     show (Nat.repr k.toNat).toList=_;unfold Nat.repr;exact String.toList_ofList
    rw[e2];rfl
   rw[e];exact q H (ay.refl _)
 |box x=>
  unfold mJ at hv;simp only[Rep.bV,a7.bh,a7.bE,Rep.a8,Rep.cN] at hv;obtain⟨a,xs,rfl,hS,_,_,rfl,rfl,_,_,rfl,rfl,rfl⟩:=hv;refine aG fun U hU=>?_;walk_at "rd";refine⟨a,_,rfl,.inr hS,?_⟩;refine(if_pos rfl).mpr ?_;exact bI hS rfl (.inr ⟨S x,rfl,q H (ay.refl _)⟩)
 |bin o l r=>
  unfold mJ at hv;simp only[Rep.bV,a7.bh,a7.bE,Rep.a8] at hv;obtain⟨a,xs,rfl,hS,_,_,rfl,rfl,vl,_,rfl,hl,vr,_,rfl,Bw,rfl⟩:=hv;obtain⟨ho,So,Sq⟩:=ok;unfold VP at ht;unfold RQ at lv wl;have wl1:=j1 l (m/2) So;have wl2:=j1 r (m/3) Sq;have ol:o.length=1:=by rcases ho with rfl |rfl |rfl<;>rfl
  refine aG fun U1 rZ=>?_;walk_at "rd";refine⟨a,_,rfl,.inr hS,?_⟩;refine(if_neg (show ¬((3:Nat):Int)=2 by decide)).mpr ?_;refine(rZ _ _).mpr (aG fun U2 rP=>?_);walk_at "rd";refine bI hS rfl ⟨vl,_,l,rfl,hl,So,by lia,by lia,by lia,fun H1 s1=>?_⟩;refine(rP _ _).mpr (aG fun U3 vk=>?_);walk_at "rd";refine bI (s1.gK hS) rfl ⟨vr,_,r,rfl,Bw.mono s1,Sq,by lia,by lia,by lia,fun H2 s2=>?_⟩;have Nr:=s1.trans s2;have first:∀ {H':Hp} {tr:PM.Tr} {v:V} {R:V->Hp->Prop},Rep K H' (mJ tr) v->(∀y:W,(PM.uY tr=([[43],[45]]:List W).contains y)->(PM.isMul tr=decide (y=[42]))->R (sv y) H')->OM K v (V.int 0) H' R:=fun {H' tr v R} hr hR=>by
   have num:V.str (zac "number")=sv [110,117,109,98,101,114]:=by decide +kernel
   have box:V.str (zac "box")=sv [98,111,120]:=by decide +kernel
   cases tr with
   |num k=>
    unfold mJ at hr;simp only[Rep.bV,a7.bh,a7.bE,Rep.a8,Rep.cN] at hr;obtain⟨a,xs,rfl,hS,_,_,rfl,rfl,_,_,rfl,rfl,rfl⟩:=hr;exact bI hS rfl (by rw[num];exact hR _ rfl rfl)
   |box x=>
    unfold mJ at hr;simp only[Rep.bV,a7.bh,a7.bE,Rep.a8,Rep.cN] at hr;obtain⟨a,xs,rfl,hS,_,_,rfl,rfl,_,_,rfl,rfl,rfl⟩:=hr;exact bI hS rfl (by rw[box];exact hR _ rfl rfl)
   |bin o l r=>
    unfold mJ at hr;simp only[Rep.bV,a7.bh,a7.bE,Rep.a8] at hr;obtain⟨a,xs,rfl,hS,_,_,rfl,rfl,_,_,rfl,_,_,_,rfl,_,rfl⟩:=hr;refine bI hS rfl (hR o ?_ rfl);show (decide (o=[43]) ||decide (o=[45]))=_;simp only[List.contains_cons,List.contains_nil,zcT]
    congr 1<;>rw[zbv]<;>simp
  refine(vk _ _).mpr (aG fun U4 zB=>?_);have UD:∀(lw:W) (H':Hp),ay H H'->lw=PM.put (PM.zF o l m) (PM.cj l (m/2))->U4 [some (.ref a),some (.int m),some (sv lw),some (sv (PM.cj r (m/3)))] H':=fun lw H' s' hlw=>by
   refine(zB _ _).mpr (aG fun U5 FL=>?_);have pl:=Ac (PM.zF o l m) (PM.cj l (m/2));have pr:=Ac (PM.zc o r m) (PM.cj r (m/3));have UE:∀(TZ:W) (H':Hp),ay H H'->TZ=PM.put (PM.zc o r m) (PM.cj r (m/3))->U5 [some (.ref a),some (.int m),some (sv lw),some (sv TZ)] H':=fun TZ H' s' hrw=>by
    refine(FL _ _).mpr ?_;walk_at "rd";refine bI (s'.gK hS) rfl ⟨S lw,S o,rfl,rfl,by rw[bZ,bZ,hlw];lia,_,S TZ,rfl,rfl,?_,?_⟩
    ·rw[gb,bZ,bZ,zae,hlw,hrw];lia
    ·rw[gb,gb];have:=q H' s';rw[hlw,hrw];exact this
   walk_at "rd";refine bI (s'.gK hS) rfl (first (Bw.mono s') fun y hs hmu=>?_);intro p hp;refine⟨p,_,rfl,.inl (.of aj),rfl,rfl,_,rfl,?_⟩;rw[if_neg zal,lit.2,in_words,<- hs];have Gv:ay H (upd H' p (.lst (([[43],[45]]:List W).map sv))):=s'.sE hp _;generalize upd H' p (.lst (([[43],[45]]:List W).map sv))=WH at *;have yes:PM.zc o r m=true->∀H',ay H H'->U5 [some (.ref a),some (.int m),some (sv lw),some (sv (PM.put true (PM.cj r (m/3))))] H':=fun hb H' s'=>UE _ H' s' (by rw[hb]);have no:PM.zc o r m=false->∀H',ay H H'->U5 [some (.ref a),some (.int m),some (sv lw),some (sv (PM.cj r (m/3)))] H':=fun hb H' s'=>UE _ H' s' (by rw[hb];rfl);refine cu (fun c1=>?_) (fun c1=>?_)
   ·rw[if_pos trivial];exact brk _ (fun v=>U5 [some (.ref a),some (.int m),some (sv lw),some v] WH) (by lia) (yes (by simp[PM.zc,c1]) _ Gv)
   have c1':PM.uY r=false:=by simpa using c1
   refine bI (Gv.gK hS) rfl ⟨rfl,?_⟩;rw[lit.1];refine cu (fun c2=>?_) (fun c2=>?_)
   ·have eo:o=[42]:=gX.mp c2;refine bI (Gv.gK hS) rfl (first (Bw.mono Gv) fun y2 TR hm2=>⟨rfl,?_⟩);refine cu (fun c3=>?_) (fun c3=>?_)
    ·rw[if_pos trivial];have:PM.isMul r=true:=by rw[hm2,gX.mp c3];rfl
     exact brk _ (fun v=>U5 [some (.ref a),some (.int m),some (sv lw),some v] WH) (by lia) (yes (by simp[PM.zc,this,eo]) _ Gv)
    ·have hm3:PM.isMul r=false:=by rw[hm2];exact decide_eq_false fun e=>c3 (by rw[e])
     refine cu (fun c4=>?_) (fun c4=>?_)
     ·exact brk _ (fun v=>U5 [some (.ref a),some (.int m),some (sv lw),some v] WH) (by lia) (yes (by simp[PM.zc,c4]) _ Gv)
     ·exact no (by simp[PM.zc,c4,hm3,c1']) _ Gv
   ·have eo:¬o=[42]:=fun e=>c2 (by rw[e];rfl);rw[if_neg zal];refine cu (fun c4=>?_) (fun c4=>?_)
    ·exact brk _ (fun v=>U5 [some (.ref a),some (.int m),some (sv lw),some v] WH) (by lia) (yes (by simp[PM.zc,c4]) _ Gv)
    ·exact no (by simp[PM.zc,c4,eo,c1']) _ Gv
  walk_at "rd";have yes:PM.zF o l m=true->∀H',ay H H'->U4 [some (.ref a),some (.int m),some (sv (PM.put true (PM.cj l (m/2)))),some (sv (PM.cj r (m/3)))] H':=fun hb H' s'=>UD _ H' s' (by rw[hb]);have no:PM.zF o l m=false->∀H',ay H H'->U4 [some (.ref a),some (.int m),some (sv (PM.cj l (m/2))),some (sv (PM.cj r (m/3)))] H':=fun hb H' s'=>UD _ H' s' (by rw[hb];rfl);refine bI (Nr.gK hS) rfl ⟨rfl,?_⟩;rw[lit.1];refine cu (fun c2=>?_) (fun c2=>?_)
  ·have eo:o=[42]:=gX.mp c2;refine bI (Nr.gK hS) rfl (first (hl.mono Nr) fun y hs hmu=>?_);intro p hp;refine⟨p,_,rfl,.inl (.of aj),rfl,rfl,_,rfl,?_⟩;rw[if_neg zal,lit.2,in_words,<- hs];have Gv:ay H (upd H2 p (.lst (([[43],[45]]:List W).map sv))):=Nr.sE hp _;generalize upd H2 p (.lst (([[43],[45]]:List W).map sv))=WH at *;refine cu (fun c1=>?_) (fun c1=>?_)
   ·rw[if_pos trivial];exact brk _ (fun v=>U4 [some (.ref a),some (.int m),some v,some (sv (PM.cj r (m/3)))] WH) (by lia) (yes (by simp[PM.zF,c1,eo]) _ Gv)
   ·have c1':PM.uY l=false:=by simpa using c1
    refine cu (fun c4=>?_) (fun c4=>?_)
    ·exact brk _ (fun v=>U4 [some (.ref a),some (.int m),some v,some (sv (PM.cj r (m/3)))] WH) (by lia) (yes (by simp[PM.zF,c4]) _ Gv)
    ·exact no (by simp[PM.zF,c4,c1']) _ Gv
  ·have eo:¬o=[42]:=fun e=>c2 (by rw[e];rfl);rw[if_neg zal];refine cu (fun c4=>?_) (fun c4=>?_)
   ·exact brk _ (fun v=>U4 [some (.ref a),some (.int m),some v,some (sv (PM.cj r (m/3)))] H2) (by lia) (yes (by simp[PM.zF,c4]) _ Nr)
   ·exact no (by simp[PM.zF,c4,eo]) _ Nr
theorem Ca(T:Tx K mg t):∀n,bu P w K mg base jh n t.eF t.eT ["tree", "more"] (wU K n)
 |0=>by
  have no:∀vs H Q E,¬wU K 0 vs H Q E:=fun vs H Q E h=>by cases h;lia
  exact⟨fun vs H Q E h=>absurd h (no vs H Q E),fun A outer s H args us vs Q E _ _ _ _ h=>absurd h (no vs H Q E)⟩
 |n+1=>Nu T (Ca T n)
theorem Ku(T:Tx K mg t):bu P w K mg base jh 1 t.gq t.iq ["word"] MK:=by
 refine T.eU.F.uX rL (fun vs H Q E h=>?_) (fun d0 A outer s H vs Q E hr h=>?_)
 ·obtain⟨_,rfl,_⟩:=h;rfl
 obtain⟨wd,rfl,hl,q⟩:=h;have nd:=rL.nd;refine⟨_,[some (sv wd),none,none,none],(ag (aM (i:=1) nd rfl (zan rfl) ai)
 (ag (aM (i:=2) nd rfl (zan rfl) ai)
 (ag (si PassesOwn.never rfl (JD (pv 0)) (cF (i:=3) nd rfl (zan rfl))
 (ag (aM (i:=1) nd rfl (zan rfl) (aw vw (aw dR (pv 1) (gJ zh rfl T.EC PyProof.Rows.Boot.«int» (ae (mQ cC (pv 3) au (aT _)) af Pg))) (gJ zh rfl T.EC PyProof.Rows.Boot.«int» (ae (mQ cC (pv 3) au (aT _)) af Pg))))
 (ao (aM (i:=2) nd rfl (zan rfl) (bb (Mn rfl) rfl T.Q6 PyProof.Rows.Boot.«max» (ae (pv 2) (ae (pv 1) af ah) ah))))))
 (ao (aS (pv 2)))))),rfl,?_⟩
 walk_at "rd";refine⟨S wd,rfl,Ln (z:=S wd) (fun i σ H2=>∃a:Option V,σ=[some (sv wd),some (.int ((wd.take i).foldl fg (0,0)).1),some (.int ((wd.take i).foldl fg (0,0)).2),a]/\H2=H)
  ⟨none,rfl,rfl⟩ ?_ ?_⟩
 ·rintro i c σ H2 hi ⟨a,rfl,rfl⟩
  have RN:wd[i]?=some c:=hi;obtain⟨lQ,hci⟩:=zar.mp RN;have tk:wd.take (i+1)=wd.take i++[c]:=by rw[zbk lQ,hci]
  rw[tk,zbI];generalize (wd.take i).foldl fg (0,0)=st;walk_at "rd";obtain⟨d,m⟩:=st;have e1:(({cps:=#[c]}:Str)=zac "(")↔c=40:=⟨fun e=>by have:=congrArg (fun z:Str=>z.cps.toList) e;injection (this:[c]=[40]),fun e=>by rw[e];rfl⟩
  have e2:(({cps:=#[c]}:Str)=zac ")")↔c=41:=⟨fun e=>by have:=congrArg (fun z:Str=>z.cps.toList) e;injection (this:[c]=[41]),fun e=>by rw[e];rfl⟩
  refine⟨_,rfl,_,rfl,_,_,rfl,some (V.str {cps:=#[c]}),?_⟩;have mx:∀i j:Int,(if j>i then j else i)=max i j:=fun i j=>by split<;>lia
  have ed:(d+if decide (({cps:=#[c]}:Str)=zac "(")=true then (1:Int) else 0)-(if decide (({cps:=#[c]}:Str)=zac ")")=true then (1:Int) else 0)=(fg (d,m) c).1:=by
   simp only[decide_eq_true_eq,e1,e2];by_cases c1:c=40
   ·simp[fg,c1]
   ·by_cases c2:c=41
    ·simp[fg,c2]
    ·simp[fg,c1,c2]
  have em:(fg (d,m) c).2=max m (fg (d,m) c).1:=by
   by_cases c1:c=40
   ·simp[fg,c1]
   ·by_cases c2:c=41
    ·simp[fg,c2]
    ·simp[fg,c1,c2]
  rw[zaO,List.foldl_nil];show [some (sv wd),some (V.int ((d+if decide (({cps:=#[c]}:Str)=zac "(")=true then (1:Int) else 0)-(if decide (({cps:=#[c]}:Str)=zac ")")=true then (1:Int) else 0))),_,_]=_;rw[mx];simp only[ed,em]
 ·rintro σ H2 ⟨a,rfl,rfl⟩
  walk_at "rd";have e:wd.take (S wd).length=wd:=by rw[bZ,zbz]
  rw[e];exact q _ (ay.refl _)
theorem UG(T:Tx K mg t):bu P w K mg base jh 7 t.lH t.mX ["cell", "k", "names"] (YX K):=by
 have bc:=m3 (P:=P) (w:=w) (base:=base) T;have pC:=Rk (P:=P) (w:=w) (base:=base) T 4;have kZ:=Ca (P:=P) (w:=w) (base:=base) T 4;have Cb:=Ku (P:=P) (w:=w) (base:=base) T;refine T.cD.F.uX xm (fun vs H Q E h=>?_) (fun d0 A outer s H vs Q E hr h=>?_)
 ·obtain⟨_,_,_,_,rfl,_⟩:=h;rfl
 obtain⟨cell,k,a,ns,rfl,hk,hS,hN,q⟩:=h;have nd:=xm.nd;refine⟨_,[some (.int cell),some (.int k),some (.ref a),none,none,none],(@ag _ _ _ _ _ (@aM _ _ 3 _ _ _ _ nd rfl (zan rfl) (@aF _ _ _ _ _ _ _ _ _ _ _ _ _ _ _ _ pC (hr.mono (by first|decide|omega)) rfl T.cX.m T.cX.F.kp T.cX.b .nil bj (@ae _ _ _ _ _ (pv 0) (@ae _ _ _ _ _ (pv 1) (@ae _ _ _ _ _ (@aw _ _ _ _ _ _ _ _ (@bS _) (@aF _ _ _ _ _ _ _ _ _ _ _ _ _ _ _ _ bc (hr.mono (by first|decide|omega)) rfl T.ax.m T.ax.F.kp T.ax.b .nil bj (@ae _ _ _ _ _ (pv 0) (@ae _ _ _ _ _ (@aw _ _ _ _ _ _ _ _ (@dR _) (pv 1) (@ai _ _ _ _)) (@af _) (@cm _ _ _ _ _ _)) (@ah _ _ _ _)) (by first |rfl |exact .inl rfl |exact .inr rfl |decide |(intro _;rfl) |assumption) (by first |rfl |exact .inl rfl |exact .inr rfl |decide |(intro _;rfl) |assumption) (by first |rfl |exact .inl rfl |exact .inr rfl |decide |(intro _;rfl) |assumption)) (@ai _ _ _ _)) (@ae _ _ _ _ _ (pv 2) (@af _) (@ah _ _ _ _)) (@cm _ _ _ _ _ _)) (@ah _ _ _ _)) (@ah _ _ _ _)) (by first |rfl |exact .inl rfl |exact .inr rfl |decide |(intro _;rfl) |assumption) (by first |rfl |exact .inl rfl |exact .inr rfl |decide |(intro _;rfl) |assumption) (by first |rfl |exact .inl rfl |exact .inr rfl |decide |(intro _;rfl) |assumption)) (by first |rfl |exact .inl rfl |exact .inr rfl |decide |(intro _;rfl) |assumption) (by first |rfl |exact .inl rfl |exact .inr rfl |decide |(intro _;rfl) |assumption)) (@ag _ _ _ _ _ (@si _ _ _ _ _ _ _ _ PassesOwn.never rfl (@qH _ _ _ _ (@aU _ _ _ _ (@ae _ _ _ _ _ (@aF _ _ _ _ _ _ _ _ _ _ _ _ _ _ _ _ bc (hr.mono (by first|decide|omega)) rfl T.ax.m T.ax.F.kp T.ax.b .nil bj (@ae _ _ _ _ _ (pv 0) (@ae _ _ _ _ _ (@aw _ _ _ _ _ _ _ _ (@dR _) (pv 1) (@ai _ _ _ _)) (@af _) (@cm _ _ _ _ _ _)) (@ah _ _ _ _)) (by first |rfl |exact .inl rfl |exact .inr rfl |decide |(intro _;rfl) |assumption) (by first |rfl |exact .inl rfl |exact .inr rfl |decide |(intro _;rfl) |assumption) (by first |rfl |exact .inl rfl |exact .inr rfl |decide |(intro _;rfl) |assumption)) (@ae _ _ _ _ _ (@ai _ _ _ _) (@af _) (@aC _ _ _ _ _)) (@bH _ _ _ _ _ _)))) (@cF _ _ 4 _ nd rfl (zan rfl) (by first |rfl |exact .inl rfl |exact .inr rfl |decide |(intro _;rfl) |assumption)) (@ag _ _ _ _ _ (@aM _ _ 5 _ _ _ _ nd rfl (zan rfl) (@aF _ _ _ _ _ _ _ _ _ _ _ _ _ _ _ _ kZ (hr.mono (by first|decide|omega)) rfl T.cE.m T.cE.F.kp T.cE.b .nil bj (@ae _ _ _ _ _ (pv 3) (@ae _ _ _ _ _ (pv 4) (@af _) (@ah _ _ _ _)) (@ah _ _ _ _)) (by first |rfl |exact .inl rfl |exact .inr rfl |decide |(intro _;rfl) |assumption) (by first |rfl |exact .inl rfl |exact .inr rfl |decide |(intro _;rfl) |assumption) (by first |rfl |exact .inl rfl |exact .inr rfl |decide |(intro _;rfl) |assumption)) (by first |rfl |exact .inl rfl |exact .inr rfl |decide |(intro _;rfl) |assumption) (by first |rfl |exact .inl rfl |exact .inr rfl |decide |(intro _;rfl) |assumption)) (@ao _ _ _ (@bo _ _ _ _ _ _ _ _ (@PW.pt _ _ _ (@pw_and _ _ _ _ _ _ _ (@aH _ _ _ _ _ _ _ _ Ax (@bb _ _ _ _ _ _ _ _ _ jj rfl T.eY PyProof.Rows.Boot.«len» (@ae _ _ _ _ _ (pv 5) (@af _) (@ah _ _ _ _)) (by first |rfl |exact .inl rfl |exact .inr rfl |decide |(intro _;rfl) |assumption) (by first |rfl |exact .inl rfl |exact .inr rfl |decide |(intro _;rfl) |assumption) (by first |rfl |exact .inl rfl |exact .inr rfl |decide |(intro _;rfl) |assumption) (by first |rfl |exact .inl rfl |exact .inr rfl |decide |(intro _;rfl) |assumption)) (@ai _ _ _ _) (aT _)) (@pw_and1 _ _ _ _ (@aH _ _ _ _ _ _ _ _ (@Aw _) (@aF _ _ _ _ _ _ _ _ _ _ _ _ _ _ _ _ Cb (hr.mono (by first|decide|omega)) rfl T.eU.m T.eU.F.kp T.eU.b .nil bj (@ae _ _ _ _ _ (pv 5) (@af _) (@ah _ _ _ _)) (by first |rfl |exact .inl rfl |exact .inr rfl |decide |(intro _;rfl) |assumption) (by first |rfl |exact .inl rfl |exact .inr rfl |decide |(intro _;rfl) |assumption) (by first |rfl |exact .inl rfl |exact .inr rfl |decide |(intro _;rfl) |assumption)) (@ai _ _ _ _) (aT _))))) (@ao _ _ _ (@aS _ _ _ _ (@aU _ _ _ _ (@ae _ _ _ _ _ (pv 5) (@ae _ _ _ _ _ (pv 3) (@af _) (@ah _ _ _ _)) (@ah _ _ _ _))))) (@aQ _)))) (by first |rfl |exact .inl rfl |exact .inr rfl |decide |(intro _;rfl) |assumption)) (@ao _ _ _ (@aS _ _ _ _ (@aU _ _ _ _ (@ae _ _ _ _ _ (@au _ _ _ _) (@ae _ _ _ _ _ (@cp _ _ _ _ _ (@ae _ _ _ _ _ (@au _ _ _ _) (@ae _ _ _ _ _ (@cp _ _ _ _ _ (@ae _ _ _ _ _ (@au _ _ _ _) (@ae _ _ _ _ _ (@cp _ _ _ _ _ (@bD _ _ ([.str "number",.int 7]) (by kernel_rfl))) (@ae _ _ _ _ _ (@cp _ _ _ _ _ (@bD _ _ ([.str "number",.int 7]) (by kernel_rfl))) (@af _) (@fK _ _ _ _ _)) (@fK _ _ _ _ _)) (@aC _ _ _ _ _))) (@ae _ _ _ _ _ (@cp _ _ _ _ _ (@bD _ _ ([.str "number",.int 1]) (by kernel_rfl))) (@af _) (@fK _ _ _ _ _)) (@fK _ _ _ _ _)) (@aC _ _ _ _ _))) (@af _) (@fK _ _ _ _ _)) (@aC _ _ _ _ _))))))),rfl,?_⟩;have line:zdX=2 ^ 24:=rfl;refine aG fun U1 rZ=>?_;walk_at "rd";simp only[wR];walk_at "rd";have m4:=zaY (stir cell (k+90)) (show (4:Int)≠0 by decide);have m4':=zaT (stir cell (k+90)) (show (0:Int)<4 by decide);obtain⟨d,hd⟩:=zbc m4;refine⟨by lia,by lia,?_⟩;rw[hd];rw[hd] at m4';have h8:2 ^ d<=8:=by
  have:d=0\/d=1\/d=2\/d=3:=by lia
  rcases this with rfl |rfl |rfl |rfl<;>decide
 have h8':((2:Int) ^ d)<=8:=by exact_mod_cast h8
 refine .mk cell k d a ns rfl (by lia) (by
  have:=zcz h8' (show (0:Int)<=(k:Int)+2 by lia);lia) (by lia) hS hN fun v tr H1 s1 r1 dt=>(rZ _ _).mpr (aG fun U2 rP=>?_)
 clear rZ;refine GY fun U6 Je=>?_;walk_at "rd";simp only[wR];walk_at "rd";refine⟨by lia,by lia,fun pl fl=>?_⟩;obtain⟨b0,_⟩:=jZ cell (k+91);generalize stir cell (k+91)=m1 at *;have s2:=ay.new fl (.lst [V.int m1,V.int 0]);have yl:(upd H1 pl (.lst [V.int m1,V.int 0])) pl=some (.lst [V.int m1,V.int 0]):=aj;generalize upd H1 pl (.lst [V.int m1,V.int 0])=H2 at *;refine⟨⟨_,.of yl⟩,Je _ _ (Au (K:=K) (a:=pl) (xs:=[V.int m1,V.int 0]) (fun i σ Hx=>∃(x4 x5:Option V),σ=[some (.int cell),some (.int k),some (.ref a),some v,x4,x5]/\ay H2 Hx) ⟨none,none,rfl,ay.refl _⟩ (fun i σ Hx _ z=>by obtain⟨_,_,_,sx⟩:=z;exact .of (sx _ _ yl)) ?_ ?_)⟩
 ·intro i x σ Hx hx z;obtain⟨x4,x5,rfl,sx⟩:=z;obtain⟨m,rfl,hm⟩:∃m:Int,x=V.int m/\0<=m:=by
   have:=zbj hx;simp only[zai,za2,or_false] at this;rcases this with rfl |rfl
   ·exact⟨_,rfl,b0⟩
   ·exact⟨_,rfl,by decide⟩
  obtain⟨Nx,Tq⟩:∃Nx:St->Hp->Prop,∀σ H',Nx σ H'↔∃(x4 x5:Option V),σ=[some (.int cell),some (.int k),some (.ref a),some v,x4,x5]/\ay H2 H':=⟨_,fun _ _=>Iff.rfl⟩
  simp only[<- Tq];have rx:=r1.mono (s2.trans sx);have wl:=j1 tr m dt.ok;have lv:=dt.lv;have ht:=dt.ht;walk_at "rd";refine⟨v,m,tr,rfl,rx,dt.ok,by lia,by lia,hm,fun H3 s3=>?_⟩;refine⟨S (PM.cj tr m),rfl,by rw[bZ];lia,?_⟩;rw[bZ];refine cu (fun l60=>?_) (fun l60=>?_)
  ·refine⟨PM.cj tr m,rfl,by lia,fun H4 s4=>?_⟩;walk_at "rd";refine cu (fun d6=>fun p hp=>?_) (fun d6=>(Tq _ _).mpr ⟨_,_,rfl,sx.trans (s3.trans s4)⟩);have dI:wV (PM.cj tr m)=(PM.oS (PM.cj tr m):Int):=PD (PM.oT tr m dt.ok);rw[dI] at d6;refine q p (PM.cj tr m) v tr _ ((s1.trans (s2.trans sx)).trans ((s3.trans s4).sE hp _)) aj (rx.mono ((s3.trans s4).sE hp _)) ⟨PM.GK tr m dt.ok 0 (by show (PM.cj tr m).length<=60;lia) (by show PM.oS (PM.cj tr m)<=5;lia),dt.nm,by lia⟩
  ·rw[if_neg zal];exact(Tq _ _).mpr ⟨_,_,rfl,sx.trans s3⟩
 ·intro σ Hx z;obtain⟨x4,x5,rfl,sx⟩:=z;refine(rP _ _).mpr ?_;clear rP;walk_at "rd";intro p1 f1;generalize e1:upd Hx p1 _=A1;have t1:=gT e1 f1;have g1:Rep K A1 (.tup [.str (zac "number"),.int 7]) (.ref p1):=YB e1 f1 (.cons rS (.cons rI_ .nil));clear e1;intro p2 f2;generalize e1:upd A1 p2 _=A2;have t2:=gT e1 f2;have g2:Rep K A2 (.tup [.str (zac "number"),.int 7]) (.ref p2):=YB e1 f2 (.cons rS (.cons rI_ .nil));clear e1;intro p3 f3;generalize e1:upd A2 p3 _=A3;have t3:=gT e1 f3;have g3:Rep K A3 (.tup [.str (zac "*"),.tup [.str (zac "number"),.int 7],.tup [.str (zac "number"),.int 7]]) (.ref p3):=YB e1 f3 (.cons rS (.cons (g1.mono t2) (.cons g2 .nil)));clear e1;intro p4 f4;generalize e1:upd A3 p4 _=A4;have t4:=gT e1 f4;have g4:Rep K A4 (.tup [.str (zac "number"),.int 1]) (.ref p4):=YB e1 f4 (.cons rS (.cons rI_ .nil));clear e1;intro p5 f5;generalize e1:upd A4 p5 _=A5;have t5:=gT e1 f5;have g5:Rep K A5 (mJ (.bin [45] (.bin [42] (.num 7) (.num 7)) (.num 1))) (.ref p5):=YB e1 f5 (.cons rS (.cons (g3.mono t4) (.cons g4 .nil)));clear e1;intro p6 f6;have e7:V.str (zac "7*7-1")=sv [55,42,55,45,49]:=by decide +kernel
  rw[e7];refine q p6 [55,42,55,45,49] (.ref p5) _ _ ((s1.trans (s2.trans sx)).trans ((((t1.trans t2).trans t3).trans (t4.trans t5)).sE f6 _)) aj (g5.mono (ay.new f6 _)) ⟨by decide +kernel,fun x hx=>?_,by decide⟩;simp[PM.lC] at hx
theorem WI(T:Tx K mg t):bu P w K mg base jh 2 t.ic t.jC ["row", "kind", "cell"] Ut:=by
 have bc:=m3 (P:=P) (w:=w) (base:=base) T;refine T.fI.F.uX tR (fun vs H Q E h=>?_) (fun d0 A outer s H vs Q E hr h=>?_)
 ·obtain⟨_,_,_,_,rfl,_⟩:=h;rfl
 obtain⟨r,f,kd,cell,rfl,rg,q⟩:=h;have nd:=tR.nd;refine⟨_,[some (sv r),some (.int kd),some (.int cell),none,none],(@ag _ _ _ _ _ (@aM _ _ 3 _ _ _ _ nd rfl (zan rfl) (@jk _ _ _ _ _ _ _ _ _ _ _ _ zbe zcf zcg Bj (pv 0) (@ae _ _ _ _ _ (@au _ _ _ _) (@af _) (@aC _ _ _ _ _)) (by first |rfl |exact .inl rfl |exact .inr rfl |decide |(intro _;rfl) |assumption) (by first |rfl |exact .inl rfl |exact .inr rfl |decide |(intro _;rfl) |assumption) (by first |rfl |exact .inl rfl |exact .inr rfl |decide |(intro _;rfl) |assumption) (by first |rfl |exact .inl rfl |exact .inr rfl |decide |(intro _;rfl) |assumption) (by first |rfl |exact .inl rfl |exact .inr rfl |decide |(intro _;rfl) |assumption)) (by first |rfl |exact .inl rfl |exact .inr rfl |decide |(intro _;rfl) |assumption) (by first |rfl |exact .inl rfl |exact .inr rfl |decide |(intro _;rfl) |assumption)) (@ag _ _ _ _ _ (@bo _ _ _ _ _ _ _ _ (@aH _ _ _ _ _ _ _ _ (@cC _) (pv 1) (@ai _ _ _ _) (aT _)) (@ag _ _ _ _ _ (@aM _ _ 4 _ _ _ _ nd rfl (zan rfl) (@aw _ _ _ _ _ _ _ _ (@bS _) (@aF _ _ _ _ _ _ _ _ _ _ _ _ _ _ _ _ bc (hr.mono (by first|decide|omega)) rfl T.ax.m T.ax.F.kp T.ax.b .nil bj (@ae _ _ _ _ _ (pv 2) (@ae _ _ _ _ _ (@ai _ _ _ _) (@af _) (@aC _ _ _ _ _)) (@ah _ _ _ _)) (by first |rfl |exact .inl rfl |exact .inr rfl |decide |(intro _;rfl) |assumption) (by first |rfl |exact .inl rfl |exact .inr rfl |decide |(intro _;rfl) |assumption) (by first |rfl |exact .inl rfl |exact .inr rfl |decide |(intro _;rfl) |assumption)) (@bb _ _ _ _ _ _ _ _ _ (@bq _) rfl T.eY PyProof.Rows.Boot.«len» (@ae _ _ _ _ _ (pv 3) (@af _) (@ah _ _ _ _)) (by first |rfl |exact .inl rfl |exact .inr rfl |decide |(intro _;rfl) |assumption) (by first |rfl |exact .inl rfl |exact .inr rfl |decide |(intro _;rfl) |assumption) (by first |rfl |exact .inl rfl |exact .inr rfl |decide |(intro _;rfl) |assumption) (by first |rfl |exact .inl rfl |exact .inr rfl |decide |(intro _;rfl) |assumption))) (by first |rfl |exact .inl rfl |exact .inr rfl |decide |(intro _;rfl) |assumption) (by first |rfl |exact .inl rfl |exact .inr rfl |decide |(intro _;rfl) |assumption)) (@ag _ _ _ _ _ (@qG _ _ _ _ _ _ (@aw _ _ _ _ _ _ _ _ aJ (@aX _ _ _ _ _ _ _ (@a9 _) (pv 3) (pv 4) (@wI _ _)) (@aX _ _ _ _ _ _ _ (@sq _) (@au _ _ _ _) (@aw _ _ _ _ _ _ _ _ (@bS _) (@aF _ _ _ _ _ _ _ _ _ _ _ _ _ _ _ _ bc (hr.mono (by first|decide|omega)) rfl T.ax.m T.ax.F.kp T.ax.b .nil bj (@ae _ _ _ _ _ (pv 2) (@ae _ _ _ _ _ (@ai _ _ _ _) (@af _) (@aC _ _ _ _ _)) (@ah _ _ _ _)) (by first |rfl |exact .inl rfl |exact .inr rfl |decide |(intro _;rfl) |assumption) (by first |rfl |exact .inl rfl |exact .inr rfl |decide |(intro _;rfl) |assumption) (by first |rfl |exact .inl rfl |exact .inr rfl |decide |(intro _;rfl) |assumption)) (@ai _ _ _ _)) (@jm _ _ _ _))) (Ar (pv 3) (pv 4) set_list) (by first |rfl |exact .inl rfl |exact .inr rfl |decide |(intro _;rfl) |assumption) (by first |rfl |exact .inl rfl |exact .inr rfl |decide |(intro _;rfl) |assumption) (by first |rfl |exact .inl rfl |exact .inr rfl |decide |(intro _;rfl) |assumption)) (@ao _ _ _ (@aS _ _ _ _ (Fc (K:=K) rfl zbe zbM zbN (w9 (K:=K) rfl) (@au _ _ _ _) (@ae _ _ _ _ _ (pv 3) (@af _) (@ah _ _ _ _))))))) (@aQ _)) (@ag _ _ _ _ _ (@bo _ _ _ _ _ _ _ _ (@PW.pt _ _ _ (@pw_and _ _ _ _ _ _ _ (@aH _ _ _ _ _ _ _ _ (@cC _) (pv 1) (@ai _ _ _ _) (aT _)) (@pw_and1 _ _ _ _ (@aH _ _ _ _ _ _ _ _ (@Ay _) (@bb _ _ _ _ _ _ _ _ _ (@bq _) rfl T.eY PyProof.Rows.Boot.«len» (@ae _ _ _ _ _ (pv 3) (@af _) (@ah _ _ _ _)) (by first |rfl |exact .inl rfl |exact .inr rfl |decide |(intro _;rfl) |assumption) (by first |rfl |exact .inl rfl |exact .inr rfl |decide |(intro _;rfl) |assumption) (by first |rfl |exact .inl rfl |exact .inr rfl |decide |(intro _;rfl) |assumption) (by first |rfl |exact .inl rfl |exact .inr rfl |decide |(intro _;rfl) |assumption)) (@ai _ _ _ _) (aT _))))) (@ao _ _ _ (@aS _ _ _ _ (Fc (K:=K) rfl zbe zbM zbN (w9 (K:=K) rfl) (@au _ _ _ _) (@ae _ _ _ _ _ (@d4 _ _ _ _ _ _ _ _ _ _ (@ux _) (pv 3) (@fQ _) (@fS _ _ _ (@aw _ _ _ _ _ _ _ _ (@dR _) (@ai _ _ _ _) (@aw _ _ _ _ _ _ _ _ (@bS _) (@aF _ _ _ _ _ _ _ _ _ _ _ _ _ _ _ _ bc (hr.mono (by first|decide|omega)) rfl T.ax.m T.ax.F.kp T.ax.b .nil bj (@ae _ _ _ _ _ (pv 2) (@ae _ _ _ _ _ (@ai _ _ _ _) (@af _) (@aC _ _ _ _ _)) (@ah _ _ _ _)) (by first |rfl |exact .inl rfl |exact .inr rfl |decide |(intro _;rfl) |assumption) (by first |rfl |exact .inl rfl |exact .inr rfl |decide |(intro _;rfl) |assumption) (by first |rfl |exact .inl rfl |exact .inr rfl |decide |(intro _;rfl) |assumption)) (@aw _ _ _ _ _ _ _ _ (@vw _) (@bb _ _ _ _ _ _ _ _ _ (@bq _) rfl T.eY PyProof.Rows.Boot.«len» (@ae _ _ _ _ _ (pv 3) (@af _) (@ah _ _ _ _)) (by first |rfl |exact .inl rfl |exact .inr rfl |decide |(intro _;rfl) |assumption) (by first |rfl |exact .inl rfl |exact .inr rfl |decide |(intro _;rfl) |assumption) (by first |rfl |exact .inl rfl |exact .inr rfl |decide |(intro _;rfl) |assumption) (by first |rfl |exact .inl rfl |exact .inr rfl |decide |(intro _;rfl) |assumption)) (@ai _ _ _ _)))))) (@af _) (@bJ _ _ _ _ _))))) (@aQ _)) (@ag _ _ _ _ _ (@aM _ _ 4 _ _ _ _ nd rfl (zan rfl) (@aw _ _ _ _ _ _ _ _ (@bS _) (@aF _ _ _ _ _ _ _ _ _ _ _ _ _ _ _ _ bc (hr.mono (by first|decide|omega)) rfl T.ax.m T.ax.F.kp T.ax.b .nil bj (@ae _ _ _ _ _ (pv 2) (@ae _ _ _ _ _ (@ai _ _ _ _) (@af _) (@aC _ _ _ _ _)) (@ah _ _ _ _)) (by first |rfl |exact .inl rfl |exact .inr rfl |decide |(intro _;rfl) |assumption) (by first |rfl |exact .inl rfl |exact .inr rfl |decide |(intro _;rfl) |assumption) (by first |rfl |exact .inl rfl |exact .inr rfl |decide |(intro _;rfl) |assumption)) (@aw _ _ _ _ _ _ _ _ (@dR _) (@bb _ _ _ _ _ _ _ _ _ jj rfl T.eY PyProof.Rows.Boot.«len» (@ae _ _ _ _ _ (pv 0) (@af _) (@ah _ _ _ _)) (by first |rfl |exact .inl rfl |exact .inr rfl |decide |(intro _;rfl) |assumption) (by first |rfl |exact .inl rfl |exact .inr rfl |decide |(intro _;rfl) |assumption) (by first |rfl |exact .inl rfl |exact .inr rfl |decide |(intro _;rfl) |assumption) (by first |rfl |exact .inl rfl |exact .inr rfl |decide |(intro _;rfl) |assumption)) (@ai _ _ _ _))) (by first |rfl |exact .inl rfl |exact .inr rfl |decide |(intro _;rfl) |assumption) (by first |rfl |exact .inl rfl |exact .inr rfl |decide |(intro _;rfl) |assumption)) (@ao _ _ _ (@aS _ _ _ _ (@aw _ _ _ _ _ _ _ _ aJ (@aw _ _ _ _ _ _ _ _ aJ (@d4 _ _ _ _ _ _ _ _ _ _ AU (pv 0) (@fQ _) (@fS _ _ _ (pv 4))) (@au _ _ _ _)) (@d4 _ _ _ _ _ _ _ _ _ _ AU (pv 0) (@fS _ _ _ (pv 4)) (@fQ _))))))))),rfl,?_⟩;have line:zdX=2 ^ 24:=rfl;obtain⟨hf,lr,Zl⟩:=rg;refine aG fun U1 rZ=>?_;walk_at "rd";refine⟨rfl,r,32,rfl,rfl,by decide,by lia,fun wl fw=>?_⟩;have s1:=ay.new fw (.lst ((av 32 r).map sv));have y1:(upd H wl (.lst ((av 32 r).map sv))) wl=some (.lst ((av 32 r).map sv)):=aj;generalize upd H wl (.lst ((av 32 r).map sv))=H1 at *;have lp:=zbJ.mpr (cU 32 r);have lm:((av 32 r).map sv).length=(av 32 r).length:=zaj _;refine(rZ _ _).mpr (aG fun U2 rP=>?_);clear rZ;walk_at "rd";simp only[wR];refine cu (fun k3=>?_) (fun k3=>?_)
 ·refine⟨by decide,by decide,wl,_,rfl,.inl (.of y1),?_⟩;rw[lm];refine⟨_,_,rfl,rfl,(show (0:Int)<((av 32 r).length:Nat) by lia),?_⟩;have h1:=zaY (stir cell 74) (show ((av 32 r).length:Int)≠0 by lia);have h2:=zaT (stir cell 74) (show (0:Int)<((av 32 r).length:Nat) by lia);obtain⟨j,hj⟩:=zbc h1;dsimp only;rw[hj] at h2 ⊢;have jl:j<(av 32 r).length:=by lia
  have gj:((av 32 r).map sv)[j]?=some (sv (av 32 r)[j]):=by rw[zaE,zag jl];rfl
  refine bC (.of y1) (v:=sv (av 32 r)[j]) (bf gj) ⟨by decide,by decide,?_⟩;obtain⟨c,hc,ac⟩:=kY (L:=([43,42,40,33,46,32,61,60,45]:List Nat)) (n:=9) rfl (by decide) (stir cell 71);have el:(zac "+*(!. =<-").cps.toList=[43,42,40,33,46,32,61,60,45]:=by decide +kernel
  refine⟨_,_,rfl,rfl,(show (0:Int)<9 by decide),⟨_,_,c,rfl,rfl,by decide +kernel,by rw[el];exact ac,?_⟩⟩;have Xa:PM.kind c=2/\c≠41/\c≠10:=by
   have all:∀c∈([43,42,40,33,46,32,61,60,45]:List Nat),PM.kind c=2/\c≠41/\c≠10:=by decide
   exact all c hc
  have lj:=mU 32 r _ (zaK jl);refine⟨S (av 32 r)[j],⟨#[c]⟩,rfl,rfl,by rw[bZ];show _+1<=_;lia,?_⟩;have ew:V.str (S (av 32 r)[j]++⟨#[c]⟩)=sv ((av 32 r)[j]++[c]):=by
   show V.str (S (av 32 r)[j]++S [c])=_;rw[gb];rfl
  rw[ew];refine⟨wl,_,(j:Int),j,rfl,rfl,y1,by rw[lm];unfold Mw;simp;lia,rfl,wl,(av 32 r).set j ((av 32 r)[j]++[c]),32,rfl,rfl,?_,?_,?_⟩
  ·refine .of ?_;rw[aj,List.map_set]
  ·have:=HB (c:=32) (r:=r) jl (x:=c);lia
  ·refine q _ _ (fun y u e=>by rw[aq (aI e fw)];exact s1 _ _ e) ⟨QN hf jl Xa.1 Xa.2.1,?_,fun z=>?_⟩
   ·have:=HB (c:=32) (r:=r) jl (x:=c);have:=sX 32 ((av 32 r).set j ((av 32 r)[j]++[c]));lia
   ·rcases Bs z with e |⟨w,hw,e⟩
    ·cases e
    ·rcases zbT hw with h |rfl
     ·exact Zl (yi h e)
     ·rcases zam.mp e with e |e
      ·exact Zl (yi (zaK jl) e)
      ·exact Xa.2.2 (zad.mp e).symm
 refine(rP _ _).mpr (aG fun U3 vk=>?_);clear rP;walk_at "rd";have ins:U3 [some (sv r),some (V.int kd),some (V.int cell),some (V.ref wl),none] H1:=by
  refine(vk _ _).mpr ?_;clear vk;walk_at "rd";refine⟨cell,73,rfl,by decide,by decide,S r,rfl,by rw[bZ];lia,?_⟩;rw[bZ];refine⟨_,_,rfl,rfl,(show (0:Int)<(r.length:Int)+1 by lia),?_⟩;have h1:=zaY (stir cell 73) (show ((r.length:Int)+1)≠0 by lia);have h2:=zaT (stir cell 73) (show (0:Int)<(r.length:Int)+1 by lia);obtain⟨j,hj⟩:=zbc h1;dsimp only;rw[hj] at h2 ⊢;have jl:j<=r.length:=by lia
  refine⟨_,rfl,S r,rfl,by rw[bZ];lia,?_⟩;rw[Fg jl];have e1:zac " "=S [32]:=by decide +kernel
  refine⟨S (r.take j),S [32],rfl,e1,by rw[bZ,bZ,zaB];show _+1<=_;lia,_,rfl,S r,rfl,by rw[bZ];lia,?_⟩;rw[EA jl];refine⟨_,S (r.drop j),rfl,rfl,by rw[gb,bZ,bZ,zae,zaB,zaQ];show _+1+_<=_;lia,?_⟩;rw[gb,gb];refine q (r.take j++[32]++r.drop j) _ s1 ⟨?_,?_,?_⟩
  ·rw[zbg];exact SY (u:=r.take j) (v:=r.drop j) (f:=f) (by rw[zck];exact hf)
  ·rw[zae,zae,zaB,zaQ];show _+1+_<=_;lia
  ·intro z;rcases zam.mp z with z |z
   ·rcases zam.mp z with z |z
    ·exact Zl (zbl z)
    ·revert z;decide
   ·exact Zl (zbF z)
 refine cu (fun k4=>?_) (fun k4=>?_)
 ·refine⟨wl,_,rfl,.inl (.of y1),?_⟩;rw[lm];refine cu (fun l1=>?_) (fun l1=>ins);refine⟨rfl,cell,72,rfl,by decide,by decide,?_⟩;walk_at "rd";refine⟨wl,_,rfl,.inl (.of y1),?_⟩;rw[lm];refine⟨by lia,_,rfl,wl,_,rfl,.of y1,fun p2 f2=>?_⟩;have h1:=zaY (stir cell 72) (show (((av 32 r).length:Int)-1)≠0 by lia);have h2:=zaT (stir cell 72) (show (0:Int)<((av 32 r).length:Int)-1 by lia);obtain⟨j,hj⟩:=zbc h1;rw[hj] at h2 ⊢;rw[E6 _ (by lia),<- zcV];have ej:(1+(j:Int)).toNat=1+j:=by lia
  rw[ej];have lf:((av 32 r).take (1+j)).flatten.length+((av 32 r).take (1+j)).length<=500:=by
   have h3:=Ni (c:=32) (r:=r) (1+j);have h4:=qT 32 r;rw[zaB];lia
  refine⟨p2,(av 32 r).take (1+j),32,rfl,rfl,.of aj,by lia,?_⟩;refine q _ _ (s1.trans (ay.new f2 _)) ⟨S0 hf (by lia) (by lia),?_,fun z=>?_⟩
  ·have:=sX 32 ((av 32 r).take (1+j));lia
  ·rcases Bs z with e |⟨w,hw,e⟩
   ·cases e
   ·exact Zl (yi (zbl hw) e)
 ·rw[if_neg zal];exact ins
theorem tx2{z:Str}{k x:W}(e:z=S (k++[32])):z++S x=S (cM 32 [k,x]):=by
 rw[e,gb]
 congr 1
 simp[cM]
theorem tx3{z b:Str}{k x y:W}(e:z=S (k++[32]))(eb:b=S [32]):z++S x++b++S y=S (cM 32 [k,x,y]):=by
 rw[e,eb,gb,gb,gb]
 congr 1
 simp[cM]
theorem tx4{z b:Str}{k x y u:W}(e:z=S (k++[32]))(eb:b=S [32]):z++S x++b++S y++b++S u=S (cM 32 [k,x,y,u]):=by
 rw[e,eb,gb,gb,gb,gb,gb]
 congr 1
 simp[cM]
theorem Zm(T:Tx K mg t):bu P w K mg base jh 8 t.jz t.kT ["cell", "k", "names"] (YZ K):=by
 have bc:=m3 (P:=P) (w:=w) (base:=base) T;have lI:=UG (P:=P) (w:=w) (base:=base) T;refine T.gV.F.uX vd (fun vs H Q E h=>?_) (fun d0 A outer s H vs Q E hr h=>?_)
 ·obtain⟨_,_,_,_,rfl,_⟩:=h;rfl
 obtain⟨cell,k,a,ns,rfl,hk,hS,hN,q⟩:=h;have nd:=vd.nd;refine⟨_,[some (.int cell),some (.int k),some (.ref a),none,none,none,none,none,none,none],(@ag _ _ _ _ _ (@aM _ _ 3 _ _ _ _ nd rfl (zan rfl) (@aF _ _ _ _ _ _ _ _ _ _ _ _ _ _ _ _ bc (hr.mono (by first|decide|omega)) rfl T.ax.m T.ax.F.kp T.ax.b .nil bj (@ae _ _ _ _ _ (pv 0) (@ae _ _ _ _ _ (@ai _ _ _ _) (@af _) (@aC _ _ _ _ _)) (@ah _ _ _ _)) (by first |rfl |exact .inl rfl |exact .inr rfl |decide |(intro _;rfl) |assumption) (by first |rfl |exact .inl rfl |exact .inr rfl |decide |(intro _;rfl) |assumption) (by first |rfl |exact .inl rfl |exact .inr rfl |decide |(intro _;rfl) |assumption)) (by first |rfl |exact .inl rfl |exact .inr rfl |decide |(intro _;rfl) |assumption) (by first |rfl |exact .inl rfl |exact .inr rfl |decide |(intro _;rfl) |assumption)) (@ag _ _ _ _ _ (@qG _ _ _ _ _ _ (@aF _ _ _ _ _ _ _ _ _ _ _ _ _ _ _ _ lI (hr.mono (by first|decide|omega)) rfl T.cD.m T.cD.F.kp T.cD.b .nil bj (@ae _ _ _ _ _ (pv 0) (@ae _ _ _ _ _ (@ai _ _ _ _) (@ae _ _ _ _ _ (pv 2) (@af _) (@ah _ _ _ _)) (@aC _ _ _ _ _)) (@ah _ _ _ _)) (by first |rfl |exact .inl rfl |exact .inr rfl |decide |(intro _;rfl) |assumption) (by first |rfl |exact .inl rfl |exact .inr rfl |decide |(intro _;rfl) |assumption) (by first |rfl |exact .inl rfl |exact .inr rfl |decide |(intro _;rfl) |assumption)) (@E2 _ _ _ _ _ _ rfl (@eJ _ _ _ _ _ (@cF _ _ 4 _ nd rfl (zan rfl) (by first |rfl |exact .inl rfl |exact .inr rfl |decide |(intro _;rfl) |assumption)) (@eJ _ _ _ _ _ (@cF _ _ 5 _ nd rfl (zan rfl) (by first |rfl |exact .inl rfl |exact .inr rfl |decide |(intro _;rfl) |assumption)) (@uv _) (by first |rfl |exact .inl rfl |exact .inr rfl |decide |(intro _;rfl) |assumption)) (by first |rfl |exact .inl rfl |exact .inr rfl |decide |(intro _;rfl) |assumption)) (by first |rfl |exact .inl rfl |exact .inr rfl |decide |(intro _;rfl) |assumption) (by first |rfl |exact .inl rfl |exact .inr rfl |decide |(intro _;rfl) |assumption)) (by first |rfl |exact .inl rfl |exact .inr rfl |decide |(intro _;rfl) |assumption) (by first |rfl |exact .inl rfl |exact .inr rfl |decide |(intro _;rfl) |assumption) (by first |rfl |exact .inl rfl |exact .inr rfl |decide |(intro _;rfl) |assumption)) (@ag _ _ _ _ _ (@aM _ _ 6 _ _ _ _ nd rfl (zan rfl) (@aw _ _ _ _ _ _ _ _ (@bS _) (pv 3) (@ai _ _ _ _)) (by first |rfl |exact .inl rfl |exact .inr rfl |decide |(intro _;rfl) |assumption) (by first |rfl |exact .inl rfl |exact .inr rfl |decide |(intro _;rfl) |assumption)) (@ag _ _ _ _ _ (@bo _ _ _ _ _ _ _ _ (@PW.pt _ _ _ (@pw_and _ _ _ _ _ _ _ (@aH _ _ _ _ _ _ _ _ (@Aw _) (pv 6) (@ai _ _ _ _) (aT _)) (@pw_and1 _ _ _ _ (@aH _ _ _ _ _ _ _ _ (Ef (OS hr)) (pv 2) (@aU _ _ _ _ (@af _)) (aT _))))) (@ag _ _ _ _ _ (@aM _ _ 7 _ _ _ _ nd rfl (zan rfl) (@aX _ _ _ _ _ _ _ (@a9 _) (pv 2) (@aw _ _ _ _ _ _ _ _ (@bS _) (@aw _ _ _ _ _ _ _ _ (@dZ _) (pv 3) (@ai _ _ _ _)) (@bb _ _ _ _ _ _ _ _ _ (@bq _) rfl T.eY PyProof.Rows.Boot.«len» (@ae _ _ _ _ _ (pv 2) (@af _) (@ah _ _ _ _)) (by first |rfl |exact .inl rfl |exact .inr rfl |decide |(intro _;rfl) |assumption) (by first |rfl |exact .inl rfl |exact .inr rfl |decide |(intro _;rfl) |assumption) (by first |rfl |exact .inl rfl |exact .inr rfl |decide |(intro _;rfl) |assumption) (by first |rfl |exact .inl rfl |exact .inr rfl |decide |(intro _;rfl) |assumption))) (@jm _ _ _ _)) (by first |rfl |exact .inl rfl |exact .inr rfl |decide |(intro _;rfl) |assumption) (by first |rfl |exact .inl rfl |exact .inr rfl |decide |(intro _;rfl) |assumption)) (@ag _ _ _ _ _ (@bo _ _ _ _ _ _ _ _ (@aH _ _ _ _ _ _ _ _ (@Aw _) (pv 6) (@ai _ _ _ _) (aT _)) (@ao _ _ _ (@aS _ _ _ _ (@aU _ _ _ _ (@ae _ _ _ _ _ (@aw _ _ _ _ _ _ _ _ aJ (@au _ _ _ _) (pv 7)) (@ae _ _ _ _ _ (@cp _ _ _ _ _ (@ae _ _ _ _ _ (@au _ _ _ _) (@ae _ _ _ _ _ (pv 1) (@ae _ _ _ _ _ (pv 7) (@af _) (@ah _ _ _ _)) (@ah _ _ _ _)) (@aC _ _ _ _ _))) (@af _) (@fK _ _ _ _ _)) (@cm _ _ _ _ _ _))))) (@aQ _)) (@ao _ _ _ (@aS _ _ _ _ (@aU _ _ _ _ (@ae _ _ _ _ _ (@aw _ _ _ _ _ _ _ _ aJ (@aw _ _ _ _ _ _ _ _ aJ (@aw _ _ _ _ _ _ _ _ aJ (@au _ _ _ _) (pv 7)) (@au _ _ _ _)) (pv 4)) (@ae _ _ _ _ _ (@cp _ _ _ _ _ (@ae _ _ _ _ _ (@au _ _ _ _) (@ae _ _ _ _ _ (pv 1) (@ae _ _ _ _ _ (pv 7) (@ae _ _ _ _ _ (pv 5) (@af _) (@ah _ _ _ _)) (@ah _ _ _ _)) (@ah _ _ _ _)) (@aC _ _ _ _ _))) (@af _) (@fK _ _ _ _ _)) (@cm _ _ _ _ _ _))))))) (@aQ _)) (@ag _ _ _ _ _ (@bo _ _ _ _ _ _ _ _ (@aH _ _ _ _ _ _ _ _ (@cC _) (pv 6) (@ai _ _ _ _) (aT _)) (@ao _ _ _ (@aS _ _ _ _ (@aU _ _ _ _ (@ae _ _ _ _ _ (@au _ _ _ _) (@ae _ _ _ _ _ (@cp _ _ _ _ _ (@ae _ _ _ _ _ (@au _ _ _ _) (@ae _ _ _ _ _ (pv 1) (@af _) (@ah _ _ _ _)) (@aC _ _ _ _ _))) (@af _) (@fK _ _ _ _ _)) (@aC _ _ _ _ _))))) (@aQ _)) (@ag _ _ _ _ _ (@bo _ _ _ _ _ _ _ _ (@aH _ _ _ _ _ _ _ _ (@cC _) (pv 6) (@ai _ _ _ _) (aT _)) (@ag _ _ _ _ _ (@aM _ _ 8 _ _ _ _ nd rfl (zan rfl) (@aF _ _ _ _ _ _ _ _ _ _ _ _ _ _ _ _ lI (hr.mono (by first|decide|omega)) rfl T.cD.m T.cD.F.kp T.cD.b .nil bj (@ae _ _ _ _ _ (pv 0) (@ae _ _ _ _ _ (@ai _ _ _ _) (@ae _ _ _ _ _ (pv 2) (@af _) (@ah _ _ _ _)) (@aC _ _ _ _ _)) (@ah _ _ _ _)) (by first |rfl |exact .inl rfl |exact .inr rfl |decide |(intro _;rfl) |assumption) (by first |rfl |exact .inl rfl |exact .inr rfl |decide |(intro _;rfl) |assumption) (by first |rfl |exact .inl rfl |exact .inr rfl |decide |(intro _;rfl) |assumption)) (by first |rfl |exact .inl rfl |exact .inr rfl |decide |(intro _;rfl) |assumption) (by first |rfl |exact .inl rfl |exact .inr rfl |decide |(intro _;rfl) |assumption)) (@ag _ _ _ _ _ (@aM _ _ 9 _ _ _ _ nd rfl (zan rfl) (@aX _ _ _ _ _ _ _ (@sq _) (@au _ _ _ _) (@aw _ _ _ _ _ _ _ _ (@bS _) (@aF _ _ _ _ _ _ _ _ _ _ _ _ _ _ _ _ bc (hr.mono (by first|decide|omega)) rfl T.ax.m T.ax.F.kp T.ax.b .nil bj (@ae _ _ _ _ _ (pv 0) (@ae _ _ _ _ _ (@ai _ _ _ _) (@af _) (@aC _ _ _ _ _)) (@ah _ _ _ _)) (by first |rfl |exact .inl rfl |exact .inr rfl |decide |(intro _;rfl) |assumption) (by first |rfl |exact .inl rfl |exact .inr rfl |decide |(intro _;rfl) |assumption) (by first |rfl |exact .inl rfl |exact .inr rfl |decide |(intro _;rfl) |assumption)) (@ai _ _ _ _)) (@jm _ _ _ _)) (by first |rfl |exact .inl rfl |exact .inr rfl |decide |(intro _;rfl) |assumption) (by first |rfl |exact .inl rfl |exact .inr rfl |decide |(intro _;rfl) |assumption)) (@ao _ _ _ (@aS _ _ _ _ (@aU _ _ _ _ (@ae _ _ _ _ _ (@aw _ _ _ _ _ _ _ _ aJ (@aw _ _ _ _ _ _ _ _ aJ (@aw _ _ _ _ _ _ _ _ aJ (@aw _ _ _ _ _ _ _ _ aJ (@aw _ _ _ _ _ _ _ _ aJ (@au _ _ _ _) (pv 4)) (@au _ _ _ _)) (pv 9)) (@au _ _ _ _)) (@aX _ _ _ _ _ _ _ (@a9 _) (pv 8) (@ai _ _ _ _) (@aK _ _ _))) (@ae _ _ _ _ _ (@cp _ _ _ _ _ (@ae _ _ _ _ _ (@au _ _ _ _) (@ae _ _ _ _ _ (pv 1) (@ae _ _ _ _ _ (pv 9) (@ae _ _ _ _ _ (pv 5) (@ae _ _ _ _ _ (@aX _ _ _ _ _ _ _ (@a9 _) (pv 8) (@ai _ _ _ _) (@aK _ _ _)) (@af _) (@bJ _ _ _ _ _)) (@ah _ _ _ _)) (@ah _ _ _ _)) (@ah _ _ _ _)) (@aC _ _ _ _ _))) (@af _) (@fK _ _ _ _ _)) (@cm _ _ _ _ _ _))))))) (@aQ _)) (@ao _ _ _ (@aS _ _ _ _ (@aU _ _ _ _ (@ae _ _ _ _ _ (@aw _ _ _ _ _ _ _ _ aJ (@au _ _ _ _) (pv 4)) (@ae _ _ _ _ _ (@cp _ _ _ _ _ (@ae _ _ _ _ _ (@au _ _ _ _) (@ae _ _ _ _ _ (pv 1) (@ae _ _ _ _ _ (pv 5) (@af _) (@ah _ _ _ _)) (@ah _ _ _ _)) (@aC _ _ _ _ _))) (@af _) (@fK _ _ _ _ _)) (@cm _ _ _ _ _ _))))))))))),rfl,?_⟩;have line:zdX=2 ^ 24:=rfl;have b1:zac " "=S [32]:=by decide +kernel
 refine aG fun U1 rZ=>?_;walk_at "rd";refine⟨cell,1,rfl,by decide,by decide,(rZ _ _).mpr (aG fun U2 rP=>?_)⟩;clear rZ;obtain⟨n0,_⟩:=jZ cell 1;generalize stir cell 1=num at *;walk_at "rd";refine .mk cell 3 a ns rfl (by decide) hS hN fun l1 wd v1 t1 H1 s1 y1 r1 e1=>?_;refine⟨l1,_,rfl,.of y1,rfl,_,_,rfl,_,_,rfl,rfl,(rP _ _).mpr (aG fun U3 vk=>?_)⟩;clear rP;have lw:=e1.len;walk_at "rd";refine(vk _ _).mpr (aG fun U4 zB=>?_);clear vk;generalize num%9=kd at *;have fin:∀(wt:W) (f:PM.Fm) (z:Str) (tt:List V) (H2:Hp),ay H H2->z=S wt->(LY wt f/\PM.RW ns f/\PM.opens f=none)->∀p,H2 p=none->∀p2,(upd H2 p (.tup tt)) p2=none->Q (.ref p2) (upd (upd H2 p (.tup tt)) p2 (.lst [V.str z,V.ref p])):=fun wt f z tt H2 s2 ez h p fp p2 fp2=>
  q p2 wt f (.ref p) _ (s2.trans ((ay.new fp _).trans (ay.new fp2 _))) (by rw[aj,ez];rfl) h.1 h.2.1 h.2.2
 have lS:(S wd).length<=60:=by rw[bZ];exact lw
 have acb:zac "ask "=S (PM.qU++[32]):=by decide +kernel
 have acd:zac "put "=S (PM.qV++[32]):=by decide +kernel
 have ace:zac "say "=S (PM.oO++[32]):=by decide +kernel
 have Zo:zac "must "=S (PM.gc++[32]):=by decide +kernel
 have l1:(zac "ask ").length<=20:=by decide +kernel
 have l2:(zac "put ").length<=20:=by decide +kernel
 have l3:(zac "say ").length<=20:=by decide +kernel
 have l4:(zac "must ").length<=20:=by decide +kernel
 have l5:(zac " ").length<=20:=by decide +kernel
 have rest:∀x7 H2,ay H H2->gI K H2 a (ns.map sv)->Rep K H2 (mJ t1) v1->U4 [some (.int cell),some (.int k),some (.ref a),some (.int num),some (sv wd),some v1,some (.int kd),x7,none,none] H2:=by
  intro x7 H2 s2 hS2 r2;refine(zB _ _).mpr (aG fun U5 FL=>?_);clear zB;walk_at "rd";refine cu (fun k7=>?_) (fun k7=>?_)
  ·exact fin PM.dw _ _ _ H2 s2 Ho QP
  refine(FL _ _).mpr (aG fun U6 Je=>?_);clear FL;walk_at "rd";refine cu (fun k8=>?_) (fun k8=>?_)
  ·refine .mk cell 30 a ns rfl (by decide) hS2 hN fun lb wb vb tb H3 s3 y3 r3 e3=>?_;refine⟨cell,2,rfl,by decide,by decide,_,_,rfl,rfl,(show (0:Int)<2 by decide),?_⟩;obtain⟨sg,VS,asg⟩:=kY (L:=([60,61]:List Nat)) (n:=2) rfl (by decide) (stir cell 2);have el:(zac "<=").cps.toList=[60,61]:=by decide +kernel
   have TR:([sg]:W)=[60]\/([sg]:W)=[61]:=by
    simp only[zai,za2,or_false] at VS;rcases VS with rfl |rfl
    ·exact .inl rfl
    ·exact .inr rfl
   refine⟨_,_,sg,rfl,rfl,by decide +kernel,by rw[el];exact asg,?_⟩;have lb':(S wb).length<=60:=by rw[bZ];exact e3.len
   have lg:(S [sg]).length<=1:=by rw[bZ];exact zah _
   refine⟨_,S wd,rfl,rfl,by lia,_,_,rfl,rfl,by rw[strLen_append];lia,_,S [sg],rfl,rfl,by rw[strLen_append,strLen_append];lia,_,_,rfl,rfl,by rw[strLen_append,strLen_append,strLen_append];lia,?_⟩;refine bC (.of y3) (v:=sv wb) (bf (j:=0) rfl) ⟨_,S wb,rfl,rfl,by rw[strLen_append,strLen_append,strLen_append,strLen_append];lia,?_⟩;refine bC (.of y3) (v:=vb) (bf (j:=1) rfl) ?_;obtain⟨c1,c2⟩:=Bt (k:=PM.gc) (.inl rfl) TR e1 e3;exact fin _ _ _ _ H3 (s2.trans s3) (tx4 Zo b1) ⟨c1,c2,by show (if PM.gc=PM.jV then some true else if PM.gc=PM.bY then some false else none)=none;decide⟩
  refine(Je _ _).mpr ?_;clear Je;walk_at "rd";refine⟨_,S wd,rfl,rfl,by lia,?_⟩;exact fin _ _ _ _ H2 s2 (tx2 ace) (S3 e1)
 walk_at "rd";refine cu (fun k5=>?_) (fun k5=>?_)
 ·intro p0 f0;have s0:=ay.new f0 (.lst []);have y0:(upd H1 p0 (.lst [])) p0=some (.lst []):=aj;generalize upd H1 p0 (.lst [])=H1' at *;have hS1:gI K H1' a (ns.map sv):=(s1.trans s0).seq hS;refine⟨a,p0,ns.map sv,rfl,rfl,hS1,.of y0,?_⟩;by_cases he:ns=[]
  ·rw[if_neg (by rw[he];decide)];exact rest none H1' (s1.trans s0) hS1 (r1.mono s0)
  ·rw[if_pos (by cases ns with |nil=>exact absurd rfl he |cons y r=>rfl)];have hl:(ns.map sv).length=ns.length:=zaj _;have lp:=zbJ.mpr he;refine⟨a,ns.map sv,rfl,.inl hS1,by rw[hl];lia,?_⟩;rw[hl];obtain⟨v2,To,a2⟩:=kY (L:=ns.map sv) (n:=ns.length) hl lp (num/9);obtain⟨x,hx,rfl⟩:=zaI.mp To;refine bC hS1 a2 ?_;have nx:=hN.ok x hx;have lx:(S x).length<=8:=by rw[bZ];exact PM.nF nx
   refine cu (fun k2=>?_) (fun k2=>?_)
   ·refine⟨_,S x,rfl,rfl,by lia,?_⟩;exact fin _ _ _ _ H1' (s1.trans s0) (tx2 acb) (S1 nx hx)
   ·refine⟨_,S x,rfl,rfl,by lia,_,_,rfl,rfl,by rw[strLen_append];lia,_,S wd,rfl,rfl,by rw[strLen_append,strLen_append];lia,?_⟩;exact fin _ _ _ _ H1' (s1.trans s0) (tx3 acd b1) (S2 nx hx e1)
 ·exact rest none H1 s1 (s1.seq hS) r1
theorem Zp(T:Tx K mg t):bu P w K mg base jh 8 t.ib t.jA ["cell", "k", "names"] (Y0 K):=by
 have bc:=m3 (P:=P) (w:=w) (base:=base) T;have lI:=UG (P:=P) (w:=w) (base:=base) T;refine T.fH.F.uX tQ (fun vs H Q E h=>?_) (fun d0 A outer s H vs Q E hr h=>?_)
 ·obtain⟨_,_,_,_,rfl,_⟩:=h;rfl
 obtain⟨cell,k,a,ns,rfl,hk,hS,hN,q⟩:=h;have nd:=tQ.nd;refine⟨_,[some (.int cell),some (.int k),some (.ref a),none,none,none],(@ag _ _ _ _ _ (@aM _ _ 3 _ _ _ _ nd rfl (zan rfl) (@aF _ _ _ _ _ _ _ _ _ _ _ _ _ _ _ _ lI (hr.mono (by first|decide|omega)) rfl T.cD.m T.cD.F.kp T.cD.b .nil bj (@ae _ _ _ _ _ (pv 0) (@ae _ _ _ _ _ (@ai _ _ _ _) (@ae _ _ _ _ _ (pv 2) (@af _) (@ah _ _ _ _)) (@aC _ _ _ _ _)) (@ah _ _ _ _)) (by first |rfl |exact .inl rfl |exact .inr rfl |decide |(intro _;rfl) |assumption) (by first |rfl |exact .inl rfl |exact .inr rfl |decide |(intro _;rfl) |assumption) (by first |rfl |exact .inl rfl |exact .inr rfl |decide |(intro _;rfl) |assumption)) (by first |rfl |exact .inl rfl |exact .inr rfl |decide |(intro _;rfl) |assumption) (by first |rfl |exact .inl rfl |exact .inr rfl |decide |(intro _;rfl) |assumption)) (@ag _ _ _ _ _ (@aM _ _ 4 _ _ _ _ nd rfl (zan rfl) (@aF _ _ _ _ _ _ _ _ _ _ _ _ _ _ _ _ lI (hr.mono (by first|decide|omega)) rfl T.cD.m T.cD.F.kp T.cD.b .nil bj (@ae _ _ _ _ _ (pv 0) (@ae _ _ _ _ _ (@ai _ _ _ _) (@ae _ _ _ _ _ (pv 2) (@af _) (@ah _ _ _ _)) (@aC _ _ _ _ _)) (@ah _ _ _ _)) (by first |rfl |exact .inl rfl |exact .inr rfl |decide |(intro _;rfl) |assumption) (by first |rfl |exact .inl rfl |exact .inr rfl |decide |(intro _;rfl) |assumption) (by first |rfl |exact .inl rfl |exact .inr rfl |decide |(intro _;rfl) |assumption)) (by first |rfl |exact .inl rfl |exact .inr rfl |decide |(intro _;rfl) |assumption) (by first |rfl |exact .inl rfl |exact .inr rfl |decide |(intro _;rfl) |assumption)) (@ag _ _ _ _ _ (@aM _ _ 5 _ _ _ _ nd rfl (zan rfl) (@aX _ _ _ _ _ _ _ (@sq _) (@au _ _ _ _) (@aw _ _ _ _ _ _ _ _ (@bS _) (@aF _ _ _ _ _ _ _ _ _ _ _ _ _ _ _ _ bc (hr.mono (by first|decide|omega)) rfl T.ax.m T.ax.F.kp T.ax.b .nil bj (@ae _ _ _ _ _ (pv 0) (@ae _ _ _ _ _ (@ai _ _ _ _) (@af _) (@aC _ _ _ _ _)) (@ah _ _ _ _)) (by first |rfl |exact .inl rfl |exact .inr rfl |decide |(intro _;rfl) |assumption) (by first |rfl |exact .inl rfl |exact .inr rfl |decide |(intro _;rfl) |assumption) (by first |rfl |exact .inl rfl |exact .inr rfl |decide |(intro _;rfl) |assumption)) (@ai _ _ _ _)) (@jm _ _ _ _)) (by first |rfl |exact .inl rfl |exact .inr rfl |decide |(intro _;rfl) |assumption) (by first |rfl |exact .inl rfl |exact .inr rfl |decide |(intro _;rfl) |assumption)) (@ag _ _ _ _ _ (@bo _ _ _ _ _ _ _ _ (@aH _ _ _ _ _ _ _ _ (@cC _) (@aw _ _ _ _ _ _ _ _ (@bS _) (@aw _ _ _ _ _ _ _ _ (@dZ _) (@aF _ _ _ _ _ _ _ _ _ _ _ _ _ _ _ _ bc (hr.mono (by first|decide|omega)) rfl T.ax.m T.ax.F.kp T.ax.b .nil bj (@ae _ _ _ _ _ (pv 0) (@ae _ _ _ _ _ (@ai _ _ _ _) (@af _) (@aC _ _ _ _ _)) (@ah _ _ _ _)) (by first |rfl |exact .inl rfl |exact .inr rfl |decide |(intro _;rfl) |assumption) (by first |rfl |exact .inl rfl |exact .inr rfl |decide |(intro _;rfl) |assumption) (by first |rfl |exact .inl rfl |exact .inr rfl |decide |(intro _;rfl) |assumption)) (@ai _ _ _ _)) (@ai _ _ _ _)) (@ai _ _ _ _) (aT _)) (@ao _ _ _ (@aS _ _ _ _ (@aU _ _ _ _ (@ae _ _ _ _ _ (@aw _ _ _ _ _ _ _ _ aJ (@aw _ _ _ _ _ _ _ _ aJ (@aw _ _ _ _ _ _ _ _ aJ (@aw _ _ _ _ _ _ _ _ aJ (@aw _ _ _ _ _ _ _ _ aJ (@au _ _ _ _) (@aX _ _ _ _ _ _ _ (@a9 _) (pv 3) (@ai _ _ _ _) (@aK _ _ _))) (@au _ _ _ _)) (pv 5)) (@au _ _ _ _)) (@aX _ _ _ _ _ _ _ (@a9 _) (pv 4) (@ai _ _ _ _) (@aK _ _ _))) (@ae _ _ _ _ _ (@cp _ _ _ _ _ (@ae _ _ _ _ _ (@au _ _ _ _) (@ae _ _ _ _ _ (pv 1) (@ae _ _ _ _ _ (pv 5) (@ae _ _ _ _ _ (@aX _ _ _ _ _ _ _ (@a9 _) (pv 3) (@ai _ _ _ _) (@aK _ _ _)) (@ae _ _ _ _ _ (@aX _ _ _ _ _ _ _ (@a9 _) (pv 4) (@ai _ _ _ _) (@aK _ _ _)) (@ae _ _ _ _ _ (@aU _ _ _ _ (@af _)) (@af _) (@sF _ _ _ _)) (@bJ _ _ _ _ _)) (@bJ _ _ _ _ _)) (@ah _ _ _ _)) (@ah _ _ _ _)) (@aC _ _ _ _ _))) (@af _) (@fK _ _ _ _ _)) (@cm _ _ _ _ _ _))))) (@aQ _)) (@ao _ _ _ (@aS _ _ _ _ (@aU _ _ _ _ (@ae _ _ _ _ _ (@aw _ _ _ _ _ _ _ _ aJ (@aw _ _ _ _ _ _ _ _ aJ (@aw _ _ _ _ _ _ _ _ aJ (@aw _ _ _ _ _ _ _ _ aJ (@aw _ _ _ _ _ _ _ _ aJ (@au _ _ _ _) (@aX _ _ _ _ _ _ _ (@a9 _) (pv 3) (@ai _ _ _ _) (@aK _ _ _))) (@au _ _ _ _)) (pv 5)) (@au _ _ _ _)) (@aX _ _ _ _ _ _ _ (@a9 _) (pv 4) (@ai _ _ _ _) (@aK _ _ _))) (@ae _ _ _ _ _ (@cp _ _ _ _ _ (@ae _ _ _ _ _ (@au _ _ _ _) (@ae _ _ _ _ _ (pv 1) (@ae _ _ _ _ _ (pv 5) (@ae _ _ _ _ _ (@aX _ _ _ _ _ _ _ (@a9 _) (pv 3) (@ai _ _ _ _) (@aK _ _ _)) (@ae _ _ _ _ _ (@aX _ _ _ _ _ _ _ (@a9 _) (pv 4) (@ai _ _ _ _) (@aK _ _ _)) (@ae _ _ _ _ _ (@aU _ _ _ _ (@af _)) (@ae _ _ _ _ _ (@aU _ _ _ _ (@af _)) (@af _) (@sF _ _ _ _)) (@sF _ _ _ _)) (@bJ _ _ _ _ _)) (@bJ _ _ _ _ _)) (@ah _ _ _ _)) (@ah _ _ _ _)) (@aC _ _ _ _ _))) (@af _) (@fK _ _ _ _ _)) (@cm _ _ _ _ _ _))))))))),rfl,?_⟩;have line:zdX=2 ^ 24:=rfl;have b1:zac " "=S [32]:=by decide +kernel
 refine aG fun U1 rZ=>?_;walk_at "rd";refine .mk cell 3 a ns rfl (by decide) hS hN fun la wa va ta H1 s1 y1 r1 e1=>(rZ _ _).mpr (aG fun U2 rP=>?_);clear rZ;walk_at "rd";refine .mk cell 30 a ns rfl (by decide) (s1.seq hS) hN fun lb wb vb tb H2 s2 y2 r2 e2=>(rP _ _).mpr (aG fun U3 vk=>?_);clear rP;walk_at "rd";refine⟨cell,2,rfl,by decide,by decide,_,_,rfl,rfl,(show (0:Int)<2 by decide),?_⟩;obtain⟨sg,VS,asg⟩:=kY (L:=([60,61]:List Nat)) (n:=2) rfl (by decide) (stir cell 2);have el:(zac "<=").cps.toList=[60,61]:=by decide +kernel
 have TR:([sg]:W)=[60]\/([sg]:W)=[61]:=by
  simp only[zai,za2,or_false] at VS;rcases VS with rfl |rfl
  ·exact .inl rfl
  ·exact .inr rfl
 refine⟨_,_,sg,rfl,rfl,by decide +kernel,by rw[el];exact asg,(vk _ _).mpr (aG fun U4 zB=>?_)⟩;clear vk;have y1':=s2 _ _ y1;have l0:(S wa).length<=60:=by rw[bZ];exact e1.len
 have lb':(S wb).length<=60:=by rw[bZ];exact e2.len
 have lg:(S [sg]).length<=1:=by rw[bZ];exact zah _
 have l1:(zac "while ").length<=20:=by decide +kernel
 have l2:(zac "if ").length<=20:=by decide +kernel
 have l5:(zac " ").length<=20:=by decide +kernel
 have zW:zac "while "=S (PM.bY++[32]):=by decide +kernel
 have zI:zac "if "=S (PM.jV++[32]):=by decide +kernel
 walk_at "rd";refine⟨cell,2,rfl,by decide,by decide,?_⟩;walk_at "rd";refine cu (fun k0=>?_) (fun k0=>?_)
 ·refine bC (.of y1') (v:=sv wa) (bf (j:=0) rfl) ⟨_,S wa,rfl,rfl,by lia,_,_,rfl,rfl,by rw[strLen_append];lia,_,S [sg],rfl,rfl,by rw[strLen_append,strLen_append];lia,_,_,rfl,rfl,by rw[strLen_append,strLen_append,strLen_append];lia,?_⟩;refine bC (.of y2) (v:=sv wb) (bf (j:=0) rfl) ⟨_,S wb,rfl,rfl,by rw[strLen_append,strLen_append,strLen_append,strLen_append];lia,?_⟩;refine bC (.of y1') (v:=va) (bf (j:=1) rfl) (bC (.of y2) (v:=vb) (bf (j:=1) rfl) fun b fb=>?_);generalize g1:upd H2 b _=A1;have t1:=gL g1 fb;have z1:=Gi g1;clear g1;intro u fu;generalize g1:upd A1 u _=A2;have t2:=gT g1 fu;have z2:=gTa g1;clear g1;intro l fl;generalize g1:upd A2 l _=A3;have t3:=gL g1 fl;have z3:=Gi g1;clear g1;obtain⟨c1,c2⟩:=Bt (k:=PM.bY) (.inr (.inr rfl)) TR e1 e2;exact q l _ _ u PM.bY _ _ _ _ b [] A3 ((s1.trans s2).trans (t1.trans (t2.trans t3))) (by rw[z3,tx4 zW b1];rfl) (t3 _ _ (by rw[z2,sZ];rfl)) (cn (s1.trans s2) fb) (t3 _ _ (t2 _ _ z1)) (.inl ⟨rfl,rfl⟩) c1 c2 (by show (if PM.bY=PM.jV then some true else if PM.bY=PM.bY then some false else none)=some (decide (PM.bY=PM.jV));decide)
 refine(zB _ _).mpr ?_;clear zB;walk_at "rd";refine bC (.of y1') (v:=sv wa) (bf (j:=0) rfl) ⟨_,S wa,rfl,rfl,by lia,_,_,rfl,rfl,by rw[strLen_append];lia,_,S [sg],rfl,rfl,by rw[strLen_append,strLen_append];lia,_,_,rfl,rfl,by rw[strLen_append,strLen_append,strLen_append];lia,?_⟩;refine bC (.of y2) (v:=sv wb) (bf (j:=0) rfl) ⟨_,S wb,rfl,rfl,by rw[strLen_append,strLen_append,strLen_append,strLen_append];lia,?_⟩;refine bC (.of y1') (v:=va) (bf (j:=1) rfl) (bC (.of y2) (v:=vb) (bf (j:=1) rfl) fun b fb=>?_);generalize g1:upd H2 b _=A1;have t1:=gL g1 fb;have z1:=Gi g1;clear g1;intro c fc;generalize g1:upd A1 c _=A0;have t0:=gL g1 fc;have z0:=Gi g1;clear g1;intro u fu;generalize g1:upd A0 u _=A2;have t2:=gT g1 fu;have z2:=gTa g1;clear g1;intro l fl;generalize g1:upd A2 l _=A3;have t3:=gL g1 fl;have z3:=Gi g1;clear g1;obtain⟨c1,c2⟩:=Bt (k:=PM.jV) (.inr (.inl rfl)) TR e1 e2;exact q l _ _ u PM.jV _ _ _ _ b [.ref c] A3 ((s1.trans s2).trans ((t1.trans t0).trans (t2.trans t3))) (by rw[z3,tx4 zI b1];rfl) (t3 _ _ (by rw[z2,SV];rfl)) (cn (s1.trans s2) fb) (t3 _ _ (t2 _ _ (t0 _ _ z1))) (.inr ⟨rfl,c,rfl,cn ((s1.trans s2).trans t1) fc,t3 _ _ (t2 _ _ z0)⟩) c1 c2 (by show (if PM.jV=PM.jV then some true else if PM.jV=PM.bY then some false else none)=some (decide (PM.jV=PM.jV));decide)
def EF:W:=[97,98,99,100,101,102,103,104,105,106,107,108,109,110,111,112,113,114,115,116,117,118,119,120,121,122]
theorem yP(c:Int):∃x,PM.isLetter x=true/\D4 EF (c%26)=some x:=by
 obtain⟨x,hx,a⟩:=kY (L:=EF) (n:=26) rfl (by decide) c;have all:∀x∈EF,PM.isLetter x=true:=by decide
 exact⟨x,all x hx,a⟩
def Cc:List W:=[[122,122,97],[122,122,98],[122,122,99],[122,122,100],[122,122,101],[122,122,102],[122,122,103],[122,122,104],[122,122,105]]
theorem Ts(ns:List W):∀L:List W,L.Nodup->L.length<=(L.filter fun x=>decide (x ∉ ns)).length+ns.length:=fun L hL=>by
 have e:L.length=(L.filter fun x=>decide (x ∉ ns)).length+(L.filter fun x=>decide (x∈ns)).length:=by
  clear hL
  induction L with
  |nil=>rfl
  |cons a l ih=>
   by_cases h:a∈ns
   ·rw[zdd (by simpa using h),zde (by simpa using h),zaf,zaf,ih];lia
   ·rw[zde (by simpa using h),zdd (by simpa using h),zaf,zaf,ih];lia
 have sub:(L.filter fun x=>decide (x∈ns)).length<=ns.length:=PG.xX _ ns (hL.sublist List.filter_sublist) fun x hx=>by simpa using (zco.mp hx).2
 lia
theorem WJ(ns:List W):9<=((zaA 9).filter fun n=>decide (Cc.getD n [] ∉ ns)).length+ns.length:=by
 have h:=Ts ns Cc (by decide);have e:Cc=(zaA 9).map fun n=>Cc.getD n []:=by decide
 have e2:(Cc.filter fun x=>decide (x ∉ ns)).length=((zaA 9).filter fun n=>decide (Cc.getD n [] ∉ ns)).length:=by
  conv=>lhs;rw[e]
  rw[List.filter_map,zaj];rfl
 rw[e2] at h;exact h
theorem WK(T:Tx K mg t):bu P w K mg base jh 2 t.jw t.kR ["head", "k", "many"] Us:=by
 have bc:=m3 (P:=P) (w:=w) (base:=base) T;refine T.gS.F.uX u7 (fun vs H Q E h=>?_) (fun d0 A outer s H vs Q E hr h=>?_)
 ·obtain⟨_,_,_,rfl,_⟩:=h;rfl
 obtain⟨hd,k,m,rfl,hk,hm,q⟩:=h;have nd:=u7.nd;refine⟨_,[some (.int hd),some (.int k),some (.int m),none,none,none,none,none,none,none,none,none],(by
  rw[C6];exact(@ag _ _ _ _ _ (@aM _ _ 3 _ _ _ _ nd rfl (Or.inr rfl) (@au _ _ _ _) (by first |rfl |exact .inl rfl |exact .inr rfl |decide |(intro _;rfl) |assumption) (by first |rfl |exact .inl rfl |exact .inr rfl |decide |(intro _;rfl) |assumption)) (@ag _ _ _ _ _ (@aM _ _ 4 _ _ _ _ nd rfl (zan rfl) (@aU _ _ _ _ (@bD _ _ ([.str "box",.str "ask",.str "put",.str "say",.str "if",.str "else",.str "while",.str "must",.str "stop",.str "end"]) (by kernel_rfl))) (by first |rfl |exact .inl rfl |exact .inr rfl |decide |(intro _;rfl) |assumption) (by first |rfl |exact .inl rfl |exact .inr rfl |decide |(intro _;rfl) |assumption)) (@ag _ _ _ _ _ (@aM _ _ 5 _ _ _ _ nd rfl (zan rfl) (@aw _ _ _ _ _ _ _ _ (@dR _) (@ai _ _ _ _) (@aw _ _ _ _ _ _ _ _ (@bS _) (@aF _ _ _ _ _ _ _ _ _ _ _ _ _ _ _ _ bc (hr.mono (by first|decide|omega)) rfl T.ax.m T.ax.F.kp T.ax.b .nil bj (@ae _ _ _ _ _ (pv 0) (@ae _ _ _ _ _ (pv 1) (@af _) (@ah _ _ _ _)) (@ah _ _ _ _)) (by first |rfl |exact .inl rfl |exact .inr rfl |decide |(intro _;rfl) |assumption) (by first |rfl |exact .inl rfl |exact .inr rfl |decide |(intro _;rfl) |assumption) (by first |rfl |exact .inl rfl |exact .inr rfl |decide |(intro _;rfl) |assumption)) (@ai _ _ _ _))) (by first |rfl |exact .inl rfl |exact .inr rfl |decide |(intro _;rfl) |assumption) (by first |rfl |exact .inl rfl |exact .inr rfl |decide |(intro _;rfl) |assumption)) (@ag _ _ _ _ _ (@aM _ _ 6 _ _ _ _ nd rfl (zan rfl) (@jk _ _ _ _ _ _ _ _ _ _ _ _ zbe zbM zbN Sx (@au _ _ _ _) (@ae _ _ _ _ _ (@uy _ _ _ _ _ _ _ ["j"] ([0,1,3]) _ _ _ _ rfl (by rfl) (by rfl) (@qd _ _ _ _ _ _ rfl T.rD (@ae _ _ _ _ _ (pv 5) (@af _) (@ah _ _ _ _)) (by first |rfl |exact .inl rfl |exact .inr rfl |decide |(intro _;rfl) |assumption)) (fun _ _ _ _=>(@cF _ _ 0 _ (by show List.Nodup (["j", "head", "k", "letters"]:List Str);decide +kernel) rfl (zan rfl) (by first |rfl |exact .inl rfl |exact .inr rfl |decide |(intro _;rfl) |assumption))) (fun _ _ _ _=>(@qN _)) (fun _ _ _ _=>(@aX _ _ _ _ _ _ _ (@sq _) (pv 3) (@aw _ _ _ _ _ _ _ _ (@bS _) (@aF _ _ _ _ _ _ _ _ _ _ _ _ _ _ _ _ bc (hr.mono (by first|decide|omega)) rfl T.ax.m T.ax.F.kp T.ax.b .nil bj (@ae _ _ _ _ _ (pv 1) (@ae _ _ _ _ _ (@aw _ _ _ _ _ _ _ _ (@dR _) (@aw _ _ _ _ _ _ _ _ (@dR _) (pv 2) (@ai _ _ _ _)) (pv 0)) (@af _) (@cm _ _ _ _ _ _)) (@ah _ _ _ _)) (by first |rfl |exact .inl rfl |exact .inr rfl |decide |(intro _;rfl) |assumption) (by first |rfl |exact .inl rfl |exact .inr rfl |decide |(intro _;rfl) |assumption) (by first |rfl |exact .inl rfl |exact .inr rfl |decide |(intro _;rfl) |assumption)) (@ai _ _ _ _)) (@jm _ _ _ _))) (by first |rfl |exact .inl rfl |exact .inr rfl |decide |(intro _;rfl) |assumption)) (@af _) (@Lh _ _ _ _ _ _)) (by first |rfl |exact .inl rfl |exact .inr rfl |decide |(intro _;rfl) |assumption) (by first |rfl |exact .inl rfl |exact .inr rfl |decide |(intro _;rfl) |assumption) (by first |rfl |exact .inl rfl |exact .inr rfl |decide |(intro _;rfl) |assumption) (by first |rfl |exact .inl rfl |exact .inr rfl |decide |(intro _;rfl) |assumption) (by first |rfl |exact .inl rfl |exact .inr rfl |decide |(intro _;rfl) |assumption)) (by first |rfl |exact .inl rfl |exact .inr rfl |decide |(intro _;rfl) |assumption) (by first |rfl |exact .inl rfl |exact .inr rfl |decide |(intro _;rfl) |assumption)) (@ag _ _ _ _ _ (@aM _ _ 7 _ _ _ _ nd rfl (Or.inr rfl) (@aU _ _ _ _ (@af _)) (by first |rfl |exact .inl rfl |exact .inr rfl |decide |(intro _;rfl) |assumption) (by first |rfl |exact .inl rfl |exact .inr rfl |decide |(intro _;rfl) |assumption)) (@ag _ _ _ _ _ (@si _ _ _ _ _ _ _ _ PassesOwn.never rfl (@qd _ _ _ _ _ _ rfl T.rD (@ae _ _ _ _ _ (pv 2) (@af _) (@ah _ _ _ _)) (by first |rfl |exact .inl rfl |exact .inr rfl |decide |(intro _;rfl) |assumption)) (@cF _ _ 8 _ nd rfl (zan rfl) (by first |rfl |exact .inl rfl |exact .inr rfl |decide |(intro _;rfl) |assumption)) (@ag _ _ _ _ _ (@aM _ _ 9 _ _ _ _ nd rfl (zan rfl) (@aF _ _ _ _ _ _ _ _ _ _ _ _ _ _ _ _ bc (hr.mono (by first|decide|omega)) rfl T.ax.m T.ax.F.kp T.ax.b .nil bj (@ae _ _ _ _ _ (pv 0) (@ae _ _ _ _ _ (@aw _ _ _ _ _ _ _ _ (@dR _) (@aw _ _ _ _ _ _ _ _ (@dR _) (pv 1) (@ai _ _ _ _)) (pv 8)) (@af _) (@cm _ _ _ _ _ _)) (@ah _ _ _ _)) (by first |rfl |exact .inl rfl |exact .inr rfl |decide |(intro _;rfl) |assumption) (by first |rfl |exact .inl rfl |exact .inr rfl |decide |(intro _;rfl) |assumption) (by first |rfl |exact .inl rfl |exact .inr rfl |decide |(intro _;rfl) |assumption)) (by first |rfl |exact .inl rfl |exact .inr rfl |decide |(intro _;rfl) |assumption) (by first |rfl |exact .inl rfl |exact .inr rfl |decide |(intro _;rfl) |assumption)) (@ag _ _ _ _ _ (@aM _ _ 10 _ _ _ _ nd rfl (zan rfl) (@aw _ _ _ _ _ _ _ _ (@bS _) (pv 9) (pv 5)) (by first |rfl |exact .inl rfl |exact .inr rfl |decide |(intro _;rfl) |assumption) (by first |rfl |exact .inl rfl |exact .inr rfl |decide |(intro _;rfl) |assumption)) (@ag _ _ _ _ _ (@aM _ _ 11 _ _ _ _ nd rfl (zan rfl) (@aw _ _ _ _ _ _ _ _ aJ (@aw _ _ _ _ _ _ _ _ aJ (@d4 _ _ _ _ _ _ _ _ _ _ AU (pv 6) (@fQ _) (@fS _ _ _ (pv 10))) (@aX _ _ _ _ _ _ _ (@sq _) (pv 3) (@aw _ _ _ _ _ _ _ _ (@bS _) (@aw _ _ _ _ _ _ _ _ (@dZ _) (pv 9) (@ai _ _ _ _)) (@ai _ _ _ _)) (@jm _ _ _ _))) (@d4 _ _ _ _ _ _ _ _ _ _ AU (pv 6) (@fS _ _ _ (@aw _ _ _ _ _ _ _ _ (@dR _) (pv 10) (@ai _ _ _ _))) (@fQ _))) (by first |rfl |exact .inl rfl |exact .inr rfl |decide |(intro _;rfl) |assumption) (by first |rfl |exact .inl rfl |exact .inr rfl |decide |(intro _;rfl) |assumption)) (@ag _ _ _ _ _ (@bo _ _ _ _ _ _ _ _ (@aH _ _ _ _ _ _ _ _ (@cC _) (@aw _ _ _ _ _ _ _ _ (@bS _) (@aw _ _ _ _ _ _ _ _ (@dZ _) (pv 9) (@ai _ _ _ _)) (@ai _ _ _ _)) (@ai _ _ _ _) (aT _)) (@ao _ _ _ (@aM _ _ 11 _ _ _ _ nd rfl (zan rfl) (@d4 _ _ _ _ _ _ _ _ _ _ AU (pv 6) (@fQ _) (@fS _ _ _ (@aw _ _ _ _ _ _ _ _ (@dR _) (pv 10) (@ai _ _ _ _)))) (by first |rfl |exact .inl rfl |exact .inr rfl |decide |(intro _;rfl) |assumption) (by first |rfl |exact .inl rfl |exact .inr rfl |decide |(intro _;rfl) |assumption))) (@aQ _)) (@ag _ _ _ _ _ (@bo _ _ _ _ _ _ _ _ (@PW.pt _ _ _ (@pw_or _ _ _ _ _ _ _ (@aH _ _ _ _ _ _ _ _ (@i4 _) (pv 11) (pv 7) rfl) (@pw_or1 _ _ _ _ (@aH _ _ _ _ _ _ _ _ (@i4 _) (pv 11) (pv 4) rfl)))) (@ao _ _ _ (@aM _ _ 11 _ _ _ _ nd rfl (zan rfl) (@aX _ _ _ _ _ _ _ (@a9 _) (@uy _ _ _ _ _ _ _ ["one"] [7] _ _ _ _ rfl (by rfl) (by rfl) (@qH _ _ _ _ (@uy _ _ _ _ _ _ _ ["n"] [3] _ _ _ _ rfl (by rfl) (by rfl) (@qd _ _ _ _ _ _ rfl T.rD (@ae _ _ _ _ _ (@ai _ _ _ _) (@af _) (@aC _ _ _ _ _)) (by first |rfl |exact .inl rfl |exact .inr rfl |decide |(intro _;rfl) |assumption)) (fun _ _ _ _=>(@cF _ _ 0 _ (by show List.Nodup (["n", "letters"]:List Str);decide +kernel) rfl (zan rfl) (by first |rfl |exact .inl rfl |exact .inr rfl |decide |(intro _;rfl) |assumption))) (fun _ _ _ _=>(@qN _)) (fun _ _ _ _=>(@aw _ _ _ _ _ _ _ _ aJ (@au _ _ _ _) (@aX _ _ _ _ _ _ _ (@sq _) (pv 1) (pv 0) (@wI _ _)))) (by first |rfl |exact .inl rfl |exact .inr rfl |decide |(intro _;rfl) |assumption))) (fun _ _ _ _=>(@cF _ _ 0 _ (by show List.Nodup (["one", "found"]:List Str);decide +kernel) rfl (zan rfl) (by first |rfl |exact .inl rfl |exact .inr rfl |decide |(intro _;rfl) |assumption))) (fun _ _ _ _=>(Sh (@aH _ _ _ _ _ _ _ _ (MR (K:=K) rfl) (pv 0) (pv 1) rfl))) (fun _ _ _ _=>(pv 0)) (by first |rfl |exact .inl rfl |exact .inr rfl |decide |(intro _;rfl) |assumption)) (@aw _ _ _ _ _ _ _ _ (@bS _) (@aw _ _ _ _ _ _ _ _ (@dZ _) (pv 9) (@ai _ _ _ _)) (@ai _ _ _ _)) (@jm _ _ _ _)) (by first |rfl |exact .inl rfl |exact .inr rfl |decide |(intro _;rfl) |assumption) (by first |rfl |exact .inl rfl |exact .inr rfl |decide |(intro _;rfl) |assumption))) (@aQ _)) (@ao _ _ _ (@cP _ _ _ _ (@jk _ _ _ _ _ _ _ _ _ _ _ _ zaF zaL zaM cZ (pv 7) (@ae _ _ _ _ _ (pv 11) (@af _) (@ah _ _ _ _)) (by first |rfl |exact .inl rfl |exact .inr rfl |decide |(intro _;rfl) |assumption) (by first |rfl |exact .inl rfl |exact .inr rfl |decide |(intro _;rfl) |assumption) (by first |rfl |exact .inl rfl |exact .inr rfl |decide |(intro _;rfl) |assumption) (by first |rfl |exact .inl rfl |exact .inr rfl |decide |(intro _;rfl) |assumption) (by first |rfl |exact .inl rfl |exact .inr rfl |decide |(intro _;rfl) |assumption)) (by first |rfl |exact .inl rfl |exact .inr rfl |decide |(intro _;rfl) |assumption)))))))) (by first |rfl |exact .inl rfl |exact .inr rfl |decide |(intro _;rfl) |assumption)) (@ao _ _ _ (@aS _ _ _ _ (pv 7)))))))))),rfl,?_⟩
 have line:zdX=2 ^ 24:=rfl;have elt:(zac "abcdefghijklmnopqrstuvwxyz").cps.toList=EF:=by decide +kernel
 have lls:(zac "abcdefghijklmnopqrstuvwxyz").length<=26:=by decide +kernel
 refine aG fun U1 rZ=>?_;walk_at "rd";refine(rZ _ _).mpr (aG fun U2 rP=>?_);clear rZ;generalize zac "abcdefghijklmnopqrstuvwxyz"=LT at *;walk_at "rd";intro pb fb;have el1:([V.str (zac "box"),V.str (zac "ask"),V.str (zac "put"),V.str (zac "say"),V.str (zac "if"),V.str (zac "else"),V.str (zac "while"),V.str (zac "must"),V.str (zac "stop"),V.str (zac "end")]:List V)=PM.fT.map sv:=by decide +kernel
 rw[el1];have s1:=ay.new fb (.lst (PM.fT.map sv));have yb:(upd H pb (.lst (PM.fT.map sv))) pb=some (.lst (PM.fT.map sv)):=aj;generalize upd H pb (.lst (PM.fT.map sv))=H1 at *;refine(rP _ _).mpr (aG fun U3 vk=>?_);clear rP;walk_at "rd";refine⟨hd,k,rfl,by lia,by lia,?_⟩;walk_at "rd";refine(vk _ _).mpr (aG fun U4 zB=>?_);clear vk;have m8:=zaY (stir hd k) (show (8:Int)≠0 by decide);have m8':=zaT (stir hd k) (show (0:Int)<8 by decide);obtain⟨sz,esz,af6,af7⟩:∃sz:Nat,1+stir hd k%8=(sz:Int)/\1<=sz/\sz<=8:=⟨(1+stir hd k%8).toNat,by lia,by lia,by lia⟩
 rw[esz];walk_at "rd";refine⟨rfl,?_⟩;simp only[yX];walk_at "rd";obtain⟨g,hg⟩:∃g:Nat->Nat,∀j:Nat,PM.isLetter (g j)=true/\D4 EF (stir hd ((k:Int)+1+j)%26)=some (g j):=⟨fun j=>Classical.choose (yP (stir hd ((k:Int)+1+j))),fun j=>Classical.choose_spec (yP (stir hd ((k:Int)+1+j)))⟩
 refine⟨_,rfl,by lia,by lia,fun D hD=>?_⟩;rw[zbP];refine AZ (n:=sz) (r:=[some (V.int hd),some (V.int k),some (V.str LT)]) (fun j=>sv [g j]) (by lia) (fun i hi ys R hR=>?_) ?_
 ·walk_at "rd";refine⟨hd,_,rfl,by lia,by lia,_,_,rfl,rfl,(show (0:Int)<26 by decide),_,_,g i,rfl,rfl,by lia,by rw[elt];exact(hg i).2,hR⟩
 have e2:(zaA sz).map (fun j=>sv [g j])=((zaA sz).map fun j=>[g j]).map sv:=by rw[zbE];rfl
 rw[e2];have s2:=s1.trans (ay.new hD (.lst (((zaA sz).map fun j=>[g j]).map sv)));have yb2:=ay.new hD (.lst (((zaA sz).map fun j=>[g j]).map sv)) _ _ yb;have yD:(upd H1 D (.lst (((zaA sz).map fun j=>[g j]).map sv))) D=some (.lst (((zaA sz).map fun j=>[g j]).map sv)):=aj;generalize upd H1 D (.lst (((zaA sz).map fun j=>[g j]).map sv))=H2 at *;have ef:((zaA sz).map fun j=>[g j]).flatten=(zaA sz).map g:=by
  generalize zaA sz=L
  induction L with
  |nil=>rfl
  |cons a l ih=>rw[zaq,zaP,ih];rfl
 refine⟨D,(zaA sz).map fun j=>[g j],rfl,.of yD,by rw[ef,zaj,zcc];lia,?_⟩;rw[ef];obtain⟨lJ,est⟩:∃lJ:W,lJ=(zaA sz).map g:=⟨_,rfl⟩
 rw[<- est];have ls:lJ.length=sz:=by rw[est,zaj,zcc]
 have ks:∀c∈lJ,PM.isLetter c=true:=fun c hc=>by
  rw[est] at hc;obtain⟨j,_,rfl⟩:=zaI.mp hc;exact(hg j).1
 clear est ef yD e2 hg;refine(zB _ _).mpr (aG fun U5 FL=>?_);clear zB;walk_at "rd";intro F fF;have fF0:H F=none:=cn s2 fF;have s3:=s2.trans (ay.new fF (.lst []));have yb3:=ay.new fF (.lst []) _ _ yb2;have yF:(upd H2 F (.lst [])) F=some (.lst []):=aj;have nbF:pb≠F:=fun z=>by rw[<- z,yb2] at fF;cases fF
 generalize upd H2 F (.lst [])=H3 at *;refine(FL _ _).mpr (aG fun U6 Je=>?_);clear FL;refine GV fun U hU=>?_;walk_at "rd";refine⟨_,rfl,by lia,by lia,hU _ _ ?_⟩;clear hU;rw[zbP];refine DX (lo:=0) (n:=m) (fun i σ Hx=>∃(ns:List W) (x8 x9 Zq Zr:Option V),σ=[some (.int hd),some (.int k),some (.int m),some (.str LT),some (.ref pb),some (.int sz),some (sv lJ),some (.ref F),x8,x9,Zq,Zr]/\Hx F=some (.lst (ns.map sv))/\Hx pb=some (.lst (PM.fT.map sv))/\ns.length=i/\Ng ns/\ay H Hx) ⟨[],none,none,none,none,rfl,yF,yb3,rfl,⟨(fun x hx=>by cases hx),.nil,by decide⟩,s3⟩ ?_ ?_
 ·rintro i σ Hx hi ⟨ns,x8,x9,Zq,Zr,rfl,yf,yp,li,hN,sx⟩
  obtain⟨Nx,Tq⟩:∃Nx:St->Hp->Prop,∀σ H',Nx σ H'↔∃(ns:List W) (x8 x9 Zq Zr:Option V),σ=[some (.int hd),some (.int k),some (.int m),some (.str LT),some (.ref pb),some (.int sz),some (sv lJ),some (.ref F),x8,x9,Zq,Zr]/\H' F=some (.lst (ns.map sv))/\H' pb=some (.lst (PM.fT.map sv))/\ns.length=i+1/\Ng ns/\ay H H':=⟨_,fun _ _=>Iff.rfl⟩
  simp only[<- Tq];rw[zdJ];show Mh _ _ _ _ _;refine aG fun V1 Zs=>?_;walk_at "rd";refine⟨hd,_,rfl,by lia,by lia,(Zs _ _).mpr (aG fun V2 Zt=>?_)⟩;clear Zs;obtain⟨n0,_⟩:=jZ hd ((k:Int)+9+i);generalize stir hd ((k:Int)+9+i)=num at *;walk_at "rd";refine⟨by lia,(Zt _ _).mpr (aG fun V3 hV3=>?_)⟩;clear Zt;have a0:=zaY num (show (sz:Int)≠0 by lia);have a1:=zaT num (show (0:Int)<(sz:Int) by lia);obtain⟨j,hj⟩:=zbc a0;rw[hj] at a1 ⊢;walk_at "rd";obtain⟨c,hc,ac⟩:=yP (num/8);refine⟨_,rfl,S lJ,rfl,by rw[bZ];lia,?_⟩;rw[Fg (by lia)];refine⟨_,_,c,rfl,rfl,by lia,by rw[elt];exact ac,?_⟩;refine⟨S (lJ.take j),⟨#[c]⟩,rfl,rfl,by rw[bZ,zaB];show _+1<=_;lia,_,rfl,S lJ,rfl,by rw[bZ];lia,?_⟩;rw[show ((j:Int)+1)=((j+1:Nat):Int) by lia,EA (by lia)];refine⟨_,S (lJ.drop (j+1)),rfl,rfl,by rw[strLen_append,bZ,bZ,zaB,zaQ];show _+1+_<=_;lia,?_⟩;have ew:V.str (S (lJ.take j)++⟨#[c]⟩++S (lJ.drop (j+1)))=sv (lJ.take j++[c]++lJ.drop (j+1)):=by
   show V.str (S (lJ.take j)++S [c]++S (lJ.drop (j+1)))=_;rw[gb,gb];rfl
  rw[ew];have k1:∀x∈lJ.take j++[c]++lJ.drop (j+1),PM.isLetter x=true:=fun x hx=>by
   rcases zam.mp hx with h |h
   ·rcases zam.mp h with h |h
    ·exact ks x (zbl h)
    ·rw[zad.mp h];exact hc
   ·exact ks x (zbF h)
  have l1:(lJ.take j++[c]++lJ.drop (j+1)).length=sz:=by
   rw[zae,zae,zaB,zaQ,ls,zaw];lia
  refine(hV3 _ _).mpr (aG fun V4 hV4=>?_);clear hV3;have next:∀wd:W,1<=wd.length->wd.length<=8->(∀x∈wd,PM.isLetter x=true)->V4 [some (.int hd),some (.int k),some (.int m),some (.str LT),some (.ref pb),some (.int sz),some (sv lJ),some (.ref F),some (.int i),some (.int num),some (.int j),some (sv wd)] Hx:=by
   intro wd w1 w8 kw;refine(hV4 _ _).mpr (aG fun V5 hV5=>?_);clear hV4;have put:∀(w2:W) (H':Hp),PM.isName w2=true->w2 ∉ ns->ay Hx H'->V5 [some (.int hd),some (.int k),some (.int m),some (.str LT),some (.ref pb),some (.int sz),some (sv lJ),some (.ref F),some (.int i),some (.int num),some (.int j),some (sv w2)] H':=by
    intro w2 H' n2 nn s';refine(hV5 _ _).mpr ?_;clear hV5;walk_at "rd";refine⟨.inl ⟨rfl,_,.of (s' _ _ yf)⟩,F,_,_,rfl,rfl,s' _ _ yf,by rw[zaj];lia,(Tq _ _).mpr ⟨ns++[w2],_,_,_,_,rfl,by rw[aj,zas];rfl,by rw[aq nbF];exact s' _ _ yp,by rw[zae,li];rfl,⟨fun x hx=>?_,?_,by rw[zae,zaw];lia⟩,fun y u e=>by rw[aq (aI e fF0)];exact s' _ _ (sx _ _ e)⟩⟩
    ·rcases zam.mp hx with h |h
     ·exact hN.ok x h
     ·rw[zad.mp h];exact n2
    ·refine zbQ.mpr ⟨hN.nd,by simp,fun x hx y hy e=>?_⟩;rw[zad.mp hy] at e;exact nn (e▸hx)
   have isn:¬wd∈PM.fT->PM.isName wd=true:=fun h=>by
    unfold PM.isName;simp only[zaD,decide_eq_true_eq,za4,Bool.not_eq_true',List.contains_eq_mem,decide_eq_false_iff_not];exact⟨⟨⟨w1,w8⟩,kw⟩,h⟩
   have fl:∀l:List W,(l.map sv).all wD=true:=fun l=>za4.mpr fun v hv=>by obtain⟨x,_,rfl⟩:=zaI.mp hv;rfl
   refine sV fun W1 W2 hW1 hW2=>?_;have zz:W1 [some (.int hd),some (.int k),some (.int m),some (.str LT),some (.ref pb),some (.int sz),some (sv lJ),some (.ref F),some (.int i),some (.int num),some (.int j),some (sv wd)] Hx:=by
    refine(hW1 _ _).mpr ?_;clear hW1 hW2;walk_at "rd";simp only[yX];walk_at "rd";refine⟨_,rfl,by decide,by decide,fun D1 h1=>?_⟩;refine AZ (n:=9) (r:=[some (V.str LT)]) (fun n=>sv [122,122,97+n]) (by decide) (fun n hn ys R hR=>?_) ?_
    ·walk_at "rd";have at9:∀n:Nat,n<9->D4 EF (n:Int)=some (97+n):=by decide
     refine⟨_,_,97+n,rfl,rfl,by lia,by rw[elt];exact at9 n hn,_,_,rfl,rfl,?_,?_⟩
     ·have:(zac "zz").length=2:=by decide +kernel
      rw[this];show 2+1<=_;lia
     ·have ez:V.str (zac "zz"++⟨#[97+n]⟩)=sv [122,122,97+n]:=by
       rw[show zac "zz"=S [122,122] by decide +kernel];show V.str (S [122,122]++S [97+n])=_;rw[gb];rfl
      rw[ez];exact hR
    have ez:(zaA 9).map (fun n=>sv [122,122,97+n])=Cc.map sv:=by decide +kernel
    rw[ez];have t1:=ay.new h1 (.lst (Cc.map sv));have y1:(upd Hx D1 (.lst (Cc.map sv))) D1=some (.lst (Cc.map sv)):=aj;generalize upd Hx D1 (.lst (Cc.map sv))=A1 at *;refine⟨D1,rfl,⟨_,.of y1⟩,fun D2 h2=>?_⟩;refine JL (K:=K) (r:=[some (.ref F)]) (fun n=>decide (Cc.getD n [] ∉ ns)) (fun n=>sv (Cc.getD n [])) (.of y1) (by decide) h2 (fun n x hx A2 s2 R hR=>?_) (fun n x hx _ A2 s2 R hR=>?_) (fun A2 s2 y2=>?_)
    ·rw[zaE] at hx;obtain⟨u,hu,rfl⟩:=zbd.mp hx;walk_at "rd";refine⟨F,ns.map sv,rfl,.inl (.of (s2 _ _ (t1 _ _ yf))),rfl,fl ns,_,rfl,?_⟩;have eu:Cc.getD n []=u:=by rw[zaz,hu];rfl
     rw[if_pos rfl,in_words];have:=hR A2 (ay.refl _);rw[eu] at this;have e3:(!ns.contains u)=decide (u ∉ ns):=by by_cases h:u∈ns<;>simp[h]
     rw[e3];exact this
    ·rw[zaE] at hx;obtain⟨u,hu,rfl⟩:=zbd.mp hx;have eu:Cc.getD n []=u:=by rw[zaz,hu];rfl
     walk_at "rd";have:=hR A2 (ay.refl _);rw[eu] at this;exact this
    ·have l9:(Cc.map sv).length=9:=rfl;rw[l9] at y2;have Gf:=WJ ns;obtain⟨v2,To,a2⟩:∃v∈(((zaA 9).filter fun n=>decide (Cc.getD n [] ∉ ns)).map fun n=>sv (Cc.getD n [])),D4 (((zaA 9).filter fun n=>decide (Cc.getD n [] ∉ ns)).map fun n=>sv (Cc.getD n [])) (num/832%2)=some v:=by
      have c0:=zaY (num/832) (show (2:Int)≠0 by decide);have c1:=zaT (num/832) (show (0:Int)<2 by decide);obtain⟨c,hc⟩:=zbc c0;rw[hc] at c1 ⊢;have hl:c<(((zaA 9).filter fun n=>decide (Cc.getD n [] ∉ ns)).map fun n=>sv (Cc.getD n [])).length:=by
       rw[zaj];have:=hN.Gf;lia
      exact⟨_,zaK hl,bf (zag hl)⟩
     obtain⟨n,hn,rfl⟩:=zaI.mp To;obtain⟨hr9,hnn⟩:=zco.mp hn;have zn:∀n<9,PM.isName (Cc.getD n [])=true:=by decide
     refine bC (.of y2) a2 ?_;exact put _ A2 (zn n (zbu.mp hr9)) (of_decide_eq_true hnn) (t1.trans s2)
   have skip:¬wd∈ns->¬wd∈PM.fT->W2 [some (.int hd),some (.int k),some (.int m),some (.str LT),some (.ref pb),some (.int sz),some (sv lJ),some (.ref F),some (.int i),some (.int num),some (.int j),some (sv wd)] Hx:=fun n1 n2=>(hW2 _ _).mpr (put wd Hx (isn n2) n1 (ay.refl _));walk_at "rd";refine⟨F,ns.map sv,rfl,.inl (.of yf),rfl,fl ns,_,rfl,?_⟩;rw[if_neg zal,in_words];refine cu (fun _=>?_) (fun c1=>?_)
   ·rw[if_pos trivial];exact zz
   ·refine⟨pb,PM.fT.map sv,rfl,.inl (.of yp),rfl,fl _,_,rfl,?_⟩;rw[if_neg zal,in_words];refine cu (fun _=>zz) (fun c2=>skip (fun h=>c1 (by simpa using h)) (fun h=>c2 (by simpa using h)))
  walk_at "rd";refine cu (fun _=>?_) (fun _=>next _ (by lia) (by lia) k1);refine⟨_,rfl,S lJ,rfl,by rw[bZ];lia,?_⟩;rw[show ((j:Int)+1)=((j+1:Nat):Int) by lia,Fg (by lia)];exact next (lJ.take (j+1)) (by rw[zaB];lia) (by rw[zaB];lia) fun x hx=>ks x (zbl hx)
 ·rintro σ Hx ⟨ns,x8,x9,Zq,Zr,rfl,yf,yp,li,hN,sx⟩
  refine(Je _ _).mpr ?_;clear Je;walk_at "rd";exact q F ns Hx sx fF0 yf hN li
theorem Rl{ns:List W}(h:Ng ns)(n:Nat):Ng (ns.take n):=
 ⟨fun x hx=>h.ok x (zbl hx),h.nd.sublist (List.take_sublist _ _),by rw[zaB];have:=h.Gf;lia⟩
theorem Zu(T:Tx K mg t):bu P w K mg base jh 3 t.jy t.kS ["head"] (YY K):=by
 have bc:=m3 (P:=P) (w:=w) (base:=base) T;have FO:=WK (P:=P) (w:=w) (base:=base) T;refine T.gU.F.uX u9 (fun vs H Q E h=>?_) (fun d0 A outer s H vs Q E hr h=>?_)
 ·obtain⟨_,rfl,_⟩:=h;rfl
 obtain⟨hd,rfl,q⟩:=h;have nd:=u9.nd;refine⟨_,[some (.int hd),none,none,none,none,none],(ag (aM (i:=1) nd rfl (zan rfl) (d4 ux (aF FO (hr.mono (by first|decide|omega)) rfl T.gS.m T.gS.F.kp T.gS.b .nil bj (ae (pv 0) (ae ai (ae ai af aC) aC) ah)) fQ (fS (aw bS (aF bc (hr.mono (by first|decide|omega)) rfl T.ax.m T.ax.F.kp T.ax.b .nil bj (ae (pv 0) (ae ai af aC) ah)) ai))))
 (ag (aM (i:=2) nd rfl (zan rfl) (aU af))
 (ag (si PassesOwn.never rfl (qd rfl T.rD (ae (bb bq rfl T.eY PyProof.Rows.Boot.«len» (ae (pv 1) af ah)) af bH)) (cF (i:=3) nd rfl (zan rfl))
 (ag (aM (i:=4) nd rfl (zan rfl) (aF bc (hr.mono (by first|decide|omega)) rfl T.ax.m T.ax.F.kp T.ax.b .nil bj (ae (pv 0) (ae (aw dR ai (pv 3)) af cm) ah)))
 (ag (aM (i:=5) nd rfl (zan rfl) (aX a9 (aU (ae ai (ae ai (ae (aw dR ai (aw bS (aw dZ (pv 4) ai) ai)) (ae (aw dR ai (aw bS (aw dZ (pv 4) ai) ai)) af cm) cm) aC) aC)) (aw bS (pv 4) ai) jm))
 (ao (cP (jk zaF zaL zaM cZ (pv 2) (ae (cp (ae (aX a9 (pv 1) (pv 3) wI) (ae (pv 5) (ae (aX a9 (aU (ae ai (ae (aw vw (pv 5) ai) (ae (aw bS (aw dZ (pv 4) ai) (pv 5)) af cm) cm) aC)) (aw bS (aw dZ (pv 4) ai) ai) jm) af bJ) ah) bJ)) af fK)))))))
 (ao (aS (pv 2)))))),rfl,?_⟩
 have line:zdX=2 ^ 24:=rfl;refine aG fun U1 rZ=>?_;walk_at "rd";refine .mk hd 400 4 rfl (by decide) (by decide) fun l0 ns0 H1 s1 _ y1 hN0 l4=>?_;refine⟨hd,500,rfl,by decide,by decide,?_⟩;walk_at "rd";have m5:=zaY (stir hd 500) (show (5:Int)≠0 by decide);refine⟨_,rfl,l0,_,rfl,.of y1,fun N fN=>?_⟩;rw[E6 _ m5,<- zcV];have hN:=Rl hN0 (stir hd 500%5).toNat;generalize ns0.take (stir hd 500%5).toNat=ns at *;have s2:=s1.trans (ay.new fN (.lst (ns.map sv)));have yN:(upd H1 N (.lst (ns.map sv))) N=some (.lst (ns.map sv)):=aj;generalize upd H1 N (.lst (ns.map sv))=H2 at *;refine(rZ _ _).mpr (aG fun U2 rP=>?_);clear rZ;walk_at "rd";intro B fB;have fB0:H B=none:=cn s2 fB;have nNB:N≠B:=fun z=>by rw[<- z,yN] at fB;cases fB
 have Zv:vH K H2 B (upd H2 B (.lst [])) [] []:=vH.new fB;generalize upd H2 B (.lst [])=H3 at *;refine(rP _ _).mpr (aG fun U3 vk=>?_);clear rP;refine GV fun U hU=>?_;walk_at "rd";refine⟨N,_,rfl,.inl (.of (Zv.s _ _ yN)),?_⟩;have l4':=hN.Gf;rw[zaj];refine⟨_,rfl,by lia,by lia,hU _ _ ?_⟩;clear hU;rw[zbP];refine DX (lo:=0) (n:=ns.length) (fun i σ Hx=>∃(us:List V) (bs:List (W×Int×Int)) (x3 x4 x5:Option V),σ=[some (.int hd),some (.ref N),some (.ref B),x3,x4,x5]/\vH K H2 B Hx us (bs.map Wt)/\(∀b∈bs,YW b)/\bs.map (·.1)=ns.take i) ⟨[],[],none,none,none,rfl,Zv,(fun b hb=>by cases hb),rfl⟩ ?_ ?_
 ·rintro i σ Hx hi ⟨us,bs,x3,x4,x5,rfl,acc,hb,eb⟩
  obtain⟨Nx,Tq⟩:∃Nx:St->Hp->Prop,∀σ H',Nx σ H'↔∃(us:List V) (bs:List (W×Int×Int)) (x3 x4 x5:Option V),σ=[some (.int hd),some (.ref N),some (.ref B),x3,x4,x5]/\vH K H2 B H' us (bs.map Wt)/\(∀b∈bs,YW b)/\bs.map (·.1)=ns.take (i+1):=⟨_,fun _ _=>Iff.rfl⟩
  simp only[<- Tq];rw[zdJ];show Mh _ _ _ _ _;refine aG fun V1 Zs=>?_;walk_at "rd";refine⟨hd,_,rfl,by lia,by lia,(Zs _ _).mpr (aG fun V2 Zt=>?_)⟩;clear Zs;obtain⟨n0,_⟩:=jZ hd (520+(i:Int));generalize stir hd (520+(i:Int))=num at *;walk_at "rd";intro p1 f1;have m9:=zaY (num/4) (show (9:Int)≠0 by decide);have m9':=zaT (num/4) (show (0:Int)<9 by decide);obtain⟨v1,WG,a1⟩:=kY (L:=[V.int 2,V.int 10,V.int (2+num/4%9),V.int (2+num/4%9)]) (n:=4) rfl (by decide) num;obtain⟨size,rfl,z1,z2⟩:∃i:Int,v1=V.int i/\2<=i/\i<=10:=by
   simp only[zai,za2,or_false] at WG;rcases WG with rfl |rfl |rfl |rfl<;>exact⟨_,rfl,by lia,by lia⟩
  refine bC (.of aj) a1 ?_;clear WG a1;have WL:=acc.same (ay.new f1 (.lst [V.int 2,V.int 10,V.int (2+num/4%9),V.int (2+num/4%9)]));generalize upd Hx p1 (.lst [V.int 2,V.int 10,V.int (2+num/4%9),V.int (2+num/4%9)])=A1 at *;refine(Zt _ _).mpr ?_;clear Zt;walk_at "rd";have ny:=WL.s _ _ yN;have gi:(ns.map sv)[i]?=some (sv ns[i]):=by rw[zaE,zag hi];rfl
  refine⟨.inl ⟨rfl,_,.of WL.y⟩,bC (.of ny) (v:=sv ns[i]) (bf gi) ⟨by lia,fun p2 f2=>?_⟩⟩;have m0:=zaY (num/64) (show size≠0 by lia);have m1:=zaT (num/64) (show 0<size by lia);obtain⟨v2,To,a2⟩:=kY (L:=[V.int 0,V.int (size-1),V.int (num/64%size)]) (n:=3) rfl (by decide) (num/1000);obtain⟨fi,rfl,w1,w2⟩:∃i:Int,v2=V.int i/\0<=i/\i<size:=by
   simp only[zai,za2,or_false] at To;rcases To with rfl |rfl |rfl<;>exact⟨_,rfl,by lia,by lia⟩
  refine bC (.of aj) a2 fun p3 f3=>?_;clear To a2;have Zw:=WL.same (ay.new f2 (.lst [V.int 0,V.int (size-1),V.int (num/64%size)]));generalize upd A1 p2 (.lst [V.int 0,V.int (size-1),V.int (num/64%size)])=A2 at *;have WM:=Zw.same (ay.new f3 (.tup [sv ns[i],V.int size,V.int fi]));have y3:(upd A2 p3 (.tup [sv ns[i],V.int size,V.int fi])) p3=some (.tup [sv ns[i],V.int size,V.int fi]):=aj;have n3:p3≠B:=(aI Zw.y f3).symm;generalize upd A2 p3 (.tup [sv ns[i],V.int size,V.int fi])=A3 at *;have lb:bs.length=i:=by
   have:=congrArg zbs eb;rw[zaj,zaB] at this;lia
  refine⟨B,us,.ref p3,rfl,rfl,WM.y,by rw[WM.l,zaj];lia,(Tq _ _).mpr ⟨us++[.ref p3],bs++[(ns[i],size,fi)],_,_,_,rfl,?_,fun b Ja=>?_,?_⟩⟩
  ·have:=WM.push fB (d:=Wt (ns[i],size,fi)) (Fix.tup y3 n3 (.cons .str (.cons .int (.cons .int .nil))));rw[zas];exact this
  ·rcases zam.mp Ja with h |h
   ·exact hb b h
   ·rw[zad.mp h];exact⟨hN.ok _ (zaK hi),z1,z2,w1,w2⟩
  ·rw[zas,eb,List.take_succ,zag hi];rfl
 ·rintro σ Hx ⟨us,bs,x3,x4,x5,rfl,acc,hb,eb⟩
  refine(vk _ _).mpr ?_;clear vk;walk_at "rd";rw[zbz] at eb;exact q B us bs Hx (s2.trans acc.s) fB0 acc.y (acc.f Hx bK.refl) hb (by rw[eb];exact hN)
theorem WN(T:Tx K mg t):bu P w K mg base jh 9 t.nX t.pe ["cell", "k", "opened", "names"] Uv:=by
 have bc:=m3 (P:=P) (w:=w) (base:=base) T;have FP:=Zm (P:=P) (w:=w) (base:=base) T;have Dm:=Zp (P:=P) (w:=w) (base:=base) T;refine T.kg.F.uX zx (fun vs H Q E h=>?_) (fun d0 A outer s H vs Q E hr h=>?_)
 ·obtain⟨_,_,_,_,_,_,_,_,rfl,_⟩:=h;rfl
 obtain⟨cell,k,O,N,Z,j5,d,m,rfl,hk,hm,op,k5,yN,nNZ,nNO,nNp,hN,q⟩:=h;have nd:=zx.nd;refine⟨_,[some (.int cell),some (.int k),some (.ref O),some (.ref N),none,none,none],(@ag _ _ _ _ _ (@aM _ _ 4 _ _ _ _ nd rfl (zan rfl) (@aF _ _ _ _ _ _ _ _ _ _ _ _ _ _ _ _ bc (hr.mono (by first|decide|omega)) rfl T.ax.m T.ax.F.kp T.ax.b .nil bj (@ae _ _ _ _ _ (pv 0) (@ae _ _ _ _ _ (@ai _ _ _ _) (@af _) (@aC _ _ _ _ _)) (@ah _ _ _ _)) (by first |rfl |exact .inl rfl |exact .inr rfl |decide |(intro _;rfl) |assumption) (by first |rfl |exact .inl rfl |exact .inr rfl |decide |(intro _;rfl) |assumption) (by first |rfl |exact .inl rfl |exact .inr rfl |decide |(intro _;rfl) |assumption)) (by first |rfl |exact .inl rfl |exact .inr rfl |decide |(intro _;rfl) |assumption) (by first |rfl |exact .inl rfl |exact .inr rfl |decide |(intro _;rfl) |assumption)) (@ag _ _ _ _ _ (@bo _ _ _ _ _ _ _ _ (@PW.pt _ _ _ (@pw_and _ _ _ _ _ _ _ (@aH _ _ _ _ _ _ _ _ (@cC _) (@aw _ _ _ _ _ _ _ _ (@bS _) (pv 4) (@ai _ _ _ _)) (@ai _ _ _ _) (aT _)) (@pw_and1 _ _ _ _ (@aH _ _ _ _ _ _ _ _ (@cC _) (@aX _ _ _ _ _ _ _ (@a9 _) (@aX _ _ _ _ _ _ _ (@a9 _) (pv 2) (@wB _ _ _ _ _ _ qJ (@ai _ _ _ _)) (@AM _ _ _)) (@ai _ _ _ _) (@aK _ _ _)) (@au _ _ _ _) (aT _))))) (@ag _ _ _ _ _ (@qG _ _ _ _ _ _ (@aU _ _ _ _ (@ae _ _ _ _ _ (@au _ _ _ _) (@ae _ _ _ _ _ (@aX _ _ _ _ _ _ _ (@a9 _) (@aX _ _ _ _ _ _ _ (@a9 _) (pv 2) (@wB _ _ _ _ _ _ qJ (@ai _ _ _ _)) (@AM _ _ _)) (@ai _ _ _ _) (@aK _ _ _)) (@af _) (@bJ _ _ _ _ _)) (@aC _ _ _ _ _))) (Ar (pv 2) (@wB _ _ _ _ _ _ qJ (@ai _ _ _ _)) set_list) (by first |rfl |exact .inl rfl |exact .inr rfl |decide |(intro _;rfl) |assumption) (by first |rfl |exact .inl rfl |exact .inr rfl |decide |(intro _;rfl) |assumption) (by first |rfl |exact .inl rfl |exact .inr rfl |decide |(intro _;rfl) |assumption)) (@ao _ _ _ (@aS _ _ _ _ (@au _ _ _ _)))) (@aQ _)) (@ag _ _ _ _ _ (@bo _ _ _ _ _ _ _ _ (@PW.pt _ _ _ (@pw_and _ _ _ _ _ _ _ (@aH _ _ _ _ _ _ _ _ (@cC _) (@aw _ _ _ _ _ _ _ _ (@bS _) (pv 4) (@ai _ _ _ _)) (@ai _ _ _ _) (aT _)) (@pw_and1 _ _ _ _ (@aH _ _ _ _ _ _ _ _ (@Ay _) (@bb _ _ _ _ _ _ _ _ _ (@bq _) rfl T.eY PyProof.Rows.Boot.«len» (@ae _ _ _ _ _ (pv 2) (@af _) (@ah _ _ _ _)) (by first |rfl |exact .inl rfl |exact .inr rfl |decide |(intro _;rfl) |assumption) (by first |rfl |exact .inl rfl |exact .inr rfl |decide |(intro _;rfl) |assumption) (by first |rfl |exact .inl rfl |exact .inr rfl |decide |(intro _;rfl) |assumption) (by first |rfl |exact .inl rfl |exact .inr rfl |decide |(intro _;rfl) |assumption)) (@ai _ _ _ _) (aT _))))) (@ag _ _ _ _ _ (@cP _ _ _ _ (@Ju _ _ _ _ _ _ _ _ _ zaF zcl zcm Jw (pv 2) (by first |rfl |exact .inl rfl |exact .inr rfl |decide |(intro _;rfl) |assumption) (by first |rfl |exact .inl rfl |exact .inr rfl |decide |(intro _;rfl) |assumption)) (by first |rfl |exact .inl rfl |exact .inr rfl |decide |(intro _;rfl) |assumption)) (@ao _ _ _ (@aS _ _ _ _ (@au _ _ _ _)))) (@aQ _)) (@ag _ _ _ _ _ (@bo _ _ _ _ _ _ _ _ (@PW.pt _ _ _ (@pw_and _ _ _ _ _ _ _ (@aH _ _ _ _ _ _ _ _ (@Ay _) (@aw _ _ _ _ _ _ _ _ (@bS _) (pv 4) (@ai _ _ _ _)) (@ai _ _ _ _) (aT _)) (@pw_and1 _ _ _ _ (@aH _ _ _ _ _ _ _ _ (@Aw _) (@bb _ _ _ _ _ _ _ _ _ (@bq _) rfl T.eY PyProof.Rows.Boot.«len» (@ae _ _ _ _ _ (pv 2) (@af _) (@ah _ _ _ _)) (by first |rfl |exact .inl rfl |exact .inr rfl |decide |(intro _;rfl) |assumption) (by first |rfl |exact .inl rfl |exact .inr rfl |decide |(intro _;rfl) |assumption) (by first |rfl |exact .inl rfl |exact .inr rfl |decide |(intro _;rfl) |assumption) (by first |rfl |exact .inl rfl |exact .inr rfl |decide |(intro _;rfl) |assumption)) (@ai _ _ _ _) (aT _))))) (@ag _ _ _ _ _ (@qG _ _ _ _ _ _ (@aF _ _ _ _ _ _ _ _ _ _ _ _ _ _ _ _ Dm (hr.mono (by first|decide|omega)) rfl T.fH.m T.fH.F.kp T.fH.b .nil bj (@ae _ _ _ _ _ (pv 0) (@ae _ _ _ _ _ (pv 1) (@ae _ _ _ _ _ (pv 3) (@af _) (@ah _ _ _ _)) (@ah _ _ _ _)) (@ah _ _ _ _)) (by first |rfl |exact .inl rfl |exact .inr rfl |decide |(intro _;rfl) |assumption) (by first |rfl |exact .inl rfl |exact .inr rfl |decide |(intro _;rfl) |assumption) (by first |rfl |exact .inl rfl |exact .inr rfl |decide |(intro _;rfl) |assumption)) (@E2 _ _ _ _ _ _ rfl (@eJ _ _ _ _ _ (@cF _ _ 5 _ nd rfl (zan rfl) (by first |rfl |exact .inl rfl |exact .inr rfl |decide |(intro _;rfl) |assumption)) (@eJ _ _ _ _ _ (@cF _ _ 6 _ nd rfl (zan rfl) (by first |rfl |exact .inl rfl |exact .inr rfl |decide |(intro _;rfl) |assumption)) (@uv _) (by first |rfl |exact .inl rfl |exact .inr rfl |decide |(intro _;rfl) |assumption)) (by first |rfl |exact .inl rfl |exact .inr rfl |decide |(intro _;rfl) |assumption)) (by first |rfl |exact .inl rfl |exact .inr rfl |decide |(intro _;rfl) |assumption) (by first |rfl |exact .inl rfl |exact .inr rfl |decide |(intro _;rfl) |assumption)) (by first |rfl |exact .inl rfl |exact .inr rfl |decide |(intro _;rfl) |assumption) (by first |rfl |exact .inl rfl |exact .inr rfl |decide |(intro _;rfl) |assumption) (by first |rfl |exact .inl rfl |exact .inr rfl |decide |(intro _;rfl) |assumption)) (@ag _ _ _ _ _ (@cP _ _ _ _ (@jk _ _ _ _ _ _ _ _ _ _ _ _ zaF zaL zaM cZ (@aX _ _ _ _ _ _ _ (@a9 _) (@aX _ _ _ _ _ _ _ (@a9 _) (pv 2) (@wB _ _ _ _ _ _ qJ (@ai _ _ _ _)) (@AM _ _ _)) (@ai _ _ _ _) (@aK _ _ _)) (@ae _ _ _ _ _ (pv 6) (@af _) (@ah _ _ _ _)) (by first |rfl |exact .inl rfl |exact .inr rfl |decide |(intro _;rfl) |assumption) (by first |rfl |exact .inl rfl |exact .inr rfl |decide |(intro _;rfl) |assumption) (by first |rfl |exact .inl rfl |exact .inr rfl |decide |(intro _;rfl) |assumption) (by first |rfl |exact .inl rfl |exact .inr rfl |decide |(intro _;rfl) |assumption) (by first |rfl |exact .inl rfl |exact .inr rfl |decide |(intro _;rfl) |assumption)) (by first |rfl |exact .inl rfl |exact .inr rfl |decide |(intro _;rfl) |assumption)) (@ag _ _ _ _ _ (@cP _ _ _ _ (@jk _ _ _ _ _ _ _ _ _ _ _ _ zaF zaL zaM cZ (pv 2) (@ae _ _ _ _ _ (@aw _ _ _ _ _ _ _ _ (@di _) (@aU _ _ _ _ (@ae _ _ _ _ _ (@aX _ _ _ _ _ _ _ (@cG _) (pv 6) (@ai _ _ _ _) (@aK _ _ _)) (@ae _ _ _ _ _ (@aX _ _ _ _ _ _ _ (@cG _) (pv 6) (@ai _ _ _ _) (@aK _ _ _)) (@af _) (@bJ _ _ _ _ _)) (@bJ _ _ _ _ _))) (@gJ _ _ _ _ _ _ _ _ _ ET rfl T.Kj PyProof.Rows.Boot.«list» (@ae _ _ _ _ _ (@d4 _ _ _ _ _ _ _ _ _ _ Jr (pv 6) (@fS _ _ _ (@ai _ _ _ _)) (@fQ _)) (@af _) (@bJ _ _ _ _ _)) (by first |rfl |exact .inl rfl |exact .inr rfl |decide |(intro _;rfl) |assumption) (by first |rfl |exact .inl rfl |exact .inr rfl |decide |(intro _;rfl) |assumption) (by first |rfl |exact .inl rfl |exact .inr rfl |decide |(intro _;rfl) |assumption) (by first |rfl |exact .inl rfl |exact .inr rfl |decide |(intro _;rfl) |assumption))) (@af _) (@cm _ _ _ _ _ _)) (by first |rfl |exact .inl rfl |exact .inr rfl |decide |(intro _;rfl) |assumption) (by first |rfl |exact .inl rfl |exact .inr rfl |decide |(intro _;rfl) |assumption) (by first |rfl |exact .inl rfl |exact .inr rfl |decide |(intro _;rfl) |assumption) (by first |rfl |exact .inl rfl |exact .inr rfl |decide |(intro _;rfl) |assumption) (by first |rfl |exact .inl rfl |exact .inr rfl |decide |(intro _;rfl) |assumption)) (by first |rfl |exact .inl rfl |exact .inr rfl |decide |(intro _;rfl) |assumption)) (@ao _ _ _ (@aS _ _ _ _ (pv 5)))))) (@aQ _)) (@ag _ _ _ _ _ (@qG _ _ _ _ _ _ (@aF _ _ _ _ _ _ _ _ _ _ _ _ _ _ _ _ FP (hr.mono (by first|decide|omega)) rfl T.gV.m T.gV.F.kp T.gV.b .nil bj (@ae _ _ _ _ _ (pv 0) (@ae _ _ _ _ _ (pv 1) (@ae _ _ _ _ _ (pv 3) (@af _) (@ah _ _ _ _)) (@ah _ _ _ _)) (@ah _ _ _ _)) (by first |rfl |exact .inl rfl |exact .inr rfl |decide |(intro _;rfl) |assumption) (by first |rfl |exact .inl rfl |exact .inr rfl |decide |(intro _;rfl) |assumption) (by first |rfl |exact .inl rfl |exact .inr rfl |decide |(intro _;rfl) |assumption)) (@E2 _ _ _ _ _ _ rfl (@eJ _ _ _ _ _ (@cF _ _ 5 _ nd rfl (zan rfl) (by first |rfl |exact .inl rfl |exact .inr rfl |decide |(intro _;rfl) |assumption)) (@eJ _ _ _ _ _ (@cF _ _ 6 _ nd rfl (zan rfl) (by first |rfl |exact .inl rfl |exact .inr rfl |decide |(intro _;rfl) |assumption)) (@uv _) (by first |rfl |exact .inl rfl |exact .inr rfl |decide |(intro _;rfl) |assumption)) (by first |rfl |exact .inl rfl |exact .inr rfl |decide |(intro _;rfl) |assumption)) (by first |rfl |exact .inl rfl |exact .inr rfl |decide |(intro _;rfl) |assumption) (by first |rfl |exact .inl rfl |exact .inr rfl |decide |(intro _;rfl) |assumption)) (by first |rfl |exact .inl rfl |exact .inr rfl |decide |(intro _;rfl) |assumption) (by first |rfl |exact .inl rfl |exact .inr rfl |decide |(intro _;rfl) |assumption) (by first |rfl |exact .inl rfl |exact .inr rfl |decide |(intro _;rfl) |assumption)) (@ag _ _ _ _ _ (@cP _ _ _ _ (@jk _ _ _ _ _ _ _ _ _ _ _ _ zaF zaL zaM cZ (@aX _ _ _ _ _ _ _ (@a9 _) (@aX _ _ _ _ _ _ _ (@a9 _) (pv 2) (@wB _ _ _ _ _ _ qJ (@ai _ _ _ _)) (@AM _ _ _)) (@ai _ _ _ _) (@aK _ _ _)) (@ae _ _ _ _ _ (pv 6) (@af _) (@ah _ _ _ _)) (by first |rfl |exact .inl rfl |exact .inr rfl |decide |(intro _;rfl) |assumption) (by first |rfl |exact .inl rfl |exact .inr rfl |decide |(intro _;rfl) |assumption) (by first |rfl |exact .inl rfl |exact .inr rfl |decide |(intro _;rfl) |assumption) (by first |rfl |exact .inl rfl |exact .inr rfl |decide |(intro _;rfl) |assumption) (by first |rfl |exact .inl rfl |exact .inr rfl |decide |(intro _;rfl) |assumption)) (by first |rfl |exact .inl rfl |exact .inr rfl |decide |(intro _;rfl) |assumption)) (@ao _ _ _ (@aS _ _ _ _ (pv 5))))))))),rfl,?_⟩;have line:zdX=2 ^ 24:=rfl;obtain⟨Bx,e,ke,Dn,ene,hke⟩:=op.last;have lp:=op.len;have yO':=op.yO;rw[Dn,zas,za6] at yO';have eO:(fun p:zdP×Option Bool=>V.ref p.1) (e,ke)=V.ref e:=rfl;obtain⟨kd,b,rest,ye,hb,ne,hkd,Zx⟩:=ene;have aL:D4 (j5.map fun p=>V.ref p.1) (-1)=some (V.ref e):=by
  rw[Dn,zas,za6];exact AI _ _
 obtain⟨bx,Xs,lbx⟩:=op.zz b hb;have lpz:(j5.map fun p=>V.ref p.1).length=d.df.length+1:=by rw[zaj,lp]
 refine aG fun U1 rZ=>?_;walk_at "rd";refine⟨cell,0,rfl,by decide,by decide,(rZ _ _).mpr (aG fun U2 rP=>?_)⟩;clear rZ;obtain⟨n0,_⟩:=jZ cell 0;generalize stir cell 0=num at *;refine sV fun A1 A2 WO WQ=>?_;have Sy:kd=PM.jV->A1 [some (.int cell),some (.int k),some (.ref O),some (.ref N),some (.int num),none,none] H:=by
  intro hif;refine(WO _ _).mpr ?_;clear WO WQ rP;obtain⟨o,rfl,ho⟩:=Zx hif;walk_at "rd";refine⟨1,rfl,bC (.of op.yO) (v:=V.ref e) aL (bC (.of ye) (v:=V.ref o) (bf (j:=2) rfl) fun p fp=>?_)⟩;have nOp:O≠p:=fun z=>by rw[<- z,op.yO] at fp;cases fp
  have gl:d.df.getLast?=some true:=hke.mp (hkd.mpr hif);have CL:d.df≠[]:=fun z=>by rw[z] at gl;cases gl
  have kl:=zbJ.mpr CL;refine⟨1,rfl,O,j5.map (fun p=>V.ref p.1), -1,Bx.length,rfl,rfl,by rw[aq nOp];exact op.yO,?_,?_⟩
  ·unfold Mw;have e1:j5.length=Bx.length+1:=by rw[Dn,zae];rfl
   rw[zaj,if_neg (by decide),if_pos (by lia),e1]
   congr 1
   lia
  ·have es:(j5.map fun p=>V.ref p.1).set Bx.length (V.ref p)=(Bx++[(p,some false)]).map fun p=>V.ref p.1:=by
    rw[Dn,zas,zas,za6,za6,zdp _ _ (by rw[zaj];exact zah _),zaj,zcq];rfl
   rw[es,Hn];rw[Dn] at op;have UH:=(op.Sy (e':=p) CL ho fp).more;refine q PM.cY (.one PM.cY) {d with df:=d.df.dropLast++[false]} Z (Bx++[(p,some false)]) _ QQ ?_ rfl (by show (d.df.dropLast++[false]).length<=5;rw[zae,za1];show d.df.length-1+1<=5;lia) UH (fun y u hO hZ hy=>by rw[aq hO];exact ay.new fp _ _ _ hy) (fun z hz=>.inl hz) (fun _ z=>z) (fun x hx=>?_)
   ·show PM.sY d=_;unfold PM.sY;rw[if_pos gl]
   ·rcases zam.mp hx with z |z
    ·exact .inl (by rw[Dn];exact zaW _ z)
    ·rw[zad.mp z];exact .inr fp
 have go2:A2 [some (.int cell),some (.int k),some (.ref O),some (.ref N),some (.int num),none,none] H:=by
  refine(WQ _ _).mpr ((rP _ _).mpr (aG fun U3 vk=>?_));clear WO WQ rP;refine sV fun B1 B2 hB1 hB2=>?_;have acm:d.df≠[]->B1 [some (.int cell),some (.int k),some (.ref O),some (.ref N),some (.int num),none,none] H:=by
   intro CL;refine(hB1 _ _).mpr ?_;clear hB1 hB2 vk;walk_at "rd";refine⟨.inl ⟨rfl,_,.of op.yO⟩,O,_,V.ref e,rfl,rfl,op.yO,by rw[Dn,zas,za6,zae,zaw,Nat.add_sub_cancel,List.getElem?_concat_length],?_⟩;have ed:(j5.map fun p=>V.ref p.1).dropLast=Bx.map fun p=>V.ref p.1:=by rw[Dn,zas,za6,zcu]
   rw[ed,QF];have W8:=op;rw[Dn] at W8;have UH:=(W8.pop CL).more;refine q PM.eH (.one PM.eH) {d with df:=d.df.dropLast} Z Bx _ S4 ?_ rfl (by show d.df.dropLast.length<=5;rw[za1];lia) UH (fun y u hO hZ hy=>by rw[aq hO];exact hy) (fun z hz=>.inl hz) (fun _ z=>z) (fun x hx=>.inl (by rw[Dn];exact zaW _ hx));show (if PM.eH=PM.cY then PM.sY d else if PM.eH=PM.eH then PM.C5 d else PM.rY d (.one PM.eH))=_;rw[if_neg (by decide),if_pos rfl];unfold PM.C5;rw[if_neg CL]
  have ZW:B2 [some (.int cell),some (.int k),some (.ref O),some (.ref N),some (.int num),none,none] H:=by
   refine(hB2 _ _).mpr ((vk _ _).mpr (aG fun U4 zB=>?_));clear hB1 hB2 vk;refine sV fun C1 C2 hC1 hC2=>?_;have CM:d.df.length<5->C1 [some (.int cell),some (.int k),some (.ref O),some (.ref N),some (.int num),none,none] H:=by
    intro l5;refine(hC1 _ _).mpr ?_;clear hC1 hC2 zB;refine aG fun D1 Zy=>?_;walk_at "rd";refine .mk cell k N d.w6 rfl hk (.of yN) hN fun l w f u Tt v1 v2 v3 v4 b2 bs H1 s1 yl yu fb2 yb2 hbs rg sf ho=>?_;refine⟨l,_,rfl,.of yl,rfl,_,_,rfl,_,_,rfl,rfl,(Zy _ _).mpr (aG fun D2 WR=>?_)⟩;clear Zy;walk_at "rd";have Zz:=op.same s1;have Rm:=s1 _ _ Xs;refine⟨1,rfl,bC (.of Zz.yO) (v:=V.ref e) aL (bC (.of (s1 _ _ ye)) (v:=V.ref b) (bf (j:=1) rfl) ⟨.inl ⟨rfl,_,.of Rm⟩,b,bx,_,rfl,rfl,Rm,by lia,(WR _ _).mpr ?_⟩)⟩;clear WR;have UH:=Zz.put hb Rm (.ref u);have nub:u≠b:=fun z=>by rw[z,Rm] at yu;cases yu
    have nbb:b2≠b:=fun z=>by rw[z,Xs] at fb2;cases fb2
    have yu2:(upd H1 b (.lst (bx++[.ref u]))) u=some (.tup (sv Tt::v1::v2::v3::v4 :: .ref b2::bs)):=by rw[aq nub];exact yu
    have ZA:(upd H1 b (.lst (bx++[.ref u]))) b2=some (.lst []):=by rw[aq nbb];exact yb2
    have kp2:∀y u',y ∉ Z->H y=some u'->(upd H1 b (.lst (bx++[.ref u]))) y=some u':=fun y u' hy e1=>by rw[aq (fun z=>hy (by rw[z];exact hb))];exact s1 _ _ e1
    have c22:∀c,H c=none->H1 c=some (.lst [])->(upd H1 b (.lst (bx++[.ref u]))) c=some (.lst []):=fun c f1 f2=>by rw[aq (fun z=>by rw[z,Xs] at f1;cases f1)];exact f2
    generalize upd H1 b (.lst (bx++[.ref u]))=H2 at *;walk_at "rd";have adS:bs.length<=1:=by
     rcases hbs with ⟨_,z⟩ |⟨_,c,z,_⟩
     ·rw[z];exact zaU _
     ·rw[z];exact zah _
    refine⟨.inl ⟨rfl,_,.of UH.yO⟩,bI (.of yu2) (v:=sv Tt) (bf (j:=0) rfl) (bI (.of yu2) (v:=V.ref b2) (bf (j:=5) rfl) fun p fp=>?_)⟩;generalize g1:upd H2 p _=A1;have t1:=gL g1 fp;have z1:=Gi g1;clear g1;refine⟨6,rfl,u,_,rfl,.of (t1 _ _ yu2),?_,fun p2 f2=>?_⟩
    ·rintro ⟨z,_⟩
     have:HT.f9 (sv Tt::v1::v2::v3::v4 :: .ref b2::bs).length 0 (some ((6:Nat):Int))=0:=z;rw[HT.qK] at this;simp only[zaf] at this;lia
    rw[show (some (6:Int))=some ((6:Nat):Int) from rfl,wY];show ∃p_1 ys,_;rw[show (sv Tt::v1::v2::v3::v4 :: .ref b2::bs).drop 6=bs from rfl];generalize g1:upd A1 p2 _=A2;have t2:=gT g1 f2;have z2:=gTa g1;clear g1;refine⟨p2,bs,rfl,.inr (.of z2),fun p3 f3=>?_⟩;generalize g1:upd A2 p3 _=A3;have t3:=gL g1 f3;have z3:=Gi g1;clear g1;refine⟨p,p3,_,_,rfl,rfl,t3 _ _ (t2 _ _ z1),z3,by show 2+bs.length<=_;lia,fun e' fe=>?_⟩;generalize g1:upd A3 e' _=A4;have t4:=gL g1 fe;have z4:=Gi g1;clear g1;have tt:=(t1.trans t2).trans (t3.trans t4);have op4:=UH.same tt;have ZC:H2 e'=none:=cn ((t1.trans t2).trans t3) fe;refine⟨O,_,_,rfl,rfl,op4.yO,by rw[lpz];lia,?_⟩;obtain⟨Zn,hZn,hb2,hoo⟩:∃Zn:List zdP,(∀z∈Zn,H z=none/\H2 z=some (.lst []))/\b2∈Zn/\(Tt=PM.jV->∃o,bs=[V.ref o]/\o∈Zn):=by
     rcases hbs with ⟨e1,e2⟩ |⟨e1,c,e2,f1,f2⟩
     ·exact⟨[b2],fun z hz=>by rw[zad.mp hz];exact⟨fb2,ZA⟩,by simp,fun z=>absurd (e1.symm.trans z) (by decide)⟩
     ·refine⟨[b2,c],fun z hz=>?_,by simp,fun _=>⟨c,e2,by simp⟩⟩;rcases zai.mp hz with rfl |hz
      ·exact⟨fb2,ZA⟩
      ·rw[zad.mp hz];exact⟨f1,c22 c f1 f2⟩
    have nZ:e' ∉ Z:=fun z=>by obtain⟨xs,y,_⟩:=UH.zz e' z;rw[ZC] at y;cases y
    have nZn:e' ∉ Zn:=fun z=>by have:=(hZn e' z).2;rw[ZC] at this;cases this
    have Y2:e'≠O:=fun z=>by rw[z,UH.yO] at ZC;cases ZC
    have op5:=op4.push (e:=e') (b:=b2) (kd:=Tt) (rest:=bs) (k:=decide (Tt=PM.jV)) (Z':=Zn++Z) (fun z hz=>zaJ _ hz) (fun z hz=>?_) z4 (zaW _ hb2) (fun z=>(zam.mp z).elim nZn nZ) Y2 (by simp) (fun z=>by obtain⟨o,e1,e2⟩:=hoo z;exact⟨o,e1,zaW _ e2⟩)
    ·have em:(j5.map fun p=>V.ref p.1)++[V.ref e']=(j5++[(e',some (decide (Tt=PM.jV)))]).map fun p=>V.ref p.1:=by rw[zas];rfl
     show Q (sv w) (upd A4 O (.lst ((j5.map fun p=>V.ref p.1)++[V.ref e'])));rw[em];refine q w f {d with Of:=true,df:=d.df++[decide (Tt=PM.jV)]} (Zn++Z) _ _ rg ?_ rfl ?_ op5 (fun y u' hO hZ hy=>by rw[aq hO];exact tt _ _ (kp2 _ _ hZ hy)) (fun z hz=>(zam.mp hz).elim (fun q=>.inr (hZn z q).1) .inl) (fun z hz=>zaJ _ hz) (fun x hx=>?_)
     ·rw[sf.take rfl (.inr l5),ho];rfl
     ·show (d.df++[_]).length<=5;rw[zae,zaw];lia
     ·rcases zam.mp hx with z |z
      ·exact .inl z
      ·rw[zad.mp z];refine .inr ?_;show H e'=none;cases he:H e' with
       |none=>rfl
       |some u'=>exact absurd (kp2 _ _ nZ he) (by rw[ZC];intro z;cases z)
    ·rcases zam.mp hz with z1 |z1
     ·obtain⟨f1,f2⟩:=hZn z z1;refine .inr ⟨tt _ _ f2,fun q=>?_,fun p hp q=>?_⟩
      ·rw[q,op.yO] at f1;cases f1
      ·obtain⟨_,xs,y⟩:=(op.en p hp).no;rw[q,f1] at y;cases y
     ·exact .inl z1
   have pla:C2 [some (.int cell),some (.int k),some (.ref O),some (.ref N),some (.int num),none,none] H:=by
    refine(hC2 _ _).mpr ((zB _ _).mpr (aG fun D1 Zy=>?_));clear hC1 hC2 zB;walk_at "rd";refine .mk cell k N d.w6 rfl hk (.of yN) hN fun l w f v H1 s1 yl rg sf ho=>?_;refine⟨l,_,rfl,.of yl,rfl,_,_,rfl,_,_,rfl,rfl,(Zy _ _).mpr (aG fun D2 WR=>?_)⟩;clear Zy;walk_at "rd";have Zz:=op.same s1;have Rm:=s1 _ _ Xs;refine⟨1,rfl,bC (.of Zz.yO) (v:=V.ref e) aL (bC (.of (s1 _ _ ye)) (v:=V.ref b) (bf (j:=1) rfl) ⟨.inl ⟨rfl,_,.of Rm⟩,b,bx,_,rfl,rfl,Rm,by lia,(WR _ _).mpr ?_⟩)⟩;clear WR;walk_at "rd";refine q w f {d with Of:=true,df:=d.df} Z j5 _ rg ?_ rfl k5 (Zz.put hb Rm v) (fun y u' hO hZ hy=>by rw[aq (fun z=>hZ (by rw[z];exact hb))];exact s1 _ _ hy) (fun z hz=>.inl hz) (fun _ z=>z) (fun x hx=>.inl hx);rw[sf.take rfl (.inl ho),ho];show _=Except.ok _
    congr 2
    exact zaN _
   walk_at "rd";refine cu (fun _=>?_) (fun _=>?_)
   ·refine⟨O,_,rfl,.inl (.of op.yO),?_⟩;rw[lpz];exact cu (fun l6=>CM (by lia)) (fun _=>pla)
   ·rw[if_neg zal];exact pla
  walk_at "rd";refine cu (fun _=>?_) (fun _=>?_)
  ·refine⟨O,_,rfl,.inl (.of op.yO),?_⟩;rw[lpz];exact cu (fun l6=>acm (fun z=>by rw[z] at l6;exact absurd l6 (by decide))) (fun _=>ZW)
  ·rw[if_neg zal];exact ZW
 walk_at "rd";refine cu (fun _=>?_) (fun _=>?_)
 ·refine⟨1,rfl,bC (.of op.yO) (v:=V.ref e) aL (bC (.of ye) (v:=sv kd) (bf (j:=0) rfl) ⟨rfl,?_⟩)⟩;exact cu (fun z=>Sy ((dH SV).mp z)) (fun _=>go2)
 ·rw[if_neg zal];exact go2
theorem WS(T:Tx K mg t):bu P w K mg base jh 10 t.jB t.kU ["script", "head"] (Uw K):=by
 have FQ:=Zu (P:=P) (w:=w) (base:=base) T;have Kv:=WN (P:=P) (w:=w) (base:=base) T;refine T.gW.F.uX vf (fun vs H Q E h=>?_) (fun d0 A outer s H vs Q E hr h=>?_)
 ·obtain⟨_,_,_,rfl,_⟩:=h;rfl
 obtain⟨a,cs,hd,rfl,hS,lc,q⟩:=h;have nd:=vf.nd;refine⟨_,[some (.ref a),some (.int hd),none,none,none,none,none,none],(@ag _ _ _ _ _ (@aM _ _ 2 _ _ _ _ nd rfl (zan rfl) (@aF _ _ _ _ _ _ _ _ _ _ _ _ _ _ _ _ FQ (hr.mono (by first|decide|omega)) rfl T.gU.m T.gU.F.kp T.gU.b .nil bj (@ae _ _ _ _ _ (pv 1) (@af _) (@ah _ _ _ _)) (by first |rfl |exact .inl rfl |exact .inr rfl |decide |(intro _;rfl) |assumption) (by first |rfl |exact .inl rfl |exact .inr rfl |decide |(intro _;rfl) |assumption) (by first |rfl |exact .inl rfl |exact .inr rfl |decide |(intro _;rfl) |assumption)) (by first |rfl |exact .inl rfl |exact .inr rfl |decide |(intro _;rfl) |assumption) (by first |rfl |exact .inl rfl |exact .inr rfl |decide |(intro _;rfl) |assumption)) (@ag _ _ _ _ _ (@Lb _ _ _ _ _ _ _ (["name", "size", "first"]) [] _ _ _ _ 3 _ _ _ nd rfl (zan rfl) rfl (by rfl) (by rfl) (@qH _ _ _ _ (pv 2)) (fun _ _ _ _=>(S8 (K:=K) rfl 3 rfl (@eJ _ _ _ _ _ (@cF _ _ 0 _ (by show List.Nodup (["name", "size", "first"]:List Str);decide +kernel) rfl (zan rfl) (by first |rfl |exact .inl rfl |exact .inr rfl |decide |(intro _;rfl) |assumption)) (@eJ _ _ _ _ _ (@cF _ _ 1 _ (by show List.Nodup (["name", "size", "first"]:List Str);decide +kernel) rfl (zan rfl) (by first |rfl |exact .inl rfl |exact .inr rfl |decide |(intro _;rfl) |assumption)) (@eJ _ _ _ _ _ (@cF _ _ 2 _ (by show List.Nodup (["name", "size", "first"]:List Str);decide +kernel) rfl (zan rfl) (by first |rfl |exact .inl rfl |exact .inr rfl |decide |(intro _;rfl) |assumption)) (@uv _) (by first |rfl |exact .inl rfl |exact .inr rfl |decide |(intro _;rfl) |assumption)) (by first |rfl |exact .inl rfl |exact .inr rfl |decide |(intro _;rfl) |assumption)) (by first |rfl |exact .inl rfl |exact .inr rfl |decide |(intro _;rfl) |assumption)))) (fun _ _ _ _=>(@qN _)) (fun _ _ _ _=>(Fc (K:=K) rfl zbe zbM zbN (w9 (K:=K) rfl) (@au _ _ _ _) (@ae _ _ _ _ _ (@aU _ _ _ _ (@ae _ _ _ _ _ (@au _ _ _ _) (@ae _ _ _ _ _ (pv 0) (@ae _ _ _ _ _ (@gJ _ _ _ _ _ _ _ _ _ qP rfl T.HP PyProof.Rows.Boot.«str» (@ae _ _ _ _ _ (pv 1) (@af _) (@ah _ _ _ _)) (by first |rfl |exact .inl rfl |exact .inr rfl |decide |(intro _;rfl) |assumption) (by first |rfl |exact .inl rfl |exact .inr rfl |decide |(intro _;rfl) |assumption) (by first |rfl |exact .inl rfl |exact .inr rfl |decide |(intro _;rfl) |assumption) (by first |rfl |exact .inl rfl |exact .inr rfl |decide |(intro _;rfl) |assumption)) (@ae _ _ _ _ _ (@gJ _ _ _ _ _ _ _ _ _ qP rfl T.HP PyProof.Rows.Boot.«str» (@ae _ _ _ _ _ (pv 2) (@af _) (@ah _ _ _ _)) (by first |rfl |exact .inl rfl |exact .inr rfl |decide |(intro _;rfl) |assumption) (by first |rfl |exact .inl rfl |exact .inr rfl |decide |(intro _;rfl) |assumption) (by first |rfl |exact .inl rfl |exact .inr rfl |decide |(intro _;rfl) |assumption) (by first |rfl |exact .inl rfl |exact .inr rfl |decide |(intro _;rfl) |assumption)) (@af _) (@bH _ _ _ _ _ _)) (@bH _ _ _ _ _ _)) (@ah _ _ _ _)) (@aC _ _ _ _ _))) (@af _) (@sF _ _ _ _)))) (by first |rfl |exact .inl rfl |exact .inr rfl |decide |(intro _;rfl) |assumption) (by first |rfl |exact .inl rfl |exact .inr rfl |decide |(intro _;rfl) |assumption) (by first |rfl |exact .inl rfl |exact .inr rfl |decide |(intro _;rfl) |assumption)) (@ag _ _ _ _ _ (@aM _ _ 4 _ _ _ _ nd rfl (zan rfl) (@aU _ _ _ _ (@af _)) (by first |rfl |exact .inl rfl |exact .inr rfl |decide |(intro _;rfl) |assumption) (by first |rfl |exact .inl rfl |exact .inr rfl |decide |(intro _;rfl) |assumption)) (@ag _ _ _ _ _ (@aM _ _ 5 _ _ _ _ nd rfl (zan rfl) (@aU _ _ _ _ (@ae _ _ _ _ _ (@aU _ _ _ _ (@ae _ _ _ _ _ (@au _ _ _ _) (@ae _ _ _ _ _ (pv 4) (@af _) (@ah _ _ _ _)) (@aC _ _ _ _ _))) (@af _) (@sF _ _ _ _))) (by first |rfl |exact .inl rfl |exact .inr rfl |decide |(intro _;rfl) |assumption) (by first |rfl |exact .inl rfl |exact .inr rfl |decide |(intro _;rfl) |assumption)) (@ag _ _ _ _ _ (@Lb _ _ _ _ _ _ _ ["box"] [] _ _ _ _ 6 _ _ _ nd rfl (zan rfl) rfl (by rfl) (by rfl) (@qH _ _ _ _ (pv 2)) (fun _ _ _ _=>(@cF _ _ 0 _ (by show List.Nodup (["box"]:List Str);decide +kernel) rfl (zan rfl) (by first |rfl |exact .inl rfl |exact .inr rfl |decide |(intro _;rfl) |assumption))) (fun _ _ _ _=>(@qN _)) (fun _ _ _ _=>(@aX _ _ _ _ _ _ _ (@Lx _ K rfl) (pv 0) (@ai _ _ _ _) (@aK _ _ _))) (by first |rfl |exact .inl rfl |exact .inr rfl |decide |(intro _;rfl) |assumption) (by first |rfl |exact .inl rfl |exact .inr rfl |decide |(intro _;rfl) |assumption) (by first |rfl |exact .inl rfl |exact .inr rfl |decide |(intro _;rfl) |assumption)) (@ag _ _ _ _ _ (@si _ _ _ _ _ _ _ _ PassesOwn.never rfl (@qH _ _ _ _ (@d4 _ _ _ _ _ _ _ _ _ _ (@ux _) (pv 0) (@fQ _) (@fS _ _ _ (@ai _ _ _ _)))) (@cF _ _ 7 _ nd rfl (zan rfl) (by first |rfl |exact .inl rfl |exact .inr rfl |decide |(intro _;rfl) |assumption)) (@ao _ _ _ (@cP _ _ _ _ (@jk _ _ _ _ _ _ _ _ _ _ _ _ zaF zaL zaM cZ (pv 3) (@ae _ _ _ _ _ (@aF _ _ _ _ _ _ _ _ _ _ _ _ _ _ _ _ Kv (hr.mono (by first|decide|omega)) rfl T.kg.m T.kg.F.kp T.kg.b .nil bj (@ae _ _ _ _ _ (pv 7) (@ae _ _ _ _ _ (@aw _ _ _ _ _ _ _ _ (@dR _) (@bb _ _ _ _ _ _ _ _ _ (@bq _) rfl T.eY PyProof.Rows.Boot.«len» (@ae _ _ _ _ _ (pv 3) (@af _) (@ah _ _ _ _)) (by first |rfl |exact .inl rfl |exact .inr rfl |decide |(intro _;rfl) |assumption) (by first |rfl |exact .inl rfl |exact .inr rfl |decide |(intro _;rfl) |assumption) (by first |rfl |exact .inl rfl |exact .inr rfl |decide |(intro _;rfl) |assumption) (by first |rfl |exact .inl rfl |exact .inr rfl |decide |(intro _;rfl) |assumption)) (@ai _ _ _ _)) (@ae _ _ _ _ _ (pv 5) (@ae _ _ _ _ _ (pv 6) (@af _) (@ah _ _ _ _)) (@ah _ _ _ _)) (@cm _ _ _ _ _ _)) (@ah _ _ _ _)) (by first |rfl |exact .inl rfl |exact .inr rfl |decide |(intro _;rfl) |assumption) (by first |rfl |exact .inl rfl |exact .inr rfl |decide |(intro _;rfl) |assumption) (by first |rfl |exact .inl rfl |exact .inr rfl |decide |(intro _;rfl) |assumption)) (@af _) (@bH _ _ _ _ _ _)) (by first |rfl |exact .inl rfl |exact .inr rfl |decide |(intro _;rfl) |assumption) (by first |rfl |exact .inl rfl |exact .inr rfl |decide |(intro _;rfl) |assumption) (by first |rfl |exact .inl rfl |exact .inr rfl |decide |(intro _;rfl) |assumption) (by first |rfl |exact .inl rfl |exact .inr rfl |decide |(intro _;rfl) |assumption) (by first |rfl |exact .inl rfl |exact .inr rfl |decide |(intro _;rfl) |assumption)) (by first |rfl |exact .inl rfl |exact .inr rfl |decide |(intro _;rfl) |assumption))) (by first |rfl |exact .inl rfl |exact .inr rfl |decide |(intro _;rfl) |assumption)) (@ag _ _ _ _ _ (@bo _ _ _ _ _ _ _ _ (@aH _ _ _ _ _ _ _ _ (@MM _ (OS hr)) (pv 3) (@aU _ _ _ _ (@af _)) (aT _)) (@ag _ _ _ _ _ (@cP _ _ _ _ (@jk _ _ _ _ _ _ _ _ _ _ _ _ zaF zaL zaM cZ (pv 3) (@ae _ _ _ _ _ (@au _ _ _ _) (@af _) (@aC _ _ _ _ _)) (by first |rfl |exact .inl rfl |exact .inr rfl |decide |(intro _;rfl) |assumption) (by first |rfl |exact .inl rfl |exact .inr rfl |decide |(intro _;rfl) |assumption) (by first |rfl |exact .inl rfl |exact .inr rfl |decide |(intro _;rfl) |assumption) (by first |rfl |exact .inl rfl |exact .inr rfl |decide |(intro _;rfl) |assumption) (by first |rfl |exact .inl rfl |exact .inr rfl |decide |(intro _;rfl) |assumption)) (by first |rfl |exact .inl rfl |exact .inr rfl |decide |(intro _;rfl) |assumption)) (@ao _ _ _ (@cP _ _ _ _ (@jk _ _ _ _ _ _ _ _ _ _ _ _ zaF zaL zaM cZ (pv 4) (@ae _ _ _ _ _ (@cp _ _ _ _ _ (@bD _ _ ([.str "stop",.int 1]) (by kernel_rfl))) (@af _) (@fK _ _ _ _ _)) (by first |rfl |exact .inl rfl |exact .inr rfl |decide |(intro _;rfl) |assumption) (by first |rfl |exact .inl rfl |exact .inr rfl |decide |(intro _;rfl) |assumption) (by first |rfl |exact .inl rfl |exact .inr rfl |decide |(intro _;rfl) |assumption) (by first |rfl |exact .inl rfl |exact .inr rfl |decide |(intro _;rfl) |assumption) (by first |rfl |exact .inl rfl |exact .inr rfl |decide |(intro _;rfl) |assumption)) (by first |rfl |exact .inl rfl |exact .inr rfl |decide |(intro _;rfl) |assumption)))) (@aQ _)) (@ag _ _ _ _ _ (@aM _ _ 3 _ _ _ _ nd rfl (zan rfl) (@aw _ _ _ _ _ _ _ _ (@di _) (pv 3) (@aw _ _ _ _ _ _ _ _ (@Vv _) (@aU _ _ _ _ (@ae _ _ _ _ _ (@au _ _ _ _) (@af _) (@aC _ _ _ _ _))) (@aw _ _ _ _ _ _ _ _ (@vw _) (@bb _ _ _ _ _ _ _ _ _ (@bq _) rfl T.eY PyProof.Rows.Boot.«len» (@ae _ _ _ _ _ (pv 5) (@af _) (@ah _ _ _ _)) (by first |rfl |exact .inl rfl |exact .inr rfl |decide |(intro _;rfl) |assumption) (by first |rfl |exact .inl rfl |exact .inr rfl |decide |(intro _;rfl) |assumption) (by first |rfl |exact .inl rfl |exact .inr rfl |decide |(intro _;rfl) |assumption) (by first |rfl |exact .inl rfl |exact .inr rfl |decide |(intro _;rfl) |assumption)) (@ai _ _ _ _)))) (by first |rfl |exact .inl rfl |exact .inr rfl |decide |(intro _;rfl) |assumption) (by first |rfl |exact .inl rfl |exact .inr rfl |decide |(intro _;rfl) |assumption)) (@ao _ _ _ (@aS _ _ _ _ (@aU _ _ _ _ (@ae _ _ _ _ _ (pv 3) (@ae _ _ _ _ _ (@cp _ _ _ _ _ (@ae _ _ _ _ _ (pv 2) (@ae _ _ _ _ _ (pv 4) (@af _) (@ah _ _ _ _)) (@ah _ _ _ _))) (@af _) (@fK _ _ _ _ _)) (@ah _ _ _ _))))))))))))),rfl,?_⟩;have line:zdX=2 ^ 24:=rfl;refine aG fun U1 rZ=>?_;walk_at "rd";refine .mk hd rfl fun Bl us bs H1 s1 _ yB rb hb hN=>(rZ _ _).mpr (aG fun U2 rP=>?_);clear rZ;have lb4:bs.length<=4:=by have:=hN.Gf;rwa [zaj] at this
 have Wc:us.length=bs.length:=by rw[Nk rb,zaj]
 walk_at "rd";simp only[yX];walk_at "rd";refine⟨⟨_,.of yB⟩,fun R fR=>?_⟩;refine MV (K:=K) (fun τ=>∃x y z,τ=[x,y,z]) (fun i ys H2=>ys=((bs.take i).map QR).map sv) (.of yB) (by lia) fR ⟨none,none,none,rfl⟩ rfl ?_ ?_
 ·rintro i x ys τ H2 hx ⟨z1,z2,z3,rfl⟩ s2 yR ly rfl RR hRR
  obtain⟨b,ba,YM,rfl,sb⟩:=QW rb hx;walk_at "rd";have hB:=hb b (zbj YM);have h1:=hB.lo;have h2:=hB.hi;have h3:=hB.f0;have h4:=hB.f1;refine⟨ba,_,rfl,s2.gK sb,rfl,_,_,rfl,_,_,rfl,_,_,rfl,rfl,rfl,.inl ⟨_,rfl,Ux (by lia) (by lia),.inl ⟨_,rfl,Ux h3 (by lia),fun p fp=>?_⟩⟩⟩;have ew:([V.str (zac "box"),sv b.1,V.str (zac (toString b.2.1)),V.str (zac (toString b.2.2))]:List V)=[PM.nC,b.1,PM.dig b.2.1.toNat,PM.dig b.2.2.toNat].map sv:=by
   rw[E3 _ (by lia),E3 _ h3,xZ];rfl
  rw[ew];have lg:=(Ff hB).2.1;refine⟨p,_,32,by rw[show zac " "=S [32] by decide +kernel];rfl,rfl,.of aj,?_,hRR _ _ _ ⟨_,_,_,rfl⟩ (ay.new fp _) ?_⟩
  ·obtain⟨a1,_⟩:=PM.sL b.2.1.toNat (by lia);obtain⟨b1,_⟩:=PM.sL b.2.2.toNat (by lia);have:=PM.nF hB.nm;have:=PM.qW a1;have:=PM.qW b1;simp[PM.nC];lia
  ·have:bs.take (i+1)=bs.take i++[b]:=by rw[List.take_succ,YM];rfl
   rw[this,zas,zas];rfl
 intro ys H2 s2 yR ly eys;rw[Wc,zbz] at eys;rw[eys] at yR;clear eys ly;have fR0:H R=none:=cn s1 fR;have yB2:=s2 _ _ yB;have nBR:Bl≠R:=fun z=>by rw[<- z,yB] at fR;cases fR
 have rb2:a7 K H2 (bs.map Wt) us:=rb.mono s2;have Tu:=s1.trans s2;clear s2 rb yB;refine(rP _ _).mpr (aG fun U3 vk=>?_);clear rP;walk_at "rd";intro Bd fBd;have ZD:H Bd=none:=cn Tu fBd;have s3:=ay.new fBd (.lst []);have yBd:(upd H2 Bd (.lst [])) Bd=some (.lst []):=aj;generalize upd H2 Bd (.lst [])=H3 at *;refine(vk _ _).mpr (aG fun U4 zB=>?_);clear vk;walk_at "rd";intro E0 fE;have fE0:H E0=none:=cn (Tu.trans s3) fE;have s4:=ay.new fE (.lst [V.str (zac "all"),V.ref Bd]);have yE:(upd H3 E0 (.lst [V.str (zac "all"),V.ref Bd])) E0=some (.lst [V.str (zac "all"),V.ref Bd]):=aj;have nEB:E0≠Bd:=fun z=>by rw[z,yBd] at fE;cases fE
 have nER:E0≠R:=fun z=>by rw[z,s3 _ _ yR] at fE;cases fE
 generalize upd H3 E0 (.lst [V.str (zac "all"),V.ref Bd])=H4 at *;intro O fO;have fO0:H O=none:=cn ((Tu.trans s3).trans s4) fO;have s5:=ay.new fO (.lst [V.ref E0]);have yO:(upd H4 O (.lst [V.ref E0])) O=some (.lst [V.ref E0]):=aj;have nOB:O≠Bd:=fun z=>by rw[z,s4 _ _ yBd] at fO;cases fO
 have nOR:O≠R:=fun z=>by rw[z,s4 _ _ (s3 _ _ yR)] at fO;cases fO
 have nOE:O≠E0:=fun z=>by rw[z,yE] at fO;cases fO
 generalize upd H4 O (.lst [V.ref E0])=H5 at *;have Tv:Bd≠R:=fun z=>by rw[z,yR] at fBd;cases fBd
 have WT:=s5 _ _ (s4 _ _ yBd);have yE5:=s5 _ _ yE;have yR5:=s5 _ _ (s4 _ _ (s3 _ _ yR));have yB5:=s5 _ _ (s4 _ _ (s3 _ _ yB2));have rb5:=rb2.mono ((s3.trans s4).trans s5);have sH5:=Tu.trans ((s3.trans s4).trans s5);clear s3 s4 s5 yBd yE yR yB2 rb2 Tu;refine(zB _ _).mpr (aG fun U5 FL=>?_);clear zB;walk_at "rd";simp only[yX];walk_at "rd";refine⟨⟨_,.of yB5⟩,fun N fN=>?_⟩;refine Eh (K:=K) (r:=[]) (fun i=>sv ((bs.map (·.1)).getD i [])) (.of yB5) (by lia) fN (fun i x Hc hx sc RR hRR=>?_) (fun H6 s6 yN=>?_)
 ·obtain⟨b,ba,YM,rfl,sb⟩:=QW rb5 hx;walk_at "rd";refine bI (sc.gK sb) (v:=sv b.1) (bf (j:=0) rfl) ?_;have:(bs.map (·.1)).getD i []=b.1:=by rw[zaz,zaE,YM];rfl
  rw[this] at hRR;exact hRR
 have ew:(zaA us.length).map (fun i=>sv ((bs.map (·.1)).getD i []))=(bs.map (·.1)).map sv:=by
  refine List.ext_getElem (by simp[Wc]) fun i h1 h2=>?_;rw[zc6,List.getElem_range,zc6,zaz,zag (by simpa using h2)];rfl
 rw[ew] at yN;have nNO:N≠O:=fun z=>by rw[z,yO] at fN;cases fN
 have nNB:N≠Bd:=fun z=>by rw[z,WT] at fN;cases fN
 have nNR:N≠R:=fun z=>by rw[z,yR5] at fN;cases fN
 have nNE:N≠E0:=fun z=>by rw[z,yE5] at fN;cases fN
 have yO6:=s6 _ _ yO;have WU:=s6 _ _ WT;have yE6:=s6 _ _ yE5;have yR6:=s6 _ _ yR5;have sH6:=sH5.trans s6;clear s6 fN yB5 rb5 WT yE5 yR5 yO sH5 ew;refine(FL _ _).mpr (aG fun U6 Je=>?_);clear FL;refine GY fun U hU=>?_;walk_at "rd";refine⟨63,rfl,a,_,rfl,sH6.seq hS,fun p fp=>?_⟩;obtain⟨ms,em,lm⟩:∃ms:List Int,AH (cs.map V.int) none (some 63)=ms.map V.int/\ms.length<=63:=by
  rw[E6 _ (by decide),<- zcV];exact⟨_,rfl,by rw[zaB];exact zay (Nat.min_le_left _ _) (by decide)⟩
 rw[em];have s7:=ay.new fp (.lst (ms.map V.int));have yp:(upd H6 p (.lst (ms.map V.int))) p=some (.lst (ms.map V.int)):=aj;have npO:p≠O:=fun z=>by rw[z,yO6] at fp;cases fp
 have npB:p≠Bd:=fun z=>by rw[z,WU] at fp;cases fp
 have npR:p≠R:=fun z=>by rw[z,yR6] at fp;cases fp
 have yO7:=s7 _ _ yO6;have acA:=s7 _ _ WU;have yE7:=s7 _ _ yE6;have yR7:=s7 _ _ yR6;have yN7:=s7 _ _ yN;have sH7:=sH6.trans s7;generalize upd H6 p (.lst (ms.map V.int))=H7 at *;clear s7 yO6 WU yE6 yR6 yN sH6 fp;have ndn:(bs.map (·.1)).Nodup:=hN.nd;have rr0:=Bu bs [] hb (by rw[za8];exact ndn) (by rw[za8];exact hN.Gf);rw[za8] at rr0;have acB:zac "all"=S S9:=by decide +kernel
 have op0:uM H7 O [Bd] [(E0,none)] [] 0:=
  ⟨yO7,rfl,fun x hx=>by
   rw[zad.mp hx];exact .mk S9 Bd [] (by rw[yE7,acB];rfl) (by simp) (by simpa using nEB) ⟨fun z=>(by cases z),fun z=>absurd z (show ¬S9=PM.jV by decide)⟩ fun z=>absurd z (show ¬S9=PM.jV by decide),fun z hz=>by rw[zad.mp hz];exact⟨[],acA,zah _⟩,by simpa using nOB⟩
 have okb:∀r∈bs.map QR,r.length<=200/\10 ∉ r:=fun r hr=>by
  obtain⟨b,hb1,rfl⟩:=zaI.mp hr;exact(Ff (hb b hb1)).2
 have i0:BlI H7 H7 R N O Bd E0 [Bd] [(E0,none)] ⟨bs.map (·.1),false,[]⟩ (bs.map QR) bs.length 0:=
  {op:=op0,k5:=zaU _,yR:=yR7,yN:=yN7,rr:=rr0,nm:=hN,lw:=zaj _,ok:=okb,zf:=fun z hz=>.inl (zad.mp hz),pf:=fun x hx=>by rw[zad.mp hx];exact .inl rfl,kp:=fun y u _ _ _ e=>e,bz:=by simp}
 refine⟨p,rfl,⟨_,.of yp⟩,hU _ _ (Au (K:=K) (a:=p) (xs:=ms.map V.int) (fun i σ Hx=>∃(Z:List zdP) (j5:List (zdP×Option Bool)) (d:PM.Df) (ws:List W) (x7:Option V),σ=[some (.ref a),some (.int hd),some (.ref Bl),some (.ref R),some (.ref Bd),some (.ref O),some (.ref N),x7]/\BlI H7 Hx R N O Bd E0 Z j5 d ws bs.length i) ⟨_,_,_,_,none,rfl,i0⟩ (fun i σ Hx _ z=>by obtain⟨_,_,_,_,_,_,bi⟩:=z;exact .of (bi.kp _ _ npO npB npR yp)) ?_ ?_)⟩
 ·intro i x σ Hx hx z;obtain⟨Z,j5,d,ws,x7,rfl,bi⟩:=z;rw[zaE] at hx;obtain⟨cell,hc,rfl⟩:=zbd.mp hx;have hi:i<ms.length:=(zar.mp hc).1;have lw:=bi.lw;walk_at "rd";refine⟨.inl ⟨rfl,_,.of bi.yR⟩,R,_,rfl,.inl (.of bi.yR),?_⟩;rw[zaj];have nZ:∀y u,H7 y=some u->y≠Bd->y ∉ Z:=fun y u e nb z=>by
   rcases bi.zf y z with q |q
   ·exact nb q
   ·rw[e] at q;cases q
  have nP:∀y u,H7 y=some u->y≠E0->∀pr∈j5,pr.1≠y:=fun y u e nb pr ZE z=>by
   rcases bi.pf pr ZE with q |q
   ·exact nb (z.symm.trans q)
   ·rw[z,e] at q;cases q
  have back:∀z,Hx z=none->H7 z=none:=fun z hz=>by
   cases e:H7 z with
   |none=>rfl
   |some u=>
    by_cases h1:z=O
    ·rw[h1,bi.op.yO] at hz;cases hz
    by_cases h2:z=Bd
    ·obtain⟨xs,y,_⟩:=bi.op.zz Bd bi.bz;rw[h2,y] at hz;cases hz
    by_cases h3:z=R
    ·rw[h3,bi.yR] at hz;cases hz
    rw[bi.kp z u h1 h2 h3 e] at hz;cases hz
  refine .mk cell (ws.length+1) O N Z j5 d i rfl (by lia) (by lia) bi.op bi.k5 bi.yN (nZ N _ yN7 nNB) nNO (nP N _ yN7 nNE) bi.nm fun wt f d' Z' Nj H8 rg tk en k5' op8 kp8 zf8 zs8 pf8=>?_;have nRZ:R ∉ Z:=nZ R _ yR7 (Ne.symm Tv);have yR8:H8 R=some (.lst (ws.map sv)):=kp8 _ _ (Ne.symm nOR) nRZ bi.yR;refine⟨R,_,_,rfl,rfl,yR8,by rw[zaj];lia,?_⟩;have zf':∀z∈Z',z=Bd\/H7 z=none:=fun z hz=>(zf8 z hz).elim (bi.zf z) fun q=>.inr (back z q);have pf':∀pr∈Nj,pr.1=E0\/H7 pr.1=none:=fun pr ZE=>(pf8 pr ZE).elim (bi.pf pr) fun q=>.inr (back _ q);have acD:R ∉ Z':=fun z=>by
   rcases zf' R z with q |q
   ·exact Tv q.symm
   ·rw[yR7] at q;cases q
  have acE:∀pr∈Nj,pr.1≠R:=fun pr ZE z=>by
   rcases pf' pr ZE with q |q
   ·exact nER (q.symm.trans z)
   ·rw[z,yR7] at q;cases q
  refine⟨Z',Nj,d',ws++[wt],_,rfl,{op:=op8.oth (Ne.symm nOR) acD acE,k5:=k5',yR:=by rw[aj,zas];rfl,yN:=?_,rr:=by rw[PM.Bq bi.rr,PM.Et rg.1,tk],nm:=by rw[en];exact bi.nm,lw:=by rw[zae,zaw];lia,ok:=fun r hr=>(zam.mp hr).elim (bi.ok r) fun z=>by rw[zad.mp z];exact rg.2,zf:=zf',pf:=pf',kp:=fun y u h1 h2 h3 e=>by rw[aq h3];exact kp8 _ _ h1 (nZ y u e h2) (bi.kp y u h1 h2 h3 e),bz:=?_}⟩
  ·rw[aq nNR,en];exact kp8 _ _ nNO (nZ N _ yN7 nNB) bi.yN
  ·exact zs8 Bd bi.bz
 ·intro σ Hx z;obtain⟨Z,j5,d,ws,x7,rfl,bi⟩:=z;rw[zaj] at bi;refine(Je _ _).mpr (aG fun U7 Y9=>?_);clear Je;have lw:=bi.lw;have lp:=bi.op.len;have k5:=bi.k5;have sHx:ay H Hx:=fun y u e=>bi.kp y u (aI e fO0) (aI e ZD) (aI e fR0) (sH7 _ _ e);have aft:∀(Hy:Hp) (WV:List W) (d':PM.Df),Hy R=some (.lst (WV.map sv))->Hy O=some (.lst (j5.map fun p=>V.ref p.1))->ay H Hy->WV≠[]->WV.length<=67->(∀r∈WV,r.length<=200/\10 ∉ r)->PM.dy ⟨[],false,[]⟩ WV=.ok d'->d'.df.length=d.df.length->U7 [some (.ref a),some (.int hd),some (.ref Bl),some (.ref R),some (.ref Bd),some (.ref O),some (.ref N),x7] Hy:=by
   intro Hy WV d' yR' yO' sHy ne lw' ok' rr' lk;refine(Y9 _ _).mpr (aG fun U8 Za=>?_);clear Y9;walk_at "rd";intro p1 f1;generalize g1:upd Hy p1 _=A1;have t1:=gL g1 f1;have z1:=Gi g1;clear g1;refine⟨O,_,rfl,.inl (.of (t1 _ _ yO')),?_⟩;rw[zaj,lp];refine⟨p1,_,_,rfl,rfl,z1,by lia,by lia,by rw[zaw];lia,fun p2 f2=>?_⟩;have ek:(((d.df.length+1:Nat):Int)-1).toNat=d.df.length:=by lia
   rw[ek,LU,show V.str (zac "end")=sv PM.eH by rw[QF];rfl];generalize g1:upd A1 p2 _=A2;have t2:=gL g1 f2;have z2:=Gi g1;clear g1;refine⟨R,p2,_,_,rfl,rfl,t2 _ _ (t1 _ _ yR'),z2,by rw[zaj,zbA];lia,fun R2 f3=>?_⟩;rw[show zax d.df.length (sv PM.eH)=(zax d.df.length PM.eH).map sv by rw[List.map_replicate],<- zas];generalize g1:upd A2 R2 _=A3;have t3:=gL g1 f3;have z3:=Gi g1;clear g1;refine(Za _ _).mpr ?_;clear Za;walk_at "rd";intro p4 f4;generalize g1:upd A3 p4 _=A4;have t4:=gT g1 f4;clear g1;intro p5 f5;generalize g1:upd A4 p5 _=A5;have t5:=gL g1 f5;have z5:=Gi g1;clear g1;refine q p5 R2 (.ref p4) (WV++zax d.df.length PM.eH) A5 (sHy.trans ((t1.trans t2).trans ((t3.trans t4).trans t5))) z5 (t5 _ _ (t4 _ _ z3)) (by simp[ne]) (by rw[zae,zbA];lia) ⟨_,by rw[PM.Bq rr'];exact PM.Ew _ _ lk⟩ (fun r hr=>(zam.mp hr).elim (ok' r) fun z=>by rw[(zcN.mp z).2];decide)
  walk_at "rd";intro p0 f0;refine⟨R,p0,_,rfl,rfl,.of (ay.new f0 _ _ _ bi.yR),.of aj,?_⟩;have s0:=ay.new f0 (.lst []);generalize upd Hx p0 (.lst [])=Hz at *;have yRz:=s0 _ _ bi.yR;have yOz:=s0 _ _ bi.op.yO;obtain⟨bx,Xs,lbx⟩:=bi.op.zz Bd bi.bz;have rr:=bi.rr;have ok:=bi.ok;cases ws with
  |nil=>
   rw[if_pos (show (List.map sv ([]:List W)).isEmpty=true from rfl)];have ed:d.df=[]:=by cases rr;rfl
   refine⟨.inl ⟨rfl,_,.of yRz⟩,R,_,_,rfl,rfl,yRz,by rw[zaj];show 0<_;lia,?_⟩;have Rm:(upd Hz R (.lst (([]:List W).map sv++[V.str (zac "stop")]))) Bd=some (.lst bx):=by rw[aq Tv];exact s0 _ _ Xs
   have yR1:(upd Hz R (.lst (([]:List W).map sv++[V.str (zac "stop")]))) R=some (.lst ([PM.dw].map sv)):=by rw[aj,Ho];rfl
   have yO1:(upd Hz R (.lst (([]:List W).map sv++[V.str (zac "stop")]))) O=some (.lst (j5.map fun p=>V.ref p.1)):=by rw[aq nOR];exact yOz
   have sR1:ay H (upd Hz R (.lst (([]:List W).map sv++[V.str (zac "stop")]))):=fun y u e=>by rw[aq (aI e fR0)];exact s0 _ _ (sHx _ _ e)
   generalize upd Hz R (.lst (([]:List W).map sv++[V.str (zac "stop")]))=B1 at *;walk_at "rd";refine⟨.inl ⟨rfl,_,.of Rm⟩,fun p1 f1=>?_⟩;generalize g1:upd B1 p1 _=B2;have t1:=gT g1 f1;clear g1;refine⟨Bd,bx,_,rfl,rfl,t1 _ _ Rm,by lia,?_⟩;refine aft _ [PM.dw] ⟨[],true,[]⟩ (by rw[aq (Ne.symm Tv)];exact t1 _ _ yR1) (by rw[aq nOB];exact t1 _ _ yO1) (fun y u e=>by rw[aq (aI e ZD)];exact t1 _ _ (sR1 _ _ e)) (by simp) (by decide) (fun r hr=>by rw[zad.mp hr];decide) ?_ (by rw[ed]);rw[PM.Et PM.Eu];rfl
  |cons r0 rs0=>
   rw[if_neg (by simp)];exact aft Hz (r0::rs0) d yRz yOz (sHx.trans s0) (by simp) (by lia) ok rr rfl
theorem WW(T:Tx K mg t)(C:Cd P w K t):bu P w K mg base jh 66 t.L5 t.yr ["script"] (Lo K):=by
 have jT:=Ks (P:=P) (w:=w) (base:=base) T;have FR:=WS (P:=P) (w:=w) (base:=base) T;have Ce:=WE (P:=P) (w:=w) (base:=base) T;have Dq:=WI (P:=P) (w:=w) (base:=base) T;have Cf:=Tj (P:=P) (w:=w) (base:=base) T C;refine T.L6.F.uX Q0 (fun vs H Q E h=>?_) (fun d0 A outer s H vs Q E hr h=>?_)
 ·obtain⟨_,_,rfl,_⟩:=h;rfl
 obtain⟨a,ns,rfl,hS,hl,q⟩:=h;have nd:=Q0.nd;refine⟨_,[some (.ref a),none,none,none,none,none],(@ag _ _ _ _ _ (@qG _ _ _ _ _ _ (@aF _ _ _ _ _ _ _ _ _ _ _ _ _ _ _ _ FR (hr.mono (by first|decide|omega)) rfl T.gW.m T.gW.F.kp T.gW.b .nil bj (@ae _ _ _ _ _ (@d4 _ _ _ _ _ _ _ _ _ _ (@ux _) (pv 0) (@fS _ _ _ (@ai _ _ _ _)) (@fQ _)) (@ae _ _ _ _ _ (@aF _ _ _ _ _ _ _ _ _ _ _ _ _ _ _ _ jT (hr.mono (by first|decide|omega)) rfl T.bF.m T.bF.F.kp T.bF.b .nil bj (@ae _ _ _ _ _ (pv 0) (@ae _ _ _ _ _ (@ai _ _ _ _) (@af _) (@aC _ _ _ _ _)) (@ah _ _ _ _)) (by first |rfl |exact .inl rfl |exact .inr rfl |decide |(intro _;rfl) |assumption) (by first |rfl |exact .inl rfl |exact .inr rfl |decide |(intro _;rfl) |assumption) (by first |rfl |exact .inl rfl |exact .inr rfl |decide |(intro _;rfl) |assumption)) (@af _) (@bH _ _ _ _ _ _)) (@bJ _ _ _ _ _)) (by first |rfl |exact .inl rfl |exact .inr rfl |decide |(intro _;rfl) |assumption) (by first |rfl |exact .inl rfl |exact .inr rfl |decide |(intro _;rfl) |assumption) (by first |rfl |exact .inl rfl |exact .inr rfl |decide |(intro _;rfl) |assumption)) (@E2 _ _ _ _ _ _ rfl (@eJ _ _ _ _ _ (@cF _ _ 1 _ nd rfl (zan rfl) (by first |rfl |exact .inl rfl |exact .inr rfl |decide |(intro _;rfl) |assumption)) (@eJ _ _ _ _ _ (@cF _ _ 2 _ nd rfl (zan rfl) (by first |rfl |exact .inl rfl |exact .inr rfl |decide |(intro _;rfl) |assumption)) (@uv _) (by first |rfl |exact .inl rfl |exact .inr rfl |decide |(intro _;rfl) |assumption)) (by first |rfl |exact .inl rfl |exact .inr rfl |decide |(intro _;rfl) |assumption)) (by first |rfl |exact .inl rfl |exact .inr rfl |decide |(intro _;rfl) |assumption) (by first |rfl |exact .inl rfl |exact .inr rfl |decide |(intro _;rfl) |assumption)) (by first |rfl |exact .inl rfl |exact .inr rfl |decide |(intro _;rfl) |assumption) (by first |rfl |exact .inl rfl |exact .inr rfl |decide |(intro _;rfl) |assumption) (by first |rfl |exact .inl rfl |exact .inr rfl |decide |(intro _;rfl) |assumption)) (@ag _ _ _ _ _ (@aM _ _ 3 _ _ _ _ nd rfl (zan rfl) (@aw _ _ _ _ _ _ _ _ (@bS _) (@aF _ _ _ _ _ _ _ _ _ _ _ _ _ _ _ _ jT (hr.mono (by first|decide|omega)) rfl T.bF.m T.bF.F.kp T.bF.b .nil bj (@ae _ _ _ _ _ (pv 0) (@ae _ _ _ _ _ (@ai _ _ _ _) (@af _) (@aC _ _ _ _ _)) (@ah _ _ _ _)) (by first |rfl |exact .inl rfl |exact .inr rfl |decide |(intro _;rfl) |assumption) (by first |rfl |exact .inl rfl |exact .inr rfl |decide |(intro _;rfl) |assumption) (by first |rfl |exact .inl rfl |exact .inr rfl |decide |(intro _;rfl) |assumption)) (@aw _ _ _ _ _ _ _ _ (@dR _) (@bb _ _ _ _ _ _ _ _ _ (@bq _) rfl T.eY PyProof.Rows.Boot.«len» (@ae _ _ _ _ _ (pv 1) (@af _) (@ah _ _ _ _)) (by first |rfl |exact .inl rfl |exact .inr rfl |decide |(intro _;rfl) |assumption) (by first |rfl |exact .inl rfl |exact .inr rfl |decide |(intro _;rfl) |assumption) (by first |rfl |exact .inl rfl |exact .inr rfl |decide |(intro _;rfl) |assumption) (by first |rfl |exact .inl rfl |exact .inr rfl |decide |(intro _;rfl) |assumption)) (@ai _ _ _ _))) (by first |rfl |exact .inl rfl |exact .inr rfl |decide |(intro _;rfl) |assumption) (by first |rfl |exact .inl rfl |exact .inr rfl |decide |(intro _;rfl) |assumption)) (@ag _ _ _ _ _ (@aM _ _ 4 _ _ _ _ nd rfl (zan rfl) (@aw _ _ _ _ _ _ _ _ (@bS _) (@aF _ _ _ _ _ _ _ _ _ _ _ _ _ _ _ _ jT (hr.mono (by first|decide|omega)) rfl T.bF.m T.bF.F.kp T.bF.b .nil bj (@ae _ _ _ _ _ (pv 0) (@ae _ _ _ _ _ (@ai _ _ _ _) (@af _) (@aC _ _ _ _ _)) (@ah _ _ _ _)) (by first |rfl |exact .inl rfl |exact .inr rfl |decide |(intro _;rfl) |assumption) (by first |rfl |exact .inl rfl |exact .inr rfl |decide |(intro _;rfl) |assumption) (by first |rfl |exact .inl rfl |exact .inr rfl |decide |(intro _;rfl) |assumption)) (@ai _ _ _ _)) (by first |rfl |exact .inl rfl |exact .inr rfl |decide |(intro _;rfl) |assumption) (by first |rfl |exact .inl rfl |exact .inr rfl |decide |(intro _;rfl) |assumption)) (@ag _ _ _ _ _ (@aM _ _ 5 _ _ _ _ nd rfl (zan rfl) (@aF _ _ _ _ _ _ _ _ _ _ _ _ _ _ _ _ jT (hr.mono (by first|decide|omega)) rfl T.bF.m T.bF.F.kp T.bF.b .nil bj (@ae _ _ _ _ _ (pv 0) (@ae _ _ _ _ _ (@ai _ _ _ _) (@af _) (@aC _ _ _ _ _)) (@ah _ _ _ _)) (by first |rfl |exact .inl rfl |exact .inr rfl |decide |(intro _;rfl) |assumption) (by first |rfl |exact .inl rfl |exact .inr rfl |decide |(intro _;rfl) |assumption) (by first |rfl |exact .inl rfl |exact .inr rfl |decide |(intro _;rfl) |assumption)) (by first |rfl |exact .inl rfl |exact .inr rfl |decide |(intro _;rfl) |assumption) (by first |rfl |exact .inl rfl |exact .inr rfl |decide |(intro _;rfl) |assumption)) (@ag _ _ _ _ _ (@bo _ _ _ _ _ _ _ _ (@PW.pt _ _ _ (@pw_or _ _ _ _ _ _ _ (@aH _ _ _ _ _ _ _ _ (@Aw _) (pv 4) (@ai _ _ _ _) (aT _)) (@pw_or1 _ _ _ _ (@aH _ _ _ _ _ _ _ _ (@cC _) (pv 3) (@bb _ _ _ _ _ _ _ _ _ (@bq _) rfl T.eY PyProof.Rows.Boot.«len» (@ae _ _ _ _ _ (pv 1) (@af _) (@ah _ _ _ _)) (by first |rfl |exact .inl rfl |exact .inr rfl |decide |(intro _;rfl) |assumption) (by first |rfl |exact .inl rfl |exact .inr rfl |decide |(intro _;rfl) |assumption) (by first |rfl |exact .inl rfl |exact .inr rfl |decide |(intro _;rfl) |assumption) (by first |rfl |exact .inl rfl |exact .inr rfl |decide |(intro _;rfl) |assumption)) (aT _))))) (@ao _ _ _ (@aM _ _ 1 _ _ _ _ nd rfl (zan rfl) (@aw _ _ _ _ _ _ _ _ (@di _) (@aw _ _ _ _ _ _ _ _ (@di _) (@d4 _ _ _ _ _ _ _ _ _ _ (@ux _) (pv 1) (@fQ _) (@fS _ _ _ (pv 3))) (@aU _ _ _ _ (@ae _ _ _ _ _ (@aF _ _ _ _ _ _ _ _ _ _ _ _ _ _ _ _ Ce (hr.mono (by first|decide|omega)) rfl T.e8.m T.e8.F.kp T.e8.b .nil bj (@ae _ _ _ _ _ (pv 5) (@af _) (@ah _ _ _ _)) (by first |rfl |exact .inl rfl |exact .inr rfl |decide |(intro _;rfl) |assumption) (by first |rfl |exact .inl rfl |exact .inr rfl |decide |(intro _;rfl) |assumption) (by first |rfl |exact .inl rfl |exact .inr rfl |decide |(intro _;rfl) |assumption)) (@af _) (@bH _ _ _ _ _ _)))) (@d4 _ _ _ _ _ _ _ _ _ _ (@ux _) (pv 1) (@fS _ _ _ (pv 3)) (@fQ _))) (by first |rfl |exact .inl rfl |exact .inr rfl |decide |(intro _;rfl) |assumption) (by first |rfl |exact .inl rfl |exact .inr rfl |decide |(intro _;rfl) |assumption))) (@ao _ _ _ (@bo _ _ _ _ _ _ _ _ (@aH _ _ _ _ _ _ _ _ (@cC _) (pv 4) (@ai _ _ _ _) (aT _)) (@ao _ _ _ (@qG _ _ _ _ _ _ (@aF _ _ _ _ _ _ _ _ _ _ _ _ _ _ _ _ Ce (hr.mono (by first|decide|omega)) rfl T.e8.m T.e8.F.kp T.e8.b .nil bj (@ae _ _ _ _ _ (pv 5) (@af _) (@ah _ _ _ _)) (by first |rfl |exact .inl rfl |exact .inr rfl |decide |(intro _;rfl) |assumption) (by first |rfl |exact .inl rfl |exact .inr rfl |decide |(intro _;rfl) |assumption) (by first |rfl |exact .inl rfl |exact .inr rfl |decide |(intro _;rfl) |assumption)) (Ar (pv 1) (pv 3) set_list) (by first |rfl |exact .inl rfl |exact .inr rfl |decide |(intro _;rfl) |assumption) (by first |rfl |exact .inl rfl |exact .inr rfl |decide |(intro _;rfl) |assumption) (by first |rfl |exact .inl rfl |exact .inr rfl |decide |(intro _;rfl) |assumption))) (@ao _ _ _ (@qG _ _ _ _ _ _ (@aF _ _ _ _ _ _ _ _ _ _ _ _ _ _ _ _ Dq (hr.mono (by first|decide|omega)) rfl T.fI.m T.fI.F.kp T.fI.b .nil bj (@ae _ _ _ _ _ (@aX _ _ _ _ _ _ _ (@a9 _) (pv 1) (pv 3) (@wI _ _)) (@ae _ _ _ _ _ (pv 4) (@ae _ _ _ _ _ (pv 5) (@af _) (@ah _ _ _ _)) (@ah _ _ _ _)) (@bJ _ _ _ _ _)) (by first |rfl |exact .inl rfl |exact .inr rfl |decide |(intro _;rfl) |assumption) (by first |rfl |exact .inl rfl |exact .inr rfl |decide |(intro _;rfl) |assumption) (by first |rfl |exact .inl rfl |exact .inr rfl |decide |(intro _;rfl) |assumption)) (Ar (pv 1) (pv 3) set_list) (by first |rfl |exact .inl rfl |exact .inr rfl |decide |(intro _;rfl) |assumption) (by first |rfl |exact .inl rfl |exact .inr rfl |decide |(intro _;rfl) |assumption) (by first |rfl |exact .inl rfl |exact .inr rfl |decide |(intro _;rfl) |assumption)))))) (@ao _ _ _ (@aS _ _ _ _ (@mQ _ _ _ _ _ _ _ _ (VO (abg hr)) (@aF _ _ _ _ _ _ _ _ _ _ _ _ _ _ _ _ Cf (hr.mono (by first|decide|omega)) rfl T.eV.m T.eV.F.kp T.eV.b .nil bj (@ae _ _ _ _ _ (pv 1) (@af _) (@ah _ _ _ _)) (by first |rfl |exact .inl rfl |exact .inr rfl |decide |(intro _;rfl) |assumption) (by first |rfl |exact .inl rfl |exact .inr rfl |decide |(intro _;rfl) |assumption) (by first |rfl |exact .inl rfl |exact .inr rfl |decide |(intro _;rfl) |assumption)) (@uy _ _ _ _ _ _ _ ["k"] [] _ _ _ _ rfl (by rfl) (by rfl) (@qd _ _ _ _ _ _ rfl T.rD (@ae _ _ _ _ _ (@ai _ _ _ _) (@af _) (@aC _ _ _ _ _)) (by first |rfl |exact .inl rfl |exact .inr rfl |decide |(intro _;rfl) |assumption)) (fun _ _ _ _=>(@cF _ _ 0 _ (by show List.Nodup (["k"]:List Str);decide +kernel) rfl (zan rfl) (by first |rfl |exact .inl rfl |exact .inr rfl |decide |(intro _;rfl) |assumption))) (fun _ _ _ _=>(@qN _)) (fun _ _ _ _=>(@mQ _ _ _ _ _ _ _ _ (@cC _) (pv 0) (@ai _ _ _ _) (aT _))) (by first |rfl |exact .inl rfl |exact .inr rfl |decide |(intro _;rfl) |assumption)) (aT _))))))))),rfl,?_⟩;have line:zdX=2 ^ 24:=rfl;refine aG fun U1 rZ=>?_;walk_at "rd";refine⟨3,rfl,a,_,rfl,hS,fun p1 f1=>?_⟩;rw[show (some (3:Int))=some ((3:Nat):Int) from rfl,wY,<- List.map_drop];have s1:=ay.new f1 (.lst ((ns.drop 3).map V.int));have y1:(upd H p1 (.lst ((ns.drop 3).map V.int))) p1=some (.lst ((ns.drop 3).map V.int)):=aj;generalize upd H p1 (.lst ((ns.drop 3).map V.int))=H1 at *;refine⟨a,ns,3,rfl,s1.seq hS,fun hd=>?_⟩;refine .mk p1 (ns.drop 3) hd rfl (.of y1) (by rw[zaQ];lia) fun l R pv ws H2 s2 yl yR ne lw ⟨d,rr⟩ ok=>?_;refine⟨l,_,rfl,.of yl,rfl,_,_,rfl,_,_,rfl,rfl,(rZ _ _).mpr (aG fun U2 rP=>?_)⟩;clear rZ;have Tu:=s1.trans s2;walk_at "rd";refine⟨a,ns,0,rfl,Tu.seq hS,fun c0=>⟨R,_,rfl,.inl (.of yR),?_⟩⟩;rw[zaj];walk_at "rd";refine⟨by lia,(rP _ _).mpr (aG fun U3 vk=>?_)⟩;clear rP;have a0:=zaY c0 (show ((ws.length:Int)+1)≠0 by lia);have a1:=zaT c0 (show (0:Int)<(ws.length:Int)+1 by lia);obtain⟨j,hj⟩:=zbc a0;rw[hj] at a1 ⊢;walk_at "rd";refine⟨a,ns,1,rfl,Tu.seq hS,fun c1=>?_⟩;walk_at "rd";refine(vk _ _).mpr (aG fun U4 zB=>?_);clear vk;generalize c1%6=kd at *;walk_at "rd";refine⟨a,ns,2,rfl,Tu.seq hS,fun cell=>(zB _ _).mpr (aG fun U5 FL=>?_)⟩;clear zB;have fin:∀(Hz:Hp) (R2:zdP) (us vs:List W) (wb:W) (y:PM.Df),Hz R2=some (.lst ((us++wb::vs).map sv))->PM.dy ⟨[],false,[]⟩ us=.ok y->yh wb->us.length+vs.length<=72->(∀r∈us,r.length<=200/\10 ∉ r)->(∀r∈vs,r.length<=200/\10 ∉ r)->U5 [some (.ref a),some (.ref R2),some pv,some (.int j),some (.int kd),some (.int cell)] Hz:=by
  intro Hz R2 us vs wb y yz ry bw lz ok1 ok2;refine(FL _ _).mpr ?_;clear FL;have al:∀r∈us++wb::vs,r.length<=5100/\10 ∉ r:=fun r hr=>by
   rcases zam.mp hr with h |h
   ·exact⟨zay (ok1 r h).1 (by decide),(ok1 r h).2⟩
   ·rcases zai.mp h with rfl |h
    ·exact bw.2
    ·exact⟨zay (ok2 r h).1 (by decide),(ok2 r h).2⟩
  have ll:(us++wb::vs).length<=73:=by rw[zae,zaf];lia
  have fl:(us++wb::vs).flatten.length+(us++wb::vs).length<=2900000:=by
   have:=Ex (us++wb::vs) 5100 fun r hr=>(al r hr).1;lia
  walk_at "rd";refine .mk R2 (us++wb::vs) rfl (.of yz) (by simp) (fun r hr=>(al r hr).2) fl fun L H9 s9 y9=>?_;rw[PM.QY ry bw.1 (by lia)] at y9;simp only[yX];walk_at "rd";refine⟨_,rfl,by decide,by decide,fun D2 WR=>?_⟩;refine AZ (n:=14) (r:=[]) (fun k=>V.bl (decide (k=PM.cR .nD))) (by decide) (fun k hk ys RR hR=>?_) ?_
  ·walk_at "rd";have:decide ((k:Int)=0)=decide (k=PM.cR .nD):=decide_eq_decide.mpr (by show ((k:Int)=0)↔k=0;lia);rw[this];exact hR
  have y9':=ay.new WR (.lst ((zaA 14).map fun k=>V.bl (decide (k=PM.cR .nD)))) _ _ y9;have ec:yc (some .nD)=((zaA 14).map fun k=>decide (k=PM.cR .nD)).map V.bl:=by unfold yc;rw[zbE];rfl
  have ed:((zaA 14).map fun k=>V.bl (decide (k=PM.cR .nD)))=((zaA 14).map fun k=>decide (k=PM.cR .nD)).map V.bl:=by rw[zbE];rfl
  rw[ec] at y9';refine⟨.lst (((zaA 14).map fun k=>decide (k=PM.cR .nD)).map Dp.bl),.lst (((zaA 14).map fun k=>decide (k=PM.cR .nD)).map Dp.bl),Rep.oP.mpr ⟨L,_,rfl,.of y9',Fe _⟩,Rep.oP.mpr ⟨D2,_,rfl,.of (by rw[aj,ed]),Fe _⟩,by decide +kernel,by decide +kernel,?_⟩;rw[eqv_refl];exact q _
 have esp:ws.take j++ws.drop j=ws:=zck j ws;obtain⟨yj,ryj⟩:∃y,PM.dy ⟨[],false,[]⟩ (ws.take j)=.ok y:=PM.QX (b:=ws.drop j) (by rw[esp];exact rr);have okT:∀r∈ws.take j,r.length<=200/\10 ∉ r:=fun r hr=>ok r (zbl hr);have okD:∀k,∀r∈ws.drop k,r.length<=200/\10 ∉ r:=fun k r hr=>ok r (zbF hr);refine sV fun A1 A2 WO WQ=>?_;have ins:A1 [some (.ref a),some (.ref R),some pv,some (.int j),some (.int kd),some (.int cell)] H2:=by
  refine(WO _ _).mpr ?_;clear WO WQ;walk_at "rd";refine⟨_,rfl,R,_,rfl,.of yR,fun p2 f2=>?_⟩;rw[E6 _ (by lia),zbP,<- zcV];generalize g1:upd H2 p2 _=B1;have t1:=gL g1 f2;have z1:=Gi g1;clear g1;refine .mk cell rfl fun wb H3 s3 bw=>?_;intro p3 f3;generalize g1:upd H3 p3 _=B2;have t2:=gL g1 f3;have z2:=Gi g1;clear g1;refine⟨p2,p3,_,_,rfl,rfl,t2 _ _ (s3 _ _ z1),z2,by rw[zaj,zaw,zaB];lia,fun p4 f4=>?_⟩;generalize g1:upd B2 p4 _=B3;have t3:=gL g1 f4;have z3:=Gi g1;clear g1;refine⟨_,rfl,R,_,rfl,.of (t3 _ _ (t2 _ _ (s3 _ _ (t1 _ _ yR)))),fun p5 f5=>?_⟩;rw[wY,<- List.map_drop];generalize g1:upd B3 p5 _=B4;have t4:=gL g1 f5;have z4:=Gi g1;clear g1;refine⟨p4,p5,_,_,rfl,rfl,t4 _ _ z3,z4,by rw[zae,zaj,zaw,zaj,zaB,zaQ];lia,fun p6 f6=>?_⟩;refine fin _ p6 (ws.take j) (ws.drop j) wb yj (by rw[aj];simp) ryj bw (by rw[zaB,zaQ];lia) okT (okD j)
 have put:∀(H3:Hp) (wb:W),j<ws.length->ay H2 H3->yh wb->T1 (V.ref R) (V.int j) (sv wb) H3 fun H4=>U5 [some (.ref a),some (.ref R),some pv,some (.int j),some (.int kd),some (.int cell)] H4:=by
  intro H3 wb jl s3 bw;refine⟨R,_,j,j,rfl,rfl,s3 _ _ yR,by rw[zaj];unfold Mw;simp;lia,?_⟩;have es:(ws.map sv).set j (sv wb)=(ws.take j++wb::ws.drop (j+1)).map sv:=by
   rw[<- List.map_set,List.set_eq_take_append_cons_drop,if_pos jl]
  rw[es];exact fin _ R (ws.take j) (ws.drop (j+1)) wb yj aj ryj bw (by rw[zaB,zaQ];lia) okT (okD (j+1))
 have oth:j<ws.length->A2 [some (.ref a),some (.ref R),some pv,some (.int j),some (.int kd),some (.int cell)] H2:=by
  intro jl;refine(WQ _ _).mpr ?_;clear WO WQ;walk_at "rd";refine cu (fun _=>?_) (fun _=>?_)
  ·exact .mk cell rfl fun wb H3 s3 bw=>put H3 wb jl s3 bw
  ·have gj:(ws.map sv)[j]?=some (sv ws[j]):=by rw[zaE,zag jl];rfl
   refine bC (.of yR) (v:=sv ws[j]) (bf gj) ?_;obtain⟨f,hf⟩:=PM.EB rr ws[j] (zaK jl);exact .mk ws[j] f kd cell rfl ⟨hf,ok _ (zaK jl)⟩ fun wb H3 s3 bw=>put H3 wb jl s3 bw
 walk_at "rd";refine cu (fun _=>?_) (fun _=>?_)
 ·rw[if_pos trivial];exact ins
 ·refine⟨R,_,rfl,.inl (.of yR),?_⟩;rw[zaj];exact cu (fun _=>ins) (fun z=>oth (by lia))
end
end Wx
end
section
set_option maxHeartbeats 4000000
namespace Wx
open PySem L2
section
variable{P:zd1}{w:zdR}{K:zab}{mg:Str->Option zdQ}{base:Heap}
theorem all_mk{l:PySem.W.OpenLaw}{h:Heap}{fa:zdP}(X:K.In h)(G:h.Ns zdW mg)(hfa:mg "law"=some (.ref fa))
 {rh j8 gf jq iz jb nh gg eQ fD dM BC qy nT eR lF hV nU nV hX lG nW eS fz ju gn jc jw jd gp eF gq lH jy jz ib nX jB nY gu ic L5:zdP}
 {aR:zdP}
 {cO:zdP} {Cg t7:Option zdP} {Ci:Array (Option zdQ)} {Cj t8 t9 ua oz ud:zdQ}
 {bU:zdP} {zU rQ:Option zdP} {zV:Array (Option zdQ)} {zX rR rT rV mH rW:zdQ}
 {bW:zdP} {Ck ue:Option zdP} {Cn:Array (Option zdQ)} {Co uf ug uh oA ui:zdQ}
 {bt:zdP}
 {dB:zdP} {Dr vm:Option zdP} {Ds:Array (Option zdQ)} {Dt vn vo vp qb vq:zdQ}
 {cz:zdP} {we oB:Option zdP} {wg:Array (Option zdQ)} {wj oC oE oF iZ oG:zdQ}
 {bQ:zdP} {uj lK:Option zdP} {uk:Array (Option zdQ)} {um lL lN lO gG lP:zdQ}
 {cA:zdP} {wm oH:Option zdP} {wo:Array (Option zdQ)} {wq oI oJ oK i3 oM:zdQ}
 {aP:zdP}
 {az:zdP}
 {aD:zdP}
 {aA:zdP}
 {aB:zdP}
 {ar:zdP}
 {aN:zdP}
 {aV:zdP}
 {aO:zdP}
 {aW:zdP}
 {bN:zdP}
 {cB:zdP}
 {bO:zdP}
 {bB:zdP}
 {Nv:_}
 {Nw:_}
 {gw:zdP} {Ih:Option zdP} {Ii:Array (Option zdQ)} {Kw:Nat} {xy:Array zdQ}
 {Cp:_}
 {Cq:_}
 {FT:_}
 {zY:_}
 {Ij:_}
 {FU:_}
 {Ik:_}
 {FV:_}
 {Il:_}
 {dC:zdP} {uo:Array DictEntry} {Cr:Nat}
 (Tw:FH K "is_of" Fi rh)
 (Ny:FH K "is_name" yk j8)
 (Im:FH K "is_number" tD gf)
 (FW:FH K "expression" qX jq)
 (Kx:FH K "names_in" vR iz)
 (Io:FH K "pieces_of" tE jb)
 (Nz:FH K "kind_of" ym nh)
 (Ky:FH K "sum_from" vS gg)
 (Cs:FH K "product_from" nG eQ)
 (Du:FH K "factor_from" pI fD)
 (Ct:FH K "bracket_from" nI dM)
 (WX:FH K "read" Kb BC)
 (NA:FH K "form_of" yq qy)
 (Kz:FH K "box_form" vT nT)
 (yQ:FH K "condition_form" j6 eR)
 (Ip:FH K "name_from" tF lF)
 (Dv:FH K "number_from" pJ hV)
 (KA:FH K "take_row" vU nU)
 (KC:FH K "take_box" vV nV)
 (Dw:FH K "is_measured" pK hX)
 (Iq:FH K "take_else" tG lG)
 (KD:FH K "take_end" vW nW)
 (yS:FH K "take_statement" j7 eS)
 (zZ:FH K "names_of_form" lX fz)
 (FX:FH K "bodies_for" qY ju)
 (Cu:FH K "_law_cell_at" nJ gn)
 (Ir:FH K "_law_stir" tH jc)
 (FY:FH K "_law_names" cK jw)
 (Iu:FH K "_law_leaf" tI jd)
 (Iv:FH K "_law_tree" tJ gp)
 (Dx:FH K "_law_worded" pL eF)
 (Cv:FH K "_law_deepest" nK gq)
 (Iw:FH K "_law_expr" tK lH)
 (FZ:FH K "_law_boxes" qZ jy)
 (F0:FH K "_law_plain" q0 jz)
 (Dy:FH K "_law_opener" pM ib)
 (KG:FH K "_law_row" vX nX)
 (F1:FH K "_law_built" rf jB)
 (KI:FH K "_law_bad" bA nY)
 (Cw:FH K "_law_refused" nM gu)
 (Dz:FH K "_law_spoilt" pN ic)
 (UI:FH K "law" QZ L5)
 (Rn:zav K zdW "Pieces"=some (some (.ref aR)))
 (NB:zbW K aR Str.empty=true)
 (NC:zaZ K aR=true)
 (ND:zcd K aR=true)
 (NF:zao K (.ref aR) "__setattr__"=some (some (.builtin "object.__setattr__")))
 (DA:zao K (.ref aR) "__init__"=some (some (.ref cO)))
 (DB:K.lookup cO=some ⟨Cj,Cg,.func (zaV "__init__" "Pieces.__init__" (dh c5) (aZ c5) (aE c5) .none t8 t9 ua t7 oz ud),Ci⟩)
 (DC:zbo K oz "Pieces.__init__"=true)
 (DE:za5 K (.ref cO)=true)
 (DF:zbH K (.ref cO)=true)
 (yv:zcw K aR=true)
 (NG:za5 K (.ref aR)=true)
 (Cy:zao K (.ref aR) "ahead"=some (some (.ref bU)))
 (Cz:K.lookup bU=some ⟨zX,zU,.func (zaV "ahead" "Pieces.ahead" (dh cS) (aZ cS) (aE cS) .none rR rT rV rQ mH rW),zV⟩)
 (CA:zbo K mH "Pieces.ahead"=true)
 (uq:za5 K (.ref bU)=true)
 (CB:zbH K (.ref bU)=true)
 (DG:zao K (.ref aR) "take"=some (some (.ref bW)))
 (DH:K.lookup bW=some ⟨Co,Ck,.func (zaV "take" "Pieces.take" (dh c6) (aZ c6) (aE c6) .none uf ug uh ue oA ui),Cn⟩)
 (DI:zbo K oA "Pieces.take"=true)
 (vt:za5 K (.ref bW)=true)
 (DJ:zbH K (.ref bW)=true)
 (eW:zao K (.ref aR) "pieces"=some none)
 (dX:zao K (.ref aR) "place"=some none)
 (Tz:zav K zdW "Draft"=some (some (.ref bt)))
 (Ro:zbW K bt Str.empty=true)
 (Rp:zaZ K bt=true)
 (Rq:zcd K bt=true)
 (Rr:zao K (.ref bt) "__setattr__"=some (some (.builtin "object.__setattr__")))
 (F2:zao K (.ref bt) "__init__"=some (some (.ref dB)))
 (F3:K.lookup dB=some ⟨Dt,Dr,.func (zaV "__init__" "Draft.__init__" (dh dA) (aZ dA) (aE dA) .none vn vo vp vm qb vq),Ds⟩)
 (F4:zbo K qb "Draft.__init__"=true)
 (F5:za5 K (.ref dB)=true)
 (F6:zbH K (.ref dB)=true)
 (BD:zcw K bt=true)
 (Rt:za5 K (.ref bt)=true)
 (xA:zao K (.ref bt) "innermost"=some (some (.ref cz)))
 (xB:K.lookup cz=some ⟨wj,we,.func (zaV "innermost" "Draft.innermost" (dh cw) (aZ cw) (aE cw) .none oC oE oF oB iZ oG),wg⟩)
 (xC:zbo K iZ "Draft.innermost"=true)
 (pD:za5 K (.ref cz)=true)
 (xD:zbH K (.ref cz)=true)
 (uQ:zao K (.ref bt) "second_body"=some (some (.ref bQ)))
 (uR:K.lookup bQ=some ⟨um,uj,.func (zaV "second_body" "Draft.second_body" (dh bP) (aZ bP) (aE bP) .none lL lN lO lK gG lP),uk⟩)
 (uT:zbo K gG "Draft.second_body"=true)
 (mO:za5 K (.ref bQ)=true)
 (uU:zbH K (.ref bQ)=true)
 (xE:zao K (.ref bt) "box_names"=some (some (.ref cA)))
 (xF:K.lookup cA=some ⟨wq,wm,.func (zaV "box_names" "Draft.box_names" (dh cy) (aZ cy) (aE cy) .none oI oJ oK oH i3 oM),wo⟩)
 (xG:zbo K i3 "Draft.box_names"=true)
 (pE:za5 K (.ref cA)=true)
 (xH:zbH K (.ref cA)=true)
 (dO:zao K (.ref bt) "boxes"=some none)
 (fJ:zao K (.ref bt) "body"=some none)
 (bM:zao K (.ref bt) "nest"=some none)
 (KJ:zav K zdW "RowError"=some (some (.ref aP)))
 (NH:zav K zdW "TooLong"=some (some (.ref az)))
 (yw:zbt K az [.type "ValueError",.type "Exception",.type "BaseException",.type "object"] "ValueError.__new__"=true)
 (BE:zat K (.ref az) (.ref az)=some true)
 (TB:zav K zdW "NoRow"=some (some (.ref aD)))
 (fY:zbt K aD [.type "ValueError",.type "Exception",.type "BaseException",.type "object"] "ValueError.__new__"=true)
 (HH:zat K (.ref aD) (.ref aD)=some true)
 (NI:zav K zdW "NoPlace"=some (some (.ref aA)))
 (qz:zbt K aA [.type "ValueError",.type "Exception",.type "BaseException",.type "object"] "ValueError.__new__"=true)
 (BG:zat K (.ref aA) (.ref aA)=some true)
 (NJ:zav K zdW "TooDeep"=some (some (.ref aB)))
 (yy:zbt K aB [.type "ValueError",.type "Exception",.type "BaseException",.type "object"] "ValueError.__new__"=true)
 (BH:zat K (.ref aB) (.ref aB)=some true)
 (Iy:zav K zdW "NoMeasure"=some (some (.ref ar)))
 (tU:zbt K ar [.type "ValueError",.type "Exception",.type "BaseException",.type "object"] "ValueError.__new__"=true)
 (xp:zat K (.ref ar) (.ref ar)=some true)
 (TC:zav K zdW "Twice"=some (some (.ref aN)))
 (Fl:zbt K aN [.type "ValueError",.type "Exception",.type "BaseException",.type "object"] "ValueError.__new__"=true)
 (HI:zat K (.ref aN) (.ref aN)=some true)
 (WY:zav K zdW "Full"=some (some (.ref aV)))
 (Kc:zbt K aV [.type "ValueError",.type "Exception",.type "BaseException",.type "object"] "ValueError.__new__"=true)
 (L7:zat K (.ref aV) (.ref aV)=some true)
 (TF:zav K zdW "NoBox"=some (some (.ref aO)))
 (Fn:zbt K aO [.type "ValueError",.type "Exception",.type "BaseException",.type "object"] "ValueError.__new__"=true)
 (HK:zat K (.ref aO) (.ref aO)=some true)
 (WZ:zav K zdW "Open"=some (some (.ref aW)))
 (Kd:zbt K aW [.type "ValueError",.type "Exception",.type "BaseException",.type "object"] "ValueError.__new__"=true)
 (L9:zat K (.ref aW) (.ref aW)=some true)
 (NK:zav K zdW "TooMany"=some (some (.ref bN)))
 (Ru:zav K zdW "NoForm"=some (some (.ref cB)))
 (NL:zav K zdW "NoneYet"=some (some (.ref bO)))
 (KL:zav K zdW "NoTarget"=some (some (.ref bB)))
 (BK:zat K (.ref aD) (.ref aP)=some true)
 (NM:zaZ K aD=true)
 (NN:zao K (.ref aD) "__getattribute__"=some (some (.builtin "BaseException.__getattribute__")))
 (NO:zao K (.ref aD) "__getattr__"=some none)
 (NP:zao K (.ref aD) "__class__"=some (some (.builtin "object.__class__")))
 (NQ:zaX K aD (.type "object")=some true)
 (NR:zaX K aD (.type "BaseException")=some true)
 (BL:zaa K (.ref aD) (.type "ValueError")=some true)
 (px:zaa K (.ref aD) (.ref aP)=some true)
 (kh:zaa K (.ref aD) (.ref az)=some false)
 (n8:zaa K (.ref aD) (.ref aD)=some true)
 (ki:zaa K (.ref aD) (.ref aA)=some false)
 (kj:zaa K (.ref aD) (.ref aB)=some false)
 (iC:zaa K (.ref aD) (.ref ar)=some false)
 (n9:zaa K (.ref aD) (.ref aN)=some false)
 (pP:zaa K (.ref aD) (.ref aV)=some false)
 (oa:zaa K (.ref aD) (.ref aO)=some false)
 (pQ:zaa K (.ref aD) (.ref aW)=some false)
 (km:zaa K (.ref aD) (.ref bN)=some false)
 (lY:zaa K (.ref aD) (.ref cB)=some false)
 (kn:zaa K (.ref aD) (.ref bO)=some false)
 (jH:zaa K (.ref aD) (.ref bB)=some false)
 (vY:zat K (.ref aA) (.ref aP)=some true)
 (Iz:zaZ K aA=true)
 (IA:zao K (.ref aA) "__getattribute__"=some (some (.builtin "BaseException.__getattribute__")))
 (IB:zao K (.ref aA) "__getattr__"=some none)
 (IC:zao K (.ref aA) "__class__"=some (some (.builtin "object.__class__")))
 (ID:zaX K aA (.type "object")=some true)
 (IE:zaX K aA (.type "BaseException")=some true)
 (vZ:zaa K (.ref aA) (.type "ValueError")=some true)
 (mK:zaa K (.ref aA) (.ref aP)=some true)
 (iD:zaa K (.ref aA) (.ref az)=some false)
 (ko:zaa K (.ref aA) (.ref aD)=some false)
 (iE:zaa K (.ref aA) (.ref aA)=some true)
 (iF:zaa K (.ref aA) (.ref aB)=some false)
 (gx:zaa K (.ref aA) (.ref ar)=some false)
 (kq:zaa K (.ref aA) (.ref aN)=some false)
 (lZ:zaa K (.ref aA) (.ref aV)=some false)
 (kr:zaa K (.ref aA) (.ref aO)=some false)
 (ma:zaa K (.ref aA) (.ref aW)=some false)
 (iG:zaa K (.ref aA) (.ref bN)=some false)
 (jI:zaa K (.ref aA) (.ref cB)=some false)
 (iH:zaa K (.ref aA) (.ref bO)=some false)
 (gY:zaa K (.ref aA) (.ref bB)=some false)
 (v5:zat K (.ref az) (.ref aP)=some true)
 (IF:zaZ K az=true)
 (IG:zao K (.ref az) "__getattribute__"=some (some (.builtin "BaseException.__getattribute__")))
 (IH:zao K (.ref az) "__getattr__"=some none)
 (II:zao K (.ref az) "__class__"=some (some (.builtin "object.__class__")))
 (IJ:zaX K az (.type "object")=some true)
 (IK:zaX K az (.type "BaseException")=some true)
 (v7:zaa K (.ref az) (.type "ValueError")=some true)
 (mL:zaa K (.ref az) (.ref aP)=some true)
 (iI:zaa K (.ref az) (.ref az)=some true)
 (ku:zaa K (.ref az) (.ref aD)=some false)
 (iJ:zaa K (.ref az) (.ref aA)=some false)
 (iK:zaa K (.ref az) (.ref aB)=some false)
 (gy:zaa K (.ref az) (.ref ar)=some false)
 (kx:zaa K (.ref az) (.ref aN)=some false)
 (mf:zaa K (.ref az) (.ref aV)=some false)
 (ky:zaa K (.ref az) (.ref aO)=some false)
 (mh:zaa K (.ref az) (.ref aW)=some false)
 (iL:zaa K (.ref az) (.ref bN)=some false)
 (jJ:zaa K (.ref az) (.ref cB)=some false)
 (iM:zaa K (.ref az) (.ref bO)=some false)
 (gZ:zaa K (.ref az) (.ref bB)=some false)
 (v8:zat K (.ref aB) (.ref aP)=some true)
 (IL:zaZ K aB=true)
 (IM:zao K (.ref aB) "__getattribute__"=some (some (.builtin "BaseException.__getattribute__")))
 (IP:zao K (.ref aB) "__getattr__"=some none)
 (IQ:zao K (.ref aB) "__class__"=some (some (.builtin "object.__class__")))
 (IS:zaX K aB (.type "object")=some true)
 (IT:zaX K aB (.type "BaseException")=some true)
 (v9:zaa K (.ref aB) (.type "ValueError")=some true)
 (mM:zaa K (.ref aB) (.ref aP)=some true)
 (iN:zaa K (.ref aB) (.ref az)=some false)
 (kz:zaa K (.ref aB) (.ref aD)=some false)
 (iO:zaa K (.ref aB) (.ref aA)=some false)
 (iP:zaa K (.ref aB) (.ref aB)=some true)
 (gz:zaa K (.ref aB) (.ref ar)=some false)
 (kA:zaa K (.ref aB) (.ref aN)=some false)
 (mi:zaa K (.ref aB) (.ref aV)=some false)
 (kB:zaa K (.ref aB) (.ref aO)=some false)
 (mj:zaa K (.ref aB) (.ref aW)=some false)
 (iQ:zaa K (.ref aB) (.ref bN)=some false)
 (jK:zaa K (.ref aB) (.ref cB)=some false)
 (iR:zaa K (.ref aB) (.ref bO)=some false)
 (g6:zaa K (.ref aB) (.ref bB)=some false)
 (rm:zat K (.ref ar) (.ref aP)=some true)
 (DK:zaZ K ar=true)
 (DL:zao K (.ref ar) "__getattribute__"=some (some (.builtin "BaseException.__getattribute__")))
 (DM:zao K (.ref ar) "__getattr__"=some none)
 (DN:zao K (.ref ar) "__class__"=some (some (.builtin "object.__class__")))
 (DO:zaX K ar (.type "object")=some true)
 (DP:zaX K ar (.type "BaseException")=some true)
 (rn:zaa K (.ref ar) (.type "ValueError")=some true)
 (jX:zaa K (.ref ar) (.ref aP)=some true)
 (gA:zaa K (.ref ar) (.ref az)=some false)
 (iS:zaa K (.ref ar) (.ref aD)=some false)
 (gB:zaa K (.ref ar) (.ref aA)=some false)
 (gC:zaa K (.ref ar) (.ref aB)=some false)
 (e9:zaa K (.ref ar) (.ref ar)=some true)
 (iU:zaa K (.ref ar) (.ref aN)=some false)
 (jL:zaa K (.ref ar) (.ref aV)=some false)
 (iV:zaa K (.ref ar) (.ref aO)=some false)
 (jM:zaa K (.ref ar) (.ref aW)=some false)
 (gD:zaa K (.ref ar) (.ref bN)=some false)
 (g7:zaa K (.ref ar) (.ref cB)=some false)
 (gE:zaa K (.ref ar) (.ref bO)=some false)
 (fL:zaa K (.ref ar) (.ref bB)=some false)
 (BM:zat K (.ref aN) (.ref aP)=some true)
 (NS:zaZ K aN=true)
 (NT:zao K (.ref aN) "__getattribute__"=some (some (.builtin "BaseException.__getattribute__")))
 (NU:zao K (.ref aN) "__getattr__"=some none)
 (NV:zao K (.ref aN) "__class__"=some (some (.builtin "object.__class__")))
 (NW:zaX K aN (.type "object")=some true)
 (NX:zaX K aN (.type "BaseException")=some true)
 (BN:zaa K (.ref aN) (.type "ValueError")=some true)
 (pz:zaa K (.ref aN) (.ref aP)=some true)
 (kC:zaa K (.ref aN) (.ref az)=some false)
 (og:zaa K (.ref aN) (.ref aD)=some false)
 (kD:zaa K (.ref aN) (.ref aA)=some false)
 (kE:zaa K (.ref aN) (.ref aB)=some false)
 (iW:zaa K (.ref aN) (.ref ar)=some false)
 (oh:zaa K (.ref aN) (.ref aN)=some true)
 (pR:zaa K (.ref aN) (.ref aV)=some false)
 (oj:zaa K (.ref aN) (.ref aO)=some false)
 (pS:zaa K (.ref aN) (.ref aW)=some false)
 (kF:zaa K (.ref aN) (.ref bN)=some false)
 (ml:zaa K (.ref aN) (.ref cB)=some false)
 (kG:zaa K (.ref aN) (.ref bO)=some false)
 (jN:zaa K (.ref aN) (.ref bB)=some false)
 (Fp:zat K (.ref aW) (.ref aP)=some true)
 (Rv:zaZ K aW=true)
 (Rw:zao K (.ref aW) "__getattribute__"=some (some (.builtin "BaseException.__getattribute__")))
 (Rx:zao K (.ref aW) "__getattr__"=some none)
 (Ry:zao K (.ref aW) "__class__"=some (some (.builtin "object.__class__")))
 (Rz:zaX K aW (.type "object")=some true)
 (RA:zaX K aW (.type "BaseException")=some true)
 (Fq:zaa K (.ref aW) (.type "ValueError")=some true)
 (qA:zaa K (.ref aW) (.ref aP)=some true)
 (mn:zaa K (.ref aW) (.ref az)=some false)
 (pT:zaa K (.ref aW) (.ref aD)=some false)
 (mq:zaa K (.ref aW) (.ref aA)=some false)
 (mr:zaa K (.ref aW) (.ref aB)=some false)
 (jO:zaa K (.ref aW) (.ref ar)=some false)
 (pU:zaa K (.ref aW) (.ref aN)=some false)
 (rp:zaa K (.ref aW) (.ref aV)=some false)
 (pV:zaa K (.ref aW) (.ref aO)=some false)
 (rq:zaa K (.ref aW) (.ref aW)=some true)
 (mv:zaa K (.ref aW) (.ref bN)=some false)
 (om:zaa K (.ref aW) (.ref cB)=some false)
 (mw:zaa K (.ref aW) (.ref bO)=some false)
 (kH:zaa K (.ref aW) (.ref bB)=some false)
 (Fs:zat K (.ref aV) (.ref aP)=some true)
 (RB:zaZ K aV=true)
 (RC:zao K (.ref aV) "__getattribute__"=some (some (.builtin "BaseException.__getattribute__")))
 (RD:zao K (.ref aV) "__getattr__"=some none)
 (RE:zao K (.ref aV) "__class__"=some (some (.builtin "object.__class__")))
 (RG:zaX K aV (.type "object")=some true)
 (RH:zaX K aV (.type "BaseException")=some true)
 (Ft:zaa K (.ref aV) (.type "ValueError")=some true)
 (qB:zaa K (.ref aV) (.ref aP)=some true)
 (my:zaa K (.ref aV) (.ref az)=some false)
 (pW:zaa K (.ref aV) (.ref aD)=some false)
 (mz:zaa K (.ref aV) (.ref aA)=some false)
 (mB:zaa K (.ref aV) (.ref aB)=some false)
 (jP:zaa K (.ref aV) (.ref ar)=some false)
 (pX:zaa K (.ref aV) (.ref aN)=some false)
 (rA:zaa K (.ref aV) (.ref aV)=some true)
 (pY:zaa K (.ref aV) (.ref aO)=some false)
 (rB:zaa K (.ref aV) (.ref aW)=some false)
 (mC:zaa K (.ref aV) (.ref bN)=some false)
 (oo:zaa K (.ref aV) (.ref cB)=some false)
 (mD:zaa K (.ref aV) (.ref bO)=some false)
 (kI:zaa K (.ref aV) (.ref bB)=some false)
 (BO:zat K (.ref aO) (.ref aP)=some true)
 (NY:zaZ K aO=true)
 (NZ:zao K (.ref aO) "__getattribute__"=some (some (.builtin "BaseException.__getattribute__")))
 (N0:zao K (.ref aO) "__getattr__"=some none)
 (N1:zao K (.ref aO) "__class__"=some (some (.builtin "object.__class__")))
 (N2:zaX K aO (.type "object")=some true)
 (N3:zaX K aO (.type "BaseException")=some true)
 (BP:zaa K (.ref aO) (.type "ValueError")=some true)
 (pA:zaa K (.ref aO) (.ref aP)=some true)
 (kJ:zaa K (.ref aO) (.ref az)=some false)
 (oq:zaa K (.ref aO) (.ref aD)=some false)
 (kK:zaa K (.ref aO) (.ref aA)=some false)
 (kL:zaa K (.ref aO) (.ref aB)=some false)
 (iX:zaa K (.ref aO) (.ref ar)=some false)
 (ot:zaa K (.ref aO) (.ref aN)=some false)
 (pZ:zaa K (.ref aO) (.ref aV)=some false)
 (ou:zaa K (.ref aO) (.ref aO)=some true)
 (qa:zaa K (.ref aO) (.ref aW)=some false)
 (kM:zaa K (.ref aO) (.ref bN)=some false)
 (mE:zaa K (.ref aO) (.ref cB)=some false)
 (kN:zaa K (.ref aO) (.ref bO)=some false)
 (jQ:zaa K (.ref aO) (.ref bB)=some false)
 (N4:zav K zdW "LETTERS"=some (some (.str "abcdefghijklmnopqrstuvwxyz" Nv)))
 (N5:zav K zdW "FIGURES"=some (some (.str "0123456789" Nw)))
 (KN:zav K zdW "NO_NAMES"=some (some (.ref gw)))
 (KO:K.lookup gw=some ⟨.type "tuple",Ih,.seq xy Kw,Ii⟩)
 (rC:Vals [.str "box",.str "ask",.str "put",.str "say",.str "if",.str "else",.str "while",.str "must",.str "stop",.str "end"] xy.toList)
 (CG:zav K zdW "MOST_LETTERS"=some (some (.int 8 Cp)))
 (CI:zav K zdW "MOST_FIGURES"=some (some (.int 3 Cq)))
 (F7:zav K zdW "MOST_SIGNS"=some (some (.int 60 FT)))
 (z6:zav K zdW "MOST_BRACKETS"=some (some (.int 5 zY)))
 (IU:zav K zdW "MOST_ROWS"=some (some (.int 80 Ij)))
 (F8:zav K zdW "MOST_BOXES"=some (some (.int 4 FU)))
 (IV:zav K zdW "MOST_DEEP"=some (some (.int 5 Ik)))
 (F9:zav K zdW "LEAST_SIZE"=some (some (.int 2 FV)))
 (IW:zav K zdW "MOST_SIZE"=some (some (.int 10 Il)))
 (DQ:zav K zdW "WORD_COUNTS"=some (some (.ref dC)))
 (DR:K.lookup dC=some ⟨.type "dict",none,.dict uo Cr, #[]⟩)
 (CJ:(dC==sysModules)=false)
 (DT:Wj l.prog w [(.inr "box",.int 4),(.inr "ask",.int 2),(.inr "put",.int 3),(.inr "say",.int 2),(.inr "must",.int 4),(.inr "if",.int 4),(.inr "else",.int 1),(.inr "while",.int 4),(.inr "end",.int 1),(.inr "stop",.int 1)] uo.toList)
 (eY:zav K zdW "len"=some none)
 (rD:zav K zdW "range"=some none)
 (EC:zav K zdW "int"=some none)
 (HP:zav K zdW "str"=some none)
 (Kj:zav K zdW "list"=some none)
 (Fx:zav K zdW "tuple"=some none)
 (Q5:zav K zdW "all"=some none)
 (Q6:zav K zdW "max"=some none)
 (bR:zav K zdW "isinstance"=some none)
 (tV:zav K zdW "enumerate"=some none)
 (rE:zav K zdW "ValueError"=some none)
 : ∃fd:zdY,(∀(s:zdZ) (v:zdQ),BindsTo s fd ⟨[v],[]⟩ [("script",v)])/\∀base:Heap,K.In base->base.Ns zdW mg->bu l.prog w K mg base jh 66 fa fd ["script"] (Lo K):=by
 have e:=hfa.symm.trans (zaC X G UI.1);cases e;obtain⟨qx,mY⟩:=qc X G Tw (ps:=["word", "signs"]) fun _ _ _ _ _ _=>LD fun _ _=>rfl;obtain⟨j9,gQ⟩:=qc X G Ny (ps:=["word"]) fun _ _ _ _ _ _=>zL fun _=>rfl;obtain⟨gN,eA⟩:=qc X G Im (ps:=["word"]) fun _ _ _ _ _ _=>zL fun _=>rfl;obtain⟨kP,ck⟩:=qc X G FW (ps:=["word"]) fun _ _ _ _ _ _=>zL fun _=>rfl;obtain⟨ja,bL⟩:=qc X G Kx (ps:=["e"]) fun _ _ _ _ _ _=>zL fun _=>rfl;obtain⟨jr,je⟩:=qc X G Io (ps:=["word"]) fun _ _ _ _ _ _=>zL fun _=>rfl;obtain⟨nR,ni⟩:=qc X G Nz (ps:=["sign"]) fun _ _ _ _ _ _=>zL fun _=>rfl;obtain⟨gk,dq⟩:=qc X G Ky (ps:=["pieces", "depth"]) fun _ _ _ _ _ _=>LD fun _ _=>rfl;obtain⟨fq,cT⟩:=qc X G Cs (ps:=["pieces", "depth"]) fun _ _ _ _ _ _=>LD fun _ _=>rfl;obtain⟨gm,c7⟩:=qc X G Du (ps:=["pieces", "depth"]) fun _ _ _ _ _ _=>LD fun _ _=>rfl;obtain⟨dU,dN⟩:=qc X G Ct (ps:=["pieces", "depth"]) fun _ _ _ _ _ _=>LD fun _ _=>rfl;obtain⟨Ai,yt⟩:=qc X G WX (ps:=["text"]) fun _ _ _ _ _ _=>zL fun _=>rfl;obtain⟨rj,nj⟩:=qc X G NA (ps:=["row"]) fun _ _ _ _ _ _=>zL fun _=>rfl;obtain⟨o7,ka⟩:=qc X G Kz (ps:=["words"]) fun _ _ _ _ _ _=>zL fun _=>rfl;obtain⟨fU,dD⟩:=qc X G yQ (ps:=["words"]) fun _ _ _ _ _ _=>zL fun _=>rfl;obtain⟨mV,cW⟩:=qc X G Ip (ps:=["word"]) fun _ _ _ _ _ _=>zL fun _=>rfl;obtain⟨js,c8⟩:=qc X G Dv (ps:=["word"]) fun _ _ _ _ _ _=>zL fun _=>rfl;obtain⟨o8,kb⟩:=qc X G KA (ps:=["draft", "number", "form"]) fun _ _ _ _ _ _=>Uh fun _ _ _=>rfl;obtain⟨o9,kc⟩:=qc X G KC (ps:=["draft", "number", "box"]) fun _ _ _ _ _ _=>Uh fun _ _ _=>rfl;obtain⟨jt,fG⟩:=qc X G Dw (ps:=["size", "first"]) fun _ _ _ _ _ _=>LD fun _ _=>rfl;obtain⟨mW,jf⟩:=qc X G Iq (ps:=["draft", "number"]) fun _ _ _ _ _ _=>LD fun _ _=>rfl;obtain⟨pd,kf⟩:=qc X G KD (ps:=["draft", "number"]) fun _ _ _ _ _ _=>LD fun _ _=>rfl;obtain⟨fV,dE⟩:=qc X G yS (ps:=["draft", "number", "form"]) fun _ _ _ _ _ _=>Uh fun _ _ _=>rfl;obtain⟨gO,dW⟩:=qc X G zZ (ps:=["form"]) fun _ _ _ _ _ _=>zL fun _=>rfl;obtain⟨kQ,gR⟩:=qc X G FX (ps:=["word"]) fun _ _ _ _ _ _=>zL fun _=>rfl;obtain⟨ip,bF⟩:=qc X G Cu (ps:=["script", "k"]) fun _ _ _ _ _ _=>LD fun _ _=>rfl;obtain⟨jv,ax⟩:=qc X G Ir (ps:=["cell", "k"]) fun _ _ _ _ _ _=>LD fun _ _=>rfl;obtain⟨kR,gS⟩:=qc X G FY (ps:=["head", "k", "many"]) fun _ _ _ _ _ _=>Uh fun _ _ _=>rfl;obtain⟨jx,jg⟩:=qc X G Iu (ps:=["number", "names"]) fun _ _ _ _ _ _=>LD fun _ _=>rfl;obtain⟨gP,cX⟩:=qc X G Iv (ps:=["cell", "k", "deep", "names"]) fun _ _ _ _ _ _=>bn4 fun _ _ _ _=>rfl;obtain⟨eT,cE⟩:=qc X G Dx (ps:=["tree", "more"]) fun _ _ _ _ _ _=>LD fun _ _=>rfl;obtain⟨iq,eU⟩:=qc X G Cv (ps:=["word"]) fun _ _ _ _ _ _=>zL fun _=>rfl;obtain⟨mX,cD⟩:=qc X G Iw (ps:=["cell", "k", "names"]) fun _ _ _ _ _ _=>Uh fun _ _ _=>rfl;obtain⟨kS,gU⟩:=qc X G FZ (ps:=["head"]) fun _ _ _ _ _ _=>zL fun _=>rfl;obtain⟨kT,gV⟩:=qc X G F0 (ps:=["cell", "k", "names"]) fun _ _ _ _ _ _=>Uh fun _ _ _=>rfl;obtain⟨jA,fH⟩:=qc X G Dy (ps:=["cell", "k", "names"]) fun _ _ _ _ _ _=>Uh fun _ _ _=>rfl;obtain⟨pe,kg⟩:=qc X G KG (ps:=["cell", "k", "opened", "names"]) fun _ _ _ _ _ _=>bn4 fun _ _ _ _=>rfl;obtain⟨kU,gW⟩:=qc X G F1 (ps:=["script", "head"]) fun _ _ _ _ _ _=>LD fun _ _=>rfl;obtain⟨ph,e8⟩:=qc X G KI (ps:=["cell"]) fun _ _ _ _ _ _=>zL fun _=>rfl;obtain⟨iu,eV⟩:=qc X G Cw (ps:=["rows"]) fun _ _ _ _ _ _=>zL fun _=>rfl;obtain⟨jC,fI⟩:=qc X G Dz (ps:=["row", "kind", "cell"]) fun _ _ _ _ _ _=>Uh fun _ _ _=>rfl;obtain⟨yr,L6⟩:=qc X G UI (ps:=["script"]) fun _ _ _ _ _ _=>zL fun _=>rfl;have kW:=su (st:=c5) DB DC DE;have DU:=kW.binds (ps:=["self", "word"]) fun _ _ _ _ _ _=>LD fun _ _=>rfl;have jE:=su (st:=cS) Cz CA uq;have CK:=jE.binds (ps:=["self"]) fun _ _ _ _ _ _=>zL fun _=>rfl;have kX:=su (st:=c6) DH DI vt;have DV:=kX.binds (ps:=["self"]) fun _ _ _ _ _ _=>zL fun _=>rfl;have mZ:=su (st:=dA) F3 F4 F5;have Ga:=mZ.binds (ps:=["self"]) fun _ _ _ _ _ _=>zL fun _=>rfl;have fW:=su (st:=cw) xB xC pD;have xI:=fW.binds (ps:=["self"]) fun _ _ _ _ _ _=>zL fun _=>rfl;have eI:=su (st:=bP) uR uT mO;have uV:=eI.binds (ps:=["self"]) fun _ _ _ _ _ _=>zL fun _=>rfl;have fX:=su (st:=cy) xF xG pE;have xJ:=fX.binds (ps:=["self"]) fun _ _ _ _ _ _=>zL fun _=>rfl
 let t:Ad:=⟨rh,
  qx,
  j8,
  j9,
  gf,
  gN,
  jq,
  kP,
  iz,
  ja,
  jb,
  jr,
  nh,
  nR,
  gg,
  gk,
  eQ,
  fq,
  fD,
  gm,
  dM,
  dU,
  BC,
  Ai,
  qy,
  rj,
  nT,
  o7,
  eR,
  fU,
  lF,
  mV,
  hV,
  js,
  nU,
  o8,
  nV,
  o9,
  hX,
  jt,
  lG,
  mW,
  nW,
  pd,
  eS,
  fV,
  fz,
  gO,
  ju,
  kQ,
  gn,
  ip,
  jc,
  jv,
  jw,
  kR,
  jd,
  jx,
  gp,
  gP,
  eF,
  eT,
  gq,
  iq,
  lH,
  mX,
  jy,
  kS,
  jz,
  kT,
  ib,
  jA,
  nX,
  pe,
  jB,
  kU,
  nY,
  ph,
  gu,
  iu,
  ic,
  jC,
  fa,
  yr,
  cO,
  zaV "__init__" "Pieces.__init__" (dh c5) (aZ c5) (aE c5) .none t8 t9 ua t7 oz ud,
  bU,
  zaV "ahead" "Pieces.ahead" (dh cS) (aZ cS) (aE cS) .none rR rT rV rQ mH rW,
  bW,
  zaV "take" "Pieces.take" (dh c6) (aZ c6) (aE c6) .none uf ug uh ue oA ui,
  dB,
  zaV "__init__" "Draft.__init__" (dh dA) (aZ dA) (aE dA) .none vn vo vp vm qb vq,
  cz,
  zaV "innermost" "Draft.innermost" (dh cw) (aZ cw) (aE cw) .none oC oE oF oB iZ oG,
  bQ,
  zaV "second_body" "Draft.second_body" (dh bP) (aZ bP) (aE bP) .none lL lN lO lK gG lP,
  cA,
  zaV "box_names" "Draft.box_names" (dh cy) (aZ cy) (aE cy) .none oI oJ oK oH i3 oM,
  aR,
  bt,
  aP,
  az,
  aD,
  aA,
  aB,
  ar,
  aN,
  aV,
  aO,
  aW,
  bN,
  cB,
  bO,
  bB,
  gw,
  dC⟩
 have T:Tx K mg t:=⟨mY,
  gQ,
  eA,
  ck,
  bL,
  je,
  ni,
  dq,
  cT,
  c7,
  dN,
  yt,
  nj,
  ka,
  dD,
  cW,
  c8,
  kb,
  kc,
  fG,
  jf,
  kf,
  dE,
  dW,
  gR,
  bF,
  ax,
  gS,
  jg,
  cX,
  cE,
  eU,
  cD,
  gU,
  gV,
  fH,
  kg,
  gW,
  e8,
  eV,
  fI,
  L6,
  kW,
  DU,
  jE,
  CK,
  ⟨Cy,CB,uq⟩,
  kX,
  DV,
  ⟨DG,DJ,vt⟩,
  mZ,
  Ga,
  fW,
  xI,
  ⟨xA,xD,pD⟩,
  eI,
  uV,
  ⟨uQ,uU,mO⟩,
  fX,
  xJ,
  ⟨xE,xH,pE⟩,
  ⟨NB,NC,ND,NF⟩,
  zaC X G Rn,
  ⟨yv,DA,DF,NG⟩,
  eW,
  dX,
  ⟨Ro,Rp,Rq,Rr⟩,
  zaC X G Tz,
  ⟨BD,F2,F6,Rt⟩,
  dO,
  fJ,
  bM,
  zaC X G KJ,
  ⟨yw⟩,
  BE,
  zaC X G NH,
  ⟨fY⟩,
  HH,
  zaC X G TB,
  ⟨qz⟩,
  BG,
  zaC X G NI,
  ⟨yy⟩,
  BH,
  zaC X G NJ,
  ⟨tU⟩,
  xp,
  zaC X G Iy,
  ⟨Fl⟩,
  HI,
  zaC X G TC,
  ⟨Kc⟩,
  L7,
  zaC X G WY,
  ⟨Fn⟩,
  HK,
  zaC X G TF,
  ⟨Kd⟩,
  L9,
  zaC X G WZ,
  zaC X G NK,
  zaC X G Ru,
  zaC X G NL,
  zaC X G KL,
  BK,
  ⟨NM,NN,NO,NP,NQ,NR⟩,
  BL,
  px,
  kh,
  n8,
  ki,
  kj,
  iC,
  n9,
  pP,
  oa,
  pQ,
  km,
  lY,
  kn,
  jH,
  vY,
  ⟨Iz,IA,IB,IC,ID,IE⟩,
  vZ,
  mK,
  iD,
  ko,
  iE,
  iF,
  gx,
  kq,
  lZ,
  kr,
  ma,
  iG,
  jI,
  iH,
  gY,
  v5,
  ⟨IF,IG,IH,II,IJ,IK⟩,
  v7,
  mL,
  iI,
  ku,
  iJ,
  iK,
  gy,
  kx,
  mf,
  ky,
  mh,
  iL,
  jJ,
  iM,
  gZ,
  v8,
  ⟨IL,IM,IP,IQ,IS,IT⟩,
  v9,
  mM,
  iN,
  kz,
  iO,
  iP,
  gz,
  kA,
  mi,
  kB,
  mj,
  iQ,
  jK,
  iR,
  g6,
  rm,
  ⟨DK,DL,DM,DN,DO,DP⟩,
  rn,
  jX,
  gA,
  iS,
  gB,
  gC,
  e9,
  iU,
  jL,
  iV,
  jM,
  gD,
  g7,
  gE,
  fL,
  BM,
  ⟨NS,NT,NU,NV,NW,NX⟩,
  BN,
  pz,
  kC,
  og,
  kD,
  kE,
  iW,
  oh,
  pR,
  oj,
  pS,
  kF,
  ml,
  kG,
  jN,
  Fp,
  ⟨Rv,Rw,Rx,Ry,Rz,RA⟩,
  Fq,
  qA,
  mn,
  pT,
  mq,
  mr,
  jO,
  pU,
  rp,
  pV,
  rq,
  mv,
  om,
  mw,
  kH,
  Fs,
  ⟨RB,RC,RD,RE,RG,RH⟩,
  Ft,
  qB,
  my,
  pW,
  mz,
  mB,
  jP,
  pX,
  rA,
  pY,
  rB,
  mC,
  oo,
  mD,
  kI,
  BO,
  ⟨NY,NZ,N0,N1,N2,N3⟩,
  BP,
  pA,
  kJ,
  oq,
  kK,
  kL,
  iX,
  ot,
  pZ,
  ou,
  qa,
  kM,
  mE,
  kN,
  jQ,
  ⟨_,zaC X G N4,_,rfl⟩,
  ⟨_,zaC X G N5,_,rfl⟩,
  zaC X G KN,
  fun _=>.inr ⟨_,_,_,KO,rfl,rfl,by have:=rC.length;simp only[zaf,zba,zbX] at this;rw[<- this];decide,rC⟩,
  ⟨_,zaC X G CG,_,rfl⟩,
  ⟨_,zaC X G CI,_,rfl⟩,
  ⟨_,zaC X G F7,_,rfl⟩,
  ⟨_,zaC X G z6,_,rfl⟩,
  ⟨_,zaC X G IU,_,rfl⟩,
  ⟨_,zaC X G F8,_,rfl⟩,
  ⟨_,zaC X G IV,_,rfl⟩,
  ⟨_,zaC X G F9,_,rfl⟩,
  ⟨_,zaC X G IW,_,rfl⟩,
  zaC X G DQ,
  za7 X G eY,
  za7 X G rD,
  za7 X G EC,
  za7 X G HP,
  za7 X G Kj,
  za7 X G Fx,
  za7 X G Q5,
  za7 X G Q6,
  za7 X G bR,
  za7 X G tV,
  za7 X G rE⟩
 have CDD:Cd l.prog w K t:=⟨Xj.mk DR CJ DT (by show List.Nodup ([.inr "box",.inr "ask",.inr "put",.inr "say",.inr "must",.inr "if",.inr "else",.inr "while",.inr "end",.inr "stop"]:List Key);decide +kernel) (by show 10<=zdX;decide)⟩
 obtain⟨_,_,_,_,_,_,_,_,_,z,_⟩:=L6.F.ex;exact⟨t.yr,fun s v=>by rw[show t.yr=_ from z];exact .of_eq rfl,fun base _ _=>WW T CDD⟩
theorem walk{l:PySem.W.OpenLaw}{q:zd1}{loose:List Str}{XP:(Str->Option zdQ)->Heap->Prop}{YP:zdR->Heap->Prop}{d:DefRec}{K:Params->zab}(hn:l.most=some 63)(X5:d.params.defaults=[])
 (hY:∀(w:zdR) (h:Heap),YP w h->(K w.params).In h)
 (F:∀(w:zdR) (mg:Str->Option zdQ) (fa:zdP) (h:Heap),(K w.params).In h->h.Ns zdW mg->mg d.name=some (.ref fa)->
  ∃fd:zdY,(∀(s:zdZ) (u:zdQ),BindsTo s fd ⟨[u],[]⟩ [("script",u)])/\∀base:Heap,(K w.params).In base->base.Ns zdW mg->bu l.prog w (K w.params) mg base jh 66 fa fd ["script"] (Lo (K w.params))) :
 PySem.W.WalkO q loose XP YP l.row.toRowW d [] (fun f vs=>PySem.call f vs):=
 L2.Se (n:=63) (k:=66) (x:="script") (CX:=fun _=>jh) (sp:=fun w=>Lo (K w.params)) hn (by decide) X5 ⟨rfl,by decide,by decide⟩ hY F (fun _ _ a ns hl _ hS=>⟨a,ns,rfl,hS,hl,fun _=>rfl⟩) fun _ _ _ _ _ z=>z
end
end Wx
end
namespace PySem.W.Fast
theorem tw13713652778995078634:True:=trivial
theorem tw3511652718204171411:True:=trivial
theorem tw188128149163157979:True:=trivial
theorem tw4862073768052624366:True:=trivial
theorem tw6711049513773947569:True:=trivial
theorem tw8557023278041965779:True:=trivial
theorem tw4152356903680852902:True:=trivial
theorem tw12000992084055790329:True:=trivial
theorem tw17043858778570128175:True:=trivial
theorem tw4784583751788797211:True:=trivial
theorem tw15715714819895671207:True:=trivial
theorem tw589612667348467678:True:=trivial
theorem tw5228051764140448669:True:=trivial
theorem tw1399233471191585952:True:=trivial
theorem tw2784313942676574671:True:=trivial
theorem tw2574365865212198196:True:=trivial
theorem tw5537720865926746065:True:=trivial
theorem tw13556814400131529519:True:=trivial
theorem tw2268251065216350627:True:=trivial
theorem tw15850034209483527570:True:=trivial
theorem tw2416168073596868571:True:=trivial
theorem tw10172739210001207225:True:=trivial
theorem tw11409814764180185416:True:=trivial
theorem tw81724160019489361:True:=trivial
theorem tw1376339270048694249:True:=trivial
theorem tw12292517530358635687:True:=trivial
theorem tw7594507274294378431:True:=trivial
theorem tw18202649174321774124:True:=trivial
theorem tw5419362183744992501:True:=trivial
theorem tw3847971826727123010:True:=trivial
theorem tw10123252319622313184:True:=trivial
theorem tw4021296553588038284:True:=trivial
theorem tw7641675439998566725:True:=trivial
theorem tw10076264449162172332:True:=trivial
theorem tw4804768367678713776:True:=trivial
theorem tw12906176736930246092:True:=trivial
theorem tw9337416666182695132:True:=trivial
theorem tw14138007216504490373:True:=trivial
theorem tw3663872355726615895:True:=trivial
theorem tw12749040488661578748:True:=trivial
theorem tw8998296611132552681:True:=trivial
theorem tw8155563504924485638:True:=trivial
theorem tw16791030473900710343:True:=trivial
theorem tw477110498047929951:True:=trivial
theorem tw9660933460787079650:True:=trivial
theorem tw11701756398680382876:True:=trivial
theorem tw7894313961260217969:True:=trivial
theorem tw17538230848714567578:True:=trivial
theorem tw13563595282585525151:True:=trivial
theorem tw17939916404440829652:True:=trivial
theorem tw10906225627856100115:True:=trivial
theorem tw7518030917072160318:True:=trivial
theorem tw17799445088759821835:True:=trivial
theorem tw8331939336535232933:True:=trivial
theorem tw5177549111756265710:True:=trivial
theorem tw3957185539876636910:True:=trivial
theorem tw5165396273137926857:True:=trivial
theorem tw826723339248892667:True:=trivial
theorem tw523294528214358137:True:=trivial
theorem tw10272448687057141290:True:=trivial
theorem tw15659897967267876971:True:=trivial
theorem tw3397806365831253391:True:=trivial
theorem tw2418261323067876619:True:=trivial
theorem tw7879430500333239085:True:=trivial
theorem tw10681502117142979767:True:=trivial
theorem tw135252605909783485:True:=trivial
theorem tw11589774108835435811:True:=trivial
theorem tw13280510930335581868:True:=trivial
theorem tw17532950155891138288:True:=trivial
theorem tw17858058406964847456:True:=trivial
theorem tw3062208336856970624:True:=trivial
theorem tw16701808695578195213:True:=trivial
theorem tw10811437419732739611:True:=trivial
theorem tw3115464554227940963:True:=trivial
theorem tw6120982702945015850:True:=trivial
theorem tw12242938338553955242:True:=trivial
theorem tw9052319761120088475:True:=trivial
theorem tw15749863013392671327:True:=trivial
theorem tw12330809585927642444:True:=trivial
theorem tw1565285745909617736:True:=trivial
theorem tw11332709437158893744:True:=trivial
theorem tw2053178522665097297:True:=trivial
theorem tw6635324563659245190:True:=trivial
theorem tw10892477083703808508:True:=trivial
theorem tw2253795824334620145:True:=trivial
theorem tw1132613217088293527:True:=trivial
theorem tw2073959142560546781:True:=trivial
theorem tw8571879695230008485:True:=trivial
theorem tw7713212027708370908:True:=trivial
theorem tw4467577603703729654:True:=trivial
theorem tw13983022916776179959:True:=trivial
theorem tw9800438917405902708:True:=trivial
theorem tw13469617124031682381:True:=trivial
theorem tw11800433192513508044:True:=trivial
theorem tw13052964019809172383:True:=trivial
theorem tw6134605224980526863:True:=trivial
theorem tw5967959004598652693:True:=trivial
theorem tw8584784934990191594:True:=trivial
theorem tw6147705549835002918:True:=trivial
theorem tw12988334130573772583:True:=trivial
theorem tw1596745039510547543:True:=trivial
theorem tw14722835313784856817:True:=trivial
theorem tw6316778132242742800:True:=trivial
theorem tw10526504744638416935:True:=trivial
theorem tw111682031265787408:True:=trivial
theorem tw9155115040652867308:True:=trivial
theorem tw9925557317422013108:True:=trivial
theorem tw820102977112495147:True:=trivial
theorem tw9215974627955792016:True:=trivial
theorem tw3752284075887645875:True:=trivial
theorem tw2054156384069200623:True:=trivial
theorem tw5819598321313886081:True:=trivial
theorem tw2170175272438360927:True:=trivial
theorem tw5800055444882467855:True:=trivial
theorem tw2675881933757245945:True:=trivial
theorem tw14766237650436053852:True:=trivial
theorem tw12228852760898921805:True:=trivial
theorem tw17972513470852978338:True:=trivial
theorem tw3861507543775089147:True:=trivial
theorem tw2294640466451606027:True:=trivial
theorem tw17015459005873256951:True:=trivial
theorem tw9268678595967362270:True:=trivial
theorem tw14133248548378852327:True:=trivial
theorem tw1188661506299809328:True:=trivial
theorem tw6017018118898697580:True:=trivial
theorem tw7099554363433190886:True:=trivial
theorem tw8328458963907421299:True:=trivial
theorem tw3510980082010863085:True:=trivial
theorem tw371658630163627651:True:=trivial
theorem tw15404145882764960896:True:=trivial
theorem tw14344873269269763664:True:=trivial
theorem tw5837047133776919288:True:=trivial
theorem tw3978194572910560490:True:=trivial
theorem tw12635742031419541439:True:=trivial
theorem tw2519700192315126402:True:=trivial
theorem tw15043254449927760242:True:=trivial
theorem tw12893298028278095096:True:=trivial
theorem tw10272057426216337419:True:=trivial
theorem tw5630954725176222447:True:=trivial
theorem tw2422188121608606373:True:=trivial
theorem tw739026784899809418:True:=trivial
theorem tw625683347153086:True:=trivial
theorem tw12246460783217205953:True:=trivial
theorem tw17526116608403523710:True:=trivial
theorem tw3216447201401392438:True:=trivial
theorem tw12935477411465548436:True:=trivial
theorem tw12630389418653393224:True:=trivial
theorem tw6625852559813206001:True:=trivial
theorem tw5199309520258146521:True:=trivial
theorem tw2691140177998600411:True:=trivial
theorem tw12593603984263604849:True:=trivial
theorem tw15284866415693029840:True:=trivial
theorem tw17261989187590493814:True:=trivial
theorem tw8901312119772275279:True:=trivial
theorem tw6269251966298088448:True:=trivial
theorem tw7643623046899466086:True:=trivial
theorem tw1963820248610658329:True:=trivial
theorem tw7112785527480876181:True:=trivial
theorem tw919761140984069589:True:=trivial
theorem tw6213834842793733167:True:=trivial
theorem tw7590498877202658637:True:=trivial
theorem tw8031916540994134207:True:=trivial
theorem tw6441450161476637853:True:=trivial
theorem tw12946703292436515964:True:=trivial
theorem tw1445624671852644547:True:=trivial
theorem tw2599480495393096420:True:=trivial
theorem tw13293523291037646848:True:=trivial
theorem tw11333994559351029499:True:=trivial
theorem tw2896134686393849248:True:=trivial
theorem tw10656742165177070508:True:=trivial
theorem tw17421041454498547030:True:=trivial
theorem tw5763746626217086791:True:=trivial
theorem tw15679334579177004533:True:=trivial
theorem tw4011253834475617833:True:=trivial
theorem tw5915018721803151783:True:=trivial
theorem tw17760306066364963715:True:=trivial
theorem tw12690360093633575814:True:=trivial
theorem tw11865133111424228688:True:=trivial
theorem tw17955086017847746320:True:=trivial
theorem tw10181127973608650121:True:=trivial
theorem tw5196694266381352793:True:=trivial
theorem tw14309470691791903335:True:=trivial
theorem tw1297151547114341444:True:=trivial
theorem tw4257488998262027166:True:=trivial
theorem tw7938135526367595777:True:=trivial
theorem tw1416160322296986846:True:=trivial
theorem tw14473117403255088833:True:=trivial
theorem tw1060081845177929065:True:=trivial
theorem tw2672191245993094390:True:=trivial
theorem tw9832855220586141958:True:=trivial
theorem tw6660039529278195497:True:=trivial
theorem tw5665368430292038400:True:=trivial
theorem tw16187083902929886102:True:=trivial
theorem tw1509168381310711332:True:=trivial
theorem tw10877550612662881296:True:=trivial
theorem tw4122624715454415157:True:=trivial
theorem tw13384835073166855134:True:=trivial
theorem tw2166217684187396656:True:=trivial
theorem tw9610930677358359250:True:=trivial
theorem tw12024542913161437795:True:=trivial
theorem tw16602970908810277090:True:=trivial
theorem tw13894118080429509427:True:=trivial
theorem tw2535333817984947287:True:=trivial
theorem tw10778244133111337886:True:=trivial
theorem tw3366779005595091706:True:=trivial
theorem tw7079396481939166954:True:=trivial
theorem tw9859480361583621198:True:=trivial
theorem tw561501608442103790:True:=trivial
theorem tw14922737172706304935:True:=trivial
theorem tw17050779667409862653:True:=trivial
theorem tw479859031841590208:True:=trivial
theorem tw9019284718282176032:True:=trivial
theorem tw1463100349570726318:True:=trivial
theorem tw511771010459420358:True:=trivial
theorem tw7797954806959265300:True:=trivial
theorem tw12233482277640783027:True:=trivial
theorem tw9039233602675324497:True:=trivial
theorem tw14645006666343195076:True:=trivial
theorem tw17747341832158313386:True:=trivial
theorem tw3186513500675521984:True:=trivial
end PySem.W.Fast
end
open PySem PySem.W PyProof.Rows
set_option maxRecDepth 100000 in
set_option maxHeartbeats 0 in
theorem PySem.Challenge.cw_everyrow_k07_rows_of_no_form_holds : PySem.Challenge.rw_everyrow_k07_rows_of_no_form.Holds := by
 w_on; o_law; k_head; (case hw=>w_witness2)
 k_fill
 refine Wx.walk (l:=PySem.Challenge.rw_everyrow_k07_rows_of_no_form) rfl rfl (fun w h Y=>PySem.W.kIn_of Y) ?F
 case F=>
   intro w mg fa h KX G X6
   refine' Wx.all_mk KX G X6 ?_ ?_ ?_ ?_ ?_ ?_ ?_ ?_ ?_ ?_ ?_ ?_ ?_ ?_ ?_ ?_ ?_ ?_ ?_ ?_ ?_ ?_ ?_ ?_ ?_ ?_ ?_ ?_ ?_ ?_ ?_ ?_ ?_ ?_ ?_ ?_ ?_ ?_ ?_ ?_ ?_ ?_ ?_ ?_ ?_ ?_ ?_ ?_ ?_ ?_ ?_ ?_ ?_ ?_ ?_ ?_ ?_ ?_ ?_ ?_ ?_ ?_ ?_ ?_ ?_ ?_ ?_ ?_ ?_ ?_ ?_ ?_ ?_ ?_ ?_ ?_ ?_ ?_ ?_ ?_ ?_ ?_ ?_ ?_ ?_ ?_ ?_ ?_ ?_ ?_ ?_ ?_ ?_ ?_ ?_ ?_ ?_ ?_ ?_ ?_ ?_ ?_ ?_ ?_ ?_ ?_ ?_ ?_ ?_ ?_ ?_ ?_ ?_ ?_ ?_ ?_ ?_ ?_ ?_ ?_ ?_ ?_ ?_ ?_ ?_ ?_ ?_ ?_ ?_ ?_ ?_ ?_ ?_ ?_ ?_ ?_ ?_ ?_ ?_ ?_ ?_ ?_ ?_ ?_ ?_ ?_ ?_ ?_ ?_ ?_ ?_ ?_ ?_ ?_ ?_ ?_ ?_ ?_ ?_ ?_ ?_ ?_ ?_ ?_ ?_ ?_ ?_ ?_ ?_ ?_ ?_ ?_ ?_ ?_ ?_ ?_ ?_ ?_ ?_ ?_ ?_ ?_ ?_ ?_ ?_ ?_ ?_ ?_ ?_ ?_ ?_ ?_ ?_ ?_ ?_ ?_ ?_ ?_ ?_ ?_ ?_ ?_ ?_ ?_ ?_ ?_ ?_ ?_ ?_ ?_ ?_ ?_ ?_ ?_ ?_ ?_ ?_ ?_ ?_ ?_ ?_ ?_ ?_ ?_ ?_ ?_ ?_ ?_ ?_ ?_ ?_ ?_ ?_ ?_ ?_ ?_ ?_ ?_ ?_ ?_ ?_ ?_ ?_ ?_ ?_ ?_ ?_ ?_ ?_ ?_ ?_ ?_ ?_ ?_ ?_ ?_ ?_ ?_ ?_ ?_ ?_ ?_ ?_ ?_ ?_ ?_ ?_ ?_ ?_ ?_ ?_ ?_ ?_ ?_ ?_ ?_ ?_ ?_ ?_ ?_ ?_ ?_ ?_ ?_ ?_ ?_ ?_ ?_ ?_ ?_ ?_ ?_ ?_ ?_ ?_ ?_ ?_ ?_ ?_ ?_ ?_ ?_ ?_ ?_ ?_ ?_ ?_ ?_ ?_ ?_ ?_ ?_ ?_ ?_ ?_ ?_ ?_ ?_ ?_ ?_ ?_ ?_ ?_ ?_ ?_ ?_ ?_ ?_ ?_ ?_ ?_ ?_ ?_ ?_ ?_ ?_ ?_ ?_ ?_ ?_ ?_ ?_ ?_ ?_ ?_ ?_ ?_ ?_ ?_ ?_ ?_ ?_ ?_ ?_ ?_
   rotate_left 147
   iterate 42 (refine' L2.FH.of ?a ?l ?c ?k; (case a=>k_is); (case l=>k_is); (case c=>k_is); (case k=>k_is))
   iterate 56 (k_is)
   iterate 1 (k_exc)
   iterate 1 (kts_exm)
   iterate 1 (k_is)
   iterate 1 (k_exc)
   iterate 1 (kts_exm)
   iterate 1 (k_is)
   iterate 1 (k_exc)
   iterate 1 (kts_exm)
   iterate 1 (k_is)
   iterate 1 (k_exc)
   iterate 1 (kts_exm)
   iterate 1 (k_is)
   iterate 1 (k_exc)
   iterate 1 (kts_exm)
   iterate 1 (k_is)
   iterate 1 (k_exc)
   iterate 1 (kts_exm)
   iterate 1 (k_is)
   iterate 1 (k_exc)
   iterate 1 (kts_exm)
   iterate 1 (k_is)
   iterate 1 (k_exc)
   iterate 1 (kts_exm)
   iterate 1 (k_is)
   iterate 1 (k_exc)
   iterate 1 (kts_exm)
   iterate 4 (k_is)
   iterate 1 (kts_exm)
   iterate 6 (k_is)
   iterate 15 (kit_is)
   iterate 1 (kts_exm)
   iterate 6 (k_is)
   iterate 15 (kit_is)
   iterate 1 (kts_exm)
   iterate 6 (k_is)
   iterate 15 (kit_is)
   iterate 1 (kts_exm)
   iterate 6 (k_is)
   iterate 15 (kit_is)
   iterate 1 (kts_exm)
   iterate 6 (k_is)
   iterate 15 (kit_is)
   iterate 1 (kts_exm)
   iterate 6 (k_is)
   iterate 15 (kit_is)
   iterate 1 (kts_exm)
   iterate 6 (k_is)
   iterate 15 (kit_is)
   iterate 1 (kts_exm)
   iterate 6 (k_is)
   iterate 15 (kit_is)
   iterate 1 (kts_exm)
   iterate 6 (k_is)
   iterate 15 (kit_is)
   iterate 4 (k_is)
   iterate 1 (exact .cons ⟨_,rfl⟩ (.cons ⟨_,rfl⟩ (.cons ⟨_,rfl⟩ (.cons ⟨_,rfl⟩ (.cons ⟨_,rfl⟩ (.cons ⟨_,rfl⟩ (.cons ⟨_,rfl⟩ (.cons ⟨_,rfl⟩ (.cons ⟨_,rfl⟩ (.cons ⟨_,rfl⟩ (.nil)))))))))))
   iterate 11 (k_is)
   iterate 1 (rfl)
   iterate 1 (exact .cons (by rfl) ⟨_,rfl⟩ ⟨_,rfl⟩ (.cons (by rfl) ⟨_,rfl⟩ ⟨_,rfl⟩ (.cons (by rfl) ⟨_,rfl⟩ ⟨_,rfl⟩ (.cons (by rfl) ⟨_,rfl⟩ ⟨_,rfl⟩ (.cons (by rfl) ⟨_,rfl⟩ ⟨_,rfl⟩ (.cons (by rfl) ⟨_,rfl⟩ ⟨_,rfl⟩ (.cons (by rfl) ⟨_,rfl⟩ ⟨_,rfl⟩ (.cons (by rfl) ⟨_,rfl⟩ ⟨_,rfl⟩ (.cons (by rfl) ⟨_,rfl⟩ ⟨_,rfl⟩ (.cons (by rfl) ⟨_,rfl⟩ ⟨_,rfl⟩ (.nil)))))))))))
   iterate 11 (k_is)
