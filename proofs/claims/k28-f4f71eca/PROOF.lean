import PyProof.Rows.All
import Wide.All
import OpenK.AllK
import Wide.FinOn
import Lean
import PyProof.EqAt
import PyProof.EqKinds
import PyProof.TupleCall
import PyProof.AttrMiss
import PyProof.IsiH_list
import PyProof.ZipIter
import PyProof.P3In
import PySem.Challenge.RW_everyrow_k28_whole_shortest_inputs
set_option compiler.extract_closed false
set_option Elab.async false
set_option linter.all false
set_option maxRecDepth 100000
open PySem.W renaming Frag->zaa,nsIn->zaN,mg_none_of->zaR,findIn->zaS,kia_one->zbb,emptyDict->zbf,instObj->zbr,fnOf->zbs,keepIn->zbv,mg_of->zbE,kla_obj->zbR,envX->zb2,codeIn->zb7,hasDictIn->zcd,tabIn->zci,plainGet->zcl,exmOne->zcw,callWith_K->zcz,methodObj->zcA,plainOver->zcB,takerIn->zcT,makesIn->zcU,cellsFrom_some->zcY,lookIn->zc5,kitOne->zc6,kla_fn->zc7,tabObj->zc8,excIn->zdc,pyHash_slot->zdg
open PySem.Str renaming ofString->zab
open List renaming getElem?_eq_getElem->zac,length_map->zad,length_append->zae,mem_cons->zag,length_cons->zah,getElem?_eq_some_iff->zak,map_cons->zal,getElem?_map->zam,getD_eq_getElem?_getD->zap,mem_cons_self->zaq,mem_singleton->zar,size_toArray->zas,mem_cons_of_mem->zat,getElem_mem->zau,append_nil->zav,map_append->zaw,length_singleton->zax,mem_append->zaz,length_nil->zaA,nodup_cons->zaE,mem_map->zaF,flatMap_cons->zaG,range->zaH,mem_of_getElem?->zaI,cons_append->zaJ,nil_append->zaK,mem_append_right->zaL,take_succ_eq_append_getElem->zaQ,set->zaT,take_length->zaU,length_eq_zero_iff->zaV,lookup_cons->zaX,not_mem_nil->zaY,append_assoc->za2,map_nil->za3,filter_append->za4,length->za6,mem_flatMap->za7,flatMap_append->za9,forIn_cons->zba,zipWith->zbd,pairwise_map->zbe,length_pos_iff->zbg,length_reverse->zbh,map_map->zbj,flatMap_nil->zbk,lookup->zbl,reverse_cons->zbm,length_range->zbt,getElem_map->zbu,take_of_length_le->zbw,range_succ->zbz,getElem?_eq_none->zbA,take_append_drop->zbB,getElem?_append_right->zbC,take_add_one->zbG,drop_eq_getElem_cons->zbH,pairwise_append->zbI,pairwise_iff_getElem->zbJ,mem_of_mem_take->zbK,forIn_nil->zbL,length_drop->zbN,find?_cons->zbQ,nodup_append->zbS,mem_append_left->zbT,length_take->zbU,ext_getElem->zbV,mem_iff_getElem->zbW,any_cons->zbX,getElem?_append_left->zbY,getLast?_eq_getElem?->zbZ,mem_range->zb5,nodup_nil->zb6,getElem?_cons_succ->zb8,getElem?_set_self->zce,length_eq_one_iff->zcg,getElem?_set_ne->zcp,dropLast_concat->zcr,filterMap_cons->zcs,replicate->zct,filter_cons->zcG,mem_nil_iff->zcH,getElem_append_left->zcI,isEmpty_iff->zcK,getElem?_replicate->zcM,getLast?_singleton->zcN,of_mem_zip->zcP,length_set->zcQ,head?_drop->zcR,drop_eq_nil_of_le->zcV,zipWith_cons_cons->zcW,length_replicate->zcZ,drop_zero->zc0,length_filter_le->zc1,drop_drop->zc2,take_zero->zc4,drop_eq_nil_iff->zc9,getLast?_append->zda,take_succ_cons->zdd,cons->zdi
open Nat renaming le_refl->zaf,lt_of_lt_of_le->zaB,le_trans->zaC,ne_of_lt->zaD,lt_irrefl->zaW,zero_le->za0,pow_le_pow_right->za5,zero_add->zbx,le_succ_of_le->zbF,ne_of_gt->zbM,lt_of_le_of_lt->zbP,one_le_two_pow->zb0,lt_succ_of_lt->zcc,le_of_lt->zco,min_eq_left->zcq,eq_zero_or_pos->zcx,lt_succ_self->zcC,pow_succ->zcF,mul_le_mul->zc3,mul_le_mul_left->zde
open Bool renaming false_ne_true->zai,false_eq_true->zay,and_eq_true->zbc,not_true->zbD,eq_iff_iff->zbO,and_true->zdb
open PySem.F renaming plainAttrs_list->zaj,slot_list_append->zan,type_list_append->zao,args_tuple_add_2->zb1,slot_list_extend->zb3,type_list_extend->zb4,entry_tuple_add->zb9,plainAttrs_dict->zca,slot_tuple_add->zch,slot_list_pop->zcm,type_list_pop->zcn,slot_dict_setdefault->zcv,slot_dict_update->zcL,slot_dict_items->zcO
open Int renaming emod_lt_of_pos->zaM,emod_nonneg->zaP,toNat_natCast->za1,zero_add->zcJ,toNat_of_nonneg->zdf
open Option renaming some->zaO,map_some->zbn,toList_some->zby,isSome_map->zcb,map_eq_some_iff->zcf,getD_none->zcj,getD_some->zck,none_or->zcu,isSome_iff_exists->zcD,none->zdj
open Array renaming getElem?_toList->zaZ,length_toList->za8,getElem?_eq_getElem->zbi,forIn_toList->zcy,replicate->zcS,getElem?_eq_none->zcX,toList->zdh
open PyProof.Rows renaming callWith_type1->zbo,slot_tuple_getitem->zbp
open Or renaming inl->zbq,inr->zcE
open PySem renaming Addr->zdk,Value->zdl,World->zdm,wpAny_bind->zdn,wpAny_pure->zdo,wpAny_holding->zdp,starEach->zdq,mainGlobals->zdr,sizeLine->zds,FuncData->zdt,Shared->zdu,Around->zdv,Program->zdw
abbrev zzn:=@if_neg
abbrev zzp:=@if_pos
abbrev zzb:=@absurd
noncomputable section
namespace L2
open PySem PySem.Spec PyProof.Rows
abbrev Key:=Sum Int Str
def sO:Key->zdl->Bool
 |.inl k,v=>Value.isInt k v
 |.inr x,v=>Value.isStrOf x v
def Ni (w:zdm):Key->Int
 |.inl k=>hashInt k
 |.inr x=>hashStr w x
theorem dg:∀ {k:Key} {v:zdl},sO k v=true->(∃i t,k=Sum.inl i/\v=Value.int i t)\/(∃x t,k=Sum.inr x/\v=Value.str x t)
 |.inl i,v,h=>by
  obtain⟨t,e⟩:=Value.isInt_shape (k:=i) (v:=v) h;exact .inl ⟨i,t,rfl,e⟩
 |.inr x,v,h=>by
  obtain⟨t,e⟩:=Value.isStrOf_shape (x:=x) (v:=v) h;exact .inr ⟨x,t,rfl,e⟩
theorem zt(i:Int)(t:Tok):sO (.inl i) (.int i t)=true:=by simp[sO,Value.isInt]
theorem zu(x:Str)(t:Tok):sO (.inr x) (.str x t)=true:=by simp[sO,Value.isStrOf]
theorem wZ(a b:Int):decide ((Sum.inl a:Key)=Sum.inl b)=(a==b):=by
 by_cases e:a=b
 ·subst e;simp
 ·have h:¬(Sum.inl a:Key)=Sum.inl b:=fun q=>e (Sum.inl.inj q);rw[decide_eq_false h];exact(beq_eq_false_iff_ne.mpr e).symm
theorem Jp(a b:Str):decide ((Sum.inr a:Key)=Sum.inr b)=decide (a=b):=by
 by_cases e:a=b
 ·subst e;simp
 ·have h:¬(Sum.inr a:Key)=Sum.inr b:=fun q=>e (Sum.inr.inj q);rw[decide_eq_false h,decide_eq_false e]
theorem DK(a:Int)(b:Str):decide ((Sum.inl a:Key)=Sum.inr b)=false:=decide_eq_false (fun q=>nomatch q)
theorem DL(a:Str)(b:Int):decide ((Sum.inr a:Key)=Sum.inl b)=false:=decide_eq_false (fun q=>nomatch q)
def bT (prog:zdw) (w:zdm):PySem.KeyKind prog w Key where
 is:=sO
 hash:=Ni w
 inj:=fun v a b ha hb=>by
  rcases dg ha with ⟨i,t,rfl,rfl⟩ |⟨x,t,rfl,rfl⟩
  ·rcases dg hb with ⟨j,u,rfl,e⟩ |⟨y,u,rfl,e⟩
   ·injection e with e1 _;rw[e1]
   ·exact nomatch e
  ·rcases dg hb with ⟨j,u,rfl,e⟩ |⟨y,u,rfl,e⟩
   ·exact nomatch e
   ·injection e with e1 _;rw[e1]
 byValue:=fun k v h=>by
  rcases dg h with ⟨i,t,rfl,rfl⟩ |⟨x,t,rfl,rfl⟩<;>rfl
 pyHash:=fun hv h=>by
  rcases dg hv with ⟨i,t,rfl,rfl⟩ |⟨x,t,rfl,rfl⟩
  ·exact wpAny_pyHash_int h
  ·exact wpAny_pyHash_str h
 eqBool:=fun hu hv h=>by
  rcases dg hu with ⟨i,t,rfl,rfl⟩ |⟨x,t,rfl,rfl⟩
  ·rcases dg hv with ⟨j,u,rfl,rfl⟩ |⟨y,u,rfl,rfl⟩
   ·rw[wZ] at h;exact wpAny_eqBool_int h
   ·rw[DK] at h;exact SeqAt.EqAt.int_str i t y u _ _ _ _ h
  ·rcases dg hv with ⟨j,u,rfl,rfl⟩ |⟨y,u,rfl,rfl⟩
   ·rw[DL] at h;exact SeqAt.EqAt.str_int x t j u _ _ _ _ h
   ·rw[Jp] at h;exact wpAny_eqBool_str h
 «strs»:=fun k x t v h=>by
  rcases dg h with ⟨i,u,rfl,e⟩ |⟨y,u,rfl,e⟩
  ·exact nomatch e
  ·injection e with e1 _
   subst e1;cases v<;>rfl
theorem BV(prog:zdw)(w:zdm)(i:Int)(t:Tok):(bT prog w).is (.inl i) (.int i t)=true:=zt i t
theorem BW(prog:zdw)(w:zdm)(x:Str)(t:Tok):(bT prog w).is (.inr x) (.str x t)=true:=zu x t
inductive V where
 |cC |bl (b:Bool) |int (i:Int) |str (x:Str) |FA (b:Array UInt8) |QN (b:UInt64) |ref (a:zdk) |ty (n:String)
 deriving DecidableEq
def RelV:V->zdl->Prop
 |.cC,u=>u=Value.none
 |.bl b,u=>u=Value.bool b
 |.int i,u=>∃t,u=Value.int i t
 |.str x,u=>∃t,u=Value.str x t
 |.FA b,u=>∃t,u=Value.bytes b t
 |.QN b,u=>∃t,u=Value.float b t
 |.ref a,u=>u=Value.ref a
 |.ty n,u=>u=Value.type n
abbrev Vals:List V->List zdl->Prop:=Paired RelV
theorem Vals.length{xs:List V}{us:List zdl}(r:Vals xs us):xs.length=us.length:=Paired.length r
theorem Vals.get:∀ {xs:List V} {us:List zdl} {i:Nat} {x:V},Vals xs us->xs[i]?=some x->∃u,us[i]?=some u/\RelV x u
 |_,_,_,_,.nil,e=>by simp at e
 |_,_,0,_,.cons r _,e=>by simp at e;subst e;exact⟨_,rfl,r⟩
 |_,_,i+1,x,.cons _ t,e=>by
  obtain⟨u,h1,h2⟩:=Vals.get (i:=i) (x:=x) t (by simpa using e);exact⟨u,by simpa using h1,h2⟩
theorem Vals.set{x:V}{u:zdl}(r:RelV x u):∀ {xs:List V} {us:List zdl} (i:Nat),Vals xs us->Vals (xs.set i x) (us.set i u)
 |_,_,_,.nil=>.nil
 |_,_,0,.cons _ t=>.cons r t
 |_,_,i+1,.cons q t=>.cons q (Vals.set r i t)
theorem Vals.append:∀ {xs ys:List V} {us ws:List zdl},Vals xs us->Vals ys ws->Vals (xs++ys) (us++ws)
 |_,_,_,_,.nil,s=>s
 |_,_,_,_,.cons r t,s=>.cons r (Vals.append t s)
theorem Vals.take:∀ {xs:List V} {us:List zdl} (n:Nat),Vals xs us->Vals (xs.take n) (us.take n)
 |_,_,0,_=>.nil
 |_,_,_+1,.nil=>.nil
 |_,_,n+1,.cons r t=>.cons r (Vals.take n t)
theorem Vals.drop:∀ {xs:List V} {us:List zdl} (n:Nat),Vals xs us->Vals (xs.drop n) (us.drop n)
 |_,_,0,r=>r
 |_,_,_+1,.nil=>.nil
 |_,_,n+1,.cons _ t=>Vals.drop n t
def rA:Option V->Option zdl->Prop
 |some v,some u=>RelV v u
 |none,none=>True
 |_,_=>False
def KV {κ:Type}:List (κ×V)->List (κ×zdl)->Prop:=Paired fun (p:κ×V) (q:κ×zdl)=>p.1=q.1/\RelV p.2 q.2
def kV:Key->V
 |.inl i=>.int i
 |.inr x=>.str x
inductive HO where
 |lst (xs:List V)
 |tup (xs:List V)
 |dK (ax:List (Key×V)) |dT (ax:List (List Key×V))
 |set (S:Int->Bool) (n:Nat)
 |ins (C dx:zdk) (fs:List (Str×V))
 |own (x:zdk)
 |xd (fs:List (Str×V))
 |met (f x:zdk)
 |Ya (lo hi:Int)
 |FC (o:Obj) (u:HO)
 |rE (ps:Array zdl)
 |ext (φ:Heap->Prop)
abbrev Hp:=zdk->Option HO
def upd (H:Hp) (a:zdk) (o:HO):Hp:=fun b=>if b=a then some o else H b
theorem ae{H:Hp}{a:zdk}{o:HO}:upd H a o a=some o:=by unfold upd;rw[zzp rfl]
theorem aw{H:Hp}{a b:zdk}{o:HO}(h:b≠a):upd H a o b=H b:=by unfold upd;rw[zzn h]
theorem Nj{H:Hp}{a:zdk}{o u:HO}:upd (upd H a o) a u=upd H a u:=by
 funext b;unfold upd;split<;>rfl
theorem bU{H:Hp}{a b:zdk}{o u:HO}(h:H a=some o)(h':H b=some u)(d:o≠u):a≠b:=by
 intro e;subst e;rw[h] at h';exact d (zaO.inj h')
theorem ai{H:Hp}{a b:zdk}{o:HO}(h:H a=some o)(h':H b=none):a≠b:=by
 intro e;subst e;rw[h] at h';cases h'
section
variable(P:zdw)(w:zdm)
def dh (H:Hp) (h:Heap) (a:zdk):HO->Prop
 |.lst xs=>xs.length<=zds/\∃(bC:List zdl) (n:Nat),Vals xs bC/\h.get? a=some {cls:=.type "list",data:=.seq bC.toArray n}
 |.tup xs=>xs.length<=zds/\∃bC:List zdl,Vals xs bC/\IsTup h a bC.toArray
 |.dK ax=>ax.length<=zds/\(a==sysModules)=false/\∃vs,KV ax vs/\h.DictOf (bT P w) a vs
 |.dT ax=>ax.length<=zds/\(a==sysModules)=false/\∃xs:List (List Key×zdk×zdl),
  Paired (fun (p:List Key×V) (q:List Key×zdk×zdl)=>p.1=q.1/\H q.2.1=some (.tup (p.1.map kV))/\RelV p.2 q.2.2) ax xs/\
  ∃o es ep,h.get? a=some o/\o.ExactDict/\o.data=.dict es ep/\es.toList=xs.map (entryOfKey (tupleKind (bT P w)))/\(xs.map (·.1)).Nodup
 |.set S n=>h.SetOf (intKind P w) a S n
 |.ins C dx fs=>H dx=some (.own a)/\fs.length<=1000/\dx≠a/\h.get? a=some (zbr C dx)/\
  ∃mA,h.Ns1 dx mA/\(∀f,rA (fs.lookup f) (mA f))/\PySem.Within mA (fs.map (·.1))
 |.own _=>∃o,h.get? a=some o
 |.xd fs=>∃mA,h.Ns1 a mA/\∀f,rA (fs.lookup f) (mA f)
 |.Ya lo hi=>∃t u v,h.get? a=some {cls:=.type "range",data:=.fields #[.int lo t,.int hi u,.int 1 v]}
 |.FC o u=>h.get? a=some o/\dh H h a u
 |.rE ps=>h.get? a=some {cls:=.none,data:=.fields ps}
 |.met f x=>h.get? a=some (zcA (.ref f) (.ref x))
 |.ext φ=>φ h/\(∃o,h.get? a=some o)/\∀h1 h2:Heap,φ h1->(∀o,h1.get? a=some o->h2.get? a=some o)->φ h2
def oA (H:Hp) (h:Heap):Prop:=∀a o,H a=some o->dh P w H h a o
end
section
variable{P:zdw}{w:zdm}{H H':Hp}{h h':Heap}{a:zdk}{o:HO}
theorem dh.lt(x:dh P w H h a o):a<h.objs.size:=by
 cases o with
 |lst xs=>obtain⟨_,_,_,_,e⟩:=x;exact Heap.lt_size e
 |tup xs=>obtain⟨_,_,_,p⟩:=x;exact p.lt
 |dK ax=>obtain⟨_,_,_,_,o,_,_,e,_⟩:=x;exact Heap.lt_size e
 |dT ax=>obtain⟨_,_,_,_,o,_,_,e,_⟩:=x;exact Heap.lt_size e
 |set S n=>obtain⟨o,_,_,_,e,_⟩:=x;exact Heap.lt_size e
 |ins C dx fs=>obtain⟨_,_,_,e,_⟩:=x;exact Heap.lt_size e
 |own y=>obtain⟨_,e⟩:=x;exact Heap.lt_size e
 |xd fs=>obtain⟨_,⟨_,_,_,e,_⟩,_⟩:=x;exact Heap.lt_size e
 |Ya lo hi=>obtain⟨_,_,_,e⟩:=x;exact Heap.lt_size e
 |FC ob u=>obtain⟨e,_⟩:=x;exact Heap.lt_size e
 |rE ps=>exact Heap.lt_size (show h.get? a=some _ from x)
 |met f y=>exact Heap.lt_size (show h.get? a=some _ from x)
 |ext φ=>obtain⟨_,⟨_,e⟩,_⟩:=x;exact Heap.lt_size e
theorem Paired.Au{α β:Type}{F G:α->β->Prop}:∀ {l₁:List α} {l₂:List β},Paired F l₁ l₂->(∀a b,F a b->G a b)->Paired G l₁ l₂
 |_,_,.nil,_=>.nil
 |_,_,.cons r t,f=>.cons (f _ _ r) (Paired.Au t f)
theorem dh.jJ(x:dh P w H h a o)(k:∀b u,(b=a\/H b=some (.own a))->h.get? b=some u->h'.get? b=some u)
 (ho:∀b,H b=some (.own a)->H' b=some (.own a)) (ht:∀b xs,H b=some (.tup xs)->H' b=some (.tup xs)):dh P w H' h' a o:=by
 induction o with
 |lst xs=>obtain⟨z,bC,n,r,e⟩:=x;exact⟨z,bC,n,r,k _ _ (.inl rfl) e⟩
 |tup xs=>obtain⟨z,bC,r,ob,e,c⟩:=x;exact⟨z,bC,r,ob,k _ _ (.inl rfl) e,c⟩
 |dK ax=>obtain⟨z,y,vs,r,ob,es,ep,e,c⟩:=x;exact⟨z,y,vs,r,ob,es,ep,k _ _ (.inl rfl) e,c⟩
 |dT ax=>
  obtain⟨z,y,xs,r,ob,es,ep,e,c⟩:=x;exact⟨z,y,xs,Paired.Au r fun p q z=>⟨z.1,ht _ _ z.2.1,z.2.2⟩,ob,es,ep,k _ _ (.inl rfl) e,c⟩
 |set S n=>obtain⟨ob,es,ep,t,e,c⟩:=x;exact⟨ob,es,ep,t,k _ _ (.inl rfl) e,c⟩
 |ins C dx fs=>
  obtain⟨d,z,ne,e,mA,⟨od,es,ep,e2,c⟩,r⟩:=x;exact⟨ho _ d,z,ne,k _ _ (.inl rfl) e,mA,⟨od,es,ep,k _ _ (.inr d) e2,c⟩,r⟩
 |own y=>obtain⟨ob,e⟩:=x;exact⟨ob,k _ _ (.inl rfl) e⟩
 |xd fs=>obtain⟨mA,⟨od,es,ep,e,c⟩,r⟩:=x;exact⟨mA,⟨od,es,ep,k _ _ (.inl rfl) e,c⟩,r⟩
 |Ya lo hi=>obtain⟨t,u,v,e⟩:=x;exact⟨t,u,v,k _ _ (.inl rfl) e⟩
 |FC ob u ih=>obtain⟨e,q⟩:=x;exact⟨k _ _ (.inl rfl) e,ih q⟩
 |rE ps=>
  have e:h.get? a=some {cls:=.none,data:=.fields ps}:=x;show h'.get? a=some {cls:=.none,data:=.fields ps};exact k a _ (.inl rfl) e
 |met f y=>
  have e:h.get? a=some (zcA (.ref f) (.ref y)):=x;show h'.get? a=some (zcA (.ref f) (.ref y));exact k a _ (.inl rfl) e
 |ext φ=>obtain⟨p,⟨o,e⟩,st⟩:=x;exact⟨st _ _ p fun o q=>k _ _ (.inl rfl) q,⟨o,k _ _ (.inl rfl) e⟩,st⟩
theorem oA.lt(x:oA P w H h)(e:H a=some o):a<h.objs.size:=(x a o e).lt
theorem oA.fresh(x:oA P w H h)(e:h.objs.size<=a):H a=none:=by
 cases q:H a with
 |none=>rfl
 |some u=>exact zzb (zaB (x.lt q) e) (zaW _)
theorem oA.kept(x:oA P w H h)(k:∀b u,h.get? b=some u->h'.get? b=some u):oA P w H h':=fun a o e=>
 (x a o e).jJ (fun b u _ q=>k b u q) (fun _ q=>q) fun _ _ q=>q
theorem oA.laid(x:oA P w H h)(k:∀b u,h.get? b=some u->h'.get? b=some u)(hp:h.objs.size<=a)(new:dh P w (upd H a o) h' a o):oA P w (upd H a o) h':=fun b u e=>by
 have hn:=x.fresh hp;by_cases hb:b=a
 ·subst hb;rw[ae] at e;cases e;exact new
 ·rw[aw hb] at e;exact(x b u e).jJ (fun c v _ q=>k c v q) (fun c q=>by rw[aw (ai q hn)];exact q) fun c xs q=>by rw[aw (ai q hn)];exact q
end
def Rd (H:Hp) (a:zdk) (u:HO):Prop:=H a=some u\/∃o,H a=some (.FC o u)
theorem Rd.ok{P:zdw}{w:zdm}{H:Hp}{h:Heap}{a:zdk}{u:HO}(r:Rd H a u)(x:oA P w H h):dh P w H h a u:=by
 rcases r with r |⟨o,r⟩
 ·exact x a u r
 ·obtain⟨_,q⟩:=x a _ r;exact q
def TV:Option HO->Prop
 |some (.lst _)=>True
 |some (.dK _)=>True
 |some (.dT _)=>True
 |some (.set _ _)=>True
 |some (.ins _ _ _)=>True
 |some (.ext _)=>True
 |_=>False
section
variable{P:zdw}{w:zdm}{H:Hp}{h h':Heap}{x e:zdk}{o':HO}
theorem oA.write(ok:oA P w H h)(mu:TV (H x))(he:e=x\/H e=some (.own x))(k:∀b u,b≠e->h.get? b=some u->h'.get? b=some u)(S9:∃u,h'.get? e=some u)
 (new:dh P w (upd H x o') h' x o'):oA P w (upd H x o') h':=fun b u q=>by
 have TX:∀c y,H c=some (.own y)->c≠x:=fun c y r z=>by subst z;rw[r] at mu;exact mu
 have Yb:∀c xs,H c=some (.tup xs)->c≠x:=fun c xs r z=>by subst z;rw[r] at mu;exact mu
 by_cases hb:b=x
 ·subst hb;rw[ae] at q;cases q;exact new
 ·rw[aw hb] at q;by_cases QO:b=e
  ·have q':H b=some (.own x):=by
    rcases he with z |z
    ·exact zzb (QO.trans z) hb
    ·rw[QO];exact z
   rw[q] at q';cases q';obtain⟨v,hv⟩:=S9;exact⟨v,by rw[QO];exact hv⟩
  ·refine(ok b u q).jJ (fun c v hc r=>k c v ?_ r) (fun c r=>by rw[aw (TX c b r)];exact r) fun c xs r=>by rw[aw (Yb c xs r)];exact r
   rcases hc with rfl |hc
   ·exact QO
   ·rintro rfl
    rcases he with z |z
    ·exact TX c b hc z
    ·rw[hc] at z;cases z;exact hb rfl
end
structure Un(fs ex:List zdk)(H H':Hp)(h h':Heap):Prop where
 keep:∀b o,h.get? b=some o->H b=none->b ∉ fs->b ∉ ex->h'.get? b=some o
 slot:∀b o,h.get? b=some o->H b=none->b∈fs->b ∉ ex->∃sl,h'.get? b=some {o with slots:=sl}
 free:∀b o,h.get? b=some o->H b=none->b ∉ ex->H' b=none
 there:∀b o,h.get? b=some o->b ∉ ex->∃o',h'.get? b=some o'
 w4:∀b xs,H b=some (.tup xs)->H' b=some (.tup xs)
 v9:∀b o u,H b=some (.FC o u)->H' b=some (.FC o u)
 wb:∀b ps,H b=some (.rE ps)->∃more,H' b=some (.rE (ps++more))
section
variable{fs TY ex ex':List zdk}{H H1 H2:Hp}{h h1 h2 h':Heap}{a x e:zdk}{o:HO}
theorem Un.any(u:Un fs ex H H1 h h1){b:zdk}{ob:Obj}(q:h.get? b=some ob)(n:H b=none)(hx:b ∉ ex):∃sl,h1.get? b=some {ob with slots:=sl}:=by
 by_cases hb:b∈fs
 ·exact u.slot b ob q n hb hx
 ·exact⟨ob.slots,u.keep b ob q n hb hx⟩
theorem Un.kept(k:∀b u,h.get? b=some u->h'.get? b=some u):Un fs ex H H h h':=
 ⟨fun b ob q _ _ _=>k b ob q,fun b ob q _ _ _=>⟨ob.slots,k b ob q⟩,fun _ _ _ n _=>n,fun b ob q _=>⟨ob,k b ob q⟩,fun _ _ q=>q,fun _ _ _ q=>q,fun _ ps q=>⟨#[],by rw[q];simp⟩⟩
theorem Un.refl:Un fs ex H H h h:=Un.kept fun _ _ q=>q
theorem Un.laid(k:∀b u,h.get? b=some u->h'.get? b=some u)(hp:h.objs.size<=a)(hn:H a=none):Un fs ex H (upd H a o) h h' where
 keep:=fun b u q _ _ _=>k b u q
 slot:=fun b u q _ _ _=>⟨u.slots,k b u q⟩
 free:=fun b u q n _=>by rw[aw (zaD (zaB (Heap.lt_size q) hp))];exact n
 there:=fun b u q _=>⟨u,k b u q⟩
 w4:=fun b xs q=>by rw[aw (ai q hn)];exact q
 v9:=fun b u xs q=>by rw[aw (ai q hn)];exact q
 wb:=fun b ps q=>⟨#[],by rw[aw (ai q hn),q];simp⟩
theorem Un.write(mu:TV (H x))(he:e=x\/H e=some (.own x))(k:∀b u,b≠e->h.get? b=some u->h'.get? b=some u)(S9:∃u,h'.get? e=some u):Un fs ex H (upd H x o) h h':=by
 have hx:∀b,H b=none->b≠x:=fun b n z=>by subst z;rw[n] at mu;exact mu
 have hb:∀b,H b=none->b≠e:=fun b n z=>by
  subst z;rcases he with r |r
  ·exact hx b n r
  ·rw[n] at r;cases r
 have hm:∀b u,H b=some u->¬TV (some u)->b≠x:=fun b u q nm z=>by subst z;rw[q] at mu;exact nm mu
 refine⟨fun b u q n _ _=>k b u (hb b n) q,fun b u q n _ _=>⟨u.slots,k b u (hb b n) q⟩,fun b u q n _=>by rw[aw (hx b n)];exact n,fun b u q _=>?_,
  fun b xs q=>by rw[aw (hm b _ q fun z=>z)];exact q,fun b u xs q=>by rw[aw (hm b _ q fun z=>z)];exact q,fun b ps q=>⟨#[],by rw[aw (hm b _ q fun z=>z),q];simp⟩⟩
 by_cases QO:b=e
 ·subst QO;exact S9
 ·exact⟨u,k b u QO q⟩
end
def WQ (h:Heap) (H:Hp):List zdk:=(zaH h.objs.size).filter fun a=>(H a).isSome
def Av (h:Heap) (H:Hp):Heap:=PySem.W.hideAll h (WQ h H)
theorem G9(h:Heap)(H:Hp):(Av h H).objs.size=h.objs.size:=PySem.W.hideAll_size _ _
theorem sP{h:Heap}{H:Hp}{b:zdk}{o:Obj}(e:h.get? b=some o)(n:H b=none):(Av h H).get? b=some o:=
 PySem.W.hideAll_get _ e fun hm=>by
  have q:(H b).isSome=true:=(List.mem_filter.mp hm).2;rw[n] at q;simp at q
theorem Nk{h:Heap}{H:Hp}{b:zdk}{o:Obj}(e:(Av h H).get? b=some o):h.get? b=some o/\H b=none:=by
 have e':h.get? b=some o:=PySem.W.of_hideAll (WQ h H) e;refine⟨e',?_⟩;cases q:H b with
 |none=>rfl
 |some x=>
  have hm:b∈WQ h H:=List.mem_filter.mpr ⟨zb5.mpr (Heap.lt_size e'),by simp[q]⟩;have z:(Av h H).get? b=none:=PySem.W.hideAll_none (WQ h H) hm;rw[z] at e;cases e
structure Mod(K:zaa)(mg:Str->Option zdl)(base:Heap):Prop where
 TZ:K.In base
 glob:base.Ns zdr mg
 blt:∃mb,base.Ns builtinsNs mb/\∀x:Str,x≠"__name__"->mb x=bootBuiltins x
 nolimit:base.NoLimit
structure Cx where
 prog:zdw
 w:zdm
 K:zaa
 mg:Str->Option zdl
 base:Heap
 A:zdv
 N:List Str
 s₀:zdu
 H₀:Hp
 env:Env
 outer:List Env
 stack:List Env
 ex:List zdk
 fn:Str->Bool
 calm:Bool
 pn:List (zdk×Obj)
 xe:zdl->zdu->Prop
def dq (l:List Env):List zdk:=l.filterMap (·.frame)
abbrev Cx.fs (X:Cx):List zdk:=dq X.outer
def T1 (sc:Scope) (x:Str):Prop:=sc.names.lookup x=some .local\/sc.names.lookup x=some .cell\/sc.names.lookup x=some .free
def Loc (sc:Scope) (x:Str):Prop:=sc.names.lookup x=some .local\/sc.names.lookup x=some .cell
def Look (env:Env) (h:Heap) (m:Str->Option zdl) (x:Str) (u:zdl):Prop:=
 (env.kindOf x=some .local/\m x=some u)\/((env.kindOf x=some .cell\/env.kindOf x=some .free)/\∃c,env.cells.lookup x=some c/\h.IsCell c (some u))
structure Cx.Ok(X:Cx):Prop where
 mod:Mod X.K X.mg X.base
 kind:X.env.scope.kind=.function
 glob:X.env.globals=zdr
 blt:X.env.builtins=builtinsNs
 above:X.s₀.heap.objs.size<=X.env.locals
 inj:∀x y c,X.env.cells.lookup x=some c->X.env.cells.lookup y=some c->x=y
 has:∀x,(X.env.kindOf x=some .cell\/X.env.kindOf x=some .free)->∃c,X.env.cells.lookup x=some c
 Nl:∀x c,X.fn x=true->X.env.cells.lookup x=some c->X.s₀.heap.objs.size<=c
 hd:X.calm=true->X.A.handled=none
 frames:X.A.frames=some X.stack
 WR:X.stack=X.outer\/(X.stack=X.env::X.outer/\X.env.frame=some X.env.locals)
 exf:∀b∈X.ex,b≠X.env.locals/\∀x c,X.env.cells.lookup x=some c->c≠b
 bs:∀b o,X.base.get? b=some o->X.s₀.heap.get? b=some o/\X.H₀ b=none
 BX:X.base.objs.size<=X.s₀.heap.objs.size
 Jq:∀b o,X.base.get? b=some o->b ∉ X.ex
 Nm:∀b∈X.ex,b ∉ X.fs
 qD:X.s₀.heap.FunFrames X.base X.outer
 MU:∀b∈X.fs,X.H₀ b=none
structure Inv(X:Cx)(pins:List (zdk×Obj))(σ:List (Option V))(H:Hp)(s:zdu):Prop where
 ok:X.Ok
 os:s.os=X.s₀.os
 bare:AllBare s.gens
 base:Un X.fs X.ex X.H₀ H X.s₀.heap s.heap
 loc:∃m,s.heap.Ns X.env.locals m/\∀(i:Nat) (x:Str) (v:V),X.N[i]?=some x->σ[i]?=some (some v)->T1 X.env.scope x->∃u,RelV v u/\Look X.env s.heap m x u
 cell:∀x c,X.env.cells.lookup x=some c->∃v,s.heap.IsCell c v
 free:H X.env.locals=none
 oB:∀x c,X.env.cells.lookup x=some c->H c=none
 pin:∀p∈X.pn++pins,s.heap.get? p.1=some p.2/\H p.1=none/\p.1≠X.env.locals/\p.1 ∉ X.fs/\∀v,p.2.data≠.cell v
 cM:oA X.prog X.w H s.heap
 len:σ.length=X.N.length
section
variable{X:Cx}{pins:List (zdk×Obj)}{σ:List (Option V)}{H H':Hp}{s:zdu}{h':Heap}
theorem Cx.Ok.Yc(ok:X.Ok){b:zdk}{o:Obj}(e:X.base.get? b=some o):b ∉ X.fs:=fun hb=>by
 have:=(ok.qD.mem hb).1;rw[e] at this;cases this
theorem Inv.bs(I:Inv X pins σ H s):∀b o,X.base.get? b=some o->s.heap.get? b=some o/\H b=none:=fun b o e=>
 ⟨I.base.keep b o (I.ok.bs b o e).1 (I.ok.bs b o e).2 (I.ok.Yc e) (I.ok.Jq b o e),I.base.free b o (I.ok.bs b o e).1 (I.ok.bs b o e).2 (I.ok.Jq b o e)⟩
theorem Inv.bk(I:Inv X pins σ H s):∀b o,X.base.get? b=some o->s.heap.get? b=some o:=fun b o e=>(I.bs b o e).1
theorem Inv.mod(I:Inv X pins σ H s):Mod X.K X.mg X.base:=I.ok.mod
theorem Inv.wG(I:Inv X pins σ H s):X.K.In s.heap:=I.ok.mod.TZ.keeps I.bk
theorem Inv.lt(I:Inv X pins σ H s):X.env.locals<s.heap.objs.size:=let ⟨_,hn,_⟩:=I.loc;hn.lt
theorem Inv.sz(I:Inv X pins σ H s):X.s₀.heap.objs.size<=s.heap.objs.size:=zaC I.ok.above (zco I.lt)
theorem Inv.Yd(I:Inv X pins σ H s){a:zdk}(h:s.heap.objs.size<=a):a ∉ X.fs:=fun hb=>by
 obtain⟨_,o,ho,_⟩:=I.ok.qD.mem hb;exact zzb (zaB (Heap.lt_size ho) (zaC I.sz h)) (zaW _)
theorem Inv.Pf(I:Inv X pins σ H s):∀x c,X.env.cells.lookup x=some c->c≠X.env.locals:=fun x c e z=>by
 obtain⟨v,o,ho,hd⟩:=I.cell x c e;obtain⟨m,⟨o',es,ep,QP,DM,_⟩,_⟩:=I.loc;rw[z,QP] at ho;cases ho;rw[DM] at hd;cases hd
theorem Inv.qD(I:Inv X pins σ H s):s.heap.FunFrames X.base X.outer:=by
 have all:∀(l:List Env),(∀b∈dq l,b∈X.fs)->X.s₀.heap.FunFrames X.base l->s.heap.FunFrames X.base l:=by
  intro l
  induction l with
  |nil=>intro _ _;trivial
  |cons env r ih=>
   intro hs hl;obtain⟨hk,⟨L,o,hf,hn,ho,hd⟩,hr⟩:=hl;have hL:L∈X.fs:=hs L (by unfold dq;rw[zcs,hf];exact zaq);obtain⟨sl,e⟩:=I.base.slot L o ho (I.ok.MU L hL) hL fun z=>I.ok.Nm L z hL;exact⟨hk,⟨L,_,hf,hn,e,hd⟩,ih (fun b hb=>hs b (by unfold dq;rw[zcs,hf];exact zat _ hb)) hr⟩
 exact all X.outer (fun _ hb=>hb) I.ok.qD
theorem Inv.stack(I:Inv X pins σ H s):s.heap.FunFrames X.base X.stack:=by
 rcases I.ok.WR with e |⟨e,hf⟩
 ·rw[e];exact I.qD
 ·rw[e];obtain⟨m,hn,_⟩:=I.loc;refine .cons (by rw[I.ok.kind];decide) hf hn ?_ I.qD;exact Heap.get?_none_of_le (zaC I.ok.BX I.ok.above)
theorem Inv.w5(I:Inv X pins σ H s):∀b∈dq X.stack,b∈X.env.locals::X.fs:=fun b hb=>by
 rcases I.ok.WR with e |⟨e,hf⟩
 ·rw[e] at hb;exact zat _ hb
 ·rw[e] at hb;unfold dq at hb;rw[zcs,hf] at hb;exact hb
theorem Inv.Aw(I:Inv X pins σ H s):∀b∈dq X.stack,H b=none:=fun b hb=>by
 rcases zag.mp (I.w5 b hb) with e |hb
 ·rw[e];exact I.free
 ·obtain⟨_,o,ho,_⟩:=I.ok.qD.mem hb;exact I.base.free b o ho (I.ok.MU b hb) fun z=>I.ok.Nm b z hb
theorem Inv.step{g':Array GenState}{t':Nat}{d':Drawn}{ch:List zdk}(I:Inv X pins σ H s)
 (MV:∀b∈ch,(b∈X.ex\/X.s₀.heap.objs.size<=b)/\b≠X.env.locals/\(∀x c,X.env.cells.lookup x=some c->c≠b)/\∀p∈X.pn++pins,p.1≠b)
 (keep:∀b o,b≠X.env.locals->b ∉ X.fs->b ∉ ch->s.heap.get? b=some o->H b=none->h'.get? b=some o)
 (slot:∀b o,b≠X.env.locals->b∈X.fs->b ∉ ch->s.heap.get? b=some o->H b=none->∃sl,h'.get? b=some {o with slots:=sl}) (free:∀b o,b ∉ ch->s.heap.get? b=some o->H b=none->H' b=none)
 (there:∀b o,b ∉ ch->s.heap.get? b=some o->∃o',h'.get? b=some o')
 (w4:∀b xs,H b=some (.tup xs)->H' b=some (.tup xs)) (v9:∀b o u,H b=some (.FC o u)->H' b=some (.FC o u)) (wb:∀b ps,H b=some (.rE ps)->∃more,H' b=some (.rE (ps++more)))
 (ns:∀m,s.heap.Ns X.env.locals m->h'.Ns X.env.locals m) (cM:oA X.prog X.w H' h') (hg:AllBare g') :
 Inv X pins σ H' {s with heap:=h',gens:=g',drawn:=d',toks:=t' }:=by
 have neL:∀b o,X.s₀.heap.get? b=some o->b≠X.env.locals:=fun b o e=>zaD (zaB (Heap.lt_size e) I.ok.above);have WS:∀b o,X.s₀.heap.get? b=some o->b ∉ X.ex->b ∉ ch:=fun b o e hx hb=>by
  rcases(MV b hb).1 with z |z
  ·exact hx z
  ·exact zzb (zaB (Heap.lt_size e) z) (zaW _)
 have cellK:∀x c,X.env.cells.lookup x=some c->∀v,s.heap.IsCell c v->h'.IsCell c v:=fun x c e v ⟨o,ho,hd⟩=>by
  have T2:c ∉ ch:=fun z=>(MV c z).2.2.1 x c e rfl;by_cases hc:c∈X.fs
  ·obtain⟨sl,q⟩:=slot c o (I.Pf x c e) hc T2 ho (I.oB x c e);exact⟨_,q,hd⟩
  ·exact⟨o,keep c o (I.Pf x c e) hc T2 ho (I.oB x c e),hd⟩
 refine⟨I.ok,I.os,hg,⟨fun b o e n hb hx=>?_,fun b o e n hb hx=>?_,fun b o e n hx=>?_,fun b o e hx=>?_,fun b xs e=>w4 b xs (I.base.w4 b xs e),fun b o xs e=>v9 b o xs (I.base.v9 b o xs e),fun b ps e=>?_⟩,?_,fun x c e=>?_,?_,fun x c e=>?_,fun p hp=>?_,cM,I.len⟩
 ·exact keep b o (neL b o e) hb (WS b o e hx) (I.base.keep b o e n hb hx) (I.base.free b o e n hx)
 ·obtain⟨sl,e1⟩:=I.base.slot b o e n hb hx;obtain⟨sl',e2⟩:=slot b _ (neL b o e) hb (WS b o e hx) e1 (I.base.free b o e n hx);exact⟨sl',e2⟩
 ·obtain⟨o',e1⟩:=I.base.there b o e hx;exact free b o' (WS b o e hx) e1 (I.base.free b o e n hx)
 ·obtain⟨o',e1⟩:=I.base.there b o e hx;exact there b o' (WS b o e hx) e1
 ·obtain⟨m1,e1⟩:=I.base.wb b ps e;obtain⟨m2,e2⟩:=wb b _ e1;exact⟨m1++m2,by rw[e2,Array.append_assoc]⟩
 ·obtain⟨m,hn,hl⟩:=I.loc;refine⟨m,ns m hn,fun i x v e1 e2 e3=>?_⟩;obtain⟨u,r,l⟩:=hl i x v e1 e2 e3;refine⟨u,r,?_⟩;rcases l with l |⟨k,c,e,z⟩
  ·exact .inl l
  ·exact .inr ⟨k,c,e,cellK x c e _ z⟩
 ·obtain⟨v,z⟩:=I.cell x c e;exact⟨v,cellK x c e v z⟩
 ·obtain⟨m,⟨o,_,_,ho,_⟩,_⟩:=I.loc;exact free _ o (fun z=>(MV _ z).2.1 rfl) ho I.free
 ·obtain⟨v,o,ho,hd⟩:=I.cell x c e;exact free c o (fun z=>(MV c z).2.2.1 x c e rfl) ho (I.oB x c e)
 ·obtain⟨e,n,ne,nf,d⟩:=I.pin p hp;have T2:p.1 ∉ ch:=fun z=>(MV p.1 z).2.2.2 p hp rfl;exact⟨keep p.1 p.2 ne nf T2 e n,free p.1 p.2 T2 e n,ne,nf,d⟩
theorem Inv.un{t':Nat}(I:Inv X pins σ H s)(u:Un X.fs [] H H' s.heap h')(cM:oA X.prog X.w H' h'):Inv X pins σ H' {s with heap:=h',toks:=t' }:=by
 obtain⟨m,⟨o,es,ep,ho,r⟩,_⟩:=id I.loc;obtain⟨sl,hL⟩:=u.any ho I.free (by simp);exact I.step (g':=s.gens) (d':=s.drawn) (ch:=[]) (fun _ z=>nomatch z) (fun b o _ hb _ e n=>u.keep b o e n hb (by simp)) (fun b o _ hb _ e n=>u.slot b o e n hb (by simp)) (fun b o _ e n=>u.free b o e n (by simp)) (fun b o _ e=>u.there b o e (by simp)) u.w4 u.v9 u.wb (fun m' hm=>by
  obtain⟨o',Ye,Yf,QP,r'⟩:=hm;rw[ho] at QP;cases QP;exact⟨_,Ye,Yf,hL,r'⟩) cM I.bare
theorem Inv.call{g':Array GenState}{t':Nat}{d':Drawn}{ch:List zdk}(I:Inv X pins σ H s)(u:Un (dq X.stack) ch H H' s.heap h')(cM:oA X.prog X.w H' h')(hg:AllBare g')
 (MV:∀b∈ch,(b∈X.ex\/X.s₀.heap.objs.size<=b)/\b≠X.env.locals/\(∀x c,X.env.cells.lookup x=some c->c≠b)/\∀p∈X.pn++pins,p.1≠b) :
 Inv X pins σ H' {s with heap:=h',gens:=g',drawn:=d',toks:=t' }:=by
 obtain⟨m,⟨o,es,ep,ho,r⟩,_⟩:=id I.loc;obtain⟨sl,hL⟩:=u.any ho I.free fun z=>(MV _ z).2.1 rfl;exact I.step (ch:=ch) MV (fun b o hL hb hc e n=>u.keep b o e n (fun z=>(zag.mp (I.w5 b z)).elim hL hb) hc) (fun b o _ _ hc e n=>u.any e n hc) (fun b o hc e n=>u.free b o e n hc) (fun b o hc e=>u.there b o e hc) u.w4 u.v9 u.wb (fun m' hm=>by
  obtain⟨o',Ye,Yf,QP,r'⟩:=hm;rw[ho] at QP;cases QP;exact⟨_,Ye,Yf,hL,r'⟩) cM hg
theorem Inv.turned{t':Nat}{it:zdk}(I:Inv X pins σ H s)(k:∀b o,b≠it->s.heap.get? b=some o->h'.get? b=some o)(hn:H it=none)(hL:it≠X.env.locals)
 (h1:it∈X.ex\/X.s₀.heap.objs.size<=it) (h2:∀x c,X.env.cells.lookup x=some c->c≠it) (h3:∀p∈X.pn++pins,p.1≠it):Inv X pins σ H {s with heap:=h',toks:=t' }:=by
 have T3:∀b u,H b=some u->b≠it:=fun b u e z=>by rw[z,hn] at e;cases e
 refine I.step (g':=s.gens) (d':=s.drawn) (ch:=[it]) (fun b hb=>?_) (fun b o _ _ hc e _=>k b o (fun z=>hc (by simp[z])) e) (fun b o _ _ hc e _=>⟨o.slots,k b o (fun z=>hc (by simp[z])) e⟩) (fun _ _ _ _ n=>n)
  (fun b o hc e=>⟨o,k b o (fun z=>hc (by simp[z])) e⟩) (fun _ _ e=>e) (fun _ _ _ e=>e) (fun b ps e=>⟨#[],by rw[e];simp⟩) (fun m hm=>?_) (fun b u e=>?_) I.bare
 ·have e:b=it:=by simpa using hb
  subst e;exact⟨h1,hL,h2,h3⟩
 ·obtain⟨o,es,ep,ho,r⟩:=hm;exact⟨o,es,ep,k _ o (Ne.symm hL) ho,r⟩
 ·refine(I.cM b u e).jJ (fun c v hc q=>k c v ?_ q) (fun _ q=>q) fun _ _ q=>q;rcases hc with z |z
  ·rw[z];exact T3 b u e
  ·exact T3 c _ z
theorem Inv.tok(I:Inv X pins σ H s)(t:Nat):Inv X pins σ H {s with toks:=t}:=I.un (h':=s.heap) (t':=t) Un.refl I.cM
theorem Inv.kept{t':Nat}(I:Inv X pins σ H s)(k:∀b u,s.heap.get? b=some u->h'.get? b=some u):Inv X pins σ H {s with heap:=h',toks:=t' }:=I.un (Un.kept k) (I.cM.kept k)
theorem Inv.laid{a:zdk}{o:HO}{t':Nat}(I:Inv X pins σ H s)(k:∀b u,s.heap.get? b=some u->h'.get? b=some u)(hp:s.heap.objs.size<=a)(new:dh X.prog X.w (upd H a o) h' a o) :
 Inv X pins σ (upd H a o) {s with heap:=h',toks:=t' }:=I.un (Un.laid k hp (I.cM.fresh hp)) (I.cM.laid k hp new)
theorem Inv.write{x e:zdk}{o:HO}{t':Nat}(I:Inv X pins σ H s)(mu:TV (H x))(he:e=x\/H e=some (.own x))(k:∀b u,b≠e->s.heap.get? b=some u->h'.get? b=some u)(S9:∃u,h'.get? e=some u)
 (new:dh X.prog X.w (upd H x o) h' x o):Inv X pins σ (upd H x o) {s with heap:=h',toks:=t' }:=I.un (Un.write mu he k S9) (I.cM.write mu he k S9 new)
theorem Inv.FD{FE:List (zdk×Obj)}(I:Inv X pins σ H s)(h:∀p∈FE,s.heap.get? p.1=some p.2/\H p.1=none/\p.1≠X.env.locals/\p.1 ∉ X.fs/\∀v,p.2.data≠.cell v):Inv X FE σ H s:=
 ⟨I.ok,I.os,I.bare,I.base,I.loc,I.cell,I.free,I.oB,fun p hp=>(zaz.mp hp).elim (fun z=>I.pin p (zbT _ z)) (h p),I.cM,I.len⟩
theorem BY{N:List Str}(hN:N.Nodup){i j:Nat}{x:Str}(a:N[i]?=some x)(b:N[j]?=some x):i=j:=by
 obtain⟨h1,e1⟩:=zak.mp a;obtain⟨h2,e2⟩:=zak.mp b;exact(List.getElem_inj hN).mp (e1.trans e2.symm)
theorem zv{M:Model}{A:zdv}{E:zdl->zdu->Prop}{i:Nat}{x:Str}{v:V}{u:zdl}{Q:Unit->zdu->Prop}(I:Inv X pins σ H s)(hN:X.N.Nodup)(hi:X.N[i]?=some x)(hx:Loc X.env.scope x)(r:RelV v u)
 (h:∀s',Inv X pins (σ.set i (some v)) H s'->(∃a,Heap.SameBut a s.heap s'.heap/\(a=X.env.locals\/X.env.cells.lookup x=some a))->Q () s') (hf:X.fn x=true\/X.env.scope.names.lookup x=some .local:=by first |exact .inl rfl |exact .inr rfl |assumption):wpAny M A (storeName X.env x u) Q E s:=by
 obtain⟨m,hn,hl⟩:=id I.loc;have Yg:(X.env.scope.kind==.class ||(X.env.scope.kind==.module&&X.env.locals != X.env.globals))=false:=by rw[I.ok.kind];rfl
 have T4:i<σ.length:=by rw[I.len];exact(zak.mp hi).1
 have Pf:=I.Pf;have tracked:∀ {a:zdk} {h':Heap},(∃o,s.heap.get? a=some o/\H a=none)->Heap.SameBut a s.heap h'->oA X.prog X.w H h':=fun {a h'} ha hs b ob e=>by
  obtain⟨_,_,sQ⟩:=ha;refine(I.cM b ob e).jJ (fun c w' hc q=>(hs.2 c ?_).trans q) (fun _ q=>q) fun _ _ q=>q
  rintro rfl
  rcases hc with rfl |hc
  ·rw[sQ] at e;cases e
  ·rw[sQ] at hc;cases hc
 rcases hx with hk |hk
 ·refine wpAny_storeName_local hk hn (fun h' hn' hs=>?_) Yg;obtain⟨oL,_,_,hoL,_⟩:=id hn;refine h _ ⟨I.ok,I.os,I.bare,⟨fun b o e n hb hx=>?_,fun b o e n hb hx=>?_,I.base.free,fun b o e hx=>?_,I.base.w4,I.base.v9,I.base.wb⟩,⟨_,hn',fun j y v' e1 e2 e3=>?_⟩,fun y c e=>?_,I.free,I.oB,fun p hp=>?_,tracked ⟨oL,hoL,I.free⟩ hs,by simpa using I.len⟩ ⟨_,hs,.inl rfl⟩
  ·exact(hs.2 b (zaD (zaB (Heap.lt_size e) I.ok.above))).trans (I.base.keep b o e n hb hx)
  ·obtain⟨sl,e1⟩:=I.base.slot b o e n hb hx;exact⟨sl,(hs.2 b (zaD (zaB (Heap.lt_size e) I.ok.above))).trans e1⟩
  ·obtain⟨o',e1⟩:=I.base.there b o e hx;exact⟨o',(hs.2 b (zaD (zaB (Heap.lt_size e) I.ok.above))).trans e1⟩
  ·by_cases hj:j=i
   ·subst hj;rw[hi] at e1;cases e1;rw[zce T4] at e2;cases e2;exact⟨u,r,.inl ⟨hk,by simp⟩⟩
   ·rw[zcp (Ne.symm hj)] at e2;obtain⟨u',r',q⟩:=hl j y v' e1 e2 e3;refine⟨u',r',?_⟩;rcases q with ⟨k,e⟩ |⟨k,c,e,z⟩
    ·refine .inl ⟨k,?_⟩;have:y≠x:=fun e=>hj (BY hN e1 (e▸hi));simp[this,e]
    ·exact .inr ⟨k,c,e,z.sameBut hs (Pf y c e)⟩
  ·obtain⟨w',z⟩:=I.cell y c e;exact⟨w',z.sameBut hs (Pf y c e)⟩
  ·obtain⟨e,n,ne,nf,d⟩:=I.pin p hp;exact⟨(hs.2 p.1 ne).trans e,n,ne,nf,d⟩
 ·have QQ:X.fn x=true:=by
   rcases hf with z |z
   ·exact z
   ·rw[z] at hk;cases hk
  obtain⟨c,hc⟩:=I.ok.has x (.inl hk);obtain⟨w',z⟩:=I.cell x c hc;refine wpAny_storeName_cell I.ok.kind hk hc z (fun h' T5 hs=>?_);obtain⟨oc,Ta,Yh⟩:=id z;refine h {s with heap:=h' } ⟨I.ok,I.os,I.bare,⟨fun b o e n hb hx=>?_,fun b o e n hb hx=>?_,I.base.free,fun b o e hx=>?_,I.base.w4,I.base.v9,I.base.wb⟩,⟨m,hn.sameBut hs (Ne.symm (Pf x c hc)),fun j y v' e1 e2 e3=>?_⟩,fun y c' e=>?_,I.free,I.oB,fun p hp=>?_,tracked ⟨oc,Ta,I.oB x c hc⟩ hs,by simpa using I.len⟩ ⟨c,hs,.inr hc⟩
  ·exact(hs.2 b (zaD (zaB (Heap.lt_size e) (I.ok.Nl x c QQ hc)))).trans (I.base.keep b o e n hb hx)
  ·obtain⟨sl,e1⟩:=I.base.slot b o e n hb hx;exact⟨sl,(hs.2 b (zaD (zaB (Heap.lt_size e) (I.ok.Nl x c QQ hc)))).trans e1⟩
  ·obtain⟨o',e1⟩:=I.base.there b o e hx;exact⟨o',(hs.2 b (zaD (zaB (Heap.lt_size e) (I.ok.Nl x c QQ hc)))).trans e1⟩
  ·by_cases hj:j=i
   ·subst hj;rw[hi] at e1;cases e1;rw[zce T4] at e2;cases e2;exact⟨u,r,.inr ⟨.inl hk,c,hc,T5⟩⟩
   ·rw[zcp (Ne.symm hj)] at e2;obtain⟨u',r',q⟩:=hl j y v' e1 e2 e3;refine⟨u',r',?_⟩;rcases q with q |⟨k,c',e,z'⟩
    ·exact .inl q
    ·refine .inr ⟨k,c',e,z'.sameBut hs ?_⟩
     rintro rfl
     exact hj (BY hN e1 (I.ok.inj _ _ _ e hc▸hi))
  ·by_cases yG:c'=c
   ·subst yG;exact⟨_,T5⟩
   ·obtain⟨w2,z2⟩:=I.cell y c' e;exact⟨w2,z2.sameBut hs yG⟩
  ·obtain⟨e,n,ne,nf,d⟩:=I.pin p hp;refine⟨(hs.2 p.1 ?_).trans e,n,ne,nf,d⟩;intro q;rw[q,Ta] at e;have q':oc=p.2:=zaO.inj e;exact d w' (by rw[<- q'];exact Yh)
theorem BZ{M:Model}{A:zdv}{E:zdl->zdu->Prop}{i:Nat}{x:Str}{v:V}{u:zdl}{Q:Unit->zdu->Prop}(I:Inv X pins σ H s)(hN:X.N.Nodup)(hi:X.N[i]?=some x)(hx:Loc X.env.scope x)(r:RelV v u)
 (h:∀s',Inv X pins (σ.set i (some v)) H s'->Q () s') (hf:X.fn x=true\/X.env.scope.names.lookup x=some .local:=by first |exact .inl rfl |exact .inr rfl |assumption):wpAny M A (storeName X.env x u) Q E s:=
 zv I hN hi hx r (fun s' I' _=>h s' I') hf
theorem Inv.T6{s':zdu}{ch:List zdk}(I:Inv X pins σ H s)(ho:s'.os=s.os)(u:Un (dq X.stack) ch H H' s.heap s'.heap)(cM:oA X.prog X.w H' s'.heap)(hg:AllBare s'.gens)
 (MV:∀b∈ch,(b∈X.ex\/X.s₀.heap.objs.size<=b)/\b≠X.env.locals/\(∀x c,X.env.cells.lookup x=some c->c≠b)/\∀p∈X.pn++pins,p.1≠b):Inv X pins σ H' s':=by
 obtain⟨h',g',d',t',o'⟩:=s';have e:o'=s.os:=ho;subst e;exact I.call (g':=g') (t':=t') (d':=d') u cM hg MV
end
abbrev XK:=zdl->Option zdk->Hp->Prop
abbrev St:=List (Option V)
abbrev VK:=V->Hp->Prop
abbrev TE:=St->Hp->VK->Prop
abbrev TT:=St->Hp->(Bool->Hp->Prop)->Prop
abbrev TA:=St->Hp->(List V->Hp->Prop)->Prop
structure Ends where
 nx:St->Hp->Prop
 rt:VK
 bk:St->Hp->Prop:=fun _ _=>False
 ct:St->Hp->Prop:=fun _ _=>False
abbrev TS:=Ends->St->Hp->Prop
def EP (X:Cx) (pins:List (zdk×Obj)) (σ:St) (Q:VK) (u:zdl) (s':zdu):Prop:=∃v H',Inv X pins σ H' s'/\RelV v u/\Q v H'
def TP (X:Cx) (pins:List (zdk×Obj)) (σ:St) (Q:Bool->Hp->Prop) (b:Bool) (s':zdu):Prop:=∃H',Inv X pins σ H' s'/\Q b H'
def AP (X:Cx) (pins:List (zdk×Obj)) (σ:St) (Q:List V->Hp->Prop) (us:List zdl) (s':zdu):Prop:=∃vs H',Inv X pins σ H' s'/\Vals vs us/\Q vs H'
def SP (X:Cx) (pins:List (zdk×Obj)) (D:Ends) (f:Flow) (s':zdu):Prop:=
 match f with
 |.next=>∃σ' H',Inv X pins σ' H' s'/\D.nx σ' H'
 |.brk=>∃σ' H',Inv X pins σ' H' s'/\D.bk σ' H'
 |.cont=>∃σ' H',Inv X pins σ' H' s'/\D.ct σ' H'
 |.ret u=>∃v σ' H',Inv X pins σ' H' s'/\RelV v u/\D.rt v H'
def PE (X:Cx) (e:Expr) (t:TE):Prop:=
 ∀(pins:List (zdk×Obj)) (s:zdu) (σ:St) (H:Hp) (Q:VK),Inv X pins σ H s->t σ H Q->wpAny (model X.prog X.w) X.A (eval e X.env) (EP X pins σ Q) X.xe s
def PT (X:Cx) (e:Expr) (t:TT):Prop:=
 ∀(pins:List (zdk×Obj)) (s:zdu) (σ:St) (H:Hp) (Q:Bool->Hp->Prop),Inv X pins σ H s->t σ H Q->wpAny (model X.prog X.w) X.A (isTrue e X.env (eval e X.env)) (TP X pins σ Q) X.xe s
def PW (X:Cx) (e:Expr) (t:TT):Prop:=
 ∀(whole:Sem zdl) (pins:List (zdk×Obj)) (s:zdu) (σ:St) (H:Hp) (Q:Bool->Hp->Prop),Inv X pins σ H s->t σ H Q->wpAny (model X.prog X.w) X.A (isTrue e X.env whole) (TP X pins σ Q) X.xe s
theorem PW.pt{X:Cx}{e:Expr}{t:TT}(h:PW X e t):PT X e t:=h _
def PA (X:Cx) (es:List Expr) (t:TA):Prop:=
 ∀(pos:Pos) (pins:List (zdk×Obj)) (s:zdu) (σ:St) (H:Hp) (Q:List V->Hp->Prop),Inv X pins σ H s->t σ H Q->wpAny (model X.prog X.w) X.A (spliced (backTo pos (zdq es X.env))) (AP X pins σ Q) X.xe s
def PS (X:Cx) (st:Stmt) (t:TS):Prop:=
 ∀(pins:List (zdk×Obj)) (s:zdu) (σ:St) (H:Hp) (D:Ends),Inv X pins σ H s->t D σ H->wpAny (model X.prog X.w) X.A (exec st X.env) (SP X pins D) X.xe s
def DN (X:Cx) (st:List Stmt) (t:TS):Prop:=
 ∀(pins:List (zdk×Obj)) (s:zdu) (σ:St) (H:Hp) (D:Ends),Inv X pins σ H s->t D σ H->wpAny (model X.prog X.w) X.A (execs st X.env) (SP X pins D) X.xe s
theorem eZ{α:Type}{t:Sem α}{Q Q':α->zdu->Prop}{M:Model}{A:zdv}{E:zdl->zdu->Prop}{s:zdu}(h:wpAny M A t Q E s)(hQ:∀a s,Q a s->Q' a s):wpAny M A t Q' E s:=wpAny_mono h hQ fun _ _ x=>x
section
variable{X:Cx}
def vAt (Q:V->Prop):Option (Option V)->Prop
 |some (some v)=>Q v
 |_=>False
theorem QR{Q:V->Prop}:∀ {o:Option (Option V)},vAt Q o->∃v,o=some (some v)/\Q v
 |some (some v),h=>⟨v,rfl,h⟩
 |some none,h=>h.elim
 |none,h=>h.elim
def gm (i:Nat):TE:=fun σ H Q=>vAt (fun v=>Q v H) σ[i]?
def tC (v:V):TE:=fun _ H Q=>Q v H
theorem QS{i:Nat}{x:Str}{pos:Pos}(hN:X.N[i]?=some x)(hv:T1 X.env.scope x)(hd:(x==("__debug__":Str))=false:=by decide)(B0:(x==("__classdict__":Str))=false:=by decide):PE X (.Name x pos) (gm i):=by
 intro pins s σ H Q I h;obtain⟨v,e,h⟩:=QR h;obtain⟨m,hn,hl⟩:=I.loc;obtain⟨u,r,l⟩:=hl i x v hN e hv;have fin:EP X pins σ Q u s:=⟨v,H,I,r,h⟩
 rcases l with ⟨hk,hm⟩ |⟨hk,c,hc,vH⟩
 ·exact wpAny_Name (wpAny_loadName_local I.ok.kind hk hn hm fin) hd
 ·rcases hk with hk |hk
  ·exact wpAny_Name (wpAny_loadName_cell I.ok.kind hk hc vH fin) hd
  ·exact wpAny_Name (wpAny_loadName_free I.ok.kind hk hc vH fin B0) hd
theorem aj{i j pos}:PE X (.Constant (.int i) j pos) (tC (.int i)):=fun _ _ _ H _ I h=>wpAny_Constant_int ⟨.int i,H,I.tok _,⟨_,rfl⟩,h⟩
theorem sR{b j pos}:PE X (.Constant (.bool b) j pos) (tC (.bl b)):=fun _ _ _ H _ I h=>Constant_bool ⟨.bl b,H,I,rfl,h⟩
theorem eU{j pos}:PE X (.Constant .none j pos) (tC .cC):=fun _ _ _ H _ I h=>Constant_none ⟨.cC,H,I,rfl,h⟩
theorem aU{x j pos}:PE X (.Constant (.str x) j pos) (tC (.str x)):=fun _ _ _ H _ I h=>Calls.Constant_str ⟨.str x,H,I.tok _,⟨_,rfl⟩,h⟩
def Gl (X:Cx) (x:Str):Prop:=X.env.kindOf x=some .globalImplicit
theorem wH{E:zdl->zdu->Prop}{pins:List (zdk×Obj)}{s:zdu}{σ:St}{H:Hp}{x:Str}{u:zdl}{pos:Pos}{Q:zdl->zdu->Prop}(I:Inv X pins σ H s)(hg:Gl X x)(hm:X.mg x=some u)(h:Q u s)
 (hd:(x==("__debug__":Str))=false:=by decide):wpAny (model X.prog X.w) X.A (eval (.Name x pos) X.env) Q E s:=
 Calls.Name_function_global I.ok.kind hg (Calls.loadGlobal_global (by rw[I.ok.glob];exact I.mod.glob.keeps I.bk) hm h) hd
theorem rF{E:zdl->zdu->Prop}{pins:List (zdk×Obj)}{s:zdu}{σ:St}{H:Hp}{x:Str}{u:zdl}{pos:Pos}{Q:zdl->zdu->Prop}(I:Inv X pins σ H s)(hg:Gl X x)(hm:X.mg x=none)(hv:bootBuiltins x=some u)(h:Q u s)
 (hn:x≠"__name__":=by decide) (hd:(x==("__debug__":Str))=false:=by decide):wpAny (model X.prog X.w) X.A (eval (.Name x pos) X.env) Q E s:=by
 obtain⟨mb,h1,h2⟩:=I.mod.blt;exact Calls.Name_function_global I.ok.kind hg (Calls.loadGlobal_builtin (by rw[I.ok.glob];exact I.mod.glob.keeps I.bk) hm (by rw[I.ok.blt];exact h1.keeps I.bk) ((h2 x hn).trans hv) h) hd
theorem qe{x:Str}{v:V}{u:zdl}{pos:Pos}(hg:Gl X x)(hm:X.mg x=some u)(r:RelV v u)(hd:(x==("__debug__":Str))=false:=by decide):PE X (.Name x pos) (tC v):=
 fun _ _ _ H _ I h=>wH I hg hm ⟨v,H,I,r,h⟩ hd
theorem FF{x:Str}{v:V}{u:zdl}{pos:Pos}(hg:Gl X x)(hm:X.mg x=none)(hv:bootBuiltins x=some u)(r:RelV v u)(hn:x≠"__name__":=by decide)(hd:(x==("__debug__":Str))=false:=by decide):PE X (.Name x pos) (tC v):=
 fun _ _ _ H _ I h=>rF I hg hm hv ⟨v,H,I,r,h⟩ hn hd
variable{a b:Expr}{ta tb:TE}{pos:Pos}
def tB (t:TE):TT:=fun σ H Q=>t σ H fun x H1=>∃c,x=.bl c/\Q c H1
theorem rG{e:Expr}{t:TE}(h:PE X e t)(he:∀whole,isTrue e X.env whole=(do let v <- whole;standAt e.pos;holding [v] (truthy v)):=by intro _;rfl):PT X e (tB t):=by
 intro pins s σ H Q I hw;refine isTrue_plain (eZ (h pins s σ H _ I hw) fun v s1 zqz=>?_) (he _);obtain⟨x,H1,I1,r1,q1⟩:=zqz;obtain⟨d,rfl,q⟩:=q1;cases r1;exact wpAny_truthy_bool ⟨H1,I1,q⟩
variable{tA WT:TT}{rest:List Expr}
def QT (t u:TT):TT:=fun σ H Q=>t σ H fun c H1=>if c=true then u σ H1 Q else Q false H1
def Yi (t u:TT):TT:=fun σ H Q=>t σ H fun c H1=>if c=true then Q true H1 else u σ H1 Q
def T7 (t:TT):TT:=fun σ H Q=>t σ H fun c H1=>Q (!c) H1
theorem pw_and1(ha:PT X a tA):PW X (.BoolOp .And [a] pos) tA:=by
 intro wh pins s σ H Q I h;refine isTrue_and (eZ (ha pins s σ H Q I h) fun c s1 e=>?_);cases c with
 |true=>exact isTrue_and_nil e
 |false=>exact e
theorem pw_or1(ha:PT X a tA):PW X (.BoolOp .Or [a] pos) tA:=by
 intro wh pins s σ H Q I h;refine isTrue_or (eZ (ha pins s σ H Q I h) fun c s1 e=>?_);cases c with
 |false=>exact isTrue_or_nil e
 |true=>exact e
theorem pw_and(ha:PT X a tA)(hb:PW X (.BoolOp .And (b::rest) pos) WT):PW X (.BoolOp .And (a::b::rest) pos) (QT tA WT):=by
 intro wh pins s σ H Q I h;refine isTrue_and (eZ (ha pins s σ H _ I h) fun c s1 zqz=>?_);obtain⟨H1,I1,q1⟩:=zqz;cases c with
 |true=>exact hb wh pins s1 σ H1 Q I1 q1
 |false=>exact⟨H1,I1,q1⟩
theorem pw_or(ha:PT X a tA)(hb:PW X (.BoolOp .Or (b::rest) pos) WT):PW X (.BoolOp .Or (a::b::rest) pos) (Yi tA WT):=by
 intro wh pins s σ H Q I h;refine isTrue_or (eZ (ha pins s σ H _ I h) fun c s1 zqz=>?_);obtain⟨H1,I1,q1⟩:=zqz;cases c with
 |true=>exact⟨H1,I1,q1⟩
 |false=>exact hb wh pins s1 σ H1 Q I1 q1
theorem DO(ha:PT X a tA):PT X (.UnaryOp .Not a pos) (T7 tA):=by
 intro pins s σ H Q I h;exact isTrue_not (ha pins s σ H (fun c H1=>Q (!c) H1) I h)
def Jr (ta tb:TE):TE:=fun σ H Q=>ta σ H fun x H1=>∃c,x=.bl c/\if c=true then tb σ H1 Q else Q (.bl false) H1
def QU (ta tb:TE):TE:=fun σ H Q=>ta σ H fun x H1=>∃c,x=.bl c/\if c=true then Q (.bl true) H1 else tb σ H1 Q
def Pg (ta:TE):TE:=fun σ H Q=>ta σ H fun x H1=>∃c,x=.bl c/\Q (.bl (!c)) H1
theorem Ax{op}{t:TE}(h:PE X a t):PE X (.BoolOp op [a] pos) t:=fun pins s σ H Q I hw=>BoolOp_one (h pins s σ H Q I hw)
theorem DP(ha:PE X a ta)(hb:PE X (.BoolOp .And (b::rest) pos) tb):PE X (.BoolOp .And (a::b::rest) pos) (Jr ta tb):=by
 intro pins s σ H Q I h;refine BoolOp_and (eZ (ha pins s σ H _ I h) fun v s1 zqz=>?_);obtain⟨x,H1,I1,r1,q1⟩:=zqz;obtain⟨c,rfl,q1⟩:=q1;cases r1;refine wpAny_truthy_bool ?_;cases c with
 |true=>exact hb pins s1 σ H1 Q I1 q1
 |false=>exact⟨.bl false,H1,I1,rfl,q1⟩
theorem T8(ha:PE X a ta)(hb:PE X (.BoolOp .Or (b::rest) pos) tb):PE X (.BoolOp .Or (a::b::rest) pos) (QU ta tb):=by
 intro pins s σ H Q I h;refine BoolOp_or (eZ (ha pins s σ H _ I h) fun v s1 zqz=>?_);obtain⟨x,H1,I1,r1,q1⟩:=zqz;obtain⟨c,rfl,q1⟩:=q1;cases r1;refine wpAny_truthy_bool ?_;cases c with
 |false=>exact hb pins s1 σ H1 Q I1 q1
 |true=>exact⟨.bl true,H1,I1,rfl,q1⟩
def tIf (t:TT) (ta tb:TE):TE:=fun σ H Q=>t σ H fun c H1=>if c=true then ta σ H1 Q else tb σ H1 Q
end
def i7 (K:zaa) (H:Hp) (a:zdk) (xs:List V):Prop:=
 Rd H a (.lst xs)\/
  ∃(o:Obj) (bC:Array zdl) (n:Nat),K.lookup a=some o/\o.cls=.type "list"/\o.dict=none/\o.data=.seq bC n/\bC.size<=zds/\Vals xs bC.toList
def bQ (K:zaa) (H:Hp) (a:zdk) (xs:List V):Prop:=
 Rd H a (.tup xs)\/
  ∃(o:Obj) (bC:Array zdl) (n:Nat),K.lookup a=some o/\o.cls=.type "tuple"/\o.data=.seq bC n/\bC.size<=zds/\Vals xs bC.toList
def Yj:zdl->Option V
 |.none=>some .cC
 |.bool b=>some (.bl b)
 |.int i _=>some (.int i)
 |.str x _=>some (.str x)
 |.bytes b _=>some (.FA b)
 |.float b _=>some (.QN b)
 |.ref a=>some (.ref a)
 |.type n=>some (.ty n)
 |_=>none
theorem RelV.abs{x:V}{u:zdl}(r:RelV x u):Yj u=some x:=by
 cases x with
 |cC=>cases r;rfl
 |bl _=>cases r;rfl
 |int _=>obtain⟨t,rfl⟩:=r;rfl
 |str _=>obtain⟨t,rfl⟩:=r;rfl
 |FA _=>obtain⟨t,rfl⟩:=r;rfl
 |QN _=>obtain⟨t,rfl⟩:=r;rfl
 |ref _=>cases r;rfl
 |ty _=>cases r;rfl
theorem RelV.inj{x y:V}{u:zdl}(r:RelV x u)(q:RelV y u):x=y:=zaO.inj (r.abs.symm.trans q.abs)
theorem Vals.inj:∀ {xs ys:List V} {us:List zdl},Vals xs us->Vals ys us->xs=ys
 |_,_,_,.nil,.nil=>rfl
 |_,_,_,.cons r t,.cons r' t'=>by rw[r.inj r',Vals.inj t t']
section
variable{X:Cx}{pins:List (zdk×Obj)}{σ:St}{H:Hp}{s:zdu}{a:zdk}{xs ys:List V}
theorem i7.of{K:zaa}(h:H a=some (.lst xs)):i7 K H a xs:=.inl (.inl h)
theorem bQ.of{K:zaa}(h:H a=some (.tup xs)):bQ K H a xs:=.inl (.inl h)
theorem Inv.list(I:Inv X pins σ H s)(h:i7 X.K H a xs):∃bC:List zdl,Vals xs bC/\PlainL s.heap a bC.toArray/\xs.length<=zds:=by
 rcases h with h |⟨o,bC,n,hk,hc,hd,hs,hz,r⟩
 ·obtain⟨z,bC,n,r,e⟩:=h.ok I.cM;exact⟨bC,r,⟨_,n,e,rfl,rfl,rfl⟩,z⟩
 ·refine⟨bC.toList,r,⟨o,n,I.wG a o hk,hc,hd,by simpa using hs⟩,?_⟩;have e:=r.length;simp only[za8] at e;lia
theorem Inv.tuple(I:Inv X pins σ H s)(h:bQ X.K H a xs):∃bC:List zdl,Vals xs bC/\IsTup s.heap a bC.toArray/\xs.length<=zds:=by
 rcases h with h |⟨o,bC,n,hk,hc,hs,hz,r⟩
 ·obtain⟨z,bC,r,p⟩:=h.ok I.cM;exact⟨bC,r,p,z⟩
 ·refine⟨bC.toList,r,⟨o,I.wG a o hk,hc,n,by simpa using hs⟩,?_⟩;have e:=r.length;simp only[za8] at e;lia
theorem Inv.B1(I:Inv X pins σ H s)(h:i7 X.K H a xs)(h':i7 X.K H a ys):xs=ys:=by
 obtain⟨bC,r,⟨o,n,e,_,_,d⟩,_⟩:=I.list h;obtain⟨its',r',⟨o',n',e',_,_,d'⟩,_⟩:=I.list h';rw[e] at e';cases e';rw[d] at d'
 injection d' with d1 _
 have:bC=its':=by simpa using congrArg zdh d1
 subst this;exact r.inj r'
theorem Inv.Ha(I:Inv X pins σ H s)(h:bQ X.K H a xs)(h':bQ X.K H a ys):xs=ys:=by
 obtain⟨bC,r,⟨o,e,_,n,d⟩,_⟩:=I.tuple h;obtain⟨its',r',⟨o',e',_,n',d'⟩,_⟩:=I.tuple h';rw[e] at e';cases e';rw[d] at d'
 injection d' with d1 _
 have:bC=its':=by simpa using congrArg zdh d1
 subst this;exact r.inj r'
end
abbrev Cx.yN (X:Cx) (E:zdl->zdu->Prop):Cx:={X with xe:=E}
abbrev Cx.DQ (X:Cx):Cx:=X.yN fun _ _=>False
theorem Cx.Ok.yN{X:Cx}(ok:X.Ok)(E:zdl->zdu->Prop):(X.yN E).Ok:=
 ⟨ok.mod,ok.kind,ok.glob,ok.blt,ok.above,ok.inj,ok.has,ok.Nl,ok.hd,ok.frames,ok.WR,ok.exf,ok.bs,ok.BX,ok.Jq,ok.Nm,ok.qD,ok.MU⟩
theorem Cx.Ok.oR{X:Cx}{E:zdl->zdu->Prop}(ok:(X.yN E).Ok):X.Ok:=
 ⟨ok.mod,ok.kind,ok.glob,ok.blt,ok.above,ok.inj,ok.has,ok.Nl,ok.hd,ok.frames,ok.WR,ok.exf,ok.bs,ok.BX,ok.Jq,ok.Nm,ok.qD,ok.MU⟩
section
variable{X:Cx}{pins:List (zdk×Obj)}{σ:St}{H:Hp}{s:zdu}{E:zdl->zdu->Prop}
theorem Inv.yN(I:Inv X pins σ H s)(E:zdl->zdu->Prop):Inv (X.yN E) pins σ H s:=⟨I.ok.yN E,I.os,I.bare,I.base,I.loc,I.cell,I.free,I.oB,I.pin,I.cM,I.len⟩
theorem Inv.oR(I:Inv (X.yN E) pins σ H s):Inv X pins σ H s:=⟨I.ok.oR,I.os,I.bare,I.base,I.loc,I.cell,I.free,I.oB,I.pin,I.cM,I.len⟩
theorem SP.oR{D:Ends}{f:Flow}{s':zdu}(h:SP (X.yN E) pins D f s'):SP X pins D f s':=by
 cases f with
 |next=>obtain⟨σ',H',I,q⟩:=h;exact⟨σ',H',I.oR,q⟩
 |brk=>obtain⟨σ',H',I,q⟩:=h;exact⟨σ',H',I.oR,q⟩
 |cont=>obtain⟨σ',H',I,q⟩:=h;exact⟨σ',H',I.oR,q⟩
 |ret u=>obtain⟨v,σ',H',I,r,q⟩:=h;exact⟨v,σ',H',I.oR,r,q⟩
theorem DN.DQ{st:List Stmt}{t:TS}(h:DN X.DQ st t):DN X st t:=fun pins s σ H D I hw=>
 wpAny_mono (h pins s σ H D (I.yN _) hw) (fun _ _ q=>q.oR) fun _ _ z=>False.elim z
end
section
variable{X:Cx}{st:Stmt}{rest:List Stmt}{t u:TS}{e:Expr}{te:TE}{pos:Pos}
def Js:TS:=fun D σ H=>D.nx σ H
def Nn (t u:TS):TS:=fun D σ H=>t {D with nx:=u D} σ H
theorem aV:DN X [] Js:=fun _ _ σ H _ I h=>wpAny_execs_nil ⟨σ,H,I,h⟩
theorem ah(h1:PS X st t)(h2:DN X rest u):DN X (st::rest) (Nn t u):=by
 intro pins s σ H D I h;refine wpAny_execs_cons (eZ (h1 pins s σ H {D with nx:=u D} I h) fun f s1 q=>?_);cases f with
 |next=>
  obtain⟨σ',H',I',q⟩:=q;exact h2 pins s1 σ' H' D I' q
 |ret v=>exact q
 |brk=>exact q
 |cont=>exact q
theorem ak(h1:PS X st t):DN X [st] t:=by
 intro pins s σ H D I h;refine wpAny_execs_cons (eZ (h1 pins s σ H D I h) fun f s1 q=>?_);cases f with
 |next=>exact wpAny_execs_nil q
 |ret v=>exact q
 |brk=>exact q
 |cont=>exact q
def Jt:TS:=fun D σ H=>D.bk σ H
def Ph:TS:=fun D σ H=>D.ct σ H
theorem Inv.quiet{pins:List (zdk×Obj)}{σ:St}{H:Hp}{s:zdu}(I:Inv X pins σ H s):interactive X.env=false:=by simp[interactive,I.ok.kind]
def Ju (te:TE):TS:=fun D σ H=>te σ H fun _ H1=>D.nx σ H1
theorem bK(he:PE X e te)(hs:swapsWith e none pos.line X.env=pure false:=by rfl):PS X (.Expr e pos) (Ju te):=by
 intro pins s σ H D I h;exact wpAny_Expr_any (eZ (he pins s σ H _ I h) fun v s1 ⟨x,H1,I1,r1,q1⟩=>⟨σ,H1,I1,q1⟩) I.quiet hs
def QV (te:TE):TS:=fun D σ H=>te σ H D.rt
theorem aO(he:PE X e te):PS X (.Return (some e) pos) (QV te):=by
 intro pins s σ H D I h;exact wpAny_Return_some (eZ (he pins s σ H _ I h) fun v s1 ⟨x,H1,I1,r1,q1⟩=>⟨x,σ,H1,I1,r1,q1⟩)
def Pj:TS:=fun D _ H=>D.rt .cC H
def Hb (c:TT) (t u:TS):TS:=fun D σ H=>c σ H fun b H1=>if b=true then t D σ H1 else u D σ H1
theorem bh{c:Expr}{a b:List Stmt}{tc:TT}(hc:PT X c tc)(ha:DN X a t)(hb:DN X b u):PS X (.If c a b pos) (Hb tc t u):=by
 intro pins s σ H D I h;refine wpAny_If (eZ (hc pins s σ H _ I h) fun d s1 zqz=>?_);obtain⟨H1,I1,q1⟩:=zqz;cases d with
 |true=>exact ha pins s1 σ H1 D I1 q1
 |false=>exact hb pins s1 σ H1 D I1 q1
def QW:TS:=fun _ _ _=>False
theorem Jv:PS X st QW:=fun _ _ _ _ _ _ h=>h.elim
end
abbrev TG:=V->St->Hp->(St->Hp->Prop)->Prop
abbrev Np:=List V->St->Hp->(St->Hp->Prop)->Prop
def PG (X:Cx) (target:Expr) (t:TG):Prop:=
 ∀(pins:List (zdk×Obj)) (s:zdu) (σ:St) (H:Hp) (v:V) (u:zdl) (Q:St->Hp->Prop),Inv X pins σ H s->RelV v u->t v σ H Q->
  wpAny (model X.prog X.w) X.A (assign target X.env u) (fun _ s'=>∃σ' H',Inv X pins σ' H' s'/\Q σ' H') X.xe s
def T9 (X:Cx) (ts:List Expr) (t:Np):Prop:=
 ∀(pins:List (zdk×Obj)) (s:zdu) (σ:St) (H:Hp) (vs:List V) (us:List zdl) (Q:St->Hp->Prop),Inv X pins σ H s->Vals vs us->t vs σ H Q->
  wpAny (model X.prog X.w) X.A (assignInOrder ((assignEach ts X.env).map (·.2)) us) (fun _ s'=>∃σ' H',Inv X pins σ' H' s'/\Q σ' H') X.xe s
abbrev QX:=V->V->V->Hp->(Hp->Prop)->Prop
def Ua (X:Cx) (t:QX):Prop:=
 ∀(pins:List (zdk×Obj)) (s:zdu) (σ:St) (H:Hp) (o i v:V) (ov iv u:zdl) (Q:Hp->Prop),Inv X pins σ H s->RelV o ov->RelV i iv->RelV v u->t o i v H Q->
  wpAny (model X.prog X.w) X.A (setItem ov iv u) (fun _ s'=>∃H',Inv X pins σ H' s'/\Q H') X.xe s
abbrev TIp:=V->V->Hp->VK->Prop
section
variable{X:Cx}{pos:Pos}
def eM (i:Nat):TG:=fun v σ H Q=>Q (σ.set i (some v)) H
theorem fZ{i:Nat}{x:Str}(hN:X.N.Nodup)(hi:X.N[i]?=some x)(hx:Loc X.env.scope x)(hf:X.fn x=true\/X.env.scope.names.lookup x=some .local:=by first |exact .inl rfl |exact .inr rfl |assumption):PG X (.Name x pos) (eM i):=by
 intro pins s σ H v u Q I r h;exact wpAny_assign_Name (BZ I hN hi hx r (fun s' I'=>⟨_,H,I',h⟩) hf)
def QY:Np:=fun vs σ H Q=>vs=[]/\Q σ H
def Jw (t:TG) (u:Np):Np:=fun vs σ H Q=>∃v r,vs=v::r/\t v σ H fun σ' H'=>u r σ' H' Q
theorem iA:T9 X [] QY:=by
 intro pins s σ H vs us Q I r h;obtain⟨e,h⟩:=h;subst e;cases r;exact assignInOrder_nil ⟨σ,H,I,h⟩
theorem bM{e:Expr}{es:List Expr}{t:TG}{u:Np}(h1:PG X e t)(h2:T9 X es u)
 (hs:(assignEach (e::es) X.env).map (·.2)=assign e X.env::(assignEach es X.env).map (·.2):=by rfl):T9 X (e::es) (Jw t u):=by
 intro pins s σ H vs us Q I r h;obtain⟨v,vr,e1,h⟩:=h;subst e1;cases r with
 |cons r rr=>
  rw[hs];refine assignInOrder_cons (eZ (h1 pins s σ H _ _ _ I r h) fun _ s1 zqz=>?_);obtain⟨σ1,H1,I1,q1⟩:=zqz;exact h2 pins s1 σ1 H1 _ _ Q I1 rr q1
def QZ (K:zaa) (n:Nat) (t:Np):TG:=fun v σ H Q=>∃a xs,v=.ref a/\bQ K H a xs/\xs.length=n/\t xs σ H Q
theorem rH{es:List Expr}{k:Nat}{t:Np}{n:Nat}(hc:X.calm=true)(h:T9 X es t)
 (hn:(assignEach es X.env).length=n:=by rfl) (Tb:(assignEach es X.env).findIdx? (·.1)=none:=by rfl):PG X (.Tuple es k pos) (QZ X.K n t):=by
 intro pins s σ H v u Q I r hw;obtain⟨a,xs,e1,hq,hl,hw⟩:=hw;subst e1;cases r;obtain⟨bC,rv,ht,hz⟩:=I.tuple hq;refine assign_Tuple_tuple (I.ok.hd hc) ht (by simp[hn,<- hl,rv.length]) Tb fun h' hx=>?_;have I1:Inv X pins σ H {s with heap:=h' }:=I.kept (t':=s.toks) fun b o e=>hx b o (zaD (Heap.lt_size e)) e;exact h pins _ σ H xs _ Q I1 (by simpa using rv) hw
def Q0 (to ti:TE) (t:QX):TG:=fun v σ H Q=>to σ H fun o H1=>ti σ H1 fun i H2=>t o i v H2 fun H3=>Q σ H3
theorem DR{o i:Expr}{to ti:TE}{t:QX}(ho:PE X o to)(hi:PE X i ti)(hs:Ua X t)
 (ha:∀v,assign (.Subscript o i pos) X.env v=(do
  let ov <- holding [v] (eval o X.env)
  let iv <- holding [v,ov] (eval i X.env)
  standAt pos
  holding [v,ov,iv] (setItem ov iv v)
  release [v,ov,iv] []):=by intro _;rfl):PG X (.Subscript o i pos) (Q0 to ti t):=by
 intro pins s σ H v u Q I r h;rw[ha];refine zdn (zdp (eZ (ho pins s σ H _ I h) fun ov s1 zqz=>?_));obtain⟨x,H1,I1,r1,q1⟩:=zqz;refine zdn (zdp (eZ (hi pins s1 σ H1 _ I1 q1) fun iv s2 zqz=>?_));obtain⟨y,H2,I2,r2,q2⟩:=zqz;refine zdn (wpAny_standAt (zdn (zdp (eZ (hs pins s2 σ H2 x y v ov iv u _ I2 r1 r2 r q2) fun _ s3 zqz=>?_))));obtain⟨H3,I3,q3⟩:=zqz;exact wpAny_release ⟨σ,H3,I3,q3⟩
def Hc (te:TE) (g:TG):TS:=fun D σ H=>te σ H fun x H1=>g x σ H1 D.nx
theorem rJ{tg e:Expr}{te:TE}{g:TG}(he:PE X e te)(hg:PG X tg g)(hs:swapsWithSole [tg] e pos.line X.env=pure false:=by rfl)(hw:swappedStores [tg] e X.env=pure none:=by rfl)
 (h1:(assignEach [tg] X.env).map (·.2)=[assign tg X.env]:=by rfl):PS X (.Assign [tg] e pos) (Hc te g):=by
 intro pins s σ H D I h;refine wpAny_Assign_stores (eZ (he pins s σ H _ I h) fun v s1 zqz=>?_) hs hw;obtain⟨x,H1,I1,r1,q1⟩:=zqz;rw[h1];exact eZ (hg pins s1 σ H1 x v _ I1 r1 q1) fun _ s2 q=>q
theorem DT{i:Nat}{x:Str}{e:Expr}{te:TE}{pos':Pos}(hN:X.N.Nodup)(hi:X.N[i]?=some x)(hx:Loc X.env.scope x)(he:PE X e te)(hs:swapsWith e (some (.Name x pos')) pos.line X.env=pure false:=by rfl)(hf:X.fn x=true\/X.env.scope.names.lookup x=some .local:=by first |exact .inl rfl |exact .inr rfl |assumption) :
 PS X (.Assign [.Name x pos'] e pos) (Hc te (eM i)):=by
 intro pins s σ H D I h;refine wpAny_Assign_Name (eZ (he pins s σ H _ I h) fun v s1 zqz=>?_) hs;obtain⟨y,H1,I1,r1,q1⟩:=zqz;exact BZ I1 hN hi hx r1 (fun s2 I2=>⟨_,H1,I2,q1⟩) hf
def Ub (i:Nat) (te:TE) (ti:TIp):TS:=fun D σ H=>∃x,σ[i]?=some (some x)/\te σ H fun y H1=>ti x y H1 fun z H2=>D.nx (σ.set i (some z)) H2
end
section
variable{X:Cx}{pos:Pos}
def DU (c:TT) (tb:TS):TS:=fun D σ H=>∃W:Nat->St->Hp->Prop,(∃m,W m σ H)/\∀m σ H,W m σ H->
 c σ H fun b H1=>if b=true then ∃N:St->Hp->Prop,(∀σ' H',N σ' H'->∃m',m'<m/\W m' σ' H')/\tb {D with nx:=N,ct:=N,bk:=D.nx} σ H1 else D.nx σ H1
theorem mn{c:Expr}{body:List Stmt}{tc:TT}{tb:TS}(hp:PassesOwn (model X.prog X.w) X.A X.env X.xe)(hc:PT X c tc)(hb:DN X body tb):PS X (.While c body [] pos) (DU tc tb):=by
 intro pins s σ H D I h;obtain⟨W,⟨m0,w0⟩,turn⟩:=h;refine wpAny_While (codeAny_whileLoop (fun n s'=>∃σ' H',Inv X pins σ' H' s'/\W n σ' H') ?_ m0 ⟨σ,H,I,w0⟩)
 rintro n s1 ⟨σ1,H1,I1,w1⟩
 refine wpAny_passesOwn hp (eZ (hc pins s1 σ1 H1 _ I1 (turn n σ1 H1 w1)) fun b s2 zqz=>?_);obtain⟨H2,I2,q2⟩:=zqz;cases b with
 |true=>
  obtain⟨N,hN,q2⟩:=q2;rw[zzp rfl];refine wpAny_passesOwn hp (eZ (hb pins s2 σ1 H2 _ I2 q2) fun f s3 q3=>?_);cases f with
  |next=>
   obtain⟨σ3,H3,I3,n3⟩:=q3;obtain⟨m',hm,w3⟩:=hN σ3 H3 n3;exact⟨m',hm,σ3,H3,I3,w3⟩
  |cont=>
   obtain⟨σ3,H3,I3,n3⟩:=q3;obtain⟨m',hm,w3⟩:=hN σ3 H3 n3;exact⟨m',hm,σ3,H3,I3,w3⟩
  |brk=>exact q3
  |ret v=>exact q3
 |false=>
  rw[zzn zai];exact wpAny_execs_nil ⟨σ1,H2,I2,q2⟩
end
structure It where
 go:Nat->Hp->Prop
 zw:Nat->Hp->V->Hp->Prop
 stop:Nat->Hp->Prop
def sS (X:Cx) (pins:List (zdk×Obj)) (H:Hp) (b:zdk):Prop:=
 H b=none/\b≠X.env.locals/\b ∉ X.fs/\(b∈X.ex\/X.s₀.heap.objs.size<=b)/\(∀x c,X.env.cells.lookup x=some c->c≠b)/\∀p∈X.pn++pins,p.1≠b
theorem Inv.B2{X:Cx}{pins:List (zdk×Obj)}{σ:St}{H H':Hp}{s:zdu}{b:zdk}(I:Inv X pins σ H s)(hb:s.heap.objs.size<=b)(hn:H' b=none):sS X pins H' b:=by
 refine⟨hn,zbM (zaB I.lt hb),I.Yd hb,.inr (zaC I.sz hb),fun x c e z=>?_,fun p hp z=>?_⟩
 ·obtain⟨v,q⟩:=I.cell x c e;exact zzb (zaB q.lt (by rw[z];exact hb)) (zaW _)
 ·exact zzb (zaB (Heap.lt_size (I.pin p hp).1) (by rw[z];exact hb)) (zaW _)
structure Turn(P:zdw)(w:zdm)(K:zaa)(tg:Expr)(J:It)(fp:List zdk)(it:zdk)(tn:Nat->Heap->Prop):Prop where
 mem:it∈fp
 obj:∀i h,tn i h->∀b∈fp,∃o,h.get? b=some o/\∀v,o.data≠.cell v
 keep:∀i h h',tn i h->(∀b∈fp,∀o,h.get? b=some o->h'.get? b=some o)->tn i h'
 item:∀(X:Cx),X.prog=P->X.w=w->X.K=K->X.calm=true->∀(i:Nat) (pins:List (zdk×Obj)) (s:zdu) (σ:St) (H:Hp) (E:zdl->zdu->Prop),Inv X pins σ H s->(∀b∈fp,sS X pins H b)->tn i s.heap->J.go i H->
  wpAny (model P w) X.A (pyNext (.ref it)) (fun r s1=>∃u,r=some u/\
   wpAny (model P w) X.A (letOwnedTupleGo tg (.ref it) u) (fun _ s2=>∃x H',Inv X pins σ H' s2/\RelV x u/\J.zw i H x H'/\tn (i+1) s2.heap/\∀b∈fp,H' b=none) E s1) E s
 done:∀(X:Cx),X.prog=P->X.w=w->X.K=K->X.calm=true->∀(i:Nat) (pins:List (zdk×Obj)) (s:zdu) (σ:St) (H:Hp) (E:zdl->zdu->Prop),Inv X pins σ H s->(∀b∈fp,sS X pins H b)->tn i s.heap->J.stop i H->
  wpAny (model P w) X.A (pyNext (.ref it)) (fun r s1=>r=none/\Inv X pins σ H s1) E s
 self:∀(A:zdv) (i:Nat) (s:zdu) (Q:zdl->zdu->Prop) (E:zdl->zdu->Prop),tn i s.heap->Q (.ref it) s->wpAny (model P w) A (pyIter (.ref it)) Q E s
abbrev TI:=St->Hp->(It->Hp->Prop)->Prop
def PIE (X:Cx) (pins:List (zdk×Obj)) (σ:St) (tg:Expr) (R:It->Hp->Prop) (Yk:zdl) (s2:zdu):Prop:=
 ∃(it:zdk) (fp:List zdk) (tn:Nat->Heap->Prop) (J:It) (H':Hp),Yk=.ref it/\Inv X pins σ H' s2/\Turn X.prog X.w X.K tg J fp it tn/\tn 0 s2.heap/\(∀b∈fp,sS X pins H' b)/\R J H'
def PI (X:Cx) (tg iter:Expr) (wi:TI):Prop:=
 ∀(pins:List (zdk×Obj)) (s:zdu) (σ:St) (H:Hp) (R:It->Hp->Prop),Inv X pins σ H s->wi σ H R->
  wpAny (model X.prog X.w) X.A (eval iter X.env) (fun v s1=>wpAny (model X.prog X.w) X.A (pyIter v) (PIE X pins σ tg R) X.xe s1) X.xe s
theorem FG{M:Model}{A:zdv}{E:zdl->zdu->Prop}{s:zdu}{tg:Expr}{it:zdk}{u:zdl}{o:Obj}{n:String}{vs:Array zdl}{Q:Unit->zdu->Prop}(ho:s.heap.get? it=some o)(hc:o.cls=.type n)(hd:o.data=.fields vs)
 (hn:["enumerate", "zip", "dict_itemiterator", "dict_reverseitemiterator", "odict_iterator", "itertools.zip_longest", "itertools.pairwise"].contains n=false) (hQ:Q () s):wpAny M A (letOwnedTupleGo tg (.ref it) u) Q E s:=by
 unfold letOwnedTupleGo;cases tg<;>first
  |exact zdo hQ
  |(cases u<;>first
     |exact zdo hQ
     |(refine zdn (wpAny_load ho ?_)
       rw[hc,hd];show wpAny M A (if (["enumerate", "zip", "dict_itemiterator", "dict_reverseitemiterator", "odict_iterator", "itertools.zip_longest", "itertools.pairwise"].contains n&&vs[0]?==some (rawInt _))=true then _ else _) Q E s;rw[zzn (by intro h;rw[hn,Bool.false_and] at h;cases h)];exact zdo hQ))
def Je (K:zaa) (a:zdk):It:=
 ⟨fun i H=>∃xs x,i7 K H a xs/\xs[i]?=some x,fun i H x H'=>H'=H/\∀xs,i7 K H a xs->xs[i]?=some x,fun i H=>∃xs,i7 K H a xs/\xs.length<=i⟩
def Pk (K:zaa) (a:zdk):It:=
 ⟨fun i H=>∃xs x,bQ K H a xs/\xs[i]?=some x,fun i H x H'=>H'=H/\∀xs,bQ K H a xs->xs[i]?=some x,fun i H=>∃xs,bQ K H a xs/\xs.length<=i⟩
def Jf (lo:Int) (n:Nat):It:=⟨fun i _=>i<n,fun i H x H'=>H'=H/\x=.int (lo+i),fun i _=>n<=i⟩
theorem Hd{P:zdw}{w:zdm}{K:zaa}{tg:Expr}(a it:zdk):Turn P w K tg (Je K a) [it] it (fun i h=>h.IsListIter it a i) where
 mem:=by simp
 obj:=fun i h st b hb=>by
  have e:b=it:=by simpa using hb
  subst e;obtain⟨o,e,c,d⟩:=st;exact⟨o,e,fun v z=>by rw[d] at z;cases z⟩
 keep:=fun i h h' st k=>st.at fun o e=>k it (by simp) o e
 item:=by
  intro X hP hw hK hc i pins s σ H E I hf st hg;subst hP hw hK;obtain⟨xs,x,hq,hx⟩:=hg;obtain⟨bC,rv,p,hz⟩:=I.list hq;obtain⟨u,hu,ru⟩:=rv.get hx;obtain⟨f0,f1,f2,f3,f4,f5⟩:=hf it (by simp);refine wpAny_pyNext_list_item st p.isList (x:=u) (by simpa using hu) fun h' He sb=>?_;have I1:Inv X pins σ H {s with heap:=h' }:=I.turned (t':=s.toks) (fun b o hb e=>(sb.2 b hb).trans e) f0 f1 f3 f4 f5;obtain⟨o,e,c,d⟩:=id He;exact⟨u,rfl,FG (s:={s with heap:=h' }) e c d (by decide) ⟨x,H,I1,ru,⟨rfl,fun ys hy=>by rw[I.B1 hy hq];exact hx⟩,He,fun b hb=>(hf b hb).1⟩⟩
 done:=by
  intro X hP hw hK hc i pins s σ H E I hf st hg;subst hP hw hK;obtain⟨xs,hq,hx⟩:=hg;obtain⟨bC,rv,p,hz⟩:=I.list hq;obtain⟨f0,f1,f2,f3,f4,f5⟩:=hf it (by simp);have hl:=rv.length;exact wpAny_pyNext_list_end (I.ok.hd hc) st p.isList (by simp;lia) fun h' eb=>⟨rfl,I.turned (t':=s.toks) (fun b o hb e=>eb b o hb e) f0 f1 f3 f4 f5⟩
 self:=fun _ _ _ _ _ st h=>wpAny_pyIter_listiter st h
theorem DV{P:zdw}{w:zdm}{K:zaa}{tg:Expr}(a it:zdk):Turn P w K tg (Pk K a) [it] it (fun i h=>h.IsTupleIter it a i) where
 mem:=by simp
 obj:=fun i h st b hb=>by
  have e:b=it:=by simpa using hb
  subst e;obtain⟨o,e,c,d⟩:=st;exact⟨o,e,fun v z=>by rw[d] at z;cases z⟩
 keep:=fun i h h' st k=>st.at fun o e=>k it (by simp) o e
 item:=by
  intro X hP hw hK hc i pins s σ H E I hf st hg;subst hP hw hK;obtain⟨xs,x,hq,hx⟩:=hg;obtain⟨bC,rv,p,hz⟩:=I.tuple hq;obtain⟨u,hu,ru⟩:=rv.get hx;obtain⟨f0,f1,f2,f3,f4,f5⟩:=hf it (by simp);refine wpAny_pyNext_tuple_item st (show s.heap.IsTuple a bC.toArray from p) (x:=u) (by simpa using hu) fun h' He sb=>?_;have I1:Inv X pins σ H {s with heap:=h' }:=I.turned (t':=s.toks) (fun b o hb e=>(sb.2 b hb).trans e) f0 f1 f3 f4 f5;obtain⟨o,e,c,d⟩:=id He;exact⟨u,rfl,FG (s:={s with heap:=h' }) e c d (by decide) ⟨x,H,I1,ru,⟨rfl,fun ys hy=>by rw[I.Ha hy hq];exact hx⟩,He,fun b hb=>(hf b hb).1⟩⟩
 done:=by
  intro X hP hw hK hc i pins s σ H E I hf st hg;subst hP hw hK;obtain⟨xs,hq,hx⟩:=hg;obtain⟨bC,rv,p,hz⟩:=I.tuple hq;obtain⟨f0,f1,f2,f3,f4,f5⟩:=hf it (by simp);have hl:=rv.length;exact wpAny_pyNext_tuple_end (I.ok.hd hc) st (show s.heap.IsTuple a bC.toArray from p) (by simp;lia) fun h' eb=>⟨rfl,I.turned (t':=s.toks) (fun b o hb e=>eb b o hb e) f0 f1 f3 f4 f5⟩
 self:=fun _ _ _ _ _ st h=>wpAny_pyIter_tupleiter st h
theorem DW{P:zdw}{w:zdm}{K:zaa}{tg:Expr}(it:zdk)(lo:Int)(n:Nat):Turn P w K tg (Jf lo n) [it] it (fun i h=>IsRangeIter h it (lo+(i:Nat)*1) ((n:Int)-(i:Nat)) 1) where
 mem:=by simp
 obj:=fun i h st b hb=>by
  have e:b=it:=by simpa using hb
  subst e;exact⟨_,st,fun v z=>by
   have z':Data.fields _=Data.cell v:=z;cases z'⟩
 keep:=fun i h h' st k=>k it (by simp) _ st
 item:=by
  intro X hP hw hK hc i pins s σ H E I hf st hg;subst hP hw hK;obtain⟨f0,f1,f2,f3,f4,f5⟩:=hf it (by simp);have W:=Walks.range (prog:=X.prog) (w:=X.w) (I.ok.hd hc) it lo 1 n;refine W.item i s _ _ hg st fun v h' tk hv He kk=>?_;obtain⟨t,rfl⟩:=hv;have I1:Inv X pins σ H {s with heap:=h',toks:=tk}:=I.turned (fun b o hb e=>kk b o (by simpa using hb) e) f0 f1 f3 f4 f5;refine⟨_,rfl,FG (s:={s with heap:=h',toks:=tk}) (n:="range_iterator") He rfl rfl (by decide) ⟨.int (lo+i),H,I1,⟨t,?_⟩,⟨rfl,rfl⟩,He,fun b hb=>(hf b hb).1⟩⟩;rw[Int.mul_one]
 done:=by
  intro X hP hw hK hc i pins s σ H E I hf st hg;subst hP hw hK;obtain⟨f0,f1,f2,f3,f4,f5⟩:=hf it (by simp);exact wpAny_pyNext_range_end (I.ok.hd hc) st (by have:n<=i:=hg;lia) fun h' eb=>⟨rfl,I.turned (t':=s.toks) (fun b o hb e=>eb b o hb e) f0 f1 f3 f4 f5⟩
 self:=fun _ _ _ _ _ st h=>wpAny_pyIter_rangeiter st h
section
variable{X:Cx}{tg:Expr}
def FI (K:zaa) (tl:TE):TI:=fun σ H R=>tl σ H fun x H1=>∃a,x=.ref a/\(∃xs,i7 K H1 a xs)/\R (Je K a) H1
def Uc (K:zaa) (tl:TE):TI:=fun σ H R=>tl σ H fun x H1=>∃a,x=.ref a/\(∃xs,bQ K H1 a xs)/\R (Pk K a) H1
theorem cI{l:Expr}{tl:TE}(hl:PE X l tl):PI X tg l (FI X.K tl):=by
 intro pins s σ H R I h;refine eZ (hl pins s σ H _ I h) fun v s1 zqz=>?_;obtain⟨x,H1,I1,r1,q1⟩:=zqz;obtain⟨a,e,⟨xs,hq⟩,q⟩:=q1;subst e;cases r1;obtain⟨bC,rv,p,hz⟩:=I1.list hq;refine wpAny_pyIter_list p.isList ?_;refine⟨s1.heap.objs.size,[s1.heap.objs.size],_,_,H1,rfl,I1.kept (t':=s1.toks) fun b o e=>Heap.get?_push_of_some _ e,Hd a _,⟨_,Heap.get?_push_size _ rfl,rfl,rfl⟩,fun b hb=>?_,q⟩;have e:b=s1.heap.objs.size:=by simpa using hb
 subst e;exact I1.B2 (zaf _) (I1.cM.fresh (zaf _))
theorem Q1{l:Expr}{tl:TE}(hl:PE X l tl):PI X tg l (Uc X.K tl):=by
 intro pins s σ H R I h;refine eZ (hl pins s σ H _ I h) fun v s1 zqz=>?_;obtain⟨x,H1,I1,r1,q1⟩:=zqz;obtain⟨a,e,⟨xs,hq⟩,q⟩:=q1;subst e;cases r1;obtain⟨bC,rv,p,hz⟩:=I1.tuple hq;refine wpAny_pyIter_tuple (show s1.heap.IsTuple a bC.toArray from p) ?_;refine⟨s1.heap.objs.size,[s1.heap.objs.size],_,_,H1,rfl,I1.kept (t':=s1.toks) fun b o e=>Heap.get?_push_of_some _ e,DV a _,⟨_,Heap.get?_push_size _ rfl,rfl,rfl⟩,fun b hb=>?_,q⟩;have e:b=s1.heap.objs.size:=by simpa using hb
 subst e;exact I1.B2 (zaf _) (I1.cM.fresh (zaf _))
theorem Jx{pins:List (zdk×Obj)}{σ:St}{H:Hp}{s:zdu}{R:It->Hp->Prop}{E:zdl->zdu->Prop}{lo hi:Int}{t u v:Tok}{tk:Nat}(I:Inv X pins σ H s)(h1 : -(2 ^ 62)<=lo)(h2:lo<2 ^ 62)(h3 : -(2 ^ 62)<=hi)(h4:hi<2 ^ 62)
 (q:R (Jf lo (hi-lo).toNat) H):wpAny (model X.prog X.w) X.A (pyIter (.ref s.heap.objs.size)) (PIE X pins σ tg R) E {s with heap:=s.heap.push {cls:=.type "range",data:=.fields #[.int lo t,.int hi u,.int 1 v]},toks:=tk}:=by
 refine wpAny_pyIter_range (IsRange.new ..) (small_one h1 h2 h3 h4) ?_;have I1:Inv X pins σ H {s with heap:=s.heap.push {cls:=.type "range",data:=.fields #[.int lo t,.int hi u,.int 1 v]},toks:=tk}:=I.kept fun b o e=>Heap.get?_push_of_some _ e;refine⟨(s.heap.push {cls:=.type "range",data:=.fields #[.int lo t,.int hi u,.int 1 v]}).objs.size,[(s.heap.push {cls:=.type "range",data:=.fields #[.int lo t,.int hi u,.int 1 v]}).objs.size],_,_,H,rfl,
  I1.kept (t':=tk) fun b o e=>Heap.get?_push_of_some _ e,DW _ lo (hi-lo).toNat,?_,fun b hb=>?_,q⟩
 ·have e1:lo+((0:Nat):Int)*1=lo:=by simp
  have e2:(((hi-lo).toNat:Nat):Int)-((0:Nat):Int)=Builtin.Range.rangeSize lo hi 1:=by rw[rangeSize_one];split<;>lia
  show IsRangeIter _ _ (lo+((0:Nat):Int)*1) ((((hi-lo).toNat:Nat):Int)-((0:Nat):Int)) 1;rw[e1,e2];exact Heap.get?_push_size _ rfl
 ·have e:b=(s.heap.push {cls:=.type "range",data:=.fields #[.int lo t,.int hi u,.int 1 v]}).objs.size:=by simpa using hb
  subst e;exact I1.B2 (zaf _) (I1.cM.fresh (zaf _))
def FJ (ta:TA):TI:=fun σ H R=>ta σ H fun vs H1=>∃j:Int,vs=[.int j]/\-(2 ^ 62)<=j/\j<2 ^ 62/\R (Jf 0 j.toNat) H1
def Pl (ta:TA):TI:=fun σ H R=>ta σ H fun vs H1=>∃i j:Int,vs=[.int i,.int j]/\(-(2 ^ 62)<=i/\i<2 ^ 62/\-(2 ^ 62)<=j/\j<2 ^ 62)/\R (Jf i (j-i).toNat) H1
theorem ik{a:Expr}{ta:TA}{p pos:Pos}(hg:Gl X "range")(hm:X.mg "range"=none)(ha:PA X [a] ta)(hs:zdq [a] X.env=[(false,eval a X.env)]:=by rfl):PI X tg (.Call (.Name "range" p) [a] [] pos) (FJ ta):=by
 intro pins s σ H R I h;refine Call_ (rF I hg hm boot_range (zbo (eZ (ha pos pins s σ H _ I h) fun us s1 zqz=>?_) hs rfl));obtain⟨vs,H1,I1,r1,q1⟩:=zqz;obtain⟨j,e,q1,q2,q⟩:=q1;subst e;cases r1 with
 |cons r rr=>
  cases rr;obtain⟨t,rfl⟩:=r;exact call_range_1 (Jx I1 (by lia) (by lia) q1 q2 (by simpa using q))
def Hf (wi:TI) (g:TG) (tb:TS):TS:=fun D σ H=>wi σ H fun J H1=>∃W:Nat->Nat->St->Hp->Prop,(∃m,W 0 m σ H1)/\∀i m σ H,W i m σ H->
 (J.stop i H/\D.nx σ H)\/(J.go i H/\∃N:St->Hp->Prop,(∀σ' H',N σ' H'->∃m',m'<m/\W (i+1) m' σ' H')/\∀x H',J.zw i H x H'->g x σ H' fun σ2 H2=>tb {D with nx:=N,ct:=N,bk:=D.nx} σ2 H2)
def w8 (fp:List zdk) (h:Heap):List (zdk×Obj):=fp.filterMap fun b=>(h.get? b).map fun o=>(b,o)
theorem mZ{fp:List zdk}{h:Heap}{b:zdk}{o:Obj}(hb:b∈fp)(e:h.get? b=some o):(b,o)∈w8 fp h:=List.mem_filterMap.mpr ⟨b,hb,by rw[e];rfl⟩
theorem Hg{fp:List zdk}{h:Heap}{p:zdk×Obj}(hp:p∈w8 fp h):p.1∈fp/\h.get? p.1=some p.2:=by
 obtain⟨b,hb,e⟩:=List.mem_filterMap.mp hp;cases q:h.get? b with
 |none=>rw[q] at e;cases e
 |some o=>
  rw[q] at e;have e':(b,o)=p:=zaO.inj e;subst e';exact⟨hb,q⟩
theorem Inv.pinned{pins:List (zdk×Obj)}{σ:St}{H:Hp}{s:zdu}{fp:List zdk}(I:Inv X pins σ H s)(hf:∀b∈fp,sS X pins H b)(ho:∀b∈fp,∃o,s.heap.get? b=some o/\∀v,o.data≠.cell v):Inv X (pins++w8 fp s.heap) σ H s:=
 I.FD fun p hp=>(zaz.mp hp).elim (fun z=>I.pin p (zaL _ z)) fun z=>by
  obtain⟨hb,e⟩:=Hg z;obtain⟨f0,f1,f2,_⟩:=hf p.1 hb;obtain⟨o,e',d⟩:=ho p.1 hb;rw[e] at e';cases e';exact⟨e,f0,f1,f2,d⟩
theorem Inv.sT{pins pl:List (zdk×Obj)}{σ:St}{H:Hp}{s:zdu}(I:Inv X (pins++pl) σ H s):Inv X pins σ H s:=I.FD fun p hp=>I.pin p (zaL _ (zbT _ hp))
theorem du{iter:Expr}{body:List Stmt}{wi:TI}{g:TG}{tb:TS}{pos:Pos}(hp:PassesOwn (model X.prog X.w) X.A X.env X.xe)(hc:X.calm=true)(hi:PI X tg iter wi)(hg:PG X tg g)(hb:DN X body tb)
 (hs:∀x,foldedSetIterable iter X.env x=pure x:=by intro _;rfl):PS X (.For tg iter body [] pos) (Hf wi g tb):=by
 intro pins s σ H D I h;refine wpAny_For (eZ (hi pins s σ H _ I h) fun v s1 h1=>eZ h1 fun Yk s2 h2=>?_) hs;obtain⟨it,fp,tn,J,H2,e,I2,T,yH,f2,W,⟨m0,w0⟩,turn⟩:=h2;subst e;have stat:∀ {H':Hp},(∀b∈fp,H' b=none)->∀b∈fp,sS X pins H' b:=fun hn b hb=>⟨hn b hb,(f2 b hb).2⟩
 refine codeAny_forLoop_any (fun n s'=>∃i σ' H',Inv X pins σ' H' s'/\tn i s'.heap/\(∀b∈fp,H' b=none)/\W i n σ' H') ?_ m0 ⟨0,σ,H2,I2,yH,fun b hb=>(f2 b hb).1,w0⟩
 rintro n s3 ⟨i,σ3,H3,I3,Pm,Ud,w3⟩
 rcases turn i n σ3 H3 w3 with ⟨stop,qn⟩ |⟨go,N,hN,step⟩
 ·refine wpAny_passesOwn hp (eZ (T.done X rfl rfl rfl hc i pins s3 σ3 H3 X.xe I3 (stat Ud) Pm stop) fun r s4 zqz=>?_);obtain⟨hr,I4⟩:=zqz;subst hr;exact wpAny_execs_nil ⟨σ3,H3,I4,qn⟩
 ·refine wpAny_passesOwn hp (eZ (T.item X rfl rfl rfl hc i pins s3 σ3 H3 X.xe I3 (stat Ud) Pm go) fun r s4 zqz=>?_);obtain⟨u,hr,h4⟩:=zqz;subst hr;refine wpAny_passesOwn hp (eZ h4 fun _ s5 zqz=>?_);obtain⟨x,H5,I5,r5,y5,Jy,Yl⟩:=zqz;have Ym:=I5.pinned (stat Yl) (T.obj _ _ Jy);refine wpAny_passesOwn hp (eZ (hg _ s5 σ3 H5 x u _ Ym r5 (step x H5 y5)) fun _ s6 zqz=>?_);obtain⟨σ6,H6,I6,q6⟩:=zqz;refine wpAny_passesOwn hp (eZ (hb _ s6 σ6 H6 _ I6 q6) fun f s7 q7=>?_);have again:∀ {σ7:St} {H7:Hp},Inv X (pins++w8 fp s5.heap) σ7 H7 s7->N σ7 H7->∃m,m<n/\∃i σ' H',Inv X pins σ' H' s7/\tn i s7.heap/\(∀b∈fp,H' b=none)/\W i m σ' H':=fun {σ7 H7} I7 n7=>by
   obtain⟨m',hm,w7⟩:=hN σ7 H7 n7;refine⟨m',hm,i+1,σ7,H7,I7.sT,T.keep _ _ _ Jy fun b hb o e=>(I7.pin (b,o) (zaL _ (zaL _ (mZ hb e)))).1,fun b hb=>?_,w7⟩;obtain⟨o,e,d⟩:=T.obj _ _ Jy b hb;exact(I7.pin (b,o) (zaL _ (zaL _ (mZ hb e)))).2.1
  cases f with
  |next=>obtain⟨σ7,H7,I7,n7⟩:=q7;exact again I7 n7
  |cont=>obtain⟨σ7,H7,I7,n7⟩:=q7;exact again I7 n7
  |brk=>obtain⟨σ7,H7,I7,q7⟩:=q7;exact⟨σ7,H7,I7.sT,q7⟩
  |ret v=>obtain⟨x7,σ7,H7,I7,r7,q7⟩:=q7;exact⟨x7,σ7,H7,I7.sT,r7,q7⟩
end
theorem fG{K:zaa}{a:zdk}{xs:List V}{g:TG}{tb:TS}{D:Ends}{σ:St}{H:Hp}(Pv:Nat->St->Hp->Prop)(h0:Pv 0 σ H)(hl:∀i σ H,i<=xs.length->Pv i σ H->i7 K H a xs)
 (hs:∀i x σ H,xs[i]?=some x->Pv i σ H->g x σ H fun σ2 H2=>tb {D with nx:=Pv (i+1),ct:=Pv (i+1),bk:=D.nx} σ2 H2) (hd:∀σ H,Pv xs.length σ H->D.nx σ H) :
 ∃W:Nat->Nat->St->Hp->Prop,(∃m,W 0 m σ H)/\∀i m σ H,W i m σ H->
  ((Je K a).stop i H/\D.nx σ H)\/((Je K a).go i H/\∃N:St->Hp->Prop,(∀σ' H',N σ' H'->∃m',m'<m/\W (i+1) m' σ' H')/\∀x H',(Je K a).zw i H x H'->g x σ H' fun σ2 H2=>tb {D with nx:=N,ct:=N,bk:=D.nx} σ2 H2):=by
 refine⟨fun i m σ H=>m=xs.length-i/\i<=xs.length/\Pv i σ H,⟨xs.length,by simp,za0 _,h0⟩,?_⟩
 rintro i m σ H ⟨rfl,hi,p⟩
 have q:=hl i σ H hi p;by_cases oC:i<xs.length
 ·refine .inr ⟨⟨xs,xs[i],q,by simp[oC]⟩,Pv (i+1),fun σ' H' p'=>⟨xs.length-(i+1),by lia,rfl,oC,p'⟩,fun x H' y=>?_⟩;obtain⟨e,y⟩:=y;subst e;exact hs i x σ _ (y xs q) p
 ·have e:i=xs.length:=by lia
  subst e;exact .inl ⟨⟨xs,q,zaf _⟩,hd σ H p⟩
theorem Nq{K:zaa}{a:zdk}{xs:List V}{g:TG}{tb:TS}{D:Ends}{σ:St}{H:Hp}(Pv:Nat->St->Hp->Prop)(h0:Pv 0 σ H)(hl:∀i σ H,i<=xs.length->Pv i σ H->bQ K H a xs)
 (hs:∀i x σ H,xs[i]?=some x->Pv i σ H->g x σ H fun σ2 H2=>tb {D with nx:=Pv (i+1),ct:=Pv (i+1),bk:=D.nx} σ2 H2) (hd:∀σ H,Pv xs.length σ H->D.nx σ H) :
 ∃W:Nat->Nat->St->Hp->Prop,(∃m,W 0 m σ H)/\∀i m σ H,W i m σ H->
  ((Pk K a).stop i H/\D.nx σ H)\/((Pk K a).go i H/\∃N:St->Hp->Prop,(∀σ' H',N σ' H'->∃m',m'<m/\W (i+1) m' σ' H')/\∀x H',(Pk K a).zw i H x H'->g x σ H' fun σ2 H2=>tb {D with nx:=N,ct:=N,bk:=D.nx} σ2 H2):=by
 refine⟨fun i m σ H=>m=xs.length-i/\i<=xs.length/\Pv i σ H,⟨xs.length,by simp,za0 _,h0⟩,?_⟩
 rintro i m σ H ⟨rfl,hi,p⟩
 have q:=hl i σ H hi p;by_cases oC:i<xs.length
 ·refine .inr ⟨⟨xs,xs[i],q,by simp[oC]⟩,Pv (i+1),fun σ' H' p'=>⟨xs.length-(i+1),by lia,rfl,oC,p'⟩,fun x H' y=>?_⟩;obtain⟨e,y⟩:=y;subst e;exact hs i x σ _ (y xs q) p
 ·have e:i=xs.length:=by lia
  subst e;exact .inl ⟨⟨xs,q,zaf _⟩,hd σ H p⟩
theorem ki{lo:Int}{n:Nat}{g:TG}{tb:TS}{D:Ends}{σ:St}{H:Hp}(Pv:Nat->St->Hp->Prop)(h0:Pv 0 σ H)
 (hs:∀i σ H,i<n->Pv i σ H->g (.int (lo+i)) σ H fun σ2 H2=>tb {D with nx:=Pv (i+1),ct:=Pv (i+1),bk:=D.nx} σ2 H2) (hd:∀σ H,Pv n σ H->D.nx σ H) :
 ∃W:Nat->Nat->St->Hp->Prop,(∃m,W 0 m σ H)/\∀i m σ H,W i m σ H->
  ((Jf lo n).stop i H/\D.nx σ H)\/((Jf lo n).go i H/\∃N:St->Hp->Prop,(∀σ' H',N σ' H'->∃m',m'<m/\W (i+1) m' σ' H')/\∀x H',(Jf lo n).zw i H x H'->g x σ H' fun σ2 H2=>tb {D with nx:=N,ct:=N,bk:=D.nx} σ2 H2):=by
 refine⟨fun i m σ H=>m=n-i/\i<=n/\Pv i σ H,⟨n,by simp,za0 _,h0⟩,?_⟩
 rintro i m σ H ⟨rfl,hi,p⟩
 by_cases oC:i<n
 ·refine .inr ⟨oC,Pv (i+1),fun σ' H' p'=>⟨n-(i+1),by lia,rfl,oC,p'⟩,fun x H' y=>?_⟩;obtain⟨e,y⟩:=y;subst e y;exact hs i σ _ oC p
 ·have e:i=n:=by lia
  subst e;exact .inl ⟨zaf _,hd σ H p⟩
abbrev R2:=V->V->Hp->VK->Prop
def rK (X:Cx) (f:zdl->zdl->Sem zdl) (r:R2):Prop:=
 ∀(pins:List (zdk×Obj)) (s:zdu) (σ:St) (H:Hp) (x y:V) (v u:zdl) (Q:VK),Inv X pins σ H s->RelV x v->RelV y u->r x y H Q->
  wpAny (model X.prog X.w) X.A (f v u) (EP X pins σ Q) X.xe s
def Yn (X:Cx) (f:zdl->Sem zdl) (r:V->Hp->VK->Prop):Prop:=
 ∀(pins:List (zdk×Obj)) (s:zdu) (σ:St) (H:Hp) (x:V) (v:zdl) (Q:VK),Inv X pins σ H s->RelV x v->r x H Q->
  wpAny (model X.prog X.w) X.A (f v) (EP X pins σ Q) X.xe s
def mq (X:Cx) (f:zdl) (r:List V->Hp->VK->Prop):Prop:=
 ∀(pins:List (zdk×Obj)) (s:zdu) (σ:St) (H:Hp) (xs:List V) (us:List zdl) (Q:VK),Inv X pins σ H s->Vals xs us->r xs H Q->
  wpAny (model X.prog X.w) X.A (call f us) (EP X pins σ Q) X.xe s
def Yo (X:Cx) (r:V->Hp->(Bool->Hp->Prop)->Prop):Prop:=
 ∀(pins:List (zdk×Obj)) (s:zdu) (σ:St) (H:Hp) (x:V) (v:zdl) (Q:Bool->Hp->Prop),Inv X pins σ H s->RelV x v->r x H Q->
  wpAny (model X.prog X.w) X.A (truthy v) (TP X pins σ Q) X.xe s
def Ue (r:R2) (ta tb:TE):TE:=fun σ H Q=>ta σ H fun x H1=>tb σ H1 fun y H2=>r x y H2 Q
def Yp (r:V->Hp->VK->Prop) (ta:TE):TE:=fun σ H Q=>ta σ H fun x H1=>r x H1 Q
def rI (C:Int->Int->Prop) (g:Int->Int->V):R2:=fun x y H Q=>∃i j,x=.int i/\y=.int j/\C i j/\Q (g i j) H
def Pn (g:Int->Int->V):R2:=fun x y H Q=>∃i j,x=.int i/\y=.int j/\Q (g i j) H
def rU (g:Int->V):V->Hp->VK->Prop:=fun x H Q=>∃i,x=.int i/\Q (g i) H
section
variable{X:Cx}{a b c:Expr}{ta tb tc:TE}{pos:Pos}
theorem Q2(ha:PE X a ta)(hb:PE X b tb){pins:List (zdk×Obj)}{s:zdu}{σ:St}{H:Hp}{R:V->V->Hp->Prop}(I:Inv X pins σ H s)
 (h:ta σ H fun x H1=>tb σ H1 fun y H2=>R x y H2) {Q:zdl->zdu->Prop} {f:zdl->zdl->Sem zdl}
 (hf:∀v u s2 x y H2,Inv X pins σ H2 s2->RelV x v->RelV y u->R x y H2->wpAny (model X.prog X.w) X.A (f v u) Q X.xe s2) :
 wpAny (model X.prog X.w) X.A (eval a X.env) (fun v s₁=>wpAny (model X.prog X.w) X.A (eval b X.env) (fun u s₂=>wpAny (model X.prog X.w) X.A (f v u) Q X.xe s₂) X.xe s₁) X.xe s:=by
 refine eZ (ha pins s σ H _ I h) fun v s1 zqz=>?_;obtain⟨x,H1,I1,r1,q1⟩:=zqz;refine eZ (hb pins s1 σ H1 _ I1 q1) fun u s2 zqz=>?_;obtain⟨y,H2,I2,r2,q2⟩:=zqz;exact hf v u s2 x y H2 I2 r1 r2 q2
theorem bf{op:Operator}{r:R2}(ho:rK X (binaryOp op) r)(ha:PE X a ta)(hb:PE X b tb):PE X (.BinOp a op b pos) (Ue r ta tb):=by
 intro pins s σ H Q I h;exact wpAny_BinOp (Q2 ha hb I h fun v u s2 x y H2 I2 rx ry q=>ho pins s2 σ H2 x y v u Q I2 rx ry q)
theorem vI{op:UnaryOp}{r:V->Hp->VK->Prop}(ho:Yn X (unaryOp op) r)(ha:PE X a ta):PE X (.UnaryOp op a pos) (Yp r ta):=by
 intro pins s σ H Q I h;exact UnaryOp_ (eZ (ha pins s σ H _ I h) fun v s1 ⟨x,H1,I1,r1,q1⟩=>ho pins s1 σ H1 x v Q I1 r1 q1)
theorem Ug{f:zdl->zdl->Sem zdl}{C:Int->Int->Prop}{g:Int->Int->Int}
 (rule:∀(i j:Int) (t u:Tok) (s:zdu) (Q:zdl->zdu->Prop) (E:zdl->zdu->Prop),C i j->Q (.int (g i j) s.toks) {s with toks:=s.toks+1}->wpAny (model X.prog X.w) X.A (f (.int i t) (.int j u)) Q E s) :
 rK X f (rI C fun i j=>.int (g i j)):=by
 intro pins s σ H x y v u Q I rx ry h;obtain⟨i,j,rfl,rfl,hc,q⟩:=h;obtain⟨t,rfl⟩:=rx;obtain⟨t',rfl⟩:=ry;exact rule i j t t' s _ _ hc ⟨.int (g i j),H,I.tok _,⟨_,rfl⟩,q⟩
theorem Uh{f:zdl->zdl->Sem zdl}{g:Int->Int->Int}
 (rule:∀(i j:Int) (t u:Tok) (s:zdu) (Q:zdl->zdu->Prop) (E:zdl->zdu->Prop),Q (.int (g i j) s.toks) {s with toks:=s.toks+1}->wpAny (model X.prog X.w) X.A (f (.int i t) (.int j u)) Q E s) :
 rK X f (Pn fun i j=>.int (g i j)):=by
 intro pins s σ H x y v u Q I rx ry h;obtain⟨i,j,rfl,rfl,q⟩:=h;obtain⟨t,rfl⟩:=rx;obtain⟨t',rfl⟩:=ry;exact rule i j t t' s _ _ ⟨.int (g i j),H,I.tok _,⟨_,rfl⟩,q⟩
theorem Q3{f:zdl->zdl->Sem zdl}{g:Int->Int->Bool}
 (rule:∀(i j:Int) (t u:Tok) (s:zdu) (Q:zdl->zdu->Prop) (E:zdl->zdu->Prop),Q (.bool (g i j)) s->wpAny (model X.prog X.w) X.A (f (.int i t) (.int j u)) Q E s) :
 rK X f (Pn fun i j=>.bl (g i j)):=by
 intro pins s σ H x y v u Q I rx ry h;obtain⟨i,j,rfl,rfl,q⟩:=h;obtain⟨t,rfl⟩:=rx;obtain⟨t',rfl⟩:=ry;exact rule i j t t' s _ _ ⟨.bl (g i j),H,I,rfl,q⟩
def Ui (i j:Int):Prop:=0<j/\j<1073741824
def Uj (i j:Int):Prop:=0<=j/\j<=1000000/\i.natAbs<2 ^ 64
def Jz (i j:Int):Prop:=(-(2 ^ 64)<i/\i<2 ^ 64)\/(-(2 ^ 64)<j/\j<2 ^ 64)
theorem Jz.ok{i j:Int}(h:Jz i j):IntMulOk i j:=by
 rcases h with ⟨h1,h2⟩ |⟨h1,h2⟩
 ·exact .of_left (intBits_le_64 h1 h2)
 ·exact .of_right (intBits_le_64 h1 h2)
theorem dP:rK X (binaryOp .Add) (Pn fun i j=>.int (i+j)):=Uh fun _ _ _ _ _ _ _ q=>add_int q
theorem w9:rK X (binaryOp .Sub) (Pn fun i j=>.int (i-j)):=Uh fun _ _ _ _ _ _ _ q=>sub_int q
theorem rL:rK X (binaryOp .Mult) (rI Jz fun i j=>.int (i*j)):=Ug fun _ _ _ _ _ _ _ hc q=>mul_int q hc.ok
theorem Ay:rK X (binaryOp .FloorDiv) (rI Ui fun i j=>.int (i/j)):=Ug fun i j _ _ _ _ _ hc q=>by
 have h1:(0:Int)<j:=hc.1;have h2:j<1073741824:=hc.2;exact floordiv_int (by lia) (by rw[Int.fdiv_eq_ediv_of_nonneg i (by lia)];exact q) (.inl (PyProof.noPylong_small (by lia)))
theorem cJ:rK X (binaryOp .Mod) (rI (fun _ j=>0<j) fun i j=>.int (i%j)):=Ug fun i j _ _ _ _ _ hc q=>by
 have h1:(0:Int)<j:=hc;exact mod_int' (by lia) (by rw[Int.fmod_eq_emod_of_nonneg i (by lia)];exact q)
theorem Q4:rK X (binaryOp .Pow) (rI Uj fun i j=>.int (i ^ j.toNat)):=Ug fun _ _ _ _ _ _ _ hc q=>pow_int_small hc.1 hc.2.1 hc.2.2 q
theorem unI{f:zdl->Sem zdl}{g:Int->Int}
 (rule:∀(i:Int) (t:Tok) (s:zdu) (Q:zdl->zdu->Prop) (E:zdl->zdu->Prop),Q (.int (g i) s.toks) {s with toks:=s.toks+1}->wpAny (model X.prog X.w) X.A (f (.int i t)) Q E s) :
 Yn X f (rU fun i=>.int (g i)):=by
 intro pins s σ H x v Q I rx h;obtain⟨i,rfl,q⟩:=h;obtain⟨t,rfl⟩:=rx;exact rule i t s _ _ ⟨.int (g i),H,I.tok _,⟨_,rfl⟩,q⟩
theorem oS:Yn X (unaryOp .USub) (rU fun i=>.int (-i)):=unI fun _ _ _ _ _ q=>neg_int q
end
def Hh:V->V->Bool
 |.cC,.cC=>true |.cC,.int _=>true |.int _,.cC=>true |.cC,.bl _=>true |.bl _,.cC=>true |.cC,.str _=>true |.str _,.cC=>true
 |.int _,.int _=>true |.bl _,.bl _=>true |.str _,.str _=>true |.FA _,.FA _=>true
 |.int _,.str _=>true |.str _,.int _=>true |.bl _,.str _=>true |.str _,.bl _=>true
 |_,_=>false
def rEq:R2:=fun x y H Q=>Hh x y=true/\Q (.bl (decide (x=y))) H
def rNe:R2:=fun x y H Q=>Hh x y=true/\Q (.bl (!decide (x=y))) H
theorem FK{i j:Int}:decide (V.int i=V.int j)=(i==j):=by
 rw[zbO];simp
theorem JA{i j:Bool}:decide (V.bl i=V.bl j)=(i==j):=by
 rw[zbO];simp
theorem FL{i j:Str}:decide (V.str i=V.str j)=(i==j):=by
 rw[zbO];simp
theorem FN{i j:Array UInt8}:decide (V.FA i=V.FA j)=(i.toList==j.toList):=by
 rw[zbO];cases i;cases j;simp
section
variable{X:Cx}{a b c:Expr}{ta tb tc:TE}{pos:Pos}
theorem ck{pins:List (zdk×Obj)}{σ:St}{H:Hp}{s:zdu}{Q:VK}{k k':Bool}(I:Inv X pins σ H s)(q:Q (.bl k) H)(e:k=k'):EP X pins σ Q (.bool k') s:=by
 subst e;exact⟨.bl k,H,I,rfl,q⟩
theorem bN:rK X (compareOp .Eq) rEq:=by
 intro pins s σ H x y v u Q I rx ry h;obtain⟨hs,q⟩:=h;cases x with
 |cC=>
  cases rx;cases y with
  |cC=>cases ry;exact PySem.EqNone.eq_none_none (ck I q (by simp))
  |bl j=>cases ry;exact PySem.EqNone.eq_none_bool (ck I q (by simp))
  |int j=>obtain⟨t',rfl⟩:=ry;exact PySem.EqNone.eq_none_int (ck I q (by simp))
  |str j=>obtain⟨t',rfl⟩:=ry;exact PySem.EqNone.eq_none_str (ck I q (by simp))
  |_=>exact zzb (show false=true from hs) zai
 |bl i=>
  cases rx;cases y with
  |cC=>cases ry;exact PySem.EqNone.eq_bool_none (ck I q (by simp))
  |bl j=>cases ry;exact eq_bool (ck I q JA)
  |str j=>obtain⟨t',rfl⟩:=ry;exact PySem.EqMixed.eq_bool_str (ck I q (by simp))
  |_=>exact zzb (show false=true from hs) zai
 |int i=>
  obtain⟨t,rfl⟩:=rx;cases y with
  |cC=>cases ry;exact PySem.EqNone.eq_int_none (ck I q (by simp))
  |int j=>obtain⟨t',rfl⟩:=ry;exact eq_int (ck I q FK)
  |str j=>obtain⟨t',rfl⟩:=ry;exact PySem.EqMixed.eq_int_str (ck I q (by simp))
  |_=>exact zzb (show false=true from hs) zai
 |str i=>
  obtain⟨t,rfl⟩:=rx;cases y with
  |cC=>cases ry;exact PySem.EqNone.eq_str_none (ck I q (by simp))
  |bl j=>cases ry;exact PySem.EqMixed.eq_str_bool (ck I q (by simp))
  |int j=>obtain⟨t',rfl⟩:=ry;exact PySem.EqMixed.eq_str_int (ck I q (by simp))
  |str j=>obtain⟨t',rfl⟩:=ry;exact eq_str (ck I q FL)
  |_=>exact zzb (show false=true from hs) zai
 |FA i=>
  obtain⟨t,rfl⟩:=rx;cases y with
  |FA j=>obtain⟨t',rfl⟩:=ry;exact PySem.W.eq_bytes (ck I q FN)
  |_=>exact zzb (show false=true from hs) zai
 |_=>cases y<;>exact zzb (show false=true from hs) zai
theorem JB:rK X (compareOp .NotEq) rNe:=by
 intro pins s σ H x y v u Q I rx ry h;obtain⟨hs,q⟩:=h;cases x with
 |cC=>
  cases rx;cases y with
  |cC=>cases ry;exact PySem.EqNone.ne_none_none (ck I q (by simp))
  |bl j=>cases ry;exact PySem.EqNone.ne_none_bool (ck I q (by simp))
  |int j=>obtain⟨t',rfl⟩:=ry;exact PySem.EqNone.ne_none_int (ck I q (by simp))
  |str j=>obtain⟨t',rfl⟩:=ry;exact PySem.EqNone.ne_none_str (ck I q (by simp))
  |_=>exact zzb (show false=true from hs) zai
 |bl i=>
  cases rx;cases y with
  |cC=>cases ry;exact PySem.EqNone.ne_bool_none (ck I q (by simp))
  |bl j=>cases ry;exact ne_bool (ck I q (congrArg not JA))
  |str j=>obtain⟨t',rfl⟩:=ry;exact PySem.EqMixed.ne_bool_str (ck I q (by simp))
  |_=>exact zzb (show false=true from hs) zai
 |int i=>
  obtain⟨t,rfl⟩:=rx;cases y with
  |cC=>cases ry;exact PySem.EqNone.ne_int_none (ck I q (by simp))
  |int j=>obtain⟨t',rfl⟩:=ry;exact ne_int (ck I q (congrArg not FK))
  |str j=>obtain⟨t',rfl⟩:=ry;exact PySem.EqMixed.ne_int_str (ck I q (by simp))
  |_=>exact zzb (show false=true from hs) zai
 |str i=>
  obtain⟨t,rfl⟩:=rx;cases y with
  |cC=>cases ry;exact PySem.EqNone.ne_str_none (ck I q (by simp))
  |bl j=>cases ry;exact PySem.EqMixed.ne_str_bool (ck I q (by simp))
  |int j=>obtain⟨t',rfl⟩:=ry;exact PySem.EqMixed.ne_str_int (ck I q (by simp))
  |str j=>obtain⟨t',rfl⟩:=ry;exact ne_str (ck I q (congrArg not FL))
  |_=>exact zzb (show false=true from hs) zai
 |FA i=>
  obtain⟨t,rfl⟩:=rx;cases y with
  |FA j=>obtain⟨t',rfl⟩:=ry;exact PySem.W.ne_bytes (ck I q (congrArg not FN))
  |_=>exact zzb (show false=true from hs) zai
 |_=>cases y<;>exact zzb (show false=true from hs) zai
theorem oT:rK X (compareOp .Lt) (Pn fun i j=>.bl (decide (i<j))):=Q3 fun _ _ _ _ _ _ _ q=>lt_int q
theorem JC:rK X (compareOp .Gt) (Pn fun i j=>.bl (decide (j<i))):=Q3 fun _ _ _ _ _ _ _ q=>gt_int q
theorem Uk:rK X (compareOp .GtE) (Pn fun i j=>.bl (decide (j<=i))):=Q3 fun _ _ _ _ _ _ _ q=>ge_int q
theorem JD:rK X (compareOp .Is) (fun x y H Q=>y=.cC/\Q (.bl (decide (x=.cC))) H):=by
 intro pins s σ H x y v u Q I rx ry h;obtain⟨rfl,q⟩:=h;cases ry;refine is_none_gen (ck I q ?_);cases x<;>first
  |(cases rx;rfl)
  |(obtain⟨t,rfl⟩:=rx;rfl)
theorem Az:rK X (compareOp .IsNot) (fun x y H Q=>y=.cC/\Q (.bl (!decide (x=.cC))) H):=by
 intro pins s σ H x y v u Q I rx ry h;obtain⟨rfl,q⟩:=h;cases ry;refine isnot_none_gen (ck I q ?_);cases x<;>first
  |(cases rx;rfl)
  |(obtain⟨t,rfl⟩:=rx;rfl)
theorem aR(b:Expr){op:CmpOp}(h:op≠.In:=by decide)(h2:op≠.NotIn:=by decide):behindInMarks op b=false:=by
 have e1:(op==CmpOp.In)=false:=by cases op<;>first |rfl |exact zzb rfl h
 have e2:(op==CmpOp.NotIn)=false:=by cases op<;>first |rfl |exact zzb rfl h2
 cases b<;>simp[behindInMarks,e1,e2]
theorem kX{op:CmpOp}{r:R2}(ho:rK X (compareOp op) r)(ha:PE X a ta)(hb:PE X b tb)(hm:behindInMarks op b=false):PE X (.Compare a [op] [b] pos) (Ue r ta tb):=by
 intro pins s σ H Q I h;exact wpAny_Compare1 (Q2 ha hb I h fun v u s2 x y H2 I2 rx ry q=>ho pins s2 σ H2 x y v u Q I2 rx ry q) hm
def FO (t:TE):TT:=fun σ H Q=>t σ H fun x H'=>∃k,x=.bl k/\Q k H'
theorem aD{op:CmpOp}{r:R2}(ho:rK X (compareOp op) r)(ha:PE X a ta)(hb:PE X b tb)(hm:behindInMarks op b=false):PT X (.Compare a [op] [b] pos) (FO (Ue r ta tb)):=by
 intro pins s σ H Q I h;refine wpAny_isTrue_Compare1 (eZ (ha pins s σ H _ I h) fun v s1 zqz=>?_) hm;obtain⟨x,H1,I1,r1,q1⟩:=zqz;refine eZ (hb pins s1 σ H1 _ I1 q1) fun u s2 zqz=>?_;obtain⟨y,H2,I2,r2,q2⟩:=zqz;refine eZ (ho pins s2 σ H2 x y v u _ I2 r1 r2 q2) fun c s3 zqz=>?_;obtain⟨z,H3,I3,r3,k,e,q3⟩:=zqz;subst e;cases r3;exact wpAny_truthy_bool ⟨H3,I3,q3⟩
def JE (r r':R2) (ta tb tc:TE):TE:=fun σ H Q=>ta σ H fun x H1=>tb σ H1 fun y H2=>r x y H2 fun z H3=>∃k,z=.bl k/\
 (if k=true then tc σ H3 fun w' H4=>r' y w' H4 Q else Q (.bl false) H3)
def Ul (K:zaa) (x:V) (H:Hp) (k:Bool):Prop:=
 match x with
 |.cC=>k=false
 |.bl b=>k=b
 |.int i=>k=(i != 0)
 |.str y=>y.length<=zds/\k=((y.length:Int) != 0)
 |.FA y=>y.size<=zds/\k=((y.size:Int) != 0)
 |.ref p=>(∃xs,i7 K H p xs/\k = !xs.isEmpty)\/(∃xs,bQ K H p xs/\k = !xs.isEmpty)\/∃ax,H p=some (.dK ax)/\k = !ax.isEmpty
 |_=>False
theorem DX{κ:Type}{ax:List (κ×V)}{vs:List (κ×zdl)}(r:KV ax vs):(!vs.isEmpty) = !ax.isEmpty:=by
 cases r<;>rfl
theorem xb{xs:List V}{bC:List zdl}(r:Vals xs bC):(!bC.toArray.isEmpty) = !xs.isEmpty:=by
 cases r<;>simp
theorem uM:(zds:Nat)<2 ^ 63:=by rw[sizeLine_eq];decide
theorem Q5:Yo X (fun x H Q=>∃k,Ul X.K x H k/\Q k H):=by
 intro pins s σ H x v Q I rx h;obtain⟨k,e,q⟩:=h;have hl:=uM;have hs:zds=16777216:=sizeLine_eq;cases x with
 |cC=>
  cases rx;have e':k=false:=e;subst e';exact truthy_none ⟨H,I,q⟩
 |bl b=>
  cases rx;have e':k=b:=e;subst e';exact wpAny_truthy_bool ⟨H,I,q⟩
 |int i=>
  obtain⟨t,rfl⟩:=rx;have e':k=(i != 0):=e;subst e';exact PySem.P.truthy_int ⟨H,I,q⟩
 |str y=>
  obtain⟨t,rfl⟩:=rx;obtain⟨hy,e'⟩:y.length<=zds/\k=((y.length:Int) != 0):=e;subst e';exact PySem.P.truthy_str (by lia) ⟨H,I.tok _,q⟩
 |FA y=>
  obtain⟨t,rfl⟩:=rx;obtain⟨hy,e'⟩:y.size<=zds/\k=((y.size:Int) != 0):=e;subst e';exact PySem.W.truthy_bytes (by lia) ⟨H,I.tok _,q⟩
 |ref p=>
  cases rx;have e':(∃xs,i7 X.K H p xs/\k = !xs.isEmpty)\/(∃xs,bQ X.K H p xs/\k = !xs.isEmpty)\/∃ax,H p=some (.dK ax)/\k = !ax.isEmpty:=e;rcases e' with ⟨xs,hx,e'⟩ |⟨xs,hx,e'⟩ |⟨ax,hx,e'⟩
  ·subst e';obtain⟨bC,r,pl,hz⟩:=I.list hx;have hlen:=r.length;exact wpAny_truthy_list pl.isList (by simp only[zas];lia) ⟨H,I.tok _,by rw[xb r];exact q⟩
  ·subst e';obtain⟨bC,r,pl,hz⟩:=I.tuple hx;have hlen:=r.length;exact truthy_tuple pl (by simp only[zas];lia) ⟨H,I.tok _,by rw[xb r];exact q⟩
  ·subst e';obtain⟨hz,hS,vs,r,m⟩:ax.length<=zds/\(p==sysModules)=false/\∃vs,KV ax vs/\s.heap.DictOf (bT X.prog X.w) p vs:=I.cM p _ hx;have hlen:ax.length=vs.length:=Paired.length r;exact wpAny_truthy_dict hS m (by lia) ⟨H,I.tok _,by rw[DX r];exact q⟩
 |_=>exact(show False from e).elim
theorem B3(ha:PE X a ta)(he:∀whole,isTrue a X.env whole=(do let v <- whole;standAt a.pos;holding [v] (truthy v))) :
 PT X a (fun σ H Q=>ta σ H fun x H'=>∃k,Ul X.K x H' k/\Q k H'):=by
 intro pins s σ H Q I h;exact isTrue_plain (eZ (ha pins s σ H _ I h) fun v s1 ⟨x,H1,I1,r1,q1⟩=>Q5 pins s1 σ H1 x v Q I1 r1 q1) (he _)
theorem vals1{x:V}{us:List zdl}(r:Vals [x] us):∃u,us=[u]/\RelV x u:=by
 cases r with
 |cons r1 r2=>cases r2;exact⟨_,rfl,r1⟩
theorem vals2{x y:V}{us:List zdl}(r:Vals [x,y] us):∃u w',us=[u,w']/\RelV x u/\RelV y w':=by
 cases r with
 |cons r1 r2=>
  cases r2 with
  |cons r3 r4=>cases r4;exact⟨_,_,rfl,r1,r3⟩
theorem Hi(hc:X.calm=true):mq X (.builtin "max") (fun xs H Q=>∃i j,xs=[.int i,.int j]/\Q (.int (if j>i then j else i)) H):=by
 intro pins s σ H xs us Q I r h;obtain⟨i,j,rfl,q⟩:=h;obtain⟨u,w',rfl,⟨t,rfl⟩,⟨t',rfl⟩⟩:=vals2 r;refine max_two_ints (I.ok.hd hc) fun h' tk k=>⟨_,H,I.kept k,?_,q⟩
 by_cases hj:j>i
 ·rw[zzp hj,zzp hj];exact⟨_,rfl⟩
 ·rw[zzn hj,zzn hj];exact⟨_,rfl⟩
theorem Hj(hc:X.calm=true):mq X (.builtin "min") (fun xs H Q=>∃i j,xs=[.int i,.int j]/\Q (.int (if j<i then j else i)) H):=by
 intro pins s σ H xs us Q I r h;obtain⟨i,j,rfl,q⟩:=h;obtain⟨u,w',rfl,⟨t,rfl⟩,⟨t',rfl⟩⟩:=vals2 r;refine min_two_ints (I.ok.hd hc) fun h' tk k=>⟨_,H,I.kept k,?_,q⟩
 by_cases hj:j<i
 ·rw[zzp hj,zzp hj];exact⟨_,rfl⟩
 ·rw[zzn hj,zzn hj];exact⟨_,rfl⟩
end
structure Hk(h:Heap)(x dx C:zdk)(mA:Str->Option zdl):Prop where
 obj:h.get? x=some (zbr C dx)
 ns:h.Ns1 dx mA
 ne:dx≠x
theorem Hl{h:Heap}{dx:zdk}{mA:Str->Option zdl}(n:h.Ns1 dx mA):∃od,h.get? dx=some od/\∀name,zc5 name od=some (mA name):=by
 obtain⟨o,es,ep,ho,hd,hk,_,hm⟩:=n;refine⟨o,ho,fun name=>?_⟩;have e:=hm name;unfold nsFind findBy at e;rw[<- Array.find?_toList] at e;unfold zc5;rw[hd];dsimp only;split
 ·rename_i y q;rw[q] at e;exact congrArg some e
 ·rename_i q;rw[q] at e;have a:es.toList.any (·.refKey)=false:=by
   rw[List.any_eq_false];intro y hy;obtain⟨z,t,DY⟩:=hk y (Array.mem_toList_iff.mp hy);simp[DictEntry.refKey,DY]
  have a':¬es.toList.any (·.refKey)=true:=by rw[a];exact zai
  rw[zzn a'];exact congrArg some e
theorem Hk.look{h:Heap}{x dx C:zdk}{mA:Str->Option zdl}(I:Hk h x dx C mA):∃od,PySem.W.InstAt h x (zbr C dx) C (some od)/\∀name,zc5 name od=some (mA name):=
 let ⟨od,ho,hl⟩:=Hl I.ns
 ⟨od,⟨I.obj,rfl,rfl,ho⟩,hl⟩
section
variable{prog:zdw}{w:zdm}{A:zdv}{E:zdl->zdu->Prop}{s:zdu}{K:zaa}{x dx C f:zdk}{mA:Str->Option zdl}{name:Str}{v:zdl}
theorem get_map{expr:Bool}{Q:zdl->zdu->Prop}(X:K.In s.heap)(I:Hk s.heap x dx C mA)(hg:zcl K C name=true)(hh:zcd K C=true)
 (ha:zaS K (.ref C) name=some none) (hv:mA name=some v) (DD:PySem.W.handedIn v=true) (h:Q v {s with toks:=s.toks+1}) :
 wpAny (model prog w) A (getAttr (.ref x) name expr) Q E s:=by
 obtain⟨od,J,hl⟩:=I.look;exact PySem.W.get_value X J (PySem.W.plainGet_of hg).1 (PySem.W.findObj_own hh ha rfl (by rw[hl,hv])) DD h
theorem AA{ns:List Str}{Q:Unit->zdu->Prop}(X:K.In s.heap)(I:Hk s.heap x dx C mA)
 (hs:zaS K (.ref C) "__setattr__"=some (some (.builtin "object.__setattr__"))) (hp:zcB K C=true) (ht:zcT K C name=some none) (hh:zcd K C=true)
 (hw:PySem.Within mA ns) (hsz:ns.length<=zds)
 (h:∀h',Hk h' x dx C (fun y=>if y=name then some v else mA y)->Heap.SameBut dx s.heap h'->Q () {s with heap:=h',toks:=s.toks+2}) :
 wpAny (model prog w) A (setAttr (.ref x) name v) Q E s:=by
 obtain⟨od,J,hl⟩:=I.look;refine PySem.W.set_plain X J hs (PySem.W.osa_open (s:={s with toks:=s.toks+1}) (r:=none) X J hp ht fun b=>?_);obtain⟨cd,hc,DM⟩:=PySem.W.any_some hh;have hx:s.heap.get? x=some ⟨.ref C,some dx,.plain, #[]⟩:=I.obj;refine zdn (zdo (zdn (zdn (wpAny_loadPart hx (zdn (PySem.W.Looks.here (s:={s with toks:=s.toks+1}) (PySem.W.looks_clsIn X hc) ?_))))));rw[DM];refine zdo (a:=some dx) (zdn (zdo (zdn ?_)));refine wpAny_nsSet1 (s:={s with toks:=s.toks+1}) I.ns fun h' Q6 hs2=>?_;obtain⟨oD,esD,epD,hoD,hdD,hcD⟩:=Q6.count (PySem.Within.cons name v hw);refine zdn (wpAny_lookBehind hoD (by rw[hdD];exact pastItsLine_dict (zaC hcD (by rw[zah];lia))) ?_);exact zdo (h _ ⟨(hs2.2 _ (Ne.symm I.ne)).trans I.obj,Q6,I.ne⟩ hs2)
theorem JF{R:Result->zdu->Prop}{vs:List zdl}{kw:List (Str×zdl)}(X:K.In s.heap)(hm:zcU K C=true)
 (hi:zaS K (.ref C) "__init__"=some (some (.ref f))) (hf:PySem.W.typeIn K (.ref f)=some (.type "function"))
 (h:codeAny (model prog w) (A.under (.builtin "type.__call__" ⟨.ref C::vs,kw⟩)) (.call (.ref f) ⟨.ref (s.heap.objs.size+1)::vs,kw⟩) (PySem.W.InitBack (s.heap.objs.size+1) R)
  {s with heap:=(s.heap.push zbf).push (zbr C s.heap.objs.size)}) :
 codeAny (model prog w) A (.call (.ref C) ⟨vs,kw⟩) R s:=by
 obtain⟨hh,g,d,t,os⟩:=s;exact PySem.W.make_core (PySem.W.makes_of X hm) (PySem.W.looks_findIn X hi) (fun self=>PySem.W.bind_fn X self hf) (.inl rfl) h
end
def kR (f:Str) (v:V):List (Str×V)->List (Str×V)
 |[]=>[(f,v)]
 |(g,x)::r=>if g=f then (g,v)::r else (g,x)::kR f v r
theorem vJ(f g:Str)(v:V):∀fs:List (Str×V),(kR f v fs).lookup g=if g=f then some v else fs.lookup g
 |[]=>by
  show zbl g [(f,v)]=_;by_cases h:g=f
  ·have hb:(g==f)=true:=beq_iff_eq.mpr h;simp only[zbl,hb,zzp h]
  ·have hb:(g==f)=false:=beq_eq_false_iff_ne.mpr h;simp only[zbl,hb,zzn h]
 |(k,x)::r=>by
  have ih:=vJ f g v r;rw[show kR f v ((k,x)::r)=(if k=f then (k,v)::r else (k,x)::kR f v r) from rfl];by_cases hk:k=f
  ·rw[zzp hk];by_cases h:g=k
   ·have hb:(g==k)=true:=beq_iff_eq.mpr h;simp only[zbl,hb,zzp (h.trans hk)]
   ·have hb:(g==k)=false:=beq_eq_false_iff_ne.mpr h;simp only[zbl,hb,zzn (fun e:g=f=>h (e.trans hk.symm))]
  ·rw[zzn hk];by_cases h:g=k
   ·have hb:(g==k)=true:=beq_iff_eq.mpr h;simp only[zbl,hb,zzn (fun e:g=f=>hk (h.symm.trans e))]
   ·have hb:(g==k)=false:=beq_eq_false_iff_ne.mpr h;simp only[zbl,hb];exact ih
theorem uN(f:Str)(v:V):∀fs:List (Str×V),f∈(kR f v fs).map (·.1)/\∀g,g∈fs.map (·.1)->g∈(kR f v fs).map (·.1)
 |[]=>⟨by simp[kR],fun g h=>by simp at h⟩
 |(k,x)::r=>by
  obtain⟨i1,i2⟩:=uN f v r;rw[show kR f v ((k,x)::r)=(if k=f then (k,v)::r else (k,x)::kR f v r) from rfl];by_cases hk:k=f
  ·rw[zzp hk];subst hk;exact⟨by simp,fun g h=>by simpa using h⟩
  ·rw[zzn hk];refine⟨?_,fun g h=>?_⟩
   ·rw[zal];exact zat _ i1
   ·rw[zal] at h ⊢;rcases zag.mp h with e |e
    ·exact zag.mpr (.inl e)
    ·exact zat _ (i2 g e)
theorem vK(f:Str)(v:V):∀fs:List (Str×V),(kR f v fs).length<=fs.length+1
 |[]=>by simp[kR]
 |(k,x)::r=>by
  have ih:=vK f v r;rw[show kR f v ((k,x)::r)=(if k=f then (k,v)::r else (k,x)::kR f v r) from rfl];by_cases hk:k=f
  ·rw[zzp hk,zah,zah];lia
  ·rw[zzn hk,zah,zah];lia
theorem rA.some_of{v:V}{o:Option zdl}(r:rA (some v) o):∃u,o=some u/\RelV v u:=by
 cases o with
 |none=>exact(show False from r).elim
 |some u=>exact⟨u,rfl,r⟩
theorem Hm{v:V}{u:zdl}(r:RelV v u):PySem.W.handedIn u=true:=by
 cases v with
 |cC=>cases (show u=Value.none from r);rfl
 |bl b=>cases (show u=Value.bool b from r);rfl
 |int i=>obtain⟨t,e⟩:=(show ∃t,u=Value.int i t from r);cases e;rfl
 |str x=>obtain⟨t,e⟩:=(show ∃t,u=Value.str x t from r);cases e;rfl
 |FA b=>obtain⟨t,e⟩:=(show ∃t,u=Value.bytes b t from r);cases e;rfl
 |QN b=>obtain⟨t,e⟩:=(show ∃t,u=Value.float b t from r);cases e;rfl
 |ref a=>cases (show u=Value.ref a from r);rfl
 |ty n=>cases (show u=Value.type n from r);rfl
section
variable{P:zdw}{w:zdm}{H H':Hp}{h h':Heap}{a C dx:zdk}{fs TY:List (Str×V)}
theorem AB(cM:oA P w H h)(e:H a=some (.ins C dx fs)):∃mA,Hk h a dx C mA/\(∀f,rA (fs.lookup f) (mA f))/\PySem.Within mA (fs.map (·.1))/\fs.length<=1000/\H dx=some (.own a):=by
 obtain⟨d,z,ne,ob,mA,n,r,q⟩:=(show dh P w H h a (.ins C dx fs) from cM a _ e)
 exact⟨mA,⟨ob,n,ne⟩,r,q,z,d⟩
end
structure Nr(K:zaa)(C:zdk):Prop where
 pg:zcl K C Str.empty=true
 hd:zcd K C=true
 po:zcB K C=true
 sa:zaS K (.ref C) "__setattr__"=some (some (.builtin "object.__setattr__"))
theorem Nr.get{K:zaa}{C:zdk}(c:Nr K C)(f:Str):zcl K C f=true:=c.pg
def jK (K:zaa) (C:zdk) (f:Str):Prop:=zaS K (.ref C) f=some none
theorem jK.Um{K:zaa}{C:zdk}{f:Str}(n:jK K C f):zcT K C f=some none:=by
 unfold zcT;rw[show zaS K (.ref C) f=some none from n];rfl
section
variable{X:Cx}{pins:List (zdk×Obj)}{σ:St}{H:Hp}{s:zdu}{a C dx:zdk}{fs:List (Str×V)}{f:Str}{v:V}{A:zdv}{E:zdl->zdu->Prop}
theorem DZ{b:Bool}{Q:zdl->zdu->Prop}(I:Inv X pins σ H s)(e:H a=some (.ins C dx fs))(c:Nr X.K C)(n:jK X.K C f)(l:fs.lookup f=some v)
 (h:∀u s',Inv X pins σ H s'->RelV v u->Q u s'):wpAny (model X.prog X.w) A (getAttr (.ref a) f b) Q E s:=by
 obtain⟨mA,O,r,_,_,_⟩:=AB I.cM e;obtain⟨u,hu,ru⟩:=rA.some_of (v:=v) (o:=mA f) (by rw[<- l];exact r f);exact get_map I.wG O (c.get f) c.hd n hu (Hm ru) (h u _ (I.tok _) ru)
theorem D0{y:V}{u:zdl}{Q:Unit->zdu->Prop}(I:Inv X pins σ H s)(e:H a=some (.ins C dx fs))(c:Nr X.K C)(n:jK X.K C f)(hl:fs.length<1000)(ry:RelV y u)
 (h:∀s',Inv X pins σ (upd H a (.ins C dx (kR f y fs))) s'->Q () s'):wpAny (model X.prog X.w) A (setAttr (.ref a) f u) Q E s:=by
 obtain⟨mA,O,r,wi,_,ho⟩:=AB I.cM e;have hz:(fs.map (·.1)).length<=zds:=by rw[zad,sizeLine_eq];lia
 refine AA I.wG O c.sa c.po n.Um c.hd wi hz fun h' O' sb=>h _ ?_;have hd:∃o,h'.get? dx=some o:=let ⟨o,_,_,e',_⟩:=O'.ns;⟨o,e'⟩;refine I.write (x:=a) (e:=dx) (by rw[e];exact True.intro) (.inr ho) (fun b q hb z=>(sb.2 b hb).trans z) hd ?_;refine⟨by rw[aw O.ne];exact ho,?_,O.ne,O'.obj,_,O'.ns,fun g=>?_,fun g hg=>?_⟩
 ·have:=vK f y fs;lia
 ·show rA ((kR f y fs).lookup g) (if g=f then some u else mA g);rw[vJ];by_cases q:g=f
  ·rw[zzp q,zzp q];exact ry
  ·rw[zzn q,zzn q];exact r g
 ·by_cases q:g=f
  ·rw[q];exact(uN f y fs).1
  ·refine(uN f y fs).2 g (wi g fun z=>hg ?_);show (if g=f then some u else mA g)=none;rw[zzn q];exact z
theorem Inv.made(I:Inv X pins σ H s):Inv X pins σ (upd (upd H s.heap.objs.size (.own (s.heap.objs.size+1))) (s.heap.objs.size+1) (.ins C s.heap.objs.size []))
 {s with heap:=(s.heap.push zbf).push (zbr C s.heap.objs.size)}:=by
 have e1:(s.heap.push zbf).get? s.heap.objs.size=some zbf:=Heap.get?_push_size s.heap rfl;have e2:((s.heap.push zbf).push (zbr C s.heap.objs.size)).get? (s.heap.objs.size+1)=some (zbr C s.heap.objs.size):=by
  have:=Heap.get?_push_size (s.heap.push zbf) (o:=zbr C s.heap.objs.size) rfl
  rwa [Heap.size_push] at this
 have e3:(s.heap.push zbf).Ns s.heap.objs.size (fun _=>none):=⟨zbf, #[],_,e1,rfl,(fun e he=>zzb he (by simp)),fun _=>rfl⟩
 have I1:=I.laid (a:=s.heap.objs.size) (o:=.own (s.heap.objs.size+1)) (h':=s.heap.push zbf) (t':=s.toks) (fun b u q=>Heap.get?_push_of_some _ q) (zaf _) ⟨_,e1⟩;refine I1.laid (a:=s.heap.objs.size+1) (o:=.ins C s.heap.objs.size []) (t':=s.toks) (fun b u q=>Heap.get?_push_of_some _ q) (Nat.le_of_eq (Heap.size_push _ _)) ?_;have ne:s.heap.objs.size≠s.heap.objs.size+1:=zaD (zcC _);refine⟨by rw[aw ne,ae],za0 _,ne,e2,fun _=>none,(Heap.Ns1.of_empty e3).at fun o q=>Heap.get?_push_of_some _ q,fun _=>True.intro,fun y hy=>zzb rfl hy⟩
theorem Nt{prog:zdw}{w:zdm}{env:Env}{e:Expr}{f:Str}{pos:Pos}{s:zdu}{Q:zdl->zdu->Prop}(hb:attributeBase e f env (eval e env)=eval e env)
 (h:wpAny (model prog w) A (eval e env) (fun o s₁=>wpAny (model prog w) A (getAttr o f true) Q E s₁) E s):wpAny (model prog w) A (eval (.Attribute e f pos) env) Q E s:=
 Attribute_any_ h (by rw[arm_eval_Attribute,hb])
end
def Q7 (K:zaa) (ta:TE) (f:Str):TE:=fun σ H Q=>ta σ H fun x H1=>∃a C dx fs v,x=.ref a/\H1 a=some (.ins C dx fs)/\Nr K C/\jK K C f/\fs.lookup f=some v/\Q v H1
def B4 (K:zaa) (ta tv:TE) (f:Str):TS:=fun D σ H=>tv σ H fun y H1=>ta σ H1 fun x H2=>∃a C dx fs,x=.ref a/\H2 a=some (.ins C dx fs)/\Nr K C/\jK K C f/\fs.length<1000/\
 D.nx σ (upd H2 a (.ins C dx (kR f y fs)))
def FP (K:zaa) (ta tv:TE) (rd:V->V->Hp->VK->Prop) (f:Str):TS:=fun D σ H=>ta σ H fun x H1=>∃a C dx fs v,x=.ref a/\H1 a=some (.ins C dx fs)/\Nr K C/\jK K C f/\fs.lookup f=some v/\
 tv σ H1 fun y H2=>rd v y H2 fun z H3=>∃dx' TY,H3 a=some (.ins C dx' TY)/\TY.length<1000/\D.nx σ (upd H3 a (.ins C dx' (kR f z TY)))
section
variable{X:Cx}{o e value:Expr}{f:Str}{pos pos' Yq:Pos}{ta tv:TE}
theorem kz(he:PE X e ta)(hb:attributeBase e f X.env (eval e X.env)=eval e X.env):PE X (.Attribute e f pos) (Q7 X.K ta f):=by
 intro pins s σ H Q I h;refine Nt hb (eZ (he pins s σ H _ I h) fun u s1 zqz=>?_);obtain⟨x,H1,I1,rx,a,C,dx,fs,v,ex,ea,c,n,l,q⟩:=zqz;subst ex;obtain rfl:u=Value.ref a:=rx;exact DZ I1 ea c n l fun u' s2 I2 ru=>⟨v,H1,I2,ru,q⟩
theorem xc(ha:PE X o ta)(hv:PE X value tv)(hs:swapsWith value (some (.Attribute o f pos')) pos.line X.env=pure false):PS X (.Assign [.Attribute o f pos'] value pos) (B4 X.K ta tv f):=by
 intro pins s σ H D I h;refine plainObj_wpAny_Assign_Attribute (eZ (hv pins s σ H _ I h) fun u s1 zqz=>?_) hs;obtain⟨y,H1,I1,ry,q⟩:=zqz;refine eZ (ha pins s1 σ H1 _ I1 q) fun ov s2 zqz=>?_;obtain⟨x,H2,I2,rx,a,C,dx,fs,ex,ea,c,n,l,q2⟩:=zqz;subst ex;obtain rfl:ov=Value.ref a:=rx;exact D0 I2 ea c n l ry fun s3 I3=>⟨σ,_,I3,q2⟩
end
section
variable{X:Cx}{pins:List (zdk×Obj)}{σ:St}{H:Hp}{s:zdu}{A:zdv}{E:zdl->zdu->Prop}{Q:zdl->zdu->Prop}{c:zdl}{b:Bool}
inductive sU(K:zaa)(H:Hp):V->zdl->Prop where
 |cC:sU K H .cC (.type "NoneType")
 |bl (x:Bool):sU K H (.bl x) (.type "bool")
 |int (i:Int):sU K H (.int i) (.type "int")
 |str (x:Str):sU K H (.str x) (.type "str")
 |QN (x:UInt64):sU K H (.QN x) (.type "float")
 |lst {a:zdk} {xs:List V} (e:H a=some (.lst xs)):sU K H (.ref a) (.type "list")
 |FC {a:zdk} {o:Obj} {xs:List V} (e:H a=some (.FC o (.lst xs))):sU K H (.ref a) (.type "list")
 |tup {a:zdk} {xs:List V} (e:H a=some (.tup xs)):sU K H (.ref a) (.type "tuple")
 |dK {a:zdk} {ax:List (Key×V)} (e:H a=some (.dK ax)):sU K H (.ref a) (.type "dict")
 |dT {a:zdk} {ax:List (List Key×V)} (e:H a=some (.dT ax)):sU K H (.ref a) (.type "dict")
 |ins {a C dx:zdk} {fs:List (Str×V)} (e:H a=some (.ins C dx fs)) (cl:Nr K C) (ha:zaS K (.ref C) "__class__"=some (some (.builtin "object.__class__")))
  (hn:PySem.W.specialIn K (.builtin "object.__class__") "__get__"=some (some (.builtin "getset_descriptor.__get__"))) (WU:PySem.W.takesIn K (.builtin "object.__class__")=some true)
  (hm:PySem.W.mroIn K C (.type "object")=some true):sU K H (.ref a) (.ref C)
theorem Hn{x:V}{u t:zdl}(I:Inv X pins σ H s)(rx:RelV x u)(ty:sU X.K H x t)(e:zc6 X.K t c=some b)(h:∀tk,Q (.bool b) {s with toks:=tk}) :
 wpAny (model X.prog X.w) A (call (.builtin "isinstance") [u,c]) Q E s:=by
 cases ty with
 |cC=>cases (show u=Value.none from rx);exact zbb PySem.W.kitx_none I.wG True.intro e (fun z=>nomatch z) h
 |bl y=>cases (show u=Value.bool y from rx);exact zbb PySem.W.kitx_bool I.wG True.intro e (fun z=>nomatch z) h
 |int i=>obtain⟨t,q⟩:=(show ∃t,u=Value.int i t from rx);cases q;exact zbb PySem.W.kitx_int I.wG True.intro e (fun z=>nomatch z) h
 |str y=>obtain⟨t,q⟩:=(show ∃t,u=Value.str y t from rx);cases q;exact zbb PySem.W.kitx_str I.wG True.intro e (fun z=>nomatch z) h
 |QN y=>obtain⟨t,q⟩:=(show ∃t,u=Value.float y t from rx);cases q;exact zbb PySem.W.kitx_float I.wG True.intro e (fun z=>nomatch z) h
 |@lst a xs ea=>
  cases (show u=Value.ref a from rx);obtain⟨_,_,n,_,h1⟩:=(show dh X.prog X.w H s.heap a (.lst xs) from I.cM a _ ea)
  exact zbb PySem.W.kitx_list I.wG ⟨_,h1,rfl⟩ e (fun z=>nomatch z) h
 |@FC a ob xs ea=>
  cases (show u=Value.ref a from rx);obtain⟨_,_,_,n,_,h1⟩:=(show dh X.prog X.w H s.heap a (.FC ob (.lst xs)) from I.cM a _ ea)
  exact zbb PySem.W.kitx_list I.wG ⟨_,h1,rfl⟩ e (fun z=>nomatch z) h
 |@tup a xs ea=>
  cases (show u=Value.ref a from rx);obtain⟨_,_,_,p⟩:=(show dh X.prog X.w H s.heap a (.tup xs) from I.cM a _ ea)
  obtain⟨o,h1,h2,_⟩:=p;exact zbb PySem.W.kitx_tuple I.wG ⟨o,h1,h2⟩ e (fun z=>nomatch z) h
 |@dK a ax ea=>
  cases (show u=Value.ref a from rx);obtain⟨_,_,vs,_,p⟩:=(show dh X.prog X.w H s.heap a (.dK ax) from I.cM a _ ea)
  obtain⟨o,es,ep,h1,h2,_⟩:=p;exact zbb PySem.W.kitx_dict I.wG ⟨o,h1,h2.1⟩ e (fun z=>nomatch z) h
 |@dT a ax ea=>
  cases (show u=Value.ref a from rx);obtain⟨_,_,xs,_,o,es,ep,h1,h2,_⟩:=(show dh X.prog X.w H s.heap a (.dT ax) from I.cM a _ ea)
  exact zbb PySem.W.kitx_dict I.wG ⟨o,h1,h2.1⟩ e (fun z=>nomatch z) h
 |@ins a C dx fs ea cl ha hn WU hm=>
  cases (show u=Value.ref a from rx);obtain⟨mA,O,_⟩:=AB I.cM ea;obtain⟨od,J,_⟩:=O.look;exact zbb (PySem.W.kitx_own (cl.get _) cl.hd ha hn WU hm) I.wG J e (fun z=>nomatch z) h
end
structure ib(k:Nat)(A:zdv):Prop where
 hd:A.handled=none
 dp:A.depth+3*k+5<recursionLimit
 un:A.units+16*k+200<cLine
theorem ib.mono{j k:Nat}{A:zdv}(r:ib k A)(h:j<=k):ib j A:=⟨r.hd,by have:=r.dp;lia,by have:=r.un;lia⟩
theorem ib.deeper{k:Nat}{A:zdv}(r:ib (k+1) A)(env:Env):ib k (A.deeper env):=
 ⟨r.hd,by have:=r.dp;show A.depth+1+3*k+5<_;lia,by have:=r.un;show A.units+3+16*k+200<_;lia⟩
theorem Ea{A:zdv}{C:zdk}{us:List zdl}{kw:List (Str×zdl)}:(A.under (.builtin "type.__call__" ⟨.ref C::us,kw⟩)).depth=A.depth+1:=by
 first |rfl |simp[Around.under,Code.weight,Code.isCreation,Code.isGuard,Code.isCaller,Code.frames,Code.isFrame,guardIds]
theorem Eb{A:zdv}{C:zdk}{us:List zdl}{kw:List (Str×zdl)}:(A.under (.builtin "type.__call__" ⟨.ref C::us,kw⟩)).units=A.units+1:=by
 first |rfl |simp[Around.under,Code.cUnits,Code.frames,Code.isFrame]
theorem ib.make{k:Nat}{A:zdv}(r:ib (k+1) A)(C:zdk)(us:List zdl)(kw:List (Str×zdl)):ib k (A.under (.builtin "type.__call__" ⟨.ref C::us,kw⟩)):=
 ⟨r.hd,by have:=r.dp;rw[Ea];lia,by have:=r.un;rw[Eb];lia⟩
theorem ib.depth{k:Nat}{A:zdv}(r:ib k A):A.depth<recursionLimit:=by have:=r.dp;lia
theorem ib.units{k:Nat}{A:zdv}(r:ib k A):A.units+64<cLine:=by have:=r.un;lia
def Nu:TA:=fun _ H Q=>Q [] H
def xf (ta:TE) (tr:TA):TA:=fun σ H Q=>ta σ H fun x H1=>tr σ H1 fun xs H2=>Q (x::xs) H2
section
variable{X:Cx}{e:Expr}{es:List Expr}{te:TE}{t:TA}{pos:Pos}
theorem aa:PA X [] Nu:=fun _ _ _ _ H Q I h=>Calls.spliced_nil ⟨[],H,I,.nil,h⟩
theorem ag(ha:PE X e te)(hr:PA X es t)(hs:zdq (e::es) X.env=(false,eval e X.env)::zdq es X.env:=by rfl):PA X (e::es) (xf te t):=by
 intro pos pins s σ H Q I h;rw[hs];show wpAny _ _ (spliced ((false,eval e X.env)::backTo pos (zdq es X.env))) _ _ s;refine Calls.spliced_cons (eZ (ha pins s σ H _ I h) fun u s1 zqz=>?_);obtain⟨x,H1,I1,r1,q1⟩:=zqz;exact eZ (hr pos pins s1 σ H1 _ I1 q1) fun us s2 ⟨xs,H2,I2,r2,q2⟩=>⟨x::xs,H2,I2,.cons r1 r2,q2⟩
def Uo (t:TA):TE:=fun σ H Q=>t σ H fun xs H1=>xs.length<=zds/\∀p,H1 p=none->Q (.ref p) (upd H1 p (.tup xs))
def Up (t:TA):TE:=fun σ H Q=>t σ H fun xs H1=>xs.length<=zds/\∀p,H1 p=none->Q (.ref p) (upd H1 p (.lst xs))
theorem aS{x1}(h:PA X es t):PE X (.Tuple es x1 pos) (Uo t):=by
 intro pins s σ H Q I hq;refine wpAny_Tuple_spliced (eZ (h pos pins s σ H _ I hq) fun us s1 ⟨xs,H1,I1,r,z,q⟩=>⟨by rw[<- r.length];exact z,?_⟩);have hf:H1 s1.heap.objs.size=none:=I1.cM.fresh (zaf _);refine⟨.ref s1.heap.objs.size,upd H1 s1.heap.objs.size (.tup xs),I1.laid (t':=s1.toks) (fun b u e=>Heap.get?_push_of_some _ e) (zaf _) ?_,rfl,q _ hf⟩;exact⟨z,us,r,⟨_,Heap.get?_push_size _ rfl,rfl,_,rfl⟩⟩
theorem bu(h:PA X es t):PE X (.List es pos) (Up t):=by
 intro pins s σ H Q I hq;refine wpAny_List_spliced (eZ (h pos pins s σ H _ I hq) fun us s1 ⟨xs,H1,I1,r,z,q⟩=>⟨by rw[<- r.length];exact z,?_⟩);have hf:H1 s1.heap.objs.size=none:=I1.cM.fresh (zaf _);refine⟨.ref s1.heap.objs.size,upd H1 s1.heap.objs.size (.lst xs),I1.laid (t':=s1.toks) (fun b u e=>Heap.get?_push_of_some _ e) (zaf _) ?_,rfl,q _ hf⟩;exact⟨z,us,0,r,Heap.get?_push_size _ rfl⟩
end
abbrev Sp:=List V->Hp->VK->XK->Prop
abbrev BM:=List Env->Hp->zdu->XK->zdl->zdu->Prop
structure rM(P:zdw)(w:zdm)(K:zaa)(mg:Str->Option zdl)(base:Heap)(A:zdv)(outer:List Env)(s:zdu)(H:Hp):Prop where
 frames:A.frames=some outer
 mod:Mod K mg base
 bs:∀b o,base.get? b=some o->s.heap.get? b=some o/\H b=none
 BX:base.objs.size<=s.heap.objs.size
 qD:s.heap.FunFrames base outer
 MU:∀b∈dq outer,H b=none
 cM:oA P w H s.heap
 bare:AllBare s.gens
def CE (outer:List Env) (P:zdw) (w:zdm) (H:Hp) (s:zdu) (Q:VK) (u:zdl) (s':zdu):Prop:=
 ∃v H',s'.os=s.os/\AllBare s'.gens/\Un (dq outer) [] H H' s.heap s'.heap/\oA P w H' s'.heap/\RelV v u/\Q v H'
def CR (CX:BM) (outer:List Env) (P:zdw) (w:zdm) (H:Hp) (s:zdu) (Q:VK) (E:XK) (r:Result) (s':zdu):Prop:=
 match r with
 |.ok (.ret u)=>CE outer P w H s Q u s'
 |.ok _=>False
 |.error e=>CX outer H s E e s'
structure bJ(P:zdw)(w:zdm)(K:zaa)(mg:Str->Option zdl)(base:Heap)(CX:BM)(k:Nat)(f:zdk)(fd:zdt)(ps:List Str)(sp:Sp):Prop where
 len:∀vs H Q E,sp vs H Q E->vs.length=ps.length
 run:∀(A:zdv) (outer:List Env) (s:zdu) (H:Hp) (args:Args) (us:List zdl) (vs:List V) (Q:VK) (E:XK),ib k A->rM P w K mg base A outer s H->BindsTo s fd args (ps.zip us)->Vals vs us->sp vs H Q E->
  codeAny (model P w) A (.call (.ref f) args) (CR CX outer P w H s Q E) s
theorem rM.make{P:zdw}{w:zdm}{K:zaa}{mg:Str->Option zdl}{base:Heap}{A:zdv}{outer:List Env}{s:zdu}{H:Hp}(e:rM P w K mg base A outer s H)(C:zdk)(us:List zdl)(kw:List (Str×zdl)) :
 rM P w K mg base (A.under (.builtin "type.__call__" ⟨.ref C::us,kw⟩)) outer s H:=⟨by first |exact e.frames |(simpa[Around.under,Code.envs,Code.isFrame,pushEnvs] using e.frames),e.mod,e.bs,e.BX,e.qD,e.MU,e.cM,e.bare⟩
section
variable{X:Cx}{pins:List (zdk×Obj)}{σ:St}{H:Hp}{s s':zdu}
theorem Inv.Nv(I:Inv X pins σ H s):rM X.prog X.w X.K X.mg X.base X.A X.stack s H:=
 ⟨I.ok.frames,I.ok.mod,I.bs,zaC I.ok.BX I.sz,I.stack,I.Aw,I.cM,I.bare⟩
theorem Inv.after{Q:VK}{u:zdl}(I:Inv X pins σ H s)(h:CE X.stack X.prog X.w H s Q u s'):EP X pins σ Q u s':=by
 obtain⟨v,H',os,bare,un,cM,r,q⟩:=h;obtain⟨hh,g,d,t,os'⟩:=s';obtain rfl:os'=s.os:=os;exact⟨v,H',I.call (h':=hh) (g':=g) (d':=d) (t':=t) (ch:=[]) un cM bare (fun b z=>zzb z (by simp)),r,q⟩
end
def B5 (sp:Sp) (zx:List V) (E:XK) (t:TA):TE:=fun σ H Q=>t σ H fun vs H1=>sp (vs++zx) H1 Q E
def Po (C:zdk) (m:Str) (sp:Sp) (zx:List V) (E:XK) (ta:TE) (t:TA):TE:=fun σ H Q=>ta σ H fun x H1=>∃a dx fs,x=.ref a/\H1 a=some (.ins C dx fs)/\fs.lookup m=none/\
 t σ H1 fun vs H2=>sp (x::(vs++zx)) H2 Q E
def JG (C:zdk) (sp:Sp) (zx:List V) (E:XK) (t:TA):TE:=fun σ H Q=>t σ H fun vs H1=>∀x dx,H1 x=none->H1 dx=none->dx≠x->
 sp (.ref x::(vs++zx)) (upd (upd H1 dx (.own x)) x (.ins C dx [])) (fun v H2=>v=.cC/\Q (.ref x) H2) E
def Binds (K:zaa) (fd:zdt) (ps:List Str) (ds:List zdl):Prop:=
 ∀(s:zdu) (us:List zdl),K.In s.heap->(us++ds).length=ps.length->BindsTo s fd ⟨us,[]⟩ (ps.zip (us++ds))
theorem Binds.all{K:zaa}{fd:zdt}{ps:List Str}(h:∀us:List zdl,us.length=ps.length->bindArgs fd ⟨us,[]⟩=pure (ps.zip us)):Binds K fd ps []:=fun s us _ hl=>by
 rw[zav] at hl ⊢;exact .of_eq (h us hl)
def Passes (CX:BM) (X:Cx) (E:XK):Prop:=∀(pins:List (zdk×Obj)) (σ:St) (H:Hp) (s:zdu) (e:zdl) (s':zdu),Inv X pins σ H s->CX X.stack H s E e s'->X.xe e s'
section
variable{X:Cx}{CX:BM}{k:Nat}{f C:zdk}{fd:zdt}{ps:List Str}{sp:Sp}{zx:List V}{ds:List zdl}{E:XK}{x m:Str}{p pos apos:Pos}{e o:Expr}{es:List Expr}{ta:TE}{t:TA}
theorem Q8{pins:List (zdk×Obj)}{σ:St}{H:Hp}{s:zdu}{Q:VK}{us:List zdl}{vs:List V}(F:bJ X.prog X.w X.K X.mg X.base CX k f fd ps sp)(hr:ib k X.A)(hb:Binds X.K fd ps ds)(hd:Vals zx ds)(hx:Passes CX X E)
 (I:Inv X pins σ H s) (r:Vals vs us) (h:sp (vs++zx) H Q E):wpAny (model X.prog X.w) X.A (call (.ref f) us) (EP X pins σ Q) X.xe s:=by
 have r2:Vals (vs++zx) (us++ds):=r.append hd;have hl:(us++ds).length=ps.length:=by rw[<- r2.length];exact F.len _ _ _ _ h
 refine wpAny_call (codeAny_mono (F.run X.A X.stack s H ⟨us,[]⟩ (us++ds) (vs++zx) Q E hr I.Nv (hb s us I.wG hl) r2 h) fun r s' hq=>?_);cases r with
 |error e=>exact hx pins σ H s e s' I hq
 |ok fl=>
  cases fl with
  |ret u=>exact I.after hq
  |next=>exact False.elim hq
  |brk=>exact False.elim hq
  |cont=>exact False.elim hq
theorem FQ(F:bJ X.prog X.w X.K X.mg X.base CX k f fd ps sp)(hr:ib k X.A)(hg:Gl X x)(hm:X.mg x=some (.ref f))(hk:zbv X.K (.ref f)=true)(hb:Binds X.K fd ps ds)(hd:Vals zx ds)(hx:Passes CX X E)
 (ha:PA X (e::es) t) (JH:(x==("__debug__":Str))=false:=by decide) (he:zdq (e::es) X.env=(false,eval e X.env)::zdq es X.env:=by rfl) (BN:(backTo pos (zdq es X.env)).any (·.1)=false:=by rfl) :
 PE X (.Call (.Name x p) (e::es) [] pos) (B5 sp zx E t):=by
 intro pins s σ H Q I h;refine wpAny_Call_Name_kw (wH I hg hm ?_ JH);refine zcz (h₀:=X.base) I.ok.mod.TZ hk (eZ (ha pos pins s σ H _ I h) fun us s1 ⟨vs,H1,I1,r,q⟩=>⟨I1.wG,?_⟩) he BN;exact Q8 F hr hb hd hx I1 r q
structure Mk(K:zaa)(C f:zdk):Prop where
 makes:zcU K C=true
 init:zaS K (.ref C) "__init__"=some (some (.ref f))
 fn:PySem.W.isFn K (.ref f)=true
 kp:zbv K (.ref C)=true
theorem JI{pins:List (zdk×Obj)}{σ:St}{H:Hp}{s:zdu}{Q:VK}{us:List zdl}{vs:List V}(M:Mk X.K C f)(F:bJ X.prog X.w X.K X.mg X.base CX k f fd ps sp)(hr:ib (k+1) X.A)(hb:Binds X.K fd ps ds)(hd:Vals zx ds)
 (hx:Passes CX X E) (I:Inv X pins σ H s) (r:Vals vs us)
 (h:∀x dx,H x=none->H dx=none->dx≠x->sp (.ref x::(vs++zx)) (upd (upd H dx (.own x)) x (.ins C dx [])) (fun v H2=>v=.cC/\Q (.ref x) H2) E) :
 wpAny (model X.prog X.w) X.A (call (.ref C) us) (EP X pins σ Q) X.xe s:=by
 have hq:=h (s.heap.objs.size+1) s.heap.objs.size (I.cM.fresh (Nat.le_succ _)) (I.cM.fresh (zaf _)) (zaD (zcC _));have I2:=Inv.made (C:=C) I;have r2:Vals (V.ref (s.heap.objs.size+1)::(vs++zx)) (Value.ref (s.heap.objs.size+1)::(us++ds)):=.cons rfl (r.append hd);have hl:(Value.ref (s.heap.objs.size+1)::us++ds).length=ps.length:=by
  have e:=r2.length;rw[F.len _ _ _ _ hq] at e;exact e.symm
 refine wpAny_call (JF (f:=f) I.wG M.makes M.init (beq_iff_eq.mp M.fn) (codeAny_mono (F.run _ X.stack _ _ ⟨Value.ref (s.heap.objs.size+1)::us,[]⟩ (Value.ref (s.heap.objs.size+1)::(us++ds)) _ _ E (hr.make C us [])
  (I2.Nv.make C us []) (hb _ (Value.ref (s.heap.objs.size+1)::us) I2.wG hl) r2 hq) fun r s' Uq=>?_))
 cases r with
 |error e=>exact hx pins σ _ _ e s' I2 Uq
 |ok fl=>
  cases fl with
  |ret u=>
   obtain⟨v,H',I3,rv,ev,q3⟩:=I2.after Uq;subst ev;exact⟨rv,⟨V.ref (s.heap.objs.size+1),H',I3,rfl,q3⟩⟩
  |next=>exact False.elim Uq
  |brk=>exact False.elim Uq
  |cont=>exact False.elim Uq
theorem Nw(M:Mk X.K C f)(F:bJ X.prog X.w X.K X.mg X.base CX k f fd ps sp)(hr:ib (k+1) X.A)(hg:Gl X x)(hm:X.mg x=some (.ref C))(hb:Binds X.K fd ps ds)(hd:Vals zx ds)(hx:Passes CX X E)
 (ha:PA X (e::es) t) (JH:(x==("__debug__":Str))=false:=by decide) (he:zdq (e::es) X.env=(false,eval e X.env)::zdq es X.env:=by rfl) (BN:(backTo pos (zdq es X.env)).any (·.1)=false:=by rfl) :
 PE X (.Call (.Name x p) (e::es) [] pos) (JG C sp zx E t):=by
 intro pins s σ H Q I h;refine wpAny_Call_Name_kw (wH I hg hm ?_ JH);refine zcz (h₀:=X.base) I.ok.mod.TZ M.kp (eZ (ha pos pins s σ H _ I h) fun us s1 ⟨vs,H1,I1,r,q⟩=>⟨I1.wG,?_⟩) he BN;exact JI M F hr hb hd hx I1 r q
end
structure a8(N P:List Str)(sc:Scope):Prop where
 kind:sc.kind=.function
 co:sc.isCoroutine=false
 gen:sc.isGenerator=false
 nd:N.Nodup
 pre:N.take P.length=P
 par:∀x∈P,sc.names.lookup x=some .local\/sc.names.lookup x=some .cell
 Q9:∀y∈sc.names,y.2≠.free
theorem zy{kindOf:Str->Option NameKind}{x:Str}:∀ {binds:List (Str×zdl)} {m:Str->Option zdl},(∀v,(x,v) ∉ binds)->bindL kindOf binds m x=m x
 |[],_,_=>rfl
 |(n,v)::r,m,h=>by
  unfold bindL;rw[zy fun w hw=>h w (zat _ hw)];split
  ·have:x≠n:=by rintro rfl;exact h v zaq
   simp[this]
  ·rfl
theorem zz{kindOf:Str->Option NameKind}{x:Str}:∀ {binds:List (Str×zdl)} {m:Str->Option zdl},(∀v,(x,v) ∉ binds)->bindC kindOf binds m x=m x
 |[],_,_=>rfl
 |(n,v)::r,m,h=>by
  unfold bindC;rw[zz fun w hw=>h w (zat _ hw)];split
  ·rfl
  ·have:x≠n:=by rintro rfl;exact h v zaq
   simp[this]
theorem zF{kindOf:Str->Option NameKind}{x:Str}{v:zdl}:∀ {P:List Str} {vs:List zdl} {i:Nat} {m:Str->Option zdl},P.Nodup->P[i]?=some x->vs[i]?=some v->kindOf x=some .local->
 bindL kindOf (P.zip vs) m x=some v
 |[],_,_,_,_,h,_,_=>by simp at h
 |_::_,[],_,_,_,_,h,_=>by simp at h
 |p::P,w::vs,0,m,nd,h1,h2,hk=>by
  simp at h1 h2;subst h1;subst h2;show bindL kindOf ((p,w)::P.zip vs) m p=_;unfold bindL;rw[zy fun v hv=>(zaE.mp nd).1 (zcP hv).1,zzp hk];simp
 |p::P,w::vs,i+1,m,nd,h1,h2,hk=>by
  show bindL kindOf ((p,w)::P.zip vs) m x=_;unfold bindL;exact zF (i:=i) (zaE.mp nd).2 (by simpa using h1) (by simpa using h2) hk
theorem zG{kindOf:Str->Option NameKind}{x:Str}{v:zdl}:∀ {P:List Str} {vs:List zdl} {i:Nat} {m:Str->Option zdl},P.Nodup->P[i]?=some x->vs[i]?=some v->kindOf x≠some .local->
 bindC kindOf (P.zip vs) m x=some v
 |[],_,_,_,_,h,_,_=>by simp at h
 |_::_,[],_,_,_,_,h,_=>by simp at h
 |p::P,w::vs,0,m,nd,h1,h2,hk=>by
  simp at h1 h2;subst h1;subst h2;show bindC kindOf ((p,w)::P.zip vs) m p=_;unfold bindC;rw[zz fun v hv=>(zaE.mp nd).1 (zcP hv).1,zzn hk];simp
 |p::P,w::vs,i+1,m,nd,h1,h2,hk=>by
  show bindC kindOf ((p,w)::P.zip vs) m x=_;unfold bindC;exact zG (i:=i) (zaE.mp nd).2 (by simpa using h1) (by simpa using h2) hk
def start (N:List Str) (vs:List V):St:=vs.map some++zct (N.length-vs.length) none
def m7 (CX:BM) (P:zdw) (w:zdm) (K:zaa) (mg:Str->Option zdl) (base:Heap) (N:List Str) (qual:Str) (scope:Scope) (f:zdk) (cd:zdl) (A:zdv) (outer:List Env) (s:zdu) (H:Hp) (E:XK):Cx where
 prog:=P
 w:=w
 K:=K
 mg:=mg
 base:=base
 A:=A.deeper (envOfC qual scope s.heap.objs.size f cd)
 N:=N
 s₀:=s
 H₀:=H
 env:=envOfC qual scope s.heap.objs.size f cd
 outer:=outer
 stack:=envOfC qual scope s.heap.objs.size f cd::outer
 ex:=[]
 calm:=true
 fn:=fun _=>true
 pn:=[]
 xe:=fun e s'=>wpAny (model P w) (A.deeper (envOfC qual scope s.heap.objs.size f cd)) (leaving (envOfC qual scope s.heap.objs.size f cd) e) (fun _ Ho=>CX outer H s E e Ho) (fun e' Ho=>CX outer H s E e' Ho) s'
theorem B6{sc:Scope}{n:Nat}{x:Str}(h:sc.names.lookup x=some .cell):∃c,(cellsFrom n sc.names []).lookup x=some c:=by
 have q:=zcY sc.names n [] (.inl h);exact zcD.mp q
theorem Hq{CX:BM}{P:zdw}{w:zdm}{K:zaa}{mg:Str->Option zdl}{base:Heap}{N ps:List Str}{qual:Str}{scope:Scope}{f:zdk}{cd:zdl}{A:zdv}{outer:List Env}{s s1:zdu}{H:Hp}{E:XK}{us:List zdl}{vs:List V}
 (S:a8 N ps scope) (hd:A.handled=none) (e0:rM P w K mg base A outer s H) (hl:vs.length=ps.length) (r:Vals vs us)
 (x:InCallC s s.heap.objs.size (bindL (envOfC qual scope s.heap.objs.size f cd).kindOf (ps.zip us) fun _=>none) (cellsFrom (s.heap.objs.size+1) scope.names []) (bindC (envOfC qual scope s.heap.objs.size f cd).kindOf (ps.zip us) fun _=>none) s1) :
 Inv (m7 CX P w K mg base N qual scope f cd A outer s H E) [] (start N vs) H s1:=by
 have BN:ps.length<=N.length:=by have:=congrArg za6 S.pre;rw[zbU] at this;lia
 obtain⟨h1,tk,rfl,hk⟩:=x.done;have Ra:∀b:zdk,b ∉ (m7 CX P w K mg base N qual scope f cd A outer s H E).ex:=fun b z=>zzb (show b∈([]:List zdk) from z) (by simp);refine⟨⟨e0.mod,S.kind,rfl,rfl,zaf _,fun y z c h1 h2=>?_,fun y hy=>?_,fun y c _ h=>?_,fun _=>hd,Around.frames_deeper e0.frames,.inr ⟨rfl,rfl⟩,fun b z=>zzb z (Ra b),e0.bs,e0.BX,fun b _ _=>Ra b,fun b z=>zzb z (Ra b),e0.qD,e0.MU⟩,
  rfl,e0.bare,Un.kept hk,⟨_,x.toInCall.ns,fun i y v h1 h2 h3=>?_⟩,fun y c h=>⟨_,x.cell y c h⟩,e0.cM.fresh (zaf _),fun y c h=>?_,fun p hp=>zzb (show p∈([]:List (zdk×Obj)) from hp) (by simp),e0.cM.kept hk,?_⟩
 ·exact name_of_addr x.apart (PySem.mem_of_lookup h1) (PySem.mem_of_lookup h2)
 ·have hy:scope.names.lookup y=some .cell\/scope.names.lookup y=some .free:=hy;rcases hy with hy |hy
  ·exact B6 hy
  ·exact zzb rfl (S.Q9 _ (PySem.mem_of_lookup hy))
 ·exact zco (x.above y c (PySem.mem_of_lookup h))
 ·have hi:i<vs.length:=by
   unfold start at h2;by_cases hi:i<vs.length
   ·exact hi
   ·rw[zbC (by simpa using hi)] at h2;rw[zcM] at h2;split at h2<;>cases h2
  have ha:vs[i]?=some v:=by
   unfold start at h2;rw[zbY (by simpa using hi),zam] at h2;cases e:vs[i]? with
   |none=>rw[e] at h2;cases h2
   |some a=>rw[e] at h2;cases h2;rfl
  obtain⟨u,hu,rv⟩:=r.get ha;have hp:ps[i]?=some y:=by
   rw[<- S.pre,List.getElem?_take_of_lt (by lia)];exact h1
  have ndP:ps.Nodup:=by rw[<- S.pre];exact S.nd.sublist (List.take_sublist _ _)
  refine⟨u,rv,?_⟩;rcases S.par y (zaI hp) with k |k
  ·exact .inl ⟨k,zF ndP hp hu k⟩
  ·obtain⟨c,e⟩:=B6 (n:=s.heap.objs.size+1) k;refine .inr ⟨.inl k,c,e,?_⟩;have q:=x.cell y c e;rw[zG ndP hp hu (by show scope.names.lookup y≠_;rw[k];decide)] at q;exact q
 ·exact e0.cM.fresh (zco (x.above y c (PySem.mem_of_lookup h)))
 ·unfold start;show _=N.length;rw[zae,zad,zcZ];lia
theorem Pp{CX:BM}{P:zdw}{w:zdm}{K:zaa}{mg:Str->Option zdl}{base:Heap}{k:Nat}{f:zdk}{name qual:Str}{params:Arguments}{body:List Stmt}{scope:Scope}{dV kV doc pm eS ct oc:zdl}{an od:Option zdk}
 {FR:Array (Option zdl)} {N ps:List Str} {sp:Sp} (lk:K.lookup f=some ⟨oc,od,.func (zbs name qual params body scope dV kV doc pm an eS ct),FR⟩) (B0:zb7 K eS qual=true) (S:a8 N ps scope)
 (len:∀vs H Q E,sp vs H Q E->vs.length=ps.length)
 (sV:∀(A:zdv) (outer:List Env) (s:zdu) (H:Hp) (vs:List V) (Q:VK) (E:XK),ib k (A.deeper (envOfC qual scope s.heap.objs.size f eS))->sp vs H Q E->
  ∃t,DN (m7 CX P w K mg base N qual scope f eS A outer s H E) body t/\t {nx:=fun _ H'=>Q .cC H',rt:=Q} (start N vs) H) :
 bJ P w K mg base CX (k+1) f (zbs name qual params body scope dV kV doc pm an eS ct) ps sp:=by
 refine⟨len,fun A outer s H args us vs Q E hr e0 hb r MW=>?_⟩;have hl:=len _ _ _ _ MW;have KX:K.In s.heap:=e0.mod.TZ.keeps fun b o e=>(e0.bs b o e).1;have lim:s.heap.NoLimit:=e0.mod.nolimit.keeps fun b o e=>(e0.bs b o e).1;have Ur:∀y∈ps.zip us,scope.names.lookup y.1=some .local\/(scope.names.lookup y.1=some .cell/\((cellsFrom (s.heap.objs.size+1) scope.names []).lookup y.1).isSome=true):=fun ⟨n,v⟩ hy=>by
  rcases S.par n (zcP hy).1 with q |q
  ·exact .inl q
  ·exact .inr ⟨q,zcY _ _ _ (.inl q)⟩
 refine codeAny_call_function hr.depth (KX _ _ lk) rfl S.co S.gen rfl (PySem.W.codeRec_of KX B0) (hb _ _ _ _ ?_);refine wpAny_newFunctionEnv_cells S.kind Ur fun env he s1 x=>?_;subst he;refine⟨lim.keeps x.toInCall.keep,codeAny_func ?_⟩;obtain⟨t,ht,hq⟩:=sV A outer s H vs Q E (hr.deeper _) MW;have I:Inv (m7 CX P w K mg base N qual scope f eS A outer s H E) [] (start N vs) H s1:=Hq S hr.hd e0 hl r x;refine wpAny_mono (ht [] s1 (start N vs) H _ I hq) (fun fl s' hs=>?_) fun e s' hs=>hs;have fin:∀ {σ':St} {H':Hp} {v:V} {u:zdl},Inv (m7 CX P w K mg base N qual scope f eS A outer s H E) [] σ' H' s'->RelV v u->Q v H'->CE outer P w H s Q u s':=
  fun {σ' H' v u} J rv q=>⟨v,H',J.os,J.bare,J.base,J.cM,rv,q⟩
 cases fl with
 |ret u=>
  obtain⟨v,σ',H',J,rv,q⟩:=hs;exact fin J rv q
 |next=>
  obtain⟨σ',H',J,q⟩:=hs;exact fin (v:=V.cC) (u:=Value.none) J rfl q
 |brk=>
  obtain⟨_,_,_,q⟩:=hs;exact False.elim q
 |cont=>
  obtain⟨_,_,_,q⟩:=hs;exact False.elim q
section
variable{X:Cx}{x:Str}{p pos:Pos}{e:Expr}{es:List Expr}{t:TA}{id T:String}{r:List V->Hp->VK->Prop}
def Yr (r:List V->Hp->VK->Prop) (t:TA):TE:=fun σ H Q=>t σ H fun vs H1=>r vs H1 Q
theorem bY(hc:mq X (.builtin id) r)(hg:Gl X x)(hm:X.mg x=none)(hv:bootBuiltins x=some (.builtin id))(ha:PA X (e::es) t)(hn:x≠"__name__":=by decide)(JH:(x==("__debug__":Str))=false:=by decide)
 (he:zdq (e::es) X.env=(false,eval e X.env)::zdq es X.env:=by rfl) (BN:(backTo pos (zdq es X.env)).any (·.1)=false:=by rfl):PE X (.Call (.Name x p) (e::es) [] pos) (Yr r t):=by
 intro pins s σ H Q I h;refine wpAny_Call_Name_kw (rF I hg hm hv ?_ hn JH);exact PyProof.Rows.callWith_builtin1 (eZ (ha pos pins s σ H _ I h) fun us s1 ⟨vs,H1,I1,r1,q1⟩=>hc pins s1 σ H1 vs us Q I1 r1 q1) he BN
theorem fO(hc:mq X (.type T) r)(hg:Gl X x)(hm:X.mg x=none)(hv:bootBuiltins x=some (.type T))(ha:PA X (e::es) t)(hn:x≠"__name__":=by decide)(JH:(x==("__debug__":Str))=false:=by decide)
 (he:zdq (e::es) X.env=(false,eval e X.env)::zdq es X.env:=by rfl) (BN:(backTo pos (zdq es X.env)).any (·.1)=false:=by rfl):PE X (.Call (.Name x p) (e::es) [] pos) (Yr r t):=by
 intro pins s σ H Q I h;refine wpAny_Call_Name_kw (rF I hg hm hv ?_ hn JH);exact zbo (eZ (ha pos pins s σ H _ I h) fun us s1 ⟨vs,H1,I1,r1,q1⟩=>hc pins s1 σ H1 vs us Q I1 r1 q1) he BN
end
end L2
namespace HT
open PySem PyProof.Rows
section
variable{prog:zdw}{w:zdm}{A:zdv}{E:zdl->zdu->Prop}{s:zdu}
theorem Nx{t b:zdk}{vs ws:List zdl}{Q:zdl->zdu->Prop}(ht:IsTup s.heap t vs.toArray)(hb:IsTup s.heap b ws.toArray)(hv:vs≠[])
 (h1:ws=[]->Q (.ref t) s) (h2:ws≠[]->Q (.ref s.heap.objs.size) {s with heap:=s.heap.push {cls:=.type "tuple",data:=.seq (vs++ws).toArray} })
 (hsz:vs.length+ws.length<=zds):wpAny (model prog w) A (binaryOp .Add (.ref t) (.ref b)) Q E s:=by
 obtain⟨⟨cls,dd,data,sl⟩,ho,hc,n,hd⟩:=id ht;obtain⟨⟨Ys,Tc,data2,Td⟩,Rb,Us,n2,hd2⟩:=id hb;simp only at hc hd Us hd2;subst hc hd Us hd2;have e:vs.toArray++ws.toArray=(vs++ws).toArray:=by simp
 by_cases hw:ws=[]
 ·exact concat_meets ⟨_,ho,rfl⟩ ⟨_,Rb,rfl⟩ noFill_tuple_add seq_tuple_add zch zb9 (zb1 _ _)
   (tuple_addW1 t b vs.toArray ws.toArray n n2 dd Tc sl Td (by simpa using hv) (by simp[hw])) ⟨ho,Rb,h1 hw⟩
 ·refine concat_meets ⟨_,ho,rfl⟩ ⟨_,Rb,rfl⟩ noFill_tuple_add seq_tuple_add zch zb9 (zb1 _ _)
   (tuple_addW2 t b vs.toArray ws.toArray n n2 dd Tc sl Td (by simpa using hv) (by simpa using hw) (by rw[zas,zas];exact hsz)) ⟨ho,Rb,?_⟩
  rw[e];exact h2 hw
def gO (n d:Nat):Option Int->Nat
 |none=>d
 |some v=>if v<0 then (v+(n:Int)).toNat else min v.toNat n
theorem oU(n d:Nat):gO n d none=d:=rfl
theorem qf(n d k:Nat):gO n d (some (k:Int))=min k n:=by
 show (if (k:Int)<0 then ((k:Int)+(n:Int)).toNat else min (k:Int).toNat n)=min k n;rw[zzn (by lia),za1]
theorem JJ(n d:Nat)(hd:d<=n)(o:Option Int):gO n d o<=n:=by
 cases o with
 |none=>exact hd
 |some v=>
  show (if v<0 then (v+(n:Int)).toNat else min v.toNat n)<=n;by_cases hv:v<0
  ·rw[zzp hv];lia
  ·rw[zzn hv];exact Nat.min_le_right _ _
theorem FT(v:Int)(n d:Nat):(if v<0 then max (v+(n:Int)) 0 else min v (n:Int))=((gO n d (some v):Nat):Int):=by
 show (if v<0 then max (v+(n:Int)) 0 else min v (n:Int))=(((if v<0 then (v+(n:Int)).toNat else min v.toNat n):Nat):Int);by_cases hv:v<0
 ·simp only[zzp hv];lia
 ·simp only[zzn hv];lia
theorem Ec(lo hi:Option Int)(n:Nat):Builtin.Slice.sliceAdjust lo hi 1 (n:Int)=(((gO n 0 lo:Nat):Int),((gO n n hi:Nat):Int)):=by
 have h1:¬((1:Int)<0):=by lia
 unfold Builtin.Slice.sliceAdjust;simp only[h1,if_false];refine Prod.ext ?_ ?_
 ·cases lo with
  |none=>rfl
  |some v=>exact FT v n 0
 ·cases hi with
  |none=>rfl
  |some v=>exact FT v n n
theorem Ed(i j:Nat):Builtin.Slice.slicePlaces (i:Int) (j:Int) 1=j-i:=by
 unfold Builtin.Slice.slicePlaces;have h1:(1:Int)>0:=by lia
 simp only[h1,if_true,Int.ediv_one];split<;>lia
theorem xg{v:zdl}{o:Option Int}{Q:Option Int->zdu->Prop}(p:IsPart v o)(h:Q o s):wpAny (model prog w) A (Builtin.Slice.slicePartIndex v) Q E s:=by
 cases p with
 |none=>exact slicePart_none h
 |int i t=>exact slicePart_int h
theorem mv{sl:zdk}{vl vu:zdl}{lo hi:Option Int}{n:Nat}{Q:Int×Int×Nat->zdu->Prop}(hs:s.heap.IsSliceOf sl vl vu .none)(pl:IsPart vl lo)(pu:IsPart vu hi)
 (h:Q (((gO n 0 lo:Nat):Int),1,gO n n hi-gO n 0 lo) s):wpAny (model prog w) A (Builtin.Slice.sliceApplied (.ref sl) (pure (n:Int))) Q E s:=by
 obtain⟨os,Rc,WV,Ut⟩:=id hs;unfold Builtin.Slice.sliceApplied Builtin.Slice.sliceFields;refine zdn (zdn (wpAny_field Rc Ut (x:=vl) rfl (zdn (wpAny_field Rc Ut (x:=vu) rfl (zdn (wpAny_field Rc Ut (x:=.none) rfl (zdo ?_)))))));refine zdn (slicePart_none ?_);show wpAny _ _ (if ((1:Int)==0)=true then _ else _) _ _ s;rw[zzn (by decide)];refine zdn (xg pl (zdn (xg pu (zdn (zdo ?_)))));show wpAny _ _ (match Builtin.Slice.sliceAdjust lo hi 1 (n:Int) with |(lo,hi)=>pure (lo,(1:Int),Builtin.Slice.slicePlaces lo hi 1)) _ _ s;rw[Ec lo hi n];show wpAny _ _ (pure (((gO n 0 lo:Nat):Int),(1:Int),Builtin.Slice.slicePlaces ((gO n 0 lo:Nat):Int) ((gO n n hi:Nat):Int) 1)) _ _ s;rw[Ed];exact zdo h
theorem JK(xs:Array zdl)(i k:Nat):((zaH k).filterMap fun (m:Nat)=>xs[((i:Int)+(m:Int)*1).toNat]?).toArray=((xs.toList.drop i).take k).toArray:=by
 have e:(fun (m:Nat)=>xs[((i:Int)+(m:Int)*1).toNat]?)=fun m=>xs[i+m]?:=by
  funext m
  have:((i:Int)+(m:Int)*1).toNat=i+m:=by lia
  rw[this]
 rw[e];have:=pick_run xs i k;rw[List.filterMap_map] at this;have e2:((fun x=>xs[x]?) ∘ fun x=>i+x)=fun m=>xs[i+m]?:=rfl;rw[e2] at this;rw[this]
theorem sW{t sl:zdk}{items:Array zdl}{vl vu:zdl}{lo hi:Option Int}{Q:zdl->zdu->Prop}(ht:IsTup s.heap t items)(hs:s.heap.IsSliceOf sl vl vu .none)(pl:IsPart vl lo)(pu:IsPart vu hi)
 (hw:¬(gO items.size 0 lo=0/\gO items.size items.size hi=items.size))
 (h:Q (.ref s.heap.objs.size) {s with heap:=s.heap.push {cls:=.type "tuple",data:=.seq ((items.toList.drop (gO items.size 0 lo)).take (gO items.size items.size hi-gO items.size 0 lo)).toArray} })
 (hsz:items.size<=zds):wpAny (model prog w) A (getItem (.ref t) (.ref sl)) Q E s:=by
 have FU:sizeOk (.seq ((items.toList.drop (gO items.size 0 lo)).take (gO items.size items.size hi-gO items.size 0 lo)).toArray):=by
  show ((items.toList.drop (gO items.size 0 lo)).take (gO items.size items.size hi-gO items.size 0 lo)).toArray.size<=zds;rw[zas,zbU,zbN,za8];lia
 have hj:gO items.size items.size hi<=items.size:=JJ _ _ (zaf _) hi;obtain⟨os,Rc,WV,Ut⟩:=id hs;have Yt:s.TypeIs (.ref sl) "slice":=⟨os,Rc,WV⟩
 unfold getItem
 try with_reducible refine zdp ?_
 first |refine zdn (zdo ?_) |skip
 refine zdn (wpAny_sequenceKey ht.typeIs (by decide) ?_);refine zdn (wpAny_callSpecial?_slot (name:=zab "__getitem__") ht.typeIs zbp
  (wpAny_call_entry zbp ht.typeIs entry_tuple_getitem ?_ (args_tuple_getitem _ _)))
 show wpAny _ _ (Builtin.Tuple.tupleItemsOf (.ref t) >>= _) _ _ s;refine zdn (tupleItemsOf_ ht ?_);refine zdn (wpAny_typeOf Yt ?_);rw[zzp (by decide)];refine zdn (mv hs pl pu ?_);have Ny:¬((((gO items.size 0 lo:Nat):Int)==0&&(1:Int)==1&&(gO items.size items.size hi-gO items.size 0 lo)==items.size)=true):=by
  intro q;rw[zbc,zbc] at q;have q1:((gO items.size 0 lo:Nat):Int)=0:=eq_of_beq q.1.1;have q2:gO items.size items.size hi-gO items.size 0 lo=items.size:=eq_of_beq q.2;exact hw ⟨by lia,by lia⟩
 show wpAny _ _ (if (((gO items.size 0 lo:Nat):Int)==0&&(1:Int)==1&&(gO items.size items.size hi-gO items.size 0 lo)==items.size)=true then _ else _) _ _ s;rw[zzn Ny,JK]
 first
  |exact zdn (m:=Builtin.Tuple.tupleExact _) (wpAny_newObj_type (zdo ⟨_,rfl,zdo h⟩) FU)
  |exact zdn (m:=Builtin.Tuple.tupleExact _) (wpAny_newObj_type (zdn (zdo (zdo ⟨_,rfl,zdo h⟩))) FU)
  |exact zdn (zdn (m:=Builtin.Tuple.tupleExact _) (wpAny_newObj_type (zdo (zdo ⟨_,rfl,zdo h⟩)) FU))
  |exact zdn (zdn (m:=Builtin.Tuple.tupleExact _) (wpAny_newObj_type (zdo ⟨_,rfl,zdo h⟩) FU))
end
end HT
namespace L2
open PySem PySem.Spec PyProof.Rows
abbrev TO:=St->Hp->(Option Int->Hp->Prop)->Prop
def PO (X:Cx) (e:Option Expr) (t:TO):Prop:=
 ∀(pins:List (zdk×Obj)) (s:zdu) (σ:St) (H:Hp) (Q:Option Int->Hp->Prop),Inv X pins σ H s->t σ H Q->
  wpAny (model X.prog X.w) X.A (evalPart e X.env) (fun u s'=>∃o H',Inv X pins σ H' s'/\IsPart u o/\Q o H') X.xe s
def AD:TO:=fun _ H Q=>Q none H
def JL (t:TE):TO:=fun σ H Q=>t σ H fun x H1=>∃i,x=.int i/\Q (some i) H1
section
variable{X:Cx}{e:Expr}{te:TE}{lo hi:Option Expr}{tl th:TO}{pos p2:Pos}
theorem sX:PO X none AD:=by
 intro pins s σ H Q I h;rw[evalPart_none];exact zdo ⟨none,H,I,.none,h⟩
theorem sY(h:PE X e te):PO X (some e) (JL te):=by
 intro pins s σ H Q I hw;rw[evalPart_some];refine eZ (h pins s σ H _ I hw) fun u s1 zqz=>?_;obtain⟨x,H1,I1,r1,q1⟩:=zqz;obtain⟨i,rfl,q⟩:=q1;obtain⟨t,rfl⟩:=r1;exact⟨some i,H1,I1,.int i t,q⟩
def Uu (X:Cx) (r:V->Option Int->Option Int->Hp->VK->Prop):Prop:=
 ∀(pins:List (zdk×Obj)) (s:zdu) (σ:St) (H:Hp) (x:V) (v vl vu:zdl) (lo hi:Option Int) (sl:zdk) (Q:VK),Inv X pins σ H s->RelV x v->s.heap.IsSliceOf sl vl vu .none->IsPart vl lo->IsPart vu hi->r x lo hi H Q->
  ∃T id,typeLookup (.type T) "__getitem__"=pure (some (.builtin id))/\s.TypeIs v T/\wpAny (model X.prog X.w) X.A (getItem v (.ref sl)) (EP X pins σ Q) X.xe s
def WW (r:V->Option Int->Option Int->Hp->VK->Prop) (te:TE) (tl th:TO):TE:=fun σ H Q=>te σ H fun x H1=>tl σ H1 fun l H2=>th σ H2 fun u H3=>r x l u H3 Q
theorem oV{r:V->Option Int->Option Int->Hp->VK->Prop}(hr:Uu X r)(he:PE X e te)(hl:PO X lo tl)(hu:PO X hi th):PE X (.Subscript e (.Slice lo hi none p2) pos) (WW r te tl th):=by
 intro pins s σ H Q I h;refine Subscript_ (eZ (he pins s σ H _ I h) fun v s1 zqz=>?_);obtain⟨x,H1,I1,r1,q1⟩:=zqz;refine wpAny_Slice (eZ (hl pins s1 σ H1 _ I1 q1) fun vl s2 zqz=>?_);obtain⟨l,H2,I2,pl,q2⟩:=zqz;refine eZ (hu pins s2 σ H2 _ I2 q2) fun vu s3 zqz=>?_;obtain⟨u,H3,I3,pu,q3⟩:=zqz;rw[evalPart_none];refine zdo ?_;have I4:Inv X pins σ H3 {s3 with heap:=s3.heap.push {cls:=.type "slice",data:=.fields #[vl,vu,.none]} }:=I3.kept (t':=s3.toks) fun b ob q=>Heap.get?_push_of_some _ q;obtain⟨T,id,hT,ht,hg⟩:=hr pins {s3 with heap:=s3.heap.push {cls:=.type "slice",data:=.fields #[vl,vu,.none]} } σ H3 x v vl vu l u s3.heap.objs.size Q I4 r1 (Heap.IsSliceOf.new ..) pl pu q3;show wpAny (model X.prog X.w) X.A (subscriptTail e (.Slice lo hi none p2) v (.ref s3.heap.objs.size)) (EP X pins σ Q) X.xe {s3 with heap:=s3.heap.push {cls:=.type "slice",data:=.fields #[vl,vu,.none]} };exact tail_any (ops:=[.ref s3.heap.objs.size,v]) ht hT hg (by with_unfolding_all rfl)
def jv (xs:List V) (lo hi:Option Int):List V:=(xs.drop (HT.gO xs.length 0 lo)).take (HT.gO xs.length xs.length hi-HT.gO xs.length 0 lo)
theorem ff(xs:List V)(lo hi:Option Int):(jv xs lo hi).length<=xs.length:=by
 unfold jv;rw[zbU,zbN];lia
def Yu (K:zaa):V->Option Int->Option Int->Hp->VK->Prop:=fun x lo hi H Q=>∃a xs,x=.ref a/\bQ K H a xs/\
 ¬(HT.gO xs.length 0 lo=0/\HT.gO xs.length xs.length hi=xs.length)/\∀p,H p=none->Q (.ref p) (upd H p (.tup (jv xs lo hi)))
theorem JM:Uu X (Yu X.K):=by
 intro pins s σ H x v vl vu lo hi sl Q I rx hs pl pu h;obtain⟨a,xs,rfl,hx,hw,q⟩:=h;cases rx;obtain⟨bC,r,ht,hz⟩:=I.tuple hx;have hlen:bC.toArray.size=xs.length:=by rw[zas];exact r.length.symm
 refine⟨"tuple",_,zbp.lookup,ht.typeIs,?_⟩;refine HT.sW ht hs pl pu (by rw[hlen];exact hw) ?_ (by rw[hlen];exact hz);rw[hlen];refine⟨.ref s.heap.objs.size,_,I.laid (t':=s.toks) (o:=.tup (jv xs lo hi)) (fun b ob q=>Heap.get?_push_of_some _ q) (zaf _) ?_,rfl,q _ (I.cM.fresh (zaf _))⟩;exact⟨zaC (ff xs lo hi) hz,_,(r.drop (HT.gO xs.length 0 lo)).take (HT.gO xs.length xs.length hi-HT.gO xs.length 0 lo),IsTup.new _ _⟩
def Pq (K:zaa):R2:=fun x y H Q=>∃a b xs ys,x=.ref a/\y=.ref b/\bQ K H a xs/\bQ K H b ys/\xs≠[]/\xs.length+ys.length<=zds/\
 (ys=[]->Q (.ref a) H)/\(ys≠[]->∀p,H p=none->Q (.ref p) (upd H p (.tup (xs++ys))))
theorem Vals.br{xs:List V}{us:List zdl}(r:Vals xs us):us=[]↔xs=[]:=by
 cases r with
 |nil=>simp
 |cons _ _=>simp
theorem sZ:rK X (binaryOp .Add) (Pq X.K):=by
 intro pins s σ H x y v u Q I rx ry h;obtain⟨a,b,xs,ys,rfl,rfl,ha,hb,hx,hz,q1,q2⟩:=h;cases rx;cases ry;obtain⟨bC,r1,p1,_⟩:=I.tuple ha;obtain⟨tj,r2,p2,_⟩:=I.tuple hb;refine HT.Nx p1 p2 (fun z=>hx (r1.br.mp z)) (fun z=>⟨.ref a,H,I,rfl,q1 (r2.br.mp z)⟩) (fun z=>?_) (by rw[<- r1.length,<- r2.length];exact hz);refine⟨.ref s.heap.objs.size,_,I.laid (t':=s.toks) (o:=.tup (xs++ys)) (fun b ob q=>Heap.get?_push_of_some _ q) (zaf _) ?_,rfl,q2 (fun w=>z (r2.br.mpr w)) _ (I.cM.fresh (zaf _))⟩;exact⟨by rw[zae];exact hz,_,r1.append r2,IsTup.new _ _⟩
end
def JN (n:Nat) (i:Int):Option Nat:=if 0<=i then (if i<n then some i.toNat else none) else if -(n:Int)<=i then some (i+n).toNat else none
def tm {α:Type} (xs:List α) (i:Int):Option α:=(JN xs.length i).bind fun j=>xs[j]?
theorem FV{n:Nat}{i:Int}{j:Nat}(h:JN n i=some j):seqIndex? i n=some j/\j<n/\-(n:Int)<=i/\i<n:=by
 unfold JN at h;by_cases h0:0<=i
 ·rw[zzp h0] at h;by_cases h1:i<n
  ·rw[zzp h1] at h;have e:i.toNat=j:=zaO.inj h;exact⟨by rw[seqIndex_of h0 h1,e],by lia,by lia,h1⟩
  ·rw[zzn h1] at h;cases h
 ·rw[zzn h0] at h;by_cases h1 : -(n:Int)<=i
  ·rw[zzp h1] at h;have e:(i+n).toNat=j:=zaO.inj h;exact⟨by rw[seqIndex_neg (by lia) h1,e],by lia,h1,by lia⟩
  ·rw[zzn h1] at h;cases h
theorem AE{α:Type}{xs:List α}{i:Int}{v:α}(h:tm xs i=some v):∃j,seqIndex? i xs.length=some j/\xs[j]?=some v/\j<xs.length/\-(xs.length:Int)<=i/\i<xs.length:=by
 unfold tm at h;cases e:JN xs.length i with
 |none=>rw[e] at h;cases h
 |some j=>
  rw[e] at h;obtain⟨h1,h2,h3,h4⟩:=FV e;exact⟨j,h1,h,h2,h3,h4⟩
theorem au{α:Type}{xs:List α}{j:Nat}{v:α}(h:xs[j]?=some v):tm xs (j:Int)=some v:=by
 have hj:j<xs.length:=(zak.mp h).1;have e:JN xs.length (j:Int)=some j:=by
  unfold JN;rw[zzp (by lia),zzp (by lia)];simp
 unfold tm;rw[e];exact h
theorem jw{α:Type}(xs:List α)(v:α):tm (xs++[v]) (-1)=some v:=by
 have hl:(xs++[v]).length=xs.length+1:=by simp
 have e:JN (xs++[v]).length (-1)=some xs.length:=by
  unfold JN;rw[hl,zzn (by decide),zzp (by lia)]
  congr 1
  lia
 unfold tm;rw[e];show (xs++[v])[xs.length]?=some v;simp
def qg (b:Expr):Prop:=∀o i,subscripted b false o i=operate [o,i] (getItem o i)
def JO (X:Cx) (r:R2):Prop:=
 ∀(value slice:Expr) (pins:List (zdk×Obj)) (s:zdu) (σ:St) (H:Hp) (x y:V) (v u:zdl) (Q:VK),Inv X pins σ H s->RelV x v->RelV y u->r x y H Q->
  subscripted slice false v u=operate [v,u] (getItem v u)->wpAny (model X.prog X.w) X.A (subscriptTail value slice v u) (EP X pins σ Q) X.xe s
def MtR (X:Cx) (id:String) (r:V->List V->Hp->VK->Prop):Prop:=
 ∀(pins:List (zdk×Obj)) (s:zdu) (σ:St) (H:Hp) (x:V) (xs:List V) (v:zdl) (us:List zdl) (Q:VK),Inv X pins σ H s->RelV x v->Vals xs us->r x xs H Q->
  wpAny (model X.prog X.w) X.A (call (.builtin id) (v::us)) (EP X pins σ Q) X.xe s
section
variable{X:Cx}{a b:Expr}{ta tb:TE}{pos:Pos}
theorem JO.or{r r':R2}(h:JO X r)(h':JO X r'):JO X (fun x y H Q=>r x y H Q\/r' x y H Q):=by
 intro value slice pins s σ H x y v u Q I rx ry q hs;rcases q with q |q
 ·exact h value slice pins s σ H x y v u Q I rx ry q hs
 ·exact h' value slice pins s σ H x y v u Q I rx ry q hs
theorem aC{r:R2}(hr:JO X r)(ha:PE X a ta)(hb:PE X b tb)(hs:qg b):PE X (.Subscript a b pos) (Ue r ta tb):=by
 intro pins s σ H Q I h;exact Subscript_ (Q2 ha hb I h fun v u s2 x y H2 I2 rx ry q=>hr a b pins s2 σ H2 x y v u Q I2 rx ry q (hs _ _))
def AF (K:zaa):R2:=fun x y H Q=>∃p xs i v,x=.ref p/\y=.int i/\i7 K H p xs/\tm xs i=some v/\Q v H
def Ee (K:zaa):R2:=fun x y H Q=>∃p xs i v,x=.ref p/\y=.int i/\bQ K H p xs/\tm xs i=some v/\Q v H
def Uv:R2:=fun x y H Q=>∃z i c,x=.str z/\y=.int i/\z.length<=zds/\tm z.cps.toList i=some c/\Q (.str ⟨#[c]⟩) H
theorem a9:JO X (AF X.K):=by
 intro value slice pins s σ H x y v u Q I rx ry h hs;obtain⟨p,xs,i,z,rfl,rfl,hq,he,q⟩:=h;cases rx;obtain⟨t,rfl⟩:=ry;obtain⟨bC,r,pl,hz⟩:=I.list hq;obtain⟨j,h1,h2,h3,h4,h5⟩:=AE he;obtain⟨w,ew,Ef⟩:=r.get h2;have hl:=r.length;have hn:=uM;have fin:EP X pins σ Q w s:=⟨z,H,I,Ef,q⟩
 by_cases h0:0<=i
 ·have hj:i.toNat=j:=by
   rw[seqIndex_of h0 h5] at h1;exact zaO.inj h1
  exact item_listR pl.isList h0 (by lia) (by rw[hj];simpa using ew) fin hs
 ·have hj:(i+(bC.toArray.size:Int)).toNat=j:=by
   rw[seqIndex_neg (by lia) h4] at h1;rw[zas,<- hl];exact zaO.inj h1
  exact subscriptTail_builtinR (x:=w) pl.isList.typeIs slot_list_getitem.lookup
   (wpAny_getItem_list_neg (Q:=fun r s'=>r=w/\EP X pins σ Q r s') pl.isList (by lia) (by rw[zas]<;>lia) (by lia) (by rw[hj];simpa using ew) ⟨rfl,fin⟩) hs
theorem aM:JO X (Ee X.K):=by
 intro value slice pins s σ H x y v u Q I rx ry h hs;obtain⟨p,xs,i,z,rfl,rfl,hq,he,q⟩:=h;cases rx;obtain⟨t,rfl⟩:=ry;obtain⟨bC,r,pl,hz⟩:=I.tuple hq;obtain⟨j,h1,h2,h3,h4,h5⟩:=AE he;obtain⟨w,ew,Ef⟩:=r.get h2;have hl:=r.length;have hn:=uM;have fin:EP X pins σ Q w s:=⟨z,H,I,Ef,q⟩
 exact subscriptTail_builtinR (x:=w) pl.typeIs slot_tuple_getitem.lookup
  (getItem_tuple (j:=j) (Q:=fun r s'=>r=w/\EP X pins σ Q r s') pl (by lia) (by lia) (by rw[zas,<- hl];exact h1) (by simpa using ew) ⟨rfl,fin⟩) hs
theorem AG:JO X Uv:=by
 intro value slice pins s σ H x y v u Q I rx ry h hs;obtain⟨z,i,c,rfl,rfl,hz,he,q⟩:=h;obtain⟨t,rfl⟩:=rx;obtain⟨t',rfl⟩:=ry;obtain⟨j,h1,h2,h3,h4,h5⟩:=AE he;have hl:z.cps.toList.length=z.length:=by simp[Str.length]
 rw[hl] at h1 h4 h5;have hn:=uM;exact tail_any (typeIs_str s z t) slot_str_getitem.lookup (getItem_str (c:=c) (by
  have e1:decide (i < -(2 ^ 63:Int))=false:=decide_eq_false (by lia);have e2:decide (i ≥ 2 ^ 63)=false:=decide_eq_false (by lia);rw[e1,e2,Bool.or_false]) (by rw[h1];simpa using h2) ⟨.str ⟨#[c]⟩,H,I.tok _,⟨_,rfl⟩,q⟩) hs
def rIx (K:zaa):R2:=fun x y H Q=>AF K x y H Q\/Ee K x y H Q\/Uv x y H Q
theorem AH:JO X (rIx X.K):=a9.or (aM.or AG)
theorem Eg(bC:List zdl)(n j:Nat)(u:zdl):Obj.mapSeq (·.setIfInBounds j u) {cls:=.type "list",data:=.seq bC.toArray n}={cls:=.type "list",data:=.seq (bC.set j u).toArray n}:=by
 simp[Obj.mapSeq]
theorem Inv.lst{pins:List (zdk×Obj)}{σ:St}{H:Hp}{s:zdu}{p:zdk}{xs:List V}(I:Inv X pins σ H s)(h:H p=some (.lst xs)) :
 ∃(bC:List zdl) (n:Nat),Vals xs bC/\s.heap.get? p=some {cls:=.type "list",data:=.seq bC.toArray n}/\xs.length<=zds:=by
 obtain⟨z,bC,n,r,e⟩:=I.cM p _ h;exact⟨bC,n,r,e,z⟩
theorem Inv.Rf{pins:List (zdk×Obj)}{σ:St}{H:Hp}{s:zdu}{p:zdk}{xs ys:List V}{bC its':List zdl}{n n':Nat}{f:Obj->Obj}(I:Inv X pins σ H s)(h:H p=some (.lst xs))
 (ho:s.heap.get? p=some {cls:=.type "list",data:=.seq bC.toArray n}) (hf:f {cls:=.type "list",data:=.seq bC.toArray n}={cls:=.type "list",data:=.seq its'.toArray n' }) (r:Vals ys its') (hz:ys.length<=zds) (t:Nat) :
 Inv X pins σ (upd H p (.lst ys)) {s with heap:=s.heap.update p f,toks:=t}:=by
 have e:(s.heap.update p f).get? p=some {cls:=.type "list",data:=.seq its'.toArray n' }:=by
  rw[Heap.get?_update_self f ho (by rw[hf]<;>rfl),hf]
 refine I.write (x:=p) (e:=p) (by rw[h];trivial) (.inl rfl) (fun b u hb q=>(Heap.get?_update_other _ _ (Ne.symm hb)).trans q) ⟨_,e⟩ ?_;exact⟨hz,its',n',r,e⟩
def Uw:V->V->V->Hp->(Hp->Prop)->Prop:=fun o i v H Q=>∃p xs k j,o=.ref p/\i=.int k/\H p=some (.lst xs)/\JN xs.length k=some j/\Q (upd H p (.lst (xs.set j v)))
theorem set_list:Ua X Uw:=by
 intro pins s σ H o i v ov iv u Q I ro ri rv h;obtain⟨p,xs,k,j,rfl,rfl,hp,hj,q⟩:=h;cases ro;obtain⟨t,rfl⟩:=ri;obtain⟨bC,n,r,ho,hz⟩:=I.lst hp;obtain⟨h1,h2,h3,h4⟩:=FV hj;have hl:=r.length;have hn:=uM;have I':Inv X pins σ (upd H p (.lst (xs.set j v))) {s with heap:=s.heap.update p (Obj.mapSeq (·.setIfInBounds j u))}:=
  I.Rf hp ho (Eg bC n j u) (r.set rv j) (by rw[zcQ];exact hz) s.toks
 by_cases h0:0<=k
 ·have hk:k.toNat=j:=by
   rw[seqIndex_of h0 h4] at h1;exact zaO.inj h1
  exact PySem.W.ki_setAt ho h0 (by lia) (by rw[zas,<- hl];exact h4) (by rw[hk];exact⟨_,I',q⟩)
 ·have hk:(k+(bC.toArray.size:Int)).toNat=j:=by
   rw[seqIndex_neg (by lia) h3] at h1;rw[zas,<- hl];exact zaO.inj h1
  exact PySem.W.ki_setBack ho (by lia) (by rw[zas,<- hl];exact h3) (by lia) (by rw[hk];exact⟨_,I',q⟩)
theorem AI(lo hi:Option Int)(n:Nat):(sliceBounds lo hi none n).1=((HT.gO n 0 lo:Nat):Int)/\(sliceBounds lo hi none n).2.1=((HT.gO n n hi:Nat):Int)/\(sliceBounds lo hi none n).2.2=1:=by
 refine⟨?_,?_,rfl⟩
 ·cases lo with
  |none=>simp[sliceBounds,HT.gO]
  |some i=>
   simp only[sliceBounds,HT.gO,zcj,show (1:Int)>0 by decide,if_true];by_cases h:i<0
   ·simp only[h,if_true]<;>lia
   ·simp only[h,if_false]<;>lia
 ·cases hi with
  |none=>simp[sliceBounds,HT.gO]
  |some i=>
   simp only[sliceBounds,HT.gO,zcj,show (1:Int)>0 by decide,if_true];by_cases h:i<0
   ·simp only[h,if_true]<;>lia
   ·simp only[h,if_false]<;>lia
theorem yO(bC:List zdl)(lo hi:Option Int):slicePick bC.toArray lo hi none=((bC.drop (HT.gO bC.length 0 lo)).take (HT.gO bC.length bC.length hi-HT.gO bC.length 0 lo)).toArray:=by
 obtain⟨h1,h2,h3⟩:=AI lo hi bC.toArray.size;unfold slicePick;rw[h1,h2,h3];simp only[sliceRange_one,pick_run,zas]<;>rfl
def Yv (K:zaa):V->Option Int->Option Int->Hp->VK->Prop:=fun x lo hi H Q=>∃a xs,x=.ref a/\i7 K H a xs/\∀p,H p=none->Q (.ref p) (upd H p (.lst (jv xs lo hi)))
theorem FW:Uu X (Yv X.K):=by
 intro pins s σ H x v vl vu lo hi sl Q I rx hs pl pu h;obtain⟨a,xs,rfl,hx,q⟩:=h;cases rx;obtain⟨bC,r,ht,hz⟩:=I.list hx;have hlen:=r.length;refine⟨"list",_,slot_list_getitem.lookup,ht.isList.typeIs,?_⟩;refine wpAny_getItem_list_slice ht.isList hs pl pu .none (by simp) ?_ (by rw[zas]<;>lia);rw[yO,<- hlen];refine⟨.ref s.heap.objs.size,_,I.laid (t':=s.toks) (o:=.lst (jv xs lo hi)) (fun b ob q=>Heap.get?_push_of_some _ q) (zaf _) ?_,rfl,q _ (I.cM.fresh (zaf _))⟩;exact⟨zaC (ff xs lo hi) hz,_,0,(r.drop (HT.gO xs.length 0 lo)).take (HT.gO xs.length xs.length hi-HT.gO xs.length 0 lo),Heap.get?_push_size _ rfl⟩
def vL:V->Bool
 |.cC=>true
 |.bl _=>true
 |.int _=>true
 |.str _=>true
 |_=>false
def Pr:V->V->Bool
 |.cC,.cC=>true
 |.bl a,.bl b=>a==b
 |.bl a,.int b=>(if a then 1 else 0)==b
 |.int a,.bl b=>a==(if b then 1 else 0)
 |.int a,.int b=>a==b
 |.str a,.str b=>a==b
 |_,_=>false
theorem Rg{A:zdv}{s:zdu}{y x:V}{u v:zdl}(ry:RelV y u)(rx:RelV x v)(fy:vL y=true)(fx:vL x=true):SeqAt.EqAt A s u v (Pr y x):=by
 cases y with
 |cC=>
  cases ry;cases x with
  |cC=>cases rx;exact SeqAt.EqAt.same _
  |bl b=>cases rx;exact SeqAt.EqAt.none_bool b
  |int b=>obtain⟨t,rfl⟩:=rx;exact SeqAt.EqAt.none_int b t
  |str b=>obtain⟨t,rfl⟩:=rx;exact SeqAt.EqAt.none_str b t
  |_=>exact zzb (show false=true from fx) zai
 |bl a=>
  cases ry;cases x with
  |cC=>cases rx;exact SeqAt.EqAt.bool_none a
  |bl b=>cases rx;exact SeqAt.EqAt.bool_bool a b
  |int b=>obtain⟨t,rfl⟩:=rx;exact SeqAt.EqAt.bool_int a b t
  |str b=>obtain⟨t,rfl⟩:=rx;exact SeqAt.EqAt.bool_str a b t
  |_=>exact zzb (show false=true from fx) zai
 |int a=>
  obtain⟨t',rfl⟩:=ry;cases x with
  |cC=>cases rx;exact SeqAt.EqAt.int_none a t'
  |bl b=>cases rx;exact SeqAt.EqAt.int_bool a t' b
  |int b=>obtain⟨t,rfl⟩:=rx;exact SeqAt.EqAt.int_int a t' b t
  |str b=>obtain⟨t,rfl⟩:=rx;exact SeqAt.EqAt.int_str a t' b t
  |_=>exact zzb (show false=true from fx) zai
 |str a=>
  obtain⟨t',rfl⟩:=ry;cases x with
  |cC=>cases rx;exact SeqAt.EqAt.str_none a t'
  |bl b=>cases rx;exact SeqAt.EqAt.str_bool a t' b
  |int b=>obtain⟨t,rfl⟩:=rx;exact SeqAt.EqAt.str_int a t' b t
  |str b=>obtain⟨t,rfl⟩:=rx;exact SeqAt.EqAt.str_str a t' b t
  |_=>exact zzb (show false=true from fx) zai
 |_=>exact zzb (show false=true from fy) zai
def Eh (x:V) (u:zdl):Bool:=match u with
 |.none=>Pr .cC x
 |.bool b=>Pr (.bl b) x
 |.int i _=>Pr (.int i) x
 |.str z _=>Pr (.str z) x
 |_=>false
theorem JP{x y:V}{u:zdl}(r:RelV y u)(f:vL y=true):Eh x u=Pr y x:=by
 cases y with
 |cC=>cases r;rfl
 |bl b=>cases r;rfl
 |int i=>obtain⟨t,rfl⟩:=r;rfl
 |str z=>obtain⟨t,rfl⟩:=r;rfl
 |_=>exact zzb (show false=true from f) zai
theorem tq{x:V}:∀ {xs:List V} {us:List zdl},Vals xs us->xs.all vL=true->us.any (Eh x)=xs.any fun y=>Pr y x
 |_,_,.nil,_=>rfl
 |y::xs,u::us,.cons r t,f=>by
  rw[List.all_cons,zbc] at f;rw[zbX,zbX,JP r f.1,tq t f.2]
theorem oW{A:zdv}{s:zdu}{x:V}{v:zdl}(rx:RelV x v)(fx:vL x=true):∀ {xs:List V} {us:List zdl},Vals xs us->xs.all vL=true->∀u∈us,SeqAt.EqAt A s u v (Eh x u)
 |_,_,.nil,_=>fun u hu=>by cases hu
 |y::xs,u::us,.cons r t,f=>fun u' hu=>by
  rw[List.all_cons,zbc] at f;rcases zag.mp hu with rfl |hu
  ·rw[JP r f.1];exact Rg r rx f.1 fx
  ·exact oW rx fx t f.2 u' hu
def Nz (x:V) (xs:List V):Bool:=xs.any fun y=>Pr y x
def Yw (K:zaa) (neg:Bool):R2:=fun x y H Q=>∃p xs,y=.ref p/\(i7 K H p xs\/bQ K H p xs)/\vL x=true/\xs.all vL=true/\Q (.bl (if neg then !Nz x xs else Nz x xs)) H
theorem ja:rK X (compareOp .In) (Yw X.K false):=by
 intro pins s σ H x y v u Q I rx ry h;obtain⟨p,xs,rfl,hq,fx,fs,q⟩:=h;cases ry;rcases hq with hq |hq
 ·obtain⟨bC,r,pl,hz⟩:=I.list hq;refine SeqAt.in_listAt (Eh x) pl.isList (fun w hw=>oW rx fx r fs w (by simpa using hw)) ⟨.bl _,H,I,rfl,?_⟩;rw[show bC.toArray.any (Eh x)=bC.any (Eh x) by simp,tq r fs];exact q
 ·obtain⟨bC,r,pl,hz⟩:=I.tuple hq;refine SeqAt.in_tupleAt (Eh x) pl (fun w hw=>oW rx fx r fs w (by simpa using hw)) ⟨.bl _,H,I,rfl,?_⟩;rw[show bC.toArray.any (Eh x)=bC.any (Eh x) by simp,tq r fs];exact q
theorem tw:rK X (compareOp .NotIn) (Yw X.K true):=by
 intro pins s σ H x y v u Q I rx ry h;obtain⟨p,xs,rfl,hq,fx,fs,q⟩:=h;cases ry;rcases hq with hq |hq
 ·obtain⟨bC,r,pl,hz⟩:=I.list hq;refine SeqAt.notIn_listAt (Eh x) pl.isList (fun w hw=>oW rx fx r fs w (by simpa using hw)) ⟨.bl _,H,I,rfl,?_⟩;rw[show bC.toArray.any (Eh x)=bC.any (Eh x) by simp,tq r fs];exact q
 ·obtain⟨bC,r,pl,hz⟩:=I.tuple hq;refine SeqAt.notIn_tupleAt (Eh x) pl (fun w hw=>oW rx fx r fs w (by simpa using hw)) ⟨.bl _,H,I,rfl,?_⟩;rw[show bC.toArray.any (Eh x)=bC.any (Eh x) by simp,tq r fs];exact q
theorem bE:mq X (.builtin "len") (fun xs H Q=>∃p ys,xs=[.ref p]/\(i7 X.K H p ys\/bQ X.K H p ys)/\Q (.int ys.length) H):=by
 intro pins s σ H xs us Q I r h;obtain⟨p,ys,rfl,hq,q⟩:=h;obtain⟨u,rfl,rx⟩:=vals1 r;cases rx;have hn:=uM;rcases hq with hq |hq
 ·obtain⟨bC,r',pl,hz⟩:=I.list hq;have hlen:=r'.length;exact Calls.call_len_list pl.isList (by simp only[zas]<;>lia) ⟨.int ys.length,H,I.tok _,⟨s.toks+1,by rw[zas,hlen]⟩,q⟩
 ·obtain⟨bC,r',pl,hz⟩:=I.tuple hq;have hlen:=r'.length;exact len_tuple pl (by simp only[zas]<;>lia) ⟨.int ys.length,H,I.tok _,⟨s.toks+1,by rw[zas,hlen]⟩,q⟩
theorem tD:mq X (.type "list") (fun xs H Q=>∃p ys,xs=[.ref p]/\(i7 X.K H p ys\/bQ X.K H p ys)/\∀l,H l=none->Q (.ref l) (upd H l (.lst ys))):=by
 intro pins s σ H xs us Q I r h;obtain⟨p,ys,rfl,hq,q⟩:=h;obtain⟨u,rfl,rx⟩:=vals1 r;cases rx;have fin:∀(bC:List zdl),Vals ys bC->ys.length<=zds->∀(h':Heap) (c':Nat),(∀b o',s.heap.get? b=some o'->h'.get? b=some o')->
  h'.get? s.heap.objs.size=some {cls:=.type "list",dict:=none,data:=.seq bC.toArray c',slots:=#[]}->EP X pins σ Q (.ref s.heap.objs.size) {s with heap:=h' }:=fun bC r' hz h' c' kp e=>
  ⟨.ref s.heap.objs.size,_,I.laid (t':=s.toks) kp (zaf _) (show dh X.prog X.w _ h' _ (.lst ys) from ⟨hz,bC,c',r',e⟩),rfl,q _ (I.cM.fresh (zaf _))⟩
 rcases hq with hq |hq
 ·obtain⟨bC,r',pl,hz⟩:=I.list hq;have hlen:=r'.length;obtain⟨o,ho,hc,n,hd⟩:=pl.isList;exact call_list_seq p (.inl rfl) ho hc hd (fun h' c' kp e=>fin bC r' hz h' c' kp e) (by simp only[zas]<;>lia)
 ·obtain⟨bC,r',pl,hz⟩:=I.tuple hq;have hlen:=r'.length;obtain⟨o,ho,hc,n,hd⟩:=pl;exact call_list_seq p (.inr rfl) ho hc hd (fun h' c' kp e=>fin bC r' hz h' c' kp e) (by simp only[zas]<;>lia)
theorem lP:mq X (.type "tuple") (fun xs H Q=>∃p ys,xs=[.ref p]/\((i7 X.K H p ys/\∀l,H l=none->Q (.ref l) (upd H l (.tup ys)))\/(bQ X.K H p ys/\Q (.ref p) H))):=by
 intro pins s σ H xs us Q I r h;obtain⟨p,ys,rfl,h⟩:=h;obtain⟨u,rfl,rx⟩:=vals1 r;cases rx;rcases h with ⟨hq,q⟩ |⟨hq,q⟩
 ·obtain⟨bC,r',pl,hz⟩:=I.list hq;have hlen:=r'.length;refine call_tuple_list pl.isList (fun h' kp=>?_) (by simp only[zas]<;>lia);have I1:Inv X pins σ H {s with heap:=h' }:=I.kept (t':=s.toks) kp;have I2:Inv X pins σ (upd H h'.objs.size (.tup ys)) {s with heap:=h'.push {cls:=.type "tuple",data:=.seq bC.toArray} }:=
   I1.laid (t':=s.toks) (fun b o e=>Heap.get?_push_of_some _ e) (zaf _) (show dh X.prog X.w _ _ _ (.tup ys) from ⟨hz,bC,r',IsTup.new _ _⟩)
  exact⟨.ref h'.objs.size,_,I2,rfl,q _ (I1.cM.fresh (zaf _))⟩
 ·obtain⟨bC,r',pl,hz⟩:=I.tuple hq;exact call_tuple_same pl ⟨.ref p,H,I,rfl,q⟩
def WX (K:zaa) (T:String) (x:V) (H:Hp):Prop:=match x with
 |.str _=>T = "str"
 |.int _=>T = "int"
 |.ref p=>(T = "list"/\∃xs,i7 K H p xs)\/(T = "tuple"/\∃o,K.lookup p=some o/\o.cls=.type "tuple"/\o.dict=none)\/
  (T = "dict"/\((∃ax,H p=some (.dK ax))\/∃ax,H p=some (.dT ax)))\/(T = "set"/\∃S n,H p=some (.set S n))
 |_=>False
theorem JQ{pins:List (zdk×Obj)}{σ:St}{H:Hp}{s:zdu}{T:String}{x:V}{v:zdl}(I:Inv X pins σ H s)(r:RelV x v)(ty:WX X.K T x H) :
 s.TypeIs v T/\∀a,v=.ref a->∃ob,s.heap.get? a=some ob/\ob.dict=none:=by
 cases x with
 |str z=>
  obtain⟨t,rfl⟩:=r;cases (show T = "str" from ty);exact⟨typeIs_str s z t,fun _ e=>nomatch e⟩
 |int i=>
  obtain⟨t,rfl⟩:=r;cases (show T = "int" from ty);exact⟨typeIs_int s i t,fun _ e=>nomatch e⟩
 |ref p=>
  cases r;rcases ty with ⟨rfl,xs,hq⟩ |⟨rfl,o,hk,hc,hd⟩ |⟨rfl,hk⟩ |⟨rfl,S,n,hk⟩
  ·obtain⟨bC,_,pl,_⟩:=I.list hq;refine⟨pl.isList.typeIs,fun a e=>?_⟩;cases e;obtain⟨o,n,e,c,hd,_⟩:=pl;exact⟨o,e,hd⟩
  ·refine⟨⟨o,I.wG p o hk,hc⟩,fun a e=>?_⟩;cases e;exact⟨o,I.wG _ o hk,hd⟩
  ·have z:∃o,s.heap.get? p=some o/\o.ExactDict:=by
    rcases hk with ⟨ax,hk⟩ |⟨ax,hk⟩
    ·obtain⟨_,_,_,_,o,_,_,e,ex,_⟩:=I.cM p _ hk;exact⟨o,e,ex⟩
    ·obtain⟨_,_,_,_,o,_,_,e,ex,_⟩:=I.cM p _ hk;exact⟨o,e,ex⟩
   obtain⟨o,e,ex⟩:=z;refine⟨⟨o,e,ex.1⟩,fun a e2=>?_⟩;cases e2;exact⟨o,e,ex.2.1⟩
  ·obtain⟨o,_,_,_,e,ex,_⟩:=I.cM p _ hk;refine⟨⟨o,e,ex.1⟩,fun a e2=>?_⟩;cases e2;exact⟨o,e,ex.2.1⟩
 |_=>exact False.elim ty
def Rh (K:zaa) (T:String) (r:V->List V->Hp->VK->Prop) (to:TE):TE:=fun σ H Q=>to σ H fun x H1=>WX K T x H1/\r x [] H1 Q
def Yx (K:zaa) (T:String) (r:V->List V->Hp->VK->Prop) (to:TE) (t:TA):TE:=fun σ H Q=>to σ H fun x H1=>WX K T x H1/\t σ H1 fun xs H2=>r x xs H2 Q
variable{o e:Expr}{es:List Expr}{to:TE}{t:TA}{name:Str}{apos m9:Pos}{T id:String}{r:V->List V->Hp->VK->Prop}
theorem Ei(pa:PlainAttrs T)(slot:Slot T name id)(Yy:typeOf (.builtin id)=pure (.type "method_descriptor"))(hm:MtR X id r)(ho:PE X o to)
 (xh:attributeBase o name X.env (eval o X.env)=eval o X.env:=by rfl) (xi:(apos.endLine==m9.line)=true:=by rfl):PE X (.Call (.Attribute o name apos) [] [] m9) (Rh X.K T r to):=by
 intro pins s σ H Q I h;refine wpAny_Call_method0_late xh xi (eZ (ho pins s σ H _ I h) fun v s1 zqz=>?_);obtain⟨x,H1,I1,r1,ty,q1⟩:=zqz;obtain⟨h1,h2⟩:=JQ I1 r1 ty;exact⟨T,id,pa,slot,Yy,h1,h2,Calls.callWith_builtin rfl (PySem.evalArgs_none (hm pins s1 σ H1 x [] v [] Q I1 r1 .nil q1))⟩
theorem dv(pa:PlainAttrs T)(slot:Slot T name id)(Yy:typeOf (.builtin id)=pure (.type "method_descriptor"))(hm:MtR X id r)(ho:PE X o to)(ha:PA X (e::es) t)
 (xh:attributeBase o name X.env (eval o X.env)=eval o X.env:=by rfl)
 (Ri:((backTo m9 (zdq (e::es) X.env)).all (fun x=>!x.1)&&(backToKw m9 (keywordEach [] X.env)).all (fun x=>x.1.isSome)
  && decide ((e::es).length+([]:List Keyword).length+(if ([]:List Keyword).isEmpty then 0 else 1)<30))=true:=by rfl)
 (xi:(apos.endLine==m9.line)=true:=by rfl) (hs:zdq (e::es) X.env=(false,eval e X.env)::zdq es X.env:=by rfl) (Ej:(backTo m9 (zdq es X.env)).any (·.1)=false:=by rfl) :
 PE X (.Call (.Attribute o name apos) (e::es) [] m9) (Yx X.K T r to t):=by
 intro pins s σ H Q I h;refine wpAny_Call_method_late xh Ri xi rfl (eZ (ho pins s σ H _ I h) fun v s1 zqz=>?_);obtain⟨x,H1,I1,r1,ty,q1⟩:=zqz;obtain⟨h1,h2⟩:=JQ I1 r1 ty;refine⟨T,id,pa,slot,Yy,h1,h2,?_⟩;have hA:=ha m9 pins s1 σ H1 _ I1 q1;rw[hs] at hA ⊢;refine Calls.callWith_builtin (by show (false ||(backTo m9 (zdq es X.env)).any (·.1))=false;rw[Ej]<;>rfl) (Calls.evalArgs_plain ?_);exact eZ hA fun us s2 ⟨vs,H2,I2,r2,q2⟩=>hm pins s2 σ H2 x vs v us Q I2 r1 r2 q2
end
def Ux (X:Cx) (id:String) (r:V->List V->Hp->VK->Prop):Prop:=
 ∀(pins:List (zdk×Obj)) (s:zdu) (σ:St) (H:Hp) (x:V) (xs:List V) (v:zdl) (us:List zdl) (Q:VK),Inv X pins σ H s->RelV x v->Vals xs us->r x xs H Q->
  wpAny (model X.prog X.w) X.A (call (.builtin id) (v::us)) (EP X pins σ Q) X.xe s
theorem Vals.one:∀ {x:V} {us:List zdl},Vals [x] us->∃u,us=[u]/\RelV x u
 |_,_,.cons r .nil=>⟨_,rfl,r⟩
theorem Vals.zero:∀ {us:List zdl},Vals [] us->us=[]
 |_,.nil=>rfl
theorem Vals.dropLast{xs:List V}{us:List zdl}(h:Vals xs us):Vals xs.dropLast us.dropLast:=by
 induction h with
 |nil=>exact .nil
 |cons r t ih=>
  cases t with
  |nil=>exact .nil
  |cons q t'=>exact .cons r ih
theorem Ek{α:Type}(l:List α):l.eraseIdx (l.length-1)=l.dropLast:=by
 induction l with
 |nil=>rfl
 |cons a r ih=>
  cases r with
  |nil=>rfl
  |cons b r=>
   have e:(a::b::r).length-1=((b::r).length-1)+1:=by
    have h1:(a::b::r).length=r.length+2:=rfl;have h2:(b::r).length=r.length+1:=rfl;lia
   rw[e,List.eraseIdx_cons_succ,ih]
   all_goals rfl
section
variable{X:Cx}{pins:List (zdk×Obj)}{σ:St}{H:Hp}{s:zdu}{l b:zdk}{xs ys zs:List V}
theorem Inv.Rj{bC its':List zdl}{n:Nat}{f:Array zdl->Array zdl}{t':Nat}(I:Inv X pins σ H s)(hH:H l=some (.lst xs))
 (e:s.heap.get? l=some {cls:=.type "list",data:=.seq bC.toArray n}) (hf:f bC.toArray=its'.toArray) (hv:Vals ys its') (hz:ys.length<=zds) :
 Inv X pins σ (upd H l (.lst ys)) {s with heap:=s.heap.update l (Obj.mapSeq f),toks:=t' }:=by
 have q:=PySem.IsL.update e f;rw[hf] at q;refine I.write (x:=l) (e:=l) (by rw[hH];exact trivial) (.inl rfl) (fun b' u hb hu=>(Heap.get?_update_other s.heap (Obj.mapSeq f) (Ne.symm hb)).trans hu) ⟨_,q⟩ ?_;exact⟨hz,its',_,hv,q⟩
theorem Inv.Yz{bC:List zdl}{t':Nat}(I:Inv X pins σ H s)(hv:Vals ys bC)(hz:ys.length<=zds) :
 Inv X pins σ (upd H s.heap.objs.size (.lst ys)) {s with heap:=s.heap.push {cls:=.type "list",data:=.seq bC.toArray},toks:=t' }:=
 I.laid (fun _ _ q=>Heap.get?_push_of_some _ q) (zaf _) ⟨hz,bC,0,hv,Heap.get?_push_size _ rfl⟩
theorem Inv.fresh(I:Inv X pins σ H s):H s.heap.objs.size=none:=I.cM.fresh (zaf _)
theorem Inv.El(I:Inv X pins σ H s)(hH:H l=some (.lst xs)):xs.length<=zds/\∃(bC:List zdl) (n:Nat),Vals xs bC/\xs.length=bC.length/\s.heap.get? l=some {cls:=.type "list",data:=.seq bC.toArray n}:=by
 obtain⟨z,bC,n,r,e⟩:=I.cM l _ hH;exact⟨z,bC,n,r,r.length,e⟩
theorem JR{n:Nat}(h:n<=zds):Builtin.List.listTooLong n=false:=by
 unfold Builtin.List.listTooLong;exact decide_eq_false (by lia)
end
section
variable{X:Cx}
def AJ:V->List V->Hp->VK->Prop:=fun x vs H Q=>∃l xs y,x=.ref l/\vs=[y]/\H l=some (.lst xs)/\xs.length<zds/\Q .cC (upd H l (.lst (xs++[y])))
theorem bD:Ux X "list.append" AJ:=by
 intro pins s σ H x vs v us Q I rx rv h;obtain⟨l,xs,y,rfl,rfl,hH,hz,q⟩:=h;cases rx;obtain⟨u,rfl,ru⟩:=rv.one;obtain⟨z,bC,n,r,hl,e⟩:=I.El hH;refine call_meets F.slot_list_append ⟨_,e,rfl⟩ F.entry_list_append (F.args_list_append_2 _ _) (PySem.list_append l bC.toArray n u (by rw[zas];lia)) ⟨e,?_⟩;refine⟨.cC,_,I.Rj (its':=bC++[u]) hH e (by simp) (r.append (.cons ru .nil)) ?_,rfl,q⟩;rw[zae,zax];lia
def NA:V->List V->Hp->VK->Prop:=fun x vs H Q=>∃l b xs zs,x=.ref l/\vs=[.ref b]/\H l=some (.lst xs)/\H b=some (.lst zs)/\xs.length+zs.length<=zds/\Q .cC (upd H l (.lst (xs++zs)))
theorem uO:Ux X "list.extend" NA:=by
 intro pins s σ H x vs v us Q I rx rv h;obtain⟨l,b,xs,zs,rfl,rfl,hH,hB,hz,q⟩:=h;cases rx;obtain⟨u,rfl,ru⟩:=rv.one;cases ru;obtain⟨z,bC,n,r,hl,e⟩:=I.El hH;obtain⟨z2,tj,n2,r2,Em,e2⟩:=I.El hB;have hsz:bC.toArray.size+tj.toArray.size<=zds:=by rw[zas,zas];lia
 have Uy:¬(!bC.toArray.isEmpty&&Builtin.List.listTooLong (bC.toArray.size+tj.toArray.size))=true:=by
  rw[JR hsz,Bool.and_false];exact zai
 refine call_meets F.slot_list_extend ⟨_,e,rfl⟩ F.entry_list_extend (F.args_list_extend_2 _ _)
  (AutoSeq1.list_extend_list_list_0 l bC.toArray n b tj.toArray n2 Uy (by rw[zas];lia) (by lia)) ⟨e,e2,?_⟩
 refine⟨.cC,_,I.Rj (its':=bC++tj) hH e (by simp) (r.append r2) ?_,rfl,q⟩;rw[zae];lia
def YA:V->List V->Hp->VK->Prop:=fun x vs H Q=>∃l xs y,x=.ref l/\vs=[]/\H l=some (.lst xs)/\xs[xs.length-1]?=some y/\Q y (upd H l (.lst xs.dropLast))
theorem En:Ux X "list.pop" YA:=by
 intro pins s σ H x vs v us Q I rx rv h;obtain⟨l,xs,y,rfl,rfl,hH,hy,q⟩:=h;cases rx;have hus:=rv.zero;subst hus;obtain⟨z,bC,n,r,hl,e⟩:=I.El hH;obtain⟨u,hu,ru⟩:=r.get hy;have Rk:bC.toArray[bC.toArray.size-1]?=some u:=by
  show bC.toArray[bC.length-1]?=some u;rw[<- zaZ,<- hl];exact hu
 refine call_meets F.slot_list_pop ⟨_,e,rfl⟩ F.entry_list_pop (F.args_list_pop_1 _) (MeetsSeq.list_pop_last l bC.toArray n u Rk (by rw[zas];lia)) ⟨e,?_⟩;refine⟨y,_,I.Rj (its':=bC.dropLast) hH e ?_ r.dropLast ?_,ru,q⟩
 ·show bC.toArray.eraseIdxIfInBounds (bC.toArray.size-1)=bC.dropLast.toArray;rw[zas,List.eraseIdxIfInBounds_toArray,Ek]
 ·rw[List.length_dropLast];lia
def YB:R2:=fun x y H Q=>∃l b xs zs,x=.ref l/\y=.ref b/\H l=some (.lst xs)/\H b=some (.lst zs)/\xs.length+zs.length<=zds/\∀p,H p=none->Q (.ref p) (upd H p (.lst (xs++zs)))
theorem Rl:rK X (binaryOp .Add) YB:=by
 intro pins s σ H x y v u Q I rx ry h;obtain⟨l,b,xs,zs,rfl,rfl,hH,hB,hz,q⟩:=h;cases rx;cases ry;obtain⟨z,bC,n,r,hl,e⟩:=I.El hH;obtain⟨z2,tj,n2,r2,Em,e2⟩:=I.El hB;refine PySem.P.add_list e e2 ?_ (by rw[zas,zas];lia);have ea:bC.toArray++tj.toArray=(bC++tj).toArray:=by simp
 rw[ea];exact⟨.ref _,_,I.Yz (t':=s.toks) (r.append r2) (by rw[zae];lia),rfl,q _ I.fresh⟩
end
end L2
namespace Att
open PySem PySem.W PySem.Calls PyProof.Rows
theorem wc{P:Params}{h:Heap}:∀(ns:List Int) (vs:List zdl),WellAll P h vs (ns.map WData.int)->IntsAre vs ns:=by
 intro ns
 induction ns with
 |nil=>
  intro vs w;rw[za3] at w;cases w;exact .nil
 |cons n ns ih=>
  intro vs w;rw[zal] at w;cases w with
  |cons a b=>
   cases a;exact .cons _ _ (ih _ b)
theorem Hr{l:OpenLaw}{n:Nat}(hn:l.most=some n){P:Params}{h:Heap}{args:List WData}{vals:List zdl}
 (NB:l.row.toRowW.claim.pre args=true) (YC:WellAll P h vals args) :
 ∃a vs ns,vals=[Value.ref a]/\args=[WData.list (ns.map WData.int)]/\h.get? a=some {cls:=.type "list",data:=.seq vs.toArray}/\IntsAre vs ns/\ns.length<=n:=by
 have hsh:WShape.hasAll [] args [.list .int]=true:=(pre_splitW NB).1;have hc:l.pre.holds [] {args:=args}=true:=(pre_splitW NB).2;obtain⟨d,r,rfl,h1,h2⟩:=hasAllW_cons hsh;obtain rfl:=hasAllW_nil h2;obtain⟨xs,rfl,h3⟩:=hasW_list h1;obtain⟨ns,rfl⟩:=items_int h3;have hlen:ns.length<=n:=by
  unfold OpenLaw.pre at hc;have h4:(WTm.not (.lt (.lit (.int (n:Int))) (.len (.arg 0)))).holds [] {args:=[.list (ns.map .int)]}=true:=by
   have h4:=(holds_andW hc).1;rw[hn] at h4;exact h4
  have h5:=condW_of h4 (w_not (w_lt w_lit (w_len_list (w_arg rfl))));rw[zad] at h5;refine Nat.le_of_not_lt fun q=>?_;have q':(n:Int)<((ns.length:Nat):Int):=by lia
  first
   |(rw[decide_eq_true q'] at h5;exact zzb h5 (by decide))
   |(simp at h5;lia)
 cases YC with
 |cons w1 w2=>
  cases w2;cases w1 with
  |list ho Rm=>exact⟨_,_,ns,rfl,rfl,ho,wc ns _ Rm,hlen⟩
theorem Hs(l:OpenLaw)(args:List WData):l.row.toRowW.claim.post args (.bool true) args=true:=
 postW_of (r:=l.row.toRowW) (X:=(true==true))
  (show WShape.has [] (.bool true) .bool=true by first |rfl |decide |simp[WShape.has,WShape.arms,WShape.armsAll])
  (show (WTm.eq .res (.lit (.bool true))).value [] {args:=args,res:=some (.bool true),after:=args}=some (.bool (true==true)) from w_eq_bool (w_res rfl) w_lit) rfl
theorem B7{l:OpenLaw}{n:Nat}{q:zdw}{loose:List Str}{XP:(Str->Option zdl)->Heap->Prop}{YP:zdm->Heap->Prop}{d:DefRec}
 (hn:l.most=some n) (Uz:d.params.defaults=[])
 (call:∀(w:zdm) (s₀ s₁:zdu) (mg mb:Str->Option zdl) (fa:zdk) (o:Obj) (pm cd doc:zdl) (a:zdk) (vs:List zdl) (ns:List Int),
  Ground q loose [] XP w s₀ mg mb s₁.heap->YP w s₁.heap->
  s₁.heap.get? fa=some o->o.data=.func (docDef d.name d.params d.body d.scope pm cd doc)->s₁.heap.CodeRec cd d.name->mg d.name=some (.ref fa)->
  s₁.heap.get? a=some {cls:=.type "list",data:=.seq vs.toArray}->IntsAre vs ns->ns.length<=n->s₁.gens = #[]->
  codeAny (model l.prog w) callerA (.call (.ref fa) ⟨[.ref a],[]⟩) (fun r s'=>r=.ok (.ret (.bool true))/\OldK s₁.heap s'.heap/\s'.os=s₁.os/\AllBare s'.gens) s₁) :
 WalkO q loose XP YP l.row.toRowW d [] (fun f vs=>PySem.call f vs):=by
 intro w s₀ s₁ mg mb G Y fa o pm cd doc dV kV ho hd B0 hD UA hg args vals as NB adk hrd YC hlo;obtain rfl:dV=.none:=Dflts.none hD Uz;obtain rfl:kV=.none:=Dflts.noKw hD;obtain⟨a,vs,ns,rfl,rfl,Rn,hints,hlen⟩:=Hr hn NB YC;refine enter_call (codeAny_mono (call w s₀ s₁ mg mb fa o pm cd doc a vs ns G Y ho (fd_plain hd) B0 UA Rn hints hlen hg) fun r s' hq=>?_);obtain⟨rfl,h2,h3,h4⟩:=hq;exact⟨.inl ⟨.bool true,.bool true,[],rfl,fun _=>rfl,.bool true,Hs l _,fun _=>⟨List.Pairwise.nil,fun _ hm=>(nomatch hm)⟩⟩,h2,h3,h4⟩
end Att
namespace L2
open PySem PySem.Spec PyProof.Rows
theorem zH:∀ {vs:List zdl} {ns:List Int},IntsAre vs ns->Vals (ns.map V.int) vs
 |_,_,.nil=>.nil
 |_,_,.cons n t h=>.cons ⟨t,rfl⟩ (zH h)
def inClass (s:Stmt) (j:Nat):Stmt:=match s with
 |.ClassDef _ _ _ body _ _ _ _ _ _ _=>body.getD j (.Pass ⟨0,0,0,0⟩)
 |_=>.Pass ⟨0,0,0,0⟩
def kY (s:Stmt):Arguments:=match s with
 |.FunctionDef _ a _ _ _ _ _ _ _ _=>a
 |_=>{posonlyargs:=[],args:=[],vararg:=none,kwonlyargs:=[],kw_defaults:=[],kwarg:=none,defaults:=[]}
def hC (s:Stmt):List Stmt:=match s with
 |.FunctionDef _ _ b _ _ _ _ _ _ _=>b
 |_=>[]
def aJ (s:Stmt):Scope:=match s with
 |.FunctionDef _ _ _ _ _ _ sc _ _ _=>sc
 |_=>{kind:=.function,names:=[],isGenerator:=false,isCoroutine:=false}
abbrev dw:BM:=fun _ _ _ _ _ _=>False
abbrev E0:XK:=fun _ _ _=>False
theorem JS{X:Cx}:Passes dw X E0:=fun _ _ _ _ _ _ _ h=>h.elim
structure Jg(K:zaa)(x qual:Str)(st:Stmt)(f:zdk)(fd:zdt):Prop where
 ex:∃(oc:zdl) (od:Option zdk) (kV doc pm:zdl) (an:Option zdk) (eS ct:zdl) (FR:Array (Option zdl)),
  fd=zbs x qual (kY st) (hC st) (aJ st) .none kV doc pm an eS ct/\K.lookup f=some ⟨oc,od,.func fd,FR⟩/\zb7 K eS qual=true
 kp:zbv K (.ref f)=true
section
variable{P:zdw}{w:zdm}{K:zaa}{mg:Str->Option zdl}{base:Heap}
theorem Jg.ok{x qual:Str}{st:Stmt}{f:zdk}{fd:zdt}{N ps:List Str}{k:Nat}{sp:Sp}(F:Jg K x qual st f fd)(S:a8 N ps (aJ st))(len:∀vs H Q E,sp vs H Q E->vs.length=ps.length)
 (sV:∀(eS:zdl) (A:zdv) (outer:List Env) (s:zdu) (H:Hp) (vs:List V) (Q:VK) (E:XK),ib k (A.deeper (envOfC qual (aJ st) s.heap.objs.size f eS))->sp vs H Q E->
  ∃t,DN (m7 dw P w K mg base N qual (aJ st) f eS A outer s H E).DQ (hC st) t/\t {nx:=fun _ H'=>Q .cC H',rt:=Q} (start N vs) H):bJ P w K mg base dw (k+1) f fd ps sp:=by
 obtain⟨oc,od,kV,doc,pm,an,eS,ct,FR,rfl,lk,B0⟩:=F.ex;refine Pp lk B0 S len fun A outer s H vs Q E hr MW=>?_;obtain⟨t,h,q⟩:=sV eS A outer s H vs Q E hr MW;exact⟨t,h.DQ,q⟩
theorem Jg.binds{x qual:Str}{st:Stmt}{f:zdk}{fd:zdt}{ps:List Str}(F:Jg K x qual st f fd)
 (h:∀(kV doc pm:zdl) (an:Option zdk) (eS ct:zdl) (us:List zdl),us.length=ps.length->bindArgs (zbs x qual (kY st) (hC st) (aJ st) .none kV doc pm an eS ct) ⟨us,[]⟩=pure (ps.zip us)):Binds K fd ps []:=by
 obtain⟨oc,od,kV,doc,pm,an,eS,ct,FR,rfl,lk,B0⟩:=F.ex;exact .all (h kV doc pm an eS ct)
theorem JT{x qual:Str}{st:Stmt}{f:zdk}{oc:zdl}{od an:Option zdk}{FR:Array (Option zdl)}{kV doc pm eS ct:zdl}(l:K.lookup f=some ⟨oc,od,.func (zbs x qual (kY st) (hC st) (aJ st) .none kV doc pm an eS ct),FR⟩)
 (c:zb7 K eS qual=true) (k:zbv K (.ref f)=true):Jg K x qual st f (zbs x qual (kY st) (hC st) (aJ st) .none kV doc pm an eS ct):=⟨⟨oc,od,kV,doc,pm,an,eS,ct,FR,rfl,l,c⟩,k⟩
end
theorem dS{A:zdv}{k:Nat}(hr:ib k A):A.units+1<cLine:=zbP (Nat.add_le_add_left (by decide:1<=64) _) hr.units
theorem Ht{n:Nat}(h:n<=1000):n<zds:=zbP h (by decide)
section
variable{X:Cx}
theorem pv(i:Nat){x:Str}{pos:Pos}(hN:X.N[i]?=some x:=by rfl)(hv:T1 X.env.scope x:=by first |exact zbq rfl |exact zcE (zbq rfl) |exact zcE (zcE rfl))(hd:(x==("__debug__":Str))=false:=by decide)
 (B0:(x==("__classdict__":Str))=false:=by decide):PE X (.Name x pos) (gm i):=QS hN hv hd B0
end
theorem b9{c A B:Prop}[Decidable c](h1:c->A)(h2:¬c->B):if c then A else B:=by
 by_cases h:c
 ·rw[zzp h];exact h1 h
 ·rw[zzn h];exact h2 h
def aq (H H':Hp):Prop:=∀b o,H b=some o->H' b=some o
theorem aq.refl(H:Hp):aq H H:=fun _ _ h=>h
theorem aq.trans{H H1 H2:Hp}(a:aq H H1)(b:aq H1 H2):aq H H2:=fun c o h=>b c o (a c o h)
theorem aq.free{H H':Hp}(e:aq H H'){l:zdk}(h:H' l=zdj):H l=zdj:=by
 cases q:H l with
 |none=>rfl
 |some o=>
  rw[e l o q] at h;cases h
theorem aq.seq{K:zaa}{H H':Hp}{a:zdk}{xs:List V}(e:aq H H')(h:i7 K H a xs):i7 K H' a xs:=by
 rcases h with (h |⟨o,h⟩) |h
 ·exact .inl (.inl (e _ _ h))
 ·exact .inl (.inr ⟨o,e _ _ h⟩)
 ·exact .inr h
section
variable{κ:Type}[DecidableEq κ]
def cm (ax:List (κ×V)) (k:κ):Option V:=(ax.find? fun kv=>decide (kv.1=k)).map (·.2)
def putK (ax:List (κ×V)) (k:κ) (v:V):List (κ×V):=
 if (ax.any fun kv=>decide (kv.1=k))=true then ax.map (fun kv=>if kv.1=k then (kv.1,v) else kv) else ax++[(k,v)]
theorem cu{p:κ×V}{r:List (κ×V)}{k:κ}(e:p.1=k):cm (p::r) k=some p.2:=by simp[cm,zbQ,e]
theorem cw{p:κ×V}{r:List (κ×V)}{k:κ}(e:¬p.1=k):cm (p::r) k=cm r k:=by simp[cm,zbQ,e]
theorem kA(k:κ):∀ax:List (κ×V),(ax.any fun kv=>decide (kv.1=k))=(cm ax k).isSome
 |[]=>rfl
 |p::r=>by
  rw[zbX];by_cases e:p.1=k
  ·simp only[cu e,decide_eq_true e,Bool.true_or,Option.isSome_some]
  ·rw[cw e,decide_eq_false e,Bool.false_or];exact kA k r
theorem B8(k j:κ)(y:V):∀ax:List (κ×V),cm (ax.map fun kv=>if kv.1=k then (kv.1,y) else kv) j=(cm ax j).map fun x=>if j=k then y else x
 |[]=>rfl
 |p::r=>by
  have ih:=B8 k j y r;rw[zal];by_cases h:p.1=k
  ·rw[zzp h];by_cases e:p.1=j
   ·rw[cu (p:=(p.1,y)) e,cu e,zbn,zzp (e.symm.trans h)]
   ·rw[cw (p:=(p.1,y)) e,cw e,ih]
  ·rw[zzn h];by_cases e:p.1=j
   ·rw[cu (p:=p) e,cu e,zbn,zzn (fun z=>h (e.trans z))]
   ·rw[cw (p:=p) e,cw e,ih]
theorem zI(k j:κ)(y:V):∀ax:List (κ×V),cm ax k=none->cm (ax++[(k,y)]) j=if j=k then some y else cm ax j
 |[],_=>by
  by_cases e:k=j
  ·rw[zzp e.symm];exact cu (p:=(k,y)) e
  ·rw[zzn (fun z=>e z.symm)];exact cw (p:=(k,y)) e
 |p::r,hn=>by
  rw[zaJ];have hk:¬p.1=k:=fun z=>by rw[cu z] at hn;cases hn
  rw[cw hk] at hn;have ih:=zI k j y r hn;by_cases e:p.1=j
  ·rw[cu e,cu e,zzn (fun z=>hk (e.trans z))]
  ·rw[cw e,cw e,ih]
theorem oX(ax:List (κ×V))(k j:κ)(y:V):cm (putK ax k y) j=if j=k then some y else cm ax j:=by
 unfold putK;by_cases a:(ax.any fun kv=>decide (kv.1=k))=true
 ·rw[zzp a,B8];rw[kA] at a;by_cases e:j=k
  ·obtain⟨x,hx⟩:=zcD.mp a;rw[zzp e,e,hx,zbn,zzp rfl]
  ·rw[zzn e];cases cm ax j with
   |none=>rfl
   |some x=>rw[zbn,zzn e]
 ·rw[zzn a];refine zI k j y ax ?_;rw[kA] at a;cases q:cm ax k with
  |none=>rfl
  |some x=>rw[q] at a;exact(a rfl).elim
theorem ip(ax:List (κ×V))(k:κ)(v:V):(putK ax k v).length<=ax.length+1:=by
 unfold putK;split
 ·rw[zad];lia
 ·rw[zae,zah,zaA];lia
theorem rA.qh{o:Option V}{u:Option zdl}(r:rA o u):o.isSome=u.isSome:=by
 cases o with
 |none=>cases u with
  |none=>rfl
  |some _=>exact(show False from r).elim
 |some _=>cases u with
  |none=>exact(show False from r).elim
  |some _=>rfl
theorem KV.val{ax:List (κ×V)}{vs:List (κ×zdl)}(r:KV ax vs)(k:κ):rA (cm ax k) (valueAt vs k):=by
 unfold KV at r
 induction r with
 |nil=>exact True.intro
 |@cons p q ps qs h t ih=>
  obtain⟨h1,h2⟩:=h;by_cases e:p.1=k
  ·have e':q.1=k:=h1.symm.trans e;have b:valueAt (q::qs) k=some q.2:=by simp[valueAt,zbQ,e']
   rw[cu e,b];exact h2
  ·have e':¬q.1=k:=fun z=>e (h1.trans z);have b:valueAt (q::qs) k=valueAt qs k:=by simp[valueAt,zbQ,e']
   rw[cw e,b];exact ih
theorem KV.any{ax:List (κ×V)}{vs:List (κ×zdl)}(r:KV ax vs)(k:κ):(ax.any fun kv=>decide (kv.1=k))=vs.any fun kv=>decide (kv.1=k):=by
 unfold KV at r
 induction r with
 |nil=>rfl
 |cons h t ih=>rw[zbX,zbX,ih,h.1]
theorem KV.Ro{ax:List (κ×V)}{vs:List (κ×zdl)}(r:KV ax vs)(k:κ){y:V}{u:zdl}(ry:RelV y u) :
 KV (ax.map fun kv=>if kv.1=k then (kv.1,y) else kv) (vs.map fun kv=>if kv.1=k then (kv.1,u) else kv):=by
 unfold KV at r ⊢
 induction r with
 |nil=>exact .nil
 |@cons p q ps qs h t ih=>
  rw[zal,zal];refine .cons ?_ ih;obtain⟨h1,h2⟩:=h;by_cases e:p.1=k
  ·rw[zzp e,zzp (h1.symm.trans e)];exact⟨h1,ry⟩
  ·rw[zzn e,zzn (fun z=>e (h1.trans z))];exact⟨h1,h2⟩
theorem KV.put{ax:List (κ×V)}{vs:List (κ×zdl)}(r:KV ax vs)(k:κ){y:V}{u:zdl}(ry:RelV y u):KV (putK ax k y) (stored vs k u):=by
 unfold putK stored;rw[r.any k];by_cases e:(vs.any fun kv=>decide (kv.1=k))=true
 ·rw[zzp e,zzp e];exact r.Ro k ry
 ·rw[zzn e,zzn e];exact Paired.snoc r ⟨rfl,ry⟩
theorem KV.length{ax:List (κ×V)}{vs:List (κ×zdl)}(r:KV ax vs):ax.length=vs.length:=Paired.length r
end
theorem xj{P:zdw}{w:zdm}{k:Key}{u:zdl}(r:RelV (kV k) u):(bT P w).is k u=true:=by
 cases k with
 |inl i=>obtain⟨t,e⟩:=(show ∃t,u=Value.int i t from r);subst e;exact BV P w i t
 |inr x=>obtain⟨t,e⟩:=(show ∃t,u=Value.str x t from r);subst e;exact BW P w x t
theorem uP{P:zdw}{w:zdm}:∀ {ks:List Key} {us:List zdl},Vals (ks.map kV) us->ItemsAre (bT P w) ks us
 |[],_,r=>by rw[za3] at r;cases r;exact .nil
 |k::ks,_,r=>by
  rw[zal] at r;cases r with
  |cons h t=>exact .cons (xj h) (uP t)
abbrev KT (H:Hp):List (List Key×V)->List (List Key×zdk×zdl)->Prop:=Paired fun p q=>p.1=q.1/\H q.2.1=some (.tup (p.1.map kV))/\RelV p.2 q.2.2
theorem KT.val{H:Hp}{ax:List (List Key×V)}{xs:List (List Key×zdk×zdl)}(r:KT H ax xs)(k:List Key):rA (cm ax k) ((atKey xs k).map (·.2)):=by
 induction r with
 |nil=>exact True.intro
 |@cons p q ps qs h t ih=>
  obtain⟨h1,_,h2⟩:=h;by_cases e:p.1=k
  ·have e':q.1=k:=h1.symm.trans e;have b:atKey (q::qs) k=some q.2:=by simp[atKey,zbQ,e']
   rw[cu e,b];exact h2
  ·have e':¬q.1=k:=fun z=>e (h1.trans z);have b:atKey (q::qs) k=atKey qs k:=by simp[atKey,zbQ,e']
   rw[cw e,b];exact ih
theorem KT.Ro{H:Hp}{ax:List (List Key×V)}{xs:List (List Key×zdk×zdl)}(r:KT H ax xs)(k:List Key){y:V}{u:zdl}(ry:RelV y u) :
 KT H (ax.map fun kv=>if kv.1=k then (kv.1,y) else kv) (xs.map (putAt k u)):=by
 induction r with
 |nil=>exact .nil
 |@cons p q ps qs h t ih=>
  rw[zal,zal];refine .cons ?_ ih;obtain⟨h1,h2,h3⟩:=h;unfold putAt;by_cases e:p.1=k
  ·rw[zzp e,zzp (h1.symm.trans e)];exact⟨h1,h2,ry⟩
  ·rw[zzn e,zzn (fun z=>e (h1.trans z))];exact⟨h1,h2,h3⟩
theorem KT.put{H:Hp}{ax:List (List Key×V)}{xs:List (List Key×zdk×zdl)}(r:KT H ax xs)(k:List Key){b:zdk}{y:V}{u:zdl}(hb:H b=some (.tup (k.map kV)))(ry:RelV y u) :
 KT H (putK ax k y) (storedH xs k b u):=by
 have e:(ax.any fun kv=>decide (kv.1=k))=(atKey xs k).isSome:=by
  rw[kA,(r.val k).qh,zcb]
 unfold putK storedH;rw[e];by_cases q:(atKey xs k).isSome=true
 ·rw[zzp q,zzp q];exact r.Ro k ry
 ·rw[zzn q,zzn q];exact Paired.snoc r ⟨rfl,hb,ry⟩
theorem KT.keeps{H H':Hp}{ax:List (List Key×V)}{xs:List (List Key×zdk×zdl)}(r:KT H ax xs)(ht:∀b ys,H b=some (.tup ys)->H' b=some (.tup ys)):KT H' ax xs:=
 Paired.Au r fun _ _ z=>⟨z.1,ht _ _ z.2.1,z.2.2⟩
section
variable{P:zdw}{w:zdm}{H:Hp}{h:Heap}{a:zdk}
theorem Pu{u:HO}(ok:oA P w H h)(e:Rd H a u):dh P w H h a u:=e.ok ok
theorem JU{ax:List (Key×V)}(ok:oA P w H h)(e:Rd H a (.dK ax)):ax.length<=zds/\(a==sysModules)=false/\∃vs,KV ax vs/\h.DictOf (bT P w) a vs:=
 show dh P w H h a (.dK ax) from Pu ok e
theorem FX{ax:List (Key×V)}(ok:oA P w H h)(e:H a=some (.dK ax)):ax.length<=zds/\(a==sysModules)=false/\∃vs,KV ax vs/\h.DictOf (bT P w) a vs:=JU ok (.inl e)
theorem Eo{ks:List Key}(ok:oA P w H h)(e:H a=some (.tup (ks.map kV))):(tupleKind (bT P w)).is h ks a:=by
 obtain⟨_,bC,r,o,h1,h2,n,h3⟩:=(show dh P w H h a (.tup (ks.map kV)) from ok a _ e)
 exact⟨o,bC.toArray,n,h1,h2,h3,by simpa using uP r⟩
theorem JV{ax:List (List Key×V)}(ok:oA P w H h)(e:Rd H a (.dT ax)):ax.length<=zds/\(a==sysModules)=false/\
 ∃xs,KT H ax xs/\h.DictOfH (tupleKind (bT P w)) a xs:=by
 obtain⟨z,y,xs,r,o,es,ep,h1,h2,h3,h4,h5⟩:=(show dh P w H h a (.dT ax) from Pu ok e)
 refine⟨z,y,xs,r,o,es,ep,h1,h2,h3,h4,fun x hx=>?_,h5⟩;have all:∀ {l:List (List Key×V)} {m:List (List Key×zdk×zdl)},KT H l m->∀x∈m,(tupleKind (bT P w)).is h x.1 x.2.1:=by
  intro l m q
  induction q with
  |nil=>intro x hx;exact nomatch hx
  |@cons p q ps qs hq t ih=>
   intro x hx;rcases zag.mp hx with e |hx
   ·subst e;exact Eo ok (by rw[<- hq.1];exact hq.2.1)
   ·exact ih x hx
 exact all r x hx
theorem UB{ax:List (List Key×V)}(ok:oA P w H h)(e:H a=some (.dT ax)):ax.length<=zds/\(a==sysModules)=false/\
 ∃xs,KT H ax xs/\h.DictOfH (tupleKind (bT P w)) a xs:=JV ok (.inl e)
end
def qE (H:Hp) (a:zdk) (y:V) (r:Option V):Prop:=
 (∃ax k,Rd H a (.dK ax)/\y=kV k/\r=cm ax k)\/∃ax k b,Rd H a (.dT ax)/\y=.ref b/\H b=some (.tup (k.map kV))/\r=cm ax k
def Rp (H:Hp) (a:zdk) (y v:V) (H':Hp):Prop:=
 (∃ax k,H a=some (.dK ax)/\y=kV k/\ax.length<zds/\H'=upd H a (.dK (putK ax k v)))\/
 ∃ax k b,H a=some (.dT ax)/\y=.ref b/\H b=some (.tup (k.map kV))/\ax.length<zds/\H'=upd H a (.dT (putK ax k v))
theorem qE.k{H:Hp}{a:zdk}{ax:List (Key×V)}{k:Key}(e:H a=some (.dK ax)):qE H a (kV k) (cm ax k):=.inl ⟨ax,k,.inl e,rfl,rfl⟩
section
variable{X:Cx}{pins:List (zdk×Obj)}{σ:St}{H:Hp}{s:zdu}{a:zdk}{y v:V}{u r:zdl}{o:Option V}{A:zdv}{E:zdl->zdu->Prop}
theorem Inv.big(I:Inv X pins σ H s):sysModules<s.heap.objs.size:=by
 have h:zdr<s.heap.objs.size:=(I.mod.glob.keeps I.bk).lt;exact Nat.lt_trans (by decide) h
theorem Hu{Q:zdl->zdu->Prop}(hu:A.units+1<cLine)(I:Inv X pins σ H s)(g:qE H a y (some v))(ry:RelV y u)(h:∀w' s',Inv X pins σ H s'->RelV v w'->Q w' s') :
 wpAny (model X.prog X.w) A (getItem (.ref a) u) Q E s:=by
 rcases g with ⟨ax,k,e,ey,l⟩ |⟨ax,k,b,e,ey,eb,l⟩
 ·subst ey;obtain⟨z,hd,vs,rel,dd⟩:=JU I.cM e;obtain⟨w',hw,Ef⟩:=rA.some_of (v:=v) (o:=valueAt vs k) (by rw[l];exact rel.val k);exact wpAny_getItem_of (xj ry) dd.mapOf hw (h w' _ (I.tok _) Ef)
 ·subst ey;cases (show u=Value.ref b from ry);obtain⟨z,hd,xs,rel,dd⟩:=JV I.cM e;obtain⟨w',hw,Ef⟩:=rA.some_of (v:=v) (o:=(atKey xs k).map (·.2)) (by rw[l];exact rel.val k);obtain⟨p,hp,yQ⟩:=zcf.mp hw;refine wpAny_getItem_heap (tupleKind_room_in1 hu) (Eo I.cM eb) dd hp ?_;rw[yQ];exact h w' _ (I.tok _) Ef
theorem kZ{h':Heap}{t':Nat}{ob:HO}(I:Inv X pins σ H s)(mu:TV (H a))(hs:Heap.SameBut a s.heap h')(he:∃q,h'.get? a=some q)(new:dh X.prog X.w (upd H a ob) h' a ob) :
 Inv X pins σ (upd H a ob) {s with heap:=h',toks:=t' }:=
 I.write (x:=a) (e:=a) mu (.inl rfl) (fun b q hb z=>(hs.2 b hb).trans z) he new
theorem xk{P:zdw}{w:zdm}{H':Hp}{h':Heap}{ax:List (Key×V)}{vs:List (Key×zdl)}(z:ax.length<=zds)(hd:(a==sysModules)=false)(rel:KV ax vs)(dd:h'.DictOf (bT P w) a vs) :
 dh P w H' h' a (.dK ax):=⟨z,hd,vs,rel,dd⟩
theorem Hv{H':Hp}{Q:Unit->zdu->Prop}(hu:A.units+1<cLine)(I:Inv X pins σ H s)(g:Rp H a y v H')(ry:RelV y u)(rv:RelV v r)(h:∀s',Inv X pins σ H' s'->Q () s') :
 wpAny (model X.prog X.w) A (setItem (.ref a) u r) Q E s:=by
 rcases g with ⟨ax,k,e,ey,l,eH⟩ |⟨ax,k,b,e,ey,eb,l,eH⟩
 ·subst ey eH;obtain⟨z,hd,vs,rel,dd⟩:=FX I.cM e;have hz:vs.length<=zds:=by rw[<- rel.length];exact z
  have hl:(putK ax k v).length<=zds:=by have:=ip ax k v;lia
  refine wpAny_setItem_pairs (hsz:=hz) (xj ry) dd fun h' FY hs=>h _ ?_;have he:∃q,h'.get? a=some q:=let ⟨q,_,_,hq,_⟩:=FY;⟨q,hq⟩;exact kZ I (by rw[e];exact True.intro) hs he (xk hl hd (rel.put k rv) FY)
 ·subst ey eH;cases (show u=Value.ref b from ry);obtain⟨z,hd,xs,rel,dd⟩:=UB I.cM e;have hz:xs.length<=zds:=by rw[<- Paired.length rel];exact z
  have hl:(putK ax k v).length<=zds:=by have:=ip ax k v;lia
  refine wpAny_setItem_heap (hsz:=hz) (tupleKind_room_in1 hu) (Eo I.cM eb) dd fun h' FY hs=>h _ ?_;obtain⟨q,es,ep,hq,h2,h3,h4,_,h5⟩:=FY;refine kZ I (by rw[e];exact True.intro) hs ⟨q,hq⟩ ⟨hl,hd,_,(rel.put k eb rv).keeps fun c ys ec=>?_,q,es,ep,hq,h2,h3,h4,h5⟩;rw[aw (bU ec e (fun z=>nomatch z))];exact ec
end
def Rq (i:Expr):Prop:=∀ov iv,subscripted i false ov iv=operate [ov,iv] (getItem ov iv)
theorem FZ{prog:zdw}{w:zdm}{A:zdv}{E:zdl->zdu->Prop}{s:zdu}{env:Env}{value slice:Expr}{pos:Pos}{T id:String}{Q:zdl->zdu->Prop}
 (hl:typeLookup (.type T) "__getitem__"=pure (some (.builtin id))) (hs:Rq slice)
 (h:wpAny (model prog w) A (eval value env) (fun o s₁=>wpAny (model prog w) A (eval slice env) (fun i s₂=>s₂.TypeIs o T/\wpAny (model prog w) A (getItem o i) Q E s₂) E s₁) E s) :
 wpAny (model prog w) A (eval (.Subscript value slice pos) env) Q E s:=by
 refine Subscript_ (wpAny_mono h (fun o s₁ h₁=>wpAny_mono h₁ (fun i s₂ h₂=>?_) fun _ _ x=>x) fun _ _ x=>x);obtain⟨hT,h₂⟩:=h₂;unfold subscriptTail;refine zdn ?_;rw[getitemInPython_of_ne hT.not_modules];refine zdn (wpAny_specialOf hT hl ?_);have fin:wpAny (model prog w) A (subscripted slice false o i) (fun r s₃=>wpAny (model prog w) A (letTemporaryGo value o r >>= fun _=>pure r) Q E s₃) E s₂:=by
  rw[hs o i];exact wpAny_operating (wpAny_mono h₂ (fun r s₃ h₃=>zdn (wpAny_letTemporaryGo (zdo h₃))) fun _ _ x=>x)
 first
  |exact zdo (zdn fin)
  |exact zdn (zdo (zdn fin))
  |exact zdn fin
theorem B9{X:Cx}{pins:List (zdk×Obj)}{σ:St}{H:Hp}{s:zdu}{a:zdk}{y:V}{o:Option V}(I:Inv X pins σ H s)(g:qE H a y o):s.TypeIs (.ref a) "dict":=by
 rcases g with ⟨ax,k,e,_,_⟩ |⟨ax,k,b,e,_,_,_⟩
 ·obtain⟨_,_,vs,_,dd⟩:=JU I.cM e;exact dd.typeIs
 ·obtain⟨_,_,xs,_,dd⟩:=JV I.cM e;exact dd.typeIs
def Px (td ty:TE):TE:=fun σ H Q=>td σ H fun x H1=>ty σ H1 fun y H2=>∃a v,x=.ref a/\qE H2 a y (some v)/\Q v H2
def Py (td ty tv:TE):TS:=fun D σ H=>tv σ H fun v H1=>td σ H1 fun x H2=>ty σ H2 fun y H3=>∃a H4,x=.ref a/\Rp H3 a y v H4/\D.nx σ H4
section
variable{X:Cx}{o i e value:Expr}{pos pos' Yq:Pos}{td ty tv:TE}
theorem cf(hu:X.A.units+1<cLine)(ho:PE X o td)(hi:PE X i ty)(hs:Rq i):PE X (.Subscript o i pos) (Px td ty):=by
 intro pins s σ H Q I h;refine FZ PySem.F.slot_dict_getitem.lookup hs (eZ (ho pins s σ H _ I h) fun u s1 zqz=>?_);obtain⟨x,H1,I1,rx,q1⟩:=zqz;refine eZ (hi pins s1 σ H1 _ I1 q1) fun iv s2 zqz=>?_;obtain⟨y,H2,I2,ry,a,v,ex,g,q2⟩:=zqz;subst ex;obtain rfl:u=Value.ref a:=rx;exact⟨B9 I2 g,Hu hu I2 g ry fun w' s3 I3 Ef=>⟨v,H2,I3,Ef,q2⟩⟩
theorem nh(hu:X.A.units+1<cLine)(ho:PE X o td)(hi:PE X i ty)(hv:PE X value tv)(hs:swapsWith value (some (.Subscript o i pos')) pos.line X.env=pure false) :
 PS X (.Assign [.Subscript o i pos'] value pos) (Py td ty tv):=by
 intro pins s σ H D I h;refine wpAny_Assign_Subscript (eZ (hv pins s σ H _ I h) fun r s1 zqz=>?_) hs;obtain⟨v,H1,I1,rv,q1⟩:=zqz;refine eZ (ho pins s1 σ H1 _ I1 q1) fun u s2 zqz=>?_;obtain⟨x,H2,I2,rx,q2⟩:=zqz;refine eZ (hi pins s2 σ H2 _ I2 q2) fun iv s3 zqz=>?_;obtain⟨y,H3,I3,ry,a,H4,ex,g,q3⟩:=zqz;subst ex;obtain rfl:u=Value.ref a:=rx;exact Hv hu I3 g ry rv fun s4 I4=>⟨σ,H4,I4,q3⟩
end
theorem Ca{P:zdw}{w:zdm}{H:Hp}(h:Heap)(hb:sysModules<h.objs.size):dh P w H (h.push {cls:=.type "dict",data:=.dict #[]}) h.objs.size (.dK []):=
 ⟨za0 _,beq_eq_false_iff_ne.mpr (Ne.symm (zaD hb)),[],.nil,Heap.DictOf.new h⟩
def JW:TE:=fun _ H Q=>∀p,H p=none->Q (.ref p) (upd H p (.dK []))
section
variable{X:Cx}{pos:Pos}
theorem xl:PE X (.Dict [] [] pos) JW:=fun pins s σ H Q I h=>
 wpAny_Dict_empty ⟨.ref s.heap.objs.size,_,I.laid (a:=s.heap.objs.size) (o:=.dK []) (t':=s.toks) (fun _ _ q=>Heap.get?_push_of_some _ q) (zaf _) (Ca s.heap I.big),rfl,h _ (I.cM.fresh (zaf _))⟩
end
def AK:List (TE×TE)->St->Hp->(List (V×V)->Hp->Prop)->Prop
 |[],_,H,Q=>Q [] H
 |(tk,tv)::r,σ,H,Q=>tk σ H fun x H1=>tv σ H1 fun y H2=>AK r σ H2 fun ps H3=>Q ((x,y)::ps) H3
abbrev VV:List (V×V)->List (zdl×zdl)->Prop:=Paired fun p q=>RelV p.1 q.1/\RelV p.2 q.2
def WY (X:Cx) (pos:Pos) (keys:List (Option Expr)) (values:List Expr) (NC:List (TE×TE)):Prop:=
 ∀(pins:List (zdk×Obj)) (s:zdu) (σ:St) (H:Hp) (Q:List (V×V)->Hp->Prop),Inv X pins σ H s->AK NC σ H Q->
  wpAny (model X.prog X.w) X.A (evalPairs (pairTrees keys values X.env pos)) (fun vs s'=>∃ps H',Inv X pins σ H' s'/\VV ps vs/\Q ps H') X.xe s
theorem ND{X:Cx}{pos:Pos}:WY X pos [] [] []:=fun pins s σ H Q I h=>pairTrees_nil_walk ⟨[],H,I,.nil,h⟩
theorem xn{X:Cx}{pos:Pos}{k v:Expr}{ks:List (Option Expr)}{vs:List Expr}{tk tv:TE}{NC:List (TE×TE)}(hk:PE X k tk)(hv:PE X v tv)(hr:WY X pos ks vs NC) :
 WY X pos (some k::ks) (v::vs) ((tk,tv)::NC):=fun pins s σ H Q I h=>
 pairTrees_cons_walk (eZ (hk pins s σ H _ I h) fun u s1 ⟨x,H1,I1,rx,q1⟩=>eZ (hv pins s1 σ H1 _ I1 q1) fun w2 s2 ⟨y,H2,I2,ry,q2⟩=>
  eZ (hr pins s2 σ H2 _ I2 q2) fun ws s3 ⟨ps,H3,I3,rel,q3⟩=>⟨(x,y)::ps,H3,I3,.cons ⟨rx,ry⟩ rel,q3⟩)
def iB (ax more:List (Key×V)):List (Key×V):=more.foldl (fun acc kv=>putK acc kv.1 kv.2) ax
theorem KV.merge:∀ {more:List (Key×V)} {rs:List (Key×zdl)} {ax:List (Key×V)} {vs:List (Key×zdl)},KV more rs->KV ax vs->KV (iB ax more) (merged vs rs):=by
 intro more rs ax vs r;unfold KV at r
 induction r generalizing ax vs with
 |nil=>intro q;exact q
 |@cons p q ps qs h t ih=>
  intro r0;have e:KV (putK ax p.1 p.2) (stored vs q.1 q.2):=by
   have:=r0.put p.1 h.2;rw[<- h.1];exact this
  exact ih e
theorem gU:∀(more ax:List (Key×V)),(iB ax more).length<=ax.length+more.length
 |[],ax=>by show ax.length<=ax.length+0;lia
 |p::r,ax=>by
  have h1:=gU r (putK ax p.1 p.2);have h2:=ip ax p.1 p.2;show (iB (putK ax p.1 p.2) r).length<=_;rw[zah];lia
theorem xo{P:zdw}{w:zdm}:∀ {ax:List (Key×V)} {ws:List (zdl×zdl)},VV (ax.map fun kv=>(kV kv.1,kv.2)) ws->∃rs,Carries (bT P w) ws rs/\KV ax rs
 |[],_,r=>by rw[za3] at r;cases r;exact⟨[],True.intro,.nil⟩
 |p::ax,_,r=>by
  rw[zal] at r;cases r with
  |@cons a b as bs h t=>
   obtain⟨rs,c,q⟩:=xo (P:=P) (w:=w) t;obtain⟨b1,b2⟩:=b;exact⟨(p.1,b2)::rs,⟨xj h.1,rfl,c⟩,.cons ⟨rfl,h.2⟩ q⟩
def Pz (NC:List (TE×TE)):TE:=fun σ H Q=>∀p,H p=none->AK NC σ (upd H p (.dK [])) fun ps H2=>H2 p=some (.dK [])/\∃ax:List (Key×V),ps=ax.map (fun kv=>(kV kv.1,kv.2))/\ax.length<=15/\Q (.ref p) (upd H2 p (.dK (iB [] ax)))
theorem NF{X:Cx}{pos:Pos}{keys:List (Option Expr)}{values:List Expr}{NC:List (TE×TE)}(h:WY X pos keys values NC)(Rm:keys.all (·.isSome)=true)(hl:keys.length=values.length)(h0:keys≠[])
 (YD:keys.length<=15):PE X (.Dict keys values pos) (Pz NC):=by
 intro pins s σ H Q I q;have hn:=I.cM.fresh (zaf s.heap.objs.size);have I1:=I.laid (a:=s.heap.objs.size) (o:=.dK []) (h':=s.heap.push {cls:=.type "dict",data:=.dict #[]}) (t':=s.toks) (fun _ _ q=>Heap.get?_push_of_some _ q) (zaf _) (Ca s.heap I.big);refine wpAny_Dict_walk (knd:=bT X.prog X.w) Rm hl h0 YD (eZ (h pins _ σ _ _ I1 (q _ hn)) fun ws s2 zqz=>?_);obtain⟨ps,H2,I2,rel,e,ax,ep,lk,q2⟩:=zqz;subst ep;obtain⟨rs,c,rk⟩:=xo (P:=X.prog) (w:=X.w) rel;obtain⟨z,hd,vs0,r0,dd⟩:=FX I2.cM e;cases r0;refine⟨rs,c,dd,fun h' FY hs=>⟨.ref s.heap.objs.size,_,?_,rfl,q2⟩⟩;have hz:(iB [] ax).length<=zds:=by
  have h1:=gU ax [];rw[zaA] at h1;rw[sizeLine_eq];lia
 have he:∃q,h'.get? s.heap.objs.size=some q:=let ⟨q,_,_,hq,_⟩:=FY;⟨q,hq⟩;exact kZ I2 (by rw[e];exact True.intro) hs he (xk hz hd (rk.merge .nil) FY)
def uQ (env:Env):List (Str×NameKind)->List (Str×zdk)->List (Str×zdk)
 |[],cs=>cs
 |(n,k)::r,cs=>uQ env r (if k==.free then (n,(env.cells.lookup n).getD 0)::cs else cs)
theorem we{scope:Scope}{env:Env}(h:∀p∈scope.names,p.2=.free->∃c,env.cells.lookup p.1=some c):closureFor scope env=pure (uQ env scope.names []):=by
 have all:∀(l:List (Str×NameKind)) (cs:List (Str×zdk)),(∀p∈l,p.2=.free->∃c,env.cells.lookup p.1=some c)->
  (forIn l cs fun (x:Str×NameKind) (r:List (Str×zdk))=>if (x.2==NameKind.free)=true then do let a <- cellOf env x.1;pure (ForInStep.yield ((x.1,a)::r)) else (pure (ForInStep.yield r):Sem _))=pure (uQ env l cs):=by
  intro l
  induction l with
  |nil=>intro cs _;rfl
  |cons p r ih=>
   intro cs hp;obtain⟨n,k⟩:=p;rw[zba];by_cases hk:k=.free
   ·subst hk;obtain⟨c,e⟩:=hp (n,.free) zaq rfl;have e1:cellOf env n=pure c:=by unfold cellOf;rw[e]
    simp only[beq_self_eq_true,if_true,e1,pure_bind];rw[ih _ fun p Te=>hp p (zat _ Te)];simp[uQ,e]
   ·have hb:(k==NameKind.free)=false:=by simpa using hk
    simp only[hb,zay,if_false,pure_bind];rw[ih _ fun p Te=>hp p (zat _ Te)];simp[uQ,hb]
 simp only[closureFor];rw[all scope.names [] h];simp
theorem tG{env:Env}{x:Str}{c:zdk}:∀ {l:List (Str×NameKind)} {cs:List (Str×zdk)},(∀p∈l,p.2=.free->∃c,env.cells.lookup p.1=some c)->(∀x c,cs.lookup x=some c->env.cells.lookup x=some c)->
 (uQ env l cs).lookup x=some c->env.cells.lookup x=some c
 |[],_,_,h,e=>h x c e
 |(n,k)::r,cs,hp,h,e=>by
  unfold uQ at e;refine tG (fun p q=>hp p (zat _ q)) ?_ e;intro y d q;by_cases hk:k=.free
  ·subst hk;obtain⟨c',e'⟩:=hp (n,.free) zaq rfl;simp only[beq_self_eq_true,if_true] at q;rw[zaX] at q;cases hy:y==n with
   |true=>
    rw[hy] at q;have:y=n:=by simpa using hy
    subst this;simp only at e';rw[e'] at q ⊢;exact q
   |false=>rw[hy] at q;exact h y d q
  ·have hb:(k==NameKind.free)=false:=by simpa using hk
   simp only[hb,zay,if_false] at q;exact h y d q
theorem xp{env:Env}{x:Str}:∀ {l:List (Str×NameKind)} {cs:List (Str×zdk)},((∃c,cs.lookup x=some c)\/(x,NameKind.free)∈l)->∃c,(uQ env l cs).lookup x=some c
 |[],_,h=>by
  rcases h with h |h
  ·exact h
  ·exact zzb h (by simp)
 |(n,k)::r,cs,h=>by
  unfold uQ
  apply xp
  rcases h with ⟨c,h⟩ |h
  ·left
   by_cases hk:k=.free
   ·subst hk;simp only[beq_self_eq_true,if_true];rw[zaX];cases hy:x==n with
    |true=>exact⟨_,rfl⟩
    |false=>exact⟨c,h⟩
   ·have hb:(k==NameKind.free)=false:=by simpa using hk
    simp only[hb,zay,if_false];exact⟨c,h⟩
  ·rcases zag.mp h with e |h
   ·injection e with e1 e2
    subst e1;subst e2
    left
    simp only[beq_self_eq_true,if_true];rw[zaX];simp
   ·exact .inr h
theorem oY{scope:Scope}{env:Env}{x:Str}:(relabel scope env).names.lookup x=(scope.names.lookup x).map fun k=>if (k==NameKind.free&&env.scope.kind==.function&&env.kindOf x==some .cell)=true then .cell else k:=by
 unfold relabel;show zbl x (scope.names.map _)=_;generalize scope.names=l
 induction l with
 |nil=>rfl
 |cons p r ih=>
  obtain⟨n,k⟩:=p;rw[zal,zaX (as:=r)];show zbl x ((if (k==NameKind.free&&env.scope.kind==.function&&env.kindOf n==some .cell)=true then (n,NameKind.cell) else (n,k))::_)=_;cases hx:x==n with
  |true=>
   have e:x=n:=by simpa using hx
   subst e;by_cases hc:(k==NameKind.free&&env.scope.kind==.function&&env.kindOf x==some .cell)=true
   ·rw[zzp hc];simp only[zaX,beq_self_eq_true,zbn];rw[zzp hc]
   ·rw[zzn hc];simp only[zaX,beq_self_eq_true,zbn];rw[zzn hc]
  |false=>
   by_cases hc:(k==NameKind.free&&env.scope.kind==.function&&env.kindOf n==some .cell)=true
   ·rw[zzp hc];simp only[zaX,hx];exact ih
   ·rw[zzn hc];simp only[zaX,hx];exact ih
theorem mem_of_lookup{x:Str}{k:NameKind}:∀ {l:List (Str×NameKind)},l.lookup x=some k->(x,k)∈l
 |[],h=>by simp at h
 |(n,j)::r,h=>by
  rw[zaX] at h;cases hx:x==n with
  |true=>
   rw[hx] at h;have e:x=n:=by simpa using hx
   cases h;subst e;exact zaq
  |false=>rw[hx] at h;exact zat _ (mem_of_lookup h)
def jX (sc out:Scope):Bool:=
 (sc.names.all fun p=>p.2 != .cell&&(p.2 != .free ||out.names.lookup p.1==some .cell ||out.names.lookup p.1==some .free)&&(p.2 != .local ||sc.names.lookup p.1==some .local))&&decide (sc.kind=.function)
def wI (sc out:Scope) (N:List Str) (ix:List Nat):Bool:=
 ix.all fun i=>sc.names.lookup (N.getD i "")==some .free&&(out.names.lookup (N.getD i "")==some .cell ||out.names.lookup (N.getD i "")==some .free)
def JX (σ:St) (ix:List Nat):St:=ix.map fun i=>σ.getD i none
abbrev F0 (N:List Str) (ix:List Nat):List Str:=ix.map fun i=>N.getD i ""
def kB (X:Cx) (scope:Scope) (own:List Str) (ix:List Nat) (C:zdk) (s₀:zdu) (H₀:Hp) (ex:List zdk):Cx where
 prog:=X.prog
 w:=X.w
 K:=X.K
 mg:=X.mg
 base:=X.base
 A:=X.A
 N:=own++F0 X.N ix
 s₀:=s₀
 H₀:=H₀
 env:=compEnvC scope (uQ X.env scope.names []) C X.env
 outer:=X.stack
 stack:=X.stack
 ex:=ex
 fn:=fun _=>false
 calm:=X.calm
 pn:=[]
 xe:=fun _ _=>False
section
variable{X:Cx}{pins:List (zdk×Obj)}{σ:St}{H:Hp}{s:zdu}
theorem oZ{sc out:Scope}(h:jX sc out=true):∀p∈sc.names,p.2≠.cell/\(p.2=.free->out.names.lookup p.1=some .cell\/out.names.lookup p.1=some .free)/\(p.2=.local->sc.names.lookup p.1=some .local):=by
 intro p hp;unfold jX at h;rw[zbc] at h;have:=List.all_eq_true.mp h.1 p hp;simp only[zbc,Bool.or_eq_true,bne_iff_ne,beq_iff_eq,ne_eq] at this;obtain⟨⟨h1,h2⟩,h3⟩:=this;refine⟨h1,fun e=>?_,fun e=>?_⟩
 ·rcases h2 with (h2 |h2) |h2
  ·exact zzb e h2
  ·exact .inl h2
  ·exact .inr h2
 ·rcases h3 with h3 |h3
  ·exact zzb e h3
  ·exact h3
theorem nj{sc out:Scope}(h:jX sc out=true):sc.kind=.function:=by
 unfold jX at h;rw[zbc] at h;exact of_decide_eq_true h.2
theorem NG{scope:Scope}{own:List Str}{ix:List Nat}{ex:List zdk}(I:Inv X pins σ H s)(hf:jX scope X.env.scope=true)(hx:∀b∈ex,sS X pins H b/\b<s.heap.objs.size):(kB X scope own ix s.heap.objs.size s H ex).Ok:=by
 have fits:=(oZ hf)
 have sQ:∀p∈scope.names,p.2=.free->∃c,X.env.cells.lookup p.1=some c:=fun p hp e=>I.ok.has p.1 ((fits p hp).2.1 e);have sub:∀ {x:Str} {c:zdk},(uQ X.env scope.names []).lookup x=some c->X.env.cells.lookup x=some c:=fun {x c} e=>tG sQ (fun x c e=>by simp at e) e;refine⟨I.ok.mod,(show scope.kind=.function from nj hf),I.ok.glob,I.ok.blt,zaf _,fun x y c a b=>I.ok.inj x y c (sub a) (sub b),fun x hk=>?_,fun x c e=>(by cases e),I.ok.hd,I.ok.frames,.inl rfl,fun b hb=>⟨zaD (hx b hb).2,fun x c e=>(hx b hb).1.2.2.2.2.1 x c (sub e)⟩,I.bs,zaC I.ok.BX I.sz,fun b o e hb=>?_,fun b hb hs=>?_,I.stack,I.Aw⟩
 ·refine xp (.inr ?_);have JY:(relabel scope X.env).names.lookup x=some .cell\/(relabel scope X.env).names.lookup x=some .free:=hk;rw[oY] at JY;cases q:scope.names.lookup x with
  |none=>rw[q] at JY;rcases JY with z |z<;>cases z
  |some k=>
   have hm:=mem_of_lookup q;by_cases YE:k=.free
   ·subst YE;exact hm
   ·rw[q] at JY;have hb:(k==NameKind.free)=false:=by simpa using YE
    simp only[zbn,hb,Bool.false_and,zay,if_false,zaO.injEq] at JY;rcases JY with z |z
    ·exact zzb z (fits _ hm).1
    ·exact zzb z YE
 ·rcases(hx b hb).1.2.2.2.1 with z |z
  ·exact I.ok.Jq b o e z
  ·exact zzb (zaB (Heap.lt_size e) (zaC I.ok.BX z)) (zaW _)
 ·rcases zag.mp (I.w5 b hs) with z |z
  ·exact(hx b hb).1.2.1 z
  ·exact(hx b hb).1.2.2.1 z
theorem JZ{scope:Scope}{own:List Str}{ix:List Nat}{ex:List zdk}{h':Heap}{tk:Nat}(I:Inv X pins σ H s)(hf:jX scope X.env.scope=true)(hc:wI scope X.env.scope X.N ix=true)(hx:∀b∈ex,sS X pins H b/\b<s.heap.objs.size)
 (hn:h'.Ns s.heap.objs.size fun _=>none) (hk:∀b o,s.heap.get? b=some o->h'.get? b=some o):Inv (kB X scope own ix s.heap.objs.size s H ex) [] (zct own.length none++JX σ ix) H {s with heap:=h',toks:=tk}:=by
 have fits:=(oZ hf)
 have sQ:∀p∈scope.names,p.2=.free->∃c,X.env.cells.lookup p.1=some c:=fun p hp e=>I.ok.has p.1 ((fits p hp).2.1 e);have sub:∀ {x:Str} {c:zdk},(uQ X.env scope.names []).lookup x=some c->X.env.cells.lookup x=some c:=fun {x c} e=>tG sQ (fun x c e=>by simp at e) e;refine⟨NG I hf hx,rfl,I.bare,Un.kept hk,⟨_,hn,fun i x v e1 e2 e3=>?_⟩,fun x c e=>?_,I.cM.fresh (zaf _),fun x c e=>I.oB x c (sub e),fun p hp=>zzb (show p∈([]:List (zdk×Obj))++[] from hp) (by simp),I.cM.kept hk,?_⟩
 ·have e1:(own++F0 X.N ix)[i]?=some x:=e1;by_cases hi:i<own.length
  ·rw[zbY (by simpa using hi),zcM,zzp hi] at e2;cases e2
  ·have hi':own.length<=i:=Nat.le_of_not_lt hi;rw[zbC (by simpa using hi'),zcZ] at e2;rw[zbC hi'] at e1;unfold JX at e2;unfold F0 at e1;rw[zam] at e1 e2;cases q:ix[i-own.length]? with
   |none=>rw[q] at e2;cases e2
   |some j=>
    rw[q] at e1 e2;simp only[zbn,zaO.injEq] at e1 e2;have hj:j∈ix:=zaI q;have fit:=List.all_eq_true.mp hc j hj;simp only[zbc,Bool.or_eq_true,beq_iff_eq] at fit;rw[e1] at fit;have ej:σ[j]?=some (some v):=by
     rw[zap] at e2;cases r:σ[j]? with
     |none=>rw[r] at e2;cases e2
     |some z=>rw[r] at e2;simp only[zck] at e2;rw[e2]
    have hjl:j<X.N.length:=by rw[<- I.len];exact(zak.mp ej).1
    have en:X.N[j]?=some x:=by
     rw[zap] at e1;rw[zac hjl] at e1 ⊢;simp only[zck] at e1;rw[e1]
    obtain⟨m,hm,hl⟩:=I.loc;have hv:T1 X.env.scope x:=by
     rcases fit.2 with z |z
     ·exact .inr (.inl z)
     ·exact .inr (.inr z)
    obtain⟨u,r,l⟩:=hl j x v en ej hv;refine⟨u,r,.inr ⟨?_,?_⟩⟩
    ·show (relabel scope X.env).names.lookup x=some .cell\/(relabel scope X.env).names.lookup x=some .free;rw[oY,fit.1];simp only[zbn];split
     ·exact .inl rfl
     ·exact .inr rfl
    ·rcases l with ⟨k1,_⟩ |⟨_,c,ec,vH⟩
     ·have k1:X.env.scope.names.lookup x=some .local:=k1;rcases fit.2 with z |z<;>(rw[z] at k1;cases k1)
     ·obtain⟨c',e'⟩:∃c,(uQ X.env scope.names []).lookup x=some c:=xp (.inr (mem_of_lookup fit.1));have:=sub e';rw[ec] at this;cases this;exact⟨c,e',vH.keeps hk⟩
 ·obtain⟨v,z⟩:=I.cell x c (sub e);exact⟨v,z.keeps hk⟩
 ·show (zct own.length none++JX σ ix).length=(own++F0 X.N ix).length;simp[JX]
theorem comp_back{scope:Scope}{own:List Str}{ix:List Nat}{ex:List zdk}{τ:St}{H':Hp}{s':zdu}{FE:List (zdk×Obj)}(I:Inv X pins σ H s)(hx:∀b∈ex,sS X pins H b/\b<s.heap.objs.size)
 (I':Inv (kB X scope own ix s.heap.objs.size s H ex) FE τ H' s'):Inv X pins σ H' s'/\H' s.heap.objs.size=none/\s.heap.objs.size≠X.env.locals/\X.s₀.heap.objs.size<=s.heap.objs.size/\(∀x c,X.env.cells.lookup x=some c->c≠s.heap.objs.size)/\∀p∈X.pn++pins,p.1≠s.heap.objs.size:=by
 refine⟨I.T6 (ch:=ex) I'.os I'.base I'.cM I'.bare fun b hb=>?_,I'.free,zbM I.lt,I.sz,fun x c e z=>?_,fun p hp z=>?_⟩
 ·obtain⟨f0,f1,f2,f3,f4,f5⟩:=(hx b hb).1;exact⟨f3,f1,f4,f5⟩
 ·obtain⟨v,q⟩:=I.cell x c e;exact zzb q.lt (by rw[z];exact zaW _)
 ·exact zzb (Heap.lt_size (I.pin p hp).1) (by rw[z];exact zaW _)
end
def Tf (X:Cx) (ifs:List Expr) (t:TT):Prop:=
 ∀(pins:List (zdk×Obj)) (s:zdu) (σ:St) (H:Hp) (Q:Bool->Hp->Prop),Inv X pins σ H s->t σ H Q->
  wpAny (model X.prog X.w) X.A (forIn ifs true fun c r=>if r=true then do let ok <- isTrue c X.env (eval c X.env);pure (ForInStep.yield ok) else pure (ForInStep.yield r)) (TP X pins σ Q) X.xe s
def AL:TT:=fun _ H Q=>Q true H
theorem iC{X:Cx}:Tf X [] AL:=fun _ _ _ H _ I h=>wpAny_tests_nil ⟨H,I,h⟩
theorem F1{X:Cx}{c:Expr}{t:TT}(h:PT X c t):Tf X [c] t:=fun pins s σ H Q I q=>wpAny_tests_one (h pins s σ H Q I q)
def vM (J:It) (D:zdk) (g:TG) (tc:TT) (te:TE) (Q:VK) (τ:St) (H:Hp):Prop:=∃W:Nat->Nat->St->Hp->Prop,(∃m,W 0 m τ H)/\∀i m τ H,W i m τ H->
 (J.stop i H/\Q (.ref D) H)\/(J.go i H/\∃N:St->Hp->Prop,(∀τ' H',N τ' H'->∃m',m'<m/\W (i+1) m' τ' H')/\∀x H',J.zw i H x H'->g x τ H' fun τ2 H2=>tc τ2 H2 fun b H3=>if b=true then
  te τ2 H3 fun y H4=>∃ys,H4 D=some (.lst ys)/\ys.length<zds/\N τ2 (upd H4 D (.lst (ys++[y]))) else N τ2 H3)
def jT (wi:TI) (k:Nat) (ix:List Nat) (g:TG) (tc:TT) (te:TE):TE:=fun σ H Q=>wi σ H fun J H1=>∀D,H1 D=none->vM J D g tc te Q (zct k none++JX σ ix) (upd H1 D (.lst []))
section
variable{X:Cx}{tg iter elt:Expr}{ifs:List Expr}{scope:Scope}{pos:Pos}{own:List Str}{ix:List Nat}{wi:TI}{g:TG}{tc:TT}{te:TE}
theorem Hw{it D:zdk}{fp:List zdk}{tn:Nat->Heap->Prop}{J:It}{Q:VK}{R:Result->zdu->Prop}{s:zdu}{τ:St}{H:Hp}(vN:X.calm=true)(NH:X.xe=fun _ _=>False)(hpn:X.pn=[])(T:Turn X.prog X.w X.K tg J fp it tn)
 (he:PE X elt te) (hg:PG X tg g) (ht:Tf X ifs tc) (I:Inv X [] τ H s) (hfp:∀b∈fp,sS X [] H b) (h0:tn 0 s.heap) (hW:vM J D g tc te Q τ H)
 (hR:∀τ' H' s',Inv X [] τ' H' s'->Q (.ref D) H'->R (.ok .next) s') :
 codeAny (model X.prog X.w) X.A (.compLoop (.ListComp elt [⟨tg,iter,ifs,0⟩] scope pos) 0 (.ref it) (.ref D) X.env) R s:=by
 obtain⟨W,⟨m0,w0⟩,turn⟩:=hW;have no:∀ {E:zdl->zdu->Prop} (e:zdl) (s':zdu),X.xe e s'->E e s':=fun e s' z=>by rw[NH] at z;exact z.elim
 have stat:∀ {H':Hp},(∀b∈fp,H' b=none)->∀b∈fp,sS X [] H' b:=fun hn b hb=>⟨hn b hb,(hfp b hb).2⟩
 refine codeAny_loop rfl (fun n s'=>∃i τ' H',Inv X [] τ' H' s'/\tn i s'.heap/\(∀b∈fp,H' b=none)/\W i n τ' H') (fun n s3 hI=>?_) m0 ⟨0,τ,H,I,h0,fun b hb=>(hfp b hb).1,w0⟩;obtain⟨i,τ3,H3,I3,Pm,Ud,w3⟩:=hI;show wpAny _ X.A ((compTurn (.ListComp elt [⟨tg,iter,ifs,0⟩] scope pos) 0 (.ref it) (.ref D) X.env).onRaise (fun x=>do noteFrame x X.env;theTreesLotGoes x)) _ _ s3;refine wpAny_noted ?_;rw[compTurn_list];refine zdn (wpAny_standAt (zdn ?_));rcases turn i n τ3 H3 w3 with ⟨stop,q⟩ |⟨go,N,hN,step⟩
 ·refine wpAny_mono (T.done X rfl rfl rfl vN i [] s3 τ3 H3 X.xe I3 (stat Ud) Pm stop) (fun r s4 zqz=>?_) no;obtain⟨hr,I4⟩:=zqz;subst hr;exact zdo (hR τ3 H3 s4 I4 q)
 ·refine wpAny_mono (T.item X rfl rfl rfl vN i [] s3 τ3 H3 X.xe I3 (stat Ud) Pm go) (fun r s4 zqz=>?_) no;obtain⟨u,hr,h4⟩:=zqz;subst hr;refine zdn (wpAny_mono h4 (fun _ s5 zqz=>?_) no);obtain⟨x,H5,I5,r5,y5,Jy,Yl⟩:=zqz;have Ym:=I5.pinned (stat Yl) (T.obj _ _ Jy);refine zdn (wpAny_mono (hg _ s5 τ3 H5 x u _ Ym r5 (step x H5 y5)) (fun _ s6 zqz=>?_) no);obtain⟨τ6,H6,I6,q6⟩:=zqz;refine zdn (wpAny_mono (ht _ s6 τ6 H6 _ I6 q6) (fun b s7 zqz=>?_) no);obtain⟨H7,I7,q7⟩:=zqz;have again:∀ {τ7:St} {H7:Hp} {s7:zdu},Inv X ([]++w8 fp s5.heap) τ7 H7 s7->N τ7 H7->∃m,m<n/\∃i σ' H',Inv X [] σ' H' s7/\tn i s7.heap/\(∀b∈fp,H' b=none)/\W i m σ' H':=fun {τ7 H7 s7} I7 n7=>by
   obtain⟨m',hm,w7⟩:=hN τ7 H7 n7;refine⟨m',hm,i+1,τ7,H7,I7.sT,T.keep _ _ _ Jy fun b hb o e=>(I7.pin (b,o) (zaL _ (zaL _ (mZ hb e)))).1,fun b hb=>?_,w7⟩;obtain⟨o,e,d⟩:=T.obj _ _ Jy b hb;exact(I7.pin (b,o) (zaL _ (zaL _ (mZ hb e)))).2.1
  cases b with
  |false=>exact zdo ⟨rfl,again I7 q7⟩
  |true=>
   refine zdn (zdn (wpAny_mono (he _ s7 τ6 H7 _ I7 q7) (fun v s8 ⟨y,H8,I8,r8,ys,hD,hl,q8⟩=>zdn ?_) no));refine wpAny_mono (bD _ s8 τ6 H8 (.ref D) [y] (.ref D) [v] (fun _ H'=>N τ6 H') I8 rfl (.cons r8 .nil) ⟨D,ys,y,rfl,rfl,hD,hl,q8⟩) (fun _ s9 zqz=>?_) no;obtain⟨_,H9,I9,_,q9⟩:=zqz;exact zdo (zdo ⟨rfl,again I9 q9⟩)
theorem Cb{pins:List (zdk×Obj)}{s:zdu}{σ:St}{H:Hp}{Q:VK}{use:Option (zdl->Sem Unit)}{Q':zdl->zdu->Prop}(vN:X.calm=true)(hf:jX scope X.env.scope=true)(hc:wI scope X.env.scope X.N ix=true)
 (hi:PI X tg iter wi) (hg:∀C s₀ H₀ ex,PG (kB X scope own ix C s₀ H₀ ex) tg g) (ht:∀C s₀ H₀ ex,Tf (kB X scope own ix C s₀ H₀ ex) ifs tc) (he:∀C s₀ H₀ ex,PE (kB X scope own ix C s₀ H₀ ex) elt te)
 (I:Inv X pins σ H s) (h:jT wi own.length ix g tc te σ H Q)
 (hU:∀(D C:zdk) (H':Hp) (s':zdu) (m:Str->Option zdl),Inv X pins σ H' s'->Q (.ref D) H'->s'.heap.Ns C m->H' C=none->C≠X.env.locals->X.s₀.heap.objs.size<=C->(∀x c,X.env.cells.lookup x=some c->c≠C)->(∀p∈X.pn++pins,p.1≠C)->compPost (model X.prog X.w) X.A X.xe use Q' (.ref D) C (.ok .next) s')
 (hs:∀x,foldedSetIterable iter X.env x=pure x) :
 wpAny (model X.prog X.w) X.A (comprehension (.ListComp elt [⟨tg,iter,ifs,0⟩] scope pos) scope X.env (firstIterPos [⟨tg,iter,ifs,0⟩] pos) (newList []) false (eval iter X.env) use) Q' X.xe s:=by
 have fits:=(oZ hf)
 have sQ:∀p∈scope.names,p.2=.free->∃c,X.env.cells.lookup p.1=some c:=fun p hp e=>I.ok.has p.1 ((fits p hp).2.1 e);refine wpAny_comprehension_free (use:=use) rfl hs (we sQ) (nj hf) (fun x hx=>(fits x hx).2.2) ?_;refine eZ (hi pins s σ H _ I h) fun v s1 h1=>eZ h1 fun Yk s2 h2=>?_;obtain⟨it,fp,tn,J,H2,e,I2,T,yH,f2,hW⟩:=h2;subst e;refine wpAny_newObj_type (hd:=by size_fits) ?_;have hD:H2 s2.heap.objs.size=none:=I2.cM.fresh (zaf _);have I3:Inv X pins σ (upd H2 s2.heap.objs.size (.lst [])) {s2 with heap:=s2.heap.push {cls:=.type "list",dict:=none,data:=.seq ([]:List zdl).toArray} }:=
  I2.laid (t':=s2.toks) (fun b u e=>Heap.get?_push_of_some _ e) (zaf _) ⟨za0 _,[],0,.nil,Heap.get?_push_size _ rfl⟩
 have W3:=hW s2.heap.objs.size hD;have lt3:∀b∈fp,b<s2.heap.objs.size:=fun b hb=>let ⟨o,e,_⟩:=T.obj _ _ yH b hb;Heap.lt_size e;have UC:∀b∈fp,sS X pins (upd H2 s2.heap.objs.size (.lst [])) b/\b<(s2.heap.push {cls:=.type "list",dict:=none,data:=.seq ([]:List zdl).toArray}).objs.size:=fun b hb=>
  ⟨⟨by rw[aw (zaD (lt3 b hb))];exact(f2 b hb).1,(f2 b hb).2⟩,by rw[Heap.size_push];exact zcc (lt3 b hb)⟩
 have Pm:tn 0 (s2.heap.push {cls:=.type "list",dict:=none,data:=.seq ([]:List zdl).toArray}):=T.keep _ _ _ yH fun b _ o e=>Heap.get?_push_of_some _ e;generalize hs3:({s2 with heap:=s2.heap.push {cls:=.type "list",dict:=none,data:=.seq ([]:List zdl).toArray} }:zdu)=s3 at I3;generalize hH3:upd H2 s2.heap.objs.size (.lst [])=H3 at I3 W3 UC;have eh:s2.heap.push {cls:=.type "list",dict:=none,data:=.seq ([]:List zdl).toArray}=s3.heap:=by rw[<- hs3]
 rw[eh] at UC Pm;refine wpAny_newFunctionEnv (fun x hx=>(fits x hx).1) (by intro y hy;simp at hy) (fun h4 PB YF=>?_) (nj hf);have kept:∀b o,s3.heap.get? b=some o->h4.get? b=some o:=fun b o e=>YF.extBut b o (zaD (Heap.lt_size e)) (Heap.get?_push_of_some _ e);have I4:=JZ (own:=own) (tk:=s3.toks+([]:List (Str×zdl)).length) I3 hf hc UC PB kept;have fp4:∀b∈fp,sS (kB X scope own ix s3.heap.objs.size s3 H3 fp) [] H3 b:=fun b hb=>by
  obtain⟨⟨f0,f1,f2',f3,f4,f5⟩,lt⟩:=UC b hb;refine⟨f0,zaD lt,fun z=>?_,.inl hb,fun x c e=>f4 x c (tG sQ (fun x c e=>by simp at e) e),fun p hp=>zzb (show p∈([]:List (zdk×Obj))++[] from hp) (by simp)⟩;rcases zag.mp (I3.w5 b z) with z |z
  ·exact f1 z
  ·exact f2' z
 have st4:tn 0 h4:=T.keep _ _ _ Pm fun b _ o e=>kept b o e;have loop:=Hw (X:=kB X scope own ix s3.heap.objs.size s3 H3 fp) (iter:=iter) (scope:=scope) (pos:=pos) (R:=compPost (model X.prog X.w) X.A X.xe use Q' (.ref s2.heap.objs.size) s3.heap.objs.size) vN rfl rfl T (he _ _ _ _) (hg _ _ _ _) (ht _ _ _ _) I4 fp4 st4 W3
  (fun τ' H' s' I' q=>by
   obtain⟨J1,J2,J3,J4,J5,J6⟩:=comp_back I3 UC I';obtain⟨m,hm,_⟩:=I'.loc;exact hU _ _ H' s' m J1 q hm J2 J3 J4 J5 J6)
 exact codeAny_compStart_list loop (T.self X.A 0 _ _ _ st4 loop)
theorem hG(vN:X.calm=true)(hf:jX scope X.env.scope=true)(hc:wI scope X.env.scope X.N ix=true)
 (hi:PI X tg iter wi) (hg:∀C s₀ H₀ ex,PG (kB X scope own ix C s₀ H₀ ex) tg g) (ht:∀C s₀ H₀ ex,Tf (kB X scope own ix C s₀ H₀ ex) ifs tc) (he:∀C s₀ H₀ ex,PE (kB X scope own ix C s₀ H₀ ex) elt te)
 (hs:∀x,foldedSetIterable iter X.env x=pure x:=by intro _;rfl):PE X (.ListComp elt [⟨tg,iter,ifs,0⟩] scope pos) (jT wi own.length ix g tc te):=by
 intro pins s σ H Q I h;rw[eval_ListComp];refine Cb (use:=none) vN hf hc hi hg ht he I h (fun D C H' s' m I' q hm n1 n2 n3 n4 n5=>?_) hs;refine⟨m,hm,fun h' sb=>⟨.ref D,H',?_,rfl,q⟩⟩;exact I'.turned (t':=s'.toks) (it:=C) (fun b o hb e=>sb.extBut b o hb e) n1 (Ne.symm (Ne.symm n2)) (.inr n3) n4 n5
theorem NI{i:Nat}{y:Str}{py UD:Pos}(hN:X.N.Nodup)(hiy:X.N[i]?=some y)(hy:Loc X.env.scope y)(vN:X.calm=true)(hf:jX scope X.env.scope=true)(hc:wI scope X.env.scope X.N ix=true)
 (hi:PI X tg iter wi) (hg:∀C s₀ H₀ ex,PG (kB X scope own ix C s₀ H₀ ex) tg g) (ht:∀C s₀ H₀ ex,Tf (kB X scope own ix C s₀ H₀ ex) ifs tc) (he:∀C s₀ H₀ ex,PE (kB X scope own ix C s₀ H₀ ex) elt te)
 (hsw:swapsWith (.ListComp elt [⟨tg,iter,ifs,0⟩] scope pos) (some (.Name y py)) UD.line X.env=pure true:=by rfl)
 (hs:∀x,foldedSetIterable iter X.env x=pure x:=by intro _;rfl) (QQ:X.fn y=true\/X.env.scope.names.lookup y=some .local:=by first |exact .inl rfl |exact .inr rfl |assumption) :
 PS X (.Assign [.Name y py] (.ListComp elt [⟨tg,iter,ifs,0⟩] scope pos) UD) (Hc (jT wi own.length ix g tc te) (eM i)):=by
 intro pins s σ H D I h;rw[exec_Assign_Name_used _ _ _ _ hsw];refine zdn (wpAny_standAt (zdn ?_));show wpAny _ _ (do let _ <- comprehension (.ListComp elt [⟨tg,iter,ifs,0⟩] scope pos) scope X.env _ (newList []) false (eval iter X.env) (some (assign (.Name y py) X.env))) _ _ s;refine zdn (wpAny_mono (Cb (use:=some (assign (.Name y py) X.env)) (Q':=fun _ s'=>SP X pins D .next s') vN hf hc hi hg ht he I h (fun L C H' s' m I' q hm n1 n2 n3 n4 n5=>?_) hs) (fun _ s' hq=>zdo (zdo hq)) fun _ _ e=>e);show wpAny _ _ (assign (.Name y py) X.env (.ref L)) _ _ _;refine wpAny_assign_Name (zv I' hN hiy hy (v:=.ref L) rfl (fun s2 I2 zqz=>?_) QQ);obtain⟨a,sb,ha⟩:=zqz;have hCa:C≠a:=by
  rcases ha with rfl |ha
  ·exact n2
  ·exact fun z=>n4 y a ha z.symm
 refine⟨m,hm.sameBut sb hCa,fun h' sb'=>⟨_,H',?_,q⟩⟩;exact I2.turned (t':=s2.toks) (it:=C) (fun b o hb e=>sb'.extBut b o hb e) n1 n2 (.inr n3) n4 n5
end
inductive Dp where
 |cC |bl (b:Bool) |int (i:Int) |str (x:Str) |tup (l:List Dp) |lst (l:List Dp)
mutual
def Rep (K:zaa) (H:Hp):Dp->V->Prop
 |.cC,v=>v=.cC
 |.bl b,v=>v=.bl b
 |.int i,v=>v=.int i
 |.str x,v=>v=.str x
 |.tup l,v=>∃a xs,v=.ref a/\bQ K H a xs/\aN K H l xs
 |.lst l,v=>∃a xs,v=.ref a/\i7 K H a xs/\aN K H l xs
def aN (K:zaa) (H:Hp):List Dp->List V->Prop
 |[],vs=>vs=[]
 |d::ds,vs=>∃v r,vs=v::r/\Rep K H d v/\aN K H ds r
end
mutual
def Dp.deep:Dp->Nat
 |.tup l=>Dp.gu l+1
 |.lst l=>Dp.gu l+1
 |_=>0
def Dp.gu:List Dp->Nat
 |[]=>0
 |d::ds=>max d.deep (Dp.gu ds)
end
theorem aq.a7{K:zaa}{H H':Hp}{a:zdk}{xs:List V}(e:aq H H')(h:bQ K H a xs):bQ K H' a xs:=by
 rcases h with (h |⟨o,h⟩) |h
 ·exact .inl (.inl (e _ _ h))
 ·exact .inl (.inr ⟨o,e _ _ h⟩)
 ·exact .inr h
mutual
theorem Rep.mono{K:zaa}{H H':Hp}(e:aq H H'):∀ {d:Dp} {v:V},Rep K H d v->Rep K H' d v
 |.cC,_,h=>h
 |.bl _,_,h=>h
 |.int _,_,h=>h
 |.str _,_,h=>h
 |.tup l,_,h=>by
  unfold Rep at h ⊢;obtain⟨a,xs,e1,e2,e3⟩:=h;exact⟨a,xs,e1,e.a7 e2,aN.mono e e3⟩
 |.lst l,_,h=>by
  unfold Rep at h ⊢;obtain⟨a,xs,e1,e2,e3⟩:=h;exact⟨a,xs,e1,e.seq e2,aN.mono e e3⟩
theorem aN.mono{K:zaa}{H H':Hp}(e:aq H H'):∀ {ds:List Dp} {vs:List V},aN K H ds vs->aN K H' ds vs
 |[],_,h=>h
 |d::ds,_,h=>by
  unfold aN at h ⊢;obtain⟨v,r,e1,e2,e3⟩:=h;exact⟨v,r,e1,Rep.mono e e2,aN.mono e e3⟩
end
theorem aN.length{K:zaa}{H:Hp}:∀ {ds:List Dp} {vs:List V},aN K H ds vs->vs.length=ds.length
 |[],_,h=>by unfold aN at h;rw[h];rfl
 |d::ds,_,h=>by
  unfold aN at h;obtain⟨v,r,e1,_,e3⟩:=h;rw[e1,zah,zah,aN.length e3]
theorem aN.get{K:zaa}{H:Hp}:∀ {ds:List Dp} {vs:List V} {i:Nat} {d:Dp},aN K H ds vs->ds[i]?=some d->∃v,vs[i]?=some v/\Rep K H d v
 |[],_,_,_,_,e=>by simp at e
 |d::ds,_,0,_,h,e=>by
  unfold aN at h;obtain⟨v,r,e1,e2,e3⟩:=h;simp only[List.getElem?_cons_zero,zaO.injEq] at e;subst e;exact⟨v,by rw[e1];rfl,e2⟩
 |d::ds,_,i+1,d',h,e=>by
  unfold aN at h;obtain⟨v,r,e1,e2,e3⟩:=h;rw[zb8] at e;obtain⟨v',h1,h2⟩:=aN.get e3 e;exact⟨v',by rw[e1,zb8];exact h1,h2⟩
theorem aN.append{K:zaa}{H:Hp}:∀ {ds es:List Dp} {vs us:List V},aN K H ds vs->aN K H es us->aN K H (ds++es) (vs++us)
 |[],_,_,_,h,h'=>by unfold aN at h;rw[h];exact h'
 |d::ds,_,_,_,h,h'=>by
  unfold aN at h;obtain⟨v,r,e1,e2,e3⟩:=h;rw[e1];show aN K H (d::(ds++_)) (v::(r++_));unfold aN;exact⟨v,_,rfl,e2,aN.append e3 h'⟩
theorem aN.nil{K:zaa}{H:Hp}:aN K H [] []:=by unfold aN;rfl
theorem aN.cons{K:zaa}{H:Hp}{d:Dp}{ds:List Dp}{v:V}{vs:List V}(h:Rep K H d v)(h':aN K H ds vs):aN K H (d::ds) (v::vs):=by unfold aN;exact⟨v,vs,rfl,h,h'⟩
theorem Rep.bg{K:zaa}{H:Hp}{l:List Dp}{v:V}:Rep K H (.tup l) v↔∃a xs,v=.ref a/\bQ K H a xs/\aN K H l xs:=by unfold Rep;exact Iff.rfl
theorem Rep.bL{K:zaa}{H:Hp}{l:List Dp}{v:V}:Rep K H (.lst l) v↔∃a xs,v=.ref a/\i7 K H a xs/\aN K H l xs:=by unfold Rep;exact Iff.rfl
theorem Rep.bt{K:zaa}{H:Hp}{i:Int}{v:V}:Rep K H (.int i) v↔v=.int i:=by unfold Rep;exact Iff.rfl
theorem Rep.bA{K:zaa}{H:Hp}{x:Str}{v:V}:Rep K H (.str x) v↔v=.str x:=by unfold Rep;exact Iff.rfl
theorem Rep.lQ{K:zaa}{H:Hp}{b:Bool}{v:V}:Rep K H (.bl b) v↔v=.bl b:=by unfold Rep;exact Iff.rfl
theorem Rep.qi{K:zaa}{H:Hp}{v:V}:Rep K H .cC v↔v=.cC:=by unfold Rep;exact Iff.rfl
theorem aN.br{K:zaa}{H:Hp}{vs:List V}:aN K H [] vs↔vs=[]:=by unfold aN;exact Iff.rfl
theorem aN.aI{K:zaa}{H:Hp}{d:Dp}{ds:List Dp}{vs:List V}:aN K H (d::ds) vs↔∃v r,vs=v::r/\Rep K H d v/\aN K H ds r:=by conv=>lhs;unfold aN
theorem aq.new{H:Hp}{p:zdk}(h:H p=none)(o:HO):aq H (upd H p o):=fun b u q=>by rw[aw (ai q h)];exact q
section
variable{X:Cx}
def PC (K:zaa) (b:Bool):R2:=fun x y H Q=>∃d,Rep K H d x/\Rep K H d y/\d.deep<=150/\Q (.bl b) H
end
section
variable{X:Cx}
def UE (i j:Int):Prop:=i.natAbs<2 ^ 4000/\j.natAbs<2 ^ 4000
theorem bits_le{i:Int}(h:i.natAbs<2 ^ 4000):Builtin.Int.intBits i<=2 ^ 20:=zaC (intBits_le h) (by decide)
theorem F2:rK X (binaryOp .Mult) (rI UE fun i j=>.int (i*j)):=Ug fun _ _ _ _ _ _ _ hc q=>mul_int q (IntMulOk.of_bits (bits_le hc.1) (bits_le hc.2))
theorem Cc:mq X (.builtin "isinstance") (fun xs H Q=>∃x T t b,xs=[x,.ty T]/\sU X.K H x t/\zc6 X.K t (.type T)=some b/\Q (.bl b) H):=by
 intro pins s σ H xs us Q I r h;obtain⟨x,T,t,b,rfl,ty,e,q⟩:=h;obtain⟨u1,u2,rfl,r1,r2⟩:=vals2 r;cases (show u2=Value.type T from r2);exact Hn I r1 ty e fun tk=>⟨.bl b,H,I.tok tk,rfl,q⟩
end
structure cb(K:zaa)(mg:Str->Option zdl)(x:Str)(st:Stmt)(ps:List Str)(f:zdk)(fd:zdt):Prop where
 F:Jg K x x st f fd
 b:Binds K fd ps []
 m:mg x=some (.ref f)
end L2
namespace L2
open PySem PySem.Spec PyProof.Rows
theorem J0{g:Int->Int->V}{i j:Int}{H:Hp}{Q:VK}:Pn g (.int i) (.int j) H Q↔Q (g i j) H:=⟨fun ⟨_,_,e1,e2,q⟩=>by cases e1;cases e2;exact q,fun q=>⟨_,_,rfl,rfl,q⟩⟩
theorem YG{C:Int->Int->Prop}{g:Int->Int->V}{i j:Int}{H:Hp}{Q:VK}:rI C g (.int i) (.int j) H Q↔C i j/\Q (g i j) H:=⟨fun ⟨_,_,e1,e2,c,q⟩=>by cases e1;cases e2;exact⟨c,q⟩,fun q=>⟨_,_,rfl,rfl,q⟩⟩
theorem J7{a:V}{r:St}{H:Hp}{Q:VK}:(gm 0 (some a::r) H Q)=(Q a H):=rfl
theorem J8{a:Option V}{r:St}{H:Hp}{Q:VK}:(gm 1 (a::r) H Q)=(gm 0 r H Q):=rfl
theorem J9{a:Option V}{r:St}{H:Hp}{Q:VK}:(gm 2 (a::r) H Q)=(gm 1 r H Q):=rfl
theorem Ka{a:Option V}{r:St}{H:Hp}{Q:VK}:(gm 3 (a::r) H Q)=(gm 2 r H Q):=rfl
theorem Kb{a:Option V}{r:St}{H:Hp}{Q:VK}:(gm 4 (a::r) H Q)=(gm 3 r H Q):=rfl
theorem Kc{a:Option V}{r:St}{H:Hp}{Q:VK}:(gm 5 (a::r) H Q)=(gm 4 r H Q):=rfl
theorem Kd{a:Option V}{r:St}{H:Hp}{Q:VK}:(gm 6 (a::r) H Q)=(gm 5 r H Q):=rfl
theorem Ke{a:Option V}{r:St}{H:Hp}{Q:VK}:(gm 7 (a::r) H Q)=(gm 6 r H Q):=rfl
theorem Kf{a:Option V}{r:St}{H:Hp}{Q:VK}:(gm 8 (a::r) H Q)=(gm 7 r H Q):=rfl
theorem Kg{a:Option V}{r:St}{H:Hp}{Q:VK}:(gm 9 (a::r) H Q)=(gm 8 r H Q):=rfl
theorem UG{v:V}{σ:St}{H:Hp}{Q:VK}:(tC v σ H Q)=(Q v H):=rfl
theorem PD{r:R2}{ta tb:TE}{σ:St}{H:Hp}{Q:VK}:(Ue r ta tb σ H Q)=(ta σ H fun x H1=>tb σ H1 fun y H2=>r x y H2 Q):=rfl
theorem UH{b:Bool}{p:Bool->Prop}:(∃k,V.bl b=.bl k/\p k)↔p b:=⟨fun ⟨_,e,q⟩=>by cases e;exact q,fun q=>⟨_,rfl,q⟩⟩
theorem Rr{b:Int}{p:Int->Prop}:(∃k,V.int b=.int k/\p k)↔p b:=⟨fun ⟨_,e,q⟩=>by cases e;exact q,fun q=>⟨_,rfl,q⟩⟩
theorem Rt{b:zdk}{p:zdk->Prop}:(∃k,V.ref b=.ref k/\p k)↔p b:=⟨fun ⟨_,e,q⟩=>by cases e;exact q,fun q=>⟨_,rfl,q⟩⟩
theorem F3{t:TE}{σ:St}{H:Hp}{Q:Bool->Hp->Prop}:(FO t σ H Q)=(t σ H fun x H'=>∃k,x=.bl k/\Q k H'):=rfl
theorem PF{x y:V}{H:Hp}{Q:VK}:(rEq x y H Q)=(Hh x y=true/\Q (.bl (decide (x=y))) H):=rfl
theorem PH{x y:V}{H:Hp}{Q:VK}:(rNe x y H Q)=(Hh x y=true/\Q (.bl (!decide (x=y))) H):=rfl
theorem Ru{i j:Int}:(V.int i=V.int j)=(i=j):=by simp
theorem Rv{i j:Str}:(V.str i=V.str j)=(i=j):=by simp
theorem NJ{c:Prop}[Decidable c]{A B:Prop}:(if decide c=true then A else B)↔if c then A else B:=by simp
theorem Kh{c:Prop}[Decidable c]{A B:Prop}:(if (!decide c)=true then A else B)↔if c then B else A:=by by_cases h:c<;>simp[h]
theorem aG{K:zaa}{p:zdk}{i:Int}{H:Hp}{Q:VK}{xs:List V}{v:V}(h:bQ K H p xs)(hv:tm xs i=some v)(q:Q v H):Ee K (.ref p) (.int i) H Q:=⟨p,xs,i,v,rfl,rfl,h,hv,q⟩
theorem bz{K:zaa}{p:zdk}{i:Int}{H:Hp}{Q:VK}{xs:List V}{v:V}(h:i7 K H p xs)(hv:tm xs i=some v)(q:Q v H):AF K (.ref p) (.int i) H Q:=⟨p,xs,i,v,rfl,rfl,h,hv,q⟩
section
variable{P:zdw}{w:zdm}{K:zaa}{mg:Str->Option zdl}{base:Heap}
theorem Jg.lS{x qual:Str}{st:Stmt}{f:zdk}{fd:zdt}{N ps:List Str}{k:Nat}{sp:Sp}(F:Jg K x qual st f fd)(S:a8 N ps (aJ st))(len:∀vs H Q E,sp vs H Q E->vs.length=ps.length)
 (sV:∀(eS:zdl) (A:zdv) (outer:List Env) (s:zdu) (H:Hp) (vs:List V) (Q:VK) (E:XK),ib k (A.deeper (envOfC qual (aJ st) s.heap.objs.size f eS))->sp vs H Q E->
  ∃t σ,DN (m7 dw P w K mg base N qual (aJ st) f eS A outer s H E).DQ (hC st) t/\L2.start N vs=σ/\t {nx:=fun _ H'=>Q .cC H',rt:=Q} σ H):bJ P w K mg base dw (k+1) f fd ps sp:=
 F.ok S len fun eS A outer s H vs Q E hr h=>let ⟨t,_,h1,h2,h3⟩:=sV eS A outer s H vs Q E hr h;⟨t,h1,by rw[h2];exact h3⟩
end
theorem NK{α β:Type}{f:α->β}{xs:List α}{i:Int}(d:α)(h0:0<=i)(h1:i<xs.length):tm (xs.map f) i=some (f (xs.getD i.toNat d)):=by
 have e:i=((i.toNat:Nat):Int):=by lia
 have h2:i.toNat<xs.length:=by lia
 conv=>lhs;rw[e]
 refine au ?_;rw[zam,zap,zac h2];rfl
theorem F4{sp:Sp}{zx:List V}{E:XK}{t:TA}{σ:St}{H:Hp}{Q:VK}:(B5 sp zx E t σ H Q)=(t σ H fun vs H1=>sp (vs++zx) H1 Q E):=rfl
theorem F5{ta:TE}{tr:TA}{σ:St}{H:Hp}{Q:List V->Hp->Prop}:(xf ta tr σ H Q)=(ta σ H fun x H1=>tr σ H1 fun xs H2=>Q (x::xs) H2):=rfl
theorem Ki{σ:St}{H:Hp}{Q:List V->Hp->Prop}:(Nu σ H Q)=(Q [] H):=rfl
theorem Kj{t:TA}{σ:St}{H:Hp}{Q:VK}:(Uo t σ H Q)=(t σ H fun xs H1=>xs.length<=zds/\∀p,H1 p=none->Q (.ref p) (upd H1 p (.tup xs))):=rfl
theorem Kk{t:TA}{σ:St}{H:Hp}{Q:VK}:(Up t σ H Q)=(t σ H fun xs H1=>xs.length<=zds/\∀p,H1 p=none->Q (.ref p) (upd H1 p (.lst xs))):=rfl
theorem NL{n:Nat}(h:n<=1000):n<=zds:=zco (Ht h)
theorem Cd{K:zaa}{p:zdk}{i:Int}{H:Hp}{Q:VK}{xs:List V}{v:V}(hv:tm xs i=some v)(q:Q v (upd H p (.lst xs))):AF K (.ref p) (.int i) (upd H p (.lst xs)) Q:=⟨p,xs,i,v,rfl,rfl,.of ae,hv,q⟩
theorem Rep.new{K:zaa}{H:Hp}{p:zdk}{vs:List V}{ds:List Dp}(h:H p=none)(r:aN K H ds vs):Rep K (upd H p (.tup vs)) (.tup ds) (.ref p):=Rep.bg.mpr ⟨p,vs,rfl,.of ae,r.mono (aq.new h _)⟩
theorem NM{i j:Int}:Hh (.int i) (.int j)=true:=rfl
theorem NN{i j:Str}:Hh (.str i) (.str j)=true:=rfl
theorem NO{n:Nat}(h:n<=1000):(n<=zds)=True:=eq_true (NL h)
theorem Kl{i j:Int}:(Ui i j)=(0<j/\j<1073741824):=rfl
theorem Km{CX:BM}{P:zdw}{w:zdm}{K:zaa}{mg:Str->Option zdl}{base:Heap}{N:List Str}{qual:Str}{scope:Scope}{f:zdk}{cd:zdl}{A:zdv}{outer:List Env}{s:zdu}{H:Hp}{E:XK}:(m7 CX P w K mg base N qual scope f cd A outer s H E).K=K:=rfl
theorem F6{X:Cx}{scope:Scope}{own:List Str}{ix:List Nat}{C:zdk}{s₀:zdu}{H₀:Hp}{ex:List zdk}:(kB X scope own ix C s₀ H₀ ex).K=X.K:=rfl
theorem mulR{z b:Int}(h1 : -18446744073709551616<b)(h2:b<18446744073709551616):Jz z b:=.inr ⟨h1,h2⟩
theorem mulL{z b:Int}(h1 : -18446744073709551616<z)(h2:z<18446744073709551616):Jz z b:=.inl ⟨h1,h2⟩
theorem lT{a b:Expr}{op:Operator}{pos:Pos}:qg (.BinOp a op b pos):=fun _ _=>rfl
theorem k0{x:Str}{pos:Pos}:qg (.Name x pos):=fun _ _=>rfl
theorem ao{c:Const}{k:Nat}{pos:Pos}:qg (.Constant c k pos):=fun _ _=>rfl
theorem Kn{a b:Expr}{pos:Pos}:qg (.Subscript a b pos):=fun _ _=>rfl
theorem vO{a:Expr}{op:UnaryOp}{pos:Pos}:qg (.UnaryOp op a pos):=fun _ _=>rfl
theorem jb{a b:Expr}{op:Operator}{pos:Pos}{es:List Expr}{env:Env}:zdq (.BinOp a op b pos::es) env=(false,eval (.BinOp a op b pos) env)::zdq es env:=rfl
theorem jY{x:Str}{pos:Pos}{es:List Expr}{env:Env}:zdq (.Name x pos::es) env=(false,eval (.Name x pos) env)::zdq es env:=rfl
theorem aP{c:Const}{k:Nat}{pos:Pos}{es:List Expr}{env:Env}:zdq (.Constant c k pos::es) env=(false,eval (.Constant c k pos) env)::zdq es env:=rfl
theorem aY{a b:Expr}{pos:Pos}{es:List Expr}{env:Env}:zdq (.Subscript a b pos::es) env=(false,eval (.Subscript a b pos) env)::zdq es env:=rfl
theorem bH{f:Expr}{as:List Expr}{ks:List Keyword}{pos:Pos}{es:List Expr}{env:Env}:zdq (.Call f as ks pos::es) env=(false,eval (.Call f as ks pos) env)::zdq es env:=rfl
theorem F7{a:Expr}{x:Str}{pos:Pos}{es:List Expr}{env:Env}:zdq (.Attribute a x pos::es) env=(false,eval (.Attribute a x pos) env)::zdq es env:=rfl
theorem jL{as:List Expr}{pos:Pos}{es:List Expr}{env:Env}:zdq (.List as pos::es) env=(false,eval (.List as pos) env)::zdq es env:=rfl
theorem bW{as:List Expr}{k}{pos:Pos}{es:List Expr}{env:Env}:zdq (.Tuple as k pos::es) env=(false,eval (.Tuple as k pos) env)::zdq es env:=rfl
theorem lh{a:Expr}{gs:List Comprehension}{sc:Scope}{pos:Pos}{es:List Expr}{env:Env}:zdq (.ListComp a gs sc pos::es) env=(false,eval (.ListComp a gs sc pos) env)::zdq es env:=rfl
def Ko:Expr->Option V
 |.Constant (.int i) _ _=>some (.int i)
 |.Constant (.str x) _ _=>some (.str x)
 |.Constant (.bool b) _ _=>some (.bl b)
 |.Constant .none _ _=>some .cC
 |_=>none
def Kq (vs:List V):TA:=fun _ H Q=>Q vs H
theorem cQ{X:Cx}:∀ {es:List Expr} {vs:List V},es.map Ko=vs.map some->PA X es (Kq vs)
 |[],[],_=>aa
 |[],_::_,h=>by cases h
 |_::_,[],h=>by cases h
 |e::es,v::vs,h=>by
  rw[zal,zal] at h
  injection h with h1 h2
  have ih:=cQ (X:=X) h2;have one:∀ {e:Expr} {v:V},PE X e (tC v)->(zdq (e::es) X.env=(false,eval e X.env)::zdq es X.env)->PA X (e::es) (Kq (v::vs)):=fun he hs pos pins s σ H Q I q=>ag he ih hs pos pins s σ H Q I q;unfold Ko at h1;split at h1
  ·cases h1;exact one aj aP
  ·cases h1;exact one aU aP
  ·cases h1;exact one sR aP
  ·cases h1;exact one eU aP
  ·cases h1
theorem F8{vs:List V}{σ:St}{H:Hp}{Q:List V->Hp->Prop}:(Kq vs σ H Q)=(Q vs H):=rfl
theorem F9{td ty:TE}{σ:St}{H:Hp}{Q:VK}:(Px td ty σ H Q)=(td σ H fun x H1=>ty σ H1 fun y H2=>∃a v,x=.ref a/\qE H2 a y (some v)/\Q v H2):=rfl
theorem Ce{σ:St}{H:Hp}{Q:VK}:(JW σ H Q)=(∀p,H p=none->Q (.ref p) (upd H p (.dK []))):=rfl
theorem Ga{td ty tv:TE}{D:Ends}{σ:St}{H:Hp}:(Py td ty tv D σ H)=(tv σ H fun v H1=>td σ H1 fun x H2=>ty σ H2 fun y H3=>∃a H4,x=.ref a/\Rp H3 a y v H4/\D.nx σ H4):=rfl
theorem PJ{r:List V->Hp->VK->Prop}{t:TA}{σ:St}{H:Hp}{Q:VK}:(Yr r t σ H Q)=(t σ H fun vs H1=>r vs H1 Q):=rfl
theorem UI{t:TE}{σ:St}{H:Hp}{Q:Bool->Hp->Prop}:(tB t σ H Q)=(t σ H fun x H1=>∃c,x=.bl c/\Q c H1):=rfl
theorem Kr{t:TT}{σ:St}{H:Hp}{Q:Bool->Hp->Prop}:(T7 t σ H Q)=(t σ H fun c H1=>Q (!c) H1):=rfl
theorem qE.s{H:Hp}{a:zdk}{ax:List (Key×V)}{x:Str}{v:V}(e:H a=some (.dK ax))(h:cm ax (Sum.inr x)=some v):qE H a (.str x) (some v):=by
 have:=qE.k (k:=Sum.inr x) e;rw[h] at this;exact this
end L2
namespace PM
abbrev W:=List Nat
inductive Tr where
 |num (n:Int) |box (x:W) |bin (o:W) (l r:Tr)
 deriving DecidableEq
def isLetter (c:Nat):Bool:=decide (97<=c)&&decide (c<=122)
def Ks (c:Nat):Bool:=decide (48<=c)&&decide (c<=57)
def NP:List W:=[[98,111,120],[97,115,107],[112,117,116],[115,97,121],[105,102],[101,108,115,101],[119,104,105,108,101],[109,117,115,116],[115,116,111,112],[101,110,100]]
def isName (p:W):Bool:=decide (1<=p.length)&&decide (p.length<=8)&&p.all isLetter && !NP.contains p
def isNumber (p:W):Bool:=decide (1<=p.length)&&decide (p.length<=3)&&p.all Ks&&(decide (p=[48]) || !decide (p.head?=some 48))
abbrev P:=List W->Option (Tr×List W)
def fac (p:W):Bool:=isNumber p ||isName p
def Rw:List W:=[[43],[45],[42]]
def step (p:W):Nat×Bool->Option (Nat×Bool)
 |(d,true)=>if p=[40] then (if d+1>5 then none else some (d+1,true)) else if fac p then some (d,false) else none
 |(d,false)=>if p=[41] then (if d=0 then none else some (d-1,false)) else if p∈Rw then some (d,true) else none
def Hz (_:List W):Prop:=True
end PM
namespace L2
open PySem PySem.Spec PyProof.Rows
structure UJ(K:zaa)(C:zdk):Prop where
 q:zdc K C [.type "ValueError",.type "Exception",.type "BaseException",.type "object"] "ValueError.__new__"=true
section
variable{X:Cx}{pins:List (zdk×Obj)}{σ:St}{H:Hp}{s:zdu}{x:zdk}
theorem Inv.told{o:HO}(I:Inv X pins σ H s)(n:H x=none)(h0:X.s₀.heap.objs.size<=x)(hL:x≠X.env.locals)(hc:∀y c,X.env.cells.lookup y=some c->c≠x)(hp:∀p∈X.pn++pins,p.1≠x)(ok:dh X.prog X.w (upd H x o) s.heap x o):Inv X pins σ (upd H x o) s:=by
 have nx:∀b u,X.s₀.heap.get? b=some u->b≠x:=fun b u e=>zaD (zaB (Heap.lt_size e) h0);refine⟨I.ok,I.os,I.bare,⟨I.base.keep,I.base.slot,fun b u e n' hx=>?_,I.base.there,fun b xs e=>?_,fun b ob u e=>?_,fun b ps e=>?_⟩,I.loc,I.cell,?_,fun y c e=>?_,fun p Te=>?_,fun b u e=>?_,I.len⟩
 ·rw[aw (nx b u e)];exact I.base.free b u e n' hx
 ·have:=I.base.w4 b xs e;rw[aw (ai this n)];exact this
 ·have:=I.base.v9 b ob u e;rw[aw (ai this n)];exact this
 ·obtain⟨m,e1⟩:=I.base.wb b ps e;exact⟨m,by rw[aw (ai e1 n)];exact e1⟩
 ·rw[aw (Ne.symm hL)];exact I.free
 ·rw[aw (hc y c e)];exact I.oB y c e
 ·obtain⟨a,b,c⟩:=I.pin p Te;exact⟨a,by rw[aw (hp p Te)];exact b,c⟩
 ·by_cases hb:b=x
  ·subst hb;rw[ae] at e;cases e;exact ok
  ·rw[aw hb] at e;exact(I.cM b u e).jJ (fun _ _ _ q=>q) (fun c q=>by rw[aw (ai q n)];exact q) fun c xs q=>by rw[aw (ai q n)];exact q
end
def Its (z:Str):It:=⟨fun i _=>i<z.cps.size,fun i H x H'=>H'=H/\∃c,z.cps[i]?=some c/\x=.str ⟨#[c]⟩,fun i _=>z.cps.size<=i⟩
section
variable{X:Cx}{tg:Expr}
def UK (tl:TE):TI:=fun σ H R=>tl σ H fun x H1=>∃z,x=.str z/\R (Its z) H1
end
abbrev W:=PM.W
def S (w:W):Str:=⟨w.toArray⟩
theorem mw{a b:W}:S a=S b↔a=b:=⟨fun h=>by have:=congrArg (fun z:Str=>z.cps.toList) h;simpa[S] using this,fun h=>by rw[h]⟩
def my:PM.Tr->Dp
 |.num n=>.tup [.str "number",.int n]
 |.box x=>.tup [.str "box",.str (S x)]
 |.bin o l r=>.tup [.str (S o),my l,my r]
def aZ (p:zdk) (H H':Hp):Prop:=∀b o,b≠p->H b=some o->H' b=some o
theorem aZ.refl(p:zdk)(H:Hp):aZ p H H:=fun _ _ _ h=>h
theorem aZ.trans{p:zdk}{H H1 H2:Hp}(a:aZ p H H1)(b:aZ p H1 H2):aZ p H H2:=fun c o n h=>b c o n (a c o n h)
theorem aZ.of{p:zdk}{H H':Hp}(s:aq H H'):aZ p H H':=fun b o _ h=>s b o h
theorem aZ.put{p:zdk}{H H1:Hp}(a:aZ p H H1)(o:HO):aZ p H (upd H1 p o):=fun b u n h=>by rw[aw n];exact a b u n h
theorem aZ.new{p q:zdk}{H H1:Hp}(a:aZ p H H1)(h:H1 q=none)(o:HO):aZ p H (upd H1 q o):=fun b u n e=>by rw[aw (ai (a b u n e) h)];exact a b u n e
theorem aZ.same{p:zdk}{H H':Hp}(a:aZ p H H')(h:H p=none):aq H H':=fun b o e=>a b o (ai e h) e
mutual
def Dp.py:Dp->PyData
 |.cC=>.none
 |.bl b=>.bool b
 |.int i=>.int i
 |.str x=>.str x
 |.tup l=>.tuple (Dp.uR l)
 |.lst l=>.list (Dp.uR l)
def Dp.uR:List Dp->List PyData
 |[]=>[]
 |d::r=>d.py::Dp.uR r
end
section
variable{X:Cx}{pins:List (zdk×Obj)}{σ:St}{H:Hp}{s:zdu}
mutual
theorem o4(I:Inv X pins σ H s):∀ {d:Dp} {v:V} {u:zdl},Rep X.K H d v->RelV v u->∃as,Reads s.heap u d.py as
 |.cC,v,u,h,r=>by rw[Rep.qi] at h;subst h;cases (show u=Value.none from r);exact⟨_,.none⟩
 |.bl b,v,u,h,r=>by rw[Rep.lQ] at h;subst h;cases (show u=Value.bool b from r);exact⟨_,.bool b⟩
 |.int i,v,u,h,r=>by rw[Rep.bt] at h;subst h;obtain⟨t,rfl⟩:=(show ∃t,u=Value.int i t from r);exact⟨_,.int i t⟩
 |.str x,v,u,h,r=>by rw[Rep.bA] at h;subst h;obtain⟨t,rfl⟩:=(show ∃t,u=Value.str x t from r);exact⟨_,.str x t⟩
 |.tup l,v,u,h,r=>by
  rw[Rep.bg] at h;obtain⟨p,xs,rfl,q,w⟩:=h;cases (show u=Value.ref p from r);obtain⟨bC,v1,t1,_⟩:=I.tuple q;obtain⟨as,ra⟩:=uT I w v1;obtain⟨o,h1,h2,n,h3⟩:=t1;unfold Dp.py;exact⟨as,.tuple h1 h2 h3 (by simpa using ra)⟩
 |.lst l,v,u,h,r=>by
  rw[Rep.bL] at h;obtain⟨p,xs,rfl,q,w⟩:=h;cases (show u=Value.ref p from r);obtain⟨bC,v1,t1,_⟩:=I.list q;obtain⟨as,ra⟩:=uT I w v1;obtain⟨o,h1,h2,n,h3⟩:=t1.isList;unfold Dp.py;exact⟨_,.list h1 h2 h3 (by simpa using ra)⟩
theorem uT(I:Inv X pins σ H s):∀ {ds:List Dp} {vs:List V} {us:List zdl},aN X.K H ds vs->Vals vs us->∃as,ReadsAll s.heap us (Dp.uR ds) as
 |[],_,_,h,r=>by rw[aN.br] at h;subst h;cases r;unfold Dp.uR;exact⟨_,.nil⟩
 |d::ds,_,_,h,r=>by
  rw[aN.aI] at h;obtain⟨v,vs,rfl,x,y⟩:=h;cases r with
  |cons r1 r2=>
   obtain⟨a,ra⟩:=o4 I x r1;obtain⟨b,rb⟩:=uT I y r2;unfold Dp.uR;exact⟨_,.cons ra rb⟩
end
end
section
variable{X:Cx}
def YH (K:zaa) (neg:Bool):R2:=fun x y H Q=>∃d e,Rep K H d x/\Rep K H e y/\SeqAt.shaped d.py=true/\SeqAt.shaped e.py=true/\Q (.bl (if neg then !PyData.eqv d.py e.py else PyData.eqv d.py e.py)) H
theorem Kt(hu:X.A.units+64<cLine):rK X (compareOp .NotEq) (YH X.K true):=by
 intro pins s σ H x y v u Q I rx ry h;obtain⟨d,e,h1,h2,s1,s2,q⟩:=h;obtain⟨as,ra⟩:=o4 I h1 rx;obtain⟨bs,rb⟩:=o4 I h2 ry;exact ne_dataH ra rb s1 s2 hu ⟨.bl (!PyData.eqv d.py e.py),H,I,rfl,q⟩
end
mutual
theorem eqv_refl:∀d:Dp,PyData.eqv d.py d.py=true
 |.cC=>rfl
 |.bl b=>by simp[Dp.py,PyData.eqv]
 |.int i=>by simp[Dp.py,PyData.eqv]
 |.str x=>by simp[Dp.py,PyData.eqv]
 |.tup l=>by simp only[Dp.py,PyData.eqv];exact uU l
 |.lst l=>by simp only[Dp.py,PyData.eqv];exact uU l
theorem uU:∀l:List Dp,PyData.eqvAll (Dp.uR l) (Dp.uR l)=true
 |[]=>rfl
 |d::r=>by simp only[Dp.uR,PyData.eqvAll,eqv_refl d,uU r,zdb]
end
theorem av{t u:TS}{D:Ends}{σ:St}{H:Hp}(h:∀U:St->Hp->Prop,(∀σ' H',U σ' H'↔u D σ' H')->t {D with nx:=U} σ H):Nn t u D σ H:=h (u D) fun _ _=>Iff.rfl
theorem NQ{A:zdv}{k:Nat}(hr:ib k A):A.units+64<cLine:=hr.units
end L2
namespace L2
open PySem
theorem o8{ta:TA}{g:TG}{tb:TS}{D:Ends}{σ:St}{H:Hp} (h:∀U:Int->Hp->Prop,(∀j H1,(∃W:Nat->Nat->St->Hp->Prop,(∃m,W 0 m σ H1)/\∀i m σ H,W i m σ H->
 ((Jf 0 j.toNat).stop i H/\D.nx σ H)\/((Jf 0 j.toNat).go i H/\∃N:St->Hp->Prop,(∀σ' H',N σ' H'->∃m',m'<m/\W (i+1) m' σ' H')/\∀x H',(Jf 0 j.toNat).zw i H x H'->g x σ H' fun σ2 H2=>tb {D with nx:=N,ct:=N,bk:=D.nx} σ2 H2))->U j H1)->
 ta σ H fun vs H1=>∃j:Int,vs=[.int j]/\-(2 ^ 62)<=j/\j<2 ^ 62/\U j H1):Hf (FJ ta) g tb D σ H:=h _ fun _ _ x=>x
theorem UL(ns:List Int)(h:ns.length<=63):jv (ns.map V.int) none (some 63)=ns.map V.int:=by
 unfold jv;rw[HT.oU,show (63:Int)=((63:Nat):Int) from rfl,HT.qf,zad,zc0,Nat.sub_zero];exact zbw (by rw[zad];lia)
open PyProof.Rows PySem.Spec
section
variable{X:Cx}{pins:List (zdk×Obj)}{σ:St}{H:Hp}{s:zdu}{h':Heap}
theorem Inv.qj{t':Nat}{fp:List zdk}(I:Inv X pins σ H s)(k:∀b o,b ∉ fp->s.heap.get? b=some o->h'.get? b=some o)(hf:∀b∈fp,sS X pins H b):Inv X pins σ H {s with heap:=h',toks:=t' }:=by
 have T3:∀b u,H b=some u->b ∉ fp:=fun b u e z=>by rw[(hf b z).1] at e;cases e
 refine I.step (g':=s.gens) (d':=s.drawn) (ch:=fp) (fun b hb=>?_) (fun b o _ _ hc e _=>k b o hc e) (fun b o _ _ hc e _=>⟨o.slots,k b o hc e⟩) (fun _ _ _ _ n=>n)
  (fun b o hc e=>⟨o,k b o hc e⟩) (fun _ _ e=>e) (fun _ _ _ e=>e) (fun b ps e=>⟨#[],by rw[e];simp⟩) (fun m hm=>?_) (fun b u e=>?_) I.bare
 ·obtain⟨_,f1,_,f3,f4,f5⟩:=hf b hb;exact⟨f3,f1,f4,f5⟩
 ·obtain⟨o,es,ep,ho,r⟩:=hm;exact⟨o,es,ep,k _ o (fun z=>(hf _ z).2.1 rfl) ho,r⟩
 ·refine(I.cM b u e).jJ (fun c v hc q=>k c v ?_ q) (fun _ q=>q) fun _ _ q=>q;rcases hc with z |z
  ·rw[z];exact T3 b u e
  ·exact T3 c _ z
end
def PK (K:zaa) (a:zdk):It:=
 ⟨fun i H=>∃xs x,i7 K H a xs/\xs[i]?=some x,fun i H x H'=>∃p y,x=.ref p/\H p=none/\H'=upd H p (.tup [.int i,y])/\∀xs,i7 K H a xs->xs[i]?=some y,fun i H=>∃xs,i7 K H a xs/\xs.length<=i⟩
theorem HE{P:zdw}{w:zdm}{K:zaa}{elts:List Expr}{x1}{pos:Pos}(a e it:zdk)(DE:e≠it) :
 Turn P w K (.Tuple elts x1 pos) (PK K a) [e,it] e (fun i h=>(∃old,IsEnum h e it i old)/\h.IsListIter it a i) where
 mem:=by simp
 obj:=fun i h st b hb=>by
  obtain⟨⟨old,he⟩,o,eo,c,d⟩:=st;rcases zag.mp hb with rfl |hb
  ·exact⟨_,he,fun v z=>by cases (show Data.fields _=Data.cell v from z)⟩
  ·have z:b=it:=by simpa using hb
   subst z;exact⟨o,eo,fun v z=>by rw[d] at z;cases z⟩
 keep:=fun i h h' st k=>⟨st.1.elim fun old he=>⟨old,k e (by simp) _ he⟩,st.2.at fun o x=>k it (by simp) o x⟩
 item:=by
  intro X hP hw hK hc i pins s σ H E I hf st hg;subst hP hw hK;obtain⟨xs,x,hq,hx⟩:=hg;obtain⟨⟨old,he⟩,hit⟩:=st;obtain⟨bC,rv,p,hz⟩:=I.list hq;obtain⟨u,hu,ru⟩:=rv.get hx;refine wpAny_pyNext_enum_item he hit p.isList (x:=u) (by simpa using hu) DE fun h' ho Rx hT hsz hk=>?_;refine⟨_,rfl,?_⟩;refine wpAny_letOwnedTupleGo_enum ho fun h2 Th sb=>?_;have UM:e<s.heap.objs.size:=Heap.lt_size he;have Gb:it<s.heap.objs.size:=by obtain⟨_,x,_⟩:=hit;exact Heap.lt_size x
  have I1:Inv X pins σ H {s with heap:=h2,toks:=s.toks+1}:=I.qj (t':=s.toks+1) (fun b o hb q=>(sb.2 b fun z=>hb (by simp[z])).trans (hk b o (fun z=>hb (by simp[z])) (fun z=>hb (by simp[z])) q)) hf;have fr:H s.heap.objs.size=none:=I.cM.fresh (zaf _);obtain⟨g0,g1,g2,g3,g4,g5⟩:=I.B2 (zaf _) fr;have NR:h2.get? s.heap.objs.size=some {cls:=.type "tuple",data:=.seq #[.int i s.toks,u]}:=(sb.2 _ (zbM UM)).trans hT;have I2:=I1.told (o:=.tup [.int i,x]) fr I.sz g1 g4 g5 ⟨(show (2:Nat)<=zds by decide),[.int i s.toks,u],.cons ⟨_,rfl⟩ (.cons ru .nil),⟨_,NR,rfl,_,rfl⟩⟩;refine⟨.ref s.heap.objs.size,_,I2,rfl,⟨_,x,rfl,fr,rfl,fun ys hy=>by rw[I.B1 hy hq];exact hx⟩,⟨⟨_,by exact_mod_cast Th⟩,Rx.at fun o q=>(sb.2 it (Ne.symm DE)).trans q⟩,fun b hb=>?_⟩;rw[aw ?_]
  ·exact(hf b hb).1
  ·rcases zag.mp hb with rfl |hb
   ·exact zaD UM
   ·have z:b=it:=by simpa using hb
    subst z;exact zaD Gb
 done:=by
  intro X hP hw hK hc i pins s σ H E I hf st hg;subst hP hw hK;obtain⟨xs,hq,hx⟩:=hg;obtain⟨⟨old,he⟩,hit⟩:=st;obtain⟨bC,rv,p,hz⟩:=I.list hq;have hl:=rv.length;exact wpAny_pyNext_enum_end (I.ok.hd hc) he hit p.isList (by simp;lia) fun h' eb=>⟨rfl,I.qj (t':=s.toks) (fun b o hb q=>eb b o (fun z=>hb (by simp[z])) q) hf⟩
 self:=fun _ _ _ _ _ st h=>st.1.elim fun _ he=>wpAny_pyIter_enum he h
def PL (K:zaa) (ta:TA):TI:=fun σ H R=>ta σ H fun vs H1=>∃a,vs=[.ref a]/\(∃xs,i7 K H1 a xs)/\R (PK K a) H1
theorem Gd{X:Cx}{elts:List Expr}{x1}{tp:Pos}{a:Expr}{ta:TA}{p pos:Pos}(hg:Gl X "enumerate")(hm:X.mg "enumerate"=none)(ha:PA X [a] ta)(hs:zdq [a] X.env=[(false,eval a X.env)]:=by rfl) :
 PI X (.Tuple elts x1 tp) (.Call (.Name "enumerate" p) [a] [] pos) (PL X.K ta):=by
 intro pins s σ H R I h;refine Call_ (rF I hg hm PyProof.Rows.Boot.«enumerate» (zbo (eZ (ha pos pins s σ H _ I h) fun us s1 zqz=>?_) hs rfl));obtain⟨vs,H1,I1,r1,q1⟩:=zqz;obtain⟨l,e,⟨xs,hq⟩,q⟩:=q1;subst e;cases r1 with
 |cons r rr=>
  cases rr;cases (show _=Value.ref l from r);obtain⟨bC,rv,p,hz⟩:=I1.list hq;refine call_enumerate_list p.isList fun h' he hit hsz hk=>?_;refine wpAny_pyIter_enum he ?_;have fr:∀b,s1.heap.objs.size<=b->H1 b=none:=fun b hb=>I1.cM.fresh hb;refine⟨s1.heap.objs.size+1,[s1.heap.objs.size+1,s1.heap.objs.size],_,_,H1,rfl,I1.kept (t':=s1.toks) hk,HE l _ _ (Nat.succ_ne_self _),⟨⟨_,he⟩,hit⟩,fun b hb=>?_,q⟩;have WZ:s1.heap.objs.size<=b:=by
   rcases zag.mp hb with rfl |hb
   ·exact Nat.le_succ _
   ·have z:b=s1.heap.objs.size:=by simpa using hb
    rw[z];exact zaf _
  exact I1.B2 WZ (fr b WZ)
theorem Cf{K:zaa}{a:zdk}{xs:List V}{g:TG}{tb:TS}{D:Ends}{σ:St}{H:Hp}(Pv:Nat->St->Hp->Prop)(h0:Pv 0 σ H)(hl:∀i σ H,i<=xs.length->Pv i σ H->i7 K H a xs)
 (hs:∀i x σ H p,xs[i]?=some x->Pv i σ H->H p=none->g (.ref p) σ (upd H p (.tup [.int i,x])) fun σ2 H2=>tb {D with nx:=Pv (i+1),ct:=Pv (i+1),bk:=D.nx} σ2 H2) (hd:∀σ H,Pv xs.length σ H->D.nx σ H) :
 ∃W:Nat->Nat->St->Hp->Prop,(∃m,W 0 m σ H)/\∀i m σ H,W i m σ H->
  ((PK K a).stop i H/\D.nx σ H)\/((PK K a).go i H/\∃N:St->Hp->Prop,(∀σ' H',N σ' H'->∃m',m'<m/\W (i+1) m' σ' H')/\∀x H',(PK K a).zw i H x H'->g x σ H' fun σ2 H2=>tb {D with nx:=N,ct:=N,bk:=D.nx} σ2 H2):=by
 refine⟨fun i m σ H=>m=xs.length-i/\i<=xs.length/\Pv i σ H,⟨xs.length,by simp,za0 _,h0⟩,?_⟩
 rintro i m σ H ⟨rfl,hi,p⟩
 have q:=hl i σ H hi p;by_cases oC:i<xs.length
 ·refine .inr ⟨⟨xs,xs[i],q,by simp[oC]⟩,Pv (i+1),fun σ' H' p'=>⟨xs.length-(i+1),by lia,rfl,oC,p'⟩,fun x H' y=>?_⟩;obtain⟨pp,v,rfl,hn,rfl,y⟩:=y;exact hs i v σ H pp (y xs q) p hn
 ·have e:i=xs.length:=by lia
  subst e;exact .inl ⟨⟨xs,q,zaf _⟩,hd σ H p⟩
section
variable{prog:zdw}{w:zdm}{A:zdv}{E:zdl->zdu->Prop}{s:zdu}
theorem Cg{it l:zdk}{bC:Array zdl}(DE:l≠it):∀(n i:Nat) (s:zdu) (Q:List zdl->zdu->Prop),s.heap.IsListIter it l i->s.heap.IsList l bC->i+n<=bC.size->
 (∀h',h'.IsListIter it l (i+n)->Heap.SameBut it s.heap h'->Q ((bC.toList.drop i).take n) {s with heap:=h' })->wpAny (model prog w) A (draw (.ref it) n) Q E s
 |0,i,s,Q,a,_,_,q=>by
  show wpAny _ _ (pure []) Q E s;exact zdo (by simpa using q s.heap a (Heap.SameBut.refl ..))
 |n+1,i,s,Q,a,b,le,q=>by
  have lt:i<bC.size:=by lia
  show wpAny _ _ (pyNext (.ref it) >>= _) Q E s;refine zdn (wpAny_pyNext_list_item a b (x:=bC[i]) (by simp[lt]) fun h1 a1 s1=>?_);have b1:h1.IsList l bC:=by
   obtain⟨o,ho,r⟩:=b;exact⟨o,(s1.2 l DE).trans ho,r⟩
  refine zdn (zdp (Cg DE n (i+1) _ _ a1 b1 (by lia) fun h2 a2 s2=>zdo ?_));have e:bC.toList.drop i=bC[i]::bC.toList.drop (i+1):=by simp[zbH,lt]
  have z:=q h2 (by rw[show i+(n+1)=i+1+n by lia];exact a2) (s1.trans s2);rw[e,zdd] at z;exact z
theorem Ep{l:zdk}{bC:Array zdl}{ts:List (Bool×(zdl->Sem Unit))}{Q:Unit->zdu->Prop}(hh:A.handled=none)(b:s.heap.IsList l bC)(hn:ts.length=bC.size)(Tb:ts.findIdx? (·.1)=none)
 (h:∀h',Heap.ExtBut s.heap.objs.size s.heap h'->wpAny (model prog w) A (assignInOrder (ts.map (·.2)) bC.toList) Q E {s with heap:=h' }):wpAny (model prog w) A (unpack (.ref l) ts) Q E s:=by
 have lt:l≠s.heap.objs.size:=by obtain⟨o,ho,_⟩:=b;exact zaD (Heap.lt_size ho)
 unfold unpack;rw[hn,Tb];refine zdn (zdp ?_);unfold unpackItems;refine zdn ?_;unfold notIterableAtAll;refine zdn (wpAny_specialOf b.typeIs slot_list_iter.lookup ?_);refine zdo ?_;simp only[zay,if_false];refine zdn (zdp (wpAny_pyIter_list b ?_));have jJ:∀ {h1 h2:Heap},Heap.ExtBut s.heap.objs.size h1 h2->h1.IsList l bC->h2.IsList l bC:=fun {h1 h2} e x=>by
  obtain⟨o,ho,r⟩:=x;exact⟨o,e l o lt ho,r⟩
 have b0:(s.heap.push {cls:=.type "list_iterator",data:=.fields #[.ref l,.int 0 0]}).IsList l bC:=by
  obtain⟨o,ho,r⟩:=b;exact⟨o,Heap.get?_push_of_some _ ho,r⟩
 refine zdn (zdp (Cg lt bC.size 0 _ _ ⟨_,Heap.get?_push_size _ rfl,rfl,rfl⟩ b0 (by lia) fun h1 a1 s1=>?_));have all:List.take bC.size (List.drop 0 bC.toList)=bC.toList:=by
  rw[zc0];exact zbw (by simp)
 rw[all,zzn (by simp)];have b1:h1.IsList l bC:=jJ s1.extBut b0;refine zdn (zdp (wpAny_pyNext_list_end hh a1 b1 (by simp) fun h2 e2=>?_));simp only[Option.isSome_none,zay,if_false];exact zdo (h h2 fun c o hc e=>e2 c o hc (s1.extBut c o hc (Heap.get?_push_of_some _ e)))
end
def Ry (K:zaa) (n:Nat) (t:Np):TG:=fun v σ H Q=>∃a xs,v=.ref a/\i7 K H a xs/\xs.length=n/\t xs σ H Q
theorem AM{X:Cx}{es:List Expr}{k}{pos:Pos}{t:Np}{n:Nat}(hc:X.calm=true)(h:T9 X es t)
 (hn:(assignEach es X.env).length=n:=by rfl) (Tb:(assignEach es X.env).findIdx? (·.1)=none:=by rfl):PG X (.Tuple es k pos) (Ry X.K n t):=by
 intro pins s σ H v u Q I r hw;obtain⟨a,xs,rfl,hq,hl,hw⟩:=hw;cases r;obtain⟨bC,rv,hp,_⟩:=I.list hq;rw[assign_Tuple];refine zdn (wpAny_standAt (Ep (I.ok.hd hc) hp.isList (by simp[hn,<- hl,rv.length]) Tb fun h' hx=>?_));have I1:Inv X pins σ H {s with heap:=h' }:=I.kept (t':=s.toks) fun b o e=>hx b o (zaD (Heap.lt_size e)) e;exact h pins _ σ H xs _ Q I1 (by simpa using rv) hw
open PySem.SeqAt
theorem kj{X:Cx}(hu:X.A.units+1<cLine):rK X (compareOp .NotEq) (fun x y H Q=>∃a b xs,x=.ref a/\y=.ref b/\i7 X.K H a xs/\i7 X.K H b []/\Q (.bl (!xs.isEmpty)) H):=by
 intro pins s σ H x y v u Q I rx ry h;obtain⟨a,b,xs,rfl,rfl,h1,h2,q⟩:=h;cases (show v=Value.ref a from rx);cases (show u=Value.ref b from ry);obtain⟨bC,v1,p1,_⟩:=I.list h1;obtain⟨its',v2,p2,_⟩:=I.list h2;cases v2;cases xs with
 |nil=>
  cases v1;exact(RcNeAt.lists (e:=fun _=>true) p1.isList p2.isList rfl (by lia) (fun j h1=>zzb h1 (by simp))) _ _ _ _ ⟨.bl false,H,I,rfl,q⟩
 |cons z zs=>
  cases v1;exact(RcNeAt.lists_lengths p1.isList p2.isList (by simp) (by lia)) _ _ _ _ ⟨.bl true,H,I,rfl,q⟩
def cx (val:W->Int):PM.Tr->Int
 |.num n=>n
 |.box x=>val x
 |.bin o l r=>if o=[43] then cx val l+cx val r else if o=[45] then cx val l-cx val r else cx val l*cx val r
theorem fH{K:zaa}{tl:TE}{g:TG}{tb:TS}{D:Ends}{σ:St}{H:Hp} (h:∀U:zdk->Hp->Prop,(∀a H1,(∃W:Nat->Nat->St->Hp->Prop,(∃m,W 0 m σ H1)/\∀i m σ H,W i m σ H->
 ((Je K a).stop i H/\D.nx σ H)\/((Je K a).go i H/\∃N:St->Hp->Prop,(∀σ' H',N σ' H'->∃m',m'<m/\W (i+1) m' σ' H')/\∀x H',(Je K a).zw i H x H'->g x σ H' fun σ2 H2=>tb {D with nx:=N,ct:=N,bk:=D.nx} σ2 H2))->U a H1)->
 tl σ H fun x H1=>∃a,x=.ref a/\(∃xs,i7 K H1 a xs)/\U a H1):Hf (FI K tl) g tb D σ H:=h _ fun _ _ x=>x
theorem Ge{a:Option V}{r:St}{H:Hp}{Q:VK}:(gm 10 (a::r) H Q)=(gm 9 r H Q):=rfl
theorem Gf{a:Option V}{r:St}{H:Hp}{Q:VK}:(gm 11 (a::r) H Q)=(gm 10 r H Q):=rfl
theorem Gg{a:Option V}{r:St}{H:Hp}{Q:VK}:(gm 12 (a::r) H Q)=(gm 11 r H Q):=rfl
end L2
namespace PG
open PM (W Tr)
structure gb where
 name:W
 size:Int
 first:Int
inductive bG where
 |ask (k:Int) (b:W)
 |put (k:Int) (b:W) (e:Tr)
 |say (k:Int) (e:Tr)
 |cg (k:Int) (sg:W) (l r:Tr)
 |stop (k:Int)
 |ifs (k:Int) (sg:W) (l r:Tr) (a b:List bG)
 |fc (k:Int) (sg:W) (l r:Tr) (a:List bG)
def bG.row:bG->Int
 |.ask k _=>k |.put k _ _=>k |.say k _=>k |.cg k _ _ _=>k |.stop k=>k |.ifs k _ _ _ _ _=>k |.fc k _ _ _ _=>k
inductive Wd where
 |ask |put |say |cg |stop |ifs |fc |oQ |fin
 deriving DecidableEq
def bG.wd:bG->Wd
 |.ask _ _=>.ask |.put _ _ _=>.put |.say _ _=>.say |.cg _ _ _ _=>.cg |.stop _=>.stop |.ifs _ _ _ _ _ _=>.ifs |.fc _ _ _ _ _=>.fc
def Ci:Nat->Int->Int
 |0,c=>c
 |n+1,c=>Ci n (c/1000003)
def next (sc:List Int) (p:Nat):Int:=
 let many:=max 1 sc.length
 let cell:=if sc=[] then 0 else sc.getD (p%many) 0
 if cell ≥ 10 ^ 18 then Ci (min 60 (p/many)) cell%1000003 else
  let a:=(cell%2147483629+51437*((p:Int)+1)*((p:Int)+3)+1409)%2147483629
  let b:=a*a%2147483587
  let c:=(b*69621+401*(p:Int)+7)%2147483579
  c*c%2147483563/16
def pick {α:Type} (d:α) (l:List α) (n:Int):α:=l.getD n.toNat d
def cD (sc:List Int) (bs:List gb):Nat->Nat->Tr×Nat
 |0,p=>
  let kind:=next sc p%7
  if bs≠[]/\kind<5 then (.box (pick ⟨[],0,0⟩ bs (next sc (p+1)%bs.length)).name,p+2) else (.num (next sc (p+1)%pick 1 [3,12,1000] (next sc (p+2)%3)),p+3)
 |d+1,p=>
  let kind:=next sc p%7
  if kind<3 then
   let one:=cD sc bs d (p+1)
   let two:=cD sc bs d one.2
   (.bin (pick [] [[43],[45],[42]] kind) one.1 two.1,two.2)
  else if bs≠[]/\kind<5 then (.box (pick ⟨[],0,0⟩ bs (next sc (p+1)%bs.length)).name,p+2) else (.num (next sc (p+1)%pick 1 [3,12,1000] (next sc (p+2)%3)),p+3)
def dy:List W:=[[99],[98,98],[97,97,97],[98,111,120,101,115]]
def bI (sc:List Int) (lU:Int):Nat->Nat->Nat->List gb×Nat
 |0,_,p=>([],p)
 |n+1,k,p=>
  let size:=2+next sc p%3
  let r:=bI sc lU n (k+1) (p+2)
  (⟨pick [] dy (((k:Int)-lU)%4),size,next sc (p+1)%size⟩::r.1,r.2)
def BO:List W:=[[60],[61]]
def bR (sc:List Int) (bs:List gb) (k:Int) (p:Nat):bG×Nat:=
 let kind:=next sc p%10
 if bs≠[]/\kind<3 then (.ask k (pick ⟨[],0,0⟩ bs (next sc (p+1)%bs.length)).name,p+2)
 else if bs≠[]/\kind<6 then
  let e:=cD sc bs 2 (p+2)
  (.put k (pick ⟨[],0,0⟩ bs (next sc (p+1)%bs.length)).name e.1,e.2)
 else if kind=6 then
  let l:=cD sc bs 1 (p+2)
  let r:=cD sc bs 1 l.2
  (.cg k (pick [] BO (next sc (p+1)%2)) l.1 r.1,r.2)
 else if kind=7 then
  if next sc (p+1)%3=0 then (.stop k,p+2) else
   let e:=cD sc bs 2 (p+2)
   (.say k e.1,e.2)
 else
  let e:=cD sc bs 2 (p+1)
  (.say k e.1,e.2)
structure Frame where
 kind:Nat
 body:List bG
 k:Int:=0
 sg:W:=[]
 l:Tr:=.num 0
 r:Tr:=.num 0
 first:List bG:=[]
def Frame.told (f:Frame):bG:=if f.kind=1 then .ifs f.k f.sg f.l f.r f.body [] else if f.kind=2 then .ifs f.k f.sg f.l f.r f.first f.body else .fc f.k f.sg f.l f.r f.body
def close:List Frame->List Frame
 |f::g::r=>{g with body:=g.body++[f.told]}::r
 |fs=>fs
abbrev Row:=Int×Wd
def number (n:Nat) (rows:List Row) (mode:Int):Int:=
 if mode=2 then n+1+20*rows.length else if mode=3 then n+1+(rows.filter fun r=>r.2≠.oQ/\r.2≠.fin).length else n+1+rows.length
structure Walk where
 p:Nat
 aX:List Frame
 rows:List Row
def turn (sc:List Int) (bs:List gb) (mode:Int) (w:Walk):Walk:=
 let k:=number bs.length w.rows mode
 let way:=next sc w.p%12
 if way<2/\w.aX.length>1 then ⟨w.p+1,close w.aX,w.rows++[(k,.fin)]⟩
 else match w.aX with
 |[]=>w
 |f::r=>
  if way=2/\f.kind=1 then ⟨w.p+1,{f with kind:=2,body:=[],first:=f.body}::r,w.rows++[(k,.oQ)]⟩
  else if way<6/\w.aX.length<4 then
   let l:=cD sc bs 1 (w.p+2)
   let e:=cD sc bs 1 l.2
   let kd:=pick 1 [1,1,3] (way%3)
   ⟨e.2,{kind:=kd,body:=[],k:=k,sg:=pick [] BO (next sc (w.p+1)%2),l:=l.1,r:=e.1}::w.aX,w.rows++[(k,if kd=3 then .fc else .ifs)]⟩
  else
   let s:=bR sc bs k (w.p+1)
   ⟨s.2,{f with body:=f.body++[s.1]}::r,w.rows++[(k,s.1.wd)]⟩
def turns (sc:List Int) (bs:List gb) (mode:Int):Nat->Walk->Walk
 |0,w=>w
 |n+1,w=>turns sc bs mode n (turn sc bs mode w)
def ends (n:Nat) (mode:Int):Nat->Walk->Walk
 |0,w=>w
 |m+1,w=>if w.aX.length>1 then ends n mode m ⟨w.p,close w.aX,w.rows++[(number n w.rows mode,.fin)]⟩ else w
structure Prog where
 ay:List gb
 body:List bG
def b8 (sc:List Int) (many:Nat) (p:Nat):Prog×List Row:=
 let bs:=bI sc (next sc p%4) (next sc (p+1)%4).toNat 0 (p+2)
 let w:=ends bs.1.length (next sc bs.2%4) 4 (turns sc bs.1 (next sc bs.2%4) many ⟨bs.2+1,[{kind:=0,body:=[]}],[]⟩)
 (⟨bs.1,(w.aX.head?.map (·.body)).getD []⟩,w.rows)
end PG
namespace PG
open PM (W Tr)
mutual
def dU:bG->List Row
 |.ifs k _ _ _ a b=>(k,.ifs)::(bV a++bV b)
 |.fc k _ _ _ a=>(k,.fc)::bV a
 |.ask k _=>[(k,.ask)]
 |.put k _ _=>[(k,.put)]
 |.say k _=>[(k,.say)]
 |.cg k _ _ _=>[(k,.cg)]
 |.stop k=>[(k,.stop)]
def bV:List bG->List Row
 |[]=>[]
 |s::r=>dU s++bV r
end
theorem uV:∀a b:List bG,bV (a++b)=bV a++bV b
 |[],b=>by simp[bV]
 |s::r,b=>by
  show bV (s::(r++b))=_;rw[bV,bV,uV r b,za2]
def Frame.flat (f:Frame):List Row:=(if f.kind=0 then [] else [(f.k,if f.kind=3 then Wd.fc else .ifs)])++(if f.kind=2 then bV f.first else [])++bV f.body
def c6:List Frame->List Row
 |[]=>[]
 |f::r=>c6 r++f.flat
def plainRow (r:Row):Bool:=decide (r.2≠.oQ/\r.2≠.fin)
def o9:List Frame->Prop
 |[]=>False
 |[f]=>f.kind=0
 |f::g::r=>(f.kind=1\/f.kind=2\/f.kind=3)/\o9 (g::r)
theorem HF{f:Frame}(h:f.kind=1\/f.kind=2\/f.kind=3):dU f.told=f.flat:=by
 rcases h with h |h |h<;>simp[Frame.told,Frame.flat,h,dU,bV]
theorem nu:∀ {l:List Frame},o9 l->c6 (close l)=c6 l
 |[],h=>h.elim
 |[f],_=>rfl
 |f::g::r,h=>by
  have e:=HF h.1;show c6 r++Frame.flat _=c6 r++g.flat++f.flat;simp only[Frame.flat,uV,bV,e,zav];simp[Frame.flat]
theorem pd:∀ {l:List Frame},o9 l->o9 (close l)/\(close l).length=max 1 (l.length-1)
 |[],h=>h.elim
 |[f],h=>⟨h,rfl⟩
 |[f,g],h=>⟨h.2,rfl⟩
 |f::g::x::r,h=>⟨⟨h.2.1,h.2.2⟩,by simp[close]⟩
theorem Ku(sc:List Int)(bs:List gb)(k:Int)(p:Nat):dU (bR sc bs k p).1=[(k,(bR sc bs k p).1.wd)]/\(bR sc bs k p).1.wd≠.oQ/\(bR sc bs k p).1.wd≠.fin:=by
 unfold bR;simp only;split
 ·simp[dU,bG.wd]
 ·split
  ·simp[dU,bG.wd]
  ·split
   ·simp[dU,bG.wd]
   ·split
    ·split<;>simp[dU,bG.wd]
    ·simp[dU,bG.wd]
structure dC(w:Walk):Prop where
 aX:o9 w.aX
 flat:c6 w.aX=w.rows.filter plainRow
 most:w.aX.length<=4
theorem tH(sc:List Int)(bs:List gb)(mode:Int){w:Walk}(h:dC w):dC (turn sc bs mode w):=by
 obtain⟨p,aX,rows⟩:=w;obtain⟨h1,h2,h3⟩:=h;simp only at h1 h2 h3;unfold turn;simp only;split
 ·obtain⟨a,b⟩:=pd h1;refine⟨a,?_,?_⟩
  ·show c6 (close aX)=_;rw[nu h1,h2,za4];simp[plainRow]
  ·show (close aX).length<=4;lia
 ·cases aX with
  |nil=>exact h1.elim
  |cons f r=>
   simp only;split
   ·rename_i hc;obtain⟨_,hk⟩:=hc;refine⟨?_,?_,h3⟩
    ·cases r with
     |nil=>rw[o9] at h1;lia
     |cons g r=>exact⟨.inr (.inl rfl),h1.2⟩
    ·show c6 r++_=_;rw[za4,<- h2];simp[c6,Frame.flat,plainRow,bV,hk]
   ·split
    ·rename_i hc;have kk:∀n:Int,pick 1 [1,1,3] n=1\/pick 1 [1,1,3] n=3:=fun n=>by
      unfold pick;rcases n.toNat with _ |_ |_ |m<;>simp
     have UN:=kk (next sc p%12%3);generalize pick 1 [1,1,3] (next sc p%12%3)=kd at UN ⊢;refine⟨⟨?_,h1⟩,?_,?_⟩
     ·simp only;lia
     ·show c6 (f::r)++_=_;rw[za4,h2];rcases UN with rfl |rfl<;>simp[Frame.flat,plainRow,bV]
     ·simp only[zah] at hc ⊢;lia
    ·obtain⟨a,b,c⟩:=Ku sc bs (number bs.length rows mode) (p+1);refine⟨?_,?_,h3⟩
     ·cases r with
      |nil=>exact h1
      |cons g r=>exact⟨h1.1,h1.2⟩
     ·show c6 r++_=_;rw[za4,<- h2];simp[c6,Frame.flat,uV,bV,a,plainRow,b,c]
theorem tI(sc:List Int)(bs:List gb)(mode:Int):∀(n:Nat) {w:Walk},dC w->dC (turns sc bs mode n w)
 |0,_,h=>h
 |n+1,_,h=>tI sc bs mode n (tH sc bs mode h)
theorem AN(n:Nat)(mode:Int):∀(m:Nat) {w:Walk},dC w->w.aX.length<=m+1->dC (ends n mode m w)/\(ends n mode m w).aX.length=1
 |0,w,h,hl=>by
  have:w.aX≠[]:=fun e=>by have:=h.aX;rw[e] at this;exact this
  have:0<w.aX.length:=zbg.mpr this;exact⟨h,by show w.aX.length=1;lia⟩
 |m+1,w,h,hl=>by
  unfold ends;split
  ·obtain⟨a,b⟩:=pd h.aX;refine AN n mode m ⟨a,?_,?_⟩ ?_
   ·show c6 (close w.aX)=_;rw[nu h.aX,h.flat,za4];simp[plainRow]
   ·show (close w.aX).length<=4;have:=h.most;lia
   ·show (close w.aX).length<=_;lia
  ·have:w.aX≠[]:=fun e=>by have:=h.aX;rw[e] at this;exact this
   have:0<w.aX.length:=zbg.mpr this;exact⟨h,by lia⟩
theorem zJ(sc:List Int)(many p:Nat):bV (b8 sc many p).1.body=(b8 sc many p).2.filter plainRow:=by
 unfold b8;simp only;generalize bI sc (next sc p%4) (next sc (p+1)%4).toNat 0 (p+2)=bs;have h0:dC ⟨bs.2+1,[{kind:=0,body:=[]}],[]⟩:=⟨rfl,rfl,by simp⟩
 have h1:=tI sc bs.1 (next sc bs.2%4) many h0;obtain⟨h2,h3⟩:=AN bs.1.length (next sc bs.2%4) 4 h1 (by have:=h1.most;lia);generalize ends bs.1.length (next sc bs.2%4) 4 (turns sc bs.1 (next sc bs.2%4) many ⟨bs.2+1,[{kind:=0,body:=[]}],[]⟩)=w at h2 h3;obtain⟨pp,aX,rows⟩:=w;obtain⟨f,rfl⟩:∃f,aX=[f]:=zcg.mp h3;have hk:f.kind=0:=h2.aX;have:=h2.flat;simp[c6,Frame.flat,hk] at this;simpa using this
end PG
namespace PG
open PM (W Tr)
abbrev dM:=Int×Wd×List Int
def bj:List bG->Int->Int
 |[],x=>x
 |s::_,_=>s.row
mutual
def dE:bG->Int->List dM
 |.ifs k _ _ _ a b,x=>(k,.ifs,[bj a x,bj b x])::(aQ a x++aQ b x)
 |.fc k _ _ _ a,x=>(k,.fc,[bj a k,x])::aQ a k
 |.ask k _,x=>[(k,.ask,[x])]
 |.put k _ _,x=>[(k,.put,[x])]
 |.say k _,x=>[(k,.say,[x])]
 |.cg k _ _ _,x=>[(k,.cg,[x])]
 |.stop k,_=>[(k,.stop,[0])]
def aQ:List bG->Int->List dM
 |[],_=>[]
 |s::r,x=>dE s (bj r x)++aQ r x
end
mutual
theorem HG:∀(s:bG) (x:Int),(dE s x).map (fun r=>(r.1,r.2.1))=dU s
 |.ifs k _ _ _ a b,x=>by simp[dE,dU,cY a x,cY b x]
 |.fc k _ _ _ a,x=>by simp[dE,dU,cY a k]
 |.ask k _,x=>rfl
 |.put k _ _,x=>rfl
 |.say k _,x=>rfl
 |.cg k _ _ _,x=>rfl
 |.stop k,_=>rfl
theorem cY:∀(b:List bG) (x:Int),(aQ b x).map (fun r=>(r.1,r.2.1))=bV b
 |[],_=>rfl
 |s::r,x=>by simp[aQ,bV,HG s _,cY r x]
end
inductive Tg where
 |row (k:Int) |side (k:Int) (b:Bool) |cg (k:Int) |fin
 deriving DecidableEq
def Ti (r:Row):List Tg:=(if plainRow r then [.row r.1] else [])++(if r.2=.ifs\/r.2=.fc then [.side r.1 true,.side r.1 false] else [])++(if r.2=.cg then [.cg r.1] else [])
def Kv (rows:List Row):List Tg:=rows.flatMap Ti++[.fin]
theorem jM(sc:List Int)(bs:List gb):∀(d p:Nat),p<=(cD sc bs d p).2/\(cD sc bs d p).2+1<=p+4*2 ^ d
 |0,p=>by
  unfold cD;simp only;split<;>simp only<;>lia
 |d+1,p=>by
  have e:(2:Nat) ^ (d+1)=2*2 ^ d:=by rw[zcF];lia
  have one:1<=2 ^ d:=zb0;unfold cD;simp only;rw[e];split
  ·obtain⟨a1,a2⟩:=jM sc bs d (p+1);obtain⟨b1,b2⟩:=jM sc bs d (cD sc bs d (p+1)).2;simp only;lia
  ·split<;>simp only<;>lia
theorem Er(sc:List Int)(bs:List gb)(k:Int)(p:Nat):p<=(bR sc bs k p).2/\(bR sc bs k p).2<=p+18:=by
 have e1:=fun q=>jM sc bs 1 q;have e2:=fun q=>jM sc bs 2 q;unfold bR;simp only;split
 ·simp only;lia
 ·split
  ·have:=e2 (p+2);simp only;lia
  ·split
   ·have h1:=e1 (p+2);have h2:=e1 (cD sc bs 1 (p+2)).2;simp only;lia
   ·split
    ·split
     ·simp only;lia
     ·have:=e2 (p+2);simp only;lia
    ·have:=e2 (p+1);simp only;lia
theorem Rz(sc:List Int)(bs:List gb)(mode:Int)(w:Walk):w.p<=(turn sc bs mode w).p/\(turn sc bs mode w).p<=w.p+20:=by
 have e1:=fun q=>jM sc bs 1 q;have e2:=fun k q=>Er sc bs k q;obtain⟨p,aX,rows⟩:=w;unfold turn;simp only;split
 ·simp only;lia
 ·cases aX with
  |nil=>simp only;lia
  |cons f r=>
   simp only;split
   ·simp only;lia
   ·split
    ·have h1:=e1 (p+2);have h2:=e1 (cD sc bs 1 (p+2)).2;simp only;lia
    ·have:=e2 (number bs.length rows mode) (p+1);simp only;lia
theorem jN(sc:List Int)(p:Nat):0<=next sc p/\next sc p<2 ^ 28:=by
 unfold next;simp only;split
 ·have a:=zaP (Ci (min 60 (p/max 1 sc.length)) (if sc=[] then 0 else sc.getD (p%max 1 sc.length) 0)) (show (1000003:Int)≠0 by decide);have b:=zaM (Ci (min 60 (p/max 1 sc.length)) (if sc=[] then 0 else sc.getD (p%max 1 sc.length) 0)) (show (0:Int)<1000003 by decide);lia
 ·generalize (((((if sc=[] then 0 else sc.getD (p%max 1 sc.length) 0)%2147483629+51437*((p:Int)+1)*((p:Int)+3)+1409)%2147483629)*(((if sc=[] then 0 else sc.getD (p%max 1 sc.length) 0)%2147483629+51437*((p:Int)+1)*((p:Int)+3)+1409)%2147483629)%2147483587*69621+401*(p:Int)+7)%2147483579)=c;have a:=zaP (c*c) (show (2147483563:Int)≠0 by decide);have b:=zaM (c*c) (show (0:Int)<2147483563 by decide);lia
theorem pf(sc:List Int)(bs:List gb)(k:Int)(p:Nat):bR sc bs k p =
 if bs≠[]/\next sc p%10<3 then (.ask k (pick ⟨[],0,0⟩ bs (next sc (p+1)%bs.length)).name,p+2)
 else if bs≠[]/\next sc p%10<6 then (.put k (pick ⟨[],0,0⟩ bs (next sc (p+1)%bs.length)).name (cD sc bs 2 (p+2)).1,(cD sc bs 2 (p+2)).2)
 else if next sc p%10=6 then (.cg k (pick [] BO (next sc (p+1)%2)) (cD sc bs 1 (p+2)).1 (cD sc bs 1 (cD sc bs 1 (p+2)).2).1,(cD sc bs 1 (cD sc bs 1 (p+2)).2).2)
 else if next sc p%10=7 then (if next sc (p+1)%3=0 then (.stop k,p+2) else (.say k (cD sc bs 2 (p+2)).1,(cD sc bs 2 (p+2)).2))
 else (.say k (cD sc bs 2 (p+1)).1,(cD sc bs 2 (p+1)).2):=rfl
end PG
namespace PG
open PM (W Tr)
mutual
def eO:bG->List Row->Prop
 |.ifs k _ _ _ a b,rs=>(∃ra n,cH a ra/\b=[]/\rs=(k,.ifs)::(ra++[(n,.fin)]))\/(∃ra rb n m,cH a ra/\cH b rb/\rs=(k,.ifs)::(ra++(n,.oQ)::(rb++[(m,.fin)])))
 |.fc k _ _ _ a,rs=>∃ra n,cH a ra/\rs=(k,.fc)::(ra++[(n,.fin)])
 |.ask k _,rs=>rs=[(k,.ask)]
 |.put k _ _,rs=>rs=[(k,.put)]
 |.say k _,rs=>rs=[(k,.say)]
 |.cg k _ _ _,rs=>rs=[(k,.cg)]
 |.stop k,rs=>rs=[(k,.stop)]
def cH:List bG->List Row->Prop
 |[],rs=>rs=[]
 |s::r,rs=>∃r1 r2,eO s r1/\cH r r2/\rs=r1++r2
end
theorem cH.app:∀ {a b:List bG} {ra rb:List Row},cH a ra->cH b rb->cH (a++b) (ra++rb)
 |[],b,ra,rb,h,h'=>by
  rw[cH] at h;subst h;exact h'
 |s::r,b,ra,rb,h,h'=>by
  rw[cH] at h;obtain⟨r1,r2,h1,h2,rfl⟩:=h;rw[zaJ,cH];exact⟨r1,r2++rb,h1,cH.app h2 h',by rw[za2]⟩
theorem cH.one{s:bG}{rs:List Row}(h:eO s rs):cH [s] rs:=by
 rw[cH];exact⟨rs,[],h,by rw[cH],by simp⟩
theorem cH.nil:cH [] []:=by rw[cH]
def mz (f:Frame) (rs:List Row):Prop:=
 (f.kind=0/\cH f.body rs)\/(f.kind=1/\∃rb,cH f.body rb/\rs=(f.k,.ifs)::rb)\/
 (f.kind=2/\∃rf rb n,cH f.first rf/\cH f.body rb/\rs=(f.k,.ifs)::(rf++(n,.oQ)::rb))\/(f.kind=3/\∃rb,cH f.body rb/\rs=(f.k,.fc)::rb)
def bP:List Frame->List Row->Prop
 |[],rs=>rs=[]
 |f::r,rs=>∃r1 r2,bP r r1/\mz f r2/\rs=r1++r2
theorem HH{f:Frame}{rs:List Row}(hk:f.kind=1\/f.kind=2\/f.kind=3)(h:mz f rs)(n:Int):eO f.told (rs++[(n,.fin)]):=by
 rcases h with ⟨h0,_⟩ |⟨h1,rb,t,rfl⟩ |⟨h2,rf,rb,m,t1,t2,rfl⟩ |⟨h3,rb,t,rfl⟩
 ·lia
 ·unfold Frame.told;rw[zzp h1,eO];exact .inl ⟨rb,n,t,rfl,rfl⟩
 ·unfold Frame.told;rw[zzn (by lia),zzp h2,eO];exact .inr ⟨rf,rb,m,n,t1,t2,by simp⟩
 ·unfold Frame.told;rw[zzn (by lia),zzn (by lia),eO];exact⟨rb,n,t,rfl⟩
theorem mz.more{f:Frame}{rs t:List Row}{b:List bG}(h:mz f rs)(ht:cH b t):mz {f with body:=f.body++b} (rs++t):=by
 rcases h with ⟨h0,x⟩ |⟨h1,rb,x,rfl⟩ |⟨h2,rf,rb,m,t1,x,rfl⟩ |⟨h3,rb,x,rfl⟩
 ·exact .inl ⟨h0,x.app ht⟩
 ·exact .inr (.inl ⟨h1,rb++t,x.app ht,rfl⟩)
 ·exact .inr (.inr (.inl ⟨h2,rf,rb++t,m,t1,x.app ht,by simp⟩))
 ·exact .inr (.inr (.inr ⟨h3,rb++t,x.app ht,rfl⟩))
theorem xq{l:List Frame}{rs:List Row}(hp:o9 l)(hl:1<l.length)(h:bP l rs)(n:Int):bP (close l) (rs++[(n,.fin)]):=by
 match l,hp,hl,h with
 |f::g::r,hp,_,h=>
  rw[bP] at h;obtain⟨r1,r2,h1,h2,rfl⟩:=h;rw[bP] at h1;obtain⟨r3,r4,h3,h4,rfl⟩:=h1;show bP ({g with body:=g.body++[f.told]}::r) _;rw[bP];exact⟨r3,r4++(r2++[(n,.fin)]),h3,h4.more (.one (HH hp.1 h2 n)),by simp⟩
theorem plain_text(sc:List Int)(bs:List gb)(k:Int)(p:Nat):eO (bR sc bs k p).1 [(k,(bR sc bs k p).1.wd)]:=by
 unfold bR;simp only;split
 ·simp[eO,bG.wd]
 ·split
  ·simp[eO,bG.wd]
  ·split
   ·simp[eO,bG.wd]
   ·split
    ·split<;>simp[eO,bG.wd]
    ·simp[eO,bG.wd]
theorem HI(sc:List Int)(bs:List gb)(mode:Int){w:Walk}(ok:dC w)(h:bP w.aX w.rows):bP (turn sc bs mode w).aX (turn sc bs mode w).rows:=by
 obtain⟨p,aX,rows⟩:=w;have h1:=ok.aX;simp only at h h1;unfold turn;simp only;split
 ·rename_i hc;exact xq h1 hc.2 h _
 ·cases aX with
  |nil=>exact h1.elim
  |cons f r=>
   simp only;split
   ·rename_i hc;rw[bP] at h;obtain⟨r1,r2,x1,x2,rfl⟩:=h;show bP ({f with kind:=2,body:=[],first:=f.body}::r) _;rw[bP];rcases x2 with ⟨z,_⟩ |⟨_,rb,t,rfl⟩ |⟨z,_⟩ |⟨z,_⟩
    ·lia
    ·exact⟨r1,_,x1,.inr (.inr (.inl ⟨rfl,rb,[],number bs.length (r1++(f.k,.ifs)::rb) mode,t,.nil,rfl⟩)),by simp⟩
    ·lia
    ·lia
   ·split
    ·have kk:∀n:Int,pick 1 [1,1,3] n=1\/pick 1 [1,1,3] n=3:=fun n=>by
      unfold pick;rcases n.toNat with _ |_ |_ |m<;>simp
     have UN:=kk (next sc p%12%3);generalize pick 1 [1,1,3] (next sc p%12%3)=kd at UN ⊢;show bP ({kind:=kd,body:=[],k:=number bs.length rows mode,sg:=_,l:=_,r:=_}::f::r) _;rw[bP];rcases UN with rfl |rfl
     ·exact⟨rows,_,h,.inr (.inl ⟨rfl,[],.nil,rfl⟩),rfl⟩
     ·exact⟨rows,_,h,.inr (.inr (.inr ⟨rfl,[],.nil,rfl⟩)),rfl⟩
    ·rw[bP] at h;obtain⟨r1,r2,x1,x2,rfl⟩:=h;show bP ({f with body:=f.body++[_]}::r) _;rw[bP];exact⟨r1,_,x1,x2.more (.one (plain_text sc bs _ (p+1))),by simp⟩
theorem xr(sc:List Int)(bs:List gb)(mode:Int):∀(n:Nat) {w:Walk},dC w->bP w.aX w.rows->bP (turns sc bs mode n w).aX (turns sc bs mode n w).rows
 |0,_,_,h=>h
 |n+1,_,ok,h=>xr sc bs mode n (tH sc bs mode ok) (HI sc bs mode ok h)
theorem zK(n:Nat)(mode:Int):∀(m:Nat) {w:Walk},dC w->bP w.aX w.rows->bP (ends n mode m w).aX (ends n mode m w).rows
 |0,_,_,h=>h
 |m+1,w,ok,h=>by
  unfold ends;split
  ·rename_i hl;obtain⟨a,b⟩:=pd ok.aX;refine zK n mode m ⟨a,?_,?_⟩ (xq ok.aX hl h _)
   ·show c6 (close w.aX)=_;rw[nu ok.aX,ok.flat,za4];simp[plainRow]
   ·show (close w.aX).length<=4;have:=ok.most;lia
  ·exact h
theorem HJ(sc:List Int)(many p:Nat):cH (b8 sc many p).1.body (b8 sc many p).2:=by
 unfold b8;simp only;generalize bI sc (next sc p%4) (next sc (p+1)%4).toNat 0 (p+2)=bs;have h0:dC ⟨bs.2+1,[{kind:=0,body:=[]}],[]⟩:=⟨rfl,rfl,by simp⟩
 have t0:bP [{kind:=0,body:=[]}] []:=by
  rw[bP];exact⟨[],[],by rw[bP],.inl ⟨rfl,.nil⟩,rfl⟩
 have h1:=tI sc bs.1 (next sc bs.2%4) many h0;have t1:=xr sc bs.1 (next sc bs.2%4) many h0 t0;obtain⟨h2,h3⟩:=AN bs.1.length (next sc bs.2%4) 4 h1 (by have:=h1.most;lia);have t2:=zK bs.1.length (next sc bs.2%4) 4 h1 t1;generalize ends bs.1.length (next sc bs.2%4) 4 (turns sc bs.1 (next sc bs.2%4) many ⟨bs.2+1,[{kind:=0,body:=[]}],[]⟩)=w at h2 h3 t2;obtain⟨pp,aX,rows⟩:=w;obtain⟨f,rfl⟩:∃f,aX=[f]:=zcg.mp h3;have hk:f.kind=0:=h2.aX;simp only at t2;rw[bP] at t2;obtain⟨r1,r2,x1,x2,rfl⟩:=t2;rw[bP] at x1;subst x1;rcases x2 with ⟨_,t⟩ |⟨z,_⟩ |⟨z,_⟩ |⟨z,_⟩
 ·simpa using t
 ·lia
 ·lia
 ·lia
def pj (n:Nat) (w:Walk):Prop:=(∀f∈w.aX,f.body.length<=n)/\w.rows.length<=n
theorem Cj(sc:List Int)(bs:List gb)(mode:Int){n:Nat}{w:Walk}(h:pj n w):pj (n+1) (turn sc bs mode w):=by
 obtain⟨p,aX,rows⟩:=w;obtain⟨h1,h2⟩:=h;simp only at h1 h2;have up:∀f∈aX,f.body.length<=n+1:=fun f hf=>zbF (h1 f hf);have cl:∀l:List Frame,(∀f∈l,f.body.length<=n)->∀f∈close l,f.body.length<=n+1:=by
  intro l hl f hf
  match l,hl,hf with
  |[],_,hf=>cases hf
  |[x],hl,hf=>exact zbF (hl f hf)
  |x::y::r,hl,hf=>
   rcases zag.mp hf with rfl |hf
   ·simp;have:=hl y (by simp);lia
   ·exact zbF (hl f (by simp[hf]))
 unfold turn;simp only;split
 ·exact⟨cl aX h1,by simp;lia⟩
 ·cases aX with
  |nil=>exact⟨up,by simp only;lia⟩
  |cons f r=>
   simp only;split
   ·refine⟨fun x hx=>?_,by simp;lia⟩;rcases zag.mp hx with rfl |hx
    ·simp
    ·exact up x (by simp[hx])
   ·split
    ·refine⟨fun x hx=>?_,by simp;lia⟩;rcases zag.mp hx with rfl |hx
     ·simp
     ·exact up x hx
    ·refine⟨fun x hx=>?_,by simp;lia⟩;rcases zag.mp hx with rfl |hx
     ·have:=h1 f (by simp);simp;lia
     ·exact up x (by simp[hx])
theorem xt(sc:List Int)(bs:List gb)(mode:Int):∀(n:Nat) (w:Walk),turns sc bs mode (n+1) w=turn sc bs mode (turns sc bs mode n w)
 |0,_=>rfl
 |n+1,w=>xt sc bs mode n (turn sc bs mode w)
theorem AO(sc:List Int)(bs:List gb)(mode:Int)(p:Nat)(f:Frame)(r:List Frame)(rows:List Row):turn sc bs mode ⟨p,f::r,rows⟩ =
 if next sc p%12<2/\(f::r).length>1 then ⟨p+1,close (f::r),rows++[(number bs.length rows mode,.fin)]⟩
 else if next sc p%12=2/\f.kind=1 then ⟨p+1,{f with kind:=2,body:=[],first:=f.body}::r,rows++[(number bs.length rows mode,.oQ)]⟩
 else if next sc p%12<6/\(f::r).length<4 then
  ⟨(cD sc bs 1 (cD sc bs 1 (p+2)).2).2,{kind:=pick 1 [1,1,3] (next sc p%12%3),body:=[],k:=number bs.length rows mode,sg:=pick [] BO (next sc (p+1)%2),l:=(cD sc bs 1 (p+2)).1,r:=(cD sc bs 1 (cD sc bs 1 (p+2)).2).1}::f::r,rows++[(number bs.length rows mode,if pick 1 [1,1,3] (next sc p%12%3)=3 then .fc else .ifs)]⟩
 else ⟨(bR sc bs (number bs.length rows mode) (p+1)).2,{f with body:=f.body++[(bR sc bs (number bs.length rows mode) (p+1)).1]}::r,rows++[(number bs.length rows mode,(bR sc bs (number bs.length rows mode) (p+1)).1.wd)]⟩:=rfl
theorem jZ(sc:List Int)(lU:Int):∀(n k p:Nat),(bI sc lU n k p).1.length=n/\(bI sc lU n k p).2=p+2*n
 |0,_,p=>⟨rfl,rfl⟩
 |n+1,k,p=>by
  obtain⟨a,b⟩:=jZ sc lU n (k+1) (p+2);unfold bI;simp only[zah];exact⟨by rw[a],by rw[b];lia⟩
theorem xu{w:Walk}(ok:dC w)(k:Int):dC ⟨w.p,close w.aX,w.rows++[(k,.fin)]⟩:=by
 obtain⟨a,b⟩:=pd ok.aX;refine⟨a,?_,?_⟩
 ·show c6 (close w.aX)=_;rw[nu ok.aX,ok.flat,za4];simp[plainRow]
 ·show (close w.aX).length<=4;have:=ok.most;lia
theorem zL{n:Nat}{w:Walk}(h:pj n w)(k:Int):pj (n+1) ⟨w.p,close w.aX,w.rows++[(k,.fin)]⟩:=by
 obtain⟨h1,h2⟩:=h;refine⟨?_,by simp;lia⟩;intro f hf;obtain⟨p,aX,rows⟩:=w;simp only at h1 hf
 match aX,h1,hf with
 |[],_,hf=>cases hf
 |[x],hl,hf=>exact zbF (hl f hf)
 |x::y::r,hl,hf=>
  rcases zag.mp hf with rfl |hf
  ·have:=hl y (by simp);simp;lia
  ·exact zbF (hl f (by simp[hf]))
mutual
def kS:bG->Nat
 |.ifs _ _ _ _ a b=>max (fX a) (fX b)+1
 |.fc _ _ _ _ a=>fX a+1
 |_=>0
def fX:List bG->Nat
 |[]=>0
 |s::r=>max (kS s) (fX r)
end
theorem xv:∀a b:List bG,fX (a++b)=max (fX a) (fX b)
 |[],b=>by simp[fX]
 |s::r,b=>by
  show fX (s::(r++b))=_;rw[fX,fX,xv r b,Nat.max_assoc]
theorem Ck(s:bG):fX [s]=kS s:=by rw[fX,fX];simp
def qI:List Frame->Prop
 |[]=>True
 |f::r=>fX f.body+r.length<=3/\(f.kind=2->fX f.first+r.length<=3)/\qI r
theorem Kw{f:Frame}{n:Nat}(h1:fX f.body+n<=3)(h2:f.kind=2->fX f.first+n<=3):kS f.told+n<=4:=by
 unfold Frame.told;split
 ·rw[kS,fX];simp;lia
 ·split
  ·rename_i h;rw[kS];have:=h2 h;lia
  ·rw[kS];lia
theorem zM:∀ {l:List Frame},qI l->qI (close l)
 |[],h=>h
 |[f],h=>h
 |f::g::r,h=>by
  obtain⟨h1,h2,h3,h4,h5⟩:=h;have:=Kw h1 h2;refine⟨?_,h4,h5⟩;rw[xv,Ck];simp only[zah] at this ⊢;lia
theorem HK(sc:List Int)(bs:List gb)(k:Int)(p:Nat):kS (bR sc bs k p).1=0:=by
 rw[pf];split
 ·simp[kS]
 ·split
  ·simp[kS]
  ·split
   ·simp[kS]
   ·split
    ·split<;>simp[kS]
    ·simp[kS]
theorem Kx(sc:List Int)(bs:List gb)(mode:Int){w:Walk}(ok:dC w)(h:qI w.aX):qI (turn sc bs mode w).aX:=by
 obtain⟨p,aX,rows⟩:=w;simp only at h;cases aX with
 |nil=>exact ok.aX.elim
 |cons f r=>
  rw[AO];split
  ·exact zM h
  ·obtain⟨h1,h2,h3⟩:=h;split
   ·exact⟨by rw[fX];lia,fun _=>h1,h3⟩
   ·split
    ·rename_i hc;refine⟨?_,fun z=>?_,h1,h2,h3⟩
     ·rw[fX];have:=hc.2;simp only[zah] at this ⊢;lia
     ·rw[fX];have:=hc.2;simp only[zah] at this ⊢;lia
    ·refine⟨?_,h2,h3⟩;rw[xv,Ck,HK];lia
theorem zN(sc:List Int)(bs:List gb)(mode:Int):∀(n:Nat) {w:Walk},dC w->qI w.aX->qI (turns sc bs mode n w).aX
 |0,_,_,h=>h
 |n+1,_,ok,h=>zN sc bs mode n (tH sc bs mode ok) (Kx sc bs mode ok h)
theorem Cm(n:Nat)(mode:Int):∀(m:Nat) {w:Walk},qI w.aX->qI (ends n mode m w).aX
 |0,_,h=>h
 |m+1,w,h=>by
  unfold ends;split
  ·exact Cm n mode m (zM h)
  ·exact h
theorem Cn(sc:List Int)(many p:Nat):fX (b8 sc many p).1.body<=3:=by
 unfold b8;simp only;generalize bI sc (next sc p%4) (next sc (p+1)%4).toNat 0 (p+2)=bs;have h0:dC ⟨bs.2+1,[{kind:=0,body:=[]}],[]⟩:=⟨rfl,rfl,by simp⟩
 have d0:qI [{kind:=0,body:=[]}]:=⟨by simp[fX],(fun z=>zzb z (show ¬(0=2) by decide)),trivial⟩
 have d2:=Cm bs.1.length (next sc bs.2%4) 4 (zN sc bs.1 (next sc bs.2%4) many h0 d0);generalize ends bs.1.length (next sc bs.2%4) 4 (turns sc bs.1 (next sc bs.2%4) many ⟨bs.2+1,[{kind:=0,body:=[]}],[]⟩)=w at d2;obtain⟨pp,aX,rows⟩:=w;cases aX with
 |nil=>simp[fX]
 |cons f r=>
  have:=d2.1;simp;lia
end PG
namespace PG
open PM (W Tr)
section
variable(nm:W->Prop)(ex:Tr->Prop)(sg:W->Prop)
mutual
def tJ:bG->Prop
 |.ask _ b=>nm b
 |.put _ b e=>nm b/\ex e
 |.say _ e=>ex e
 |.cg _ s l r=>sg s/\ex l/\ex r
 |.stop _=>True
 |.ifs _ s l r a b=>sg s/\ex l/\ex r/\xw a/\xw b
 |.fc _ s l r a=>sg s/\ex l/\ex r/\xw a
def xw:List bG->Prop
 |[]=>True
 |s::r=>tJ s/\xw r
end
def OkF (f:Frame):Prop:=xw nm ex sg f.body/\(f.kind≠0->sg f.sg/\ex f.l/\ex f.r)/\(f.kind=2->xw nm ex sg f.first)
def MX:List Frame->Prop
 |[]=>True
 |f::r=>OkF nm ex sg f/\MX r
end
section
variable{nm:W->Prop}{ex:Tr->Prop}{sg:W->Prop}
theorem AQ:∀ {a b:List bG},xw nm ex sg a->xw nm ex sg b->xw nm ex sg (a++b)
 |[],b,_,h=>h
 |s::r,b,h1,h2=>by
  rw[xw] at h1;show xw nm ex sg (s::(r++b));rw[xw];exact⟨h1.1,AQ h1.2 h2⟩
theorem nv:xw nm ex sg []:=by rw[xw];trivial
theorem Gh{s:bG}(h:tJ nm ex sg s):xw nm ex sg [s]:=by rw[xw];exact⟨h,nv⟩
theorem Es{f:Frame}(h:OkF nm ex sg f)(k:f.kind=1\/f.kind=2\/f.kind=3):tJ nm ex sg f.told:=by
 obtain⟨h1,h2,h3⟩:=h;have h2:=h2 (by lia);unfold Frame.told;split
 ·rw[tJ];exact⟨h2.1,h2.2.1,h2.2.2,h1,nv⟩
 ·split
  ·rename_i z;rw[tJ];exact⟨h2.1,h2.2.1,h2.2.2,h3 z,h1⟩
  ·rw[tJ];exact⟨h2.1,h2.2.1,h2.2.2,h1⟩
theorem vP:∀ {l:List Frame},o9 l->MX nm ex sg l->MX nm ex sg (close l)
 |[],_,h=>h
 |[f],_,h=>h
 |f::g::r,ok,h=>by
  obtain⟨h1,⟨h2,h3,h4⟩,h5⟩:=h;refine⟨⟨AQ h2 (Gh (Es h1 ?_)),h3,h4⟩,h5⟩;exact ok.1
section
variable{sc:List Int}{bs:List gb}(PN:bs≠[]->∀q,nm (pick ⟨[],0,0⟩ bs (next sc q%bs.length)).name)(hex:∀d q,d<=2->ex (cD sc bs d q).1)(Ky:∀q,sg (pick [] BO (next sc q%2)))
include PN hex Ky
theorem Co(k:Int)(p:Nat):tJ nm ex sg (bR sc bs k p).1:=by
 rw[pf];split
 ·rename_i h;rw[tJ];exact PN h.1 _
 ·split
  ·rename_i h;rw[tJ];exact⟨PN h.1 _,hex _ _ (by decide)⟩
  ·split
   ·rw[tJ];exact⟨Ky _,hex _ _ (by decide),hex _ _ (by decide)⟩
   ·split
    ·split
     ·rw[tJ];trivial
     ·rw[tJ];exact hex _ _ (by decide)
    ·rw[tJ];exact hex _ _ (by decide)
theorem Et(mode:Int){w:Walk}(ok:dC w)(h:MX nm ex sg w.aX):MX nm ex sg (turn sc bs mode w).aX:=by
 obtain⟨p,aX,rows⟩:=w;simp only at h;cases aX with
 |nil=>exact ok.aX.elim
 |cons f r=>
  rw[AO];split
  ·exact vP ok.aX h
  ·obtain⟨⟨h1,h2,h3⟩,h4⟩:=h;split
   ·rename_i z;exact⟨⟨nv,fun _=>h2 (by rw[z.2];decide),fun _=>h1⟩,h4⟩
   ·split
    ·exact⟨⟨nv,fun _=>⟨Ky _,hex _ _ (by decide),hex _ _ (by decide)⟩,fun _=>nv⟩,⟨h1,h2,h3⟩,h4⟩
    ·exact⟨⟨AQ h1 (Gh (Co PN hex Ky _ _)),h2,h3⟩,h4⟩
theorem vQ(mode:Int):∀(n:Nat) {w:Walk},dC w->MX nm ex sg w.aX->MX nm ex sg (turns sc bs mode n w).aX
 |0,_,_,h=>h
 |n+1,_,ok,h=>vQ mode n (tH sc bs mode ok) (Et PN hex Ky mode ok h)
end
theorem xx(n:Nat)(mode:Int):∀(m:Nat) {w:Walk},dC w->MX nm ex sg w.aX->MX nm ex sg (ends n mode m w).aX
 |0,_,_,h=>h
 |m+1,w,ok,h=>by
  unfold ends;split
  ·exact xx n mode m (xu ok _) (vP ok.aX h)
  ·exact h
end
def fj (sc:List Int) (p:Nat):List gb:=(bI sc (next sc p%4) (next sc (p+1)%4).toNat 0 (p+2)).1
theorem Eu(sc:List Int)(many p:Nat):(b8 sc many p).1.ay=fj sc p:=rfl
theorem xy(sc:List Int)(many p:Nat){nm:W->Prop}{ex:Tr->Prop}{sg:W->Prop}(PN:fj sc p≠[]->∀q,nm (pick ⟨[],0,0⟩ (fj sc p) (next sc q%(fj sc p).length)).name)(hex:∀d q,d<=2->ex (cD sc (fj sc p) d q).1)(Ky:∀q,sg (pick [] BO (next sc q%2))):xw nm ex sg (b8 sc many p).1.body:=by
 unfold fj at PN hex;unfold b8;simp only;generalize bI sc (next sc p%4) (next sc (p+1)%4).toNat 0 (p+2)=bs at *;have h0:dC ⟨bs.2+1,[{kind:=0,body:=[]}],[]⟩:=⟨rfl,rfl,by simp⟩
 have d0:MX nm ex sg [{kind:=0,body:=[]}]:=⟨⟨nv,fun z=>zzb rfl z,fun z=>zzb z (show ¬(0=2) by decide)⟩,trivial⟩
 have d2:=xx bs.1.length (next sc bs.2%4) 4 (tI sc bs.1 (next sc bs.2%4) many h0) (vQ PN hex Ky (next sc bs.2%4) many h0 d0);generalize ends bs.1.length (next sc bs.2%4) 4 (turns sc bs.1 (next sc bs.2%4) many ⟨bs.2+1,[{kind:=0,body:=[]}],[]⟩)=w at d2;obtain⟨pp,aX,rows⟩:=w;cases aX with
 |nil=>exact nv
 |cons f r=>exact d2.1.1
def oE:Tr->Nat
 |.bin _ l r=>max (oE l) (oE r)+1
 |_=>0
theorem tK(sc:List Int)(bs:List gb):∀(d p:Nat),oE (cD sc bs d p).1<=d
 |0,p=>by
  unfold cD;simp only;split<;>simp[oE]
 |d+1,p=>by
  unfold cD;simp only;split
  ·rw[oE];have:=tK sc bs d (p+1);have:=tK sc bs d (cD sc bs d (p+1)).2;lia
  ·split<;>simp[oE]
mutual
theorem Cp:∀(s:bG) (r:Row),r∈dU s->r.2≠.oQ/\r.2≠.fin
 |.ifs k _ _ _ a b,r,h=>by
  rw[dU] at h;simp only[zag,zaz] at h;rcases h with rfl |h |h
  ·simp
  ·exact jx a r h
  ·exact jx b r h
 |.fc k _ _ _ a,r,h=>by
  rw[dU] at h;simp only[zag] at h;rcases h with rfl |h
  ·simp
  ·exact jx a r h
 |.ask k _,r,h=>by simp[dU] at h;subst h;simp
 |.put k _ _,r,h=>by simp[dU] at h;subst h;simp
 |.say k _,r,h=>by simp[dU] at h;subst h;simp
 |.cg k _ _ _,r,h=>by simp[dU] at h;subst h;simp
 |.stop k,r,h=>by simp[dU] at h;subst h;simp
theorem jx:∀(b:List bG) (r:Row),r∈bV b->r.2≠.oQ/\r.2≠.fin
 |[],r,h=>by simp[bV] at h
 |s::t,r,h=>by
  rw[bV,zaz] at h;rcases h with h |h
  ·exact Cp s r h
  ·exact jx t r h
end
def Kz (r:dM):List Tg:=Ti (r.1,r.2.1)
theorem NS(b:List bG)(x:Int):(aQ b x).flatMap Kz=(bV b).flatMap Ti:=by
 rw[<- cY b x,List.flatMap_map];rfl
theorem Cq(b:List bG)(x:Int)(r:dM)(h:r∈aQ b x):r.2.1≠.oQ/\r.2.1≠.fin:=by
 have:=jx b (r.1,r.2.1) (by rw[<- cY b x];exact zaF.mpr ⟨r,h,rfl⟩);exact this
theorem Gi(r:Row):(Ti r).length<=3:=by
 obtain⟨k,w⟩:=r;cases w<;>simp[Ti,plainRow]
theorem zO(sc:List Int)(bs:List gb)(mode:Int):∀(n m:Nat) {w:Walk},pj m w->pj (m+n) (turns sc bs mode n w)
 |0,m,_,h=>h
 |n+1,m,_,h=>by
  have:=zO sc bs mode n (m+1) (Cj sc bs mode h);rw[show m+(n+1)=m+1+n by lia];exact this
theorem Cr(n:Nat)(mode:Int):∀(k m:Nat) {w:Walk},pj m w->(ends n mode k w).rows.length<=m+k
 |0,m,w,h=>h.2
 |k+1,m,w,h=>by
  unfold ends;split
  ·have:=Cr n mode k (m+1) (zL h (number n w.rows mode));lia
  ·have:=h.2;lia
theorem KA(sc:List Int)(many p:Nat):(b8 sc many p).2.length<=many+4:=by
 unfold b8;simp only;generalize bI sc (next sc p%4) (next sc (p+1)%4).toNat 0 (p+2)=bs;have h0:pj 0 ⟨bs.2+1,[{kind:=0,body:=[]}],[]⟩:=⟨fun f hf=>by rw[zar.mp hf];exact zaf _,zaf _⟩
 have:=Cr bs.1.length (next sc bs.2%4) 4 _ (zO sc bs.1 (next sc bs.2%4) many 0 h0);lia
end PG
namespace PG
open PM (W Tr)
inductive Mt where
 |op (oQ fin:Option Nat)
 |back (i:Nat)
 deriving DecidableEq
abbrev Mm:=Nat->Option Mt
def Mm.set (m:Mm) (i:Nat) (x:Mt):Mm:=fun j=>if j=i then some x else m j
theorem Mm.set_same(m:Mm)(i:Nat)(x:Mt):(m.set i x) i=some x:=zzp rfl
theorem Mm.bO(m:Mm){i j:Nat}(x:Mt)(h:j≠i):(m.set i x) j=m j:=zzn h
def qk (x:Option Mt) (p:Nat):Mt:=match x with
 |some (.op _ f)=>.op (some p) f
 |some y=>y
 |none=>.op (some p) none
def tL (x:Option Mt) (p:Nat):Mt:=match x with
 |some (.op e _)=>.op e (some p)
 |some y=>y
 |none=>.op none (some p)
def tM (st:Mm×List Nat) (p:Nat):Wd->Mm×List Nat
 |.ifs=>(st.1.set p (.op none none),p::st.2)
 |.fc=>(st.1.set p (.op none none),p::st.2)
 |.oQ=>match st.2 with
  |o::_=>((st.1.set o (qk (st.1 o) p)).set p (.back o),st.2)
  |[]=>st
 |.fin=>match st.2 with
  |o::r=>((st.1.set p (.back o)).set o (tL (st.1 o) p),r)
  |[]=>st
 |_=>st
def foldM:Nat->List Row->Mm×List Nat->Mm×List Nat
 |_,[],st=>st
 |i,r::l,st=>foldM (i+1) l (tM st i r.2)
theorem jc:∀(a b:List Row) (i:Nat) (st:Mm×List Nat),foldM i (a++b) st=foldM (i+a.length) b (foldM i a st)
 |[],b,i,st=>rfl
 |r::a,b,i,st=>by
  rw[zaJ,foldM,foldM,jc a b (i+1),zah,show i+1+a.length=i+(a.length+1) by lia]
mutual
def dO (m:Mm):bG->Nat->List Row->Prop
 |.ifs k _ _ _ a b,i,rs=>(∃ra n,ic m a (i+1) ra/\b=[]/\rs=(k,.ifs)::(ra++[(n,.fin)])/\m i=some (.op none (some (i+1+ra.length)))/\m (i+1+ra.length)=some (.back i))\/
  (∃ra rb n x,ic m a (i+1) ra/\ic m b (i+2+ra.length) rb/\rs=(k,.ifs)::(ra++(n,.oQ)::(rb++[(x,.fin)]))/\m i=some (.op (some (i+1+ra.length)) (some (i+2+ra.length+rb.length)))/\
   m (i+1+ra.length)=some (.back i)/\m (i+2+ra.length+rb.length)=some (.back i))
 |.fc k _ _ _ a,i,rs=>∃ra n,ic m a (i+1) ra/\rs=(k,.fc)::(ra++[(n,.fin)])/\m i=some (.op none (some (i+1+ra.length)))/\m (i+1+ra.length)=some (.back i)
 |.ask k _,_,rs=>rs=[(k,.ask)]
 |.put k _ _,_,rs=>rs=[(k,.put)]
 |.say k _,_,rs=>rs=[(k,.say)]
 |.cg k _ _ _,_,rs=>rs=[(k,.cg)]
 |.stop k,_,rs=>rs=[(k,.stop)]
def ic (m:Mm):List bG->Nat->List Row->Prop
 |[],_,rs=>rs=[]
 |s::r,i,rs=>∃r1 r2,dO m s i r1/\ic m r (i+r1.length) r2/\rs=r1++r2
end
mutual
theorem dO.jJ{m m':Mm}:∀(s:bG) {i:Nat} {rs:List Row},dO m s i rs->(∀j,i<=j->j<i+rs.length->m' j=m j)->dO m' s i rs
 |.ifs k _ _ _ a b,i,rs,h,q=>by
  rw[dO] at h ⊢;rcases h with ⟨ra,n,h1,h2,rfl,h3,h4⟩ |⟨ra,rb,n,x,h1,h2,rfl,h3,h4,h5⟩
  ·simp only[zah,zae,zaA] at q;exact .inl ⟨ra,n,ic.jJ a h1 (fun j a b=>q j (by lia) (by lia)),h2,rfl,by rw[q i (by lia) (by lia)];exact h3,by rw[q _ (by lia) (by lia)];exact h4⟩
  ·simp only[zah,zae,zaA] at q;exact .inr ⟨ra,rb,n,x,ic.jJ a h1 (fun j a b=>q j (by lia) (by lia)),ic.jJ b h2 (fun j a b=>q j (by lia) (by lia)),rfl,by rw[q i (by lia) (by lia)];exact h3,by rw[q _ (by lia) (by lia)];exact h4,by rw[q _ (by lia) (by lia)];exact h5⟩
 |.fc k _ _ _ a,i,rs,h,q=>by
  rw[dO] at h ⊢;obtain⟨ra,n,h1,rfl,h3,h4⟩:=h;simp only[zah,zae,zaA] at q;exact⟨ra,n,ic.jJ a h1 (fun j a b=>q j (by lia) (by lia)),rfl,by rw[q i (by lia) (by lia)];exact h3,by rw[q _ (by lia) (by lia)];exact h4⟩
 |.ask k _,_,rs,h,_=>by rw[dO] at h ⊢;exact h
 |.put k _ _,_,rs,h,_=>by rw[dO] at h ⊢;exact h
 |.say k _,_,rs,h,_=>by rw[dO] at h ⊢;exact h
 |.cg k _ _ _,_,rs,h,_=>by rw[dO] at h ⊢;exact h
 |.stop k,_,rs,h,_=>by rw[dO] at h ⊢;exact h
theorem ic.jJ{m m':Mm}:∀(b:List bG) {i:Nat} {rs:List Row},ic m b i rs->(∀j,i<=j->j<i+rs.length->m' j=m j)->ic m' b i rs
 |[],i,rs,h,_=>by rw[ic] at h ⊢;exact h
 |s::r,i,rs,h,q=>by
  rw[ic] at h ⊢;obtain⟨r1,r2,h1,h2,rfl⟩:=h;simp only[zae] at q;exact⟨r1,r2,dO.jJ s h1 (fun j a b=>q j (by lia) (by lia)),ic.jJ r h2 (fun j a b=>q j (by lia) (by lia)),rfl⟩
end
theorem fI{op:List Nat}{i j:Nat}(h:∀o∈op,o<i)(hj:i<j):∀o∈i::op,o<j:=fun o hx=>by
 rcases zag.mp hx with rfl |hx
 ·exact hj
 ·have:=h o hx;lia
mutual
theorem PQ:∀(s:bG) (rs:List Row),eO s rs->∀(i:Nat) (m:Mm) (op:List Nat),(∀o∈op,o<i)->∃m1,foldM i rs (m,op)=(m1,op)/\dO m1 s i rs/\∀j,(j<i\/i+rs.length<=j)->m1 j=m j
 |.ifs k sg l r a b,rs,h,i,m,op,ho=>by
  rw[eO] at h;rcases h with ⟨ra,n,h1,rfl,rfl⟩ |⟨ra,rb,n,x,h1,h2,rfl⟩
  ·obtain⟨m1,e1,s1,k1⟩:=oF a ra h1 (i+1) (m.set i (.op none none)) (i::op) (fI ho (by lia));have mi:m1 i=some (.op none none):=by rw[k1 i (by lia),Mm.set_same]
   refine⟨(m1.set (i+1+ra.length) (.back i)).set i (tL (m1 i) (i+1+ra.length)),?_,?_,?_⟩
   ·show foldM (i+1) (ra++[(n,.fin)]) (m.set i (.op none none),i::op)=_;rw[jc,e1];rfl
   ·rw[dO];refine .inl ⟨ra,n,ic.jJ a s1 (fun j a b=>by rw[Mm.bO _ _ (by lia),Mm.bO _ _ (by lia)]),rfl,rfl,?_,?_⟩
    ·rw[Mm.set_same,mi];rfl
    ·rw[Mm.bO _ _ (by lia),Mm.set_same]
   ·intro j hj;simp only[zah,zae,zaA] at hj;rw[Mm.bO _ _ (by lia),Mm.bO _ _ (by lia),k1 j (by lia),Mm.bO _ _ (by lia)]
  ·obtain⟨m1,e1,s1,k1⟩:=oF a ra h1 (i+1) (m.set i (.op none none)) (i::op) (fI ho (by lia));have mi:m1 i=some (.op none none):=by rw[k1 i (by lia),Mm.set_same]
   obtain⟨m2,e2,s2,k2⟩:=oF b rb h2 (i+2+ra.length) ((m1.set i (qk (m1 i) (i+1+ra.length))).set (i+1+ra.length) (.back i)) (i::op) (fI ho (by lia));have YI:m2 i=some (.op (some (i+1+ra.length)) none):=by rw[k2 i (by lia),Mm.bO _ _ (by lia),Mm.set_same,mi];rfl
   refine⟨(m2.set (i+2+ra.length+rb.length) (.back i)).set i (tL (m2 i) (i+2+ra.length+rb.length)),?_,?_,?_⟩
   ·show foldM (i+1) (ra++(n,.oQ)::(rb++[(x,.fin)])) (m.set i (.op none none),i::op)=_;rw[jc,e1];show foldM (i+1+ra.length+1) (rb++[(x,.fin)]) ((m1.set i (qk (m1 i) (i+1+ra.length))).set (i+1+ra.length) (.back i),i::op)=_;rw[show i+1+ra.length+1=i+2+ra.length by lia,jc,e2];rfl
   ·rw[dO];refine .inr ⟨ra,rb,n,x,ic.jJ a s1 (fun j a b=>?_),ic.jJ b s2 (fun j a b=>?_),rfl,?_,?_,?_⟩
    ·rw[Mm.bO _ _ (by lia),Mm.bO _ _ (by lia),k2 j (by lia),Mm.bO _ _ (by lia),Mm.bO _ _ (by lia)]
    ·rw[Mm.bO _ _ (by lia),Mm.bO _ _ (by lia)]
    ·rw[Mm.set_same,YI];rfl
    ·rw[Mm.bO _ _ (by lia),Mm.bO _ _ (by lia),k2 _ (by lia),Mm.set_same]
    ·rw[Mm.bO _ _ (by lia),Mm.set_same]
   ·intro j hj;simp only[zah,zae,zaA] at hj;rw[Mm.bO _ _ (by lia),Mm.bO _ _ (by lia),k2 j (by lia),Mm.bO _ _ (by lia),Mm.bO _ _ (by lia),k1 j (by lia),Mm.bO _ _ (by lia)]
 |.fc k sg l r a,rs,h,i,m,op,ho=>by
  rw[eO] at h;obtain⟨ra,n,h1,rfl⟩:=h;obtain⟨m1,e1,s1,k1⟩:=oF a ra h1 (i+1) (m.set i (.op none none)) (i::op) (fI ho (by lia));have mi:m1 i=some (.op none none):=by rw[k1 i (by lia),Mm.set_same]
  refine⟨(m1.set (i+1+ra.length) (.back i)).set i (tL (m1 i) (i+1+ra.length)),?_,?_,?_⟩
  ·show foldM (i+1) (ra++[(n,.fin)]) (m.set i (.op none none),i::op)=_;rw[jc,e1];rfl
  ·rw[dO];refine⟨ra,n,ic.jJ a s1 (fun j a b=>by rw[Mm.bO _ _ (by lia),Mm.bO _ _ (by lia)]),rfl,?_,?_⟩
   ·rw[Mm.set_same,mi];rfl
   ·rw[Mm.bO _ _ (by lia),Mm.set_same]
  ·intro j hj;simp only[zah,zae,zaA] at hj;rw[Mm.bO _ _ (by lia),Mm.bO _ _ (by lia),k1 j (by lia),Mm.bO _ _ (by lia)]
 |.ask k _,rs,h,i,m,op,_=>by rw[eO] at h;subst h;exact⟨m,rfl,by rw[dO],fun _ _=>rfl⟩
 |.put k _ _,rs,h,i,m,op,_=>by rw[eO] at h;subst h;exact⟨m,rfl,by rw[dO],fun _ _=>rfl⟩
 |.say k _,rs,h,i,m,op,_=>by rw[eO] at h;subst h;exact⟨m,rfl,by rw[dO],fun _ _=>rfl⟩
 |.cg k _ _ _,rs,h,i,m,op,_=>by rw[eO] at h;subst h;exact⟨m,rfl,by rw[dO],fun _ _=>rfl⟩
 |.stop k,rs,h,i,m,op,_=>by rw[eO] at h;subst h;exact⟨m,rfl,by rw[dO],fun _ _=>rfl⟩
theorem oF:∀(b:List bG) (rs:List Row),cH b rs->∀(i:Nat) (m:Mm) (op:List Nat),(∀o∈op,o<i)->∃m1,foldM i rs (m,op)=(m1,op)/\ic m1 b i rs/\∀j,(j<i\/i+rs.length<=j)->m1 j=m j
 |[],rs,h,i,m,op,_=>by rw[cH] at h;subst h;exact⟨m,rfl,by rw[ic],fun _ _=>rfl⟩
 |s::r,rs,h,i,m,op,ho=>by
  rw[cH] at h;obtain⟨r1,r2,h1,h2,rfl⟩:=h;obtain⟨m1,e1,s1,k1⟩:=PQ s r1 h1 i m op ho;obtain⟨m2,e2,s2,k2⟩:=oF r r2 h2 (i+r1.length) m1 op (fun o hx=>by have:=ho o hx;lia);refine⟨m2,?_,?_,?_⟩
  ·rw[jc,e1,e2]
  ·rw[ic];exact⟨r1,r2,dO.jJ s s1 (fun j a b=>k2 j (by lia)),s2,rfl⟩
  ·intro j hj;rw[zae] at hj;rw[k2 j (by lia),k1 j (by lia)]
end
end PG
namespace PG
open PM (W Tr)
def to (R:List Row) (m:Mm) (p:Nat):Int:=
 if h:p<R.length then
  match (R[p]).2 with
  |.oQ=>match m p with
   |some (.back o)=>match m o with
    |some (.op _ (some e))=>if he:p<=e then to R m (e+1) else 0
    |_=>0
   |_=>0
  |.fin=>match m p with
   |some (.back o)=>match R[o]? with
    |some (k,.fc)=>k
    |_=>to R m (p+1)
   |_=>0
  |_=>(R[p]).1
 else 0
termination_by R.length-p
decreasing_by all_goals lia
theorem Ew{R:List Row}{m:Mm}{p:Nat}(h:R.length<=p):to R m p=0:=by
 rw[to,dif_neg (by lia)]
theorem ny{R:List Row}{p:Nat}{r:Row}(h:R[p]?=some r):∃hp:p<R.length,R[p]=r:=zak.mp h
theorem Cs{R:List Row}{m:Mm}{p:Nat}{k:Int}{w:Wd}(h:R[p]?=some (k,w))(h1:w≠.oQ)(h2:w≠.fin):to R m p=k:=by
 obtain⟨hp,e⟩:=ny h;rw[to,dif_pos hp,e];cases w<;>first |rfl |exact zzb rfl h1 |exact zzb rfl h2
theorem KC{R:List Row}{m:Mm}{p o e:Nat}{k:Int}{x:Option Nat}(h:R[p]?=some (k,.oQ))(h1:m p=some (.back o))(h2:m o=some (.op x (some e)))(h3:p<=e):to R m p=to R m (e+1):=by
 obtain⟨hp,q⟩:=ny h;rw[to,dif_pos hp,q];simp only[h1,h2];rw[dif_pos h3]
theorem KD{R:List Row}{m:Mm}{p o:Nat}{k k':Int}(h:R[p]?=some (k,.fin))(h1:m p=some (.back o))(h2:R[o]?=some (k',.fc)):to R m p=k':=by
 obtain⟨hp,q⟩:=ny h;rw[to,dif_pos hp,q];simp only[h1,h2]
theorem Ex{R:List Row}{m:Mm}{p o:Nat}{k k':Int}(h:R[p]?=some (k,.fin))(h1:m p=some (.back o))(h2:R[o]?=some (k',.ifs)):to R m p=to R m (p+1):=by
 obtain⟨hp,q⟩:=ny h;rw[to,dif_pos hp,q];simp only[h1,h2]
def eG (R:List Row) (m:Mm) (p:Nat):List dM:=match R[p]? with
 |none=>[]
 |some (k,.stop)=>[(k,.stop,[0])]
 |some (_,.oQ)=>[]
 |some (_,.fin)=>[]
 |some (k,.ifs)=>match m p with
  |some (.op x (some e))=>[(k,.ifs,[to R m (p+1),to R m (x.getD e+1)])]
  |_=>[]
 |some (k,.fc)=>match m p with
  |some (.op x (some e))=>[(k,.fc,[to R m (p+1),to R m (x.getD e+1)])]
  |_=>[]
 |some (k,w)=>[(k,w,[to R m (p+1)])]
def bZ (R:List Row) (m:Mm):Nat->Nat->List dM
 |_,0=>[]
 |i,n+1=>eG R m i++bZ R m (i+1) n
theorem dG(R:List Row)(m:Mm):∀(a b i:Nat),bZ R m i (a+b)=bZ R m i a++bZ R m (i+a) b
 |0,b,i=>by simp[bZ]
 |a+1,b,i=>by
  rw[show a+1+b=(a+b)+1 by lia,bZ,bZ,dG R m a b (i+1),za2,show i+1+a=i+(a+1) by lia]
def At (R:List Row) (i:Nat) (rs:List Row):Prop:=∀j,j<rs.length->R[i+j]?=rs[j]?
theorem At.left{R:List Row}{i:Nat}{a b:List Row}(h:At R i (a++b)):At R i a:=fun j hj=>by
 rw[h j (by rw[zae];lia),zbY hj]
theorem At.right{R:List Row}{i:Nat}{a b:List Row}(h:At R i (a++b)):At R (i+a.length) b:=fun j hj=>by
 have:=h (a.length+j) (by rw[zae];lia);rw[zbC (by lia),show a.length+j-a.length=j by lia] at this;rw[show i+a.length+j=i+(a.length+j) by lia];exact this
theorem At.head{R:List Row}{i:Nat}{x:Row}{b:List Row}(h:At R i (x::b)):R[i]?=some x:=by
 have:=h 0 (by simp);simpa using this
theorem At.tail{R:List Row}{i:Nat}{x:Row}{b:List Row}(h:At R i (x::b)):At R (i+1) b:=At.right (a:=[x]) h
theorem HL{m:Mm}:∀(s:bG) {i:Nat} {rs:List Row},dO m s i rs->∃t,rs=(s.row,s.wd)::t/\s.wd≠.oQ/\s.wd≠.fin
 |.ifs k _ _ _ a b,i,rs,h=>by
  rw[dO] at h;rcases h with ⟨ra,n,_,_,rfl,_⟩ |⟨ra,rb,n,x,_,_,rfl,_⟩
  ·exact⟨_,rfl,by simp[bG.wd],by simp[bG.wd]⟩
  ·exact⟨_,rfl,by simp[bG.wd],by simp[bG.wd]⟩
 |.fc k _ _ _ a,i,rs,h=>by
  rw[dO] at h;obtain⟨ra,n,_,rfl,_⟩:=h;exact⟨_,rfl,by simp[bG.wd],by simp[bG.wd]⟩
 |.ask k _,_,rs,h=>by rw[dO] at h;exact⟨[],h,by simp[bG.wd],by simp[bG.wd]⟩
 |.put k _ _,_,rs,h=>by rw[dO] at h;exact⟨[],h,by simp[bG.wd],by simp[bG.wd]⟩
 |.say k _,_,rs,h=>by rw[dO] at h;exact⟨[],h,by simp[bG.wd],by simp[bG.wd]⟩
 |.cg k _ _ _,_,rs,h=>by rw[dO] at h;exact⟨[],h,by simp[bG.wd],by simp[bG.wd]⟩
 |.stop k,_,rs,h=>by rw[dO] at h;exact⟨[],h,by simp[bG.wd],by simp[bG.wd]⟩
theorem ql{R:List Row}{m:Mm}:∀(b:List bG) {i:Nat} {rs:List Row},ic m b i rs->At R i rs->to R m i=bj b (to R m (i+rs.length))
 |[],i,rs,h,_=>by rw[ic] at h;subst h;rfl
 |s::r,i,rs,h,ha=>by
  rw[ic] at h;obtain⟨r1,r2,h1,h2,rfl⟩:=h;obtain⟨t,rfl,n1,n2⟩:=HL s h1;rw[Cs (At.head ha.left) n1 n2];rfl
mutual
theorem RA{R:List Row}{m:Mm}:∀(s:bG) {i:Nat} {rs:List Row},dO m s i rs->At R i rs->bZ R m i rs.length=dE s (to R m (i+rs.length))
 |.ifs k sg l r a b,i,rs,h,ha=>by
  rw[dO] at h;rcases h with ⟨ra,n,h1,rfl,rfl,h3,h4⟩ |⟨ra,rb,n,x,h1,h2,rfl,h3,h4,h5⟩
  ·have aH:=ha.head;have aA:=ha.tail.left;have aF:=ha.tail.right.head;have tF:to R m (i+1+ra.length)=to R m (i+1+ra.length+1):=Ex aF h4 aH;have tA:=ql a h1 aA;have e:((k,Wd.ifs)::(ra++[(n,Wd.fin)])).length=1+(ra.length+1):=by simp;lia
   rw[e,dG,dG,uW a h1 aA,dE,tF,show i+(1+(ra.length+1))=i+1+ra.length+1 by lia];have w1:bZ R m i 1=[(k,.ifs,[bj a (to R m (i+1+ra.length+1)),to R m (i+1+ra.length+1)])]:=by
    simp only[bZ,eG,aH,h3,zav,zcj];rw[tA,tF]
   have w2:bZ R m (i+1+ra.length) 1=[]:=by simp only[bZ,eG,aF,zav]
   rw[w1,w2];simp[aQ,bj]
  ·have aH:=ha.head;have aA:=ha.tail.left;have aE:=ha.tail.right.head;have aB:=ha.tail.right.tail.left;have aF:=ha.tail.right.tail.right.head;rw[show i+1+ra.length+1=i+2+ra.length by lia] at aB aF;have tF:to R m (i+2+ra.length+rb.length)=to R m (i+2+ra.length+rb.length+1):=Ex aF h5 aH;have tE:to R m (i+1+ra.length)=to R m (i+2+ra.length+rb.length+1):=KC aE h4 h3 (by lia);have tA:=ql a h1 aA;have tB:=ql b h2 aB;have e:((k,Wd.ifs)::(ra++(n,Wd.oQ)::(rb++[(x,Wd.fin)]))).length=1+(ra.length+(1+(rb.length+1))):=by simp;lia
   rw[e,dG,dG,dG,dG,uW a h1 aA,dE,show i+(1+(ra.length+(1+(rb.length+1))))=i+2+ra.length+rb.length+1 by lia,tE,show i+1+ra.length+1=i+2+ra.length by lia,uW b h2 aB,tF];have w1:bZ R m i 1=[(k,.ifs,[bj a (to R m (i+2+ra.length+rb.length+1)),bj b (to R m (i+2+ra.length+rb.length+1))])]:=by
    simp only[bZ,eG,aH,h3,zav,zck];rw[tA,tE,show i+1+ra.length+1=i+2+ra.length by lia,tB,tF]
   have w2:bZ R m (i+1+ra.length) 1=[]:=by simp only[bZ,eG,aE,zav]
   have w3:bZ R m (i+2+ra.length+rb.length) 1=[]:=by simp only[bZ,eG,aF,zav]
   rw[w1,w2,w3];simp
 |.fc k sg l r a,i,rs,h,ha=>by
  rw[dO] at h;obtain⟨ra,n,h1,rfl,h3,h4⟩:=h;have aH:=ha.head;have aA:=ha.tail.left;have aF:=ha.tail.right.head;have tF:to R m (i+1+ra.length)=k:=KD aF h4 aH;have tA:=ql a h1 aA;have e:((k,Wd.fc)::(ra++[(n,Wd.fin)])).length=1+(ra.length+1):=by simp;lia
  rw[e,dG,dG,uW a h1 aA,dE,tF,show i+(1+(ra.length+1))=i+1+ra.length+1 by lia];have w1:bZ R m i 1=[(k,.fc,[bj a k,to R m (i+1+ra.length+1)])]:=by
   simp only[bZ,eG,aH,h3,zav,zcj];rw[tA,tF]
  have w2:bZ R m (i+1+ra.length) 1=[]:=by simp only[bZ,eG,aF,zav]
  rw[w1,w2];simp
 |.ask k _,i,rs,h,ha=>by rw[dO] at h;subst h;have:=ha.head;simp[bZ,eG,this,dE]
 |.put k _ _,i,rs,h,ha=>by rw[dO] at h;subst h;have:=ha.head;simp[bZ,eG,this,dE]
 |.say k _,i,rs,h,ha=>by rw[dO] at h;subst h;have:=ha.head;simp[bZ,eG,this,dE]
 |.cg k _ _ _,i,rs,h,ha=>by rw[dO] at h;subst h;have:=ha.head;simp[bZ,eG,this,dE]
 |.stop k,i,rs,h,ha=>by rw[dO] at h;subst h;have:=ha.head;simp[bZ,eG,this,dE]
theorem uW{R:List Row}{m:Mm}:∀(b:List bG) {i:Nat} {rs:List Row},ic m b i rs->At R i rs->bZ R m i rs.length=aQ b (to R m (i+rs.length))
 |[],i,rs,h,_=>by rw[ic] at h;subst h;rfl
 |s::r,i,rs,h,ha=>by
  rw[ic] at h;obtain⟨r1,r2,h1,h2,rfl⟩:=h;rw[zae,dG,RA s h1 ha.left,uW r h2 ha.right,aQ,ql r h2 ha.right,show i+r1.length+r2.length=i+(r1.length+r2.length) by lia]
end
def oO (R:List Row):Mm:=(foldM 0 R (fun _=>none,[])).1
theorem HM{b:List bG}{R:List Row}(h:cH b R):bZ R (oO R) 0 R.length=aQ b 0:=by
 obtain⟨m1,e,s,_⟩:=oF b R h 0 (fun _=>none) [] (by simp);have em:oO R=m1:=by unfold oO;rw[e]
 rw[em,uW b s (fun j _=>by rw[zbx]),zbx,Ew (zaf _)]
end PG
namespace PG
open PM (W Tr)
def pz (n:Nat) (mode:Int) (rows:List Row):Prop:=(rows.filter plainRow).Pairwise (fun a b=>a.1<b.1)/\∀r∈rows.filter plainRow,0<r.1/\r.1<number n rows mode
theorem Ey(n:Nat)(rows:List Row)(mode:Int):0<number n rows mode:=by
 unfold number;split
 ·lia
 ·split<;>lia
theorem Ct(n:Nat)(rows:List Row)(mode:Int)(r:Row):number n rows mode<=number n (rows++[r]) mode/\(plainRow r=true->number n rows mode<number n (rows++[r]) mode):=by
 unfold number;simp only[zae,zax,za4];split
 ·exact⟨by lia,fun _=>by lia⟩
 ·split
  ·refine⟨by lia,fun h=>?_⟩;have:(List.filter (fun r:Row=>decide (r.2≠.oQ/\r.2≠.fin)) [r]).length=1:=by
    unfold plainRow at h;rw[zcG,zzp h];rfl
   lia
  ·exact⟨by lia,fun _=>by lia⟩
theorem pz.more{n:Nat}{mode:Int}{rows:List Row}(h:pz n mode rows)(w:Wd):pz n mode (rows++[(number n rows mode,w)]):=by
 obtain⟨h1,h2⟩:=h;obtain⟨m1,m2⟩:=Ct n rows mode (number n rows mode,w);unfold pz;rw[za4];by_cases hp:plainRow (number n rows mode,w)=true
 ·rw[show [(number n rows mode,w)].filter plainRow=[(number n rows mode,w)] by rw[zcG,zzp hp];rfl];refine⟨zbI.mpr ⟨h1,List.pairwise_singleton _ _,fun a ha b hb=>?_⟩,fun r hr=>?_⟩
  ·rw[zar.mp hb];exact(h2 a ha).2
  ·rcases zaz.mp hr with hr |hr
   ·have:=h2 r hr;lia
   ·rw[zar.mp hr];exact⟨Ey _ _ _,m2 hp⟩
 ·rw[show [(number n rows mode,w)].filter plainRow=[] by rw[zcG,zzn hp];rfl,zav];refine⟨h1,fun r hr=>?_⟩;have:=h2 r hr;lia
theorem KG(sc:List Int)(bs:List gb)(mode:Int){w:Walk}(h:pz bs.length mode w.rows):pz bs.length mode (turn sc bs mode w).rows:=by
 obtain⟨p,aX,rows⟩:=w;unfold turn;simp only at h ⊢;split
 ·exact h.more _
 ·cases aX with
  |nil=>exact h
  |cons f r=>
   simp only;split
   ·exact h.more _
   ·split
    ·exact h.more _
    ·exact h.more _
theorem zP(sc:List Int)(bs:List gb)(mode:Int):∀(n:Nat) {w:Walk},pz bs.length mode w.rows->pz bs.length mode (turns sc bs mode n w).rows
 |0,_,h=>h
 |n+1,_,h=>zP sc bs mode n (KG sc bs mode h)
theorem Cu(n:Nat)(mode:Int):∀(m:Nat) {w:Walk},pz n mode w.rows->pz n mode (ends n mode m w).rows
 |0,_,h=>h
 |m+1,w,h=>by
  unfold ends;split
  ·exact Cu n mode m (h.more _)
  ·exact h
theorem zQ(sc:List Int)(many p:Nat):(bV (b8 sc many p).1.body).Pairwise (fun a b=>a.1<b.1)/\∀r∈bV (b8 sc many p).1.body,0<r.1:=by
 rw[zJ];have key:∃n mode,pz n mode (b8 sc many p).2:=by
  unfold b8;simp only;generalize bI sc (next sc p%4) (next sc (p+1)%4).toNat 0 (p+2)=bs;refine⟨bs.1.length,next sc bs.2%4,Cu _ _ _ (zP _ _ _ _ ?_)⟩;exact⟨List.Pairwise.nil,fun r hr=>by cases hr⟩
 obtain⟨n,mode,h1,h2⟩:=key;exact⟨h1,fun r hr=>(h2 r hr).1⟩
mutual
def nA:bG->List bG
 |.ifs k sg l r a b=>.ifs k sg l r a b::(az a++az b)
 |.fc k sg l r a=>.fc k sg l r a::az a
 |s=>[s]
def az:List bG->List bG
 |[]=>[]
 |s::r=>nA s++az r
end
mutual
theorem HN:∀s:bG,(nA s).map (fun x=>(x.row,x.wd))=dU s
 |.ifs k sg l r a b=>by
  rw[nA,dU,zal,zaw,fQ a,fQ b];rfl
 |.fc k sg l r a=>by
  rw[nA,dU,zal,fQ a];rfl
 |.ask k _=>rfl
 |.put k _ _=>rfl
 |.say k _=>rfl
 |.cg k _ _ _=>rfl
 |.stop k=>rfl
theorem fQ:∀b:List bG,(az b).map (fun x=>(x.row,x.wd))=bV b
 |[]=>rfl
 |s::r=>by simp[az,bV,HN s,fQ r]
end
theorem KI{b:List bG}(h:(bV b).Pairwise (fun a b=>a.1<b.1)):(az b).Pairwise (fun a b=>a.row<b.row):=by
 rw[<- fQ,zbe] at h;exact h
theorem tO(sc:List Int)(lU:Int):∀(n k p:Nat),k+n<=4->((bI sc lU n k p).1.map (·.name))=(zaH n).map (fun (i:Nat)=>pick [] dy (((k:Int)+i-lU)%4))
 |0,k,p,_=>rfl
 |n+1,k,p,h=>by
  rw[bI,List.range_succ_eq_map];simp only[zal,zbj];rw[tO sc lU n (k+1) (p+2) (by lia)]
  congr 1
  simp;intro i _;rw[show (k:Int)+1+(i:Int)=(k:Int)+((i:Int)+1) by lia]
theorem Cv(a b:Nat)(ha:a<4)(hb:b<4)(e:pick [] dy (a:Int)=pick [] dy (b:Int)):a=b:=by
 have key:∀(a b:Fin 4),pick [] dy ((a:Nat):Int)=pick [] dy ((b:Nat):Int)->a=b:=by decide
 exact congrArg Fin.val (key ⟨a,ha⟩ ⟨b,hb⟩ e)
theorem AR(sc:List Int)(p:Nat):((fj sc p).map (·.name)).Nodup/\(fj sc p).length<=4:=by
 unfold fj;have b:=jN sc (p+1);have l:=(jZ sc (next sc p%4) (next sc (p+1)%4).toNat 0 (p+2)).1;rw[tO sc _ _ 0 _ (by lia),l];refine⟨?_,by lia⟩;have hn:(next sc (p+1)%4).toNat<=4:=by lia
 generalize (next sc (p+1)%4).toNat=n at *;generalize next sc p%4=lU at *;refine zbe.mpr (List.Pairwise.imp_of_mem ?_ (List.nodup_range (n:=n)));intro i j hi hj DE e;rw[zb5] at hi hj;have e1:((((0:Nat):Int)+i-lU)%4)=(((((0:Nat):Int)+i-lU)%4).toNat:Int):=by lia
 have e2:((((0:Nat):Int)+j-lU)%4)=(((((0:Nat):Int)+j-lU)%4).toNat:Int):=by lia
 rw[e1,e2] at e;have:=Cv _ _ (by lia) (by lia) e;lia
end PG
namespace PG
open PM (W Tr)
def cT:Nat->List Row->Mm×List Nat->Prop
 |_,[],_=>True
 |i,r::l,st=>(r.2=.oQ\/r.2=.fin->∃o t e f,st.2=o::t/\st.1 o=some (.op e f))/\cT (i+1) l (tM st i r.2)
theorem kl:∀(a b:List Row) (i:Nat) (st:Mm×List Nat),cT i a st->cT (i+a.length) b (foldM i a st)->cT i (a++b) st
 |[],b,i,st,_,h=>h
 |r::a,b,i,st,h1,h2=>by
  rw[zaJ,cT];rw[cT] at h1;refine⟨h1.1,kl a b (i+1) _ h1.2 ?_⟩;rw[foldM,zah,show i+(a.length+1)=i+1+a.length by lia] at h2;exact h2
theorem Cw:∀(a:List Row) (i:Nat) (st:Mm×List Nat),cT i a st->∀j r,a[j]?=some r->(r.2=.oQ\/r.2=.fin)->∃o t e f,(foldM i (a.take j) st).2=o::t/\(foldM i (a.take j) st).1 o=some (.op e f)
 |[],i,st,_,j,r,hj,_=>by simp at hj
 |x::a,i,st,h,0,r,hj,hr=>by
  rw[cT] at h;simp at hj;subst hj;exact h.1 hr
 |x::a,i,st,h,j+1,r,hj,hr=>by
  rw[cT] at h;rw[zdd,foldM];exact Cw a (i+1) _ h.2 j r (by simpa using hj) hr
mutual
theorem UO:∀(s:bG) (rs:List Row),eO s rs->∀(i:Nat) (m:Mm) (op:List Nat),(∀o∈op,o<i)->cT i rs (m,op)
 |.ifs k sg l r a b,rs,h,i,m,op,ho=>by
  rw[eO] at h;rcases h with ⟨ra,n,h1,rfl,rfl⟩ |⟨ra,rb,n,x,h1,h2,rfl⟩
  ·obtain⟨m1,e1,s1,k1⟩:=oF a ra h1 (i+1) (m.set i (.op none none)) (i::op) (fI ho (by lia));have mi:m1 i=some (.op none none):=by rw[k1 i (by lia),Mm.set_same]
   rw[cT];refine⟨fun z=>by simp at z,kl ra _ (i+1) _ (zR a ra h1 (i+1) _ _ (fI ho (by lia))) ?_⟩;show cT _ _ (foldM (i+1) ra (m.set i (.op none none),i::op));rw[e1,cT,cT];exact⟨fun _=>⟨i,op,_,_,rfl,mi⟩,trivial⟩
  ·obtain⟨m1,e1,s1,k1⟩:=oF a ra h1 (i+1) (m.set i (.op none none)) (i::op) (fI ho (by lia));have mi:m1 i=some (.op none none):=by rw[k1 i (by lia),Mm.set_same]
   obtain⟨m2,e2,s2,k2⟩:=oF b rb h2 (i+1+ra.length+1) ((m1.set i (qk (m1 i) (i+1+ra.length))).set (i+1+ra.length) (.back i)) (i::op) (fI ho (by lia));have YI:m2 i=some (.op (some (i+1+ra.length)) none):=by rw[k2 i (by lia),Mm.bO _ _ (by lia),Mm.set_same,mi];rfl
   rw[cT];refine⟨fun z=>by simp at z,kl ra _ (i+1) _ (zR a ra h1 (i+1) _ _ (fI ho (by lia))) ?_⟩;show cT _ _ (foldM (i+1) ra (m.set i (.op none none),i::op));rw[e1,cT];refine⟨fun _=>⟨i,op,_,_,rfl,mi⟩,?_⟩;show cT _ (rb++[(x,.fin)]) ((m1.set i (qk (m1 i) (i+1+ra.length))).set (i+1+ra.length) (.back i),i::op);refine kl rb _ _ _ (zR b rb h2 _ _ _ (fI ho (by lia))) ?_;rw[e2,cT,cT];exact⟨fun _=>⟨i,op,_,_,rfl,YI⟩,trivial⟩
 |.fc k sg l r a,rs,h,i,m,op,ho=>by
  rw[eO] at h;obtain⟨ra,n,h1,rfl⟩:=h;obtain⟨m1,e1,s1,k1⟩:=oF a ra h1 (i+1) (m.set i (.op none none)) (i::op) (fI ho (by lia));have mi:m1 i=some (.op none none):=by rw[k1 i (by lia),Mm.set_same]
  rw[cT];refine⟨fun z=>by simp at z,kl ra _ (i+1) _ (zR a ra h1 (i+1) _ _ (fI ho (by lia))) ?_⟩;show cT _ _ (foldM (i+1) ra (m.set i (.op none none),i::op));rw[e1,cT,cT];exact⟨fun _=>⟨i,op,_,_,rfl,mi⟩,trivial⟩
 |.ask k _,rs,h,i,m,op,_=>by rw[eO] at h;subst h;rw[cT,cT];exact⟨fun z=>by simp at z,trivial⟩
 |.put k _ _,rs,h,i,m,op,_=>by rw[eO] at h;subst h;rw[cT,cT];exact⟨fun z=>by simp at z,trivial⟩
 |.say k _,rs,h,i,m,op,_=>by rw[eO] at h;subst h;rw[cT,cT];exact⟨fun z=>by simp at z,trivial⟩
 |.cg k _ _ _,rs,h,i,m,op,_=>by rw[eO] at h;subst h;rw[cT,cT];exact⟨fun z=>by simp at z,trivial⟩
 |.stop k,rs,h,i,m,op,_=>by rw[eO] at h;subst h;rw[cT,cT];exact⟨fun z=>by simp at z,trivial⟩
theorem zR:∀(b:List bG) (rs:List Row),cH b rs->∀(i:Nat) (m:Mm) (op:List Nat),(∀o∈op,o<i)->cT i rs (m,op)
 |[],rs,h,i,m,op,_=>by rw[cH] at h;subst h;rw[cT];trivial
 |s::r,rs,h,i,m,op,ho=>by
  rw[cH] at h;obtain⟨r1,r2,h1,h2,rfl⟩:=h;obtain⟨m1,e1,s1,k1⟩:=PQ s r1 h1 i m op ho;refine kl r1 r2 i _ (UO s r1 h1 i m op ho) ?_;rw[e1];exact zR r r2 h2 _ _ _ (fun o hx=>by have:=ho o hx;lia)
end
def YJ (R:List Row) (m:Mm) (p:Nat):Prop:=∃x e,m p=some (.op x (some e))/\p<=e/\e<R.length/\∀y,x=some y->y<R.length
def xA (R:List Row) (m:Mm) (p:Nat):Prop:=∀k w,R[p]?=some (k,w)->
 (w=.oQ->∃o x e,m p=some (.back o)/\m o=some (.op x (some e))/\p<=e/\e<R.length)/\
 (w=.fin->∃o k' w',m p=some (.back o)/\R[o]?=some (k',w')/\(w'=.ifs\/w'=.fc))/\
 (w=.ifs\/w=.fc->YJ R m p)
theorem jy{R:List Row}{m:Mm}{p:Nat}{k:Int}{w:Wd}(h:R[p]?=some (k,w))(h1:w≠.oQ)(h2:w≠.fin)(h3:w≠.ifs)(h4:w≠.fc):xA R m p:=fun k' w' e=>by
 rw[h] at e;cases e;exact⟨fun z=>zzb z h1,fun z=>zzb z h2,fun z=>z.elim (fun z=>zzb z h3) (fun z=>zzb z h4)⟩
theorem rN{R:List Row}{m:Mm}{p e:Nat}{x:Option Nat}{k:Int}{w:Wd}(h:R[p]?=some (k,w))(hw:w=.ifs\/w=.fc)(hm:m p=some (.op x (some e)))(he:p<=e)(le:e<R.length)(lx:∀y,x=some y->y<R.length):xA R m p:=fun k' w' q=>by
 rw[h] at q;cases q;exact⟨fun z=>(by rcases hw with rfl |rfl<;>cases z),fun z=>(by rcases hw with rfl |rfl<;>cases z),fun _=>⟨x,e,hm,he,le,lx⟩⟩
theorem uX{R:List Row}{m:Mm}{p o:Nat}{k k':Int}{w':Wd}(h:R[p]?=some (k,.fin))(hm:m p=some (.back o))(ho:R[o]?=some (k',w'))(hw:w'=.ifs\/w'=.fc):xA R m p:=fun k2 w2 q=>by
 rw[h] at q;cases q;exact⟨fun z=>(by cases z),fun _=>⟨o,k',w',hm,ho,hw⟩,fun z=>(by rcases z with z |z<;>cases z)⟩
theorem HP{R:List Row}{m:Mm}{p o e:Nat}{x:Option Nat}{k:Int}(h:R[p]?=some (k,.oQ))(hm:m p=some (.back o))(ho:m o=some (.op x (some e)))(h1:p<=e)(h2:e<R.length):xA R m p:=fun k2 w2 q=>by
 rw[h] at q;cases q;exact⟨fun _=>⟨o,x,e,hm,ho,h1,h2⟩,fun z=>(by cases z),fun z=>(by rcases z with z |z<;>cases z)⟩
mutual
theorem NT{R:List Row}{m:Mm}:∀(s:bG) {i:Nat} {rs:List Row},dO m s i rs->At R i rs->∀j,j<rs.length->xA R m (i+j)
 |.ifs k sg l r a b,i,rs,h,ha,j,hj=>by
  rw[dO] at h;rcases h with ⟨ra,n,h1,rfl,rfl,m1,m2⟩ |⟨ra,rb,n,x,h1,h2,rfl,m1,m2,m3⟩
  ·have r0:=ha.head;have UP:=ha.tail.left;have r2:=ha.tail.right.head;have l2:=(ny r2).1;simp only[zah,zae,zaA] at hj;rcases zcx j with rfl |jp
   ·exact rN r0 (.inl rfl) m1 (by lia) l2 (fun _ z=>by cases z)
   ·by_cases hz:j<ra.length+1
    ·have:=qm a h1 UP (j-1) (by lia);rw[show i+1+(j-1)=i+j by lia] at this;exact this
    ·rw[show i+j=i+1+ra.length by lia];exact uX r2 m2 r0 (.inl rfl)
  ·have r0:=ha.head;have UP:=ha.tail.left;have r2:=ha.tail.right.head;have rb':=ha.tail.right.tail.left;have r3:=ha.tail.right.tail.right.head;rw[show i+1+ra.length+1+rb.length=i+2+ra.length+rb.length by lia] at r3;rw[show i+1+ra.length+1=i+2+ra.length by lia] at rb';have l2:=(ny r2).1;have l3:=(ny r3).1;simp only[zah,zae,zaA] at hj;rcases zcx j with rfl |jp
   ·exact rN r0 (.inl rfl) m1 (by lia) l3 (fun _ z=>by cases z;exact l2)
   ·by_cases hz:j<ra.length+1
    ·have:=qm a h1 UP (j-1) (by lia);rw[show i+1+(j-1)=i+j by lia] at this;exact this
    ·by_cases hy:j=ra.length+1
     ·rw[show i+j=i+1+ra.length by lia];exact HP r2 m2 m1 (by lia) l3
     ·by_cases hx:j<ra.length+2+rb.length
      ·have:=qm b h2 rb' (j-2-ra.length) (by lia);rw[show i+2+ra.length+(j-2-ra.length)=i+j by lia] at this;exact this
      ·rw[show i+j=i+2+ra.length+rb.length by lia];exact uX r3 m3 r0 (.inl rfl)
 |.fc k sg l r a,i,rs,h,ha,j,hj=>by
  rw[dO] at h;obtain⟨ra,n,h1,rfl,m1,m2⟩:=h;have r0:=ha.head;have UP:=ha.tail.left;have r2:=ha.tail.right.head;have l2:=(ny r2).1;simp only[zah,zae,zaA] at hj;rcases zcx j with rfl |jp
  ·exact rN r0 (.inr rfl) m1 (by lia) l2 (fun _ z=>by cases z)
  ·by_cases hz:j<ra.length+1
   ·have:=qm a h1 UP (j-1) (by lia);rw[show i+1+(j-1)=i+j by lia] at this;exact this
   ·rw[show i+j=i+1+ra.length by lia];exact uX r2 m2 r0 (.inr rfl)
 |.ask k _,i,rs,h,ha,j,hj=>by rw[dO] at h;subst h;have:=ha.head;simp at hj;subst hj;exact jy this (by simp) (by simp) (by simp) (by simp)
 |.put k _ _,i,rs,h,ha,j,hj=>by rw[dO] at h;subst h;have:=ha.head;simp at hj;subst hj;exact jy this (by simp) (by simp) (by simp) (by simp)
 |.say k _,i,rs,h,ha,j,hj=>by rw[dO] at h;subst h;have:=ha.head;simp at hj;subst hj;exact jy this (by simp) (by simp) (by simp) (by simp)
 |.cg k _ _ _,i,rs,h,ha,j,hj=>by rw[dO] at h;subst h;have:=ha.head;simp at hj;subst hj;exact jy this (by simp) (by simp) (by simp) (by simp)
 |.stop k,i,rs,h,ha,j,hj=>by rw[dO] at h;subst h;have:=ha.head;simp at hj;subst hj;exact jy this (by simp) (by simp) (by simp) (by simp)
theorem qm{R:List Row}{m:Mm}:∀(b:List bG) {i:Nat} {rs:List Row},ic m b i rs->At R i rs->∀j,j<rs.length->xA R m (i+j)
 |[],i,rs,h,ha,j,hj=>by rw[ic] at h;subst h;simp at hj
 |s::r,i,rs,h,ha,j,hj=>by
  rw[ic] at h;obtain⟨r1,r2,h1,h2,rfl⟩:=h;rw[zae] at hj;by_cases hz:j<r1.length
  ·exact NT s h1 ha.left j hz
  ·have:=qm r h2 ha.right (j-r1.length) (by lia);rw[show i+r1.length+(j-r1.length)=i+j by lia] at this;exact this
end
theorem zS{b:List bG}{R:List Row}(h:cH b R)(p:Nat)(hp:p<R.length):xA R (oO R) p:=by
 obtain⟨m1,e,s,_⟩:=oF b R h 0 (fun _=>none) [] (by simp);have em:oO R=m1:=by unfold oO;rw[e]
 rw[em];have:=qm b s (R:=R) (fun j _=>by rw[zbx]) p hp;rw[zbx] at this;exact this
end PG
namespace PG
open PM (W Tr)
theorem tP{α:Type}(d:α){l:List α}{i:Int}(h0:0<=i)(h1:i<l.length):pick d l i∈l:=by
 unfold pick;have lt:i.toNat<l.length:=by lia
 rw[zap,zac lt];exact zau lt
section
variable{nm:W->Prop}{ex:Tr->Prop}{sg:W->Prop}
mutual
theorem NU:∀(s x:bG),tJ nm ex sg s->x∈nA s->tJ nm ex sg x
 |.ifs k s l r a b,x,h,m=>by
  rw[nA] at m;rcases zag.mp m with rfl |m
  ·exact h
  ·rw[tJ] at h;rcases zaz.mp m with m |m
   ·exact jg a x h.2.2.2.1 m
   ·exact jg b x h.2.2.2.2 m
 |.fc k s l r a,x,h,m=>by
  rw[nA] at m;rcases zag.mp m with rfl |m
  ·exact h
  ·rw[tJ] at h;exact jg a x h.2.2.2 m
 |.ask k b,x,h,m=>by simp only[nA,zar] at m;subst m;exact h
 |.put k b e,x,h,m=>by simp only[nA,zar] at m;subst m;exact h
 |.say k e,x,h,m=>by simp only[nA,zar] at m;subst m;exact h
 |.cg k s l r,x,h,m=>by simp only[nA,zar] at m;subst m;exact h
 |.stop k,x,h,m=>by simp only[nA,zar] at m;subst m;exact h
theorem jg:∀(b:List bG) (x:bG),xw nm ex sg b->x∈az b->tJ nm ex sg x
 |[],x,_,m=>by simp[az] at m
 |s::r,x,h,m=>by
  rw[az] at m;rw[xw] at h;rcases zaz.mp m with m |m
  ·exact NU s x h.1 m
  ·exact jg r x h.2 m
end
end
end PG
namespace PG
open PM (W Tr)
def jz (bs:List gb):Tr->Prop
 |.num n=>0<=n/\n<1000
 |.box x=>x∈bs.map (·.name)
 |.bin o l r=>o∈([[43],[45],[42]]:List W)/\jz bs l/\jz bs r
theorem xB{bs:List gb}(sc:List Int)(q:Nat)(h:bs≠[]):(pick ⟨[],0,0⟩ bs (next sc q%bs.length)).name∈bs.map (·.name):=by
 have hp:0<bs.length:=zbg.mpr h;exact zaF.mpr ⟨_,tP _ (zaP _ (by lia)) (zaM _ (by lia)),rfl⟩
theorem Gj(sc:List Int)(p q:Nat):0<=next sc p%pick 1 [3,12,1000] (next sc q%3)/\next sc p%pick 1 [3,12,1000] (next sc q%3)<1000:=by
 have m:=tP (1:Int) (l:=[3,12,1000]) (i:=next sc q%3) (zaP _ (by decide)) (zaM _ (by decide));generalize pick (1:Int) [3,12,1000] (next sc q%3)=z at m;have hz:0<z/\z<=1000:=by
  simp only[zag,zcH,or_false] at m;rcases m with rfl |rfl |rfl<;>decide
 have h1:=zaP (next sc p) (b:=z) (by lia);have h2:=zaM (next sc p) (b:=z) hz.1;lia
theorem xC(sc:List Int)(bs:List gb):∀(d p:Nat),jz bs (cD sc bs d p).1
 |0,p=>by
  unfold cD;simp only;split
  ·rename_i h;rw[jz];exact xB sc _ h.1
  ·rw[jz];exact Gj sc _ _
 |d+1,p=>by
  unfold cD;simp only;split
  ·rename_i h;rw[jz];have b:=jN sc p;refine⟨tP _ (zaP _ (by decide)) (by show next sc p%7<3;exact h),xC sc bs d _,xC sc bs d _⟩
  ·split
   ·rename_i h;rw[jz];exact xB sc _ h.1
   ·rw[jz];exact Gj sc _ _
theorem KJ(sc:List Int)(many p:Nat):xw (·∈(fj sc p).map (·.name)) (fun e=>jz (fj sc p) e/\oE e<=2) (·∈BO) (b8 sc many p).1.body:=
 xy sc many p (fun h q=>xB sc q h) (fun d q hd=>⟨xC sc _ d q,zaC (tK _ _ _ _) hd⟩) (fun q=>tP _ (zaP _ (by decide)) (zaM _ (by decide)))
theorem zU(sc:List Int)(lU:Int):∀(n k p:Nat),∀x∈(bI sc lU n k p).1,2<=x.size/\x.size<=10/\0<=x.first/\x.first<x.size
 |0,k,p,x,h=>by simp[bI] at h
 |n+1,k,p,x,h=>by
  rw[bI] at h;simp only[zag] at h;rcases h with rfl |h
  ·simp only;have h3:=zaP (next sc (p+1)) (b:=2+next sc p%3) (by lia);have h4:=zaM (next sc (p+1)) (b:=2+next sc p%3) (by lia);lia
  ·exact zU sc lU n (k+1) (p+2) x h
theorem yR(sc:List Int)(p:Nat):∀x∈fj sc p,2<=x.size/\x.size<=10/\0<=x.first/\x.first<x.size:=zU sc _ _ _ _
theorem HQ(sc:List Int)(p:Nat):(fj sc p).length<=3:=by
 unfold fj;have b:=jN sc (p+1);rw[(jZ sc (next sc p%4) (next sc (p+1)%4).toNat 0 (p+2)).1];lia
end PG
namespace PG
theorem KL{R:List Row}{b:List bG}(h:cH b R):to R (oO R) 0=bj b 0:=by
 obtain⟨m1,e,s,_⟩:=oF b R h 0 (fun _=>none) [] (by simp);have em:oO R=m1:=by unfold oO;rw[e]
 rw[em,ql b s (fun j _=>by rw[zbx]),zbx,Ew (zaf _)]
def nC (r:dM):Prop:=0<r.2.2.length/\(r.2.1=.ifs\/r.2.1=.fc->1<r.2.2.length)
mutual
theorem HR:∀(s:bG) (x:Int),∀r∈dE s x,nC r
 |.ifs k sg l r a b,x,y,h=>by
  rw[dE] at h;simp only[zag,zaz] at h;rcases h with rfl |h |h
  ·simp[nC]
  ·exact jd a x y h
  ·exact jd b x y h
 |.fc k sg l r a,x,y,h=>by
  rw[dE] at h;simp only[zag] at h;rcases h with rfl |h
  ·simp[nC]
  ·exact jd a k y h
 |.ask k _,x,y,h=>by simp[dE] at h;subst h;simp[nC]
 |.put k _ _,x,y,h=>by simp[dE] at h;subst h;simp[nC]
 |.say k _,x,y,h=>by simp[dE] at h;subst h;simp[nC]
 |.cg k _ _ _,x,y,h=>by simp[dE] at h;subst h;simp[nC]
 |.stop k,x,y,h=>by simp[dE] at h;subst h;simp[nC]
theorem jd:∀(b:List bG) (x:Int),∀r∈aQ b x,nC r
 |[],x,y,h=>by simp[aQ] at h
 |s::r,x,y,h=>by
  rw[aQ,zaz] at h;rcases h with h |h
  ·exact HR s _ y h
  ·exact jd r x y h
end
end PG
namespace PG
theorem pA:∀(b:List bG) (x:Int),bj b x=x\/∃t∈az b,t.row=bj b x
 |[],x=>.inl rfl
 |s::r,x=>.inr ⟨s,by rw[az];exact zbT _ (by cases s<;>simp[nA]),rfl⟩
mutual
theorem KN:∀(s:bG) (x:Int),∀r∈dE s x,∀w∈r.2.2,w=0\/w=x\/∃t∈nA s,t.row=w
 |.ifs k sg l r a b,x,y,h,w,hw=>by
  rw[dE] at h;simp only[zag,zaz] at h;rw[nA];rcases h with rfl |h |h
  ·simp only[zag,zcH,or_false] at hw;rcases hw with rfl |rfl
   ·rcases pA a x with e |⟨t,ht,e⟩
    ·exact .inr (.inl e)
    ·exact .inr (.inr ⟨t,by simp[ht],e⟩)
   ·rcases pA b x with e |⟨t,ht,e⟩
    ·exact .inr (.inl e)
    ·exact .inr (.inr ⟨t,by simp[ht],e⟩)
  ·rcases pB a x y h w hw with e |e |⟨t,ht,e⟩
   ·exact .inl e
   ·exact .inr (.inl e)
   ·exact .inr (.inr ⟨t,by simp[ht],e⟩)
  ·rcases pB b x y h w hw with e |e |⟨t,ht,e⟩
   ·exact .inl e
   ·exact .inr (.inl e)
   ·exact .inr (.inr ⟨t,by simp[ht],e⟩)
 |.fc k sg l r a,x,y,h,w,hw=>by
  rw[dE] at h;simp only[zag] at h;rw[nA];have self:w=k->∃t∈(bG.fc k sg l r a::az a),t.row=w:=fun e=>⟨_,zaq ..,e.symm⟩
  rcases h with rfl |h
  ·simp only[zag,zcH,or_false] at hw;rcases hw with rfl |rfl
   ·rcases pA a k with e |⟨t,ht,e⟩
    ·exact .inr (.inr (self e))
    ·exact .inr (.inr ⟨t,by simp[ht],e⟩)
   ·exact .inr (.inl rfl)
  ·rcases pB a k y h w hw with e |e |⟨t,ht,e⟩
   ·exact .inl e
   ·exact .inr (.inr (self e))
   ·exact .inr (.inr ⟨t,by simp[ht],e⟩)
 |.ask k _,x,y,h,w,hw=>by simp[dE] at h;subst h;simp at hw;exact .inr (.inl hw)
 |.put k _ _,x,y,h,w,hw=>by simp[dE] at h;subst h;simp at hw;exact .inr (.inl hw)
 |.say k _,x,y,h,w,hw=>by simp[dE] at h;subst h;simp at hw;exact .inr (.inl hw)
 |.cg k _ _ _,x,y,h,w,hw=>by simp[dE] at h;subst h;simp at hw;exact .inr (.inl hw)
 |.stop k,x,y,h,w,hw=>by simp[dE] at h;subst h;simp at hw;exact .inl hw
theorem pB:∀(b:List bG) (x:Int),∀r∈aQ b x,∀w∈r.2.2,w=0\/w=x\/∃t∈az b,t.row=w
 |[],x,y,h,_,_=>by simp[aQ] at h
 |s::r,x,y,h,w,hw=>by
  rw[aQ,zaz] at h;rw[az];rcases h with h |h
  ·rcases KN s _ y h w hw with e |e |⟨t,ht,e⟩
   ·exact .inl e
   ·rcases pA r x with e2 |⟨t,ht,e2⟩
    ·exact .inr (.inl (e.trans e2))
    ·exact .inr (.inr ⟨t,zaL _ ht,e2.trans e.symm⟩)
   ·exact .inr (.inr ⟨t,zbT _ ht,e⟩)
  ·rcases pB r x y h w hw with e |e |⟨t,ht,e⟩
   ·exact .inl e
   ·exact .inr (.inl e)
   ·exact .inr (.inr ⟨t,zaL _ ht,e⟩)
end
def KO (b:List bG) (row:Int):Nat:=(az b).findIdx (fun s=>s.row==row)
theorem Gk{b:List bG}(pw:(az b).Pairwise (fun a b=>a.row<b.row))(i:Nat)(hi:i<(az b).length):KO b (az b)[i].row=i:=by
 unfold KO;rw[List.findIdx_eq hi];refine⟨by simp,fun j hj=>?_⟩;have:=zbJ.mp pw j i (by lia) hi hj;simp only[beq_eq_false_iff_ne,ne_eq];lia
section
variable(ask:Int->Bool)(step:Int->List Int->Int->Option (Int×List Int)×Option Int)
def take1 (a:Bool) (UQ:List Int):Option (Int×List Int):=if a then (match UQ with |[]=>none |f::r=>some (f,r)) else some (0,UQ)
end
end PG
namespace L2
open PG
open PySem
def gg:Wd->Str
 |.ask=>"ask" |.put=>"put" |.say=>"say" |.cg=>"must" |.stop=>"stop" |.ifs=>"if" |.fc=>"while" |.oQ=>"else" |.fin=>"end"
mutual
def dH:bG->Dp
 |.ask k b=>.tup [.str "ask",.int k,.str (S b)]
 |.put k b e=>.tup [.str "put",.int k,.str (S b),my e]
 |.say k e=>.tup [.str "say",.int k,my e]
 |.cg k sg l r=>.tup [.str "must",.int k,.str (S sg),my l,my r]
 |.stop k=>.tup [.str "stop",.int k]
 |.ifs k sg l r a b=>.tup [.str "if",.int k,.str (S sg),my l,my r,.lst (AS a),.lst (AS b)]
 |.fc k sg l r a=>.tup [.str "while",.int k,.str (S sg),my l,my r,.lst (AS a)]
def AS:List bG->List Dp
 |[]=>[]
 |s::r=>dH s::AS r
end
theorem fJ:∀l:List bG,AS l=l.map dH
 |[]=>rfl
 |s::r=>by rw[AS,fJ r];rfl
def iD (b:gb):Dp:=.tup [.str (S b.name),.int b.size,.int b.first]
def je (p:PG.Prog):Dp:=.tup [.lst (p.ay.map iD),.lst (p.body.map dH)]
def jU (r:PG.Row):Dp:=.lst [.int r.1,.str (gg r.2)]
def eR:Tg->Dp
 |.row k=>.tup [.str "row",.int k]
 |.side k b=>.tup [.str "side",.int k,.bl b]
 |.cg k=>.tup [.str "must",.int k]
 |.fin=>.tup [.str "end"]
def ba (O:zdk->Prop) (H H':Hp):Prop:=∀b o,¬O b->H b=some o->H' b=some o
def Fix (K:zaa) (O:zdk->Prop) (H:Hp) (d:Dp) (v:V):Prop:=∀H',ba O H H'->Rep K H' d v
def eI (K:zaa) (O:zdk->Prop) (H:Hp) (ds:List Dp) (vs:List V):Prop:=∀H',ba O H H'->aN K H' ds vs
section
variable{K:zaa}{O O':zdk->Prop}{H H1 H2:Hp}{d:Dp}{ds:List Dp}{v:V}{vs:List V}{p:zdk}{o:HO}
theorem ba.refl:ba O H H:=fun _ _ _ e=>e
theorem ba.trans(a:ba O H H1)(b:ba O H1 H2):ba O H H2:=fun c u n e=>b c u n (a c u n e)
theorem ba.of(s:aq H H1):ba O H H1:=fun b u _ e=>s b u e
theorem ba.mono(a:ba O H H1)(i:∀b,O b->O' b):ba O' H H1:=fun b u n e=>a b u (fun z=>n (i b z)) e
theorem ba.one(a:aZ p H H1)(hp:O p):ba O H H1:=fun b u n e=>a b u (fun z=>n (by rw[z];exact hp)) e
theorem ba.put(a:ba O H H1)(hp:O p)(u:HO):ba O H (upd H1 p u):=fun b w n e=>by rw[aw (fun z=>n (by rw[z];exact hp))];exact a b w n e
theorem Fix.up(f:Fix K O H d v)(u:ba O H H1):Fix K O H1 d v:=fun H2 u2=>f H2 (u.trans u2)
theorem eI.up(f:eI K O H ds vs)(u:ba O H H1):eI K O H1 ds vs:=fun H2 u2=>f H2 (u.trans u2)
theorem Fix.rep(f:Fix K O H d v):Rep K H d v:=f H .refl
theorem eI.HS(f:eI K O H ds vs):aN K H ds vs:=f H .refl
theorem Fix.sub(f:Fix K O H d v)(i:∀b,O' b->O b):Fix K O' H d v:=fun H2 u=>f H2 (u.mono i)
theorem eI.sub(f:eI K O H ds vs)(i:∀b,O' b->O b):eI K O' H ds vs:=fun H2 u=>f H2 (u.mono i)
theorem Fix.apart(f:Fix K O H d v)(hp:H p=none):Fix K (fun b=>O b\/b=p) (upd H p o) d v:=fun H2 u=>f H2 fun b w n e=>by
 have np:b≠p:=ai e hp;exact u b w (fun z=>z.elim n np) (by rw[aw np];exact e)
theorem eI.apart(f:eI K O H ds vs)(hp:H p=none):eI K (fun b=>O b\/b=p) (upd H p o) ds vs:=fun H2 u=>f H2 fun b w n e=>by
 have np:b≠p:=ai e hp;exact u b w (fun z=>z.elim n np) (by rw[aw np];exact e)
theorem eI.nil:eI K O H [] []:=fun _ _=>.nil
theorem eI.cons(a:Fix K O H d v)(b:eI K O H ds vs):eI K O H (d::ds) (v::vs):=fun H2 u=>.cons (a H2 u) (b H2 u)
theorem eI.snoc(b:eI K O H ds vs)(a:Fix K O H d v):eI K O H (ds++[d]) (vs++[v]):=fun H2 u=>(b H2 u).append (.cons (a H2 u) .nil)
theorem Fix.int{i:Int}:Fix K O H (.int i) (.int i):=fun _ _=>Rep.bt.mpr rfl
theorem Fix.str{x:Str}:Fix K O H (.str x) (.str x):=fun _ _=>Rep.bA.mpr rfl
theorem Fix.bl{x:Bool}:Fix K O H (.bl x) (.bl x):=fun _ _=>Rep.lQ.mpr rfl
theorem Fix.tup(h:H p=some (.tup vs))(n:¬O p)(f:eI K O H ds vs):Fix K O H (.tup ds) (.ref p):=fun H2 u=>Rep.bg.mpr ⟨p,vs,rfl,.of (u p _ n h),f H2 u⟩
theorem Fix.lst(h:H p=some (.lst vs))(n:¬O p)(f:eI K O H ds vs):Fix K O H (.lst ds) (.ref p):=fun H2 u=>Rep.bL.mpr ⟨p,vs,rfl,.of (u p _ n h),f H2 u⟩
end
structure i6(K:zaa)(H:Hp)(D S:zdk)(sc:List Int)(p:Nat):Prop where
 bF:H D=some (.lst [.ref S,.int p])
 fY:H S=some (.lst (sc.map .int))
 ne:S≠D
 len:sc.length<=63
end L2
namespace L2
open PG
open PySem
section
variable(K:zaa)
def uY:Sp:=fun vs H Q _=>∃(D S:zdk) (sc:List Int) (p:Nat),vs=[.ref D]/\i6 K H D S sc p/\p<=100000/\∀H',aZ D H H'->i6 K H' D S sc (p+1)->Q (.int (PG.next sc p)) H'
end
theorem i6.same{K:zaa}{H H':Hp}{D S:zdk}{sc:List Int}{p:Nat}(d:i6 K H D S sc p)(s:aq H H'):i6 K H' D S sc p:=⟨s _ _ d.bF,s _ _ d.fY,d.ne,d.len⟩
theorem Gm{a:Option V}{r:St}{H:Hp}{Q:VK}:(gm 13 (a::r) H Q)=(gm 12 r H Q):=rfl
theorem Gn{a:Option V}{r:St}{H:Hp}{Q:VK}:(gm 14 (a::r) H Q)=(gm 13 r H Q):=rfl
def jV (K:zaa) (O:zdk->Prop) (H:Hp) (B:zdk) (bs:List gb):Prop:=Fix K O H (.lst (bs.map iD)) (.ref B)/\bs.length<=10
def Own (K:zaa) (H0 H:Hp) (d:Dp) (v:V):Prop:=∀O:zdk->Prop,(∀b,O b->H0 b≠none)->Fix K O H d v
section
variable(K:zaa)
def xD (n:Nat):Sp:=fun vs H Q _=>∃(D S B:zdk) (sc:List Int) (p d:Nat) (bs:List gb),vs=[.ref D,.ref B,.int d]/\d<n/\i6 K H D S sc p/\p+4*2 ^ d<=100000/\jV K (·=D) H B bs/\
 ∀v H',aZ D H H'->i6 K H' D S sc (cD sc bs d p).2->Own K H H' (my (cD sc bs d p).1) v->Q v H'
def Ez:Sp:=fun vs H Q _=>∃(D S:zdk) (sc:List Int) (p:Nat),vs=[.ref D]/\i6 K H D S sc p/\p<=90000/\
 ∀B H',aZ D H H'->i6 K H' D S sc (bI sc (PG.next sc p%4) (PG.next sc (p+1)%4).toNat 0 (p+2)).2->H B=none->
  Own K H H' (.lst ((bI sc (PG.next sc p%4) (PG.next sc (p+1)%4).toNat 0 (p+2)).1.map iD)) (.ref B)->Q (.ref B) H'
def EA:Sp:=fun vs H Q _=>∃(D S B:zdk) (sc:List Int) (p:Nat) (k:Int) (bs:List gb),vs=[.ref D,.ref B,.int k]/\i6 K H D S sc p/\p<=90000/\jV K (·=D) H B bs/\
 ∀v H',aZ D H H'->i6 K H' D S sc (bR sc bs k p).2->Own K H H' (dH (bR sc bs k p).1) v->Q v H'
end
section
variable{K:zaa}{O:zdk->Prop}{H0 H H1:Hp}{d:Dp}{v:V}{D B:zdk}{bs:List gb}
theorem Own.up(f:Own K H0 H d v)(u:aZ D H H1)(hD:H0 D≠none):Own K H0 H1 d v:=fun O hO=>by
 have:=f (fun b=>O b\/b=D) (fun b hb=>hb.elim (hO b) (fun e=>e▸hD));exact(this.up (ba.one u (.inr rfl))).sub fun b hb=>.inl hb
theorem Own.back{H00:Hp}(f:Own K H0 H d v)(h:∀b,H00 b≠none->H0 b≠none):Own K H00 H d v:=fun O hO=>f O fun b hb=>h b (hO b hb)
theorem jV.up(f:jV K (·=D) H B bs)(u:aZ D H H1):jV K (·=D) H1 B bs:=⟨f.1.up (ba.one u rfl),f.2⟩
theorem jV.same(f:jV K (·=D) H B bs)(s:aq H H1):jV K (·=D) H1 B bs:=⟨f.1.up (.of s),f.2⟩
theorem aZ.qF(u:aZ D H H1)(hD:H1 D≠none):∀b,H b≠none->H1 b≠none:=fun b hb=>by
 by_cases e:b=D
 ·rw[e];exact hD
 ·cases z:H b with
  |none=>exact zzb z hb
  |some o=>rw[u b o e z];simp
theorem jV.list(f:jV K O H B bs):∃xs,i7 K H B xs/\xs.length=bs.length/\∀(i:Nat) (b:gb),bs[i]?=some b->∃a ys,xs[i]?=some (.ref a)/\bQ K H a ys/\ys=[.str (S b.name),.int b.size,.int b.first]:=by
 have r:=f.1.rep;rw[Rep.bL] at r;obtain⟨a,xs,e,q,rs⟩:=r;cases e;refine⟨xs,q,by rw[rs.length,zad],fun i b hb=>?_⟩;obtain⟨v,hv,rv⟩:=rs.get (i:=i) (d:=iD b) (by rw[zam,hb];rfl);unfold iD at rv;rw[Rep.bg] at rv;obtain⟨a2,ys,rfl,q2,r2⟩:=rv;refine⟨a2,ys,hv,q2,?_⟩;rw[aN.aI] at r2;obtain⟨v1,t1,rfl,e1,r2⟩:=r2;rw[aN.aI] at r2;obtain⟨v2,t2,rfl,e2,r2⟩:=r2;rw[aN.aI] at r2;obtain⟨v3,t3,rfl,e3,r2⟩:=r2;rw[aN.br] at r2;subst r2;rw[Rep.bA] at e1;rw[Rep.bt] at e2 e3;subst e1 e2 e3;rfl
end
def mB (K:zaa) (H0 H:Hp) (ds:List Dp) (vs:List V):Prop:=∀O:zdk->Prop,(∀b,O b->H0 b≠none)->eI K O H ds vs
section
variable{K:zaa}{H0 H H1:Hp}{d:Dp}{v:V}{ds:List Dp}{vs:List V}{D p:zdk}
theorem mB.nil:mB K H0 H [] []:=fun _ _=>eI.nil
theorem mB.cons(a:Own K H0 H d v)(b:mB K H0 H ds vs):mB K H0 H (d::ds) (v::vs):=fun O h=>eI.cons (a O h) (b O h)
theorem Own.int{i:Int}:Own K H0 H (.int i) (.int i):=fun _ _=>Fix.int
theorem Own.str{x:Str}:Own K H0 H (.str x) (.str x):=fun _ _=>Fix.str
theorem mB.same(f:mB K H0 H ds vs)(s:aq H H1):mB K H0 H1 ds vs:=fun O hO=>(f O hO).up (.of s)
theorem j0(hp:H p=none)(qF:∀b,H0 b≠none->H b≠none)(f:mB K H0 H ds vs):Own K H0 (upd H p (.tup vs)) (.tup ds) (.ref p):=fun O hO=>by
 have np:¬O p:=fun z=>qF p (hO p z) hp;exact Fix.tup ae np ((f.same (aq.new hp _)) O hO)
end
theorem jV.pick{K:zaa}{O:zdk->Prop}{H:Hp}{B:zdk}{bs:List gb}(f:jV K O H B bs){i:Int}(h0:0<=i)(h1:i<bs.length){Q:VK}(q:Q (.str (S (PG.pick ⟨[],0,0⟩ bs i).name)) H) :
 AF K (.ref B) (.int i) H (fun x H1=>Ee K x (.int 0) H1 Q):=by
 obtain⟨xs,hx,_,get⟩:=f.list;have lt:i.toNat<bs.length:=by lia
 have e:bs[i.toNat]?=some (PG.pick ⟨[],0,0⟩ bs i):=by
  unfold PG.pick;rw[zap,zac lt];rfl
 obtain⟨a,ys,hy,q2,rfl⟩:=get _ _ e;have ei:i=((i.toNat:Nat):Int):=by lia
 refine bz hx (v:=.ref a) (by rw[ei];exact au hy) (aG q2 (v:=.str (S (PG.pick ⟨[],0,0⟩ bs i).name)) (au (j:=0) rfl) q)
theorem mB.up{K:zaa}{H0 H H1:Hp}{ds:List Dp}{vs:List V}{D:zdk}(f:mB K H0 H ds vs)(u:aZ D H H1)(hD:H0 D≠none):mB K H0 H1 ds vs:=fun O hO=>by
 have:=f (fun b=>O b\/b=D) (fun b hb=>hb.elim (hO b) (fun e=>e▸hD));exact(this.up (ba.one u (.inr rfl))).sub fun b hb=>.inl hb
theorem mB.snoc{K:zaa}{H0 H:Hp}{d:Dp}{v:V}{ds:List Dp}{vs:List V}(b:mB K H0 H ds vs)(a:Own K H0 H d v):mB K H0 H (ds++[d]) (vs++[v]):=fun O h=>eI.snoc (b O h) (a O h)
theorem RB{K:zaa}{H0 H:Hp}{ds:List Dp}{vs xs ys:List V}{B:zdk}(h:H B=some (.lst xs))(f:mB K H0 H ds vs)(hB:H0 B≠none):mB K H0 (upd H B (.lst ys)) ds vs:=f.up ((aZ.refl B H).put _) hB
def tQ:Nat->Str
 |0=>"all"
 |1=>"if"
 |2=>"else"
 |_=>"while"
structure fk(K:zaa)(Oo:zdk->Prop)(H:Hp)(f:PG.Frame)(a b:zdk)(hd fi:V)(xs:List V):Prop where
 fr:H a=some (.lst [.str (tQ f.kind),.ref b,hd,fi])
 bd:H b=some (.lst xs)
 ok:eI K Oo H (f.body.map dH) xs
 HU:f.kind≠0->∃c ys,hd=.ref c/\H c=some (.tup ys)/\¬Oo c/\eI K Oo H [.str (if f.kind=3 then "while" else "if"),.int f.k,.str (S f.sg),my f.l,my f.r] ys
 KP:f.kind=2->Fix K Oo H (.lst (f.first.map dH)) fi
 len:xs.length=f.body.length
abbrev yI:=PG.Frame×zdk×zdk
def iE (D P R:zdk) (dq:List yI):List zdk:=D::P::R::dq.flatMap fun x=>[x.2.1,x.2.2]
def O (D P R:zdk) (dq:List yI) (E:List zdk):zdk->Prop:=fun b=>b∈iE D P R dq\/b∈E
structure mC(K:zaa)(H:Hp)(D S:zdk)(sc:List Int)(p:Nat)(B:zdk)(bs:List gb)(P R:zdk)(dq:List yI)(rows:List PG.Row)(E:List zdk):Prop where
 bF:i6 K H D S sc p
 box:Fix K (O D P R dq E) H (.lst (bs.map iD)) (.ref B)
 uZ:bs.length<=10
 aX:H P=some (.lst (dq.reverse.map fun x=>.ref x.2.1))
 frames:∀x∈dq,∃hd fi xs,fk K (O D P R dq E) H x.1 x.2.1 x.2.2 hd fi xs
 rows:∃yJ,H R=some (.lst yJ)/\eI K (O D P R dq E) H (rows.map jU) yJ/\yJ.length=rows.length
 nd:(iE D P R dq).Nodup
 nS:S ∉ iE D P R dq
section
variable{K:zaa}{H H':Hp}{D S B P R:zdk}{sc:List Int}{p p':Nat}{bs:List gb}{dq:List yI}{rows:List PG.Row}{E E':List zdk}
theorem fk.up{Oo:zdk->Prop}{f:PG.Frame}{a b:zdk}{hd fi:V}{xs:List V}(x:fk K Oo H f a b hd fi xs)(u:ba Oo H H')(ha:H' a=H a)(hb:H' b=H b):fk K Oo H' f a b hd fi xs:=
 ⟨ha.trans x.fr,hb.trans x.bd,x.ok.up u,fun z=>let ⟨c,ys,e,h,n,g⟩:=x.HU z;⟨c,ys,e,u _ _ n h,n,g.up u⟩,fun z=>(x.KP z).up u,x.len⟩
theorem fk.sub{O1 O2:zdk->Prop}{f:PG.Frame}{a b:zdk}{hd fi:V}{xs:List V}(x:fk K O1 H f a b hd fi xs)(i:∀c,O2 c->O1 c):fk K O2 H f a b hd fi xs:=
 ⟨x.fr,x.bd,x.ok.sub i,fun z=>let ⟨c,ys,e,h,n,g⟩:=x.HU z;⟨c,ys,e,h,fun w=>n (i c w),g.sub i⟩,fun z=>(x.KP z).sub i,x.len⟩
theorem fk.apart{O1:zdk->Prop}{f:PG.Frame}{a b q:zdk}{hd fi:V}{xs:List V}{o:HO}(x:fk K O1 H f a b hd fi xs)(hq:H q=none):fk K (fun c=>O1 c\/c=q) (upd H q o) f a b hd fi xs:=
 ⟨by rw[aw (ai x.fr hq)];exact x.fr,by rw[aw (ai x.bd hq)];exact x.bd,x.ok.apart hq,fun z=>let ⟨c,ys,e,h,n,g⟩:=x.HU z;⟨c,ys,e,by rw[aw (ai h hq)];exact h,fun w=>w.elim n (ai h hq),g.apart hq⟩,fun z=>(x.KP z).apart hq,x.len⟩
theorem mC.ne(s:mC K H D S sc p B bs P R dq rows E):D≠P/\D≠R/\P≠R/\∀x∈dq,x.2.1≠D/\x.2.2≠D/\x.2.1≠P/\x.2.2≠P/\x.2.1≠R/\x.2.2≠R:=by
 have nd:=s.nd;unfold iE at nd;rw[zaE,zaE,zaE] at nd;obtain⟨h1,h2,h3,h4⟩:=nd;simp only[zag,not_or] at h1 h2;refine⟨h1.1,h1.2.1,h2.1,fun x hx=>?_⟩;have m1:x.2.1∈dq.flatMap fun x=>[x.2.1,x.2.2]:=za7.mpr ⟨x,hx,by simp⟩;have m2:x.2.2∈dq.flatMap fun x=>[x.2.1,x.2.2]:=za7.mpr ⟨x,hx,by simp⟩;exact⟨fun e=>h1.2.2 (e▸m1),fun e=>h1.2.2 (e▸m2),fun e=>h2.2 (e▸m1),fun e=>h2.2 (e▸m2),fun e=>h3 (e▸m1),fun e=>h3 (e▸m2)⟩
theorem mC.qF(s:mC K H D S sc p B bs P R dq rows E):∀b,b∈iE D P R dq->H b≠none:=fun b hb=>by
 unfold iE at hb;simp only[zag,za7] at hb;rcases hb with rfl |rfl |rfl |⟨x,hx,hb⟩
 ·rw[s.bF.bF];simp
 ·rw[s.aX];simp
 ·obtain⟨yJ,h,_⟩:=s.rows;rw[h];simp
 ·obtain⟨hd,fi,xs,fa⟩:=s.frames x hx;simp only[zaY,or_false] at hb;rcases hb with rfl |rfl
  ·rw[fa.fr];simp
  ·rw[fa.bd];simp
theorem mC.fresh(s:mC K H D S sc p B bs P R dq rows E){q:zdk}(hq:H q=none):q ∉ iE D P R dq:=fun z=>s.qF q z hq
theorem mC.draw(s:mC K H D S sc p B bs P R dq rows E)(u:aZ D H H')(dk:i6 K H' D S sc p'):mC K H' D S sc p' B bs P R dq rows E:=by
 obtain⟨n1,n2,n3,n4⟩:=s.ne;have uS:ba (O D P R dq E) H H':=ba.one u (.inl (by simp[iE]));refine⟨dk,s.box.up uS,s.uZ,u _ _ n1.symm s.aX,fun x hx=>?_,?_,s.nd,s.nS⟩
 ·obtain⟨hd,fi,xs,fa⟩:=s.frames x hx;obtain⟨m1,m2,_⟩:=n4 x hx;exact⟨hd,fi,xs,fa.up uS ((u _ _ m1 fa.fr).trans fa.fr.symm) ((u _ _ m2 fa.bd).trans fa.bd.symm)⟩
 ·obtain⟨yJ,h,f,l⟩:=s.rows;exact⟨yJ,u _ _ n2.symm h,f.up uS,l⟩
theorem mC.same(s:mC K H D S sc p B bs P R dq rows E)(e:aq H H'):mC K H' D S sc p B bs P R dq rows E:=s.draw (.of e) (s.bF.same e)
theorem mC.ay(s:mC K H D S sc p B bs P R dq rows E):jV K (·=D) H B bs:=⟨s.box.sub fun b hb=>.inl (by rw[show b=D from hb];simp[iE]),s.uZ⟩
theorem mC.less(s:mC K H D S sc p B bs P R dq rows E)(i:∀b,b∈E'->b∈E):mC K H D S sc p B bs P R dq rows E':=by
 have j:∀b,O D P R dq E' b->O D P R dq E b:=fun b hb=>hb.elim .inl fun z=>.inr (i b z);exact⟨s.bF,s.box.sub j,s.uZ,s.aX,fun x hx=>let ⟨hd,fi,xs,fa⟩:=s.frames x hx;⟨hd,fi,xs,fa.sub j⟩,let ⟨yJ,h,f,l⟩:=s.rows;⟨yJ,h,f.sub j,l⟩,s.nd,s.nS⟩
theorem mC.more(s:mC K H D S sc p B bs P R dq rows E){q:zdk}(hq:H q=none)(o:HO):mC K (upd H q o) D S sc p B bs P R dq rows (q::E):=by
 have j:∀b,O D P R dq (q::E) b->(O D P R dq E b\/b=q):=fun b hb=>by
  rcases hb with h |h
  ·exact .inl (.inl h)
  ·rcases zag.mp h with h |h
   ·exact .inr h
   ·exact .inl (.inr h)
 have sm:=aq.new hq o;exact⟨s.bF.same sm,(s.box.apart hq).sub j,s.uZ,sm _ _ s.aX,fun x hx=>let ⟨hd,fi,xs,fa⟩:=s.frames x hx;⟨hd,fi,xs,(fa.apart hq).sub j⟩,let ⟨yJ,h,f,l⟩:=s.rows;⟨yJ,sm _ _ h,(f.apart hq).sub j,l⟩,s.nd,s.nS⟩
theorem mC.row(s:mC K H D S sc p B bs P R dq rows E){yJ:List V}(hR:H R=some (.lst yJ)){k:Int}{w:Wd}{q:zdk}(hq:H q=some (.lst [.int k,.str (gg w)]))(nq:¬O D P R dq E q):mC K (upd H R (.lst (yJ++[.ref q]))) D S sc p B bs P R dq (rows++[(k,w)]) E:=by
 obtain⟨n1,n2,n3,n4⟩:=s.ne;have mR:R∈iE D P R dq:=by simp[iE]
 have uS:ba (O D P R dq E) H (upd H R (.lst (yJ++[.ref q]))):=ba.refl.put (.inl mR) _;have nSR:S≠R:=fun e=>s.nS (by rw[e];exact mR);refine⟨⟨by rw[aw n2];exact s.bF.bF,by rw[aw nSR];exact s.bF.fY,s.bF.ne,s.bF.len⟩,s.box.up uS,s.uZ,by rw[aw n3];exact s.aX,fun x hx=>?_,?_,s.nd,s.nS⟩
 ·obtain⟨hd,fi,xs,fa⟩:=s.frames x hx;obtain⟨_,_,_,_,m1,m2⟩:=n4 x hx;exact⟨hd,fi,xs,fa.up uS (aw m1) (aw m2)⟩
 ·obtain⟨adx,h,f,l⟩:=s.rows;rw[hR] at h;cases h;refine⟨_,ae,?_,by simp[l]⟩;rw[zaw];exact(f.up uS).snoc (Fix.lst (by rw[aw (fun e=>nq (.inl (by rw[e];exact mR)))];exact hq) nq (.cons .int (.cons .str .nil)))
theorem mC.stm{f:PG.Frame}{a b:zdk}{r:List yI}(s:mC K H D S sc p B bs P R ((f,a,b)::r) rows E){xs:List V}(hb:H b=some (.lst xs)){st:bG}{v:V}(hv:Fix K (O D P R ((f,a,b)::r) E) H (dH st) v) :
 mC K (upd H b (.lst (xs++[v]))) D S sc p B bs P R (({f with body:=f.body++[st]},a,b)::r) rows E:=by
 obtain⟨n1,n2,n3,n4⟩:=s.ne;have mb:b∈iE D P R ((f,a,b)::r):=by simp[iE]
 have uS:ba (O D P R ((f,a,b)::r) E) H (upd H b (.lst (xs++[v]))):=ba.refl.put (.inl mb) _;obtain⟨m1,m2,m3,m4,m5,m6⟩:=n4 _ (zaq ..);have UR:S≠b:=fun e=>s.nS (by rw[e];exact mb);have nd:=s.nd;have PR:a≠b/\∀x∈r,x.2.1≠b/\x.2.2≠b:=by
  unfold iE at nd;rw[zaE,zaE,zaE,zaG] at nd;obtain⟨_,_,_,h4⟩:=nd;simp only[zaJ,zaK,zaE,zag,not_or] at h4;exact⟨h4.1.1,fun x hx=>⟨fun e=>h4.2.1 (za7.mpr ⟨x,hx,by simp[e]⟩),fun e=>h4.2.1 (za7.mpr ⟨x,hx,by simp[e]⟩)⟩⟩
 refine⟨⟨by rw[aw m2.symm];exact s.bF.bF,by rw[aw UR];exact s.bF.fY,s.bF.ne,s.bF.len⟩,s.box.up uS,s.uZ,by rw[aw m4.symm,s.aX,zbm,zbm,zaw,zaw];rfl,fun x hx=>?_,?_,s.nd,s.nS⟩
 ·rcases zag.mp hx with rfl |hx
  ·obtain⟨hd,fi,KQ,fa⟩:=s.frames _ (zaq ..);have e:=fa.bd;rw[hb] at e;cases e;have fu:=(show fk K (O D P R ((f,a,b)::r) E) H f a b hd fi xs from fa)
   refine⟨hd,fi,_,⟨by rw[aw PR.1];exact fa.fr,ae,?_,fun z=>let ⟨c,ys,e,h,n,g⟩:=fu.HU z;⟨c,ys,e,uS _ _ n h,n,g.up uS⟩,fun z=>(fu.KP z).up uS,by simp[fu.len]⟩⟩;show eI K _ _ ((f.body++[st]).map dH) _;rw[zaw];exact(fu.ok.up uS).snoc (hv.up uS)
  ·obtain⟨hd,fi,KQ,fa⟩:=s.frames x (zat _ hx);exact⟨hd,fi,KQ,fa.up uS (aw (PR.2 x hx).1) (aw (PR.2 x hx).2)⟩
 ·obtain⟨yJ,h,g,l⟩:=s.rows;exact⟨yJ,by rw[aw m6.symm];exact h,g.up uS,l⟩
theorem mC.pop{f:PG.Frame}{a b:zdk}{r:List yI}(s:mC K H D S sc p B bs P R ((f,a,b)::r) rows E) :
 mC K (upd H P (.lst (r.reverse.map fun x=>.ref x.2.1))) D S sc p B bs P R r rows (a::b::E)/\(∃hd fi xs,fk K (O D P R r (a::b::E)) (upd H P (.lst (r.reverse.map fun x=>.ref x.2.1))) f a b hd fi xs)/\a ∉ iE D P R r/\b ∉ iE D P R r/\a≠b:=by
 obtain⟨n1,n2,n3,n4⟩:=s.ne;have mP:P∈iE D P R ((f,a,b)::r):=by simp[iE]
 have uS:ba (O D P R ((f,a,b)::r) E) H (upd H P (.lst (r.reverse.map fun x=>.ref x.2.1))):=ba.refl.put (.inl mP) _;have j:∀c,O D P R r (a::b::E) c->O D P R ((f,a,b)::r) E c:=fun c hc=>by
  simp only[O,iE,zag,zaG,zaJ,zaK] at hc ⊢;rcases hc with (h |h |h |h) |h |h |h
  ·exact .inl (.inl h)
  ·exact .inl (.inr (.inl h))
  ·exact .inl (.inr (.inr (.inl h)))
  ·exact .inl (.inr (.inr (.inr (.inr (.inr h)))))
  ·exact .inl (.inr (.inr (.inr (.inl h))))
  ·exact .inl (.inr (.inr (.inr (.inr (.inl h)))))
  ·exact .inr h
 have sub:∀c,c∈iE D P R r->c∈iE D P R ((f,a,b)::r):=fun c hc=>by
  simp only[iE,zag,zaG,zaJ,zaK] at hc ⊢;rcases hc with h |h |h |h
  ·exact .inl h
  ·exact .inr (.inl h)
  ·exact .inr (.inr (.inl h))
  ·exact .inr (.inr (.inr (.inr (.inr h))))
 have nd:=s.nd;unfold iE at nd;rw[zaG] at nd;simp only[zaJ,zaK,zaE,zag,not_or] at nd;obtain⟨⟨d1,d2,d3,d4,d5⟩,⟨p1,p2,p3,p4⟩,⟨r1,r2,r3⟩,⟨a1,a2⟩,b1,fl⟩:=nd;have YK:S≠P:=fun e=>s.nS (by rw[e];exact mP);obtain⟨m1,m2,m3,m4,m5,m6⟩:=n4 _ (zaq ..);refine⟨⟨⟨by rw[aw n1];exact s.bF.bF,by rw[aw YK];exact s.bF.fY,s.bF.ne,s.bF.len⟩,(s.box.up uS).sub j,s.uZ,ae,fun x hx=>?_,?_,?_,fun z=>s.nS (sub _ z)⟩,?_,?_,?_,a1⟩
 ·obtain⟨hd,fi,KQ,fa⟩:=s.frames x (zat _ hx);obtain⟨_,_,k3,k4,_,_⟩:=n4 x (zat _ hx);exact⟨hd,fi,KQ,(fa.up uS (aw k3) (aw k4)).sub j⟩
 ·obtain⟨yJ,h,g,l⟩:=s.rows;exact⟨yJ,by rw[aw n3.symm];exact h,(g.up uS).sub j,l⟩
 ·unfold iE;simp only[zaE,zag,not_or];exact⟨⟨d1,d2,d5⟩,⟨p1,p4⟩,r3,fl⟩
 ·obtain⟨hd,fi,KQ,fa⟩:=s.frames _ (zaq ..);exact⟨hd,fi,KQ,(fa.up uS (aw m3) (aw m4)).sub j⟩
 ·unfold iE;simp only[zag,not_or];exact⟨m1,m3,m5,a2⟩
 ·unfold iE;simp only[zag,not_or];exact⟨m2,m4,m6,b1⟩
theorem mC.push(s:mC K H D S sc p B bs P R dq rows E){f:PG.Frame}{a b:zdk}{hd fi:V}{xs:List V}(fa:fk K (O D P R dq E) H f a b hd fi xs)(ha:a ∉ iE D P R dq)(hb:b ∉ iE D P R dq)(RC:a≠b)(YL:S≠a)(UR:S≠b)(ea:a∈E)(eb:b∈E) :
 mC K (upd H P (.lst ((dq.reverse.map fun x=>.ref x.2.1)++[.ref a]))) D S sc p B bs P R ((f,a,b)::dq) rows E:=by
 obtain⟨n1,n2,n3,n4⟩:=s.ne;have mP:P∈iE D P R dq:=by simp[iE]
 have uS:ba (O D P R dq E) H (upd H P (.lst ((dq.reverse.map fun x=>.ref x.2.1)++[.ref a]))):=ba.refl.put (.inl mP) _;have j:∀c,O D P R ((f,a,b)::dq) E c->O D P R dq E c:=fun c hc=>by
  simp only[O,iE,zag,zaG,zaJ,zaK] at hc ⊢;rcases hc with (h |h |h |h |h |h) |h
  ·exact .inl (.inl h)
  ·exact .inl (.inr (.inl h))
  ·exact .inl (.inr (.inr (.inl h)))
  ·exact .inr (by rw[h];exact ea)
  ·exact .inr (by rw[h];exact eb)
  ·exact .inl (.inr (.inr (.inr h)))
  ·exact .inr h
 have YK:S≠P:=fun e=>s.nS (by rw[e];exact mP);unfold iE at ha hb;simp only[zag,not_or] at ha hb;have nd:=s.nd;unfold iE at nd;simp only[zaE,zag,not_or] at nd;obtain⟨⟨d1,d2,d5⟩,⟨p1,p4⟩,r3,fl⟩:=nd;have nS:=s.nS;unfold iE at nS;simp only[zag,not_or] at nS;refine⟨⟨by rw[aw n1];exact s.bF.bF,by rw[aw YK];exact s.bF.fY,s.bF.ne,s.bF.len⟩,(s.box.up uS).sub j,s.uZ,by rw[ae,zbm,zaw];rfl,fun x hx=>?_,?_,?_,?_⟩
 ·rcases zag.mp hx with rfl |hx
  ·exact⟨hd,fi,xs,(fa.up uS (aw ha.2.1) (aw hb.2.1)).sub j⟩
  ·obtain⟨hd,fi,KQ,fa⟩:=s.frames x hx;obtain⟨_,_,k3,k4,_,_⟩:=n4 x hx;exact⟨hd,fi,KQ,(fa.up uS (aw k3) (aw k4)).sub j⟩
 ·obtain⟨yJ,h,g,l⟩:=s.rows;exact⟨yJ,by rw[aw n3.symm];exact h,(g.up uS).sub j,l⟩
 ·unfold iE;rw[zaG];simp only[zaJ,zaK,zaE,zag,not_or];exact⟨⟨d1,d2,fun e=>ha.1 e.symm,fun e=>hb.1 e.symm,d5⟩,⟨p1,fun e=>ha.2.1 e.symm,fun e=>hb.2.1 e.symm,p4⟩,⟨fun e=>ha.2.2.1 e.symm,fun e=>hb.2.2.1 e.symm,r3⟩,⟨RC,ha.2.2.2⟩,hb.2.2.2,fl⟩
 ·unfold iE;rw[zaG];simp only[zaJ,zaK,zag,not_or];exact⟨nS.1,nS.2.1,nS.2.2.1,YL,UR,nS.2.2.2⟩
end
theorem xE{K:zaa}{a D:zdk}{xs:List V}{tc:TT}{te:TE}{Q:VK}{r:St}{H:Hp}(p:Nat->Bool)(f:Nat->V)(hS:i7 K H a xs)(hl:xs.length<=16000000)(hD:H D=none)
 (test:∀i x,xs[i]?=some x->∀H2,aq H H2->∀R:Bool->Hp->Prop,(∀H3,aq H2 H3->R (p i) H3)->tc (some x::r) H2 R)
 (step:∀i x,xs[i]?=some x->p i=true->∀H2,aq H H2->∀R:VK,(∀H3,aq H2 H3->R (f i) H3)->te (some x::r) H2 R)
 (q:∀H2,aq H H2->H2 D=some (.lst (((zaH xs.length).filter p).map f))->Q (.ref D) H2):vM (Je K a) D (eM 0) tc te Q (none::r) (upd H D (.lst [])):=by
 refine⟨fun i m τ H2=>m=xs.length-i/\i<=xs.length/\(∃x,τ=x::r)/\aq H H2/\H2 D=some (.lst (((zaH i).filter p).map f)),⟨xs.length,by simp,za0 _,⟨none,rfl⟩,aq.new hD _,by rw[ae];simp⟩,?_⟩
 rintro i m τ H2 ⟨rfl,hi,⟨x,rfl⟩,s2,h2⟩
 by_cases oC:i<xs.length
 ·refine .inr ⟨⟨xs,xs[i],s2.seq hS,by simp[oC]⟩,fun τ' H'=>(∃x,τ'=x::r)/\aq H H'/\H' D=some (.lst (((zaH (i+1)).filter p).map f)),fun τ' H' ⟨h1,h3,h4⟩=>⟨xs.length-(i+1),by lia,rfl,oC,h1,h3,h4⟩,fun y H' hy=>?_⟩;obtain⟨rfl,hy⟩:=hy;have ey:=hy _ (s2.seq hS);simp only[eM,zaT];refine test i y ey _ s2 _ fun H3 s3=>?_;have YM:=s2.trans s3;have h3:=s3 _ _ h2;rw[zbz,za4,zaw];cases hp:p i with
  |false=>
   rw[zzn zai];exact⟨⟨_,rfl⟩,YM,by rw[h3];simp[hp]⟩
  |true=>
   rw[zzp rfl];refine step i y ey hp _ YM _ fun H4 s4=>⟨_,s4 _ _ h3,?_,⟨_,rfl⟩,?_,?_⟩
   ·have h1:(((zaH i).filter p).map f).length<=i:=by
     rw[zad];exact zaC (zc1 _ _) (by rw[zbt];lia)
    have:zds=2 ^ 24:=rfl;lia
   ·intro b o e;rw[aw (ai e hD)];exact s4 _ _ (YM _ _ e)
   ·rw[ae];simp[hp]
 ·have e:i=xs.length:=by lia
  subst e;exact .inl ⟨⟨xs,s2.seq hS,zaf _⟩,q H2 s2 h2⟩
theorem Cy{α:Type}(p:α->Bool)(d:α):∀l:List α,((zaH l.length).filter fun i=>p (l.getD i d)).length=(l.filter p).length:=by
 intro l;have e:l=(zaH l.length).map fun i=>l.getD i d:=by
  apply zbV
  ·simp
  ·intro i h1 h2;simp[h1]
 conv=>rhs;rw[e]
 rw[List.filter_map,zad];rfl
section
variable(K:zaa)
def KR:Sp:=fun vs H Q _=>∃(B R:zdk) (bs:List gb) (rows:List PG.Row) (mode:Int),vs=[.ref B,.ref R,.int mode]/\Rep K H (.lst (bs.map iD)) (.ref B)/\Rep K H (.lst (rows.map jU)) (.ref R)/\bs.length<=10/\rows.length<=1000/\
 ∀H',aq H H'->Q (.int (PG.number bs.length rows mode)) H'
def NV:Sp:=fun vs H Q _=>∃(D S:zdk) (sc:List Int) (p:Nat) (B:zdk) (bs:List gb) (P R:zdk) (f g:PG.Frame) (a b a' b':zdk) (r:List yI) (rows:List PG.Row),vs=[.ref P]/\
 mC K H D S sc p B bs P R ((f,a,b)::(g,a',b')::r) rows []/\(f.kind=1\/f.kind=2\/f.kind=3)/\g.body.length<=1000/\r.length<=10/\
 ∀H',(∀c,H c≠none->H' c≠none)->(∀c o,c ∉ iE D P R ((f,a,b)::(g,a',b')::r)->H c=some o->H' c=some o)->mC K H' D S sc p B bs P R (({g with body:=g.body++[f.told]},a',b')::r) rows []->Q .cC H'
end
theorem Cz{X:Cx}{K:zaa}(h:X.K=K):JO X (AF K):=h▸a9
theorem iF{X:Cx}{K:zaa}(h:X.K=K):JO X (Ee K):=h▸aM
theorem HV{X:Cx}{K:zaa}(h:X.K=K):rK X (compareOp .NotIn) (Yw K true):=h▸tw
section
variable(K:zaa)
def US (x:PG.Prog×List PG.Row):Dp:=.lst [je x.1,.lst (x.2.map jU)]
end
def Kept (D:zdk) (H H':Hp):Prop:=aZ D H H'/\∀b,H b≠none->H' b≠none
theorem Kept.up{D:zdk}{H H1 H2:Hp}(k:Kept D H H1)(u:aZ D H1 H2)(hD:H2 D≠none):Kept D H H2:=⟨k.1.trans u,fun b hb=>u.qF hD b (k.2 b hb)⟩
theorem Kept.same{D:zdk}{H H1 H2:Hp}(k:Kept D H H1)(s:aq H1 H2):Kept D H H2:=⟨k.1.trans (.of s),fun b hb=>by
 have:=k.2 b hb;cases z:H1 b with
 |none=>exact zzb z this
 |some o=>rw[s _ _ z];simp⟩
theorem Kept.put{D q:zdk}{H H1:Hp}(k:Kept D H H1)(hq:H q=none)(o:HO):Kept D H (upd H1 q o):=⟨fun b u n e=>by rw[aw (ai e hq)];exact k.1 b u n e,fun b hb=>by
 by_cases z:b=q
 ·rw[z,ae];simp
 ·rw[aw z];exact k.2 b hb⟩
theorem AU{c:TT}{ta tb:TS}{D:Ends}{σ:St}{H:Hp}(h:∀U:St->Hp->Prop,(∀σ' H',tb D σ' H'->U σ' H')->Hb c ta (fun _ σ H=>U σ H) D σ H):Hb c ta tb D σ H:=h (tb D) fun _ _ x=>x
theorem KU{K:zaa}{H:Hp}:∀(s:bG) {v:V},Rep K H (dH s) v->∃a ys,v=.ref a/\bQ K H a (.str (gg s.wd)::ys):=by
 intro s v h;have key:∃ds,dH s=.tup (.str (gg s.wd)::ds):=by
  cases s<;>exact⟨_,by rw[dH];rfl⟩
 obtain⟨ds,e⟩:=key;rw[e,Rep.bg] at h;obtain⟨a,xs,rfl,q,r⟩:=h;rw[aN.aI] at r;obtain⟨v1,t1,rfl,e1,_⟩:=r;rw[Rep.bA] at e1;subst e1;exact⟨a,t1,rfl,q⟩
def aK:bG->List (List bG)
 |.ifs _ _ _ _ a b=>[a,b]
 |.fc _ _ _ _ a=>[a]
 |_=>[]
def iG (s:bG) (x:Int):Int:=match s with
 |.fc k _ _ _ _=>k
 |_=>x
def pC (s:bG) (x:Int):List Int:=match s with
 |.stop _=>[0]
 |.ifs _ _ _ _ a b=>[bj a x,bj b x]
 |.fc k _ _ _ a=>[bj a k,x]
 |_=>[x]
theorem KW(s:bG)(x:Int):dE s x=(s.row,s.wd,pC s x)::((aK s).flatMap fun b=>aQ b (iG s x)):=by
 cases s<;>simp[dE,bG.row,bG.wd,pC,aK,iG]
def eJ (r:dM):Dp:=.tup [.int r.1,.str (gg r.2.1),.tup (r.2.2.map .int)]
section
variable(K:zaa)
def tR:Sp:=fun vs H Q _=>∃(b:zdk) (body:List bG) (x:Int),vs=[.ref b,.int x]/\Rep K H (.lst (body.map dH)) (.ref b)/\body.length<=100000/\Q (.int (bj body x)) H
def CA:Sp:=fun vs H Q _=>∃(v:V) (st:bG) (x:Int),vs=[v,.int x]/\Rep K H (dH st) v/\Q (.int (iG st x)) H
def xF:Sp:=fun vs H Q _=>∃(v:V) (st:bG) (H0:Hp),vs=[v]/\Rep K H0 (dH st) v/\aq H0 H/\∀l us H',aq H H'->H l=none->H' l=some (.lst us)->aN K H0 ((aK st).map fun b=>.lst (b.map dH)) us->Q (.ref l) H'
end
theorem iq{K:zaa}{H:Hp}:∀(s:bG) {v:V},Rep K H (dH s) v->∃a ys,v=.ref a/\bQ K H a (.str (gg s.wd) :: .int s.row::ys):=by
 intro s v h;have key:∃ds,dH s=.tup (.str (gg s.wd) :: .int s.row::ds):=by
  cases s<;>exact⟨_,by rw[dH];rfl⟩
 obtain⟨ds,e⟩:=key;rw[e,Rep.bg] at h;obtain⟨a,xs,rfl,q,r⟩:=h;rw[aN.aI] at r;obtain⟨v1,t1,rfl,e1,r⟩:=r;rw[aN.aI] at r;obtain⟨v2,t2,rfl,e2,_⟩:=r;rw[Rep.bA] at e1;rw[Rep.bt] at e2;subst e1 e2;exact⟨a,t2,rfl,q⟩
section
variable(K:zaa)
def KY (st:bG):Prop:=∀b∈aK st,b.length<=100000
def KZ:Sp:=fun vs H Q _=>∃(v:V) (st:bG) (x:Int),vs=[v,.int x]/\Rep K H (dH st) v/\KY st/\∀u H',aq H H'->Rep K H' (.tup ((pC st x).map .int)) u->Q u H'
end
mutual
def HW:Dp->Bool
 |.lst _=>false
 |.tup l=>pE l
 |_=>true
def pE:List Dp->Bool
 |[]=>true
 |d::r=>HW d&&pE r
end
section
variable{K:zaa}{H H':Hp}{tl:zdk}{xs:List V}
mutual
theorem CB(h:H tl=some (.lst xs))(u:ba (·=tl) H H'):∀(d:Dp) (v:V),HW d=true->Rep K H d v->Rep K H' d v
 |.cC,v,_,r=>by rw[Rep.qi] at r ⊢;exact r
 |.bl b,v,_,r=>by rw[Rep.lQ] at r ⊢;exact r
 |.int b,v,_,r=>by rw[Rep.bt] at r ⊢;exact r
 |.str b,v,_,r=>by rw[Rep.bA] at r ⊢;exact r
 |.lst l,v,e,_=>by rw[HW] at e;cases e
 |.tup l,v,e,r=>by
  rw[HW] at e;rw[Rep.bg] at r ⊢;obtain⟨a,ys,rfl,q,rs⟩:=r;refine⟨a,ys,rfl,?_,vd h u l ys e rs⟩;rcases q with (q |⟨o,q⟩) |q
  ·exact .inl (.inl (u _ _ (bU q h (by intro z;cases z)) q))
  ·exact .inl (.inr ⟨o,u _ _ (bU q h (by intro z;cases z)) q⟩)
  ·exact .inr q
theorem vd(h:H tl=some (.lst xs))(u:ba (·=tl) H H'):∀(ds:List Dp) (vs:List V),pE ds=true->aN K H ds vs->aN K H' ds vs
 |[],vs,_,r=>by rw[aN.br] at r ⊢;exact r
 |d::ds,vs,e,r=>by
  rw[pE,zbc] at e;rw[aN.aI] at r ⊢;obtain⟨v,t,rfl,r1,r2⟩:=r;exact⟨v,t,rfl,CB h u d v e.1 r1,vd h u ds t e.2 r2⟩
end
theorem Gp(h:H tl=some (.lst xs)){ds:List Dp}{vs:List V}(e:pE ds=true)(r:aN K H ds vs):eI K (·=tl) H ds vs:=fun _ u=>vd h u ds vs e r
theorem RD(h:H tl=some (.lst xs)){d:Dp}{v:V}(e:HW d=true)(r:Rep K H d v):Fix K (·=tl) H d v:=fun _ u=>CB h u d v e r
end
theorem ve:∀l:List Int,pE (l.map .int)=true
 |[]=>by simp[pE]
 |i::r=>by rw[zal,pE,ve r];simp[HW]
theorem K0(r:dM):HW (eJ r)=true:=by simp[eJ,HW,pE,ve]
theorem vf:∀l:List dM,pE (l.map eJ)=true
 |[]=>by simp[pE]
 |r::l=>by rw[zal,pE,K0,vf l];rfl
section
variable(K:zaa)
def wJ (n:Nat):Sp:=fun vs H Q _=>∃(b:zdk) (body:List bG) (x:Int),vs=[.ref b,.int x]/\Rep K H (.lst (body.map dH)) (.ref b)/\fX body<n/\(bV body).length<=1000/\
 ∀l us H',aq H H'->H l=none->H' l=some (.lst us)->aN K H' ((aQ body x).map eJ) us->Q (.ref l) H'
end
mutual
theorem j3:∀(s:bG) (b:List bG),b∈aK s->(bV b).length+1<=(dU s).length/\fX b+1<=kS s
 |.ifs k _ _ _ x y,b,h=>by
  simp only[aK,zag,zaY,or_false] at h;rw[dU,kS];simp only[zah,zae];rcases h with rfl |rfl<;>lia
 |.fc k _ _ _ x,b,h=>by
  simp only[aK,zag,zaY,or_false] at h;rw[dU,kS];simp only[zah];subst h;lia
 |.ask _ _,b,h=>by cases h
 |.put _ _ _,b,h=>by cases h
 |.say _ _,b,h=>by cases h
 |.cg _ _ _ _,b,h=>by cases h
 |.stop _,b,h=>by cases h
end
theorem qo:∀(l:List bG) (s:bG),s∈l->(dU s).length<=(bV l).length/\kS s<=fX l
 |[],s,h=>by cases h
 |a::r,s,h=>by
  rw[bV,fX,zae];rcases zag.mp h with rfl |h
  ·lia
  ·have:=qo r s h;lia
theorem HX(s:bG):1<=(dU s).length:=by cases s<;>simp[dU]
theorem km:∀l:List bG,l.length<=(bV l).length
 |[]=>za0 _
 |s::r=>by
  rw[bV,zae,zah];have:=HX s;have:=km r;lia
section
variable(K:zaa)
def EB:Sp:=fun vs H Q _=>∃(v:V) (pr:PG.Prog),vs=[v]/\Rep K H (je pr) v/\fX pr.body<=3/\(bV pr.body).length<=1000/\
 ∀l us H',aq H H'->H l=none->H' l=some (.lst us)->aN K H' ((aQ pr.body 0).map eJ) us->Q (.ref l) H'
def HY:Sp:=fun vs H Q _=>∃(v:V) (pr:PG.Prog),vs=[v]/\Rep K H (je pr) v/\fX pr.body<=3/\(bV pr.body).length<=1000/\
 ∀l us H',aq H H'->H l=none->H' l=some (.lst us)->aN K H' ((Kv (bV pr.body)).map eR) us->Q (.ref l) H'
end
end L2
namespace L2
open PG
open PySem
theorem gV:∀t:PM.Tr,(my t).deep<=oE t+1
 |.num n=>by simp[my,Dp.deep,Dp.gu]
 |.box n=>by simp[my,Dp.deep,Dp.gu]
 |.bin o l r=>by
  have:=gV l;have:=gV r;simp only[my,Dp.deep,Dp.gu,oE];lia
abbrev OkE:bG->Prop:=tJ (fun _=>True) (fun e=>oE e<=2) (fun _=>True)
abbrev UT:List bG->Prop:=xw (fun _=>True) (fun e=>oE e<=2) (fun _=>True)
mutual
theorem K1:∀s:bG,OkE s->(dH s).deep<=2*kS s+4
 |.ask k b,h=>by simp[dH,Dp.deep,Dp.gu]
 |.put k b e,h=>by
  simp only[tJ] at h;have:=gV e;simp only[dH,Dp.deep,Dp.gu,kS];lia
 |.say k e,h=>by
  simp only[tJ] at h;have:=gV e;simp only[dH,Dp.deep,Dp.gu,kS];lia
 |.cg k sg l r,h=>by
  simp only[tJ] at h;have:=gV l;have:=gV r;simp only[dH,Dp.deep,Dp.gu,kS];lia
 |.stop k,h=>by simp[dH,Dp.deep,Dp.gu]
 |.ifs k sg l r a b,h=>by
  simp only[tJ] at h;have:=gV l;have:=gV r;have:=mD a h.2.2.2.1;have:=mD b h.2.2.2.2;simp only[dH,Dp.deep,Dp.gu,kS];lia
 |.fc k sg l r a,h=>by
  simp only[tJ] at h;have:=gV l;have:=gV r;have:=mD a h.2.2.2;simp only[dH,Dp.deep,Dp.gu,kS];lia
theorem mD:∀b:List bG,UT b->Dp.gu (AS b)<=2*fX b+4
 |[],h=>by simp[AS,Dp.gu]
 |s::r,h=>by
  simp only[xw] at h;have:=K1 s h.1;have:=mD r h.2;simp only[AS,Dp.gu,fX];lia
end
theorem xG:∀b:List gb,Dp.gu (b.map iD)<=1
 |[]=>by simp[Dp.gu]
 |s::r=>by
  have:=xG r;simp only[zal,Dp.gu,iD,Dp.deep];lia
theorem zV:∀b:List PG.Row,Dp.gu (b.map jU)<=1
 |[]=>by simp[Dp.gu]
 |s::r=>by
  have:=zV r;simp only[zal,Dp.gu,jU,Dp.deep];lia
theorem NW(sc:List Int)(many p:Nat):(US (b8 sc many p)).deep<=60:=by
 have ok:UT (b8 sc many p).1.body:=xy sc many p (fun _ _=>trivial) (fun d q hd=>zaC (tK _ _ _ _) hd) (fun _=>trivial);have h1:=mD _ ok;have h2:=Cn sc many p;have h3:=xG (b8 sc many p).1.ay;have h4:=zV (b8 sc many p).2;rw[fJ] at h1;simp only[US,je,Dp.deep,Dp.gu];lia
structure NX(K:zaa)(H H2:Hp)(tl:zdk)(H3:Hp)(us:List V)(pre:List Tg):Prop where
 s:aq H H3
 u:ba (·=tl) H2 H3
 y:H3 tl=some (.lst us)
 f:eI K (·=tl) H3 (pre.map eR) us
 l:us.length=pre.length
section
variable{K:zaa}{H H2 H3 H4:Hp}{tl p:zdk}{us vs:List V}{pre:List Tg}{ds:List Dp}{g:Tg}
theorem NX.same(a:NX K H H2 tl H3 us pre)(s:aq H3 H4):NX K H H2 tl H4 us pre:=⟨a.s.trans s,a.u.trans (.of s),s _ _ a.y,a.f.up (.of s),a.l⟩
theorem NX.app(a:NX K H H2 tl H3 us pre)(ht:H tl=none)(hp:H3 p=none)(hg:eR g=.tup ds)(hv:∀Hx,eI K (·=tl) Hx ds vs) :
 NX K H H2 tl (upd (upd H3 p (.tup vs)) tl (.lst (us++[.ref p]))) (us++[.ref p]) (pre++[g]):=by
 have b:=a.same (aq.new hp (.tup vs));have np:p≠tl:=(ai a.y hp).symm;have t:(upd H3 p (.tup vs)) p=some (.tup vs):=ae;generalize upd H3 p (.tup vs)=H5 at *;have uu:ba (·=tl) H5 (upd H5 tl (.lst (us++[.ref p]))):=ba.refl.put (O:=(·=tl)) rfl _;refine⟨fun z o e=>by rw[aw (ai e ht)];exact b.s z o e,b.u.trans uu,ae,?_,by simp[a.l]⟩;rw[zaw];refine(b.f.snoc (d:=eR g) (v:=.ref p) ?_).up uu;rw[hg];exact Fix.tup t np (hv _)
end
theorem NY{K:zaa}{O:zdk->Prop}{H2:Hp}{fl:List dM}{fv:List V}(g2:eI K O H2 (fl.map eJ) fv){i:Nat}{y:V}(hi:fv[i]?=some y)(li:i<fl.length) :
 ∃a,y=.ref a/\∀H',ba O H2 H'->∃t,bQ K H' a (.int fl[i].1 :: .str (gg fl[i].2.1)::t):=by
 have key:∀H',ba O H2 H'->∃a t,y=.ref a/\bQ K H' a (.int fl[i].1 :: .str (gg fl[i].2.1)::t):=fun H' u=>by
  obtain⟨v',DD,rv⟩:=(g2 H' u).get (i:=i) (d:=eJ fl[i]) (by rw[zam,zac li];rfl);rw[hi] at DD;cases DD;unfold eJ at rv;rw[Rep.bg] at rv;obtain⟨a,xs,rfl,hx,rs⟩:=rv;rw[aN.aI] at rs;obtain⟨v1,t1,rfl,r1,rs⟩:=rs;rw[aN.aI] at rs;obtain⟨v2,t2,rfl,r2,rs⟩:=rs;rw[Rep.bt] at r1;rw[Rep.bA] at r2;subst r1 r2;exact⟨a,t2,rfl,hx⟩
 obtain⟨a,_,rfl,_⟩:=key H2 .refl;refine⟨a,rfl,fun H' u=>?_⟩;obtain⟨a',t,e,h⟩:=key H' u;cases e;exact⟨t,h⟩
theorem AV{K:zaa}{H:Hp}{rows:List PG.Row}{rv:List V}(rr:aN K H (rows.map jU) rv){i:Nat}{y:V}(hi:rv[i]?=some y)(li:i<rows.length):∃a,y=.ref a/\i7 K H a [.int rows[i].1,.str (gg rows[i].2)]:=by
 obtain⟨v',DD,rw_⟩:=rr.get (i:=i) (d:=jU rows[i]) (by rw[zam,zac li];rfl);rw[hi] at DD;cases DD;unfold jU at rw_;rw[Rep.bL] at rw_;obtain⟨a,ys,rfl,hy,ry⟩:=rw_;rw[aN.aI] at ry;obtain⟨v1,t1,rfl,e1,ry⟩:=ry;rw[aN.aI] at ry;obtain⟨v2,t2,rfl,e2,ry⟩:=ry;rw[aN.br] at ry;subst ry;rw[Rep.bA] at e2;rw[Rep.bt] at e1;subst e1 e2;exact⟨a,rfl,hy⟩
theorem wK:∀w:Wd,Nz (V.str (gg w)) [V.str (zab "if"),V.str (zab "while")]=decide (w=.ifs\/w=.fc):=by
 intro w;cases w<;>decide +kernel
theorem RE:∀w:Wd,Nz (V.str (gg w)) [V.str (zab "else"),V.str (zab "end")]=decide (w=.oQ\/w=.fin):=by
 intro w;cases w<;>decide +kernel
theorem pF:∀w:Wd,(V.str (gg w)=V.str (zab "must"))↔w=.cg:=by
 intro w;cases w<;>decide +kernel
theorem EC:∀l:List Tg,PyData.canLayAll0 (Dp.uR (l.map eR))=true/\PyData.depthAll (Dp.uR (l.map eR))<=1
 |[]=>by simp[Dp.uR,PyData.canLayAll0,PyData.depthAll]
 |g::r=>by
  obtain⟨h1,h2⟩:=EC r;have k:(eR g).py.canLay0=true/\(eR g).py.depth<=1:=by
   cases g<;>simp only[eR,Dp.py,Dp.uR,PyData.canLay0,PyData.canLayAll0,PyData.depth,PyData.depthAll]<;>decide +kernel
  rw[zal,Dp.uR,PyData.canLayAll0,PyData.depthAll,h1,k.1];refine⟨rfl,?_⟩;have:=k.2;lia
end L2
namespace L2
open PG
open PySem
def xH:Option Nat->V
 |none=>.cC
 |some e=>.int e
def W0 (A:Nat->zdk) (p:Nat):Option Mt->Option V
 |none=>none
 |some (.back q)=>some (.int q)
 |some (.op _ _)=>some (.ref (A p))
structure zW(H:Hp)(d:zdk)(m:Mm)(A:Nat->zdk)(Hx:Hp)(ax:List (Key×V)):Prop where
 s:aq H Hx
 dn:H d=none
 dd:Hx d=some (.dK ax)
 at_:∀p:Nat,cm ax (.inl (p:Int))=W0 A p (m p)
 ls:∀p e f,m p=some (.op e f)->Hx (A p)=some (.lst [xH e,xH f])/\H (A p)=none
 inj:∀p q e f e' f',m p=some (.op e f)->m q=some (.op e' f')->A p=A q->p=q
section
variable{H Hx H':Hp}{d b:zdk}{m:Mm}{A:Nat->zdk}{ax:List (Key×V)}{o:HO}
theorem zW.ne(t:zW H d m A Hx ax){p:Nat}{e f:Option Nat}(h:m p=some (.op e f)):A p≠d:=bU (t.ls p e f h).1 t.dd (by intro z;cases z)
theorem zW.same(t:zW H d m A Hx ax)(s:aq Hx H'):zW H d m A H' ax:=⟨t.s.trans s,t.dn,s _ _ t.dd,t.at_,fun p e f h=>⟨s _ _ (t.ls p e f h).1,(t.ls p e f h).2⟩,t.inj⟩
theorem zW.put(t:zW H d m A Hx ax)(hb:H b=none)(nd:b≠d)(nl:∀p e f,m p=some (.op e f)->A p≠b)(o:HO):zW H d m A (upd Hx b o) ax:=
 ⟨fun z u e=>by rw[aw (ai e hb)];exact t.s z u e,t.dn,by rw[aw nd.symm];exact t.dd,t.at_,fun p e f h=>⟨by rw[aw (nl p e f h)];exact(t.ls p e f h).1,(t.ls p e f h).2⟩,t.inj⟩
theorem tS{κ:Type}[DecidableEq κ](ax:List (κ×V))(k:κ)(v:V):(putK ax k v).length<=ax.length+1:=by
 unfold putK;split
 ·rw[zad];lia
 ·rw[zae];simp
theorem zW.back(t:zW H d m A Hx ax)(p q:Nat):zW H d (m.set p (.back q)) A (upd Hx d (.dK (putK ax (.inl (p:Int)) (.int q)))) (putK ax (.inl (p:Int)) (.int q)):=by
 have key:∀j e f,(m.set p (.back q)) j=some (.op e f)->j≠p/\m j=some (.op e f):=fun j e f h=>by
  by_cases z:j=p
  ·subst z;rw[Mm.set_same] at h;cases h
  ·rw[Mm.bO _ _ z] at h;exact⟨z,h⟩
 refine⟨fun z u e=>by rw[aw (ai e t.dn)];exact t.s z u e,t.dn,ae,fun j=>?_,fun j e f h=>?_,fun a b e f e' f' h1 h2 z=>t.inj a b e f e' f' (key a e f h1).2 (key b e' f' h2).2 z⟩
 ·rw[oX];by_cases z:j=p
  ·subst z;rw[zzp rfl,Mm.set_same];rfl
  ·rw[zzn (fun e=>z (by injection e with e;lia)),Mm.bO _ _ z,t.at_ j]
 ·have h:=(key j e f h).2;exact⟨by rw[aw (t.ne h)];exact(t.ls j e f h).1,(t.ls j e f h).2⟩
theorem zW.UU(t:zW H d m A Hx ax)(p:Nat)(hb:Hx b=none):zW H d (m.set p (.op none none)) (fun j=>if j=p then b else A j) (upd (upd Hx b (.lst [.cC,.cC])) d (.dK (putK ax (.inl (p:Int)) (.ref b)))) (putK ax (.inl (p:Int)) (.ref b)):=by
 have nb:b≠d:=(ai t.dd hb).symm;have HZ:H b=none:=by
  cases z:H b with
  |none=>rfl
  |some o=>rw[t.s _ _ z] at hb;cases hb
 have key:∀j e f,(m.set p (.op none none)) j=some (.op e f)->(j=p/\e=none/\f=none)\/(j≠p/\m j=some (.op e f)):=fun j e f h=>by
  by_cases z:j=p
  ·subst z;rw[Mm.set_same] at h;cases h;exact .inl ⟨rfl,rfl,rfl⟩
  ·rw[Mm.bO _ _ z] at h;exact .inr ⟨z,h⟩
 have old:∀j e f,m j=some (.op e f)->A j≠b:=fun j e f h=>ai (t.ls j e f h).1 hb;refine⟨fun z u e=>by rw[aw (ai e t.dn),aw (ai e HZ)];exact t.s z u e,t.dn,ae,fun j=>?_,fun j e f h=>?_,fun a c e f e' f' h1 h2 z=>?_⟩
 ·rw[oX];by_cases z:j=p
  ·subst z;rw[zzp rfl,Mm.set_same];simp[W0]
  ·rw[zzn (fun e=>z (by injection e with e;lia)),Mm.bO _ _ z,t.at_ j];unfold W0;cases m j with
   |none=>rfl
   |some x=>cases x<;>simp[z]
 ·rcases key j e f h with ⟨rfl,rfl,rfl⟩ |⟨z,h⟩
  ·rw[zzp rfl];exact⟨by rw[aw nb,ae];rfl,HZ⟩
  ·rw[zzn z];exact⟨by rw[aw (t.ne h),aw (old j e f h)];exact(t.ls j e f h).1,(t.ls j e f h).2⟩
 ·rcases key a e f h1 with ⟨rfl,_,_⟩ |⟨z1,g1⟩<;>rcases key c e' f' h2 with ⟨rfl,_,_⟩ |⟨z2,g2⟩
  ·rfl
  ·rw[zzp rfl,zzn z2] at z;exact zzb z.symm (old c _ _ g2)
  ·rw[zzn z1,zzp rfl] at z;exact zzb z (old a _ _ g1)
  ·rw[zzn z1,zzn z2] at z;exact t.inj a c e f e' f' g1 g2 z
theorem zW.list(t:zW H d m A Hx ax){p:Nat}{e f:Option Nat}(h:m p=some (.op e f))(e' f':Option Nat):zW H d (m.set p (.op e' f')) A (upd Hx (A p) (.lst [xH e',xH f'])) ax:=by
 have key:∀j x y,(m.set p (.op e' f')) j=some (.op x y)->(j=p/\x=e'/\y=f')\/(j≠p/\m j=some (.op x y)):=fun j x y h=>by
  by_cases z:j=p
  ·subst z;rw[Mm.set_same] at h;cases h;exact .inl ⟨rfl,rfl,rfl⟩
  ·rw[Mm.bO _ _ z] at h;exact .inr ⟨z,h⟩
 have op:∀j x y,(m.set p (.op e' f')) j=some (.op x y)->∃x y,m j=some (.op x y):=fun j x y hj=>by
  rcases key j x y hj with ⟨rfl,_,_⟩ |⟨_,h'⟩
  ·exact⟨_,_,h⟩
  ·exact⟨_,_,h'⟩
 refine⟨fun z u q=>by rw[aw (ai q (t.ls p e f h).2)];exact t.s z u q,t.dn,by rw[aw (t.ne h).symm];exact t.dd,fun j=>?_,fun j x y hj=>?_,fun a c x y x' y' h1 h2 z=>?_⟩
 ·rw[t.at_ j];by_cases z:j=p
  ·subst z;rw[Mm.set_same,h];rfl
  ·rw[Mm.bO _ _ z]
 ·rcases key j x y hj with ⟨rfl,rfl,rfl⟩ |⟨z,hj⟩
  ·exact⟨ae,(t.ls _ _ _ h).2⟩
  ·exact⟨by rw[aw (fun q=>z (t.inj j p _ _ _ _ hj h q))];exact(t.ls j x y hj).1,(t.ls j x y hj).2⟩
 ·obtain⟨_,_,h1⟩:=op a x y h1;obtain⟨_,_,h2⟩:=op c x' y' h2;exact t.inj a c _ _ _ _ h1 h2 z
end
section
variable(K:zaa)
def UW (H Hx:Hp) (d:zdk) (R:List PG.Row):Prop:=∃A ax,zW H d (oO R) A Hx ax
def RF:Sp:=fun vs H Q _=>∃(R:zdk) (rows:List PG.Row) (b:List bG),vs=[.ref R]/\Rep K H (.lst (rows.map jU)) (.ref R)/\rows.length<=1000/\cH b rows/\∀d H',UW H H' d rows->Q (.ref d) H'
def YN:Sp:=fun vs H Q _=>∃(R d:zdk) (rows:List PG.Row) (b:List bG) (H0:Hp) (p:Nat),vs=[.ref R,.ref d,.int p]/\Rep K H (.lst (rows.map jU)) (.ref R)/\rows.length<=1000/\cH b rows/\UW H0 H d rows/\Q (.int (PG.to rows (oO rows) p)) H
def NZ:Sp:=fun vs H Q _=>∃(R:zdk) (rows:List PG.Row) (b:List bG),vs=[.ref R]/\Rep K H (.lst (rows.map jU)) (.ref R)/\rows.length<=1000/\cH b rows/\
 ∀l us H',aq H H'->H l=none->H' l=some (.lst us)->aN K H' ((aQ b 0).map eJ) us->Q (.ref l) H'
end
structure rO(K:zaa)(H:Hp)(tl:zdk)(H3:Hp)(us:List V)(ds:List Dp):Prop where
 s:aq H H3
 y:H3 tl=some (.lst us)
 f:eI K (·=tl) H3 ds us
 l:us.length=ds.length
section
variable{K:zaa}{H H3 H4:Hp}{tl p p1 p2:zdk}{us vs:List V}{ds es:List Dp}{d:Dp}{v:V}
theorem rO.new(h:H tl=none):rO K H tl (upd H tl (.lst [])) [] []:=⟨aq.new h _,ae,.nil,rfl⟩
theorem rO.same(a:rO K H tl H3 us ds)(s:aq H3 H4):rO K H tl H4 us ds:=⟨a.s.trans s,s _ _ a.y,a.f.up (.of s),a.l⟩
theorem rO.push(a:rO K H tl H3 us ds)(ht:H tl=none)(fv:Fix K (·=tl) H3 d v):rO K H tl (upd H3 tl (.lst (us++[v]))) (us++[v]) (ds++[d]):=by
 have uu:ba (·=tl) H3 (upd H3 tl (.lst (us++[v]))):=ba.refl.put (O:=(·=tl)) rfl _;exact⟨fun z o e=>by rw[aw (ai e ht)];exact a.s z o e,ae,(a.f.snoc fv).up uu,by simp[a.l]⟩
theorem rO.row(a:rO K H tl H3 us ds)(ht:H tl=none){k:Int}{w:Wd}{ws:List Int}(h1:H3 p1=none)(h2:(upd H3 p1 (.tup (ws.map V.int))) p2=none) :
 (upd (upd H3 p1 (.tup (ws.map V.int))) p2 (.tup [.int k,.str (gg w),.ref p1])) tl=some (.lst us)/\
 rO K H tl (upd (upd (upd H3 p1 (.tup (ws.map V.int))) p2 (.tup [.int k,.str (gg w),.ref p1])) tl (.lst (us++[.ref p2]))) (us++[.ref p2]) (ds++[eJ (k,w,ws)]):=by
 have s1:=aq.new h1 (.tup (ws.map V.int));have a1:=a.same s1;have t1:(upd H3 p1 (.tup (ws.map V.int))) p1=some (.tup (ws.map V.int)):=ae;have n1:p1≠tl:=(ai a.y h1).symm;generalize upd H3 p1 (.tup (ws.map V.int))=H5 at *;have s2:=aq.new h2 (.tup [.int k,.str (gg w),.ref p1]);have a2:=a1.same s2;have t2:(upd H5 p2 (.tup [.int k,.str (gg w),.ref p1])) p2=some (.tup [.int k,.str (gg w),.ref p1]):=ae;have n2:p2≠tl:=(ai a1.y h2).symm;have t1:=s2 _ _ t1;generalize upd H5 p2 (.tup [.int k,.str (gg w),.ref p1])=H6 at *;refine⟨a2.y,a2.push ht (Fix.tup t2 n2 (.cons .int (.cons .str (.cons (Fix.tup t1 n1 ?_) .nil))))⟩;have allI:∀l:List Int,eI K (·=tl) H6 (l.map Dp.int) (l.map V.int):=fun l=>by
  induction l with
  |nil=>exact .nil
  |cons i r ih=>exact .cons .int ih
 exact allI ws
end
section
variable{X:Cx}
def N0:V->List V->Hp->VK->Prop:=fun x vs H Q=>∃a b ax more,x=.ref a/\vs=[.ref b]/\a≠b/\H a=some (.dK ax)/\H b=some (.dK more)/\ax.length+more.length<=zds/\Q .cC (upd H a (.dK (iB ax more)))
theorem Ia:Ux X "dict.update" N0:=by
 intro pins s σ H x vs v us Q I rx rv h;obtain⟨a,b,ax,more,rfl,rfl,Gq,ha,hb,hz,q⟩:=h;cases rx;obtain⟨u,rfl,ru⟩:=rv.one;cases ru;obtain⟨z,hd,vs,rel,dd⟩:=FX I.cM ha;obtain⟨z2,hd2,vs2,UX,Tc⟩:=FX I.cM hb;refine call_meetsIn zcL dd.typeIs PySem.F.entry_dict_update (PySem.F.args_dict_update_2 _ _) (meets_dict_update (bT X.prog X.w) a b Gq hd2) ⟨vs,vs2,dd,Tc,by rw[<- rel.length,<- UX.length];exact hz,fun h' FY _ hs=>?_⟩;have he:∃q,h'.get? a=some q:=let ⟨q,_,_,hq,_⟩:=FY;⟨q,hq⟩;exact⟨.cC,_,kZ (t':=s.toks) I (by rw[ha];exact True.intro) hs he (xk (zaC (gU more ax) hz) hd (UX.merge rel) FY),rfl,q⟩
end
theorem xI{ax:List (Key×V)}{k:Key}{v:V}(h:k ∉ ax.map (·.1)):putK ax k v=ax++[(k,v)]:=by
 unfold putK;rw[zzn];intro z;rw[List.any_eq_true] at z;obtain⟨x,hx,e⟩:=z;exact h (zaF.mpr ⟨x,hx,of_decide_eq_true e⟩)
theorem ie:∀(more ax:List (Key×V)),((ax++more).map (·.1)).Nodup->iB ax more=ax++more
 |[],ax,_=>by simp[iB]
 |p::r,ax,h=>by
  have hp:p.1 ∉ ax.map (·.1):=fun z=>by
   rw[zaw,zbS] at h;exact h.2.2 _ z _ (by simp) rfl
  show iB (putK ax p.1 p.2) r=_;rw[xI hp,ie r _ (by rw[za2];exact h),za2];rfl
def cU (ss:List bG) (vs:List V):List (Key×V):=zbd (fun s v=>(Sum.inl s.row,v)) ss vs
theorem ig:∀(ss:List bG) (vs:List V),vs.length=ss.length->(cU ss vs).map (·.1)=ss.map fun s=>(Sum.inl s.row:Key)
 |[],[],_=>rfl
 |[],_::_,h=>by simp at h
 |_::_,[],h=>by simp at h
 |s::ss,v::vs,h=>by
  show _::(cU ss vs).map (·.1)=_;rw[ig ss vs (by simpa using h)];rfl
theorem qp:∀(ss tt:List bG) (vs us:List V),vs.length=ss.length->cU (ss++tt) (vs++us)=cU ss vs++cU tt us
 |[],tt,[],us,_=>rfl
 |[],_,_::_,_,h=>by simp at h
 |_::_,_,[],_,h=>by simp at h
 |s::ss,tt,v::vs,us,h=>by
  show _::cU (ss++tt) (vs++us)=_::(cU ss vs++cU tt us);rw[qp ss tt vs us (by simpa using h)]
theorem rP{ss:List bG}(h:ss.Pairwise fun a b=>a.row<b.row):(ss.map fun s=>(Sum.inl s.row:Key)).Nodup:=by
 refine zbe.mpr (h.imp fun {a b} Gq e=>?_);have:=Sum.inl.inj e;lia
theorem pG:∀(ss:List bG) (vs:List V),vs.length=ss.length->ss.Pairwise (fun a b=>a.row<b.row)->∀i (hi:i<ss.length) v,vs[i]?=some v->cm (cU ss vs) (.inl ss[i].row)=some v
 |[],_,_,_,i,hi,_,_=>by simp at hi
 |_::_,[],h,_,_,_,_,_=>by simp at h
 |s::ss,v::vs,h,hp,0,hi,u,hu=>by
  simp at hu;subst hu;show cm ((_,v)::cU ss vs) _=_;exact cu rfl
 |s::ss,v::vs,h,hp,i+1,hi,u,hu=>by
  rw[List.pairwise_cons] at hp;have lt:=hp.1 (ss[i]'(by simpa using hi)) (zau _);show cm ((.inl s.row,v)::cU ss vs) (.inl (ss[i]'(by simpa using hi)).row)=_;rw[cw (fun e=>by have e:=Sum.inl.inj e;lia)];exact pG ss vs (by simpa using h) hp.2 i (by simpa using hi) u (by simpa using hu)
theorem Gr(s:bG):nA s=s::(aK s).flatMap az:=by
 cases s<;>simp[nA,aK]
section
variable(K:zaa)
def AW (n:Nat):Sp:=fun vs H Q _=>∃(b:zdk) (body:List bG) (H0:Hp),vs=[.ref b]/\aq H0 H/\Rep K H0 (.lst (body.map dH)) (.ref b)/\fX body<n/\(bV body).length<=1000/\(az body).Pairwise (fun a b=>a.row<b.row)/\
 ∀d us H',aq H H'->H d=none->us.length=(az body).length->H' d=some (.dK (cU (az body) us))->aN K H0 ((az body).map dH) us->Q (.ref d) H'
def qr (n:Nat):Sp:=fun vs H Q _=>∃(b:zdk) (body:List bG) (H0:Hp),vs=[.ref b]/\aq H0 H/\Rep K H0 (.lst (body.map dH)) (.ref b)/\fX body<n/\(bV body).length<=1000/\
 ∀l us H',aq H H'->H l=none->H' l=some (.lst us)->aN K H0 ((az body).map dH) us->Q (.ref l) H'
end
theorem N1{K:zaa}{H:Hp}:∀(s:bG) {v:V},Rep K H (dH s) v->∃a xs,v=.ref a/\bQ K H a xs/\2<=xs.length/\xs.length<=7/\xs[1]?=some (.int s.row)/\aN K H ((aK s).map fun b=>.lst (b.map dH)) (jv xs (some 5) none):=by
 intro s v h;have cut:∀xs:List V,jv xs (some 5) none=xs.drop 5:=fun xs=>by
  unfold jv;rw[HT.oU,show (5:Int)=((5:Nat):Int) from rfl,HT.qf];by_cases h:5<=xs.length
  ·rw[zcq h];exact zbw (by rw[zbN];lia)
  ·rw[Nat.min_eq_right (by lia),zcV (zaf _),zcV (by lia),List.take_nil]
 cases s with
 |ask k b=>
  simp only[dH,Rep.bg,aN.aI,aN.br,Rep.bA,Rep.bt] at h;obtain⟨a,xs,rfl,hS,_,_,rfl,rfl,_,_,rfl,rfl,_,_,rfl,rfl,rfl⟩:=h;exact⟨a,_,rfl,hS,by simp,by simp,rfl,by rw[cut];exact .nil⟩
 |put k b e=>
  simp only[dH,Rep.bg,aN.aI,aN.br,Rep.bA,Rep.bt] at h;obtain⟨a,xs,rfl,hS,_,_,rfl,rfl,_,_,rfl,rfl,_,_,rfl,_,_,_,rfl,_,rfl⟩:=h;exact⟨a,_,rfl,hS,by simp,by simp,rfl,by rw[cut];exact .nil⟩
 |say k e=>
  simp only[dH,Rep.bg,aN.aI,aN.br,Rep.bA,Rep.bt] at h;obtain⟨a,xs,rfl,hS,_,_,rfl,rfl,_,_,rfl,rfl,_,_,rfl,_,rfl⟩:=h;exact⟨a,_,rfl,hS,by simp,by simp,rfl,by rw[cut];exact .nil⟩
 |cg k sg l r=>
  simp only[dH,Rep.bg,aN.aI,aN.br,Rep.bA,Rep.bt] at h;obtain⟨a,xs,rfl,hS,_,_,rfl,rfl,_,_,rfl,rfl,_,_,rfl,_,_,_,rfl,_,_,_,rfl,_,rfl⟩:=h;exact⟨a,_,rfl,hS,by simp,by simp,rfl,by rw[cut];exact .nil⟩
 |stop k=>
  simp only[dH,Rep.bg,aN.aI,aN.br,Rep.bA,Rep.bt] at h;obtain⟨a,xs,rfl,hS,_,_,rfl,rfl,_,_,rfl,rfl,rfl⟩:=h;exact⟨a,_,rfl,hS,by simp,by simp,rfl,by rw[cut];exact .nil⟩
 |ifs k sg l r x y=>
  simp only[dH,Rep.bg,aN.aI,aN.br,Rep.bA,Rep.bt] at h;obtain⟨a,xs,rfl,hS,_,_,rfl,rfl,_,_,rfl,rfl,_,_,rfl,_,_,_,rfl,_,_,_,rfl,_,_,_,rfl,h5,_,_,rfl,h6,rfl⟩:=h;rw[fJ] at h5 h6;exact⟨a,_,rfl,hS,by simp,by simp,rfl,by rw[cut];exact .cons h5 (.cons h6 .nil)⟩
 |fc k sg l r x=>
  simp only[dH,Rep.bg,aN.aI,aN.br,Rep.bA,Rep.bt] at h;obtain⟨a,xs,rfl,hS,_,_,rfl,rfl,_,_,rfl,rfl,_,_,rfl,_,_,_,rfl,_,_,_,rfl,_,_,_,rfl,h5,rfl⟩:=h;rw[fJ] at h5;exact⟨a,_,rfl,hS,by simp,by simp,rfl,by rw[cut];exact .cons h5 .nil⟩
theorem K2{K:zaa}{tl:TE}{g:TG}{tb:TS}{D:Ends}{σ:St}{H:Hp} (h:∀U:zdk->Hp->Prop,(∀a H1,(∃W:Nat->Nat->St->Hp->Prop,(∃m,W 0 m σ H1)/\∀i m σ H,W i m σ H->
 ((Pk K a).stop i H/\D.nx σ H)\/((Pk K a).go i H/\∃N:St->Hp->Prop,(∀σ' H',N σ' H'->∃m',m'<m/\W (i+1) m' σ' H')/\∀x H',(Pk K a).zw i H x H'->g x σ H' fun σ2 H2=>tb {D with nx:=N,ct:=N,bk:=D.nx} σ2 H2))->U a H1)->
 tl σ H fun x H1=>∃a,x=.ref a/\(∃xs,bQ K H1 a xs)/\U a H1):Hf (Uc K tl) g tb D σ H:=h _ fun _ _ x=>x
theorem pH:∀a b:List bG,az (a++b)=az a++az b
 |[],b=>by simp[az]
 |s::r,b=>by
  show az (s::(r++b))=_;rw[az,az,pH r b,za2]
theorem CD(s:bG):az [s]=nA s:=by rw[az,az,zav]
theorem mE(b:List bG):(az b).length=(bV b).length:=by rw[<- fQ,zad]
end L2
namespace HT
open PG
open PySem PySem.Spec PyProof.Rows
section
variable{prog:zdw}{w:zdm}{A:zdv}{E:zdl->zdu->Prop}{s:zdu}
theorem qG{t sl:zdk}{items:Array zdl}{vl vu:zdl}{lo hi:Option Int}{Q:zdl->zdu->Prop}(ht:IsTup s.heap t items)(hs:s.heap.IsSliceOf sl vl vu .none)(pl:IsPart vl lo)(pu:IsPart vu hi)
 (hw:gO items.size 0 lo=0/\gO items.size items.size hi=items.size) (h:Q (.ref t) s):wpAny (model prog w) A (getItem (.ref t) (.ref sl)) Q E s:=by
 have hj:gO items.size items.size hi<=items.size:=JJ _ _ (zaf _) hi;obtain⟨os,Rc,WV,Ut⟩:=id hs;have Yt:s.TypeIs (.ref sl) "slice":=⟨os,Rc,WV⟩
 unfold getItem
 try with_reducible refine zdp ?_
 first |refine zdn (zdo ?_) |skip
 refine zdn (wpAny_sequenceKey ht.typeIs (by decide) ?_);refine zdn (wpAny_callSpecial?_slot (name:=zab "__getitem__") ht.typeIs zbp
  (wpAny_call_entry zbp ht.typeIs entry_tuple_getitem ?_ (args_tuple_getitem _ _)))
 show wpAny _ _ (Builtin.Tuple.tupleItemsOf (.ref t) >>= _) _ _ s;refine zdn (tupleItemsOf_ ht ?_);refine zdn (wpAny_typeOf Yt ?_);rw[zzp (by decide)];refine zdn (mv hs pl pu ?_);have YO:((((gO items.size 0 lo:Nat):Int)==0&&(1:Int)==1&&(gO items.size items.size hi-gO items.size 0 lo)==items.size)=true):=by
  rw[hw.1,hw.2];simp
 show wpAny _ _ (if (((gO items.size 0 lo:Nat):Int)==0&&(1:Int)==1&&(gO items.size items.size hi-gO items.size 0 lo)==items.size)=true then _ else _) _ _ s;rw[zzp YO];refine zdn (m:=Builtin.Tuple.tupleIsExact _) ?_;unfold Builtin.Tuple.tupleIsExact;refine zdn (wpAny_typeOf ht.typeIs (zdo ?_));rw[zzp (by simp)]
 first
  |exact zdn (wpAny_rule (zdo ⟨_,rfl,zdo h⟩))
  |exact zdn (zdo (zdo ⟨_,rfl,zdo h⟩))
end
end HT
namespace L2
open PG
open PySem PySem.Spec PyProof.Rows
def UY (K:zaa):V->Option Int->Option Int->Hp->VK->Prop:=fun x lo hi H Q=>∃a xs,x=.ref a/\bQ K H a xs/\
 ((HT.gO xs.length 0 lo=0/\HT.gO xs.length xs.length hi=xs.length)->Q (.ref a) H)/\
 (¬(HT.gO xs.length 0 lo=0/\HT.gO xs.length xs.length hi=xs.length)->∀p,H p=none->Q (.ref p) (upd H p (.tup (jv xs lo hi))))
theorem N2{X:Cx}:Uu X (UY X.K):=by
 intro pins s σ H x v vl vu lo hi sl Q I rx hs pl pu h;obtain⟨a,xs,rfl,hx,h1,h2⟩:=h;by_cases hw:HT.gO xs.length 0 lo=0/\HT.gO xs.length xs.length hi=xs.length
 ·cases rx;obtain⟨bC,r,ht,hz⟩:=I.tuple hx;have hlen:bC.toArray.size=xs.length:=by rw[zas];exact r.length.symm
  refine⟨"tuple",_,zbp.lookup,ht.typeIs,?_⟩;exact HT.qG ht hs pl pu (by rw[hlen];exact hw) ⟨.ref a,H,I,rfl,h1 hw⟩
 ·exact JM pins s σ H (.ref a) v vl vu lo hi sl Q I rx hs pl pu ⟨a,xs,rfl,hx,hw,h2 hw⟩
def tT {α β γ:Type} (R:α->β->γ->Prop):List α->List β->List γ->Prop
 |[],[],[]=>True
 |a::as,b::bs,c::cs=>R a b c/\tT R as bs cs
 |_,_,_=>False
section
variable{α β γ:Type}{R S:α->β->γ->Prop}
theorem tT.br{bs:List β}{cs:List γ}:tT R [] bs cs↔bs=[]/\cs=[]:=by
 cases bs<;>cases cs<;>simp[tT]
theorem tT.aI{a:α}{as:List α}{bs:List β}{cs:List γ}:tT R (a::as) bs cs↔∃b W2 c W4,bs=b::W2/\cs=c::W4/\R a b c/\tT R as W2 W4:=by
 constructor
 ·intro h;cases bs with
  |nil=>simp[tT] at h
  |cons b bs=>
   cases cs with
   |nil=>simp[tT] at h
   |cons c cs=>exact⟨b,bs,c,cs,rfl,rfl,h.1,h.2⟩
 ·rintro ⟨b,W2,c,W4,rfl,rfl,h1,h2⟩
  exact⟨h1,h2⟩
theorem tT.length:∀ {as:List α} {bs:List β} {cs:List γ},tT R as bs cs->bs.length=as.length/\cs.length=as.length
 |[],_,_,h=>by obtain⟨rfl,rfl⟩:=tT.br.mp h;exact⟨rfl,rfl⟩
 |a::as,_,_,h=>by
  obtain⟨b,W2,c,W4,rfl,rfl,_,h2⟩:=tT.aI.mp h;have:=tT.length h2;simp[this]
end
section
variable{K:zaa}{H H':Hp}{O:zdk->Prop}
theorem Ib(hO:∀g,O g->∃ys,H g=some (.lst ys))(u:ba O H H'){a:zdk}{ys:List V}(q:bQ K H a ys):bQ K H' a ys:=by
 rcases q with (q |⟨o,q⟩) |q
 ·exact .inl (.inl (u _ _ (fun z=>by obtain⟨_,e⟩:=hO a z;rw[e] at q;cases q) q))
 ·exact .inl (.inr ⟨o,u _ _ (fun z=>by obtain⟨_,e⟩:=hO a z;rw[e] at q;cases q) q⟩)
 ·exact .inr q
mutual
theorem zX(hO:∀g,O g->∃ys,H g=some (.lst ys))(u:ba O H H'):∀(d:Dp) (v:V),HW d=true->Rep K H d v->Rep K H' d v
 |.cC,v,_,r=>by rw[Rep.qi] at r ⊢;exact r
 |.bl b,v,_,r=>by rw[Rep.lQ] at r ⊢;exact r
 |.int b,v,_,r=>by rw[Rep.bt] at r ⊢;exact r
 |.str b,v,_,r=>by rw[Rep.bA] at r ⊢;exact r
 |.lst l,v,e,_=>by rw[HW] at e;cases e
 |.tup l,v,e,r=>by
  rw[HW] at e;rw[Rep.bg] at r ⊢;obtain⟨a,ys,rfl,q,rs⟩:=r;exact⟨a,ys,rfl,Ib hO u q,rQ hO u l ys e rs⟩
theorem rQ(hO:∀g,O g->∃ys,H g=some (.lst ys))(u:ba O H H'):∀(ds:List Dp) (vs:List V),pE ds=true->aN K H ds vs->aN K H' ds vs
 |[],vs,_,r=>by rw[aN.br] at r ⊢;exact r
 |d::ds,vs,e,r=>by
  rw[pE,zbc] at e;rw[aN.aI] at r ⊢;obtain⟨v,t,rfl,r1,r2⟩:=r;exact⟨v,t,rfl,zX hO u d v e.1 r1,rQ hO u ds t e.2 r2⟩
end
end
theorem xJ{K:zaa}{a D:zdk}{xs:List V}{te:TE}{Q:VK}{r:St}{H:Hp}(Pv:Nat->List V->Hp->Prop)(hS:i7 K H a xs)(hl:xs.length<=16000000)(hD:H D=none)(h0:Pv 0 [] (upd H D (.lst [])))
 (step:∀i x ys H2,xs[i]?=some x->aq H H2->H2 D=some (.lst ys)->ys.length=i->Pv i ys H2->∀R:VK,(∀v H3,aq H2 H3->Pv (i+1) (ys++[v]) (upd H3 D (.lst (ys++[v])))->R v H3)->te (some x::r) H2 R)
 (q:∀ys H2,aq H H2->H2 D=some (.lst ys)->Pv xs.length ys H2->Q (.ref D) H2):vM (Je K a) D (eM 0) AL te Q (none::r) (upd H D (.lst [])):=by
 refine⟨fun i m τ H2=>m=xs.length-i/\i<=xs.length/\(∃x,τ=x::r)/\aq H H2/\∃ys,H2 D=some (.lst ys)/\ys.length=i/\Pv i ys H2,⟨xs.length,by simp,za0 _,⟨none,rfl⟩,aq.new hD _,[],ae,rfl,h0⟩,?_⟩
 rintro i m τ H2 ⟨rfl,hi,⟨x,rfl⟩,s2,ys,h2,ly,p2⟩
 by_cases oC:i<xs.length
 ·refine .inr ⟨⟨xs,xs[i],s2.seq hS,by simp[oC]⟩,fun τ' H'=>(∃x,τ'=x::r)/\aq H H'/\∃ys,H' D=some (.lst ys)/\ys.length=i+1/\Pv (i+1) ys H',fun τ' H' ⟨h1,h3,h4⟩=>⟨xs.length-(i+1),by lia,rfl,oC,h1,h3,h4⟩,fun y H' hy=>?_⟩;obtain⟨rfl,hy⟩:=hy;have ey:=hy _ (s2.seq hS);simp only[eM,zaT,AL];rw[zzp trivial];refine step i y ys _ ey s2 h2 ly p2 _ fun v H3 s3 p3=>⟨ys,s3 _ _ h2,?_,⟨_,rfl⟩,?_,ys++[v],ae,by simp[ly],p3⟩
  ·have:zds=2 ^ 24:=rfl;lia
  ·intro b o e;rw[aw (ai e hD)];exact s3 _ _ (s2 _ _ e)
 ·have e:i=xs.length:=by lia
  subst e;exact .inl ⟨⟨xs,s2.seq hS,zaf _⟩,q ys H2 s2 h2 p2⟩
end L2
namespace L2
open PG
open PySem
theorem Gs:∀l:List Int,PyData.canLayAll0 (Dp.uR (l.map Dp.int))=true/\PyData.depthAll (Dp.uR (l.map Dp.int))=0
 |[]=>by simp[Dp.uR,PyData.canLayAll0,PyData.depthAll]
 |i::r=>by
  obtain⟨h1,h2⟩:=Gs r;simp[Dp.uR,Dp.py,PyData.canLayAll0,PyData.depthAll,PyData.canLay0,PyData.depth,h1,h2]
theorem Ic{X:Cx}{K:zaa}(e:X.K=K):mq X (.builtin "isinstance") (fun xs H Q=>∃x T t b,xs=[x,.ty T]/\sU K H x t/\zc6 K t (.type T)=some b/\Q (.bl b) H):=by
 subst e;exact Cc
theorem CF{K:zaa}{H:Hp}{fl:List dM}{fv:List V}(g2:aN K H (fl.map eJ) fv){i:Nat}{y:V}(hi:fv[i]?=some y)(li:i<fl.length) :
 ∃a p,y=.ref a/\bQ K H a [.int fl[i].1,.str (gg fl[i].2.1),.ref p]/\bQ K H p (fl[i].2.2.map V.int):=by
 obtain⟨v',DD,rv⟩:=g2.get (i:=i) (d:=eJ fl[i]) (by rw[zam,zac li];rfl);rw[hi] at DD;cases DD;unfold eJ at rv;rw[Rep.bg] at rv;obtain⟨a,xs,rfl,hx,rs⟩:=rv;rw[aN.aI] at rs;obtain⟨v1,t1,rfl,r1,rs⟩:=rs;rw[aN.aI] at rs;obtain⟨v2,t2,rfl,r2,rs⟩:=rs;rw[aN.aI] at rs;obtain⟨v3,t3,rfl,r3,rs⟩:=rs;rw[aN.br] at rs;rw[Rep.bt] at r1;rw[Rep.bA] at r2;obtain⟨p,ys,rfl,hp,ry⟩:=Rep.bg.mp r3;subst r1 r2 rs;have key:∀ {l:List Int} {ys:List V},aN K H (l.map Dp.int) ys->ys=l.map V.int:=by
  intro l
  induction l with
  |nil=>intro ys h;rw[za3,aN.br] at h;exact h
  |cons i r ih=>
   intro ys h;rw[zal,aN.aI] at h;obtain⟨v,t,rfl,h1,h2⟩:=h;rw[Rep.bt] at h1;rw[h1,ih h2];rfl
 rw[key ry] at hp;exact⟨a,p,rfl,hx,hp⟩
end L2
namespace L3
open PG
open PySem PyProof.Rows
theorem N3:typeLookup (.type "list") "keys"=pure none:=by rw[typeLookup_type,builtinLookup_eq_fast];kernel_rfl
theorem N4:typeLookup (.type "list") "__getattr__"=pure none:=by rw[typeLookup_type,builtinLookup_eq_fast];kernel_rfl
section
variable{prog:zdw}{w:zdm}{A:zdv}{E:zdl->zdu->Prop}
theorem K3(a:zdk)(u:Tok){hp:Heap}{g:Array GenState}{d:Drawn}{tk:Nat}{os:OsState}{bC:Array zdl}{n:Nat}{sl:Array (Option zdl)}{Q:Fin->zdu->Prop}(hx:hp.get? a=some ⟨.type "list",none,.seq bC n,sl⟩)(hA:A.handled=none)
 (h:∀h' N6 e,Heap.NewAttrErr hp h' e (.ref a) "keys"->E (.ref e) ⟨h',g,d,N6,os⟩) :
 wpAny (model prog w) A (Builtin.«object.__getattribute__» ⟨[.ref a,.str "keys" u],[]⟩) Q E ⟨hp,g,d,tk,os⟩:=by
 have hT:(⟨hp,g,d,tk,os⟩:zdu).TypeIs (.ref a) "list":=⟨_,hx,rfl⟩
 have f4:=N3;unfold Builtin.«object.__getattribute__»
 repeat (any_goals (first |assumption |wp_step))
 exact wpAny_raiseAttrError hA h (attrMsg_fits (by decide +kernel) (by size_fits))
theorem Ie(a:zdk){s:zdu}{bC:Array zdl}{n:Nat}{sl:Array (Option zdl)}{Q:Option zdl->zdu->Prop}(hx:s.heap.get? a=some ⟨.type "list",none,.seq bC n,sl⟩)(hA:A.handled=none)
 (h:∀h' tk,(∀b ob,s.heap.get? b=some ob->h'.get? b=some ob)->Q none {s with heap:=h',toks:=tk}):wpAny (model prog w) A (getAttr? (.ref a) "keys") Q E s:=by
 obtain⟨hp,g,d,tk,os⟩:=s;have hT:∀N6,(⟨hp,g,d,N6,os⟩:zdu).TypeIs (.ref a) "list":=fun _=>⟨_,hx,rfl⟩
 have f1:=sub_AttributeError;have f2:=F.slot_list_getattribute.lookup;have f3:=F.slot_list_getattribute.bind (.ref a);have f5:=N4;unfold getAttr? getAttrBy? getAttrBy
 repeat (any_goals (first |assumption |exact hT _ |wp_step))
 all_goals
  refine codeAny_call_builtin F.slot_list_getattribute.plain F.entry_list_ga (F.slot_list_getattribute.check _ _ _ _ _ _ _ _ (show (⟨hp,g,d,tk+1,os⟩:zdu).TypeIs (.ref a) "list" from ⟨_,hx,rfl⟩) (F.args_list_getattribute_2 _ _) ?_)
 all_goals
  refine K3 a tk hx hA fun h' N6 e ne=>?_
 all_goals
  obtain⟨t',u',he⟩:=ne.there;show wpAny _ _ (getattributeRaised _ _ _ _ _ _ _) _ _ _;unfold getattributeRaised
  repeat (any_goals (first |assumption |wp_step))
 all_goals exact h _ _ ne.keeps
theorem nE:entryFor table "dict.update.loop"=some Builtin.«dict.update.loop»:=entryFor_of_tree (by kernel_rfl)
theorem gw:plainId "dict.update.loop"=true:=by decide +kernel
theorem CG{κ:Type}[DecidableEq κ](knd:KeyKind prog w κ)(d it l:zdk)(items:Array zdl)(res:zdl)(hA:A.handled=none)(DE:it≠d){R:Result->zdu->Prop}:∀(r:List (zdk×κ×zdl×zdl)) (i:Nat) (j:Int) (u:Tok) (ax:List (κ×zdl)) (s:zdu),
 items.toList.drop i=r.map (fun q=>Value.ref q.1)->(∀q∈r,s.heap.IsTuple q.1 #[q.2.2.1,q.2.2.2]/\knd.is q.2.1 q.2.2.1=true)->s.heap.IsListIter it l i->s.heap.IsList l items->s.heap.DictOf knd d ax->ax.length+r.length<=zds->
 (∀h' tk,h'.DictOf knd d (merged ax (r.map fun q=>(q.2.1,q.2.2.2)))->(∀b o,b≠d->b≠it->s.heap.get? b=some o->h'.get? b=some o)->R (.ok (.ret res)) {s with heap:=h',toks:=tk})->
 codeAny (model prog w) A (.builtin "dict.update.loop" ⟨[.ref d,.ref it,.int j u,res],[]⟩) R s
 |[],i,j,u,ax,s,hi,hp,hit,hl,hd,hz,hR=>by
  refine codeAny_builtin nE ?_;rw[Around.under_plainId gw _];show wpAny _ A.in1 (pyNext (.ref it) >>= _) _ _ s;refine zdn (wpAny_pyNext_list_end hA hit hl (by rw[<- zaZ];rw[za3] at hi;exact zbA (zc9.mp hi)) fun h' ext=>?_);show wpAny _ _ (Builtin.Dict.addKeywords d [] >>= _) _ _ _;refine zdn (zdo (zdo (hR h' s.toks ?_ fun b o _ h2 e=>?_)))
  ·obtain⟨o,es,ep,ho,rest⟩:=hd;exact⟨o,es,ep,ext d o DE.symm ho,rest⟩
  ·exact ext b o h2 e
 |q::r,i,j,u,ax,s,hi,hp,hit,hl,hd,hz,hR=>by
  have hx:items[i]?=some (Value.ref q.1):=by
   rw[<- zaZ,<- zcR,hi];rfl
  refine codeAny_builtin nE ?_;rw[Around.under_plainId gw _];show wpAny _ A.in1 (pyNext (.ref it) >>= _) _ _ s;refine zdn (wpAny_pyNext_list_item hit hl hx fun h' Rx sb=>?_);obtain⟨⟨oq,YQ,YR,nq,hdq⟩,kq⟩:=hp q (zaq ..);have niq:q.1≠it:=fun z=>by
   obtain⟨oi,RG,UZ,_⟩:=hit;rw[z,RG] at YQ;cases YQ;rw[UZ] at YR;exact zzb (Value.type.inj YR) (by decide)
  have U0:h'.get? q.1=some oq:=(sb.2 _ niq).trans YQ;have DM:h'.DictOf knd d ax:=by
   obtain⟨o,es,ep,ho,rest⟩:=hd;exact⟨o,es,ep,(sb.2 d DE.symm).trans ho,rest⟩
  show wpAny _ A.in1 (holding [Value.ref q.1] _ >>= _) _ _ _;refine zdn (zdp (zdn (wpAny_tryCatch ?_)));unfold Builtin.Dict.pairItems;refine zdn (wpAny_typeOf (T:="tuple") ⟨oq,U0,YR⟩ ?_);rw[zzp (by decide)];refine zdn (wpAny_seqItems (s:={s with heap:=h' }) U0 hdq (zdo ?_));show wpAny _ A.in1 (holding [q.2.2.1,q.2.2.2] (dictSet d q.2.2.1 q.2.2.2)) _ _ _;refine zdp (wpAny_dictSet_pairs (s:={s with heap:=h' }) kq DM (fun h2 hd2 RH=>?_) (by simp only[zah] at hz;lia));refine zdo ⟨plainId_quiet gw _,?_⟩;refine CG knd d it l items res hA DE r (i+1) (j+1) _ _ _ ?_ (fun p W5=>?_) ?_ ?_ hd2 ?_ fun h3 tk MY keep=>hR h3 tk MY fun b o n1 n2 e=>keep b o n1 n2 ?_
  ·rw[<- zc2,hi];rfl
  ·obtain⟨⟨op,Va,YS,np,YT⟩,kp⟩:=hp p (zat _ W5);refine⟨⟨op,?_,YS,np,YT⟩,kp⟩;have n1:p.1≠it:=fun z=>by
    obtain⟨oi,RG,UZ,_⟩:=hit;rw[z,RG] at Va;cases Va;rw[UZ] at YS;exact zzb (Value.type.inj YS) (by decide)
   have n2:p.1≠d:=fun z=>by
    obtain⟨od,_,_,N9,_,ED,_⟩:=hd;rw[z,N9] at Va;cases Va;rw[ED] at YT;cases YT
   exact(RH.2 _ n2).trans ((sb.2 _ n1).trans Va)
  ·obtain⟨oi,RG,rest⟩:=Rx;exact⟨oi,(RH.2 _ DE).trans RG,rest⟩
  ·obtain⟨ol,MZ,Tj,nl,YU⟩:=hl;have n1:l≠it:=fun z=>by
    obtain⟨oi,RG,UZ,_⟩:=hit;rw[z,RG] at MZ;cases MZ;rw[UZ] at Tj;exact zzb (Value.type.inj Tj) (by decide)
   have n2:l≠d:=fun z=>by
    obtain⟨od,_,_,N9,_,ED,_⟩:=hd;rw[z,N9] at MZ;cases MZ;rw[ED] at YU;cases YU
   exact⟨ol,(RH.2 _ n2).trans ((sb.2 _ n1).trans MZ),Tj,nl,YU⟩
  ·have:=stored_length_le ax q.2.1 q.2.2.2;simp only[zah] at hz;lia
  ·exact(RH.2 _ n1).trans ((sb.2 _ n2).trans e)
theorem dict_list{κ:Type}[DecidableEq κ](knd:KeyKind prog w κ)(l:zdk){s:zdu}{items:Array zdl}{n:Nat}{sl:Array (Option zdl)}{Q:zdl->zdu->Prop}(hA:A.handled=none)(r:List (zdk×κ×zdl×zdl))(hx:s.heap.get? l=some ⟨.type "list",none,.seq items n,sl⟩)
 (hi:items.toList=r.map (fun q=>Value.ref q.1)) (hp:∀q∈r,s.heap.IsTuple q.1 #[q.2.2.1,q.2.2.2]/\knd.is q.2.1 q.2.2.1=true) (hz:r.length<=zds)
 (h:∀h' tk,h'.DictOf knd s.heap.objs.size (merged [] (r.map fun q=>(q.2.1,q.2.2.2)))->(∀b o,s.heap.get? b=some o->h'.get? b=some o)->Q (.ref s.heap.objs.size) {s with heap:=h',toks:=tk}) :
 wpAny (model prog w) A (call (.type "dict") [.ref l]) Q E s:=by
 refine callType_codes (Q₁:=fun obj s₁=>obj=.ref s.heap.objs.size/\s₁={s with heap:=s.heap.push {cls:=.type "dict",data:=.dict #[]} }) F.kt_called_dict (F.kt_typeCall_dict_1 _) F.entry_dict_init (kt_code_dict_new _ ⟨rfl,rfl⟩) ?_
 rintro obj s₁ ⟨rfl,rfl⟩
 have EE:(s.heap.push {cls:=.type "dict",data:=.dict #[]}).DictOf knd s.heap.objs.size []:=Heap.DictOf.new s.heap;have qJ:∀b o,s.heap.get? b=some o->(s.heap.push {cls:=.type "dict",data:=.dict #[]}).get? b=some o:=fun b o e=>Heap.get?_push_of_some _ e;refine⟨EE.typeIs,F.args_dict_init_2 _ _,?_⟩;unfold Builtin.«dict.__init__»;refine zdn ?_;unfold Builtin.Dict.selfAndRest;refine zdn (wpAny_notOrdered_dict EE.typeIs ?_);show wpAny _ _ (pure (s.heap.objs.size,[Value.ref l])) _ _ _;refine zdo ?_;show wpAny _ _ (Builtin.Dict.updateFrom "dict.__init__" s.heap.objs.size (.ref l) [] .none) _ _ _;unfold Builtin.Dict.updateFrom;refine zdn (wpAny_typeOf (T:="list") ⟨_,qJ _ _ hx,rfl⟩ ?_);rw[zzp (by decide)];refine zdn (Ie (n:=n) (sl:=sl) l (qJ _ _ hx) hA fun h2 Vb qK=>?_);rw[zzp (show (none:Option zdl).isNone=true from rfl)];refine zdn (wpAny_rule ?_);have Em:h2.IsList l items:=⟨_,qK _ _ (qJ _ _ hx),rfl,n,rfl⟩
 have hd2:h2.DictOf knd s.heap.objs.size []:=by
  obtain⟨o,es,ep,ho,rest⟩:=EE;exact⟨o,es,ep,qK _ _ ho,rest⟩
 refine zdn (wpAny_pyIter_list (s:={s with heap:=h2,toks:=Vb}) Em ?_);have Gu:∀b o,h2.get? b=some o->(h2.push {cls:=.type "list_iterator",data:=.fields #[.ref l,.int 0 0]}).get? b=some o:=fun b o e=>Heap.get?_push_of_some _ e;have nd:h2.objs.size≠s.heap.objs.size:=by
  obtain⟨o,es,ep,ho,_⟩:=hd2;exact fun e=>zzb (Heap.lt_size ho) (by rw[e];exact zaW _)
 refine zdo ⟨plainId_quiet gw _,?_⟩;refine CG (A:=A.in1) knd s.heap.objs.size h2.objs.size l items .none hA nd r 0 0 _ [] _ (by simpa using hi) (fun q hq=>?_) ⟨_,Heap.get?_push_size _ rfl,rfl,rfl⟩ ?_ ?_ (by simpa using hz) fun h4 YV YW K4=>?_
 ·obtain⟨⟨o,ho,rest⟩,kq⟩:=hp q hq;exact⟨⟨o,Gu _ _ (qK _ _ (qJ _ _ ho)),rest⟩,kq⟩
 ·obtain⟨o,ho,rest⟩:=Em;exact⟨o,Gu _ _ ho,rest⟩
 ·obtain⟨o,es,ep,ho,rest⟩:=hd2;exact⟨o,es,ep,Gu _ _ ho,rest⟩
 ·refine⟨rfl,h h4 YV YW fun b o e=>K4 b o (fun z=>?_) (fun z=>?_) (Gu _ _ (qK _ _ (qJ _ _ e)))⟩
  ·rw[z] at e;exact zzb (Heap.lt_size e) (zaW _)
  ·have:=Heap.lt_size (qK _ _ (qJ _ _ e));rw[z] at this;exact zzb this (zaW _)
end
end L3
namespace L2
open PG
open PySem PyProof.Rows
theorem rR{X:Cx}(hc:X.calm=true):mq X (.type "dict") (fun xs H Q=>∃(a:zdk) (ps:List (zdk×Key×V)),xs=[.ref a]/\i7 X.K H a (ps.map fun q=>V.ref q.1)/\(∀q∈ps,bQ X.K H q.1 [kV q.2.1,q.2.2])/\ps.length<=zds/\
 ∀p,H p=none->Q (.ref p) (upd H p (.dK (iB [] (ps.map fun q=>(q.2.1,q.2.2)))))):=by
 intro pins s σ H xs us Q I r h;obtain⟨a,ps,rfl,ha,hp,hz,q⟩:=h;obtain⟨u,rfl,ru⟩:=vals1 r;cases (show u=Value.ref a from ru);obtain⟨bC,v1,t1,_⟩:=I.list ha;obtain⟨⟨cls,dct,dat,sl⟩,n,e1,hc1,W6,Vc⟩:=t1;simp only at hc1 W6 Vc;subst hc1 W6 Vc;have mk:∀(l:List (zdk×Key×V)) (us:List zdl),Vals (l.map fun q=>V.ref q.1) us->(∀q∈l,bQ X.K H q.1 [kV q.2.1,q.2.2])->∃r:List (zdk×Key×zdl×zdl),us=r.map (fun q=>Value.ref q.1)/\r.length=l.length/\
  (∀q∈r,s.heap.IsTuple q.1 #[q.2.2.1,q.2.2.2]/\(bT X.prog X.w).is q.2.1 q.2.2.1=true)/\KV (l.map fun q=>(q.2.1,q.2.2)) (r.map fun q=>(q.2.1,q.2.2.2)):=by
  intro l
  induction l with
  |nil=>intro us v _;cases v;exact⟨[],rfl,rfl,fun _ z=>(by cases z),.nil⟩
  |cons x l ih=>
   intro us v hp;rw[zal] at v;cases v with
   |cons v1 v2=>
    obtain⟨r,e,lr,hr,kv⟩:=ih _ v2 (fun q hq=>hp q (zat _ hq));obtain⟨tj,w1,tu,_⟩:=I.tuple (hp x (zaq ..));obtain⟨ku,vu,rfl,rk,rv⟩:=vals2 w1;cases v1;obtain⟨o,ho,hco,no,hdo⟩:=tu;refine⟨(x.1,x.2.1,ku,vu)::r,by rw[e];rfl,by simp[lr],fun q hq=>?_,.cons ⟨rfl,rv⟩ kv⟩;rcases zag.mp hq with rfl |hq
    ·exact⟨⟨o,ho,hco,no,hdo⟩,xj rk⟩
    ·exact hr q hq
 obtain⟨r',er,lr,hr,kv⟩:=mk ps bC v1 hp;refine L3.dict_list (bT X.prog X.w) a (I.ok.hd hc) r' e1 (by simpa using er) hr (by lia) fun h' tk dd keep=>?_;have hn:=I.cM.fresh (zaf s.heap.objs.size);have hb:(s.heap.objs.size==sysModules)=false:=beq_eq_false_iff_ne.mpr (Ne.symm (zaD I.big));refine⟨.ref s.heap.objs.size,_,I.laid keep (zaf _) (xk ?_ hb (kv.merge .nil) dd),rfl,q _ hn⟩;have h1:=gU (ps.map fun q=>(q.2.1,q.2.2)) [];rw[zaA,zad] at h1;lia
end L2
namespace L3
open PG
open PySem PyProof.Rows
section
variable{prog:zdw}{w:zdm}{A:zdv}{E:zdl->zdu->Prop}{s:zdu}
theorem xK{j tp:zdk}{k:Nat}{bC:Array zdl}{v:zdl}{Q:zdl->zdu->Prop}(hj:s.heap.IsTupleIter j tp k)(ht:s.heap.IsTuple tp bC)(hv:bC[k]?=some v)
 (hQ:∀h',h'.IsTupleIter j tp (k+1)->Heap.SameBut j s.heap h'->Q v {s with heap:=h' }):wpAny (model prog w) A (Builtin.SmallTypes.nextOf (.ref j)) Q E s:=by
 obtain⟨oj,gj,cj,dj⟩:=id hj;obtain⟨ot,gt,_,nt,dt⟩:=ht;unfold Builtin.SmallTypes.nextOf;refine zdn (wpAny_callSpecial?_slot (name:=zab "__next__") hj.typeIs F.slot_tuple_iterator_next (wpAny_call_entry F.slot_tuple_iterator_next hj.typeIs F.entry_tuple_iterator_next ?_ (F.args_tuple_iterator_next_1 _)));show wpAny _ _ (field (.ref j) 0 >>= _) _ _ s;refine zdn (wpAny_field gj dj (x:=.ref tp) rfl ?_);show wpAny _ _ (if (Value.ref tp==Value.none)=true then _ else _) _ _ s;rw[zzn (show ¬((Value.ref tp==Value.none)=true) from zai)];show wpAny _ _ (field (.ref j) 1 >>= _) _ _ s;refine zdn (wpAny_field gj dj (x:=.int k 0) rfl ?_);show wpAny _ _ (seqItems? (.ref tp) >>= _) _ _ s;refine zdn (wpAny_seqItems gt dt ?_);simp only[za1,hv];refine zdn (wpAny_setField gj dj (by simp) (zdo ⟨v,rfl,zdo (hQ _ ?_ (Heap.SameBut.update ..))⟩));exact⟨_,Heap.get?_update_self _ gj (Obj.isFreed_of_fields (Obj.data_mapFields dj _)),(Obj.cls_mapFields ..).trans cj,by rw[Obj.data_mapFields dj];simp[rawInt]⟩
abbrev AX (h:Heap) (z ti to:zdk) (f g:zdl):Prop:=h.get? z=some {cls:=.type "zip",dict:=none,data:=.fields #[f,g,.bool false,.ref ti,.ref to],slots:=#[]}
theorem CH{z ti to T:zdk}{u:Tok}{o:Obj}{g:Bool}{R:Bool->zdu->Prop}(hz:AX s.heap z ti to (.int T u) (.bool g))(hT:s.heap.get? T=some o)
 (h:∀h₀,AX h₀ z ti to (.int T u) (.bool true)->Heap.SameBut z s.heap h₀->R false {s with heap:=h₀}):wpAny (model prog w) A (Builtin.SmallTypes.ownedTupleIsFree (.ref z)) R E s:=by
 unfold Builtin.SmallTypes.ownedTupleIsFree;refine zdn (wpAny_field hz rfl (x:=.int T u) rfl ?_);show wpAny _ _ (loadIfAlive (T:Int).toNat >>= _) _ _ _;refine zdn ?_;have alive:∀ {R:Option Obj->zdu->Prop},R (some o) s->wpAny (model prog w) A (loadIfAlive (T:Int).toNat) R E s:=fun h=>by
  rw[za1];intro Γ p hp;unfold loadIfAlive;rw[Sem.wp_loadIfAlive,hT];exact h
 refine alive ?_;rw[zzn (by simp)];refine zdn (wpAny_field hz rfl (x:=.bool g) rfl ?_);cases g with
 |false=>
  rw[zzp (by decide)];exact zdn (wpAny_setField_rec hz (by simp) fun h₀ Gv sb=>zdo (h h₀ Gv sb))
 |true=>
  rw[zzn (by decide)];exact zdo (h s.heap hz (Heap.SameBut.refl _ _))
theorem EF{z ti to j1 j2 l tp T:zdk}{xs ys:Array zdl}{i:Nat}{u:Tok}{o:Obj}{g:Bool}{x y:zdl}{Q:zdl->zdu->Prop}(hz:AX s.heap z ti to (.int T u) (.bool g))(hT:s.heap.get? T=some o)(hI:IsPair s.heap ti (.ref j1) (.ref j2))
 (h1:s.heap.IsListIter j1 l i) (h2:s.heap.IsTupleIter j2 tp i) (hl:s.heap.IsList l xs) (ht:s.heap.IsTuple tp ys) (DF:z≠j1) (Oa:z≠j2) (PU:j1≠j2) (hx:xs[i]?=some x) (hy:ys[i]?=some y)
 (hQ:∀h',AX h' z ti to (.int T u) (.bool true)->h'.IsListIter j1 l (i+1)->h'.IsTupleIter j2 tp (i+1)->IsPair h' s.heap.objs.size x y->h'.objs.size=s.heap.objs.size+1->
  (∀c o,c≠z->c≠j1->c≠j2->s.heap.get? c=some o->h'.get? c=some o)->Q (.ref s.heap.objs.size) {s with heap:=h' }) :
 wpAny (model prog w) A (Builtin.«zip.__next__» ⟨[.ref z],[]⟩) (fun fin s'=>∃v,fin=.done (.ret v)/\Q v s') E s:=by
 have lz:l≠z:=fun e=>by
  obtain⟨q,gq,cq,_⟩:=hl;rw[e,hz] at gq;cases gq;exact zzb (Value.type.inj cq) (by decide)
 have lj1:l≠j1:=fun e=>by
  obtain⟨q,gq,cq,_⟩:=hl;obtain⟨r,gr,cr,_⟩:=h1;rw[e,gr] at gq;cases gq;rw[cr] at cq;exact zzb (Value.type.inj cq) (by decide)
 have tz:tp≠z:=fun e=>by
  obtain⟨q,gq,cq,_⟩:=ht;rw[e,hz] at gq;cases gq;exact zzb (Value.type.inj cq) (by decide)
 have YX:tp≠j1:=fun e=>by
  obtain⟨q,gq,cq,_⟩:=ht;obtain⟨r,gr,cr,_⟩:=h1;rw[e,gr] at gq;cases gq;rw[cr] at cq;exact zzb (Value.type.inj cq) (by decide)
 show wpAny _ _ (field (.ref z) 2 >>= _) _ _ _;refine zdn (wpAny_field hz rfl (x:=.bool false) rfl ?_);show wpAny _ _ (field (.ref z) 3 >>= _) _ _ _;refine zdn (wpAny_field hz rfl (x:=.ref ti) rfl ?_);refine zdn (wpAny_seqItems hI rfl ?_);show wpAny _ _ (Builtin.SmallTypes.ownedTupleIsFree (.ref z) >>= _) _ _ _;refine zdn (CH hz hT fun h₀ Gv qL=>?_);dsimp only;rw[zzn zai];refine zdn ?_;simp only[List.forIn_toArray,zba,zbL];refine zdn (zdn (zdp ?_));show wpAny _ _ (Builtin.SmallTypes.nextOf (.ref j1) >>= _) _ _ _;refine zdn (wpAny_nextOf_list_item (s:={s with heap:=h₀}) (h1.extBut qL.extBut DF.symm) (hl.extBut qL.extBut lz) hx fun h₂ Vd jA=>zdo ?_);refine zdo ?_;refine zdn (zdn (zdp ?_));show wpAny _ _ (Builtin.SmallTypes.nextOf (.ref j2) >>= _) _ _ _;have YY:h₂.IsTupleIter j2 tp i:=by
  obtain⟨q,gq,rest⟩:=h2;exact⟨q,jA.extBut _ _ PU.symm (qL.extBut _ _ Oa.symm gq),rest⟩
 have YZ:h₂.IsTuple tp ys:=(ht.extBut qL.extBut tz).extBut jA.extBut YX;refine zdn (xK (s:={s with heap:=h₂}) YY YZ hy fun h₃ Ve lq=>zdo ?_);refine zdo (zdo ?_);show wpAny _ _ (newTuple [x,y] >>= _) _ _ _;have hsz:h₃.objs.size=s.heap.objs.size:=by rw[lq.1,jA.1,qL.1]
 refine zdn (wpAny_newTuple (s:={s with heap:=h₃}) ?_);refine zdo ⟨_,rfl,?_⟩;show Q (.ref h₃.objs.size) _;have hp:IsPair (h₃.push {cls:=.type "tuple",data:=.seq #[x,y]}) h₃.objs.size x y:=Heap.get?_push_size _ rfl;have Vc:(h₃.push {cls:=.type "tuple",data:=.seq #[x,y]}).objs.size=h₃.objs.size+1:=Heap.size_push ..;rw[hsz] at hp Vc ⊢;have up:∀c o,h₃.get? c=some o->(h₃.push {cls:=.type "tuple",data:=.seq #[x,y]}).get? c=some o:=fun c o e=>Heap.get?_push_of_some _ e;refine hQ _ (up _ _ (lq.extBut _ _ Oa (jA.extBut _ _ DF Gv))) ?_ ?_ hp Vc fun c o c1 c2 c3 e=>up _ _ (lq.extBut _ _ c3 (jA.extBut _ _ c2 (qL.extBut _ _ c1 e)))
 ·obtain⟨q,gq,rest⟩:=Vd;exact⟨q,up _ _ (lq.extBut _ _ PU gq),rest⟩
 ·obtain⟨q,gq,rest⟩:=Ve;exact⟨q,up _ _ gq,rest⟩
theorem Ig{z ti to j1 j2 l T:zdk}{xs:Array zdl}{i:Nat}{u:Tok}{o:Obj}{g:Bool}{Q:Fin->zdu->Prop}(hA:A.handled=none)(hz:AX s.heap z ti to (.int T u) (.bool g))(hT:s.heap.get? T=some o)(hI:IsPair s.heap ti (.ref j1) (.ref j2))
 (h1:s.heap.IsListIter j1 l i) (hl:s.heap.IsList l xs) (DF:z≠j1) (hx:xs[i]?=none)
 (hE:∀h' e,(∀c o,c≠z->c≠j1->s.heap.get? c=some o->h'.get? c=some o)->(∃o,h'.get? e=some o/\o.cls=.type "StopIteration")->E (.ref e) {s with heap:=h' }) :
 wpAny (model prog w) A (Builtin.«zip.__next__» ⟨[.ref z],[]⟩) Q E s:=by
 have lz:l≠z:=fun e=>by
  obtain⟨q,gq,cq,_⟩:=hl;rw[e,hz] at gq;cases gq;exact zzb (Value.type.inj cq) (by decide)
 show wpAny _ _ (field (.ref z) 2 >>= _) _ _ _;refine zdn (wpAny_field hz rfl (x:=.bool false) rfl ?_);show wpAny _ _ (field (.ref z) 3 >>= _) _ _ _;refine zdn (wpAny_field hz rfl (x:=.ref ti) rfl ?_);refine zdn (wpAny_seqItems hI rfl ?_);show wpAny _ _ (Builtin.SmallTypes.ownedTupleIsFree (.ref z) >>= _) _ _ _;refine zdn (CH hz hT fun h₀ Gv qL=>?_);dsimp only;rw[zzn zai];refine zdn ?_;simp only[List.forIn_toArray,zba,zbL];refine zdn (zdn (zdp ?_));show wpAny _ _ (Builtin.SmallTypes.nextOf (.ref j1) >>= _) _ _ _;exact zdn (wpAny_nextOf_list_end (s:={s with heap:=h₀}) hA (h1.extBut qL.extBut DF.symm) (hl.extBut qL.extBut lz) hx fun h₂ e jA he=>hE h₂ e (fun c o c1 c2 q=>jA _ _ c2 (qL.extBut _ _ c1 q)) he)
theorem EG{z ti to j1 j2 l tp:zdk}{xs ys:Array zdl}{i:Nat}{a b x y:zdl}{Q:zdl->zdu->Prop}(hz:AX s.heap z ti to .none (.bool false))(hO:IsPair s.heap to a b)(hI:IsPair s.heap ti (.ref j1) (.ref j2))
 (h1:s.heap.IsListIter j1 l i) (h2:s.heap.IsTupleIter j2 tp i) (hl:s.heap.IsList l xs) (ht:s.heap.IsTuple tp ys) (DF:z≠j1) (Oa:z≠j2) (Vf:z≠to) (K5:to≠j1) (K6:to≠j2) (PU:j1≠j2) (Ob:tp≠to) (hx:xs[i]?=some x) (hy:ys[i]?=some y)
 (hQ:∀h',AX h' z ti to (rawInt s.heap.objs.size) (.bool false)->h'.IsListIter j1 l (i+1)->h'.IsTupleIter j2 tp (i+1)->IsPair h' s.heap.objs.size x y->h'.objs.size=s.heap.objs.size+1->
  (∀c o,c≠z->c≠to->c≠j1->c≠j2->s.heap.get? c=some o->h'.get? c=some o)->Q (.ref s.heap.objs.size) {s with heap:=h' }) :
 wpAny (model prog w) A (Builtin.«zip.__next__» ⟨[.ref z],[]⟩) (fun fin s'=>∃v,fin=.done (.ret v)/\Q v s') E s:=by
 have lz:l≠z:=fun e=>by
  obtain⟨q,gq,cq,_⟩:=hl;rw[e,hz] at gq;cases gq;exact zzb (Value.type.inj cq) (by decide)
 have tz:tp≠z:=fun e=>by
  obtain⟨q,gq,cq,_⟩:=ht;rw[e,hz] at gq;cases gq;exact zzb (Value.type.inj cq) (by decide)
 have YX:tp≠j1:=fun e=>by
  obtain⟨q,gq,cq,_⟩:=ht;obtain⟨r,gr,cr,_⟩:=h1;rw[e,gr] at gq;cases gq;rw[cr] at cq;exact zzb (Value.type.inj cq) (by decide)
 show wpAny _ _ (field (.ref z) 2 >>= _) _ _ _;refine zdn (wpAny_field hz rfl (x:=.bool false) rfl ?_);show wpAny _ _ (field (.ref z) 3 >>= _) _ _ _;refine zdn (wpAny_field hz rfl (x:=.ref ti) rfl ?_);refine zdn (wpAny_seqItems hI rfl ?_);show wpAny _ _ (Builtin.SmallTypes.ownedTupleIsFree (.ref z) >>= _) _ _ _;refine zdn ?_;unfold Builtin.SmallTypes.ownedTupleIsFree;refine zdn (wpAny_field hz rfl (x:=.none) rfl (zdo ?_));simp only[if_true];refine zdn (wpAny_rule ?_);refine zdn (wpAny_field hz rfl (x:=.ref to) rfl ?_);refine zdn (wpAny_setField_rec hz (by simp) fun h₁ z₁ pI=>?_);replace z₁:AX h₁ z ti to .ellipsis (.bool false):=z₁;refine zdn ?_;simp only[List.zipIdx_cons,List.zipIdx_nil,zba,zbL];refine zdn (zdn (wpAny_onRaise ?_));show wpAny _ _ (Builtin.SmallTypes.nextOf (.ref j1) >>= _) _ _ _;refine zdn (wpAny_nextOf_list_item (h1.extBut pI.extBut DF.symm) (hl.extBut pI.extBut lz) hx fun h₂ k₂ jA=>zdo ?_);have o₂:IsPair h₂ to a b:=jA.extBut _ _ K5 (pI.extBut _ _ Vf.symm hO);refine zdn (wpAny_seqItems o₂ rfl ?_);refine zdn (wpAny_updateSeq_pair o₂ fun h₃ o₃ lq=>?_);replace o₃:IsPair h₃ to x b:=o₃;refine zdn (wpAny_letGo (zdo ?_));refine zdn (zdn (wpAny_onRaise ?_));show wpAny _ _ (Builtin.SmallTypes.nextOf (.ref j2) >>= _) _ _ _;have YY:h₃.IsTupleIter j2 tp i:=by
  obtain⟨q,gq,rest⟩:=h2;exact⟨q,lq.extBut _ _ K6.symm (jA.extBut _ _ PU.symm (pI.extBut _ _ Oa.symm gq)),rest⟩
 have YZ:h₃.IsTuple tp ys:=((ht.extBut pI.extBut tz).extBut jA.extBut YX).extBut lq.extBut Ob;refine zdn (xK YY YZ hy fun h₄ k₄ CI=>zdo ?_);have o₄:IsPair h₄ to x b:=CI.extBut _ _ K6 o₃;refine zdn (wpAny_seqItems o₄ rfl ?_);refine zdn (wpAny_updateSeq_pair o₄ fun h₅ o₅ CJ=>?_);replace o₅:IsPair h₅ to x y:=o₅;refine zdn (wpAny_letGo (zdo (zdo ?_)));refine zdn (wpAny_seqItems o₅ rfl ?_);refine zdn (wpAny_newTuple ?_);have hsz:h₅.objs.size=s.heap.objs.size:=by rw[CJ.1,CI.1,lq.1,jA.1,pI.1]
 have z₅:AX h₅ z ti to .ellipsis (.bool false):=CJ.extBut _ _ Vf (CI.extBut _ _ Oa (lq.extBut _ _ Vf (jA.extBut _ _ DF z₁)));have kp:∀c o,c≠z->c≠to->c≠j1->c≠j2->s.heap.get? c=some o->h₅.get? c=some o:=fun c o c1 c2 c3 c4 e=>CJ.extBut _ _ c2 (CI.extBut _ _ c4 (lq.extBut _ _ c2 (jA.extBut _ _ c3 (pI.extBut _ _ c1 e))));have zlt:z<h₅.objs.size:=Heap.lt_size z₅;show wpAny _ _ (Builtin.SmallTypes.ownedTupleHandOut (.ref z) (.ref h₅.objs.size) >>= _) _ _ _;refine zdn ?_;unfold Builtin.SmallTypes.ownedTupleHandOut;have z₆:AX (h₅.push {cls:=.type "tuple",data:=.seq #[x,y]}) z ti to .ellipsis (.bool false):=Heap.get?_push_of_some _ z₅;refine zdn (wpAny_setField_rec z₆ (by simp) fun h₇ z₇ K7=>?_);replace z₇:AX h₇ z ti to (rawInt h₅.objs.size) (.bool false):=z₇;refine wpAny_setField_rec z₇ (by simp) fun h₈ z₈ K8=>?_;replace z₈:AX h₈ z ti to (rawInt h₅.objs.size) (.bool false):=z₈;have up:∀c o,c≠z->h₅.get? c=some o->h₈.get? c=some o:=fun c o c1 e=>K8.extBut _ _ c1 (K7.extBut _ _ c1 (Heap.get?_push_of_some _ e));have t₈:IsPair h₈ h₅.objs.size x y:=K8.extBut _ _ (zbM zlt) (K7.extBut _ _ (zbM zlt) (Heap.get?_push_size _ rfl));have n₈:h₈.objs.size=h₅.objs.size+1:=by rw[K8.1,K7.1,Heap.size_push]
 rw[hsz] at z₈ t₈ n₈;refine zdo ⟨_,rfl,?_⟩;show Q (.ref h₅.objs.size) _;rw[hsz];refine hQ h₈ z₈ ?_ ?_ t₈ n₈ fun c o c1 c2 c3 c4 e=>up c o c1 (kp c o c1 c2 c3 c4 e)
 ·obtain⟨q,gq,rest⟩:=k₂;exact⟨q,up _ _ DF.symm (CJ.extBut _ _ K5.symm (CI.extBut _ _ PU (lq.extBut _ _ K5.symm gq))),rest⟩
 ·obtain⟨q,gq,rest⟩:=k₄;exact⟨q,up _ _ Oa.symm (CJ.extBut _ _ K6.symm gq),rest⟩
theorem Ih{z ti to j1 j2 l:zdk}{xs:Array zdl}{i:Nat}{Q:Fin->zdu->Prop}(hA:A.handled=none)(hz:AX s.heap z ti to .none (.bool false))(hI:IsPair s.heap ti (.ref j1) (.ref j2))
 (h1:s.heap.IsListIter j1 l i) (hl:s.heap.IsList l xs) (DF:z≠j1) (hx:xs[i]?=none)
 (hE:∀h' e,(∀c o,c≠z->c≠j1->s.heap.get? c=some o->h'.get? c=some o)->(∃o,h'.get? e=some o/\o.cls=.type "StopIteration")->E (.ref e) {s with heap:=h' }) :
 wpAny (model prog w) A (Builtin.«zip.__next__» ⟨[.ref z],[]⟩) Q E s:=by
 have lz:l≠z:=fun e=>by
  obtain⟨q,gq,cq,_⟩:=hl;rw[e,hz] at gq;cases gq;exact zzb (Value.type.inj cq) (by decide)
 show wpAny _ _ (field (.ref z) 2 >>= _) _ _ _;refine zdn (wpAny_field hz rfl (x:=.bool false) rfl ?_);show wpAny _ _ (field (.ref z) 3 >>= _) _ _ _;refine zdn (wpAny_field hz rfl (x:=.ref ti) rfl ?_);refine zdn (wpAny_seqItems hI rfl ?_);show wpAny _ _ (Builtin.SmallTypes.ownedTupleIsFree (.ref z) >>= _) _ _ _;refine zdn ?_;unfold Builtin.SmallTypes.ownedTupleIsFree;refine zdn (wpAny_field hz rfl (x:=.none) rfl (zdo ?_));simp only[if_true];refine zdn (wpAny_rule ?_);refine zdn (wpAny_field hz rfl (x:=.ref to) rfl ?_);refine zdn (wpAny_setField_rec hz (by simp) fun h₁ z₁ pI=>?_);replace z₁:AX h₁ z ti to .ellipsis (.bool false):=z₁;refine zdn ?_;simp only[List.zipIdx_cons,List.zipIdx_nil,zba,zbL];refine zdn (zdn (wpAny_onRaise ?_));show wpAny _ _ (Builtin.SmallTypes.nextOf (.ref j1) >>= _) _ _ _;refine zdn (wpAny_nextOf_list_end hA (h1.extBut pI.extBut DF.symm) (hl.extBut pI.extBut lz) hx fun h₂ e jA he=>?_);obtain⟨oe,ge,ce⟩:=he;have z₂:AX h₂ z ti to .ellipsis (.bool false):=jA _ _ DF z₁;have ez:e≠z:=fun q=>by subst q;rw[z₂] at ge;cases ge;simp at ce
 exact wpAny_setField_rec z₂ (by simp) fun h₃ _ lq=>hE h₃ e (fun c o c1 c3 q=>lq.extBut _ _ c1 (jA _ _ c3 (pI.extBut _ _ c1 q))) ⟨oe,lq.extBut _ _ ez ge,ce⟩
structure Tn(z ti to j1 j2 l tp:zdk):Prop where
 zti:z≠ti
 Vf:z≠to
 DF:z≠j1
 Oa:z≠j2
 Y0:ti≠to
 Y1:ti≠j1
 Y2:ti≠j2
 K5:to≠j1
 K6:to≠j2
 PU:j1≠j2
 Y3:l≠to
 Ob:tp≠to
structure M0(h:Heap)(z ti to j1 j2 l tp:zdk)(xs ys:Array zdl)(i:Nat):Prop where
 zip:(∃a b,AX h z ti to .none (.bool false)/\IsPair h to a b)\/∃(T:zdk) (u:Tok) (a b:zdl) (g:Bool),AX h z ti to (.int T u) (.bool g)/\IsPair h T a b
 ins:IsPair h ti (.ref j1) (.ref j2)
 Oc:h.IsListIter j1 l i
 To:h.IsTupleIter j2 tp i
 ls:h.IsList l xs
 tu:h.IsTuple tp ys
theorem nF{h:Heap}{a b:zdk}{o o':Obj}{c c':String}(e:h.get? a=some o)(e':h.get? b=some o')(hc:o.cls=.type c)(T5:o'.cls=.type c')(n:c≠c'):a≠b:=fun q=>by
 rw[q,e'] at e;cases e;rw[hc] at T5;exact n (Value.type.inj T5)
theorem K9{z ti to j1 j2 l tp:zdk}{xs ys:Array zdl}{i:Nat}{x y:zdl}{Q:Option zdl->zdu->Prop}(ap:Tn z ti to j1 j2 l tp)(st:M0 s.heap z ti to j1 j2 l tp xs ys i)(hx:xs[i]?=some x)(hy:ys[i]?=some y)
 (hQ:∀h',M0 h' z ti to j1 j2 l tp xs ys (i+1)->IsPair h' s.heap.objs.size x y->(∀c o,c≠z->c≠to->c≠j1->c≠j2->s.heap.get? c=some o->h'.get? c=some o)->Q (some (.ref s.heap.objs.size)) {s with heap:=h' }) :
 wpAny (model prog w) A (pyNext (.ref z)) Q E s:=by
 have zT:s.TypeIs (.ref z) "zip":=by
  rcases st.zip with ⟨a,b,hz,_⟩ |⟨T,u,a,b,g,hz,_⟩
  ·exact⟨_,hz,rfl⟩
  ·exact⟨_,hz,rfl⟩
 obtain⟨o1,g1,c1,_⟩:=st.Oc;obtain⟨o2,g2,c2,_⟩:=st.To;obtain⟨ol,gl,cl,_⟩:=st.ls;obtain⟨ot,gt,ct,_⟩:=st.tu;obtain⟨oz,gz,cz⟩:=zT;have lk:∀h',(∀c o,c≠z->c≠to->c≠j1->c≠j2->s.heap.get? c=some o->h'.get? c=some o)->IsPair h' ti (.ref j1) (.ref j2)/\h'.IsList l xs/\h'.IsTuple tp ys:=fun h' k=>by
  refine⟨k _ _ ap.zti.symm ap.Y0 ap.Y1 ap.Y2 st.ins,?_,?_⟩
  ·obtain⟨q,gq,rest⟩:=st.ls;exact⟨q,k _ _ (nF gl gz cl cz (by decide)) ap.Y3 (nF gl g1 cl c1 (by decide)) (nF gl g2 cl c2 (by decide)) gq,rest⟩
  ·obtain⟨q,gq,rest⟩:=st.tu;exact⟨q,k _ _ (nF gt gz ct cz (by decide)) ap.Ob (nF gt g1 ct c1 (by decide)) (nF gt g2 ct c2 (by decide)) gq,rest⟩
 unfold pyNext;refine zdn (wpAny_attempt (wpAny_callSpecial?_slot (name:=zab "__next__") ⟨oz,gz,cz⟩ F.slot_zip_next (wpAny_call_entry F.slot_zip_next ⟨oz,gz,cz⟩ F.entry_zip_next ?_ (F.args_zip_next_1 _))));rcases st.zip with ⟨a,b,hz,hO⟩ |⟨T,u,a,b,g,hz,hT⟩
 ·refine EG hz hO st.ins st.Oc st.To st.ls st.tu ap.DF ap.Oa ap.Vf ap.K5 ap.K6 ap.PU ap.Ob hx hy fun h' q1 q2 q3 q4 q5 q6=>zdo ?_;obtain⟨k1,k2,k3⟩:=lk h' q6;exact hQ h' ⟨.inr ⟨_,_,x,y,false,q1,q4⟩,k1,q2,q3,k2,k3⟩ q4 q6
 ·refine EF hz hT st.ins st.Oc st.To st.ls st.tu ap.DF ap.Oa ap.PU hx hy fun h' q1 q2 q3 q4 q5 q6=>zdo ?_;have q6':∀c o,c≠z->c≠to->c≠j1->c≠j2->s.heap.get? c=some o->h'.get? c=some o:=fun c o a1 _ a3 a4 e=>q6 c o a1 a3 a4 e;obtain⟨k1,k2,k3⟩:=lk h' q6';exact hQ h' ⟨.inr ⟨T,u,a,b,true,q1,q6 _ _ (nF hT gz rfl cz (by decide)) (nF hT g1 rfl c1 (by decide)) (nF hT g2 rfl c2 (by decide)) hT⟩,k1,q2,q3,k2,k3⟩ q4 q6'
theorem Od{z ti to j1 j2 l tp:zdk}{xs ys:Array zdl}{i:Nat}{Q:Option zdl->zdu->Prop}(hA:A.handled=none)(ap:Tn z ti to j1 j2 l tp)(st:M0 s.heap z ti to j1 j2 l tp xs ys i)(hx:xs[i]?=none)
 (hQ:∀h',(∀c o,c≠z->c≠j1->s.heap.get? c=some o->h'.get? c=some o)->Q none {s with heap:=h' }):wpAny (model prog w) A (pyNext (.ref z)) Q E s:=by
 have zT:s.TypeIs (.ref z) "zip":=by
  rcases st.zip with ⟨a,b,hz,_⟩ |⟨T,u,a,b,g,hz,_⟩
  ·exact⟨_,hz,rfl⟩
  ·exact⟨_,hz,rfl⟩
 unfold pyNext;refine zdn (wpAny_attempt (wpAny_callSpecial?_slot (name:=zab "__next__") zT F.slot_zip_next (wpAny_call_entry F.slot_zip_next zT F.entry_zip_next ?_ (F.args_zip_next_1 _))));rcases st.zip with ⟨a,b,hz,hO⟩ |⟨T,u,a,b,g,hz,hT⟩
 ·refine Ih hA hz st.ins st.Oc st.ls ap.DF hx fun h' e k he=>?_;obtain⟨oe,ge,ce⟩:=he;refine zdn (wpAny_isInstance (T:="StopIteration") (b:=true) ⟨oe,ge,ce⟩ isSubtype_stop ?_);exact zdo (hQ _ k)
 ·refine Ig hA hz hT st.ins st.Oc st.ls ap.DF hx fun h' e k he=>?_;obtain⟨oe,ge,ce⟩:=he;refine zdn (wpAny_isInstance (T:="StopIteration") (b:=true) ⟨oe,ge,ce⟩ isSubtype_stop ?_);exact zdo (hQ _ k)
theorem M0.but{h h':Heap}{z ti to j1 j2 l tp d:zdk}{xs ys:Array zdl}{i:Nat}(st:M0 h z ti to j1 j2 l tp xs ys i)(sb:Heap.SameBut d h h')(dn:∀a o,h.get? a=some o->(∀es n,o.data≠.dict es n)->a≠d):M0 h' z ti to j1 j2 l tp xs ys i:=by
 have k:∀a o,h.get? a=some o->(∀es n,o.data≠.dict es n)->h'.get? a=some o:=fun a o e n=>sb.extBut _ _ (dn a o e n) e;refine⟨?_,k _ _ st.ins (by intro es n q;cases q),?_,?_,?_,?_⟩
 ·rcases st.zip with ⟨a,b,hz,hO⟩ |⟨T,u,a,b,g,hz,hT⟩
  ·exact .inl ⟨a,b,k _ _ hz (by intro es n q;cases q),k _ _ hO (by intro es n q;cases q)⟩
  ·exact .inr ⟨T,u,a,b,g,k _ _ hz (by intro es n q;cases q),k _ _ hT (by intro es n q;cases q)⟩
 ·obtain⟨o,go,hc,hd⟩:=st.Oc;exact⟨o,k _ _ go (by intro es n q;rw[hd] at q;cases q),hc,hd⟩
 ·obtain⟨o,go,hc,hd⟩:=st.To;exact⟨o,k _ _ go (by intro es n q;rw[hd] at q;cases q),hc,hd⟩
 ·obtain⟨o,go,hc,n',hd⟩:=st.ls;exact⟨o,k _ _ go (by intro es n q;rw[hd] at q;cases q),hc,n',hd⟩
 ·obtain⟨o,go,hc,n',hd⟩:=st.tu;exact⟨o,k _ _ go (by intro es n q;rw[hd] at q;cases q),hc,n',hd⟩
theorem Gw{κ:Type}[DecidableEq κ](knd:KeyKind prog w κ)(d z ti to j1 j2 l tp:zdk)(xs ys:Array zdl)(res:zdl)(hA:A.handled=none)(ap:Tn z ti to j1 j2 l tp)(dto:d≠to){R:Result->zdu->Prop}:∀(r:List (κ×zdl×zdl)) (i:Nat) (j:Int) (u:Tok) (ax:List (κ×zdl)) (s:zdu),
 xs.toList.drop i=r.map (·.2.1)->ys.toList.drop i=r.map (·.2.2)->(∀q∈r,knd.is q.1 q.2.1=true)->M0 s.heap z ti to j1 j2 l tp xs ys i->s.heap.DictOf knd d ax->ax.length+r.length<=zds->
 (∀h' tk,h'.DictOf knd d (merged ax (r.map fun q=>(q.1,q.2.2)))->(∀b o,b≠d->b≠z->b≠to->b≠j1->b≠j2->s.heap.get? b=some o->h'.get? b=some o)->R (.ok (.ret res)) {s with heap:=h',toks:=tk})->
 codeAny (model prog w) A (.builtin "dict.update.loop" ⟨[.ref d,.ref z,.int j u,res],[]⟩) R s
 |[],i,j,u,ax,s,hi,hk,hp,st,hd,hz,hR=>by
  refine codeAny_builtin nE ?_;rw[Around.under_plainId gw _];show wpAny _ A.in1 (pyNext (.ref z) >>= _) _ _ s;have dn:∀a o,s.heap.get? a=some o->(∀es n,o.data≠.dict es n)->a≠d:=fun a o e n q=>by
   obtain⟨od,_,_,Vg,_,ED,_⟩:=hd;rw[q,Vg] at e;cases e;exact n _ _ ED
  refine zdn (Od hA ap st (by rw[<- zaZ];rw[za3] at hi;exact zbA (zc9.mp hi)) fun h' kp=>?_);show wpAny _ _ (Builtin.Dict.addKeywords d [] >>= _) _ _ _;refine zdn (zdo (zdo (hR h' s.toks ?_ fun b o _ c1 _ c3 _ e=>kp b o c1 c3 e)));have dz:d≠z:=by
   rcases st.zip with ⟨a,b,gz,_⟩ |⟨T,u,a,b,g,gz,_⟩
   ·exact(dn _ _ gz (by intro es n q;cases q)).symm
   ·exact(dn _ _ gz (by intro es n q;cases q)).symm
  have dj:d≠j1:=by
   obtain⟨o,go,hc,DM⟩:=st.Oc;exact(dn _ _ go (by intro es n q;rw[DM] at q;cases q)).symm
  obtain⟨o,es,ep,ho,rest⟩:=hd;exact⟨o,es,ep,kp d o dz dj ho,rest⟩
 |q::r,i,j,u,ax,s,hi,hk,hp,st,hd,hz,hR=>by
  have hx:xs[i]?=some q.2.1:=by
   rw[<- zaZ,<- zcR,hi];rfl
  have hy:ys[i]?=some q.2.2:=by
   rw[<- zaZ,<- zcR,hk];rfl
  have dn:∀a o,s.heap.get? a=some o->(∀es n,o.data≠.dict es n)->a≠d:=fun a o e n q=>by
   obtain⟨od,_,_,Vg,_,ED,_⟩:=hd;rw[q,Vg] at e;cases e;exact n _ _ ED
  have dz:d≠z:=by
   rcases st.zip with ⟨a,b,gz,_⟩ |⟨T,u,a,b,g,gz,_⟩
   ·exact(dn _ _ gz (by intro es n q;cases q)).symm
   ·exact(dn _ _ gz (by intro es n q;cases q)).symm
  have dj1:d≠j1:=by
   obtain⟨o,go,hc,DM⟩:=st.Oc;exact(dn _ _ go (by intro es n q;rw[DM] at q;cases q)).symm
  have dj2:d≠j2:=by
   obtain⟨o,go,hc,DM⟩:=st.To;exact(dn _ _ go (by intro es n q;rw[DM] at q;cases q)).symm
  refine codeAny_builtin nE ?_;rw[Around.under_plainId gw _];show wpAny _ A.in1 (pyNext (.ref z) >>= _) _ _ s;refine zdn (K9 ap st hx hy fun h' He pr kp=>?_);have DM:h'.DictOf knd d ax:=by
   obtain⟨o,es,ep,ho,rest⟩:=hd;exact⟨o,es,ep,kp d o dz dto dj1 dj2 ho,rest⟩
  show wpAny _ A.in1 (holding [Value.ref s.heap.objs.size] _ >>= _) _ _ _;refine zdn (zdp (zdn (wpAny_tryCatch ?_)));unfold Builtin.Dict.pairItems;refine zdn (wpAny_typeOf (T:="tuple") ⟨_,pr,rfl⟩ ?_);rw[zzp (by decide)];refine zdn (wpAny_seqItems (s:={s with heap:=h' }) pr rfl (zdo ?_));show wpAny _ A.in1 (holding [q.2.1,q.2.2] (dictSet d q.2.1 q.2.2)) _ _ _;refine zdp (wpAny_dictSet_pairs (s:={s with heap:=h' }) (hp q (zaq ..)) DM (fun h2 hd2 RH=>?_) (by simp only[zah] at hz;lia));refine zdo ⟨plainId_quiet gw _,?_⟩;refine Gw knd d z ti to j1 j2 l tp xs ys res hA ap dto r (i+1) (j+1) _ _ _ ?_ ?_ (fun p W5=>hp p (zat _ W5)) (He.but RH fun a o e n w=>?_) hd2 ?_ fun h3 tk MY keep=>hR h3 tk MY fun b o n1 n2 n3 n4 n5 e=>keep b o n1 n2 n3 n4 n5 ?_
  ·rw[<- zc2,hi];rfl
  ·rw[<- zc2,hk];rfl
  ·obtain⟨od,_,_,Vg,_,ED,_⟩:=DM;rw[w,Vg] at e;cases e;exact n _ _ ED
  ·have:=stored_length_le ax q.1 q.2.2;simp only[zah] at hz;lia
  ·exact(RH.2 _ n1).trans (kp b o n2 n3 n4 n5 e)
theorem La:typeLookup (.type "zip") "keys"=pure none:=by rw[typeLookup_type,builtinLookup_eq_fast];kernel_rfl
theorem Lb:typeLookup (.type "zip") "__getattr__"=pure none:=by rw[typeLookup_type,builtinLookup_eq_fast];kernel_rfl
theorem AY:entryFor table "zip.__getattribute__"=some Builtin.«object.__getattribute__»:=entryFor_alias (id':="object.__getattribute__") (by kernel_rfl) (by first |rfl |decide +kernel) (by decide +kernel) (by kernel_rfl)
theorem Ii(a:zdk)(u:Tok){hp:Heap}{g:Array GenState}{d:Drawn}{tk:Nat}{os:OsState}{vs:Array zdl}{Q:Fin->zdu->Prop}(hx:hp.get? a=some ⟨.type "zip",none,.fields vs, #[]⟩)(hA:A.handled=none)
 (h:∀h' N6 e,Heap.NewAttrErr hp h' e (.ref a) "keys"->E (.ref e) ⟨h',g,d,N6,os⟩) :
 wpAny (model prog w) A (Builtin.«object.__getattribute__» ⟨[.ref a,.str "keys" u],[]⟩) Q E ⟨hp,g,d,tk,os⟩:=by
 have hT:(⟨hp,g,d,tk,os⟩:zdu).TypeIs (.ref a) "zip":=⟨_,hx,rfl⟩
 have f4:=La;unfold Builtin.«object.__getattribute__»
 repeat (any_goals (first |assumption |wp_step))
 exact wpAny_raiseAttrError hA h (attrMsg_fits (by decide +kernel) (by size_fits))
theorem EH(a:zdk){s:zdu}{vs:Array zdl}{Q:Option zdl->zdu->Prop}(hx:s.heap.get? a=some ⟨.type "zip",none,.fields vs, #[]⟩)(hA:A.handled=none)
 (h:∀h' tk,(∀b ob,s.heap.get? b=some ob->h'.get? b=some ob)->Q none {s with heap:=h',toks:=tk}):wpAny (model prog w) A (getAttr? (.ref a) "keys") Q E s:=by
 obtain⟨hp,g,d,tk,os⟩:=s;have hT:∀N6,(⟨hp,g,d,N6,os⟩:zdu).TypeIs (.ref a) "zip":=fun _=>⟨_,hx,rfl⟩
 have f1:=sub_AttributeError;have f2:=F.slot_zip_getattribute.lookup;have f3:=F.slot_zip_getattribute.bind (.ref a);have f5:=Lb;unfold getAttr? getAttrBy? getAttrBy
 repeat (any_goals (first |assumption |exact hT _ |wp_step))
 all_goals
  refine codeAny_call_builtin F.slot_zip_getattribute.plain AY (F.slot_zip_getattribute.check _ _ _ _ _ _ _ _ (show (⟨hp,g,d,tk+1,os⟩:zdu).TypeIs (.ref a) "zip" from ⟨_,hx,rfl⟩) (F.args_zip_getattribute_2 _ _) ?_)
 all_goals
  refine Ii a tk hx hA fun h' N6 e ne=>?_
 all_goals
  obtain⟨t',u',he⟩:=ne.there;show wpAny _ _ (getattributeRaised _ _ _ _ _ _ _) _ _ _;unfold getattributeRaised
  repeat (any_goals (first |assumption |wp_step))
 all_goals exact h _ _ ne.keeps
end
abbrev zA (h:Heap) (l:zdk):Heap:=h.push {cls:=.type "list_iterator",data:=.fields #[.ref l,.int 0 0]}
abbrev zB (h:Heap) (l tp:zdk):Heap:=(zA h l).push {cls:=.type "tuple_iterator",data:=.fields #[.ref tp,.int 0 0]}
abbrev zC (h:Heap) (l tp:zdk):Heap:=(zB h l tp).push {cls:=.type "tuple",data:=.seq #[.ref h.objs.size,.ref (zA h l).objs.size]}
abbrev zD (h:Heap) (l tp:zdk):Heap:=(zC h l tp).push {cls:=.type "tuple",data:=.seq #[.none,.none]}
abbrev zE (h:Heap) (l tp:zdk):Heap:=(zD h l tp).push {cls:=.type "zip",data:=.fields #[.none,.bool false,.bool false,.ref (zB h l tp).objs.size,.ref (zC h l tp).objs.size]}
theorem Lc(l tp:zdk)(xs ys:Array zdl):Meets (Builtin.«zip.__new__» ⟨[.type "zip",.ref l,.ref tp],[]⟩) (fun _ R s=>s.heap.IsList l xs/\s.heap.IsTuple tp ys/\R (.ok (.ret (.ref (zD s.heap l tp).objs.size))) {s with heap:=zE s.heap l tp}):=
 .of_wp fun prog w A R s h=>by
  obtain⟨hp,g,d,tk,os⟩:=s;obtain⟨g1,g2,h⟩:=h;have adH:=sub_zip;have k1:Heap.IsList (Shared.heap ⟨hp,g,d,tk,os⟩) l xs:=g1;have k2:Heap.IsTuple (Shared.heap ⟨hp.push {cls:=.type "list_iterator",data:=.fields #[.ref l,.int 0 0]},g,d,tk,os⟩) tp ys:=by
   obtain⟨o,go,rest⟩:=g2;exact⟨o,Heap.get?_push_of_some _ go,rest⟩
  wp_walk using wpAny_pyIter_list k1,wpAny_pyIter_tuple k2
  exact⟨_,rfl,h⟩
section
variable{prog:zdw}{w:zdm}{A:zdv}{E:zdl->zdu->Prop}{s:zdu}
theorem Oe(n l tp:Nat)(h1:l<n)(h2:tp<n):Tn (n+4) (n+2) (n+3) n (n+1) l tp:=by
 constructor<;>(show (_:Nat)≠_;lia)
theorem EI{l tp:zdk}{xs ys:Array zdl}{Q:zdl->zdu->Prop}(hl:s.heap.IsList l xs)(ht:s.heap.IsTuple tp ys)
 (h:∀h',Tn (s.heap.objs.size+4) (s.heap.objs.size+2) (s.heap.objs.size+3) s.heap.objs.size (s.heap.objs.size+1) l tp->M0 h' (s.heap.objs.size+4) (s.heap.objs.size+2) (s.heap.objs.size+3) s.heap.objs.size (s.heap.objs.size+1) l tp xs ys 0->
  AX h' (s.heap.objs.size+4) (s.heap.objs.size+2) (s.heap.objs.size+3) .none (.bool false)->(∀c o,s.heap.get? c=some o->h'.get? c=some o)->Q (.ref (s.heap.objs.size+4)) {s with heap:=h' }) :
 wpAny (model prog w) A (call (.type "zip") [.ref l,.ref tp]) Q E s:=by
 refine callType_new F.called_zip (by decide) (F.typeCall_zip_2 _ _) (F.newCall_zip_2 _ _) (fun obj=>F.args_object_init_3 obj _ _) F.entry_zip_new (Lc l tp xs ys) ⟨hl,ht,?_⟩;have z1:(zA s.heap l).objs.size=s.heap.objs.size+1:=Heap.size_push ..;have z2:(zB s.heap l tp).objs.size=s.heap.objs.size+2:=by rw[Heap.size_push,z1]
 have z3:(zC s.heap l tp).objs.size=s.heap.objs.size+3:=by rw[Heap.size_push,z2]
 have z4:(zD s.heap l tp).objs.size=s.heap.objs.size+4:=by rw[Heap.size_push,z3]
 have g5:(zE s.heap l tp).get? (zD s.heap l tp).objs.size=some _:=Heap.get?_push_size _ rfl;have g4:(zE s.heap l tp).get? (zC s.heap l tp).objs.size=some _:=Heap.get?_push_of_some _ (Heap.get?_push_size _ rfl);have g3:(zE s.heap l tp).get? (zB s.heap l tp).objs.size=some _:=Heap.get?_push_of_some _ (Heap.get?_push_of_some _ (Heap.get?_push_size _ rfl));have g2:(zE s.heap l tp).get? (zA s.heap l).objs.size=some _:=Heap.get?_push_of_some _ (Heap.get?_push_of_some _ (Heap.get?_push_of_some _ (Heap.get?_push_size _ rfl)));have g1:(zE s.heap l tp).get? s.heap.objs.size=some _:=Heap.get?_push_of_some _ (Heap.get?_push_of_some _ (Heap.get?_push_of_some _ (Heap.get?_push_of_some _ (Heap.get?_push_size _ rfl))));have up:∀c o,s.heap.get? c=some o->(zE s.heap l tp).get? c=some o:=fun c o e=>Heap.get?_push_of_some _ (Heap.get?_push_of_some _ (Heap.get?_push_of_some _ (Heap.get?_push_of_some _ (Heap.get?_push_of_some _ e))));show _/\_;rw[z2,z3,z4] at g5;rw[z1,z2] at g3;rw[z3] at g4;rw[z1] at g2;rw[z4];obtain⟨ol,gl,rl⟩:=id hl;obtain⟨ot,gt,rt⟩:=id ht;have ll:=Heap.lt_size gl;have lt:=Heap.lt_size gt;refine⟨⟨_,g5,rfl⟩,h _ (Oe _ _ _ ll lt) ⟨.inl ⟨_,_,g5,g4⟩,g3,⟨_,g1,rfl,rfl⟩,⟨_,g2,rfl,rfl⟩,⟨ol,up _ _ gl,rl⟩,⟨ot,up _ _ gt,rt⟩⟩ g5 up⟩
theorem Ld{κ:Type}[DecidableEq κ](knd:KeyKind prog w κ)(z ti to j1 j2 l tp:zdk){xs ys:Array zdl}{Q:zdl->zdu->Prop}(hA:A.handled=none)(ap:Tn z ti to j1 j2 l tp)(st:M0 s.heap z ti to j1 j2 l tp xs ys 0)(gz:AX s.heap z ti to .none (.bool false))(r:List (κ×zdl×zdl))
 (hi:xs.toList=r.map (·.2.1)) (hk:ys.toList=r.map (·.2.2)) (hp:∀q∈r,knd.is q.1 q.2.1=true) (hz:r.length<=zds) (Y3:to<s.heap.objs.size)
 (h:∀h' tk,h'.DictOf knd s.heap.objs.size (merged [] (r.map fun q=>(q.1,q.2.2)))->(∀b o,b≠z->b≠to->b≠j1->b≠j2->s.heap.get? b=some o->h'.get? b=some o)->Q (.ref s.heap.objs.size) {s with heap:=h',toks:=tk}) :
 wpAny (model prog w) A (call (.type "dict") [.ref z]) Q E s:=by
 refine callType_codes (Q₁:=fun obj s₁=>obj=.ref s.heap.objs.size/\s₁={s with heap:=s.heap.push {cls:=.type "dict",data:=.dict #[]} }) F.kt_called_dict (F.kt_typeCall_dict_1 _) F.entry_dict_init (kt_code_dict_new _ ⟨rfl,rfl⟩) ?_
 rintro obj s₁ ⟨rfl,rfl⟩
 have EE:(s.heap.push {cls:=.type "dict",data:=.dict #[]}).DictOf knd s.heap.objs.size []:=Heap.DictOf.new s.heap;have qJ:∀b o,s.heap.get? b=some o->(s.heap.push {cls:=.type "dict",data:=.dict #[]}).get? b=some o:=fun b o e=>Heap.get?_push_of_some _ e;refine⟨EE.typeIs,F.args_dict_init_2 _ _,?_⟩;unfold Builtin.«dict.__init__»;refine zdn ?_;unfold Builtin.Dict.selfAndRest;refine zdn (wpAny_notOrdered_dict EE.typeIs ?_);show wpAny _ _ (pure (s.heap.objs.size,[Value.ref z])) _ _ _;refine zdo ?_;show wpAny _ _ (Builtin.Dict.updateFrom "dict.__init__" s.heap.objs.size (.ref z) [] .none) _ _ _;unfold Builtin.Dict.updateFrom;refine zdn (wpAny_typeOf (T:="zip") ⟨_,qJ _ _ gz,rfl⟩ ?_);rw[zzp (by decide)];refine zdn (EH z (qJ _ _ gz) hA fun h2 Vb qK=>?_);rw[zzp (show (none:Option zdl).isNone=true from rfl)];refine zdn (wpAny_rule ?_);have up:∀b o,s.heap.get? b=some o->h2.get? b=some o:=fun b o e=>qK _ _ (qJ _ _ e);have hd2:h2.DictOf knd s.heap.objs.size []:=by
  obtain⟨o,es,ep,ho,rest⟩:=EE;exact⟨o,es,ep,qK _ _ ho,rest⟩
 refine zdn (wpAny_pyIter_zip (s:={s with heap:=h2,toks:=Vb}) (up _ _ gz) ?_);refine zdo ⟨plainId_quiet gw _,?_⟩;have yH:M0 h2 z ti to j1 j2 l tp xs ys 0:=by
  refine⟨?_,up _ _ st.ins,?_,?_,?_,?_⟩
  ·rcases st.zip with ⟨a,b,e1,e2⟩ |⟨T,u,a,b,g,e1,e2⟩
   ·exact .inl ⟨a,b,up _ _ e1,up _ _ e2⟩
   ·exact .inr ⟨T,u,a,b,g,up _ _ e1,up _ _ e2⟩
  ·obtain⟨o,go,rest⟩:=st.Oc;exact⟨o,up _ _ go,rest⟩
  ·obtain⟨o,go,rest⟩:=st.To;exact⟨o,up _ _ go,rest⟩
  ·obtain⟨o,go,rest⟩:=st.ls;exact⟨o,up _ _ go,rest⟩
  ·obtain⟨o,go,rest⟩:=st.tu;exact⟨o,up _ _ go,rest⟩
 refine Gw (A:=A.in1) knd s.heap.objs.size z ti to j1 j2 l tp xs ys .none hA ap (zbM Y3) r 0 0 _ [] _ (by simpa using hi) (by simpa using hk) hp yH hd2 (by simpa using hz) fun h4 YV YW K4=>?_;refine⟨rfl,h h4 YV YW fun b o n1 n2 n3 n4 e=>K4 b o (fun w=>?_) n1 n2 n3 n4 (up _ _ e)⟩;rw[w] at e;exact zzb (Heap.lt_size e) (zaW _)
end
end L3
namespace L2
open PG
open PySem PyProof.Rows
theorem EJ(c n k:Nat)(h:c<n):c≠n+k:=by lia
def W7 (K:zaa) (t:TA):TE:=fun σ H Q=>t σ H fun xs H1=>∃(a b:zdk) (ks:List Key) (vs:List V),xs=[.ref a,.ref b]/\i7 K H1 a (ks.map kV)/\bQ K H1 b vs/\vs.length=ks.length/\∀p,H1 p=none->Q (.ref p) (upd H1 p (.dK (iB [] (ks.zip vs))))
theorem rT{X:Cx}(hc:X.calm=true){ea eb:Expr}{p1 p2 Vh Ij:Pos}{t:TA}(hg1:Gl X "dict")(hm1:X.mg "dict"=none)(hg2:Gl X "zip")(hm2:X.mg "zip"=none)(ha:PA X [ea,eb] t)
 (he:zdq [ea,eb] X.env=(false,eval ea X.env)::zdq [eb] X.env:=by rfl) (BN:(backTo Ij (zdq [eb] X.env)).any (·.1)=false:=by rfl)
 (Th:zdq [.Call (.Name "zip" p2) [ea,eb] [] Ij] X.env=(false,eval (.Call (.Name "zip" p2) [ea,eb] [] Ij) X.env)::zdq [] X.env:=by rfl) :
 PE X (.Call (.Name "dict" p1) [.Call (.Name "zip" p2) [ea,eb] [] Ij] [] Vh) (W7 X.K t):=by
 intro pins s σ H Q I h;refine wpAny_Call_Name_kw (rF I hg1 hm1 PyProof.Rows.Boot.«dict» ?_ (by decide) (by decide));refine zbo ?_ Th rfl;rw[Th];show wpAny _ _ (spliced ((false,eval (.Call (.Name "zip" p2) [ea,eb] [] Ij) X.env)::backTo Vh (zdq [] X.env))) _ _ s;refine Calls.spliced_cons ?_;refine wpAny_Call_Name_kw (rF I hg2 hm2 PyProof.Rows.Boot.«zip» ?_ (by decide) (by decide));refine zbo (eZ (ha Ij pins s σ H _ I h) fun us s1 zqz=>?_) he BN;obtain⟨xs,H1,I1,r1,q1⟩:=zqz;obtain⟨a,b,ks,vs,rfl,ha1,PV,lk,q⟩:=q1;obtain⟨u1,u2,rfl,ru1,ru2⟩:=vals2 r1;cases (show u1=Value.ref a from ru1);cases (show u2=Value.ref b from ru2);obtain⟨Y4,v1,t1,z1⟩:=I1.list ha1;obtain⟨tj,v2,t2,z2⟩:=I1.tuple PV;have mk:∀(ks:List Key) (vs:List V) (W8 Gx:List zdl),Vals (ks.map kV) W8->Vals vs Gx->vs.length=ks.length->∃r:List (Key×zdl×zdl),W8=r.map (·.2.1)/\Gx=r.map (·.2.2)/\(∀q∈r,(bT X.prog X.w).is q.1 q.2.1=true)/\KV (ks.zip vs) (r.map fun q=>(q.1,q.2.2))/\r.length=ks.length:=by
  intro ks
  induction ks with
  |nil=>
   intro vs W8 Gx w1 w2 l;have:vs=[]:=zaV.mp l;subst this;cases w1;cases w2;exact⟨[],rfl,rfl,fun _ z=>(by cases z),.nil,rfl⟩
  |cons k ks ih=>
   intro vs W8 Gx w1 w2 l;cases vs with
   |nil=>simp at l
   |cons v vs=>
    rw[zal] at w1;cases w1 with
    |@cons _ ku _ kus w11 w12=>
     cases w2 with
     |@cons _ vu _ vus w21 w22=>
      obtain⟨r,e1,e2,h3,h4,h5⟩:=ih vs kus vus w12 w22 (by simpa using l);refine⟨(k,ku,vu)::r,by rw[e1];rfl,by rw[e2];rfl,fun q hq=>?_,.cons ⟨rfl,w21⟩ h4,by simp[h5]⟩;rcases zag.mp hq with rfl |hq
      ·exact xj w11
      ·exact h3 q hq
 obtain⟨r,e1,e2,kis,kv,lr⟩:=mk ks vs Y4 tj v1 v2 lk;rw[zad] at z1;refine L3.EI t1.isList (show s1.heap.IsTuple b tj.toArray from t2) fun h' ap st gz keep=>?_;refine Calls.spliced_nil ?_;have big:(s1.heap.objs.size+4:Nat)<h'.objs.size:=Heap.lt_size gz;have hle:s1.heap.objs.size<=h'.objs.size:=by lia
 refine L3.Ld (s:={s1 with heap:=h' }) (bT X.prog X.w) _ _ _ _ _ a b (I1.ok.hd hc) ap st gz r (by simpa using e1) (by simpa using e2) kis (by lia) (show (s1.heap.objs.size+3:Nat)<h'.objs.size by lia) fun h2 tk dd qK=>?_;have hn:=I1.cM.fresh hle;have hb:(h'.objs.size==sysModules)=false:=beq_eq_false_iff_ne.mpr (Ne.symm (zaD (zaB I1.big hle)));refine⟨.ref h'.objs.size,_,I1.laid (fun c o e=>qK c o ?_ ?_ ?_ ?_ (keep c o e)) hle (xk ?_ hb (kv.merge .nil) dd),rfl,q _ hn⟩
 ·have lc:(c:Nat)<s1.heap.objs.size:=Heap.lt_size e;exact EJ _ _ _ lc
 ·have lc:(c:Nat)<s1.heap.objs.size:=Heap.lt_size e;exact EJ _ _ _ lc
 ·have lc:(c:Nat)<s1.heap.objs.size:=Heap.lt_size e;exact zaD lc
 ·have lc:(c:Nat)<s1.heap.objs.size:=Heap.lt_size e;exact EJ _ _ _ lc
 ·have h1:=gU (ks.zip vs) [];rw[zaA,List.length_zip] at h1;lia
section
variable{K:zaa}{H H':Hp}{p C dx:zdk}{fs:List (Str×V)}
mutual
theorem qt(h:H p=some (.ins C dx fs))(u:ba (·=p) H H'):∀(d:Dp) (v:V),Rep K H d v->Rep K H' d v
 |.cC,v,r=>by rw[Rep.qi] at r ⊢;exact r
 |.bl b,v,r=>by rw[Rep.lQ] at r ⊢;exact r
 |.int b,v,r=>by rw[Rep.bt] at r ⊢;exact r
 |.str b,v,r=>by rw[Rep.bA] at r ⊢;exact r
 |.lst l,v,r=>by
  rw[Rep.bL] at r ⊢;obtain⟨a,ys,rfl,q,rs⟩:=r;refine⟨a,ys,rfl,?_,pJ h u l ys rs⟩;rcases q with (q |⟨o,q⟩) |q
  ·exact .inl (.inl (u _ _ (bU q h (by intro z;cases z)) q))
  ·exact .inl (.inr ⟨o,u _ _ (bU q h (by intro z;cases z)) q⟩)
  ·exact .inr q
 |.tup l,v,r=>by
  rw[Rep.bg] at r ⊢;obtain⟨a,ys,rfl,q,rs⟩:=r;refine⟨a,ys,rfl,?_,pJ h u l ys rs⟩;rcases q with (q |⟨o,q⟩) |q
  ·exact .inl (.inl (u _ _ (bU q h (by intro z;cases z)) q))
  ·exact .inl (.inr ⟨o,u _ _ (bU q h (by intro z;cases z)) q⟩)
  ·exact .inr q
theorem pJ(h:H p=some (.ins C dx fs))(u:ba (·=p) H H'):∀(ds:List Dp) (vs:List V),aN K H ds vs->aN K H' ds vs
 |[],vs,r=>by rw[aN.br] at r ⊢;exact r
 |d::ds,vs,r=>by
  rw[aN.aI] at r ⊢;obtain⟨v,t,rfl,r1,r2⟩:=r;exact⟨v,t,rfl,qt h u d v r1,pJ h u ds t r2⟩
end
end
theorem rV{K:zaa}{a D:zdk}{xs:List V}{te:TE}{Q:VK}{r:St}{H:Hp}(kf:Nat->Key×V)(hS:i7 K H a xs)(hl:xs.length<=16000000)(hD:H D=none)
 (step:∀i x H2,xs[i]?=some x->aq H H2->∀R:VK,(∀p,H2 p=none->R (.ref p) (upd H2 p (.tup [kV (kf i).1,(kf i).2])))->te (some x::r) H2 R)
 (q:∀(ps:List (zdk×Key×V)) H2,aq H H2->H2 D=some (.lst (ps.map fun q=>V.ref q.1))->(∀q∈ps,H2 q.1=some (.tup [kV q.2.1,q.2.2]))->ps.map (·.2)=(zaH xs.length).map kf->Q (.ref D) H2) :
 vM (Je K a) D (eM 0) AL te Q (none::r) (upd H D (.lst [])):=by
 refine xJ (K:=K) (fun i ys H2=>∃ps:List (zdk×Key×V),ys=ps.map (fun q=>V.ref q.1)/\(∀q∈ps,H2 q.1=some (.tup [kV q.2.1,q.2.2]))/\ps.map (·.2)=(zaH i).map kf) hS hl hD ⟨[],rfl,fun _ z=>(by cases z),rfl⟩ ?_ ?_
 ·rintro i x ys H2 hx s2 RI ly ⟨ps,rfl,Of,ep⟩ R hR
  refine step i x H2 hx s2 R fun p hp=>hR _ _ (aq.new hp _) ⟨ps++[(p,kf i)],by simp,fun q hq=>?_,by rw[zaw,ep,zbz,zaw];rfl⟩;have pD:D≠p:=ai RI hp;rcases zaz.mp hq with hq |hq
  ·have e:=Of q hq;rw[aw (bU e RI (by intro z;cases z))];exact aq.new hp _ _ _ e
  ·rw[zar.mp hq];show upd (upd H2 p _) D _ p=_;rw[aw pD.symm,ae]
 ·rintro ys H2 s2 RI ⟨ps,rfl,Of,ep⟩
  exact q ps H2 s2 RI Of ep
theorem kn{K:zaa}{a D:zdk}{xs:List V}{te:TE}{Q:VK}{r:St}{H:Hp}(f:Nat->V)(hS:i7 K H a xs)(hl:xs.length<=16000000)(hD:H D=none)
 (step:∀i x H2,xs[i]?=some x->aq H H2->∀R:VK,R (f i) H2->te (some x::r) H2 R)
 (q:∀H2,aq H H2->H2 D=some (.lst ((zaH xs.length).map f))->Q (.ref D) H2):vM (Je K a) D (eM 0) AL te Q (none::r) (upd H D (.lst [])):=by
 refine xJ (K:=K) (fun i ys H2=>ys=(zaH i).map f) hS hl hD rfl ?_ ?_
 ·rintro i x ys H2 hx s2 RI ly rfl R hR
  exact step i x H2 hx s2 R (hR _ _ (aq.refl _) (by rw[zbz,zaw];rfl))
 ·rintro ys H2 s2 RI rfl
  exact q H2 s2 RI
structure wL(K:zaa)(C:zdk)(H:Hp)(p:zdk)(pr:PG.Prog):Prop where
 at_:∃(dx nl sd fa va st wy:zdk) (us ws:List V),H p=some (.ins C dx [("names",.ref nl),("sizes",.ref sd),("first",.ref fa),("statements",.ref st),("ways",.ref wy)])/\H dx=some (.own p)/\
  H nl=some (.lst (pr.ay.map fun b=>.str (S b.name)))/\H sd=some (.dK (pr.ay.map fun b=>(.inr (S b.name),.int b.size)))/\
  H fa=some (.tup [.int (bj pr.body 0),.ref va])/\H va=some (.tup (pr.ay.map fun b=>.int b.first))/\
  us.length=(az pr.body).length/\H st=some (.dK (cU (az pr.body) us))/\aN K H ((az pr.body).map dH) us/\
  ws.length=(aQ pr.body 0).length/\H wy=some (.dK (zbd (fun r v=>(Sum.inl r.1,v)) (aQ pr.body 0) ws))/\∀i (hi:i<(aQ pr.body 0).length),∃q,ws[i]?=some (.ref q)/\bQ K H q ((aQ pr.body 0)[i].2.2.map V.int)
section
variable(K:zaa)(C:zdk)
def Og:Sp:=fun vs H Q _=>∃(p dx:zdk) (v:V) (pr:PG.Prog),vs=[.ref p,v]/\H p=some (.ins C dx [])/\H dx=some (.own p)/\Rep K H (je pr) v/\fX pr.body<=3/\(bV pr.body).length<=1000/\(az pr.body).Pairwise (fun a b=>a.row<b.row)/\(pr.ay.map (·.name)).Nodup/\pr.ay.length<=10/\
 ∀H',aZ p H H'->wL K C H' p pr->Q .cC H'
end
end L2
namespace L2
open PG
open PySem
def yS (ax:List (Key×V)) (x:W):Int:=match cm ax (.inr (S x)) with
 |some (.int i)=>i
 |_=>0
def Jh (ax:List (Key×V)):PM.Tr->Prop
 |.num n=>n.natAbs<=2 ^ 12
 |.box x=>∃i:Int,cm ax (.inr (S x))=some (.int i)/\i.natAbs<=2 ^ 12
 |.bin o l r=>(o=[43]\/o=[45]\/o=[42])/\Jh ax l/\Jh ax r
theorem EK{ax:List (Key×V)}{x:W}{i:Int}(h:cm ax (.inr (S x))=some (.int i)):yS ax x=i:=by
 unfold yS;rw[h]
theorem mF{ax:List (Key×V)}:∀ {t:PM.Tr},Jh ax t->(cx (yS ax) t).natAbs<=2 ^ (14*2 ^ oE t)
 |.num n,h=>by
  rw[Jh] at h;rw[cx];simp only[oE];exact zaC h (za5 (by decide) (by decide))
 |.box x,h=>by
  rw[Jh] at h;obtain⟨i,e,hi⟩:=h;rw[cx,EK e];simp only[oE];exact zaC hi (za5 (by decide) (by decide))
 |.bin o l r,h=>by
  rw[Jh] at h;have hl:=mF h.2.1;have hr:=mF h.2.2;have one:∀a b:Nat,1<=2 ^ max a b:=fun a b=>zb0;have ml:(cx (yS ax) l).natAbs<=2 ^ (14*2 ^ max (oE l) (oE r)):=zaC hl (za5 (by decide) (zde _ (za5 (by decide) (Nat.le_max_left _ _))));have mr:(cx (yS ax) r).natAbs<=2 ^ (14*2 ^ max (oE l) (oE r)):=zaC hr (za5 (by decide) (zde _ (za5 (by decide) (Nat.le_max_right _ _))));rw[oE,show 14*2 ^ (max (oE l) (oE r)+1)=14*2 ^ max (oE l) (oE r)+14*2 ^ max (oE l) (oE r) by rw[zcF];lia];have Y5:14<=14*2 ^ max (oE l) (oE r):=Nat.le_mul_of_pos_right _ (one _ _);generalize 14*2 ^ max (oE l) (oE r)=k at *;have two:2<=2 ^ k:=zaC (by decide:2<=2 ^ 1) (za5 (by decide) (by lia));rw[Nat.pow_add];have b2:2*2 ^ k<=2 ^ k*2 ^ k:=Nat.mul_le_mul_right _ two;rw[cx];split
  ·lia
  ·split
   ·lia
   ·rw[Int.natAbs_mul];exact zc3 ml mr
theorem AZ{a:Int}{d:Nat}(h:a.natAbs<=2 ^ (14*2 ^ d))(hd:d<=6):a.natAbs<2 ^ 4000:=by
 refine zbP h (Nat.pow_lt_pow_right (by decide) ?_);have:2 ^ d<=2 ^ 6:=za5 (by decide) hd;lia
section
variable(K:zaa)
def PX (n:Nat):Sp:=fun vs H Q _=>∃(v:V) (d:zdk) (tr:PM.Tr) (ax:List (Key×V)),vs=[v,.ref d]/\Rep K H (my tr) v/\H d=some (.dK ax)/\Jh ax tr/\oE tr<n/\oE tr<=6/\∀H',aq H H'->Q (.int (cx (yS ax) tr)) H'
end
theorem wL.mono{K:zaa}{C p:zdk}{H H':Hp}{pr:PG.Prog}(c:wL K C H p pr)(s:aq H H'):wL K C H' p pr:=by
 obtain⟨dx,nl,sd,fa,va,st,wy,us,ws,h1,h2,h3,h4,h5,h6,h7,h8,h9,Le,M1,PY⟩:=c.at_;exact⟨⟨dx,nl,sd,fa,va,st,wy,us,ws,s _ _ h1,s _ _ h2,s _ _ h3,s _ _ h4,s _ _ h5,s _ _ h6,h7,s _ _ h8,h9.mono s,Le,s _ _ M1,fun i hi=>let ⟨q,e,r⟩:=PY i hi;⟨q,e,s.a7 r⟩⟩⟩
theorem jf{α β:Type}(g:α->β)(d:α)(l:List α):(zaH l.length).map (fun i=>g (l.getD i d))=l.map g:=by
 apply zbV
 ·simp
 ·intro i h1 h2;simp at h1 h2;simp[h2]
def cG (bs:List gb) (vs:List V):List (Key×V):=zbd (fun b v=>(Sum.inr (S b.name),v)) bs vs
theorem nG:∀(bs:List gb) (vs:List V),(bs.map fun b=>(Sum.inr (S b.name):Key)).zip vs=cG bs vs
 |[],vs=>by simp[cG]
 |b::bs,[]=>by simp[cG]
 |b::bs,v::vs=>by
  show _::(bs.map fun b=>(Sum.inr (S b.name):Key)).zip vs=_::cG bs vs;rw[nG bs vs]
theorem lC:∀(bs:List gb) (vs:List V),vs.length=bs.length->(cG bs vs).map (·.1)=bs.map fun b=>(Sum.inr (S b.name):Key)
 |[],[],_=>rfl
 |[],_::_,h=>by simp at h
 |_::_,[],h=>by simp at h
 |b::bs,v::vs,h=>by
  show _::(cG bs vs).map (·.1)=_;rw[lC bs vs (by simpa using h)];rfl
theorem names_nodup{bs:List gb}(nb:(bs.map (·.name)).Nodup):(bs.map fun b=>(Sum.inr (S b.name):Key)).Nodup:=by
 refine zbe.mpr ((zbe.mp nb).imp fun {a b} Gq e=>Gq ?_);exact mw.mp (Sum.inr.inj e)
theorem mG:∀(bs:List gb) (vs:List V),vs.length=bs.length->(bs.map (·.name)).Nodup->∀i (hi:i<bs.length) v,vs[i]?=some v->cm (cG bs vs) (.inr (S bs[i].name))=some v
 |[],_,_,_,i,hi,_,_=>by simp at hi
 |_::_,[],h,_,_,_,_,_=>by simp at h
 |b::bs,v::vs,h,nb,0,hi,u,hu=>by
  simp at hu;subst hu;show cm ((_,v)::cG bs vs) _=_;exact cu rfl
 |b::bs,v::vs,h,nb,i+1,hi,u,hu=>by
  rw[zal,zaE] at nb;have mem:(bs[i]'(by simpa using hi)).name∈bs.map (·.name):=zaF.mpr ⟨_,zau _,rfl⟩;show cm ((.inr (S b.name),v)::cG bs vs) (.inr (S (bs[i]'(by simpa using hi)).name))=_;rw[cw (fun e=>by have e:=mw.mp (Sum.inr.inj e);exact nb.1 (e▸mem))];exact mG bs vs (by simpa using h) nb.2 i (by simpa using hi) u (by simpa using hu)
section
variable(K:zaa)(C:zdk)
def Ik:Sp:=fun vs H Q _=>∃(p a:zdk) (pr:PG.Prog) (us:List V),vs=[.ref p,.ref a]/\wL K C H p pr/\bQ K H a us/\us.length=pr.ay.length/\(pr.ay.map (·.name)).Nodup/\pr.ay.length<=10/\
 ∀d H',aq H H'->H d=none->H' d=some (.dK (cG pr.ay us))->Q (.ref d) H'
def Il:Sp:=fun vs H Q _=>∃(p d:zdk) (pr:PG.Prog) (ax:List (Key×V)) (us:List V),vs=[.ref p,.ref d]/\wL K C H p pr/\H d=some (.dK ax)/\us.length=pr.ay.length/\(∀i (hi:i<pr.ay.length),cm ax (.inr (S pr.ay[i].name))=us[i]?)/\pr.ay.length<=10/\
 ∀a H',aq H H'->bQ K H' a us->Q (.ref a) H'
def Lf:Sp:=fun vs H Q _=>∃(p:zdk) (pr:PG.Prog) (row:Int),vs=[.ref p,.int row]/\wL K C H p pr/\(az pr.body).Pairwise (fun a b=>a.row<b.row)/\
 ((row=0/\Q (.str "end") H)\/(row≠0/\∃i,∃hi:i<(az pr.body).length,(az pr.body)[i].row=row/\Q (.str (gg (az pr.body)[i].wd)) H))
end
def pK:bG->Option (W×PM.Tr×PM.Tr)
 |.cg _ sg l r=>some (sg,l,r)
 |.ifs _ sg l r _ _=>some (sg,l,r)
 |.fc _ sg l r _=>some (sg,l,r)
 |_=>none
def gS (sg:W) (a b:Int):Bool:=if sg=[60] then decide (a<b) else decide (a=b)
def wv (bs:List gb) (vals:List Int) (e:PM.Tr):Int:=cx (yS (cG bs (vals.map V.int))) e
abbrev DG (bs:List gb) (vals:List Int) (e:PM.Tr):Prop:=Jh (cG bs (vals.map V.int)) e/\oE e<=2
theorem rW{K:zaa}{H:Hp}{st:bG}{v:V}{sg:W}{l r:PM.Tr}(h:Rep K H (dH st) v)(c:pK st=some (sg,l,r)):∃a w0 vl vr ys,v=.ref a/\bQ K H a (w0 :: .int st.row :: .str (S sg)::vl::vr::ys)/\Rep K H (my l) vl/\Rep K H (my r) vr:=by
 have key:∃w ds,dH st=.tup (.str w :: .int st.row :: .str (S sg)::my l::my r::ds):=by
  cases st<;>simp only[pK,zaO.injEq,Prod.mk.injEq,reduceCtorEq] at c<;>obtain⟨rfl,rfl,rfl⟩:=c<;>exact⟨_,_,by rw[dH];rfl⟩
 obtain⟨w0,ds,e⟩:=key;rw[e,Rep.bg] at h;obtain⟨a,xs,rfl,q,rs⟩:=h;rw[aN.aI] at rs;obtain⟨v0,t0,rfl,_,rs⟩:=rs;rw[aN.aI] at rs;obtain⟨v1,t1,rfl,e1,rs⟩:=rs;rw[aN.aI] at rs;obtain⟨v2,t2,rfl,e2,rs⟩:=rs;rw[aN.aI] at rs;obtain⟨v3,t3,rfl,e3,rs⟩:=rs;rw[aN.aI] at rs;obtain⟨v4,t4,rfl,e4,rs⟩:=rs;rw[Rep.bt] at e1;rw[Rep.bA] at e2;subst e1 e2;exact⟨a,v0,v3,v4,t4,rfl,q,e3,e4⟩
def cE (K:zaa) (H:Hp) (sa:zdk) (row:Int) (vals:List Int):Prop:=∃va,bQ K H sa [.int row,.ref va]/\bQ K H va (vals.map V.int)
theorem cE.mono{K:zaa}{H H':Hp}{sa:zdk}{row:Int}{vals:List Int}(h:cE K H sa row vals)(s:aq H H'):cE K H' sa row vals:=let ⟨va,h1,h2⟩:=h;⟨va,s.a7 h1,s.a7 h2⟩
structure CK(pr:PG.Prog):Prop where
 pw:(az pr.body).Pairwise (fun a b=>a.row<b.row)
 nb:(pr.ay.map (·.name)).Nodup
 uZ:pr.ay.length<=10
 pos:∀s∈az pr.body,0<s.row
section
variable(K:zaa)(C:zdk)
def Oh:Sp:=fun vs H Q _=>∃(p sa:zdk) (pr:PG.Prog) (vals:List Int) (i:Nat) (hi:i<(az pr.body).length) (sg:W) (l r:PM.Tr),vs=[.ref p,.ref sa]/\wL K C H p pr/\CK pr/\cE K H sa (az pr.body)[i].row vals/\vals.length=pr.ay.length/\pK (az pr.body)[i]=some (sg,l,r)/\DG pr.ay vals l/\DG pr.ay vals r/\
 ∀H',aq H H'->Q (.bl (gS sg (wv pr.ay vals l) (wv pr.ay vals r))) H'
end
theorem zY:∀(fl:List dM) (vs:List V),vs.length=fl.length->fl.Pairwise (fun a b=>a.1<b.1)->∀i (hi:i<fl.length) v,vs[i]?=some v->cm (zbd (fun r v=>((Sum.inl r.1:Key),v)) fl vs) (.inl fl[i].1)=some v
 |[],_,_,_,i,hi,_,_=>by simp at hi
 |_::_,[],h,_,_,_,_,_=>by simp at h
 |s::ss,v::vs,h,hp,0,hi,u,hu=>by
  simp at hu;subst hu;rw[zcW];exact cu rfl
 |s::ss,v::vs,h,hp,i+1,hi,u,hu=>by
  rw[List.pairwise_cons] at hp;have lt:=hp.1 (ss[i]'(by simpa using hi)) (zau _);rw[zcW];show cm _ (Sum.inl (ss[i]'(by simpa using hi)).1:Key)=_;rw[cw (fun e=>by have e:=Sum.inl.inj e;lia)];exact zY ss vs (by simpa using h) hp.2 i (by simpa using hi) u (by simpa using hu)
theorem gW(b:List bG)(i:Nat)(hi:i<(az b).length):∃hf:i<(aQ b 0).length,(aQ b 0)[i].1=(az b)[i].row/\(aQ b 0)[i].2.1=(az b)[i].wd:=by
 have e:((aQ b 0).map fun r=>(r.1,r.2.1))=(az b).map fun x=>(x.row,x.wd):=by rw[cY,fQ]
 have l:=congrArg za6 e;rw[zad,zad] at l;have hf:i<(aQ b 0).length:=by lia
 refine⟨hf,?_⟩;have h1:((aQ b 0).map fun r=>(r.1,r.2.1))[i]?=((az b).map fun x=>(x.row,x.wd))[i]?:=by rw[e]
 rw[zam,zam,zac hf,zac hi] at h1;have h1:=zaO.inj h1;exact⟨congrArg Prod.fst h1,congrArg Prod.snd h1⟩
theorem Im{b:List bG}(pw:(az b).Pairwise fun a b=>a.row<b.row):(aQ b 0).Pairwise fun a b=>a.1<b.1:=by
 have e:((aQ b 0).map fun r=>(r.1,r.2.1))=(az b).map fun x=>(x.row,x.wd):=by rw[cY,fQ]
 have h:((az b).map fun x=>(x.row,x.wd)).Pairwise fun a b=>a.1<b.1:=zbe.mpr pw;rw[<- e,zbe] at h;exact h
theorem wL.way{K:zaa}{C p:zdk}{H:Hp}{pr:PG.Prog}(c:wL K C H p pr)(ok:CK pr)(i:Nat)(hi:i<(az pr.body).length)(hf:i<(aQ pr.body 0).length):∃dx fs wy q,H p=some (.ins C dx fs)/\fs.lookup (zab "ways")=some (V.ref wy)/\qE H wy (.int (az pr.body)[i].row) (some (.ref q))/\bQ K H q ((aQ pr.body 0)[i].2.2.map V.int):=by
 obtain⟨dx,nl,sd,fa,va,st,wy,us,ws,h1,h2,h3,h4,h5,h6,h7,h8,h9,Le,M1,PY⟩:=c.at_;obtain⟨q,e,hq⟩:=PY i hf;obtain⟨hf',e1,_⟩:=gW pr.body i hi;have g:=zY _ _ Le (Im ok.pw) i hf _ e;rw[e1] at g;exact⟨dx,_,wy,q,h1,rfl,.inl ⟨_,.inl _,.inl M1,rfl,g.symm⟩,hq⟩
def qM (K:zaa) (H:Hp):Option (Int×List Int)->V->Prop
 |none,v=>v=.cC
 |some x,v=>∃a,v=.ref a/\cE K H a x.1 x.2
def iH (bs:List gb) (st:bG) (ws:List Int) (vals:List Int):Option (Int×List Int):=match pK st with
 |none=>none
 |some (sg,l,r)=>if gS sg (wv bs vals l) (wv bs vals r) then some (ws.getD 0 0,vals) else if st.wd=.cg then none else some (ws.getD 1 0,vals)
section
variable(K:zaa)(C:zdk)
def Io:Sp:=fun vs H Q _=>∃(p sa:zdk) (pr:PG.Prog) (vals:List Int) (i:Nat) (hi:i<(az pr.body).length) (hf:i<(aQ pr.body 0).length) (sg:W) (l r:PM.Tr),vs=[.ref p,.ref sa]/\wL K C H p pr/\CK pr/\cE K H sa (az pr.body)[i].row vals/\vals.length=pr.ay.length/\pK (az pr.body)[i]=some (sg,l,r)/\DG pr.ay vals l/\DG pr.ay vals r/\
 0<(aQ pr.body 0)[i].2.2.length/\((az pr.body)[i].wd≠.cg->1<(aQ pr.body 0)[i].2.2.length)/\
 ∀v H',aq H H'->qM K H' (iH pr.ay (az pr.body)[i] (aQ pr.body 0)[i].2.2 vals) v->Q v H'
end
open PyProof.Rows
def Oi:V->List V->Hp->VK->Prop:=fun x vs H Q=>∃(l:zdk) (ss:List Str) (y:Str) (j:Nat),x=.ref l/\vs=[.str y]/\H l=some (.lst (ss.map V.str))/\ss[j]?=some y/\(∀m,m<j->ss[m]?≠some y)/\Q (.int j) H
theorem Ip{X:Cx}:Ux X "list.index" Oi:=by
 intro pins s σ H x vs v us Q I rx rv h;obtain⟨l,ss,y,j,rfl,rfl,hH,hj,Ny,q⟩:=h;cases rx;obtain⟨u,rfl,ru⟩:=rv.one;obtain⟨t,rfl⟩:=(show ∃t,u=Value.str y t from ru)
 obtain⟨z,bC,n,r,hl,e⟩:=I.El hH;rw[zad] at z hl;have line:zds=2 ^ 24:=rfl;have get:∀m (hm:m<bC.length),∃t',bC[m]=Value.str (ss[m]'(by lia)) t':=fun m hm=>by
  obtain⟨w',hw,Ef⟩:=r.get (i:=m) (show (ss.map V.str)[m]?=some (V.str (ss[m]'(by lia))) by rw[zam,zac (by lia)];rfl);rw[zac hm] at hw;cases hw;exact Ef
 have lj:j<ss.length:=(zak.mp hj).1;have ej:ss[j]=y:=(zak.mp hj).2
 let e0:zdl->Bool:=fun v=>match v with
  |.str a _=>a==y
  |_=>false
 refine call_meets F.slot_list_index ⟨_,e,rfl⟩ F.entry_list_index (F.args_list_index_2 _ _)
  (SeqAt.list_indexAt l bC.toArray n none #[] (.str y t) e0 j (by rw[zas];lia) (by lia) ?_ ?_) ⟨e,?_,?_⟩
 ·obtain⟨t',et⟩:=get j (by lia);show e0 bC[j]=true;rw[et,ej];simp[e0]
 ·intro m hm lt;have Y6:m<bC.length:=by simpa using hm
  obtain⟨t',et⟩:=get m Y6;show e0 bC[m]=false;rw[et];have:=Ny m lt;rw[zac (by lia)] at this;simp only[e0];exact beq_eq_false_iff_ne.mpr fun w=>this (by rw[w])
 ·intro v hv;rw[List.mem_toArray] at hv;obtain⟨m,hm,rfl⟩:=zbW.mp hv;obtain⟨t',et⟩:=get m hm;rw[et];exact SeqAt.EqAt.str_str _ _ _ _
 ·exact⟨.int j,H,I.tok _,⟨_,rfl⟩,q⟩
def c7 (bs:List gb) (x:W):Nat:=(bs.map (·.name)).idxOf x
def tU (bs:List gb) (vals:List Int) (x:W) (v:Int):List Int:=vals.set (c7 bs x) v
def eP (bs:List gb) (x:W):Int:=((bs[c7 bs x]?).map (·.size)).getD 1
def lD (bs:List gb) (st:bG) (ws vals:List Int) (fig:Int):Option (Int×List Int)×Option Int:=match st with
 |.ask _ b=>(some (ws.getD 0 0,tU bs vals b (fig%eP bs b)),none)
 |.put _ b e=>(some (ws.getD 0 0,tU bs vals b (wv bs vals e%eP bs b)),none)
 |.say _ e=>(some (ws.getD 0 0,vals),some (wv bs vals e))
 |.stop _=>(some (ws.getD 0 0,vals),none)
 |st=>(iH bs st ws vals,none)
def Gy (bs:List gb) (vals:List Int):bG->Prop
 |.ask _ b=>b∈bs.map (·.name)
 |.put _ b e=>b∈bs.map (·.name)/\DG bs vals e
 |.say _ e=>DG bs vals e
 |.cg _ _ l r=>DG bs vals l/\DG bs vals r
 |.ifs _ _ l r _ _=>DG bs vals l/\DG bs vals r
 |.fc _ _ l r _=>DG bs vals l/\DG bs vals r
 |.stop _=>True
def Lg:Option Int->V
 |none=>.cC
 |some n=>.int n
theorem kC{bs:List gb}{x:W}(h:x∈bs.map (·.name)):∃hi:c7 bs x<bs.length,bs[c7 bs x].name=x:=by
 have l:c7 bs x<(bs.map (·.name)).length:=List.idxOf_lt_length_iff.mpr h;have e:(bs.map (·.name))[c7 bs x]=x:=List.getElem_idxOf l;rw[zad] at l;rw[zbu] at e;exact⟨l,e⟩
theorem EL{bs:List gb}{vs:List V}(l:vs.length=bs.length)(nb:(bs.map (·.name)).Nodup){x:W}(h:x∈bs.map (·.name))(v:V)(i:Nat)(hi:i<bs.length) :
 cm (putK (cG bs vs) (.inr (S x)) v) (.inr (S bs[i].name))=(vs.set (c7 bs x) v)[i]?:=by
 obtain⟨hx,ex⟩:=kC h;rw[oX];by_cases e:i=c7 bs x
 ·subst e;rw[zzp (by rw[ex]),zce (by lia)]
 ·have ne:bs[i].name≠x:=fun z=>e (by
   have p1:=zbJ.mp nb;rw[<- ex] at z;rcases Nat.lt_trichotomy i (c7 bs x) with lt |eq |gt
   ·exact zzb (by rw[zbu,zbu];exact z) (p1 i (c7 bs x) (by simpa using hi) (by simpa using hx) lt)
   ·exact eq
   ·exact zzb (by rw[zbu,zbu];exact z.symm) (p1 (c7 bs x) i (by simpa using hx) (by simpa using hi) gt))
  rw[zzn (fun z=>ne (mw.mp (Sum.inr.inj z))),zcp (fun z=>e z.symm)];have li:i<vs.length:=by lia
  rw[mG bs vs l nb i hi vs[i] (zac li),zac li]
theorem CL{bs:List gb}(nb:(bs.map (·.name)).Nodup){x:W}(h:x∈bs.map (·.name)):cm (bs.map fun b=>((Sum.inr (S b.name):Key),V.int b.size)) (.inr (S x))=some (.int (eP bs x)):=by
 obtain⟨hx,ex⟩:=kC h;have e:(bs.map fun b=>((Sum.inr (S b.name):Key),V.int b.size))=cG bs (bs.map fun b=>V.int b.size):=by
  unfold cG;rw[List.zipWith_map_right,List.zipWith_self]
 rw[e];have:=mG bs (bs.map fun b=>V.int b.size) (by simp) nb (c7 bs x) hx (.int bs[c7 bs x].size) (by rw[zam,zac hx];rfl);rw[ex] at this;rw[this];unfold eP;rw[zac hx];rfl
section
variable(K:zaa)(C:zdk)
def Lh:Sp:=fun vs H Q _=>∃(p sa:zdk) (fv:V) (pr:PG.Prog) (vals:List Int) (fig:Int) (i:Nat) (hi:i<(az pr.body).length) (hf:i<(aQ pr.body 0).length),vs=[.ref p,.ref sa,fv]/\wL K C H p pr/\CK pr/\(∀b∈pr.ay,0<b.size)/\cE K H sa (az pr.body)[i].row vals/\vals.length=pr.ay.length/\
 ((az pr.body)[i].wd=.ask->fv=.int fig)/\Gy pr.ay vals (az pr.body)[i]/\0<(aQ pr.body 0)[i].2.2.length/\((az pr.body)[i].wd=.ifs\/(az pr.body)[i].wd=.fc->1<(aQ pr.body 0)[i].2.2.length)/\
 ∀q sv H',aq H H'->bQ K H' q [sv,Lg (lD pr.ay (az pr.body)[i] (aQ pr.body 0)[i].2.2 vals fig).2]->qM K H' (lD pr.ay (az pr.body)[i] (aQ pr.body 0)[i].2.2 vals fig).1 sv->Q (.ref q) H'
end
open PySem.Spec
def Vi (K:zaa):R2:=fun x y H Q=>∃a b xs ys,x=.ref a/\y=.ref b/\bQ K H a xs/\bQ K H b ys/\xs.length+ys.length<=zds/\∀p H',aq H H'->bQ K H' p (xs++ys)->Q (.ref p) H'
theorem wM{X:Cx}:rK X (binaryOp .Add) (Vi X.K):=by
 intro pins s σ H x y v u Q I rx ry h;by_cases hx:∃Vj,(∃a b ys,x=.ref a/\y=.ref b/\bQ X.K H a Vj/\bQ X.K H b ys/\Vj.length+ys.length<=zds/\∀p H',aq H H'->bQ X.K H' p (Vj++ys)->Q (.ref p) H')/\Vj=[]
 ·obtain⟨xs,⟨a,b,ys,rfl,rfl,ha,hb,hz,q⟩,rfl⟩:=hx;cases rx;cases ry;obtain⟨bC,r1,p1,_⟩:=I.tuple ha;obtain⟨tj,r2,p2,_⟩:=I.tuple hb;obtain⟨⟨cls,dd,data,sl⟩,ho,hc,n,hd⟩:=id p1;obtain⟨⟨Ys,Tc,data2,Td⟩,Rb,Us,n2,hd2⟩:=id p2;simp only at hc hd Us hd2;subst hc hd Us hd2;cases r1;exact concat_meets ⟨_,ho,rfl⟩ ⟨_,Rb,rfl⟩ noFill_tuple_add seq_tuple_add zch zb9 (zb1 _ _)
   (tuple_addW0 a b _ tj.toArray n n2 dd Tc sl Td rfl) ⟨ho,Rb,⟨.ref b,H,I,rfl,q _ _ (aq.refl _) hb⟩⟩
 ·obtain⟨a,b,xs,ys,rfl,rfl,ha,hb,hz,q⟩:=h;refine sZ pins s σ H _ _ v u Q I rx ry ⟨a,b,xs,ys,rfl,rfl,ha,hb,fun e=>hx ⟨xs,⟨a,b,ys,rfl,rfl,ha,hb,hz,q⟩,e⟩,hz,fun e=>q _ _ (aq.refl _) ?_,fun _ p hp=>q _ _ (aq.new hp _) (.of ae)⟩;rw[e,zav];exact ha
def Vk (K:zaa):V->Option Int->Option Int->Hp->VK->Prop:=fun x lo hi H Q=>∃a xs,x=.ref a/\bQ K H a xs/\∀p H',aq H H'->bQ K H' p (jv xs lo hi)->Q (.ref p) H'
theorem Gz{X:Cx}:Uu X (Vk X.K):=by
 intro pins s σ H x v vl vu lo hi sl Q I rx hs pl pu h;obtain⟨a,xs,rfl,hx,q⟩:=h;refine N2 pins s σ H _ v vl vu lo hi sl Q I rx hs pl pu ⟨a,xs,rfl,hx,fun e=>q _ _ (aq.refl _) ?_,fun _ p hp=>q _ _ (aq.new hp _) (.of ae)⟩;have:jv xs lo hi=xs:=by
  unfold jv;rw[e.1,e.2];simp
 rw[this];exact hx
theorem zZ{K:zaa}{H:Hp}:∀l:List Int,aN K H (l.map Dp.int) (l.map V.int)
 |[]=>by rw[za3,za3,aN.br]
 |x::r=>by rw[zal,zal,aN.aI];exact⟨_,_,rfl,by rw[Rep.bt],zZ r⟩
def RJ:bG->Prop
 |.cg _ sg _ _=>sg∈BO
 |.ifs _ sg _ _ _ _=>sg∈BO
 |.fc _ sg _ _ _=>sg∈BO
 |_=>True
section
variable(K:zaa)
def EM:Sp:=fun vs H Q _=>∃(B ta wa va:zdk) (fv:V) (bs:List gb) (st:bG) (ws vals:List Int) (fig:Int),vs=[.ref B,.ref ta,.ref wa,.ref va,fv]/\Rep K H (.lst (bs.map iD)) (.ref B)/\Rep K H (dH st) (.ref ta)/\bQ K H wa (ws.map V.int)/\bQ K H va (vals.map V.int)/\(bs.map (·.name)).Nodup/\bs.length<=10/\(∀b∈bs,0<b.size)/\vals.length=bs.length/\
 (st.wd=.ask->fv=.int fig)/\Gy bs vals st/\RJ st/\0<ws.length/\(st.wd=.ifs\/st.wd=.fc->1<ws.length)/\
 ∀q sv H',aq H H'->bQ K H' q [sv,Lg (lD bs st ws vals fig).2]->qM K H' (lD bs st ws vals fig).1 sv->Q (.ref q) H'
end
theorem Iq{H H':Hp}{b:zdk}(s:aq H H')(h:H' b=none):H b=none:=by
 cases z:H b with
 |none=>rfl
 |some o=>rw[s _ _ z] at h;cases h
def oP (D:zdk) (H:Hp):Hp:=fun b=>if b=D then none else H b
theorem nH{D b:zdk}{H:Hp}(n:b≠D):oP D H b=H b:=zzn n
theorem wN{D b:zdk}{H:Hp}{o:HO}(h:oP D H b=some o):b≠D/\H b=some o:=by
 unfold oP at h;by_cases e:b=D
 ·rw[zzp e] at h;cases h
 ·rw[zzn e] at h;exact⟨e,h⟩
theorem qu{D:zdk}{H:Hp}:aq (oP D H) H:=fun b o h=>(wN h).2
theorem Ir{D:zdk}{H H':Hp}(u:aZ D H H'):aq (oP D H) H':=fun b o h=>u b o (wN h).1 (wN h).2
theorem bQ.vg{K:zaa}{H H':Hp}{D a:zdk}{xs ys:List V}(h:bQ K H a xs)(hD:H D=some (.lst ys))(u:aZ D H H'):bQ K H' a xs:=by
 rcases h with (q |⟨o,q⟩) |q
 ·exact .inl (.inl (u _ _ (bU q hD (by intro z;cases z)) q))
 ·exact .inl (.inr ⟨o,u _ _ (bU q hD (by intro z;cases z)) q⟩)
 ·exact .inr q
theorem A0{bs:List gb}{vals:List Int}(lv:vals.length=bs.length)(nb:(bs.map (·.name)).Nodup)(hv:∀v∈vals,v.natAbs<=2 ^ 12):∀e:PM.Tr,jz bs e->Jh (cG bs (vals.map V.int)) e
 |.num n,h=>by rw[jz] at h;rw[Jh];lia
 |.box x,h=>by
  rw[jz] at h;rw[Jh];obtain⟨hx,ex⟩:=kC h;have li:c7 bs x<vals.length:=by lia
  refine⟨vals[c7 bs x],?_,hv _ (zau li)⟩;have:=mG bs (vals.map V.int) (by simpa using lv) nb (c7 bs x) hx (.int vals[c7 bs x]) (by rw[zam,zac li];rfl);rw[ex] at this;exact this
 |.bin o l r,h=>by
  rw[jz] at h;rw[Jh];exact⟨by simpa using h.1,A0 lv nb hv l h.2.1,A0 lv nb hv r h.2.2⟩
theorem A1{bs:List gb}{vals:List Int}(lv:vals.length=bs.length)(nb:(bs.map (·.name)).Nodup)(hv:∀v∈vals,v.natAbs<=2 ^ 12){st:bG}(h:tJ (·∈bs.map (·.name)) (fun e=>jz bs e/\oE e<=2) (·∈BO) st):Gy bs vals st/\RJ st:=by
 have k:∀e,(jz bs e/\oE e<=2)->DG bs vals e:=fun e h=>⟨A0 lv nb hv e h.1,h.2⟩
 cases st<;>rw[tJ] at h
 ·exact⟨h,trivial⟩
 ·exact⟨⟨h.1,k _ h.2⟩,trivial⟩
 ·exact⟨k _ h,trivial⟩
 ·exact⟨⟨k _ h.2.1,k _ h.2.2⟩,h.1⟩
 ·exact⟨trivial,trivial⟩
 ·exact⟨⟨k _ h.2.1,k _ h.2.2.1⟩,h.1⟩
 ·exact⟨⟨k _ h.2.1,k _ h.2.2.1⟩,h.1⟩
section
variable(K:zaa)
def EN:Sp:=fun vs H Q _=>∃(D S:zdk) (sc:List Int) (p many:Nat),vs=[.ref D,.int many]/\i6 K H D S sc p/\p<=100/\many<=100/\
 ∀(l t1 B b R:zdk) H',aZ D H H'->(∃p',p'<=90000/\i6 K H' D S sc p')->H' l=some (.lst [.ref t1,.ref R])->H' t1=some (.tup [.ref B,.ref b])->l≠D->t1≠D->B≠D->b≠D->R≠D->
  Fix K (·=D) H' (.lst ((b8 sc many p).1.ay.map iD)) (.ref B)->Fix K (·=D) H' (.lst ((b8 sc many p).1.body.map dH)) (.ref b)->Fix K (·=D) H' (.lst ((b8 sc many p).2.map jU)) (.ref R)->Q (.ref l) H'
end
theorem A2{tc:TT}{tb:TS}{D:Ends}{σ:St}{H:Hp}(h:∀B:TS,(∀D σ H,tb D σ H->B D σ H)->DU tc B D σ H):DU tc tb D σ H:=h tb fun _ _ _ x=>x
def xM (b:List bG) (row:Int):bG:=((az b)[KO b row]?).getD (.stop 0)
def RK (b:List bG) (row:Int):List Int:=(((aQ b 0)[KO b row]?).map (·.2.2)).getD []
def dc (b:List bG) (row:Int):Bool:=decide ((xM b row).wd=.ask)
def bX (pr:PG.Prog) (row:Int) (vals:List Int) (f:Int):Option (Int×List Int)×Option Int:=lD pr.ay (xM pr.body row) (RK pr.body row) vals f
theorem nI{b:List bG}(pw:(az b).Pairwise (fun a b=>a.row<b.row))(i:Nat)(hi:i<(az b).length):xM b (az b)[i].row=(az b)[i]:=by
 unfold xM;rw[Gk pw i hi,zac hi];rfl
theorem GA{b:List bG}(pw:(az b).Pairwise (fun a b=>a.row<b.row))(i:Nat)(hi:i<(az b).length)(hf:i<(aQ b 0).length):RK b (az b)[i].row=(aQ b 0)[i].2.2:=by
 unfold RK;rw[Gk pw i hi,zac hf];rfl
structure CM(pr:PG.Prog)(row:Int)(vals:List Int):Prop where
 row:row=0\/∃i,∃hi:i<(az pr.body).length,(az pr.body)[i].row=row
 len:vals.length=pr.ay.length
 small:∀v∈vals,v.natAbs<=2 ^ 12
structure iI(pr:PG.Prog):Prop where
 ok:CK pr
 dep:fX pr.body<=3
 uZ:(bV pr.body).length<=1000
 own:xw (·∈pr.ay.map (·.name)) (fun e=>jz pr.ay e/\oE e<=2) (·∈BO) pr.body
 size:∀b∈pr.ay,2<=b.size/\b.size<=10/\0<=b.first/\b.first<b.size
theorem GB{pr:PG.Prog}{w:Int}(h:w=0\/w=0\/∃t∈az pr.body,t.row=w):w=0\/∃i,∃hi:i<(az pr.body).length,(az pr.body)[i].row=w:=by
 rcases h with h |h |⟨t,ht,e⟩
 ·exact .inl h
 ·exact .inl h
 ·obtain⟨i,hi,e2⟩:=zbW.mp ht;exact .inr ⟨i,hi,by rw[e2];exact e⟩
theorem iI.first{pr:PG.Prog}(d:iI pr):CM pr (bj pr.body 0) (pr.ay.map (·.first)):=by
 refine⟨GB (.inr ?_),by simp,fun v hv=>?_⟩
 ·rcases pA pr.body 0 with e |e
  ·exact .inl e
  ·exact .inr e
 ·obtain⟨b,hb,rfl⟩:=zaF.mp hv;have:=d.size b hb;lia
theorem CN{pr:PG.Prog}(d:iI pr){x:W}(h:x∈pr.ay.map (·.name)):2<=eP pr.ay x/\eP pr.ay x<=10:=by
 obtain⟨hx,_⟩:=kC h;unfold eP;rw[zac hx];have:=d.size _ (zau hx);exact⟨this.1,this.2.1⟩
theorem CM.step{pr:PG.Prog}(d:iI pr){i:Nat}(hi:i<(az pr.body).length)(hf:i<(aQ pr.body 0).length){vals:List Int}{f:Int}(lv:vals.length=pr.ay.length)(sm:∀v∈vals,v.natAbs<=2 ^ 12){x:Int×List Int}{s:Option Int}
 (h:lD pr.ay (az pr.body)[i] (aQ pr.body 0)[i].2.2 vals f=(some x,s)):CM pr x.1 x.2:=by
 have Li:=jg pr.body _ d.own (zau hi);obtain⟨w0,w1⟩:=jd pr.body 0 _ (zau hf);have win:=pB pr.body 0 _ (zau hf);obtain⟨_,_,ew⟩:=gW pr.body i hi;rw[ew] at w1;generalize (aQ pr.body 0)[i].2.2=ws at *;generalize (az pr.body)[i]=st at *;have r0:∀j,j<ws.length->ws.getD j 0=0\/∃i,∃hi:i<(az pr.body).length,(az pr.body)[i].row=ws.getD j 0:=fun j hj=>by
  rw[zap,zac hj];exact GB (win _ (zau hj))
 have set:∀(b:W) (z:Int),b∈pr.ay.map (·.name)->(tU pr.ay vals b (z%eP pr.ay b)).length=pr.ay.length/\∀v∈tU pr.ay vals b (z%eP pr.ay b),v.natAbs<=2 ^ 12:=fun b z hb=>by
  unfold tU;refine⟨by rw[zcQ];exact lv,fun v hv=>?_⟩;rcases List.mem_or_eq_of_mem_set hv with hv |rfl
  ·exact sm v hv
  ·have:=CN d hb;have m1:=zaP z (b:=eP pr.ay b) (by lia);have m2:=zaM z (b:=eP pr.ay b) (by lia);lia
 have cs:iH pr.ay st ws vals=some x->(st.wd=.cg\/st.wd=.ifs\/st.wd=.fc)->CM pr x.1 x.2:=by
  intro e hw;unfold iH at e;split at e
  ·cases e
  ·split at e
   ·cases e;exact⟨r0 0 w0,lv,sm⟩
   ·split at e
    ·cases e
    ·rename_i nm;cases e;exact⟨r0 1 (w1 (hw.resolve_left nm)),lv,sm⟩
 have wg:∀(y:Int×List Int) (s':Option Int),(some y,s')=(some x,s)->CM pr y.1 y.2->CM pr x.1 x.2:=fun y s' e h=>by cases e;exact h
 cases st<;>rw[tJ] at Li
 ·exact wg _ _ h ⟨r0 0 w0,(set _ _ Li).1,(set _ _ Li).2⟩
 ·exact wg _ _ h ⟨r0 0 w0,(set _ _ Li.1).1,(set _ _ Li.1).2⟩
 ·exact wg _ _ h ⟨r0 0 w0,lv,sm⟩
 ·exact cs (congrArg Prod.fst h) (.inl rfl)
 ·exact wg _ _ h ⟨r0 0 w0,lv,sm⟩
 ·exact cs (congrArg Prod.fst h) (.inr (.inl rfl))
 ·exact cs (congrArg Prod.fst h) (.inr (.inr rfl))
theorem bQ.dk{K:zaa}{H H':Hp}{D a:zdk}{xs:List V}{ax:List (Key×V)}(h:bQ K H a xs)(hD:H D=some (.dK ax))(u:aZ D H H'):bQ K H' a xs:=by
 rcases h with (q |⟨o,q⟩) |q
 ·exact .inl (.inl (u _ _ (bU q hD (by intro z;cases z)) q))
 ·exact .inl (.inr ⟨o,u _ _ (bU q hD (by intro z;cases z)) q⟩)
 ·exact .inr q
theorem tV{K:zaa}{H:Hp}{r:zdk}{l:List Int}(h:i7 K H r (l.map V.int)):Rep K H (.lst (l.map Dp.int)) (.ref r):=Rep.bL.mpr ⟨r,_,rfl,h,zZ l⟩
theorem tW(l:List Int):SeqAt.shaped (Dp.lst (l.map Dp.int)).py=true:=by
 obtain⟨h1,h2⟩:=Gs l;unfold SeqAt.shaped;simp only[Dp.py,Dp.uR,PyData.canLay0,PyData.canLayAll0,PyData.depth,PyData.depthAll,h1,h2,zdb,Bool.true_and,decide_eq_true_iff];lia
section
variable{K:zaa}{H H1:Hp}{p:zdk}{vs:List V}{ds:List Dp}
theorem gT(e:upd H p (.tup vs)=H1)(hp:H p=none):aq H H1:=e▸aq.new hp _
theorem gL(e:upd H p (.lst vs)=H1)(hp:H p=none):aq H H1:=e▸aq.new hp _
theorem M3(e:upd H p (.tup vs)=H1)(hp:H p=none)(hr:aN K H ds vs):Rep K H1 (.tup ds) (.ref p):=e▸Rep.new hp hr
theorem Oj(e:upd H p (.lst vs)=H1):H1 p=some (.lst vs):=e▸ae
end
theorem rS{K:zaa}{H:Hp}{x:Str}:Rep K H (.str x) (.str x):=Rep.bA.mpr rfl
theorem PZ{K:zaa}{H:Hp}{x:Int}:Rep K H (.int x) (.int x):=Rep.bt.mpr rfl
section
variable{prog:zdw}{w:zdm}
def vh (prog:zdw) (w:zdm) (h:Heap) (x:Key×List Key) (a:zdk):Prop:=∃(o:Obj) (n:Nat) (u:zdl) (b:zdk),h.get? a=some o/\o.cls=.type "tuple"/\o.data=.seq #[u,.ref b] n/\sO x.1 u=true/\IsTupleKey (bT prog w) h x.2 b
theorem vh.ty{s:zdu}{x:Key×List Key}{a:zdk}(h:vh prog w s.heap x a):s.TypeIs (.ref a) "tuple":=let ⟨o,_,_,_,e,c,_⟩:=h;⟨o,e,c⟩
def Lj (w:zdm) (prog:zdw) (x:Key×List Key):Int:=reduceHash (Builtin.Tuple.tupleHashOf [Ni w x.1,tupleKeyHash (bT prog w) x.2])
theorem vh.one{h:Heap}{a:zdk}{x y:Key×List Key}(hx:vh prog w h x a)(hy:vh prog w h y a):x=y:=by
 obtain⟨o,n,u,b,e,_,d,i,t⟩:=hx;obtain⟨o',n',u',b',e',_,d',i',t'⟩:=hy;rw[e] at e';cases e';rw[d] at d'
 injection d' with d1 _
 have d1:=congrArg zdh d1;simp only[zdi.injEq,Value.ref.injEq,and_true] at d1;obtain⟨rfl,rfl⟩:=d1;exact Prod.ext ((bT prog w).inj _ _ _ i i') (t.inj t')
theorem vh.kp{h h':Heap}{x:Key×List Key}{a d:zdk}{o:Obj}{es ep}(hx:vh prog w h x a)(ho:h.get? d=some o)(hd:o.data=.dict es ep)(hs:Heap.SameBut d h h'):vh prog w h' x a:=by
 obtain⟨o',n,u,b,e,c,d',i,t⟩:=hx;have ne:a≠d:=fun z=>by
  rw[z,ho] at e;cases e;rw[hd] at d';cases d'
 exact⟨o',n,u,b,(hs.2 a ne).trans e,c,d',i,t.keeps ho hd hs⟩
variable{A:zdv}{E:zdl->zdu->Prop}{s:zdu}
theorem Ol{x:Key×List Key}{a:zdk}{Q:Int->zdu->Prop}(hu:A.units+8<cLine)(hk:vh prog w s.heap x a)(h:Q (Lj w prog x) {s with toks:=s.toks+(x.2.length+3)}) :
 wpAny (model prog w) A (pyHash (.ref a)) Q E s:=by
 have ty:=hk.ty;obtain⟨o,n,u,b,e,c,d,i,t⟩:=hk;refine zdg (T:="tuple") ty F.slot_tuple_hash F.entry_tuple_hash (F.args_tuple_hash_1 _) (beq_builtin_none _) (.inr (by lia)) ((show wpAny _ _ (Builtin.Tuple.tupleItemsOf (.ref a) >>= _) _ _ s from ?_));refine zdn (wpAny_tupleItemsOf e d (zdn ?_));rw[<- zcy];show wpAny _ _ (forIn [u,Value.ref b] #[] _) _ _ s;rw[zba];refine zdn (zdn ((bT prog w).pyHash i (zdo ?_)));show wpAny _ _ (forIn [Value.ref b] _ _) _ _ _;rw[zba];refine zdn (zdn (wpAny_pyHash_tuple (ks:=x.2) (by show A.units+1<cLine;lia) (show IsTupleKey (bT prog w) _ x.2 b from t) (zdo ?_)));show wpAny _ _ (forIn ([]:List zdl) _ _) _ _ _;rw[zbL];refine zdo ?_;show wpAny _ _ (retInt (Builtin.Tuple.tupleHashOf [Ni w x.1,tupleKeyHash (bT prog w) x.2])) _ _ _;refine zdn (wpAny_mkInt (zdo ⟨_,_,rfl,?_⟩));rw[show s.toks+(x.2.length+3)=s.toks+1+(x.2.length+1)+1 by lia] at h;exact h
theorem Vl{x y:Key×List Key}{a b:zdk}{Q:Bool->zdu->Prop}(hu:A.units+8<cLine)(hx:vh prog w s.heap x a)(hy:vh prog w s.heap y b)(h:Q (decide (x=y)) s):wpAny (model prog w) A (eqBool (.ref a) (.ref b)) Q E s:=by
 unfold eqBool
 try with_reducible refine zdp ?_
 show wpAny _ _ (if (Value.ref a==Value.ref b)=true then _ else _) Q E s;by_cases Gq:(Value.ref a==Value.ref b)=true
 ·rw[zzp Gq];have e:a=b:=by have:=eq_of_beq Gq;injection this
  subst e;cases hx.one hy;exact zdn (wpAny_rule (zdo (by simpa using h)))
 ·rw[zzn Gq];refine zdn (wpAny_richCompare_same_room (op:=.Eq) hx.ty hy.ty F.slot_tuple_eq (wpAny_call_entry F.slot_tuple_eq hx.ty F.entry_tuple_eq ?_ (F.args_tuple_eq_2 _ _)) (by lia));have hTb:=hy.ty;obtain⟨o1,n1,u1,b1,e1,c1,d1,i1,t1⟩:=hx;obtain⟨o2,n2,u2,b2,e2,c2,d2,i2,t2⟩:=hy;show wpAny _ _ (isInstance (.ref b) (.type "tuple") >>= _) _ _ s;refine zdn (wpAny_isInstance hTb isSubtype_tuple_tuple ?_);simp only[zbD,zay,if_false];refine zdn (wpAny_tupleItemsOf e1 d1 (zdn (wpAny_tupleItemsOf e2 d2 (zdn ?_))));show wpAny _ _ (forIn [(u1,u2),(Value.ref b1,Value.ref b2)] _ _) _ _ s;have fin:∀c:Bool,c=decide (x=y)->∃v,(Fin.done (Flow.ret (Value.bool c)))=Fin.done (Flow.ret v)/\v≠Value.notImplemented/\wpAny (model prog w) A (truthOfDropped v) Q E s:=fun c hc=>⟨_,rfl,(fun z=>nomatch z),wpAny_truthy_bool (hc▸h)⟩
  rw[zba];refine zdn (zdn ((bT prog w).eqBool (a:=x.1) (b:=y.1) i1 i2 ?_));by_cases k1:x.1=y.1
  ·rw[decide_eq_true k1];simp only[zbD,zay,if_false];refine zdo ?_;show wpAny _ _ (forIn [(Value.ref b1,Value.ref b2)] _ _) _ _ s;rw[zba];refine zdn (zdn (wpAny_eqBool_tuple (x:=x.2) (y:=y.2) (by show A.units+1<cLine;lia) t1 t2 ?_));by_cases k2:x.2=y.2
   ·rw[decide_eq_true k2];simp only[zbD,zay,if_false];refine zdo ?_;show wpAny _ _ (forIn ([]:List (zdl×zdl)) _ _) _ _ s;rw[zbL];exact zdo (zdo (fin true (decide_eq_true (Prod.ext k1 k2)).symm))
   ·rw[decide_eq_false k2];simp only[Bool.not_false,if_true];exact zdn (zdo (zdo (zdo (zdo (fin false (decide_eq_false fun z=>k2 (congrArg Prod.snd z)).symm)))))
  ·rw[decide_eq_false k1];simp only[Bool.not_false,if_true];exact zdn (zdo (zdo (zdo (zdo (fin false (decide_eq_false fun z=>k1 (congrArg Prod.fst z)).symm)))))
theorem EO(m:Nat){l:List Key}{b:zdk}{Q:Bool->zdu->Prop}(hk:IsTupleKey (bT prog w) s.heap l b)(h:Q true s):wpAny (model prog w) A (eqIsQuiet (m+1) (.ref b)) Q E s:=by
 have ty:=hk.typeIs;obtain⟨o,bC,n,e,_,d,hi⟩:=hk;unfold eqIsQuiet;refine zdn (wpAny_specialOf ty F.slot_tuple_eq.lookup ((show wpAny _ _ (isInstance (.ref b) (.type "tuple") >>= _) _ _ s from ?_)));refine zdn (wpAny_isInstance ty isSubtype_tuple_tuple ?_);simp only[zbD,zay,if_false];refine zdn (wpAny_seqItems e d (zdn ((show wpAny _ _ (forIn bC _ _) _ _ s from ?_))));rw[<- zcy];have all:=hi.byValue;generalize bC.toList=vs at all;refine wpAny_forIn_list _ (fun r (c:Option Bool×Unit) s'=>c.1=none/\s'=s/\∀v∈r,carriedByValue v=true) _ (fun v r c s' hv=>?_) (fun c s' hv=>?_) _ _ ⟨rfl,rfl,all⟩
 ·obtain⟨_,rfl,hv⟩:=hv;rw[eqIsQuiet_byValue _ (hv v (zaq ..))];refine zdn (zdo ?_);simp only[zbD,zay,if_false];exact zdo ⟨rfl,rfl,fun z hz=>hv z (zat _ hz)⟩
 ·obtain⟨c1,c2⟩:=c;obtain⟨hc,rfl,_⟩:=hv;cases (show c1=none from hc);exact zdo h
theorem Lk{x:Key×List Key}{a:zdk}{Q:Bool->zdu->Prop}(hk:vh prog w s.heap x a)(h:Q true s):wpAny (model prog w) A (eqIsQuiet 8 (.ref a)) Q E s:=by
 have ty:=hk.ty;obtain⟨o,n,u,b,e,c,d,i,t⟩:=hk;unfold eqIsQuiet;refine zdn (wpAny_specialOf ty F.slot_tuple_eq.lookup ((show wpAny _ _ (isInstance (.ref a) (.type "tuple") >>= _) _ _ s from ?_)));refine zdn (wpAny_isInstance ty isSubtype_tuple_tuple ?_);simp only[zbD,zay,if_false];refine zdn (wpAny_seqItems e d (zdn ?_));have key:∀ {z:zdl} {k:Key} {m:Nat},sO k z=true->eqIsQuiet m z=pure true:=fun {z k m} hz=>eqIsQuiet_byValue m ((bT prog w).byValue k z hz);show wpAny _ _ (forIn #[u,Value.ref b] _ _) _ _ s;rw[<- zcy];show wpAny _ _ (forIn [u,Value.ref b] _ _) _ _ s;rw[zba,key i];refine zdn (zdn (zdo ?_));simp only[zbD,zay,if_false];refine zdo ?_;show wpAny _ _ (forIn [Value.ref b] _ _) _ _ s;rw[zba];refine zdn (zdn (EO 6 t ?_));simp only[zbD,zay,if_false];refine zdo ?_;show wpAny _ _ (forIn ([]:List zdl) _ _) _ _ s;rw[zbL];exact zdo (zdo h)
end
def RL (prog:zdw) (w:zdm):HeapKind prog w (Key×List Key) where
 is:=vh prog w
 hash:=Lj w prog
 draws:=fun x=>x.2.length+3
 room:=fun A=>A.units+8<cLine
 inj:=fun hx hy=>hx.one hy
 keeps:=fun hx ho hd hs=>hx.kp ho hd hs
 pyHash:=fun hu hk h=>Ol hu hk h
 eqBool:=fun hu hx hy h=>Vl hu hx hy h
 quiet:=fun hk h=>Lk hk h
def tN (b:Bool):Int:=if b then 1 else 0
def Om (k:Key) (v:zdl):Bool:=match v with
 |.bool b=>decide (k=.inl (tN b))
 |v=>sO k v
theorem fq{k:Key}{v:zdl}(h:Om k v=true):(∃i t,k=.inl i/\v=.int i t)\/(∃x t,k=.inr x/\v=.str x t)\/∃b,k=.inl (tN b)/\v=.bool b:=by
 unfold Om at h;split at h
 ·rename_i b;exact .inr (.inr ⟨b,of_decide_eq_true h,rfl⟩)
 ·rcases dg h with z |z
  ·exact .inl z
  ·exact .inr (.inl z)
theorem Ll{a b:Bool}:(tN a==tN b)=(a==b):=by cases a<;>cases b<;>rfl
def Vm (prog:zdw) (w:zdm):PySem.KeyKind prog w Key where
 is:=Om
 hash:=Ni w
 inj:=fun v a b ha hb=>by
  rcases fq ha with ⟨i,t,rfl,rfl⟩ |⟨x,t,rfl,rfl⟩ |⟨c,rfl,rfl⟩<;>rcases fq hb with ⟨j,u,rfl,e⟩ |⟨y,u,rfl,e⟩ |⟨d,rfl,e⟩<;>cases e<;>rfl
 byValue:=fun k v h=>by
  rcases fq h with ⟨i,t,rfl,rfl⟩ |⟨x,t,rfl,rfl⟩ |⟨c,rfl,rfl⟩<;>rfl
 pyHash:=fun hv h=>by
  rcases fq hv with ⟨i,t,rfl,rfl⟩ |⟨x,t,rfl,rfl⟩ |⟨c,rfl,rfl⟩
  ·exact wpAny_pyHash_int h
  ·exact wpAny_pyHash_str h
  ·refine zdg (T:="bool") rfl F.slot_bool_hash entry_int_hash (args_int_hash _) (beq_builtin_none _) (.inl rfl) ?_;cases c
   ·exact(show wpAny _ _ (do ret (<- mkInt 0)) _ _ _ from zdn (wpAny_mkInt (zdo ⟨_,_,rfl,h⟩)))
   ·exact(show wpAny _ _ (do ret (<- mkInt 1)) _ _ _ from zdn (wpAny_mkInt (zdo ⟨_,_,rfl,h⟩)))
 eqBool:=fun hu hv h=>by
  rcases fq hu with ⟨i,t,rfl,rfl⟩ |⟨x,t,rfl,rfl⟩ |⟨c,rfl,rfl⟩
  ·rcases fq hv with ⟨j,u,rfl,rfl⟩ |⟨y,u,rfl,rfl⟩ |⟨d,rfl,rfl⟩
   ·rw[wZ] at h;exact wpAny_eqBool_int h
   ·rw[DK] at h;exact SeqAt.EqAt.int_str i t y u _ _ _ _ h
   ·rw[wZ] at h;exact SeqAt.EqAt.int_bool i t d _ _ _ _ h
  ·rcases fq hv with ⟨j,u,rfl,rfl⟩ |⟨y,u,rfl,rfl⟩ |⟨d,rfl,rfl⟩
   ·rw[DL] at h;exact SeqAt.EqAt.str_int x t j u _ _ _ _ h
   ·rw[Jp] at h;exact wpAny_eqBool_str h
   ·rw[DL] at h;exact SeqAt.EqAt.str_bool x t d _ _ _ _ h
  ·rcases fq hv with ⟨j,u,rfl,rfl⟩ |⟨y,u,rfl,rfl⟩ |⟨d,rfl,rfl⟩
   ·rw[wZ] at h;exact SeqAt.EqAt.bool_int c j u _ _ _ _ h
   ·rw[DK] at h;exact SeqAt.EqAt.bool_str c y u _ _ _ _ h
   ·rw[wZ,Ll] at h;exact SeqAt.EqAt.bool_bool c d _ _ _ _ h
 «strs»:=fun k x t v h=>by
  rcases fq h with ⟨i,u,rfl,e⟩ |⟨y,u,rfl,e⟩ |⟨d,rfl,e⟩
  ·cases e
  ·cases e;cases v<;>rfl
  ·cases e
structure KH(κ:Type)[DecidableEq κ] where
 knd:∀(P:zdw) (w:zdm),HeapKind P w κ
 on:zaa->Hp->κ->zdk->Prop
 up:∀ {K:zaa} {H H':Hp} {x:κ} {a:zdk},(∀b ys,bQ K H b ys->bQ K H' b ys)->on K H x a->on K H' x a
 of:∀ {X:Cx} {pins:List (zdk×Obj)} {σ:St} {H:Hp} {s:zdu} {x:κ} {a:zdk},Inv X pins σ H s->on X.K H x a->(knd X.prog X.w).is s.heap x a
 room:∀ {P:zdw} {w:zdm} {A:zdv},A.units+16<cLine->(knd P w).room A.in1
section
variable{κ:Type}[DecidableEq κ](J:KH κ)
def gQ (P:zdw) (w:zdm) (a:zdk) (xs:List (κ×zdk×zdl)):Heap->Prop:=fun h=>∃o es ep,h.get? a=some o/\o.ExactDict/\o.data=.dict es ep/\es.toList=xs.map (entryOfKey (J.knd P w))
abbrev KS (K:zaa) (H:Hp):List (κ×V)->List (κ×zdk×zdl)->Prop:=Paired fun p q=>p.1=q.1/\J.on K H p.1 q.2.1/\RelV p.2 q.2.2
structure DS(P:zdw)(w:zdm)(K:zaa)(H:Hp)(a:zdk)(ax:List (κ×V)):Prop where
 len:ax.length<=zds
 sys:(a==sysModules)=false
 at_:∃xs,H a=some (.ext (gQ J P w a xs))/\KS J K H ax xs/\(xs.map (·.1)).Nodup
variable{J}
section
variable{K:zaa}{H H':Hp}{ax:List (κ×V)}{xs:List (κ×zdk×zdl)}
theorem KS.val(r:KS J K H ax xs)(k:κ):rA (cm ax k) ((atKey xs k).map (·.2)):=by
 induction r with
 |nil=>exact True.intro
 |@cons p q ps qs h t ih=>
  by_cases e:p.1=k
  ·rw[cu e,show atKey (q::qs) k=some q.2 by simp[atKey,h.1.symm.trans e]];exact h.2.2
  ·have e':¬q.1=k:=fun z=>e (h.1.trans z);rw[cw e,show atKey (q::qs) k=atKey qs k by simp[atKey,e']];exact ih
theorem KS.put(r:KS J K H ax xs)(k:κ){b:zdk}{y:V}{u:zdl}(hb:J.on K H k b)(ry:RelV y u):KS J K H (putK ax k y) (storedH xs k b u):=by
 have e:(ax.any fun kv=>decide (kv.1=k))=(atKey xs k).isSome:=by rw[kA,(r.val k).qh,zcb]
 unfold putK storedH;rw[e];by_cases q:(atKey xs k).isSome=true
 ·rw[zzp q,zzp q];clear e q
  induction r with
  |nil=>exact .nil
  |@cons p q ps qs h t ih=>
   refine .cons ?_ ih;dsimp only;unfold putAt;by_cases e:p.1=k
   ·rw[zzp e];rw[zzp (h.1.symm.trans e)];exact⟨h.1,h.2.1,ry⟩
   ·rw[zzn e];rw[zzn fun z=>e (h.1.trans z)];exact h
 ·rw[zzn q,zzn q];exact Paired.snoc r ⟨rfl,hb,ry⟩
theorem KS.up(r:KS J K H ax xs)(t:∀b ys,bQ K H b ys->bQ K H' b ys):KS J K H' ax xs:=Paired.Au r fun _ _ z=>⟨z.1,J.up t z.2.1,z.2.2⟩
end
section
variable{X:Cx}{pins:List (zdk×Obj)}{σ:St}{H:Hp}{s:zdu}{a b:zdk}{v:V}{u r:zdl}{A:zdv}{E:zdl->zdu->Prop}{ax:List (κ×V)}{k:κ}
theorem vR(I:Inv X pins σ H s){xs:List (κ×zdk×zdl)}(e:H a=some (.ext (gQ J X.prog X.w a xs)))(r:KS J X.K H ax xs)(nd:(xs.map (·.1)).Nodup):s.heap.DictOfH (J.knd X.prog X.w) a xs:=by
 obtain⟨⟨o,es,ep,h1,h2,h3,h4⟩, -⟩:=(show dh X.prog X.w H s.heap a (.ext (gQ J X.prog X.w a xs)) from I.cM a _ e)
 refine⟨o,es,ep,h1,h2,h3,h4,?_,nd⟩;clear h4 nd e
 induction r with
 |nil=>intro x hx;cases hx
 |@cons p q ps qs hq t ih=>
  intro x hx;rcases zag.mp hx with rfl |hx
  ·exact J.of I (hq.1▸hq.2.1)
  ·exact ih x hx
theorem Vn{Q:zdl->zdu->Prop}(hu:A.units+16<cLine)(I:Inv X pins σ H s)(d:DS J X.prog X.w X.K H a ax)(hk:J.on X.K H k b)(h:∀s',Inv X pins σ H s'->Q (.bool (cm ax k).isSome) s') :
 wpAny (model X.prog X.w) A (compareOp .In (.ref b) (.ref a)) Q E s:=by
 obtain⟨z,sy,xs,e,r,nd⟩:=d;refine wpAny_in_heap (knd:=J.knd X.prog X.w) (J.room hu) (J.of I hk) sy (vR I e r nd) ?_;have q:=(r.val k).qh;rw[zcb] at q;rw[<- q];exact h _ (I.tok _)
theorem Lm{Q:zdl->zdu->Prop}(hu:A.units+16<cLine)(I:Inv X pins σ H s)(d:DS J X.prog X.w X.K H a ax)(hk:J.on X.K H k b)(h:∀s',Inv X pins σ H s'->Q (.bool (!(cm ax k).isSome)) s') :
 wpAny (model X.prog X.w) A (compareOp .NotIn (.ref b) (.ref a)) Q E s:=by
 obtain⟨z,sy,xs,e,r,nd⟩:=d;refine PyProof.Rows.wpAny_notIn_heap (knd:=J.knd X.prog X.w) (J.room hu) (J.of I hk) sy (vR I e r nd) ?_;have q:=(r.val k).qh;rw[zcb] at q;rw[<- q];exact h _ (I.tok _)
theorem RM{Q:zdl->zdu->Prop}(hu:A.units+16<cLine)(I:Inv X pins σ H s)(d:DS J X.prog X.w X.K H a ax)(hk:J.on X.K H k b)(l:cm ax k=some v)(h:∀w' s',Inv X pins σ H s'->RelV v w'->Q w' s') :
 wpAny (model X.prog X.w) A (getItem (.ref a) (.ref b)) Q E s:=by
 obtain⟨z,sy,xs,e,r,nd⟩:=d;obtain⟨w',hw,Ef⟩:=rA.some_of (v:=v) (o:=(atKey xs k).map (·.2)) (by rw[<- l];exact r.val k);obtain⟨p,hp,yQ⟩:=zcf.mp hw;refine wpAny_getItem_heap (knd:=J.knd X.prog X.w) (J.room hu) (J.of I hk) (vR I e r nd) hp ?_;rw[yQ];exact h w' _ (I.tok _) Ef
theorem bQ.ext{K:zaa}{H:Hp}{a c:zdk}{φ:Heap->Prop}{o:HO}{ys:List V}(h:bQ K H c ys)(e:H a=some (.ext φ)):bQ K (upd H a o) c ys:=by
 rcases h with (q |⟨o',q⟩) |q
 ·exact .inl (.inl (by rw[aw (bU q e (by intro z;cases z))];exact q))
 ·exact .inl (.inr ⟨o',by rw[aw (bU q e (by intro z;cases z))];exact q⟩)
 ·exact .inr q
theorem RN{Q:Unit->zdu->Prop}(hu:A.units+16<cLine)(I:Inv X pins σ H s)(d:DS J X.prog X.w X.K H a ax)(hk:J.on X.K H k b)(l:ax.length<zds)(rv:RelV v r)
 (h:∀s' H',Inv X pins σ H' s'->DS J X.prog X.w X.K H' a (putK ax k v)->(∃φ,H'=upd H a (.ext φ))->Q () s') :
 wpAny (model X.prog X.w) A (setItem (.ref a) (.ref b) r) Q E s:=by
 obtain⟨z,sy,xs,e,rel,nd⟩:=d;have hz:xs.length<=zds:=by rw[<- Paired.length rel];exact z
 have hl:(putK ax k v).length<=zds:=by have:=ip ax k v;lia
 refine wpAny_setItem_heap (knd:=J.knd X.prog X.w) (hsz:=hz) (J.room hu) (J.of I hk) (vR I e rel nd) fun h' FY hs=>?_;obtain⟨q,es,ep,hq,h2,h3,h4,_,h5⟩:=FY;have ph:gQ J X.prog X.w a (storedH xs k b r) h':=⟨q,es,ep,hq,h2,h3,h4⟩
 refine h _ (upd H a (.ext (gQ J X.prog X.w a (storedH xs k b r)))) (kZ I (by rw[e];exact True.intro) hs ⟨q,hq⟩ ⟨ph,⟨q,hq⟩,fun g1 g2 p1 kp=>?_⟩) ⟨hl,sy,_,ae,(rel.put k hk rv).up fun c ys ec=>ec.ext e,h5⟩ ⟨_,rfl⟩;obtain⟨o,es,ep,h1,h2,h3,h4⟩:=p1;exact⟨o,es,ep,kp o h1,h2,h3,h4⟩
end
theorem DS.Iu{P:zdw}{w:zdm}{K:zaa}{H H':Hp}{a:zdk}{ax:List (κ×V)}(d:DS J P w K H a ax)(e:∀o,H a=some o->H' a=some o)(t:∀b ys,bQ K H b ys->bQ K H' b ys):DS J P w K H' a ax:=⟨d.len,d.sys,let ⟨xs,h,r,nd⟩:=d.at_;⟨xs,e _ h,r.up t,nd⟩⟩
theorem DS.mono{P:zdw}{w:zdm}{K:zaa}{H H':Hp}{a:zdk}{ax:List (κ×V)}(d:DS J P w K H a ax)(s:aq H H'):DS J P w K H' a ax:=d.Iu (fun o h=>s _ _ h) fun b ys q=>s.a7 q
section
variable{X:Cx}{o i value:Expr}{pos pos':Pos}{td ty tv:TE}
def ER (J:KH κ) (P:zdw) (w:zdm):TE:=fun _ H Q=>∀p,H p=none->(p==sysModules)=false->Q (.ref p) (upd H p (.ext (gQ J P w p [])))
theorem A3{P:zdw}{w:zdm}{K:zaa}{H:Hp}{p:zdk}(h:(p==sysModules)=false):DS J P w K (upd H p (.ext (gQ J P w p []))) p []:=⟨za0 _,h,[],ae,.nil,zb6⟩
theorem tX:PE X (.Dict [] [] pos) (ER J X.prog X.w):=fun pins s σ H Q I h=>by
 have big:=I.big;refine wpAny_Dict_empty ⟨.ref s.heap.objs.size,_,I.laid (a:=s.heap.objs.size) (o:=.ext (gQ J X.prog X.w s.heap.objs.size [])) (t':=s.toks) (fun _ _ q=>Heap.get?_push_of_some _ q) (zaf _) ⟨⟨_, #[],0,Heap.get?_push_size _ rfl,⟨rfl,rfl,rfl⟩,rfl,rfl⟩,⟨_,Heap.get?_push_size _ rfl⟩,fun g1 g2 p1 kp=>?_⟩,rfl,h _ (I.cM.fresh (zaf _)) (beq_eq_false_iff_ne.mpr (Ne.symm (zaD big)))⟩;obtain⟨ob,es,ep,h1,h2,h3,h4⟩:=p1;exact⟨ob,es,ep,kp ob h1,h2,h3,h4⟩
theorem RO(hu:X.A.units+16<cLine):rK X (compareOp .In) (fun x y H Q=>∃(a b:zdk) (ax:List (κ×V)) (k:κ),x=.ref b/\y=.ref a/\DS J X.prog X.w X.K H a ax/\J.on X.K H k b/\Q (.bl (cm ax k).isSome) H):=by
 intro pins s σ H x y v u Q I rx ry h;obtain⟨a,b,ax,k,rfl,rfl,d,hk,q⟩:=h;cases rx;cases ry;exact Vn hu I d hk fun s' I'=>⟨.bl (cm ax k).isSome,H,I',rfl,q⟩
theorem vi(hu:X.A.units+16<cLine):rK X (compareOp .NotIn) (fun x y H Q=>∃(a b:zdk) (ax:List (κ×V)) (k:κ),x=.ref b/\y=.ref a/\DS J X.prog X.w X.K H a ax/\J.on X.K H k b/\Q (.bl (!(cm ax k).isSome)) H):=by
 intro pins s σ H x y v u Q I rx ry h;obtain⟨a,b,ax,k,rfl,rfl,d,hk,q⟩:=h;cases rx;cases ry;exact Lm hu I d hk fun s' I'=>⟨.bl (!(cm ax k).isSome),H,I',rfl,q⟩
def ES (J:KH κ) (P:zdw) (w:zdm) (K:zaa) (td ty tv:TE):TS:=fun D σ H=>tv σ H fun v H1=>td σ H1 fun x H2=>ty σ H2 fun y H3=>∃(a b:zdk) (ax:List (κ×V)) (k:κ),x=.ref a/\y=.ref b/\DS J P w K H3 a ax/\J.on K H3 k b/\ax.length<zds/\
 ∀H4,DS J P w K H4 a (putK ax k v)->(∃φ,H4=upd H3 a (.ext φ))->D.nx σ H4
theorem xN(hu:X.A.units+16<cLine)(ho:PE X o td)(hi:PE X i ty)(hv:PE X value tv)(hs:swapsWith value (some (.Subscript o i pos')) pos.line X.env=pure false):PS X (.Assign [.Subscript o i pos'] value pos) (ES J X.prog X.w X.K td ty tv):=by
 intro pins s σ H D I h;refine wpAny_Assign_Subscript (eZ (hv pins s σ H _ I h) fun r s1 zqz=>?_) hs;obtain⟨v,H1,I1,rv,q1⟩:=zqz;refine eZ (ho pins s1 σ H1 _ I1 q1) fun u s2 zqz=>?_;obtain⟨x,H2,I2,rx,q2⟩:=zqz;refine eZ (hi pins s2 σ H2 _ I2 q2) fun iv s3 zqz=>?_;obtain⟨y,H3,I3,ry,a,b,ax,k,ex,ey,d,hk,l,q3⟩:=zqz;subst ex ey;cases rx;cases ry;exact RN hu I3 d hk l rv fun s4 H4 I4 d4 e4=>⟨σ,H4,I4,q3 H4 d4 e4⟩
def ET (J:KH κ) (P:zdw) (w:zdm) (K:zaa) (td ty:TE):TE:=fun σ H Q=>td σ H fun x H1=>ty σ H1 fun y H2=>∃(a b:zdk) (ax:List (κ×V)) (k:κ) (v:V),x=.ref a/\y=.ref b/\DS J P w K H2 a ax/\J.on K H2 k b/\cm ax k=some v/\Q v H2
theorem CO(hu:X.A.units+16<cLine)(ho:PE X o td)(hi:PE X i ty)(hs:Rq i):PE X (.Subscript o i pos) (ET J X.prog X.w X.K td ty):=by
 intro pins s σ H Q I h;refine FZ PySem.F.slot_dict_getitem.lookup hs (eZ (ho pins s σ H _ I h) fun u s1 zqz=>?_);obtain⟨x,H1,I1,rx,q1⟩:=zqz;refine eZ (hi pins s1 σ H1 _ I1 q1) fun iv s2 zqz=>?_;obtain⟨y,H2,I2,ry,a,b,ax,k,v,ex,ey,d,hk,l,q2⟩:=zqz;subst ex ey;cases rx;cases ry;have dd:=d;obtain⟨z,sy,xs,e,r,nd⟩:=dd;exact⟨(vR I2 e r nd).typeIs,RM hu I2 d hk l fun w' s3 I3 Ef=>⟨v,H2,I3,Ef,q2⟩⟩
end
end
abbrev kT:=Key×List Key
def SkH (K:zaa) (H:Hp) (x:kT) (a:zdk):Prop:=∃b,bQ K H a [kV x.1,.ref b]/\bQ K H b (x.2.map kV)
def jO:KH kT where
 knd:=RL
 on:=SkH
 up:=fun t ⟨b,h1,h2⟩=>⟨b,t _ _ h1,t _ _ h2⟩
 of:=fun {X pins σ H s x a} I ⟨c,h1,h2⟩=>by
  obtain⟨i1,r1,⟨o1,e1,c1,n1,d1⟩,_⟩:=I.tuple h1;obtain⟨i2,r2,⟨o2,e2,c2,n2,d2⟩,_⟩:=I.tuple h2;obtain⟨u1,u2,rfl,q1,q2⟩:=vals2 r1;cases (show u2=Value.ref c from q2);exact⟨o1,n1,u1,c,e1,c1,d1,xj (P:=X.prog) (w:=X.w) q1,o2,i2.toArray,n2,e2,c2,d2,by simpa using uP r2⟩
 room:=fun {P w A} h=>by show A.units+1+8<cLine;lia
def W9 (k:Key) (v:V):Prop:=v=kV k\/∃b,v=.bl b/\k=.inl (tN b)
theorem Oq{k:Key}{v:V}{u:zdl}(h:W9 k v)(r:RelV v u):Om k u=true:=by
 rcases h with rfl |⟨b,rfl,rfl⟩
 ·cases k with
  |inl i=>obtain⟨t,rfl⟩:=(show ∃t,u=Value.int i t from r);exact zt i t
  |inr x=>obtain⟨t,rfl⟩:=(show ∃t,u=Value.str x t from r);exact zu x t
 ·cases (show u=Value.bool b from r);exact decide_eq_true rfl
theorem Ln{P:zdw}{w:zdm}:∀ {ks:List Key} {vs:List V} {us:List zdl},Paired W9 ks vs->Vals vs us->ItemsAre (Vm P w) ks us
 |_,_,_,.nil,r=>by cases r;exact .nil
 |_,_,_,.cons h t,r=>by
  cases r with
  |cons r1 r2=>exact .cons (Oq h r1) (Ln t r2)
def Iw:KH (List Key) where
 knd:=fun P w=>tupleKind (Vm P w)
 on:=fun K H x a=>∃vs,bQ K H a vs/\Paired W9 x vs
 up:=fun t ⟨vs,h1,h2⟩=>⟨vs,t _ _ h1,h2⟩
 of:=fun {X pins σ H s x a} I ⟨vs,h1,h2⟩=>by
  obtain⟨i1,r1,⟨o1,e1,c1,n1,d1⟩,_⟩:=I.tuple h1;exact⟨o1,i1.toArray,n1,e1,c1,d1,by simpa using Ln h2 r1⟩
 room:=fun {P w A} h=>by show A.units+1<cLine;lia
def iu (h:Heap) (d:zdk) (es:Array DictEntry) (ep:Nat):Prop:=∃o,h.get? d=some o/\o.ExactDict/\o.data=.dict es ep
section
variable{prog:zdw}{w:zdm}{A:zdv}{E:zdl->zdu->Prop}{s:zdu}{d it:zdk}{es:Array DictEntry}{ep i:Nat}
theorem iu.ty(x:iu s.heap d es ep):s.TypeIs (.ref d) "dict":=let ⟨o,g,c,_⟩:=x;⟨o,g,c.1⟩
theorem iu.Iu{h h':Heap}(x:iu h d es ep)(e:∀o,h.get? d=some o->h'.get? d=some o):iu h' d es ep:=let ⟨o,g,r⟩:=x;⟨o,e _ g,r⟩
theorem iu.lt{h:Heap}(x:iu h d es ep):d<h.objs.size:=let ⟨_,g,_⟩:=x;Heap.lt_size g
theorem CP{Q:zdl->zdu->Prop}(hd:(d==sysModules)=false)(x:iu s.heap d es ep)
 (q:Q (.ref s.heap.objs.size) {s with heap:=s.heap.push {cls:=.type "dict_keyiterator",data:=.fields #[.ref d,.int 0 0,.int es.size 0,.int ep 0]} }):wpAny (model prog w) A (pyIter (.ref d)) Q E s:=by
 have Y7:=x.ty;obtain⟨od,gd,cd,dd⟩:=x;refine wpAny_pyIter_slot Y7 F.slot_dict_iter (wpAny_call_entry F.slot_dict_iter Y7 F.entry_dict_iter ?_ (F.args_dict_iter_1 _));unfold Builtin.«dict.__iter__» Builtin.Dict.dictSlotNone;refine zdn (zdn (wpAny_notOrdered_dict Y7 ?_));show wpAny _ _ (pure (Value.ref d)) _ _ s;refine zdo ?_;show wpAny _ _ (Builtin.Dict.showsAll d >>= _) _ _ s;unfold Builtin.Dict.showsAll;rw[zzn (by rw[hd];exact zai)];refine zdn (zdo (zdn (wpAny_dictEntries gd dd (zdn (wpAny_dictEpoch gd dd ?_)))));refine zdn (wpAny_newObj_type (zdo ⟨_,rfl, "dict_keyiterator",_,⟨_,Heap.get?_push_size _ rfl,rfl⟩,F.slot_dict_keyiterator_next.lookup,?_⟩));simpa[rawInt] using q
theorem CQ{Q:Option zdl->zdu->Prop}(x:s.heap.IsKeyIter it d i es.size ep)(y:iu s.heap d es ep)(li:i<es.size)
 (q:∀h',h'.IsKeyIter it d (i+1) es.size ep->Heap.SameBut it s.heap h'->Q (some es[i].key) {s with heap:=h' }):wpAny (model prog w) A (pyNext (.ref it)) Q E s:=by
 have M4:=x.typeIs;obtain⟨oi,gi,ci,di⟩:=id x;obtain⟨od,gd,_,dd⟩:=id y;have ow:Builtin.Dict_items.ownsTuple "dict_keyiterator"=false:=by decide
 unfold pyNext;refine zdn (wpAny_attempt (wpAny_callSpecial?_slot (name:=zab "__next__") M4 F.slot_dict_keyiterator_next (wpAny_call_entry F.slot_dict_keyiterator_next M4 F.entry_dict_keyiterator_next ?_ (F.args_dict_keyiterator_next_1 _))));refine zdn (zdo (zdn (zdn ?_)));refine zdn (wpAny_typeNameOfWhole_keyiter M4 (zdo (zdn (wpAny_fieldsOf gi di ?_))));simp only[ow,zay,if_false];show wpAny _ _ (if (Value.ref d==Value.none)=true then _ else _) _ _ s;rw[zzn (show ¬((Value.ref d==Value.none)=true) from zai)];refine zdn (zdo (zdn (wpAny_dictEntries gd dd ?_)));rw[zzn (by simp)];refine zdn (zdo (zdn (wpAny_dictEpoch gd dd ?_)));rw[zzn (by simp)];refine zdo ?_;simp only[show ¬((i:Int)<0) from by lia,if_false,za1,zbi li];refine zdn (zdn (wpAny_typeNameOfWhole_keyiter M4 (zdo (zdn (wpAny_isOneOf_keyiter M4 ?_)))));show wpAny _ _ (setField (.ref it) 1 (rawInt ((i:Int)+1)) >>= _) _ _ s;refine zdn (wpAny_setField gi di (by simp) ?_);have z:(s.heap.update it (Obj.mapFields (·.setIfInBounds 1 (rawInt ((i:Int)+1))))).IsKeyIter it d (i+1) es.size ep:=
  ⟨_,Heap.get?_update_self _ gi (Obj.isFreed_of_fields (Obj.data_mapFields di _)),(Obj.cls_mapFields ..).trans ci,by rw[Obj.data_mapFields di];simp[rawInt]⟩
 refine zdn (zdp (zdn (wpAny_isOneOf_keyiter (s:={s with heap:=s.heap.update it (Obj.mapFields (·.setIfInBounds 1 (rawInt ((i:Int)+1))))}) z.typeIs ?_)));show wpAny _ _ (pure es[i].key) _ _ _;exact zdo (zdo ⟨_,rfl,zdo (q _ z (Heap.SameBut.update ..))⟩)
theorem GC{Q:Option zdl->zdu->Prop}(hA:A.handled=none)(x:s.heap.IsKeyIter it d i es.size ep)(y:iu s.heap d es ep)(li:es.size<=i)
 (q:∀h',Heap.ExtBut it s.heap h'->Q none {s with heap:=h' }):wpAny (model prog w) A (pyNext (.ref it)) Q E s:=by
 have M4:=x.typeIs;obtain⟨oi,gi,ci,di⟩:=id x;obtain⟨od,gd,_,dd⟩:=id y;have ow:Builtin.Dict_items.ownsTuple "dict_keyiterator"=false:=by decide
 unfold pyNext;refine zdn (wpAny_attempt (wpAny_callSpecial?_slot (name:=zab "__next__") M4 F.slot_dict_keyiterator_next (wpAny_call_entry F.slot_dict_keyiterator_next M4 F.entry_dict_keyiterator_next ?_ (F.args_dict_keyiterator_next_1 _))));refine zdn (zdo (zdn (zdn ?_)));refine zdn (wpAny_typeNameOfWhole_keyiter M4 (zdo (zdn (wpAny_fieldsOf gi di ?_))));simp only[ow,zay,if_false];show wpAny _ _ (if (Value.ref d==Value.none)=true then _ else _) _ _ s;rw[zzn (show ¬((Value.ref d==Value.none)=true) from zai)];refine zdn (zdo (zdn (wpAny_dictEntries gd dd ?_)));rw[zzn (by simp)];refine zdn (zdo (zdn (wpAny_dictEpoch gd dd ?_)));rw[zzn (by simp)];refine zdo ?_;simp only[show ¬((i:Int)<0) from by lia,if_false,za1,zcX li];refine zdn (zdn (wpAny_typeNameOfWhole_keyiter M4 (zdo ?_)));show wpAny _ _ (setField (.ref it) 0 .none >>= _) _ _ s;refine zdn (wpAny_setField gi di (by simp) ?_);show wpAny _ _ (newExc (.type "StopIteration") [] >>= _) _ _ _;refine zdn ?_;simp only[newExc,newTuple];refine zdn (wpAny_newObj_type (zdn (m:=firstArgMember _ _) (wpAny_of_eq (a:=Value.none) (by first |rfl |(simp only[firstArgMember];rfl)) (wpAny_newObj_type ?_ (by size_fits)))) (by size_fits));simp only[raiseNew];refine zdn (wpAny_handled ?_);rw[show A.in1.handled=none from hA];refine zdn (zdo (wpAny_throw (zdn ?_)));refine wpAny_isInstance (T:="StopIteration") (b:=true) ⟨_,Heap.get?_push_size _ rfl,rfl⟩ isSubtype_stop ?_;exact zdo (q _ (((Heap.SameBut.update ..).extBut.push _).push _))
theorem Iy(hA:A.handled=none)(I d:zdk)(n:d≠I)(es:Array DictEntry)(ep:Nat):Walks prog w A I [I,d] [I] es.size (fun i v=>∃e,es[i]?=some e/\v=e.key) (fun i h=>h.IsKeyIter I d i es.size ep/\iu h d es ep) where
 sub:=fun b hb=>zag.mpr (.inl (zar.mp hb))
 frame:=fun _ _ _ z k=>⟨z.1.at fun o e=>k I (by simp) o e,z.2.Iu fun o e=>k d (by simp) o e⟩
 item:=fun i s Q E hi z q=>CQ z.1 z.2 hi fun h' a b=>q _ h' s.toks ⟨_,zbi hi,rfl⟩ ⟨a,z.2.Iu fun o e=>b.extBut d o n e⟩ fun c o nc e=>b.extBut c o (fun h=>nc (by simp[h])) e
 done:=fun s Q E z q=>GC hA z.1 z.2 (zaf _) fun h' a=>q h' s.toks fun c o nc e=>a c o (fun h=>nc (by simp[h])) e
 self:=fun _ _ _ _ z q=>wpAny_pyIter_keyiter z.1 q
theorem Ot(lo:(d==sysModules)=false):PySem.W.KdlSrc prog w "dict" d d es.size (fun i v=>∃e,es[i]?=some e/\v=e.key) (fun h=>iu h d es ep) where
 type:=fun _ m=>m.ty
 there:=fun _ m=>⟨m.lt,m.lt⟩
 keep:=fun _ _ m k=>m.Iu fun o e=>k d (.inl rfl) o e
 notList:=by decide
 notTuple:=by decide
 hint:=fun _ _ _ _ m q=>PySem.W.kdl_hint_dict m.ty q
 iter:=fun _ _ hA m=>⟨_,_,(fun _ _ q=>CP lo m q),Iy hA _ d (zaD m.lt) es ep,⟨⟨_,Heap.get?_push_size _ rfl,rfl,rfl⟩,m.Iu fun o e=>Heap.get?_push_of_some _ e⟩⟩
end
section
variable{κ:Type}[DecidableEq κ]{J:KH κ}{X:Cx}
theorem xO(hc:X.calm=true):mq X (.type "list") (fun xs H Q=>∃(a:zdk) (ax:List (κ×V)),xs=[.ref a]/\DS J X.prog X.w X.K H a ax/\∀l us,H l=none->Paired (fun (p:κ×V) (v:V)=>∃b,v=.ref b/\J.on X.K H p.1 b) ax us->Q (.ref l) (upd H l (.lst us))):=by
 intro pins s σ H xs us Q I r h;obtain⟨a,ax,rfl,⟨z,sy,ks,e,rel,nd⟩,q⟩:=h;obtain⟨u,rfl,ru⟩:=vals1 r;cases (show u=Value.ref a from ru);obtain⟨o,es,ep,h1,h2,h3,h4,_,_⟩:=vR I e rel nd;have le:es.size=ax.length:=by rw[<- za8,h4,zad,Paired.length rel]
 have hA:X.A.handled=none:=I.ok.hd hc;refine PySem.W.kdl_call (Ot sy) hA (⟨o,h1,h2,h3⟩:iu s.heap a es ep) (by rw[le];exact z) fun h' tk acc c kp gl it=>?_;have key:∀(ax:List (κ×V)) (ks:List (κ×zdk×zdl)),KS J X.K H ax ks->Paired (fun (p:κ×V) (v:V)=>∃b,v=.ref b/\J.on X.K H p.1 b) ax (ks.map fun k=>V.ref k.2.1)/\Vals (ks.map fun k=>V.ref k.2.1) (ks.map fun k=>Value.ref k.2.1):=fun ax ks r=>by
  induction r with
  |nil=>exact⟨.nil,.nil⟩
  |cons x _ ih=>exact⟨.cons ⟨_,rfl,x.2.1⟩ ih.1,.cons rfl ih.2⟩
 obtain⟨k1,k2⟩:=key _ _ rel;have ea:acc.toList=ks.map fun k=>Value.ref k.2.1:=by
  have l1:acc.toList.length=ks.length:=by rw[za8,it.1,<- za8,h4,zad]
  refine List.ext_getElem? fun j=>?_;by_cases hj:j<ks.length
  ·have hj':j<acc.size:=by rw[<- za8,l1];exact hj
   obtain⟨e,he,hv⟩:=it.2 j acc[j] (zbi hj');rw[<- zaZ,h4,zam,zac hj] at he;cases he;rw[zaZ,zbi hj',hv,zam,zac hj];rfl
  ·rw[zbA (by lia),zbA (by rw[zad];lia)]
 refine⟨.ref s.heap.objs.size,_,I.laid (t':=tk) kp (zaf _) (show dh X.prog X.w _ h' _ (.lst (ks.map fun k=>V.ref k.2.1)) from ⟨?_,acc.toList,c,by rw[ea];exact k2,by simpa using gl⟩),rfl,q _ _ (I.cM.fresh (zaf _)) k1⟩;rw[zad,<- Paired.length rel];exact z
end
end L2
namespace PG
section
variable{β:Type}(ask:Int->Bool)(step:Int->List Int->Int->Option (Int×List Int)×Option Int)(tg:Int×List Int->List β)
abbrev b7:=Int×List Int
def Hz (x:b7×List Int):Option (b7×List Int):=if x.1.1=0 then none else match take1 (ask x.1.1) x.2 with
 |none=>none
 |some (f,r)=>(step x.1.1 x.1.2 f).1.map fun y=>(y,r)
inductive Met:b7×List Int->β->Prop
 |here {s t}:t∈tg s.1->Met s t
 |on {s s' t}:Hz ask step s=some s'->Met s' t->Met s t
variable{ask step tg}
theorem Aa{s:b7}{l:List Int}(h0:s.1≠0)(ha:ask s.1=false):Hz ask step (s,l)=(step s.1 s.2 0).1.map fun y=>(y,l):=by
 unfold Hz;rw[zzn h0];simp only[take1,ha,zay,if_false]
theorem Lo{s:b7}{l:List Int}(h0:s.1=0):Hz ask step (s,l)=none:=by
 unfold Hz;rw[zzp h0]
structure MI(ask:Int->Bool)(step:Int->List Int->Int->Option (Int×List Int)×Option Int)(tg:Int×List Int->List β)(s0:b7×List Int)(ms:List β)(seen:List b7)(s:b7×List Int):Prop where
 a:∀t,Met ask step tg s0 t->t∈ms\/Met ask step tg s t
 b:∀t∈ms,Met ask step tg s0 t
 c:∀t,Met ask step tg s t->Met ask step tg s0 t
 d:∀x∈seen,(∀t∈tg x,t∈ms)/\x.1≠0/\ask x.1=false/\∀y,(step x.1 x.2 0).1=some y->y∈seen\/y=s.1
variable{s0 s s':b7×List Int}{ms Y8:List β}{seen:List b7}
theorem MI.next(h:MI ask step tg s0 ms seen s)(hm:∀t,t∈Y8↔t∈ms\/t∈tg s.1)(hn:Hz ask step s=some s'\/Hz ask step s=none/\s'=s) :
 (∀t,Met ask step tg s0 t->t∈Y8\/Met ask step tg s' t)/\(∀t∈Y8,Met ask step tg s0 t)/\∀t,Met ask step tg s' t->Met ask step tg s0 t:=by
 refine⟨fun t m=>?_,fun t m=>?_,fun t m=>?_⟩
 ·rw[hm];rcases h.a t m with z |z
  ·exact .inl (.inl z)
  ·rcases hn with hn |⟨hn,rfl⟩
   ·cases z with
    |here z=>exact .inl (.inr z)
    |on e z=>rw[hn] at e;cases e;exact .inr z
   ·exact .inr z
 ·rcases(hm t).mp m with z |z
  ·exact h.b t z
  ·exact h.c t (.here z)
 ·rcases hn with hn |⟨hn,rfl⟩
  ·exact h.c t (.on hn m)
  ·exact h.c t m
structure Seg(ask:Int->Bool)(step:Int->List Int->Int->Option (Int×List Int)×Option Int)(s:b7)(g:List b7):Prop where
 head:g[0]?=some s
 mid:∀i (h:i+1<g.length),g[i].1≠0/\ask g[i].1=false/\(step g[i].1 g[i].2 0).1=some g[i+1]
 last:∀x,g.getLast?=some x->x.1=0\/ask x.1=true\/(step x.1 x.2 0).1=none\/∃y∈g,(step x.1 x.2 0).1=some y
section
variable{s:b7}{g:List b7}{l:List Int}
theorem Seg.nx(h:Seg ask step s g)(i:Nat)(hi:i+1<g.length):Hz ask step (g[i],l)=some (g[i+1],l):=by
 obtain⟨h0,ha,e⟩:=h.mid i hi;rw[Aa h0 ha,e];rfl
theorem Seg.all(h:Seg ask step s g){t:β}(m:Met ask step tg (s,l) t):(∃x∈g,t∈tg x)\/∃x s',g.getLast?=some x/\x.1≠0/\ask x.1=true/\Hz ask step (x,l)=some s'/\Met ask step tg s' t:=by
 have key:∀s' t,Met ask step tg s' t->s'.2=l->s'.1∈g->(∃x∈g,t∈tg x)\/∃x s',g.getLast?=some x/\x.1≠0/\ask x.1=true/\Hz ask step (x,l)=some s'/\Met ask step tg s' t:=by
  intro s' t m
  induction m with
  |here m=>exact fun _ q=>.inl ⟨_,q,m⟩
  |@on a b t e mm ih=>
   intro el q;obtain⟨a1,a2⟩:=a;simp only at el q;subst el;obtain⟨i,hi,rfl⟩:=zbW.mp q;by_cases hl:i+1<g.length
   ·rw[h.nx i hl] at e;cases e;exact ih rfl (zau hl)
   ·have ei:g.length-1=i:=by lia
    have hx:g.getLast?=some g[i]:=by rw[zbZ,ei,zac hi]
    by_cases h0:g[i].1=0
    ·rw[Lo h0] at e;cases e
    cases ha:ask g[i].1 with
    |true=>exact .inr ⟨_,_,hx,h0,ha,e,mm⟩
    |false=>
     rw[Aa h0 ha] at e;rcases h.last _ hx with z |z |z |⟨y,hy,z⟩
     ·exact zzb z h0
     ·rw[ha] at z;cases z
     ·rw[z] at e;cases e
     ·rw[z] at e;cases e;exact ih rfl hy
 refine key _ _ m rfl ?_;exact List.mem_iff_getElem?.mpr ⟨0,h.head⟩
end
structure TI(ask:Int->Bool)(step:Int->List Int->Int->Option (Int×List Int)×Option Int)(s:b7)(g:List b7)(o:Option b7):Prop where
 nil:g=[]->o=some s
 head:g≠[]->g[0]?=some s
 mid:∀i (h:i+1<g.length),g[i].1≠0/\ask g[i].1=false/\(step g[i].1 g[i].2 0).1=some g[i+1]
 last:∀x,g.getLast?=some x->x.1≠0/\ask x.1=false/\(step x.1 x.2 0).1=o
section
variable{s x:b7}{g:List b7}{o:Option b7}
theorem TI.start:TI ask step s [] (some s):=⟨fun _=>rfl,fun h=>zzb rfl h,fun i h=>(by simp at h),fun x h=>(by simp at h)⟩
theorem TI.Ou(h:TI ask step s g (some x)):(g++[x])[0]?=some s/\∀i (hi:i+1<(g++[x]).length),(g++[x])[i].1≠0/\ask (g++[x])[i].1=false/\(step (g++[x])[i].1 (g++[x])[i].2 0).1=some (g++[x])[i+1]:=by
 refine⟨?_,fun i hi=>?_⟩
 ·cases g with
  |nil=>exact h.nil rfl
  |cons a r=>exact h.head (by simp)
 ·simp only[zae,zax] at hi;have l1:i<g.length:=by lia
  rw[zcI l1];by_cases hl:i+1<g.length
  ·rw[zcI hl];exact h.mid i hl
  ·have ei:g.length-1=i:=by lia
   have hx:g.getLast?=some g[i]:=by rw[zbZ,ei,zac l1]
   obtain⟨a,b,c⟩:=h.last _ hx;refine⟨a,b,?_⟩;rw[c,List.getElem_append_right (by lia)];simp
theorem TI.push(h:TI ask step s g (some x))(h0:x.1≠0)(ha:ask x.1=false):TI ask step s (g++[x]) (step x.1 x.2 0).1:=
 ⟨fun e=>(by simp at e),fun _=>h.Ou.1,h.Ou.2,fun y hy=>by simp only[zda,zcN,Option.some_or,zaO.injEq] at hy;subst hy;exact⟨h0,ha,rfl⟩⟩
theorem TI.stop(h:TI ask step s g (some x))(hx:x.1=0\/ask x.1=true):Seg ask step s (g++[x]):=
 ⟨h.Ou.1,h.Ou.2,fun y hy=>by
  simp only[zda,zcN,Option.some_or,zaO.injEq] at hy;subst hy;rcases hx with z |z
  ·exact .inl z
  ·exact .inr (.inl z)⟩
theorem TI.fin(h:TI ask step s g o)(ho:o=zdj\/∃x∈g,o=some x):Seg ask step s g:=by
 have ne:g≠[]:=fun e=>by
  have:=h.nil e;subst e;rcases ho with rfl |⟨x,hx,_⟩
  ·cases this
  ·cases hx
 refine⟨h.head ne,h.mid,fun y hy=>.inr (.inr ?_)⟩;obtain⟨_,_,c⟩:=h.last y hy;rcases ho with rfl |⟨x,hx,rfl⟩
 ·exact .inl c
 ·exact .inr ⟨x,hx,c⟩
end
end
theorem Ab{α:Type}[DecidableEq α]:∀(xs ys:List α),xs.Nodup->(∀x∈xs,x∈ys)->xs.length<=ys.length
 |[],ys,_,_=>za0 _
 |x::r,ys,h,q=>by
  obtain⟨nx,nr⟩:=zaE.mp h;have hx:=q x (zaq ..);have:=Ab r (ys.erase x) nr fun y hy=>(List.mem_erase_of_ne (fun e:y=x=>nx (e▸hy))).mpr (q y (zat _ hy));have l:=List.length_erase_of_mem hx;have p:=List.length_pos_of_mem hx;simp only[zah];lia
def vj:List Int->List (List Int)
 |[]=>[[]]
 |s::r=>(zaH s.toNat).flatMap fun (v:Nat)=>(vj r).map fun t=>((v:Int)::t)
def qN:List Int->List Int->Prop
 |[],[]=>True
 |s::r,v::t=>(0<=v/\v<s)/\qN r t
 |[],_::_=>False
 |_::_,[]=>False
theorem qN.mem:∀ {ss vs:List Int},qN ss vs->vs∈vj ss
 |[],[],_=>by simp[vj]
 |s::r,v::t,h=>by
  rw[qN] at h;simp only[vj,za7,zb5,zaF];exact⟨v.toNat,by lia,t,h.2.mem,by rw[zdf h.1.1]⟩
 |[],v::t,h=>by rw[qN] at h;exact h.elim
 |s::r,[],h=>by rw[qN] at h;exact h.elim
theorem qN.set:∀ {ss vs:List Int} (i:Nat) (v:Int),qN ss vs->(∀s,ss[i]?=some s->0<=v/\v<s)->qN ss (vs.set i v)
 |[],[],i,v,h,_=>h
 |s::r,u::t,0,v,h,q=>by
  rw[qN] at h;rw[List.set_cons_zero,qN];exact⟨q s rfl,h.2⟩
 |s::r,u::t,i+1,v,h,q=>by
  rw[qN] at h;rw[List.set_cons_succ,qN];exact⟨h.1,h.2.set i v fun z hz=>q z (by simpa using hz)⟩
 |[],u::t,i,v,h,q=>by rw[qN] at h;exact h.elim
 |s::r,[],i,v,h,q=>by rw[qN] at h;exact h.elim
def univ (rows ss:List Int):List b7:=(0::rows).flatMap fun r=>(vj ss).map fun v=>(r,v)
theorem Lp{rows ss:List Int}{s:b7}(h:s.1=0\/s.1∈rows)(q:qN ss s.2):s∈univ rows ss:=by
 simp only[univ,za7,zaF,zag];exact⟨s.1,h,s.2,q.mem,rfl⟩
theorem Lq(rows ss:List Int):(univ rows ss).length=(rows.length+1)*(vj ss).length:=by
 have k:∀l:List Int,(l.flatMap fun r=>(vj ss).map fun v=>((r,v):b7)).length=l.length*(vj ss).length:=fun l=>by
  induction l with
  |nil=>simp
  |cons a r ih=>rw[zaG,zae,ih];simp[Nat.succ_mul,Nat.add_comm]
 rw[univ,k];simp
end PG
namespace L2
open PG
open PySem
def FH (K:zaa) (x:Str) (st:Stmt) (f:zdk):Prop:=zaN K zdr x=some (some (.ref f))/\∃fd,Jg K x x st f fd
theorem FH.of{K:zaa}{x:Str}{st:Stmt}{f:zdk}{oc:zdl}{od an:Option zdk}{FR:Array (Option zdl)}{kV doc pm eS ct:zdl}(a:zaN K zdr x=some (some (.ref f)))(l:K.lookup f=some ⟨oc,od,.func (zbs x x (kY st) (hC st) (aJ st) .none kV doc pm an eS ct),FR⟩)
 (c:zb7 K eS x=true) (k:zbv K (.ref f)=true):FH K x st f:=⟨a,_,JT l c k⟩
theorem GD{α:Type}{P:List α->Prop}(h:∀a,P [a])(us:List α)(e:us.length=1):P us:=match us,e with |[a],_=>h a
theorem yT{α:Type}{P:List α->Prop}(h:∀a b,P [a,b])(us:List α)(e:us.length=2):P us:=match us,e with |[a,b],_=>h a b
theorem RP{α:Type}{P:List α->Prop}(h:∀a b c,P [a,b,c])(us:List α)(e:us.length=3):P us:=match us,e with |[a,b,c],_=>h a b c
theorem bn4{α:Type}{P:List α->Prop}(h:∀a b c d,P [a,b,c,d])(us:List α)(e:us.length=4):P us:=match us,e with |[a,b,c,d],_=>h a b c d
theorem bn5{α:Type}{P:List α->Prop}(h:∀a b c d f,P [a,b,c,d,f])(us:List α)(e:us.length=5):P us:=match us,e with |[a,b,c,d,f],_=>h a b c d f
theorem lV{K:zaa}{mg:Str->Option zdl}{h:Heap}{x:Str}{st:Stmt}{f:zdk}{ps:List Str}(X:K.In h)(G:h.Ns zdr mg)(q:FH K x st f)
 (b:∀(kV doc pm:zdl) (an:Option zdk) (eS ct:zdl) (us:List zdl),us.length=ps.length->bindArgs (zbs x x (kY st) (hC st) (aJ st) .none kV doc pm an eS ct) ⟨us,[]⟩=pure (ps.zip us)):∃fd,cb K mg x st ps f fd:=
 let ⟨a,fd,F⟩:=q
 ⟨fd,F,F.binds b,zbE X G a⟩
theorem M5{A:zdv}{k:Nat}(hr:ib k A):A.units+16<cLine:=by have:=NQ hr;lia
theorem Lr{CX:BM}{P:zdw}{w:zdm}{K:zaa}{mg:Str->Option zdl}{base:Heap}{N:List Str}{qual:Str}{scope:Scope}{f:zdk}{cd:zdl}{A:zdv}{outer:List Env}{s:zdu}{H:Hp}{E:XK}:(m7 CX P w K mg base N qual scope f cd A outer s H E).prog=P:=rfl
theorem Ls{CX:BM}{P:zdw}{w:zdm}{K:zaa}{mg:Str->Option zdl}{base:Heap}{N:List Str}{qual:Str}{scope:Scope}{f:zdk}{cd:zdl}{A:zdv}{outer:List Env}{s:zdu}{H:Hp}{E:XK}:(m7 CX P w K mg base N qual scope f cd A outer s H E).w=w:=rfl
theorem Ov{tt:TT}{a b:TS}{D:Ends}{σ:St}{H:Hp}(h:∀U:St->Hp->Prop,(∀σ' H',U σ' H'↔a D σ' H')->tt σ H fun c H1=>if c=true then U σ H1 else b D σ H1):Hb tt a b D σ H:=h (a D) fun _ _=>Iff.rfl
def Y9 (K:zaa):R2:=fun x y H Q=>∃d es,Rep K H d x/\Rep K H (.lst es) y/\d.py.canLay0=true/\PyData.canLayAll0 (Dp.uR es)=true/\d.py.depth<=60/\Q (.bl ((Dp.uR es).any fun e=>PyData.eqv e d.py)) H
theorem RQ{X:Cx}(hu:X.A.units+64<cLine):rK X (compareOp .In) (Y9 X.K):=by
 intro pins s σ H x y v u Q I rx ry h;obtain⟨d,es,h1,h2,c1,c2,hd,q⟩:=h;obtain⟨as,ra⟩:=o4 I h1 rx;obtain⟨bs,rb⟩:=o4 I h2 ry;rw[show (Dp.lst es).py=PyData.list (Dp.uR es) from by rw[Dp.py]] at rb;exact SeqAt.in_list_reads rb ra c2 c1 (by have:=Nat.min_le_right (PyData.depthAll (Dp.uR es)) d.py.depth;lia) ⟨.bl _,H,I,rfl,q⟩
theorem Ow{α:Type}{xs:List α}{v:α}(h:xs[xs.length-1]?=some v):tm xs (-1)=some v:=by
 rw[<- zbZ] at h;obtain⟨ys,rfl⟩:=List.getLast?_eq_some_iff.mp h;exact jw _ _
def pL:Tg->List Key
 |.row k=>[.inr "row",.inl k]
 |.side k b=>[.inr "side",.inl k,.inl (tN b)]
 |.cg k=>[.inr "must",.inl k]
 |.fin=>[.inr "end"]
theorem Iz{a b:Tg}(h:pL a=pL b):a=b:=by
 have s1:(zab "row":Str)≠zab "must":=by decide +kernel
 cases a<;>cases b<;>simp only[pL,zdi.injEq,Sum.inl.injEq,Sum.inr.injEq,and_true,reduceCtorEq,and_false] at h
 ·rw[h.2]
 ·exact zzb h.1 s1
 ·obtain⟨_,rfl,e⟩:=h;have e:=(beq_iff_eq (α:=Int)).mpr e;rw[Ll] at e;rw[beq_iff_eq.mp e]
 ·exact zzb h.1.symm s1
 ·rw[h.2]
 ·rfl
theorem P0{K:zaa}{H:Hp}{g:Tg}{v:V}(h:Rep K H (eR g) v):∃a,v=.ref a/\Iw.on K H (pL g) a:=by
 have k:∀k:Key,W9 k (kV k):=fun k=>.inl rfl;cases g with
 |row k=>
  simp only[eR,Rep.bg,aN.aI,aN.br,Rep.bA,Rep.bt] at h;obtain⟨a,ys,rfl,hS,_,_,rfl,rfl,_,_,rfl,rfl,rfl⟩:=h;exact⟨a,rfl,_,hS,.cons (.inl rfl) (.cons (.inl rfl) .nil)⟩
 |side k b=>
  simp only[eR,Rep.bg,aN.aI,aN.br,Rep.bA,Rep.bt,Rep.lQ] at h;obtain⟨a,ys,rfl,hS,_,_,rfl,rfl,_,_,rfl,rfl,_,_,rfl,rfl,rfl⟩:=h;exact⟨a,rfl,_,hS,.cons (.inl rfl) (.cons (.inl rfl) (.cons (.inr ⟨b,rfl,rfl⟩) .nil))⟩
 |cg k=>
  simp only[eR,Rep.bg,aN.aI,aN.br,Rep.bA,Rep.bt] at h;obtain⟨a,ys,rfl,hS,_,_,rfl,rfl,_,_,rfl,rfl,rfl⟩:=h;exact⟨a,rfl,_,hS,.cons (.inl rfl) (.cons (.inl rfl) .nil)⟩
 |fin=>
  simp only[eR,Rep.bg,aN.aI,aN.br,Rep.bA] at h;obtain⟨a,ys,rfl,hS,_,_,rfl,rfl,rfl⟩:=h;exact⟨a,rfl,_,hS,.cons (.inl rfl) .nil⟩
def nJ (s:b7):kT:=(.inl s.1,s.2.map .inl)
theorem xP{a b:b7}(h:nJ a=nJ b):a=b:=by
 obtain⟨a1,a2⟩:=a;obtain⟨b1,b2⟩:=b;simp only[nJ,Prod.mk.injEq,Sum.inl.injEq] at h;obtain⟨rfl,h⟩:=h;have h:=(List.map_inj_right (fun x y (e:(Sum.inl x:Key)=.inl y)=>Sum.inl.inj e)).mp h;rw[h]
theorem Ac(l:List Int):(l.map (Sum.inl:Int->Key)).map kV=l.map V.int:=by rw[zbj];rfl
theorem Ae{K:zaa}{H:Hp}{a:zdk}{s:b7}(h:cE K H a s.1 s.2):jO.on K H (nJ s) a:=let ⟨b,h1,h2⟩:=h;⟨b,h1,by rw[nJ,Ac];exact h2⟩
theorem EU{K:zaa}{H:Hp}{a:zdk}{s:b7}(h:jO.on K H (nJ s) a):cE K H a s.1 s.2:=let ⟨b,h1,h2⟩:=h;⟨b,h1,by rw[nJ,Ac] at h2;exact h2⟩
def qO (l:List b7):List (kT×V):=l.map fun s=>(nJ s,V.bl true)
theorem CS(l:List b7)(s:b7):(cm (qO l) (nJ s)).isSome=decide (s∈l):=by
 induction l with
 |nil=>rfl
 |cons a r ih=>
  rw[qO,zal];by_cases e:a=s
  ·rw[cu (by rw[e]),e];simp
  ·rw[cw (fun z=>e (xP z))];refine(show _=_ from ih).trans ?_;simp[Ne.symm e]
theorem IA{l:List b7}{s:b7}(h:s ∉ l):putK (qO l) (nJ s) (.bl true)=qO (l++[s]):=by
 unfold putK;rw[kA,CS,decide_eq_false h,zzn zai];simp[qO]
theorem RR(a b:Tg):PyData.eqv (eR a).py (eR b).py=decide (a=b):=by
 have s1:(zab "row"==zab "must")=false:=by decide +kernel
 have s2:(zab "must"==zab "row")=false:=by decide +kernel
 have i1:∀x y:Int,(x==y)=decide (x=y):=fun x y=>rfl;have i2:∀x y:Bool,(x==y)=decide (x=y):=fun x y=>by cases x<;>cases y<;>rfl
 cases a<;>cases b<;>simp[eR,Dp.py,Dp.uR,PyData.eqv,PyData.eqvAll,s1,s2,i1,i2]
theorem RS(l:List Tg)(t:Tg):((Dp.uR (l.map eR)).any fun e=>PyData.eqv e (eR t).py)=decide (t∈l):=by
 induction l with
 |nil=>rfl
 |cons a r ih=>
  rw[zal,Dp.uR,zbX,ih,RR];by_cases e:a=t
  ·simp[e]
  ·simp[e,Ne.symm e]
theorem Lu(t:Tg):(eR t).py.canLay0=true/\(eR t).py.depth<=60:=by
 have:=EC [t];simp only[zal,za3,Dp.uR,PyData.canLayAll0,PyData.depthAll,zdb] at this;exact⟨this.1,by lia⟩
section
variable{κ:Type}[DecidableEq κ]{J:KH κ}{P:zdw}{w:zdm}{K:zaa}{H H':Hp}{a b p C dx:zdk}{ax:List (κ×V)}{φ:Heap->Prop}{fs:List (Str×V)}{xs:List V}
theorem DS.nK(d:DS J P w K H a ax):∃φ,H a=some (.ext φ):=let ⟨xs,h,_⟩:=d.at_;⟨_,h⟩
theorem bQ.lW(h:bQ K H a xs)(hb:H b=some (.ext φ))(u:aZ b H H'):bQ K H' a xs:=by
 rcases h with (q |⟨o',q⟩) |q
 ·exact .inl (.inl (u _ _ (bU q hb (by intro z;cases z)) q))
 ·exact .inl (.inr ⟨o',u _ _ (bU q hb (by intro z;cases z)) q⟩)
 ·exact .inr q
theorem DS.other(d:DS J P w K H a ax)(hb:H b=some (.ext φ))(n:a≠b)(u:aZ b H H'):DS J P w K H' a ax:=d.Iu (fun o h=>u _ _ n h) fun c ys q=>q.lW hb u
theorem cE.ext{row:Int}{vals:List Int}(h:cE K H a row vals)(hb:H b=some (.ext φ))(u:aZ b H H'):cE K H' a row vals:=let ⟨va,h1,h2⟩:=h;⟨va,h1.lW hb u,h2.lW hb u⟩
end
theorem wO{K:zaa}{H H':Hp}{l:zdk}{ys:List V}{d:Dp}{v:V}(hl:H l=some (.lst ys))(u:aZ l H H')(hn:HW d=true)(r:Rep K H d v):Rep K H' d v:=zX (O:=(·=l)) (fun g e=>⟨ys,e▸hl⟩) (ba.one u rfl) d v hn r
theorem Lv{K:zaa}{H H':Hp}{l:zdk}{ys:List V}{ds:List Dp}{vs:List V}(hl:H l=some (.lst ys))(u:aZ l H H')(hn:pE ds=true)(r:aN K H ds vs):aN K H' ds vs:=rQ (O:=(·=l)) (fun g e=>⟨ys,e▸hl⟩) (ba.one u rfl) ds vs hn r
theorem GF:∀l:List Tg,pE (l.map eR)=true
 |[]=>rfl
 |g::r=>by
  rw[zal,pE,GF r];cases g<;>rfl
theorem IB{D:zdk}{H H':Hp}(s:aq H H'):aq (oP D H) (oP D H'):=fun b o h=>by
 obtain⟨n,e⟩:=wN h;rw[nH n];exact s _ _ e
theorem bQ.oP{K:zaa}{D a:zdk}{H:Hp}{xs ys:List V}(h:bQ K H a xs)(hD:H D=some (.lst ys)):bQ K (oP D H) a xs:=by
 rcases h with (q |⟨o,q⟩) |q
 ·exact .inl (.inl (by rw[nH (bU q hD (by intro z;cases z))];exact q))
 ·exact .inl (.inr ⟨o,by rw[nH (bU q hD (by intro z;cases z))];exact q⟩)
 ·exact .inr q
theorem cE.oP{K:zaa}{D a:zdk}{H:Hp}{row:Int}{vals:List Int}{ys:List V}(h:cE K H a row vals)(hD:H D=some (.lst ys)):cE K (oP D H) a row vals:=let ⟨va,h1,h2⟩:=h;⟨va,h1.oP hD,h2.oP hD⟩
def jP (pr:PG.Prog):List Int:=pr.ay.map (·.size)
def GG (pr:PG.Prog):List Int:=(az pr.body).map (·.row)
def bq (pr:PG.Prog):Nat:=(PG.univ (GG pr) (jP pr)).length
structure cO(pr:PG.Prog)(s:b7):Prop where
 ok:CM pr s.1 s.2
 inv:PG.qN (jP pr) s.2
theorem cO.mem{pr:PG.Prog}{s:b7}(h:cO pr s):s∈PG.univ (GG pr) (jP pr):=by
 refine Lp ?_ h.inv;rcases h.ok.row with e |⟨i,hi,e⟩
 ·exact .inl e
 ·exact .inr (zaF.mpr ⟨_,zau hi,e⟩)
theorem iJ{pr:PG.Prog}{l:List b7}(nd:l.Nodup)(h:∀s∈l,cO pr s):l.length<=bq pr:=Ab l _ nd fun s hs=>(h s hs).mem
theorem qN.first:∀ {bs:List gb},(∀b∈bs,2<=b.size/\b.size<=10/\0<=b.first/\b.first<b.size)->PG.qN (bs.map (·.size)) (bs.map (·.first))
 |[],_=>trivial
 |b::r,h=>by
  simp only[zal,PG.qN];have:=h b (zaq ..);exact⟨⟨by lia,by lia⟩,qN.first fun x hx=>h x (zat _ hx)⟩
theorem cO.first{pr:PG.Prog}(d:iI pr):cO pr (bj pr.body 0,pr.ay.map (·.first)):=⟨d.first,qN.first d.size⟩
theorem qN.tU{pr:PG.Prog}(d:iI pr){vals:List Int}(h:PG.qN (jP pr) vals){b:W}(hb:b∈pr.ay.map (·.name))(z:Int):PG.qN (jP pr) (tU pr.ay vals b (z%eP pr.ay b)):=by
 refine h.set _ _ fun s hs=>?_;obtain⟨hx,_⟩:=kC hb;have e:eP pr.ay b=s:=by
  unfold eP;rw[jP,zam,zac hx] at hs;rw[zac hx];exact zaO.inj hs
 have:=CN d hb;rw[e] at this ⊢;exact⟨zaP z (by lia),zaM z (by lia)⟩
theorem qN.step{pr:PG.Prog}(d:iI pr){st:bG}(ok:tJ (·∈pr.ay.map (·.name)) (fun e=>jz pr.ay e/\oE e<=2) (·∈BO) st){ws vals:List Int}{f:Int}(h:PG.qN (jP pr) vals){x:b7}(e:(lD pr.ay st ws vals f).1=some x):PG.qN (jP pr) x.2:=by
 have cs:iH pr.ay st ws vals=some x->PG.qN (jP pr) x.2:=by
  intro e;unfold iH at e;split at e
  ·cases e
  ·split at e
   ·cases e;exact h
   ·split at e
    ·cases e
    ·cases e;exact h
 cases st<;>rw[tJ] at ok
 ·cases e;exact qN.tU d h ok _
 ·cases e;exact qN.tU d h ok.1 _
 ·cases e;exact h
 ·exact cs e
 ·cases e;exact h
 ·exact cs e
 ·exact cs e
theorem CT{pr:PG.Prog}(ok:CK pr){i:Nat}(hi:i<(az pr.body).length)(hf:i<(aQ pr.body 0).length)(vals:List Int)(f:Int):bX pr (az pr.body)[i].row vals f=lD pr.ay (az pr.body)[i] (aQ pr.body 0)[i].2.2 vals f:=by
 unfold bX;rw[nI ok.pw i hi,GA ok.pw i hi hf]
theorem cO.next{pr:PG.Prog}(d:iI pr){s x:b7}(h:cO pr s)(h0:s.1≠0){f:Int}(e:(bX pr s.1 s.2 f).1=some x):cO pr x:=by
 obtain⟨row,vals⟩:=s;obtain⟨i,hi,rfl⟩:=h.ok.row.resolve_left h0;obtain⟨hf,_,_⟩:=gW pr.body i hi;rw[CT d.ok hi hf] at e;refine⟨?_,qN.step d (jg pr.body _ d.own (zau hi)) h.inv e⟩;rcases hs:lD pr.ay (az pr.body)[i] (aQ pr.body 0)[i].2.2 vals f with ⟨o,sd⟩
 rw[hs] at e;exact CM.step d hi hf h.ok.len h.ok.small (by rw[hs];exact congrArg (·,sd) e)
theorem xQ{pr:PG.Prog}(row:Int)(vals:List Int)(f:Int)(h:dc pr.body row=true):(bX pr row vals f).1≠none:=by
 unfold dc at h;unfold bX;obtain⟨k,b,e⟩:∃k b,xM pr.body row=.ask k b:=by
  generalize xM pr.body row=st at h;cases st<;>first |exact⟨_,_,rfl⟩ |(have h:=of_decide_eq_true h;cases h)
 rw[e];intro z;cases z
theorem tY{pr:PG.Prog}(ok:CK pr):dc pr.body 0=false:=by
 unfold dc xM KO;have:(az pr.body).findIdx (fun s=>s.row==0)=(az pr.body).length:=List.findIdx_eq_length.mpr fun x hx=>by
  have:=ok.pos x hx;simp only[beq_eq_false_iff_ne,ne_eq];lia
 rw[this,zbA (zaf _)];rfl
theorem cO.nx{pr:PG.Prog}(d:iI pr){s s':b7×List Int}(h:cO pr s.1)(e:PG.Hz (dc pr.body) (bX pr) s=some s'):cO pr s'.1:=by
 unfold PG.Hz at e;split at e
 ·cases e
 ·rename_i h0;split at e
  ·cases e
  ·obtain⟨y,hy,rfl⟩:=zcf.mp e;exact h.next d h0 hy
def oG (pr:PG.Prog) (s:b7):List Tg:=if s.1=0 then [.fin] else match pK (xM pr.body s.1) with
 |none=>[.row s.1]
 |some (sg,l,r)=>if (xM pr.body s.1).wd=.cg then (if gS sg (wv pr.ay s.2 l) (wv pr.ay s.2 r) then [.row s.1] else [.row s.1,.cg s.1]) else [.row s.1,.side s.1 (gS sg (wv pr.ay s.2 l) (wv pr.ay s.2 r))]
theorem Ox(pr:PG.Prog)(s:b7):(oG pr s).length<=2:=by
 unfold oG;split
 ·simp
 ·split
  ·simp
  ·split
   ·split<;>simp
   ·simp
structure eV(K:zaa)(H:Hp)(md:zdk)(pr:PG.Prog):Prop where
 at_:∃(B d8 wy fa:zdk) (us:List V) (ax:List (Key×V)),i7 K H md [.ref B,.ref d8,.ref wy,.ref fa]/\Rep K H (.lst (pr.ay.map iD)) (.ref B)/\H d8=some (.dK (cU (az pr.body) us))/\us.length=(az pr.body).length/\aN K H ((az pr.body).map dH) us/\
  H wy=some (.dK ax)/\(∀i (hi:i<(aQ pr.body 0).length),∃y,cm ax (.inl (aQ pr.body 0)[i].1)=some (.ref y)/\bQ K H y ((aQ pr.body 0)[i].2.2.map V.int))/\cE K H fa (bj pr.body 0) (pr.ay.map (·.first))
theorem eV.mono{K:zaa}{H H':Hp}{md:zdk}{pr:PG.Prog}(m:eV K H md pr)(s:aq H H'):eV K H' md pr:=by
 obtain⟨B,d8,wy,fa,us,ax,h1,h2,h3,h4,h5,h6,h7,h8⟩:=m.at_;exact⟨⟨B,d8,wy,fa,us,ax,s.seq h1,h2.mono s,s _ _ h3,h4,h5.mono s,s _ _ h6,fun i hi=>let ⟨y,e,k⟩:=h7 i hi;⟨y,e,s.a7 k⟩,h8.mono s⟩⟩
theorem eV.row{K:zaa}{H:Hp}{md:zdk}{pr:PG.Prog}(m:eV K H md pr)(ok:CK pr){i:Nat}(hi:i<(az pr.body).length)(hf:i<(aQ pr.body 0).length) :
 ∃(B d8 wy fa ta y:zdk) (us ys:List V) (ax:List (Key×V)),i7 K H md [.ref B,.ref d8,.ref wy,.ref fa]/\Rep K H (.lst (pr.ay.map iD)) (.ref B)/\H d8=some (.dK (cU (az pr.body) us))/\cm (cU (az pr.body) us) (.inl (az pr.body)[i].row)=some (.ref ta)/\Rep K H (dH (az pr.body)[i]) (.ref ta)/\bQ K H ta (.str (gg (az pr.body)[i].wd)::ys)/\
  H wy=some (.dK ax)/\cm ax (.inl (az pr.body)[i].row)=some (.ref y)/\bQ K H y ((aQ pr.body 0)[i].2.2.map V.int):=by
 obtain⟨B,d8,wy,fa,us,ax,h1,h2,h3,h4,h5,h6,h7,h8⟩:=m.at_;obtain⟨v,hv,rv⟩:=h5.get (i:=i) (d:=dH (az pr.body)[i]) (by rw[zam,zac hi];rfl);have g:=pG _ _ h4 ok.pw i hi v hv;obtain⟨ta,ys,rfl,Oy⟩:=iq _ rv;obtain⟨y,e,k⟩:=h7 i hf;obtain⟨_,e1,_⟩:=gW pr.body i hi;rw[e1] at e;exact⟨B,d8,wy,fa,ta,y,us,_,ax,h1,h2,h3,g,rv,Oy,h6,e,k⟩
section
variable(P:zdw)(w:zdm)(K:zaa)(CC:zdk)
def GH (H:Hp) (l:zdk) (us:List V) (ts:List Tg):Prop:=H l=some (.lst us)/\aN K H (ts.map eR) us
def RT:Sp:=fun vs H Q _=>∃(ch sa:zdk) (pr:PG.Prog) (s:b7),vs=[.ref ch,.ref sa]/\wL K CC H ch pr/\iI pr/\cE K H sa s.1 s.2/\cO pr s/\
 ∀l us H',aq H H'->H l=none->GH K H' l us (oG pr s)->Q (.ref l) H'
def RU:Sp:=fun vs H Q _=>∃(pa R D:zdk) (ys:List V) (pr:PG.Prog) (rows:List PG.Row),vs=[.ref pa,.ref R]/\H D=some (.lst ys)/\iI pr/\Rep K (oP D H) (je pr) (.ref pa)/\Rep K H (.lst (rows.map jU)) (.ref R)/\rows.length<=1000/\cH pr.body rows/\
 ∀md H',aq H H'->eV K (oP D H') md pr->Q (.ref md) H'
def Lw:Sp:=fun vs H Q _=>∃(md sa:zdk) (fv:V) (pr:PG.Prog) (s:b7) (f:Int),vs=[.ref md,.ref sa,fv]/\eV K H md pr/\iI pr/\cE K H sa s.1 s.2/\cO pr s/\s.1≠0/\(dc pr.body s.1=true->fv=.int f)/\
 ∀v H',aq H H'->qM K H' (bX pr s.1 s.2 f).1 v->Q v H'
def Oz:Sp:=fun vs H Q _=>∃(md sa:zdk) (pr:PG.Prog) (s:b7),vs=[.ref md,.ref sa]/\eV K H md pr/\iI pr/\cE K H sa s.1 s.2/\cO pr s/\Q (.bl (dc pr.body s.1)) H
def RV:Sp:=fun vs H Q _=>∃(md sa:zdk) (pr:PG.Prog) (s:b7),vs=[.ref md,.ref sa]/\eV K H md pr/\iI pr/\cE K H sa s.1 s.2/\cO pr s/\
 ∀l us H',aq H H'->H l=none->GH K H' l us (oG pr s)->Q (.ref l) H'
def iK (H:Hp) (g:List b7) (us:List V):Prop:=Paired (fun (s:b7) v=>∃a,v=.ref a/\cE K H a s.1 s.2) g us
end
theorem Lx{K:zaa}{H:Hp}:∀ {g:List b7} {us:List V},Paired (fun (p:kT×V) (v:V)=>∃b,v=.ref b/\jO.on K H p.1 b) (qO g) us->iK K H g us
 |[],_,h=>by cases h;exact .nil
 |s::r,_,h=>by
  cases h with
  |cons h1 h2=>
   obtain⟨b,e,o⟩:=h1;exact .cons ⟨b,e,EU o⟩ (Lx h2)
theorem iK.at{K:zaa}{H:Hp}{g:List b7}{us:List V}(h:iK K H g us):us.length=g.length/\∀(i:Nat) (s:b7),g[i]?=some s->∃a,us[i]?=some (V.ref a)/\cE K H a s.1 s.2:=by
 unfold iK at h
 induction h with
 |nil=>exact⟨rfl,fun i s h=>by simp at h⟩
 |@cons x y l1 l2 z t ih=>
  obtain⟨a,e,q⟩:=z;obtain⟨l,g⟩:=ih;refine⟨by simp[l],fun i s h=>?_⟩;cases i with
  |zero=>simp at h;subst h;exact⟨a,by simp[e],q⟩
  |succ i=>simp at h;obtain⟨b,hb,k⟩:=g i s h;exact⟨b,by simp[hb],k⟩
theorem iK.mono{K:zaa}{H H':Hp}{g:List b7}{us:List V}(h:iK K H g us)(s:aq H H'):iK K H' g us:=Paired.Au h fun _ _ ⟨a,e,q⟩=>⟨a,e,q.mono s⟩
open PyProof.Rows
theorem Ly{J:It}{D:zdk}{g:TG}{te:TE}{Q:VK}{τ0:St}{H:Hp}(G:St->Prop)(xs:List V)(Pv:Nat->List V->Hp->Prop)
 (go:∀i H2,aq H H2->i<xs.length->J.go i H2) (stop:∀H2,aq H H2->J.stop xs.length H2) (zw:∀i H2 x H3,aq H H2->i<xs.length->J.zw i H2 x H3->H3=H2/\xs[i]?=some x)
 (hl:xs.length<=16000000) (hD:H D=none) (g0:G τ0) (h0:Pv 0 [] (upd H D (.lst [])))
 (step:∀i x ys τ H2,xs[i]?=some x->G τ->aq H H2->H2 D=some (.lst ys)->ys.length=i->Pv i ys H2->∀R:St->VK,(∀τ' v H3,G τ'->aq H2 H3->Pv (i+1) (ys++[v]) (upd H3 D (.lst (ys++[v])))->R τ' v H3)->g x τ H2 fun τ' H'=>te τ' H' (R τ'))
 (q:∀ys H2,aq H H2->H2 D=some (.lst ys)->ys.length=xs.length->Pv xs.length ys H2->Q (.ref D) H2):vM J D g AL te Q τ0 (upd H D (.lst [])):=by
 refine⟨fun i m τ H2=>m=xs.length-i/\i<=xs.length/\G τ/\aq H H2/\∃ys,H2 D=some (.lst ys)/\ys.length=i/\Pv i ys H2,⟨xs.length,by simp,za0 _,g0,aq.new hD _,[],ae,rfl,h0⟩,?_⟩
 rintro i m τ H2 ⟨rfl,hi,gt,s2,ys,h2,ly,p2⟩
 by_cases oC:i<xs.length
 ·refine .inr ⟨go i H2 s2 oC,fun τ' H'=>G τ'/\aq H H'/\∃ys,H' D=some (.lst ys)/\ys.length=i+1/\Pv (i+1) ys H',fun τ' H' ⟨h1,h3,h4⟩=>⟨xs.length-(i+1),by lia,rfl,oC,h1,h3,h4⟩,fun y H' hy=>?_⟩;obtain⟨rfl,ey⟩:=zw i H2 y H' s2 oC hy;simp only[AL,if_true];refine step i y ys τ _ ey gt s2 h2 ly p2 (fun τ' v H4=>_) fun τ' v H3 gt' s3 p3=>⟨ys,s3 _ _ h2,?_,gt',?_,ys++[v],ae,by simp[ly],p3⟩
  ·have:zds=2 ^ 24:=rfl;lia
  ·intro b o e;rw[aw (ai e hD)];exact s3 _ _ (s2 _ _ e)
 ·have e:i=xs.length:=by lia
  subst e;exact .inl ⟨stop H2 s2,q ys H2 s2 h2 ly p2⟩
theorem Lz{K:zaa}{ta:TA}{g:TG}{tb:TS}{D:Ends}{σ:St}{H:Hp} (h:∀U:zdk->Hp->Prop,(∀a H1,(∃W:Nat->Nat->St->Hp->Prop,(∃m,W 0 m σ H1)/\∀i m σ H,W i m σ H->
 ((PK K a).stop i H/\D.nx σ H)\/((PK K a).go i H/\∃N:St->Hp->Prop,(∀σ' H',N σ' H'->∃m',m'<m/\W (i+1) m' σ' H')/\∀x H',(PK K a).zw i H x H'->g x σ H' fun σ2 H2=>tb {D with nx:=N,ct:=N,bk:=D.nx} σ2 H2))->U a H1)->
 ta σ H fun vs H1=>∃a,vs=[.ref a]/\(∃xs,i7 K H1 a xs)/\U a H1):Hf (PL K ta) g tb D σ H:=h _ fun _ _ x=>x
section
variable{prog:zdw}{w:zdm}{A:zdv}{E:zdl->zdu->Prop}{s:zdu}{d:zdk}{es:Array DictEntry}{ep:Nat}
theorem LA(hd:(d==sysModules)=false) :
 MeetsIn prog w (Builtin.«dict.__len__» ⟨[.ref d],[]⟩) (fun _ R s=>∃es ep,iu s.heap d es ep/\R (.ok (.ret (.int es.size s.toks))) {s with toks:=s.toks+1}):=by
 refine .of_wp fun A R s hh=>?_;obtain⟨es,ep,⟨o,g,_,OA⟩,h⟩:=hh;show wpAny _ _ (dictSize d >>= _) _ _ s;unfold dictSize;refine zdn (zdn (wpAny_dictEntries g OA (zdo ?_)));show wpAny _ _ (Builtin.Dict.pendingCount d >>= _) _ _ s;refine zdn (wpAny_pendingCount_other hd (wpAny_ret_mkInt ?_));rw[Nat.add_zero];exact h
theorem OB{Q:zdl->zdu->Prop}(hd:(d==sysModules)=false)(x:iu s.heap d es ep)(ad2:(es.size:Int)<2 ^ 63)(h:Q (.int es.size (s.toks+1)) {s with toks:=s.toks+1+1}):wpAny (model prog w) A (call (.builtin "len") [.ref d]) Q E s:=by
 refine Calls.call_function_entry kind_len plain_len entry_len (args_len1 _) ?_;unfold Builtin.«len»;refine zdn (m:=oneArg "len" _) (zdo ?_);refine zdn (m:=callSpecial? (.ref d) (zab "__len__")) (wpAny_callSpecial?_slot (name:=zab "__len__") x.ty F.slot_dict_len
  (call_meetsIn F.slot_dict_len x.ty F.entry_dict_len (F.args_dict_len_1 _) (LA hd) ⟨es,ep,x,?_⟩))
 show wpAny _ _ _ _ _ {s with toks:=s.toks+1};refine zdn (zdp (zdo (zdn (wpAny_letGo ?_))));show wpAny _ _ (if ((es.size:Nat):Int)<0 then _ else _) _ _ _;rw[zzn (by first|decide|omega)];show wpAny _ _ (if ((es.size:Nat):Int) ≥ 2 ^ 63 then _ else _) _ _ _;rw[zzn (by first|decide|omega)];exact zdn (wpAny_mkInt (zdo ⟨_,rfl,h⟩))
end
section
variable{κ:Type}[DecidableEq κ]{J:KH κ}{X:Cx}
theorem IC:mq X (.builtin "len") (fun xs H Q=>∃(a:zdk) (ax:List (κ×V)),xs=[.ref a]/\DS J X.prog X.w X.K H a ax/\Q (.int ax.length) H):=by
 intro pins s σ H xs us Q I r h;obtain⟨a,ax,rfl,⟨z,sy,ks,e,rel,nd⟩,q⟩:=h;obtain⟨u,rfl,ru⟩:=vals1 r;cases (show u=Value.ref a from ru);obtain⟨o,es,ep,h1,h2,h3,h4,_,_⟩:=vR I e rel nd;have le:es.size=ax.length:=by rw[<- za8,h4,zad,Paired.length rel]
 have line:zds=2 ^ 24:=rfl;exact OB sy (⟨o,h1,h2,h3⟩:iu s.heap a es ep) (by rw[le];omega) ⟨.int ax.length,H,I.tok _,⟨_,by rw[le]⟩,q⟩
end
open PySem.Spec
def CU (CX:BM) (P:zdw) (w:zdm) (K:zaa) (mg:Str->Option zdl) (base:Heap) (N:List Str) (qual:Str) (scope:Scope) (f:zdk) (cd:zdl) (cl:List (Str×zdk)) (A:zdv) (outer:List Env) (s:zdu) (H:Hp) (E:XK):Cx where
 prog:=P
 w:=w
 K:=K
 mg:=mg
 base:=base
 A:=A.deeper (zb2 qual scope s.heap.objs.size f cd cl)
 N:=N
 s₀:=s
 H₀:=H
 env:=zb2 qual scope s.heap.objs.size f cd cl
 outer:=outer
 stack:=zb2 qual scope s.heap.objs.size f cd cl::outer
 ex:=[]
 calm:=true
 fn:=fun _=>false
 pn:=[]
 xe:=fun e s'=>wpAny (model P w) (A.deeper (zb2 qual scope s.heap.objs.size f cd cl)) (leaving (zb2 qual scope s.heap.objs.size f cd cl) e) (fun _ Ho=>CX outer H s E e Ho) (fun e' Ho=>CX outer H s E e' Ho) s'
structure tZ(x y:Str)(sc:Scope):Prop where
 kind:sc.kind=.function
 co:sc.isCoroutine=false
 gen:sc.isGenerator=false
 px:sc.names.lookup x=some .local
 py:sc.names.lookup y=some .free
 only:∀z,(sc.names.lookup z=some .cell\/sc.names.lookup z=some .free)->z=y
 RW:∀z∈sc.names,z.2≠.cell
theorem OC{CX:BM}{P:zdw}{w:zdm}{K:zaa}{mg:Str->Option zdl}{base:Heap}{x y:Str}{qual:Str}{scope:Scope}{f cc:zdk}{cd:zdl}{A:zdv}{outer:List Env}{s:zdu}{H:Hp}{E:XK}{u uc:zdl}{v vc:V}{h1:Heap}{tk:Nat}
 (S:tZ x y scope) (hd:A.handled=none) (e0:rM P w K mg base A outer s H) (rv:RelV v u) (yG:H cc=none) (vH:s.heap.IsCell cc (some uc)) (rc:RelV vc uc)
 (PB:h1.Ns s.heap.objs.size fun z=>zbl z [(x,u)].reverse) (hk:∀b o,s.heap.get? b=some o->h1.get? b=some o) :
 Inv (CU CX P w K mg base [x,y] qual scope f cd [(y,cc)] A outer s H E) [] [some v,some vc] H {s with heap:=h1,toks:=tk}:=by
 have Ra:∀b:zdk,b ∉ (CU CX P w K mg base [x,y] qual scope f cd [(y,cc)] A outer s H E).ex:=fun b z=>zzb (show b∈([]:List zdk) from z) (by simp);have lk:∀z c,zbl z [(y,cc)]=some c->z=y/\c=cc:=fun z c e=>by
  rw[zaX] at e;cases hb:z==y with
  |true=>rw[hb] at e;cases e;exact⟨eq_of_beq hb,rfl⟩
  |false=>rw[hb] at e;cases e
 have lky:zbl y [(y,cc)]=some cc:=by rw[zaX,beq_self_eq_true]
 have LB:h1.IsCell cc (some uc):=by obtain⟨o,ho,q⟩:=vH;exact⟨o,hk _ _ ho,q⟩
 refine⟨⟨e0.mod,S.kind,rfl,rfl,zaf _,fun a b c h1 h2=>?_,fun z hz=>?_,fun z c hf _=>?_,fun _=>hd,Around.frames_deeper e0.frames,.inr ⟨rfl,rfl⟩,fun b z=>zzb z (Ra b),e0.bs,e0.BX,fun b _ _=>Ra b,fun b z=>zzb z (Ra b),e0.qD,e0.MU⟩,
  rfl,e0.bare,Un.kept hk,⟨_,PB,fun i z v' h1 h2 h3=>?_⟩,fun z c h=>?_,e0.cM.fresh (zaf _),fun z c h=>?_,fun p hp=>zzb (show p∈([]:List (zdk×Obj)) from hp) (by simp),e0.cM.kept hk,rfl⟩
 ·exact(lk a c h1).1.trans (lk b c h2).1.symm
 ·have hz:scope.names.lookup z=some .cell\/scope.names.lookup z=some .free:=hz;rw[S.only z hz];exact⟨cc,lky⟩
 ·cases hf
 ·rcases i with _ |_ |i
  ·cases h1;cases h2;refine⟨u,rv,.inl ⟨S.px,?_⟩⟩;show zbl x [(x,u)].reverse=some u;rw[List.reverse_singleton,zaX,beq_self_eq_true]
  ·cases h1;cases h2;exact⟨uc,rc,.inr ⟨.inr S.py,cc,lky,LB⟩⟩
  ·cases h1
 ·rw[(lk z c h).2];exact⟨_,LB⟩
 ·rw[(lk z c h).2];exact yG
theorem OD{CX:BM}{P:zdw}{w:zdm}{K:zaa}{mg:Str->Option zdl}{base:Heap}{k:Nat}{x y:Str}{name qual:Str}{params:Arguments}{body:Expr}{scope:Scope}{fo cc c':zdk}{pm vS:zdl}{A:zdv}{outer:List Env}{s:zdu}{H:Hp}{E:XK}{Q:VK}{u uc:zdl}{v vc:V}
 (S:tZ x y scope) (hr:ib (k+1) A) (e0:rM P w K mg base A outer s H) (Vo:s.heap.get? fo=some (zbR name qual params body scope [(y,cc)] pm c' vS)) (hcr:s.heap.CodeRec (.ref c') qual)
 (yG:H cc=none) (vH:s.heap.IsCell cc (some uc)) (rc:RelV vc uc) (rv:RelV v u) (xR:bindArgs (zc7 name qual params body scope [(y,cc)] pm (.ref c') vS) ⟨[u],[]⟩=pure [(x,u)])
 {t:TE} (ht:PE (CU CX P w K mg base [x,y] qual scope fo (.ref c') [(y,cc)] A outer s H E) body t) (hq:t [some v,some vc] H Q) :
 codeAny (model P w) A (.call (.ref fo) ⟨[u],[]⟩) (CR CX outer P w H s Q E) s:=by
 have lim:s.heap.NoLimit:=e0.mod.nolimit.keeps fun b o e=>(e0.bs b o e).1;refine PySem.W.kla_callFunE hr.depth Vo rfl S.co S.gen rfl hcr ?_;rw[xR];refine zdo (wpAny_newFunctionEnv S.RW (fun z hz=>?_) (fun h1 PB YF=>?_) S.kind)
 ·rw[zar.mp hz];exact S.px
 have hk:∀b o,s.heap.get? b=some o->h1.get? b=some o:=fun b o e=>YF.extBut b o (zaD (Heap.lt_size e)) (Heap.get?_push_of_some _ e);refine⟨lim.keeps hk,?_⟩;show codeAny _ _ (.expr body (zb2 qual scope s.heap.objs.size fo (.ref c') [(y,cc)])) _ _;refine PySem.W.kla_codeExpr (wpAny_mono (ht [] _ _ _ Q (OC S hr.hd e0 rv yG vH rc PB hk) hq) (fun u' s' h=>?_) fun e s' z=>z);obtain⟨v',H',J,rv',q'⟩:=h;exact⟨v',H',J.os,J.bare,J.base,J.cM,rv',q'⟩
def eW (a:zdk) (o:Obj):HO:=.ext fun h=>h.get? a=some o
def wo (H:Hp) (a:zdk):Hp:=fun b=>if b=a then none else H b
theorem jh{H:Hp}{a:zdk}:wo H a a=none:=zzp rfl
theorem eX{H:Hp}{a b:zdk}(h:b≠a):wo H a b=H b:=zzn h
section
variable{P:zdw}{w:zdm}{H:Hp}{h:Heap}{a:zdk}{o:Obj}
theorem eW.get(x:oA P w H h)(e:H a=some (eW a o)):h.get? a=some o:=(x a _ e).1
theorem eW.ok{H':Hp}(e:h.get? a=some o):dh P w H' h a (eW a o):=⟨e,⟨o,e⟩,fun _ _ p k=>k _ p⟩
theorem oA.add(x:oA P w H h)(hn:H a=none)(e:h.get? a=some o):oA P w (upd H a (eW a o)) h:=fun b u q=>by
 by_cases hb:b=a
 ·subst hb;rw[ae] at q;cases q;exact eW.ok e
 ·rw[aw hb] at q;exact(x b u q).jJ (fun c v _ r=>r) (fun c r=>by rw[aw (ai r hn)];exact r) fun c xs r=>by rw[aw (ai r hn)];exact r
theorem oA.wo(x:oA P w H h)(ha:H a=some (eW a o)):oA P w (wo H a) h:=fun b u q=>by
 by_cases hb:b=a
 ·subst hb;rw[jh] at q;cases q
 ·rw[eX hb] at q;refine(x b u q).jJ (fun c v _ r=>r) (fun c r=>?_) fun c xs r=>?_
  ·rw[eX (bU r ha (by intro z;cases z))];exact r
  ·rw[eX (bU r ha (by intro z;cases z))];exact r
end
def Qa (y name qual:Str) (params:Arguments) (body:Expr) (scope:Scope) (H:Hp) (fo cc:zdk) (mH:Obj) (vc:V):Prop:=
 ∃(c':zdk) (pm vS uc:zdl) (oc:Obj) (vs:Array zdl) (tk:Nat),H fo=some (eW fo (zbR name qual params body scope [(y,cc)] pm c' vS))/\H c'=some (eW c' oc)/\oc.data=.fields vs/\vs[1]?=some (.str qual tk)/\
  H cc=some (eW cc mH)/\mH.data=.cell (some uc)/\RelV vc uc
def RX (y name qual:Str) (params:Arguments) (body:Expr) (scope:Scope) (tb tf:TE) (ta:TA):TE:=fun σ H Q=>tf σ H fun f H1=>ta σ H1 fun vs H2=>∃(a:V) (fo cc:zdk) (mH:Obj) (vc:V),vs=[a]/\f=.ref fo/\Qa y name qual params body scope H2 fo cc mH vc/\
 tb [some a,some vc] (wo H2 cc) fun v H3=>H3 cc=none->Q v (upd H3 cc (eW cc mH))
theorem rM.wo{P:zdw}{w:zdm}{K:zaa}{mg:Str->Option zdl}{base:Heap}{A:zdv}{outer:List Env}{s:zdu}{H:Hp}{a:zdk}{o:Obj}(e:rM P w K mg base A outer s H)(ha:H a=some (eW a o)):rM P w K mg base A outer s (L2.wo H a):=
 ⟨e.frames,e.mod,fun b o hb=>⟨(e.bs b o hb).1,by unfold L2.wo;rw[(e.bs b o hb).2];split<;>rfl⟩,e.BX,e.qD,fun b hb=>by unfold L2.wo;rw[e.MU b hb];split<;>rfl,e.cM.wo ha,e.bare⟩
theorem CE.back{outer:List Env}{P:zdw}{w:zdm}{H:Hp}{s s':zdu}{Q:VK}{u:zdl}{a:zdk}{o:Obj}(cM:oA P w H s.heap)(ha:H a=some (eW a o))(hf:a ∉ dq outer)(h:CE outer P w (wo H a) s (fun v H3=>H3 a=none->Q v (upd H3 a (eW a o))) u s'):CE outer P w H s Q u s':=by
 obtain⟨v,H3,os,bare,un,OE,rv,q⟩:=h;have g0:=eW.get cM ha;have n3:H3 a=none:=un.free a o g0 jh (by simp);have g1:=un.keep a o g0 jh hf (by simp);have nb:∀ {b:zdk},H b=none->b≠a:=fun {b} n z=>by rw[z,ha] at n;cases n
 refine⟨v,upd H3 a (eW a o),os,bare,⟨fun b ob e n hb hx=>un.keep b ob e (by rw[eX (nb n)];exact n) hb hx,fun b ob e n hb hx=>un.slot b ob e (by rw[eX (nb n)];exact n) hb hx,fun b ob e n hx=>?_,un.there,fun b xs e=>?_,fun b ob x e=>?_,fun b ps e=>?_⟩,OE.add n3 g1,rv,q n3⟩
 ·rw[aw (nb n)];exact un.free b ob e (by rw[eX (nb n)];exact n) hx
 ·have ne:=bU e ha (by intro z;cases z);rw[aw ne];exact un.w4 b xs (by rw[eX ne];exact e)
 ·have ne:=bU e ha (by intro z;cases z);rw[aw ne];exact un.v9 b ob x (by rw[eX ne];exact e)
 ·have ne:=bU e ha (by intro z;cases z);rw[aw ne];exact un.wb b ps (by rw[eX ne];exact e)
theorem EW{M:Model}{A:zdv}{E:zdl->zdu->Prop}{s:zdu}{env:Env}{pos:Pos}{f:zdl}{first:List zdl}{Q:zdl->zdu->Prop}{P:Heap->Prop}{e:Expr}{rest:List Expr}
 (hk:∀h,P h->∃k,(k=Keeper.frame\/k=Keeper.machine\/k=Keeper.boundFrame)/\PySem.W.Looks M h (keeperOf f) k) (h:wpAny M A (spliced (backTo pos (zdq (e::rest) env))) (fun vs s₁=>P s₁.heap/\wpAny M A (call f (first++vs)) Q E s₁) E s)
 (he:zdq (e::rest) env=(false,eval e env)::zdq rest env) (BN:(backTo pos (zdq rest env)).any (·.1)=false):wpAny M A (callWith pos f first (backTo pos (zdq (e::rest) env)) []) Q E s:=by
 rw[he] at h ⊢;exact PySem.W.callWith_of (by show ((false ||(backTo pos (zdq rest env)).any (·.1)) ||false)=false;rw[BN];rfl) hk (Calls.evalArgs_plain h)
theorem LC{X:Cx}{x y z name qual:Str}{params:Arguments}{body e:Expr}{scope:Scope}{tb tf:TE}{ta:TA}{p pos:Pos}{k:Nat}{CX:BM}{E:XK}(hr:ib (k+1) X.A)(S:tZ x y scope)(hf:PE X (.Name z p) tf)(ha:PA X [e] ta)(NH:∀pins σ (H:Hp) (s:zdu) e s' a o,Inv X pins σ H s->H a=some (eW a o)->CX X.stack (wo H a) s E e s'->X.xe e s')
 (xR:∀(u:zdl) (cc c':zdk) (pm vS:zdl),bindArgs (zc7 name qual params body scope [(y,cc)] pm (.ref c') vS) ⟨[u],[]⟩=pure [(x,u)])
 (hb:∀(fo cc c':zdk) (s:zdu) (H:Hp),PE (CU CX X.prog X.w X.K X.mg X.base [x,y] qual scope fo (.ref c') [(y,cc)] X.A X.stack s H E) body tb)
 (he:zdq [e] X.env=(false,eval e X.env)::zdq [] X.env:=by rfl) (BN:(backTo pos (zdq [] X.env)).any (·.1)=false:=by rfl) :
 PE X (.Call (.Name z p) [e] [] pos) (RX y name qual params body scope tb tf ta):=by
 intro pins s σ H Q I h;refine wpAny_Call_Name_kw (eZ (hf pins s σ H _ I h) fun u0 s1 zqz=>?_);obtain⟨f,H1,I1,rf,h1⟩:=zqz;refine EW (P:=fun h=>∃fo cc c' pm vS,u0=.ref fo/\h.get? fo=some (zbR name qual params body scope [(y,cc)] pm c' vS)) (fun h ⟨fo,cc,c',pm,vS,eu,hg⟩=>?_) ?_ he BN
 ·subst eu;exact⟨.frame,.inl rfl,(PySem.W.Looks.ld (part:=none) hg).andThen .now⟩
 ·refine eZ (ha pos pins s1 σ H1 _ I1 h1) fun us s2 zqz=>?_;obtain⟨vs,H2,I2,r,a,fo,cc,mH,vc,ev,ef,la,hq⟩:=zqz;subst ev ef;obtain⟨u,rfl,ru⟩:=r.one;obtain rfl:u0=Value.ref fo:=rf;obtain⟨c',pm,vS,uc,oc,ovs,tk,g1,g2,d2,q2,g3,d3,rc⟩:=la;have e1:=eW.get I2.cM g1;have e2:=eW.get I2.cM g2;have e3:=eW.get I2.cM g3;refine⟨⟨fo,cc,c',pm,vS,rfl,e1⟩,?_⟩;have Za:cc ∉ dq X.stack:=fun hb=>by rw[I2.Aw cc hb] at g3;cases g3
  refine wpAny_call (codeAny_mono (OD (CX:=CX) (E:=E) S hr (I2.Nv.wo g3) e1 ⟨c',oc,ovs,tk,rfl,e2,d2,q2⟩ jh ⟨mH,e3,d3⟩ rc ru (xR u cc c' pm vS) (hb fo cc c' s2 (wo H2 cc)) hq) fun r s' xS=>?_);cases r with
  |error e=>exact NH pins σ H2 s2 e s' cc mH I2 g3 xS
  |ok fl=>
   cases fl with
   |ret u'=>exact I2.after (CE.back I2.cM g3 Za xS)
   |next=>exact False.elim xS
   |brk=>exact False.elim xS
   |cont=>exact False.elim xS
def TabOk (qual:Str) (lp:Pos) (H:Hp) (ps:Array zdl):Prop:=
 ps = #[]\/∃(c':zdk) (oc:Obj) (vs:Array zdl) (tk:Nat),ps = #[rawInt lp.line,rawInt lp.col,.ref c']/\H c'=some (eW c' oc)/\oc.data=.fields vs/\vs[1]?=some (.str qual tk)
structure ji(K:zaa)(mg:Str->Option zdl)(base:Heap)(c P:zdk):Prop where
 hd:PySem.W.CodeHd base c P
 bm:∃bm o,mg "__builtins__"=some (.ref bm)/\bm≠builtinsNs/\bm≠zdr/\base.get? bm=some o/\o.cls=.type "module"/\o.dict=some builtinsNs/\o.data=.plain
def Zb (cy:zdk->Prop) (P:zdk) (y qual:Str) (params:Arguments) (body:Expr) (scope:Scope) (lp:Pos):TE:=fun _ H Q=>∃ps,H P=some (.rE ps)/\TabOk qual lp H ps/\
 ∀(fo cc c':zdk) (pm vS:zdl) (oc:Obj) (vs DH:Array zdl) (tk:Nat) (H':Hp),cy cc->H fo=none->(∀b o,b≠P->H b=some o->H' b=some o)->(∀b,H' b≠none->H b≠none\/b=fo\/b=c')->
  H' fo=some (eW fo (zbR "<lambda>" qual params body scope [(y,cc)] pm c' vS))->H' c'=some (eW c' oc)->oc.data=.fields vs->vs[1]?=some (.str qual tk)->H' P=some (.rE DH)->TabOk qual lp H' DH->Q (.ref fo) H'
def gn (H:Hp) (P:zdk) (ps:Array zdl) (c':zdk) (oc:Obj) (fo:zdk) (ob:Obj):Hp:=upd (upd (upd H P (.rE ps)) c' (eW c' oc)) fo (eW fo ob)
section
variable{H:Hp}{P:zdk}{ps:Array zdl}{c':zdk}{oc:Obj}{fo:zdk}{ob:Obj}
theorem gn.keep(hF:H fo=none)(hc:H c'=some (eW c' oc)\/H c'=none){b:zdk}{o:HO}(n:b≠P)(e:H b=some o):gn H P ps c' oc fo ob b=some o:=by
 unfold gn;rw[aw (ai e hF)];by_cases z:b=c'
 ·subst z;rcases hc with q |q
  ·rw[ae,<- q,e]
  ·rw[q] at e;cases e
 ·rw[aw z,aw n,e]
theorem gn.back(hP:H P≠none){b:zdk}(n:gn H P ps c' oc fo ob b≠none):H b≠none\/b=fo\/b=c':=by
 by_cases z1:b=fo
 ·exact .inr (.inl z1)
 ·by_cases z2:b=c'
  ·exact .inr (.inr z2)
  ·by_cases z3:b=P
   ·rw[z3];exact .inl hP
   ·unfold gn at n;rw[aw z1,aw z2,aw z3] at n;exact .inl n
theorem gn.fo_:gn H P ps c' oc fo ob fo=some (eW fo ob):=ae
theorem gn.c_(n:c'≠fo):gn H P ps c' oc fo ob c'=some (eW c' oc):=by unfold gn;rw[aw n,ae]
theorem gn.P_(n1:P≠fo)(n2:P≠c'):gn H P ps c' oc fo ob P=some (.rE ps):=by unfold gn;rw[aw n1,aw n2,ae]
end
theorem Inv.lam{X:Cx}{pins:List (zdk×Obj)}{σ:St}{H:Hp}{s:zdu}{P fo c':zdk}{ps more:Array zdl}{h1:Heap}{oc ob:Obj}{tk:Nat}(I:Inv X pins σ H s)(hP:H P=some (.rE ps))(hx:Heap.ExtBut P s.heap h1)(gP:h1.get? P=some (zc8 (ps++more)))
 (Vo:s.heap.objs.size<=fo) (hc:H c'=some (eW c' oc)\/s.heap.objs.size<=c') (nf:c'≠fo) (gc:h1.get? c'=some oc) (gf:h1.get? fo=some ob):Inv X pins σ (gn H P (ps++more) c' oc fo ob) {s with heap:=h1,toks:=tk}:=by
 have nP:∀ {b:zdk},H b=none->b≠P:=fun {b} n z=>by rw[z,hP] at n;cases n
 have hF:H fo=none:=I.cM.fresh Vo;have cP:c'≠P:=fun z=>by
  rcases hc with e |e
  ·rw[z,hP] at e;cases e
  ·have:=I.cM.fresh e;rw[z,hP] at this;cases this
 have fP:fo≠P:=nP hF;have Xa:∀ {b:zdk},b≠fo->b≠c'->b≠P->gn H P (ps++more) c' oc fo ob b=H b:=fun n1 n2 n3=>by
  unfold gn;rw[aw n1,aw n2,aw n3]
 have GI:∀ {b:zdk} {u:HO},H b=some u->(∀DH,u≠.rE DH)->gn H P (ps++more) c' oc fo ob b=some u:=fun {b u} e nt=>by
  have n1:b≠fo:=ai e hF;have n3:b≠P:=fun z=>by rw[z,hP] at e;cases e;exact nt _ rfl
  by_cases n2:b=c'
  ·subst n2;rcases hc with z |z
   ·rw[e] at z;cases z;unfold gn;rw[aw n1,ae]
   ·rw[I.cM.fresh z] at e;cases e
  ·rw[Xa n1 n2 n3];exact e
 have Vp:∀ {b:zdk} {o:Obj},s.heap.get? b=some o->H b=none->gn H P (ps++more) c' oc fo ob b=none:=fun {b o} e n=>by
  have lt:=Heap.lt_size e;have n1:b≠fo:=fun z=>by rw[z] at lt;exact zzb (zaB lt Vo) (zaW _)
  have n2:b≠c':=fun z=>by
   rcases hc with q |q
   ·rw[z,q] at n;cases n
   ·rw[z] at lt;exact zzb (zaB lt q) (zaW _)
  rw[Xa n1 n2 (nP n)];exact n
 refine I.call (g':=s.gens) (d':=s.drawn) (t':=tk) (ch:=[]) ⟨fun b o e n _ _=>hx b o (nP n) e,fun b o e n _ _=>⟨o.slots,hx b o (nP n) e⟩,fun b o e n _=>Vp e n,fun b o e _=>?_,fun b xs e=>GI e (fun _ z=>by cases z),fun b o u e=>GI e (fun _ z=>by cases z),fun b DH e=>?_⟩ (fun b u q=>?_) I.bare (fun b z=>zzb z (by simp))
 ·by_cases z:b=P
  ·exact⟨_,by rw[z];exact gP⟩
  ·exact⟨o,hx b o z e⟩
 ·by_cases z:b=P
  ·subst z;rw[hP] at e;cases e;refine⟨more,?_⟩;unfold gn;rw[aw fP.symm,aw cP.symm,ae]
  ·refine⟨#[],?_⟩;have n1:b≠fo:=ai e hF;have n2:b≠c':=fun y=>by
    rcases hc with q |q
    ·rw[y,q] at e;cases e
    ·rw[y,I.cM.fresh q] at e;cases e
   rw[Xa n1 n2 z,e];simp
 ·by_cases z1:b=fo
  ·subst z1;unfold gn at q;rw[ae] at q;cases q;exact eW.ok gf
  ·by_cases z2:b=c'
   ·subst z2;unfold gn at q;rw[aw z1,ae] at q;cases q;exact eW.ok gc
   ·by_cases z3:b=P
    ·subst z3;unfold gn at q;rw[aw z1,aw z2,ae] at q;cases q;exact gP
    ·rw[Xa z1 z2 z3] at q;refine(I.cM b u q).jJ (fun c v hcv r=>hx c v ?_ r) (fun c r=>GI r (fun _ z=>by cases z)) fun c xs r=>GI r (fun _ z=>by cases z);rcases hcv with rfl |r2
     ·exact z3
     ·intro z;rw[z,hP] at r2;cases r2
theorem RY{X:Cx}{c P:zdk}{y qual:Str}{params:Arguments}{body:Expr}{scope:Scope}{lp:Pos}(B:ji X.K X.mg X.base c P)(Qb:X.env.code=.ref c)(hq:X.env.qual ++ "<lambda>"=qual)
 (hcy:∃cc,X.env.cells.lookup y=some cc/\closureFor scope X.env=pure [(y,cc)]) (Zc:defaultsOf params X.env=([],[])) :
 PE X (.Lambda params body scope lp) (Zb (fun cc=>X.env.cells.lookup y=some cc) P y qual params body scope lp):=by
 intro pins s σ H Q I h;obtain⟨ps,hP,tok,q⟩:=h;obtain⟨cc,RZ,Tj⟩:=hcy;have gP:s.heap.get? P=some (zc8 ps):=I.cM P _ hP;have hgP:zdr≠P:=fun z=>by
  obtain⟨o,es,ep,e,_⟩:=I.mod.glob;have:=(I.bs _ _ e).2;rw[z,hP] at this;cases this
 have hb:s.heap.BuiltinsAt X.mg P:=by
  obtain⟨bm,o,e1,e2,e3,e4,r⟩:=B.bm;have nbP:bm≠P:=fun z=>by
   have:=(I.bs _ _ e4).2;rw[z,hP] at this;cases this
  exact⟨bm,o,e1,e2,e3,nbP,(I.bs _ _ e4).1,r⟩
 have C:PySem.W.CodeHd s.heap c P:=B.hd.keeps I.bk;have tri:TriplesOk ps.toList:=by
  rcases tok with rfl |⟨c',oc,vs,tk,rfl,_⟩
  ·trivial
  ·exact trivial
 have nP:∀ {b:zdk},H b=none->b≠P:=fun {b} n z=>by rw[z,hP] at n;cases n
 refine PySem.W.kla_eval Zc ?_;rw[hq];rcases tok with rfl |⟨c',oc,vs,tk,rfl,hc,d1,d2⟩
 ·refine PySem.W.kla_makeFunction Tj I.ok.glob (I.mod.glob.keeps I.bk) Qb C gP tri rfl hgP hb fun c' vS h' tk hx Vq oC LD htb=>?_;obtain⟨c2,oc,vs,t2,e2,Ta,d1,d2⟩:=LD;cases e2;have ge:s.heap.objs.size<=h'.objs.size:=zco (zbP Vq oC);have Qc:H h'.objs.size=none:=I.cM.fresh ge;have nc:H c'=none:=I.cM.fresh Vq;have R0:c'≠h'.objs.size:=zaD oC;have J:=I.lam (more:=#[rawInt lp.line,rawInt lp.col,.ref c']) (tk:=tk) hP (fun b o n e=>Heap.get?_push_of_some _ (hx b o n e)) (Heap.get?_push_of_some _ htb) ge (.inr Vq) R0 (Heap.get?_push_of_some _ Ta) (Heap.get?_push_size h' (o:=zbR "<lambda>" qual params body scope [(y,cc)] ((X.mg "__name__").getD .none) c' vS) rfl);exact⟨.ref h'.objs.size,_,J,rfl,q _ cc c' _ vS oc vs _ t2 _ RZ Qc (fun b o n e=>gn.keep Qc (.inr nc) n e) (fun b n=>gn.back (by rw[hP];simp) n) gn.fo_ (gn.c_ R0) d1 d2 (gn.P_ (nP Qc).symm (nP nc).symm) (.inr ⟨c',oc,vs,t2,by simp,gn.c_ R0,d1,d2⟩)⟩
 ·refine PySem.W.kla_makeFunctionHit (cv:=.ref c') Tj I.ok.glob (I.mod.glob.keeps I.bk) Qb C gP tri ?_ hb fun vS h' Vb hk hsz=>?_
  ·exact codeAmong_snoc [] trivial rfl
  ·have Qc:H h'.objs.size=none:=I.cM.fresh hsz;have R0:c'≠h'.objs.size:=ai hc Qc;have cP:c'≠P:=fun z=>by rw[z,hP] at hc;cases hc
   have J:=I.lam (more:=#[]) (tk:=Vb) hP (fun b o n e=>Heap.get?_push_of_some _ (hk b o e)) (by simpa using Heap.get?_push_of_some _ (hk _ _ gP)) hsz (.inl hc) R0 (Heap.get?_push_of_some _ (hk _ _ (eW.get I.cM hc))) (Heap.get?_push_size h' (o:=zbR "<lambda>" qual params body scope [(y,cc)] ((X.mg "__name__").getD .none) c' vS) rfl);exact⟨.ref h'.objs.size,_,J,rfl,q _ cc c' _ vS oc vs _ tk _ RZ Qc (fun b o n e=>gn.keep Qc (.inl hc) n e) (fun b n=>gn.back (by rw[hP];simp) n) gn.fo_ (gn.c_ R0) d1 d2 (gn.P_ (nP Qc).symm cP.symm) (.inr ⟨c',oc,vs,tk,by simp,gn.c_ R0,d1,d2⟩)⟩
theorem rM.add{P:zdw}{w:zdm}{K:zaa}{mg:Str->Option zdl}{base:Heap}{A:zdv}{outer:List Env}{s:zdu}{H:Hp}{a:zdk}{o:Obj}(e:rM P w K mg base A outer s H)(ha:H a=none)(hb:base.get? a=none)(hf:a ∉ dq outer)(g:s.heap.get? a=some o):rM P w K mg base A outer s (upd H a (eW a o)):=
 ⟨e.frames,e.mod,fun b ob hB=>⟨(e.bs b ob hB).1,by rw[aw (fun z=>by rw[z,hb] at hB;cases hB)];exact(e.bs b ob hB).2⟩,e.BX,e.qD,fun b hB=>by rw[aw (fun z:b=a=>hf (by rw[<- z];exact hB))];exact e.MU b hB,e.cM.add ha g,e.bare⟩
theorem CE.out{outer:List Env}{P:zdw}{w:zdm}{H:Hp}{s s':zdu}{Q:VK}{u:zdl}{a:zdk}{o:Obj}(ha:H a=none)(g:s.heap.get? a=some o)(h:CE outer P w (upd H a (eW a o)) s (fun v H3=>H3 a=some (eW a o)/\Q v (wo H3 a)) u s'):CE outer P w H s Q u s':=by
 obtain⟨v,H3,os,bare,un,OE,rv,h3,q⟩:=h;have g3:=eW.get OE h3;refine⟨v,wo H3 a,os,bare,⟨fun b ob e n hb hx=>?_,fun b ob e n hb hx=>?_,fun b ob e n hx=>?_,un.there,fun b xs e=>?_,fun b ob x e=>?_,fun b ps e=>?_⟩,OE.wo h3,rv,q⟩
 ·by_cases z:b=a
  ·rw[z] at e ⊢;rw[g] at e;cases e;exact g3
  ·exact un.keep b ob e (by rw[aw z];exact n) hb hx
 ·by_cases z:b=a
  ·rw[z] at e ⊢;rw[g] at e;cases e;exact⟨o.slots,g3⟩
  ·exact un.slot b ob e (by rw[aw z];exact n) hb hx
 ·by_cases z:b=a
  ·rw[z];exact jh
  ·rw[eX z];exact un.free b ob e (by rw[aw z];exact n) hx
 ·have ne:b≠a:=ai e ha;rw[eX ne];exact un.w4 b xs (by rw[aw ne];exact e)
 ·have ne:b≠a:=ai e ha;rw[eX ne];exact un.v9 b ob x (by rw[aw ne];exact e)
 ·have ne:b≠a:=ai e ha;rw[eX ne];exact un.wb b ps (by rw[aw ne];exact e)
def LF (cy:zdk->Prop) (i:Nat) (sp:Sp) (E:XK) (t:TA):TE:=fun σ H Q=>t σ H fun vs H1=>∃vc,σ[i]?=some (some vc)/\∀(cc:zdk) (mH:Obj) (uc:zdl),cy cc->H1 cc=none->mH.data=.cell (some uc)->RelV vc uc->
 sp vs (upd H1 cc (eW cc mH)) (fun v H2=>H2 cc=some (eW cc mH)/\Q v (wo H2 cc)) E
theorem LG{X:Cx}{CX:BM}{k i:Nat}{f:zdk}{fd:zdt}{ps:List Str}{sp:Sp}{E:XK}{x y:Str}{p pos:Pos}{e:Expr}{es:List Expr}{t:TA}(F:bJ X.prog X.w X.K X.mg X.base CX k f fd ps sp)(hr:ib k X.A)(hg:Gl X x)(hm:X.mg x=some (.ref f))(hk:zbv X.K (.ref f)=true)(hb:Binds X.K fd ps [])
 (NH:∀pins σ (H:Hp) (s:zdu) e s' a o,Inv X pins σ H s->H a=none->s.heap.get? a=some o->CX X.stack (upd H a (eW a o)) s E e s'->X.xe e s')
 (ha:PA X (e::es) t) (hN:X.N[i]?=some y) (hy:X.env.scope.names.lookup y=some .cell) (QQ:X.fn y=true) (JH:(x==("__debug__":Str))=false:=by decide) (he:zdq (e::es) X.env=(false,eval e X.env)::zdq es X.env:=by rfl) (BN:(backTo pos (zdq es X.env)).any (·.1)=false:=by rfl) :
 PE X (.Call (.Name x p) (e::es) [] pos) (LF (fun cc=>X.env.cells.lookup y=some cc) i sp E t):=by
 intro pins s σ H Q I h;refine wpAny_Call_Name_kw (wH I hg hm ?_ JH);refine zcz (h₀:=X.base) I.ok.mod.TZ hk (eZ (ha pos pins s σ H _ I h) fun us s1 ⟨vs,H1,I1,r,vc,hσ,q⟩=>⟨I1.wG,?_⟩) he BN;obtain⟨m,hn,hl⟩:=I1.loc;obtain⟨uc,rc,lk⟩:=hl i y vc hN hσ (.inr (.inl hy));rcases lk with ⟨JY,_⟩ |⟨_,cc,RZ,mH,Zd,dcc⟩
 ·have JY:X.env.scope.names.lookup y=some .local:=JY;rw[hy] at JY;cases JY
 have Qd:=I1.oB y cc RZ;have Nl:=I1.ok.Nl y cc QQ RZ;have bcc:X.base.get? cc=none:=Heap.get?_none_of_le (zaC I1.ok.BX Nl);have Za:cc ∉ dq X.stack:=fun hb=>by
  rcases zag.mp (I1.w5 cc hb) with z |z
  ·exact I1.Pf y cc RZ z
  ·obtain⟨_,o,ho,_⟩:=I1.ok.qD.mem z;exact zzb (zaB (Heap.lt_size ho) Nl) (zaW _)
 have R1:=q cc mH uc RZ Qd dcc rc;have hl':(us++[]).length=ps.length:=by rw[zav,<- r.length];exact F.len _ _ _ _ R1
 have wQ:=hb s1 us I1.wG hl';rw[zav] at wQ;refine wpAny_call (codeAny_mono (F.run X.A X.stack s1 (upd H1 cc (eW cc mH)) ⟨us,[]⟩ us vs _ E hr (I1.Nv.add Qd bcc Za Zd) wQ r R1) fun r s' xS=>?_);cases r with
 |error e=>exact NH pins σ H1 s1 e s' cc mH I1 Qd Zd xS
 |ok fl=>
  cases fl with
  |ret u'=>exact I1.after (CE.out Qd Zd xS)
  |next=>exact False.elim xS
  |brk=>exact False.elim xS
  |cont=>exact False.elim xS
theorem ID{P:zdw}{w:zdm}{K:zaa}{mg mb:Str->Option zdl}{CX:BM}{k:Nat}{fa a c Pt:zdk}{fd:zdt}{x:Str}{sp:Sp}{s₁:zdu}{vs:List zdl}{ns:List Int}
 (KX:K.In s₁.heap) (PB:s₁.heap.Ns zdr mg) (hb:s₁.heap.Ns builtinsNs mb) (Ze:∀x:Str,x≠"__name__"->mb x=bootBuiltins x) (Zf:s₁.heap.NoLimit) (hg:s₁.gens = #[])
 (ha:s₁.heap.get? a=some {cls:=.type "list",data:=.seq vs.toArray}) (hi:IntsAre vs ns) (hl:ns.length<=zds) (hr:ib k callerA) (hd:PySem.W.CodeHd s₁.heap c Pt) (BP:s₁.heap.get? Pt=some (zc8 #[])) (Vr:K.lookup Pt=none)
 (Zg:∃bm o,mg "__builtins__"=some (.ref bm)/\bm≠builtinsNs/\bm≠zdr/\s₁.heap.get? bm=some o/\o.cls=.type "module"/\o.dict=some builtinsNs/\o.data=.plain)
 (F:∀base:Heap,K.In base->base.Ns zdr mg->ji K mg base c Pt->bJ P w K mg base CX k fa fd [x] sp) (xR:∀(s:zdu) (u:zdl),BindsTo s fd ⟨[u],[]⟩ [(x,u)])
 (MW:∀H:Hp,i7 K H a (ns.map V.int)->H Pt=some (.rE #[])->sp [.ref a] H (fun v _=>v=.bl true) fun _ _ _=>False)
 (Zh:∀H e s',CX [] H s₁ (fun _ _ _=>False) e s'->False) :
 codeAny (model P w) callerA (.call (.ref fa) ⟨[.ref a],[]⟩) (fun r s'=>r=.ok (.ret (.bool true))/\OldK s₁.heap s'.heap/\s'.os=s₁.os/\AllBare s'.gens) s₁:=by
 have rv:=zH hi;have Zi:=hi.length;have Xb:a≠Pt:=fun z=>by rw[z,BP] at ha;cases ha
 obtain⟨H,Zj,Zk,Xc,hS,hK⟩:∃H:Hp,H Pt=some (.rE #[])/\(H a=none\/H a=some (.FC {cls:=.type "list",data:=.seq vs.toArray} (.lst (ns.map V.int))))/\(∀b,b≠Pt->b≠a->H b=none)/\i7 K H a (ns.map V.int)/\(H a≠none->K.lookup a=none):=by
  cases hk:K.lookup a with
  |some o=>
   have e:=KX a o hk;rw[ha] at e;cases e;exact⟨fun b=>if b=Pt then some (.rE #[]) else none,zzp rfl,.inl (zzn Xb),fun b n _=>zzn n,.inr ⟨_,vs.toArray,_,hk,rfl,rfl,rfl,by rw[zas,Zi];exact hl,by simpa using rv⟩,fun z=>zzb (zzn Xb) z⟩
  |none=>exact⟨fun b=>if b=Pt then some (.rE #[]) else if b=a then some (.FC {cls:=.type "list",data:=.seq vs.toArray} (.lst (ns.map V.int))) else none,zzp rfl,.inr ((zzn Xb).trans (zzp rfl)),fun b n1 n2=>(zzn n1).trans (zzn n2),.inl (.inr ⟨_,(zzn Xb).trans (zzp rfl)⟩),fun _=>rfl⟩
 have cM:oA P w H s₁.heap:=fun b u q=>by
  by_cases z:b=Pt
  ·subst z;rw[Zj] at q;cases q;exact BP
  ·by_cases z2:b=a
   ·subst z2;rcases Zk with e |e
    ·rw[e] at q;cases q
    ·rw[e] at q;cases q;exact⟨ha,by rw[zad];exact hl,vs,_,rv,ha⟩
   ·rw[Xc b z z2] at q;cases q
 have free:∀ {b:zdk} {o:Obj},s₁.heap.get? b=some o->(∀xs n,o.data≠.seq xs n)->(∀fs,o.data≠.fields fs\/o.cls≠.none)->H b=none:=fun {b o} e n1 n2=>by
  refine Xc b (fun z=>?_) (fun z=>?_)
  ·rw[z,BP] at e;cases e;exact(n2 #[]).elim (fun q=>q rfl) fun q=>q rfl
  ·rw[z,ha] at e;cases e;exact n1 _ _ rfl
 have Xd:∀ {b:zdk} {m:Str->Option zdl},s₁.heap.Ns b m->(Av s₁.heap H).Ns b m:=fun {b m} ⟨o,es,ep,e,d,r⟩=>⟨o,es,ep,sP e (free e (fun _ _ z=>by rw[d] at z;cases z) fun _=>.inl fun z=>by rw[d] at z;cases z),d,r⟩
 have hKb:K.In (Av s₁.heap H):=fun b o e=>sP (KX b o e) (by
  by_cases z:b=Pt
  ·rw[z,Vr] at e;cases e
  ·by_cases z2:b=a
   ·rcases Zk with q |q
    ·rw[z2];exact q
    ·rw[z2,hK (by rw[q];simp)] at e;cases e
   ·exact Xc b z z2)
 have hM:Mod K mg (Av s₁.heap H):=⟨hKb,Xd PB,⟨mb,Xd hb,Ze⟩,let ⟨mc,h1,h2⟩:=Zf;⟨mc,Xd h1,h2⟩⟩
 have e0:rM P w K mg (Av s₁.heap H) callerA [] s₁ H:=⟨rfl,hM,fun b o e=>Nk e,Nat.le_of_eq (G9 _ _),trivial,fun b hb=>zzb (show b∈([]:List zdk) from hb) (by simp),cM,.of_eq hg⟩
 have hL:ji K mg (Av s₁.heap H) c Pt:=by
  refine⟨?_,?_⟩
  ·obtain⟨o,Zl,file,tf,flags,tg,inF,text,tt,e1,r1,r2,r⟩:=hd;exact⟨o,Zl,file,tf,flags,tg,inF,text,tt,sP e1 (free e1 (fun _ _ z=>by rw[r2] at z;cases z) fun _=>.inr fun z=>by rw[r1] at z;cases z),r1,r2,r⟩
  ·obtain⟨bm,o,e1,e2,e3,e4,r1,r2,r3⟩:=Zg;exact⟨bm,o,e1,e2,e3,sP e4 (free e4 (fun _ _ z=>by rw[r3] at z;cases z) fun _=>.inl fun z=>by rw[r3] at z;cases z),r1,r2,r3⟩
 refine codeAny_mono ((F _ hKb (Xd PB) hL).run callerA [] s₁ H ⟨[.ref a],[]⟩ [.ref a] [.ref a] _ _ hr e0 (xR s₁ (.ref a)) (.cons rfl .nil) (MW H hS Zj)) fun r s' h=>?_;cases r with
 |error e=>exact(Zh H e s' h).elim
 |ok fl=>
  cases fl with
  |next=>exact False.elim h
  |brk=>exact False.elim h
  |cont=>exact False.elim h
  |ret u=>
   obtain⟨v,H',os,bare,un,Vs,r',q⟩:=h;have q':v=.bl true:=q;subst q';obtain rfl:u=Value.bool true:=r';refine⟨rfl,⟨fun b o e=>?_,fun b o e=>un.there b o e (by simp)⟩,os,bare⟩;by_cases z:b=Pt
   ·subst z;rw[BP] at e;cases e;obtain⟨more,em⟩:=un.wb b _ Zj;have g':=Vs b _ em;obtain⟨oc,Zl,file,tf,flags,tg,inF,text,tt,e1,r1,r2,r3,_⟩:=hd;exact .inr (.inl ⟨⟨c,oc,Zl,e1,r1,r2,r3⟩,rfl, #[],more,rfl,g'⟩)
   ·refine .inl ?_;by_cases z2:b=a
    ·subst z2;rcases Zk with n |n
     ·exact un.keep b o e n (by intro z;exact zzb (show b∈([]:List zdk) from z) (by simp)) (by simp)
     ·have z3:=un.v9 b _ _ n;obtain⟨e2,_⟩:=Vs b _ z3;rw[ha] at e;cases e;exact e2
    ·exact un.keep b o e (Xc b z z2) (by intro z;exact zzb (show b∈([]:List zdk) from z) (by simp)) (by simp)
theorem LH{l:PySem.W.OpenLaw}{n k:Nat}{q:zdw}{loose:List Str}{XP:(Str->Option zdl)->Heap->Prop}{YP:zdm->Heap->Prop}{d dF:DefRec}{K:Params->zaa}{CX:zdm->BM}{sp:zdm->Sp}{x fn:Str}{c Pt:zdk}
 (hn:l.most=some n) (Q6:n<=zds) (Uz:d.params.defaults=[]) (hr:ib k callerA)
 (hY:∀(w:zdm) (h:Heap),YP w h->(K w.params).In h) (LD:(recsOf q).find? (fun e=>e.name==fn)=some dF) (LI:∀w:zdm,zci (K w.params) fn=some (c,Pt)) (Vr:∀w:zdm,(K w.params).lookup Pt=none)
 (F:∀(w:zdm) (mg:Str->Option zdl) (fa:zdk) (h:Heap),(K w.params).In h->h.Ns zdr mg->mg d.name=some (.ref fa)->
  ∃fd:zdt,(∀(s:zdu) (u:zdl),BindsTo s fd ⟨[u],[]⟩ [(x,u)])/\
   ∀base:Heap,(K w.params).In base->base.Ns zdr mg->ji (K w.params) mg base c Pt->bJ l.prog w (K w.params) mg base (CX w) k fa fd [x] (sp w))
 (MW:∀(w:zdm) (H:Hp) (a:zdk) (ns:List Int),ns.length<=n->i7 (K w.params) H a (ns.map V.int)->H Pt=some (.rE #[])->sp w [.ref a] H (fun v _=>v=.bl true) fun _ _ _=>False)
 (Zh:∀(w:zdm) (H:Hp) (s:zdu) (e:zdl) (s':zdu),CX w [] H s (fun _ _ _=>False) e s'->False) :
 PySem.W.WalkO q loose XP YP l.row.toRowW d [] (fun f vs=>PySem.call f vs):=by
 refine Att.B7 hn Uz fun w s₀ s₁ mg mb fa o pm cd doc a vs ns G Y ho hd B0 UA Rn hints hlen hg=>?_;have KX:=hY w _ Y;obtain⟨fd,hb,hF⟩:=F w mg fa _ KX G.T.g UA;obtain⟨W6,hd2⟩:=PySem.W.tab_of G.T KX LD (LI w);have Zg:∃bm o,mg "__builtins__"=some (.ref bm)/\bm≠builtinsNs/\bm≠zdr/\s₁.heap.get? bm=some o/\o.cls=.type "module"/\o.dict=some builtinsNs/\o.data=.plain:=by
  obtain⟨bm,ob,b1,b2,b3,b4,b5,b6⟩:=G.T.bmain;refine⟨bm,ob,b1,b2,fun z=>?_,b3,b4,b5,b6⟩;obtain⟨o,es,ep,e,hd,_⟩:=G.T.g;rw[z,e] at b3;cases b3;rw[hd] at b6;cases b6
 exact ID KX G.T.g G.T.b G.T.builtins G.T.nolimit hg Rn hints (zaC hlen Q6) hr W6 hd2 (Vr w) Zg hF hb (fun H hS hP=>MW w H a ns hlen hS hP) fun H e s'=>Zh w H s₁ e s'
def vk (K:zaa) (f c:zdk):Prop:=∀oc od fd FR,K.lookup f=some ⟨oc,od,.func fd,FR⟩->fd.code=.ref c
theorem LJ{K:zaa}{x:Str}{f c P:zdk}(h:zci K x=some (c,P))(hn:zaN K zdr x=some (some (.ref f))):vk K f c:=by
 intro oc od fd FR hl;unfold zci at h;rw[hn] at h;simp only[hl] at h;split at h
 ·rename_i c2 hc;split at h
  ·split at h
   ·cases h;exact hc
   ·cases h
  ·cases h
 ·cases h
section
variable{P:zdw}{w:zdm}{K:zaa}{mg:Str->Option zdl}{base:Heap}
theorem Jg.okC{x qual:Str}{st:Stmt}{f c:zdk}{fd:zdt}{N ps:List Str}{k:Nat}{sp:Sp}(F:Jg K x qual st f fd)(S:a8 N ps (aJ st))(hc:vk K f c)(len:∀vs H Q E,sp vs H Q E->vs.length=ps.length)
 (sV:∀(A:zdv) (outer:List Env) (s:zdu) (H:Hp) (vs:List V) (Q:VK) (E:XK),ib k (A.deeper (envOfC qual (aJ st) s.heap.objs.size f (.ref c)))->sp vs H Q E->
  ∃t σ,DN (m7 dw P w K mg base N qual (aJ st) f (.ref c) A outer s H E).DQ (hC st) t/\start N vs=σ/\t {nx:=fun _ H'=>Q .cC H',rt:=Q} σ H):bJ P w K mg base dw (k+1) f fd ps sp:=by
 obtain⟨oc,od,kV,doc,pm,an,eS,ct,FR,rfl,lk,B0⟩:=F.ex;have e:eS=.ref c:=hc _ _ _ _ lk;subst e;refine Pp lk B0 S len fun A outer s H vs Q E hr MW=>?_;obtain⟨t,σ,h,e,q⟩:=sV A outer s H vs Q E hr MW;subst e;exact⟨t,h.DQ,q⟩
end
def iw (st:Stmt):Expr:=match hC st with
 |[.Return (some (.Call _ [_,l] _ _)) _]=>l
 |_=>.Constant .none 0 ⟨0,0,0,0⟩
def EX:Expr->Arguments
 |.Lambda p _ _ _=>p
 |_=>{posonlyargs:=[],args:=[],vararg:=none,kwonlyargs:=[],kw_defaults:=[],kwarg:=none,defaults:=[]}
def wR:Expr->Expr
 |.Lambda _ b _ _=>b
 |e=>e
def mI:Expr->Scope
 |.Lambda _ _ s _=>s
 |_=>{kind:=.function,names:=[],isGenerator:=false,isCoroutine:=false}
def rX:Expr->Pos
 |.Lambda _ _ _ p=>p
 |_=>⟨0,0,0,0⟩
def IE (y qual:Str) (l:Expr) (H:Hp) (fo cc:zdk) (mH:Obj) (vc:V):Prop:=Qa y "<lambda>" qual (EX l) (wR l) (mI l) H fo cc mH vc
def cR (pr:PG.Prog) (s:b7):List b7:=if s.1=0 then [] else if dc pr.body s.1=true then (zaH 10).map fun f=>((bX pr s.1 s.2 (f:Nat)).1.getD s) else (bX pr s.1 s.2 0).1.toList
theorem t9{pr:PG.Prog}(d:iI pr){s:b7}(h:cO pr s):∀x∈cR pr s,cO pr x:=by
 intro x hx;unfold cR at hx;split at hx
 ·cases hx
 ·rename_i h0;split at hx
  ·rename_i ha;obtain⟨f,_,rfl⟩:=zaF.mp hx;cases e:(bX pr s.1 s.2 (f:Nat)).1 with
   |none=>exact h
   |some y=>exact h.next d h0 e
  ·rw[Option.mem_toList] at hx;exact h.next d h0 hx
theorem cE.upL{K:zaa}{H H':Hp}{D a:zdk}{row:Int}{vals:List Int}{ys:List V}(h:cE K H a row vals)(hD:H D=some (.lst ys))(u:aZ D H H'):cE K H' a row vals:=let ⟨va,h1,h2⟩:=h;⟨va,h1.vg hD u,h2.vg hD u⟩
theorem nL{K:zaa}{H H':Hp}{g:List b7}{us:List V}(h:iK K H g us)(f:∀a row vals,cE K H a row vals->cE K H' a row vals):iK K H' g us:=Paired.Au h fun _ _ ⟨a,e,q⟩=>⟨a,e,f _ _ _ q⟩
theorem CV{K:zaa}{H:Hp}:∀ {g:List b7} {us:List V} {x:b7} {a:zdk},iK K H g us->cE K H a x.1 x.2->iK K H (g++[x]) (us++[.ref a])
 |[],_,_,_,h,q=>by cases h;exact .cons ⟨_,rfl,q⟩ .nil
 |_::_,_,_,_,h,q=>by
  cases h with
  |cons a b=>exact .cons a (CV b q)
section
variable(P:zdw)(w:zdm)(K:zaa)(CC:zdk)
def LK:Sp:=fun vs H Q _=>∃(ch sa:zdk) (pr:PG.Prog) (s:b7),vs=[.ref ch,.ref sa]/\wL K CC H ch pr/\iI pr/\cE K H sa s.1 s.2/\cO pr s/\
 ∀l us H',aq H H'->H l=none->H' l=some (.lst us)->iK K H' (cR pr s) us->Q (.ref l) H'
end
abbrev iz:=List (b7×List Int)
def lX (led:b7->List b7):Nat->iz->b7->List Int->iz×Option (List b7)
 |0,f,_,_=>(f,none)
 |n+1,f,s,g=>if s∈f.map (·.1) then (f,none) else match led s with
  |[t]=>lX led n (f++[(s,g)]) t g
  |l=>(f++[(s,g)],some l)
def eQ (K:zaa) (H:Hp) (f:iz) (ax:List (kT×V)):Prop:=Paired (fun (x:b7×List Int) (kv:kT×V)=>kv.1=nJ x.1/\∃a,kv.2=.ref a/\bQ K H a (x.2.map V.int)) f ax
section
variable{K:zaa}{H H':Hp}
theorem eQ.imp{f:iz}{ax:List (kT×V)}(h:eQ K H f ax)(t:∀a xs,bQ K H a xs->bQ K H' a xs):eQ K H' f ax:=Paired.Au h fun _ _ ⟨e,a,e2,q⟩=>⟨e,a,e2,t _ _ q⟩
theorem eQ.Xe:∀ {f:iz} {ax:List (kT×V)},eQ K H f ax->∀s:b7,(cm ax (nJ s)).isSome=decide (s∈f.map (·.1))
 |[],_,h,s=>by cases h;rfl
 |x::r,_,h,s=>by
  cases h with
  |@cons _ kv _ _ a b=>
   obtain⟨k,v⟩:=kv;obtain⟨e,_⟩:=a;simp only at e;subst e;by_cases z:x.1=s
   ·rw[cu (by rw[z]),zal,z];simp
   ·rw[cw (fun y=>z (xP y)),eQ.Xe b s,zal];simp[Ne.symm z]
theorem eQ.len{f:iz}{ax:List (kT×V)}(h:eQ K H f ax):ax.length=f.length:=(Paired.length h).symm
theorem eQ.put{f:iz}{ax:List (kT×V)}(h:eQ K H f ax){s:b7}{g:List Int}{a:zdk}(n:s ∉ f.map (·.1))(q:bQ K H a (g.map V.int)):eQ K H (f++[(s,g)]) (putK ax (nJ s) (.ref a)):=by
 unfold putK;rw[kA,h.Xe,decide_eq_false n,zzn zai];exact Paired.snoc h ⟨rfl,a,rfl,q⟩
end
section
variable(P:zdw)(w:zdm)(K:zaa)(CC:zdk)(l:Expr)(qual:Str)
def LL (H0 H:Hp) (us:List V) (gv:V):Option (List b7)->Prop
 |none=>us=[]
 |some Xf=>∃ta la uL,us=[.ref ta]/\bQ K H ta [gv,.ref la]/\H0 la=none/\H la=some (.lst uL)/\iK K H Xf uL
def R3:Sp:=fun vs H Q _=>∃(sa fo D ga cc ch:zdk) (mH:Obj) (pr:PG.Prog) (s:b7) (f:iz) (g:List Int) (ax:List (kT×V)),vs=[.ref sa,.ref fo,.ref ga,.ref D]/\wL K CC H ch pr/\iI pr/\cE K H sa s.1 s.2/\cO pr s/\IE "chart" qual l (wo H D) fo cc mH (.ref ch)/\
 bQ K H ga (g.map V.int)/\DS jO P w K H D ax/\eQ K H f ax/\(f.map (·.1)).Nodup/\(∀x∈f,cO pr x.1)/\bq pr<2000/\
 ∀L us Vt H',aZ D H H'->H L=none->H' L=some (.lst us)->DS jO P w K H' D Vt->eQ K H' (lX (cR pr) (bq pr+1) f s g).1 Vt->LL K H H' us (.ref ga) (lX (cR pr) (bq pr+1) f s g).2->Q (.ref L) H'
end
theorem IE.mono{y qual:Str}{l:Expr}{H H':Hp}{fo cc:zdk}{mH:Obj}{vc:V}(h:IE y qual l H fo cc mH vc)(s:aq H H'):IE y qual l H' fo cc mH vc:=by
 obtain⟨c',pm,vS,uc,oc,vs,tk,g1,g2,d2,q2,g3,d3,rc⟩:=h;exact⟨c',pm,vS,uc,oc,vs,tk,s _ _ g1,s _ _ g2,d2,q2,s _ _ g3,d3,rc⟩
theorem LM{H H':Hp}{D:zdk}(u:aZ D H H'):aq (wo H D) H':=fun b o e=>by
 by_cases z:b=D
 ·subst z;rw[jh] at e;cases e
 ·rw[eX z] at e;exact u b o z e
theorem pM{H:Hp}{D:zdk}{o:HO}:wo (upd H D o) D=wo H D:=funext fun b=>by
 by_cases z:b=D
 ·subst z;rw[jh,jh]
 ·rw[eX z,eX z,aw z]
theorem wU{H H':Hp}{D:zdk}(s:aq H H')(n:H D=none):aq H (wo H' D):=fun b o e=>by
 rw[eX (ai e n)];exact s b o e
theorem OF{H H':Hp}{D:zdk}(s:aq H H'):aq (wo H D) (wo H' D):=fun b o e=>by
 by_cases z:b=D
 ·subst z;rw[jh] at e;cases e
 ·rw[eX z] at e ⊢;exact s b o e
theorem vT{H:Hp}{D:zdk}:aq (wo H D) H:=LM (.refl _ _)
theorem R4{H H':Hp}{D b:zdk}(u:aZ D H H'):aZ D (wo H b) (wo H' b):=fun a o n e=>by
 by_cases z:a=b
 ·subst z;rw[jh] at e;cases e
 ·rw[eX z] at e ⊢;exact u a o n e
theorem wV{H:Hp}{a:zdk}:aZ a H (wo H a):=fun b o n e=>by rw[eX n];exact e
theorem OG{H H3:Hp}{a:zdk}{o:Obj}(ha:H a=some (eW a o))(s:aq (wo H a) H3):aq H (upd H3 a (eW a o)):=fun b u e=>by
 by_cases z:b=a
 ·subst z;rw[ha] at e;cases e;exact ae
 ·rw[aw z];exact s b u (by rw[eX z];exact e)
section
variable{K:zaa}{H H':Hp}{p:zdk}{φ:Heap->Prop}
mutual
theorem qv(h:H p=some (.ext φ))(u:aZ p H H'):∀(d:Dp) (v:V),Rep K H d v->Rep K H' d v
 |.cC,v,r=>by rw[Rep.qi] at r ⊢;exact r
 |.bl b,v,r=>by rw[Rep.lQ] at r ⊢;exact r
 |.int b,v,r=>by rw[Rep.bt] at r ⊢;exact r
 |.str b,v,r=>by rw[Rep.bA] at r ⊢;exact r
 |.lst l,v,r=>by
  rw[Rep.bL] at r ⊢;obtain⟨a,ys,rfl,q,rs⟩:=r;refine⟨a,ys,rfl,?_,mJ h u l ys rs⟩;rcases q with (q |⟨o,q⟩) |q
  ·exact .inl (.inl (u _ _ (bU q h (by intro z;cases z)) q))
  ·exact .inl (.inr ⟨o,u _ _ (bU q h (by intro z;cases z)) q⟩)
  ·exact .inr q
 |.tup l,v,r=>by
  rw[Rep.bg] at r ⊢;obtain⟨a,ys,rfl,q,rs⟩:=r;exact⟨a,ys,rfl,q.lW h u,mJ h u l ys rs⟩
theorem mJ(h:H p=some (.ext φ))(u:aZ p H H'):∀(ds:List Dp) (vs:List V),aN K H ds vs->aN K H' ds vs
 |[],vs,r=>by rw[aN.br] at r ⊢;exact r
 |d::ds,vs,r=>by
  rw[aN.aI] at r ⊢;obtain⟨v,t,rfl,r1,r2⟩:=r;exact⟨v,t,rfl,qv h u d v r1,mJ h u ds t r2⟩
end
theorem wL.ext{C ch:zdk}{pr:PG.Prog}(c:wL K C H ch pr)(h:H p=some (.ext φ))(u:aZ p H H'):wL K C H' ch pr:=by
 obtain⟨dx,nl,sd,fa,va,st,wy,us,ws,h1,h2,h3,h4,h5,h6,h7,h8,h9,Le,M1,PY⟩:=c.at_;have k:∀ {b:zdk} {o:HO},H b=some o->(∀ψ,o≠.ext ψ)->H' b=some o:=fun {b o} e n=>u _ _ (bU e h (n φ)) e;exact⟨⟨dx,nl,sd,fa,va,st,wy,us,ws,k h1 (fun _ z=>by cases z),k h2 (fun _ z=>by cases z),k h3 (fun _ z=>by cases z),k h4 (fun _ z=>by cases z),k h5 (fun _ z=>by cases z),k h6 (fun _ z=>by cases z),h7,k h8 (fun _ z=>by cases z),mJ h u _ _ h9,Le,k M1 (fun _ z=>by cases z),fun i hi=>let ⟨q,e,r⟩:=PY i hi;⟨q,e,r.lW h u⟩⟩⟩
end
end L2
namespace L2
open PG
open PySem PySem.Spec PyProof.Rows
def oH (g:List Int):Option (List b7)->List (List Int×List b7)
 |none=>[]
 |some l=>[(g,l)]
def c8 (led:b7->List b7) (n:Nat):iz->iz->iz×List (List Int×List b7)
 |f,[]=>(f,[])
 |f,(s,g)::r=>((c8 led n (lX led n f s g).1 r).1,oH g (lX led n f s g).2++(c8 led n (lX led n f s g).1 r).2)
def cA (as:List (List Int×List b7)):iz:=as.flatMap fun a=>(zaH a.2.length).map fun i:Nat=>(a.2.getD i (0,[]),a.1++[((i:Nat):Int)])
def ua (led:b7->List b7) (n:Nat):Nat->iz->List (List Int×List b7)->iz
 |0,f,_=>f
 |m+1,f,as=>if as=[] then f else ua led n m (c8 led n f (cA as)).1 (c8 led n f (cA as)).2
def cZ (pr:PG.Prog) (s:b7):iz:=ua (cR pr) (bq pr+1) (bq pr+2) (lX (cR pr) (bq pr+1) [] s []).1 (oH [] (lX (cR pr) (bq pr+1) [] s []).2)
section
variable(P:zdw)(w:zdm)(K:zaa)(CC:zdk)(l:Expr)(qual:Str)
def CW:Sp:=fun vs H Q _=>∃(sa fo cc ch:zdk) (mH:Obj) (pr:PG.Prog) (s:b7),vs=[.ref sa,.ref fo]/\wL K CC H ch pr/\iI pr/\cE K H sa s.1 s.2/\cO pr s/\IE "chart" qual l H fo cc mH (.ref ch)/\bq pr<2000/\
 ∀D ax H',aq H H'->H D=none->DS jO P w K H' D ax->eQ K H' (cZ pr s) ax->Q (.ref D) H'
def IF (Pt:zdk) (lp:Pos):Sp:=fun vs H Q _=>∃(ch:zdk) (pr:PG.Prog) (ps:Array zdl),vs=[.ref ch]/\wL K CC H ch pr/\iI pr/\bq pr<2000/\H Pt=some (.rE ps)/\TabOk qual lp H ps/\
 ∀D ax H' DH,aZ Pt H H'->H D=none->DS jO P w K H' D ax->eQ K H' (cZ pr (bj pr.body 0,pr.ay.map (·.first))) ax->H' Pt=some (.rE DH)->TabOk qual lp H' DH->Q (.ref D) H'
end
section
variable{led:b7->List b7}{S:b7->Prop}
structure yU(S:b7->Prop)(f:iz):Prop where
 nd:(f.map (·.1)).Nodup
 CY:∀x∈f,S x.1
theorem yU.nil:yU S []:=⟨zb6,fun x h=>by cases h⟩
theorem yU.put{f:iz}{s:b7}{g:List Int}(h:yU S f)(n:s ∉ f.map (·.1))(hs:S s):yU S (f++[(s,g)]):=by
 refine⟨?_,fun x hx=>?_⟩
 ·rw[zaw];exact zbS.mpr ⟨h.nd,by simp,fun a ha b hb=>by rw[zal,za3,zar] at hb;rw[hb];exact fun y=>n (by rw[<- show a=s from y];exact ha)⟩
 ·rcases zaz.mp hx with hx |hx
  ·exact h.CY x hx
  ·rw[zar.mp hx];exact hs
structure vm(S:b7->Prop)(m:Nat)(as:List (List Int×List b7)):Prop where
 CY:∀a∈as,∀x∈a.2,S x
 len:∀a∈as,a.1.length<=m
theorem vm.nil{m:Nat}:vm S m []:=⟨fun a h=>(by cases h),fun a h=>(by cases h)⟩
theorem vm.app{m:Nat}{as bs:List (List Int×List b7)}(h:vm S m as)(h2:vm S m bs):vm S m (as++bs):=⟨fun a ha=>(zaz.mp ha).elim (h.CY a) (h2.CY a),fun a ha=>(zaz.mp ha).elim (h.len a) (h2.len a)⟩
theorem vn(li:∀s,S s->∀x∈led s,S x){m:Nat}:∀(n:Nat) (f:iz) (s:b7) (g:List Int),yU S f->S s->g.length<=m->yU S (lX led n f s g).1/\vm S m (oH g (lX led n f s g).2)/\f.length+(oH g (lX led n f s g).2).length<=(lX led n f s g).1.length
 |0,f,s,g,h,_,_=>⟨h,.nil,zaf _⟩
 |n+1,f,s,g,h,hs,hg=>by
  rw[lX];split
  ·exact⟨h,.nil,zaf _⟩
  ·rename_i hn;have h1:=h.put (g:=g) hn hs;split
   ·rename_i t e;have:=vn li n (f++[(s,g)]) t g h1 (li s hs t (by rw[e];exact zar.mpr rfl)) hg;refine⟨this.1,this.2.1,?_⟩;have:=this.2.2;rw[zae,zax] at this;lia
   ·refine⟨h1,⟨fun a ha x hx=>?_,fun a ha=>?_⟩,?_⟩
    ·rw[zar.mp ha] at hx;exact li s hs x hx
    ·rw[zar.mp ha];exact hg
    ·rw[zae];exact zaf _
theorem pN(li:∀s,S s->∀x∈led s,S x){m n:Nat}:∀(l:iz) (f:iz),yU S f->(∀x∈l,S x.1/\x.2.length<=m)->yU S (c8 led n f l).1/\vm S m (c8 led n f l).2/\f.length+(c8 led n f l).2.length<=(c8 led n f l).1.length
 |[],f,h,_=>⟨h,.nil,zaf _⟩
 |(s,g)::r,f,h,hl=>by
  obtain⟨a1,a2,a3⟩:=vn li n f s g h (hl _ (zaq ..)).1 (hl _ (zaq ..)).2;obtain⟨b1,b2,b3⟩:=pN li r _ a1 fun x hx=>hl x (zat _ hx);refine⟨b1,a2.app b2,?_⟩;show f.length+(oH g (lX led n f s g).2++(c8 led n (lX led n f s g).1 r).2).length<=_;rw[zae];show _<=(c8 led n (lX led n f s g).1 r).1.length;lia
theorem vo{n:Nat}:∀(l k:iz) (f:iz),c8 led n f (l++k)=((c8 led n (c8 led n f l).1 k).1,(c8 led n f l).2++(c8 led n (c8 led n f l).1 k).2)
 |[],k,f=>rfl
 |(s,g)::r,k,f=>by
  rw[zaJ,c8,vo r k];simp only[c8,za2]
theorem vp{n:Nat}{f:iz}{s:b7}{g:List Int}:c8 led n f [(s,g)]=((lX led n f s g).1,oH g (lX led n f s g).2):=by simp only[c8,zav]
theorem mK{m:Nat}{as:List (List Int×List b7)}(h:vm S m as):∀x∈cA as,S x.1/\x.2.length<=m+1:=by
 intro x hx;obtain⟨a,ha,hx⟩:=za7.mp hx;obtain⟨i,hi,rfl⟩:=zaF.mp hx;have hi:=zb5.mp hi;refine⟨h.CY a ha _ ?_,?_⟩
 ·rw[zap,zac hi];exact zau hi
 ·have:=h.len a ha;rw[zae,zax];lia
def lE (a:List Int×List b7) (j:Nat):iz:=(zaH j).map fun i:Nat=>(a.2.getD i (0,[]),a.1++[((i:Nat):Int)])
theorem CZ{a:List Int×List b7}{as:List (List Int×List b7)}:cA (as++[a])=cA as++lE a a.2.length:=by
 unfold cA;rw[za9];simp only[zaG,zbk,zav];rfl
theorem A4{a:List Int×List b7}{j:Nat}:lE a (j+1)=lE a j++[(a.2.getD j (0,[]),a.1++[((j:Nat):Int)])]:=by
 unfold lE;rw[zbz,zaw];rfl
theorem EY{m j:Nat}{a:List Int×List b7}(h1:∀x∈a.2,S x)(h2:a.1.length<=m)(hj:j<=a.2.length):∀x∈lE a j,S x.1/\x.2.length<=m+1:=by
 intro x hx;obtain⟨i,hi,rfl⟩:=zaF.mp hx;have hi:=zb5.mp hi;refine⟨h1 _ ?_,?_⟩
 ·rw[zap,zac (by lia)];exact zau (by lia)
 ·rw[zae,zax];lia
theorem xT{n m:Nat}{f:iz}:ua led n m f []=f:=by
 cases m
 ·rfl
 ·rw[ua,zzp rfl]
end
section
variable(K:zaa)
def eK (H:Hp) (as:List (List Int×List b7)) (us:List V):Prop:=Paired (fun (a:List Int×List b7) (v:V)=>∃ta ga la uL,v=.ref ta/\bQ K H ta [.ref ga,.ref la]/\bQ K H ga (a.1.map V.int)/\H la=some (.lst uL)/\iK K H a.2 uL) as us
end
section
variable{K:zaa}{H H':Hp}
theorem eK.imp{as:List (List Int×List b7)}{us:List V}(h:eK K H as us)(t:∀a xs,bQ K H a xs->bQ K H' a xs)(l:∀a xs,H a=some (.lst xs)->H' a=some (.lst xs)):eK K H' as us:=
 Paired.Au h fun _ _ ⟨ta,ga,la,uL,e,q1,q2,q3,q4⟩=>⟨ta,ga,la,uL,e,t _ _ q1,t _ _ q2,l _ _ q3,nL q4 fun a row vals ⟨va,h1,h2⟩=>⟨va,t _ _ h1,t _ _ h2⟩⟩
theorem eK.mono{as:List (List Int×List b7)}{us:List V}(h:eK K H as us)(s:aq H H'):eK K H' as us:=h.imp (fun a xs q=>s.a7 q) fun a xs q=>s _ _ q
theorem eK.ext{as:List (List Int×List b7)}{us:List V}{D:zdk}{φ:Heap->Prop}(h:eK K H as us)(hD:H D=some (.ext φ))(u:aZ D H H'):eK K H' as us:=h.imp (fun a xs q=>q.lW hD u) fun a xs q=>u _ _ (bU q hD (by intro z;cases z)) q
theorem eK.of{H0:Hp}{us:List V}{ga b:zdk}{ys:List V}{g:List Int}{o:Option (List b7)}(h:LL K H0 H us (.ref ga) o)(q:bQ K H ga (g.map V.int))(n:H0 b≠none)(hb:H b=some (.lst ys)):eK K (wo H b) (oH g o) us:=by
 have u:aZ b H (wo H b):=wV;cases o with
 |none=>rw[show us=[] from h];exact .nil
 |some l=>
  obtain⟨ta,la,uL,rfl,q1,n1,q2,q3⟩:=h;refine .cons ⟨ta,ga,la,uL,rfl,q1.vg hb u,q.vg hb u,?_,nL q3 fun a row vals ⟨va,h1,h2⟩=>⟨va,h1.vg hb u,h2.vg hb u⟩⟩ .nil;rw[eX (fun z=>n (by rw[<- z];exact n1))];exact q2
theorem eK.of1{H0:Hp}{us:List V}{ga:zdk}{g:List Int}{o:Option (List b7)}(h:LL K H0 H us (.ref ga) o)(q:bQ K H ga (g.map V.int)):eK K H (oH g o) us:=by
 cases o with
 |none=>rw[show us=[] from h];exact .nil
 |some l=>
  obtain⟨ta,la,uL,rfl,q1,n1,q2,q3⟩:=h;exact .cons ⟨ta,ga,la,uL,rfl,q1,q,q2,q3⟩ .nil
theorem nM{α β:Type}{R:α->β->Prop}:∀ {as:List α} {us:List β} {bs:List α} {vs:List β},Paired R as us->Paired R bs vs->Paired R (as++bs) (us++vs)
 |[],_,_,_,h,h2=>by cases h;exact h2
 |_::_,_,_,_,h,h2=>by
  cases h with
  |cons a b=>exact .cons a (nM b h2)
theorem eY{α β:Type}{R:α->β->Prop}:∀ {as:List α} {us:List β} {i:Nat} {v:β},Paired R as us->us[i]?=some v->∃a,as[i]?=some a/\R a v
 |[],_,_,_,h,e=>by cases h;simp at e
 |_::_,_,0,_,h,e=>by
  cases h with
  |cons a b=>cases e;exact⟨_,rfl,a⟩
 |_::_,_,i+1,_,h,e=>by
  cases h with
  |cons a b=>
   obtain⟨x,e1,e2⟩:=eY (i:=i) b (by simpa using e);exact⟨x,by simpa using e1,e2⟩
end
def Kp (H H':Hp):Prop:=∀b o,H b=some o->(∀ps,o≠.rE ps)->H' b=some o
section
variable{K:zaa}{H H':Hp}
theorem Kp.of{Pt:zdk}{ps:Array zdl}(u:aZ Pt H H')(h:H Pt=some (.rE ps)):Kp H H':=fun b o e n=>u b o (bU e h (n ps)) e
theorem bQ.kp{a:zdk}{xs:List V}(h:bQ K H a xs)(k:Kp H H'):bQ K H' a xs:=by
 rcases h with (q |⟨o',q⟩) |q
 ·exact .inl (.inl (k _ _ q (by intro _ z;cases z)))
 ·exact .inl (.inr ⟨o',k _ _ q (by intro _ z;cases z)⟩)
 ·exact .inr q
theorem i7.kp{a:zdk}{xs:List V}(h:i7 K H a xs)(k:Kp H H'):i7 K H' a xs:=by
 rcases h with (q |⟨o',q⟩) |q
 ·exact .inl (.inl (k _ _ q (by intro _ z;cases z)))
 ·exact .inl (.inr ⟨o',k _ _ q (by intro _ z;cases z)⟩)
 ·exact .inr q
mutual
theorem vq(k:Kp H H'):∀(d:Dp) (v:V),Rep K H d v->Rep K H' d v
 |.cC,v,r=>by rw[Rep.qi] at r ⊢;exact r
 |.bl b,v,r=>by rw[Rep.lQ] at r ⊢;exact r
 |.int b,v,r=>by rw[Rep.bt] at r ⊢;exact r
 |.str b,v,r=>by rw[Rep.bA] at r ⊢;exact r
 |.lst l,v,r=>by
  rw[Rep.bL] at r ⊢;obtain⟨a,ys,rfl,q,rs⟩:=r;exact⟨a,ys,rfl,i7.kp q k,ub k l ys rs⟩
 |.tup l,v,r=>by
  rw[Rep.bg] at r ⊢;obtain⟨a,ys,rfl,q,rs⟩:=r;exact⟨a,ys,rfl,bQ.kp q k,ub k l ys rs⟩
theorem ub(k:Kp H H'):∀(ds:List Dp) (vs:List V),aN K H ds vs->aN K H' ds vs
 |[],vs,r=>by rw[aN.br] at r ⊢;exact r
 |d::ds,vs,r=>by
  rw[aN.aI] at r ⊢;obtain⟨v,t,rfl,r1,r2⟩:=r;exact⟨v,t,rfl,vq k d v r1,ub k ds t r2⟩
end
theorem wL.kp{C ch:zdk}{pr:PG.Prog}(c:wL K C H ch pr)(k:Kp H H'):wL K C H' ch pr:=by
 obtain⟨dx,nl,sd,fa,va,st,wy,us,ws,h1,h2,h3,h4,h5,h6,h7,h8,h9,Le,M1,PY⟩:=c.at_;exact⟨⟨dx,nl,sd,fa,va,st,wy,us,ws,k _ _ h1 (fun _ z=>by cases z),k _ _ h2 (fun _ z=>by cases z),k _ _ h3 (fun _ z=>by cases z),k _ _ h4 (fun _ z=>by cases z),k _ _ h5 (fun _ z=>by cases z),k _ _ h6 (fun _ z=>by cases z),h7,k _ _ h8 (fun _ z=>by cases z),ub k _ _ h9,Le,k _ _ M1 (fun _ z=>by cases z),fun i hi=>let ⟨q,e,r⟩:=PY i hi;⟨q,e,r.kp k⟩⟩⟩
theorem cE.kp{a:zdk}{row:Int}{vals:List Int}(h:cE K H a row vals)(k:Kp H H'):cE K H' a row vals:=let ⟨va,h1,h2⟩:=h;⟨va,h1.kp k,h2.kp k⟩
theorem TabOk.kp{qual:Str}{lp:Pos}{ps:Array zdl}(h:TabOk qual lp H ps)(k:Kp H H'):TabOk qual lp H' ps:=by
 rcases h with h |⟨c',oc,vs,tk,e,h1,h2,h3⟩
 ·exact .inl h
 ·exact .inr ⟨c',oc,vs,tk,e,k _ _ h1 (fun _ z=>by cases z),h2,h3⟩
theorem Kp.same(s:aq H H'):Kp H H':=fun b o e _=>s b o e
end
section
variable(ask:Int->Bool)(step:Int->List Int->Int->Option (Int×List Int)×Option Int)
def fe:iz->List b7->List Int->iz×iz
 |f,[],_=>(f,[])
 |f,x::r,g=>if x∈f.map (·.1) then fe f r g else ((fe (f++[(x,g)]) r g).1,(if ask x.1=true then [(x,g)] else [])++(fe (f++[(x,g)]) r g).2)
def nextJ (a:b7×List Int) (j:Nat):iz:=(zaH j).map fun i:Nat=>((step a.1.1 a.1.2 i).1.getD a.1,a.2++[((i:Nat):Int)])
def lF (as:iz):iz:=as.flatMap fun a=>nextJ step a 10
def Cl (f:iz) (Q:b7->Prop):Prop:=∀x∈f.map (·.1),x.1≠0->ask x.1=false->∀y,(step x.1 x.2 0).1=some y->y∈f.map (·.1)\/Q y
def Xg:List b7->Prop
 |x::y::r=>(x.1≠0/\ask x.1=false/\(step x.1 x.2 0).1=some y)/\Xg (y::r)
 |_=>True
end
section
variable{ask:Int->Bool}{step:Int->List Int->Int->Option (Int×List Int)×Option Int}
theorem LN:∀(g:List b7),(∀i (h:i+1<g.length),g[i].1≠0/\ask g[i].1=false/\(step g[i].1 g[i].2 0).1=some g[i+1])->Xg ask step g
 |[],_=>trivial
 |[_],_=>trivial
 |x::y::r,h=>⟨h 0 (by simp),LN (y::r) fun i hi=>h (i+1) (by simp at hi ⊢;lia)⟩
theorem LO{f:iz}(c:Cl ask step f fun _=>False):∀(g:List b7) (s:b7),Xg ask step (s::g)->s∈f.map (·.1)->∀x∈s::g,x∈f.map (·.1)
 |[],s,_,h,x,hx=>by rw[zar.mp hx];exact h
 |y::r,s,⟨⟨h0,ha,hs⟩,h2⟩,h,x,hx=>by
  rcases zag.mp hx with rfl |hx
  ·exact h
  ·exact LO c r y h2 ((c s h h0 ha y hs).resolve_right id) x hx
theorem GJ{g:List Int}{f:iz}:∀(l:List b7),(∀x∈l,x∈f.map (·.1))->fe ask f l g=(f,[])
 |[],_=>rfl
 |x::r,h=>by
  rw[fe,zzp (h x (zaq ..))];exact GJ r fun y hy=>h y (zat _ hy)
theorem xU{g:List Int}:∀(l k:List b7) (f:iz),fe ask f (l++k) g=((fe ask (fe ask f l g).1 k g).1,(fe ask f l g).2++(fe ask (fe ask f l g).1 k g).2)
 |[],k,f=>rfl
 |x::r,k,f=>by
  rw[zaJ,fe,fe];split
  ·exact xU r k f
  ·rw[xU r k,za2]
theorem wW{S:b7->Prop}{g:List Int}:∀(l:List b7) (f:iz),yU S f->(∀x∈l,S x)->yU S (fe ask f l g).1/\(∀a∈(fe ask f l g).2,S a.1/\ask a.1.1=true/\a.2=g)/\f.length+(fe ask f l g).2.length<=(fe ask f l g).1.length
 |[],f,h,_=>⟨h,fun a ha=>(by cases ha),zaf _⟩
 |x::r,f,h,hl=>by
  rw[fe];split
  ·exact wW r f h fun y hy=>hl y (zat _ hy)
  ·rename_i hx;obtain⟨a1,a2,a3⟩:=wW (g:=g) r (f++[(x,g)]) (h.put hx (hl x (zaq ..))) fun y hy=>hl y (zat _ hy);rw[zae,zax] at a3;refine⟨a1,fun a ha=>?_,?_⟩
   ·rcases zaz.mp ha with ha |ha
    ·split at ha
     ·rename_i hk;rw[zar.mp ha];exact⟨hl x (zaq ..),hk,rfl⟩
     ·cases ha
    ·exact a2 a ha
   ·show f.length+((if ask x.1=true then [(x,g)] else [])++_).length<=_;rw[zae];show _<=(fe ask (f++[(x,g)]) r g).1.length;split
    ·rw[zax];lia
    ·rw[zaA];lia
theorem Ag{a b:iz}:lF step (a++b)=lF step a++lF step b:=za9
theorem EZ{a:b7×List Int}{j:Nat}:nextJ step a (j+1)=nextJ step a j++[((step a.1.1 a.1.2 (j:Nat)).1.getD a.1,a.2++[((j:Nat):Int)])]:=by
 unfold nextJ;rw[zbz,zaw];rfl
theorem vt:∀(a:iz),(lF step a).length=10*a.length
 |[]=>rfl
 |x::r=>by
  show ((nextJ step x 10)++lF step r).length=_;rw[zae,vt r,zah];unfold nextJ;rw[zad,zbt];lia
end
theorem E1{a b:List (List Int×List b7)}:cA (a++b)=cA a++cA b:=za9
theorem GK{pr:PG.Prog}(d:iI pr){fig:List Int}:∀(r:List b7) (n:Nat) (f:iz) (s:b7),(s::r).length<=n->Xg (dc pr.body) (bX pr) (s::r)->
 (∀x,(s::r).getLast?=some x->x.1=0\/dc pr.body x.1=true\/(bX pr x.1 x.2 0).1=none\/∃y,(y∈s::r\/y∈f.map (·.1))/\(bX pr x.1 x.2 0).1=some y)->Cl (dc pr.body) (bX pr) f (·=s)->
 (lX (cR pr) n f s fig).1=(fe (dc pr.body) f (s::r) fig).1/\cA (oH fig (lX (cR pr) n f s fig).2)=lF (bX pr) (fe (dc pr.body) f (s::r) fig).2/\Cl (dc pr.body) (bX pr) (fe (dc pr.body) f (s::r) fig).1 (fun _=>False)
 |r,0,f,s,hn,_,_,_=>by simp at hn
 |r,n+1,f,s,hn,hc,hl,cl=>by
  by_cases hs:s∈f.map (·.1)
  ·have cl0:Cl (dc pr.body) (bX pr) f (fun _=>False):=fun x hx h0 ha y hy=>(cl x hx h0 ha y hy).elim .inl fun e=>.inl (e▸hs);rw[lX,zzp hs,GJ _ (LO cl0 r s hc hs)];exact⟨rfl,rfl,cl0⟩
  have fin:∀y,y∈f.map (·.1)\/y=s↔y∈(f++[(s,fig)]).map (·.1):=fun y=>by simp
  have Vu:∀Q:b7->Prop,(s.1≠0->dc pr.body s.1=false->∀y,(bX pr s.1 s.2 0).1=some y->y∈(f++[(s,fig)]).map (·.1)\/Q y)->Cl (dc pr.body) (bX pr) (f++[(s,fig)]) Q:=fun Q hQ x hx h0 ha y hy=>by
   rcases(fin x).mpr hx with hx |rfl
   ·exact .inl ((fin y).mp (cl x hx h0 ha y hy))
   ·exact hQ h0 ha y hy
  match r,hn,hc,hl with
  |q::r,hn,⟨⟨h0,ha,hq⟩,hc⟩,hl=>
   have el:cR pr s=[q]:=by unfold cR;rw[zzn h0,zzn (by rw[ha];decide),hq];rfl
   rw[lX,zzn hs,el,fe,zzn hs,zzn (by rw[ha];decide),zaK];refine GK d r n (f++[(s,fig)]) q (by simp at hn ⊢;lia) hc (fun x hx=>?_) (Vu _ fun _ _ y hy=>.inr (by rw[hq] at hy;cases hy;rfl));rcases hl x (by rw[List.getLast?_cons_cons];exact hx) with z |z |z |⟨y,hy,z⟩
   ·exact .inl z
   ·exact .inr (.inl z)
   ·exact .inr (.inr (.inl z))
   ·refine .inr (.inr (.inr ⟨y,?_,z⟩));rcases hy with hy |hy
    ·rcases zag.mp hy with rfl |hy
     ·exact .inr ((fin _).mp (.inr rfl))
     ·exact .inl hy
    ·exact .inr ((fin _).mp (.inl hy))
  |[],hn,hc,hl=>
   have ea:fe (dc pr.body) f [s] fig=(f++[(s,fig)],if dc pr.body s.1=true then [(s,fig)] else []):=by rw[fe,zzn hs,fe,zav]
   rw[ea];by_cases h0:s.1=0
   ·have el:cR pr s=[]:=by unfold cR;rw[zzp h0]
    rw[lX,zzn hs,el,h0,tY d.ok];exact⟨rfl,rfl,Vu _ fun z=>zzb h0 z⟩
   cases ha:dc pr.body s.1 with
   |true=>
    have el:cR pr s=(zaH 10).map fun f=>((bX pr s.1 s.2 (f:Nat)).1.getD s):=by unfold cR;rw[zzn h0,zzp ha]
    rw[lX,zzn hs];refine⟨?_,?_,Vu _ fun _ z=>by rw[ha] at z;cases z⟩
    ·rw[el];rfl
    ·rw[el];show cA [(fig,_)]=lF _ [(s,fig)];rfl
   |false=>
    have el:cR pr s=(bX pr s.1 s.2 0).1.toList:=by unfold cR;rw[zzn h0,zzn (by rw[ha];decide)]
    rw[lX,zzn hs,el];cases e:(bX pr s.1 s.2 0).1 with
    |none=>exact⟨rfl,rfl,Vu _ fun _ _ y hy=>by rw[e] at hy;cases hy⟩
    |some y=>
     have hy:y∈(f++[(s,fig)]).map (·.1):=by
      rcases hl s rfl with z |z |z |⟨y',hy,z⟩
      ·exact zzb z h0
      ·rw[ha] at z;cases z
      ·rw[e] at z;cases z
      ·rw[e] at z;cases z;rcases hy with hy |hy
       ·exact(fin _).mp (.inr (zar.mp hy))
       ·exact(fin _).mp (.inl hy)
     have eg:lX (cR pr) n (f++[(s,fig)]) y fig=(f++[(s,fig)],none):=by
      cases n with
      |zero=>rfl
      |succ n=>rw[lX,zzp hy]
     simp only[zby,eg];exact⟨trivial,rfl,Vu _ fun _ _ y' Rk=>by rw[e] at Rk;cases Rk;exact .inl hy⟩
theorem OH{pr:PG.Prog}(d:iI pr){fig:List Int}{n:Nat}{f:iz}{s:b7}{g:List b7}(sg:PG.Seg (dc pr.body) (bX pr) s g)(hn:g.length<=n)(cl:Cl (dc pr.body) (bX pr) f fun _=>False) :
 (lX (cR pr) n f s fig).1=(fe (dc pr.body) f g fig).1/\cA (oH fig (lX (cR pr) n f s fig).2)=lF (bX pr) (fe (dc pr.body) f g fig).2/\Cl (dc pr.body) (bX pr) (fe (dc pr.body) f g fig).1 (fun _=>False):=by
 have h:=sg.head;cases g with
 |nil=>cases h
 |cons x r=>
  cases h;exact GK d r n f s hn (LN _ sg.mid) (fun x hx=>by
   rcases sg.last x hx with z |z |z |⟨y,hy,z⟩
   ·exact .inl z
   ·exact .inr (.inl z)
   ·exact .inr (.inr (.inl z))
   ·exact .inr (.inr (.inr ⟨y,.inl hy,z⟩))) fun x hx h0 ha y hy=>.inl ((cl x hx h0 ha y hy).resolve_right id)
end L2
namespace L2
open PG
open PySem PySem.Spec PyProof.Rows
abbrev jB (pr:PG.Prog):b7:=(bj pr.body 0,pr.ay.map (·.first))
section
variable(P:zdw)(w:zdm)(K:zaa)(CC:zdk)
def LP:Sp:=fun vs H Q _=>∃(md:zdk) (pr:PG.Prog),vs=[.ref md]/\eV K H md pr/\iI pr/\bq pr<2000/\
 ∀D ax H',aq H H'->H D=none->DS jO P w K H' D ax->eQ K H' (cZ pr (jB pr)) ax->Q (.ref D) H'
def OI:Sp:=fun vs H Q _=>∃(md sa:zdk) (pr:PG.Prog) (s:b7),vs=[.ref md,.ref sa]/\eV K H md pr/\iI pr/\cE K H sa s.1 s.2/\cO pr s/\bq pr<=2000000/\
 ∀l us g H',aq H H'->H l=none->H' l=some (.lst us)->iK K H' g us->PG.Seg (dc pr.body) (bX pr) s g->(∀x∈g,cO pr x)->g.length<=bq pr->Q (.ref l) H'
def vv (H:Hp) (lv:iz) (us:List V):Prop:=Paired (fun (x:b7×List Int) (v:V)=>∃ta ga sa,v=.ref ta/\bQ K H ta [.ref ga,.ref sa]/\bQ K H ga (x.2.map V.int)/\cE K H sa x.1.1 x.1.2) lv us
def A9 (Pt:zdk):Sp:=fun vs H Q _=>∃(a:zdk) (ns:List Int),vs=[.ref a]/\i7 K H a (ns.map V.int)/\ns.length<=63/\H Pt=some (.rE #[])/\∀H',Q (.bl true) H'
end
section
variable{K:zaa}{H H':Hp}
theorem vv.imp{lv:iz}{us:List V}(h:vv K H lv us)(t:∀a xs,bQ K H a xs->bQ K H' a xs):vv K H' lv us:=
 Paired.Au h fun _ _ ⟨ta,ga,sa,e,q1,q2,va,q3,q4⟩=>⟨ta,ga,sa,e,t _ _ q1,t _ _ q2,va,t _ _ q3,t _ _ q4⟩
end
end L2
namespace PG
theorem C0(sc:List Int)(lU:Int):∀(n k p:Nat),∀x∈(bI sc lU n k p).1,x.size<=4
 |0,k,p,x,h=>by simp[bI] at h
 |n+1,k,p,x,h=>by
  rw[bI] at h;simp only[zag] at h;rcases h with rfl |h
  ·simp only;lia
  ·exact C0 sc lU n (k+1) (p+2) x h
theorem Ba(sc:List Int)(p:Nat):∀x∈fj sc p,x.size<=4:=C0 sc _ _ _ _
theorem Ah:∀(ss:List Int),(∀s∈ss,s<=4)->(vj ss).length<=4 ^ ss.length
 |[],_=>by simp[vj]
 |s::r,h=>by
  have ih:=Ah r fun x hx=>h x (zat _ hx);have hs:=h s (zaq ..);have k:∀n:Nat,((zaH n).flatMap fun (v:Nat)=>(vj r).map fun t=>((v:Int)::t)).length=n*(vj r).length:=fun n=>by
   induction n with
   |zero=>simp
   |succ n ih=>rw[zbz,za9,zae,ih];simp[Nat.succ_mul]
  rw[vj,k,zah,zcF,Nat.mul_comm (4 ^ r.length)];exact zc3 (by lia) ih
end PG
namespace L2
open PG
open PySem PySem.Spec PyProof.Rows
theorem TabOk.up{H H':Hp}{qual:Str}{lp:Pos}{ps:Array zdl}(h:TabOk qual lp H ps)(k:∀b φ,H b=some (.ext φ)->H' b=some (.ext φ)):TabOk qual lp H' ps:=by
 rcases h with h |⟨c',oc,vs,tk,e,h1,h2,h3⟩
 ·exact .inl h
 ·exact .inr ⟨c',oc,vs,tk,e,k _ _ h1,h2,h3⟩
theorem GL{led:b7->List b7}{S:b7->Prop}(li:∀s,S s->∀x∈led s,S x){n:Nat}:∀(m k:Nat) (f:iz) (as:List (List Int×List b7)),yU S f->vm S k as->yU S (ua led n m f as)
 |0,_,f,as,h,_=>h
 |m+1,k,f,as,h,h2=>by
  rw[ua];split
  ·exact h
  ·have:=pN li (n:=n) (m:=k+1) (cA as) f h (mK h2);exact GL li m (k+1) _ _ this.1 this.2.1
theorem C1{pr:PG.Prog}(d:iI pr):yU (cO pr) (cZ pr (jB pr)):=by
 have li:∀s,cO pr s->∀x∈cR pr s,cO pr x:=fun s h=>t9 d h;have:=vn li (m:=0) (bq pr+1) [] (jB pr) [] .nil (cO.first d) (zaf _);exact GL li _ 0 _ _ this.1 this.2.1
theorem LQ{pr:PG.Prog}{n:Nat}(h1:(bV pr.body).length<=n)(h2:∀b∈pr.ay,b.size<=4)(h3:pr.ay.length<=3):bq pr<=(n+1)*64:=by
 unfold bq;rw[Lq];have l1:(GG pr).length+1<=n+1:=by unfold GG;rw[zad,mE];lia
 have l2:=Ah (jP pr) fun s hs=>by
  obtain⟨b,hb,rfl⟩:=zaF.mp hs;exact h2 b hb
 have l3:4 ^ (jP pr).length<=4 ^ 3:=za5 (by decide) (by unfold jP;rw[zad];exact h3);exact zc3 l1 (zaC l2 l3)
section
variable{prog:zdw}{w:zdm}{A:zdv}{E:zdl->zdu->Prop}{s:zdu}{d it:zdk}{es:Array DictEntry}{ep i:Nat}
theorem C2(d:zdk)(hd:(d==sysModules)=false) :
 MeetsIn prog w (Builtin.«dict.items» ⟨[.ref d],[]⟩) (fun _ R s=>(∃es ep,iu s.heap d es ep)/\R (.ok (.ret (.ref s.heap.objs.size))) {s with heap:=s.heap.push {cls:=.type "dict_items",data:=.fields #[.ref d]} }):=
 .of_wp fun A R s ⟨⟨es,ep,hm⟩,h⟩=>by
  unfold Builtin.«dict.items»;refine zdn ?_;unfold Builtin.Dict.noArgs;refine zdn (wpAny_notOrdered_dict hm.ty ?_);show wpAny _ _ (pure d) _ _ s;refine zdo ?_;show wpAny _ _ (Builtin.Dict.showsAll d >>= _) _ _ s;unfold Builtin.Dict.showsAll;rw[zzn (by rw[hd];exact zai)];refine zdn (zdo ?_);exact zdn (wpAny_newObj_type (zdo ⟨_,rfl,h⟩))
theorem IG{v:zdk}{Q:zdl->zdu->Prop}(hv:s.heap.IsItemsView v d)(hm:iu s.heap d es ep)
 (hQ:Q (.ref s.heap.objs.size) {s with heap:=s.heap.push {cls:=.type "dict_itemiterator",data:=.fields #[.none,.bool false,.ref d,.int 0 0,.int es.size 0,.int ep 0,.none,.none]} }) :
 wpAny (model prog w) A (pyIter (.ref v)) Q E s:=by
 obtain⟨ov,hov,hcv,hdv⟩:=id hv;obtain⟨o,ho,hc,OA⟩:=id hm;refine wpAny_pyIter_slot hv.typeIs F.slot_dict_items_iter (wpAny_call_entry F.slot_dict_items_iter hv.typeIs F.entry_dict_items_iter ?_ (F.args_dict_items_iter_1 _));unfold Builtin.«dict_items.__iter__»;refine zdn (zdo (zdn ?_));unfold Builtin.Dict_items.dictOf;refine zdn (wpAny_field hov hdv (x:=.ref d) rfl (zdo (zdn ?_)));unfold Builtin.Dict_items.newIterator;refine zdn (wpAny_dictEntries ho OA (zdn (wpAny_dictEpoch ho OA ?_)));have LR:Builtin.Dict_items.ownsTuple "dict_itemiterator"=true:=by decide
 simp only[LR,if_true];refine wpAny_newObj_type (zdo ⟨_,rfl, "dict_itemiterator",_,⟨_,Heap.get?_push_size _ rfl,rfl⟩,F.slot_dict_itemiterator_next.lookup,?_⟩)
  (by simp only[sizeOk,Builtin.Dict_items.ownedTupleFields,zas,zae,zah,zaA,sizeLine_eq];omega)
 simpa[rawInt,Builtin.Dict_items.ownedTupleFields] using hQ
theorem IH{ok ov:zdl}{Q:Option zdl->zdu->Prop}(hit:IsItemIter s.heap it d i es.size ep ok ov)(hm:iu s.heap d es ep)(Zm:i<es.size)
 (hQ:∀h',IsItemIterOut h' it d (i+1) es.size ep es[i].key es[i].val s.heap.objs.size->h'.get? s.heap.objs.size=some {cls:=.type "tuple",data:=.seq #[es[i].key,es[i].val]}->h'.objs.size=s.heap.objs.size+1->
  (∀b o,b≠it->s.heap.get? b=some o->h'.get? b=some o)->Q (some (.ref s.heap.objs.size)) {s with heap:=h' }) :
 wpAny (model prog w) A (pyNext (.ref it)) Q E s:=by
 obtain⟨hp,g,dr,tk,os⟩:=s;obtain⟨od,N9,B0,ED⟩:=id hm;have hT:Shared.TypeIs ⟨hp,g,dr,tk,os⟩ (.ref it) "dict_itemiterator":=⟨_,hit,rfl⟩
 unfold pyNext;refine zdn (wpAny_attempt (wpAny_callSpecial?_slot (name:=zab "__next__") hT F.slot_dict_itemiterator_next (wpAny_call_entry F.slot_dict_itemiterator_next hT F.entry_dict_itemiterator_next ?_ (F.args_dict_itemiterator_next_1 _))));refine zdn (zdo (zdn (zdn ?_)));refine zdn (wpAny_typeNameOfWhole_itemiter hT (zdo (zdn (wpAny_fieldsOf hit rfl ?_))));have LR:Builtin.Dict_items.ownsTuple "dict_itemiterator"=true:=by decide
 simp only[LR,if_true];show wpAny _ _ (if (Value.ref d==Value.none)=true then _ else _) _ _ _;rw[zzn (show ¬((Value.ref d==Value.none)=true) from zai)];refine zdn (zdo (zdn (wpAny_dictEntries N9 ED ?_)));rw[zzn (by simp)];refine zdn (zdo (zdn (wpAny_dictEpoch N9 ED ?_)));rw[zzn (by simp)];refine zdo ?_;simp only[show ¬((i:Int)<0) from by first|decide|omega,if_false,za1,zbi Zm];refine zdn (zdn (wpAny_typeNameOfWhole_itemiter hT (zdo (zdn (wpAny_isOneOf_itemiter hT ?_)))));show wpAny _ _ (setField (.ref it) 3 (rawInt ((i:Int)+1)) >>= _) _ _ ⟨hp,g,dr,tk,os⟩;refine zdn (wpAny_setField_rec hit (by simp) fun h₁ C3 C4=>?_);replace C4:Heap.SameBut it hp h₁:=C4;replace C3:IsItemIter h₁ it d (i+1) es.size ep ok ov:=by
  have e:((i+1:Nat):Int)=(i:Int)+1:=by first|decide|omega
  unfold IsItemIter;rw[e];simpa[rawInt] using C3
 have LS:Shared.TypeIs ⟨h₁,g,dr,tk,os⟩ (.ref it) "dict_itemiterator":=⟨_,C3,rfl⟩
 refine zdn (zdp (zdn (wpAny_isOneOf_itemiter LS (zdn (wpAny_isOneOf_itemiter LS ?_)))));show wpAny _ _ (Builtin.Dict_items.pairFromOwner (.ref it) 6 es[i].key es[i].val) _ _ ⟨h₁,g,dr,tk,os⟩;unfold Builtin.Dict_items.pairFromOwner;refine zdn (wpAny_newTuple ?_);have C5:IsItemIter (h₁.push {cls:=.type "tuple",data:=.seq #[es[i].key,es[i].val]}) it d (i+1) es.size ep ok ov:=Heap.get?_push_of_some _ C3;generalize GN:h₁.push {cls:=.type "tuple",data:=.seq #[es[i].key,es[i].val]}=h₂ at C5;have GO:h₁.objs.size=hp.objs.size:=C4.1;have hil:it<hp.objs.size:=Heap.lt_size hit;have Vv:h₂.get? hp.objs.size=some {cls:=.type "tuple",data:=.seq #[es[i].key,es[i].val]}:=by rw[<- GN,<- GO];exact Heap.get?_push_size _ rfl
 have Vw:h₂.objs.size=hp.objs.size+1:=by rw[<- GN,Heap.size_push,GO]
 have Vx:∀b o,b≠it->hp.get? b=some o->h₂.get? b=some o:=fun b o hb e=>by rw[<- GN];exact Heap.get?_push_of_some _ (C4.extBut b o hb e)
 show wpAny _ _ (Builtin.Dict_items.ownedTupleIsFree (.ref it) >>= _) _ _ ⟨h₂,g,dr,tk,os⟩;rw[GO];clear GN C3 C4 LS GO h₁;refine zdn ?_;unfold Builtin.Dict_items.ownedTupleIsFree;refine zdn (wpAny_field C5 rfl (x:=.none) rfl (zdo ?_));simp only[if_true];refine zdn (wpAny_field C5 rfl (x:=ok) rfl (zdn (wpAny_field C5 rfl (x:=ov) rfl ?_)));refine zdn (wpAny_setField_rec C5 (by simp) fun h₃ LU Qe=>?_);replace LU:IsItemIter h₃ it d (i+1) es.size ep es[i].key ov:=LU;refine zdn (wpAny_setField_rec LU (by simp) fun h₄ LV Qf=>?_);replace LV:IsItemIter h₄ it d (i+1) es.size ep es[i].key es[i].val:=LV;refine zdn (wpAny_setField_rec LV (by simp) fun h₅ LW Qg=>?_);replace LW:IsItemIterOut h₅ it d (i+1) es.size ep es[i].key es[i].val hp.objs.size:=LW;refine zdn (wpAny_setField_rec LW (by simp) fun h₆ LX Qh=>?_);replace LX:IsItemIterOut h₆ it d (i+1) es.size ep es[i].key es[i].val hp.objs.size:=LX;have all:∀b o,b≠it->h₂.get? b=some o->h₆.get? b=some o:=fun b o hb e=>Qh.extBut b o hb (Qg.extBut b o hb (Qf.extBut b o hb (Qe.extBut b o hb e)));refine zdn (wpAny_letGo (zdo (zdo ⟨_,rfl,zdo (hQ h₆ LX (all _ _ (zbM hil) Vv) ?_ fun b o hb e=>all b o hb (Vx b o hb e))⟩)));show h₆.objs.size=hp.objs.size+1;rw[Qh.1,Qg.1,Qf.1,Qe.1];exact Vw
theorem LY{ok ov:zdl}{Q:Option zdl->zdu->Prop}(hh:A.handled=none)(hit:IsItemIter s.heap it d i es.size ep ok ov)(hm:iu s.heap d es ep)(Vq:es.size<=i)
 (hQ:∀h',Heap.ExtBut it s.heap h'->Q none {s with heap:=h' }):wpAny (model prog w) A (pyNext (.ref it)) Q E s:=by
 obtain⟨od,N9,B0,ED⟩:=id hm;have hT:s.TypeIs (.ref it) "dict_itemiterator":=⟨_,hit,rfl⟩
 unfold pyNext;refine zdn (wpAny_attempt (wpAny_callSpecial?_slot (name:=zab "__next__") hT F.slot_dict_itemiterator_next (wpAny_call_entry F.slot_dict_itemiterator_next hT F.entry_dict_itemiterator_next ?_ (F.args_dict_itemiterator_next_1 _))));refine zdn (zdo (zdn (zdn ?_)));refine zdn (wpAny_typeNameOfWhole_itemiter hT (zdo (zdn (wpAny_fieldsOf hit rfl ?_))));have LR:Builtin.Dict_items.ownsTuple "dict_itemiterator"=true:=by decide
 simp only[LR,if_true];show wpAny _ _ (if (Value.ref d==Value.none)=true then _ else _) _ _ s;rw[zzn (show ¬((Value.ref d==Value.none)=true) from zai)];refine zdn (zdo (zdn (wpAny_dictEntries N9 ED ?_)));rw[zzn (by simp)];refine zdn (zdo (zdn (wpAny_dictEpoch N9 ED ?_)));rw[zzn (by simp)];refine zdo ?_;simp only[show ¬((i:Int)<0) from by first|decide|omega,if_false,za1,zcX Vq];refine zdn (zdn (wpAny_typeNameOfWhole_itemiter hT (zdo ?_)));show wpAny _ _ (setField (.ref it) 2 .none >>= _) _ _ s;refine zdn (wpAny_setField hit rfl (by simp) ?_);show wpAny _ _ (newExc (.type "StopIteration") [] >>= _) _ _ _;refine zdn ?_;simp only[newExc,newTuple];refine zdn (wpAny_newObj_type (zdn (m:=firstArgMember _ _) (wpAny_of_eq (a:=Value.none) (by first |rfl |(simp only[firstArgMember];rfl)) (wpAny_newObj_type ?_ (by size_fits)))) (by size_fits));simp only[raiseNew];refine zdn (wpAny_handled ?_);rw[show A.in1.handled=none from hh];refine zdn (zdo (wpAny_throw (zdn ?_)));refine wpAny_isInstance (T:="StopIteration") (b:=true) ⟨_,Heap.get?_push_size _ rfl,rfl⟩ isSubtype_stop ?_;exact zdo (hQ _ (((Heap.SameBut.update ..).extBut.push _).push _))
end
def EV (ps:List (zdk×V)) (es:Array DictEntry):Prop:=Paired (fun (p:zdk×V) (e:DictEntry)=>e.key=.ref p.1/\RelV p.2 e.val) ps es.toList
theorem EV.size{ps:List (zdk×V)}{es:Array DictEntry}(h:EV ps es):es.size=ps.length:=by rw[<- za8];exact(Paired.length h).symm
theorem EV.at{ps:List (zdk×V)}{es:Array DictEntry}(h:EV ps es){i:Nat}(hi:i<es.size):∃b v,ps[i]?=some (b,v)/\es[i].key=.ref b/\RelV v es[i].val:=by
 obtain⟨⟨b,v⟩,e,e2⟩:=eY h (i:=i) (v:=es[i]) (by rw[zaZ,zbi hi]);exact⟨b,v,e,e2.1,e2.2⟩
def Tp (d:zdk) (o:Obj) (ps:List (zdk×V)):It:=
 ⟨fun i H=>H d=some (eW d o)/\i<ps.length,fun i H x H'=>H'=H/\∃b v,x=.ref b/\ps[i]?=some (b,v),fun i H=>H d=some (eW d o)/\ps.length<=i⟩
def Itm (d:zdk) (o:Obj) (ps:List (zdk×V)):It:=
 ⟨fun i H=>H d=some (eW d o)/\i<ps.length,fun i H x H'=>∃p b v,x=.ref p/\H p=none/\H'=upd H p (.tup [.ref b,v])/\ps[i]?=some (b,v),fun i H=>H d=some (eW d o)/\ps.length<=i⟩
theorem II{P:zdw}{w:zdm}{K:zaa}{tg:Expr}{d it:zdk}{o:Obj}{ps:List (zdk×V)}{es:Array DictEntry}{ep:Nat}(hx:o.ExactDict)(hd:o.data=.dict es ep)(ev:EV ps es) :
 Turn P w K tg (Tp d o ps) [it] it (fun i h=>h.IsKeyIter it d i es.size ep) where
 mem:=by simp
 obj:=fun i h st b hb=>by
  obtain⟨oi,eo,c,dd⟩:=st;have z:b=it:=by simpa using hb
  subst z;exact⟨oi,eo,fun v z=>by rw[dd] at z;cases z⟩
 keep:=fun i h h' st k=>st.at fun o x=>k it (by simp) o x
 item:=by
  intro X hP hw hK hc i pins s σ H E I hf st hg;subst hP hw hK;obtain⟨hH,hi⟩:=hg;rw[<- ev.size] at hi;obtain⟨f0,f1,f2,f3,f4,f5⟩:=hf it (by simp);obtain⟨b,v,e1,e2,_⟩:=ev.at hi;refine CQ st ⟨o,eW.get I.cM hH,hx,hd⟩ hi fun h' He sb=>?_;obtain⟨oi,eo,c,dd⟩:=id He;refine⟨_,rfl,FG (s:={s with heap:=h' }) (n:="dict_keyiterator") eo c dd (by decide) ⟨.ref b,H,I.turned (t':=s.toks) (fun b o hb e=>sb.extBut b o hb e) f0 f1 f3 f4 f5,e2,⟨rfl,b,v,rfl,e1⟩,He,fun b hb=>(hf b hb).1⟩⟩
 done:=by
  intro X hP hw hK hc i pins s σ H E I hf st hg;subst hP hw hK;obtain⟨hH,hi⟩:=hg;rw[<- ev.size] at hi;obtain⟨f0,f1,f2,f3,f4,f5⟩:=hf it (by simp);exact GC (I.ok.hd hc) st ⟨o,eW.get I.cM hH,hx,hd⟩ hi fun h' eb=>⟨rfl,I.turned (t':=s.toks) (fun b o hb e=>eb b o hb e) f0 f1 f3 f4 f5⟩
 self:=fun _ _ _ _ _ st h=>wpAny_pyIter_keyiter st h
theorem E2{P:zdw}{w:zdm}{K:zaa}{elts:List Expr}{x1}{pos:Pos}{d it:zdk}{o:Obj}{ps:List (zdk×V)}{es:Array DictEntry}{ep:Nat}(hx:o.ExactDict)(hd:o.data=.dict es ep)(ev:EV ps es) :
 Turn P w K (.Tuple elts x1 pos) (Itm d o ps) [it] it (fun i h=>∃ok ov,IsItemIter h it d i es.size ep ok ov) where
 mem:=by simp
 obj:=fun i h st b hb=>by
  obtain⟨ok,ov,he⟩:=st;have z:b=it:=by simpa using hb
  subst z;exact⟨_,he,fun v z=>by cases (show Data.fields _=Data.cell v from z)⟩
 keep:=fun i h h' st k=>let ⟨ok,ov,he⟩:=st;⟨ok,ov,k it (by simp) _ he⟩
 item:=by
  intro X hP hw hK hc i pins s σ H E I hf st hg;subst hP hw hK;obtain⟨hH,hi⟩:=hg;rw[<- ev.size] at hi;obtain⟨b,v,e1,e2,rv⟩:=ev.at hi;obtain⟨ok,ov,he⟩:=st;refine IH he ⟨o,eW.get I.cM hH,hx,hd⟩ hi fun h' ho hT hsz hk=>?_;refine⟨_,rfl,?_⟩;refine wpAny_letOwnedTupleGo_items ho fun h2 Th sb=>?_;have Gb:it<s.heap.objs.size:=Heap.lt_size he;have I1:Inv X pins σ H {s with heap:=h2,toks:=s.toks}:=I.qj (t':=s.toks) (fun b o hb q=>(sb.2 b fun z=>hb (by simp[z])).trans (hk b o (fun z=>hb (by simp[z])) q)) hf;have fr:H s.heap.objs.size=none:=I.cM.fresh (zaf _);obtain⟨g0,g1,g2,g3,g4,g5⟩:=I.B2 (zaf _) fr;have NR:h2.get? s.heap.objs.size=some {cls:=.type "tuple",data:=.seq #[es[i].key,es[i].val]}:=(sb.2 _ (zbM Gb)).trans hT;rw[e2] at NR;have I2:=I1.told (o:=.tup [.ref b,v]) fr I.sz g1 g4 g5 ⟨(show (2:Nat)<=zds by decide),[.ref b,es[i].val],.cons rfl (.cons rv .nil),⟨_,NR,rfl,_,rfl⟩⟩;refine⟨.ref s.heap.objs.size,_,I2,rfl,⟨_,b,v,rfl,fr,rfl,e1⟩,⟨_,_,Th⟩,fun c hb=>?_⟩;have z:c=it:=by simpa using hb
  subst z;rw[aw (zaD Gb)];exact(hf c hb).1
 done:=by
  intro X hP hw hK hc i pins s σ H E I hf st hg;subst hP hw hK;obtain⟨hH,hi⟩:=hg;rw[<- ev.size] at hi;obtain⟨ok,ov,he⟩:=st;exact LY (I.ok.hd hc) he ⟨o,eW.get I.cM hH,hx,hd⟩ hi fun h' eb=>⟨rfl,I.qj (t':=s.toks) (fun b o hb q=>eb b o (fun z=>hb (by simp[z])) q) hf⟩
 self:=fun _ _ _ _ _ st h=>let ⟨_,_,he⟩:=st;PySem.W.kcp_self he h
section
variable{prog:zdw}{w:zdm}{κ:Type}[DecidableEq κ]{knd:HeapKind prog w κ}{A:zdv}{E:zdl->zdu->Prop}{s:zdu}
theorem OJ{d a:zdk}{xs:List (κ×zdk×zdl)}{k:κ}{v:zdl}{Q:zdl->zdu->Prop}(hu:knd.room A)(DY:knd.is s.heap k a)(hm:s.heap.DictOfH knd d xs)(hsz:xs.length<=zds)
 (h1:∀p,atKey xs k=some p->Q p.2 {s with toks:=s.toks+knd.draws k})
 (h2:atKey xs k=none->∀h',h'.DictOfH knd d (storedH xs k a v)->Heap.SameBut d s.heap h'->Q v {s with heap:=h',toks:=s.toks+knd.draws k}) :
 wpAny (model prog w) A (dictSetDefault d (.ref a) v) Q E s:=by
 obtain⟨o,es,ep,ho,hc,hd,he,his,hn⟩:=hm;unfold dictSetDefault
 try with_reducible refine zdp ?_
 refine zdn (knd.pyHash hu DY (zdn (wpAny_dictFind_heap (s:={s with toks:=s.toks+knd.draws k}) hu DY ho hd he his hn ?_ ?_)))
 ·intro Ny;have Zn:k ∉ xs.map (·.1):=not_mem_keys_of_get Ny;refine zdn (wpAny_rule (zdn (wpAny_updateDictKeys (hz:=by have e:=size_of_entries he;omega) (s:={s with toks:=s.toks+knd.draws k}) ho hd (zdo (h2 (atKey_none_of_get Ny) _ ⟨_,_,ep+1,Heap.get?_update_self _ ho (Obj.isFreed_of_dict (Obj.data_mapDictKeys hd _)),
   hc.mapDictKeys _,Obj.data_mapDictKeys hd _,?_,?_,?_⟩ (Heap.SameBut.update ..))))))
  ·rw[storedH_new (atKey_none_of_get Ny)];simp[he,entryOfKey]
  ·rw[storedH_new (atKey_none_of_get Ny)];intro x hx;rcases zaz.mp hx with hx |hx
   ·exact knd.keeps (his x hx) ho hd (Heap.SameBut.update ..)
   ·simp only[zar] at hx;subst hx;exact knd.keeps DY ho hd (Heap.SameBut.update ..)
  ·rw[storedH_new (atKey_none_of_get Ny),zaw,zbS];refine⟨hn,by simp,?_⟩;intro x hx y hy;simp only[zal,za3,zar] at hy;subst hy;exact fun e=>Zn (e▸hx)
 ·intro j p hj;refine zdn (wpAny_dictEntries (s:={s with toks:=s.toks+knd.draws k}) ho hd ?_);rw[entry_at he j,hj];exact zdn (wpAny_rule (zdo (h1 p (atKey_of_get hn hj))))
theorem Bb{d a:zdk}{k:κ}{v:zdl}(hd:(d==sysModules)=false) :
 MeetsIn prog w (Builtin.«dict.setdefault» ⟨[.ref d,.ref a,v],[]⟩) (fun A R s=>∃xs,knd.room A.in1/\knd.is s.heap k a/\s.heap.DictOfH knd d xs/\xs.length<=zds/\
  (∀p,atKey xs k=some p->R (.ok (.ret p.2)) {s with toks:=s.toks+knd.draws k})/\
  (atKey xs k=none->∀h',h'.DictOfH knd d (storedH xs k a v)->Heap.SameBut d s.heap h'->R (.ok (.ret v)) {s with heap:=h',toks:=s.toks+knd.draws k})):=
 .of_wp fun A R s ⟨xs,hu,DY,hm,hz,h1,h2⟩=>by
  unfold Builtin.«dict.setdefault»;refine zdn ?_;unfold Builtin.Dict.keyAndDefault;refine zdn (wpAny_notOrdered_dict hm.typeIs ?_);show wpAny _ _ (pure (d,Value.ref a,some v)) _ _ s;refine zdo ?_;show wpAny _ _ (if (d==sysModules)=true then _ else (dictSetDefault d (.ref a) v >>= _)) _ _ s;rw[zzn (by rw[hd];exact zai)];exact zdn (OJ hu DY hm hz (fun p hp=>zdo ⟨p.2,rfl,h1 p hp⟩) fun hn h' Y6 hs'=>zdo ⟨v,rfl,h2 hn h' Y6 hs'⟩)
end
section
variable{κ:Type}[DecidableEq κ](J:KH κ)
structure Fz(P:zdw)(w:zdm)(K:zaa)(H:Hp)(d:zdk)(ax:List (κ×V))(o:Obj):Prop where
 len:ax.length<=zds
 sys:(d==sysModules)=false
 at_:∃xs,(∀h:Heap,h.get? d=some o->gQ J P w d xs h)/\KS J K H ax xs/\(xs.map (·.1)).Nodup
def OK (K:zaa) (H:Hp) (ax:List (κ×V)) (ps:List (zdk×V)):Prop:=Paired (fun (kv:κ×V) (p:zdk×V)=>J.on K H kv.1 p.1/\p.2=kv.2) ax ps
def Qi (P:zdw) (w:zdm) (K:zaa) (tl:TE):TI:=fun σ H R=>tl σ H fun x H1=>∃d ax,x=.ref d/\DS J P w K H1 d ax/\∀o ps,Fz J P w K H1 d ax o->OK J K H1 ax ps->R (Tp d o ps) (upd H1 d (eW d o))
def lG (p d:zdk):Heap->Prop:=fun h=>h.IsItemsView p d
def LZ (P:zdw) (w:zdm) (K:zaa) (to:TE):TE:=fun σ H Q=>to σ H fun x H1=>∃d ax,x=.ref d/\DS J P w K H1 d ax/\∀p,H1 p=none->Q (.ref p) (upd H1 p (.ext (lG p d)))
def L1 (P:zdw) (w:zdm) (K:zaa) (tl:TE):TI:=fun σ H R=>tl σ H fun x H1=>∃p d ax,x=.ref p/\H1 p=some (.ext (lG p d))/\DS J P w K H1 d ax/\∀o ps,Fz J P w K H1 d ax o->OK J K H1 ax ps->R (Itm d o ps) (upd H1 d (eW d o))
def Qj (P:zdw) (w:zdm) (K:zaa) (to:TE) (t:TA):TE:=fun σ H Q=>to σ H fun x H1=>∃a,x=.ref a/\(∃ax,DS J P w K H1 a ax)/\t σ H1 fun vs H2=>∃b ax k v,vs=[.ref b,v]/\DS J P w K H2 a ax/\J.on K H2 k b/\ax.length<zds/\
 (∀u,cm ax k=some u->Q u H2)/\(cm ax k=none->∀H3,DS J P w K H3 a (putK ax k v)->(∃φ,H3=upd H2 a (.ext φ))->Q v H3)
variable{J}
theorem Fz.Vy{P:zdw}{w:zdm}{K:zaa}{H H':Hp}{d:zdk}{ax:List (κ×V)}{o:Obj}(f:Fz J P w K H d ax o)(hd:H' d=some (eW d o))(t:∀b ys,bQ K H b ys->bQ K H' b ys) :
 ∃φ,(∀h:Heap,h.get? d=some o->φ h)/\(∀g1 g2:Heap,φ g1->(∀o,g1.get? d=some o->g2.get? d=some o)->φ g2)/\DS J P w K (upd H' d (.ext φ)) d ax:=by
 obtain⟨xs,h1,h2,h3⟩:=f.at_;refine⟨_,h1,fun g1 g2 p1 kp=>?_,⟨f.len,f.sys,xs,ae,h2.up fun b ys q=>(t b ys q).ext hd,h3⟩⟩;obtain⟨ob,es,ep,e1,e2,e3,e4⟩:=p1;exact⟨ob,es,ep,kp ob e1,e2,e3,e4⟩
theorem Qk{P:zdw}{w:zdm}{K:zaa}{H:Hp}:∀ {ax:List (κ×V)} {xs:List (κ×zdk×zdl)},KS J K H ax xs->∃ps,OK J K H ax ps/\Paired (fun (p:zdk×V) (e:DictEntry)=>e.key=.ref p.1/\RelV p.2 e.val) ps (xs.map (entryOfKey (J.knd P w)))
 |[],_,h=>by cases h;exact⟨[],.nil,.nil⟩
 |(k,v)::r,_,h=>by
  cases h with
  |cons a b=>
   obtain⟨ps,p1,p2⟩:=Qk (P:=P) (w:=w) b;exact⟨(_,v)::ps,.cons ⟨a.2.1,rfl⟩ p1,.cons ⟨rfl,a.2.2⟩ p2⟩
section
variable{X:Cx}{tg l e e1 e2:Expr}{es:List Expr}{tl te to:TE}{ta:TA}{pins:List (zdk×Obj)}{σ:St}{H:Hp}{s:zdu}{apos m9:Pos}
theorem freeze{d:zdk}{ax:List (κ×V)}(I:Inv X pins σ H s)(ds:DS J X.prog X.w X.K H d ax):∃o es ep ps,s.heap.get? d=some o/\o.ExactDict/\o.data=.dict es ep/\EV ps es/\Fz J X.prog X.w X.K H d ax o/\OK J X.K H ax ps/\Inv X pins σ (upd H d (eW d o)) s:=by
 obtain⟨z,sy,xs,e,rel,nd⟩:=ds;obtain⟨⟨o,es,ep,h1,h2,h3,h4⟩, -⟩:=(show dh X.prog X.w H s.heap d (.ext (gQ J X.prog X.w d xs)) from I.cM d _ e)
 obtain⟨ps,p1,p2⟩:=Qk (P:=X.prog) (w:=X.w) rel;refine⟨o,es,ep,ps,h1,h2,h3,?_,⟨z,sy,xs,fun h eh=>⟨o,es,ep,eh,h2,h3,h4⟩,rel,nd⟩,p1,kZ (h':=s.heap) (t':=s.toks) I (by rw[e];exact True.intro) ⟨rfl,fun _ _=>rfl⟩ ⟨o,h1⟩ (eW.ok h1)⟩;unfold EV;rw[h4];exact p2
theorem L4(hl:PE X l tl):PI X tg l (Qi J X.prog X.w X.K tl):=by
 intro pins s σ H R I h;refine eZ (hl pins s σ H _ I h) fun v s1 zqz=>?_;obtain⟨x,H1,I1,r1,q1⟩:=zqz;obtain⟨d,ax,rfl,ds,q⟩:=q1;cases r1;obtain⟨o,es,ep,ps,h1,h2,h3,ev,fz,po,I2⟩:=freeze I1 ds;refine CP ds.sys ⟨o,h1,h2,h3⟩ ?_;have I3:=I2.kept (t':=s1.toks) (h':=s1.heap.push {cls:=.type "dict_keyiterator",data:=.fields #[.ref d,.int 0 0,.int es.size 0,.int ep 0]}) fun b o e=>Heap.get?_push_of_some _ e;refine⟨s1.heap.objs.size,[s1.heap.objs.size],_,Tp d o ps,_,rfl,I3,II h2 h3 ev,⟨_,Heap.get?_push_size _ rfl,rfl,rfl⟩,fun b hb=>?_,q o ps fz po⟩;have e:b=s1.heap.objs.size:=by simpa using hb
 subst e;exact I2.B2 (zaf _) (I2.cM.fresh (zaf _))
theorem L5(ho:PE X e to)(xh:attributeBase e "items" X.env (eval e X.env)=eval e X.env:=by rfl)(xi:(apos.endLine==m9.line)=true:=by rfl):PE X (.Call (.Attribute e "items" apos) [] [] m9) (LZ J X.prog X.w X.K to):=by
 intro pins s σ H Q I h;refine wpAny_Call_method0_late xh xi (eZ (ho pins s σ H _ I h) fun v s1 zqz=>?_);obtain⟨x,H1,I1,r1,q1⟩:=zqz;obtain⟨d,ax,rfl,ds,q⟩:=q1;cases r1;obtain⟨o,es,ep,ps,h1,h2,h3,ev,fz,po,I2⟩:=freeze I1 ds;refine⟨"dict", "dict.items",zca,zcO,PySem.F.type_dict_items,⟨o,h1,h2.1⟩,fun a e2=>by cases e2;exact⟨o,h1,h2.2.1⟩,Calls.callWith_builtin rfl (PySem.evalArgs_none ?_)⟩;refine call_meetsIn zcO ⟨o,h1,h2.1⟩ PySem.F.entry_dict_items (PySem.F.args_dict_items_1 _) (C2 d ds.sys) ⟨⟨es,ep,o,h1,h2,h3⟩,?_⟩;refine⟨.ref s1.heap.objs.size,_,I1.laid (a:=s1.heap.objs.size) (o:=.ext (lG s1.heap.objs.size d)) (t':=s1.toks) (fun _ _ q=>Heap.get?_push_of_some _ q) (zaf _) ⟨⟨_,Heap.get?_push_size _ rfl,rfl,rfl⟩,⟨_,Heap.get?_push_size _ rfl⟩,fun g1 g2 p1 kp=>?_⟩,rfl,q _ (I1.cM.fresh (zaf _))⟩;obtain⟨ob,e1,e2⟩:=p1;exact⟨ob,kp ob e1,e2⟩
theorem IJ{elts:List Expr}{x1}{tp:Pos}(hl:PE X l tl):PI X (.Tuple elts x1 tp) l (L1 J X.prog X.w X.K tl):=by
 intro pins s σ H R I h;refine eZ (hl pins s σ H _ I h) fun v s1 zqz=>?_;obtain⟨x,H1,I1,r1,q1⟩:=zqz;obtain⟨p,d,ax,rfl,hp,ds,q⟩:=q1;cases r1;obtain⟨o,es,ep,ps,h1,h2,h3,ev,fz,po,I2⟩:=freeze I1 ds;have hv:s1.heap.IsItemsView p d:=(I1.cM p _ hp).1;refine IG hv ⟨o,h1,h2,h3⟩ ?_;have I3:=I2.kept (t':=s1.toks) (h':=s1.heap.push {cls:=.type "dict_itemiterator",data:=.fields #[.none,.bool false,.ref d,.int 0 0,.int es.size 0,.int ep 0,.none,.none]}) fun b o e=>Heap.get?_push_of_some _ e;refine⟨s1.heap.objs.size,[s1.heap.objs.size],_,Itm d o ps,_,rfl,I3,E2 h2 h3 ev,⟨_,_,Heap.get?_push_size _ rfl⟩,fun b hb=>?_,q o ps fz po⟩;have e:b=s1.heap.objs.size:=by simpa using hb
 subst e;exact I2.B2 (zaf _) (I2.cM.fresh (zaf _))
theorem IK(hu:X.A.units+16<cLine)(ho:PE X e to)(ha:PA X [e1,e2] ta)
 (xh:attributeBase e "setdefault" X.env (eval e X.env)=eval e X.env:=by rfl)
 (Ri:((backTo m9 (zdq [e1,e2] X.env)).all (fun x=>!x.1)&&(backToKw m9 (keywordEach [] X.env)).all (fun x=>x.1.isSome)
  && decide ([e1,e2].length+([]:List Keyword).length+(if ([]:List Keyword).isEmpty then 0 else 1)<30))=true:=by rfl)
 (xi:(apos.endLine==m9.line)=true:=by rfl) (hs:zdq [e1,e2] X.env=(false,eval e1 X.env)::zdq [e2] X.env:=by rfl) (Ej:(backTo m9 (zdq [e2] X.env)).any (·.1)=false:=by rfl) :
 PE X (.Call (.Attribute e "setdefault" apos) [e1,e2] [] m9) (Qj J X.prog X.w X.K to ta):=by
 intro pins s σ H Q I h;refine wpAny_Call_method_late xh Ri xi rfl (eZ (ho pins s σ H _ I h) fun v s1 zqz=>?_);obtain⟨x,H1,I1,r1,q1⟩:=zqz;obtain⟨d,rfl,⟨R5,Xh⟩,q⟩:=q1;cases r1;obtain⟨o,es,ep,ps,h1,h2,h3,ev,fz,po,I2⟩:=freeze I1 Xh;refine⟨"dict", "dict.setdefault",zca,zcv,PySem.F.type_dict_setdefault,⟨o,h1,h2.1⟩,fun a e2=>by cases e2;exact⟨o,h1,h2.2.1⟩,?_⟩;have hA:=ha m9 pins s1 σ H1 _ I1 q;rw[hs] at hA ⊢;refine Calls.callWith_builtin (by show (false ||(backTo m9 (zdq [e2] X.env)).any (·.1))=false;rw[Ej]<;>rfl) (Calls.evalArgs_plain ?_);refine eZ hA fun us s2 zqz=>?_;obtain⟨vs,H2,I2,r2,q2⟩:=zqz;obtain⟨b,ax,k,v,rfl,ds,hk,lt,w1,w2⟩:=q2;obtain⟨u,rfl,rv⟩:∃u,us=[.ref b,u]/\RelV v u:=by
  cases r2 with
  |cons ra rb=>
   cases rb with
   |cons rv rn=>
    cases rn;cases ra;exact⟨_,rfl,rv⟩
 have dd:=ds;obtain⟨z,sy,xs,e,rel,nd⟩:=dd;have D2:=vR I2 e rel nd;have hz:xs.length<=zds:=by rw[<- Paired.length rel];exact z
 have rl:=rel.val k;refine call_meetsIn zcv D2.typeIs PySem.F.entry_dict_setdefault (PySem.F.args_dict_setdefault_3 _ _ _) (Bb (knd:=J.knd X.prog X.w) (k:=k) sy) ⟨xs,J.room hu,J.of I2 hk,D2,hz,fun p hp=>?_,fun hn h' FY hs=>?_⟩
 ·rw[hp] at rl;cases hv:cm ax k with
  |none=>rw[hv] at rl;exact rl.elim
  |some y=>
   rw[hv] at rl;exact⟨y,H2,I2.tok _,rl,w1 y hv⟩
 ·have hv:cm ax k=none:=by
   rw[hn] at rl;cases hv:cm ax k with
   |none=>rfl
   |some y=>rw[hv] at rl;exact rl.elim
  obtain⟨q,es,ep,hq,g2,g3,g4,_,g5⟩:=FY;have ph:gQ J X.prog X.w d (storedH xs k b u) h':=⟨q,es,ep,hq,g2,g3,g4⟩
  have hl:(putK ax k v).length<=zds:=by have:=ip ax k v;lia
  refine⟨v,upd H2 d (.ext (gQ J X.prog X.w d (storedH xs k b u))),kZ I2 (by rw[e];exact True.intro) hs ⟨q,hq⟩ ⟨ph,⟨q,hq⟩,fun g1 g2 p1 kp=>?_⟩,rv,w2 hv _ ⟨hl,sy,_,ae,(rel.put k hk rv).up fun c ys ec=>ec.ext e,g5⟩ ⟨_,rfl⟩⟩;obtain⟨ob,es,ep,h1,h2,h3,h4⟩:=p1;exact⟨ob,es,ep,kp ob h1,h2,h3,h4⟩
def GP (t:TE):TE:=fun σ H Q=>∃(d:zdk) (o:Obj) (φ:Heap->Prop),H d=some (eW d o)/\(∀h:Heap,h.get? d=some o->φ h)/\(∀g1 g2:Heap,φ g1->(∀o,g1.get? d=some o->g2.get? d=some o)->φ g2)/\t σ (upd H d (.ext φ)) Q
theorem GQ(hl:PE X l tl):PE X l (GP tl):=by
 intro pins s σ H Q I h;obtain⟨d,o,φ,hd,h1,h2,q⟩:=h;have g:=eW.get I.cM hd;exact hl pins s σ _ Q (kZ (ob:=.ext φ) (h':=s.heap) (t':=s.toks) I (by rw[hd];exact True.intro) ⟨rfl,fun _ _=>rfl⟩ ⟨o,g⟩ ⟨h1 _ g,⟨o,g⟩,fun g1 g2 p1 kp=>h2 g1 g2 p1 kp⟩) q
end
end
theorem C6{wi:TI}{g:TG}{tb:TS}{D:Ends}{σ:St}{H:Hp} (h:∀U:It->Hp->Prop,(∀J H1,(∃W:Nat->Nat->St->Hp->Prop,(∃m,W 0 m σ H1)/\∀i m σ H,W i m σ H->
 (J.stop i H/\D.nx σ H)\/(J.go i H/\∃N:St->Hp->Prop,(∀σ' H',N σ' H'->∃m',m'<m/\W (i+1) m' σ' H')/\∀x H',J.zw i H x H'->g x σ H' fun σ2 H2=>tb {D with nx:=N,ct:=N,bk:=D.nx} σ2 H2))->U J H1)->wi σ H U):Hf wi g tb D σ H:=h _ fun _ _ x=>x
theorem OL{d:zdk}{o:Obj}{ps:List (zdk×V)}{g:TG}{tb:TS}{D:Ends}{σ:St}{H:Hp}(Pv:Nat->St->Hp->Prop)(h0:Pv 0 σ H)(hl:∀i σ H,i<=ps.length->Pv i σ H->H d=some (eW d o))
 (hs:∀i b v σ H p,ps[i]?=some (b,v)->Pv i σ H->H p=none->g (.ref p) σ (upd H p (.tup [.ref b,v])) fun σ2 H2=>tb {D with nx:=Pv (i+1),ct:=Pv (i+1),bk:=D.nx} σ2 H2) (hd:∀σ H,Pv ps.length σ H->D.nx σ H) :
 ∃W:Nat->Nat->St->Hp->Prop,(∃m,W 0 m σ H)/\∀i m σ H,W i m σ H->
  ((Itm d o ps).stop i H/\D.nx σ H)\/((Itm d o ps).go i H/\∃N:St->Hp->Prop,(∀σ' H',N σ' H'->∃m',m'<m/\W (i+1) m' σ' H')/\∀x H',(Itm d o ps).zw i H x H'->g x σ H' fun σ2 H2=>tb {D with nx:=N,ct:=N,bk:=D.nx} σ2 H2):=by
 refine⟨fun i m σ H=>m=ps.length-i/\i<=ps.length/\Pv i σ H,⟨ps.length,by simp,za0 _,h0⟩,?_⟩
 rintro i m σ H ⟨rfl,hi,p⟩
 have q:=hl i σ H hi p;by_cases oC:i<ps.length
 ·refine .inr ⟨⟨q,oC⟩,Pv (i+1),fun σ' H' p'=>⟨ps.length-(i+1),by lia,rfl,oC,p'⟩,fun x H' y=>?_⟩;obtain⟨pp,b,v,rfl,hn,rfl,e⟩:=y;exact hs i b v σ H pp e p hn
 ·have e:i=ps.length:=by lia
  subst e;exact .inl ⟨⟨q,zaf _⟩,hd σ H p⟩
theorem OM{d:zdk}{o:Obj}{ps:List (zdk×V)}{g:TG}{tb:TS}{D:Ends}{σ:St}{H:Hp}(Pv:Nat->St->Hp->Prop)(h0:Pv 0 σ H)(hl:∀i σ H,i<=ps.length->Pv i σ H->H d=some (eW d o))
 (hs:∀i b v σ H,ps[i]?=some (b,v)->Pv i σ H->g (.ref b) σ H fun σ2 H2=>tb {D with nx:=Pv (i+1),ct:=Pv (i+1),bk:=D.nx} σ2 H2) (hd:∀σ H,Pv ps.length σ H->D.nx σ H) :
 ∃W:Nat->Nat->St->Hp->Prop,(∃m,W 0 m σ H)/\∀i m σ H,W i m σ H->
  ((Tp d o ps).stop i H/\D.nx σ H)\/((Tp d o ps).go i H/\∃N:St->Hp->Prop,(∀σ' H',N σ' H'->∃m',m'<m/\W (i+1) m' σ' H')/\∀x H',(Tp d o ps).zw i H x H'->g x σ H' fun σ2 H2=>tb {D with nx:=N,ct:=N,bk:=D.nx} σ2 H2):=by
 refine⟨fun i m σ H=>m=ps.length-i/\i<=ps.length/\Pv i σ H,⟨ps.length,by simp,za0 _,h0⟩,?_⟩
 rintro i m σ H ⟨rfl,hi,p⟩
 have q:=hl i σ H hi p;by_cases oC:i<ps.length
 ·refine .inr ⟨⟨q,oC⟩,Pv (i+1),fun σ' H' p'=>⟨ps.length-(i+1),by lia,rfl,oC,p'⟩,fun x H' y=>?_⟩;obtain⟨rfl,b,v,rfl,e⟩:=y;exact hs i b v σ H' e p
 ·have e:i=ps.length:=by lia
  subst e;exact .inl ⟨⟨q,zaf _⟩,hd σ H p⟩
def jC (pr:PG.Prog):iz->Tg->Option (List Int)
 |[],_=>none
 |x::r,t=>if t∈oG pr x.1 then some x.2 else jC pr r t
theorem ud(pr:PG.Prog):∀(f g:iz) (t:Tg),jC pr (f++g) t=(jC pr f t).or (jC pr g t)
 |[],g,t=>rfl
 |x::r,g,t=>by
  rw[zaJ,jC,jC];split
  ·rfl
  ·exact ud pr r g t
section
variable(P:zdw)(w:zdm)(K:zaa)(CC:zdk)
def xV (H:Hp):Option (List Int)->Option V->Prop
 |none,r=>r=none
 |some g,r=>∃a,r=some (.ref a)/\bQ K H a (g.map V.int)
def oI (H:Hp) (M:Tg->Option (List Int)) (ax:List (List Key×V)):Prop:=∀t,xV K H (M t) (cm ax (pL t))
def R6 (qual:Str) (Pt:zdk) (lp:Pos):Sp:=fun vs H Q _=>∃(ch:zdk) (pr:PG.Prog) (ps:Array zdl),vs=[.ref ch]/\wL K CC H ch pr/\iI pr/\bq pr<2000/\H Pt=some (.rE ps)/\TabOk qual lp H ps/\
 ∀D ax H' DH,aZ Pt H H'->H D=none->DS Iw P w K H' D ax->oI K H' (jC pr (cZ pr (jB pr))) ax->H' Pt=some (.rE DH)->TabOk qual lp H' DH->Q (.ref D) H'
def ON (qual:Str) (Pt:zdk) (lp:Pos):Sp:=fun vs H Q _=>∃(v tv:V) (pr:PG.Prog) (t:Tg) (ps:Array zdl),vs=[v,tv]/\Rep K H (je pr) v/\Rep K H (eR t) tv/\iI pr/\bq pr<2000/\H Pt=some (.rE ps)/\TabOk qual lp H ps/\
 ∀H' DH,aZ Pt H H'->H' Pt=some (.rE DH)->TabOk qual lp H' DH->(jC pr (cZ pr (jB pr)) t=none->Q .cC H')/\∀g l,jC pr (cZ pr (jB pr)) t=some g->H l=none->H' l=some (.lst (g.map V.int))->Q (.ref l) H'
def L6:Sp:=fun vs H Q _=>∃(md F:zdk) (tv:V) (pr:PG.Prog) (t:Tg) (f:iz) (ax:List (kT×V)),vs=[.ref md,.ref F,tv]/\eV K H md pr/\iI pr/\DS jO P w K H F ax/\eQ K H f ax/\(f.map (·.1)).Nodup/\(∀x∈f,cO pr x.1)/\Rep K H (eR t) tv/\
 ∀H',aZ F H H'->DS jO P w K H' F ax->(jC pr f t=none->Q .cC H')/\∀g l,jC pr f t=some g->H l=none->H' l=some (.lst (g.map V.int))->Q (.ref l) H'
end
section
variable{K:zaa}{H H':Hp}
theorem xV.imp{o:Option (List Int)}{r:Option V}(h:xV K H o r)(t:∀a xs,bQ K H a xs->bQ K H' a xs):xV K H' o r:=by
 cases o with
 |none=>exact h
 |some y=>obtain⟨a,h1,h2⟩:=h;exact⟨a,h1,t _ _ h2⟩
theorem oI.imp{M:Tg->Option (List Int)}{ax:List (List Key×V)}(h:oI K H M ax)(t:∀a xs,bQ K H a xs->bQ K H' a xs):oI K H' M ax:=fun g=>(h g).imp t
theorem oI.congr{M N:Tg->Option (List Int)}{ax:List (List Key×V)}(h:oI K H M ax)(e:∀t,M t=N t):oI K H N ax:=by rw[<- show M=N from funext e];exact h
theorem oI.put{M:Tg->Option (List Int)}{ax:List (List Key×V)}{t:Tg}{g:List Int}{a:zdk}(h:oI K H M ax)(n:M t=none)(q:bQ K H a (g.map V.int)):oI K H (fun u=>(M u).or (if u=t then some g else none)) (putK ax (pL t) (.ref a)):=fun u=>by
 show xV K H ((M u).or (if u=t then some g else none)) _;rw[oX];by_cases e:u=t
 ·subst e;rw[n,zzp rfl,zzp rfl];exact⟨a,rfl,q⟩
 ·rw[zzn e,zzn (fun z=>e (Iz z)),Option.or_none];exact h u
theorem eV.ext{md p:zdk}{pr:PG.Prog}{φ:Heap->Prop}(m:eV K H md pr)(h:H p=some (.ext φ))(u:aZ p H H'):eV K H' md pr:=by
 obtain⟨B,d8,wy,fa,us,ax,h1,h2,h3,h4,h5,h6,h7,h8⟩:=m.at_;refine⟨⟨B,d8,wy,fa,us,ax,?_,qv h u _ _ h2,u _ _ (bU h3 h (by intro z;cases z)) h3,h4,mJ h u _ _ h5,u _ _ (bU h6 h (by intro z;cases z)) h6,fun i hi=>let ⟨y,e,k⟩:=h7 i hi;⟨y,e,k.lW h u⟩,h8.ext h u⟩⟩;rcases h1 with (q |⟨o,q⟩) |q
 ·exact .inl (.inl (u _ _ (bU q h (by intro z;cases z)) q))
 ·exact .inl (.inr ⟨o,u _ _ (bU q h (by intro z;cases z)) q⟩)
 ·exact .inr q
end
theorem R7{κ:Type}[DecidableEq κ]{J:KH κ}{P:zdw}{w:zdm}{a:zdk}{oc:Obj}{vs:Array zdl}{xs:List (κ×zdk×zdl)}(hd:oc.data=.fields vs):eW a oc≠.ext (gQ J P w a xs):=by
 intro h;have e:=HO.ext.inj h;have g:Heap.get? ⟨zcS (a+1) oc,{}⟩ a=some oc:=by
  obtain⟨c,d,dt,sl⟩:=oc;cases (show dt=_ from hd);unfold Heap.get?;rw[Array.getElem?_replicate,zzp (zcC a)]
 have f:=congrFun e ⟨zcS (a+1) oc,{}⟩;have k:gQ J P w a xs ⟨zcS (a+1) oc,{}⟩:=by rw[<- f];exact g
 obtain⟨o,es,ep,h1,h2,h3,h4⟩:=k;rw[g] at h1;cases h1;rw[hd] at h3;cases h3
theorem TabOk.ds{κ:Type}[DecidableEq κ]{J:KH κ}{P:zdw}{w:zdm}{K:zaa}{H H':Hp}{qual:Str}{lp:Pos}{ps:Array zdl}{D:zdk}{ax:List (κ×V)}(h:TabOk qual lp H ps)(d:DS J P w K H D ax)(u:aZ D H H'):TabOk qual lp H' ps:=by
 rcases h with h |⟨c',oc,vs,tk,e,h1,h2,h3⟩
 ·exact .inl h
 ·refine .inr ⟨c',oc,vs,tk,e,u _ _ (fun z=>?_) h1,h2,h3⟩;obtain⟨xs,e1,_⟩:=d.at_;subst z;rw[e1] at h1;exact R7 h2 (zaO.inj h1).symm
theorem yV{X:Cx}{K:zaa}(e:X.K=K):mq X (.builtin "len") (fun xs H Q=>∃p ys,xs=[.ref p]/\(i7 K H p ys\/bQ K H p ys)/\Q (.int ys.length) H):=e▸bE
theorem E3{K:zaa}{D Dk S:zdk}{n:Nat}{te:TE}{Q:VK}{r:St}{H:Hp}{sc:List Int}{p:Nat}(ok:V->Prop)(hl:n<=16000000)(hD:H D=none)(dk:i6 K H Dk S sc p)
 (step:∀(i:Nat) x H2,i<n->aZ Dk H H2->i6 K H2 Dk S sc (p+i)->∀R:VK,(∀v H3,ok v->aZ Dk H2 H3->i6 K H3 Dk S sc (p+i+1)->R v H3)->te (some x::r) H2 R)
 (q:∀(vs:List V) H2,vs.length=n->(∀m∈vs,ok m)->aZ Dk H H2->i6 K H2 Dk S sc (p+n)->H2 D=some (.lst vs)->Q (.ref D) H2) :
 vM (Jf 0 n) D (eM 0) AL te Q (none::r) (upd H D (.lst [])):=by
 have nD:D≠Dk:=fun z=>by rw[z,dk.bF] at hD;cases hD
 have nS:S≠D:=fun z=>by have:=dk.fY;rw[z,hD] at this;cases this
 have dkp:∀ {H2:Hp} {j:Nat} {o:HO},i6 K H2 Dk S sc j->i6 K (upd H2 D o) Dk S sc j:=fun d=>⟨by rw[aw nD.symm];exact d.bF,by rw[aw nS];exact d.fY,d.ne,d.len⟩
 have Vz:∀ {H2:Hp} {o:HO},aZ Dk H H2->aZ Dk H (upd H2 D o):=fun u b w n e=>by rw[aw (ai e hD)];exact u b w n e
 refine⟨fun i m τ H2=>m=n-i/\i<=n/\(∃x,τ=x::r)/\aZ Dk H H2/\i6 K H2 Dk S sc (p+i)/\∃vs:List V,H2 D=some (.lst vs)/\vs.length=i/\∀m∈vs,ok m,⟨n,by simp,za0 _,⟨none,rfl⟩,Vz (.of (aq.refl _)),dkp dk,[],ae,rfl,fun m z=>by simp at z⟩,?_⟩
 rintro i m τ H2 ⟨rfl,hi,⟨x,rfl⟩,u2,d2,vs,h2,ly,p2⟩
 by_cases oC:i<n
 ·refine .inr ⟨oC,fun τ' H'=>(∃x,τ'=x::r)/\aZ Dk H H'/\i6 K H' Dk S sc (p+i+1)/\∃vs:List V,H' D=some (.lst vs)/\vs.length=i+1/\∀m∈vs,ok m,fun τ' H' ⟨h1,h3,h4,h5⟩=>⟨n-(i+1),by lia,rfl,oC,h1,h3,h4,h5⟩,fun y H' hy=>?_⟩;obtain⟨rfl,rfl⟩:=hy;simp only[eM,zaT,AL];rw[zzp trivial];refine step i _ _ oC u2 d2 _ fun v H3 hv u3 d3=>⟨vs,u3 _ _ nD h2,?_,⟨_,rfl⟩,Vz (u2.trans u3),dkp d3,vs++[v],ae,by simp[ly],fun m hm=>?_⟩
  ·have:zds=2 ^ 24:=rfl;lia
  ·rcases zaz.mp hm with hm |hm
   ·exact p2 m hm
   ·rw[zar.mp hm];exact hv
 ·have e:i=n:=by lia
  subst e;exact .inl ⟨zaf _,q vs H2 ly p2 u2 d2 h2⟩
section
variable{K:zaa}{H H':Hp}
theorem eV.kp{md:zdk}{pr:PG.Prog}(m:eV K H md pr)(k:Kp H H'):eV K H' md pr:=by
 obtain⟨B,d8,wy,fa,us,ax,h1,h2,h3,h4,h5,h6,h7,h8⟩:=m.at_;exact⟨⟨B,d8,wy,fa,us,ax,h1.kp k,vq k _ _ h2,k _ _ h3 (fun _ z=>by cases z),h4,ub k _ _ h5,k _ _ h6 (fun _ z=>by cases z),fun i hi=>let ⟨y,e,q⟩:=h7 i hi;⟨y,e,q.kp k⟩,h8.kp k⟩⟩
theorem Kp.trans{H2:Hp}(a:Kp H H')(b:Kp H' H2):Kp H H2:=fun c o e n=>b c o (a c o e n) n
end
def Bc (m:Nat) (f:iz):Prop:=∀x∈f,x.2.length<=m
section
variable{led:b7->List b7}
theorem Be{m:Nat}:∀(n:Nat) (f:iz) (s:b7) (g:List Int),Bc m f->g.length<=m->Bc m (lX led n f s g).1
 |0,f,s,g,h,_=>h
 |n+1,f,s,g,h,hg=>by
  have h1:Bc m (f++[(s,g)]):=fun x hx=>by
   rcases zaz.mp hx with hx |hx
   ·exact h x hx
   ·rw[zar.mp hx];exact hg
  rw[lX];split
  ·exact h
  ·split
   ·exact Be n _ _ g h1 hg
   ·exact h1
theorem Ai{m n:Nat}:∀(l:iz) (f:iz),Bc m f->Bc m l->Bc m (c8 led n f l).1
 |[],f,h,_=>h
 |(s,g)::r,f,h,hl=>Ai r _ (Be n f s g h (hl _ (zaq ..))) fun x hx=>hl x (zat _ hx)
theorem C7{S:b7->Prop}(li:∀s,S s->∀x∈led s,S x){n:Nat}:∀(m k:Nat) (f:iz) (as:List (List Int×List b7)),yU S f->Bc k f->vm S k as->Bc (k+m) (ua led n m f as)
 |0,_,f,as,_,h,_=>h
 |m+1,k,f,as,h0,h,h2=>by
  rw[ua];split
  ·exact fun x hx=>zaC (h x hx) (by lia)
  ·have g:=pN li (n:=n) (m:=k+1) (cA as) f h0 (mK h2);have:=C7 li (n:=n) m (k+1) _ _ g.1 (Ai (n:=n) (cA as) f (fun x hx=>zbF (h x hx)) fun x hx=>(mK h2 x hx).2) g.2.1;rw[show k+(m+1)=k+1+m by lia];exact this
end
theorem IL{pr:PG.Prog}(d:iI pr):Bc (bq pr+2) (cZ pr (jB pr)):=by
 have li:∀s,cO pr s->∀x∈cR pr s,cO pr x:=fun s h=>t9 d h;have g:=vn li (m:=0) (bq pr+1) [] (jB pr) [] .nil (cO.first d) (zaf _);have:=C7 li (n:=bq pr+1) (bq pr+2) 0 _ _ g.1 (Be (bq pr+1) [] (jB pr) [] (fun x hx=>by cases hx) (zaf _)) g.2.1;rw[zbx] at this;exact this
theorem C8(pr:PG.Prog):∀(f:iz) (t:Tg) {g:List Int},jC pr f t=some g->∃x∈f,x.2=g
 |[],t,g,h=>by cases h
 |x::r,t,g,h=>by
  rw[jC] at h;split at h
  ·cases h;exact⟨x,zaq ..,rfl⟩
  ·obtain⟨y,hy,e⟩:=C8 pr r t h;exact⟨y,zat _ hy,e⟩
theorem xW{α β γ:Type}(F:α->β->γ->Prop->Prop):∃X:α->β->γ->Prop,(∀a b c,(∀zq,F a b c zq->zq)->X a b c)/\∀a b c,X a b c->∀zq,F a b c zq->zq:=⟨fun a b c=>∀zq,F a b c zq->zq,fun _ _ _ h=>h,fun _ _ _ h=>h⟩
section
variable{X:Cx}{k n:Nat}{f:zdk}{fd:zdt}{ps:List Str}{sp:Sp}{x:Str}{st:Stmt}{e:Expr}{es:List Expr}{t:TA}{te:TE}{p pos pos':Pos}
theorem da(F:bJ X.prog X.w X.K X.mg X.base dw k f fd ps sp)(D:cb X.K X.mg x st ps f fd)(hr:ib n X.A)(ha:PA X (e::es) t)(h:k<=n:=by first |decide |omega)(hg:Gl X x:=by rfl)(JH:(x==("__debug__":Str))=false:=by decide)
 (he:zdq (e::es) X.env=(false,eval e X.env)::zdq es X.env:=by rfl) (BN:(backTo pos (zdq es X.env)).any (·.1)=false:=by rfl):PE X (.Call (.Name x p) (e::es) [] pos) (B5 sp [] E0 t):=
 FQ F (hr.mono h) hg D.m D.F.kp D.b .nil JS ha JH he BN
theorem c5(i:Nat)(hN:X.N.Nodup)(he:PE X e te)(hi:X.N[i]?=some x:=by rfl)(hx:Loc X.env.scope x:=by exact zbq rfl)(hs:swapsWith e (some (.Name x pos')) pos.line X.env=pure false:=by rfl)(hf:X.fn x=true\/X.env.scope.names.lookup x=some .local:=by first |exact .inl rfl |exact .inr rfl |assumption) :
 PS X (.Assign [.Name x pos'] e pos) (Hc te (eM i)):=DT hN hi hx he hs hf
theorem lY(i:Nat)(hN:X.N.Nodup)(hi:X.N[i]?=some x:=by rfl)(hx:Loc X.env.scope x:=by exact zbq rfl)(hf:X.fn x=true\/X.env.scope.names.lookup x=some .local:=by first |exact .inl rfl |exact .inr rfl |assumption):PG X (.Name x pos) (eM i):=fZ hN hi hx hf
theorem bc(i:Nat)(hr:PA X es t)(hN:X.N[i]?=some x:=by rfl)(hv:T1 X.env.scope x:=by first |exact zbq rfl |exact zcE (zbq rfl) |exact zcE (zcE rfl))(hd:(x==("__debug__":Str))=false:=by decide)(B0:(x==("__classdict__":Str))=false:=by decide):PA X (.Name x pos::es) (xf (gm i) t):=ag (pv i hN hv hd B0) hr jY
end
end L2
section
set_option maxHeartbeats 4000000
namespace R8
open PG
open PySem L2
def top (i:Nat):Stmt:=PySem.Challenge.pw_everyrow_k28_whole_shortest_inputs.main.body.getD i (.Pass ⟨0,0,0,0⟩)
abbrev E4:Stmt:=top 2
abbrev kD:Stmt:=top 3
abbrev pO:Stmt:=top 4
abbrev lZ:Stmt:=top 5
abbrev vw:Stmt:=top 6
abbrev pP:Stmt:=top 7
abbrev jQ:Stmt:=top 8
abbrev Bf:Stmt:=top 13
abbrev vx:Stmt:=top 16
abbrev rY:Stmt:=top 17
abbrev rZ:Stmt:=top 18
abbrev Bg:Stmt:=top 19
abbrev vy:Stmt:=top 22
abbrev ij:Stmt:=top 23
abbrev nN:Stmt:=top 24
abbrev vz:Stmt:=top 27
abbrev r9:Stmt:=top 28
abbrev nO:Stmt:=top 29
abbrev iL:Stmt:=top 30
abbrev aT:Stmt:=top 31
abbrev nQ:Stmt:=top 32
abbrev iy:Stmt:=top 33
abbrev pQ:Stmt:=top 35
abbrev xX:Stmt:=top 36
abbrev nT:Stmt:=top 37
abbrev nU:Stmt:=top 38
abbrev nV:Stmt:=top 39
abbrev l0:Stmt:=top 40
abbrev kE:Stmt:=top 41
abbrev pR:Stmt:=top 42
abbrev vA:Stmt:=top 43
abbrev pS:Stmt:=top 44
abbrev iM:Stmt:=top 45
abbrev nW:Stmt:=top 46
abbrev kF:Stmt:=top 47
abbrev pT:Stmt:=top 48
abbrev gx:Stmt:=top 49
abbrev l5:Stmt:=top 50
abbrev se:Stmt:=top 51
abbrev jR:Stmt:=top 52
abbrev nX:Stmt:=top 53
abbrev jS:Stmt:=top 54
abbrev L7:Stmt:=top 55
abbrev de:Stmt:=inClass (top 15) 0
theorem GR:a8 ["program"] ["program"] (aJ E4):=⟨rfl,rfl,rfl,by decide +kernel,rfl,by decide +kernel,by decide +kernel⟩
theorem oJ:a8 ["body", "behind", "told", "place", "statement", "after", "inner"] ["body", "behind"] (aJ kD):=⟨rfl,rfl,rfl,by decide +kernel,rfl,by decide +kernel,by decide +kernel⟩
theorem ue:a8 ["body", "behind"] ["body", "behind"] (aJ pO):=⟨rfl,rfl,rfl,by decide +kernel,rfl,by decide +kernel,by decide +kernel⟩
theorem pU:a8 ["statement", "after"] ["statement", "after"] (aJ lZ):=⟨rfl,rfl,rfl,by decide +kernel,rfl,by decide +kernel,by decide +kernel⟩
theorem xY:a8 ["statement", "after", "word"] ["statement", "after"] (aJ vw):=⟨rfl,rfl,rfl,by decide +kernel,rfl,by decide +kernel,by decide +kernel⟩
theorem uf:a8 ["statement"] ["statement"] (aJ pP):=⟨rfl,rfl,rfl,by decide +kernel,rfl,by decide +kernel,by decide +kernel⟩
theorem mL:a8 ["body", "found", "statement", "inner"] ["body"] (aJ jQ):=⟨rfl,rfl,rfl,by decide +kernel,rfl,by decide +kernel,by decide +kernel⟩
theorem C9:a8 ["e", "values", "kind", "left", "right"] ["e", "values"] (aJ Bf):=⟨rfl,rfl,rfl,by decide +kernel,rfl,by decide +kernel,by decide +kernel⟩
theorem xZ:a8 ["chart", "row"] ["chart", "row"] (aJ vx):=⟨rfl,rfl,rfl,by decide +kernel,rfl,by decide +kernel,by decide +kernel⟩
theorem vU:a8 ["chart", "parts"] ["chart", "parts"] (aJ rY):=⟨rfl,rfl,rfl,by decide +kernel,rfl,by decide +kernel,by decide +kernel⟩
theorem vV:a8 ["chart", "named"] ["chart", "named"] (aJ rZ):=⟨rfl,rfl,rfl,by decide +kernel,rfl,by decide +kernel,by decide +kernel⟩
theorem Dc:a8 ["chart", "standing", "statement", "values", "left", "right"] ["chart", "standing"] (aJ Bg):=⟨rfl,rfl,rfl,by decide +kernel,rfl,by decide +kernel,by decide +kernel⟩
theorem x5:a8 ["chart", "standing", "figure", "row", "statement", "word", "values", "said"] ["chart", "standing", "figure"] (aJ vy):=⟨rfl,rfl,rfl,by decide +kernel,rfl,by decide +kernel,by decide +kernel⟩
theorem jW:a8 ["chart", "standing", "row"] ["chart", "standing"] (aJ ij):=⟨rfl,rfl,rfl,by decide +kernel,rfl,by decide +kernel,by decide +kernel⟩
theorem qP:a8 ["chart", "standing", "word", "behind"] ["chart", "standing"] (aJ nN):=⟨rfl,rfl,rfl,by decide +kernel,rfl,by decide +kernel,by decide +kernel⟩
theorem x6:a8 ["program", "told", "entry", "row"] ["program"] (aJ vz):=⟨rfl,rfl,rfl,by decide +kernel,rfl,by decide +kernel,by decide +kernel⟩
theorem vW:a8 ["program", "target", "found"] ["program", "target"] (aJ r9):=⟨rfl,rfl,rfl,by decide +kernel,rfl,by decide +kernel,by decide +kernel⟩
theorem qQ:a8 ["chart", "standing", "row", "word"] ["chart", "standing"] (aJ nO):=⟨rfl,rfl,rfl,by decide +kernel,rfl,by decide +kernel,by decide +kernel⟩
theorem kG:a8 ["chart", "met", "standing", "figures", "target"] ["chart"] (aJ iL):=⟨rfl,rfl,rfl,by decide +kernel,rfl,by decide +kernel,by decide +kernel⟩
theorem oK:a8 ["chart"] ["chart"] (aJ aT):=⟨rfl,rfl,rfl,by decide +kernel,rfl,by decide +kernel,by decide +kernel⟩
theorem qR:a8 ["first", "led_from", "found", "asking", "behind", "figures", "led", "figure", "place"] ["first", "led_from"] (aJ nQ):=⟨rfl,rfl,rfl,by decide +kernel,rfl,by decide +kernel,by decide +kernel⟩
theorem x8:a8 ["place", "led_from", "figures", "found", "led"] ["place", "led_from", "figures", "found"] (aJ iy):=⟨rfl,rfl,rfl,by decide +kernel,rfl,by decide +kernel,by decide +kernel⟩
theorem uh:a8 ["deck", "at", "many", "cell", "j", "number"] ["deck"] (aJ pQ):=⟨rfl,rfl,rfl,by decide +kernel,rfl,by decide +kernel,by decide +kernel⟩
theorem Aj:a8 ["deck", "boxes", "deep", "kind", "one"] ["deck", "boxes", "deep"] (aJ xX):=⟨rfl,rfl,rfl,by decide +kernel,rfl,by decide +kernel,by decide +kernel⟩
theorem qS:a8 ["deck", "found", "spin", "k", "size"] ["deck"] (aJ nT):=⟨rfl,rfl,rfl,by decide +kernel,rfl,by decide +kernel,by decide +kernel⟩
theorem qT:a8 ["deck", "boxes", "k", "kind", "sign"] ["deck", "boxes", "k"] (aJ nU):=⟨rfl,rfl,rfl,by decide +kernel,rfl,by decide +kernel,by decide +kernel⟩
theorem qU:a8 ["pile", "kind", "body", "head", "first", "told"] ["pile"] (aJ nV):=⟨rfl,rfl,rfl,by decide +kernel,rfl,by decide +kernel,by decide +kernel⟩
theorem pV:a8 ["boxes", "rows", "mode"] ["boxes", "rows", "mode"] (aJ l0):=⟨rfl,rfl,rfl,by decide +kernel,rfl,by decide +kernel,by decide +kernel⟩
theorem oM:a8 ["deck", "many", "boxes", "pile", "rows", "mode", "turn", "k", "way", "kind", "body", "head", "first", "word", "condition"] ["deck", "many"] (aJ kE):=⟨rfl,rfl,rfl,by decide +kernel,rfl,by decide +kernel,by decide +kernel⟩
theorem ui:a8 ["rows", "matches", "opened", "at", "word"] ["rows"] (aJ pR):=⟨rfl,rfl,rfl,by decide +kernel,rfl,by decide +kernel,by decide +kernel⟩
theorem x9:a8 ["rows", "matches", "at", "word"] ["rows", "matches", "at"] (aJ vA):=⟨rfl,rfl,rfl,by decide +kernel,rfl,by decide +kernel,by decide +kernel⟩
theorem uj:a8 ["rows", "matches", "found", "at", "row", "word", "near", "other"] ["rows"] (aJ pS):=⟨rfl,rfl,rfl,by decide +kernel,rfl,by decide +kernel,by decide +kernel⟩
theorem kH:a8 ["body", "found", "one", "part"] ["body"] (aJ iM):=⟨rfl,rfl,rfl,by decide +kernel,rfl,by decide +kernel,by decide +kernel⟩
theorem qV:a8 ["e", "values", "one", "other"] ["e", "values"] (aJ nW):=⟨rfl,rfl,rfl,by decide +kernel,rfl,by decide +kernel,by decide +kernel⟩
theorem oN:a8 ["boxes", "statement", "ways", "values", "figure", "names", "known", "word", "number", "at", "one", "other"] ["boxes", "statement", "ways", "values", "figure"] (aJ kF):=⟨rfl,rfl,rfl,by decide +kernel,rfl,by decide +kernel,by decide +kernel⟩
theorem uk:a8 ["program", "rows", "ways", "row", "word", "some", "first"] ["program", "rows"] (aJ pT):=⟨rfl,rfl,rfl,by decide +kernel,rfl,by decide +kernel,by decide +kernel⟩
theorem i8:a8 ["made", "standing", "figure", "row"] ["made", "standing", "figure"] (aJ gx):=⟨rfl,rfl,rfl,by decide +kernel,rfl,by decide +kernel,by decide +kernel⟩
theorem pW:a8 ["made", "standing"] ["made", "standing"] (aJ l5):=⟨rfl,rfl,rfl,by decide +kernel,rfl,by decide +kernel,by decide +kernel⟩
theorem vX:a8 ["made", "standing", "row", "found", "one", "known", "left", "right", "held"] ["made", "standing"] (aJ se):=⟨rfl,rfl,rfl,by decide +kernel,rfl,by decide +kernel,by decide +kernel⟩
theorem mM:a8 ["made", "standing", "found"] ["made", "standing"] (aJ jR):=⟨rfl,rfl,rfl,by decide +kernel,rfl,by decide +kernel,by decide +kernel⟩
theorem qW:a8 ["made", "found", "level", "asks", "figures", "standing", "one", "figure"] ["made"] (aJ nX):=⟨rfl,rfl,rfl,by decide +kernel,rfl,by decide +kernel,by decide +kernel⟩
theorem mN:a8 ["made", "found", "target", "standing"] ["made", "found", "target"] (aJ jS):=⟨rfl,rfl,rfl,by decide +kernel,rfl,by decide +kernel,by decide +kernel⟩
theorem L8:a8 ["script", "deck", "program", "rows", "made", "found", "some", "asked", "target", "due", "told"] ["script"] (aJ L7):=⟨rfl,rfl,rfl,by decide +kernel,rfl,by decide +kernel,by decide +kernel⟩
theorem qX:a8 ["self", "program", "boxes", "body"] ["self", "program"] (aJ de):=⟨rfl,rfl,rfl,by decide +kernel,rfl,by decide +kernel,by decide +kernel⟩
set_option genInjectivity false in
structure Ad where
 sf:zdk
 qw:zdt
 dI:zdk
 dR:zdt
 dW:zdk
 dX:zdt
 fS:zdk
 gy:zdt
 ko:zdk
 kI:zdt
 gA:zdk
 gI:zdt
 cB:zdk
 cF:zdt
 nY:zdk
 mO:zdt
 mQ:zdk
 nZ:zdt
 kJ:zdk
 lH:zdt
 kK:zdk
 lI:zdt
 um:zdk
 uo:zdt
 mS:zdk
 n9:zdt
 dJ:zdk
 eT:zdt
 iN:zdk
 jk:zdt
 mT:zdk
 oa:zdt
 kL:zdk
 lJ:zdt
 iO:zdk
 jm:zdt
 dY:zdk
 fC:zdt
 bS:zdk
 hJ:zdt
 iP:zdk
 jn:zdt
 fT:zdk
 og:zdt
 dZ:zdk
 eA:zdt
 kM:zdk
 kr:zdt
 iQ:zdk
 jo:zdt
 iR:zdk
 jq:zdt
 iS:zdk
 jr:zdt
 gX:zdk
 iT:zdt
 gB:zdk
 hV:zdt
 jD:zdk
 j4:zdt
 mU:zdk
 oh:zdt
 jE:zdk
 j5:zdt
 cK:zdk
 cS:zdt
 fD:zdk
 fU:zdt
 gC:zdk
 hX:zdt
 jF:zdk
 j6:zdt
 cW:zdk
 dN:zdt
 gY:zdk
 iU:zdt
 kN:zdk
 lK:zdt
 fK:zdk
 gJ:zdt
 iV:zdk
 js:zdt
 fL:zdk
 gK:zdt
 GS:zdk
 vB:zdt
 df:zdk
 l6:zdt
 aW:zdk
 eL:zdk
 fV:zdk
set_option genInjectivity false in
structure Tx(K:zaa)(mg:Str->Option zdl)(t:Ad):Prop where
 yc:cb K mg "flow" E4 ["program"] t.sf t.qw
 gD:cb K mg "flow_of_body" kD ["body", "behind"] t.dI t.dR
 fh:cb K mg "first_row" pO ["body", "behind"] t.dW t.dX
 jt:cb K mg "behind_body" lZ ["statement", "after"] t.fS t.gy
 qx:cb K mg "ways_of" vw ["statement", "after"] t.ko t.kI
 jG:cb K mg "bodies_in" pP ["statement"] t.gA t.gI
 fM:cb K mg "statements_in" jQ ["body"] t.cB t.cF
 j7:cb K mg "worth" Bf ["e", "values"] t.nY t.mO
 kx:cb K mg "word_at" vx ["chart", "row"] t.mQ t.nZ
 kO:cb K mg "by_names" rY ["chart", "parts"] t.kJ t.lH
 om:cb K mg "in_order" rZ ["chart", "named"] t.kK t.lI
 qy:cb K mg "holds" Bg ["chart", "standing"] t.um t.uo
 mV:cb K mg "step_by" vy ["chart", "standing", "figure"] t.mS t.n9
 fE:cb K mg "behind_condition" ij ["chart", "standing"] t.dJ t.eT
 gM:cb K mg "all_led_to" nN ["chart", "standing"] t.iN t.jk
 qz:cb K mg "targets" vz ["program"] t.mT t.oa
 kP:cb K mg "shortest" r9 ["program", "target"] t.kL t.lJ
 j8:cb K mg "targets_at" nO ["chart", "standing"] t.iO t.jm
 gh:cb K mg "shortest_inputs" iL ["chart"] t.dY t.fC
 iW:cb K mg "first_inputs" aT ["chart"] t.bS t.hJ
 gN:cb K mg "found_from" nQ ["first", "led_from"] t.iP t.jn
 mW:cb K mg "gone_on" iy ["place", "led_from", "figures", "found"] t.fT t.og
 bB:cb K mg "_law_next" pQ ["deck"] t.dZ t.eA
 gE:cb K mg "_law_e" xX ["deck", "boxes", "deep"] t.kM t.kr
 j9:cb K mg "_law_boxes" nT ["deck"] t.iQ t.jo
 ka:cb K mg "_law_plain" nU ["deck", "boxes", "k"] t.iR t.jq
 iX:cb K mg "_law_close" nV ["pile"] t.iS t.jr
 gZ:cb K mg "_law_number" l0 ["boxes", "rows", "mode"] t.gX t.iT
 iY:cb K mg "_law_program" kE ["deck", "many"] t.gB t.hV
 jH:cb K mg "_law_ends" pR ["rows"] t.jD t.j4
 ky:cb K mg "_law_to" vA ["rows", "matches", "at"] t.mU t.oh
 lL:cb K mg "_law_ways" pS ["rows"] t.jE t.j5
 eB:cb K mg "_law_statements" iM ["body"] t.cK t.cS
 cL:cb K mg "_law_worth" nW ["e", "values"] t.fD t.fU
 iZ:cb K mg "_law_stepped" kF ["boxes", "statement", "ways", "values", "figure"] t.gC t.hX
 lM:cb K mg "_law_made" pT ["program", "rows"] t.jF t.j6
 cX:cb K mg "_law_next_standing" gx ["made", "standing", "figure"] t.cW t.dN
 g7:cb K mg "_law_is_ask" l5 ["made", "standing"] t.gY t.iU
 oo:cb K mg "_law_met" se ["made", "standing"] t.kN t.lK
 hZ:cb K mg "_law_till_ask" jR ["made", "standing"] t.fK t.gJ
 kb:cb K mg "_law_found" nX ["made"] t.iV t.js
 ia:cb K mg "_law_shortest" jS ["made", "found", "target"] t.fL t.gK
 GU:cb K mg "law" L7 ["script"] t.GS t.vB
 kc:Jg K "__init__" "Chart.__init__" de t.df t.l6
 Bh:Binds K t.l6 ["self", "program"] []
 c9:Nr K t.aW
 Ma:mg "Chart"=some (.ref t.aW)
 yd:Mk K t.aW t.df
 gF:jK K t.aW "names"
 gG:jK K t.aW "sizes"
 i0:jK K t.aW "first"
 cN:jK K t.aW "statements"
 fW:jK K t.aW "ways"
 ye:UJ K t.eL
 vY:zcw K (.ref t.eL) (.ref t.eL)=some true
 Ql:mg "RowError"=some (.ref t.eL)
 Ak:UJ K t.fV
 yf:zcw K (.ref t.fV) (.ref t.fV)=some true
 R9:mg "TooMany"=some (.ref t.fV)
 Bi:∃u,mg "END"=some u/\RelV (.int 0) u
 wj:∃u,mg "FIGURE_COUNT"=some u/\RelV (.int 10) u
 yh:∃u,mg "MOST_PLACES"=some u/\RelV (.int 2000) u
 g8:mg "len"=none
 ju:mg "range"=none
 E5:mg "bool"=none
 pX:mg "dict"=none
 sj:mg "list"=none
 uq:mg "tuple"=none
 Mb:mg "max"=none
 Mc:mg "min"=none
 ke:mg "isinstance"=none
 lN:mg "enumerate"=none
 Dd:mg "zip"=none
 ur:mg "ValueError"=none
end R8
end
section
set_option maxHeartbeats 4000000
namespace R8
open PG
open PySem L2
local macro_rules | `(tactic|walk_at "r")=>`(tactic|((try dsimp only[JE,JG,Jr,QU,Pg,tIf,QT,Ju,Ub,Yx,Rh,WW,JL,AD,Po,Q7,B4,FP,FO,Yp,rU,UK,FI,FJ,Pl,Pj,Jt,Ph,QZ,Jw,QY,Q0,PC,Nn,Hb,F3,PD,J7,J8,J9,Ka,Kb,Kc,Kd,Ke,Kf,Kg,Ge,Gf,Gg,Gm,Gn,Ry,UG,QV,Js,Hc,eM,PF,PH,zaT,F4,F5,Ki,F8,F9,Ce,ER,ES,ET,Ga,PJ,UI,Kr,Kj,Kk,Yi,zaK,zaJ,zah,zaA,Kl,Km,Lr,Ls,F6]);(try simp only[JE,JG,Jr,QU,Pg,tIf,QT,Ju,Ub,Yx,Rh,WW,JL,AD,Po,Q7,B4,FP,FO,Yp,rU,UK,FI,FJ,Pl,Pj,Jt,Ph,Rr,Rt,QZ,Jw,QY,Q0,PC,Nn,Hb,F3,PD,J7,J8,J9,Ka,Kb,Kc,Kd,Ke,Kf,Kg,Ge,Gf,Gg,Gm,Gn,Ry,UG,QV,Js,Hc,eM,J0,YG,PF,PH,UH,NJ,Kh,Ru,Rv,zaT,F4,F5,Ki,F8,F9,Ce,ER,ES,ET,Ga,PJ,UI,Kr,Kj,Kk,Yi,zav,zaK,zaJ,NM,NN,true_and,and_true,zah,zaA,NO,Kl,Km,Lr,Ls,F6,Int.reduceLT,Int.reduceLE,Nat.reduceLeDiff,Nat.reduceAdd,and_self])))
section
variable{P:zdw}{w:zdm}{K:zaa}{mg:Str->Option zdl}{base:Heap}{t:Ad}
theorem De{ss:List bG}{vs:List V}(l:vs.length=ss.length):(zaH ss.length).map (fun i=>((Sum.inl (ss.getD i (.stop 0)).row:Key),vs.getD i .cC))=cU ss vs:=by
 apply zbV
 ·simp[cU,l]
 ·intro i h1 h2;simp at h1;simp[cU,h1,l]
theorem Bj{fl:List dM}{vs:List V}(l:vs.length=fl.length):(zaH fl.length).map (fun i=>((Sum.inl (fl.getD i (0,.stop,[])).1:Key),vs.getD i .cC))=zbd (fun r v=>(Sum.inl r.1,v)) fl vs:=by
 apply zbV
 ·simp[l]
 ·intro i h1 h2;simp at h1;simp[h1,l]
theorem Df{fl:List dM}{vs:List V}(l:vs.length=fl.length):(zbd (fun r v=>((Sum.inl r.1:Key),v)) fl vs).map (·.1)=fl.map fun r=>(Sum.inl r.1:Key):=by
 apply zbV
 ·simp[l]
 ·intro i h1 h2;simp
theorem GV{K:zaa}{H:Hp}:∀ {fl:List dM} {us:List V},aN K H (fl.map eJ) us->∃ws:List V,ws.length=fl.length/\∀i (hi:i<fl.length),∃a q,us[i]?=some (.ref a)/\ws[i]?=some (.ref q)/\bQ K H a [.int fl[i].1,.str (gg fl[i].2.1),.ref q]/\bQ K H q (fl[i].2.2.map V.int)
 |[],us,_=>⟨[],rfl,fun i hi=>by simp at hi⟩
 |r::fl,us,h=>by
  have h0:=h;rw[zal,aN.aI] at h;obtain⟨v,tl,rfl,h1,h2⟩:=h;obtain⟨ws,l,hw⟩:=GV h2;obtain⟨a,q,e,s1,s2⟩:=CF h0 (i:=0) (y:=v) rfl (by simp);refine⟨.ref q::ws,by simp[l],fun i hi=>?_⟩;cases i with
  |zero=>exact⟨a,q,by rw[e];rfl,rfl,s1,s2⟩
  |succ i=>
   obtain⟨a',q',e1,e2,e3,e4⟩:=hw i (by simpa using hi);exact⟨a',q',by simpa using e1,by simpa using e2,by simpa using e3,by simpa using e4⟩
theorem E6{b:List bG}(pw:(az b).Pairwise fun a b=>a.row<b.row):((aQ b 0).map fun r=>(Sum.inl r.1:Key)).Nodup:=by
 have e:(aQ b 0).map (fun r=>(Sum.inl r.1:Key))=(az b).map fun s=>(Sum.inl s.row:Key):=by
  have h:((aQ b 0).map fun r=>(r.1,r.2.1))=(az b).map fun x=>(x.row,x.wd):=by rw[cY,fQ]
  have h2:=congrArg (List.map fun r:Int×Wd=>(Sum.inl r.1:Key)) h;rw[zbj,zbj] at h2;exact h2
 rw[e];exact rP pw
theorem mX{K:zaa}{H:Hp}{B:zdk}{bs:List gb}(r:Rep K H (.lst (bs.map iD)) (.ref B)):∃xs,i7 K H B xs/\xs.length=bs.length/\∀i x,xs[i]?=some x->∃a,x=.ref a/\bQ K H a [.str (S (bs.getD i ⟨[],0,0⟩).name),.int (bs.getD i ⟨[],0,0⟩).size,.int (bs.getD i ⟨[],0,0⟩).first]:=by
 rw[Rep.bL] at r;obtain⟨_,xs,e,q,rs⟩:=r;cases e;have lx:xs.length=bs.length:=by rw[rs.length,zad]
 refine⟨xs,q,lx,fun i x hx=>?_⟩;have li:i<bs.length:=by have:=(zak.mp hx).1;lia
 obtain⟨v,hv,rv⟩:=rs.get (i:=i) (d:=iD bs[i]) (by rw[zam,zac li];rfl);rw[hx] at hv;cases hv;have eg:bs.getD i ⟨[],0,0⟩=bs[i]:=by rw[zap,zac li];rfl
 rw[eg];simp only[iD,Rep.bg,aN.aI,aN.br,Rep.bA,Rep.bt] at rv;obtain⟨a,ys,rfl,hS,_,_,rfl,rfl,_,_,rfl,rfl,_,_,rfl,rfl,rfl⟩:=rv;exact⟨a,rfl,hS⟩
theorem sk{ax:List (Key×V)}(h:(ax.map (·.1)).Nodup):iB [] ax=ax:=by
 have:=ie ax [] (by simpa using h);simpa using this
theorem yW(T:Tx K mg t)(eC:bJ P w K mg base dw 1 t.dW t.dX ["body", "behind"] (tR K))(fN:bJ P w K mg base dw 6 t.cB t.cF ["body"] (qr K 4))(yi:bJ P w K mg base dw 7 t.sf t.qw ["program"] (EB K)) :
 bJ P w K mg base dw 8 t.df t.l6 ["self", "program"] (Og K t.aW):=by
 refine T.kc.lS qX (fun vs H Q E h=>?_) (fun eS A outer s H vs Q E hr h=>?_)
 ·obtain⟨_,_,_,_,rfl,_⟩:=h;rfl
 obtain⟨p,dx,v,pr,rfl,hp,Xi,rp,hd,hf,pw,nb,lb,q⟩:=h;have nd:=qX.nd;obtain⟨Md,yj,yk⟩:=T.Bi;refine⟨_,[some (.ref p),some v,none,none],(ah (c5 2 nd (aC aM (pv 1) aj ao))
 (ah (c5 3 nd (aC aM (pv 1) aj ao))
 (ah (xc (pv 0) (hG (own:=["box"]) (ix:=[]) rfl (by rfl) (by rfl) (cI (pv 2)) (fun _ _ _ _=>(fZ (i:=0) (by show List.Nodup (["box"]:List Str);decide +kernel) rfl (zbq rfl))) (fun _ _ _ _=>iC) (fun _ _ _ _=>(aC (iF (K:=K) rfl) (pv 0) aj ao))) rfl)
 (ah (xc (pv 0) (fO (rR rfl) rfl T.pX PyProof.Rows.Boot.«dict» (ag (hG (own:=["box"]) (ix:=[]) rfl (by rfl) (by rfl) (cI (pv 2)) (fun _ _ _ _=>(fZ (i:=0) (by show List.Nodup (["box"]:List Str);decide +kernel) rfl (zbq rfl))) (fun _ _ _ _=>iC) (fun _ _ _ _=>(aS (ag (aC (iF (K:=K) rfl) (pv 0) aj ao) (ag (aC (iF (K:=K) rfl) (pv 0) aj ao) aa aY) aY)))) aa lh)) rfl)
 (ah (xc (pv 0) (aS (ag (da eC T.fh hr (bc 3 (ag (qe rfl yj yk) aa jY))) (ag (fO lP rfl T.uq PyProof.Rows.Boot.«tuple» (ag (hG (own:=["box"]) (ix:=[]) rfl (by rfl) (by rfl) (cI (pv 2)) (fun _ _ _ _=>(fZ (i:=0) (by show List.Nodup (["box"]:List Str);decide +kernel) rfl (zbq rfl))) (fun _ _ _ _=>iC) (fun _ _ _ _=>(aC (iF (K:=K) rfl) (pv 0) aj ao))) aa lh)) aa bH) bH)) rfl)
 (ah (xc (pv 0) (fO (rR rfl) rfl T.pX PyProof.Rows.Boot.«dict» (ag (hG (own:=["statement"]) (ix:=[]) rfl (by rfl) (by rfl) (cI (da fN T.fM hr (bc 3 aa))) (fun _ _ _ _=>(fZ (i:=0) (by show List.Nodup (["statement"]:List Str);decide +kernel) rfl (zbq rfl))) (fun _ _ _ _=>iC) (fun _ _ _ _=>(aS (ag (aC (iF (K:=K) rfl) (pv 0) aj ao) (bc 0 aa) aY)))) aa lh)) rfl)
 (ak (xc (pv 0) (fO (rR rfl) rfl T.pX PyProof.Rows.Boot.«dict» (ag (hG (own:=["told"]) (ix:=[]) rfl (by rfl) (by rfl) (cI (da yi T.yc hr (bc 1 aa))) (fun _ _ _ _=>(fZ (i:=0) (by show List.Nodup (["told"]:List Str);decide +kernel) rfl (zbq rfl))) (fun _ _ _ _=>iC) (fun _ _ _ _=>(aS (ag (aC (iF (K:=K) rfl) (pv 0) aj ao) (ag (aC (iF (K:=K) rfl) (pv 0) aj ao) aa aY) aY)))) aa lh)) rfl)))))))),rfl,?_⟩
 have line:zds=2 ^ 24:=rfl;have Zo:=rp;unfold je at Zo;rw[Rep.bg] at Zo;obtain⟨pa,pxs,rfl,Qm,E7⟩:=Zo;rw[aN.aI] at E7;obtain⟨v1,t1,rfl,OO,E7⟩:=E7;rw[aN.aI] at E7;obtain⟨v2,t2,rfl,Tq,E7⟩:=E7;obtain⟨bb,_,rfl,_⟩:=Rep.bL.mp Tq;obtain⟨bx,_,rfl,_⟩:=Rep.bL.mp OO;refine av fun U1 eE=>?_;walk_at "r";refine aG Qm (v:=.ref bx) (au (j:=0) rfl) ((eE _ _).mpr (av fun U2 gk=>?_));clear eE;walk_at "r";refine aG Qm (v:=.ref bb) (au (j:=1) rfl) ((gk _ _).mpr (av fun U3 i3=>?_));clear gk;walk_at "r";simp only[B4,jT];walk_at "r";obtain⟨xs1,hx1,lx1,g1⟩:=mX OO;refine⟨⟨_,hx1⟩,fun D1 Ts=>kn (K:=K) (r:=[]) (fun i=>.str (S (pr.ay.getD i ⟨[],0,0⟩).name)) hx1 (by lia) Ts (fun i x H2 hx s2 R hR=>?_) (fun H2 s2 h2=>⟨p,_,dx,[],rfl,s2 _ _ hp,T.c9,T.gF,by decide,(i3 _ _).mpr (av fun U4 kg=>?_)⟩)⟩
 ·obtain⟨a,rfl,ha⟩:=g1 i x hx;walk_at "r";exact aG (s2.a7 ha) (v:=.str (S (pr.ay.getD i ⟨[],0,0⟩).name)) (au (j:=0) rfl) hR
 clear i3;rw[lx1,jf (fun b:gb=>V.str (S b.name))] at h2;have yQ:=s2 _ _ hp;have n1:D1≠p:=(ai hp Ts).symm;have u3:ba (·=p) H (upd H2 p (.ins t.aW dx [("names",.ref D1)])):=(ba.of s2).trans (ba.refl.put (O:=(·=p)) rfl _);have DI:(upd H2 p (.ins t.aW dx [("names",.ref D1)])) p=some (.ins t.aW dx [("names",.ref D1)]):=ae;have d1:(upd H2 p (.ins t.aW dx [("names",.ref D1)])) D1=some (.lst (pr.ay.map fun b=>.str (S b.name))):=by rw[aw n1];exact h2
 rw[show kR (zab "names") (V.ref D1) []=[(zab "names",V.ref D1)] from rfl];generalize upd H2 p (.ins t.aW dx [("names",.ref D1)])=H3 at *;walk_at "r";simp only[B4,jT];walk_at "r";have pr3:=qt hp u3 _ _ OO;obtain⟨xs3,Xj,lx3,g3⟩:=mX pr3;refine⟨⟨_,Xj⟩,fun D2 M6=>rV (K:=K) (r:=[]) (fun i=>(.inr (S (pr.ay.getD i ⟨[],0,0⟩).name),.int (pr.ay.getD i ⟨[],0,0⟩).size)) Xj (by lia) M6 (fun i x H2 hx s2 R hR=>?_) (fun ps H4 s4 h4 Of ep=>⟨D2,ps,rfl,.of h4,fun q hq=>.of (Of q hq),?_,fun D3 Ji=>⟨p,_,dx,_,rfl,aq.new Ji _ _ _ (s4 _ _ DI),T.c9,T.gG,by simp,(kg _ _).mpr (av fun U5 uv=>?_)⟩⟩)⟩
 ·obtain⟨a,rfl,ha⟩:=g3 i x hx;walk_at "r";exact aG (s2.a7 ha) (v:=.str (S (pr.ay.getD i ⟨[],0,0⟩).name)) (au (j:=0) rfl) (aG (s2.a7 ha) (v:=.int (pr.ay.getD i ⟨[],0,0⟩).size) (au (j:=1) rfl) hR)
 ·have:=congrArg za6 ep;simp only[zad,zbt] at this;lia
 clear kg;have ek:ps.map (fun q=>(q.2.1,q.2.2))=pr.ay.map fun b=>(Sum.inr (S b.name),V.int b.size):=by
  rw[show (fun q:zdk×Key×V=>(q.2.1,q.2.2))=(·.2) from rfl,ep,lx3,jf (fun b:gb=>((Sum.inr (S b.name):Key),V.int b.size))]
 have nk:((pr.ay.map fun b=>((Sum.inr (S b.name):Key),V.int b.size)).map (·.1)).Nodup:=by
  rw[zbj];refine zbe.mpr ((zbe.mp nb).imp fun {a b} Gq e=>Gq ?_);exact mw.mp (Sum.inr.inj e)
 rw[ek,sk nk,show kR (zab "sizes") (V.ref D3) [(zab "names",V.ref D1)]=[(zab "names",V.ref D1),(zab "sizes",V.ref D3)] from rfl];have VA:=s4.trans (aq.new Ji (.dK (pr.ay.map fun b=>(Sum.inr (S b.name),V.int b.size))));have d3:(upd H4 D3 (.dK (pr.ay.map fun b=>(Sum.inr (S b.name),V.int b.size)))) D3=some (.dK (pr.ay.map fun b=>(Sum.inr (S b.name),V.int b.size))):=ae;generalize upd H4 D3 (.dK (pr.ay.map fun b=>(Sum.inr (S b.name),V.int b.size)))=H5 at *;have n3:D3≠p:=bU d3 (VA _ _ DI) (by intro z;cases z);have u6:ba (·=p) H3 (upd H5 p (.ins t.aW dx [(zab "names",V.ref D1),(zab "sizes",V.ref D3)])):=(ba.of VA).trans (ba.refl.put (O:=(·=p)) rfl _);have i5:(upd H5 p (.ins t.aW dx [(zab "names",V.ref D1),(zab "sizes",V.ref D3)])) p=some (.ins t.aW dx [(zab "names",V.ref D1),(zab "sizes",V.ref D3)]):=ae;have d3:(upd H5 p (.ins t.aW dx [(zab "names",V.ref D1),(zab "sizes",V.ref D3)])) D3=some (.dK (pr.ay.map fun b=>(Sum.inr (S b.name),V.int b.size))):=by rw[aw n3];exact d3
 generalize upd H5 p (.ins t.aW dx [(zab "names",V.ref D1),(zab "sizes",V.ref D3)])=H6 at *;have d1:=u6 _ _ n1 d1;have u6:=u3.trans u6;have pr6:=qt hp u6 _ _ OO;have pb6:=qt hp u6 _ _ Tq;walk_at "r";simp only[B4,jT];walk_at "r";have lbd:=km pr.body;obtain⟨xs6,hx6,lx6,g6⟩:=mX pr6;refine⟨bb,pr.body,0,rfl,pb6,by lia,⟨_,hx6⟩,fun D4 hD4=>kn (K:=K) (r:=[]) (fun i=>.int (pr.ay.getD i ⟨[],0,0⟩).first) hx6 (by lia) hD4 (fun i x H2 hx s2 R hR=>?_) (fun H7 s7 h7=>⟨D4,_,rfl,.inl ⟨.of h7,fun D5 hD5 D6 Tt=>⟨p,_,dx,_,rfl,aq.new Tt _ _ _ (aq.new hD5 _ _ _ (s7 _ _ i5)),T.c9,T.i0,by simp,(uv _ _).mpr (av fun U6 yK=>?_)⟩⟩⟩)⟩
 ·obtain⟨a,rfl,ha⟩:=g6 i x hx;walk_at "r";exact aG (s2.a7 ha) (v:=.int (pr.ay.getD i ⟨[],0,0⟩).first) (au (j:=2) rfl) hR
 clear uv;rw[show kR (zab "first") (V.ref D6) [(zab "names",V.ref D1),(zab "sizes",V.ref D3)]=[(zab "names",V.ref D1),(zab "sizes",V.ref D3),(zab "first",V.ref D6)] from rfl];rw[lx6,jf (fun b:gb=>V.int b.first)] at Tt ⊢;have s8:=s7.trans ((aq.new hD5 (.tup (pr.ay.map fun b=>V.int b.first))).trans (aq.new Tt (.tup [V.int (bj pr.body 0),V.ref D5])));have d5:(upd (upd H7 D5 (.tup (pr.ay.map fun b=>V.int b.first))) D6 (.tup [V.int (bj pr.body 0),V.ref D5])) D5=some (.tup (pr.ay.map fun b=>V.int b.first)):=aq.new Tt _ _ _ ae;have d6:(upd (upd H7 D5 (.tup (pr.ay.map fun b=>V.int b.first))) D6 (.tup [V.int (bj pr.body 0),V.ref D5])) D6=some (.tup [V.int (bj pr.body 0),V.ref D5]):=ae;generalize upd (upd H7 D5 (.tup (pr.ay.map fun b=>V.int b.first))) D6 (.tup [V.int (bj pr.body 0),V.ref D5])=H8 at *;have Jj:=s8 _ _ i5;have n5:D5≠p:=bU d5 Jj (by intro z;cases z);have n6:D6≠p:=bU d6 Jj (by intro z;cases z);have u9:ba (·=p) H6 (upd H8 p (.ins t.aW dx [(zab "names",V.ref D1),(zab "sizes",V.ref D3),(zab "first",V.ref D6)])):=(ba.of s8).trans (ba.refl.put (O:=(·=p)) rfl _);have Zp:(upd H8 p (.ins t.aW dx [(zab "names",V.ref D1),(zab "sizes",V.ref D3),(zab "first",V.ref D6)])) p=some (.ins t.aW dx [(zab "names",V.ref D1),(zab "sizes",V.ref D3),(zab "first",V.ref D6)]):=ae;have d5:(upd H8 p (.ins t.aW dx [(zab "names",V.ref D1),(zab "sizes",V.ref D3),(zab "first",V.ref D6)])) D5=some (.tup (pr.ay.map fun b=>V.int b.first)):=by rw[aw n5];exact d5
 have d6:(upd H8 p (.ins t.aW dx [(zab "names",V.ref D1),(zab "sizes",V.ref D3),(zab "first",V.ref D6)])) D6=some (.tup [V.int (bj pr.body 0),V.ref D5]):=by rw[aw n6];exact d6
 generalize upd H8 p (.ins t.aW dx [(zab "names",V.ref D1),(zab "sizes",V.ref D3),(zab "first",V.ref D6)])=H9 at *;have d1:=u9 _ _ n1 d1;have d3:=u9 _ _ n3 d3;have u9:=u6.trans u9;have pb9:=qt hp u9 _ _ Tq;walk_at "r";simp only[B4,jT];walk_at "r";refine⟨bb,pr.body,H9,rfl,aq.refl _,pb9,by lia,hf,fun Xk us vC sN Zq Xl Tu=>?_⟩;have sl:=mE pr.body;have uL:us.length=(az pr.body).length:=by rw[Tu.length,zad]
 refine⟨Xk,rfl,⟨_,.of Xl⟩,fun D7 hD7=>rV (K:=K) (r:=[]) (fun i=>(.inl ((az pr.body).getD i (.stop 0)).row,us.getD i .cC)) (.of Xl) (by lia) hD7 (fun i x H2 hx s2 R hR=>?_) (fun ps Me Sa M1 Of ep=>⟨D7,ps,rfl,.of M1,fun q hq=>.of (Of q hq),?_,fun D8 hD8=>⟨p,_,dx,_,rfl,aq.new hD8 _ _ _ (Sa _ _ (sN _ _ Zp)),T.c9,T.cN,by simp,(yK _ _).mpr ?_⟩⟩)⟩
 ·have li:i<(az pr.body).length:=by have:=(zak.mp hx).1;lia
  obtain⟨v',DD,rv⟩:=Tu.get (i:=i) (d:=dH (az pr.body)[i]) (by rw[zam,zac li];rfl);rw[hx] at DD;cases DD;have e1:(az pr.body).getD i (.stop 0)=(az pr.body)[i]:=by rw[zap,zac li];rfl
  have e2:us.getD i .cC=x:=by rw[zap,hx];rfl
  rw[e1,e2] at hR;obtain⟨sa,ys,rfl,hs⟩:=iq _ rv;walk_at "r";exact aG ((sN.trans s2).a7 hs) (v:=.int (az pr.body)[i].row) (au (j:=1) rfl) hR
 ·have:=congrArg za6 ep;simp only[zad,zbt] at this;lia
 clear yK;have ek:ps.map (fun q=>(q.2.1,q.2.2))=cU (az pr.body) us:=by
  rw[show (fun q:zdk×Key×V=>(q.2.1,q.2.2))=(·.2) from rfl,ep,uL,De uL]
 have nk:((cU (az pr.body) us).map (·.1)).Nodup:=by
  rw[ig _ _ uL];exact rP pw
 rw[ek,sk nk,show kR (zab "statements") (V.ref D8) [(zab "names",V.ref D1),(zab "sizes",V.ref D3),(zab "first",V.ref D6)]=[(zab "names",V.ref D1),(zab "sizes",V.ref D3),(zab "first",V.ref D6),(zab "statements",V.ref D8)] from rfl];have Tv:=(sN.trans Sa).trans (aq.new hD8 (.dK (cU (az pr.body) us)));have d8:(upd Me D8 (.dK (cU (az pr.body) us))) D8=some (.dK (cU (az pr.body) us)):=ae;generalize upd Me D8 (.dK (cU (az pr.body) us))=OP at *;have Zr:=Tv _ _ Zp;have n8:D8≠p:=bU d8 Zr (by intro z;cases z);have DJ:ba (·=p) H9 (upd OP p (.ins t.aW dx [(zab "names",V.ref D1),(zab "sizes",V.ref D3),(zab "first",V.ref D6),(zab "statements",V.ref D8)])):=(ba.of Tv).trans (ba.refl.put (O:=(·=p)) rfl _);have Sb:(upd OP p (.ins t.aW dx [(zab "names",V.ref D1),(zab "sizes",V.ref D3),(zab "first",V.ref D6),(zab "statements",V.ref D8)])) p=some (.ins t.aW dx [(zab "names",V.ref D1),(zab "sizes",V.ref D3),(zab "first",V.ref D6),(zab "statements",V.ref D8)]):=ae;have d8:(upd OP p (.ins t.aW dx [(zab "names",V.ref D1),(zab "sizes",V.ref D3),(zab "first",V.ref D6),(zab "statements",V.ref D8)])) D8=some (.dK (cU (az pr.body) us)):=by rw[aw n8];exact d8
 generalize upd OP p (.ins t.aW dx [(zab "names",V.ref D1),(zab "sizes",V.ref D3),(zab "first",V.ref D6),(zab "statements",V.ref D8)])=Xm at *;have d1:=DJ _ _ n1 d1;have d3:=DJ _ _ n3 d3;have d5:=DJ _ _ n5 d5;have d6:=DJ _ _ n6 d6;have r13:=pJ Zp DJ _ _ Tu;have DJ:=u9.trans DJ;have Zs:=qt hp DJ _ _ rp;walk_at "r";simp only[B4,jT];walk_at "r";refine⟨_,pr,rfl,Zs,hd,hf,fun l14 fv Zt Sd aex Qn r14=>?_⟩;obtain⟨ws,Zu,hws⟩:=GV r14;have Zv:fv.length=(aQ pr.body 0).length:=by rw[r14.length,zad]
 have lfl:(aQ pr.body 0).length=(az pr.body).length:=by
  have h1:=congrArg za6 (cY pr.body 0);rw[zad] at h1;lia
 refine⟨l14,rfl,⟨_,.of Qn⟩,fun D9 Xn=>rV (K:=K) (r:=[]) (fun i=>(.inl ((aQ pr.body 0).getD i (0,.stop,[])).1,ws.getD i .cC)) (.of Qn) (by lia) Xn (fun i x H2 hx s2 R hR=>?_) (fun ps Qo OQ YD Of ep=>⟨D9,ps,rfl,.of YD,fun q hq=>.of (Of q hq),?_,fun Se Sf=>⟨p,_,dx,_,rfl,aq.new Sf _ _ _ (OQ _ _ (Sd _ _ Sb)),T.c9,T.fW,by simp,?_⟩⟩)⟩
 ·have li:i<(aQ pr.body 0).length:=by have:=(zak.mp hx).1;lia
  obtain⟨a,qq,e1,e2,q1,q2⟩:=hws i li;rw[hx] at e1;cases e1;have g1:(aQ pr.body 0).getD i (0,.stop,[])=(aQ pr.body 0)[i]:=by rw[zap,zac li];rfl
  have g2:ws.getD i .cC=V.ref qq:=by rw[zap,e2];rfl
  rw[g1,g2] at hR;walk_at "r";exact aG (s2.a7 q1) (v:=.int (aQ pr.body 0)[i].1) (au (j:=0) rfl) (aG (s2.a7 q1) (v:=.ref qq) (au (j:=2) rfl) hR)
 ·have:=congrArg za6 ep;simp only[zad,zbt] at this;lia
 have ek:ps.map (fun q=>(q.2.1,q.2.2))=zbd (fun r v=>(Sum.inl r.1,v)) (aQ pr.body 0) ws:=by
  rw[show (fun q:zdk×Key×V=>(q.2.1,q.2.2))=(·.2) from rfl,ep,Zv,Bj Zu]
 have nk:((zbd (fun r v=>((Sum.inl r.1:Key),v)) (aQ pr.body 0) ws).map (·.1)).Nodup:=by
  rw[Df Zu];exact E6 pw
 rw[ek,sk nk,show kR (zab "ways") (V.ref Se) [(zab "names",V.ref D1),(zab "sizes",V.ref D3),(zab "first",V.ref D6),(zab "statements",V.ref D8)]=[(zab "names",V.ref D1),(zab "sizes",V.ref D3),(zab "first",V.ref D6),(zab "statements",V.ref D8),(zab "ways",V.ref Se)] from rfl];have OR:=(Sd.trans OQ).trans (aq.new Sf (.dK (zbd (fun r v=>(Sum.inl r.1,v)) (aQ pr.body 0) ws)));have VB:=OQ.trans (aq.new Sf (.dK (zbd (fun r v=>(Sum.inl r.1,v)) (aQ pr.body 0) ws)));have Tw:(upd Qo Se (.dK (zbd (fun r v=>(Sum.inl r.1,v)) (aQ pr.body 0) ws))) Se=some (.dK (zbd (fun r v=>(Sum.inl r.1,v)) (aQ pr.body 0) ws)):=ae;generalize upd Qo Se (.dK (zbd (fun r v=>(Sum.inl r.1,v)) (aQ pr.body 0) ws))=VC at *;have Sg:=OR _ _ Sb;have n10:Se≠p:=bU Tw Sg (by intro z;cases z);have put:∀fs,ba (·=p) VC (upd VC p (.ins t.aW dx fs)):=fun fs=>ba.refl.put (O:=(·=p)) rfl _;have uE:=fun fs=>(ba.of OR).trans (put fs);have uA:=fun fs=>DJ.trans (uE fs);refine q _ (fun b o n e=>uA _ b o n e) ⟨⟨dx,D1,D3,D6,D5,D8,Se,us,ws,ae,uA _ _ _ (bU Xi hp (by intro z;cases z)) Xi,uE _ _ _ n1 d1,uE _ _ _ n3 d3,uE _ _ _ n6 d6,uE _ _ _ n5 d5,uL,uE _ _ _ n8 d8,pJ Sb (uE _) _ _ r13,Zu,put _ _ _ n10 Tw,fun i hi=>?_⟩⟩;obtain⟨a,qq,e1,e2,q1,q2⟩:=hws i hi;refine⟨qq,e2,?_⟩;have q2:=VB.a7 q2;rcases q2 with (q2 |⟨o,q2⟩) |q2
 ·exact .inl (.inl (put _ _ _ (bU q2 Sg (by intro z;cases z)) q2))
 ·exact .inl (.inr ⟨o,put _ _ _ (bU q2 Sg (by intro z;cases z)) q2⟩)
 ·exact .inr q2
theorem OS{o:W}(ho:o=[43]\/o=[45]\/o=[42])(a b c:Int):cm (iB [] [((Sum.inr (zab "+"):Key),V.int a),(Sum.inr (zab "-"),V.int b),(Sum.inr (zab "*"),V.int c)]) (Sum.inr (S o))=some (V.int (if o=[43] then a else if o=[45] then b else c)):=by
 have nk:([(Sum.inr (zab "+"):Key),Sum.inr (zab "-"),Sum.inr (zab "*")]).Nodup:=by decide +kernel
 rw[ie _ [] (by simpa using nk),zaK];have e1:(Sum.inr (zab "+"):Key)=Sum.inr (S [43]):=by decide +kernel
 have e2:(Sum.inr (zab "-"):Key)=Sum.inr (S [45]):=by decide +kernel
 have e3:(Sum.inr (zab "*"):Key)=Sum.inr (S [42]):=by decide +kernel
 have ne:∀x y:W,x≠y->¬(Sum.inr (S x):Key)=Sum.inr (S y):=fun x y n z=>n (mw.mp (Sum.inr.inj z));rw[e1,e2,e3];rcases ho with rfl |rfl |rfl
 ·rw[zzp rfl,cu rfl]
 ·rw[zzn (by decide),zzp rfl,cw (ne _ _ (by decide)),cu rfl]
 ·rw[zzn (by decide),zzn (by decide),cw (ne _ _ (by decide)),cw (ne _ _ (by decide)),cu rfl]
theorem Mf(T:Tx K mg t){n:Nat}(lO:bJ P w K mg base dw n t.nY t.mO ["e", "values"] (PX K n)) :
 bJ P w K mg base dw (n+1) t.nY t.mO ["e", "values"] (PX K (n+1)):=by
 refine T.j7.F.lS C9 (fun vs H Q E h=>?_) (fun eS A outer s H vs Q E hr h=>?_)
 ·obtain⟨_,_,_,_,rfl,_⟩:=h;rfl
 obtain⟨v,d,tr,kv,rfl,hv,hd,ok,ht,h6,q⟩:=h;have nd:=C9.nd;have hu:=dS hr;refine⟨_,[some v,some (.ref d),none,none,none],(ah (c5 2 nd (aC aM (pv 0) aj ao))
 (ah (bh (aD bN (pv 2) aU (aR _))
 (ak (aO (aC aM (pv 0) aj ao)))
 aV)
 (ah (bh (aD bN (pv 2) aU (aR _))
 (ak (aO (cf hu (pv 1) (aC aM (pv 0) aj ao) (fun _ _=>rfl))))
 aV)
 (ah (c5 3 nd (da lO T.j7 hr (ag (aC aM (pv 0) aj ao) (bc 1 aa) aY)))
 (ah (c5 4 nd (da lO T.j7 hr (ag (aC aM (pv 0) aj ao) (bc 1 aa) aY)))
 (ah (bh (aD bN (pv 2) aU (aR _))
 (ak (aO (bf dP (pv 3) (pv 4))))
 aV)
 (ah (bh (aD bN (pv 2) aU (aR _))
 (ak (aO (bf w9 (pv 3) (pv 4))))
 aV)
 (ak (aO (bf F2 (pv 3) (pv 4))))))))))),rfl,?_⟩
 have n1:¬("box":Str) = "number":=by decide +kernel
 cases tr with
 |num m=>
  unfold my at hv;simp only[Rep.bg,aN.aI,aN.br,Rep.bA,Rep.bt] at hv;obtain⟨a,xs,rfl,hS,_,_,rfl,rfl,_,_,rfl,rfl,rfl⟩:=hv;walk_at "r";refine aG hS rfl ?_;walk_at "r";rw[zzp trivial];exact aG hS rfl (q _ (aq.refl _))
 |box x=>
  unfold my at hv;simp only[Rep.bg,aN.aI,aN.br,Rep.bA,Rep.bt] at hv;obtain⟨a,xs,rfl,hS,_,_,rfl,rfl,_,_,rfl,rfl,rfl⟩:=hv;walk_at "r";refine aG hS rfl ?_;walk_at "r";rw[zzn n1,zzp trivial];obtain⟨i,e,_⟩:=ok;have q:=q _ (aq.refl _);rw[cx,EK e] at q;exact aG hS rfl ⟨d,.int i,rfl,qE.s hd e,q⟩
 |bin o l r=>
  unfold my at hv;simp only[Rep.bg,aN.aI,aN.br,Rep.bA,Rep.bt] at hv;obtain⟨a,xs,rfl,hS,_,_,rfl,rfl,vl,_,rfl,hl,vr,_,rfl,Zw,rfl⟩:=hv;obtain⟨ho,ol,or'⟩:=ok;have n2:¬S o = "number":=by rcases ho with rfl |rfl |rfl<;>decide +kernel
  have n3:¬S o = "box":=by rcases ho with rfl |rfl |rfl<;>decide +kernel
  have e1:(S o = "+")↔o=[43]:=by rw[show ("+":Str)=S [43] from rfl,mw]
  have e2:(S o = "-")↔o=[45]:=by rw[show ("-":Str)=S [45] from rfl,mw]
  walk_at "r";refine aG hS rfl ?_;walk_at "r";rw[zzn n2,zzn n3];have wl:=mF ol;have wr:=mF or';rw[oE] at ht h6;refine aG hS rfl ⟨vl,d,l,kv,rfl,hl,hd,ol,by lia,by lia,fun H1 s1=>?_⟩;refine aG (s1.a7 hS) rfl ⟨vr,d,r,kv,rfl,Zw.mono s1,s1 _ _ hd,or',by lia,by lia,fun H2 s2=>?_⟩;walk_at "r";have q:=q _ (s1.trans s2);rw[cx] at q;refine b9 (fun c=>?_) (fun c=>?_)
  ·rw[zzp (e1.mp c)] at q;exact q
  rw[zzn (fun z=>c (e1.mpr z))] at q;refine b9 (fun c=>?_) (fun c=>?_)
  ·rw[zzp (e2.mp c)] at q;exact q
  rw[zzn (fun z=>c (e2.mpr z))] at q;exact⟨⟨AZ wl (by lia),AZ wr (by lia)⟩,q⟩
theorem vD(T:Tx K mg t):∀n,bJ P w K mg base dw n t.nY t.mO ["e", "values"] (PX K n)
 |0=>by
  have no:∀vs H Q E,¬PX K 0 vs H Q E:=fun vs H Q E h=>by obtain⟨_,_,_,_,_,_,_,_,h,_⟩:=h;lia
  exact⟨fun vs H Q E h=>zzb h (no vs H Q E),fun A outer s H args us vs Q E _ _ _ _ h=>zzb h (no vs H Q E)⟩
 |n+1=>Mf T (vD T n)
theorem IM(T:Tx K mg t){n:Nat}(cV:bJ P w K mg base dw n t.fD t.fU ["e", "values"] (PX K n)) :
 bJ P w K mg base dw (n+1) t.fD t.fU ["e", "values"] (PX K (n+1)):=by
 refine T.cL.F.lS qV (fun vs H Q E h=>?_) (fun eS A outer s H vs Q E hr h=>?_)
 ·obtain⟨_,_,_,_,rfl,_⟩:=h;rfl
 obtain⟨v,d,tr,kv,rfl,hv,hd,ok,ht,h6,q⟩:=h;have nd:=qV.nd;have hu:=dS hr;refine⟨_,[some v,some (.ref d),none,none],(ah (bh (aD bN (aC aM (pv 0) aj ao) aU (aR _))
 (ak (aO (aC aM (pv 0) aj ao)))
 aV)
 (ah (bh (aD bN (aC aM (pv 0) aj ao) aU (aR _))
 (ak (aO (cf hu (pv 1) (aC aM (pv 0) aj ao) (fun _ _=>rfl))))
 aV)
 (ah (c5 2 nd (da cV T.cL hr (ag (aC aM (pv 0) aj ao) (bc 1 aa) aY)))
 (ah (c5 3 nd (da cV T.cL hr (ag (aC aM (pv 0) aj ao) (bc 1 aa) aY)))
 (ak (aO (cf hu (NF (xn aU (bf dP (pv 2) (pv 3)) (xn aU (bf w9 (pv 2) (pv 3)) (xn aU (bf F2 (pv 2) (pv 3)) ND))) rfl rfl (by simp) (by decide)) (aC aM (pv 0) aj ao) (fun _ _=>rfl)))))))),rfl,?_⟩
 have n1:¬("box":Str) = "number":=by decide +kernel
 cases tr with
 |num m=>
  unfold my at hv;simp only[Rep.bg,aN.aI,aN.br,Rep.bA,Rep.bt] at hv;obtain⟨a,xs,rfl,hS,_,_,rfl,rfl,_,_,rfl,rfl,rfl⟩:=hv;walk_at "r";refine aG hS rfl ⟨rfl,?_⟩;rw[zzp rfl];exact aG hS rfl (q _ (aq.refl _))
 |box x=>
  unfold my at hv;simp only[Rep.bg,aN.aI,aN.br,Rep.bA,Rep.bt] at hv;obtain⟨a,xs,rfl,hS,_,_,rfl,rfl,_,_,rfl,rfl,rfl⟩:=hv;walk_at "r";refine aG hS rfl ⟨rfl,?_⟩;rw[zzn (fun z=>n1 (V.str.inj z))];refine aG hS rfl ⟨rfl,?_⟩;rw[zzp rfl];obtain⟨i,e,_⟩:=ok;have q:=q _ (aq.refl _);rw[cx,EK e] at q;exact aG hS rfl ⟨d,.int i,rfl,qE.s hd e,q⟩
 |bin o l r=>
  unfold my at hv;simp only[Rep.bg,aN.aI,aN.br,Rep.bA,Rep.bt] at hv;obtain⟨a,xs,rfl,hS,_,_,rfl,rfl,vl,_,rfl,hl,vr,_,rfl,Zw,rfl⟩:=hv;obtain⟨ho,ol,or'⟩:=ok;have n2:¬S o = "number":=by rcases ho with rfl |rfl |rfl<;>decide +kernel
  have n3:¬S o = "box":=by rcases ho with rfl |rfl |rfl<;>decide +kernel
  walk_at "r";refine aG hS rfl ⟨rfl,?_⟩;rw[zzn (fun z=>n2 (V.str.inj z))];refine aG hS rfl ⟨rfl,?_⟩;rw[zzn (fun z=>n3 (V.str.inj z))];have wl:=mF ol;have wr:=mF or';rw[oE] at ht h6;refine aG hS rfl ⟨vl,d,l,kv,rfl,hl,hd,ol,by lia,by lia,fun H1 s1=>?_⟩;refine aG (s1.a7 hS) rfl ⟨vr,d,r,kv,rfl,Zw.mono s1,s1 _ _ hd,or',by lia,by lia,fun H2 s2=>?_⟩;simp only[Pz,AK];walk_at "r";intro p hp;refine⟨⟨AZ wl (by lia),AZ wr (by lia)⟩,ae,[(.inr (zab "+"),.int (cx (yS kv) l+cx (yS kv) r)),(.inr (zab "-"),.int (cx (yS kv) l-cx (yS kv) r)),(.inr (zab "*"),.int (cx (yS kv) l*cx (yS kv) r))],rfl,by simp,?_⟩;have s3:=aq.new hp (.dK []);have sE:aq H2 (upd (upd H2 p (.dK [])) p (.dK (iB [] [(.inr (zab "+"),.int (cx (yS kv) l+cx (yS kv) r)),(.inr (zab "-"),.int (cx (yS kv) l-cx (yS kv) r)),(.inr (zab "*"),.int (cx (yS kv) l*cx (yS kv) r))]))):=by
   rw[Nj];exact aq.new hp _
  refine aG (((s1.trans s2).trans sE).a7 hS) (v:=.str (S o)) (au (j:=0) rfl) ⟨p,.int (cx (yS kv) (.bin o l r)),rfl,qE.s ae ?_,q _ ((s1.trans s2).trans sE)⟩;rw[cx];exact OS ho _ _ _
theorem sr(T:Tx K mg t):∀n,bJ P w K mg base dw n t.fD t.fU ["e", "values"] (PX K n)
 |0=>by
  have no:∀vs H Q E,¬PX K 0 vs H Q E:=fun vs H Q E h=>by obtain⟨_,_,_,_,_,_,_,_,h,_⟩:=h;lia
  exact⟨fun vs H Q E h=>zzb h (no vs H Q E),fun A outer s H args us vs Q E _ _ _ _ h=>zzb h (no vs H Q E)⟩
 |n+1=>IM T (sr T n)
theorem vZ(T:Tx K mg t):bJ P w K mg base dw 1 t.kJ t.lH ["chart", "parts"] (Ik K t.aW):=by
 refine T.kO.F.lS vU (fun vs H Q E h=>?_) (fun eS A outer s H vs Q E hr h=>?_)
 ·obtain⟨_,_,_,_,rfl,_⟩:=h;rfl
 obtain⟨p,a,pr,us,rfl,co,ha,lu,nb,lb,q⟩:=h;have nd:=vU.nd;refine⟨_,[some (.ref p),some (.ref a)],(ak (aO (rT rfl rfl T.pX rfl T.Dd (ag (kz (pv 0) rfl) (bc 1 aa) F7)))),rfl,?_⟩;obtain⟨dx,nl,sd,fa,va,st,wy,uu,ws,h1,h2,h3,_⟩:=co.at_;walk_at "r";simp only[W7];walk_at "r";refine⟨p,_,dx,_,.ref nl,rfl,h1,T.c9,T.gF,rfl,?_⟩;refine⟨nl,a,pr.ay.map fun b=>.inr (S b.name),us,rfl,?_,ha,by rw[zad];exact lu,fun d hd=>?_⟩
 ·rw[zbj];exact .of h3
 ·rw[nG,ie _ [] (by rw[zaK,lC _ _ lu];exact names_nodup nb),zaK];exact q d _ (aq.new hd _) hd ae
theorem Dg(T:Tx K mg t):bJ P w K mg base dw 1 t.kK t.lI ["chart", "named"] (Il K t.aW):=by
 refine T.om.F.lS vV (fun vs H Q E h=>?_) (fun eS A outer s H vs Q E hr h=>?_)
 ·obtain⟨_,_,_,_,_,rfl,_⟩:=h;rfl
 obtain⟨p,d,pr,ax,us,rfl,co,hd,lu,hv,lb,q⟩:=h;have nd:=vV.nd;have hu:=dS hr;refine⟨_,[some (.ref p),some (.ref d)],(ak (aO (fO lP rfl T.uq PyProof.Rows.Boot.«tuple» (ag (hG (own:=["name"]) (ix:=[1]) rfl (by rfl) (by rfl) (cI (kz (pv 0) rfl)) (fun _ _ _ _=>(fZ (i:=0) (by show List.Nodup (["name", "named"]:List Str);decide +kernel) rfl (zbq rfl))) (fun _ _ _ _=>iC) (fun _ _ _ _=>(cf hu (pv 1) (pv 0) (fun _ _=>rfl)))) aa lh)))),rfl,?_⟩;obtain⟨dx,nl,sd,fa,va,st,wy,uu,ws,h1,h2,h3,_⟩:=co.at_;walk_at "r";simp only[jT];walk_at "r";have ln:(pr.ay.map fun b=>V.str (S b.name)).length=pr.ay.length:=zad ..;refine⟨p,_,dx,_,.ref nl,rfl,h1,T.c9,T.gF,rfl,nl,rfl,⟨_,.of h3⟩,fun D hD=>?_⟩;refine kn (K:=K) (r:=[some (V.ref d)]) (fun i=>us.getD i .cC) (.of h3) (by rw[ln];lia) hD (fun i x H2 hx s2 R hR=>?_) (fun H2 s2 h2=>⟨D,_,rfl,.inl ⟨.of h2,fun l hl=>?_⟩⟩)
 ·have li:i<pr.ay.length:=by have:=(zak.mp hx).1;rw[ln] at this;exact this
  rw[zam,zac li] at hx;cases hx;have g:=hv i li;have li2:i<us.length:=by lia
  rw[zac li2] at g;have e:us.getD i .cC=us[i]:=by rw[zap,zac li2];rfl
  rw[e] at hR;walk_at "r";exact⟨d,us[i],rfl,qE.s (s2 _ _ hd) g,hR⟩
 ·have e:(zaH (pr.ay.map fun b=>V.str (S b.name)).length).map (fun i=>us.getD i .cC)=us:=by
   rw[ln,<- lu];have:=jf (fun v:V=>v) V.cC us;rw[List.map_id'] at this;exact this
  rw[e];exact q l _ (s2.trans (aq.new hl _)) (.of ae)
theorem su(T:Tx K mg t):bJ P w K mg base dw 1 t.mQ t.nZ ["chart", "row"] (Lf K t.aW):=by
 refine T.kx.F.lS xZ (fun vs H Q E h=>?_) (fun eS A outer s H vs Q E hr h=>?_)
 ·obtain⟨_,_,_,rfl,_⟩:=h;rfl
 obtain⟨p,pr,row,rfl,co,pw,q⟩:=h;have nd:=xZ.nd;have hu:=dS hr;obtain⟨Md,yj,yk⟩:=T.Bi;refine⟨_,[some (.ref p),some (.int row)],(ah (bh (aD bN (pv 1) (qe rfl yj yk) (aR _))
 (ak (aO aU))
 aV)
 (ak (aO (aC aM (cf hu (kz (pv 0) rfl) (pv 1) (fun _ _=>rfl)) aj ao)))),rfl,?_⟩
 obtain⟨dx,nl,sd,fa,va,st,wy,uu,ws,h1,h2,h3,h4,h5,h6,h7,h8,h9,_⟩:=co.at_;walk_at "r";rcases q with ⟨rfl,q⟩ |⟨n0,i,hi,er,q⟩
 ·exact(zzp rfl).mpr q
 ·refine(zzn n0).mpr ⟨p,_,dx,_,.ref st,rfl,h1,T.c9,T.cN,rfl,?_⟩;have li:i<uu.length:=by lia
  obtain⟨v,hv,rv⟩:=h9.get (i:=i) (d:=dH (az pr.body)[i]) (by rw[zam,zac hi];rfl);have g:=pG _ _ h7 pw i hi v hv;obtain⟨sa,ys,rfl,hs⟩:=iq _ rv;rw[er] at g;exact⟨st,.ref sa,rfl,.inl ⟨_,.inl row,.inl h8,rfl,g.symm⟩,aG hs (v:=.str (gg (az pr.body)[i].wd)) (au (j:=0) rfl) q⟩
theorem Dh(T:Tx K mg t):bJ P w K mg base dw 4 t.um t.uo ["chart", "standing"] (Oh K t.aW):=by
 have sF:=@vZ P w _ _ base _ T;have lO:=@vD P w _ _ base _ T 3;refine T.qy.F.lS Dc (fun vs H Q E h=>?_) (fun eS A outer s H vs Q E hr h=>?_)
 ·obtain⟨_,_,_,_,_,_,_,_,_,rfl,_⟩:=h;rfl
 obtain⟨p,sa,pr,vals,i,hi,sg,l,r,rfl,co,ok,⟨va,OT,E8⟩,lv,cp,tl,tr,q⟩:=h;have nd:=Dc.nd;have hu:=dS hr;refine⟨_,[some (.ref p),some (.ref sa),none,none,none,none],(ah (c5 2 nd (cf hu (kz (pv 0) rfl) (aC aM (pv 1) aj ao) (fun _ _=>rfl)))
 (ah (c5 3 nd (da sF T.kO hr (bc 0 (ag (aC aM (pv 1) aj ao) aa aY))))
 (ah (c5 4 nd (da lO T.j7 hr (ag (aC aM (pv 2) aj ao) (bc 3 aa) aY)))
 (ah (c5 5 nd (da lO T.j7 hr (ag (aC aM (pv 2) aj ao) (bc 3 aa) aY)))
 (ah (bh (aD bN (aC aM (pv 2) aj ao) aU (aR _))
 (ak (aO (kX oT (pv 4) (pv 5) (aR _))))
 aV)
 (ak (aO (kX bN (pv 4) (pv 5) (aR _))))))))),rfl,?_⟩
 obtain⟨dx,nl,sd,fa,wa,st,wy,uu,ws,h1,h2,h3,h4,h5,h6,h7,h8,h9,_⟩:=co.at_;have li:i<uu.length:=by lia
 obtain⟨v,hv,rv⟩:=h9.get (i:=i) (d:=dH (az pr.body)[i]) (by rw[zam,zac hi];rfl);have g:=pG _ _ h7 ok.pw i hi v hv;obtain⟨ta,w0,vl,vr,ys,rfl,hs,rl,rr⟩:=rW rv cp;generalize (az pr.body)[i]=sm at *;have e1:(V.str (S sg)=V.str (zab "<"))↔sg=[60]:=by rw[show (zab "<":Str)=S [60] from rfl,V.str.injEq,mw]
 refine av fun U1 eE=>?_;walk_at "r";refine⟨p,_,dx,_,.ref st,rfl,h1,T.c9,T.cN,rfl,?_⟩;refine aG OT (v:=.int sm.row) (au (j:=0) rfl) ⟨st,.ref ta,rfl,.inl ⟨_,.inl sm.row,.inl h8,rfl,g.symm⟩,(eE _ _).mpr (av fun U2 gk=>?_)⟩;clear eE;walk_at "r";refine aG OT (v:=.ref va) (au (j:=1) rfl) ⟨p,va,pr,vals.map V.int,rfl,co,E8,by rw[zad];exact lv,ok.nb,ok.uZ,fun d H2 s2 hd2 y2=>(gk _ _).mpr (av fun U3 i3=>?_)⟩;clear gk;walk_at "r";refine aG (s2.a7 hs) (v:=vl) (au (j:=3) rfl) ⟨vl,d,l,_,rfl,rl.mono s2,y2,tl.1,by have:=tl.2;lia,by have:=tl.2;lia,fun H3 s3=>(i3 _ _).mpr (av fun U4 kg=>?_)⟩;clear i3;walk_at "r";refine aG ((s2.trans s3).a7 hs) (v:=vr) (au (j:=4) rfl) ⟨vr,d,r,_,rfl,rr.mono (s2.trans s3),s3 _ _ y2,tr.1,by have:=tr.2;lia,by have:=tr.2;lia,fun H4 s4=>(kg _ _).mpr ?_⟩;clear kg;have q:=q _ ((s2.trans s3).trans s4);unfold gS at q;walk_at "r";refine aG (((s2.trans s3).trans s4).a7 hs) (v:=.str (S sg)) (au (j:=2) rfl) ⟨rfl,b9 (fun e=>?_) (fun e=>?_)⟩
 ·rw[zzp (e1.mp e)] at q;exact q
 ·rw[zzn (fun z=>e (e1.mpr z))] at q;exact q
theorem qH(T:Tx K mg t):bJ P w K mg base dw 5 t.dJ t.eT ["chart", "standing"] (Io K t.aW):=by
 have wX:=@Dh P w _ _ base _ T;have mY:=@su P w _ _ base _ T;refine T.fE.F.lS jW (fun vs H Q E h=>?_) (fun eS A outer s H vs Q E hr h=>?_)
 ·obtain⟨_,_,_,_,_,_,_,_,_,_,rfl,_⟩:=h;rfl
 obtain⟨p,sa,pr,vals,i,hi,hf,sg,l,r,rfl,co,ok,sG,lv,cp,tl,tr,w0,w1,q⟩:=h;have nd:=jW.nd;have hu:=dS hr;refine⟨_,[some (.ref p),some (.ref sa),none],(ah (c5 2 nd (aC aM (pv 1) aj ao))
 (ah (bh (rG (da wX T.qy hr (bc 0 (bc 1 aa))))
 (ak (aO (aS (ag (aC aM (cf hu (kz (pv 0) rfl) (pv 2) (fun _ _=>rfl)) aj ao) (ag (aC aM (pv 1) aj ao) aa aY) aY))))
 aV)
 (ah (bh (aD bN (da mY T.kx hr (bc 0 (bc 2 aa))) aU (aR _))
 (ak (aO eU))
 aV)
 (ak (aO (aS (ag (aC aM (cf hu (kz (pv 0) rfl) (pv 2) (fun _ _=>rfl)) aj ao) (ag (aC aM (pv 1) aj ao) aa aY) aY))))))),rfl,?_⟩
 obtain⟨va,OT,E8⟩:=id sG;have aeA:=ok.pos _ (zau hi);refine av fun U1 eE=>?_;walk_at "r";refine aG OT (v:=.int (az pr.body)[i].row) (au (j:=0) rfl) ((eE _ _).mpr ?_);clear eE;walk_at "r";refine⟨p,sa,pr,vals,i,hi,sg,l,r,rfl,co,ok,sG,lv,cp,tl,tr,fun H2 s2=>?_⟩;obtain⟨dx,fs,wy,wq,g1,g2,g3,g4⟩:=(co.mono s2).way ok i hi hf;have qq:∀(j:Nat) (x:Int),(aQ pr.body 0)[i].2.2[j]?=some x->tm ((aQ pr.body 0)[i].2.2.map V.int) (j:Int)=some (V.int x):=fun j x e=>au (by rw[zam,e];rfl);have back:∀(x:Int) (H3:Hp),aq H2 H3->∀pp,H3 pp=none->qM K (upd H3 pp (.tup [V.int x,V.ref va])) (some (x,vals)) (.ref pp):=fun x H3 s3 pp Bk=>⟨pp,rfl,va,.of ae,((s2.trans s3).trans (aq.new Bk _)).a7 E8⟩
 unfold iH at q;rw[cp] at q;simp only at q;refine⟨_,rfl,b9 (fun e=>?_) (fun e=>?_)⟩
 ·rw[zzp e] at q;have e0:(aQ pr.body 0)[i].2.2[0]?=some ((aQ pr.body 0)[i].2.2.getD 0 0):=by rw[zap,zac w0];rfl
  refine⟨p,_,dx,fs,.ref wy,rfl,g1,T.c9,T.fW,g2,wy,.ref wq,rfl,g3,aG g4 (v:=.int ((aQ pr.body 0)[i].2.2.getD 0 0)) (qq 0 _ e0) (aG (s2.a7 OT) (v:=.ref va) (au (j:=1) rfl) fun pp Bk=>?_)⟩;exact q _ _ (s2.trans (aq.new Bk _)) (back _ _ (aq.refl _) pp Bk)
 ·rw[zzn e] at q;refine⟨p,pr,_,rfl,co.mono s2,ok.pw,.inr ⟨by lia,i,hi,rfl,rfl,b9 (fun e2=>?_) (fun e2=>?_)⟩⟩
  ·have ew:(az pr.body)[i].wd=.cg:=(pF _).mp e2;rw[zzp ew] at q;exact q _ _ s2 rfl
  ·have ew:(az pr.body)[i].wd≠.cg:=fun z=>e2 ((pF _).mpr z);rw[zzn ew] at q;have w1:=w1 ew;have e1:(aQ pr.body 0)[i].2.2[1]?=some ((aQ pr.body 0)[i].2.2.getD 1 0):=by rw[zap,zac w1];rfl
   refine⟨p,_,dx,fs,.ref wy,rfl,g1,T.c9,T.fW,g2,wy,.ref wq,rfl,g3,aG g4 (v:=.int ((aQ pr.body 0)[i].2.2.getD 1 0)) (qq 1 _ e1) (aG (s2.a7 OT) (v:=.ref va) (au (j:=1) rfl) fun pp Bk=>?_)⟩;exact q _ _ (s2.trans (aq.new Bk _)) (back _ _ (aq.refl _) pp Bk)
theorem GW:∀w:Wd,Nz (V.str (gg w)) [V.str (zab "must"),V.str (zab "if"),V.str (zab "while")]=decide (w=.cg\/w=.ifs\/w=.fc):=by
 intro w;cases w<;>decide +kernel
theorem E9:∀w:Wd,(gg w=zab "ask")↔w=.ask:=by
 intro w;cases w<;>decide +kernel
theorem OU:∀w:Wd,(gg w=zab "put")↔w=.put:=by
 intro w;cases w<;>decide +kernel
theorem OV:∀w:Wd,(gg w=zab "say")↔w=.say:=by
 intro w;cases w<;>decide +kernel
theorem qM.mono{H H':Hp}{o:Option (Int×List Int)}{v:V}(h:qM K H o v)(s:aq H H'):qM K H' o v:=by
 cases o with
 |none=>exact h
 |some x=>obtain⟨a,e,sa⟩:=h;exact⟨a,e,sa.mono s⟩
theorem cond_of{bs:List gb}{vals:List Int}{st:bG}(h:st.wd=.cg\/st.wd=.ifs\/st.wd=.fc)(po:Gy bs vals st):∃sg l r,pK st=some (sg,l,r)/\DG bs vals l/\DG bs vals r/\∀ws fig,lD bs st ws vals fig=(iH bs st ws vals,none):=by
 cases st<;>simp only[bG.wd,reduceCtorEq,or_self,or_false,false_or] at h<;>exact⟨_,_,_,rfl,po.1,po.2,fun _ _=>rfl⟩
theorem Mg{st:bG}(h:st.wd=.ask):∃k b,st=.ask k b:=by
 cases st<;>first |exact⟨_,_,rfl⟩ |cases h
theorem Mh{st:bG}(h:st.wd=.put):∃k b e,st=.put k b e:=by
 cases st<;>first |exact⟨_,_,_,rfl⟩ |cases h
theorem Mi{st:bG}(h:st.wd=.say):∃k e,st=.say k e:=by
 cases st<;>first |exact⟨_,_,rfl⟩ |cases h
theorem OW{st:bG}(h0:¬(st.wd=.cg\/st.wd=.ifs\/st.wd=.fc))(h1:st.wd≠.ask)(h2:st.wd≠.put)(h3:st.wd≠.say):∃k,st=.stop k:=by
 cases st<;>simp only[bG.wd,reduceCtorEq,or_self,or_false,false_or,not_true,not_false_iff,ne_eq] at h0 h1 h2 h3<;>exact⟨_,rfl⟩
theorem Al{H:Hp}{k:Int}{b:W}{v:V}(h:Rep K H (dH (.ask k b)) v):∃a,v=.ref a/\bQ K H a [.str "ask",.int k,.str (S b)]:=by
 simp only[dH,Rep.bg,aN.aI,aN.br,Rep.bA,Rep.bt] at h;obtain⟨a,ys,rfl,hS,_,_,rfl,rfl,_,_,rfl,rfl,_,_,rfl,rfl,rfl⟩:=h;exact⟨a,rfl,hS⟩
theorem Am{H:Hp}{k:Int}{b:W}{e:PM.Tr}{v:V}(h:Rep K H (dH (.put k b e)) v):∃a u,v=.ref a/\bQ K H a [.str "put",.int k,.str (S b),u]/\Rep K H (my e) u:=by
 simp only[dH,Rep.bg,aN.aI,aN.br,Rep.bA,Rep.bt] at h;obtain⟨a,ys,rfl,hS,_,_,rfl,rfl,_,_,rfl,rfl,_,_,rfl,rfl,u,_,rfl,ru,rfl⟩:=h;exact⟨a,u,rfl,hS,ru⟩
theorem An{H:Hp}{k:Int}{e:PM.Tr}{v:V}(h:Rep K H (dH (.say k e)) v):∃a u,v=.ref a/\bQ K H a [.str "say",.int k,u]/\Rep K H (my e) u:=by
 simp only[dH,Rep.bg,aN.aI,aN.br,Rep.bA,Rep.bt] at h;obtain⟨a,ys,rfl,hS,_,_,rfl,rfl,_,_,rfl,rfl,u,_,rfl,ru,rfl⟩:=h;exact⟨a,u,rfl,hS,ru⟩
theorem AA(vals:List Int)(j:Nat)(x:Int):(vals.map V.int).set j (.int x)=(vals.set j x).map V.int:=by
 rw[List.map_set]
theorem qA{bs:List gb}(bp:∀b∈bs,0<b.size)(x:W):0<eP bs x:=by
 unfold eP;cases e:bs[c7 bs x]? with
 |none=>decide
 |some b=>exact bp b (zaI e)
theorem Fb(T:Tx K mg t):bJ P w K mg base dw 6 t.mS t.n9 ["chart", "standing", "figure"] (Lh K t.aW):=by
 have sH:=@qH P w _ _ base _ T;have sF:=@vZ P w _ _ base _ T;have Fc:=@Dg P w _ _ base _ T;have lO:=@vD P w _ _ base _ T 3;refine T.mV.F.lS x5 (fun vs H Q E h=>?_) (fun eS A outer s H vs Q E hr h=>?_)
 ·obtain⟨_,_,_,_,_,_,_,_,_,rfl,_⟩:=h;rfl
 obtain⟨p,sa,fv,pr,vals,fig,i,hi,hf,rfl,co,ok,bp,sG,lv,VD,po,w0,w1,q⟩:=h;have nd:=x5.nd;have hu:=dS hr;refine⟨_,[some (.ref p),some (.ref sa),some fv,none,none,none,none,none],(ah (c5 3 nd (aC aM (pv 1) aj ao))
 (ah (c5 4 nd (cf hu (kz (pv 0) rfl) (pv 3) (fun _ _=>rfl)))
 (ah (c5 5 nd (aC aM (pv 4) aj ao))
 (ah (bh (aD ja (pv 5) (aS (cQ (vs:=[.str "must",.str "if",.str "while"]) (by kernel_rfl))) rfl)
 (ak (aO (aS (ag (da sH T.fE hr (bc 0 (bc 1 aa))) (ag eU aa aP) bH))))
 aV)
 (ah (c5 6 nd (da sF T.kO hr (bc 0 (ag (aC aM (pv 1) aj ao) aa aY))))
 (ah (c5 7 nd eU)
 (ah (bh (aD bN (pv 5) aU (aR _))
 (ak (nh hu (pv 6) (aC aM (pv 4) aj ao) (bf cJ (pv 2) (cf hu (kz (pv 0) rfl) (aC aM (pv 4) aj ao) (fun _ _=>rfl))) rfl))
 (ak (bh (aD bN (pv 5) aU (aR _))
 (ak (nh hu (pv 6) (aC aM (pv 4) aj ao) (bf cJ (da lO T.j7 hr (ag (aC aM (pv 4) aj ao) (bc 6 aa) aY)) (cf hu (kz (pv 0) rfl) (aC aM (pv 4) aj ao) (fun _ _=>rfl))) rfl))
 (ak (bh (aD bN (pv 5) aU (aR _))
 (ak (c5 7 nd (da lO T.j7 hr (ag (aC aM (pv 4) aj ao) (bc 6 aa) aY))))
 aV)))))
 (ak (aO (aS (ag (aS (ag (aC aM (cf hu (kz (pv 0) rfl) (pv 3) (fun _ _=>rfl)) aj ao) (ag (da Fc T.om hr (bc 0 (bc 6 aa))) aa bH) aY)) (bc 7 aa) bW))))))))))),rfl,?_⟩
 obtain⟨va,OT,E8⟩:=id sG;obtain⟨dx,nl,sd,fa,va',st,wy,uu,ws,h1,h2,h3,h4,h5,h6,h7,h8,h9,_⟩:=co.at_;have li:i<uu.length:=by lia
 obtain⟨v,hv,rv⟩:=h9.get (i:=i) (d:=dH (az pr.body)[i]) (by rw[zam,zac hi];rfl);have g:=pG _ _ h7 ok.pw i hi v hv;have sel:∃ta ds,v=.ref ta/\bQ K H ta (.str (gg (az pr.body)[i].wd)::ds):=by
  generalize (az pr.body)[i]=sm at rv;cases sm<;>(rw[dH,Rep.bg] at rv;obtain⟨ta,ys,rfl,hs,rs⟩:=rv;rw[aN.aI] at rs;obtain⟨v0,t0,rfl,e0,rs⟩:=rs;rw[Rep.bA] at e0;subst e0;exact⟨ta,_,rfl,hs⟩)
 obtain⟨ta,ds,rfl,hs⟩:=sel;refine av fun U1 eE=>?_;walk_at "r";refine aG OT (v:=.int (az pr.body)[i].row) (au (j:=0) rfl) ((eE _ _).mpr (av fun U2 gk=>?_));clear eE;walk_at "r";refine⟨p,_,dx,_,.ref st,rfl,h1,T.c9,T.cN,rfl,⟨st,.ref ta,rfl,.inl ⟨_,.inl _,.inl h8,rfl,g.symm⟩,(gk _ _).mpr (av fun U3 i3=>?_)⟩⟩;clear gk;walk_at "r";refine aG hs (v:=.str (gg (az pr.body)[i].wd)) (au (j:=0) rfl) ((i3 _ _).mpr ?_);clear i3;refine av fun U4 kg=>?_;walk_at "r";intro z hz;have sz:=aq.new hz (HO.tup [V.str (zab "must"),V.str (zab "if"),V.str (zab "while")]);refine⟨z,_,rfl,.inr (.of ae),rfl,rfl,_,rfl,b9 (fun e=>?_) (fun e=>?_)⟩
 ·have e:=e;simp only[zay,if_false,GW,decide_eq_true_eq] at e;obtain⟨sg,l,r,cp,tl,tr,es⟩:=cond_of e po;rw[es] at q;refine⟨p,sa,pr,vals,i,hi,hf,sg,l,r,rfl,co.mono sz,ok,sG.mono sz,lv,cp,tl,tr,w0,fun nm=>w1 (by rcases e with e |e |e;exact zzb e nm;exact .inl e;exact .inr e),fun v H2 s2 os pp Bk=>?_⟩;exact q pp v _ ((sz.trans s2).trans (aq.new Bk _)) (.of ae) (qM.mono os (aq.new Bk _))
 have e0:=e;simp only[zay,if_false,GW,decide_eq_true_eq] at e0;refine(kg _ _).mpr (av fun U5 uv=>?_);clear kg e;walk_at "r";refine aG (sz.a7 OT) (v:=.ref va) (au (j:=1) rfl) ⟨p,va,pr,vals.map V.int,rfl,co.mono sz,sz.a7 E8,by rw[zad];exact lv,ok.nb,ok.uZ,fun d H2 s2' hd2 y2=>(uv _ _).mpr (av fun U6 yK=>?_)⟩;clear uv;have s2:=sz.trans s2';have hd:=sz.free hd2;walk_at "r";refine(yK _ _).mpr (av fun U7 GX=>?_);clear yK;have fin:∀(H5:Hp) (ax:List (Key×V)) (us:List Int) (sd:Option Int),aq H H5->H5 d=some (.dK ax)->us.length=pr.ay.length->(∀i (hi:i<pr.ay.length),cm ax (.inr (S pr.ay[i].name))=(us.map V.int)[i]?)->
  lD pr.ay (az pr.body)[i] (aQ pr.body 0)[i].2.2 vals fig=(some ((aQ pr.body 0)[i].2.2.getD 0 0,us),sd)->
  U7 [some (.ref p),some (.ref sa),some fv,some (.int (az pr.body)[i].row),some (.ref ta),some (.str (gg (az pr.body)[i].wd)),some (.ref d),some (Lg sd)] H5:=by
  intro H5 ax us sd' s5 hd5 lu look es;rw[es] at q;refine(GX _ _).mpr ?_;clear GX;walk_at "r";obtain⟨dx,fs,wy,wq,g1,g2,g3,g4⟩:=(co.mono s5).way ok i hi hf;have e0:(aQ pr.body 0)[i].2.2[0]?=some ((aQ pr.body 0)[i].2.2.getD 0 0):=by rw[zap,zac w0];rfl
  have qq:tm ((aQ pr.body 0)[i].2.2.map V.int) ((0:Nat):Int)=some (V.int ((aQ pr.body 0)[i].2.2.getD 0 0)):=au (by rw[zam,e0];rfl);refine⟨p,_,dx,fs,.ref wy,rfl,g1,T.c9,T.fW,g2,wy,.ref wq,rfl,g3,aG g4 (v:=.int ((aQ pr.body 0)[i].2.2.getD 0 0)) qq ?_⟩;refine⟨p,d,pr,ax,us.map V.int,rfl,co.mono s5,hd5,by rw[zad];exact lu,look,ok.uZ,fun a H6 s6 sq p1 Fd p2 yQ=>?_⟩;exact q p2 _ _ (((s5.trans s6).trans (aq.new Fd _)).trans (aq.new yQ _)) (.of ae) ⟨p1,rfl,a,(aq.new yQ _).a7 (.of ae),((aq.new Fd _).trans (aq.new yQ _)).a7 sq⟩
 have VE:(cG pr.ay (vals.map V.int)).length<zds:=by
  have line:zds=2 ^ 24:=rfl;have:=ok.uZ;unfold cG;rw[List.length_zipWith];lia
 have keep:∀i (hi:i<pr.ay.length),cm (cG pr.ay (vals.map V.int)) (.inr (S pr.ay[i].name))=(vals.map V.int)[i]?:=fun i hi=>by
  have li:i<(vals.map V.int).length:=by rw[zad];lia
  rw[mG pr.ay (vals.map V.int) (by rw[zad];exact lv) ok.nb i hi _ (zac li),zac li]
 have put:∀(b:W),b∈pr.ay.map (·.name)->∀(x:Int),(tU pr.ay vals b x).length=pr.ay.length/\∀i (hi:i<pr.ay.length),cm (putK (cG pr.ay (vals.map V.int)) (.inr (S b)) (.int x)) (.inr (S pr.ay[i].name))=((tU pr.ay vals b x).map V.int)[i]?:=fun b hb x=>by
  refine⟨by unfold tU;rw[zcQ];exact lv,fun i hi=>?_⟩;rw[EL (by rw[zad];exact lv) ok.nb hb,AA];rfl
 have VF:∀H3 o,aq H H3->aq H (upd H3 d o):=fun H3 o s3=>((aZ.of s3:aZ d H H3).put o).same hd;walk_at "r";refine b9 (fun e=>?_) (fun e=>?_)
 ·obtain⟨k,b,M7⟩:=Mg ((E9 _).mp e);have rv:=rv;rw[M7] at rv po;obtain⟨_,ee,hT⟩:=Al rv;cases ee;have Zx:=VD ((E9 _).mp e);subst Zx;obtain⟨l1,l2⟩:=put b po (fig%eP pr.ay b);refine⟨p,_,dx,_,.ref sd,rfl,s2 _ _ h1,T.c9,T.gG,rfl,aG (s2.a7 hT) (v:=.str (S b)) (au (j:=2) rfl) ⟨sd,.int (eP pr.ay b),rfl,.inl ⟨_,.inr (S b),.inl (s2 _ _ h4),rfl,(CL ok.nb po).symm⟩,?_⟩⟩;refine⟨_,_,rfl,rfl,qA bp b,aG (s2.a7 hT) (v:=.str (S b)) (au (j:=2) rfl) ⟨d,_,rfl,.inl ⟨_,.inr (S b),y2,rfl,VE,rfl⟩,?_⟩⟩;exact fin _ _ _ none (VF _ _ s2) ae l1 l2 (by rw[M7];rfl)
 refine b9 (fun e2=>?_) (fun e2=>?_)
 ·obtain⟨k,b,tr,M7⟩:=Mh ((OU _).mp e2);have rv:=rv;rw[M7] at rv po;obtain⟨_,u,ee,hT,ru⟩:=Am rv;cases ee;obtain⟨l1,l2⟩:=put b po.1 (wv pr.ay vals tr%eP pr.ay b);refine aG (s2.a7 hT) (v:=u) (au (j:=3) rfl) ⟨u,d,tr,_,rfl,ru.mono s2,y2,po.2.1,by have:=po.2.2;lia,by have:=po.2.2;lia,fun H3 VG=>?_⟩;have s3:=s2.trans VG;refine⟨p,_,dx,_,.ref sd,rfl,s3 _ _ h1,T.c9,T.gG,rfl,aG (s3.a7 hT) (v:=.str (S b)) (au (j:=2) rfl) ⟨sd,.int (eP pr.ay b),rfl,.inl ⟨_,.inr (S b),.inl (s3 _ _ h4),rfl,(CL ok.nb po.1).symm⟩,?_⟩⟩;refine⟨_,_,rfl,rfl,qA bp b,aG (s3.a7 hT) (v:=.str (S b)) (au (j:=2) rfl) ⟨d,_,rfl,.inl ⟨_,.inr (S b),VG _ _ y2,rfl,VE,rfl⟩,?_⟩⟩;exact fin _ _ _ none (VF _ _ s3) ae l1 l2 (by rw[M7];rfl)
 refine b9 (fun e3=>?_) (fun e3=>?_)
 ·obtain⟨k,tr,M7⟩:=Mi ((OV _).mp e3);have rv:=rv;rw[M7] at rv po;obtain⟨_,u,ee,hT,ru⟩:=An rv;cases ee;refine aG (s2.a7 hT) (v:=u) (au (j:=2) rfl) ⟨u,d,tr,_,rfl,ru.mono s2,y2,po.1,by have:=po.2;lia,by have:=po.2;lia,fun H3 VG=>?_⟩;exact fin _ _ _ (some _) (s2.trans VG) (VG _ _ y2) lv keep (by rw[M7];rfl)
 obtain⟨k,M7⟩:=OW e0 (fun z=>e ((E9 _).mpr z)) (fun z=>e2 ((OU _).mpr z)) (fun z=>e3 ((OV _).mpr z));exact fin _ _ _ none s2 y2 lv keep (by rw[M7];rfl)
theorem IP:∀sm:bG,¬gg sm.wd=zab "end":=fun sm=>by cases sm<;>(simp only[bG.wd];decide +kernel)
theorem yX(T:Tx K mg t):bJ P w K mg base dw 7 t.iN t.jk ["chart", "standing"] (LK K t.aW):=by
 have mY:=@su P w _ _ base _ T;have Ao:=@Fb P w _ _ base _ T;refine T.gM.F.lS qP (fun vs H Q E h=>?_) (fun eS A outer s H vs Q E hr h=>?_)
 ·obtain⟨_,_,_,_,rfl,_⟩:=h;rfl
 obtain⟨ch,sa,pr,st,rfl,co,dr,sG,si,q⟩:=h;have nd:=qP.nd;obtain⟨Mj,ym,yn⟩:=T.wj;refine⟨_,[some (.ref ch),some (.ref sa),none,none],(ah (c5 2 nd (da mY T.kx hr (bc 0 (ag (aC aM (pv 1) aj ao) aa aY))))
 (ah (bh (aD bN (pv 2) aU (aR _))
 (ak (aO (bu aa)))
 aV)
 (ah (bh (aD bN (pv 2) aU (aR _))
 (ak (aO (hG (own:=["figure"]) (ix:=[0,1]) rfl (by rfl) (by rfl) (ik rfl T.ju (ag (qe rfl ym yn) aa jY)) (fun _ _ _ _=>(fZ (i:=0) (by show List.Nodup (["figure", "chart", "standing"]:List Str);decide +kernel) rfl (zbq rfl))) (fun _ _ _ _=>iC) (fun _ _ _ _=>(aC (iF (K:=K) rfl) (da Ao T.mV hr (bc 1 (bc 2 (bc 0 aa)))) aj ao)))))
 aV)
 (ah (c5 3 nd (aC aM (da Ao T.mV hr (bc 0 (bc 1 (ag eU aa aP)))) aj ao))
 (ah (bh (aD JD (pv 3) eU (aR _))
 (ak (aO (bu aa)))
 aV)
 (ak (aO (bu (bc 3 aa))))))))),rfl,?_⟩
 obtain⟨row,vals⟩:=st;obtain⟨va,wg,yH⟩:=id sG;refine av fun U1 eE=>?_;walk_at "r";refine aG wg (v:=.int row) (au (j:=0) rfl) ?_;rcases si.ok.row with h0 |⟨i,hi,er⟩
 ·replace h0:row=0:=h0;subst h0;refine⟨ch,pr,0,rfl,co,dr.ok.pw,.inl ⟨rfl,(eE _ _).mpr ?_⟩⟩;refine av fun U2 gk=>?_;walk_at "r";exact(zzp trivial).mpr fun L hL=>q L _ _ (aq.new hL _) hL ae .nil
 replace er:(az pr.body)[i].row=row:=er;subst er;have Zy:(az pr.body)[i].row≠0:=by have:=dr.ok.pos _ (zau hi);lia
 obtain⟨hf,ek,ew⟩:=gW pr.body i hi;obtain⟨w0,w1⟩:=jd pr.body 0 _ (zau hf);rw[ew] at w1;obtain⟨po,so⟩:=A1 si.ok.len dr.ok.nb si.ok.small (jg pr.body _ dr.own (zau hi));have bp:∀b∈pr.ay,0<b.size:=fun b hb=>by have:=dr.size b hb;lia
 have ea:dc pr.body (az pr.body)[i].row=decide ((az pr.body)[i].wd=.ask):=by unfold dc;rw[nI dr.ok.pw i hi]
 have es:∀f,bX pr (az pr.body)[i].row vals f=lD pr.ay (az pr.body)[i] (aQ pr.body 0)[i].2.2 vals f:=fun f=>by unfold bX;rw[nI dr.ok.pw i hi,GA dr.ok.pw i hi hf]
 unfold cR at q;simp only[zzn Zy,ea,decide_eq_true_eq] at q;refine⟨ch,pr,_,rfl,co,dr.ok.pw,.inr ⟨Zy,i,hi,rfl,(eE _ _).mpr (av fun U2 gk=>?_)⟩⟩;clear eE;walk_at "r";refine(zzn (IP _)).mpr ((gk _ _).mpr (av fun U3 i3=>?_));clear gk;walk_at "r";refine b9 (fun e=>?_) (fun e=>(i3 _ _).mpr ?_)
 ·have e:=(E9 _).mp e;simp only[e,if_true] at q;simp only[jT];walk_at "r";refine⟨10,rfl,by decide,by decide,fun D hD=>?_⟩;refine Ly (J:=Jf 0 10) (fun τ=>∃x,τ=[x,some (.ref ch),some (.ref sa)]) ((zaH 10).map fun f=>V.int (f:Nat)) (fun j ys H2=>aq H H2/\iK K H2 ((zaH j).map fun f=>((bX pr (az pr.body)[i].row vals (f:Nat)).1.getD ((az pr.body)[i].row,vals))) ys) ?_ ?_ ?_ (by simp) hD ⟨none,rfl⟩ ⟨aq.new hD _,.nil⟩ ?_ ?_
  ·intro j H2 _ hj;show j<10;simpa using hj
  ·intro H2 _;show 10<=_;simp
  ·intro j H2 x H3 _ hj hy;have lj:j<10:=by simpa using hj
   obtain⟨rfl,rfl⟩:=hy;exact⟨rfl,by simp[lj]⟩
  ·rintro j x ys τ H2 hx ⟨x0,rfl⟩ s2 yD ly ⟨_,sy⟩ R hR
   have lj:j<10:=by have:=(zak.mp hx).1;simpa using this
   have hx:x=.int (j:Nat):=by simpa[lj] using hx.symm
   subst hx;walk_at "r";refine⟨ch,sa,_,pr,vals,(j:Nat),i,hi,hf,rfl,co.mono s2,dr.ok,bp,sG.mono s2,si.ok.len,fun _=>rfl,po,w0,w1,fun q1 sv H3 s3 k1 o1=>?_⟩;rw[<- es] at k1 o1;have hn:=xQ (pr:=pr) (az pr.body)[i].row vals (j:Nat) (by rw[ea];exact decide_eq_true e);refine aG k1 (v:=sv) (au (j:=0) rfl) (hR _ _ _ ⟨_,rfl⟩ s3 ⟨?_,?_⟩)
   ·exact(((aZ.of (s2.trans s3)).put _).same hD)
   ·rw[zbz,zaw];cases ho:(bX pr (az pr.body)[i].row vals (j:Nat)).1 with
    |none=>exact zzb ho hn
    |some y=>
     rw[ho] at o1;obtain⟨ya,rfl,Zz⟩:=o1;have yD3:=s3 _ _ yD;have z:=CV (x:=y) (nL sy fun _ _ _ h=>h.mono s3) Zz;simp only[zal,za3,ho,zck];exact nL z fun _ _ _ h=>h.upL yD3 ((aZ.refl D H3).put _)
  ·rintro ys H2 s2 yD ly ⟨_,sy⟩
   rw[zad,zbt] at sy;exact q D ys H2 s2 hD yD sy
 ·have e:(az pr.body)[i].wd≠.ask:=fun z=>e ((E9 _).mpr z);simp only[zzn e] at q;walk_at "r";refine⟨ch,sa,.cC,pr,vals,0,i,hi,hf,rfl,co,dr.ok,bp,sG,si.ok.len,fun z=>zzb z e,po,w0,w1,fun q1 sv H2 s2 k1 o1=>?_⟩;rw[<- es] at k1 o1;refine aG k1 (v:=sv) (au (j:=0) rfl) ?_;cases ho:(bX pr (az pr.body)[i].row vals 0).1 with
  |none=>
   rw[ho] at o1 q;exact(zzp o1).mpr fun p hp=>q p _ _ (s2.trans (aq.new hp _)) (s2.free hp) ae .nil
  |some x=>
   rw[ho] at o1 q;obtain⟨xa,rfl,xs⟩:=o1;exact(zzn (by intro z;cases z)).mpr fun p hp=>q p _ _ (s2.trans (aq.new hp _)) (s2.free hp) ae (.cons ⟨xa,rfl,xs.mono (aq.new hp _)⟩ .nil)
theorem ZA:tZ "standing" "chart" (mI (iw aT)):=⟨rfl,rfl,rfl,rfl,rfl,fun z h=>by
 have key:∀p∈(mI (iw aT)).names,(p.2=.cell\/p.2=.free)->p.1 = "chart":=by decide +kernel
 rcases h with h |h
 ·exact key _ (PySem.mem_of_lookup h) (.inl rfl)
 ·exact key _ (PySem.mem_of_lookup h) (.inr rfl),by decide +kernel⟩
theorem Fe(T:Tx K mg t):bJ P w K mg base dw 9 t.fT t.og ["place", "led_from", "figures", "found"] (R3 P w K t.aW (iw aT) "first_inputs.<locals>.<lambda>"):=by
 have Bl:=@yX P w _ _ base _ T;refine T.mW.F.lS x8 (fun vs H Q E h=>?_) (fun eS A outer s H vs Q E hr h=>?_)
 ·obtain⟨_,_,_,_,_,_,_,_,_,_,_,_,rfl,_⟩:=h;rfl
 obtain⟨VH,fo,D,ga,cc,ch,mH,pr,s0,f0,g,R5,rfl,co,dr,Sh,ZC,lam,hga,Xh,ZD,nd0,fi0,qY,q⟩:=h;have nd:=x8.nd;have hu:=dS hr;obtain⟨M8,yY,yZ⟩:=T.yh;have xR:∀(u:zdl) (cc c':zdk) (pm vS:zdl),bindArgs (zc7 "<lambda>" "first_inputs.<locals>.<lambda>" (EX (iw aT)) (wR (iw aT)) (mI (iw aT)) [("chart",cc)] pm (.ref c') vS) ⟨[u],[]⟩=(pure [(("standing":Str),u)]:Sem (List (Str×zdl))):=fun _ _ _ _ _=>rfl;have sV:∀(fo cc c':zdk) (s':zdu) (H':Hp),PE (CU dw P w K mg base ["standing", "chart"] "first_inputs.<locals>.<lambda>" (mI (iw aT)) fo (.ref c') [("chart",cc)] (m7 dw P w K mg base ["place", "led_from", "figures", "found", "led"] "gone_on" (aJ iy) t.fT eS A outer s H E).DQ.A (m7 dw P w K mg base ["place", "led_from", "figures", "found", "led"] "gone_on" (aJ iy) t.fT eS A outer s H E).DQ.stack s' H' E0) (wR (iw aT)) (B5 (LK K t.aW) [] E0 (xf (gm 1) (xf (gm 0) Nu))):=by
  intro fo cc c' s' H';exact FQ Bl (hr.deeper _) rfl T.gM.m T.gM.F.kp T.gM.b .nil JS (ag (pv 1) (ag (pv 0) aa jY) jY)
 have NH:∀pins σ (H':Hp) (s':zdu) e Ho a o,Inv (m7 dw P w K mg base ["place", "led_from", "figures", "found", "led"] "gone_on" (aJ iy) t.fT eS A outer s H E).DQ pins σ H' s'->H' a=some (eW a o)->dw (m7 dw P w K mg base ["place", "led_from", "figures", "found", "led"] "gone_on" (aJ iy) t.fT eS A outer s H E).DQ.stack (wo H' a) s' E0 e Ho->(m7 dw P w K mg base ["place", "led_from", "figures", "found", "led"] "gone_on" (aJ iy) t.fT eS A outer s H E).DQ.xe e Ho:=fun _ _ _ _ _ _ _ _ _ _ h=>h.elim;refine⟨_,[some (.ref VH),some (.ref fo),some (.ref ga),some (.ref D),none],(ah (mn PassesOwn.never (aD (vi (J:=jO) (M5 hr)) (pv 0) (pv 3) rfl)
 (ah (bh (aD bN (bY (IC (J:=jO)) rfl T.g8 PyProof.Rows.Boot.«len» (bc 3 aa)) (qe rfl yY yZ) (aR _))
 (ak Jv)
 aV)
 (ah (xN (J:=jO) (M5 hr) (pv 3) (pv 0) (pv 2) rfl)
 (ah (c5 4 nd (LC (CX:=dw) (E:=E0) (x:="standing") (y:="chart") (name:="<lambda>") (qual:="first_inputs.<locals>.<lambda>") (params:=EX (iw aT)) (body:=wR (iw aT)) (scope:=mI (iw aT)) (tb:=B5 (LK K t.aW) [] E0 (xf (gm 1) (xf (gm 0) Nu))) (k:=7) (hr.mono (by first|decide|omega)) ZA (pv 1) (bc 0 aa) NH xR sV))
 (ah (bh (aD JB (bY bE rfl T.g8 PyProof.Rows.Boot.«len» (bc 4 aa)) aj (aR _))
 (ak (aO (bu (ag (aS (bc 2 (bc 4 aa))) aa bW))))
 aV)
 (ak (c5 0 nd (aC a9 (pv 4) aj ao))))))))
 (ak (aO (bu aa)))),rfl,?_⟩
 have line:zds=2 ^ 24:=rfl;refine av fun U2 gk=>?_;refine A2 fun Bd Ml=>?_;walk_at "r";obtain⟨φ0,eD0⟩:=Xh.nK;obtain⟨Iv,Mn,Ff⟩:=xW fun (m:Nat) (σ:St) (Hx:Hp) zq=>∀(sa:zdk) (s':b7) (f:iz) (ax:List (kT×V)) (z:Option V) (k:Nat),σ=[some (.ref sa),some (.ref fo),some (.ref ga),some (.ref D),z]->aZ D H Hx->DS jO P w K Hx D ax->eQ K Hx f ax->cE K Hx sa s'.1 s'.2->cO pr s'->(f.map (·.1)).Nodup->(∀x∈f,cO pr x.1)->lX (cR pr) (bq pr+1) f0 s0 g=lX (cR pr) (bq pr+1-k) f s' g->k<=f.length->m=bq pr-f.length->zq;refine⟨Iv,⟨_,(Mn _ _ _ fun _ zk=>zk VH s0 f0 R5 none 0 rfl (.refl _ _) Xh ZD Sh ZC nd0 fi0 rfl (za0 _) rfl)⟩,?_⟩;intro m σ Hx hv;refine Ff _ _ _ hv _ fun sa s' f ax z k kU ux ds fa sG si PR fi eg hk kW=>?_;subst kU;subst kW;clear hv;have aeG:f.length<=bq pr:=by
  have:=iJ PR (fun x hx=>by obtain⟨y,hy,rfl⟩:=zaF.mp hx;exact fi y hy)
  rwa [zad] at this
 obtain⟨n,en⟩:∃n,bq pr+1-k=n+1:=⟨bq pr-k,by lia⟩
 rw[en] at eg;walk_at "r";refine⟨D,sa,ax,nJ s',rfl,rfl,ds,Ae sG,?_⟩;rw[fa.Xe s'];by_cases hx:s'∈f.map (·.1)
 ·refine(zzn (by rw[decide_eq_true hx];decide)).mpr ((gk _ _).mpr ?_);walk_at "r";intro L hL;have e2:lX (cR pr) (n+1) f s' g=(f,none):=by rw[lX,zzp hx]
  rw[eg,e2] at q;obtain⟨φx,Tz⟩:=ds.nK;have nLD:L≠D:=(ai Tz hL).symm;have Xo:H L=none:=by
   cases y:H L with
   |none=>rfl
   |some o=>rw[ux L o nLD y] at hL;cases hL
  have sL:=aq.new hL (.lst []);exact q L [] ax _ (ux.trans (.of sL)) Xo ae (ds.mono sL) (fa.imp fun a xs h=>sL.a7 h) rfl
 refine(zzp (by rw[decide_eq_false hx];decide)).mpr ?_;have nd1:((f++[(s',g)]).map (·.1)).Nodup:=by
  rw[zaw];exact zbS.mpr ⟨PR,by simp,fun a ha b hb=>by rw[zal,za3,zar] at hb;rw[hb];exact fun y=>hx (by rw[<- show a=s' from y];exact ha)⟩
 have fi1:∀x∈f++[(s',g)],cO pr x.1:=fun x hy=>by
  rcases zaz.mp hy with hy |hy
  ·exact fi x hy
  ·rw[zar.mp hy];exact si
 have aeI:(f++[(s',g)]).length<=bq pr:=by
  have:=iJ nd1 (fun x hx=>by obtain⟨y,hy,rfl⟩:=zaF.mp hx;exact fi1 y hy)
  rwa [zad] at this
 have l1:(f++[(s',g)]).length=f.length+1:=by simp
 refine⟨Iv (bq pr-(f++[(s',g)]).length),fun σ' H' h=>⟨_,by lia,h⟩,?_⟩;refine Ml _ _ _ (av fun V1 BQ=>?_);clear Ml gk;have lk:=fa.len;walk_at "r";refine⟨D,ax,rfl,ds,?_⟩;refine(zzn (by lia)).mpr ((BQ _ _).mpr (av fun V2 BR=>?_));clear BQ;obtain⟨φx,Tz⟩:=ds.nK;walk_at "r";refine⟨D,sa,ax,nJ s',rfl,rfl,ds,Ae sG,by lia,fun H6 d6 e6=>(BR _ _).mpr (av fun V3 Si=>?_)⟩;clear BR;obtain⟨φ',rfl⟩:=e6;have u6:aZ D Hx (upd Hx D (.ext φ')):=(aZ.refl _ _).put _;have eD6:(upd Hx D (.ext φ')) D=some (.ext φ'):=ae;have VI:=ux.trans u6;have Mo:=sG.ext Tz u6;have ZE:=(hga.lW eD0 ux).lW Tz u6;have fa6:=(fa.imp fun a xs h=>h.lW Tz u6).put hx ZE;have co6:=(co.ext eD0 ux).ext Tz u6;have VJ:=lam.mono (LM VI);clear u6;generalize upd Hx D (.ext φ')=H6 at *;walk_at "r";have g3:H6 cc=some (eW cc mH):=by
  obtain⟨_,_,_,_,_,_,_,_,_,_,_,g3,_⟩:=VJ;exact g3
 refine⟨.ref sa,fo,cc,mH,.ref ch,rfl,rfl,VJ,ch,sa,pr,s',rfl,co6.ext g3 wV,dr,Mo.ext g3 wV,si,fun l us H7 s7 hl yl Xf n7=>(Si _ _).mpr (av fun V4 hV4=>?_)⟩;clear Si;have VL:=OG g3 s7;have nl:l≠cc:=fun y=>by rw[y,n7] at yl;cases yl
 have ZF:(upd H7 cc (eW cc mH)) l=some (.lst us):=by rw[aw nl];exact yl
 have ZG:H6 l=none:=by rw[eX nl] at hl;exact hl
 have Sj:iK K (upd H7 cc (eW cc mH)) (cR pr s') us:=Xf.mono (aq.new n7 _);generalize upd H7 cc (eW cc mH)=H8 at *;have uL:=Xf.at.1;walk_at "r";refine⟨l,us,rfl,.inl (.of ZF),?_⟩;have ug:∀t1,cR pr s'=[t1]->lX (cR pr) (n+1) f s' g=lX (cR pr) n (f++[(s',g)]) t1 g:=fun t1 e=>by
  rw[lX,zzn hx];split
  ·rename_i t2 e2;rw[e] at e2;cases e2;rfl
  ·rename_i l2 e2;exact zzb e (e2 t1)
 have ZH:(∀t1,cR pr s'≠[t1])->lX (cR pr) (n+1) f s' g=(f++[(s',g)],some (cR pr s')):=fun e=>by
  rw[lX,zzn hx];split
  ·rename_i t2 e2;exact zzb e2 (e t2)
  ·rfl
 have li:=t9 dr si;refine b9 (fun e=>?_) (fun e=>fun p hp p1 Fd=>?_)
 ·obtain⟨t1,et⟩:∃t1,cR pr s'=[t1]:=zcg.mp (by lia);have ug:=ug t1 et;rw[et] at Sj li;obtain⟨ls8,at8⟩:=Sj.at
  obtain⟨ta,eta,ZI⟩:=at8 0 t1 rfl;refine(hV4 _ _).mpr ?_;walk_at "r";refine bz (.of ZF) (v:=.ref ta) (au eta) ((Mn _ _ _ fun _ zk=>zk ta t1 (f++[(s',g)]) _ (some (.ref l)) (k+1) rfl (VI.trans (.of VL)) (d6.mono VL) (fa6.imp fun a xs h=>VL.a7 h) ZI (li t1 (by simp)) nd1 fi1 ?_ (by lia) rfl));rw[eg,ug,show bq pr+1-(k+1)=n by lia]
 ·have ZH:=ZH fun t1 z=>by rw[z] at uL;exact e (by rw[uL];rfl)
  rw[eg,ZH] at q;have sp:=aq.new hp (.tup [.ref ga,.ref l]);have yp:(upd H8 p (.tup [.ref ga,.ref l])) p=_:=ae;have R1:=aq.new Fd (.lst [.ref p]);have sA:=VL.trans (sp.trans R1);have e6:H6 p1=none:=(VL.trans sp).free Fd;have n1:p1≠D:=(ai eD6 e6).symm;have h0:H p1=none:=by
   cases y:H p1 with
   |none=>rfl
   |some o=>rw[VI p1 o n1 y] at e6;cases e6
  have VM:H l=none:=by
   cases y:H l with
   |none=>rfl
   |some o=>rw[VI l o (ai eD6 ZG).symm y] at ZG;cases ZG
  exact q p1 _ _ _ (VI.trans (.of sA)) h0 ae (d6.mono sA) (fa6.imp fun a xs h=>sA.a7 h) ⟨p,l,us,rfl,.of (R1 _ _ yp),VM,R1 _ _ (sp _ _ ZF),Sj.mono (sp.trans R1)⟩
theorem uy(T:Tx K mg t):bJ P w K mg base dw 1 t.dZ t.eA ["deck"] (uY K):=by
 refine T.bB.F.lS uh (fun vs H Q E h=>?_) (fun eS A outer s H vs Q E hr h=>?_)
 ·obtain⟨_,_,_,_,rfl,_⟩:=h;rfl
 obtain⟨D,S,sc,p,rfl,dk,hp,q⟩:=h;have nd:=uh.nd;refine⟨_,[some (V.ref D),none,none,none,none,none],(ah (c5 1 nd (aC a9 (pv 0) aj ao))
 (ah (rJ (bf dP (pv 1) aj) (DR (pv 0) aj set_list))
 (ah (c5 2 nd (bY (Hi rfl) rfl T.Mb PyProof.Rows.Boot.«max» (ag aj (ag (bY bE rfl T.g8 PyProof.Rows.Boot.«len» (ag (aC a9 (pv 0) aj ao) aa aY)) aa bH) aP)))
 (ah (c5 3 nd aj)
 (ah (bh (aD (kj (dS hr)) (aC a9 (pv 0) aj ao) (bu aa) (aR _))
 (ak (c5 3 nd (aC a9 (aC a9 (pv 0) aj ao) (bf cJ (pv 1) (pv 2)) lT)))
 aV)
 (ah (bh (aD Uk (pv 3) (bf Q4 aj aj) (aR _))
 (ah (du PassesOwn.never rfl (ik rfl T.ju (ag (bY (Hj rfl) rfl T.Mc PyProof.Rows.Boot.«min» (ag aj (ag (bf Ay (pv 1) (pv 2)) aa jb) aP)) aa bH)) (lY 4 nd)
 (ak (c5 3 nd (bf Ay (pv 3) aj))))
 (ak (aO (bf cJ (pv 3) aj))))
 aV)
 (ah (c5 5 nd (bf cJ (bf dP (bf dP (bf cJ (pv 3) aj) (bf rL (bf rL aj (bf dP (pv 1) aj)) (bf dP (pv 1) aj))) aj) aj))
 (ah (c5 5 nd (bf cJ (bf rL (pv 5) (pv 5)) aj))
 (ah (c5 5 nd (bf cJ (bf dP (bf dP (bf rL (pv 5) aj) (bf rL aj (pv 1))) aj) aj))
 (ak (aO (bf Ay (bf cJ (bf rL (pv 5) (pv 5)) aj) aj)))))))))))),rfl,?_⟩
 have line:zds=2 ^ 24:=rfl;refine av fun U1 eE=>?_;walk_at "r";refine bz (.of dk.bF) (au (j:=1) rfl) ((eE _ _).mpr (av fun U2 gk=>?_));clear eE;walk_at "r";refine⟨D,_,1,1,rfl,rfl,dk.bF,rfl,?_⟩;have u1:aZ D H (upd H D (.lst [.ref S,.int (p+1)])):=(aZ.refl D H).put _;have d1:(upd H D (.lst [.ref S,.int (p+1)])) D=some (.lst [.ref S,.int (p+1)]):=ae;show U2 _ (upd H D (.lst [.ref S,.int (p+1)]));generalize upd H D (.lst [.ref S,.int (p+1)])=H1 at *;have Xp:=u1 _ _ dk.ne dk.fY;refine(gk _ _).mpr (av fun U3 i3=>?_);clear gk;walk_at "r";refine bz (.of d1) (au (j:=0) rfl) ⟨S,_,rfl,.inl (.of Xp),1,_,rfl,?_⟩;rw[zad];have em:(if (sc.length:Int)>1 then (sc.length:Int) else 1)=((max 1 sc.length:Nat):Int):=by split<;>lia
 rw[em];have m1:1<=max 1 sc.length:=by lia
 refine(i3 _ _).mpr (av fun U4 kg=>?_);clear i3;walk_at "r";refine(kg _ _).mpr (av fun U5 uv=>?_);clear kg;have rest:∀H2,aq H1 H2->U5 [some (V.ref D),some (V.int p),some (V.int ((max 1 sc.length:Nat):Int)),some (V.int (if sc=[] then 0 else sc.getD (p%max 1 sc.length) 0)),none,none] H2:=by
  intro H2 s2;have fin:Q (V.int (PG.next sc p)) H2:=q H2 (u1.trans (.of s2)) ⟨s2 _ _ d1,s2 _ _ Xp,dk.ne,dk.len⟩;unfold PG.next at fin;simp only at fin;have mle:max 1 sc.length<=63:=by have:=dk.len;lia
  generalize (if sc=[] then 0 else sc.getD (p%max 1 sc.length) 0)=cell at *;generalize max 1 sc.length=m at *;refine(uv _ _).mpr (av fun U6 yK=>?_);walk_at "r";have e18:(10:Int) ^ Int.toNat 18=10 ^ 18:=rfl;have p18:Uj 10 18:=⟨by decide,by decide,by decide⟩
  rw[e18];refine⟨p18,b9 (fun hc=>?_) (fun hc=>?_)⟩
  ·rw[zzp hc] at fin;refine o8 fun U hU=>?_;walk_at "r";have ed:(p:Int)/(m:Int)=((p/m:Nat):Int):=(Int.natCast_ediv p m).symm;have e60:(if (p:Int)/(m:Int)<60 then (p:Int)/(m:Int) else 60)=((min 60 (p/m):Nat):Int):=by
    rw[ed];split<;>lia
   have b60:min 60 (p/m)<=60:=Nat.min_le_left _ _;refine⟨⟨by lia,by lia⟩,_,_,rfl,_,rfl,?_⟩;rw[e60];generalize min 60 (p/m)=N at *;refine⟨by lia,by lia,hU _ _ ?_⟩;rw[za1];refine ki (lo:=0) (n:=N) (fun i σ H3=>H3=H2/\∃(c:Int) (a:Option V),σ=[some (V.ref D),some (V.int p),some (V.int m),some (V.int c),a,none]/\Ci (N-i) c=Ci N cell) ⟨rfl,cell,none,rfl,rfl⟩ ?_ ?_
   ·rintro i σ H3 hi ⟨rfl,c,a,rfl,e⟩
    rw[zcJ];walk_at "r";refine⟨_,_,rfl,?_⟩;rw[<- e,show N-i=(N-(i+1))+1 by lia,Ci]
   ·rintro σ H3 ⟨rfl,c,a,rfl,e⟩
    rw[Nat.sub_self,Ci] at e;walk_at "r";rw[e];exact fin
  ·rw[zzn hc] at fin;refine(yK _ _).mpr ?_;clear uv yK;walk_at "r";have b1:=zaP (cell%2147483629+51437*((p:Int)+1)*((p:Int)+3)+1409) (show (2147483629:Int)≠0 by decide);have b2:=zaM (cell%2147483629+51437*((p:Int)+1)*((p:Int)+3)+1409) (show (0:Int)<2147483629 by decide);refine⟨mulL (by decide) (by decide),mulR (by lia) (by lia),?_⟩;generalize (cell%2147483629+51437*((p:Int)+1)*((p:Int)+3)+1409)%2147483629=x at *;refine⟨mulL (by lia) (by lia),mulR (by decide) (by decide),mulL (by decide) (by decide),?_⟩;have c1:=zaP (x*x%2147483587*69621+401*(p:Int)+7) (show (2147483579:Int)≠0 by decide);have c2:=zaM (x*x%2147483587*69621+401*(p:Int)+7) (show (0:Int)<2147483579 by decide);generalize (x*x%2147483587*69621+401*(p:Int)+7)%2147483579=y at *;exact⟨mulL (by lia) (by lia),fin⟩
 walk_at "r";refine bz (.of d1) (au (j:=0) rfl) fun p1 Fd=>?_;have s2:=aq.new Fd (.lst []);have d2:=s2 _ _ d1;refine⟨S,p1,_,rfl,rfl,.of (s2 _ _ Xp),.of ae,?_⟩;have sc2:=s2 _ _ Xp;generalize upd H1 p1 (.lst [])=H2 at *;have rs:=rest H2 s2;cases sc with
 |nil=>exact rs
 |cons c r=>
  rw[zzn (by simp)] at rs;refine(zzp rfl).mpr (bz (.of d2) (au (j:=0) rfl) ⟨by lia,?_⟩);have lt:p%max 1 (c::r).length<(c::r).length:=by
   have:max 1 (c::r).length=(c::r).length:=by simp
   rw[this];exact Nat.mod_lt _ (by simp)
  refine bz (.of sc2) (NK (f:=V.int) (xs:=c::r) 0 (by lia) (by lia)) ?_;have e:((p:Int)%((max 1 (c::r).length:Nat):Int)).toNat=p%max 1 (c::r).length:=by lia
  rw[e];exact rs
theorem ZJ(T:Tx K mg t){n:Nat}(g9:bJ P w K mg base dw (n+1) t.kM t.kr ["deck", "boxes", "deep"] (xD K n)) :
 bJ P w K mg base dw (n+2) t.kM t.kr ["deck", "boxes", "deep"] (xD K (n+1)):=by
 have bw:bJ P w K mg base dw 1 t.dZ t.eA ["deck"] (uY K):=uy T;refine T.gE.F.lS Aj (fun vs H Q E h=>?_) (fun eS A outer s H vs Q E hr h=>?_)
 ·obtain⟨_,_,_,_,_,_,_,rfl,_⟩:=h;rfl
 obtain⟨D,S,B,sc,p,d,bs,rfl,hd,dk,hp,hb,q⟩:=h;have nd:=Aj.nd;refine⟨_,[some (V.ref D),some (V.ref B),some (V.int d),none,none],(ah (c5 3 nd (bf cJ (da bw T.bB hr (bc 0 aa)) aj))
 (ah (bh (PW.pt (pw_and (aD JC (pv 2) aj (aR _)) (pw_and1 (aD oT (pv 3) aj (aR _)))))
 (ah (c5 4 nd (da g9 T.gE hr (bc 0 (bc 1 (ag (bf w9 (pv 2) aj) aa jb)))))
 (ak (aO (aS (ag (aC AG aU (pv 3) k0) (bc 4 (ag (da g9 T.gE hr (bc 0 (bc 1 (ag (bf w9 (pv 2) aj) aa jb)))) aa bH)) aY)))))
 aV)
 (ah (bh (PW.pt (pw_and (aD (kj (dS hr)) (pv 1) (bu aa) (aR _)) (pw_and1 (aD oT (pv 3) aj (aR _)))))
 (ak (aO (aS (ag aU (ag (aC aM (aC a9 (pv 1) (bf cJ (da bw T.bB hr (bc 0 aa)) (bY bE rfl T.g8 PyProof.Rows.Boot.«len» (bc 1 aa))) lT) aj ao) aa aY) aP))))
 aV)
 (ak (aO (aS (ag aU (ag (bf cJ (da bw T.bB hr (bc 0 aa)) (aC a9 (bu (cQ (vs:=[.int 3,.int 12,.int 1000]) (by kernel_rfl))) (bf cJ (da bw T.bB hr (bc 0 aa)) aj) lT)) aa jb) aP))))))),rfl,?_⟩
 have line:zds=2 ^ 24:=rfl;have pw:1<=2 ^ d:=zb0;refine av fun U1 eE=>?_;walk_at "r";refine⟨D,S,sc,p,rfl,dk,by lia,fun H1 u1 Fg=>?_⟩;walk_at "r";refine(eE _ _).mpr (av fun U2 gk=>?_);clear eE;have Qp:H D≠none:=by rw[dk.bF];simp
 have Ts:H1 D≠none:=by rw[Fg.bF];simp
 have PV:=hb.up u1;obtain⟨n0,n1⟩:=jN sc p;have Fh:=u1.qF Ts;walk_at "r";have leaf:(d=0\/¬PG.next sc p%7<3)->U2 [some (V.ref D),some (V.ref B),some (V.int d),some (V.int (PG.next sc p%7)),none] H1:=by
  intro hl;have eg:cD sc bs d p=if bs≠[]/\PG.next sc p%7<5 then (.box (PG.pick ⟨[],0,0⟩ bs (PG.next sc (p+1)%bs.length)).name,p+2) else (.num (PG.next sc (p+1)%PG.pick 1 [3,12,1000] (PG.next sc (p+2)%3)),p+3):=by
   cases d with
   |zero=>rfl
   |succ d=>
    unfold cD;simp only;rw[zzn (hl.resolve_left (by lia))]
  refine(gk _ _).mpr (av fun U3 i3=>?_);have num:¬(bs≠[]/\PG.next sc p%7<5)->∀H2,aq H1 H2->U3 [some (V.ref D),some (V.ref B),some (V.int d),some (V.int (PG.next sc p%7)),none] H2:=by
   intro hn H2 s2;rw[zzn hn] at eg;rw[eg] at q;refine(i3 _ _).mpr ?_;walk_at "r";refine⟨D,S,sc,p+1,rfl,Fg.same s2,by lia,fun H3 u3 qB p4 v8=>?_⟩;have wm:=qB.same (aq.new v8 (.lst [.int 3,.int 12,.int 1000]));have h4:(upd H3 p4 (.lst [.int 3,.int 12,.int 1000])) p4=some (.lst [.int 3,.int 12,.int 1000]):=ae;have u4:=u3.new v8 (.lst [.int 3,.int 12,.int 1000]);have n4:p4≠D:=(ai qB.bF v8).symm;generalize upd H3 p4 (.lst [.int 3,.int 12,.int 1000])=H4 at *;refine⟨D,S,sc,p+2,rfl,wm,by lia,fun H5 u5 Jk=>?_⟩;obtain⟨m0,m1⟩:=jN sc (p+2);have h5:=u5 _ _ n4 h4;have pk:∀i:Int,0<=i->i<3->tm [V.int 3,V.int 12,V.int 1000] i=some (V.int (PG.pick 1 [3,12,1000] i))/\(0:Int)<PG.pick 1 [3,12,1000] i:=fun i h0 h3=>by
    have z3:i=0\/i=1\/i=2:=by lia
    rcases z3 with rfl |rfl |rfl
    ·exact⟨au (j:=0) rfl,by decide⟩
    ·exact⟨au (j:=1) rfl,by decide⟩
    ·exact⟨au (j:=2) rfl,by decide⟩
   obtain⟨k1,k2⟩:=pk (PG.next sc (p+2)%3) (by lia) (by lia);walk_at "r";refine bz (.of h5) k1 ?_;walk_at "r";refine⟨k2,fun p6 i5=>?_⟩;have u2:aZ D H1 H2:=.of s2;refine q _ _ (((u1.trans (u2.trans u4)).trans u5).new i5 _) (Jk.same (aq.new i5 _)) ?_;refine j0 i5 ?_ (.cons .str (.cons .int .nil));exact fun b ZK=>(u5.qF (by rw[Jk.bF];simp)) b ((u4.qF (by rw[wm.bF];simp)) b ((u2.qF (by rw[s2 _ _ Fg.bF];simp)) b (Fh b ZK)))
  walk_at "r";intro p2 yQ;have s2:=aq.new yQ (.lst []);have sI:=PV.same s2;have h2:(upd H1 p2 (.lst [])) p2=some (.lst []):=ae;have y0:=Fg.same s2;generalize upd H1 p2 (.lst [])=H2 at *;obtain⟨xs,hx,lx,_⟩:=sI.list;refine⟨B,p2,xs,rfl,rfl,hx,.of h2,?_⟩;have em:xs.isEmpty=true↔bs=[]:=by
   rw[zcK,<- zaV,lx,zaV]
  by_cases wQ:bs=[]
  ·have e1:=em.mpr wQ;rw[e1,zzn (by decide),zzn zai];exact num (fun z=>z.1 wQ) H2 s2
  ·have e1:xs.isEmpty=false:=Bool.eq_false_iff.mpr fun z=>wQ (em.mp z);rw[e1,zzp (by decide)];refine b9 (fun k5=>?_) (fun k5=>num (fun z=>k5 z.2) H2 s2);rw[zzp ⟨wQ,k5⟩] at eg;rw[eg] at q;refine⟨D,S,sc,p+1,rfl,y0,by lia,fun H3 u3 qB=>?_⟩;have Mp:=sI.up u3;obtain⟨ys,hy,ly,_⟩:=Mp.list;refine⟨B,ys,rfl,.inl hy,?_⟩;rw[ly];have pos:0<bs.length:=zbg.mpr wQ;walk_at "r";refine⟨by lia,Mp.pick (zaP _ (by lia)) (zaM _ (by lia)) fun p4 v8=>?_⟩;have u2:aZ D H1 H2:=.of s2;refine q _ _ (((u1.trans u2).trans u3).new v8 _) (qB.same (aq.new v8 _)) (j0 v8 ?_ (.cons .str (.cons .str .nil)));exact fun b ZK=>(u3.qF (by rw[qB.bF];simp)) b ((u2.qF (by rw[y0.bF];simp)) b (Fh b ZK))
 refine b9 (fun d0=>b9 (fun k3=>?_) (fun k3=>leaf (.inr k3))) (fun d0=>(zzn zai).mpr (leaf (.inl (by lia))));obtain⟨d,rfl⟩:∃e,d=e+1:=⟨d-1,by lia⟩
 have e1:((d+1:Nat):Int)-1=(d:Int):=by lia
 rw[e1];have e2:(2:Nat) ^ (d+1)=2*2 ^ d:=by rw[zcF];lia
 have one:1<=2 ^ d:=zb0;rw[e2] at hp;have eg:cD sc bs (d+1) p=(.bin (PG.pick [] [[43],[45],[42]] (PG.next sc p%7)) (cD sc bs d (p+1)).1 (cD sc bs d (cD sc bs d (p+1)).2).1,(cD sc bs d (cD sc bs d (p+1)).2).2):=by
  conv=>lhs;unfold cD
  simp only;rw[zzp k3]
 rw[eg] at q;obtain⟨g1,g2⟩:=jM sc bs d (p+1);refine⟨D,S,B,sc,p+1,d,bs,rfl,by lia,Fg,by lia,PV,fun v2 H2 u2 y0 o2=>?_⟩;have sI:=PV.up u2;have sg:∀i:Int,0<=i->i<3->∃c,tm (zab "+-*").cps.toList i=some c/\V.str ⟨#[c]⟩=V.str (L2.S (PG.pick [] [[43],[45],[42]] i)):=fun i h0 h3=>by
  have z3:i=0\/i=1\/i=2:=by lia
  rcases z3 with rfl |rfl |rfl
  ·exact⟨43,au (j:=0) (by decide +kernel),rfl⟩
  ·exact⟨45,au (j:=1) (by decide +kernel),rfl⟩
  ·exact⟨42,au (j:=2) (by decide +kernel),rfl⟩
 obtain⟨c,hc,ec⟩:=sg (PG.next sc p%7) (by lia) k3;refine⟨_,_,c,rfl,rfl,by decide,hc,?_⟩;rw[ec];refine⟨D,S,B,sc,_,d,bs,rfl,by lia,y0,by lia,sI,fun v3 H3 u3 qB o3 p4 v8=>?_⟩;have M6:H2 D≠none:=by rw[y0.bF];simp
 have Ji:H3 D≠none:=by rw[qB.bF];simp
 refine q _ _ (((u1.trans u2).trans u3).new v8 _) (qB.same (aq.new v8 _)) (j0 v8 ?_ (.cons .str (.cons ((o2.back Fh).up u3 Qp) (.cons (o3.back fun b z=>(u2.qF M6) b (Fh b z)) .nil))));exact fun b z=>(u3.qF Ji) b ((u2.qF M6) b (Fh b z))
theorem Mq(T:Tx K mg t):∀n,bJ P w K mg base dw (n+1) t.kM t.kr ["deck", "boxes", "deep"] (xD K n)
 |0=>by
  have no:∀vs H Q E,¬xD K 0 vs H Q E:=fun vs H Q E h=>by obtain⟨_,_,_,_,_,_,_,_,h,_⟩:=h;lia
  exact⟨fun vs H Q E h=>zzb h (no vs H Q E),fun A outer s H args us vs Q E _ _ _ _ h=>zzb h (no vs H Q E)⟩
 |n+1=>ZJ T (Mq T n)
theorem Mr(T:Tx K mg t):bJ P w K mg base dw 2 t.iQ t.jo ["deck"] (Ez K):=by
 have bw:bJ P w K mg base dw 1 t.dZ t.eA ["deck"] (uY K):=uy T;refine T.j9.F.lS qS (fun vs H Q E h=>?_) (fun eS A outer s H vs Q E hr h=>?_)
 ·obtain⟨_,_,_,_,rfl,_⟩:=h;rfl
 obtain⟨D,S,sc,p,rfl,dk,hp,q⟩:=h;have nd:=qS.nd;refine⟨_,[some (V.ref D),none,none,none,none],(ah (c5 1 nd (bu aa))
 (ah (c5 2 nd (bf cJ (da bw T.bB hr (bc 0 aa)) aj))
 (ah (du PassesOwn.never rfl (ik rfl T.ju (ag (bf cJ (da bw T.bB hr (bc 0 aa)) aj) aa jb)) (lY 3 nd)
 (ah (c5 4 nd (bf dP aj (bf cJ (da bw T.bB hr (bc 0 aa)) aj)))
 (ak (bK (dv zaj zan zao bD (pv 1) (ag (aS (ag (aC a9 (bu (cQ (vs:=[.str "c",.str "bb",.str "aaa",.str "boxes"]) (by kernel_rfl))) (bf w9 (pv 3) (pv 2)) lT) (bc 4 (ag (bf cJ (da bw T.bB hr (bc 0 aa)) (pv 4)) aa jb)) aY)) aa bW))))))
 (ak (aO (pv 1)))))),rfl,?_⟩
 have line:zds=2 ^ 24:=rfl;refine av fun U1 eE=>?_;walk_at "r";intro B hB;have s1:=aq.new hB (.lst []);have h1:(upd H B (.lst [])) B=some (.lst []):=ae;have Fg:=dk.same s1;have nB:B≠D:=(ai dk.bF hB).symm;have Qp:H D≠none:=by rw[dk.bF];simp
 generalize upd H B (.lst [])=H1 at *;refine(eE _ _).mpr (av fun U2 gk=>?_);clear eE;walk_at "r";refine⟨D,S,sc,p,rfl,Fg,by lia,fun H2 u2 y0=>?_⟩;walk_at "r";refine(gk _ _).mpr (av fun U3 i3=>?_);clear gk;have h2:=u2 _ _ nB h1;refine o8 fun U hU=>?_;walk_at "r";refine⟨D,S,sc,p+1,rfl,y0,by lia,fun H3 u3 qB=>?_⟩;walk_at "r";obtain⟨c0,c1⟩:=jN sc (p+1);refine⟨_,rfl,by lia,by lia,hU _ _ ?_⟩;have h3:=u3 _ _ nB h2;have DJ:aZ D H H3:=((aZ.of s1).trans u2).trans u3;have IQ:∀b,H b≠none->H3 b≠none:=DJ.qF (by rw[qB.bF];simp);generalize hN:(PG.next sc (p+1)%4).toNat=N at *;have N5:N<=4:=by lia
 clear hU;refine ki (lo:=0) (n:=N) (fun i σ H4=>∃(a b:Option V) (pi:Nat) (pre:List gb) (xs:List V),σ=[some (V.ref D),some (V.ref B),some (V.int (PG.next sc p%4)),a,b]/\pi<=p+2+2*i/\i6 K H4 D S sc pi/\H4 B=some (.lst xs)/\xs.length=i/\pre.length=i/\
  (bI sc (PG.next sc p%4) N 0 (p+2)).1=pre++(bI sc (PG.next sc p%4) (N-i) i pi).1/\(bI sc (PG.next sc p%4) N 0 (p+2)).2=(bI sc (PG.next sc p%4) (N-i) i pi).2/\
  mB K (fun b=>if b=B then some (.lst []) else H b) H4 (pre.map iD) xs/\(∀b o,b≠D->b≠B->H b=some o->H4 b=some o)) ?_ ?_ ?_
 ·exact⟨none,none,p+2,[],[],rfl,by lia,qB,h3,rfl,rfl,rfl,rfl,mB.nil,fun b o n1 n2 e=>DJ b o n1 e⟩
 ·rintro i σ H4 hi ⟨a,b,pi,pre,xs,rfl,lp,wm,h4,lx,Sk,e1,e2,ow,kp⟩
  rw[zcJ];refine av fun U4 kg=>?_;walk_at "r";refine⟨D,S,sc,pi,rfl,wm,by lia,fun H7 u7 Xq=>?_⟩;have h7:=u7 _ _ nB h4;walk_at "r";refine(kg _ _).mpr ?_;clear kg;have z0:0<2+PG.next sc pi%3:=by lia
  have eN:N-i=(N-(i+1))+1:=by lia
  rw[eN,bI] at e1 e2;simp only at e1 e2;generalize 2+PG.next sc pi%3=size at *;walk_at "r";refine⟨.inl ⟨rfl,_,.of h7⟩,fun p8 Jj=>?_⟩;have s8:=aq.new Jj (.lst [V.str (zab "c"),V.str (zab "bb"),V.str (zab "aaa"),V.str (zab "boxes")]);have ZL:=Xq.same s8;have h8:=s8 _ _ h7;have sp0:0<=PG.next sc p%4/\PG.next sc p%4<4:=by lia
  have nm:∀(a:Nat) (b:Int),a<4->0<=b->b<4->tm [V.str (zab "c"),V.str (zab "bb"),V.str (zab "aaa"),V.str (zab "boxes")] ((a:Int)-b)=some (V.str (L2.S (PG.pick [] dy (((a:Int)-b)%4)))):=by
   intro a b ha HZ PV;obtain⟨c,rfl⟩:∃c:Nat,b=c:=⟨b.toNat,by lia⟩
   have key:∀a<4,∀c<4,tm [V.str (zab "c"),V.str (zab "bb"),V.str (zab "aaa"),V.str (zab "boxes")] (((a:Nat):Int)-((c:Nat):Int))=some (V.str (L2.S (PG.pick [] dy ((((a:Nat):Int)-((c:Nat):Int))%4)))):=by decide +kernel
   exact key a ha c (by lia)
  refine Cd (nm i _ (by lia) sp0.1 sp0.2) ?_;generalize upd H7 p8 (.lst [V.str (zab "c"),V.str (zab "bb"),V.str (zab "aaa"),V.str (zab "boxes")])=H8 at *;refine⟨D,S,sc,pi+1,rfl,ZL,by lia,fun H9 u9 VN=>?_⟩;walk_at "r";refine⟨z0,fun pa Sl=>?_⟩;have h9:=u9 _ _ nB h8;have uD:aZ D H4 H9:=u7.trans ((aZ.of s8).trans u9);have Fi:=VN.same (aq.new Sl (.tup [V.str (L2.S (PG.pick [] dy (((i:Int)-PG.next sc p%4)%4))),V.int size,V.int (PG.next sc (pi+1)%size)]));have Le:=aq.new Sl (.tup [V.str (L2.S (PG.pick [] dy (((i:Int)-PG.next sc p%4)%4))),V.int size,V.int (PG.next sc (pi+1)%size)]) _ _ h9;have ZM:∀b,(fun b=>if b=B then some (HO.lst []) else H b) b≠none->H9 b≠none:=fun b hb=>by
   by_cases eb:b=B
   ·rw[eb,h9];simp
   ·have WZ:H b≠none:=by simpa[eb] using hb
    by_cases ed:b=D
    ·rw[ed,VN.bF];simp
    ·cases z:H b with
     |none=>exact zzb z WZ
     |some o=>rw[uD b o ed (kp b o ed eb z)];simp
  have Sm:(fun b=>if b=B then some (HO.lst []) else H b) D≠none:=by simp[nB.symm];exact Qp
  have nt:=j0 (K:=K) Sl ZM (.cons (.str (x:=L2.S (PG.pick [] dy (((i:Int)-PG.next sc p%4)%4)))) (.cons (.int (i:=size)) (.cons (.int (i:=PG.next sc (pi+1)%size)) .nil)));have ow9:mB K (fun b=>if b=B then some (HO.lst []) else H b) H9 (pre.map iD) xs:=ow.up uD Sm;have Sn:=ow9.same (aq.new Sl (.tup [V.str (L2.S (PG.pick [] dy (((i:Int)-PG.next sc p%4)%4))),V.int size,V.int (PG.next sc (pi+1)%size)]));have Ms:∀b o,b≠D->b≠B->H b=some o->(upd H9 pa (.tup [V.str (L2.S (PG.pick [] dy (((i:Int)-PG.next sc p%4)%4))),V.int size,V.int (PG.next sc (pi+1)%size)])) b=some o:=fun b o n1 n2 e=>aq.new Sl _ _ _ (uD b o n1 (kp b o n1 n2 e));generalize upd H9 pa (.tup [V.str (L2.S (PG.pick [] dy (((i:Int)-PG.next sc p%4)%4))),V.int size,V.int (PG.next sc (pi+1)%size)])=vC at *;refine⟨B,xs,_,rfl,rfl,Le,by lia,?_⟩;refine⟨_,_,pi+2,pre++[⟨PG.pick [] dy (((i:Int)-PG.next sc p%4)%4),size,PG.next sc (pi+1)%size⟩],xs++[V.ref pa],rfl,by lia,?_,ae,by simp[lx],by simp[Sk],?_,e2,?_,?_⟩
  ·have nS:S≠B:=ai dk.fY hB;exact⟨by rw[aw nB.symm];exact Fi.bF,by rw[aw nS];exact Fi.fY,Fi.ne,Fi.len⟩
  ·rw[e1];simp
  ·rw[zaw];exact RB Le (Sn.snoc nt) (by simp)
  ·intro b o n1 n2 e;rw[aw n2];exact Ms b o n1 n2 e
 ·rintro σ H4 ⟨a,b,pi,pre,xs,rfl,lp,wm,h4,lx,Sk,e1,e2,ow,kp⟩
  refine(i3 _ _).mpr ?_;walk_at "r";rw[Nat.sub_self,bI] at e1 e2;simp only[zav] at e1 e2;refine q B H4 (fun b o n1 e=>?_) (by rw[e2];exact wm) hB (fun O hO=>?_)
  ·by_cases eb:b=B
   ·rw[eb,hB] at e;cases e
   ·exact kp b o n1 eb e
  ·rw[e1];refine Fix.lst h4 (fun z=>hO B z hB) (ow O fun b hb=>?_);by_cases eb:b=B
   ·simp[eb]
   ·simp[eb];exact hO b hb
theorem Mu(T:Tx K mg t):bJ P w K mg base dw 5 t.iR t.jq ["deck", "boxes", "k"] (EA K):=by
 have bw:bJ P w K mg base dw 1 t.dZ t.eA ["deck"] (uY K):=uy T;have g9:=@Mq P w _ _ base _ T 3;refine T.ka.F.lS qT (fun vs H Q E h=>?_) (fun eS A outer s H vs Q E hr h=>?_)
 ·obtain⟨_,_,_,_,_,_,_,rfl,_⟩:=h;rfl
 obtain⟨D,S,B,sc,p,k,bs,rfl,dk,hp,hb,q⟩:=h;have nd:=qT.nd;refine⟨_,[some (V.ref D),some (V.ref B),some (V.int k),none,none],(ah (c5 3 nd (bf cJ (da bw T.bB hr (bc 0 aa)) aj))
 (ah (bh (PW.pt (pw_and (aD (kj (dS hr)) (pv 1) (bu aa) (aR _)) (pw_and1 (aD oT (pv 3) aj (aR _)))))
 (ak (aO (aS (ag aU (bc 2 (ag (aC aM (aC a9 (pv 1) (bf cJ (da bw T.bB hr (bc 0 aa)) (bY bE rfl T.g8 PyProof.Rows.Boot.«len» (bc 1 aa))) lT) aj ao) aa aY)) aP))))
 aV)
 (ah (bh (PW.pt (pw_and (aD (kj (dS hr)) (pv 1) (bu aa) (aR _)) (pw_and1 (aD oT (pv 3) aj (aR _)))))
 (ak (aO (aS (ag aU (bc 2 (ag (aC aM (aC a9 (pv 1) (bf cJ (da bw T.bB hr (bc 0 aa)) (bY bE rfl T.g8 PyProof.Rows.Boot.«len» (bc 1 aa))) lT) aj ao) (ag (da g9 T.gE hr (bc 0 (bc 1 (ag aj aa aP)))) aa bH) aY)) aP))))
 aV)
 (ah (bh (aD bN (pv 3) aj (aR _))
 (ah (c5 4 nd (aC AG aU (bf cJ (da bw T.bB hr (bc 0 aa)) aj) lT))
 (ak (aO (aS (ag aU (bc 2 (bc 4 (ag (da g9 T.gE hr (bc 0 (bc 1 (ag aj aa aP)))) (ag (da g9 T.gE hr (bc 0 (bc 1 (ag aj aa aP)))) aa bH) bH))) aP)))))
 aV)
 (ah (bh (PW.pt (pw_and (aD bN (pv 3) aj (aR _)) (pw_and1 (aD bN (bf cJ (da bw T.bB hr (bc 0 aa)) aj) aj (aR _)))))
 (ak (aO (aS (ag aU (bc 2 aa) aP))))
 aV)
 (ak (aO (aS (ag aU (bc 2 (ag (da g9 T.gE hr (bc 0 (bc 1 (ag aj aa aP)))) aa bH)) aP))))))))),rfl,?_⟩
 have line:zds=2 ^ 24:=rfl;refine av fun U1 eE=>?_;walk_at "r";refine⟨D,S,sc,p,rfl,dk,by lia,fun H1 u1 Fg=>?_⟩;walk_at "r";refine(eE _ _).mpr (av fun U2 gk=>?_);clear eE;have Qp:H D≠none:=by rw[dk.bF];simp
 obtain⟨n0,n1⟩:=jN sc p;have Fh:=u1.qF (by rw[Fg.bF];simp);have PV:=hb.up u1;have eg:=pf sc bs k p;generalize hkd:PG.next sc p%10=kd at *;have say:∀(H2:Hp) (p2:Nat),bR sc bs k p=(.say k (cD sc bs 2 p2).1,(cD sc bs 2 p2).2)->p2<=p+2->aZ D H H2->i6 K H2 D S sc p2->jV K (·=D) H2 B bs->
  xD K 3 [V.ref D,V.ref B,V.int 2] H2 (fun x H3=>∀p4,H3 p4=none->Q (V.ref p4) (upd H3 p4 (.tup [V.str (zab "say"),V.int k,x]))) E0:=by
  intro H2 p2 e yQ u2 y0 sI;rw[e] at q;obtain⟨g1,g2⟩:=jM sc bs 2 p2;refine⟨D,S,B,sc,p2,2,bs,rfl,by lia,y0,by lia,sI,fun v H3 u3 qB o3 p4 v8=>?_⟩;have M6:H2 D≠none:=by rw[y0.bF];simp
  have Ji:H3 D≠none:=by rw[qB.bF];simp
  refine q _ _ ((u2.trans u3).new v8 _) (qB.same (aq.new v8 _)) (j0 v8 (fun b z=>(u3.qF Ji) b ((u2.qF M6) b z)) (.cons .str (.cons .int (.cons (o3.back (u2.qF M6)) .nil))))
 walk_at "r";intro p2 yQ;have s2:=aq.new yQ (.lst []);have sI:=PV.same s2;have h2:(upd H1 p2 (.lst [])) p2=some (.lst []):=ae;have y0:=Fg.same s2;generalize upd H1 p2 (.lst [])=H2 at *;obtain⟨xs,hx,lx,_⟩:=sI.list;refine⟨B,p2,xs,rfl,rfl,hx,.of h2,?_⟩;have em:xs.isEmpty=decide (bs=[]):=by
  rw[zbO,zcK,decide_eq_true_eq,<- zaV,lx,zaV]
 rw[em];have u2:aZ D H1 H2:=.of s2;have ZN:=u2.qF (by rw[y0.bF];simp);have box:∀(H3:Hp) (p3:Nat) (R:VK),i6 K H3 D S sc p3->p3<=99000->jV K (·=D) H3 B bs->bs≠[]->(∀H4,aZ D H3 H4->i6 K H4 D S sc (p3+1)->jV K (·=D) H4 B bs->R (V.str (L2.S (PG.pick ⟨[],0,0⟩ bs (PG.next sc p3%bs.length)).name)) H4)->
  uY K [V.ref D] H3 (fun x H1=>∃p ys,[V.ref B]=[V.ref p]/\(i7 K H1 p ys\/bQ K H1 p ys)/\rI (fun x j=>0<j) (fun i j=>V.int (i%j)) x (V.int (ys.length:Nat)) H1 fun y H2=>AF K (V.ref B) y H2 fun x H1=>Ee K x (V.int 0) H1 R) E0:=by
  intro H3 p3 R qB l3 Mp wQ hR;refine⟨D,S,sc,p3,rfl,qB,by lia,fun H4 u4 wm=>?_⟩;have OX:=Mp.up u4;obtain⟨ys,hy,ly,_⟩:=OX.list;refine⟨B,ys,rfl,.inl hy,?_⟩;rw[ly];have pos:0<bs.length:=zbg.mpr wQ;walk_at "r";exact⟨by lia,OX.pick (zaP _ (by lia)) (zaM _ (by lia)) (hR H4 u4 wm OX)⟩
 have TB:=u1.trans u2;have Qq:¬(bs≠[]/\kd<3)->U2 [some (V.ref D),some (V.ref B),some (V.int k),some (V.int kd),none] H2:=by
  intro hn;rw[zzn hn] at eg;refine(gk _ _).mpr (av fun U3 i3=>?_);have Qr:¬(bs≠[]/\kd<6)->∀H3,aq H2 H3->U3 [some (V.ref D),some (V.ref B),some (V.int k),some (V.int kd),none] H3:=by
   intro Q6 H3 s3;rw[zzn Q6] at eg;have u3:aZ D H H3:=TB.trans (.of s3);have qB:=y0.same s3;have Mp:=sI.same s3;have IQ:=u3.qF (by rw[qB.bF];simp);refine(i3 _ _).mpr (av fun U4 kg=>?_);walk_at "r";refine b9 (fun k6=>?_) (fun k6=>(kg _ _).mpr (av fun U5 uv=>?_))
   ·rw[zzp k6] at eg;rw[eg] at q;refine⟨D,S,sc,p+1,rfl,qB,by lia,fun H4 u4 wm=>?_⟩;walk_at "r";obtain⟨m0,m1⟩:=jN sc (p+1);have sg:∀i:Int,0<=i->i<2->∃c,tm (zab "<=").cps.toList i=some c/\V.str ⟨#[c]⟩=V.str (L2.S (PG.pick [] BO i)):=fun i h0 h3=>by
     have z3:i=0\/i=1:=by lia
     rcases z3 with rfl |rfl
     ·exact⟨60,au (j:=0) (by decide +kernel),rfl⟩
     ·exact⟨61,au (j:=1) (by decide +kernel),rfl⟩
    obtain⟨c,hc,ec⟩:=sg (PG.next sc (p+1)%2) (by lia) (by lia);refine⟨_,_,c,rfl,rfl,by decide,hc,?_⟩;rw[ec];have OX:=Mp.up u4;have Di:=u4.qF (by rw[wm.bF];simp);obtain⟨g1,g2⟩:=jM sc bs 1 (p+2);refine⟨D,S,B,sc,p+2,1,bs,rfl,by lia,wm,by lia,OX,fun v5 H5 u5 Jk o5=>?_⟩;have hb5:=OX.up u5;have So:=u5.qF (by rw[Jk.bF];simp);obtain⟨g3,g4⟩:=jM sc bs 1 (cD sc bs 1 (p+2)).2;refine⟨D,S,B,sc,_,1,bs,rfl,by lia,Jk,by lia,hb5,fun v6 H6 u6 Jl o6 p7 uz=>?_⟩;have ZO:=u6.qF (by rw[Jl.bF];simp);have dA:∀b,H b≠none->H4 b≠none:=fun b z=>Di b (IQ b z);have dB:∀b,H b≠none->H5 b≠none:=fun b z=>So b (dA b z);exact q _ _ ((((u3.trans u4).trans u5).trans u6).new uz _) (Jl.same (aq.new uz _)) (j0 uz (fun b z=>ZO b (dB b z)) (.cons .str (.cons .int (.cons .str (.cons ((o5.back dA).up u6 Qp) (.cons (o6.back dB) .nil))))))
   ·rw[zzn k6] at eg;walk_at "r";refine b9 (fun k7=>?_) (fun k7=>(zzn zai).mpr ((uv _ _).mpr ?_))
    ·rw[zzp k7] at eg;refine⟨D,S,sc,p+1,rfl,qB,by lia,fun H4 u4 wm=>?_⟩;walk_at "r";have Di:=u4.qF (by rw[wm.bF];simp);refine b9 (fun z3=>?_) (fun z3=>(uv _ _).mpr ?_)
     ·rw[zzp z3] at eg;rw[eg] at q;intro p5 yM;exact q _ _ ((u3.trans u4).new yM _) (wm.same (aq.new yM _)) (j0 yM (fun b z=>Di b (IQ b z)) (.cons .str (.cons .int .nil)))
     ·rw[zzn z3] at eg;walk_at "r";exact say H4 (p+2) eg (by lia) (u3.trans u4) wm (Mp.up u4)
    ·rw[zzn k7] at eg;walk_at "r";exact say H3 (p+1) eg (by lia) u3 qB Mp
  walk_at "r";intro p3 DI;have s3:=aq.new DI (.lst []);have Mp:=sI.same s3;have h3:(upd H2 p3 (.lst [])) p3=some (.lst []):=ae;have qB:=y0.same s3;generalize upd H2 p3 (.lst [])=H3 at *;obtain⟨ys,hy,ly,_⟩:=Mp.list;refine⟨B,p3,ys,rfl,rfl,hy,.of h3,?_⟩;have em3:ys.isEmpty=decide (bs=[]):=by
   rw[zbO,zcK,decide_eq_true_eq,<- zaV,ly,zaV]
  rw[em3];by_cases wQ:bs=[]
  ·rw[decide_eq_true wQ,zzn (by decide),zzn zai];exact Qr (fun z=>z.1 wQ) H3 s3
  ·rw[decide_eq_false wQ,zzp (by decide)];refine b9 (fun k6=>?_) (fun k6=>Qr (fun z=>k6 z.2) H3 s3);rw[zzp ⟨wQ,k6⟩] at eg;rw[eg] at q;refine box H3 (p+1) _ qB (by lia) Mp wQ fun H4 u4 wm OX=>?_;have u3:aZ D H H3:=TB.trans (.of s3);have IQ:=u3.qF (by rw[qB.bF];simp);have Di:=u4.qF (by rw[wm.bF];simp);obtain⟨g1,g2⟩:=jM sc bs 2 (p+2);refine⟨D,S,B,sc,p+2,2,bs,rfl,by lia,wm,by lia,OX,fun v5 H5 u5 Jk o5 p6 i5=>?_⟩;have So:=u5.qF (by rw[Jk.bF];simp);exact q _ _ (((u3.trans u4).trans u5).new i5 _) (Jk.same (aq.new i5 _)) (j0 i5 (fun b z=>So b (Di b (IQ b z))) (.cons .str (.cons .int (.cons .str (.cons (o5.back fun b z=>Di b (IQ b z)) .nil)))))
 by_cases wQ:bs=[]
 ·rw[decide_eq_true wQ,zzn (by decide),zzn zai];exact Qq fun z=>z.1 wQ
 ·rw[decide_eq_false wQ,zzp (by decide)];refine b9 (fun k3=>?_) (fun k3=>Qq fun z=>k3 z.2);rw[zzp ⟨wQ,k3⟩] at eg;rw[eg] at q;refine box H2 (p+1) _ y0 (by lia) sI wQ fun H4 u4 wm OX p5 yM=>?_;have Di:=u4.qF (by rw[wm.bF];simp);exact q _ _ ((TB.trans u4).new yM _) (wm.same (aq.new yM _)) (j0 yM (fun b z=>Di b (ZN b (Fh b z))) (.cons .str (.cons .int (.cons .str .nil))))
theorem Mv:∀w:Wd,(!Nz (V.str (gg w)) [V.str (zab "else"),V.str (zab "end")])=decide (w≠.oQ/\w≠.fin):=by
 intro w;cases w<;>decide +kernel
theorem IS(T:Tx K mg t):bJ P w K mg base dw 1 t.gX t.iT ["boxes", "rows", "mode"] (KR K):=by
 refine T.gZ.F.lS pV (fun vs H Q E h=>?_) (fun eS A outer s H vs Q E hr h=>?_)
 ·obtain⟨_,_,_,_,_,rfl,_⟩:=h;rfl
 obtain⟨B,R,bs,rows,mode,rfl,rb,rr,lb,lr,q⟩:=h;have nd:=pV.nd;refine⟨_,[some (V.ref B),some (V.ref R),some (V.int mode)],(ah (bh (aD bN (pv 2) aj (aR _))
 (ak (aO (bf dP (bf dP (bY bE rfl T.g8 PyProof.Rows.Boot.«len» (bc 0 aa)) aj) (bf rL aj (bY bE rfl T.g8 PyProof.Rows.Boot.«len» (bc 1 aa))))))
 aV)
 (ah (bh (aD bN (pv 2) aj (aR _))
 (ak (aO (bf dP (bf dP (bY bE rfl T.g8 PyProof.Rows.Boot.«len» (bc 0 aa)) aj) (bY bE rfl T.g8 PyProof.Rows.Boot.«len» (ag (hG (own:=["row"]) (ix:=[]) rfl (by rfl) (by rfl) (cI (pv 1)) (fun _ _ _ _=>(fZ (i:=0) (by show List.Nodup (["row"]:List Str);decide +kernel) rfl (zbq rfl))) (fun _ _ _ _=>(F1 (aD (HV (K:=K) rfl) (aC (Cz (K:=K) rfl) (pv 0) aj ao) (aS (cQ (vs:=[.str "else",.str "end"]) (by kernel_rfl))) rfl))) (fun _ _ _ _=>(pv 0))) aa lh)))))
 aV)
 (ak (aO (bf dP (bf dP (bY bE rfl T.g8 PyProof.Rows.Boot.«len» (bc 0 aa)) aj) (bY bE rfl T.g8 PyProof.Rows.Boot.«len» (bc 1 aa))))))),rfl,?_⟩
 have line:zds=2 ^ 24:=rfl;rw[Rep.bL] at rb rr;obtain⟨_,bv,e,hB,rb⟩:=rb;cases e;obtain⟨_,rv,e,hR,rr⟩:=rr;cases e;have OY:bv.length=bs.length:=by rw[rb.length,zad]
 have Qs:rv.length=rows.length:=by rw[rr.length,zad]
 unfold PG.number at q;walk_at "r";refine b9 (fun m2=>?_) (fun m2=>?_)
 ·rw[zzp m2] at q;refine⟨B,bv,rfl,.inl hB,R,rv,rfl,.inl hR,?_⟩;rw[OY,Qs];exact⟨mulL (by decide) (by decide),q _ (aq.refl _)⟩
 rw[zzn m2] at q;refine b9 (fun m3=>?_) (fun m3=>?_)
 ·rw[zzp m3] at q;refine⟨B,bv,rfl,.inl hB,?_⟩;simp only[jT];walk_at "r";refine⟨⟨rv,hR⟩,fun D hD=>?_⟩;refine xE (K:=K) (r:=[]) (fun i=>PG.plainRow (rows.getD i (0,.ask))) (fun i=>rv.getD i .cC) hR (by lia) hD (fun i x hx H2 s2 R2 ZP=>?_) (fun i x hx _ H2 s2 R2 ZP=>?_) (fun H2 s2 h2=>?_)
  ·have li:i<rows.length:=by
    have:=(zak.mp hx).1;lia
   obtain⟨v,hv,rw_⟩:=rr.get (i:=i) (d:=jU (rows.getD i (0,.ask))) (by rw[zam,zac li,zap,zac li];rfl);rw[hx] at hv;cases hv;generalize rows.getD i (0,.ask)=row at *;unfold jU at rw_;rw[Rep.bL] at rw_;obtain⟨a,ys,rfl,hy,ry⟩:=rw_;rw[aN.aI] at ry;obtain⟨v1,t1,rfl,e1,ry⟩:=ry;rw[aN.aI] at ry;obtain⟨v2,t2,rfl,e2,ry⟩:=ry;rw[aN.br] at ry;subst ry;rw[Rep.bA] at e2;subst e2;walk_at "r";refine bz (v:=V.str (gg row.2)) (s2.seq hy) (au (j:=1) rfl) fun p3 DI=>?_;refine⟨p3,_,rfl,.inr (.of ae),rfl,rfl,?_⟩;have ew:(!Nz (V.str (gg row.2)) [V.str (zab "else"),V.str (zab "end")])=PG.plainRow row:=by
    exact Mv row.2
   have:=ZP _ (aq.new DI (.tup [V.str (zab "else"),V.str (zab "end")]));rw[<- ew] at this;exact⟨_,rfl,this⟩
  ·walk_at "r";have:=ZP H2 (aq.refl _);rw[zap,hx] at this;exact this
  ·refine⟨D,_,rfl,.inl (.of h2),?_⟩;rw[zad,Qs,Cy,OY];exact q _ s2
 ·rw[zzn m3] at q;refine⟨B,bv,rfl,.inl hB,R,rv,rfl,.inl hR,?_⟩;rw[OY,Qs];exact q _ (aq.refl _)
theorem jw{α:Type}{xs:List α}{x:α}:tm (xs++[x]) (-1)=some x:=by
 have e:JN (xs++[x]).length (-1)=some xs.length:=by
  unfold JN;simp
  try lia
 unfold tm;rw[e];simp
theorem uC{K:zaa}{Oo:zdk->Prop}{H:Hp}{ds es:List Dp}{vs us:List V}(a:eI K Oo H ds vs)(b:eI K Oo H es us):eI K Oo H (ds++es) (vs++us):=fun H2 u=>(a H2 u).append (b H2 u)
theorem Bm{K:zaa}{H:Hp}{a b:zdk}{xs ys:List V}{Q:VK}(h1:H a=some (.tup xs))(h2:H b=some (.tup ys))(n1:1<=xs.length/\xs.length<=10)(n2:1<=ys.length/\ys.length<=10)(q:∀p,H p=none->Q (.ref p) (upd H p (.tup (xs++ys)))):Pq K (.ref a) (.ref b) H Q:=by
 have line:zds=2 ^ 24:=rfl;refine⟨a,b,xs,ys,rfl,rfl,.of h1,.of h2,by intro z;rw[z] at n1;simp at n1,by lia,fun z=>by rw[z] at n2;simp at n2,fun _=>q⟩
theorem Mw(T:Tx K mg t):bJ P w K mg base dw 1 t.iS t.jr ["pile"] (NV K):=by
 refine T.iX.F.lS qU (fun vs H Q E h=>?_) (fun eS A outer s H vs Q E hr h=>?_)
 ·obtain⟨_,_,_,_,_,_,_,_,_,_,_,_,_,_,_,_,rfl,_⟩:=h;rfl
 obtain⟨D,S,sc,p,B,bs,P',R,f,g,a,b,a',b',r,rows,rfl,st,hk,hg,aeT,q⟩:=h;have nd:=qU.nd;refine⟨_,[some (V.ref P'),none,none,none,none,none],(ah (rJ (Ei zaj zcm zcn En (pv 0)) (AM rfl (bM (lY 1 nd) (bM (lY 2 nd) (bM (lY 3 nd) (bM (lY 4 nd) iA))))))
 (ah (c5 5 nd (bf sZ (pv 3) (aS (bc 2 aa))))
 (ah (bh (aD bN (pv 1) aU (aR _))
 (ak (c5 5 nd (bf sZ (pv 3) (aS (bc 2 (ag (bu aa) aa jL))))))
 aV)
 (ah (bh (aD bN (pv 1) aU (aR _))
 (ak (c5 5 nd (bf sZ (pv 3) (aS (bc 4 (bc 2 aa))))))
 aV)
 (ak (bK (dv zaj zan zao bD (aC a9 (aC a9 (pv 0) (vI oS aj) vO) aj ao) (bc 5 aa)))))))),rfl,?_⟩
 have line:zds=2 ^ 24:=rfl;refine av fun U1 eE=>?_;walk_at "r";have ep:((f,a,b)::(g,a',b')::r:List yI).reverse.map (fun x=>V.ref x.2.1)=((g,a',b')::r:List yI).reverse.map (fun x=>V.ref x.2.1)++[.ref a]:=by rw[zbm,zaw];rfl
 obtain⟨wg,⟨hd,fi,xs,fa⟩,na,nb,RC⟩:=st.pop;have kd:∀c,H c≠none->(upd H P' (.lst (((g,a',b')::r:List yI).reverse.map fun x=>V.ref x.2.1))) c≠none:=fun c hc=>by
  by_cases e:c=P'
  ·rw[e,ae];simp
  ·rw[aw e];exact hc
 have kp:∀c o,c ∉ iE D P' R ((f,a,b)::(g,a',b')::r)->H c=some o->(upd H P' (.lst (((g,a',b')::r:List yI).reverse.map fun x=>V.ref x.2.1))) c=some o:=fun c o hc e=>by
  rw[aw (fun z=>hc (by rw[z];simp[iE]))];exact e
 refine⟨.inl ⟨rfl,_,.of st.aX⟩,P',_,.ref a,rfl,rfl,st.aX,by rw[ep];simp,?_⟩;rw[ep,zcr];generalize upd H P' (.lst (((g,a',b')::r:List yI).reverse.map fun x=>V.ref x.2.1))=H1 at *;refine⟨a,_,rfl,.of fa.fr,rfl,_,_,rfl,_,_,rfl,_,_,rfl,_,_,rfl,rfl,(eE _ _).mpr (av fun U2 gk=>?_)⟩;clear eE;obtain⟨c,ys,rfl,hc,nc,TC⟩:=fa.HU (by lia);have lys:ys.length=5:=by have:=TC.HS.length;simpa using this
 have Fj:∀z,O D P' R ((g,a',b')::r) [] z->O D P' R ((g,a',b')::r) [a,b] z:=fun z hz=>hz.elim .inl fun w=>zzb w (by simp);have yH:=wg.less (E':=[]) (fun z hz=>zzb hz (by simp));have Sq:=TC.sub Fj;have VO:¬O D P' R ((g,a',b')::r) [] b:=fun z=>z.elim nb (by simp);have VP:Fix K (O D P' R ((g,a',b')::r) []) H1 (.lst (f.body.map dH)) (.ref b):=Fix.lst fa.bd VO (fa.ok.sub Fj);walk_at "r";intro p2 yQ;have s2:=aq.new yQ (.tup [.ref b]);have t2:(upd H1 p2 (.tup [.ref b])) p2=some (.tup [.ref b]):=ae;generalize upd H1 p2 (.tup [.ref b])=H2 at *;refine Bm (s2 _ _ hc) t2 (by lia) (by simp) fun p3 DI=>?_;have s3:=s2.trans (aq.new DI (.tup (ys++[.ref b])));have t3:(upd H2 p3 (.tup (ys++[.ref b]))) p3=some (.tup (ys++[.ref b])):=ae;have n3:p3 ∉ iE D P' R ((g,a',b')::r):=(yH.same s2).fresh DI;generalize upd H2 p3 (.tup (ys++[.ref b]))=H3 at *;refine(gk _ _).mpr (av fun U3 i3=>?_);clear gk;walk_at "r";have VQ:(tQ f.kind=zab "if")↔f.kind=1:=by
  rcases hk with h |h |h<;>rw[h]<;>simp[tQ]<;>decide +kernel
 have VR:(tQ f.kind=zab "else")↔f.kind=2:=by
  rcases hk with h |h |h<;>rw[h]<;>simp[tQ]<;>decide +kernel
 have Qt:∀(v:V) (H4:Hp),aq H1 H4->(f.kind≠2->Fix K (O D P' R ((g,a',b')::r) []) H4 (dH f.told) v)->U3 [some (V.ref P'),some (V.str (tQ f.kind)),some (V.ref b),some (V.ref c),some fi,some v] H4:=by
  intro v H4 s4 hv;refine(i3 _ _).mpr (av fun U4 kg=>?_);have last:∀(v:V) (H5:Hp),aq H1 H5->Fix K (O D P' R ((g,a',b')::r) []) H5 (dH f.told) v->U4 [some (V.ref P'),some (V.str (tQ f.kind)),some (V.ref b),some (V.ref c),some fi,some v] H5:=by
   intro v H5 s5 fv;refine(kg _ _).mpr ?_;have Jy:=yH.same s5;obtain⟨DM,fi',KQ,fg⟩:=Jy.frames _ (zaq ..);have lg:KQ.length<=1000:=by have:=fg.len;simp only at this;lia
   walk_at "r";have pl:H5 P'=some (.lst ((r.reverse.map fun x=>V.ref x.2.1)++[.ref a'])):=by rw[Jy.aX,zbm,zaw];rfl
   refine⟨1,rfl,bz (v:=.ref a') (.of pl) jw (bz (v:=.ref b') (.of fg.fr) (au (j:=1) rfl) ⟨.inl ⟨rfl,_,.of fg.bd⟩,b',KQ,v,rfl,rfl,fg.bd,by lia,?_⟩)⟩;refine q _ (fun z hz=>?_) (fun z o nz e=>?_) (Jy.stm fg.bd fv)
   ·by_cases e:z=b'
    ·rw[e,ae];simp
    ·rw[aw e];have h1:=kd z hz;cases w:H1 z with
     |none=>exact zzb w h1
     |some o=>rw[s5 _ _ w];simp
   ·rw[aw (fun w=>nz (by rw[w];simp[iE]))];exact s5 _ _ (kp z o nz e)
  walk_at "r";refine b9 (fun e2=>?_) (fun e2=>last v H4 s4 (hv fun z=>e2 (VR.mpr z)));have k2:=VR.mp e2;intro p5 yM;have s5:=s4.trans (aq.new yM (.tup [fi,.ref b]));have t5:(upd H4 p5 (.tup [fi,.ref b])) p5=some (.tup [fi,.ref b]):=ae;generalize upd H4 p5 (.tup [fi,.ref b])=H5 at *;refine Bm (s5 _ _ hc) t5 (by lia) (by simp) fun p6 i5=>?_;have s6:=s5.trans (aq.new i5 (.tup (ys++[fi,.ref b])));have n6:¬O D P' R ((g,a',b')::r) [] p6:=fun z=>z.elim ((yH.same s5).fresh i5) (by simp);refine last _ _ s6 ?_;have et:dH f.told=.tup ([.str "if",.int f.k,.str (L2.S f.sg),my f.l,my f.r]++[.lst (f.first.map dH),.lst (f.body.map dH)]):=by
   unfold PG.Frame.told;rw[zzn (by lia),zzp k2,dH,fJ,fJ];rfl
  rw[et];have f5:=Sq;rw[zzn (by lia)] at f5;refine Fix.tup ae n6 ?_;exact uC (f5.up (.of s6)) (.cons (((fa.KP k2).sub Fj).up (.of s6)) (.cons (VP.up (.of s6)) .nil))
 refine b9 (fun e1=>?_) (fun e1=>Qt _ H3 s3 fun Q6=>?_)
 ·have k1:=VQ.mp e1;intro p4 v8 p5 yM;have s4:=s3.trans (aq.new v8 (.lst []));have t4:(upd H3 p4 (.lst [])) p4=some (.lst []):=ae;have n4:¬O D P' R ((g,a',b')::r) [] p4:=fun z=>z.elim ((yH.same s3).fresh v8) (by simp);generalize upd H3 p4 (.lst [])=H4 at *;have s5:=s4.trans (aq.new yM (.tup [.ref b,.ref p4]));have t45:=aq.new yM (.tup [.ref b,.ref p4]) _ _ t4;have t5:(upd H4 p5 (.tup [.ref b,.ref p4])) p5=some (.tup [.ref b,.ref p4]):=ae;generalize upd H4 p5 (.tup [.ref b,.ref p4])=H5 at *;refine Bm (s5 _ _ hc) t5 (by lia) (by simp) fun p6 i5=>?_;have s6:=s5.trans (aq.new i5 (.tup (ys++[.ref b,.ref p4])));have t6:=aq.new i5 (.tup (ys++[.ref b,.ref p4])) _ _ t45;have n6:¬O D P' R ((g,a',b')::r) [] p6:=fun z=>z.elim ((yH.same s5).fresh i5) (by simp);refine Qt _ _ s6 fun _=>?_;have et:dH f.told=.tup ([.str "if",.int f.k,.str (L2.S f.sg),my f.l,my f.r]++[.lst (f.body.map dH),.lst []]):=by
   unfold PG.Frame.told;rw[zzp k1,dH,fJ];rfl
  rw[et];have f5:=Sq;rw[zzn (by lia)] at f5;refine Fix.tup ae n6 ?_;exact uC (f5.up (.of s6)) (.cons (VP.up (.of s6)) (.cons (Fix.lst t6 n4 .nil) .nil))
 ·have k3:f.kind=3:=by
   have:¬f.kind=1:=fun z=>e1 (VQ.mpr z);lia
  have et:dH f.told=.tup ([.str "while",.int f.k,.str (L2.S f.sg),my f.l,my f.r]++[.lst (f.body.map dH)]):=by
   unfold PG.Frame.told;rw[zzn (by lia),zzn (by lia),dH,fJ];rfl
  rw[et];have f5:=Sq;rw[zzp k3] at f5;exact Fix.tup t3 (fun z=>z.elim n3 (by simp)) (uC (f5.up (.of s3)) (.cons (VP.up (.of s3)) .nil))
theorem Fl(T:Tx K mg t):bJ P w K mg base dw 6 t.gB t.hV ["deck", "many"] (EN K):=by
 have bw:bJ P w K mg base dw 1 t.dZ t.eA ["deck"] (uY K):=uy T;have g9:=@Mq P w _ _ base _ T 2;have Bn:=@Mr P w _ _ base _ T;have Bo:=@Mu P w _ _ base _ T;have qZ:=@IS P w _ _ base _ T;have uG:=@Mw P w _ _ base _ T;refine T.iY.F.lS oM (fun vs H Q E h=>?_) (fun eS A outer s H vs Q E hr h=>?_)
 ·obtain⟨_,_,_,_,_,rfl,_⟩:=h;rfl
 obtain⟨D,S,sc,p,many,rfl,dk,hp,hm,q⟩:=h;have nd:=oM.nd;refine⟨_,[some (V.ref D),some (V.int many),none,none,none,none,none,none,none,none,none,none,none,none,none],(ah (c5 2 nd (da Bn T.j9 hr (bc 0 aa)))
 (ah (c5 3 nd (bu (ag (bu (ag aU (ag (bu aa) (ag eU (ag eU aa aP) aP) jL) aP)) aa jL)))
 (ah (c5 4 nd (bu aa))
 (ah (c5 5 nd (bf cJ (da bw T.bB hr (bc 0 aa)) aj))
 (ah (du PassesOwn.never rfl (ik rfl T.ju (bc 1 aa)) (lY 6 nd)
 (ah (c5 7 nd (da qZ T.gZ hr (bc 2 (bc 4 (bc 5 aa)))))
 (ah (c5 8 nd (bf cJ (da bw T.bB hr (bc 0 aa)) aj))
 (ak (bh (PW.pt (pw_and (aD oT (pv 8) aj (aR _)) (pw_and1 (aD JC (bY bE rfl T.g8 PyProof.Rows.Boot.«len» (bc 3 aa)) aj (aR _)))))
 (ah (bK (da uG T.iX hr (bc 3 aa)))
 (ak (bK (dv zaj zan zao bD (pv 4) (ag (bu (bc 7 (ag aU aa aP))) aa jL)))))
 (ak (bh (PW.pt (pw_and (aD bN (pv 8) aj (aR _)) (pw_and1 (aD bN (aC a9 (aC a9 (pv 3) (vI oS aj) vO) aj ao) aU (aR _)))))
 (ah (rJ (Ei zaj zcm zcn En (pv 3)) (AM rfl (bM (lY 9 nd) (bM (lY 10 nd) (bM (lY 11 nd) (bM (lY 12 nd) iA))))))
 (ah (bK (dv zaj zan zao bD (pv 3) (ag (bu (ag aU (ag (bu aa) (bc 11 (bc 10 aa)) jL) aP)) aa jL)))
 (ak (bK (dv zaj zan zao bD (pv 4) (ag (bu (bc 7 (ag aU aa aP))) aa jL))))))
 (ak (bh (PW.pt (pw_and (aD oT (pv 8) aj (aR _)) (pw_and1 (aD oT (bY bE rfl T.g8 PyProof.Rows.Boot.«len» (bc 3 aa)) aj (aR _)))))
 (ah (c5 13 nd (aC a9 (bu (cQ (vs:=[.str "if",.str "if",.str "while"]) (by kernel_rfl))) (bf cJ (pv 8) aj) lT))
 (ah (c5 14 nd (aS (ag (aC AG aU (bf cJ (da bw T.bB hr (bc 0 aa)) aj) lT) (ag (da g9 T.gE hr (bc 0 (bc 2 (ag aj aa aP)))) (ag (da g9 T.gE hr (bc 0 (bc 2 (ag aj aa aP)))) aa bH) bH) aY)))
 (ah (bK (dv zaj zan zao bD (pv 3) (ag (bu (bc 13 (ag (bu aa) (ag (bf sZ (aS (bc 13 (bc 7 aa))) (pv 14)) (ag eU aa aP) jb) jL))) aa jL)))
 (ak (bK (dv zaj zan zao bD (pv 4) (ag (bu (bc 7 (bc 13 aa))) aa jL)))))))
 (ah (bK (dv zaj zan zao bD (aC a9 (aC a9 (pv 3) (vI oS aj) vO) aj ao) (ag (da Bo T.ka hr (bc 0 (bc 2 (bc 7 aa)))) aa bH)))
 (ak (bK (dv zaj zan zao bD (pv 4) (ag (bu (bc 7 (ag (aC aM (aC a9 (aC a9 (aC a9 (pv 3) (vI oS aj) vO) aj ao) (vI oS aj) vO) aj ao) aa aY))) aa jL))))))))))))))
 (ah (mn PassesOwn.never (aD JC (bY bE rfl T.g8 PyProof.Rows.Boot.«len» (bc 3 aa)) aj (aR _))
 (ah (bK (da uG T.iX hr (bc 3 aa)))
 (ak (bK (dv zaj zan zao bD (pv 4) (ag (bu (ag (da qZ T.gZ hr (bc 2 (bc 4 (bc 5 aa)))) (ag aU aa aP) bH)) aa jL))))))
 (ak (aO (bu (ag (aS (bc 2 (ag (aC a9 (aC a9 (pv 3) aj ao) aj ao) aa aY))) (bc 4 aa) bW)))))))))),rfl,?_⟩
 have line:zds=2 ^ 24:=rfl;have Qp:H D≠none:=by rw[dk.bF];simp
 refine av fun U1 eE=>?_;walk_at "r";refine⟨D,S,sc,p,rfl,dk,by lia,fun B H1 u1 Fg hB ow1=>(eE _ _).mpr (av fun U2 gk=>?_)⟩;clear eE;unfold b8 at q;simp only at q;generalize wQ:bI sc (PG.next sc p%4) (PG.next sc (p+1)%4).toNat 0 (p+2)=bs at *;have k1:Kept D H H1:=⟨u1,u1.qF (by rw[Fg.bF];simp)⟩
 have bx1:Fix K (·=D) H1 (.lst (bs.1.map iD)) (.ref B):=ow1 _ fun b hb=>by rw[show b=D from hb];exact Qp
 walk_at "r";intro b0 HZ;have x1:=bx1.apart (o:=.lst []) HZ;have y1:(upd H1 b0 (.lst [])) b0=some (.lst []):=ae;have s1:=aq.new HZ (.lst []);have y0:=Fg.same s1;have k2:=k1.same s1;have e1:H b0=none:=by
  cases z:H b0 with
  |none=>rfl
  |some o=>exact zzb HZ (k1.2 b0 (by rw[z];simp))
 generalize upd H1 b0 (.lst [])=H2 at *;intro a0 Jm;have x2:=x1.apart (o:=.lst [V.str (zab "all"),V.ref b0,V.cC,V.cC]) Jm;have s2:=aq.new Jm (.lst [V.str (zab "all"),V.ref b0,V.cC,V.cC]);have y2:(upd H2 a0 (.lst [V.str (zab "all"),V.ref b0,V.cC,V.cC])) a0=some (.lst [V.str (zab "all"),V.ref b0,V.cC,V.cC]):=ae;have y1:=s2 _ _ y1;have RC:a0≠b0:=fun z=>by rw[z] at Jm;rw[‹H2 b0=some (HO.lst [])›] at Jm;cases Jm
 have qB:=y0.same s2;have k3:=k2.same s2;have e2:H a0=none:=by
  cases z:H a0 with
  |none=>rfl
  |some o=>exact zzb Jm (k2.2 a0 (by rw[z];simp))
 generalize upd H2 a0 (.lst [V.str (zab "all"),V.ref b0,V.cC,V.cC])=H3 at *;intro P' hP;have x3:=x2.apart (o:=.lst [V.ref a0]) hP;have s3:=aq.new hP (.lst [V.ref a0]);have y3:(upd H3 P' (.lst [V.ref a0])) P'=some (.lst [V.ref a0]):=ae;have nPa:a0≠P':=ai y2 hP;have nPb:b0≠P':=ai y1 hP;have ZQ:D≠P':=ai qB.bF hP;have nPS:S≠P':=ai qB.fY hP;have y2:=s3 _ _ y2;have y1:=s3 _ _ y1;have Sr:D≠b0:=ai Fg.bF HZ;have UR:S≠b0:=ai Fg.fY HZ;have ZR:D≠a0:=ai y0.bF Jm;have YL:S≠a0:=ai y0.fY Jm;have wm:=qB.same s3;have k4:=k3.same s3;have e3:H P'=none:=by
  cases z:H P' with
  |none=>rfl
  |some o=>exact zzb hP (k3.2 P' (by rw[z];simp))
 generalize upd H3 P' (.lst [V.ref a0])=H4 at *;refine(gk _ _).mpr (av fun U3 i3=>?_);clear gk;walk_at "r";intro R hR;have x4:=x3.apart (o:=.lst []) hR;have s4:=aq.new hR (.lst []);have y4:(upd H4 R (.lst [])) R=some (.lst []):=ae;have nRa:a0≠R:=ai y2 hR;have nRb:b0≠R:=ai y1 hR;have nRP:P'≠R:=ai y3 hR;have nRD:D≠R:=ai wm.bF hR;have nRS:S≠R:=ai wm.fY hR;have y1:=s4 _ _ y1;have y2:=s4 _ _ y2;have y3:=s4 _ _ y3;have Jk:=wm.same s4;have k5:=k4.same s4;have e4:H R=none:=by
  cases z:H R with
  |none=>rfl
  |some o=>exact zzb hR (k4.2 R (by rw[z];simp))
 generalize upd H4 R (.lst [])=H5 at *;obtain⟨bl,bp⟩:bs.1.length<=10/\bs.2<=p+20:=by
  obtain⟨l1,l2⟩:=jZ sc (PG.next sc p%4) (PG.next sc (p+1)%4).toNat 0 (p+2);rw[wQ] at l1 l2;have:=jN sc (p+1);lia
 have st0:mC K H5 D S sc bs.2 B bs.1 P' R [({kind:=0,body:=[]},a0,b0)] [] []:=by
  refine⟨Jk,x4.sub fun z hz=>?_,bl,y3,fun x hx=>?_,⟨[],y4,.nil,rfl⟩,?_,?_⟩
  ·rcases hz with hz |hz
   ·simp only[iE,zaG,zbk,zav,zag,zaY,or_false] at hz;rcases hz with rfl |rfl |rfl |rfl |rfl
    ·exact .inl (.inl (.inl (.inl rfl)))
    ·exact .inl (.inr rfl)
    ·exact .inr rfl
    ·exact .inl (.inl (.inr rfl))
    ·exact .inl (.inl (.inl (.inr rfl)))
   ·cases hz
  ·rw[zar.mp hx];exact⟨.cC,.cC,[],y2,y1,.nil,fun z=>zzb rfl z,fun z=>zzb z (show ¬(0=2) by decide),rfl⟩
  ·simp only[iE,zaG,zbk,zav,zaE,zag,zaY,or_false,not_or,not_false_eq_true,zb6,and_true];exact⟨⟨ZQ,nRD,ZR,Sr⟩,⟨nRP,nPa.symm,nPb.symm⟩,⟨nRa.symm,nRb.symm⟩,RC⟩
  ·simp only[iE,zaG,zbk,zav,zag,zaY,or_false,not_or];exact⟨Jk.ne,nPS,nRS,YL,UR⟩
 refine(i3 _ _).mpr (av fun U4 kg=>?_);clear i3 x1 x2 x3 x4;walk_at "r";refine⟨D,S,sc,bs.2,rfl,Jk,by lia,fun H6 u6 Jl=>?_⟩;walk_at "r";have k6:=k5.up u6 (by rw[Jl.bF];simp);have st6:=st0.draw u6 Jl;clear st0;generalize PG.next sc bs.2%4=mode at *;refine(kg _ _).mpr (av fun U5 uv=>?_);clear kg;generalize VS:(⟨bs.2+1,[{kind:=0,body:=[]}],[]⟩:PG.Walk)=w0 at *;have ok0:dC w0:=by rw[<- VS];exact⟨rfl,rfl,by simp⟩
 have len0:pj 0 w0:=by rw[<- VS];exact⟨fun f hf=>by rw[zar.mp hf];exact zaf _,zaf _⟩
 refine o8 fun U hU=>?_;walk_at "r";refine⟨_,rfl,by lia,by lia,hU _ _ ?_⟩;clear hU;rw[za1];obtain⟨Pv,mh,dQ⟩:=xW fun (i:Nat) (σ:St) (H7:Hp) zq=>∀(z6 z7 z8 z9 BS M9 Na Nb Nc:Option V) (dq:List yI),σ=[some (V.ref D),some (V.int many),some (V.ref B),some (V.ref P'),some (V.ref R),some (V.int mode),z6,z7,z8,z9,BS,M9,Na,Nb,Nc]->dq.map (·.1)=(PG.turns sc bs.1 mode i w0).aX->mC K H7 D S sc (PG.turns sc bs.1 mode i w0).p B bs.1 P' R dq (PG.turns sc bs.1 mode i w0).rows []->Kept D H H7->dC (PG.turns sc bs.1 mode i w0)->pj i (PG.turns sc bs.1 mode i w0)->(PG.turns sc bs.1 mode i w0).p<=200+20*i->(∀x∈dq,H x.2.1=none/\H x.2.2=none)->zq;refine ki (lo:=0) (n:=many) Pv ?_ ?_ ?_
 ·refine(mh _ _ _ fun _ zk=>zk none none none none none none none none none [({kind:=0,body:=[]},a0,b0)] rfl ?_ ?_ k6 ok0 len0 ?_ (fun x hx=>by rw[zar.mp hx];exact⟨e2,e1⟩))
  ·show _=w0.aX;rw[<- VS];rfl
  ·show mC K H6 D S sc w0.p B bs.1 P' R _ w0.rows [];rw[<- VS];exact st6
  ·show w0.p<=_;rw[<- VS];simp only;lia
 ·intro i σ H7 hi hv;refine dQ _ _ _ hv _ fun z6 z7 z8 z9 BS M9 Na Nb Nc dq kU ef st kp ok ln pb GY=>?_;subst kU;clear hv;rw[zcJ];have done:=fun σ H7=>mh (i+1) σ H7;rw[xt] at done;have Mx:=tH sc bs.1 mode ok;have My:=Cj sc bs.1 mode ln;have Qu:=(Rz sc bs.1 mode (PG.turns sc bs.1 mode i w0)).2;generalize PG.turns sc bs.1 mode i w0=wk at *;obtain⟨pp,aX,rows⟩:=wk;simp only at ef st pb Qu;have rl:rows.length<=i:=ln.2;cases aX with
  |nil=>exact ok.aX.elim
  |cons f r=>
  cases dq with
  |nil=>cases ef
  |cons x0 fr=>
  obtain⟨f',a,b⟩:=x0;simp only[zal,zdi.injEq] at ef;obtain⟨rfl,ef⟩:=ef;have ZS:fr.length=r.length:=by rw[<- ef,zad]
  rw[AO] at done Mx My Qu;simp only[eM,zaT];refine av fun U6 yK=>?_;walk_at "r";obtain⟨yJ,hR7,fR,lR⟩:=st.rows;refine⟨B,R,bs.1,rows,mode,rfl,st.box.rep,Rep.bL.mpr ⟨R,yJ,rfl,.of hR7,fR.HS⟩,bl,by lia,fun H8 s8=>(yK _ _).mpr (av fun U7 GX=>?_)⟩;clear yK;have ZT:=st.same s8;have kp8:=kp.same s8;generalize PG.number bs.1.length rows mode=k at *;walk_at "r";refine⟨D,S,sc,pp,rfl,ZT.bF,by lia,fun H9 u9 VN=>?_⟩;walk_at "r";refine(GX _ _).mpr ?_;clear GX;have za:=ZT.draw u9 VN;have VT:=kp8.up u9 (by rw[VN.bF];simp);obtain⟨w0',w1'⟩:=jN sc pp;generalize afa:PG.next sc pp%12=way at *;have afb:0<=way/\way<12:=by lia
  clear st ZT s8 u9;have Fm:∀(dq:List yI),(∀x∈dq,H x.2.1=none/\H x.2.2=none)->∀z o,z≠D->H z=some o->z ∉ iE D P' R dq:=by
   intro dq hf z o nz e hz;simp only[iE,zag,za7] at hz;rcases hz with hz |rfl |rfl |⟨x,hx,hz⟩
   ·exact nz hz
   ·rw[e3] at e;cases e
   ·rw[e4] at e;cases e
   ·simp only[zaY,or_false] at hz;rcases hz with rfl |rfl
    ·rw[(hf x hx).1] at e;cases e
    ·rw[(hf x hx).2] at e;cases e
  have Bp:∀(vC:Hp) (w:Wd) (dq:List yI) (pq:Nat) (M:Hp->Prop),mC K vC D S sc pq B bs.1 P' R dq rows []->Kept D H vC->(∀Me,mC K Me D S sc pq B bs.1 P' R dq (rows++[(k,w)]) []->Kept D H Me->M Me)->
   WX K "list" (V.ref R) vC/\∀q,vC q=none->AJ (V.ref R) [V.ref q] (upd vC q (.lst [.int k,.str (gg w)])) fun _ H1=>M H1:=by
   intro vC w dq pq M sN GZ hM;obtain⟨rv,hr,_,lr⟩:=sN.rows;refine⟨.inl ⟨rfl,_,.of hr⟩,fun q hq=>?_⟩;have Sa:=sN.same (aq.new hq (.lst [.int k,.str (gg w)]));have Ss:=GZ.same (aq.new hq (.lst [.int k,.str (gg w)]));have VU:=aq.new hq (.lst [.int k,.str (gg w)]) _ _ hr;refine⟨R,rv,_,rfl,rfl,VU,by lia,hM _ (Sa.row VU (k:=k) (w:=w) (q:=q) ae fun z=>z.elim (sN.fresh hq) (by simp)) (Ss.put e4 _)⟩
  have lp:((f',a,b)::fr:List yI).reverse.map (fun x=>V.ref x.2.1)=(fr.reverse.map fun x=>V.ref x.2.1)++[.ref a]:=by rw[zbm,zaw];rfl
  have Su:∀(fs:List yI) z,O D P' R fs [] z->z∈iE D P' R fs:=fun fs z hz=>hz.elim id (by simp);refine AU fun V1 BQ=>?_;have c1:¬(way<2/\(f'::r).length>1)->V1 [some (V.ref D),some (V.int many),some (V.ref B),some (V.ref P'),some (V.ref R),some (V.int mode),some (V.int i),some (V.int k),some (V.int way),z9,BS,M9,Na,Nb,Nc] H9:=by
   intro h1;rw[zzn h1] at done Mx My Qu;refine BQ _ _ (AU fun V2 BR=>?_);have c2:¬(way=2/\f'.kind=1)->V2 [some (V.ref D),some (V.int many),some (V.ref B),some (V.ref P'),some (V.ref R),some (V.int mode),some (V.int i),some (V.int k),some (V.int way),z9,BS,M9,Na,Nb,Nc] H9:=by
    intro h2;rw[zzn h2] at done Mx My Qu;refine BR _ _ (AU fun V3 Si=>?_);have c3:¬(way<6/\(f'::r).length<4)->V3 [some (V.ref D),some (V.int many),some (V.ref B),some (V.ref P'),some (V.ref R),some (V.int mode),some (V.int i),some (V.int k),some (V.int way),z9,BS,M9,Na,Nb,Nc] H9:=by
     intro h3;rw[zzn h3] at done Mx My Qu;refine Si _ _ ?_;walk_at "r";have VW:=za.aX;rw[lp] at VW;obtain⟨hd,fi,xs,fa⟩:=za.frames _ (zaq ..);refine⟨1,rfl,bz (v:=.ref a) (.of VW) jw (bz (v:=.ref b) (.of fa.fr) (au (j:=1) rfl) ⟨.inl ⟨rfl,_,.of fa.bd⟩,?_⟩)⟩;refine⟨D,S,B,sc,pp+1,k,bs.1,rfl,za.bF,by lia,za.ay,fun v vC u10 Fi Sn=>?_⟩;have ou:=za.draw u10 Fi;have GZ:=VT.up u10 (by rw[Fi.bF];simp);obtain⟨hd2,fi2,Sv,ZU⟩:=ou.frames _ (zaq ..);have fv:Fix K (O D P' R ((f',a,b)::fr) []) vC (dH (bR sc bs.1 k (pp+1)).1) v:=Sn _ fun z hz=>za.qF z (Su _ z hz);have l2:Sv.length<=1000:=by have:=ZU.len;have:=ln.1 f' (by simp);simp only at *;lia
     refine⟨b,Sv,v,rfl,rfl,ZU.bd,by lia,?_⟩;have zb:=ou.stm ZU.bd fv;have Ss:=GZ.put (GY (f',a,b) (by simp)).2 (.lst (Sv++[v]));have ZV:Rep K (upd vC b (.lst (Sv++[v]))) (dH (bR sc bs.1 k (pp+1)).1) v:=(fv.up (ba.refl.put (.inl (by simp[iE])) _)).rep;have ZW:(upd vC b (.lst (Sv++[v]))) b=some (.lst (Sv++[v])):=ae;have VX:=zb.aX;obtain⟨MY,fi3,xs3,Xr⟩:=zb.frames _ (zaq ..);have ZX:=Xr.fr;generalize upd vC b (.lst (Sv++[v]))=Me at *;have pe:((({f' with body:=f'.body++[(bR sc bs.1 k (pp+1)).1]}:PG.Frame),a,b)::fr:List yI).reverse.map (fun x=>V.ref x.2.1)=(fr.reverse.map fun x=>V.ref x.2.1)++[.ref a]:=by rw[zbm,zaw];rfl
     rw[pe] at VX;obtain⟨ta,ys,rfl,Oy⟩:=KU _ ZV;have ar:=Bp Me (bR sc bs.1 k (pp+1)).1.wd _ _ (fun OP=>Pv (i+1) [some (V.ref D),some (V.int many),some (V.ref B),some (V.ref P'),some (V.ref R),some (V.int mode),some (V.int i),some (V.int k),some (V.int way),z9,BS,M9,Na,Nb,Nc] OP) zb Ss fun OP Dj VY=>done _ _ (fun _ zk=>zk _ _ _ _ _ _ _ _ _ _ rfl (by simp only[zal,ef]) Dj VY Mx My (by lia) (fun x hx=>by
      rcases zag.mp hx with rfl |hx
      ·exact GY (f',a,b) (by simp)
      ·exact GY x (by simp[hx])))
     exact⟨ar.1,1,rfl,bz (v:=.ref a) (.of VX) jw (bz (v:=.ref b) (.of ZX) (au (j:=1) rfl) ⟨1,rfl,bz (v:=.ref ta) (.of ZW) jw (aG Oy (au (j:=0) rfl) ar.2)⟩)⟩
    walk_at "r";refine b9 (fun w6=>⟨P',_,rfl,.inl (.of za.aX),b9 (fun l4=>?_) (fun l4=>c3 fun z=>l4 ?_)⟩) (fun w6=>(zzn zai).mpr (c3 fun z=>w6 z.1))
    ·rw[lp,zae,zad,zbh,ZS] at l4;have cond:way<6/\(f'::r).length<4:=⟨w6,by simp only[zah,zaA] at l4 ⊢;lia⟩
     rw[zzp cond] at done Mx My Qu;intro p1 Fd;have sN:=aq.new Fd (.lst [V.str (zab "if"),V.str (zab "if"),V.str (zab "while")]);have ou:=za.same sN;have GZ:=VT.same sN;have wk:∀z:Int,0<=z->z<3->tm [V.str (zab "if"),V.str (zab "if"),V.str (zab "while")] z=some (V.str (tQ (PG.pick 1 [1,1,3] z)))/\(PG.pick 1 [1,1,3] z=1\/PG.pick 1 [1,1,3] z=3):=fun z h0 h3=>by
      have z3:z=0\/z=1\/z=2:=by lia
      rcases z3 with rfl |rfl |rfl
      ·exact⟨au (j:=0) rfl,.inl rfl⟩
      ·exact⟨au (j:=1) rfl,.inl rfl⟩
      ·exact⟨au (j:=2) rfl,.inr rfl⟩
     obtain⟨wk1,wk2⟩:=wk (way%3) (by lia) (by lia);refine Cd wk1 ?_;generalize upd H9 p1 (.lst [V.str (zab "if"),V.str (zab "if"),V.str (zab "while")])=vC at *;generalize PG.pick 1 [1,1,3] (way%3)=kd at *;have wd:(if kd=3 then ("while":Str) else "if")=tQ kd/\gg (if kd=3 then Wd.fc else Wd.ifs)=tQ kd:=by
      rcases wk2 with rfl |rfl<;>exact⟨rfl,rfl⟩
     refine⟨D,S,sc,pp+1,rfl,ou.bF,by lia,fun Me u11 VZ=>?_⟩;have zb:=ou.draw u11 VZ;have Ss:=GZ.up u11 (by rw[VZ.bF];simp);obtain⟨m0,m1⟩:=jN sc (pp+1);walk_at "r";have sg:∀z:Int,0<=z->z<2->∃c,tm (zab "<=").cps.toList z=some c/\V.str ⟨#[c]⟩=V.str (L2.S (PG.pick [] BO z)):=fun z h0 h3=>by
      have z3:z=0\/z=1:=by lia
      rcases z3 with rfl |rfl
      ·exact⟨60,au (j:=0) (by decide +kernel),rfl⟩
      ·exact⟨61,au (j:=1) (by decide +kernel),rfl⟩
     obtain⟨c,hc,ec⟩:=sg (PG.next sc (pp+1)%2) (by lia) (by lia);refine⟨_,_,c,rfl,rfl,by decide,hc,?_⟩;rw[ec];obtain⟨g1,g2⟩:=jM sc bs.1 1 (pp+2);refine⟨D,S,B,sc,pp+2,1,bs.1,rfl,by lia,zb.bF,by lia,zb.ay,fun v3 OP TB V0 ZY=>?_⟩;have Dj:=zb.draw TB V0;have VY:=Ss.up TB (by rw[V0.bF];simp);have f3:Fix K (O D P' R ((f',a,b)::fr) []) OP (my (cD sc bs.1 1 (pp+2)).1) v3:=ZY _ fun z hz=>zb.qF z (Su _ z hz);obtain⟨g3,g4⟩:=jM sc bs.1 1 (cD sc bs.1 1 (pp+2)).2;refine⟨D,S,B,sc,_,1,bs.1,rfl,by lia,Dj.bF,by lia,Dj.ay,fun v4 Xm DJ V5 ZZ t0 ht0=>?_⟩;have Z0:=Dj.draw DJ V5;have k13:=VY.up DJ (by rw[V5.bF];simp);have f4:Fix K (O D P' R ((f',a,b)::fr) []) Xm (my (cD sc bs.1 1 (cD sc bs.1 1 (pp+2)).2).1) v4:=ZZ _ fun z hz=>Dj.qF z (Su _ z hz);have f3:=f3.up (ba.one DJ (.inl (by simp[iE])));generalize cD sc bs.1 1 (cD sc bs.1 1 (pp+2)).2=ge2 at *;generalize cD sc bs.1 1 (pp+2)=ge1 at *;generalize PG.pick [] BO (PG.next sc (pp+1)%2)=sgn at *;have Sd:=aq.new ht0 (.tup [V.str (L2.S sgn),v3,v4]);have Qn:(upd Xm t0 (.tup [V.str (L2.S sgn),v3,v4])) t0=some (.tup [V.str (L2.S sgn),v3,v4]):=ae;have OZ:=Z0.same Sd;have Y5:=k13.same Sd;have f3:=f3.up (.of Sd);have f4:=f4.up (.of Sd);generalize upd Xm t0 (.tup [V.str (L2.S sgn),v3,v4])=Zt at *;refine⟨.inl ⟨rfl,_,.of OZ.aX⟩,fun b2 sI=>?_⟩;have OQ:=aq.new sI (.lst []);have Mz:=OZ.more sI (.lst []);have f3:=f3.apart (o:=.lst []) sI;have f4:=f4.apart (o:=.lst []) sI;have VO:b2 ∉ iE D P' R ((f',a,b)::fr):=OZ.fresh sI;have Sw:S≠b2:=ai OZ.bF.fY sI;have G0:(upd Zt b2 (.lst [])) b2=some (.lst []):=ae;have Xs:=Y5.same OQ;have Sx:H b2=none:=by
      cases z:H b2 with
      |none=>rfl
      |some o=>exact zzb sI (Y5.2 b2 (by rw[z];simp))
     have Qn:=OQ _ _ Qn;generalize upd Zt b2 (.lst [])=Qo at *;intro t1 O0;have OR:=aq.new O0 (.tup [V.str (tQ kd),V.int k]);have y16:(upd Qo t1 (.tup [V.str (tQ kd),V.int k])) t1=some (.tup [V.str (tQ kd),V.int k]):=ae;have V6:=Mz.same OR;have k16:=Xs.same OR;have f3:=f3.up (.of OR);have f4:=f4.up (.of OR);have G0:=OR _ _ G0;have Qn:=OR _ _ Qn;generalize upd Qo t1 (.tup [V.str (tQ kd),V.int k])=VC at *;refine Bm y16 Qn (by simp) (by simp) fun t2 Xt=>?_;have V7:=aq.new Xt (.tup ([V.str (tQ kd),V.int k]++[V.str (L2.S sgn),v3,v4]));have Xu:(upd VC t2 (.tup ([V.str (tQ kd),V.int k]++[V.str (L2.S sgn),v3,v4]))) t2=some (.tup ([V.str (tQ kd),V.int k]++[V.str (L2.S sgn),v3,v4])):=ae;have Sy:=V6.same V7;have k17:=k16.same V7;have f3:=f3.up (.of V7);have f4:=f4.up (.of V7);have nt2:t2 ∉ iE D P' R ((f',a,b)::fr):=V6.fresh Xt;have Z1:t2≠b2:=fun z=>by rw[z,G0] at Xt;cases Xt
     have G0:=V7 _ _ G0;generalize upd VC t2 (.tup ([V.str (tQ kd),V.int k]++[V.str (L2.S sgn),v3,v4]))=H17 at *;intro a2 zc;have Sz:=aq.new zc (.lst [V.str (tQ kd),V.ref b2,V.ref t2,V.cC]);have MA:=Sy.more zc (.lst [V.str (tQ kd),V.ref b2,V.ref t2,V.cC]);have f3:=f3.apart (o:=.lst [V.str (tQ kd),V.ref b2,V.ref t2,V.cC]) zc;have f4:=f4.apart (o:=.lst [V.str (tQ kd),V.ref b2,V.ref t2,V.cC]) zc;have Z2:a2 ∉ iE D P' R ((f',a,b)::fr):=Sy.fresh zc;have SA:S≠a2:=ai Sy.bF.fY zc;have SD:a2≠b2:=fun z=>by rw[z,G0] at zc;cases zc
     have Z3:t2≠a2:=ai Xu zc;have Z4:(upd H17 a2 (.lst [V.str (tQ kd),V.ref b2,V.ref t2,V.cC])) a2=some (.lst [V.str (tQ kd),V.ref b2,V.ref t2,V.cC]):=ae;have Z5:=k17.same Sz;have SE:H a2=none:=by
      cases z:H a2 with
      |none=>rfl
      |some o=>exact zzb zc (k17.2 a2 (by rw[z];simp))
     have G0:=Sz _ _ G0;have Xu:=Sz _ _ Xu;generalize upd H17 a2 (.lst [V.str (tQ kd),V.ref b2,V.ref t2,V.cC])=Z6 at *;have j:∀z,O D P' R ((f',a,b)::fr) [a2,b2] z->((O D P' R ((f',a,b)::fr) [] z\/z=b2)\/z=a2):=fun z hz=>by
      rcases hz with h |h
      ·exact .inl (.inl (.inl h))
      ·simp only[zag,zaY,or_false] at h;rcases h with h |h
       ·exact .inr h
       ·exact .inl (.inr h)
     have nf:fk K (O D P' R ((f',a,b)::fr) [a2,b2]) Z6 ({kind:=kd,body:=[],k:=k,sg:=sgn,l:=ge1.1,r:=ge2.1}:PG.Frame) a2 b2 (.ref t2) .cC []:=by
      refine⟨Z4,G0,.nil,fun _=>⟨t2,_,rfl,Xu,fun z=>?_,?_⟩,fun z=>?_,rfl⟩
      ·rcases z with z |z
       ·exact nt2 z
       ·simp only[zag,zaY,or_false] at z;exact z.elim Z3 Z1
      ·show eI K _ _ [.str (if kd=3 then "while" else "if"),.int k,.str (L2.S sgn),my ge1.1,my ge2.1] _;rw[wd.1];exact .cons .str (.cons .int (.cons .str (.cons (f3.sub j) (.cons (f4.sub j) .nil))))
      ·have z:kd=2:=z;lia
     have SF:=(MA.push nf Z2 VO SD SA Sw (by simp) (by simp)).less (E':=[]) (fun z hz=>zzb hz (by simp));have Z7:=Z5.put e3 (.lst (((f',a,b)::fr:List yI).reverse.map (fun x=>V.ref x.2.1)++[.ref a2]));refine⟨P',_,_,rfl,rfl,MA.aX,by rw[zad,zbh];have:=ok.most;simp only[zah] at this ⊢;lia,?_⟩;have ar:=Bp _ (if kd=3 then Wd.fc else Wd.ifs) _ _ (fun V8=>Pv (i+1) [some (V.ref D),some (V.int many),some (V.ref B),some (V.ref P'),some (V.ref R),some (V.int mode),some (V.int i),some (V.int k),some (V.int way),z9,BS,M9,Na,some (V.str (tQ kd)),some (V.ref t0)] V8) SF Z7 fun V8 SG Z8=>done _ _ (fun _ zk=>zk _ _ _ _ _ _ _ _ _ _ rfl (by simp only[zal,ef]) SG Z8 Mx My (by lia) (fun x hx=>by
      rcases zag.mp hx with rfl |hx
      ·exact⟨SE,Sx⟩
      ·exact GY x hx))
     rw[wd.2] at ar;exact ar
    ·rw[lp,zae,zad,zbh,ZS];have:=z.2;simp only[zah,zaA] at this ⊢;lia
   walk_at "r";have VW:=za.aX;rw[lp] at VW;obtain⟨Nd,fi0,Vj,ZD⟩:=za.frames _ (zaq ..);have kk:(V.str (tQ f'.kind)=V.str (zab "if"))↔f'.kind=1:=by
    have:f'.kind=0\/f'.kind=1\/f'.kind=2\/f'.kind=3:=by
     have z:=ok.aX;cases r with
     |nil=>exact .inl z
     |cons g r2=>exact .inr z.1
    rcases this with h |h |h |h<;>rw[h]<;>decide +kernel
   refine b9 (fun w2=>⟨1,rfl,bz (v:=.ref a) (.of VW) jw (bz (v:=.str (tQ f'.kind)) (.of ZD.fr) (au (j:=0) rfl) ⟨rfl,b9 (fun kf=>?_) (fun kf=>c2 fun z=>kf (kk.mpr z.2))⟩)⟩) (fun w2=>(zzn zai).mpr (c2 fun z=>w2 z.1));have kd1:=kk.mp kf;rw[zzp ⟨w2,kd1⟩] at done Mx My Qu;obtain⟨ou,⟨hd,fi,xs,fa⟩,na,nb,RC⟩:=za.pop;have GZ:=VT.put e3 (.lst (fr.reverse.map fun x=>V.ref x.2.1));refine⟨.inl ⟨rfl,_,.of za.aX⟩,P',_,.ref a,rfl,rfl,za.aX,by rw[lp];simp,?_⟩;rw[lp,zcr];generalize upd H9 P' (.lst (fr.reverse.map fun x=>V.ref x.2.1))=vC at *;obtain⟨cc,ys,rfl,yG,Qd,TC⟩:=fa.HU (by lia);have Fj:∀z,O D P' R fr [] z->O D P' R fr [a,b] z:=fun z hz=>hz.elim .inl fun w=>zzb w (by simp);have ou:=ou.less (E':=[]) (fun z hz=>zzb hz (by simp));have TC:=TC.sub Fj;have Qd:¬O D P' R fr [] cc:=fun z=>Qd (Fj cc z);have VP:Fix K (O D P' R fr []) vC (.lst (f'.body.map dH)) (.ref b):=Fix.lst fa.bd (fun z=>z.elim nb (by simp)) (fa.ok.sub Fj);refine⟨a,_,rfl,.of fa.fr,rfl,_,_,rfl,_,_,rfl,_,_,rfl,_,_,rfl,rfl,.inl ⟨rfl,_,.of ou.aX⟩,fun b2 sI=>?_⟩;have OQ:=aq.new sI (.lst []);have Mz:=ou.more sI (.lst []);have f3:=TC.apart (o:=.lst []) sI;have f4:=VP.apart (o:=.lst []) sI;have VO:b2 ∉ iE D P' R fr:=ou.fresh sI;have Sw:S≠b2:=ai ou.bF.fY sI;have G0:(upd vC b2 (.lst [])) b2=some (.lst []):=ae;have Xs:=GZ.same OQ;have Sx:H b2=none:=by
    cases z:H b2 with
    |none=>rfl
    |some o=>exact zzb sI (GZ.2 b2 (by rw[z];simp))
   have ncb:cc≠b2:=ai yG sI;have yG:=OQ _ _ yG;generalize upd vC b2 (.lst [])=Qo at *;intro a2 zc;have Sz:=aq.new zc (.lst [V.str (zab "else"),V.ref b2,V.ref cc,V.ref b]);have MA:=Mz.more zc (.lst [V.str (zab "else"),V.ref b2,V.ref cc,V.ref b]);have f3:=f3.apart (o:=.lst [V.str (zab "else"),V.ref b2,V.ref cc,V.ref b]) zc;have f4:=f4.apart (o:=.lst [V.str (zab "else"),V.ref b2,V.ref cc,V.ref b]) zc;have Z2:a2 ∉ iE D P' R fr:=Mz.fresh zc;have SA:S≠a2:=ai Mz.bF.fY zc;have SD:a2≠b2:=fun z=>by rw[z,G0] at zc;cases zc
   have nca:cc≠a2:=ai yG zc;have Z4:(upd Qo a2 (.lst [V.str (zab "else"),V.ref b2,V.ref cc,V.ref b])) a2=some (.lst [V.str (zab "else"),V.ref b2,V.ref cc,V.ref b]):=ae;have Z5:=Xs.same Sz;have SE:H a2=none:=by
    cases z:H a2 with
    |none=>rfl
    |some o=>exact zzb zc (Xs.2 a2 (by rw[z];simp))
   have G0:=Sz _ _ G0;have yG:=Sz _ _ yG;generalize upd Qo a2 (.lst [V.str (zab "else"),V.ref b2,V.ref cc,V.ref b])=Z6 at *;have j:∀z,O D P' R fr [a2,b2] z->((O D P' R fr [] z\/z=b2)\/z=a2):=fun z hz=>by
    rcases hz with h |h
    ·exact .inl (.inl (.inl h))
    ·simp only[zag,zaY,or_false] at h;rcases h with h |h
     ·exact .inr h
     ·exact .inl (.inr h)
   have nf:fk K (O D P' R fr [a2,b2]) Z6 ({f' with kind:=2,body:=[],first:=f'.body}:PG.Frame) a2 b2 (.ref cc) (.ref b) []:=by
    refine⟨Z4,G0,.nil,fun _=>⟨cc,ys,rfl,yG,fun z=>?_,?_⟩,fun _=>f4.sub j,rfl⟩
    ·rcases j cc z with (z |z) |z
     ·exact Qd z
     ·exact ncb z
     ·exact nca z
    ·have f5:=f3.sub j;rw[zzn (by lia)] at f5;exact f5
   have SF:=(MA.push nf Z2 VO SD SA Sw (by simp) (by simp)).less (E':=[]) (fun z hz=>zzb hz (by simp));have Z7:=Z5.put e3 (.lst ((fr.reverse.map fun x=>V.ref x.2.1)++[.ref a2]));refine⟨P',_,_,rfl,rfl,MA.aX,by rw[zad,zbh];have:=ok.most;simp only[zah] at this ⊢;lia,?_⟩;exact Bp _ .oQ _ _ (fun V8=>Pv (i+1) [some (V.ref D),some (V.int many),some (V.ref B),some (V.ref P'),some (V.ref R),some (V.int mode),some (V.int i),some (V.int k),some (V.int way),some (V.str (tQ f'.kind)),some (V.ref b),some (V.ref cc),some fi,Nb,Nc] V8) SF Z7 fun V8 SG Z8=>done _ _ (fun _ zk=>zk _ _ _ _ _ _ _ _ _ _ rfl (by simp only[zal,ef]) SG Z8 Mx My (by lia) (fun x hx=>by
    rcases zag.mp hx with rfl |hx
    ·exact⟨SE,Sx⟩
    ·exact GY x (by simp[hx])))
  walk_at "r";refine b9 (fun w2=>⟨P',_,rfl,.inl (.of za.aX),b9 (fun l2=>?_) (fun l2=>c1 fun z=>l2 ?_)⟩) (fun w2=>(zzn zai).mpr (c1 fun z=>w2 z.1))
  ·rw[lp,zae,zad,zbh] at l2;cases fr with
   |nil=>simp at l2
   |cons x1 Xv=>
    obtain⟨g,a',b'⟩:=x1;cases r with
    |nil=>cases ef
    |cons g' r2=>
    simp only[zal,zdi.injEq] at ef;obtain⟨rfl,ef⟩:=ef;have cond:way<2/\(f'::g::r2).length>1:=⟨w2,by simp⟩
    rw[zzp cond] at done Mx My Qu;have m4:=ok.most;simp only[zah] at m4 ZS;refine⟨D,S,sc,pp+1,B,bs.1,P',R,f',g,a,b,a',b',Xv,rows,rfl,za,ok.aX.1,by have:=ln.1 g (by simp);lia,by lia,fun vC Tw Ms ou=>?_⟩;have GZ:Kept D H vC:=⟨fun z o nz e=>Ms z o (Fm _ GY z o nz e) (VT.1 z o nz e),fun z hz=>Tw z (VT.2 z hz)⟩
    refine Bp vC .fin _ _ _ ou GZ fun Me zb Ss=>done _ _ (fun _ zk=>zk _ _ _ _ _ _ _ _ _ _ rfl ?_ zb Ss Mx My (by lia) (fun x hx=>?_))
    ·simp only[zal,ef];rfl
    ·rcases zag.mp hx with rfl |hx
     ·exact GY (g,a',b') (by simp)
     ·exact GY x (by simp[hx])
  ·rw[lp,zae,zad,zbh];have:=z.2;simp only[zah,zaA] at this ⊢;lia
 ·intro σ H7 hv;refine dQ _ _ _ hv _ fun z6 z7 z8 z9 BS M9 Na Nb Nc dq kW ef st kp ok ln pb GY=>?_;subst kW;clear hv;generalize PG.turns sc bs.1 mode many w0=wk at *;show U5 _ H7;refine(uv _ _).mpr (av fun U6 yK=>?_);walk_at "r";refine⟨fun m σ H8=>∃(dq:List yI) (wY:PG.Walk),σ=[some (V.ref D),some (V.int many),some (V.ref B),some (V.ref P'),some (V.ref R),some (V.int mode),z6,z7,z8,z9,BS,M9,Na,Nb,Nc]/\dq.map (·.1)=wY.aX/\mC K H8 D S sc wY.p B bs.1 P' R dq wY.rows []/\Kept D H H8/\dC wY/\pj (many+4-m) wY/\
   PG.ends bs.1.length mode 4 wk=PG.ends bs.1.length mode m wY/\wY.aX.length<=m+1/\m<=4/\wY.p<=90000/\∀x∈dq,H x.2.1=none/\H x.2.2=none,⟨4,dq,wk,rfl,ef,st,kp,ok,by rw[show many+4-4=many by lia];exact ln,rfl,by have:=ok.most;lia,zaf _,by lia,GY⟩,?_⟩
  rintro m σ H8 ⟨dq,wY,rfl,ef,st,kp,ok,ln,ee,pl,m4,pbw,GY⟩
  walk_at "r";refine⟨P',_,rfl,.inl (.of st.aX),?_⟩;rw[zad,zbh];have lf:dq.length=wY.aX.length:=by rw[<- ef,zad]
  refine b9 (fun l1=>?_) (fun l1=>?_)
  ·obtain⟨n,rfl⟩:∃n,m=n+1:=⟨m-1,by lia⟩
   refine⟨fun σ H9=>∃(dq:List yI),σ=[some (V.ref D),some (V.int many),some (V.ref B),some (V.ref P'),some (V.ref R),some (V.int mode),z6,z7,z8,z9,BS,M9,Na,Nb,Nc]/\dq.map (·.1)=PG.close wY.aX/\mC K H9 D S sc wY.p B bs.1 P' R dq (wY.rows++[(PG.number bs.1.length wY.rows mode,.fin)]) []/\Kept D H H9/\∀x∈dq,H x.2.1=none/\H x.2.2=none,?_,?_⟩
   ·rintro σ H9 ⟨Z9,rfl,ef9,za,k9,fr9⟩
    obtain⟨_,cl⟩:=pd ok.aX;refine⟨n,by lia,Z9,⟨wY.p,PG.close wY.aX,wY.rows++[(PG.number bs.1.length wY.rows mode,.fin)]⟩,rfl,ef9,za,k9,xu ok _,?_,?_,?_,by lia,pbw,fr9⟩
    ·have:=zL ln (PG.number bs.1.length wY.rows mode);rw[show many+4-n=many+4-(n+1)+1 by lia];exact this
    ·rw[ee]
     conv=>lhs;unfold PG.ends
     rw[zzp (by lia)]
    ·show (PG.close wY.aX).length<=n+1;lia
   ·obtain⟨pp,aX,rows⟩:=wY;simp only at *;have rl:rows.length<=200:=by have:=ln.2;simp only at this;lia
    match dq,aX,ef,lf with
    |(f',a,b)::(g,a',b')::Xv,aX,ef,lf=>
     simp only[zal] at ef;subst ef;have m4':=ok.most;simp only[zah,zad] at m4';refine⟨D,S,sc,pp,B,bs.1,P',R,f',g,a,b,a',b',Xv,rows,rfl,st,ok.aX.1,by have:=ln.1 g (by simp);lia,by lia,fun vC Tw Ms ou=>?_⟩;have Fm:∀(dq:List yI),(∀x∈dq,H x.2.1=none/\H x.2.2=none)->∀z o,z≠D->H z=some o->z ∉ iE D P' R dq:=by
      intro dq hf z o nz e hz;simp only[iE,zag,za7] at hz;rcases hz with hz |rfl |rfl |⟨x,hx,hz⟩
      ·exact nz hz
      ·rw[e3] at e;cases e
      ·rw[e4] at e;cases e
      ·simp only[zaY,or_false] at hz;rcases hz with rfl |rfl
       ·rw[(hf x hx).1] at e;cases e
       ·rw[(hf x hx).2] at e;cases e
     have GZ:Kept D H vC:=⟨fun z o nz e=>Ms z o (Fm _ GY z o nz e) (kp.1 z o nz e),fun z hz=>Tw z (kp.2 z hz)⟩
     obtain⟨rv,V9,fR,lr⟩:=ou.rows;refine⟨.inl ⟨rfl,_,.of V9⟩,B,R,bs.1,rows,mode,rfl,ou.box.rep,Rep.bL.mpr ⟨R,rv,rfl,.of V9,fR.HS⟩,bl,by lia,fun Me Sa q2 hq2=>?_⟩;have Tv:=Sa.trans (aq.new hq2 (.lst [.int (PG.number bs.1.length rows mode),.str (gg .fin)]));have Dj:=ou.same Tv;have VY:=GZ.same Tv;have Wa:=Tv _ _ V9;refine⟨R,rv,_,rfl,rfl,Wa,by lia,?_⟩;have nq2:¬O D P' R (({g with body:=g.body++[f'.told]},a',b')::Xv) [] q2:=fun z=>z.elim ((ou.same Sa).fresh hq2) (by simp);refine⟨_,trivial,?_,Dj.row Wa (k:=PG.number bs.1.length rows mode) (w:=.fin) (q:=q2) ae nq2,VY.put e4 _,fun x hx=>?_⟩
     ·simp only[zal];rfl
     ·rcases zag.mp hx with rfl |hx
      ·exact GY (g,a',b') (by simp)
      ·exact GY x (by simp[hx])
  ·have en:PG.ends bs.1.length mode m wY=wY:=by
    cases m with
    |zero=>rfl
    |succ m=>unfold PG.ends;rw[zzn (by lia)]
   rw[en] at ee;rw[ee] at q;refine(yK _ _).mpr ?_;walk_at "r";obtain⟨pp,aX,rows⟩:=wY;simp only at *
   match dq,aX,ef,lf,ok,q with
   |[],aX,ef,lf,ok,q=>cases ef;exact ok.aX.elim
   |[(f',a,b)],aX,ef,lf,ok,q=>
    cases ef;obtain⟨hd,fi,xs,fa⟩:=st.frames _ (zaq ..);obtain⟨rv,V9,fR,lr⟩:=st.rows;refine bz (v:=.ref a) (.of st.aX) (au (j:=0) rfl) (bz (v:=.ref b) (.of fa.fr) (au (j:=1) rfl) fun t1 O0=>?_);have s9:=aq.new O0 (.tup [V.ref B,V.ref b]);have y9:(upd H8 t1 (.tup [V.ref B,V.ref b])) t1=some (.tup [V.ref B,V.ref b]):=ae;have za:=st.same s9;have k9:=kp.same s9;intro l2 Em;have sN:=aq.new Em (.lst [V.ref t1,V.ref R]);have GZ:=k9.same sN;have nD:∀z,z∈iE D P' R [(f',a,b)]->z≠D->¬(fun z=>z=D) z:=fun z _ n=>n;have ndl:=st.nd;simp only[iE,zaG,zbk,zav,zaE,zag,zaY,or_false,not_or] at ndl;have bnD:b≠D:=fun z=>ndl.1.2.2.2 z.symm;have RnD:R≠D:=fun z=>ndl.1.2.1 z.symm;have dD:=za.bF.bF;have t1D:t1≠D:=fun z=>by rw[z] at O0;rw[st.bF.bF] at O0;cases O0
    have l2D:l2≠D:=fun z=>by rw[z] at Em;rw[dD] at Em;cases Em
    have SH:∀z,z=D->O D P' R [(f',a,b)] [] z:=fun z e=>.inl (by rw[e];simp[iE]);have fB:=(za.box.sub SH).up (ba.of sN:ba (fun z=>z=D) _ _);have fBd:=((fa.ok.sub SH).up (ba.of s9:ba (fun z=>z=D) _ _)).up (ba.of sN:ba (fun z=>z=D) _ _);have fRw:=((fR.sub SH).up (ba.of s9:ba (fun z=>z=D) _ _)).up (ba.of sN:ba (fun z=>z=D) _ _);have BnD:B≠D:=fun z=>Qp (by rw[<- z];exact hB);exact q l2 t1 B b R _ GZ.1 ⟨_,pbw,za.bF.same sN⟩ ae (sN _ _ y9) l2D t1D BnD bnD RnD fB (Fix.lst (sN _ _ (s9 _ _ fa.bd)) bnD fBd) (Fix.lst (sN _ _ (s9 _ _ V9)) RnD fRw)
   |x::y::r,aX,ef,lf,ok,q=>exact zzb (by simp only[zah];lia) l1
theorem vE:∀s:bG,(V.str (gg s.wd)=V.str (zab "while"))↔s.wd=.fc:=by
 intro s;cases s<;>simp only[bG.wd]<;>decide +kernel
theorem Bq:∀s:bG,(V.str (gg s.wd)=V.str (zab "if"))↔s.wd=.ifs:=by
 intro s;cases s<;>simp only[bG.wd]<;>decide +kernel
theorem G1:∀s:bG,(V.str (gg s.wd)=V.str (zab "stop"))↔s.wd=.stop:=by
 intro s;cases s<;>simp only[bG.wd]<;>decide +kernel
theorem G2{K:zaa}{H:Hp}{d0 d1 d2 d3 d4 d5:Dp}{xs:List V}{ds:List Dp}(h:aN K H (d0::d1::d2::d3::d4::d5::ds) xs):∃v0 v1 v2 v3 v4 v5 r,xs=v0::v1::v2::v3::v4::v5::r/\Rep K H d5 v5/\aN K H ds r:=by
 rw[aN.aI] at h;obtain⟨v0,t0,rfl,_,h⟩:=h;rw[aN.aI] at h;obtain⟨v1,t1,rfl,_,h⟩:=h;rw[aN.aI] at h;obtain⟨v2,t2,rfl,_,h⟩:=h;rw[aN.aI] at h;obtain⟨v3,t3,rfl,_,h⟩:=h;rw[aN.aI] at h;obtain⟨v4,t4,rfl,_,h⟩:=h;rw[aN.aI] at h;obtain⟨v5,t5,rfl,e5,h⟩:=h;exact⟨v0,v1,v2,v3,v4,v5,t5,rfl,e5,h⟩
theorem ox(T:Tx K mg t):bJ P w K mg base dw 1 t.dW t.dX ["body", "behind"] (tR K):=by
 refine T.fh.F.lS ue (fun vs H Q E h=>?_) (fun eS A outer s H vs Q E hr h=>?_)
 ·obtain⟨_,_,_,rfl,_⟩:=h;rfl
 obtain⟨b,body,x,rfl,rb,lb,q⟩:=h;have nd:=ue.nd;refine⟨_,[some (V.ref b),some (V.int x)],(ah (bh (B3 (pv 0) (fun _=>rfl))
 (ak (aO (aC aM (aC a9 (pv 0) aj ao) aj ao)))
 aV)
 (ak (aO (pv 1)))),rfl,?_⟩
 walk_at "r";rw[Rep.bL] at rb;obtain⟨_,xs,e,hx,rs⟩:=rb;cases e;have line:zds=2 ^ 24:=rfl;cases body with
 |nil=>
  rw[za3,aN.br] at rs;subst rs;exact⟨false,.inl ⟨_,hx,rfl⟩,q⟩
 |cons st r=>
  rw[zal,aN.aI] at rs;obtain⟨v,t,rfl,rv,rs⟩:=rs;obtain⟨a,ys,rfl,hs⟩:=iq st rv;refine⟨true,.inl ⟨_,hx,rfl⟩,?_⟩;refine(zzp rfl).mpr (bz (v:=.ref a) hx (au (j:=0) rfl) ?_);exact aG hs (v:=.int st.row) (au (j:=1) rfl) q
theorem yq(T:Tx K mg t):bJ P w K mg base dw 1 t.fS t.gy ["statement", "after"] (CA K):=by
 refine T.jt.F.lS pU (fun vs H Q E h=>?_) (fun eS A outer s H vs Q E hr h=>?_)
 ·obtain⟨_,_,_,rfl,_⟩:=h;rfl
 obtain⟨v,st,x,rfl,rv,q⟩:=h;have nd:=pU.nd;refine⟨_,[some v,some (V.int x)],(ah (bh (aD bN (aC aM (pv 0) aj ao) aU (aR _))
 (ak (aO (aC aM (pv 0) aj ao)))
 aV)
 (ak (aO (pv 1)))),rfl,?_⟩
 obtain⟨a,ys,rfl,hs⟩:=iq st rv;walk_at "r";refine aG hs (au (j:=0) rfl) ⟨rfl,b9 (fun e=>?_) (fun e=>?_)⟩
 ·have ew:=(vE st).mp e;refine aG hs (v:=.int st.row) (au (j:=1) rfl) ?_;cases st<;>first |exact q |cases ew
 ·have ew:st.wd≠.fc:=fun z=>e ((vE st).mpr z);cases st<;>first |exact q |exact zzb rfl ew
theorem uH(T:Tx K mg t):bJ P w K mg base dw 1 t.gA t.gI ["statement"] (xF K):=by
 refine T.jG.F.lS uf (fun vs H Q E h=>?_) (fun eS A outer s H vs Q E hr h=>?_)
 ·obtain⟨_,_,_,rfl,_⟩:=h;rfl
 obtain⟨v,st,H0,rfl,rv,s0,q⟩:=h;have nd:=uf.nd;refine⟨_,[some v],(ah (bh (aD bN (aC aM (pv 0) aj ao) aU (aR _))
 (ak (aO (bu (ag (aC aM (pv 0) aj ao) (ag (aC aM (pv 0) aj ao) aa aY) aY))))
 aV)
 (ah (bh (aD bN (aC aM (pv 0) aj ao) aU (aR _))
 (ak (aO (bu (ag (aC aM (pv 0) aj ao) aa aY))))
 aV)
 (ak (aO (bu aa))))),rfl,?_⟩
 obtain⟨a,ys,rfl,hs⟩:=iq st rv;have hs:=s0.a7 hs;walk_at "r";refine aG hs (au (j:=0) rfl) ⟨rfl,b9 (fun e=>?_) (fun e=>aG hs (au (j:=0) rfl) ⟨rfl,b9 (fun e2=>?_) (fun e2=>?_)⟩)⟩
 ·have ew:=(Bq st).mp e;cases st<;>first |(exfalso;cases ew;done) |skip
  rename_i k sg l r x y;rw[dH,Rep.bg] at rv;obtain⟨_,xs,e0,hx,rs⟩:=rv;cases e0;obtain⟨v0,v1,v2,v3,v4,v5,rr,rfl,r5,rs⟩:=G2 rs;rw[aN.aI] at rs;obtain⟨v6,t6,rfl,r6,_⟩:=rs;refine aG (s0.a7 hx) (v:=v5) (au (j:=5) rfl) (aG (s0.a7 hx) (v:=v6) (au (j:=6) rfl) fun p hp=>?_);rw[fJ] at r5 r6;exact q p _ _ (aq.new hp _) hp ae (.cons r5 (.cons r6 .nil))
 ·have ew:=(vE st).mp e2;cases st<;>first |(exfalso;cases ew;done) |skip
  rename_i k sg l r x;rw[dH,Rep.bg] at rv;obtain⟨_,xs,e0,hx,rs⟩:=rv;cases e0;obtain⟨v0,v1,v2,v3,v4,v5,rr,rfl,r5,rs⟩:=G2 rs;refine aG (s0.a7 hx) (v:=v5) (au (j:=5) rfl) fun p hp=>?_;rw[fJ] at r5;exact q p _ _ (aq.new hp _) hp ae (.cons r5 .nil)
 ·intro p hp;have e1:st.wd≠.ifs:=fun z=>e ((Bq st).mpr z);have e2':st.wd≠.fc:=fun z=>e2 ((vE st).mpr z);refine q p [] _ (aq.new hp _) hp ae ?_;cases st<;>first |exact .nil |exact zzb rfl e1 |exact zzb rfl e2'
theorem Fn(T:Tx K mg t):bJ P w K mg base dw 2 t.ko t.kI ["statement", "after"] (KZ K):=by
 have eC:bJ P w K mg base dw 1 t.dW t.dX ["body", "behind"] (tR K):=ox T;refine T.qx.F.lS xY (fun vs H Q E h=>?_) (fun eS A outer s H vs Q E hr h=>?_)
 ·obtain⟨_,_,_,rfl,_⟩:=h;rfl
 obtain⟨v,st,x,rfl,rv,hl,q⟩:=h;have nd:=xY.nd;obtain⟨Md,yj,yk⟩:=T.Bi;refine⟨_,[some v,some (V.int x),none],(ah (c5 2 nd (aC aM (pv 0) aj ao))
 (ah (bh (aD bN (pv 2) aU (aR _))
 (ak (aO (aS (ag (qe rfl yj yk) aa jY))))
 aV)
 (ah (bh (aD bN (pv 2) aU (aR _))
 (ak (aO (aS (ag (da eC T.fh hr (ag (aC aM (pv 0) aj ao) (bc 1 aa) aY)) (ag (da eC T.fh hr (ag (aC aM (pv 0) aj ao) (bc 1 aa) aY)) aa bH) bH))))
 aV)
 (ah (bh (aD bN (pv 2) aU (aR _))
 (ak (aO (aS (ag (da eC T.fh hr (ag (aC aM (pv 0) aj ao) (ag (aC aM (pv 0) aj ao) aa aY) aY)) (bc 1 aa) bH))))
 aV)
 (ak (aO (aS (bc 1 aa)))))))),rfl,?_⟩
 obtain⟨a,ys,rfl,hs⟩:=iq st rv;refine av fun U1 eE=>?_;walk_at "r";refine aG hs (au (j:=0) rfl) ((eE _ _).mpr ?_);walk_at "r";have MB:∀b∈aK st,b.length<=100000:=hl;refine b9 (fun e=>?_) (fun e=>b9 (fun e1=>?_) (fun e1=>b9 (fun e2=>?_) (fun e2=>?_)))
 ·have ew:=(G1 st).mp (by rw[e]);cases st<;>first |(exfalso;cases ew;done) |skip
  intro p hp;exact q _ _ (aq.new hp _) (Rep.new hp (.cons (Rep.bt.mpr rfl) .nil))
 ·have ew:=(Bq st).mp (by rw[e1]);cases st<;>first |(exfalso;cases ew;done) |skip
  rename_i k sg l r y z;rw[dH,Rep.bg] at rv;obtain⟨_,xs,e0,hx,rs⟩:=rv;cases e0;obtain⟨v0,v1,v2,v3,v4,v5,rr,rfl,r5,rs⟩:=G2 rs;rw[aN.aI] at rs;obtain⟨v6,t6,rfl,r6,_⟩:=rs;rw[fJ] at r5 r6;obtain⟨a5,_,rfl,_⟩:=Rep.bL.mp r5;obtain⟨a6,_,rfl,_⟩:=Rep.bL.mp r6;refine aG hx (v:=.ref a5) (au (j:=5) rfl) ⟨a5,y,x,rfl,r5,MB y (by simp[aK]),aG hx (v:=.ref a6) (au (j:=6) rfl) ⟨a6,z,x,rfl,r6,MB z (by simp[aK]),fun p hp=>?_⟩⟩;exact q _ _ (aq.new hp _) (Rep.new hp (.cons (Rep.bt.mpr rfl) (.cons (Rep.bt.mpr rfl) .nil)))
 ·have ew:=(vE st).mp (by rw[e2]);cases st<;>first |(exfalso;cases ew;done) |skip
  rename_i k sg l r y;rw[dH,Rep.bg] at rv;obtain⟨_,xs,e0,hx,rs⟩:=rv;cases e0;obtain⟨v0,v1,v2,v3,v4,v5,rr,rfl,r5,rs⟩:=G2 rs;rw[fJ] at r5;obtain⟨a5,_,rfl,_⟩:=Rep.bL.mp r5;refine aG hx (v:=.ref a5) (au (j:=5) rfl) (aG hs (v:=.int k) (au (j:=1) rfl) ⟨a5,y,k,rfl,r5,MB y (by simp[aK]),fun p hp=>?_⟩);exact q _ _ (aq.new hp _) (Rep.new hp (.cons (Rep.bt.mpr rfl) (.cons (Rep.bt.mpr rfl) .nil)))
 ·intro p hp;have n1:st.wd≠.stop:=fun z=>e (V.str.inj ((G1 st).mpr z));have n2:st.wd≠.ifs:=fun z=>e1 (V.str.inj ((Bq st).mpr z));have n3:st.wd≠.fc:=fun z=>e2 (V.str.inj ((vE st).mpr z));have ew:pC st x=[x]:=by
   cases st<;>first |rfl |exact zzb rfl n1 |exact zzb rfl n2 |exact zzb rfl n3
  rw[ew] at q;exact q _ _ (aq.new hp _) (Rep.new hp (.cons (Rep.bt.mpr rfl) .nil))
theorem Ap{K:zaa}{H:Hp}:∀(n:Nat) {ds:List bG} {vs:List V},aN K H (ds.map dH) vs->aN K H ((ds.drop n).map dH) (vs.drop n)
 |0,_,_,h=>h
 |n+1,[],vs,h=>by
  rw[za3,aN.br] at h;subst h;exact .nil
 |n+1,d::ds,vs,h=>by
  rw[zal,aN.aI] at h;obtain⟨v,t,rfl,_,h⟩:=h;exact Ap n h
theorem MC(T:Tx K mg t){n:Nat}(kQ:bJ P w K mg base dw (n+2) t.dI t.dR ["body", "behind"] (wJ K n)) :
 bJ P w K mg base dw (n+3) t.dI t.dR ["body", "behind"] (wJ K (n+1)):=by
 have eC:bJ P w K mg base dw 1 t.dW t.dX ["body", "behind"] (tR K):=ox T;have IT:bJ P w K mg base dw 2 t.ko t.kI ["statement", "after"] (KZ K):=Fn T;have pY:bJ P w K mg base dw 1 t.gA t.gI ["statement"] (xF K):=uH T;have zd:bJ P w K mg base dw 1 t.fS t.gy ["statement", "after"] (CA K):=yq T;refine T.gD.F.lS oJ (fun vs H Q E h=>?_) (fun eS A outer s H vs Q E hr h=>?_)
 ·obtain⟨_,_,_,rfl,_⟩:=h;rfl
 obtain⟨b,body,x,rfl,rb,hd,hf,q⟩:=h;have nd:=oJ.nd;refine⟨_,[some (V.ref b),some (V.int x),none,none,none,none,none],(ah (c5 2 nd (bu aa))
 (ah (du PassesOwn.never rfl (Gd rfl T.lN (bc 0 aa)) (rH rfl (bM (lY 3 nd) (bM (lY 4 nd) iA)))
 (ah (c5 5 nd (da eC T.fh hr (ag (oV FW (pv 0) (sY (bf dP (pv 3) aj)) sX) (bc 1 aa) aY)))
 (ah (bK (dv zaj zan zao bD (pv 2) (ag (aS (ag (aC aM (pv 4) aj ao) (ag (aC aM (pv 4) aj ao) (ag (da IT T.qx hr (bc 4 (bc 5 aa))) aa bH) aY) aY)) aa bW)))
 (ak (du PassesOwn.never rfl (cI (da pY T.jG hr (bc 4 aa))) (lY 6 nd)
 (ak (bK (dv zaj zb3 zb4 uO (pv 2) (ag (da kQ T.gD hr (bc 6 (ag (da zd T.jt hr (bc 4 (bc 5 aa))) aa bH))) aa bH)))))))))
 (ak (aO (pv 2))))),rfl,?_⟩
 have line:zds=2 ^ 24:=rfl;rw[Rep.bL] at rb;obtain⟨_,xs,e,hx,rs⟩:=rb;cases e;have lx:xs.length=body.length:=by rw[rs.length,zad]
 have lb:=km body;refine av fun U1 eE=>?_;walk_at "r";intro tl BU;have s1:=aq.new BU (.lst []);have y1:(upd H tl (.lst [])) tl=some (.lst []):=ae;generalize upd H tl (.lst [])=H1 at *;refine(eE _ _).mpr (av fun U2 gk=>?_);clear eE;walk_at "r";obtain⟨Pv,mh,dQ⟩:=xW fun (i:Nat) (σ:St) (H2:Hp) zq=>∀(z3 z4 z5 z6:Option V) (pre:List dM) (us:List V),σ=[some (V.ref b),some (V.int x),some (V.ref tl),z3,z4,z5,z6]->aq H H2->H2 tl=some (.lst us)->eI K (·=tl) H2 (pre.map eJ) us->us.length=pre.length->pre++aQ (body.drop i) x=aQ body x->zq;refine⟨_,rfl,⟨xs,s1.seq hx⟩,Cf (K:=K) (a:=b) (xs:=xs) Pv ((mh _ _ _ fun _ zk=>zk none none none none [] [] rfl s1 y1 .nil rfl rfl)) (fun i σ H2 _ hv=>?_) ?_ ?_⟩
 ·refine dQ _ _ _ hv _ fun _ _ _ _ _ _ _ s2 _ _ _ _=>?_;exact s2.seq hx
 ·intro i y σ H2 tp hi hv Xw;refine dQ _ _ _ hv _ fun z3 z4 z5 z6 pre us kU s2 y2 f2 lu ep=>?_;subst kU;clear hv;have done:=fun σ H7=>mh (i+1) σ H7;have li:i<body.length:=by have:=(zak.mp hi).1;lia
  obtain⟨v,hv,rv⟩:=rs.get (i:=i) (d:=dH body[i]) (by rw[zam,zac li];rfl);rw[hi] at hv;cases hv;have ed:body.drop i=body[i]::body.drop (i+1):=zbH li;rw[ed,aQ,KW] at ep;have mem:body[i]∈body:=zau li;obtain⟨fm,dm⟩:=qo body _ mem;generalize Tb:body[i]=st at *;have s3:=s2.trans (aq.new Xw (.tup [V.int i,y]));have n3:tl≠tp:=ai y2 Xw;have y3:=aq.new Xw (.tup [V.int i,y]) _ _ y2;have f3:=f2.up (.of (aq.new Xw (.tup [V.int i,y])));have t3:(upd H2 tp (.tup [V.int i,y])) tp=some (.tup [V.int i,y]):=ae;generalize upd H2 tp (.tup [V.int i,y])=H3 at *;obtain⟨sa,ys,rfl,hs⟩:=iq st rv;refine⟨tp,_,rfl,.of t3,rfl,_,_,rfl,_,_,rfl,rfl,?_⟩;refine av fun U3 i3=>?_;walk_at "r";refine⟨_,rfl,b,_,rfl,s3.seq hx,fun p4 v8=>?_⟩;have ec:jv xs (some ((i:Int)+1)) none=xs.drop (i+1):=by
   unfold jv;rw[HT.oU,show (i:Int)+1=((i+1:Nat):Int) by lia,HT.qf];rw[show min (i+1) xs.length=i+1 by lia];exact zbw (by rw[zbN];lia)
  rw[ec];have s4:=s3.trans (aq.new v8 (.lst (xs.drop (i+1))));have y4:=aq.new v8 (.lst (xs.drop (i+1))) _ _ y3;have f4:=f3.up (.of (aq.new v8 (.lst (xs.drop (i+1)))));have l4:(upd H3 p4 (.lst (xs.drop (i+1)))) p4=some (.lst (xs.drop (i+1))):=ae;generalize upd H3 p4 (.lst (xs.drop (i+1)))=H4 at *;have rd4:Rep K H4 (.lst ((body.drop (i+1)).map dH)) (.ref p4):=Rep.bL.mpr ⟨p4,_,rfl,.of l4,Ap (i+1) (rs.mono s4)⟩;refine⟨p4,body.drop (i+1),x,rfl,rd4,by rw[zbN];lia,(i3 _ _).mpr (av fun U4 kg=>?_)⟩;clear i3;generalize bj (body.drop (i+1)) x=af at *;have hs4:=(show bQ K H4 sa _ from s4.a7 hs)
  walk_at "r";refine⟨.inl ⟨rfl,_,.of y4⟩,aG hs4 (v:=.int st.row) (au (j:=1) rfl) (aG hs4 (v:=.str (gg st.wd)) (au (j:=0) rfl) ?_)⟩;have sh:KY st:=fun bb Ze=>by
   have:=(j3 st bb Ze).1;have:=km bb;lia
  refine⟨.ref sa,st,af,rfl,rv.mono s4,sh,fun u H5 s5 ru p6 i5=>?_⟩;have y5:=s5 _ _ y4;have f5:=f4.up (.of s5);have fu:Fix K (·=tl) H5 (.tup ((pC st af).map .int)) u:=RD y5 (by rw[HW];exact ve _) ru;have n6:p6≠tl:=(ai y5 i5).symm;have s6:=aq.new i5 (.tup [V.int st.row,V.str (gg st.wd),u]);have ft:Fix K (·=tl) (upd H5 p6 (.tup [V.int st.row,V.str (gg st.wd),u])) (eJ (st.row,st.wd,pC st af)) (.ref p6):=Fix.tup ae n6 (.cons .int (.cons .str (.cons (fu.up (.of s6)) .nil)));have f6:=f5.up (.of s6);have y6:=s6 _ _ y5;have s46:=(s4.trans s5).trans s6;generalize upd H5 p6 (.tup [V.int st.row,V.str (gg st.wd),u])=H6 at *;have Sk:pre.length<=1000:=by
   have h1:=congrArg za6 ep;have h2:=congrArg za6 (cY body x);simp only[zae,zad,zah] at h1 h2;lia
  refine⟨tl,us,_,rfl,rfl,y6,by lia,?_⟩;have s7:aq H (upd H6 tl (.lst (us++[V.ref p6]))):=fun z o e=>by rw[aw (ai e BU)];exact s46 z o e
  have f7:=(f6.snoc ft).up (ba.refl.put (O:=(·=tl)) rfl (.lst (us++[V.ref p6])));have y7:(upd H6 tl (.lst (us++[V.ref p6]))) tl=some (.lst (us++[V.ref p6])):=ae;generalize upd H6 tl (.lst (us++[V.ref p6]))=H7 at *;refine(kg _ _).mpr ?_;clear kg;refine fH fun U hU=>?_;walk_at "r";refine⟨.ref sa,st,H,rfl,rv,s7,fun l8 bv H8 s8 hl8 y8 r8=>⟨l8,rfl,⟨bv,.of y8⟩,hU _ _ ?_⟩⟩;have OY:bv.length=(aK st).length:=by rw[r8.length,zad]
  have l8t:l8≠tl:=fun z=>by rw[z,y7] at hl8;cases hl8
  obtain⟨Pw,yr,jI⟩:=xW fun (j:Nat) (σ:St) (H9:Hp) zq=>∀(z6:Option V) (us:List V) (Dl:List dM),σ=[some (V.ref b),some (V.int x),some (V.ref tl),some (V.int i),some (V.ref sa),some (V.int af),z6]->aq H H9->(∀z o,z≠tl->H8 z=some o->H9 z=some o)->H9 tl=some (.lst us)->eI K (·=tl) H9 (Dl.map eJ) us->us.length=Dl.length->Dl++((aK st).drop j).flatMap (fun bb=>aQ bb (iG st af))=pre++(st.row,st.wd,pC st af)::(aK st).flatMap (fun bb=>aQ bb (iG st af))->zq;refine fG (K:=K) (a:=l8) (xs:=bv) Pw ((yr _ _ _ fun _ zk=>zk z6 _ (pre++[(st.row,st.wd,pC st af)]) rfl (s7.trans s8) (fun z o _ e=>e) (s8 _ _ y7) (by rw[zaw];exact f7.up (.of s8)) (by simp[lu]) (by simp))) (fun j σ H9 _ hv=>?_) ?_ ?_
  ·refine jI _ _ _ hv _ fun _ _ _ _ _ k9 _ _ _ _=>?_;exact .of (k9 _ _ l8t y8)
  ·intro j y σ H9 hj hv;refine jI _ _ _ hv _ fun z6' wt Dl kU s9 k9 y9 f9 lu9 e9=>?_;subst kU;clear hv;have lj:j<(aK st).length:=by have:=(zak.mp hj).1;lia
   obtain⟨v,hv,rb⟩:=r8.get (i:=j) (d:=.lst ((aK st)[j].map dH)) (by rw[zam,zac lj];rfl);rw[hj] at hv;cases hv;have mj:(aK st)[j]∈aK st:=zau lj;obtain⟨fb,db⟩:=j3 st _ mj;have ej:(aK st).drop j=(aK st)[j]::(aK st).drop (j+1):=zbH lj;rw[ej,zaG] at e9;generalize (aK st)[j]=bb at *;obtain⟨ab,_,rfl,_⟩:=Rep.bL.mp rb;walk_at "r";refine⟨.inl ⟨rfl,_,.of y9⟩,.ref sa,st,af,rfl,rv.mono s9,?_⟩;refine⟨ab,bb,_,rfl,rb.mono s9,by lia,by lia,fun Xk O3 vC sN Zq Xl Tu=>?_⟩;have Wb:=sN _ _ y9;have f10:=f9.up (.of sN);have g10:eI K (·=tl) vC ((aQ bb (iG st af)).map eJ) O3:=Gp Wb (vf _) Tu;have Xk:O3.length=(aQ bb (iG st af)).length:=by rw[Tu.length,zad]
   have tot:Dl.length+(aQ bb (iG st af)).length<=2000:=by
    have h1:=congrArg za6 e9;have h2:=congrArg za6 ep;have h3:=congrArg za6 (cY body x);simp only[zae,zad,zah] at h1 h2 h3;lia
   refine⟨tl,_,wt,O3,rfl,rfl,Wb,Xl,by lia,?_⟩;refine(yr _ _ _ fun _ zk=>zk _ (wt++O3) (Dl++aQ bb (iG st af)) rfl (fun z o e=>?_) (fun z o nz e=>?_) ae ?_ (by simp[lu9,Xk]) (by rw[<- e9];simp))
   ·rw[aw (ai e BU)];exact sN _ _ (s9 _ _ e)
   ·rw[aw nz];exact sN _ _ (k9 z o nz e)
   ·rw[zaw];exact(uC f10 g10).up (ba.refl.put (O:=(·=tl)) rfl _)
  ·intro σ H9 hv;refine jI _ _ _ hv _ fun z6' wt Dl kW s9 k9 y9 f9 lu9 e9=>?_;subst kW;rw[OY,List.drop_length,zbk,zav] at e9;refine done _ _ (fun _ zk=>zk _ _ _ _ Dl wt rfl s9 y9 f9 lu9 ?_);rw[e9,<- ep];simp
 ·intro σ H2 hv;refine dQ _ _ _ hv _ fun z3 z4 z5 z6 pre us kW s2 y2 f2 lu ep=>?_;subst kW;rw[lx,List.drop_length,aQ,zav] at ep;refine(gk _ _).mpr ?_;walk_at "r";rw[ep] at f2;exact q tl us H2 s2 BU y2 f2.HS
theorem Aq(T:Tx K mg t):∀n,bJ P w K mg base dw (n+2) t.dI t.dR ["body", "behind"] (wJ K n)
 |0=>by
  have no:∀vs H Q E,¬wJ K 0 vs H Q E:=fun vs H Q E h=>by obtain⟨_,_,_,_,_,h,_⟩:=h;lia
  exact⟨fun vs H Q E h=>zzb h (no vs H Q E),fun A outer s H args us vs Q E _ _ _ _ h=>zzb h (no vs H Q E)⟩
 |n+1=>MC T (Aq T n)
theorem G3(T:Tx K mg t):bJ P w K mg base dw 7 t.sf t.qw ["program"] (EB K):=by
 have kQ:=@Aq P w _ _ base _ T 4;refine T.yc.F.lS GR (fun vs H Q E h=>?_) (fun eS A outer s H vs Q E hr h=>?_)
 ·obtain⟨_,_,rfl,_⟩:=h;rfl
 obtain⟨v,pr,rfl,rp,hd,hf,q⟩:=h;have nd:=GR.nd;obtain⟨Md,yj,yk⟩:=T.Bi;refine⟨_,[some v],(ak (aO (da kQ T.gD hr (ag (aC aM (pv 0) aj ao) (ag (qe rfl yj yk) aa jY) aY)))),rfl,?_⟩;unfold je at rp;rw[Rep.bg] at rp;obtain⟨a,xs,rfl,hx,rs⟩:=rp;rw[aN.aI] at rs;obtain⟨v1,t1,rfl,r1,rs⟩:=rs;rw[aN.aI] at rs;obtain⟨v2,t2,rfl,r2,rs⟩:=rs;obtain⟨b,_,rfl,_⟩:=Rep.bL.mp r2;walk_at "r";refine aG hx (v:=.ref b) (au (j:=1) rfl) ?_;exact⟨b,pr.body,0,rfl,r2,by lia,hf,fun l us H' s' hl y r=>q l us H' s' hl y r⟩
theorem Br:∀w:Wd,(gg w=zab "else")↔w=.oQ:=by
 intro w;cases w<;>decide +kernel
theorem Bs:∀w:Wd,(gg w=zab "end")↔w=.fin:=by
 intro w;cases w<;>decide +kernel
theorem G4(T:Tx K mg t):bJ P w K mg base dw 1 t.jD t.j4 ["rows"] (RF K):=by
 refine T.jH.F.lS ui (fun vs H Q E h=>?_) (fun eS A outer s H vs Q E hr h=>?_)
 ·obtain⟨_,_,_,rfl,_⟩:=h;rfl
 obtain⟨R,rows,b,rfl,rr,lr,tx,q⟩:=h;have nd:=ui.nd;have hu:=dS hr;refine⟨_,[some (V.ref R),none,none,none,none],(ah (c5 1 nd xl)
 (ah (c5 2 nd (bu aa))
 (ah (du PassesOwn.never rfl (ik rfl T.ju (ag (bY bE rfl T.g8 PyProof.Rows.Boot.«len» (bc 0 aa)) aa bH)) (lY 3 nd)
 (ah (c5 4 nd (aC a9 (aC a9 (pv 0) (pv 3) k0) aj ao))
 (ak (bh (aD ja (pv 4) (aS (cQ (vs:=[.str "if",.str "while"]) (by kernel_rfl))) rfl)
 (ah (bK (dv zaj zan zao bD (pv 2) (bc 3 aa)))
 (ak (nh hu (pv 1) (pv 3) (bu (cQ (vs:=[.cC,.cC]) (by kernel_rfl))) rfl)))
 (ak (bh (aD bN (pv 4) aU (aR _))
 (ah (rJ (pv 3) (DR (cf hu (pv 1) (aC a9 (pv 2) (vI oS aj) vO) (fun _ _=>rfl)) aj set_list))
 (ak (nh hu (pv 1) (pv 3) (aC a9 (pv 2) (vI oS aj) vO) rfl)))
 (ak (bh (aD bN (pv 4) aU (aR _))
 (ah (nh hu (pv 1) (pv 3) (Ei zaj zcm zcn En (pv 2)) rfl)
 (ak (rJ (pv 3) (DR (cf hu (pv 1) (cf hu (pv 1) (pv 3) (fun _ _=>rfl)) (fun _ _=>rfl)) aj set_list))))
 aV))))))))
 (ak (aO (pv 1)))))),rfl,?_⟩
 have line:zds=2 ^ 24:=rfl;rw[Rep.bL] at rr;obtain⟨_,rv,e,hR,rr⟩:=rr;cases e;have Qs:rv.length=rows.length:=by rw[rr.length,zad]
 have safe:=zR b rows tx 0 (fun _=>none) [] (by simp);refine av fun U1 eE=>?_;walk_at "r";intro d hd;refine(eE _ _).mpr (av fun U2 gk=>?_);clear eE;walk_at "r";intro ol MZ;refine(gk _ _).mpr (av fun U3 i3=>?_);clear gk;have SI:ol≠d:=(ai ae MZ).symm;have SJ:H ol=none:=by
  cases z:H ol with
  |none=>rfl
  |some o=>rw[aq.new hd (.dK []) _ _ z] at MZ;cases MZ
 have t1:zW H d (fun _=>none) (fun _=>d) (upd (upd H d (.dK [])) ol (.lst [])) []:=⟨(aq.new hd _).trans (aq.new MZ _),hd,by rw[aw SI.symm];exact ae,fun p=>rfl,fun p e f z=>(by cases z),fun p q e f e' f' z=>(by cases z)⟩
 have y1:(upd (upd H d (.dK [])) ol (.lst [])) ol=some (.lst []):=ae;generalize upd (upd H d (.dK [])) ol (.lst [])=H1 at *;refine o8 fun U hU=>?_;walk_at "r";refine⟨R,rv,rfl,.inl (t1.s.seq hR),_,rfl,by lia,by lia,hU _ _ ?_⟩;clear hU;rw[show ((rv.length:Int)).toNat=rv.length from za1 _];have eF:∀i (hi:i<rows.length),PG.foldM 0 (rows.take (i+1)) (fun _=>none,[])=tM (PG.foldM 0 (rows.take i) (fun _=>none,[])) i rows[i].2:=fun i hi=>by
  rw[zaQ hi,jc,zbU,zcq (by lia),zbx];rfl
 obtain⟨Pv,mh,dQ⟩:=xW fun (i:Nat) (σ:St) (H3:Hp) zq=>∀(z3 z4:Option V) (m:Mm) (op:List Nat) (Af:Nat->zdk) (ax:List (Key×V)),σ=[some (V.ref R),some (V.ref d),some (V.ref ol),z3,z4]->PG.foldM 0 (rows.take i) (fun _=>none,[])=(m,op)->zW H d m Af H3 ax->ax.length<=i->H3 ol=some (.lst (op.reverse.map fun x:Nat=>V.int (x:Int)))->(∀p e f,m p=some (.op e f)->Af p≠ol)->op.length<=i->(∀x∈op,x<i)->zq;refine ki (lo:=0) (n:=rv.length) Pv ((mh _ _ _ fun _ zk=>zk none none _ [] _ [] rfl rfl t1 (zaf _) y1 (fun p e f z=>(by cases z)) (zaf _) (by simp))) (fun i σ H3 hi hv=>?_) (fun σ H3 hv=>?_)
 ·refine dQ _ _ _ hv _ fun z3 z4 m op Af ax kU ef ti lk yo no lo sl=>?_;subst kU;clear hv;have done:=fun σ H7=>mh (i+1) σ H7;have li:i<rows.length:=by lia
  rw[eF i li,ef] at done;have sat:=Cw rows 0 _ safe i rows[i] (zac li);rw[ef] at sat;obtain⟨ra,era,TF⟩:=AV (rr.mono ti.s) (i:=i) (y:=rv[i]) (zac (by lia)) li;generalize rows[i]=r at *;obtain⟨k,wd⟩:=r;simp only[eM,zaT];rw[show (0:Int)+(i:Int)=(i:Int) by lia];have hR3:=ti.s.seq hR;refine av fun U4 kg=>?_;walk_at "r";refine bz (v:=.ref ra) hR3 (au (by rw[<- era];exact zac (by lia))) (bz (v:=.str (gg wd)) TF (au (j:=1) rfl) ((kg _ _).mpr ?_));clear kg;walk_at "r";intro p4 v8;refine⟨p4,_,rfl,.inr (.of ae),rfl,rfl,_,rfl,?_⟩;have s4:=aq.new v8 (.tup [V.str (zab "if"),V.str (zab "while")]);have Fo:=ti.same s4;have Qv:=s4 _ _ yo;generalize upd H3 p4 (.tup [V.str (zab "if"),V.str (zab "while")])=H4 at *;rw[wK wd];by_cases hl:wd=.ifs\/wd=.fc
  ·refine(zzp (decide_eq_true hl)).mpr ⟨.inl ⟨rfl,_,.of Qv⟩,ol,_,_,rfl,rfl,Qv,by rw[zad,zbh];lia,fun p5 yM=>⟨d,_,rfl,.inl ⟨ax,.inl (i:Int),?_,rfl,by lia,rfl⟩,?_⟩⟩
   ·exact((Fo.put SJ SI no _).same (aq.new yM _)).dd
   ·have Dm:=(Fo.put SJ SI no (.lst (op.reverse.map (fun x:Nat=>V.int (x:Int))++[V.int i]))).UU i yM;have n5:ol≠p5:=ai ae yM;have es:tM (m,op) i wd=(m.set i (.op none none),i::op):=by rcases hl with rfl |rfl<;>rfl
    refine done _ _ (fun _ zk=>zk _ _ _ _ _ _ rfl es Dm (zaC (tS _ _ _) (by lia)) ?_ ?_ (by simp only[zah];lia) (fun x hx=>?_))
    ·rw[aw SI,aw n5,ae];simp
    ·intro p e f hp;by_cases z:p=i
     ·rw[zzp z];exact n5.symm
     ·rw[zzn z];rw[Mm.bO _ _ z] at hp;exact no p e f hp
    ·rcases zag.mp hx with rfl |hx
     ·lia
     ·have:=sl x hx;lia
  ·refine(zzn (by rw[decide_eq_false hl];exact zai)).mpr (b9 (fun e=>?_) (fun e=>b9 (fun e2=>?_) (fun e2=>?_)))
   ·have ew:wd=.oQ:=(Br wd).mp e;subst ew;obtain⟨o,tt,x,y,eo,mo⟩:=sat (.inl rfl);simp only at eo mo;subst eo;have last:∀xs:List Nat,tm ((o::xs).reverse.map fun x:Nat=>V.int (x:Int)) (-1)=some (V.int o):=fun xs=>by rw[zbm,zaw];exact L2.jw _ _
    refine⟨1,rfl,bz (v:=.int o) (.of Qv) (last tt) ⟨d,.ref (Af o),rfl,.inl ⟨ax,.inl (o:Int),.inl Fo.dd,rfl,?_⟩,Af o,_,0,0,rfl,rfl,(Fo.ls o x y mo).1,rfl,?_⟩⟩
    ·rw[Fo.at_ o,mo];rfl
    ·have Fp:=Fo.list mo (some i) y;have Xx:(upd H4 (Af o) (.lst [xH (some i),xH y])) ol=some (.lst ((o::tt).reverse.map fun x:Nat=>V.int (x:Int))):=by rw[aw (no o x y mo).symm];exact Qv
     show ∃i_2,1=i_2/\AF K (V.ref ol) (V.int (-i_2)) (upd H4 (Af o) (.lst [xH (some i),xH y])) _;generalize upd H4 (Af o) (.lst [xH (some i),xH y])=H5 at *;refine⟨1,rfl,bz (v:=.int o) (.of Xx) (last tt) ⟨d,_,rfl,.inl ⟨ax,.inl (i:Int),Fp.dd,rfl,by lia,rfl⟩,?_⟩⟩;have Dm:=Fp.back i o;have es:tM (m,o::tt) i .oQ=((m.set o (.op (some i) y)).set i (.back o),o::tt):=by simp only[tM,mo,qk]
     refine done _ _ (fun _ zk=>zk _ _ _ _ _ _ rfl es Dm (zaC (tS _ _ _) (by lia)) ?_ ?_ (by lia) (fun x hx=>zcc (sl x hx)))
     ·rw[aw SI];exact Xx
     ·intro p e f hp;by_cases z:p=i
      ·subst z;rw[Mm.set_same] at hp;cases hp
      ·rw[Mm.bO _ _ z] at hp;by_cases z2:p=o
       ·subst z2;exact no p x y mo
       ·rw[Mm.bO _ _ z2] at hp;exact no p e f hp
   ·have ew:wd=.fin:=(Bs wd).mp e2;subst ew;obtain⟨o,tt,x,y,eo,mo⟩:=sat (.inr rfl);simp only at eo mo;subst eo;have oi:o<i:=sl o (zaq ..);have er:((o::tt).reverse.map fun x:Nat=>V.int (x:Int))=(tt.reverse.map fun x:Nat=>V.int (x:Int))++[V.int o]:=by simp
    rw[er] at Qv;have Fp:=Fo.put SJ SI no (.lst (tt.reverse.map fun x:Nat=>V.int (x:Int)));have Xx:(upd H4 ol (.lst (tt.reverse.map fun x:Nat=>V.int (x:Int)))) ol=some (.lst (tt.reverse.map fun x:Nat=>V.int (x:Int))):=ae;refine⟨.inl ⟨rfl,_,.of Qv⟩,ol,_,.int o,rfl,rfl,Qv,by simp,?_⟩;rw[zcr];generalize upd H4 ol (.lst (tt.reverse.map fun x:Nat=>V.int (x:Int)))=H5 at *;have Dm:=Fp.back i o;have yo6:(upd H5 d (.dK (putK ax (.inl (i:Int)) (.int o)))) ol=some (.lst (tt.reverse.map fun x:Nat=>V.int (x:Int))):=by rw[aw SI];exact Xx
    have lk6:(putK ax (.inl (i:Int)) (V.int o)).length<=i+1:=zaC (tS _ _ _) (by lia);refine⟨d,_,rfl,.inl ⟨ax,.inl (i:Int),Fp.dd,rfl,by lia,rfl⟩,?_⟩;generalize putK ax (.inl (i:Int)) (V.int o)=oy at *;generalize upd H5 d (.dK oy)=H6 at *;have mo6:(m.set i (.back o)) o=some (.op x y):=by rw[Mm.bO _ _ (by lia)];exact mo
    refine⟨d,.int o,rfl,.inl ⟨oy,.inl (i:Int),.inl Dm.dd,rfl,by rw[Dm.at_ i,Mm.set_same];rfl⟩,d,.ref (Af o),rfl,.inl ⟨oy,.inl (o:Int),.inl Dm.dd,rfl,by rw[Dm.at_ o,mo6];rfl⟩,Af o,_,1,1,rfl,rfl,(Dm.ls o x y mo6).1,rfl,?_⟩;have Xy:=Dm.list mo6 x (some i);have es:tM (m,o::tt) i .fin=((m.set i (.back o)).set o (.op x (some i)),tt):=by simp only[tM,mo,tL]
    refine done _ _ (fun _ zk=>zk _ _ _ _ _ _ rfl es Xy lk6 ?_ ?_ (by simp only[zah] at lo;lia) (fun z hz=>zcc (sl z (zat _ hz))))
    ·rw[aw (no o x y mo).symm];exact yo6
    ·intro p e f hp;by_cases z2:p=o
     ·subst z2;exact no p x y mo
     ·rw[Mm.bO _ _ z2] at hp;by_cases z:p=i
      ·subst z;rw[Mm.set_same] at hp;cases hp
      ·rw[Mm.bO _ _ z] at hp;exact no p e f hp
   ·have es:tM (m,op) i wd=(m,op):=by
     cases wd<;>first |rfl |exact zzb (.inl rfl) hl |exact zzb (.inr rfl) hl |exact zzb ((Br _).mpr rfl) e |exact zzb ((Bs _).mpr rfl) e2
    exact done _ _ (fun _ zk=>zk _ _ _ _ _ _ rfl es Fo (by lia) Qv no (by lia) (fun x hx=>zcc (sl x hx)))
 ·refine dQ _ _ _ hv _ fun z3 z4 m op Af ax kW ef ti lk yo no lo sl=>?_;subst kW;rw[Qs,zaU] at ef;refine(i3 _ _).mpr ?_;walk_at "r";refine q d H3 ⟨Af,ax,?_⟩;unfold oO;rw[ef];exact ti
theorem G5:∀w:Wd,(V.str (gg w)=V.str (zab "while"))↔w=.fc:=by
 intro w;cases w<;>decide +kernel
theorem Qw(T:Tx K mg t):bJ P w K mg base dw 1 t.mU t.oh ["rows", "matches", "at"] (YN K):=by
 refine T.ky.F.lS x9 (fun vs H Q E h=>?_) (fun eS A outer s H vs Q E hr h=>?_)
 ·obtain⟨_,_,_,_,_,_,rfl,_⟩:=h;rfl
 obtain⟨R,d,rows,b,H0,p,rfl,rr,lr,tx,⟨Af,ax,ti⟩,q⟩:=h;have nd:=x9.nd;have hu:=dS hr;refine⟨_,[some (V.ref R),some (V.ref d),some (V.int p),none],(ah (mn PassesOwn.never (aD oT (pv 2) (bY bE rfl T.g8 PyProof.Rows.Boot.«len» (bc 0 aa)) (aR _))
 (ah (c5 3 nd (aC a9 (aC a9 (pv 0) (pv 2) k0) aj ao))
 (ak (bh (aD bN (pv 3) aU (aR _))
 (ak (c5 2 nd (bf dP (aC AH (cf hu (pv 1) (cf hu (pv 1) (pv 2) (fun _ _=>rfl)) (fun _ _=>rfl)) aj ao) aj)))
 (ak (bh (PW.pt (pw_and (aD bN (pv 3) aU (aR _)) (pw_and1 (aD bN (aC a9 (aC a9 (pv 0) (cf hu (pv 1) (pv 2) (fun _ _=>rfl)) Kn) aj ao) aU (aR _)))))
 (ak (aO (aC a9 (aC a9 (pv 0) (cf hu (pv 1) (pv 2) (fun _ _=>rfl)) Kn) aj ao)))
 (ak (bh (aD bN (pv 3) aU (aR _))
 (ak (c5 2 nd (bf dP (pv 2) aj)))
 (ak (aO (aC a9 (aC a9 (pv 0) (pv 2) k0) aj ao)))))))))))
 (ak (aO aj))),rfl,?_⟩
 have line:zds=2 ^ 24:=rfl;rw[Rep.bL] at rr;obtain⟨_,rv,e,hR,rr⟩:=rr;cases e;have Qs:rv.length=rows.length:=by rw[rr.length,zad]
 have ok:=zS tx;generalize oO rows=m at *;refine av fun U1 eE=>?_;walk_at "r";refine⟨fun n σ H'=>H'=H/\∃(j:Nat) (z:Option V),σ=[some (V.ref R),some (V.ref d),some (V.int j),z]/\n=rows.length-j/\PG.to rows m j=PG.to rows m p,⟨_,rfl,p,none,rfl,rfl,rfl⟩,?_⟩
 rintro n σ H' ⟨rfl,j,z,rfl,rfl,et⟩
 walk_at "r";refine⟨R,rv,rfl,.inl hR,b9 (fun lt=>?_) (fun lt=>?_)⟩
 ·have lj:j<rows.length:=by lia
  obtain⟨ra,era,TF⟩:=AV rr (i:=j) (y:=rv[j]) (zac (by lia)) lj;have yt:rows[j]?=some rows[j]:=zac lj;generalize rows[j]=r at *;obtain⟨k,wd⟩:=r;obtain⟨o1,o2,_⟩:=ok j lj k wd yt;refine⟨fun σ' H2=>H2=H'/\∃(j':Nat) (z:Option V),σ'=[some (V.ref R),some (V.ref d),some (V.int j'),z]/\j<j'/\PG.to rows m j'=PG.to rows m p,fun σ' H2 ⟨e1,j',z',e2,e3,e4⟩=>⟨_,by lia,e1,j',z',e2,rfl,e4⟩,?_⟩;refine bz (v:=.ref ra) hR (au (by rw[<- era];exact zac (by lia))) (bz (v:=.str (gg wd)) TF (au (j:=1) rfl) ?_);walk_at "r";have key:∀jj:Nat,cm ax (.inl (jj:Int))=W0 Af jj (m jj):=ti.at_;refine b9 (fun e=>?_) (fun e=>b9 (fun e2=>?_) (fun e2=>(zzn (by decide)).mpr ((zzn e2).mpr ?_)))
  ·have ew:wd=.oQ:=(Br wd).mp e;subst ew;obtain⟨o,x,ee,m1,m2,h1,h2⟩:=o1 rfl;refine⟨d,.int o,rfl,.inl ⟨ax,.inl (j:Int),.inl ti.dd,rfl,by rw[key j,m1];rfl⟩,d,.ref (Af o),rfl,.inl ⟨ax,.inl (o:Int),.inl ti.dd,rfl,by rw[key o,m2];rfl⟩,.inl (bz (v:=.int ee) (.of (ti.ls o x (some ee) m2).1) (au (j:=1) rfl) ⟨_,_,rfl,rfl,rfl,ee+1,some (V.str (gg .oQ)),rfl,by lia,?_⟩)⟩
   ·rw[<- et,KC yt m1 m2 h1]
  ·have ew:wd=.fin:=(Bs wd).mp e2;subst ew;obtain⟨o,k',w',m1,ho,hw⟩:=o2 rfl;obtain⟨lo,eo⟩:=ny ho;obtain⟨rb,erb,hrb⟩:=AV rr (i:=o) (y:=rv[o]) (zac (by lia)) lo;rw[eo] at hrb;have gR:tm rv (o:Int)=some (V.ref rb):=au (by rw[<- erb];exact zac (by lia));have gd:qE H' d (V.int j) (some (.int o)):=.inl ⟨ax,.inl (j:Int),.inl ti.dd,rfl,by rw[key j,m1];rfl⟩;refine⟨d,.int o,rfl,gd,bz (v:=.ref rb) hR gR (bz (v:=.str (gg w')) hrb (au (j:=1) rfl) ⟨rfl,b9 (fun e3=>?_) (fun e3=>(zzp e2).mpr ⟨rfl,j+1,_,rfl,by lia,?_⟩)⟩)⟩
   ·have ew:w'=.fc:=(G5 w').mp e3;subst ew;refine⟨d,.int o,rfl,gd,bz (v:=.ref rb) hR gR (bz (v:=.int k') hrb (au (j:=0) rfl) ?_)⟩;rw[<- et,KD yt m1 ho] at q;exact q
   ·have ew:w'=.ifs:=hw.resolve_right fun z=>e3 ((G5 w').mpr z);subst ew;rw[<- et,Ex yt m1 ho]
  ·refine bz (v:=.ref ra) hR (au (by rw[<- era];exact zac (by lia))) (bz (v:=.int k) TF (au (j:=0) rfl) ?_);rw[<- et,Cs yt (fun z=>e ((Br wd).mpr z)) (fun z=>e2 ((Bs wd).mpr z))] at q;exact q
 ·refine(eE _ _).mpr ?_;walk_at "r";rw[<- et,Ew (by lia)] at q;exact q
theorem Dn:∀w:Wd,(gg w=zab "stop")↔w=.stop:=by
 intro w;cases w<;>decide +kernel
theorem O4(T:Tx K mg t):bJ P w K mg base dw 2 t.jE t.j5 ["rows"] (NZ K):=by
 have pZ:=@G4 P w _ _ base _ T;have qC:=@Qw P w _ _ base _ T;refine T.lL.F.lS uj (fun vs H Q E h=>?_) (fun eS A outer s H vs Q E hr h=>?_)
 ·obtain⟨_,_,_,rfl,_⟩:=h;rfl
 obtain⟨R,rows,b,rfl,rr,lr,tx,q⟩:=h;have nd:=uj.nd;have hu:=dS hr;refine⟨_,[some (V.ref R),none,none,none,none,none,none,none],(ah (c5 1 nd (da pZ T.jH hr (bc 0 aa)))
 (ah (c5 2 nd (bu aa))
 (ah (du PassesOwn.never rfl (ik rfl T.ju (ag (bY bE rfl T.g8 PyProof.Rows.Boot.«len» (bc 0 aa)) aa bH)) (lY 3 nd)
 (ah (rJ (aC a9 (pv 0) (pv 3) k0) (AM rfl (bM (lY 4 nd) (bM (lY 5 nd) iA))))
 (ah (c5 6 nd (da qC T.ky hr (bc 0 (bc 1 (ag (bf dP (pv 3) aj) aa jb)))))
 (ak (bh (aD bN (pv 5) aU (aR _))
 (ak (bK (dv zaj zan zao bD (pv 2) (ag (aS (bc 4 (bc 5 (ag (aS (ag aj aa aP)) aa bW)))) aa bW))))
 (ak (bh (aD ja (pv 5) (aS (cQ (vs:=[.str "if",.str "while"]) (by kernel_rfl))) rfl)
 (ah (c5 7 nd (aC AH (cf hu (pv 1) (pv 3) (fun _ _=>rfl)) aj ao))
 (ah (bh (aD Az (aC AH (cf hu (pv 1) (pv 3) (fun _ _=>rfl)) aj ao) eU (aR _))
 (ak (c5 7 nd (aC AH (cf hu (pv 1) (pv 3) (fun _ _=>rfl)) aj ao)))
 aV)
 (ak (bK (dv zaj zan zao bD (pv 2) (ag (aS (bc 4 (bc 5 (ag (aS (bc 6 (ag (da qC T.ky hr (bc 0 (bc 1 (ag (bf dP (pv 7) aj) aa jb)))) aa bH))) aa bW)))) aa bW))))))
 (ak (bh (aD tw (pv 5) (aS (cQ (vs:=[.str "else",.str "end"]) (by kernel_rfl))) rfl)
 (ak (bK (dv zaj zan zao bD (pv 2) (ag (aS (bc 4 (bc 5 (ag (aS (bc 6 aa)) aa bW)))) aa bW))))
 aV)))))))))
 (ak (aO (pv 2)))))),rfl,?_⟩
 have line:zds=2 ^ 24:=rfl;have ok:=zS tx;have wf:=HM tx;have rrH:=rr;rw[Rep.bL] at rr;obtain⟨_,rv,e,hR,rr⟩:=rr;cases e;have Qs:rv.length=rows.length:=by rw[rr.length,zad]
 refine av fun U1 eE=>?_;walk_at "r";refine⟨R,rows,b,rfl,rrH,lr,tx,fun d H1 mt1=>(eE _ _).mpr (av fun U2 gk=>?_)⟩;clear eE;walk_at "r";intro fl Xz;refine(gk _ _).mpr (av fun U3 i3=>?_);clear gk;refine o8 fun U hU=>?_;walk_at "r";obtain⟨Af,ax,mi⟩:=mt1;have ac1:rO K H1 fl (upd H1 fl (.lst [])) [] []:=rO.new Xz;generalize upd H1 fl (.lst [])=H2 at *;refine⟨R,rv,rfl,.inl ((mi.s.trans ac1.s).seq hR),_,rfl,by lia,by lia,hU _ _ ?_⟩;clear hU;rw[show ((rv.length:Int)).toNat=rv.length from za1 _];obtain⟨Pv,mh,dQ⟩:=xW fun (i:Nat) (σ:St) (H3:Hp) zq=>∀(z3 z4 z5 z6 z7:Option V) (us:List V),σ=[some (V.ref R),some (V.ref d),some (V.ref fl),z3,z4,z5,z6,z7]->rO K H1 fl H3 us ((bZ rows (oO rows) 0 i).map eJ)->us.length<=i->zq;refine ki (lo:=0) (n:=rv.length) Pv ((mh _ _ _ fun _ zk=>zk none none none none none [] rfl ac1 (zaf _))) (fun i σ H3 hi hv=>?_) (fun σ H3 hv=>?_)
 ·refine dQ _ _ _ hv _ fun z3 z4 z5 z6 z7 us kU ac lu=>?_;subst kU;clear hv;have done:=fun σ H7=>mh (i+1) σ H7;have li:i<rows.length:=by lia
  have ew:bZ rows (oO rows) 0 (i+1)=bZ rows (oO rows) 0 i++eG rows (oO rows) i:=by
   rw[dG,zbx,bZ,bZ,zav]
  have Wc:=mi.same ac.s;have rr3:=rr.mono Wc.s;obtain⟨ra,era,TF⟩:=AV rr3 (i:=i) (y:=rv[i]) (zac (by lia)) li;have yt:rows[i]?=some rows[i]:=zac li;generalize rows[i]=r at *;obtain⟨k,wd⟩:=r;obtain⟨_,_,o3⟩:=ok i li k wd yt;simp only[eM,zaT];rw[show (0:Int)+(i:Int)=(i:Int) by lia];have hR3:=Wc.s.seq hR;have We:Rep K H3 (.lst (rows.map jU)) (.ref R):=rrH.mono Wc.s;refine av fun U4 kg=>?_;walk_at "r";refine bz (v:=.ref ra) hR3 (au (by rw[<- era];exact zac (by lia))) ⟨ra,_,rfl,TF,rfl,_,_,rfl,_,_,rfl,rfl,(kg _ _).mpr (av fun U5 uv=>?_)⟩;clear kg;simp only[zaT];walk_at "r";refine⟨R,d,rows,b,H,i+1,by simp,We,lr,tx,⟨Af,ax,Wc⟩,(uv _ _).mpr ?_⟩;clear uv;walk_at "r";generalize hm:oO rows=m at *;have put:∀(H4:Hp) (ws:List Int) (z:Option V),rO K H1 fl H4 us ((bZ rows m 0 i).map eJ)->eG rows m i=[(k,wd,ws)]->∀p,H4 p=none->∀p1,(upd H4 p (.tup (ws.map V.int))) p1=none->
   AJ (V.ref fl) [V.ref p1] (upd (upd H4 p (.tup (ws.map V.int))) p1 (.tup [V.int k,V.str (gg wd),V.ref p])) fun x H'=>Pv (i+1) [some (V.ref R),some (V.ref d),some (V.ref fl),some (V.int i),some (V.int k),some (V.str (gg wd)),some (V.int (PG.to rows m (i+1))),z] H':=fun H4 ws z ac ea p hp p1 Fd=>by
   obtain⟨y5,Wf⟩:=ac.row (k:=k) (w:=wd) Xz hp Fd;refine⟨fl,us,_,rfl,rfl,y5,by lia,done _ _ (fun _ zk=>zk _ _ _ _ _ (us++[V.ref p1]) rfl ?_ (by simp only[zae,zax];lia))⟩;rw[ew,zaw,ea];exact Wf
  refine b9 (fun e=>⟨.inl ⟨rfl,_,.of ac.y⟩,fun p hp p1 Fd=>?_⟩) (fun e p4 v8=>?_)
  ·have ewd:=(Dn wd).mp e;subst ewd;exact put H3 [0] _ ac (by unfold eG;rw[yt]) p hp p1 Fd
  ·refine⟨p4,_,rfl,.inr (.of ae),rfl,rfl,_,rfl,?_⟩;have s4:=aq.new v8 (.tup [V.str (zab "if"),V.str (zab "while")]);have Wg:=ac.same s4;have Wh:=Wc.same s4;have Wi:=We.mono s4;generalize upd H3 p4 (.tup [V.str (zab "if"),V.str (zab "while")])=H4 at *;rw[wK wd];by_cases hl:wd=.ifs\/wd=.fc
   ·obtain⟨x,ee,m1,h1,h2,h3⟩:=o3 hl;have gd:qE H4 d (V.int i) (some (.ref (Af i))):=.inl ⟨ax,.inl (i:Int),.inl Wh.dd,rfl,by rw[Wh.at_ i,m1];rfl⟩;have gl:=(Wh.ls i x (some ee) m1).1;have ea:eG rows m i=[(k,wd,[PG.to rows m (i+1),PG.to rows m (x.getD ee+1)])]:=by
     unfold eG;rw[yt];rcases hl with rfl |rfl<;>simp only[m1]
    refine(zzp (decide_eq_true hl)).mpr ⟨d,_,rfl,gd,.inl (bz (v:=.int ee) (.of gl) (au (j:=1) rfl) ⟨d,_,rfl,gd,.inl (bz (v:=xH x) (.of gl) (au (j:=0) rfl) ?_)⟩)⟩;cases x with
    |none=>
     refine(zzp rfl).mpr ⟨.inl ⟨rfl,_,.of Wg.y⟩,?_⟩;rw[J0];exact⟨R,d,rows,b,H,ee+1,by simp,Wi,lr,tx,⟨Af,ax,by rw[hm];exact Wh⟩,by rw[hm];exact put H4 _ _ Wg ea⟩
    |some y=>
     refine(zzn (by intro z;cases z)).mpr ⟨d,_,rfl,gd,.inl (bz (v:=.int y) (.of gl) (au (j:=0) rfl) ⟨.inl ⟨rfl,_,.of Wg.y⟩,?_⟩)⟩;rw[J0];exact⟨R,d,rows,b,H,y+1,by simp,Wi,lr,tx,⟨Af,ax,by rw[hm];exact Wh⟩,by rw[hm];exact put H4 _ _ Wg ea⟩
   ·refine(zzn (by rw[decide_eq_false hl];exact zai)).mpr fun p5 yM=>?_;refine⟨p5,_,rfl,.inr (.of ae),rfl,rfl,_,rfl,?_⟩;have s5:=aq.new yM (.tup [V.str (zab "else"),V.str (zab "end")]);have Wf:=Wg.same s5;generalize upd H4 p5 (.tup [V.str (zab "else"),V.str (zab "end")])=H5 at *;rw[RE wd];by_cases hn:wd=.oQ\/wd=.fin
    ·refine(zzn (by rw[decide_eq_true hn];exact zai)).mpr (done _ _ (fun _ zk=>zk _ _ _ _ _ us rfl ?_ (by lia)));have ea:eG rows m i=[]:=by
      unfold eG;rw[yt];rcases hn with rfl |rfl<;>rfl
     rw[ew,ea,zav];exact Wf
    ·refine(zzp (by rw[decide_eq_false hn];rfl)).mpr ⟨.inl ⟨rfl,_,.of Wf.y⟩,put H5 [PG.to rows m (i+1)] _ Wf ?_⟩;unfold eG;rw[yt];cases wd<;>first |rfl |exact zzb (.inl rfl) hl |exact zzb (.inr rfl) hl |exact zzb (.inl rfl) hn |exact zzb (.inr rfl) hn |exact zzb ((Dn _).mpr rfl) e
 ·refine dQ _ _ _ hv _ fun z3 z4 z5 z6 z7 us kW ac lu=>?_;subst kW;rw[Qs,wf] at ac;refine(i3 _ _).mpr ?_;walk_at "r";refine q fl us H3 (mi.s.trans ac.s) ?_ ac.y ac.f.HS;cases z:H fl with
  |none=>rfl
  |some o=>rw[mi.s _ _ z] at Xz;cases Xz
theorem O5(T:Tx K mg t){n:Nat}(i4:bJ P w K mg base dw (n+1) t.cK t.cS ["body"] (AW K n)) :
 bJ P w K mg base dw (n+2) t.cK t.cS ["body"] (AW K (n+1)):=by
 refine T.eB.F.lS kH (fun vs H Q E h=>?_) (fun eS A outer s H vs Q E hr h=>?_)
 ·obtain⟨_,_,_,rfl,_⟩:=h;rfl
 obtain⟨b,body,H0,rfl,s0,rb,hd,hf,pw,q⟩:=h;have nd:=kH.nd;have hu:=dS hr;refine⟨_,[some (V.ref b),none,none,none],(ah (c5 1 nd xl)
 (ah (du PassesOwn.never rfl (cI (pv 0)) (lY 2 nd)
 (ah (nh hu (pv 1) (aC aM (pv 2) aj ao) (pv 2) rfl)
 (ak (du PassesOwn.never rfl (Q1 (oV JM (pv 2) (sY aj) sX)) (lY 3 nd)
 (ak (bK (dv zca zcL PySem.F.type_dict_update Ia (pv 1) (ag (da i4 T.eB hr (bc 3 aa)) aa bH))))))))
 (ak (aO (pv 1))))),rfl,?_⟩
 have line:zds=2 ^ 24:=rfl;rw[Rep.bL] at rb;obtain⟨_,xs,e,hx,rs⟩:=rb;cases e;have lx:xs.length=body.length:=by rw[rs.length,zad]
 have lb:=km body;have sl:=mE body;refine av fun U1 eE=>?_;walk_at "r";intro d Nd;have s1:=aq.new Nd (.dK []);have y1:(upd H d (.dK [])) d=some (.dK []):=ae;generalize upd H d (.dK [])=H1 at *;refine(eE _ _).mpr (av fun U2 gk=>?_);clear eE;refine fH fun U hU=>?_;walk_at "r";refine⟨⟨xs,(s0.trans s1).seq hx⟩,hU _ _ ?_⟩;clear hU;obtain⟨Pv,mh,dQ⟩:=xW fun (i:Nat) (σ:St) (H3:Hp) zq=>∀(z2 z3:Option V) (us:List V),σ=[some (V.ref b),some (V.ref d),z2,z3]->aq H H3->us.length=(az (body.take i)).length->H3 d=some (.dK (cU (az (body.take i)) us))->aN K H0 ((az (body.take i)).map dH) us->zq;refine fG (K:=K) (a:=b) (xs:=xs) Pv ((mh _ _ _ fun _ zk=>zk none none [] rfl s1 rfl y1 .nil)) (fun i σ H3 _ hv=>?_) ?_ ?_
 ·refine dQ _ _ _ hv _ fun _ _ _ _ s3 _ _ _=>?_;exact(s0.trans s3).seq hx
 ·intro i y σ H3 hi hv;refine dQ _ _ _ hv _ fun z2 z3 us kU s3 lu y3 r3=>?_;subst kU;clear hv;have done:=fun σ H7=>mh (i+1) σ H7;have li:i<body.length:=by have:=(zak.mp hi).1;lia
  obtain⟨v,hv,rv⟩:=rs.get (i:=i) (d:=dH body[i]) (by rw[zam,zac li];rfl);rw[hi] at hv;cases hv;have mem:body[i]∈body:=zau li;obtain⟨fm,dm⟩:=qo body _ mem;have et:az (body.take (i+1))=az (body.take i)++body[i]::(aK body[i]).flatMap az:=by
   rw[zaQ li,pH,CD,Gr]
  rw[et] at done;have eb:az body=(az (body.take i)++body[i]::(aK body[i]).flatMap az)++az (body.drop (i+1)):=by
   rw[<- et,<- pH,zbB]
  rw[eb] at pw sl;have pw:=(zbI.mp pw).1;have sl:(az (body.take i)++body[i]::(aK body[i]).flatMap az).length<=1000:=by
   rw[zae] at sl;lia
  generalize body[i]=st at *;generalize az (body.take i)=pre at *;obtain⟨sa,ys,rfl,hs,l2,l7,e1,rc⟩:=N1 st rv;simp only[eM,zaT];refine av fun U3 i3=>?_;walk_at "r";have fresh:(Sum.inl st.row:Key) ∉ (cU pre us).map (·.1):=by
   rw[ig _ _ lu];intro z;obtain⟨x,hx,e⟩:=zaF.mp z;have e:=Sum.inl.inj e;have:=(zbI.mp pw).2.2 x hx st (zaq ..);lia
  have lr:(cU pre us).length<=1000:=by
   have:=congrArg za6 (ig _ _ lu);rw[zad,zad] at this;rw[zae] at sl;lia
  refine aG ((s0.trans s3).a7 hs) (v:=.int st.row) (au (j:=1) e1) ⟨d,_,rfl,.inl ⟨_,.inl st.row,y3,rfl,by lia,rfl⟩,(i3 _ _).mpr ?_⟩;clear i3;rw[xI fresh];have y4:(upd H3 d (.dK (cU pre us++[(Sum.inl st.row,V.ref sa)]))) d=some (.dK (cU (pre++[st]) (us++[V.ref sa]))):=by rw[ae,qp _ _ _ _ lu];rfl
  have s4:aq H (upd H3 d (.dK (cU pre us++[(Sum.inl st.row,V.ref sa)]))):=fun z o e=>by rw[aw (ai e Nd)];exact s3 z o e
  generalize upd H3 d (.dK (cU pre us++[(Sum.inl st.row,V.ref sa)]))=H4 at *;refine K2 fun U hU=>?_;simp only[WW];walk_at "r";refine⟨5,rfl,sa,ys,rfl,(s0.trans s4).a7 hs,?_,fun p hp=>⟨p,rfl,⟨_,.of ae⟩,hU _ _ ?_⟩⟩
  ·intro z;have z1:=z.1;rw[show (5:Int)=((5:Nat):Int) from rfl,HT.qf] at z1;lia
  clear hU;have s5:=s4.trans (aq.new hp (.tup (jv ys (some 5) none)));have y5:=aq.new hp (.tup (jv ys (some 5) none)) _ _ y4;have h5:(upd H4 p (.tup (jv ys (some 5) none))) p=some (.tup (jv ys (some 5) none)):=ae;have npd:p≠d:=(ai y4 hp).symm;generalize upd H4 p (.tup (jv ys (some 5) none))=H5 at *;generalize jv ys (some 5) none=bv at *;have OY:bv.length=(aK st).length:=by rw[rc.length,zad]
  obtain⟨Pw,yr,jI⟩:=xW fun (j:Nat) (σ:St) (H6:Hp) zq=>∀(z3:Option V) (wt:List V),σ=[some (V.ref b),some (V.ref d),some (V.ref sa),z3]->aq H H6->H6 p=some (.tup bv)->wt.length=(pre++st::((aK st).take j).flatMap az).length->H6 d=some (.dK (cU (pre++st::((aK st).take j).flatMap az) wt))->aN K H0 ((pre++st::((aK st).take j).flatMap az).map dH) wt->zq;refine Nq (K:=K) (a:=p) (xs:=bv) Pw ((yr _ _ _ fun _ zk=>zk z3 (us++[V.ref sa]) rfl s5 h5 (by simp[lu]) y5 ?_)) (fun j σ H6 _ hv=>?_) ?_ ?_
  ·rw[zc4,zbk,zaw];exact r3.append (.cons rv .nil)
  ·refine jI _ _ _ hv _ fun _ _ _ _ h6 _ _ _=>?_;exact .of h6
  ·intro j y σ H6 hj hv;refine jI _ _ _ hv _ fun z3' wt kU s6 h6 Nf y6 r6=>?_;subst kU;clear hv;have Dq:=fun σ H7=>yr (j+1) σ H7;have lj:j<(aK st).length:=by have:=(zak.mp hj).1;lia
   obtain⟨v,hv,Wj⟩:=rc.get (i:=j) (d:=.lst ((aK st)[j].map dH)) (by rw[zam,zac lj];rfl);rw[hj] at hv;cases hv;have mj:(aK st)[j]∈aK st:=zau lj;obtain⟨fb,db⟩:=j3 st _ mj;have ej:((aK st).take (j+1)).flatMap az=((aK st).take j).flatMap az++az (aK st)[j]:=by
    rw[zaQ lj,za9];simp
   have ea:(aK st).flatMap az=((aK st).take j).flatMap az++az (aK st)[j]++((aK st).drop (j+1)).flatMap az:=by
    rw[<- ej,<- za9,zbB]
   rw[ej] at Dq;rw[ea] at pw sl;generalize (aK st)[j]=bb at *;generalize ((aK st).take j).flatMap az=mid at *;generalize ((aK st).drop (j+1)).flatMap az=rest at *;have pw2:((pre++st::mid)++az bb).Pairwise (fun a b=>a.row<b.row):=by
    rw[show pre++st::(mid++az bb++rest)=((pre++st::mid)++az bb)++rest by simp] at pw;exact(zbI.mp pw).1
   have Td:(pre++st::mid).length+(az bb).length<=1000:=by
    simp only[zae,zah] at sl ⊢;lia
   obtain⟨ab,_,rfl,_⟩:=Rep.bL.mp Wj;simp only[eM,zaT];walk_at "r";refine⟨.inr (.inr (.inl ⟨rfl,.inl ⟨_,y6⟩⟩)),ab,bb,H0,rfl,s0.trans s6,Wj,by lia,by lia,(zbI.mp pw2).2.1,fun d2 Gx H7 s7 hd2 l2 y7 r7=>?_⟩;have nd2:d≠d2:=ai y6 hd2;have lk1:(cU (pre++st::mid) wt).length=(pre++st::mid).length:=by
    have:=congrArg za6 (ig _ _ Nf)
    rwa [zad,zad] at this
   have lk2:(cU (az bb) Gx).length=(az bb).length:=by
    have:=congrArg za6 (ig _ _ l2)
    rwa [zad,zad] at this
   refine⟨d,d2,_,_,rfl,rfl,nd2,s7 _ _ y6,y7,by lia,?_⟩;rw[ie _ _ (by rw[<- qp _ _ _ _ Nf,ig _ _ (by simp only[zae] at *;lia)];exact rP pw2),<- qp _ _ _ _ Nf];refine Dq _ _ (fun _ zk=>zk _ (wt++Gx) rfl (fun z o e=>by rw[aw (ai e Nd)];exact s7 _ _ (s6 z o e)) (by rw[aw npd];exact s7 _ _ h6) (by simp only[zae,zah] at *;lia) ?_ ?_)
   ·rw[ae];simp
   ·rw[show pre++st::(mid++az bb)=(pre++st::mid)++az bb by simp,zaw];exact r6.append r7
  ·intro σ H6 hv;refine jI _ _ _ hv _ fun z3' wt kW s6 h6 Nf y6 r6=>?_;subst kW;rw[OY,zaU] at Nf y6 r6;exact done _ _ (fun _ zk=>zk _ _ wt rfl s6 Nf y6 r6)
 ·intro σ H3 hv;refine dQ _ _ _ hv _ fun z2 z3 us kW s3 lu y3 r3=>?_;subst kW;rw[lx,zaU] at lu y3 r3;refine(gk _ _).mpr ?_;walk_at "r";exact q d us H3 s3 Nd lu y3 r3
theorem Dr(T:Tx K mg t):∀n,bJ P w K mg base dw (n+1) t.cK t.cS ["body"] (AW K n)
 |0=>by
  have no:∀vs H Q E,¬AW K 0 vs H Q E:=fun vs H Q E h=>by obtain⟨_,_,_,_,_,_,h,_⟩:=h;lia
  exact⟨fun vs H Q E h=>zzb h (no vs H Q E),fun A outer s H args us vs Q E _ _ _ _ h=>zzb h (no vs H Q E)⟩
 |n+1=>O5 T (Dr T n)
theorem MD(T:Tx K mg t){n:Nat}(fN:bJ P w K mg base dw (n+2) t.cB t.cF ["body"] (qr K n)) :
 bJ P w K mg base dw (n+3) t.cB t.cF ["body"] (qr K (n+1)):=by
 have pY:bJ P w K mg base dw 1 t.gA t.gI ["statement"] (xF K):=uH T;refine T.fM.F.lS mL (fun vs H Q E h=>?_) (fun eS A outer s H vs Q E hr h=>?_)
 ·obtain⟨_,_,_,rfl,_⟩:=h;rfl
 obtain⟨b,body,H0,rfl,s0,rb,hd,hf,q⟩:=h;have nd:=mL.nd;refine⟨_,[some (V.ref b),none,none,none],(ah (c5 1 nd (bu aa))
 (ah (du PassesOwn.never rfl (cI (pv 0)) (lY 2 nd)
 (ah (bK (dv zaj zan zao bD (pv 1) (bc 2 aa)))
 (ak (du PassesOwn.never rfl (cI (da pY T.jG hr (bc 2 aa))) (lY 3 nd)
 (ak (bK (dv zaj zb3 zb4 uO (pv 1) (ag (da fN T.fM hr (bc 3 aa)) aa bH))))))))
 (ak (aO (pv 1))))),rfl,?_⟩
 have line:zds=2 ^ 24:=rfl;rw[Rep.bL] at rb;obtain⟨_,xs,e,hx,rs⟩:=rb;cases e;have lx:xs.length=body.length:=by rw[rs.length,zad]
 have lb:=km body;have sl:=mE body;refine av fun U1 eE=>?_;walk_at "r";intro d Nd;have s1:=aq.new Nd (.lst []);have y1:(upd H d (.lst [])) d=some (.lst []):=ae;generalize upd H d (.lst [])=H1 at *;refine(eE _ _).mpr (av fun U2 gk=>?_);clear eE;refine fH fun U hU=>?_;walk_at "r";refine⟨⟨xs,(s0.trans s1).seq hx⟩,hU _ _ ?_⟩;clear hU;obtain⟨Pv,mh,dQ⟩:=xW fun (i:Nat) (σ:St) (H3:Hp) zq=>∀(z2 z3:Option V) (us:List V),σ=[some (V.ref b),some (V.ref d),z2,z3]->aq H H3->us.length=(az (body.take i)).length->H3 d=some (.lst us)->aN K H0 ((az (body.take i)).map dH) us->zq;refine fG (K:=K) (a:=b) (xs:=xs) Pv ((mh _ _ _ fun _ zk=>zk none none [] rfl s1 rfl y1 .nil)) (fun i σ H3 _ hv=>?_) ?_ ?_
 ·refine dQ _ _ _ hv _ fun _ _ _ _ s3 _ _ _=>?_;exact(s0.trans s3).seq hx
 ·intro i y σ H3 hi hv;refine dQ _ _ _ hv _ fun z2 z3 us kU s3 lu y3 r3=>?_;subst kU;clear hv;have done:=fun σ H7=>mh (i+1) σ H7;have li:i<body.length:=by have:=(zak.mp hi).1;lia
  obtain⟨v,hv,rv⟩:=rs.get (i:=i) (d:=dH body[i]) (by rw[zam,zac li];rfl);rw[hi] at hv;cases hv;have mem:body[i]∈body:=zau li;obtain⟨fm,dm⟩:=qo body _ mem;have et:az (body.take (i+1))=az (body.take i)++body[i]::(aK body[i]).flatMap az:=by
   rw[zaQ li,pH,CD,Gr]
  rw[et] at done;have eb:az body=(az (body.take i)++body[i]::(aK body[i]).flatMap az)++az (body.drop (i+1)):=by
   rw[<- et,<- pH,zbB]
  rw[eb] at sl;have sl:(az (body.take i)++body[i]::(aK body[i]).flatMap az).length<=1000:=by
   rw[zae] at sl;lia
  generalize body[i]=st at *;generalize az (body.take i)=pre at *;simp only[eM,zaT];refine av fun U3 i3=>?_;walk_at "r";refine⟨.inl ⟨rfl,_,.of y3⟩,d,us,y,rfl,rfl,y3,by simp only[zae,zah] at sl;lia,(i3 _ _).mpr ?_⟩;clear i3;have y4:(upd H3 d (.lst (us++[y]))) d=some (.lst (us++[y])):=ae;have s4:aq H (upd H3 d (.lst (us++[y]))):=fun z o e=>by rw[aw (ai e Nd)];exact s3 z o e
  generalize upd H3 d (.lst (us++[y]))=H4 at *;refine fH fun U hU=>?_;walk_at "r";refine⟨y,st,H0,rfl,rv,s0.trans s4,fun p bv H5 ME hp h5 rc=>⟨p,rfl,⟨_,.of h5⟩,hU _ _ ?_⟩⟩;clear hU;have s5:=s4.trans ME;have y5:=ME _ _ y4;have npd:p≠d:=(ai y4 hp).symm;have OY:bv.length=(aK st).length:=by rw[rc.length,zad]
  obtain⟨Pw,yr,jI⟩:=xW fun (j:Nat) (σ:St) (H6:Hp) zq=>∀(z3:Option V) (wt:List V),σ=[some (V.ref b),some (V.ref d),some y,z3]->aq H H6->H6 p=some (.lst bv)->wt.length=(pre++st::((aK st).take j).flatMap az).length->H6 d=some (.lst wt)->aN K H0 ((pre++st::((aK st).take j).flatMap az).map dH) wt->zq;refine fG (K:=K) (a:=p) (xs:=bv) Pw ((yr _ _ _ fun _ zk=>zk z3 (us++[y]) rfl s5 h5 (by simp[lu]) y5 ?_)) (fun j σ H6 _ hv=>?_) ?_ ?_
  ·rw[zc4,zbk,zaw];exact r3.append (.cons rv .nil)
  ·refine jI _ _ _ hv _ fun _ _ _ _ h6 _ _ _=>?_;exact .of h6
  ·intro j y' σ H6 hj hv;refine jI _ _ _ hv _ fun z3' wt kU s6 h6 Nf y6 r6=>?_;subst kU;clear hv;have Dq:=fun σ H7=>yr (j+1) σ H7;have lj:j<(aK st).length:=by have:=(zak.mp hj).1;lia
   obtain⟨v,hv,Wj⟩:=rc.get (i:=j) (d:=.lst ((aK st)[j].map dH)) (by rw[zam,zac lj];rfl);rw[hj] at hv;cases hv;have mj:(aK st)[j]∈aK st:=zau lj;obtain⟨fb,db⟩:=j3 st _ mj;have ej:((aK st).take (j+1)).flatMap az=((aK st).take j).flatMap az++az (aK st)[j]:=by
    rw[zaQ lj,za9];simp
   have ea:(aK st).flatMap az=((aK st).take j).flatMap az++az (aK st)[j]++((aK st).drop (j+1)).flatMap az:=by
    rw[<- ej,<- za9,zbB]
   rw[ej] at Dq;rw[ea] at sl;generalize (aK st)[j]=bb at *;generalize ((aK st).take j).flatMap az=mid at *;generalize ((aK st).drop (j+1)).flatMap az=rest at *;have Td:(pre++st::mid).length+(az bb).length<=1000:=by
    simp only[zae,zah] at sl ⊢;lia
   obtain⟨ab,_,rfl,_⟩:=Rep.bL.mp Wj;simp only[eM,zaT];walk_at "r";refine⟨.inl ⟨rfl,_,.of y6⟩,ab,bb,H0,rfl,s0.trans s6,Wj,by lia,by lia,fun d2 Gx H7 s7 hd2 y7 r7=>?_⟩;have l2:Gx.length=(az bb).length:=by rw[r7.length,zad]
   refine⟨d,d2,_,_,rfl,rfl,s7 _ _ y6,y7,by lia,?_⟩;refine Dq _ _ (fun _ zk=>zk _ (wt++Gx) rfl (fun z o e=>by rw[aw (ai e Nd)];exact s7 _ _ (s6 z o e)) (by rw[aw npd];exact s7 _ _ h6) (by simp only[zae,zah] at *;lia) ae ?_);rw[show pre++st::(mid++az bb)=(pre++st::mid)++az bb by simp,zaw];exact r6.append r7
  ·intro σ H6 hv;refine jI _ _ _ hv _ fun z3' wt kW s6 h6 Nf y6 r6=>?_;subst kW;rw[OY,zaU] at Nf r6;exact done _ _ (fun _ zk=>zk _ _ wt rfl s6 Nf y6 r6)
 ·intro σ H3 hv;refine dQ _ _ _ hv _ fun z2 z3 us kW s3 lu y3 r3=>?_;subst kW;rw[lx,zaU] at lu r3;refine(gk _ _).mpr ?_;walk_at "r";exact q d us H3 s3 Nd y3 r3
theorem Ar(T:Tx K mg t):∀n,bJ P w K mg base dw (n+2) t.cB t.cF ["body"] (qr K n)
 |0=>by
  have no:∀vs H Q E,¬qr K 0 vs H Q E:=fun vs H Q E h=>by obtain⟨_,_,_,_,_,_,h,_⟩:=h;lia
  exact⟨fun vs H Q E h=>zzb h (no vs H Q E),fun A outer s H args us vs Q E _ _ _ _ h=>zzb h (no vs H Q E)⟩
 |n+1=>MD T (Ar T n)
theorem Qx:∀w:Wd,Nz (V.str (gg w)) [V.str (zab "ask"),V.str (zab "put")]=decide (w=.ask\/w=.put):=by
 intro w;cases w<;>decide +kernel
theorem Qy:∀w:Wd,(gg w=zab "stop")↔w=.stop:=by
 intro w;cases w<;>decide +kernel
theorem Qz:∀w:Wd,(gg w=zab "must")↔w=.cg:=by
 intro w;cases w<;>decide +kernel
theorem SK{st:bG}(h:st.wd=.stop):∃k,st=.stop k:=by
 cases st<;>first |exact⟨_,rfl⟩ |cases h
theorem G6(vals:List Int)(j:Nat)(hj:j<vals.length)(x:Int):jv (vals.map V.int) none (some (j:Int))++[V.int x]++jv (vals.map V.int) (some ((j:Int)+1)) none=(vals.set j x).map V.int:=by
 unfold jv;rw[HT.oU,HT.qf,show ((j:Int)+1)=((j+1:Nat):Int) by lia,HT.qf,HT.oU];rw[zad,zcq (by lia),zcq (by lia),zc0,Nat.sub_zero];rw[zbw (l:=List.drop (j+1) (vals.map V.int)) (by rw[zbN,zad];lia)];rw[List.set_eq_take_append_cons_drop,zzp hj];simp
theorem MF{st:bG}(h:¬(st.wd=.ask\/st.wd=.put))(h1:st.wd≠.say)(h2:st.wd≠.stop):st.wd=.cg\/st.wd=.ifs\/st.wd=.fc:=by
 cases st<;>simp[bG.wd] at h h1 h2 ⊢
theorem QA{st:bG}{sg:W}{l r:PM.Tr}(h:RJ st)(c:pK st=some (sg,l,r)):sg=[60]\/sg=[61]:=by
 have key:sg∈BO:=by
  cases st<;>simp only[pK,zaO.injEq,Prod.mk.injEq,reduceCtorEq] at c<;>obtain⟨rfl,rfl,rfl⟩:=c<;>exact h
 simpa[BO] using key
theorem SM{bs:List gb}(nb:(bs.map (·.name)).Nodup){b:W}(hb:b∈bs.map (·.name)):(bs.map fun b=>S b.name)[c7 bs b]?=some (S b)/\∀m,m<c7 bs b->(bs.map fun b=>S b.name)[m]?≠some (S b):=by
 obtain⟨hx,ex⟩:=kC hb;refine⟨by rw[zam,zac hx];show some (S bs[c7 bs b].name)=_;rw[ex],fun m hm e=>?_⟩;have lm:m<bs.length:=by lia
 rw[zam,zac lm] at e;have e:=mw.mp (zaO.inj e);have p1:=zbJ.mp nb m (c7 bs b) (by simpa using lm) (by simpa using hx) hm;rw[zbu,zbu] at p1;exact p1 (e.trans ex.symm)
theorem wu(T:Tx K mg t):bJ P w K mg base dw 4 t.gC t.hX ["boxes", "statement", "ways", "values", "figure"] (EM K):=by
 have cV:=@sr P w _ _ base _ T 3;refine T.iZ.F.lS oN (fun vs H Q E h=>?_) (fun eS A outer s H vs Q E hr h=>?_)
 ·obtain⟨_,_,_,_,_,_,_,_,_,_,rfl,_⟩:=h;rfl
 obtain⟨B,ta,wa,va,fv,bs,st,ws,vals,fig,rfl,rB,rv,TH,E8,nb,uZ,bp,lv,VD,po,so,w0,w1,q⟩:=h;have nd:=oN.nd;have hu:=dS hr;refine⟨_,[some (.ref B),some (.ref ta),some (.ref wa),some (.ref va),some fv,none,none,none,none,none,none,none],(ah (NI (i:=5) nd rfl (zbq rfl) (own:=["box"]) (ix:=[]) rfl (by rfl) (by rfl) (cI (pv 0)) (fun _ _ _ _=>(fZ (i:=0) (by show List.Nodup (["box"]:List Str);decide +kernel) rfl (zbq rfl))) (fun _ _ _ _=>iC) (fun _ _ _ _=>(aC (iF (K:=K) rfl) (pv 0) aj ao)))
 (ah (c5 6 nd (rT rfl rfl T.pX rfl T.Dd (bc 5 (bc 3 aa))))
 (ah (c5 7 nd (aC aM (pv 1) aj ao))
 (ah (bh (aD ja (pv 7) (aS (cQ (vs:=[.str "ask",.str "put"]) (by kernel_rfl))) rfl)
 (ah (c5 8 nd (pv 4))
 (ah (bh (aD bN (pv 7) aU (aR _))
 (ak (c5 8 nd (da cV T.cL hr (ag (aC aM (pv 1) aj ao) (bc 6 aa) aY))))
 aV)
 (ah (c5 9 nd (dv zaj PySem.F.slot_list_index PySem.F.type_list_index Ip (pv 5) (ag (aC aM (pv 1) aj ao) aa aY)))
 (ah (c5 3 nd (bf wM (bf wM (oV Gz (pv 3) sX (sY (pv 9))) (aS (ag (bf cJ (pv 8) (aC aM (aC a9 (pv 0) (pv 9) k0) aj ao)) aa jb))) (oV Gz (pv 3) (sY (bf dP (pv 9) aj)) sX)))
 (ak (aO (aS (ag (aS (ag (aC aM (pv 2) aj ao) (bc 3 aa) aY)) (ag eU aa aP) bW))))))))
 aV)
 (ah (bh (aD bN (pv 7) aU (aR _))
 (ak (aO (aS (ag (aS (ag (aC aM (pv 2) aj ao) (bc 3 aa) aY)) (ag (da cV T.cL hr (ag (aC aM (pv 1) aj ao) (bc 6 aa) aY)) aa bH) bW))))
 aV)
 (ah (bh (aD bN (pv 7) aU (aR _))
 (ak (aO (aS (ag (aS (ag (aC aM (pv 2) aj ao) (bc 3 aa) aY)) (ag eU aa aP) bW))))
 aV)
 (ah (c5 10 nd (da cV T.cL hr (ag (aC aM (pv 1) aj ao) (bc 6 aa) aY)))
 (ah (c5 11 nd (da cV T.cL hr (ag (aC aM (pv 1) aj ao) (bc 6 aa) aY)))
 (ah (bh (PW.pt (pw_or (PW.pt (pw_and (aD oT (pv 10) (pv 11) (aR _)) (pw_and1 (aD bN (aC aM (pv 1) aj ao) aU (aR _))))) (pw_or1 (PW.pt (pw_and (aD bN (pv 10) (pv 11) (aR _)) (pw_and1 (aD bN (aC aM (pv 1) aj ao) aU (aR _))))))))
 (ak (aO (aS (ag (aS (ag (aC aM (pv 2) aj ao) (bc 3 aa) aY)) (ag eU aa aP) bW))))
 aV)
 (ah (bh (aD bN (pv 7) aU (aR _))
 (ak (aO (aS (cQ (vs:=[.cC,.cC]) (by kernel_rfl)))))
 aV)
 (ak (aO (aS (ag (aS (ag (aC aM (pv 2) aj ao) (bc 3 aa) aY)) (ag eU aa aP) bW)))))))))))))),rfl,?_⟩
 obtain⟨XA,hB,lB,hb⟩:=mX rB;refine av fun U1 eE=>?_;walk_at "r";simp only[jT];walk_at "r";refine⟨⟨_,hB⟩,fun D hD=>?_⟩;have lb':XA.length<=16000000:=by lia
 refine kn (K:=K) (r:=[]) (fun i=>V.str (S (bs.getD i ⟨[],0,0⟩).name)) hB lb' hD (fun i x H2 hx s2 R hR=>?_) (fun H1 s1 h1=>(eE _ _).mpr (av fun U2 gk=>?_))
 ·obtain⟨a,rfl,ha⟩:=hb i x hx;walk_at "r";exact aG (s2.a7 ha) (v:=.str (S (bs.getD i ⟨[],0,0⟩).name)) (au (j:=0) rfl) hR
 clear eE;rw[lB,jf (fun b:gb=>V.str (S b.name)) ⟨[],0,0⟩ bs] at h1;walk_at "r";simp only[W7];walk_at "r";have lv':(vals.map V.int).length=bs.length:=by rw[zad];exact lv
 refine⟨D,va,bs.map fun b=>.inr (S b.name),vals.map V.int,rfl,?_,s1.a7 E8,by rw[zad,zad];exact lv,fun d hd=>(gk _ _).mpr (av fun U3 i3=>?_)⟩
 ·rw[zbj];exact .of h1
 rw[nG,ie _ [] (by rw[zaK,lC _ _ lv'];exact names_nodup nb),zaK];clear gk;have s2:=s1.trans (aq.new hd (HO.dK (cG bs (vals.map V.int))));have hd2:upd H1 d (HO.dK (cG bs (vals.map V.int))) d=some (.dK (cG bs (vals.map V.int))):=ae;have M6:=aq.new hd (HO.dK (cG bs (vals.map V.int))) _ _ h1;generalize upd H1 d (HO.dK (cG bs (vals.map V.int)))=H2 at s2 hd2 M6 ⊢;have sel:∃ds,bQ K H ta (.str (gg st.wd)::ds):=by
  cases st<;>(rw[dH,Rep.bg] at rv;obtain⟨ta,ys,ee,hs,rs⟩:=rv;cases ee;rw[aN.aI] at rs;obtain⟨v0,t0,rfl,e0,rs⟩:=rs;rw[Rep.bA] at e0;subst e0;exact⟨_,hs⟩)
 obtain⟨ds,hs⟩:=sel;walk_at "r";refine aG (s2.a7 hs) (v:=.str (gg st.wd)) (au (j:=0) rfl) ((i3 _ _).mpr (av fun U4 kg=>?_));clear i3;have e0:ws[0]?=some (ws.getD 0 0):=by rw[zap,zac w0];rfl
 have q0:tm (ws.map V.int) ((0:Nat):Int)=some (V.int (ws.getD 0 0)):=au (by rw[zam,e0];rfl);have afK:vals.length<=10:=by lia
 have line:zds=2 ^ 24:=rfl;walk_at "r";intro z hz;have s3:=s2.trans (aq.new hz (HO.tup [V.str (zab "ask"),V.str (zab "put")]));have MY:=aq.new hz (HO.tup [V.str (zab "ask"),V.str (zab "put")]) _ _ hd2;have Ji:=aq.new hz (HO.tup [V.str (zab "ask"),V.str (zab "put")]) _ _ M6;have hz3:upd H2 z (HO.tup [V.str (zab "ask"),V.str (zab "put")]) z=some (HO.tup [V.str (zab "ask"),V.str (zab "put")]):=ae;generalize upd H2 z (HO.tup [V.str (zab "ask"),V.str (zab "put")])=H3 at s3 MY Ji hz3 ⊢;refine⟨z,_,rfl,.inr (.of hz3),rfl,rfl,_,rfl,b9 (fun e=>?_) (fun e=>?_)⟩
 ·clear kg;have e1:=e;simp only[zay,if_false,Qx,decide_eq_true_eq] at e1;have aai:∃b x y ys,b∈bs.map (·.name)/\bQ K H ta (x::y :: .str (S b)::ys)/\((st.wd=.ask/\lD bs st ws vals fig=(some (ws.getD 0 0,tU bs vals b (fig%eP bs b)),none))\/(st.wd=.put/\∃tr u,ys=[u]/\Rep K H (my tr) u/\DG bs vals tr/\lD bs st ws vals fig=(some (ws.getD 0 0,tU bs vals b (wv bs vals tr%eP bs b)),none))):=by
   rcases e1 with e1 |e1
   ·obtain⟨k,b,rfl⟩:=Mg e1;obtain⟨_,ee,hT⟩:=Al rv;cases ee;exact⟨b,_,_,_,po,hT,.inl ⟨rfl,rfl⟩⟩
   ·obtain⟨k,b,tr,rfl⟩:=Mh e1;obtain⟨_,u,ee,hT,ru⟩:=Am rv;cases ee;exact⟨b,_,_,_,po.1,hT,.inr ⟨rfl,tr,u,rfl,ru,po.2,rfl⟩⟩
  obtain⟨b,c1,c2,c3,sI,hT,QB⟩:=aai;obtain⟨hx,ex⟩:=kC sI;obtain⟨ni,nn⟩:=SM nb sI;have lj:c7 bs b<vals.length:=by lia
  obtain⟨vb,hvb⟩:∃vb,XA[c7 bs b]?=some vb:=⟨_,zac (by lia)⟩
  obtain⟨ab,rfl,Gq⟩:=hb _ _ hvb;have sz:(bs.getD (c7 bs b) ⟨[],0,0⟩).size=eP bs b:=by
   unfold eP;rw[zap,zac hx];rfl
  rw[sz] at Gq;refine b9 (fun e2=>?_) (fun e2=>?_)
  ·have ep:=(OU _).mp e2;rcases QB with ⟨ea,_⟩ |⟨_,tr,u,rfl,ru,tv,es⟩
   ·rw[ep] at ea;cases ea
   rw[es] at q;refine aG (s3.a7 hT) (v:=u) (au (j:=3) rfl) ⟨u,d,tr,_,rfl,ru.mono s3,MY,tv.1,by have:=tv.2;lia,by have:=tv.2;lia,fun H5 ME=>?_⟩;have s5:=s3.trans ME;refine⟨.inl ⟨rfl,_,.of (ME _ _ Ji)⟩,aG (s5.a7 hT) (v:=.str (S b)) (au (j:=2) rfl) ⟨D,bs.map fun b=>S b.name,S b,c7 bs b,rfl,rfl,by rw[zbj];exact ME _ _ Ji,ni,nn,⟨_,rfl,va,_,rfl,s5.a7 E8,fun p1 H6 s6' k1=>?_⟩⟩⟩;have s6:=s5.trans s6';refine bz (s6.seq hB) (v:=.ref ab) (au hvb) (aG (s6.a7 Gq) (v:=.int (eP bs b)) (au (j:=1) rfl) ⟨_,_,rfl,rfl,qA bp b,fun p2 yQ=>?_⟩);have s7:=s6.trans (aq.new yQ (HO.tup [V.int (wv bs vals tr%eP bs b)]));refine⟨p1,p2,_,_,rfl,rfl,(aq.new yQ _).a7 k1,.of ae,?_,fun p3 H8 s8' k3=>?_⟩
   ·have:=ff (vals.map V.int) none (some (c7 bs b:Int));rw[zad] at this;simp only[zah,zaA];lia
   have s8:=s7.trans s8';refine⟨_,_,rfl,rfl,_,rfl,va,_,rfl,s8.a7 E8,fun p4 H9 Wk k4=>⟨p3,p4,_,_,rfl,rfl,Wk.a7 k3,k4,?_,fun p5 vC SN k5=>?_⟩⟩
   ·have h1:=ff (vals.map V.int) none (some (c7 bs b:Int));have h2:=ff (vals.map V.int) (some ((c7 bs b:Int)+1)) none;rw[zad] at h1 h2;simp only[zae,zah,zaA];lia
   have sN:=(s8.trans Wk).trans SN;rw[G6 vals _ lj] at k5;refine aG (sN.a7 TH) (v:=.int (ws.getD 0 0)) q0 fun p6 i5 p7 uz=>?_;exact q p7 _ _ ((sN.trans (aq.new i5 _)).trans (aq.new uz _)) (.of ae) ⟨p6,rfl,p5,(aq.new uz _).a7 (.of ae),((aq.new i5 _).trans (aq.new uz _)).a7 k5⟩
  ·rcases QB with ⟨ea,es⟩ |⟨ep,_⟩
   rotate_left
   ·exact zzb ((OU _).mpr ep) e2
   have Zx:=VD ea;subst Zx;rw[es] at q;have ME:=aq.refl H3;have s5:=s3;refine⟨.inl ⟨rfl,_,.of (ME _ _ Ji)⟩,aG (s5.a7 hT) (v:=.str (S b)) (au (j:=2) rfl) ⟨D,bs.map fun b=>S b.name,S b,c7 bs b,rfl,rfl,by rw[zbj];exact ME _ _ Ji,ni,nn,⟨_,rfl,va,_,rfl,s5.a7 E8,fun p1 H6 s6' k1=>?_⟩⟩⟩;have s6:=s5.trans s6';refine bz (s6.seq hB) (v:=.ref ab) (au hvb) (aG (s6.a7 Gq) (v:=.int (eP bs b)) (au (j:=1) rfl) ⟨_,_,rfl,rfl,qA bp b,fun p2 yQ=>?_⟩);have s7:=s6.trans (aq.new yQ (HO.tup [V.int (fig%eP bs b)]));refine⟨p1,p2,_,_,rfl,rfl,(aq.new yQ _).a7 k1,.of ae,?_,fun p3 H8 s8' k3=>?_⟩
   ·have:=ff (vals.map V.int) none (some (c7 bs b:Int));rw[zad] at this;simp only[zah,zaA];lia
   have s8:=s7.trans s8';refine⟨_,_,rfl,rfl,_,rfl,va,_,rfl,s8.a7 E8,fun p4 H9 Wk k4=>⟨p3,p4,_,_,rfl,rfl,Wk.a7 k3,k4,?_,fun p5 vC SN k5=>?_⟩⟩
   ·have h1:=ff (vals.map V.int) none (some (c7 bs b:Int));have h2:=ff (vals.map V.int) (some ((c7 bs b:Int)+1)) none;rw[zad] at h1 h2;simp only[zae,zah,zaA];lia
   have sN:=(s8.trans Wk).trans SN;rw[G6 vals _ lj] at k5;refine aG (sN.a7 TH) (v:=.int (ws.getD 0 0)) q0 fun p6 i5 p7 uz=>?_;exact q p7 _ _ ((sN.trans (aq.new i5 _)).trans (aq.new uz _)) (.of ae) ⟨p6,rfl,p5,(aq.new uz _).a7 (.of ae),((aq.new i5 _).trans (aq.new uz _)).a7 k5⟩
 have e1:=e;simp only[zay,if_false,Qx,decide_eq_true_eq] at e1;refine(kg _ _).mpr (av fun U5 uv=>?_);clear kg e;walk_at "r";refine b9 (fun e2=>?_) (fun e2=>?_)
 ·obtain⟨k,tr,rfl⟩:=Mi ((OV _).mp e2);obtain⟨_,u,ee,hT,ru⟩:=An rv;cases ee;refine aG (s3.a7 TH) (v:=.int (ws.getD 0 0)) q0 fun p6 i5=>?_;have s4:=s3.trans (aq.new i5 (HO.tup [V.int (ws.getD 0 0),V.ref va]));refine aG (s4.a7 hT) (v:=u) (au (j:=2) rfl) ⟨u,d,tr,_,rfl,ru.mono s4,aq.new i5 _ _ _ MY,po.1,by have:=po.2;lia,by have:=po.2;lia,fun H5 s5 p7 uz=>?_⟩;exact q p7 _ _ ((s4.trans s5).trans (aq.new uz _)) (.of ae) ⟨p6,rfl,va,(s5.trans (aq.new uz _)).a7 (.of ae),((s4.trans s5).trans (aq.new uz _)).a7 E8⟩
 refine(uv _ _).mpr (av fun U6 yK=>?_);clear uv;walk_at "r";refine b9 (fun e3=>?_) (fun e3=>?_)
 ·obtain⟨k,rfl⟩:=SK ((Qy _).mp e3);refine aG (s3.a7 TH) (v:=.int (ws.getD 0 0)) q0 fun p6 i5 p7 uz=>?_;have s4:=(s3.trans (aq.new i5 (HO.tup [V.int (ws.getD 0 0),V.ref va]))).trans (aq.new uz (HO.tup [V.ref p6,V.cC]));exact q p7 _ _ s4 (.of ae) ⟨p6,rfl,va,(aq.new uz _).a7 (.of ae),s4.a7 E8⟩
 have ec:=MF e1 (fun z=>e2 ((OV _).mpr z)) (fun z=>e3 ((Qy _).mpr z));obtain⟨sg,l,r,cp,tl,tr,es⟩:=cond_of ec po;have Ky:=QA so cp;rw[es] at q;unfold iH at q;rw[cp] at q;simp only at q;obtain⟨_,w0',vl,vr,ys,ee,hT,rl,rr⟩:=rW rv cp;cases ee;refine(yK _ _).mpr (av fun U7 GX=>?_);clear yK;walk_at "r";refine aG (s3.a7 hT) (v:=vl) (au (j:=3) rfl) ⟨vl,d,l,_,rfl,rl.mono s3,MY,tl.1,by have:=tl.2;lia,by have:=tl.2;lia,fun H4 VA=>(GX _ _).mpr (av fun U8 SO=>?_)⟩;clear GX;have s4:=s3.trans VA;walk_at "r";refine aG (s4.a7 hT) (v:=vr) (au (j:=4) rfl) ⟨vr,d,r,_,rfl,rr.mono s4,VA _ _ MY,tr.1,by have:=tr.2;lia,by have:=tr.2;lia,fun H5 ME=>(SO _ _).mpr (av fun U9 TJ=>?_)⟩;clear SO;have s5:=s4.trans ME;have ea:(V.str (S sg)=V.str (zab "<"))↔sg=[60]:=by rw[show (zab "<":Str)=S [60] from rfl,V.str.injEq,mw]
 have eb:(V.str (S sg)=V.str (zab "="))↔sg=[61]:=by rw[show (zab "=":Str)=S [61] from rfl,V.str.injEq,mw]
 walk_at "r";have yes:gS sg (wv bs vals l) (wv bs vals r)=true->Ee K (.ref wa) (.int 0) H5 (fun x H1=>∀p,H1 p=none->∀p_1,upd H1 p (.tup [x,.ref va]) p_1=none->Q (.ref p_1) (upd (upd H1 p (.tup [x,.ref va])) p_1 (.tup [.ref p,.cC]))):=fun c=>by
  rw[zzp c] at q;refine aG (s5.a7 TH) (v:=.int (ws.getD 0 0)) q0 fun p6 i5 p7 uz=>?_;have s6:=(s5.trans (aq.new i5 (HO.tup [V.int (ws.getD 0 0),V.ref va]))).trans (aq.new uz (HO.tup [V.ref p6,V.cC]));exact q p7 _ _ s6 (.of ae) ⟨p6,rfl,va,(aq.new uz _).a7 (.of ae),s6.a7 E8⟩
 have no:gS sg (wv bs vals l) (wv bs vals r)≠true->U9 [some (.ref B),some (.ref ta),some (.ref wa),some (.ref va),some fv,some (.ref D),some (.ref d),some (.str (gg st.wd)),none,none,some (.int (wv bs vals l)),some (.int (wv bs vals r))] H5:=fun c=>by
  rw[zzn c] at q;refine(TJ _ _).mpr ?_;clear TJ yes;walk_at "r";refine b9 (fun e4=>?_) (fun e4=>?_)
  ·rw[zzp ((Qz _).mp e4)] at q;intro p6 i5;exact q p6 _ _ (s5.trans (aq.new i5 _)) (.of ae) rfl
  ·have nm:st.wd≠.cg:=fun z=>e4 ((Qz _).mpr z);rw[zzn nm] at q;have w1:=w1 (by rcases ec with e |e |e;exact zzb e nm;exact .inl e;exact .inr e);have e1:ws[1]?=some (ws.getD 1 0):=by rw[zap,zac w1];rfl
   have q1:tm (ws.map V.int) ((1:Nat):Int)=some (V.int (ws.getD 1 0)):=au (by rw[zam,e1];rfl);refine aG (s5.a7 TH) (v:=.int (ws.getD 1 0)) q1 fun p6 i5 p7 uz=>?_;have s6:=(s5.trans (aq.new i5 (HO.tup [V.int (ws.getD 1 0),V.ref va]))).trans (aq.new uz (HO.tup [V.ref p6,V.cC]));exact q p7 _ _ s6 (.of ae) ⟨p6,rfl,va,(aq.new uz _).a7 (.of ae),s6.a7 E8⟩
 have c60:sg=[60]->gS sg (wv bs vals l) (wv bs vals r)=decide (wv bs vals l<wv bs vals r):=fun z=>by unfold gS;rw[zzp z]
 have Wl:sg=[61]->gS sg (wv bs vals l) (wv bs vals r)=decide (wv bs vals l=wv bs vals r):=fun z=>by unfold gS;rw[zzn (by rw[z];decide)]
 have un:∀e:PM.Tr,cx (yS (cG bs (List.map V.int vals))) e=wv bs vals e:=fun _=>rfl;rw[un,un] at *;refine b9 (fun c1=>aG (s5.a7 hT) (v:=.str (S sg)) (au (j:=2) rfl) ⟨rfl,b9 (fun c2=>?_) (fun c2=>?_)⟩) (fun c1=>?_)
 ·refine b9 (fun _=>yes ?_) (fun z=>zzb trivial z);rw[c60 (ea.mp c2)];exact decide_eq_true c1
 ·have Wl:=Wl (Ky.resolve_left fun z=>c2 (ea.mpr z));refine b9 (fun c3=>by lia) (fun c3=>b9 (fun z=>by cases z) (fun _=>no ?_));rw[Wl];simpa using c3
 ·refine b9 (fun z=>by cases z) (fun _=>b9 (fun c3=>aG (s5.a7 hT) (v:=.str (S sg)) (au (j:=2) rfl) ⟨rfl,b9 (fun c4=>yes ?_) (fun c4=>no ?_)⟩) (fun c3=>b9 (fun z=>by cases z) (fun _=>no ?_)))
  ·rw[Wl (eb.mp c4)];exact decide_eq_true c3
  ·rw[c60 (Ky.resolve_right fun z=>c4 (eb.mpr z))];simpa using c1
  ·rcases Ky with z |z
   ·rw[c60 z];simpa using c1
   ·rw[Wl z];simpa using c3
theorem SQ(st:bG):gg st.wd≠zab "end":=by
 have k:∀w:Wd,w≠.fin->gg w≠zab "end":=by
  intro w h;cases w<;>first |exact zzb rfl h |decide +kernel
 exact k _ (by cases st<;>(intro z;cases z))
theorem ze(T:Tx K mg t):bJ P w K mg base dw 5 t.iO t.jm ["chart", "standing"] (RT K t.aW):=by
 have mY:=@su P w _ _ base _ T;have wX:=@Dh P w _ _ base _ T;refine T.j8.F.lS qQ (fun vs H Q E h=>?_) (fun eS A outer s H vs Q E hr h=>?_)
 ·obtain⟨_,_,_,_,rfl,_⟩:=h;rfl
 obtain⟨ch,sa,pr,⟨row,vals⟩,rfl,co,dr,sG,si,q⟩:=h;have nd:=qQ.nd;refine⟨_,[some (.ref ch),some (.ref sa),none,none],(ah (c5 2 nd (aC aM (pv 1) aj ao))
 (ah (c5 3 nd (da mY T.kx hr (bc 0 (bc 2 aa))))
 (ah (bh (aD bN (pv 3) aU (aR _))
 (ak (aO (bu (ag (aS (ag aU aa aP)) aa bW))))
 aV)
 (ah (bh (aD ja (pv 3) (aS (cQ (vs:=[.str "if",.str "while"]) (by kernel_rfl))) rfl)
 (ak (aO (bu (ag (aS (ag aU (bc 2 aa) aP)) (ag (aS (ag aU (bc 2 (ag (da wX T.qy hr (bc 0 (bc 1 aa))) aa bH)) aP)) aa bW) bW))))
 aV)
 (ah (bh (PW.pt (pw_and (aD bN (pv 3) aU (aR _)) (pw_and1 (DO (rG (da wX T.qy hr (bc 0 (bc 1 aa))))))))
 (ak (aO (bu (ag (aS (ag aU (bc 2 aa) aP)) (ag (aS (ag aU (bc 2 aa) aP)) aa bW) bW))))
 aV)
 (ak (aO (bu (ag (aS (ag aU (bc 2 aa) aP)) aa bW))))))))),rfl,?_⟩
 obtain⟨va,wg,yH⟩:=id sG;refine av fun U1 eE=>?_;walk_at "r";refine aG wg (v:=.int row) (au (j:=0) rfl) ((eE _ _).mpr (av fun U2 gk=>?_));clear eE;walk_at "r";refine⟨ch,pr,row,rfl,co,dr.ok.pw,?_⟩;by_cases h0:row=0
 ·subst h0;refine .inl ⟨rfl,(gk _ _).mpr (av fun U3 i3=>?_)⟩;walk_at "r";intro p hp;generalize e1:upd H p _=H1;have s1:=gT e1 hp;have r1:Rep K H1 (eR .fin) (.ref p):=M3 e1 hp (.cons rS .nil);intro l hl;generalize e2:upd H1 l _=H2;have s2:=gL e2 hl;refine q l _ _ (s1.trans s2) (s1.free hl) ⟨Oj e2,?_⟩;unfold oG;rw[zzp rfl];exact .cons (r1.mono s2) .nil
 ·obtain⟨i,hi,rfl⟩:=si.ok.row.resolve_left h0;refine .inr ⟨h0,i,hi,rfl,(gk _ _).mpr ?_⟩;clear gk;have est:xM pr.body (az pr.body)[i].row=(az pr.body)[i]:=nI dr.ok.pw i hi;unfold oG at q;rw[zzn h0] at q;simp only[est] at q;obtain⟨po,so⟩:=A1 si.ok.len dr.ok.nb si.ok.small (jg pr.body _ dr.own (zau hi));refine av fun U3 i3=>?_;walk_at "r";refine b9 (fun z=>zzb z (SQ _)) (fun _=>(i3 _ _).mpr (av fun U4 kg=>?_));clear i3;walk_at "r";intro p5 yM;refine⟨p5,_,rfl,.inr (.of ae),rfl,rfl,_,rfl,?_⟩;generalize e5:upd H p5 _=H5;have s5:=gT e5 yM;rw[wK];by_cases hl:(az pr.body)[i].wd=.ifs\/(az pr.body)[i].wd=.fc
  ·obtain⟨sg,l,r,cp,tl,tr,_⟩:=cond_of (.inr hl) po;have nm:(az pr.body)[i].wd≠.cg:=by rcases hl with e |e<;>rw[e]<;>decide
   simp only[cp] at q;rw[zzn nm] at q;refine(zzp (decide_eq_true hl)).mpr fun p6 i5=>?_;generalize e6:upd H5 p6 _=H6;have s6:=gT e6 i5;have r6:Rep K H6 (eR (.row (az pr.body)[i].row)) (.ref p6):=M3 e6 i5 (.cons rS (.cons PZ .nil));refine⟨ch,sa,pr,vals,i,hi,sg,l,r,rfl,co.mono (s5.trans s6),dr.ok,sG.mono (s5.trans s6),si.ok.len,cp,tl,tr,fun H7 s7 p8 Jj=>?_⟩;generalize e8:upd H7 p8 _=H8;have s8:=gT e8 Jj;have r8:Rep K H8 (eR (.side (az pr.body)[i].row (gS sg (wv pr.ay vals l) (wv pr.ay vals r)))) (.ref p8):=M3 e8 Jj (.cons rS (.cons PZ (.cons (Rep.lQ.mpr rfl) .nil)));intro l9 O6;generalize e9:upd H8 l9 _=H9;have s9:=gL e9 O6;have Wm:=s5.trans (s6.trans (s7.trans s8));exact q l9 _ _ (Wm.trans s9) (Wm.free O6) ⟨Oj e9,.cons (r6.mono (s7.trans (s8.trans s9))) (.cons (r8.mono s9) .nil)⟩
  ·refine(zzn (by rw[decide_eq_false hl];exact zai)).mpr ((kg _ _).mpr (av fun U5 uv=>?_));clear kg;have last:∀H7,aq H H7->(∀l us H',aq H H'->H l=none->GH K H' l us [.row (az pr.body)[i].row]->Q (.ref l) H')->U5 [some (.ref ch),some (.ref sa),some (.int (az pr.body)[i].row),some (.str (gg (az pr.body)[i].wd))] H7:=by
    intro H7 s7 q;refine(uv _ _).mpr ?_;clear uv;walk_at "r";intro p6 i5;generalize e6:upd H7 p6 _=H6;have s6:=gT e6 i5;have r6:Rep K H6 (eR (.row (az pr.body)[i].row)) (.ref p6):=M3 e6 i5 (.cons rS (.cons PZ .nil));intro l9 O6;generalize e9:upd H6 l9 _=H9;have s9:=gL e9 O6;exact q l9 _ _ (s7.trans (s6.trans s9)) ((s7.trans s6).free O6) ⟨Oj e9,.cons (r6.mono s9) .nil⟩
   walk_at "r";refine b9 (fun e=>?_) (fun e=>?_)
   ·have ew:=(pF _).mp (congrArg V.str e);obtain⟨sg,l,r,cp,tl,tr,_⟩:=cond_of (.inl ew) po;simp only[cp] at q;rw[zzp ew] at q;refine⟨ch,sa,pr,vals,i,hi,sg,l,r,rfl,co.mono s5,dr.ok,sG.mono s5,si.ok.len,cp,tl,tr,fun H7 s7=>?_⟩;cases hc:gS sg (wv pr.ay vals l) (wv pr.ay vals r) with
    |true=>
     simp only[hc,if_true] at q;exact⟨_,rfl,(zzn (by decide)).mpr (last _ (s5.trans s7) q)⟩
    |false=>
     simp only[hc,zay,if_false] at q;refine⟨_,rfl,(zzp (by decide)).mpr fun p6 i5=>?_⟩;generalize e6:upd H7 p6 _=H6;have s6:=gT e6 i5;have r6:Rep K H6 (eR (.row (az pr.body)[i].row)) (.ref p6):=M3 e6 i5 (.cons rS (.cons PZ .nil));intro p8 Jj;generalize e8:upd H6 p8 _=H8;have s8:=gT e8 Jj;have r8:Rep K H8 (eR (.cg (az pr.body)[i].row)) (.ref p8):=M3 e8 Jj (.cons rS (.cons PZ .nil));intro l9 O6;generalize e9:upd H8 l9 _=H9;have s9:=gL e9 O6;have Wm:=s5.trans (s7.trans (s6.trans s8));exact q l9 _ _ (Wm.trans s9) (Wm.free O6) ⟨Oj e9,.cons (r6.mono (s8.trans s9)) (.cons (r8.mono s9) .nil)⟩
   ·have ew:(az pr.body)[i].wd≠.cg:=fun z=>e (V.str.inj ((pF _).mpr z));have cn:pK (az pr.body)[i]=none:=by
     generalize (az pr.body)[i]=st at ew hl;cases st<;>first |rfl |exact zzb rfl ew |exact zzb (.inl rfl) hl |exact zzb (.inr rfl) hl
    simp only[cn] at q;exact last _ s5 q
theorem Bt(T:Tx K mg t):bJ P w K mg base dw 8 t.jF t.j6 ["program", "rows"] (RU K):=by
 have Ds:=@O4 P w _ _ base _ T;have pZ:=@G4 P w _ _ base _ T;have qC:=@Qw P w _ _ base _ T;have i4:=@Dr P w _ _ base _ T 4;refine T.lM.F.lS uk (fun vs H Q E h=>?_) (fun eS A outer s H vs Q E hr h=>?_)
 ·obtain⟨_,_,_,_,_,_,rfl,_⟩:=h;rfl
 obtain⟨pa,R,Dk,dys,pr,rows,rfl,XB,dr,rp,rr,lr,tx,q⟩:=h;have nd:=uk.nd;have hu:=dS hr;refine⟨_,[some (.ref pa),some (.ref R),none,none,none,none,none],(ah (c5 2 nd xl)
 (ah (du PassesOwn.never rfl (cI (da Ds T.lL hr (bc 1 aa))) (rH rfl (bM (lY 3 nd) (bM (lY 4 nd) (bM (lY 5 nd) iA))))
 (ak (nh hu (pv 2) (pv 3) (pv 5) rfl)))
 (ah (c5 6 nd (aS (ag (da qC T.ky hr (bc 1 (ag (da pZ T.jH hr (bc 1 aa)) (ag aj aa aP) bH))) (ag (fO lP rfl T.uq PyProof.Rows.Boot.«tuple» (ag (hG (own:=["box"]) (ix:=[]) rfl (by rfl) (by rfl) (cI (aC aM (pv 0) aj ao)) (fun _ _ _ _=>(fZ (i:=0) (by show List.Nodup (["box"]:List Str);decide +kernel) rfl (zbq rfl))) (fun _ _ _ _=>iC) (fun _ _ _ _=>(aC (iF (K:=K) rfl) (pv 0) aj ao))) aa lh)) aa bH) bH)))
 (ak (aO (bu (ag (aC aM (pv 0) aj ao) (ag (da i4 T.eB hr (ag (aC aM (pv 0) aj ao) aa aY)) (bc 2 (bc 6 aa)) bH) aY))))))),rfl,?_⟩
 have line:zds=2 ^ 24:=rfl;unfold je at rp;rw[Rep.bg] at rp;obtain⟨_,pxs,e,Qm,E7⟩:=rp;cases e;rw[aN.aI] at E7;obtain⟨v1,t1,rfl,OO,E7⟩:=E7;rw[aN.aI] at E7;obtain⟨v2,t2,rfl,Tq,E7⟩:=E7;rw[aN.br] at E7;subst E7;obtain⟨bb,_,rfl,_⟩:=Rep.bL.mp Tq;obtain⟨B,_,rfl,_⟩:=Rep.bL.mp OO;have Qm:=qu.a7 Qm;have Wn:=OO;have OO:=Wn.mono qu;have pw:=dr.ok.pw;have uZ:=dr.uZ;have uL:(aQ pr.body 0).length=(az pr.body).length:=by
  have h1:=congrArg za6 (cY pr.body 0);have h2:=mE pr.body;rw[zad] at h1;lia
 have sl:=mE pr.body;refine av fun U1 eE=>?_;walk_at "r";intro wy hwy;refine(eE _ _).mpr (av fun U2 gk=>?_);clear eE;have s1:=aq.new hwy (.dK []);have wy1:(upd H wy (.dK [])) wy=some (.dK []):=ae;generalize upd H wy (.dK [])=H1 at *;refine fH fun U hU=>?_;walk_at "r";refine⟨R,rows,pr.body,rfl,rr.mono s1,lr,tx,fun l2 Gx H2 s2 Em y2 r2=>⟨l2,rfl,⟨Gx,.of y2⟩,hU _ _ ?_⟩⟩;clear hU;have wy2:=s2 _ _ wy1;have nl2:l2≠wy:=fun z=>by rw[z,wy1] at Em;cases Em
 have lu2:Gx.length=(aQ pr.body 0).length:=by rw[r2.length,zad]
 obtain⟨Pv,mh,dQ⟩:=xW fun (i:Nat) (σ:St) (Hx:Hp) zq=>∀(z3 z4 z5:Option V) (ax:List (Key×V)),σ=[some (.ref pa),some (.ref R),some (.ref wy),z3,z4,z5,none]->aZ wy H2 Hx->Hx wy=some (.dK ax)->ax.length<=i->(∀j (hj:j<(aQ pr.body 0).length),j<i->∃y,cm ax (.inl (aQ pr.body 0)[j].1)=some (.ref y)/\bQ K H2 y ((aQ pr.body 0)[j].2.2.map V.int))->zq;refine fG (K:=K) (a:=l2) (xs:=Gx) Pv ((mh _ _ _ fun _ zk=>zk _ _ _ [] rfl (.refl _ _) wy2 (zaf _) (fun j _ z=>zzb z (Nat.not_lt_zero _)))) (fun i σ Hx _ hv=>?_) ?_ ?_
 ·refine dQ _ _ _ hv _ fun _ _ _ _ _ ux _ _ _=>?_;exact .of (ux _ _ nl2 y2)
 ·intro i y σ Hx hi hv;refine dQ _ _ _ hv _ fun z3 z4 z5 ax kU ux wyx lk get=>?_;subst kU;clear hv;have li:i<(aQ pr.body 0).length:=by have:=(zak.mp hi).1;lia
  obtain⟨ya,yp,rfl,hx,hp⟩:=CF r2 hi li;refine⟨ya,_,rfl,hx.dk wy2 ux,rfl,_,_,rfl,_,_,rfl,_,_,rfl,rfl,?_⟩;simp only[zaT];walk_at "r";refine⟨wy,_,rfl,.inl ⟨ax,.inl (aQ pr.body 0)[i].1,wyx,rfl,by lia,rfl⟩,?_⟩;refine(mh _ _ _ fun _ zk=>zk _ _ _ _ rfl (ux.put _) ae (zaC (tS _ _ _) (by lia)) (fun j hj lt=>?_));rw[oX];by_cases e:j=i
  ·subst e;rw[zzp rfl];exact⟨yp,rfl,hp⟩
  ·obtain⟨_,e1,_⟩:=gW pr.body j (by lia);obtain⟨_,e2,_⟩:=gW pr.body i (by lia);have:=zbJ.mp pw j i (by lia) (by lia) (by lia);rw[zzn (fun z=>by have z:=Sum.inl.inj z;lia)];exact get j hj (by lia)
 intro σ H3 hv;refine dQ _ _ _ hv _ fun z3 z4 z5 ax kW u3 wy3 _ get=>?_;subst kW;clear hv;rw[lu2] at get;have s3:aq H H3:=fun z o e=>u3 z o (ai e hwy) (s2 _ _ (s1 _ _ e));refine(gk _ _).mpr (av fun U4 kg=>?_);clear gk;walk_at "r";simp only[jT];walk_at "r";refine⟨R,rows,pr.body,rfl,rr.mono s3,lr,tx,fun d5 H5 mt5=>?_⟩;have s5:aq H3 H5:=by obtain⟨_,_,mi⟩:=mt5;exact mi.s
 refine⟨R,d5,rows,pr.body,H3,0,rfl,rr.mono (s3.trans s5),lr,tx,mt5,?_⟩;have XC:=s3.trans s5;obtain⟨XA,hB,lB,hbx⟩:=mX OO;have aar:=dr.ok.uZ;refine aG (XC.a7 Qm) (v:=.ref B) (au (j:=0) rfl) ⟨B,rfl,⟨_,XC.seq hB⟩,fun D6 Tt=>?_⟩;refine kn (K:=K) (r:=[]) (fun i=>V.int (pr.ay.getD i ⟨[],0,0⟩).first) (XC.seq hB) (by lia) Tt (fun i x H2 hx s2 R hR=>?_) (fun H6 s6 h6=>?_)
 ·obtain⟨a,rfl,ha⟩:=hbx i x hx;walk_at "r";exact aG ((XC.trans s2).a7 ha) (v:=.int (pr.ay.getD i ⟨[],0,0⟩).first) (au (j:=2) rfl) hR
 rw[lB,jf (fun b:gb=>V.int b.first) ⟨[],0,0⟩ pr.ay] at h6;refine⟨D6,_,rfl,.inl ⟨.of h6,fun t6 ht6 p6 i5=>(kg _ _).mpr ?_⟩⟩;clear kg;have e6:(pr.ay.map fun b=>V.int b.first)=(pr.ay.map (·.first)).map V.int:=by rw[zbj];rfl
 rw[e6] at i5 ⊢;rw[KL tx];have s7a:=aq.new ht6 (.tup ((pr.ay.map (·.first)).map V.int));have s7b:=aq.new i5 (.tup [V.int (bj pr.body 0),V.ref t6]);have s37:=s5.trans (s6.trans (s7a.trans s7b));have st7:cE K (upd (upd H6 t6 (.tup ((pr.ay.map (·.first)).map V.int))) p6 (.tup [V.int (bj pr.body 0),V.ref t6])) p6 (bj pr.body 0) (pr.ay.map (·.first)):=⟨t6,.of ae,s7b.a7 (.of ae)⟩
 clear s7a s7b;generalize upd (upd H6 t6 (.tup ((pr.ay.map (·.first)).map V.int))) p6 (.tup [V.int (bj pr.body 0),V.ref t6])=HB at *;have TK:=s3.trans s37;walk_at "r";refine aG (TK.a7 Qm) (v:=.ref B) (au (j:=0) rfl) (aG (TK.a7 Qm) (v:=.ref bb) (au (j:=1) rfl) ⟨bb,pr.body,oP Dk H,rfl,qu.trans TK,Tq,by have:=dr.dep;lia,by lia,pw,fun d8 us8 H8 s8 hd8 l8 y8 r8 md XD=>?_⟩);generalize e9:upd H8 md _=H9;have s9:=gL e9 XD;have IU:=TK.trans (s8.trans s9);have s39:=s37.trans (s8.trans s9);have l09:=IB (D:=Dk) IU;have Xn:=IU _ _ XB;have nmd:md≠Dk:=(ai ((TK.trans s8) _ _ XB) XD).symm;have nd8:d8≠Dk:=(ai (TK _ _ XB) hd8).symm;have nwy:wy≠Dk:=(ai XB hwy).symm;refine q md H9 IU ⟨⟨B,d8,wy,p6,us8,ax,.of (by rw[nH nmd];exact Oj e9),Wn.mono l09,by rw[nH nd8];exact s9 _ _ y8,l8,r8.mono l09,by rw[nH nwy];exact s39 _ _ wy3,fun i hi=>?_,(st7.mono (s8.trans s9)).oP Xn⟩⟩;obtain⟨y,e,k⟩:=get i hi hi;exact⟨y,e,(s39.a7 (k.dk wy2 u3)).oP Xn⟩
theorem i9(T:Tx K mg t):bJ P w K mg base dw 5 t.cW t.dN ["made", "standing", "figure"] (Lw K):=by
 have yu:=@wu P w _ _ base _ T;refine T.cX.F.lS i8 (fun vs H Q E h=>?_) (fun eS A outer s H vs Q E hr h=>?_)
 ·obtain⟨_,_,_,_,_,_,rfl,_⟩:=h;rfl
 obtain⟨md,sa,fv,pr,⟨row,vals⟩,f,rfl,ma,dr,sG,si,h0,VD,q⟩:=h;have nd:=i8.nd;have hu:=dS hr;refine⟨_,[some (.ref md),some (.ref sa),some fv,none],(ah (c5 3 nd (aC aM (pv 1) aj ao))
 (ak (aO (aC aM (da yu T.iZ hr (ag (aC a9 (pv 0) aj ao) (ag (cf hu (aC a9 (pv 0) aj ao) (pv 3) (fun _ _=>rfl)) (ag (cf hu (aC a9 (pv 0) aj ao) (pv 3) (fun _ _=>rfl)) (ag (aC aM (pv 1) aj ao) (bc 2 aa) aY) aY) aY) aY)) aj ao)))),rfl,?_⟩
 obtain⟨i,hi,rfl⟩:=si.ok.row.resolve_left h0;obtain⟨hf,ek,ew⟩:=gW pr.body i hi;obtain⟨w0,w1⟩:=jd pr.body 0 _ (zau hf);rw[ew] at w1;obtain⟨po,so⟩:=A1 si.ok.len dr.ok.nb si.ok.small (jg pr.body _ dr.own (zau hi));have bp:∀b∈pr.ay,0<b.size:=fun b hb=>by have:=dr.size b hb;lia
 obtain⟨B,d8,wy,fa,ta,y,us,ys,ax,h1,h2,h3,g3,rt,Oy,h6,g6,hy⟩:=ma.row dr.ok hi hf;obtain⟨va,wg,yH⟩:=id sG;have aat:(az pr.body)[i].wd=.ask->fv=.int f:=fun e=>VD (by unfold dc;rw[nI dr.ok.pw i hi];exact decide_eq_true e);simp only[CT dr.ok hi hf] at q;refine av fun U1 eE=>?_;walk_at "r";refine aG wg (v:=.int (az pr.body)[i].row) (au (j:=0) rfl) ((eE _ _).mpr ?_);clear eE;walk_at "r";refine bz h1 (v:=.ref B) (au (j:=0) rfl) (bz h1 (v:=.ref d8) (au (j:=1) rfl) ⟨d8,_,rfl,.inl ⟨_,.inl (az pr.body)[i].row,.inl h3,rfl,g3.symm⟩,bz h1 (v:=.ref wy) (au (j:=2) rfl) ⟨wy,_,rfl,.inl ⟨_,.inl (az pr.body)[i].row,.inl h6,rfl,g6.symm⟩,aG wg (v:=.ref va) (au (j:=1) rfl) ?_⟩⟩);refine⟨B,ta,y,va,fv,pr.ay,(az pr.body)[i],(aQ pr.body 0)[i].2.2,vals,f,rfl,h2,rt,hy,yH,dr.ok.nb,dr.ok.uZ,bp,si.ok.len,aat,po,so,w0,w1,fun q1 sv H1 s1 k1 o1=>?_⟩;exact aG k1 (v:=sv) (au (j:=0) rfl) (q sv H1 s1 o1)
theorem p0(T:Tx K mg t):bJ P w K mg base dw 1 t.gY t.iU ["made", "standing"] (Oz K):=by
 refine T.g7.F.lS pW (fun vs H Q E h=>?_) (fun eS A outer s H vs Q E hr h=>?_)
 ·obtain⟨_,_,_,_,rfl,_⟩:=h;rfl
 obtain⟨md,sa,pr,⟨row,vals⟩,rfl,ma,dr,sG,si,q⟩:=h;have nd:=pW.nd;have hu:=dS hr;refine⟨_,[some (.ref md),some (.ref sa)],(ak (aO (DP (kX JB (aC aM (pv 1) aj ao) aj (aR _)) (Ax (kX bN (aC aM (cf hu (aC a9 (pv 0) aj ao) (aC aM (pv 1) aj ao) (fun _ _=>rfl)) aj ao) aU (aR _)))))),rfl,?_⟩;obtain⟨va,wg,yH⟩:=id sG;walk_at "r";refine aG wg (v:=.int row) (au (j:=0) rfl) ⟨rfl,?_⟩;by_cases h0:row=0
 ·subst h0;rw[tY dr.ok] at q;exact(zzp rfl).mpr q
 ·obtain⟨i,hi,rfl⟩:=si.ok.row.resolve_left h0;obtain⟨hf,ek,ew⟩:=gW pr.body i hi;obtain⟨B,d8,wy,fa,ta,y,us,ys,ax,h1,h2,h3,g3,rt,Oy,h6,g6,hy⟩:=ma.row dr.ok hi hf;unfold dc at q;rw[nI dr.ok.pw i hi] at q;refine(zzn (fun z=>h0 (V.int.inj z))).mpr (bz h1 (v:=.ref d8) (au (j:=1) rfl) (aG wg (v:=.int (az pr.body)[i].row) (au (j:=0) rfl) ⟨d8,_,rfl,.inl ⟨_,.inl (az pr.body)[i].row,.inl h3,rfl,g3.symm⟩,aG Oy (v:=.str (gg (az pr.body)[i].wd)) (au (j:=0) rfl) ⟨rfl,?_⟩⟩));have e:decide (V.str (gg (az pr.body)[i].wd)=V.str (zab "ask"))=decide ((az pr.body)[i].wd=.ask):=decide_eq_decide.mpr ⟨fun z=>(E9 _).mp (V.str.inj z),fun z=>congrArg V.str ((E9 _).mpr z)⟩;rw[e];exact q
theorem MG:∀w:Wd,Nz (V.str (gg w)) [V.str (zab "if"),V.str (zab "while"),V.str (zab "must")]=decide (w=.cg\/w=.ifs\/w=.fc):=by
 intro w;cases w<;>decide +kernel
theorem Dt(T:Tx K mg t):bJ P w K mg base dw 5 t.kN t.lK ["made", "standing"] (RV K):=by
 have cV:=@sr P w _ _ base _ T 3;refine T.oo.F.lS vX (fun vs H Q E h=>?_) (fun eS A outer s H vs Q E hr h=>?_)
 ·obtain⟨_,_,_,_,rfl,_⟩:=h;rfl
 obtain⟨md,sa,pr,⟨row,vals⟩,rfl,ma,dr,sG,si,q⟩:=h;have nd:=vX.nd;have hu:=dS hr;refine⟨_,[some (.ref md),some (.ref sa),none,none,none,none,none,none,none],(ah (c5 2 nd (aC aM (pv 1) aj ao))
 (ah (bh (aD bN (pv 2) aj (aR _))
 (ak (aO (bu (ag (aS (ag aU aa aP)) aa bW))))
 aV)
 (ah (c5 3 nd (bu (ag (aS (ag aU (bc 2 aa) aP)) aa bW)))
 (ah (c5 4 nd (cf hu (aC a9 (pv 0) aj ao) (pv 2) (fun _ _=>rfl)))
 (ah (bh (aD ja (aC aM (pv 4) aj ao) (aS (cQ (vs:=[.str "if",.str "while",.str "must"]) (by kernel_rfl))) rfl)
 (ah (c5 5 nd (rT rfl rfl T.pX rfl T.Dd (ag (hG (own:=["box"]) (ix:=[]) rfl (by rfl) (by rfl) (cI (aC a9 (pv 0) aj ao)) (fun _ _ _ _=>(fZ (i:=0) (by show List.Nodup (["box"]:List Str);decide +kernel) rfl (zbq rfl))) (fun _ _ _ _=>iC) (fun _ _ _ _=>(aC (iF (K:=K) rfl) (pv 0) aj ao))) (ag (aC aM (pv 1) aj ao) aa aY) lh)))
 (ah (c5 6 nd (da cV T.cL hr (ag (aC aM (pv 4) aj ao) (bc 5 aa) aY)))
 (ah (c5 7 nd (da cV T.cL hr (ag (aC aM (pv 4) aj ao) (bc 5 aa) aY)))
 (ah (c5 8 nd (T8 (DP (kX bN (aC aM (pv 4) aj ao) aU (aR _)) (Ax (kX oT (pv 6) (pv 7) (aR _)))) (Ax (DP (kX bN (aC aM (pv 4) aj ao) aU (aR _)) (Ax (kX bN (pv 6) (pv 7) (aR _)))))))
 (ak (bh (aD JB (aC aM (pv 4) aj ao) aU (aR _))
 (ak (bK (dv zaj zan zao bD (pv 3) (ag (aS (ag aU (bc 2 (bc 8 aa)) aP)) aa bW))))
 (ak (bh (DO (rG (pv 8)))
 (ak (bK (dv zaj zan zao bD (pv 3) (ag (aS (ag aU (bc 2 aa) aP)) aa bW))))
 aV))))))))
 aV)
 (ak (aO (pv 3)))))))),rfl,?_⟩
 have line:zds=2 ^ 24:=rfl;obtain⟨va,wg,yH⟩:=id sG;refine av fun U1 eE=>?_;walk_at "r";refine aG wg (v:=.int row) (au (j:=0) rfl) ((eE _ _).mpr (av fun U2 gk=>?_));clear eE;walk_at "r";by_cases h0:row=0
 ·subst h0;refine(zzp rfl).mpr fun p hp=>?_;generalize e1:upd H p _=H1;have s1:=gT e1 hp;have r1:Rep K H1 (eR .fin) (.ref p):=M3 e1 hp (.cons rS .nil);intro l hl;generalize e2:upd H1 l _=H2;have s2:=gL e2 hl;refine q l _ _ (s1.trans s2) (s1.free hl) ⟨Oj e2,?_⟩;unfold oG;rw[zzp rfl];exact .cons (r1.mono s2) .nil
 obtain⟨i,hi,rfl⟩:=si.ok.row.resolve_left h0;obtain⟨hf,ek,ew⟩:=gW pr.body i hi;obtain⟨B,d8,wy,fa,ta,y,us,ys,ax,h1,h2,h3,g3,rt,Oy,h6,g6,hy⟩:=ma.row dr.ok hi hf;have est:xM pr.body (az pr.body)[i].row=(az pr.body)[i]:=nI dr.ok.pw i hi;unfold oG at q;rw[zzn h0] at q;simp only[est] at q;obtain⟨po,so⟩:=A1 si.ok.len dr.ok.nb si.ok.small (jg pr.body _ dr.own (zau hi));generalize (az pr.body)[i]=sm at *;refine(zzn (by simpa using h0)).mpr ((gk _ _).mpr (av fun U3 i3=>?_));clear gk;walk_at "r";intro p6 i5;generalize e6:upd H p6 _=H6;have s6:=gT e6 i5;have r6:Rep K H6 (eR (.row sm.row)) (.ref p6):=M3 e6 i5 (.cons rS (.cons PZ .nil));intro l3 hl3;generalize e7:upd H6 l3 _=H7;have s7:=gL e7 hl3;have y7:=Oj e7;have r7:=r6.mono s7;have XE:=s6.trans s7;have IV:=s6.free hl3;clear e6 e7 r6;refine(i3 _ _).mpr (av fun U4 kg=>?_);clear i3;walk_at "r";refine bz (XE.seq h1) (v:=.ref d8) (au (j:=1) rfl) ⟨d8,_,rfl,.inl ⟨_,.inl sm.row,.inl (XE _ _ h3),rfl,g3.symm⟩,(kg _ _).mpr (av fun U5 uv=>?_)⟩;clear kg;have last:∀(z5 z6 z7 z8:Option V) H9 TL,aq H H9->H9 l3=some (.lst TL)->(Q (.ref l3) H9)->U5 [some (.ref md),some (.ref sa),some (.int sm.row),some (.ref l3),some (.ref ta),z5,z6,z7,z8] H9:=by
  intro z5 z6 z7 z8 H9 TL s9 y9 qq;refine(uv _ _).mpr ?_;clear uv;walk_at "r";exact qq
 clear uv;refine Ov fun U6b Wo=>?_;walk_at "r";refine aG (XE.a7 Oy) (v:=.str (gg sm.wd)) (au (j:=0) rfl) fun p8 Jj=>⟨p8,_,rfl,.inr (.of ae),rfl,rfl,_,rfl,?_⟩
 generalize e8:upd H7 p8 _=H8;have s8:=gT e8 Jj;have y8:=s8 _ _ y7;have r8:=r7.mono s8;have SR:=XE.trans s8;clear e8;rw[MG];by_cases hc:sm.wd=.cg\/sm.wd=.ifs\/sm.wd=.fc
 rotate_left
 ·have cn:pK sm=none:=by
   cases sm<;>first |rfl |exact zzb (.inl rfl) hc |exact zzb (.inr (.inl rfl)) hc |exact zzb (.inr (.inr rfl)) hc
  simp only[cn] at q;refine(zzn (by rw[decide_eq_false hc];exact zai)).mpr (last _ _ _ _ _ _ SR y8 (q l3 _ _ SR IV ⟨y8,.cons r8 .nil⟩))
 obtain⟨sg,l,r,cp,tl,tr,_⟩:=cond_of hc po;simp only[cp] at q;refine(zzp (decide_eq_true hc)).mpr ((Wo _ _).mpr (av fun U6 yK=>?_));clear Wo;obtain⟨ta',w0,vl,vr,ys',eta,hs,rl,rr⟩:=rW rt cp;cases eta;obtain⟨XA,hB,lB,hb⟩:=mX h2;walk_at "r";simp only[W7];walk_at "r";simp only[jT];walk_at "r";have aar:=dr.ok.uZ;refine bz (SR.seq h1) (v:=.ref B) (au (j:=0) rfl) ⟨B,rfl,⟨_,SR.seq hB⟩,fun D hD=>?_⟩;refine kn (K:=K) (r:=[]) (fun i=>V.str (S (pr.ay.getD i ⟨[],0,0⟩).name)) (SR.seq hB) (by lia) hD (fun i x H2 hx s2 R hR=>?_) (fun H9 s9 h9=>?_)
 ·obtain⟨a,rfl,ha⟩:=hb i x hx;walk_at "r";exact aG ((SR.trans s2).a7 ha) (v:=.str (S (pr.ay.getD i ⟨[],0,0⟩).name)) (au (j:=0) rfl) hR
 rw[lB,jf (fun b:gb=>V.str (S b.name)) ⟨[],0,0⟩ pr.ay] at h9;have IU:=SR.trans s9;have lv':(vals.map V.int).length=pr.ay.length:=by rw[zad];exact si.ok.len
 refine aG (IU.a7 wg) (v:=.ref va) (au (j:=1) rfl) ⟨D,va,pr.ay.map fun b=>.inr (S b.name),vals.map V.int,rfl,?_,IU.a7 yH,by rw[zad,zad];exact si.ok.len,fun d hd=>(yK _ _).mpr (av fun U7 GX=>?_)⟩
 ·rw[zbj];exact .of h9
 clear yK;rw[nG,ie _ [] (by rw[zaK,lC _ _ lv'];exact names_nodup dr.ok.nb),zaK];have sA:=aq.new hd (.dK (cG pr.ay (vals.map V.int)));have yA:(upd H9 d (.dK (cG pr.ay (vals.map V.int)))) d=some (.dK (cG pr.ay (vals.map V.int))):=ae;generalize upd H9 d (.dK (cG pr.ay (vals.map V.int)))=HA at *;have SS:=IU.trans sA;have Wq:=s9.trans sA;walk_at "r";refine aG (SS.a7 hs) (v:=vl) (au (j:=3) rfl) ⟨vl,d,l,_,rfl,rl.mono SS,yA,tl.1,by have:=tl.2;lia,by have:=tl.2;lia,fun HB sB=>(GX _ _).mpr (av fun U8 SO=>?_)⟩;clear GX;walk_at "r";refine aG ((SS.trans sB).a7 hs) (v:=vr) (au (j:=4) rfl) ⟨vr,d,r,_,rfl,rr.mono (SS.trans sB),sB _ _ yA,tr.1,by have:=tr.2;lia,by have:=tr.2;lia,fun HC sC=>(SO _ _).mpr (av fun U9 TJ=>?_)⟩;clear SO;have QC:=(SS.trans sB).trans sC;have QD:=(Wq.trans sB).trans sC;have yC:=QD _ _ y8;have rC:=r8.mono QD;have hsC:=QC.a7 hs;have htC:=QC.a7 Oy;have fin:U9 [some (.ref md),some (.ref sa),some (.int sm.row),some (.ref l3),some (.ref ta),some (.ref d),some (.int (wv pr.ay vals l)),some (.int (wv pr.ay vals r)),some (.bl (gS sg (wv pr.ay vals l) (wv pr.ay vals r)))] HC:=by
  refine(TJ _ _).mpr ?_;clear TJ;generalize gS sg (wv pr.ay vals l) (wv pr.ay vals r)=bo at *;walk_at "r";refine aG htC (v:=.str (gg sm.wd)) (au (j:=0) rfl) ⟨rfl,?_⟩;by_cases ew:sm.wd=.cg
  ·rw[zzp ew] at q;refine b9 (fun _=>?_) (fun z=>zzb ((pF _).mpr ew) z);cases bo with
   |true=>
    rw[zzp rfl] at q;exact(zzn (by decide)).mpr (last _ _ _ _ _ _ QC yC (q l3 _ _ QC IV ⟨yC,.cons rC .nil⟩))
   |false=>
    rw[zzn zai] at q;refine(zzp (by decide)).mpr ⟨.inl ⟨rfl,_,.of yC⟩,fun pD Wr=>?_⟩;generalize eD:upd HC pD _=HD;have sD:=gT eD Wr;have rD:Rep K HD (eR (.cg sm.row)) (.ref pD):=M3 eD Wr (.cons rS (.cons PZ .nil));have yD:=sD _ _ yC;refine⟨l3,_,_,rfl,rfl,yD,by simp only[zax];lia,?_⟩;have uE:aZ l3 HD (upd HD l3 (.lst ([V.ref p6]++[V.ref pD]))):=(aZ.refl _ _).put _;have sE:aq H (upd HD l3 (.lst ([V.ref p6]++[V.ref pD]))):=fun z o e=>uE z o (ai e IV) (sD _ _ (QC z o e));refine last _ _ _ _ _ _ sE ae (q l3 _ _ sE IV ⟨ae,.cons (wO yD uE rfl (rC.mono sD)) (.cons (wO yD uE rfl rD) .nil)⟩)
  ·rw[zzn ew] at q;refine b9 (fun z=>zzb ((pF _).mp z) ew) (fun _=>?_);refine⟨.inl ⟨rfl,_,.of yC⟩,fun pD Wr=>?_⟩;generalize eD:upd HC pD _=HD;have sD:=gT eD Wr;have rD:Rep K HD (eR (.side sm.row bo)) (.ref pD):=M3 eD Wr (.cons rS (.cons PZ (.cons (Rep.lQ.mpr rfl) .nil)));have yD:=sD _ _ yC;refine⟨l3,_,_,rfl,rfl,yD,by simp only[zax];lia,?_⟩;have uE:aZ l3 HD (upd HD l3 (.lst ([V.ref p6]++[V.ref pD]))):=(aZ.refl _ _).put _;have sE:aq H (upd HD l3 (.lst ([V.ref p6]++[V.ref pD]))):=fun z o e=>uE z o (ai e IV) (sD _ _ (QC z o e));refine last _ _ _ _ _ _ sE ae (q l3 _ _ sE IV ⟨ae,.cons (wO yD uE rfl (rC.mono sD)) (.cons (wO yD uE rfl rD) .nil)⟩)
 clear TJ;have l1:(V.str (S sg)=V.str (zab "<"))↔sg=[60]:=by rw[show (zab "<":Str)=S [60] from rfl,V.str.injEq,mw]
 have l2:(V.str (S sg)=V.str (zab "="))↔sg=[61]:=by rw[show (zab "=":Str)=S [61] from rfl,V.str.injEq,mw]
 walk_at "r";refine aG hsC (v:=.str (S sg)) (au (j:=2) rfl) ⟨rfl,?_⟩;unfold gS at fin;rcases QA so cp with rfl |rfl
 ·rw[zzp rfl] at fin;refine(zzp (l1.mpr rfl)).mpr ?_;by_cases lt:wv pr.ay vals l<wv pr.ay vals r
  ·rw[decide_eq_true lt] at fin;exact(zzp lt).mpr fin
  ·rw[decide_eq_false lt] at fin;exact(zzn lt).mpr (aG hsC (v:=.str (S [60])) (au (j:=2) rfl) ⟨rfl,(zzn (fun z=>by cases l2.mp z)).mpr fin⟩)
 ·rw[zzn (by decide)] at fin;exact(zzn (fun z=>by cases l1.mp z)).mpr ((zzn zai).mpr (aG hsC (v:=.str (S [61])) (au (j:=2) rfl) ⟨rfl,(zzp (l2.mpr rfl)).mpr fin⟩))
theorem vF(T:Tx K mg t):bJ P w K mg base dw 6 t.fK t.gJ ["made", "standing"] (OI K):=by
 have me:=@p0 P w _ _ base _ T;have gH:=@i9 P w _ _ base _ T;refine T.hZ.F.lS mM (fun vs H Q E h=>?_) (fun eS A outer s H vs Q E hr h=>?_)
 ·obtain⟨_,_,_,_,rfl,_⟩:=h;rfl
 obtain⟨md,VH,pr,s0,rfl,ma,dr,Sh,ZC,afY,q⟩:=h;have nd:=mM.nd;have hu:=dS hr;refine⟨_,[some (.ref md),some (.ref VH),none],(ah (c5 2 nd (tX (J:=jO)))
 (ah (mn PassesOwn.never (PW.pt (pw_and (aD Az (pv 1) eU (aR _)) (pw_and1 (aD (vi (J:=jO) (M5 hr)) (pv 1) (pv 2) rfl))))
 (ah (xN (J:=jO) (M5 hr) (pv 2) (pv 1) sR rfl)
 (ah (bh (PW.pt (pw_or (aD bN (aC aM (pv 1) aj ao) aj (aR _)) (pw_or1 (rG (da me T.g7 hr (bc 0 (bc 1 aa)))))))
 (ak (aO (fO (xO (J:=jO) rfl) rfl T.sj PyProof.Rows.Boot.«list» (bc 2 aa))))
 aV)
 (ak (c5 1 nd (da gH T.cX hr (bc 0 (bc 1 (ag eU aa aP)))))))))
 (ak (aO (fO (xO (J:=jO) rfl) rfl T.sj PyProof.Rows.Boot.«list» (bc 2 aa)))))),rfl,?_⟩
 have line:zds=2 ^ 24:=rfl;refine av fun U1 eE=>?_;walk_at "r";intro sn hsn ysn;refine(eE _ _).mpr (av fun U2 gk=>?_);clear eE;have d1:=A3 (J:=jO) (P:=P) (w:=w) (K:=K) (H:=H) ysn;have s1:=aq.new hsn (.ext (gQ jO P w sn []));generalize upd H sn (.ext (gQ jO P w sn []))=H1 at *;refine A2 fun Bd Ml=>?_;walk_at "r";obtain⟨Iv,Mn,Ff⟩:=xW fun (m:Nat) (σ:St) (Hx:Hp) zq=>∀(v:V) (o:Option b7) (g:List b7),σ=[some (.ref md),some v,some (.ref sn)]->aq H Hx->DS jO P w K Hx sn (qO g)->qM K Hx o v->(∀x,o=some x->cO pr x)->g.Nodup->(∀x∈g,cO pr x)->PG.TI (dc pr.body) (bX pr) s0 g o->m=bq pr-g.length->zq;refine⟨Iv,⟨_,(Mn _ _ _ fun _ zk=>zk _ (some s0) [] rfl s1 d1 ⟨VH,rfl,Sh.mono s1⟩ (fun x e=>(by cases e;exact ZC)) zb6 (fun x hx=>(by cases hx)) PG.TI.start rfl)⟩,?_⟩;intro m σ Hx hv;refine Ff _ _ _ hv _ fun v o g kU sx ds ov oi ng gi ti kW=>?_;subst kU;subst kW;clear hv;have fin:∀(H6:Hp) (g6:List b7) (l:zdk) (us:List V),aq H H6->DS jO P w K H6 sn (qO g6)->PG.Seg (dc pr.body) (bX pr) s0 g6->g6.Nodup->(∀x∈g6,cO pr x)->H6 l=none->Paired (fun (p:kT×V) (v:V)=>∃b,v=.ref b/\jO.on K H6 p.1 b) (qO g6) us->Q (.ref l) (upd H6 l (.lst us)):=by
  intro H6 g6 l us s6 d6 sg ng6 gi6 hl pu;have sl:=aq.new hl (.lst us);exact q l us g6 _ (s6.trans sl) (s6.free hl) ae ((Lx pu).mono sl) sg gi6 (iJ ng6 gi6)
 have out:(o=none\/∃x∈g,o=some x)->U2 [some (.ref md),some v,some (.ref sn)] Hx:=fun ho=>by
  refine(gk _ _).mpr ?_;clear gk;walk_at "r";exact⟨sn,_,rfl,ds,fun l us hl pu=>fin Hx g l us sx ds (ti.fin ho) ng gi hl pu⟩
 walk_at "r";cases o with
 |none=>
  have ov:v=.cC:=ov;subst ov;exact b9 (fun _=>out (.inl rfl)) (fun z=>zzb rfl z)
 |some x=>
  obtain⟨sa,rfl,sG⟩:=ov;have si:=oi x rfl;refine b9 (fun z=>by cases z) (fun _=>?_);refine⟨sn,sa,_,_,rfl,rfl,ds,Ae sG,?_⟩;rw[CS];by_cases hx:x∈g
  ·exact(zzn (by rw[decide_eq_true hx];decide)).mpr (out (.inr ⟨x,hx,rfl⟩))
  refine(zzp (by rw[decide_eq_false hx];decide)).mpr ?_;have XF:(g++[x]).Nodup:=zbS.mpr ⟨ng,by simp,fun a ha b hb=>by rw[zar.mp hb];exact fun z=>hx (z▸ha)⟩;have XG:∀y∈g++[x],cO pr y:=fun y hy=>by
   rcases zaz.mp hy with hy |hy
   ·exact gi y hy
   ·rw[zar.mp hy];exact si
  have uZ:=iJ XF XG;rw[zae,zax] at uZ;refine⟨Iv (bq pr-(g++[x]).length),fun σ' H' h=>⟨_,by rw[zae,zax];lia,h⟩,?_⟩;refine Ml _ _ _ (av fun V1 BQ=>?_);clear Ml gk out;obtain⟨φ,es⟩:=ds.nK;walk_at "r";refine⟨sn,sa,_,_,rfl,rfl,ds,Ae sG,by rw[qO,zad];lia,fun H6 d6 e6=>(BQ _ _).mpr (av fun V2 BR=>?_)⟩;clear BQ;rw[IA hx] at d6;obtain⟨φ',rfl⟩:=e6;have u6:aZ sn Hx (upd Hx sn (.ext φ')):=(aZ.refl _ _).put _;have s6:aq H (upd Hx sn (.ext φ')):=fun z o e=>u6 z o (ai e hsn) (sx z o e);have Mo:=sG.ext es u6;have ma6:=ma.mono s6;clear u6;generalize upd Hx sn (.ext φ')=H6 at *;obtain⟨va,wg,yH⟩:=id Mo;walk_at "r";refine aG wg (v:=.int x.1) (au (j:=0) rfl) ⟨rfl,?_⟩;by_cases h0:x.1=0
  ·refine b9 (fun _=>?_) (fun z=>zzb (by rw[h0]) z);exact⟨sn,_,rfl,d6,fun l us hl pu=>fin H6 _ l us s6 d6 (ti.stop (.inl h0)) XF XG hl pu⟩
  refine b9 (fun z=>zzb (V.int.inj z) h0) (fun _=>?_);refine⟨md,sa,pr,x,rfl,ma6,dr,Mo,si,?_⟩;cases ha:dc pr.body x.1 with
  |true=>
   refine⟨_,rfl,(zzp rfl).mpr ?_⟩;exact⟨sn,_,rfl,d6,fun l us hl pu=>fin H6 _ l us s6 d6 (ti.stop (.inr ha)) XF XG hl pu⟩
  |false=>
   refine⟨_,rfl,(zzn (by decide)).mpr ((BR _ _).mpr ?_)⟩;clear BR;walk_at "r";refine⟨md,sa,.cC,pr,x,0,rfl,ma6,dr,Mo,si,h0,fun z=>(by rw[ha] at z;cases z),fun v7 H7 s7 o7=>?_⟩;exact(Mn _ _ _ fun _ zk=>zk v7 _ (g++[x]) rfl (s6.trans s7) (d6.mono s7) o7 (fun y hy=>si.next dr h0 hy) XF XG (ti.push h0 ha) rfl)
theorem Fq(T:Tx K mg t):bJ P w K mg base dw 8 t.mT t.oa ["program"] (HY K):=by
 have yi:=@G3 P w _ _ base _ T;refine T.qz.F.lS x6 (fun vs H Q E h=>?_) (fun eS A outer s H vs Q E hr h=>?_)
 ·obtain⟨_,_,rfl,_⟩:=h;rfl
 obtain⟨v,pr,rfl,rp,hd,hf,q⟩:=h;have nd:=x6.nd;refine⟨_,[some v,none,none,none],(ah (c5 1 nd (bu aa))
 (ah (du PassesOwn.never rfl (cI (da yi T.yc hr (bc 0 aa))) (lY 2 nd)
 (ah (c5 3 nd (aC aM (pv 2) aj ao))
 (ah (bK (dv zaj zan zao bD (pv 1) (ag (aS (ag aU (bc 3 aa) aP)) aa bW)))
 (ak (bh (aD ja (aC aM (pv 2) aj ao) (aS (cQ (vs:=[.str "if",.str "while"]) (by kernel_rfl))) rfl)
 (ah (bK (dv zaj zan zao bD (pv 1) (ag (aS (ag aU (bc 3 (ag sR aa aP)) aP)) aa bW)))
 (ak (bK (dv zaj zan zao bD (pv 1) (ag (aS (ag aU (bc 3 (ag sR aa aP)) aP)) aa bW)))))
 (ak (bh (aD bN (aC aM (pv 2) aj ao) aU (aR _))
 (ak (bK (dv zaj zan zao bD (pv 1) (ag (aS (ag aU (bc 3 aa) aP)) aa bW))))
 aV)))))))
 (ah (bK (dv zaj zan zao bD (pv 1) (ag (aS (ag aU aa aP)) aa bW)))
 (ak (aO (pv 1)))))),rfl,?_⟩
 have line:zds=2 ^ 24:=rfl;refine av fun U1 eE=>?_;walk_at "r";intro tl BU;have s1:=aq.new BU (.lst []);have y1:(upd H tl (.lst [])) tl=some (.lst []):=ae;generalize upd H tl (.lst [])=H1 at *;refine(eE _ _).mpr (av fun U2 gk=>?_);clear eE;refine fH fun U hU=>?_;walk_at "r";refine⟨v,pr,rfl,rp.mono s1,hd,hf,fun l2 fv H2 s2 Em y2 r2=>⟨l2,rfl,⟨fv,.of y2⟩,hU _ _ ?_⟩⟩;clear hU;have n2:l2≠tl:=fun z=>by rw[z,y1] at Em;cases Em
 have g2:eI K (·=tl) H2 ((aQ pr.body 0).map eJ) fv:=Gp (s2 _ _ y1) (vf _) r2;have Zv:fv.length=(aQ pr.body 0).length:=by rw[r2.length,zad]
 have lfl:(aQ pr.body 0).length<=1000:=by
  have h2:=congrArg za6 (cY pr.body 0);rw[zad] at h2;lia
 have efl:=NS pr.body 0;have pfl:=Cq pr.body 0;generalize aQ pr.body 0=fl at *;have t2:NX K H H2 tl H2 [] []:=⟨s1.trans s2,.refl,s2 _ _ y1,.nil,rfl⟩
 obtain⟨Pv,mh⟩:∃Pv:Nat->St->Hp->Prop,∀i σ H3,Pv i σ H3↔∃(z2 z3:Option V) (us:List V) (pre:List Tg),σ=[some v,some (V.ref tl),z2,z3]/\NX K H H2 tl H3 us pre/\us.length<=3*i/\
  pre=(fl.take i).flatMap Kz:=⟨_,fun _ _ _=>Iff.rfl⟩
 refine fG (K:=K) (a:=l2) (xs:=fv) Pv ((mh _ _ _).mpr ⟨none,none,[],[],rfl,t2,zaf _,rfl⟩) (fun i σ H3 _ hv=>?_) ?_ ?_
 ·obtain⟨_,_,_,_,_,ti,_⟩:=(mh _ _ _).mp hv;exact .of (ti.u _ _ n2 y2)
 ·intro i y σ H3 hi hv;obtain⟨z2,z3,us,pre,rfl,ti,lu,ep⟩:=(mh _ _ _).mp hv;clear hv;have done:=fun σ H7=>(mh (i+1) σ H7).mpr;have li:i<fl.length:=by have:=(zak.mp hi).1;lia
  obtain⟨a,rfl,hx⟩:=NY g2 hi li;have hw:=pfl fl[i] (zau li);have et:(fl.take (i+1)).flatMap Kz=pre++Kz fl[i]:=by
   rw[zaQ li,za9,ep];simp
  have lt:=Gi (fl[i].1,fl[i].2.1);generalize fl[i]=r at *;obtain⟨k,wd,ws⟩:=r;simp only at hw hx lt;have fin:∀(σ:St) (H7:Hp) (wt:List V),(∃z2 z3,σ=[some v,some (V.ref tl),z2,z3])->NX K H H2 tl H7 wt (pre++Kz (k,wd,ws))->Pv (i+1) σ H7:=fun σ H7 wt ⟨z2,z3,e⟩ t7=>done σ H7 ⟨z2,z3,wt,_,e,t7,by
   have:=t7.l;have:=ti.l;have:(Kz (k,wd,ws)).length<=3:=lt;simp only[zae] at *;lia,et.symm⟩
  clear done et;obtain⟨t3,Xj⟩:=hx _ ti.u;simp only[eM,zaT];refine av fun U3 i3=>?_;walk_at "r";refine aG Xj (v:=.int k) (au (j:=0) rfl) ((i3 _ _).mpr (av fun U4 kg=>?_));clear i3;walk_at "r";refine⟨.inl ⟨rfl,_,.of ti.y⟩,fun p hp=>⟨tl,us,_,rfl,rfl,aq.new hp _ _ _ ti.y,by lia,(kg _ _).mpr ?_⟩⟩;clear kg;have Fo:=ti.app BU hp (g:=.row k) rfl (fun _=>.cons .str (.cons .int .nil));generalize upd (upd H3 p (.tup [V.str (zab "row"),V.int k])) tl (.lst (us++[.ref p]))=H4 at *;obtain⟨t4,hx4⟩:=hx _ Fo.u;walk_at "r";have luf:us.length<=3000:=by lia
  refine aG hx4 (v:=.str (gg wd)) (au (j:=1) rfl) fun p5 yM=>⟨p5,_,rfl,.inr (.of ae),rfl,rfl,_,rfl,?_⟩
  have Fp:=Fo.same (aq.new yM (.tup [V.str (zab "if"),V.str (zab "while")]));generalize upd H4 p5 (.tup [V.str (zab "if"),V.str (zab "while")])=H5 at *;rw[wK wd];by_cases hl:wd=.ifs\/wd=.fc
  ·refine(zzp (decide_eq_true hl)).mpr ⟨.inl ⟨rfl,_,.of Fp.y⟩,fun p6 i5=>⟨tl,_,_,rfl,rfl,aq.new i5 _ _ _ Fp.y,by simp only[zae,zax];lia,?_⟩⟩;have Dm:=Fp.app BU i5 (g:=.side k true) rfl (fun _=>.cons .str (.cons .int (.cons .bl .nil)));generalize upd (upd H5 p6 _) tl _=H6 at *;refine⟨.inl ⟨rfl,_,.of Dm.y⟩,fun p7 uz=>⟨tl,_,_,rfl,rfl,aq.new uz _ _ _ Dm.y,by simp only[zae,zax];lia,?_⟩⟩;have Xy:=Dm.app BU uz (g:=.side k false) rfl (fun _=>.cons .str (.cons .int (.cons .bl .nil)));have e:Kz (k,wd,ws)=[.row k,.side k true,.side k false]:=by rcases hl with rfl |rfl<;>rfl
   rw[show pre++[.row k]++[.side k true]++[.side k false]=pre++Kz (k,wd,ws) by rw[e];simp] at Xy;exact fin _ _ _ ⟨_,_,rfl⟩ Xy
  ·obtain⟨t5,hx5⟩:=hx _ Fp.u;refine(zzn (by rw[decide_eq_false hl];exact zai)).mpr (aG hx5 (v:=.str (gg wd)) (au (j:=1) rfl) ⟨rfl,b9 (fun e=>?_) (fun e=>?_)⟩)
   ·have ew:=(pF wd).mp e;refine⟨.inl ⟨rfl,_,.of Fp.y⟩,fun p6 i5=>⟨tl,_,_,rfl,rfl,aq.new i5 _ _ _ Fp.y,by simp only[zae,zax];lia,?_⟩⟩;have Dm:=Fp.app BU i5 (g:=.cg k) rfl (fun _=>.cons .str (.cons .int .nil));rw[show pre++[.row k]++[.cg k]=pre++Kz (k,wd,ws) by rw[show Kz (k,wd,ws)=[.row k,.cg k] by subst ew;rfl];simp] at Dm;exact fin _ _ _ ⟨_,_,rfl⟩ Dm
   ·have ew:wd≠.cg:=fun z=>e ((pF wd).mpr z);have e:Kz (k,wd,ws)=[.row k]:=by
     cases wd<;>first |rfl |exact zzb rfl ew |exact zzb rfl hw.1 |exact zzb rfl hw.2 |exact zzb (.inl rfl) hl |exact zzb (.inr rfl) hl
    rw[<- e] at Fp;exact fin _ _ _ ⟨_,_,rfl⟩ Fp
 ·intro σ H3 hv;obtain⟨z2,z3,us,pre,rfl,ti,lu,ep⟩:=(mh _ _ _).mp hv;rw[Zv,zaU,efl] at ep;refine(gk _ _).mpr ?_;walk_at "r";refine⟨.inl ⟨rfl,_,.of ti.y⟩,fun p hp=>⟨tl,us,_,rfl,rfl,aq.new hp _ _ _ ti.y,by lia,?_⟩⟩;have Fo:=ti.app BU hp (g:=.fin) rfl (fun _=>.cons .str .nil);refine q tl _ _ Fo.s BU Fo.y ?_;unfold Kv;rw[<- ep];exact Fo.f.HS
theorem zf(T:Tx K mg t):bJ P w K mg base dw 10 t.iP t.jn ["first", "led_from"] (CW P w K t.aW (iw aT) "first_inputs.<locals>.<lambda>"):=by
 have As:=@Fe P w _ _ base _ T;refine T.gN.F.lS qR (fun vs H Q E h=>?_) (fun eS A outer s H vs Q E hr h=>?_)
 ·obtain⟨_,_,_,_,_,_,_,rfl,_⟩:=h;rfl
 obtain⟨sa,fo,cc,ch,mH,pr,s0,rfl,co,dr,sG,si,lam,qY,q⟩:=h;have nd:=qR.nd;have hu:=dS hr;refine⟨_,[some (.ref sa),some (.ref fo),none,none,none,none,none,none,none],(ah (c5 2 nd (tX (J:=jO)))
 (ah (c5 3 nd (da As T.mW hr (bc 0 (bc 1 (ag (aS aa) (bc 2 aa) bW)))))
 (ah (mn PassesOwn.never (B3 (pv 3) (fun _=>rfl))
 (ah (c5 4 nd (bu aa))
 (ah (du PassesOwn.never rfl (cI (pv 3)) (rH rfl (bM (lY 5 nd) (bM (lY 6 nd) iA)))
 (ak (du PassesOwn.never rfl (Gd rfl T.lN (bc 6 aa)) (rH rfl (bM (lY 7 nd) (bM (lY 8 nd) iA)))
 (ak (bK (dv zaj zb3 zb4 uO (pv 4) (ag (da As T.mW hr (bc 8 (bc 1 (ag (bf wM (pv 5) (aS (bc 7 aa))) (bc 2 aa) jb)))) aa bH)))))))
 (ak (c5 3 nd (pv 4))))))
 (ak (aO (pv 2)))))),rfl,?_⟩
 have line:zds=2 ^ 24:=rfl;have li:∀s,cO pr s->∀x∈cR pr s,cO pr x:=fun s h=>t9 dr h;refine av fun U1 eE=>?_;walk_at "r";intro D hD yD;refine(eE _ _).mpr (av fun U2 gk=>?_);clear eE;have d1:=A3 (J:=jO) (P:=P) (w:=w) (K:=K) (H:=H) yD;have s1:=aq.new hD (.ext (gQ jO P w D []));generalize upd H D (.ext (gQ jO P w D []))=H1 at *;walk_at "r";intro p hp;generalize e2:upd H1 p _=H2;have s2:=gT e2 hp;have yp:H2 p=some (.tup []):=by rw[<- e2];exact ae
 clear e2;have O7:=s1.trans s2;obtain⟨Ws,gk2,gk3⟩:=vn li (m:=0) (bq pr+1) [] s0 [] .nil si (zaf _);refine⟨sa,fo,D,p,cc,ch,mH,pr,s0,[],[],[],rfl,co.mono O7,dr,sG.mono O7,si,lam.mono (wU O7 hD),.of yp,d1.mono s2,.nil,zb6,fun x hx=>(by cases hx),qY,fun L us ax H3 u3 hL yL d3 Xr ak3=>(gk _ _).mpr (av fun U3 i3=>?_)⟩;clear gk;have s03:aq H H3:=((aZ.of O7).trans u3).same hD;obtain⟨φ1,eD2⟩:=(d1.mono s2).nK;have DI:bQ K H3 p (([]:List Int).map V.int):=bQ.lW (.of yp) eD2 u3;have as3:=eK.of1 (g:=[]) ak3 DI;refine A2 fun Bd Ml=>?_;walk_at "r";obtain⟨Iv,Mn,Ff⟩:=xW fun (m:Nat) (σ:St) (Hx:Hp) zq=>∀(z4 z5 z6 z7 z8:Option V) (L:zdk) (us:List V) (as:List (List Int×List b7)) (f:iz) (ax:List (kT×V)) (lv:Nat),σ=[some (.ref sa),some (.ref fo),some (.ref D),some (.ref L),z4,z5,z6,z7,z8]->aq H Hx->DS jO P w K Hx D ax->eQ K Hx f ax->yU (cO pr) f->Hx L=some (.lst us)->eK K Hx as us->vm (cO pr) lv as->cZ pr s0=ua (cR pr) (bq pr+1) (bq pr+2-lv) f as->(as≠[]->lv<f.length)->m=bq pr+1-lv->zq;refine⟨Iv,⟨_,(Mn _ _ _ fun _ zk=>zk none none none none none L us _ _ ax 0 rfl s03 d3 Xr Ws yL as3 gk2 rfl (fun h=>?_) rfl)⟩,?_⟩
 ·have:=zbg.mpr h;rw[zaA] at gk3;lia
 clear Ws gk2 gk3 as3 DI eD2 s03 ak3 Xr d3 yL hL u3 O7 yp s2 d1 s1 hp;intro m σ Hx hv;refine Ff _ _ _ hv _ fun z4 z5 z6 z7 z8 L us as f ax lv kU sx dx fx ok yL asx QE ef hlv kW=>?_;subst kU;subst kW;clear hv;have uL:as.length=us.length:=Paired.length asx;have uZ:f.length<=bq pr:=by
  have:=iJ ok.nd (fun x hx=>by obtain⟨y,hy,rfl⟩:=zaF.mp hx;exact ok.CY y hy)
  rwa [zad] at this
 walk_at "r";cases as with
 |nil=>
  have e0:us=[]:=zaV.mp uL.symm;subst e0;refine⟨false,.inl ⟨_,.of yL,rfl⟩,(zzn (by decide)).mpr ((i3 _ _).mpr ?_)⟩;walk_at "r";rw[xT] at ef;rw[ef] at q;exact q D ax Hx sx hD dx fx
 |cons a0 SU=>
 have DE:(a0::SU)≠[]:=by simp
 have hlv:=hlv DE;obtain⟨u0,QF,rfl⟩:∃u0 QF,us=u0::QF:=by cases us with |nil=>cases uL |cons a b=>exact⟨_,_,rfl⟩
 refine⟨true,.inl ⟨_,.of yL,rfl⟩,(zzp rfl).mpr ?_⟩;have ef:cZ pr s0=ua (cR pr) (bq pr+1) (bq pr+2-(lv+1)) (c8 (cR pr) (bq pr+1) f (cA (a0::SU))).1 (c8 (cR pr) (bq pr+1) f (cA (a0::SU))).2:=by
  rw[ef,show bq pr+2-lv=(bq pr+2-(lv+1))+1 by lia,ua,zzn DE]
 generalize a0::SU=as at *;generalize u0::QF=us at *;refine⟨Iv (bq pr+1-(lv+1)),fun σ' H' h=>⟨_,by lia,h⟩,?_⟩;refine Ml _ _ _ (av fun V1 BQ=>?_);clear Ml i3;walk_at "r";intro b hb;refine(BQ _ _).mpr (av fun V2 BR=>?_);clear BQ;have sb:=aq.new hb (.lst []);have yb:(upd Hx b (.lst [])) b=some (.lst []):=ae;have yL1:(wo (upd Hx b (.lst [])) b) L=some (.lst us):=by rw[pM];exact wU (aq.refl _) hb _ _ yL
 have as1:eK K (wo (upd Hx b (.lst [])) b) as us:=by rw[pM];exact asx.mono (wU (aq.refl _) hb)
 have HZ:H b=none:=sx.free hb;have dx1:=dx.mono sb;have fx1:=fx.imp fun a xs h=>sb.a7 h;have sx1:=sx.trans sb;have Sr:D≠b:=by obtain⟨φ,e⟩:=dx.nK;exact ai e hb
 generalize upd Hx b (.lst [])=H1 at *;clear dx fx sx asx yL sb hb;refine fH fun U hU=>?_;walk_at "r";refine⟨⟨us,.of (vT _ _ yL1)⟩,hU _ _ ?_⟩;clear hU;have gok:∀i,yU (cO pr) (c8 (cR pr) (bq pr+1) f (cA (as.take i))).1/\vm (cO pr) (lv+1) (c8 (cR pr) (bq pr+1) f (cA (as.take i))).2/\f.length+(c8 (cR pr) (bq pr+1) f (cA (as.take i))).2.length<=(c8 (cR pr) (bq pr+1) f (cA (as.take i))).1.length:=fun i=>pN li _ _ ok (mK (m:=lv) ⟨fun a ha=>QE.CY a (zbK ha),fun a ha=>QE.len a (zbK ha)⟩);obtain⟨Pv,mh,dQ⟩:=xW fun (i:Nat) (σ:St) (H5:Hp) zq=>∀(z5 z6 z7 z8:Option V) (p9:List V) (bs:List (List Int×List b7)) (f5:iz) (qb:List (kT×V)),σ=[some (.ref sa),some (.ref fo),some (.ref D),some (.ref L),some (.ref b),z5,z6,z7,z8]->aq H H5->DS jO P w K H5 D qb->eQ K H5 f5 qb->(wo H5 b) L=some (.lst us)->eK K (wo H5 b) as us->H5 b=some (.lst p9)->eK K (wo H5 b) bs p9->c8 (cR pr) (bq pr+1) f (cA (as.take i))=(f5,bs)->zq;refine fG (K:=K) (a:=L) (xs:=us) Pv ((mh _ _ _ fun _ zk=>zk _ _ _ _ [] [] f ax rfl sx1 dx1 fx1 yL1 as1 yb .nil rfl)) (fun i σ H5 _ hv=>?_) ?_ ?_
 ·refine dQ _ _ _ hv _ fun _ _ _ _ _ _ _ _ _ _ _ _ MH _ _ _ _=>?_;exact .of (vT _ _ MH)
 ·intro i y σ H5 hi hv;refine dQ _ _ _ hv _ fun z5 z6 z7 z8 p9 bs f5 qb kU s5 d5 Jn MH XH XI XJ e5=>?_;subst kU;clear hv;obtain⟨a,ha,ta,ga,la,MJ,rfl,q1,q2,q3,q4⟩:=eY XH hi;have XM:a∈as:=zaI ha;have hll:a.2.length=MJ.length:=Paired.length q4;refine⟨ta,_,rfl,vT.a7 q1,rfl,_,_,rfl,_,_,rfl,rfl,?_⟩;simp only[zaT];refine Lz fun U hU=>?_;walk_at "r";refine⟨la,rfl,⟨MJ,.of (vT _ _ q3)⟩,hU _ _ ?_⟩;clear hU;obtain⟨Pw,yr,jI⟩:=xW fun (j:Nat) (σ:St) (H6:Hp) zq=>∀(z7 z8:Option V) (p9:List V) (bs:List (List Int×List b7)) (f6:iz) (oy:List (kT×V)),σ=[some (.ref sa),some (.ref fo),some (.ref D),some (.ref L),some (.ref b),some (.ref ga),some (.ref la),z7,z8]->aq H H6->DS jO P w K H6 D oy->eQ K H6 f6 oy->(wo H6 b) L=some (.lst us)->eK K (wo H6 b) as us->H6 b=some (.lst p9)->eK K (wo H6 b) bs p9->bQ K (wo H6 b) ga (a.1.map V.int)->(wo H6 b) la=some (.lst MJ)->iK K (wo H6 b) a.2 MJ->c8 (cR pr) (bq pr+1) f (cA (as.take i)++lE a j)=(f6,bs)->zq;refine Cf (K:=K) (a:=la) (xs:=MJ) Pw ((yr _ _ _ fun _ zk=>zk _ _ p9 bs f5 qb rfl s5 d5 Jn MH XH XI XJ q2 q3 q4 (by rw[show lE a 0=[] from rfl,zav];exact e5))) ?_ ?_ ?_
  ·intro j σ H6 _ hv;refine jI _ _ _ hv _ fun _ _ _ _ _ _ _ _ _ _ _ _ _ _ _ yl _ _=>?_;exact .of (vT _ _ yl)
  ·intro j x σ H6 pp hx hv Bk;clear q1 q2 q3 q4 e5 XJ XI XH MH Jn d5 s5;refine jI _ _ _ hv _ fun z7 z8 p9 bs f6 oy kU s6 d6 f6a XN as6 XO XQ q2 q3 q4 e6=>?_;subst kU;clear hv;have lj:j<a.2.length:=by have:=(zak.mp hx).1;lia
   obtain⟨t1,O0,xa,rfl,wg⟩:=eY q4 hx;have Wt:=pN li (n:=bq pr+1) (m:=lv+1) (cA (as.take i)++lE a j) f ok fun x hx=>by
    rcases zaz.mp hx with hx |hx
    ·exact mK (m:=lv) ⟨fun a ha=>QE.CY a (zbK ha),fun a ha=>QE.len a (zbK ha)⟩ x hx
    ·exact EY (m:=lv) (QE.CY a XM) (QE.len a XM) (by lia) x hx
   rw[e6] at Wt;obtain⟨SV,_,ln6⟩:=Wt;have SV:yU (cO pr) f6:=SV;have ln6:f.length+bs.length<=f6.length:=ln6;have agb:f6.length<=bq pr:=by
    have:=iJ SV.nd (fun x hx=>by obtain⟨y,hy,rfl⟩:=zaF.mp hx;exact SV.CY y hy)
    rwa [zad] at this
   have s7:=aq.new Bk (.tup [.int j,.ref xa]);have QG:(upd H6 pp (.tup [.int j,.ref xa])) pp=_:=ae;generalize upd H6 pp (.tup [.int j,.ref xa])=H7 at *;refine⟨pp,_,rfl,.of QG,rfl,?_⟩;refine⟨_,_,rfl,_,_,rfl,rfl,?_⟩;simp only[zaT];walk_at "r";refine⟨.inl ⟨rfl,_,.of (s7 _ _ XO)⟩,fun p hp=>?_⟩;have s8:=aq.new hp (.tup [.int j]);have yp:(upd H7 p (.tup [.int j])) p=_:=ae;generalize upd H7 p (.tup [.int j])=H8 at *;have la1:=QE.len a XM;refine⟨ga,p,_,_,rfl,rfl,(s7.trans s8).a7 (vT.a7 q2),.of yp,by rw[zad,zax];lia,fun gp H9 s9 QH=>?_⟩;have TM:=s7.trans (s8.trans s9);have IU:=s6.trans TM;have QH:bQ K H9 gp ((a.1++[((j:Nat):Int)]).map V.int):=by rw[zaw];exact QH
   clear s7 s8 s9 yp hp QG Bk;have si1:cO pr t1:=QE.CY a XM t1 (zaI O0);have d9:=d6.mono TM;have f9a:=f6a.imp (H':=H9) fun a xs h=>TM.a7 h;have eb9:=TM _ _ XO;refine⟨xa,fo,D,gp,cc,ch,mH,pr,t1,f6,a.1++[((j:Nat):Int)],oy,rfl,co.mono IU,dr,(wg.mono vT).mono TM,si1,lam.mono (wU IU hD),QH,d9,f9a,SV.nd,SV.CY,qY,fun L9 TL aaA HA uA hL9 yL9 dA fA akA=>?_⟩;obtain⟨φ9,eD9⟩:=d9.nK;have XR:HA b=some (.lst p9):=uA _ _ Sr.symm eb9;have SS:aq H HA:=((aZ.of IU).trans uA).same hD;obtain⟨Ws,gk2,gk3⟩:=vn li (m:=lv+1) (bq pr+1) f6 t1 (a.1++[((j:Nat):Int)]) SV si1 (by rw[zae,zax];lia);have agf:(lX (cR pr) (bq pr+1) f6 t1 (a.1++[((j:Nat):Int)])).1.length<=bq pr:=by
    have:=iJ Ws.nd (fun x hx=>by obtain⟨y,hy,rfl⟩:=zaF.mp hx;exact Ws.CY y hy)
    rwa [zad] at this
   have asA:=eK.of akA (QH.lW eD9 uA) (by rw[eb9];simp) XR;have lb:bs.length=p9.length:=Paired.length XQ;have l9:=Paired.length asA;refine⟨b,L9,p9,TL,rfl,rfl,XR,yL9,by lia,?_⟩;have uB:aZ b HA (upd HA b (.lst (p9++TL))):=(aZ.refl _ _).put _;have TN:(wo H9 b) D=some (.ext φ9):=by rw[eX Sr];exact eD9
   have sw:aq (wo H6 b) (wo H9 b):=OF TM;have uw:aZ D (wo H9 b) (wo HA b):=R4 uA;refine(yr _ _ _ fun _ zk=>zk _ _ (p9++TL) (bs++oH (a.1++[((j:Nat):Int)]) (lX (cR pr) (bq pr+1) f6 t1 (a.1++[((j:Nat):Int)])).2) _ aaA rfl (fun z o e=>uB z o (ai e HZ) (SS z o e)) (dA.Iu (fun o h=>uB _ _ Sr h) (fun c ys h=>h.vg XR uB)) (fA.imp (fun a xs h=>h.vg XR uB)) ?_ ?_ ae ?_ ?_ ?_ ?_ ?_)
   ·rw[pM];exact uw _ _ (bU (sw _ _ XN) TN (by intro z;cases z)) (sw _ _ XN)
   ·rw[pM];exact(as6.mono sw).ext TN uw
   ·rw[pM];exact nM ((XQ.mono sw).ext TN uw) asA
   ·rw[pM];exact(sw.a7 q2).lW TN uw
   ·rw[pM];exact uw _ _ (bU (sw _ _ q3) TN (by intro z;cases z)) (sw _ _ q3)
   ·rw[pM];exact nL (q4.mono sw) fun a row vals h=>h.ext TN uw
   ·rw[A4,<- za2,vo,e6];have:a.2.getD j (0,[])=t1:=by rw[zap,O0];rfl
    simp only[this,vp]
  ·intro σ H6 hv;refine jI _ _ _ hv _ fun z7 z8 p9 bs f6 oy kW s6 d6 f6a XN as6 XO XQ q2 q3 q4 e6=>?_;subst kW;refine(mh _ _ _ fun _ zk=>zk _ _ _ _ p9 bs f6 oy rfl s6 d6 f6a XN as6 XO XQ ?_);rw[zbG,ha,zby,CZ,hll];exact e6
 ·intro σ H5 hv;refine dQ _ _ _ hv _ fun z5 z6 z7 z8 p9 bs f5 qb kW s5 d5 Jn MH XH XI XJ e5=>?_;subst kW;refine(BR _ _).mpr ?_;walk_at "r";have g5:=gok us.length;rw[<- uL,zaU] at e5 g5;rw[e5] at g5 ef;obtain⟨SW,ao5,XS⟩:=g5;have XS:f.length+bs.length<=f5.length:=XS;refine(Mn _ _ _ fun _ zk=>zk _ _ _ _ _ b p9 bs f5 qb (lv+1) rfl s5 d5 Jn SW XI (XJ.mono vT) ao5 ef (fun h=>?_) rfl);have:=zbg.mpr h;lia
theorem wx(T:Tx K mg t){c Pt:zdk}(B:ji K mg base c Pt)(hc:vk K t.bS c) :
 bJ P w K mg base dw 11 t.bS t.hJ ["chart"] (IF P w K t.aW "first_inputs.<locals>.<lambda>" Pt (rX (iw aT))):=by
 have Bu:=@zf P w _ _ base _ T;refine T.iW.F.okC oK hc (fun vs H Q E h=>?_) (fun A outer s H vs Q E hr h=>?_)
 ·obtain⟨_,_,_,rfl,_⟩:=h;rfl
 obtain⟨ch,pr,ps,rfl,co,dr,qY,BP,tok,q⟩:=h;have nd:=oK.nd;have NH:∀pins σ (H':Hp) (s':zdu) e Ho a o,Inv (m7 dw P w K mg base ["chart"] "first_inputs" (aJ aT) t.bS (.ref c) A outer s H E).DQ pins σ H' s'->H' a=none->s'.heap.get? a=some o->dw (m7 dw P w K mg base ["chart"] "first_inputs" (aJ aT) t.bS (.ref c) A outer s H E).DQ.stack (upd H' a (eW a o)) s' E0 e Ho->(m7 dw P w K mg base ["chart"] "first_inputs" (aJ aT) t.bS (.ref c) A outer s H E).DQ.xe e Ho:=fun _ _ _ _ _ _ _ _ _ _ _ h=>h.elim;refine⟨_,[some (.ref ch)],(ak (aO (LG (i:=0) (y:="chart") Bu (hr.mono (by first|decide|omega)) rfl T.gN.m T.gN.F.kp T.gN.b NH (ag (kz (pv 0) rfl) (ag (RY (y:="chart") B rfl rfl ⟨_,rfl,rfl⟩ rfl) aa rfl) F7) rfl rfl rfl))),rfl,?_⟩;walk_at "r";simp only[LF];walk_at "r";obtain⟨dx,nl,sd,fa,va,stt,wy,us,ws,h1,h2,h3,h4,h5,h6,h7,h8,h9,Le,M1,PY⟩:=co.at_;have sG:cE K H fa (bj pr.body 0) (pr.ay.map (·.first)):=⟨va,.of h5,.of (by rw[zbj];exact h6)⟩
 refine⟨ch,_,dx,_,.ref fa,rfl,h1,T.c9,T.i0,rfl,?_⟩;refine⟨ps,BP,tok,fun fo cc c' pm vS oc vs DH tk H1 ecc Vo kp only yfo yc' Ta WU XT O8=>⟨_,rfl,fun cc2 mH uc aaB yG aaC ruc=>?_⟩⟩;cases ecc.symm.trans aaB;have u1:aZ Pt H H1:=fun b o n e=>kp b o n e;have k1:Kp H H1:=Kp.of u1 BP;have sc:=aq.new yG (eW cc mH);have XU:(upd H1 cc (eW cc mH)) cc=some (eW cc mH):=ae;have Du:=sc _ _ XT;have aaD:H cc=none:=by
  cases y:H cc with
  |none=>rfl
  |some o=>
   by_cases z:cc=Pt
   ·rw[z,XT] at yG;cases yG
   ·rw[kp cc o z y] at yG;cases yG
 have lam:IE "chart" "first_inputs.<locals>.<lambda>" (iw aT) (upd H1 cc (eW cc mH)) fo cc mH (.ref ch):=⟨c',pm,vS,uc,oc,vs,tk,sc _ _ yfo,sc _ _ yc',Ta,WU,XU,aaC,ruc⟩
 refine⟨fa,fo,cc,ch,mH,pr,(bj pr.body 0,pr.ay.map (·.first)),rfl,(co.kp k1).mono sc,dr,(sG.kp k1).mono sc,cO.first dr,lam,qY,fun D ax H3 s3 hD d3 f3=>⟨s3 _ _ XU,?_⟩⟩;have nD:D≠cc:=fun z=>by rw[z,XU] at hD;cases hD
 have Wu:=s3 _ _ XU;have uw:aZ cc H3 (wo H3 cc):=wV;have Sm:H D=none:=by
  rw[aw nD] at hD;cases y:H D with
  |none=>rfl
  |some o=>
   by_cases z:D=Pt
   ·rw[z,XT] at hD;cases hD
   ·rw[kp D o z y] at hD;cases hD
 refine q D ax (wo H3 cc) DH (fun b o n e=>?_) Sm (d3.other Wu nD uw) (f3.imp fun a xs h=>h.lW Wu uw) ?_ ?_
 ·rw[eX (ai e aaD)];exact s3 _ _ (sc _ _ (kp b o n e))
 ·rw[eX (ai XT yG)];exact s3 _ _ Du
 ·refine O8.kp fun b o e _=>?_;rw[eX (ai e yG)];exact s3 _ _ (sc _ _ e)
theorem zg(T:Tx K mg t):bJ P w K mg base dw 7 t.iV t.js ["made"] (LP P w K):=by
 have me:=@p0 P w _ _ base _ T;have gH:=@i9 P w _ _ base _ T;have wz:=@vF P w _ _ base _ T;refine T.kb.F.lS qW (fun vs H Q E h=>?_) (fun eS A outer s H vs Q E hr h=>?_)
 ·obtain⟨_,_,rfl,_⟩:=h;rfl
 obtain⟨md,pr,rfl,ma,dr,qY,q⟩:=h;have nd:=qW.nd;have hu:=dS hr;refine⟨_,[some (.ref md),none,none,none,none,none,none,none],(ah (c5 1 nd (tX (J:=jO)))
 (ah (c5 2 nd (bu (ag (aS (ag (aS aa) (ag (aC a9 (pv 0) aj ao) aa aY) bW)) aa bW)))
 (ah (mn PassesOwn.never (aD (kj (dS hr)) (pv 2) (bu aa) (aR _))
 (ah (c5 3 nd (bu aa))
 (ah (du PassesOwn.never rfl (cI (pv 2)) (rH rfl (bM (lY 4 nd) (bM (lY 5 nd) iA)))
 (ak (du PassesOwn.never rfl (cI (da wz T.hZ hr (bc 0 (bc 5 aa)))) (lY 6 nd)
 (ak (bh (aD (vi (J:=jO) (M5 hr)) (pv 6) (pv 1) rfl)
 (ah (xN (J:=jO) (M5 hr) (pv 1) (pv 6) (pv 4) rfl)
 (ak (bh (rG (da me T.g7 hr (bc 0 (bc 6 aa))))
 (ak (bK (dv zaj zan zao bD (pv 3) (ag (aS (bc 4 (bc 6 aa))) aa bW))))
 aV)))
 aV)))))
 (ah (c5 2 nd (bu aa))
 (ak (du PassesOwn.never rfl (cI (pv 3)) (rH rfl (bM (lY 4 nd) (bM (lY 6 nd) iA)))
 (ak (du PassesOwn.never rfl (ik rfl T.ju (ag aj aa aP)) (lY 7 nd)
 (ak (bK (dv zaj zan zao bD (pv 2) (ag (aS (ag (bf wM (pv 4) (aS (bc 7 aa))) (ag (da gH T.cX hr (bc 0 (bc 6 (bc 7 aa)))) aa bH) jb)) aa bW))))))))))))
 (ak (aO (pv 1)))))),rfl,?_⟩
 have line:zds=2 ^ 24:=rfl;have li:∀s,cO pr s->∀x∈cR pr s,cO pr x:=fun s h=>t9 dr h;obtain⟨B,d8,wy,fa,QF,R5,XD,_,_,_,_,_,_,hfa⟩:=ma.at_;refine av fun U1 eE=>?_;walk_at "r";intro D hD yD;refine(eE _ _).mpr (av fun U2 gk=>?_);clear eE;have d1:=A3 (J:=jO) (P:=P) (w:=w) (K:=K) (H:=H) yD;have s1:=aq.new hD (.ext (gQ jO P w D []));generalize upd H D (.ext (gQ jO P w D []))=H1 at *;walk_at "r";intro p hp;generalize e2:upd H1 p _=H2;have s2:=gT e2 hp;have yp:H2 p=some (.tup []):=by rw[<- e2];exact ae
 clear e2;have O7:=s1.trans s2;refine bz (O7.seq XD) (v:=.ref fa) (au (j:=3) rfl) (fun p3 DI=>?_);generalize e3:upd H2 p3 _=H3;have s3:=gT e3 DI;have yp3:H3 p3=some (.tup [.ref p,.ref fa]):=by rw[<- e3];exact ae
 clear e3;intro L0 Xo;generalize e4:upd H3 L0 _=H4;have s4:=gL e4 Xo;have yL0:H4 L0=some (.lst [.ref p3]):=Oj e4;clear e4;refine(gk _ _).mpr (av fun U3 i3=>?_);clear gk;have s04:=O7.trans (s3.trans s4);have lv0:vv K H4 [(jB pr,[])] [.ref p3]:=.cons ⟨p3,p,fa,rfl,.of (s4 _ _ yp3),.of (s4 _ _ (s3 _ _ yp)),hfa.mono s04⟩ .nil;refine A2 fun Bd Ml=>?_;walk_at "r";obtain⟨Iv,Mn,Ff⟩:=xW fun (m:Nat) (σ:St) (Hx:Hp) zq=>∀(z3 z4 z5 z6 z7:Option V) (L:zdk) (us:List V) (lv f:iz) (ax:List (kT×V)) (n:Nat),σ=[some (.ref md),some (.ref D),some (.ref L),z3,z4,z5,z6,z7]->aq H Hx->DS jO P w K Hx D ax->eQ K Hx f ax->yU (cO pr) f->Cl (dc pr.body) (bX pr) f (fun _=>False)->Hx L=some (.lst us)->vv K Hx lv us->(∀x∈lv,cO pr x.1/\x.2.length<=n)->cZ pr (jB pr)=ua (cR pr) (bq pr+1) (bq pr+2-n) (c8 (cR pr) (bq pr+1) f lv).1 (c8 (cR pr) (bq pr+1) f lv).2->(lv≠[]->n<=f.length)->m=bq pr+2-n->zq;refine⟨Iv,⟨_,(Mn _ _ _ fun _ zk=>zk none none none none none L0 _ [(jB pr,[])] [] [] 0 rfl s04 ((d1.mono s2).mono (s3.trans s4)) .nil .nil (fun x hx=>(by cases hx)) yL0 lv0 (fun x hx=>(by rw[zar.mp hx];exact⟨cO.first dr,zaf _⟩)) (by rw[vp];rfl) (fun _=>zaf _) rfl)⟩,?_⟩;clear lv0 s04 yL0 s4 Xo yp3 s3 DI O7 yp s2 hp d1 s1;intro m σ Hx hv;refine Ff _ _ _ hv _ fun z3 z4 z5 z6 z7 L us lv f ax n kU sx dx fx ok cl yL QI lok ef hn kW=>?_;subst kU;subst kW;clear hv;have uL:lv.length=us.length:=Paired.length QI;have MK:∀f:iz,yU (cO pr) f->f.length<=bq pr:=fun f ok=>by
  have:=iJ ok.nd (fun x hx=>by obtain⟨y,hy,rfl⟩:=zaF.mp hx;exact ok.CY y hy)
  rwa [zad] at this
 have uZ:=MK f ok;walk_at "r";intro p hp;generalize e0:upd Hx p _=Hy;have sy:=gL e0 hp;have yp:Hy p=some (.lst []):=Oj e0;clear e0;have sx:=sx.trans sy;have dx:=dx.mono sy;have fx:=fx.imp (H':=Hy) fun a xs h=>sy.a7 h;have yL:=sy _ _ yL;have QI:=QI.imp (H':=Hy) fun a xs h=>sy.a7 h;clear sy;refine⟨L,p,us,rfl,rfl,.of yL,.of yp,?_⟩;cases lv with
 |nil=>
  have e0:us=[]:=zaV.mp uL.symm;subst e0;refine(zzn (by decide)).mpr ((i3 _ _).mpr ?_);walk_at "r";rw[show c8 (cR pr) (bq pr+1) f []=(f,[]) from rfl,xT] at ef;rw[ef] at q;exact q D ax Hy sx hD dx fx
 |cons a0 SU=>
 have DE:(a0::SU)≠[]:=by simp
 have hn:=hn DE;obtain⟨u0,QF,rfl⟩:∃u0 QF,us=u0::QF:=by cases us with |nil=>cases uL |cons a b=>exact⟨_,_,rfl⟩
 refine(zzp rfl).mpr ?_;generalize a0::SU=lv at *;generalize u0::QF=us at *;clear hp yp;refine⟨Iv (bq pr+2-(n+1)),fun σ' H' h=>⟨_,by lia,h⟩,?_⟩;refine Ml _ _ _ (av fun V1 BQ=>?_);clear Ml i3;walk_at "r";intro aL QJ;refine(BQ _ _).mpr (av fun V2 BR=>?_);clear BQ;have sb:=aq.new QJ (.lst []);have ya:(upd Hy aL (.lst [])) aL=some (.lst []):=ae;have aaG:H aL=none:=sx.free QJ;have nLa:L≠aL:=ai yL QJ;have ZR:D≠aL:=by obtain⟨φ,e⟩:=dx.nK;exact ai e QJ
 have sx:=sx.trans sb;have dx:=dx.mono sb;have fx:=fx.imp (H':=upd Hy aL (.lst [])) fun a xs h=>sb.a7 h;have yL:=sb _ _ yL;have QI:=QI.imp (H':=upd Hy aL (.lst [])) fun a xs h=>sb.a7 h;generalize upd Hy aL (.lst [])=H1 at *;clear sb QJ;refine fH fun U hU=>?_;walk_at "r";refine⟨⟨us,.of yL⟩,hU _ _ ?_⟩;clear hU;obtain⟨Pv,mh,dQ⟩:=xW fun (i:Nat) (σ:St) (H5:Hp) zq=>∀(z4 z5 z6 z7:Option V) (Jo:List V) (A f5:iz) (bs:List (List Int×List b7)) (qb:List (kT×V)),σ=[some (.ref md),some (.ref D),some (.ref L),some (.ref aL),z4,z5,z6,z7]->aq H H5->DS jO P w K H5 D qb->eQ K H5 f5 qb->yU (cO pr) f5->Cl (dc pr.body) (bX pr) f5 (fun _=>False)->H5 L=some (.lst us)->vv K H5 lv us->H5 aL=some (.lst Jo)->vv K H5 A Jo->(∀a∈A,cO pr a.1/\dc pr.body a.1.1=true/\a.2.length<=n)->f.length+A.length<=f5.length->c8 (cR pr) (bq pr+1) f (lv.take i)=(f5,bs)->cA bs=lF (bX pr) A->zq;refine fG (K:=K) (a:=L) (xs:=us) Pv ((mh _ _ _ fun _ zk=>zk _ _ _ _ [] [] f [] ax rfl sx dx fx ok cl yL QI ya .nil (fun a ha=>(by cases ha)) (zaf _) rfl rfl)) (fun i σ H5 _ hv=>?_) ?_ ?_
 ·refine dQ _ _ _ hv _ fun _ _ _ _ _ _ _ _ _ _ _ _ _ _ _ MH _ _ _ _ _ _ _=>?_;exact .of MH
 ·intro i y σ H5 hi hv;clear dx fx sx QI yL ya;refine dQ _ _ _ hv _ fun z4 z5 z6 z7 Jo A f5 bs qb kU s5 d5 Jn SW cl5 MH XW Ng A5 XX XS e5 eb=>?_;subst kU;clear hv;obtain⟨x0,hx0,ta,ga,sa,rfl,q1,q2,q3⟩:=eY XW hi;have lx:=lok x0 (zaI hx0);refine⟨ta,_,rfl,q1,rfl,_,_,rfl,_,_,rfl,rfl,?_⟩;simp only[zaT];refine fH fun U hU=>?_;walk_at "r";refine⟨md,sa,pr,x0.1,rfl,ma.mono s5,dr,q3,lx.1,by lia,fun gl Wv g H6 s6 hgl ygl gst sg gi gln=>⟨gl,rfl,⟨Wv,.of ygl⟩,hU _ _ ?_⟩⟩;clear hU;obtain⟨eg1,eg2,eg3⟩:=OH dr (fig:=x0.2) (n:=bq pr+1) sg (by lia) cl5;have lgu:g.length=Wv.length:=Paired.length gst;have ngD:gl≠D:=by obtain⟨φ,e⟩:=d5.nK;exact(ai e hgl).symm
  have nga:gl≠aL:=(ai Ng hgl).symm;obtain⟨Pw,yr,jI⟩:=xW fun (j:Nat) (σ:St) (H6:Hp) zq=>∀(z6:Option V) (wA:List V) (oy:List (kT×V)),σ=[some (.ref md),some (.ref D),some (.ref L),some (.ref aL),some (.ref ga),some (.ref sa),z6,z7]->aq H H6->DS jO P w K H6 D oy->eQ K H6 (fe (dc pr.body) f5 (g.take j) x0.2).1 oy->H6 L=some (.lst us)->vv K H6 lv us->H6 aL=some (.lst wA)->vv K H6 (A++(fe (dc pr.body) f5 (g.take j) x0.2).2) wA->H6 gl=some (.lst Wv)->iK K H6 g Wv->bQ K H6 ga (x0.2.map V.int)->zq;refine fG (K:=K) (a:=gl) (xs:=Wv) Pw ((yr _ _ _ fun _ zk=>zk _ Jo qb rfl (s5.trans s6) (d5.mono s6) (Jn.imp (fun a xs h=>s6.a7 h)) (s6 _ _ MH) (XW.imp (fun a xs h=>s6.a7 h)) (s6 _ _ Ng) (by rw[zc4,fe,zav];exact A5.imp fun a xs h=>s6.a7 h) ygl gst (s6.a7 q2))) (fun j σ H7 _ hv=>?_) ?_ ?_
  ·refine jI _ _ _ hv _ fun _ _ _ _ _ _ _ _ _ _ _ yg _ _=>?_;exact .of yg
  ·intro j y σ H7 hj hv;clear s6 hgl ygl gst d5 Jn MH XW Ng A5 q1 q2 q3 s5;refine jI _ _ _ hv _ fun z6 wA oy kU s7 d7 f7 TQ Ww Nh A7 Wx ML q2=>?_;subst kU;clear hv;obtain⟨x,hx,xa,rfl,stx⟩:=eY ML hj;have xm:x∈g:=zaI hx;have six:=gi x xm;have tk:g.take (j+1)=g.take j++[x]:=by rw[zbG,hx];rfl
   obtain⟨XY,SX,ln7⟩:=wW (ask:=dc pr.body) (g:=x0.2) (g.take j) f5 SW fun y hy=>gi y (zbK hy);have ap:=xU (ask:=dc pr.body) (g:=x0.2) (g.take j) [x] f5;rw[<- tk] at ap;generalize fe (dc pr.body) f5 (g.take j) x0.2=fa7 at *;obtain⟨f6,A6⟩:=fa7;simp only at f7 A7 ap XY SX ln7;have fw:=MK f6 XY;have lA:(A++A6).length=wA.length:=Paired.length A7;rw[zae] at lA;have lk7:=f7.len;obtain⟨φ7,SY⟩:=d7.nK;simp only[eM,zaT];walk_at "r";refine⟨D,xa,oy,nJ x,rfl,rfl,d7,Ae stx,?_⟩;rw[f7.Xe x];by_cases Wy:x∈f6.map (·.1)
   ·refine(zzn (by rw[decide_eq_true Wy];decide)).mpr ?_;have ea:fe (dc pr.body) f6 [x] x0.2=(f6,[]):=by rw[fe,zzp Wy,fe]
    rw[ea,zav] at ap;refine(yr _ _ _ fun _ zk=>zk _ wA oy rfl s7 d7 (by rw[ap];exact f7) TQ Ww Nh (by rw[ap];exact A7) Wx ML q2)
   refine(zzp (by rw[decide_eq_false Wy];decide)).mpr ?_;have ea:fe (dc pr.body) f6 [x] x0.2=(f6++[(x,x0.2)],if dc pr.body x.1=true then [(x,x0.2)] else []):=by rw[fe,zzn Wy,fe,zav]
   rw[ea] at ap;refine⟨D,xa,oy,nJ x,rfl,rfl,d7,Ae stx,by lia,fun H8 d8 e8=>?_⟩;obtain⟨φ',rfl⟩:=e8;have u8:aZ D H7 (upd H7 D (.ext φ')):=(aZ.refl _ _).put _;have s8:aq H (upd H7 D (.ext φ')):=fun z o e=>u8 z o (ai e hD) (s7 z o e);have tt:∀a xs,bQ K H7 a xs->bQ K (upd H7 D (.ext φ')) a xs:=fun a xs h=>h.lW SY u8;have q2:=tt _ _ q2;have f8:=(f7.imp tt).put Wy q2;have yL8:=u8 _ _ (bU TQ SY (by intro z;cases z)) TQ;have S0:=u8 _ _ (bU Nh SY (by intro z;cases z)) Nh;have yg8:=u8 _ _ (bU Wx SY (by intro z;cases z)) Wx;have lv8:=Ww.imp tt;have A8:=A7.imp tt;have Wz:=nL ML fun a row vals h=>h.ext SY u8;have stx:=stx.ext SY u8;clear u8 tt;generalize upd H7 D (.ext φ')=H8 at *;clear d7 f7 TQ Ww Nh A7 Wx ML s7 SY;refine⟨md,xa,pr,x,rfl,ma.mono s8,dr,stx,six,?_⟩;cases ha:dc pr.body x.1 with
   |false=>
    rw[ha,zzn (by decide),zav] at ap;refine⟨_,rfl,(zzn (by decide)).mpr ?_⟩;exact(yr _ _ _ fun _ zk=>zk _ wA _ rfl s8 d8 (by rw[ap];exact f8) yL8 lv8 S0 (by rw[ap];exact A8) yg8 Wz q2)
   |true=>
    rw[ha,zzp rfl] at ap;refine⟨_,rfl,(zzp rfl).mpr ?_⟩;refine⟨.inl ⟨rfl,_,.of S0⟩,fun pp Bk=>?_⟩;have s9:=aq.new Bk (.tup [.ref ga,.ref xa]);have QG:(upd H8 pp (.tup [.ref ga,.ref xa])) pp=_:=ae;generalize upd H8 pp (.tup [.ref ga,.ref xa])=H9 at *;have XZ:=s9 _ _ S0;refine⟨aL,wA,.ref pp,rfl,rfl,XZ,by lia,?_⟩;have uB:aZ aL H9 (upd H9 aL (.lst (wA++[.ref pp]))):=(aZ.refl _ _).put _;have tt:∀a xs,bQ K H8 a xs->bQ K (upd H9 aL (.lst (wA++[.ref pp]))) a xs:=fun a xs h=>(s9.a7 h).vg XZ uB;have IU:=s8.trans s9;refine(yr _ _ _ fun _ zk=>zk _ (wA++[.ref pp]) _ rfl (fun z o e=>uB z o (ai e aaG) (IU z o e)) ((d8.mono s9).Iu (fun o h=>uB _ _ ZR h) (fun c ys h=>h.vg XZ uB)) (by rw[ap];exact f8.imp tt) (uB _ _ nLa (s9 _ _ yL8)) (lv8.imp tt) ae ?_ (uB _ _ nga (s9 _ _ yg8)) (nL Wz (fun a row vals ⟨va,h1,h2⟩=>⟨va,tt _ _ h1,tt _ _ h2⟩)) (tt _ _ q2));rw[ap,<- za2];obtain⟨va,h1,h2⟩:=stx;exact nM (A8.imp tt) (.cons ⟨pp,ga,xa,rfl,bQ.vg (.of QG) XZ uB,tt _ _ q2,va,tt _ _ h1,tt _ _ h2⟩ .nil)
  ·intro σ H7 hv;refine jI _ _ _ hv _ fun z6 wA oy kW s7 d7 f7 TQ Ww Nh A7 Wx ML q2=>?_;subst kW;rw[<- lgu,zaU] at f7 A7;obtain⟨XY,SX,ln7⟩:=wW (ask:=dc pr.body) (g:=x0.2) g f5 SW gi;refine(mh _ _ _ fun _ zk=>zk _ _ _ _ wA (A++(fe (dc pr.body) f5 g x0.2).2) _ (bs++oH x0.2 (lX (cR pr) (bq pr+1) f5 x0.1 x0.2).2) oy rfl s7 d7 f7 XY eg3 TQ Ww Nh A7 (fun a ha=>?_) (by rw[zae];lia) ?_ ?_)
   ·rcases zaz.mp ha with ha |ha
    ·exact XX a ha
    ·obtain⟨b1,b2,b3⟩:=SX a ha;exact⟨b1,b2,by rw[b3];exact lx.2⟩
   ·rw[zbG,hx0,zby,vo,e5];obtain⟨x1,x2⟩:=x0;rw[vp,eg1]
   ·rw[E1,Ag,eb,eg2]
 ·intro σ H5 hv;clear dx fx sx QI yL ya;refine dQ _ _ _ hv _ fun z4 z5 z6 z7 Jo A f5 bs qb kW s5 d5 Jn SW cl5 MH XW Ng A5 XX XS e5 eb=>?_;subst kW;clear hv mh dQ Pv;rw[<- uL,zaU] at e5;refine(BR _ _).mpr (av fun V3 Si=>?_);clear BR;walk_at "r";intro b hb;refine(Si _ _).mpr ?_;clear Si;have sb:=aq.new hb (.lst []);have yb:(upd H5 b (.lst [])) b=some (.lst []):=ae;have HZ:H b=none:=s5.free hb;have RC:aL≠b:=ai Ng hb;have Sr:D≠b:=by obtain⟨φ,e⟩:=d5.nK;exact ai e hb
  have s5:=s5.trans sb;have d5:=d5.mono sb;have Jn:=Jn.imp (H':=upd H5 b (.lst [])) fun a xs h=>sb.a7 h;have Ng:=sb _ _ Ng;have A5:=A5.imp (H':=upd H5 b (.lst [])) fun a xs h=>sb.a7 h;generalize upd H5 b (.lst [])=H6 at *;clear sb hb;have aaL:A.length=Jo.length:=Paired.length A5;have agt:=MK f5 SW;refine fH fun U hU=>?_;walk_at "r";refine⟨⟨Jo,.of Ng⟩,hU _ _ ?_⟩;clear hU;obtain⟨Pv,mh,dQ⟩:=xW fun (i:Nat) (σ:St) (H7:Hp) zq=>∀(z4 z5 z6 z7:Option V) (p9:List V),σ=[some (.ref md),some (.ref D),some (.ref b),some (.ref aL),z4,z5,z6,z7]->aq H H7->DS jO P w K H7 D qb->eQ K H7 f5 qb->H7 aL=some (.lst Jo)->vv K H7 A Jo->H7 b=some (.lst p9)->vv K H7 (lF (bX pr) (A.take i)) p9->zq;refine fG (K:=K) (a:=aL) (xs:=Jo) Pv ((mh _ _ _ fun _ zk=>zk _ _ _ _ [] rfl s5 d5 Jn Ng A5 yb .nil)) (fun i σ H7 _ hv=>?_) ?_ ?_
  ·refine dQ _ _ _ hv _ fun _ _ _ _ _ _ _ _ _ y _ _ _=>?_;exact .of y
  ·intro i y σ H7 hi hv;clear s5 d5 Jn Ng A5 yb;refine dQ _ _ _ hv _ fun z4 z5 z6 z7 p9 kU s7 d7 f7 Nh A7 X0 N7=>?_;subst kU;clear hv;obtain⟨a0,Jm,ta,ga,sa,rfl,q1,q2,q3⟩:=eY A7 hi;obtain⟨sia,S1,lna⟩:=XX a0 (zaI Jm);have h0:a0.1.1≠0:=fun z=>by rw[z,tY dr.ok] at S1;cases S1
   have il:i<A.length:=(zak.mp Jm).1;refine⟨ta,_,rfl,q1,rfl,_,_,rfl,_,_,rfl,rfl,?_⟩;simp only[zaT];walk_at "r";obtain⟨Pw,yr,jI⟩:=xW fun (j:Nat) (σ:St) (H8:Hp) zq=>∀(z7:Option V) (p9:List V),σ=[some (.ref md),some (.ref D),some (.ref b),some (.ref aL),some (.ref ga),z5,some (.ref sa),z7]->aq H H8->DS jO P w K H8 D qb->eQ K H8 f5 qb->H8 aL=some (.lst Jo)->vv K H8 A Jo->H8 b=some (.lst p9)->vv K H8 (lF (bX pr) (A.take i)++nextJ (bX pr) a0 j) p9->bQ K H8 ga (a0.2.map V.int)->cE K H8 sa a0.1.1 a0.1.2->zq;refine⟨10,rfl,by decide,by decide,?_⟩;refine ki (lo:=0) (n:=10) Pw ((yr _ _ _ fun _ zk=>zk _ p9 rfl s7 d7 f7 Nh A7 X0 (by rw[show nextJ (bX pr) a0 0=[] from rfl,zav];exact N7) q2 q3)) ?_ ?_
   ·intro j σ H8 hj hv;clear s7 d7 f7 Nh A7 X0 N7 q1 q2 q3;refine jI _ _ _ hv _ fun z7 p9 kU s8 d8 f8 S0 A8 X1 N8 q2 q3=>?_;subst kU;clear hv;simp only[eM,zaT];walk_at "r";rw[zcJ];refine⟨.inl ⟨rfl,_,.of X1⟩,fun p1 Fd=>?_⟩;have s9:=aq.new Fd (.tup [.int j]);have yp1:(upd H8 p1 (.tup [.int j])) p1=_:=ae;generalize upd H8 p1 (.tup [.int j])=H9 at *;refine⟨ga,p1,_,_,rfl,rfl,s9.a7 q2,.of yp1,by rw[zad,zax];lia,fun gp HA sA QH=>?_⟩;have Wq:=s9.trans sA;have QH:bQ K HA gp ((a0.2++[((j:Nat):Int)]).map V.int):=by rw[zaw];exact QH
    refine⟨md,sa,.int j,pr,a0.1,j,rfl,ma.mono (s8.trans Wq),dr,q3.mono Wq,sia,h0,fun _=>rfl,fun v HB sB ov=>fun pp Bk=>?_⟩;obtain⟨y1,ey⟩:∃y1,(bX pr a0.1.1 a0.1.2 j).1=some y1:=by
     cases e:(bX pr a0.1.1 a0.1.2 j).1 with
     |none=>exact zzb e (xQ _ _ _ S1)
     |some y1=>exact⟨y1,rfl⟩
    rw[ey] at ov;obtain⟨ya,rfl,Zz⟩:=ov;have sC:=aq.new Bk (.tup [.ref gp,.ref ya]);have QG:(upd HB pp (.tup [.ref gp,.ref ya])) pp=_:=ae;generalize upd HB pp (.tup [.ref gp,.ref ya])=HC at *;have QD:=Wq.trans (sB.trans sC);have ybC:=QD _ _ X1;have lb:=Paired.length N8;have lA1:(lF (bX pr) (A.take i)).length<=20000:=by
     rw[vt,zbU];lia
    have lA2:(nextJ (bX pr) a0 j).length=j:=by unfold nextJ;rw[zad,zbt]
    rw[zae] at lb;refine⟨b,p9,.ref pp,rfl,rfl,ybC,by lia,?_⟩;have uB:aZ b HC (upd HC b (.lst (p9++[.ref pp]))):=(aZ.refl _ _).put _;have tt:∀a xs,bQ K HC a xs->bQ K (upd HC b (.lst (p9++[.ref pp]))) a xs:=fun a xs h=>h.vg ybC uB;have t8:∀a xs,bQ K H8 a xs->bQ K (upd HC b (.lst (p9++[.ref pp]))) a xs:=fun a xs h=>tt _ _ (QD.a7 h);have QC:=s8.trans QD;obtain⟨va,h1,h2⟩:=q3;obtain⟨vb,h3,h4⟩:=Zz.mono sC;refine(yr _ _ _ fun _ zk=>zk _ (p9++[.ref pp]) rfl (fun z o e=>uB z o (ai e HZ) (QC z o e)) ((d8.mono QD).Iu (fun o h=>uB _ _ Sr h) (fun c ys h=>tt _ _ h)) (f8.imp t8) (uB _ _ RC (QD _ _ S0)) (A8.imp t8) ae ?_ (t8 _ _ q2) ⟨va,t8 _ _ h1,t8 _ _ h2⟩);rw[EZ,<- za2,ey];exact nM (N8.imp t8) (.cons ⟨pp,gp,ya,rfl,tt _ _ (.of QG),tt _ _ ((sB.trans sC).a7 QH),vb,tt _ _ h3,tt _ _ h4⟩ .nil)
   ·intro σ H8 hv;refine jI _ _ _ hv _ fun z7 p9 kW s8 d8 f8 S0 A8 X1 N8 q2 q3=>?_;subst kW;refine(mh _ _ _ fun _ zk=>zk _ _ _ _ p9 rfl s8 d8 f8 S0 A8 X1 ?_);rw[zbG,Jm,zby,Ag];exact(show lF (bX pr) [a0]=nextJ (bX pr) a0 10 by unfold lF;rw[zaG,zbk,zav])▸N8
  ·intro σ H7 hv;refine dQ _ _ _ hv _ fun z4 z5 z6 z7 p9 kW s7 d7 f7 Nh A7 X0 N7=>?_;subst kW;rw[<- aaL,zaU] at N7;have lb:=Paired.length N7;rw[vt] at lb;refine(Mn _ _ _ fun _ zk=>zk _ _ _ _ _ b p9 _ f5 qb (n+1) rfl s7 d7 f7 SW cl5 X0 N7 (fun x hx=>?_) ?_ (fun h=>?_) rfl)
   ·obtain⟨a,ha,hx⟩:=za7.mp hx;obtain⟨j,hj,rfl⟩:=zaF.mp hx;obtain⟨sia,S1,lna⟩:=XX a ha;have h0:a.1.1≠0:=fun z=>by rw[z,tY dr.ok] at S1;cases S1
    refine⟨?_,by rw[zae,zax];lia⟩;cases e:(bX pr a.1.1 a.1.2 j).1 with
    |none=>exact zzb e (xQ _ _ _ S1)
    |some y1=>exact sia.next dr h0 e
   ·rw[ef,e5,<- eb,show bq pr+2-n=(bq pr+2-(n+1))+1 by lia,ua];show (if bs=[] then f5 else _)=_;split
    ·rename_i hb;rw[hb];show f5=ua _ _ _ f5 [];rw[xT]
    ·rfl
   ·have:A≠[]:=fun z=>by rw[z] at h;exact h rfl
    have:=zbg.mpr this;lia
theorem sJ(T:Tx K mg t){c Pt:zdk}(B:ji K mg base c Pt)(hc:vk K t.bS c) :
 bJ P w K mg base dw 12 t.dY t.fC ["chart"] (R6 P w K t.aW "first_inputs.<locals>.<lambda>" Pt (rX (iw aT))):=by
 have yv:=@wx P w _ _ base _ T _ _ B hc;have Bv:=@ze P w _ _ base _ T;refine T.gh.F.lS kG (fun vs H Q E h=>?_) (fun eS A outer s H vs Q E hr h=>?_)
 ·obtain⟨_,_,_,rfl,_⟩:=h;rfl
 obtain⟨ch,pr,tps,rfl,co,dr,qY,BP,tok,q⟩:=h;have nd:=kG.nd;have hu:=dS hr;refine⟨_,[some (.ref ch),none,none,none,none],(ah (c5 1 nd (tX (J:=Iw)))
 (ah (du PassesOwn.never rfl (IJ (J:=jO) (L5 (J:=jO) (da yv T.iW hr (bc 0 aa)))) (rH rfl (bM (lY 2 nd) (bM (lY 3 nd) iA)))
 (ak (du PassesOwn.never rfl (cI (da Bv T.j8 hr (bc 0 (bc 2 aa)))) (lY 4 nd)
 (ak (bK (IK (J:=Iw) (M5 hr) (pv 1) (bc 4 (bc 3 aa))))))))
 (ak (aO (pv 1))))),rfl,?_⟩
 have line:zds=2 ^ 24:=rfl;refine av fun U1 eE=>?_;walk_at "r";intro D hD yD;refine(eE _ _).mpr (av fun U2 gk=>?_);clear eE;have d1:=A3 (J:=Iw) (P:=P) (w:=w) (K:=K) (H:=H) yD;have s1:=aq.new hD (.ext (gQ Iw P w D []));generalize upd H D (.ext (gQ Iw P w D []))=H1 at *;refine C6 fun U hU=>?_;simp only[L1,LZ];walk_at "r";have TR:=C1 dr;refine⟨ch,pr,tps,rfl,co.mono s1,dr,qY,s1 _ _ BP,tok.kp (.same s1),fun F fkv H2 G7 u2 hF dF fF Du MM=>⟨F,fkv,rfl,dF,fun p hp=>?_⟩⟩;have u02:aZ Pt H H2:=(aZ.of s1).trans u2;have nDP:D≠Pt:=fun z=>by rw[z,BP] at hD;cases hD
 obtain⟨φ1,e1⟩:=d1.nK;have d2:DS Iw P w K H2 D []:=d1.Iu (fun o h=>u2 _ _ nDP h) fun b ys h=>h.kp (Kp.of u2 (s1 _ _ BP));have nDF:D≠F:=ai e1 hF;have Zy:H p=none:=by
  cases y:H p with
  |none=>rfl
  |some o=>rw[u02 p o (fun z=>by rw[z,Du] at hp;cases hp) y] at hp;cases hp
 have hF0:H F=none:=s1.free hF;have sp:=aq.new hp (.ext (lG p F));have yp:(upd H2 p (.ext (lG p F))) p=some (.ext (lG p F)):=ae;have dF3:=dF.mono sp;have fF3:=fF.imp (H':=upd H2 p (.ext (lG p F))) fun a xs h=>sp.a7 h;have d3:=d2.mono sp;have TU:=u02.trans (.of sp);have O9:=sp _ _ Du;have Pa:=MM.kp (.same sp);generalize upd H2 p (.ext (lG p F))=H3 at *;refine⟨p,F,fkv,rfl,yp,dF3,fun o ps fz po=>hU _ _ ?_⟩;clear hU;obtain⟨φF,WA⟩:=dF3.nK;have uF:aZ F H3 (upd H3 F (eW F o)):=(aZ.refl _ _).put _;have tt4:∀a xs,bQ K H3 a xs->bQ K (upd H3 F (eW F o)) a xs:=fun a xs h=>h.lW WA uF;have WB:aZ Pt H (upd H3 F (eW F o)):=fun b ob n e=>uF b ob (ai e hF0) (TU b ob n e);have d4:=d3.other WA nDF uF;have WC:=uF _ _ (fun z=>by rw[z,WA] at O9;cases O9) O9;have nFP:F≠Pt:=fun z=>by rw[z,O9] at WA;cases WA
 have agy:=nDF;have WD:=Pa.ds dF3 uF;have X2:(upd H3 F (eW F o)) F=some (eW F o):=ae;have lps:ps.length=(cZ pr (jB pr)).length:=by rw[<- fF3.len];exact(Paired.length po).symm
 have nFD:F≠D:=nDF.symm;have agz:(cZ pr (jB pr)).length<=bq pr:=by
  have:=iJ TR.nd (fun x hx=>by obtain⟨y,hy,rfl⟩:=zaF.mp hx;exact TR.CY y hy)
  rwa [zad] at this
 generalize upd H3 F (eW F o)=H4 at *;obtain⟨Pv,mh,dQ⟩:=xW fun (i:Nat) (σ:St) (H5:Hp) zq=>∀(z2 z3 z4:Option V) (ax:List (List Key×V)),σ=[some (.ref ch),some (.ref D),z2,z3,z4]->aZ Pt H H5->H5 F=some (eW F o)->DS Iw P w K H5 D ax->ax.length<=2*i->oI K H5 (jC pr ((cZ pr (jB pr)).take i)) ax->(∀a xs,bQ K H3 a xs->bQ K H5 a xs)->H5 Pt=some (.rE G7)->TabOk "first_inputs.<locals>.<lambda>" (rX (iw aT)) H5 G7->zq;refine OL (d:=F) (o:=o) (ps:=ps) Pv ((mh _ _ _ fun _ zk=>zk _ _ _ [] rfl WB X2 d4 (zaf _) (fun t=>rfl) tt4 WC WD)) (fun i σ H5 _ hv=>?_) ?_ ?_
 ·refine dQ _ _ _ hv _ fun _ _ _ _ _ _ y _ _ _ _ _ _=>?_;exact y
 ·intro i b v σ H5 pp hi hv Bk;clear WB X2 d4 tt4 WC WD;refine dQ _ _ _ hv _ fun z2 z3 z4 ax kU u5 yF5 d5 lk5 m5 WE S2 S3=>?_;subst kU;clear hv;obtain⟨kv,hkv,on,rfl⟩:=eY po hi;obtain⟨x,hx,ek,a,ea,qa⟩:=eY fF3 hkv;rw[ek] at on;have stx:=EU on;have six:cO pr x.1:=TR.CY x (zaI hx);have il:i<(cZ pr (jB pr)).length:=(zak.mp hx).1;obtain⟨va,wg,yH⟩:=stx;have aaS:cE K H5 b x.1.1 x.1.2:=⟨va,WE _ _ wg,WE _ _ yH⟩
  have qa5:=WE _ _ qa;rw[ea];have s6:=aq.new Bk (.tup [.ref b,.ref a]);have QG:(upd H5 pp (.tup [.ref b,.ref a])) pp=_:=ae;generalize upd H5 pp (.tup [.ref b,.ref a])=H6 at *;refine⟨pp,_,rfl,.of QG,rfl,_,_,rfl,_,_,rfl,rfl,?_⟩;simp only[zaT];have u6:=u5.trans (.of s6);have k6:Kp H H6:=Kp.of u6 BP;refine fH fun U hU=>?_;walk_at "r";refine⟨ch,b,pr,x.1,rfl,co.kp k6,dr,aaS.mono s6,six,fun tl kh H7 s7 BU S4=>⟨tl,rfl,⟨kh,.of S4.1⟩,hU _ _ ?_⟩⟩;clear hU;have QK:=s6.trans s7;have lt:=Ox pr x.1;have ltu:(oG pr x.1).length=kh.length:=by rw[S4.2.length,zad]
  obtain⟨φD,eD5⟩:=d5.nK;have ntD:tl≠D:=(ai (s6 _ _ eD5) BU).symm;obtain⟨Pw,yr,jI⟩:=xW fun (j:Nat) (σ:St) (H8:Hp) zq=>∀(z4:Option V) (ax:List (List Key×V)),σ=[some (.ref ch),some (.ref D),some (.ref b),some (.ref a),z4]->aZ Pt H H8->H8 F=some (eW F o)->DS Iw P w K H8 D ax->ax.length<=2*i+j->oI K H8 (fun u=>(jC pr ((cZ pr (jB pr)).take i) u).or (if u∈(oG pr x.1).take j then some x.2 else none)) ax->(∀a xs,bQ K H7 a xs->bQ K H8 a xs)->H8 Pt=some (.rE G7)->TabOk "first_inputs.<locals>.<lambda>" (rX (iw aT)) H8 G7->GH K H8 tl kh (oG pr x.1)->zq;refine fG (K:=K) (a:=tl) (xs:=kh) Pw ((yr _ _ _ fun _ zk=>zk _ ax rfl (u5.trans (.of QK)) (QK _ _ yF5) (d5.mono QK) (by lia) ((m5.imp fun a xs h=>QK.a7 h).congr fun u=>by simp) (fun a xs h=>h) (QK _ _ S2) (S3.kp (.same QK)) S4)) (fun j σ H8 _ hv=>?_) ?_ ?_
  ·refine jI _ _ _ hv _ fun _ _ _ _ _ _ _ _ _ _ _ tg=>?_;exact .of tg.1
  ·intro j y σ H8 hj hv;refine jI _ _ _ hv _ fun z4 ax kU u8 X3 d8 lk8 m8 WG Fs IW WH=>?_;subst kU;clear hv;have jl:j<(oG pr x.1).length:=by have:=(zak.mp hj).1;lia
   obtain⟨y',Rk,rt⟩:=WH.2.get (i:=j) (d:=eR (oG pr x.1)[j]) (by rw[zam,zac jl];rfl);rw[hj] at Rk;cases Rk;obtain⟨ta,rfl,ot⟩:=P0 rt;have qa8:=WG _ _ (QK.a7 qa5);have Pb:∀u,u∈(oG pr x.1).take (j+1)↔u∈(oG pr x.1).take j\/u=(oG pr x.1)[j]:=fun u=>by rw[zaQ jl,zaz,zar]
   simp only[eM,zaT,Qj];walk_at "r";refine⟨D,rfl,⟨_,d8⟩,ta,ax,pL (oG pr x.1)[j],.ref a,rfl,d8,ot,by lia,fun u hu=>?_,fun hn H9 d9 e9=>?_⟩
   ·have em:∃g,(jC pr ((cZ pr (jB pr)).take i) (oG pr x.1)[j]).or (if (oG pr x.1)[j]∈(oG pr x.1).take j then some x.2 else none)=some g:=by
     have:=m8 (oG pr x.1)[j];cases e:(jC pr ((cZ pr (jB pr)).take i) (oG pr x.1)[j]).or (if (oG pr x.1)[j]∈(oG pr x.1).take j then some x.2 else none) with
     |none=>simp only[e] at this;rw[show cm ax (pL (oG pr x.1)[j])=none from this] at hu;cases hu
     |some g=>exact⟨g,rfl⟩
    obtain⟨g,em⟩:=em;refine(yr _ _ _ fun _ zk=>zk _ ax rfl u8 X3 d8 (by lia) (m8.congr fun u=>?_) WG Fs IW WH);by_cases eu:u=(oG pr x.1)[j]
    ·subst eu;cases e1:jC pr ((cZ pr (jB pr)).take i) (oG pr x.1)[j] with
     |some g1=>rfl
     |none=>
      rw[e1,zcu] at em;simp only[zcu];split at em
      ·rename_i hm;rw[zzp hm,zzp ((Pb _).mpr (.inl hm))]
      ·cases em
    ·simp only[Pb,eu,or_false]
   ·obtain⟨φ9,rfl⟩:=e9;obtain⟨φ8,eD8⟩:=d8.nK;have u9:aZ D H8 (upd H8 D (.ext φ9)):=(aZ.refl _ _).put _;have em:(jC pr ((cZ pr (jB pr)).take i) (oG pr x.1)[j]).or (if (oG pr x.1)[j]∈(oG pr x.1).take j then some x.2 else none)=none:=by
     have:=m8 (oG pr x.1)[j];cases e:(jC pr ((cZ pr (jB pr)).take i) (oG pr x.1)[j]).or (if (oG pr x.1)[j]∈(oG pr x.1).take j then some x.2 else none) with
     |none=>rfl
     |some g=>simp only[e] at this;obtain⟨b,h1,_⟩:=this;rw[hn] at h1;cases h1
    have tt9:∀a xs,bQ K H8 a xs->bQ K (upd H8 D (.ext φ9)) a xs:=fun a xs h=>h.lW eD8 u9;refine(yr _ _ _ fun _ zk=>zk _ _ rfl (fun z ob n e=>u9 z ob (ai e hD) (u8 z ob n e)) (u9 _ _ nFD X3) d9 (zaC (ip _ _ _) (by lia)) (((m8.imp tt9).put em (tt9 _ _ qa8)).congr fun u=>?_) (fun a xs h=>tt9 _ _ (WG _ _ h)) (u9 _ _ nDP.symm Fs) (IW.ds d8 u9) ⟨u9 _ _ ntD WH.1,mJ eD8 u9 _ _ WH.2⟩);by_cases eu:u=(oG pr x.1)[j]
    ·subst eu;rw[em];rw[Option.or_eq_none_iff] at em;rw[em.1,zzp rfl,zzp ((Pb _).mpr (.inr rfl))]
    ·simp only[Pb,eu,or_false,if_false,Option.or_none]
  ·intro σ H8 hv;refine jI _ _ _ hv _ fun z4 ax kW u8 X3 d8 lk8 m8 WG Fs IW WH=>?_;subst kW;refine(mh _ _ _ fun _ zk=>zk _ _ _ ax rfl u8 X3 d8 (by lia) (m8.congr fun u=>?_) (fun a xs h=>WG _ _ (QK.a7 (WE _ _ h))) Fs IW);rw[<- ltu,zaU,zbG,hx,zby,ud];rfl
 ·intro σ H5 hv;refine dQ _ _ _ hv _ fun z2 z3 z4 ax kW u5 yF5 d5 lk5 m5 WE S2 S3=>?_;subst kW;rw[lps,zaU] at m5;refine(gk _ _).mpr ?_;walk_at "r";exact q D ax H5 G7 u5 hD d5 m5 S2 S3
theorem Dv(T:Tx K mg t){c Pt:zdk}(B:ji K mg base c Pt)(hc:vk K t.bS c)(eC:bJ P w K mg base dw 1 t.dW t.dX ["body", "behind"] (tR K))(fN:bJ P w K mg base dw 6 t.cB t.cF ["body"] (qr K 4))(yi:bJ P w K mg base dw 7 t.sf t.qw ["program"] (EB K)) :
 bJ P w K mg base dw 13 t.kL t.lJ ["program", "target"] (ON K "first_inputs.<locals>.<lambda>" Pt (rX (iw aT))):=by
 have Bw:=@yW P w _ _ base _ T eC fN yi;have uI:=@sJ P w _ _ base _ T _ _ B hc;refine T.kP.F.lS vW (fun vs H Q E h=>?_) (fun eS A outer s H vs Q E hr h=>?_)
 ·obtain⟨_,_,_,_,_,rfl,_⟩:=h;rfl
 obtain⟨v,tv,pr,tg,ps,rfl,rp,rt,dr,qY,BP,tok,q⟩:=h;have nd:=vW.nd;refine⟨_,[some v,some tv,none],(ah (c5 2 nd (da uI T.gh hr (ag (Nw T.yd Bw (hr.mono (by first|decide|omega)) rfl T.Ma T.Bh .nil JS (bc 0 aa)) aa bH)))
 (ah (bh (aD (RO (J:=Iw) (M5 hr)) (pv 1) (pv 2) rfl)
 (ak (aO (fO tD rfl T.sj PyProof.Rows.Boot.«list» (ag (CO (J:=Iw) (M5 hr) (pv 2) (pv 1) k0) aa aY))))
 aV)
 (ak (aO eU)))),rfl,?_⟩
 obtain⟨ta,rfl,ot⟩:=P0 rt;refine av fun U1 eE=>?_;walk_at "r";intro p dx hp Xi ne;have s1:aq H (upd (upd H dx (.own p)) p (.ins t.aW dx [])):=(aq.new Xi _).trans (aq.new (by rw[aw ne.symm];exact hp) _);refine⟨p,dx,v,pr,rfl,ae,by rw[aw ne];exact ae,rp.mono s1,dr.dep,dr.uZ,dr.ok.pw,dr.ok.nb,dr.ok.uZ,fun H2 u2 co=>⟨rfl,?_⟩⟩;have s2:aq H H2:=((aZ.of s1).trans u2).same hp;refine⟨p,pr,ps,rfl,co,dr,qY,s2 _ _ BP,tok.kp (.same s2),fun D ax H3 ps3 u3 hD d3 m3 y3 Pa=>(eE _ _).mpr ?_⟩;clear eE;have TU:aZ Pt H H3:=(aZ.of s2).trans u3;have k03:Kp H H3:=Kp.of TU BP;have ot3:=Iw.up (fun b ys q=>bQ.kp q k03) ot;have m:=m3 tg;refine av fun U2 gk=>?_;walk_at "r";refine⟨D,ta,ax,pL tg,rfl,rfl,d3,ot3,?_⟩;cases e:jC pr (cZ pr (jB pr)) tg with
 |none=>
  rw[e] at m;rw[show cm ax (pL tg)=none from m];refine(zzn (by decide)).mpr ((gk _ _).mpr ?_);walk_at "r";exact(q H3 ps3 TU y3 Pa).1 e
 |some g=>
  rw[e] at m;obtain⟨a,e1,qa⟩:=m;rw[e1];refine(zzp rfl).mpr ?_;refine⟨D,ta,ax,pL tg,.ref a,rfl,rfl,d3,ot3,e1,a,_,rfl,.inr qa,fun l hl=>?_⟩;have sl:=aq.new hl (.lst (g.map V.int));have VM:H l=none:=by
   cases y:H l with
   |none=>rfl
   |some o=>rw[TU l o (ai y3 hl).symm y] at hl;cases hl
  exact(q _ ps3 (TU.trans (.of sl)) (sl _ _ y3) (Pa.kp (.same sl))).2 g l e VM ae
theorem G8{K:zaa}{H:Hp}:∀ {f:iz} {ax:List (kT×V)} {i:Nat} {x:b7×List Int},eQ K H f ax->(f.map (·.1)).Nodup->f[i]?=some x->∃a,cm ax (nJ x.1)=some (.ref a)/\bQ K H a (x.2.map V.int)
 |[],_,_,_,h,_,e=>by simp at e
 |y::r,_,i,x,h,nd,e=>by
  cases h with
  |@cons _ kv _ _ p b=>
   obtain⟨k,v⟩:=kv;obtain⟨ek,a,ea,qa⟩:=p;simp only at ek ea;subst ek ea;rw[zal,zaE] at nd;cases i with
   |zero=>cases e;exact⟨a,cu rfl,qa⟩
   |succ i=>
    rw[zb8] at e;rw[cw (fun z=>nd.1 (zaF.mpr ⟨x,zaI e,(xP z).symm⟩))];exact G8 b nd.2 e
theorem vG(T:Tx K mg t):bJ P w K mg base dw 7 t.fL t.gK ["made", "found", "target"] (L6 P w K):=by
 have Ft:=@Dt P w _ _ base _ T;refine T.ia.F.lS mN (fun vs H Q E h=>?_) (fun eS A outer s H vs Q E hr h=>?_)
 ·obtain⟨_,_,_,_,_,_,_,rfl,_⟩:=h;rfl
 obtain⟨md,F,tv,pr,tg,f,ax,rfl,ma,dr,dF,fF,PR,fin,rt,q⟩:=h;have nd:=mN.nd;have hu:=dS hr;refine⟨_,[some (.ref md),some (.ref F),some tv,none],(ah (du PassesOwn.never rfl (L4 (J:=jO) (pv 1)) (lY 3 nd)
 (ak (bh (aD (RQ (NQ hr)) (pv 2) (da Ft T.oo hr (bc 0 (bc 3 aa))) rfl)
 (ak (aO (GQ (fO tD rfl T.sj PyProof.Rows.Boot.«list» (ag (CO (J:=jO) (M5 hr) (pv 1) (pv 3) k0) aa aY)))))
 aV)))
 (ak (aO (GQ eU)))),rfl,?_⟩
 refine av fun U2 gk=>?_;refine C6 fun U hU=>?_;simp only[Qi];walk_at "r";refine⟨F,ax,rfl,dF,fun o ps fz po=>hU _ _ ?_⟩;clear hU;obtain⟨φF,eF⟩:=dF.nK;have uF:aZ F H (upd H F (eW F o)):=(aZ.refl _ _).put _;have WI:∀a xs,bQ K H a xs->bQ K (upd H F (eW F o)) a xs:=fun a xs h=>h.lW eF uF;have ma1:=ma.ext eF uF;have rt1:=qv eF uF _ _ rt;have X4:(upd H F (eW F o)) F=some (eW F o):=ae;have lps:ps.length=f.length:=by rw[<- fF.len];exact(Paired.length po).symm
 generalize upd H F (eW F o)=H1 at *;have fre:∀ {H'} {l:zdk},aq H1 H'->H' l=none->H l=none:=fun {H' l} s hl=>by
  cases y:H l with
  |none=>rfl
  |some ob=>
   have h1:H1 l=none:=s.free hl;rw[uF l ob (ai X4 h1).symm y] at h1;cases h1
 refine OM (d:=F) (o:=o) (ps:=ps) (fun i σ Hx=>∃z,σ=[some (.ref md),some (.ref F),some tv,z]/\aq H1 Hx/\jC pr (f.take i) tg=none) ⟨none,rfl,aq.refl _,rfl⟩ (fun i σ Hx _ hv=>?_) ?_ ?_
 ·obtain⟨_,_,sx,_⟩:=hv;exact sx _ _ X4
 ·intro i b v σ Hx hi hv;obtain⟨z,rfl,sx,hn⟩:=hv;obtain⟨kv,hkv,on,rfl⟩:=eY po hi;obtain⟨x,hx,ek,_⟩:=eY fF hkv;rw[ek] at on;have on1:=jO.up WI on;have six:cO pr x.1:=fin x (zaI hx);have il:i<f.length:=(zak.mp hx).1;have stx:=(EU on1).mono sx;simp only[eM,zaT,GP];walk_at "r";refine⟨md,b,pr,x.1,rfl,ma1.mono sx,dr,stx,six,fun tl kh H3 s3 BU WJ=>?_⟩;have S5:=sx.trans s3;refine⟨eR tg,(oG pr x.1).map eR,rt1.mono S5,Rep.bL.mpr ⟨tl,kh,rfl,.of WJ.1,WJ.2⟩,(Lu tg).1,(EC _).1,(Lu tg).2,?_⟩;rw[RS];by_cases hm:tg∈oG pr x.1
  ·have X5:=S5 _ _ X4;obtain⟨φ,h1,h2,d4⟩:=fz.Vy X5 fun a xs h=>S5.a7 (WI _ _ h);have u4:aZ F H3 (upd H3 F (.ext φ)):=(aZ.refl _ _).put _;obtain⟨a,e1,qa⟩:=G8 fF PR hx;have on4:=jO.up (fun a xs h=>(S5.a7 (WI _ _ h)).lW X5 u4) on;have qa4:=(S5.a7 (WI _ _ qa)).lW X5 u4;have WB:aZ F H (upd H3 F (.ext φ)):=uF.trans ((aZ.of S5).trans u4);have X2:(upd H3 F (.ext φ)) F=some (.ext φ):=ae;refine⟨_,rfl,(zzp (by rw[decide_eq_true hm])).mpr ⟨F,o,φ,X5,h1,h2,?_⟩⟩;generalize upd H3 F (.ext φ)=H4 at *;refine⟨F,b,ax,nJ x.1,.ref a,rfl,rfl,d4,on4,e1,a,_,rfl,.inr qa4,fun l hl=>?_⟩;have sl:=aq.new hl (.lst (x.2.map V.int));have VM:H l=none:=by
    cases y:H l with
    |none=>rfl
    |some ob=>rw[WB l ob (ai X2 hl).symm y] at hl;cases hl
   refine(q _ (WB.trans (.of sl)) (d4.mono sl)).2 x.2 l ?_ VM ae;have ef:f=f.take i++x::f.drop (i+1):=by
    rw[<- zak.mp hx |>.2,<- zbH il,zbB]
   rw[ef,ud,hn,zcu,jC,zzp hm]
  ·refine⟨_,rfl,(zzn (by rw[decide_eq_false hm];decide)).mpr ?_⟩;refine⟨_,rfl,S5,?_⟩;rw[zbG,hx,zby,ud,hn,zcu,jC,zzn hm,jC]
 ·intro σ Hx hv;obtain⟨z,rfl,sx,hn⟩:=hv;rw[lps,zaU] at hn;refine(gk _ _).mpr ?_;walk_at "r";show GP _ _ _ _;unfold GP;have yFx:=sx _ _ X4;obtain⟨φ,h1,h2,d4⟩:=fz.Vy yFx fun a xs h=>sx.a7 (WI _ _ h);have u4:aZ F Hx (upd Hx F (.ext φ)):=(aZ.refl _ _).put _;exact⟨F,o,φ,yFx,h1,h2,(q _ (uF.trans ((aZ.of sx).trans u4)) d4).1 hn⟩
theorem S6(T:Tx K mg t){c Pt:zdk}(B:ji K mg base c Pt)(hc:vk K t.bS c):bJ P w K mg base dw 30 t.GS t.vB ["script"] (A9 K Pt):=by
 have bw:=@uy P w _ _ base _ T;have yw:=@Fl P w _ _ base _ T;have g1:=@ox P w _ _ base _ T;have g2:=@Ar P w _ _ base _ T 4;have g3:=@G3 P w _ _ base _ T;have yx:=@Dv P w _ _ base _ T _ _ B hc g1 g2 g3;have IX:=@Fq P w _ _ base _ T;have wB:=@vG P w _ _ base _ T;have Dw:=@Bt P w _ _ base _ T;have Bx:=@zg P w _ _ base _ T;refine T.GU.F.lS L8 (fun vs H Q E h=>?_) (fun eS A outer s H vs Q E hr h=>?_)
 ·obtain⟨_,_,rfl,_⟩:=h;rfl
 obtain⟨a,ns,rfl,hS,h63,BP,q⟩:=h;have nd:=L8.nd;have hu:=dS hr;refine⟨_,[some (V.ref a),none,none,none,none,none,none,none,none,none,none],(ah (DT (i:=1) nd rfl (zcE rfl) (bu (ag (oV FW (pv 0) sX (sY aj)) (ag aj aa aP) aY)))
 (ah (rJ (da yw T.iY hr (bc 1 (ag (bf cJ (da bw T.bB hr (bc 1 aa)) aj) aa jb))) (AM rfl (bM (lY 2 nd) (bM (lY 3 nd) iA))))
 (ah (c5 4 nd (da Dw T.lM hr (bc 2 (bc 3 aa))))
 (ah (c5 5 nd (da Bx T.kb hr (bc 4 aa)))
 (ah (DT (i:=6) nd rfl (zcE rfl) (da IX T.qz hr (bc 2 aa)))
 (ah (c5 7 nd (bf Rl (bu (ag (aC a9 (pv 6) aj ao) (ag (aC a9 (pv 6) (vI oS aj) vO) aa aY) aY)) (hG (own:=["k"]) (ix:=[1,6]) rfl (by rfl) (by rfl) (ik rfl T.ju (ag aj aa aP)) (fun _ _ _ _=>(fZ (i:=0) (by show List.Nodup (["k", "deck", "some"]:List Str);decide +kernel) rfl (zbq rfl))) (fun _ _ _ _=>iC) (fun _ _ _ _=>(aC (Cz (K:=K) rfl) (pv 2) (bf cJ (da bw T.bB hr (bc 1 aa)) (bY (yV (K:=K) rfl) rfl T.g8 PyProof.Rows.Boot.«len» (bc 2 aa))) lT)))))
 (ah (du PassesOwn.never rfl (cI (pv 7)) (lY 8 nd)
 (ah (c5 9 nd (da wB T.ia hr (bc 4 (bc 5 (bc 8 aa)))))
 (ah (c5 10 nd (da yx T.kP hr (bc 2 (bc 8 aa))))
 (ak (bh (aD JD (pv 9) eU (aR _))
 (ak (bh (aD Az (pv 10) eU (aR _))
 (ak (aO sR))
 aV))
 (ah (bh (PW.pt (pw_or (DO (rG (bY Cc rfl T.ke PyProof.Rows.Boot.«isinstance» (bc 10 (ag (FF (v:=.ty "list") rfl T.sj PyProof.Rows.Boot.«list» rfl) aa jY))))) (pw_or1 (aD (Kt (NQ hr)) (pv 10) (pv 9) (aR _)))))
 (ak (aO sR))
 aV)
 (ah (bh (aD (kj (dS hr)) (hG (own:=["one"]) (ix:=[]) rfl (by rfl) (by rfl) (cI (pv 10)) (fun _ _ _ _=>(fZ (i:=0) (by show List.Nodup (["one"]:List Str);decide +kernel) rfl (zbq rfl))) (fun _ _ _ _=>(F1 (rG (bY (Ic (K:=K) rfl) rfl T.ke PyProof.Rows.Boot.«isinstance» (bc 0 (ag (FF (v:=.ty "bool") rfl T.E5 PyProof.Rows.Boot.«bool» rfl) aa jY)))))) (fun _ _ _ _=>(pv 0))) (bu aa) (aR _))
 (ak (aO sR))
 aV)
 (ah (bK (dv zaj zan zao bD (pv 10) (ag aj aa aP)))
 (ak (bh (aD (Kt (NQ hr)) (da yx T.kP hr (bc 2 (bc 8 aa))) (pv 9) (aR _))
 (ak (aO sR))
 aV))))))))))
 (ak (aO sR))))))))),rfl,?_⟩
 have line:zds=2 ^ 24:=rfl;refine av fun U1 eE=>?_;walk_at "r";refine⟨_,rfl,a,_,rfl,hS,fun S hS2 D hD=>(eE _ _).mpr ?_⟩;clear eE;rw[UL ns h63] at hD ⊢;have sA:=(aq.new hS2 (.lst (ns.map V.int))).trans (aq.new hD (.lst [V.ref S,V.int 0]));have nSD:S≠D:=ai ae hD;have Sm:H D=none:=Iq (aq.new hS2 (.lst (ns.map V.int))) hD;have dk:i6 K (upd (upd H S (.lst (ns.map V.int))) D (.lst [V.ref S,V.int 0])) D S ns 0:=⟨ae,by rw[aw nSD];exact ae,nSD,h63⟩
 generalize upd (upd H S (.lst (ns.map V.int))) D (.lst [V.ref S,V.int 0])=H1 at *;refine av fun U3 i3=>?_;walk_at "r";refine⟨D,S,ns,0,rfl,dk,by lia,fun H2 u2 y0=>⟨_,15,rfl,rfl,(by decide:(0:Int)<15),?_⟩⟩;have sB:aq H H2:=fun z o e=>u2 z o (ai e Sm) (sA z o e);have nxb:=jN ns 0;obtain⟨many,em⟩:∃many:Nat,PG.next ns 0%15=(many:Int):=⟨(PG.next ns 0%15).toNat,by lia⟩
 have lm:many<=14:=by lia
 simp only[em];refine⟨D,S,ns,1,many,rfl,y0,by decide,by lia,fun l3 pa B bb R H3 u3 qB h3 Sl nl np nB nbb nR fB fb fR=>?_⟩;have sC:aq H H3:=fun z o e=>u3 z o (ai e Sm) (sB z o e);have rl:=KA ns many 1;have tx:=HJ ns many 1;have dB:=Cn ns many 1;have fl:=zJ ns many 1;have dp:=NW ns many 1;have okp:=KJ ns many 1;have pw:=KI (zQ ns many 1).1;have pos:=(zQ ns many 1).2;have bun:=AR ns 1;have BX:=yR ns 1;have bfw:=HQ ns 1;have bf4:=Ba ns 1;rw[<- Eu ns many 1] at okp bun BX bfw bf4;generalize W5:b8 ns many 1=pr at *;obtain⟨pr,rows⟩:=pr;simp only at rl tx dB fl okp pw pos bun BX bfw bf4 fB fb fR;obtain⟨nbx,uZ⟩:=bun;have f28:(bV pr.body).length<=18:=by
  rw[fl];exact zaC (zc1 _ _) (by lia)
 have dr:iI pr:=⟨⟨pw,nbx,by lia,fun s hs=>by
  have:=pos (s.row,s.wd) (by rw[<- fQ];exact zaF.mpr ⟨s,hs,rfl⟩);exact this⟩,dB,by lia,okp,BX⟩
 have rp:∀ {H'},ba (·=D) H3 H'->Rep K H' (je pr) (.ref pa):=fun {H'} u=>by
  unfold je;exact Rep.bg.mpr ⟨pa,_,rfl,.of (u _ _ np Sl),.cons (fB _ u) (.cons (fb _ u) .nil)⟩
 have X6:bq pr<2000:=zbP (LQ f28 bf4 bfw) (by decide);refine⟨l3,_,rfl,.of h3,rfl,_,_,rfl,_,_,rfl,rfl,(i3 _ _).mpr (av fun U4 kg=>?_)⟩;clear i3;simp only[zaT];obtain⟨p3,DI,qB⟩:=qB;walk_at "r";refine⟨pa,R,D,_,pr,rows,rfl,qB.bF,dr,rp fun b o n e=>by rw[nH n];exact e,fR.rep,by lia,tx,fun md H4 s4 ma=>(kg _ _).mpr (av fun U5 uv=>?_)⟩;clear kg;walk_at "r";refine⟨md,pr,rfl,ma.mono qu,dr,X6,fun F ax H5 s5 hF d5 f5=>(uv _ _).mpr (av fun U6 yK=>?_)⟩;clear uv;walk_at "r";refine⟨.ref pa,pr,rfl,rp (.of (s4.trans s5)),dB,by lia,fun tl kh H6 s6 BU y6 r6=>(yK _ _).mpr (av fun U7 GX=>?_)⟩;clear yK;have X7:=s4.trans (s5.trans s6);have Jl:=qB.same X7;have ntl:tl≠D:=(ai ((s4.trans s5) _ _ qB.bF) BU).symm;have ltu:0<kh.length/\kh.length<=1000:=by
  rw[r6.length,zad];unfold Kv;rw[zae,zax];have k:∀l:List PG.Row,(l.flatMap Ti).length<=3*l.length:=fun l=>by
   induction l with
   |nil=>simp
   |cons a r ih=>rw[zaG,zae,zah];have:=Gi a;lia
  have:=k (bV pr.body);lia
 walk_at "r";simp only[jT];walk_at "r";have e0:kh[0]?=some kh[0]:=zac ltu.1;have el:kh[kh.length-1]?=some (kh[kh.length-1]'(by lia)):=zac (by lia);refine bz (.of y6) (v:=kh[0]) (au (j:=0) e0) ⟨1,rfl,bz (.of y6) (v:=kh[kh.length-1]'(by lia)) (Ow el) fun p hp=>⟨4,rfl,by decide,by decide,fun L hL=>?_⟩⟩;have s7:=aq.new hp (.lst [kh[0],kh[kh.length-1]'(by lia)]);have yp7:(upd H6 p (.lst [kh[0],kh[kh.length-1]'(by lia)])) p=_:=ae;have Xq:=Jl.same s7;generalize upd H6 p (.lst [kh[0],kh[kh.length-1]'(by lia)])=H7 at *;refine E3 (K:=K) (r:=[some (V.ref D),some (V.ref tl)]) (·∈kh) (by decide) hL Xq (fun i x H8 hi u8 d8 R2 hR=>?_) (fun vs H8 lv ov u8 ZL y8=>?_)
 ·walk_at "r";refine⟨D,S,ns,_,rfl,d8,by have hi:i<4:=hi;lia,fun H9 u9 d9=>?_⟩;have y9:=u9 _ _ ntl (u8 _ _ ntl (s7 _ _ y6));have nb:=zaP (PG.next ns (p3+i)) (b:=(kh.length:Int)) (by lia);have nl:=zaM (PG.next ns (p3+i)) (b:=(kh.length:Int)) (by lia);obtain⟨k,ek⟩:∃k:Nat,PG.next ns (p3+i)%(kh.length:Int)=(k:Int):=⟨_,(zdf nb).symm⟩
  have lk:k<kh.length:=by lia
  refine⟨tl,kh,rfl,.inl (.of y9),_,_,rfl,rfl,(by lia:(0:Int)<kh.length),?_⟩;show AF K (V.ref tl) (V.int (PG.next ns (p3+i)%(kh.length:Int))) H9 R2;rw[ek];exact bz (.of y9) (v:=kh[k]) (au (zac lk)) (hR _ _ (zau lk) u9 d9)
 have npD:p≠D:=(ai Jl.bF hp).symm;have lv:vs.length=4:=lv;refine⟨p,L,_,_,rfl,rfl,u8 _ _ npD yp7,y8,by show 2+vs.length<=zds;lia,fun aL QJ=>(GX _ _).mpr (av fun U8 SO=>?_)⟩;clear GX;have s9:=aq.new QJ (.lst ([kh[0],kh[kh.length-1]'(by lia)]++vs));have yA:(upd H8 aL (.lst ([kh[0],kh[kh.length-1]'(by lia)]++vs))) aL=_:=ae;have avm:∀y∈[kh[0],kh[kh.length-1]'(by lia)]++vs,y∈kh:=fun y hy=>by
  rcases zaz.mp hy with hy |hy
  ·rcases zag.mp hy with rfl |hy
   ·exact zau _
   ·rw[zar.mp hy];exact zau _
  ·exact ov y hy
 generalize ([kh[0],kh[kh.length-1]'(by lia)]++vs)=QL at *;have uB:aZ D H6 (upd H8 aL (.lst QL)):=(aZ.of s7).trans (u8.trans (.of s9));generalize upd H8 aL (.lst QL)=HB at *;have rpB:=rp ((ba.of X7).trans (ba.one uB rfl));have maB:eV K HB md pr:=ma.mono (Ir ((aZ.of (s5.trans s6)).trans uB));have d6:=d5.mono s6;have nFD:F≠D:=by obtain⟨φ,e⟩:=d6.nK;exact bU e Jl.bF (by intro z;cases z)
 have ttB:∀a xs,bQ K H6 a xs->bQ K HB a xs:=fun a xs h=>h.vg Jl.bF uB;have dFB:DS jO P w K HB F ax:=d6.Iu (fun o h=>uB _ _ nFD h) ttB;have fFB:=(f5.imp (H':=H6) fun a xs h=>s6.a7 h).imp ttB;have tgB:∀y∈QL,∃g,Rep K HB (eR g) y:=fun y hy=>by
  obtain⟨i,hi,rfl⟩:=zbW.mp (avm y hy);have li:i<(Kv (bV pr.body)).length:=by have:=r6.length;rw[zad] at this;lia
  obtain⟨v',DD,r⟩:=(Lv Jl.bF uB (GF _) r6).get (i:=i) (d:=eR (Kv (bV pr.body))[i]) (by rw[zam,zac li];rfl);rw[zac hi] at DD;cases DD;exact⟨_,r⟩
 have ZQ:Pt≠D:=ai BP Sm;have WK:=uB _ _ ZQ (X7 _ _ (sC _ _ BP));have TR:=C1 dr;clear ttB d6 uB s9 QJ y8 u8 ZL yp7 s7 hp hL Xq Jl rp sA sB sC u2 u3 X7 y6 r6 BU;refine fH fun U hU=>?_;walk_at "r";refine⟨⟨QL,.of yA⟩,hU _ _ ?_⟩;clear hU;obtain⟨Pv,mh,dQ⟩:=xW fun (i:Nat) (σ:St) (Hx:Hp) zq=>∀(z8 z9 BS:Option V) (ps:Array zdl),σ=[some (V.ref a),some (V.ref D),some (V.ref pa),some (V.ref R),some (V.ref md),some (V.ref F),some (V.ref tl),some (V.ref aL),z8,z9,BS]->Rep K Hx (je pr) (.ref pa)->eV K Hx md pr->DS jO P w K Hx F ax->eQ K Hx (cZ pr (jB pr)) ax->Hx aL=some (.lst QL)->(∀y∈QL,∃g,Rep K Hx (eR g) y)->Hx Pt=some (.rE ps)->TabOk "first_inputs.<locals>.<lambda>" (rX (iw aT)) Hx ps->zq;refine fG (K:=K) (a:=aL) (xs:=QL) Pv ((mh _ _ _ fun _ zk=>zk _ _ _ (#[]) rfl rpB maB dFB fFB yA tgB WK (.inl rfl))) (fun i σ Hx _ hv=>?_) ?_ ?_
 ·refine dQ _ _ _ hv _ fun _ _ _ _ _ _ _ _ _ y _ _ _=>?_;exact .of y
 ·intro i y σ Hx hi hv;clear rpB maB dFB fFB yA tgB WK;refine dQ _ _ _ hv _ fun z8 z9 BS ps kU rpx mx dx fx yAx tgx WL aa0=>?_;subst kU;clear hv;have hy:=zaI hi;obtain⟨g,rg⟩:=tgx y hy;simp only[eM,zaT];refine av fun V1 BQ=>?_;walk_at "r";obtain⟨φF,eF⟩:=dx.nK;refine⟨md,F,y,pr,g,cZ pr (jB pr),ax,rfl,mx,dr,dx,fx,TR.nd,TR.CY,rg,fun H1 u1 d1=>?_⟩;have nFP:F≠Pt:=bU eF WL (by intro z;cases z);have X8:=qv eF u1 _ _ rpx;have m1:=mx.ext eF u1;have f1:=fx.imp (H':=H1) fun a xs h=>h.lW eF u1;have yA1:=u1 _ _ (bU yAx eF (by intro z;cases z)) yAx;have tg1:∀y∈QL,∃g,Rep K H1 (eR g) y:=fun y hy=>let ⟨g,r⟩:=tgx y hy;⟨g,qv eF u1 _ _ r⟩;have MN:=u1 _ _ nFP.symm WL;have O8:=aa0.ds dx u1;have rg1:=qv eF u1 _ _ rg;have fin:∀(z8 z9 BS:Option V) (H2:Hp) (G7:Array zdl),Kp H1 H2->H2 Pt=some (.rE G7)->TabOk "first_inputs.<locals>.<lambda>" (rX (iw aT)) H2 G7->Pv (i+1) [some (V.ref a),some (V.ref D),some (V.ref pa),some (V.ref R),some (V.ref md),some (V.ref F),some (V.ref tl),some (V.ref aL),z8,z9,BS] H2:=fun z8 z9 BS H2 G7 k yP tk=>
   (mh _ _ _ fun _ zk=>zk z8 z9 BS G7 rfl (vq k _ _ X8) (m1.kp k) (d1.Iu (fun o h=>k _ _ h (by obtain⟨φ,e⟩:=d1.nK;rw[e] at h;cases h;intro _ z;cases z)) (fun b ys h=>h.kp k)) (f1.imp (fun a xs h=>h.kp k)) (k _ _ yA1 (by intro _ z;cases z)) (fun y hy=>let ⟨g,r⟩:=tg1 y hy;⟨g,vq k _ _ r⟩) yP tk)
  cases eg:jC pr (cZ pr (jB pr)) g with
  |none=>
   refine⟨fun _=>(BQ _ _).mpr (av fun V2 BR=>?_),fun g1 l e=>by cases e⟩;clear BQ;walk_at "r";refine⟨.ref pa,y,pr,g,ps,rfl,X8,rg1,dr,X6,MN,O8,fun H2 G7 u2 Du MM=>⟨fun _=>(BR _ _).mpr ?_,fun g1 l e=>by rw[eg] at e;cases e⟩⟩;clear BR;walk_at "r";exact(zzp trivial).mpr ((zzp trivial).mpr (fin _ _ _ H2 G7 (Kp.of u2 MN) Du MM))
  |some gs=>
   refine⟨fun e=>(by cases e),fun g1 ld e hld zw=>(BQ _ _).mpr (av fun V2 BR=>?_)⟩;clear BQ;cases e;walk_at "r";refine⟨.ref pa,y,pr,g,ps,rfl,X8,rg1,dr,X6,MN,O8,fun H2 G7 u2 Du MM=>⟨fun e=>(by rw[eg] at e;cases e),fun g1 lt e oC WM=>(BR _ _).mpr ?_⟩⟩;clear BR;rw[eg] at e;cases e;have k2:Kp H1 H2:=Kp.of u2 MN;have aa2:=k2 _ _ zw (by intro _ z;cases z);walk_at "r";simp only[jT];walk_at "r";have lgs:gs.length<=2002:=by
    obtain⟨x,hx,rfl⟩:=C8 pr _ _ eg;have:=IL dr x hx;lia
   refine b9 (fun z=>by cases z) (fun _=>⟨_, "list",_,true,rfl,.lst WM,by kernel_rfl,(zzn (by decide)).mpr ⟨_,_,tV (.of WM),tV (.of aa2),tW _,tW _,?_⟩⟩);rw[eqv_refl];refine⟨_,rfl,(zzn (by decide)).mpr ⟨⟨_,.of WM⟩,fun D1 Ts=>?_⟩⟩;refine xE (K:=K) (r:=[]) (fun _=>false) (fun _=>.cC) (.of WM) (by rw[zad];lia) Ts (fun i y hy H6 s6 R hR=>?_) (fun i x _ h=>zzb h zai) (fun H6 s6 h6 p7 uz=>?_)
   ·obtain⟨z,_,rfl⟩:=zaF.mp (zaI hy);walk_at "r";exact⟨_, "bool",_,false,rfl,.int _,by kernel_rfl,hR _ (aq.refl _)⟩
   have e4:∀n,((zaH n).filter fun _=>false).map (fun _=>V.cC)=[]:=fun n=>by simp
   rw[e4] at h6;have s7:=aq.new uz (.lst []);refine⟨D1,p7,[],rfl,rfl,.of (s7 _ _ h6),.of ae,(zzn (by decide)).mpr ?_⟩;have X9:=s6.trans s7;generalize upd H6 p7 (.lst [])=H7 at *;have S7:=X9 _ _ WM;refine⟨.inl ⟨rfl,_,.of S7⟩,lt,_,.int 3,rfl,rfl,S7,by rw[zad];lia,?_⟩;have u8:aZ lt H7 (upd H7 lt (.lst (gs.map V.int++[.int 3]))):=(aZ.refl _ _).put _;have k8:Kp H1 (upd H7 lt (.lst (gs.map V.int++[.int 3]))):=fun b o e n=>u8 _ _ (ai e oC) (X9 _ _ (k2 b o e n));have nPl:Pt≠lt:=ai MN oC;have Fs:=u8 _ _ nPl (X9 _ _ Du);have IW:=(MM.kp (.same X9)).up (H':=upd H7 lt (.lst (gs.map V.int++[.int 3]))) fun b φ e=>u8 _ _ (bU e S7 (by intro z;cases z)) e;generalize upd H7 lt (.lst (gs.map V.int++[.int 3]))=H8 at *;refine⟨.ref pa,y,pr,g,G7,rfl,vq k8 _ _ X8,vq k8 _ _ rg1,dr,X6,Fs,IW,fun H9 ps9 u9 aa3 aa4=>⟨fun e=>(by rw[eg] at e;cases e),fun g1 l9 e O6 yl9=>?_⟩⟩;rw[eg] at e;cases e;have k9:Kp H1 H9:=k8.trans (Kp.of u9 Fs);refine⟨_,_,tV (.of yl9),tV (.of (k9 _ _ zw (by intro _ z;cases z))),tW _,tW _,?_⟩;rw[eqv_refl];exact⟨_,rfl,(zzn (by decide)).mpr (fin _ _ _ H9 ps9 k9 aa3 aa4)⟩
 ·intro σ Hx hv;refine dQ _ _ _ hv _ fun z8 z9 BS ps kW _ _ _ _ _ _ _ _=>?_;subst kW;refine(SO _ _).mpr ?_;walk_at "r";exact q _
end
end R8
end
section
set_option maxHeartbeats 4000000
namespace R8
open PG
open PySem L2
section
variable{P:zdw}{w:zdm}{K:zaa}{mg:Str->Option zdl}{base:Heap}
theorem all_mk{l:PySem.W.OpenLaw}{h:Heap}{fa:zdk}(X:K.In h)(G:h.Ns zdr mg)(hfa:mg "law"=some (.ref fa))
 {sf dI dW fS ko gA cB nY mQ kJ kK um mS dJ iN mT kL iO dY bS iP fT dZ kM iQ iR iS gX gB jD mU jE cK fD gC jF cW gY kN fK iV fL GS:zdk}
 {aW:zdk}
 {df:zdk} {zh rh:Option zdk} {zi:Array (Option zdl)} {zj rj rm rq mf rz:zdl}
 {eL:zdk}
 {fV:zdk}
 {WN:_}
 {yy:_}
 {zl:_}
 (S8:FH K "flow" E4 sf)
 (yz:FH K "flow_of_body" kD dI)
 (Dx:FH K "first_row" pO dW)
 (zm:FH K "behind_body" lZ fS)
 (IY:FH K "ways_of" vw ko)
 (Dy:FH K "bodies_in" pP gA)
 (wC:FH K "statements_in" jQ cB)
 (Pc:FH K "worth" Bf nY)
 (IZ:FH K "word_at" vx mQ)
 (Fu:FH K "by_names" rY kJ)
 (Fv:FH K "in_order" rZ kK)
 (Pd:FH K "holds" Bg um)
 (I0:FH K "step_by" vy mS)
 (sM:FH K "behind_condition" ij dJ)
 (By:FH K "all_led_to" nN iN)
 (Ja:FH K "targets" vz mT)
 (Fw:FH K "shortest" r9 kL)
 (Bz:FH K "targets_at" nO iO)
 (uJ:FH K "shortest_inputs" iL dY)
 (qc:FH K "first_inputs" aT bS)
 (BA:FH K "found_from" nQ iP)
 (Jb:FH K "gone_on" iy fT)
 (Dz:FH K "_law_next" pQ dZ)
 (MO:FH K "_law_e" xX kM)
 (BB:FH K "_law_boxes" nT iQ)
 (BC:FH K "_law_plain" nU iR)
 (BD:FH K "_law_close" nV iS)
 (zo:FH K "_law_number" l0 gX)
 (yB:FH K "_law_program" kE gB)
 (DA:FH K "_law_ends" pR jD)
 (Jc:FH K "_law_to" vA mU)
 (DB:FH K "_law_ways" pS jE)
 (uK:FH K "_law_statements" iM cK)
 (BE:FH K "_law_worth" nW fD)
 (yE:FH K "_law_stepped" kF gC)
 (DC:FH K "_law_made" pT jF)
 (qd:FH K "_law_next_standing" gx cW)
 (zp:FH K "_law_is_ask" l5 gY)
 (Fx:FH K "_law_met" se kN)
 (wD:FH K "_law_till_ask" jR fK)
 (BF:FH K "_law_found" nX iV)
 (wF:FH K "_law_shortest" jS fL)
 (QM:FH K "law" L7 GS)
 (Pe:zaN K zdr "Chart"=some (some (.ref aW)))
 (MP:zcl K aW Str.empty=true)
 (MQ:zcd K aW=true)
 (MR:zcB K aW=true)
 (MS:zaS K (.ref aW) "__setattr__"=some (some (.builtin "object.__setattr__")))
 (BG:zaS K (.ref aW) "__init__"=some (some (.ref df)))
 (BH:K.lookup df=some ⟨zj,zh,.func (zbs "__init__" "Chart.__init__" (kY de) (hC de) (aJ de) .none rj rm rq rh mf rz),zi⟩)
 (BI:zb7 K mf "Chart.__init__"=true)
 (BJ:zbv K (.ref df)=true)
 (BK:PySem.W.isFn K (.ref df)=true)
 (yd:zcU K aW=true)
 (MT:zbv K (.ref aW)=true)
 (gF:zaS K (.ref aW) "names"=some none)
 (gG:zaS K (.ref aW) "sizes"=some none)
 (i0:zaS K (.ref aW) "first"=some none)
 (cN:zaS K (.ref aW) "statements"=some none)
 (fW:zaS K (.ref aW) "ways"=some none)
 (Fy:zaN K zdr "RowError"=some (some (.ref eL)))
 (ye:zdc K eL [.type "ValueError",.type "Exception",.type "BaseException",.type "object"] "ValueError.__new__"=true)
 (vY:zcw K (.ref eL) (.ref eL)=some true)
 (Jd:zaN K zdr "TooMany"=some (some (.ref fV)))
 (Ak:zdc K fV [.type "ValueError",.type "Exception",.type "BaseException",.type "object"] "ValueError.__new__"=true)
 (yf:zcw K (.ref fV) (.ref fV)=some true)
 (WO:zaN K zdr "END"=some (some (.int 0 WN)))
 (yF:zaN K zdr "FIGURE_COUNT"=some (some (.int 10 yy)))
 (zr:zaN K zdr "MOST_PLACES"=some (some (.int 2000 zl)))
 (g8:zaN K zdr "len"=some none)
 (ju:zaN K zdr "range"=some none)
 (E5:zaN K zdr "bool"=some none)
 (pX:zaN K zdr "dict"=some none)
 (sj:zaN K zdr "list"=some none)
 (uq:zaN K zdr "tuple"=some none)
 (Mb:zaN K zdr "max"=some none)
 (Mc:zaN K zdr "min"=some none)
 (ke:zaN K zdr "isinstance"=some none)
 (lN:zaN K zdr "enumerate"=some none)
 (Dd:zaN K zdr "zip"=some none)
 (ur:zaN K zdr "ValueError"=some none)
 {c Pt:zdk} (LI:zci K "first_inputs"=some (c,Pt)):∃fd:zdt,(∀(s:zdu) (v:zdl),BindsTo s fd ⟨[v],[]⟩ [("script",v)])/\∀base:Heap,K.In base->base.Ns zdr mg->ji K mg base c Pt->bJ l.prog w K mg base dw 30 fa fd ["script"] (A9 K Pt):=by
 have e:=hfa.symm.trans (zbE X G QM.1);cases e;obtain⟨qw,yc⟩:=lV X G S8 (ps:=["program"]) fun _ _ _ _ _ _=>GD fun _=>rfl;obtain⟨dR,gD⟩:=lV X G yz (ps:=["body", "behind"]) fun _ _ _ _ _ _=>yT fun _ _=>rfl;obtain⟨dX,fh⟩:=lV X G Dx (ps:=["body", "behind"]) fun _ _ _ _ _ _=>yT fun _ _=>rfl;obtain⟨gy,jt⟩:=lV X G zm (ps:=["statement", "after"]) fun _ _ _ _ _ _=>yT fun _ _=>rfl;obtain⟨kI,qx⟩:=lV X G IY (ps:=["statement", "after"]) fun _ _ _ _ _ _=>yT fun _ _=>rfl;obtain⟨gI,jG⟩:=lV X G Dy (ps:=["statement"]) fun _ _ _ _ _ _=>GD fun _=>rfl;obtain⟨cF,fM⟩:=lV X G wC (ps:=["body"]) fun _ _ _ _ _ _=>GD fun _=>rfl;obtain⟨mO,j7⟩:=lV X G Pc (ps:=["e", "values"]) fun _ _ _ _ _ _=>yT fun _ _=>rfl;obtain⟨nZ,kx⟩:=lV X G IZ (ps:=["chart", "row"]) fun _ _ _ _ _ _=>yT fun _ _=>rfl;obtain⟨lH,kO⟩:=lV X G Fu (ps:=["chart", "parts"]) fun _ _ _ _ _ _=>yT fun _ _=>rfl;obtain⟨lI,om⟩:=lV X G Fv (ps:=["chart", "named"]) fun _ _ _ _ _ _=>yT fun _ _=>rfl;obtain⟨uo,qy⟩:=lV X G Pd (ps:=["chart", "standing"]) fun _ _ _ _ _ _=>yT fun _ _=>rfl;obtain⟨n9,mV⟩:=lV X G I0 (ps:=["chart", "standing", "figure"]) fun _ _ _ _ _ _=>RP fun _ _ _=>rfl;obtain⟨eT,fE⟩:=lV X G sM (ps:=["chart", "standing"]) fun _ _ _ _ _ _=>yT fun _ _=>rfl;obtain⟨jk,gM⟩:=lV X G By (ps:=["chart", "standing"]) fun _ _ _ _ _ _=>yT fun _ _=>rfl;obtain⟨oa,qz⟩:=lV X G Ja (ps:=["program"]) fun _ _ _ _ _ _=>GD fun _=>rfl;obtain⟨lJ,kP⟩:=lV X G Fw (ps:=["program", "target"]) fun _ _ _ _ _ _=>yT fun _ _=>rfl;obtain⟨jm,j8⟩:=lV X G Bz (ps:=["chart", "standing"]) fun _ _ _ _ _ _=>yT fun _ _=>rfl;obtain⟨fC,gh⟩:=lV X G uJ (ps:=["chart"]) fun _ _ _ _ _ _=>GD fun _=>rfl;obtain⟨hJ,iW⟩:=lV X G qc (ps:=["chart"]) fun _ _ _ _ _ _=>GD fun _=>rfl;obtain⟨jn,gN⟩:=lV X G BA (ps:=["first", "led_from"]) fun _ _ _ _ _ _=>yT fun _ _=>rfl;obtain⟨og,mW⟩:=lV X G Jb (ps:=["place", "led_from", "figures", "found"]) fun _ _ _ _ _ _=>bn4 fun _ _ _ _=>rfl;obtain⟨eA,bB⟩:=lV X G Dz (ps:=["deck"]) fun _ _ _ _ _ _=>GD fun _=>rfl;obtain⟨kr,gE⟩:=lV X G MO (ps:=["deck", "boxes", "deep"]) fun _ _ _ _ _ _=>RP fun _ _ _=>rfl;obtain⟨jo,j9⟩:=lV X G BB (ps:=["deck"]) fun _ _ _ _ _ _=>GD fun _=>rfl;obtain⟨jq,ka⟩:=lV X G BC (ps:=["deck", "boxes", "k"]) fun _ _ _ _ _ _=>RP fun _ _ _=>rfl;obtain⟨jr,iX⟩:=lV X G BD (ps:=["pile"]) fun _ _ _ _ _ _=>GD fun _=>rfl;obtain⟨iT,gZ⟩:=lV X G zo (ps:=["boxes", "rows", "mode"]) fun _ _ _ _ _ _=>RP fun _ _ _=>rfl;obtain⟨hV,iY⟩:=lV X G yB (ps:=["deck", "many"]) fun _ _ _ _ _ _=>yT fun _ _=>rfl;obtain⟨j4,jH⟩:=lV X G DA (ps:=["rows"]) fun _ _ _ _ _ _=>GD fun _=>rfl;obtain⟨oh,ky⟩:=lV X G Jc (ps:=["rows", "matches", "at"]) fun _ _ _ _ _ _=>RP fun _ _ _=>rfl;obtain⟨j5,lL⟩:=lV X G DB (ps:=["rows"]) fun _ _ _ _ _ _=>GD fun _=>rfl;obtain⟨cS,eB⟩:=lV X G uK (ps:=["body"]) fun _ _ _ _ _ _=>GD fun _=>rfl;obtain⟨fU,cL⟩:=lV X G BE (ps:=["e", "values"]) fun _ _ _ _ _ _=>yT fun _ _=>rfl;obtain⟨hX,iZ⟩:=lV X G yE (ps:=["boxes", "statement", "ways", "values", "figure"]) fun _ _ _ _ _ _=>bn5 fun _ _ _ _ _=>rfl;obtain⟨j6,lM⟩:=lV X G DC (ps:=["program", "rows"]) fun _ _ _ _ _ _=>yT fun _ _=>rfl;obtain⟨dN,cX⟩:=lV X G qd (ps:=["made", "standing", "figure"]) fun _ _ _ _ _ _=>RP fun _ _ _=>rfl;obtain⟨iU,g7⟩:=lV X G zp (ps:=["made", "standing"]) fun _ _ _ _ _ _=>yT fun _ _=>rfl;obtain⟨lK,oo⟩:=lV X G Fx (ps:=["made", "standing"]) fun _ _ _ _ _ _=>yT fun _ _=>rfl;obtain⟨gJ,hZ⟩:=lV X G wD (ps:=["made", "standing"]) fun _ _ _ _ _ _=>yT fun _ _=>rfl;obtain⟨js,kb⟩:=lV X G BF (ps:=["made"]) fun _ _ _ _ _ _=>GD fun _=>rfl;obtain⟨gK,ia⟩:=lV X G wF (ps:=["made", "found", "target"]) fun _ _ _ _ _ _=>RP fun _ _ _=>rfl;obtain⟨vB,GU⟩:=lV X G QM (ps:=["script"]) fun _ _ _ _ _ _=>GD fun _=>rfl;have kc:=JT (st:=de) BH BI BJ;have BL:=kc.binds (ps:=["self", "program"]) fun _ _ _ _ _ _=>yT fun _ _=>rfl
 let t:Ad:=⟨sf,
  qw,
  dI,
  dR,
  dW,
  dX,
  fS,
  gy,
  ko,
  kI,
  gA,
  gI,
  cB,
  cF,
  nY,
  mO,
  mQ,
  nZ,
  kJ,
  lH,
  kK,
  lI,
  um,
  uo,
  mS,
  n9,
  dJ,
  eT,
  iN,
  jk,
  mT,
  oa,
  kL,
  lJ,
  iO,
  jm,
  dY,
  fC,
  bS,
  hJ,
  iP,
  jn,
  fT,
  og,
  dZ,
  eA,
  kM,
  kr,
  iQ,
  jo,
  iR,
  jq,
  iS,
  jr,
  gX,
  iT,
  gB,
  hV,
  jD,
  j4,
  mU,
  oh,
  jE,
  j5,
  cK,
  cS,
  fD,
  fU,
  gC,
  hX,
  jF,
  j6,
  cW,
  dN,
  gY,
  iU,
  kN,
  lK,
  fK,
  gJ,
  iV,
  js,
  fL,
  gK,
  fa,
  vB,
  df,
  zbs "__init__" "Chart.__init__" (kY de) (hC de) (aJ de) .none rj rm rq rh mf rz,
  aW,
  eL,
  fV⟩
 have T:Tx K mg t:=⟨yc,
  gD,
  fh,
  jt,
  qx,
  jG,
  fM,
  j7,
  kx,
  kO,
  om,
  qy,
  mV,
  fE,
  gM,
  qz,
  kP,
  j8,
  gh,
  iW,
  gN,
  mW,
  bB,
  gE,
  j9,
  ka,
  iX,
  gZ,
  iY,
  jH,
  ky,
  lL,
  eB,
  cL,
  iZ,
  lM,
  cX,
  g7,
  oo,
  hZ,
  kb,
  ia,
  GU,
  kc,
  BL,
  ⟨MP,MQ,MR,MS⟩,
  zbE X G Pe,
  ⟨yd,BG,BK,MT⟩,
  gF,
  gG,
  i0,
  cN,
  fW,
  ⟨ye⟩,
  vY,
  zbE X G Fy,
  ⟨Ak⟩,
  yf,
  zbE X G Jd,
  ⟨_,zbE X G WO,_,rfl⟩,
  ⟨_,zbE X G yF,_,rfl⟩,
  ⟨_,zbE X G zr,_,rfl⟩,
  zaR X G g8,
  zaR X G ju,
  zaR X G E5,
  zaR X G pX,
  zaR X G sj,
  zaR X G uq,
  zaR X G Mb,
  zaR X G Mc,
  zaR X G ke,
  zaR X G lN,
  zaR X G Dd,
  zaR X G ur⟩
 obtain⟨_,_,_,_,_,_,_,_,_,z,_⟩:=GU.F.ex;exact⟨t.vB,fun s v=>by rw[show t.vB=_ from z];exact .of_eq rfl,fun base _ _ B=>S6 T B (LJ LI qc.1)⟩
theorem walk{l:PySem.W.OpenLaw}{q:zdw}{loose:List Str}{XP:(Str->Option zdl)->Heap->Prop}{YP:zdm->Heap->Prop}{d dF:DefRec}{K:Params->zaa}{c Pt:zdk}(hn:l.most=some 63)(Uz:d.params.defaults=[])
 (hY:∀(w:zdm) (h:Heap),YP w h->(K w.params).In h) (LD:(PyProof.Rows.recsOf q).find? (fun e=>e.name==("first_inputs":Str))=some dF) (LI:∀w:zdm,zci (K w.params) "first_inputs"=some (c,Pt)) (Vr:∀w:zdm,(K w.params).lookup Pt=none)
 (F:∀(w:zdm) (mg:Str->Option zdl) (fa:zdk) (h:Heap),(K w.params).In h->h.Ns zdr mg->mg d.name=some (.ref fa)->
  ∃fd:zdt,(∀(s:zdu) (u:zdl),BindsTo s fd ⟨[u],[]⟩ [("script",u)])/\∀base:Heap,(K w.params).In base->base.Ns zdr mg->ji (K w.params) mg base c Pt->bJ l.prog w (K w.params) mg base dw 30 fa fd ["script"] (A9 (K w.params) Pt)) :
 PySem.W.WalkO q loose XP YP l.row.toRowW d [] (fun f vs=>PySem.call f vs):=
 L2.LH (n:=63) (k:=30) (x:="script") (CX:=fun _=>dw) (sp:=fun w=>A9 (K w.params) Pt) hn (by decide) Uz ⟨rfl,by decide,by decide⟩ hY LD LI Vr F (fun _ _ a ns hl hS hP=>⟨a,ns,rfl,hS,hl,hP,fun _=>rfl⟩) fun _ _ _ _ _ z=>z
end
end R8
end
namespace PySem.W.Fast
theorem tw13055781286668164705:True:=trivial
theorem tw8744547748445006670:True:=trivial
theorem tw7001355976876950812:True:=trivial
theorem tw6900070425794562620:True:=trivial
theorem tw17011565484679462875:True:=trivial
theorem tw1038888337713878914:True:=trivial
theorem tw11732704479998259287:True:=trivial
theorem tw12566394554909771079:True:=trivial
theorem tw15032912245284347633:True:=trivial
theorem tw14129984854563520629:True:=trivial
theorem tw9358799951543776975:True:=trivial
theorem tw7719665437279638790:True:=trivial
theorem tw11604748207306572412:True:=trivial
theorem tw11743600668339174621:True:=trivial
theorem tw4100860665182238451:True:=trivial
theorem tw11238148355666260684:True:=trivial
theorem tw17464549496817055608:True:=trivial
theorem tw13880564191140707721:True:=trivial
theorem tw1084332865619754977:True:=trivial
theorem tw7448723741499655971:True:=trivial
theorem tw17555144555629346848:True:=trivial
theorem tw3202248260789684663:True:=trivial
theorem tw14631499256911933647:True:=trivial
theorem tw9997703006858316191:True:=trivial
theorem tw1536589370590960237:True:=trivial
theorem tw17992136932318891458:True:=trivial
theorem tw17304157313308366637:True:=trivial
theorem tw4929546133478115000:True:=trivial
theorem tw4232259808543286921:True:=trivial
theorem tw1957015581027752151:True:=trivial
theorem tw8956003012160670001:True:=trivial
theorem tw17560044536023627749:True:=trivial
theorem tw2902283521774245078:True:=trivial
theorem tw5294839924486293909:True:=trivial
theorem tw3808500410653419477:True:=trivial
theorem tw9568136328009628766:True:=trivial
theorem tw10178146318030775908:True:=trivial
theorem tw12262167623493777405:True:=trivial
theorem tw15060026091389874194:True:=trivial
theorem tw1011397203336240617:True:=trivial
theorem tw6830381437312080920:True:=trivial
theorem tw2589331533752393935:True:=trivial
theorem tw12879661754961233234:True:=trivial
theorem tw8340769324805668035:True:=trivial
theorem tw5502100754598769364:True:=trivial
theorem tw12035238859779220942:True:=trivial
theorem tw10233593023665314479:True:=trivial
theorem tw10214834270806368123:True:=trivial
theorem tw9779239627295676613:True:=trivial
theorem tw11265145208097922412:True:=trivial
theorem tw7528373401194258564:True:=trivial
theorem tw2516401134090750105:True:=trivial
theorem tw13004127175794278965:True:=trivial
theorem tw16430914441270512986:True:=trivial
theorem tw8996642501452138558:True:=trivial
theorem tw284565595828166954:True:=trivial
theorem tw4631448620615126657:True:=trivial
theorem tw158596100471345231:True:=trivial
theorem tw1104194887609847594:True:=trivial
theorem tw2821035093245182680:True:=trivial
theorem tw14078047371451593951:True:=trivial
theorem tw4558894937389677745:True:=trivial
theorem tw15884981324661749559:True:=trivial
theorem tw8774094991313910023:True:=trivial
theorem tw7126343631116152696:True:=trivial
theorem tw4826062976659215091:True:=trivial
theorem tw4771935535541854950:True:=trivial
theorem tw17418321989972763965:True:=trivial
theorem tw2802702186754968975:True:=trivial
theorem tw13700484601713942312:True:=trivial
theorem tw8789678495219125708:True:=trivial
theorem tw3040375211553353162:True:=trivial
theorem tw1837740075362547790:True:=trivial
theorem tw13844357858326038066:True:=trivial
theorem tw16857139349175994677:True:=trivial
theorem tw4451804583710551618:True:=trivial
theorem tw8933650059547392583:True:=trivial
theorem tw12957682972189750353:True:=trivial
theorem tw2358117066184205313:True:=trivial
theorem tw417644231866764390:True:=trivial
theorem tw6601199452671201226:True:=trivial
theorem tw17519397657528547825:True:=trivial
theorem tw776313666613526152:True:=trivial
theorem tw13347404133891301062:True:=trivial
theorem tw16424284196961067315:True:=trivial
theorem tw13340093278512396820:True:=trivial
theorem tw10021698316246930451:True:=trivial
theorem tw6491808842310750122:True:=trivial
theorem tw11210045191272502345:True:=trivial
theorem tw1835952169992006262:True:=trivial
theorem tw2834577733057791250:True:=trivial
theorem tw3347175813321419554:True:=trivial
end PySem.W.Fast
end
open PySem PySem.W PyProof.Rows
set_option maxRecDepth 100000 in
set_option maxHeartbeats 0 in
theorem PySem.Challenge.cw_everyrow_k28_whole_shortest_inputs_holds : PySem.Challenge.rw_everyrow_k28_whole_shortest_inputs.Holds := by
 w_on; o_law; k_head; (case hw=>w_witness2)
 k_fill
 refine' R8.walk (l:=PySem.Challenge.rw_everyrow_k28_whole_shortest_inputs) (c:=193) (Pt:=189) rfl rfl (fun w h Y=>PySem.W.km_in_of Y) ?R ?T ?L ?F
 case R=>exact rfl
 case T=>exact fun w=>by kernel_rfl
 case L=>exact fun w=>by kernel_rfl
 case F=>
   intro w mg fa h KX G UA
   refine' R8.all_mk KX G UA ?_ ?_ ?_ ?_ ?_ ?_ ?_ ?_ ?_ ?_ ?_ ?_ ?_ ?_ ?_ ?_ ?_ ?_ ?_ ?_ ?_ ?_ ?_ ?_ ?_ ?_ ?_ ?_ ?_ ?_ ?_ ?_ ?_ ?_ ?_ ?_ ?_ ?_ ?_ ?_ ?_ ?_ ?_ ?_ ?_ ?_ ?_ ?_ ?_ ?_ ?_ ?_ ?_ ?_ ?_ ?_ ?_ ?_ ?_ ?_ ?_ ?_ ?_ ?_ ?_ ?_ ?_ ?_ ?_ ?_ ?_ ?_ ?_ ?_ ?_ ?_ ?_ ?_ ?_ ?_ ?_ ?tb
   rotate_left 59
   iterate 43 (refine' L2.FH.of ?a ?l ?c ?k; (case a=>k_is); (case l=>k_is); (case c=>k_is); (case k=>k_is))
   iterate 18 (k_is)
   iterate 1 (k_exc)
   iterate 1 (kts_exm)
   iterate 1 (k_is)
   iterate 1 (k_exc)
   iterate 1 (kts_exm)
   iterate 15 (k_is)
   (case tb=>kernel_rfl)
